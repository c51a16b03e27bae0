/- The program's tables alone, where the document's side is not reached. -/
import Derived.Test.YtmjbnmpamlainaaGreatDoorB05
import Derived.Test.YtmjbnmpamlainaaGreatDoorP11
set_option linter.defProp false
set_option maxRecDepth 100000
namespace Go.Proofs.YtmjbnmpamlainaaGreatDoor
open Hs
open _root_.Go.Proofs.Tryz
open Go.RowKit Go.Lib
def ID{H:Type}{enc:TypeId × Value->H}{P:Program}{w:aG}{base:Nat}{r:Nat->Bool}{c:Bool}{fuel:Nat}{t e:TypeId}{n:Nat}{cs:List Value}{a:cN}{p:List MemPlace}
 (v:P.underlying t=some (.array n e)) (D:P.underlying e=some .string) (j:P.cellsOf e=1) (g:P.cellsOf t=n) (E:a.length=n)
 (h:DataW.trod enc P w base r c fuel t cs=some (.agg (a.map fun b=>.lit (.string b)),p)):cs=a.map fun b=>Value.string (bs b):=by
 obtain⟨k,m,rfl,A,d,q,f⟩:=DataW.trod_array v h;rw[g] at d;refine List.ext_getElem? fun i=>?_
 by_cases z:i<n
 ·have o:=f i z;rw[j,dW_,cz_ (by omega)] at o
  obtain⟨s,B,y,_⟩:=DataW.trod_string D o;have C:k.map (·.1)=a.map fun b=>(DataW.lit (.string b):DataW H):=(DataW.agg.inj (Prod.mk.inj A).1).symm
  have l:(k.map (·.1))[i]?=(a.map fun b=>(DataW.lit (.string b):DataW H))[i]?:=by rw[C]
  rw[dw_,dw_,cz_ (by omega:i<k.length),cz_ (by omega:i<a.length),y] at l
  simp only[du_,Option.some.injEq,DataW.lit.injEq,Lit.string.injEq] at l;rw[dw_,cz_ (by omega:i<a.length)]
  have x:((cs.drop i).take 1)[0]?=some (.string s):=by rw[B];rfl
  have u:cs[i]?=some (.string s):=by simpa using x
  rw[u];simp only[du_,Option.some.injEq,Value.string.injEq];rw[<-l];rfl
 ·rw[cV_ (by omega),cV_ (by simp;omega)]
def qL{P:Program}{w:aG}{n:String}{g:Nat}{cs:Array Value}(b:P.globalNamed n=some g)(h:w.var? P n=some cs):∃t a,w.heap[g]?=some (.cells cs t a):=by
 simp only[World.var?,b,Option.bind_some] at h;split at h
 ·next cs' t a hb=>cases h;exact⟨t,a,hb⟩
 ·cases h
def UR{w:aG}{k:String}{g t n:Nat}{a:cN}(m:prog.globalNamed k=some g)(q:(prog.globals[g]?).map (·.type)=some t)(v:prog.underlying t=some (.array n 9))(c:prog.cellsOf t=n)(u:a.length=n)
 (h:VarReads prog w k (.agg (a.map fun b=>.lit (.string b)))):∃f d,w.heap[g]?=some (.cells (a.map fun b=>Value.string (bs b)).toArray f d):=by
 obtain⟨y,z,s,fuel,p,i,j,x,o⟩:=h;obtain rfl:=Option.some.inj (m.symm.trans i);obtain rfl:=Option.some.inj (q.symm.trans j);obtain⟨f,d,r⟩:=qL m x;have:=ID v underlying9 (by kernel_rfl) c u o
 obtain⟨l⟩:=s;have e:l=a.map fun b=>Value.string (bs b):=this
 subst e;exact⟨f,d,r⟩
def aP_:prog.globalNamed "hindsight/syntax.marks"=some 3:=by kernel_rfl
def ZG:prog.globalNamed "strconv.ErrRange"=some 8:=by kernel_rfl
def bB_:prog.globalNamed "math/bits.deBruijn64tab"=some 6:=by kernel_rfl
def y7:(prog.globals[(3:Nat)]?).map (·.type)=some 308:=by kernel_rfl
def y6:(prog.globals[(8:Nat)]?).map (·.type)=some 292:=by kernel_rfl
def c_21:prog.cellsOf 308=21:=by kernel_rfl
def aX_:(Rows.laid_hindsight_syntax_marks:DataW Unit)=.agg (cX.map fun b=>.lit (.string b)):=rfl
def i7:(Rows.laid_unicode_utf8_acceptRanges:DataW Unit)=acceptData:=by kernel_rfl
def aY_:Rows.laid_unicode_utf8_first=firstData:=Pinned.utf8First_eq
def bj_:Shelf.Ren:=⟨fun x=>x,fun n=>if n=5 then 5 else if n=119 then 302 else if n=138 then 304 else 305,fun n=>if n=3 then 1 else 2⟩
def x6:U8Types prog bj_:=⟨underlying5,underlying302,underlying304,underlying305⟩
def x9:U8Extra prog bj_:=⟨by kernel_rfl,by kernel_rfl,by kernel_rfl,by kernel_rfl,by kernel_rfl,by kernel_rfl,by kernel_rfl⟩
def bV_:prog.globalNamed "internal/strconv.uint64pow10"=some 4:=by kernel_rfl
def bR_:(prog.globals[(4:Nat)]?).map (·.type)=some 319:=by kernel_rfl
def bW_:(Rows.laid_internal_strconv_uint64pow10:DataW Unit)=Lib.tabData .u64 Lib.pow10Tab:=by kernel_rfl
def iU(w:aG):Prop:=laidMet prog Rows.lastingRow.laid w
def iU.big{w:aG}(h:iU w):9<=w.heap.size:=by
 obtain⟨g,t,y,fuel,p,x,v,q,s⟩:=Lib.laidMet.reads h (n:= "math/bits.deBruijn64tab") (d:=Rows.laid_math_bits_deBruijn64tab) (by simp[Rows.lastingRow])
 obtain⟨B,A,f⟩:=qL bB_ q;obtain⟨z,u,m,c,C,k,l,b,r⟩:=Lib.laidMet.reads h (n:= "strconv.ErrRange") (d:=Rows.laid_strconv_ErrRange) (by simp[Rows.lastingRow])
 obtain⟨j,o,a⟩:=qL ZG b;rcases cR_ (6:Nat) w.heap.size with i|i
 ·rcases cR_ (8:Nat) w.heap.size with e|e
  ·omega
  ·rw[dc_ e] at a;cases a
 ·rw[dc_ i] at f;cases f
def iU.marks{w:aG}(h:iU w):∃a c,w.heap[(3:Nat)]?=some (.cells (cX.map fun b=>Value.string (bs b)).toArray a c):=
 UR aP_ y7 underlying308 c_21 rfl (aX_▸Lib.laidMet.reads h (n:= "hindsight/syntax.marks") (by simp[Rows.lastingRow]))
def iU.range{w:aG}(h:iU w):∃j f,w.cell? (aH 8 0)=some (.iface j f):=by
 obtain⟨g,t,i,fuel,p,a,c,k,b⟩:=Lib.laidMet.reads h (n:= "strconv.ErrRange") (d:=Rows.laid_strconv_ErrRange) (by simp[Rows.lastingRow])
 obtain rfl:=Option.some.inj (ZG.symm.trans a);obtain rfl:=Option.some.inj (y6.symm.trans c);obtain⟨m,u,v,e,q,o⟩:=iface_of_trod underlying292 b;obtain⟨l⟩:=i;obtain rfl:l=_:=e;exact⟨u,v,by simpa using World.var?_cell a k 0⟩
def iU.utf8{w:aG}(h:iU w):Lib.Utf8Tabs 1 2 w:=
 utf8Tabs_of_readsT x6 x9 (aY_▸Lib.laidMet.reads h (n:= "unicode/utf8.first") (by simp[Rows.lastingRow])) (i7▸Lib.laidMet.reads h (n:= "unicode/utf8.acceptRanges") (by simp[Rows.lastingRow]))
def iU.all{w:aG}(h:iU w):gS w:=by
 obtain⟨b,c,a⟩:=h.marks;exact⟨⟨h.range,h.big⟩,⟨⟨b,c,a⟩,h.big⟩,h.utf8⟩
def iU.pow{w:aG}(h:iU w):kM w:=by
 obtain⟨g,t,i,fuel,p,f,c,b,a⟩:=Lib.laidMet.reads h (n:= "internal/strconv.uint64pow10") (d:=Rows.laid_internal_strconv_uint64pow10) (by simp[Rows.lastingRow])
 obtain rfl:=Option.some.inj (bV_.symm.trans f);obtain rfl:=Option.some.inj (bR_.symm.trans c);rw[bW_] at a;have e:=Lib.cells_of_tab underlying319 underlying267 (by kernel_rfl) (by kernel_rfl) a
 unfold kM Lib.TabIs;rw[b,<-e]
end Go.Proofs.YtmjbnmpamlainaaGreatDoor
