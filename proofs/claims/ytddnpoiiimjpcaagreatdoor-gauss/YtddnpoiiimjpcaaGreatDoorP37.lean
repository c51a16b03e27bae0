/- The program's tables alone, where the document's side is not reached. -/
import Derived.Test.YtddnpoiiimjpcaaGreatDoorB05
import Derived.Test.YtddnpoiiimjpcaaGreatDoorP19
import Derived.Test.YtddnpoiiimjpcaaGreatDoorP24
set_option linter.defProp false
set_option maxRecDepth 100000
namespace Go.Proofs.YtddnpoiiimjpcaaGreatDoor
open Hs
open _root_.Go.Proofs.Tryz
open Go.RowKit Go.Lib
def DR{H:Type}{enc:TypeId × Value->H}{P:Program}{w:aH}{base:Nat}{r:Nat->Bool}{c:Bool}{fuel:Nat}{t e:TypeId}{n:Nat}{cs:List Value}{a:cO}{p:List MemPlace}
 (v:P.underlying t=some (.array n e)) (D:P.underlying e=some .string) (j:P.cellsOf e=1) (g:P.cellsOf t=n) (E:a.length=n)
 (h:DataW.trod enc P w base r c fuel t cs=some (.agg (a.map fun b=>.lit (.string b)),p)):cs=a.map fun b=>Value.string (bs b):=by
 obtain⟨k,m,rfl,A,d,q,f⟩:=DataW.trod_array v h;rw[g] at d;refine List.ext_getElem? fun i=>?_
 by_cases z:i<n
 ·have o:=f i z;rw[j,Nat.mul_one,Z8 (by omega)] at o
  obtain⟨s,B,y,_⟩:=DataW.trod_string D o;have C:k.map (·.1)=a.map fun b=>(DataW.lit (.string b):DataW H):=(DataW.agg.inj (Prod.mk.inj A).1).symm
  have l:(k.map (·.1))[i]?=(a.map fun b=>(DataW.lit (.string b):DataW H))[i]?:=by rw[C]
  rw[aa_,aa_,Z8 (by omega:i<k.length),Z8 (by omega:i<a.length),y] at l
  simp only[z8,Option.some.injEq,DataW.lit.injEq,Lit.string.injEq] at l;rw[aa_,Z8 (by omega:i<a.length)]
  have x:((cs.drop i).take 1)[0]?=some (.string s):=by rw[B];rfl
  have u:cs[i]?=some (.string s):=by simpa using x
  rw[u];simp only[z8,Option.some.injEq,Value.string.injEq];rw[<-l];rfl
 ·rw[j8 (by omega),j8 (by simp;omega)]
def oR{P:Program}{w:aH}{n:String}{g:Nat}{cs:Array Value}(b:P.globalNamed n=some g)(h:w.var? P n=some cs):∃t a,w.heap[g]?=some (.cells cs t a):=by
 simp only[World.var?,b,Option.bind_some] at h;split at h
 ·next cs' t a hb=>cases h;exact⟨t,a,hb⟩
 ·cases h
def QE{w:aH}{k:String}{g t n:Nat}{a:cO}(m:prog.globalNamed k=some g)(q:(prog.globals[g]?).map (·.type)=some t)(v:prog.underlying t=some (.array n 9))(c:prog.cellsOf t=n)(u:a.length=n)
 (h:VarReads prog w k (.agg (a.map fun b=>.lit (.string b)))):∃f d,w.heap[g]?=some (.cells (a.map fun b=>Value.string (bs b)).toArray f d):=by
 obtain⟨y,z,s,fuel,p,i,j,x,o⟩:=h;obtain rfl:=Option.some.inj (m.symm.trans i);obtain rfl:=Option.some.inj (q.symm.trans j);obtain⟨f,d,r⟩:=oR m x;have:=DR v underlying9 (by kernel_rfl) c u o
 obtain⟨l⟩:=s;have e:l=a.map fun b=>Value.string (bs b):=this
 subst e;exact⟨f,d,r⟩
def O1:prog.globalNamed "hindsight/syntax.marks"=some 6:=by kernel_rfl
def UJ:prog.globalNamed "strconv.ErrRange"=some 8:=by kernel_rfl
def U2:prog.globalNamed "math/bits.deBruijn64tab"=some 3:=by kernel_rfl
def K3:(prog.globals[(6:Nat)]?).map (·.type)=some 329:=by kernel_rfl
def K2:(prog.globals[(8:Nat)]?).map (·.type)=some 302:=by kernel_rfl
def c_21:prog.cellsOf 329=21:=by kernel_rfl
def P0:(Rows.laid_hindsight_syntax_marks:DataW Unit)=.agg (cR.map fun b=>.lit (.string b)):=rfl
def G3:(Rows.laid_unicode_utf8_acceptRanges:DataW Unit)=acceptData:=by kernel_rfl
def P2:Rows.laid_unicode_utf8_first=firstData:=Pinned.utf8First_eq
def R5:Shelf.Ren:=⟨fun x=>x,fun n=>if n=5 then 5 else if n=119 then 323 else if n=138 then 325 else 326,fun n=>if n=3 then 4 else 5⟩
def J9:U8Types prog R5:=⟨underlying5,underlying323,underlying325,underlying326⟩
def K1:U8Extra prog R5:=⟨by kernel_rfl,by kernel_rfl,by kernel_rfl,by kernel_rfl,by kernel_rfl,by kernel_rfl,by kernel_rfl⟩
def W7:prog.globalNamed "internal/strconv.uint64pow10"=some 0:=by kernel_rfl
def V8:(prog.globals[(0:Nat)]?).map (·.type)=some 243:=by kernel_rfl
def W8:(Rows.laid_internal_strconv_uint64pow10:DataW Unit)=Lib.tabData .u64 Lib.pow10Tab:=by kernel_rfl
def iF(w:aH):Prop:=laidMet prog Rows.gaussRow.laid w
def iF.big{w:aH}(h:iF w):9<=w.heap.size:=by
 obtain⟨g,t,y,fuel,p,x,v,q,s⟩:=Lib.laidMet.reads h (n:= "math/bits.deBruijn64tab") (d:=Rows.laid_math_bits_deBruijn64tab) (by simp[Rows.gaussRow])
 obtain⟨B,A,f⟩:=oR U2 q;obtain⟨z,u,m,c,C,k,l,b,r⟩:=Lib.laidMet.reads h (n:= "strconv.ErrRange") (d:=Rows.laid_strconv_ErrRange) (by simp[Rows.gaussRow])
 obtain⟨j,o,a⟩:=oR UJ b;rcases l6 (3:Nat) w.heap.size with i|i
 ·rcases l6 (8:Nat) w.heap.size with e|e
  ·omega
  ·rw[r8 e] at a;cases a
 ·rw[r8 i] at f;cases f
def iF.marks{w:aH}(h:iF w):∃a c,w.heap[(6:Nat)]?=some (.cells (cR.map fun b=>Value.string (bs b)).toArray a c):=
 QE O1 K3 underlying329 c_21 rfl (P0▸Lib.laidMet.reads h (n:= "hindsight/syntax.marks") (by simp[Rows.gaussRow]))
def iF.range{w:aH}(h:iF w):∃j f,w.cell? (aL 8 0)=some (.iface j f):=by
 obtain⟨g,t,i,fuel,p,a,c,k,b⟩:=Lib.laidMet.reads h (n:= "strconv.ErrRange") (d:=Rows.laid_strconv_ErrRange) (by simp[Rows.gaussRow])
 obtain rfl:=Option.some.inj (UJ.symm.trans a);obtain rfl:=Option.some.inj (K2.symm.trans c);obtain⟨m,u,v,e,q,o⟩:=iface_of_trod underlying302 b;obtain⟨l⟩:=i;obtain rfl:l=_:=e;exact⟨u,v,by simpa using World.var?_cell a k 0⟩
def iF.utf8{w:aH}(h:iF w):Lib.Utf8Tabs 4 5 w:=
 utf8Tabs_of_readsT J9 K1 (P2▸Lib.laidMet.reads h (n:= "unicode/utf8.first") (by simp[Rows.gaussRow])) (G3▸Lib.laidMet.reads h (n:= "unicode/utf8.acceptRanges") (by simp[Rows.gaussRow]))
def iF.all{w:aH}(h:iF w):lD w:=by
 obtain⟨b,c,a⟩:=h.marks;exact⟨⟨h.range,h.big⟩,⟨⟨b,c,a⟩,h.big⟩,h.utf8⟩
def iF.pow{w:aH}(h:iF w):lB w:=by
 obtain⟨g,t,i,fuel,p,f,c,b,a⟩:=Lib.laidMet.reads h (n:= "internal/strconv.uint64pow10") (d:=Rows.laid_internal_strconv_uint64pow10) (by simp[Rows.gaussRow])
 obtain rfl:=Option.some.inj (W7.symm.trans f);obtain rfl:=Option.some.inj (V8.symm.trans c);rw[W8] at a;have e:=Lib.cells_of_tab underlying243 underlying162 (by kernel_rfl) (by kernel_rfl) a
 unfold lB Lib.TabIs;rw[b,<-e]
end Go.Proofs.YtddnpoiiimjpcaaGreatDoor
