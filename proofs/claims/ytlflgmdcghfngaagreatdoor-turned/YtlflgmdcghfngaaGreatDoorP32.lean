/- The program's tables alone, where the document's side is not reached. -/
import Derived.Test.YtlflgmdcghfngaaGreatDoorB04
import Derived.Test.YtlflgmdcghfngaaGreatDoorP13
set_option linter.defProp false
set_option maxRecDepth 100000
namespace Go.Proofs.YtlflgmdcghfngaaGreatDoor
open Hs
open _root_.Go.Proofs.Tryz
open Go.RowKit Go.Lib
variable{w:aG}
def JF{H:Type}{enc:TypeId × Value->H}{P:Program}{b_:Nat}{r:Nat->Bool}{c:Bool}{fuel:Nat}{t e:TypeId}{n:Nat}{cs:List Value}{a:cN}{p:List MemPlace}
 (v:P.underlying t=some (.array n e)) (D:P.underlying e=some .string) (j:P.cellsOf e=1) (g:P.cellsOf t=n) (E:a.length=n)
 (h:DataW.trod enc P w b_ r c fuel t cs=some (.agg (a.map λb=>.lit (.string b)),p)):cs=a.map λb=>Value.string (bs b):=by
 obtain⟨k,m,rfl,A,d,q,f⟩:=DataW.trod_array v h;rw[g] at d;refine List.ext_getElem? λi=>?_
 by_cases z:i<n
 ·have o:=f i z;rw[j,jo,fh o_] at o
  obtain⟨s,B,y,_⟩:=DataW.trod_string D o;have C:k.map (·.1)=a.map λb=>(DataW.lit (.string b):DataW H):=(DataW.agg.inj (Prod.mk.inj A).1).symm
  have l:(k.map (·.1))[i]?=(a.map λb=>(DataW.lit (.string b):DataW H))[i]?:=by rw[C]
  rw[ji,ji,fh (by omega:i<k.length),fh (by omega:i<a.length),y] at l
  simp only[ir,Option.some.injEq,DataW.lit.injEq,Lit.string.injEq] at l;rw[ji,fh (by omega:i<a.length)]
  have x:((cs.drop i).take 1)[0]?=some (.string s):=by rw[B];rfl
  have u:cs[i]?=some (.string s):=by simpa using x
  rw[u];simp only[ir,Option.some.injEq,Value.string.injEq];rw[<-l];rfl
 ·rw[gp o_,gp t_]
def qV{P:Program}{n:String}{g:Nat}{cs:Array Value}(b:P.globalNamed n=some g)(h:w.var? P n=some cs):∃t a,w.heap[g]?=some (.cells cs t a):=by
 simp only[World.var?,b,Option.bind_some] at h;split at h
 ·next cs' t a hb=>cases h;exact⟨t,a,hb⟩
 ·cases h
def WR{k:String}{g t n:Nat}{a:cN}(m:prog.globalNamed k=some g)(q:(prog.globals[g]?).map (·.type)=some t)(v:prog.underlying t=some (.array n 9))(c:prog.cellsOf t=n)(u:a.length=n)
 (h:VarReads prog w k (.agg (a.map λb=>.lit (.string b)))):∃f d,w.heap[g]?=some (.cells (a.map λb=>Value.string (bs b)).toArray f d):=by
 obtain⟨y,z,s,fuel,p,i,j,x,o⟩:=h;obtain rfl:=Option.some.inj (m.symm.trans i);obtain rfl:=Option.some.inj (q.symm.trans j);obtain⟨f,d,r⟩:=qV m x;have:=JF v underlying9 k_ c u o
 obtain⟨l⟩:=s;have e:l=a.map λb=>Value.string (bs b):=this
 subst e;exact⟨f,d,r⟩
def b7_:prog.globalNamed "hindsight/syntax.marks"=some 3:=k_
def F8:prog.globalNamed "strconv.ErrRange"=some 8:=k_
def cT_:prog.globalNamed "math/bits.deBruijn64tab"=some 6:=k_
def bm_:(prog.globals[(3:Nat)]?).map (·.type)=some 320:=k_
def bl_:(prog.globals[(8:Nat)]?).map (·.type)=some 295:=k_
def c_21:prog.cellsOf 320=21:=k_
def cf_:(Rows.laid_hindsight_syntax_marks:DataW Unit)=.agg (cX.map λb=>.lit (.string b)):=rfl
def aN_:(Rows.laid_unicode_utf8_acceptRanges:DataW Unit)=acceptData:=k_
def cg_:Rows.laid_unicode_utf8_first=firstData:=Pinned.utf8First_eq
def cB_:Shelf.Ren:=⟨λx=>x,λn=>if n=5 then 5 else if n=119 then 314 else if n=138 then 316 else 317,λn=>if n=3 then 1 else 2⟩
def bj_:U8Types prog cB_:=⟨underlying5,underlying314,underlying316,underlying317⟩
def bk_:U8Extra prog cB_:=⟨k_,k_,k_,k_,k_,k_,k_⟩
def dc_:prog.globalNamed "internal/strconv.uint64pow10"=some 4:=k_
def c8_:(prog.globals[(4:Nat)]?).map (·.type)=some 331:=k_
def dd_:(Rows.laid_internal_strconv_uint64pow10:DataW Unit)=Lib.tabData .u64 Lib.pow10Tab:=k_
def iV(w:aG):Prop:=laidMet prog Rows.turnedRow.laid w
def iV.big(h:iV w):9<=w.heap.size:=by
 obtain⟨g,t,y,fuel,p,x,v,q,s⟩:=Lib.laidMet.reads h (n:= "math/bits.deBruijn64tab") (d:=Rows.laid_math_bits_deBruijn64tab) (by simp[Rows.turnedRow])
 obtain⟨B,A,f⟩:=qV cT_ q;obtain⟨z,u,m,c,C,k,l,b,r⟩:=Lib.laidMet.reads h (n:= "strconv.ErrRange") (d:=Rows.laid_strconv_ErrRange) (by simp[Rows.turnedRow])
 obtain⟨j,o,a⟩:=qV F8 b;rcases fu (6:Nat) w.heap.size with i|i
 ·rcases fu (8:Nat) w.heap.size with e|e
  ·omega
  ·rw[ik e] at a;cases a
 ·rw[ik i] at f;cases f
def iV.marks(h:iV w):∃a c,w.heap[(3:Nat)]?=some (.cells (cX.map λb=>Value.string (bs b)).toArray a c):=
 WR b7_ bm_ underlying320 c_21 rfl (cf_▸Lib.laidMet.reads h (n:= "hindsight/syntax.marks") (by simp[Rows.turnedRow]))
def iV.range(h:iV w):∃j f,w.cell? (aH 8 0)=some (.iface j f):=by
 obtain⟨g,t,i,fuel,p,a,c,k,b⟩:=Lib.laidMet.reads h (n:= "strconv.ErrRange") (d:=Rows.laid_strconv_ErrRange) (by simp[Rows.turnedRow])
 obtain rfl:=Option.some.inj (F8.symm.trans a);obtain rfl:=Option.some.inj (bl_.symm.trans c);obtain⟨m,u,v,e,q,o⟩:=iface_of_trod underlying295 b;obtain⟨l⟩:=i;obtain rfl:l=_:=e;exact⟨u,v,by simpa using World.var?_cell a k 0⟩
def iV.utf8(h:iV w):Lib.Utf8Tabs 1 2 w:=
 utf8Tabs_of_readsT bj_ bk_ (cg_▸Lib.laidMet.reads h (n:= "unicode/utf8.first") (by simp[Rows.turnedRow])) (aN_▸Lib.laidMet.reads h (n:= "unicode/utf8.acceptRanges") (by simp[Rows.turnedRow]))
def iV.all(h:iV w):fX w:=by
 obtain⟨b,c,a⟩:=h.marks;exact⟨⟨h.range,h.big⟩,⟨⟨b,c,a⟩,h.big⟩,h.utf8⟩
def iV.pow(h:iV w):kE w:=by
 obtain⟨g,t,i,fuel,p,f,c,b,a⟩:=Lib.laidMet.reads h (n:= "internal/strconv.uint64pow10") (d:=Rows.laid_internal_strconv_uint64pow10) (by simp[Rows.turnedRow])
 obtain rfl:=Option.some.inj (dc_.symm.trans f);obtain rfl:=Option.some.inj (c8_.symm.trans c);rw[dd_] at a;have e:=Lib.cells_of_tab underlying331 underlying260 k_ k_ a
 unfold kE Lib.TabIs;rw[b,<-e]
end Go.Proofs.YtlflgmdcghfngaaGreatDoor
