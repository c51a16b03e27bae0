/- What the row's condition on package-level variables gives the contracts: their tables. -/
import Derived.Test.YtblbkfdhjfppkaaGreatDoorB08
import Derived.Test.YtblbkfdhjfppkaaGreatDoorP15
import Derived.Test.YtblbkfdhjfppkaaGreatDoorP12
set_option linter.defProp false
set_option maxRecDepth 100000
namespace Go.Proofs.YtblbkfdhjfppkaaGreatDoor
open Hs
open _root_.Go.Proofs.Tryz
open Go.RowKit Go.Lib
def EY{H:Type}{enc:TypeId × Value->H}{P:Program}{w:World}{base:Nat}{r:Nat->Bool}{c:Bool}{fuel:Nat}{t e:TypeId}{n:Nat}{cs:List Value}{a:List (List UInt8)}{p:List MemPlace}
 (v:P.underlying t=some (.array n e)) (D:P.underlying e=some .string) (j:P.cellsOf e=1) (g:P.cellsOf t=n) (E:a.length=n)
 (h:DataW.trod enc P w base r c fuel t cs=some (.agg (a.map fun b=>.lit (.string b)),p)):cs=a.map fun b=>Value.string (bs b):=by
 obtain⟨k,m,rfl,A,d,q,f⟩:=DataW.trod_array v h;rw[g] at d;refine List.ext_getElem? fun i=>?_
 by_cases z:i<n
 ·have o:=f i z;rw[j,b4_,aH_ (by omega)] at o
  obtain⟨s,B,y,_⟩:=DataW.trod_string D o;have C:k.map (·.1)=a.map fun b=>(DataW.lit (.string b):DataW H):=(DataW.agg.inj (Prod.mk.inj A).1).symm
  have l:(k.map (·.1))[i]?=(a.map fun b=>(DataW.lit (.string b):DataW H))[i]?:=by rw[C]
  rw[bw_,bw_,aH_ (by omega:i<k.length),aH_ (by omega:i<a.length),y] at l
  simp only[bE_,Option.some.injEq,DataW.lit.injEq,Lit.string.injEq] at l;rw[bw_,aH_ (by omega:i<a.length)]
  have x:((cs.drop i).take 1)[0]?=some (.string s):=by rw[B];rfl
  have u:cs[i]?=some (.string s):=by simpa using x
  rw[u];simp only[bE_,Option.some.injEq,Value.string.injEq];rw[<-l];rfl
 ·rw[a4_ (by omega),a4_ (by simp;omega)]
def oZ{P:Program}{w:World}{n:String}{g:Nat}{cs:Array Value}(b:P.globalNamed n=some g)(h:w.var? P n=some cs):∃t a,w.heap[g]?=some (.cells cs t a):=by
 simp only[World.var?,b,Option.bind_some] at h;split at h
 ·next cs' t a hb=>cases h;exact⟨t,a,hb⟩
 ·cases h
def SK{w:World}{k:String}{g t n:Nat}{a:List (List UInt8)}(m:prog.globalNamed k=some g)(q:(prog.globals[g]?).map (·.type)=some t)(v:prog.underlying t=some (.array n 9))(c:prog.cellsOf t=n)(u:a.length=n)
 (h:VarReads prog w k (.agg (a.map fun b=>.lit (.string b)))):∃f d,w.heap[g]?=some (.cells (a.map fun b=>Value.string (bs b)).toArray f d):=by
 obtain⟨y,z,s,fuel,p,i,j,x,o⟩:=h;obtain rfl:=Option.some.inj (m.symm.trans i);obtain rfl:=Option.some.inj (q.symm.trans j);obtain⟨f,d,r⟩:=oZ m x;have:=EY v underlying9 (by kernel_rfl) c u o
 obtain⟨l⟩:=s;have e:l=a.map fun b=>Value.string (bs b):=this
 subst e;exact⟨f,d,r⟩
def Y8:prog.globalNamed "hindsight/syntax.marks"=some 6:=by kernel_rfl
def WZ:prog.globalNamed "strconv.ErrRange"=some 10:=by kernel_rfl
def o7:prog.globalNamed "math/bits.deBruijn64tab"=some 8:=by kernel_rfl
def S6:(prog.globals[(6:Nat)]?).map (·.type)=some 300:=by kernel_rfl
def S5:(prog.globals[(10:Nat)]?).map (·.type)=some 414:=by kernel_rfl
def c_21:prog.cellsOf 300=21:=by kernel_rfl
def Z6:(Rows.laid_hindsight_syntax_marks:DataW Unit)=.agg (cM.map fun b=>.lit (.string b)):=rfl
def O8:(Rows.laid_unicode_utf8_acceptRanges:DataW Unit)=acceptData:=by kernel_rfl
def Z7:Rows.laid_unicode_utf8_first=firstData:=Pinned.utf8First_eq
def j5:Shelf.Ren:=⟨fun x=>x,fun n=>if n=5 then 5 else if n=119 then 409 else if n=138 then 411 else 412,fun n=>if n=3 then 4 else 5⟩
def S3:U8Types prog j5:=⟨underlying5,underlying409,underlying411,underlying412⟩
def S4:U8Extra prog j5:=⟨by kernel_rfl,by kernel_rfl,by kernel_rfl,by kernel_rfl,by kernel_rfl,by kernel_rfl,by kernel_rfl⟩
def aa_:prog.globalNamed "internal/strconv.uint64pow10"=some 1:=by kernel_rfl
def x9:(prog.globals[(1:Nat)]?).map (·.type)=some 370:=by kernel_rfl
def ab_:(Rows.laid_internal_strconv_uint64pow10:DataW Unit)=Lib.tabData .u64 Lib.pow10Tab:=by kernel_rfl
def iB(w:World):Prop:=laidMet prog Rows.stacksRow.laid w
def iB.big{w:World}(h:iB w):11<=w.heap.size:=by
 obtain⟨g,t,y,fuel,p,x,v,q,s⟩:=Lib.laidMet.reads h (n:= "math/bits.deBruijn64tab") (d:=Rows.laid_math_bits_deBruijn64tab) (by simp[Rows.stacksRow])
 obtain⟨B,A,f⟩:=oZ o7 q;obtain⟨z,u,m,c,C,k,l,b,r⟩:=Lib.laidMet.reads h (n:= "strconv.ErrRange") (d:=Rows.laid_strconv_ErrRange) (by simp[Rows.stacksRow])
 obtain⟨j,o,a⟩:=oZ WZ b;rcases a6_ (8:Nat) w.heap.size with i|i
 ·rcases a6_ (10:Nat) w.heap.size with e|e
  ·omega
  ·rw[bj_ e] at a;cases a
 ·rw[bj_ i] at f;cases f
def iB.marks{w:World}(h:iB w):∃a c,w.heap[(6:Nat)]?=some (.cells (cM.map fun b=>Value.string (bs b)).toArray a c):=
 SK Y8 S6 underlying300 c_21 rfl (Z6▸Lib.laidMet.reads h (n:= "hindsight/syntax.marks") (by simp[Rows.stacksRow]))
def iB.range{w:World}(h:iB w):∃j f,w.cell? ⟨10,0,none⟩=some (.iface j f):=by
 obtain⟨g,t,i,fuel,p,a,c,k,b⟩:=Lib.laidMet.reads h (n:= "strconv.ErrRange") (d:=Rows.laid_strconv_ErrRange) (by simp[Rows.stacksRow])
 obtain rfl:=Option.some.inj (WZ.symm.trans a);obtain rfl:=Option.some.inj (S5.symm.trans c);obtain⟨m,u,v,e,q,o⟩:=iface_of_trod underlying414 b;obtain⟨l⟩:=i;obtain rfl:l=_:=e;exact⟨u,v,by simpa using World.var?_cell a k 0⟩
def iB.utf8{w:World}(h:iB w):Lib.Utf8Tabs 4 5 w:=
 utf8Tabs_of_readsT S3 S4 (Z7▸Lib.laidMet.reads h (n:= "unicode/utf8.first") (by simp[Rows.stacksRow])) (O8▸Lib.laidMet.reads h (n:= "unicode/utf8.acceptRanges") (by simp[Rows.stacksRow]))
def iB.all{w:World}(h:iB w):iT w:=by
 obtain⟨b,c,a⟩:=h.marks;exact⟨⟨h.range,h.big⟩,⟨⟨b,c,a⟩,h.big⟩,h.utf8⟩
def iB.pow{w:World}(h:iB w):kC w:=by
 obtain⟨g,t,i,fuel,p,f,c,b,a⟩:=Lib.laidMet.reads h (n:= "internal/strconv.uint64pow10") (d:=Rows.laid_internal_strconv_uint64pow10) (by simp[Rows.stacksRow])
 obtain rfl:=Option.some.inj (aa_.symm.trans f);obtain rfl:=Option.some.inj (x9.symm.trans c);rw[ab_] at a;have e:=Lib.cells_of_tab underlying370 underlying282 (by kernel_rfl) (by kernel_rfl) a
 unfold kC Lib.TabIs;rw[b,<-e]
end Go.Proofs.YtblbkfdhjfppkaaGreatDoor
