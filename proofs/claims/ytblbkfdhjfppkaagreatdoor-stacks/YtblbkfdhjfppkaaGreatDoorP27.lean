/- What the row's condition on package-level variables gives the contracts: their tables. -/
import Derived.Test.YtblbkfdhjfppkaaGreatDoorB08
import Derived.Test.YtblbkfdhjfppkaaGreatDoorP15
import Derived.Test.YtblbkfdhjfppkaaGreatDoorP12
set_option linter.defProp false
set_option maxRecDepth 100000
namespace Go.Proofs.YtblbkfdhjfppkaaGreatDoor
open Hs
open _root_.Go.Proofs.Tryz(prog)
open Go.RowKit Go.Lib
def EY{H:Type}{enc:TypeId × Value->H}{P:Program}{w:World}{base:Nat}{y:Nat->Bool}{d:Bool}{fuel:Nat}{t e:TypeId}{n:Nat}{cs:List Value}{a:List (List UInt8)}{p:List MemPlace}
 (A:P.underlying t=some (.array n e)) (C:P.underlying e=some .string) (f:P.cellsOf e=1) (g:P.cellsOf t=n) (E:a.length=n)
 (h:DataW.trod enc P w base y d fuel t cs=some (.agg (a.map fun b=>.lit (.string b)),p)):cs=a.map fun b=>Value.string (bs b):=by
 obtain⟨j,m,rfl,B,c,q,k⟩:=DataW.trod_array A h;rw[g] at c;refine List.ext_getElem? fun i=>?_
 by_cases z:i<n
 ·have o:=k i z;rw[f,b4_,aH_ (by omega)] at o
  obtain⟨s,D,x,_⟩:=DataW.trod_string C o;have u:j.map (·.1)=a.map fun b=>(DataW.lit (.string b):DataW H):=(DataW.agg.inj (Prod.mk.inj B).1).symm
  have l:(j.map (·.1))[i]?=(a.map fun b=>(DataW.lit (.string b):DataW H))[i]?:=by rw[u]
  rw[bw_,bw_,aH_ (by omega:i<j.length),aH_ (by omega:i<a.length),x] at l
  simp only[bE_,Option.some.injEq,DataW.lit.injEq,Lit.string.injEq] at l;rw[bw_,aH_ (by omega:i<a.length)]
  have r:((cs.drop i).take 1)[0]?=some (.string s):=by rw[D];rfl
  have v:cs[i]?=some (.string s):=by simpa using r
  rw[v];simp only[bE_,Option.some.injEq,Value.string.injEq];rw[<-l];rfl
 ·rw[a4_ (by omega),a4_ (by simp;omega)]
def oZ{P:Program}{w:World}{n:String}{g:Nat}{cs:Array Value}(b:P.globalNamed n=some g)(h:w.var? P n=some cs):∃t a,w.heap[g]?=some (.cells cs t a):=by
 simp only[World.var?,b,Option.bind_some] at h;split at h
 ·next cs' t a hb=>cases h;exact⟨t,a,hb⟩
 ·cases h
def SK{w:World}{k:String}{g t n:Nat}{a:List (List UInt8)}(m:prog.globalNamed k=some g)(u:(prog.globals[g]?).map (·.type)=some t)(s:prog.underlying t=some (.array n 9))(f:prog.cellsOf t=n)(q:a.length=n)
 (h:VarReads prog w k (.agg (a.map fun b=>.lit (.string b)))):∃i j,w.heap[g]?=some (.cells (a.map fun b=>Value.string (bs b)).toArray i j):=by
 obtain⟨y,z,r,fuel,p,c,d,v,x⟩:=h;obtain rfl:=Option.some.inj (m.symm.trans c);obtain rfl:=Option.some.inj (u.symm.trans d);obtain⟨i,j,o⟩:=oZ m v;have:=EY s Tryz.underlying9 (by kernel_rfl) f q x
 obtain⟨l⟩:=r;have e:l=a.map fun b=>Value.string (bs b):=this
 subst e;exact⟨i,j,o⟩
def Y8:prog.globalNamed "hindsight/syntax.marks"=some 6:=by kernel_rfl
def WZ:prog.globalNamed "strconv.ErrRange"=some 10:=by kernel_rfl
def o7:prog.globalNamed "math/bits.deBruijn64tab"=some 8:=by kernel_rfl
def S6:(prog.globals[(6:Nat)]?).map (·.type)=some 300:=by kernel_rfl
def S5:(prog.globals[(10:Nat)]?).map (·.type)=some 414:=by kernel_rfl
def c_21:prog.cellsOf 300=21:=by kernel_rfl
def Z6:(Rows.laid_hindsight_syntax_marks:DataW Unit)=.agg (cM.map fun b=>.lit (.string b)):=rfl
def O8:(Rows.laid_unicode_utf8_acceptRanges:DataW Unit)=acceptData:=by kernel_rfl
def Z7:Rows.laid_unicode_utf8_first=firstData:=Pinned.utf8First_eq
def j5:Shelf.Ren:=⟨fun x=>x,fun n=>if n=5 then 5 else if n=119 then 409 else if n=138 then 411 else 412,fun n=>if n=3 then 4 else 5⟩
def S3:U8Types prog j5:=⟨Tryz.underlying5,Tryz.underlying409,Tryz.underlying411,Tryz.underlying412⟩
def S4:U8Extra prog j5:=⟨by kernel_rfl,by kernel_rfl,by kernel_rfl,by kernel_rfl,by kernel_rfl,by kernel_rfl,by kernel_rfl⟩
def aa_:prog.globalNamed "internal/strconv.uint64pow10"=some 1:=by kernel_rfl
def x9:(prog.globals[(1:Nat)]?).map (·.type)=some 370:=by kernel_rfl
def ab_:(Rows.laid_internal_strconv_uint64pow10:DataW Unit)=Lib.tabData .u64 Lib.pow10Tab:=by kernel_rfl
def iB(w:World):Prop:=laidMet prog Rows.stacksRow.laid w
def iB.big{w:World}(h:iB w):11<=w.heap.size:=by
 obtain⟨g,t,s,fuel,p,B,v,q,y⟩:=Lib.laidMet.reads h (n:= "math/bits.deBruijn64tab") (d:=Rows.laid_math_bits_deBruijn64tab) (by simp[Rows.stacksRow])
 obtain⟨x,z,e⟩:=oZ o7 q;obtain⟨A,C,r,c,u,l,o,b,j⟩:=Lib.laidMet.reads h (n:= "strconv.ErrRange") (d:=Rows.laid_strconv_ErrRange) (by simp[Rows.stacksRow])
 obtain⟨k,m,a⟩:=oZ WZ b;rcases a6_ (8:Nat) w.heap.size with i|i
 ·rcases a6_ (10:Nat) w.heap.size with f|f
  ·omega
  ·rw[bj_ f] at a;cases a
 ·rw[bj_ i] at e;cases e
def iB.marks{w:World}(h:iB w):∃c a,w.heap[(6:Nat)]?=some (.cells (cM.map fun b=>Value.string (bs b)).toArray c a):=
 SK Y8 S6 Tryz.underlying300 c_21 rfl (Z6▸Lib.laidMet.reads h (n:= "hindsight/syntax.marks") (by simp[Rows.stacksRow]))
def iB.range{w:World}(h:iB w):∃k c,w.cell? ⟨10,0,none⟩=some (.iface k c):=by
 obtain⟨g,t,b,fuel,p,a,f,i,j⟩:=Lib.laidMet.reads h (n:= "strconv.ErrRange") (d:=Rows.laid_strconv_ErrRange) (by simp[Rows.stacksRow])
 obtain rfl:=Option.some.inj (WZ.symm.trans a);obtain rfl:=Option.some.inj (S5.symm.trans f);obtain⟨o,u,v,e,m,q⟩:=iface_of_trod Tryz.underlying414 j;obtain⟨l⟩:=b;obtain rfl:l=_:=e;exact⟨u,v,by simpa using World.var?_cell a i 0⟩
def iB.utf8{w:World}(h:iB w):Lib.Utf8Tabs 4 5 w:=
 utf8Tabs_of_readsT S3 S4 (Z7▸Lib.laidMet.reads h (n:= "unicode/utf8.first") (by simp[Rows.stacksRow])) (O8▸Lib.laidMet.reads h (n:= "unicode/utf8.acceptRanges") (by simp[Rows.stacksRow]))
def iB.all{w:World}(h:iB w):iT w:=by
 obtain⟨c,a,b⟩:=h.marks;exact⟨⟨h.range,h.big⟩,⟨⟨c,a,b⟩,h.big⟩,h.utf8⟩
def iB.pow{w:World}(h:iB w):kC w:=by
 obtain⟨g,t,i,fuel,p,c,b,f,a⟩:=Lib.laidMet.reads h (n:= "internal/strconv.uint64pow10") (d:=Rows.laid_internal_strconv_uint64pow10) (by simp[Rows.stacksRow])
 obtain rfl:=Option.some.inj (aa_.symm.trans c);obtain rfl:=Option.some.inj (x9.symm.trans b);rw[ab_] at a;have e:=Lib.cells_of_tab Tryz.underlying370 Tryz.underlying282 (by kernel_rfl) (by kernel_rfl) a
 unfold kC Lib.TabIs;rw[f,<-e]
end Go.Proofs.YtblbkfdhjfppkaaGreatDoor
