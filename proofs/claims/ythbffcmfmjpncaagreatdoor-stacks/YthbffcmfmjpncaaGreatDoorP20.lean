/- What the row's condition on package-level variables gives the contracts: their tables. -/
import Derived.Test.YthbffcmfmjpncaaGreatDoorB05
import Derived.Test.YthbffcmfmjpncaaGreatDoorP08
import Derived.Test.YthbffcmfmjpncaaGreatDoorP10
set_option linter.defProp false
set_option maxRecDepth 100000
namespace Go.Proofs.YthbffcmfmjpncaaGreatDoor
open Hs
open _root_.Go.Proofs.Tryz
open Go.RowKit Go.Lib
variable{w:World}
def FX{H:Type}{enc:TypeId × Value->H}{P:Program}{b_:Nat}{r:Nat->Bool}{c:Bool}{fuel:Nat}{t e:TypeId}{n:Nat}{cs:List Value}{a:List (List UInt8)}{p:List MemPlace}
 (v:P.underlying t=some (.array n e)) (D:P.underlying e=some .string) (j:P.cellsOf e=1) (g:P.cellsOf t=n) (E:a.length=n)
 (h:DataW.trod enc P w b_ r c fuel t cs=some (.agg (a.map λb=>.lit (.string b)),p)):cs=a.map λb=>Value.string (bs b):=by
 obtain⟨k,m,rfl,A,d,q,f⟩:=DataW.trod_array v h;rw[g] at d;refine List.ext_getElem? λi=>?_
 by_cases z:i<n
 ·have o:=f i z;rw[j,jf,fi o_] at o
  obtain⟨s,B,y,_⟩:=DataW.trod_string D o;have C:k.map (·.1)=a.map λb=>(DataW.lit (.string b):DataW H):=(DataW.agg.inj (Prod.mk.inj A).1).symm
  have l:(k.map (·.1))[i]?=(a.map λb=>(DataW.lit (.string b):DataW H))[i]?:=by rw[C]
  rw[iw,iw,fi (by omega:i<k.length),fi (by omega:i<a.length),y] at l
  simp only[io,Option.some.injEq,DataW.lit.injEq,Lit.string.injEq] at l;rw[iw,fi (by omega:i<a.length)]
  have x:((cs.drop i).take 1)[0]?=some (.string s):=by rw[B];rfl
  have u:cs[i]?=some (.string s):=by simpa using x
  rw[u];simp only[io,Option.some.injEq,Value.string.injEq];rw[<-l];rfl
 ·rw[gu o_,gu t_]
def iP{P:Program}{n:String}{g:Nat}{cs:Array Value}(b:P.globalNamed n=some g)(h:w.var? P n=some cs):∃t a,w.heap[g]?=some (.cells cs t a):=by
 simp only[World.var?,b,Option.bind_some] at h;split at h
 ·next cs' t a hb=>cases h;exact⟨t,a,hb⟩
 ·cases h
def pC{k:String}{g t n:Nat}{a:List (List UInt8)}(m:prog.globalNamed k=some g)(q:(prog.globals[g]?).map (·.type)=some t)(v:prog.underlying t=some (.array n 9))(c:prog.cellsOf t=n)(u:a.length=n)
 (h:VarReads prog w k (.agg (a.map λb=>.lit (.string b)))):∃f d,w.heap[g]?=some (.cells (a.map λb=>Value.string (bs b)).toArray f d):=by
 obtain⟨y,z,s,fuel,p,i,j,x,o⟩:=h;obtain rfl:=Option.some.inj (m.symm.trans i);obtain rfl:=Option.some.inj (q.symm.trans j);obtain⟨f,d,r⟩:=iP m x;have:=FX v underlying9 k_ c u o
 obtain⟨l⟩:=s;have e:l=a.map λb=>Value.string (bs b):=this
 subst e;exact⟨f,d,r⟩
def U3:prog.globalNamed "hindsight/hindsightref.others"=some 0:=k_
def MJ:prog.globalNamed "hindsight/syntax.marks"=some 6:=k_
def sH:prog.globalNamed "strconv.ErrRange"=some 10:=k_
def WG:prog.globalNamed "math/bits.deBruijn64tab"=some 8:=k_
def N3:(prog.globals[(0:Nat)]?).map (·.type)=some 226:=k_
def KW:(prog.globals[(6:Nat)]?).map (·.type)=some 226:=k_
def KV:(prog.globals[(10:Nat)]?).map (·.type)=some 324:=k_
def c_21:prog.cellsOf 226=21:=k_
def U9:(Rows.laid_hindsight_hindsightref_others:DataW Unit)=.agg (cE.map λb=>.lit (.string b)):=rfl
def NA:(Rows.laid_hindsight_syntax_marks:DataW Unit)=.agg (cE.map λb=>.lit (.string b)):=rfl
def EP:(Rows.laid_unicode_utf8_acceptRanges:DataW Unit)=acceptData:=k_
def NB:Rows.laid_unicode_utf8_first=firstData:=Pinned.utf8First_eq
def ag_:Shelf.Ren:=⟨λx=>x,λn=>if n=5 then 5 else if n=119 then 319 else if n=138 then 321 else 322,λn=>if n=3 then 4 else 5⟩
def KG:U8Types prog ag_:=⟨underlying5,underlying319,underlying321,underlying322⟩
def KH:U8Extra prog ag_:=⟨k_,k_,k_,k_,k_,k_,k_⟩
def Listed(w:World):Prop:=laidMet prog Rows.checksRow.laid w
def Listed.big(h:Listed w):11<=w.heap.size:=by
 obtain⟨g,t,y,fuel,p,x,v,q,s⟩:=Lib.laidMet.reads h (n:= "math/bits.deBruijn64tab") (d:=Rows.laid_math_bits_deBruijn64tab) (by simp[Rows.checksRow])
 obtain⟨B,A,f⟩:=iP WG q;obtain⟨z,u,m,c,C,k,l,b,r⟩:=Lib.laidMet.reads h (n:= "strconv.ErrRange") (d:=Rows.laid_strconv_ErrRange) (by simp[Rows.checksRow])
 obtain⟨j,o,a⟩:=iP sH b;rcases fo (8:Nat) w.heap.size with i|i
 ·rcases fo (10:Nat) w.heap.size with e|e
  ·omega
  ·rw[hP e] at a;cases a
 ·rw[hP i] at f;cases f
def Listed.others(h:Listed w):∃a c,w.heap[(0:Nat)]?=some (.cells (cE.map λb=>Value.string (bs b)).toArray a c):=
 pC U3 N3 underlying226 c_21 rfl (U9▸Lib.laidMet.reads h (n:= "hindsight/hindsightref.others") (by simp[Rows.checksRow]))
def Listed.marks(h:Listed w):∃a c,w.heap[(6:Nat)]?=some (.cells (cE.map λb=>Value.string (bs b)).toArray a c):=
 pC MJ KW underlying226 c_21 rfl (NA▸Lib.laidMet.reads h (n:= "hindsight/syntax.marks") (by simp[Rows.checksRow]))
def Listed.range(h:Listed w):∃j f,w.cell? ⟨10,0,none⟩=some (.iface j f):=by
 obtain⟨g,t,i,fuel,p,a,c,k,b⟩:=Lib.laidMet.reads h (n:= "strconv.ErrRange") (d:=Rows.laid_strconv_ErrRange) (by simp[Rows.checksRow])
 obtain rfl:=Option.some.inj (sH.symm.trans a);obtain rfl:=Option.some.inj (KV.symm.trans c);obtain⟨m,u,v,e,q,o⟩:=iface_of_trod underlying324 b;obtain⟨l⟩:=i;obtain rfl:l=_:=e;exact⟨u,v,by simpa using World.var?_cell a k 0⟩
def Listed.utf8(h:Listed w):Lib.Utf8Tabs 4 5 w:=
 utf8Tabs_of_readsT KG KH (NB▸Lib.laidMet.reads h (n:= "unicode/utf8.first") (by simp[Rows.checksRow])) (EP▸Lib.laidMet.reads h (n:= "unicode/utf8.acceptRanges") (by simp[Rows.checksRow]))
def aj_:prog.globalNamed "internal/strconv.uint64pow10"=some 1:=k_
def ai_:(prog.globals[(1:Nat)]?).map (·.type)=some 285:=k_
def ak_:(Rows.laid_internal_strconv_uint64pow10:DataW Unit)=Lib.tabData .u64 Lib.pow10Tab:=k_
def kF(w:World):Prop:=laidMet prog Rows.sumsRow.laid w
def kF.big(h:kF w):11<=w.heap.size:=by
 obtain⟨g,t,y,fuel,p,x,v,q,s⟩:=Lib.laidMet.reads h (n:= "math/bits.deBruijn64tab") (d:=Rows.laid_math_bits_deBruijn64tab) (by simp[Rows.sumsRow])
 obtain⟨B,A,f⟩:=iP WG q;obtain⟨z,u,m,c,C,k,l,b,r⟩:=Lib.laidMet.reads h (n:= "strconv.ErrRange") (d:=Rows.laid_strconv_ErrRange) (by simp[Rows.sumsRow])
 obtain⟨j,o,a⟩:=iP sH b;rcases fo (8:Nat) w.heap.size with i|i
 ·rcases fo (10:Nat) w.heap.size with e|e
  ·omega
  ·rw[hP e] at a;cases a
 ·rw[hP i] at f;cases f
def kF.marks(h:kF w):∃a c,w.heap[(6:Nat)]?=some (.cells (cE.map λb=>Value.string (bs b)).toArray a c):=
 pC MJ KW underlying226 c_21 rfl (NA▸Lib.laidMet.reads h (n:= "hindsight/syntax.marks") (by simp[Rows.sumsRow]))
def kF.range(h:kF w):∃j f,w.cell? ⟨10,0,none⟩=some (.iface j f):=by
 obtain⟨g,t,i,fuel,p,a,c,k,b⟩:=Lib.laidMet.reads h (n:= "strconv.ErrRange") (d:=Rows.laid_strconv_ErrRange) (by simp[Rows.sumsRow])
 obtain rfl:=Option.some.inj (sH.symm.trans a);obtain rfl:=Option.some.inj (KV.symm.trans c);obtain⟨m,u,v,e,q,o⟩:=iface_of_trod underlying324 b;obtain⟨l⟩:=i;obtain rfl:l=_:=e;exact⟨u,v,by simpa using World.var?_cell a k 0⟩
def kF.utf8(h:kF w):Lib.Utf8Tabs 4 5 w:=
 utf8Tabs_of_readsT KG KH (NB▸Lib.laidMet.reads h (n:= "unicode/utf8.first") (by simp[Rows.sumsRow])) (EP▸Lib.laidMet.reads h (n:= "unicode/utf8.acceptRanges") (by simp[Rows.sumsRow]))
def kF.all(h:kF w):iQ w:=by
 obtain⟨b,c,a⟩:=h.marks;exact⟨⟨h.range,h.big⟩,⟨⟨b,c,a⟩,h.big⟩,h.utf8⟩
def kF.pow(h:kF w):jW w:=by
 obtain⟨g,t,i,fuel,p,f,c,b,a⟩:=Lib.laidMet.reads h (n:= "internal/strconv.uint64pow10") (d:=Rows.laid_internal_strconv_uint64pow10) (by simp[Rows.sumsRow])
 obtain rfl:=Option.some.inj (aj_.symm.trans f);obtain rfl:=Option.some.inj (ai_.symm.trans c);rw[ak_] at a;have e:=Lib.cells_of_tab underlying285 underlying208 k_ k_ a
 unfold jW Lib.TabIs;rw[b,<-e]
def iH(w:World):Prop:=laidMet prog Rows.stacksRow.laid w
def iH.big(h:iH w):11<=w.heap.size:=by
 obtain⟨g,t,y,fuel,p,x,v,q,s⟩:=Lib.laidMet.reads h (n:= "math/bits.deBruijn64tab") (d:=Rows.laid_math_bits_deBruijn64tab) (by simp[Rows.stacksRow])
 obtain⟨B,A,f⟩:=iP WG q;obtain⟨z,u,m,c,C,k,l,b,r⟩:=Lib.laidMet.reads h (n:= "strconv.ErrRange") (d:=Rows.laid_strconv_ErrRange) (by simp[Rows.stacksRow])
 obtain⟨j,o,a⟩:=iP sH b;rcases fo (8:Nat) w.heap.size with i|i
 ·rcases fo (10:Nat) w.heap.size with e|e
  ·omega
  ·rw[hP e] at a;cases a
 ·rw[hP i] at f;cases f
def iH.marks(h:iH w):∃a c,w.heap[(6:Nat)]?=some (.cells (cE.map λb=>Value.string (bs b)).toArray a c):=
 pC MJ KW underlying226 c_21 rfl (NA▸Lib.laidMet.reads h (n:= "hindsight/syntax.marks") (by simp[Rows.stacksRow]))
def iH.range(h:iH w):∃j f,w.cell? ⟨10,0,none⟩=some (.iface j f):=by
 obtain⟨g,t,i,fuel,p,a,c,k,b⟩:=Lib.laidMet.reads h (n:= "strconv.ErrRange") (d:=Rows.laid_strconv_ErrRange) (by simp[Rows.stacksRow])
 obtain rfl:=Option.some.inj (sH.symm.trans a);obtain rfl:=Option.some.inj (KV.symm.trans c);obtain⟨m,u,v,e,q,o⟩:=iface_of_trod underlying324 b;obtain⟨l⟩:=i;obtain rfl:l=_:=e;exact⟨u,v,by simpa using World.var?_cell a k 0⟩
def iH.utf8(h:iH w):Lib.Utf8Tabs 4 5 w:=
 utf8Tabs_of_readsT KG KH (NB▸Lib.laidMet.reads h (n:= "unicode/utf8.first") (by simp[Rows.stacksRow])) (EP▸Lib.laidMet.reads h (n:= "unicode/utf8.acceptRanges") (by simp[Rows.stacksRow]))
def iH.all(h:iH w):iQ w:=by
 obtain⟨b,c,a⟩:=h.marks;exact⟨⟨h.range,h.big⟩,⟨⟨b,c,a⟩,h.big⟩,h.utf8⟩
def iH.pow(h:iH w):jW w:=by
 obtain⟨g,t,i,fuel,p,f,c,b,a⟩:=Lib.laidMet.reads h (n:= "internal/strconv.uint64pow10") (d:=Rows.laid_internal_strconv_uint64pow10) (by simp[Rows.stacksRow])
 obtain rfl:=Option.some.inj (aj_.symm.trans f);obtain rfl:=Option.some.inj (ai_.symm.trans c);rw[ak_] at a;have e:=Lib.cells_of_tab underlying285 underlying208 k_ k_ a
 unfold jW Lib.TabIs;rw[b,<-e]
end Go.Proofs.YthbffcmfmjpncaaGreatDoor
