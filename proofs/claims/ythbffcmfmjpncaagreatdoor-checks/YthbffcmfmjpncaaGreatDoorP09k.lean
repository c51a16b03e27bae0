/- Contracts: the law Checks out of the two readings. -/
import Derived.Test.YthbffcmfmjpncaaGreatDoorP08k
set_option linter.defProp false
set_option maxRecDepth 100000
set_option maxHeartbeats 4000000
namespace Go.Proofs.YthbffcmfmjpncaaGreatDoor
open Hs
open _root_.Go.Proofs.Tryz
open Go.RowKit
variable{g:Nat}{w:World}
def CB(a:ByteArray)(w:World)(f:gO w)(i:a.size<=maxLen):
 Calls prog 7 #[.string a] w λe c=>Below w.heap.size w c/\((bL a.data.toList).1=0->bL a.data.toList=(0,0))/\e=.returned (.tuple #[.int .i64 (bL a.data.toList).1,.int .i64 (bL a.data.toList).2]):=
 EM (bL a.data.toList) a w λb g j d=>(zC a w.heap.size b (f.below g) i j d).mono λ_ _ h=>h
def GC(a:ByteArray)(w:World)(s:gO w)(r:cS w)(q:a.size<=maxLen):
 Calls prog 3 #[.string a] w λe i=>e=.returned (.bool true)/\Below w.heap.size w i:=by
 have t:=aA (CB a w s q)
 have j:∀c,((bL a.data.toList).1=0->bL a.data.toList=(0,0))->Below w.heap.size w c->Calls prog 8 #[.string a] c λe i=>Below c.heap.size c i/\∃p,e=.returned (.tuple #[.pointer p,.agg #[.int .i64 (bL a.data.toList).1,.int .i64 (bL a.data.toList).2]]):=λc l d=>(CX a c (r.below d) q).mono λe i h=>by
  refine⟨h.1,?_⟩;have m:=h.2;split at m
  ·next h0=>
   obtain⟨b,y,x, -⟩:=m;rw[l h0];exact⟨_,x⟩
  ·exact⟨_,m⟩
 have j:=aA j;clear s r q;generalize bL a.data.toList=v at*;obtain⟨k,n⟩:=v;go_enter func3,ntmps3;go_wp2_with fail;refine t.out.mono ?_;rintro e c ⟨d,l,rfl⟩;have o:=aA d;have u:=aA (j.out c l d);clear d l j t;go_wp2_with fail;refine u.out.mono ?_;rintro e z ⟨f,p,rfl⟩;have g:=aA f;clear f u;go_wp2_with fail;go_ret;exact⟨rfl,(o.out.trans (g.out.mono o.out.size)).trans (((JU _ _).alloc (JS _) _).mono (KM o.out.size g.out.size))⟩
open Go.RowKit Go.Lib
def rR{H:Type}{enc:TypeId × Value->H}{P:Program}{b_:Nat}{u:Nat->Bool}{c:Bool}{fuel:Nat}{t e:TypeId}{n:Nat}{f:List Value}{a:List (List UInt8)}{p:List MemPlace}
 (x:P.underlying t=some (.array n e)) (E:P.underlying e=some .string) (k:P.cellsOf e=1) (j:P.cellsOf t=n) (F:a.length=n)
 (h:DataW.trod enc P w b_ u c fuel t f=some (.agg (a.map λb=>.lit (.string b)),p)):f=a.map λb=>Value.string (bs b):=by
 obtain⟨l,m,rfl,B,d,r,g⟩:=DataW.trod_array x h;rw[j] at d;refine List.ext_getElem? λi=>?_
 by_cases A:i<n
 ·have q:=g i A;rw[k,Nat.mul_one,KR o_] at q
  obtain⟨s,C,z,_⟩:=DataW.trod_string E q;have D:l.map (·.1)=a.map λb=>(DataW.lit (.string b):DataW H):=(DataW.agg.inj (Prod.mk.inj B).1).symm
  have o:(l.map (·.1))[i]?=(a.map λb=>(DataW.lit (.string b):DataW H))[i]?:=by rw[D]
  rw[LL,LL,KR (by omega:i<l.length),KR (by omega:i<a.length),z] at o
  simp only[Option.map_some,Option.some.injEq,DataW.lit.injEq,Lit.string.injEq] at o;rw[LL,KR (by omega:i<a.length)]
  have y:((f.drop i).take 1)[0]?=some (.string s):=by rw[C];rfl
  have v:f[i]?=some (.string s):=by simpa using y
  rw[v];simp only[Option.map_some,Option.some.injEq,Value.string.injEq];rw[<-o];rfl
 ·rw[KI o_,KI t_]
def iZ{P:Program}{n:String}{b:Array Value}(c:P.globalNamed n=some g)(h:w.var? P n=some b):∃t a,w.heap[g]?=some (.cells b t a):=by
 simp only[World.var?,c,Option.bind_some] at h;split at h
 ·next cs' t a hb=>cases h;exact⟨t,a,hb⟩
 ·cases h
def lC{k:String}{t n:Nat}{a:List (List UInt8)}(m:prog.globalNamed k=some g)(q:(prog.globals[g]?).map (·.type)=some t)(v:prog.underlying t=some (.array n 9))(c:prog.cellsOf t=n)(u:a.length=n)
 (h:VarReads prog w k (.agg (a.map λb=>.lit (.string b)))):∃f d,w.heap[g]?=some (.cells (a.map λb=>Value.string (bs b)).toArray f d):=by
 obtain⟨y,z,s,fuel,p,i,j,x,o⟩:=h;obtain rfl:=Option.some.inj (m.symm.trans i);obtain rfl:=Option.some.inj (q.symm.trans j);obtain⟨f,d,r⟩:=iZ m x;have:=rR v underlying9 k_ c u o
 obtain⟨l⟩:=s;have e:l=a.map λb=>Value.string (bs b):=this
 subst e;exact⟨f,d,r⟩
def lW{l:List Value}{b:TypeId}{c:Nat × Nat}(h:w.heap[g]?=some (.cells l.toArray b c)){i:Nat}{v:Value}(a:l[i]?=some v):w.cell? ⟨g,i,none⟩=some v:=by
 simp[World.cell?,h,a]
def ED:prog.globalNamed "hindsight/hindsightref.others"=some 0:=k_
def yT:prog.globalNamed "hindsight/hindsightref.keywords"=some 2:=k_
def GJ:prog.globalNamed "hindsight/syntax.marks"=some 6:=k_
def zV:prog.globalNamed "strconv.ErrRange"=some 10:=k_
def IN:prog.globalNamed "math/bits.deBruijn64tab"=some 8:=k_
def CP:(prog.globals[(0:Nat)]?).map (·.type)=some 226:=k_
def xB:(prog.globals[(2:Nat)]?).map (·.type)=some 292:=k_
def FR:(prog.globals[(6:Nat)]?).map (·.type)=some 226:=k_
def FQ:(prog.globals[(10:Nat)]?).map (·.type)=some 324:=k_
def c_21:prog.cellsOf 226=21:=k_
def c_9:prog.cellsOf 292=9:=k_
def yZ:(Rows.laid_hindsight_hindsightref_keywords:DataW Unit)=.agg (cF.map λb=>.lit (.string b)):=rfl
def EK:(Rows.laid_hindsight_hindsightref_others:DataW Unit)=.agg (bC.map λb=>.lit (.string b)):=rfl
def GR:(Rows.laid_hindsight_syntax_marks:DataW Unit)=.agg (bC.map λb=>.lit (.string b)):=rfl
def EL:(Rows.laid_unicode_utf8_acceptRanges:DataW Unit)=acceptData:=k_
def GT:Rows.laid_unicode_utf8_first=firstData:=Pinned.utf8First_eq
def IE:Shelf.Ren:=⟨λx=>x,λn=>if n=5 then 5 else if n=119 then 319 else if n=138 then 321 else 322,λn=>if n=3 then 4 else 5⟩
def FN:U8Types prog IE:=⟨underlying5,underlying319,underlying321,underlying322⟩
def FO:U8Extra prog IE:=⟨k_,k_,k_,k_,k_,k_,k_⟩
def Listed(w:World):Prop:=laidMet prog Rows.checksRow.laid w
def Listed.big(h:Listed w):11<=w.heap.size:=by
 obtain⟨g,t,y,fuel,p,x,v,q,s⟩:=Lib.laidMet.reads h (n:= "math/bits.deBruijn64tab") (d:=Rows.laid_math_bits_deBruijn64tab) (by simp[Rows.checksRow])
 obtain⟨B,A,f⟩:=iZ IN q;obtain⟨z,u,m,c,C,k,l,b,r⟩:=Lib.laidMet.reads h (n:= "strconv.ErrRange") (d:=Rows.laid_strconv_ErrRange) (by simp[Rows.checksRow])
 obtain⟨j,o,a⟩:=iZ zV b;rcases Nat.lt_or_ge (8:Nat) w.heap.size with i|i
 ·rcases Nat.lt_or_ge (10:Nat) w.heap.size with e|e
  ·omega
  ·rw[LD e] at a;cases a
 ·rw[LD i] at f;cases f
def Listed.others(h:Listed w):∃a c,w.heap[(0:Nat)]?=some (.cells (bC.map λb=>Value.string (bs b)).toArray a c):=
 lC ED CP underlying226 c_21 rfl (EK▸Lib.laidMet.reads h (n:= "hindsight/hindsightref.others") (by simp[Rows.checksRow]))
def Listed.keywords(h:Listed w):∃a c,w.heap[(2:Nat)]?=some (.cells (cF.map λb=>Value.string (bs b)).toArray a c):=
 lC yT xB underlying292 c_9 rfl (yZ▸Lib.laidMet.reads h (n:= "hindsight/hindsightref.keywords") (by simp[Rows.checksRow]))
def Listed.marks(h:Listed w):∃a c,w.heap[(6:Nat)]?=some (.cells (bC.map λb=>Value.string (bs b)).toArray a c):=
 lC GJ FR underlying226 c_21 rfl (GR▸Lib.laidMet.reads h (n:= "hindsight/syntax.marks") (by simp[Rows.checksRow]))
def Listed.range(h:Listed w):∃j f,w.cell? ⟨10,0,none⟩=some (.iface j f):=by
 obtain⟨g,t,i,fuel,p,a,c,k,b⟩:=Lib.laidMet.reads h (n:= "strconv.ErrRange") (d:=Rows.laid_strconv_ErrRange) (by simp[Rows.checksRow])
 obtain rfl:=Option.some.inj (zV.symm.trans a);obtain rfl:=Option.some.inj (FQ.symm.trans c);obtain⟨m,u,v,e,q,o⟩:=iface_of_trod underlying324 b;obtain⟨l⟩:=i;obtain rfl:l=_:=e;exact⟨u,v,by simpa using World.var?_cell a k 0⟩
def Listed.utf8(h:Listed w):Lib.Utf8Tabs 4 5 w:=
 utf8Tabs_of_readsT FN FO (GT▸Lib.laidMet.reads h (n:= "unicode/utf8.first") (by simp[Rows.checksRow])) (EL▸Lib.laidMet.reads h (n:= "unicode/utf8.acceptRanges") (by simp[Rows.checksRow]))
def Listed.ref(h:Listed w):cS w:=by
 obtain⟨f,g,c⟩:=h.keywords;obtain⟨e,d,b⟩:=h.others;exact⟨λi a=>lW c (by rw[LL,KR (by simpa [cF] using a)];rfl),λi a=>lW b (by rw[LL,KR (by simpa [bC] using a)];rfl),h.big⟩
end Go.Proofs.YthbffcmfmjpncaaGreatDoor
