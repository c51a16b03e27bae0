/- Copies: the walk. -/
import Derived.Test.YthbffcmfmjpncaaGreatDoorP17c
set_option linter.defProp false
set_option maxRecDepth 100000
set_option maxHeartbeats 4000000
namespace Go.Proofs.YthbffcmfmjpncaaGreatDoor
open Hs
open _root_.Go.Proofs.Tryz
open Go.RowKit
variable{g:Nat}{w:World}
def RU(w:World)(x y:Int)(j i b k:List UInt8)(f:World->Prop)(d:Nat->World->Prop)
 (I:j.length<=50) (M:i.length<=50) (J:b.length<=50) (N:k.length<=50)
 (z:f w)
 (E:Hid (∀W,f W->Calls prog 19 #[.int .i64 x] W λe a=>e=.returned (.string (bs j))/\f a))
 (u:Hid (∀W,f W->Calls prog 19 #[.int .i64 y] W λe a=>e=.returned (.string (bs i))/\f a))
 (C:Hid (∀W,f W->Calls prog 21 #[.string (⟨#[102,117,110,99,32,102,40,112,41,32,123,32,112,91,48,93,32,61,32,55,59,32,114,101,116,117,114,110,32,112,59,32,125,10,102,117,110,99,32,109,97,105,110,40,41,32,123,10,118,97,114,32,97,32,61,32,91]⟩++bs j++⟨#[44,32,91,49,44,32,50,93,93,59,10,118,97,114,32,98,32,61,32,97,59,10,118,97,114,32,99,32,61,32,91,97,44,32,98,93,59,10,118,97,114,32,100,32,61,32,102,40,97,41,59,10,98,91,49,93,91,48,93,32,61,32]⟩++bs i++⟨#[59,10,99,91,48,93,91,49,93,32,61,32,91,93,59,10,112,114,105,110,116,32,97,59,32,112,114,105,110,116,32,98,59,32,112,114,105,110,116,32,99,59,32,112,114,105,110,116,32,100,59,10,125]⟩)] W λe a=>∃g c T,e=.returned (.tuple #[.slice (some ⟨g,0,none⟩) 4 c,.int .i64 T,.bool true])/\d g a))
 (H:Hid (∀g W,d g W->Calls prog 20 #[.int .i64 x] W λe a=>e=.returned (.string (bs b))/\d g a))
 (s:Hid (∀g W,d g W->Calls prog 20 #[.int .i64 y] W λe a=>e=.returned (.string (bs k))/\d g a))
 (D:Hid (∀g W,d g W->W.cell? ⟨g,0,none⟩=some (.string (⟨#[91]⟩++bs b++⟨#[44,32,91,49,44,32,50,93,93]⟩))/\W.cell? ⟨g,1,none⟩=some (.string (⟨#[91]⟩++bs b++⟨#[44,32,91]⟩++bs k++⟨#[44,32,50,93,93]⟩))/\W.cell? ⟨g,2,none⟩=some (.string (⟨#[91,91]⟩++bs b++⟨#[44,32,91,93,93,44,32]⟩++(⟨#[91]⟩++bs b++⟨#[44,32,91,49,44,32,50,93,93]⟩)++⟨#[93]⟩))/\W.cell? ⟨g,3,none⟩=some (.string ⟨#[91,55,44,32,91,49,44,32,50,93,93]⟩)/\g<W.heap.size))
 (G:Hid (∀g W,d g W->Below w.heap.size w W)):
 Calls prog 6 #[.int .i64 x,.int .i64 y] w λe a=>e=.returned (.bool true)/\Below w.heap.size w a:=by
 have r:=aB z;have P:(bs j).size=j.length:=gJ j;have L:(bs i).size=i.length:=gJ i;have K:(bs b).size=b.length:=gJ b;have O:(bs k).size=k.length:=gJ k;have Z:(⟨#[102,117,110,99,32,102,40,112,41,32,123,32,112,91,48,93,32,61,32,55,59,32,114,101,116,117,114,110,32,112,59,32,125,10,102,117,110,99,32,109,97,105,110,40,41,32,123,10,118,97,114,32,97,32,61,32,91]⟩:ByteArray).size=57:=rfl;have Y:(⟨#[44,32,91,49,44,32,50,93,93,59,10,118,97,114,32,98,32,61,32,97,59,10,118,97,114,32,99,32,61,32,91,97,44,32,98,93,59,10,118,97,114,32,100,32,61,32,102,40,97,41,59,10,98,91,49,93,91,48,93,32,61,32]⟩:ByteArray).size=62:=rfl;have z3:(⟨#[59,10,99,91,48,93,91,49,93,32,61,32,91,93,59,10,112,114,105,110,116,32,97,59,32,112,114,105,110,116,32,98,59,32,112,114,105,110,116,32,99,59,32,112,114,105,110,116,32,100,59,10,125]⟩:ByteArray).size=53:=rfl;clear z;go_enter func6,ntmps6;go_wp2_with fail;refine(E.out _ r.out).mono ?_;rintro e S ⟨rfl,B⟩;have n:=aB (u.out _ B);clear B E u r;go_wp2_with fail;refine n.out.mono ?_;rintro e w2 ⟨rfl,t⟩;have l:=aB (C.out _ t);clear t C n;go_wp2_with fail;refine l.out.mono ?_;rintro e V ⟨g,c,T,rfl,F⟩;have o:=aB (H.out _ _ F);clear F H l;go_wp2_with fail;refine o.out.mono ?_;rintro e Q ⟨rfl,A⟩;have m:=aB (s.out _ _ A);clear A s o;go_wp2_with fail;refine m.out.mono ?_;rintro e w5 ⟨rfl,p⟩;have X:=aB p;obtain⟨U,q1,q2,q3,q4⟩:=D.out _ _ p;have q:=aB (G.out _ _ p);clear p m D G;go_wp2_with fail;refine bodyPost_ret (v:=.bool true) (by simp[results,results6,go_sem]) rfl ⟨rfl,q.out⟩
def XW(w W:World)(g:Nat)(l:List (List UInt8)):Prop:=(∀i (h:i<l.length),W.cell? ⟨g,i,none⟩=some (.string (bs l[i])))/\w.heap.size<=g/\g<W.heap.size
def XW.below{W b:World}{l:List (List UInt8)}(h:XW w W g l)(a:Below W.heap.size W b):XW w b g l:=⟨λi c=>(a.cell (p:=⟨g,i,none⟩) h.2.2).trans (h.1 i c),h.2.1,el h.2.2 a.size⟩
def RS(x:Int):(cK x).length<=50:=by
 unfold cK;have:=Hs.digitsF_len 20 x.natAbs [];simp only[ep] at this;rw[ei];have:(if x<0 then ([45]:List UInt8) else []).length<=1:=by split<;>simp
 omega
def WH(x y:Int)(k: -9223372036854775808<=x)(d:x<=9223372036854775807)(f: -9223372036854775808<=y)(j:y<=9223372036854775807)(w:World)(C:lG w)(o:kI w)(p:11<=w.heap.size):
 Calls prog 6 #[.int .i64 x,.int .i64 y] w λe m=>e=.returned (.bool true)/\Below w.heap.size w m:=by
 refine RU w x y (cS x) (cS y) (cK x) (cK y) (λW=>Below w.heap.size w W) (λg W=>Below w.heap.size w W/\XW w W g (oX x y))
  (nP x) (nP y) (RS x) (RS y) (eh _ _) (λW a=>?_) (λW a=>?_) (λW a=>?_) (λg W a=>?_) (λg W a=>?_) (λg W a=>?_) (λg W a=>a.1)
 ·refine(yJ x k d W (o.below a)).mono ?_;rintro e m ⟨l,b⟩;exact⟨l,a.trans (b.mono a.size)⟩
 ·refine(yJ y f j W (o.below a)).mono ?_;rintro e m ⟨l,b⟩;exact⟨l,a.trans (b.mono a.size)⟩
 ·have r:=PC W (iC x y) 12 (oX x y) (EM x y k d f j) (C.below a) (o.below a) (em p a.size)
  have e:iC x y=[102,117,110,99,32,102,40,112,41,32,123,32,112,91,48,93,32,61,32,55,59,32,114,101,116,117,114,110,32,112,59,32,125,10,102,117,110,99,32,109,97,105,110,40,41,32,123,10,118,97,114,32,97,32,61,32,91]++cS x++[44,32,91,49,44,32,50,93,93,59,10,118,97,114,32,98,32,61,32,97,59,10,118,97,114,32,99,32,61,32,91,97,44,32,98,93,59,10,118,97,114,32,100,32,61,32,102,40,97,41,59,10,98,91,49,93,91,48,93,32,61,32]++cS y++[59,10,99,91,48,93,91,49,93,32,61,32,91,93,59,10,112,114,105,110,116,32,97,59,32,112,114,105,110,116,32,98,59,32,112,114,105,110,116,32,99,59,32,112,114,105,110,116,32,100,59,10,125]:=by
   unfold iC Hs.cpA Hs.cpB uC;simp only[fo,fh,gv]
  rw[e,<-iK,<-iK,<-iK,<-iK] at r;refine r.mono ?_;rintro e m ⟨X,n,c,rfl,⟨I,H,s,q⟩,b⟩;have K:(oX x y).length=4:=rfl;obtain⟨g,rfl,L,B,D⟩:=q 0 o_
  simp only[Value.slice.injEq] at s;obtain⟨rfl,rfl,rfl⟩:=s;refine⟨g,_,_,rfl,a.trans (b.mono a.size),λi F=>?_,em a.size B,D⟩
  obtain⟨J,E,G,_,_⟩:=q i F;cases E;exact G
 ·refine(vF x k d W (o.below a.1)).mono ?_;rintro e m ⟨l,b⟩;exact⟨l,a.1.trans (b.mono a.1.size),a.2.below b⟩
 ·refine(vF y f j W (o.below a.1)).mono ?_;rintro e m ⟨l,b⟩;exact⟨l,a.1.trans (b.mono a.1.size),a.2.below b⟩
 ·obtain⟨_,h,_,A⟩:=a;rw[UJ] at h;unfold AP at h;have t:=h 0 s_
  have u:=h 1 s_
  have v:=h 2 s_
  have z:=h 3 s_
  simp only[jw,List.getElem_cons_succ,<-iK] at t u v z;exact⟨t,u,v,z,A⟩
open Go.RowKit Go.Lib
def FT{H:Type}{enc:TypeId × Value->H}{P:Program}{b_:Nat}{r:Nat->Bool}{c:Bool}{fuel:Nat}{t e:TypeId}{n:Nat}{cs:List Value}{a:List (List UInt8)}{p:List MemPlace}
 (v:P.underlying t=some (.array n e)) (D:P.underlying e=some .string) (j:P.cellsOf e=1) (g:P.cellsOf t=n) (E:a.length=n)
 (h:DataW.trod enc P w b_ r c fuel t cs=some (.agg (a.map λb=>.lit (.string b)),p)):cs=a.map λb=>Value.string (bs b):=by
 obtain⟨k,m,rfl,A,d,q,f⟩:=DataW.trod_array v h;rw[g] at d;refine List.ext_getElem? λi=>?_
 by_cases z:i<n
 ·have o:=f i z;rw[j,je,fg o_] at o
  obtain⟨s,B,y,_⟩:=DataW.trod_string D o;have C:k.map (·.1)=a.map λb=>(DataW.lit (.string b):DataW H):=(DataW.agg.inj (Prod.mk.inj A).1).symm
  have l:(k.map (·.1))[i]?=(a.map λb=>(DataW.lit (.string b):DataW H))[i]?:=by rw[C]
  rw[ix,ix,fg (by omega:i<k.length),fg (by omega:i<a.length),y] at l
  simp only[ii,Option.some.injEq,DataW.lit.injEq,Lit.string.injEq] at l;rw[ix,fg (by omega:i<a.length)]
  have x:((cs.drop i).take 1)[0]?=some (.string s):=by rw[B];rfl
  have u:cs[i]?=some (.string s):=by simpa using x
  rw[u];simp only[ii,Option.some.injEq,Value.string.injEq];rw[<-l];rfl
 ·rw[gg o_,gg t_]
def iQ{P:Program}{n:String}{cs:Array Value}(b:P.globalNamed n=some g)(h:w.var? P n=some cs):∃t a,w.heap[g]?=some (.cells cs t a):=by
 simp only[World.var?,b,Option.bind_some] at h;split at h
 ·next cs' t a hb=>cases h;exact⟨t,a,hb⟩
 ·cases h
def oT{k:String}{t n:Nat}{a:List (List UInt8)}(m:prog.globalNamed k=some g)(q:(prog.globals[g]?).map (·.type)=some t)(v:prog.underlying t=some (.array n 9))(c:prog.cellsOf t=n)(u:a.length=n)
 (h:VarReads prog w k (.agg (a.map λb=>.lit (.string b)))):∃f d,w.heap[g]?=some (.cells (a.map λb=>Value.string (bs b)).toArray f d):=by
 obtain⟨y,z,s,fuel,p,i,j,x,o⟩:=h;obtain rfl:=Option.some.inj (m.symm.trans i);obtain rfl:=Option.some.inj (q.symm.trans j);obtain⟨f,d,r⟩:=iQ m x;have:=FT v underlying9 k_ c u o
 obtain⟨l⟩:=s;have e:l=a.map λb=>Value.string (bs b):=this
 subst e;exact⟨f,d,r⟩
def O9:prog.globalNamed "hindsight/hindsightref.others"=some 0:=k_
def MD:prog.globalNamed "hindsight/syntax.marks"=some 6:=k_
def rZ:prog.globalNamed "strconv.ErrRange"=some 10:=k_
def VS:prog.globalNamed "math/bits.deBruijn64tab"=some 8:=k_
def J5:(prog.globals[(0:Nat)]?).map (·.type)=some 226:=k_
def KS:(prog.globals[(6:Nat)]?).map (·.type)=some 226:=k_
def KR:(prog.globals[(10:Nat)]?).map (·.type)=some 324:=k_
def c_21:prog.cellsOf 226=21:=k_
def P7:(Rows.laid_hindsight_hindsightref_others:DataW Unit)=.agg (cA.map λb=>.lit (.string b)):=rfl
def MU:(Rows.laid_hindsight_syntax_marks:DataW Unit)=.agg (cA.map λb=>.lit (.string b)):=rfl
def EL:(Rows.laid_unicode_utf8_acceptRanges:DataW Unit)=acceptData:=k_
def MV:Rows.laid_unicode_utf8_first=firstData:=Pinned.utf8First_eq
def j5:Shelf.Ren:=⟨λx=>x,λn=>if n=5 then 5 else if n=119 then 319 else if n=138 then 321 else 322,λn=>if n=3 then 4 else 5⟩
def JZ:U8Types prog j5:=⟨underlying5,underlying319,underlying321,underlying322⟩
def KA:U8Extra prog j5:=⟨k_,k_,k_,k_,k_,k_,k_⟩
def Listed(w:World):Prop:=laidMet prog Rows.checksRow.laid w
def Listed.big(h:Listed w):11<=w.heap.size:=by
 obtain⟨g,t,y,fuel,p,x,v,q,s⟩:=Lib.laidMet.reads h (n:= "math/bits.deBruijn64tab") (d:=Rows.laid_math_bits_deBruijn64tab) (by simp[Rows.checksRow])
 obtain⟨B,A,f⟩:=iQ VS q;obtain⟨z,u,m,c,C,k,l,b,r⟩:=Lib.laidMet.reads h (n:= "strconv.ErrRange") (d:=Rows.laid_strconv_ErrRange) (by simp[Rows.checksRow])
 obtain⟨j,o,a⟩:=iQ rZ b;rcases fk (8:Nat) w.heap.size with i|i
 ·rcases fk (10:Nat) w.heap.size with e|e
  ·omega
  ·rw[gx e] at a;cases a
 ·rw[gx i] at f;cases f
def Listed.others(h:Listed w):∃a c,w.heap[(0:Nat)]?=some (.cells (cA.map λb=>Value.string (bs b)).toArray a c):=
 oT O9 J5 underlying226 c_21 rfl (P7▸Lib.laidMet.reads h (n:= "hindsight/hindsightref.others") (by simp[Rows.checksRow]))
def Listed.marks(h:Listed w):∃a c,w.heap[(6:Nat)]?=some (.cells (cA.map λb=>Value.string (bs b)).toArray a c):=
 oT MD KS underlying226 c_21 rfl (MU▸Lib.laidMet.reads h (n:= "hindsight/syntax.marks") (by simp[Rows.checksRow]))
def Listed.range(h:Listed w):∃j f,w.cell? ⟨10,0,none⟩=some (.iface j f):=by
 obtain⟨g,t,i,fuel,p,a,c,k,b⟩:=Lib.laidMet.reads h (n:= "strconv.ErrRange") (d:=Rows.laid_strconv_ErrRange) (by simp[Rows.checksRow])
 obtain rfl:=Option.some.inj (rZ.symm.trans a);obtain rfl:=Option.some.inj (KR.symm.trans c);obtain⟨m,u,v,e,q,o⟩:=iface_of_trod underlying324 b;obtain⟨l⟩:=i;obtain rfl:l=_:=e;exact⟨u,v,by simpa using World.var?_cell a k 0⟩
def Listed.utf8(h:Listed w):Lib.Utf8Tabs 4 5 w:=
 utf8Tabs_of_readsT JZ KA (MV▸Lib.laidMet.reads h (n:= "unicode/utf8.first") (by simp[Rows.checksRow])) (EL▸Lib.laidMet.reads h (n:= "unicode/utf8.acceptRanges") (by simp[Rows.checksRow]))
def j8:prog.globalNamed "internal/strconv.uint64pow10"=some 1:=k_
def j7:(prog.globals[(1:Nat)]?).map (·.type)=some 285:=k_
def j9:(Rows.laid_internal_strconv_uint64pow10:DataW Unit)=Lib.tabData .u64 Lib.pow10Tab:=k_
def kE(w:World):Prop:=laidMet prog Rows.sumsRow.laid w
def kE.big(h:kE w):11<=w.heap.size:=by
 obtain⟨g,t,y,fuel,p,x,v,q,s⟩:=Lib.laidMet.reads h (n:= "math/bits.deBruijn64tab") (d:=Rows.laid_math_bits_deBruijn64tab) (by simp[Rows.sumsRow])
 obtain⟨B,A,f⟩:=iQ VS q;obtain⟨z,u,m,c,C,k,l,b,r⟩:=Lib.laidMet.reads h (n:= "strconv.ErrRange") (d:=Rows.laid_strconv_ErrRange) (by simp[Rows.sumsRow])
 obtain⟨j,o,a⟩:=iQ rZ b;rcases fk (8:Nat) w.heap.size with i|i
 ·rcases fk (10:Nat) w.heap.size with e|e
  ·omega
  ·rw[gx e] at a;cases a
 ·rw[gx i] at f;cases f
def kE.marks(h:kE w):∃a c,w.heap[(6:Nat)]?=some (.cells (cA.map λb=>Value.string (bs b)).toArray a c):=
 oT MD KS underlying226 c_21 rfl (MU▸Lib.laidMet.reads h (n:= "hindsight/syntax.marks") (by simp[Rows.sumsRow]))
def kE.range(h:kE w):∃j f,w.cell? ⟨10,0,none⟩=some (.iface j f):=by
 obtain⟨g,t,i,fuel,p,a,c,k,b⟩:=Lib.laidMet.reads h (n:= "strconv.ErrRange") (d:=Rows.laid_strconv_ErrRange) (by simp[Rows.sumsRow])
 obtain rfl:=Option.some.inj (rZ.symm.trans a);obtain rfl:=Option.some.inj (KR.symm.trans c);obtain⟨m,u,v,e,q,o⟩:=iface_of_trod underlying324 b;obtain⟨l⟩:=i;obtain rfl:l=_:=e;exact⟨u,v,by simpa using World.var?_cell a k 0⟩
def kE.utf8(h:kE w):Lib.Utf8Tabs 4 5 w:=
 utf8Tabs_of_readsT JZ KA (MV▸Lib.laidMet.reads h (n:= "unicode/utf8.first") (by simp[Rows.sumsRow])) (EL▸Lib.laidMet.reads h (n:= "unicode/utf8.acceptRanges") (by simp[Rows.sumsRow]))
def kE.all(h:kE w):lG w:=by
 obtain⟨b,c,a⟩:=h.marks;exact⟨⟨h.range,h.big⟩,⟨⟨b,c,a⟩,h.big⟩,h.utf8⟩
def kE.pow(h:kE w):kI w:=by
 obtain⟨g,t,i,fuel,p,f,c,b,a⟩:=Lib.laidMet.reads h (n:= "internal/strconv.uint64pow10") (d:=Rows.laid_internal_strconv_uint64pow10) (by simp[Rows.sumsRow])
 obtain rfl:=Option.some.inj (j8.symm.trans f);obtain rfl:=Option.some.inj (j7.symm.trans c);rw[j9] at a;have e:=Lib.cells_of_tab underlying285 underlying208 k_ k_ a
 unfold kI Lib.TabIs;rw[b,<-e]
def iL(w:World):Prop:=laidMet prog Rows.copiesRow.laid w
def iL.big(h:iL w):11<=w.heap.size:=by
 obtain⟨g,t,y,fuel,p,x,v,q,s⟩:=Lib.laidMet.reads h (n:= "math/bits.deBruijn64tab") (d:=Rows.laid_math_bits_deBruijn64tab) (by simp[Rows.copiesRow])
 obtain⟨B,A,f⟩:=iQ VS q;obtain⟨z,u,m,c,C,k,l,b,r⟩:=Lib.laidMet.reads h (n:= "strconv.ErrRange") (d:=Rows.laid_strconv_ErrRange) (by simp[Rows.copiesRow])
 obtain⟨j,o,a⟩:=iQ rZ b;rcases fk (8:Nat) w.heap.size with i|i
 ·rcases fk (10:Nat) w.heap.size with e|e
  ·omega
  ·rw[gx e] at a;cases a
 ·rw[gx i] at f;cases f
def iL.marks(h:iL w):∃a c,w.heap[(6:Nat)]?=some (.cells (cA.map λb=>Value.string (bs b)).toArray a c):=
 oT MD KS underlying226 c_21 rfl (MU▸Lib.laidMet.reads h (n:= "hindsight/syntax.marks") (by simp[Rows.copiesRow]))
def iL.range(h:iL w):∃j f,w.cell? ⟨10,0,none⟩=some (.iface j f):=by
 obtain⟨g,t,i,fuel,p,a,c,k,b⟩:=Lib.laidMet.reads h (n:= "strconv.ErrRange") (d:=Rows.laid_strconv_ErrRange) (by simp[Rows.copiesRow])
 obtain rfl:=Option.some.inj (rZ.symm.trans a);obtain rfl:=Option.some.inj (KR.symm.trans c);obtain⟨m,u,v,e,q,o⟩:=iface_of_trod underlying324 b;obtain⟨l⟩:=i;obtain rfl:l=_:=e;exact⟨u,v,by simpa using World.var?_cell a k 0⟩
def iL.utf8(h:iL w):Lib.Utf8Tabs 4 5 w:=
 utf8Tabs_of_readsT JZ KA (MV▸Lib.laidMet.reads h (n:= "unicode/utf8.first") (by simp[Rows.copiesRow])) (EL▸Lib.laidMet.reads h (n:= "unicode/utf8.acceptRanges") (by simp[Rows.copiesRow]))
def iL.all(h:iL w):lG w:=by
 obtain⟨b,c,a⟩:=h.marks;exact⟨⟨h.range,h.big⟩,⟨⟨b,c,a⟩,h.big⟩,h.utf8⟩
def iL.pow(h:iL w):kI w:=by
 obtain⟨g,t,i,fuel,p,f,c,b,a⟩:=Lib.laidMet.reads h (n:= "internal/strconv.uint64pow10") (d:=Rows.laid_internal_strconv_uint64pow10) (by simp[Rows.copiesRow])
 obtain rfl:=Option.some.inj (j8.symm.trans f);obtain rfl:=Option.some.inj (j7.symm.trans c);rw[j9] at a;have e:=Lib.cells_of_tab underlying285 underlying208 k_ k_ a
 unfold kI Lib.TabIs;rw[b,<-e]
end Go.Proofs.YthbffcmfmjpncaaGreatDoor
