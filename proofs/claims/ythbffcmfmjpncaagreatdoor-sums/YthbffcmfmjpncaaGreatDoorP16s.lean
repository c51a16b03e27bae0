/- Sums: what an operation of two Ints is as an expression of the program's. -/
import Derived.Test.YthbffcmfmjpncaaGreatDoorP14s
import Derived.Test.YthbffcmfmjpncaaGreatDoorP15s
set_option linter.defProp false
set_option maxRecDepth 100000
namespace Go.Proofs.YthbffcmfmjpncaaGreatDoor
open Hs
open _root_.Go.Proofs.Tryz
open Go.RowKit
variable{w:World}{a:aC}
def RA(c:UInt8)(e:c∈cU)(x y:Int)(f: -9223372036854775808<=x)(a:x<=9223372036854775807)(b: -9223372036854775808<=y)(d:y<=9223372036854775807):
 kZ (hZ c x y)=.ok (iA c x y):=by
 have h:mG (hZ c x y)=.ok (kB c x y):=by
  unfold mG;rw[if_neg (by have:=vI c x y;omega),yM _ _ _ (IF c e x y),BD c e x y f a b d]
 obtain⟨q,g,i,_⟩:=EX c e x y;unfold kZ;simp only[h,g,if_pos i]
def FH(d n:Nat):Hs.ExOk [] true [] (d+1) (gR n)/\jV (d+1) (gR n)/\YD (d+1) (gR n):=
 ⟨F7 ⟨F7 rfl,rfl⟩,⟨λh=>(by simp[gR,aK] at h),by simp[gR,aK],λk a=>(by simp[gR,aK] at a)⟩,F7 rfl,λk a=>(by simp[gR,aK] at a)⟩
def A1{d:Nat}(h:Hs.ExOk [] true [] d a/\jV d a/\YD d a):Hs.ExOk [] true [] (d+1) (aK [45,120] 1 [] [a])/\jV (d+1) (aK [45,120] 1 [] [a])/\YD (d+1) (aK [45,120] 1 [] [a]):=by
 refine⟨F5 (F5 (F5 (F5 (F7 ⟨F7 rfl,a,rfl,h.1⟩)))),⟨λh=>(by simp[aK] at h),by simp[aK],λk b=>?_⟩,F5 (F7 rfl),λk b=>?_⟩
 ·obtain rfl:k=a:=by simpa [aK] using b
  exact h.2.1
 ·obtain rfl:k=a:=by simpa [aK] using b
  exact h.2.2
def XM{d:Nat}{b:aC}(c:UInt8)(j:c∈cU)(h:Hs.ExOk [] true [] d a/\jV d a/\YD d a)(i:Hs.ExOk [] true [] d b/\jV d b/\YD d b):Hs.ExOk [] true [] (d+1) (aK [c] 1 [] [a,b])/\jV (d+1) (aK [c] 1 [] [a,b])/\YD (d+1) (aK [c] 1 [] [a,b]):=by
 have g:(bF [c]=3\/bF [c]=4)/\([c]:List UInt8)≠[115]:=by
  simp only[cU,G9,I0,or_false] at j;rcases j with rfl|rfl|rfl|rfl|rfl<;>decide
 refine⟨F5 (F5 (F5 (F5 (F5 (F5 ⟨λe=>?_,a,b,rfl,h.1,i.1⟩))))),⟨λh=>absurd h g.2,by simp[aK],λk f=>?_⟩,F5 (F5 g.1),λk f=>?_⟩
 ·have e:bF [c]=9:=e;rcases g.1 with h|h<;>omega
 ·rcases G9.1 f with rfl|f
  ·exact h.2.1
  ·obtain rfl:k=b:=by simpa using f
   exact i.2.1
 ·rcases G9.1 f with rfl|f
  ·exact h.2.2
  ·obtain rfl:k=b:=by simpa using f
   exact i.2.2
def WM(d:Nat)(x:Int):Hs.ExOk [] true [] (d+3) (kC x)/\jV (d+3) (kC x)/\YD (d+3) (kC x):=by
 unfold kC;split
 ·exact XM 45 d_ (A1 (FH d _)) (FH (d+1) _)
 ·split
  ·exact A1 (FH (d+1) _)
  ·exact FH (d+2) _
def VA(c:UInt8)(a:c∈cU)(x y:Int):Hs.ExOk [] true [] 4 (iA c x y)/\jV 4 (iA c x y)/\YD 4 (iA c x y):=XM c a (WM 0 x) (WM 0 y)
def JK(x:Int):(eF x).length<=4:=by
 unfold eF;split
 ·decide
 ·split<;>simp
def SS{lo:Nat}(c:UInt8)(s:c∈cU)(x y:Int)(i: -9223372036854775808<=x)(d:x<=9223372036854775807)(f: -9223372036854775808<=y)(h:y<=9223372036854775807)(w:World)(a q:Nat)(p o j:Option Addr)(c1 r m l n:Nat)(t:TypeId)(z:Value)(E:PN (Btw lo w.heap.size) w (.iface t z) (iA c x y))(D:mD w):
 Calls prog 75 #[.agg #[.int .i64 a,.slice p 0 c1,.slice o r m,.slice j l n,.int .i64 q],.iface t z] w λe u=>e=.returned (.tuple #[.string (bs (if (cD [c] (aL x) (aL y)).2=0 then bY (cD [c] (aL x) (aL y)).1 else [])),.int .i64 ((cD [c] (aL x) (aL y)).2:Nat)])/\Below w.heap.size w u:=by
 have b:=FT [] [] 0 0 c s x y i d f h;obtain⟨k,g,B,A⟩:=LX c x y i d f h ⟨[],aG [] [] 4 (iA c x y) 0⟩ b 0 [] [];obtain⟨C,v,_⟩:=VA c s x y;refine WJ w a q p o j c1 r m l n t z E C v ?_ ?_ B A D
 ·rw[b];have:=JK x;have:=JK y;simp only[F8,G1,G4];omega
 ·rw[b];simp
def ZQ(a b:Value)(W:World):(callFunc 70 #[a,b]).run prog W=.ok (.enter 70 #[a,b]) W:=k_
def ZR(a b:Value)(W:World):(callFunc 72 #[a,b]).run prog W=.ok (.enter 72 #[a,b]) W:=k_
def IR(g:ByteArray)(w:World)(K:gV w)(O:g.size<=maxLen)(G:kZ g.data.toList=.ok a):
 Calls prog 38 #[.string g] w λe r=>∃t z,e=.returned (.tuple #[.iface t z,.int .i64 0,.int .i64 0])/\Below w.heap.size w r/\PN (Btw w.heap.size r.heap.size) r (.iface t z) a:=by
 generalize j:(w.alloc (.cells #[.string g] 9)).alloc (.cells #[.nilIface] 92)=d;have x:Below w.heap.size w d:=by rw[<-j];exact((F9 _ _).alloc (F6 _) _).alloc s_ _
 have J:d.heap.size=w.heap.size+2:=by rw[<-j];simp
 have E:d.heap[w.heap.size]?=some (.cells #[.string g] 9 (0,0)):=by rw[<-j];exact jF _ _ _
 have s:d.heap[w.heap.size+1]?=some (.cells #[.nilIface] 92 (0,0)):=by rw[<-j];exact iC _ _ _
 refine(BG w g (λv W=>∃t z,v=.tuple #[.iface t z,.int .i64 0,.int .i64 0]/\Below w.heap.size w W/\PN (Btw w.heap.size W.heap.size) W (.iface t z) a) ?_).mono ?_
 ·show Calls _ _ _ _ _
  rw[j]
  refine(pO 70 (some ⟨w.heap.size,0,none⟩) (some ⟨w.heap.size+1,0,none⟩) d
   (λW=>∃m t z,Below (d.heap.size+2) ((d.alloc (.cells #[.int .i64 0] 22)).alloc (.cells #[.int .i64 0] 3)) m/\PN (Btw (d.heap.size+2) m.heap.size) m (.iface t z) a/\W=m.setCell ⟨w.heap.size+1,0,none⟩ (.iface t z))
   (λ_ _=>False) (λW=>ZQ _ _ W) (λW u=>?_)).mono ?_
  ·have q:Below d.heap.size d W:=by rw[u];exact((F9 _ _).alloc (F6 _) _).alloc s_ _
   have y:W.heap.size=d.heap.size+2:=by rw[u];simp
   have L:W.heap[d.heap.size]?=some (.cells #[.int .i64 0] 22 (0,0)):=by rw[u];exact jF _ _ _
   have N:W.heap[d.heap.size+1]?=some (.cells #[.int .i64 0] 3 (0,0)):=by rw[u];exact iC _ _ _
   refine(YN g w.heap.size (w.heap.size+1) W ((K.below x).below q) O (aA (by rw[q.block _ o_];exact E) rfl) (by rw[q.block _ o_];exact s)).mono ?_
   rintro e r (⟨rfl,m,v,P,i,o,F,rfl⟩|⟨f,i,_⟩)
   ·rw[G] at i;cases i;obtain⟨t,Q,rfl⟩:=F.form;refine F7 ⟨rfl,?_,?_,m,t,_,by rw[<-u,<-y];exact o,by rw[<-y];exact F,rfl⟩
    ·rw[G0 _ _ _ _ (show d.heap.size≠w.heap.size+1 by omega),o.block _ o_];exact L
    ·rw[G0 _ _ _ _ (show d.heap.size+1≠w.heap.size+1 by omega),o.block _ o_];exact N
   ·rw[G] at i;cases i
  ·rintro e r (⟨rfl,m,⟨l,t,z,i,o,rfl⟩,rfl⟩|⟨k,n,_,_,_,h⟩)
   ·have B:=i.size;simp at B
    have D:l.heap[w.heap.size+1]?=some (.cells #[.nilIface] 92 (0,0)):=by
     rw[i.block _ o_]
     exact cV _ _ t_ _ (cV _ _ o_ _ s)
    have A:∀k,k≠w.heap.size+1->k≠d.heap.size->k≠d.heap.size+1->(((l.setCell ⟨w.heap.size+1,0,none⟩ (.iface t z)).setCell ⟨d.heap.size,0,none⟩ (.int .i64 0)).setCell ⟨d.heap.size+1,0,none⟩ (.int .i64 0)).heap[k]?=l.heap[k]?:=λk a b c=>by
     rw[G0 _ _ _ _ c,G0 _ _ _ _ b,G0 _ _ _ _ a]
    have p:(((l.setCell ⟨w.heap.size+1,0,none⟩ (.iface t z)).setCell ⟨d.heap.size,0,none⟩ (.int .i64 0)).setCell ⟨d.heap.size+1,0,none⟩ (.int .i64 0)).heap[w.heap.size+1]?=some (.cells #[.iface t z] 92 (0,0)):=by
     rw[G0 _ _ _ _ (show w.heap.size+1≠d.heap.size+1 by omega),G0 _ _ _ _ (show w.heap.size+1≠d.heap.size by omega)]
     exact aO D
    have M:(((l.setCell ⟨w.heap.size+1,0,none⟩ (.iface t z)).setCell ⟨d.heap.size,0,none⟩ (.int .i64 0)).setCell ⟨d.heap.size+1,0,none⟩ (.int .i64 0)).heap.size=l.heap.size:=s_
    have C:Below w.heap.size w (((l.setCell ⟨w.heap.size+1,0,none⟩ (.iface t z)).setCell ⟨d.heap.size,0,none⟩ (.int .i64 0)).setCell ⟨d.heap.size+1,0,none⟩ (.int .i64 0)):=
     ((((x.trans ((((F9 _ d).alloc (F6 _) _).alloc s_ _).mono o_)).trans (i.mono o_)).setCell (by show _<=w.heap.size+1;omega) _).setCell (by show _<=d.heap.size;omega) _).setCell (by show _<=d.heap.size+1;omega) _
    generalize ((l.setCell ⟨w.heap.size+1,0,none⟩ (.iface t z)).setCell ⟨d.heap.size,0,none⟩ (.int .i64 0)).setCell ⟨d.heap.size+1,0,none⟩ (.int .i64 0)=S at*;refine⟨0,0,.iface t z,rfl,F5 ⟨t,z,rfl⟩,aA p rfl,aE p,aD p,t,z,rfl,C.setCell (by show _<=w.heap.size+1;omega) _,?_⟩
    refine PN.grow o (λk I H=>?_) o_ t_
    rw[G0 _ _ _ _ (show k≠w.heap.size+1 by omega),A k o_ o_ o_]
   ·exact h.elim
 ·rintro e r ⟨v,rfl,t,z,rfl,i,o⟩;exact⟨t,z,rfl,i,o⟩
noncomputable def jJ(c:UInt8)(x y:Int):Nat:=(cD [c] (aL x) (aL y)).2
noncomputable def kA(c:UInt8)(x y:Int):List UInt8:=if jJ c x y=0 then bY (cD [c] (aL x) (aL y)).1 else []
def OV{lo:Nat}(c:UInt8)(X:c∈cU)(x y:Int)(N: -9223372036854775808<=x)(H:x<=9223372036854775807)(J: -9223372036854775808<=y)(K:y<=9223372036854775807)(w:World)(a q:Nat)(F D o:Option Addr)(c1 G B p C:Nat)(t:TypeId)(z:Value)(S:PN (Btw lo w.heap.size) w (.iface t z) (iA c x y))(hp:mD w):
 Calls prog 39 #[.agg #[.int .i64 a,.slice F 0 c1,.slice D G B,.slice o p C,.int .i64 q],.iface t z] w λe m=>e=.returned (.agg #[.string (bs (kA c x y)),.int .i64 (jJ c x y),.int .i64 0,.int .i64 0])/\Below w.heap.size w m:=by
 have I:=PN.ar 4 S (VA c X x y).2.2;refine(CF w a q F D o 0 c1 G B p C t z (λv W=>v=.agg #[.string (bs (kA c x y)),.int .i64 (jJ c x y),.int .i64 0,.int .i64 0]/\Below w.heap.size w W) (λk l W=>k=0/\l=0/\Below w.heap.size w W) (λW r h0 h1 aa=>?_) (λk l W L j M _=>absurd M.1 j) (λl W L M f=>?_)).mono ?_
 ·refine(pO 72 (some ⟨w.heap.size+1,0,none⟩) (some ⟨w.heap.size,0,none⟩) W (λA=>Below (W.heap.size+2) ((W.alloc (.cells #[.int .i64 0] 22)).alloc (.cells #[.int .i64 0] 3)) A) (λ_ _=>False) (λW=>ZR _ _ W) (λV u=>?_)).mono ?_
  ·have E:Below W.heap.size W V:=by rw[u];exact((F9 _ _).alloc (F6 _) _).alloc s_ _
   have O:V.heap.size=W.heap.size+2:=by rw[u];simp
   have hK:V.heap[W.heap.size]?=some (.cells #[.int .i64 0] 22 (0,0)):=by rw[u];exact jF _ _ _
   have hI:V.heap[W.heap.size+1]?=some (.cells #[.int .i64 0] 3 (0,0)):=by rw[u];exact iC _ _ _
   refine(AK V (w.heap.size+1) w.heap.size a q F D o 0 c1 G B p C t z (λA=>Below V.heap.size V A) (by rw[E.block _ o_];exact h1) (by rw[E.block _ o_];exact h0) (λA T=>?_)).mono ?_
   ·refine(MY A a q F D o c1 G B p C).mono ?_;rintro e U ⟨rfl,P⟩;have i:Below V.heap.size V U:=T.below.trans (P.mono T.below.size);refine⟨_,_,_,rfl,i,(GI I none 0 0 U).mono ?_⟩;rintro e w3 ⟨rfl,Q⟩;exact⟨rfl,i.trans (Q.mono i.size)⟩
   ·rintro e m ⟨rfl,g⟩;exact F7 ⟨rfl,by rw[g.block _ o_];exact hK,by rw[g.block _ o_];exact hI,by rw[<-u,<-O];exact g⟩
  ·rintro e m (⟨rfl,Y,Z,rfl⟩|⟨k,n,_,_,_,h⟩)
   ·have s:Below W.heap.size W ((Y.setCell ⟨W.heap.size,0,none⟩ (.int .i64 0)).setCell ⟨W.heap.size+1,0,none⟩ (.int .i64 0)):=
     (((((F9 _ W).alloc (F6 _) _).alloc s_ _).trans (Z.mono o_)).setCell (by show _<=W.heap.size;omega) _).setCell (by show _<=W.heap.size+1;omega) _
    exact⟨0,0,rfl,s,rfl,rfl,r.trans (s.mono r.size)⟩
   ·exact h.elim
 ·obtain⟨_,rfl,d⟩:=M
  have b:Below w.heap.size w L:=⟨f.os.trans d.os,f.tape.trans d.tape,f.output.trans d.output,G6 d.size f.size,λk j=>by
   rw[f.block k (G3 j d.size) o_,d.block k j]⟩
  refine(SS c X x y N H J K L a q F D o c1 G B p C t z (PN.grow S (λk _ j=>b.block k j) (F6 lo) b.size) (hp.below b)).mono ?_
  rintro e m ⟨rfl,r⟩;exact⟨_,_,rfl,r,λab g=>⟨rfl,(b.trans (r.mono b.size)).trans g⟩⟩
 ·rintro e m ⟨v,rfl,rfl,h⟩;exact⟨rfl,h⟩
def RG(c:UInt8)(H:c∈cU)(x y:Int)(m: -9223372036854775808<=x)(j:x<=9223372036854775807)(k: -9223372036854775808<=y)(l:y<=9223372036854775807)(b:ByteArray)(g:b.data.toList=hZ c x y)(w:World)(sb:Nat)(a q:Nat)(E C r:Option Addr)(c1 F A s B:Nat)(I M:Value)(f:w.heap[sb]?=some (.cells #[.int .i64 a,.slice E 0 c1,.slice C F A,.slice r s B,.int .i64 q,I,M] 78 (0,0)))(J:gV w)(L:mD w):
 Calls prog 18 #[.pointer (some ⟨sb,0,none⟩),.string b] w λe n=>e=.returned (.tuple #[.string (bs (kA c x y)),.int .i64 (jJ c x y),.int .i64 0,.int .i64 0])/\Below w.heap.size w n:=by
 have u:b.size<=maxLen:=by
  have d:b.data.toList.length=b.size:=s_
  have o:=vI c x y;rw[g] at d;unfold maxLen;omega
 have p:=aD f;refine(MH w sb b a q E C r 0 c1 F A s B (λv W=>v=.tuple #[.string (bs (kA c x y)),.int .i64 (jJ c x y),.int .i64 0,.int .i64 0]/\Below w.heap.size w W) (λt z W=>Below w.heap.size w W/\PN (Btw w.heap.size W.heap.size) W (.iface t z) (iA c x y)) ?_ (λt z W K=>?_)).mono ?_
 ·refine(IR b w J u (by rw[g];exact RA c H x y m j k l)).mono ?_
  rintro e n ⟨t,z,rfl,d,o⟩;exact F5 ⟨t,z,rfl,d,o⟩
 ·obtain⟨d,o⟩:=K;have i:W.heap[sb]?=_:=(d.block sb p).trans f;refine⟨aA i rfl,aA i rfl,aA i rfl,aA i rfl,aA i rfl,aD i,?_⟩;refine(OV c H x y m j k l W a q E C r c1 F A s B t z o (L.below d)).mono ?_;rintro e n ⟨rfl,G⟩;exact⟨_,_,_,_,rfl,λN D=>⟨rfl,(d.trans (G.mono d.size)).trans (D.mono (G6 d.size G.size))⟩⟩
 ·rintro e n ⟨v,rfl,rfl,h⟩;exact⟨rfl,h⟩
def FG:Nat->UInt8
 |0=>43
 |1=>45
 |2=>42
 |3=>47
 |_=>37
def VX:∀k,FG k∈cU
 |0=>by decide
 |1=>by decide
 |2=>by decide
 |3=>by decide
 |_+4=>by show (37:UInt8)∈_;decide
def ZU(w:World)(sb:Nat)(W:World):Prop:=
 Below w.heap.size w W/\W.heap[w.heap.size]?=some YO/\∃(a q:Nat) (x1 x2 x3:Option Addr) (c1 n2 c2 n3 c3:Nat) (ev mv:Value),W.heap[sb]?=some (.cells #[.int .i64 a,.slice x1 0 c1,.slice x2 n2 c2,.slice x3 n3 c3,.int .i64 q,ev,mv] 78 (0,0))
def ZU.later{W f:World}{sb:Nat}(h:ZU w sb W)(b:Below W.heap.size W f):ZU w sb f:=by
 obtain⟨d,c,a,q,p,n,g,k,r,l,i,m,j,o,e⟩:=h;exact⟨d.trans (b.mono d.size),(b.block _ (aD c)).trans c,a,q,p,n,g,k,r,l,i,m,j,o,(b.block _ (aD e)).trans e⟩
def QZ(k:Nat)(m:k<5)(x y:Int)(j: -9223372036854775808<=x)(i:x<=9223372036854775807):
 (2<k/\y=0/\jJ (FG k) x y=3/\kA (FG k) x y=[])\/(jJ (FG k) x y=0/\∃V, -9223372036854775808<=V/\V<=9223372036854775807/\kA (FG k) x y=cT V/\((k=0/\V=wrap64 (x+y))\/(k=1/\V=wrap64 (x-y))\/(k=2/\V=wrap64 (x*y))\/(k=3/\y= -1/\V=wrap64 (-x))\/(k=4/\y= -1/\V=0)\/(k=3/\y≠0/\y≠ -1/\V=wrap64 (x.tdiv y))\/(k=4/\y≠0/\y≠ -1/\V=x.tmod y))):=by
 have l:∀n:Int,bY (aL n)=cT n:=λn=>by rw[gF];rfl
 have a:∀(c:UInt8) (n:Int),cD [c] (aL x) (aL y)=(aL n,0)->jJ c x y=0/\kA c x y=cT n:=λc n e=>by
  unfold kA jJ;rw[e];exact⟨rfl,l n⟩
 obtain rfl|rfl|rfl|rfl|rfl:k=0\/k=1\/k=2\/k=3\/k=4:=o_
 ·obtain⟨g,f⟩:=a 43 (eW (x+y)) rfl;exact F5 ⟨g,_,(jH _).1,(jH _).2,f,F7 ⟨rfl,oM _⟩⟩
 ·obtain⟨g,f⟩:=a 45 (eW (x-y)) rfl;exact F5 ⟨g,_,(jH _).1,(jH _).2,f,F5 (F7 ⟨rfl,oM _⟩)⟩
 ·obtain⟨g,f⟩:=a 42 (eW (x*y)) rfl;exact F5 ⟨g,_,(jH _).1,(jH _).2,f,F5 (F5 (F7 ⟨rfl,oM _⟩))⟩
 ·have b:cD [47] (aL x) (aL y)=if y=0 then (cJ,3) else (aL (eW (x.tdiv y)),0):=rfl
  by_cases h:y=0
  ·rw[if_pos h] at b;exact F7 ⟨o_,h,by show (cD [47] _ _).2=3;rw[b],by show (if (cD [47] _ _).2=0 then _ else _)=_;rw[b];rfl⟩
  ·rw[if_neg h] at b;obtain⟨g,f⟩:=a 47 _ b;refine F5 ⟨g,_,(jH _).1,(jH _).2,f,?_⟩;by_cases d:y= -1
   ·subst d;exact F5 (F5 (F5 (F7 ⟨rfl,rfl,by rw[oM,Int.tdiv_neg,Int.tdiv_one]⟩)))
   ·exact F5 (F5 (F5 (F5 (F5 (F7 ⟨rfl,h,d,oM _⟩)))))
 ·have b:cD [37] (aL x) (aL y)=if y=0 then (cJ,3) else (aL (eW (x.tmod y)),0):=rfl
  by_cases h:y=0
  ·rw[if_pos h] at b;exact F7 ⟨o_,h,by show (cD [37] _ _).2=3;rw[b],by show (if (cD [37] _ _).2=0 then _ else _)=_;rw[b];rfl⟩
  ·rw[if_neg h] at b;obtain⟨g,f⟩:=a 37 _ b;have d:=GZ x y j i;rw[CM _ d.1 d.2] at f;refine F5 ⟨g,_,d.1,d.2,f,?_⟩;by_cases d:y= -1
   ·subst d;exact F5 (F5 (F5 (F5 (F7 ⟨rfl,rfl,by rw[Int.tmod_neg,Int.tmod_one]⟩))))
   ·exact F5 (F5 (F5 (F5 (F5 (F5 ⟨rfl,h,d,rfl⟩)))))
def UZ(x y c:Int)(m: -9223372036854775808<=x)(j:x<=9223372036854775807)(r: -9223372036854775808<=y)(t:y<=9223372036854775807)(H: -9223372036854775808<=c)(I:c<=9223372036854775807)(w:World)(O:gV w)(B:mD w):
 Calls prog 5 #[.int .i64 x,.int .i64 y,.int .i64 c] w λe i=>e=.returned (.bool true)/\Below w.heap.size w i:=by
 obtain⟨k,N,K⟩:∃k:Nat,k<5/\∀W,Calls prog 16 #[.int .i64 c,.int .i64 5] W λe i=>e=.returned (.int .i64 k)/\i=W:=RX c H I
 have l:Below w.heap.size w (w.alloc YO):=(F9 _ _).alloc (F6 _) _;refine QY w x y c k (jJ (FG k) x y) (FG k) (Hs.litL x) (Hs.litL y) (kA (FG k) x y) (ZU w) (QZ k N x y m j) N (lP x) (lP y) K ?_ (λd W h=>h.later ((F9 _ _).drew)) (λd W h=>?_) (λd W h=>?_) (λd W h=>?_) (λd W h=>?_) (λV d W h A z=>?_) (λd W h=>h.1)
 ·refine(TJ _ (.slice none 0 0) [] (w.alloc YO) (O.below l) d_ (F7 ⟨rfl,rfl⟩) (λJ p _=>?_)).mono ?_
  ·have e:dK sO=.ok J:=p;rw[qV] at e;cases e;exact⟨(⟨[],[],[]⟩,1),sY,λlo W v hv D=>MA W v hv D⟩
  ·rintro e i ⟨v,rfl,L,⟨_,J,fp,G,d,mb,p,rfl,_,_,_,s,f,D⟩|⟨C,_⟩⟩
   ·have e:dK sO=.ok J:=p;rw[qV] at e;cases e;refine⟨d,rfl,l.trans (L.mono l.size),(L.block _ s_).trans (aU _ _ rfl _),?_⟩
    have u:=f.now;rw[D] at u;have u:qB (cZ fM 2001) (fH fM 2001 []) 0=some s:=u;rw[sY] at u;cases u;obtain⟨fv,S,ov,P,es,k1,Z, -⟩:=f.blk;obtain⟨ab,aa,Q,F,M,f1,Y,f3,f4⟩:=Z;simp only[Value.agg.injEq,Array.mk.injEq,List.cons.injEq,and_true,true_and] at M;obtain⟨rfl,rfl,rfl⟩:=M;cases F with
    |cons v vs=>exact Y.elim
    |nil=>
     obtain⟨y1,d1,rfl⟩:∃x c,fv=.slice x 0 c:=by
      rcases f1 with ⟨_,h⟩|⟨g,c,E,h,_⟩
      ·exact h
      ·exact⟨_,_,h⟩
     obtain⟨y2,m2,d2,rfl⟩:∃x n c,S=.slice x n c:=by
      rcases f3 with ⟨_,x,c,h⟩|⟨g,o,c,h,_⟩
      ·exact⟨_,_,_,h⟩
      ·exact⟨_,_,_,h⟩
     obtain⟨y3,m3,d3,rfl⟩:∃x n c,ov=.slice x n c:=by
      rcases f4 with ⟨_,h⟩|⟨g,c,E,h,_⟩
      ·exact⟨_,_,_,h⟩
      ·exact⟨_,_,_,h⟩
     exact⟨_,_,_,_,_,_,_,_,_,_,_,_,k1⟩
   ·exact absurd (show (dE sO).1=0 by rw[EY]) C
 ·have z:=h.2.1;obtain rfl|rfl|rfl|rfl|rfl:k=0\/k=1\/k=2\/k=3\/k=4:=o_
  all_goals exact aA z rfl
 ·exact(vP x m j W (B.below h.1)).mono λe i b=>⟨b.1,h.later b.2⟩
 ·exact(vP y r t W (B.below h.1)).mono λe i b=>⟨b.1,h.later b.2⟩
 ·obtain⟨A,z,a,q,x1,X,x3,c1,n2,T,n3,c3,P,mv,U⟩:=id h;refine(RG (FG k) (VX k) x y m j r t _ ?_ W d a q x1 X x3 c1 n2 T n3 c3 P mv U (O.below A) (B.below A)).mono λe i b=>⟨b.1,h.later b.2⟩
  rw[iK,iK,jM];unfold hZ;simp
 ·exact(zF V A z W (B.below h.1)).mono λe i b=>⟨b.1,h.later b.2⟩
open Go.RowKit Go.Lib
def BF{H:Type}{enc:TypeId × Value->H}{P:Program}{b_:Nat}{u:Nat->Bool}{c:Bool}{fuel:Nat}{t e:TypeId}{n:Nat}{f:List Value}{a:List (List UInt8)}{p:List MemPlace}
 (x:P.underlying t=some (.array n e)) (E:P.underlying e=some .string) (k:P.cellsOf e=1) (j:P.cellsOf t=n) (F:a.length=n)
 (h:DataW.trod enc P w b_ u c fuel t f=some (.agg (a.map λb=>.lit (.string b)),p)):f=a.map λb=>Value.string (bs b):=by
 obtain⟨l,m,rfl,B,d,r,g⟩:=DataW.trod_array x h;rw[j] at d;refine List.ext_getElem? λi=>?_
 by_cases A:i<n
 ·have q:=g i A;rw[k,Nat.mul_one,H7 o_] at q
  obtain⟨s,C,z,_⟩:=DataW.trod_string E q;have D:l.map (·.1)=a.map λb=>(DataW.lit (.string b):DataW H):=(DataW.agg.inj (Prod.mk.inj B).1).symm
  have o:(l.map (·.1))[i]?=(a.map λb=>(DataW.lit (.string b):DataW H))[i]?:=by rw[D]
  rw[N9,N9,H7 (by omega:i<l.length),H7 (by omega:i<a.length),z] at o
  simp only[Option.map_some,Option.some.injEq,DataW.lit.injEq,Lit.string.injEq] at o;rw[N9,H7 (by omega:i<a.length)]
  have y:((f.drop i).take 1)[0]?=some (.string s):=by rw[C];rfl
  have v:f[i]?=some (.string s):=by simpa using y
  rw[v];simp only[Option.map_some,Option.some.injEq,Value.string.injEq];rw[<-o];rfl
 ·rw[J0 o_,J0 t_]
def iT{P:Program}{n:String}{g:Nat}{b:Array Value}(c:P.globalNamed n=some g)(h:w.var? P n=some b):∃t a,w.heap[g]?=some (.cells b t a):=by
 simp only[World.var?,c,Option.bind_some] at h;split at h
 ·next cs' t a hb=>cases h;exact⟨t,a,hb⟩
 ·cases h
def rM{k:String}{g t n:Nat}{a:List (List UInt8)}(m:prog.globalNamed k=some g)(q:(prog.globals[g]?).map (·.type)=some t)(v:prog.underlying t=some (.array n 9))(c:prog.cellsOf t=n)(u:a.length=n)
 (h:VarReads prog w k (.agg (a.map λb=>.lit (.string b)))):∃f d,w.heap[g]?=some (.cells (a.map λb=>Value.string (bs b)).toArray f d):=by
 obtain⟨y,z,s,fuel,p,i,j,x,o⟩:=h;obtain rfl:=Option.some.inj (m.symm.trans i);obtain rfl:=Option.some.inj (q.symm.trans j);obtain⟨f,d,r⟩:=iT m x;have:=BF v underlying9 k_ c u o
 obtain⟨l⟩:=s;have e:l=a.map λb=>Value.string (bs b):=this
 subst e;exact⟨f,d,r⟩
def WV:prog.globalNamed "hindsight/hindsightref.others"=some 0:=k_
def QB:prog.globalNamed "hindsight/syntax.marks"=some 6:=k_
def xC:prog.globalNamed "strconv.ErrRange"=some 10:=k_
def WW:prog.globalNamed "math/bits.deBruijn64tab"=some 8:=k_
def UY:(prog.globals[(0:Nat)]?).map (·.type)=some 226:=k_
def PI:(prog.globals[(6:Nat)]?).map (·.type)=some 226:=k_
def PH:(prog.globals[(10:Nat)]?).map (·.type)=some 324:=k_
def c_21:prog.cellsOf 226=21:=k_
def XF:(Rows.laid_hindsight_hindsightref_others:DataW Unit)=.agg (bX.map λb=>.lit (.string b)):=rfl
def QE:(Rows.laid_hindsight_syntax_marks:DataW Unit)=.agg (bX.map λb=>.lit (.string b)):=rfl
def KO:(Rows.laid_unicode_utf8_acceptRanges:DataW Unit)=acceptData:=k_
def QF:Rows.laid_unicode_utf8_first=firstData:=Pinned.utf8First_eq
def A2:Shelf.Ren:=⟨λx=>x,λn=>if n=5 then 5 else if n=119 then 319 else if n=138 then 321 else 322,λn=>if n=3 then 4 else 5⟩
def PE:U8Types prog A2:=⟨underlying5,underlying319,underlying321,underlying322⟩
def PF:U8Extra prog A2:=⟨k_,k_,k_,k_,k_,k_,k_⟩
def Listed(w:World):Prop:=laidMet prog Rows.checksRow.laid w
def Listed.big(h:Listed w):11<=w.heap.size:=by
 obtain⟨g,t,y,fuel,p,x,v,q,s⟩:=Lib.laidMet.reads h (n:= "math/bits.deBruijn64tab") (d:=Rows.laid_math_bits_deBruijn64tab) (by simp[Rows.checksRow])
 obtain⟨B,A,f⟩:=iT WW q;obtain⟨z,u,m,c,C,k,l,b,r⟩:=Lib.laidMet.reads h (n:= "strconv.ErrRange") (d:=Rows.laid_strconv_ErrRange) (by simp[Rows.checksRow])
 obtain⟨j,o,a⟩:=iT xC b;rcases J8 (8:Nat) w.heap.size with i|i
 ·rcases J8 (10:Nat) w.heap.size with e|e
  ·omega
  ·rw[K7 e] at a;cases a
 ·rw[K7 i] at f;cases f
def Listed.others(h:Listed w):∃a c,w.heap[(0:Nat)]?=some (.cells (bX.map λb=>Value.string (bs b)).toArray a c):=
 rM WV UY underlying226 c_21 rfl (XF▸Lib.laidMet.reads h (n:= "hindsight/hindsightref.others") (by simp[Rows.checksRow]))
def Listed.marks(h:Listed w):∃a c,w.heap[(6:Nat)]?=some (.cells (bX.map λb=>Value.string (bs b)).toArray a c):=
 rM QB PI underlying226 c_21 rfl (QE▸Lib.laidMet.reads h (n:= "hindsight/syntax.marks") (by simp[Rows.checksRow]))
def Listed.range(h:Listed w):∃j f,w.cell? ⟨10,0,none⟩=some (.iface j f):=by
 obtain⟨g,t,i,fuel,p,a,c,k,b⟩:=Lib.laidMet.reads h (n:= "strconv.ErrRange") (d:=Rows.laid_strconv_ErrRange) (by simp[Rows.checksRow])
 obtain rfl:=Option.some.inj (xC.symm.trans a);obtain rfl:=Option.some.inj (PH.symm.trans c);obtain⟨m,u,v,e,q,o⟩:=iface_of_trod underlying324 b;obtain⟨l⟩:=i;obtain rfl:l=_:=e;exact⟨u,v,by simpa using World.var?_cell a k 0⟩
def Listed.utf8(h:Listed w):Lib.Utf8Tabs 4 5 w:=
 utf8Tabs_of_readsT PE PF (QF▸Lib.laidMet.reads h (n:= "unicode/utf8.first") (by simp[Rows.checksRow])) (KO▸Lib.laidMet.reads h (n:= "unicode/utf8.acceptRanges") (by simp[Rows.checksRow]))
def C7:prog.globalNamed "internal/strconv.uint64pow10"=some 1:=k_
def C4:(prog.globals[(1:Nat)]?).map (·.type)=some 285:=k_
def C8:(Rows.laid_internal_strconv_uint64pow10:DataW Unit)=Lib.tabData .u64 Lib.pow10Tab:=k_
def gU(w:World):Prop:=laidMet prog Rows.sumsRow.laid w
def gU.big(h:gU w):11<=w.heap.size:=by
 obtain⟨g,t,y,fuel,p,x,v,q,s⟩:=Lib.laidMet.reads h (n:= "math/bits.deBruijn64tab") (d:=Rows.laid_math_bits_deBruijn64tab) (by simp[Rows.sumsRow])
 obtain⟨B,A,f⟩:=iT WW q;obtain⟨z,u,m,c,C,k,l,b,r⟩:=Lib.laidMet.reads h (n:= "strconv.ErrRange") (d:=Rows.laid_strconv_ErrRange) (by simp[Rows.sumsRow])
 obtain⟨j,o,a⟩:=iT xC b;rcases J8 (8:Nat) w.heap.size with i|i
 ·rcases J8 (10:Nat) w.heap.size with e|e
  ·omega
  ·rw[K7 e] at a;cases a
 ·rw[K7 i] at f;cases f
def gU.marks(h:gU w):∃a c,w.heap[(6:Nat)]?=some (.cells (bX.map λb=>Value.string (bs b)).toArray a c):=
 rM QB PI underlying226 c_21 rfl (QE▸Lib.laidMet.reads h (n:= "hindsight/syntax.marks") (by simp[Rows.sumsRow]))
def gU.range(h:gU w):∃j f,w.cell? ⟨10,0,none⟩=some (.iface j f):=by
 obtain⟨g,t,i,fuel,p,a,c,k,b⟩:=Lib.laidMet.reads h (n:= "strconv.ErrRange") (d:=Rows.laid_strconv_ErrRange) (by simp[Rows.sumsRow])
 obtain rfl:=Option.some.inj (xC.symm.trans a);obtain rfl:=Option.some.inj (PH.symm.trans c);obtain⟨m,u,v,e,q,o⟩:=iface_of_trod underlying324 b;obtain⟨l⟩:=i;obtain rfl:l=_:=e;exact⟨u,v,by simpa using World.var?_cell a k 0⟩
def gU.utf8(h:gU w):Lib.Utf8Tabs 4 5 w:=
 utf8Tabs_of_readsT PE PF (QF▸Lib.laidMet.reads h (n:= "unicode/utf8.first") (by simp[Rows.sumsRow])) (KO▸Lib.laidMet.reads h (n:= "unicode/utf8.acceptRanges") (by simp[Rows.sumsRow]))
def gU.all(h:gU w):gV w:=by
 obtain⟨b,c,a⟩:=h.marks;exact⟨⟨h.range,h.big⟩,⟨⟨b,c,a⟩,h.big⟩,h.utf8⟩
def gU.pow(h:gU w):mD w:=by
 obtain⟨g,t,i,fuel,p,f,c,b,a⟩:=Lib.laidMet.reads h (n:= "internal/strconv.uint64pow10") (d:=Rows.laid_internal_strconv_uint64pow10) (by simp[Rows.sumsRow])
 obtain rfl:=Option.some.inj (C7.symm.trans f);obtain rfl:=Option.some.inj (C4.symm.trans c);rw[C8] at a;have e:=Lib.cells_of_tab underlying285 underlying208 k_ k_ a
 unfold mD Lib.TabIs;rw[b,<-e]
end Go.Proofs.YthbffcmfmjpncaaGreatDoor
