import Derived.Test.YthlhecfcnfjecaaGreatDoorP02
set_option linter.all false
set_option maxRecDepth 100000
set_option maxHeartbeats 0
open Go renaming Calls->W_
namespace Go.Proofs.YthlhecfcnfjecaaGreatDoor
open Hs _root_.Go.Proofs.Tryz Go.RowKit
variable{C:Ctx}{B F:Nat}{P:Prop}{a:aC}{D E:aN}{n:aX}{r:bU aC}
def JL(C:Ctx)(w:aN)(l:Nat)(h:lK C w (.error l)):W_ prog 257 #[aY C.pb] w (eQ C w (.error l)):=by have a:=O (J9 C w (.error l) h);have b:=O h;clear h;go_in;go_wp;apply a.mono;rintro e f ⟨⟨t,rfl,-⟩,c⟩;have ⟨h0,q,hq⟩:=b.out;obtain⟨i,-,d,-⟩:=(hq.below c).two;have g:((l:Int) !=0)=true:=G_;clear hq a;go_wp2;go_ret;exact⟨(by grind[Fr.below,eo,Below.size]),(b.below c).below (Below.two _ _),_,rfl,s_⟩
def FA(C:Ctx)(w:aN)(p:Nat)(h:At C w p 0)(b:UInt8)(k:(aR C.ts p).c_=b.toNat)(a:b=48\/b=115):W_ prog 257 #[aY C.pb] w (eQ C w (.ok (aW [b] (aR C.ts p).l_ (aR C.ts p).x_ [],p+1))):=by
 have r:=h.next (by rcases a with rfl|rfl<;>(grind));have j:=h.len;have l:=O (lU C w p 0 h);have i:=O h;clear h;generalize aR C.ts p=t at*;have ⟨so,te,li⟩:=t;simp[zM]at l k⊢;subst k;have c:(((b.toNat:Int)==48)=true)\/(((b.toNat:Int)==48)=false/\((b.toNat:Int)==115)=true):=by rcases a with rfl|rfl;simp;simp
 clear a;rcases c with v|⟨v,z⟩;all_goals go_in;go_wp;refine sa l λe f=>?_;obtain⟨D,-,-,A,B,g⟩:=i.cells f;have y:=(g 1).2;clear g;have x:=λs n=>Ic e s n b;have m:C.pb<H_ e+1:=Z;have u:C.pb<H_ e+1+1:=Z;go_wp2;go_ret;have d:=i.step f r;have o:=f.size;apply Sf (q:=p+1) (b:=H_ e+1) (d.2.ud (Below.three _ _ _)) (d.1.below (Below.three _ _ _)) Z rfl;exact kX _ _ s_ _ (wZ _ _ s_ _ _)
def Nd.step{f:aN}{g p:Nat}{b e:bQ}{a:List aC}(h:Nd C f g b e B F a (.ok p) D)(i:p+1<C.ts.length):Nd C f g b e B F a (.ok (p+1)) (D.setCell (aL C.pb 1) (Y ((p:Int)+1))):=by have ⟨x,n,c,k⟩:=h;have:=At.step k.at_ (dv _ _) i;exact⟨x,n,c,k.go this.2 this.1 s_⟩
def Tq(C:Ctx)(p:Nat)(E:Nat->bU aC)(b:(aR C.ts p).c_≠48)(a:(aR C.ts p).c_≠115):eJ E C.ts p=if sF C (.ok p) [116,114,117,101]then .ok (aW [98,111,111,108] (aR C.ts p).l_ (aR C.ts p).x_ [],p+1)else if sF C (.ok p) [102,97,108,115,101]then .ok (aW [98,111,111,108] (aR C.ts p).l_ (aR C.ts p).x_ [],p+1)else if sF C (.ok p) [40]then aQ C.ts [41] (E (p+1))else if sF C (.ok p) [91]then bV (aW [108,105,115,116] (aR C.ts p).l_ (aR C.ts p).x_) (fU E C.ts p [91] [93])else if (aR C.ts p).c_==110 then if sF C (.ok (p+1)) [40]then bV (aW [99,97,108,108] (aR C.ts p).l_ (aR C.ts p).x_) (fU E C.ts (p+1) [40] [41])else .ok (aW [110,97,109,101] (aR C.ts p).l_ (aR C.ts p).x_ [],p+1)else Hs.bad C.ts p:=by grind[eJ,sF]
def RJ(C:Ctx)(E:Nat->bU aC)(T:Hid (Reads C 100 E))(w:aN)(p:Nat)(h:At C w p 0)(h1:(aR C.ts p).c_≠48)(h2:(aR C.ts p).c_≠115)(r:bU aC)(f:Hid (r=eJ E C.ts p))(h0:Hid (r≠.error 0)):W_ prog 257 #[aY C.pb] w (eQ C w r):=by
 have f:=O (f.trans (Tq C p E h1 h2));have ⟨hpb,hgb,hlen⟩:=lK.facts (S:=.ok p) h;have HP:=O (lU C w p 0 h);have K:=O h;have e1:(((aR C.ts p).c_:Int)==48)=false:=G_;have e2:(((aR C.ts p).c_:Int)==115)=false:=G_;clear h h1 h2;go_in;go_wp;apply HP.mono;rw[zM];rintro e l ⟨rfl,G⟩;obtain⟨hl,-,-,c1,c2,M⟩:=K.cells G;have ad:C.pb<l.heap.size+1:=Z;have ab:C.pb<l.heap.size+1+1:=Z;have aa:=G.size;have d:=O λo=>Nd.new (S:=.ok p) (Fr.refl C.pb (l.alloc o)) ((lK.below (S:=.ok p) K G).alloc o) [] (aR C.ts p).x_ (aR C.ts p).l_ (λ_ _=>aJ) la la;have m:=O λo=>(Fr.below (pb:=C.pb) G).alloc o;clear M HP G;go_wp21;have g:=d (bO #[.int .u8 (aR C.ts p).c_,Q_ (bs (aR C.ts p).x_),Y (aR C.ts p).l_] 220);have F:=m (bO #[.int .u8 (aR C.ts p).c_,Q_ (bs (aR C.ts p).x_),Y (aR C.ts p).l_] 220);have N:=aV l _ aJ (bO #[.int .u8 (aR C.ts p).c_,Q_ (bs (aR C.ts p).x_),Y (aR C.ts p).l_] 220);rw[show (l.alloc _).heap.size=l.heap.size+1 by simp]at g;generalize hW:l.alloc (bO #[.int .u8 (aR C.ts p).c_,Q_ (bs (aR C.ts p).x_),Y (aR C.ts p).l_] 220)=W0 at*;have HT:Hid (∀W,Fr C.pb W0 W->W.cell? (aL l.heap.size 0)=some (.int .u8 (aR C.ts p).c_)):=λW hf=>by grind[Fr.cells,aB]
 have m:=O F;have d:=O g;clear g F N hW c1 c2;refine FN d ⟨#[116,114,117,101]⟩ f ?_ ?_
 .clear d f;intro D d f;go_wp21;refine FN d ⟨#[102,97,108,115,101]⟩ f ?_ ?_
  .clear d f;intro D d f;go_wp21;refine FN d ⟨#[40]⟩ f ?_ ?_
   .clear d f;intro D d f;go_wp21;refine mh (zw d ⟨#[91]⟩) λv2 d=>?_;have B:=f.out;obtain⟨v,⟨L,y⟩,A,-⟩:=d.Ap;cases I:sF C (.ok p) [91]<;>rw[I]at B<;>have f:=O B<;>clear B I
    .have ⟨x,n,c,g⟩:=d.out;have N:=HT v2 g.fr;by_cases s:(aR C.ts p).c_=110
     .have e3:(((aR C.ts p).c_:Int)==110)=true:=G_;have f:=O (f.trans ((dy s_).trans (ec (by rw[s];rfl))));have i:=At.next g.at_ Z;obtain⟨ae,-,-,d1,d2,M⟩:=At.cells g.at_ (dv _ _);have X:=(M 1).2;have af:¬C.pb=l.heap.size+1:=Z;have ac:¬l.heap.size+1=C.pb:=Z;have d:=O ((d.Cv ⟨#[110,97,109,101]⟩).step i);clear g M;go_wp21;refine mh (zw d ⟨#[40]⟩) λv3 d=>?_;have B:=f.out;clear v y A N d1 d2 X;obtain⟨v,⟨L,y⟩,A,-⟩:=d.Ap;cases I:sF C (.ok (p+1)) [40]<;>rw[I]at B<;>have f:=O B<;>clear B I;.go_wp2;go_ret;exact eQ.later m (d.post f)
      have t:Hid (fI (.ok (p+1)) (λq=>fU E C.ts q [40] [41])≠.error 0):=λe=>(by grind[dw,bV,fI]);have d:=O (d.Cv ⟨#[99,97,108,108]⟩);go_wp21;obtain⟨x,n,c,g⟩:=d.out;refine(O8 C E T _ (.ok (p+1)) ⟨#[40]⟩ ⟨#[41]⟩ g.at_ t).mono ?_;rintro e Q i;obtain⟨x6,n6,c6,rfl⟩:∃x n c,e=bR (P_ x n c):=by grind[xI]
      have ⟨J,z0,⟨z,z1⟩,z2⟩:=d.list s_ i;clear i g v y A;go_wp2;go_ret;exact eQ.later m (f▸J)
     have e3:(((aR C.ts p).c_:Int)==110)=false:=G_;have HF:=O (DX C v2 p g.at_);have J:Hid (r=Hs.bad C.ts p):=(by grind);have u:=O (m.trans g.fr);have H:=K.pos p K.lt;clear g s;go_wp21;refine HF.mono ?_;rintro e Q ⟨rfl,j,k⟩;go_wp2;go_ret;rw[J];exact⟨u.trans k,⟨H,p,j⟩,_,aJ,λa q h=>by cases h⟩
    have t:Hid (fI (.ok p) (λq=>fU E C.ts q [91] [93])≠.error 0):=λe=>(by grind[dw,bV,fI]);have d:=O (d.Cv ⟨#[108,105,115,116]⟩);go_wp21;obtain⟨x,n,c,g⟩:=d.out;refine(O8 C E T _ (.ok p) ⟨#[91]⟩ ⟨#[93]⟩ g.at_ t).mono ?_;rintro e Q i;obtain⟨x6,n6,c6,rfl⟩:∃x n c,e=bR (P_ x n c):=by grind[xI]
    have ⟨J,z0,⟨z,z1⟩,z2⟩:=d.list s_ i;clear i g v y A;go_wp2;go_ret;exact eQ.later m (f▸J)
   rintro q e D L v y A-f d;cases e;have ⟨x,n,c,g⟩:=d.out;have HC:=O (T D (.ok (p+1)) g.at_ (by grind[dw,fI,aQ]));have u:=O (m.trans g.fr);have hz:=g.fr.size;clear g;go_wp21;refine HC.mono ?_;rintro e w5 i;obtain⟨b,rfl⟩:=i.ptr;have P:=O (zO C w5 _ ⟨#[41]⟩ i.2.1);have V:=O i;clear i;go_wp21;refine P.mono ?_;rintro e Q ⟨rfl,j,k⟩;go_wp2;go_ret;rw[f];exact eQ.later u (eQ.take V k j Z)
  rintro q e D L v y A d f -;cases e;go_wp2;go_ret;exact eQ.later m ((d ⟨#[98,111,111,108]⟩).post f)
 rintro q e D L v y A d f -;cases e;go_wp2;go_ret;exact eQ.later m ((d ⟨#[98,111,111,108]⟩).post f)
def MN(C:Ctx)(E:Nat->bU aC)(d:Reads C 100 E):Reads C 257 (eJ E C.ts):=by intro w S h c;cases S with|error l=>exact JL C w l h|ok p=>by_cases b:(aR C.ts p).c_=48;have:=FA C w p h 48 b (.inl aJ);show W_ _ _ _ _ (eQ C w (eJ E C.ts p));unfold eJ;rw[ec G_,b];exact this;by_cases a:(aR C.ts p).c_=115;have:=FA C w p h 115 a (.inr aJ);show W_ _ _ _ _ (eQ C w (eJ E C.ts p));unfold eJ;rw[ec G_,a];exact this;exact RJ C E d w p h b a _ aJ c
theorem ve.grow{d c:Nat}(h:ve (sm d B) D n a)(g:∀k,d<=k->k<B->E.heap[k]?=D.heap[k]?)(j:F<=d)(i:B<=c):ve (sm F c) E n a:=(h.h_ qp).mono qp
def Kn{c:aX}{b:aC}(f h:bQ)(g:Nat)(l:ve (sm B (H_ D)) D n a)(m:ve (sm B (H_ D)) D c b)(i:B<=H_ D):ve (sm B (H_ D+2)) (eF (eF D #[n,c] 64) #[Q_ (bs f),Y g,Q_ (bs h),P_ (some (aL (H_ D) 0)) 2 2] 121) (aY (H_ D+1)) (aW f g h [a,b]):=by have j:∀k,B<=k->k<H_ D->(eF (eF D #[n,c] 64) #[Q_ (bs f),Y g,Q_ (bs h),P_ (some (aL (H_ D) 0)) 2 2] 121).heap[k]?=D.heap[k]?:=(by grind[ef,Below.two]);refine ve.mk ⟨Z,Z⟩ (wZ _ _ rfl _ _) (dz ⟨H_ D,2,#[n,c],[n,c],rfl,⟨i,Z⟩,?_,lZ,rfl,?_⟩);exact kX _ _ s_ _ (aV _ _ rfl _);grind[ve.grow,jN,aW]
def Rp(d f:bQ)(e:Nat)(i:ve (sm B (H_ D)) D n a)(g:B<=H_ D):ve (sm B (H_ D+2)) (eF (eF D #[n] 64) #[Q_ (bs d),Y e,Q_ (bs f),P_ (some (aL (H_ D) 0)) 1 1] 121) (aY (H_ D+1)) (aW d e f [a]):=by have h:∀k,B<=k->k<H_ D->(eF (eF D #[n] 64) #[Q_ (bs d),Y e,Q_ (bs f),P_ (some (aL (H_ D) 0)) 1 1] 121).heap[k]?=D.heap[k]?:=(by grind[ef,Below.two]);refine ve.mk ⟨Z,Z⟩ (wZ _ _ rfl _ _) (dz ⟨H_ D,1,#[n],[n],rfl,⟨g,Z⟩,?_,lZ,rfl,?_⟩);exact kX _ _ s_ _ (aV _ _ rfl _);grind[ve.grow,jN,aW]
def eQ.one{w:aN}{b:Nat}(h:eQ C w r (bR (aY b)) D)(d:bQ)(f:Nat):eQ C w (bV (λx=>aW d f [] [x]) r) (bR (aY (D.heap.size+1))) ((D.alloc (.cells #[aY b] 64)).alloc (.cells #[.string (bs d),Y f,.string (bs []),.slice (some (aL D.heap.size 0)) 1 1] 121)):=by have ⟨h1,h2,_,e,h3⟩:=h;cases e;cases r with|error l=>grind[Fr.ud,Below.two,lK.below,eQ,bV]|ok i=>exact⟨h1.ud (Below.two _ _),h2.below (Below.two _ _),_,aJ,λa q g=>by cases g;exact(Rp d [] f (h3 _ _ aJ) h1.size).mono s_⟩
def eQ.two{o c:aN}(n:Fr C.pb D E)(A:ve (sm (H_ D) (H_ E)) E (aY B) a)(v:C.pb<H_ D)(d:Fr C.pb E o)(h:eQ C o r (bR (aY F)) c)(i:bQ)(f:Nat):eQ C D (bV (λx=>aW i f [] [a,x]) r) (bR (aY (H_ c+1))) (eF (eF c #[aY B,aY F] 64) #[Q_ (bs i),Y f,Q_ (bs []),P_ (some (aL (H_ c) 0)) 2 2] 121):=by have ⟨h1,h2,_,e,h3⟩:=h;have z:=n.size;have u:=d.size;have s:=h1.size;have p:=((n.trans d).trans h1).ud (Below.two (bO #[aY B,aY F] 64) (bO #[Q_ (bs i),Y f,Q_ (bs []),P_ (some (aL (H_ c) 0)) 2 2] 121));cases r with|error l=>grind[lK.below,Below.two,eQ,bV]|ok y=>refine⟨p,h2.below (Below.two _ _),_,aJ,λt q e=>?_⟩;cases e;exact(Kn i [] f ((by grind[ve.grow,Fr.block])) ((by grind[ve.mono,sm])) Z).mono λk m=>⟨m.1,by have:=m.2;simp;exact Z⟩
theorem eQ.h_{a w w':aN}{e:Ending}(h:eQ C a r e w)(b:R_ w w'):eQ C a r e w':=by grind[Fr.ud,lK.below,ve.grow,ef,Below.size,eQ]
def eQ.is{e:Ending}(h:eQ C D r e E)(x:ByteArray):W_ prog 216 #[aY C.pb,Q_ x] E λc b=>c=bR (.bool (sF C (nL r) (eA x)))/\eQ C D r e b:=(Ch C E _ x h.2.1).mono (by grind[eQ.h_])
def Gt{S:Except Nat Nat}{A B:bU aC}{Q:Ending->World->Prop}(h:Hid (Fr C.pb D E/\lK C E S))(x:ByteArray)(f:Hid (r=if sF C S (eA x)then A else B))(j:∀a,Hid (Fr C.pb D a/\lK C a S)->Hid (r=B)->Q (bR (.bool false)) a) (i:∀p,S=.ok p->∀a,Hid (Fr C.pb D a/\lK C a (.ok (p+1)))->Hid (r=A)->Q (bR (.bool true)) a):W_ prog 217 #[aY C.pb,Q_ x] E Q:=by refine sa (Ed C E S x h.2) λg ⟨d,k⟩=>?_;have e:=f.out;cases c:sF C S (eA x)<;>rw[c]at e;rw[show uN C S (eA x)=S by cases S with|ok q=>exact BY c|error l=>rfl]at d;grind[Fr.trans,dw];cases S with|error l=>cases c|ok p=>grind[Fr.trans,dw,uN,sF]
def Ve(C:Ctx)(E:Nat->bU aC)(w:aN)(S:Except Nat Nat)(h:lK C w S)(b:∀q,S=.ok q->Reads C 100 E)(a:fI S (eJ E C.ts)≠.error 0):W_ prog 257 #[aY C.pb] w (eQ C w (fI S (eJ E C.ts))):=by cases S with|error l=>exact JL C w l h|ok p=>exact MN C E (b p aJ) w _ h a
def QO(C:Ctx)(E X:Nat->bU aC)(w:aN)(S:Except Nat Nat)(h:lK C w S)(HE:Hid (∀q,S=.ok q->Reads C 100 E))(HX:Hid (∀q,S=.ok q->Reads C 212 X))(r:bU aC)
 (f:Hid (r=if sF C S [45]then fI S λp=>bV (λx=>aW [45,120] (aR C.ts p).l_ [] [x]) (X (p+1))else if sF C S [33]then fI S λp=>bV (λx=>aW [33,120] (aR C.ts p).l_ [] [x]) (X (p+1))else bN (fI S (eJ E C.ts)) (eT E C.ts (C.ts.length+1)))) (G:Hid (r≠.error 0)):
 W_ prog 212 #[aY C.pb] w (eQ C w r):=by
 obtain⟨D,ac,T⟩:=h.facts;have HP:=O (J9 C w S h);have HA:=O h;have aa:=BU;clear h;go_in
 go_wp2_with fail;apply HP.mono
 rintro e w1 ⟨⟨t,rfl,M⟩,I⟩;have P:=O M;have H:=O (du (Fr.below (pb:=C.pb) I) (HA.below I));clear I HP M;go_wp21
 refine Gt H ⟨#[45]⟩ f ?_ ?_
 .clear H f;intro A H f;go_wp2_with fail;refine Gt H ⟨#[33]⟩ f ?_ ?_
  .clear H f;intro F H f;have g:=O (Ve C E F S H.2 HE (by grind [dw,bN]))
   go_wp2_with fail;apply g.mono
   rintro e w4 d;obtain⟨b4,rfl⟩:=d.ptr;have u:=O (eQ.later H.1 d);clear d g;go_wp2
   go_loopg [8] (C.ts.length+1) (λk v wr=>∃j b,v=aY b/\r=bN j (eT E C.ts k)/\(∀a q,j=.ok (a,q)->∃p,S=.ok p)/\eQ C w j (bR v) wr)
   case atStart=>exact⟨_,b4,aJ,f,λa q e=>(by cases S with|ok p=>simp|error l=>cases e),u⟩
   case round=>
    obtain⟨j,b,rfl,y,W,d⟩:=hrel;have c:=O d;have i:=O y;have HS:=O W;clear d y W u f H;go_wp
    refine mh (c.is ⟨#[91]⟩) λw5 c=>?_
    cases m:sF C (nL j) [91]
    .have e:r=j:=by
      rw[i];cases j with
      |error l=>rfl
      |ok s=>
       cases gk with
       |zero=>exact ep i G
       |succ k=>show eT E C.ts (k+1) s.1 s.2=_;rw[eT,show cA C.ts s.2 [91]=false from m];rfl
     subst e;clear m;go_wp2
     go_ret;exact c
    cases j with
    |error l=>cases m
    |ok s=>
     have ⟨a,q⟩:=s;have m:cA C.ts q [91]=true:=m;obtain⟨p,rfl⟩:=HS a q rfl;cases gk with
     |zero=>exact ep i G
     |succ k=>
      have e:r=bN (aQ C.ts [93] (bV (λx=>aW [105,110,100,101,120] (aR C.ts q).l_ [] [a,x]) (E (q+1)))) (eT E C.ts k):=by
       rw[i];show eT E C.ts (k+1) a q=_
       rw[eT,m,ec rfl];cases E (q+1)with
       |error l=>rfl
       |ok iq=>simp[aQ,bV];cases cA C.ts iq.2 [93]<;>rfl
      have B:=At.next c.2.1 (KJ m)
      have z:=O (lU C w5 q 0 c.2.1);have H1:=O e;clear e m;go_wp21
      apply z.mono
      rw[zM];rintro e w6 ⟨rfl,n⟩;obtain⟨ab, -, -,d1,d2,N⟩:=At.cells c.2.1 n;have L:=(N 1).2;have o:=O (At.step c.2.1 n B);have g:=O (HE p aJ _ (.ok (q+1)) o.1 λe=>G (by rw[H1,show E (q+1)=.error 0 from e];rfl))
      clear n N z;go_wp21
      apply g.mono
      rintro e w7 d;obtain⟨b7,rfl⟩:=d.ptr;have J:Hid (∀K,eQ C w (bV (λx=>aW [105,110,100,101,120] K [] [a,x]) (E (q+1))) _ _):=λK=>eQ.two c.1 (by have ⟨_,_,_,e,h⟩:=c.out;cases e;exact h a q aJ) D o.2 d [105,110,100,101,120] K
      clear d g d1 d2 L;go_wp21
      apply (zO C _ _ ⟨#[93]⟩ (J _).2.1).mono
      rintro e w8 ⟨rfl,Q,V⟩;go_wp2
      go_roundg k
      case measure=>exact Z
      grind [dw,eQ.take]
  rintro p rfl A H f;have g:=O (HX p aJ A (.ok (p+1)) H.2 (by grind [dw,fI,bV]))
  go_wp21
  apply g.mono
  rintro e F d;obtain⟨b3,rfl⟩:=d.ptr;have c:=O (eQ.later H.1 d);clear d g;go_wp2
  go_ret;rw[f,P p rfl];exact c.one _ _
 rintro p rfl A H f;have g:=O (HX p aJ A (.ok (p+1)) H.2 (by grind [dw,fI,bV]))
 go_wp21
 apply g.mono
 rintro e F d;obtain⟨b3,rfl⟩:=d.ptr;have c:=O (eQ.later H.1 d);clear d g;go_wp2
 go_ret;rw[f,P p rfl];exact c.one _ _
def UR(C:Ctx)(E:Nat->bU aC)(c:Reads C 100 E)(g:Nat):Reads C 212 (iD E C.ts g):=by
 induction g with
 |zero=>intro w S h a;cases S with|ok p=>exact ep aJ a|error l=>exact QO C E E w _ h (λ_ e=>by cases e) (λ_ e=>by cases e) _ rfl a
 |succ g b=>intro w S h a;refine QO C E _ w S h (λ_ _=>c) (λ_ _=>b) _ ?_ a;cases S<;>rfl
def Jp(C:Ctx)(w:aN)(l:Nat)(h:lK C w (.error l)):W_ prog 212 #[aY C.pb] w (eQ C w (.error l)):=QO C (λ_=>.error 0) (λ_=>.error 0) w _ h (λ_ e=>by cases e) (λ_ e=>by cases e) _ rfl λe=>h.1 G_
def Cw(x:bQ):Int:=if cU x=9 then -1 else (cU x:Int)
def FK(x:bQ)(w:aN):W_ prog 213 #[Q_ (bs x)] w λe a=>e=bR (Y (Cw x))/\a=w:=by have b:=bA x;go_in;go_wp2;all_goals go_ret;refine⟨nU ?_,aJ⟩;clear b;unfold Cw cU;simp_all
def Ng(x:bQ)(k:Nat)(a:k<=4):(Cw x !=(k:Int))=!(cU x==k):=by grind[Cw]
def X8(P:Prop)(C:Ctx)(k:Int)(X:Nat->bU aC):Prop:=∀(w:aN) (S:Except Nat Nat),lK C w S->(∀q,S=.ok q->P)->fI S X≠.error 0->W_ prog 163 #[aY C.pb,Y k] w (eQ C w (fI S X))
def P0(C:Ctx)(g:Nat)(G:g<=4)(L:Nat->bU aC)(X:Hid (X8 P C ((g:Int)+1) L))(w:aN)(S:Except Nat Nat)(h:lK C w S)(hP:Hid (∀q,S=.ok q->P))(r:bU aC) (T:Hid (r=bN (fI S L) (cH L C.ts g (C.ts.length+1)))) (M:Hid (r≠.error 0)):W_ prog 163 #[aY C.pb,Y g] w (eQ C w r):=by
 have ⟨hpb,hgb,hlen⟩:=h.facts;have V:=O (X w S h hP (by grind[dw,bN]));clear h;go_in;go_wp;apply V.mono;rintro e w4 f;obtain⟨b4,rfl⟩:=f.ptr;have D:=O f;clear f V;go_wp2;go_loopg [5] (C.ts.length+1) (λk v wr=>∃B b,v=aY b/\r=bN B (cH L C.ts g k)/\(∀a q,B=.ok (a,q)->P)/\eQ C w B (bR v) wr);case atStart=>exact⟨_,b4,aJ,T,λa q e=>(by cases S with|ok p=>exact hP p aJ|error l=>cases e),D⟩
 case round=>
  obtain⟨B,b,rfl,j,hS,f⟩:=hrel;have m:=O f;have d:=O j;have HS:=O hS;clear j hS D T;cases B with|error l=>have ⟨hl1,c,hc0,hc2⟩:=lK.bad f.2.1;clear f;go_wp2;go_ret;rw[d];exact m|ok aq=>
   have ⟨a,q⟩:=aq;have K:=O (lU C wr q 0 f.2.1);have ⟨hl1,hc2⟩:=At.vw f.2.1;clear f;cases gk with|zero=>exact ep d M|succ k=>
    have j:r=cH L C.ts g (k+1) a q:=d.out;rw[cH]at j;have s:=Ng (aR C.ts q).x_ g G;cases u:((aR C.ts q).c_==112&&cU (aR C.ts q).x_==g)<;>rw[u]at j<;>have d:=O j<;>clear j
    .have hx:(((aR C.ts q).c_:Int) !=112)=true\/(((aR C.ts q).c_:Int) !=112)=false/\(Cw (aR C.ts q).x_ !=(g:Int))=true:=by by_cases h:(aR C.ts q).c_=112;rw[h]at u⊢;exact .inr ⟨aJ,by rw[s];simpa using u⟩;exact .inl la
     clear u s;rcases hx with e1|⟨e1,e2⟩;all_goals go_wp;apply K.mono;rw[zM];rintro e E ⟨rfl,n⟩;go_wp2_with (go_at_call 213;refine sa (FK _ _) λw' I=>?_;obtain rfl:=I.symm);go_ret;rw[d];exact m.h_ (n.alloc n.size _)
    have ⟨c1,c2⟩:(aR C.ts q).c_=112/\cU (aR C.ts q).x_=g:=by simpa using u
    have e1:(((aR C.ts q).c_:Int) !=112)=false:=by rw[c1];rfl
    have e2:(Cw (aR C.ts q).x_ !=(g:Int))=false:=by rw[s,c2];simp
    have F:=At.next m.2.1 Z;clear u s c1 c2;go_wp;apply K.mono;rw[zM];rintro e E ⟨rfl,n⟩;obtain⟨aa,-,-,d1,d2,Q⟩:=At.cells m.2.1 n;have J:=(Q 1).2;have y:=O (At.step m.2.1 n F);clear Q n K;go_wp2_with (go_at_call 213;refine sa (FK _ _) λw' I=>?_;obtain rfl:=I.symm);have z:=O λo=>(dv (E.setCell (aL C.pb 1) (Y ((q:Int)+1))).heap.size _).alloc lZ o;apply (X _ (.ok (q+1)) (y.1.below (z _)) (λ_ _=>HS a q aJ) λe=>M (by rw[d,show L (q+1)=.error 0 from e];rfl)).mono;rintro e N f;obtain⟨b7,rfl⟩:=f.ptr;have t:∀i,N.cell? (aL (H_ E) i)=_:=λi=>(f.1.cells (b:=H_ E) s_ Z).1 i;have t1:=t 1;have t2:=t 2;have ab:H_ E<H_ N:=by have:=f.1.size;simp at this;exact Z
    have H:=O (eQ.two m.1 (by have ⟨_,_,_,e,h⟩:=m.out;cases e;exact h a q aJ) hpb (y.2.ud (z _)) f (aR C.ts q).x_ (aR C.ts q).l_);clear f t d1 d2 J;by_cases A:g=2
    .have ek:((g:Int)==2)=true:=by simp;exact Z
     have e:r=bV (λx=>aW (aR C.ts q).x_ (aR C.ts q).l_ [] [a,x]) (L (q+1)):=by rw[d];cases L (q+1)<;>simp[A,bV]
     have W:=O e;clear e;go_wp2;go_ret;rw[W];exact H
    have ek:((g:Int)==2)=false:=by simp;exact Z
    have e:r=bN (bV (λx=>aW (aR C.ts q).x_ (aR C.ts q).l_ [] [a,x]) (L (q+1))) (cH L C.ts g k):=by rw[d];cases L (q+1)<;>simp[A,bV,bN]
    have W:=O e;clear e;go_wp2;go_roundg k;case measure=>exact Z
    grind[dw,bs,fI]
def P2(C:Ctx)(E:Nat->bU aC)(j:P->Reads C 100 E):X8 P C 5 (iM E C.ts 0):=by
 intro w S h i d;have f:Hid (W_ prog 212 #[aY C.pb] w (eQ C w (fI S (iM E C.ts 0)))):=by cases S with|error l=>exact Jp C w l h|ok p=>exact UR C E (G_) (C.ts.length+1) w _ h d
 go_in;go_wp;apply f.mono;intro e g a;obtain⟨b,rfl⟩:=a.ptr;have c:=O a;go_wp2;go_ret;exact c
def FJ(C:Ctx)(E:Nat->bU aC)(b:P->Reads C 100 E):∀j,j<=5->X8 P C (((5-j:Nat)):Int) (iM E C.ts j)|0,_=>P2 C E b|j+1,e=>by have a:=FJ C E b j Z;intro w S h c d;rw[show (5-(j+1))=4-j by omega];rw[show (((5-j:Nat)):Int)=((4-j:Nat):Int)+1 by omega]at a;exact P0 C (4-j) Z _ a w S h c _ (by cases S<;>rfl) d
def PW(C:Ctx)(E:Nat->bU aC)(g:P->Reads C 100 E)(w:aN)(S:Except Nat Nat)(h:lK C w S)(c:∀q,S=.ok q->P)(f:fI S (iM E C.ts 5)≠.error 0):W_ prog 100 #[aY C.pb] w (eQ C w (fI S (iM E C.ts 5))):=by have i:=O (FJ C E g 5 (Z) w S h c f);go_in;go_wp;apply i.mono;intro e j a;obtain⟨b,rfl⟩:=a.ptr;have d:=O a;go_wp2;go_ret;exact d
def R9(C:Ctx)(f:Nat):Reads C 100 (jQ C.ts f):=by
 induction f with
 |zero=>intro w S h a;cases S with|ok p=>exact ep aJ a|error l=>exact PW (P:=False) C (λ_=>.error 0) (s_) w _ h (s_) a
 |succ f b=>exact λw S h a=>PW (P:=True) C _ (λ_=>b) w S h (s_) a
attribute [local go_sem ↓] Go.wp_at_zero Go.wp_at_succ
def o8(C:Ctx)(X:Nat->bU aC)(w:aN)(S:Except Nat Nat)(h:lK C w S)(F:Hid ((∃q,S=.ok q)->Reads C 258 X))(o:bU (List aC)) (A:Hid (o=fI (fR C S [123]) λq=>eX X C.ts (C.ts.length+1) q [])) (y:Hid (o≠.error 0)):W_ prog 218 #[aY C.pb] w (eQ C w (bV (aW [98,108,111,99,107] (sQ C S) []) (aQ C.ts [125] o))):=by
 have v:=h.facts.2.2;have G:=O (Fx C w S h);have D:=BU;clear h;go_in;go_wp;apply G.mono;rintro e z ⟨t,rfl,b⟩;go_wp21;refine mh (pH (b.out [98,108,111,99,107] []) ⟨#[123]⟩) λP b=>?_;go_wp2;go_loopg [] (C.ts.length+1) (λk wr=>∃d j m,m+k<=4000/\(∀q,j=.ok q->∃q,S=.ok q)/\o=fI j (λq=>eX X C.ts k q d)/\Nd C w (H_ z) [98,108,111,99,107] [] (sQ C S) m d j wr);case atStart=>exact⟨[],_,0,Z,λq e=>(by cases S with|ok p=>simp|error l=>cases e),A,b.out⟩
 case round=>
  have ⟨d,j,m,hm,hS,hr1,x,n,c,hn⟩:=hrel;have f:=O hr1;have H:=O hn;cases j with|error l=>have ⟨hl1,cc,hc0,hc2⟩:=lK.bad hn.at_;clear hn hr1 hS;go_wp;refine mh (pH ⟨x,n,c,H⟩ ⟨#[125]⟩) λu b=>?_;go_wp2;go_ret;exact b.post (by rw[f];rfl)|ok q=>
   have E:=O (hS q aJ);have ⟨hl1,hc2⟩:=At.vw hn.at_;clear hn hr1 hS;go_wp;refine mh (zw ⟨x,n,c,H⟩ ⟨#[125]⟩) λI b=>?_;clear H hl1 hc2;have a:=f.out;cases gk with|zero=>exact ep a y|succ k=>
    rw[show (fI (.ok q) λq=>eX X C.ts (k+1) q d)=eX X C.ts (k+1) q d from rfl,eX]at a;cases i:cA C.ts q [125];.rw[show sF C (.ok q) (⟨#[125]⟩:ByteArray).data.toList=false from i];rw[i,dy s_]at a;have f:=O a;have s:=O λe=>y (by rw[a,show X q=.error 0 from e]);have ⟨x,n,c,H,z0,z1,z2⟩:=b.pre;clear a i b;go_wp2;go_region_law (first|refine DV H r λQ g K B b N J L=>?_|(go_simp;go_at_call 258;refine GF H (F E) s λu M r u0 u1 u2=>?_));all_goals
      go_wp2;go_roundg k;case measure=>exact Z
      grind[dw,fI,nL,iT]
    rw[show sF C (.ok q) (⟨#[125]⟩:ByteArray).data.toList=true from i];rw[i,ec rfl]at a;have f:=O a;clear a i;go_wp21;refine mh (pH b ⟨#[125]⟩) λu b=>?_;go_wp2;go_ret;exact b.post (by rw[f];exact Qg ..)
def A8(C:Ctx)(E:Nat->bU aC)(f:Nat)(c:Reads C 258 (jU E (iO E C.ts f) C.ts)):Reads C 218 (iO E C.ts (f+1)):=by
 intro w S h a;have e:fI S (iO E C.ts (f+1))=bV (aW [98,108,111,99,107] (sQ C S) []) (aQ C.ts [125] (fI (fR C S [123]) λq=>eX (jU E (iO E C.ts f) C.ts) C.ts (C.ts.length+1) q [])):=by cases S with|error l=>rfl|ok q=>show iO E C.ts (f+1) q=_;rw[iO];grind[bV,aQ,Hs.bad,sQ,fI,fR]
 rw[e]at a⊢;exact o8 C _ w S h (λ_=>c) _ aJ λb=>a (by rw[b];rfl)
def Qw(C:Ctx)(w:aN)(l:Nat)(h:lK C w (.error l)):W_ prog 218 #[aY C.pb] w (eQ C w (.error l)):=o8 C (λ_=>.error 0) w _ h (λ⟨_,e⟩=>by cases e) (.error l) rfl λe=>h.1 G_
