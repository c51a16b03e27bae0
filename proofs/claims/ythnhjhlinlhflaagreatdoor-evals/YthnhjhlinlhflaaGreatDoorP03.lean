import Derived.Test.YthnhjhlinlhflaaGreatDoorP02
set_option linter.all false
set_option maxRecDepth 100000
set_option maxHeartbeats 0
open Go renaming Calls->Wn
namespace Go.Proofs.YthnhjhlinlhflaaGreatDoor
open Hs _root_.Go.Proofs.Tryz Go.RowKit
variable{C:Ctx}{B:Nat}{P:Prop}{a:aC}{D E:aL}{n:aU}{r:bN aC}
def JS(C:Ctx)(w:aL)(l:Nat)(h:lH C w (.error l)):Wn prog 256 #[aW C.pb] w (eH C w (.error l)):=by have a:=O (K7 C w (.error l) h);have b:=O h;clear h;go_in;go_wp;apply a.mono;rintro e f ⟨⟨t,rfl,-⟩,c⟩;have ⟨h0,q,hq⟩:=b.out;obtain⟨i,-,d,-⟩:=(hq.below c).two;have g:((l:Int) !=0)=true:=G_;clear hq a;go_wp2;go_ret;exact⟨(by grind[Fr.below,eo,Below.size]),(b.below c).below (Below.two _ _),_,rfl,s_⟩
def FK(C:Ctx)(w:aL)(p:Nat)(h:At C w p 0)(b:UInt8)(k:(aP C.ts p).c_=b.toNat)(a:b=48\/b=115):Wn prog 256 #[aW C.pb] w (eH C w (.ok (aV [b] (aP C.ts p).l_ (aP C.ts p).x_ [],p+1))):=by
 have r:=h.next (by rcases a with rfl|rfl<;>(grind));have j:=h.len;have l:=O (mA C w p 0 h);have i:=O h;clear h;generalize aP C.ts p=t at*;have ⟨so,te,li⟩:=t;simp[AB]at l k⊢;subst k;have c:(((b.toNat:Int)==48)=true)\/(((b.toNat:Int)==48)=false/\((b.toNat:Int)==115)=true):=by rcases a with rfl|rfl;simp;simp
 clear a;rcases c with v|⟨v,z⟩;all_goals go_in;go_wp;refine rB l λe f=>?_;obtain⟨D,-,-,A,B,g⟩:=i.cells f;have y:=(g 1).2;clear g;have x:=λs n=>Ld e s n b;have m:C.pb<H_ e+1:=Z;have u:C.pb<H_ e+1+1:=Z;go_wp2;go_ret;have d:=i.step f r;have o:=f.size;apply Uq (q:=p+1) (b:=H_ e+1) (d.2.tw (Below.three _ _ _)) (d.1.below (Below.three _ _ _)) Z rfl;exact iA _ _ s_ _ (xJ _ _ s_ _ _)
def Nd.step{f:aL}{g m p:Nat}{b e:bS}{a:List aC}(h:Nd C f g b e B m a (.ok p) D)(i:p+1<C.ts.length):Nd C f g b e B m a (.ok (p+1)) (D.setCell (aJ C.pb 1) (Y ((p:Int)+1))):=by have ⟨x,n,c,k⟩:=h;have:=At.step k.at_ (dw _ _) i;exact⟨x,n,c,k.go this.2 this.1 s_⟩
def Js(C:Ctx)(p:Nat)(E:Nat->bN aC)(b:(aP C.ts p).c_≠48)(a:(aP C.ts p).c_≠115):eL E C.ts p=if sQ C (.ok p) [116,114,117,101]then .ok (aV [98,111,111,108] (aP C.ts p).l_ (aP C.ts p).x_ [],p+1)else if sQ C (.ok p) [102,97,108,115,101]then .ok (aV [98,111,111,108] (aP C.ts p).l_ (aP C.ts p).x_ [],p+1)else if sQ C (.ok p) [40]then aQ C.ts [41] (E (p+1))else if sQ C (.ok p) [91]then bQ (aV [108,105,115,116] (aP C.ts p).l_ (aP C.ts p).x_) (fU E C.ts p [91] [93])else if (aP C.ts p).c_==110 then if sQ C (.ok (p+1)) [40]then bQ (aV [99,97,108,108] (aP C.ts p).l_ (aP C.ts p).x_) (fU E C.ts (p+1) [40] [41])else .ok (aV [110,97,109,101] (aP C.ts p).l_ (aP C.ts p).x_ [],p+1)else Hs.bad C.ts p:=by grind[eL,sQ]
def SL(C:Ctx)(E:Nat->bN aC)(T:Hid (Reads C 99 E))(w:aL)(p:Nat)(h:At C w p 0)(h1:(aP C.ts p).c_≠48)(X:(aP C.ts p).c_≠115)(r:bN aC)(f:Hid (r=eL E C.ts p))(h0:Hid (r≠.error 0)):Wn prog 256 #[aW C.pb] w (eH C w r):=by
 have f:=O (f.trans (Js C p E h1 X));have ⟨hpb,hgb,hlen⟩:=lH.facts (S:=.ok p) h;have HP:=O (mA C w p 0 h);have K:=O h;have e1:(((aP C.ts p).c_:Int)==48)=false:=G_;have e2:(((aP C.ts p).c_:Int)==115)=false:=G_;clear h h1 X;go_in;go_wp;apply HP.mono;rw[AB];rintro e l ⟨rfl,G⟩;obtain⟨hl,-,-,c1,c2,M⟩:=K.cells G;have ad:C.pb<l.heap.size+1:=Z;have ab:C.pb<l.heap.size+1+1:=Z;have aa:=G.size;have d:=O λo=>Nd.new (S:=.ok p) (Fr.refl C.pb (l.alloc o)) ((lH.below (S:=.ok p) K G).alloc o) [] (aP C.ts p).x_ (aP C.ts p).l_ (λ_ _=>i_) ku ku;have m:=O λo=>(Fr.below (pb:=C.pb) G).alloc o;clear M HP G;go_wp21;have g:=d (bM #[.int .u8 (aP C.ts p).c_,Q_ (bs (aP C.ts p).x_),Y (aP C.ts p).l_] 219);have F:=m (bM #[.int .u8 (aP C.ts p).c_,Q_ (bs (aP C.ts p).x_),Y (aP C.ts p).l_] 219);have N:=aS l _ i_ (bM #[.int .u8 (aP C.ts p).c_,Q_ (bs (aP C.ts p).x_),Y (aP C.ts p).l_] 219);rw[show (l.alloc _).heap.size=l.heap.size+1 by simp]at g;generalize hW:l.alloc (bM #[.int .u8 (aP C.ts p).c_,Q_ (bs (aP C.ts p).x_),Y (aP C.ts p).l_] 219)=W0 at*;have HT:Hid (∀V,Fr C.pb W0 V->V.cell? (aJ l.heap.size 0)=some (.int .u8 (aP C.ts p).c_)):=λV hf=>by grind[Fr.cells,aB]
 have m:=O F;have d:=O g;clear g F N hW c1 c2;refine FX d ⟨#[116,114,117,101]⟩ f ?_ ?_
 .clear d f;intro D d f;go_wp21;refine FX d ⟨#[102,97,108,115,101]⟩ f ?_ ?_
  .clear d f;intro D d f;go_wp21;refine FX d ⟨#[40]⟩ f ?_ ?_
   .clear d f;intro D d f;go_wp21;refine mh (Ae d ⟨#[91]⟩) λv2 d=>?_;have B:=f.out;obtain⟨v,⟨L,y⟩,A,-⟩:=d.As;cases I:sQ C (.ok p) [91]<;>rw[I]at B<;>have f:=O B<;>clear B I
    .have ⟨x,n,c,g⟩:=d.out;have N:=HT v2 g.fr;by_cases s:(aP C.ts p).c_=110
     .have e3:(((aP C.ts p).c_:Int)==110)=true:=G_;have f:=O (f.trans ((dy s_).trans (ec (by rw[s];rfl))));have i:=At.next g.at_ Z;obtain⟨ae,-,-,d1,d2,M⟩:=At.cells g.at_ (dw _ _);have W:=(M 1).2;have af:¬C.pb=l.heap.size+1:=Z;have ac:¬l.heap.size+1=C.pb:=Z;have d:=O ((d.Cr ⟨#[110,97,109,101]⟩).step i);clear g M;go_wp21;refine mh (Ae d ⟨#[40]⟩) λv3 d=>?_;have B:=f.out;clear v y A N d1 d2 W;obtain⟨v,⟨L,y⟩,A,-⟩:=d.As;cases I:sQ C (.ok (p+1)) [40]<;>rw[I]at B<;>have f:=O B<;>clear B I;.go_wp2;go_ret;exact eH.later m (d.post f)
      have t:Hid (fE (.ok (p+1)) (λq=>fU E C.ts q [40] [41])≠.error 0):=λe=>(by grind[dz,bQ,fE]);have d:=O (d.Cr ⟨#[99,97,108,108]⟩);go_wp21;obtain⟨x,n,c,g⟩:=d.out;refine(P3 C E T _ (.ok (p+1)) ⟨#[40]⟩ ⟨#[41]⟩ g.at_ t).mono ?_;rintro e Q i;obtain⟨x6,n6,c6,rfl⟩:∃x n c,e=bP (P_ x n c):=by grind[xU]
      have ⟨J,z0,⟨z,z1⟩,z2⟩:=d.list s_ i;clear i g v y A;go_wp2;go_ret;exact eH.later m (f▸J)
     have e3:(((aP C.ts p).c_:Int)==110)=false:=G_;have HF:=O (yH C v2 p g.at_);have J:Hid (r=Hs.bad C.ts p):=(by grind);have u:=O (m.trans g.fr);have H:=K.pos p K.lt;clear g s;go_wp21;refine HF.mono ?_;rintro e Q ⟨rfl,j,k⟩;go_wp2;go_ret;rw[J];exact⟨u.trans k,⟨H,p,j⟩,_,i_,λa q h=>by cases h⟩
    have t:Hid (fE (.ok p) (λq=>fU E C.ts q [91] [93])≠.error 0):=λe=>(by grind[dz,bQ,fE]);have d:=O (d.Cr ⟨#[108,105,115,116]⟩);go_wp21;obtain⟨x,n,c,g⟩:=d.out;refine(P3 C E T _ (.ok p) ⟨#[91]⟩ ⟨#[93]⟩ g.at_ t).mono ?_;rintro e Q i;obtain⟨x6,n6,c6,rfl⟩:∃x n c,e=bP (P_ x n c):=by grind[xU]
    have ⟨J,z0,⟨z,z1⟩,z2⟩:=d.list s_ i;clear i g v y A;go_wp2;go_ret;exact eH.later m (f▸J)
   rintro q e D L v y A-f d;cases e;have ⟨x,n,c,g⟩:=d.out;have HC:=O (T D (.ok (p+1)) g.at_ (by grind[dz,fE,aQ]));have u:=O (m.trans g.fr);have hz:=g.fr.size;clear g;go_wp21;refine HC.mono ?_;rintro e w5 i;obtain⟨b,rfl⟩:=i.ptr;have P:=O (AD C w5 _ ⟨#[41]⟩ i.2.1);have U:=O i;clear i;go_wp21;refine P.mono ?_;rintro e Q ⟨rfl,j,k⟩;go_wp2;go_ret;rw[f];exact eH.later u (eH.take U k j Z)
  rintro q e D L v y A d f -;cases e;go_wp2;go_ret;exact eH.later m ((d ⟨#[98,111,111,108]⟩).post f)
 rintro q e D L v y A d f -;cases e;go_wp2;go_ret;exact eH.later m ((d ⟨#[98,111,111,108]⟩).post f)
def NC(C:Ctx)(E:Nat->bN aC)(d:Reads C 99 E):Reads C 256 (eL E C.ts):=by intro w S h c;cases S with|error l=>exact JS C w l h|ok p=>by_cases b:(aP C.ts p).c_=48;have:=FK C w p h 48 b (.inl i_);show Wn _ _ _ _ (eH C w (eL E C.ts p));unfold eL;rw[ec G_,b];exact this;by_cases a:(aP C.ts p).c_=115;have:=FK C w p h 115 a (.inr i_);show Wn _ _ _ _ (eH C w (eL E C.ts p));unfold eL;rw[ec G_,a];exact this;exact SL C E d w p h b a _ i_ c
theorem vb.grow{lo lo' hi':Nat}(h:vb (si lo B) D n a)(d:∀k,lo<=k->k<B->E.heap[k]?=D.heap[k]?)(f:lo'<=lo)(e:B<=hi'):vb (si lo' hi') E n a:=(h.j_ qi).mono qi
def KK{c:aU}{b:aC}(f h:bS)(g:Nat)(l:vb (si B (H_ D)) D n a)(m:vb (si B (H_ D)) D c b)(i:B<=H_ D):vb (si B (H_ D+2)) (dZ (dZ D #[n,c] 63) #[Q_ (bs f),Y g,Q_ (bs h),P_ (some (aJ (H_ D) 0)) 2 2] 120) (aW (H_ D+1)) (aV f g h [a,b]):=by have j:∀k,B<=k->k<H_ D->(dZ (dZ D #[n,c] 63) #[Q_ (bs f),Y g,Q_ (bs h),P_ (some (aJ (H_ D) 0)) 2 2] 120).heap[k]?=D.heap[k]?:=(by grind[ej,Below.two]);refine vb.mk ⟨Z,Z⟩ (xJ _ _ rfl _ _) (dv ⟨H_ D,2,#[n,c],[n,c],rfl,⟨i,Z⟩,?_,kB,rfl,?_⟩);exact iA _ _ s_ _ (aS _ _ rfl _);grind[vb.grow,jW,aV]
def Ih(d f:bS)(e:Nat)(i:vb (si B (H_ D)) D n a)(g:B<=H_ D):vb (si B (H_ D+2)) (dZ (dZ D #[n] 63) #[Q_ (bs d),Y e,Q_ (bs f),P_ (some (aJ (H_ D) 0)) 1 1] 120) (aW (H_ D+1)) (aV d e f [a]):=by have h:∀k,B<=k->k<H_ D->(dZ (dZ D #[n] 63) #[Q_ (bs d),Y e,Q_ (bs f),P_ (some (aJ (H_ D) 0)) 1 1] 120).heap[k]?=D.heap[k]?:=(by grind[ej,Below.two]);refine vb.mk ⟨Z,Z⟩ (xJ _ _ rfl _ _) (dv ⟨H_ D,1,#[n],[n],rfl,⟨g,Z⟩,?_,kB,rfl,?_⟩);exact iA _ _ s_ _ (aS _ _ rfl _);grind[vb.grow,jW,aV]
def eH.one{w:aL}{b:Nat}(h:eH C w r (bP (aW b)) D)(d:bS)(f:Nat):eH C w (bQ (λx=>aV d f [] [x]) r) (bP (aW (D.heap.size+1))) ((D.alloc (.cells #[aW b] 63)).alloc (.cells #[.string (bs d),Y f,.string (bs []),.slice (some (aJ D.heap.size 0)) 1 1] 120)):=by have ⟨h1,h2,_,e,h3⟩:=h;cases e;cases r with|error l=>grind[Fr.tw,Below.two,lH.below,eH,bQ]|ok i=>exact⟨h1.tw (Below.two _ _),h2.below (Below.two _ _),_,i_,λa q g=>by cases g;exact(Ih d [] f (h3 _ _ i_) h1.size).mono s_⟩
def eH.two{w c:aL}{j:Nat}(n:Fr C.pb D w)(A:vb (si (H_ D) (H_ w)) w (aW B) a)(v:C.pb<H_ D)(d:Fr C.pb w E)(h:eH C E r (bP (aW j)) c)(i:bS)(f:Nat):eH C D (bQ (λx=>aV i f [] [a,x]) r) (bP (aW (H_ c+1))) (dZ (dZ c #[aW B,aW j] 63) #[Q_ (bs i),Y f,Q_ (bs []),P_ (some (aJ (H_ c) 0)) 2 2] 120):=by have ⟨h1,h2,_,e,h3⟩:=h;have z:=n.size;have u:=d.size;have s:=h1.size;have p:=((n.trans d).trans h1).tw (Below.two (bM #[aW B,aW j] 63) (bM #[Q_ (bs i),Y f,Q_ (bs []),P_ (some (aJ (H_ c) 0)) 2 2] 120));cases r with|error l=>grind[lH.below,Below.two,eH,bQ]|ok y=>refine⟨p,h2.below (Below.two _ _),_,i_,λt q e=>?_⟩;cases e;exact(KK i [] f ((by grind[vb.grow,Fr.block])) ((by grind[vb.mono,si])) Z).mono λk m=>⟨m.1,by have:=m.2;simp;exact Z⟩
theorem eH.j_{a w w':aL}{e:Ending}(h:eH C a r e w)(b:cB w w'):eH C a r e w':=by grind[Fr.tw,lH.below,vb.grow,ej,Below.size,eH]
def eH.is{e:Ending}(h:eH C D r e E)(x:ByteArray):Wn prog 215 #[aW C.pb,Q_ x] E λc b=>c=bP (.bool (sQ C (nJ r) (dL x)))/\eH C D r e b:=(Cn C E _ x h.2.1).mono (by grind[eH.j_])
def Ge{S:Except Nat Nat}{A B:bN aC}{Q:Ending->World->Prop}(h:Hid (Fr C.pb D E/\lH C E S))(x:ByteArray)(f:Hid (r=if sQ C S (dL x)then A else B))(j:∀a,Hid (Fr C.pb D a/\lH C a S)->Hid (r=B)->Q (bP (.bool false)) a) (i:∀p,S=.ok p->∀a,Hid (Fr C.pb D a/\lH C a (.ok (p+1)))->Hid (r=A)->Q (bP (.bool true)) a):Wn prog 216 #[aW C.pb,Q_ x] E Q:=by refine rB (Er C E S x h.2) λg ⟨d,k⟩=>?_;have e:=f.out;cases c:sQ C S (dL x)<;>rw[c]at e;rw[show uX C S (dL x)=S by cases S with|ok q=>exact CO c|error l=>rfl]at d;grind[Fr.trans,dz];cases S with|error l=>cases c|ok p=>grind[Fr.trans,dz,uX,sQ]
def Jp(C:Ctx)(E:Nat->bN aC)(w:aL)(S:Except Nat Nat)(h:lH C w S)(b:∀q,S=.ok q->Reads C 99 E)(a:fE S (eL E C.ts)≠.error 0):Wn prog 256 #[aW C.pb] w (eH C w (fE S (eL E C.ts))):=by cases S with|error l=>exact JS C w l h|ok p=>exact NC C E (b p i_) w _ h a
def RH(C:Ctx)(E X:Nat->bN aC)(w:aL)(S:Except Nat Nat)(h:lH C w S)(W:Hid (∀q,S=.ok q->Reads C 99 E))(HX:Hid (∀q,S=.ok q->Reads C 211 X))(r:bN aC)
 (f:Hid (r=if sQ C S [45]then fE S λp=>bQ (λx=>aV [45,120] (aP C.ts p).l_ [] [x]) (X (p+1))else if sQ C S [33]then fE S λp=>bQ (λx=>aV [33,120] (aP C.ts p).l_ [] [x]) (X (p+1))else bK (fE S (eL E C.ts)) (eR E C.ts (C.ts.length+1)))) (G:Hid (r≠.error 0)):
 Wn prog 211 #[aW C.pb] w (eH C w r):=by
 obtain⟨D,ac,T⟩:=h.facts;have HP:=O (K7 C w S h);have HA:=O h;have aa:=CH;clear h;go_in
 go_wp2_with fail;apply HP.mono
 rintro e w1 ⟨⟨t,rfl,M⟩,I⟩;have P:=O M;have H:=O (du (Fr.below (pb:=C.pb) I) (HA.below I));clear I HP M;go_wp21
 refine Ge H ⟨#[45]⟩ f ?_ ?_
 .clear H f;intro A H f;go_wp2_with fail;refine Ge H ⟨#[33]⟩ f ?_ ?_
  .clear H f;intro F H f;have g:=O (Jp C E F S H.2 W (by grind [dz,bK]))
   go_wp2_with fail;apply g.mono
   rintro e w4 d;obtain⟨b4,rfl⟩:=d.ptr;have u:=O (eH.later H.1 d);clear d g;go_wp2
   go_loopg [8] (C.ts.length+1) (λk v wr=>∃j b,v=aW b/\r=bK j (eR E C.ts k)/\(∀a q,j=.ok (a,q)->∃p,S=.ok p)/\eH C w j (bP v) wr)
   case atStart=>exact⟨_,b4,i_,f,λa q e=>(by cases S with|ok p=>simp|error l=>cases e),u⟩
   case round=>
    obtain⟨j,b,rfl,y,V,d⟩:=hrel;have c:=O d;have i:=O y;have HS:=O V;clear d y V u f H;go_wp
    refine mh (c.is ⟨#[91]⟩) λw5 c=>?_
    cases m:sQ C (nJ j) [91]
    .have e:r=j:=by
      rw[i];cases j with
      |error l=>rfl
      |ok s=>
       cases gk with
       |zero=>exact ep i G
       |succ k=>show eR E C.ts (k+1) s.1 s.2=_;rw[eR,show bX C.ts s.2 [91]=false from m];rfl
     subst e;clear m;go_wp2
     go_ret;exact c
    cases j with
    |error l=>cases m
    |ok s=>
     have ⟨a,q⟩:=s;have m:bX C.ts q [91]=true:=m;obtain⟨p,rfl⟩:=HS a q rfl;cases gk with
     |zero=>exact ep i G
     |succ k=>
      have e:r=bK (aQ C.ts [93] (bQ (λx=>aV [105,110,100,101,120] (aP C.ts q).l_ [] [a,x]) (E (q+1)))) (eR E C.ts k):=by
       rw[i];show eR E C.ts (k+1) a q=_
       rw[eR,m,ec rfl];cases E (q+1)with
       |error l=>rfl
       |ok iq=>simp[aQ,bQ];cases bX C.ts iq.2 [93]<;>rfl
      have B:=At.next c.2.1 (KT m)
      have z:=O (mA C w5 q 0 c.2.1);have H1:=O e;clear e m;go_wp21
      apply z.mono
      rw[AB];rintro e w6 ⟨rfl,n⟩;obtain⟨ab, -, -,d1,d2,N⟩:=At.cells c.2.1 n;have L:=(N 1).2;have o:=O (At.step c.2.1 n B);have g:=O (W p i_ _ (.ok (q+1)) o.1 λe=>G (by rw[H1,show E (q+1)=.error 0 from e];rfl))
      clear n N z;go_wp21
      apply g.mono
      rintro e w7 d;obtain⟨b7,rfl⟩:=d.ptr;have J:Hid (∀K,eH C w (bQ (λx=>aV [105,110,100,101,120] K [] [a,x]) (E (q+1))) _ _):=λK=>eH.two c.1 (by have ⟨_,_,_,e,h⟩:=c.out;cases e;exact h a q i_) D o.2 d [105,110,100,101,120] K
      clear d g d1 d2 L;go_wp21
      apply (AD C _ _ ⟨#[93]⟩ (J _).2.1).mono
      rintro e w8 ⟨rfl,Q,U⟩;go_wp2
      go_roundg k
      case measure=>exact Z
      grind [dz,eH.take]
  rintro p rfl A H f;have g:=O (HX p i_ A (.ok (p+1)) H.2 (by grind [dz,fE,bQ]))
  go_wp21
  apply g.mono
  rintro e F d;obtain⟨b3,rfl⟩:=d.ptr;have c:=O (eH.later H.1 d);clear d g;go_wp2
  go_ret;rw[f,P p rfl];exact c.one _ _
 rintro p rfl A H f;have g:=O (HX p i_ A (.ok (p+1)) H.2 (by grind [dz,fE,bQ]))
 go_wp21
 apply g.mono
 rintro e F d;obtain⟨b3,rfl⟩:=d.ptr;have c:=O (eH.later H.1 d);clear d g;go_wp2
 go_ret;rw[f,P p rfl];exact c.one _ _
def VM(C:Ctx)(E:Nat->bN aC)(c:Reads C 99 E)(g:Nat):Reads C 211 (iE E C.ts g):=by
 induction g with
 |zero=>intro w S h a;cases S with|ok p=>exact ep i_ a|error l=>exact RH C E E w _ h (λ_ e=>by cases e) (λ_ e=>by cases e) _ rfl a
 |succ g b=>intro w S h a;refine RH C E _ w S h (λ_ _=>c) (λ_ _=>b) _ ?_ a;cases S<;>rfl
def Hw(C:Ctx)(w:aL)(l:Nat)(h:lH C w (.error l)):Wn prog 211 #[aW C.pb] w (eH C w (.error l)):=RH C (λ_=>.error 0) (λ_=>.error 0) w _ h (λ_ e=>by cases e) (λ_ e=>by cases e) _ rfl λe=>h.1 G_
def Cu(x:bS):Int:=if cR x=9 then -1 else (cR x:Int)
def FT(x:bS)(w:aL):Wn prog 212 #[Q_ (bs x)] w λe a=>e=bP (Y (Cu x))/\a=w:=by have b:=bA x;go_in;go_wp2;all_goals go_ret;refine⟨oD ?_,i_⟩;clear b;unfold Cu cR;simp_all
def Mf(x:bS)(k:Nat)(a:k<=4):(Cu x !=(k:Int))=!(cR x==k):=by grind[Cu]
def Y5(P:Prop)(C:Ctx)(k:Int)(X:Nat->bN aC):Prop:=∀(w:aL) (S:Except Nat Nat),lH C w S->(∀q,S=.ok q->P)->fE S X≠.error 0->Wn prog 162 #[aW C.pb,Y k] w (eH C w (fE S X))
def P5(C:Ctx)(g:Nat)(G:g<=4)(L:Nat->bN aC)(W:Hid (Y5 P C ((g:Int)+1) L))(w:aL)(S:Except Nat Nat)(h:lH C w S)(hP:Hid (∀q,S=.ok q->P))(r:bN aC) (T:Hid (r=bK (fE S L) (cG L C.ts g (C.ts.length+1)))) (M:Hid (r≠.error 0)):Wn prog 162 #[aW C.pb,Y g] w (eH C w r):=by
 have ⟨hpb,hgb,hlen⟩:=h.facts;have U:=O (W w S h hP (by grind[dz,bK]));clear h;go_in;go_wp;apply U.mono;rintro e w4 f;obtain⟨b4,rfl⟩:=f.ptr;have D:=O f;clear f U;go_wp2;go_loopg [5] (C.ts.length+1) (λk v wr=>∃B b,v=aW b/\r=bK B (cG L C.ts g k)/\(∀a q,B=.ok (a,q)->P)/\eH C w B (bP v) wr);case atStart=>exact⟨_,b4,i_,T,λa q e=>(by cases S with|ok p=>exact hP p i_|error l=>cases e),D⟩
 case round=>
  obtain⟨B,b,rfl,j,hS,f⟩:=hrel;have m:=O f;have d:=O j;have HS:=O hS;clear j hS D T;cases B with|error l=>have ⟨hl1,c,hc0,hc2⟩:=lH.bad f.2.1;clear f;go_wp2;go_ret;rw[d];exact m|ok aq=>
   have ⟨a,q⟩:=aq;have K:=O (mA C wr q 0 f.2.1);have ⟨hl1,hc2⟩:=At.wm f.2.1;clear f;cases gk with|zero=>exact ep d M|succ k=>
    have j:r=cG L C.ts g (k+1) a q:=d.out;rw[cG]at j;have s:=Mf (aP C.ts q).x_ g G;cases u:((aP C.ts q).c_==112&&cR (aP C.ts q).x_==g)<;>rw[u]at j<;>have d:=O j<;>clear j
    .have hx:(((aP C.ts q).c_:Int) !=112)=true\/(((aP C.ts q).c_:Int) !=112)=false/\(Cu (aP C.ts q).x_ !=(g:Int))=true:=by by_cases h:(aP C.ts q).c_=112;rw[h]at u⊢;exact .inr ⟨i_,by rw[s];simpa using u⟩;exact .inl ku
     clear u s;rcases hx with X|⟨X,e2⟩;all_goals go_wp;apply K.mono;rw[AB];rintro e E ⟨rfl,n⟩;go_wp2_with (go_at_call 212;refine rB (FT _ _) λw' I=>?_;obtain rfl:=I.symm);go_ret;rw[d];exact m.j_ (n.alloc n.size _)
    have ⟨c1,c2⟩:(aP C.ts q).c_=112/\cR (aP C.ts q).x_=g:=by simpa using u
    have X:(((aP C.ts q).c_:Int) !=112)=false:=by rw[c1];rfl
    have e2:(Cu (aP C.ts q).x_ !=(g:Int))=false:=by rw[s,c2];simp
    have F:=At.next m.2.1 Z;clear u s c1 c2;go_wp;apply K.mono;rw[AB];rintro e E ⟨rfl,n⟩;obtain⟨aa,-,-,d1,d2,Q⟩:=At.cells m.2.1 n;have J:=(Q 1).2;have y:=O (At.step m.2.1 n F);clear Q n K;go_wp2_with (go_at_call 212;refine rB (FT _ _) λw' I=>?_;obtain rfl:=I.symm);have z:=O λo=>(dw (E.setCell (aJ C.pb 1) (Y ((q:Int)+1))).heap.size _).alloc kB o;apply (W _ (.ok (q+1)) (y.1.below (z _)) (λ_ _=>HS a q i_) λe=>M (by rw[d,show L (q+1)=.error 0 from e];rfl)).mono;rintro e N f;obtain⟨b7,rfl⟩:=f.ptr;have t:∀i,N.cell? (aJ (H_ E) i)=_:=λi=>(f.1.cells (b:=H_ E) s_ Z).1 i;have t1:=t 1;have t2:=t 2;have ab:H_ E<H_ N:=by have:=f.1.size;simp at this;exact Z
    have H:=O (eH.two m.1 (by have ⟨_,_,_,e,h⟩:=m.out;cases e;exact h a q i_) hpb (y.2.tw (z _)) f (aP C.ts q).x_ (aP C.ts q).l_);clear f t d1 d2 J;by_cases A:g=2
    .have ek:((g:Int)==2)=true:=by simp;exact Z
     have e:r=bQ (λx=>aV (aP C.ts q).x_ (aP C.ts q).l_ [] [a,x]) (L (q+1)):=by rw[d];cases L (q+1)<;>simp[A,bQ]
     have V:=O e;clear e;go_wp2;go_ret;rw[V];exact H
    have ek:((g:Int)==2)=false:=by simp;exact Z
    have e:r=bK (bQ (λx=>aV (aP C.ts q).x_ (aP C.ts q).l_ [] [a,x]) (L (q+1))) (cG L C.ts g k):=by rw[d];cases L (q+1)<;>simp[A,bQ,bK]
    have V:=O e;clear e;go_wp2;go_roundg k;case measure=>exact Z
    grind[dz,bs,fE]
def P6(C:Ctx)(E:Nat->bN aC)(j:P->Reads C 99 E):Y5 P C 5 (iN E C.ts 0):=by
 intro w S h i d;have f:Hid (Wn prog 211 #[aW C.pb] w (eH C w (fE S (iN E C.ts 0)))):=by cases S with|error l=>exact Hw C w l h|ok p=>exact VM C E (G_) (C.ts.length+1) w _ h d
 go_in;go_wp;apply f.mono;intro e g a;obtain⟨b,rfl⟩:=a.ptr;have c:=O a;go_wp2;go_ret;exact c
def FR(C:Ctx)(E:Nat->bN aC)(b:P->Reads C 99 E):∀j,j<=5->Y5 P C (((5-j:Nat)):Int) (iN E C.ts j)|0,_=>P6 C E b|j+1,e=>by have a:=FR C E b j Z;intro w S h c d;rw[show (5-(j+1))=4-j by omega];rw[show (((5-j:Nat)):Int)=((4-j:Nat):Int)+1 by omega]at a;exact P5 C (4-j) Z _ a w S h c _ (by cases S<;>rfl) d
def QO(C:Ctx)(E:Nat->bN aC)(g:P->Reads C 99 E)(w:aL)(S:Except Nat Nat)(h:lH C w S)(c:∀q,S=.ok q->P)(f:fE S (iN E C.ts 5)≠.error 0):Wn prog 99 #[aW C.pb] w (eH C w (fE S (iN E C.ts 5))):=by have i:=O (FR C E g 5 (Z) w S h c f);go_in;go_wp;apply i.mono;intro e j a;obtain⟨b,rfl⟩:=a.ptr;have d:=O a;go_wp2;go_ret;exact d
def KY(C:Ctx)(f:Nat):Reads C 99 (gK C.ts f):=by
 induction f with
 |zero=>intro w S h a;cases S with|ok p=>exact ep i_ a|error l=>exact QO (P:=False) C (λ_=>.error 0) (s_) w _ h (s_) a
 |succ f b=>exact λw S h a=>QO (P:=True) C _ (λ_=>b) w S h (s_) a
attribute [local go_sem ↓] Go.wp_at_zero Go.wp_at_succ
def o9(C:Ctx)(X:Nat->bN aC)(w:aL)(S:Except Nat Nat)(h:lH C w S)(F:Hid ((∃q,S=.ok q)->Reads C 257 X))(o:bN (List aC)) (A:Hid (o=fE (fQ C S [123]) λq=>eX X C.ts (C.ts.length+1) q [])) (y:Hid (o≠.error 0)):Wn prog 217 #[aW C.pb] w (eH C w (bQ (aV [98,108,111,99,107] (tD C S) []) (aQ C.ts [125] o))):=by
 have v:=h.facts.2.2;have G:=O (Ff C w S h);have D:=CH;clear h;go_in;go_wp;apply G.mono;rintro e z ⟨t,rfl,b⟩;go_wp21;refine mh (pS (b.out [98,108,111,99,107] []) ⟨#[123]⟩) λP b=>?_;go_wp2;go_loopg [] (C.ts.length+1) (λk wr=>∃d j m,m+k<=4000/\(∀q,j=.ok q->∃q,S=.ok q)/\o=fE j (λq=>eX X C.ts k q d)/\Nd C w (H_ z) [98,108,111,99,107] [] (tD C S) m d j wr);case atStart=>exact⟨[],_,0,Z,λq e=>(by cases S with|ok p=>simp|error l=>cases e),A,b.out⟩
 case round=>
  have ⟨d,j,m,hm,hS,hr1,x,n,c,hn⟩:=hrel;have f:=O hr1;have H:=O hn;cases j with|error l=>have ⟨hl1,cc,hc0,hc2⟩:=lH.bad hn.at_;clear hn hr1 hS;go_wp;refine mh (pS ⟨x,n,c,H⟩ ⟨#[125]⟩) λu b=>?_;go_wp2;go_ret;exact b.post (by rw[f];rfl)|ok q=>
   have E:=O (hS q i_);have ⟨hl1,hc2⟩:=At.wm hn.at_;clear hn hr1 hS;go_wp;refine mh (Ae ⟨x,n,c,H⟩ ⟨#[125]⟩) λI b=>?_;clear H hl1 hc2;have a:=f.out;cases gk with|zero=>exact ep a y|succ k=>
    rw[show (fE (.ok q) λq=>eX X C.ts (k+1) q d)=eX X C.ts (k+1) q d from rfl,eX]at a;cases i:bX C.ts q [125];.rw[show sQ C (.ok q) (⟨#[125]⟩:ByteArray).data.toList=false from i];rw[i,dy s_]at a;have f:=O a;have s:=O λe=>y (by rw[a,show X q=.error 0 from e]);have ⟨x,n,c,H,z0,z1,z2⟩:=b.pre;clear a i b;go_wp2;go_region_law (first|refine EG H r λQ g K B b N J L=>?_|(go_simp;go_at_call 257;refine GO H (F E) s λu M r u0 u1 u2=>?_));all_goals
      go_wp2;go_roundg k;case measure=>exact Z
      grind[dz,fE,nJ,iV]
    rw[show sQ C (.ok q) (⟨#[125]⟩:ByteArray).data.toList=true from i];rw[i,ec rfl]at a;have f:=O a;clear a i;go_wp21;refine mh (pS b ⟨#[125]⟩) λu b=>?_;go_wp2;go_ret;exact b.post (by rw[f];exact Tv ..)
def B9(C:Ctx)(E:Nat->bN aC)(f:Nat)(c:Reads C 257 (kE E (iP E C.ts f) C.ts)):Reads C 217 (iP E C.ts (f+1)):=by
 intro w S h a;have e:fE S (iP E C.ts (f+1))=bQ (aV [98,108,111,99,107] (tD C S) []) (aQ C.ts [125] (fE (fQ C S [123]) λq=>eX (kE E (iP E C.ts f) C.ts) C.ts (C.ts.length+1) q [])):=by cases S with|error l=>rfl|ok q=>show iP E C.ts (f+1) q=_;rw[iP];grind[bQ,aQ,Hs.bad,tD,fE,fQ]
 rw[e]at a⊢;exact o9 C _ w S h (λ_=>c) _ i_ λb=>a (by rw[b];rfl)
def Hp(C:Ctx)(w:aL)(l:Nat)(h:lH C w (.error l)):Wn prog 217 #[aW C.pb] w (eH C w (.error l)):=o9 C (λ_=>.error 0) w _ h (λ⟨_,e⟩=>by cases e) (.error l) rfl λe=>h.1 G_
