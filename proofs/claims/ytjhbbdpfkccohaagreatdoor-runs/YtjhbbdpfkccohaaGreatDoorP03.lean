import Derived.Test.YtjhbbdpfkccohaaGreatDoorP02
set_option linter.all false
set_option maxRecDepth 100000
set_option maxHeartbeats 4000000
namespace Go.Proofs.YtjhbbdpfkccohaaGreatDoor
open Hs
open _root_.Go.Proofs.Tryz
open Go.RowKit
attribute [local go_sem ↓] Go.wp_at_zero Go.wp_at_succ
def Y0(C:Ctx)(X:Nat->bS aC)(w:aN)(S:Except Nat Nat)(h:lK C w S)(M:Hid ((∃q,S=.ok q)->Reads C 257 X))(v:bS (List aC))
 (I:Hid (v=fL (fS C S [123]) λq=>eY X C.ts (C.ts.length+1) q [])) (E:Hid (v≠.error 0)):
 Calls prog 217 #[bF C.pb] w (eN C w (bT (aV [98,108,111,99,107] (sR C S) []) (aQ C.ts [125] v))):=by
 have D:=h.facts.2.2;have N:=aB (DB C w S h);have K:=BR;clear h;go_in
 go_wp2_with fail;apply N.mono
 rintro e F ⟨t,rfl,b⟩;go_wp2_with fail;refine mh (pI (b.out [98,108,111,99,107] []) ⟨#[123]⟩) λw2 b=>?_
 go_wp2
 go_loopg [] (C.ts.length+1) (λk wr=>∃d s m,m+k<=4000/\(∀q,s=.ok q->∃q,S=.ok q)/\v=fL s (λq=>eY X C.ts k q d)/\Nd C w (H_ F) [98,108,111,99,107] [] (sR C S) m d s wr)
 case atStart=>exact⟨[],_,0,aD,λq e=>(by cases S with|ok p=>simp|error l=>cases e),I,b.out⟩
 case round=>
  obtain⟨d,s,m,hm,z,i,x,n,c,r⟩:=hrel;have f:=aB i;have H:=aB r;cases s with
  |error l=>
   obtain⟨u,O,G,o⟩:=lK.bad r.at_;clear r i z;go_wp2_with fail;refine mh (pI ⟨x,n,c,H⟩ ⟨#[125]⟩) λB b=>?_
   go_wp2
   go_ret;exact b.post (by rw[f];rfl)
  |ok q=>
   have L:=aB (z q aJ);obtain⟨u,o⟩:=At.wb r.at_;clear r i z;go_wp2_with fail;refine mh (yk ⟨x,n,c,H⟩ ⟨#[125]⟩) λP b=>?_
   clear H u o;have a:=f.out;cases gk with
   |zero=>exact eu a E
   |succ k=>
    rw[show (fL (.ok q) λq=>eY X C.ts (k+1) q d)=eY X C.ts (k+1) q d from rfl,eY]at a
    cases j:bZ C.ts q [125]
    .rw[show sG C (.ok q) (⟨#[125]⟩:ByteArray).data.toList=false from j]
     rw[j,ea s_]at a
     have f:=aB a;have A:=aB λe=>E (by rw[a,show X q=.error 0 from e])
     obtain⟨x,n,c,H,Z,U,T⟩:=b.pre;clear a j b;go_wp2
     go_region_law (first|refine DL H y λw5 g V J b y0 Q W=>?_|(go_simp;go_at_call 257;refine FT H (M L) A λB Y y u0 u1 u2=>?_))
     all_goals
      go_wp2
      go_roundg k
      case measure=>exact aD
      grind [d7,fL,nL,iV]
    rw[show sG C (.ok q) (⟨#[125]⟩:ByteArray).data.toList=true from j]
    rw[j,ef rfl]at a;have f:=aB a;clear a j;go_wp2_with fail;refine mh (pI b ⟨#[125]⟩) λB b=>?_
    go_wp2
    go_ret;exact b.post (by rw[f];exact Sb ..)
def ZA(C:Ctx)(E:Nat->bS aC)(f:Nat)(c:Reads C 257 (jU E (iO E C.ts f) C.ts)):Reads C 217 (iO E C.ts (f+1)):=by
 intro w S h a
 have e:fL S (iO E C.ts (f+1))=bT (aV [98,108,111,99,107] (sR C S) []) (aQ C.ts [125] (fL (fS C S [123]) λq=>eY (jU E (iO E C.ts f) C.ts) C.ts (C.ts.length+1) q [])):=by
  cases S with
  |error l=>rfl
  |ok q=>
   show iO E C.ts (f+1) q=_
   rw[iO];grind [bT,aQ,Hs.bad,sR,fL,fS]
 rw[e]at a ⊢
 exact Y0 C _ w S h (λ_=>c) _ aJ λb=>a (by rw[b];rfl)
def Kr(C:Ctx)(w:aN)(l:Nat)(h:lK C w (.error l)):
 Calls prog 217 #[bF C.pb] w (eN C w (.error l)):=
 Y0 C (λ_=>.error 0) w _ h (λ⟨_,e⟩=>by cases e) (.error l) rfl λe=>h.1 G_
attribute [local go_sem ↓] Go.wp_at_zero Go.wp_at_succ
def vL.node{C:Ctx}{w g:aN}{S:Except Nat Nat}{X:Nat->bS (List aC)}{x:Option Addr}{n c:Nat}(h:vL C w (fL S X) (bY (P_ x n c)) g)(f b:bP)(d:Nat):
 eN C w (fL S λq=>bT (aV f d b) (X q)) (bY (bF (H_ g))) (eH g #[Q_ (bs f),I_ d,Q_ (bs b),P_ x n c] 119):=by
 obtain⟨m,i,t,r,s,e,p⟩:=h;cases e;have e:(fL S λq=>bT (aV f d b) (X q))=bT (aV f d b) (fL S X):=by cases S<;>rfl
 rw[e];cases o:fL S X with
 |error l=>grind [Fr.alloc,lK.alloc,eN,bT,nL]
 |ok u=>
  rw[o]at i;refine⟨m.alloc _,i.alloc _,_,aJ,λa q e=>?_⟩
  cases e;exact tu.mk ⟨m.size,s_⟩ (aZ _ _ rfl _) (((p _ _ o).h_ (by grind [eh,rn])).mono λk j=>⟨j.1,by have:=j.2;simp;exact aD⟩)
def Dx(C:Ctx)(w0:aN)(nb li:Nat)(r:bS aC)(w':aN):Prop:=∃op te m acc S,r=(fL S λq=>.ok (aV op li te acc,q))/\Nd C w0 nb op te li m acc S w'
def vT{C:Ctx}{x:bP}(f:List aC->aC)(r:bS aC):aQ C.ts x (bT (λv=>f [v]) r)=fL (fS C (nL r) x) λq=>.ok (f (iV r),q):=by
 cases r with
 |error l=>rfl
 |ok a=>
  grind [aQ,fL,vU,Hs.bad,mW,iV,bT,nL]
def NZ(C:Ctx)(S:Except Nat Nat):(∃l,nM C S=.error l/\∀E,fL S (fX E C.ts)=.error l)\/∃p,S=.ok p/\nM C S=.ok (p+1)/\nF C S=(aS C.ts p).x_/\oS C S=(aS C.ts p).l_/\(aS C.ts p).c_=110:=by
 cases S with
 |error l=>exact .inl ⟨l,aJ,λ_=>aJ⟩
 |ok p=>
  by_cases h:(aS C.ts p).c_=110
  .grind [nM,nF,oS]
  exact .inl ⟨_,(JI h).1,λE=>by show fX E C.ts p=_;unfold fX;grind [Hs.bad]⟩
def Rx(C:Ctx)(E:Nat->bS aC)(Q:Hid (Reads C 99 E))(Y w:aN)(D i:Nat)(S:Except Nat Nat)(h:Hid (Nd C Y D [] [] i 0 [] S w))(A:Hid (∀q,S=.ok q->i=(aS C.ts q).l_))(r:bS aC)(M:Hid (r=fL S (fX E C.ts)))(h0:Hid (r≠.error 0))(aa:C.ts.length<=3000):
 Calls prog 285 #[bF C.pb,bF D] w λe w'=>e=fD/\Dx C Y D i r w':=by
 go_in
 go_wp2_with fail;refine mh (J1 h) λw1 a=>?_
 obtain⟨J,⟨v0,K⟩,L,⟨v2,s3⟩,s4⟩:=a.Ab;go_wp2_with fail;refine mh (yk (a.Fp (nF C S)) ⟨#[40]⟩) λw2 a=>?_
 clear J K L s3 s4;obtain⟨J,⟨v0,K⟩,L, -, -⟩:=a.Ab;cases z:sG C (nM C S) [40]
 .obtain⟨B,N,HR⟩:∃B,Hid (B=fL (nM C S) λq=>fP E C.ts (C.ts.length+1) q [])/\Hid (r=bL (aQ C.ts [61] B) λU q=>aQ C.ts [59] (bT (λv=>aV [115,101,116] i (nF C S) (U++[v])) (E q))):=by
   refine⟨_,aJ,?_⟩;rcases NZ C S with ⟨l,F,G⟩|⟨p,rfl,F,G,Z,e4⟩
   .rw[M.out,G,F];rfl
   grind [d7,fX,fL,sG]
  generalize nF C S=y at*;generalize nM C S=S1 at*;clear z h A M;go_wp2
  go_loopg [] (C.ts.length+1) (λk wr=>∃d f m,m+k<=3500/\B=fL f (λq=>fP E C.ts k q d)/\Nd C Y D [115,101,116] y i m d f wr)
  case atStart=>exact⟨[],_,0,aD,N,a.Bm ⟨#[115,101,116]⟩⟩
  case round=>
   obtain⟨d,f,m,hm,b,t⟩:=hrel;have u:=aB b;have H:=aB t;clear b t N a J K L;go_wp2_with fail;refine mh (X4 H ⟨#[91]⟩) λw3 a=>?_
   clear H;cases s:sG C f [91]
   .have e:B=fL f λq=>.ok (d,q):=by
     rw[u];cases f with
     |error l=>rfl
     |ok q=>
      cases gk with
      |zero=>grind [d7,fL,fP,bL,aQ]
      |succ k=>grind [fP,fL,sG]
    have O:Hid (r=fL (fS C (nL (fL (fS C f [61]) E)) [59]) λq=>.ok (aV [115,101,116] i y (d++iV (fL (fS C f [61]) E)),q)):=by
     rw[HR,e];cases f with
     |error l=>rfl
     |ok q=>
      show bL (aQ C.ts [61] (.ok (d,q))) _=_
      cases h:bZ C.ts q [61]
      .grind [aQ,Hs.bad,bL,fL,nL,fS]
      rw[mW h];simp only[aQ,h,bL,fL,if_true];exact vT (λk=>aV [115,101,116] i y (d++k)) _
    have o:Hid (fL (fS C f [61]) E≠.error 0):=λe=>h0 (by rw[O,e];rfl)
    have t:=a.out;rw[show uL C f (⟨#[91]⟩:ByteArray).data.toList=f by cases f with|ok q=>exact BX s|error l=>rfl]at t
    have a:=aB t;clear t e s u;go_wp2_with fail;refine mh (pI a ⟨#[61]⟩) λT a=>?_
    obtain⟨x,n,c,H,z0,z1,z2⟩:=a.pre;go_wp2
    go_region_law (first|refine DL H j λw5 g k5 I a y0 y1 y2=>?_|(go_simp;go_at_call 99;refine FT H Q o λT b4 j u0 u1 u2=>?_))
    all_goals
     go_wp2_with fail;refine mh (pI a ⟨#[59]⟩) λw6 a=>?_
     go_wp2
     go_end0;exact⟨aJ,_,_,_,_,_,O,a⟩
   obtain⟨q,rfl⟩:∃q,f=.ok q:=by cases f with|ok q=>simp|error l=>cases s
   have X:bZ C.ts q [91]=true:=s;have b:=u.out;cases gk with
   |zero=>grind [d7,bL,aQ,fL,fP]
   |succ k=>
    have e:B=fL (fS C (nL (E (q+1))) [93]) λq'=>fP E C.ts k q' (d++iV (E (q+1))):=by
     rw[b];show fP E C.ts (k+1) q d=_
     rw[fP,X,ef rfl];cases E (q+1)with
     |error l=>rfl
     |ok aq=>
      grind [aQ,fL,vU,Hs.bad,mW,iV,nL]
    have o:Hid (fL (.ok (q+1)) E≠.error 0):=λe0=>(by grind [d7,bL,aQ,fL,fP])
    have N:=aB e;have t:=a.out;rw[show uL C (.ok q) (⟨#[91]⟩:ByteArray).data.toList=.ok (q+1)from BW X]at t
    obtain⟨x,n,c,H,z0,z1,z2⟩:=t.pre;clear t e s u b X a;go_wp2
    go_region_law (first|refine DL H j λw5 g k5 I a y0 y1 y2=>?_|(go_simp;go_at_call 99;refine FT H Q o λT b4 j u0 u1 u2=>?_))
    all_goals
     go_wp2_with fail;refine mh (pI a ⟨#[93]⟩) λw6 a=>?_
     go_wp2
     go_roundg k
     case measure=>exact aD
     grind [d7,fL]
 obtain⟨p,rfl,F,G,Z,e4⟩:=(NZ C S).resolve_left (by grind [sG])
 have V:=A p aJ;have b:=M.out;rw[F]at z a;rw[G]at a ⊢
 rw[Z,<-V];rw[show fL (.ok p) (fX E C.ts)=fX E C.ts p from rfl]at b
 unfold fX at b;rw[ef G_,show bZ C.ts (p+1) [40]=true from z,ef rfl,<-V]at b
 generalize (aS C.ts p).x_=y at*
 have e:r=fL (fS C (nL (fL (.ok (p+1)) λq=>bT (aV [99,97,108,108] i y) (fU E C.ts q [40] [41]))) [59]) λq=>.ok (aV [100,111] i y ([]++iV (fL (.ok (p+1)) λq=>bT (aV [99,97,108,108] i y) (fU E C.ts q [40] [41]))),q):=by
  rw[b,<-vT λk=>aV [100,111] i y ([]++k)]
  show _=aQ C.ts [59] (bT _ (bT _ (fU E C.ts (p+1) [40] [41])))
  cases fU E C.ts (p+1) [40] [41]<;>rfl
 have O:=aB e;have o:Hid (fL (.ok (p+1)) (λq=>fU E C.ts q [40] [41])≠.error 0):=λe0=>(by grind [d7,aQ,bT,fL])
 have a:=aB (a.Bm ⟨#[100,111]⟩);clear e b V z F G Z e4 A M h;go_wp2_with fail;clear J K L;generalize w2.setCell (aL D 0) (Q_ ⟨#[100,111]⟩)=W at*;obtain⟨x,n,c,H,z0,z1,z2⟩:=a.pre;have HL:=aB (K8 C E Q _ _ ⟨#[40]⟩ ⟨#[41]⟩ H.at_ o);go_region_law (first|refine DL H j λw5 g k5 I a y0 y1 y2=>?_|(go_simp;go_at_call 284;apply HL.mono;rintro e T ⟨l1,P,x4,n4,c4,rfl,l3⟩;have j:=aB (vL.node ⟨l1,P,x4,n4,c4,aJ,l3⟩ [99,97,108,108] y i);obtain⟨u0,u1,u2⟩:=(H.go l1 P s_).cells;clear l1 P l3))
 all_goals
  go_wp2_with fail;refine mh (pI a ⟨#[59]⟩) λw6 a=>?_
  go_wp2
  refine bodyPost_ret (results_none aJ _ _ _) aJ (by grind [d7,Dx])
attribute [local go_sem ↓] Go.wp_at_zero Go.wp_at_succ
def On(C:Ctx)(S:Except Nat Nat)(E B:Nat->bS aC):fL S (jU E B C.ts)=if sG C S [118,97,114]then fL S (sJ E C.ts)else if sG C S [105,102]then fL S (AD E B C.ts)else if sG C S [119,104,105,108,101]then fL S (xO E B C.ts)else if sG C S [114,101,116,117,114,110]then fL S (pN E C.ts)else if sG C S [112,114,105,110,116]then fL S (xR E C.ts)else fL S (fX E C.ts):=by cases S<;>rfl
def Rd(C:Ctx)(E B:Nat->bS aC)(p:Nat){c b:bS aC}(f:c=fL (.ok (p+1)) E)(e:b=fL (nL c) B):AD E B C.ts p=if sG C (nL b) [101,108,115,101]then fL (nL (fL (uL C (nL b) [101,108,115,101]) B)) λq=>.ok (aV [105,102] (sR C (.ok p)) [] ([]++iV c++iV b++iV (fL (uL C (nL b) [101,108,115,101]) B)),q)else fL (nL b) λq=>.ok (aV [105,102] (sR C (.ok p)) [] ([]++iV c++iV b),q):=by
 rw[show fL (.ok (p+1)) E=E (p+1)from rfl]at f
 unfold AD;rw[<-f];cases c with
 |error l=>subst e;rfl
 |ok d=>
  rw[show fL (nL (.ok d)) B=B d.2 from rfl]at e
  show bL (B d.2) _=_
  rw[<-e];cases b with
  |error l=>rfl
  |ok a=>
   show (if bZ C.ts a.2 [101,108,115,101]then _ else _)=if bZ C.ts a.2 [101,108,115,101]then _ else _
   cases h:bZ C.ts a.2 [101,108,115,101]
   .rfl
   rw[show uL C (nL (.ok a)) [101,108,115,101]=.ok (a.2+1)from BW h,show fL (.ok (a.2+1)) B=B (a.2+1)from rfl]
   cases B (a.2+1)<;>rfl
def Q2(C:Ctx)(E:Nat->bS aC)(p:Nat){a:bS aC}(e:a=fL (nM C (.ok (p+1))) λq=>.ok (aV [116,97,114,103,101,116] (oS C (.ok (p+1))) (nF C (.ok (p+1))) [],q)):sJ E C.ts p=fL (fS C (nL (fL (fS C (nL a) [61]) E)) [59]) λq=>.ok (aV [118,97,114] (sR C (.ok p)) [] ([]++iV a++iV (fL (fS C (nL a) [61]) E)),q):=by
 subst e;unfold sJ;by_cases h:(aS C.ts (p+1)).c_=110
 .obtain⟨c,b,d⟩:=OA h;rw[ef G_,c,b,d]
  show _=fL (fS C (nL (fL (fS C (.ok (p+1+1)) [61]) E)) [59]) λq=>.ok (aV _ _ _ (_++iV (fL (fS C (.ok (p+1+1)) [61]) E)),q)
  cases f:bZ C.ts (p+2) [61]
  .grind [Hs.bad,fL,fS,nL]
  rw[mW (aD)];exact(vT (C:=C) (x:=[59]) (λk=>aV [118,97,114] (aS C.ts p).l_ [] (aV [116,97,114,103,101,116] (aS C.ts (p+1)).l_ (aS C.ts (p+1)).x_ []::k)) (E (p+3))).trans aJ
 grind [Hs.bad,fL,fS,nL,nM]
def AK.leaf{C:Ctx}{j w:aN}{f g m n c:Nat}{k i:bP}{b:List aC}{S:Except Nat Nat}{x:Option Addr}(h:AK C j f k i g m b S x n c w)(o t:bP)(l:Nat):eN C w (fL S λq=>.ok (aV o l t [],q)) (bY (bF w.heap.size)) (w.alloc (cD #[Q_ (bs o),I_ l,Q_ (bs t),bO] 119)):=by
 have d:=h.at_.alloc (cD #[Q_ (bs o),I_ l,Q_ (bs t),bO] 119);cases S with
 |error l=>exact⟨(Fr.refl _ _).alloc _,d,_,aJ,λa q e=>by cases e⟩
 |ok p=>exact⟨(Fr.refl _ _).alloc _,d,_,aJ,λa q e=>by cases e;exact tu.mk ⟨aD,s_⟩ (aZ _ _ rfl _) (ed ⟨rfl,rfl⟩)⟩
def GH{Z_:Prop}(Y_:Z_:=by
 go_region_law (first|refine DL H hp4 λw5 g k5 cap HN y0 y1 y2=>?_|(go_simp;go_at_call 99;refine FT H HE HE0 λw4 b4 hp4 u0 u1 u2=>?_))
 all_goals
  go_wp2_with fail;refine mh (pI HN ⟨#[59]⟩) λw6 HN=>?_
  go_wp2
  go_ret;exact HN.post HF):Z_:=Y_
def B5(C:Ctx)(E B:Nat->bS aC)(HE:Reads C 99 E)(G:Reads C 217 B):Reads C 257 (jU E B C.ts):=by
 intro w S h i;obtain⟨r,a,u⟩:∃r,Hid (r=fL S (jU E B C.ts))/\Hid (r≠.error 0):=⟨_,rfl,i⟩;rw[<-a];have a:=aB (a.trans (On ..));have HE:=aB HE;have G:=aB G;have N:=aB (DB C w S h);have I:=h.facts.2.2;have Q:=BR;clear h i;go_in
 go_wp2_with fail;apply N.mono
 rintro e D ⟨t,rfl,HN⟩;clear N;go_wp2_with fail;refine FE (HN [] []) ⟨#[118,97,114]⟩ a ?_ ?_
 .clear HN a;intro f HN a;go_wp2_with fail;refine FE HN ⟨#[105,102]⟩ a ?_ ?_
  .clear HN a;intro f HN a;go_wp2_with fail;refine FE HN ⟨#[119,104,105,108,101]⟩ a ?_ ?_
   .clear HN a;intro f HN a;go_wp2_with fail;refine FE HN ⟨#[114,101,116,117,114,110]⟩ a ?_ ?_
    .clear HN a;intro f HN a;go_wp2_with fail;refine FE HN ⟨#[112,114,105,110,116]⟩ a ?_ ?_
     .clear HN a;intro f HN a;go_wp2_with fail;refine mh (Rx C E HE w _ _ _ S HN (λq e=>by rw[e];rfl) r a u I) λU HN=>?_
      go_wp2
      go_ret;obtain⟨Z,V,m,P,Y,i,s⟩:=HN.out;exact s.post i
     rintro p rfl f L z A y HN a -;have HF:=aB (a.trans (vT (C:=C) (x:=[59]) (λk=>aV [112,114,105,110,116] (sR C (.ok p)) [] k) (fL (.ok (p+1)) E)))
     have HE0:Hid (fL (.ok (p+1)) E≠.error 0):=λe=>u oi
     go_wp2_with fail;have HN:=aB (HN ⟨#[112,114,105,110,116]⟩);clear z A y;generalize f.setCell (aL (H_ D) 0) (Q_ ⟨#[112,114,105,110,116]⟩)=W at*;obtain⟨x,n,c,H,j,d,b⟩:=HN.pre;exact GH
    rintro p rfl f L z A y HN a -;go_wp2_with fail;refine mh (yk (HN ⟨#[114,101,116,117,114,110]⟩) ⟨#[59]⟩) λT HN=>?_
    clear z A y;have i:r=if bZ C.ts (p+1) [59]then _ else _:=a.out
    cases o:sG C (.ok (p+1)) [59]
    .rw[show bZ C.ts (p+1) [59]=false from o]at i
     have HF:=aB (i.trans (vT (C:=C) (x:=[59]) (λk=>aV [114,101,116,117,114,110] (sR C (.ok p)) [] k) (fL (.ok (p+1)) E)))
     have HE0:Hid (fL (.ok (p+1)) E≠.error 0):=λe=>u oi
     obtain⟨x,n,c,H,j,d,b⟩:=HN.pre;clear i o;go_wp2
     exact GH
    rw[show bZ C.ts (p+1) [59]=true from o]at i
    have HF:=aB i;have O:=aB o;clear i o;go_wp2_with fail;refine mh (pI HN ⟨#[59]⟩) λw6 HN=>?_
    go_wp2
    go_ret;exact HN.post (by rw[HF,show fS C (.ok (p+1)) (⟨#[59]⟩:ByteArray).data.toList=.ok (p+1+1)from mW O];rfl)
   rintro p rfl f L z A y HN a -
   have HF:Hid (r=fL (nL (fL (nL (fL (.ok (p+1)) E)) B)) λq=>.ok (aV [119,104,105,108,101] (sR C (.ok p)) [] ([]++iV (fL (.ok (p+1)) E)++iV (fL (nL (fL (.ok (p+1)) E)) B)),q)):=by
    rw[a];show bL (E (p+1)) _=_
    rw[show fL (.ok (p+1)) E=E (p+1)from rfl]
    cases E (p+1)with
    |error l=>rfl
    |ok F=>show bT _ (B F.2)=fL (nL (B F.2)) λq=>.ok (aV _ _ _ ([]++[F.1]++iV (B F.2)),q);cases B F.2<;>rfl
   have HE0:Hid (fL (.ok (p+1)) E≠.error 0):=λe=>u oi
   have v:Hid (fL (nL (fL (.ok (p+1)) E)) B≠.error 0):=λe=>u oi
   go_wp2_with fail;have HN:=aB (HN ⟨#[119,104,105,108,101]⟩);clear z A y;generalize f.setCell (aL (H_ D) 0) (Q_ ⟨#[119,104,105,108,101]⟩)=W at*;obtain⟨x,n,c,H,j,d,b⟩:=HN.pre;go_region_law (first|refine DL H hp4 λw5 g k5 cap HN y0 y1 y2=>?_|(go_simp;go_at_call 99;refine FT H HE HE0 λw4 b4 hp4 u0 u1 u2=>?_))
   all_goals
    go_wp2_with fail;clear d b u1 u2 y1 y2;generalize w5.setCell (aL (H_ D) 3) (P_ (some (aL g 0)) k5 cap)=X at*;clear H hp4;obtain⟨x,n,c,H,j,d,b⟩:=HN.pre;go_region_law (first|refine DL H hp4 λw5 g k5 cap HN y0 y1 y2=>?_|(go_simp;go_at_call 217;refine FT H G v λw4 b4 hp4 u0 u1 u2=>?_))
    all_goals
     go_wp2
     go_ret;exact HN.post HF
  rintro p rfl f L z A y HN a -;have HF:=aB (a.trans (Rd C E B p aJ aJ));have HE0:Hid (fL (.ok (p+1)) E≠.error 0):=λe=>u oi
  have v:Hid (fL (nL (fL (.ok (p+1)) E)) B≠.error 0):=λe=>u oi
  go_wp2_with fail;have HN:=aB (HN ⟨#[105,102]⟩);clear z A y;generalize f.setCell (aL (H_ D) 0) (Q_ ⟨#[105,102]⟩)=W at*;obtain⟨x,n,c,H,j,d,b⟩:=HN.pre;go_cut [] (λwc=>Nd C w (H_ D) [105,102] [] (sR C (.ok p)) 1 ([]++iV (fL (.ok (p+1)) E)) (nL (fL (.ok (p+1)) E)) wc)
  case first=>
   go_region_law (first|refine DL H hp4 λw5 g k5 cap HN y0 y1 y2=>?_|(go_simp;go_at_call 99;refine FT H HE HE0 λw4 b4 hp4 u0 u1 u2=>?_))
   all_goals
    go_wp2_with fail;go_meet
    case rel=>exact HN
  case rest=>
   have HN:=aB hcut;clear hcut H j d b;obtain⟨x,n,c,H,j,d,b⟩:=HN.pre;go_wp2
   go_cut [] (λwc=>Nd C w (H_ D) [105,102] [] (sR C (.ok p)) 2 ([]++iV (fL (.ok (p+1)) E)++iV (fL (nL (fL (.ok (p+1)) E)) B)) (nL (fL (nL (fL (.ok (p+1)) E)) B)) wc)
   case first=>
    go_region_law (first|refine DL H hp4 λw5 g k5 cap HN y0 y1 y2=>?_|(go_simp;go_at_call 217;refine FT H G v λw4 b4 hp4 u0 u1 u2=>?_))
    all_goals
     go_wp2_with fail;go_meet
     case rel=>exact HN
   case rest=>
    have HN:=aB hcut;clear hcut H j d b v;generalize fL (nL (fL (.ok (p+1)) E)) B=J at*;go_wp2_with fail;refine mh (X4 HN ⟨#[101,108,115,101]⟩) λw6 HN=>?_
    have K:=HF.out;cases o:sG C (nL J) [101,108,115,101]<;>rw[o]at K<;>have HF:=aB K
    .have s:=HN.out;rw[show uL C (nL J) (⟨#[101,108,115,101]⟩:ByteArray).data.toList=nL J by cases J with|ok q=>exact BX o|error l=>rfl]at s
     have HN:=aB s;clear K s o;go_wp2
     go_ret;exact HN.post HF
    have M:Hid (fL (uL C (nL J) [101,108,115,101]) B≠.error 0):=λe=>u oi
    clear K o;obtain⟨x,n,c,H,j,d,b⟩:=HN.pre;go_wp2
    go_region_law (first|refine DL H hp4 λw5 g k5 cap HN y0 y1 y2=>?_|(go_simp;go_at_call 217;refine FT H G M λw4 b4 hp4 u0 u1 u2=>?_))
    all_goals
     go_wp2
     go_ret;exact HN.post HF
 rintro p rfl f L z A y HN a -;have HF:=aB (a.trans (Q2 C E p aJ));go_wp2_with fail;refine mh (J1 (HN ⟨#[118,97,114]⟩)) λT HN=>?_
 clear z A y;obtain⟨x,n,c,s⟩:=HN.out;obtain⟨j,d,b⟩:=s.cells;have H:=aB s;have hp4:=aB (s.leaf [116,97,114,103,101,116] (nF C (.ok (p+1))) (oS C (.ok (p+1))));clear s HN;go_wp2_with (at_builtin;refine Ef H hp4 λw5 g k5 cap HN y0 y1 y2=>?_)
 go_wp2_with fail;refine mh (pI HN ⟨#[61]⟩) λw6 HN=>?_
 have HE0:Hid (fL (fS C (nL (fL (nM C (.ok (p+1))) λq=>.ok (aV [116,97,114,103,101,116] (oS C (.ok (p+1))) (nF C (.ok (p+1))) [],q))) [61]) E≠.error 0):=λe=>u oi
 clear H hp4 j d b y0 y1 y2;obtain⟨x,n,c,H,j,d,b⟩:=HN.pre;go_wp2
 exact GH
def SD(C:Ctx)(E:Nat->bS aC)(c:Reads C 99 E)(f:Nat):Reads C 217 (iO E C.ts f):=by
 induction f with
 |zero=>
  intro w S h b;cases S with
  |ok p=>exact eu aJ b
  |error l=>exact Kr C w l h
 |succ f a=>exact ZA C E f (B5 C E _ c a)
