import Derived.Test.YthlhecfcnfjecaaGreatDoorP03
set_option linter.all false
set_option maxRecDepth 100000
set_option maxHeartbeats 0
namespace Go.Proofs.YthlhecfcnfjecaaGreatDoor
open Hs _root_.Go.Proofs.Tryz Go.RowKit
attribute [local go_sem ↓] Go.wp_at_zero Go.wp_at_succ
def xI.node{C:Ctx}{w g:aN}{S:Except Nat Nat}{X:Nat->bU (List aC)}{x:Option Addr}{n c:Nat}(h:xI C w (fI S X) (bR (P_ x n c)) g)(f b:bQ)(d:Nat):eQ C w (fI S λq=>bV (aW f d b) (X q)) (bR (aY (H_ g))) (eF g #[Q_ (bs f),Y d,Q_ (bs b),P_ x n c] 121):=by
 have ⟨h1,h2,x',n',c',e,h3⟩:=h;cases e;have e:(fI S λq=>bV (aW f d b) (X q))=bV (aW f d b) (fI S X):=by cases S<;>rfl
 rw[e];cases j:fI S X with|error l=>grind[Fr.alloc,lK.alloc,eQ,bV,nL]|ok m=>rw[j]at h2;refine⟨h1.alloc _,h2.alloc _,_,aJ,λa q e=>?_⟩;cases e;exact ve.mk ⟨h1.size,s_⟩ (aV _ _ rfl _) (((h3 _ _ j).h_ (by grind[ed,sm])).mono λk i=>⟨i.1,by have:=i.2;simp;exact Z⟩)
def Fe(C:Ctx)(w0:aN)(nb li:Nat)(r:bU aC)(w':aN):Prop:=∃op te m acc S,r=(fI S λq=>.ok (aW op li te acc,q))/\Nd C w0 nb op te li m acc S w'
def vT{C:Ctx}{x:bQ}(f:List aC->aC)(r:bU aC):aQ C.ts x (bV (λv=>f [v]) r)=fI (fR C (nL r) x) λq=>.ok (f (iT r),q):=by cases r with|error l=>rfl|ok a=>grind[aQ,fI,vU,Hs.bad,mW,iT,bV,nL]
def OY(C:Ctx)(S:Except Nat Nat):(∃l,nM C S=.error l/\∀E,fI S (fW E C.ts)=.error l)\/∃p,S=.ok p/\nM C S=.ok (p+1)/\nF C S=(aR C.ts p).x_/\oQ C S=(aR C.ts p).l_/\(aR C.ts p).c_=110:=by cases S with|error l=>exact .inl ⟨l,aJ,λ_=>aJ⟩|ok p=>by_cases h:(aR C.ts p).c_=110;grind[nM,nF,oQ];exact .inl ⟨_,(KA h).1,λE=>by show fW E C.ts p=_;unfold fW;grind[Hs.bad]⟩
def Ip(C:Ctx)(E:Nat->bU aC)(T:Hid (Reads C 100 E))(w0 w:aN)(D i:Nat)(S:Except Nat Nat)(h:Hid (Nd C w0 D [] [] i 0 [] S w))(A:Hid (∀q,S=.ok q->i=(aR C.ts q).l_))(r:bU aC)(M:Hid (r=fI S (fW E C.ts)))(h0:Hid (r≠.error 0))(aa:C.ts.length<=3000):
 Calls prog 286 #[aY C.pb,aY D] w λe w'=>e=fA/\Fe C w0 D i r w':=by
 go_in
 go_wp
 refine mh (M9 h) λw1 a=>?_
 obtain⟨J,⟨v0,K⟩,L,⟨v2,s3⟩,s4⟩:=a.Ap;go_wp2_with fail;refine mh (zw (a.Lx (nF C S)) ⟨#[40]⟩) λw2 a=>?_
 clear J K L s3 s4;obtain⟨J,⟨v0,K⟩,L, -, -⟩:=a.Ap;cases z:sF C (nM C S) [40]
 .have ⟨B,N,HR⟩:∃B,Hid (B=fI (nM C S) λq=>fL E C.ts (C.ts.length+1) q [])/\Hid (r=bN (aQ C.ts [61] B) λX q=>aQ C.ts [59] (bV (λv=>aW [115,101,116] i (nF C S) (X++[v])) (E q))):=by
   refine⟨_,aJ,?_⟩;rcases OY C S with ⟨l,F,G⟩|⟨p,rfl,F,G,e3,e4⟩
   .rw[M.out,G,F];rfl
   grind [dw,fW,fI,sF]
  generalize nF C S=y at*;generalize nM C S=S1 at*;clear z h A M;go_wp2
  go_loopg [] (C.ts.length+1) (λk wr=>∃d f m,m+k<=3500/\B=fI f (λq=>fL E C.ts k q d)/\Nd C w0 D [115,101,116] y i m d f wr)
  case atStart=>exact⟨[],_,0,Z,N,a.Cv ⟨#[115,101,116]⟩⟩
  case round=>
   have ⟨d,f,m,hm,b,t⟩:=hrel;have u:=O b;have H:=O t;clear b t N a J K L;go_wp
   refine mh (l8 H ⟨#[91]⟩) λw3 a=>?_
   clear H;cases s:sF C f [91]
   .have e:B=fI f λq=>.ok (d,q):=by
     rw[u];cases f with
     |error l=>rfl
     |ok q=>
      cases gk with
      |zero=>grind [dw,fI,fL,bN,aQ]
      |succ k=>grind [fL,fI,sF]
    have P:Hid (r=fI (fR C (nL (fI (fR C f [61]) E)) [59]) λq=>.ok (aW [115,101,116] i y (d++iT (fI (fR C f [61]) E)),q)):=by
     rw[HR,e];cases f with
     |error l=>rfl
     |ok q=>
      show bN (aQ C.ts [61] (.ok (d,q))) _=_
      cases h:cA C.ts q [61]
      .grind [aQ,Hs.bad,bN,fI,nL,fR]
      rw[mW h];simp[aQ,h,bN,fI,if_true];exact vT (λk=>aW [115,101,116] i y (d++k)) _
    have o:Hid (fI (fR C f [61]) E≠.error 0):=λe=>h0 (by rw[P,e];rfl)
    have t:=a.out;rw[show uN C f (⟨#[91]⟩:ByteArray).data.toList=f by cases f with|ok q=>exact BY s|error l=>rfl]at t
    have a:=O t;clear t e s u;go_wp21
    refine mh (pH a ⟨#[61]⟩) λV a=>?_
    obtain⟨x,n,c,H,z0,z1,z2⟩:=a.pre;go_wp2
    go_region_law (first|refine DV H j λw5 g k5 I a y0 y1 y2=>?_|(go_simp;go_at_call 100;refine GF H T o λV b4 j u0 u1 u2=>?_))
    all_goals
     go_wp
     refine mh (pH a ⟨#[59]⟩) λw6 a=>?_
     go_wp2
     go_end0;exact⟨aJ,_,_,_,_,_,P,a⟩
   obtain⟨q,rfl⟩:∃q,f=.ok q:=by cases f with|ok q=>simp|error l=>cases s
   have hi:cA C.ts q [91]=true:=s;have b:=u.out;cases gk with
   |zero=>grind [dw,bN,aQ,fI,fL]
   |succ k=>
    have e:B=fI (fR C (nL (E (q+1))) [93]) λq'=>fL E C.ts k q' (d++iT (E (q+1))):=by
     rw[b];show fL E C.ts (k+1) q d=_
     rw[fL,hi,ec rfl];cases E (q+1)with
     |error l=>rfl
     |ok aq=>
      grind [aQ,fI,vU,Hs.bad,mW,iT,nL]
    have o:Hid (fI (.ok (q+1)) E≠.error 0):=λe0=>(by grind [dw,bN,aQ,fI,fL])
    have N:=O e;have t:=a.out;rw[show uN C (.ok q) (⟨#[91]⟩:ByteArray).data.toList=.ok (q+1)from BX hi]at t
    have ⟨x,n,c,H,z0,z1,z2⟩:=t.pre;clear t e s u b hi a;go_wp2
    go_region_law (first|refine DV H j λw5 g k5 I a y0 y1 y2=>?_|(go_simp;go_at_call 100;refine GF H T o λV b4 j u0 u1 u2=>?_))
    all_goals
     go_wp
     refine mh (pH a ⟨#[93]⟩) λw6 a=>?_
     go_wp2
     go_roundg k
     case measure=>exact Z
     grind [dw,fI]
 obtain⟨p,rfl,F,G,e3,e4⟩:=(OY C S).resolve_left (by grind [sF])
 have hl:=A p aJ;have b:=M.out;rw[F]at z a;rw[G]at a ⊢
 rw[e3,<-hl];rw[show fI (.ok p) (fW E C.ts)=fW E C.ts p from rfl]at b
 unfold fW at b;rw[ec G_,show cA C.ts (p+1) [40]=true from z,ec rfl,<-hl]at b
 generalize (aR C.ts p).x_=y at*
 have e:r=fI (fR C (nL (fI (.ok (p+1)) λq=>bV (aW [99,97,108,108] i y) (fU E C.ts q [40] [41]))) [59]) λq=>.ok (aW [100,111] i y ([]++iT (fI (.ok (p+1)) λq=>bV (aW [99,97,108,108] i y) (fU E C.ts q [40] [41]))),q):=by
  rw[b,<-vT λk=>aW [100,111] i y ([]++k)]
  show _=aQ C.ts [59] (bV _ (bV _ (fU E C.ts (p+1) [40] [41])))
  cases fU E C.ts (p+1) [40] [41]<;>rfl
 have P:=O e;have o:Hid (fI (.ok (p+1)) (λq=>fU E C.ts q [40] [41])≠.error 0):=λe0=>(by grind [dw,aQ,bV,fI])
 have a:=O (a.Cv ⟨#[100,111]⟩);clear e b hl z F G e3 e4 A M h;go_wp21
 clear J K L;generalize w2.setCell (aL D 0) (Q_ ⟨#[100,111]⟩)=W at*;obtain⟨x,n,c,H,z0,z1,z2⟩:=a.pre;have HL:=O (O8 C E T _ _ ⟨#[40]⟩ ⟨#[41]⟩ H.at_ o);go_region_law (first|refine DV H j λw5 g k5 I a y0 y1 y2=>?_|(go_simp;go_at_call 285;apply HL.mono;rintro e V ⟨l1,Q,x4,n4,c4,rfl,l3⟩;have j:=O (xI.node ⟨l1,Q,x4,n4,c4,aJ,l3⟩ [99,97,108,108] y i);have ⟨u0,u1,u2⟩:=(H.go l1 Q s_).cells;clear l1 Q l3))
 all_goals
  go_wp
  refine mh (pH a ⟨#[59]⟩) λw6 a=>?_
  go_wp2
  refine bodyPost_ret (results_none aJ _ _ _) aJ (by grind [dw,Fe])
attribute [local go_sem ↓] Go.wp_at_zero Go.wp_at_succ
def Wp(C:Ctx)(S:Except Nat Nat)(E B:Nat->bU aC):fI S (jU E B C.ts)=if sF C S [118,97,114]then fI S (sI E C.ts)else if sF C S [105,102]then fI S (AE E B C.ts)else if sF C S [119,104,105,108,101]then fI S (xO E B C.ts)else if sF C S [114,101,116,117,114,110]then fI S (pM E C.ts)else if sF C S [112,114,105,110,116]then fI S (xR E C.ts)else fI S (fW E C.ts):=by cases S<;>rfl
def Je(C:Ctx)(E B:Nat->bU aC)(p:Nat){c b:bU aC}(f:c=fI (.ok (p+1)) E)(e:b=fI (nL c) B):AE E B C.ts p=if sF C (nL b) [101,108,115,101]then fI (nL (fI (uN C (nL b) [101,108,115,101]) B)) λq=>.ok (aW [105,102] (sQ C (.ok p)) [] ([]++iT c++iT b++iT (fI (uN C (nL b) [101,108,115,101]) B)),q)else fI (nL b) λq=>.ok (aW [105,102] (sQ C (.ok p)) [] ([]++iT c++iT b),q):=by rw[show fI (.ok (p+1)) E=E (p+1)from rfl]at f;unfold AE;rw[<-f];cases c with|error l=>subst e;rfl|ok d=>rw[show fI (nL (.ok d)) B=B d.2 from rfl]at e;show bN (B d.2) _=_;rw[<-e];cases b with|error l=>rfl|ok a=>show (if cA C.ts a.2 [101,108,115,101]then _ else _)=if cA C.ts a.2 [101,108,115,101]then _ else _;cases h:cA C.ts a.2 [101,108,115,101];rfl;rw[show uN C (nL (.ok a)) [101,108,115,101]=.ok (a.2+1)from BX h,show fI (.ok (a.2+1)) B=B (a.2+1)from rfl];cases B (a.2+1)<;>rfl
def Po(C:Ctx)(E:Nat->bU aC)(p:Nat){a:bU aC}(b:a=fI (nM C (.ok (p+1))) λq=>.ok (aW [116,97,114,103,101,116] (oQ C (.ok (p+1))) (nF C (.ok (p+1))) [],q)):sI E C.ts p=fI (fR C (nL (fI (fR C (nL a) [61]) E)) [59]) λq=>.ok (aW [118,97,114] (sQ C (.ok p)) [] ([]++iT a++iT (fI (fR C (nL a) [61]) E)),q):=by subst b;unfold sI;by_cases h:(aR C.ts (p+1)).c_=110;have ⟨f1,f2,f3⟩:=OZ h;rw[ec G_,f1,f2,f3];show _=fI (fR C (nL (fI (fR C (.ok (p+1+1)) [61]) E)) [59]) λq=>.ok (aW _ _ _ (_++iT (fI (fR C (.ok (p+1+1)) [61]) E)),q);cases c:cA C.ts (p+2) [61];grind[Hs.bad,fI,fR,nL];rw[mW (Z)];exact(vT (C:=C) (x:=[59]) (λk=>aW [118,97,114] (aR C.ts p).l_ [] (aW [116,97,114,103,101,116] (aR C.ts (p+1)).l_ (aR C.ts (p+1)).x_ []::k)) (E (p+3))).trans aJ;grind[Hs.bad,fI,fR,nL,nM]
def AL.leaf{C:Ctx}{j w:aN}{f g m n c:Nat}{k i:bQ}{b:List aC}{S:Except Nat Nat}{x:Option Addr}(h:AL C j f k i g m b S x n c w)(o t:bQ)(l:Nat):eQ C w (fI S λq=>.ok (aW o l t [],q)) (bR (aY w.heap.size)) (w.alloc (bO #[Q_ (bs o),Y l,Q_ (bs t),bP] 121)):=by have d:=h.at_.alloc (bO #[Q_ (bs o),Y l,Q_ (bs t),bP] 121);cases S with|error l=>exact⟨(Fr.refl _ _).alloc _,d,_,aJ,λa q e=>by cases e⟩|ok p=>exact⟨(Fr.refl _ _).alloc _,d,_,aJ,λa q e=>by cases e;exact ve.mk ⟨Z,s_⟩ (aV _ _ rfl _) (ea ⟨rfl,rfl⟩)⟩
def GU{Z_:Prop}(Y_:Z_:=by go_region_law (first|refine DV H hp4 λw5 g k5 cap HN y0 y1 y2=>?_|(go_simp;go_at_call 100;refine GF H HE HE0 λw4 b4 hp4 u0 u1 u2=>?_));all_goals go_wp2_with fail;refine mh (pH HN ⟨#[59]⟩) λw6 HN=>?_;go_wp2;go_ret;exact HN.post HF):Z_:=Y_
def F4(C:Ctx)(E B:Nat->bU aC)(HE:Reads C 100 E)(G:Reads C 218 B):Reads C 258 (jU E B C.ts):=by
 intro w S h i;obtain⟨r,a,u⟩:∃r,Hid (r=fI S (jU E B C.ts))/\Hid (r≠.error 0):=⟨_,rfl,i⟩;rw[<-a];have a:=O (a.trans (Wp ..));have HE:=O HE;have G:=O G;have N:=O (Fx C w S h);have I:=h.facts.2.2;have Q:=BU;clear h i;go_in
 go_wp2_with fail;apply N.mono
 rintro e D ⟨t,rfl,HN⟩;clear N;go_wp2_with fail;refine FN (HN [] []) ⟨#[118,97,114]⟩ a ?_ ?_
 .clear HN a;intro f HN a;go_wp21
  refine FN HN ⟨#[105,102]⟩ a ?_ ?_
  .clear HN a;intro f HN a;go_wp21
   refine FN HN ⟨#[119,104,105,108,101]⟩ a ?_ ?_
   .clear HN a;intro f HN a;go_wp21
    refine FN HN ⟨#[114,101,116,117,114,110]⟩ a ?_ ?_
    .clear HN a;intro f HN a;go_wp21
     refine FN HN ⟨#[112,114,105,110,116]⟩ a ?_ ?_
     .clear HN a;intro f HN a;go_wp21
      refine mh (Ip C E HE w _ _ _ S HN (λq e=>by rw[e];rfl) r a u I) λV HN=>?_
      go_wp2
      go_ret;have ⟨op,te,m,acc,S',i,s⟩:=HN.out;exact s.post i
     rintro p rfl f L z A y HN a -;have HF:=O (a.trans (vT (C:=C) (x:=[59]) (λk=>aW [112,114,105,110,116] (sQ C (.ok p)) [] k) (fI (.ok (p+1)) E)))
     have HE0:Hid (fI (.ok (p+1)) E≠.error 0):=λe=>u pp
     go_wp21
     have HN:=O (HN ⟨#[112,114,105,110,116]⟩);clear z A y;generalize f.setCell (aL (H_ D) 0) (Q_ ⟨#[112,114,105,110,116]⟩)=W at*;obtain⟨x,n,c,H,j,d,b⟩:=HN.pre;exact GU
    rintro p rfl f L z A y HN a -;go_wp21
    refine mh (zw (HN ⟨#[114,101,116,117,114,110]⟩) ⟨#[59]⟩) λT HN=>?_
    clear z A y;have i:r=if cA C.ts (p+1) [59]then _ else _:=a.out
    cases o:sF C (.ok (p+1)) [59]
    .rw[show cA C.ts (p+1) [59]=false from o]at i
     have HF:=O (i.trans (vT (C:=C) (x:=[59]) (λk=>aW [114,101,116,117,114,110] (sQ C (.ok p)) [] k) (fI (.ok (p+1)) E)))
     have HE0:Hid (fI (.ok (p+1)) E≠.error 0):=λe=>u pp
     obtain⟨x,n,c,H,j,d,b⟩:=HN.pre;clear i o;go_wp2
     exact GU
    rw[show cA C.ts (p+1) [59]=true from o]at i
    have HF:=O i;have P:=O o;clear i o;go_wp21
    refine mh (pH HN ⟨#[59]⟩) λw6 HN=>?_
    go_wp2
    go_ret;exact HN.post (by rw[HF,show fR C (.ok (p+1)) (⟨#[59]⟩:ByteArray).data.toList=.ok (p+1+1)from mW P];rfl)
   rintro p rfl f L z A y HN a -
   have HF:Hid (r=fI (nL (fI (nL (fI (.ok (p+1)) E)) B)) λq=>.ok (aW [119,104,105,108,101] (sQ C (.ok p)) [] ([]++iT (fI (.ok (p+1)) E)++iT (fI (nL (fI (.ok (p+1)) E)) B)),q)):=by
    rw[a];show bN (E (p+1)) _=_
    rw[show fI (.ok (p+1)) E=E (p+1)from rfl]
    cases E (p+1)with
    |error l=>rfl
    |ok F=>show bV _ (B F.2)=fI (nL (B F.2)) λq=>.ok (aW _ _ _ ([]++[F.1]++iT (B F.2)),q);cases B F.2<;>rfl
   have HE0:Hid (fI (.ok (p+1)) E≠.error 0):=λe=>u pp
   have v:Hid (fI (nL (fI (.ok (p+1)) E)) B≠.error 0):=λe=>u pp
   go_wp21
   have HN:=O (HN ⟨#[119,104,105,108,101]⟩);clear z A y;generalize f.setCell (aL (H_ D) 0) (Q_ ⟨#[119,104,105,108,101]⟩)=W at*;obtain⟨x,n,c,H,j,d,b⟩:=HN.pre;go_region_law (first|refine DV H hp4 λw5 g k5 cap HN y0 y1 y2=>?_|(go_simp;go_at_call 100;refine GF H HE HE0 λw4 b4 hp4 u0 u1 u2=>?_))
   all_goals
    go_wp
    clear d b u1 u2 y1 y2;generalize w5.setCell (aL (H_ D) 3) (P_ (some (aL g 0)) k5 cap)=X at*;clear H hp4;have ⟨x,n,c,H,j,d,b⟩:=HN.pre;go_region_law (first|refine DV H hp4 λw5 g k5 cap HN y0 y1 y2=>?_|(go_simp;go_at_call 218;refine GF H G v λw4 b4 hp4 u0 u1 u2=>?_))
    all_goals
     go_wp2
     go_ret;exact HN.post HF
  rintro p rfl f L z A y HN a -;have HF:=O (a.trans (Je C E B p aJ aJ));have HE0:Hid (fI (.ok (p+1)) E≠.error 0):=λe=>u pp
  have v:Hid (fI (nL (fI (.ok (p+1)) E)) B≠.error 0):=λe=>u pp
  go_wp21
  have HN:=O (HN ⟨#[105,102]⟩);clear z A y;generalize f.setCell (aL (H_ D) 0) (Q_ ⟨#[105,102]⟩)=W at*;obtain⟨x,n,c,H,j,d,b⟩:=HN.pre;go_cut [] (λwc=>Nd C w (H_ D) [105,102] [] (sQ C (.ok p)) 1 ([]++iT (fI (.ok (p+1)) E)) (nL (fI (.ok (p+1)) E)) wc)
  case first=>
   go_region_law (first|refine DV H hp4 λw5 g k5 cap HN y0 y1 y2=>?_|(go_simp;go_at_call 100;refine GF H HE HE0 λw4 b4 hp4 u0 u1 u2=>?_))
   all_goals
    go_wp
    go_meet
    case rel=>exact HN
  case rest=>
   have HN:=O hcut;clear hcut H j d b;have ⟨x,n,c,H,j,d,b⟩:=HN.pre;go_wp2
   go_cut [] (λwc=>Nd C w (H_ D) [105,102] [] (sQ C (.ok p)) 2 ([]++iT (fI (.ok (p+1)) E)++iT (fI (nL (fI (.ok (p+1)) E)) B)) (nL (fI (nL (fI (.ok (p+1)) E)) B)) wc)
   case first=>
    go_region_law (first|refine DV H hp4 λw5 g k5 cap HN y0 y1 y2=>?_|(go_simp;go_at_call 218;refine GF H G v λw4 b4 hp4 u0 u1 u2=>?_))
    all_goals
     go_wp
     go_meet
     case rel=>exact HN
   case rest=>
    have HN:=O hcut;clear hcut H j d b v;generalize fI (nL (fI (.ok (p+1)) E)) B=J at*;go_wp
    refine mh (l8 HN ⟨#[101,108,115,101]⟩) λw6 HN=>?_
    have K:=HF.out;cases o:sF C (nL J) [101,108,115,101]<;>rw[o]at K<;>have HF:=O K
    .have s:=HN.out;rw[show uN C (nL J) (⟨#[101,108,115,101]⟩:ByteArray).data.toList=nL J by cases J with|ok q=>exact BY o|error l=>rfl]at s
     have HN:=O s;clear K s o;go_wp2
     go_ret;exact HN.post HF
    have M:Hid (fI (uN C (nL J) [101,108,115,101]) B≠.error 0):=λe=>u pp
    clear K o;have ⟨x,n,c,H,j,d,b⟩:=HN.pre;go_wp2
    go_region_law (first|refine DV H hp4 λw5 g k5 cap HN y0 y1 y2=>?_|(go_simp;go_at_call 218;refine GF H G M λw4 b4 hp4 u0 u1 u2=>?_))
    all_goals
     go_wp2
     go_ret;exact HN.post HF
 rintro p rfl f L z A y HN a -;have HF:=O (a.trans (Po C E p aJ));go_wp21
 refine mh (M9 (HN ⟨#[118,97,114]⟩)) λT HN=>?_
 clear z A y;have ⟨x,n,c,s⟩:=HN.out;have ⟨j,d,b⟩:=s.cells;have H:=O s;have hp4:=O (s.leaf [116,97,114,103,101,116] (nF C (.ok (p+1))) (oQ C (.ok (p+1))));clear s HN;go_wp2_with (at_builtin;refine Fm H hp4 λw5 g k5 cap HN y0 y1 y2=>?_)
 go_wp
 refine mh (pH HN ⟨#[61]⟩) λw6 HN=>?_
 have HE0:Hid (fI (fR C (nL (fI (nM C (.ok (p+1))) λq=>.ok (aW [116,97,114,103,101,116] (oQ C (.ok (p+1))) (nF C (.ok (p+1))) [],q))) [61]) E≠.error 0):=λe=>u pp
 clear H hp4 j d b y0 y1 y2;obtain⟨x,n,c,H,j,d,b⟩:=HN.pre;go_wp2
 exact GU
def TI(C:Ctx)(E:Nat->bU aC)(c:Reads C 100 E)(f:Nat):Reads C 218 (iO E C.ts f):=by
 induction f with
 |zero=>intro w S h b;cases S with|ok p=>exact ep aJ b|error l=>exact Qw C w l h
 |succ f a=>exact A8 C E f (F4 C E _ c a)
