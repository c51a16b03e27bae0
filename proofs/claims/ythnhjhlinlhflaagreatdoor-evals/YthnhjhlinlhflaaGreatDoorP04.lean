import Derived.Test.YthnhjhlinlhflaaGreatDoorP03
set_option linter.all false
set_option maxRecDepth 100000
set_option maxHeartbeats 0
namespace Go.Proofs.YthnhjhlinlhflaaGreatDoor
open Hs _root_.Go.Proofs.Tryz Go.RowKit
attribute [local go_sem ↓] Go.wp_at_zero Go.wp_at_succ
def xU.node{C:Ctx}{w g:aL}{S:Except Nat Nat}{X:Nat->bN (List aC)}{x:Option Addr}{n c:Nat}(h:xU C w (fE S X) (bP (P_ x n c)) g)(f b:bS)(d:Nat):eH C w (fE S λq=>bQ (aV f d b) (X q)) (bP (aW (H_ g))) (dZ g #[Q_ (bs f),Y d,Q_ (bs b),P_ x n c] 120):=by
 have ⟨h1,h2,x',n',c',e,h3⟩:=h;cases e;have e:(fE S λq=>bQ (aV f d b) (X q))=bQ (aV f d b) (fE S X):=by cases S<;>rfl
 rw[e];cases j:fE S X with|error l=>grind[Fr.alloc,lH.alloc,eH,bQ,nJ]|ok m=>rw[j]at h2;refine⟨h1.alloc _,h2.alloc _,_,i_,λa q e=>?_⟩;cases e;exact vb.mk ⟨h1.size,s_⟩ (aS _ _ rfl _) (((h3 _ _ j).j_ (by grind[ed,si])).mono λk i=>⟨i.1,by have:=i.2;simp;exact Z⟩)
def Gn(C:Ctx)(w0:aL)(nb li:Nat)(r:bN aC)(w':aL):Prop:=∃op te m acc S,r=(fE S λq=>.ok (aV op li te acc,q))/\Nd C w0 nb op te li m acc S w'
def wE{C:Ctx}{x:bS}(f:List aC->aC)(r:bN aC):aQ C.ts x (bQ (λv=>f [v]) r)=fE (fQ C (nJ r) x) λq=>.ok (f (iV r),q):=by cases r with|error l=>rfl|ok a=>grind[aQ,fE,wF,Hs.bad,nB,iV,bQ,nJ]
def PX(C:Ctx)(S:Except Nat Nat):(∃l,nT C S=.error l/\∀E,fE S (fY E C.ts)=.error l)\/∃p,S=.ok p/\nT C S=.ok (p+1)/\nK C S=(aP C.ts p).x_/\pE C S=(aP C.ts p).l_/\(aP C.ts p).c_=110:=by cases S with|error l=>exact .inl ⟨l,i_,λ_=>i_⟩|ok p=>by_cases h:(aP C.ts p).c_=110;grind[nT,nK,pE];exact .inl ⟨_,(KH h).1,λE=>by show fY E C.ts p=_;unfold fY;grind[Hs.bad]⟩
def Jk(C:Ctx)(E:Nat->bN aC)(T:Hid (Reads C 99 E))(w0 w:aL)(D i:Nat)(S:Except Nat Nat)(h:Hid (Nd C w0 D [] [] i 0 [] S w))(A:Hid (∀q,S=.ok q->i=(aP C.ts q).l_))(r:bN aC)(M:Hid (r=fE S (fY E C.ts)))(h0:Hid (r≠.error 0))(aa:C.ts.length<=3000):
 Calls prog 285 #[aW C.pb,aW D] w λe w'=>e=eV/\Gn C w0 D i r w':=by
 go_in
 go_wp
 refine mh (N8 h) λw1 a=>?_
 obtain⟨J,⟨v0,K⟩,L,⟨v2,s3⟩,s4⟩:=a.As;go_wp2_with fail;refine mh (Ae (a.Pd (nK C S)) ⟨#[40]⟩) λw2 a=>?_
 clear J K L s3 s4;obtain⟨J,⟨v0,K⟩,L, -, -⟩:=a.As;cases z:sQ C (nT C S) [40]
 .have ⟨B,N,HR⟩:∃B,Hid (B=fE (nT C S) λq=>fJ E C.ts (C.ts.length+1) q [])/\Hid (r=bK (aQ C.ts [61] B) λV q=>aQ C.ts [59] (bQ (λv=>aV [115,101,116] i (nK C S) (V++[v])) (E q))):=by
   refine⟨_,i_,?_⟩;rcases PX C S with ⟨l,F,G⟩|⟨p,rfl,F,G,e3,e4⟩
   .rw[M.out,G,F];rfl
   grind [dz,fY,fE,sQ]
  generalize nK C S=y at*;generalize nT C S=S1 at*;clear z h A M;go_wp2
  go_loopg [] (C.ts.length+1) (λk wr=>∃d f m,m+k<=3500/\B=fE f (λq=>fJ E C.ts k q d)/\Nd C w0 D [115,101,116] y i m d f wr)
  case atStart=>exact⟨[],_,0,Z,N,a.Cr ⟨#[115,101,116]⟩⟩
  case round=>
   have ⟨d,f,m,hm,b,t⟩:=hrel;have u:=O b;have H:=O t;clear b t N a J K L;go_wp
   refine mh (m6 H ⟨#[91]⟩) λw3 a=>?_
   clear H;cases s:sQ C f [91]
   .have e:B=fE f λq=>.ok (d,q):=by
     rw[u];cases f with
     |error l=>rfl
     |ok q=>
      cases gk with
      |zero=>grind [dz,fE,fJ,bK,aQ]
      |succ k=>grind [fJ,fE,sQ]
    have P:Hid (r=fE (fQ C (nJ (fE (fQ C f [61]) E)) [59]) λq=>.ok (aV [115,101,116] i y (d++iV (fE (fQ C f [61]) E)),q)):=by
     rw[HR,e];cases f with
     |error l=>rfl
     |ok q=>
      show bK (aQ C.ts [61] (.ok (d,q))) _=_
      cases h:bX C.ts q [61]
      .grind [aQ,Hs.bad,bK,fE,nJ,fQ]
      rw[nB h];simp[aQ,h,bK,fE,if_true];exact wE (λk=>aV [115,101,116] i y (d++k)) _
    have o:Hid (fE (fQ C f [61]) E≠.error 0):=λe=>h0 (by rw[P,e];rfl)
    have t:=a.out;rw[show uX C f (⟨#[91]⟩:ByteArray).data.toList=f by cases f with|ok q=>exact CO s|error l=>rfl]at t
    have a:=O t;clear t e s u;go_wp21
    refine mh (pS a ⟨#[61]⟩) λU a=>?_
    obtain⟨x,n,c,H,z0,z1,z2⟩:=a.pre;go_wp2
    go_region_law (first|refine EG H j λw5 g k5 I a y0 y1 y2=>?_|(go_simp;go_at_call 99;refine GO H T o λU b4 j u0 u1 u2=>?_))
    all_goals
     go_wp
     refine mh (pS a ⟨#[59]⟩) λw6 a=>?_
     go_wp2
     go_end0;exact⟨i_,_,_,_,_,_,P,a⟩
   obtain⟨q,rfl⟩:∃q,f=.ok q:=by cases f with|ok q=>simp|error l=>cases s
   have hi:bX C.ts q [91]=true:=s;have b:=u.out;cases gk with
   |zero=>grind [dz,bK,aQ,fE,fJ]
   |succ k=>
    have e:B=fE (fQ C (nJ (E (q+1))) [93]) λq'=>fJ E C.ts k q' (d++iV (E (q+1))):=by
     rw[b];show fJ E C.ts (k+1) q d=_
     rw[fJ,hi,ec rfl];cases E (q+1)with
     |error l=>rfl
     |ok aq=>
      grind [aQ,fE,wF,Hs.bad,nB,iV,nJ]
    have o:Hid (fE (.ok (q+1)) E≠.error 0):=λe0=>(by grind [dz,bK,aQ,fE,fJ])
    have N:=O e;have t:=a.out;rw[show uX C (.ok q) (⟨#[91]⟩:ByteArray).data.toList=.ok (q+1)from CN hi]at t
    have ⟨x,n,c,H,z0,z1,z2⟩:=t.pre;clear t e s u b hi a;go_wp2
    go_region_law (first|refine EG H j λw5 g k5 I a y0 y1 y2=>?_|(go_simp;go_at_call 99;refine GO H T o λU b4 j u0 u1 u2=>?_))
    all_goals
     go_wp
     refine mh (pS a ⟨#[93]⟩) λw6 a=>?_
     go_wp2
     go_roundg k
     case measure=>exact Z
     grind [dz,fE]
 obtain⟨p,rfl,F,G,e3,e4⟩:=(PX C S).resolve_left (by grind [sQ])
 have X:=A p i_;have b:=M.out;rw[F]at z a;rw[G]at a ⊢
 rw[e3,<-X];rw[show fE (.ok p) (fY E C.ts)=fY E C.ts p from rfl]at b
 unfold fY at b;rw[ec G_,show bX C.ts (p+1) [40]=true from z,ec rfl,<-X]at b
 generalize (aP C.ts p).x_=y at*
 have e:r=fE (fQ C (nJ (fE (.ok (p+1)) λq=>bQ (aV [99,97,108,108] i y) (fU E C.ts q [40] [41]))) [59]) λq=>.ok (aV [100,111] i y ([]++iV (fE (.ok (p+1)) λq=>bQ (aV [99,97,108,108] i y) (fU E C.ts q [40] [41]))),q):=by
  rw[b,<-wE λk=>aV [100,111] i y ([]++k)]
  show _=aQ C.ts [59] (bQ _ (bQ _ (fU E C.ts (p+1) [40] [41])))
  cases fU E C.ts (p+1) [40] [41]<;>rfl
 have P:=O e;have o:Hid (fE (.ok (p+1)) (λq=>fU E C.ts q [40] [41])≠.error 0):=λe0=>(by grind [dz,aQ,bQ,fE])
 have a:=O (a.Cr ⟨#[100,111]⟩);clear e b X z F G e3 e4 A M h;go_wp21
 clear J K L;generalize w2.setCell (aJ D 0) (Q_ ⟨#[100,111]⟩)=W at*;obtain⟨x,n,c,H,z0,z1,z2⟩:=a.pre;have HL:=O (P3 C E T _ _ ⟨#[40]⟩ ⟨#[41]⟩ H.at_ o);go_region_law (first|refine EG H j λw5 g k5 I a y0 y1 y2=>?_|(go_simp;go_at_call 284;apply HL.mono;rintro e U ⟨l1,Q,x4,n4,c4,rfl,l3⟩;have j:=O (xU.node ⟨l1,Q,x4,n4,c4,i_,l3⟩ [99,97,108,108] y i);have ⟨u0,u1,u2⟩:=(H.go l1 Q s_).cells;clear l1 Q l3))
 all_goals
  go_wp
  refine mh (pS a ⟨#[59]⟩) λw6 a=>?_
  go_wp2
  refine bodyPost_ret (results_none i_ _ _ _) i_ (by grind [dz,Gn])
attribute [local go_sem ↓] Go.wp_at_zero Go.wp_at_succ
def Ux(C:Ctx)(S:Except Nat Nat)(E B:Nat->bN aC):fE S (kE E B C.ts)=if sQ C S [118,97,114]then fE S (sT E C.ts)else if sQ C S [105,102]then fE S (AT E B C.ts)else if sQ C S [119,104,105,108,101]then fE S (xZ E B C.ts)else if sQ C S [114,101,116,117,114,110]then fE S (pX E C.ts)else if sQ C S [112,114,105,110,116]then fE S (yC E C.ts)else fE S (fY E C.ts):=by cases S<;>rfl
def Lo(C:Ctx)(E B:Nat->bN aC)(p:Nat){c b:bN aC}(f:c=fE (.ok (p+1)) E)(e:b=fE (nJ c) B):AT E B C.ts p=if sQ C (nJ b) [101,108,115,101]then fE (nJ (fE (uX C (nJ b) [101,108,115,101]) B)) λq=>.ok (aV [105,102] (tD C (.ok p)) [] ([]++iV c++iV b++iV (fE (uX C (nJ b) [101,108,115,101]) B)),q)else fE (nJ b) λq=>.ok (aV [105,102] (tD C (.ok p)) [] ([]++iV c++iV b),q):=by rw[show fE (.ok (p+1)) E=E (p+1)from rfl]at f;unfold AT;rw[<-f];cases c with|error l=>subst e;rfl|ok d=>rw[show fE (nJ (.ok d)) B=B d.2 from rfl]at e;show bK (B d.2) _=_;rw[<-e];cases b with|error l=>rfl|ok a=>show (if bX C.ts a.2 [101,108,115,101]then _ else _)=if bX C.ts a.2 [101,108,115,101]then _ else _;cases h:bX C.ts a.2 [101,108,115,101];rfl;rw[show uX C (nJ (.ok a)) [101,108,115,101]=.ok (a.2+1)from CN h,show fE (.ok (a.2+1)) B=B (a.2+1)from rfl];cases B (a.2+1)<;>rfl
def Ic(C:Ctx)(E:Nat->bN aC)(p:Nat){a:bN aC}(b:a=fE (nT C (.ok (p+1))) λq=>.ok (aV [116,97,114,103,101,116] (pE C (.ok (p+1))) (nK C (.ok (p+1))) [],q)):sT E C.ts p=fE (fQ C (nJ (fE (fQ C (nJ a) [61]) E)) [59]) λq=>.ok (aV [118,97,114] (tD C (.ok p)) [] ([]++iV a++iV (fE (fQ C (nJ a) [61]) E)),q):=by subst b;unfold sT;by_cases h:(aP C.ts (p+1)).c_=110;have ⟨f1,f2,f3⟩:=PY h;rw[ec G_,f1,f2,f3];show _=fE (fQ C (nJ (fE (fQ C (.ok (p+1+1)) [61]) E)) [59]) λq=>.ok (aV _ _ _ (_++iV (fE (fQ C (.ok (p+1+1)) [61]) E)),q);cases c:bX C.ts (p+2) [61];grind[Hs.bad,fE,fQ,nJ];rw[nB (Z)];exact(wE (C:=C) (x:=[59]) (λk=>aV [118,97,114] (aP C.ts p).l_ [] (aV [116,97,114,103,101,116] (aP C.ts (p+1)).l_ (aP C.ts (p+1)).x_ []::k)) (E (p+3))).trans i_;grind[Hs.bad,fE,fQ,nJ,nT]
def AY.leaf{C:Ctx}{j w:aL}{f g m n c:Nat}{k i:bS}{b:List aC}{S:Except Nat Nat}{x:Option Addr}(h:AY C j f k i g m b S x n c w)(o t:bS)(l:Nat):eH C w (fE S λq=>.ok (aV o l t [],q)) (bP (aW w.heap.size)) (w.alloc (bM #[Q_ (bs o),Y l,Q_ (bs t),bR] 120)):=by have d:=h.at_.alloc (bM #[Q_ (bs o),Y l,Q_ (bs t),bR] 120);cases S with|error l=>exact⟨(Fr.refl _ _).alloc _,d,_,i_,λa q e=>by cases e⟩|ok p=>exact⟨(Fr.refl _ _).alloc _,d,_,i_,λa q e=>by cases e;exact vb.mk ⟨Z,s_⟩ (aS _ _ rfl _) (ea ⟨rfl,rfl⟩)⟩
def II{Z_:Prop}(Y_:Z_:=by go_region_law (first|refine EG H hp4 λw5 g k5 cap HN y0 y1 y2=>?_|(go_simp;go_at_call 99;refine GO H HE HE0 λw4 b4 hp4 u0 u1 u2=>?_));all_goals go_wp2_with fail;refine mh (pS HN ⟨#[59]⟩) λw6 HN=>?_;go_wp2;go_ret;exact HN.post HF):Z_:=Y_
def G7(C:Ctx)(E B:Nat->bN aC)(HE:Reads C 99 E)(G:Reads C 217 B):Reads C 257 (kE E B C.ts):=by
 intro w S h i;obtain⟨r,a,u⟩:∃r,Hid (r=fE S (kE E B C.ts))/\Hid (r≠.error 0):=⟨_,rfl,i⟩;rw[<-a];have a:=O (a.trans (Ux ..));have HE:=O HE;have G:=O G;have N:=O (Ff C w S h);have I:=h.facts.2.2;have Q:=CH;clear h i;go_in
 go_wp2_with fail;apply N.mono
 rintro e D ⟨t,rfl,HN⟩;clear N;go_wp2_with fail;refine FX (HN [] []) ⟨#[118,97,114]⟩ a ?_ ?_
 .clear HN a;intro f HN a;go_wp21
  refine FX HN ⟨#[105,102]⟩ a ?_ ?_
  .clear HN a;intro f HN a;go_wp21
   refine FX HN ⟨#[119,104,105,108,101]⟩ a ?_ ?_
   .clear HN a;intro f HN a;go_wp21
    refine FX HN ⟨#[114,101,116,117,114,110]⟩ a ?_ ?_
    .clear HN a;intro f HN a;go_wp21
     refine FX HN ⟨#[112,114,105,110,116]⟩ a ?_ ?_
     .clear HN a;intro f HN a;go_wp21
      refine mh (Jk C E HE w _ _ _ S HN (λq e=>by rw[e];rfl) r a u I) λU HN=>?_
      go_wp2
      go_ret;have ⟨op,te,m,acc,S',i,s⟩:=HN.out;exact s.post i
     rintro p rfl f L z A y HN a -;have HF:=O (a.trans (wE (C:=C) (x:=[59]) (λk=>aV [112,114,105,110,116] (tD C (.ok p)) [] k) (fE (.ok (p+1)) E)))
     have HE0:Hid (fE (.ok (p+1)) E≠.error 0):=λe=>u oq
     go_wp21
     have HN:=O (HN ⟨#[112,114,105,110,116]⟩);clear z A y;generalize f.setCell (aJ (H_ D) 0) (Q_ ⟨#[112,114,105,110,116]⟩)=W at*;obtain⟨x,n,c,H,j,d,b⟩:=HN.pre;exact II
    rintro p rfl f L z A y HN a -;go_wp21
    refine mh (Ae (HN ⟨#[114,101,116,117,114,110]⟩) ⟨#[59]⟩) λT HN=>?_
    clear z A y;have i:r=if bX C.ts (p+1) [59]then _ else _:=a.out
    cases o:sQ C (.ok (p+1)) [59]
    .rw[show bX C.ts (p+1) [59]=false from o]at i
     have HF:=O (i.trans (wE (C:=C) (x:=[59]) (λk=>aV [114,101,116,117,114,110] (tD C (.ok p)) [] k) (fE (.ok (p+1)) E)))
     have HE0:Hid (fE (.ok (p+1)) E≠.error 0):=λe=>u oq
     obtain⟨x,n,c,H,j,d,b⟩:=HN.pre;clear i o;go_wp2
     exact II
    rw[show bX C.ts (p+1) [59]=true from o]at i
    have HF:=O i;have P:=O o;clear i o;go_wp21
    refine mh (pS HN ⟨#[59]⟩) λw6 HN=>?_
    go_wp2
    go_ret;exact HN.post (by rw[HF,show fQ C (.ok (p+1)) (⟨#[59]⟩:ByteArray).data.toList=.ok (p+1+1)from nB P];rfl)
   rintro p rfl f L z A y HN a -
   have HF:Hid (r=fE (nJ (fE (nJ (fE (.ok (p+1)) E)) B)) λq=>.ok (aV [119,104,105,108,101] (tD C (.ok p)) [] ([]++iV (fE (.ok (p+1)) E)++iV (fE (nJ (fE (.ok (p+1)) E)) B)),q)):=by
    rw[a];show bK (E (p+1)) _=_
    rw[show fE (.ok (p+1)) E=E (p+1)from rfl]
    cases E (p+1)with
    |error l=>rfl
    |ok F=>show bQ _ (B F.2)=fE (nJ (B F.2)) λq=>.ok (aV _ _ _ ([]++[F.1]++iV (B F.2)),q);cases B F.2<;>rfl
   have HE0:Hid (fE (.ok (p+1)) E≠.error 0):=λe=>u oq
   have v:Hid (fE (nJ (fE (.ok (p+1)) E)) B≠.error 0):=λe=>u oq
   go_wp21
   have HN:=O (HN ⟨#[119,104,105,108,101]⟩);clear z A y;generalize f.setCell (aJ (H_ D) 0) (Q_ ⟨#[119,104,105,108,101]⟩)=W at*;obtain⟨x,n,c,H,j,d,b⟩:=HN.pre;go_region_law (first|refine EG H hp4 λw5 g k5 cap HN y0 y1 y2=>?_|(go_simp;go_at_call 99;refine GO H HE HE0 λw4 b4 hp4 u0 u1 u2=>?_))
   all_goals
    go_wp
    clear d b u1 u2 y1 y2;generalize w5.setCell (aJ (H_ D) 3) (P_ (some (aJ g 0)) k5 cap)=V at*;clear H hp4;have ⟨x,n,c,H,j,d,b⟩:=HN.pre;go_region_law (first|refine EG H hp4 λw5 g k5 cap HN y0 y1 y2=>?_|(go_simp;go_at_call 217;refine GO H G v λw4 b4 hp4 u0 u1 u2=>?_))
    all_goals
     go_wp2
     go_ret;exact HN.post HF
  rintro p rfl f L z A y HN a -;have HF:=O (a.trans (Lo C E B p i_ i_));have HE0:Hid (fE (.ok (p+1)) E≠.error 0):=λe=>u oq
  have v:Hid (fE (nJ (fE (.ok (p+1)) E)) B≠.error 0):=λe=>u oq
  go_wp21
  have HN:=O (HN ⟨#[105,102]⟩);clear z A y;generalize f.setCell (aJ (H_ D) 0) (Q_ ⟨#[105,102]⟩)=W at*;obtain⟨x,n,c,H,j,d,b⟩:=HN.pre;go_cut [] (λwc=>Nd C w (H_ D) [105,102] [] (tD C (.ok p)) 1 ([]++iV (fE (.ok (p+1)) E)) (nJ (fE (.ok (p+1)) E)) wc)
  case first=>
   go_region_law (first|refine EG H hp4 λw5 g k5 cap HN y0 y1 y2=>?_|(go_simp;go_at_call 99;refine GO H HE HE0 λw4 b4 hp4 u0 u1 u2=>?_))
   all_goals
    go_wp
    go_meet
    case rel=>exact HN
  case rest=>
   have HN:=O hcut;clear hcut H j d b;have ⟨x,n,c,H,j,d,b⟩:=HN.pre;go_wp2
   go_cut [] (λwc=>Nd C w (H_ D) [105,102] [] (tD C (.ok p)) 2 ([]++iV (fE (.ok (p+1)) E)++iV (fE (nJ (fE (.ok (p+1)) E)) B)) (nJ (fE (nJ (fE (.ok (p+1)) E)) B)) wc)
   case first=>
    go_region_law (first|refine EG H hp4 λw5 g k5 cap HN y0 y1 y2=>?_|(go_simp;go_at_call 217;refine GO H G v λw4 b4 hp4 u0 u1 u2=>?_))
    all_goals
     go_wp
     go_meet
     case rel=>exact HN
   case rest=>
    have HN:=O hcut;clear hcut H j d b v;generalize fE (nJ (fE (.ok (p+1)) E)) B=J at*;go_wp
    refine mh (m6 HN ⟨#[101,108,115,101]⟩) λw6 HN=>?_
    have K:=HF.out;cases o:sQ C (nJ J) [101,108,115,101]<;>rw[o]at K<;>have HF:=O K
    .have s:=HN.out;rw[show uX C (nJ J) (⟨#[101,108,115,101]⟩:ByteArray).data.toList=nJ J by cases J with|ok q=>exact CO o|error l=>rfl]at s
     have HN:=O s;clear K s o;go_wp2
     go_ret;exact HN.post HF
    have M:Hid (fE (uX C (nJ J) [101,108,115,101]) B≠.error 0):=λe=>u oq
    clear K o;have ⟨x,n,c,H,j,d,b⟩:=HN.pre;go_wp2
    go_region_law (first|refine EG H hp4 λw5 g k5 cap HN y0 y1 y2=>?_|(go_simp;go_at_call 217;refine GO H G M λw4 b4 hp4 u0 u1 u2=>?_))
    all_goals
     go_wp2
     go_ret;exact HN.post HF
 rintro p rfl f L z A y HN a -;have HF:=O (a.trans (Ic C E p i_));go_wp21
 refine mh (N8 (HN ⟨#[118,97,114]⟩)) λT HN=>?_
 clear z A y;have ⟨x,n,c,s⟩:=HN.out;have ⟨j,d,b⟩:=s.cells;have H:=O s;have hp4:=O (s.leaf [116,97,114,103,101,116] (nK C (.ok (p+1))) (pE C (.ok (p+1))));clear s HN;go_wp2_with (at_builtin;refine Gs H hp4 λw5 g k5 cap HN y0 y1 y2=>?_)
 go_wp
 refine mh (pS HN ⟨#[61]⟩) λw6 HN=>?_
 have HE0:Hid (fE (fQ C (nJ (fE (nT C (.ok (p+1))) λq=>.ok (aV [116,97,114,103,101,116] (pE C (.ok (p+1))) (nK C (.ok (p+1))) [],q))) [61]) E≠.error 0):=λe=>u oq
 clear H hp4 j d b y0 y1 y2;obtain⟨x,n,c,H,j,d,b⟩:=HN.pre;go_wp2
 exact II
def UB(C:Ctx)(E:Nat->bN aC)(c:Reads C 99 E)(f:Nat):Reads C 217 (iP E C.ts f):=by
 induction f with
 |zero=>intro w S h b;cases S with|ok p=>exact ep i_ b|error l=>exact Hp C w l h
 |succ f a=>exact B9 C E f (G7 C E _ c a)
