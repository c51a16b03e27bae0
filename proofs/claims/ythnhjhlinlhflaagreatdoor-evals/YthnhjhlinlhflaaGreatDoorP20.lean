import Derived.Test.YthnhjhlinlhflaaGreatDoorP04
import Derived.Test.YthnhjhlinlhflaaGreatDoorP19
set_option linter.all false
set_option maxRecDepth 100000
set_option maxHeartbeats 0
open List renaming length->aA
open Go renaming bodyPost_ret->Wi,Calls->Wn
open Bool renaming false->Wl,true->Wm
open Go.Value renaming pointer->W_,tuple->Xa
namespace Go.Proofs.YthnhjhlinlhflaaGreatDoor
open Hs _root_.Go.Proofs.Tryz Go.RowKit
variable{v:List aC}{s:Nat}{t x:aL}{R:aU}{o:bN aC}{e:bS}
attribute [local go_sem ↓] Go.wp_at_zero Go.wp_at_succ
def YO{C:Ctx}{B:Nat->bN aC}{f:bN (List aC)}{c:Except Nat Nat}(h:f=fE c λq=>.ok (v,q))(g:o=bK (aQ C.ts [41] f) λl q=>bQ (λb=>aV [102,117,110,99] s e (l++[b])) (B q)):o=fE (nJ (fE (fQ C c [41]) B)) λq=>.ok (aV [102,117,110,99] s e (v++iV (fE (fQ C c [41]) B)),q):=by subst g h;cases c with|error l=>rfl|ok q=>show bK (aQ C.ts [41] (.ok (v,q))) _=_;cases h:bX C.ts q [41];grind[aQ,Hs.bad,bK,fE,nJ,fQ];rw[nB h,show fE (.ok (q+1)) B=B (q+1)from rfl];simp [aQ,h,bK];cases B (q+1)<;>rfl
def Jm{C:Ctx}{q:Nat}(c:o=fE (nT C (.ok q)) λp=>.ok (aV [112,97,114,97,109] (pE C (.ok q)) (nK C (.ok q)) [],p)):eB C.ts (s+1) q v=fE (uX C (nJ o) [44]) λp=>if sQ C (nJ o) [44]then eB C.ts s p (v++iV o)else .ok (v++iV o,p):=by grind[eB,fE,nJ,sQ,iV,Hs.bad,uX,nT,nK,pE]
def Ms(C:Ctx)(B:Nat->bN aC)(HB:Hid (Reads C 217 B))(w:aL)(S:Except Nat Nat)(h:lH C w S)(z:bN (List aC))(r:bN aC)
 (u:Hid (z=fE (fQ C (nT C (fQ C S [102,117,110,99])) [40]) λq=>if bX C.ts q [41]then .ok ([],q)else eB C.ts (aA C.ts+1) q [])) (N:Hid (r=bK (aQ C.ts [41] z) λl q=>bQ (λb=>aV [102,117,110,99] (pE C (fQ C S [102,117,110,99])) (nK C (fQ C S [102,117,110,99])) (l++[b])) (B q))) (M:Hid (r≠.error 0)):
 Wn prog 164 #[aW C.pb] w (eH C w r):=by
 obtain⟨K,T,aa⟩:=h.facts;have X:=O (AD C w S ⟨#[102,117,110,99]⟩ h);clear h;go_in
 go_wp2_with fail;apply X.mono
 rw[show fQ C S (⟨#[102,117,110,99]⟩:ByteArray).data.toList=fQ C S [102,117,110,99]from rfl]
 generalize fQ C S [102,117,110,99]=A at*;rintro e w1 ⟨rfl,s,p⟩;have HM:=O ((Ft C w1 A s).mono λ_ _ ⟨h1,h2,h3⟩=>(⟨h1,Nd.new (p.trans h3) h2 [102,117,110,99] (nK C A) (pE C A) (λ_ _=>i_) K T⟩:_/\_))
 clear s p X;generalize nT C A=P at*;generalize nK C A=te at*;generalize pE C A=li at*;go_wp21
 refine mh HM λw2 a=>?_
 go_wp21
 refine mh (pS a ⟨#[40]⟩) λw3 a=>?_
 rw[show fQ C P (⟨#[40]⟩:ByteArray).data.toList=fQ C P [40]from rfl]at a
 generalize fQ C P [40]=G at*;go_wp21
 refine mh (Ae a ⟨#[41]⟩) λU a=>?_
 cases Q:sQ C G [41]
 .have H1:Hid (z=fE G λq=>if Wm then eB C.ts (aA C.ts+1) q []else .ok ([],q)):=by
   rw[u.out];cases G with
   |error l=>rfl
   |ok q=>show (if bX C.ts q [41]then _ else _)=_;grind [fE,sQ]
  clear Q u;go_wp2
  go_loopg [6] (aA C.ts+1) (λk D wr=>∃i v m b,D=.bool b/\m+k<=3500/\z=(fE v λq=>if b then eB C.ts k q i else .ok (i,q))/\Nd C w (H_ w2) [102,117,110,99] te li m i v wr)
  case atStart=>grind [dz]
  case round=>
   obtain⟨i,v,m,b,rfl,hm,d,f⟩:=hrel;have o:=O d;have a:=O f;clear d f H1
   have J:(b=Wm/\∃q,v=.ok q)\/Hid (z=fE v λq=>.ok (i,q))/\(b=Wl\/b=Wm/\C.pb<H_ wr/\∃L:Int,(L==0)=Wl/\eJ wr C.pb 2 (Y L)):=by
    cases b
    .exact .inr ⟨o,.inl i_⟩
    cases v with
    |ok q=>simp
    |error l=>obtain⟨x,n,c,f⟩:=a.out;exact .inr ⟨o,.inr ⟨i_,lH.bad f.at_⟩⟩
   rcases J with ⟨rfl,q,rfl⟩|⟨y,rfl|⟨rfl,I,L,ab,F⟩⟩
   .have d:=o.out;cases gk with
    |zero=>exact ep (show r=.error 0 by rw[N,d];rfl) M
    |succ k=>
     have H1:=O (d.trans (Jm (C:=C) i_));obtain⟨x,n,c,f⟩:=a.out;have ⟨I,F⟩:=At.wm f.at_;clear d o f;go_wp
     refine mh (N8 a) λv2 a=>?_
     obtain⟨x,n,c,f⟩:=a.out;obtain⟨z0,z1,z2⟩:=f.cells;have H:=O f;have j:=O (f.leaf [112,97,114,97,109] (nK C (.ok q)) (pE C (.ok q)));clear f a I F;go_wp2_with (at_builtin;refine Gs H j λw5 g k5 E a y0 W y2=>?_)
     go_wp
     refine mh (m6 a ⟨#[44]⟩) λV a=>?_
     go_wp2
     go_roundg k
     case measure=>exact Z
     grind [dz]
   all_goals
    have y:=O (YO y N);have t:Hid (fE (fQ C v [41]) B≠.error 0):=λe=>M (by rw[y,e];rfl)
    go_wp
    refine mh (pS a ⟨#[41]⟩) λV a=>?_
    obtain⟨x,n,c,H,z0,z1,z2⟩:=a.pre;go_wp2
    go_region_law (first|refine EG H j λw5 g k5 E a y0 W y2=>?_|(go_simp;go_at_call 217;refine GO H HB t λU b4 j u0 u1 u2=>?_))
    all_goals
     go_wp2
     go_ret;exact a.post y
 obtain⟨q,rfl⟩:∃q,G=.ok q:=by cases G with|ok q=>simp|error l=>cases Q
 have J:z=fE (.ok q) λq=>.ok ([],q):=by grind [dz,fE,sQ]
 have y:=O (YO J N);have t:Hid (fE (fQ C (.ok q) [41]) B≠.error 0):=λe=>M (by rw[y,e];rfl)
 clear J Q u;go_wp21
 refine mh (pS a ⟨#[41]⟩) λV a=>?_
 have ⟨x,n,c,H,z0,z1,z2⟩:=a.pre;go_wp2
 go_region_law (first|refine EG H j λw5 g k5 E a y0 W y2=>?_|(go_simp;go_at_call 217;refine GO H HB t λU b4 j u0 u1 u2=>?_))
 all_goals
  go_wp2
  go_ret;exact a.post y
attribute [local go_sem ↓] Go.wp_at_zero Go.wp_at_succ
def S4(C:Ctx)(B:Nat->bN aC)(c:Reads C 217 B):Reads C 164 (mC B C.ts):=by intro w S h d;refine Ms C B c w S h _ _ i_ ?_ d;cases S with|error l=>rfl|ok p=>show mC B C.ts p=_;unfold mC;cases b:bX C.ts p [102,117,110,99];rw[wF b,dy s_];rfl;rw[nB b,ec rfl];by_cases a:(aP C.ts (p+1)).c_=110;grind[bK,lC,Hs.bad,aQ,fE,fQ,nT,pE,nK];rw[(KH a).1,dy G_];rfl
def Us(a:Int)(b:ByteArray)(c:Int)(w:aL):(Instr.field 219 (.agg #[.int .u8 a,Q_ b,Y c]) 0).run prog w=.ok (.int .u8 a) w:=k_
def Jz(C:Ctx)(X:Nat->bN aC)(D:Hid (Reads C 164 X))(w:aL)(p:Nat)(h:At C w p 0)(r:bN (List aC))(I:Hid (r=fR X C.ts (aA C.ts+1) p []))(s:Hid (r≠.error 0)):Wn prog 101 #[aW C.pb] w (eH C w (bQ (aV [112,114,111,103,114,97,109] 0 []) r)):=by
 have ⟨hpb,hgb,hlen⟩:=lH.facts (S:=.ok p) h;have v:=O (Nd.new (S:=.ok p) (Fr.refl C.pb w) h [112,114,111,103,114,97,109] [] 0 (λ_ _=>i_) hpb hgb);have z:=Us;clear h;go_in;go_wp2;go_loopg [] (aA C.ts+1) (λk wr=>∃b o m,m+k<=4000/\r=fE o (λq=>fR X C.ts k q b)/\Nd C w (H_ w) [112,114,111,103,114,97,109] [] 0 m b o wr);case atStart=>grind[dz,fE,bs]
 case round=>
  have ⟨b,o,m,hm,hr1,x,n,c,d⟩:=hrel;have H:=O d;clear v;cases o with|error l=>have f:=O hr1;have ⟨hl1,cc,hc0,hc2⟩:=lH.bad d.at_;clear d hr1;go_wp2;go_ret;exact Nd.post ⟨x,n,c,H⟩ (by rw[f];rfl)|ok q=>
   cases gk with|zero=>exact ep hr1 s|succ k=>
    rw[show (fE (.ok q) λq=>fR X C.ts (k+1) q b)=fR X C.ts (k+1) q b from rfl,fR]at hr1;have ⟨hl1,hc2⟩:=At.wm d.at_;have j:=O (mA C wr q 0 d.at_);by_cases i:(aP C.ts q).c_=101;.rw[ec G_]at hr1;have f:=O hr1;have B:(((aP C.ts q).c_:Int) !=101)=Wl:=G_;clear hr1 d i;go_wp;apply j.mono;rw[AB];rintro e y ⟨rfl,a⟩;go_wp2;go_ret;exact Nd.post ⟨x,n,c,H.go (Fr.below a) (H.at_.below a) λq e=>⟨q,e⟩⟩ (by rw[f];rfl)
    rw[dy G_]at hr1;have f:=O hr1;have B:(((aP C.ts q).c_:Int) !=101)=Wm:=G_;have u:Hid (fE (.ok q) X≠.error 0):=λe=>(by grind[dz,fE]);clear hr1 d i;go_wp;apply j.mono;rw[AB];rintro e y ⟨rfl,a⟩;have d:=H.go (Fr.below a) (H.at_.below a) λq e=>⟨q,e⟩;have ⟨z0,z1,z2⟩:=d.cells;have H:=O d.drew;clear a j hc2 d;go_wp2;go_region_law (first|refine EG H t λM g G A v L F J=>?_|(go_simp;go_at_call 164;refine GO H D u λE K t u0 u1 u2=>?_));all_goals
     go_wp2;go_roundg k;case measure=>exact Z
     grind[dz,fE,nJ,iV]
def K3(C:Ctx)(w:aL)(h:At C w 0 0)(a:lZ C.ts≠.error 0):Wn prog 101 #[aW C.pb] w (eH C w (bQ (aV [112,114,111,103,114,97,109] 0 []) (lZ C.ts))):=Jz C _ (S4 C _ (UB C _ (KY C _) _)) w 0 h _ rfl a
def Below.De{b:aL}(h:cB t x)(a:Fr s x b)(d:H_ t<=s):cB t b:=h.trans ⟨a.os,a.tape,a.output,a.size,(by grind[Fr.block,Nat.lt_of_lt_of_le,Below.size])⟩
def F1{c:List bE}(h:t.ownsRow s 219 3 R (aA c) (qN c))(e:0<aA c):∃g a,R=P_ (some (aJ g 0)) (aA c) a:=by rcases h.2 with ⟨_,f⟩|⟨g,a,d,rfl,_⟩;exact Z;simp
def eH.go{C:Ctx}{f:aL}{d:bN aC}{e:Ending}(h:eH C t o e x)(c:Fr C.pb x f)(g:lH C f (nJ d))(m:∀a q,d=.ok (a,q)->∃p,o=.ok (a,p))(l:C.pb<t.heap.size):eH C t d e f:=by have ⟨h1,h2,b,h3,h4⟩:=h;refine⟨h1.trans c,g,b,h3,λa q e=>?_⟩;have ⟨p,e'⟩:=m a q e;exact(h4 a p e').grow (λk n j=>c.block k j Z) kB c.size
def Ma(C:Ctx)(w:aL)(p bad:Nat)(h:At C w p bad):Wn prog 100 #[aW C.pb] w λe a=>e=eV/\At C a p (if bad=0 then (aP C.ts p).l_ else bad)/\Fr C.pb w a:=by by_cases b:bad=0;subst b;exact yH C w p h;rw[dy b];exact(KX C w p bad h b).mono λe a ⟨c,d⟩=>⟨c,by rw[d];exact⟨h,.refl _ _⟩⟩
def XD{N:Bool}(s:ByteArray)(w:aL)(hg:fH w)(M:s.size<=2000)(L:dS s.size (dL s) 0=none)(c:List bE)(hn:gS (dL s)=.ok c)(x:Except (Nat×Nat) aC) (A:Hid (x=match mP N c with|.error n=>.error (4,n)|.ok (a,_)=>.ok a)):Wn prog 57 #[Q_ s,.bool N] w (lU w x):=by
 have T:s.size<=2000000000:=Z;have HS:=O (λw=>AJ s w T);rw[L]at HS;have G:=O (λo=>IY s (w.alloc o) (hg.alloc o) M);rw[hn]at G;obtain⟨y,ad⟩:=nS hn;have X:aA c<=3000:=by have:aA (dL s)=s.size:=s_;exact Z
 have HALL:=O y;have u:=y.some_;clear L hg hn y;go_in;go_wp21;refine rB (HS _) λw1 hw=>?_;obtain rfl:=hw.symm;rw[JV];go_wp21;apply (G _).mono;rintro e p ⟨H,he⟩;obtain⟨v,rfl,z⟩:∃v,e=bP (Xa #[v,Y 0])/\p.ownsRow _ 219 3 v (aA c) (qN c):=he;obtain⟨g,d,rfl⟩:=F1 z u;have hz:H_ w<H_ p:=by have:=H.size;simp at this;exact Z
 have aa:=O H;have K:=O (At.new z HALL X);clear H z HS G;go_upto_if 37 with fail;go_cut [11] (λnv B=>eH ⟨H_ p,g,d,c⟩ (dZ p #[P_ (some (aJ g 0)) (aA c) d,Y 0,Y 0] 216) (mP N c) (bP nv) B);case first=>
  cases N;.have Q:=O (K3 ⟨H_ p,g,d,c⟩ _ K (HALL.ok.prog u));go_wp;apply Q.mono;intro e B m;obtain⟨b,rfl⟩:=m.ptr;have U:=O m;go_wp2_with fail;go_meet;exact U
  have F:=HALL.ok.exprs 0 u;have Q:=O (KY ⟨H_ p,g,d,c⟩ (aA c+1) _ (.ok 0) K F.ne);go_wp;apply Q.mono;intro e B m;obtain⟨b,rfl⟩:=m.ptr;obtain⟨q,bad,E,hT⟩:∃q bad,At ⟨H_ p,g,d,c⟩ B q bad/\∀J,Fr (H_ p) B J->At ⟨H_ p,g,d,c⟩ J q (if (aP c q).c_=101 then bad else if bad=0 then (aP c q).l_ else bad)->eH ⟨H_ p,g,d,c⟩ (dZ p #[P_ (some (aJ g 0)) (aA c) d,Y 0,Y 0] 216) (mP Wm c) (bP (aW b)) J:=by have hr:fE (.ok 0) (gK c (aA c+1))=gK c (aA c+1) 0:=rfl;have r:=m.2.1;rw[hr]at r;cases A:gK c (aA c+1) 0 with|error l=>rw[A]at r;have ⟨h0,q,hq⟩:=r;exact⟨q,l,hq,λJ V h4=>m.go V (by grind[mP,nJ,lH]) (by simp[mP,A]) s_⟩|ok aq=>rw[A]at r;have P:=HALL.l_ aq.2;refine⟨aq.2,0,r,λJ V h4=>m.go V ?_ (by grind[mP,fE]) s_⟩;have:=At.lt r;grind[mP,nJ,lH]
  have G:=O hT;obtain⟨P,-,-,q1,q2,fz⟩:=E.cells (dw _ _);have t0:=E.tok.1;have q0:eJ B (H_ p) 0 (P_ (some (aJ g 0)) (aA c) d):=aB E.n_ rfl;have ab:=E.lt;have af:g<H_ B:=by grind[At.row]
  have ac:=E.cap;have HF:=O (λj=>Ma ⟨H_ p,g,d,c⟩ (B.drewN j) q bad (E.below ⟨rfl,rfl,rfl,s_,s_⟩));have HA:=O E;clear hT E m fz Q F HALL;simp only at t0 q1 q2 ab ac P;by_cases M:(aP c q).c_=101;.rw[ec M]at G;rw[M]at t0;go_wp2;go_region;go_wp2_with fail;go_meet;exact G _ (Fr.refl _ _).drew (HA.below (dw _ _).drew)
  rw[dy M]at G;have ai:(((aP c q).c_:Int) !=101)=Wm:=G_;generalize (aP c q).c_=so at*;go_wp2;go_region;go_wp2_with fail;refine rB (HF _) λJ ⟨h4,W⟩=>?_;go_wp2_with fail;go_meet;exact G _ (((Fr.refl _ B).drewN 1).trans W) h4
 case rest=>
  obtain⟨D,i,S,hv,t⟩:=hcut;cases hv;have C:=Below.De ((((dw _ _).alloc (Z) _).trans (aa.mono s_)).alloc Z _) D G_;have f:wc.heap[H_ w]?=some (bM #[Y 0,Y 0] 37):=by rw[D.block (H_ w) ku G_];apply iA _ _ hz _;grind[ej,dz,aS]
  have r0:=aB (i:=0) f i_;have r1:=aB (i:=1) f i_;have aj:wc.frozen? (aJ (H_ w) 0)=Wl:=aE f;have am:wc.frozen? (aJ (H_ w) 1)=Wl:=aE f;clear f;have HBEL:=O C;have HREP:=O t;clear C t;cases m:mP N c with|error n=>rw[m]at A i;have ⟨h0,q,hq⟩:=i;have ah:(0:Int)<(n:Int):=Z;have P:=aH hq.n_;have I:eJ wc (H_ p) 2 (Y n):=aB hq.n_ i_;have HX:=A.out;clear A hq HREP m;go_wp2;go_region;go_wp2;apply Wi (v:=Xa #[W_ none,.agg #[Y 4,Y n]]) (by simp[results,results57,go_sem,r0,r1]) rfl;grind[Below.drew,Below.setCell,dz,lU]|ok kq=>have ⟨a,q⟩:=kq;rw[m]at A i;have ⟨P,I⟩:=At.wm i;have ae:=I;have HX:=A.out;have HK:Hid (vb (si (H_ w+1) (H_ wc)) wc (aW S) a):=(HREP _ q m).mono λk L=>⟨by have:=L.1;simp at this;exact Z,L.2⟩;clear I A i HREP m;go_wp2;apply Wi (v:=Xa #[aW S,.agg #[Y 0,Y 0]]) (by simp[results,results57,go_sem,r0,r1]) rfl;refine⟨(by grind[Below.setCell,dz]),?_⟩;refine⟨S,i_,HK.grow (λk ak ag=>?_) Z s_⟩;grind[eh]
def AO(c:Bool)(s:ByteArray)(w:aL)(d:fH w)(f:s.size<=maxLen):Wn prog 57 #[Q_ s,.bool c] w (lU w (eZ c (dL s))):=by unfold eZ jI;have h:aA (dL s)=s.size:=s_;rw[h];by_cases b:2000<s.size;rw[ec b];exact XC s w b f;rw[dy b];cases a:dS s.size (dL s) 0 with|some k=>exact ND s w Z k a|none=>cases e:gS (dL s)with|error n=>exact SP s w d Z a n e|ok g=>exact XD s w d Z a g e _ rfl
def eW.dp{F:bI}:∀{d:Nat}{v:aU}{a:aC},eW d F t v a->fN d a|0,_,_,h=>h.elim|d+1,v,a,h=>λk f=>by obtain⟨l,b,q,o,_,_,_,_,_,_,_,e⟩:=h.cells;obtain rfl:d=l:=Z;obtain⟨i,n,rfl⟩:=jz.1 f;rcases e.get with ⟨_,p⟩|⟨g,j,_,_,_,_,c⟩;grind;obtain⟨v,_,m⟩:=c i n;exact m.dp
theorem K8(a:List aC)(d e:Nat)(s:bF)(k:aC)(h:fN d k)(b:fN e k):eO a d s k=eO a e s k:=by grind[eO,nR]
def U7(a:List aC)(d e:Nat)(s:bF)(n:aC)(first:Bool)(h:fN (d+1) n)(b:fN (e+1) n):gQ a d s n first=gQ a e s n first:=by grind[gQ,rD,K8,fN]
def QX(b:List aC)(d:Nat):∀(l a:List aC) (n:aC) (s:bF),eU b d a (l++[n]) s=gQ b d (eU b d a l s) n (dE (a++l) n.x_).isNone|[],a,n,s=>by simp[eU]|x::l,a,n,s=>by rw[il,eU,eU,QX b d l];simp
def sD(w:aL)(s:bS)(e:Ending)(w':aL):Prop:=cB w w'/\if (dP s).1=0 then ∃b ks,e=bP (Xa #[aW b,.agg #[Y 0,Y 0]])/\eA s=.ok ks/\vb (si w.heap.size w'.heap.size) w' (aW b) (aV [112,114,111,103,114,97,109] 0 [] ks) else e=bP (Xa #[W_ none,.agg #[Y (dP s).1,Y (dP s).2]])
def XE{n:Nat}(h:eA e=.error (s,n)):s≠0/\s<=4:=by grind[eA]
def QY(b:List aC)(d e:Nat):∀(l a:List aC) (s:bF),(∀n∈l,fN (d+1) n/\fN (e+1) n)->eU b d a l s=eU b e a l s|[],_,_,_=>rfl|n::l,a,s,h=>by have c:=h n (jt ..);rw[eU,eU,U7 b d e s n _ c.1 c.2];exact QY b d e l _ _ G_
def sa.mem(h:Hs.sa s v){f:aC}(a:f∈v):Hs.rz s f:=(by grind[AF,Hs.rz,Hs.sa])
def sa.len(h:Hs.sa s v):aA v<=s:=em (qB 0 v) (h 1).1
def rz.len{a:aC}(h:Hs.rz s a):aA a.y_<=s:=by have b:1+(a.y_.map (cT (0+1))).sum<=s:=(h 2).1;grind[qB]
def Qe(s:ByteArray)(w:aL)(g:fH w)(p:s.size<=maxLen)(k n:Nat)(b:eA (dL s)=.error (k,n)):Wn prog 19 #[Q_ s] w (sD w (dL s)):=by
 have m:dP (dL s)=(k,n):=by unfold dP;rw[b]
 have i:=(XE b).1;have d:=O (λo=>AO Wl s (w.alloc o) (g.alloc o) p);rw[zG,b]at d;have j:=O m;go_in;go_wp;apply (d _).mono;rintro e f ⟨a,q⟩;obtain rfl:e=bP (Xa #[W_ none,.agg #[Y k,Y n]]):=q;have ⟨hc,hf⟩:=wk a;have l:H_ w<H_ f:=by have:=a.size;simp at this;exact Z
 have c:=O a;go_wp2;go_region;go_wp2;refine Wi (v:=Xa #[W_ none,.agg #[Y k,Y n]]) (by simp[results,results19,go_sem,World.cell?_alloc_past,l,hc]) rfl ?_;unfold sD;rw[j];refine⟨?_,G_⟩;exact(((((dw _ _).alloc (Z) _).trans (c.mono s_)).setCell s_ _).setCell s_ _ |>.alloc ku _).drew
def ye.Dh{F G:bI}(h:nQ (eW s F t) F t R v)(l:∀b,F b->x.heap[b]?=t.heap[b]?)(j:∀b,F b->G b):nQ (eW s G x) G x R v:=by rcases h with h|⟨g,c,e,m,k,p,r,q,n,o⟩;exact ea h;exact dv ⟨g,c,e,m,k,j _ p,G_,q,n,o.mono λ_ _ h=>(h.j_ l).mono j (Z)⟩
def UW{Z_:Prop}(Y_:Z_:=by go_wp2;refine Wi (v:=Xa #[W_ none,.agg #[Y 5,Y 0]]) (by simp[results,results19,go_sem,y0,y1]) rfl ?_;grind[sD,dz,Below.setCell]):Z_:=Y_
def UR{Z_:Prop}(Y_:Z_:=by
 go_wp2;go_roundg j;case measure=>exact Z
 case rel=>exact⟨k+1,Z,lj,HBW.trans ((dw _ _).drew.trans hb4),G_⟩):Z_:=Y_
def Lc(s:ByteArray)(w:aL)(hg:fH w)(hm:s.size<=maxLen)(a:List aC)(hp:eA (dL s)=.ok a):Wn prog 19 #[Q_ s] w (sD w (dL s)):=by
 have l:=nC hp;have hr:dP (dL s)=lJ 2001 a:=by unfold dP;rw[hp]
 have HP:=O (λo=>AO Wl s (w.alloc o) (hg.alloc o) hm);rw[zG,hp]at HP;have hkl:=sa.len l;have E:=O l;have HR:=O hr;have aw:=O hp;go_in;go_wp;apply (HP _).mono;rintro e A ⟨T,b,he,aa⟩;subst he;have ⟨hc,hf⟩:=wk T;have hz:H_ w<H_ A:=by have:=T.size;simp at this;exact Z
 have ⟨d,hrd⟩:=aa;obtain⟨d0,b',kv,rfl,ay,bw,bn,n0,n1,n2,n3,ac⟩:=hrd.cells;cases ay;obtain⟨S,G,rfl⟩:=ac.slice;have n3':=n3;have aq:=O hrd;have ae:=O T;have L:nQ (eW d0 (si (H_ w+1) (H_ A+1)) (dZ (dZ A #[Y 0,Y 0] 37) #[P_ S (aA a) G,bR,.bool Wl,Y 0,Y 0] 122)) (si (H_ w+1) (H_ A+1)) (dZ (dZ A #[Y 0,Y 0] 37) #[P_ S (aA a) G,bR,.bool Wl,Y 0,Y 0] 122) (P_ S (aA a) G) a:=ye.Dh ac ((by grind[ed,si])) (λk x=>⟨by have:=x.1;simpa using this,by have:=x.2;exact Z⟩);have ai:=O L;have V:=O (uT a [109,97,105,110] _ _ _ Z d0 L);go_wp21;apply V.mono;rintro e t ⟨U,fp,rfl,y⟩;have q:=U;have C:cB w t:=by rw[q];exact((((dw _ _).alloc (Z) _).trans (ae.mono s_)).alloc Z _).alloc ku _
 have H:mT (H_ A+1) (H_ w+1) a (P_ S (aA a) G) Wl t ⟨[],0,0⟩:=by refine⟨⟨bR,?_,World.ownsRow_nil _ _ _ _,nofun⟩,?_⟩;rw[q];exact aS _ _ s_ _;rw[q];rcases ai with h|⟨g,aj,an,vs,k1,k2,k3,k4,k5,k6⟩;exact ea h;exact dv ⟨g,aj,an,vs,k1,k2,k3,k4,k5,(by grind[jW.mono,vb])⟩
 have ak:Hid (nQ (eW d0 (si (H_ w+1) (H_ A+1)) t) (si (H_ w+1) (H_ A+1)) t (P_ S (aA a) G) a):=G_;have bq:H_ t=H_ A+2:=by rw[q];simp
 have x3:eJ t b 3 (P_ S (aA a) G):=by grind[iO,ed,aV]
 have p:t.heap[H_ w]?=some (bM #[Y 0,Y 0] 37):=by grind[ed,ej,aS]
 have y0:=aB (i:=0) p i_;have y1:=aB (i:=1) p i_;have fy:∀o,t.frozen? (aJ (H_ w) o)=Wl:=λo=>aE p;have bd:=fy 0;have bu:=fy 1;rw[<-q]at y;have ah:b<H_ t:=Z;have bf:H_ w<H_ t:=Z;have J:Hid (eW (d0+1) (si (H_ w+1) (H_ A)) t (aW b) (aV [112,114,111,103,114,97,109] 0 [] a)):=by grind[si,World.alloc,eW.j_]
 have HBEL:=O C;have am:=O H;have HRES:=O p;clear U C H p aq ai V fy n0 n1 n2 n3' hc hf ae;generalize bt:H_ A+1=cb at*;cases D:dE a [109,97,105,110]with
 |none=>
  rw[D]at y;obtain rfl:fp=W_ none:=y;have HN:Hid (dP (dL s)=(5,0)):=by grind[lJ]
  clear q;exact UW|some m=>
  rw[D]at y;obtain⟨r,mb,bx,rfl,rfl,bl,bi,m0,m1,m2,m3,X⟩:=y.cells;obtain⟨bb,bh,rfl⟩:=X.slice;have hmem:=jx D;have hmkl:=rz.len (sa.mem E hmem);clear q y X;by_cases af:1<aA m.y_;have HN:Hid (dP (dL s)=(5,0)):=by grind[lJ]
  exact UW;have HN:Hid (dP (dL s)=((eU a r [] a ⟨[],0,0⟩).kind,(eU a r [] a ⟨[],0,0⟩).l_)):=by show _=_;rw[HR];unfold lJ;rw[D];simp only[af,if_false];rw[QY a r 2001 a [] ⟨[],0,0⟩ λn hn=>⟨?_,nW _ _ (Hs.rz.le (sa.mem E hn) Z)⟩];exact(eW.dp J) n hn
  go_wp2;go_loopg [8,9] (aA a) (λgk i er wr=>∃k:Nat,k+gk=aA a/\i=Y k/\Below cb t wr/\mT cb (H_ w+1) a (P_ S (aA a) G) Wl wr (eU a r [] (a.take k) ⟨[],0,0⟩));case atStart=>exact⟨0,Z,rfl,dw _ _,am⟩
  case round=>
   obtain⟨k,bc,rfl,c,P⟩:=hrel;have hbb:=c.block b Z;have q3:=(iO hbb).trans x3;have hblr:=ef ah c.size;by_cases B:k<aA a
   .obtain⟨j,rfl⟩:∃j,gk=j+1:=⟨gk-1,Z⟩;rcases ak.get with ⟨_,h0⟩|⟨g,aj,ar,ad,ap,az,I⟩;rw[h0]at B;simp at B;have ⟨u,hu,hru⟩:=I k B;cases ar;have hgb:=c.block g ad.2;have r0:=(iO hgb).trans hu;have hgr:=ef ap c.size;have M:=hru.j_ (w':=wr) λk x=>c.block k x.2;obtain⟨d2,ub,bg,bm,rfl,bo,bv,u0,u1,u2,u3,-⟩:=M.cells;have l:=sa.mem E (ga B);have Q:eU a r [] (a.take (k+1)) ⟨[],0,0⟩=gQ a r (eU a r [] (a.take k) ⟨[],0,0⟩) a[k] (dE (a.take k) a[k].x_).isNone:=by rw[gw B,QX];rfl
    have ao:aA (a.take k)=k:=by rw[ia];exact Z
    have ag:=zE (a.take k) a[k].x_ g G (si (H_ w+1) cb) wr.drew Z hgr (r+1) (λi hi=>by have ⟨v,h1,h2⟩:=I i Z;refine⟨v,(iO (c.block g ad.2)).trans h1,?_⟩;rw[List.getElem_take];exact(h2.j_ (w':=wr) λk x=>c.block k x.2).vh i_);rw[ao]at ag;have ax:=O ag;have HD:=O (λfirst=>Tp cb (H_ w+1) a _ Z (λf hf=>em (rz.len (sa.mem E hf)) Z) r _ a[k] _ wr.drew first (P.vh rfl) (M.vh rfl) (l (r+1+0)).2 (by have:=(l (r+1)).1;exact Z));have al:=O Q;have HBW:=O c;have be:k<=G:=Z;go_wp2;go_cut [9] (λer wc=>wc=wr.drew/\Dr (r+1) (si (H_ w+1) cb) wr.drew (dE (a.take k) a[k].x_) er);case first=>go_region_law (go_simp;go_at_call 58;apply ax.mono;rintro e w3 ⟨av,er,rfl,z⟩;obtain rfl:=av.symm);all_goals go_wp;go_meet;case rel=>exact⟨i_,z⟩
    case rest=>obtain⟨rfl,z⟩:=hcut;cases K:dE (a.take k) a[k].x_ with|none=>rw[K]at z al;obtain rfl:u9=W_ none:=z;go_wp;refine rB (HD Wm) λw4 ⟨hb4,au⟩=>?_;exact UR|some f=>rw[K]at z al;obtain⟨d3,fb,bj,-,rfl,-⟩:=eW.cells z;go_wp;refine rB (HD Wl) λw4 ⟨hb4,au⟩=>?_;exact UR
   obtain rfl:k=aA a:=Z;rw[iy]at P;obtain⟨br,N,-⟩:=P.n_;obtain⟨ba,-,-,-,c3,c4,-⟩:=lM N;have hres1:=(c.block (H_ w) Z).trans HRES;have z0:=aB (i:=0) hres1 i_;have z1:=aB (i:=1) hres1 i_;have bp:wr.frozen? (aJ (H_ w) 0)=Wl:=aE hres1;have ca:wr.frozen? (aJ (H_ w) 1)=Wl:=aE hres1;have hzr:=Z;have HBW:=O (HBEL.trans (c.mono Z));have ab:=O (J.j_ (w':=wr) λk x=>c.block k (by have:=x.2;exact Z));generalize eU a r [] a ⟨[],0,0⟩=s1 at*;by_cases W:s1.kind=0
   .have e0:((s1.kind:Int) !=0)=Wl:=by simp;exact Z
    go_wp2;apply Wi (v:=Xa #[aW b,.agg #[Y 0,Y 0]]) (by simp[results,results19,go_sem,z0,z1]) rfl;unfold sD;rw[HN,ec (by exact W)];refine⟨(HBW.setCell s_ _).setCell s_ _,b,a,rfl,aw,r+1+1,eW.mono (F:=si (H_ w+1) (H_ A)) (λk x=>⟨by have:=x.1;exact Z,?_⟩) (eW.j_ (λk x=>?_) ab) (Z)⟩;rotate_left;have h1:=x.2;simp;exact Z;have h1:=x.1;rw[eh _ _ _ _ qb,eh _ _ _ _ qb]
   have e0:((s1.kind:Int) !=0)=Wm:=by simp;exact Z
   go_wp2;go_region;go_wp2;apply Wi (v:=Xa #[W_ none,.agg #[Y s1.kind,Y s1.l_]]) (by simp[results,results19,go_sem,z0,z1]) rfl;unfold sD;rw[HN,dy (by exact W)];exact⟨((HBW.setCell s_ _).setCell s_ _).drew,rfl⟩
def WN(s:ByteArray)(w:aL)(c:fH w)(b:s.size<=maxLen):Wn prog 19 #[Q_ s] w (sD w (dL s)):=by cases a:eA (dL s)with|error f=>exact Qe s w c b f.1 f.2 a|ok d=>exact Lc s w c b d a
def Bw(e_:cU)(A:aC):Nat×Nat:=((aR [] Wm 2001 A ⟨e_,0,0⟩).kind,(aR [] Wm 2001 A ⟨e_,0,0⟩).l_)
def OG(e_:cU)(l:bS):Except (Nat×Nat) aC:=match eZ Wm l with|.error f=>.error f|.ok A=>if (Bw e_ A).1=0 then .ok A else .error (Bw e_ A)
theorem KU{a:Bool}{f:Nat×Nat}(h:eZ a e=.error f):f.1≠0:=by grind[eZ,jI]
def NT(s:ByteArray)(w:aL)(W:fH w)(hm:s.size<=maxLen){a:cU}(t:w.ownsRow 0 9 1 R (aA a) (jR a))(hl:aA a<=80000):Wn prog 78 #[Q_ s,R] w (lU w (OG a (dL s))):=by
 obtain⟨sx,sc,rfl,ag,aa,-⟩:=qP t _ kB;have T:=O (λo=>AO Wm s (w.alloc o) (W.alloc o) hm);have U:Hid (OG a (dL s)=match eZ Wm (dL s)with|.error f=>.error f|.ok A=>if (Bw a A).1=0 then .ok A else .error (Bw a A)):=rfl;have S:=O (λA=>@yJ A (dL s));have Q:=O (λf=>@KU (dL s) Wm f);have p:=O t;clear W t;generalize eZ Wm (dL s)=x at*;go_in;go_wp;apply (T _).mono;rintro e B ⟨i,he⟩;have ⟨hc,hf⟩:=wk i;have hz:H_ w<H_ B:=by have:=i.size;simp at this;exact Z
 have P:=O i;cases x with|error f=>obtain⟨k,n⟩:=f;obtain rfl:e=bP (Xa #[W_ none,.agg #[Y k,Y n]]):=he;have F:k≠0:=Q _ i_;clear i T S Q p;go_wp2;go_region;go_wp2;apply Wi (v:=Xa #[W_ none,.agg #[Y k,Y n]]) (by simp[results,results78,go_sem,World.cell?_alloc_past,hz,hc]) rfl;rw[U];exact⟨(((((dw _ _).alloc (Z) _).trans (P.mono s_)).setCell s_ _).setCell s_ _ |>.alloc ku _).drew,i_⟩|ok A=>
  obtain⟨b,rfl,d,r⟩:=he;have J:=S A i_;have V:aR [] Wm d A ⟨a,0,0⟩=aR [] Wm 2001 A ⟨a,0,0⟩:=by rcases Nat.le_total d 2001 with q|q;exact nR _ _ _ _ _ _ r.dp q;exact(nR _ _ _ _ _ _ J.dp q).symm
  obtain⟨y,l⟩:=E_ (dZ (dZ B #[Y 0,Y 0] 37) #[bR,P_ sx (aA a) sc,.bool Wm,Y 0,Y 0] 122);have u:cB B y:=by rw[l];exact((dw _ _).alloc kB _).alloc s_ _
  have E:cB w y:=(((dw _ _).alloc kB _).trans (i.mono s_)).trans (u.mono Z);have L:mT (H_ B+1) (H_ w+1) [] bR Wm y ⟨a,0,0⟩:=⟨⟨_,by rw[l];exact aS _ _ s_ _,aX p λk q=>E.block k (p.lt k q).2,λ_ k q=>by have:=(p.lt k q).2;exact Z⟩,ea ⟨i_,i_⟩⟩;have C:eW d (si (H_ w+1) (H_ B+1)) y (aW b) A:=(r.j_ λk q=>u.block k q.2).mono (λk q=>⟨by simpa using q.1,by have:=q.2;exact Z⟩) kB;have M:=O (VG _ _ [] bR Wm s_ s_ d (aW b) A _ y L C (J.Cm d).2 (λ_=>uw.nv d J.ex) (by have:=J.wt d;exact Z));rw[V]at M;have HN:Hid (Bw a A=((aR [] Wm 2001 A ⟨a,0,0⟩).kind,(aR [] Wm 2001 A ⟨a,0,0⟩).l_)):=rfl;have G:=O (du C E);have ac:H_ y=H_ B+2:=by rw[l];simp
  have z:y.heap[H_ w]?=some (bM #[Y 0,Y 0] 37):=by rw[u.block _ hz];exact(i.block _ s_).trans (aS _ _ rfl _)
  have HRES:=O z;clear i T S Q p r J V L C u E z;generalize aR [] Wm 2001 A ⟨a,0,0⟩=c at*;rw[l]at M;go_wp21;refine rB M λD ⟨j,I⟩=>?_;rw[<-l]at j;obtain⟨ae,m,-⟩:=I.n_;obtain⟨X,-,-,-,c3,c4,-⟩:=lM m;have g:=(j.block (H_ w) Z).trans HRES;have z0:=aB (i:=0) g i_;have z1:=aB (i:=1) g i_;have ab:D.frozen? (aJ (H_ w) 0)=Wl:=aE g;have ah:D.frozen? (aJ (H_ w) 1)=Wl:=aE g;have ad:H_ w<H_ D:=by have:=j.size;exact Z
  have K:=O (G.2.trans (j.mono Z));have N:=O (G.1.j_ (w':=D) λk H=>j.block k H.2);have af:H_ B+2<=H_ D:=by have:=j.size;exact Z
  clear I m j g G HRES M l;by_cases F:c.kind=0
  .have e0:((c.kind:Int) !=0)=Wl:=by simp;exact Z
   go_wp2;apply Wi (v:=Xa #[aW b,.agg #[Y 0,Y 0]]) (by simp[results,results78,go_sem,z0,z1]) rfl;rw[U];simp only[HN.out];rw[ec F];refine⟨(K.setCell s_ _).setCell s_ _,b,rfl,d,eW.mono (λk H=>⟨by have:=H.1;exact Z,by have:=H.2;simp;exact Z⟩) (eW.j_ (λk H=>?_) N) kB⟩;have:=H.1;rw[eh _ _ _ _ qb,eh _ _ _ _ qb]
  have e0:((c.kind:Int) !=0)=Wm:=by simp;exact Z
  go_wp2;go_region;go_wp2;apply Wi (v:=Xa #[W_ none,.agg #[Y c.kind,Y c.l_]]) (by simp[results,results78,go_sem,z0,z1]) rfl;rw[U];simp only[HN.out];rw[dy F];exact⟨((K.setCell s_ _).setCell s_ _).drew,rfl⟩
