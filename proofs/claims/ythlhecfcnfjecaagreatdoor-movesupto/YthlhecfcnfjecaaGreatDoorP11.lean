import Derived.Test.YthlhecfcnfjecaaGreatDoorP10
set_option linter.all false
set_option maxRecDepth 100000
set_option maxHeartbeats 0
open List renaming length->aA
open Option renaming some->Wy
namespace Go.Proofs.YthlhecfcnfjecaaGreatDoor
open Hs _root_.Go.Proofs.Tryz Go.RowKit
variable{H:List aC}{L N z:Nat}{I m:aN}{J d:aX}{o:bL}{K:cY}
abbrev FV(pv:aX):Value:=.func (.func 88) #[pv] #[]
abbrev Ar:Value:=.func (.func 179) #[] #[]
def Ct(F:bL)(w:aN)(fv:aX)(fs:List aC):Prop:=(∃pv,fv=FV pv/\vq F w pv fs)\/(fv=Ar/\fs=[])
def mI:Value->Bool|.func (.func k) _ _=>k==179|_=>false
structure CK(cb tp lo:Nat)(fs:List aC)(fv:aX)(w:aN)(e_:cY):Prop where
 i_:∃sv,w.heap[cb]?=Wy (.cells #[fv,sv] 191)/\w.ownsRow tp 9 1 sv (aA e_) (kE e_)/\sv.ownBlock≠Wy cb/\tp<=cb
 wq:Ct (sm lo tp) w fv fs
theorem vq.h_{w w':aN}{v:aX}{d:List aC}(h:vq o w v d)(e:∀b,o b->w'.heap[b]?=w.heap[b]?):vq o w' v d:=by rcases h with h|⟨g,c,a,i,l,j,n,k,m,f⟩;exact ea h;exact dz ⟨g,c,a,i,l,j,G_,k,m,f.mono λ_ _ h=>h.h_ e s_⟩
def Ct.h_{w w':aN}{v:aX}{a:List aC}(h:Ct o w v a)(c:∀b,o b->w'.heap[b]?=w.heap[b]?):Ct o w' v a:=by grind[vq.h_,Ct]
def CK.lt{b:Nat}{d:List aC}{w:aN}{a:cY}(h:CK b z N d J w a):b<w.heap.size/\z<=b:=by grind[CK.i_]
theorem CK.grow{cb c:Nat}{d:List aC}{a:cY}(h:CK cb c z d J I a)(g:R_ I m):CK cb c z d J m a:=by have ⟨sv,h1,h2,h3⟩:=h.i_;exact⟨(by grind[ef,bE,eI]),h.wq.h_ (by grind[ef,sm])⟩
def mS(h:I.heap[z]?=Wy (bO #[J,d] 191)):z<H_ I/\dR I z 0 J/\dR I z 1 d/\I.frozen? (aL z 1)=false:=(by grind[aB,aF])
def lT(cb:Nat)(w:aN):Option Nat:=match w.heap[cb]? with|some (.cells cs _ _)=>(cs[1]?.getD undef).ownBlock|_=>none
def JD(h:m.heap[z]?=I.heap[z]?):lT z m=lT z I:=by unfold lT;rw[h]
def rR(h:I.heap[z]?=Wy (bO #[J,d] 191)):lT z I=d.ownBlock:=by unfold lT;grind
structure FB(cb tp:Nat)(w w':aN):Prop where
 sd:Below tp w w'
 i_:∀k,k<w.heap.size->k≠cb->lT cb w≠Wy k->w'.heap[k]?=w.heap[k]?
 row:∀k,lT cb w'=Wy k->lT cb w=Wy k\/w.heap.size<=k
theorem FB.trans{d e:Nat}{a b c:aN}(h:FB d e a b)(k:FB d e b c):FB d e a c:=by refine⟨h.sd.trans k.sd,λi f l g=>?_,λi f=>?_⟩;grind[FB.i_,FB.row];have j:=h.sd.size;grind[FB.row]
theorem FB.p_{cb b:Nat}(h:R_ I m)(c:cb<I.heap.size/\b<=cb):FB cb b I m:=⟨h.mono Z,lm,(by grind[ef,lT])⟩
theorem FB.refl{a:Nat}(w:aN):FB z a w w:=⟨dv _ _,s_,G_⟩
def gJ(cb tp lo:Nat)(fs:List aC)(fv:aX)(w:aN)(c:bK)(e:Ending)(w':aN):Prop:=FB cb tp w w'/\((∃s,c=⟨s,0,0⟩/\e=fA/\CK cb tp lo fs fv w' s)\/(c.kind≠0/\e=iE c.kind c.l_))
def uf(a b:bK):Prop:=a.kind≠0->b.kind=a.kind/\b.l_=a.l_
def uf.refl(a:bK):uf a a:=λ_=>Z
theorem uf.trans{a b c:bK}(h:uf a b)(k:uf b c):uf a c:=(by grind[uf])
theorem uf.found(s:bK)(l k:Nat):uf s (s.found l k):=(by grind[bK.found,uf])
theorem uf.declares(s:bK)(n:aC):uf s (Hs.oo s n):=by grind[Hs.oo,uf.found,uf]
def uf.look(b:List aC)(a:Bool)(s:bK)(n:aC):uf s (cQ b a s n):=by grind[cQ,gG,uf.found,uf]
theorem uf.fold{f:bK->aC->bK}(h:∀s k,uf s (f s k)):∀(l:List aC) (s:bK),uf s (l.foldl f s)|[],s=>uf.refl s|k::l,s=>(h s k).trans (uf.fold h l (f s k))
theorem uf.e_(s:bK)(x:cY):uf s {s with e_:=x}:=λ_=>(by simp)
theorem uf.walk(b:List aC)(a:Bool):∀(d:Nat) (n:aC) (s:bK),uf s (aT b a d n s)|0,_,s=>uf.refl s|d+1,n,s=>by rw[aT];split;split;exact((uf.declares s _).trans (uf.walk b a d _ _)).trans (uf.e_ _ _);exact uf.refl s;have h:uf s (n.y_.foldl (λs k=>aT b a d k s) (cQ b a s n)):=(uf.look b a s n).trans (uf.fold (λs k=>uf.walk b a d k s) _ _);grind[uf]
theorem gJ.fault{c1 c:bK}(j:FB z N I m)(h:c1.kind≠0)(i:uf c1 c):gJ z N L H J I c (iE c1.kind c1.l_) m:=by grind[gJ,uf]
def gJ.done{a d:Nat}{c:bK}(i:FB a d I m)(j:c=⟨K,0,0⟩)(h:CK a d z H J m K):gJ a d z H J I c (fA) m:=(by grind[gJ])
theorem CL(h:Below z I m)(n:Nat):Below z I (m.drewN n):=⟨h.os,h.tape,h.output,h.size,h.block⟩
def Jo(i j u:Nat)(s:List aC)(t:aX)(w:aN)(a:cY)(h:CK i j u s t w a)(B:aA a<=100000)(l:Nat)(x:bQ):Calls prog 233 #[aY i,.agg #[Y l,Q_ (bs x)]] w (gJ i j u s t w (if a.contains x then ⟨a,0,0⟩else bK.found ⟨a,0,0⟩ l 6)):=by
 have r:=h.grow ((dv _ _).alloc lZ (bO #[Y l,Q_ (bs x)] 181));have ⟨sv,hblk,hown,_⟩:=r.i_;have e:=h.lt;have ⟨hlt,c0,c1,fz⟩:=mS hblk;obtain⟨k,p,rfl⟩:∃k p,sv=P_ k (aA a) p:=by rcases hown.2 with ⟨rfl,D⟩|⟨g,y,z,rfl,_⟩;grind;simp
 have q:=O (λn=>CE a x (P_ k (aA a) p) j ((eF w #[Y l,Q_ (bs x)] 181).drewN n) B (bE hown s_));have H:=O r;have v:Hid (R_ w (eF w #[Y l,Q_ (bs x)] 181)):=(by grind[eo,dv]);generalize f:(if a.contains x then (⟨a,0,0⟩:bK)else bK.found ⟨a,0,0⟩ l 6)=c;have d:=O f;generalize a.contains x=b at*;cases b;.have hc:=d.symm;subst hc;go_in;go_wp;go_quiet ((go_at_call 201;exact Calls.quiet_of_same (q _)));go_wp;refine sa (wY l _) λE o=>?_;have m:=O o;go_wp2_with (go_at_call 89;refine sa (lD 6 l _) λC A=>?_;obtain rfl:=A.symm);exact⟨aJ,gJ.fault (c1:=⟨a,6,l⟩) (FB.p_ ((CL v _).trans (m.mono s_)) e) s_ (uf.refl _)⟩
 have hc:=d.symm;subst hc;go_in;go_wp;go_quiet ((go_at_call 201;exact Calls.quiet_of_same (q _)));go_wp2;go_end0;grind[FB.p_,CL,dw,CK.grow,gJ]
def wU(k m v:Nat)(t:List aC)(u:aX)(w:aN)(a:cY)(h:CK k m v t u w a)(E:aA a<=100000)(l:Nat)(x:bQ):Calls prog 147 #[aY k,.agg #[Y l,Q_ (bs x)]] w (gJ k m v t u w (if gM x||a.contains x then bK.found ⟨a,0,0⟩ l 6 else ⟨a,0,0⟩)):=by
 have e:=h.grow ((dv _ _).alloc lZ (bO #[Y l,Q_ (bs x)] 181));have ⟨sv,hblk,hown,_⟩:=e.i_;have f:=h.lt;have ⟨hlt,c0,c1,fz⟩:=mS hblk;obtain⟨o,r,rfl⟩:∃o r,sv=P_ o (aA a) r:=by rcases hown.2 with ⟨rfl,G⟩|⟨g,B,C,rfl,_⟩;grind;simp
 have s:=O (λn=>CE a x (P_ o (aA a) r) m ((eF w #[Y l,Q_ (bs x)] 181).drewN n) E (bE hown s_));have H:=O e;have A:Hid (R_ w (eF w #[Y l,Q_ (bs x)] 181)):=(by grind[eo,dv]);have hx:=bA x;have z:Hid (gM x=(x==[108,101,110]||x==[114,101,97,100])):=rfl;generalize i:(if gM x||a.contains x then bK.found ⟨a,0,0⟩ l 6 else (⟨a,0,0⟩:bK))=c;have d:=O i;rw[z]at d;generalize a.contains x=b at*;cases e:(x==[108,101,110])<;>cases y:(x==[114,101,97,100])<;>cases b;all_goals rw[e,y]at d;first|(have j:=d.symm;subst j;go_in;go_wp;go_quiet ((go_at_call 201;exact Calls.quiet_of_same (s _)));go_wp2;go_end0;grind[FB.p_,CL,dw,CK.grow,gJ])|(have j:=d.symm;subst j;go_in;go_wp;go_quiet ((go_at_call 201;exact Calls.quiet_of_same (s _)));go_wp;refine sa (wY l _) λI q=>?_;have p:=O q;go_wp2_with (go_at_call 89;refine sa (lD 6 l _) λF D=>?_;obtain rfl:=D.symm);exact⟨aJ,gJ.fault (c1:=⟨a,6,l⟩) (FB.p_ ((CL A _).trans (p.mono s_)) f) s_ (uf.refl _)⟩)
def KZ{o:Obj}{c:aX}(g:I.heap[z]?=Wy (bO #[J,d] 191))(i:(I.alloc o).grownBy m c.ownBlock)(h:c.ownBlock≠Wy z):m.heap[z]?=Wy (bO #[J,d] 191):=by have b:=aH g;rw[i.block z la (G_)];exact kX _ _ b _ g
def CK.add{t:aX}{x:bQ}{o:Obj}{g b:Nat}(h:CK N L z H t I K)(d:I.heap[N]?=Wy (bO #[t,J] 191)) (n:I.ownsRow L 9 1 J (aA K) (kE K)) (l:m.ownsRow L 9 1 (P_ (Wy (aL g 0)) (aA K+1) b) (aA K+1) (kE K++[Q_ (bs x)])) (j:(I.alloc o).grownBy m J.ownBlock) (B:J.ownBlock=Wy g\/H_ I<=g):FB N L I (m.setCell (aL N 1) (P_ (Wy (aL g 0)) (aA K+1) b))/\CK N L z H t (m.setCell (aL N 1) (P_ (Wy (aL g 0)) (aA K+1) b)) (K++[x]):=by
 have A:=aH d;have ⟨hne,hhi⟩:J.ownBlock≠Wy N/\L<=N:=by grind[CK.i_]
 have u:=KZ d j hne;have r:Below L I m:=⟨j.os.trans aJ,j.tape.trans aJ,j.output.trans aJ,em s_ j.size,λk f=>by rw[j.block k la λe=>by have:=bX n k e.symm;exact Z];grind[ed]⟩;have q:Below L I (m.setCell (aL N 1) (P_ (Wy (aL g 0)) (aA K+1) b)):=r.setCell hhi _;have y:(m.setCell (aL N 1) (P_ (Wy (aL g 0)) (aA K+1) b)).heap[N]?=Wy (bO #[t,P_ (Wy (aL g 0)) (aA K+1) b] 191):=by rw[aP u];rfl
 have C:=rR d;refine⟨⟨q,λk f F G=>?_,λk f=>?_⟩,⟨P_ (Wy (aL g 0)) (aA K+1) b,y,?_⟩,h.wq.h_ λk f=>q.block k f.2⟩;rw[ej _ _ _ _ Z,j.block k la (G_),ed _ _ _ f];rw[rR y]at f;have e:=fo f;grind;have E:aA (K++[x])=aA K+1:=s_;have D:kE (K++[x])=kE K++[Q_ (bs x)]:=by simp[kE]
 rw[E,D];have s:g≠N:=(by grind);exact⟨bE l λk f=>ej _ _ _ _ (by cases f;exact s),λe=>s (fo e),hhi⟩
def mU(cb tp lo:Nat)(fs:List aC)(fv:aX)(d:Nat):Prop:=∀(v:aX) (a:aC) (e_:cY) (w:aN),CK cb tp lo fs fv w e_->PN (sm lo tp) w v a->gC d a->aA e_+cV d a<=90000->Calls prog 180 #[aY cb,v] w (gJ cb tp lo fs fv w (aT fs (mI fv) d a ⟨e_,0,0⟩))
def CK.cut(h:CK z N L H J I K):∃e b,I.heap[z]?=Wy (bO #[J,P_ e (aA K) b] 191)/\aA K<=b/\b<=maxLen/\I.ownsRow N 9 1 (P_ e (aA K) b) (aA K) (kE K)/\(Value.slice e (aA K) b).ownBlock≠Wy z:=by have ⟨sv,h1,h2,h3,_⟩:=h.i_;obtain⟨x,c,rfl,l,i,_⟩:=rK h2 _ lZ;grind
theorem PN.below{d b:Nat}{c:aN}{v:aX}{a:aC}(h:PN (sm d b) I v a)(f:Below b I c):PN (sm d b) c v a:=h.h_ λk e=>f.block k e.2
def th.below{c a:Nat}{b:aN}{v:aX}(h:th (sm c a) I v H)(e:Below a I b):th (sm c a) b v H:=h.h_ (λk d=>e.block k d.2) s_
def ZL(l r B:Nat)(m:List aC)(n:aX)(d:Nat)(IH:mU l r B m n d)(w:aN)(e_:cY)(h:CK l r B m n w e_)(T:Nat)(t u:aC)(v1:aX)(hu:PN (sm B r) w v1 u)(ae:gC d u)(ao:aA e_+cV d u<=90000):Calls prog 232 #[aY l,.agg #[Y T,Y t.l_,Q_ (bs t.x_),v1]] w (gJ l r B m n w {aT m (mI n) d u (Hs.oo ⟨e_,0,0⟩ t)with e_:=(aT m (mI n) d u (Hs.oo ⟨e_,0,0⟩ t)).e_++[t.x_]}):=by
 obtain⟨Q,j,rfl⟩:=hu.form;have N:=h.lt;have v:Hid (R_ w (eF w #[Y T,Y t.l_,Q_ (bs t.x_),dI Q (.agg j)] 331)):=(dv _ _).alloc (Z) _;have ad:Hid ((eF w #[Y T,Y t.l_,Q_ (bs t.x_),dI Q (.agg j)] 331).heap[H_ w]?=Wy (bO #[Y T,Y t.l_,Q_ (bs t.x_),dI Q (.agg j)] 331)):=aV _ _ aJ _;have W:=O (wU l r B m n _ e_ (h.grow v) Z t.l_ t.x_);have F:Hid (Hs.oo ⟨e_,0,0⟩ t=if gM t.x_||e_.contains t.x_ then bK.found ⟨e_,0,0⟩ t.l_ 6 else ⟨e_,0,0⟩):=rfl;rw[<-F]at W;have HU:=O hu;have X:=O IH;have p:=gZ m (mI n) d u (Hs.oo ⟨e_,0,0⟩ t);have HADD:=O p;have I:=lG ⟨e_,0,0⟩ t;have E:=O I;have x:=O (FB.p_ v N);have G:lT l (eF w #[Y T,Y t.l_,Q_ (bs t.x_),dI Q (.agg j)] 331)≠Wy (H_ w):=by have ⟨sv,hb,ho,_⟩:=h.i_;intro e;rw[JD (v.block l N.1),rR hb]at e;have:=eI ho _ e;exact Z
 have V:=O G;clear h hu IH F p I G;generalize af:Hs.oo ⟨e_,0,0⟩ t=c1 at*;clear af;have ⟨i0,hi,hz0,hz1,hz2⟩:=info_parts GJ;go_in;go_wp;apply W.mono;rintro e w1 ⟨g,⟨s1,rfl,rfl,o⟩|⟨P,rfl⟩⟩;rotate_left;.have z:=O (x.trans g);have ai:=O P;clear g P;go_wp;exact⟨aJ,(by grind[gJ.fault,dw,uf.trans,uf.walk,uf.e_])⟩
 obtain rfl:s1=e_:=E.out;have HX:=O (X (dI Q (.agg j)) u s1 w1 o (HU.below (x.trans g).sd) ae Z);have a:=O ((g.i_ (H_ w) s_ Z V).trans ad);have z:=O (x.trans g);have K:Hid (lT l w1≠Wy (H_ w)):=(by grind[FB.row,dw]);have m0:=aB a (i:=0) aJ;have m1:=aB a (i:=1) aJ;have m2:=aB a (i:=2) aJ;have m3:=aB a (i:=3) aJ;have M:=aH a;clear g o W E;generalize aa:aT m (mI n) d u ⟨s1,0,0⟩=c2 at*;clear aa;go_wp21;apply HX.mono;rintro e A ⟨k,⟨S,rfl,rfl,c⟩|⟨C,rfl⟩⟩;rotate_left;.have s:=O (z.trans k);have an:=O C;clear k C;go_wp;exact⟨aJ,(by grind[dw,gJ])⟩
 clear m0 m1 m2 m3 M;have b:=O ((k.i_ (H_ w) (aH a) Z K).trans a);have m0:=aB b (i:=0) aJ;have m1:=aB b (i:=1) aJ;have m2:=aB b (i:=2) aJ;have m3:=aB b (i:=3) aJ;have ag:=aH b;have ⟨sx2,sc2,hblk2,hsc2,hscm2,hown2,hne2⟩:=c.cut;have ⟨hlt2,c0,c1,f1⟩:=mS hblk2;have am:aA S<=90000:=by grind[dw,ua]
 have s:=O (show A.drew.heap[l]?=_ from hblk2);have D:=O (show A.drew.ownsRow _ _ _ _ _ _ from hown2);have ab:=O (show CK l r B m n A.drew S from c.grow (dv _ _).drew);have H:=O (z.trans (k.trans (FB.p_ (dv _ _).drew c.lt)));have ac:=O hne2;clear hblk2 hown2 hne2 c k HX;go_wp2;go_region_law (refine step_append_lies _ r_ _ _ 52 r_ r 9 i0 _ 1 16 underlying52 hi hz0 hz1 hz2 rfl d_ (P_ sx2 (aA S) sc2) (aA S) (kE S) r_ (D.alloc _) (aL (H_ A) 0) 1 1 [Q_ (bs t.x_)] r_ r_ (BL A.drew _) (GI _) d_ lg Z la (H_ A+1) s_ ?_;intro g5 ah w5 y f L ap;have J:=KZ s f ac;obtain⟨ak,-,q1,aj⟩:=mS J;clear J);all_goals
  go_wp;first|go_end0|apply bodyPost_ret (results_none aJ _ _ _) aJ
  have q:=ab.add s D y f (L.imp_right λe=>by show H_ A<=g5;exact Z);exact gJ.done (H.trans q.1) aJ q.2
theorem th.get(h:th o I J H):(J=bP/\H=[])\/∃g a,J=.slice (Wy (aL g 0)) (aA H) a/\o g/\g<H_ I/\aA H<=a/\∀k (c:k<aA H),∃u,I.cell? (aL g k)=Wy u/\PN o I u H[k]:=by rcases h with h|⟨g,a,b,e,j,f,n,i,m,d⟩;grind;grind[jN.get,aB]
abbrev nN(fs:List aC)(al:Bool)(d:Nat)(l:List aC)(s:bK):bK:=l.foldl (λs k=>aT fs al d k s) s
def qD(cb tp lo:Nat)(fs:List aC)(fv:aX)(d:Nat):Prop:=∀(v:aX) (l:List aC) (e_:cY) (w:aN),CK cb tp lo fs fv w e_->th (sm lo tp) w v l->(∀k∈l,gC d k)->aA e_+(l.map (cV d)).sum<=90000->aA l<=90000->Calls prog 202 #[aY cb,v] w (gJ cb tp lo fs fv w (nN fs (mI fv) d l ⟨e_,0,0⟩))
def s8(cb tp lo:Nat)(fs:List aC)(fv:aX)(d:Nat)(w:aN)(l:List aC)(c:bK)(gk:Nat)(i:aX)(wr:aN):Prop:=∃k s,k+gk=aA l/\i=Y (k:Nat)/\FB cb tp w wr/\CK cb tp lo fs fv wr s/\c=nN fs (mI fv) d (l.drop k) ⟨s,0,0⟩/\aA s+((l.drop k).map (cV d)).sum<=90000
theorem L6(y r x:Nat)(m:List aC)(n:aX)(d:Nat)(IH:mU y r x m n d)(g B:Nat)(l:List aC)(b:cY)(w:aN)(h:CK y r x m n w b)(K:g<r)(_hcap:aA l<=B)(hc:∀k (P:k<aA l),∃u,dR w g k u/\PN (sm x r) w u l[k])(M:∀k∈l,gC d k)(aa:aA b+(l.map (cV d)).sum<=90000)(hl:aA l<=90000):Calls prog 202 #[aY y,P_ (Wy (aL g 0)) (aA l) B] w (gJ y r x m n w (nN m (mI n) d l ⟨b,0,0⟩)):=by
 have Q:Hid (s8 y r x m n d w l (nN m (mI n) d l ⟨b,0,0⟩) (aA l) (Y (0:Nat)) w):=⟨0,b,Z,rfl,FB.refl _,h,s_,G_⟩;have X:=O hc;have HD:=O M;have F:=O IH;have A:=h.lt;generalize nN m (mI n) d l ⟨b,0,0⟩=c at*;go_in;go_wp2;go_loopg [5,8] (aA l) (λgk _ i wr=>s8 y r x m n d w l c gk i wr);case atStart=>exact Q
 case round=>
  obtain⟨k,s,P,rfl,o,z,v,C⟩:=hrel;have H:=O o;have V:=O z;by_cases t:k<aA l
  .obtain⟨j,rfl⟩:∃j,gk=j+1:=⟨gk-1,Z⟩;have ⟨u,hu,hn⟩:=X k t;obtain⟨T,S,rfl⟩:=hn.form;have hcell:=(o.sd.cell (p:=(aL g k)) K).trans hu;have hgr:=eh (Nat.lt_trans (eh K A.2) A.1) o.sd.size;have hdk:=(List.getElem_cons_drop t).symm;have D:=HD l[k] (ga t);rw[hdk]at v C;simp only[fk,fq]at C;generalize l[k]=a at*;have HX:=O (F (dI T (.agg S)) a s wr z (hn.below o.sd) D Z);have q:=gZ m (mI n) d a ⟨s,0,0⟩;have HADD:=O q;have f:c=nN m (mI n) d (l.drop (k+1)) (aT m (mI n) d a ⟨s,0,0⟩):=v;have J:=O f;have ac:=O C;clear o z hn hu hdk v f q C;generalize aT m (mI n) d a ⟨s,0,0⟩=c1 at*;go_wp2_with fail;apply HX.mono;rintro e N ⟨I,⟨s1,rfl,rfl,L⟩|⟨E,rfl⟩⟩;rotate_left;.have ab:=O (H.trans I);have W:=O E;go_wp2_with fail;exact⟨aJ,(by grind[gJ.fault,dw,uf.fold,uf.walk])⟩
   have G:Hid (s8 y r x m n d w l c j (Y ((k+1:Nat):Int)) N):=by grind[FB.trans,dw,s8,ua]
   go_wp2;go_roundg j;case measure=>exact Z
   case rel=>exact G
  have f:c=⟨s,0,0⟩:=by grind[List.drop_eq_nil_of_le]
  have J:=O f;go_wp2;go_end0;grind[gJ]
theorem L8(b c f:Nat)(d:List aC)(e:aX)(a:cY)(w:aN)(h:CK b c f d e w a):Calls prog 202 #[aY b,bP] w (gJ b c f d e w ⟨a,0,0⟩):=by
 go_in;go_wp2;go_loop [5,8] (λ_ i=>i=Y 0) (λ_ _=>0);case atStart=>rfl
 case round=>go_wp2;go_end0;grind[FB.refl,gJ]
theorem xU(a b f:Nat)(c:List aC)(e:aX)(d:Nat)(g:mU a b f c e d):qD a b f c e d:=by grind[th.get,L8,L6,qD,sm]
def PO(b:List aC)(a:Bool)(d:Nat)(l:List aC)(s:bK):ua s (nN b a d l s) (l.map (cV d)).sum:=(by grind[ua.fold,gZ])
def CK.back(m:Nat)(s:m<=aA K){d:Option Addr}{e:Nat}(h:CK z N L H J I K)(f:I.heap[z]?=Wy (bO #[J,P_ d (aA K) e] 191))(i:I.ownsRow N 9 1 (P_ d (aA K) e) (aA K) (kE K)):FB z N I (I.setCell (aL z 1) (P_ d m e))/\CK z N L H J (I.setCell (aL z 1) (P_ d m e)) (K.take m):=by
 have ⟨hne,hhi⟩:(Value.slice d (aA K) e).ownBlock≠Wy z/\N<=z:=by grind[CK.i_]
 have p:(Value.slice d m e).ownBlock≠Wy z:=by cases d<;>exact hne
 obtain⟨x,c,u,-,-,t⟩:=rK i m s;have n:Below N I (I.setCell (aL z 1) (P_ d m e)):=(dv _ _).setCell hhi _;have q:(I.setCell (aL z 1) (P_ d m e)).heap[z]?=Wy (bO #[J,P_ d m e] 191):=by rw[aP f];rfl
 refine⟨⟨n,oa,λk j=>ea ?_⟩,⟨P_ d m e,q,?_⟩,h.wq.h_ λk j=>n.block k j.2⟩;rw[rR q]at j;rw[rR f,<-j];cases d<;>rfl;grind[bE,ej]
theorem FR(o p q:Nat)(g:List aC)(i:aX)(d:Nat)(H:qD o p q g i d)(v:aX)(l:List aC)(e_:cY)(w:aN)(h:CK o p q g i w e_)(A:th (sm q p) w v l)(E:∀k∈l,gC d k)(t:aA e_+(l.map (cV d)).sum<=90000)(G:aA l<=90000):Calls prog 148 #[aY o,v] w (gJ o p q g i w {nN g (mI i) d l ⟨e_,0,0⟩with e_:=(nN g (mI i) d l ⟨e_,0,0⟩).e_.take (aA e_)}):=by
 obtain⟨P,S,rfl⟩:=A.slice;have M:=O (H _ l e_ w h A E t G);have j:=PO g (mI i) d l ⟨e_,0,0⟩;have HADD:=O j;obtain⟨Q,T,n,K,C,z,-⟩:=h.cut;have ⟨hlt,c0,c1,f1⟩:=mS n;generalize nN g (mI i) d l ⟨e_,0,0⟩=c at*;go_in;go_wp;apply M.mono;rintro e N ⟨m,⟨I,rfl,rfl,b⟩|⟨r,rfl⟩⟩;rotate_left;.have u:=O m;have F:=O r;go_wp;exact⟨aJ,(by grind[gJ])⟩
 have ⟨x,hx1,hx2⟩:=HADD.out;have B:=hx1;have y:aA e_<=aA I:=G_;obtain⟨L,J,a,D,s,f,-⟩:=b.cut;have HFIN:=O (b.back (aA e_) y a f);have u:=O m;have ⟨hlt,c0,c1,f1⟩:=mS a;go_wp2;go_end0;grind[FB.trans,dw,gJ]
def vq.y_(h:vq o I J H):∀f∈H,1<=aA f.y_:=by grind[vq.cells,List.mem_iff_getElem,LM]
def v7(b:∀f∈H,1<=aA f.y_)(x:bQ):gN H false x=match pO H x with|some n=>(n:Int)|none=>-1:=by grind[gN,pO,dG]
def Z4(b:∀f∈H,aA f.y_<=90000){x:bQ}{n:Nat}(h:pO H x=Wy n):n<=90000:=by unfold pO at h;split at h;grind;split at h;grind;cases c:dG H x with|none=>grind|some f=>grind[dG]
def J6(x:bQ)(W:aN):Calls prog 179 #[Q_ (bs x)] W λe a=>e=bR (.tuple #[Y (1:Nat),.bool (x==[108,101,110])])/\R_ W a:=by have hx:=bA x;all_goals go_in;go_wp2;exact bodyPost_ret (v:=.tuple #[Y (1:Nat),.bool _]) (by simp[results,results179]) rfl ⟨rfl,dv _ _⟩
def U8(cb N S:Nat)(m:List aC)(p:aX)(af:aA m<=90000)(G:∀f∈m,aA f.y_<=90000)(d:Nat)(HN:qD cb N S m p d)(c:aC)(v:aX)(b:cY)(w:aN)(h:CK cb N S m p w b)(V:th (sm S N) w v c.y_)(hd:∀k∈c.y_,gC d k)(aa:aA b+(c.y_.map (cV d)).sum<=90000)(M:aA c.y_<=90000):Calls prog 234 #[aY cb,.agg #[Y c.l_,Q_ (bs c.x_),v]] w (gJ cb N S m p w (nN m (mI p) d c.y_ (gG m (mI p) ⟨b,0,0⟩ c))):=by
 obtain⟨q,t,rfl⟩:=V.slice;have y:=h.lt;have F:R_ w (eF w #[Y c.l_,Q_ (bs c.x_),P_ q (aA c.y_) t] 343):=(by grind[eo,dv]);have T:=h.grow F;have E:=O F;have H:Hid ((eF w #[Y c.l_,Q_ (bs c.x_),P_ q (aA c.y_) t] 343).heap[H_ w]?=Wy (bO #[Y c.l_,Q_ (bs c.x_),P_ q (aA c.y_) t] 343)):=aV _ _ aJ _;obtain⟨sx,sc,C,ah,ac,I,-⟩:=T.cut;have ⟨hlt,c0,c1,f1⟩:=mS C;have ⟨P,X,hPK,hWP,hPL⟩:∃(P:Option Nat) (X:Nat),(∀n,P=Wy n->X=n/\n<=90000)/\gN m (mI p) c.x_=(match P with|some n=>(n:Int)|none=>-1)/\((∃B z,p=FV (.slice B (aA m) z)/\Hid (Calls prog 88 #[.slice B (aA m) z,.string (bs c.x_)] (eF w #[Y c.l_,.string (bs c.x_),.slice q (aA c.y_) t] 343).drew λe w'=>e=bR (.tuple #[Y (X:Nat),.bool P.isSome])/\Below (eF w #[Y c.l_,.string (bs c.x_),.slice q (aA c.y_) t] 343).drew.heap.size (eF w #[Y c.l_,.string (bs c.x_),.slice q (aA c.y_) t] 343).drew w'))\/(p=Ar/\Hid (Calls prog 179 #[.string (bs c.x_)] (eF w #[Y c.l_,.string (bs c.x_),.slice q (aA c.y_) t] 343).drew λe w'=>e=bR (.tuple #[Y (X:Nat),.bool P.isSome])/\Below (eF w #[Y c.l_,.string (bs c.x_),.slice q (aA c.y_) t] 343).drew.heap.size (eF w #[Y c.l_,.string (bs c.x_),.slice q (aA c.y_) t] 343).drew w'))):=by
  rcases(T.grow (dv _ _).drew).wq with ⟨pv,rfl,Q⟩|⟨rfl,rfl⟩;obtain⟨B,z,rfl⟩:∃x c,pv=P_ x (aA m) c:=by grind[vq]
  exact⟨pO m c.x_,_,λn hn=>⟨G_,Z4 G hn⟩,v7 Q.y_ c.x_,ea ⟨B,z,rfl,JV m (sm S N) (P_ B (aA m) z) c.x_ _ Z G Q⟩⟩;have M:=J6 c.x_ (eF w #[Y c.l_,Q_ (bs c.x_),P_ q (aA c.y_) t] 343).drew;have L:gN [] (mI Ar) c.x_=if c.x_==[108,101,110]then 1 else -1:=by grind[gN,dG,mI]
  rw[L];cases hx:(c.x_==[108,101,110])<;>rw[hx]at M;exact⟨none,1,s_,rfl,dz ⟨rfl,M⟩⟩;exact⟨Wy 1,1,s_,rfl,dz ⟨rfl,M⟩⟩
 have u:=O hWP;clear hWP;have H0:=O T;have HK:=O V;have ab:=O (λW (hb:R_ w W)=>HN (P_ q (aA c.y_) t) c.y_ b W (h.grow hb) (V.below (hb.mono Z)) hd aa M);clear h V hd HN F T C I G;cases P with
 |none=>
  have A:Hid (gG m (mI p) ⟨b,0,0⟩ c=⟨b,6,c.l_⟩):=by rw[uS (W:=-1) u d_];rfl
  simp[Option.isSome_none]at hPL;rw[A];clear u A hPK;rcases hPL with ⟨B,z,rfl,o⟩|⟨rfl,o⟩;all_goals go_in;go_wp2;go_region_law (go_simp;(first|go_at_call 88|go_at_call 179);refine sa o λw1 g=>?_;have l:=O (E.trans ((dv _ _).drew.trans (g.mono s_)));have a:=O ((g.block (H_ w) s_).trans H);have m0:=aB a (i:=0) aJ;have m1:=aB a (i:=1) aJ;have m2:=aB a (i:=2) aJ;have K:=aH a;clear g);all_goals go_wp;refine sa (wY c.l_ _) λw2 j=>?_;have s:=O (l.trans (j.mono l.size));clear j;go_wp2_with (go_at_call 89;refine sa (lD 6 c.l_ _) λw3 L=>?_;obtain rfl:=L.symm);exact⟨aJ,gJ.fault (c1:=⟨b,6,c.l_⟩) (FB.p_ s y) s_ ((by grind[uf.fold,uf.walk]))⟩|some n=>
  simp[Option.isSome_some]at hPL;have ⟨hkn,hn⟩:=hPK n rfl;rw[hkn]at hPL;clear hkn;by_cases he:n=aA c.y_
  .have A:Hid (gG m (mI p) ⟨b,0,0⟩ c=⟨b,0,0⟩):=by grind[dw,gG]
   rw[A];subst he;clear u A hPK;generalize nN m (mI p) d c.y_ ⟨b,0,0⟩=r at*;rcases hPL with ⟨B,z,rfl,o⟩|⟨rfl,o⟩;all_goals
    go_in;go_wp2;go_region_law (go_simp;(first|go_at_call 88|go_at_call 179);refine sa o λw1 g=>?_;have l:=O (E.trans ((dv _ _).drew.trans (g.mono s_)));have a:=O ((g.block (H_ w) s_).trans H);have m0:=aB a (i:=0) aJ;have m1:=aB a (i:=1) aJ;have m2:=aB a (i:=2) aJ;have K:=aH a;clear g);all_goals
     go_wp;apply (ab _ l).mono;rintro e w2 ⟨j,⟨s2,rfl,rfl,D⟩|⟨J,rfl⟩⟩;.have s:=O ((FB.p_ l y).trans j);have ag:=O D;clear j D;go_wp2;go_end0;grind[dw,gJ]
     have s:=O ((FB.p_ l y).trans j);have ae:=O J;clear j J;go_wp;exact⟨aJ,(by grind[dw,gJ])⟩
  have A:Hid (gG m (mI p) ⟨b,0,0⟩ c=⟨b,7,c.l_⟩):=by rw[yD (W:=n) u Z Z];rfl
  rw[A];have ad:((n:Int) !=(aA c.y_:Int))=true:=G_;clear u A hPK;rcases hPL with ⟨B,z,rfl,o⟩|⟨rfl,o⟩;all_goals go_in;go_wp2;go_region_law (go_simp;(first|go_at_call 88|go_at_call 179);refine sa o λw1 g=>?_;have l:=O (E.trans ((dv _ _).drew.trans (g.mono s_)));have a:=O ((g.block (H_ w) s_).trans H);have m0:=aB a (i:=0) aJ;have m1:=aB a (i:=1) aJ;have m2:=aB a (i:=2) aJ;have K:=aH a;clear g);all_goals go_wp;refine sa (wY c.l_ _) λw2 j=>?_;have s:=O (l.trans (j.mono l.size));clear j;go_wp2_with (go_at_call 89;refine sa (lD 7 c.l_ _) λw3 L=>?_;obtain rfl:=L.symm);exact⟨aJ,gJ.fault (c1:=⟨b,7,c.l_⟩) (FB.p_ s y) s_ ((by grind[uf.fold,uf.walk]))⟩
