import Derived.Test.YthnhjhlinlhflaaGreatDoorP09
set_option linter.all false
set_option maxRecDepth 100000
set_option maxHeartbeats 0
open List renaming length->aA
open Option renaming some->Wj
namespace Go.Proofs.YthnhjhlinlhflaaGreatDoor
open Hs _root_.Go.Proofs.Tryz Go.RowKit
variable{H:List aC}{L M z:Nat}{I m:aL}{J d:aU}{K:cU}
abbrev FV(pv:aU):Value:=.func (.func 87) #[pv] #[]
abbrev wv:Value:=.func (.func 178) #[] #[]
def Ct(F:bI)(w:aL)(fv:aU)(fs:List aC):Prop:=(∃pv,fv=FV pv/\vo F w pv fs)\/(fv=wv/\fs=[])
def mN:Value->Bool|.func (.func k) _ _=>k==178|_=>false
structure CK(cb tp lo:Nat)(fs:List aC)(fv:aU)(w:aL)(e_:cU):Prop where
 n_:∃sv,w.heap[cb]?=Wj (.cells #[fv,sv] 190)/\w.ownsRow tp 9 1 sv (aA e_) (jR e_)/\sv.ownBlock≠Wj cb/\tp<=cb
 wa:Ct (si lo tp) w fv fs
theorem vo.j_{F:bI}{w w':aL}{v:aU}{fs:List aC}(h:vo F w v fs)(d:∀b,F b->w'.heap[b]?=w.heap[b]?):vo F w' v fs:=by rcases h with h|⟨g,c,a,f,k,i,m,j,l,e⟩;exact ea h;exact dv ⟨g,c,a,f,k,i,G_,j,l,e.mono λ_ _ h=>h.j_ d s_⟩
def Ct.j_{F:bI}{w w':aL}{v:aU}{fs:List aC}(h:Ct F w v fs)(a:∀b,F b->w'.heap[b]?=w.heap[b]?):Ct F w' v fs:=by grind[vo.j_,Ct]
def CK.lt{b:Nat}{d:List aC}{w:aL}{a:cU}(h:CK b z M d J w a):b<w.heap.size/\z<=b:=by grind[CK.n_]
theorem CK.grow{cb lo:Nat}{fs:List aC}{a:aL}{e_:cU}(h:CK cb z lo fs J I e_)(d:cB I a):CK cb z lo fs J a e_:=by have ⟨sv,h1,h2,h3⟩:=h.n_;exact⟨(by grind[ej,aX,dT]),h.wa.j_ (by grind[ej,si])⟩
def mX(h:I.heap[z]?=Wj (bM #[J,d] 190)):z<H_ I/\eJ I z 0 J/\eJ I z 1 d/\I.frozen? (aJ z 1)=false:=(by grind[aB,aE])
def lY(cb:Nat)(w:aL):Option Nat:=match w.heap[cb]? with|some (.cells cs _ _)=>(cs[1]?.getD undef).ownBlock|_=>none
def JM(h:m.heap[z]?=I.heap[z]?):lY z m=lY z I:=by unfold lY;rw[h]
def sC(h:I.heap[z]?=Wj (bM #[J,d] 190)):lY z I=d.ownBlock:=by unfold lY;grind
structure FB(cb tp:Nat)(w w':aL):Prop where
 rP:Below tp w w'
 n_:∀k,k<w.heap.size->k≠cb->lY cb w≠Wj k->w'.heap[k]?=w.heap[k]?
 row:∀k,lY cb w'=Wj k->lY cb w=Wj k\/w.heap.size<=k
theorem FB.trans{cb d:Nat}{a b c:aL}(h:FB cb d a b)(k:FB cb d b c):FB cb d a c:=by refine⟨h.rP.trans k.rP,λi e j f=>?_,λi e=>?_⟩;grind[FB.n_,FB.row];have g:=h.rP.size;grind[FB.row]
theorem FB.q_{cb b:Nat}(h:cB I m)(c:cb<I.heap.size/\b<=cb):FB cb b I m:=⟨h.mono Z,lm,(by grind[ej,lY])⟩
theorem FB.refl{a:Nat}(w:aL):FB z a w w:=⟨dw _ _,s_,G_⟩
def gJ(cb tp lo:Nat)(fs:List aC)(fv:aU)(w:aL)(c:bF)(e:Ending)(w':aL):Prop:=FB cb tp w w'/\((∃s,c=⟨s,0,0⟩/\e=eV/\CK cb tp lo fs fv w' s)\/(c.kind≠0/\e=gE c.kind c.l_))
def tz(a b:bF):Prop:=a.kind≠0->b.kind=a.kind/\b.l_=a.l_
def tz.refl(a:bF):tz a a:=λ_=>Z
theorem tz.trans{a b c:bF}(h:tz a b)(k:tz b c):tz a c:=(by grind[tz])
theorem tz.found(s:bF)(l k:Nat):tz s (s.found l k):=(by grind[bF.found,tz])
theorem tz.declares(s:bF)(n:aC):tz s (Hs.ru s n):=by grind[Hs.ru,tz.found,tz]
def tz.look(b:List aC)(a:Bool)(s:bF)(n:aC):tz s (cK b a s n):=by grind[cK,fX,tz.found,tz]
theorem tz.fold{f:bF->aC->bF}(h:∀s k,tz s (f s k)):∀(l:List aC) (s:bF),tz s (l.foldl f s)|[],s=>tz.refl s|k::l,s=>(h s k).trans (tz.fold h l (f s k))
theorem tz.e_(s:bF)(x:cU):tz s {s with e_:=x}:=λ_=>(by simp)
theorem tz.walk(b:List aC)(a:Bool):∀(d:Nat) (n:aC) (s:bF),tz s (aR b a d n s)|0,_,s=>tz.refl s|d+1,n,s=>by rw[aR];split;split;exact((tz.declares s _).trans (tz.walk b a d _ _)).trans (tz.e_ _ _);exact tz.refl s;have h:tz s (n.y_.foldl (λs k=>aR b a d k s) (cK b a s n)):=(tz.look b a s n).trans (tz.fold (λs k=>tz.walk b a d k s) _ _);grind[tz]
theorem gJ.fault{c1 c:bF}(j:FB z M I m)(h:c1.kind≠0)(i:tz c1 c):gJ z M L H J I c (gE c1.kind c1.l_) m:=by grind[gJ,tz]
def gJ.done{a d:Nat}{c:bF}(i:FB a d I m)(j:c=⟨K,0,0⟩)(h:CK a d z H J m K):gJ a d z H J I c (eV) m:=(by grind[gJ])
theorem CY(h:Below z I m)(n:Nat):Below z I (m.drewN n):=⟨h.os,h.tape,h.output,h.size,h.block⟩
def Tz(i j u:Nat)(s:List aC)(t:aU)(w:aL)(a:cU)(h:CK i j u s t w a)(B:aA a<=100000)(l:Nat)(x:bS):Calls prog 232 #[aW i,.agg #[Y l,Q_ (bs x)]] w (gJ i j u s t w (if a.contains x then ⟨a,0,0⟩else bF.found ⟨a,0,0⟩ l 6)):=by
 have r:=h.grow ((dw _ _).alloc kB (bM #[Y l,Q_ (bs x)] 180));have ⟨sv,hblk,hown,_⟩:=r.n_;have e:=h.lt;have ⟨hlt,c0,c1,fz⟩:=mX hblk;obtain⟨k,p,rfl⟩:∃k p,sv=P_ k (aA a) p:=by rcases hown.2 with ⟨rfl,D⟩|⟨g,y,z,rfl,_⟩;grind;simp
 have q:=O (λn=>CU a x (P_ k (aA a) p) j ((dZ w #[Y l,Q_ (bs x)] 180).drewN n) B (aX hown s_));have H:=O r;have v:Hid (cB w (dZ w #[Y l,Q_ (bs x)] 180)):=(by grind[eo,dw]);generalize f:(if a.contains x then (⟨a,0,0⟩:bF)else bF.found ⟨a,0,0⟩ l 6)=c;have d:=O f;generalize a.contains x=b at*;cases b;.have hc:=d.symm;subst hc;go_in;go_wp;go_quiet ((go_at_call 200;exact Calls.quiet_of_same (q _)));go_wp;refine rB (xH l _) λE o=>?_;have m:=O o;go_wp2_with (go_at_call 88;refine rB (kT 6 l _) λC A=>?_;obtain rfl:=A.symm);exact⟨i_,gJ.fault (c1:=⟨a,6,l⟩) (FB.q_ ((CY v _).trans (m.mono s_)) e) s_ (tz.refl _)⟩
 have hc:=d.symm;subst hc;go_in;go_wp;go_quiet ((go_at_call 200;exact Calls.quiet_of_same (q _)));go_wp2;go_end0;grind[FB.q_,CY,dz,CK.grow,gJ]
def xE(k m v:Nat)(t:List aC)(u:aU)(w:aL)(a:cU)(h:CK k m v t u w a)(E:aA a<=100000)(l:Nat)(x:bS):Calls prog 146 #[aW k,.agg #[Y l,Q_ (bs x)]] w (gJ k m v t u w (if gM x||a.contains x then bF.found ⟨a,0,0⟩ l 6 else ⟨a,0,0⟩)):=by
 have e:=h.grow ((dw _ _).alloc kB (bM #[Y l,Q_ (bs x)] 180));have ⟨sv,hblk,hown,_⟩:=e.n_;have f:=h.lt;have ⟨hlt,c0,c1,fz⟩:=mX hblk;obtain⟨o,r,rfl⟩:∃o r,sv=P_ o (aA a) r:=by rcases hown.2 with ⟨rfl,G⟩|⟨g,B,C,rfl,_⟩;grind;simp
 have s:=O (λn=>CU a x (P_ o (aA a) r) m ((dZ w #[Y l,Q_ (bs x)] 180).drewN n) E (aX hown s_));have H:=O e;have A:Hid (cB w (dZ w #[Y l,Q_ (bs x)] 180)):=(by grind[eo,dw]);have hx:=bA x;have z:Hid (gM x=(x==[108,101,110]||x==[114,101,97,100])):=rfl;generalize i:(if gM x||a.contains x then bF.found ⟨a,0,0⟩ l 6 else (⟨a,0,0⟩:bF))=c;have d:=O i;rw[z]at d;generalize a.contains x=b at*;cases e:(x==[108,101,110])<;>cases y:(x==[114,101,97,100])<;>cases b;all_goals rw[e,y]at d;first|(have j:=d.symm;subst j;go_in;go_wp;go_quiet ((go_at_call 200;exact Calls.quiet_of_same (s _)));go_wp2;go_end0;grind[FB.q_,CY,dz,CK.grow,gJ])|(have j:=d.symm;subst j;go_in;go_wp;go_quiet ((go_at_call 200;exact Calls.quiet_of_same (s _)));go_wp;refine rB (xH l _) λI q=>?_;have p:=O q;go_wp2_with (go_at_call 88;refine rB (kT 6 l _) λF D=>?_;obtain rfl:=D.symm);exact⟨i_,gJ.fault (c1:=⟨a,6,l⟩) (FB.q_ ((CY A _).trans (p.mono s_)) f) s_ (tz.refl _)⟩)
def LM{o:Obj}{c:aU}(g:I.heap[z]?=Wj (bM #[J,d] 190))(i:(I.alloc o).grownBy m c.ownBlock)(h:c.ownBlock≠Wj z):m.heap[z]?=Wj (bM #[J,d] 190):=by have b:=aH g;rw[i.block z ku (G_)];exact iA _ _ b _ g
def CK.add{t:aU}{x:bS}{o:Obj}{g b:Nat}(h:CK M L z H t I K)(d:I.heap[M]?=Wj (bM #[t,J] 190)) (n:I.ownsRow L 9 1 J (aA K) (jR K)) (l:m.ownsRow L 9 1 (P_ (Wj (aJ g 0)) (aA K+1) b) (aA K+1) (jR K++[Q_ (bs x)])) (j:(I.alloc o).grownBy m J.ownBlock) (B:J.ownBlock=Wj g\/H_ I<=g):FB M L I (m.setCell (aJ M 1) (P_ (Wj (aJ g 0)) (aA K+1) b))/\CK M L z H t (m.setCell (aJ M 1) (P_ (Wj (aJ g 0)) (aA K+1) b)) (K++[x]):=by
 have A:=aH d;have ⟨hne,hhi⟩:J.ownBlock≠Wj M/\L<=M:=by grind[CK.n_]
 have u:=LM d j hne;have r:Below L I m:=⟨j.os.trans i_,j.tape.trans i_,j.output.trans i_,em s_ j.size,λk f=>by rw[j.block k ku λe=>by have:=cA n k e.symm;exact Z];grind[ed]⟩;have q:Below L I (m.setCell (aJ M 1) (P_ (Wj (aJ g 0)) (aA K+1) b)):=r.setCell hhi _;have y:(m.setCell (aJ M 1) (P_ (Wj (aJ g 0)) (aA K+1) b)).heap[M]?=Wj (bM #[t,P_ (Wj (aJ g 0)) (aA K+1) b] 190):=by rw[aN u];rfl
 have C:=sC d;refine⟨⟨q,λk f F G=>?_,λk f=>?_⟩,⟨P_ (Wj (aJ g 0)) (aA K+1) b,y,?_⟩,h.wa.j_ λk f=>q.block k f.2⟩;rw[eh _ _ _ _ Z,j.block k ku (G_),ed _ _ _ f];rw[sC y]at f;have e:=fm f;grind;have E:aA (K++[x])=aA K+1:=s_;have D:jR (K++[x])=jR K++[Q_ (bs x)]:=by simp[jR]
 rw[E,D];have s:g≠M:=(by grind);exact⟨aX l λk f=>eh _ _ _ _ (by cases f;exact s),λe=>s (fm e),hhi⟩
def mZ(cb tp lo:Nat)(fs:List aC)(fv:aU)(d:Nat):Prop:=∀(v:aU) (a:aC) (e_:cU) (w:aL),CK cb tp lo fs fv w e_->PN (si lo tp) w v a->fN d a->aA e_+cT d a<=90000->Calls prog 179 #[aW cb,v] w (gJ cb tp lo fs fv w (aR fs (mN fv) d a ⟨e_,0,0⟩))
def CK.cut(h:CK z M L H J I K):∃e b,I.heap[z]?=Wj (bM #[J,P_ e (aA K) b] 190)/\aA K<=b/\b<=maxLen/\I.ownsRow M 9 1 (P_ e (aA K) b) (aA K) (jR K)/\(Value.slice e (aA K) b).ownBlock≠Wj z:=by have ⟨sv,h1,h2,h3,_⟩:=h.n_;obtain⟨x,c,rfl,l,i,_⟩:=qP h2 _ kB;grind
theorem PN.below{d b:Nat}{c:aL}{v:aU}{a:aC}(h:PN (si d b) I v a)(f:Below b I c):PN (si d b) c v a:=h.j_ λk e=>f.block k e.2
def sy.below{c a:Nat}{b:aL}{v:aU}(h:sy (si c a) I v H)(e:Below a I b):sy (si c a) b v H:=h.j_ (λk d=>e.block k d.2) s_
def ZZ(l r B:Nat)(m:List aC)(n:aU)(d:Nat)(IH:mZ l r B m n d)(w:aL)(e_:cU)(h:CK l r B m n w e_)(T:Nat)(t u:aC)(v1:aU)(hu:PN (si B r) w v1 u)(ad:fN d u)(an:aA e_+cT d u<=90000):Calls prog 231 #[aW l,.agg #[Y T,Y t.l_,Q_ (bs t.x_),v1]] w (gJ l r B m n w {aR m (mN n) d u (Hs.ru ⟨e_,0,0⟩ t)with e_:=(aR m (mN n) d u (Hs.ru ⟨e_,0,0⟩ t)).e_++[t.x_]}):=by
 obtain⟨Q,j,rfl⟩:=hu.form;have N:=h.lt;have v:Hid (cB w (dZ w #[Y T,Y t.l_,Q_ (bs t.x_),dA Q (.agg j)] 330)):=(dw _ _).alloc (Z) _;have ac:Hid ((dZ w #[Y T,Y t.l_,Q_ (bs t.x_),dA Q (.agg j)] 330).heap[H_ w]?=Wj (bM #[Y T,Y t.l_,Q_ (bs t.x_),dA Q (.agg j)] 330)):=aS _ _ i_ _;have V:=O (xE l r B m n _ e_ (h.grow v) Z t.l_ t.x_);have F:Hid (Hs.ru ⟨e_,0,0⟩ t=if gM t.x_||e_.contains t.x_ then bF.found ⟨e_,0,0⟩ t.l_ 6 else ⟨e_,0,0⟩):=rfl;rw[<-F]at V;have HU:=O hu;have W:=O IH;have p:=gZ m (mN n) d u (Hs.ru ⟨e_,0,0⟩ t);have HADD:=O p;have I:=lL ⟨e_,0,0⟩ t;have E:=O I;have x:=O (FB.q_ v N);have G:lY l (dZ w #[Y T,Y t.l_,Q_ (bs t.x_),dA Q (.agg j)] 330)≠Wj (H_ w):=by have ⟨sv,hb,ho,_⟩:=h.n_;intro e;rw[JM (v.block l N.1),sC hb]at e;have:=dT ho _ e;exact Z
 have U:=O G;clear h hu IH F p I G;generalize ae:Hs.ru ⟨e_,0,0⟩ t=c1 at*;clear ae;have ⟨i0,hi,hz0,hz1,hz2⟩:=info_parts IA;go_in;go_wp;apply V.mono;rintro e w1 ⟨g,⟨s1,rfl,rfl,o⟩|⟨P,rfl⟩⟩;rotate_left;.have z:=O (x.trans g);have ah:=O P;clear g P;go_wp;exact⟨i_,(by grind[gJ.fault,dz,tz.trans,tz.walk,tz.e_])⟩
 obtain rfl:s1=e_:=E.out;have HX:=O (W (dA Q (.agg j)) u s1 w1 o (HU.below (x.trans g).rP) ad Z);have a:=O ((g.n_ (H_ w) s_ Z U).trans ac);have z:=O (x.trans g);have K:Hid (lY l w1≠Wj (H_ w)):=(by grind[FB.row,dz]);have m0:=aB a (i:=0) i_;have m1:=aB a (i:=1) i_;have m2:=aB a (i:=2) i_;have m3:=aB a (i:=3) i_;have M:=aH a;clear g o V E;generalize X:aR m (mN n) d u ⟨s1,0,0⟩=c2 at*;clear X;go_wp21;apply HX.mono;rintro e A ⟨k,⟨S,rfl,rfl,c⟩|⟨C,rfl⟩⟩;rotate_left;.have s:=O (z.trans k);have am:=O C;clear k C;go_wp;exact⟨i_,(by grind[dz,gJ])⟩
 clear m0 m1 m2 m3 M;have b:=O ((k.n_ (H_ w) (aH a) Z K).trans a);have m0:=aB b (i:=0) i_;have m1:=aB b (i:=1) i_;have m2:=aB b (i:=2) i_;have m3:=aB b (i:=3) i_;have af:=aH b;have ⟨sx2,sc2,hblk2,hsc2,hscm2,hown2,hne2⟩:=c.cut;have ⟨hlt2,c0,c1,f1⟩:=mX hblk2;have ak:aA S<=90000:=by grind[dz,tq]
 have s:=O (show A.drew.heap[l]?=_ from hblk2);have D:=O (show A.drew.ownsRow _ _ _ _ _ _ from hown2);have aa:=O (show CK l r B m n A.drew S from c.grow (dw _ _).drew);have H:=O (z.trans (k.trans (FB.q_ (dw _ _).drew c.lt)));have ab:=O hne2;clear hblk2 hown2 hne2 c k HX;go_wp2;go_region_law (refine step_append_lies _ r_ _ _ 51 r_ r 9 i0 _ 1 16 underlying51 hi hz0 hz1 hz2 rfl d_ (P_ sx2 (aA S) sc2) (aA S) (jR S) r_ (D.alloc _) (aJ (H_ A) 0) 1 1 [Q_ (bs t.x_)] r_ r_ (BW A.drew _) (GW _) d_ ky Z ku (H_ A+1) s_ ?_;intro g5 ag w5 y f L ao;have J:=LM s f ab;obtain⟨aj,-,q1,ai⟩:=mX J;clear J);all_goals
  go_wp;first|go_end0|apply bodyPost_ret (results_none i_ _ _ _) i_
  have q:=aa.add s D y f (L.imp_right λe=>by show H_ A<=g5;exact Z);exact gJ.done (H.trans q.1) i_ q.2
theorem sy.get{F:bI}(h:sy F I J H):(J=bR/\H=[])\/∃g a,J=.slice (Wj (aJ g 0)) (aA H) a/\F g/\g<H_ I/\aA H<=a/\∀k (c:k<aA H),∃u,I.cell? (aJ g k)=Wj u/\PN F I u H[k]:=by rcases h with h|⟨g,a,b,e,j,f,n,i,m,d⟩;grind;grind[jW.get,aB]
abbrev nU(fs:List aC)(al:Bool)(d:Nat)(l:List aC)(s:bF):bF:=l.foldl (λs k=>aR fs al d k s) s
def qL(cb tp lo:Nat)(fs:List aC)(fv:aU)(d:Nat):Prop:=∀(v:aU) (l:List aC) (e_:cU) (w:aL),CK cb tp lo fs fv w e_->sy (si lo tp) w v l->(∀k∈l,fN d k)->aA e_+(l.map (cT d)).sum<=90000->aA l<=90000->Calls prog 201 #[aW cb,v] w (gJ cb tp lo fs fv w (nU fs (mN fv) d l ⟨e_,0,0⟩))
def s6(cb tp lo:Nat)(fs:List aC)(fv:aU)(d:Nat)(w:aL)(l:List aC)(c:bF)(gk:Nat)(i:aU)(wr:aL):Prop:=∃k s,k+gk=aA l/\i=Y (k:Nat)/\FB cb tp w wr/\CK cb tp lo fs fv wr s/\c=nU fs (mN fv) d (l.drop k) ⟨s,0,0⟩/\aA s+((l.drop k).map (cT d)).sum<=90000
theorem M3(y r x:Nat)(m:List aC)(n:aU)(d:Nat)(IH:mZ y r x m n d)(g B:Nat)(l:List aC)(b:cU)(w:aL)(h:CK y r x m n w b)(K:g<r)(_hcap:aA l<=B)(hc:∀k (P:k<aA l),∃u,eJ w g k u/\PN (si x r) w u l[k])(M:∀k∈l,fN d k)(X:aA b+(l.map (cT d)).sum<=90000)(hl:aA l<=90000):Calls prog 201 #[aW y,P_ (Wj (aJ g 0)) (aA l) B] w (gJ y r x m n w (nU m (mN n) d l ⟨b,0,0⟩)):=by
 have Q:Hid (s6 y r x m n d w l (nU m (mN n) d l ⟨b,0,0⟩) (aA l) (Y (0:Nat)) w):=⟨0,b,Z,rfl,FB.refl _,h,s_,G_⟩;have W:=O hc;have HD:=O M;have F:=O IH;have A:=h.lt;generalize nU m (mN n) d l ⟨b,0,0⟩=c at*;go_in;go_wp2;go_loopg [5,8] (aA l) (λgk _ i wr=>s6 y r x m n d w l c gk i wr);case atStart=>exact Q
 case round=>
  obtain⟨k,s,P,rfl,o,z,v,C⟩:=hrel;have H:=O o;have U:=O z;by_cases t:k<aA l
  .obtain⟨j,rfl⟩:∃j,gk=j+1:=⟨gk-1,Z⟩;have ⟨u,hu,hn⟩:=W k t;obtain⟨T,S,rfl⟩:=hn.form;have hcell:=(o.rP.cell (p:=(aJ g k)) K).trans hu;have hgr:=ef (Nat.lt_trans (ef K A.2) A.1) o.rP.size;have hdk:=(List.getElem_cons_drop t).symm;have D:=HD l[k] (ga t);rw[hdk]at v C;simp only[fi,fu]at C;generalize l[k]=a at*;have HX:=O (F (dA T (.agg S)) a s wr z (hn.below o.rP) D Z);have q:=gZ m (mN n) d a ⟨s,0,0⟩;have HADD:=O q;have f:c=nU m (mN n) d (l.drop (k+1)) (aR m (mN n) d a ⟨s,0,0⟩):=v;have J:=O f;have ab:=O C;clear o z hn hu hdk v f q C;generalize aR m (mN n) d a ⟨s,0,0⟩=c1 at*;go_wp2_with fail;apply HX.mono;rintro e N ⟨I,⟨s1,rfl,rfl,L⟩|⟨E,rfl⟩⟩;rotate_left;.have aa:=O (H.trans I);have V:=O E;go_wp2_with fail;exact⟨i_,(by grind[gJ.fault,dz,tz.fold,tz.walk])⟩
   have G:Hid (s6 y r x m n d w l c j (Y ((k+1:Nat):Int)) N):=by grind[FB.trans,dz,s6,tq]
   go_wp2;go_roundg j;case measure=>exact Z
   case rel=>exact G
  have f:c=⟨s,0,0⟩:=by grind[List.drop_eq_nil_of_le]
  have J:=O f;go_wp2;go_end0;grind[gJ]
theorem M4(b c f:Nat)(d:List aC)(e:aU)(a:cU)(w:aL)(h:CK b c f d e w a):Calls prog 201 #[aW b,bR] w (gJ b c f d e w ⟨a,0,0⟩):=by
 go_in;go_wp2;go_loop [5,8] (λ_ i=>i=Y 0) (λ_ _=>0);case atStart=>rfl
 case round=>go_wp2;go_end0;grind[FB.refl,gJ]
theorem yE(a b f:Nat)(c:List aC)(e:aU)(d:Nat)(g:mZ a b f c e d):qL a b f c e d:=by grind[sy.get,M4,M3,qL,si]
def QH(b:List aC)(a:Bool)(d:Nat)(l:List aC)(s:bF):tq s (nU b a d l s) (l.map (cT d)).sum:=(by grind[tq.fold,gZ])
def CK.back(m:Nat)(s:m<=aA K){d:Option Addr}{e:Nat}(h:CK z M L H J I K)(f:I.heap[z]?=Wj (bM #[J,P_ d (aA K) e] 190))(i:I.ownsRow M 9 1 (P_ d (aA K) e) (aA K) (jR K)):FB z M I (I.setCell (aJ z 1) (P_ d m e))/\CK z M L H J (I.setCell (aJ z 1) (P_ d m e)) (K.take m):=by
 have ⟨hne,hhi⟩:(Value.slice d (aA K) e).ownBlock≠Wj z/\M<=z:=by grind[CK.n_]
 have p:(Value.slice d m e).ownBlock≠Wj z:=by cases d<;>exact hne
 obtain⟨x,c,u,-,-,t⟩:=qP i m s;have n:Below M I (I.setCell (aJ z 1) (P_ d m e)):=(dw _ _).setCell hhi _;have q:(I.setCell (aJ z 1) (P_ d m e)).heap[z]?=Wj (bM #[J,P_ d m e] 190):=by rw[aN f];rfl
 refine⟨⟨n,np,λk j=>ea ?_⟩,⟨P_ d m e,q,?_⟩,h.wa.j_ λk j=>n.block k j.2⟩;rw[sC q]at j;rw[sC f,<-j];cases d<;>rfl;grind[aX,eh]
theorem GA(o p q:Nat)(g:List aC)(i:aU)(d:Nat)(H:qL o p q g i d)(v:aU)(l:List aC)(e_:cU)(w:aL)(h:CK o p q g i w e_)(A:sy (si q p) w v l)(E:∀k∈l,fN d k)(t:aA e_+(l.map (cT d)).sum<=90000)(G:aA l<=90000):Calls prog 147 #[aW o,v] w (gJ o p q g i w {nU g (mN i) d l ⟨e_,0,0⟩with e_:=(nU g (mN i) d l ⟨e_,0,0⟩).e_.take (aA e_)}):=by
 obtain⟨P,S,rfl⟩:=A.slice;have M:=O (H _ l e_ w h A E t G);have j:=QH g (mN i) d l ⟨e_,0,0⟩;have HADD:=O j;obtain⟨Q,T,n,K,C,z,-⟩:=h.cut;have ⟨hlt,c0,c1,f1⟩:=mX n;generalize nU g (mN i) d l ⟨e_,0,0⟩=c at*;go_in;go_wp;apply M.mono;rintro e N ⟨m,⟨I,rfl,rfl,b⟩|⟨r,rfl⟩⟩;rotate_left;.have u:=O m;have F:=O r;go_wp;exact⟨i_,(by grind[gJ])⟩
 have ⟨x,hx1,hx2⟩:=HADD.out;have B:=hx1;have y:aA e_<=aA I:=G_;obtain⟨L,J,a,D,s,f,-⟩:=b.cut;have HFIN:=O (b.back (aA e_) y a f);have u:=O m;have ⟨hlt,c0,c1,f1⟩:=mX a;go_wp2;go_end0;grind[FB.trans,dz,gJ]
def vo.y_{F:bI}(h:vo F I J H):∀f∈H,1<=aA f.y_:=by grind[vo.cells,List.mem_iff_getElem,MD]
def s9(b:∀f∈H,1<=aA f.y_)(x:bS):gO H false x=match qA H x with|some n=>(n:Int)|none=>-1:=by grind[gO,qA,dE]
def Z7(b:∀f∈H,aA f.y_<=90000){x:bS}{n:Nat}(h:qA H x=Wj n):n<=90000:=by unfold qA at h;split at h;grind;split at h;grind;cases c:dE H x with|none=>grind|some f=>grind[dE]
def K4(x:bS)(W:aL):Calls prog 178 #[Q_ (bs x)] W λe a=>e=bP (.tuple #[Y (1:Nat),.bool (x==[108,101,110])])/\cB W a:=by have hx:=bA x;all_goals go_in;go_wp2;exact bodyPost_ret (v:=.tuple #[Y (1:Nat),.bool _]) (by simp[results,results178]) rfl ⟨rfl,dw _ _⟩
def W5(X N S:Nat)(m:List aC)(p:aU)(af:aA m<=90000)(G:∀f∈m,aA f.y_<=90000)(d:Nat)(HN:qL X N S m p d)(c:aC)(v:aU)(b:cU)(w:aL)(h:CK X N S m p w b)(U:sy (si S N) w v c.y_)(hd:∀k∈c.y_,fN d k)(aa:aA b+(c.y_.map (cT d)).sum<=90000)(M:aA c.y_<=90000):Calls prog 233 #[aW X,.agg #[Y c.l_,Q_ (bs c.x_),v]] w (gJ X N S m p w (nU m (mN p) d c.y_ (fX m (mN p) ⟨b,0,0⟩ c))):=by
 obtain⟨q,t,rfl⟩:=U.slice;have y:=h.lt;have F:cB w (dZ w #[Y c.l_,Q_ (bs c.x_),P_ q (aA c.y_) t] 342):=(by grind[eo,dw]);have T:=h.grow F;have E:=O F;have H:Hid ((dZ w #[Y c.l_,Q_ (bs c.x_),P_ q (aA c.y_) t] 342).heap[H_ w]?=Wj (bM #[Y c.l_,Q_ (bs c.x_),P_ q (aA c.y_) t] 342)):=aS _ _ i_ _;obtain⟨sx,sc,C,ah,ac,I,-⟩:=T.cut;have ⟨hlt,c0,c1,f1⟩:=mX C;have ⟨P,V,hPK,hWP,hPL⟩:∃(P:Option Nat) (V:Nat),(∀n,P=Wj n->V=n/\n<=90000)/\gO m (mN p) c.x_=(match P with|some n=>(n:Int)|none=>-1)/\((∃B z,p=FV (.slice B (aA m) z)/\Hid (Calls prog 87 #[.slice B (aA m) z,.string (bs c.x_)] (dZ w #[Y c.l_,.string (bs c.x_),.slice q (aA c.y_) t] 342).drew λe w'=>e=bP (.tuple #[Y (V:Nat),.bool P.isSome])/\Below (dZ w #[Y c.l_,.string (bs c.x_),.slice q (aA c.y_) t] 342).drew.heap.size (dZ w #[Y c.l_,.string (bs c.x_),.slice q (aA c.y_) t] 342).drew w'))\/(p=wv/\Hid (Calls prog 178 #[.string (bs c.x_)] (dZ w #[Y c.l_,.string (bs c.x_),.slice q (aA c.y_) t] 342).drew λe w'=>e=bP (.tuple #[Y (V:Nat),.bool P.isSome])/\Below (dZ w #[Y c.l_,.string (bs c.x_),.slice q (aA c.y_) t] 342).drew.heap.size (dZ w #[Y c.l_,.string (bs c.x_),.slice q (aA c.y_) t] 342).drew w'))):=by
  rcases(T.grow (dw _ _).drew).wa with ⟨pv,rfl,Q⟩|⟨rfl,rfl⟩;obtain⟨B,z,rfl⟩:∃x c,pv=P_ x (aA m) c:=by grind[vo]
  exact⟨qA m c.x_,_,λn hn=>⟨G_,Z7 G hn⟩,s9 Q.y_ c.x_,ea ⟨B,z,rfl,KB m (si S N) (P_ B (aA m) z) c.x_ _ Z G Q⟩⟩;have M:=K4 c.x_ (dZ w #[Y c.l_,Q_ (bs c.x_),P_ q (aA c.y_) t] 342).drew;have L:gO [] (mN wv) c.x_=if c.x_==[108,101,110]then 1 else -1:=by grind[gO,dE,mN]
  rw[L];cases hx:(c.x_==[108,101,110])<;>rw[hx]at M;exact⟨none,1,s_,rfl,dv ⟨rfl,M⟩⟩;exact⟨Wj 1,1,s_,rfl,dv ⟨rfl,M⟩⟩
 have u:=O hWP;clear hWP;have H0:=O T;have HK:=O U;have ab:=O (λW (hb:cB w W)=>HN (P_ q (aA c.y_) t) c.y_ b W (h.grow hb) (U.below (hb.mono Z)) hd aa M);clear h U hd HN F T C I G;cases P with
 |none=>
  have A:Hid (fX m (mN p) ⟨b,0,0⟩ c=⟨b,6,c.l_⟩):=by rw[vB (W:=-1) u d_];rfl
  simp[Option.isSome_none]at hPL;rw[A];clear u A hPK;rcases hPL with ⟨B,z,rfl,o⟩|⟨rfl,o⟩;all_goals go_in;go_wp2;go_region_law (go_simp;(first|go_at_call 87|go_at_call 178);refine rB o λw1 g=>?_;have l:=O (E.trans ((dw _ _).drew.trans (g.mono s_)));have a:=O ((g.block (H_ w) s_).trans H);have m0:=aB a (i:=0) i_;have m1:=aB a (i:=1) i_;have m2:=aB a (i:=2) i_;have K:=aH a;clear g);all_goals go_wp;refine rB (xH c.l_ _) λw2 j=>?_;have s:=O (l.trans (j.mono l.size));clear j;go_wp2_with (go_at_call 88;refine rB (kT 6 c.l_ _) λw3 L=>?_;obtain rfl:=L.symm);exact⟨i_,gJ.fault (c1:=⟨b,6,c.l_⟩) (FB.q_ s y) s_ ((by grind[tz.fold,tz.walk]))⟩|some n=>
  simp[Option.isSome_some]at hPL;have ⟨hkn,hn⟩:=hPK n rfl;rw[hkn]at hPL;clear hkn;by_cases he:n=aA c.y_
  .have A:Hid (fX m (mN p) ⟨b,0,0⟩ c=⟨b,0,0⟩):=by grind[dz,fX]
   rw[A];subst he;clear u A hPK;generalize nU m (mN p) d c.y_ ⟨b,0,0⟩=r at*;rcases hPL with ⟨B,z,rfl,o⟩|⟨rfl,o⟩;all_goals
    go_in;go_wp2;go_region_law (go_simp;(first|go_at_call 87|go_at_call 178);refine rB o λw1 g=>?_;have l:=O (E.trans ((dw _ _).drew.trans (g.mono s_)));have a:=O ((g.block (H_ w) s_).trans H);have m0:=aB a (i:=0) i_;have m1:=aB a (i:=1) i_;have m2:=aB a (i:=2) i_;have K:=aH a;clear g);all_goals
     go_wp;apply (ab _ l).mono;rintro e w2 ⟨j,⟨s2,rfl,rfl,D⟩|⟨J,rfl⟩⟩;.have s:=O ((FB.q_ l y).trans j);have ag:=O D;clear j D;go_wp2;go_end0;grind[dz,gJ]
     have s:=O ((FB.q_ l y).trans j);have ae:=O J;clear j J;go_wp;exact⟨i_,(by grind[dz,gJ])⟩
  have A:Hid (fX m (mN p) ⟨b,0,0⟩ c=⟨b,7,c.l_⟩):=by rw[yP (W:=n) u Z Z];rfl
  rw[A];have ad:((n:Int) !=(aA c.y_:Int))=true:=G_;clear u A hPK;rcases hPL with ⟨B,z,rfl,o⟩|⟨rfl,o⟩;all_goals go_in;go_wp2;go_region_law (go_simp;(first|go_at_call 87|go_at_call 178);refine rB o λw1 g=>?_;have l:=O (E.trans ((dw _ _).drew.trans (g.mono s_)));have a:=O ((g.block (H_ w) s_).trans H);have m0:=aB a (i:=0) i_;have m1:=aB a (i:=1) i_;have m2:=aB a (i:=2) i_;have K:=aH a;clear g);all_goals go_wp;refine rB (xH c.l_ _) λw2 j=>?_;have s:=O (l.trans (j.mono l.size));clear j;go_wp2_with (go_at_call 88;refine rB (kT 7 c.l_ _) λw3 L=>?_;obtain rfl:=L.symm);exact⟨i_,gJ.fault (c1:=⟨b,7,c.l_⟩) (FB.q_ s y) s_ ((by grind[tz.fold,tz.walk]))⟩
