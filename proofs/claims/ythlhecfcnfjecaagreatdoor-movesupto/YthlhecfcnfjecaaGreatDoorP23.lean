import Derived.Test.YthlhecfcnfjecaaGreatDoorP20
import Derived.Test.YthlhecfcnfjecaaGreatDoorP12
set_option linter.all false
set_option maxRecDepth 100000
set_option maxHeartbeats 0
open List renaming length->aA
open Go.World renaming alloc->i9,cell?->I_
open Option renaming some->Wy,none->Wz
open Bool renaming false->WD,true->W1
open Go renaming Calls->W_
open Go.Proofs.Tryz renaming prog->Xi
open Go.Value renaming slice->Xl,string->Xm,agg->Xn,pointer->Xo,iface->Xq
open Go.Obj renaming cells->Xt
namespace Go.Proofs.YthlhecfcnfjecaaGreatDoor
open Hs _root_.Go.Proofs.Tryz Go.RowKit
theorem FB.of_lt{a:Nat}{w b:aN}(h:R_ w b)(c:a<H_ w):FB a a w b:=(by grind[FB.p_])
def CV(fp:iJ)(F:bL)(w:aN)(xs:List Value)(code:List (Option aO)):Prop:=(aA xs)=aA code/\∀(i:Nat) o,code[i]?=Wy o->∃u,xs[i]?=Wy u/\(match o with|none=>u=.nilIface|some i=>lR fp F w u i)
theorem CV.h_{d:iJ}{F G:bL}{w w':aN}{c:List Value}{a:List (Option aO)}(h:CV d F w c a)(e:∀b,F b->w'.heap[b]?=w.heap[b]?)(g:∀b,F b->G b):CV d G w' c a:=⟨h.1,λi o f=>by grind[lR.h_,CV]⟩
def FZ(fp:iJ)(fb:Nat->Nat)(nms:cY)(F:bL)(w:aN)(fv:aX):Prop:=(nms=[]/\fv=bP)\/∃g cap,fv=Xl (Wy (aL g 0)) (aA nms) cap/\F g/\aA nms<=cap/\g<w.heap.size/\∀k (h:k<aA nms),I_ w (aL g k)=Wy (fp k)/\fp k=aY (fb k)/\F (fb k)/\∃x,w.heap[fb k]?=Wy (Xt #[Xm (bs nms[k]),x] 200)
theorem FZ.h_{c:iJ}{e:Nat->Nat}{a:cY}{F G:bL}{w w':aN}{d:aX}(h:FZ c e a F w d)(f:∀b,F b->w'.heap[b]?=w.heap[b]?)(i:∀b,F b->G b)(g:w.heap.size<=w'.heap.size):FZ c e a G w' d:=by grind[World.cell?_of_block,FZ]
structure CP(fp:iJ)(fb:Nat->Nat)(nms:cY)(cb:Nat)(F:bL)(w:aN)(code:List (Option aO))(e_:cY):Prop where
 i_:∃fv cv sp,w.heap[cb]?=Wy (Xt #[fv,cv,sp] 198)/\(∃xs,w.ownsRow (cb+1) 272 1 cv (aA code) xs/\CV fp F w xs code)/\gX F w sp e_/\FZ fp fb nms F w fv
 fix:∀k,F k->k<w.heap.size/\k≠cb/\lT cb w≠Wy k
section
variable {fp:iJ} {fb:Nat->Nat} {nms:cY} {cb:Nat} {F:bL} {w w':aN} {code:List (Option aO)} {e_:cY}
theorem CP.lt(h:CP fp fb nms cb F w code e_):cb<w.heap.size:=by grind[CP.i_]
def rQ{c a b:aX}(h:w.heap[cb]?=Wy (bO #[c,a,b] 198)):lT cb w=a.ownBlock:=by unfold lT;grind
theorem CP.grow(h:CP fp fb nms cb F w code e_)(c:R_ w w'):CP fp fb nms cb F w' code e_:=by have ⟨fv,cv,sp,h1,⟨xs,h2,h3⟩,h4,h5⟩:=h.i_;have hF:=λb a=>c.block b (h.fix b a).1;refine⟨⟨fv,cv,sp,lm,⟨xs,jZ h2 c,h3.h_ hF s_⟩,(by grind[gX.h_]),h5.h_ hF (s_) c.size⟩,λk d=>?_⟩;have ⟨e1,e2,e3⟩:=h.fix k d;grind[ef,lT]
def CP.new(h:CP fp fb nms cb F w code e_)(o:Obj):Loc cb cb w w.heap.size o (w.alloc o)/\CP fp fb nms cb F (w.alloc o) code e_:=by have a:=h.lt;have b:R_ w (w.alloc o):=(by grind[eo,dv]);refine⟨⟨FB.of_lt b a,aV _ _ aJ _,λe=>?_,Z⟩,h.grow b⟩;have ⟨fv,cv,sp,h1,⟨xs,h2,_⟩,_⟩:=h.i_;rw[JD (b.block cb a),rQ h1]at e;have:=eI h2 _ e;exact Z
def Ll:(prog.info? 272).map (λi=>(i.zero,i.size,i.bytes))=Wy (Wy .nilIface,1,16):=k_
def Qt(w:aN)(u:aX):∀j v,([u]:List Value)[j]?=Wy v->I_ (eF w #[u] 272) ((⟨H_ w,0,Wz⟩:Addr).add j)=Wy v:=by intro j v a;match j,a with|0,a=>simp at a;subst a;simp[Addr.add]|j+1,a=>simp at a
def Dy(fp:iJ)(F:bL)(w:aN)(u:aX):Option aO->Prop|none=>u=.nilIface|some i=>lR fp F w u i
def Dy.one{u:aX}{o:Option aO}(h:Dy fp F w u o):u.oneCell'=W1/\(u=.nilIface\/∃t z,u=Xq t z):=by cases o with|none=>rw[show u=.nilIface from h];exact⟨aJ,ea aJ⟩|some i=>obtain⟨t,z,rfl⟩:=lR.form h;exact⟨aJ,s_⟩
def Pu(a n:Nat)(C J A u:aX)(B:List Value)(w:aN)(g:w.heap[a]?=Wy (bO #[C,J,A] 198))(j:w.ownsRow (a+1) 272 1 J n B)(P:u.oneCell'=W1)(W:u=.nilIface\/∃t z,u=dI t z)(hn:n<=1000000):W_ Xi 151 #[aY a,u] w λe w'=>e=bR (Y n)/\∃f,w'.heap[a]?=Wy (bO #[C,f,A] 198)/\w'.ownsRow (a+1) 272 1 f (n+1) (B++[u])/\FB a a w w':=by
 have ⟨i0,hi,hz0,hz1,hz2⟩:=info_parts Ll;obtain⟨x,c,rfl⟩:=fV j;have H:=aH g;have c1:=aB (i:=1) g aJ;have F:=O j;have L:=O g;have y:∀v∈([u]:List Value),v.oneCell'=W1:=(by grind);have HONE:=O y;have p:∀o:aX,u=o->(o=.nilIface\/∃t z,o=dI t z)->W_ Xi 151 #[aY a,o] w λe w'=>e=bR (Y n)/\∃f,w'.heap[a]?=Wy (bO #[C,f,A] 198)/\w'.ownsRow (a+1) 272 1 f (n+1) (B++[o])/\FB a a w w':=by
  intro o e E;subst e;rcases E with rfl|⟨t,z,rfl⟩;all_goals
   go_in;go_wp2_with (at_builtin;refine wpList_append_lies _ r_ _ _ 196 r_ (a+1) 272 i0 _ 1 16 underlying196 hi hz0 hz1 hz2 rfl d_ (P_ x n c) n B r_ (F.alloc _) (aL (H_ w) 0) 1 1 [_] r_ r_ (Qt w _) HONE d_ lg Z la (H_ w+1) s_ ?_);intro M r I m d q T;have D:Wy a≠(Value.slice x n c).ownBlock:=λe=>by have:=(F.lt a e.symm).1;exact Z
   have b:I.heap[a]?=Wy (bO #[C,P_ x n c,A] 198):=by rw[d.block a la D,ed _ _ _ H];exact Z
   have S:=aB (i:=1) b aJ;have X:=aF b (i:=1);have G:M≠a:=by grind
   have HOWN:=O m;have K:=O d;have Q:=O q;have s:=O b;go_wp2;go_ret;refine⟨ll,P_ (Wy (aL M 0)) (n+1) r,aP s,bE HOWN λk l=>ej _ _ _ _ (by cases l;exact G),⟨?_,λk l V N=>?_,λk l=>?_⟩⟩;exact(((dv a w).alloc Z _).grown K la λk l=>by have:=(F.lt k l).1;exact Z).setCell (by exact fh a) _;rw[rQ L]at N;rw[ej _ _ _ _ V,K.block k la (G_),ed _ _ _ l];rw[rQ (aP s.out),rQ L]at*;cases l;grind
 exact p u aJ W
def CP.step{a:List (Option aO)}{i b d:aX}{xs':List Value}(h:CP fp fb nms cb F w code e_)(c:FB cb cb w w')(g:w'.heap[cb]?=Wy (Xt #[i,b,d] 198))(f:w'.ownsRow (cb+1) 272 1 b (aA a) xs')(q:CV fp F w' xs' a)(l:gX F w' d e_)(m:FZ fp fb nms F w' i):CP fp fb nms cb F w' a e_:=⟨G_,λk j=>by obtain⟨n,o,p⟩:=h.fix k j;refine⟨eh n c.sd.size,o,λe=>?_⟩;grind[FB.row]⟩
theorem CP.fixed(h:CP fp fb nms cb F w code e_)(a:FB cb cb w w'):∀b,F b->w'.heap[b]?=w.heap[b]?:=(by grind[CP.fix,FB.i_])
def xC{u:aX}{o:Option aO}(h:CP fp fb nms cb F w code e_)(d:Dy fp F w u o)(n:aA code<=1000000):W_ Xi 151 #[aY cb,u] w λe w'=>e=bR (Y (aA code))/\CP fp fb nms cb F w' (code++[o]) e_/\FB cb cb w w':=by
 have ⟨fv,cv,sp,h1,⟨xs,h2,h3⟩,h4,h5⟩:=h.i_;have ⟨o1,o2⟩:=d.one;apply (Pu cb (aA code) fv cv sp u xs w h1 h2 o1 o2 n).mono;rintro e w' ⟨p,l,k,q,a⟩;have c:=h.fixed a;refine⟨p,h.step a k (by rw[et];exact q) ?_ ((by grind[gX.h_])) (h5.h_ c (s_) a.sd.size),a⟩;have m:=h3.h_ c LR;refine⟨by simp[h3.1],λi r b=>?_⟩;rcases gw i (aA code) with g|g;grind[CV];rw[jb g]at b;have f:i-aA code=0:=by grind
 rw[f]at b;simp at b;subst b;refine⟨u,by grind[CV],?_⟩;cases o with|none=>exact d|some j=>exact lR.h_ d c s_
def YD(h:CP fp fb nms cb F w code e_)(g:aA e_<=1000000):W_ Xi 203 #[aY cb] w λe w'=>e=bR (Y (aA e_))/\w'=w:=by obtain⟨p,k,c,f,-,d,-⟩:=h.i_;have n:=aB (i:=2) f aJ;cases e_ with|nil=>obtain rfl:c=Xo Wz:=d;go_in;go_wp2;go_ret;simp|cons x l=>obtain⟨b,o,rfl,j,a,i⟩:=d;have m:=aB (i:=1) a aJ;simp at g;go_in;go_wp2;go_ret;simp
end
section
variable {fp:iJ} {fb:Nat->Nat} {nms:cY} {cb:Nat} {F:bL} {w w':aN} {code:List (Option aO)} {e_:cY}
def Ki(w:aN)(a n:Nat)(x:bQ)(p:Option Addr)(f:a<H_ w)(c:dR w a 2 (Xo p))(d:w.frozen? (aL a 2)=WD) (b:Hid (W_ Xi 203 #[aY a] w.drew λe w'=>e=bR (Y n)/\w'=w.drew)):W_ Xi 149 #[aY a,Q_ (bs x)] w λe w'=>e=fA/\bZ (eF (w.setCell (aL a 2) (aY (H_ w))) #[Q_ (bs x),Y n,Xo p] 293) w':=by go_in;go_wp2;go_region_law (go_simp;go_at_call 203;apply mJ b);all_goals go_wp2;go_end0;grind[bZ.drew]
def bZ.block{W a:aN}(h:bZ W a)(k:Nat):a.heap[k]?=W.heap[k]?:=by rw[h.heap]
def Z0(x:bQ)(h:CP fp fb nms cb F w code e_)(r:aA e_<=1000000):W_ Xi 149 #[aY cb,Q_ (bs x)] w λe w'=>e=fA/\CP fp fb nms cb (λk=>F k\/k=w.heap.size) w' code (x::e_)/\FB cb cb w w':=by
 have d:=h.lt;have ⟨fv,cv,sp,f,⟨xs,i,h3⟩,h4,h5⟩:=h.i_;obtain⟨p,rfl⟩:=h4.form;have l:=h.grow (bZ.drew w).below;apply (Ki w cb (aA e_) x p d (aB f aJ) (aF f) (YD l r)).mono;rintro e w' ⟨s,a⟩;generalize c:eF (w.setCell (aL cb 2) (aY w.heap.size)) #[Q_ (bs x),Y (aA e_),Xo p] 293=W at a;have t:∀k,k<w.heap.size->k≠cb->w'.heap[k]?=w.heap[k]?:=λk f i=>by rw[a.heap,<-c,ed _ _ _ (by simpa using f),ej _ _ _ _ i]
 have g:w'.heap[cb]?=Wy (bO #[fv,cv,aY w.heap.size] 198):=by rw[a.heap,<-c,ed _ _ _ rz];exact aP f
 have j:w'.heap[w.heap.size]?=Wy (bO #[Q_ (bs x),Y (aA e_),Xo p] 293):=by rw[a.heap,<-c];exact aV _ _ s_ _
 have o:w'.heap.size=w.heap.size+1:=by rw[a.heap,<-c];simp
 have m:lT cb w'=lT cb w:=by grind[lT]
 have u:∀b,F b->w'.heap[b]?=w.heap[b]?:=(by grind[CP.fix]);have q:=λk (e:cv.ownBlock=Wy k)=>i.lt k e;refine⟨s,⟨⟨fv,cv,_,g,⟨xs,(by grind[bE]),(by grind[CV.h_])⟩,(by grind[gX.h_,gX]),(by grind[FZ.h_])⟩,λk n=>?_⟩,⟨?_,G_,G_⟩⟩;grind[CP.fix,lT];refine⟨by rw[a.os,<-c];rfl,by rw[a.tape,<-c];rfl,by rw[a.output,<-c];rfl,Z,G_⟩
def Rd{x y:bQ}{l:cY}(h:y∈x::l)(a:x≠y):y∈l/\dP (x::l) y=dP l y:=by grind[dP]
def VM(a:bQ)(h:CP fp fb nms cb F w code e_)(n:a∈e_)(_hn:aA e_<=1000000):W_ Xi 252 #[aY cb,Xm (bs a)] w λe w'=>e=bR (Y (dP e_ a))/\w'=w:=by
 obtain⟨J,B,k,j,-,i,-⟩:=h.i_;have H:=aH j;have E:=aB (i:=2) j aJ;have C:Hid (gX F w k e_/\a∈e_):=⟨i,n⟩;obtain⟨p,rfl⟩:=i.form;clear h j i n;go_in;go_wp2;go_loopg [5] (aA e_) (λgk v wr=>∃l,aA l=gk/\gX F w v l/\a∈l/\dP l a=dP e_ a/\wr=w);case atStart=>grind[dw]
 case round=>
  obtain⟨l,t,u,d,g,rfl⟩:=hrel;cases l with|nil=>cases d|cons x l=>
   obtain⟨b,o,rfl,A,c,f⟩:=u;obtain⟨y,rfl⟩:=f.form;have G:=aB (i:=0) c aJ;have D:=aB (i:=1) c aJ;have z:=aB (i:=2) c aJ;have q:=aH c;by_cases m:x=a
   .subst m;have s:dP (x::l) x=aA l:=by rw[dP,ec rfl]
    rw[s]at g;clear c f d;go_wp2;go_ret;simp
   have ⟨q1,q2⟩:=Rd d m;have r:((bs x).toList==(bs a).toList)=WD:=by grind[bA]
   have I:=f;rw[q2]at g;clear c f d;go_wp2;go_roundg (aA l);case measure=>grind
   grind[dw]
def zF(a:bQ)(h:CP fp fb nms cb F w code e_)(v:a∈nms)(I:aA nms<=1000000):W_ Xi 92 #[aY cb,Xm (bs a)] w λe w'=>e=bR (fp (nms.findIdx λx=>x==a))/\w'=w:=by
 obtain⟨L,G,D,f,-,-,r⟩:=h.i_;rcases r with ⟨rfl,_⟩|⟨g,k,rfl,A,n,B,b⟩;cases v;have H:=aH f;have M:=aB (i:=0) f aJ;have o:=O b;clear h f b;go_in;go_wp2;go_loopg [6,12] (aA nms) (λgk _ i wr=>∃j:Nat,j+gk=aA nms/\i=Y j/\j<=nms.findIdx (λx=>x==a)/\wr=w);case atStart=>simp
 case round=>
  obtain⟨j,K,rfl,z,rfl⟩:=hrel;have C:nms.findIdx (λx=>x==a)<aA nms:=(by grind);have d:j<aA nms:=Z;obtain⟨m,rfl⟩:∃m,gk=m+1:=⟨gk-1,Z⟩;have ⟨e1,e2,e3,x,e4⟩:=o j d;rw[e2]at e1;have t:=aB (i:=0) e4 aJ;have p:=aH e4;have J:(0:Int)<=(j:Int):=Z;have E:(j:Int)<(aA nms:Int):=Z;by_cases u:nms[j]=a
  .have l:nms.findIdx (λx=>x==a)=j:=by grind
   have s:=O e2;rw[u]at t;clear e4 e2 o;go_wp2;go_ret;exact⟨by rw[l,s.out];rfl,rfl⟩
  have q:((bs nms[j]).toList==(bs a).toList)=WD:=by grind[bA]
  have c:j+1<=nms.findIdx (λx=>x==a):=by grind
  generalize nms[j]=y at*;clear e4 e2;go_wp2;go_roundg m;case measure=>exact Z
  case rel=>exact⟨j+1,Z,ll,c,rfl⟩
end
def yU(w:aN)(a:Nat)(l k:Int)(P:lA) (b:Hid (W_ Xi 151 #[aY a,Xq 267 (Xn #[Xq 263 (Y k)])] (i9 w (Xt #[Y l,Y k] 367)) λe w'=>(∃k:Nat,e=bR (Y k))/\P w')):W_ Xi 235 #[aY a,Xq 367 (Xn #[Y l,Y k])] w λe w'=>e=fA/\P w':=by go_in;go_wp;apply b.mono;rintro e c ⟨⟨m,rfl⟩,d⟩;go_wp2;go_end0;grind
def NC(w:aN)(a:Nat)(l:Int)(s:ByteArray)(P:lA) (b:Hid (W_ Xi 151 #[aY a,Xq 267 (Xn #[Xq 323 (Xm s)])] (i9 w (Xt #[Y l,Xm s] 396)) λe w'=>(∃k:Nat,e=bR (Y k))/\P w')):W_ Xi 235 #[aY a,Xq 396 (Xn #[Y l,Xm s])] w λe w'=>e=fA/\P w':=by go_in;go_wp;apply b.mono;rintro e c ⟨⟨m,rfl⟩,d⟩;go_wp2;go_end0;grind
def YP(w:aN)(a:Nat)(l:Int)(b:Bool)(P:lA) (c:Hid (W_ Xi 151 #[aY a,Xq 267 (Xn #[Xq 321 (.bool b)])] (i9 w (Xt #[Y l,.bool b] 398)) λe w'=>(∃k:Nat,e=bR (Y k))/\P w')):W_ Xi 235 #[aY a,Xq 398 (Xn #[Y l,.bool b])] w λe w'=>e=fA/\P w':=by go_in;go_wp;apply c.mono;rintro e d ⟨⟨m,rfl⟩,f⟩;go_wp2;go_end0;grind
def GH(w:aN)(a:Nat)(l:Int)(s:ByteArray)(k:Nat)(P:lA) (c:Hid (W_ Xi 252 #[aY a,Xm s] (i9 w (Xt #[Y l,Xm s] 346)) λe w'=>e=bR (Y k)/\w'=i9 w (Xt #[Y l,Xm s] 346))) (b:Hid (W_ Xi 151 #[aY a,Xq 399 (Xn #[Y k])] (i9 w (Xt #[Y l,Xm s] 346)) λe w'=>(∃k:Nat,e=bR (Y k))/\P w')):W_ Xi 235 #[aY a,Xq 346 (Xn #[Y l,Xm s])] w λe w'=>e=fA/\P w':=by go_in;go_wp;apply mJ c;go_wp21;apply b.mono;rintro e f ⟨⟨m,rfl⟩,d⟩;go_wp2;go_end0;grind
def YO(w:aN)(d n c:Nat)(l:Int)(x:Option Addr)(P Q:lA) (i:Hid (W_ Xi 251 #[aY d,Xl x n c] (i9 w (Xt #[Y l,Xl x n c] 348)) λe w'=>e=fA/\Q w')) (f:Hid (∀W,Q W->I_ W (aL (H_ w) 1)=Wy (Xl x n c)/\H_ w<H_ W)) (g:Hid (∀W,Q W->W_ Xi 151 #[aY d,Xq 401 (Xn #[Y n])] W λe w'=>(∃k:Nat,e=bR (Y k))/\P w')):W_ Xi 235 #[aY d,Xq 348 (Xn #[Y l,Xl x n c])] w λe w'=>e=fA/\P w':=by go_in;go_wp;refine sa i λj b=>?_;obtain⟨o,q⟩:=f _ b;have a:=O (g _ b);clear b;go_wp21;apply a.mono;rintro e r ⟨⟨m,rfl⟩,p⟩;go_wp2;go_end0;grind
def SS(w:aN)(c:Nat)(l:Int)(j a:TypeId)(f b:aX)(P Q R:lA) (r:Hid (W_ Xi 235 #[aY c,Xq j f] (i9 w (Xt #[Y l,Xq j f,Xq a b] 350)) λe w'=>e=fA/\Q w')) (o:Hid (∀W,Q W->I_ W (aL (H_ w) 2)=Wy (Xq a b)/\H_ w<H_ W)) (p:Hid (∀W,Q W->W_ Xi 235 #[aY c,Xq a b] W λe w'=>e=fA/\R w')) (q:Hid (∀W,R W->W_ Xi 151 #[aY c,Xq 402 (Xn #[])] W λe w'=>(∃k:Nat,e=bR (Y k))/\P w')):W_ Xi 235 #[aY c,Xq 350 (Xn #[Y l,Xq j f,Xq a b])] w λe w'=>e=fA/\P w':=by go_in;go_wp;refine sa r λs g=>?_;obtain⟨t,v⟩:=o _ g;have i:=O (p _ g);clear g;go_wp21;refine sa i λy n=>?_;have d:=O (q _ n);clear n;go_wp21;apply d.mono;rintro e u ⟨⟨m,rfl⟩,x⟩;go_wp2;go_end0;grind
def SR(w:aN)(f:Nat)(l:Int)(a:ByteArray)(g:TypeId)(c:aX)(P Q:lA) (n:Hid (W_ Xi 235 #[aY f,Xq g c] (i9 w (Xt #[Y l,Xm a,Xq g c] 352)) λe w'=>e=fA/\Q w')) (i:Hid (∀W,Q W->I_ W (aL (H_ w) 1)=Wy (Xm a)/\H_ w<H_ W)) (j:Hid (∀W,Q W->W_ Xi 151 #[aY f,Xq 404 (Xn #[Xm a])] W λe w'=>(∃k:Nat,e=bR (Y k))/\P w')):W_ Xi 235 #[aY f,Xq 352 (Xn #[Y l,Xm a,Xq g c])] w λe w'=>e=fA/\P w':=by go_in;go_wp;refine sa n λo d=>?_;obtain⟨p,r⟩:=i _ d;have b:=O (j _ d);clear d;go_wp21;apply b.mono;rintro e q ⟨⟨m,rfl⟩,s⟩;go_wp2;go_end0;grind
def yV(w:aN)(g:Nat)(l:Int)(a:ByteArray)(d b:TypeId)(f c:aX)(P:lA) (i:Hid (W_ Xi 280 #[aY g,Xn #[Y l,Xm a,Xq d f,Xq b c]] (i9 w (Xt #[Y l,Xm a,Xq d f,Xq b c] 354)) λe w'=>e=fA/\P w')):W_ Xi 235 #[aY g,Xq 354 (Xn #[Y l,Xm a,Xq d f,Xq b c])] w λe w'=>e=fA/\P w':=by go_in;go_wp;refine sa i λj k=>?_;go_wp2;go_end0;grind
def xB(w:aN)(a n c:Nat)(l:Int)(s:ByteArray)(x:Option Addr)(P:lA) (b:Hid (W_ Xi 255 #[aY a,Xn #[Y l,Xm s,Xl x n c]] (i9 w (Xt #[Y l,Xm s,Xl x n c] 343)) λe w'=>e=fA/\P w')):W_ Xi 235 #[aY a,Xq 343 (Xn #[Y l,Xm s,Xl x n c])] w λe w'=>e=fA/\P w':=by go_in;go_wp;refine sa b λd f=>?_;go_wp2;go_end0;grind
def UF{Z_:Prop}(Y_:Z_:=by
 obtain⟨j,hj,rfl,hC⟩:=hrel;by_cases hlt:j<n
 .obtain⟨m,rfl⟩:∃m,gk=m+1:=⟨gk-1,Z⟩;obtain⟨hg,t,z,c1,hcl⟩:=HC _ _ hC hlt;have HX:=O hcl;have e1:(0:Int)<=(j:Int):=Z;have e2:(j:Int)<(n:Int):=Z;clear hC hcl;go_wp2_with fail;refine sa HX λw1 h1=>?_;go_wp2;go_roundg m;case measure=>exact Z
  grind
 have hjn:j=n:=Z;subst hjn;have HC':=O hC;clear hC;go_wp2;go_end0;exact⟨aJ,HC'⟩):Z_:=Y_
def R8(w:aN)(c g n a:Nat)(C:Nat->World->Prop)(f:n<=1000000)(b:C 0 w) (HC:Hid (∀j W,C j W->j<n->g<H_ W/\∃t z,I_ W (aL g j)=Wy (Xq t z)/\W_ Xi 235 #[aY c,Xq t z] W λe w'=>e=fA/\C (j+1) w')):W_ Xi 251 #[aY c,Xl (Wy (aL g 0)) n a] w λe w'=>e=fA/\C n w':=by
 have d:=O b;clear b;go_in;go_wp2;go_loopg [5,8] n (λgk _ i wr=>∃j:Nat,j+gk=n/\i=Y j/\C j wr);case atStart=>grind[dw]
 case round=>exact UF
def Mq(w:aN)(a:Nat):W_ Xi 251 #[aY a,bP] w λe w'=>e=fA/\w'=w:=by
 go_in;go_wp2;go_loopg [5,8] 0 (λ_ _ i wr=>i=Y 0/\wr=w);case atStart=>simp
 case round=>go_wp2;go_end0;simp
def A4(w:aN)(d n c:Nat)(l:Int)(x:Option Addr)(P Q:lA) (i:Hid (W_ Xi 251 #[aY d,Xl x n c] (i9 w (Xt #[Y l,Xm (bs [108,101,110]),Xl x n c] 343)) λe w'=>e=fA/\Q w')) (f:Hid (∀W,Q W->I_ W (aL (H_ w) 1)=Wy (Xm (bs [108,101,110]))/\H_ w<H_ W)) (g:Hid (∀W,Q W->W_ Xi 151 #[aY d,Xq 411 (Xn #[])] W λe w'=>(∃k:Nat,e=bR (Y k))/\P w')):W_ Xi 255 #[aY d,Xn #[Y l,Xm (bs [108,101,110]),Xl x n c]] w λe w'=>e=fA/\P w':=by
 have r:((bs [108,101,110]).toList==[108,101,110])=W1:=by rw[bA];rfl
 generalize bs [108,101,110]=t at*;go_in;go_wp;refine sa i λj b=>?_;obtain⟨o,q⟩:=f _ b;have a:=O (g _ b);clear b;go_wp21;apply a.mono;rintro e s ⟨⟨m,rfl⟩,p⟩;go_wp2;go_end0;grind
def QB(w:aN)(d n c:Nat)(l:Int)(x:Option Addr)(P Q:lA) (i:Hid (W_ Xi 251 #[aY d,Xl x n c] (i9 w (Xt #[Y l,Xm (bs [114,101,97,100]),Xl x n c] 343)) λe w'=>e=fA/\Q w')) (f:Hid (∀W,Q W->I_ W (aL (H_ w) 1)=Wy (Xm (bs [114,101,97,100]))/\H_ w<H_ W)) (g:Hid (∀W,Q W->W_ Xi 151 #[aY d,Xq 412 (Xn #[])] W λe w'=>(∃k:Nat,e=bR (Y k))/\P w')):W_ Xi 255 #[aY d,Xn #[Y l,Xm (bs [114,101,97,100]),Xl x n c]] w λe w'=>e=fA/\P w':=by
 have s:((bs [114,101,97,100]).toList==[108,101,110])=WD:=by rw[bA];rfl
 have q:((bs [114,101,97,100]).toList==[114,101,97,100])=W1:=by rw[bA];rfl
 generalize bs [114,101,97,100]=u at*;go_in;go_wp;refine sa i λj b=>?_;obtain⟨o,r⟩:=f _ b;have a:=O (g _ b);clear b;go_wp21;apply a.mono;rintro e t ⟨⟨m,rfl⟩,p⟩;go_wp2;go_end0;grind
def LB(w:aN)(f n c i:Nat)(l:Int)(a:bQ)(x:Option Addr)(P Q:lA)(d:a≠[108,101,110])(j:a≠[114,101,97,100]) (r:Hid (W_ Xi 251 #[aY f,Xl x n c] (i9 w (Xt #[Y l,Xm (bs a),Xl x n c] 343)) λe w'=>e=fA/\Q w')) (p:Hid (∀W,Q W->I_ W (aL (H_ w) 1)=Wy (Xm (bs a))/\I_ W (aL (H_ w) 2)=Wy (Xl x n c)/\H_ w<H_ W)) (o:Hid (∀W b,Q W->bZ W b->W_ Xi 92 #[aY f,Xm (bs a)] b λe w'=>e=bR (aY i)/\w'=b)) (q:Hid (∀W b,Q W->bZ W b->W_ Xi 151 #[aY f,Xq 414 (Xn #[aY i,Y n])] b λe w'=>(∃k:Nat,e=bR (Y k))/\P w')):W_ Xi 255 #[aY f,Xn #[Y l,Xm (bs a),Xl x n c]] w λe w'=>e=fA/\P w':=by
 have B:((bs a).toList==[108,101,110])=WD:=by grind[bA]
 have y:((bs a).toList==[114,101,97,100])=WD:=by grind[bA]
 clear d j;go_in;go_wp;refine sa r λs d=>?_;obtain⟨t,z,v⟩:=p _ d;have g:=O d;clear d;go_wp2;go_region_law (go_simp;first|(go_at_call 92;apply mJ (o _ _ g (bZ.drew _)))|(go_at_call 151;apply (q _ _ g (bZ.drew _)).mono;rintro e u ⟨⟨m,rfl⟩,A⟩));all_goals go_wp2;go_end0;grind
def TK(w:aN)(g:Nat)(l:Int)(a:bQ)(o d:TypeId)(j f:aX)(P Q R:lA)(c:a≠[38,38])(b:a≠[124,124]) (u:Hid (W_ Xi 235 #[aY g,Xq o j] (i9 w (Xt #[Y l,Xm (bs a),Xq o j,Xq d f] 354)) λe w'=>e=fA/\Q w')) (q:Hid (∀W,Q W->I_ W (aL (H_ w) 1)=Wy (Xm (bs a))/\I_ W (aL (H_ w) 3)=Wy (Xq d f)/\H_ w<H_ W)) (r:Hid (∀W,Q W->W_ Xi 235 #[aY g,Xq d f] W λe w'=>e=fA/\R w')) (p:Hid (∀W,R W->I_ W (aL (H_ w) 1)=Wy (Xm (bs a))/\H_ w<H_ W)) (t:Hid (∀W,R W->W_ Xi 151 #[aY g,Xq 433 (Xn #[Xm (bs a)])] W λe w'=>(∃k:Nat,e=bR (Y k))/\P w')):W_ Xi 280 #[aY g,Xn #[Y l,Xm (bs a),Xq o j,Xq d f]] w λe w'=>e=fA/\P w':=by
 have C:((bs a).toList==[38,38])=WD:=by grind[bA]
 have A:((bs a).toList==[124,124])=WD:=by grind[bA]
 clear c b;generalize bs a=ob at*;go_in;go_wp;refine sa u λv c=>?_;obtain⟨x,B,z⟩:=q _ c;have n:=O (r _ c);clear c;go_wp21;refine sa n λD b=>?_;have ⟨d1,d2⟩:=p _ b;have i:=O (t _ b);clear b;go_wp21;apply i.mono;rintro e y ⟨⟨m,rfl⟩,s⟩;go_wp21;exact⟨aJ,_,results_none r_ _ _ _,rfl,s⟩
def TJ(w:aN)(a k:Nat)(l:Int)(b:Bool)(d:bQ)(v i:TypeId)(r j:aX)(P Q y R S:lA)(q:d=if b then [124,124]else [38,38]) (E:Hid (W_ Xi 235 #[aY a,Xq v r] (i9 w (Xt #[Y l,Xm (bs d),Xq v r,Xq i j] 354)) λe w'=>e=fA/\Q w')) (A:Hid (∀W,Q W->I_ W (aL (H_ w) 1)=Wy (Xm (bs d))/\H_ w<H_ W)) (G:Hid (∀W,Q W->W_ Xi 151 #[aY a,.nilIface] W λe w'=>e=bR (Y k)/\y w')) (x:Hid (∀W,y W->I_ W (aL (H_ w) 3)=Wy (Xq i j)/\H_ w<H_ W)) (F:Hid (∀W,y W->W_ Xi 235 #[aY a,Xq i j] W λe w'=>e=fA/\R w')) (I:Hid (∀W,R W->W_ Xi 151 #[aY a,Xq 434 (Xn #[])] W λe w'=>(∃k:Nat,e=bR (Y k))/\S w')) (f:Hid (∀W,S W->I_ W (aL (H_ w) 1)=Wy (Xm (bs d))/\H_ w<H_ W/\a<H_ W/\∃g n c,I_ W (aL a 1)=Wy (Xl (Wy (aL g 0)) n c)/\k<n/\n<=1000000/\(∃u,I_ W (aL g k)=Wy u)/\W.frozen? (aL g k)=WD/\g<H_ W/\∀D,bZ (W.setCell (aL g k) (Xq 436 (Xn #[.bool b,Y n]))) D->P D)):W_ Xi 280 #[aY a,Xn #[Y l,Xm (bs d),Xq v r,Xq i j]] w λe w'=>e=fA/\P w':=by have H:∃ob:ByteArray,ob=bs d/\(ob.toList==[38,38])=!b/\(ob.toList==[124,124])=b:=(by grind[bA]);have ⟨ob,ho,e1,e2⟩:=H;rw[<-ho]at E A f⊢;clear ho q;cases b;all_goals simp[Bool.not_true,Bool.not_false]at e1;go_in;go_wp;refine sa E λK s=>?_;obtain⟨L,V⟩:=A _ s;have z:=O (G _ s);clear s;go_wp21;refine sa z λw2 p=>?_;have ⟨d1,d2⟩:=x _ p;have t:=O (F _ p);clear p;go_wp21;refine sa t λM C=>?_;have o:=O (I _ C);clear C;go_wp21;apply o.mono;rintro e J ⟨⟨m,rfl⟩,B⟩;have ⟨f1,f2,f3,g,n,c,f4,f5,f6,⟨u,f7⟩,f8,f9,f10⟩:=f _ B;have T:=O f10;have X:(0:Int)<=(k:Int):=Z;have N:(k:Int)<(n:Int):=Z;clear B f10;go_wp2;go_region;all_goals go_wp2;go_end0;grind[dw,bZ.drew]
theorem sK(c:aC->Nat->List aO):∀(l m:List aC) (p:Nat),bC c (l++m) p=bC c l p++bC c m (p+aA (bC c l p))|[],m,p=>by simp[bC]|a::l,m,p=>by rw[ip,bC,bC,sK c l m,gz,et,Nat.add_assoc]
def JB(c:aC->Nat->List aO)(a:aC)(p:Nat):bC c [a] p=c a p:=by simp[bC]
def VS(c:aC->Nat->List aO)(a b:aC)(p:Nat):bC c [a,b] p=c a p++c b (p+aA (c a p)):=by simp[bC]
section
variable (fs:List aC) (e_:cY) (d:Nat) (a:aC) (p:Nat)
def Jr(h:a.op=[48]):aG fs e_ (d+1) a p=[.push (bB (((dS 0 a.x_).getD 0:Nat):Int))]:=by rw[aG];simp[h]
def Mb(h:a.op=[115]):aG fs e_ (d+1) a p=[.push (bS a.x_)]:=by rw[aG];simp[h]
def S4(h:a.op=[98,111,111,108]):aG fs e_ (d+1) a p=[.push (cG (a.x_==[116,114,117,101]))]:=by rw[aG];simp[h]
def Kl(h:a.op=[110,97,109,101]):aG fs e_ (d+1) a p=[.load (dP e_ a.x_)]:=by rw[aG];simp[h]
def S0(h:a.op=[108,105,115,116]):aG fs e_ (d+1) a p=bC (aG fs e_ d) a.y_ p++[.list (aA a.y_)]:=by rw[aG];simp[h]
def YN(h:a.op=[105,110,100,101,120]):aG fs e_ (d+1) a p=bC (aG fs e_ d) a.y_ p++[.index]:=by rw[aG];simp[h]
def YL(o:UInt8)(b:o=45\/o=33)(h:a.op=[o,120]):aG fs e_ (d+1) a p=bC (aG fs e_ d) a.y_ p++[.unary [o]]:=by grind[aG]
def KQ(h:a.op=[99,97,108,108]):aG fs e_ (d+1) a p=bC (aG fs e_ d) a.y_ p++[if a.x_==[108,101,110]then .length else if a.x_==[114,101,97,100]then .read else .call (dW fs a.x_) (aA a.y_)]:=by rw[aG];simp[h]
def YM(b:Bool)(l r:aC)(h:a.op=if b then [124,124]else [38,38])(c:a.y_=[l,r]):aG fs e_ (d+1) a p=aG fs e_ d l p++[.sw b (p+aA (aG fs e_ d l p)+1+aA (aG fs e_ d r (p+aA (aG fs e_ d l p)+1))+1)]++aG fs e_ d r (p+aA (aG fs e_ d l p)+1)++[.ue]:=by rw[aG];cases b<;>simp[h,c]
def SQ(h:cU a.op≠9)(b:a.op≠[38,38])(c:a.op≠[124,124]):aG fs e_ (d+1) a p=bC (aG fs e_ d) a.y_ p++[.binary a.op]:=by rcases oR h with e|e|e|e|e|e|e|e|e|e|e;all_goals first|exact ep e c|exact ep e b|(rw[aG];simp[e])
end
def NU:∀(l:bQ) (n k:Nat),n<=9223372036854775807->dS n l=Wy k->k<=9223372036854775807|[],n,k,a,h=>by grind[dS]|c::r,n,k,a,h=>by rw[dS]at h;split at h;cases h;refine NU r _ k ?_ h;grind[UInt8.toNat_lt,qZ]
section
variable {fp:iJ} {fb:Nat->Nat} {nms:cY} {cb:Nat} {F:bL} {w w':aN} {code:List (Option aO)} {e_:cY}
def CP.patch{a b:List (Option aO)}(h:CP fp fb nms cb F w (a++Wz::b) e_):∃g c,I_ w (aL cb 1)=Wy (Xl (Wy (aL g 0)) (aA (a++Wz::b)) c)/\(∃x,I_ w (aL g (aA a))=Wy x)/\w.frozen? (aL g (aA a))=WD/\g<H_ w/\∀u i e,lR fp F w u i->bZ (w.setCell (aL g (aA a)) u) e->CP fp fb nms cb F e (a++Wy i::b) e_/\FB cb cb w e:=by
 have ⟨fv,cv,sp,h1,⟨xs,h2,h3⟩,h4,h5⟩:=h.i_;have A:=h.lt;have J:aA (a++Wz::b)=aA a+aA b+1:=G_;rcases h2.2 with ⟨_,z⟩|⟨g,c,l,rfl,z,n,H,C,G,I⟩;exact Z;have y:=aH n;have m:∃x,l[aA a]?=Wy x:=⟨_,ff Z⟩;have ⟨x,hx⟩:=m;refine⟨g,c,aB h1 aJ,⟨x,aB n hx⟩,aF n,y,λu i e D f=>?_⟩;have q:∀k,k≠g->e.heap[k]?=w.heap[k]?:=λk q=>by rw[f.heap,ej _ _ _ _ q]
 have B:lT cb w=Wy g:=rQ h1;have p:e.heap[cb]?=_:=(q cb Z).trans h1;have d:FB cb cb w e:=⟨⟨f.os.trans aJ,f.tape.trans aJ,f.output.trans aJ,by rw[f.heap];simp,G_⟩,G_,(by grind[lT])⟩;have r:=h.fixed d;refine⟨h.step (xs':=xs.set (aA a) u) d p ⟨G_,dz ⟨g,c,l.setIfInBounds (aA a) u,s_,z,by rw[f.heap];exact aP n,G_,C,G_,?_⟩⟩ ?_ ((by grind[gX.h_])) (h5.h_ r (s_) d.sd.size),d⟩;grind[List.take_set];have v:=h3.h_ r LR;refine⟨G_,λj o s=>?_⟩;by_cases E:j=aA a;subst E;rw[jb (Z)]at s;simp at s;subst s;exact⟨u,G_,lR.h_ D r s_⟩;have t:(a++Wz::b)[j]?=Wy o:=by grind
 have ⟨u',e1,e2⟩:=v.2 j o t;grind
end
def iF(fp:iJ)(fb:Nat->Nat)(nms:cY)(cb:Nat)(F:bL)(w:aN)(code:List (Option aO))(e_:cY)(w':aN):Prop:=CP fp fb nms cb F w' code e_/\FB cb cb w w'
def LN(fp:iJ)(fb:Nat->Nat)(fs:List aC)(cb lo:Nat)(F:bL)(a_:Bool)(e_:cY)(d:Nat):Prop:=∀(v:aX) (a:aC) (code:List (Option aO)) (w:aN),CP fp fb (fs.map (·.x_)) cb F w code e_->PN (sm lo cb) w v a->Hs.si fs a_ e_ d a->sV d a->aA code+aA (aG fs e_ d a (aA code))<=1000000->W_ Xi 235 #[aY cb,v] w λe w'=>e=fA/\iF fp fb (fs.map (·.x_)) cb F w (code++(aG fs e_ d a (aA code)).map Wy) e_ w'
section
variable {fp:iJ} {fb:Nat->Nat} {fs:List aC} {cb lo:Nat} {F:bL} {a_:Bool} {e_:cY} {d:Nat}
theorem iF.then{w c d:aN}{b:cY}{a:List (Option aO)}(e:FB cb cb w c)(h:iF fp fb b cb F c a e_ d):iF fp fb b cb F w a e_ d:=⟨h.1,e.trans h.2⟩
def th.uq{F:bL}{w:aN}{v:aX}{l:List aC}(h:th F w v l):∃x c,v=Xl x (aA l) c:=by grind[th.get]
def si.op{g:List aC}{c:Bool}{b:cY}{d:Nat}{a:aC}(h:Hs.si g c b (d+1) a):(∀k∈a.y_,Hs.si g c b d k)/\(a.op=[110,97,109,101]->a.x_∈b)/\(a.op=[99,97,108,108]->a.x_=[108,101,110]\/a.x_=[114,101,97,100]\/(a.x_≠[108,101,110]/\a.x_≠[114,101,97,100]/\gD g (dW g a.x_)=Wy (aA a.y_))):=by rcases h with ⟨e,i⟩|⟨e,i,f⟩|⟨e,f⟩|⟨e,l,r,i,f,j⟩|⟨e,l,i,f⟩|⟨e,f,j⟩|⟨e,l,r,i,f,j⟩;grind;grind;grind;grind;grind;grind;grind[cU]
def xX(s:LN fp fb fs cb lo F a_ e_ d)(v:aX)(l:List aC)(b:List (Option aO))(w:aN)(h:CP fp fb (fs.map (·.x_)) cb F w b e_)(x:th (sm lo cb) w v l)(A:∀a∈l,Hs.si fs a_ e_ d a)(y:∀a∈l,sV d a)(r:aA l<=1000000)(B:aA b+aA (bC (aG fs e_ d) l (aA b))<=1000000):W_ Xi 251 #[aY cb,v] w λe w'=>e=fA/\iF fp fb (fs.map (·.x_)) cb F w (b++(bC (aG fs e_ d) l (aA b)).map Wy) e_ w':=by
 rcases x.get with ⟨rfl,rfl⟩|⟨g,c,rfl,n,f,i,z⟩;apply (Mq w cb).mono;grind[bC,FB.refl,iF];refine(R8 w cb g (aA l) c (λj W=>j<=aA l/\iF fp fb (fs.map (·.x_)) cb F w (b++(bC (aG fs e_ d) (l.take j) (aA b)).map Wy) e_ W) r (by grind[bC,FB.refl,iF]) λj W o m=>?_).mono ?_;have ⟨_,hcp,hfb⟩:=o;have ⟨u,hu,hn'⟩:=z j m;obtain⟨T,q,rfl⟩:=hn'.form;have htk:=hQ m;have t:bC (aG fs e_ d) (l.take (j+1)) (aA b)=bC (aG fs e_ d) (l.take j) (aA b)++aG fs e_ d l[j] (aA b+aA (bC (aG fs e_ d) (l.take j) (aA b))):=by rw[htk,sK,JB]
 have k:aA (bC (aG fs e_ d) (l.take (j+1)) (aA b))<=aA (bC (aG fs e_ d) l (aA b)):=by grind[List.take_append_drop,sK]
 refine⟨eh f hfb.sd.size,T,Xn q,by rw[hfb.sd.cell (p:=(aL g j)) n.2];exact hu,(s _ l[j] _ W hcp (hn'.below hfb.sd) (G_) (G_) ?_).mono ?_⟩;grind;grind[iF.then];simp
def uw{b:cY}{w W:aN}{a:List (Option aO)}{u:aX}{i:aO}(c:iF fp fb b cb F w a e_ W)(d:lR fp F W u i)(f:aA a+1<=1000000):W_ Xi 151 #[aY cb,u] W λe w'=>(∃k:Nat,e=bR (Y k))/\iF fp fb b cb F w (a++[Wy i]) e_ w':=by apply (xC (o:=Wy i) c.1 d Z).mono;grind[FB.trans,iF]
theorem KO(a:List aC)(x:bQ):(a.map (·.x_)).findIdx (λy=>y==x)=dW a x:=by unfold dW;induction a with|nil=>rfl|cons f a b=>grind
def rY(a:List (Option aO))(c:List aO):aA (a++c.map Wy)=aA a+aA c:=s_
def U9(IH:LN fp fb fs cb lo F a_ e_ d)(au:aA e_<=1000000)(bq:aA fs<=1000000)(bo:∀k,k<aA fs->fp k=aY (fb k)):LN fp fb fs cb lo F a_ e_ (d+1):=by
 intro v a f w h bf aj bb m;obtain⟨T,s,ps,rfl,bg,av⟩:=bf.parts;have ⟨hlit,hk1,hlik⟩:=bb;have z:=si.op aj;have ⟨hloc,hcp⟩:=h.new (bO s T)
 have t:∀p∈ps,vk.ok (sm lo cb) (i9 w (bO s T)) p:=λp M=>by
  rcases av p M with ⟨S,b,h2,h3⟩|⟨S,h2⟩
  .exact ea ⟨S,b,h2,h3.below hloc.fb.sd⟩
  exact dz ⟨S,th.below h2 hloc.fb.sd⟩
 have bp:∀{W:aN} {c:List (Option aO)},iF fp fb (fs.map (·.x_)) cb F (i9 w (bO s T)) c e_ W->W.heap[w.heap.size]?=Wy (bO s T):=λA=>(hloc.step A.2).i_
 have B:∀{c:List (Option aO)} {e:Ending} {W:aN},(e=fA/\iF fp fb (fs.map (·.x_)) cb F (i9 w (bO s T)) c e_ W)->(e=fA/\iF fp fb (fs.map (·.x_)) cb F w c e_ W):=λj=>⟨j.1,j.2.then hloc.fb⟩
 have u:iF fp fb (fs.map (·.x_)) cb F (i9 w (bO s T)) f e_ (i9 w (bO s T)):=⟨hcp,FB.refl _⟩
 have ag:∀{W:aN} {v:aX} {k:aC} {c:List (Option aO)},iF fp fb (fs.map (·.x_)) cb F (i9 w (bO s T)) c e_ W->vk.ok (sm lo cb) (i9 w (bO s T)) ⟨v,[k],W1⟩->Hs.si fs a_ e_ d k->sV d k->aA c+aA (aG fs e_ d k (aA c))<=1000000->
  W_ Xi 235 #[aY cb,v] W λe w'=>e=fA/\iF fp fb (fs.map (·.x_)) cb F (i9 w (bO s T)) (c++(aG fs e_ d k (aA c)).map Wy) e_ w':=λA M hx hl hn=>
  (IH _ _ _ _ A.1 (M.uu.below A.2.sd) hx hl hn).mono (by grind [iF.then,iF])
 have ac:∀{W:aN} {v:aX} {l:List aC} {c:List (Option aO)},iF fp fb (fs.map (·.x_)) cb F (i9 w (bO s T)) c e_ W->vk.ok (sm lo cb) (i9 w (bO s T)) ⟨v,l,WD⟩->(∀k∈l,Hs.si fs a_ e_ d k)->(∀k∈l,sV d k)->aA l<=1000000->aA c+aA (bC (aG fs e_ d) l (aA c))<=1000000->
  W_ Xi 251 #[aY cb,v] W λe w'=>e=fA/\iF fp fb (fs.map (·.x_)) cb F (i9 w (bO s T)) (c++(bC (aG fs e_ d) l (aA c)).map Wy) e_ w':=λA M hx hl bc hn=>
  (xX IH _ _ _ _ A.1 (M.many.below A.2.sd) hx hl bc hn).mono (by grind [iF.then,iF])
 rcases bg with ⟨rfl,k,rfl,q,ai,r,rfl⟩|⟨rfl,rfl,q,r,rfl⟩|⟨rfl,rfl,q,r,rfl⟩|⟨rfl,sv,rfl,q,rfl⟩|⟨rfl,sv,rfl,q,rfl⟩|⟨rfl,rfl,q,r,rfl⟩|⟨rfl,l,v1,v2,X,a2,rfl,q,r,rfl⟩|⟨rfl,o,v1,X,rfl,aq,q,r,rfl⟩|⟨rfl,l,v1,v2,X,a2,rfl,q,r,rfl⟩|ap
 ·-- a number
  rw[Jr fs e_ d a _ q,ai]at m ⊢
  have hk:=NU _ _ _ Z ai;exact(yU w cb a.l_ k _ (uw (i:=.push (bB k)) u (by grind [PV.num,uQ,lR]) Z)).mono λ_ _=>B
 .rw[Mb fs e_ d a _ q]at m ⊢
  exact(NC w cb a.l_ _ _ (uw (i:=.push (bS a.x_)) u (by grind [PV.str,oI,lR,lB]) Z)).mono λ_ _=>B
 .rw[S4 fs e_ d a _ q]at m ⊢
  exact(YP w cb a.l_ _ _ (uw (i:=.push (cG (a.x_==[116,114,117,101]))) u (by grind [PV.yo,pR,lR]) Z)).mono λ_ _=>B
 ·-- a list
  rw[S0 fs e_ d a _ q]at m ⊢
  rw[et,ib]at m;have D:=z.1;have M:=t ⟨sv,a.y_,WD⟩ s_
  obtain⟨x,c,rfl⟩:=M.many.uq;apply (YO w cb (aA a.y_) c a.l_ x _ _ (ac u M D hlik hk1 Z) (λW j=>(by grind [aB])) λW j=>uw (i:=.list (aA a.y_)) j rfl G_).mono
  intro e W j;rw[ft,<-gz];exact B j
 ·-- a call
  rw[KQ fs e_ d a _ q]at m ⊢
  rw[et,ib]at m;have D:=z.1;have ah:=z.2.2 q;have M:=t ⟨sv,a.y_,WD⟩ s_
  obtain⟨x,c,rfl⟩:=M.many.uq;have ⟨hloc2,hcp2⟩:=hcp.new (bO #[Y a.l_,Q_ (bs a.x_),P_ x (aA a.y_) c] 343);generalize H:i9 w (bO #[Y a.l_,Q_ (bs a.x_),P_ x (aA a.y_) c] 343)=n at*;have ab:iF fp fb (fs.map (·.x_)) cb F n f e_ (i9 n (bO #[Y a.l_,Q_ (bs a.x_),P_ x (aA a.y_) c] 343)):=⟨hcp2,hloc2.fb⟩
  have hx:=ac ab M D hlik hk1 Z;have bj:∀{W:aN},FB cb cb (i9 n (bO #[Y a.l_,Q_ (bs a.x_),P_ x (aA a.y_) c] 343)) W->W.heap[n.heap.size]?=Wy (bO #[Y a.l_,Q_ (bs a.x_),P_ x (aA a.y_) c] 343):=λbd=>(hloc2.step bd).i_
  have G:W_ Xi 251 #[aY cb,P_ x (aA a.y_) c] (i9 n (bO #[Y a.l_,Q_ (bs a.x_),P_ x (aA a.y_) c] 343)) λe w'=>e=fA/\(iF fp fb (fs.map (·.x_)) cb F n (f++(bC (aG fs e_ d) a.y_ (aA f)).map Wy) e_ w'/\w'.heap[n.heap.size]?=Wy (bO #[Y a.l_,Q_ (bs a.x_),P_ x (aA a.y_) c] 343)):=by
   apply (xX IH _ _ _ _ hcp2 (M.many.below hloc2.fb.sd) D hlik hk1 Z).mono
   grind [iF.then,iF]
  have aa:∀{i:aO} {e:Ending} {W:aN},(e=fA/\iF fp fb (fs.map (·.x_)) cb F n ((f++(bC (aG fs e_ d) a.y_ (aA f)).map Wy)++[Wy i]) e_ W)->e=fA/\iF fp fb (fs.map (·.x_)) cb F w (f++(bC (aG fs e_ d) a.y_ (aA f)++[i]).map Wy) e_ W:=λj=>by rw[ft,<-gz];exact B j
  have ae:aA (f++(bC (aG fs e_ d) a.y_ (aA f)).map Wy)+1<=1000000:=G_
  rcases ah with ad|ad|⟨ay,az,bl⟩
  .rw[ad]at G H ⊢
   refine(xB w cb (aA a.y_) c a.l_ _ x (λW=>iF fp fb (fs.map (·.x_)) cb F n ((f++(bC (aG fs e_ d) a.y_ (aA f)).map Wy)++[Wy .length]) e_ W) (by rw[H];exact A4 n cb (aA a.y_) c a.l_ x _ _ G (λW j=>(by grind [aB])) λW j=>uw (i:=.length) j.1 rfl ae)).mono ?_
   intro e W j;exact aa j
  .rw[ad]at G H ⊢
   refine(xB w cb (aA a.y_) c a.l_ _ x (λW=>iF fp fb (fs.map (·.x_)) cb F n ((f++(bC (aG fs e_ d) a.y_ (aA f)).map Wy)++[Wy .read]) e_ W) (by rw[H];exact QB n cb (aA a.y_) c a.l_ x _ _ G (λW j=>(by grind [aB])) λW j=>uw (i:=.read) j.1 rfl ae)).mono ?_
   intro e W j;exact aa j
  have bn:dW fs a.x_<aA fs:=by grind [gD]
  have al:a.x_∈fs.map (·.x_):=by grind [dW]
  have e1:(a.x_==[108,101,110])=WD:=G_
  have e2:(a.x_==[114,101,97,100])=WD:=G_
  rw[e1,e2];refine(xB w cb (aA a.y_) c a.l_ _ x (λW=>iF fp fb (fs.map (·.x_)) cb F n ((f++(bC (aG fs e_ d) a.y_ (aA f)).map Wy)++[Wy (.call (dW fs a.x_) (aA a.y_))]) e_ W) ?_).mono ?_
  .rw[H];refine LB n cb (aA a.y_) c (fb (dW fs a.x_)) a.l_ a.x_ x _ _ ay az G (λW j=>(by grind [aB])) (λW W' j hS=>?_) (λW W' j hS=>?_)
   .apply (zF a.x_ (j.1.1.grow hS.below) al G_).mono
    grind [KO]
   have ba:iF fp fb (fs.map (·.x_)) cb F n (f++(bC (aG fs e_ d) a.y_ (aA f)).map Wy) e_ W':=(by grind [CP.grow,bZ.below,FB.trans,FB.of_lt,CP.lt,iF])
   exact uw (i:=.call (dW fs a.x_) (aA a.y_)) ba (by show _=_;grind) ae
  intro e W j;exact aa j
 ·-- a variable
  rw[Kl fs e_ d a _ q]at m ⊢
  have hm:=z.2.1 q;exact(GH w cb a.l_ _ (dP e_ a.x_) _ (VM a.x_ hcp hm au) (uw (i:=.load (dP e_ a.x_)) u aJ Z)).mono λ_ _=>B
 ·-- an index
  rw[YN fs e_ d a _ q,r,VS]at m ⊢
  rw[et,et,ib]at m;have D:=z.1;have E:=t ⟨v1,[X],W1⟩ s_
  have Q:=t ⟨v2,[a2],W1⟩ s_
  obtain⟨T1,K,rfl⟩:=E.uu.form;obtain⟨T2,L,rfl⟩:=Q.uu.form;apply (SS w cb l T1 T2 _ _ _ _ _ (ag u E (G_) (G_) Z) (λW j=>(by grind [aB])) (λW j=>ag j Q (G_) (G_) G_) λW j=>uw (i:=.index) j rfl G_).mono
  intro e W j;rw[rY]at j;rw[ft,ft,<-gz,<-gz];exact B j
 ·-- one operand
  rw[YL fs e_ d a _ o aq q,r,JB]at m ⊢
  rw[et,ib]at m;have D:=z.1;have E:=t ⟨v1,[X],W1⟩ s_
  obtain⟨T1,K,rfl⟩:=E.uu.form;apply (SR w cb a.l_ _ T1 _ _ _ (ag u E (G_) (G_) Z) (λW j=>(by grind [aB])) λW j=>uw (i:=.unary [o]) j rfl G_).mono
  intro e W j;rw[ft,<-gz];exact B j
 ·-- two operands
  have D:=z.1;have E:=t ⟨v1,[X],W1⟩ s_
  have Q:=t ⟨v2,[a2],W1⟩ s_
  obtain⟨T1,K,rfl⟩:=E.uu.form;obtain⟨T2,L,rfl⟩:=Q.uu.form;have ao:=D X (by rw[r];simp)
  have G:=D a2 (by rw[r];simp)
  have ak:=hlik X (by rw[r];simp)
  have am:=hlik a2 (by rw[r];simp)
  generalize I:(#[Y (l:Nat),Q_ (bs a.op),dI T1 (Xn K),dI T2 (Xn L)]:Array Value)=s at*;have ⟨hloc2,hcp2⟩:=hcp.new (bO s 354);have ab:iF fp fb (fs.map (·.x_)) cb F (i9 w (bO s 354)) f e_ (i9 (i9 w (bO s 354)) (bO s 354)):=⟨hcp2,hloc2.fb⟩
  generalize H:i9 w (bO s 354)=n at*
  have N:∀{W:aN} {v:aX} {k:aC} {c:List (Option aO)},(iF fp fb (fs.map (·.x_)) cb F n c e_ W/\Loc cb cb n n.heap.size (bO s 354) W)->vk.ok (sm lo cb) n ⟨v,[k],W1⟩->Hs.si fs a_ e_ d k->sV d k->aA c+aA (aG fs e_ d k (aA c))<=1000000->
   W_ Xi 235 #[aY cb,v] W λe w'=>e=fA/\(iF fp fb (fs.map (·.x_)) cb F n (c++(aG fs e_ d k (aA c)).map Wy) e_ w'/\Loc cb cb n n.heap.size (bO s 354) w'):=λA M hx hl hn=>
   (IH _ _ _ _ A.1.1 (M.uu.below A.1.2.sd) hx hl hn).mono (by grind [iF.then,Loc.step,iF])
  have af:∀{W:aN},Loc cb cb n n.heap.size (bO s 354) W->I_ W (aL n.heap.size 1)=Wy (Q_ (bs a.op))/\I_ W (aL n.heap.size 3)=Wy (dI T2 (Xn L))/\n.heap.size<W.heap.size:=(by grind [aB,Loc.i_])
  by_cases V:a.op=[38,38]\/a.op=[124,124]
  .have ⟨b,hb⟩:∃b:Bool,a.op=if b then [124,124]else [38,38]:=by
    rcases V with e|e
    .exact⟨WD,e⟩
    exact⟨W1,e⟩
   rw[YM fs e_ d a _ b X a2 hb r]at m ⊢
   generalize bi:aG fs e_ d X (aA f)=C at*;generalize bh:aG fs e_ d a2 (aA f+aA C+1)=P at*;simp[et,ib]at m
   have J:=TJ n cb (aA f+aA C) l b a.op T1 T2 (Xn K) (Xn L) (λW=>iF fp fb (fs.map (·.x_)) cb F n (f++C.map Wy++Wy (.sw b (aA f+aA C+1+aA P+1))::(P.map Wy++[Wy .ue])) e_ W)
    (λW=>iF fp fb (fs.map (·.x_)) cb F n (f++C.map Wy) e_ W/\Loc cb cb n n.heap.size (bO s 354) W)
    (λW=>iF fp fb (fs.map (·.x_)) cb F n (f++C.map Wy++[Wz]) e_ W/\Loc cb cb n n.heap.size (bO s 354) W)
    (λW=>iF fp fb (fs.map (·.x_)) cb F n (f++C.map Wy++[Wz]++P.map Wy) e_ W/\Loc cb cb n n.heap.size (bO s 354) W)
    (λW=>iF fp fb (fs.map (·.x_)) cb F n (f++C.map Wy++[Wz]++P.map Wy++[Wy .ue]) e_ W/\Loc cb cb n n.heap.size (bO s 354) W) hb
    (by
      rw[I];have:=N (c:=f) ⟨ab,hloc2⟩ E ao ak G_
      rw[bi]at this;exact this)
    (λW j=>(by grind))
    (λW j=>(xC (o:=Wz) j.1.1 rfl G_).mono λe w' hr=>⟨by rw[hr.1,rY],⟨hr.2.1,j.1.2.trans hr.2.2⟩,j.2.step hr.2.2⟩)
    (λW j=>(by grind))
    (λW j=>by
      have aw:aA (f++C.map Wy++[Wz])=aA f+aA C+1:=by simp;exact Z
      have:=N j Q G am G_
      rw[aw,bh]at this;exact this)
    (λW j=>(xC (o:=Wy .ue) j.1.1 rfl la).mono λe w' hr=>⟨G_,⟨hr.2.1,j.1.2.trans hr.2.2⟩,j.2.step hr.2.2⟩)
    (λW j=>by
      have ⟨⟨hc1,hc2⟩,hL⟩:=j;have e0:f++C.map Wy++[Wz]++P.map Wy++[Wy aO.ue]=(f++C.map Wy)++Wz::(P.map Wy++[Wy aO.ue]):=s_
      rw[e0]at hc1;have ar:=hc1.lt;have ⟨g,c,p1,p2,p3,p4,p5⟩:=hc1.patch;have ax:aA (f++C.map Wy)=aA f+aA C:=(by simp)
      have be:aA ((f++C.map Wy)++Wz::(P.map Wy++[Wy aO.ue]))=aA f+aA C+1+aA P+1:=G_
      rw[ax]at p2 p3 p5;rw[be]at p1;refine⟨G_,G_,ar,g,_,c,p1,Z,Z,p2,p3,p4,λW' hS=>?_⟩
      have ⟨q1,q2⟩:=p5 _ (.sw b (aA f+aA C+1+aA P+1)) W' rfl hS;exact⟨q1,hc2.trans q2⟩)
   rw[I]at J;rw[<-I];refine(yV w cb l (bs a.op) T1 T2 (Xn K) (Xn L) _ (by rw[I,H];exact J)).mono ?_
   intro e W j;have e9:f++(C++[aO.sw b (aA f+aA C+1+aA P+1)]++P++[aO.ue]).map Wy=f++C.map Wy++Wy (.sw b (aA f+aA C+1+aA P+1))::(P.map Wy++[Wy .ue]):=s_
   rw[e9];exact B j
  have hn1 :=λe=>V (ea e)
  have hn2 :=λe=>V (dz e)
  rw[SQ fs e_ d a _ q hn1 hn2,r,VS]at m ⊢
  simp[et,ib]at m
  have J:=TK n cb l a.op T1 T2 (Xn K) (Xn L) (λW=>iF fp fb (fs.map (·.x_)) cb F n (f++(aG fs e_ d X (aA f)).map Wy++(aG fs e_ d a2 (aA f+aA (aG fs e_ d X (aA f)))).map Wy++[Wy (.binary a.op)]) e_ W) _ _ hn1 hn2
   (by rw[I];exact N (c:=f) G_ E ao ak Z)
   (λW j=>af j.2)
   (λW j=>N j Q G am (by rw[rY];exact Z))
   (λW j=>(by grind))
   (λW j=>by have ⟨hq1,hq2⟩:=j;rw[rY]at hq1;exact uw (i:=.binary a.op) hq1 aJ (by simp[rY];exact Z))
  rw[I]at J;rw[<-I];refine(yV w cb l (bs a.op) T1 T2 (Xn K) (Xn L) _ (by rw[I,H];exact J)).mono ?_
  intro e W j;rw[ft,ft,<-gz,<-gz];exact B j
 exfalso
 have bm:∀x∈([[118,97,114],[115,101,116],[105,102],[119,104,105,108,101],[114,101,116,117,114,110],[112,114,105,110,116],[100,111]]:cY),a.op≠x:=λx hx e=>by
  have hc:∀y∈([[48],[115],[98,111,111,108],[110,97,109,101],[108,105,115,116],[105,110,100,101,120],[45,120],[33,120],[99,97,108,108],[124,124],[38,38],[61,61],[33,61],[60],[60,61],[43],[45],[42],[47],[37]]:cY),a.op≠y:=λy hy e2=>by rw[e]at e2;subst e2;simp at hx hy;rcases hx with rfl|rfl|rfl|rfl|rfl|rfl|rfl<;>simp at hy
  rcases aj with ⟨S,_⟩|⟨S,_⟩|⟨S,_⟩|⟨S,_⟩|⟨S,_⟩|⟨S,_⟩|⟨S,_⟩
  .grind
  .grind
  .grind
  .grind
  .grind
  .exact hc _ s_ S
  rcases oR S with e|e|e|e|e|e|e|e|e|e|e<;>exact hc _ s_ e
 grind
theorem yA(c:aA e_<=1000000)(a:aA fs<=1000000)(b:∀k,k<aA fs->fp k=aY (fb k)):∀d,LN fp fb fs cb lo F a_ e_ d|0=>λ_ _ _ _ _ _ h=>h.elim|d+1=>U9 (yA c a b d) c a b
end
