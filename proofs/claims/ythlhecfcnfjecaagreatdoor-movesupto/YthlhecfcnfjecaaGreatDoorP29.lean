import Derived.Test.YthlhecfcnfjecaaGreatDoorP28
import Derived.Test.YthlhecfcnfjecaaGreatDoorP18
set_option linter.all false
set_option maxRecDepth 100000
set_option maxHeartbeats 0
open List renaming length->aA
open Go.World renaming alloc->i9,cell?->I_,cell?_of_block->Wv
open Option renaming some->Wy
open Bool renaming false->WD,true->W1
open Go renaming Calls->W_,Value->Xa,TypeId->Xd,Addr->Xe
open Go.Proofs.Tryz renaming prog->Xi
open Go.Value renaming string->Xm,tuple->Xp,bool->Xr
open Go.Obj renaming cells->Xt
namespace Go.Proofs.YthlhecfcnfjecaaGreatDoor
open Hs _root_.Go.Proofs.Tryz Go.RowKit
variable{G:Bool}{I S T:Nat}{H:Type}{e:Xd}{w:aN}{z:aX}{x:bL}
def L7:yg 236 55 5 88:=.of underlying236 (z:=.agg #[Y 0,bP,bP,bP,Y 0]) k_ rfl d_
def Cx(c:List Xa)(v:SV):Prop:=c=v.cells.toList
def QU{C e K0:Nat}(I:Nat->Nat->List SV->Xa->SV->Bool->World->Prop)(R:List SV->Xa->World->Prop)(he:0<e)(aa:e<=1000) (K:Hid (W_ Xi 116 #[.pointer (Wy (aL C 5)),Y ((e-1:Nat):Int)] w λr l=>∃v,r=bR (Xp #[SV.val v,Xr W1])/\I K0 (H_ l) [] bP v W1 (eF l v.cells 55))) (z:Hid (∀gk b c d v ok W,I gk b c d v ok W->W.heap[b]?=Wy (bO v.cells 55)/\Own 5 55 Cx W d c/\aA c<=1000)) (x:Hid (∀gk b c d v W,I gk b c d v W1 W->v.t<e->∃j,gk=j+1/\∀i m,Own 5 55 Cx m i (c++[v])->(eF (eF W v.cells 55) v.cells 55).grownBy m d.ownBlock->(i.ownBlock=d.ownBlock\/i.ownBlock=Wy (H_ W+1+1))->m.heap[b]?=Wy (bO v.cells 55)/\W_ Xi 117 #[aY C,v.val] m λr l=>∃p ok,r=bR (Xp #[SV.val p,Xr ok])/\l.heap[b]?=m.heap[b]?/\I j b (c++[v]) i p ok (iC l b p))) (t:Hid (∀gk b c d v W,(I gk b c d v W1 W->¬v.t<e->R c d (eF W v.cells 55))/\(I gk b c d v WD W->R c d W))):W_ Xi 120 #[aY C,Y e] w λr l=>∃c d,r=bR d/\R c d l:=by
 have e0:((e:Nat):Int)-1=((e-1:Nat):Int):=Z;go_in;go_wp2_with fail;apply K.mono;rintro r T ⟨v0,rfl,F⟩;have B:=O F;unfold SV.cells at B;unfold SV.val;clear F K;go_wp2;go_loopg [5,7] K0 (λgk s5 X wr=>∃c v ok,X=Xr ok/\I gk (H_ T) c s5 v ok wr);case atStart=>exact⟨[],_,_,aJ,B⟩
 case round=>
  obtain⟨c,v,ok,rfl,J⟩:=hrel;have g:=O J;clear J B;cases ok;.have y:=O ((t _ _ _ _ _ _).2 g);clear z x t;go_wp2;go_ret;exact⟨c,_,aJ,y⟩
  obtain⟨f,k,V⟩:=z _ _ _ _ _ _ _ g;have HB:=O f;unfold SV.cells at f;have ⟨d1,d2,d3⟩:=bk f;have S:=O (tI v.t v.q v.x1 v.x2 v.x3 v.n1 v.n2 v.n3 v.c1 v.c2 v.c3 wr);have u:=O k;clear k f;go_wp2_with fail;apply S.mono;rintro r w2 ⟨rfl,rfl⟩;clear S;by_cases N:v.t<e
  .obtain⟨j,rfl,L⟩:=x _ _ _ _ _ _ g N;have e1:(v.t:Int)<(e:Int):=Z;have o:=O L;unfold SV.cells at o;clear g z x t L;go_wp2_with (at_builtin;refine mP r_ L7 r_ r_ ((u.h_ (λb q=>Below.block lj b (u.lt b q)) λ_ _ h=>h)) r_ (Src.one (b:=H_ wr+1) (a:=v) (bI (wr.alloc _) _ s_) rfl rfl lu) la (by simp;unfold maxLen;exact Z) ?_;intro i m E P G;obtain⟨n,s⟩:=o i m E P (by simpa using G);have A:=O s;have Q:=O n;have ⟨c1,c2,c3⟩:=bk n;unfold SV.val at A;clear E P G o u d1 d2 n s HB);apply A.mono;rintro r w6 ⟨p,ok,rfl,H,M⟩;have D:=O M;unfold iC at D;have ⟨g1,g2,g3⟩:=bk (H.trans Q);clear A c1 c2 M H Q;go_wp2;go_roundg j;case measure=>exact Z
   case rel=>exact⟨_,p,ok,aJ,D⟩
  have e1:¬(v.t:Int)<(e:Int):=Z;have y:=O ((t _ _ _ _ _ _).1 g N);unfold SV.cells at y;clear z x t u g d1 d2;go_wp2;go_ret;exact⟨c,_,aJ,y⟩
def tq.put(w:aN)(b:Nat)(o:Obj):tq [b] w (w.putObj b o):=⟨rfl,rfl,rfl,s_,λk _ a=>World.putObj_heap_other (by simpa using a)⟩
def tq.in{g V:List Nat}{b c:aN}(h:tq g w b)(k:tq V b c)(f:∀x∈V,x∈g\/H_ w<=x):tq g w c:=⟨k.os.trans h.os,k.tape.trans h.tape,k.output.trans h.output,em h.size k.size,λi e d=>by rw[k.i_ i (eh e h.size) λq=>(f i q).elim d λq=>Z,h.i_ i e d]⟩
def kR.vb{c:iJ}{e:Obj}{f:Nat->Option bW}{s:bW}(h:kR c x w S T e f s I):∃v a,pA c x w v.val s/\w.heap[S]?=Wy (bO (JA v a T) 62):=by have ⟨fv,tv,ov,a,es,b1,b2,_⟩:=h.i_;have ⟨v,e0,e01,e02⟩:=b2.sv;refine⟨v,a,e0▸b2,b1.trans ?_⟩;unfold SV.val at e0;simp at e0;simp[JA,e0]
structure GX where
 fp:iJ
 sb:Nat
 mb:Nat
 mo:Obj
 ks:List aC
 tape:List Int
 s:bW
 w:aN
 L:List Nat
structure GX.at(C:GX)(M:List Nat)(F:bL)(n:Nat)(W:aN):Prop where
 live:td C.fp F W C.sb C.mb C.mo C.ks C.tape C.s n M
 fs:FS C.sb C.w W
 lt:C.sb<C.w.heap.size
 mem:∀b∈C.L,b∈M/\b<C.w.heap.size/\W.heap[b]?=C.w.heap[b]?
noncomputable def GX.st(C:GX):Nat->Option bW:=dV C.ks C.tape
structure GX.is(C:GX)(F:bL)(n:Nat)(W:aN)(v:SV)(σ:bW):Prop where
 str:pA C.fp F W v.val σ
 st:C.st σ.m_=Wy σ
 n:σ.m_/20<n
section
variable {C:GX} {M U:List Nat} {F G:bL} {n n':Nat} {W W':aN} {v:SV} {σ:bW}
def GX.is.t(h:C.is F n W v σ):v.t=σ.m_:=by have ⟨s2,e1,e2,_⟩:=h.str.sv;rw[SV.val_inj e1,e2]
structure GX.to(C:GX)(M:List Nat)(F:bL)(n:Nat)(W:aN)(G:bL)(m:Nat)(W':aN):Prop where
 same:∀b∈M,W'.heap[b]?=W.heap[b]?
 is:∀v σ,C.is F n W v σ->C.is G m W' v σ
 size:W.heap.size<=W'.heap.size
def GX.to.trans{H:bL}{m:Nat}{c:aN}(h:C.to M F n W G n' W')(k:C.to U G n' W' H m c)(d:∀b∈M,b∈U):C.to M F n W H m c:=⟨λb q=>(k.same b (d b q)).trans (h.same b q),λv a q=>k.is v a (h.is v a q),em h.size k.size⟩
def GX.to.sub(h:C.to M F n W G n' W')(a:∀b∈U,b∈M):C.to U F n W G n' W':=⟨λb q=>h.same b (a b q),h.is,h.size⟩
def GX.at.but(h:C.at M F n W)(a:tq U W W')(c:∀b∈U,b∈M/\C.w.heap.size<=b):C.at M F n W'/\∀X,(∀b∈X,b∈M/\b∉U)->C.to X F n W F n W':=⟨⟨h.live.but a λb q=>(c b q).1,h.fs.but a (λb q=>(c b q).2) h.lt,h.lt,λb q=>by have ⟨q1,q2,q3⟩:=h.mem b q;exact⟨q1,q2,(a.i_ b (h.live.loc b q1).2.1 λq=>by have:=(c b q).2;exact Z).trans q3⟩⟩,λX d=>⟨λb q=>a.i_ b (h.live.loc b (d b q).1).2.1 (d b q).2,λv e q=>⟨q.str.but h.live a λb q=>(c b q).1,q.st,q.n⟩,a.size⟩⟩
def GX.at.drop(h:C.at M F n W)(a:∀b∈U,b∈M)(c:∀b∈C.L,b∈U):C.at U F n W:=⟨h.live.drop a,h.fs,h.lt,λb q=>⟨c b q,(h.mem b q).2⟩⟩
def GX.at.alloc(h:C.at M F n W)(o:Obj):C.at (H_ W::M) F n (W.alloc o)/\C.to M F n W F n (W.alloc o):=by have ⟨h1,h2⟩:=h.but (U:=[]) (tq.alloc W o []) s_;exact⟨⟨h.live.alloc o,h1.fs,h.lt,λb q=>⟨by simp[h.mem b q],(h1.mem b q).2⟩⟩,h2 M s_⟩
def GX.at.next(g:Good C.ks)(d:aA C.tape<=17592186044416)(h:C.at M F n W)(f:C.is F n W v σ):W_ Xi 117 #[aY C.sb,v.val] W λe W'=>∃a ok,e=bR (Xp #[SV.val a,Xr ok])/\∃G n',C.at M G n' W'/\C.to M F n W G n' W'/\(ok=W1->∃τ,C.is G n' W' a τ/\τ.m_=σ.m_+1/\τ.m_<=500)/\(ok=WD->σ.stop≠0):=by apply (OG g h.live d v σ f.str f.st f.n).mono;rintro e o ⟨a,ok,rfl,G,n',p,j,c,k,l,m⟩;have i:=λb q=>h.live.i_ c (b:=b) q;refine⟨a,ok,aJ,G,n',⟨k,h.fs.trans c,h.lt,λb q=>?_⟩,⟨i,λv σ q=>⟨h.live.Rc c j q.str,q.st,by have:=q.n;exact Z⟩,c.size⟩,λe=>?_,m⟩;have ⟨q1,q2,q3⟩:=h.mem b q;exact⟨q1,q2,(i b q1).trans q3⟩;have ⟨_,τ,q1,q2,q3,q4⟩:=l e;have:=(g.zy q1).1.m_;exact⟨τ,⟨q3,by rw[q2];exact q1,q4⟩,q2,Z⟩
end
def xi(u:Bool)(a b:Nat):Prop:=if u then a<b else b<a
def Nx(u:Bool)(k t:Nat):Prop:=if u then t=k+1 else t+1=k
def En(u:Bool)(k:Nat)(σ:bW):Prop:=if u then σ.stop≠0 else k=0
structure Dd(u:Bool)(st:Nat->Option bW)(p:bW->Bool)(a k:Nat):Prop where
 at_:k=a\/xi u a k
 no:∀t x,xi u a t->xi u t k->st t=Wy x->p x=WD
def Dd.nx{b:Nat->Option bW}{p:bW->Bool}(h:Dd G b p S T)(l:Nx G T I)(g:T=S\/∃x,b T=Wy x/\p x=WD):Dd G b p S I/\I≠S:=by have:=h.at_;refine⟨⟨?_,λi x c m d=>?_⟩,?_⟩;cases G<;>simp only[Nx,xi,if_true,if_false,jf]at*<;>exact Z;by_cases e:i=T;subst e;rcases g with rfl|⟨y,f,j⟩;cases G<;>simp[xi]at c;rw[d]at f;cases f;exact j;exact h.no i x c (by cases G<;>simp only[Nx,xi,if_true,if_false,jf]at*<;>exact Z) d;cases G<;>simp only[Nx,xi,if_true,if_false,jf]at*<;>exact Z
def vu(u:Bool)(st:Nat->Option bW)(p:bW->Bool)(s τ:bW)(fd:Bool):Prop:=st τ.m_=Wy τ/\Dd u st p s.m_ τ.m_/\(fd=W1↔τ.m_≠s.m_)/\(En u τ.m_ τ\/(fd=W1/\p τ=W1))
def Dn(C:GX)(u:Bool)(gf:Nat)(lb:Array Xa):Prop:=∀(l:Nat) (U:List Nat) (J E:bW->bL->Nat->lA) (F:bL) (n:Nat) (W:aN),(∀b∈U,C.w.heap.size<=b)->C.at (U++C.L) F n W->J C.s F n W->(∀σ F n W G n' W',C.to U F n W G n' W'->(J σ F n W->J σ G n' W')/\(E σ F n W->E σ G n' W'))->(∀M F n W σ τ v,C.at (M++(U++C.L)) F n W->J σ F n W->C.st σ.m_=Wy σ->Nx u σ.m_ τ.m_->C.is F n W v τ->YieldAt Fence.wide 0 Xi l #[v.val] W λe W'=>tq U W W'/\((e=bR (Xr W1)/\J τ F n W')\/(e=bR (Xr WD)/\E τ F n W')))->W_ Xi gf (#[.func (.yield l) #[] #[]]++lb) W λe W'=>e=fA/\∃σ F n,C.at (U++C.L) F n W'/\((J σ F n W'/\C.st σ.m_=Wy σ/\En u σ.m_ σ)\/E σ F n W')
def DA(C:GX)(p:bW->Bool)(gn:Nat)(rf lf:Array Xa):Prop:=∀M F n W v σ,C.at M F n W->C.is F n W v σ->W_ Xi gn (rf++#[v.val]++lf) W λe W'=>e=bR (Xr (p σ))/\R_ W W'
structure Tk where
 a:bW
 b:bW
 F:bL
 n:Nat
 M:List Nat
 W:aN
def GX.U(C:GX):List Nat:=[C.w.heap.size,C.w.heap.size+1,C.w.heap.size+1+1,C.w.heap.size+3,C.w.heap.size+3+1]
structure GK(C:GX)(u:Bool)(p:bW->Bool)(fv:aX)(σ:bW)(F:bL)(n:Nat)(W:aN)(fd:Bool):Prop where
 bt:∃v,W.heap[C.w.heap.size+1]?=Wy (Xt (SV.cells v) 55)/\C.is F n W v σ
 bo:W.heap[C.w.heap.size+1+1]?=Wy (Xt #[Xr fd] 4)
 bf:W.heap[C.w.heap.size]?=Wy (Xt #[fv] 145)
 fd:fd=W1↔σ.m_≠C.s.m_
 Ew:Dd u C.st p C.s.m_ σ.m_
section
variable {C:GX} {u:Bool} {p:bW->Bool} {fv:aX} {σ:bW} {F G:bL} {n n':Nat} {W W':aN} {fd:Bool} {x:Tk} {v:SV} {M:List Nat}
def GK.to(h:GK C u p fv σ F n W fd)(k:C.to [C.w.heap.size,C.w.heap.size+1,C.w.heap.size+1+1] F n W G n' W'):GK C u p fv σ G n' W' fd:=by have ⟨v,h1,h2⟩:=h.bt;exact⟨⟨v,(k.same _ s_).trans h1,k.is _ _ h2⟩,(k.same _ s_).trans h.bo,(k.same _ s_).trans h.bf,h.fd,h.Ew⟩
structure GQ(C:GX)(u:Bool)(p:bW->Bool)(fv:aX)(x:Tk)(v:SV)(M:List Nat)(W:aN):Prop where
 on:C.at M x.F x.n W
 sub:∀b∈x.M++(C.U++C.L),b∈M
 but:tq C.U x.W W
 gk:∃fd,GK C u p fv x.a x.F x.n W fd
 pa:x.a.m_=C.s.m_\/p x.a=WD
 st:C.st x.a.m_=Wy x.a
 nx:Nx u x.a.m_ x.b.m_
 is:C.is x.F x.n W v x.b
 lt:C.w.heap.size+4<x.W.heap.size
def GX.Gz:∀b∈C.U,C.w.heap.size<=b:=by simp[GX.U];exact Z
def GX.at.put{L:List Nat}(h:C.at M F n W)(a:∀b∈C.U++L,b∈M){d:Nat}(c:d=C.w.heap.size+3\/d=C.w.heap.size+4)(o:Obj):C.at M F n (W.putObj d o)/\C.to [C.w.heap.size,C.w.heap.size+1,C.w.heap.size+1+1] F n W F n (W.putObj d o):=by have ⟨h1,h2⟩:=h.but (tq.put W d o) (λb q=>by obtain rfl:=ie.1 q;exact⟨a _ (by simp[GX.U];exact Z),Z⟩);exact⟨h1,h2 _ λb q=>⟨a b qr,by simp at q⊢;exact Z⟩⟩
def GQ.put(h:GQ C u p fv x v M W)(o:Obj):GQ C u p fv x v M (W.putObj (C.w.heap.size+4) o):=by have ⟨h1,h2⟩:=h.on.put (L:=C.L) (λb q=>h.sub b G_) (.inr rfl) o;have ⟨fd,h3⟩:=h.gk;exact⟨h1,h.sub,h.but.in (tq.put _ _ _) nr,⟨fd,h3.to h2⟩,h.pa,h.st,h.nx,h2.is _ _ h.is,h.lt⟩
def GZ(C:GX)(u:Bool)(p:bW->Bool)(fv:aX)(W:aN):Prop:=∃σ F n fd,C.at (C.U++C.L) F n W/\GK C u p fv σ F n W fd/\C.st σ.m_=Wy σ/\(En u σ.m_ σ\/(fd=W1/\p σ=W1))
def GB(C:GX)(u:Bool)(p:bW->Bool)(fv:aX)(x:Tk)(W:aN)(b:Bool):Prop:=C.at (x.M++(C.U++C.L)) x.F x.n W/\tq C.U x.W W/\GK C u p fv x.b x.F x.n W W1/\p x.b=b
def GB.put{b:Bool}(h:GB C u p fv x W b)(o:Obj):GB C u p fv x (W.putObj (C.w.heap.size+4) o) b:=by have ⟨h1,h2⟩:=h.1.put (L:=C.L) qe (.inr rfl) o;exact⟨h1,h.2.1.in (tq.put _ _ _) nr,h.2.2.1.to h2,h.2.2.2⟩
def Iu(hg:Good C.ks)(h:td C.fp F C.w C.sb C.mb C.mo C.ks C.tape C.s n C.L){gf c:Nat}{lb d f:Array Xa}(ac:∀i W,(callFunc gf i).run Xi W=.ok (.enter gf i) W)(ab:∀i W,(callFunc c i).run Xi W=.ok (.enter c i) W)(X:DA C p c d f)(hI:Dn C u gf lb):W_ Xi 67 #[aY C.sb,.func (.func gf) #[] lb,.func (.func c) d f] C.w λe w'=>∃b,e=bR (Xr b)/\qO C.fp C.sb C.mb C.mo C.ks C.tape C.L (vu u C.st p C.s) C.w b w':=by
 have ⟨s0,ev,hs0,hs⟩:=h.vb.vb;have E:=h.vb.lt;have hL:∀b∈C.L,b<C.w.heap.size:=λb q=>(h.loc b q).2.1;refine M_ (τ:=Option Tk) (λt v W=>∃x,t=Wy x/\GQ C u p (.func (.func c) d f) x v (x.M++(C.U++C.L)) W) (λt W=>∃x,t=Wy x/\GB C u p (.func (.func c) d f) x W WD) (λt v b W=>∃x,t=Wy x/\GQ C u p (.func (.func c) d f) x v (b::(x.M++(C.U++C.L))) W/\W.heap[b]?=Wy (bO v.cells 55)/\x.W.heap.size<=b) (λt W=>GZ C u p (.func (.func c) d f) W/\∀x,t=Wy x->GB C u p (.func (.func c) d f) x W W1) hs ac ab (λW r=>⟨?_,?_,?_⟩) ?_ ?_ ?_ ?_;rintro t v b ⟨x,rfl,a,z,J⟩;exact⟨x,aJ,a.put _,by rw[World.putObj_heap_other (by have:=a.lt;exact Z)];exact z,J⟩;rintro t ⟨x,rfl,a⟩;exact⟨x,aJ,a.put _⟩;rintro t ⟨⟨g,F,n,j,a,z,J⟩,h4⟩;have ⟨w,s⟩:=a.put (L:=C.L) s_ (.inr rfl) (.loop r);exact⟨⟨g,F,n,j,w,z.to s,J⟩,λx q=>(h4 x q).put _⟩;rintro t v W ⟨x,rfl,a⟩;have ⟨w,s⟩:=a.on.alloc (bO v.cells 55);have ⟨j,A⟩:=a.gk;have:=a.but.size;have:=a.lt;exact⟨⟨x,aJ,⟨w,qe,a.but.in (tq.alloc _ _ []) s_,⟨j,A.to (s.sub nr)⟩,a.pa,a.st,a.nx,s.is _ _ a.is,a.lt⟩,aV _ _ rfl _,a.but.size⟩,Z⟩;rintro t v b W ⟨x,rfl,a,z,J⟩;have ⟨j,A⟩:=a.gk;have ⟨v0,c0,c1⟩:=A.bt;have hz:=a.lt;have ⟨k1,k2⟩:=a.on.but ((tq.yy W (C.w.heap.size+1) v).trans (tq.set _ (C.w.heap.size+1+1) (Xr W1))) (λb q=>⟨a.sub b qr,qu⟩);have aa:=a.but.in ((tq.yy W (C.w.heap.size+1) v).trans (tq.set _ (C.w.heap.size+1+1) (Xr W1))) nr;have Q:=k2 [C.w.heap.size,C.w.heap.size+3,C.w.heap.size+3+1] λb q=>⟨a.sub b qr,by simp at q⊢;exact Z⟩;have P:((iC W (C.w.heap.size+1) v).setCell (aL (C.w.heap.size+1+1) 0) (Xr W1)).heap[C.w.heap.size+1]?=Wy (bO v.cells 55):=by rw[ej _ _ _ _ s_];exact wG c0 aJ
 have b2:((iC W (C.w.heap.size+1) v).setCell (aL (C.w.heap.size+1+1) 0) (Xr W1)).heap[C.w.heap.size+1+1]?=Wy (bO #[Xr W1] 4):=by rw[aP ((gH _ _ _ _ Z).trans A.bo)];rfl
 refine⟨z,A.bf,⟨_,c0,by simp[SV.cells]⟩,⟨_,A.bo⟩,Z,Z,Z,?_⟩;generalize (iC W (C.w.heap.size+1) v).setCell (aL (C.w.heap.size+1+1) 0) (Xr W1)=V at k1 aa Q P b2⊢;have hi:=Q.is _ _ a.is;apply (X _ _ _ V v x.b k1 hi).mono;rintro e D ⟨rfl,hb⟩;have ⟨j1,j2⟩:=k1.but (tq.below hb []) s_;have j3:=j2 C.U λb q=>⟨a.sub b G_,s_⟩;have hm:∀b∈C.U,D.heap[b]?=V.heap[b]?:=j3.same;have ⟨hP,hne⟩:=A.Ew.nx a.nx (a.pa.imp_right λq=>⟨_,a.st,q⟩);have hK:GK C u p (.func (.func c) d f) x.b x.F x.n D W1:=⟨⟨v,(hm _ nr).trans P,j3.is _ _ hi⟩,(hm _ nr).trans b2,((hm _ nr).trans (Q.same _ s_)).trans A.bf,by simpa using hne,hP⟩;have hX:∀r,p x.b=r->GB C u p (.func (.func c) d f) x D r:=λr q=>⟨j1.drop G_ G_,aa.in (tq.below hb []) s_,hK,q⟩;exact⟨_,aJ,⟨(hm _ nr).trans (Q.same _ s_),(hm _ nr).trans (Q.same _ s_)⟩,λq=>⟨⟨x.b,x.F,x.n,W1,j1.drop G_ G_,hK,a.is.st,.inr ⟨rfl,q⟩⟩,λy e=>by cases e;exact hX _ q⟩,λq=>⟨x,aJ,hX _ q⟩⟩;rintro t W ⟨⟨g,F,n,j,a,z,J,h4⟩,-⟩;have ⟨v,c0,c1⟩:=z.bt;have ⟨v',ev',_,hs'⟩:=a.live.vb.vb;have ⟨g1,g2⟩:=a.live.go c1.str c1.st c1.n;refine⟨v,j,c0,z.bo,⟨_,_,hs',by simp[JA]⟩,F,n,g,(g1.but (tq.put _ (C.w.heap.size+3) _) nr).drop qe,⟨J,z.Ew,z.fd,h4⟩,(a.fs.trans g2).but (tq.put _ (C.w.heap.size+3) _) s_ E⟩;intro K Rdy Don T S hY;have l:=((((h.alloc (bO #[.func (.func c) d f] 145)).alloc (bO s0.cells 55)).alloc (bO #[Xr WD] 4)).alloc (.deferred (Wy []))).alloc (.loop K);have o:R_ C.w (((i9 (i9 (i9 C.w (bO #[.func (.func c) d f] 145)) (bO s0.cells 55)) (bO #[Xr WD] 4)).alloc (.deferred (Wy []))).alloc (.loop K)):=by go_grown
 have b0:(((i9 (i9 (i9 C.w (bO #[.func (.func c) d f] 145)) (bO s0.cells 55)) (bO #[Xr WD] 4)).alloc (.deferred (Wy []))).alloc (.loop K)).heap[C.w.heap.size]?=Wy (bO #[.func (.func c) d f] 145):=by grind[ed,bI,World.size_alloc]
 have P:(((i9 (i9 (i9 C.w (bO #[.func (.func c) d f] 145)) (bO s0.cells 55)) (bO #[Xr WD] 4)).alloc (.deferred (Wy []))).alloc (.loop K)).heap[C.w.heap.size+1]?=Wy (bO s0.cells 55):=by grind[ed,bI,World.size_alloc]
 have b2:(((i9 (i9 (i9 C.w (bO #[.func (.func c) d f] 145)) (bO s0.cells 55)) (bO #[Xr WD] 4)).alloc (.deferred (Wy []))).alloc (.loop K)).heap[C.w.heap.size+1+1]?=Wy (bO #[Xr WD] 4):=by grind[ed,bI,World.size_alloc]
 simp only[World.size_alloc]at l T hY⊢;generalize ((i9 (i9 (i9 C.w (bO #[.func (.func c) d f] 145)) (bO s0.cells 55)) (bO #[Xr WD] 4)).alloc (.deferred (Wy []))).alloc (.loop K)=W at S l o b0 P b2⊢;refine(hI _ C.U (λg F n W=>Rdy W/\(∃j,GK C u p (.func (.func c) d f) g F n W j)/\(g.m_=C.s.m_\/p g=WD)) (λg F n W=>Don W/\GK C u p (.func (.func c) d f) g F n W W1/\p g=W1) F n W C.Gz ⟨l.drop (by simp[GX.U];grind),FS.p_ o E,E,λb q=>⟨qo,hL b q,o.block b (hL b q)⟩⟩ ⟨S,⟨WD,⟨s0,P,hs0.h_ (λb q=>o.block b (h.vb.fix b q).1) λ_ q=>q,h.vb.now,h.hn⟩,b2,b0,s_,.inl rfl,λt x w s=>by cases u<;>simp[xi]at w s<;>exact Z⟩,.inl rfl⟩ (λg F n W G m D k=>?_) λM F n W g τ v w s A q4 q5=>?_).mono ?_;have hk:=T W D (k.same _ nr) (k.same _ nr);have hs:∀{j},GK C u p (.func (.func c) d f) g F n W j->GK C u p (.func (.func c) d f) g G m D j:=λq=>q.to (k.sub nr);exact⟨λ⟨I,⟨j,B⟩,H⟩=>⟨hk.1 I,⟨j,hs B⟩,H⟩,λ⟨I,B,H⟩=>⟨hk.2 I,hs B,H⟩⟩;have ⟨fn,tmps,assign,body,hy,hr⟩:=hY (Wy ⟨g,τ,F,n,M,W⟩) v W ⟨_,aJ,w,λ_ q=>q,⟨aJ,aJ,aJ,lZ,λ_ _ _=>aJ⟩,s.2.1,s.2.2,A,q4,q5,(w.live.loc (C.w.heap.size+3+1) nr).2.1⟩ s.1;refine⟨fn,tmps,assign,body,hy,hr.mono ?_⟩;rintro e D (⟨rfl,⟨x,hx,N⟩,hR⟩|⟨rfl,⟨-,N⟩,hD⟩);cases hx;exact⟨N.2.1,.inl ⟨aJ,hR,⟨_,N.2.2.1⟩,.inr N.2.2.2⟩⟩;exact⟨(N _ aJ).2.1,.inr ⟨aJ,hD,(N _ aJ).2.2⟩⟩;rintro e D ⟨rfl,g,F,n,w,⟨⟨I,⟨j,B⟩,-⟩,H,r4⟩|⟨I,B,H⟩⟩;exact⟨aJ,none,⟨⟨g,F,n,j,w,B,H,.inl r4⟩,s_⟩,.inl I⟩;have ⟨_,_,s⟩:=B.bt;exact⟨aJ,none,⟨⟨g,F,n,W1,w,B,s.st,.inr ⟨aJ,H⟩⟩,s_⟩,.inr I⟩
end
section
variable {C:GX} {u:Bool} {bb:Nat}
def GX.at.now{M:List Nat}{F:bL}{n:Nat}{W:aN}(h:C.at M F n W):∃v a,C.is F n W v C.s/\W.heap[C.sb]?=Wy (bO (JA v a C.mb) 62):=by have ⟨v,a,h1,h2⟩:=h.live.vb.vb;exact⟨v,a,⟨h1,h.live.vb.now,h.live.hn⟩,h2⟩
def AC(D:Good C.ks)(u:aA C.tape<=17592186044416)(S:bb∈C.L)(I:C.w.heap[bb]?=Wy (bO #[aY C.sb] 32)):Dn C W1 118 #[aY bb]:=by intro l aa J E F n W hU h T A hY;have ⟨v0,ev,hv0,hs⟩:=h.now;have w:∀b∈aa++C.L,b<W.heap.size:=λb q=>(h.live.loc b q).2.1;have Q:=(D.zy hv0.st).1.m_;have P:∀(M:List Nat) b,b∈aa->b∈M++(aa++C.L)/\C.w.heap.size<=b:=λM b q=>⟨qo,hU b q⟩;have hz:=h.fs.size;refine(XL (K0:=501-C.s.m_) (λgk b v ok wr=>∃d G m,C.at (b::(aa++C.L)) G m wr/\J d G m wr/\C.st d.m_=Wy d/\W.heap.size<=b/\wr.heap[b]?=Wy (bO v.cells 55)/\(ok=W1->∃a,C.is G m wr v a/\a.m_=d.m_+1/\gk+a.m_=502)/\(ok=WD->d.stop≠0)) (λgk b v wr=>∃a G m,C.at (b::(aa++C.L)) G m wr/\J a G m wr/\W.heap.size<=b/\wr.heap[b]?=Wy (bO v.cells 55)/\C.is G m wr v a/\gk+a.m_=502) (λwr=>∃d G m,C.at (aa++C.L) G m wr/\((J d G m wr/\C.st d.m_=Wy d/\En W1 d.m_ d)\/E d G m wr)) ((h.mem bb S).2.2.trans I) hs ?_ (λc X=>?_) ?_ ?_ ?_);have ⟨i,f⟩:=h.but (tq.drew W []) s_;have f:=f (aa++C.L) s_;apply (i.next D u (f.is _ _ hv0)).mono;rintro e B ⟨s,ok,rfl,G,m,o,g,j,z⟩;have ⟨N,L⟩:=o.alloc (bO s.cells 55);refine⟨s,ok,aJ,C.s,G,m,N,(A _ _ _ _ _ _ _ (((f.trans g s_).trans L s_).sub G_)).1 T,hv0.st,g.size,aV _ _ rfl _,λe=>?_,z⟩;have ⟨a,t,r,H⟩:=j e;exact⟨a,L.is _ _ t,r,Z⟩;have ⟨i,f⟩:=h.but (tq.drew W []) s_;have f:=f (aa++C.L) s_;have ⟨o,g⟩:=i.alloc (bO c 55);have g:=f.trans g s_;apply (o.next D u (g.is _ _ hv0)).mono;rintro e B ⟨s,ok,rfl,G,m,j,z,N,L⟩;have K:B.heap[W.heap.size]?=Wy (bO c 55):=(z.same _ s_).trans (aV W.drew _ rfl _);have ⟨h9,k⟩:=j.but (tq.yy B W.heap.size s) (by simp;exact hz);have k:=k (aa++C.L) λb q=>⟨G_,by have:=w b q;simp;exact Z⟩;refine⟨s,ok,aJ,K,C.s,G,m,h9,(A _ _ _ _ _ _ _ (((g.trans z G_).trans k G_).sub G_)).1 T,hv0.st,lZ,wG K X,λe=>?_,L⟩;have ⟨a,t,r,H⟩:=N e;exact⟨a,k.is _ _ t,r,Z⟩;rintro gk b v wr ⟨d,G,m,i,f,o,g,j,z,-⟩;have ⟨a,t,r,H⟩:=z aJ;have ⟨fn,tmps,assign,body,hy,y⟩:=hY [b] G m wr d a v i f o (by simp[Nx,r]) t;refine⟨j,fn,tmps,assign,body,hy,y.mono ?_⟩;rintro e W' ⟨hB,y⟩;have ⟨k1,p⟩:=i.but hB (P [b]);have p:=p [b] (by simp;exact λq=>by have:=w b (by simp[q]);exact Z);rcases y with ⟨rfl,y⟩|⟨rfl,y⟩;exact .inl ⟨aJ,a,G,m,k1,y,g,(p.same b s_).trans j,p.is _ _ t,H⟩;exact .inr ⟨aJ,a,G,m,k1.drop qe qe,.inr y⟩;rintro gk b v wr ⟨d,G,m,i,f,o,-,-,-,g⟩;exact⟨d,G,m,i.drop qe qe,.inl ⟨f,o,by simpa [En]using g rfl⟩⟩;rintro gk b v wr ⟨a,G,m,i,f,o,g,j,z⟩;have:=(D.zy j.st).1.m_;refine⟨(bk ((i.mem bb S).2.2.trans I)).1 0,g,gk-1,Z,(i.next D u j).mono ?_⟩;rintro e B ⟨s,ok,rfl,V,m',t,r,H,q4⟩;have ⟨k1,p⟩:=t.but (tq.yy B b s) la;have p:=p (aa++C.L) λx q=>⟨G_,by have:=w x q;simp;exact Z⟩;have K:=(r.same b s_).trans g;refine⟨s,ok,aJ,r.same b G_,a,V,m',k1,(A _ _ _ _ _ _ _ ((r.sub G_).trans p G_)).1 f,j.st,o,wG K rfl,λe=>?_,q4⟩;have ⟨τ',r1,r2,r3⟩:=H e;exact⟨τ',p.is _ _ r1,r2,Z⟩
end
section
variable {C:GX} {M X U:List Nat} {F G:bL} {n m:Nat} {W W' V:aN}
def GX.at.fresh(h:C.at M F n W)(a:C.at M F n W')(d:W'.heap[C.sb]?=W.heap[C.sb]?){b:Nat}(e:H_ W<=b)(c:b<H_ W'):C.at (b::M) F n W':=⟨h.live.fresh a.live d e c,a.fs,h.lt,λb q=>by have:=a.mem b q;simp[this]⟩
structure Nb(C:GX)(M:List Nat)(F:bL)(n e:Nat)(W:aN)(gk b:Nat)(vs:List SV)(sv:aX)(v:SV)(V:aN)(G:bL)(m t0:Nat)(τ:bW)(X:List Nat):Prop where
 gk:gk+aA vs=501
 on:C.at (X++b::M) G m V
 go:C.to M F n W G m V
 row:∀g,sv.ownBlock=Wy g->g∈X
 ge:∀g∈b::X,W.heap.size<=g
 nb:b∉X
 i_:V.heap[b]?=Wy (Xt v.cells 55)
 own:Own 5 55 Cx V sv vs
 is:C.is G m V v τ
 tm:τ.m_=t0+aA vs/\τ.m_<=e/\t0<e
 all:∀i (h:i<aA vs),∃τ,C.is G m V vs[i] τ/\τ.m_=t0+i
def GX.at.Bv(K:Good C.ks)(ad:aA C.tape<=17592186044416)(h:C.at M F n W){e:Nat}(h0:0<e)(h1:e<=C.s.m_):W_ Xi 120 #[aY C.sb,Y e] W λr W'=>∃g a d,r=bR (P_ (Wy (aL g 0)) (aA a) d)/\∃G m f,C.at (g::M) G m W'/\C.to M F n W G m W'/\W.heap.size<=g/\Own 5 55 Cx W' (P_ (Wy (aL g 0)) (aA a) d) a/\f+aA a=e/\0<aA a/\∀i (h:i<aA a),∃τ,C.is G m W' a[i] τ/\τ.m_=f+i:=by
 have s:=h.live.vb.now;have ae:=(K.zy s).1.m_;have hn:=h.live.count K;have T:0<n:=by have:=h.live.hn;exact Z
 have ag:=h.fs.size;have D:∀b∈M,b<W.heap.size:=λb q=>(h.live.loc b q).2.1;refine(QU (K0:=501) (λgk b a o v ok V=>ok=W1/\∃G m f τ X,Nb C M F n e W gk b a o v V G m f τ X) (λa o W'=>∃g d,o=P_ (Wy (aL g 0)) (aA a) d/\∃G m f,C.at (g::M) G m W'/\C.to M F n W G m W'/\W.heap.size<=g/\Own 5 55 Cx W' o a/\f+aA a=e/\0<aA a/\∀i (h:i<aA a),∃τ,C.is G m W' a[i] τ/\τ.m_=f+i) h0 Z ((KG h.live.vb _ Z T).mono ?_) ?_ ?_ ?_).mono ?_;rintro r w1 ⟨v,ok,rfl,J,q1,q2⟩;obtain rfl:ok=W1:=by cases ok;have:=q1 aJ;exact Z;rfl
 have ⟨j,τ,j1,j2,j3,j4⟩:=q2 aJ;have ab:=(K.zy j3).2.1;have ⟨k1,k2⟩:=h.but (tq.below J []) s_;have ⟨k3,k4⟩:=k1.alloc (bO v.cells 55);refine⟨v,aJ,aJ,F,n,20*j,τ,[],s_,k3,(k2 M s_).trans k4 s_,od,by simpa using J.size,s_,aV _ _ rfl _,.nil,k4.is _ _ ⟨j4,by rw[ab];exact j3,Z⟩,la,s_⟩;rintro gk b a o v ok V ⟨-,G,m,f,τ,X,q⟩;exact⟨q.i_,q.own,by have:=q.gk;exact Z⟩;rintro gk b a o v V ⟨-,G,m,f,τ,X,q⟩ hv;have ac:=q.is.t;have ⟨t1,t2,t3⟩:=q.tm;have ai:=q.gk;refine⟨gk-1,Z,λP w5 o1 A z=>?_⟩;have ⟨a1,a2⟩:=q.on.alloc (bO v.cells 55);have ⟨a3,a4⟩:=a1.alloc (bO v.cells 55);have a5:=a2.trans a4 G_;have hz:=q.go.size;have E:tq o.ownBlock.toList (i9 (i9 V (bO v.cells 55)) (bO v.cells 55)) w5:=⟨A.os,A.tape,A.output,A.size,λk L S=>A.block k L λe=>S (by simp[<-e])⟩;have p:∀x∈o.ownBlock.toList,x∈X:=λx l=>q.row x (by simpa using l);have ⟨a6,N⟩:=(a3.drop (U:=X++b::M) qe (by have:=q.on.mem;grind)).but E λx l=>⟨by simp[p x l],by have:=q.ge x (by simp[p x l]);exact Z⟩;have B:w5.heap[C.sb]?=V.heap[C.sb]?:=by have:=q.on.live.vb.lt;rw[E.i_ C.sb la λl=>(q.on.live.loc C.sb (by simp[p _ l])).2.2.2.2.1 rfl,ed _ _ _ la,ed _ _ _ this]
 have N:=N (b::M) λx l=>⟨G_,λaa=>by have h2:=p x aa;rcases ew.1 l with rfl|l;exact q.nb h2;have:=D x l;have:=q.ge x (by simp[h2]);exact Z⟩;have I:=(a5.sub (U:=b::M) G_).trans N s_;have aj:=aH q.i_;have H:=(I.same b s_).trans q.i_;have ⟨u,x1,x2,x3,x4⟩:∃u,C.at (u++b::M) G m w5/\(∀g,P.ownBlock=Wy g->g∈u)/\(∀g∈b::u,W.heap.size<=g)/\b∉u:=by rcases z with z|z;exact⟨X,a6,by rw[z];exact q.row,q.ge,q.nb⟩;have:=o1.lt _ z;exact⟨(V.heap.size+1+1)::X,(a3.drop G_ (by have:=q.on.mem;grind)).fresh a6 (by rw[B,ed _ _ _ (by have:=q.on.live.vb.lt;simp;exact Z),ed _ _ _ q.on.live.vb.lt]) s_ this,G_,by have:=q.ge;grind,by have:=q.nb;grind⟩
 refine⟨H,(x1.next K ad (I.is _ _ q.is)).mono ?_⟩;rintro r w6 ⟨v',ok,rfl,G',m',n1,w,n3,n4⟩;obtain rfl:ok=W1:=by cases ok;have ⟨x,s1,s2⟩:=D_ s (t:=τ.m_) Z;have:=q.is.st;unfold GX.st at this;rw[s1]at this;cases this;exact ep s2 (n4 aJ);rfl
 have ⟨τ',p1,p2,_⟩:=n3 aJ;have ⟨y1,y2⟩:=n1.but (tq.yy w6 b v') (by have:=q.ge b s_;simp;exact Z);have ah:b∉M:=λS=>by have:=D b S;have:=q.ge b s_;exact Z
 have y:=y2 (u++M) G_;have y4:=I.is;refine⟨v',W1,aJ,w.same b s_,rfl,G',m',f,τ',u,la,y1,((q.go.trans I G_).trans w G_).trans y G_,x2,x3,x4,wG ((w.same b s_).trans H) rfl,o1.h_ (λk L=>?_) λ_ _ h=>h,y.is _ _ p1,la,λi hi=>?_⟩;rw[y.same k (by simp[x2 k L]),w.same k (by simp[x2 k L])];have af:i<aA a+1:=by simpa using hi
 by_cases e:i<aA a;have ⟨σ,r1,r2⟩:=q.all i e;exact⟨σ,by rw[List.getElem_append_left e];exact y.is _ _ (w.is _ _ (y4 _ _ r1)),r2⟩;obtain rfl:i=aA a:=Z;exact⟨τ,by simpa using y.is _ _ (w.is _ _ (y4 _ _ q.is)),t1⟩;intro gk b a o v V;refine⟨?_,λ⟨q,_⟩=>by cases q⟩;rintro⟨-,G,m,f,τ,X,q⟩ hv;have ac:=q.is.t;have ⟨t1,t2,t3⟩:=q.tm;have ⟨a1,a2⟩:=q.on.alloc (bO v.cells 55);obtain⟨g,d,c,rfl,-,-⟩:=q.own.cell (i:=0) Z;have Q:=q.row g aJ;exact⟨g,d,aJ,G,m,f,a1.drop qe (by have:=q.on.mem;have:=h.mem;grind),q.go.trans (a2.sub (U:=M) G_) s_,q.ge g (by simp[Q]),q.own.h_ (λb J=>ed _ _ _ (q.own.lt b J)) λ_ _ h=>h,Z,Z,λi hi=>by have ⟨τ,q1,q2⟩:=q.all i hi;exact⟨τ,a2.is _ _ q1,q2⟩⟩;rintro r w' ⟨a,o,rfl,g,d,rfl,q⟩;exact⟨g,a,d,aJ,q⟩
def CF:∀(a:List Nat) (V:aN),tq a V (qL V a)|[],_=>⟨rfl,rfl,rfl,lZ,λ_ _ _=>rfl⟩|b::a,V=>(tq.put V b (.deferred none)).trans (CF a _)
structure EQ(C:GX)(U:List Nat)(J:bW->bL->Nat->lA)(l z:Nat)(x:Ci)(i:Nat)(V:aN)(σ:bW)(G:bL)(m:Nat)(X:List Nat):Prop where
 on:C.at (X++(U++C.L)) G m V
 ge:∀b∈X,z<=b
 mem:∀b∈z::x.g::x.w2.heap.size::(x.w2.heap.size+1)::(x.w2.heap.size+1+1)::x.ms,b∈X
 lt:z<x.w2.heap.size/\x.g<x.w2.heap.size/\∀b∈x.ms,b<x.w2.heap.size
 yc:V.heap[z]?=Wy (Xt #[.func (.yield l) #[] #[]] 145)
 ma:Marks V x.ms
 j:J σ G m V
 st:C.st σ.m_=Wy σ
 tm:σ.m_=(x.vs 0).t+i/\i<=x.n+1
 sl:V.heap[x.w2.heap.size]?=Wy (Xt #[.slice (Wy (aL x.g 0)) (x.n+1) x.cap] 236)
 el:∀i,i<=x.n->Cf V x.g i (x.vs i)
 is:∀i,i<=x.n->∃τ,C.is G m V (x.vs i) τ/\τ.m_=(x.vs 0).t+i
 e:(x.vs 0).t+(x.n+1)=x.e/\x.k=x.e/\x.e<=C.s.m_
def Cf.h_{g i:Nat}{s:SV}(h:Cf V g i s)(b:W.heap[g]?=V.heap[g]?)(c:H_ V<=H_ W):Cf W g i s:=by have q:=λj=>Wv (w:=V) (w':=W) (a:=aL g j) b;exact⟨(q _).trans h.c0,(q _).trans h.c1,(q _).trans h.c2,(q _).trans h.c3,(q _).trans h.c4,eh h.lt c⟩
def EQ.to{J j:bW->bL->Nat->lA}{l z i g f:Nat}{x:Ci}{u a:bW}{d:List Nat}{c:bL}(h:EQ C U J l z x i V u G m X)(v:C.at (d++(U++C.L)) c f W)(o:∀b∈X,b∈d)(p:∀b∈d,z<=b){R:List Nat}(r:∀b∈X,b≠x.w2.heap.size+1+1->b∈R)(k:C.to R G m V c f W)(s:j a c f W)(t:C.st a.m_=Wy a)(n:a.m_=(x.vs 0).t+g/\g<=x.n+1):EQ C U j l z x g W a c f d:=by have ⟨l1,l2,l3⟩:=h.lt;have e:∀b∈z::x.g::x.w2.heap.size::(x.w2.heap.size+1)::x.ms,W.heap[b]?=V.heap[b]?:=λb q=>k.same b (r b (h.mem b G_) G_);refine⟨v,p,λb q=>o b (h.mem b q),h.lt,(e _ s_).trans h.yc,⟨h.ma.1,λb q=>(e b qo).trans (h.ma.2 b q)⟩,s,t,n,(e _ s_).trans h.sl,λi q=>(h.el i q).h_ (e _ s_) k.size,λi q=>?_,h.e⟩;have ⟨a,r1,r2⟩:=h.is i q;exact⟨a,k.is _ _ r1,r2⟩
end
section
variable {C:GX} {bb:Nat}
def BP(P:Good C.ks)(ab:aA C.tape<=17592186044416)(hb:bb∈C.L)(B:C.w.heap[bb]?=Wy (bO #[aY C.sb] 32)):Dn C WD 119 #[aY bb]:=by
 intro l ag J E F n W hU j N d hY;have ⟨v0,ev,hv0,hs⟩:=j.now;have v:∀b∈ag++C.L,b<W.heap.size:=λb q=>(j.live.loc b q).2.1;have ad:=(P.zy hv0.st).1.m_;have hz:=j.fs.size;have s:∀(X:List Nat) (V:aN) (a:bW) (G:bL) (m:Nat) (f:List Nat),C.at (X++(ag++C.L)) G m V->(∀b∈X,W.heap.size<=b)->(∀b∈f,b∈X)->C.at (ag++C.L) G m (qL V f)/\(J a G m V->J a G m (qL V f))/\(E a G m V->E a G m (qL V f)):=λX V a G m f p y o=>by have ⟨k1,k2⟩:=p.but (CF f V) λb q=>⟨by simp[o b q],by have:=y b (o b q);exact Z⟩;exact⟨k1.drop G_ G_,d _ _ _ _ _ _ _ (k2 ag λb q=>⟨qo,λq'=>by have:=y b (o b q');have:=v b qo;exact Z⟩)⟩
 refine NE (K0:=C.s.m_) (λk e f V=>∃a G m X,C.at (X++(ag++C.L)) G m V/\(∀b∈X,W.heap.size<=b)/\(∀b∈W.heap.size::f,b∈X)/\V.heap[W.heap.size]?=Wy (bO #[.func (.yield l) #[] #[]] 145)/\Marks V f/\J a G m V/\C.st a.m_=Wy a/\a.m_=e/\k=e/\e<=C.s.m_) (λx i V=>∃a G m X,EQ C ag J l W.heap.size x i V a G m X) (λx i b V=>(∃a G m X,EQ C ag J l W.heap.size x (i+1) V a G m X/\b∈X)/\V.heap[b]?=Wy (bO (x.vs i).cells 55)/\x.w2.heap.size+1+1<b) (λx V=>∃i a G m X,EQ C ag E l W.heap.size x i V a G m X) (λV=>∃a G m,C.at (ag++C.L) G m V/\((J a G m V/\C.st a.m_=Wy a/\En WD a.m_ a)\/E a G m V)) ((j.mem bb hb).2.2.trans B) hs ?_ ?_ ?_ ?_ ?_ ?_ ?_;have ⟨k1,k2⟩:=j.alloc (bO #[.func (.yield l) #[] #[]] 145);have ⟨H,k4⟩:=k1.alloc (bO v0.cells 55);exact⟨C.s,F,n,[W.heap.size+1,W.heap.size],by simpa using H,s_,s_,(k4.same _ s_).trans (aV _ _ rfl _),⟨s_,s_⟩,(d _ _ _ _ _ _ _ ((k2.trans k4 G_).sub G_)).1 N,hv0.st,hv0.t.symm,hv0.t.symm,by rw[hv0.t];exact Z⟩;rintro k e f V ⟨a,G,m,X,p,y,o,q4,q5,q6,q7,q8,rfl,q9⟩;refine⟨(p.mem bb hb).2.2.trans B,λe0=>⟨q5,?_⟩,λe0=>(p.Bv P ab e0 q9).mono ?_⟩;have ⟨z,A,_⟩:=s X V a G m f p y G_;exact⟨a,G,m,z,.inl ⟨A q6,q7,by simp[En];exact Z⟩⟩;rintro r w2 ⟨g,u,I,rfl,G',m',t0,z,A,r3,r4,r5,r6,r7⟩;obtain⟨w,hn⟩:∃w,aA u=w+1:=⟨aA u-1,Z⟩;have Q:∀i (h:i<aA u),u[i]?.getD v0=u[i]:=by simp+contextual
 have h0:(u[0]?.getD v0).t=t0:=by have ⟨τ,s1,s2⟩:=r7 0 Z;rw[Q 0 Z,s1.t,s2];rfl
 have hW:=(p.live.loc W.heap.size rE).2.1;have aa:=λb (q:b∈f)=>(p.live.loc b (by simp[o,q])).2.1;have D:=(z.live.loc g s_).2.1;have K:=A.size;rw[hn]at r4⊢;refine⟨g,w,I,λi=>u[i]?.getD v0,aJ,Z,?_⟩;rintro x rfl R0;have ⟨a1,a2⟩:=z.alloc (bO #[P_ (Wy (aL g 0)) (w+1) I] 236);have ⟨a3,a4⟩:=a1.alloc (.deferred (Wy []));have ⟨a5,a6⟩:=a3.alloc (.loop R0);have a7:=a4.trans a6 G_;have L:=a2.trans a7 G_;have S:=A.trans L G_;simp only[World.size_alloc]at a5;refine⟨a,G',m',(w2.heap.size+1+1)::(w2.heap.size+1)::w2.heap.size::g::X,a5,G_,G_,⟨eh hW K,D,λb q=>eh (aa b q) K⟩,(S.same _ rE).trans q4,⟨q5.1,λb q=>(S.same b (by simp[o,q])).trans (q5.2 b q)⟩,(d _ _ _ _ _ _ _ (S.sub G_)).1 q6,q7,by simp[h0];exact Z,(a7.same _ s_).trans (aV _ _ rfl _),λi q=>?_,λi q=>?_,by simp[h0];exact Z⟩;have ⟨_,_,c,e1,e2,e3⟩:=r4.cell (i:=i) qu;obtain⟨rfl,-,rfl⟩:=by simpa using e1
 unfold Cx at e2;subst e2;simp only[Q i qu];exact Cf.h_ ⟨e3 0 _ aJ,e3 1 _ aJ,e3 2 _ aJ,e3 3 _ aJ,e3 4 _ aJ,D⟩ (L.same _ s_) L.size;have ⟨τ,s1,s2⟩:=r7 i qu;exact⟨τ,by simp only[Q i (by simp at q;exact Z)];exact L.is _ _ s1,by simp[h0,s2]⟩;rintro x i V ⟨a,G,m,X,q⟩;have ⟨k1,k2⟩:=q.on.alloc (bO (x.vs i).cells 55);have ht:=q.tm;have hl:=(q.on.live.loc (x.w2.heap.size+1+1) (by simp[q.mem])).2.1;have:=q.ge;have:=q.mem (x.w2.heap.size+1+1) s_;exact⟨hl,(bk q.sl).1 0,q.el i Z,⟨a,G,m,V.heap.size::X,q.to k1 G_ G_ (λb _ _=>by grind) k2 ((d _ _ _ _ _ _ _ (k2.sub G_)).1 q.j) q.st ht,s_⟩,aV _ _ rfl _,hl⟩;intro x V r;have hp:∀(t:bW->bL->Nat->lA),(∀a F n W G w W',C.to ag F n W G w W'->t a F n W->t a G w W')->∀i a G m X,EQ C ag t l W.heap.size x i V a G m X->EQ C ag t l W.heap.size x i (V.putObj (x.w2.heap.size+1+1) (.loop r)) a G m X:=λt T i a G m X q=>by have hm:=q.mem (x.w2.heap.size+1+1) s_;have P:=q.ge _ hm;have ⟨k1,k2⟩:=q.on.but (tq.put V (x.w2.heap.size+1+1) (.loop r)) (by simp[hm];exact Z);exact q.to k1 LR q.ge (R:=X.filter (·≠x.w2.heap.size+1+1)) (by simp+contextual) (k2 _ (by simp+contextual)) (T _ _ _ _ _ _ _ (k2 ag λb h=>⟨rm,by have:=v b rm;simp;exact Z⟩) q.j) q.st q.tm
 exact⟨λi b ⟨⟨a,G,m,X,p,y⟩,o,q4⟩=>⟨⟨a,G,m,X,hp J (λ_ _ _ _ _ _ _ k=>(d _ _ _ _ _ _ _ k).1) _ _ _ _ _ p,y⟩,by rw[World.putObj_heap_other Z];exact o,q4⟩,λi ⟨a,G,m,X,q⟩=>⟨a,G,m,X,hp J (λ_ _ _ _ _ _ _ k=>(d _ _ _ _ _ _ _ k).1) _ _ _ _ _ q⟩,λ⟨i,a,G,m,X,q⟩=>⟨i,a,G,m,X,hp E (λ_ _ _ _ _ _ _ k=>(d _ _ _ _ _ _ _ k).2) _ _ _ _ _ q⟩⟩;rintro x i b V ⟨⟨a,G,m,X,q,af⟩,ac,ae⟩;have ⟨t1,t2⟩:=q.tm;have ⟨τ,s1,s2⟩:=q.is i Z;have ⟨fn,tmps,assign,body,hy,hr⟩:=hY X G m V a τ (x.vs i) q.on q.j q.st (by simp[Nx];exact Z) s1;refine⟨ac,q.yc,fn,tmps,assign,body,hy,hr.mono ?_⟩;rintro e V' ⟨hB,hr⟩;have ⟨k1,k2⟩:=q.on.but hB λb h=>⟨rm,hU b h⟩;have H:=k2 X λb h=>⟨rm,λh'=>by have:=q.ge b h;have:=v b (by simp[h']);exact Z⟩;have hq:∀{t:bW->bL->Nat->lA},t τ G m V'->EQ C ag t l W.heap.size x i V' τ G m X:=λN=>q.to k1 LR q.ge (λ_ h _=>h) H N s1.st ⟨s2,Z⟩;exact⟨⟨H.same _ (q.mem _ s_),H.same _ (q.mem _ s_)⟩,hr.imp (λh=>⟨h.1,τ,G,m,X,hq h.2⟩) λh=>⟨h.1,i,τ,G,m,X,hq h.2⟩⟩;rintro x V ⟨a,G,m,X,q⟩ M;have ⟨k1,k2⟩:=q.on.alloc (bO (x.vs 0).cells 55);have ⟨e1,e2,e3⟩:=q.e;have ⟨l1,l2,l3⟩:=q.lt;have hV:=(q.on.live.loc W.heap.size (by simp[q.mem])).2.1;exact⟨q.el 0 Z,(x.vs 0).t,Z,a,G,m,V.heap.size::X,k1,by have:=q.ge;grind,by have:=q.mem;grind,(k2.same _ (by simp[q.mem])).trans q.yc,⟨eu.2 ⟨λh=>by have:=l3 _ h;exact Z,q.ma.1⟩,λb h=>by rw[k2.same b (by have:=q.mem;grind)];rcases ew.1 h with rfl|h;exact M;exact q.ma.2 b h⟩,(d _ _ _ _ _ _ _ (k2.sub G_)).1 q.j,q.st,q.tm.1,rfl,Z⟩;rintro x V ⟨i,a,G,m,X,q⟩ M;have ⟨l1,l2,l3⟩:=q.lt;have ⟨z,_,A⟩:=s X V a G m ((x.w2.heap.size+1)::x.ms) q.on q.ge (by have:=q.mem;grind);exact⟨⟨eu.2 ⟨λh=>by have:=l3 _ h;exact Z,q.ma.1⟩,λb h=>by rcases ew.1 h with rfl|h;exact M;exact q.ma.2 b h⟩,a,G,m,z,.inr (A q.j)⟩
end
attribute [local go_sem] Oper.semAt_some
def V9(a:Array Xa)(W:aN):(callFunc 118 a).run Xi W=.ok (.enter 118 a) W:=(enters_of func118 k_ rfl) a W
def Ey(a:Array Xa)(W:aN):(callFunc 119 a).run Xi W=.ok (.enter 119 a) W:=(enters_of func119 k_ rfl) a W
def o7(a:Array Xa)(W:aN):(callFunc 69 a).run Xi W=.ok (.enter 69 a) W:=(enters_of func69 k_ rfl) a W
def Kk(a:Array Xa)(W:aN):(callFunc 122 a).run Xi W=.ok (.enter 122 a) W:=(enters_of func122 k_ rfl) a W
def Er(f:Nat)(a:aX)(w:aN):(Instr.makeFunc (.func f) #[] #[a]).run Xi w=.ok (.func (.func f) #[] #[a]) w:=rfl
def DU(a:Nat)(W:aN):W_ Xi 68 #[aY a] W λe W'=>e=bR (.func (.func 118) #[] #[aY (H_ W)])/\W'=eF W #[aY a] 32:=by have:=Er;go_in;go_wp2;go_ret;exact⟨aJ,aJ⟩
def FO(a:Nat)(W:aN):W_ Xi 70 #[aY a] W λe W'=>e=bR (.func (.func 119) #[] #[aY (H_ W)])/\W'=eF W #[aY a] 32:=by have:=Er;go_in;go_wp2;go_ret;exact⟨aJ,aJ⟩
def RU(d:Int)(W:aN):W_ Xi 71 #[Y d] W λe W'=>e=bR (.func (.func 122) #[] #[aY (H_ W)])/\W'=eF W #[Y d] 3:=by have:=Er;go_in;go_wp2;go_ret;exact⟨aJ,aJ⟩
def CM(v:SV)(W:aN):W_ Xi 69 (#[]++#[v.val]++#[]) W λe W'=>e=bR (Xr W1)/\R_ W W':=by show W_ _ _ #[v.val] _ _;unfold SV.val;go_in;go_wp2;go_ret;exact⟨aJ,lj⟩
def PZ(v:SV)(W:aN):W_ Xi 72 #[v.val] W λe W'=>e=bR (Y v.n1)/\W'=eF W v.cells 55:=by unfold SV.val SV.cells;go_in;go_wp2;go_ret;exact⟨aJ,aJ⟩
def MQ(v:SV)(a:Nat)(d:Int)(W:aN)(h:W.heap[a]?=Wy (bO #[Y d] 3)):W_ Xi 122 #[v.val,aY a] W λe W'=>e=bR (Xr (decide ((v.n1:Int)<=d)))/\R_ W W':=by have b:=O (PZ v);unfold SV.val SV.cells at b;unfold SV.val;have ⟨b1,b2,b3⟩:=bk h;clear h;go_in;go_wp2;go_region_law (go_simp;go_at_call 72;refine mJ (b _) ?_);all_goals dsimp only[Exit.then];go_wp2;go_ret;exact⟨aJ,lj⟩
def shallow(d:Int)(σ:bW):Bool:=decide ((aA σ.m.f_:Int)<=d)
def pA.deep{a:iJ}{v:SV}{s:bW}(h:pA a x w v.val s):v.n1=aA s.m.f_:=by have ⟨fv,tv,ov,v_,e,h1,h2,_⟩:=h;rw[<-h2.length];unfold SV.val at e;simp at e;rcases h1 with ⟨rfl,_,_,q⟩|⟨_,_,_,q,_⟩;all_goals rw[q]at e;simp at e;exact e.2.1.2.1
section
variable {fp:iJ} {F:bL} {w W:aN} {sb mb n bb cb gf gn:Nat} {mo:Obj} {ks:List aC} {tape:List Int} {s:bW} {L M:List Nat} {u:Bool} {p:bW->Bool} {rf lf:Array Xa} {d:Int}
def R3(j:∀a W,(callFunc gf a).run Xi W=.ok (.enter gf a) W)(v:∀{C:GX}{bb},Good C.ks->aA C.tape<=17592186044416->bb∈C.L->C.w.heap[bb]?=Wy (bO #[aY C.sb] 32)->Dn C u gf #[aY bb])(l:Good ks)(g:aA tape<=17592186044416)(h:td fp F w sb mb mo ks tape s n L)(d:R_ w W)(o:∀b∈bb::M,H_ w<=b/\b<H_ W)(i:W.heap[bb]?=Wy (bO #[aY sb] 32))(f:∀a W,(callFunc gn a).run Xi W=.ok (.enter gn a) W)(c:DA ⟨fp,sb,mb,mo,ks,tape,s,W,bb::M++L⟩ p gn rf lf):W_ Xi 67 #[aY sb,.func (.func gf) #[] #[aY bb],.func (.func gn) rf lf] W λe k=>∃b,e=bR (Xr b)/\qO fp sb mb mo ks tape L (vu u (dV ks tape) p s) w b k:=by have r:=h.yj (h.but (tq.below d []) s_) (d.block _ h.vb.lt) (bb::M) o;apply (Iu (C:=⟨fp,sb,mb,mo,ks,tape,s,W,bb::M++L⟩) l r j f c (v l g s_ i)).mono;rintro e k ⟨b,rfl,G,m,x,q,y,t⟩;exact⟨b,aJ,G,m,x,q.drop (by simp+contextual),y,(FS.p_ d h.vb.lt).trans t⟩
def YG{C:GX}(a:cb∈C.L)(c:C.w.heap[cb]?=Wy (bO #[Y d] 3)):DA C (shallow d) 122 #[] #[aY cb]:=λM F n W v i h b=>by apply (MQ v cb d W ((h.mem cb a).2.2.trans c)).mono;rintro e g ⟨rfl,f⟩;exact⟨by unfold shallow;rw[b.str.deep],f⟩
def F_{Z_:Prop}(Y_:Z_:=by go_in;go_wp2_with fail;apply HL.mono;rintro e d ⟨rfl,rfl⟩;go_wp2_with fail;apply HG.mono;rintro e f ⟨b,rfl,a⟩;have c:=O a;clear a HG HL;go_wp2;go_ret;exact⟨b,aJ,c⟩):Z_:=Y_
def Vp(d:Good ks)(a:aA tape<=17592186044416)(h:td fp F w sb mb mo ks tape s n L):W_ Xi 27 #[aY sb] w λe c=>∃b,e=bR (Xr b)/\qO fp sb mb mo ks tape L (vu W1 (dV ks tape) (λ_=>W1) s) w b c:=by have HL:=O (DU sb w);have HG:=O (R3 (bb:=H_ w) (M:=[]) V9 AC d a h lj s_ (aV _ _ rfl _) o7 (p:=λ_=>W1) λM F n W v i _ _=>CM v W);clear h;exact F_
def Mn(d:Good ks)(a:aA tape<=17592186044416)(h:td fp F w sb mb mo ks tape s n L):W_ Xi 29 #[aY sb] w λe c=>∃b,e=bR (Xr b)/\qO fp sb mb mo ks tape L (vu WD (dV ks tape) (λ_=>W1) s) w b c:=by have HL:=O (FO sb w);have HG:=O (R3 (bb:=H_ w) (M:=[]) Ey BP d a h lj s_ (aV _ _ rfl _) o7 (p:=λ_=>W1) λM F n W v i _ _=>CM v W);clear h;exact F_
def Em{f:Nat}(g:∀a W,(callFunc f a).run Xi W=.ok (.enter f a) W)(k:∀{C:GX}{bb},Good C.ks->aA C.tape<=17592186044416->bb∈C.L->C.w.heap[bb]?=Wy (bO #[aY C.sb] 32)->Dn C u f #[aY bb])(o:Good ks)(i:aA tape<=17592186044416)(h:td fp F w sb mb mo ks tape s n L)(m:R_ w W)(q:H_ w<=bb)(p:H_ w<=cb)(c:W.heap[bb]?=Wy (bO #[aY sb] 32))(j:W.heap[cb]?=Wy (bO #[Y d] 3)):W_ Xi 67 #[aY sb,.func (.func f) #[] #[aY bb],.func (.func 122) #[] #[aY cb]] W λe l=>∃b,e=bR (Xr b)/\qO fp sb mb mo ks tape L (vu u (dV ks tape) (shallow d) s) w b l:=R3 (M:=[cb]) g k o i h m (by have:=aH c;have:=aH j;simp;exact Z) c Kk (YG s_ j)
def Cy(w:aN)(a b c:Obj):R_ w (((w.alloc a).alloc b).alloc c).drew/\(((w.alloc a).alloc b).alloc c).drew.heap[H_ w]?=Wy a/\(((w.alloc a).alloc b).alloc c).drew.heap[H_ w+1]?=Wy b/\(((w.alloc a).alloc b).alloc c).drew.heap[H_ w+1+1]?=Wy c:=by
 have:R_ w (((w.alloc a).alloc b).alloc c):=by go_grown
 refine⟨⟨this.os,this.tape,this.output,this.size,this.block⟩,?_⟩;show (((w.alloc a).alloc b).alloc c).heap[H_ w]?=Wy a/\(((w.alloc a).alloc b).alloc c).heap[H_ w+1]?=Wy b/\(((w.alloc a).alloc b).alloc c).heap[H_ w+1+1]?=Wy c;grind[ed,bI,World.size_alloc]
def Ei{Z_:Prop}(Y_:Z_:=by have ⟨v,ev,hv,hs⟩:=h.vb.vb;have c:=O (PZ v);have f:=O RU;have ⟨k1,k2,k3⟩:=bk hs;rw[<-hv.deep];have g:=O hv.deep;unfold JA at k1;unfold SV.val SV.cells at c;clear h hv hs k2;go_in;go_wp2;go_region_law (go_simp;first|(go_at_call 68;refine mJ (HL _) ?_)|(go_at_call 70;refine mJ (HL _) ?_)|(go_at_call 72;refine mJ (c _) ?_)|(go_at_call 71;refine mJ (f _ _) ?_)|(go_at_call 67;apply (HG _ _ _ _ (Cy _ _ _ _).1 Z Z (by first|exact(Cy _ _ _ _).2.1|exact(Cy _ _ _ _).2.2.1|exact(Cy _ _ _ _).2.2.2) (by first|exact(Cy _ _ _ _).2.2.1|exact(Cy _ _ _ _).2.2.2)).mono;rintro e i ⟨b,rfl,a⟩));all_goals have d:=O a;clear a;dsimp only[Exit.then];go_wp2;go_ret;exact⟨b,aJ,d⟩):Z_:=Y_
def Wo(f:Good ks)(a:aA tape<=17592186044416)(h:td fp F w sb mb mo ks tape s n L):W_ Xi 30 #[aY sb] w λe c=>∃b,e=bR (Xr b)/\qO fp sb mb mo ks tape L (vu W1 (dV ks tape) (shallow (aA s.m.f_)) s) w b c:=by have HL:=O (DU sb);have HG:=O λbb cb d W=>Em (bb:=bb) (cb:=cb) (d:=d) (W:=W) V9 AC f a h;exact Ei
def Vo(f:Good ks)(a:aA tape<=17592186044416)(h:td fp F w sb mb mo ks tape s n L):W_ Xi 32 #[aY sb] w λe c=>∃b,e=bR (Xr b)/\qO fp sb mb mo ks tape L (vu W1 (dV ks tape) (shallow (IntKind.i64.wrap ((aA s.m.f_:Int)-1))) s) w b c:=by have HL:=O (DU sb);have HG:=O λbb cb d W=>Em (bb:=bb) (cb:=cb) (d:=d) (W:=W) V9 AC f a h;exact Ei
def TN(f:Good ks)(a:aA tape<=17592186044416)(h:td fp F w sb mb mo ks tape s n L):W_ Xi 33 #[aY sb] w λe c=>∃b,e=bR (Xr b)/\qO fp sb mb mo ks tape L (vu WD (dV ks tape) (shallow (aA s.m.f_)) s) w b c:=by have HL:=O (FO sb);have HG:=O λbb cb d W=>Em (bb:=bb) (cb:=cb) (d:=d) (W:=W) Ey BP f a h;exact Ei
end
structure DG(u:Bool)(n:Nat)(q:Nat->Bool)(a t:Nat)(b:Bool):Prop where
 at_:t=a\/xi u a t
 lt:t<n
 no:∀i,xi u a i->xi u i t->q i=WD
 fd:b=W1↔t≠a
 fin:(if u then t+1=n else t=0)\/(b=W1/\q t=W1)
def DG.one{q:Nat->Bool}{a:Nat}{b d:Bool}(h:DG G S q a T b)(k:DG G S q a I d):T=I/\b=d:=by
 have:∀{T I b d},DG G S q a T b->DG G S q a I d->¬xi G T I:=λ{T I b d} h k e=>by have g:=h.fin;have f:=h.at_;have l:=k.no T;have i:=h.fd;have j:=k.lt;cases G<;>simp only[xi,if_true,if_false,jf]at*<;>grind
 have g:=this h k;have f:=this k h;have e:T=I:=by cases G<;>simp only[xi,if_true,if_false,jf]at*<;>exact Z
 subst e;exact⟨aJ,ji.2 (h.fd.trans k.fd.symm)⟩
section
variable {w:aN} {b n c at_ g:Nat} {x:Option Xe}
def JE{t d e:Nat}{y:Option Xe}(j:dR w b 0 (P_ (Wy (aL g 0)) n c))(i:dR w g (t*6+1) (P_ y d e))(k:t<n):W_ Xi 73 #[aY b,Y t] w λe a=>e=bR (Y d)/\a=w:=by have f:(0:Int)<=(t:Int):=Z;have l:(t:Int)<(n:Int):=Z;go_in;go_wp2;go_ret;exact⟨aJ,aJ⟩
def RT(w:aN)(b at_ n:Nat)(u:Bool)(q:Nat->Bool)(e:Ending)(w':aN):Prop:=∃t r,e=bR (Xr r)/\DG u n q at_ t r/\(w'=w.setCell (aL b 1) (Y t)\/(w'=w/\t=at_))
variable (h0:I_ w (aL b 0)=Wy (.slice (Wy (aL g 0)) n c)) (h1:I_ w (aL b 1)=Wy (Y at_)) (hf:w.frozen? (aL b 1)=WD) (hl:n<=1000) (ha:at_<n)
include h0 h1 hf hl ha
def OJ(u:Bool):W_ Xi 28 #[aY b,Y (if u then 1 else -1)] w (RT w b at_ n u λ_=>W1):=by
 cases u;all_goals have a:=O λt=>OK w t h0 h1 hf hl;clear h0 hf;go_in;go_wp2_with fail;apply (a _).mono;rintro e d (⟨c,f,rfl,rfl⟩|⟨c,rfl,rfl⟩);all_goals clear h1 a;go_wp2;go_ret
 exact⟨at_-1,W1,aJ,⟨nn,Z,nn,la,s_⟩,.inl (by rw[show ((at_-1:Nat):Int)=(at_:Int)+-1 by exact Z])⟩;exact⟨at_,WD,aJ,⟨s_,ha,nn,s_,la⟩,.inr ⟨rfl,rfl⟩⟩;exact⟨at_+1,W1,aJ,⟨by simp[xi],Z,nn,s_,s_⟩,.inl rfl⟩;exact⟨at_,WD,aJ,⟨s_,ha,nn,s_,la⟩,.inr ⟨rfl,rfl⟩⟩
variable {dp:Nat->Nat} (hd:∀t,t<n->dp t<=1000/\∃y e,I_ w (aL g (t*6+1))=Wy (.slice y (dp t) e))
include hd
def OL(c:Nat)(F:c<=1):W_ Xi 31 #[aY b,Y c] w (RT w b at_ n W1 λi=>decide ((dp i:Int)<=(dp at_:Int)-c)):=by
 have g:=O (OM w h0 hl);have o:=O λt (f:t<n)=>have ⟨y,e,q⟩:=(hd t f).2;JE h0 q f;have A:=(hd at_ ha).1;have u:=O λt (f:t<n)=>(hd t f).1;clear h0 hd;by_cases D:at_+1=n
 .have B:((at_:Int)==(n:Int)-1)=W1:=by simp;exact Z
  go_in;go_wp2_with (apply mJ g);go_ret;exact⟨at_,WD,aJ,⟨s_,ha,nn,s_,by simp[D]⟩,.inr ⟨rfl,rfl⟩⟩
 have B:((at_:Int)==(n:Int)-1)=WD:=by simp;exact Z
 have l:=O (o at_ ha);go_in;go_wp2_with (first|apply mJ g|apply mJ l);go_loopg [7] (n-at_-1) (λgk s wr=>∃t:Nat,s=Y t/\wr=w/\at_<t/\t<n/\t+gk=n/\∀i,at_<i->i<t->¬(dp i:Int)<=(dp at_:Int)-c);case atStart=>exact⟨at_+1,ll,rfl,Z,Z,Z,Z⟩
 case round=>
  obtain⟨t,rfl,rfl,m,d,E,r⟩:=hrel;have j:=O (o t d);have p:=u t d;clear l g;by_cases z:t+1=n;.have x:¬(t:Int)<(n:Int)-1:=Z;go_wp2_with (apply mJ j);go_ret;exact⟨t,W1,aJ,⟨by simp[xi,m],d,nn,la,by simp[z]⟩,.inl rfl⟩
  have x:(t:Int)<(n:Int)-1:=Z;by_cases k:(dp t:Int)<=(dp at_:Int)-c;.have C:¬(dp t:Int)>(dp at_:Int)-c:=Z;go_wp2_with (apply mJ j);go_ret;exact⟨t,W1,aJ,⟨by simp[xi,m],d,nn,la,by simp[k]⟩,.inl rfl⟩
  have C:(dp t:Int)>(dp at_:Int)-c:=Z;go_wp2_with (apply mJ j);go_roundg (gk-1);case measure=>exact Z
  case rel=>exact⟨t+1,ll,rfl,Z,Z,Z,λi v G=>by by_cases e:i=t;subst e;exact k;exact r i v Z⟩
def MJ:W_ Xi 34 #[aY b] w (RT w b at_ n WD λi=>decide ((dp i:Int)<=dp at_)):=by
 have m:=O λt (d:t<n)=>have ⟨y,e,q⟩:=(hd t d).2;JE h0 q d;have u:=(hd at_ ha).1;have r:=O λt (d:t<n)=>(hd t d).1;clear h0 hd;by_cases x:at_=0;.subst x;go_in;go_wp2;go_ret;exact⟨0,WD,aJ,⟨s_,ha,by simp[xi],s_,s_⟩,.inr ⟨rfl,rfl⟩⟩
 have B:((at_:Int)==0)=WD:=by simp;exact Z
 have k:=O (m at_ ha);go_in;go_wp2_with (apply mJ k);go_loopg [4] at_ (λgk o wr=>∃t:Nat,o=Y t/\wr=w/\t<at_/\t+1=gk/\∀i,i<at_->t<i->¬(dp i:Int)<=(dp at_:Int));case atStart=>exact⟨at_-1,ll,rfl,Z,Z,Z⟩
 case round=>
  obtain⟨t,rfl,rfl,l,z,f⟩:=hrel;have g:=O (m t Z);have p:=r t Z;clear k;by_cases s:t=0;.subst s;go_wp2_with (apply mJ g);go_ret;exact⟨0,W1,aJ,⟨by simp[xi,l],Z,λi a c=>by simp[xi]at a c;simpa using f i a c,la,s_⟩,.inl rfl⟩
  have A:(t:Int)>0:=Z;by_cases j:(dp t:Int)<=(dp at_:Int);.have v:¬(dp t:Int)>(dp at_:Int):=Z;go_wp2_with (apply mJ g);go_ret;exact⟨t,W1,aJ,⟨by simp[xi,l],Z,λi a c=>by simp[xi]at a c;simpa using f i a c,la,by simp[j]⟩,.inl rfl⟩
  have v:(dp t:Int)>(dp at_:Int):=Z;go_wp2_with (apply mJ g);go_roundg (gk-1);case measure=>exact Z
  case rel=>exact⟨t-1,ll,rfl,Z,Z,λi a c=>by by_cases e:i=t;subst e;exact j;exact f i a Z⟩
end
def Aq(k t:Int)(x:ByteArray):aX:=.agg #[Y k,Y t,Xm x]
def B6(k t:Int)(x:ByteArray):Obj:=Xt #[Y k,Y t,Xm x] 30
def El(k t:Int)(sb rb pf:Nat)(pa:Array Xa)(df:Nat)(da:Array Xa):Prop:=(k=2/\pf=25/\pa=#[aY sb,Y t]/\df=26/\da=#[aY rb,Y t])\/(k=3/\pf=27/\pa=#[aY sb]/\df=28/\da=#[aY rb,Y 1])\/(k=4/\pf=29/\pa=#[aY sb]/\df=28/\da=#[aY rb,Y (-1)])\/(k=5/\pf=30/\pa=#[aY sb]/\df=31/\da=#[aY rb,Y 0])\/(k=6/\pf=32/\pa=#[aY sb]/\df=31/\da=#[aY rb,Y 1])\/(k=7/\pf=33/\pa=#[aY sb]/\df=34/\da=#[aY rb])
section
variable {w:aN} {pb sb rb pf df:Nat} {k t:Int} {x:ByteArray} {pa da:Array Xa} {pv:aX} {A:Bool->World->Prop} {B:lA}
def XF(u:El k t sb rb pf pa df da)(d:w.heap[pb]?=Wy (bO (Bp sb rb pv) 43)) (j:Hid (∀W,bZ (w.alloc (B6 k t x)) W->W_ Xi pf pa W λe f=>∃b,e=bR (Xr b)/\A b f)) (i:Hid (∀b W,A b W->W.heap[pb]?=Wy (bO (Bp sb rb pv) 43)/\W.heap[H_ w]?=Wy (B6 k t x))) (q:Hid (∀b W V,A b W->bZ W V->W_ Xi df da V λe f=>e=bR (Xr b)/\B f)):W_ Xi 10 #[aY pb,Aq k t x] w λe f=>e=bR (Xr W1)/\B f:=by
 have s:=aH d;generalize p:w.alloc (B6 k t x)=W at j;have o:W.heap[pb]?=Wy (bO (Bp sb rb pv) 43):=by grind[ed]
 have l:W.heap[H_ w]?=Wy (B6 k t x):=by grind[bI]
 unfold Bp at o i;unfold B6 at p l i;have ⟨p1,p2,p3⟩:=bk o;have ⟨o1,o2,o3⟩:=bk l;clear d o l p2 o2;unfold Aq;rcases u with ⟨rfl,rfl,rfl,rfl,rfl⟩|⟨rfl,rfl,rfl,rfl,rfl⟩|⟨rfl,rfl,rfl,rfl,rfl⟩|⟨rfl,rfl,rfl,rfl,rfl⟩|⟨rfl,rfl,rfl,rfl,rfl⟩|⟨rfl,rfl,rfl,rfl,rfl⟩;case inl=>
  go_in;go_wp2;clear p;go_cut [5] (λx v=>∃b,x=Xr b/\A b v);case first=>go_region_law (go_simp;go_at_call 25;apply (j _ (bZ.drew W)).mono;rintro e r ⟨b,rfl,a⟩);all_goals have c:=O a;clear a p1 o1;go_simp;go_step;go_meet;exact⟨b,aJ,c⟩
  case rest=>obtain⟨b,rfl,a⟩:=hcut;have ⟨q1,q2⟩:=i _ _ a;have ⟨p1,p2,p3⟩:=bk q1;have ⟨o1,o2,o3⟩:=bk q2;have c:=O a;clear a q1 q2 p2 o2;go_wp2;go_region_law (go_simp;go_at_call 26;refine sa (q _ _ _ c (bZ.drew _)) λr g=>?_);all_goals have m:=O g;clear g p1 o1;cases b;all_goals go_wp2;go_ret;exact⟨aJ,m⟩
 all_goals have n:=O (j W ⟨aJ,aJ,aJ,aJ⟩);clear j;go_in;go_wp2_with fail;apply n.mono;rintro e y ⟨b,rfl,a⟩;have ⟨q1,q2⟩:=i _ _ a;have ⟨p1,p2,p3⟩:=bk q1;have c:=O (q _ _ y a ⟨aJ,aJ,aJ,aJ⟩);clear a q1 q2 p2;go_wp2_with fail;apply c.mono;rintro e z ⟨rfl,g⟩;have m:=O g;clear g p1 c;cases b;all_goals go_wp2;go_ret;exact⟨aJ,m⟩
def KB(d:1<=k)(f:k<=7)(b:Hid (k=1->W_ Xi 9 #[aY pb] (w.alloc (B6 k t x)) λe a=>e=bR (Xr W1)/\B a)) (c:Hid (k≠1->W_ Xi 10 #[aY pb,Aq k t x] (w.alloc (B6 k t x)) λe a=>e=bR (Xr W1)/\B a)):W_ Xi 6 #[aY pb,Aq k t x] w λe a=>e=bR (Xr W1)/\B a:=by
 unfold Aq B6 at c;unfold B6 at b;unfold Aq;obtain rfl|rfl|rfl|rfl|rfl|rfl|rfl:k=1\/k=2\/k=3\/k=4\/k=5\/k=6\/k=7:=Z;case inl=>have H:=O (b aJ);clear b c d f;go_in;go_wp2_with (refine sa H λa h=>?_);go_ret;exact⟨aJ,h⟩
 all_goals have H:=O (c d_);clear b c d f;go_in;go_wp2_with (refine sa H λa h=>?_);go_ret;exact⟨aJ,h⟩
end
def N5{v:aX}{y:Option Xe}{P:lA}{J:Nat->Nat->World->Prop}(L:S<=1000000) (r:Hid (W_ Xi 5 #[v,z] w λe b=>(e=bR (Xp #[.pointer none,Xr W1])/\P b)\/∃pb,e=bR (Xp #[aY pb,Xr W1])/\J pb 0 b)) (d:Hid (∀pb i W,J pb i W->i<S->∃g o k t x,y=Wy (aL g o)/\dR W g (o+i*3) (Y k)/\dR W g (o+i*3+1) (Y t)/\dR W g (o+i*3+2) (Q_ x)/\(1<=k->k<=7->W_ Xi 6 #[aY pb,Aq k t x] W λe b=>e=bR (Xr W1)/\J pb (i+1) b)/\(¬(1<=k/\k<=7)->J pb (i+1) W))) (l:Hid (∀pb W,J pb S W->P W)):W_ Xi 3 #[v,z,P_ y S T] w λe b=>e=bR (Xr W1)/\P b:=by
 unfold Aq at d;have E:Hid (W_ Xi 4 #[v,z,P_ y S T,Y 1,Y 7] w λe b=>e=bR (Xr W1)/\P b):=by
  show W_ _ _ _ _ _;go_in;go_wp2_with fail;apply r.mono;rintro e F (⟨rfl,q⟩|⟨pb,rfl,a⟩)
  .have m:=O q;clear q r d l;go_wp2;go_loopg [12,13] 1 (λgk ok i wr=>gk=1/\i=Y 0/\ok=Xr W1/\P wr);case atStart=>exact⟨aJ,aJ,aJ,m⟩
   case round=>obtain⟨-,rfl,rfl,q⟩:=hrel;have m:=O q;clear q;go_wp2;go_ret;exact⟨aJ,m⟩
  have m:=O a;clear a r;go_wp2;go_loopg [12,13] (S+1) (λgk ok i wr=>∃j:Nat,j+gk=S+1/\j<=S/\i=Y j/\ok=Xr W1/\J pb j wr);case atStart=>exact⟨0,Z,Z,rfl,rfl,m⟩
  case round=>
   clear m;obtain⟨j,N,C,rfl,rfl,a⟩:=hrel;have G:(0:Int)<=(j:Int):=Z;by_cases u:j<S
   .obtain⟨g,o,k,t,x,rfl,H,I,K,s,p⟩:=d _ _ _ a u;have M:(j:Int)<(S:Int):=Z;by_cases A:k<1
    .have f:=O (p Z);clear s p a d l;go_wp2;go_roundg (gk-1);case measure=>exact Z
     case rel=>exact⟨j+1,Z,Z,ll,rfl,f⟩
    by_cases B:k>7
    .have f:=O (p Z);clear s p a d l;go_wp2;go_roundg (gk-1);case measure=>exact Z
     case rel=>exact⟨j+1,Z,Z,ll,rfl,f⟩
    have f:=O (s Z Z);clear s p a d l;go_wp2_with (refine sa f λD h=>?_);go_roundg (gk-1);case measure=>exact Z
    case rel=>exact⟨j+1,Z,Z,ll,rfl,h⟩
   obtain rfl:j=S:=Z;have f:=O (l _ _ a);clear a d l;go_wp2;go_ret;exact⟨aJ,f⟩
 clear r d l;go_in;go_wp2_with (refine sa E λD h=>?_);go_ret;exact⟨aJ,h⟩
structure ED(P:bL)(W:aN)(rb t:Nat)(mv:aX)(l:List fK):Prop where
 i_:W.heap[rb]?=Wy (Xt #[mv,Y t,bP] 71)
 wy:Own 6 80 (Ag P W) W mv l.zipIdx
 row:∀b,mv.ownBlock=Wy b->P b
def Own.tag{R:List Xa->H->Prop}{l:List H}(h:Own S e R w z l)(d:z.ownBlock=Wy T):∃a,w.heap[T]?=Wy (bO a e):=by obtain⟨j,⟨-,f⟩,-⟩:=h;rcases f with ⟨rfl,-⟩|⟨g,i,a,rfl,-,q,-⟩;cases d;cases d;grind
def Ay(P:bL)(W W':aN):Prop:=∀(b:Nat) (cur:Array Xa) (e:Xd),P b->W.heap[b]?=Wy (Xt cur e)->e∈[80,135,137,9]->W'.heap[b]?=W.heap[b]?
def ED.stay{Q:bL}{a:aN}{l:List fK}(h:ED x w S T z l)(o:Ay x w a)(r:∀b,x b->Q b)(m:a.heap[S]?=Wy (bO #[z,Y I,bP] 71)):ED Q a S I z l:=by have p:∀{j:Type}{k:Nat}{e:Xd}{R:List Xa->j->Prop}{v:aX}{l:List j},e∈[80,135,137,9]->Fz k e R x w v l->Fz k e R Q a v l:=λs q=>⟨q.row.h_ (λb c=>by obtain⟨d,n⟩:=q.row.tag c;grind[Fz.i_,Ay]) s_,(by grind[Fz.i_])⟩;refine⟨m,h.wy.h_ (λb c=>by obtain⟨d,n⟩:=h.wy.tag c;grind[ED.row,Ay]) (by grind[Ag]),(by grind[ED.row])⟩
structure pE(w:aN)(ks:List aC)(tape:List Int)(l:List fK)(pb k:Nat)(s:bW)(W:aN)(sb rb:Nat)(L:List Nat)(mv pv:aX):Prop where
 live:∃fp F mb n,td fp F W sb mb (.map #[] 0) ks tape s n L
 Dp:w.heap.size<=sb/\w.heap.size<=rb
 low:R_ w W
 doc:ED (λb=>b<w.heap.size\/b∈L) W rb s.m_ mv l
 pr:W.heap[pb]?=Wy (Xt (Bp sb rb pv) 43)
 pg:Rw 4 85 L W k W pv
 mem:pb∈L/\rb∈L
 new:w.heap.size<=pb/\∀b,pv.ownBlock=Wy b->w.heap.size<=b
structure Told(ks:List aC)(tape:List Int)(l:List fK):Prop where
 vw:Good ks
 tl:aA tape<=17592186044416
 len:aA l<=1000
 told:∀t,(t<aA l->∃s,dV ks tape t=Wy s/\l[t]?=Wy (Hs.sy s.m s.stop))/\(aA l<=t->dV ks tape t=none)
section
variable {w W:aN} {ks:List aC} {tape:List Int} {l:List fK} {pb k:Nat} {s:bW} {sb rb:Nat} {L:List Nat} {mv pv:aX}
def pE.move{v t:Int}{x:ByteArray}{pf df:Nat}{pa da:Array Xa}{R:Nat->Bool->Prop}(hk:El v t sb rb pf pa df da)(h:pE w ks tape l pb k s W sb rb L mv pv)(hR:∀{a b a' b'},R a b->R a' b'->a=a'/\b=b') (HP:∀{E F V J n L},td E F V sb J (.map #[] 0) ks tape s n L->W_ Xi pf pa V λe y=>∃b,e=bR (Xr b)/\qO E sb J (.map #[] 0) ks tape L (λτ b=>R τ.m_ b) V b y) (HD:∀{P V},ED P V rb s.m_ mv l->W_ Xi df da V λe y=>∃o r,e=bR (Xr r)/\R o r/\(y=V.setCell (aL rb 1) (Y o)\/(y=V/\o=s.m_))):W_ Xi 6 #[aY pb,Aq v t x] W λe y=>e=bR (Xr W1)/\∃τ L',pE w ks tape l pb k τ y sb rb L' mv pv:=by
 obtain⟨E,F,J,n,hl⟩:=h.live;have N:2<=v/\v<=7:=by unfold El at hk;exact Z
 refine KB Z N.2 (λe=>Z) λ_=>?_;have I:=(hl.alloc (B6 v t x)).alloc (B6 v t x);obtain⟨u,z⟩:∃u,u=(W.alloc (B6 v t x)).alloc (B6 v t x):=(by simp);obtain⟨C,aa⟩:∃C,C=(W.alloc (B6 v t x)).heap.size::H_ W::L:=(by simp);rw[<-z,<-aa]at I;have p:R_ W u:=by rw[z];exact((dv _ _).alloc (Z) _).alloc s_ _
 have ac:=h.Dp;have c:∀b∈L,b∈C:=(by grind);have hlt:=λb q=>(hl.loc b q).2.1;have j:∀b,b<H_ w\/b∈L->u.heap[b]?=W.heap[b]?:=λb q=>p.block b (q.elim (λq=>eh q h.low.size) (hlt b));refine XF hk (A:=λb V=>∃τ,(∃G M,td E G V sb J (.map #[] 0) ks tape τ M C)/\R τ.m_ b/\(∀x,x<H_ w\/x∈C->V.heap[x]?=u.heap[x]?)/\V.os=u.os/\V.tape=u.tape/\V.output=u.output/\H_ u<=H_ V) (pv:=pv) ?_ (λV i=>?_) (λb V i=>?_) λb V V' i m=>?_;grind[ed,pE.pr];rw[<-z]at i;have hl3:=I.but (.below i.below []) s_;apply (HP hl3).mono;rintro e y ⟨b,rfl,G,M,τ,g1,g2,D⟩;refine⟨b,aJ,τ,G_,g2,λx q=>?_,D.os.trans i.os,D.tape.trans i.tape,D.output.trans i.output,by have:=D.size;grind[bZ.heap]⟩;rw[<-i.heap];rcases q with q|q;exact D.i_ x (by have:=i.heap;have:=h.low.size;grind) Z λe=>by have:=(hl3.row e).1;exact Z
 exact hl3.i_ D q;obtain⟨τ,-,-,g,-⟩:=i;refine⟨?_,?_⟩;rw[g pb (.inr (c _ h.mem.1)),j _ (.inr h.mem.1)];exact h.pr;grind[bI];obtain⟨τ,⟨G,M,g1⟩,g2,g,o1,o2,o3,o4⟩:=i;have B:V'.heap[rb]?=Wy (bO #[mv,Y s.m_,bP] 71):=by rw[m.heap,g rb (.inr (c _ h.mem.2)),j _ (.inr h.mem.2)];exact h.doc.i_
 have X:∀(b:Nat) (f:Array Xa) (e:Xd),W.heap[b]?=Wy (bO f e)->e≠71->b≠rb:=λb f e q hn q'=>by rw[q',h.doc.i_]at q;grind
 have H:∀d:aN,(∀b,b≠rb->d.heap[b]?=V.heap[b]?)->Ay (λb=>b<H_ w\/b∈L) W d:=λd q1 b f e q2 T q4=>by rw[q1 b (X b f e T G_),g b (q2.imp_right (c b)),j b q2]
 apply (HD (h.doc.stay (Q:=λ_=>True) (H V' (by simp[m.heap])) s_ B)).mono;have ab:∀b,b<H_ w->b≠rb:=Z;have K:∀(d:aN) (o:Nat),(∀b,b≠rb->d.heap[b]?=V.heap[b]?)->d.heap[rb]?=Wy (bO #[mv,Y o,bP] 71)->d.os=V.os->d.tape=V.tape->d.output=V.output->H_ d=H_ V->τ.m_=o->∃τ L',pE w ks tape l pb k τ d sb rb L' mv pv:=λd o q1 q2 T q4 q5 q6 q7=>by
  have S:∀b,b<H_ w\/b∈L->b≠rb->d.heap[b]?=W.heap[b]?:=(by grind);refine⟨τ,C,⟨E,G,J,M,g1.h_ [rb] (by simpa using c _ h.mem.2) Z G_⟩,h.Dp,⟨T.trans (o1.trans (p.os.trans h.low.os)),q4.trans (o2.trans (p.tape.trans h.low.tape)),q5.trans (o3.trans (p.output.trans h.low.output)),G_,λb q=>(S b (.inl q) (ab b q)).trans (h.low.block b q)⟩,h.doc.stay (H d q1) (G_) G_,(by grind[pE.mem,pE.pr]),?_,⟨c _ h.mem.1,c _ h.mem.2⟩,h.new⟩;obtain⟨lp,p1,p2⟩:=h.pg.own;have hpL:=λb q=>(h.pg.i_ b q).elim id λq'=>by have:=p1.lt b q;exact Z
  exact⟨⟨lp,p1.h_ (λb q=>by obtain⟨f,q'⟩:=h.pg.tag q;grind) s_,p2⟩,G_⟩
 rintro e y ⟨o,r,rfl,r1,r2⟩;obtain⟨e1,rfl⟩:=hR g2 r1;refine⟨aJ,?_⟩;rcases r2 with rfl|⟨rfl,rfl⟩;exact K _ o (by grind[ej,bZ.heap]) (by rw[aP B];rfl) m.os m.tape m.output (by simp[m.heap]) e1;exact K _ s.m_ (by simp[m.heap]) B m.os m.tape m.output (fe Array.size m.heap) e1
structure Qn(t:Nat)(d:fK)(M:List Nat)(w:aN)(m:SV):Prop where
 t:m.t=t
 q:m.q=d.stop
 st:Fz 2 135 i8 (·∈M) w (.slice m.x1 m.n1 m.c1) d.stack
 va:Fz 2 137 vN (·∈M) w (.slice m.x2 m.n2 m.c2) (lL d.g_)
 ou:Fz 1 9 AZ (·∈M) w (.slice m.x3 m.n3 m.c3) d.out
def Fz.len{a:Type}{k:Nat}{e:Xd}{R:List Xa->a->Prop}{F:bL}{w:aN}{x:Option Xe}{n c:Nat}{l:List a}(h:Fz k e R F w (P_ x n c) l):n=aA l:=by obtain⟨d,b,e,-⟩:=h.row.slice;grind
def pE.now{t:Int}{x:ByteArray}(S:Told ks tape l)(h:pE w ks tape l pb k s W sb rb L mv pv)(hk:k<=900000):W_ Xi 6 #[aY pb,Aq 1 t x] W λe H=>e=bR (Xr W1)/\∃L' r,pE w ks tape l pb (k+2) s H sb rb L' mv r:=by
 obtain⟨fp,F,mb,n,hl⟩:=h.live;refine KB d_ d_ (λ_=>?_) λe=>(e rfl).elim;have z:=hl.alloc (B6 1 t x);obtain⟨Q,aj⟩:∃Q,Q=W.alloc (B6 1 t x):=(by simp);rw[<-aj]at z⊢;have o:R_ W Q:=by grind[eo,dv]
 have hlt:=λb q=>(hl.loc b q).2.1;have A:=hl.vb.now;obtain⟨P,-,aa,-⟩:=S.vw.zy A;have af:=G0 S.vw.ok S.vw.kl tape s.m_ s A;have htm:=Nat.lt_of_not_le λq=>by rw[(S.told s.m_).2 q]at A;cases A
 obtain⟨s',ab,ao⟩:=(S.told s.m_).1 htm;rw[A]at ab;cases ab;obtain⟨gm,cm,c,ad,⟨sv,vv,ov,bv,hc,f1,f2,f3⟩,ah⟩:=h.doc.wy.cell (i:=s.m_) (by simpa using htm);have ak:l.zipIdx[s.m_]'(by grind)=(Hs.sy s.m s.stop,s.m_):=by grind
 rw[ak]at hc f1 f2 f3;simp only at hc f1 f2 f3;rw[iz]at ad;obtain⟨y1,e1,rfl,-⟩:=f1.row.slice;obtain⟨y2,e2,rfl,-⟩:=f2.row.slice;obtain⟨y3,e3,rfl,-⟩:=f3.row.slice;subst hc ad;have hgm:=h.doc.wy.lt gm aJ;have hpL:=λb q=>(h.pg.i_ b q).elim id λy=>by obtain⟨lp,X,-⟩:=h.pg.own;have:=X.lt b q;exact Z
 have p:(Hs.sy s.m s.stop).stack.length<=1000000/\aA (lL (Hs.sy s.m s.stop).g_)<=1000000/\(Hs.sy s.m s.stop).out.length<=1000000:=by have h1:=P.deep;have h2:=aa.out;refine⟨by simp[Hs.sy];exact Z,?_,by simp[Hs.sy];exact Z⟩;rw[NW];unfold Hs.sy;cases hf:s.m.f_.getLast? with|none=>simp|some f=>have:=(af f (G_)).1.2;grind
 have ag:∀V,R_ Q V->R_ W V:=λV hV=>o.trans (hV.mono o.size);refine(Tu (w:=Q) (pb:=pb) (sb:=sb) (rb:=rb) (gm:=gm) (at_:=s.m_) (nm:=l.length) (cm:=cm) (k:=k) (pv:=pv) (L:=pb::ob pv) (d:=⟨s.m_,y1,y2,y3,(Hs.sy s.m s.stop).stack.length,aA (lL (Hs.sy s.m s.stop).g_),(Hs.sy s.m s.stop).out.length,e1,e2,e3,s.stop⟩) (MD:=Qn s.m_ (Hs.sy s.m s.stop)) Z htm S.len s_ ((by grind[ef,pE.pr])) ?_ ((o.block rb (hlt _ h.mem.2)).trans h.doc.i_) (eh hgm o.size) (λj u q=>?_) (λV hV=>?_) (λV m M hV a=>?_) (λM V V' m a hk=>?_) λM V m a=>?_).mono ?_;obtain⟨lp,X,p2⟩:=h.pg.own;exact⟨⟨lp,X.h_ (lm) s_,p2⟩,oy⟩;grind[Wv,ef,Hs.sy,SV.cells];have hl2:=z.but (.below hV []) s_;apply (Hh hl2.vb P.deep hl2.pow af P.told (by have:=aa.out;exact Z)).mono;rintro e H ⟨m,rfl,hb,a⟩;have hg:∀{I:Type}{k:Nat}{e:Xd}{R:List Xa->I->Prop}{v:aX}{l:List I} (M:List Nat),(∀b∈ob v,b∈M)->Fz k e R (H_ V<=·) H v l->Fz k e R (·∈M) H v l:=λM q f=>⟨f.row,λb hb=>q b (mG.2 hb)⟩;refine⟨m,ob (P_ m.x1 m.n1 m.c1)++(ob (P_ m.x2 m.n2 m.c2)++ob (P_ m.x3 m.n3 m.c3)),aJ,hb,⟨a.t,a.q,(by grind[Cu.st]),(by grind[Cu.va]),(by grind[Cu.ou])⟩,λg q=>?_⟩;simp only[fm,mG]at q;rcases q with q|q|q;exact⟨a.st.i_ g q,a.st.row.lt g q⟩;exact⟨a.va.i_ g q,a.va.row.lt g q⟩;exact⟨a.ou.i_ g q,a.ou.row.lt g q⟩;obtain⟨T,ac⟩:∃T,T=eF (eF V m.cells 75) (SV.cells ⟨s.m_,y1,y2,y3,(Hs.sy s.m s.stop).stack.length,aA (lL (Hs.sy s.m s.stop).g_),(Hs.sy s.m s.stop).out.length,e1,e2,e3,s.stop⟩) 75:=(by simp);have C:R_ V T:=by rw[ac];exact((dv _ _).alloc (Z) _).alloc s_ _
 have ae:=ag V hV;have J:∀{I:Type}{k:Nat}{e:Xd}{R:List Xa->I->Prop}{v:aX}{l:List I}{F:bL},Fz k e R F V v l->Own k e R T v l:=λf=>f.row.h_ (λb q=>C.block b (f.row.lt b q)) s_;have K:∀{I:Type}{k:Nat}{e:Xd}{R:List Xa->I->Prop}{v:aX}{l:List I}{F:bL},Fz k e R F W v l->Own k e R T v l:=λf=>f.row.h_ (λb q=>(C.block b (eh (f.row.lt b q) ae.size)).trans (ae.block b (f.row.lt b q))) s_;refine sa (O7 V T m ⟨s.m_,y1,y2,y3,(Hs.sy s.m s.stop).stack.length,aA (lL (Hs.sy s.m s.stop).g_),(Hs.sy s.m s.stop).out.length,e1,e2,e3,s.stop⟩ (Hs.sy s.m s.stop).stack (lL (Hs.sy s.m s.stop).g_) (Hs.sy s.m s.stop).out p a.t.symm a.q.symm a.st.len a.va.len a.ou.len aJ aJ aJ ac.symm ⟨J a.st,K f1⟩ ⟨J a.va,K f2⟩ ⟨J a.ou,K f3⟩) λH hS=>?_;exact⟨aJ,C.trans (hS.below.mono C.size)⟩;exact⟨a.t,a.q,⟨a.st.row.h_ (λb q=>hk b (a.st.i_ b q)) s_,a.st.i_⟩,⟨a.va.row.h_ (λb q=>hk b (a.va.i_ b q)) s_,a.va.i_⟩,⟨a.ou.row.h_ (λb q=>hk b (a.ou.i_ b q)) s_,a.ou.i_⟩⟩;exact⟨.of a.st.row p.1 λb q=>.inl (a.st.i_ b q),.of a.va.row p.2.1 λb q=>.inl (a.va.i_ b q),.of a.ou.row p.2.2 λb q=>.inl (a.ou.i_ b q)⟩;rintro e H ⟨rfl,D,r,al,N⟩;have hz1:=o.size;have G:∀b∈pb::ob pv,b∈L:=λb q=>by rcases ew.1 q with rfl|q;exact h.mem.1;exact hpL b (mG.1 q)
 have E:∀(b:Nat) (B:Array Xa) (e:Xd),W.heap[b]?=Wy (bO B e)->e≠43->e≠85->H.heap[b]?=W.heap[b]?:=λb B e q n1 n2=>by rw[D.i_ b (G_) λy=>?_,o.block b (G_)];rcases ew.1 y with rfl|y;rw[h.pr]at q;grind;obtain⟨cs,q2⟩:=h.pg.tag (mG.1 y);grind
 have hl2:=z.but D λb q=>by simp[G b q]
 have hsbk:=D.i_ sb z.vb.lt λq=>(hl.loc sb (G sb q)).2.2.2.2.1 aJ;have ai:∀b,r.ownBlock=Wy b->b<H_ H:=λb q=>by obtain⟨lp,X,-⟩:=N.own;exact X.lt b q
 have an:=z.yj hl2 hsbk ((ob r).filter λb=>decide (H_ Q<=b)) λb q=>by simp only[List.mem_filter,mG,decide_eq_true_eq]at q;exact⟨q.2,ai b q.1⟩
 have am:∀b,b∈L->b∈((ob r).filter λb=>decide (H_ Q<=b))++H_ W::L:=(by grind);have hpv':=N.i_;obtain⟨lp,X,p2⟩:=N.own;refine⟨aJ,_,r,G_,h.Dp,⟨D.os.trans (o.os.trans h.low.os),D.tape.trans (o.tape.trans h.low.tape),D.output.trans (o.output.trans h.low.output),em h.low.size (em hz1 D.size),λb q=>?_⟩,h.doc.stay (λb B e _ q he=>E b B e q (G_) G_) (G_) ((E _ _ _ h.doc.i_ d_ d_).trans h.doc.i_),al,⟨G_,λb q=>.inl ?_⟩,⟨G_,am _ h.mem.2⟩,h.new.1,λb q=>?_⟩;have:=h.low.size;rw[D.i_ b Z λy=>?_,o.block b Z,h.low.block b q];rcases ew.1 y with rfl|y;have:=h.new.1;exact Z;have:=h.new.2 b (mG.1 y);exact Z;grind[ob];rcases hpv' b q with y|y;rcases ew.1 y with rfl|y;exact h.new.1;exact h.new.2 b (mG.1 y);have:=h.low.size;exact Z
end
def Au(l:List fK)(t:Nat):Nat:=((l[t]?).map (·.stack.length)).getD 0
section
variable {w W V:aN} {ks:List aC} {tape:List Int} {l:List fK} {pb k a:Nat} {s τ x:bW} {sb rb i:Nat} {L:List Nat} {mv pv:aX} {P:bL} {u b:Bool} {p:bW->Bool} {q:Nat->Bool}
def Told.is(a:Told ks tape l)(h:dV ks tape i=Wy x):i<aA l/\Au l i=aA x.m.f_/\aA x.m.f_<=1000:=by
 have b:i<aA l:=Nat.lt_of_not_le λq=>by rw[(a.told i).2 q]at h;cases h
 have ⟨y,h1,h2⟩:=(a.told i).1 b;rw[h]at h1;cases h1;have:=(a.vw.zy h).1.deep;exact⟨b,by simp[Au,h2,Hs.sy],Z⟩
def vu.dg(c:Told ks tape l)(h:vu u (dV ks tape) p s τ b)(k:dV ks tape s.m_=Wy s)(d:∀{i x},dV ks tape i=Wy x->p x=q i):DG u (aA l) q s.m_ τ.m_ b:=by
 have ⟨h1,h2,h3,h4⟩:=h;have g:=(c.is h1).1;have j:=(c.is k).1;refine⟨h2.at_,g,λi a f=>?_,h3,h4.imp (λe=>?_) λe=>⟨e.1,d h1▸e.2⟩⟩;have m:i<aA l:=by cases u<;>simp[xi]at a f<;>exact Z
 have ⟨x,e,_⟩:=(c.told i).1 m;rw[<-d e];exact h2.no i x a f e;cases u;simpa [En]using e;simp only[En,if_true]at e⊢;rcases gw (τ.m_+1) (aA l) with a|a;have ⟨z,e1,_⟩:=(c.told (τ.m_+1)).1 a;have ⟨y,e2,e3⟩:=D_ e1 (t:=τ.m_) Z;rw[h1]at e2;cases e2;exact ep e3 e;exact Z
def ED.cells(f:Told ks tape l)(h:ED P V rb a mv l)(m:a<aA l):∃g c,I_ V (aL rb 0)=Wy (P_ (Wy (aL g 0)) (aA l) c)/\I_ V (aL rb 1)=Wy (Y a)/\V.frozen? (aL rb 1)=WD/\∀t,t<aA l->Au l t<=1000/\∃y e,I_ V (aL g (t*6+1))=Wy (P_ y (Au l t) e):=by
 have ⟨b1,b2,b3⟩:=bk h.i_;have ⟨g,c,_,e,_⟩:=h.wy.cell (i:=a) (by simpa using m);rw[iz]at e;subst e;refine⟨g,c,b1 0,b1 1,b2 1,λt d=>?_⟩;have ⟨x,e1,e2⟩:=(f.told t).1 d;have ⟨_,e3,e4⟩:=f.is e1;obtain⟨q,o,p,e,⟨r,u,s,v,n,j,_⟩,b⟩:=h.wy.cell (i:=t) rz;obtain⟨rfl,rfl⟩:=by simpa using e
 obtain⟨y,k,rfl,_⟩:=j.row.slice;refine⟨Z,y,k,?_⟩;rw[b 1 _ (by rw[n];rfl)];simp[Au,d]
def qO.imp{f:iJ}{d:Nat}{c:Obj}{T e:bW->Bool->Prop}(h:∀{a b},T a b->e a b):qO f sb d c ks tape L T w b W->qO f sb d c ks tape L e w b W:=λ⟨G,n,a,i,g,j⟩=>⟨G,n,a,i,h g,j⟩
def pE.step{y t:Int}{x:ByteArray}(d:Told ks tape l)(h:pE w ks tape l pb k s W sb rb L mv pv)(N:k<=900000)(X:1<=y)(h7:y<=7):W_ Xi 6 #[aY pb,Aq y t x] W λe j=>e=bR (Xr W1)/\∃E τ A r,E<=k+2/\pE w ks tape l pb E τ j sb rb A mv r:=by have ⟨I,F,mb,n,o⟩:=h.live;have K:=o.vb.now;have ⟨ha,hda,hdl⟩:=d.is K;have m:∀e j,(e=bR (Xr W1)/\∃τ A,pE w ks tape l pb k τ j sb rb A mv pv)->e=bR (Xr W1)/\∃E τ A r,E<=k+2/\pE w ks tape l pb E τ j sb rb A mv r:=λe j ⟨v,τ,A,q⟩=>⟨v,k,τ,A,pv,Z,q⟩;have G:∀{u p q Q}{I:iJ}{V mb L f a},(∀{i x},dV ks tape i=Wy x->p x=q i)->W_ Xi f a V (λe j=>∃b,e=bR (Xr b)/\qO I sb mb (.map #[] 0) ks tape L (vu u (dV ks tape) p s) V b j)->(∀{e j},(∃b,e=bR (Xr b)/\qO I sb mb (.map #[] 0) ks tape L (λτ b=>DG u (aA l) q s.m_ τ.m_ b) V b j)->Q e j)->W_ Xi f a V Q:=λS T M=>T.mono λe j ⟨b,v,q⟩=>M ⟨b,v,q.imp λq=>q.dg d K S⟩;have D:∀{P V},ED P V rb s.m_ mv l->_:=λq=>ED.cells d q ha;obtain rfl|rfl|rfl|rfl|rfl|rfl|rfl:y=1\/y=2\/y=3\/y=4\/y=5\/y=6\/y=7:=Z;apply (h.now d N).mono;rintro e j ⟨rfl,A,r,q⟩;exact⟨aJ,_,s,A,r,lZ,q⟩;refine(h.move (R:=λa b=>(b=W1/\(a:Int)=t/\a<aA l)\/(b=WD/\a=s.m_/\¬(0<=t/\t<aA l))) (.inl ⟨aJ,aJ,aJ,aJ,aJ⟩) G_ (λo=>(Q3 d.vw d.tl o t).mono ?_) λq=>?_).mono m;rintro e j ⟨b,rfl,q⟩;refine⟨b,aJ,q.imp λ{τ b} q=>?_⟩;rcases q with ⟨rfl,v,J⟩|⟨rfl,rfl,v⟩;exact .inl ⟨aJ,v,(d.is J).1⟩;refine .inr ⟨aJ,aJ,λq=>?_⟩;have ⟨z,J,_⟩:=(d.told t.toNat).1 Z;rw[J]at v;rcases v with v|v;exact Z;cases v;have ⟨g,c,c0,c1,cf,_⟩:=D q;apply (OK _ t c0 c1 cf d.len).mono;rintro e j (⟨H,r2,rfl,rfl⟩|⟨H,rfl,rfl⟩);exact⟨t.toNat,W1,aJ,.inl ⟨aJ,Z,Z⟩,.inl (by rw[Int.toNat_of_nonneg H])⟩;exact⟨s.m_,WD,aJ,.inr ⟨aJ,aJ,H⟩,.inr ⟨aJ,aJ⟩⟩;refine(h.move (R:=DG W1 (aA l) (λ_=>W1) s.m_) (.inr (.inl ⟨aJ,aJ,aJ,aJ,aJ⟩)) (λB C=>B.one C) (λo=>G s_ (Vp d.vw d.tl o) λq=>q) λq=>?_).mono m;have ⟨g,c,c0,c1,cf,_⟩:=D q;exact OJ c0 c1 cf d.len ha W1;refine(h.move (R:=DG WD (aA l) (λ_=>W1) s.m_) (.inr (.inr (.inl ⟨aJ,aJ,aJ,aJ,aJ⟩))) (λB C=>B.one C) (λo=>G s_ (Mn d.vw d.tl o) λq=>q) λq=>?_).mono m;have ⟨g,c,c0,c1,cf,_⟩:=D q;exact OJ c0 c1 cf d.len ha WD;refine(h.move (R:=DG W1 (aA l) (λi=>decide ((Au l i:Int)<=(Au l s.m_:Int)-(0:Nat))) s.m_) (.inr (.inr (.inr (.inl ⟨aJ,aJ,aJ,aJ,aJ⟩)))) (λB C=>B.one C) (λo=>G (λe=>by simp[shallow,(d.is e).2.1,hda]) (Wo d.vw d.tl o) λq=>q) λq=>?_).mono m;have ⟨g,c,c0,c1,cf,cd⟩:=D q;exact OL c0 c1 cf d.len ha cd 0 Z;refine(h.move (R:=DG W1 (aA l) (λi=>decide ((Au l i:Int)<=(Au l s.m_:Int)-(1:Nat))) s.m_) (.inr (.inr (.inr (.inr (.inl ⟨aJ,aJ,aJ,aJ,aJ⟩))))) (λB C=>B.one C) (λo=>G (λe=>by rw[shallow,Go.IntWalk.i64_in _ Z,(d.is e).2.1,hda];rfl) (Vo d.vw d.tl o) λq=>q) λq=>?_).mono m;have ⟨g,c,c0,c1,cf,cd⟩:=D q;exact OL c0 c1 cf d.len ha cd 1 Z;refine(h.move (R:=DG WD (aA l) (λi=>decide ((Au l i:Int)<=Au l s.m_)) s.m_) (.inr (.inr (.inr (.inr (.inr ⟨aJ,aJ,aJ,aJ,aJ⟩))))) (λB C=>B.one C) (λo=>G (λe=>by simp[shallow,(d.is e).2.1,hda]) (TN d.vw d.tl o) λq=>q) λq=>?_).mono m;have ⟨g,c,c0,c1,cf,cd⟩:=D q;exact MJ c0 c1 cf d.len ha cd
end
def Good.Sg{a:List aC}(h:Good a):LL a 2001:=⟨h.ok,h.lit,h.kl,by have:=h.fl;exact Z⟩
def Good.told{b:List aC}(h:Good b){a:List Int}{l:List fK}(d:sM b (16*(2001+2)) a=Wy l)(c:aA a<=17592186044416)(j:aA l<=1000):Told b a l:=⟨h,c,j,λt=>by obtain⟨g,e⟩:=wD (nX h.ok) (uG h.ok h.main a) (I8 h.ok h.main d) t;exact⟨λq=>by obtain⟨s,f,i,-⟩:=g q;exact⟨s,f,i⟩,e⟩⟩
section
variable {w:aN} {src:bQ} {tape:List Int}
def Gl(w:aN)(src:bQ)(tape:List Int)(p:Option Xe)(k l:Nat)(W:aN):Prop:=dQ src=(k,l)/\((p=none/\k≠0)\/∃ks fp G sb mb s,p=Wy (aL sb 0)/\dQ src=(0,0)/\eB src=.ok ks/\w.heap.size<=sb/\td fp G W sb mb (.map #[] 0) ks tape s 1 [w.heap.size]/\s.m_=0)
def Gs(w:aN)(tape:List Int)(p q:Option Xe)(W:aN):Prop:=R_ w W/\(p=none\/∃sb rb ks l fp G mb s L mv,p=Wy (aL sb 0)/\q=Wy (aL rb 0)/\Told ks tape l/\td fp G W sb mb (.map #[] 0) ks tape s 1 L/\(w.heap.size<=sb/\w.heap.size<=rb)/\ED (λb=>b<w.heap.size\/b∈L) W rb s.m_ mv l/\rb∈L)
def W9(hT:qF w)(x:gK w)(hp:oY w)(C:11<=w.heap.size)(hs:src.length<=140737488355328)(g:tape.length<=17592186044416){F:Option Addr}{c:Nat}(hI:mK (·<w.heap.size) w (P_ F tape.length c) tape):Calls prog 5 #[Q_ (bs src),P_ F tape.length c] w λe j=>(e=bR (.tuple #[.pointer none,.bool true])/\R_ w j)\/∃pb,e=bR (.tuple #[aY pb,.bool true])/\∃ks l s sb rb L mv,Told ks tape l/\pE w ks tape l pb 0 s j sb rb L mv (bP):=by
 refine(XJ w (bs src) tape F c g hI (Gl w src tape) (Gs w tape) (λV B f=>?_) (λp k l W W' hS hB=>?_) λp k l W u hS=>?_).mono ?_
 .have z:=aH f;refine(Q8 (bs src) _ tape V (hT.below B) (hp.below B) (by rw[iS];exact Z) (.inr ⟨_,0,_,aJ,z,λi hi=>?_⟩) g ((by grind[i6]))).mono ?_;.have ⟨_,_,_,_,_,q⟩:=hI.ad Z;exact⟨aB f (by simp[sO,List.getElem?_append,hi]),(q i hi).2⟩
  rintro e j ⟨v,rfl,d,hv⟩;rw[jT]at hv;have N:=B.trans (d.mono B.size);have D:=B.size;rcases hv with ⟨S,ks,m,G,sb,o,T,rfl,r,y,I,s,h,E,q7⟩|⟨S,rfl⟩
  .refine⟨some (aL sb 0),0,0,aJ,d,S,.inr ⟨ks,m,G,sb,o,s,aJ,S,T,Z,⟨h,I,hp.below N,Z,Z,λb q=>?_⟩,E⟩⟩;obtain rfl:=ie.1 q;refine⟨C,eh z d.size,λq=>?_,λq=>?_,Z,Z⟩
   .rcases q7 _ q with q|⟨c',t,H,h3⟩;.exact Z
    grind
   have:=(h.row _ q).1;exact Z
  grind[Gl]
 .have ⟨h1,H⟩:=hS;refine⟨h1,H.imp_right ?_⟩;rintro⟨ks,m,G,sb,o,s,T,r,y,I,h,E⟩;exact⟨ks,m,G,sb,o,s,T,r,y,I,h.but hB s_,E⟩
 .have ⟨h1,H⟩:=hS;have A:mK (·<w.heap.size) W (P_ F tape.length c) tape:=hI.kp ⟨Z,λb q=>u.block b q⟩;have hm:(bs src).size<=maxLen:=by grind[iS,maxLen]
  rcases H with ⟨rfl,hk⟩|⟨ks,m,G,sb,o,s,rfl,r,y,I,h,E⟩;.apply (T0 (s:=bs src) (x.below u) hm A (by rw[jT,h1];exact hk)).mono;grind[Below.trans,Below.mono,Below.size,bs,Gs]
  have f:=i6 y r;have ⟨J,hl'⟩:=MI f.ok f.kl f.main tape;apply (YY (s:=bs src) (x.below u) hm (λb q=>eh q u.size) A g (by rw[jT];exact r) (by rw[jT];exact y) f.Sg f.main hl').mono;rintro e j ⟨rb,v,Gd,rfl,d,r1,r2,r3,r4,r5,r6⟩;obtain⟨rfl,rfl⟩:=gi (h1.symm.trans r);have D:=u.size;have n:=h.but (.below d []) s_;have M:=h.yj n (d.block _ h.vb.lt) (List.range' W.heap.size (j.heap.size-W.heap.size)) G_;have ab:∀b,W.heap.size<=b->b<j.heap.size->b∈List.range' W.heap.size (j.heap.size-W.heap.size)++[w.heap.size]:=(by grind);have aa:=aH r1;refine⟨some (aL rb 0),aJ,s_,u.trans (d.mono D),.inr ⟨sb,rb,ks,J,m,G,o,s,_,v,rfl,rfl,f.told hl' g r6,M,Z,⟨G_,r3.h_ (s_) λ_ _ q=>q.kp ⟨G_,s_⟩,(by grind[Own.lt])⟩,G_⟩⟩
 rintro e j ⟨p,q,Q,k,l,⟨d,x⟩,⟨rfl,rfl,rfl⟩|⟨a,b,rfl,rfl,rfl,rfl⟩⟩;.grind[eo,Below.size]
 rcases x with x|⟨sb,rb,ks,J,m,G,o,s,L,mv,e1,e2,K,hl,P,hd,X⟩;.cases x
 cases e1;cases e2;have D:=d.size;have n:=(hl.alloc (bO #[Y k,Y l] 38)).alloc (bO #[aY sb,aY rb,Y 0,bP] 43);have hk:∀b,b<Q.heap.size->((Q.alloc (bO #[Y k,Y l] 38)).alloc (bO #[aY sb,aY rb,Y 0,bP] 43)).heap[b]?=Q.heap[b]?:=(by grind[ed]);exact .inr ⟨_,aJ,ks,J,s,sb,rb,_,mv,K,⟨m,G,o,1,n⟩,P,(d.alloc D _).alloc la _,hd.stay ((by grind[Ay])) (G_) ((by grind[ED.i_])),bI _ _ s_,.nil,⟨s_,by simp[X]⟩,Z,λb q=>by cases q⟩
def Fc(F:bL)(w:aN)(y:Option Xe)(ops:List (Int×Int×ByteArray)):Prop:=∀i (h:i<aA ops),∃g o,y=Wy (aL g o)/\F g/\I_ w (aL g (o+i*3))=Wy (Y ops[i].1)/\I_ w (aL g (o+i*3+1))=Wy (Y ops[i].2.1)/\I_ w (aL g (o+i*3+2))=Wy (Xm ops[i].2.2)
def Iy(H:qF w)(V:gK w)(M:oY w)(v:11<=H_ w)(Q:aA src<=140737488355328)(C:aA tape<=17592186044416){D:Option Xe}{c:Nat}(N:mK (·<H_ w) w (P_ D (aA tape) c) tape){y:Option Xe}{d:Nat}{f:List (Int×Int×ByteArray)}(I:Fc (·<H_ w) w y f)(hn:aA f<=400000):W_ Xi 3 #[Q_ (bs src),P_ D (aA tape) c,P_ y (aA f) d] w λe A=>e=bR (Xr W1)/\R_ w A:=by refine N5 (J:=λt i W=>∃b l k s p m L n x,Told b tape l/\k<=2*i/\pE w b tape l t k s W p m L n x) Z ((W9 H V M v Q C N).mono ?_) ?_ ?_;rintro e A (h|⟨t,rfl,b,l,s,p,m,L,n,r,B⟩);exact .inl h;exact .inr ⟨t,aJ,b,l,0,s,p,m,L,n,_,r,Z,B⟩;rintro t i W ⟨b,l,k,s,p,m,L,n,x,r,B,u⟩ S;have ⟨g,o,e1,e2,e3,e4,e5⟩:=I i S;have q:=λj=>Wv (a:=aL g j) (u.low.block g e2);refine⟨g,o,_,_,_,e1,(q _).trans e3,(q _).trans e4,(q _).trans e5,λE G=>(u.step r Z E G).mono ?_,λ_=>⟨b,l,k,s,p,m,L,n,x,r,Z,u⟩⟩;rintro e A ⟨rfl,K,P,F,z,X,T⟩;exact⟨aJ,b,l,K,P,p,m,F,n,z,r,Z,T⟩;rintro t W ⟨b,l,k,s,p,m,L,n,x,r,B,u⟩;exact u.low
end
def TG:prog.cellsOf 3=1:=k_
section
variable {H:Type} {enc:Xd × Xa->H} {W:aN} {b_ fuel n c:Nat} {spare:Nat->Bool} {held:Bool} {y:Option Xe} {x:DataW H × List MemPlace} {ts:List Xd} {ds:List (DataW H)} {j:Nat}
theorem Hm(h:DataW.trod enc Xi W b_ spare held fuel 22 [P_ y n c]=Wy x)(u:(DataW.weightsEach Xi ts ds).all (·<=reachBytes)=W1)(l:ts[j]?=Wy 22)(f:ds[j]?=Wy x.1):∃tape:List Int,aA tape=n/\n<=17592186044416/\(∀z∈tape,-9223372036854775808<=z/\z<=9223372036854775807)/\(0<n->∃d,y=Wy d/\d.block<H_ W/\∀j v,(tape.map (Value.int .i64))[j]?=Wy v->I_ W (d.add j)=Wy v):=by
 have s:=reachBytes_lt;rcases Deep.open_slice1 underlying22 TG h with ⟨e,C⟩|⟨a,A,r,m,k,V,D,Pl,e,p,F,H,g,rfl,w⟩;obtain⟨rfl,rfl,rfl⟩:=e;simp;obtain⟨rfl,rfl,rfl⟩:=e;have t:n<=m:=G_;have b:∀i,i<n->∃q:Int,I_ W (a.add i)=Wy (Y q)/\(-9223372036854775808<=q/\q<=9223372036854775807):=by intro i G;have ⟨h1,h2⟩:=w i Z;have ⟨n0,r0,_,hw⟩:=DataW.trod_int underlying3 h2;simp at r0;rw[r0]at h1;refine⟨n0,h1,?_⟩;simp[Lit.wf]at hw;exact hw
 have ⟨q,hq⟩:=Deep.choose_lt b;refine⟨(List.range n).map q,s_,?_,λo E=>?_,λB=>⟨a,rfl,?_,λj v I=>?_⟩⟩;have:=sized_slice u l f underlying22;have p:prog.bytesOf 3=8:=k_;grind;grind;grind[World.cell?,Addr.add];grind
end
def Uq:prog.cellsOf 30=3:=k_
def Ib:prog.cellsOf 9=1:=k_
def Q2{n:Nat}{D:Nat->DataW H}(h:∀i,i<n->4<=Rows.uptoBulk (D i)):4*n<=Rows.uptoBulkAll ((List.range n).map D):=by
 have:∀l:List (DataW H),(∀d∈l,4<=Rows.uptoBulk d)->4*aA l<=Rows.uptoBulkAll l:=λl=>by induction l with|nil=>simp|cons d l a=>intro q;have e:=a λx b=>q x ro;have c:=q d s_;simp only[Rows.uptoBulkAll,fg];omega
 simpa using this ((List.range n).map D) qn
section
variable {H:Type} {enc:Xd × Xa->H} {W:aN} {b_ fuel n c:Nat} {spare:Nat->Bool} {held:Bool} {y:Option Xe} {x:DataW H × List MemPlace}
theorem RW{sp}{g o:Nat}{v:aX}(h:I_ W ((⟨g,o,sp⟩:Xe).add 0)=Wy v):sp=none/\g<W.heap.size:=by cases sp with|none=>refine⟨rfl,Nat.lt_of_not_le λq=>?_⟩;simp[World.cell?,Addr.add,Array.getElem?_eq_none q]at h|some z=>simp[Addr.add,World.cell?]at h;split at h<;>simp at h
theorem Oo(g o i:Nat):(⟨g,o,none⟩:Xe).add i=aL g (o+i):=by unfold Addr.add;split<;>simp_all
theorem Wi(h:DataW.trod enc prog W b_ spare held fuel 23 [.slice y n c]=some x):∃p:List (Int×Int×ByteArray),p.length=n/\4*n<=Rows.uptoBulk x.1/\Fc (·<W.heap.size) W y p:=by
 rcases Deep.open_slice underlying23 h with ⟨d,u⟩|⟨a,X,N,m,k,D,Pl,d,hb,hl,hm,s,rfl,T⟩;.simp at d;obtain⟨rfl,rfl,rfl⟩:=d;exact⟨[],rfl,o_,λi e=>by cases e⟩
 simp at d;obtain⟨rfl,rfl,rfl⟩:=d;have S:n<=m:=by rw[s];split<;>omega
 have l:∀i,i<n->∃q:Int×Int×ByteArray,W.cell? (a.add (i*3))=some (Y q.1)/\W.cell? (a.add (i*3+1))=some (Y q.2.1)/\W.cell? (a.add (i*3+2))=some (.string q.2.2)/\D i=.agg [.lit (.int .i64 q.1),.lit (.int .i64 q.2.1),.lit (.string q.2.2.data.toList)]:=by intro i e;obtain⟨w,F,L⟩:=T i o_;rw[Uq]at F;obtain⟨_,f,b⟩:=World.cells?_some F;obtain⟨Q,k',hk,j,_,r,v⟩:=DataW.trod_struct underlying30 L;match Q,r,w,f with|[y0,y1,y2],_,[v0,v1,v2],_=>have C:=v 0 _ rfl;have I:=v 1 _ rfl;have B:=v 2 _ rfl;simp[TG,Ib]at C I B;obtain⟨P,E,rfl,_⟩:=DataW.trod_int underlying3 C;obtain⟨V,A,rfl,_⟩:=DataW.trod_int underlying3 I;obtain⟨M,J,rfl,_⟩:=DataW.trod_string underlying9 B;have z:=b 0 o_;have d:=b 1 o_;have u:=b 2 o_;rw[Deep.add_add]at z d u;simp at E A J;subst E A J;simp only[gd]at j;exact⟨(P,V,M),by simpa using z,rz,by simpa using u,by simpa using j.1⟩
 obtain⟨q,t⟩:=Deep.choose_lt l;refine⟨(List.range n).map q,s_,?_,λi e=>?_⟩
 .have:=Q2 (D:=D) (n:=n) λi e=>by rw[(t i e).2.2.2];simp[Rows.uptoBulk,Rows.uptoBulkAll];omega
  simp only[Rows.uptoBulk];omega
 obtain⟨g,o,sp⟩:=a;have e:i<n:=by simpa using e
 obtain⟨K,G,H,_⟩:=t i e;obtain⟨rfl,d⟩:=RW (by simpa using (t 0 o_).1);rw[Oo]at K G H;exact⟨g,o,rfl,d,by simpa using K,by simpa [Nat.add_assoc]using G,by simpa [Nat.add_assoc]using H⟩
end
open Go.RowKit Go.Lib
def MF{l:TypeId×Value->H}{P:Program}{x:Nat->Bool}{t:TypeId}{g:List Value}{a:cY}{p:List MemPlace} (z:P.underlying t=some (.array I e)) (E:P.underlying e=some .string) (o:P.cellsOf e=1) (k:P.cellsOf t=I) (F:a.length=I) (h:DataW.trod l P w S x G T t g=some (.agg (a.map λb=>.lit (.string b)),p)):g=a.map λb=>Value.string (bs b):=by
 obtain⟨u,m,rfl,C,f,v,j⟩:=DataW.trod_array z h;rw[k]at f;refine jt λi=>?_;by_cases B:i<I
 .have r:=j i B;rw[o,Nat.mul_one,ey Z]at r;have ⟨s,e1,e2,_⟩:=DataW.trod_string E r;have D:=(DataW.agg.inj (gi C).1).symm;have q:(u.map (·.1))[i]?=(a.map λb=>(DataW.lit (.string b):DataW H))[i]?:=by rw[D]
  rw[ix,ix,ey (by omega:i<u.length),ey (by omega:i<a.length),e2]at q;simp[jd,fu,DataW.lit.injEq,Lit.string.injEq]at q;rw[ix,ey (by omega:i<a.length)];have A:((g.drop i).take 1)[0]?=some (.string s):=by rw[e1];rfl
  have y:g[i]?=some (.string s):=by simpa using A
  rw[y];simp[jd,fu,Value.string.injEq];rw[<-q];rfl
 rw[jh Z,jh la]
def uT{P:Program}{n:String}{b:Array Xa}(c:P.globalNamed n=Wy S)(h:w.var? P n=Wy b):∃t a,w.heap[S]?=Wy (Xt b t a):=by
 simp[World.var?,c,Option.bind_some]at h;split at h;.next cs' t a hb=>cases h;exact⟨t,a,hb⟩
 cases h
def zR{i:String}{n:Nat}{a:cY}(j:prog.globalNamed i=some S)(o:(prog.globals[S]?).map (·.type)=some T)(m:prog.underlying T=some (.array n 9))(c:prog.cellsOf T=n)(k:a.length=n) (h:VarReads prog w i (.agg (a.map λb=>.lit (.string b)))):∃d f,w.heap[S]?=some (.cells (a.map λb=>Value.string (bs b)).toArray d f):=by have ⟨g0,t0,cs,fuel,p,hg0,ht0,hv,hd⟩:=h;obtain rfl:=fo (j.symm.trans hg0);obtain rfl:=fo (o.symm.trans ht0);have ⟨d,f,hb⟩:=uT j hv;have:=MF m underlying9 k_ c k hd;have ⟨l⟩:=cs;have e:=this;subst e;exact⟨d,f,hb⟩
def BG{l:List Xa}{c:Nat×Nat}(h:w.heap[S]?=Wy (Xt l.toArray e c))(a:l[T]?=Wy z):I_ w (aL S T)=Wy z:=by simp[World.cell?,h,a]
def Sp:prog.globalNamed "hindsight/hindsightref.others"=Wy 0:=k_
def R5:prog.globalNamed "hindsight/hindsightref.keywords"=Wy 4:=k_
def Jj:prog.globalNamed "hindsight/syntax.marks"=Wy 3:=k_
def i7:prog.globalNamed "strconv.ErrRange"=Wy 8:=k_
def Li:prog.globalNamed "math/bits.deBruijn64tab"=Wy 10:=k_
def Uz:(prog.globals[(0:Nat)]?).map (·.type)=Wy 316:=k_
def E7:(prog.globals[(4:Nat)]?).map (·.type)=Wy 378:=k_
def Lb:(prog.globals[(3:Nat)]?).map (·.type)=Wy 316:=k_
def Sd:(prog.globals[(8:Nat)]?).map (·.type)=Wy 362:=k_
def Dc:prog.cellsOf 316=21:=k_
def Uk:prog.cellsOf 378=9:=k_
def U5:(Rows.laid_hindsight_hindsightref_keywords:DataW Unit)=.agg (fN.map λb=>.lit (.string b)):=rfl
def GS:(Rows.laid_hindsight_hindsightref_others:DataW Unit)=.agg (eM.map λb=>.lit (.string b)):=rfl
def Ms:(Rows.laid_hindsight_syntax_marks:DataW Unit)=.agg (eM.map λb=>.lit (.string b)):=rfl
def Vr:(Rows.laid_unicode_utf8_acceptRanges:DataW Unit)=acceptData:=k_
def Kh:Rows.laid_unicode_utf8_first=firstData:=Pinned.utf8First_eq
def Fg:Shelf.Ren:=⟨λx=>x,λn=>if n=5 then 5 else if n=119 then 357 else if n=138 then 359 else 360,λn=>if n=3 then 1 else 2⟩
def Qx:U8Types Xi Fg:=⟨underlying5,underlying357,underlying359,underlying360⟩
def Ks:U8Extra Xi Fg:=⟨k_,k_,k_,k_,k_,k_,k_⟩
def ug(w:aN):Prop:=laidMet Xi Rows.movesUptoRow.laid w
def ug.ym(h:ug w):11<=H_ w:=by have ⟨g,t,cs,fuel,p,hg,ht,hv,hd⟩:=Lib.laidMet.reads h (n:= "math/bits.deBruijn64tab") (d:=Rows.laid_math_bits_deBruijn64tab) mm;have ⟨ty,fr,hb⟩:=uT Li hv;have ⟨g',t',cs',fuel',p',hg',ht',hv',hd'⟩:=Lib.laidMet.reads h (n:= "strconv.ErrRange") (d:=Rows.laid_strconv_ErrRange) mm;have ⟨ty',fr',hb'⟩:=uT i7 hv';rcases gw (10:Nat) (H_ w)with a|a;rcases gw (8:Nat) (H_ w)with b|b;exact Z;rw[Array.getElem?_eq_none b]at hb';cases hb';rw[Array.getElem?_eq_none a]at hb;cases hb
def ug.others(h:ug w):∃a c,w.heap[(0:Nat)]?=Wy (Xt (eM.map λb=>Value.string (bs b)).toArray a c):=zR Sp Uz underlying316 Dc rfl (GS▸Lib.laidMet.reads h (n:= "hindsight/hindsightref.others") mm)
def ug.keywords(h:ug w):∃a c,w.heap[(4:Nat)]?=Wy (Xt (fN.map λb=>Value.string (bs b)).toArray a c):=zR R5 E7 underlying378 Uk rfl (U5▸Lib.laidMet.reads h (n:= "hindsight/hindsightref.keywords") mm)
def ug.marks(h:ug w):∃a c,w.heap[(3:Nat)]?=Wy (Xt (eM.map λb=>Value.string (bs b)).toArray a c):=zR Jj Lb underlying316 Dc rfl (Ms▸Lib.laidMet.reads h (n:= "hindsight/syntax.marks") mm)
def ug.range(h:ug w):∃a b,dR w 8 0 (dI a b):=by have ⟨g,t,cs,fuel,p,hg,ht,hv,hd⟩:=Lib.laidMet.reads h (n:= "strconv.ErrRange") (d:=Rows.laid_strconv_ErrRange) mm;obtain rfl:=fo (i7.symm.trans hg);obtain rfl:=fo (Sd.symm.trans ht);have ⟨f1,u,v,e,hn,h1⟩:=iface_of_trod underlying362 hd;have ⟨l⟩:=cs;obtain rfl:l=_:=e;exact⟨u,v,by simpa using World.var?_cell hg hv 0⟩
def ug.utf8(h:ug w):Lib.Utf8Tabs 1 2 w:=utf8Tabs_of_readsT Qx Ks (Kh▸Lib.laidMet.reads h (n:= "unicode/utf8.first") mm) (Vr▸Lib.laidMet.reads h (n:= "unicode/utf8.acceptRanges") mm)
def ug.ref(h:ug w):gK w:=by have ⟨t1,f1,h1⟩:=h.keywords;have ⟨t2,f2,h2⟩:=h.others;exact⟨λi a=>BG h1 (by rw[ix,ey (by simpa [fN]using a)];rfl),λi a=>BG h2 (by rw[ix,ey (by simpa [eM]using a)];rfl),h.ym⟩
def Ov:prog.globalNamed "internal/strconv.uint64pow10"=Wy 6:=k_
def Q1:(prog.globals[(6:Nat)]?).map (·.type)=Wy 444:=k_
def Uy:(Rows.laid_internal_strconv_uint64pow10:DataW Unit)=Lib.tabData .u64 Lib.pow10Tab:=k_
def ug.all(h:ug w):qF w:=by have ⟨ty,fr,h1⟩:=h.marks;exact⟨⟨h.range,h.ym⟩,⟨⟨ty,fr,h1⟩,h.ym⟩,h.utf8⟩
def ug.pow(h:ug w):oY w:=by have ⟨g,t,cs,fuel,p,hg,ht,hv,hd⟩:=Lib.laidMet.reads h (n:= "internal/strconv.uint64pow10") (d:=Rows.laid_internal_strconv_uint64pow10) mm;obtain rfl:=fo (Ov.symm.trans hg);obtain rfl:=fo (Q1.symm.trans ht);rw[Uy]at hd;have e:=Lib.cells_of_tab underlying444 underlying392 k_ k_ hd;unfold oY Lib.TabIs;rw[hv,<-e]
