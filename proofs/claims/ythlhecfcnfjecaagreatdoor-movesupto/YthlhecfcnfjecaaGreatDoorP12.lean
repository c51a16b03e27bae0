import Derived.Test.YthlhecfcnfjecaaGreatDoorP11
import Derived.Test.YthlhecfcnfjecaaGreatDoorP08
import Derived.Test.YthlhecfcnfjecaaGreatDoorP06
set_option linter.all false
set_option maxRecDepth 100000
set_option maxHeartbeats 0
open List renaming length->aA
open Go.World renaming setCell->c9,alloc->i9,ownsRow_nil->Ww
open Option renaming some->Wy,none->Wz
open Bool renaming false->WD,true->W1
open Go renaming Calls->W_,Value->Xa
open Go.RowKit renaming Hid->Xg
open Go.Proofs.Tryz renaming prog->Xi
open Go.Value renaming string->Xm,agg->Xn,tuple->Xp,int->Xs
open Go.Obj renaming cells->Xt
namespace Go.Proofs.YthlhecfcnfjecaaGreatDoor
open Hs
open _root_.Go.Proofs.Tryz
open Instr(typeAssert)
open Go.RowKit
variable{b:Bool}{r:List aC}{n o y:Nat}{e:TypeId}{g:aC}{z:aN}{q:aX}{i:bK}{s:bL}{j:bQ}
def PN.parts(h:PN s z q g):∃T c b,q=.iface T (Xn c)/\Shape T c g b/\∀p∈b,p.ok s z:=by have ⟨d,h⟩:=h;cases d with|zero=>exact h.elim|succ d=>have ⟨T,c,b,h1,h2,h3⟩:=h;exact⟨T,c,b,h1,h2,λp e=>(h3 p e).mono (λ_ _ h=>⟨d,h⟩) (s_)⟩
structure Loc(cb tp:Nat)(w0:aN)(b:Nat)(o:Obj)(W:aN):Prop where
 fb:FB cb tp w0 W
 i_:W.heap[b]?=Wy o
 row:lT cb W≠Wy b
 ne:b≠cb
def Loc.new{c:Nat}{a:cY}(h:CK c y n r q z a)(o:Obj):Loc c y z z.heap.size o (z.alloc o)/\CK c y n r q (z.alloc o) a:=by have b:=h.lt;have f:R_ z (z.alloc o):=(by grind[eo,dv]);refine⟨⟨FB.p_ f b,aV _ _ aJ _,λe=>?_,Z⟩,h.grow f⟩;have ⟨sv,hb',ho,_⟩:=h.i_;rw[JD (f.block c b.1),rR hb']at e;have:=eI ho _ e;exact Z
theorem Loc.step{b:Nat}{o:Obj}{f g:aN}(h:Loc y n f b o z)(d:FB y n z g):Loc y n f b o g:=⟨h.fb.trans d,(d.i_ b (aH h.i_) h.ne h.row).trans h.i_,λe=>by rcases d.row _ e with e|e;exact h.row e;have:=aH h.i_;exact Z,h.ne⟩
def sW(cb tp lo:Nat)(fs:List aC)(fv:aX)(d:Nat):Prop:=∀(v:aX) (b:aC) (e_:cY) (w:aN),CK cb tp lo fs fv w e_->b.op=[98,108,111,99,107]->th (sm lo tp) w v b.y_->gC d b->aA e_+cV d b<=90000->W_ Xi 148 #[aY cb,v] w (gJ cb tp lo fs fv w (aT fs (mI fv) d b ⟨e_,0,0⟩))
theorem BO(h:∀k∈r,gC y k):aA r<=(r.map (cV y)).sum:=by
 cases y with
 |zero=>cases r with|nil=>simp|cons x r=>exact(h x (s_)).elim
 |succ y=>exact pP y r
theorem A9{d:Nat}(g:qD y n o r q d):sW y n o r q (d+1):=by grind[cV,aT,cQ,BO,FR,sW,gC]
def Vc(d:Nat)(i:qD y n o r q d)(e_:cY)(w:aN)(h:CK y n o r q w e_)(j:aA e_<=90000):W_ Xi 148 #[aY y,bP] w (gJ y n o r q w ⟨e_,0,0⟩):=by
 have:=FR y n o r q d i (bP) [] e_ w h (ea s_) (s_) G_ s_;have e:({nN r (mI q) d [] ⟨e_,0,0⟩with e_:=(nN r (mI q) d [] ⟨e_,0,0⟩).e_.take (aA e_)}:bK)=⟨e_,0,0⟩:=by simp
 rw[e]at this;exact this
def oW{s t:cY}(h:ua i ⟨t,0,0⟩ y)(b:i.e_=s)(c:aA s+(y+o)<=n):aA t+o<=n:=by grind[ua]
def QN(s:bK)(l:Nat)(x:bQ):bK:=if s.e_.contains x then s else s.found l 6
def Hf(s:bK)(l:Nat)(x:bQ):ua s (QN s l x) 0:=(by grind[ua.of_eq,QN,sC])
def Fv(b c f:Nat)(d:List aC)(e:aX)(w:aN)(a:cY)(h:CK b c f d e w a)(g:aA a<=100000)(l:Nat)(x:bQ):W_ Xi 233 #[aY b,Xn #[Y l,Q_ (bs x)]] w (gJ b c f d e w (QN ⟨a,0,0⟩ l x)):=Jo b c f d e w a h g l x
section
variable {cb tp lo d l:Nat} {fs:List aC} {fv v1 v2 v3:aX} {w W:aN} {e_:cY} {c c0:bK} {a1 a2 a3:aC}
def vh{b f:Nat}{o:Obj}{x:Array Xa}{s:cY}{Q:Ending->World->Prop}(m:W_ Xi f x W (gJ cb tp lo fs fv W c0))(H:Xg (Loc cb tp w b o W/\CK cb tp lo fs fv W s))(j:uf c0 c)(g:∀k l a,Xg (gJ cb tp lo fs fv w c (iE k l) a)->Q (iE k l) a) (n:∀s a,Xg (c0=⟨s,0,0⟩)->Xg (Loc cb tp w b o a/\CK cb tp lo fs fv a s)->Q (fA) a):W_ Xi f x W Q:=m.mono λe a h=>by obtain⟨i,⟨s,d,rfl,p⟩|⟨d,rfl⟩⟩:=h;grind[Loc.step,dw];exact g _ _ a (gJ.fault (H.1.fb.trans i) d j)
def Gh{b:Nat}{a c d:aX}{t:TypeId}(h:W.heap[b]?=Wy (bO #[a,c,d] t)):dR W b 0 a/\dR W b 1 c/\dR W b 2 d/\b<H_ W:=(by grind[aB])
def LC{b:Nat}{a c e d:aX}{t:TypeId}(h:W.heap[b]?=Wy (bO #[a,c,e,d] t)):dR W b 0 a/\dR W b 1 c/\dR W b 2 e/\dR W b 3 d/\b<H_ W:=(by grind[aB])
def GW{Z_:Prop}(Y_:Z_:=by have H:=O h;clear h;go_in;go_wp2;go_end0;exact gJ.done (FB.refl _) aJ H):Z_:=Y_
def OX{k:Nat}(h:CK cb tp lo fs fv w e_):W_ Xi 180 #[aY cb,dI 367 (Xn #[Y l,Y k])] w (gJ cb tp lo fs fv w ⟨e_,0,0⟩):=by exact GW
def Wf{x:ByteArray}(h:CK cb tp lo fs fv w e_):W_ Xi 180 #[aY cb,dI 396 (Xn #[Y l,Q_ x])] w (gJ cb tp lo fs fv w ⟨e_,0,0⟩):=by exact GW
def Sy{x:Bool}(h:CK cb tp lo fs fv w e_):W_ Xi 180 #[aY cb,dI 398 (Xn #[Y l,.bool x])] w (gJ cb tp lo fs fv w ⟨e_,0,0⟩):=by exact GW
def Tl(j:qD cb tp lo fs fv d)(h:CK cb tp lo fs fv w e_){a:List aC}(f:th (sm lo tp) w v1 a)(b:∀k∈a,gC d k)(i:aA e_+((a.map (cV d)).sum+0)<=90000)(q:Xg (c=nN fs (mI fv) d a ⟨e_,0,0⟩)):W_ Xi 180 #[aY cb,dI 348 (Xn #[Y l,v1])] w (gJ cb tp lo fs fv w c):=by
 obtain⟨m,n,rfl⟩:=f.slice;have e:=Loc.new h (bO #[Y l,P_ m (aA a) n] 348);clear h;go_in;go_wp;refine vh (c:=c) (j _ a e_ _ e.2 (f.below e.1.fb.sd) b Z (by have:=BO b;exact Z)) e nj (λk l g H=>?_) λp g o e=>?_;.go_wp;exact⟨aJ,H⟩
 go_wp2;go_end0;grind[Loc.fb,dw,gJ]
def My{x:ByteArray}(j:mU cb tp lo fs fv d)(h:CK cb tp lo fs fv w e_)(f:PN (sm lo tp) w v1 a1)(b:gC d a1)(i:aA e_+(cV d a1+0)<=90000)(p:Xg (c=aT fs (mI fv) d a1 ⟨e_,0,0⟩)):W_ Xi 180 #[aY cb,dI 352 (Xn #[Y l,Q_ x,v1])] w (gJ cb tp lo fs fv w c):=by
 obtain⟨m,e,rfl⟩:=f.form;have a:=Loc.new h (bO #[Y l,Q_ x,dI m (Xn e)] 352);clear h;go_in;go_wp;refine vh (c:=c) (j _ a1 e_ _ a.2 (f.below a.1.fb.sd) b Z) a nj (λk l g H=>?_) λo g n a=>?_;.go_wp;exact⟨aJ,H⟩
 go_wp2;go_end0;grind[Loc.fb,dw,gJ]
def Ti(j:mU cb tp lo fs fv d)(h:CK cb tp lo fs fv w e_)(f:PN (sm lo tp) w v1 a1)(b:gC d a1)(i:aA e_+(cV d a1+0)<=90000)(p:Xg (c=aT fs (mI fv) d a1 ⟨e_,0,0⟩)):W_ Xi 180 #[aY cb,dI 340 (Xn #[Y l,v1])] w (gJ cb tp lo fs fv w c):=by
 obtain⟨m,e,rfl⟩:=f.form;have a:=Loc.new h (bO #[Y l,dI m (Xn e)] 340);clear h;go_in;go_wp;refine vh (c:=c) (j _ a1 e_ _ a.2 (f.below a.1.fb.sd) b Z) a nj (λk l g H=>?_) λo g n a=>?_;.go_wp;exact⟨aJ,H⟩
 go_wp2;go_end0;grind[Loc.fb,dw,gJ]
def S_(j:mU cb tp lo fs fv d)(h:CK cb tp lo fs fv w e_)(f:PN (sm lo tp) w v1 a1)(b:gC d a1)(i:aA e_+(cV d a1+0)<=90000)(p:Xg (c=aT fs (mI fv) d a1 ⟨e_,0,0⟩)):W_ Xi 180 #[aY cb,dI 341 (Xn #[Y l,v1])] w (gJ cb tp lo fs fv w c):=by
 obtain⟨m,e,rfl⟩:=f.form;have a:=Loc.new h (bO #[Y l,dI m (Xn e)] 341);clear h;go_in;go_wp;refine vh (c:=c) (j _ a1 e_ _ a.2 (f.below a.1.fb.sd) b Z) a nj (λk l g H=>?_) λo g n a=>?_;.go_wp;exact⟨aJ,H⟩
 go_wp2;go_end0;grind[Loc.fb,dw,gJ]
def Pf(o:mU cb tp lo fs fv d)(h:CK cb tp lo fs fv w e_)(n:PN (sm lo tp) w v1 a1)(g:gC d a1)(m:PN (sm lo tp) w v2 a2)(e:gC d a2)(b:aA e_+(cV d a1+(cV d a2+0))<=90000)(v:Xg (c=aT fs (mI fv) d a2 (aT fs (mI fv) d a1 ⟨e_,0,0⟩))):W_ Xi 180 #[aY cb,dI 350 (Xn #[Y l,v1,v2])] w (gJ cb tp lo fs fv w c):=by
 obtain⟨p,i,rfl⟩:=n.form;obtain⟨s,f,rfl⟩:=m.form;have a:=Loc.new h (bO #[Y l,dI p (Xn i),dI s (Xn f)] 350);clear h;go_in;go_wp;refine vh (c:=c) (o _ a1 e_ _ a.2 (n.below a.1.fb.sd) g Z) a oj (λk l j H=>?_) λq j r a=>?_;.go_wp;exact⟨aJ,H⟩
 replace b:=oW (r.out▸gZ fs (mI fv) d a1 ⟨e_,0,0⟩) rfl b;have ⟨m1_0,m1_1,m1_2,hz1⟩:=Gh a.1.i_;go_wp21;refine vh (c:=c) (o _ a2 q _ a.2 (m.below a.1.fb.sd) e Z) a nj (λk l j H=>?_) λt x u a=>?_;.go_wp;exact⟨aJ,H⟩
 go_wp2;go_end0;grind[Loc.fb,dw,gJ]
def Pd{x:ByteArray}(o:mU cb tp lo fs fv d)(h:CK cb tp lo fs fv w e_)(n:PN (sm lo tp) w v1 a1)(g:gC d a1)(m:PN (sm lo tp) w v2 a2)(e:gC d a2)(b:aA e_+(cV d a1+(cV d a2+0))<=90000)(v:Xg (c=aT fs (mI fv) d a2 (aT fs (mI fv) d a1 ⟨e_,0,0⟩))):W_ Xi 180 #[aY cb,dI 354 (Xn #[Y l,Q_ x,v1,v2])] w (gJ cb tp lo fs fv w c):=by
 obtain⟨p,i,rfl⟩:=n.form;obtain⟨s,f,rfl⟩:=m.form;have a:=Loc.new h (bO #[Y l,Q_ x,dI p (Xn i),dI s (Xn f)] 354);clear h;go_in;go_wp;refine vh (c:=c) (o _ a1 e_ _ a.2 (n.below a.1.fb.sd) g Z) a oj (λk l j H=>?_) λq j r a=>?_;.go_wp;exact⟨aJ,H⟩
 replace b:=oW (r.out▸gZ fs (mI fv) d a1 ⟨e_,0,0⟩) rfl b;have ⟨m1_0,m1_1,m1_2,m1_3,hz1⟩:=LC a.1.i_;go_wp21;refine vh (c:=c) (o _ a2 q _ a.2 (m.below a.1.fb.sd) e Z) a nj (λk l j H=>?_) λt y u a=>?_;.go_wp;exact⟨aJ,H⟩
 go_wp2;go_end0;grind[Loc.fb,dw,gJ]
def Ji(q:mU cb tp lo fs fv d)(g:sW cb tp lo fs fv d)(h:CK cb tp lo fs fv w e_)(o:PN (sm lo tp) w v1 a1)(f:gC d a1)(j:a2.op=[98,108,111,99,107])(n:th (sm lo tp) w v2 a2.y_)(e:gC d a2)(b:aA e_+(cV d a1+(cV d a2+0))<=90000)(y:Xg (c=aT fs (mI fv) d a2 (aT fs (mI fv) d a1 ⟨e_,0,0⟩))):W_ Xi 180 #[aY cb,dI 338 (Xn #[Y l,v1,v2])] w (gJ cb tp lo fs fv w c):=by
 obtain⟨p,i,rfl⟩:=o.form;obtain⟨s,u,rfl⟩:=n.slice;have a:=Loc.new h (bO #[Y l,dI p (Xn i),P_ s (aA a2.y_) u] 338);clear h;go_in;go_wp;refine vh (c:=c) (q _ a1 e_ _ a.2 (o.below a.1.fb.sd) f Z) a oj (λk l m H=>?_) λr m t a=>?_;.go_wp;exact⟨aJ,H⟩
 replace b:=oW (t.out▸gZ fs (mI fv) d a1 ⟨e_,0,0⟩) rfl b;have ⟨m1_0,m1_1,m1_2,hz1⟩:=Gh a.1.i_;go_wp21;refine vh (c:=c) (g _ a2 r _ a.2 j (n.below a.1.fb.sd) e Z) a nj (λk l m H=>?_) λv z x a=>?_;.go_wp;exact⟨aJ,H⟩
 go_wp2;go_end0;grind[Loc.fb,dw,gJ]
def Lz(z:mU cb tp lo fs fv d)(e:sW cb tp lo fs fv d)(h:CK cb tp lo fs fv w e_)(q:PN (sm lo tp) w v1 a1)(m:gC d a1)(o:a2.op=[98,108,111,99,107])(p:th (sm lo tp) w v2 a2.y_)(f:gC d a2)(i:a3.op=[98,108,111,99,107])(s:th (sm lo tp) w v3 a3.y_)(j:gC d a3)(b:aA e_+(cV d a1+(cV d a2+(cV d a3+0)))<=90000)(E:Xg (c=aT fs (mI fv) d a3 (aT fs (mI fv) d a2 (aT fs (mI fv) d a1 ⟨e_,0,0⟩)))):W_ Xi 180 #[aY cb,dI 336 (Xn #[Y l,v1,v2,v3])] w (gJ cb tp lo fs fv w c):=by
 obtain⟨t,n,rfl⟩:=q.form;obtain⟨A,C,rfl⟩:=p.slice;obtain⟨u,v,rfl⟩:=s.slice;have a:=Loc.new h (bO #[Y l,dI t (Xn n),P_ A (aA a2.y_) C,P_ u (aA a3.y_) v] 336);clear h;go_in;go_wp;refine vh (c:=c) (z _ a1 e_ _ a.2 (q.below a.1.fb.sd) m Z) a (by grind[dw,uf.walk,uf]) (λk l g H=>?_) λr g B a=>?_;.go_wp;exact⟨aJ,H⟩
 replace b:=oW (B.out▸gZ fs (mI fv) d a1 ⟨e_,0,0⟩) rfl b;have ⟨m1_0,m1_1,m1_2,m1_3,hz1⟩:=LC a.1.i_;go_wp21;refine vh (c:=c) (e _ a2 r _ a.2 o (p.below a.1.fb.sd) f Z) a oj (λk l g H=>?_) λx I y a=>?_;.go_wp;exact⟨aJ,H⟩
 replace b:=oW (y.out▸gZ fs (mI fv) d a2 ⟨r,0,0⟩) rfl b;have ⟨m2_0,m2_1,m2_2,m2_3,hz2⟩:=LC a.1.i_;go_wp21;refine vh (c:=c) (e _ a3 x _ a.2 i (s.below a.1.fb.sd) j Z) a nj (λk l g H=>?_) λF D G a=>?_;.go_wp;exact⟨aJ,H⟩
 go_wp2;go_end0;grind[Loc.fb,dw,gJ]
def Mz(t:mU cb tp lo fs fv d)(u:qD cb tp lo fs fv d)(i:sW cb tp lo fs fv d)(h:CK cb tp lo fs fv w e_)(o:PN (sm lo tp) w v1 a1)(g:gC d a1)(m:a2.op=[98,108,111,99,107])(n:th (sm lo tp) w v2 a2.y_)(e:gC d a2)(b:aA e_+(cV d a1+(cV d a2+(0+0)))<=90000)(A:Xg (c=aT fs (mI fv) d a2 (aT fs (mI fv) d a1 ⟨e_,0,0⟩))):W_ Xi 180 #[aY cb,dI 336 (Xn #[Y l,v1,v2,bP])] w (gJ cb tp lo fs fv w c):=by
 obtain⟨q,j,rfl⟩:=o.form;obtain⟨v,y,rfl⟩:=n.slice;have a:=Loc.new h (bO #[Y l,dI q (Xn j),P_ v (aA a2.y_) y,bP] 336);clear h;go_in;go_wp;refine vh (c:=c) (t _ a1 e_ _ a.2 (o.below a.1.fb.sd) g Z) a oj (λk l f H=>?_) λp f x a=>?_;.go_wp;exact⟨aJ,H⟩
 replace b:=oW (x.out▸gZ fs (mI fv) d a1 ⟨e_,0,0⟩) rfl b;have ⟨m1_0,m1_1,m1_2,m1_3,hz1⟩:=LC a.1.i_;go_wp21;refine vh (c:=c) (i _ a2 p _ a.2 m (n.below a.1.fb.sd) e Z) a nj (λk l f H=>?_) λr D s a=>?_;.go_wp;exact⟨aJ,H⟩
 replace b:=oW (s.out▸gZ fs (mI fv) d a2 ⟨p,0,0⟩) rfl b;have ⟨m2_0,m2_1,m2_2,m2_3,hz2⟩:=LC a.1.i_;go_wp21;refine vh (c:=c) (Vc d u r _ a.2 Z) a (by grind[uf]) (λk l f H=>?_) λB z C a=>?_;.go_wp;exact⟨aJ,H⟩
 go_wp2;go_end0;grind[Loc.fb,dw,gJ]
def WW{x:bQ}(h:CK cb tp lo fs fv w e_)(d:aA e_+(0+0)<=90000)(g:Xg (c=QN ⟨e_,0,0⟩ l x)):W_ Xi 180 #[aY cb,dI 346 (Xn #[Y l,Q_ (bs x)])] w (gJ cb tp lo fs fv w c):=by
 have a:=Loc.new h (bO #[Y l,Q_ (bs x)] 346);clear h;go_in;go_wp;refine vh (c:=c) (Fv cb tp lo fs fv _ e_ a.2 Z l x) a nj (λk l b H=>?_) λf b e a=>?_;.go_wp;exact⟨aJ,H⟩
 go_wp2;go_end0;grind[Loc.fb,dw,gJ]
def Tf{x:bQ}(s:mU cb tp lo fs fv d)(t:qD cb tp lo fs fv d)(h:CK cb tp lo fs fv w e_){e:List aC}(m:th (sm lo tp) w v2 e)(f:∀k∈e,gC d k)(n:PN (sm lo tp) w v1 a1)(i:gC d a1)(b:aA e_+(0+((e.map (cV d)).sum+(cV d a1+0)))<=90000)(A:Xg (c=aT fs (mI fv) d a1 (nN fs (mI fv) d e (QN ⟨e_,0,0⟩ l x)))):W_ Xi 180 #[aY cb,dI 334 (Xn #[Y l,Q_ (bs x),v2,v1])] w (gJ cb tp lo fs fv w c):=by
 obtain⟨u,y,rfl⟩:=m.slice;obtain⟨p,j,rfl⟩:=n.form;have a:=Loc.new h (bO #[Y l,Q_ (bs x),P_ u (aA e) y,dI p (Xn j)] 334);clear h;go_in;go_wp;refine vh (c:=c) (Fv cb tp lo fs fv _ e_ a.2 Z l x) a (by grind[dw,uf.fold,uf.walk,uf]) (λk l g H=>?_) λo g v a=>?_;.go_wp;exact⟨aJ,H⟩
 replace b:=oW (v.out▸Hf ⟨e_,0,0⟩ l x) rfl b;have ⟨m1_0,m1_1,m1_2,m1_3,hz1⟩:=LC a.1.i_;go_wp21;refine vh (c:=c) (t _ e o _ a.2 (m.below a.1.fb.sd) f Z (by have:=BO f;exact Z)) a oj (λk l g H=>?_) λq D r a=>?_;.go_wp;exact⟨aJ,H⟩
 replace b:=oW (r.out▸PO fs (mI fv) d e ⟨o,0,0⟩) rfl b;have ⟨m2_0,m2_1,m2_2,m2_3,hz2⟩:=LC a.1.i_;go_wp21;refine vh (c:=c) (s _ a1 q _ a.2 (n.below a.1.fb.sd) i Z) a nj (λk l g H=>?_) λB z C a=>?_;.go_wp;exact⟨aJ,H⟩
 go_wp2;go_end0;grind[Loc.fb,dw,gJ]
end
section
variable {cb tp lo d l m:Nat} {fs:List aC} {fv v v1:aX} {w:aN} {e_:cY} {c:bK} {a t a1:aC}
def Z5(g:aA fs<=90000)(i:∀f∈fs,aA f.y_<=90000)(q:qD cb tp lo fs fv d)(h:CK cb tp lo fs fv w e_)(m:th (sm lo tp) w v a.y_)(j:∀k∈a.y_,gC d k)(e:aA e_+(a.y_.map (cV d)).sum<=90000)(n:Xg (c=nN fs (mI fv) d a.y_ (gG fs (mI fv) ⟨e_,0,0⟩ a))):W_ Xi 180 #[aY cb,dI 343 (Xn #[Y a.l_,Q_ (bs a.x_),v])] w (gJ cb tp lo fs fv w c):=by
 obtain⟨p,r,rfl⟩:=m.slice;have b:=Loc.new h (bO #[Y a.l_,Q_ (bs a.x_),P_ p (aA a.y_) r] 343);have t:=O (U8 cb tp lo fs fv g i d q a _ e_ _ b.2 (m.below b.1.fb.sd) j e (by have:=BO j;exact Z));clear h;go_in;go_wp;refine vh (c:=c) t b (by rw[n];exact uf.refl _) (λk l o H=>?_) λu o s b=>?_;.go_wp;exact⟨aJ,H⟩
 go_wp2;go_end0;exact gJ.done b.1.fb (by rw[n,s.out]) b.2
def M5(n:mU cb tp lo fs fv d)(h:CK cb tp lo fs fv w e_)(g:PN (sm lo tp) w v1 a1)(b:gC d a1)(e:aA e_+cV d a1<=90000)(i:Xg (c=({aT fs (mI fv) d a1 (Hs.oo ⟨e_,0,0⟩ t)with e_:=(aT fs (mI fv) d a1 (Hs.oo ⟨e_,0,0⟩ t)).e_++[t.x_]}:bK))):W_ Xi 180 #[aY cb,dI 331 (Xn #[Y l,Y t.l_,Q_ (bs t.x_),v1])] w (gJ cb tp lo fs fv w c):=by
 obtain⟨o,f,rfl⟩:=g.form;have a:=Loc.new h (bO #[Y l,Y t.l_,Q_ (bs t.x_),dI o (Xn f)] 331);have p:=O (ZL cb tp lo fs fv d n _ e_ a.2 l t a1 _ (g.below a.1.fb.sd) b e);clear h;go_in;go_wp;refine vh (c:=c) p a (by rw[i];exact uf.refl _) (λk l j H=>?_) λq j m a=>?_;.go_wp;exact⟨aJ,H⟩
 go_wp2;go_end0;exact gJ.done a.1.fb (by rw[i,m.out]) a.2
def M4(h:CK cb tp lo fs fv w e_):W_ Xi 180 #[aY cb,dI 340 (Xn #[Y l,dI 367 (Xn #[Y m,Y 0])])] w (gJ cb tp lo fs fv w ⟨e_,0,0⟩):=by
 have a:=Loc.new h (bO #[Y l,dI 367 (Xn #[Y m,Y 0])] 340);have e:=O (OX (l:=m) (k:=0) a.2);clear h;go_in;go_wp;refine vh (c:=⟨e_,0,0⟩) e a (uf.refl _) (λk l b H=>?_) λf b d a=>?_;.go_wp;exact⟨aJ,H⟩
 go_wp2;go_end0;exact gJ.done a.1.fb d a.2
end
def tX(e:(g.op==[118,97,114])=WD)(f:(g.op==[98,108,111,99,107])=WD):aT r b (y+1) g i=nN r b y g.y_ (cQ r b i g):=by grind[aT]
theorem tg(e:(g.op==[115,101,116])=WD)(d:(g.op==[110,97,109,101])=WD)(f:(g.op==[99,97,108,108])=WD):cQ r b i g=i:=by grind[cQ]
theorem XC(h:(g.op==[115,101,116]||g.op==[110,97,109,101])=W1):cQ r b i g=QN i g.l_ g.x_:=by unfold cQ;rw[h];rfl
def PE(h:g.op=[99,97,108,108]):cQ r b i g=gG r b i g:=by grind[cQ]
def WP{y:bQ}(h:cU j≠9)(a:cU y=9):(j==y)=WD:=by grind
def pN(h:g.op=j)(k:(j==[118,97,114]||j==[98,108,111,99,107]||j==[115,101,116]||j==[110,97,109,101]||j==[99,97,108,108])=WD:=by decide):aT r b (y+1) g i=nN r b y g.y_ i:=by grind[tg,aT]
theorem Nq(B D G:Nat)(m:List aC)(n:aX)(C:aA m<=90000)(E:∀f∈m,aA f.y_<=90000)(d:Nat)(IHs:∀e,e<=d->mU B D G m n e):mU B D G m n (d+1):=by
 intro v a e_ w h N y i;obtain⟨T,cs,X,rfl,K,q⟩:=N.parts;have r:=IHs d lZ;have H:=xU B D G m n d r;have x:sW B D G m n d:=by cases d with|zero=>grind[sW,gC]|succ e=>grind[A9,xU]
 rw[cV]at i;have j:∀k∈a.y_,gC d k:=y;clear N y;rcases K with ⟨rfl,k,rfl,g,W,b,rfl⟩|⟨rfl,rfl,g,b,rfl⟩|⟨rfl,rfl,g,b,rfl⟩|⟨rfl,I,rfl,g,rfl⟩|⟨rfl,I,rfl,g,rfl⟩|⟨rfl,rfl,g,b,rfl⟩|⟨rfl,l,u,S,p,V,rfl,g,b,rfl⟩|⟨rfl,o,u,p,rfl,ho,g,b,rfl⟩|⟨rfl,l,u,S,p,V,rfl,g,b,rfl⟩|⟨rfl,u,t,p,rfl,g,b,rfl⟩|⟨rfl,I,u,l,p,rfl,g,b,rfl⟩|⟨rfl,u,M,p,L,rfl,g,s,b,rfl⟩|⟨rfl,u,M,s2,p,L,b2,rfl,g,s,J,b,rfl⟩|⟨rfl,u,M,p,L,rfl,g,s,b,rfl⟩|⟨rfl,l,rfl,g,b,rfl⟩|⟨rfl,u,p,rfl,g,b,rfl⟩|⟨rfl,u,p,rfl,g,b,rfl⟩|⟨rfl,I,c,rfl,g,Q,P,b,z,rfl⟩;have e:aT m (mI n) (d+1) a ⟨e_,0,0⟩=⟨e_,0,0⟩:=by rw[pN g,b];rfl
 rw[e];exact OX h;have e:aT m (mI n) (d+1) a ⟨e_,0,0⟩=⟨e_,0,0⟩:=by rw[pN g,b];rfl
 rw[e];exact Wf h;have e:aT m (mI n) (d+1) a ⟨e_,0,0⟩=⟨e_,0,0⟩:=by rw[pN g,b];rfl
 rw[e];exact Sy h;rw[pN g];exact Tl H h nk j Z rfl;rw[tX G_ G_,PE g];exact Z5 C E H h nk j Z rfl;have e:aT m (mI n) (d+1) a ⟨e_,0,0⟩=QN ⟨e_,0,0⟩ a.l_ a.x_:=by grind[XC,aT]
 rw[e];exact WW h Z rfl;rw[pN g,b];rw[b]at i j;simp only[fk,gg,fq,gr]at i;exact Pf r h (q _ s_).uu (G_) om (G_) Z rfl;have F:a.op=[45,120]\/a.op=[33,120]:=G_;have e:aT m (mI n) (d+1) a ⟨e_,0,0⟩=aT m (mI n) d p ⟨e_,0,0⟩:=by rcases F with g|g<;>(rw[pN g,b];rfl)
 rw[e];rw[b]at i j;simp only[fk,gg,fq,gr]at i;exact My r h (q _ s_).uu (G_) Z rfl;rw[tX (WP g d_) (WP g d_),tg (WP g d_) (WP g d_) (WP g d_),b];rw[b]at i j;simp only[fk,gg,fq,gr]at i;exact Pd r h (q _ s_).uu (G_) om (G_) Z rfl;have e:aT m (mI n) (d+1) a ⟨e_,0,0⟩={aT m (mI n) d p (Hs.oo ⟨e_,0,0⟩ t)with e_:=(aT m (mI n) d p (Hs.oo ⟨e_,0,0⟩ t)).e_++[t.x_]}:=by grind[aT]
 rw[e];rw[b]at i j;simp only[fk,gg,fq,gr]at i;exact M5 r h (q _ s_).uu (G_) Z rfl;rw[tX G_ G_,XC G_,b];rw[b]at i j;simp only[ft,fk,gg,jn,fq,gr]at i;have e:nN m (mI n) d (l++[p]) (QN ⟨e_,0,0⟩ a.l_ a.x_)=aT m (mI n) d p (nN m (mI n) d l (QN ⟨e_,0,0⟩ a.l_ a.x_)):=by simp
 rw[e];exact Tf r H h nk (G_) om (G_) Z rfl;rw[pN g,b];rw[b]at i j;simp only[fk,gg,fq,gr]at i;exact Mz r H x h om (G_) s nk (G_) Z rfl;rw[pN g,b];rw[b]at i j;simp only[fk,gg,fq,gr]at i;exact Lz r x h om (G_) s nk (G_) J nk (G_) Z rfl;rw[pN g,b];rw[b]at i j;simp only[fk,gg,fq,gr]at i;exact Ji r x h om (G_) s nk (G_) Z rfl;have e:aT m (mI n) (d+1) a ⟨e_,0,0⟩=⟨e_,0,0⟩:=by rw[pN g,b];rfl
 rw[e];exact M4 h;rw[pN g,b];rw[b]at i j;simp only[fk,gg,fq,gr]at i;exact Ti r h (q _ s_).uu (G_) Z rfl;rw[pN g,b];rw[b]at i j;simp only[fk,gg,fq,gr]at i;exact S_ r h (q _ s_).uu (G_) Z rfl;rw[pN g,b];rw[b]at i j;simp[fk,gg,fq,gr]at i;have A:=j c s_;cases d with|zero=>exact A.elim|succ e=>show W_ _ _ _ _ (gJ B D G m n w (aT m (mI n) (e+1) c ⟨e_,0,0⟩));rw[cV]at i;rw[tX G_ G_,PE z];exact Z5 C E ((by grind[xU])) h nk A Z rfl
theorem Hw(b g i:Nat)(a:List aC)(h:aX)(e:aA a<=90000)(c:∀f∈a,aA f.y_<=90000)(d:Nat):mU b g i a h d:=by induction d using Nat.strongRecOn with|_ d j=>cases d with|zero=>grind[mU,gC]|succ d=>grind[Nq]
def Mp(k:Nat)(c:k<aA r):(Bu r)[k*2]?=Wy (Y r[k].l_)/\(Bu r)[k*2+1]?=Wy (Q_ (bs r[k].x_)):=by induction r generalizing k with|nil=>simp at c|cons a r d=>grind[Bu]
def zd.get(h:zd s z q r):(q=bP/\r=[])\/∃g a,q=P_ (Wy (aL g 0)) (aA r) a/\s g/\g<H_ z/\aA r<=a/\∀k (c:k<aA r),dR z g (k*2) (Y r[k].l_)/\dR z g (k*2+1) (Q_ (bs r[k].x_)):=by obtain⟨_,h|⟨g,a,d,i,e,l,f,j⟩⟩:=h;grind;refine dz ⟨g,a,i,e,G_,f,λk c=>?_⟩;have ⟨e1,e2⟩:=Mp k c;grind[aB]
def KP:∀{a:List Xa}{c:List aC} (i:Nat),jN (CS s z) a c->i<=aA c->(pC a).take (i*4)=pC (a.take i)|[],[],i,_,h=>by simp[pC]|u::a,f::c,0,_,_=>by simp[pC]|u::a,f::c,i+1,⟨⟨l,j,d,b,g,_⟩,h⟩,k=>by have e:=KP i h G_;grind[pC,KY]|[],_::_,_,h,_=>h.elim|_::_,[],_,h,_=>h.elim
def jN.take{R:Xa->aC->Prop}:∀{a b} (i:Nat),jN R a b->jN R (a.take i) (b.take i)|_,_,0,_=>by simp[jN]|[],[],_+1,_=>trivial|_::_,_::_,i+1,⟨d,c⟩=>⟨d,jN.take i c⟩|[],_::_,_,h=>h.elim|_::_,[],_,h=>h.elim
def vq.take{g:Nat}(h:vq s z (.slice (Wy (aL g 0)) (aA r) y) r)(i:Nat)(n:i<=aA r):vq s z (.slice (Wy (aL g 0)) i y) (r.take i):=by rcases h with ⟨c,_⟩|⟨q,e,d,o,c,k,m,p,l,j⟩;cases c;cases c;have f:aA (r.take i)=i:=G_;refine dz ⟨g,y,d,o.take i,by rw[f],k,m,Z,?_,j.take i⟩;rw[f,<-KP i j n,<-l,List.take_take];grind
def CK.reset{m:aX}{b:cY}(h:CK y n o r q z b)(c:z.heap[y]?=Wy (bO #[q,m] 191)):FB y n z (c9 z (aL y 1) (bP))/\CK y n o r q (c9 z (aL y 1) (bP)) []:=by
 have i:Below n z (c9 z (aL y 1) (bP)):=(dv _ _).setCell h.lt.2 _;have l:(c9 z (aL y 1) (bP)).heap[y]?=Wy (bO #[q,bP] 191):=by rw[aP c];rfl
 refine⟨⟨i,oa,λk d=>?_⟩,⟨bP,l,Ww _ _ _ _,od,h.lt.2⟩,h.wq.h_ λk d=>i.block k d.2⟩;rw[rR l]at d;cases d
def K7(a:List aC)(x:bQ):(pO a x).isSome=(gM x||!(dG a x).isNone):=by grind[pO,gM]
theorem JQ(a:List aC)(d:Nat)(s:bK)(k:aC):uf s (eP a d s k):=by grind[eP,uf.declares,uf.walk,uf]
def Sr(a:List aC)(d:Nat)(s:bK)(k:aC)(h:k.op=[112,97,114,97,109]):eP a d s k={Hs.oo s k with e_:=(Hs.oo s k).e_++[k.x_]}:=by grind[eP]
def Pm(a:List aC)(d:Nat)(s:bK)(k:aC)(h:k.op=[98,108,111,99,107]):eP a d s k=aT a WD d k s:=by grind[eP]
def Fb(cb tp lo:Nat)(fs:List aC)(fv:aX)(d:Nat)(w:aN)(b0:Nat)(o:Obj)(ps:List aC)(b:aC)(c:bK)(gk:Nat)(i:aX)(wr:aN):Prop:=∃k s,k+gk=aA ps/\i=Y (k:Nat)/\Loc cb tp w b0 o wr/\CK cb tp lo fs fv wr s/\c=(ps.drop k++[b]).foldl (eP fs d) ⟨s,0,0⟩/\aA s=k
def T7(b:List aC)(d:Nat)(a:cY)(f:aC)(first:Bool)(h:(gM f.x_||!first)=W1):uf ⟨[],6,f.l_⟩ (gP b d ⟨a,0,0⟩ f first):=by unfold gP;rw[h];exact uf.fold (JQ b d) _ _
def Q6(b:List aC)(d:Nat)(a:cY)(f:aC)(first:Bool)(h:(gM f.x_||!first)=WD):gP b d ⟨a,0,0⟩ f first=f.y_.foldl (eP b d) ⟨[],0,0⟩:=by grind[gP]
def Hi(x D K:Nat)(c:List aC)(g m:Nat)(dc:aA c<=90000)(ax:∀f∈c,aA f.y_<=90000)(d i:Nat)(hi:i<aA c)(n:cY)(w:aN)(h:CK x D K c (FV (P_ (Wy (aL g 0)) (aA c) m)) w n) (hd:∀k∈c[i].y_,gC d k) (hw:c[i].y_.length+(c[i].y_.map (cV d)).sum<=90000):W_ Xi 90 #[aY x,P_ (Wy (aL g 0)) (aA c) m,Y i] w (gJ x D K c (FV (P_ (Wy (aL g 0)) (aA c) m)) w (gP c d ⟨n,0,0⟩ c[i] (dG (c.take i) c[i].x_).isNone)):=by
 obtain⟨_,G,ac⟩|⟨G,_⟩:=h.wq;rotate_left;cases G;cases G;rcases ac.cells with ⟨h1,_⟩|⟨g',cq,h1,ci,cz,cm,hc⟩;cases h1;cases h1;obtain⟨pv,bv,q,b,e0,e1,e2,e3,F,ad,al,ai⟩:=hc i hi;obtain⟨Q,W,rfl⟩:=ad.slice;obtain⟨I,J,rfl⟩:=ai.slice;have ap:=O (K7 (c.take i) c[i].x_);have de:=ax c[i] (ga hi);have bf:=O (ac.take i Z);generalize dd:c[i]=f at*;have cv:=O (λhx=>T7 c d n f (dG (c.take i) f.x_).isNone hx);have bn:=O (λhx=>Q6 c d n f (dG (c.take i) f.x_).isNone hx);have df:=h.lt;have ⟨hl0,hk0⟩:=Loc.new h (bO #[Y f.l_,Q_ (bs f.x_),P_ Q (aA q) W,P_ I (aA b.y_) J] 185);obtain⟨sx,sc,S,cx,cp,ay,-⟩:=h.cut;have ⟨z,c0,c1,f1⟩:=mS S;have bi:=O hl0;have bl:=O hk0;have ar:=O ad;have cg:=O ai;have an:=O al;have ah:=O F;have HD:=O hd;have HW:=O hw;have bm:i<=m:=Z;have HBLK:Xg (sW x D K c (FV (P_ (Wy (aL g 0)) (aA c) m)) d):=by cases d with|zero=>exact λ_ _ _ _ _ _ _ hd _=>hd.elim|succ e=>grind[A9,xU,Hw]
 have cs:aA q<=90000:=G_;have bu:Xg (R_ w (eF w #[Y f.l_,Q_ (bs f.x_),P_ Q (aA q) W,P_ I (aA b.y_) J] 185)):=(dv _ _).alloc (Z) _;have P:=O (JV (c.take i) (sm K D) (P_ (Wy (aL g 0)) i m) f.x_ (eF w #[Y f.l_,Q_ (bs f.x_),P_ Q (aA q) W,P_ I (aA b.y_) J] 185).drew G_ (G_) (bf.h_ λk hk=>by have:=hk.2;exact ed _ _ _ Z));rw[ap]at P;generalize ck:((pO (List.take i c) f.x_).getD 0)=pn at P;have ⟨tk,htk⟩:∃tk,tk=(gM f.x_||!(dG (c.take i) f.x_).isNone):=(by simp);rw[<-htk]at P;have bh:=O htk;have ⟨cc,o⟩:∃cc,cc=gP c d ⟨n,0,0⟩ f (dG (c.take i) f.x_).isNone:=(by simp);rw[<-o];have bt:=O o;clear ck htk o h hl0 hk0 ad ai al F hd hw ax ac hc S ay ap bf ci;go_in;go_wp2;go_cut [7,8] (λ_ tv wc=>tv=.bool tk/\R_ w wc/\Loc x D w (H_ w) (bO #[Y f.l_,Q_ (bs f.x_),P_ Q (aA q) W,P_ I (aA b.y_) J] 185) wc/\CK x D K c (FV (P_ (Wy (aL g 0)) (aA c) m)) wc n);case first=>go_region_law (go_simp;go_at_call 88;refine sa P λw1 cl=>?_;have ag:=O ((dv (eF w #[Y f.l_,Q_ (bs f.x_),P_ Q (aA q) W,P_ I (aA b.y_) J] 185).heap.size (eF w #[Y f.l_,Q_ (bs f.x_),P_ Q (aA q) W,P_ I (aA b.y_) J] 185)).drew.trans cl));all_goals go_wp;go_meet;case rel=>exact⟨aJ,bu.trans (ag.mono s_),bi.step (FB.p_ ag la),bl.grow ag⟩
 case rest=>
  obtain⟨rfl,bj,A,bg⟩:=hcut;obtain⟨cy,cw,B,cu,cf,bo,-⟩:=bg.cut;have ⟨z,c0,c1,f1⟩:=mS B;have bq:=O A;have m0:=aB A.i_ (i:=0) aJ;have m1:=aB A.i_ (i:=1) aJ;have m2:=aB A.i_ (i:=2) aJ;have m3:=aB A.i_ (i:=3) aJ;have bb:=aH A.i_;have ak:=O (bg.reset B);have bd:=O bj;cases tk;rotate_left;.go_wp;refine sa (wY f.l_ _) λH t=>?_;have v:=O (bd.trans (t.mono bd.size));go_wp2_with (go_at_call 89;refine sa (lD 6 f.l_ _) λw3 hw=>?_;obtain rfl:=hw.symm);exact⟨aJ,(by grind[FB.p_,dw,gJ,uf])⟩
  have HI:Xg (Fb x D K c (FV (P_ (Wy (aL g 0)) (aA c) m)) d w (H_ w) (bO #[Y f.l_,Q_ (bs f.x_),P_ Q (aA q) W,P_ I (aA b.y_) J] 185) q b cc (aA q) (Y (0:Nat)) (c9 wc (aL x 1) (bP))):=⟨0,[],Z,rfl,bq.step ak.1,ak.2,by rw[bt,bn bh.symm,ah];rfl,rfl⟩;have cr:¬x=H_ w:=Z;have ⟨i0,hi0,hz0,hz1',hz2⟩:=info_parts GJ;go_wp2;go_loopg [10,37] (aA q) (λgk _ iv wr=>Fb x D K c (FV (P_ (Wy (aL g 0)) (aA c) m)) d w (H_ w) (bO #[Y f.l_,Q_ (bs f.x_),P_ Q (aA q) W,P_ I (aA b.y_) J] 185) q b cc gk iv wr);case atStart=>exact HI
  case round=>
   obtain⟨k,s,hk,rfl,l,N,o,am⟩:=hrel;have ba:=O am;have co:aA s<=90000:=Z;clear am;have M:=O l;have av:=O o;have m0:=aB l.i_ (i:=0) aJ;have m1:=aB l.i_ (i:=1) aJ;have m2:=aB l.i_ (i:=2) aJ;have m3:=aB l.i_ (i:=3) aJ;have bb:=aH l.i_;by_cases z:k<aA q
   .obtain⟨j,rfl⟩:∃j,gk=j+1:=⟨gk-1,Z⟩;rcases ar.get with ⟨_,aj⟩|⟨pg,cn,G,be,bw,ch,C⟩;rw[aj]at z;simp at z;have ⟨hp1,hp2⟩:=C k z;have az:=ar.1 q[k] (s_);have hdk:=(List.getElem_cons_drop z).symm;have V:cc=(q.drop (k+1)++[b]).foldl (eP c d) (eP c d ⟨s,0,0⟩ q[k]):=by rw[o,hdk];rfl
    generalize q[k]=a at*;cases G;have r0:=(l.fb.sd.cell (p:=(aL pg (k*2))) be.2).trans hp1;have r1:=(l.fb.sd.cell (p:=(aL pg (k*2+1))) be.2).trans hp2;have hpgl:=Z;have ⟨hl2,L⟩:=Loc.new N (bO #[Y a.l_,Q_ (bs a.x_)] 181);have ae:=O hl2;have HM:=O (wU x D K c _ (eF wr #[Y a.l_,Q_ (bs a.x_)] 181) s L Z a.l_ a.x_);have aq:Xg (Hs.oo ⟨s,0,0⟩ a=if gM a.x_||s.contains a.x_ then bK.found ⟨s,0,0⟩ a.l_ 6 else ⟨s,0,0⟩):=rfl;rw[<-aq]at HM;have X:=O (Sr c d ⟨s,0,0⟩ a az);have au:=lG ⟨s,0,0⟩ a;have br:=O au;have r:=O V;clear o V hdk hp1 hp2 C ch bw av au aq hl2 L l N az;generalize Hs.oo ⟨s,0,0⟩ a=c1 at*;go_wp;apply HM.mono;rintro e H ⟨t,⟨s2,rfl,rfl,u⟩|⟨aa,rfl⟩⟩;rotate_left;.have ca:=O (M.fb.trans (ae.fb.trans t));have HK:=O aa;go_wp;exact⟨aJ,gJ.fault (c1:=c1) ca HK (by rw[r,X];exact(uf.e_ _ _).trans (uf.fold (JQ c d) _ _))⟩
    obtain rfl:s2=s:=br.out;have cj:=O (ae.step t);have HLb:=O ((M.step ae.fb).step t);have ⟨sx2,sc2,hblk2,hsc2,hscm2,hown2,hne2⟩:=u.cut;have ⟨hlt2,c0,c1,f1⟩:=mS hblk2;have n1:=aB cj.i_ (i:=1) aJ;have bb:=aH HLb.i_;have v:=O (show H.drew.heap[x]?=_ from hblk2);have ao:=O (show H.drew.ownsRow _ _ _ _ _ _ from hown2);have E:=O (show CK x D K c (FV (P_ (Wy (aL g 0)) (aA c) m)) H.drew s2 from u.grow (dv _ _).drew);have ce:=O hne2;have bz:=O (FB.p_ (cb:=x) (dv (H_ H) H).drew u.lt);go_wp2;go_region_law (refine step_append_lies _ r_ _ _ 52 r_ D 9 i0 _ 1 16 underlying52 hi0 hz0 hz1' hz2 rfl d_ (P_ sx2 (aA s2) sc2) (aA s2) (kE s2) r_ (ao.alloc _) (aL (H_ H) 0) 1 1 [Q_ (bs a.x_)] r_ r_ (BL H.drew _) (GI _) d_ lg Z la (H_ H+1) s_ ?_;intro g5 ct w5 af y aw dg;have cd:=KZ v y ce;obtain⟨db,-,q1,da⟩:=mS cd);all_goals
     go_wp2;go_roundg j;case measure=>exact Z
     case rel=>have T:=E.add v ao af y (aw.imp_right λe=>by show H_ H<=g5;exact Z);exact⟨k+1,s2++[a.x_],Z,ll,(HLb.step bz).step T.1,T.2,by rw[r,X],by have:=ba.out;grind⟩
   have ab:gC d b/\aA s+cV d b<=90000:=by have h1:=HW.out;have h2:=HD b (by rw[ah];simp);rw[ah]at h1;simp[et,ft,jn,fk,gg,fq,gr,fg,fi]at h1;have:=ba.out;grind
   have HX:=O (HBLK (P_ I (aA b.y_) J) b s wr N an (cg.below l.fb.sd) ab.1 ab.2);have r:Xg (cc=aT c (mI (FV (P_ (Wy (aL g 0)) (aA c) m))) d b ⟨s,0,0⟩):=by rw[o,gp Z];exact Pm c d _ b an
   rw[<-r]at HX;clear l N o av r ab;go_wp;apply HX.mono;rintro e H ⟨t,⟨s2,L,rfl,u⟩|⟨aa,rfl⟩⟩;.have v:=O (M.fb.trans t);have E:=O u;have bp:=O L;go_wp2;go_end0;exact gJ.done v bp E
   have v:=O (M.fb.trans t);have E:=O aa;go_wp;exact⟨aJ,gJ.fault (c1:=cc) v E (uf.refl _)⟩
def wV(fs:List aC):Bool:=pO fs [109,97,105,110]==Wy 0
def TZ{Z_:Prop}(Y_:Z_:=by go_in;go_wp2_with fail;refine sa HP λw1 hb1=>?_;have HB:=O hb1;clear hb1;go_wp2_with (go_at_call 89;refine sa (lD 5 0 _) λw3 hw=>?_;obtain rfl:=hw.symm);exact⟨aJ,HB,s_⟩):Z_:=Y_
def U7(a:List aC)(F:bL)(j:aX)(w:aN)(o:aA a<=90000)(g:∀f∈a,aA f.y_<=90000)(h:vq F w j a):W_ Xi 50 #[j] w λe m=>R_ w m/\((wV a=W1/\e=fA)\/(wV a=WD/\e=iE 5 0)):=by
 have HP:=O (JV a F j [109,97,105,110] w Z g h);have d:Xg (wV a=(pO a [109,97,105,110]==Wy 0)):=rfl;have b:=O (λn l=>Z4 g (x:=[109,97,105,110]) (n:=n) l);clear h g;rw[show bs [109,97,105,110]=⟨#[109,97,105,110]⟩from rfl]at HP;have ⟨i,hmo⟩:∃i,i=wV a:=(by simp);rw[<-hmo]at d⊢;clear hmo;cases c:pO a [109,97,105,110]with
 |none=>
  obtain rfl:i=WD:=by rw[d,c];rfl
  rw[c]at HP;simp[Option.getD_none,Option.isSome_none]at HP;clear c d b;exact TZ|some n=>
  have l:=b n c;rw[c]at HP;simp[jc,Option.isSome_some]at HP;cases n with|zero=>
   obtain rfl:i=W1:=by rw[d,c];rfl
   clear c d b;go_in;go_wp;refine sa HP λw1 hb1=>?_;have HB:=O hb1;clear hb1;go_wp2;go_end0;grind[dw]|succ n=>
   obtain rfl:i=WD:=by rw[d,c];rfl
   clear c d b;have k:decide ((0:Int)<((n:Int)+1))=W1:=(by simp);exact TZ
theorem p7(c:List aC)(d:Nat):∀(a b:List aC) (s:bK),uf s (eW c d b a s)|[],_,s=>uf.refl s|n::a,b,s=>by refine uf.trans ?_ (p7 c d a _ _);grind[gP,uf.fold,JQ,uf.found,uf]
def TU(cb tp lo:Nat)(fs:List aC)(fv:aX)(d:Nat)(w:aN)(c:bK)(gk:Nat)(i:aX)(wr:aN):Prop:=∃k s,k+gk=aA fs/\i=Y (k:Nat)/\Below cb w wr/\CK cb tp lo fs fv wr s/\c=eW fs d (fs.take k) (fs.drop k) ⟨s,0,0⟩
def ZR(v:Nat)(a:List aC)(J:aX)(w:aN)(d:Nat)(C:aA a<=90000)(u:∀f∈a,aA f.y_<=90000)(h:vq (sm v (H_ w)) w J a)(K:∀f∈a,∀k∈f.y_,gC d k)(L:∀f∈a,aA f.y_+(f.y_.map (cV d)).sum<=90000):W_ Xi 51 #[J] w λe P=>R_ w P/\(((eW a d [] a ⟨[],0,0⟩).kind=0/\(eW a d [] a ⟨[],0,0⟩).l_=0/\e=fA)\/((eW a d [] a ⟨[],0,0⟩).kind≠0/\e=iE (eW a d [] a ⟨[],0,0⟩).kind (eW a d [] a ⟨[],0,0⟩).l_)):=by
 obtain⟨t,n,rfl⟩:∃x c,J=P_ x (aA a) c:=by grind[vq]
 have ⟨c,hc⟩:∃c,c=eW a d [] a ⟨[],0,0⟩:=(by simp);have r:R_ w (eF w #[FV (P_ t (aA a) n),bP] 191):=(by grind[eo,dv]);have Q:Xg (TU (H_ w) (H_ w) v a (FV (P_ t (aA a) n)) d w c (aA a) (Y (0:Nat)) (eF w #[FV (P_ t (aA a) n),bP] 191)):=⟨0,[],Z,rfl,r,⟨(by grind[aV,Ww,Value.ownBlock,kE]),(by grind[vq.h_,ef,Ct,sm])⟩,G_⟩;rw[<-hc];have X:=O h;have H:=O u;have V:=O K;have W:=O L;clear h r hc u K L;go_in;go_wp2;go_loopg [3,9] (aA a) (λgk _ i wr=>TU (H_ w) (H_ w) v a (FV (P_ t (aA a) n)) d w c gk i wr);case atStart=>exact Q
 case round=>
  obtain⟨k,s,hk,rfl,A,m,p⟩:=hrel;have S:=O A;by_cases y:k<aA a
  .obtain⟨j,rfl⟩:∃j,gk=j+1:=⟨gk-1,Z⟩;obtain⟨g,rfl⟩:∃g,t=Wy ⟨g,0,Wz⟩:=by grind[dw,vq]
   have F:a[k]∈a:=(by simp);have M:=O (Hi (H_ w) (H_ w) v a g n C H d k y s wr m (V _ F) (W _ F));have G:a.drop k=a[k]::a.drop (k+1):=(by simp);have b:c=eW a d (a.take (k+1)) (a.drop (k+1)) (gP a d ⟨s,0,0⟩ a[k] (dG (a.take k) a[k].x_).isNone):=by grind[eW]
   have I:=O b;clear A m p b G F;generalize gP a d ⟨s,0,0⟩ a[k] (dG (a.take k) a[k].x_).isNone=T at*;go_wp;apply M.mono;rintro e N ⟨l,⟨s1,rfl,rfl,q⟩|⟨o,rfl⟩⟩;rotate_left
   .have D:=O (S.trans l.sd);have B:=O o;have z:Xg (uf T c):=by grind[dw,p7]
    clear l o;go_wp;have ⟨e1,e2⟩:=z B;exact⟨aJ,D,ng⟩
   have E:Xg (TU (H_ w) (H_ w) v a (FV (P_ (Wy (aL g 0)) (aA a) n)) d w c j (Y ((k+1:Nat):Int)) N):=(by grind[Below.trans,dw,FB.sd,TU]);clear l q M;go_wp2;go_roundg j;case measure=>exact Z
   case rel=>exact E
  have b:c=⟨s,0,0⟩:=by grind[List.drop_eq_nil_of_le,eW]
  have I:=O b;clear A m p b;go_wp2;go_end0;grind[dw]
structure we(w:aN):Prop where
 er:∃te pe,w.cell? (aL 8 0)=Wy (.iface te pe)
 ym:11<=w.heap.size
def we.fr{a:aN}{sb:Nat}(h:we z)(b:Fr sb z a)(c:11<=sb):we a:=by have ⟨te,pe,h1⟩:=h.er;have:=h.ym;have:=b.size;exact⟨(by grind[iN,Fr.block]),Z⟩
def Uf(l:bQ)(d:∀c∈l,dM c=W1)(a:l≠[])(i:aA l<=100000)(w:aN)(h:we w):W_ Xi 244 #[Q_ (bs l),Y 10,Y 64] w λe f=>R_ w f/\((∃v,dS 0 l=Wy v/\e=bR (Xp #[Y (v:Nat),.nilIface]))\/(dS 0 l=Wz/\∃x T p,e=bR (Xp #[Y x,dI T p]))):=by have hsz:=iS l;rcases Ig l d a with ⟨v,g,b⟩|⟨g,b⟩;apply (strconv_ParseInt_10_at64_ok (bs l) Z v (by exact b) w).mono;grind[dv,Lib.bytesWorld_below];have ⟨te,pe,he⟩:=h.er;apply (strconv_ParseInt_10_at64_range (bs l) Z (by exact b) (dI te pe) w he (s_)).mono;grind
def B7(c:UInt8):dK WD c=dM c:=by unfold dK;simp
def UY(d:Nat)(a:ByteArray)(n L:Nat)(w:aN)(h:SC d a n L w)(G:we w)(y:11<=d)(hs:a.size<=100000)(hn:n<a.size)(E:dM a[n]=W1):W_ Xi 196 #[aY d] w (Dg d a n L w (iV ((eA a).drop n) WD)):=by
 obtain⟨j,s⟩:∃j,j=bT (dK WD) ((eA a).drop n):=(by simp);have ac:j<=a.size-n:=by have:=oD (dK WD) ((eA a).drop n);rw[s];simpa using this
 have I:1<=j:=by grind[gE,bT,dK]
 have ab:n<=a.size:=Z;have aa:=(SC.cells h).1;have hrb:H_ w≠d:=Z;have C:SC d a n L (eF w #[Y 0,Q_ ⟨#[]⟩,Y 0,Y 0] 176):=by grind[SC,ed]
 obtain⟨F,J,K,N,H,Q⟩:=C.cells;have HZD:Xg (xy (eF w #[Y 0,Q_ ⟨#[]⟩,Y 0,Y 0] 176).drew (H_ w)):=aV _ _ aJ _;have HSP:=O (λw=>BB (dK WD) 195 (s_) (λc w=>by rw[B7];exact zY c w) (a.extract n a.size) w rk);rw[rW,<-s]at HSP;have HTK:=O (tJ d a n L j (eF w #[Y 0,Q_ ⟨#[]⟩,Y 0,Y 0] 176).drew C Z Z);obtain⟨g,o⟩:∃g,g=((eA a).drop n).take j:=(by simp);rw[<-o]at HTK;have l:aA g=j:=by rw[o,ia];simp;exact Z
 have t:=O (λW (X:we W)=>Uf g ((by grind[lN,dK])) (G_) Z W X);have P:Xg (iV ((eA a).drop n) WD={c_:=48,x_:=g,size:=j,ok:=(dS 0 g).isSome}):=by show _=_;grind[iV]
 rw[P];have HF0:Xg (Fr d w (eF w #[Y 0,Q_ ⟨#[]⟩,Y 0,Y 0] 176)):=(Fr.refl _ _).alloc _;have HG:=O G;have V:(bs g).size=j:=by rw[iS];exact l
 clear h C s o P G l E;have ⟨M,hrr⟩:∃M:qV,M={c_:=48,x_:=g,size:=j,ok:=(dS 0 g).isSome}:=(by simp);rw[<-hrr];have z:=O hrr;clear hrr;go_in;go_wp2;go_cut [3] (λv wc=>v=Q_ (bs g)/\SC d a (n+j) L wc/\Fr d w wc/\xy wc (H_ w));case first=>exact UC
 case rest=>
  obtain⟨rfl,hs2,hf2,u⟩:=hcut;have HS2:=O hs2;have HF2:=O hf2;have HZ2:=O u;have q:=O (t wc (HG.fr hf2 y));clear J K N H Q F hs2 hf2 u HTK HSP HZD t;go_wp;apply q.mono;rintro e B ⟨f,⟨v,A,rfl⟩|⟨A,x,T,p,rfl⟩⟩;.have k:Xg (SC d a (n+j) L B):=(f.block d (aH HS2)).trans HS2;have b:Xg (xy B (H_ w)):=(f.block _ (aH HZ2)).trans HZ2;have r:=O (HF2.trans (Fr.below f));obtain⟨F,J,K,N,H,Q⟩:=k.cells;have z0:=aB b (i:=0) aJ;have z1:=aB b (i:=1) aJ;have z2:=aB b (i:=2) aJ;have z3:=aB b (i:=3) aJ;have y0:=aF (i:=0) b;have y1:=aF (i:=1) b;have y2:=aF (i:=2) b;have y3:=aF (i:=3) b;have ad:=aH b;have S:=O A;clear f A q;go_wp21;rw[z];refine bodyPost_ret (v:=Xn #[Y 2,Q_ (bs g),Y v,Y L]) (by simp[results,results196,go_sem,z0,z1,z2,z3]) rfl ?_;have m:=tZ r k lZ hrb (Y 2) (Q_ (bs g)) (Y v) (Y L);refine⟨m.1,ea ⟨by show (dS 0 g).isSome=W1;rw[S];rfl,?_,m.2⟩⟩;show _=Ending.returned (Xn #[Y 2,Q_ (bs g),Y (vp ⟨48,g,L⟩),Y L]);grind[vp,dw]
  have k:Xg (SC d a (n+j) L B):=(f.block d (aH HS2)).trans HS2;have r:=O (HF2.trans (Fr.below f));have D:=O (xP d a (n+j) L B k);have S:=O A;clear f A q;go_wp2_with fail;refine sa D λw4 hw=>?_;obtain rfl:=hw.symm;go_wp2_with fail;rw[z];exact⟨aJ,r,ng⟩
def GT{Z_:Prop}(Y_:Z_:=by
 go_in;go_wp2_with fail;go_quiet (fail);go_wp2_with fail;refine sa (HPL _) λw1 hw=>?_;obtain rfl:=hw.symm;go_wp2_with fail;refine sa (HPD _) λw1 hw=>?_;obtain rfl:=hw.symm;go_wp2_with fail;apply (HX _).mono;rintro e w2 ⟨hf2,⟨hok,rfl,hs2⟩|⟨hok,rfl⟩⟩;.have HF2:=O ((HF0.drewN _).trans hf2);have HS2:=O hs2;have HZ2:=O (hf2.xr (HZD _) hrb);have HOK:=O hok;have z0:=aB HZ2 (i:=0) aJ;have z1:=aB HZ2 (i:=1) aJ;have z2:=aB HZ2 (i:=2) aJ;have z3:=aB HZ2 (i:=3) aJ;have y0:=aF (i:=0) HZ2;have y1:=aF (i:=1) HZ2;have y2:=aF (i:=2) HZ2;have y3:=aF (i:=3) HZ2;have hzz:=aH HZ2;simp only[tK];go_wp2;refine bodyPost_ret (v:=Xn #[Y (tu rr.c_),Q_ (bs rr.x_),Y (vp ⟨rr.c_,rr.x_,L⟩),Y L]) mj rfl ?_;have hfin:=tZ HF2 HS2 lZ hrb (Y (tu rr.c_)) (Q_ (bs rr.x_)) (Y (vp ⟨rr.c_,rr.x_,L⟩)) (Y L);exact⟨hfin.1,(by grind[tK])⟩
 have HF2:=O ((HF0.drewN _).trans hf2);have HOK:=O hok;go_wp2_with fail;exact⟨aJ,HF2,G_⟩):Z_:=Y_
def Ri(c:Nat)(a:ByteArray)(n L:Nat)(w:aN)(h:SC c a n L w)(s:we w)(u:w_ w)(b:11<=c)(z:a.size<=100000)(m:n<a.size):W_ Xi 141 #[aY c] w (Dg c a n L w (cW ((eA a).drop n))):=by
 have y:=(SC.cells h).1;have hrb:H_ w≠c:=Z;have o:SC c a n L (eF w #[Y 0,Q_ ⟨#[]⟩,Y 0,Y 0] 176):=by grind[SC,ed]
 obtain⟨A,C,D,E,B,F⟩:=o.cells;have HZD:Xg (∀q,xy ((eF w #[Y 0,Q_ ⟨#[]⟩,Y 0,Y 0] 176).drewN q) (H_ w)):=λ_=>aV _ _ aJ _;have d:Fr c w (eF w #[Y 0,Q_ ⟨#[]⟩,Y 0,Y 0] 176):=(Fr.refl _ _).alloc _;have HF0:=O d;have x:Xg (∀q,we ((eF w #[Y 0,Q_ ⟨#[]⟩,Y 0,Y 0] 176).drewN q)):=λq=>s.fr (d.drewN q) b;have r:Xg (∀q,w_ ((eF w #[Y 0,Q_ ⟨#[]⟩,Y 0,Y 0] 176).drewN q)):=λq=>u.fr (d.drewN q) b;have l:=O o;have ⟨rr,hrr⟩:∃rr,rr=cW ((eA a).drop n):=(by simp);rw[<-hrr];have g:rr=if dM a[n]||eH a[n]then iV ((eA a).drop n) (eH a[n])else if a[n].toNat=34 then oN ((eA a).drop (n+1))else jS ((eA a).drop n):=by rw[hrr,gE a n m];rfl
 have f:=O g;have HPL:=O (FC a[n]);have HPD:=O (zY a[n]);clear h o s u hrr g d;cases j:eH a[n];cases k:dM a[n];by_cases p:a[n].toNat=34;have e:rr=oN ((eA a).drop (n+1)):=by grind[dw]
 have HX:=O (λq=>Oh c a n L ((eF w #[Y 0,Q_ ⟨#[]⟩,Y 0,Y 0] 176).drewN q) l Z m);rw[<-e]at HX;rw[j]at HPL;rw[k]at HPD;have t:((a[n].toNat:Int)==34)=W1:=G_;clear j k e f p;exact GT;have e:jS ((eA a).drop n)=rr:=by grind[dw]
 have HX:=O (λq=>Wj c a n L ((eF w #[Y 0,Q_ ⟨#[]⟩,Y 0,Y 0] 176).drewN q) l (r q) Z m rr e);rw[j]at HPL;rw[k]at HPD;exact GT;have e:rr=iV ((eA a).drop n) WD:=by rw[f,j,k];rfl
 have HX:=O (λq=>UY c a n L ((eF w #[Y 0,Q_ ⟨#[]⟩,Y 0,Y 0] 176).drewN q) l (x q) b z m k);rw[<-e]at HX;rw[j]at HPL;rw[k]at HPD;clear j k e f;exact GT;have e:rr=iV ((eA a).drop n) W1:=by grind[dw]
 have HX:=O (λq=>Vn c a n L ((eF w #[Y 0,Q_ ⟨#[]⟩,Y 0,Y 0] 176).drewN q) l Z Z);rw[<-e]at HX;rw[j]at HPL;clear j e f HPD;go_in;go_wp;go_quiet (fail);go_wp;refine sa (HPL _) λw1 hw=>?_;obtain rfl:=hw.symm;go_wp21;apply (HX _).mono;rintro e w2 ⟨hf2,⟨hok,rfl,hs2⟩|⟨hok,rfl⟩⟩;.have HF2:=O ((HF0.drewN _).trans hf2);have HS2:=O hs2;have HZ2:=O (hf2.xr (HZD _) hrb);have HOK:=O hok;have z0:=aB HZ2 (i:=0) aJ;have z1:=aB HZ2 (i:=1) aJ;have z2:=aB HZ2 (i:=2) aJ;have z3:=aB HZ2 (i:=3) aJ;have y0:=aF (i:=0) HZ2;have y1:=aF (i:=1) HZ2;have y2:=aF (i:=2) HZ2;have y3:=aF (i:=3) HZ2;simp[tK];go_wp2;refine bodyPost_ret (v:=Xn #[Y (tu rr.c_),Q_ (bs rr.x_),Y (vp ⟨rr.c_,rr.x_,L⟩),Y L]) mj rfl ?_;have hfin:=tZ HF2 HS2 lZ hrb (Y (tu rr.c_)) (Q_ (bs rr.x_)) (Y (vp ⟨rr.c_,rr.x_,L⟩)) (Y L);exact⟨hfin.1,(by grind[tK])⟩
 have HF2:=O ((HF0.drewN _).trans hf2);have HOK:=O hok;go_wp;exact⟨aJ,HF2,G_⟩
def Ia:(prog.info? 176).map (λi=>(i.zero,i.size,i.bytes))=Wy (Wy (Xn #[Y 0,Q_ (bs []),Y 0,Y 0]),4,40):=k_
def OW(w:aN)(a b c d:aX):∀j u,([a,b,c,d]:List Xa)[j]?=Wy u->(eF w #[a,b,c,d] 176).cell? ((⟨H_ w,0,Wz⟩:Addr).add j)=Wy u:=by intro j u e;match j,e with|0,e=>simp at e;subst e;simp[Addr.add]|1,e=>simp at e;subst e;simp[Addr.add]|2,e=>simp at e;subst e;simp[Addr.add]|3,e=>simp at e;subst e;simp[Addr.add]|j+4,e=>simp at e
def WR(l m n:Int)(b:ByteArray):∀u∈([Y l,Q_ b,Y m,Y n]:List Xa),u.oneCell'=W1:=by intro u a;simp at a;rcases a with rfl|rfl|rfl|rfl<;>rfl
def Ur{i:List Xa}(h:z.ownsRow y e o q n i):∃x c,q=P_ x n c:=by rcases h.2 with ⟨f,k⟩|⟨g,j,d,f,_⟩;grind;grind
def AG(h:∀c∈j,c≠10):j.count 10=0:=(by grind)
def E5(l:bQ)(h:(cW l).ok=W1):(l.take (cW l).size).count 10=0:=by
 cases l with|nil=>simp|cons c r=>
  rw[cW]at h⊢;split;rw[LS];refine AG λx a=>?_;have:=lN _ _ x a;intro e;subst e;revert this;cases eH c<;>decide;rename_i f;rw[dy f]at h;split;rename_i b;rw[ec b]at h;have d:(decide (r[bT iG r]?=Wy 34)&&decide (bT iG r<=100))=W1:=h;rw[Bool.and_eq_true,decide_eq_true_eq]at d;show ((c::r).take (bT iG r+1+1)).count 10=0;rw[List.take_succ_cons,List.take_add_one,d.1];refine AG λx a=>?_;rcases ew.1 a with rfl|a;intro e;rw[e]at b;grind;rcases fm.1 a with a|a;have:=lN _ _ x a;intro e;subst e;grind[iG];grind;unfold jS at h⊢;cases g:eM.find? (λo=>eG (c::r) o)with|none=>simp|some o=>
   have i:(c::r).take (aA o)=o:=by grind[eG,nW]
   have:∀o∈eM,o.count 10=0:=d_;grind
def Ie(x:Except Nat (List bH))(w:aN)(e:Ending)(w':aN):Prop:=R_ w w'/\match x with|.error n=>e=iE 3 n|.ok ts=>∃v,e=bR v/\w'.ownsRow (w.heap.size+1) 176 4 v (aA ts) (uy ts)
def Ea(src:ByteArray)(w:aN)(TS:Except Nat (List bH))(gk:Nat)(v:aX)(wr:aN):Prop:=∃(k f:Nat) (ts:List bH),k<=src.size/\src.size+1<=k+f/\src.size<=k+gk/\aA ts<=k/\SC w.heap.size src k (bD (src.data.toList.take k)) wr/\Fr w.heap.size w wr/\wr.ownsRow (w.heap.size+1) 176 4 v (aA ts) (uy ts)/\TS=jG ts (fF f (src.data.toList.take k) (src.data.toList.drop k))
def Fr.yu{a:aN}(h:Fr (H_ z) z a):R_ z a:=⟨h.os,h.tape,h.output,h.size,(by grind[Fr.block])⟩
def Hn(a:ByteArray)(w:aN)(hg:we w)(X:w_ w)(hs:a.size<=2000):W_ Xi 85 #[Xm a] w (Ie (gS a.data.toList) w):=by
 obtain⟨i0,hi,S,ad,ab⟩:=info_parts Ia;have u:=hg.ym;have h0:SC w.heap.size a 0 (bD (a.data.toList.take 0)) (i9 w (Xt #[Xm a,Y 0,Y 1] 254)):=aV _ _ aJ _;have g:=O (VN w.heap.size a 0 (i9 w (Xt #[Xm a,Y 0,Y 1] 254)) h0 Z (Z));simp only[List.drop_zero,ic]at g;obtain⟨K,A⟩:∃K,K=cK a.size a.data.toList:=(by simp);have ae:K<=a.size:=by have:=rC a.size a.data.toList;rw[A];simpa using this
 rw[<-A]at g;have ⟨z,p⟩:∃z,z=gS a.data.toList:=(by simp);have t:Xg (z=fF (a.size+1) (a.data.toList.take K) (a.data.toList.drop K)):=by show _=_;rw[p];unfold gS;rw[show aA a.data.toList=a.size by simp,<-A]
 rw[<-p];have aq:Xg (Fr w.heap.size w (i9 w (Xt #[Xm a,Y 0,Y 1] 254))):=(Fr.refl _ _).alloc _;have HG:=O hg;have HM:=O X;clear h0 hg X A p;go_in;go_wp;apply g.out.mono;rintro e w1 ⟨rfl,ar,az⟩;have HI:Xg (Ea a w z a.size (bP) w1):=⟨K,a.size+1,[],ae,Z,Z,s_,ar,aq.out.trans az,Ww _ _ _ _,by rw[t.out,wQ]⟩;go_wp2;go_loopg [4] a.size (λgk v wr=>Ea a w z gk v wr);case atStart=>exact HI.out
 case round=>
  obtain⟨k,f,y,hk,hf,bc,bb,E,H,l,p⟩:=hrel;obtain⟨h0,c0,c1,c2,f1,f2⟩:=E.cells;have ba:=H.size;have aw:=O E;have q:=O H;have t:=O p;obtain⟨x,c,rfl⟩:=Ur l;have hge:=bX l;clear HI E H p;by_cases Q:k<a.size
  .obtain⟨f,rfl⟩:∃f',f=f'+1:=⟨f-1,Z⟩;obtain⟨j,rfl⟩:∃j,gk=j+1:=⟨gk-1,Z⟩;have hlt':=io Z;have hl:aA (a.data.toList.drop k)=a.size-k:=s_;have N:=O (Ri w.heap.size a k (bD (a.data.toList.take k)) wr aw.out (HG.out.fr q.out u) (HM.out.fr q.out u) u Z Q);cases o:(cW (a.data.toList.drop k)).ok
   .have T:Xg (z=.error (bD (a.data.toList.take k))):=by rw[t.out,AT _ _ _ Z o];rfl
    have G:=O o;generalize bD (a.data.toList.take k)=L at*;go_wp;apply N.out.mono;rintro e w2 ⟨B,⟨d,_,_⟩|⟨d,rfl⟩⟩;rw[G.out]at d;cases d;have I:=O (q.out.trans B);go_wp;rw[T.out];exact⟨aJ,I.out.yu,aJ⟩
   have ag:=uA _ o;rw[hl]at ag;have ax:=E5 _ o;have ⟨m,X⟩:∃m,m=k+(cW (a.data.toList.drop k)).size+cK a.size (a.data.toList.drop (k+(cW (a.data.toList.drop k)).size)):=(by simp);have an:m<=a.size:=by grind[rC]
   have HT:=UW a k f Q o m X;have T:Xg (z=jG (y++[{c_:=(cW (a.data.toList.drop k)).c_,x_:=(cW (a.data.toList.drop k)).x_,l_:=bD (a.data.toList.take k)}]) (fF f (a.data.toList.take m) (a.data.toList.drop m))):=by show _=_;rw[t.out,HT,vG]
   have ah:bD (a.data.toList.take (k+(cW (a.data.toList.drop k)).size))=bD (a.data.toList.take k):=by rw[List.take_add,tN,ax];rfl
   have g:=O (λW (hW:SC w.heap.size a (k+(cW (a.data.toList.drop k)).size) (bD (a.data.toList.take (k+(cW (a.data.toList.drop k)).size))) W)=>VN w.heap.size a _ W hW Z Z);rw[ah]at g;simp[<-X]at g;have G:=O o;generalize cW (a.data.toList.drop k)=r at*;obtain⟨pa,J⟩:∃pa,pa=tu r.c_:=(by simp);obtain⟨pb,C⟩:∃pb,pb=vp ⟨r.c_,r.x_,bD (a.data.toList.take k)⟩:=(by simp);have ao:Xg (tK ⟨r.c_,r.x_,bD (a.data.toList.take k)⟩=Xn #[Y pa,Xm (bs r.x_),Y pb,Y (bD (a.data.toList.take k))]):=by rw[J,C];rfl
   have al:Xg (Ai ⟨r.c_,r.x_,bD (a.data.toList.take k)⟩=[Y pa,Xm (bs r.x_),Y pb,Y (bD (a.data.toList.take k))]):=by rw[J,C];rfl
   clear J C;generalize bD (a.data.toList.take k)=L at*;have am:=O hge;have ac:=O l;go_wp;apply N.out.mono;rintro e w2 ⟨B,⟨d,rfl,P⟩|⟨d,rfl⟩⟩;rotate_left;rw[G.out]at d;cases d;rw[ao.out];have D:=bE (w1:=w2) ac.out λi hi=>B.block i (eI ac.out i hi) (by have:=am.out i hi;exact Z);have I:=O (q.out.trans B);have aj:=O P;have aa:=aH P;go_wp2_with (at_builtin;refine wpList_append_lies _ r_ _ _ 100 r_ (w.heap.size+1) 176 i0 _ 4 40 underlying100 hi S ad ab rfl d_ _ _ _ r_ (D.alloc _) (aL w2.heap.size 0) 1 1 [Y pa,Xm (bs r.x_),Y pb,Y L] r_ r_ (OW _ _ _ _ _) (WR _ _ _ _) d_ lg Z la (w2.heap.size+1) s_ ?_);intro g7 n M s b af ap;have F:=O ((I.out.alloc _).grown b (G_));have ay:Xg (SC w.heap.size a (k+r.size) L M):=by show _=_;rw[b.block _ la (G_),ed _ _ _ aa];exact aj.out
   have V:Xg (M.ownsRow (w.heap.size+1) 176 4 (.slice (Wy (aL g7 0)) (aA y+1) n) (aA (y++[(⟨r.c_,r.x_,L⟩:bH)])) (uy (y++[⟨r.c_,r.x_,L⟩]))):=by rw[JJ,al.out,et];grind
   have av:=O (g.out M ay.out);go_wp;apply av.out.mono;rintro e w8 ⟨rfl,ak,ai⟩;have au:Xg (Ea a w z j (.slice (Wy (aL g7 0)) (aA y+1) n) w8):=by refine⟨m,f,y++[⟨r.c_,r.x_,L⟩],an,Z,Z,G_,ak,F.out.trans ai,?_,T.out⟩;grind[bE,dw,Fr.block,eI,bX]
   go_wp2;go_roundg j;case measure=>exact Z
   case rel=>exact au.out
  obtain⟨f,rfl⟩:∃f',f=f'+1:=⟨f-1,Z⟩;have T:Xg (z=.ok (y++[{c_:=101,x_:=[],l_:=bD (a.data.toList.take k)}])):=by rw[t.out,qW _ _ _ la];rfl
  have hlt':=gh Z;generalize bD (a.data.toList.take k)=L at*;go_wp2_with (at_builtin;refine wpList_append_lies _ r_ _ _ 100 r_ (w.heap.size+1) 176 i0 _ 4 40 underlying100 hi S ad ab rfl d_ _ _ _ r_ (l.alloc _) (aL wr.heap.size 0) 1 1 [Y 4,Xm ⟨#[]⟩,Y 0,Y L] r_ r_ (OW _ _ _ _ _) (WR _ _ _ _) d_ lg Z la (wr.heap.size+1) s_ ?_);intro g7 n M s b af ap;have F:=O ((q.out.alloc _).grown b (G_));have V:Xg (M.ownsRow (w.heap.size+1) 176 4 (.slice (Wy (aL g7 0)) (aA y+1) n) (aA (y++[(⟨101,[],L⟩:bH)])) (uy (y++[⟨101,[],L⟩]))):=by rw[JJ,et];exact s
  go_wp2;go_ret;rw[T.out];exact⟨F.out.yu,_,aJ,V.out⟩
def P3(a:ByteArray)(w:aN)(_hs:a.size<=maxLen):W_ Xi 83 #[Xm a] w λe b=>b=w/\((a.size<=2000/\e=fA)\/(2000<a.size/\e=iE 1 0)):=by
 by_cases h:a.size<=2000;.go_in;go_wp2;go_end0;grind
 go_in;go_wp2_with (refine sa (lD 1 0 _) λd c=>?_);exact⟨aJ,aJ,G_⟩
def RY{x:UInt8}(h:x∈j.take y):∃i,i<y/\j[i]?=Wy x:=by have ⟨i,hi,e⟩:=kg.1 h;have a:=hi;rw[ia]at a;refine⟨i,Z,?_⟩;grind
def ZW{l:bQ}(h:2<=bY l):(l.take (bY l)).count 10=0:=by
 refine AG λx c=>?_;obtain⟨i,a,e⟩:=RY c;suffices 128<=x.toNat by intro e;rw[e]at this;grind
 revert h a;unfold bY;cases d:l[0]? with|none=>simp|some b=>grind[iW]
theorem Ld(n a b c d:Nat)(e:a<256):(Lib.decodeN n a b c d).1<=1114111:=by grind[Lib.decodeN]
def Vx(a:ByteArray)(k:Nat)(d:k<a.size):∃r z,Lib.decodeGo (a.extract k a.size)=(r,z)/\r<=1114111/\((bY (a.data.toList.drop k)=0/\r=65533/\z=1)\/(bY (a.data.toList.drop k)≠0/\z=bY (a.data.toList.drop k)/\¬(r=65533/\z=1)/\(r=10↔a[k].toNat=10))):=by
 have b:(a.extract k a.size).size=a.size-k:=s_;have c:((a.extract k a.size).get! 0).toNat=a[k].toNat:=by grind[tQ,ByteArray.getElem_extract]
 grind[Ps,rW,Lib.decodeGo,Lib.decode_at,Hc,UInt8.toNat_lt,Ld]
def IS{b:aN}(h:Lib.Utf8Tabs 1 2 z)(a:R_ z b)(f:11<=z.heap.size):Lib.Utf8Tabs 1 2 b:=⟨λc e=>(a.cell (p:=(aL 1 c)) G_).trans (h.1 c e),λi d=>⟨(a.cell (p:=(aL 2 (2*i))) G_).trans (h.2 i d).1,(a.cell (p:=(aL 2 (2*i+1))) G_).trans (h.2 i d).2⟩⟩
def l7(x:Option Nat)(l:bQ)(w:aN)(e:Ending)(w':aN):Prop:=R_ w w'/\match x with|none=>e=fA|some k=>e=iE 2 (bD (l.take k))
def Rh(a:ByteArray)(w:aN)(F:Lib.Utf8Tabs 1 2 w)(T:11<=w.heap.size)(hs:a.size<=2000):W_ Xi 84 #[Xm a] w (l7 (dU a.size a.data.toList 0) a.data.toList w):=by
 have K:=O F;have ⟨X,hX⟩:∃X,X=dU a.size a.data.toList 0:=(by simp);rw[<-hX];have M:Xg (X=dU a.size (a.data.toList.drop 0) 0):=hX;clear F hX;go_in;go_wp2;go_loopg [2,3,4,5] a.size (λgk lv iv _ _ wr=>∃k f:Nat,k<=a.size/\a.size<=k+f/\a.size<=k+gk/\iv=Y k/\lv=Y (bD (a.data.toList.take k))/\R_ w wr/\Xg (X=dU f (a.data.toList.drop k) k));case atStart=>grind[dv,bD]
 case round=>
  obtain⟨k,f,hk,hf,Q,rfl,rfl,E,H⟩:=hrel;have hL:bD (a.data.toList.take k)<=k+1:=by grind[List.length_take_le,bD]
  have m:=O E;by_cases g:k<a.size
  .obtain⟨f,rfl⟩:∃W,f=W+1:=⟨f-1,Z⟩;obtain⟨j,rfl⟩:∃j,gk=j+1:=⟨gk-1,Z⟩;have o:0<aA (a.data.toList.drop k):=by simp;exact Z
   have ⟨r,z,hD,hr,hc⟩:=Vx a k g;have t:=O (utf8_DecodeRuneInString (a.extract k a.size) wr (IS K E T));rw[hD]at t;rcases hc with ⟨n,rfl,rfl⟩|⟨n,i,N,b⟩
   .have q:Xg (X=Wy k):=by grind[dU]
    generalize u:bD (a.data.toList.take k)=L at*;have J:=O u;go_wp21;refine sa t λD c=>?_;have d:=O (m.trans (c.mono m.size));go_wp2_with (go_at_call 89;refine sa (lD 2 L _) λw3 V=>?_;obtain rfl:=V.symm);rw[q];exact⟨aJ,d,G_⟩
   have q:Xg (X=dU f (a.data.toList.drop (k+z)) (k+z)):=by show _=_;rw[H,BA _ _ _ o n,jp,<-i]
   have S:z<=a.size-k:=by rw[i];have:=xZ (a.data.toList.drop k);simpa using this
   have B:bD (a.data.toList.take (k+z))=bD (a.data.toList.take k)+if r=10 then 1 else 0:=by
    by_cases h2:2<=z;have C:=ZW (l:=a.data.toList.drop k) Z;rw[<-i]at C;rw[List.take_add,tN,C];rw[dy];intro e;have P:=b.1 e;have h5:a[k]∈(a.data.toList.drop k).take z:=by rw[gE a k g];obtain⟨y,rfl⟩:∃y,z=y+1:=⟨z-1,Z⟩;simp
    exact List.count_eq_zero.1 C (by have:a[k]=10:=jr.1 P;grind);obtain rfl:z=1:=Z;rw[PG a k g];congr 1;by_cases s:r=10;rw[ec s,ec (jr.1 (b.1 s))];rw[dy s,dy λe=>s (b.2 (by rw[e];rfl))]
   have v:=O B;generalize bD (a.data.toList.take k)=L at*;have p:((r:Int)==65533)=WD\/((r:Int)==65533)=W1/\((z:Int)==1)=WD:=by grind
   have I:aA (a.data.toList.drop k)=a.size-k:=s_;by_cases A:r=10
   .have e1:((r:Int)==10)=W1:=G_;have G:((r:Int)==65533)=WD:=G_;have x:Xg (bD (a.data.toList.take (k+z))=L+1):=G_;go_wp;refine sa t λD c=>?_;have d:=O (m.trans (c.mono m.size));go_wp2;go_roundg j;case measure=>exact Z
    case rel=>exact⟨k+z,f,Z,Z,Z,ll,G_,d,q⟩
   have e1:((r:Int)==10)=WD:=G_;have x:Xg (bD (a.data.toList.take (k+z))=L):=by rw[v,dy A];rfl
   rcases p with G|⟨G,e3⟩;all_goals
    go_wp;refine sa t λD c=>?_;have d:=O (m.trans (c.mono m.size));go_wp2;go_roundg j;case measure=>exact Z
    grind[dw]
  have q:Xg (X=Wz):=by show _=_;rw[H,ER _ _ _ la]
  have hlt':=gh Z;generalize bD (a.data.toList.take k)=L at*;go_wp2;go_end0;grind[dw,l7]
structure qF(w:aN):Prop where
 n:we w
 p:w_ w
 u:Lib.Utf8Tabs 1 2 w
def qF.below{c:aN}(h:qF z)(a:R_ z c):qF c:=⟨h.n.fr (sb:=z.heap.size) ⟨a.os,a.tape,a.output,a.size,λk b _=>a.block k b⟩ h.n.ym,h.p.fr (sb:=z.heap.size) ⟨a.os,a.tape,a.output,a.size,λk b _=>a.block k b⟩ h.n.ym,IS h.u a h.n.ym⟩
def rP.uz{k:aC}(h:Hs.rP y g)(a:k∈g.y_):Hs.rP y k:=λd=>by have b:=h (d+1);grind[cV,zP,uX]
def rP.y_{m:Nat}{f:aC}(h:Hs.rP m f)(d:Nat):aA f.y_<=m/\(f.y_.map (cV d)).sum<=m:=by have b:=(h (d+1)).1;have a:=(h 2).1;grind[cV,pP]
def yH(l:bQ):Except (Nat×Nat) (List bH):=if 2000<aA l then .error (1,0) else match dU (aA l) l 0 with|some k=>.error (2,bD (l.take k))|none=>match gS l with|.error n=>.error (3,n)|.ok ts=>.ok ts
theorem JR(l:bQ):eB l=match yH l with|.error f=>.error f|.ok a=>match lC a with|.error n=>.error (4,n)|.ok (b,_)=>.ok b:=by grind[eB,yH]
def Y6{a:List bH}(h:yH j=.ok a):gS j=.ok a/\aA j<=2000:=by grind[yH]
def Jf{f:Nat×Nat}(h:yH j=.error f):f.1≠0:=by grind[yH]
def K5(l:bQ)(w:aN)(e:Ending)(w':aN):Prop:=R_ w w'/\match yH l with|.error f=>e=iE f.1 f.2|.ok ts=>∃v,e=bR (Xn #[v,Y 0])/\w'.ownsRow w.heap.size 176 4 v (aA ts) (uy ts)
def OQ(l:bQ)(w:aN)(e:Ending)(w':aN):Prop:=R_ w w'/\((dQ l=(0,0)/\∃v ks,e=bR v/\eB l=.ok ks/\vq (sm w.heap.size w'.heap.size) w' v ks)\/((dQ l).1≠0/\e=iE (dQ l).1 (dQ l).2))
def M7(d:Nat)(h:wV r=WD)(b:∀f∈r,1<=aA f.y_):lE d r=(5,0):=by grind[lE,wV,pO]
def Jy(d:Nat)(h:wV r=W1):lE d r=((eW r d [] r ⟨[],0,0⟩).kind,(eW r d [] r ⟨[],0,0⟩).l_):=by grind[lE,wV,pO]
theorem vq.grow{G:bL}{d:aN}(h:vq s z q r)(j:∀b,s b->d.heap[b]?=z.heap[b]?)(e:∀b,s b->G b):vq G d q r:=by rcases h with h|⟨g,a,c,o,l,i,p,k,m,n⟩;exact ea h;exact dz ⟨g,a,c,o,l,e g i,G_,k,m,n.mono λ_ _ h=>h.h_ j e⟩
def Rz{c:List bH}(h:z.ownsRow y 176 4 q (aA c) (uy c))(i:0<aA c):∃g d a,q=P_ (Wy (aL g 0)) (aA c) d/\y<=g/\aA c<=d/\z.heap[g]?=Wy (bO a 176)/\a.toList.take (aA c*4)=uy c:=by rcases h.2 with ⟨f,e⟩|⟨g,d,a,f,e,l,j,n,k,m⟩;exact Z;grind
def RO(b:ByteArray)(w:aN)(S:qF w)(hs:b.size<=maxLen):W_ Xi 48 #[Q_ b] w (K5 b.data.toList w):=by
 have C:aA b.data.toList=b.size:=s_;have ⟨l,hl⟩:∃l,l=b.data.toList:=(by simp);rw[<-hl]at C⊢;have ⟨t,hw0⟩:∃t,t=i9 w (bO #[bP,Y 0] 102):=(by simp);have s:R_ w t:=by grind[eo,dv]
 have j:t.heap[w.heap.size]?=Wy (bO #[bP,Y 0] 102):=by grind[aV]
 have W:t.heap.size=w.heap.size+1:=by rw[hw0];simp
 have K:=O (P3 b t hs);have X:=O hl;have H:=O (S.below s);have d:=O s;have ab:=O j;have J:=O hw0;clear hl S s j hw0;go_in;go_wp;rw[<-J];apply K.mono;rintro e P ⟨V,⟨r,rfl⟩|⟨r,rfl⟩⟩;rotate_left
 .obtain rfl:=V.symm;have u:Xg (yH l=.error (1,0)):=by show _=_;grind[yH]
  go_wp21;exact⟨aJ,d,by rw[u];rfl⟩
 obtain rfl:=V.symm;have HE:=O (Rh b t H.u H.n.ym r);rw[<-X,<-C]at HE;have T:¬2000<aA l:=Z;go_wp21;refine HE.mono ?_;rintro e P ⟨p,o⟩;cases F:dU (aA l) l 0 with
 |some k=>
  rw[F]at o;obtain rfl:e=iE 2 (bD (l.take k)):=o;have u:Xg (yH l=.error (2,bD (l.take k))):=by show _=_;grind[yH]
  have f:=O (d.trans (p.mono d.size));go_wp21;exact⟨aJ,f,by rw[u];rfl⟩|none=>
  rw[F]at o;obtain rfl:e=fA:=o;have B:=O (Hn b P (H.below p).n (H.below p).p r);rw[<-X]at B;have f:=O p;have N:yH l=match gS l with|.error n=>.error (3,n)|.ok G=>.ok G:=by grind[yH]
  have aa:=O N;go_wp21;refine B.mono ?_;rintro e w2 ⟨D,m⟩;cases y:gS l with|error n=>rw[y]at m;obtain rfl:e=iE 3 n:=m;have u:Xg (yH l=.error (3,n)):=G_;have E:=O (d.trans ((f.trans (D.mono f.size)).mono d.size));go_wp;exact⟨aJ,E,G_⟩|ok G=>
   rw[y]at m;obtain⟨v,rfl,q⟩:=m;obtain⟨x,c,rfl⟩:∃x c,v=P_ x (aA G) c:=by rcases q.2 with ⟨I,r2⟩|⟨g,z,A,I,_⟩;grind;grind
   have u:Xg (yH l=.ok G):=G_;have Q:=f.size;have a:w2.heap[w.heap.size]?=Wy (bO #[bP,Y 0] 102):=by grind[ef,dw]
   have m0:=aB a (i:=0) aJ;have m1:=aB a (i:=1) aJ;have fz:=aF a (i:=0);have ac:=aF a (i:=1);have E:=O (d.trans ((f.trans (D.mono f.size)).mono d.size));have L:=O q;go_wp2;apply bodyPost_ret (v:=Xn #[P_ x (aA G) c,Y 0]) (by simp[results,results48,go_sem,m0,m1]) rfl;refine⟨(by grind[Below.setCell,dw]),?_⟩;rw[u];refine⟨_,aJ,?_⟩;have M:=L.out;rcases M.2 with hn|⟨g,z,A,I,r2,r3,r4⟩;exact⟨M.1,ea hn⟩;refine⟨M.1,dz ⟨g,z,A,I,Z,?_,r4⟩⟩;grind[ej]
def Tp(o:ByteArray)(w:aN)(hT:qF w)(hs:o.size<=maxLen):W_ Xi 16 #[Q_ o] w (OQ o.data.toList w):=by
 have K:=O (RO o w hT hs);have ⟨l,hl⟩:∃l,l=o.data.toList:=(by simp);rw[<-hl]at K⊢;clear hl hT;go_in;go_wp;apply K.mono;rintro e I ⟨M,A⟩;cases j:yH l with
 |error f=>
  rw[j]at A;obtain rfl:e=iE f.1 f.2:=A;have X:Xg (dQ l=f):=by show _=_;grind[dQ,JR]
  have HK:=O (Jf j);have u:=O M;go_wp;exact⟨aJ,u,ng⟩|ok D=>
  rw[j]at A;obtain⟨v,rfl,T⟩:=A;have V:=(Y6 j).1;have ar:=(Y6 j).2;have i:=sY V;have ah:eB l=match lC D with|.error n=>.error (4,n)|.ok (a,_)=>.ok a:=by rw[JR,j]
  have au:=O ah;obtain⟨g,r,ab,rfl,hg,J,C,W⟩:=Rz T i.1.some_;have ad:=aH C;have an:uh ⟨I.heap.size,g,r,D⟩ (eF I #[P_ (Wy (aL g 0)) (aA D) r,Y 0] 102) 0:=⟨aV _ _ rfl _,⟨ab,kX _ _ ad _ C,W⟩,G_,i.1.some_,G_,J,i.1,UX V⟩;have HP:=O (WA ⟨I.heap.size,g,r,D⟩ (eF I #[P_ (Wy (aL g 0)) (aA D) r,Y 0] 102) an (bJ.prog i.1.ok i.1.some_));have u:=O M;go_wp21;apply HP.mono;rintro e w3 ⟨t,y⟩;have ai:R_ I w3:=⟨t.os.trans aJ,t.tape.trans aJ,t.output.trans aJ,em s_ t.size,(by grind[Fr.block,ed])⟩;have p:=O (u.trans (ai.mono u.size));cases Q:lC D with
  |error n=>
   rw[Q]at y;obtain rfl:e=iE 4 n:=y;have X:Xg (dQ l=(4,n)):=by grind[dQ]
   go_wp;exact⟨aJ,p,by grind[dQ]⟩|ok kq=>
   have ⟨a,q⟩:=kq;rw[Q]at y;obtain⟨_,v3,rfl,al⟩:=y;have N:eB l=.ok a:=G_;have d:=mX N;have X:Xg (dQ l=lE 2001 a):=by grind[dQ]
   have av:=se.len d;have S:∀f∈a,aA f.y_<=90000:=λf L=>by have:=(rP.y_ (se.mem d L) 0).1;exact Z
   have aj:∀f∈a,∀k∈f.y_,gC 2001 k:=λf L k hk=>qB 2001 k (rP.uz (se.mem d L) hk);have ae:∀f∈a,aA f.y_+(f.y_.map (cV 2001)).sum<=90000:=λf L=>by have:=rP.y_ (se.mem d L) 2001;exact Z
   have hfs:=al;obtain⟨fx,fc,rfl⟩:∃x c,v3=P_ x (aA a) c:=by grind[vq.cells,p9]
   have aa:=O hfs.y_;have HM:=O (U7 a _ _ w3 Z S hfs);have ap:=O hfs;have ag:=O S;have ao:=O aj;have ac:=O ae;have af:=O N;go_wp21;apply HM.mono;rintro e w4 ⟨B,⟨E,rfl⟩|⟨E,rfl⟩⟩;rotate_left
   .have m:=O (p.trans (B.mono p.size));have H:Xg (dQ l=(5,0)):=by show _=_;rw[X,M7 2001 E aa]
    go_wp;exact⟨aJ,m,by rw[H];simp⟩
   have m:=O (p.trans (B.mono p.size));have H:Xg (dQ l=((eW a 2001 [] a ⟨[],0,0⟩).kind,(eW a 2001 [] a ⟨[],0,0⟩).l_)):=by show _=_;rw[X,Jy 2001 E]
   have HN:=O (ZR (eF I #[P_ (Wy (aL g 0)) (aA D) r,Y 0] 102).heap.size a (P_ fx (aA a) fc) w4 2001 Z ag ((by grind[vq.grow,ef,Nat.lt_of_lt_of_le,Below.size,sm,p9])) ao ac);have ak:=O (ap.grow (G:=sm w.heap.size w4.heap.size) (λb s=>B.block b s.2) λb s=>⟨by have h1:=s.1;simp at h1;exact Z,eh s.2 B.size⟩);generalize (eW a 2001 [] a ⟨[],0,0⟩).kind=kd at*;generalize (eW a 2001 [] a ⟨[],0,0⟩).l_=ld at*;go_wp21;apply HN.mono;rintro e w5 ⟨z,⟨P,ax,rfl⟩|⟨P,rfl⟩⟩;.have F:=O (m.trans (z.mono m.size));have aq:Xg (dQ l=(0,0)):=G_;have am:=O (ak.grow (G:=sm w.heap.size w5.heap.size) (λb s=>z.block b s.2) λb s=>⟨s.1,eh s.2 z.size⟩);go_wp2;go_ret;exact⟨F,ea ⟨aq,_,a,aJ,af,am⟩⟩
   have F:=O (m.trans (z.mono m.size));have aw:=O P;go_wp;exact⟨aJ,F,by rw[H];grind⟩
def wX{o:Obj}(h:z.heap[y]?=Wy o):y<H_ z:=by grind
def qM{i:Nat}{c:Array Xa}(h:z.heap[y]?=Wy (bO c e))(a:c[i]?=Wy q):z.cell? (aL y i)=Wy q:=by simp[World.cell?,h,a]
def uI{i:Nat}{c:Array Xa}(h:z.heap[y]?=Wy (bO c e)):z.frozen? (aL y i)=WD:=by simp[World.frozen?,h]
def Ij(p q k n:Nat)(w:World)(a:w.heap[p]?=Wy (Xt #[Xs .i64 0] 33 (0,0)))(b:w.heap[q]?=Wy (Xt #[Xs .i64 0] 3 (0,0)))(d:p<q):Below p w (i9 (c9 (c9 w ⟨p,0,Wz⟩ (Xs .i64 k)) ⟨q,0,Wz⟩ (Xs .i64 n)) (Xt #[Xs .i64 k,Xs .i64 n] 99)).drew/\(i9 (c9 (c9 w ⟨p,0,Wz⟩ (Xs .i64 k)) ⟨q,0,Wz⟩ (Xs .i64 n)) (Xt #[Xs .i64 k,Xs .i64 n] 99)).drew.cell? ⟨p,0,Wz⟩=Wy (Xs .i64 k)/\(i9 (c9 (c9 w ⟨p,0,Wz⟩ (Xs .i64 k)) ⟨q,0,Wz⟩ (Xs .i64 n)) (Xt #[Xs .i64 k,Xs .i64 n] 99)).drew.cell? ⟨q,0,Wz⟩=Wy (Xs .i64 n):=by
 have f:w.cell? ⟨p,0,Wz⟩=Wy (Xs .i64 0):=qM a rfl;have g:w.cell? ⟨q,0,Wz⟩=Wy (Xs .i64 0):=qM b rfl;have c:=wX a;have e:=wX b;refine⟨((((dv p w).setCell (s_) _).setCell (G_) _).alloc la _).drew,?_,?_⟩;.simp[go_sem,f,c]
 simp[go_sem,g,e]
def Ro(p q k n:Nat)(w:World)(a:w.heap[p]?=Wy (Xt #[Xs .i64 0] 33 (0,0)))(b:w.heap[q]?=Wy (Xt #[Xs .i64 0] 3 (0,0)))(d:p<q):Below p w (i9 (c9 (c9 w ⟨q,0,Wz⟩ (Xs .i64 n)) ⟨p,0,Wz⟩ (Xs .i64 k)) (Xt #[Xs .i64 k,Xs .i64 n] 99)).drew/\(i9 (c9 (c9 w ⟨q,0,Wz⟩ (Xs .i64 n)) ⟨p,0,Wz⟩ (Xs .i64 k)) (Xt #[Xs .i64 k,Xs .i64 n] 99)).drew.cell? ⟨p,0,Wz⟩=Wy (Xs .i64 k)/\(i9 (c9 (c9 w ⟨q,0,Wz⟩ (Xs .i64 n)) ⟨p,0,Wz⟩ (Xs .i64 k)) (Xt #[Xs .i64 k,Xs .i64 n] 99)).drew.cell? ⟨q,0,Wz⟩=Wy (Xs .i64 n):=by
 have f:w.cell? ⟨p,0,Wz⟩=Wy (Xs .i64 0):=qM a rfl;have g:w.cell? ⟨q,0,Wz⟩=Wy (Xs .i64 0):=qM b rfl;have c:=wX a;have e:=wX b;refine⟨((((dv p w).setCell (G_) _).setCell (s_) _).alloc la _).drew,?_,?_⟩;.simp[go_sem,f,c]
 simp[go_sem,g,e]
def Ky(v:aX)(w:aN):(typeAssert (dI 99 v) 20 99 W1).run Xi w=.ok (Xp #[v,.bool W1]) w:=k_
def ZZ(p q k n:Nat)(a:List PanicEntry)(w:aN)(c:w.heap[p]?=Wy (bO #[Y 0] 33))(b:w.heap[q]?=Wy (bO #[Y 0] 3))(d:p<q):CallsD Xi 47 #[aY p,aY q] (.panicking ({v:=dI 99 (Xn #[Y k,Y n]),recovered:=WD}::a)) w λe x f=>e=fA/\x=.panicking ({v:=dI 99 (Xn #[Y k,Y n]),recovered:=W1}::a)/\Below p w f/\dR f p 0 (Y k)/\dR f q 0 (Y n):=by have I:=qM c (i:=0) aJ;have F:=qM b (i:=0) aJ;have C:=uI (i:=0) c;have D:=uI (i:=0) b;have G:=wX c;have H:=wX b;have B:=Ky;refine callsD_of_wpS func47 aJ λs E z=>?_;apply wpS_seq;apply wpS_region;simp[wpOpsS,go_sem,recoverD,z,ntmps47,Exit.thenS];refine wpS_of_wp ?_;have u:¬p=q:=Z;have A:¬q=p:=Z;have y:¬p=H_ w:=Z;have t:¬q=H_ w:=Z;obtain⟨r,l,o⟩:=Ij p q k n w c b d;obtain⟨g,m,j⟩:=Ro p q k n w c b d;clear c b;go_wp2;go_region;all_goals go_wp2_with fail;first|exact⟨aJ,_,aJ,Xp #[],qx,rfl,rfl,r,l,o⟩|exact⟨aJ,_,aJ,Xp #[],qx,rfl,rfl,g,m,j⟩
def V8(p q:Addr)(w:aN):CallsD Xi 47 #[.pointer (Wy p),.pointer (Wy q)] .returning w λe d c=>e=fA/\d=.returning/\c=w:=by refine callsD_of_wpS func47 aJ λa f b=>?_;apply wpS_seq;apply wpS_region;simp[wpOpsS,go_sem,recoverD,b,ntmps47,Exit.thenS];apply wpS_of_wp;go_wp;exact⟨aJ,a.mode,aJ,Xp #[],qx,rfl,b,rfl⟩
theorem tR(w:aN)(o a:Obj):((w.alloc o).alloc a).heap[w.heap.size]?=Wy o:=by rw[ed _ _ _ s_];show (w.heap.push o)[w.heap.size]?=_;simp
theorem pL(w:aN)(o a:Obj):((w.alloc o).alloc a).heap[w.heap.size+1]?=Wy a:=by grind[World.alloc]
def Gc(b:Fn)(first a:Array Xa)(w:aN):(Instr.makeFunc b first a).run Xi w=.ok (.func b first a) w:=rfl
