import Derived.Test.YthnhjhlinlhflaaGreatDoorP10
import Derived.Test.YthnhjhlinlhflaaGreatDoorP07
import Derived.Test.YthnhjhlinlhflaaGreatDoorP20
set_option linter.all false
set_option maxRecDepth 100000
set_option maxHeartbeats 0
open List renaming length->aA
open Go.World renaming setCell->c9,alloc->h_,ownsRow_nil->Wh
open Option renaming some->Wj,none->Wk
open Bool renaming false->Wl,true->Wm
open Go renaming Calls->Wn,Value->Wo
open Go.RowKit renaming Hid->Wu
open Go.Proofs.Tryz renaming prog->Ww
open Go.Value renaming string->WD,agg->W1,tuple->Xa,int->Xd
open Go.Obj renaming cells->Xe
namespace Go.Proofs.YthnhjhlinlhflaaGreatDoor
open Hs
open _root_.Go.Proofs.Tryz
open Instr(typeAssert)
open Go.RowKit
variable{b:Bool}{r:List aC}{n o p:Nat}{e:TypeId}{g:aC}{y:aL}{q:aU}{i:bF}{s:bI}{j:bS}
def PN.parts(h:PN s y q g):∃T c b,q=.iface T (W1 c)/\Shape T c g b/\∀p∈b,p.ok s y:=by have ⟨d,h⟩:=h;cases d with|zero=>exact h.elim|succ d=>have ⟨T,c,b,h1,h2,h3⟩:=h;exact⟨T,c,b,h1,h2,λp e=>(h3 p e).mono (λ_ _ h=>⟨d,h⟩) (s_)⟩
structure Loc(cb tp:Nat)(w0:aL)(b:Nat)(o:Obj)(W:aL):Prop where
 fb:FB cb tp w0 W
 n_:W.heap[b]?=Wj o
 row:lY cb W≠Wj b
 ne:b≠cb
def Loc.new{c:Nat}{a:cU}(h:CK c p n r q y a)(o:Obj):Loc c p y y.heap.size o (y.alloc o)/\CK c p n r q (y.alloc o) a:=by have b:=h.lt;have f:cB y (y.alloc o):=(by grind[eo,dw]);refine⟨⟨FB.q_ f b,aS _ _ i_ _,λe=>?_,Z⟩,h.grow f⟩;have ⟨sv,hb',ho,_⟩:=h.n_;rw[JM (f.block c b.1),sC hb']at e;have:=dT ho _ e;exact Z
theorem Loc.step{b:Nat}{o:Obj}{f g:aL}(h:Loc p n f b o y)(d:FB p n y g):Loc p n f b o g:=⟨h.fb.trans d,(d.n_ b (aH h.n_) h.ne h.row).trans h.n_,λe=>by rcases d.row _ e with e|e;exact h.row e;have:=aH h.n_;exact Z,h.ne⟩
def tI(cb tp lo:Nat)(fs:List aC)(fv:aU)(d:Nat):Prop:=∀(v:aU) (b:aC) (e_:cU) (w:aL),CK cb tp lo fs fv w e_->b.op=[98,108,111,99,107]->sy (si lo tp) w v b.y_->fN d b->aA e_+cT d b<=90000->Wn Ww 147 #[aW cb,v] w (gJ cb tp lo fs fv w (aR fs (mN fv) d b ⟨e_,0,0⟩))
theorem BZ(h:∀k∈r,fN p k):aA r<=(r.map (cT p)).sum:=by
 cases p with
 |zero=>cases r with|nil=>simp|cons x r=>exact(h x (s_)).elim
 |succ p=>exact qB p r
theorem C0{d:Nat}(g:qL p n o r q d):tI p n o r q (d+1):=by grind[cT,aR,cK,BZ,GA,tI,fN]
def Pu(d:Nat)(i:qL p n o r q d)(e_:cU)(w:aL)(h:CK p n o r q w e_)(j:aA e_<=90000):Wn Ww 147 #[aW p,bR] w (gJ p n o r q w ⟨e_,0,0⟩):=by
 have:=GA p n o r q d i (bR) [] e_ w h (ea s_) (s_) G_ s_;have e:({nU r (mN q) d [] ⟨e_,0,0⟩with e_:=(nU r (mN q) d [] ⟨e_,0,0⟩).e_.take (aA e_)}:bF)=⟨e_,0,0⟩:=by simp
 rw[e]at this;exact this
def pL{s t:cU}(h:tq i ⟨t,0,0⟩ p)(b:i.e_=s)(c:aA s+(p+o)<=n):aA t+o<=n:=by grind[tq]
def RG(s:bF)(l:Nat)(x:bS):bF:=if s.e_.contains x then s else s.found l 6
def Mp(s:bF)(l:Nat)(x:bS):tq s (RG s l x) 0:=(by grind[tq.of_eq,RG,sN])
def Fy(b c f:Nat)(d:List aC)(e:aU)(w:aL)(a:cU)(h:CK b c f d e w a)(g:aA a<=100000)(l:Nat)(x:bS):Wn Ww 232 #[aW b,W1 #[Y l,Q_ (bs x)]] w (gJ b c f d e w (RG ⟨a,0,0⟩ l x)):=Tz b c f d e w a h g l x
section
variable {cb tp lo d l:Nat} {fs:List aC} {fv v1 v2 v3:aU} {w W:aL} {e_:cU} {c c0:bF} {a1 a2 a3:aC}
def vf{b f:Nat}{o:Obj}{x:Array Wo}{s:cU}{Q:Ending->World->Prop}(m:Wn Ww f x W (gJ cb tp lo fs fv W c0))(H:Wu (Loc cb tp w b o W/\CK cb tp lo fs fv W s))(j:tz c0 c)(g:∀k l a,Wu (gJ cb tp lo fs fv w c (gE k l) a)->Q (gE k l) a) (n:∀s a,Wu (c0=⟨s,0,0⟩)->Wu (Loc cb tp w b o a/\CK cb tp lo fs fv a s)->Q (eV) a):Wn Ww f x W Q:=m.mono λe a h=>by obtain⟨i,⟨s,d,rfl,p⟩|⟨d,rfl⟩⟩:=h;grind[Loc.step,dz];exact g _ _ a (gJ.fault (H.1.fb.trans i) d j)
def Gp{b:Nat}{a c d:aU}{t:TypeId}(h:W.heap[b]?=Wj (bM #[a,c,d] t)):eJ W b 0 a/\eJ W b 1 c/\eJ W b 2 d/\b<H_ W:=(by grind[aB])
def LO{b:Nat}{a c e d:aU}{t:TypeId}(h:W.heap[b]?=Wj (bM #[a,c,e,d] t)):eJ W b 0 a/\eJ W b 1 c/\eJ W b 2 e/\eJ W b 3 d/\b<H_ W:=(by grind[aB])
def IJ{Z_:Prop}(Y_:Z_:=by have H:=O h;clear h;go_in;go_wp2;go_end0;exact gJ.done (FB.refl _) i_ H):Z_:=Y_
def PW{k:Nat}(h:CK cb tp lo fs fv w e_):Wn Ww 179 #[aW cb,dA 366 (W1 #[Y l,Y k])] w (gJ cb tp lo fs fv w ⟨e_,0,0⟩):=by exact IJ
def Nt{x:ByteArray}(h:CK cb tp lo fs fv w e_):Wn Ww 179 #[aW cb,dA 395 (W1 #[Y l,Q_ x])] w (gJ cb tp lo fs fv w ⟨e_,0,0⟩):=by exact IJ
def Td{x:Bool}(h:CK cb tp lo fs fv w e_):Wn Ww 179 #[aW cb,dA 397 (W1 #[Y l,.bool x])] w (gJ cb tp lo fs fv w ⟨e_,0,0⟩):=by exact IJ
def Ob(j:qL cb tp lo fs fv d)(h:CK cb tp lo fs fv w e_){a:List aC}(f:sy (si lo tp) w v1 a)(b:∀k∈a,fN d k)(i:aA e_+((a.map (cT d)).sum+0)<=90000)(q:Wu (c=nU fs (mN fv) d a ⟨e_,0,0⟩)):Wn Ww 179 #[aW cb,dA 347 (W1 #[Y l,v1])] w (gJ cb tp lo fs fv w c):=by
 obtain⟨m,n,rfl⟩:=f.slice;have e:=Loc.new h (bM #[Y l,P_ m (aA a) n] 347);clear h;go_in;go_wp;refine vf (c:=c) (j _ a e_ _ e.2 (f.below e.1.fb.rP) b Z (by have:=BZ b;exact Z)) e mt (λk l g H=>?_) λp g o e=>?_;.go_wp;exact⟨i_,H⟩
 go_wp2;go_end0;grind[Loc.fb,dz,gJ]
def Im{x:ByteArray}(j:mZ cb tp lo fs fv d)(h:CK cb tp lo fs fv w e_)(f:PN (si lo tp) w v1 a1)(b:fN d a1)(i:aA e_+(cT d a1+0)<=90000)(p:Wu (c=aR fs (mN fv) d a1 ⟨e_,0,0⟩)):Wn Ww 179 #[aW cb,dA 351 (W1 #[Y l,Q_ x,v1])] w (gJ cb tp lo fs fv w c):=by
 obtain⟨m,e,rfl⟩:=f.form;have a:=Loc.new h (bM #[Y l,Q_ x,dA m (W1 e)] 351);clear h;go_in;go_wp;refine vf (c:=c) (j _ a1 e_ _ a.2 (f.below a.1.fb.rP) b Z) a mt (λk l g H=>?_) λo g n a=>?_;.go_wp;exact⟨i_,H⟩
 go_wp2;go_end0;grind[Loc.fb,dz,gJ]
def Nz(j:mZ cb tp lo fs fv d)(h:CK cb tp lo fs fv w e_)(f:PN (si lo tp) w v1 a1)(b:fN d a1)(i:aA e_+(cT d a1+0)<=90000)(p:Wu (c=aR fs (mN fv) d a1 ⟨e_,0,0⟩)):Wn Ww 179 #[aW cb,dA 339 (W1 #[Y l,v1])] w (gJ cb tp lo fs fv w c):=by
 obtain⟨m,e,rfl⟩:=f.form;have a:=Loc.new h (bM #[Y l,dA m (W1 e)] 339);clear h;go_in;go_wp;refine vf (c:=c) (j _ a1 e_ _ a.2 (f.below a.1.fb.rP) b Z) a mt (λk l g H=>?_) λo g n a=>?_;.go_wp;exact⟨i_,H⟩
 go_wp2;go_end0;grind[Loc.fb,dz,gJ]
def Ka(j:mZ cb tp lo fs fv d)(h:CK cb tp lo fs fv w e_)(f:PN (si lo tp) w v1 a1)(b:fN d a1)(i:aA e_+(cT d a1+0)<=90000)(p:Wu (c=aR fs (mN fv) d a1 ⟨e_,0,0⟩)):Wn Ww 179 #[aW cb,dA 340 (W1 #[Y l,v1])] w (gJ cb tp lo fs fv w c):=by
 obtain⟨m,e,rfl⟩:=f.form;have a:=Loc.new h (bM #[Y l,dA m (W1 e)] 340);clear h;go_in;go_wp;refine vf (c:=c) (j _ a1 e_ _ a.2 (f.below a.1.fb.rP) b Z) a mt (λk l g H=>?_) λo g n a=>?_;.go_wp;exact⟨i_,H⟩
 go_wp2;go_end0;grind[Loc.fb,dz,gJ]
def Of(o:mZ cb tp lo fs fv d)(h:CK cb tp lo fs fv w e_)(n:PN (si lo tp) w v1 a1)(g:fN d a1)(m:PN (si lo tp) w v2 a2)(e:fN d a2)(b:aA e_+(cT d a1+(cT d a2+0))<=90000)(v:Wu (c=aR fs (mN fv) d a2 (aR fs (mN fv) d a1 ⟨e_,0,0⟩))):Wn Ww 179 #[aW cb,dA 349 (W1 #[Y l,v1,v2])] w (gJ cb tp lo fs fv w c):=by
 obtain⟨p,i,rfl⟩:=n.form;obtain⟨s,f,rfl⟩:=m.form;have a:=Loc.new h (bM #[Y l,dA p (W1 i),dA s (W1 f)] 349);clear h;go_in;go_wp;refine vf (c:=c) (o _ a1 e_ _ a.2 (n.below a.1.fb.rP) g Z) a ny (λk l j H=>?_) λq j r a=>?_;.go_wp;exact⟨i_,H⟩
 replace b:=pL (r.out▸gZ fs (mN fv) d a1 ⟨e_,0,0⟩) rfl b;have ⟨m1_0,m1_1,m1_2,hz1⟩:=Gp a.1.n_;go_wp21;refine vf (c:=c) (o _ a2 q _ a.2 (m.below a.1.fb.rP) e Z) a mt (λk l j H=>?_) λt x u a=>?_;.go_wp;exact⟨i_,H⟩
 go_wp2;go_end0;grind[Loc.fb,dz,gJ]
def Ji{x:ByteArray}(o:mZ cb tp lo fs fv d)(h:CK cb tp lo fs fv w e_)(n:PN (si lo tp) w v1 a1)(g:fN d a1)(m:PN (si lo tp) w v2 a2)(e:fN d a2)(b:aA e_+(cT d a1+(cT d a2+0))<=90000)(v:Wu (c=aR fs (mN fv) d a2 (aR fs (mN fv) d a1 ⟨e_,0,0⟩))):Wn Ww 179 #[aW cb,dA 353 (W1 #[Y l,Q_ x,v1,v2])] w (gJ cb tp lo fs fv w c):=by
 obtain⟨p,i,rfl⟩:=n.form;obtain⟨s,f,rfl⟩:=m.form;have a:=Loc.new h (bM #[Y l,Q_ x,dA p (W1 i),dA s (W1 f)] 353);clear h;go_in;go_wp;refine vf (c:=c) (o _ a1 e_ _ a.2 (n.below a.1.fb.rP) g Z) a ny (λk l j H=>?_) λq j r a=>?_;.go_wp;exact⟨i_,H⟩
 replace b:=pL (r.out▸gZ fs (mN fv) d a1 ⟨e_,0,0⟩) rfl b;have ⟨m1_0,m1_1,m1_2,m1_3,hz1⟩:=LO a.1.n_;go_wp21;refine vf (c:=c) (o _ a2 q _ a.2 (m.below a.1.fb.rP) e Z) a mt (λk l j H=>?_) λt y u a=>?_;.go_wp;exact⟨i_,H⟩
 go_wp2;go_end0;grind[Loc.fb,dz,gJ]
def Rb(q:mZ cb tp lo fs fv d)(g:tI cb tp lo fs fv d)(h:CK cb tp lo fs fv w e_)(o:PN (si lo tp) w v1 a1)(f:fN d a1)(j:a2.op=[98,108,111,99,107])(n:sy (si lo tp) w v2 a2.y_)(e:fN d a2)(b:aA e_+(cT d a1+(cT d a2+0))<=90000)(y:Wu (c=aR fs (mN fv) d a2 (aR fs (mN fv) d a1 ⟨e_,0,0⟩))):Wn Ww 179 #[aW cb,dA 337 (W1 #[Y l,v1,v2])] w (gJ cb tp lo fs fv w c):=by
 obtain⟨p,i,rfl⟩:=o.form;obtain⟨s,u,rfl⟩:=n.slice;have a:=Loc.new h (bM #[Y l,dA p (W1 i),P_ s (aA a2.y_) u] 337);clear h;go_in;go_wp;refine vf (c:=c) (q _ a1 e_ _ a.2 (o.below a.1.fb.rP) f Z) a ny (λk l m H=>?_) λr m t a=>?_;.go_wp;exact⟨i_,H⟩
 replace b:=pL (t.out▸gZ fs (mN fv) d a1 ⟨e_,0,0⟩) rfl b;have ⟨m1_0,m1_1,m1_2,hz1⟩:=Gp a.1.n_;go_wp21;refine vf (c:=c) (g _ a2 r _ a.2 j (n.below a.1.fb.rP) e Z) a mt (λk l m H=>?_) λv z x a=>?_;.go_wp;exact⟨i_,H⟩
 go_wp2;go_end0;grind[Loc.fb,dz,gJ]
def Hl(z:mZ cb tp lo fs fv d)(e:tI cb tp lo fs fv d)(h:CK cb tp lo fs fv w e_)(q:PN (si lo tp) w v1 a1)(m:fN d a1)(o:a2.op=[98,108,111,99,107])(p:sy (si lo tp) w v2 a2.y_)(f:fN d a2)(i:a3.op=[98,108,111,99,107])(s:sy (si lo tp) w v3 a3.y_)(j:fN d a3)(b:aA e_+(cT d a1+(cT d a2+(cT d a3+0)))<=90000)(E:Wu (c=aR fs (mN fv) d a3 (aR fs (mN fv) d a2 (aR fs (mN fv) d a1 ⟨e_,0,0⟩)))):Wn Ww 179 #[aW cb,dA 335 (W1 #[Y l,v1,v2,v3])] w (gJ cb tp lo fs fv w c):=by
 obtain⟨t,n,rfl⟩:=q.form;obtain⟨A,C,rfl⟩:=p.slice;obtain⟨u,v,rfl⟩:=s.slice;have a:=Loc.new h (bM #[Y l,dA t (W1 n),P_ A (aA a2.y_) C,P_ u (aA a3.y_) v] 335);clear h;go_in;go_wp;refine vf (c:=c) (z _ a1 e_ _ a.2 (q.below a.1.fb.rP) m Z) a (by grind[dz,tz.walk,tz]) (λk l g H=>?_) λr g B a=>?_;.go_wp;exact⟨i_,H⟩
 replace b:=pL (B.out▸gZ fs (mN fv) d a1 ⟨e_,0,0⟩) rfl b;have ⟨m1_0,m1_1,m1_2,m1_3,hz1⟩:=LO a.1.n_;go_wp21;refine vf (c:=c) (e _ a2 r _ a.2 o (p.below a.1.fb.rP) f Z) a ny (λk l g H=>?_) λx I y a=>?_;.go_wp;exact⟨i_,H⟩
 replace b:=pL (y.out▸gZ fs (mN fv) d a2 ⟨r,0,0⟩) rfl b;have ⟨m2_0,m2_1,m2_2,m2_3,hz2⟩:=LO a.1.n_;go_wp21;refine vf (c:=c) (e _ a3 x _ a.2 i (s.below a.1.fb.rP) j Z) a mt (λk l g H=>?_) λF D G a=>?_;.go_wp;exact⟨i_,H⟩
 go_wp2;go_end0;grind[Loc.fb,dz,gJ]
def Km(t:mZ cb tp lo fs fv d)(u:qL cb tp lo fs fv d)(i:tI cb tp lo fs fv d)(h:CK cb tp lo fs fv w e_)(o:PN (si lo tp) w v1 a1)(g:fN d a1)(m:a2.op=[98,108,111,99,107])(n:sy (si lo tp) w v2 a2.y_)(e:fN d a2)(b:aA e_+(cT d a1+(cT d a2+(0+0)))<=90000)(A:Wu (c=aR fs (mN fv) d a2 (aR fs (mN fv) d a1 ⟨e_,0,0⟩))):Wn Ww 179 #[aW cb,dA 335 (W1 #[Y l,v1,v2,bR])] w (gJ cb tp lo fs fv w c):=by
 obtain⟨q,j,rfl⟩:=o.form;obtain⟨v,y,rfl⟩:=n.slice;have a:=Loc.new h (bM #[Y l,dA q (W1 j),P_ v (aA a2.y_) y,bR] 335);clear h;go_in;go_wp;refine vf (c:=c) (t _ a1 e_ _ a.2 (o.below a.1.fb.rP) g Z) a ny (λk l f H=>?_) λp f x a=>?_;.go_wp;exact⟨i_,H⟩
 replace b:=pL (x.out▸gZ fs (mN fv) d a1 ⟨e_,0,0⟩) rfl b;have ⟨m1_0,m1_1,m1_2,m1_3,hz1⟩:=LO a.1.n_;go_wp21;refine vf (c:=c) (i _ a2 p _ a.2 m (n.below a.1.fb.rP) e Z) a mt (λk l f H=>?_) λr D s a=>?_;.go_wp;exact⟨i_,H⟩
 replace b:=pL (s.out▸gZ fs (mN fv) d a2 ⟨p,0,0⟩) rfl b;have ⟨m2_0,m2_1,m2_2,m2_3,hz2⟩:=LO a.1.n_;go_wp21;refine vf (c:=c) (Pu d u r _ a.2 Z) a (by grind[tz]) (λk l f H=>?_) λB z C a=>?_;.go_wp;exact⟨i_,H⟩
 go_wp2;go_end0;grind[Loc.fb,dz,gJ]
def XO{x:bS}(h:CK cb tp lo fs fv w e_)(d:aA e_+(0+0)<=90000)(g:Wu (c=RG ⟨e_,0,0⟩ l x)):Wn Ww 179 #[aW cb,dA 345 (W1 #[Y l,Q_ (bs x)])] w (gJ cb tp lo fs fv w c):=by
 have a:=Loc.new h (bM #[Y l,Q_ (bs x)] 345);clear h;go_in;go_wp;refine vf (c:=c) (Fy cb tp lo fs fv _ e_ a.2 Z l x) a mt (λk l b H=>?_) λf b e a=>?_;.go_wp;exact⟨i_,H⟩
 go_wp2;go_end0;grind[Loc.fb,dz,gJ]
def R4{x:bS}(s:mZ cb tp lo fs fv d)(t:qL cb tp lo fs fv d)(h:CK cb tp lo fs fv w e_){e:List aC}(m:sy (si lo tp) w v2 e)(f:∀k∈e,fN d k)(n:PN (si lo tp) w v1 a1)(i:fN d a1)(b:aA e_+(0+((e.map (cT d)).sum+(cT d a1+0)))<=90000)(A:Wu (c=aR fs (mN fv) d a1 (nU fs (mN fv) d e (RG ⟨e_,0,0⟩ l x)))):Wn Ww 179 #[aW cb,dA 333 (W1 #[Y l,Q_ (bs x),v2,v1])] w (gJ cb tp lo fs fv w c):=by
 obtain⟨u,y,rfl⟩:=m.slice;obtain⟨p,j,rfl⟩:=n.form;have a:=Loc.new h (bM #[Y l,Q_ (bs x),P_ u (aA e) y,dA p (W1 j)] 333);clear h;go_in;go_wp;refine vf (c:=c) (Fy cb tp lo fs fv _ e_ a.2 Z l x) a (by grind[dz,tz.fold,tz.walk,tz]) (λk l g H=>?_) λo g v a=>?_;.go_wp;exact⟨i_,H⟩
 replace b:=pL (v.out▸Mp ⟨e_,0,0⟩ l x) rfl b;have ⟨m1_0,m1_1,m1_2,m1_3,hz1⟩:=LO a.1.n_;go_wp21;refine vf (c:=c) (t _ e o _ a.2 (m.below a.1.fb.rP) f Z (by have:=BZ f;exact Z)) a ny (λk l g H=>?_) λq D r a=>?_;.go_wp;exact⟨i_,H⟩
 replace b:=pL (r.out▸QH fs (mN fv) d e ⟨o,0,0⟩) rfl b;have ⟨m2_0,m2_1,m2_2,m2_3,hz2⟩:=LO a.1.n_;go_wp21;refine vf (c:=c) (s _ a1 q _ a.2 (n.below a.1.fb.rP) i Z) a mt (λk l g H=>?_) λB z C a=>?_;.go_wp;exact⟨i_,H⟩
 go_wp2;go_end0;grind[Loc.fb,dz,gJ]
end
section
variable {cb tp lo d l m:Nat} {fs:List aC} {fv v v1:aU} {w:aL} {e_:cU} {c:bF} {a t a1:aC}
def b8(g:aA fs<=90000)(i:∀f∈fs,aA f.y_<=90000)(q:qL cb tp lo fs fv d)(h:CK cb tp lo fs fv w e_)(m:sy (si lo tp) w v a.y_)(j:∀k∈a.y_,fN d k)(e:aA e_+(a.y_.map (cT d)).sum<=90000)(n:Wu (c=nU fs (mN fv) d a.y_ (fX fs (mN fv) ⟨e_,0,0⟩ a))):Wn Ww 179 #[aW cb,dA 342 (W1 #[Y a.l_,Q_ (bs a.x_),v])] w (gJ cb tp lo fs fv w c):=by
 obtain⟨p,r,rfl⟩:=m.slice;have b:=Loc.new h (bM #[Y a.l_,Q_ (bs a.x_),P_ p (aA a.y_) r] 342);have t:=O (W5 cb tp lo fs fv g i d q a _ e_ _ b.2 (m.below b.1.fb.rP) j e (by have:=BZ j;exact Z));clear h;go_in;go_wp;refine vf (c:=c) t b (by rw[n];exact tz.refl _) (λk l o H=>?_) λu o s b=>?_;.go_wp;exact⟨i_,H⟩
 go_wp2;go_end0;exact gJ.done b.1.fb (by rw[n,s.out]) b.2
def N4(n:mZ cb tp lo fs fv d)(h:CK cb tp lo fs fv w e_)(g:PN (si lo tp) w v1 a1)(b:fN d a1)(e:aA e_+cT d a1<=90000)(i:Wu (c=({aR fs (mN fv) d a1 (Hs.ru ⟨e_,0,0⟩ t)with e_:=(aR fs (mN fv) d a1 (Hs.ru ⟨e_,0,0⟩ t)).e_++[t.x_]}:bF))):Wn Ww 179 #[aW cb,dA 330 (W1 #[Y l,Y t.l_,Q_ (bs t.x_),v1])] w (gJ cb tp lo fs fv w c):=by
 obtain⟨o,f,rfl⟩:=g.form;have a:=Loc.new h (bM #[Y l,Y t.l_,Q_ (bs t.x_),dA o (W1 f)] 330);have p:=O (ZZ cb tp lo fs fv d n _ e_ a.2 l t a1 _ (g.below a.1.fb.rP) b e);clear h;go_in;go_wp;refine vf (c:=c) p a (by rw[i];exact tz.refl _) (λk l j H=>?_) λq j m a=>?_;.go_wp;exact⟨i_,H⟩
 go_wp2;go_end0;exact gJ.done a.1.fb (by rw[i,m.out]) a.2
def M9(h:CK cb tp lo fs fv w e_):Wn Ww 179 #[aW cb,dA 339 (W1 #[Y l,dA 366 (W1 #[Y m,Y 0])])] w (gJ cb tp lo fs fv w ⟨e_,0,0⟩):=by
 have a:=Loc.new h (bM #[Y l,dA 366 (W1 #[Y m,Y 0])] 339);have e:=O (PW (l:=m) (k:=0) a.2);clear h;go_in;go_wp;refine vf (c:=⟨e_,0,0⟩) e a (tz.refl _) (λk l b H=>?_) λf b d a=>?_;.go_wp;exact⟨i_,H⟩
 go_wp2;go_end0;exact gJ.done a.1.fb d a.2
end
def uH(e:(g.op==[118,97,114])=Wl)(f:(g.op==[98,108,111,99,107])=Wl):aR r b (p+1) g i=nU r b p g.y_ (cK r b i g):=by grind[aR]
theorem sz(e:(g.op==[115,101,116])=Wl)(d:(g.op==[110,97,109,101])=Wl)(f:(g.op==[99,97,108,108])=Wl):cK r b i g=i:=by grind[cK]
theorem XS(h:(g.op==[115,101,116]||g.op==[110,97,109,101])=Wm):cK r b i g=RG i g.l_ g.x_:=by unfold cK;rw[h];rfl
def QA(h:g.op=[99,97,108,108]):cK r b i g=fX r b i g:=by grind[cK]
def XG{y:bS}(h:cR j≠9)(a:cR y=9):(j==y)=Wl:=by grind
def pZ(h:g.op=j)(k:(j==[118,97,114]||j==[98,108,111,99,107]||j==[115,101,116]||j==[110,97,109,101]||j==[99,97,108,108])=Wl:=by decide):aR r b (p+1) g i=nU r b p g.y_ i:=by grind[sz,aR]
theorem Vv(B D G:Nat)(m:List aC)(n:aU)(C:aA m<=90000)(E:∀f∈m,aA f.y_<=90000)(d:Nat)(IHs:∀e,e<=d->mZ B D G m n e):mZ B D G m n (d+1):=by
 intro v a e_ w h N y i;obtain⟨T,cs,W,rfl,K,q⟩:=N.parts;have r:=IHs d kB;have H:=yE B D G m n d r;have x:tI B D G m n d:=by cases d with|zero=>grind[tI,fN]|succ e=>grind[C0,yE]
 rw[cT]at i;have j:∀k∈a.y_,fN d k:=y;clear N y;rcases K with ⟨rfl,k,rfl,g,V,b,rfl⟩|⟨rfl,rfl,g,b,rfl⟩|⟨rfl,rfl,g,b,rfl⟩|⟨rfl,I,rfl,g,rfl⟩|⟨rfl,I,rfl,g,rfl⟩|⟨rfl,rfl,g,b,rfl⟩|⟨rfl,l,u,S,p,U,rfl,g,b,rfl⟩|⟨rfl,o,u,p,rfl,ho,g,b,rfl⟩|⟨rfl,l,u,S,p,U,rfl,g,b,rfl⟩|⟨rfl,u,t,p,rfl,g,b,rfl⟩|⟨rfl,I,u,l,p,rfl,g,b,rfl⟩|⟨rfl,u,M,p,L,rfl,g,s,b,rfl⟩|⟨rfl,u,M,X,p,L,b2,rfl,g,s,J,b,rfl⟩|⟨rfl,u,M,p,L,rfl,g,s,b,rfl⟩|⟨rfl,l,rfl,g,b,rfl⟩|⟨rfl,u,p,rfl,g,b,rfl⟩|⟨rfl,u,p,rfl,g,b,rfl⟩|⟨rfl,I,c,rfl,g,Q,P,b,z,rfl⟩;have e:aR m (mN n) (d+1) a ⟨e_,0,0⟩=⟨e_,0,0⟩:=by rw[pZ g,b];rfl
 rw[e];exact PW h;have e:aR m (mN n) (d+1) a ⟨e_,0,0⟩=⟨e_,0,0⟩:=by rw[pZ g,b];rfl
 rw[e];exact Nt h;have e:aR m (mN n) (d+1) a ⟨e_,0,0⟩=⟨e_,0,0⟩:=by rw[pZ g,b];rfl
 rw[e];exact Td h;rw[pZ g];exact Ob H h mw j Z rfl;rw[uH G_ G_,QA g];exact b8 C E H h mw j Z rfl;have e:aR m (mN n) (d+1) a ⟨e_,0,0⟩=RG ⟨e_,0,0⟩ a.l_ a.x_:=by grind[XS,aR]
 rw[e];exact XO h Z rfl;rw[pZ g,b];rw[b]at i j;simp only[fi,gg,fu,gt]at i;exact Of r h (q _ s_).uo (G_) nz (G_) Z rfl;have F:a.op=[45,120]\/a.op=[33,120]:=G_;have e:aR m (mN n) (d+1) a ⟨e_,0,0⟩=aR m (mN n) d p ⟨e_,0,0⟩:=by rcases F with g|g<;>(rw[pZ g,b];rfl)
 rw[e];rw[b]at i j;simp only[fi,gg,fu,gt]at i;exact Im r h (q _ s_).uo (G_) Z rfl;rw[uH (XG g d_) (XG g d_),sz (XG g d_) (XG g d_) (XG g d_),b];rw[b]at i j;simp only[fi,gg,fu,gt]at i;exact Ji r h (q _ s_).uo (G_) nz (G_) Z rfl;have e:aR m (mN n) (d+1) a ⟨e_,0,0⟩={aR m (mN n) d p (Hs.ru ⟨e_,0,0⟩ t)with e_:=(aR m (mN n) d p (Hs.ru ⟨e_,0,0⟩ t)).e_++[t.x_]}:=by grind[aR]
 rw[e];rw[b]at i j;simp only[fi,gg,fu,gt]at i;exact N4 r h (q _ s_).uo (G_) Z rfl;rw[uH G_ G_,XS G_,b];rw[b]at i j;simp only[fo,fi,gg,jn,fu,gt]at i;have e:nU m (mN n) d (l++[p]) (RG ⟨e_,0,0⟩ a.l_ a.x_)=aR m (mN n) d p (nU m (mN n) d l (RG ⟨e_,0,0⟩ a.l_ a.x_)):=by simp
 rw[e];exact R4 r H h mw (G_) nz (G_) Z rfl;rw[pZ g,b];rw[b]at i j;simp only[fi,gg,fu,gt]at i;exact Km r H x h nz (G_) s mw (G_) Z rfl;rw[pZ g,b];rw[b]at i j;simp only[fi,gg,fu,gt]at i;exact Hl r x h nz (G_) s mw (G_) J mw (G_) Z rfl;rw[pZ g,b];rw[b]at i j;simp only[fi,gg,fu,gt]at i;exact Rb r x h nz (G_) s mw (G_) Z rfl;have e:aR m (mN n) (d+1) a ⟨e_,0,0⟩=⟨e_,0,0⟩:=by rw[pZ g,b];rfl
 rw[e];exact M9 h;rw[pZ g,b];rw[b]at i j;simp only[fi,gg,fu,gt]at i;exact Nz r h (q _ s_).uo (G_) Z rfl;rw[pZ g,b];rw[b]at i j;simp only[fi,gg,fu,gt]at i;exact Ka r h (q _ s_).uo (G_) Z rfl;rw[pZ g,b];rw[b]at i j;simp[fi,gg,fu,gt]at i;have A:=j c s_;cases d with|zero=>exact A.elim|succ e=>show Wn _ _ _ _ (gJ B D G m n w (aR m (mN n) (e+1) c ⟨e_,0,0⟩));rw[cT]at i;rw[uH G_ G_,QA z];exact b8 C E ((by grind[yE])) h mw A Z rfl
theorem XL(b g i:Nat)(a:List aC)(h:aU)(e:aA a<=90000)(c:∀f∈a,aA f.y_<=90000)(d:Nat):mZ b g i a h d:=by induction d using Nat.strongRecOn with|_ d j=>cases d with|zero=>grind[mZ,fN]|succ d=>grind[Vv]
def Qw(k:Nat)(c:k<aA r):(Bg r)[k*2]?=Wj (Y r[k].l_)/\(Bg r)[k*2+1]?=Wj (Q_ (bs r[k].x_)):=by induction r generalizing k with|nil=>simp at c|cons a r d=>grind[Bg]
def y8.get(h:y8 s y q r):(q=bR/\r=[])\/∃g a,q=P_ (Wj (aJ g 0)) (aA r) a/\s g/\g<H_ y/\aA r<=a/\∀k (c:k<aA r),eJ y g (k*2) (Y r[k].l_)/\eJ y g (k*2+1) (Q_ (bs r[k].x_)):=by obtain⟨_,h|⟨g,a,d,i,e,l,f,j⟩⟩:=h;grind;refine dv ⟨g,a,i,e,G_,f,λk c=>?_⟩;have ⟨e1,e2⟩:=Qw k c;grind[aB]
def KW:∀{a:List Wo}{c:List aC} (i:Nat),jW (DJ s y) a c->i<=aA c->(pO a).take (i*4)=pO (a.take i)|[],[],i,_,h=>by simp[pO]|u::a,f::c,0,_,_=>by simp[pO]|u::a,f::c,i+1,⟨⟨l,j,d,b,g,_⟩,h⟩,k=>by have e:=KW i h G_;grind[pO,LL]|[],_::_,_,h,_=>h.elim|_::_,[],_,h,_=>h.elim
def jW.take{R:Wo->aC->Prop}:∀{a b} (i:Nat),jW R a b->jW R (a.take i) (b.take i)|_,_,0,_=>by simp[jW]|[],[],_+1,_=>trivial|_::_,_::_,i+1,⟨d,c⟩=>⟨d,jW.take i c⟩|[],_::_,_,h=>h.elim|_::_,[],_,h=>h.elim
def vo.take{g a:Nat}(h:vo s y (.slice (Wj (aJ g 0)) (aA r) a) r)(i:Nat)(n:i<=aA r):vo s y (.slice (Wj (aJ g 0)) i a) (r.take i):=by rcases h with ⟨c,_⟩|⟨q,e,d,o,c,k,m,p,l,j⟩;cases c;cases c;have f:aA (r.take i)=i:=G_;refine dv ⟨g,a,d,o.take i,by rw[f],k,m,Z,?_,j.take i⟩;rw[f,<-KW i j n,<-l,List.take_take];grind
def CK.reset{m:aU}{b:cU}(h:CK p n o r q y b)(c:y.heap[p]?=Wj (bM #[q,m] 190)):FB p n y (c9 y (aJ p 1) (bR))/\CK p n o r q (c9 y (aJ p 1) (bR)) []:=by
 have i:Below n y (c9 y (aJ p 1) (bR)):=(dw _ _).setCell h.lt.2 _;have l:(c9 y (aJ p 1) (bR)).heap[p]?=Wj (bM #[q,bR] 190):=by rw[aN c];rfl
 refine⟨⟨i,np,λk d=>?_⟩,⟨bR,l,Wh _ _ _ _,ng,h.lt.2⟩,h.wa.j_ λk d=>i.block k d.2⟩;rw[sC l]at d;cases d
def L6(a:List aC)(x:bS):(qA a x).isSome=(gM x||!(dE a x).isNone):=by grind[qA,gM]
theorem JY(a:List aC)(d:Nat)(s:bF)(k:aC):tz s (eO a d s k):=by grind[eO,tz.declares,tz.walk,tz]
def Tt(a:List aC)(d:Nat)(s:bF)(k:aC)(h:k.op=[112,97,114,97,109]):eO a d s k={Hs.ru s k with e_:=(Hs.ru s k).e_++[k.x_]}:=by grind[eO]
def Jf(a:List aC)(d:Nat)(s:bF)(k:aC)(h:k.op=[98,108,111,99,107]):eO a d s k=aR a Wl d k s:=by grind[eO]
def Fq(cb tp lo:Nat)(fs:List aC)(fv:aU)(d:Nat)(w:aL)(b0:Nat)(o:Obj)(ps:List aC)(b:aC)(c:bF)(gk:Nat)(i:aU)(wr:aL):Prop:=∃k s,k+gk=aA ps/\i=Y (k:Nat)/\Loc cb tp w b0 o wr/\CK cb tp lo fs fv wr s/\c=(ps.drop k++[b]).foldl (eO fs d) ⟨s,0,0⟩/\aA s=k
def U5(b:List aC)(d:Nat)(a:cU)(f:aC)(first:Bool)(h:(gM f.x_||!first)=Wm):tz ⟨[],6,f.l_⟩ (gQ b d ⟨a,0,0⟩ f first):=by unfold gQ;rw[h];exact tz.fold (JY b d) _ _
def Hq(b:List aC)(d:Nat)(a:cU)(f:aC)(first:Bool)(h:(gM f.x_||!first)=Wl):gQ b d ⟨a,0,0⟩ f first=f.y_.foldl (eO b d) ⟨[],0,0⟩:=by grind[gQ]
def Uf(x D K:Nat)(c:List aC)(g m:Nat)(dc:aA c<=90000)(aw:∀f∈c,aA f.y_<=90000)(d i:Nat)(hi:i<aA c)(n:cU)(w:aL)(h:CK x D K c (FV (P_ (Wj (aJ g 0)) (aA c) m)) w n) (hd:∀k∈c[i].y_,fN d k) (hw:c[i].y_.length+(c[i].y_.map (cT d)).sum<=90000):Wn Ww 89 #[aW x,P_ (Wj (aJ g 0)) (aA c) m,Y i] w (gJ x D K c (FV (P_ (Wj (aJ g 0)) (aA c) m)) w (gQ c d ⟨n,0,0⟩ c[i] (dE (c.take i) c[i].x_).isNone)):=by
 obtain⟨_,G,ab⟩|⟨G,_⟩:=h.wa;rotate_left;cases G;cases G;rcases ab.cells with ⟨h1,_⟩|⟨g',cq,h1,ci,cz,cm,hc⟩;cases h1;cases h1;obtain⟨pv,bv,q,b,e0,e1,e2,e3,F,ac,ak,ah⟩:=hc i hi;obtain⟨Q,V,rfl⟩:=ac.slice;obtain⟨I,J,rfl⟩:=ah.slice;have ao:=O (L6 (c.take i) c[i].x_);have de:=aw c[i] (ga hi);have be:=O (ab.take i Z);generalize dd:c[i]=f at*;have cv:=O (λhx=>U5 c d n f (dE (c.take i) f.x_).isNone hx);have bm:=O (λhx=>Hq c d n f (dE (c.take i) f.x_).isNone hx);have df:=h.lt;have ⟨hl0,hk0⟩:=Loc.new h (bM #[Y f.l_,Q_ (bs f.x_),P_ Q (aA q) V,P_ I (aA b.y_) J] 184);obtain⟨sx,sc,S,cx,cp,ax,-⟩:=h.cut;have ⟨z,c0,c1,f1⟩:=mX S;have bh:=O hl0;have bj:=O hk0;have aq:=O ac;have cg:=O ah;have am:=O ak;have ag:=O F;have HD:=O hd;have HW:=O hw;have bl:i<=m:=Z;have HBLK:Wu (tI x D K c (FV (P_ (Wj (aJ g 0)) (aA c) m)) d):=by cases d with|zero=>exact λ_ _ _ _ _ _ _ hd _=>hd.elim|succ e=>grind[C0,yE,XL]
 have cs:aA q<=90000:=G_;have bt:Wu (cB w (dZ w #[Y f.l_,Q_ (bs f.x_),P_ Q (aA q) V,P_ I (aA b.y_) J] 184)):=(dw _ _).alloc (Z) _;have P:=O (KB (c.take i) (si K D) (P_ (Wj (aJ g 0)) i m) f.x_ (dZ w #[Y f.l_,Q_ (bs f.x_),P_ Q (aA q) V,P_ I (aA b.y_) J] 184).drew G_ (G_) (be.j_ λk hk=>by have:=hk.2;exact ed _ _ _ Z));rw[ao]at P;generalize ck:((qA (List.take i c) f.x_).getD 0)=pn at P;have ⟨tk,htk⟩:∃tk,tk=(gM f.x_||!(dE (c.take i) f.x_).isNone):=(by simp);rw[<-htk]at P;have bg:=O htk;have ⟨cc,o⟩:∃cc,cc=gQ c d ⟨n,0,0⟩ f (dE (c.take i) f.x_).isNone:=(by simp);rw[<-o];have br:=O o;clear ck htk o h hl0 hk0 ac ah ak F hd hw aw ab hc S ax ao be ci;go_in;go_wp2;go_cut [7,8] (λ_ tv wc=>tv=.bool tk/\cB w wc/\Loc x D w (H_ w) (bM #[Y f.l_,Q_ (bs f.x_),P_ Q (aA q) V,P_ I (aA b.y_) J] 184) wc/\CK x D K c (FV (P_ (Wj (aJ g 0)) (aA c) m)) wc n);case first=>go_region_law (go_simp;go_at_call 87;refine rB P λw1 cl=>?_;have af:=O ((dw (dZ w #[Y f.l_,Q_ (bs f.x_),P_ Q (aA q) V,P_ I (aA b.y_) J] 184).heap.size (dZ w #[Y f.l_,Q_ (bs f.x_),P_ Q (aA q) V,P_ I (aA b.y_) J] 184)).drew.trans cl));all_goals go_wp;go_meet;case rel=>exact⟨i_,bt.trans (af.mono s_),bh.step (FB.q_ af ku),bj.grow af⟩
 case rest=>
  obtain⟨rfl,bi,A,bf⟩:=hcut;obtain⟨cy,cw,B,cu,cf,bn,-⟩:=bf.cut;have ⟨z,c0,c1,f1⟩:=mX B;have bp:=O A;have m0:=aB A.n_ (i:=0) i_;have m1:=aB A.n_ (i:=1) i_;have m2:=aB A.n_ (i:=2) i_;have m3:=aB A.n_ (i:=3) i_;have ba:=aH A.n_;have aj:=O (bf.reset B);have bb:=O bi;cases tk;rotate_left;.go_wp;refine rB (xH f.l_ _) λH t=>?_;have v:=O (bb.trans (t.mono bb.size));go_wp2_with (go_at_call 88;refine rB (kT 6 f.l_ _) λw3 hw=>?_;obtain rfl:=hw.symm);exact⟨i_,(by grind[FB.q_,dz,gJ,tz])⟩
  have HI:Wu (Fq x D K c (FV (P_ (Wj (aJ g 0)) (aA c) m)) d w (H_ w) (bM #[Y f.l_,Q_ (bs f.x_),P_ Q (aA q) V,P_ I (aA b.y_) J] 184) q b cc (aA q) (Y (0:Nat)) (c9 wc (aJ x 1) (bR))):=⟨0,[],Z,rfl,bp.step aj.1,aj.2,by rw[br,bm bg.symm,ag];rfl,rfl⟩;have cr:¬x=H_ w:=Z;have ⟨i0,hi0,hz0,hz1',hz2⟩:=info_parts IA;go_wp2;go_loopg [10,37] (aA q) (λgk _ iv wr=>Fq x D K c (FV (P_ (Wj (aJ g 0)) (aA c) m)) d w (H_ w) (bM #[Y f.l_,Q_ (bs f.x_),P_ Q (aA q) V,P_ I (aA b.y_) J] 184) q b cc gk iv wr);case atStart=>exact HI
  case round=>
   obtain⟨k,s,hk,rfl,l,N,o,al⟩:=hrel;have az:=O al;have co:aA s<=90000:=Z;clear al;have M:=O l;have au:=O o;have m0:=aB l.n_ (i:=0) i_;have m1:=aB l.n_ (i:=1) i_;have m2:=aB l.n_ (i:=2) i_;have m3:=aB l.n_ (i:=3) i_;have ba:=aH l.n_;by_cases z:k<aA q
   .obtain⟨j,rfl⟩:∃j,gk=j+1:=⟨gk-1,Z⟩;rcases aq.get with ⟨_,ai⟩|⟨pg,cn,G,bd,bu,ch,C⟩;rw[ai]at z;simp at z;have ⟨hp1,hp2⟩:=C k z;have ay:=aq.1 q[k] (s_);have hdk:=(List.getElem_cons_drop z).symm;have U:cc=(q.drop (k+1)++[b]).foldl (eO c d) (eO c d ⟨s,0,0⟩ q[k]):=by rw[o,hdk];rfl
    generalize q[k]=a at*;cases G;have r0:=(l.fb.rP.cell (p:=(aJ pg (k*2))) bd.2).trans hp1;have r1:=(l.fb.rP.cell (p:=(aJ pg (k*2+1))) bd.2).trans hp2;have hpgl:=Z;have ⟨hl2,L⟩:=Loc.new N (bM #[Y a.l_,Q_ (bs a.x_)] 180);have ad:=O hl2;have HM:=O (xE x D K c _ (dZ wr #[Y a.l_,Q_ (bs a.x_)] 180) s L Z a.l_ a.x_);have ap:Wu (Hs.ru ⟨s,0,0⟩ a=if gM a.x_||s.contains a.x_ then bF.found ⟨s,0,0⟩ a.l_ 6 else ⟨s,0,0⟩):=rfl;rw[<-ap]at HM;have W:=O (Tt c d ⟨s,0,0⟩ a ay);have ar:=lL ⟨s,0,0⟩ a;have bq:=O ar;have r:=O U;clear o U hdk hp1 hp2 C ch bu au ar ap hl2 L l N ay;generalize Hs.ru ⟨s,0,0⟩ a=c1 at*;go_wp;apply HM.mono;rintro e H ⟨t,⟨s2,rfl,rfl,u⟩|⟨X,rfl⟩⟩;rotate_left;.have ca:=O (M.fb.trans (ad.fb.trans t));have HK:=O X;go_wp;exact⟨i_,gJ.fault (c1:=c1) ca HK (by rw[r,W];exact(tz.e_ _ _).trans (tz.fold (JY c d) _ _))⟩
    obtain rfl:s2=s:=bq.out;have cj:=O (ad.step t);have HLb:=O ((M.step ad.fb).step t);have ⟨sx2,sc2,hblk2,hsc2,hscm2,hown2,hne2⟩:=u.cut;have ⟨hlt2,c0,c1,f1⟩:=mX hblk2;have n1:=aB cj.n_ (i:=1) i_;have ba:=aH HLb.n_;have v:=O (show H.drew.heap[x]?=_ from hblk2);have an:=O (show H.drew.ownsRow _ _ _ _ _ _ from hown2);have E:=O (show CK x D K c (FV (P_ (Wj (aJ g 0)) (aA c) m)) H.drew s2 from u.grow (dw _ _).drew);have ce:=O hne2;have bw:=O (FB.q_ (cb:=x) (dw (H_ H) H).drew u.lt);go_wp2;go_region_law (refine step_append_lies _ r_ _ _ 51 r_ D 9 i0 _ 1 16 underlying51 hi0 hz0 hz1' hz2 rfl d_ (P_ sx2 (aA s2) sc2) (aA s2) (jR s2) r_ (an.alloc _) (aJ (H_ H) 0) 1 1 [Q_ (bs a.x_)] r_ r_ (BW H.drew _) (GW _) d_ ky Z ku (H_ H+1) s_ ?_;intro g5 ct w5 ae y av dg;have cd:=LM v y ce;obtain⟨db,-,q1,da⟩:=mX cd);all_goals
     go_wp2;go_roundg j;case measure=>exact Z
     case rel=>have T:=E.add v an ae y (av.imp_right λe=>by show H_ H<=g5;exact Z);exact⟨k+1,s2++[a.x_],Z,lj,(HLb.step bw).step T.1,T.2,by rw[r,W],by have:=az.out;grind⟩
   have aa:fN d b/\aA s+cT d b<=90000:=by have h1:=HW.out;have h2:=HD b (by rw[ag];simp);rw[ag]at h1;simp[et,fo,jn,fi,gg,fu,gt,ff,fh]at h1;have:=az.out;grind
   have HX:=O (HBLK (P_ I (aA b.y_) J) b s wr N am (cg.below l.fb.rP) aa.1 aa.2);have r:Wu (cc=aR c (mN (FV (P_ (Wj (aJ g 0)) (aA c) m))) d b ⟨s,0,0⟩):=by rw[o,gr Z];exact Jf c d _ b am
   rw[<-r]at HX;clear l N o au r aa;go_wp;apply HX.mono;rintro e H ⟨t,⟨s2,L,rfl,u⟩|⟨X,rfl⟩⟩;.have v:=O (M.fb.trans t);have E:=O u;have bo:=O L;go_wp2;go_end0;exact gJ.done v bo E
   have v:=O (M.fb.trans t);have E:=O X;go_wp;exact⟨i_,gJ.fault (c1:=cc) v E (tz.refl _)⟩
def xF(fs:List aC):Bool:=qA fs [109,97,105,110]==Wj 0
def US{Z_:Prop}(Y_:Z_:=by go_in;go_wp2_with fail;refine rB HP λw1 hb1=>?_;have HB:=O hb1;clear hb1;go_wp2_with (go_at_call 88;refine rB (kT 5 0 _) λw3 hw=>?_;obtain rfl:=hw.symm);exact⟨i_,HB,s_⟩):Z_:=Y_
def W4(a:List aC)(F:bI)(j:aU)(w:aL)(o:aA a<=90000)(g:∀f∈a,aA f.y_<=90000)(h:vo F w j a):Wn Ww 49 #[j] w λe m=>cB w m/\((xF a=Wm/\e=eV)\/(xF a=Wl/\e=gE 5 0)):=by
 have HP:=O (KB a F j [109,97,105,110] w Z g h);have d:Wu (xF a=(qA a [109,97,105,110]==Wj 0)):=rfl;have b:=O (λn l=>Z7 g (x:=[109,97,105,110]) (n:=n) l);clear h g;rw[show bs [109,97,105,110]=⟨#[109,97,105,110]⟩from rfl]at HP;have ⟨i,hmo⟩:∃i,i=xF a:=(by simp);rw[<-hmo]at d⊢;clear hmo;cases c:qA a [109,97,105,110]with
 |none=>
  obtain rfl:i=Wl:=by rw[d,c];rfl
  rw[c]at HP;simp[Option.getD_none,Option.isSome_none]at HP;clear c d b;exact US|some n=>
  have l:=b n c;rw[c]at HP;simp[jf,Option.isSome_some]at HP;cases n with|zero=>
   obtain rfl:i=Wm:=by rw[d,c];rfl
   clear c d b;go_in;go_wp;refine rB HP λw1 hb1=>?_;have HB:=O hb1;clear hb1;go_wp2;go_end0;grind[dz]|succ n=>
   obtain rfl:i=Wl:=by rw[d,c];rfl
   clear c d b;have k:decide ((0:Int)<((n:Int)+1))=Wm:=(by simp);exact US
theorem p8(c:List aC)(d:Nat):∀(a b:List aC) (s:bF),tz s (eU c d b a s)|[],_,s=>tz.refl s|n::a,b,s=>by refine tz.trans ?_ (p8 c d a _ _);grind[gQ,tz.fold,JY,tz.found,tz]
def UN(cb tp lo:Nat)(fs:List aC)(fv:aU)(d:Nat)(w:aL)(c:bF)(gk:Nat)(i:aU)(wr:aL):Prop:=∃k s,k+gk=aA fs/\i=Y (k:Nat)/\Below cb w wr/\CK cb tp lo fs fv wr s/\c=eU fs d (fs.take k) (fs.drop k) ⟨s,0,0⟩
def A6(v:Nat)(a:List aC)(J:aU)(w:aL)(d:Nat)(C:aA a<=90000)(u:∀f∈a,aA f.y_<=90000)(h:vo (si v (H_ w)) w J a)(K:∀f∈a,∀k∈f.y_,fN d k)(L:∀f∈a,aA f.y_+(f.y_.map (cT d)).sum<=90000):Wn Ww 50 #[J] w λe P=>cB w P/\(((eU a d [] a ⟨[],0,0⟩).kind=0/\(eU a d [] a ⟨[],0,0⟩).l_=0/\e=eV)\/((eU a d [] a ⟨[],0,0⟩).kind≠0/\e=gE (eU a d [] a ⟨[],0,0⟩).kind (eU a d [] a ⟨[],0,0⟩).l_)):=by
 obtain⟨t,n,rfl⟩:∃x c,J=P_ x (aA a) c:=by grind[vo]
 have ⟨c,hc⟩:∃c,c=eU a d [] a ⟨[],0,0⟩:=(by simp);have r:cB w (dZ w #[FV (P_ t (aA a) n),bR] 190):=(by grind[eo,dw]);have Q:Wu (UN (H_ w) (H_ w) v a (FV (P_ t (aA a) n)) d w c (aA a) (Y (0:Nat)) (dZ w #[FV (P_ t (aA a) n),bR] 190)):=⟨0,[],Z,rfl,r,⟨(by grind[aS,Wh,Value.ownBlock,jR]),(by grind[vo.j_,ej,Ct,si])⟩,G_⟩;rw[<-hc];have W:=O h;have H:=O u;have U:=O K;have V:=O L;clear h r hc u K L;go_in;go_wp2;go_loopg [3,9] (aA a) (λgk _ i wr=>UN (H_ w) (H_ w) v a (FV (P_ t (aA a) n)) d w c gk i wr);case atStart=>exact Q
 case round=>
  obtain⟨k,s,X,rfl,A,m,p⟩:=hrel;have S:=O A;by_cases y:k<aA a
  .obtain⟨j,rfl⟩:∃j,gk=j+1:=⟨gk-1,Z⟩;obtain⟨g,rfl⟩:∃g,t=Wj ⟨g,0,Wk⟩:=by grind[dz,vo]
   have F:a[k]∈a:=(by simp);have M:=O (Uf (H_ w) (H_ w) v a g n C H d k y s wr m (U _ F) (V _ F));have G:a.drop k=a[k]::a.drop (k+1):=(by simp);have b:c=eU a d (a.take (k+1)) (a.drop (k+1)) (gQ a d ⟨s,0,0⟩ a[k] (dE (a.take k) a[k].x_).isNone):=by grind[eU]
   have I:=O b;clear A m p b G F;generalize gQ a d ⟨s,0,0⟩ a[k] (dE (a.take k) a[k].x_).isNone=T at*;go_wp;apply M.mono;rintro e N ⟨l,⟨s1,rfl,rfl,q⟩|⟨o,rfl⟩⟩;rotate_left
   .have D:=O (S.trans l.rP);have B:=O o;have z:Wu (tz T c):=by grind[dz,p8]
    clear l o;go_wp;have ⟨e1,e2⟩:=z B;exact⟨i_,D,mz⟩
   have E:Wu (UN (H_ w) (H_ w) v a (FV (P_ (Wj (aJ g 0)) (aA a) n)) d w c j (Y ((k+1:Nat):Int)) N):=(by grind[Below.trans,dz,FB.rP,UN]);clear l q M;go_wp2;go_roundg j;case measure=>exact Z
   case rel=>exact E
  have b:c=⟨s,0,0⟩:=by grind[List.drop_eq_nil_of_le,eU]
  have I:=O b;clear A m p b;go_wp2;go_end0;grind[dz]
structure vy(w:aL):Prop where
 er:∃te pe,w.cell? (aJ 8 0)=Wj (.iface te pe)
 yh:11<=w.heap.size
def vy.fr{a:aL}{sb:Nat}(h:vy y)(b:Fr sb y a)(c:11<=sb):vy a:=by have ⟨te,pe,h1⟩:=h.er;have:=h.yh;have:=b.size;exact⟨(by grind[iO,Fr.block]),Z⟩
def Ul(l:bS)(d:∀c∈l,dM c=Wm)(a:l≠[])(i:aA l<=100000)(w:aL)(h:vy w):Wn Ww 243 #[Q_ (bs l),Y 10,Y 64] w λe f=>cB w f/\((∃v,dQ 0 l=Wj v/\e=bP (Xa #[Y (v:Nat),.nilIface]))\/(dQ 0 l=Wk/\∃x T p,e=bP (Xa #[Y x,dA T p]))):=by have hsz:=iU l;rcases Po l d a with ⟨v,g,b⟩|⟨g,b⟩;apply (strconv_ParseInt_10_at64_ok (bs l) Z v (by exact b) w).mono;grind[dw,Lib.bytesWorld_below];have ⟨te,pe,he⟩:=h.er;apply (strconv_ParseInt_10_at64_range (bs l) Z (by exact b) (dA te pe) w he (s_)).mono;grind
def D6(c:UInt8):dI Wl c=dM c:=by unfold dI;simp
def VQ(d:Nat)(a:ByteArray)(n L:Nat)(w:aL)(h:SC d a n L w)(G:vy w)(y:11<=d)(hs:a.size<=100000)(hn:n<a.size)(E:dM a[n]=Wm):Wn Ww 195 #[aW d] w (Dg d a n L w (iX ((dL a).drop n) Wl)):=by
 obtain⟨j,s⟩:∃j,j=bO (dI Wl) ((dL a).drop n):=(by simp);have ac:j<=a.size-n:=by have:=oO (dI Wl) ((dL a).drop n);rw[s];simpa using this
 have I:1<=j:=by grind[gH,bO,dI]
 have ab:n<=a.size:=Z;have aa:=(SC.cells h).1;have hrb:H_ w≠d:=Z;have C:SC d a n L (dZ w #[Y 0,Q_ ⟨#[]⟩,Y 0,Y 0] 175):=by grind[SC,ed]
 obtain⟨F,J,K,N,H,Q⟩:=C.cells;have HZD:Wu (xu (dZ w #[Y 0,Q_ ⟨#[]⟩,Y 0,Y 0] 175).drew (H_ w)):=aS _ _ i_ _;have HSP:=O (λw=>BL (dI Wl) 194 (s_) (λc w=>by rw[D6];exact AN c w) (a.extract n a.size) w qu);rw[sH,<-s]at HSP;have HTK:=O (tS d a n L j (dZ w #[Y 0,Q_ ⟨#[]⟩,Y 0,Y 0] 175).drew C Z Z);obtain⟨g,o⟩:∃g,g=((dL a).drop n).take j:=(by simp);rw[<-o]at HTK;have l:aA g=j:=by rw[o,ia];simp;exact Z
 have t:=O (λW (V:vy W)=>Ul g ((by grind[lR,dI])) (G_) Z W V);have P:Wu (iX ((dL a).drop n) Wl={c_:=48,x_:=g,size:=j,ok:=(dQ 0 g).isSome}):=by show _=_;grind[iX]
 rw[P];have HF0:Wu (Fr d w (dZ w #[Y 0,Q_ ⟨#[]⟩,Y 0,Y 0] 175)):=(Fr.refl _ _).alloc _;have X:=O G;have U:(bs g).size=j:=by rw[iU];exact l
 clear h C s o P G l E;have ⟨M,hrr⟩:∃M:rG,M={c_:=48,x_:=g,size:=j,ok:=(dQ 0 g).isSome}:=(by simp);rw[<-hrr];have z:=O hrr;clear hrr;go_in;go_wp2;go_cut [3] (λv wc=>v=Q_ (bs g)/\SC d a (n+j) L wc/\Fr d w wc/\xu wc (H_ w));case first=>exact UV
 case rest=>
  obtain⟨rfl,hs2,hf2,u⟩:=hcut;have HS2:=O hs2;have HF2:=O hf2;have HZ2:=O u;have q:=O (t wc (X.fr hf2 y));clear J K N H Q F hs2 hf2 u HTK HSP HZD t;go_wp;apply q.mono;rintro e B ⟨f,⟨v,A,rfl⟩|⟨A,x,T,p,rfl⟩⟩;.have k:Wu (SC d a (n+j) L B):=(f.block d (aH HS2)).trans HS2;have b:Wu (xu B (H_ w)):=(f.block _ (aH HZ2)).trans HZ2;have r:=O (HF2.trans (Fr.below f));obtain⟨F,J,K,N,H,Q⟩:=k.cells;have z0:=aB b (i:=0) i_;have z1:=aB b (i:=1) i_;have z2:=aB b (i:=2) i_;have z3:=aB b (i:=3) i_;have y0:=aE (i:=0) b;have y1:=aE (i:=1) b;have y2:=aE (i:=2) b;have y3:=aE (i:=3) b;have ad:=aH b;have S:=O A;clear f A q;go_wp21;rw[z];refine bodyPost_ret (v:=W1 #[Y 2,Q_ (bs g),Y v,Y L]) (by simp[results,results195,go_sem,z0,z1,z2,z3]) rfl ?_;have m:=uK r k kB hrb (Y 2) (Q_ (bs g)) (Y v) (Y L);refine⟨m.1,ea ⟨by show (dQ 0 g).isSome=Wm;rw[S];rfl,?_,m.2⟩⟩;show _=Ending.returned (W1 #[Y 2,Q_ (bs g),Y (vk ⟨48,g,L⟩),Y L]);grind[vk,dz]
  have k:Wu (SC d a (n+j) L B):=(f.block d (aH HS2)).trans HS2;have r:=O (HF2.trans (Fr.below f));have D:=O (yA d a (n+j) L B k);have S:=O A;clear f A q;go_wp2_with fail;refine rB D λw4 hw=>?_;obtain rfl:=hw.symm;go_wp2_with fail;rw[z];exact⟨i_,r,mz⟩
def IG{Z_:Prop}(Y_:Z_:=by
 go_in;go_wp2_with fail;go_quiet (fail);go_wp2_with fail;refine rB (HPL _) λw1 hw=>?_;obtain rfl:=hw.symm;go_wp2_with fail;refine rB (HPD _) λw1 hw=>?_;obtain rfl:=hw.symm;go_wp2_with fail;apply (HX _).mono;rintro e w2 ⟨hf2,⟨hok,rfl,hs2⟩|⟨hok,rfl⟩⟩;.have HF2:=O ((HF0.drewN _).trans hf2);have HS2:=O hs2;have HZ2:=O (hf2.xp (HZD _) hrb);have HOK:=O hok;have z0:=aB HZ2 (i:=0) i_;have z1:=aB HZ2 (i:=1) i_;have z2:=aB HZ2 (i:=2) i_;have z3:=aB HZ2 (i:=3) i_;have y0:=aE (i:=0) HZ2;have y1:=aE (i:=1) HZ2;have y2:=aE (i:=2) HZ2;have y3:=aE (i:=3) HZ2;have hzz:=aH HZ2;simp only[sZ];go_wp2;refine bodyPost_ret (v:=W1 #[Y (tf rr.c_),Q_ (bs rr.x_),Y (vk ⟨rr.c_,rr.x_,L⟩),Y L]) lw rfl ?_;have hfin:=uK HF2 HS2 kB hrb (Y (tf rr.c_)) (Q_ (bs rr.x_)) (Y (vk ⟨rr.c_,rr.x_,L⟩)) (Y L);exact⟨hfin.1,(by grind[sZ])⟩
 have HF2:=O ((HF0.drewN _).trans hf2);have HOK:=O hok;go_wp2_with fail;exact⟨i_,HF2,G_⟩):Z_:=Y_
def Rz(c:Nat)(a:ByteArray)(n L:Nat)(w:aL)(h:SC c a n L w)(s:vy w)(u:w_ w)(b:11<=c)(z:a.size<=100000)(m:n<a.size):Wn Ww 140 #[aW c] w (Dg c a n L w (cV ((dL a).drop n))):=by
 have y:=(SC.cells h).1;have hrb:H_ w≠c:=Z;have o:SC c a n L (dZ w #[Y 0,Q_ ⟨#[]⟩,Y 0,Y 0] 175):=by grind[SC,ed]
 obtain⟨A,C,D,E,B,F⟩:=o.cells;have HZD:Wu (∀q,xu ((dZ w #[Y 0,Q_ ⟨#[]⟩,Y 0,Y 0] 175).drewN q) (H_ w)):=λ_=>aS _ _ i_ _;have d:Fr c w (dZ w #[Y 0,Q_ ⟨#[]⟩,Y 0,Y 0] 175):=(Fr.refl _ _).alloc _;have HF0:=O d;have x:Wu (∀q,vy ((dZ w #[Y 0,Q_ ⟨#[]⟩,Y 0,Y 0] 175).drewN q)):=λq=>s.fr (d.drewN q) b;have r:Wu (∀q,w_ ((dZ w #[Y 0,Q_ ⟨#[]⟩,Y 0,Y 0] 175).drewN q)):=λq=>u.fr (d.drewN q) b;have l:=O o;have ⟨rr,hrr⟩:∃rr,rr=cV ((dL a).drop n):=(by simp);rw[<-hrr];have g:rr=if dM a[n]||eG a[n]then iX ((dL a).drop n) (eG a[n])else if a[n].toNat=34 then pC ((dL a).drop (n+1))else kC ((dL a).drop n):=by rw[hrr,gH a n m];rfl
 have f:=O g;have HPL:=O (FL a[n]);have HPD:=O (AN a[n]);clear h o s u hrr g d;cases j:eG a[n];cases k:dM a[n];by_cases p:a[n].toNat=34;have e:rr=pC ((dL a).drop (n+1)):=by grind[dz]
 have HX:=O (λq=>Pm c a n L ((dZ w #[Y 0,Q_ ⟨#[]⟩,Y 0,Y 0] 175).drewN q) l Z m);rw[<-e]at HX;rw[j]at HPL;rw[k]at HPD;have t:((a[n].toNat:Int)==34)=Wm:=G_;clear j k e f p;exact IG;have e:kC ((dL a).drop n)=rr:=by grind[dz]
 have HX:=O (λq=>Qp c a n L ((dZ w #[Y 0,Q_ ⟨#[]⟩,Y 0,Y 0] 175).drewN q) l (r q) Z m rr e);rw[j]at HPL;rw[k]at HPD;exact IG;have e:rr=iX ((dL a).drop n) Wl:=by rw[f,j,k];rfl
 have HX:=O (λq=>VQ c a n L ((dZ w #[Y 0,Q_ ⟨#[]⟩,Y 0,Y 0] 175).drewN q) l (x q) b z m k);rw[<-e]at HX;rw[j]at HPL;rw[k]at HPD;clear j k e f;exact IG;have e:rr=iX ((dL a).drop n) Wm:=by grind[dz]
 have HX:=O (λq=>Qk c a n L ((dZ w #[Y 0,Q_ ⟨#[]⟩,Y 0,Y 0] 175).drewN q) l Z Z);rw[<-e]at HX;rw[j]at HPL;clear j e f HPD;go_in;go_wp;go_quiet (fail);go_wp;refine rB (HPL _) λw1 hw=>?_;obtain rfl:=hw.symm;go_wp21;apply (HX _).mono;rintro e w2 ⟨hf2,⟨hok,rfl,hs2⟩|⟨hok,rfl⟩⟩;.have HF2:=O ((HF0.drewN _).trans hf2);have HS2:=O hs2;have HZ2:=O (hf2.xp (HZD _) hrb);have HOK:=O hok;have z0:=aB HZ2 (i:=0) i_;have z1:=aB HZ2 (i:=1) i_;have z2:=aB HZ2 (i:=2) i_;have z3:=aB HZ2 (i:=3) i_;have y0:=aE (i:=0) HZ2;have y1:=aE (i:=1) HZ2;have y2:=aE (i:=2) HZ2;have y3:=aE (i:=3) HZ2;simp[sZ];go_wp2;refine bodyPost_ret (v:=W1 #[Y (tf rr.c_),Q_ (bs rr.x_),Y (vk ⟨rr.c_,rr.x_,L⟩),Y L]) lw rfl ?_;have hfin:=uK HF2 HS2 kB hrb (Y (tf rr.c_)) (Q_ (bs rr.x_)) (Y (vk ⟨rr.c_,rr.x_,L⟩)) (Y L);exact⟨hfin.1,(by grind[sZ])⟩
 have HF2:=O ((HF0.drewN _).trans hf2);have HOK:=O hok;go_wp;exact⟨i_,HF2,G_⟩
def Vn:(prog.info? 175).map (λi=>(i.zero,i.size,i.bytes))=Wj (Wj (W1 #[Y 0,Q_ (bs []),Y 0,Y 0]),4,40):=k_
def PU(w:aL)(a b c d:aU):∀j u,([a,b,c,d]:List Wo)[j]?=Wj u->(dZ w #[a,b,c,d] 175).cell? ((⟨H_ w,0,Wk⟩:Addr).add j)=Wj u:=by intro j u e;match j,e with|0,e=>simp at e;subst e;simp[Addr.add]|1,e=>simp at e;subst e;simp[Addr.add]|2,e=>simp at e;subst e;simp[Addr.add]|3,e=>simp at e;subst e;simp[Addr.add]|j+4,e=>simp at e
def XH(l m n:Int)(b:ByteArray):∀u∈([Y l,Q_ b,Y m,Y n]:List Wo),u.oneCell'=Wm:=by intro u a;simp at a;rcases a with rfl|rfl|rfl|rfl<;>rfl
def Pt{i:List Wo}(h:y.ownsRow p e o q n i):∃x c,q=P_ x n c:=by rcases h.2 with ⟨f,k⟩|⟨g,j,d,f,_⟩;grind;grind
def AV(h:∀c∈j,c≠10):j.count 10=0:=(by grind)
def F5(l:bS)(h:(cV l).ok=Wm):(l.take (cV l).size).count 10=0:=by
 cases l with|nil=>simp|cons c r=>
  rw[cV]at h⊢;split;rw[MI];refine AV λx a=>?_;have:=lR _ _ x a;intro e;subst e;revert this;cases eG c<;>decide;rename_i f;rw[dy f]at h;split;rename_i b;rw[ec b]at h;have d:(decide (r[bO iI r]?=Wj 34)&&decide (bO iI r<=100))=Wm:=h;rw[Bool.and_eq_true,decide_eq_true_eq]at d;show ((c::r).take (bO iI r+1+1)).count 10=0;rw[List.take_succ_cons,List.take_add_one,d.1];refine AV λx a=>?_;rcases fe.1 a with rfl|a;intro e;rw[e]at b;grind;rcases fg.1 a with a|a;have:=lR _ _ x a;intro e;subst e;grind[iI];grind;unfold kC at h⊢;cases g:eM.find? (λo=>eF (c::r) o)with|none=>simp|some o=>
   have i:(c::r).take (aA o)=o:=by grind[eF,oF]
   have:∀o∈eM,o.count 10=0:=d_;grind
def Ta(x:Except Nat (List bE))(w:aL)(e:Ending)(w':aL):Prop:=cB w w'/\match x with|.error n=>e=gE 3 n|.ok ts=>∃v,e=bP v/\w'.ownsRow (w.heap.size+1) 175 4 v (aA ts) (ur ts)
def Ee(src:ByteArray)(w:aL)(TS:Except Nat (List bE))(gk:Nat)(v:aU)(wr:aL):Prop:=∃(k f:Nat) (ts:List bE),k<=src.size/\src.size+1<=k+f/\src.size<=k+gk/\aA ts<=k/\SC w.heap.size src k (bD (src.data.toList.take k)) wr/\Fr w.heap.size w wr/\wr.ownsRow (w.heap.size+1) 175 4 v (aA ts) (ur ts)/\TS=jN ts (fC f (src.data.toList.take k) (src.data.toList.drop k))
def Fr.yt{a:aL}(h:Fr (H_ y) y a):cB y a:=⟨h.os,h.tape,h.output,h.size,(by grind[Fr.block])⟩
def Sd(a:ByteArray)(w:aL)(hg:vy w)(V:w_ w)(hs:a.size<=2000):Wn Ww 84 #[WD a] w (Ta (gS a.data.toList) w):=by
 obtain⟨i0,hi,S,ac,aa⟩:=info_parts Vn;have u:=hg.yh;have h0:SC w.heap.size a 0 (bD (a.data.toList.take 0)) (h_ w (Xe #[WD a,Y 0,Y 1] 253)):=aS _ _ i_ _;have g:=O (WG w.heap.size a 0 (h_ w (Xe #[WD a,Y 0,Y 1] 253)) h0 Z (Z));simp only[List.drop_zero,gp]at g;obtain⟨K,A⟩:∃K,K=cJ a.size a.data.toList:=(by simp);have ad:K<=a.size:=by have:=rS a.size a.data.toList;rw[A];simpa using this
 rw[<-A]at g;have ⟨z,p⟩:∃z,z=gS a.data.toList:=(by simp);have t:Wu (z=fC (a.size+1) (a.data.toList.take K) (a.data.toList.drop K)):=by show _=_;rw[p];unfold gS;rw[show aA a.data.toList=a.size by simp,<-A]
 rw[<-p];have ap:Wu (Fr w.heap.size w (h_ w (Xe #[WD a,Y 0,Y 1] 253))):=(Fr.refl _ _).alloc _;have HG:=O hg;have HM:=O V;clear h0 hg V A p;go_in;go_wp;apply g.out.mono;rintro e w1 ⟨rfl,aq,ay⟩;have HI:Wu (Ee a w z a.size (bR) w1):=⟨K,a.size+1,[],ad,Z,Z,s_,aq,ap.out.trans ay,Wh _ _ _ _,by rw[t.out,wZ]⟩;go_wp2;go_loopg [4] a.size (λgk v wr=>Ee a w z gk v wr);case atStart=>exact HI.out
 case round=>
  obtain⟨k,f,y,hk,hf,bb,ba,E,H,l,p⟩:=hrel;obtain⟨h0,c0,c1,c2,f1,f2⟩:=E.cells;have az:=H.size;have av:=O E;have q:=O H;have t:=O p;obtain⟨x,c,rfl⟩:=Pt l;have hge:=cA l;clear HI E H p;by_cases Q:k<a.size
  .obtain⟨f,rfl⟩:∃f',f=f'+1:=⟨f-1,Z⟩;obtain⟨j,rfl⟩:∃j,gk=j+1:=⟨gk-1,Z⟩;have hlt':=im Z;have hl:aA (a.data.toList.drop k)=a.size-k:=s_;have N:=O (Rz w.heap.size a k (bD (a.data.toList.take k)) wr av.out (HG.out.fr q.out u) (HM.out.fr q.out u) u Z Q);cases o:(cV (a.data.toList.drop k)).ok
   .have T:Wu (z=.error (bD (a.data.toList.take k))):=by rw[t.out,BE _ _ _ Z o];rfl
    have G:=O o;generalize bD (a.data.toList.take k)=L at*;go_wp;apply N.out.mono;rintro e w2 ⟨B,⟨d,_,_⟩|⟨d,rfl⟩⟩;rw[G.out]at d;cases d;have I:=O (q.out.trans B);go_wp;rw[T.out];exact⟨i_,I.out.yt,i_⟩
   have af:=uL _ o;rw[hl]at af;have aw:=F5 _ o;have ⟨m,V⟩:∃m,m=k+(cV (a.data.toList.drop k)).size+cJ a.size (a.data.toList.drop (k+(cV (a.data.toList.drop k)).size)):=(by simp);have am:m<=a.size:=by grind[rS]
   have HT:=VP a k f Q o m V;have T:Wu (z=jN (y++[{c_:=(cV (a.data.toList.drop k)).c_,x_:=(cV (a.data.toList.drop k)).x_,l_:=bD (a.data.toList.take k)}]) (fC f (a.data.toList.take m) (a.data.toList.drop m))):=by show _=_;rw[t.out,HT,vQ]
   have ag:bD (a.data.toList.take (k+(cV (a.data.toList.drop k)).size))=bD (a.data.toList.take k):=by rw[List.take_add,tX,aw];rfl
   have g:=O (λW (hW:SC w.heap.size a (k+(cV (a.data.toList.drop k)).size) (bD (a.data.toList.take (k+(cV (a.data.toList.drop k)).size))) W)=>WG w.heap.size a _ W hW Z Z);rw[ag]at g;simp[<-V]at g;have G:=O o;generalize cV (a.data.toList.drop k)=r at*;obtain⟨pa,J⟩:∃pa,pa=tf r.c_:=(by simp);obtain⟨pb,C⟩:∃pb,pb=vk ⟨r.c_,r.x_,bD (a.data.toList.take k)⟩:=(by simp);have an:Wu (sZ ⟨r.c_,r.x_,bD (a.data.toList.take k)⟩=W1 #[Y pa,WD (bs r.x_),Y pb,Y (bD (a.data.toList.take k))]):=by rw[J,C];rfl
   have ak:Wu (Au ⟨r.c_,r.x_,bD (a.data.toList.take k)⟩=[Y pa,WD (bs r.x_),Y pb,Y (bD (a.data.toList.take k))]):=by rw[J,C];rfl
   clear J C;generalize bD (a.data.toList.take k)=L at*;have al:=O hge;have ab:=O l;go_wp;apply N.out.mono;rintro e w2 ⟨B,⟨d,rfl,P⟩|⟨d,rfl⟩⟩;rotate_left;rw[G.out]at d;cases d;rw[an.out];have D:=aX (w1:=w2) ab.out λi hi=>B.block i (dT ab.out i hi) (by have:=al.out i hi;exact Z);have I:=O (q.out.trans B);have ai:=O P;have X:=aH P;go_wp2_with (at_builtin;refine wpList_append_lies _ r_ _ _ 99 r_ (w.heap.size+1) 175 i0 _ 4 40 underlying99 hi S ac aa rfl d_ _ _ _ r_ (D.alloc _) (aJ w2.heap.size 0) 1 1 [Y pa,WD (bs r.x_),Y pb,Y L] r_ r_ (PU _ _ _ _ _) (XH _ _ _ _) d_ ky Z ku (w2.heap.size+1) s_ ?_);intro g7 n M s b ae ao;have F:=O ((I.out.alloc _).grown b (G_));have ax:Wu (SC w.heap.size a (k+r.size) L M):=by show _=_;rw[b.block _ ku (G_),ed _ _ _ X];exact ai.out
   have U:Wu (M.ownsRow (w.heap.size+1) 175 4 (.slice (Wj (aJ g7 0)) (aA y+1) n) (aA (y++[(⟨r.c_,r.x_,L⟩:bE)])) (ur (y++[⟨r.c_,r.x_,L⟩]))):=by rw[JR,ak.out,et];grind
   have au:=O (g.out M ax.out);go_wp;apply au.out.mono;rintro e w8 ⟨rfl,aj,ah⟩;have ar:Wu (Ee a w z j (.slice (Wj (aJ g7 0)) (aA y+1) n) w8):=by refine⟨m,f,y++[⟨r.c_,r.x_,L⟩],am,Z,Z,G_,aj,F.out.trans ah,?_,T.out⟩;grind[aX,dz,Fr.block,dT,cA]
   go_wp2;go_roundg j;case measure=>exact Z
   case rel=>exact ar.out
  obtain⟨f,rfl⟩:∃f',f=f'+1:=⟨f-1,Z⟩;have T:Wu (z=.ok (y++[{c_:=101,x_:=[],l_:=bD (a.data.toList.take k)}])):=by rw[t.out,rL _ _ _ ku];rfl
  have hlt':=gi Z;generalize bD (a.data.toList.take k)=L at*;go_wp2_with (at_builtin;refine wpList_append_lies _ r_ _ _ 99 r_ (w.heap.size+1) 175 i0 _ 4 40 underlying99 hi S ac aa rfl d_ _ _ _ r_ (l.alloc _) (aJ wr.heap.size 0) 1 1 [Y 4,WD ⟨#[]⟩,Y 0,Y L] r_ r_ (PU _ _ _ _ _) (XH _ _ _ _) d_ ky Z ku (wr.heap.size+1) s_ ?_);intro g7 n M s b ae ao;have F:=O ((q.out.alloc _).grown b (G_));have U:Wu (M.ownsRow (w.heap.size+1) 175 4 (.slice (Wj (aJ g7 0)) (aA y+1) n) (aA (y++[(⟨101,[],L⟩:bE)])) (ur (y++[⟨101,[],L⟩]))):=by rw[JR,et];exact s
  go_wp2;go_ret;rw[T.out];exact⟨F.out.yt,_,i_,U.out⟩
def P8(a:ByteArray)(w:aL)(_hs:a.size<=maxLen):Wn Ww 82 #[WD a] w λe b=>b=w/\((a.size<=2000/\e=eV)\/(2000<a.size/\e=gE 1 0)):=by
 by_cases h:a.size<=2000;.go_in;go_wp2;go_end0;grind
 go_in;go_wp2_with (refine rB (kT 1 0 _) λd c=>?_);exact⟨i_,i_,G_⟩
def SU{x:UInt8}(h:x∈j.take p):∃i,i<p/\j[i]?=Wj x:=by have ⟨i,hi,e⟩:=jz.1 h;have a:=hi;rw[ia]at a;refine⟨i,Z,?_⟩;grind
def B1{l:bS}(h:2<=bW l):(l.take (bW l)).count 10=0:=by
 refine AV λx c=>?_;obtain⟨i,a,e⟩:=SU c;suffices 128<=x.toNat by intro e;rw[e]at this;grind
 revert h a;unfold bW;cases d:l[0]? with|none=>simp|some b=>grind[jB]
theorem RM(n a b c d:Nat)(e:a<256):(Lib.decodeN n a b c d).1<=1114111:=by grind[Lib.decodeN]
def Ij(a:ByteArray)(k:Nat)(d:k<a.size):∃r z,Lib.decodeGo (a.extract k a.size)=(r,z)/\r<=1114111/\((bW (a.data.toList.drop k)=0/\r=65533/\z=1)\/(bW (a.data.toList.drop k)≠0/\z=bW (a.data.toList.drop k)/\¬(r=65533/\z=1)/\(r=10↔a[k].toNat=10))):=by
 have b:(a.extract k a.size).size=a.size-k:=s_;have c:((a.extract k a.size).get! 0).toNat=a[k].toNat:=by grind[uA,ByteArray.getElem_extract]
 grind[Vb,sH,Lib.decodeGo,Lib.decode_at,Sm,UInt8.toNat_lt,RM]
def JA{b:aL}(h:Lib.Utf8Tabs 1 2 y)(a:cB y b)(f:11<=y.heap.size):Lib.Utf8Tabs 1 2 b:=⟨λc e=>(a.cell (p:=(aJ 1 c)) G_).trans (h.1 c e),λi d=>⟨(a.cell (p:=(aJ 2 (2*i))) G_).trans (h.2 i d).1,(a.cell (p:=(aJ 2 (2*i+1))) G_).trans (h.2 i d).2⟩⟩
def l9(x:Option Nat)(l:bS)(w:aL)(e:Ending)(w':aL):Prop:=cB w w'/\match x with|none=>e=eV|some k=>e=gE 2 (bD (l.take k))
def Ut(a:ByteArray)(w:aL)(F:Lib.Utf8Tabs 1 2 w)(T:11<=w.heap.size)(hs:a.size<=2000):Wn Ww 83 #[WD a] w (l9 (dS a.size a.data.toList 0) a.data.toList w):=by
 have K:=O F;have ⟨X,hX⟩:∃X,X=dS a.size a.data.toList 0:=(by simp);rw[<-hX];have M:Wu (X=dS a.size (a.data.toList.drop 0) 0):=hX;clear F hX;go_in;go_wp2;go_loopg [2,3,4,5] a.size (λgk lv iv _ _ wr=>∃k f:Nat,k<=a.size/\a.size<=k+f/\a.size<=k+gk/\iv=Y k/\lv=Y (bD (a.data.toList.take k))/\cB w wr/\Wu (X=dS f (a.data.toList.drop k) k));case atStart=>grind[dw,bD]
 case round=>
  obtain⟨k,f,hk,hf,Q,rfl,rfl,E,H⟩:=hrel;have hL:bD (a.data.toList.take k)<=k+1:=by grind[List.length_take_le,bD]
  have m:=O E;by_cases g:k<a.size
  .obtain⟨f,rfl⟩:∃V,f=V+1:=⟨f-1,Z⟩;obtain⟨j,rfl⟩:∃j,gk=j+1:=⟨gk-1,Z⟩;have o:0<aA (a.data.toList.drop k):=by simp;exact Z
   have ⟨r,z,hD,hr,hc⟩:=Ij a k g;have t:=O (utf8_DecodeRuneInString (a.extract k a.size) wr (JA K E T));rw[hD]at t;rcases hc with ⟨n,rfl,rfl⟩|⟨n,i,N,b⟩
   .have q:Wu (X=Wj k):=by grind[dS]
    generalize u:bD (a.data.toList.take k)=L at*;have J:=O u;go_wp21;refine rB t λD c=>?_;have d:=O (m.trans (c.mono m.size));go_wp2_with (go_at_call 88;refine rB (kT 2 L _) λw3 U=>?_;obtain rfl:=U.symm);rw[q];exact⟨i_,d,G_⟩
   have q:Wu (X=dS f (a.data.toList.drop (k+z)) (k+z)):=by show _=_;rw[H,BK _ _ _ o n,jr,<-i]
   have S:z<=a.size-k:=by rw[i];have:=yM (a.data.toList.drop k);simpa using this
   have B:bD (a.data.toList.take (k+z))=bD (a.data.toList.take k)+if r=10 then 1 else 0:=by
    by_cases h2:2<=z;have C:=B1 (l:=a.data.toList.drop k) Z;rw[<-i]at C;rw[List.take_add,tX,C];rw[dy];intro e;have P:=b.1 e;have h5:a[k]∈(a.data.toList.drop k).take z:=by rw[gH a k g];obtain⟨y,rfl⟩:∃y,z=y+1:=⟨z-1,Z⟩;simp
    exact List.count_eq_zero.1 C (by have:a[k]=10:=js.1 P;grind);obtain rfl:z=1:=Z;rw[QC a k g];congr 1;by_cases s:r=10;rw[ec s,ec (js.1 (b.1 s))];rw[dy s,dy λe=>s (b.2 rp)]
   have v:=O B;generalize bD (a.data.toList.take k)=L at*;have p:((r:Int)==65533)=Wl\/((r:Int)==65533)=Wm/\((z:Int)==1)=Wl:=by grind
   have I:aA (a.data.toList.drop k)=a.size-k:=s_;by_cases A:r=10
   .have W:((r:Int)==10)=Wm:=G_;have G:((r:Int)==65533)=Wl:=G_;have x:Wu (bD (a.data.toList.take (k+z))=L+1):=G_;go_wp;refine rB t λD c=>?_;have d:=O (m.trans (c.mono m.size));go_wp2;go_roundg j;case measure=>exact Z
    case rel=>exact⟨k+z,f,Z,Z,Z,lj,G_,d,q⟩
   have W:((r:Int)==10)=Wl:=G_;have x:Wu (bD (a.data.toList.take (k+z))=L):=by rw[v,dy A];rfl
   rcases p with G|⟨G,e3⟩;all_goals
    go_wp;refine rB t λD c=>?_;have d:=O (m.trans (c.mono m.size));go_wp2;go_roundg j;case measure=>exact Z
    grind[dz]
  have q:Wu (X=Wk):=by show _=_;rw[H,FA _ _ _ ku]
  have hlt':=gi Z;generalize bD (a.data.toList.take k)=L at*;go_wp2;go_end0;grind[dz,l9]
structure lI(w:aL):Prop where
 n:vy w
 p:w_ w
 u:Lib.Utf8Tabs 1 2 w
def lI.below{c:aL}(h:lI y)(a:cB y c):lI c:=⟨h.n.fr (sb:=y.heap.size) ⟨a.os,a.tape,a.output,a.size,λk b _=>a.block k b⟩ h.n.yh,h.p.fr (sb:=y.heap.size) ⟨a.os,a.tape,a.output,a.size,λk b _=>a.block k b⟩ h.n.yh,JA h.u a h.n.yh⟩
def rz.uu{k:aC}(h:Hs.rz p g)(a:k∈g.y_):Hs.rz p k:=λd=>by have b:=h (d+1);grind[cT,AF,vH]
def rz.y_{m:Nat}{f:aC}(h:Hs.rz m f)(d:Nat):aA f.y_<=m/\(f.y_.map (cT d)).sum<=m:=by have b:=(h (d+1)).1;have a:=(h 2).1;grind[cT,qB]
theorem JZ(l:bS):eA l=match jI l with|.error f=>.error f|.ok a=>match lZ a with|.error n=>.error (4,n)|.ok (b,_)=>.ok b:=by grind[eA,jI]
def GU{a:List bE}(h:jI j=.ok a):gS j=.ok a/\aA j<=2000:=by grind[jI]
def OR{f:Nat×Nat}(h:jI j=.error f):f.1≠0:=by grind[jI]
def L4(l:bS)(w:aL)(e:Ending)(w':aL):Prop:=cB w w'/\match jI l with|.error f=>e=gE f.1 f.2|.ok ts=>∃v,e=bP (W1 #[v,Y 0])/\w'.ownsRow w.heap.size 175 4 v (aA ts) (ur ts)
def PP(l:bS)(w:aL)(e:Ending)(w':aL):Prop:=cB w w'/\((dP l=(0,0)/\∃v ks,e=bP v/\eA l=.ok ks/\vo (si w.heap.size w'.heap.size) w' v ks)\/((dP l).1≠0/\e=gE (dP l).1 (dP l).2))
def N7(d:Nat)(h:xF r=Wl)(b:∀f∈r,1<=aA f.y_):lJ d r=(5,0):=by grind[lJ,xF,qA]
def Mq(d:Nat)(h:xF r=Wm):lJ d r=((eU r d [] r ⟨[],0,0⟩).kind,(eU r d [] r ⟨[],0,0⟩).l_):=by grind[lJ,xF,qA]
theorem vo.grow{F G:bI}{d:aL}{fs:List aC}(h:vo F y q fs)(i:∀b,F b->d.heap[b]?=y.heap[b]?)(e:∀b,F b->G b):vo G d q fs:=by rcases h with h|⟨g,a,c,n,k,f,o,j,l,m⟩;exact ea h;exact dv ⟨g,a,c,n,k,e g f,G_,j,l,m.mono λ_ _ h=>h.j_ i e⟩
def Fb{c:List bE}(h:y.ownsRow p 175 4 q (aA c) (ur c))(i:0<aA c):∃g d a,q=P_ (Wj (aJ g 0)) (aA c) d/\p<=g/\aA c<=d/\y.heap[g]?=Wj (bM a 175)/\a.toList.take (aA c*4)=ur c:=by rcases h.2 with ⟨f,e⟩|⟨g,d,a,f,e,l,j,n,k,m⟩;exact Z;grind
def BS(b:ByteArray)(w:aL)(S:lI w)(hs:b.size<=maxLen):Wn Ww 47 #[Q_ b] w (L4 b.data.toList w):=by
 have C:aA b.data.toList=b.size:=s_;have ⟨l,hl⟩:∃l,l=b.data.toList:=(by simp);rw[<-hl]at C⊢;have ⟨t,hw0⟩:∃t,t=h_ w (bM #[bR,Y 0] 101):=(by simp);have s:cB w t:=by grind[eo,dw]
 have j:t.heap[w.heap.size]?=Wj (bM #[bR,Y 0] 101):=by grind[aS]
 have V:t.heap.size=w.heap.size+1:=by rw[hw0];simp
 have K:=O (P8 b t hs);have W:=O hl;have H:=O (S.below s);have d:=O s;have ab:=O j;have J:=O hw0;clear hl S s j hw0;go_in;go_wp;rw[<-J];apply K.mono;rintro e P ⟨U,⟨r,rfl⟩|⟨r,rfl⟩⟩;rotate_left
 .obtain rfl:=U.symm;have u:Wu (jI l=.error (1,0)):=by show _=_;grind[jI]
  go_wp21;exact⟨i_,d,by rw[u];rfl⟩
 obtain rfl:=U.symm;have X:=O (Ut b t H.u H.n.yh r);rw[<-W,<-C]at X;have T:¬2000<aA l:=Z;go_wp21;refine X.mono ?_;rintro e P ⟨p,o⟩;cases F:dS (aA l) l 0 with
 |some k=>
  rw[F]at o;obtain rfl:e=gE 2 (bD (l.take k)):=o;have u:Wu (jI l=.error (2,bD (l.take k))):=by show _=_;grind[jI]
  have f:=O (d.trans (p.mono d.size));go_wp21;exact⟨i_,f,by rw[u];rfl⟩|none=>
  rw[F]at o;obtain rfl:e=eV:=o;have B:=O (Sd b P (H.below p).n (H.below p).p r);rw[<-W]at B;have f:=O p;have N:jI l=match gS l with|.error n=>.error (3,n)|.ok G=>.ok G:=by grind[jI]
  have aa:=O N;go_wp21;refine B.mono ?_;rintro e w2 ⟨D,m⟩;cases y:gS l with|error n=>rw[y]at m;obtain rfl:e=gE 3 n:=m;have u:Wu (jI l=.error (3,n)):=G_;have E:=O (d.trans ((f.trans (D.mono f.size)).mono d.size));go_wp;exact⟨i_,E,G_⟩|ok G=>
   rw[y]at m;obtain⟨v,rfl,q⟩:=m;obtain⟨x,c,rfl⟩:∃x c,v=P_ x (aA G) c:=by rcases q.2 with ⟨I,r2⟩|⟨g,z,A,I,_⟩;grind;grind
   have u:Wu (jI l=.ok G):=G_;have Q:=f.size;have a:w2.heap[w.heap.size]?=Wj (bM #[bR,Y 0] 101):=by grind[ej,dz]
   have m0:=aB a (i:=0) i_;have m1:=aB a (i:=1) i_;have fz:=aE a (i:=0);have ac:=aE a (i:=1);have E:=O (d.trans ((f.trans (D.mono f.size)).mono d.size));have L:=O q;go_wp2;apply bodyPost_ret (v:=W1 #[P_ x (aA G) c,Y 0]) (by simp[results,results47,go_sem,m0,m1]) rfl;refine⟨(by grind[Below.setCell,dz]),?_⟩;rw[u];refine⟨_,i_,?_⟩;have M:=L.out;rcases M.2 with hn|⟨g,z,A,I,r2,r3,r4⟩;exact⟨M.1,ea hn⟩;refine⟨M.1,dv ⟨g,z,A,I,Z,?_,r4⟩⟩;grind[eh]
def Iw(o:ByteArray)(w:aL)(hT:lI w)(hs:o.size<=maxLen):Wn Ww 15 #[Q_ o] w (PP o.data.toList w):=by
 have K:=O (BS o w hT hs);have ⟨l,hl⟩:∃l,l=o.data.toList:=(by simp);rw[<-hl]at K⊢;clear hl hT;go_in;go_wp;apply K.mono;rintro e I ⟨M,A⟩;cases j:jI l with
 |error f=>
  rw[j]at A;obtain rfl:e=gE f.1 f.2:=A;have W:Wu (dP l=f):=by show _=_;grind[dP,JZ]
  have HK:=O (OR j);have u:=O M;go_wp;exact⟨i_,u,mz⟩|ok D=>
  rw[j]at A;obtain⟨v,rfl,T⟩:=A;have U:=(GU j).1;have aq:=(GU j).2;have i:=nS U;have ag:eA l=match lZ D with|.error n=>.error (4,n)|.ok (a,_)=>.ok a:=by rw[JZ,j]
  have ar:=O ag;obtain⟨g,r,aa,rfl,hg,J,C,V⟩:=Fb T i.1.some_;have ac:=aH C;have am:ud ⟨I.heap.size,g,r,D⟩ (dZ I #[P_ (Wj (aJ g 0)) (aA D) r,Y 0] 101) 0:=⟨aS _ _ rfl _,⟨aa,iA _ _ ac _ C,V⟩,G_,i.1.some_,G_,J,i.1,ET U⟩;have HP:=O (WS ⟨I.heap.size,g,r,D⟩ (dZ I #[P_ (Wj (aJ g 0)) (aA D) r,Y 0] 101) am (bG.prog i.1.ok i.1.some_));have u:=O M;go_wp21;apply HP.mono;rintro e w3 ⟨t,y⟩;have ah:cB I w3:=⟨t.os.trans i_,t.tape.trans i_,t.output.trans i_,em s_ t.size,(by grind[Fr.block,ed])⟩;have p:=O (u.trans (ah.mono u.size));cases Q:lZ D with
  |error n=>
   rw[Q]at y;obtain rfl:e=gE 4 n:=y;have W:Wu (dP l=(4,n)):=by grind[dP]
   go_wp;exact⟨i_,p,by grind[dP]⟩|ok kq=>
   have ⟨a,q⟩:=kq;rw[Q]at y;obtain⟨_,v3,rfl,ak⟩:=y;have N:eA l=.ok a:=G_;have d:=nC N;have W:Wu (dP l=lJ 2001 a):=by grind[dP]
   have au:=sa.len d;have S:∀f∈a,aA f.y_<=90000:=λf L=>by have:=(rz.y_ (sa.mem d L) 0).1;exact Z
   have ai:∀f∈a,∀k∈f.y_,fN 2001 k:=λf L k hk=>nW 2001 k (rz.uu (sa.mem d L) hk);have ad:∀f∈a,aA f.y_+(f.y_.map (cT 2001)).sum<=90000:=λf L=>by have:=rz.y_ (sa.mem d L) 2001;exact Z
   have hfs:=ak;obtain⟨fx,fc,rfl⟩:∃x c,v3=P_ x (aA a) c:=by grind[vo.cells,r8]
   have X:=O hfs.y_;have HM:=O (W4 a _ _ w3 Z S hfs);have ao:=O hfs;have af:=O S;have an:=O ai;have ab:=O ad;have ae:=O N;go_wp21;apply HM.mono;rintro e w4 ⟨B,⟨E,rfl⟩|⟨E,rfl⟩⟩;rotate_left
   .have m:=O (p.trans (B.mono p.size));have H:Wu (dP l=(5,0)):=by show _=_;rw[W,N7 2001 E X]
    go_wp;exact⟨i_,m,by rw[H];simp⟩
   have m:=O (p.trans (B.mono p.size));have H:Wu (dP l=((eU a 2001 [] a ⟨[],0,0⟩).kind,(eU a 2001 [] a ⟨[],0,0⟩).l_)):=by show _=_;rw[W,Mq 2001 E]
   have HN:=O (A6 (dZ I #[P_ (Wj (aJ g 0)) (aA D) r,Y 0] 101).heap.size a (P_ fx (aA a) fc) w4 2001 Z af ((by grind[vo.grow,ej,Nat.lt_of_lt_of_le,Below.size,si,r8])) an ab);have aj:=O (ao.grow (G:=si w.heap.size w4.heap.size) (λb s=>B.block b s.2) λb s=>⟨by have h1:=s.1;simp at h1;exact Z,ef s.2 B.size⟩);generalize (eU a 2001 [] a ⟨[],0,0⟩).kind=kd at*;generalize (eU a 2001 [] a ⟨[],0,0⟩).l_=ld at*;go_wp21;apply HN.mono;rintro e w5 ⟨z,⟨P,aw,rfl⟩|⟨P,rfl⟩⟩;.have F:=O (m.trans (z.mono m.size));have ap:Wu (dP l=(0,0)):=G_;have al:=O (aj.grow (G:=si w.heap.size w5.heap.size) (λb s=>z.block b s.2) λb s=>⟨s.1,ef s.2 z.size⟩);go_wp2;go_ret;exact⟨F,ea ⟨ap,_,a,i_,ae,al⟩⟩
   have F:=O (m.trans (z.mono m.size));have av:=O P;go_wp;exact⟨i_,F,by rw[H];grind⟩
def xG{o:Obj}(h:y.heap[p]?=Wj o):p<H_ y:=by grind
def qV{i:Nat}{c:Array Wo}(h:y.heap[p]?=Wj (bM c e))(a:c[i]?=Wj q):y.cell? (aJ p i)=Wj q:=by simp[World.cell?,h,a]
def uU{i:Nat}{c:Array Wo}(h:y.heap[p]?=Wj (bM c e)):y.frozen? (aJ p i)=Wl:=by simp[World.frozen?,h]
def Hu(p q k n:Nat)(w:World)(a:w.heap[p]?=Wj (Xe #[Xd .i64 0] 32 (0,0)))(b:w.heap[q]?=Wj (Xe #[Xd .i64 0] 3 (0,0)))(d:p<q):Below p w (h_ (c9 (c9 w ⟨p,0,Wk⟩ (Xd .i64 k)) ⟨q,0,Wk⟩ (Xd .i64 n)) (Xe #[Xd .i64 k,Xd .i64 n] 98)).drew/\(h_ (c9 (c9 w ⟨p,0,Wk⟩ (Xd .i64 k)) ⟨q,0,Wk⟩ (Xd .i64 n)) (Xe #[Xd .i64 k,Xd .i64 n] 98)).drew.cell? ⟨p,0,Wk⟩=Wj (Xd .i64 k)/\(h_ (c9 (c9 w ⟨p,0,Wk⟩ (Xd .i64 k)) ⟨q,0,Wk⟩ (Xd .i64 n)) (Xe #[Xd .i64 k,Xd .i64 n] 98)).drew.cell? ⟨q,0,Wk⟩=Wj (Xd .i64 n):=by
 have f:w.cell? ⟨p,0,Wk⟩=Wj (Xd .i64 0):=qV a rfl;have g:w.cell? ⟨q,0,Wk⟩=Wj (Xd .i64 0):=qV b rfl;have c:=xG a;have e:=xG b;refine⟨((((dw p w).setCell (s_) _).setCell (G_) _).alloc ku _).drew,?_,?_⟩;.simp[go_sem,f,c]
 simp[go_sem,g,e]
def Qb(p q k n:Nat)(w:World)(a:w.heap[p]?=Wj (Xe #[Xd .i64 0] 32 (0,0)))(b:w.heap[q]?=Wj (Xe #[Xd .i64 0] 3 (0,0)))(d:p<q):Below p w (h_ (c9 (c9 w ⟨q,0,Wk⟩ (Xd .i64 n)) ⟨p,0,Wk⟩ (Xd .i64 k)) (Xe #[Xd .i64 k,Xd .i64 n] 98)).drew/\(h_ (c9 (c9 w ⟨q,0,Wk⟩ (Xd .i64 n)) ⟨p,0,Wk⟩ (Xd .i64 k)) (Xe #[Xd .i64 k,Xd .i64 n] 98)).drew.cell? ⟨p,0,Wk⟩=Wj (Xd .i64 k)/\(h_ (c9 (c9 w ⟨q,0,Wk⟩ (Xd .i64 n)) ⟨p,0,Wk⟩ (Xd .i64 k)) (Xe #[Xd .i64 k,Xd .i64 n] 98)).drew.cell? ⟨q,0,Wk⟩=Wj (Xd .i64 n):=by
 have f:w.cell? ⟨p,0,Wk⟩=Wj (Xd .i64 0):=qV a rfl;have g:w.cell? ⟨q,0,Wk⟩=Wj (Xd .i64 0):=qV b rfl;have c:=xG a;have e:=xG b;refine⟨((((dw p w).setCell (G_) _).setCell (s_) _).alloc ku _).drew,?_,?_⟩;.simp[go_sem,f,c]
 simp[go_sem,g,e]
def Jy(v:aU)(w:aL):(typeAssert (dA 98 v) 20 98 Wm).run Ww w=.ok (Xa #[v,.bool Wm]) w:=k_
def B3(p q k n:Nat)(a:List PanicEntry)(w:aL)(c:w.heap[p]?=Wj (bM #[Y 0] 32))(b:w.heap[q]?=Wj (bM #[Y 0] 3))(d:p<q):CallsD Ww 46 #[aW p,aW q] (.panicking ({v:=dA 98 (W1 #[Y k,Y n]),recovered:=Wl}::a)) w λe x f=>e=eV/\x=.panicking ({v:=dA 98 (W1 #[Y k,Y n]),recovered:=Wm}::a)/\Below p w f/\eJ f p 0 (Y k)/\eJ f q 0 (Y n):=by have I:=qV c (i:=0) i_;have F:=qV b (i:=0) i_;have C:=uU (i:=0) c;have D:=uU (i:=0) b;have G:=xG c;have H:=xG b;have B:=Jy;refine callsD_of_wpS func46 i_ λs E z=>?_;apply wpS_seq;apply wpS_region;simp[wpOpsS,go_sem,recoverD,z,ntmps46,Exit.thenS];refine wpS_of_wp ?_;have u:¬p=q:=Z;have A:¬q=p:=Z;have y:¬p=H_ w:=Z;have t:¬q=H_ w:=Z;obtain⟨r,l,o⟩:=Hu p q k n w c b d;obtain⟨g,m,j⟩:=Qb p q k n w c b d;clear c b;go_wp2;go_region;all_goals go_wp2_with fail;first|exact⟨i_,_,i_,Xa #[],qq,rfl,rfl,r,l,o⟩|exact⟨i_,_,i_,Xa #[],qq,rfl,rfl,g,m,j⟩
def X1(p q:Addr)(w:aL):CallsD Ww 46 #[.pointer (Wj p),.pointer (Wj q)] .returning w λe d c=>e=eV/\d=.returning/\c=w:=by refine callsD_of_wpS func46 i_ λa f b=>?_;apply wpS_seq;apply wpS_region;simp[wpOpsS,go_sem,recoverD,b,ntmps46,Exit.thenS];apply wpS_of_wp;go_wp;exact⟨i_,a.mode,i_,Xa #[],qq,rfl,b,rfl⟩
theorem oP(w:aL)(o a:Obj):((w.alloc o).alloc a).heap[w.heap.size]?=Wj o:=by rw[ed _ _ _ s_];show (w.heap.push o)[w.heap.size]?=_;simp
theorem lS(w:aL)(o a:Obj):((w.alloc o).alloc a).heap[w.heap.size+1]?=Wj a:=by grind[World.alloc]
def KI(b:Fn)(first a:Array Wo)(w:aL):(Instr.makeFunc b first a).run Ww w=.ok (.func b first a) w:=rfl
