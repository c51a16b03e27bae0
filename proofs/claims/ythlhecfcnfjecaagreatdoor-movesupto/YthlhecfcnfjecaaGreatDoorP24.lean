import Derived.Test.YthlhecfcnfjecaaGreatDoorP23
import Derived.Test.YthlhecfcnfjecaaGreatDoorP22
set_option linter.all false
set_option maxRecDepth 100000
set_option maxHeartbeats 0
open List renaming length->aA
open Go.World renaming setCell->c9,alloc->i9,cell?->I_,ownsRow_nil->Ww
open Option renaming some->Wy,none->Wz
open Bool renaming false->WD
open Go renaming Calls->W_,Value->Xa,World->Xb,TypeId->Xd,Addr->Xe
open Go.RowKit renaming Hid->Xg
open Go.Proofs.Tryz renaming prog->Xi
open Go.Value renaming slice->Xl,string->Xm,agg->Xn,pointer->Xo
open Go.Obj renaming cells->Xt
namespace Go.Proofs.YthlhecfcnfjecaaGreatDoor
open Hs _root_.Go.Proofs.Tryz Go.RowKit
variable{c:List aC}{R:Nat}{W w:aN}{g:aX}{F:bL}{a:iJ}
def G6(l:Int)(a b c:aX)(w:aN):(Go.method 598 331 (Xn #[Y l,a,b,c]) "Line").run Xi w=.ok (146,Xn #[Y l]) w:=k_
def Sn(l:Int)(a b c:aX)(w:aN):(Go.method 598 334 (Xn #[Y l,a,b,c]) "Line").run Xi w=.ok (146,Xn #[Y l]) w:=k_
def SW(l:Int)(a b c:aX)(w:aN):(Go.method 598 336 (Xn #[Y l,a,b,c]) "Line").run Xi w=.ok (146,Xn #[Y l]) w:=k_
def Qu(l:Int)(a b:aX)(w:aN):(Go.method 598 338 (Xn #[Y l,a,b]) "Line").run Xi w=.ok (146,Xn #[Y l]) w:=k_
def Pj(l:Int)(a:aX)(w:aN):(Go.method 598 340 (Xn #[Y l,a]) "Line").run Xi w=.ok (146,Xn #[Y l]) w:=k_
def Gw(l:Int)(a:aX)(w:aN):(Go.method 598 341 (Xn #[Y l,a]) "Line").run Xi w=.ok (146,Xn #[Y l]) w:=k_
def Lk(l:Int)(a b:aX)(w:aN):(Go.method 598 343 (Xn #[Y l,a,b]) "Line").run Xi w=.ok (146,Xn #[Y l]) w:=k_
def rM(a:aX)(w:aN):(callFunc 146 #[a]).run Xi w=.ok (.enter 146 #[a]) w:=k_
def kU(l:Int)(w:aN):W_ Xi 146 #[Xn #[Y l]] w λe a=>e=bR (Y l)/\a=eF w #[Y l] 179:=by go_in;go_wp2;go_ret;exact⟨aJ,aJ⟩
def yO(w:aN)(c b:Nat)(l:Int)(p:Option Xe)(i:Xd)(g:aX)(P:lA)(Q:lA)(R:lA)(z:c<H_ w)(y:dR w c 2 (Xo p)) (o:Xg (W_ Xi 151 #[aY c,dI 278 (Xn #[Y l,Xo p])] (eF w.drew #[Y l] 179) λe a=>e=bR (Y b)/\Q a)) (t:Xg (∀W,Q W->W_ Xi 235 #[aY c,dI i g] (eF W #[Y l,dI i g] 340) λe a=>e=fA/\R a)) (s:Xg (∀W,R W->W_ Xi 151 #[aY c,dI 269 (Xn #[])] W λe a=>(∃k:Nat,e=bR (Y k))/\P a)):W_ Xi 204 #[aY c,dI 340 (Xn #[Y l,dI i g])] w λe a=>e=fA/\P a:=by have x:=Pj;have r:=rM;go_in;go_wp2;go_region_law (go_simp;first|(go_at_call 146;apply mJ (kU l _))|(go_at_call 151;refine sa o λA j=>?_));all_goals have f:=O (t _ j);clear j;go_wp;refine sa f λv n=>?_;have d:=O (s _ n);clear n;go_wp21;apply d.mono;rintro e u ⟨⟨m,rfl⟩,q⟩;go_wp2;go_end0;exact⟨aJ,q⟩
def QX(w:aN)(c b:Nat)(l:Int)(p:Option Xe)(i:Xd)(g:aX)(P:lA)(Q:lA)(R:lA)(z:c<H_ w)(y:dR w c 2 (Xo p)) (o:Xg (W_ Xi 151 #[aY c,dI 278 (Xn #[Y l,Xo p])] (eF w.drew #[Y l] 179) λe a=>e=bR (Y b)/\Q a)) (t:Xg (∀W,Q W->W_ Xi 235 #[aY c,dI i g] (eF W #[Y l,dI i g] 341) λe a=>e=fA/\R a)) (s:Xg (∀W,R W->W_ Xi 151 #[aY c,dI 375 (Xn #[])] W λe a=>(∃k:Nat,e=bR (Y k))/\P a)):W_ Xi 204 #[aY c,dI 341 (Xn #[Y l,dI i g])] w λe a=>e=fA/\P a:=by have x:=Gw;have r:=rM;go_in;go_wp2;go_region_law (go_simp;first|(go_at_call 146;apply mJ (kU l _))|(go_at_call 151;refine sa o λA j=>?_));all_goals have f:=O (t _ j);clear j;go_wp;refine sa f λv n=>?_;have d:=O (s _ n);clear n;go_wp21;apply d.mono;rintro e u ⟨⟨m,rfl⟩,q⟩;go_wp2;go_end0;exact⟨aJ,q⟩
def VD(w:aN)(d b:Nat)(l:Int)(p:Option Xe)(i:ByteArray)(x:Option Xe)(n c:Nat)(P:lA)(Q:lA)(R:lA)(B:d<H_ w)(A:dR w d 2 (Xo p)) (q:Xg (W_ Xi 151 #[aY d,dI 278 (Xn #[Y l,Xo p])] (eF w.drew #[Y l] 179) λe a=>e=bR (Y b)/\Q a)) (u:Xg (∀W,Q W->W_ Xi 255 #[aY d,Xn #[Y l,Q_ i,P_ x n c]] (eF W #[Y l,Q_ i,P_ x n c] 343) λe a=>e=fA/\R a)) (t:Xg (∀W,R W->W_ Xi 151 #[aY d,dI 376 (Xn #[])] W λe a=>(∃k:Nat,e=bR (Y k))/\P a)):W_ Xi 204 #[aY d,dI 343 (Xn #[Y l,Q_ i,P_ x n c])] w λe a=>e=fA/\P a:=by have z:=Lk;have s:=rM;go_in;go_wp2;go_region_law (go_simp;first|(go_at_call 146;apply mJ (kU l _))|(go_at_call 151;refine sa q λC j=>?_));all_goals have g:=O (u _ j);clear j;go_wp;refine sa g λy o=>?_;have f:=O (t _ o);clear o;go_wp21;apply f.mono;rintro e v ⟨⟨m,rfl⟩,r⟩;go_wp2;go_end0;exact⟨aJ,r⟩
def OC(w:aN)(d b:Nat)(l:Int)(p:Option Xe)(j:Xd)(g:aX)(n k:Option Xe)(m o i a:Nat)(P:lA)(Q:lA)(z:d<H_ w)(y:dR w d 2 (Xo p)) (r:Xg (W_ Xi 151 #[aY d,dI 278 (Xn #[Y l,Xo p])] (eF w.drew #[Y l] 179) λe c=>e=bR (Y b)/\Q c)) (u:Xg (∀W,Q W->W_ Xi 253 #[aY d,Xn #[Y l,dI j g,P_ n m i,P_ k o a]] (eF W #[Y l,dI j g,P_ n m i,P_ k o a] 336) λe c=>e=fA/\P c)):W_ Xi 204 #[aY d,dI 336 (Xn #[Y l,dI j g,P_ n m i,P_ k o a])] w λe c=>e=fA/\P c:=by have x:=SW;have s:=rM;go_in;go_wp2;go_region_law (go_simp;first|(go_at_call 146;apply mJ (kU l _))|(go_at_call 151;refine sa r λA q=>?_));all_goals have f:=O (u _ q);clear q;go_wp;refine sa f λv t=>?_;go_wp2;go_end0;exact⟨aJ,t⟩
def QW(w:aN)(c a:Nat)(l:Int)(p:Option Xe)(i:Xd)(f:aX)(k:Option Xe)(j g:Nat)(P:lA)(Q:lA)(v:c<H_ w)(u:dR w c 2 (Xo p)) (n:Xg (W_ Xi 151 #[aY c,dI 278 (Xn #[Y l,Xo p])] (eF w.drew #[Y l] 179) λe b=>e=bR (Y a)/\Q b)) (r:Xg (∀W,Q W->W_ Xi 254 #[aY c,Xn #[Y l,dI i f,P_ k j g],Y a] (eF W #[Y l,dI i f,P_ k j g] 338) λe b=>e=fA/\P b)):W_ Xi 204 #[aY c,dI 338 (Xn #[Y l,dI i f,P_ k j g])] w λe b=>e=fA/\P b:=by have t:=Qu;have o:=rM;go_in;go_wp2;go_region_law (go_simp;first|(go_at_call 146;apply mJ (kU l _))|(go_at_call 151;refine sa n λx m=>?_));all_goals have d:=O (r _ m);clear m;go_wp;refine sa d λs q=>?_;go_wp2;go_end0;exact⟨aJ,q⟩
def IW(w:aN)(c d:Nat)(l:Int)(p:Option Xe)(x:Int)(g:ByteArray)(s:Xd)(o:aX)(n:Nat)(P:lA)(Q:lA)(R j:Nat->Xb->Prop)(M:c<H_ w)(L:dR w c 2 (Xo p)) (y:Xg (W_ Xi 151 #[aY c,dI 278 (Xn #[Y l,Xo p])] (eF w.drew #[Y l] 179) λe a=>e=bR (Y d)/\Q a)) (G:Xg (∀W,Q W->W_ Xi 235 #[aY c,dI s o] (eF W #[Y l,Y x,Q_ g,dI s o] 331) λe a=>e=fA/\R (H_ W) a)) (z:Xg (∀b W,R b W->W_ Xi 203 #[aY c] W λe a=>e=bR (Y n)/\a=W)) (E:Xg (∀b W,R b W->W_ Xi 151 #[aY c,dI 370 (Xn #[Y n])] W λe a=>(∃k:Nat,e=bR (Y k))/\j b a)) (A:Xg (∀b W,j b W->dR W b 2 (Q_ g)/\b<H_ W)) (C:Xg (∀b W,j b W->W_ Xi 149 #[aY c,Q_ g] W λe a=>e=fA/\P a)):W_ Xi 204 #[aY c,dI 331 (Xn #[Y l,Y x,Q_ g,dI s o])] w λe a=>e=fA/\P a:=by have K:=G6;have B:=rM;go_in;go_wp2;go_region_law (go_simp;first|(go_at_call 146;apply mJ (kU l _))|(go_at_call 151;refine sa y λF v=>?_));all_goals have f:=O (G _ v);generalize I:H_ F=b at f;clear v;go_wp;refine sa f λH t=>?_;have u:=O (z _ _ t);have i:=O (E _ _ t);clear t;go_wp21;refine mJ u ?_;go_wp21;apply i.mono;rintro e N ⟨⟨m,rfl⟩,q⟩;have ⟨d1,d2⟩:=A _ _ q;have r:=O (C _ _ q);clear q;go_wp21;refine sa r λJ D=>?_;go_wp2;go_end0;exact⟨aJ,D⟩
def MG(w:aN)(d f:Nat)(l:Int)(p:Option Xe)(j:ByteArray)(x:Option Xe)(n c k:Nat)(r:Xd)(q:aX)(P:lA)(Q:lA)(R o:Nat->Xb->Prop)(X:d<H_ w)(V:dR w d 2 (Xo p)) (A:Xg (W_ Xi 151 #[aY d,dI 278 (Xn #[Y l,Xo p])] (eF w.drew #[Y l] 179) λe a=>e=bR (Y f)/\Q a)) (I:Xg (∀W,Q W->W_ Xi 251 #[aY d,P_ x n c] (eF W #[Y l,Q_ j,P_ x n c,dI r q] 334) λe a=>e=fA/\R (H_ W) a)) (B:Xg (∀b W,R b W->dR W b 3 (dI r q)/\b<H_ W)) (C:Xg (∀b W,R b W->W_ Xi 235 #[aY d,dI r q] W λe a=>e=fA/\o b a)) (v:Xg (∀b W,o b W->dR W b 1 (Q_ j)/\dR W b 2 (P_ x n c)/\b<H_ W)) (E:Xg (∀b W g,o b W->bZ W g->W_ Xi 252 #[aY d,Q_ j] g λe a=>e=bR (Y k)/\a=g)) (G:Xg (∀b W g,o b W->bZ W g->W_ Xi 151 #[aY d,dI 372 (Xn #[Y k,Y n])] g λe a=>(∃k:Nat,e=bR (Y k))/\P a)):W_ Xi 204 #[aY d,dI 334 (Xn #[Y l,Q_ j,P_ x n c,dI r q])] w λe a=>e=fA/\P a:=by have S:=Sn;have D:=rM;go_in;go_wp2;go_region_law (go_simp;first|(go_at_call 146;apply mJ (kU l _))|(go_at_call 151;refine sa A λH y=>?_));all_goals have i:=O (I _ y);generalize N:H_ H=b at i;clear y;go_wp;refine sa i λL u=>?_;obtain⟨T,K⟩:=B _ _ u;have t:=O (C _ _ u);clear u;go_wp21;refine sa t λJ s=>?_;have ⟨f1,f2,f3⟩:=v _ _ s;have z:=O s;clear s;go_wp2;go_region_law (go_simp;first|(go_at_call 252;apply mJ (E _ _ _ z (bZ.drew _)))|(go_at_call 151;apply (G _ _ _ z (bZ.drew _)).mono;rintro e M ⟨⟨m,rfl⟩,F⟩));all_goals go_wp2;go_end0;exact⟨aJ,F⟩
def GC(w:aN)(d g n b:Nat)(C:Nat->Xb->Prop)(k:n<=1000000)(c:C 0 w) (HC:Xg (∀j W,C j W->j<n->g<H_ W/\∃t z,I_ W (aL g j)=Wy (.iface t z)/\W_ Xi 204 #[aY d,.iface t z] W λe a=>e=fA/\C (j+1) a)):W_ Xi 150 #[aY d,Xl (Wy (aL g 0)) n b] w λe a=>e=fA/\C n a:=by
 have f:=O c;clear c;go_in;go_wp2;go_loopg [5,8] n (λgk _ i wr=>∃j:Nat,j+gk=n/\i=Y j/\C j wr);case atStart=>grind[dw]
 case round=>exact UF
def IV(w:aN)(a:Nat):W_ Xi 150 #[aY a,bP] w λe b=>e=fA/\b=w:=by
 go_in;go_wp2;go_loopg [5,8] 0 (λ_ _ i wr=>i=Y 0/\wr=w);case atStart=>simp
 case round=>go_wp2;go_end0;simp
def W5(w:aN)(a:Nat)(p x:Option Xe)(n c:Nat)(P Q:lA)(o:dR w a 2 (Xo p)) (j:Xg (W_ Xi 150 #[aY a,P_ x n c] w λe b=>e=fA/\Q b)) (f:Xg (∀W,Q W->(∃u,dR W a 2 u)/\W.frozen? (aL a 2)=WD/\a<H_ W/\P (c9 W (aL a 2) (Xo p)))):W_ Xi 284 #[aY a,P_ x n c] w λe b=>e=fA/\P b:=by go_in;go_wp;refine sa j λk g=>?_;obtain⟨⟨u,l⟩,q,m,d⟩:=f _ g;have i:=O d;go_wp2;go_end0;exact⟨aJ,i⟩
def ZT(w:aN)(b d i:Nat)(l:Int)(B:Xd)(x:aX)(q o:Option Xe)(p r k m:Nat)(P Q G H I t M:lA) (HX:Xg (W_ Xi 235 #[aY b,dI B x] (eF w #[Y l,dI B x,P_ q p k,P_ o r m] 336) λe a=>e=fA/\Q a)) (A:Xg (∀W,Q W->W_ Xi 151 #[aY b,.nilIface] W λe a=>e=bR (Y d)/\G a)) (D:Xg (∀W,G W->dR W (H_ w) 2 (P_ q p k)/\H_ w<H_ W)) (HT:Xg (∀W,G W->W_ Xi 284 #[aY b,P_ q p k] W λe a=>e=fA/\H a)) (v:Xg (∀W,H W->W_ Xi 151 #[aY b,.nilIface] W λe a=>e=bR (Y i)/\I a)) (C:Xg (∀W,I W->b<H_ W/\∃g n c,dR W b 1 (P_ (Wy (aL g 0)) n c)/\d<n/\n<=1000000/\(∃u,dR W g d u)/\W.frozen? (aL g d)=WD/\g<H_ W/\∀j,bZ (c9 W (aL g d) (dI 409 (Xn #[Y n]))) j->t j)) (y:Xg (∀W,t W->dR W (H_ w) 3 (P_ o r m)/\H_ w<H_ W)) (HL:Xg (∀W,t W->W_ Xi 284 #[aY b,P_ o r m] W λe a=>e=fA/\M a)) (F:Xg (∀W,M W->b<H_ W/\∃g n c,dR W b 1 (P_ (Wy (aL g 0)) n c)/\i<n/\n<=1000000/\(∃u,dR W g i u)/\W.frozen? (aL g i)=WD/\g<H_ W/\∀j,bZ (c9 W (aL g i) (dI 410 (Xn #[Y n]))) j->P j)):W_ Xi 253 #[aY b,Xn #[Y l,dI B x,P_ q p k,P_ o r m]] w λe a=>e=fA/\P a:=by go_in;go_wp;refine sa HX λw1 L=>?_;have H1:=O (A _ L);clear L;go_wp21;refine sa H1 λw2 s=>?_;have ⟨b1,b2⟩:=D _ s;have H2:=O (HT _ s);clear s;go_wp21;refine sa H2 λw3 N=>?_;have H3:=O (v _ N);clear N;go_wp21;refine sa H3 λV K=>?_;have ⟨f3,g,n,c,f4,f5,f6,⟨u,f7⟩,f8,f9,f10⟩:=C _ K;have HP:=O f10;have i1:(0:Int)<=(d:Int):=Z;have i2:(d:Int)<(n:Int):=Z;clear K f10;go_wp2;go_region;all_goals have z:=HP _ (bZ.drew _);have ⟨d1,d2⟩:=y _ z;have H5:=O (HL _ z);clear z;generalize J:(c9 V (aL g d) (dI 409 (Xn #[Y n]))).drew=w5 at*;have HW:=O J;clear J;go_wp;refine sa H5 λw6 S=>?_;obtain⟨ag,g',X,c',ad,ah,ac,⟨u',aa⟩,ae,T,f⟩:=F _ S;have E:=O f;have af:(0:Int)<=(i:Int):=Z;have ab:(i:Int)<(X:Int):=Z;clear S f;go_wp2;go_region;all_goals go_wp2;go_end0;exact⟨aJ,E _ (bZ.drew _)⟩
def Rt(w:aN)(d k a:Nat)(l:Int)(r:Xd)(p:aX)(j:Option Xe)(i f:Nat)(P C v x y:lA) (I:Xg (W_ Xi 235 #[aY d,dI r p] (eF w #[Y l,dI r p,P_ j i f] 338) λe b=>e=fA/\C b)) (q:Xg (∀W,C W->W_ Xi 151 #[aY d,.nilIface] W λe b=>e=bR (Y k)/\v b)) (t:Xg (∀W,v W->dR W (H_ w) 2 (P_ j i f)/\H_ w<H_ W)) (J:Xg (∀W,v W->W_ Xi 284 #[aY d,P_ j i f] W λe b=>e=fA/\x b)) (E:Xg (∀W,x W->W_ Xi 151 #[aY d,dI 410 (Xn #[Y a])] W λe b=>(∃k:Nat,e=bR (Y k))/\y b)) (s:Xg (∀W,y W->d<H_ W/\∃g n c,dR W d 1 (P_ (Wy (aL g 0)) n c)/\k<n/\n<=1000000/\(∃u,dR W g k u)/\W.frozen? (aL g k)=WD/\g<H_ W/\∀D,bZ (c9 W (aL g k) (dI 409 (Xn #[Y n]))) D->P D)):W_ Xi 254 #[aY d,Xn #[Y l,dI r p,P_ j i f],Y a] w λe b=>e=fA/\P b:=by go_in;go_wp;refine sa I λL A=>?_;have G:=O (q _ A);clear A;go_wp21;refine sa G λT o=>?_;have ⟨b1,b2⟩:=t _ o;have H:=O (J _ o);clear o;go_wp21;refine sa H λM B=>?_;have F:=O (E _ B);clear B;go_wp21;apply F.mono;rintro e K ⟨⟨m,rfl⟩,z⟩;have ⟨f3,g,n,c,f4,f5,f6,⟨u,f7⟩,f8,f9,f10⟩:=s _ z;have Q:=O f10;have S:(0:Int)<=(k:Int):=Z;have N:(k:Int)<(n:Int):=Z;clear z f10;go_wp2;go_region;all_goals go_wp2;go_end0;grind[dw,bZ.drew]
def wu{b:cY}{a:aC}(p:Nat)(h:cO c R b a):(aU c R b a p).2=cS b a:=(pJ c R b a (λ_ _=>False) p h ⟨s_,s_⟩).2.1
def sq.split{S:cY->aC->Prop}:∀{l m:List aC}{a:cY},Hs.sq S a (l++m)->Hs.sq S a l/\Hs.sq S (fY a l) m|[],_,_,h=>⟨trivial,h⟩|_::_,_,_,h=>by obtain⟨d,b⟩:=h;obtain⟨e,c⟩:=sq.split b;exact⟨⟨d,e⟩,c⟩
def wK:∀(l m:List aC) (b:cY),fY b (l++m)=fY (fY b l) m|[],_,_=>rfl|a::l,m,b=>wK l m (cS b a)
theorem wB:∀{l:List aC} (m:List aC){b:cY} (p:Nat),Hs.sq (cO c R) b l->bM (aU c R) b (l++m) p=bM (aU c R) b l p++bM (aU c R) (fY b l) m (p+aA (bM (aU c R) b l p))|[],m,b,p,_=>by simp[bM,fY]|a::l,m,b,p,h=>by obtain⟨f,e⟩:=h;rw[ip,bM,bM,wu p f,wB m _ e,gz,et,Nat.add_assoc];rfl
def yL(fp:iJ)(fb:Nat->Nat)(nms:cY)(cb:Nat)(F:bL)(w:aN)(code:List (Option aO))(e_:cY)(w':aN):Prop:=∃G,(∀k,F k->G k)/\iF fp fb nms cb G w code e_ w'
def TP(fp:iJ)(fb:Nat->Nat)(fs:List aC)(cb lo:Nat)(d:Nat):Prop:=∀(F:bL) (e_:cY) (v:aX) (a:aC) (code:List (Option aO)) (w:aN),CP fp fb (fs.map (·.x_)) cb F w code e_->PN (sm lo cb) w v a->cO fs d e_ a->jX a->aA e_<=90001->aA code+(aU fs d e_ a (aA code)).1.length<=1000000->W_ Xi 204 #[aY cb,v] w λe w'=>e=fA/\yL fp fb (fs.map (·.x_)) cb F w (code++(aU fs d e_ a (aA code)).1.map Wy) (aU fs d e_ a (aA code)).2 w'
section
variable {fp:iJ} {fb:Nat->Nat} {fs:List aC} {cb lo:Nat} {F:bL} {e_:cY} {d:Nat}
theorem yL.then{w c d:aN}{b:cY}{a:List (Option aO)}(e:FB cb cb w c)(h:yL fp fb b cb F c a e_ d):yL fp fb b cb F w a e_ d:=by have ⟨G,hG,h⟩:=h;exact⟨G,hG,h.then e⟩
def yL.more{G:bL}{w c:aN}{b:cY}{a:List (Option aO)}(d:∀k,F k->G k)(h:yL fp fb b cb G w a e_ c):yL fp fb b cb F w a e_ c:=by grind[yL]
def Wd{c:List aC}{d:Nat}{b:cY}{a:aC}(h:cO c d b a)(e:aA b<=90001):aA (cS b a)<=90001:=by cases d with|zero=>exact h.elim|succ d=>grind[cS,cO]
def EW{f:List aC}{d:Nat}:∀{l:List aC}{e_:cY},Hs.sq (cO f d) e_ l->aA e_<=90001->aA (fY e_ l)<=90001|[],_,_,h=>h|a::l,e_,c,h=>by obtain⟨e,b⟩:=c;exact EW (l:=l) (e_:=cS e_ a) b (Wd e h)
def vK(z:TP fp fb fs cb lo d)(v:aX)(l:List aC)(b:List (Option aO))(w:aN)(h:CP fp fb (fs.map (·.x_)) cb F w b e_)(C:th (sm lo cb) w v l)(J:Hs.sq (cO fs d) e_ l)(H:∀a∈l,jX a)(y:aA l<=1000000)(i:aA e_<=90001)(K:aA b+aA (bM (aU fs d) e_ l (aA b))<=1000000):W_ Xi 150 #[aY cb,v] w λe q=>e=fA/\yL fp fb (fs.map (·.x_)) cb F w (b++(bM (aU fs d) e_ l (aA b)).map Wy) (fY e_ l) q:=by
 rcases C.get with ⟨rfl,rfl⟩|⟨g,k,rfl,r,m,n,I⟩;apply mJ (IV w cb);exact⟨aJ,F,s_,by grind[bM,fY],FB.refl _⟩;refine(GC w cb g (aA l) k (λj W=>j<=aA l/\yL fp fb (fs.map (·.x_)) cb F w (b++(bM (aU fs d) e_ (l.take j) (aA b)).map Wy) (fY e_ (l.take j)) W) y ⟨Z,F,s_,by grind[bM,fY],FB.refl _⟩ λj W t D=>?_).mono ?_;have ⟨_,G,hG,hcp,hfb⟩:=t;have ⟨u,hu,hn'⟩:=I j D;obtain⟨T,x,rfl⟩:=hn'.form;have f:l.take (j+1)=l.take j++[l[j]]:=(by simp);have c:Hs.sq (cO fs d) e_ (l.take j++(l[j]::l.drop (j+1))):=by grind[List.take_append_drop]
 have ⟨hs1,hs2,_⟩:=sq.split c;have B:bM (aU fs d) e_ (l.take (j+1)) (aA b)=bM (aU fs d) e_ (l.take j) (aA b)++(aU fs d (fY e_ (l.take j)) l[j] (aA b+aA (bM (aU fs d) e_ (l.take j) (aA b)))).1:=by grind[wB,bM]
 have o:aA (bM (aU fs d) e_ (l.take (j+1)) (aA b))<=aA (bM (aU fs d) e_ l (aA b)):=by have A:Hs.sq (cO fs d) e_ (l.take (j+1)++l.drop (j+1)):=G_;grind[wB,List.take_append_drop,bM]
 have E:aA (b++(bM (aU fs d) e_ (l.take j) (aA b)).map Wy)=aA b+aA (bM (aU fs d) e_ (l.take j) (aA b)):=s_;have s:fY e_ (l.take (j+1))=(aU fs d (fY e_ (l.take j)) l[j] (aA b+aA (bM (aU fs d) e_ (l.take j) (aA b)))).2:=by rw[f,wK,wu _ hs2];rfl
 refine⟨eh m hfb.sd.size,T,Xn x,by rw[hfb.sd.cell (p:=(aL g j)) r.2];exact hu,(z G _ _ l[j] _ W hcp (hn'.below hfb.sd) hs2 (G_) (EW hs1 i) ?_).mono ?_⟩;grind;grind[yL.then,yL];simp
def V5(y:TP fp fb fs cb lo d)(v:aX)(l:List aC)(f:List (Option aO))(w:aN)(h:CP fp fb (fs.map (·.x_)) cb F w f e_)(n:th (sm lo cb) w v l)(t:Hs.sq (cO fs d) e_ l)(m:∀a∈l,jX a)(u:aA l<=1000000)(g:aA e_<=90001)(z:aA f+aA (bM (aU fs d) e_ l (aA f))<=1000000):W_ Xi 284 #[aY cb,v] w λe o=>e=fA/\yL fp fb (fs.map (·.x_)) cb F w (f++(bM (aU fs d) e_ l (aA f)).map Wy) e_ o:=by
 obtain⟨x,c,rfl⟩:=n.uq;have i:=vK y _ l f w h n t m u g z;have ⟨fv,cv,sp,h1,_,h4,_⟩:=h.i_;obtain⟨p,rfl⟩:=h4.form;refine W5 w cb p x (aA l) c _ _ (aB h1 aJ) i (λW s=>?_);have ⟨G,hG,hcp,hfb⟩:=s;have ⟨fv',cv',sp',g1,⟨xs,g2,g3⟩,g4,g5⟩:=hcp.i_;refine⟨⟨_,aB g1 aJ⟩,aF g1,G_,G,hG,⟨⟨fv',cv',Xo p,aP g1,⟨xs,?_,?_⟩,?_,?_⟩,λk j=>?_⟩,?_⟩;all_goals have j:∀k,k≠cb->(c9 W (aL cb 2) (Xo p)).heap[k]?=W.heap[k]?:=(by grind[ej])
 all_goals have hGk:=λb q=>j b (hcp.fix b q).2.1
 all_goals have r:lT cb (c9 W (aL cb 2) (Xo p))=lT cb W:=by rw[rQ (aP g1),rQ g1]
 exact bE g2 λk e=>j k (by have:=(g2.lt k e).1;exact Z);exact g3.h_ hGk s_;grind[gX.h_,CP.fixed];exact g5.h_ hGk (s_) s_;grind[CP.fix];refine hfb.trans ⟨⟨aJ,aJ,aJ,s_,G_⟩,G_,G_⟩
end
section
variable {fp:iJ} {fb:Nat->Nat} {fs:List aC} {cb lo:Nat} {F:bL} {a_:Bool} {e_:cY} {d:Nat}
def Rs(N:LN fp fb fs cb lo F a_ e_ d)(S:aA fs<=1000000)(T:∀k,k<aA fs->fp k=aY (fb k))(a:aC)(H:aX)(l:Int)(b:List (Option aO))(w:aN)(u:CP fp fb (fs.map (·.x_)) cb F w b e_)(q:a.op=[99,97,108,108])(G:th (sm lo cb) w H a.y_)(C:Hs.si fs a_ e_ (d+1) a)(D:sV (d+1) a)(j:aA b+aA (aG fs e_ (d+1) a (aA b))<=1000000):W_ Xi 255 #[aY cb,Xn #[Y l,Q_ (bs a.x_),H]] w λe p=>e=fA/\iF fp fb (fs.map (·.x_)) cb F w (b++(aG fs e_ (d+1) a (aA b)).map Wy) e_ p:=by
 have h:=si.op C;have ⟨_,hk1,hlik⟩:=D;rw[KQ fs e_ d a _ q]at j⊢;rw[et,ib]at j;have y:=h.1;have m:=h.2.2 q;obtain⟨x,c,rfl⟩:=G.uq;have ⟨hloc2,hcp2⟩:=u.new (bO #[Y l,Q_ (bs a.x_),P_ x (aA a.y_) c] 343);have s:∀{W:aN},FB cb cb (eF w #[Y l,Q_ (bs a.x_),P_ x (aA a.y_) c] 343) W->W.heap[H_ w]?=Wy (bO #[Y l,Q_ (bs a.x_),P_ x (aA a.y_) c] 343):=λv=>(hloc2.step v).i_;have f:W_ Xi 251 #[aY cb,P_ x (aA a.y_) c] (eF w #[Y l,Q_ (bs a.x_),P_ x (aA a.y_) c] 343) λe p=>e=fA/\(iF fp fb (fs.map (·.x_)) cb F w (b++(bC (aG fs e_ d) a.y_ (aA b)).map Wy) e_ p/\p.heap[H_ w]?=Wy (bO #[Y l,Q_ (bs a.x_),P_ x (aA a.y_) c] 343)):=by apply (xX N _ _ _ _ hcp2 (G.below hloc2.fb.sd) y hlik hk1 Z).mono;rintro e p ⟨Q,r⟩;exact⟨Q,r.then hloc2.fb,s r.2⟩
 have I:∀{i:aO}{e:Ending}{W:aN},(e=fA/\iF fp fb (fs.map (·.x_)) cb F w ((b++(bC (aG fs e_ d) a.y_ (aA b)).map Wy)++[Wy i]) e_ W)->e=fA/\iF fp fb (fs.map (·.x_)) cb F w (b++(bC (aG fs e_ d) a.y_ (aA b)++[i]).map Wy) e_ W:=(by simp);have o:aA (b++(bC (aG fs e_ d) a.y_ (aA b)).map Wy)+1<=1000000:=G_;rcases m with n|n|⟨z,A,K⟩;rw[n]at f⊢;apply (A4 w cb (aA a.y_) c l x _ _ f (λW g=>(by grind[aB])) λW g=>uw (i:=.length) g.1 rfl o).mono;simp;rw[n]at f⊢;apply (QB w cb (aA a.y_) c l x _ _ f (λW g=>(by grind[aB])) λW g=>uw (i:=.read) g.1 rfl o).mono;simp;have M:dW fs a.x_<aA fs:=by grind[gD]
 have t:a.x_∈fs.map (·.x_):=by grind[dW]
 have P:(a.x_==[108,101,110])=WD:=G_;have L:(a.x_==[114,101,97,100])=WD:=G_;rw[P,L];refine(LB w cb (aA a.y_) c (fb (dW fs a.x_)) l a.x_ x (λW=>iF fp fb (fs.map (·.x_)) cb F w ((b++(bC (aG fs e_ d) a.y_ (aA b)).map Wy)++[Wy (.call (dW fs a.x_) (aA a.y_))]) e_ W) _ z A f (λW g=>(by grind[aB])) (λW E g J=>?_) λW E g J=>?_).mono ?_;apply (zF a.x_ (g.1.1.grow J.below) t G_).mono;grind[KO];have B:iF fp fb (fs.map (·.x_)) cb F w (b++(bC (aG fs e_ d) a.y_ (aA b)).map Wy) e_ E:=(by grind[CP.grow,bZ.below,FB.trans,FB.of_lt,CP.lt,iF]);exact uw (i:=.call (dW fs a.x_) (aA a.y_)) B (by show _=_;grind) o;simp
end
section
variable (fs:List aC) (e_:cY) (d:Nat) (a:aC) (p:Nat)
def Wm(t v:aC)(h:a.op=[118,97,114])(b:a.y_=[t,v]):aU fs (d+1) e_ a p=(.begin a.l_ e_::aG fs e_ d v (p+1)++[.declare (aA e_)],t.x_::e_):=by rw[aU];grind
def Ua(h:a.op=[115,101,116]):aU fs (d+1) e_ a p=(.begin a.l_ e_::bC (aG fs e_ d) a.y_ (p+1)++[.assign (dP e_ a.x_) (aA a.y_-1)],e_):=by rw[aU];simp[h]
def R4(c t:aC)(h:a.op=[105,102])(b:a.y_=[c,t]):aU fs (d+1) e_ a p=(.begin a.l_ e_::aG fs e_ d c (p+1)++[.skip (p+1+aA (aG fs e_ d c (p+1))+1+aA (bM (aU fs d) e_ t.y_ (p+1+aA (aG fs e_ d c (p+1))+1))+1)]++bM (aU fs d) e_ t.y_ (p+1+aA (aG fs e_ d c (p+1))+1)++[.jump (p+1+aA (aG fs e_ d c (p+1))+1+aA (bM (aU fs d) e_ t.y_ (p+1+aA (aG fs e_ d c (p+1))+1))+1)],e_):=by rw[aU];grind
def Vh(c t x:aC)(h:a.op=[105,102])(b:a.y_=[c,t,x]):aU fs (d+1) e_ a p=(.begin a.l_ e_::aG fs e_ d c (p+1)++[.skip (p+1+aA (aG fs e_ d c (p+1))+1+aA (bM (aU fs d) e_ t.y_ (p+1+aA (aG fs e_ d c (p+1))+1))+1)]++bM (aU fs d) e_ t.y_ (p+1+aA (aG fs e_ d c (p+1))+1)++[.jump (p+1+aA (aG fs e_ d c (p+1))+1+aA (bM (aU fs d) e_ t.y_ (p+1+aA (aG fs e_ d c (p+1))+1))+1+aA (bM (aU fs d) e_ x.y_ (p+1+aA (aG fs e_ d c (p+1))+1+aA (bM (aU fs d) e_ t.y_ (p+1+aA (aG fs e_ d c (p+1))+1))+1)))]++bM (aU fs d) e_ x.y_ (p+1+aA (aG fs e_ d c (p+1))+1+aA (bM (aU fs d) e_ t.y_ (p+1+aA (aG fs e_ d c (p+1))+1))+1),e_):=by rw[aU];grind
def Ru(c b:aC)(h:a.op=[119,104,105,108,101])(e:a.y_=[c,b]):aU fs (d+1) e_ a p=(.begin a.l_ e_::aG fs e_ d c (p+1)++[.skip (p+1+aA (aG fs e_ d c (p+1))+1+aA (bM (aU fs d) e_ b.y_ (p+1+aA (aG fs e_ d c (p+1))+1))+1)]++bM (aU fs d) e_ b.y_ (p+1+aA (aG fs e_ d c (p+1))+1)++[.jump p],e_):=by rw[aU];grind
def VG(h:a.op=[114,101,116,117,114,110])(b:a.y_=[]):aU fs (d+1) e_ a p=([.begin a.l_ e_,.push (bB 0),.tw],e_):=by rw[aU];grind
def VF(v:aC)(h:a.op=[114,101,116,117,114,110])(b:a.y_=[v]):aU fs (d+1) e_ a p=(.begin a.l_ e_::aG fs e_ d v (p+1)++[.tw],e_):=by rw[aU];grind
def Jq(v:aC)(h:a.op=[112,114,105,110,116])(b:a.y_=[v]):aU fs (d+1) e_ a p=(.begin a.l_ e_::aG fs e_ d v (p+1)++[.print],e_):=by rw[aU];grind
def Ux(c:aC)(h:a.op=[100,111])(b:a.y_=[c]):aU fs (d+1) e_ a p=(.begin a.l_ e_::aG fs e_ d c (p+1)++[.drop],e_):=by rw[aU];grind
end
section
variable {fp:iJ} {fb:Nat->Nat} {fs:List aC} {cb lo:Nat} {F:bL} {e_:cY} {d:Nat}
def sE(fp:iJ)(fb:Nat->Nat)(nms:cY)(cb:Nat)(F:bL)(w w1:aN)(b:Nat)(o:Obj)(e_:cY)(c:List (Option aO))(W:aN):Prop:=∃G,(∀k,F k->G k)/\iF fp fb nms cb G w c e_ W/\Loc cb cb w1 b o W
def sE.emit{a:cY}{w d W:aN}{b:Nat}{o:Obj}{c:List (Option aO)}(h:sE fp fb a cb F w d b o e_ c W){u:aX}{i:Option aO}(l:∀G,Dy fp G W u i)(m:aA c<=1000000):W_ Xi 151 #[aY cb,u] W λe f=>e=bR (Y (aA c))/\sE fp fb a cb F w d b o e_ (c++[i]) f:=by have ⟨G,hG,hto,hL⟩:=h;apply (xC (o:=i) hto.1 (l G) m).mono;rintro e f ⟨j,k,g⟩;exact⟨j,G,hG,⟨k,hto.2.trans g⟩,hL.step g⟩
def sE.patch{e:cY}{w h W:aN}{b:Nat}{o:Obj}{d a:List (Option aO)}(m:sE fp fb e cb F w h b o e_ (d++Wz::a) W)(k:Nat)(l:k=aA d)(j:Xd)(i:Nat->aO)(p:∀G n,lR fp G W (dI j (Xn #[Y (n:Nat)])) (i n))(q:aA (d++Wz::a)<=1000000):cb<H_ W/\∃g n c,dR W cb 1 (P_ (Wy (aL g 0)) n c)/\k<n/\n<=1000000/\(∃u,dR W g k u)/\W.frozen? (aL g k)=WD/\g<H_ W/\∀f,bZ (c9 W (aL g k) (dI j (Xn #[Y (n:Nat)]))) f->sE fp fb e cb F w h b o e_ (d++Wy (i (aA (d++Wz::a)))::a) f:=by have ⟨G,hG,⟨hc1,hc2⟩,hL⟩:=m;have ⟨g,c,p1,p2,p3,p4,p5⟩:=hc1.patch;subst l;refine⟨hc1.lt,g,_,c,p1,s_,q,p2,p3,p4,λf r=>?_⟩;have ⟨q1,q2⟩:=p5 _ _ f (p G _) r;exact⟨G,hG,⟨q1,hc2.trans q2⟩,hL.step q2⟩
def sE.Ao(p:TP fp fb fs cb lo d){w i W:aN}{b:Nat}{o:Obj}{c:List (Option aO)}(k:sE fp fb (fs.map (·.x_)) cb F w i b o e_ c W)(v:aX)(l:List aC)(r:th (sm lo cb) w v l)(m:Hs.sq (cO fs d) e_ l)(h:∀a∈l,jX a)(n:aA l<=1000000)(g:aA e_<=90001)(q:aA c+aA (bM (aU fs d) e_ l (aA c))<=1000000):W_ Xi 284 #[aY cb,v] W λe j=>e=fA/\sE fp fb (fs.map (·.x_)) cb F w i b o e_ (c++(bM (aU fs d) e_ l (aA c)).map Wy) j:=by have ⟨G,hG,hto,hL⟩:=k;apply (V5 p v l c W hto.1 (r.below hto.2.sd) m h n g q).mono;rintro e j ⟨s,H,t,f⟩;exact⟨s,H,G_,f.then hto.2,hL.step f.2⟩
def sE.ye{w j W:aN}{b:Nat}{o:Obj}{c:List (Option aO)}(n:sE fp fb (fs.map (·.x_)) cb F w j b o e_ c W)(g:aA fs<=1000000)(h:∀k,k<aA fs->fp k=aY (fb k))(m:aA e_<=90001)(v:aX)(a:aC)(r:PN (sm lo cb) w v a)(p:Hs.si fs WD e_ d a)(i:jX a)(q:aA c+aA (aG fs e_ d a (aA c))<=1000000):W_ Xi 235 #[aY cb,v] W λe l=>e=fA/\sE fp fb (fs.map (·.x_)) cb F w j b o e_ (c++(aG fs e_ d a (aA c)).map Wy) l:=by have ⟨G,hG,hto,hL⟩:=n;apply (yA Z g h d v a c W hto.1 (r.below hto.2.sd) p (i d) q).mono;rintro e l ⟨s,f⟩;exact⟨s,G,hG,f.then hto.2,hL.step f.2⟩
def sE.Co{w h W:aN}{b:Nat}{o:Obj}{c:List (Option aO)}(m:sE fp fb (fs.map (·.x_)) cb F w h b o e_ c W)(s:aA fs<=1000000)(x:∀k,k<aA fs->fp k=aY (fb k))(j:aA e_<=90001)(v:aX)(l:List aC)(r:th (sm lo cb) w v l)(n:∀a∈l,Hs.si fs WD e_ d a)(g:∀a∈l,jX a)(p:aA l<=1000000)(q:aA c+aA (bC (aG fs e_ d) l (aA c))<=1000000):W_ Xi 251 #[aY cb,v] W λe i=>e=fA/\sE fp fb (fs.map (·.x_)) cb F w h b o e_ (c++(bC (aG fs e_ d) l (aA c)).map Wy) i:=by have ⟨G,hG,hto,hL⟩:=m;apply (xX ((by grind[yA])) v l c W hto.1 (r.below hto.2.sd) n (λa u=>g a u d) p q).mono;rintro e i ⟨t,f⟩;exact⟨t,G,hG,f.then hto.2,hL.step f.2⟩
theorem sE.box{a:cY}{w e W:aN}{b:Nat}{d:Array Xa}{T:Xd}{c:List (Option aO)}(f:sE fp fb a cb F w e b (bO d T) e_ c W):W.heap[b]?=Wy (bO d T):=by grind[Loc.i_,sE]
def CP.Ab{b:cY}{w:aN}{a:List (Option aO)}(h:CP fp fb b cb F w a e_)(o:Obj):sE fp fb b cb F w w (H_ w) o e_ a (w.alloc o):=by have ⟨hloc,hcp⟩:=h.new o;exact⟨F,s_,⟨hcp,hloc.fb⟩,hloc⟩
def UE{Z_:Prop}(Y_:Z_:=by have hcl:aA (code++cc.map Wy++[Wz])=aA code+aA cc+1:=G_;have:=hq.Ao IH _ lt ht ho1 hl1 hn1 hsn G_;rw[hcl,hct]at this;exact this):Z_:=Y_
def FW(IH:TP fp fb fs cb lo d)(C:aA fs<=1000000)(D:∀k,k<aA fs->fp k=aY (fb k))(hsn:aA e_<=90001)(l:Int)(H I G:aX)(c:aC)(lt g:List aC)(code:List (Option aO))(w:aN)(h:CP fp fb (fs.map (·.x_)) cb F w code e_) (J:PN (sm lo cb) w H c) (ht:th (sm lo cb) w I lt) (K:th (sm lo cb) w G g) (M:Hs.si fs WD e_ d c) (ho1:Hs.sq (cO fs d) e_ lt) (E:Hs.sq (cO fs d) e_ g) (N:jX c) (hl1:∀a∈lt,jX a) (x:∀a∈g,jX a) (hn1:aA lt<=1000000) (B:aA g<=1000000) (cc b j:List aO) (v:aG fs e_ d c (aA code)=cc) (hct:bM (aU fs d) e_ lt (aA code+aA cc+1)=b) (y:bM (aU fs d) e_ g (aA code+aA cc+1+aA b+1)=j) (P:aA code+aA cc+1+aA b+1+aA j<=1000000):W_ Xi 253 #[aY cb,Xn #[Y l,H,I,G]] w λe L=>e=fA/\yL fp fb (fs.map (·.x_)) cb F w (code++(cc++[aO.skip (aA code+aA cc+1+aA b+1)]++b++[aO.jump (aA code+aA cc+1+aA b+1+aA j)]++j).map Wy) e_ L:=by obtain⟨m,f,rfl⟩:=J.form;obtain⟨r,o,rfl⟩:=ht.uq;obtain⟨q,p,rfl⟩:=K.uq;have z:=h.Ab (bO #[Y l,dI m (Xn f),P_ r (aA lt) o,P_ q (aA g) p] 336);refine(ZT w cb (aA code+aA cc) (aA code+aA cc+1+aA b) l m (Xn f) r q (aA lt) (aA g) o p (λW=>yL fp fb (fs.map (·.x_)) cb F w ((code++cc.map Wy++Wy (aO.skip (aA code+aA cc+1+aA b+1))::b.map Wy)++Wy (aO.jump (aA code+aA cc+1+aA b+1+aA j))::j.map Wy) e_ W) (sE fp fb (fs.map (·.x_)) cb F w w (H_ w) (bO #[Y l,dI m (Xn f),P_ r (aA lt) o,P_ q (aA g) p] 336) e_ (code++cc.map Wy)) (sE fp fb (fs.map (·.x_)) cb F w w (H_ w) (bO #[Y l,dI m (Xn f),P_ r (aA lt) o,P_ q (aA g) p] 336) e_ (code++cc.map Wy++[Wz])) (sE fp fb (fs.map (·.x_)) cb F w w (H_ w) (bO #[Y l,dI m (Xn f),P_ r (aA lt) o,P_ q (aA g) p] 336) e_ (code++cc.map Wy++[Wz]++b.map Wy)) (sE fp fb (fs.map (·.x_)) cb F w w (H_ w) (bO #[Y l,dI m (Xn f),P_ r (aA lt) o,P_ q (aA g) p] 336) e_ (code++cc.map Wy++[Wz]++b.map Wy++[Wz])) (sE fp fb (fs.map (·.x_)) cb F w w (H_ w) (bO #[Y l,dI m (Xn f),P_ r (aA lt) o,P_ q (aA g) p] 336) e_ (code++cc.map Wy++Wy (aO.skip (aA code+aA cc+1+aA b+1))::(b.map Wy++[Wz]))) (sE fp fb (fs.map (·.x_)) cb F w w (H_ w) (bO #[Y l,dI m (Xn f),P_ r (aA lt) o,P_ q (aA g) p] 336) e_ (code++cc.map Wy++Wy (aO.skip (aA code+aA cc+1+aA b+1))::(b.map Wy++[Wz])++j.map Wy)) ?_ (λW hq=>?_) (λW hq=>?_) (λW hq=>?_) (λW hq=>?_) (λW hq=>?_) (λW hq=>?_) (λW hq=>?_) λW hq=>?_).mono ?_;have:=z.ye C D hsn _ c J M N G_;rw[v]at this;exact this;have:=hq.emit (u:=.nilIface) (i:=Wz) (λ_=>aJ) G_;rw[rY]at this;exact this;grind[aB,sE.box];exact UE;have hcl:aA (code++cc.map Wy++[Wz]++b.map Wy)=aA code+aA cc+1+aA b:=G_;have:=hq.emit (u:=.nilIface) (i:=Wz) (λ_=>aJ) Z;rw[hcl]at this;exact this;have s:code++cc.map Wy++[Wz]++b.map Wy++[Wz]=(code++cc.map Wy)++Wz::(b.map Wy++[Wz]):=s_;rw[s]at hq;have A:aA ((code++cc.map Wy)++Wz::(b.map Wy++[Wz]))=aA code+aA cc+1+aA b+1:=G_;have:=hq.patch (aA code+aA cc) s_ 409 (λn=>.skip n) (λ_ _=>rfl) Z;grind;grind[aB,sE.box];have hcl:aA (code++cc.map Wy++Wy (aO.skip (aA code+aA cc+1+aA b+1))::(b.map Wy++[Wz]))=aA code+aA cc+1+aA b+1:=G_;have:=hq.Ao IH _ g K E x B hsn G_;rw[hcl,y]at this;exact this;have s:code++cc.map Wy++Wy (aO.skip (aA code+aA cc+1+aA b+1))::(b.map Wy++[Wz])++j.map Wy=(code++cc.map Wy++Wy (aO.skip (aA code+aA cc+1+aA b+1))::b.map Wy)++Wz::j.map Wy:=s_;rw[s]at hq;have A:aA ((code++cc.map Wy++Wy (aO.skip (aA code+aA cc+1+aA b+1))::b.map Wy)++Wz::j.map Wy)=aA code+aA cc+1+aA b+1+aA j:=G_;have t:aA code+aA cc+1+aA b=aA (code++cc.map Wy++Wy (aO.skip (aA code+aA cc+1+aA b+1))::b.map Wy):=G_;have:=hq.patch (aA code+aA cc+1+aA b) t 410 (λn=>.jump n) (λ_ _=>aJ) Z;grind[yL,sE];simp
def It(IH:TP fp fb fs cb lo d)(r:aA fs<=1000000)(s:∀k,k<aA fs->fp k=aY (fb k))(hsn:aA e_<=90001)(l:Int)(b:Nat)(t v:aX)(c:aC)(lt:List aC)(code:List (Option aO))(w:aN)(h:CP fp fb (fs.map (·.x_)) cb F w code e_) (x:PN (sm lo cb) w t c) (ht:th (sm lo cb) w v lt) (A:Hs.si fs WD e_ d c) (ho1:Hs.sq (cO fs d) e_ lt) (B:jX c) (hl1:∀a∈lt,jX a) (hn1:aA lt<=1000000) (cc f:List aO) (p:aG fs e_ d c (aA code)=cc) (hct:bM (aU fs d) e_ lt (aA code+aA cc+1)=f) (D:aA code+aA cc+1+aA f+1<=1000000):W_ Xi 254 #[aY cb,Xn #[Y l,t,v],Y b] w λe z=>e=fA/\yL fp fb (fs.map (·.x_)) cb F w (code++(cc++[aO.skip (aA code+aA cc+1+aA f+1)]++f++[aO.jump b]).map Wy) e_ z:=by obtain⟨j,g,rfl⟩:=x.form;obtain⟨o,m,rfl⟩:=ht.uq;have q:=h.Ab (bO #[Y l,dI j (Xn g),P_ o (aA lt) m] 338);refine(Rt w cb (aA code+aA cc) b l j (Xn g) o (aA lt) m (λW=>yL fp fb (fs.map (·.x_)) cb F w ((code++cc.map Wy)++Wy (aO.skip (aA code+aA cc+1+aA f+1))::(f.map Wy++[Wy (aO.jump b)])) e_ W) (sE fp fb (fs.map (·.x_)) cb F w w (H_ w) (bO #[Y l,dI j (Xn g),P_ o (aA lt) m] 338) e_ (code++cc.map Wy)) (sE fp fb (fs.map (·.x_)) cb F w w (H_ w) (bO #[Y l,dI j (Xn g),P_ o (aA lt) m] 338) e_ (code++cc.map Wy++[Wz])) (sE fp fb (fs.map (·.x_)) cb F w w (H_ w) (bO #[Y l,dI j (Xn g),P_ o (aA lt) m] 338) e_ (code++cc.map Wy++[Wz]++f.map Wy)) (sE fp fb (fs.map (·.x_)) cb F w w (H_ w) (bO #[Y l,dI j (Xn g),P_ o (aA lt) m] 338) e_ (code++cc.map Wy++[Wz]++f.map Wy++[Wy (aO.jump b)])) ?_ (λW hq=>?_) (λW hq=>?_) (λW hq=>?_) (λW hq=>?_) λW hq=>?_).mono ?_;have:=q.ye r s hsn _ c x A B G_;rw[p]at this;exact this;have:=hq.emit (u:=.nilIface) (i:=Wz) (λ_=>aJ) G_;rw[rY]at this;exact this;grind[aB,sE.box];exact UE;have hcl:aA (code++cc.map Wy++[Wz]++f.map Wy)=aA code+aA cc+1+aA f:=G_;apply (hq.emit (u:=dI 410 (Xn #[Y b])) (i:=Wy (aO.jump b)) (λ_=>aJ) Z).mono;grind;have y:code++cc.map Wy++[Wz]++f.map Wy++[Wy (aO.jump b)]=(code++cc.map Wy)++Wz::(f.map Wy++[Wy (aO.jump b)]):=s_;rw[y]at hq;have C:aA ((code++cc.map Wy)++Wz::(f.map Wy++[Wy (aO.jump b)]))=aA code+aA cc+1+aA f+1:=G_;have:=hq.patch (aA code+aA cc) s_ 409 (λn=>.skip n) (λ_ _=>rfl) Z;grind[yL,sE];simp
end
section
variable {fp:iJ} {fb:Nat->Nat} {fs:List aC} {cb lo:Nat} {d:Nat}
def vk.ok.below{w a:aN}{p:vk}(h:vk.ok (sm lo cb) w p)(e:Below cb w a):vk.ok (sm lo cb) a p:=by rcases h with ⟨d,b,c,f⟩|⟨d,c⟩;exact ea (by grind[PN.below]);exact dz ⟨d,th.below c e⟩
def iF.Ab{F:bL}{b:cY}{c:cY}{w W:aN}{a:List (Option aO)}(h:iF fp fb c cb F w a b W)(o:Obj):sE fp fb c cb F w W (H_ W) o b a (W.alloc o):=by have ⟨hloc,hcp⟩:=h.1.new o;exact⟨F,s_,⟨hcp,h.2.trans hloc.fb⟩,hloc⟩
def Mr(IH:TP fp fb fs cb lo d)(P:aA fs<=1000000)(N:∀k,k<aA fs->fp k=aY (fb k)):TP fp fb fs cb lo (d+1):=by
 intro F f v a g w h aq ae D Q n;obtain⟨T,cs,ps,rfl,ar,B⟩:=aq.parts;have ⟨fv,cv,sp,V,_,h4,_⟩:=h.i_;obtain⟨p,rfl⟩:=h4.form;have J:=h.lt;have M:=aB (i:=2) V aJ
 have L:aA g+1<=1000000->W_ Xi 151 #[aY cb,dI 278 (Xn #[Y a.l_,Xo p])] (eF w.drew #[Y a.l_] 179) λe w'=>e=bR (Y (aA g))/\iF fp fb (fs.map (·.x_)) cb F w (g++[Wy (.begin a.l_ f)]) f w':=λhn=>by
  have hb:R_ w (eF w.drew #[Y a.l_] 179):=((dv _ w).drew).alloc lZ _;have h':=h.grow hb;apply (xC (o:=Wy (.begin a.l_ f)) h' ⟨_,aJ,gX.h_ (λb ao=>hb.block b (h.fix b ao).1) (s_) h4⟩ Z).mono
  rintro e w' ⟨he,q1,q2⟩;exact⟨he,q1,(FB.of_lt hb J).trans q2⟩
 have ak:aA (g++[Wy (aO.begin a.l_ f)])=aA g+1:=s_
 have aa:aA f<=1000000:=Z;have no:∀{x y:bQ} {p:Prop},a.op=x->x≠y->a.op=y->p:=(by grind)
 rcases ar with ⟨_,_,_,m,_⟩|⟨_,_,m,_⟩|⟨_,_,m,_⟩|⟨_,_,_,m,_⟩|⟨_,_,_,m,_⟩|⟨_,_,m,_⟩|⟨_,_,_,_,_,_,_,m,_⟩|⟨_,o,_,_,_,ax,m,_⟩|⟨_,_,_,_,_,_,_,m,_⟩|⟨rfl,v1,t,q,rfl,m,j,rfl⟩|⟨rfl,sv,v1,l,q,rfl,m,j,rfl⟩|⟨rfl,v1,s1,q,E,rfl,m,aj,j,rfl⟩|⟨rfl,v1,s1,s2,q,E,b2,rfl,m,aj,ay,j,rfl⟩|⟨rfl,v1,s1,q,E,rfl,m,aj,j,rfl⟩|⟨rfl,l,rfl,m,j,rfl⟩|⟨rfl,v1,q,rfl,m,j,rfl⟩|⟨rfl,v1,q,rfl,m,j,rfl⟩|⟨rfl,sv,c,rfl,m,al,av,j,ab,rfl⟩
 iterate 7
  .exfalso;rcases ae with ⟨V,_⟩|⟨V,_⟩|⟨V,_⟩|⟨V,_⟩|⟨V,_⟩|⟨V,_⟩|⟨V,_⟩<;>exact no m d_ V
 .exfalso;grind [cO]
 .exfalso;rcases ae with ⟨V,_⟩|⟨V,_⟩|⟨V,_⟩|⟨V,_⟩|⟨V,_⟩|⟨V,_⟩|⟨V,_⟩<;>(rw[V]at m;exact m aJ)
 ·-- var
  have H:Hs.si fs WD f d q/\aA f<=90000:=by grind [cO]
  have z:=Wm fs f d a (aA g) t q m j;rw[z]at n ⊢
  simp[et,fg,fi]at n;have hp:=B ⟨v1,[q],true⟩ s_
  obtain⟨K,s,rfl⟩:=hp.uu.form;have C:=D.uz (k:=q) og
  refine(IW w cb (aA g) a.l_ p t.l_ (bs t.x_) K (Xn s) (aA f) (λW=>yL fp fb (fs.map (·.x_)) cb F w (g++(aO.begin a.l_ f::aG fs f d q (aA g+1)++[aO.declare (aA f)]).map Wy) (t.x_::f) W) _
   (λb W=>∃I,sE fp fb (fs.map (·.x_)) cb F w I b (bO #[Y a.l_,Y t.l_,Q_ (bs t.x_),dI K (Xn s)] 331) f ((g++[Wy (.begin a.l_ f)])++(aG fs f d q (aA g+1)).map Wy) W)
   (λb W=>∃I,sE fp fb (fs.map (·.x_)) cb F w I b (bO #[Y a.l_,Y t.l_,Q_ (bs t.x_),dI K (Xn s)] 331) f ((g++[Wy (.begin a.l_ f)])++(aG fs f d q (aA g+1)).map Wy++[Wy (.declare (aA f))]) W)
   J M (L Z) (λW r=>?_) (λb W r=>?_) (λb W r=>?_) (λb W r=>?_) λb W r=>?_)
  .apply ((r.Ab _).ye P N Q _ q hp.uu H.1 C G_).mono
   grind
  .have ⟨I,G,hG,hto,_⟩:=r;exact YD hto.1 aa
  .have ⟨I,r⟩:=r;apply (r.emit (u:=dI 370 (Xn #[Y (aA f)])) (i:=Wy (.declare (aA f))) (λ_=>aJ) G_).mono
   rintro e w' ⟨he,h2⟩;exact⟨⟨_,he⟩,I,h2⟩
  .grind [aB,sE.box]
  have ⟨I,G,hG,hto,_⟩:=r;apply (Z0 t.x_ hto.1 aa).mono
  rintro e w' ⟨he,q1,q2⟩;refine⟨he,λk=>G k\/k=H_ W,G_,?_,hto.2.trans q2⟩
  grind
 ·-- an assignment
  have H:a.x_∈f/\∀k∈a.y_,Hs.si fs WD f d k:=by grind [cO]
  have z:=Ua fs f d a (aA g) m;have ap:aA (l++[q])-1=aA l:=s_
  rw[j,sK,JB]at z;rw[ap]at z;rw[z]at n ⊢
  simp[et,fg,fi]at n;have hp:=B ⟨sv,l,WD⟩ s_
  have A:=B ⟨v1,[q],true⟩ s_
  obtain⟨K,s,rfl⟩:=A.uu.form;obtain⟨x,c,rfl⟩:=hp.many.uq;have am:=D.len;rw[j,et]at am;generalize az:bC (aG fs f d) l (aA g+1)=q1 at*;generalize aw:aG fs f d q (aA g+1+aA q1)=q2 at*
  refine(MG w cb (aA g) a.l_ p (bs a.x_) x (aA l) c (dP f a.x_) K (Xn s) (λW=>yL fp fb (fs.map (·.x_)) cb F w (g++(aO.begin a.l_ f::(q1++q2)++[aO.assign (dP f a.x_) (aA l)]).map Wy) f W) _
   (λb W=>∃I,sE fp fb (fs.map (·.x_)) cb F w I b (bO #[Y a.l_,Q_ (bs a.x_),P_ x (aA l) c,dI K (Xn s)] 334) f ((g++[Wy (.begin a.l_ f)])++q1.map Wy) W)
   (λb W=>∃I,sE fp fb (fs.map (·.x_)) cb F w I b (bO #[Y a.l_,Q_ (bs a.x_),P_ x (aA l) c,dI K (Xn s)] 334) f ((g++[Wy (.begin a.l_ f)])++q1.map Wy++q2.map Wy) W)
   J M (L Z) (λW r=>?_) (λb W r=>?_) (λb W r=>?_) (λb W r=>?_) (λb W W' r hS=>?_) λb W W' r hS=>?_)
  .apply ((r.Ab _).Co P N Q _ l hp.many (λk hk=>H.2 k (by rw[j];simp[hk])) ((by grind [jX.uz])) Z G_).mono
   grind
  .grind [aB,sE.box]
  .have ⟨I,r⟩:=r;have au:aA ((g++[Wy (aO.begin a.l_ f)])++q1.map Wy)=aA g+1+aA q1:=G_
   apply (r.ye P N Q _ q A.uu (H.2 q og) (D.uz G_) G_).mono
   grind
  .grind [aB,sE.box]
  .have ⟨I,G,hG,hto,_⟩:=r;exact VM a.x_ (hto.1.grow hS.below) H.1 aa
  have ⟨I,G,hG,hto,hL⟩:=r;have ag:iF fp fb (fs.map (·.x_)) cb G w ((g++[Wy (.begin a.l_ f)])++q1.map Wy++q2.map Wy) f W':=⟨hto.1.grow hS.below,hto.2.trans (FB.of_lt hS.below hto.1.lt)⟩
  apply (uw (i:=.assign (dP f a.x_) (aA l)) ag aJ G_).mono
  grind [yL]
 ·-- if,without else
  have H:Hs.si fs WD f d q/\Hs.sq (cO fs d) f E.y_:=by grind [cO]
  have z:=R4 fs f d a (aA g) q E m j;rw[z]at n ⊢
  have A:=B ⟨v1,[q],true⟩ s_
  have S:=B ⟨s1,E.y_,WD⟩ s_
  have C:=D.uz (k:=q) og
  have X:=D.uz (k:=E) og
  obtain⟨K,s,rfl⟩:=A.uu.form;obtain⟨x,c,rfl⟩:=S.many.uq;generalize ah:aG fs f d q (aA g+1)=cc at*;generalize ai:bM (aU fs d) f E.y_ (aA g+1+aA cc+1)=ct at*;simp[et,fg,fi]at n;refine OC w cb (aA g) a.l_ p K (Xn s) x Wz (aA E.y_) 0 c 0 _ _ J M (L Z) (λW r=>?_)
  have ⟨G,hG,hto,_⟩:=r.Ab (bO #[Y a.l_,dI K (Xn s),P_ x (aA E.y_) c,bP] 336);apply (FW (d:=d) IH P N Q a.l_ _ _ _ q E.y_ [] _ _ hto.1 (A.uu.below hto.2.sd) (S.many.below hto.2.sd) (ea s_) H.1 H.2 trivial C (λk hk=>X.uz hk) (s_) X.len s_ cc ct [] G_ G_ rfl G_).mono
  grind [yL.then,yL,iF]
 ·-- if,with else
  have H:Hs.si fs WD f d q/\Hs.sq (cO fs d) f E.y_/\Hs.sq (cO fs d) f b2.y_:=by grind [cO]
  have z:=Vh fs f d a (aA g) q E b2 m j;rw[z]at n ⊢
  have A:=B ⟨v1,[q],true⟩ s_
  have S:=B ⟨s1,E.y_,WD⟩ s_
  have ac:=B ⟨s2,b2.y_,WD⟩ s_
  have C:=D.uz (k:=q) og
  have X:=D.uz (k:=E) og
  have ad:=D.uz (k:=b2) og
  obtain⟨K,s,rfl⟩:=A.uu.form;obtain⟨x,c,rfl⟩:=S.many.uq;obtain⟨x2,af,rfl⟩:=ac.many.uq;generalize ah:aG fs f d q (aA g+1)=cc at*;generalize ai:bM (aU fs d) f E.y_ (aA g+1+aA cc+1)=ct at*;generalize ba:bM (aU fs d) f b2.y_ (aA g+1+aA cc+1+aA ct+1)=ce at*;simp[et,fg,fi]at n;refine OC w cb (aA g) a.l_ p K (Xn s) x x2 (aA E.y_) (aA b2.y_) c af _ _ J M (L Z) (λW r=>?_)
  have ⟨G,hG,hto,_⟩:=r.Ab (bO #[Y a.l_,dI K (Xn s),P_ x (aA E.y_) c,P_ x2 (aA b2.y_) af] 336);apply (FW (d:=d) IH P N Q a.l_ _ _ _ q E.y_ b2.y_ _ _ hto.1 (A.uu.below hto.2.sd) (S.many.below hto.2.sd) (ac.many.below hto.2.sd) H.1 H.2.1 H.2.2 C (λk hk=>X.uz hk) (λk hk=>ad.uz hk) X.len ad.len cc ct ce G_ G_ G_ Z).mono
  rintro e w' ⟨he,h2⟩;refine⟨he,?_⟩;have h3:=(h2.then hto.2).more hG
  rw[ak]at h3;grind
 ·-- while
  have H:Hs.si fs WD f d q/\Hs.sq (cO fs d) f E.y_:=by grind [cO]
  have z:=Ru fs f d a (aA g) q E m j;rw[z]at n ⊢
  have A:=B ⟨v1,[q],true⟩ s_
  have S:=B ⟨s1,E.y_,WD⟩ s_
  have C:=D.uz (k:=q) og
  have X:=D.uz (k:=E) og
  obtain⟨K,s,rfl⟩:=A.uu.form;obtain⟨x,c,rfl⟩:=S.many.uq;generalize ah:aG fs f d q (aA g+1)=cc at*;generalize ai:bM (aU fs d) f E.y_ (aA g+1+aA cc+1)=ct at*;simp[et,fg,fi]at n;refine QW w cb (aA g) a.l_ p K (Xn s) x (aA E.y_) c _ _ J M (L Z) (λW r=>?_)
  have ⟨G,hG,hto,_⟩:=r.Ab (bO #[Y a.l_,dI K (Xn s),P_ x (aA E.y_) c] 338);apply (It (d:=d) IH P N Q a.l_ (aA g) _ _ q E.y_ _ _ hto.1 (A.uu.below hto.2.sd) (S.many.below hto.2.sd) H.1 H.2 C (λk hk=>X.uz hk) X.len cc ct G_ G_ Z).mono
  grind [yL.then,yL,iF]
 ·-- return,without a value
  have z:=VG fs f d a (aA g) m j;rw[z]at n ⊢
  simp[fg,fi]at n;refine yO w cb (aA g) a.l_ p _ _ _ _ (λW=>yL fp fb (fs.map (·.x_)) cb F w ((g++[Wy (aO.begin a.l_ f)])++[Wy (.push (bB 0))]) f W) J M (L Z) (λW r=>?_) (λW r=>?_)
  .have ⟨G,hG,hto,_⟩:=r.Ab (bO #[Y a.l_,dI 367 (Xn #[Y l,Y 0])] 340);have ⟨G2,hG2,hto2,_⟩:=hto.Ab (bO #[Y l,Y 0] 367);apply (yU _ cb l 0 _ (uw (i:=.push (bB 0)) hto2 (by grind [PV.num,uQ,lR]) Z)).mono
   grind [yL]
  have ⟨G,hG,hto⟩:=r;apply (uw (i:=.tw) hto aJ G_).mono
  grind [yL]
 ·-- return
  have H:Hs.si fs WD f d q:=by grind [cO]
  have z:=VF fs f d a (aA g) q m j;rw[z]at n ⊢
  have A:=B ⟨v1,[q],true⟩ s_
  have C:=D.uz (k:=q) og
  obtain⟨K,s,rfl⟩:=A.uu.form;simp[et,fg,fi]at n;refine yO w cb (aA g) a.l_ p _ _ _ _ (λW=>∃I,sE fp fb (fs.map (·.x_)) cb F w I (H_ I) (bO #[Y a.l_,dI K (Xn s)] 340) f ((g++[Wy (aO.begin a.l_ f)])++(aG fs f d q (aA g+1)).map Wy) W) J M (L Z) (λW r=>?_) (λW r=>?_)
  .apply ((r.Ab _).ye P N Q _ q A.uu H C G_).mono
   grind
  have ⟨I,r⟩:=r;apply (r.emit (u:=dI 269 (Xn #[])) (i:=Wy .tw) (λ_=>aJ) G_).mono
  rintro e w' ⟨he,h2⟩;refine⟨⟨_,he⟩,?_⟩;grind [yL,sE]
 ·-- print
  have H:Hs.si fs WD f d q:=by grind [cO]
  have z:=Jq fs f d a (aA g) q m j;rw[z]at n ⊢
  have A:=B ⟨v1,[q],true⟩ s_
  have C:=D.uz (k:=q) og
  obtain⟨K,s,rfl⟩:=A.uu.form;simp[et,fg,fi]at n;refine QX w cb (aA g) a.l_ p _ _ _ _ (λW=>∃I,sE fp fb (fs.map (·.x_)) cb F w I (H_ I) (bO #[Y a.l_,dI K (Xn s)] 341) f ((g++[Wy (aO.begin a.l_ f)])++(aG fs f d q (aA g+1)).map Wy) W) J M (L Z) (λW r=>?_) (λW r=>?_)
  .apply ((r.Ab _).ye P N Q _ q A.uu H C G_).mono
   grind
  have ⟨I,r⟩:=r;apply (r.emit (u:=dI 375 (Xn #[])) (i:=Wy .print) (λ_=>aJ) G_).mono
  rintro e w' ⟨he,h2⟩;refine⟨⟨_,he⟩,?_⟩;grind [yL,sE]
 have H:Hs.si fs WD f d c:=by grind [cO]
 have z:=Ux fs f d a (aA g) c m j;rw[z]at n ⊢
 rw[<-al];have hp:=B ⟨sv,c.y_,WD⟩ s_
 have C:=D.uz (k:=c) og
 obtain⟨x,cp,rfl⟩:=hp.many.uq;simp[et,fg,fi]at n;refine VD w cb (aA g) a.l_ p _ _ _ _ _ _ (λW=>yL fp fb (fs.map (·.x_)) cb F w ((g++[Wy (aO.begin a.l_ f)])++(aG fs f d c (aA g+1)).map Wy) f W) J M (L Z) (λW r=>?_) (λW r=>?_)
 .cases d with
  |zero=>exact H.elim
  |succ d=>
   have ⟨G,hG,hto,_⟩:=r.Ab (bO #[Y a.l_,Q_ (bs c.x_),P_ x (aA c.y_) cp] 343);apply (Rs ((by grind [yA])) P N c _ a.l_ _ _ hto.1 ab (hp.many.below hto.2.sd) H (C _) G_).mono
   rintro e w' ⟨he,h2⟩;rw[ak]at h2;exact⟨he,G,hG,h2.then hto.2⟩
 have ⟨G,hG,hto⟩:=r;apply (uw (i:=.drop) hto aJ G_).mono
 grind [yL]
def m6(a:aA fs<=1000000)(b:∀k,k<aA fs->fp k=aY (fb k)):∀d,TP fp fb fs cb lo d|0=>(by grind[TP,cO])|d+1=>Mr (m6 a b d) a b
end
def Hd(w:aN)(a:Nat)(l:Int)(N:ByteArray)(t p:Option Xe)(d L r s:Nat)(P:Xa->Xb->Prop)(I:Nat->Xb->Prop)(Q R S:lA)(hl:a<H_ w)(aa:d<=1000000) (z:∃u,dR w a 1 u) (A:∃u,dR w a 2 u) (f1:w.frozen? (aL a 1)=WD) (f2:w.frozen? (aL a 2)=WD) (HI:Xg (I 0 (eF (c9 (c9 w (aL a 1) (bP)) (aL a 2) (Xo Wz)) #[Y l,Q_ N,P_ t d L,P_ p r s] 185))) (HP:Xg (∀j W,I j W->j<d->∃g E o,t=Wy (aL g 0)/\g<H_ W/\dR W g (j*2) (Y E)/\dR W g (j*2+1) (Q_ o)/\W_ Xi 149 #[aY a,Q_ o] (eF W #[Y E,Q_ o] 181) λe f=>e=fA/\I (j+1) f)) (HB:Xg (∀W,I d W->dR W (H_ w) 3 (P_ p r s)/\H_ w<H_ W/\W_ Xi 150 #[aY a,P_ p r s] W λe f=>e=fA/\Q f)) (HE:Xg (∀W,Q W->W_ Xi 151 #[aY a,dI 267 (Xn #[dI 263 (Y 0)])] W λe f=>(∃k:Nat,e=bR (Y k))/\R f)) (HG:Xg (∀W,R W->W_ Xi 151 #[aY a,dI 269 (Xn #[])] W λe f=>(∃k:Nat,e=bR (Y k))/\S f)) (HS:Xg (∀W,S W->a<H_ W/\∃x n c,dR W a 1 (P_ x n c)/\P (P_ x n c) W)):W_ Xi 91 #[aY a,Xn #[Y l,Q_ N,P_ t d L,P_ p r s]] w λe f=>∃H,e=bR H/\P H f:=by
 have ⟨u1,z⟩:=z;have ⟨u2,A⟩:=A;have V:¬a=H_ w:=Z;have M:¬(H_ w)=a:=Z;go_in;go_wp2;go_loopg [6,16] d (λgk _ i wr=>∃j:Nat,j+gk=d/\i=Y j/\I j wr);case atStart=>grind[dw]
 case round=>
  obtain⟨j,hj,rfl,q⟩:=hrel;clear z A f1 f2 HI;by_cases v:j<d
  .obtain⟨m,rfl⟩:∃m,gk=m+1:=⟨gk-1,Z⟩;obtain⟨g,E,o,rfl,hg,J,T,b⟩:=HP _ _ q v;have F:=O b;have e1:(0:Int)<=(j:Int):=Z;have e2:(j:Int)<(d:Int):=Z;clear q b;go_wp;refine sa F λX y=>?_;go_wp2;go_roundg m;case measure=>exact Z
   grind
  have B:j=d:=Z;subst B;have ⟨J,T,b⟩:=HB _ q;have F:=O b;clear q b;go_wp;refine sa F λX y=>?_;have D:=O (HE _ y);clear y J;go_wp21;apply D.mono;rintro e w2 ⟨⟨k,rfl⟩,G⟩;have C:=O (HG _ G);clear G;go_wp21;apply C.mono;rintro e w3 ⟨⟨k2,rfl⟩,K⟩;have ⟨g1,x,n,c,g2,g3⟩:=HS _ K;have HF:=O g3;clear K g3;go_wp2;go_ret;exact⟨_,aJ,HF⟩
def RK:(prog.info? 106).map (λi=>(i.zero,i.size,i.bytes))=Wy (Wy (Xo Wz),1,8):=k_
def TA(w:aN)(q n ac:Nat)(P:Xa->Xb->Prop)(H:Nat->Xb->Prop)(J:Nat->Xb->Prop)(hn:n<=1000000) (H0:Xg (H 0 (i9 w (Xt #[bP,bP,Xo Wz] 198)))) (V:Xg (∀j W,H j W->j<n->H_ w<H_ W/\q<H_ W/\∃l t A y s r z o x c L M K,I_ W (aL q (j*4))=Wy (Y l)/\I_ W (aL q (j*4+1))=Wy (Xm t)/\I_ W (aL q (j*4+1+1))=Wy (Xl A y s)/\I_ W (aL q (j*4+1+1+1))=Wy (Xl r z o)/\W.heap[H_ w]?=Wy (Xt #[Xl x j c,M,K] 198)/\W.ownsRow (H_ w+1) 106 1 (Xl x j c) j L/\∀W3 G d E,W3=i9 (i9 (i9 W (Xt #[Y l,Xm t,Xl A y s,Xl r z o] 185)) (Xt #[Xm t,bP] 200)) (Xt #[aY (H_ W+1)] 106)->E.ownsRow (H_ w+1) 106 1 (Xl (Wy (aL G 0)) (j+1) d) (j+1) (L++[aY (H_ W+1)])->W3.grownBy E (Value.slice x j c).ownBlock->((Value.slice x j c).ownBlock=Wy G\/G=H_ W+3)->E.heap[H_ w]?=Wy (Xt #[Xl x j c,M,K] 198)->H (j+1) (c9 E (aL (H_ w) 0) (Xl (Wy (aL G 0)) (j+1) d)))) (I:Xg (∀W,H n W->J 0 W)) (H2:Xg (∀j W,J j W->j<n->H_ w<H_ W/\q<H_ W/\∃l t A y s r z o g c fb,I_ W (aL q (j*4))=Wy (Y l)/\I_ W (aL q (j*4+1))=Wy (Xm t)/\I_ W (aL q (j*4+1+1))=Wy (Xl A y s)/\I_ W (aL q (j*4+1+1+1))=Wy (Xl r z o)/\W.cell? (aL (H_ w) 0)=Wy (Xl (Wy (aL g 0)) n c)/\g<H_ W/\I_ W (aL g j)=Wy (aY fb)/\∀W',bZ (i9 W (Xt #[Y l,Xm t,Xl A y s,Xl r z o] 185)) W'->W_ Xi 91 #[aY (H_ w),Xn #[Y l,Xm t,Xl A y s,Xl r z o]] W' λe f=>∃x n3 c3,e=bR (Xl x n3 c3)/\(H_ w)<H_ f/\(∃N o,I_ f (aL (H_ w) 0)=Wy (Xl (Wy (aL N 0)) n o)/\N<H_ f/\I_ f (aL N j)=Wy (aY fb))/\g<H_ f/\I_ f (aL g j)=Wy (aY fb)/\fb<H_ f/\(∃u,I_ f (aL fb 1)=Wy u)/\f.frozen? (aL fb 1)=WD/\J (j+1) (c9 f (aL fb 1) (Xl x n3 c3)))) (H3:Xg (∀W,J n W->W_ Xi 92 #[aY (H_ w),Xm ⟨#[109,97,105,110]⟩] W λe f=>∃v,e=bR (Xo v)/\P (Xo v) f)):W_ Xi 53 #[Xl (Wy (aL q 0)) n ac] w λe f=>∃v,e=bR v/\P v f:=by
 have ⟨i0,hi,hz0,hz1,hz2⟩:=info_parts RK;go_in;go_wp2;go_loopg [5,10] n (λgk _ i wr=>∃j:Nat,j+gk=n/\i=Y j/\H j wr);case atStart=>exact⟨0,Z,rfl,H0⟩
 case round=>
  obtain⟨j,hj,rfl,B⟩:=hrel;clear H0;by_cases F:j<n
  .obtain⟨m,rfl⟩:∃m,gk=m+1:=⟨gk-1,Z⟩;have ⟨hl0,hl1,l,t,A,y,s,r,z,o,x,c,L,M,K,d1,d2,d3,d4,d5,d6,d7⟩:=V _ _ B F;have HO:=O d6;have HB:=O d5;have HK:=O d7;have q0:=aB (i:=0) d5 aJ;have e1:(0:Int)<=(j:Int):=Z;have e2:(j:Int)<(n:Int):=Z;clear B d5 d6 d7 V;have HN:Xg (∀W:aN,W.heap[H_ wr+1+1]?=Wy (Xt #[aY (H_ wr+1)] 106)->∀k v,([aY (H_ wr+1)]:List Xa)[k]?=Wy v->I_ W ((⟨H_ wr+1+1,0,Wz⟩:Xe).add k)=Wy v):=λW hW k v hk=>World.news_of_block hW k v Z;have HL:Xg ((i9 (i9 (i9 wr (Xt #[Y l,Xm t,Xl A y s,Xl r z o] 185)) (Xt #[Xm t,bP] 200)) (Xt #[aY (H_ wr+1)] 106)).heap[H_ wr+1+1]?=Wy (Xt #[aY (H_ wr+1)] 106)):=aV _ _ s_ _;have C:∀v∈([aY (H_ wr+1)]:List Xa),v.oneCell'=true:=λv hv=>by simp at hv;rw[hv];rfl
   have HONE:=O C;clear C;go_wp2_with (at_builtin;refine wpList_append_lies _ r_ _ _ 195 r_ (H_ w+1) 106 i0 _ 1 8 underlying195 hi hz0 hz1 hz2 rfl d_ (Xl x j c) j L r_ (((HO.alloc _).alloc _).alloc _) (aL (H_ wr+1+1) 0) 1 1 [_] r_ r_ (HN _ HL) HONE d_ lg Z la (H_ wr+3) s_ ?_);intro G d E p b D ab;have S:Wy (H_ w)≠(Value.slice x j c).ownBlock:=λe=>by have:=(HO.lt _ e.symm).1;exact Z
   have a:E.heap[H_ w]?=Wy (Xt #[Xl x j c,M,K] 198):=by rw[b.block _ la S,ed _ _ _ la,ed _ _ _ la,ed _ _ _ hl0];exact HB
   have ae:=aB (i:=0) a aJ;have ag:=aF a (i:=0);have ad:=aH a;have HFIN:=O (HK _ G d E aJ p b D a);clear p b D a ab q0 d1 d2 d3 d4;go_wp2;go_roundg m;case measure=>exact Z
   case rel=>exact⟨j+1,Z,ll,HFIN⟩
  have T:j=n:=Z;subst T;have aa:=O (I _ B);clear B I V;go_wp2;go_loopg [6,7,27] j (λgk _ _ i wr=>∃k:Nat,k+gk=j/\i=Y k/\J k wr);case atStart=>grind[dw]
  case round=>
   obtain⟨k,ah,rfl,B⟩:=hrel;clear aa;by_cases F:k<j;.obtain⟨m,rfl⟩:∃m,gk=m+1:=⟨gk-1,Z⟩;have ⟨hl0,hl1,l,t,A,y,s,r,z,o,g,c,fb,d1,d2,d3,d4,d5,d6,d7,d8⟩:=H2 _ _ B F;have HX:=O (d8 _ (bZ.drew _));have e1:(0:Int)<=(k:Int):=Z;have e2:(k:Int)<(j:Int):=Z;clear B d8 H2 H3;go_wp2;go_region_law (go_simp;go_at_call 91;apply HX.mono;rintro e w1 ⟨x,n3,c3,rfl,a1,⟨N,af,b1,b2,b3⟩,a3,a4,a5,⟨u,a6⟩,a7,a8⟩;have X:=O a8;clear a8);all_goals
     go_wp2;go_roundg m;case measure=>exact Z
     case rel=>exact⟨k+1,Z,ll,X⟩
   have Q:k=j:=Z;subst Q;have HX:=O (H3 _ B);clear B H2 H3;go_wp;apply HX.mono;rintro e w1 ⟨v,rfl,h1⟩;have X:=O h1;clear h1;go_wp2;go_ret;exact⟨_,aJ,X⟩
section
variable {fp:iJ} {fb:Nat->Nat} {fs:List aC} {cb lo d:Nat} {F:bL}
def CQ(fp:iJ)(fb:Nat->Nat)(nms:cY)(cb:Nat)(F:bL)(w:aN):Prop:=(∃fv cv sp,w.heap[cb]?=Wy (Xt #[fv,cv,sp] 198)/\FZ fp fb nms F w fv)/\∀k,F k->k<w.heap.size/\k≠cb
def PP(c:List aC)(d:Nat){f b:aC}{a:List aC}(e:f.y_=a++[b]):(fQ c d f).code=bM (aU c d) (a.map (·.x_)).reverse b.y_ 0++[.push (bB 0),.tw]:=by simp[fQ,e]
def Ry(S:aA fs<=1000000)(aa:∀k,k<aA fs->fp k=aY (fb k)){w:aN}(h:CQ fp fb (fs.map (·.x_)) cb F w)(f:aC)(v:aX)(hv:CS (sm lo cb) w v f)(Q:gY fs d f)(X:∀k∈f.y_,jX k)(s:aA f.y_<=90000):W_ Xi 91 #[aY cb,v] w λe m=>∃B,e=bR B/\∃G l,(∀k,F k->G k)/\CP fp fb (fs.map (·.x_)) cb G m ((fQ fs d f).code.map Wy) l/\I_ m (aL cb 1)=Wy B/\Below cb w m/\∀k,F k->m.heap[k]?=w.heap[k]?:=by
 have ⟨⟨fv,cv0,sp0,hblk,hfun⟩,hfix⟩:=h;obtain⟨pv,bv,ps,b,rfl,I,A,ae,z⟩:=hv;obtain⟨E,P,rfl⟩:=A.slice;obtain⟨D,K,rfl⟩:=z.uq;have ⟨⟨ps',b',hk',hst,_⟩,hlen⟩:=Q;obtain⟨rfl,M⟩:ps'=ps/\b'=b:=by grind[List.append_inj']
 subst M;rw[PP fs d I]at hlen⊢;simp[et,fg,fi]at hlen;rw[I]at s;simp[et,fg,fi]at s;have C:=aH hblk;have ⟨g,hW0⟩:∃g,g=c9 (c9 w (aL cb 1) (bP)) (aL cb 2) (Xo Wz):=(by simp);have y:Below cb w g:=by grind[Below.setCell,dv]
 have L:g.heap.size=w.heap.size:=by rw[hW0];simp
 have ac:∀k,k≠cb->g.heap[k]?=w.heap[k]?:=(by grind[ej]);have J:∀k,F k->g.heap[k]?=w.heap[k]?:=(by grind);have q:g.heap[cb]?=Wy (Xt #[fv,bP,Xo Wz] 198):=by rw[hW0,aP (aP hblk)];rfl
 have t:CP fp fb (fs.map (·.x_)) cb F g [] []:=by refine⟨⟨fv,_,_,q,⟨[],Ww _ _ _ _,aJ,s_⟩,rfl,hfun.h_ J (s_) Z⟩,λk I=>⟨G_,G_,?_⟩⟩;grind[Value.ownBlock,lT]
 have ⟨hL1,hcp1⟩:=t.new (Xt #[Y f.l_,Xm (bs f.x_),Xl E (aA ps') P,Xl D (aA b'.y_) K] 185);rw[L]at hL1;refine(Hd w cb f.l_ (bs f.x_) E D (aA ps') P (aA b'.y_) K (λB m=>∃G l,(∀k,F k->G k)/\CP fp fb (fs.map (·.x_)) cb G m ((bM (aU fs d) (ps'.map λa=>a.x_).reverse b'.y_ 0++[aO.push (bB 0),aO.tw]).map Wy) l/\I_ m (aL cb 1)=Wy B/\Below cb w m/\∀k,F k->m.heap[k]?=w.heap[k]?) (λj W=>∃G,(∀k,F k->G k)/\CP fp fb (fs.map (·.x_)) cb G W [] ((ps'.take j).map λa=>a.x_).reverse/\Loc cb cb g w.heap.size (Xt #[Y f.l_,Xm (bs f.x_),Xl E (aA ps') P,Xl D (aA b'.y_) K] 185) W) (λW=>∃G l,(∀k,F k->G k)/\iF fp fb (fs.map (·.x_)) cb G g ((bM (aU fs d) (ps'.map λa=>a.x_).reverse b'.y_ 0).map Wy) l W) (λW=>∃G l,(∀k,F k->G k)/\iF fp fb (fs.map (·.x_)) cb G g ((bM (aU fs d) (ps'.map λa=>a.x_).reverse b'.y_ 0).map Wy++[Wy (aO.push (bB 0))]) l W) (λW=>∃G l,(∀k,F k->G k)/\iF fp fb (fs.map (·.x_)) cb G g ((bM (aU fs d) (ps'.map λa=>a.x_).reverse b'.y_ 0).map Wy++[Wy (aO.push (bB 0))]++[Wy aO.tw]) l W) C Z ⟨_,aB hblk rfl⟩ ⟨_,aB hblk rfl⟩ (aF hblk) (aF hblk) ?_ (λj W o V=>?_) (λW o=>?_) (λW o=>?_) (λW o=>?_) λW o=>?_);show ∃G,_;grind;have ⟨G,hG,hcp,hL⟩:=o;rcases A.get with ⟨_,u⟩|⟨N,ab,H,x,ad,af,r⟩;rw[u]at V;simp at V;cases H;have ⟨hp1,hp2⟩:=r j V;have n:=y.trans hL.fb.sd;refine⟨N,_,_,aJ,eh (Z) n.size,(n.cell (p:=(aL N (j*2))) x.2).trans hp1,(n.cell (p:=(aL N (j*2+1))) x.2).trans hp2,?_⟩;have ⟨hL2,hcp2⟩:=hcp.new (Xt #[Y ps'[j].l_,Xm (bs ps'[j].x_)] 181);apply (Z0 ps'[j].x_ hcp2 G_).mono;rintro e m ⟨T,q1,q2⟩;refine⟨T,λk=>G k\/k=(i9 W (Xt #[Y ps'[j].l_,Xm (bs ps'[j].x_)] 181)).heap.size,G_,?_,hL.step (hL2.fb.trans q2)⟩;grind[List.take_succ_eq_append_getElem];have ⟨G,hG,hcp,hL⟩:=o;rw[ii (Z)]at hcp;have n:=y.trans hL.fb.sd;refine⟨aB hL.i_ aJ,aH hL.i_,?_⟩;apply (vK (m6 S aa d) _ b'.y_ [] W hcp (z.below n) hst (λa ha=>(X b' G_).uz ha) (by grind[jX.len]) G_ G_).mono;rintro e m ⟨T,G2,ag,c⟩;exact⟨T,G2,_,G_,by simpa using c.then hL.fb⟩;have ⟨G,l,hG,c⟩:=o;apply (uw (i:=.push (bB 0)) c (by grind[PV.num,uQ,lR]) G_).mono;grind;have ⟨G,l,hG,c⟩:=o;apply (uw (i:=.tw) c aJ G_).mono;grind;have ⟨G,l,hG,c⟩:=o;have ⟨fv',cv',sp',g1,⟨xs,g2,g3⟩,g4,g5⟩:=c.1.i_;grind[fV,aB,Below.trans,FB.sd,CP.fixed,iF]
end
def QI(w:aN)(b:Nat):Prop:=∀c,w.heap[b]?≠Wy (Xt c 200)
def gX.xq:∀{l:cY}{v:aX},gX F W v l->gX (λb=>F b/\QI W b) W v l|[],_,h=>h|_::_,_,⟨b,o,c,e,d,a⟩=>⟨b,o,c,(by grind[QI]),d,gX.xq a⟩
def VR.xq:∀{d:Nat}{v:aX}{a:aE},VR d F W v a->VR d (λb=>F b/\QI W b) W v a|0,_,_,h=>h.elim|d+1,v,a,h=>by rcases h with h|h|h|⟨o,l,n,m,f⟩;exact ea h;exact dz (ea h);grind[VR];refine dz (dz (dz ⟨o,l,n,m,?_⟩));rcases f with f|⟨g,c,e,r,x,s,t,k⟩;exact ea f;refine dz ⟨g,c,e,r,(by grind[QI]),s,t,λi p=>?_⟩;obtain⟨u,j,q⟩:=k i p;exact⟨u,j,VR.xq q⟩
theorem lR.xq{i:aO}(h:lR a F W g i):lR a (λb=>F b/\QI W b) W g i:=by cases i<;>first|exact h|(have ⟨sp,h1,h2⟩:=h;exact⟨sp,h1,h2.xq⟩)|(have ⟨u,h1,⟨d,h2⟩,h3⟩:=h;exact⟨u,h1,⟨d,h2.xq⟩,h3⟩)
def lR.Ce{G:bL}{u:aX}{i:aO}{o:Nat}{c:Array Xa}(h:lR a F W g i)(d:W.heap[R]?=Wy (bO c 200))(e:∀R,F R->G R):lR a G (c9 W (aL R o) u) g i:=(by grind[lR.h_,lR.xq,ej,QI])
section
variable {fp:iJ} {fb:Nat->Nat} {nms:cY} {cb:Nat} {F:bL} {w:aN}
def TE(a:bQ)(h:CQ fp fb nms cb F w)(t:a∈nms)(C:aA nms<=1000000):W_ Xi 92 #[aY cb,Xm (bs a)] w λe o=>e=bR (fp (nms.findIdx λx=>x==a))/\o=w:=by
 have ⟨⟨fv,cv,sp,h1,h5⟩,_⟩:=h;rcases h5 with ⟨rfl,_⟩|⟨g,f,rfl,v,l,z,c⟩;cases t;have B:=aH h1;have E:=aB (i:=0) h1 aJ;have p:=O c;go_in;go_wp2;go_loopg [6,12] (aA nms) (λgk _ i wr=>∃j:Nat,j+gk=aA nms/\i=Y j/\j<=nms.findIdx (λx=>x==a)/\wr=w);case atStart=>simp
 case round=>
  obtain⟨j,D,rfl,u,rfl⟩:=hrel;have A:nms.findIdx (λx=>x==a)<aA nms:=(by grind);have d:j<aA nms:=Z;obtain⟨m,rfl⟩:∃m,gk=m+1:=⟨gk-1,Z⟩;have ⟨e1,e2,e3,x,e4⟩:=p j d;rw[e2]at e1;have r:=aB (i:=0) e4 aJ;by_cases s:nms[j]=a
  .have k:nms.findIdx (λx=>x==a)=j:=by grind
   have q:=O e2;rw[s]at r;go_wp2;go_ret;exact⟨by rw[k,q.out];rfl,rfl⟩
  have n:((bs nms[j]).toList==(bs a).toList)=WD:=by grind[bA]
  have b:j+1<=nms.findIdx (λx=>x==a):=by grind
  generalize nms[j]=y at*;go_wp2;go_roundg m;case measure=>exact Z
  case rel=>exact⟨j+1,Z,ll,b,rfl⟩
end
def sG(bl:List Nat)(k:Nat):Nat:=bl[k]?.getD 0
def NB(bl:List Nat)(k:Nat):Xa:=aY (sG bl k)
theorem YI{a:List Nat}(h:R<aA a):sG a R=a[R]:=by simp[sG,h]
def Cb(w:aN)(fs:List aC)(j:Nat)(W:aN):Prop:=∃(x:Option Xe) (c:Nat) (bl:List Nat),j<=aA fs/\W.heap[w.heap.size]?=Wy (Xt #[Xl x j c,bP,Xo Wz] 198)/\aA bl=j/\W.ownsRow (w.heap.size+1) 106 1 (Xl x j c) j (bl.map λb=>aY b)/\bl.Nodup/\(∀i (h:i<aA fs),∀b,bl[i]?=Wy b->W.heap[b]?=Wy (Xt #[Xm (bs fs[i].x_),bP] 200)/\w.heap.size<b/\b<W.heap.size/\(Value.slice x j c).ownBlock≠Wy b)/\R_ w W
def Cj(w:aN)(fs:List aC)(d j:Nat)(W:aN):Prop:=∃(bl:List Nat) (F:bL),aA bl=aA fs/\(bl.Nodup/\∀b∈bl,w.heap.size<b)/\j<=aA fs/\CQ (NB bl) (sG bl) (fs.map (·.x_)) w.heap.size F W/\R_ w W/\∀i (h:i<aA fs),i<j->B3 (NB bl) F W (NB bl i) (fQ fs d fs[i])
def Cb.zero(w:aN)(a:List aC):Cb w a 0 (i9 w (Xt #[bP,bP,Xo Wz] 198)):=⟨Wz,0,[],Z,aV _ _ rfl _,rfl,Ww _ _ _ _,List.nodup_nil,s_,mn⟩
theorem Cb.next{v u:aN}{r:List aC}{j d:Nat}{x:Option Xe}{c:Nat}{g:List Nat}{K M:Obj}(N:j<aA r) (o:aA g=j) (z:g.Nodup) (s:∀i (h:i<aA r),∀b,g[i]?=Wy b->W.heap[b]?=Wy (Xt #[Xm (bs r[i].x_),bP] 200)/\H_ w<b/\b<H_ W/\(Value.slice x j c).ownBlock≠Wy b) (t:R_ w W) (G:H_ w<H_ W) (n:W.ownsRow (H_ w+1) 106 1 (Xl x j c) j (g.map λb=>aY b)) (A:v=(i9 (W.alloc K) (Xt #[Xm (bs r[j].x_),bP] 200)).alloc M) (E:u.ownsRow (H_ w+1) 106 1 (Xl (Wy (aL R 0)) (j+1) d) (j+1) ((g.map λb=>aY b)++[aY (H_ W+1)])) (f:v.grownBy u (Value.slice x j c).ownBlock) (I:(Value.slice x j c).ownBlock=Wy R\/R=H_ W+3) (C:u.heap[H_ w]?=Wy (Xt #[Xl x j c,bP,Xo Wz] 198)):Cb w r (j+1) (c9 u (aL (H_ w) 0) (Xl (Wy (aL R 0)) (j+1) d)):=by
 have H:H_ v=H_ W+3:=by rw[A];simp
 have L:=f.size;have p:R≠H_ w:=by have:=(E.lt R aJ).1;exact Z
 have D:R_ W v:=by rw[A];exact(((dv _ _).alloc (Z) _).alloc s_ _).alloc la _
 refine⟨Wy (aL R 0),d,g++[H_ W+1],N,?_,rE,?_,?_,λi F b m=>?_,?_⟩;rw[aP C];rfl;rw[ft];exact bE E λk J=>ej _ _ _ _ (by cases J;exact p);refine jl.2 ⟨z,s_,λa P b m=>?_⟩;simp at m;obtain⟨i,F,rfl⟩:=ki P;have:=(s i Z _ (ey F)).2.2.1;exact Z;rcases gw i (aA g) with q|q;grind[ej,World.grownBy.block,ef,Value.ownBlock];rw[jb q]at m;have y:i=j:=by grind
 subst y;rw[o,Nat.sub_self]at m;simp at m;subst m;have B:(Value.slice x i c).ownBlock≠Wy (H_ W+1):=λe=>by have:=(n.lt _ e).2;exact Z
 refine⟨?_,Z,la,λe=>?_⟩;rw[ej _ _ _ _ (G_),f.block _ Z (G_),A,ed _ _ _ s_];exact aV _ _ s_ _;grind[Value.ownBlock];refine((t.trans (D.mono Z)).trans ?_).setCell (s_) _;exact⟨f.os,f.tape,f.output,Z,(by grind[World.grownBy.block,World.ownsRow.lt])⟩
def Lp(a:List aC)(k:Nat)(h:k<aA (a.map (·.x_))):(a.map (·.x_))[k]=(a[k]'(by simpa using h)).x_:=s_
theorem TO(g j:Nat):(⟨g,0,Wz⟩:Xe).add j=⟨g,j,Wz⟩:=by grind[Addr.add]
def Cj.zero{e:List aC}(l:e≠[])(h:Cb w e (aA e) W):Cj w e R 0 W:=by have ⟨x,c,bl,_,h1,h2,h3,h4,h5,h6⟩:=h;have hpos:=List.length_pos_iff.2 l;have a:=h3;rcases h3.2 with ⟨q,t⟩|⟨g,n,s,q,t,u,v,y⟩;exact Z;obtain⟨rfl,rfl⟩:x=Wy (aL g 0)/\c=n:=G_;have p:=a.lt g aJ;refine⟨bl,λk=>k=g\/k∈bl,h2,⟨h4,λb r=>?_⟩,Z,⟨⟨_,_,_,h1,dz ⟨g,c,s_,ea rfl,G_,p.2,λk j=>?_⟩⟩,λk j=>?_⟩,h6,Z⟩;obtain⟨i,o,rfl⟩:=ki r;exact(h5 i Z bl[i] (ey o)).2.1;have m:k<aA e:=G_;have f:k<aA bl:=Z;have ⟨e1,e2,e3,e4⟩:=h5 k m bl[k] (ey f);refine⟨?_,aJ,(by grind[sG]),_,by rw[YI f,e1,Lp]⟩;have:=a.cells (g:=g) aJ k (NB bl k) (by grind[NB,YI]);grind[TO];rcases j with rfl|j;exact Z;obtain⟨i,o,rfl⟩:=ki j;have ⟨e1,e2,e3,e4⟩:=h5 i Z bl[i] (ey o);exact Z
def Cj.next{l:aN}{j:Nat}{a:List Nat}{G:bL}{X:cY}{v:aX}(hj:j<aA c)(t:aA a=aA c)(H:a.Nodup/\∀b∈a,H_ w<b)(M:R_ w W)(p:∀i (h:i<aA c),i<j->B3 (NB a) F W (NB a i) (fQ c R c[i])) (B:∀k,F k->G k) (n:CP (NB a) (sG a) (c.map (·.x_)) (H_ w) G l ((fQ c R c[j]).code.map Wy) X) (aa:I_ l (aL (H_ w) 1)=Wy v) (ac:Below (H_ w) W l) (C:∀k,F k->l.heap[k]?=W.heap[k]?) (K:0<(fQ c R c[j]).code.length):Cj w c R (j+1) (c9 l (aL (sG a j) 1) v):=by
 have Q:j<aA a:=Z;have ⟨fv,cv',sp,h1,⟨xs,h2,h3⟩,h4,h5⟩:=n.i_;obtain rfl:cv'=v:=by grind[aB]
 have E:j<aA (c.map (·.x_)):=G_;rcases h5 with ⟨e,_⟩|⟨g,A,rfl,P,k2,k3,I⟩;grind;have ⟨m1,m2,m3,x,m4⟩:=I j E;have V:=n.fix _ m3;rcases h2.2 with ⟨_,r2⟩|⟨m,f,D,rfl,r2,r3,r4,r5,r6,r7⟩;grind;have ab:m≠sG a j:=(by grind);have N:∀k (h:k<aA (c.map (·.x_))),g≠sG a k:=λk o e=>by have ⟨z1,z2,z3,z,z4⟩:=I k o;have ⟨y1,_⟩:=I 0 Z;have:=aB z4 (i:=0) aJ;grind
 have J:∀k,k≠sG a j->(c9 l (aL (sG a j) 1) (Xl (Wy (aL m 0)) (aA ((fQ c R c[j]).code.map Wy)) f)).heap[k]?=l.heap[k]?:=(by grind[ej]);have T:(c9 l (aL (sG a j) 1) (Xl (Wy (aL m 0)) (aA ((fQ c R c[j]).code.map Wy)) f)).heap[sG a j]?=Wy (Xt #[Xm (bs (c.map (·.x_))[j]),Xl (Wy (aL m 0)) (aA ((fQ c R c[j]).code.map Wy)) f] 200):=by rw[aP m4];rfl
 have s:∀i (L:i<aA a),i≠j->sG a i≠sG a j:=(by grind[List.getElem_inj,sG]);refine⟨a,λk=>G k\/k=m,t,H,hj,⟨⟨_,_,_,by rw[J _ (Z)];exact h1,dz ⟨g,A,aJ,ea P,k2,G_,λk o=>?_⟩⟩,λk o=>?_⟩,?_,λi L S=>?_⟩;grind[World.cell?_of_block];rcases o with o|rfl;grind[CP.fix];grind;grind[Below.setCell,Below.trans,List.getElem_mem,sG];by_cases r:i=j;subst r;refine⟨sG a i,m,f,D,aJ,ea m3,?_,dz aJ,G_,λq y=>?_⟩;grind[fQ];have ⟨u,u1,u2⟩:=h3.2 q (Wy (fQ c R c[i]).code[q]) (by simp[y]);refine⟨u,?_,lR.Ce u2 m4 G_⟩;grind;have ⟨fb',gc',cap2,cur',a1,a2,a3,a4,a5,a6⟩:=p i L Z;obtain rfl:fb'=sG a i:=G_;have b3:=(C _ a2).trans a3;have b5:=(C _ a4).trans a5;refine⟨sG a i,gc',cap2,cur',aJ,G_,G_,G_,G_,λq y=>?_⟩;have ⟨u,u1,u2⟩:=a6 q y;exact⟨u,u1,lR.Ce (u2.h_ C B) m4 G_⟩
def ZO{lo d:Nat}{a:List aC}(v:aX)(w:aN)(h:vq (sm lo w.heap.size) w v a)(ae:aA a<=90000)(ac:∀f∈a,gY a d f)(af:∀f∈a,∀k∈f.y_,jX k)(ag:∀f∈a,aA f.y_<=90000)(hm:[109,97,105,110]∈a.map (·.x_)):W_ Xi 53 #[v] w λe p=>∃fp F,e=bR (fp (dW a [109,97,105,110]))/\oC fp F p (dX a d)/\R_ w p/\∀k,F k->k<p.heap.size:=by
 have t:a≠[]:=(by grind);rcases h.cells with ⟨_,e⟩|⟨A,L,rfl,ab,ad,Q,S⟩;exact ep e t;refine(TA w A (aA a) L (λv p=>∃fp F,v=fp (dW a [109,97,105,110])/\oC fp F p (dX a d)/\R_ w p/\∀k,F k->k<p.heap.size) (Cb w a) (Cj w a d) Z (Cb.zero w a) (λj W s D=>?_) (λW s=>Cj.zero t s) (λj W s D=>?_) λW s=>?_).mono ?_;have ⟨x,c,bl,h0,h1,h2,h3,h4,h5,h6⟩:=s;have ⟨pv,bv,ps,b,e0,e1,e2,e3,hkids,hps,hbo,hbk⟩:=S j D;obtain⟨px,pc,rfl⟩:=hps.slice;obtain⟨bx,bc,rfl⟩:=hbk.uq;have l:∀o u,I_ w (aL A o)=Wy u->I_ W (aL A o)=Wy u:=(by grind[Below.cell]);exact⟨G_,G_,_,_,_,_,_,_,_,_,_,_,_,_,_,l _ _ e0,l _ _ e1,l _ _ e2,l _ _ e3,h1,h3,(by grind[Cb.next])⟩;have ⟨bl,F,h1,h2,h3,h4,h5,h6⟩:=s;have ⟨pv,bv,ps,b,e0,e1,e2,e3,hkids,hps,hbo,hbk⟩:=S j D;have N:CS (sm lo w.heap.size) w (Xn #[Y a[j].l_,Xm (bs a[j].x_),pv,bv]) a[j]:=(by grind[CS]);obtain⟨px,pc,rfl⟩:=hps.slice;obtain⟨bx,bc,rfl⟩:=hbk.uq;have l:∀o u,I_ w (aL A o)=Wy u->I_ W (aL A o)=Wy u:=(by grind[Below.cell]);have K:=h4;have ⟨⟨X,cv,T,q1,q2⟩,q3⟩:=h4;have r:j<aA (a.map (·.x_)):=G_;rcases q2 with ⟨e,_⟩|⟨g,c,rfl,k1,k2,k3,k4⟩;rw[e]at r;simp at r;have ⟨m1,m2,m3,x,m4⟩:=k4 j r;rw[m2]at m1;have B:aA (a.map (·.x_))=aA a:=s_;refine⟨G_,G_,_,_,_,_,_,_,_,_,g,c,sG bl j,l _ _ e0,l _ _ e1,l _ _ e2,l _ _ e3,by rw[<-B];exact aB q1 aJ,k3,m1,λW' hS=>?_⟩;have m:R_ W W':=((dv _ _).alloc (Z) _).trans (hS.below.mono s_);have z:CQ (NB bl) (sG bl) (a.map (·.x_)) w.heap.size F W':=by obtain⟨⟨X,cv,T,z1,z2⟩,I⟩:=K;exact⟨⟨X,cv,T,by rw[m.block _ (G_)];exact z1,z2.h_ (λk n=>m.block k (I k n).1) (s_) m.size⟩,λk n=>⟨eh (I k n).1 m.size,(I k n).2⟩⟩
 have V:=aH q1;apply (Ry (lo:=lo) (d:=d) Z (λk _=>rfl) z a[j] _ (N.h_ (λk n=>(h5.trans (m.mono Z)).block k n.2) s_) (G_) (G_) (G_)).mono;rintro e p ⟨H,E,G,sn,M,q,J,P,hF⟩;have y:0<(fQ a d a[j]).code.length:=by rw[PP a d hkids];simp
 have aa:=q;have ⟨fv',cv2,sp',y1,⟨xs,y2,y3⟩,y4,y5⟩:=q.i_;obtain rfl:cv2=H:=by have:=aB y1 (i:=1) aJ;grind
 obtain⟨x',c',rfl⟩:=fV y2;have C:∀k,F k->p.heap[k]?=W.heap[k]?:=λk n=>by rw[hF k n,m.block k (q3 k n).1]
 rcases y5 with ⟨e,_⟩|⟨g2,c2,rfl,l1,l2,l3,l4⟩;grind;have ⟨n1,n2,n3,x2,n4⟩:=l4 j r;rw[n2]at n1;refine⟨x',_,c',E,q.lt,⟨g2,c2,by rw[<-B];exact aB y1 aJ,l3,n1⟩,G_,?_,G_,⟨_,aB n4 rfl⟩,aF n4,?_⟩;rw[World.cell?_of_block (C g k1)];exact m1;exact Cj.next D h1 h2 h5 h6 M q J ((m.mono Z).trans P) C y;have ⟨bl,F,h1,h2,h3,h4,h5,h6⟩:=s;apply (TE [109,97,105,110] h4 hm G_).mono;rintro e p ⟨E,rfl⟩;rw[KO]at E;refine⟨_,E,NB bl,F,aJ,λk f hf=>?_,h5,λk n=>(h4.2 k n).1⟩;grind[dX];grind
def F5(w:aN)(E:Option Xe)(Q c0:Nat)(x1:Option Xe)(n1 S:Nat)(P:Xa->Xb->Prop)(A:Xa->Xb->Prop)(T:Xa->Nat->Xa->Xb->Prop)(B:Nat->Xb->Prop) (HC:Xg (W_ Xi 53 #[Xl E Q c0] (i9 w (Xt #[Y 0,bP,bP,bP,Y 0] 55)) λe g=>∃p,e=bR (Xo p)/\A (Xo p) g)) (HT:Xg (∀p W,A (Xo p) W->W_ Xi 54 #[Xl x1 n1 S] (i9 W (Xt #[Xo p,Y 0,Y 0,Xo Wz,bP,bP] 113)) λe g=>∃x n c,e=bR (Xl x n c)/\T (Xo p) W.heap.size (Xl x n c) g)) (HG:Xg (∀p v x n c W,T (Xo p) v (Xl x n c) W->W_ Xi 55 #[aY W.heap.size] (i9 W (Xt #[Y 0,Xl (Wy (aL v 0)) 1 1,Xl x n c,bP,Y 0] 55)) λe g=>e=fA/\B W.heap.size g)) (HB:Xg (∀b W,B b W->∃(q:Nat) (f t o:aX) (r:Nat),W.heap[b]?=Wy (Xt #[Y q,f,t,o,Y r] 55)/\(∃x l c,f=Xl x l c)/\(∃x l c,t=Xl x l c)/\(∃x l c,o=Xl x l c)/\W.heap[w.heap.size]?=Wy (Xt #[Y 0,bP,bP,bP,Y 0] 55)/\b≠w.heap.size/\∀s,Kept [w.heap.size] W s->s.heap.size=W.heap.size->P (Xn #[Y q,f,t,o,Y r]) s)):W_ Xi 18 #[Xl E Q c0,Xl x1 n1 S] w λe g=>∃G,e=bR G/\P G g:=by
 go_in;go_wp;apply HC.mono;rintro e w1 ⟨p,rfl,N⟩;have m:=O (HT _ _ N);generalize ab:w1.heap.size=v at m;clear N;go_wp21;apply m.mono;rintro e w2 ⟨x,n,c,rfl,H⟩;have k:=O (HG _ _ _ _ _ _ H);generalize hb:w2.heap.size=b at k;clear H;go_wp21;refine sa k λd L=>?_;obtain⟨q,f,t,o,r,j,⟨M,I,X,rfl⟩,⟨J,r2,K,rfl⟩,⟨z3,F,s3,rfl⟩,a,q3,V⟩:=HB _ _ L;have HQ:=O V;have aa:=aB (i:=0) j aJ;have am:=aB (i:=1) j aJ;have ah:=aB (i:=2) j aJ;have al:=aB (i:=3) j aJ;have af:=aB (i:=4) j aJ;have u:=aB (i:=0) a aJ;have C:=aB (i:=1) a aJ;have y:=aB (i:=2) a aJ;have D:=aB (i:=3) a aJ;have z:=aB (i:=4) a aJ;have ae:=aF (i:=0) a;have ak:=aF (i:=1) a;have ai:=aF (i:=2) a;have ac:=aF (i:=3) a;have ag:=aF (i:=4) a;have aj:=aH j;have ad:=aH a;clear L V j a;go_wp21;refine⟨aJ,Xn #[Y q,Xl M I X,Xl J r2 K,Xl z3 F s3,Y r],?_,_,aJ,HQ _ ?_ s_⟩;.simp[results,results18,go_sem,u,C,y,D,z]
 grind[Kept.setCell,Kept.refl]
def LI(w:aN)(v:aX)(l:List Int):Prop:=(l=[]/\v=bP)\/∃g o c,v=Xl (Wy (aL g o)) (aA l) c/\g<w.heap.size/\∀i (h:i<aA l),I_ w (aL g (o+i))=Wy (Y l[i])/\-9223372036854775808<=l[i]/\l[i]<=9223372036854775807
def MB(w:aN)(v:aX)(l:List Int)(h:LI w v l)(t:aA l<=17592186044416):∃x n c,v=Xl x n c/\W_ Xi 54 #[Xl x n c] w λe b=>∃x n c,e=bR (Xl x n c)/\R_ w b/\pD (λk=>w.heap.size<=k/\k<b.heap.size) b (Xl x n c) l:=by rcases h with ⟨rfl,rfl⟩|⟨g,o,c,rfl,E,B⟩;refine⟨Wz,0,0,aJ,(NM w).mono ?_⟩;grind[dv,pD];refine⟨_,_,_,aJ,(NN g o (aA l) c (l.map λn=>Value.int .i64 n) w s_ t (λj u F=>?_) λu y=>?_).mono ?_⟩;grind;obtain⟨n,_,rfl⟩:=iw.1 y;rfl;rintro e b ⟨D,rfl,a,q⟩;obtain⟨x,p,rfl⟩:=fV a;refine⟨x,_,p,aJ,q,?_⟩;rcases a.2 with ⟨d,A⟩|⟨m,f,s,d,A,C,r⟩;grind[pD];refine dz ⟨m,0,f,d,r.1,G_,λi z=>⟨?_,(B i z).2⟩⟩;have:=a.cells (g:=m) nl i (Y l[i]) (by simp);grind[TO]
theorem B3.ptr{f:eL}(h:B3 a F W g f):∃p,g=Xo p:=by grind[B3]
def Kept.below{own:List Nat}{a:aN}(h:Kept own W a)(c:R<=W.heap.size)(b:∀k∈own,R<=k):Below R W a:=⟨h.os,h.tape,h.output,h.size,(by grind[Kept.block])⟩
def Af(w:aN)(b:Nat):Prop:=∃c t,w.heap[b]?=Wy (Xt c t)/\(t=293\/t=265\/t=200\/t=272)
section
variable {fp:iJ} {F:bL} {w:aN}
def gX.ty:∀{l:cY}{v:aX},gX F w v l->gX (λb=>F b/\Af w b) w v l|[],_,h=>h|_::_,_,⟨b,o,c,e,d,a⟩=>⟨b,o,c,(by grind[Af]),d,gX.ty a⟩
def VR.ty:∀{d:Nat}{v:aX}{a:aE},VR d F w v a->VR d (λb=>F b/\Af w b) w v a|0,_,_,h=>h.elim|d+1,v,a,h=>by rcases h with h|h|h|⟨o,l,n,m,f⟩;exact ea h;exact dz (ea h);grind[VR];refine dz (dz (dz ⟨o,l,n,m,?_⟩));rcases f with f|⟨g,c,e,r,x,s,t,k⟩;exact ea f;refine dz ⟨g,c,e,r,(by grind[Af]),s,t,λi p=>?_⟩;obtain⟨u,j,q⟩:=k i p;exact⟨u,j,VR.ty q⟩
theorem lR.ty{v:aX}{i:aO}(h:lR fp F w v i):lR fp (λb=>F b/\Af w b) w v i:=by cases i<;>first|exact h|(have ⟨sp,h1,h2⟩:=h;exact⟨sp,h1,h2.ty⟩)|(have ⟨u,h1,⟨d,h2⟩,h3⟩:=h;exact⟨u,h1,⟨d,h2.ty⟩,h3⟩)
def oC.ty{a:List eL}(h:oC fp F w a):oC fp (λb=>F b/\Af w b) w a:=λk f c=>by grind[lR.ty,B3,Af,oC]
end
def Ae(w:aN)(b:Nat):Prop:=w.heap.size<b\/(b<w.heap.size/\Af w b)
def Ae.ne(h:Ae W R):R≠H_ W:=by grind[Ae]
def Nw(w:aN)(b:Nat):Prop:=w.heap.size<=b\/Af w b
theorem Nw.of{b:Nat}(e:R_ w W)(h:Nw W b):Nw w b:=by rcases gw b (H_ w)with a|a;rcases h with h|⟨c,t,d,f⟩;have:=e.size;exact Z;rw[e.block _ a]at d;exact dz ⟨c,t,d,f⟩;exact ea a
def N4{lo d:Nat}{i:List aC}{a:List Int}{r:dC×Nat}(v tv:aX)(w:aN)(h:vq (sm lo w.heap.size) w v i)(am:aA i<=90000)(J:∀f∈i,gY i d f)(an:∀f∈i,∀R∈f.y_,jX R)(ao:∀f∈i,aA f.y_<=90000)(hm:gD i (dW i [109,97,105,110])=Wy 0) (ht:LI w tv a) (ap:aA a<=17592186044416) (hp:oY w) (hU:lH (dX i d)) (u:fE (dX i d) R (jW i d a)=Wy r) (hr:r.2<=1000):W_ Xi 18 #[v,tv] w λe z=>∃v',e=bR v'/\R_ w z/\∃fp G,(∀b,G b->b<z.heap.size/\Ae w b)/\oC fp G z (dX i d)/\pA fp G z v' ⟨0,r.1,cD 0 r.2⟩:=by
 have au:dW i [109,97,105,110]<aA i:=by grind[gD]
 have V:[109,97,105,110]∈i.map (·.x_):=by grind[dW]
 obtain⟨x0,c0,rfl⟩:∃x c,v=Xl x (aA i) c:=by grind[vq]
 obtain⟨x1,n1,c1,rfl⟩:∃x n c,tv=Xl x n c:=by grind[LI]
 generalize ar:(dX i d)[dW i [109,97,105,110]]?.getD ⟨[],[]⟩=f0;have ai:(dX i d)[dW i [109,97,105,110]]?=Wy f0:=by grind[dX]
 have ad:jW i d a=⟨[⟨f0,0,0,[],[],[]⟩],a,[]⟩:=by rw[<-ar];rfl
 have T:=uG J hm a;have ah:iQ (jW i d a):=by rw[ad];intro f hf;simp at hf;subst hf;exact⟨(by grind[lH]),s_,s_⟩
 rw[ad]at T ah u;have ⟨m,hw1⟩:∃m,m=i9 w (Xt #[Y 0,bP,bP,bP,Y 0] 55):=(by simp);have Q:R_ w m:=by grind[eo,dv]
 have ax:m.heap.size=w.heap.size+1:=by rw[hw1];simp
 have av:m.heap[w.heap.size]?=Wy (Xt #[Y 0,bP,bP,bP,Y 0] 55):=by grind[aV]
 have aj:vq (sm lo m.heap.size) m (Xl x0 (aA i) c0) i:=(by grind[vq.grow,ef,sm]);refine(F5 w x0 (aA i) c0 x1 n1 c1 (λv' z=>R_ w z/\∃fp G,(∀b,G b->b<z.heap.size/\Ae w b)/\oC fp G z (dX i d)/\pA fp G z v' ⟨0,r.1,cD 0 r.2⟩) (λp W=>∃fp F,p=fp (dW i [109,97,105,110])/\oC fp F W (dX i d)/\R_ m W/\∀R,F R->R<W.heap.size) (λp l C W=>∃fp F,p=fp (dW i [109,97,105,110])/\oC fp F W (dX i d)/\R_ m W/\(∀R,F R->R<W.heap.size/\R≠l)/\m.heap.size<=l/\l<W.heap.size/\W.heap[l]?=Wy (Xt #[p,Y 0,Y 0,Xo Wz,bP,bP] 113)/\pD F W C a/\∀R,F R->Ae w R) (λb W=>∃fp F l ae C j t,R_ m W/\m.heap.size<=b/\dL WD fp F m.heap.size W b l ae (Y ((0:Nat):Int)) C j (Y (cD 0 r.2)) t r.1/\oC fp F W (dX i d)/\(∀R∈bF WD b l j t,m.heap.size<=R)/\∀R,F R->Ae w R) ?_ (λp W hq=>?_) (λp l x n c W hq=>?_) λb W hq=>?_);rw[<-hw1];apply (ZO (lo:=lo) (d:=d) _ m aj am J an ao V).mono;grind[B3.ptr,oC];have ⟨fp,F,hpe,hT,hb,hF⟩:=hq;have ay:=hT.ty;have hN:∀R,Af W R->Ae w R:=(by grind[ef,Af,Ae]);generalize M:i9 W (Xt #[Xo p,Y 0,Y 0,Xo Wz,bP,bP] 113)=y;have s:R_ W y:=by grind[eo,dv]
 have ak:y.heap.size=W.heap.size+1:=by rw[<-M];simp
 have P:y.heap[W.heap.size]?=Wy (Xt #[Xo p,Y 0,Y 0,Xo Wz,bP,bP] 113):=by grind[aV]
 have hwW:=Q.trans ((hb.mono Z).trans (s.mono (by have:=hb.size;exact Z)));have aq:LI y (Xl x1 n1 c1) a:=by rcases ht with ht|⟨g,o,c,e,hg,hc⟩;exact ea ht;exact dz ⟨g,o,c,e,eh hg hwW.size,(by grind[Below.cell])⟩
 have ⟨x,n,c,e,hcl⟩:=MB y _ a aq ap;rw[e];apply hcl.mono;rintro e z ⟨x',n',c',he,K,I⟩;have hbw:=s.trans (K.mono Z);refine⟨x',n',c',he,fp,λR=>(F R/\Af W R)\/(y.heap.size<=R/\R<z.heap.size),hpe,(by grind[oC.h_,ef]),hb.trans (hbw.mono hb.size),λR u=>?_,hb.size,by have:=K.size;exact Z,by rw[K.block _ Z];exact P,I.h_ (s_) Z,λR u=>by rcases u with N|N;grind;have:=hb.size;exact ea Z⟩;grind[Below.size];have ⟨fp,F,hpe,hT,hb,hF,hg1,hg2,hg3,I,hFz⟩:=hq;generalize M:i9 W (Xt #[Y 0,Xl (Wy (aL l 0)) 1 1,Xl x n c,bP,Y 0] 55)=y;have s:R_ W y:=by grind[eo,dv]
 have ak:y.heap.size=W.heap.size+1:=by rw[<-M];simp
 have P:y.heap[W.heap.size]?=Wy (Xt #[Y 0,Xl (Wy (aL l 0)) 1 1,Xl x n c,bP,Y 0] 55):=by grind[aV]
 have hTW:=hT.h_ (λR u=>s.block R (hF R u).1) LR;have ac:bF WD W.heap.size l (bP) [⟨Xo p,Y 0,Y 0,Xo Wz,bP,bP⟩]=[W.heap.size,l]:=rfl;have D:oX F m.heap.size y (bP) []:=⟨⟨[],Ww _ _ _ _,iH.nil _ _⟩,s_⟩;have aa:dL WD fp F m.heap.size y W.heap.size l 1 (Y ((0:Nat):Int)) (Xl x n c) (bP) (Y 0) [⟨Xo p,Y 0,Y 0,Xo Wz,bP,bP⟩] ⟨[⟨f0,0,0,[],[],[]⟩],a,[]⟩:=by refine⟨P,⟨aJ,dz ⟨l,1,_,aJ,hg1,by rw[s.block _ hg2];exact hg3,s_,lg,rfl,rfl⟩⟩,⟨⟨?_,rfl,rfl,rfl,D,D⟩,trivial⟩,I.h_ (λR u=>s.block R (hF R u).1) s_,Ww _ _ _ _,?_,?_,λR u=>?_⟩;rw[hpe];exact hTW _ _ ai;grind;grind;grind
 have hb0:=hb.trans (s.mono hb.size);have hbw0:=Q.trans (hb0.mono Z);refine(XX (nX J) hU aa hTW (EC.of hp hbw0 λR u=>?_) hb0.size T ah s_ Z u Z hr).mono ?_;grind;rintro e z ⟨he,L,G,ag,S,af,A,E,d1,d2,d3⟩;rw[ac]at d3 L;have ab:∀x∈bF WD W.heap.size ag A E,m.heap.size<=x:=(by grind);have al:∀R∈[W.heap.size,l],m.heap.size<=R:=(by grind);refine⟨he,fp,G,ag,S,af,A,E,hb0.trans (L.below hb0.size al),hb.size,d2,?_,ab,λR u=>?_⟩;refine hTW.h_ (λR u=>L.block R (G_) λhm=>?_) d1.sub;grind;grind[uj.new,Ae];have ⟨fp,F,l,ae,C,j,t,g1,g2,g5,gT,g6,g7⟩:=hq;have X:=g5.i_;refine⟨_,_,_,_,_,X,s_,?_,zZ g5.out,lm,Z,λy B aw=>?_⟩;rcases g5.tape with ⟨_,x,c,e⟩|⟨g,o,c,e,_⟩<;>exact⟨_,_,_,e⟩;have hb0:=Q.trans (g1.mono Z);have hS:=g5.kept (G:=λR=>F R\/(R∈bF WD b l j t/\R≠b)) (λ_ h=>ea h) (λR q hn=>dz ⟨q,hn⟩);have H:∀R,(F R\/(R∈bF WD b l j t/\R≠b))->Ae w R/\R<W.heap.size:=λR q=>by rcases q with N|⟨N,_⟩;exact⟨g7 R N,(g5.apart R N).1⟩;have:=g6 R N;exact⟨ea Z,g5.lt R N⟩
 have hkk:=λR q=>B.block R (H R q).2 (by simpa using (H R q).1.ne);refine⟨⟨B.os.trans hb0.os,B.tape.trans hb0.tape,B.output.trans hb0.output,G_,λR q=>?_⟩,fp,λR=>F R\/(R∈bF WD b l j t/\R≠b),G_,(by grind[oC.h_]),hS.h_ hkk s_⟩;grind[Kept.block,ef]
