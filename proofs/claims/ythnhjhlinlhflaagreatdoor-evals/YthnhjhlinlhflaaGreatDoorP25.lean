import Derived.Test.YthnhjhlinlhflaaGreatDoorP24
import Derived.Test.YthnhjhlinlhflaaGreatDoorP23
set_option linter.all false
set_option maxRecDepth 100000
set_option maxHeartbeats 0
open List renaming length->aA
open Go.World renaming setCell->c9,alloc->h_,cell?->i9,ownsRow_nil->Wh
open Option renaming some->Wj,none->Wk
open Bool renaming false->Wl
open Go renaming Calls->Wn,Value->Wo,World->Wp,TypeId->Wr,Addr->Ws
open Go.RowKit renaming Hid->Wu
open Go.Proofs.Tryz renaming prog->Ww
open Go.Value renaming slice->Wz,string->WD,agg->W1,pointer->W_
open Go.Obj renaming cells->Xe
namespace Go.Proofs.YthnhjhlinlhflaaGreatDoor
open Hs _root_.Go.Proofs.Tryz Go.RowKit
variable{c:List aC}{R:Nat}{W w:aL}{g:aU}{F:bI}{a:iD}
def I3(l:Int)(a b c:aU)(w:aL):(Go.method 597 330 (W1 #[Y l,a,b,c]) "Line").run Ww w=.ok (145,W1 #[Y l]) w:=k_
def Ju(l:Int)(a b c:aU)(w:aL):(Go.method 597 333 (W1 #[Y l,a,b,c]) "Line").run Ww w=.ok (145,W1 #[Y l]) w:=k_
def Sy(l:Int)(a b c:aU)(w:aL):(Go.method 597 335 (W1 #[Y l,a,b,c]) "Line").run Ww w=.ok (145,W1 #[Y l]) w:=k_
def Ib(l:Int)(a b:aU)(w:aL):(Go.method 597 337 (W1 #[Y l,a,b]) "Line").run Ww w=.ok (145,W1 #[Y l]) w:=k_
def Oy(l:Int)(a:aU)(w:aL):(Go.method 597 339 (W1 #[Y l,a]) "Line").run Ww w=.ok (145,W1 #[Y l]) w:=k_
def Tb(l:Int)(a:aU)(w:aL):(Go.method 597 340 (W1 #[Y l,a]) "Line").run Ww w=.ok (145,W1 #[Y l]) w:=k_
def Ti(l:Int)(a b:aU)(w:aL):(Go.method 597 342 (W1 #[Y l,a,b]) "Line").run Ww w=.ok (145,W1 #[Y l]) w:=k_
def rZ(a:aU)(w:aL):(callFunc 145 #[a]).run Ww w=.ok (.enter 145 #[a]) w:=k_
def lB(l:Int)(w:aL):Wn Ww 145 #[W1 #[Y l]] w λe a=>e=bP (Y l)/\a=dZ w #[Y l] 178:=by go_in;go_wp2;go_ret;exact⟨i_,i_⟩
def yZ(w:aL)(c b:Nat)(l:Int)(p:Option Ws)(i:Wr)(g:aU)(P:lF)(Q:lF)(R:lF)(z:c<H_ w)(y:eJ w c 2 (W_ p)) (o:Wu (Wn Ww 150 #[aW c,dA 277 (W1 #[Y l,W_ p])] (dZ w.drew #[Y l] 178) λe a=>e=bP (Y b)/\Q a)) (t:Wu (∀W,Q W->Wn Ww 234 #[aW c,dA i g] (dZ W #[Y l,dA i g] 339) λe a=>e=eV/\R a)) (s:Wu (∀W,R W->Wn Ww 150 #[aW c,dA 268 (W1 #[])] W λe a=>(∃k:Nat,e=bP (Y k))/\P a)):Wn Ww 203 #[aW c,dA 339 (W1 #[Y l,dA i g])] w λe a=>e=eV/\P a:=by have x:=Oy;have r:=rZ;go_in;go_wp2;go_region_law (go_simp;first|(go_at_call 145;apply pN (lB l _))|(go_at_call 150;refine rB o λA j=>?_));all_goals have f:=O (t _ j);clear j;go_wp;refine rB f λv n=>?_;have d:=O (s _ n);clear n;go_wp21;apply d.mono;rintro e u ⟨⟨m,rfl⟩,q⟩;go_wp2;go_end0;exact⟨i_,q⟩
def RY(w:aL)(c b:Nat)(l:Int)(p:Option Ws)(i:Wr)(g:aU)(P:lF)(Q:lF)(R:lF)(z:c<H_ w)(y:eJ w c 2 (W_ p)) (o:Wu (Wn Ww 150 #[aW c,dA 277 (W1 #[Y l,W_ p])] (dZ w.drew #[Y l] 178) λe a=>e=bP (Y b)/\Q a)) (t:Wu (∀W,Q W->Wn Ww 234 #[aW c,dA i g] (dZ W #[Y l,dA i g] 340) λe a=>e=eV/\R a)) (s:Wu (∀W,R W->Wn Ww 150 #[aW c,dA 374 (W1 #[])] W λe a=>(∃k:Nat,e=bP (Y k))/\P a)):Wn Ww 203 #[aW c,dA 340 (W1 #[Y l,dA i g])] w λe a=>e=eV/\P a:=by have x:=Tb;have r:=rZ;go_in;go_wp2;go_region_law (go_simp;first|(go_at_call 145;apply pN (lB l _))|(go_at_call 150;refine rB o λA j=>?_));all_goals have f:=O (t _ j);clear j;go_wp;refine rB f λv n=>?_;have d:=O (s _ n);clear n;go_wp21;apply d.mono;rintro e u ⟨⟨m,rfl⟩,q⟩;go_wp2;go_end0;exact⟨i_,q⟩
def VW(w:aL)(d b:Nat)(l:Int)(p:Option Ws)(i:ByteArray)(x:Option Ws)(n c:Nat)(P:lF)(Q:lF)(R:lF)(B:d<H_ w)(A:eJ w d 2 (W_ p)) (q:Wu (Wn Ww 150 #[aW d,dA 277 (W1 #[Y l,W_ p])] (dZ w.drew #[Y l] 178) λe a=>e=bP (Y b)/\Q a)) (u:Wu (∀W,Q W->Wn Ww 254 #[aW d,W1 #[Y l,Q_ i,P_ x n c]] (dZ W #[Y l,Q_ i,P_ x n c] 342) λe a=>e=eV/\R a)) (t:Wu (∀W,R W->Wn Ww 150 #[aW d,dA 375 (W1 #[])] W λe a=>(∃k:Nat,e=bP (Y k))/\P a)):Wn Ww 203 #[aW d,dA 342 (W1 #[Y l,Q_ i,P_ x n c])] w λe a=>e=eV/\P a:=by have z:=Ti;have s:=rZ;go_in;go_wp2;go_region_law (go_simp;first|(go_at_call 145;apply pN (lB l _))|(go_at_call 150;refine rB q λC j=>?_));all_goals have g:=O (u _ j);clear j;go_wp;refine rB g λy o=>?_;have f:=O (t _ o);clear o;go_wp21;apply f.mono;rintro e v ⟨⟨m,rfl⟩,r⟩;go_wp2;go_end0;exact⟨i_,r⟩
def OX(w:aL)(d b:Nat)(l:Int)(p:Option Ws)(j:Wr)(g:aU)(n k:Option Ws)(m o i a:Nat)(P:lF)(Q:lF)(z:d<H_ w)(y:eJ w d 2 (W_ p)) (r:Wu (Wn Ww 150 #[aW d,dA 277 (W1 #[Y l,W_ p])] (dZ w.drew #[Y l] 178) λe c=>e=bP (Y b)/\Q c)) (u:Wu (∀W,Q W->Wn Ww 252 #[aW d,W1 #[Y l,dA j g,P_ n m i,P_ k o a]] (dZ W #[Y l,dA j g,P_ n m i,P_ k o a] 335) λe c=>e=eV/\P c)):Wn Ww 203 #[aW d,dA 335 (W1 #[Y l,dA j g,P_ n m i,P_ k o a])] w λe c=>e=eV/\P c:=by have x:=Sy;have s:=rZ;go_in;go_wp2;go_region_law (go_simp;first|(go_at_call 145;apply pN (lB l _))|(go_at_call 150;refine rB r λA q=>?_));all_goals have f:=O (u _ q);clear q;go_wp;refine rB f λv t=>?_;go_wp2;go_end0;exact⟨i_,t⟩
def RU(w:aL)(c a:Nat)(l:Int)(p:Option Ws)(i:Wr)(f:aU)(k:Option Ws)(j g:Nat)(P:lF)(Q:lF)(v:c<H_ w)(u:eJ w c 2 (W_ p)) (n:Wu (Wn Ww 150 #[aW c,dA 277 (W1 #[Y l,W_ p])] (dZ w.drew #[Y l] 178) λe b=>e=bP (Y a)/\Q b)) (r:Wu (∀W,Q W->Wn Ww 253 #[aW c,W1 #[Y l,dA i f,P_ k j g],Y a] (dZ W #[Y l,dA i f,P_ k j g] 337) λe b=>e=eV/\P b)):Wn Ww 203 #[aW c,dA 337 (W1 #[Y l,dA i f,P_ k j g])] w λe b=>e=eV/\P b:=by have t:=Ib;have o:=rZ;go_in;go_wp2;go_region_law (go_simp;first|(go_at_call 145;apply pN (lB l _))|(go_at_call 150;refine rB n λx m=>?_));all_goals have d:=O (r _ m);clear m;go_wp;refine rB d λs q=>?_;go_wp2;go_end0;exact⟨i_,q⟩
def JE(w:aL)(c d:Nat)(l:Int)(p:Option Ws)(x:Int)(g:ByteArray)(s:Wr)(o:aU)(n:Nat)(P:lF)(Q:lF)(R j:Nat->Wp->Prop)(M:c<H_ w)(L:eJ w c 2 (W_ p)) (y:Wu (Wn Ww 150 #[aW c,dA 277 (W1 #[Y l,W_ p])] (dZ w.drew #[Y l] 178) λe a=>e=bP (Y d)/\Q a)) (G:Wu (∀W,Q W->Wn Ww 234 #[aW c,dA s o] (dZ W #[Y l,Y x,Q_ g,dA s o] 330) λe a=>e=eV/\R (H_ W) a)) (z:Wu (∀b W,R b W->Wn Ww 202 #[aW c] W λe a=>e=bP (Y n)/\a=W)) (E:Wu (∀b W,R b W->Wn Ww 150 #[aW c,dA 369 (W1 #[Y n])] W λe a=>(∃k:Nat,e=bP (Y k))/\j b a)) (A:Wu (∀b W,j b W->eJ W b 2 (Q_ g)/\b<H_ W)) (C:Wu (∀b W,j b W->Wn Ww 148 #[aW c,Q_ g] W λe a=>e=eV/\P a)):Wn Ww 203 #[aW c,dA 330 (W1 #[Y l,Y x,Q_ g,dA s o])] w λe a=>e=eV/\P a:=by have K:=I3;have B:=rZ;go_in;go_wp2;go_region_law (go_simp;first|(go_at_call 145;apply pN (lB l _))|(go_at_call 150;refine rB y λF v=>?_));all_goals have f:=O (G _ v);generalize I:H_ F=b at f;clear v;go_wp;refine rB f λH t=>?_;have u:=O (z _ _ t);have i:=O (E _ _ t);clear t;go_wp21;refine pN u ?_;go_wp21;apply i.mono;rintro e N ⟨⟨m,rfl⟩,q⟩;have ⟨d1,d2⟩:=A _ _ q;have r:=O (C _ _ q);clear q;go_wp21;refine rB r λJ D=>?_;go_wp2;go_end0;exact⟨i_,D⟩
def MV(w:aL)(d f:Nat)(l:Int)(p:Option Ws)(j:ByteArray)(x:Option Ws)(n c k:Nat)(r:Wr)(q:aU)(P:lF)(Q:lF)(R o:Nat->Wp->Prop)(V:d<H_ w)(U:eJ w d 2 (W_ p)) (A:Wu (Wn Ww 150 #[aW d,dA 277 (W1 #[Y l,W_ p])] (dZ w.drew #[Y l] 178) λe a=>e=bP (Y f)/\Q a)) (I:Wu (∀W,Q W->Wn Ww 250 #[aW d,P_ x n c] (dZ W #[Y l,Q_ j,P_ x n c,dA r q] 333) λe a=>e=eV/\R (H_ W) a)) (B:Wu (∀b W,R b W->eJ W b 3 (dA r q)/\b<H_ W)) (C:Wu (∀b W,R b W->Wn Ww 234 #[aW d,dA r q] W λe a=>e=eV/\o b a)) (v:Wu (∀b W,o b W->eJ W b 1 (Q_ j)/\eJ W b 2 (P_ x n c)/\b<H_ W)) (E:Wu (∀b W g,o b W->bZ W g->Wn Ww 251 #[aW d,Q_ j] g λe a=>e=bP (Y k)/\a=g)) (G:Wu (∀b W g,o b W->bZ W g->Wn Ww 150 #[aW d,dA 371 (W1 #[Y k,Y n])] g λe a=>(∃k:Nat,e=bP (Y k))/\P a)):Wn Ww 203 #[aW d,dA 333 (W1 #[Y l,Q_ j,P_ x n c,dA r q])] w λe a=>e=eV/\P a:=by have S:=Ju;have D:=rZ;go_in;go_wp2;go_region_law (go_simp;first|(go_at_call 145;apply pN (lB l _))|(go_at_call 150;refine rB A λH y=>?_));all_goals have i:=O (I _ y);generalize N:H_ H=b at i;clear y;go_wp;refine rB i λL u=>?_;obtain⟨T,K⟩:=B _ _ u;have t:=O (C _ _ u);clear u;go_wp21;refine rB t λJ s=>?_;have ⟨f1,f2,f3⟩:=v _ _ s;have z:=O s;clear s;go_wp2;go_region_law (go_simp;first|(go_at_call 251;apply pN (E _ _ _ z (bZ.drew _)))|(go_at_call 150;apply (G _ _ _ z (bZ.drew _)).mono;rintro e M ⟨⟨m,rfl⟩,F⟩));all_goals go_wp2;go_end0;exact⟨i_,F⟩
def GL(w:aL)(d g n b:Nat)(C:Nat->Wp->Prop)(k:n<=1000000)(c:C 0 w) (HC:Wu (∀j W,C j W->j<n->g<H_ W/\∃t z,i9 W (aJ g j)=Wj (.iface t z)/\Wn Ww 203 #[aW d,.iface t z] W λe a=>e=eV/\C (j+1) a)):Wn Ww 149 #[aW d,Wz (Wj (aJ g 0)) n b] w λe a=>e=eV/\C n a:=by
 have f:=O c;clear c;go_in;go_wp2;go_loopg [5,8] n (λgk _ i wr=>∃j:Nat,j+gk=n/\i=Y j/\C j wr);case atStart=>grind[dz]
 case round=>exact UY
def JD(w:aL)(a:Nat):Wn Ww 149 #[aW a,bR] w λe b=>e=eV/\b=w:=by
 go_in;go_wp2;go_loopg [5,8] 0 (λ_ _ i wr=>i=Y 0/\wr=w);case atStart=>simp
 case round=>go_wp2;go_end0;simp
def X3(w:aL)(a:Nat)(p x:Option Ws)(n c:Nat)(P Q:lF)(o:eJ w a 2 (W_ p)) (j:Wu (Wn Ww 149 #[aW a,P_ x n c] w λe b=>e=eV/\Q b)) (f:Wu (∀W,Q W->(∃u,eJ W a 2 u)/\W.frozen? (aJ a 2)=Wl/\a<H_ W/\P (c9 W (aJ a 2) (W_ p)))):Wn Ww 283 #[aW a,P_ x n c] w λe b=>e=eV/\P b:=by go_in;go_wp;refine rB j λk g=>?_;obtain⟨⟨u,l⟩,q,m,d⟩:=f _ g;have i:=O d;go_wp2;go_end0;exact⟨i_,i⟩
def A8(w:aL)(b d i:Nat)(l:Int)(B:Wr)(x:aU)(q o:Option Ws)(p r k m:Nat)(P Q G H I t M:lF) (HX:Wu (Wn Ww 234 #[aW b,dA B x] (dZ w #[Y l,dA B x,P_ q p k,P_ o r m] 335) λe a=>e=eV/\Q a)) (A:Wu (∀W,Q W->Wn Ww 150 #[aW b,.nilIface] W λe a=>e=bP (Y d)/\G a)) (D:Wu (∀W,G W->eJ W (H_ w) 2 (P_ q p k)/\H_ w<H_ W)) (HT:Wu (∀W,G W->Wn Ww 283 #[aW b,P_ q p k] W λe a=>e=eV/\H a)) (v:Wu (∀W,H W->Wn Ww 150 #[aW b,.nilIface] W λe a=>e=bP (Y i)/\I a)) (C:Wu (∀W,I W->b<H_ W/\∃g n c,eJ W b 1 (P_ (Wj (aJ g 0)) n c)/\d<n/\n<=1000000/\(∃u,eJ W g d u)/\W.frozen? (aJ g d)=Wl/\g<H_ W/\∀j,bZ (c9 W (aJ g d) (dA 408 (W1 #[Y n]))) j->t j)) (y:Wu (∀W,t W->eJ W (H_ w) 3 (P_ o r m)/\H_ w<H_ W)) (HL:Wu (∀W,t W->Wn Ww 283 #[aW b,P_ o r m] W λe a=>e=eV/\M a)) (F:Wu (∀W,M W->b<H_ W/\∃g n c,eJ W b 1 (P_ (Wj (aJ g 0)) n c)/\i<n/\n<=1000000/\(∃u,eJ W g i u)/\W.frozen? (aJ g i)=Wl/\g<H_ W/\∀j,bZ (c9 W (aJ g i) (dA 409 (W1 #[Y n]))) j->P j)):Wn Ww 252 #[aW b,W1 #[Y l,dA B x,P_ q p k,P_ o r m]] w λe a=>e=eV/\P a:=by go_in;go_wp;refine rB HX λw1 L=>?_;have H1:=O (A _ L);clear L;go_wp21;refine rB H1 λw2 s=>?_;have ⟨b1,b2⟩:=D _ s;have H2:=O (HT _ s);clear s;go_wp21;refine rB H2 λw3 N=>?_;have H3:=O (v _ N);clear N;go_wp21;refine rB H3 λU K=>?_;have ⟨f3,g,n,c,f4,f5,f6,⟨u,f7⟩,f8,f9,f10⟩:=C _ K;have HP:=O f10;have i1:(0:Int)<=(d:Int):=Z;have i2:(d:Int)<(n:Int):=Z;clear K f10;go_wp2;go_region;all_goals have z:=HP _ (bZ.drew _);have ⟨d1,d2⟩:=y _ z;have H5:=O (HL _ z);clear z;generalize J:(c9 U (aJ g d) (dA 408 (W1 #[Y n]))).drew=w5 at*;have HW:=O J;clear J;go_wp;refine rB H5 λw6 S=>?_;obtain⟨af,g',V,c',ac,ag,ab,⟨u',X⟩,ad,T,f⟩:=F _ S;have E:=O f;have ae:(0:Int)<=(i:Int):=Z;have aa:(i:Int)<(V:Int):=Z;clear S f;go_wp2;go_region;all_goals go_wp2;go_end0;exact⟨i_,E _ (bZ.drew _)⟩
def T6(w:aL)(d k a:Nat)(l:Int)(r:Wr)(p:aU)(j:Option Ws)(i f:Nat)(P C v x y:lF) (I:Wu (Wn Ww 234 #[aW d,dA r p] (dZ w #[Y l,dA r p,P_ j i f] 337) λe b=>e=eV/\C b)) (q:Wu (∀W,C W->Wn Ww 150 #[aW d,.nilIface] W λe b=>e=bP (Y k)/\v b)) (t:Wu (∀W,v W->eJ W (H_ w) 2 (P_ j i f)/\H_ w<H_ W)) (J:Wu (∀W,v W->Wn Ww 283 #[aW d,P_ j i f] W λe b=>e=eV/\x b)) (E:Wu (∀W,x W->Wn Ww 150 #[aW d,dA 409 (W1 #[Y a])] W λe b=>(∃k:Nat,e=bP (Y k))/\y b)) (s:Wu (∀W,y W->d<H_ W/\∃g n c,eJ W d 1 (P_ (Wj (aJ g 0)) n c)/\k<n/\n<=1000000/\(∃u,eJ W g k u)/\W.frozen? (aJ g k)=Wl/\g<H_ W/\∀D,bZ (c9 W (aJ g k) (dA 408 (W1 #[Y n]))) D->P D)):Wn Ww 253 #[aW d,W1 #[Y l,dA r p,P_ j i f],Y a] w λe b=>e=eV/\P b:=by go_in;go_wp;refine rB I λL A=>?_;have G:=O (q _ A);clear A;go_wp21;refine rB G λT o=>?_;have ⟨b1,b2⟩:=t _ o;have H:=O (J _ o);clear o;go_wp21;refine rB H λM B=>?_;have F:=O (E _ B);clear B;go_wp21;apply F.mono;rintro e K ⟨⟨m,rfl⟩,z⟩;have ⟨f3,g,n,c,f4,f5,f6,⟨u,f7⟩,f8,f9,f10⟩:=s _ z;have Q:=O f10;have S:(0:Int)<=(k:Int):=Z;have N:(k:Int)<(n:Int):=Z;clear z f10;go_wp2;go_region;all_goals go_wp2;go_end0;grind[dz,bZ.drew]
def Sz(w:aL)(a:Nat)(l:Int)(N:ByteArray)(t p:Option Ws)(d L r s:Nat)(P:Wo->Wp->Prop)(I:Nat->Wp->Prop)(Q R S:lF)(hl:a<H_ w)(X:d<=1000000) (z:∃u,eJ w a 1 u) (A:∃u,eJ w a 2 u) (f1:w.frozen? (aJ a 1)=Wl) (f2:w.frozen? (aJ a 2)=Wl) (HI:Wu (I 0 (dZ (c9 (c9 w (aJ a 1) (bR)) (aJ a 2) (W_ Wk)) #[Y l,Q_ N,P_ t d L,P_ p r s] 184))) (HP:Wu (∀j W,I j W->j<d->∃g E o,t=Wj (aJ g 0)/\g<H_ W/\eJ W g (j*2) (Y E)/\eJ W g (j*2+1) (Q_ o)/\Wn Ww 148 #[aW a,Q_ o] (dZ W #[Y E,Q_ o] 180) λe f=>e=eV/\I (j+1) f)) (HB:Wu (∀W,I d W->eJ W (H_ w) 3 (P_ p r s)/\H_ w<H_ W/\Wn Ww 149 #[aW a,P_ p r s] W λe f=>e=eV/\Q f)) (HE:Wu (∀W,Q W->Wn Ww 150 #[aW a,dA 266 (W1 #[dA 262 (Y 0)])] W λe f=>(∃k:Nat,e=bP (Y k))/\R f)) (HG:Wu (∀W,R W->Wn Ww 150 #[aW a,dA 268 (W1 #[])] W λe f=>(∃k:Nat,e=bP (Y k))/\S f)) (HS:Wu (∀W,S W->a<H_ W/\∃x n c,eJ W a 1 (P_ x n c)/\P (P_ x n c) W)):Wn Ww 90 #[aW a,W1 #[Y l,Q_ N,P_ t d L,P_ p r s]] w λe f=>∃H,e=bP H/\P H f:=by
 have ⟨u1,z⟩:=z;have ⟨u2,A⟩:=A;have U:¬a=H_ w:=Z;have M:¬(H_ w)=a:=Z;go_in;go_wp2;go_loopg [6,16] d (λgk _ i wr=>∃j:Nat,j+gk=d/\i=Y j/\I j wr);case atStart=>grind[dz]
 case round=>
  obtain⟨j,hj,rfl,q⟩:=hrel;clear z A f1 f2 HI;by_cases v:j<d
  .obtain⟨m,rfl⟩:∃m,gk=m+1:=⟨gk-1,Z⟩;obtain⟨g,E,o,rfl,hg,J,T,b⟩:=HP _ _ q v;have F:=O b;have e1:(0:Int)<=(j:Int):=Z;have e2:(j:Int)<(d:Int):=Z;clear q b;go_wp;refine rB F λV y=>?_;go_wp2;go_roundg m;case measure=>exact Z
   grind
  have B:j=d:=Z;subst B;have ⟨J,T,b⟩:=HB _ q;have F:=O b;clear q b;go_wp;refine rB F λV y=>?_;have D:=O (HE _ y);clear y J;go_wp21;apply D.mono;rintro e w2 ⟨⟨k,rfl⟩,G⟩;have C:=O (HG _ G);clear G;go_wp21;apply C.mono;rintro e w3 ⟨⟨k2,rfl⟩,K⟩;have ⟨g1,x,n,c,g2,g3⟩:=HS _ K;have HF:=O g3;clear K g3;go_wp2;go_ret;exact⟨_,i_,HF⟩
def Sk:(prog.info? 105).map (λi=>(i.zero,i.size,i.bytes))=Wj (Wj (W_ Wk),1,8):=k_
def TU(w:aL)(q n ac:Nat)(P:Wo->Wp->Prop)(H:Nat->Wp->Prop)(J:Nat->Wp->Prop)(hn:n<=1000000) (H0:Wu (H 0 (h_ w (Xe #[bR,bR,W_ Wk] 197)))) (U:Wu (∀j W,H j W->j<n->H_ w<H_ W/\q<H_ W/\∃l t A y s r z o x c L M K,i9 W (aJ q (j*4))=Wj (Y l)/\i9 W (aJ q (j*4+1))=Wj (WD t)/\i9 W (aJ q (j*4+1+1))=Wj (Wz A y s)/\i9 W (aJ q (j*4+1+1+1))=Wj (Wz r z o)/\W.heap[H_ w]?=Wj (Xe #[Wz x j c,M,K] 197)/\W.ownsRow (H_ w+1) 105 1 (Wz x j c) j L/\∀W3 G d E,W3=h_ (h_ (h_ W (Xe #[Y l,WD t,Wz A y s,Wz r z o] 184)) (Xe #[WD t,bR] 199)) (Xe #[aW (H_ W+1)] 105)->E.ownsRow (H_ w+1) 105 1 (Wz (Wj (aJ G 0)) (j+1) d) (j+1) (L++[aW (H_ W+1)])->W3.grownBy E (Value.slice x j c).ownBlock->((Value.slice x j c).ownBlock=Wj G\/G=H_ W+3)->E.heap[H_ w]?=Wj (Xe #[Wz x j c,M,K] 197)->H (j+1) (c9 E (aJ (H_ w) 0) (Wz (Wj (aJ G 0)) (j+1) d)))) (I:Wu (∀W,H n W->J 0 W)) (H2:Wu (∀j W,J j W->j<n->H_ w<H_ W/\q<H_ W/\∃l t A y s r z o g c fb,i9 W (aJ q (j*4))=Wj (Y l)/\i9 W (aJ q (j*4+1))=Wj (WD t)/\i9 W (aJ q (j*4+1+1))=Wj (Wz A y s)/\i9 W (aJ q (j*4+1+1+1))=Wj (Wz r z o)/\W.cell? (aJ (H_ w) 0)=Wj (Wz (Wj (aJ g 0)) n c)/\g<H_ W/\i9 W (aJ g j)=Wj (aW fb)/\∀W',bZ (h_ W (Xe #[Y l,WD t,Wz A y s,Wz r z o] 184)) W'->Wn Ww 90 #[aW (H_ w),W1 #[Y l,WD t,Wz A y s,Wz r z o]] W' λe f=>∃x n3 X,e=bP (Wz x n3 X)/\(H_ w)<H_ f/\(∃N o,i9 f (aJ (H_ w) 0)=Wj (Wz (Wj (aJ N 0)) n o)/\N<H_ f/\i9 f (aJ N j)=Wj (aW fb))/\g<H_ f/\i9 f (aJ g j)=Wj (aW fb)/\fb<H_ f/\(∃u,i9 f (aJ fb 1)=Wj u)/\f.frozen? (aJ fb 1)=Wl/\J (j+1) (c9 f (aJ fb 1) (Wz x n3 X)))) (H3:Wu (∀W,J n W->Wn Ww 91 #[aW (H_ w),WD ⟨#[109,97,105,110]⟩] W λe f=>∃v,e=bP (W_ v)/\P (W_ v) f)):Wn Ww 52 #[Wz (Wj (aJ q 0)) n ac] w λe f=>∃v,e=bP v/\P v f:=by
 have ⟨i0,hi,hz0,hz1,hz2⟩:=info_parts Sk;go_in;go_wp2;go_loopg [5,10] n (λgk _ i wr=>∃j:Nat,j+gk=n/\i=Y j/\H j wr);case atStart=>exact⟨0,Z,rfl,H0⟩
 case round=>
  obtain⟨j,hj,rfl,B⟩:=hrel;clear H0;by_cases F:j<n
  .obtain⟨m,rfl⟩:∃m,gk=m+1:=⟨gk-1,Z⟩;have ⟨hl0,hl1,l,t,A,y,s,r,z,o,x,c,L,M,K,d1,d2,d3,d4,d5,d6,d7⟩:=U _ _ B F;have HO:=O d6;have HB:=O d5;have HK:=O d7;have q0:=aB (i:=0) d5 i_;have e1:(0:Int)<=(j:Int):=Z;have e2:(j:Int)<(n:Int):=Z;clear B d5 d6 d7 U;have HN:Wu (∀W:aL,W.heap[H_ wr+1+1]?=Wj (Xe #[aW (H_ wr+1)] 105)->∀k v,([aW (H_ wr+1)]:List Wo)[k]?=Wj v->i9 W ((⟨H_ wr+1+1,0,Wk⟩:Ws).add k)=Wj v):=λW hW k v hk=>World.news_of_block hW k v Z;have HL:Wu ((h_ (h_ (h_ wr (Xe #[Y l,WD t,Wz A y s,Wz r z o] 184)) (Xe #[WD t,bR] 199)) (Xe #[aW (H_ wr+1)] 105)).heap[H_ wr+1+1]?=Wj (Xe #[aW (H_ wr+1)] 105)):=aS _ _ s_ _;have C:∀v∈([aW (H_ wr+1)]:List Wo),v.oneCell'=true:=λv hv=>by simp at hv;rw[hv];rfl
   have HONE:=O C;clear C;go_wp2_with (at_builtin;refine wpList_append_lies _ r_ _ _ 194 r_ (H_ w+1) 105 i0 _ 1 8 underlying194 hi hz0 hz1 hz2 rfl d_ (Wz x j c) j L r_ (((HO.alloc _).alloc _).alloc _) (aJ (H_ wr+1+1) 0) 1 1 [_] r_ r_ (HN _ HL) HONE d_ ky Z ku (H_ wr+3) s_ ?_);intro G d E p b D ab;have S:Wj (H_ w)≠(Value.slice x j c).ownBlock:=λe=>by have:=(HO.lt _ e.symm).1;exact Z
   have a:E.heap[H_ w]?=Wj (Xe #[Wz x j c,M,K] 197):=by rw[b.block _ ku S,ed _ _ _ ku,ed _ _ _ ku,ed _ _ _ hl0];exact HB
   have ae:=aB (i:=0) a i_;have ag:=aE a (i:=0);have ad:=aH a;have HFIN:=O (HK _ G d E i_ p b D a);clear p b D a ab q0 d1 d2 d3 d4;go_wp2;go_roundg m;case measure=>exact Z
   case rel=>exact⟨j+1,Z,lj,HFIN⟩
  have T:j=n:=Z;subst T;have aa:=O (I _ B);clear B I U;go_wp2;go_loopg [6,7,27] j (λgk _ _ i wr=>∃k:Nat,k+gk=j/\i=Y k/\J k wr);case atStart=>grind[dz]
  case round=>
   obtain⟨k,ah,rfl,B⟩:=hrel;clear aa;by_cases F:k<j;.obtain⟨m,rfl⟩:∃m,gk=m+1:=⟨gk-1,Z⟩;have ⟨hl0,hl1,l,t,A,y,s,r,z,o,g,c,fb,d1,d2,d3,d4,d5,d6,d7,d8⟩:=H2 _ _ B F;have HX:=O (d8 _ (bZ.drew _));have e1:(0:Int)<=(k:Int):=Z;have e2:(k:Int)<(j:Int):=Z;clear B d8 H2 H3;go_wp2;go_region_law (go_simp;go_at_call 90;apply HX.mono;rintro e w1 ⟨x,n3,X,rfl,a1,⟨N,af,b1,b2,b3⟩,a3,a4,a5,⟨u,a6⟩,a7,a8⟩;have V:=O a8;clear a8);all_goals
     go_wp2;go_roundg m;case measure=>exact Z
     case rel=>exact⟨k+1,Z,lj,V⟩
   have Q:k=j:=Z;subst Q;have HX:=O (H3 _ B);clear B H2 H3;go_wp;apply HX.mono;rintro e w1 ⟨v,rfl,h1⟩;have V:=O h1;clear h1;go_wp2;go_ret;exact⟨_,i_,V⟩
def wo{b:cU}{a:aC}(p:Nat)(h:cO c R b a):(aT c R b a p).2=cQ b a:=(pU c R b a (λ_ _=>False) p h ⟨s_,s_⟩).2.1
def sj.split{S:cU->aC->Prop}:∀{l m:List aC}{a:cU},Hs.sj S a (l++m)->Hs.sj S a l/\Hs.sj S (gA a l) m|[],_,_,h=>⟨trivial,h⟩|_::_,_,_,h=>by obtain⟨d,b⟩:=h;obtain⟨e,c⟩:=sj.split b;exact⟨⟨d,e⟩,c⟩
def wT:∀(l m:List aC) (b:cU),gA b (l++m)=gA (gA b l) m|[],_,_=>rfl|a::l,m,b=>wT l m (cQ b a)
theorem wM:∀{l:List aC} (m:List aC){b:cU} (p:Nat),Hs.sj (cO c R) b l->bJ (aT c R) b (l++m) p=bJ (aT c R) b l p++bJ (aT c R) (gA b l) m (p+aA (bJ (aT c R) b l p))|[],m,b,p,_=>by simp[bJ,gA]|a::l,m,b,p,h=>by obtain⟨f,e⟩:=h;rw[il,bJ,bJ,wo p f,wM m _ e,gv,et,Nat.add_assoc];rfl
def yW(fp:iD)(fb:Nat->Nat)(nms:cU)(cb:Nat)(F:bI)(w:aL)(code:List (Option aM))(e_:cU)(w':aL):Prop:=∃G,(∀k,F k->G k)/\iH fp fb nms cb G w code e_ w'
def UI(fp:iD)(fb:Nat->Nat)(fs:List aC)(cb lo:Nat)(d:Nat):Prop:=∀(F:bI) (e_:cU) (v:aU) (a:aC) (code:List (Option aM)) (w:aL),CP fp fb (fs.map (·.x_)) cb F w code e_->PN (si lo cb) w v a->cO fs d e_ a->kD a->aA e_<=90001->aA code+(aT fs d e_ a (aA code)).1.length<=1000000->Wn Ww 203 #[aW cb,v] w λe w'=>e=eV/\yW fp fb (fs.map (·.x_)) cb F w (code++(aT fs d e_ a (aA code)).1.map Wj) (aT fs d e_ a (aA code)).2 w'
section
variable {fp:iD} {fb:Nat->Nat} {fs:List aC} {cb lo:Nat} {F:bI} {e_:cU} {d:Nat}
theorem yW.then{w c d:aL}{b:cU}{a:List (Option aM)}(e:FB cb cb w c)(h:yW fp fb b cb F c a e_ d):yW fp fb b cb F w a e_ d:=by have ⟨G,hG,h⟩:=h;exact⟨G,hG,h.then e⟩
def yW.more{G:bI}{w c:aL}{b:cU}{a:List (Option aM)}(d:∀k,F k->G k)(h:yW fp fb b cb G w a e_ c):yW fp fb b cb F w a e_ c:=by grind[yW]
def Si{c:List aC}{d:Nat}{b:cU}{a:aC}(h:cO c d b a)(e:aA b<=90001):aA (cQ b a)<=90001:=by cases d with|zero=>exact h.elim|succ d=>grind[cQ,cO]
def FG{f:List aC}{d:Nat}:∀{l:List aC}{e_:cU},Hs.sj (cO f d) e_ l->aA e_<=90001->aA (gA e_ l)<=90001|[],_,_,h=>h|a::l,e_,c,h=>by obtain⟨e,b⟩:=c;exact FG (l:=l) (e_:=cQ e_ a) b (Si e h)
def vU(z:UI fp fb fs cb lo d)(v:aU)(l:List aC)(b:List (Option aM))(w:aL)(h:CP fp fb (fs.map (·.x_)) cb F w b e_)(C:sy (si lo cb) w v l)(J:Hs.sj (cO fs d) e_ l)(H:∀a∈l,kD a)(y:aA l<=1000000)(i:aA e_<=90001)(K:aA b+aA (bJ (aT fs d) e_ l (aA b))<=1000000):Wn Ww 149 #[aW cb,v] w λe q=>e=eV/\yW fp fb (fs.map (·.x_)) cb F w (b++(bJ (aT fs d) e_ l (aA b)).map Wj) (gA e_ l) q:=by
 rcases C.get with ⟨rfl,rfl⟩|⟨g,k,rfl,r,m,n,I⟩;apply pN (JD w cb);exact⟨i_,F,s_,by grind[bJ,gA],FB.refl _⟩;refine(GL w cb g (aA l) k (λj W=>j<=aA l/\yW fp fb (fs.map (·.x_)) cb F w (b++(bJ (aT fs d) e_ (l.take j) (aA b)).map Wj) (gA e_ (l.take j)) W) y ⟨Z,F,s_,by grind[bJ,gA],FB.refl _⟩ λj W t D=>?_).mono ?_;have ⟨_,G,hG,hcp,hfb⟩:=t;have ⟨u,hu,hn'⟩:=I j D;obtain⟨T,x,rfl⟩:=hn'.form;have f:l.take (j+1)=l.take j++[l[j]]:=(by simp);have c:Hs.sj (cO fs d) e_ (l.take j++(l[j]::l.drop (j+1))):=by grind[List.take_append_drop]
 have ⟨hs1,hs2,_⟩:=sj.split c;have B:bJ (aT fs d) e_ (l.take (j+1)) (aA b)=bJ (aT fs d) e_ (l.take j) (aA b)++(aT fs d (gA e_ (l.take j)) l[j] (aA b+aA (bJ (aT fs d) e_ (l.take j) (aA b)))).1:=by grind[wM,bJ]
 have o:aA (bJ (aT fs d) e_ (l.take (j+1)) (aA b))<=aA (bJ (aT fs d) e_ l (aA b)):=by have A:Hs.sj (cO fs d) e_ (l.take (j+1)++l.drop (j+1)):=G_;grind[wM,List.take_append_drop,bJ]
 have E:aA (b++(bJ (aT fs d) e_ (l.take j) (aA b)).map Wj)=aA b+aA (bJ (aT fs d) e_ (l.take j) (aA b)):=s_;have s:gA e_ (l.take (j+1))=(aT fs d (gA e_ (l.take j)) l[j] (aA b+aA (bJ (aT fs d) e_ (l.take j) (aA b)))).2:=by rw[f,wT,wo _ hs2];rfl
 refine⟨ef m hfb.rP.size,T,W1 x,by rw[hfb.rP.cell (p:=(aJ g j)) r.2];exact hu,(z G _ _ l[j] _ W hcp (hn'.below hfb.rP) hs2 (G_) (FG hs1 i) ?_).mono ?_⟩;grind;grind[yW.then,yW];simp
def W8(y:UI fp fb fs cb lo d)(v:aU)(l:List aC)(f:List (Option aM))(w:aL)(h:CP fp fb (fs.map (·.x_)) cb F w f e_)(n:sy (si lo cb) w v l)(t:Hs.sj (cO fs d) e_ l)(m:∀a∈l,kD a)(u:aA l<=1000000)(g:aA e_<=90001)(z:aA f+aA (bJ (aT fs d) e_ l (aA f))<=1000000):Wn Ww 283 #[aW cb,v] w λe o=>e=eV/\yW fp fb (fs.map (·.x_)) cb F w (f++(bJ (aT fs d) e_ l (aA f)).map Wj) e_ o:=by
 obtain⟨x,c,rfl⟩:=n.um;have i:=vU y _ l f w h n t m u g z;have ⟨fv,cv,sp,h1,_,h4,_⟩:=h.n_;obtain⟨p,rfl⟩:=h4.form;refine X3 w cb p x (aA l) c _ _ (aB h1 i_) i (λW s=>?_);have ⟨G,hG,hcp,hfb⟩:=s;have ⟨fv',cv',sp',g1,⟨xs,g2,g3⟩,g4,g5⟩:=hcp.n_;refine⟨⟨_,aB g1 i_⟩,aE g1,G_,G,hG,⟨⟨fv',cv',W_ p,aN g1,⟨xs,?_,?_⟩,?_,?_⟩,λk j=>?_⟩,?_⟩;all_goals have j:∀k,k≠cb->(c9 W (aJ cb 2) (W_ p)).heap[k]?=W.heap[k]?:=(by grind[eh])
 all_goals have hGk:=λb q=>j b (hcp.fix b q).2.1
 all_goals have r:lY cb (c9 W (aJ cb 2) (W_ p))=lY cb W:=by rw[qR (aN g1),qR g1]
 exact aX g2 λk e=>j k (by have:=(g2.lt k e).1;exact Z);exact g3.j_ hGk s_;grind[gR.j_,CP.fixed];exact g5.j_ hGk (s_) s_;grind[CP.fix];refine hfb.trans ⟨⟨i_,i_,i_,s_,G_⟩,G_,G_⟩
end
section
variable {fp:iD} {fb:Nat->Nat} {fs:List aC} {cb lo:Nat} {F:bI} {a_:Bool} {e_:cU} {d:Nat}
def Oh(N:ME fp fb fs cb lo F a_ e_ d)(S:aA fs<=1000000)(T:∀k,k<aA fs->fp k=aW (fb k))(a:aC)(H:aU)(l:Int)(b:List (Option aM))(w:aL)(u:CP fp fb (fs.map (·.x_)) cb F w b e_)(q:a.op=[99,97,108,108])(G:sy (si lo cb) w H a.y_)(C:Hs.rE fs a_ e_ (d+1) a)(D:rK (d+1) a)(j:aA b+aA (aF fs e_ (d+1) a (aA b))<=1000000):Wn Ww 254 #[aW cb,W1 #[Y l,Q_ (bs a.x_),H]] w λe p=>e=eV/\iH fp fb (fs.map (·.x_)) cb F w (b++(aF fs e_ (d+1) a (aA b)).map Wj) e_ p:=by
 have h:=rE.op C;have ⟨_,hk1,hlik⟩:=D;rw[KZ fs e_ d a _ q]at j⊢;rw[et,ib]at j;have y:=h.1;have m:=h.2.2 q;obtain⟨x,c,rfl⟩:=G.um;have ⟨hloc2,hcp2⟩:=u.new (bM #[Y l,Q_ (bs a.x_),P_ x (aA a.y_) c] 342);have s:∀{W:aL},FB cb cb (dZ w #[Y l,Q_ (bs a.x_),P_ x (aA a.y_) c] 342) W->W.heap[H_ w]?=Wj (bM #[Y l,Q_ (bs a.x_),P_ x (aA a.y_) c] 342):=λv=>(hloc2.step v).n_;have f:Wn Ww 250 #[aW cb,P_ x (aA a.y_) c] (dZ w #[Y l,Q_ (bs a.x_),P_ x (aA a.y_) c] 342) λe p=>e=eV/\(iH fp fb (fs.map (·.x_)) cb F w (b++(bC (aF fs e_ d) a.y_ (aA b)).map Wj) e_ p/\p.heap[H_ w]?=Wj (bM #[Y l,Q_ (bs a.x_),P_ x (aA a.y_) c] 342)):=by apply (yI N _ _ _ _ hcp2 (G.below hloc2.fb.rP) y hlik hk1 Z).mono;rintro e p ⟨Q,r⟩;exact⟨Q,r.then hloc2.fb,s r.2⟩
 have I:∀{i:aM}{e:Ending}{W:aL},(e=eV/\iH fp fb (fs.map (·.x_)) cb F w ((b++(bC (aF fs e_ d) a.y_ (aA b)).map Wj)++[Wj i]) e_ W)->e=eV/\iH fp fb (fs.map (·.x_)) cb F w (b++(bC (aF fs e_ d) a.y_ (aA b)++[i]).map Wj) e_ W:=(by simp);have o:aA (b++(bC (aF fs e_ d) a.y_ (aA b)).map Wj)+1<=1000000:=G_;rcases m with n|n|⟨z,A,K⟩;rw[n]at f⊢;apply (B5 w cb (aA a.y_) c l x _ _ f (λW g=>(by grind[aB])) λW g=>uq (i:=.length) g.1 rfl o).mono;simp;rw[n]at f⊢;apply (QS w cb (aA a.y_) c l x _ _ f (λW g=>(by grind[aB])) λW g=>uq (i:=.read) g.1 rfl o).mono;simp;have M:dU fs a.x_<aA fs:=by grind[gC]
 have t:a.x_∈fs.map (·.x_):=by grind[dU]
 have P:(a.x_==[108,101,110])=Wl:=G_;have L:(a.x_==[114,101,97,100])=Wl:=G_;rw[P,L];refine(LN w cb (aA a.y_) c (fb (dU fs a.x_)) l a.x_ x (λW=>iH fp fb (fs.map (·.x_)) cb F w ((b++(bC (aF fs e_ d) a.y_ (aA b)).map Wj)++[Wj (.call (dU fs a.x_) (aA a.y_))]) e_ W) _ z A f (λW g=>(by grind[aB])) (λW E g J=>?_) λW E g J=>?_).mono ?_;apply (zS a.x_ (g.1.1.grow J.below) t G_).mono;grind[KV];have B:iH fp fb (fs.map (·.x_)) cb F w (b++(bC (aF fs e_ d) a.y_ (aA b)).map Wj) e_ E:=(by grind[CP.grow,bZ.below,FB.trans,FB.of_lt,CP.lt,iH]);exact uq (i:=.call (dU fs a.x_) (aA a.y_)) B (by show _=_;grind) o;simp
end
section
variable (fs:List aC) (e_:cU) (d:Nat) (a:aC) (p:Nat)
def Lm(t v:aC)(h:a.op=[118,97,114])(b:a.y_=[t,v]):aT fs (d+1) e_ a p=(.begin a.l_ e_::aF fs e_ d v (p+1)++[.declare (aA e_)],t.x_::e_):=by rw[aT];grind
def Ik(h:a.op=[115,101,116]):aT fs (d+1) e_ a p=(.begin a.l_ e_::bC (aF fs e_ d) a.y_ (p+1)++[.assign (dY e_ a.x_) (aA a.y_-1)],e_):=by rw[aT];simp[h]
def Jo(c t:aC)(h:a.op=[105,102])(b:a.y_=[c,t]):aT fs (d+1) e_ a p=(.begin a.l_ e_::aF fs e_ d c (p+1)++[.skip (p+1+aA (aF fs e_ d c (p+1))+1+aA (bJ (aT fs d) e_ t.y_ (p+1+aA (aF fs e_ d c (p+1))+1))+1)]++bJ (aT fs d) e_ t.y_ (p+1+aA (aF fs e_ d c (p+1))+1)++[.jump (p+1+aA (aF fs e_ d c (p+1))+1+aA (bJ (aT fs d) e_ t.y_ (p+1+aA (aF fs e_ d c (p+1))+1))+1)],e_):=by rw[aT];grind
def I1(c t x:aC)(h:a.op=[105,102])(b:a.y_=[c,t,x]):aT fs (d+1) e_ a p=(.begin a.l_ e_::aF fs e_ d c (p+1)++[.skip (p+1+aA (aF fs e_ d c (p+1))+1+aA (bJ (aT fs d) e_ t.y_ (p+1+aA (aF fs e_ d c (p+1))+1))+1)]++bJ (aT fs d) e_ t.y_ (p+1+aA (aF fs e_ d c (p+1))+1)++[.jump (p+1+aA (aF fs e_ d c (p+1))+1+aA (bJ (aT fs d) e_ t.y_ (p+1+aA (aF fs e_ d c (p+1))+1))+1+aA (bJ (aT fs d) e_ x.y_ (p+1+aA (aF fs e_ d c (p+1))+1+aA (bJ (aT fs d) e_ t.y_ (p+1+aA (aF fs e_ d c (p+1))+1))+1)))]++bJ (aT fs d) e_ x.y_ (p+1+aA (aF fs e_ d c (p+1))+1+aA (bJ (aT fs d) e_ t.y_ (p+1+aA (aF fs e_ d c (p+1))+1))+1),e_):=by rw[aT];grind
def Ov(c b:aC)(h:a.op=[119,104,105,108,101])(e:a.y_=[c,b]):aT fs (d+1) e_ a p=(.begin a.l_ e_::aF fs e_ d c (p+1)++[.skip (p+1+aA (aF fs e_ d c (p+1))+1+aA (bJ (aT fs d) e_ b.y_ (p+1+aA (aF fs e_ d c (p+1))+1))+1)]++bJ (aT fs d) e_ b.y_ (p+1+aA (aF fs e_ d c (p+1))+1)++[.jump p],e_):=by rw[aT];grind
def VZ(h:a.op=[114,101,116,117,114,110])(b:a.y_=[]):aT fs (d+1) e_ a p=([.begin a.l_ e_,.push (bB 0),.tj],e_):=by rw[aT];grind
def VY(v:aC)(h:a.op=[114,101,116,117,114,110])(b:a.y_=[v]):aT fs (d+1) e_ a p=(.begin a.l_ e_::aF fs e_ d v (p+1)++[.tj],e_):=by rw[aT];grind
def Sf(v:aC)(h:a.op=[112,114,105,110,116])(b:a.y_=[v]):aT fs (d+1) e_ a p=(.begin a.l_ e_::aF fs e_ d v (p+1)++[.print],e_):=by rw[aT];grind
def Kt(c:aC)(h:a.op=[100,111])(b:a.y_=[c]):aT fs (d+1) e_ a p=(.begin a.l_ e_::aF fs e_ d c (p+1)++[.drop],e_):=by rw[aT];grind
end
section
variable {fp:iD} {fb:Nat->Nat} {fs:List aC} {cb lo:Nat} {F:bI} {e_:cU} {d:Nat}
def sP(fp:iD)(fb:Nat->Nat)(nms:cU)(cb:Nat)(F:bI)(w w1:aL)(b:Nat)(o:Obj)(e_:cU)(c:List (Option aM))(W:aL):Prop:=∃G,(∀k,F k->G k)/\iH fp fb nms cb G w c e_ W/\Loc cb cb w1 b o W
def sP.emit{a:cU}{w d W:aL}{b:Nat}{o:Obj}{c:List (Option aM)}(h:sP fp fb a cb F w d b o e_ c W){u:aU}{i:Option aM}(l:∀G,Dx fp G W u i)(m:aA c<=1000000):Wn Ww 150 #[aW cb,u] W λe f=>e=bP (Y (aA c))/\sP fp fb a cb F w d b o e_ (c++[i]) f:=by have ⟨G,hG,hto,hL⟩:=h;apply (xN (o:=i) hto.1 (l G) m).mono;rintro e f ⟨j,k,g⟩;exact⟨j,G,hG,⟨k,hto.2.trans g⟩,hL.step g⟩
def sP.patch{e:cU}{w h W:aL}{b:Nat}{o:Obj}{d a:List (Option aM)}(m:sP fp fb e cb F w h b o e_ (d++Wk::a) W)(k:Nat)(l:k=aA d)(j:Wr)(i:Nat->aM)(p:∀G n,lP fp G W (dA j (W1 #[Y (n:Nat)])) (i n))(q:aA (d++Wk::a)<=1000000):cb<H_ W/\∃g n c,eJ W cb 1 (P_ (Wj (aJ g 0)) n c)/\k<n/\n<=1000000/\(∃u,eJ W g k u)/\W.frozen? (aJ g k)=Wl/\g<H_ W/\∀f,bZ (c9 W (aJ g k) (dA j (W1 #[Y (n:Nat)]))) f->sP fp fb e cb F w h b o e_ (d++Wj (i (aA (d++Wk::a)))::a) f:=by have ⟨G,hG,⟨hc1,hc2⟩,hL⟩:=m;have ⟨g,c,p1,p2,p3,p4,p5⟩:=hc1.patch;subst l;refine⟨hc1.lt,g,_,c,p1,s_,q,p2,p3,p4,λf r=>?_⟩;have ⟨q1,q2⟩:=p5 _ _ f (p G _) r;exact⟨G,hG,⟨q1,hc2.trans q2⟩,hL.step q2⟩
def sP.Ak(p:UI fp fb fs cb lo d){w i W:aL}{b:Nat}{o:Obj}{c:List (Option aM)}(k:sP fp fb (fs.map (·.x_)) cb F w i b o e_ c W)(v:aU)(l:List aC)(r:sy (si lo cb) w v l)(m:Hs.sj (cO fs d) e_ l)(h:∀a∈l,kD a)(n:aA l<=1000000)(g:aA e_<=90001)(q:aA c+aA (bJ (aT fs d) e_ l (aA c))<=1000000):Wn Ww 283 #[aW cb,v] W λe j=>e=eV/\sP fp fb (fs.map (·.x_)) cb F w i b o e_ (c++(bJ (aT fs d) e_ l (aA c)).map Wj) j:=by have ⟨G,hG,hto,hL⟩:=k;apply (W8 p v l c W hto.1 (r.below hto.2.rP) m h n g q).mono;rintro e j ⟨s,H,t,f⟩;exact⟨s,H,G_,f.then hto.2,hL.step f.2⟩
def sP.yd{w j W:aL}{b:Nat}{o:Obj}{c:List (Option aM)}(n:sP fp fb (fs.map (·.x_)) cb F w j b o e_ c W)(g:aA fs<=1000000)(h:∀k,k<aA fs->fp k=aW (fb k))(m:aA e_<=90001)(v:aU)(a:aC)(r:PN (si lo cb) w v a)(p:Hs.rE fs Wl e_ d a)(i:kD a)(q:aA c+aA (aF fs e_ d a (aA c))<=1000000):Wn Ww 234 #[aW cb,v] W λe l=>e=eV/\sP fp fb (fs.map (·.x_)) cb F w j b o e_ (c++(aF fs e_ d a (aA c)).map Wj) l:=by have ⟨G,hG,hto,hL⟩:=n;apply (uB Z g h d v a c W hto.1 (r.below hto.2.rP) p (i d) q).mono;rintro e l ⟨s,f⟩;exact⟨s,G,hG,f.then hto.2,hL.step f.2⟩
def sP.Co{w h W:aL}{b:Nat}{o:Obj}{c:List (Option aM)}(m:sP fp fb (fs.map (·.x_)) cb F w h b o e_ c W)(s:aA fs<=1000000)(x:∀k,k<aA fs->fp k=aW (fb k))(j:aA e_<=90001)(v:aU)(l:List aC)(r:sy (si lo cb) w v l)(n:∀a∈l,Hs.rE fs Wl e_ d a)(g:∀a∈l,kD a)(p:aA l<=1000000)(q:aA c+aA (bC (aF fs e_ d) l (aA c))<=1000000):Wn Ww 250 #[aW cb,v] W λe i=>e=eV/\sP fp fb (fs.map (·.x_)) cb F w h b o e_ (c++(bC (aF fs e_ d) l (aA c)).map Wj) i:=by have ⟨G,hG,hto,hL⟩:=m;apply (yI ((by grind[uB])) v l c W hto.1 (r.below hto.2.rP) n (λa u=>g a u d) p q).mono;rintro e i ⟨t,f⟩;exact⟨t,G,hG,f.then hto.2,hL.step f.2⟩
theorem sP.box{a:cU}{w e W:aL}{b:Nat}{d:Array Wo}{T:Wr}{c:List (Option aM)}(f:sP fp fb a cb F w e b (bM d T) e_ c W):W.heap[b]?=Wj (bM d T):=by grind[Loc.n_,sP]
def CP.Ac{b:cU}{w:aL}{a:List (Option aM)}(h:CP fp fb b cb F w a e_)(o:Obj):sP fp fb b cb F w w (H_ w) o e_ a (w.alloc o):=by have ⟨hloc,hcp⟩:=h.new o;exact⟨F,s_,⟨hcp,hloc.fb⟩,hloc⟩
def UX{Z_:Prop}(Y_:Z_:=by have hcl:aA (code++cc.map Wj++[Wk])=aA code+aA cc+1:=G_;have:=hq.Ak IH _ lt ht ho1 hl1 hn1 hsn G_;rw[hcl,hct]at this;exact this):Z_:=Y_
def GD(IH:UI fp fb fs cb lo d)(C:aA fs<=1000000)(D:∀k,k<aA fs->fp k=aW (fb k))(hsn:aA e_<=90001)(l:Int)(H I G:aU)(c:aC)(lt g:List aC)(code:List (Option aM))(w:aL)(h:CP fp fb (fs.map (·.x_)) cb F w code e_) (J:PN (si lo cb) w H c) (ht:sy (si lo cb) w I lt) (K:sy (si lo cb) w G g) (M:Hs.rE fs Wl e_ d c) (ho1:Hs.sj (cO fs d) e_ lt) (E:Hs.sj (cO fs d) e_ g) (N:kD c) (hl1:∀a∈lt,kD a) (x:∀a∈g,kD a) (hn1:aA lt<=1000000) (B:aA g<=1000000) (cc b j:List aM) (v:aF fs e_ d c (aA code)=cc) (hct:bJ (aT fs d) e_ lt (aA code+aA cc+1)=b) (y:bJ (aT fs d) e_ g (aA code+aA cc+1+aA b+1)=j) (P:aA code+aA cc+1+aA b+1+aA j<=1000000):Wn Ww 252 #[aW cb,W1 #[Y l,H,I,G]] w λe L=>e=eV/\yW fp fb (fs.map (·.x_)) cb F w (code++(cc++[aM.skip (aA code+aA cc+1+aA b+1)]++b++[aM.jump (aA code+aA cc+1+aA b+1+aA j)]++j).map Wj) e_ L:=by obtain⟨m,f,rfl⟩:=J.form;obtain⟨r,o,rfl⟩:=ht.um;obtain⟨q,p,rfl⟩:=K.um;have z:=h.Ac (bM #[Y l,dA m (W1 f),P_ r (aA lt) o,P_ q (aA g) p] 335);refine(A8 w cb (aA code+aA cc) (aA code+aA cc+1+aA b) l m (W1 f) r q (aA lt) (aA g) o p (λW=>yW fp fb (fs.map (·.x_)) cb F w ((code++cc.map Wj++Wj (aM.skip (aA code+aA cc+1+aA b+1))::b.map Wj)++Wj (aM.jump (aA code+aA cc+1+aA b+1+aA j))::j.map Wj) e_ W) (sP fp fb (fs.map (·.x_)) cb F w w (H_ w) (bM #[Y l,dA m (W1 f),P_ r (aA lt) o,P_ q (aA g) p] 335) e_ (code++cc.map Wj)) (sP fp fb (fs.map (·.x_)) cb F w w (H_ w) (bM #[Y l,dA m (W1 f),P_ r (aA lt) o,P_ q (aA g) p] 335) e_ (code++cc.map Wj++[Wk])) (sP fp fb (fs.map (·.x_)) cb F w w (H_ w) (bM #[Y l,dA m (W1 f),P_ r (aA lt) o,P_ q (aA g) p] 335) e_ (code++cc.map Wj++[Wk]++b.map Wj)) (sP fp fb (fs.map (·.x_)) cb F w w (H_ w) (bM #[Y l,dA m (W1 f),P_ r (aA lt) o,P_ q (aA g) p] 335) e_ (code++cc.map Wj++[Wk]++b.map Wj++[Wk])) (sP fp fb (fs.map (·.x_)) cb F w w (H_ w) (bM #[Y l,dA m (W1 f),P_ r (aA lt) o,P_ q (aA g) p] 335) e_ (code++cc.map Wj++Wj (aM.skip (aA code+aA cc+1+aA b+1))::(b.map Wj++[Wk]))) (sP fp fb (fs.map (·.x_)) cb F w w (H_ w) (bM #[Y l,dA m (W1 f),P_ r (aA lt) o,P_ q (aA g) p] 335) e_ (code++cc.map Wj++Wj (aM.skip (aA code+aA cc+1+aA b+1))::(b.map Wj++[Wk])++j.map Wj)) ?_ (λW hq=>?_) (λW hq=>?_) (λW hq=>?_) (λW hq=>?_) (λW hq=>?_) (λW hq=>?_) (λW hq=>?_) λW hq=>?_).mono ?_;have:=z.yd C D hsn _ c J M N G_;rw[v]at this;exact this;have:=hq.emit (u:=.nilIface) (i:=Wk) (λ_=>i_) G_;rw[sI]at this;exact this;grind[aB,sP.box];exact UX;have hcl:aA (code++cc.map Wj++[Wk]++b.map Wj)=aA code+aA cc+1+aA b:=G_;have:=hq.emit (u:=.nilIface) (i:=Wk) (λ_=>i_) Z;rw[hcl]at this;exact this;have s:code++cc.map Wj++[Wk]++b.map Wj++[Wk]=(code++cc.map Wj)++Wk::(b.map Wj++[Wk]):=s_;rw[s]at hq;have A:aA ((code++cc.map Wj)++Wk::(b.map Wj++[Wk]))=aA code+aA cc+1+aA b+1:=G_;have:=hq.patch (aA code+aA cc) s_ 408 (λn=>.skip n) (λ_ _=>rfl) Z;grind;grind[aB,sP.box];have hcl:aA (code++cc.map Wj++Wj (aM.skip (aA code+aA cc+1+aA b+1))::(b.map Wj++[Wk]))=aA code+aA cc+1+aA b+1:=G_;have:=hq.Ak IH _ g K E x B hsn G_;rw[hcl,y]at this;exact this;have s:code++cc.map Wj++Wj (aM.skip (aA code+aA cc+1+aA b+1))::(b.map Wj++[Wk])++j.map Wj=(code++cc.map Wj++Wj (aM.skip (aA code+aA cc+1+aA b+1))::b.map Wj)++Wk::j.map Wj:=s_;rw[s]at hq;have A:aA ((code++cc.map Wj++Wj (aM.skip (aA code+aA cc+1+aA b+1))::b.map Wj)++Wk::j.map Wj)=aA code+aA cc+1+aA b+1+aA j:=G_;have t:aA code+aA cc+1+aA b=aA (code++cc.map Wj++Wj (aM.skip (aA code+aA cc+1+aA b+1))::b.map Wj):=G_;have:=hq.patch (aA code+aA cc+1+aA b) t 409 (λn=>.jump n) (λ_ _=>i_) Z;grind[yW,sP];simp
def Pk(IH:UI fp fb fs cb lo d)(r:aA fs<=1000000)(s:∀k,k<aA fs->fp k=aW (fb k))(hsn:aA e_<=90001)(l:Int)(b:Nat)(t v:aU)(c:aC)(lt:List aC)(code:List (Option aM))(w:aL)(h:CP fp fb (fs.map (·.x_)) cb F w code e_) (x:PN (si lo cb) w t c) (ht:sy (si lo cb) w v lt) (A:Hs.rE fs Wl e_ d c) (ho1:Hs.sj (cO fs d) e_ lt) (B:kD c) (hl1:∀a∈lt,kD a) (hn1:aA lt<=1000000) (cc f:List aM) (p:aF fs e_ d c (aA code)=cc) (hct:bJ (aT fs d) e_ lt (aA code+aA cc+1)=f) (D:aA code+aA cc+1+aA f+1<=1000000):Wn Ww 253 #[aW cb,W1 #[Y l,t,v],Y b] w λe z=>e=eV/\yW fp fb (fs.map (·.x_)) cb F w (code++(cc++[aM.skip (aA code+aA cc+1+aA f+1)]++f++[aM.jump b]).map Wj) e_ z:=by obtain⟨j,g,rfl⟩:=x.form;obtain⟨o,m,rfl⟩:=ht.um;have q:=h.Ac (bM #[Y l,dA j (W1 g),P_ o (aA lt) m] 337);refine(T6 w cb (aA code+aA cc) b l j (W1 g) o (aA lt) m (λW=>yW fp fb (fs.map (·.x_)) cb F w ((code++cc.map Wj)++Wj (aM.skip (aA code+aA cc+1+aA f+1))::(f.map Wj++[Wj (aM.jump b)])) e_ W) (sP fp fb (fs.map (·.x_)) cb F w w (H_ w) (bM #[Y l,dA j (W1 g),P_ o (aA lt) m] 337) e_ (code++cc.map Wj)) (sP fp fb (fs.map (·.x_)) cb F w w (H_ w) (bM #[Y l,dA j (W1 g),P_ o (aA lt) m] 337) e_ (code++cc.map Wj++[Wk])) (sP fp fb (fs.map (·.x_)) cb F w w (H_ w) (bM #[Y l,dA j (W1 g),P_ o (aA lt) m] 337) e_ (code++cc.map Wj++[Wk]++f.map Wj)) (sP fp fb (fs.map (·.x_)) cb F w w (H_ w) (bM #[Y l,dA j (W1 g),P_ o (aA lt) m] 337) e_ (code++cc.map Wj++[Wk]++f.map Wj++[Wj (aM.jump b)])) ?_ (λW hq=>?_) (λW hq=>?_) (λW hq=>?_) (λW hq=>?_) λW hq=>?_).mono ?_;have:=q.yd r s hsn _ c x A B G_;rw[p]at this;exact this;have:=hq.emit (u:=.nilIface) (i:=Wk) (λ_=>i_) G_;rw[sI]at this;exact this;grind[aB,sP.box];exact UX;have hcl:aA (code++cc.map Wj++[Wk]++f.map Wj)=aA code+aA cc+1+aA f:=G_;apply (hq.emit (u:=dA 409 (W1 #[Y b])) (i:=Wj (aM.jump b)) (λ_=>i_) Z).mono;grind;have y:code++cc.map Wj++[Wk]++f.map Wj++[Wj (aM.jump b)]=(code++cc.map Wj)++Wk::(f.map Wj++[Wj (aM.jump b)]):=s_;rw[y]at hq;have C:aA ((code++cc.map Wj)++Wk::(f.map Wj++[Wj (aM.jump b)]))=aA code+aA cc+1+aA f+1:=G_;have:=hq.patch (aA code+aA cc) s_ 408 (λn=>.skip n) (λ_ _=>rfl) Z;grind[yW,sP];simp
end
section
variable {fp:iD} {fb:Nat->Nat} {fs:List aC} {cb lo:Nat} {d:Nat}
def vg.ok.below{w a:aL}{p:vg}(h:vg.ok (si lo cb) w p)(e:Below cb w a):vg.ok (si lo cb) a p:=by rcases h with ⟨d,b,c,f⟩|⟨d,c⟩;exact ea (by grind[PN.below]);exact dv ⟨d,sy.below c e⟩
def iH.Ac{F:bI}{b:cU}{c:cU}{w W:aL}{a:List (Option aM)}(h:iH fp fb c cb F w a b W)(o:Obj):sP fp fb c cb F w W (H_ W) o b a (W.alloc o):=by have ⟨hloc,hcp⟩:=h.1.new o;exact⟨F,s_,⟨hcp,h.2.trans hloc.fb⟩,hloc⟩
def T_(IH:UI fp fb fs cb lo d)(P:aA fs<=1000000)(N:∀k,k<aA fs->fp k=aW (fb k)):UI fp fb fs cb lo (d+1):=by
 intro F f v a g w h aq ae D Q n;obtain⟨T,cs,ps,rfl,ar,B⟩:=aq.parts;have ⟨fv,cv,sp,U,_,h4,_⟩:=h.n_;obtain⟨p,rfl⟩:=h4.form;have J:=h.lt;have M:=aB (i:=2) U i_
 have L:aA g+1<=1000000->Wn Ww 150 #[aW cb,dA 277 (W1 #[Y a.l_,W_ p])] (dZ w.drew #[Y a.l_] 178) λe w'=>e=bP (Y (aA g))/\iH fp fb (fs.map (·.x_)) cb F w (g++[Wj (.begin a.l_ f)]) f w':=λhn=>by
  have hb:cB w (dZ w.drew #[Y a.l_] 178):=((dw _ w).drew).alloc kB _;have h':=h.grow hb;apply (xN (o:=Wj (.begin a.l_ f)) h' ⟨_,i_,gR.j_ (λb ao=>hb.block b (h.fix b ao).1) (s_) h4⟩ Z).mono
  rintro e w' ⟨he,q1,q2⟩;exact⟨he,q1,(FB.of_lt hb J).trans q2⟩
 have ak:aA (g++[Wj (aM.begin a.l_ f)])=aA g+1:=s_
 have aa:aA f<=1000000:=Z;have no:∀{x y:bS} {p:Prop},a.op=x->x≠y->a.op=y->p:=(by grind)
 rcases ar with ⟨_,_,_,m,_⟩|⟨_,_,m,_⟩|⟨_,_,m,_⟩|⟨_,_,_,m,_⟩|⟨_,_,_,m,_⟩|⟨_,_,m,_⟩|⟨_,_,_,_,_,_,_,m,_⟩|⟨_,o,_,_,_,ax,m,_⟩|⟨_,_,_,_,_,_,_,m,_⟩|⟨rfl,X,t,q,rfl,m,j,rfl⟩|⟨rfl,sv,X,l,q,rfl,m,j,rfl⟩|⟨rfl,X,s1,q,E,rfl,m,aj,j,rfl⟩|⟨rfl,X,s1,s2,q,E,b2,rfl,m,aj,ay,j,rfl⟩|⟨rfl,X,s1,q,E,rfl,m,aj,j,rfl⟩|⟨rfl,l,rfl,m,j,rfl⟩|⟨rfl,X,q,rfl,m,j,rfl⟩|⟨rfl,X,q,rfl,m,j,rfl⟩|⟨rfl,sv,c,rfl,m,al,av,j,ab,rfl⟩
 iterate 7
  .exfalso;rcases ae with ⟨U,_⟩|⟨U,_⟩|⟨U,_⟩|⟨U,_⟩|⟨U,_⟩|⟨U,_⟩|⟨U,_⟩<;>exact no m d_ U
 .exfalso;grind [cO]
 .exfalso;rcases ae with ⟨U,_⟩|⟨U,_⟩|⟨U,_⟩|⟨U,_⟩|⟨U,_⟩|⟨U,_⟩|⟨U,_⟩<;>(rw[U]at m;exact m i_)
 ·-- var
  have H:Hs.rE fs Wl f d q/\aA f<=90000:=by grind [cO]
  have z:=Lm fs f d a (aA g) t q m j;rw[z]at n ⊢
  simp[et,ff,fh]at n;have hp:=B ⟨X,[q],true⟩ s_
  obtain⟨K,s,rfl⟩:=hp.uo.form;have C:=D.uu (k:=q) nu
  refine(JE w cb (aA g) a.l_ p t.l_ (bs t.x_) K (W1 s) (aA f) (λW=>yW fp fb (fs.map (·.x_)) cb F w (g++(aM.begin a.l_ f::aF fs f d q (aA g+1)++[aM.declare (aA f)]).map Wj) (t.x_::f) W) _
   (λb W=>∃I,sP fp fb (fs.map (·.x_)) cb F w I b (bM #[Y a.l_,Y t.l_,Q_ (bs t.x_),dA K (W1 s)] 330) f ((g++[Wj (.begin a.l_ f)])++(aF fs f d q (aA g+1)).map Wj) W)
   (λb W=>∃I,sP fp fb (fs.map (·.x_)) cb F w I b (bM #[Y a.l_,Y t.l_,Q_ (bs t.x_),dA K (W1 s)] 330) f ((g++[Wj (.begin a.l_ f)])++(aF fs f d q (aA g+1)).map Wj++[Wj (.declare (aA f))]) W)
   J M (L Z) (λW r=>?_) (λb W r=>?_) (λb W r=>?_) (λb W r=>?_) λb W r=>?_)
  .apply ((r.Ac _).yd P N Q _ q hp.uo H.1 C G_).mono
   grind
  .have ⟨I,G,hG,hto,_⟩:=r;exact YQ hto.1 aa
  .have ⟨I,r⟩:=r;apply (r.emit (u:=dA 369 (W1 #[Y (aA f)])) (i:=Wj (.declare (aA f))) (λ_=>i_) G_).mono
   rintro e w' ⟨he,h2⟩;exact⟨⟨_,he⟩,I,h2⟩
  .grind [aB,sP.box]
  have ⟨I,G,hG,hto,_⟩:=r;apply (Z3 t.x_ hto.1 aa).mono
  rintro e w' ⟨he,q1,q2⟩;refine⟨he,λk=>G k\/k=H_ W,G_,?_,hto.2.trans q2⟩
  grind
 ·-- an assignment
  have H:a.x_∈f/\∀k∈a.y_,Hs.rE fs Wl f d k:=by grind [cO]
  have z:=Ik fs f d a (aA g) m;have ap:aA (l++[q])-1=aA l:=s_
  rw[j,sV,JJ]at z;rw[ap]at z;rw[z]at n ⊢
  simp[et,ff,fh]at n;have hp:=B ⟨sv,l,Wl⟩ s_
  have A:=B ⟨X,[q],true⟩ s_
  obtain⟨K,s,rfl⟩:=A.uo.form;obtain⟨x,c,rfl⟩:=hp.many.um;have am:=D.len;rw[j,et]at am;generalize az:bC (aF fs f d) l (aA g+1)=q1 at*;generalize aw:aF fs f d q (aA g+1+aA q1)=q2 at*
  refine(MV w cb (aA g) a.l_ p (bs a.x_) x (aA l) c (dY f a.x_) K (W1 s) (λW=>yW fp fb (fs.map (·.x_)) cb F w (g++(aM.begin a.l_ f::(q1++q2)++[aM.assign (dY f a.x_) (aA l)]).map Wj) f W) _
   (λb W=>∃I,sP fp fb (fs.map (·.x_)) cb F w I b (bM #[Y a.l_,Q_ (bs a.x_),P_ x (aA l) c,dA K (W1 s)] 333) f ((g++[Wj (.begin a.l_ f)])++q1.map Wj) W)
   (λb W=>∃I,sP fp fb (fs.map (·.x_)) cb F w I b (bM #[Y a.l_,Q_ (bs a.x_),P_ x (aA l) c,dA K (W1 s)] 333) f ((g++[Wj (.begin a.l_ f)])++q1.map Wj++q2.map Wj) W)
   J M (L Z) (λW r=>?_) (λb W r=>?_) (λb W r=>?_) (λb W r=>?_) (λb W W' r hS=>?_) λb W W' r hS=>?_)
  .apply ((r.Ac _).Co P N Q _ l hp.many (λk hk=>H.2 k (by rw[j];simp[hk])) ((by grind [kD.uu])) Z G_).mono
   grind
  .grind [aB,sP.box]
  .have ⟨I,r⟩:=r;have au:aA ((g++[Wj (aM.begin a.l_ f)])++q1.map Wj)=aA g+1+aA q1:=G_
   apply (r.yd P N Q _ q A.uo (H.2 q nu) (D.uu G_) G_).mono
   grind
  .grind [aB,sP.box]
  .have ⟨I,G,hG,hto,_⟩:=r;exact WF a.x_ (hto.1.grow hS.below) H.1 aa
  have ⟨I,G,hG,hto,hL⟩:=r;have ag:iH fp fb (fs.map (·.x_)) cb G w ((g++[Wj (.begin a.l_ f)])++q1.map Wj++q2.map Wj) f W':=⟨hto.1.grow hS.below,hto.2.trans (FB.of_lt hS.below hto.1.lt)⟩
  apply (uq (i:=.assign (dY f a.x_) (aA l)) ag i_ G_).mono
  grind [yW]
 ·-- if,without else
  have H:Hs.rE fs Wl f d q/\Hs.sj (cO fs d) f E.y_:=by grind [cO]
  have z:=Jo fs f d a (aA g) q E m j;rw[z]at n ⊢
  have A:=B ⟨X,[q],true⟩ s_
  have S:=B ⟨s1,E.y_,Wl⟩ s_
  have C:=D.uu (k:=q) nu
  have V:=D.uu (k:=E) nu
  obtain⟨K,s,rfl⟩:=A.uo.form;obtain⟨x,c,rfl⟩:=S.many.um;generalize ah:aF fs f d q (aA g+1)=cc at*;generalize ai:bJ (aT fs d) f E.y_ (aA g+1+aA cc+1)=ct at*;simp[et,ff,fh]at n;refine OX w cb (aA g) a.l_ p K (W1 s) x Wk (aA E.y_) 0 c 0 _ _ J M (L Z) (λW r=>?_)
  have ⟨G,hG,hto,_⟩:=r.Ac (bM #[Y a.l_,dA K (W1 s),P_ x (aA E.y_) c,bR] 335);apply (GD (d:=d) IH P N Q a.l_ _ _ _ q E.y_ [] _ _ hto.1 (A.uo.below hto.2.rP) (S.many.below hto.2.rP) (ea s_) H.1 H.2 trivial C (λk hk=>V.uu hk) (s_) V.len s_ cc ct [] G_ G_ rfl G_).mono
  grind [yW.then,yW,iH]
 ·-- if,with else
  have H:Hs.rE fs Wl f d q/\Hs.sj (cO fs d) f E.y_/\Hs.sj (cO fs d) f b2.y_:=by grind [cO]
  have z:=I1 fs f d a (aA g) q E b2 m j;rw[z]at n ⊢
  have A:=B ⟨X,[q],true⟩ s_
  have S:=B ⟨s1,E.y_,Wl⟩ s_
  have ac:=B ⟨s2,b2.y_,Wl⟩ s_
  have C:=D.uu (k:=q) nu
  have V:=D.uu (k:=E) nu
  have ad:=D.uu (k:=b2) nu
  obtain⟨K,s,rfl⟩:=A.uo.form;obtain⟨x,c,rfl⟩:=S.many.um;obtain⟨x2,af,rfl⟩:=ac.many.um;generalize ah:aF fs f d q (aA g+1)=cc at*;generalize ai:bJ (aT fs d) f E.y_ (aA g+1+aA cc+1)=ct at*;generalize ba:bJ (aT fs d) f b2.y_ (aA g+1+aA cc+1+aA ct+1)=ce at*;simp[et,ff,fh]at n;refine OX w cb (aA g) a.l_ p K (W1 s) x x2 (aA E.y_) (aA b2.y_) c af _ _ J M (L Z) (λW r=>?_)
  have ⟨G,hG,hto,_⟩:=r.Ac (bM #[Y a.l_,dA K (W1 s),P_ x (aA E.y_) c,P_ x2 (aA b2.y_) af] 335);apply (GD (d:=d) IH P N Q a.l_ _ _ _ q E.y_ b2.y_ _ _ hto.1 (A.uo.below hto.2.rP) (S.many.below hto.2.rP) (ac.many.below hto.2.rP) H.1 H.2.1 H.2.2 C (λk hk=>V.uu hk) (λk hk=>ad.uu hk) V.len ad.len cc ct ce G_ G_ G_ Z).mono
  rintro e w' ⟨he,h2⟩;refine⟨he,?_⟩;have h3:=(h2.then hto.2).more hG
  rw[ak]at h3;grind
 ·-- while
  have H:Hs.rE fs Wl f d q/\Hs.sj (cO fs d) f E.y_:=by grind [cO]
  have z:=Ov fs f d a (aA g) q E m j;rw[z]at n ⊢
  have A:=B ⟨X,[q],true⟩ s_
  have S:=B ⟨s1,E.y_,Wl⟩ s_
  have C:=D.uu (k:=q) nu
  have V:=D.uu (k:=E) nu
  obtain⟨K,s,rfl⟩:=A.uo.form;obtain⟨x,c,rfl⟩:=S.many.um;generalize ah:aF fs f d q (aA g+1)=cc at*;generalize ai:bJ (aT fs d) f E.y_ (aA g+1+aA cc+1)=ct at*;simp[et,ff,fh]at n;refine RU w cb (aA g) a.l_ p K (W1 s) x (aA E.y_) c _ _ J M (L Z) (λW r=>?_)
  have ⟨G,hG,hto,_⟩:=r.Ac (bM #[Y a.l_,dA K (W1 s),P_ x (aA E.y_) c] 337);apply (Pk (d:=d) IH P N Q a.l_ (aA g) _ _ q E.y_ _ _ hto.1 (A.uo.below hto.2.rP) (S.many.below hto.2.rP) H.1 H.2 C (λk hk=>V.uu hk) V.len cc ct G_ G_ Z).mono
  grind [yW.then,yW,iH]
 ·-- return,without a value
  have z:=VZ fs f d a (aA g) m j;rw[z]at n ⊢
  simp[ff,fh]at n;refine yZ w cb (aA g) a.l_ p _ _ _ _ (λW=>yW fp fb (fs.map (·.x_)) cb F w ((g++[Wj (aM.begin a.l_ f)])++[Wj (.push (bB 0))]) f W) J M (L Z) (λW r=>?_) (λW r=>?_)
  .have ⟨G,hG,hto,_⟩:=r.Ac (bM #[Y a.l_,dA 366 (W1 #[Y l,Y 0])] 339);have ⟨G2,hG2,hto2,_⟩:=hto.Ac (bM #[Y l,Y 0] 366);apply (zJ _ cb l 0 _ (uq (i:=.push (bB 0)) hto2 (by grind [PV.num,vA,lP]) Z)).mono
   grind [yW]
  have ⟨G,hG,hto⟩:=r;apply (uq (i:=.tj) hto i_ G_).mono
  grind [yW]
 ·-- return
  have H:Hs.rE fs Wl f d q:=by grind [cO]
  have z:=VY fs f d a (aA g) q m j;rw[z]at n ⊢
  have A:=B ⟨X,[q],true⟩ s_
  have C:=D.uu (k:=q) nu
  obtain⟨K,s,rfl⟩:=A.uo.form;simp[et,ff,fh]at n;refine yZ w cb (aA g) a.l_ p _ _ _ _ (λW=>∃I,sP fp fb (fs.map (·.x_)) cb F w I (H_ I) (bM #[Y a.l_,dA K (W1 s)] 339) f ((g++[Wj (aM.begin a.l_ f)])++(aF fs f d q (aA g+1)).map Wj) W) J M (L Z) (λW r=>?_) (λW r=>?_)
  .apply ((r.Ac _).yd P N Q _ q A.uo H C G_).mono
   grind
  have ⟨I,r⟩:=r;apply (r.emit (u:=dA 268 (W1 #[])) (i:=Wj .tj) (λ_=>i_) G_).mono
  rintro e w' ⟨he,h2⟩;refine⟨⟨_,he⟩,?_⟩;grind [yW,sP]
 ·-- print
  have H:Hs.rE fs Wl f d q:=by grind [cO]
  have z:=Sf fs f d a (aA g) q m j;rw[z]at n ⊢
  have A:=B ⟨X,[q],true⟩ s_
  have C:=D.uu (k:=q) nu
  obtain⟨K,s,rfl⟩:=A.uo.form;simp[et,ff,fh]at n;refine RY w cb (aA g) a.l_ p _ _ _ _ (λW=>∃I,sP fp fb (fs.map (·.x_)) cb F w I (H_ I) (bM #[Y a.l_,dA K (W1 s)] 340) f ((g++[Wj (aM.begin a.l_ f)])++(aF fs f d q (aA g+1)).map Wj) W) J M (L Z) (λW r=>?_) (λW r=>?_)
  .apply ((r.Ac _).yd P N Q _ q A.uo H C G_).mono
   grind
  have ⟨I,r⟩:=r;apply (r.emit (u:=dA 374 (W1 #[])) (i:=Wj .print) (λ_=>i_) G_).mono
  rintro e w' ⟨he,h2⟩;refine⟨⟨_,he⟩,?_⟩;grind [yW,sP]
 have H:Hs.rE fs Wl f d c:=by grind [cO]
 have z:=Kt fs f d a (aA g) c m j;rw[z]at n ⊢
 rw[<-al];have hp:=B ⟨sv,c.y_,Wl⟩ s_
 have C:=D.uu (k:=c) nu
 obtain⟨x,cp,rfl⟩:=hp.many.um;simp[et,ff,fh]at n;refine VW w cb (aA g) a.l_ p _ _ _ _ _ _ (λW=>yW fp fb (fs.map (·.x_)) cb F w ((g++[Wj (aM.begin a.l_ f)])++(aF fs f d c (aA g+1)).map Wj) f W) J M (L Z) (λW r=>?_) (λW r=>?_)
 .cases d with
  |zero=>exact H.elim
  |succ d=>
   have ⟨G,hG,hto,_⟩:=r.Ac (bM #[Y a.l_,Q_ (bs c.x_),P_ x (aA c.y_) cp] 342);apply (Oh ((by grind [uB])) P N c _ a.l_ _ _ hto.1 ab (hp.many.below hto.2.rP) H (C _) G_).mono
   rintro e w' ⟨he,h2⟩;rw[ak]at h2;exact⟨he,G,hG,h2.then hto.2⟩
 have ⟨G,hG,hto⟩:=r;apply (uq (i:=.drop) hto i_ G_).mono
 grind [yW]
def m9(a:aA fs<=1000000)(b:∀k,k<aA fs->fp k=aW (fb k)):∀d,UI fp fb fs cb lo d|0=>(by grind[UI,cO])|d+1=>T_ (m9 a b d) a b
end
section
variable {fp:iD} {fb:Nat->Nat} {fs:List aC} {cb lo d:Nat} {F:bI}
def CQ(fp:iD)(fb:Nat->Nat)(nms:cU)(cb:Nat)(F:bI)(w:aL):Prop:=(∃fv cv sp,w.heap[cb]?=Wj (Xe #[fv,cv,sp] 197)/\GI fp fb nms F w fv)/\∀k,F k->k<w.heap.size/\k≠cb
def QI(c:List aC)(d:Nat){f b:aC}{a:List aC}(e:f.y_=a++[b]):(fP c d f).code=bJ (aT c d) (a.map (·.x_)).reverse b.y_ 0++[.push (bB 0),.tj]:=by simp[fP,e]
def Jq(S:aA fs<=1000000)(X:∀k,k<aA fs->fp k=aW (fb k)){w:aL}(h:CQ fp fb (fs.map (·.x_)) cb F w)(f:aC)(v:aU)(hv:DJ (si lo cb) w v f)(Q:gY fs d f)(V:∀k∈f.y_,kD k)(s:aA f.y_<=90000):Wn Ww 90 #[aW cb,v] w λe m=>∃B,e=bP B/\∃G l,(∀k,F k->G k)/\CP fp fb (fs.map (·.x_)) cb G m ((fP fs d f).code.map Wj) l/\i9 m (aJ cb 1)=Wj B/\Below cb w m/\∀k,F k->m.heap[k]?=w.heap[k]?:=by
 have ⟨⟨fv,cv0,sp0,hblk,hfun⟩,hfix⟩:=h;obtain⟨pv,bv,ps,b,rfl,I,A,ad,z⟩:=hv;obtain⟨E,P,rfl⟩:=A.slice;obtain⟨D,K,rfl⟩:=z.um;have ⟨⟨ps',b',hk',hst,_⟩,hlen⟩:=Q;obtain⟨rfl,M⟩:ps'=ps/\b'=b:=by grind[List.append_inj']
 subst M;rw[QI fs d I]at hlen⊢;simp[et,ff,fh]at hlen;rw[I]at s;simp[et,ff,fh]at s;have C:=aH hblk;have ⟨g,hW0⟩:∃g,g=c9 (c9 w (aJ cb 1) (bR)) (aJ cb 2) (W_ Wk):=(by simp);have y:Below cb w g:=by grind[Below.setCell,dw]
 have L:g.heap.size=w.heap.size:=by rw[hW0];simp
 have ab:∀k,k≠cb->g.heap[k]?=w.heap[k]?:=(by grind[eh]);have J:∀k,F k->g.heap[k]?=w.heap[k]?:=(by grind);have q:g.heap[cb]?=Wj (Xe #[fv,bR,W_ Wk] 197):=by rw[hW0,aN (aN hblk)];rfl
 have t:CP fp fb (fs.map (·.x_)) cb F g [] []:=by refine⟨⟨fv,_,_,q,⟨[],Wh _ _ _ _,i_,s_⟩,rfl,hfun.j_ J (s_) Z⟩,λk I=>⟨G_,G_,?_⟩⟩;grind[Value.ownBlock,lY]
 have ⟨hL1,hcp1⟩:=t.new (Xe #[Y f.l_,WD (bs f.x_),Wz E (aA ps') P,Wz D (aA b'.y_) K] 184);rw[L]at hL1;refine(Sz w cb f.l_ (bs f.x_) E D (aA ps') P (aA b'.y_) K (λB m=>∃G l,(∀k,F k->G k)/\CP fp fb (fs.map (·.x_)) cb G m ((bJ (aT fs d) (ps'.map λa=>a.x_).reverse b'.y_ 0++[aM.push (bB 0),aM.tj]).map Wj) l/\i9 m (aJ cb 1)=Wj B/\Below cb w m/\∀k,F k->m.heap[k]?=w.heap[k]?) (λj W=>∃G,(∀k,F k->G k)/\CP fp fb (fs.map (·.x_)) cb G W [] ((ps'.take j).map λa=>a.x_).reverse/\Loc cb cb g w.heap.size (Xe #[Y f.l_,WD (bs f.x_),Wz E (aA ps') P,Wz D (aA b'.y_) K] 184) W) (λW=>∃G l,(∀k,F k->G k)/\iH fp fb (fs.map (·.x_)) cb G g ((bJ (aT fs d) (ps'.map λa=>a.x_).reverse b'.y_ 0).map Wj) l W) (λW=>∃G l,(∀k,F k->G k)/\iH fp fb (fs.map (·.x_)) cb G g ((bJ (aT fs d) (ps'.map λa=>a.x_).reverse b'.y_ 0).map Wj++[Wj (aM.push (bB 0))]) l W) (λW=>∃G l,(∀k,F k->G k)/\iH fp fb (fs.map (·.x_)) cb G g ((bJ (aT fs d) (ps'.map λa=>a.x_).reverse b'.y_ 0).map Wj++[Wj (aM.push (bB 0))]++[Wj aM.tj]) l W) C Z ⟨_,aB hblk rfl⟩ ⟨_,aB hblk rfl⟩ (aE hblk) (aE hblk) ?_ (λj W o U=>?_) (λW o=>?_) (λW o=>?_) (λW o=>?_) λW o=>?_);show ∃G,_;grind;have ⟨G,hG,hcp,hL⟩:=o;rcases A.get with ⟨_,u⟩|⟨N,aa,H,x,ac,ae,r⟩;rw[u]at U;simp at U;cases H;have ⟨hp1,hp2⟩:=r j U;have n:=y.trans hL.fb.rP;refine⟨N,_,_,i_,ef (Z) n.size,(n.cell (p:=(aJ N (j*2))) x.2).trans hp1,(n.cell (p:=(aJ N (j*2+1))) x.2).trans hp2,?_⟩;have ⟨hL2,hcp2⟩:=hcp.new (Xe #[Y ps'[j].l_,WD (bs ps'[j].x_)] 180);apply (Z3 ps'[j].x_ hcp2 G_).mono;rintro e m ⟨T,q1,q2⟩;refine⟨T,λk=>G k\/k=(h_ W (Xe #[Y ps'[j].l_,WD (bs ps'[j].x_)] 180)).heap.size,G_,?_,hL.step (hL2.fb.trans q2)⟩;grind[List.take_succ_eq_append_getElem];have ⟨G,hG,hcp,hL⟩:=o;rw[ij (Z)]at hcp;have n:=y.trans hL.fb.rP;refine⟨aB hL.n_ i_,aH hL.n_,?_⟩;apply (vU (m9 S X d) _ b'.y_ [] W hcp (z.below n) hst (λa ha=>(V b' G_).uu ha) (by grind[kD.len]) G_ G_).mono;rintro e m ⟨T,G2,af,c⟩;exact⟨T,G2,_,G_,by simpa using c.then hL.fb⟩;have ⟨G,l,hG,c⟩:=o;apply (uq (i:=.push (bB 0)) c (by grind[PV.num,vA,lP]) G_).mono;grind;have ⟨G,l,hG,c⟩:=o;apply (uq (i:=.tj) c i_ G_).mono;grind;have ⟨G,l,hG,c⟩:=o;have ⟨fv',cv',sp',g1,⟨xs,g2,g3⟩,g4,g5⟩:=c.1.n_;grind[gG,aB,Below.trans,FB.rP,CP.fixed,iH]
end
def QZ(w:aL)(b:Nat):Prop:=∀c,w.heap[b]?≠Wj (Xe c 199)
def gR.xh:∀{l:cU}{v:aU},gR F W v l->gR (λb=>F b/\QZ W b) W v l|[],_,h=>h|_::_,_,⟨b,o,c,e,d,a⟩=>⟨b,o,c,(by grind[QZ]),d,gR.xh a⟩
def VR.xh:∀{d:Nat}{v:aU}{a:aD},VR d F W v a->VR d (λb=>F b/\QZ W b) W v a|0,_,_,h=>h.elim|d+1,v,a,h=>by rcases h with h|h|h|⟨o,l,n,m,f⟩;exact ea h;exact dv (ea h);grind[VR];refine dv (dv (dv ⟨o,l,n,m,?_⟩));rcases f with f|⟨g,c,e,r,x,s,t,k⟩;exact ea f;refine dv ⟨g,c,e,r,(by grind[QZ]),s,t,λi p=>?_⟩;obtain⟨u,j,q⟩:=k i p;exact⟨u,j,VR.xh q⟩
theorem lP.xh{i:aM}(h:lP a F W g i):lP a (λb=>F b/\QZ W b) W g i:=by cases i<;>first|exact h|(have ⟨sp,h1,h2⟩:=h;exact⟨sp,h1,h2.xh⟩)|(have ⟨u,h1,⟨d,h2⟩,h3⟩:=h;exact⟨u,h1,⟨d,h2.xh⟩,h3⟩)
def lP.Ca{G:bI}{u:aU}{i:aM}{o:Nat}{c:Array Wo}(h:lP a F W g i)(d:W.heap[R]?=Wj (bM c 199))(e:∀R,F R->G R):lP a G (c9 W (aJ R o) u) g i:=(by grind[lP.j_,lP.xh,eh,QZ])
section
variable {fp:iD} {fb:Nat->Nat} {nms:cU} {cb:Nat} {F:bI} {w:aL}
def TX(a:bS)(h:CQ fp fb nms cb F w)(t:a∈nms)(C:aA nms<=1000000):Wn Ww 91 #[aW cb,WD (bs a)] w λe o=>e=bP (fp (nms.findIdx λx=>x==a))/\o=w:=by
 have ⟨⟨fv,cv,sp,h1,h5⟩,_⟩:=h;rcases h5 with ⟨rfl,_⟩|⟨g,f,rfl,v,l,z,c⟩;cases t;have B:=aH h1;have E:=aB (i:=0) h1 i_;have p:=O c;go_in;go_wp2;go_loopg [6,12] (aA nms) (λgk _ i wr=>∃j:Nat,j+gk=aA nms/\i=Y j/\j<=nms.findIdx (λx=>x==a)/\wr=w);case atStart=>simp
 case round=>
  obtain⟨j,D,rfl,u,rfl⟩:=hrel;have A:nms.findIdx (λx=>x==a)<aA nms:=(by grind);have d:j<aA nms:=Z;obtain⟨m,rfl⟩:∃m,gk=m+1:=⟨gk-1,Z⟩;have ⟨e1,e2,e3,x,e4⟩:=p j d;rw[e2]at e1;have r:=aB (i:=0) e4 i_;by_cases s:nms[j]=a
  .have k:nms.findIdx (λx=>x==a)=j:=by grind
   have q:=O e2;rw[s]at r;go_wp2;go_ret;exact⟨by rw[k,q.out];rfl,rfl⟩
  have n:((bs nms[j]).toList==(bs a).toList)=Wl:=by grind[bA]
  have b:j+1<=nms.findIdx (λx=>x==a):=by grind
  generalize nms[j]=y at*;go_wp2;go_roundg m;case measure=>exact Z
  case rel=>exact⟨j+1,Z,lj,b,rfl⟩
end
def sR(bl:List Nat)(k:Nat):Nat:=bl[k]?.getD 0
def NP(bl:List Nat)(k:Nat):Wo:=aW (sR bl k)
theorem YU{a:List Nat}(h:R<aA a):sR a R=a[R]:=by simp[sR,h]
def Cc(w:aL)(fs:List aC)(j:Nat)(W:aL):Prop:=∃(x:Option Ws) (c:Nat) (bl:List Nat),j<=aA fs/\W.heap[w.heap.size]?=Wj (Xe #[Wz x j c,bR,W_ Wk] 197)/\aA bl=j/\W.ownsRow (w.heap.size+1) 105 1 (Wz x j c) j (bl.map λb=>aW b)/\bl.Nodup/\(∀i (h:i<aA fs),∀b,bl[i]?=Wj b->W.heap[b]?=Wj (Xe #[WD (bs fs[i].x_),bR] 199)/\w.heap.size<b/\b<W.heap.size/\(Value.slice x j c).ownBlock≠Wj b)/\cB w W
def Cf(w:aL)(fs:List aC)(d j:Nat)(W:aL):Prop:=∃(bl:List Nat) (F:bI),aA bl=aA fs/\(bl.Nodup/\∀b∈bl,w.heap.size<b)/\j<=aA fs/\CQ (NP bl) (sR bl) (fs.map (·.x_)) w.heap.size F W/\cB w W/\∀i (h:i<aA fs),i<j->UL (NP bl) F W (NP bl i) (fP fs d fs[i])
def Cc.zero(w:aL)(a:List aC):Cc w a 0 (h_ w (Xe #[bR,bR,W_ Wk] 197)):=⟨Wk,0,[],Z,aS _ _ rfl _,rfl,Wh _ _ _ _,List.nodup_nil,s_,mq⟩
theorem Cc.next{v u:aL}{r:List aC}{j d:Nat}{x:Option Ws}{c:Nat}{g:List Nat}{K M:Obj}(N:j<aA r) (o:aA g=j) (z:g.Nodup) (s:∀i (h:i<aA r),∀b,g[i]?=Wj b->W.heap[b]?=Wj (Xe #[WD (bs r[i].x_),bR] 199)/\H_ w<b/\b<H_ W/\(Value.slice x j c).ownBlock≠Wj b) (t:cB w W) (G:H_ w<H_ W) (n:W.ownsRow (H_ w+1) 105 1 (Wz x j c) j (g.map λb=>aW b)) (A:v=(h_ (W.alloc K) (Xe #[WD (bs r[j].x_),bR] 199)).alloc M) (E:u.ownsRow (H_ w+1) 105 1 (Wz (Wj (aJ R 0)) (j+1) d) (j+1) ((g.map λb=>aW b)++[aW (H_ W+1)])) (f:v.grownBy u (Value.slice x j c).ownBlock) (I:(Value.slice x j c).ownBlock=Wj R\/R=H_ W+3) (C:u.heap[H_ w]?=Wj (Xe #[Wz x j c,bR,W_ Wk] 197)):Cc w r (j+1) (c9 u (aJ (H_ w) 0) (Wz (Wj (aJ R 0)) (j+1) d)):=by
 have H:H_ v=H_ W+3:=by rw[A];simp
 have L:=f.size;have p:R≠H_ w:=by have:=(E.lt R i_).1;exact Z
 have D:cB W v:=by rw[A];exact(((dw _ _).alloc (Z) _).alloc s_ _).alloc ku _
 refine⟨Wj (aJ R 0),d,g++[H_ W+1],N,?_,by simp[o],?_,?_,λi F b m=>?_,?_⟩;rw[aN C];rfl;rw[fo];exact aX E λk J=>eh _ _ _ _ (by cases J;exact p);refine jm.2 ⟨z,s_,λa P b m=>?_⟩;simp at m;obtain⟨i,F,rfl⟩:=ka P;have:=(s i Z _ (ew F)).2.2.1;exact Z;rcases gu i (aA g) with q|q;grind[eh,World.grownBy.block,ej,Value.ownBlock];rw[jd q]at m;have y:i=j:=by grind
 subst y;rw[o,Nat.sub_self]at m;simp at m;subst m;have B:(Value.slice x i c).ownBlock≠Wj (H_ W+1):=λe=>by have:=(n.lt _ e).2;exact Z
 refine⟨?_,Z,ku,λe=>?_⟩;rw[eh _ _ _ _ (G_),f.block _ Z (G_),A,ed _ _ _ s_];exact aS _ _ s_ _;grind[Value.ownBlock];refine((t.trans (D.mono Z)).trans ?_).setCell (s_) _;exact⟨f.os,f.tape,f.output,Z,(by grind[World.grownBy.block,World.ownsRow.lt])⟩
def It(a:List aC)(k:Nat)(h:k<aA (a.map (·.x_))):(a.map (·.x_))[k]=(a[k]'(by simpa using h)).x_:=s_
theorem UH(g j:Nat):(⟨g,0,Wk⟩:Ws).add j=⟨g,j,Wk⟩:=by grind[Addr.add]
def Cf.zero{e:List aC}(l:e≠[])(h:Cc w e (aA e) W):Cf w e R 0 W:=by have ⟨x,c,bl,_,h1,h2,h3,h4,h5,h6⟩:=h;have hpos:=List.length_pos_iff.2 l;have a:=h3;rcases h3.2 with ⟨q,t⟩|⟨g,n,s,q,t,u,v,y⟩;exact Z;obtain⟨rfl,rfl⟩:x=Wj (aJ g 0)/\c=n:=G_;have p:=a.lt g i_;refine⟨bl,λk=>k=g\/k∈bl,h2,⟨h4,λb r=>?_⟩,Z,⟨⟨_,_,_,h1,dv ⟨g,c,s_,ea rfl,G_,p.2,λk j=>?_⟩⟩,λk j=>?_⟩,h6,Z⟩;obtain⟨i,o,rfl⟩:=ka r;exact(h5 i Z bl[i] (ew o)).2.1;have m:k<aA e:=G_;have f:k<aA bl:=Z;have ⟨e1,e2,e3,e4⟩:=h5 k m bl[k] (ew f);refine⟨?_,i_,(by grind[sR]),_,by rw[YU f,e1,It]⟩;have:=a.cells (g:=g) i_ k (NP bl k) (by grind[NP,YU]);grind[UH];rcases j with rfl|j;exact Z;obtain⟨i,o,rfl⟩:=ka j;have ⟨e1,e2,e3,e4⟩:=h5 i Z bl[i] (ew o);exact Z
def Cf.next{l:aL}{j:Nat}{a:List Nat}{G:bI}{V:cU}{v:aU}(hj:j<aA c)(t:aA a=aA c)(H:a.Nodup/\∀b∈a,H_ w<b)(M:cB w W)(p:∀i (h:i<aA c),i<j->UL (NP a) F W (NP a i) (fP c R c[i])) (B:∀k,F k->G k) (n:CP (NP a) (sR a) (c.map (·.x_)) (H_ w) G l ((fP c R c[j]).code.map Wj) V) (aa:i9 l (aJ (H_ w) 1)=Wj v) (ac:Below (H_ w) W l) (C:∀k,F k->l.heap[k]?=W.heap[k]?) (K:0<(fP c R c[j]).code.length):Cf w c R (j+1) (c9 l (aJ (sR a j) 1) v):=by
 have Q:j<aA a:=Z;have ⟨fv,cv',sp,h1,⟨xs,h2,h3⟩,h4,h5⟩:=n.n_;obtain rfl:cv'=v:=by grind[aB]
 have E:j<aA (c.map (·.x_)):=G_;rcases h5 with ⟨e,_⟩|⟨g,A,rfl,P,k2,k3,I⟩;grind;have ⟨m1,m2,m3,x,m4⟩:=I j E;have U:=n.fix _ m3;rcases h2.2 with ⟨_,X⟩|⟨m,f,D,rfl,X,r3,r4,r5,r6,r7⟩;grind;have ab:m≠sR a j:=(by grind);have N:∀k (h:k<aA (c.map (·.x_))),g≠sR a k:=λk o e=>by have ⟨z1,z2,z3,z,z4⟩:=I k o;have ⟨y1,_⟩:=I 0 Z;have:=aB z4 (i:=0) i_;grind
 have J:∀k,k≠sR a j->(c9 l (aJ (sR a j) 1) (Wz (Wj (aJ m 0)) (aA ((fP c R c[j]).code.map Wj)) f)).heap[k]?=l.heap[k]?:=(by grind[eh]);have T:(c9 l (aJ (sR a j) 1) (Wz (Wj (aJ m 0)) (aA ((fP c R c[j]).code.map Wj)) f)).heap[sR a j]?=Wj (Xe #[WD (bs (c.map (·.x_))[j]),Wz (Wj (aJ m 0)) (aA ((fP c R c[j]).code.map Wj)) f] 199):=by rw[aN m4];rfl
 have s:∀i (L:i<aA a),i≠j->sR a i≠sR a j:=(by grind[List.getElem_inj,sR]);refine⟨a,λk=>G k\/k=m,t,H,hj,⟨⟨_,_,_,by rw[J _ (Z)];exact h1,dv ⟨g,A,i_,ea P,k2,G_,λk o=>?_⟩⟩,λk o=>?_⟩,?_,λi L S=>?_⟩;grind[World.cell?_of_block];rcases o with o|rfl;grind[CP.fix];grind;grind[Below.setCell,Below.trans,List.getElem_mem,sR];by_cases r:i=j;subst r;refine⟨sR a i,m,f,D,i_,ea m3,?_,dv i_,G_,λq y=>?_⟩;grind[fP];have ⟨u,u1,u2⟩:=h3.2 q (Wj (fP c R c[i]).code[q]) rq;refine⟨u,?_,lP.Ca u2 m4 G_⟩;grind;have ⟨fb',gc',cap2,cur',a1,a2,a3,a4,a5,a6⟩:=p i L Z;obtain rfl:fb'=sR a i:=G_;have b3:=(C _ a2).trans a3;have b5:=(C _ a4).trans a5;refine⟨sR a i,gc',cap2,cur',i_,G_,G_,G_,G_,λq y=>?_⟩;have ⟨u,u1,u2⟩:=a6 q y;exact⟨u,u1,lP.Ca (u2.j_ C B) m4 G_⟩
def A3{lo d:Nat}{a:List aC}(v:aU)(w:aL)(h:vo (si lo w.heap.size) w v a)(ae:aA a<=90000)(ac:∀f∈a,gY a d f)(af:∀f∈a,∀k∈f.y_,kD k)(ag:∀f∈a,aA f.y_<=90000)(hm:[109,97,105,110]∈a.map (·.x_)):Wn Ww 52 #[v] w λe p=>∃fp F,e=bP (fp (dU a [109,97,105,110]))/\oN fp F p (dW a d)/\cB w p/\∀k,F k->k<p.heap.size:=by
 have t:a≠[]:=(by grind);rcases h.cells with ⟨_,e⟩|⟨A,L,rfl,ab,ad,Q,S⟩;exact ep e t;refine(TU w A (aA a) L (λv p=>∃fp F,v=fp (dU a [109,97,105,110])/\oN fp F p (dW a d)/\cB w p/\∀k,F k->k<p.heap.size) (Cc w a) (Cf w a d) Z (Cc.zero w a) (λj W s D=>?_) (λW s=>Cf.zero t s) (λj W s D=>?_) λW s=>?_).mono ?_;have ⟨x,c,bl,h0,h1,h2,h3,h4,h5,h6⟩:=s;have ⟨pv,bv,ps,b,e0,e1,e2,e3,hkids,hps,hbo,hbk⟩:=S j D;obtain⟨px,pc,rfl⟩:=hps.slice;obtain⟨bx,bc,rfl⟩:=hbk.um;have l:∀o u,i9 w (aJ A o)=Wj u->i9 W (aJ A o)=Wj u:=(by grind[Below.cell]);exact⟨G_,G_,_,_,_,_,_,_,_,_,_,_,_,_,_,l _ _ e0,l _ _ e1,l _ _ e2,l _ _ e3,h1,h3,(by grind[Cc.next])⟩;have ⟨bl,F,h1,h2,h3,h4,h5,h6⟩:=s;have ⟨pv,bv,ps,b,e0,e1,e2,e3,hkids,hps,hbo,hbk⟩:=S j D;have N:DJ (si lo w.heap.size) w (W1 #[Y a[j].l_,WD (bs a[j].x_),pv,bv]) a[j]:=(by grind[DJ]);obtain⟨px,pc,rfl⟩:=hps.slice;obtain⟨bx,bc,rfl⟩:=hbk.um;have l:∀o u,i9 w (aJ A o)=Wj u->i9 W (aJ A o)=Wj u:=(by grind[Below.cell]);have K:=h4;have ⟨⟨V,cv,T,q1,q2⟩,q3⟩:=h4;have r:j<aA (a.map (·.x_)):=G_;rcases q2 with ⟨e,_⟩|⟨g,c,rfl,k1,k2,k3,k4⟩;rw[e]at r;simp at r;have ⟨m1,m2,m3,x,m4⟩:=k4 j r;rw[m2]at m1;have B:aA (a.map (·.x_))=aA a:=s_;refine⟨G_,G_,_,_,_,_,_,_,_,_,g,c,sR bl j,l _ _ e0,l _ _ e1,l _ _ e2,l _ _ e3,by rw[<-B];exact aB q1 i_,k3,m1,λX hS=>?_⟩;have m:cB W X:=((dw _ _).alloc (Z) _).trans (hS.below.mono s_);have z:CQ (NP bl) (sR bl) (a.map (·.x_)) w.heap.size F X:=by obtain⟨⟨V,cv,T,z1,z2⟩,I⟩:=K;exact⟨⟨V,cv,T,by rw[m.block _ (G_)];exact z1,z2.j_ (λk n=>m.block k (I k n).1) (s_) m.size⟩,λk n=>⟨ef (I k n).1 m.size,(I k n).2⟩⟩
 have U:=aH q1;apply (Jq (lo:=lo) (d:=d) Z (λk _=>rfl) z a[j] _ (N.j_ (λk n=>(h5.trans (m.mono Z)).block k n.2) s_) (G_) (G_) (G_)).mono;rintro e p ⟨H,E,G,sn,M,q,J,P,hF⟩;have y:0<(fP a d a[j]).code.length:=by rw[QI a d hkids];simp
 have aa:=q;have ⟨fv',cv2,sp',y1,⟨xs,y2,y3⟩,y4,y5⟩:=q.n_;obtain rfl:cv2=H:=by have:=aB y1 (i:=1) i_;grind
 obtain⟨x',c',rfl⟩:=gG y2;have C:∀k,F k->p.heap[k]?=W.heap[k]?:=λk n=>by rw[hF k n,m.block k (q3 k n).1]
 rcases y5 with ⟨e,_⟩|⟨g2,c2,rfl,l1,l2,l3,l4⟩;grind;have ⟨n1,n2,n3,x2,n4⟩:=l4 j r;rw[n2]at n1;refine⟨x',_,c',E,q.lt,⟨g2,c2,by rw[<-B];exact aB y1 i_,l3,n1⟩,G_,?_,G_,⟨_,aB n4 rfl⟩,aE n4,?_⟩;rw[World.cell?_of_block (C g k1)];exact m1;exact Cf.next D h1 h2 h5 h6 M q J ((m.mono Z).trans P) C y;have ⟨bl,F,h1,h2,h3,h4,h5,h6⟩:=s;apply (TX [109,97,105,110] h4 hm G_).mono;rintro e p ⟨E,rfl⟩;rw[KV]at E;refine⟨_,E,NP bl,F,i_,λk f hf=>?_,h5,λk n=>(h4.2 k n).1⟩;grind[dW];grind
def G8(w:aL)(E:Option Ws)(Q c0:Nat)(x1:Option Ws)(n1 S:Nat)(P:Wo->Wp->Prop)(A:Wo->Wp->Prop)(T:Wo->Nat->Wo->Wp->Prop)(B:Nat->Wp->Prop) (HC:Wu (Wn Ww 52 #[Wz E Q c0] (h_ w (Xe #[Y 0,bR,bR,bR,Y 0] 54)) λe g=>∃p,e=bP (W_ p)/\A (W_ p) g)) (HT:Wu (∀p W,A (W_ p) W->Wn Ww 53 #[Wz x1 n1 S] (h_ W (Xe #[W_ p,Y 0,Y 0,W_ Wk,bR,bR] 112)) λe g=>∃x n c,e=bP (Wz x n c)/\T (W_ p) W.heap.size (Wz x n c) g)) (HG:Wu (∀p v x n c W,T (W_ p) v (Wz x n c) W->Wn Ww 54 #[aW W.heap.size] (h_ W (Xe #[Y 0,Wz (Wj (aJ v 0)) 1 1,Wz x n c,bR,Y 0] 54)) λe g=>e=eV/\B W.heap.size g)) (HB:Wu (∀b W,B b W->∃(q:Nat) (f t o:aU) (r:Nat),W.heap[b]?=Wj (Xe #[Y q,f,t,o,Y r] 54)/\(∃x l c,f=Wz x l c)/\(∃x l c,t=Wz x l c)/\(∃x l c,o=Wz x l c)/\W.heap[w.heap.size]?=Wj (Xe #[Y 0,bR,bR,bR,Y 0] 54)/\b≠w.heap.size/\∀s,Kept [w.heap.size] W s->s.heap.size=W.heap.size->P (W1 #[Y q,f,t,o,Y r]) s)):Wn Ww 17 #[Wz E Q c0,Wz x1 n1 S] w λe g=>∃G,e=bP G/\P G g:=by
 go_in;go_wp;apply HC.mono;rintro e w1 ⟨p,rfl,N⟩;have m:=O (HT _ _ N);generalize ab:w1.heap.size=v at m;clear N;go_wp21;apply m.mono;rintro e w2 ⟨x,n,c,rfl,H⟩;have k:=O (HG _ _ _ _ _ _ H);generalize hb:w2.heap.size=b at k;clear H;go_wp21;refine rB k λd L=>?_;obtain⟨q,f,t,o,r,j,⟨M,I,V,rfl⟩,⟨J,r2,K,rfl⟩,⟨X,F,s3,rfl⟩,a,q3,U⟩:=HB _ _ L;have HQ:=O U;have aa:=aB (i:=0) j i_;have am:=aB (i:=1) j i_;have ah:=aB (i:=2) j i_;have al:=aB (i:=3) j i_;have af:=aB (i:=4) j i_;have u:=aB (i:=0) a i_;have C:=aB (i:=1) a i_;have y:=aB (i:=2) a i_;have D:=aB (i:=3) a i_;have z:=aB (i:=4) a i_;have ae:=aE (i:=0) a;have ak:=aE (i:=1) a;have ai:=aE (i:=2) a;have ac:=aE (i:=3) a;have ag:=aE (i:=4) a;have aj:=aH j;have ad:=aH a;clear L U j a;go_wp21;refine⟨i_,W1 #[Y q,Wz M I V,Wz J r2 K,Wz X F s3,Y r],?_,_,i_,HQ _ ?_ s_⟩;.simp[results,results17,go_sem,u,C,y,D,z]
 grind[Kept.setCell,Kept.refl]
def LZ(w:aL)(v:aU)(l:List Int):Prop:=(l=[]/\v=bR)\/∃g o c,v=Wz (Wj (aJ g o)) (aA l) c/\g<w.heap.size/\∀i (h:i<aA l),i9 w (aJ g (o+i))=Wj (Y l[i])/\-9223372036854775808<=l[i]/\l[i]<=9223372036854775807
def MP(w:aL)(v:aU)(l:List Int)(h:LZ w v l)(t:aA l<=17592186044416):∃x n c,v=Wz x n c/\Wn Ww 53 #[Wz x n c] w λe b=>∃x n c,e=bP (Wz x n c)/\cB w b/\pP (λk=>w.heap.size<=k/\k<b.heap.size) b (Wz x n c) l:=by rcases h with ⟨rfl,rfl⟩|⟨g,o,c,rfl,E,B⟩;refine⟨Wk,0,0,i_,(OD w).mono ?_⟩;grind[dw,pP];refine⟨_,_,_,i_,(OE g o (aA l) c (l.map λn=>Value.int .i64 n) w s_ t (λj u F=>?_) λu y=>?_).mono ?_⟩;grind;obtain⟨n,_,rfl⟩:=ig.1 y;rfl;rintro e b ⟨D,rfl,a,q⟩;obtain⟨x,p,rfl⟩:=gG a;refine⟨x,_,p,i_,q,?_⟩;rcases a.2 with ⟨d,A⟩|⟨m,f,s,d,A,C,r⟩;grind[pP];refine dv ⟨m,0,f,d,r.1,G_,λi z=>⟨?_,(B i z).2⟩⟩;have:=a.cells (g:=m) my i (Y l[i]) (by simp);grind[UH]
theorem UL.ptr{f:eI}(h:UL a F W g f):∃p,g=W_ p:=by grind[UL]
def Kept.below{own:List Nat}{a:aL}(h:Kept own W a)(c:R<=W.heap.size)(b:∀k∈own,R<=k):Below R W a:=⟨h.os,h.tape,h.output,h.size,(by grind[Kept.block])⟩
def Ag(w:aL)(b:Nat):Prop:=∃c t,w.heap[b]?=Wj (Xe c t)/\(t=292\/t=264\/t=199\/t=271)
section
variable {fp:iD} {F:bI} {w:aL}
def gR.ty:∀{l:cU}{v:aU},gR F w v l->gR (λb=>F b/\Ag w b) w v l|[],_,h=>h|_::_,_,⟨b,o,c,e,d,a⟩=>⟨b,o,c,(by grind[Ag]),d,gR.ty a⟩
def VR.ty:∀{d:Nat}{v:aU}{a:aD},VR d F w v a->VR d (λb=>F b/\Ag w b) w v a|0,_,_,h=>h.elim|d+1,v,a,h=>by rcases h with h|h|h|⟨o,l,n,m,f⟩;exact ea h;exact dv (ea h);grind[VR];refine dv (dv (dv ⟨o,l,n,m,?_⟩));rcases f with f|⟨g,c,e,r,x,s,t,k⟩;exact ea f;refine dv ⟨g,c,e,r,(by grind[Ag]),s,t,λi p=>?_⟩;obtain⟨u,j,q⟩:=k i p;exact⟨u,j,VR.ty q⟩
theorem lP.ty{v:aU}{i:aM}(h:lP fp F w v i):lP fp (λb=>F b/\Ag w b) w v i:=by cases i<;>first|exact h|(have ⟨sp,h1,h2⟩:=h;exact⟨sp,h1,h2.ty⟩)|(have ⟨u,h1,⟨d,h2⟩,h3⟩:=h;exact⟨u,h1,⟨d,h2.ty⟩,h3⟩)
def oN.ty{a:List eI}(h:oN fp F w a):oN fp (λb=>F b/\Ag w b) w a:=λk f c=>by grind[lP.ty,UL,Ag,oN]
end
def Ah(w:aL)(b:Nat):Prop:=w.heap.size<b\/(b<w.heap.size/\Ag w b)
def Ah.ne(h:Ah W R):R≠H_ W:=by grind[Ah]
def Nw(w:aL)(b:Nat):Prop:=w.heap.size<=b\/Ag w b
theorem Nw.of(e:cB w W)(h:Nw W R):Nw w R:=by rcases gu R (H_ w)with a|a;rcases h with h|⟨c,t,d,f⟩;have:=e.size;exact Z;rw[e.block _ a]at d;exact dv ⟨c,t,d,f⟩;exact ea a
def N9{lo d:Nat}{i:List aC}{a:List Int}{r:cY×Nat}(v tv:aU)(w:aL)(h:vo (si lo w.heap.size) w v i)(al:aA i<=90000)(J:∀f∈i,gY i d f)(am:∀f∈i,∀R∈f.y_,kD R)(an:∀f∈i,aA f.y_<=90000)(hm:gC i (dU i [109,97,105,110])=Wj 0) (ht:LZ w tv a) (ao:aA a<=17592186044416) (hp:oY w) (hU:lN (dW i d)) (u:fB (dW i d) R (kG i d a)=Wj r) (hr:r.2<=1000):Wn Ww 17 #[v,tv] w λe z=>∃v',e=bP v'/\cB w z/\∃fp G,(∀b,G b->b<z.heap.size/\Ah w b)/\oN fp G z (dW i d)/\oZ fp G z v' ⟨0,r.1,cC 0 r.2⟩:=by
 have ar:dU i [109,97,105,110]<aA i:=by grind[gC]
 have U:[109,97,105,110]∈i.map (·.x_):=by grind[dU]
 obtain⟨x0,c0,rfl⟩:∃x c,v=Wz x (aA i) c:=by grind[vo]
 obtain⟨x1,n1,c1,rfl⟩:∃x n c,tv=Wz x n c:=by grind[LZ]
 generalize aq:(dW i d)[dU i [109,97,105,110]]?.getD ⟨[],[]⟩=f0;have ah:(dW i d)[dU i [109,97,105,110]]?=Wj f0:=by grind[dW]
 have ac:kG i d a=⟨[⟨f0,0,0,[],[],[]⟩],a,[]⟩:=by rw[<-aq];rfl
 have T:=uS J hm a;have ag:iR (kG i d a):=by rw[ac];intro f hf;simp at hf;subst hf;exact⟨(by grind[lN]),s_,s_⟩
 rw[ac]at T ag u;have ⟨m,hw1⟩:∃m,m=h_ w (Xe #[Y 0,bR,bR,bR,Y 0] 54):=(by simp);have Q:cB w m:=by grind[eo,dw]
 have aw:m.heap.size=w.heap.size+1:=by rw[hw1];simp
 have au:m.heap[w.heap.size]?=Wj (Xe #[Y 0,bR,bR,bR,Y 0] 54):=by grind[aS]
 have ai:vo (si lo m.heap.size) m (Wz x0 (aA i) c0) i:=(by grind[vo.grow,ej,si]);refine(G8 w x0 (aA i) c0 x1 n1 c1 (λv' z=>cB w z/\∃fp G,(∀b,G b->b<z.heap.size/\Ah w b)/\oN fp G z (dW i d)/\oZ fp G z v' ⟨0,r.1,cC 0 r.2⟩) (λp W=>∃fp F,p=fp (dU i [109,97,105,110])/\oN fp F W (dW i d)/\cB m W/\∀R,F R->R<W.heap.size) (λp l C W=>∃fp F,p=fp (dU i [109,97,105,110])/\oN fp F W (dW i d)/\cB m W/\(∀R,F R->R<W.heap.size/\R≠l)/\m.heap.size<=l/\l<W.heap.size/\W.heap[l]?=Wj (Xe #[p,Y 0,Y 0,W_ Wk,bR,bR] 112)/\pP F W C a/\∀R,F R->Ah w R) (λb W=>∃fp F l ad C j t,cB m W/\m.heap.size<=b/\dJ Wl fp F m.heap.size W b l ad (Y ((0:Nat):Int)) C j (Y (cC 0 r.2)) t r.1/\oN fp F W (dW i d)/\(∀R∈aZ Wl b l j t,m.heap.size<=R)/\∀R,F R->Ah w R) ?_ (λp W hq=>?_) (λp l x n c W hq=>?_) λb W hq=>?_);rw[<-hw1];apply (A3 (lo:=lo) (d:=d) _ m ai al J am an U).mono;grind[UL.ptr,oN];have ⟨fp,F,hpe,hT,hb,hF⟩:=hq;have ax:=hT.ty;have hN:∀R,Ag W R->Ah w R:=(by grind[ej,Ag,Ah]);generalize M:h_ W (Xe #[W_ p,Y 0,Y 0,W_ Wk,bR,bR] 112)=y;have s:cB W y:=by grind[eo,dw]
 have aj:y.heap.size=W.heap.size+1:=by rw[<-M];simp
 have P:y.heap[W.heap.size]?=Wj (Xe #[W_ p,Y 0,Y 0,W_ Wk,bR,bR] 112):=by grind[aS]
 have hwW:=Q.trans ((hb.mono Z).trans (s.mono (by have:=hb.size;exact Z)));have ap:LZ y (Wz x1 n1 c1) a:=by rcases ht with ht|⟨g,o,c,e,hg,hc⟩;exact ea ht;exact dv ⟨g,o,c,e,ef hg hwW.size,(by grind[Below.cell])⟩
 have ⟨x,n,c,e,hcl⟩:=MP y _ a ap ao;rw[e];apply hcl.mono;rintro e z ⟨x',n',c',he,K,I⟩;have hbw:=s.trans (K.mono Z);refine⟨x',n',c',he,fp,λR=>(F R/\Ag W R)\/(y.heap.size<=R/\R<z.heap.size),hpe,(by grind[oN.j_,ej]),hb.trans (hbw.mono hb.size),λR u=>?_,hb.size,by have:=K.size;exact Z,by rw[K.block _ Z];exact P,I.j_ (s_) Z,λR u=>by rcases u with N|N;grind;have:=hb.size;exact ea Z⟩;grind[Below.size];have ⟨fp,F,hpe,hT,hb,hF,hg1,hg2,hg3,I,hFz⟩:=hq;generalize M:h_ W (Xe #[Y 0,Wz (Wj (aJ l 0)) 1 1,Wz x n c,bR,Y 0] 54)=y;have s:cB W y:=by grind[eo,dw]
 have aj:y.heap.size=W.heap.size+1:=by rw[<-M];simp
 have P:y.heap[W.heap.size]?=Wj (Xe #[Y 0,Wz (Wj (aJ l 0)) 1 1,Wz x n c,bR,Y 0] 54):=by grind[aS]
 have hTW:=hT.j_ (λR u=>s.block R (hF R u).1) zW;have ab:aZ Wl W.heap.size l (bR) [⟨W_ p,Y 0,Y 0,W_ Wk,bR,bR⟩]=[W.heap.size,l]:=rfl;have D:oM F m.heap.size y (bR) []:=⟨⟨[],Wh _ _ _ _,iG.nil _ _⟩,s_⟩;have X:dJ Wl fp F m.heap.size y W.heap.size l 1 (Y ((0:Nat):Int)) (Wz x n c) (bR) (Y 0) [⟨W_ p,Y 0,Y 0,W_ Wk,bR,bR⟩] ⟨[⟨f0,0,0,[],[],[]⟩],a,[]⟩:=by refine⟨P,⟨i_,dv ⟨l,1,_,i_,hg1,by rw[s.block _ hg2];exact hg3,s_,ky,rfl,rfl⟩⟩,⟨⟨?_,rfl,rfl,rfl,D,D⟩,trivial⟩,I.j_ (λR u=>s.block R (hF R u).1) s_,Wh _ _ _ _,?_,?_,λR u=>?_⟩;rw[hpe];exact hTW _ _ ah;grind;grind;grind
 have hb0:=hb.trans (s.mono hb.size);have hbw0:=Q.trans (hb0.mono Z);refine(YK (oG J) hU X hTW (EM.of hp hbw0 λR u=>?_) hb0.size T ag s_ Z u Z hr).mono ?_;grind;rintro e z ⟨he,L,G,af,S,ae,A,E,d1,d2,d3⟩;rw[ab]at d3 L;have aa:∀x∈aZ Wl W.heap.size af A E,m.heap.size<=x:=(by grind);have ak:∀R∈[W.heap.size,l],m.heap.size<=R:=(by grind);refine⟨he,fp,G,af,S,ae,A,E,hb0.trans (L.below hb0.size ak),hb.size,d2,?_,aa,λR u=>?_⟩;refine hTW.j_ (λR u=>L.block R (G_) λhm=>?_) d1.sub;grind;grind[ue.new,Ah];have ⟨fp,F,l,ad,C,j,t,g1,g2,g5,gT,g6,g7⟩:=hq;have V:=g5.n_;refine⟨_,_,_,_,_,V,s_,?_,AP g5.out,lm,Z,λy B av=>?_⟩;rcases g5.tape with ⟨_,x,c,e⟩|⟨g,o,c,e,_⟩<;>exact⟨_,_,_,e⟩;have hb0:=Q.trans (g1.mono Z);have hS:=g5.kept (G:=λR=>F R\/(R∈aZ Wl b l j t/\R≠b)) (λ_ h=>ea h) (λR q hn=>dv ⟨q,hn⟩);have H:∀R,(F R\/(R∈aZ Wl b l j t/\R≠b))->Ah w R/\R<W.heap.size:=λR q=>by rcases q with N|⟨N,_⟩;exact⟨g7 R N,(g5.apart R N).1⟩;have:=g6 R N;exact⟨ea Z,g5.lt R N⟩
 have hkk:=λR q=>B.block R (H R q).2 (by simpa using (H R q).1.ne);refine⟨⟨B.os.trans hb0.os,B.tape.trans hb0.tape,B.output.trans hb0.output,G_,λR q=>?_⟩,fp,λR=>F R\/(R∈aZ Wl b l j t/\R≠b),G_,(by grind[oN.j_]),hS.j_ hkk s_⟩;grind[Kept.block,ej]
