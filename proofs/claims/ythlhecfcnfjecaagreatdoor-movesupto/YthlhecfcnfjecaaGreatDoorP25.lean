import Derived.Test.YthlhecfcnfjecaaGreatDoorP24
set_option linter.all false
set_option maxRecDepth 100000
set_option maxHeartbeats 0
open List renaming length->aA
open Go.World renaming setCell->c9,alloc->i9,cell?->I_
open Go renaming bodyPost_ret->Wx,Calls->W_,Value->Xa,World->Xb,Addr->Xe
open Option renaming some->Wy,none->Wz
open Bool renaming false->WD,true->W1
open Go.Proofs.Tryz renaming prog->Xi
open Go.Value renaming slice->Xl,string->Xm,agg->Xn,pointer->Xo,tuple->Xp,bool->Xr
open Go.Obj renaming cells->Xt
namespace Go.Proofs.YthlhecfcnfjecaaGreatDoor
open Hs _root_.Go.Proofs.Tryz Go.RowKit
variable{a:List Int}{t:List Nat}{r:List aC}{Q S T:Nat}{A:Nat->Option bW}{x:Obj}{E y:aN}{z:bL}{D:bW}{B:iJ}
def xE(x y:Int):Int:=if x<y then -1 else if x>y then 1 else 0
def Vt{x y:Int}(h:¬x=y):¬xE x y=0:=by grind[xE]
def PH(x:Int)(w:aN):W_ Xi 205 #[Y x] w λe w'=>e=bR (Xr WD)/\w'=w:=by go_in;go_wp2;go_ret;simp
def ZP(x y:Int)(w:aN):W_ Xi 157 #[Y x,Y y] w λe w'=>e=bR (Y (xE x y))/\w'=w:=by
 go_in;go_wp;apply (PH x w).mono;rintro e b ⟨rfl,rfl⟩;go_wp21;apply (PH y b).mono;rintro e f ⟨rfl,rfl⟩;by_cases d:x<y
 .have a:Hid (xE x y=-1):=by show _=_;unfold xE;exact Z
  go_wp2;go_ret;exact⟨by rw[a.out];rfl,rfl⟩
 by_cases c:y<x
 .have a:Hid (xE x y=1):=by show _=_;grind[xE]
  go_wp2;go_ret;exact⟨by rw[a.out];rfl,rfl⟩
 have a:Hid (xE x y=0):=by show _=_;grind[xE]
 go_wp2;go_ret;exact⟨by rw[a.out];rfl,rfl⟩
def PU(k f:Int)(a b c d e:aX)(w:aN)(o:∃x l c,b=P_ x l c)(p:∃x l d,c=P_ x l d)(i:∃x l c,d=P_ x l c)(m:∃n,a=Y n)(j:∃n,e=Y n):W_ Xi 156 #[Xn #[Y k,a,b,c,d,e],Y f] w λg w'=>g=bR (Y (xE k f))/\w'=eF w #[Y k,a,b,c,d,e] 209:=by go_in;go_wp;apply mJ (ZP k f _);go_wp2;go_ret;simp
structure xh where
 k:Int
 a:Int
 b:Xa
 c:Xa
 d:Xa
 e:Int
def xh.cells(x:xh):List Xa:=[Y x.k,Y x.a,x.b,x.c,x.d,Y x.e]
def mQ:List xh->List Xa|[]=>[]|x::l=>x.cells++mQ l
structure xh.Ok(x:xh):Prop where
 b:∃y l c,x.b=Xl y l c
 c:∃y l c,x.c=Xl y l c
 d:∃y l c,x.d=Xl y l c
def Fp(w:aN)(g:Nat)(es:List xh):Prop:=∀i (h:i<aA es),es[i].Ok/\I_ w (aL g (i*6))=Wy (Y es[i].k)/\I_ w (aL g (i*6+1))=Wy (Y es[i].a)/\I_ w (aL g (i*6+2))=Wy es[i].b/\I_ w (aL g (i*6+3))=Wy es[i].c/\I_ w (aL g (i*6+4))=Wy es[i].d/\I_ w (aL g (i*6+5))=Wy (Y es[i].e)
structure Found(es:List xh)(key:Int)(at_:Nat)(found:Bool):Prop where
 le:at_<=aA es
 lo:∀i (h:i<aA es),i<at_->es[i].k<key
 hi:∀i (h:i<aA es),at_<=i->key<=es[i].k
 Dm:found=W1↔∃h:at_<aA es,es[at_].k=key
def I5(g G:Nat)(b:List xh)(c:Int)(w:aN)(hl:aA b<=100000)(I:g<H_ w)(X:Fp w g b)(T:∀i j (hi:i<aA b) (K:j<aA b),i<=j->b[i].k<=b[j].k):W_ Xi 155 #[P_ (Wy (aL g 0)) (aA b) G,Y c,.func (.func 156) #[] #[]] w λe w'=>∃y fd,e=bR (Xp #[Y (y:Nat),Xr fd])/\R_ w w'/\Found b c y fd:=by
 have H:=O X;have S:=O T;go_in;go_wp2;go_loopg [9,10,11] (aA b) (λgk iv Q _ wr=>∃i j:Nat,iv=Y i/\Q=Y j/\i<=j/\j<=aA b/\j-i<=gk/\R_ w wr/\(∀k (h:k<aA b),k<i->b[k].k<c)/\(∀k (h:k<aA b),j<=k->c<=b[k].k));case atStart=>exact⟨0,aA b,aJ,aJ,Z,Z,Z,dv _ _,Z,Z⟩
 case round=>
  obtain⟨i,j,rfl,rfl,M,K,P,t,m,l⟩:=hrel;by_cases L:i<j
  .have f:=O (du m l);have W:(i+j)/2<aA b:=Z;have ⟨o0,v,D,r,s,p,z⟩:=H _ W;have a:∀o u,dR w g o u->dR wr g o u:=(by grind[Below.cell]);have v:=a _ _ v;have D:=a _ _ D;have r:=a _ _ r;have s:=a _ _ s;have p:=a _ _ p;have z:=a _ _ z;have hgr:=eh I t.size;have q:=O t;have A:Hid (∀k (h:k<aA b),(k<=(i+j)/2->b[k].k<=b[(i+j)/2].k)/\((i+j)/2<=k->b[(i+j)/2].k<=b[k].k)):=λk h=>⟨G_,G_⟩;have ⟨y1,l1,d1,f1⟩:=o0.b;have ⟨y2,l2,d2,f2⟩:=o0.c;have ⟨y3,l3,d3,f3⟩:=o0.d;rw[f1]at r;rw[f2]at s;rw[f3]at p;generalize b[(i+j)/2].k=mk at*;generalize b[(i+j)/2].a=C at*;generalize b[(i+j)/2].e=B at*;have F:=O (PU mk c (Y C) (P_ y1 l1 d1) (P_ y2 l2 d2) (P_ y3 l3 d3) (Y B) wr s_ s_ s_ s_ s_);go_wp;apply mJ F;have d:=O (q.trans (((dv _ wr).alloc (Z) (bO #[Y mk,Y C,P_ y1 l1 d1,P_ y2 l2 d2,P_ y3 l3 d3,Y B] 209)).mono q.size));by_cases n:mk<c
   .have x:xE mk c=-1:=by unfold xE;exact Z
    rw[x];have E:=O n;go_wp2;go_roundg ((gk-1));case measure=>exact Z
    case rel=>refine⟨(i+j)/2+1,j,ll,rfl,Z,K,Z,d,λk h J=>?_,f.2⟩;exact Int.lt_of_le_of_lt ((A k h).1 Z) E
   have x:0<=xE mk c:=by unfold xE;exact Z
   have E:=O n;go_wp2;go_roundg (gk-1);case measure=>exact Z
   case rel=>refine⟨i,(i+j)/2,aJ,ll,Z,Z,Z,d,f.1,λk h J=>?_⟩;have:=(A k h).2 J;exact Z
  obtain rfl:i=j:=Z;by_cases V:i<aA b
  .have f:=O (du m l);have ⟨o0,v,D,r,s,p,z⟩:=H _ V;have a:∀o u,dR w g o u->dR wr g o u:=(by grind[Below.cell]);have v:=a _ _ v;have D:=a _ _ D;have r:=a _ _ r;have s:=a _ _ s;have p:=a _ _ p;have z:=a _ _ z;have hgr:=eh I t.size;have q:=O t;have ⟨y1,l1,d1,f1⟩:=o0.b;have ⟨y2,l2,d2,f2⟩:=o0.c;have ⟨y3,l3,d3,f3⟩:=o0.d;rw[f1]at r;rw[f2]at s;rw[f3]at p;have ⟨mk,hmk⟩:∃mk,mk=b[i].k:=(by simp);rw[<-hmk]at v;have N:=O hmk;generalize b[i].a=C at*;generalize b[i].e=B at*;clear m l t f1 f2 f3 a hmk o0 H S;have F:=O (PU mk c (Y C) (P_ y1 l1 d1) (P_ y2 l2 d2) (P_ y3 l3 d3) (Y B) wr s_ s_ s_ s_ s_);go_wp;apply mJ F;have d:=O (q.trans (((dv _ wr).alloc (Z) (bO #[Y mk,Y C,P_ y1 l1 d1,P_ y2 l2 d2,P_ y3 l3 d3,Y B] 209)).mono q.size));by_cases n:mk=c
   .have x:xE mk c=0:=by unfold xE;exact Z
    rw[x];have E:=O n;clear n x;go_wp2;go_ret2;refine⟨i,W1,aJ,d,Z,f.1,f.2,?_⟩;grind[dw]
   have x:(xE mk c==0)=WD:=by simpa using Vt n
   have E:=O n;go_wp2;go_ret2;refine⟨i,WD,aJ,d,Z,f.1,f.2,?_⟩;grind[dw]
  have f:=O (du m l);have q:=O t;go_wp2;go_ret2;refine⟨i,WD,aJ,q,Z,f.1,f.2,?_⟩;grind
def I4(a:Int)(w:aN):W_ Xi 155 #[bP,Y a,.func (.func 156) #[] #[]] w λe w'=>e=bR (Xp #[Y 0,Xr WD])/\w'=w:=by
 go_in;go_wp2;go_loopg [9,10,11] 0 (λ_ b c _ wr=>b=Y 0/\c=Y 0/\wr=w);case atStart=>simp
 case round=>obtain⟨rfl,rfl,rfl⟩:=hrel;go_wp2;go_ret2;simp
def Jn:(prog.info? 209).map (λi=>(i.zero,i.size,i.bytes))=Wy (Wy (Xn #[Y 0,Y 0,bP,bP,bP,Y 0]),6,96):=k_
def PT(w:aN)(d:Nat)(x:Option Xe)(n c:Nat)(b:Int)(P:Int->Bool->Xb->Prop)(l:dR w d 5 (P_ x n c)) (j:Hid (W_ Xi 155 #[P_ x n c,Y b,.func (.func 156) #[] #[]] w λe w'=>∃a f,e=bR (Xp #[Y a,Xr f])/\P a f w')):W_ Xi 95 #[Xo (Wy (aL d 5)),Y b] w λe w'=>∃a f,e=bR (Xp #[Y a,Xr f])/\P a f w':=by go_in;go_wp;apply j.mono;rintro e k ⟨a,f,rfl,i⟩;have g:=O i;go_wp2;go_ret2;exact⟨a,f,aJ,g⟩
def KH(w:aN)(v g n y b:Nat)(d a e:Int)(t r j:Option Xe)(s x k l m p:Nat)(P Q:lA)(A:b<n) (C:Hid (W_ Xi 95 #[Xo (Wy (aL v 5)),Y d] (i9 w (bO #[Y a,P_ t s l,P_ r x m,P_ j k p,Y e] 55)) λq w'=>q=bR (Xp #[Y b,Xr W1])/\Q w')) (B:Hid (∀W,Q W->v<W.heap.size/\I_ W (aL v 5)=Wy (P_ (Wy (aL g 0)) n y)/\g<W.heap.size/\(∃c,W.heap[g]?=Wy (bO c 209)/\b*6+5<c.size)/\W.heap[w.heap.size]?=Wy (bO #[Y a,P_ t s l,P_ r x m,P_ j k p,Y e] 55)/\∀W',bZ (c9 (c9 (c9 (c9 (c9 W (aL g (b*6+1)) (Y a)) (aL g (b*6+2)) (P_ t s l)) (aL g (b*6+3)) (P_ r x m)) (aL g (b*6+4)) (P_ j k p)) (aL g (b*6+5)) (Y e)) W'->P W')):W_ Xi 57 #[Xo (Wy (aL v 5)),Y d,Xn #[Y a,P_ t s l,P_ r x m,P_ j k p,Y e]] w λq w'=>q=fA/\P w':=by go_in;go_wp;apply C.mono;rintro q z ⟨rfl,D⟩;have ⟨q1,q2,q3,⟨c,q4,q5⟩,q6,q7⟩:=B _ D;have T:=O q7;have K:=aB q6 (i:=0) aJ;have E:=aB q6 (i:=1) aJ;have S:=aB q6 (i:=2) aJ;have I:=aB q6 (i:=3) aJ;have L:=aB q6 (i:=4) aJ;have f:∀o,o<=b*6+5->∃u,I_ z (aL g o)=Wy u:=λo M=>⟨c[o]'Z,by rw[cell_of_row z g o c _ _ q4];simp⟩;have ⟨u1,m1⟩:=f (b*6+1) Z;have ⟨u2,m2⟩:=f (b*6+2) Z;have ⟨u3,m3⟩:=f (b*6+3) Z;have ⟨u4,m4⟩:=f (b*6+4) Z;have ⟨u5,m5⟩:=f (b*6+5) Z;have J:=aF q4 (i:=b*6+1);have G:=aF q4 (i:=b*6+2);have N:=aF q4 (i:=b*6+3);have H:=aF q4 (i:=b*6+4);have F:=aF q4 (i:=b*6+5);go_wp2;go_region;all_goals go_wp2;go_end0;grind[bZ.drew]
def P6(w:aN)(a b n:Nat)(v:aX)(r:List Xa)(f:Int)(d:w.ownsRow a 209 6 v n r)(u:w.heap[b]?=Wy (Xt #[Y f,Y 0,bP,bP,bP,Y 0] 209))(K:n<=100000)(j:a<=w.heap.size):W_ Xi 96 #[v,Y n,Xl (Wy (aL b 0)) 1 1] w λe w'=>∃g k,e=bR (Xl (Wy (aL g 0)) (n+1) k)/\w'.ownsRow a 209 6 (Xl (Wy (aL g 0)) (n+1) k) (n+1) (r++[Y f,Y 0,bP,bP,bP,Y 0])/\w.grownBy w' v.ownBlock/\(v.ownBlock=Wy g\/g=w.heap.size):=by
 have ⟨i0,hi,hz0,hz1,hz2⟩:=info_parts Jn;obtain⟨x,c,rfl⟩:=fV d;have C:=O d;have E:=O (World.news_of_block u);have p:∀v∈([Y f,Y 0,bP,bP,bP,Y 0]:List Xa),v.oneCell'=W1:=λv s=>by simp at s;rcases s with rfl|rfl|rfl|rfl<;>rfl
 have HONE:=O p;have F:(x=Wz/\n=0/\c=0)\/(∃g,x=Wy (aL g 0)/\n<c)\/∃g,x=Wy (aL g 0)/\c=n:=by rcases d.2 with ⟨t,G⟩|⟨g,k,A,t,G,I,J,_⟩;grind;grind
 rcases F with ⟨rfl,rfl,rfl⟩|⟨z,rfl,D⟩|⟨z,rfl,rfl⟩;all_goals go_in;go_wp2_with (at_builtin;refine wpList_append_lies _ r_ _ _ 58 r_ a 209 i0 _ 6 96 underlying58 hi hz0 hz1 hz2 rfl d_ _ _ r r_ C (aL b 0) 1 1 [Y f,Y 0,bP,bP,bP,Y 0] r_ r_ (E) HONE d_ lg Z j w.heap.size rfl ?_);intro B o H l i m y;have q:=O (du l (du i m));go_wp2;go_ret;exact⟨B,o,aJ,q.1,q.2.1,q.2.2⟩
def SF(w:aN)(f n:Nat)(x:Option Xe)(c:Nat)(j a e:Int)(y t m:Option Xe)(v z p q r s:Nat)(P Q:lA)(R:Nat->Nat->Xb->Prop)(hn:n<=100000) (E:Hid (W_ Xi 95 #[Xo (Wy (aL f 5)),Y j] (i9 w (Xt #[Y a,Xl y v q,Xl t z r,Xl m p s,Y e] 55)) λk w'=>k=bR (Xp #[Y n,Xr WD])/\Q w')) (F:Hid (∀W,Q W->f<W.heap.size/\I_ W (aL f 5)=Wy (Xl x n c)/\W_ Xi 96 #[Xl x n c,Y n,Xl (Wy (aL W.heap.size 0)) 1 1] (i9 W (Xt #[Y j,Y 0,bP,bP,bP,Y 0] 209)) λe w'=>∃g b,e=bR (Xl (Wy (aL g 0)) (n+1) b)/\R g b w')) (D:Hid (∀g b W,R g b W->f<W.heap.size/\g≠f/\g≠w.heap.size/\f≠w.heap.size/\(∃u,I_ W (aL f 5)=Wy u)/\W.frozen? (aL f 5)=WD/\g<W.heap.size/\(∃d,W.heap[g]?=Wy (Xt d 209)/\n*6+5<d.size)/\W.heap[w.heap.size]?=Wy (Xt #[Y a,Xl y v q,Xl t z r,Xl m p s,Y e] 55)/\∀W',bZ (c9 (c9 (c9 (c9 (c9 (c9 W (aL f 5) (Xl (Wy (aL g 0)) (n+1) b)) (aL g (n*6+1)) (Y a)) (aL g (n*6+2)) (Xl y v q)) (aL g (n*6+3)) (Xl t z r)) (aL g (n*6+4)) (Xl m p s)) (aL g (n*6+5)) (Y e)) W'->P W')):W_ Xi 57 #[Xo (Wy (aL f 5)),Y j,Xn #[Y a,Xl y v q,Xl t z r,Xl m p s,Y e]] w λk w'=>k=fA/\P w':=by go_in;go_wp;apply E.mono;rintro k X ⟨rfl,C⟩;have ⟨i1,i2,i3⟩:=F _ C;have A:=O i3;go_wp21;apply A.mono;rintro k B ⟨g,b,rfl,G⟩;have ⟨q1,g1,g2,g3,⟨v5,g4⟩,g5,q3,⟨d,q4,q5⟩,q6,q7⟩:=D _ _ _ G;have H:=O q7;have S:=aB q6 (i:=0) aJ;have I:=aB q6 (i:=1) aJ;have k2:=aB q6 (i:=2) aJ;have M:=aB q6 (i:=3) aJ;have T:=aB q6 (i:=4) aJ;have l:∀o,o<=n*6+5->∃u,I_ B (aL g o)=Wy u:=λo V=>⟨d[o]'Z,by rw[cell_of_row B g o d _ _ q4];simp⟩;have ⟨u1,m1⟩:=l (n*6+1) Z;have ⟨u2,m2⟩:=l (n*6+2) Z;have ⟨u3,m3⟩:=l (n*6+3) Z;have ⟨u4,m4⟩:=l (n*6+4) Z;have ⟨u5,m5⟩:=l (n*6+5) Z;have N:=aF q4 (i:=n*6+1);have K:=aF q4 (i:=n*6+2);have z3:=aF q4 (i:=n*6+3);have L:=aF q4 (i:=n*6+4);have J:=aF q4 (i:=n*6+5);go_wp2;go_region;all_goals go_wp2;go_end0;exact⟨aJ,H _ (bZ.drew _)⟩
def tI(a e:Int)(f j g:Option Xe)(c i k l b d:Nat)(w:aN):W_ Xi 56 #[Xn #[Y a,Xl f c l,Xl j i b,Xl g k d,Y e]] w λm w'=>m=bR (Y a)/\w'=i9 w (Xt #[Y a,Xl f c l,Xl j i b,Xl g k d,Y e] 55):=by go_in;go_wp2;go_ret;simp
def VH:Array Xa:=#[Y 0,bP,bP,bP,Y 0]
def Sj(w:aN)(sb K0:Nat)(f:Int)(I:Nat->Nat->SV->Bool->Xb->Prop)(R:SV->Bool->Xb->Prop) (HL:Hid (W_ Xi 116 #[Xo (Wy (aL sb 5)),Y f] (i9 w (Xt VH 55)) λe w'=>∃v ok,e=bR (Xp #[SV.val v,Xr ok])/\I K0 w'.heap.size v ok (i9 w' (Xt v.cells 55)))) (A:Hid (∀gk b v ok W,I gk b v ok W->W.heap[b]?=Wy (Xt v.cells 55)/\w.heap.size≠b/\W.heap[w.heap.size]?=Wy (Xt VH 55))) (H:Hid (∀gk b v W,I gk b v W1 W->(v.t:Int)<f->∃j,gk=j+1/\W_ Xi 117 #[aY sb,v.val] (i9 W (Xt v.cells 55)) λe w'=>∃D ok,e=bR (Xp #[SV.val D,Xr ok])/\(∃c,w'.heap[b]?=Wy (Xt c 55)/\c.size=5)/\I j b D ok (iC w' b D))) (G:Hid (∀gk b v W,I gk b v W1 W->f<=(v.t:Int)->R v W1 (iC (i9 W (Xt v.cells 55)) w.heap.size v))) (l:Hid (∀gk b v W,I gk b v WD W->R v WD (iC W w.heap.size v))):W_ Xi 65 #[aY sb,Y f] w λe w'=>∃v ok,e=bR (Xp #[SV.val v,Xr ok])/\R v ok w':=by
 unfold VH at HL A;go_in;go_wp;apply HL.mono;rintro e N ⟨v0,ad,rfl,h1⟩;have H1:=O h1;unfold SV.cells at H1;unfold SV.val;clear h1 HL;go_wp2;go_loopg [7] K0 (λgk s7 wr=>∃v ok,s7=Xr ok/\I gk N.heap.size v ok wr);case atStart=>grind[dw]
 case round=>
  obtain⟨v,ok,rfl,B⟩:=hrel;have ⟨hblk,hne,hz⟩:=A _ _ _ _ _ B;unfold SV.cells at hblk;have t:=aB (i:=0) hblk aJ;have r:=aB (i:=1) hblk aJ;have p:=aB (i:=2) hblk aJ;have q:=aB (i:=3) hblk aJ;have u:=aB (i:=4) hblk aJ;have ab:=aH hblk;have lz:=aH hz;cases ok;.have z0:=aB (i:=0) hz aJ;have S:=aB (i:=1) hz aJ;have P:=aB (i:=2) hz aJ;have z3:=aB (i:=3) hz aJ;have Q:=aB (i:=4) hz aJ;have E:=aF (i:=0) hz;have F:=aF (i:=1) hz;have J:=aF (i:=2) hz;have L:=aF (i:=3) hz;have K:=aF (i:=4) hz;have z:=O (mN (W:=wr) (s:=v) hz s_ rfl);have n:=O (l _ _ _ _ B);unfold iC at z n;clear B A H G l hblk hz;go_wp;have k:=z.out;have x:=n.out;clear z n z0 S P z3 Q E F J L K t r p q u;generalize (c9 (c9 (c9 (c9 wr (aL w.heap.size 0) (Y v.t)) (aL w.heap.size 1) (Xl v.x1 v.n1 v.c1)) (aL w.heap.size 2) (Xl v.x2 v.n2 v.c2)) (aL w.heap.size 3) (Xl v.x3 v.n3 v.c3)).setCell (aL w.heap.size 4) (Y v.q)=W3 at k x⊢;have ⟨T,V,X,c3,c4⟩:=k;exact Wx (v:=Xp #[v.val,Xr WD]) pm rfl G_
  have HT:=O (tI v.t v.q v.x1 v.x2 v.x3 v.n1 v.n2 v.n3 v.c1 v.c2 v.c3 wr);have m:=O B;clear B;go_wp;apply mJ HT;clear HT;by_cases hv:(v.t:Int)<f
  .obtain⟨j,rfl,hN⟩:=H _ _ _ _ m hv;have o:=O hN;unfold SV.cells SV.val at o;clear hN;generalize y:i9 wr (Xt #[Y v.t,Xl v.x1 v.n1 v.c1,Xl v.x2 v.n2 v.c2,Xl v.x3 v.n3 v.c3,Y v.q] 55)=M at o⊢;have a:M.heap[N.heap.size]?=Wy (Xt #[Y v.t,Xl v.x1 v.n1 v.c1,Xl v.x2 v.n2 v.c2,Xl v.x3 v.n3 v.c3,Y v.q] 55):=by grind[ed]
   clear t r p q u;have t:=aB (i:=0) a aJ;have r:=aB (i:=1) a aJ;have p:=aB (i:=2) a aJ;have q:=aB (i:=3) a aJ;have u:=aB (i:=4) a aJ;have C:=aH a;clear hblk a y m A H G l hz;go_wp21;apply o.mono;rintro e w6 ⟨D,ok,rfl,⟨c,g,ac⟩,h6⟩;have H6:=O h6;unfold iC at H6;clear o t r p q u h6;have t:=aB (i:=0) g (ff Z);have r:=aB (i:=1) g (ff Z);have p:=aB (i:=2) g (ff Z);have q:=aB (i:=3) g (ff Z);have u:=aB (i:=4) g (ff Z);have E:=aF (i:=0) g;have F:=aF (i:=1) g;have J:=aF (i:=2) g;have L:=aF (i:=3) g;have K:=aF (i:=4) g;have aa:=aH g;clear g;go_wp2;go_roundg j;case measure=>exact Z
   grind[dw]
  have n:=O (G _ _ _ _ m Z);have d:(i9 wr (Xt v.cells 55)).heap[w.heap.size]?=Wy (Xt #[Y 0,bP,bP,bP,Y 0] 55):=by grind[ed]
  have a:(i9 wr (Xt v.cells 55)).heap[N.heap.size]?=Wy (Xt #[Y v.t,Xl v.x1 v.n1 v.c1,Xl v.x2 v.n2 v.c2,Xl v.x3 v.n3 v.c3,Y v.q] 55):=by grind[ed]
  unfold SV.cells at n d a;generalize y:i9 wr (Xt #[Y v.t,Xl v.x1 v.n1 v.c1,Xl v.x2 v.n2 v.c2,Xl v.x3 v.n3 v.c3,Y v.q] 55)=M at n d a⊢;clear t r p q u;have t:=aB (i:=0) a aJ;have r:=aB (i:=1) a aJ;have p:=aB (i:=2) a aJ;have q:=aB (i:=3) a aJ;have u:=aB (i:=4) a aJ;have C:=aH a;have ae:=aH d;have z0:=aB (i:=0) d aJ;have S:=aB (i:=1) d aJ;have P:=aB (i:=2) d aJ;have z3:=aB (i:=3) d aJ;have Q:=aB (i:=4) d aJ;have E:=aF (i:=0) d;have F:=aF (i:=1) d;have J:=aF (i:=2) d;have L:=aF (i:=3) d;have K:=aF (i:=4) d;have z:=O (mN (W:=M) (s:=v) d s_ rfl);unfold iC at z n;clear A H G l m hblk hz d a y;go_wp21;have k:=z.out;have x:=n.out;clear z n z0 S P z3 Q E F J L K t r p q u;generalize (c9 (c9 (c9 (c9 M (aL w.heap.size 0) (Y v.t)) (aL w.heap.size 1) (Xl v.x1 v.n1 v.c1)) (aL w.heap.size 2) (Xl v.x2 v.n2 v.c2)) (aL w.heap.size 3) (Xl v.x3 v.n3 v.c3)).setCell (aL w.heap.size 4) (Y v.q)=W3 at k x⊢;obtain⟨T,V,X,c3,c4⟩:=k;exact Wx (v:=Xp #[v.val,Xr W1]) pm rfl G_
def G7(w:aN)(o:Nat)(a:Nat)(e:Int)(l j c:Option Xe)(k m d f g i:Nat)(P:lA)(v:a%20=0)(x:a<=1000000) (s:Hid (∀W',R_ w W'->W_ Xi 57 #[Xo (Wy (aL o 5)),Y a,Xn #[Y a,P_ l k f,P_ j m g,P_ c d i,Y e]] W' λb w'=>b=fA/\P w')):W_ Xi 19 #[aY o,Xn #[Y a,P_ l k f,P_ j m g,P_ c d i,Y e]] w λb w'=>b=fA/\P w':=by
 have q:(a:Int)%20=0:=Z;have r:(a:Int).tmod 20=0:=by rw[Int.tmod_eq_emod_of_nonneg Z];exact q
 go_in;go_wp;apply (tI a e l j c k m d f g i _).mono;rintro b t ⟨rfl,rfl⟩;go_wp2;go_region_law (go_simp;first|(go_at_call 56;apply (tI a e l j c k m d f g i _).mono;rintro b y ⟨rfl,rfl⟩)|(go_at_call 57;refine(s _ ((((dv _ w).alloc lZ _).alloc s_ _).alloc la _).drew).mono ?_;rintro b u ⟨rfl,n⟩;have p:=O n;clear n));all_goals go_wp2;go_end0;exact⟨aJ,p⟩
def Nn(w:aN)(p:Nat)(a:Nat)(e:Int)(l j b:Option Xe)(k m c d f g:Nat)(r:a%20≠0)(s:a<=1000000):W_ Xi 19 #[aY p,Xn #[Y a,P_ l k d,P_ j m f,P_ b c g,Y e]] w λi w'=>i=fA/\R_ w w':=by
 have n:¬(a:Int)%20=0:=Z;have o:¬(a:Int).tmod 20=0:=by rw[Int.tmod_eq_emod_of_nonneg Z];exact n
 go_in;go_wp;apply (tI a e l j b k m c d f g _).mono;rintro i q ⟨rfl,rfl⟩;go_wp2;go_end0;exact⟨aJ,((dv _ w).alloc lZ _).alloc s_ _⟩
def SO(l m:List xh):mQ (l++m)=mQ l++mQ m:=by induction l with|nil=>rfl|cons x l a=>simp[mQ,a]
def SN(l:List xh):aA (mQ l)=aA l*6:=by induction l with|nil=>rfl|cons x l a=>simp[mQ,xh.cells];exact Z
theorem PR:∀(l:List xh) (i j:Nat) (h:i<aA l),j<6->(mQ l)[i*6+j]?=(l[i].cells)[j]?|x::l,0,j,h,a=>by grind[mQ,xh.cells]|x::l,i+1,j,h,a=>by have:=PR l i j G_ a;simp [mQ];grind[xh.cells]
theorem PQ:∀(l:List xh) (i:Nat) (x:xh) (h:i<aA l),x.k=l[i].k->mQ (l.set i x)=(((((mQ l).set (i*6+1) (Y x.a)).set (i*6+2) x.b).set (i*6+3) x.c).set (i*6+4) x.d).set (i*6+5) (Y x.e)|y::l,0,x,h,a=>by simp[mQ,xh.cells,a]|y::l,i+1,x,h,a=>by have b:=PQ l i x G_ G_;have e:∀j,(i+1)*6+j=i*6+j+6:=Z;simp [mQ,e,xh.cells,ip];rw[b]
def TT(fp:iJ)(F:bL)(w:aN)(st:Nat->Option bW)(i:Nat)(x:xh):Prop:=x.k=((20*i:Nat):Int)/\∃s,st (20*i)=Wy s/\pA fp F w (Xn #[Y x.a,x.b,x.c,x.d,Y x.e]) s
theorem TT.h_{a:iJ}{G:bL}{w w':aN}{i:Nat}{x:xh}(h:TT a z w A i x)(d:∀b,z b->w'.heap[b]?=w.heap[b]?)(e:∀b,z b->G b):TT a G w' A i x:=by grind[pA.h_,TT]
theorem TT.ok{F:bL}{i:Nat}{x:xh}(h:TT B F y A i x):x.Ok:=by obtain⟨_,s,_,f⟩:=h;have ⟨fv,tv,xo,e,f1,f2,f3⟩:=f.form;simp only[Value.agg.injEq]at e;have a:=fe (λz=>z[1]?) e;have c:=fe (λz=>z[2]?) e;have b:=fe (λz=>z[3]?) e;simp at a c b;subst a c b;exact⟨f1,f2,f3⟩
structure kR(fp:iJ)(F:bL)(w:aN)(sb mb:Nat)(mo:Obj)(st:Nat->Option bW)(s:bW)(n:Nat):Prop where
 i_:∃fv tv ov ev es,w.heap[sb]?=Wy (Xt #[Y s.m_,fv,tv,ov,Y s.stop,ev,.map (Wy mb)] 62)/\pA fp F w (Xn #[Y s.m_,fv,tv,ov,Y s.stop]) s/\
  w.ownsRow (sb+1) 209 6 ev n (mQ es)/\aA es=n/\(∀i (h:i<aA es),TT fp F w st i es[i])/\(∀k,F k->ev.ownBlock≠Wy k)/\ev.ownBlock≠Wy mb
 now:st s.m_=Wy s
 fix:∀k,F k->k<w.heap.size/\k≠sb/\k≠mb
 map:w.heap[mb]?=Wy mo/\mb≠sb
def qR(sb:Nat)(w:aN):Option Nat:=match w.heap[sb]? with|some (Xt c _ _)=>(c[5]?).bind Value.ownBlock|_=>Wz
def RD{b:aN}(h:b.heap[Q]?=y.heap[Q]?):qR Q b=qR Q y:=by unfold qR;rw[h]
def qX{c:Array Xa}{T:TypeId}{z:Nat×Nat}{v:aX}(h:y.heap[Q]?=Wy (Xt c T z))(b:c[5]?=Wy v):qR Q y=v.ownBlock:=by grind[qR]
structure FS(sb:Nat)(w w':aN):Prop where
 os:w'.os=w.os
 tape:w'.tape=w.tape
 output:w'.output=w.output
 size:w.heap.size<=w'.heap.size
 i_:∀k,k<w.heap.size->k≠sb->qR sb w≠Wy k->w'.heap[k]?=w.heap[k]?
 row:∀k,qR sb w'=Wy k->qR sb w=Wy k\/w.heap.size<=k
def FS.refl(a:Nat)(w:aN):FS a w w:=⟨rfl,rfl,rfl,Z,s_,G_⟩
theorem FS.trans{sb:Nat}{a b c:aN}(h:FS sb a b)(k:FS sb b c):FS sb a c:=by refine⟨k.os.trans h.os,k.tape.trans h.tape,k.output.trans h.output,em h.size k.size,λi d f e=>?_,λi d=>?_⟩;grind[FS.i_,FS.row];grind[FS.row,Nat.le_trans,FS.size,qR]
def FS.p_{b:Nat}(h:R_ y E)(c:b<y.heap.size):FS b y E:=⟨h.os,h.tape,h.output,h.size,lm,(by grind[ef,qR])⟩
section
variable {fp:iJ} {F G:bL} {w w':aN} {sb mb n:Nat} {mo:Obj} {st:Nat->Option bW} {s:bW}
def kR.lt(h:kR fp F w sb mb mo st s n):sb<w.heap.size:=by grind[kR.i_]
def kR.row(h:kR fp F w sb mb mo st s n):∀k,qR sb w=Wy k->sb<k/\k<w.heap.size/\¬F k/\k≠mb:=by have ⟨_,_,_,ev,_,h1,_,h3,_,_,h6,h7⟩:=h.i_;intro k a;rw[qX h1 rfl]at a;have:=h3.lt k a;grind
def kR.grow(h:kR fp F w sb mb mo st s n)(i:R_ w w')(j:∀k,F k->G k)(d:∀k,G k->F k\/(w.heap.size<=k/\k<w'.heap.size)):kR fp G w' sb mb mo st s n:=by have g:=h.lt;have ⟨fv,tv,ov,ev,es,h1,h2,h3,h4,h5,h6,h7⟩:=h.i_;have f:∀b,F b->w'.heap[b]?=w.heap[b]?:=(by grind[ef,kR.fix]);refine⟨⟨fv,tv,ov,ev,es,lm,h2.h_ f j,jZ h3 i,h4,(by grind[TT.h_]),λk a=>?_,h7⟩,h.now,λk a=>?_,by grind[ef,kR.map]⟩;rcases d k a with c|c;grind;intro e;have:=(h3.lt k e).2;exact Z;rcases d k a with c|c;grind[kR.fix];have:=aH h.map.1;exact Z
theorem l6{es:List xh}{a g d:Nat}(h:w.ownsRow a 209 6 (P_ (Wy (aL g 0)) (aA es) d) (aA es) (mQ es))(b:∀i (h:i<aA es),es[i].Ok):Fp w g es:=λi e=>by
 have c:∀j u,j<6->(es[i].cells)[j]?=Wy u->dR w g (i*6+j) u:=λj u f k=>by have:=h.cells (g:=g) aJ (i*6+j) u (by grind[PR]);grind[TO]
 exact⟨b i e,c 0 _ Z rfl,c 1 _ Z rfl,c 2 _ Z rfl,c 3 _ Z rfl,c 4 _ Z rfl,c 5 _ Z rfl⟩
theorem Z1{j:List xh}{f g k i:Nat}{W:aN}{a e:Int}{b c d:aX}(h:w.ownsRow f 209 6 (P_ (Wy (aL g 0)) (aA j) k) (aA j) (mQ j))(x:i<aA j) (p:W.heap=(c9 (c9 (c9 (c9 (c9 w (aL g (i*6+1)) (Y a)) (aL g (i*6+2)) b) (aL g (i*6+3)) c) (aL g (i*6+4)) d) (aL g (i*6+5)) (Y e)).heap):W.ownsRow f 209 6 (P_ (Wy (aL g 0)) (aA j) k) (aA j) (mQ (j.set i ⟨j[i].k,a,b,c,d,e⟩)):=by rcases h.2 with ⟨l,_⟩|⟨v,m,r,l,s,n,o,q,t,u⟩;cases l;cases l;refine⟨by simp[SN],dz ⟨g,k,_,rfl,s,by rw[p];exact aP (aP (aP (aP (aP n)))),o,q,G_,?_⟩⟩;grind[PQ,List.take_set]
end
structure Et(n:Nat)(key:Int)(at_:Nat)(fd:Bool):Prop where
 le:at_<=n
 lo:∀i,i<at_->((20*i:Nat):Int)<key
 hi:∀i,i<n->at_<=i->key<=((20*i:Nat):Int)
 Dm:fd=W1↔at_<n/\((20*at_:Nat):Int)=key
section
variable {fp:iJ} {F G:bL} {w w':aN} {sb mb n:Nat} {mo:Obj} {st:Nat->Option bW} {s:bW}
def DI(h:kR fp F w sb mb mo st s n)(b:Int)(y:n<=1000):W_ Xi 95 #[Xo (Wy (aL sb 5)),Y b] w λe w'=>∃(c:Nat) (o:Bool),e=bR (Xp #[Y c,Xr o])/\R_ w w'/\Et n b c o:=by have ⟨fv,tv,ov,ev,es,h1,h2,h3,h4,h5,h6,h7⟩:=h.i_;have hk:=λi j=>(h5 i j).1;have p:=aB (i:=5) h1 aJ;subst h4;rcases h3.2 with ⟨l,t⟩|⟨g,d,r,l,t,u,v,x⟩;subst l;refine(PT w sb Wz 0 0 b (λa f w'=>a=0/\f=WD/\w'=w) p ((I4 b w).mono ?_)).mono ?_;simp;rintro e w' ⟨a,f,rfl,rfl,rfl,rfl⟩;exact⟨0,WD,aJ,dv _ _,Z,Z,Z,G_⟩;subst l;refine(PT w sb (Wy (aL g 0)) (aA es) d b (λa f w'=>∃c:Nat,a=c/\R_ w w'/\Found es b c f) p ((I5 g d es b w Z (G_) ((by grind[l6,TT.ok])) (G_)).mono ?_)).mono ?_;grind;rintro e w' ⟨_,f,rfl,a,rfl,q,k⟩;refine⟨a,f,aJ,q,k.le,λi j=>?_,λi j m=>?_,?_⟩;have:=k.lo i (by have:=k.le;exact Z) j;grind;have:=k.hi i j m;grind;grind[Found.Dm]
def PL(W:aN)(g a b c d e:Nat)(u v x y z:aX)(k:Nat)(f:k≠g):(c9 (c9 (c9 (c9 (c9 W (aL g a) u) (aL g b) v) (aL g c) x) (aL g d) y) (aL g e) z).heap[k]?=W.heap[k]?:=by grind[ej]
def Y9(W:aN)(p q r t o:Xe)(u v x y z:aX):(((((W.setCell p u).setCell q v).setCell r x).setCell t y).setCell o z).os=W.os/\(((((W.setCell p u).setCell q v).setCell r x).setCell t y).setCell o z).tape=W.tape/\(((((W.setCell p u).setCell q v).setCell r x).setCell t y).setCell o z).output=W.output/\(((((W.setCell p u).setCell q v).setCell r x).setCell t y).setCell o z).heap.size=W.heap.size:=by grind[World.setCell]
def Ja(h:kR fp F w sb mb mo st s n)(v:aX)(b:bW)(Q:pA fp F w v b)(hs:st b.m_=Wy b)(hm:b.m_%20=0)(N:b.m_/20<n)(hn:n<=1000)(ht:b.m_<=1000000):W_ Xi 57 #[Xo (Wy (aL sb 5)),Y b.m_,v] w λe w'=>e=fA/\FS sb w w'/\kR fp F w' sb mb mo st s n:=by
 obtain⟨f',t',o',rfl,⟨E,C,x,rfl⟩,⟨B,G,y,rfl⟩,⟨p,q,A,rfl⟩⟩:=Q.form;have ⟨fv,tv,ov,ev,es,h1,h2,h3,h4,h5,h6,h7⟩:=h.i_;subst h4;have J:=h3;rcases h3.2 with ⟨M,r2⟩|⟨g,u,z,M,r2,T,r4,r5,r6,r7⟩;exact Z;subst M;have ⟨l,hw1⟩:∃l,l=i9 w (bO #[Y b.m_,P_ E C x,P_ B G y,P_ p q A,Y b.stop] 55):=(by simp);have D:R_ w l:=by grind[eo,dv]
 have V:l.heap[w.heap.size]?=Wy (bO #[Y b.m_,P_ E C x,P_ B G y,P_ p q A,Y b.stop] 55):=by grind[aV]
 have aa:l.heap.size=w.heap.size+1:=by rw[hw1];simp
 refine(KH w sb g (aA es) u (b.m_/20) b.m_ b.m_ b.stop E B p C G q x y A (λw'=>FS sb w w'/\kR fp F w' sb mb mo st s (aA es)) (λW=>R_ l W) N ?_ λW X=>?_);show W_ _ _ _ _ _;rw[<-hw1];apply (DI (h.grow D (s_) λ_ h=>ea h) b.m_ hn).mono;rintro e w' ⟨a,fd,rfl,hb,P⟩;have e1:a=b.m_/20:=by
  refine Nat.le_antisymm ?_ ?_;cases a with|zero=>exact Z|succ a=>have:=P.lo a Z;exact Z
  rcases gw a (b.m_/20)with h8|h8;have:=P.hi a Z (Z);exact Z;exact Z
 grind[Et.Dm];have c:=D.trans (X.mono Z);have o:=h.lt;have I:=h.grow c (s_) (λ_ h=>ea h);have ab:=aH T;have ae:W.heap[g]?=Wy (bO z 209):=by grind[ef]
 have ac:b.m_/20*6+5<z.size:=Z;refine⟨I.lt,(by grind[aB,ef]),G_,G_,lm,λL j=>?_⟩;have r:g≠sb:=Z;have m:∀k,k≠g->L.heap[k]?=W.heap[k]?:=λk m=>by rw[j.heap];exact PL W g _ _ _ _ _ _ _ _ _ _ k m
 have S:qR sb W=Wy g:=qX (by rw[c.block _ o];exact h1) aJ;have ad:∀k,F k->k≠g:=λk m e=>h6 k m (by rw[e];rfl);have H:FS sb W L:=by obtain⟨a1,a2,a3,a4⟩:=Y9 W (aL g (b.m_/20*6+1)) (aL g (b.m_/20*6+2)) (aL g (b.m_/20*6+3)) (aL g (b.m_/20*6+4)) (aL g (b.m_/20*6+5)) (Y b.m_) (P_ E C x) (P_ B G y) (P_ p q A) (Y b.stop);refine⟨j.os.trans a1,j.tape.trans a2,j.output.trans a3,by rw[j.heap,a4];exact Z,G_,λk f=>ea ?_⟩;rw[<-RD (m sb λe=>r e.symm)];exact f
 refine⟨(FS.p_ c o).trans H,⟨fv,tv,ov,P_ (Wy (aL g 0)) (aA es) u,es.set (b.m_/20) ⟨es[b.m_/20].k,b.m_,P_ E C x,P_ B G y,P_ p q A,b.stop⟩,?_,?_,?_,s_,λi hi=>?_,h6,h7⟩,h.now,λk f=>?_,?_⟩;grind[ef];exact h2.h_ ((by grind[ef,kR.fix])) s_;exact Z1 (jZ J c) N j.heap;have t:i<aA es:=G_;have d:∀k,F k->L.heap[k]?=w.heap[k]?:=(by grind[ef,kR.fix]);by_cases K:i=b.m_/20;subst K;rw[List.getElem_set_self];refine⟨(h5 _ t).1,b,?_,Q.h_ d s_⟩;grind;rw[List.getElem_set_ne (Z)];exact(h5 i t).h_ d s_;have:=h.fix k f;exact⟨by rw[j.heap];simpa using eh this.1 c.size,this.2⟩;refine⟨?_,h.map.2⟩;rw[m mb λe=>h7 (by rw[e];rfl),c.block _ (aH h.map.1)];exact h.map.1
end
section
variable {fp:iJ} {F G:bL} {w w':aN} {sb mb n:Nat} {mo:Obj} {st:Nat->Option bW} {s:bW}
def Im{k:List xh}{f g j i m:Nat}{W:aN}{k0 a e:Int}{b c d:aX}(l:aA k=m)(h:w.ownsRow f 209 6 (Xl (Wy (aL g 0)) m j) m (mQ k))(p:i<aA k)(n:k[i].k=k0) (o:W.heap=(c9 (c9 (c9 (c9 (c9 w (aL g (i*6+1)) (Y a)) (aL g (i*6+2)) b) (aL g (i*6+3)) c) (aL g (i*6+4)) d) (aL g (i*6+5)) (Y e)).heap):W.ownsRow f 209 6 (Xl (Wy (aL g 0)) m j) m (mQ (k.set i ⟨k0,a,b,c,d,e⟩)):=by grind[Z1]
def Vb(h:kR fp F w sb mb mo st s n)(v:aX)(f:bW)(hv:pA fp F w v f)(hs:st f.m_=Wy f)(hm:f.m_%20=0)(hq:f.m_/20=n)(hn:n<=1000):W_ Xi 57 #[Xo (Wy (aL sb 5)),Y f.m_,v] w λe w'=>e=fA/\FS sb w w'/\kR fp F w' sb mb mo st s (n+1):=by
 obtain⟨f',t',o',rfl,⟨I,D,B,rfl⟩,⟨A,E,y,rfl⟩,⟨G,H,C,rfl⟩⟩:=hv.form;have ⟨fv,tv,ov,ev,es,h1,h2,h3,h4,h5,h6,h7⟩:=h.i_;have ac:=h.lt;have Q:=h3;obtain⟨x,c,rfl⟩:=fV h3;have ⟨o,hw1⟩:∃o,o=i9 w (bO #[Y f.m_,P_ I D B,P_ A E y,P_ G H C,Y f.stop] 55):=(by simp);have V:R_ w o:=by grind[eo,dv]
 have al:o.heap[w.heap.size]?=Wy (bO #[Y f.m_,P_ I D B,P_ A E y,P_ G H C,Y f.stop] 55):=by grind[aV]
 have ar:o.heap.size=w.heap.size+1:=by rw[hw1];simp
 have ao:∀k,(Value.slice x n c).ownBlock=Wy k->sb<k/\k<w.heap.size:=λk l=>by have:=Q.lt k l;exact Z
 refine(SF w sb n x c f.m_ f.m_ f.stop I A G D E H B y C (λw'=>FS sb w w'/\kR fp F w' sb mb mo st s (n+1)) (λW=>R_ o W) (λg j W=>(∀k,k<o.heap.size->Wy k≠(Value.slice x n c).ownBlock->W.heap[k]?=o.heap[k]?)/\W.os=w.os/\W.tape=w.tape/\W.output=w.output/\o.heap.size<=W.heap.size/\((Value.slice x n c).ownBlock=Wy g\/o.heap.size<=g)/\W.ownsRow (sb+1) 209 6 (P_ (Wy (aL g 0)) (n+1) j) (n+1) (mQ es++[Y f.m_,Y 0,bP,bP,bP,Y 0])) Z ?_ (λW hW=>?_) λg j W hW=>?_);rw[<-hw1];apply (DI (h.grow V (s_) λ_ h=>ea h) f.m_ hn).mono;rintro e w' ⟨a,fd,rfl,hb,hf⟩;have e1:a=n:=by apply Nat.le_antisymm hf.le;rcases gw a n with P|P;have:=hf.hi a P (Z);exact Z;exact Z
 have e2:fd=WD:=by cases fd with|false=>rfl|true=>have:=(hf.Dm.1 aJ).1;exact Z
 grind;have hbw:=V.trans (hW.mono Z);have af:=jZ Q hbw;refine⟨eh ac hbw.size,(by grind[aB,ef]),?_⟩;refine(P6 _ (sb+1) W.heap.size n (P_ x n c) (mQ es) f.m_ (af.alloc _) (aV _ _ aJ _) Z (by have:=hbw.size;simp;exact Z)).mono ?_;rintro e w' ⟨g,j,rfl,q1,q2,X⟩;have au:=hW.size;have ai:=q2.size;simp[World.size_alloc]at ai;refine⟨g,j,aJ,λk l J=>?_,?_,?_,?_,Z,?_,q1⟩;grind[World.grownBy.block,ed,ef];exact q2.os.trans hbw.os;exact q2.tape.trans hbw.tape;exact q2.output.trans hbw.output;rcases X with X|X;grind;exact dz (by rw[X];simp;exact Z);have ⟨b1,b2,b3,b4,b5,b6,b7⟩:=hW;have ah:=b7;have q:g≠sb:=G_;have aa:g≠w.heap.size:=by grind
 rcases b7.2 with ⟨r1,_⟩|⟨g',aj,ab,r1,r2,r3,r4,r5,r6,r7⟩;cases r1;cases r1;have m:W.heap[sb]?=Wy (bO #[Y s.m_,fv,tv,ov,Y s.stop,P_ x n c,.map (Wy mb)] 62):=by grind[ef]
 have aq:n*6+5<ab.size:=Z;refine⟨Z,q,aa,Z,⟨_,aB m rfl⟩,aF m,G_,G_,G_,λT u=>?_⟩;generalize M:c9 W (aL sb 5) (P_ (Wy (aL g 0)) (n+1) j)=p at u;have ae:∀k,k≠sb->p.heap[k]?=W.heap[k]?:=(by grind[ej]);have ak:p.heap[sb]?=Wy (bO #[Y s.m_,fv,tv,ov,Y s.stop,P_ (Wy (aL g 0)) (n+1) j,.map (Wy mb)] 62):=by rw[<-M];exact aP m
 have L:p.os=W.os/\p.tape=W.tape/\p.output=W.output/\p.heap.size=W.heap.size:=by rw[<-M];exact⟨aJ,aJ,aJ,s_⟩
 have ap:∀k,k≠g->T.heap[k]?=p.heap[k]?:=λk l=>by rw[u.heap];exact PL p g _ _ _ _ _ _ _ _ _ _ k l
 have ⟨a1,a2,a3,a4⟩:=Y9 p (aL g (n*6+1)) (aL g (n*6+2)) (aL g (n*6+3)) (aL g (n*6+4)) (aL g (n*6+5)) (Y f.m_) (P_ I D B) (P_ A E y) (P_ G H C) (Y f.stop);have an:T.heap.size=W.heap.size:=by rw[u.heap,a4,L.2.2.2]
 have K:∀k,k<w.heap.size->k≠sb->Wy k≠(Value.slice x n c).ownBlock->T.heap[k]?=w.heap[k]?:=(by grind[ef]);have hFk:=λk l=>K k (h.fix k l).1 (h.fix k l).2.1 λe=>h6 k l e.symm;have av:=aH h.map.1;have hrow0:=qX h1 aJ;have r:T.heap[sb]?=Wy (bO #[Y s.m_,fv,tv,ov,Y s.stop,P_ (Wy (aL g 0)) (n+1) j,.map (Wy mb)] 62):=G_;have ⟨z,hz⟩:∃z:xh,z=⟨f.m_,0,bP,bP,bP,0⟩:=(by simp);have t:p.ownsRow (sb+1) 209 6 (P_ (Wy (aL g 0)) (n+1) j) (n+1) (mQ (es++[z])):=by rw[SO,hz];exact bE ah λk e=>ae k (by cases e;exact q)
 have N:aA (es++[z])=n+1:=by simp[h4]
 have ad:(es++[z])[n]'Z=z:=by rw[List.getElem_append_right Z];simp
 have S:=Im (W:=T) (i:=n) (k0:=f.m_) (a:=f.m_) (b:=P_ I D B) (c:=P_ A E y) (d:=P_ G H C) (e:=f.stop) N t (by rw[N];exact Z) (by rw[ad,hz]) u.heap;refine⟨⟨u.os.trans (G_),u.tape.trans (G_),u.output.trans (G_),Z,λk l J hr=>K k l J λe=>hr (by rw[hrow0];exact e.symm),λk l=>?_⟩,⟨fv,tv,ov,P_ (Wy (aL g 0)) (n+1) j,(es++[z]).set n ⟨f.m_,f.m_,P_ I D B,P_ A E y,P_ G H C,f.stop⟩,r,h2.h_ hFk s_,?_,by simp[h4],λi hi=>?_,λk l e=>?_,λe=>?_⟩,h.now,λk l=>?_,?_⟩;rw[qX r rfl]at l;cases l;rcases b6 with P|P;exact ea (by rw[hrow0];exact P);grind;exact S;have am:i<n+1:=G_;by_cases ag:i=n;subst ag;rw[List.getElem_set_self];refine⟨G_,f,?_,hv.h_ hFk s_⟩;rw[show 20*i=f.m_ by exact Z];exact hs;rw[List.getElem_set_ne (Z),List.getElem_append_left Z];exact(h5 i Z).h_ hFk s_;grind[Value.ownBlock];grind[Value.ownBlock];have:=h.fix k l;exact Z;grind[kR.map]
def OH(h:kR fp F w sb mb mo st s n)(v:aX)(a:bW)(z:pA fp F w v a)(u:st a.m_=Wy a)(D:a.m_%20=0->a.m_/20<=n)(y:n<=1000)(i:a.m_<=1000000):W_ Xi 19 #[aY sb,v] w λe w'=>e=fA/\FS sb w w'/\kR fp F w' sb mb mo st s (if a.m_%20=0/\a.m_/20=n then n+1 else n):=by obtain⟨H,G,I,rfl,⟨B,A,q,rfl⟩,⟨x,C,r,rfl⟩,⟨o,p,t,rfl⟩⟩:=z.form;by_cases b:a.m_%20=0;refine G7 w sb a.m_ a.stop B x o A C p q r t _ b i λW g=>?_;have d:=h.grow g (s_) (λ_ h=>ea h);have c:=z.h_ (λk E=>g.block k (h.fix k E).1) LR;rcases Nat.eq_or_lt_of_le (D b)with e|e;rw[ec ⟨b,e⟩];apply (Vb d _ a c u b e y).mono;rintro e w' ⟨f,j,l⟩;exact⟨f,(FS.p_ g h.lt).trans j,l⟩;rw[dy Z];apply (Ja d _ a c u b e y i).mono;rintro e w' ⟨f,j,l⟩;exact⟨f,(FS.p_ g h.lt).trans j,l⟩;rw[dy (Z)];apply (Nn w sb a.m_ a.stop B x o A C p q r t b i).mono;rintro e w' ⟨f,m⟩;exact⟨f,FS.p_ m h.lt,h.grow m (s_) (G_)⟩
end
theorem zE:∀(l:List aE) (a v:aE),(cJ l a v).2<=9|[],_,_=>by simp[cJ]|i::l,a,v=>by unfold cJ;have:=zE l (a.l.getD i.n.toNat aZ) v;grind
theorem Mw(c:bQ)(a b:aE):(dJ c a b).2<=9:=by
 unfold dJ jD fZ;repeat' split
 all_goals first|(simp;done)|(grind)
def SL(i:aO)(f:aI):(aS i f).2<=9:=by
 cases i<;>simp [aS];case assign k n=>grind[zE,jJ,jH]
 case unary op=>grind[dH]
 case binary op=>grind[Mw]
 case index=>grind[cB]
 case list n=>grind[jH]
 case length=>grind[dO]
 all_goals(repeat' split)<;>simp
def Tm(b:List eL)(i:aO)(a:List aI)(f:aI)(t:List Int)(o:cY):(cF b i a f t o).2<=9:=by
 cases i<;>simp only[cF]<;>first|exact SL _ _|skip
 case read=>grind
 case call=>grind
 case tw=>simp
 grind
structure Rest(n:Nat)(m:dC):Prop where
 Bf:iQ m
 out:aA m.out<=50
 tape:aA m.tape<=n
theorem vS{a:List eL}(e:lH a):∀(k:Nat) (m:dC) (r:dC×Nat),Rest Q m->fE a k m=Wy r->Rest Q r.1/\r.2<=9
 |0,_,_,_,h=>by cases h|k+1,m,r,c,h=>by
  rw[fE]at h;cases j:m.f_.getLast? with|none=>grind|some f=>
   rw[j]at h;simp only at h;cases d:f.tr with|none=>grind|some p=>
    obtain⟨i,g⟩:=p;rw[d]at h;simp only at h;have l:m.f_=m.f_.dropLast++[f]:=by grind[List.getLast?_eq_some_iff]
    have b:iQ ⟨m.f_.dropLast++[f],m.tape,m.out⟩:=by have:=c.Bf;grind[iQ]
    have o:Rest Q (cF a i m.f_.dropLast g m.tape m.out).1:=⟨KR e b d,l9 c.out,em ZE c.tape⟩;have q:=Tm a i m.f_.dropLast g m.tape m.out;split at h;grind;split at h;grind;exact vS e k _ _ o h
def OF{a:List eL}(e:lH a){b:dC}(g:Rest Q b):∀(t:Nat) (s:bW),iB a b t=Wy s->Rest Q s.m/\s.stop<=9
 |0,s,h=>by
  rw[iB]at h;cases c:fE a oB b with
  |none=>grind|some r=>grind[vS,cD]
 |t+1,s,h=>by
  rw[iB]at h;cases f:iB a b t with|none=>grind|some d=>
   rw[f]at h;simp only at h;split at h;cases c:fE a oB d.m with|none=>grind|some r=>obtain⟨j,i⟩:=vS e _ _ _ (OF e g t d f).1 c;grind[cD]
   cases h
def Pq(s:ByteArray)(w:aN)(c:s.size<=281474976710656):W_ Xi 17 #[Q_ s] w λe w'=>e=bR (Q_ s)/\R_ w w':=by have d:=O (stringslite_Clone s w c);go_in;go_wp;refine sa d λf b=>?_;have a:=O b;go_wp2;go_ret;exact⟨aJ,a⟩
def F6(a:ByteArray)(b p:Nat)(w:aN)(y:qF w)(C:a.size<=281474976710656)(D:I_ w (aL b 0)=Wy (Xm a))(H:w.heap[p]?=Wy (Xt #[bP] 46)):W_ Xi 15 #[aY b,aY p] w λe w'=>(dQ a.data.toList=(0,0)/\e=fA/\∃f v ks,R_ w f/\eB a.data.toList=.ok ks/\vq (sm w.heap.size f.heap.size) f v ks/\w'=c9 f (aL p 0) v)\/((dQ a.data.toList).1≠0/\e=iE (dQ a.data.toList).1 (dQ a.data.toList).2/\R_ w w'):=by
 have A:=O (Pq a w C);have B:Hid (∀W,R_ w W->W_ Xi 16 #[Xm a] W (OQ a.data.toList W)):=λW u=>Tp a W (y.below u) lg;go_in;go_wp;refine sa A λf l=>?_;have o:=O (B f l);have d:=O l;go_wp2_with fail;apply o.mono;rintro e r ⟨g,⟨m,v,ks,rfl,z,s⟩|⟨m,rfl⟩⟩
 .have n:=d.trans (g.mono d.size);have j:r.heap[p]?=Wy (Xt #[bP] 46):=by grind[ef]
  have F:=aB j (i:=0) aJ;have E:=aF j (i:=0);obtain⟨x,c,rfl⟩:∃x c,v=Xl x (aA ks) c:=by grind[vq]
  have t:=O (du m (du z (du n (s.grow (G:=sm w.heap.size r.heap.size) (λ_ _=>rfl) λk q=>⟨em d.size q.1,q.2⟩))));go_wp2;go_end0;grind[dw]
 have t:=O (du m (d.trans (g.mono d.size)));exact⟨aJ,ng⟩
def Ot(w:aN):(Instr.makeMap 57 Wz).run Xi w=.ok (.map (Wy (H_ w))) (w.alloc (.map #[] 0)):=rfl
def XV(w:aN)(s:ByteArray)(x:Option Xe)(n c:Nat)(P:Xa->Xb->Prop)(A:lA)(S:Nat->Xa->Xa->Xa->Nat->Xb->Prop) (z:Hid (W_ Xi 14 #[.func (.func 15) #[] #[aY w.heap.size,aY (w.heap.size+1)]] (i9 (i9 w (Xt #[Xm s] 9)) (Xt #[bP] 46)) λe w'=>(e=bR (Xp #[Y 0,Y 0])/\A w')\/∃k l:Nat,k≠0/\e=bR (Xp #[Y k,Y l])/\P (Xp #[Xo Wz,Y k,Y l]) w')) (y:Hid (∀W,A W->∃t B C,I_ W (aL (w.heap.size+1) 0)=Wy (Xl t B C)/\w.heap.size+1<W.heap.size/\W_ Xi 18 #[Xl t B C,Xl x n c] W λe w'=>∃(a:Nat) (o j b:Option Xe) (m p d f g i q:Nat),e=bR (Xn #[Y a,Xl o m f,Xl j p g,Xl b d i,Y q])/\S a (Xl o m f) (Xl j p g) (Xl b d i) q w')) (D:Hid (∀(a:Nat) (o j b:Option Xe) (m p d f g i q:Nat) W,S a (Xl o m f) (Xl j p g) (Xl b d i) q W->W_ Xi 19 #[aY (W.heap.size+1),Xn #[Y a,Xl o m f,Xl j p g,Xl b d i,Y q]] (i9 (W.alloc (.map #[] 0)) (Xt #[Y a,Xl o m f,Xl j p g,Xl b d i,Y q,bP,.map (Wy W.heap.size)] 62)) λe w'=>e=fA/\P (Xp #[aY (W.heap.size+1),Y 0,Y 0]) w')):W_ Xi 7 #[Xm s,Xl x n c] w λe w'=>∃v,e=bR v/\P v w':=by
 have I:=Gc;have H:=Ot;go_in;go_wp;apply z.mono;rintro e M (⟨rfl,r⟩|⟨k,l,Q,rfl,r⟩);.have ⟨t,B,C,q1,q2,q3⟩:=y _ r;have G:=O q3;clear r q3 z y;go_wp21;apply G.mono;rintro e T ⟨a,o,j,b,m,p,d,f,g,i,q,rfl,E⟩;have u:=O (D _ _ _ _ _ _ _ _ _ _ _ _ E);clear E D G q1;go_wp21;refine sa u λN F=>?_;have J:=O F;clear F;go_wp2;go_ret3;exact⟨_,aJ,J⟩
 have L:=O r;have K:¬(k:Int)=0:=Z;clear r z y D;go_wp2;go_ret3;exact⟨_,aJ,L⟩
structure Good(ks:List aC):Prop where
 fl:aA ks<=90000
 ok:∀f∈ks,gY ks 2001 f
 lit:∀f∈ks,∀k∈f.y_,jX k
 kl:∀f∈ks,aA f.y_<=40000
 main:gD ks (dW ks [109,97,105,110])=Wy 0
 Bf:lH (dX ks 2001)
noncomputable def dV(ks:List aC)(tape:List Int):Nat->Option bW:=iB (dX ks 2001) (jW ks 2001 tape)
def Good.Cc(h:Good r)(a:List Int):Rest (aA a) (jW r 2001 a):=by refine⟨?_,by simp[jW],by simp[jW]⟩;intro f c;simp [jW]at c;subst c;refine⟨?_,s_,s_⟩;cases d:(dX r 2001)[dW r [109,97,105,110]]? with|none=>grind[xL]|some f=>exact h.Bf f (G_)
def Good.first{b:List aC}(h:Good b)(a:List Int):∃r,fE (dX b 2001) oB (jW b 2001 a)=Wy r/\r.2<=9/\dV b a 0=Wy ⟨0,r.1,cD 0 r.2⟩:=by have ⟨r,hr,_⟩:=pF (nX h.ok) (uG h.ok h.main a);exact⟨r,hr,(vS h.Bf _ _ _ (h.Cc a) hr).2,by simp[dV,iB,hr]⟩
def X6(src:bQ)(tape:List Int)(w:aN)(v:aX)(w':aN):Prop:=R_ w w'/\((dQ src=(0,0)/\∃ks fp G sb mb,eB src=.ok ks/\v=Xp #[aY sb,Y 0,Y 0]/\w.heap.size<=sb/\w.heap.size<=mb/\oC fp G w' (dX ks 2001)/\∃s,kR fp G w' sb mb (.map #[] 0) (dV ks tape) s 1/\s.m_=0/\∀b,G b->Nw w b)\/((dQ src).1≠0/\v=Xp #[Xo Wz,Y (dQ src).1,Y (dQ src).2]))
def Q8(f:ByteArray)(V:aX)(h:List Int)(w:aN)(hT:qF w)(hp:oY w)(hs:f.size<=281474976710656)(ht:LI w V h)(ac:aA h<=17592186044416) (hg:∀ks,eB f.data.toList=.ok ks->dQ f.data.toList=(0,0)->Good ks):W_ Xi 7 #[Xm f,V] w λe w'=>∃v,e=bR v/\X6 f.data.toList h w v w':=by
 obtain⟨tx,tn,tc,rfl⟩:∃x n c,V=Xl x n c:=by grind[LI]
 have ⟨i,hw2⟩:∃i,i=i9 (i9 w (Xt #[Xm f] 9)) (Xt #[bP] 46):=(by simp);have F:R_ w i:=by rw[hw2];exact((dv _ _).alloc (Z) _).alloc s_ _
 have af:i.heap.size=w.heap.size+2:=by rw[hw2];simp
 have ah:i.heap[w.heap.size]?=Wy (Xt #[Xm f] 9):=by grind[tR]
 have T:i.heap[w.heap.size+1]?=Wy (Xt #[bP] 46):=by grind[pL]
 generalize ai:dQ f.data.toList=L at*;refine(XV w f tx tn tc (λv w'=>X6 f.data.toList h w v w') (λW=>L=(0,0)/\∃lo m o s ks,eB f.data.toList=.ok ks/\R_ w W/\I_ W (aL (w.heap.size+1) 0)=Wy (Xl m o s)/\w.heap.size+1<W.heap.size/\vq (sm lo W.heap.size) W (Xl m o s) ks) (λa v1 v2 v3 q W=>L=(0,0)/\∃(ks:List aC) (D:iJ) (G:bL) (r:dC×Nat),eB f.data.toList=.ok ks/\R_ w W/\(∀b,G b->b<W.heap.size/\Nw w b)/\oC D G W (dX ks 2001)/\a=0/\q=cD 0 r.2/\pA D G W (Xn #[Y ((0:Nat):Int),v1,v2,v3,Y (cD 0 r.2)]) ⟨0,r.1,cD 0 r.2⟩/\dV ks h 0=Wy ⟨0,r.1,cD 0 r.2⟩) ?_ (λW hA=>?_) λa x1 x2 x3 n1 n2 n3 c1 X c3 q W hS=>?_);rw[<-hw2];refine(YJ 15 (Wy (aL w.heap.size 0)) (Wy (aL (w.heap.size+1) 0)) i (λW=>L=(0,0)/\∃m o s ks J,eB f.data.toList=.ok ks/\Below (i.heap.size+2) (i9 (i9 i (Xt #[Y 0] 33)) (Xt #[Y 0] 3)) J/\vq (sm (i.heap.size+2) J.heap.size) J (Xl m o s) ks/\W=c9 J (aL (w.heap.size+1) 0) (Xl m o s)) (λk l=>L=(k,l)) (s_) λW hW=>?_).mono ?_;have j:R_ i W:=by rw[hW];exact((dv _ _).alloc (Z) _).alloc s_ _
 have aa:W.heap.size=i.heap.size+2:=by rw[hW];simp
 have hK:W.heap[i.heap.size]?=Wy (Xt #[Y 0] 33):=by grind[tR]
 have hI:W.heap[i.heap.size+1]?=Wy (Xt #[Y 0] 3):=by grind[pL]
 apply (F6 f w.heap.size (w.heap.size+1) W ((hT.below F).below j) hs ((by grind[aB,ef])) lm).mono;grind[ej,ef,vq];rintro e w' (⟨H,J,⟨S,m,o,s,ks,w0,K,p,h3,Q⟩,M⟩|⟨k,l,B,H,hb,hE⟩);refine ea ⟨H,S,i.heap.size+2,m,o,s,ks,K,?_⟩;have hb0:=F.trans ((((dv i.heap.size i).alloc (Z) _).alloc s_ _).mono Z |>.trans (p.mono Z));have ae:w'.heap.size=w0.heap.size:=by rw[M,Q];simp
 have ab:=p.size;simp[World.size_alloc]at ab;have ad:∀k,k≠w.heap.size+1->k≠i.heap.size->k≠i.heap.size+1->w'.heap[k]?=w0.heap[k]?:=(by grind[ej]);have P:w'.heap[w.heap.size+1]?=Wy (Xt #[Xl m o s] 46):=by
  rw[M,ej _ _ _ _ (G_),ej _ _ _ _ (G_),Q];have:w0.heap[w.heap.size+1]?=Wy (Xt #[bP] 46):=by rw[p.block _ Z,ed _ _ _ la,ed _ _ _ Z];exact T
  rw[aP this];rfl
 grind[aB,Below.setCell,vq.grow,sm];grind[Below.trans,Below.mono,X6];have ⟨S,lo,m,o,s,ks,K,p,h3,Q,M⟩:=hA;refine⟨m,o,s,h3,Q,?_⟩;have g:=hg ks K S;have ⟨r,hr1,hr2,hr3⟩:=g.first h;refine(N4 (lo:=lo) (d:=2001) _ _ W M g.fl g.ok g.lit ((by grind[Good.kl])) g.main ?_ ac (hp.below p) g.Bf hr1 Z).mono ?_;grind[Below.cell,LI];rintro e w' ⟨v',H,hb,D,G,hG,z,C⟩;obtain⟨f',t',o',rfl,⟨x1,n1,c1,rfl⟩,⟨x2,n2,X,rfl⟩,⟨x3,n3,c3,rfl⟩⟩:=C.form;grind[Below.trans,Below.mono,Nw.of,Nw,Ae];obtain⟨S,ks,D,G,r,K,p,hG,z,rfl,rfl,C,u⟩:=hS;have ⟨t,hW'⟩:∃t,t=i9 (W.alloc (.map #[] 0)) (Xt #[Y ((0:Nat):Int),Xl x1 n1 c1,Xl x2 n2 X,Xl x3 n3 c3,Y (cD 0 r.2),bP,.map (Wy W.heap.size)] 62):=(by simp);have j:R_ W t:=by rw[hW'];exact((dv _ _).alloc (Z) _).alloc s_ _
 have aa:t.heap.size=W.heap.size+2:=by rw[hW'];simp
 have hM:t.heap[W.heap.size]?=Wy (.map #[] 0):=by grind[tR]
 have P:t.heap[W.heap.size+1]?=Wy (Xt #[Y ((0:Nat):Int),Xl x1 n1 c1,Xl x2 n2 X,Xl x3 n3 c3,Y (cD 0 r.2),bP,.map (Wy W.heap.size)] 62):=by grind[pL]
 rw[<-hW'];have y:=C.h_ (λk B=>j.block k (hG k B).1) LR;have E:kR D G t (W.heap.size+1) W.heap.size (.map #[] 0) (dV ks h) ⟨0,r.1,cD 0 r.2⟩ 0:=by refine⟨⟨_,_,_,bP,[],P,y,World.ownsRow_nil _ _ _ _,aJ,s_,λk B e=>?_,λe=>?_⟩,u,λk B=>?_,hM,Z⟩;simp[Value.ownBlock]at e;simp[Value.ownBlock]at e;grind
 apply (OH E _ ⟨0,r.1,cD 0 r.2⟩ y u (s_) Z s_).mono;rintro e w' ⟨H,N,ag⟩;have A:=z.h_ (λk B=>j.block k (hG k B).1) LR;refine⟨H,?_,ea ⟨G_,ks,D,G,W.heap.size+1,W.heap.size,K,rfl,by have:=p.size;exact Z,p.size,?_,⟨0,r.1,cD 0 r.2⟩,G_,rfl,G_⟩⟩;have hbb:=p.trans (j.mono p.size);have I:qR (W.heap.size+1) t=Wz:=by rw[qX P rfl];rfl
 exact⟨N.os.trans hbb.os,N.tape.trans hbb.tape,N.output.trans hbb.output,em hbb.size N.size,(by grind[FS.i_,ef])⟩;refine A.h_ (λk B=>?_) s_;have I:qR (W.heap.size+1) t=Wz:=by rw[qX P rfl];rfl
 grind[FS.i_]
theorem Ni:prog.globalNamed "internal/strconv.uint64pow10"=Wy 6:=k_
def oY.low(h:oY y)(b:∀k,k<11->E.heap[k]?=y.heap[k]?):oY E:=(by grind[oY.h_,Ni])
theorem pA.sv{v:aX}(h:pA B z y v D):∃s:SV,v=s.val/\s.t=D.m_/\s.q=D.stop:=by obtain⟨f,t,o,rfl,⟨l,k,e,rfl⟩,⟨j,m,g,rfl⟩,⟨c,d,i,rfl⟩⟩:=h.form;exact⟨⟨D.m_,l,j,c,k,m,d,e,g,i,D.stop⟩,aJ,aJ,aJ⟩
section
variable {fp:iJ} {F G:bL} {w w':aN} {sb mb n n':Nat} {mo:Obj} {st:Nat->Option bW} {s:bW}
def kR.same(h:kR fp F w sb mb mo st s n)(e:H_ w<=H_ w')(a:∀k,F k\/k=sb\/k=mb\/qR sb w=Wy k->w'.heap[k]?=w.heap[k]?):kR fp F w' sb mb mo st s n:=by have ⟨fv,tv,ov,ev,es,h1,h2,h3,h4,h5,h6,h7⟩:=h.i_;have hF:=λb c=>a b (ea c);have hr:=qX h1 aJ;refine⟨⟨fv,tv,ov,ev,es,G_,h2.h_ hF s_,(by grind[bE]),h4,λi d=>(h5 i d).h_ hF s_,h6,h7⟩,h.now,(by grind[kR.fix]),by grind[kR.map],h.map.2⟩
def FS.other{b:Nat}(h:FS sb w w')(g:w.heap.size<=b)(e:sb<w.heap.size){c:aN}(d:c.heap.size=w'.heap.size)(a:c.os=w'.os/\c.tape=w'.tape/\c.output=w'.output)(f:∀k,k≠b->c.heap[k]?=w'.heap[k]?):FS sb w c:=⟨a.1.trans h.os,a.2.1.trans h.tape,a.2.2.trans h.output,by rw[d];exact h.size,(by grind[FS.i_]),(by grind[FS.row,qR])⟩
end
structure td(fp:iJ)(F:bL)(w:aN)(sb mb:Nat)(mo:Obj)(ks:List aC)(tape:List Int)(s:bW)(n:Nat)(L:List Nat):Prop where
 vb:kR fp F w sb mb mo (dV ks tape) s n
 tz:oC fp F w (dX ks 2001)
 pow:oY w
 low:11<=sb/\11<=mb
 hn:s.m_/20<n
 loc:∀b∈L,11<=b/\b<w.heap.size/\¬F b/\qR sb w≠Wy b/\b≠sb/\b≠mb
section
variable {fp:iJ} {F G:bL} {w w':aN} {sb mb n n':Nat} {mo:Obj} {ks:List aC} {tape:List Int} {s:bW} {L:List Nat}
theorem td.row(h:td fp F w sb mb mo ks tape s n L){k:Nat}(a:qR sb w=Wy k):sb<k/\k<w.heap.size/\¬F k/\k≠mb:=h.vb.row k a
def td.h_(h:td fp F w sb mb mo ks tape s n L)(l:List Nat)(e:∀b∈l,b∈L)(j:w.heap.size<=w'.heap.size)(c:∀k,k<w.heap.size->k∉l->w'.heap[k]?=w.heap[k]?):td fp F w' sb mb mo ks tape s n L:=by have g:=h.vb.lt;have Dp:=c sb g λa=>(h.loc sb (e sb a)).2.2.2.2.1 aJ;have hF:=λb f=>c b (h.vb.fix b f).1 λa=>(h.loc b (e b a)).2.2.1 f;refine⟨h.vb.same j λk d=>?_,h.tz.h_ hF s_,h.pow.low λk d=>c k (by have:=h.low;exact Z) λa=>by have:=(h.loc k (e k a)).1;exact Z,h.low,h.hn,λb f=>?_⟩;rcases d with i|rfl|rfl|i;grind;exact Dp;exact c _ (aH h.vb.map.1) λa=>(h.loc _ (e _ a)).2.2.2.2.2 aJ;exact c k (h.row i).2.1 λa=>(h.loc k (e k a)).2.2.2.1 i;have ⟨a1,a2,a3,a4,a5⟩:=h.loc b f;grind[qR]
def td.alloc(h:td fp F w sb mb mo ks tape s n L)(o:Obj):td fp F (w.alloc o) sb mb mo ks tape s n (w.heap.size::L):=by have a:td fp F (w.alloc o) sb mb mo ks tape s n L:=h.h_ [] (s_) s_ ri;refine⟨a.vb,a.tz,a.pow,a.low,a.hn,λb c=>?_⟩;rcases ew.1 c with rfl|c;have g:=h.vb.lt;have f:=h.low;refine⟨Z,s_,λd=>by have:=(h.vb.fix _ d).1;exact Z,λe=>?_,Z,by have:=aH h.vb.map.1;exact Z⟩;grind[ed,td.row,qR];exact a.loc b c
def td.drop(h:td fp F w sb mb mo ks tape s n L){a:List Nat}(d:∀b∈a,b∈L):td fp F w sb mb mo ks tape s n a:=⟨h.vb,h.tz,h.pow,h.low,h.hn,λb c=>h.loc b (d b c)⟩
def td.fs(h:td fp F w sb mb mo ks tape s n L)(c:FS sb w w')(d:kR fp G w' sb mb mo (dV ks tape) s n')(f:uj F G (H_ w))(g:n<=n'):td fp G w' sb mb mo ks tape s n' L:=by have hF:=λb a=>c.i_ b (h.vb.fix b a).1 (h.vb.fix b a).2.1 λe=>(h.row e).2.2.1 a;refine⟨d,h.tz.h_ hF f.sub,h.pow.low λk i=>c.i_ k (by have:=h.low;have:=h.vb.lt;exact Z) (by have:=h.low;exact Z) λe=>by have:=(h.row e).1;have:=h.low;exact Z,h.low,eh h.hn g,λb a=>?_⟩;have ⟨a1,a2,a3,a4,a5⟩:=h.loc b a;grind[Nat.lt_of_lt_of_le,FS.size,uj.new,FS.row]
theorem td.i_(h:td fp F w sb mb mo ks tape s n L)(a:FS sb w w'){b:Nat}(c:b∈L):w'.heap[b]?=w.heap[b]?:=by have ⟨a1,a2,a3,a4,a5,a6⟩:=h.loc b c;exact a.i_ b a2 a5 a4
def td.Rc(h:td fp F w sb mb mo ks tape s n L)(d:FS sb w w')(g:uj F G (H_ w)){v:aX}{c:bW}(f:pA fp F w v c):pA fp G w' v c:=f.h_ (λb a=>d.i_ b (h.vb.fix b a).1 (h.vb.fix b a).2.1 λe=>(h.row e).2.2.1 a) g.sub
def Good.zy(b:Good ks){t:Nat}{a:bW}(h:dV ks tape t=Wy a):LJ (gD ks) a/\a.m_=t/\Rest (aA tape) a.m/\a.stop<=9:=by have ⟨h1,h2⟩:=zS (nX b.ok) (uG b.ok b.main tape) t a h;have ⟨h3,h4⟩:=OF b.Bf (b.Cc tape) t a h;grind
def td.count(a:Good ks)(h:td fp F w sb mb mo ks tape s n L):n<=26:=by have ⟨_,_,_,_,es,_,_,_,h4,h5,_⟩:=h.vb.i_;rcases jv n with b|b;exact Z;have ⟨_,σ,h6,_⟩:=h5 (n-1) Z;have ⟨h7,h8,_⟩:=a.zy h6;have:=h7.m_;exact Z
def Good.next(b:Good ks){a:bW}{t:Nat}(h:dV ks tape t=Wy a)(c:a.stop=0):∃r,fE (dX ks 2001) oB a.m=Wy r/\r.2<=9/\dV ks tape (a.m_+1)=Wy ⟨a.m_+1,r.1,cD (a.m_+1) r.2⟩:=by have ⟨h1,h2,h3,h4⟩:=b.zy h;have ⟨r,hr,_⟩:=pF (nX b.ok) (h1.ok c).1;refine⟨r,hr,(vS b.Bf _ _ _ h3 hr).2,?_⟩;unfold dV at h⊢;grind[iB]
def rI:SV:=⟨0,Wz,Wz,Wz,0,0,0,0,0,0,0⟩
def Ek(fp:iJ)(F:bL)(w:aN)(sb mb:Nat)(mo:Obj)(ks:List aC)(tape:List Int)(s:bW)(n:Nat)(L:List Nat)(σ:bW)(v':SV)(ok:Bool)(w':aN):Prop:=∃G n',n<=n'/\uj F G w.heap.size/\FS sb w w'/\td fp G w' sb mb mo ks tape s n' L/\(ok=W1->σ.stop=0/\∃σ',dV ks tape (σ.m_+1)=Wy σ'/\σ'.m_=σ.m_+1/\pA fp G w' v'.val σ'/\σ'.m_/20<n')/\(ok=WD->σ.stop≠0)
def OG(A:Good ks)(h:td fp F w sb mb mo ks tape s n L)(aa:aA tape<=17592186044416)(v:SV)(a:bW)(Q:pA fp F w v.val a)(D:dV ks tape a.m_=Wy a)(K:a.m_/20<n):W_ Xi 117 #[aY sb,v.val] w λe w'=>∃N ok,e=bR (Xp #[SV.val N,Xr ok])/\Ek fp F w sb mb mo ks tape s n L a N ok w':=by
 have ⟨m,hw2⟩:∃m,m=i9 (i9 w (bO v.cells 55)) (bO #[Y 0,bP,bP,bP,Y 0] 55):=(by simp);have i:R_ w m:=by rw[hw2];exact((dv _ _).alloc (Z) _).alloc s_ _
 have ac:m.heap.size=w.heap.size+2:=by rw[hw2];simp
 have V:m.heap[w.heap.size+1]?=Wy (bO #[Y 0,bP,bP,bP,Y 0] 55):=by grind[pL]
 have hFw:=λb o=>(h.vb.fix b o).1;have f:=h.vb.lt;have P:=aH h.vb.map.1;have ⟨ho1,ho2,ho3,ho4⟩:=A.zy D;have M:=h.count A;by_cases u:a.stop=0;have ⟨r,hr1,hr2,hr3⟩:=A.next D u;refine IZ w sb v (Ek fp F w sb mb mo ks tape s n L a) (λd ok W=>ok=W1/\R_ m W/\∃p,uj F p m.heap.size/\(∀b,p b->b<W.heap.size)/\pA fp p W d.val ⟨a.m_+1,r.1,cD (a.m_+1) r.2⟩) ?_ (λd W x=>?_) (λd W x=>?_);rw[<-hw2];refine(F9 (nX A.ok) A.Bf (Q.h_ (lm) s_) (G_) (h.tz.h_ (lm) LR) (h.pow.below i) u (ho1.ok u).1 (ho1.ok u).2 ho3.Bf ho3.out (by have:=ho3.tape;exact Z) hr1 Z Z).mono ?_;grind[pA.sv];cases x.1;have ⟨_,o,p,hx,hG,hS⟩:=x;have S:=o.size;have ⟨y,hW'⟩:∃y,y=i9 W (bO d.cells 55):=(by simp);have B:R_ W y:=by grind[eo,dv]
 have ad:y.heap.size=W.heap.size+1:=by rw[hW'];simp
 have ab:y.heap[W.heap.size]?=Wy (bO d.cells 55):=by grind[aV]
 have c:=i.trans ((o.mono i.size).trans (B.mono Z));rw[<-hW'];have hses:=h.vb.grow c hx.sub λk j=>by rcases hx.new k j with t|t;grind;grind
 apply (OH hses d.val ⟨a.m_+1,r.1,cD (a.m_+1) r.2⟩ (hS.h_ (lm) s_) hr3 (G_) Z G_).mono;rintro e w' ⟨J,E,G⟩;have hrow:=RD (c.block _ f);have T:∀k,w.heap.size<=k->k<y.heap.size->w'.heap[k]?=y.heap[k]?:=λk t z=>E.i_ k z Z λe=>by rw[hrow]at e;have:=(h.row e).2.1;exact Z
 refine⟨J,G_,lm,Z,?_⟩;have ⟨z1,z2,z3,z4⟩:=nY w' (w.heap.size+1) d;have hfw:=(FS.p_ c f).trans E;have hf3:=hfw.other (b:=w.heap.size+1) Z f z1 ⟨z2,z3,z4⟩ λk j=>gH _ _ _ k j;have X:¬p (w.heap.size+1):=(by grind[uj.new]);have C:∀k,p k\/k=sb\/k=mb\/qR sb w'=Wy k->(iC w' (w.heap.size+1) d).heap[k]?=w'.heap[k]?:=λk j=>gH _ _ _ k (by rintro rfl;rcases j with t|t|t|t;grind;exact Z;exact Z;rcases E.row _ t with z|z;rw[hrow]at z;have:=(h.row z).2.1;exact Z;exact Z);have H:=G.same Z C;have q:uj F p w.heap.size:=⟨hx.sub,λk j=>(hx.new k j).imp_right Z⟩;refine⟨p,_,?_,q,hf3,h.fs hf3 H q ?_,λ_=>⟨u,⟨a.m_+1,r.1,cD (a.m_+1) r.2⟩,hr3,aJ,?_,?_⟩,s_⟩;split<;>exact Z;split<;>exact Z;refine hS.h_ (λb l=>?_) s_;have I:=hG b l;have hbsb:=(hses.fix b l).2.1;rw[C b (ea l),E.i_ b Z hbsb λe=>(hses.row b e).2.2.1 l,B.block b I];simp only;split<;>exact Z;refine IZ w sb v (Ek fp F w sb mb mo ks tape s n L a) (λd ok W=>ok=WD/\d=rI/\R_ m W) ?_ (λd W x=>?_) (λd W x=>?_);rw[<-hw2];have ⟨fv,tv,xo,J,f1,f2,f3⟩:=Q.form;rw[J];apply (Hp m a.m_ a.stop fv tv xo u f1 f2 f3).mono;rintro e w' ⟨rfl,o⟩;exact⟨rI,WD,aJ,aJ,aJ,o⟩;obtain⟨_,rfl,o⟩:=x;refine⟨lm,?_⟩;have ⟨z1,z2,z3,z4⟩:=nY W (w.heap.size+1) rI;have c:R_ w (iC W (w.heap.size+1) rI):=by have h0:=i.trans (o.mono i.size);exact⟨z2.trans h0.os,z3.trans h0.tape,z4.trans h0.output,by rw[z1];exact h0.size,λk j=>by rw[gH _ _ _ k Z];exact h0.block k j⟩
 have g:=c.alloc c.size (bO rI.cells 55);exact⟨F,n,Z,uj.refl _ _,FS.p_ g f,h.fs (FS.p_ g f) (h.vb.grow g (s_) G_) (uj.refl _ _) (Z),s_,λ_=>u⟩;cases x.1
end
def tq.yy(w:aN)(b:Nat)(s:SV):tq [b] w (iC w b s):=by have ⟨z1,z2,z3,z4⟩:=nY w b s;exact⟨z2,z3,z4,Z,(by grind[gH])⟩
def FS.but{e:aN}(h:FS Q y E)(d:tq t E e)(j:∀b∈t,y.heap.size<=b)(f:Q<y.heap.size):FS Q y e:=by have g:=h.size;have i:e.heap[Q]?=E.heap[Q]?:=(by grind[tq.i_]);exact⟨d.os.trans h.os,d.tape.trans h.tape,d.output.trans h.output,em h.size d.size,(by grind[tq.i_,FS.i_]),(by grind[FS.row,qR])⟩
theorem pA.but{i:Obj}{g:bW}{e:List Nat}{v:aX}(p:pA B z y v g)(h:td B z y Q S i r a D T t)(k:tq e y E)(m:∀b∈e,b∈t):pA B z E v g:=p.h_ (λb f=>k.i_ b (h.vb.fix b f).1 λo=>(h.loc b (m b o)).2.2.1 f) s_
def td.but{i:Nat}{c:List Nat}(h:td B z y i Q x r a D S t)(k:tq c y E)(l:∀b∈c,b∈t):td B z E i Q x r a D S t:=h.h_ c l k.size k.i_
def kR.cells{d:iJ}{F:bL}{w:aN}{b f n:Nat}{g:Nat->Option bW}{s:bW}(h:kR d F w b f x g s n):∃a:SV,pA d F w a.val s/\I_ w (aL b 0)=Wy (Y a.t)/\I_ w (aL b 1)=Wy (Xl a.x1 a.n1 a.c1)/\I_ w (aL b 2)=Wy (Xl a.x2 a.n2 a.c2)/\I_ w (aL b 3)=Wy (Xl a.x3 a.n3 a.c3)/\I_ w (aL b 4)=Wy (Y a.q)/\∃c,w.heap[b]?=Wy (Xt c 62)/\5<=c.size:=by have ⟨fv,tv,ov,ev,es,b1,b2,_⟩:=h.i_;have ⟨s0',e0,e01,e02⟩:=b2.sv;grind[SV.val,aB]
def kR.go{s:bW}{v:SV}(h:kR B z y Q S x A s T)(r:pA B z y v.val D)(m:A D.m_=Wy D):kR B z (iC y Q v) Q S x A D T/\FS Q y (iC y Q v)/\qR Q (iC y Q v)=qR Q y:=by
 have ⟨fv,tv,ov,ev,es,h1,h2,h3,h4,h5,h6,h7⟩:=h.i_;have ⟨s',e,e1,e2⟩:=r.sv;obtain rfl:=SV.val_inj e;have ⟨z1,z2,z3,z4⟩:=nY y Q v;have d:(iC y Q v).heap[Q]?=Wy (bO #[Y v.t,P_ v.x1 v.n1 v.c1,P_ v.x2 v.n2 v.c2,P_ v.x3 v.n3 v.c3,Y v.q,ev,.map (Wy S)] 62):=by have t:=DJ (s:=v) h1;exact t
 have q:∀b,z b->(iC y Q v).heap[b]?=y.heap[b]?:=λb d=>gH _ _ _ _ (h.fix b d).2.1;have hr1:=qX h1 aJ;have hr2:=qX d aJ;have c:∀k,ev.ownBlock=Wy k->(iC y Q v).heap[k]?=y.heap[k]?:=λk p=>gH _ _ _ _ (by have:=(h.row k G_).1;exact Z);refine⟨⟨⟨_,_,_,ev,es,by rw[<-e1,<-e2];exact d,?_,bE h3 c,h4,λi u=>(h5 i u).h_ q s_,h6,h7⟩,m,λk p=>?_,by grind[gH,kR.map],h.map.2⟩,⟨z2,z3,z4,Z,(by grind[gH]),λk p=>ea ?_⟩,?_⟩;have:=r.h_ q LR;grind[SV.val];grind[kR.fix];grind;grind
def td.go{d:bW}{v:SV}(h:td B z y Q S x r a D T t)(o:pA B z y v.val d)(g:dV r a d.m_=Wy d)(m:d.m_/20<T):td B z (iC y Q v) Q S x r a d T t/\FS Q y (iC y Q v):=by have ⟨g1,g2,g3⟩:=h.vb.go o g;have ⟨z1,_⟩:=nY y Q v;have i:=h.low;refine⟨⟨g1,h.tz.h_ ((by grind[gH,kR.fix])) s_,h.pow.low (by grind[gH]),h.low,m,λb l=>?_⟩,g2⟩;have:=h.loc b l;grind
structure xj where
 fp:Nat->Xa
 sb:Nat
 mb:Nat
 mo:Obj
 ks:List aC
 tape:List Int
 s:bW
 p:bW->Bool
 bb:Nat
 fv:Xa
 w:aN
 L:List Nat
 le:Nat->Bool->Prop
def xj.bf(C:xj):Nat:=C.w.heap.size
def xj.bt(C:xj):Nat:=C.w.heap.size+1
def xj.bo(C:xj):Nat:=C.w.heap.size+1+1
def xj.all(C:xj):List Nat:=(C.w.heap.size+3+1)::(C.w.heap.size+3)::C.bo::C.bt::C.bf::C.L
noncomputable def xj.st(C:xj):Nat->Option bW:=dV C.ks C.tape
section
variable {C:xj} {L L':List Nat} {F G:bL} {n n' k:Nat} {fd:Bool} {W W':aN}
end
section
variable {fp:iJ} {F:bL} {w:aN} {sb mb n:Nat} {mo:Obj} {ks:List aC} {tape:List Int} {s:bW} {L:List Nat}
def qO(fp:iJ)(sb mb:Nat)(mo:Obj)(ks:List aC)(tape:List Int)(L:List Nat)(T:bW->Bool->Prop)(w:aN)(b:Bool)(w':aN):Prop:=∃G n' τ,td fp G w' sb mb mo ks tape τ n' L/\T τ b/\FS sb w w'
end
def I3(w:aN)(s:SV)(h:s.n1=0):W_ Xi 170 #[s.val] w λe w'=>e=bR (Xo Wz)/\R_ w w':=by have ⟨t,x1,x2,x3,n1,n2,n3,c1,c2,c3,q⟩:=s;subst h;unfold SV.val;go_in;go_wp2;go_ret;exact⟨aJ,mn⟩
def z8(w:aN)(s:SV)(h:s.n1=0):W_ Xi 114 #[s.val] w λe w'=>e=bR (bP)/\R_ w w':=by
 have a:=O λW=>I3 W s h;have f:=O λW=>AnyF.slices_SortFunc_none (P:=Xi) (ρ:=sortL_ren) {sortL with} Wz 0 (.func (.func 173) #[] #[]) W;obtain⟨t,p,n,g,o,r,i,j,l,m,q⟩:=s;subst h;unfold SV.val at a;unfold SV.val;go_in;go_wp;refine sa (a _) λc b=>?_;have d:=O b;clear b a;go_wp2;go_loopg [3,4] 1 (λk v s wr=>v=bP/\s=Xo Wz/\wr=c);case atStart=>simp
 case round=>obtain⟨rfl,rfl,rfl⟩:=hrel;go_wp;apply mJ (f _);go_wp2;go_ret;exact⟨aJ,((dv _ _).alloc (Z) _).trans (d.mono s_)⟩
def F8(w:aN)(s:SV)(h:s.n1=0):W_ Xi 113 #[s.val] w λe w'=>e=bR (bP)/\R_ w w':=by
 unfold SV.val;go_in;go_wp2;go_loopg [3,9] 1 (λk v i wr=>v=bP/\i=Y 0/\R_ w wr);case atStart=>grind[eo,dv]
 case round=>obtain⟨rfl,rfl,b⟩:=hrel;have a:=O b;go_wp2;go_ret;exact⟨aJ,a⟩
def Of(w:aN)(b:Nat)(s:SV)(P:SV->Xb->Prop)(J:b<H_ w) (x:dR w b 0 (Y s.t)) (p:dR w b 1 (P_ s.x1 s.n1 s.c1)) (G:dR w b 2 (P_ s.x2 s.n2 s.c2)) (t:dR w b 3 (P_ s.x3 s.n3 s.c3)) (K:dR w b 4 (Y s.q)) (g:Hid (W_ Xi 63 #[s.val] (eF w #[Y 0,bP,bP,bP,Y 0] 75) λe w'=>∃m:SV,e=bR m.val/\(∃c,w'.heap[H_ w]?=Wy (bO c 75)/\c.size=5)/\P m (iC w' (H_ w) m))):W_ Xi 22 #[aY b] w λe w'=>∃m:SV,e=bR m.val/\P m w':=by unfold SV.val at g;go_in;go_wp;apply g.mono;rintro e l ⟨m,rfl,⟨c,a,S⟩,n⟩;have y:=aB (i:=0) a (ff Z);have D:=aB (i:=1) a (ff Z);have r:=aB (i:=2) a (ff Z);have M:=aB (i:=3) a (ff Z);have C:=aB (i:=4) a (ff Z);have q:=aF (i:=0) a;have u:=aF (i:=1) a;have F:=aF (i:=2) a;have I:=aF (i:=3) a;have H:=aF (i:=4) a;have N:=aH a;have o:=mN (W:=l) (s:=m) a Z rfl;have j:=O o;have k:=O n;unfold iC at j k;clear o n a g x p G t K;go_wp21;have d:=j.out;have f:=k.out;clear j k y D r M C q u F I H;generalize (c9 (c9 (c9 (c9 l (aL (H_ w) 0) (Y m.t)) (aL (H_ w) 1) (P_ m.x1 m.n1 m.c1)) (aL (H_ w) 2) (P_ m.x2 m.n2 m.c2)) (aL (H_ w) 3) (P_ m.x3 m.n3 m.c3)).setCell (aL (H_ w) 4) (Y m.q)=Q at d f⊢;obtain⟨L,z,B,E,A⟩:=d;exact Wx (v:=Xn #[Y m.t,P_ m.x1 m.n1 m.c1,P_ m.x2 m.n2 m.c2,P_ m.x3 m.n3 m.c3,Y m.q]) (by simp[results,results22,go_sem,L,z,B,E,A]) rfl ⟨m,rfl,f⟩
theorem AI(s:SV)(h:R_ y E)(a:H_ y<=Q):R_ y (iC E Q s):=by have ⟨z1,z2,z3,z4⟩:=nY E Q s;exact⟨z2.trans h.os,z3.trans h.tape,z4.trans h.output,by rw[z1];exact h.size,(by grind[gH,ef])⟩
def SE(w:aN)(n:Nat)(f:Int) (m:Hid (W_ Xi 95 #[Xo (Wy (aL n 5)),Y f] (eF w #[Y 0,bP,bP,bP,Y 0] 55) λe w'=>e=bR (Xp #[Y 0,Xr WD])/\Below (H_ w+1) (eF w #[Y 0,bP,bP,bP,Y 0] 55) w')):W_ Xi 116 #[Xo (Wy (aL n 5)),Y f] w λe w'=>e=bR (Xp #[rI.val,Xr WD])/\R_ w w':=by
 go_in;go_wp;refine sa m λb j=>?_;have c:R_ w b:=((dv (H_ w) w).alloc (Z) _).trans (j.mono Z);have A:b.heap[H_ w]?=Wy (bO #[Y 0,bP,bP,bP,Y 0] 55):=(j.block _ Z).trans (aV _ _ rfl _);have a:(eF b #[Y 0,bP,bP,bP,Y 0] 55).heap[H_ w]?=Wy (bO #[Y 0,bP,bP,bP,Y 0] 55):=by grind[ed]
 have d:(eF b #[Y 0,bP,bP,bP,Y 0] 55).heap[H_ b]?=Wy (bO #[Y 0,bP,bP,bP,Y 0] 55):=aV _ _ aJ _;have D:=aB (i:=0) a aJ;have y:=aB (i:=1) a aJ;have t:=aB (i:=2) a aJ;have C:=aB (i:=3) a aJ;have u:=aB (i:=4) a aJ;have r:=aF (i:=0) a;have x:=aF (i:=1) a;have E:=aF (i:=2) a;have H:=aF (i:=3) a;have G:=aF (i:=4) a;have B:=aB (i:=0) d aJ;have z:=aB (i:=1) d aJ;have o:=aB (i:=2) d aJ;have p:=aB (i:=3) d aJ;have F:=aB (i:=4) d aJ;have K:=aH a;have q:H_ w≠H_ b:=G_;have l:=O (mN (W:=eF b #[Y 0,bP,bP,bP,Y 0] 55) (s:=rI) a s_ rfl);have k:=O (AI rI (c.alloc c.size (bO #[Y 0,bP,bP,bP,Y 0] 55)) lZ);unfold iC rI at l k;clear j c A a d m;go_wp21;have g:=l.out;have I:=k.out;clear l k D y t C u r x E H G z o p F B;refine Wx (v:=Xp #[rI.val,Xr WD]) ?_ aJ G_;generalize (c9 (c9 (c9 (c9 (eF b #[Y 0,bP,bP,bP,Y 0] 55) (aL (H_ w) 0) (Y 0)) (aL (H_ w) 1) (bP)) (aL (H_ w) 2) (bP)) (aL (H_ w) 3) (bP)).setCell (aL (H_ w) 4) (Y 0)=J at g⊢;have ⟨c0,c1,c2,c3,c4⟩:=g;simp[results,results116,go_sem,c0,c1,c2,c3,c4,SV.val,rI]
def Ra(w:aN)(g:Nat)(a:Int)(P:Bool->Xb->Prop) (m:Hid (W_ Xi 65 #[aY g,Y a] w λe w'=>∃v ok,e=bR (Xp #[SV.val v,Xr ok])/\(ok=W1->(∃c,(eF w' v.cells 55).heap[g]?=Wy (bO c 62)/\5<=c.size)/\P W1 (iC (eF w' v.cells 55) g v))/\(ok=WD->P WD (eF w' v.cells 55)))):W_ Xi 25 #[aY g,Y a] w λe w'=>∃b,e=bR (Xr b)/\P b w':=by go_in;go_wp21;apply m.mono;rintro e l ⟨v,ok,rfl,k,j⟩;clear m;have d:(eF l v.cells 55).heap[H_ l]?=Wy (bO v.cells 55):=aV _ _ aJ _;unfold SV.cells at d;unfold SV.val;cases ok with|false=>have f:=O (j aJ);unfold SV.cells at f;clear k j;go_wp2;go_ret;exact⟨_,aJ,f⟩|true=>have ⟨⟨c,hc,hsz⟩,h3⟩:=k rfl;have f:=O h3;unfold iC at f;unfold SV.cells at f hc;have y:=aB (i:=0) d aJ;have x:=aB (i:=1) d aJ;have o:=aB (i:=2) d aJ;have p:=aB (i:=3) d aJ;have C:=aB (i:=4) d aJ;have A:=aB (i:=0) hc (ff Z);have u:=aB (i:=1) hc (ff Z);have r:=aB (i:=2) hc (ff Z);have z:=aB (i:=3) hc (ff Z);have s:=aB (i:=4) hc (ff Z);have q:=aF (i:=0) hc;have t:=aF (i:=1) hc;have B:=aF (i:=2) hc;have E:=aF (i:=3) hc;have D:=aF (i:=4) hc;have n:=aH hc;clear k j h3 hc d;go_wp2;go_ret;exact⟨_,aJ,f⟩
theorem i6{l:bQ}(b:eB l=.ok r)(e:dQ l=(0,0)):Good r:=by have ⟨h1,h2⟩:=RF b e;have a:=MR b;have g:=(mX b).len;exact⟨Z,h1,a,λf d=>by have:=((mX b).mem d).y_.len;exact Z,h2,E6 a⟩
def QV:∀(d t:Nat) (z:bW),dV r a (t+1+d)=Wy z->∃x,dV r a t=Wy x/\x.stop=0|0,t,z,h=>by unfold dV at h⊢;grind[iB]|d+1,t,z,h=>by obtain⟨x,c,_⟩:=QV 0 (t+1+d) z (by exact h);exact QV d t x c
def D_{t:Nat}(h:dV r a Q=Wy D)(c:t<Q):∃x,dV r a t=Wy x/\x.stop=0:=QV (Q-t-1) t D G_
def Below.fs{c:aN}{b:Nat}(h:R_ y E)(a:FS b E c)(d:H_ y<=b)(f:∀k,qR b E=Wy k->b<k):R_ y c:=⟨a.os.trans h.os,a.tape.trans h.tape,a.output.trans h.output,em h.size a.size,λk e=>by have:=h.size;grind[FS.i_,ef]⟩
open Go.RowKit Go.Sort
theorem z7(x y a b:ByteArray)(w:aN):W_ Xi 173 #[Xn #[Q_ x,Q_ a],Xn #[Q_ y,Q_ b]] w λe w'=>e=bR (Y (Lib.compareBytes (eA x) (eA y)))/\∃q c,w'=grow (w.drewN q) c:=by go_in;go_wp;apply mJ (strings_Compare x y _);go_wp2;go_ret;refine⟨aJ,0,#[Obj.cells #[Q_ x,Q_ a] 137,Obj.cells #[Q_ y,Q_ b] 137],?_⟩;rfl
def m9:∀a:bQ,Lib.compareBytes a a=0|[]=>rfl|a::l=>by rw[Lib.compareBytes,dy (s_),dy (s_)];exact m9 l
theorem uR:∀a b:bQ,Lib.compareBytes b a=-Lib.compareBytes a b|[],[]=>rfl|[],_::_=>rfl|_::_,[]=>rfl|a::l,b::m=>by rw[Lib.compareBytes,Lib.compareBytes];by_cases d:a<b;grind;by_cases c:b<a;grind;rw[dy d,dy c,dy d,dy c];exact uR l m
theorem ZY:∀a b:bQ,Lib.compareBytes a b=0->a=b|[],[],_=>rfl|[],_::_,h=>by simp[Lib.compareBytes]at h|_::_,[],h=>by simp[Lib.compareBytes]at h|a::l,b::m,h=>by rw[Lib.compareBytes]at h;by_cases d:a<b;grind;by_cases c:b<a;grind;rw[dy d,dy c]at h;obtain rfl:a=b:=(by grind);rw[ZY l m h]
theorem CH:∀a b c:bQ,Lib.compareBytes a b<0->Lib.compareBytes b c<0->Lib.compareBytes a c<0|[],[],_,h,_=>by omega|_::_,[],_,h,_=>by simp[Lib.compareBytes]at h|_,_::_,[],_,h=>by simp[Lib.compareBytes]at h|[],_::_,_::_,_,_=>by simp[Lib.compareBytes]|a::l,b::m,c::n,h,k=>by rw[Lib.compareBytes]at h k⊢;by_cases f:a<b;grind;rw[dy f]at h;by_cases d:b<a;grind;obtain rfl:a=b:=(by grind);rw[dy d]at h;by_cases g:a<c;grind;rw[dy g]at k⊢;by_cases e:c<a;grind;rw[dy e]at k⊢;exact CH l m n h k
def Kr:SWO (λx y:bQ=>decide (Lib.compareBytes x y<0)):=by refine⟨λx=>by simp[m9],λx y z h k=>?_,λx y z h k=>?_⟩;grind[CH];grind[ZY,uR,CH]
def M8(x y:bQ)(h:decide (Lib.compareBytes x y<0)=WD)(k:decide (Lib.compareBytes y x<0)=WD):x=y:=by grind[uR,ZY]
attribute [local go_sem] Oper.semAt_some
def TM(x:Option Xe)(n c:Nat)(W:aN):W_ Xi 121 #[Xl x n c] W λe W'=>e=bR (.func (.func 176) #[] #[aY W.heap.size])/\W'=i9 W (Xt #[Xl x n c] 236):=by have b:∀(a:aX) (w:aN),(Instr.makeFunc (.func 176) #[] #[a]).run Xi w=.ok (.func (.func 176) #[] #[a]) w:=λ_ _=>aJ;go_in;go_wp2;go_ret;exact⟨aJ,aJ⟩
def Qh(a:Array Xa)(W:aN):(callFunc 176 a).run Xi W=.ok (.enter 176 a) W:=(enters_of func176 k_ rfl) a W
structure Cf(W:aN)(g i:Nat)(s:SV):Prop where
 c0:I_ W (aL g (i*5))=Wy (Y s.t)
 c1:I_ W (aL g (i*5+1))=Wy (Xl s.x1 s.n1 s.c1)
 c2:I_ W (aL g (i*5+2))=Wy (Xl s.x2 s.n2 s.c2)
 c3:I_ W (aL g (i*5+3))=Wy (Xl s.x3 s.n3 s.c3)
 c4:I_ W (aL g (i*5+4))=Wy (Y s.q)
 lt:g<W.heap.size
def X0{l n:Nat}{vs:Nat->SV}{W:aN}(J:Nat->Xb->Prop)(P:lA)(M:n<=1000000)(k:I_ W (aL Q 0)=Wy (Xl (Wy (aL S 0)) n T))(t:J n W) (D:Hid (∀i V,i<n->J (i+1) V->I_ V (aL Q 0)=Wy (Xl (Wy (aL S 0)) n T)/\Cf V S i (vs i)/\YieldAt Fence.wide 0 Xi l #[Y i,(vs i).val] V λe x=>(e=bR (Xr W1)/\J i x)\/(e=bR (Xr WD)/\P x))):W_ Xi 176 #[.func (.yield l) #[] #[],aY Q] W λe w'=>e=fA/\(J 0 w'\/P w'):=by
 have r:=O t;clear t;go_in;go_wp2;go_loopg [3] n (λgk G wr=>gk<=n/\G=Y ((gk:Int)-1)/\J gk wr);case atStart=>exact⟨fh _,ll,r⟩
 case round=>
  obtain⟨E,rfl,A⟩:=hrel;have a:=O A;clear A k r;cases gk with|zero=>go_wp2;go_end0;exact⟨aJ,ea a⟩|succ i=>
   obtain⟨w,⟨q,y,v,z,C,H⟩,L,u,f,s,p,B⟩:=D i wr Z a;have o:=O B;unfold SV.val at p;have I:(0:Int)<=(i:Int):=Z;have N:(i:Int)<(n:Int):=Z;have F:(((i+1:Nat):Int))-1=(i:Int):=Z;rw[F];clear B a;refine(wpIn_wide (n:=0)).1 ?_;gi_wp2;refine⟨aJ,o.mono ?_⟩;rintro e K (⟨rfl,d⟩|⟨rfl,c⟩)
   .have j:=O d;clear d p o w q y v z C;gi_wp2;go_roundg i;case measure=>exact Z
    case rel=>exact⟨Z,ll,j⟩
   have m:=O c;clear c p o w q y v z C;gi_wp2;exact Wx (results_none aJ _ _ _) aJ ⟨aJ,dz m⟩
def qL:aN->List Nat->aN|w,[]=>w|w,b::l=>qL (w.putObj b (.deferred Wz)) l
abbrev mark(b:Nat):Deferred:={target:=.collected b,args:=#[]}
def Marks(V:aN)(ms:List Nat):Prop:=ms.Nodup/\∀b∈ms,V.heap[b]?=Wy (.deferred (Wy []))
def BN{P:Program}{fn:Func}{tmps:Array Xa}{R:Ending->Xb->Prop}(a:fn.results=#[]):∀(bs:List Nat) (w:aN),Marks w bs->R fA (qL w bs)->LeavesInM Fence.wide 0 P fn tmps R (bs.map mark) .returning w|[],w,_,h=>⟨_,results_none a _ _ _,h⟩|b::bs,w,c,h=>by refine⟨s_,.inl ⟨_,_,rfl,run_takeDeferred (c.2 b s_),?_⟩⟩;have:=eu.1 c.1;exact BN a bs _ ⟨this.2,λx d=>by rw[World.putObj_heap_other G_];exact c.2 x (by simp[d])⟩ h
structure Ci where
 k:Nat
 e:Nat
 ms:List Nat
 g:Nat
 n:Nat
 cap:Nat
 vs:Nat->SV
 w2:aN
def NE{l bb sb mb K0:Nat}{s:SV}{ev:aX}{W:aN}(I:Nat->Nat->List Nat->Xb->Prop)(Q:Ci->Nat->Xb->Prop)(N:Ci->Nat->Nat->Xb->Prop)(E:Ci->Xb->Prop)(ak:lA) (S:W.heap[bb]?=Wy (bO #[aY sb] 32)) (hs:W.heap[sb]?=Wy (bO (JA s ev mb) 62)) (G:Hid (I K0 s.t [] (i9 (i9 W (bO #[.func (.yield l) #[] #[]] 145)) (bO s.cells 55)))) (HI:Hid (∀k e m V,I k e m V->V.heap[bb]?=Wy (bO #[aY sb] 32)/\(e=0->Marks V m/\ak (qL V m))/\(0<e->W_ Xi 120 #[aY sb,Y e] V λr M=>∃g n j vs,r=bR (P_ (Wy (aL g 0)) (n+1) j)/\n+1<=1000000/\∀x,x=Ci.mk k e m g n j vs M->∀R0,Q x (n+1) (((i9 M (bO #[P_ (Wy (aL g 0)) (n+1) j] 236)).alloc (.deferred (Wy []))).alloc (.loop R0))))) (L:Hid (∀x i V,Q x (i+1) V->x.w2.heap.size+1+1<V.heap.size/\I_ V (aL x.w2.heap.size 0)=Wy (P_ (Wy (aL x.g 0)) (x.n+1) x.cap)/\Cf V x.g i (x.vs i)/\N x i V.heap.size (i9 V (bO (x.vs i).cells 55)))) (H:Hid (∀x V r,(∀i b,N x i b V->N x i b (V.putObj (x.w2.heap.size+1+1) (.loop r)))/\(∀i,Q x i V->Q x i (V.putObj (x.w2.heap.size+1+1) (.loop r)))/\(E x V->E x (V.putObj (x.w2.heap.size+1+1) (.loop r))))) (HY:Hid (∀x i b V,N x i b V->V.heap[b]?=Wy (bO (x.vs i).cells 55)/\V.heap[W.heap.size]?=Wy (bO #[.func (.yield l) #[] #[]] 145)/\YieldAt Fence.wide 0 Xi l #[(x.vs i).val] V λe t=>(t.heap[x.w2.heap.size+1]?=V.heap[x.w2.heap.size+1]?/\t.heap[x.w2.heap.size+1+1]?=V.heap[x.w2.heap.size+1+1]?)/\((e=bR (Xr W1)/\Q x i t)\/(e=bR (Xr WD)/\E x t)))) (HD:Hid (∀x V,Q x 0 V->V.heap[x.w2.heap.size+1]?=Wy (.deferred (Wy []))->Cf V x.g 0 (x.vs 0)/\∃k',k'<x.k/\I k' (x.vs 0).t ((x.w2.heap.size+1)::x.ms) (i9 V (bO (x.vs 0).cells 55)))) (HE:Hid (∀x V,E x V->V.heap[x.w2.heap.size+1]?=Wy (.deferred (Wy []))->Marks V ((x.w2.heap.size+1)::x.ms)/\ak (qL V ((x.w2.heap.size+1)::x.ms)))):W_ Xi 119 #[.func (.yield l) #[] #[],aY bb] W λe w'=>e=fA/\ak w':=by
 have HT:=O λ(v:SV) (w:aN)=>tI v.t v.q v.x1 v.x2 v.x3 v.n1 v.n2 v.n3 v.c1 v.c2 v.c3 w;have u:=O (HT s);have ae:=O λtmps m V (B:Marks V m) h2=>(BN (P:=Xi) (fn:=f119) (tmps:=tmps) (R:=λe w'=>e=fA/\ak w') aJ m V B ⟨aJ,h2⟩);unfold SV.cells at G;unfold JA at hs;have ⟨b1,b2,b3⟩:=bk S;have ⟨k1,k2,k3⟩:=bk hs;clear S hs;refine(callsIn_wide (n:=0)).1 (callsIn_of_wp_marks func119 aJ trivial ?_ aJ);simp only[ntmps119,List.size_toArray,fg,fi,Nat.reduceAdd,Nat.reduceSub,Array.replicate_succ,Array.replicate_zero,List.push_toArray,List.append_toArray,ig,ip];refine wpIn_wide.2 ?_;go_wp2_with fail;apply (u _).mono;rintro e w1 ⟨rfl,rfl⟩;go_wp2_with fail;clear b1 b2 k1 k2 u;refine wp_loop_ghost_k (λk a V=>∃e m,I k e m V/\∃(u4 u5 u6 u7 u8 u9 u10 u11 u12 u13 u14 u15 u16 u17 u18 u19 u20 u21 u22 u23 u24 u25 u26 u27 u28:aX),a={tmps:=#[.func (.yield l) #[] #[],aY bb,aY W.heap.size,Y (e:Nat),u4,u5,u6,u7,u8,u9,u10,u11,u12,u13,u14,u15,u16,u17,u18,u19,u20,u21,u22,u23,u24,u25,u26,u27,u28],defers:=m.map mark}) K0 ⟨s.t,[],G,_,_,_,_,_,_,_,_,_,_,_,_,_,_,_,_,_,_,_,_,_,_,_,_,_,aJ⟩ ?_;rintro k a V ⟨e,m,hi,u4,u5,u6,u7,u8,u9,u10,u11,u12,u13,u14,u15,u16,u17,u18,u19,u20,u21,u22,u23,u24,u25,u26,u27,u28,rfl⟩ J K hJ hK;obtain⟨c0,h0,B⟩:=HI _ _ _ _ hi;have ⟨b1,b2,b3⟩:=bk c0;clear hi c0 b2 G;by_cases he:e=0;.subst he;have X:=O (h0 aJ);clear h0 B;go_wp2_with fail;exact ae _ _ _ X.1 X.2
 have af:=O (B Z);have aj:(0:Int)<(e:Int):=Z;clear h0 B HI;go_wp2_with fail;apply af.mono;rintro r M ⟨g,n,j,vs,rfl,g1,hA⟩;have aa:=O (TM (Wy (aL g 0)) (n+1) j M);have o:=O (hA _ aJ);clear af hA;go_wp2_with fail;apply aa.mono;rintro r w3 ⟨rfl,rfl⟩;clear aa;go_wp2_with fail;generalize A:Ci.mk k e m g n j vs M=x at o;have xk:x.k=k:=by rw[<-A]
 have xe:x.e=e:=by rw[<-A]
 have ai:x.ms=m:=by rw[<-A]
 have xg:x.g=g:=by rw[<-A]
 have xn:x.n=n:=by rw[<-A]
 have xc:x.cap=j:=by rw[<-A]
 have xw:x.w2=M:=by rw[<-A]
 clear A;subst xk xe ai xg xn xc xw;generalize ab:i9 x.w2 (bO #[P_ (Wy (aL x.g 0)) (x.n+1) x.cap] 236)=w3 at o⊢;have d:w3.heap.size=x.w2.heap.size+1:=by rw[<-ab];simp
 clear ab b1;refine wpIn_wide.1 (JF (τ:=Nat) (P:=Xi) (gf:=176) (lb:=#[aY x.w2.heap.size]) aJ Qh (λi y V=>y=#[Y (i:Nat),SV.val (x.vs i)]/\Q x (i+1) V) (λi y V=>Q x i V) (λi y a' V=>∃b,y=#[Y (i:Nat),SV.val (x.vs i)]/\a'={tmps:=#[.func (.yield l) #[] #[],aY bb,aY W.heap.size,Y (x.e:Nat),P_ (Wy (aL x.g 0)) (x.n+1) x.cap,u5,aY b,u7,u8,u9,u10,u11,Y (x.e:Nat),Xr W1,aY sb,Y (x.e:Nat),P_ (Wy (aL x.g 0)) (x.n+1) x.cap,P_ (Wy (aL x.g 0)) (x.n+1) x.cap,.func (.func 176) #[] #[aY x.w2.heap.size],Y (i:Nat),SV.val (x.vs i),u21,u22,u23,u24,u25,u26,u27,u28],defers:=[]}/\N x i b V) (λ_ c _ V=>c=.ret/\E x V) (λV=>Q x 0 V) ?hps ?hAx ?hB ?hBx ?hZ ?hassign ?hbody ?hseq ?hdone ?hstop);case hps=>rintro i y V ⟨rfl,_⟩;rfl
 case hAx=>rintro i y a' V r ⟨b,B,h2,h5⟩;rw[d];exact⟨b,B,h2,(H _ _ _).1 _ _ h5⟩
 case hB=>intro i y V r h;rw[d];exact(H _ _ _).2.1 _ h
 case hBx=>rintro _ c y V r ⟨rfl,h⟩;rw[d];exact⟨aJ,(H _ _ _).2.2 h⟩
 case hZ=>intro V r h;rw[d];exact(H _ _ _).2.1 _ h
 case hassign=>rintro i y t K' ⟨rfl,h⟩ ac;obtain⟨q1,-,-,q2⟩:=L _ _ _ h;have ad:=O (ac _ _ (ed _ _ _ rq) (ed _ _ _ rq) ⟨_,rfl,rfl,q2⟩);unfold SV.val SV.cells at ad;clear ac q2 h;unfold SV.val;gi_wp2;exact ad
 case hbody=>
  rintro i y a' t ⟨b,rfl,rfl,h⟩ z;obtain⟨y1,y2,fn,tmps,f,q,hy,hR⟩:=HY _ _ _ _ h;have HR:=O hR;unfold SV.val at hy;unfold SV.val;unfold SV.cells at y1;have ⟨d1,d2,d3⟩:=bk y1;have ⟨c1,c2,c3⟩:=bk y2;clear h hR y1 y2 L HY H HE HD o;gi_wp2;refine⟨aJ,(show RoundIn (Fence.wide.inRound (x.w2.heap.size+1+1)) 0 Xi l fn tmps f q t _ from HR).mono ?_⟩;rintro r V2 ⟨hq,C⟩;have HX:=O C;clear C HR hy d1 d2 c1 c2;rcases HX with ⟨rfl,hB⟩|⟨rfl,hB⟩;all_goals have HB:=O hB;clear hB;gi_wp2;rw[d]
  exact⟨hq,HB⟩;exact⟨hq,aJ,HB⟩
 case hseq=>intro R0 Rdy Don B h2 h3 h4 h5 hY;rw[d]at hY⊢;have D:=o R0;generalize (w3.alloc (.deferred (Wy []))).alloc (.loop R0)=V0 at D h5⊢;refine callsIn_wide.2 ((X0 (l:=x.w2.heap.size+1+1) (vs:=x.vs) (W:=V0) (λi V=>Rdy V/\Q x i V) (λV=>∃c,(c=Code.ret/\E x V)/\Don c V) g1 (L _ _ _ D).2.1 ⟨h5,D⟩ λi V hi F=>?_).mono ?_);obtain⟨q1,q2,q3,-⟩:=L _ _ _ F.2;obtain⟨fn,tmps,f,q,hy,C⟩:=hY i _ V ⟨rfl,F.2⟩ F.1;refine⟨q2,q3,fn,tmps,f,q,hy,C.mono ?_⟩;rintro r t (⟨rfl,hb,C⟩|⟨rfl,c,⟨rfl,hE⟩,p⟩);exact ea ⟨aJ,C,hb⟩;exact dz ⟨aJ,_,⟨aJ,hE⟩,p⟩;rintro r t ⟨rfl,⟨C,hd⟩|⟨c,hE,p⟩⟩;exact⟨⟨_,aJ⟩,ea ⟨hd,C⟩⟩;exact⟨⟨_,aJ⟩,dz ⟨0,_,#[],hE,p⟩⟩
 case hdone=>intro t hd p z;rw[d]at p z⊢;obtain⟨⟨e0,e1,e2,e3,e4,e5⟩,k',p2,p3⟩:=HD _ _ hd p;simp only[iu,ic]at e0 e1 e2 e3 e4;have T:=O p3;have u:=O (HT (x.vs 0));have ah:=O hJ;have ag:=O p2;unfold SV.cells at T;clear hd p p3 HD HE L HY H o HT;dsimp only[Exit.inBlock,Exit.then];go_wp2_with fail;apply (u _).mono;rintro r w4 ⟨rfl,rfl⟩;clear e0 e1 e2 e3 e4 u;go_wp2_with fail;exact Handed.intro k' ag (ah _ _ _ ⟨_,_,T,_,_,_,_,_,_,_,_,_,_,_,_,_,_,_,_,_,_,_,_,_,_,_,_,_,rfl⟩)
 case hstop=>rintro _ c y t ⟨rfl,hz⟩ p z;rw[d]at p z⊢;have X:=O (HE _ _ hz p);clear hz p HE HD L HY H o;refine wpIn_wide.2 ?_;go_wp2_with fail;exact ae _ _ _ X.1 X.2
