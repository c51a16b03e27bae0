import Derived.Test.YthnhjhlinlhflaaGreatDoorP25
set_option linter.all false
set_option maxRecDepth 100000
set_option maxHeartbeats 0
open List renaming length->aA
open Go.World renaming setCell->c9,alloc->h_,cell?->i9
open Option renaming some->Wj,none->Wk
open Bool renaming false->Wl,true->Wm
open Go renaming Calls->Wn,Value->Wo,World->Wp,Addr->Ws
open Go.Proofs.Tryz renaming prog->Ww
open Go.Value renaming slice->Wz,string->WD,agg->W1,pointer->W_,tuple->Xa,bool->Xc
open Go.Obj renaming cells->Xe
namespace Go.Proofs.YthnhjhlinlhflaaGreatDoor
open Hs _root_.Go.Proofs.Tryz Go.RowKit
variable{a:List Int}{r:List Nat}{A:List aC}{Q S T:Nat}{x:Obj}{t y:aL}{v:aU}{z:bI}{D:bL}{B:iD}
def xP(x y:Int):Int:=if x<y then -1 else if x>y then 1 else 0
def Is{x y:Int}(h:¬x=y):¬xP x y=0:=by grind[xP]
def QD(x:Int)(w:aL):Wn Ww 204 #[Y x] w λe w'=>e=bP (Xc Wl)/\w'=w:=by go_in;go_wp2;go_ret;simp
def A4(x y:Int)(w:aL):Wn Ww 156 #[Y x,Y y] w λe w'=>e=bP (Y (xP x y))/\w'=w:=by
 go_in;go_wp;apply (QD x w).mono;rintro e b ⟨rfl,rfl⟩;go_wp21;apply (QD y b).mono;rintro e f ⟨rfl,rfl⟩;by_cases d:x<y
 .have a:Hid (xP x y=-1):=by show _=_;unfold xP;exact Z
  go_wp2;go_ret;exact⟨by rw[a.out];rfl,rfl⟩
 by_cases c:y<x
 .have a:Hid (xP x y=1):=by show _=_;grind[xP]
  go_wp2;go_ret;exact⟨by rw[a.out];rfl,rfl⟩
 have a:Hid (xP x y=0):=by show _=_;grind[xP]
 go_wp2;go_ret;exact⟨by rw[a.out];rfl,rfl⟩
def QN(k f:Int)(a b c d e:aU)(w:aL)(o:∃x l c,b=P_ x l c)(p:∃x l d,c=P_ x l d)(i:∃x l c,d=P_ x l c)(m:∃n,a=Y n)(j:∃n,e=Y n):Wn Ww 155 #[W1 #[Y k,a,b,c,d,e],Y f] w λg w'=>g=bP (Y (xP k f))/\w'=dZ w #[Y k,a,b,c,d,e] 208:=by go_in;go_wp;apply pN (A4 k f _);go_wp2;go_ret;simp
structure xb where
 k:Int
 a:Int
 b:Wo
 c:Wo
 d:Wo
 e:Int
def xb.cells(x:xb):List Wo:=[Y x.k,Y x.a,x.b,x.c,x.d,Y x.e]
def mV:List xb->List Wo|[]=>[]|x::l=>x.cells++mV l
structure xb.Ok(x:xb):Prop where
 b:∃y l c,x.b=Wz y l c
 c:∃y l c,x.c=Wz y l c
 d:∃y l c,x.d=Wz y l c
def Ex(w:aL)(g:Nat)(es:List xb):Prop:=∀i (h:i<aA es),es[i].Ok/\i9 w (aJ g (i*6))=Wj (Y es[i].k)/\i9 w (aJ g (i*6+1))=Wj (Y es[i].a)/\i9 w (aJ g (i*6+2))=Wj es[i].b/\i9 w (aJ g (i*6+3))=Wj es[i].c/\i9 w (aJ g (i*6+4))=Wj es[i].d/\i9 w (aJ g (i*6+5))=Wj (Y es[i].e)
structure Found(es:List xb)(key:Int)(at_:Nat)(found:Bool):Prop where
 le:at_<=aA es
 lo:∀i (h:i<aA es),i<at_->es[i].k<key
 hi:∀i (h:i<aA es),at_<=i->key<=es[i].k
 Cv:found=Wm↔∃h:at_<aA es,es[at_].k=key
def J0(g G:Nat)(b:List xb)(c:Int)(w:aL)(hl:aA b<=100000)(I:g<H_ w)(W:Ex w g b)(T:∀i j (hi:i<aA b) (K:j<aA b),i<=j->b[i].k<=b[j].k):Wn Ww 154 #[P_ (Wj (aJ g 0)) (aA b) G,Y c,.func (.func 155) #[] #[]] w λe w'=>∃y fd,e=bP (Xa #[Y (y:Nat),Xc fd])/\cB w w'/\Found b c y fd:=by
 have H:=O W;have S:=O T;go_in;go_wp2;go_loopg [9,10,11] (aA b) (λgk X Q _ wr=>∃i j:Nat,X=Y i/\Q=Y j/\i<=j/\j<=aA b/\j-i<=gk/\cB w wr/\(∀k (h:k<aA b),k<i->b[k].k<c)/\(∀k (h:k<aA b),j<=k->c<=b[k].k));case atStart=>exact⟨0,aA b,i_,i_,Z,Z,Z,dw _ _,Z,Z⟩
 case round=>
  obtain⟨i,j,rfl,rfl,M,K,P,t,m,l⟩:=hrel;by_cases L:i<j
  .have f:=O (du m l);have V:(i+j)/2<aA b:=Z;have ⟨o0,v,D,r,s,p,z⟩:=H _ V;have a:∀o u,eJ w g o u->eJ wr g o u:=(by grind[Below.cell]);have v:=a _ _ v;have D:=a _ _ D;have r:=a _ _ r;have s:=a _ _ s;have p:=a _ _ p;have z:=a _ _ z;have hgr:=ef I t.size;have q:=O t;have A:Hid (∀k (h:k<aA b),(k<=(i+j)/2->b[k].k<=b[(i+j)/2].k)/\((i+j)/2<=k->b[(i+j)/2].k<=b[k].k)):=λk h=>⟨G_,G_⟩;have ⟨y1,l1,d1,f1⟩:=o0.b;have ⟨y2,l2,d2,f2⟩:=o0.c;have ⟨y3,l3,d3,f3⟩:=o0.d;rw[f1]at r;rw[f2]at s;rw[f3]at p;generalize b[(i+j)/2].k=mk at*;generalize b[(i+j)/2].a=C at*;generalize b[(i+j)/2].e=B at*;have F:=O (QN mk c (Y C) (P_ y1 l1 d1) (P_ y2 l2 d2) (P_ y3 l3 d3) (Y B) wr s_ s_ s_ s_ s_);go_wp;apply pN F;have d:=O (q.trans (((dw _ wr).alloc (Z) (bM #[Y mk,Y C,P_ y1 l1 d1,P_ y2 l2 d2,P_ y3 l3 d3,Y B] 208)).mono q.size));by_cases n:mk<c
   .have x:xP mk c=-1:=by unfold xP;exact Z
    rw[x];have E:=O n;go_wp2;go_roundg ((gk-1));case measure=>exact Z
    case rel=>refine⟨(i+j)/2+1,j,lj,rfl,Z,K,Z,d,λk h J=>?_,f.2⟩;exact Int.lt_of_le_of_lt ((A k h).1 Z) E
   have x:0<=xP mk c:=by unfold xP;exact Z
   have E:=O n;go_wp2;go_roundg (gk-1);case measure=>exact Z
   case rel=>refine⟨i,(i+j)/2,i_,lj,Z,Z,Z,d,f.1,λk h J=>?_⟩;have:=(A k h).2 J;exact Z
  obtain rfl:i=j:=Z;by_cases U:i<aA b
  .have f:=O (du m l);have ⟨o0,v,D,r,s,p,z⟩:=H _ U;have a:∀o u,eJ w g o u->eJ wr g o u:=(by grind[Below.cell]);have v:=a _ _ v;have D:=a _ _ D;have r:=a _ _ r;have s:=a _ _ s;have p:=a _ _ p;have z:=a _ _ z;have hgr:=ef I t.size;have q:=O t;have ⟨y1,l1,d1,f1⟩:=o0.b;have ⟨y2,l2,d2,f2⟩:=o0.c;have ⟨y3,l3,d3,f3⟩:=o0.d;rw[f1]at r;rw[f2]at s;rw[f3]at p;have ⟨mk,hmk⟩:∃mk,mk=b[i].k:=(by simp);rw[<-hmk]at v;have N:=O hmk;generalize b[i].a=C at*;generalize b[i].e=B at*;clear m l t f1 f2 f3 a hmk o0 H S;have F:=O (QN mk c (Y C) (P_ y1 l1 d1) (P_ y2 l2 d2) (P_ y3 l3 d3) (Y B) wr s_ s_ s_ s_ s_);go_wp;apply pN F;have d:=O (q.trans (((dw _ wr).alloc (Z) (bM #[Y mk,Y C,P_ y1 l1 d1,P_ y2 l2 d2,P_ y3 l3 d3,Y B] 208)).mono q.size));by_cases n:mk=c
   .have x:xP mk c=0:=by unfold xP;exact Z
    rw[x];have E:=O n;clear n x;go_wp2;go_ret2;refine⟨i,Wm,i_,d,Z,f.1,f.2,?_⟩;grind[dz]
   have x:(xP mk c==0)=Wl:=by simpa using Is n
   have E:=O n;go_wp2;go_ret2;refine⟨i,Wl,i_,d,Z,f.1,f.2,?_⟩;grind[dz]
  have f:=O (du m l);have q:=O t;go_wp2;go_ret2;refine⟨i,Wl,i_,q,Z,f.1,f.2,?_⟩;grind
def I9(a:Int)(w:aL):Wn Ww 154 #[bR,Y a,.func (.func 155) #[] #[]] w λe w'=>e=bP (Xa #[Y 0,Xc Wl])/\w'=w:=by
 go_in;go_wp2;go_loopg [9,10,11] 0 (λ_ b c _ wr=>b=Y 0/\c=Y 0/\wr=w);case atStart=>simp
 case round=>obtain⟨rfl,rfl,rfl⟩:=hrel;go_wp2;go_ret2;simp
def Vd:(prog.info? 208).map (λi=>(i.zero,i.size,i.bytes))=Wj (Wj (W1 #[Y 0,Y 0,bR,bR,bR,Y 0]),6,96):=k_
def QM(w:aL)(d:Nat)(x:Option Ws)(n c:Nat)(b:Int)(P:Int->Bool->Wp->Prop)(l:eJ w d 5 (P_ x n c)) (j:Hid (Wn Ww 154 #[P_ x n c,Y b,.func (.func 155) #[] #[]] w λe w'=>∃a f,e=bP (Xa #[Y a,Xc f])/\P a f w')):Wn Ww 94 #[W_ (Wj (aJ d 5)),Y b] w λe w'=>∃a f,e=bP (Xa #[Y a,Xc f])/\P a f w':=by go_in;go_wp;apply j.mono;rintro e k ⟨a,f,rfl,i⟩;have g:=O i;go_wp2;go_ret2;exact⟨a,f,i_,g⟩
def KR(w:aL)(v g n y b:Nat)(d a e:Int)(t r j:Option Ws)(s x k l m p:Nat)(P Q:lF)(A:b<n) (C:Hid (Wn Ww 94 #[W_ (Wj (aJ v 5)),Y d] (h_ w (bM #[Y a,P_ t s l,P_ r x m,P_ j k p,Y e] 54)) λq w'=>q=bP (Xa #[Y b,Xc Wm])/\Q w')) (B:Hid (∀W,Q W->v<W.heap.size/\i9 W (aJ v 5)=Wj (P_ (Wj (aJ g 0)) n y)/\g<W.heap.size/\(∃c,W.heap[g]?=Wj (bM c 208)/\b*6+5<c.size)/\W.heap[w.heap.size]?=Wj (bM #[Y a,P_ t s l,P_ r x m,P_ j k p,Y e] 54)/\∀W',bZ (c9 (c9 (c9 (c9 (c9 W (aJ g (b*6+1)) (Y a)) (aJ g (b*6+2)) (P_ t s l)) (aJ g (b*6+3)) (P_ r x m)) (aJ g (b*6+4)) (P_ j k p)) (aJ g (b*6+5)) (Y e)) W'->P W')):Wn Ww 56 #[W_ (Wj (aJ v 5)),Y d,W1 #[Y a,P_ t s l,P_ r x m,P_ j k p,Y e]] w λq w'=>q=eV/\P w':=by go_in;go_wp;apply C.mono;rintro q z ⟨rfl,D⟩;have ⟨q1,q2,q3,⟨c,q4,q5⟩,q6,q7⟩:=B _ D;have T:=O q7;have K:=aB q6 (i:=0) i_;have E:=aB q6 (i:=1) i_;have S:=aB q6 (i:=2) i_;have I:=aB q6 (i:=3) i_;have L:=aB q6 (i:=4) i_;have f:∀o,o<=b*6+5->∃u,i9 z (aJ g o)=Wj u:=λo M=>⟨c[o]'Z,by rw[cell_of_row z g o c _ _ q4];simp⟩;have ⟨u1,m1⟩:=f (b*6+1) Z;have ⟨u2,m2⟩:=f (b*6+2) Z;have ⟨u3,m3⟩:=f (b*6+3) Z;have ⟨u4,m4⟩:=f (b*6+4) Z;have ⟨u5,m5⟩:=f (b*6+5) Z;have J:=aE q4 (i:=b*6+1);have G:=aE q4 (i:=b*6+2);have N:=aE q4 (i:=b*6+3);have H:=aE q4 (i:=b*6+4);have F:=aE q4 (i:=b*6+5);go_wp2;go_region;all_goals go_wp2;go_end0;grind[bZ.drew]
def Q8(w:aL)(a b n:Nat)(v:aU)(r:List Wo)(f:Int)(d:w.ownsRow a 208 6 v n r)(u:w.heap[b]?=Wj (Xe #[Y f,Y 0,bR,bR,bR,Y 0] 208))(K:n<=100000)(j:a<=w.heap.size):Wn Ww 95 #[v,Y n,Wz (Wj (aJ b 0)) 1 1] w λe w'=>∃g k,e=bP (Wz (Wj (aJ g 0)) (n+1) k)/\w'.ownsRow a 208 6 (Wz (Wj (aJ g 0)) (n+1) k) (n+1) (r++[Y f,Y 0,bR,bR,bR,Y 0])/\w.grownBy w' v.ownBlock/\(v.ownBlock=Wj g\/g=w.heap.size):=by
 have ⟨i0,hi,hz0,hz1,hz2⟩:=info_parts Vd;obtain⟨x,c,rfl⟩:=gG d;have C:=O d;have E:=O (World.news_of_block u);have p:∀v∈([Y f,Y 0,bR,bR,bR,Y 0]:List Wo),v.oneCell'=Wm:=λv s=>by simp at s;rcases s with rfl|rfl|rfl|rfl<;>rfl
 have HONE:=O p;have F:(x=Wk/\n=0/\c=0)\/(∃g,x=Wj (aJ g 0)/\n<c)\/∃g,x=Wj (aJ g 0)/\c=n:=by rcases d.2 with ⟨t,G⟩|⟨g,k,A,t,G,I,J,_⟩;grind;grind
 rcases F with ⟨rfl,rfl,rfl⟩|⟨z,rfl,D⟩|⟨z,rfl,rfl⟩;all_goals go_in;go_wp2_with (at_builtin;refine wpList_append_lies _ r_ _ _ 57 r_ a 208 i0 _ 6 96 underlying57 hi hz0 hz1 hz2 rfl d_ _ _ r r_ C (aJ b 0) 1 1 [Y f,Y 0,bR,bR,bR,Y 0] r_ r_ (E) HONE d_ ky Z j w.heap.size rfl ?_);intro B o H l i m y;have q:=O (du l (du i m));go_wp2;go_ret;exact⟨B,o,i_,q.1,q.2.1,q.2.2⟩
def TB(w:aL)(f n:Nat)(x:Option Ws)(c:Nat)(j a e:Int)(y t m:Option Ws)(v z p q r s:Nat)(P Q:lF)(R:Nat->Nat->Wp->Prop)(hn:n<=100000) (E:Hid (Wn Ww 94 #[W_ (Wj (aJ f 5)),Y j] (h_ w (Xe #[Y a,Wz y v q,Wz t z r,Wz m p s,Y e] 54)) λk w'=>k=bP (Xa #[Y n,Xc Wl])/\Q w')) (F:Hid (∀W,Q W->f<W.heap.size/\i9 W (aJ f 5)=Wj (Wz x n c)/\Wn Ww 95 #[Wz x n c,Y n,Wz (Wj (aJ W.heap.size 0)) 1 1] (h_ W (Xe #[Y j,Y 0,bR,bR,bR,Y 0] 208)) λe w'=>∃g b,e=bP (Wz (Wj (aJ g 0)) (n+1) b)/\R g b w')) (D:Hid (∀g b W,R g b W->f<W.heap.size/\g≠f/\g≠w.heap.size/\f≠w.heap.size/\(∃u,i9 W (aJ f 5)=Wj u)/\W.frozen? (aJ f 5)=Wl/\g<W.heap.size/\(∃d,W.heap[g]?=Wj (Xe d 208)/\n*6+5<d.size)/\W.heap[w.heap.size]?=Wj (Xe #[Y a,Wz y v q,Wz t z r,Wz m p s,Y e] 54)/\∀W',bZ (c9 (c9 (c9 (c9 (c9 (c9 W (aJ f 5) (Wz (Wj (aJ g 0)) (n+1) b)) (aJ g (n*6+1)) (Y a)) (aJ g (n*6+2)) (Wz y v q)) (aJ g (n*6+3)) (Wz t z r)) (aJ g (n*6+4)) (Wz m p s)) (aJ g (n*6+5)) (Y e)) W'->P W')):Wn Ww 56 #[W_ (Wj (aJ f 5)),Y j,W1 #[Y a,Wz y v q,Wz t z r,Wz m p s,Y e]] w λk w'=>k=eV/\P w':=by go_in;go_wp;apply E.mono;rintro k V ⟨rfl,C⟩;have ⟨i1,i2,i3⟩:=F _ C;have A:=O i3;go_wp21;apply A.mono;rintro k B ⟨g,b,rfl,G⟩;have ⟨q1,g1,g2,g3,⟨v5,g4⟩,g5,q3,⟨d,q4,q5⟩,q6,q7⟩:=D _ _ _ G;have H:=O q7;have S:=aB q6 (i:=0) i_;have I:=aB q6 (i:=1) i_;have k2:=aB q6 (i:=2) i_;have M:=aB q6 (i:=3) i_;have T:=aB q6 (i:=4) i_;have l:∀o,o<=n*6+5->∃u,i9 B (aJ g o)=Wj u:=λo U=>⟨d[o]'Z,by rw[cell_of_row B g o d _ _ q4];simp⟩;have ⟨u1,m1⟩:=l (n*6+1) Z;have ⟨u2,m2⟩:=l (n*6+2) Z;have ⟨u3,m3⟩:=l (n*6+3) Z;have ⟨u4,m4⟩:=l (n*6+4) Z;have ⟨u5,m5⟩:=l (n*6+5) Z;have N:=aE q4 (i:=n*6+1);have K:=aE q4 (i:=n*6+2);have X:=aE q4 (i:=n*6+3);have L:=aE q4 (i:=n*6+4);have J:=aE q4 (i:=n*6+5);go_wp2;go_region;all_goals go_wp2;go_end0;exact⟨i_,H _ (bZ.drew _)⟩
def tR(a e:Int)(f j g:Option Ws)(c i k l b d:Nat)(w:aL):Wn Ww 55 #[W1 #[Y a,Wz f c l,Wz j i b,Wz g k d,Y e]] w λm w'=>m=bP (Y a)/\w'=h_ w (Xe #[Y a,Wz f c l,Wz j i b,Wz g k d,Y e] 54):=by go_in;go_wp2;go_ret;simp
def WA:Array Wo:=#[Y 0,bR,bR,bR,Y 0]
def L7(w:aL)(sb K0:Nat)(f:Int)(I:Nat->Nat->SV->Bool->Wp->Prop)(R:SV->Bool->Wp->Prop) (HL:Hid (Wn Ww 115 #[W_ (Wj (aJ sb 5)),Y f] (h_ w (Xe WA 54)) λe w'=>∃v ok,e=bP (Xa #[SV.val v,Xc ok])/\I K0 w'.heap.size v ok (h_ w' (Xe v.cells 54)))) (A:Hid (∀gk b v ok W,I gk b v ok W->W.heap[b]?=Wj (Xe v.cells 54)/\w.heap.size≠b/\W.heap[w.heap.size]?=Wj (Xe WA 54))) (H:Hid (∀gk b v W,I gk b v Wm W->(v.t:Int)<f->∃j,gk=j+1/\Wn Ww 116 #[aW sb,v.val] (h_ W (Xe v.cells 54)) λe w'=>∃D ok,e=bP (Xa #[SV.val D,Xc ok])/\(∃c,w'.heap[b]?=Wj (Xe c 54)/\c.size=5)/\I j b D ok (jH w' b D))) (G:Hid (∀gk b v W,I gk b v Wm W->f<=(v.t:Int)->R v Wm (jH (h_ W (Xe v.cells 54)) w.heap.size v))) (l:Hid (∀gk b v W,I gk b v Wl W->R v Wl (jH W w.heap.size v))):Wn Ww 64 #[aW sb,Y f] w λe w'=>∃v ok,e=bP (Xa #[SV.val v,Xc ok])/\R v ok w':=by
 unfold WA at HL A;go_in;go_wp;apply HL.mono;rintro e N ⟨v0,ad,rfl,h1⟩;have H1:=O h1;unfold SV.cells at H1;unfold SV.val;clear h1 HL;go_wp2;go_loopg [7] K0 (λgk s7 wr=>∃v ok,s7=Xc ok/\I gk N.heap.size v ok wr);case atStart=>grind[dz]
 case round=>
  obtain⟨v,ok,rfl,B⟩:=hrel;have ⟨hblk,hne,hz⟩:=A _ _ _ _ _ B;unfold SV.cells at hblk;have t:=aB (i:=0) hblk i_;have r:=aB (i:=1) hblk i_;have p:=aB (i:=2) hblk i_;have q:=aB (i:=3) hblk i_;have u:=aB (i:=4) hblk i_;have ab:=aH hblk;have lz:=aH hz;cases ok;.have z0:=aB (i:=0) hz i_;have S:=aB (i:=1) hz i_;have P:=aB (i:=2) hz i_;have z3:=aB (i:=3) hz i_;have Q:=aB (i:=4) hz i_;have E:=aE (i:=0) hz;have F:=aE (i:=1) hz;have J:=aE (i:=2) hz;have L:=aE (i:=3) hz;have K:=aE (i:=4) hz;have z:=O (pW (W:=wr) (s:=v) hz s_ rfl);have n:=O (l _ _ _ _ B);unfold jH at z n;clear B A H G l hblk hz;go_wp;have k:=z.out;have x:=n.out;clear z n z0 S P z3 Q E F J L K t r p q u;generalize (c9 (c9 (c9 (c9 wr (aJ w.heap.size 0) (Y v.t)) (aJ w.heap.size 1) (Wz v.x1 v.n1 v.c1)) (aJ w.heap.size 2) (Wz v.x2 v.n2 v.c2)) (aJ w.heap.size 3) (Wz v.x3 v.n3 v.c3)).setCell (aJ w.heap.size 4) (Y v.q)=W3 at k x⊢;have ⟨T,U,V,X,c4⟩:=k;exact bodyPost_ret (v:=Xa #[v.val,Xc Wl]) oz rfl G_
  have HT:=O (tR v.t v.q v.x1 v.x2 v.x3 v.n1 v.n2 v.n3 v.c1 v.c2 v.c3 wr);have m:=O B;clear B;go_wp;apply pN HT;clear HT;by_cases hv:(v.t:Int)<f
  .obtain⟨j,rfl,hN⟩:=H _ _ _ _ m hv;have o:=O hN;unfold SV.cells SV.val at o;clear hN;generalize y:h_ wr (Xe #[Y v.t,Wz v.x1 v.n1 v.c1,Wz v.x2 v.n2 v.c2,Wz v.x3 v.n3 v.c3,Y v.q] 54)=M at o⊢;have a:M.heap[N.heap.size]?=Wj (Xe #[Y v.t,Wz v.x1 v.n1 v.c1,Wz v.x2 v.n2 v.c2,Wz v.x3 v.n3 v.c3,Y v.q] 54):=by grind[ed]
   clear t r p q u;have t:=aB (i:=0) a i_;have r:=aB (i:=1) a i_;have p:=aB (i:=2) a i_;have q:=aB (i:=3) a i_;have u:=aB (i:=4) a i_;have C:=aH a;clear hblk a y m A H G l hz;go_wp21;apply o.mono;rintro e w6 ⟨D,ok,rfl,⟨c,g,ac⟩,h6⟩;have H6:=O h6;unfold jH at H6;clear o t r p q u h6;have t:=aB (i:=0) g (ft Z);have r:=aB (i:=1) g (ft Z);have p:=aB (i:=2) g (ft Z);have q:=aB (i:=3) g (ft Z);have u:=aB (i:=4) g (ft Z);have E:=aE (i:=0) g;have F:=aE (i:=1) g;have J:=aE (i:=2) g;have L:=aE (i:=3) g;have K:=aE (i:=4) g;have aa:=aH g;clear g;go_wp2;go_roundg j;case measure=>exact Z
   grind[dz]
  have n:=O (G _ _ _ _ m Z);have d:(h_ wr (Xe v.cells 54)).heap[w.heap.size]?=Wj (Xe #[Y 0,bR,bR,bR,Y 0] 54):=by grind[ed]
  have a:(h_ wr (Xe v.cells 54)).heap[N.heap.size]?=Wj (Xe #[Y v.t,Wz v.x1 v.n1 v.c1,Wz v.x2 v.n2 v.c2,Wz v.x3 v.n3 v.c3,Y v.q] 54):=by grind[ed]
  unfold SV.cells at n d a;generalize y:h_ wr (Xe #[Y v.t,Wz v.x1 v.n1 v.c1,Wz v.x2 v.n2 v.c2,Wz v.x3 v.n3 v.c3,Y v.q] 54)=M at n d a⊢;clear t r p q u;have t:=aB (i:=0) a i_;have r:=aB (i:=1) a i_;have p:=aB (i:=2) a i_;have q:=aB (i:=3) a i_;have u:=aB (i:=4) a i_;have C:=aH a;have ae:=aH d;have z0:=aB (i:=0) d i_;have S:=aB (i:=1) d i_;have P:=aB (i:=2) d i_;have z3:=aB (i:=3) d i_;have Q:=aB (i:=4) d i_;have E:=aE (i:=0) d;have F:=aE (i:=1) d;have J:=aE (i:=2) d;have L:=aE (i:=3) d;have K:=aE (i:=4) d;have z:=O (pW (W:=M) (s:=v) d s_ rfl);unfold jH at z n;clear A H G l m hblk hz d a y;go_wp21;have k:=z.out;have x:=n.out;clear z n z0 S P z3 Q E F J L K t r p q u;generalize (c9 (c9 (c9 (c9 M (aJ w.heap.size 0) (Y v.t)) (aJ w.heap.size 1) (Wz v.x1 v.n1 v.c1)) (aJ w.heap.size 2) (Wz v.x2 v.n2 v.c2)) (aJ w.heap.size 3) (Wz v.x3 v.n3 v.c3)).setCell (aJ w.heap.size 4) (Y v.q)=W3 at k x⊢;obtain⟨T,U,V,X,c4⟩:=k;exact bodyPost_ret (v:=Xa #[v.val,Xc Wm]) oz rfl G_
def I4(w:aL)(o:Nat)(a:Nat)(e:Int)(l j c:Option Ws)(k m d f g i:Nat)(P:lF)(v:a%20=0)(x:a<=1000000) (s:Hid (∀W',cB w W'->Wn Ww 56 #[W_ (Wj (aJ o 5)),Y a,W1 #[Y a,P_ l k f,P_ j m g,P_ c d i,Y e]] W' λb w'=>b=eV/\P w')):Wn Ww 18 #[aW o,W1 #[Y a,P_ l k f,P_ j m g,P_ c d i,Y e]] w λb w'=>b=eV/\P w':=by
 have q:(a:Int)%20=0:=Z;have r:(a:Int).tmod 20=0:=by rw[Int.tmod_eq_emod_of_nonneg Z];exact q
 go_in;go_wp;apply (tR a e l j c k m d f g i _).mono;rintro b t ⟨rfl,rfl⟩;go_wp2;go_region_law (go_simp;first|(go_at_call 55;apply (tR a e l j c k m d f g i _).mono;rintro b y ⟨rfl,rfl⟩)|(go_at_call 56;refine(s _ ((((dw _ w).alloc kB _).alloc s_ _).alloc ku _).drew).mono ?_;rintro b u ⟨rfl,n⟩;have p:=O n;clear n));all_goals go_wp2;go_end0;exact⟨i_,p⟩
def Oo(w:aL)(p:Nat)(a:Nat)(e:Int)(l j b:Option Ws)(k m c d f g:Nat)(r:a%20≠0)(s:a<=1000000):Wn Ww 18 #[aW p,W1 #[Y a,P_ l k d,P_ j m f,P_ b c g,Y e]] w λi w'=>i=eV/\cB w w':=by
 have n:¬(a:Int)%20=0:=Z;have o:¬(a:Int).tmod 20=0:=by rw[Int.tmod_eq_emod_of_nonneg Z];exact n
 go_in;go_wp;apply (tR a e l j b k m c d f g _).mono;rintro i q ⟨rfl,rfl⟩;go_wp2;go_end0;exact⟨i_,((dw _ w).alloc kB _).alloc s_ _⟩
def Rn(s:ByteArray)(w:aL)(c:s.size<=281474976710656):Wn Ww 16 #[Q_ s] w λe w'=>e=bP (Q_ s)/\cB w w':=by have d:=O (stringslite_Clone s w c);go_in;go_wp;refine rB d λf b=>?_;have a:=O b;go_wp2;go_ret;exact⟨i_,a⟩
def G9(a:ByteArray)(b p:Nat)(w:aL)(y:lI w)(C:a.size<=281474976710656)(D:i9 w (aJ b 0)=Wj (WD a))(H:w.heap[p]?=Wj (Xe #[bR] 45)):Wn Ww 14 #[aW b,aW p] w λe w'=>(dP a.data.toList=(0,0)/\e=eV/\∃f v ks,cB w f/\eA a.data.toList=.ok ks/\vo (si w.heap.size f.heap.size) f v ks/\w'=c9 f (aJ p 0) v)\/((dP a.data.toList).1≠0/\e=gE (dP a.data.toList).1 (dP a.data.toList).2/\cB w w'):=by
 have A:=O (Rn a w C);have B:Hid (∀W,cB w W->Wn Ww 15 #[WD a] W (PP a.data.toList W)):=λW u=>Iw a W (y.below u) ky;go_in;go_wp;refine rB A λf l=>?_;have o:=O (B f l);have d:=O l;go_wp2_with fail;apply o.mono;rintro e r ⟨g,⟨m,v,ks,rfl,z,s⟩|⟨m,rfl⟩⟩
 .have n:=d.trans (g.mono d.size);have j:r.heap[p]?=Wj (Xe #[bR] 45):=by grind[ej]
  have F:=aB j (i:=0) i_;have E:=aE j (i:=0);obtain⟨x,c,rfl⟩:∃x c,v=Wz x (aA ks) c:=by grind[vo]
  have t:=O (du m (du z (du n (s.grow (G:=si w.heap.size r.heap.size) (λ_ _=>rfl) λk q=>⟨em d.size q.1,q.2⟩))));go_wp2;go_end0;grind[dz]
 have t:=O (du m (d.trans (g.mono d.size)));exact⟨i_,mz⟩
def S3(w:aL):(Instr.makeMap 56 Wk).run Ww w=.ok (.map (Wj (H_ w))) (w.alloc (.map #[] 0)):=rfl
def YI(w:aL)(s:ByteArray)(x:Option Ws)(n c:Nat)(P:Wo->Wp->Prop)(A:lF)(S:Nat->Wo->Wo->Wo->Nat->Wp->Prop) (z:Hid (Wn Ww 13 #[.func (.func 14) #[] #[aW w.heap.size,aW (w.heap.size+1)]] (h_ (h_ w (Xe #[WD s] 9)) (Xe #[bR] 45)) λe w'=>(e=bP (Xa #[Y 0,Y 0])/\A w')\/∃k l:Nat,k≠0/\e=bP (Xa #[Y k,Y l])/\P (Xa #[W_ Wk,Y k,Y l]) w')) (y:Hid (∀W,A W->∃t B C,i9 W (aJ (w.heap.size+1) 0)=Wj (Wz t B C)/\w.heap.size+1<W.heap.size/\Wn Ww 17 #[Wz t B C,Wz x n c] W λe w'=>∃(a:Nat) (o j b:Option Ws) (m p d f g i q:Nat),e=bP (W1 #[Y a,Wz o m f,Wz j p g,Wz b d i,Y q])/\S a (Wz o m f) (Wz j p g) (Wz b d i) q w')) (D:Hid (∀(a:Nat) (o j b:Option Ws) (m p d f g i q:Nat) W,S a (Wz o m f) (Wz j p g) (Wz b d i) q W->Wn Ww 18 #[aW (W.heap.size+1),W1 #[Y a,Wz o m f,Wz j p g,Wz b d i,Y q]] (h_ (W.alloc (.map #[] 0)) (Xe #[Y a,Wz o m f,Wz j p g,Wz b d i,Y q,bR,.map (Wj W.heap.size)] 61)) λe w'=>e=eV/\P (Xa #[aW (W.heap.size+1),Y 0,Y 0]) w')):Wn Ww 6 #[WD s,Wz x n c] w λe w'=>∃v,e=bP v/\P v w':=by
 have I:=KI;have H:=S3;go_in;go_wp;apply z.mono;rintro e M (⟨rfl,r⟩|⟨k,l,Q,rfl,r⟩);.have ⟨t,B,C,q1,q2,q3⟩:=y _ r;have G:=O q3;clear r q3 z y;go_wp21;apply G.mono;rintro e T ⟨a,o,j,b,m,p,d,f,g,i,q,rfl,E⟩;have u:=O (D _ _ _ _ _ _ _ _ _ _ _ _ E);clear E D G q1;go_wp21;refine rB u λN F=>?_;have J:=O F;clear F;go_wp2;go_ret3;exact⟨_,i_,J⟩
 have L:=O r;have K:¬(k:Int)=0:=Z;clear r z y D;go_wp2;go_ret3;exact⟨_,i_,L⟩
def LR(s:SV)(h:cB y t)(a:H_ y<=Q):cB y (jH t Q s):=by have ⟨z1,z2,z3,z4⟩:=oH t Q s;exact⟨z2.trans h.os,z3.trans h.tape,z4.trans h.output,by rw[z1];exact h.size,(by grind[iZ,ej])⟩
def TK(l m:List xb):mV (l++m)=mV l++mV m:=by induction l with|nil=>rfl|cons x l a=>simp[mV,a]
def TJ(l:List xb):aA (mV l)=aA l*6:=by induction l with|nil=>rfl|cons x l a=>simp[mV,xb.cells];exact Z
theorem QK:∀(l:List xb) (i j:Nat) (h:i<aA l),j<6->(mV l)[i*6+j]?=(l[i].cells)[j]?|x::l,0,j,h,a=>by grind[mV,xb.cells]|x::l,i+1,j,h,a=>by have:=QK l i j G_ a;simp [mV];grind[xb.cells]
theorem QJ:∀(l:List xb) (i:Nat) (x:xb) (h:i<aA l),x.k=l[i].k->mV (l.set i x)=(((((mV l).set (i*6+1) (Y x.a)).set (i*6+2) x.b).set (i*6+3) x.c).set (i*6+4) x.d).set (i*6+5) (Y x.e)|y::l,0,x,h,a=>by simp[mV,xb.cells,a]|y::l,i+1,x,h,a=>by have b:=QJ l i x G_ G_;have e:∀j,(i+1)*6+j=i*6+j+6:=Z;simp [mV,e,xb.cells,il];rw[b]
def UM(fp:iD)(F:bI)(w:aL)(st:Nat->Option bL)(i:Nat)(x:xb):Prop:=x.k=((20*i:Nat):Int)/\∃s,st (20*i)=Wj s/\oZ fp F w (W1 #[Y x.a,x.b,x.c,x.d,Y x.e]) s
theorem UM.j_{fp:iD}{F:bI}{w w':aL}{a:Nat->Option bL}{i:Nat}{x:xb}(h:UM fp F w a i x)(c:∀b,F b->w'.heap[b]?=w.heap[b]?)(d:∀b,F b->z b):UM fp z w' a i x:=by grind[oZ.j_,UM]
theorem UM.ok{F:bI}{g:Nat->Option bL}{i:Nat}{x:xb}(h:UM B F y g i x):x.Ok:=by obtain⟨_,s,_,f⟩:=h;have ⟨fv,tv,xo,e,f1,f2,f3⟩:=f.form;simp only[Value.agg.injEq]at e;have a:=ey (λz=>z[1]?) e;have c:=ey (λz=>z[2]?) e;have b:=ey (λz=>z[3]?) e;simp at a c b;subst a c b;exact⟨f1,f2,f3⟩
structure kZ(fp:iD)(F:bI)(w:aL)(sb mb:Nat)(mo:Obj)(st:Nat->Option bL)(s:bL)(n:Nat):Prop where
 n_:∃fv tv ov ev es,w.heap[sb]?=Wj (Xe #[Y s.m_,fv,tv,ov,Y s.stop,ev,.map (Wj mb)] 61)/\oZ fp F w (W1 #[Y s.m_,fv,tv,ov,Y s.stop]) s/\
  w.ownsRow (sb+1) 208 6 ev n (mV es)/\aA es=n/\(∀i (h:i<aA es),UM fp F w st i es[i])/\(∀k,F k->ev.ownBlock≠Wj k)/\ev.ownBlock≠Wj mb
 now:st s.m_=Wj s
 fix:∀k,F k->k<w.heap.size/\k≠sb/\k≠mb
 map:w.heap[mb]?=Wj mo/\mb≠sb
def rA(sb:Nat)(w:aL):Option Nat:=match w.heap[sb]? with|some (Xe c _ _)=>(c[5]?).bind Value.ownBlock|_=>Wk
def SE{b:aL}(h:b.heap[Q]?=y.heap[Q]?):rA Q b=rA Q y:=by unfold rA;rw[h]
def rM{c:Array Wo}{T:TypeId}{z:Nat×Nat}(h:y.heap[Q]?=Wj (Xe c T z))(b:c[5]?=Wj v):rA Q y=v.ownBlock:=by grind[rA]
structure FS(sb:Nat)(w w':aL):Prop where
 os:w'.os=w.os
 tape:w'.tape=w.tape
 output:w'.output=w.output
 size:w.heap.size<=w'.heap.size
 n_:∀k,k<w.heap.size->k≠sb->rA sb w≠Wj k->w'.heap[k]?=w.heap[k]?
 row:∀k,rA sb w'=Wj k->rA sb w=Wj k\/w.heap.size<=k
def FS.refl(a:Nat)(w:aL):FS a w w:=⟨rfl,rfl,rfl,Z,s_,G_⟩
theorem FS.trans{d:Nat}{a b c:aL}(h:FS d a b)(k:FS d b c):FS d a c:=by refine⟨k.os.trans h.os,k.tape.trans h.tape,k.output.trans h.output,em h.size k.size,λi e g f=>?_,λi e=>?_⟩;grind[FS.n_,FS.row];grind[FS.row,Nat.le_trans,FS.size,rA]
def FS.q_{b:Nat}(h:cB y t)(c:b<y.heap.size):FS b y t:=⟨h.os,h.tape,h.output,h.size,lm,(by grind[ej,rA])⟩
section
variable {fp:iD} {F G:bI} {w w':aL} {sb mb n:Nat} {mo:Obj} {st:Nat->Option bL} {s:bL}
def kZ.lt(h:kZ fp F w sb mb mo st s n):sb<w.heap.size:=by grind[kZ.n_]
def kZ.row(h:kZ fp F w sb mb mo st s n):∀k,rA sb w=Wj k->sb<k/\k<w.heap.size/\¬F k/\k≠mb:=by have ⟨_,_,_,ev,_,h1,_,h3,_,_,h6,h7⟩:=h.n_;intro k a;rw[rM h1 rfl]at a;have:=h3.lt k a;grind
def kZ.grow(h:kZ fp F w sb mb mo st s n)(i:cB w w')(j:∀k,F k->G k)(d:∀k,G k->F k\/(w.heap.size<=k/\k<w'.heap.size)):kZ fp G w' sb mb mo st s n:=by have g:=h.lt;have ⟨fv,tv,ov,ev,es,h1,h2,h3,h4,h5,h6,h7⟩:=h.n_;have f:∀b,F b->w'.heap[b]?=w.heap[b]?:=(by grind[ej,kZ.fix]);refine⟨⟨fv,tv,ov,ev,es,lm,h2.j_ f j,lD h3 i,h4,(by grind[UM.j_]),λk a=>?_,h7⟩,h.now,λk a=>?_,by grind[ej,kZ.map]⟩;rcases d k a with c|c;grind;intro e;have:=(h3.lt k e).2;exact Z;rcases d k a with c|c;grind[kZ.fix];have:=aH h.map.1;exact Z
theorem l8{es:List xb}{a g d:Nat}(h:w.ownsRow a 208 6 (P_ (Wj (aJ g 0)) (aA es) d) (aA es) (mV es))(b:∀i (h:i<aA es),es[i].Ok):Ex w g es:=λi e=>by
 have c:∀j u,j<6->(es[i].cells)[j]?=Wj u->eJ w g (i*6+j) u:=λj u f k=>by have:=h.cells (g:=g) i_ (i*6+j) u (by grind[QK]);grind[UH]
 exact⟨b i e,c 0 _ Z rfl,c 1 _ Z rfl,c 2 _ Z rfl,c 3 _ Z rfl,c 4 _ Z rfl,c 5 _ Z rfl⟩
theorem Z4{j:List xb}{f g k i:Nat}{W:aL}{a e:Int}{b c d:aU}(h:w.ownsRow f 208 6 (P_ (Wj (aJ g 0)) (aA j) k) (aA j) (mV j))(x:i<aA j) (p:W.heap=(c9 (c9 (c9 (c9 (c9 w (aJ g (i*6+1)) (Y a)) (aJ g (i*6+2)) b) (aJ g (i*6+3)) c) (aJ g (i*6+4)) d) (aJ g (i*6+5)) (Y e)).heap):W.ownsRow f 208 6 (P_ (Wj (aJ g 0)) (aA j) k) (aA j) (mV (j.set i ⟨j[i].k,a,b,c,d,e⟩)):=by rcases h.2 with ⟨l,_⟩|⟨v,m,r,l,s,n,o,q,t,u⟩;cases l;cases l;refine⟨by simp[TJ],dv ⟨g,k,_,rfl,s,by rw[p];exact aN (aN (aN (aN (aN n)))),o,q,G_,?_⟩⟩;grind[QJ,List.take_set]
end
structure Eg(n:Nat)(key:Int)(at_:Nat)(fd:Bool):Prop where
 le:at_<=n
 lo:∀i,i<at_->((20*i:Nat):Int)<key
 hi:∀i,i<n->at_<=i->key<=((20*i:Nat):Int)
 Cv:fd=Wm↔at_<n/\((20*at_:Nat):Int)=key
section
variable {fp:iD} {F G:bI} {w w':aL} {sb mb n:Nat} {mo:Obj} {st:Nat->Option bL} {s:bL}
def DY(h:kZ fp F w sb mb mo st s n)(b:Int)(y:n<=1000):Wn Ww 94 #[W_ (Wj (aJ sb 5)),Y b] w λe w'=>∃(c:Nat) (o:Bool),e=bP (Xa #[Y c,Xc o])/\cB w w'/\Eg n b c o:=by have ⟨fv,tv,ov,ev,es,h1,h2,h3,h4,h5,h6,h7⟩:=h.n_;have hk:=λi j=>(h5 i j).1;have p:=aB (i:=5) h1 i_;subst h4;rcases h3.2 with ⟨l,t⟩|⟨g,d,r,l,t,u,v,x⟩;subst l;refine(QM w sb Wk 0 0 b (λa f w'=>a=0/\f=Wl/\w'=w) p ((I9 b w).mono ?_)).mono ?_;simp;rintro e w' ⟨a,f,rfl,rfl,rfl,rfl⟩;exact⟨0,Wl,i_,dw _ _,Z,Z,Z,G_⟩;subst l;refine(QM w sb (Wj (aJ g 0)) (aA es) d b (λa f w'=>∃c:Nat,a=c/\cB w w'/\Found es b c f) p ((J0 g d es b w Z (G_) ((by grind[l8,UM.ok])) (G_)).mono ?_)).mono ?_;grind;rintro e w' ⟨_,f,rfl,a,rfl,q,k⟩;refine⟨a,f,i_,q,k.le,λi j=>?_,λi j m=>?_,?_⟩;have:=k.lo i (by have:=k.le;exact Z) j;grind;have:=k.hi i j m;grind;grind[Found.Cv]
def QF(W:aL)(g a b c d e:Nat)(u v x y z:aU)(k:Nat)(f:k≠g):(c9 (c9 (c9 (c9 (c9 W (aJ g a) u) (aJ g b) v) (aJ g c) x) (aJ g d) y) (aJ g e) z).heap[k]?=W.heap[k]?:=by grind[eh]
def Z0(W:aL)(p q r t o:Ws)(u v x y z:aU):(((((W.setCell p u).setCell q v).setCell r x).setCell t y).setCell o z).os=W.os/\(((((W.setCell p u).setCell q v).setCell r x).setCell t y).setCell o z).tape=W.tape/\(((((W.setCell p u).setCell q v).setCell r x).setCell t y).setCell o z).output=W.output/\(((((W.setCell p u).setCell q v).setCell r x).setCell t y).setCell o z).heap.size=W.heap.size:=by grind[World.setCell]
def Tu(h:kZ fp F w sb mb mo st s n)(v:aU)(b:bL)(Q:oZ fp F w v b)(hs:st b.m_=Wj b)(hm:b.m_%20=0)(N:b.m_/20<n)(hn:n<=1000)(ht:b.m_<=1000000):Wn Ww 56 #[W_ (Wj (aJ sb 5)),Y b.m_,v] w λe w'=>e=eV/\FS sb w w'/\kZ fp F w' sb mb mo st s n:=by
 obtain⟨f',t',o',rfl,⟨E,C,x,rfl⟩,⟨B,G,y,rfl⟩,⟨p,q,A,rfl⟩⟩:=Q.form;have ⟨fv,tv,ov,ev,es,h1,h2,h3,h4,h5,h6,h7⟩:=h.n_;subst h4;have J:=h3;rcases h3.2 with ⟨M,r2⟩|⟨g,u,z,M,r2,T,r4,r5,r6,r7⟩;exact Z;subst M;have ⟨l,hw1⟩:∃l,l=h_ w (bM #[Y b.m_,P_ E C x,P_ B G y,P_ p q A,Y b.stop] 54):=(by simp);have D:cB w l:=by grind[eo,dw]
 have U:l.heap[w.heap.size]?=Wj (bM #[Y b.m_,P_ E C x,P_ B G y,P_ p q A,Y b.stop] 54):=by grind[aS]
 have aa:l.heap.size=w.heap.size+1:=by rw[hw1];simp
 refine(KR w sb g (aA es) u (b.m_/20) b.m_ b.m_ b.stop E B p C G q x y A (λw'=>FS sb w w'/\kZ fp F w' sb mb mo st s (aA es)) (λW=>cB l W) N ?_ λW V=>?_);show Wn _ _ _ _ _;rw[<-hw1];apply (DY (h.grow D (s_) λ_ h=>ea h) b.m_ hn).mono;rintro e w' ⟨a,fd,rfl,hb,P⟩;have e1:a=b.m_/20:=by
  refine Nat.le_antisymm ?_ ?_;cases a with|zero=>exact Z|succ a=>have:=P.lo a Z;exact Z
  rcases gu a (b.m_/20)with h8|h8;have:=P.hi a Z (Z);exact Z;exact Z
 grind[Eg.Cv];have c:=D.trans (V.mono Z);have o:=h.lt;have I:=h.grow c (s_) (λ_ h=>ea h);have ab:=aH T;have ae:W.heap[g]?=Wj (bM z 208):=by grind[ej]
 have ac:b.m_/20*6+5<z.size:=Z;refine⟨I.lt,(by grind[aB,ej]),G_,G_,lm,λL j=>?_⟩;have r:g≠sb:=Z;have m:∀k,k≠g->L.heap[k]?=W.heap[k]?:=λk m=>by rw[j.heap];exact QF W g _ _ _ _ _ _ _ _ _ _ k m
 have S:rA sb W=Wj g:=rM (by rw[c.block _ o];exact h1) i_;have ad:∀k,F k->k≠g:=λk m e=>h6 k m rp;have H:FS sb W L:=by obtain⟨a1,a2,X,a4⟩:=Z0 W (aJ g (b.m_/20*6+1)) (aJ g (b.m_/20*6+2)) (aJ g (b.m_/20*6+3)) (aJ g (b.m_/20*6+4)) (aJ g (b.m_/20*6+5)) (Y b.m_) (P_ E C x) (P_ B G y) (P_ p q A) (Y b.stop);refine⟨j.os.trans a1,j.tape.trans a2,j.output.trans X,by rw[j.heap,a4];exact Z,G_,λk f=>ea ?_⟩;rw[<-SE (m sb λe=>r e.symm)];exact f
 refine⟨(FS.q_ c o).trans H,⟨fv,tv,ov,P_ (Wj (aJ g 0)) (aA es) u,es.set (b.m_/20) ⟨es[b.m_/20].k,b.m_,P_ E C x,P_ B G y,P_ p q A,b.stop⟩,?_,?_,?_,s_,λi hi=>?_,h6,h7⟩,h.now,λk f=>?_,?_⟩;grind[ej];exact h2.j_ ((by grind[ej,kZ.fix])) s_;exact Z4 (lD J c) N j.heap;have t:i<aA es:=G_;have d:∀k,F k->L.heap[k]?=w.heap[k]?:=(by grind[ej,kZ.fix]);by_cases K:i=b.m_/20;subst K;rw[List.getElem_set_self];refine⟨(h5 _ t).1,b,?_,Q.j_ d s_⟩;grind;rw[List.getElem_set_ne (Z)];exact(h5 i t).j_ d s_;have:=h.fix k f;exact⟨by rw[j.heap];simpa using ef this.1 c.size,this.2⟩;refine⟨?_,h.map.2⟩;rw[m mb λe=>h7 rp,c.block _ (aH h.map.1)];exact h.map.1
end
section
variable {fp:iD} {F G:bI} {w w':aL} {sb mb n:Nat} {mo:Obj} {st:Nat->Option bL} {s:bL}
def Ri{k:List xb}{f g j i m:Nat}{W:aL}{k0 a e:Int}{b c d:aU}(l:aA k=m)(h:w.ownsRow f 208 6 (Wz (Wj (aJ g 0)) m j) m (mV k))(p:i<aA k)(n:k[i].k=k0) (o:W.heap=(c9 (c9 (c9 (c9 (c9 w (aJ g (i*6+1)) (Y a)) (aJ g (i*6+2)) b) (aJ g (i*6+3)) c) (aJ g (i*6+4)) d) (aJ g (i*6+5)) (Y e)).heap):W.ownsRow f 208 6 (Wz (Wj (aJ g 0)) m j) m (mV (k.set i ⟨k0,a,b,c,d,e⟩)):=by grind[Z4]
def Kd(h:kZ fp F w sb mb mo st s n)(v:aU)(f:bL)(hv:oZ fp F w v f)(hs:st f.m_=Wj f)(hm:f.m_%20=0)(hq:f.m_/20=n)(hn:n<=1000):Wn Ww 56 #[W_ (Wj (aJ sb 5)),Y f.m_,v] w λe w'=>e=eV/\FS sb w w'/\kZ fp F w' sb mb mo st s (n+1):=by
 obtain⟨f',t',o',rfl,⟨I,D,B,rfl⟩,⟨A,E,y,rfl⟩,⟨G,H,C,rfl⟩⟩:=hv.form;have ⟨fv,tv,ov,ev,es,h1,h2,h3,h4,h5,h6,h7⟩:=h.n_;have ac:=h.lt;have Q:=h3;obtain⟨x,c,rfl⟩:=gG h3;have ⟨o,hw1⟩:∃o,o=h_ w (bM #[Y f.m_,P_ I D B,P_ A E y,P_ G H C,Y f.stop] 54):=(by simp);have U:cB w o:=by grind[eo,dw]
 have al:o.heap[w.heap.size]?=Wj (bM #[Y f.m_,P_ I D B,P_ A E y,P_ G H C,Y f.stop] 54):=by grind[aS]
 have ar:o.heap.size=w.heap.size+1:=by rw[hw1];simp
 have ao:∀k,(Value.slice x n c).ownBlock=Wj k->sb<k/\k<w.heap.size:=λk l=>by have:=Q.lt k l;exact Z
 refine(TB w sb n x c f.m_ f.m_ f.stop I A G D E H B y C (λw'=>FS sb w w'/\kZ fp F w' sb mb mo st s (n+1)) (λW=>cB o W) (λg j W=>(∀k,k<o.heap.size->Wj k≠(Value.slice x n c).ownBlock->W.heap[k]?=o.heap[k]?)/\W.os=w.os/\W.tape=w.tape/\W.output=w.output/\o.heap.size<=W.heap.size/\((Value.slice x n c).ownBlock=Wj g\/o.heap.size<=g)/\W.ownsRow (sb+1) 208 6 (P_ (Wj (aJ g 0)) (n+1) j) (n+1) (mV es++[Y f.m_,Y 0,bR,bR,bR,Y 0])) Z ?_ (λW hW=>?_) λg j W hW=>?_);rw[<-hw1];apply (DY (h.grow U (s_) λ_ h=>ea h) f.m_ hn).mono;rintro e w' ⟨a,fd,rfl,hb,hf⟩;have e1:a=n:=by apply Nat.le_antisymm hf.le;rcases gu a n with P|P;have:=hf.hi a P (Z);exact Z;exact Z
 have e2:fd=Wl:=by cases fd with|false=>rfl|true=>have:=(hf.Cv.1 i_).1;exact Z
 grind;have hbw:=U.trans (hW.mono Z);have af:=lD Q hbw;refine⟨ef ac hbw.size,(by grind[aB,ej]),?_⟩;refine(Q8 _ (sb+1) W.heap.size n (P_ x n c) (mV es) f.m_ (af.alloc _) (aS _ _ i_ _) Z (by have:=hbw.size;simp;exact Z)).mono ?_;rintro e w' ⟨g,j,rfl,q1,X,V⟩;have au:=hW.size;have ai:=X.size;simp[World.size_alloc]at ai;refine⟨g,j,i_,λk l J=>?_,?_,?_,?_,Z,?_,q1⟩;grind[World.grownBy.block,ed,ej];exact X.os.trans hbw.os;exact X.tape.trans hbw.tape;exact X.output.trans hbw.output;rcases V with V|V;grind;exact dv (by rw[V];simp;exact Z);have ⟨b1,b2,b3,b4,b5,b6,b7⟩:=hW;have ah:=b7;have q:g≠sb:=G_;have aa:g≠w.heap.size:=by grind
 rcases b7.2 with ⟨r1,_⟩|⟨g',aj,ab,r1,r2,r3,r4,r5,r6,r7⟩;cases r1;cases r1;have m:W.heap[sb]?=Wj (bM #[Y s.m_,fv,tv,ov,Y s.stop,P_ x n c,.map (Wj mb)] 61):=by grind[ej]
 have aq:n*6+5<ab.size:=Z;refine⟨Z,q,aa,Z,⟨_,aB m rfl⟩,aE m,G_,G_,G_,λT u=>?_⟩;generalize M:c9 W (aJ sb 5) (P_ (Wj (aJ g 0)) (n+1) j)=p at u;have ae:∀k,k≠sb->p.heap[k]?=W.heap[k]?:=(by grind[eh]);have ak:p.heap[sb]?=Wj (bM #[Y s.m_,fv,tv,ov,Y s.stop,P_ (Wj (aJ g 0)) (n+1) j,.map (Wj mb)] 61):=by rw[<-M];exact aN m
 have L:p.os=W.os/\p.tape=W.tape/\p.output=W.output/\p.heap.size=W.heap.size:=by rw[<-M];exact⟨i_,i_,i_,s_⟩
 have ap:∀k,k≠g->T.heap[k]?=p.heap[k]?:=λk l=>by rw[u.heap];exact QF p g _ _ _ _ _ _ _ _ _ _ k l
 have ⟨a1,a2,a3,a4⟩:=Z0 p (aJ g (n*6+1)) (aJ g (n*6+2)) (aJ g (n*6+3)) (aJ g (n*6+4)) (aJ g (n*6+5)) (Y f.m_) (P_ I D B) (P_ A E y) (P_ G H C) (Y f.stop);have an:T.heap.size=W.heap.size:=by rw[u.heap,a4,L.2.2.2]
 have K:∀k,k<w.heap.size->k≠sb->Wj k≠(Value.slice x n c).ownBlock->T.heap[k]?=w.heap[k]?:=(by grind[ej]);have hFk:=λk l=>K k (h.fix k l).1 (h.fix k l).2.1 λe=>h6 k l e.symm;have av:=aH h.map.1;have hrow0:=rM h1 i_;have r:T.heap[sb]?=Wj (bM #[Y s.m_,fv,tv,ov,Y s.stop,P_ (Wj (aJ g 0)) (n+1) j,.map (Wj mb)] 61):=G_;have ⟨z,hz⟩:∃z:xb,z=⟨f.m_,0,bR,bR,bR,0⟩:=(by simp);have t:p.ownsRow (sb+1) 208 6 (P_ (Wj (aJ g 0)) (n+1) j) (n+1) (mV (es++[z])):=by rw[TK,hz];exact aX ah λk e=>ae k (by cases e;exact q)
 have N:aA (es++[z])=n+1:=by simp[h4]
 have ad:(es++[z])[n]'Z=z:=by rw[List.getElem_append_right Z];simp
 have S:=Ri (W:=T) (i:=n) (k0:=f.m_) (a:=f.m_) (b:=P_ I D B) (c:=P_ A E y) (d:=P_ G H C) (e:=f.stop) N t (by rw[N];exact Z) (by rw[ad,hz]) u.heap;refine⟨⟨u.os.trans (G_),u.tape.trans (G_),u.output.trans (G_),Z,λk l J hr=>K k l J λe=>hr (by rw[hrow0];exact e.symm),λk l=>?_⟩,⟨fv,tv,ov,P_ (Wj (aJ g 0)) (n+1) j,(es++[z]).set n ⟨f.m_,f.m_,P_ I D B,P_ A E y,P_ G H C,f.stop⟩,r,h2.j_ hFk s_,?_,by simp[h4],λi hi=>?_,λk l e=>?_,λe=>?_⟩,h.now,λk l=>?_,?_⟩;rw[rM r rfl]at l;cases l;rcases b6 with P|P;exact ea (by rw[hrow0];exact P);grind;exact S;have am:i<n+1:=G_;by_cases ag:i=n;subst ag;rw[List.getElem_set_self];refine⟨G_,f,?_,hv.j_ hFk s_⟩;rw[show 20*i=f.m_ by exact Z];exact hs;rw[List.getElem_set_ne (Z),List.getElem_append_left Z];exact(h5 i Z).j_ hFk s_;grind[Value.ownBlock];grind[Value.ownBlock];have:=h.fix k l;exact Z;grind[kZ.map]
def PF(h:kZ fp F w sb mb mo st s n)(v:aU)(a:bL)(z:oZ fp F w v a)(u:st a.m_=Wj a)(D:a.m_%20=0->a.m_/20<=n)(y:n<=1000)(i:a.m_<=1000000):Wn Ww 18 #[aW sb,v] w λe w'=>e=eV/\FS sb w w'/\kZ fp F w' sb mb mo st s (if a.m_%20=0/\a.m_/20=n then n+1 else n):=by obtain⟨H,G,I,rfl,⟨B,A,q,rfl⟩,⟨x,C,r,rfl⟩,⟨o,p,t,rfl⟩⟩:=z.form;by_cases b:a.m_%20=0;refine I4 w sb a.m_ a.stop B x o A C p q r t _ b i λW g=>?_;have d:=h.grow g (s_) (λ_ h=>ea h);have c:=z.j_ (λk E=>g.block k (h.fix k E).1) zW;rcases Nat.eq_or_lt_of_le (D b)with e|e;rw[ec ⟨b,e⟩];apply (Kd d _ a c u b e y).mono;rintro e w' ⟨f,j,l⟩;exact⟨f,(FS.q_ g h.lt).trans j,l⟩;rw[dy Z];apply (Tu d _ a c u b e y i).mono;rintro e w' ⟨f,j,l⟩;exact⟨f,(FS.q_ g h.lt).trans j,l⟩;rw[dy (Z)];apply (Oo w sb a.m_ a.stop B x o A C p q r t b i).mono;rintro e w' ⟨f,m⟩;exact⟨f,FS.q_ m h.lt,h.grow m (s_) (G_)⟩
end
theorem zR:∀(l:List aD) (a v:aD),(cI l a v).2<=9|[],_,_=>by simp[cI]|i::l,a,v=>by unfold cI;have:=zR l (a.l.getD i.n.toNat aY) v;grind
theorem Ou(c:bS)(a b:aD):(dH c a b).2<=9:=by
 unfold dH jJ iK;repeat' split
 all_goals first|(simp;done)|(grind)
def TI(i:aM)(f:aG):(aO i f).2<=9:=by
 cases i<;>simp [aO];case assign k n=>grind[zR,jQ,jO]
 case unary op=>grind[dF]
 case binary op=>grind[Ou]
 case index=>grind[bY]
 case list n=>grind[jO]
 case length=>grind[dO]
 all_goals(repeat' split)<;>simp
def Ha(b:List eI)(i:aM)(a:List aG)(f:aG)(t:List Int)(o:cU):(cD b i a f t o).2<=9:=by
 cases i<;>simp only[cD]<;>first|exact TI _ _|skip
 case read=>grind
 case call=>grind
 case tj=>simp
 grind
structure Rest(n:Nat)(m:cY):Prop where
 zh:iR m
 out:aA m.out<=50
 tape:aA m.tape<=n
theorem wD{a:List eI}(e:lN a):∀(k:Nat) (m:cY) (r:cY×Nat),Rest Q m->fB a k m=Wj r->Rest Q r.1/\r.2<=9
 |0,_,_,_,h=>by cases h|k+1,m,r,c,h=>by
  rw[fB]at h;cases j:m.f_.getLast? with|none=>grind|some f=>
   rw[j]at h;simp only at h;cases d:f.su with|none=>grind|some p=>
    obtain⟨i,g⟩:=p;rw[d]at h;simp only at h;have l:m.f_=m.f_.dropLast++[f]:=by grind[List.getLast?_eq_some_iff]
    have b:iR ⟨m.f_.dropLast++[f],m.tape,m.out⟩:=by have:=c.zh;grind[iR]
    have o:Rest Q (cD a i m.f_.dropLast g m.tape m.out).1:=⟨LD e b d,m8 c.out,em ZS c.tape⟩;have q:=Ha a i m.f_.dropLast g m.tape m.out;split at h;grind;split at h;grind;exact wD e k _ _ o h
def PD{a:List eI}(e:lN a){b:cY}(g:Rest Q b):∀(t:Nat) (s:bL),iC a b t=Wj s->Rest Q s.m/\s.stop<=9
 |0,s,h=>by
  rw[iC]at h;cases c:fB a oL b with
  |none=>grind|some r=>grind[wD,cC]
 |t+1,s,h=>by
  rw[iC]at h;cases f:iC a b t with|none=>grind|some d=>
   rw[f]at h;simp only at h;split at h;cases c:fB a oL d.m with|none=>grind|some r=>obtain⟨j,i⟩:=wD e _ _ _ (PD e g t d f).1 c;grind[cC]
   cases h
structure Good(ks:List aC):Prop where
 fl:aA ks<=90000
 ok:∀f∈ks,gY ks 2001 f
 lit:∀f∈ks,∀k∈f.y_,kD k
 kl:∀f∈ks,aA f.y_<=40000
 main:gC ks (dU ks [109,97,105,110])=Wj 0
 zh:lN (dW ks 2001)
noncomputable def eE(ks:List aC)(tape:List Int):Nat->Option bL:=iC (dW ks 2001) (kG ks 2001 tape)
def Good.BT(h:Good A)(a:List Int):Rest (aA a) (kG A 2001 a):=by refine⟨?_,by simp[kG],by simp[kG]⟩;intro f c;simp [kG]at c;subst c;refine⟨?_,s_,s_⟩;cases d:(dW A 2001)[dU A [109,97,105,110]]? with|none=>grind[xX]|some f=>exact h.zh f (G_)
def Good.first(h:Good A)(a:List Int):∃r,fB (dW A 2001) oL (kG A 2001 a)=Wj r/\r.2<=9/\eE A a 0=Wj ⟨0,r.1,cC 0 r.2⟩:=by have ⟨r,hr,_⟩:=pQ (oG h.ok) (uS h.ok h.main a);exact⟨r,hr,(wD h.zh _ _ _ (h.BT a) hr).2,by simp[eE,iC,hr]⟩
def Y3(src:bS)(tape:List Int)(w:aL)(v:aU)(w':aL):Prop:=cB w w'/\((dP src=(0,0)/\∃ks fp G sb mb,eA src=.ok ks/\v=Xa #[aW sb,Y 0,Y 0]/\w.heap.size<=sb/\w.heap.size<=mb/\oN fp G w' (dW ks 2001)/\∃s,kZ fp G w' sb mb (.map #[] 0) (eE ks tape) s 1/\s.m_=0/\∀b,G b->Nw w b)\/((dP src).1≠0/\v=Xa #[W_ Wk,Y (dP src).1,Y (dP src).2]))
def R7(f:ByteArray)(U:aU)(h:List Int)(w:aL)(hT:lI w)(hp:oY w)(hs:f.size<=281474976710656)(ht:LZ w U h)(ac:aA h<=17592186044416) (hg:∀ks,eA f.data.toList=.ok ks->dP f.data.toList=(0,0)->Good ks):Wn Ww 6 #[WD f,U] w λe w'=>∃v,e=bP v/\Y3 f.data.toList h w v w':=by
 obtain⟨tx,tn,tc,rfl⟩:∃x n c,U=Wz x n c:=by grind[LZ]
 have ⟨i,hw2⟩:∃i,i=h_ (h_ w (Xe #[WD f] 9)) (Xe #[bR] 45):=(by simp);have F:cB w i:=by rw[hw2];exact((dw _ _).alloc (Z) _).alloc s_ _
 have af:i.heap.size=w.heap.size+2:=by rw[hw2];simp
 have ah:i.heap[w.heap.size]?=Wj (Xe #[WD f] 9):=by grind[oP]
 have T:i.heap[w.heap.size+1]?=Wj (Xe #[bR] 45):=by grind[lS]
 generalize ai:dP f.data.toList=L at*;refine(YI w f tx tn tc (λv w'=>Y3 f.data.toList h w v w') (λW=>L=(0,0)/\∃lo m o s ks,eA f.data.toList=.ok ks/\cB w W/\i9 W (aJ (w.heap.size+1) 0)=Wj (Wz m o s)/\w.heap.size+1<W.heap.size/\vo (si lo W.heap.size) W (Wz m o s) ks) (λa v1 v2 v3 q W=>L=(0,0)/\∃(ks:List aC) (D:iD) (G:bI) (r:cY×Nat),eA f.data.toList=.ok ks/\cB w W/\(∀b,G b->b<W.heap.size/\Nw w b)/\oN D G W (dW ks 2001)/\a=0/\q=cC 0 r.2/\oZ D G W (W1 #[Y ((0:Nat):Int),v1,v2,v3,Y (cC 0 r.2)]) ⟨0,r.1,cC 0 r.2⟩/\eE ks h 0=Wj ⟨0,r.1,cC 0 r.2⟩) ?_ (λW hA=>?_) λa x1 X x3 n1 n2 n3 c1 V c3 q W hS=>?_);rw[<-hw2];refine(xL 14 (Wj (aJ w.heap.size 0)) (Wj (aJ (w.heap.size+1) 0)) i (λW=>L=(0,0)/\∃m o s ks J,eA f.data.toList=.ok ks/\Below (i.heap.size+2) (h_ (h_ i (Xe #[Y 0] 32)) (Xe #[Y 0] 3)) J/\vo (si (i.heap.size+2) J.heap.size) J (Wz m o s) ks/\W=c9 J (aJ (w.heap.size+1) 0) (Wz m o s)) (λk l=>L=(k,l)) (s_) λW hW=>?_).mono ?_;have j:cB i W:=by rw[hW];exact((dw _ _).alloc (Z) _).alloc s_ _
 have aa:W.heap.size=i.heap.size+2:=by rw[hW];simp
 have hK:W.heap[i.heap.size]?=Wj (Xe #[Y 0] 32):=by grind[oP]
 have hI:W.heap[i.heap.size+1]?=Wj (Xe #[Y 0] 3):=by grind[lS]
 apply (G9 f w.heap.size (w.heap.size+1) W ((hT.below F).below j) hs ((by grind[aB,ej])) lm).mono;grind[eh,ej,vo];rintro e w' (⟨H,J,⟨S,m,o,s,ks,w0,K,p,h3,Q⟩,M⟩|⟨k,l,B,H,hb,hE⟩);refine ea ⟨H,S,i.heap.size+2,m,o,s,ks,K,?_⟩;have hb0:=F.trans ((((dw i.heap.size i).alloc (Z) _).alloc s_ _).mono Z |>.trans (p.mono Z));have ae:w'.heap.size=w0.heap.size:=by rw[M,Q];simp
 have ab:=p.size;simp[World.size_alloc]at ab;have ad:∀k,k≠w.heap.size+1->k≠i.heap.size->k≠i.heap.size+1->w'.heap[k]?=w0.heap[k]?:=(by grind[eh]);have P:w'.heap[w.heap.size+1]?=Wj (Xe #[Wz m o s] 45):=by
  rw[M,eh _ _ _ _ (G_),eh _ _ _ _ (G_),Q];have:w0.heap[w.heap.size+1]?=Wj (Xe #[bR] 45):=by rw[p.block _ Z,ed _ _ _ ku,ed _ _ _ Z];exact T
  rw[aN this];rfl
 grind[aB,Below.setCell,vo.grow,si];grind[Below.trans,Below.mono,Y3];have ⟨S,lo,m,o,s,ks,K,p,h3,Q,M⟩:=hA;refine⟨m,o,s,h3,Q,?_⟩;have g:=hg ks K S;have ⟨r,hr1,hr2,hr3⟩:=g.first h;refine(N9 (lo:=lo) (d:=2001) _ _ W M g.fl g.ok g.lit ((by grind[Good.kl])) g.main ?_ ac (hp.below p) g.zh hr1 Z).mono ?_;grind[Below.cell,LZ];rintro e w' ⟨v',H,hb,D,G,hG,z,C⟩;obtain⟨f',t',o',rfl,⟨x1,n1,c1,rfl⟩,⟨X,n2,V,rfl⟩,⟨x3,n3,c3,rfl⟩⟩:=C.form;grind[Below.trans,Below.mono,Nw.of,Nw,Ah];obtain⟨S,ks,D,G,r,K,p,hG,z,rfl,rfl,C,u⟩:=hS;have ⟨t,hW'⟩:∃t,t=h_ (W.alloc (.map #[] 0)) (Xe #[Y ((0:Nat):Int),Wz x1 n1 c1,Wz X n2 V,Wz x3 n3 c3,Y (cC 0 r.2),bR,.map (Wj W.heap.size)] 61):=(by simp);have j:cB W t:=by rw[hW'];exact((dw _ _).alloc (Z) _).alloc s_ _
 have aa:t.heap.size=W.heap.size+2:=by rw[hW'];simp
 have hM:t.heap[W.heap.size]?=Wj (.map #[] 0):=by grind[oP]
 have P:t.heap[W.heap.size+1]?=Wj (Xe #[Y ((0:Nat):Int),Wz x1 n1 c1,Wz X n2 V,Wz x3 n3 c3,Y (cC 0 r.2),bR,.map (Wj W.heap.size)] 61):=by grind[lS]
 rw[<-hW'];have y:=C.j_ (λk B=>j.block k (hG k B).1) zW;have E:kZ D G t (W.heap.size+1) W.heap.size (.map #[] 0) (eE ks h) ⟨0,r.1,cC 0 r.2⟩ 0:=by refine⟨⟨_,_,_,bR,[],P,y,World.ownsRow_nil _ _ _ _,i_,s_,λk B e=>?_,λe=>?_⟩,u,λk B=>?_,hM,Z⟩;simp[Value.ownBlock]at e;simp[Value.ownBlock]at e;grind
 apply (PF E _ ⟨0,r.1,cC 0 r.2⟩ y u (s_) Z s_).mono;rintro e w' ⟨H,N,ag⟩;have A:=z.j_ (λk B=>j.block k (hG k B).1) zW;refine⟨H,?_,ea ⟨G_,ks,D,G,W.heap.size+1,W.heap.size,K,rfl,by have:=p.size;exact Z,p.size,?_,⟨0,r.1,cC 0 r.2⟩,G_,rfl,G_⟩⟩;have hbb:=p.trans (j.mono p.size);have I:rA (W.heap.size+1) t=Wk:=by rw[rM P rfl];rfl
 exact⟨N.os.trans hbb.os,N.tape.trans hbb.tape,N.output.trans hbb.output,em hbb.size N.size,(by grind[FS.n_,ej])⟩;refine A.j_ (λk B=>?_) s_;have I:rA (W.heap.size+1) t=Wk:=by rw[rM P rfl];rfl
 grind[FS.n_]
theorem Su:prog.globalNamed "internal/strconv.uint64pow10"=Wj 6:=k_
def oY.low(h:oY y)(b:∀k,k<11->t.heap[k]?=y.heap[k]?):oY t:=(by grind[oY.j_,Su])
theorem oZ.sv{a:bL}(h:oZ B z y v a):∃s:SV,v=s.val/\s.t=a.m_/\s.q=a.stop:=by obtain⟨f,t,o,rfl,⟨l,k,e,rfl⟩,⟨j,m,g,rfl⟩,⟨c,d,i,rfl⟩⟩:=h.form;exact⟨⟨a.m_,l,j,c,k,m,d,e,g,i,a.stop⟩,i_,i_,i_⟩
section
variable {fp:iD} {F G:bI} {w w':aL} {sb mb n n':Nat} {mo:Obj} {st:Nat->Option bL} {s:bL}
def kZ.same(h:kZ fp F w sb mb mo st s n)(e:H_ w<=H_ w')(a:∀k,F k\/k=sb\/k=mb\/rA sb w=Wj k->w'.heap[k]?=w.heap[k]?):kZ fp F w' sb mb mo st s n:=by have ⟨fv,tv,ov,ev,es,h1,h2,h3,h4,h5,h6,h7⟩:=h.n_;have hF:=λb c=>a b (ea c);have hr:=rM h1 i_;refine⟨⟨fv,tv,ov,ev,es,G_,h2.j_ hF s_,(by grind[aX]),h4,λi d=>(h5 i d).j_ hF s_,h6,h7⟩,h.now,(by grind[kZ.fix]),by grind[kZ.map],h.map.2⟩
def FS.other{b:Nat}(h:FS sb w w')(g:w.heap.size<=b)(e:sb<w.heap.size){c:aL}(d:c.heap.size=w'.heap.size)(a:c.os=w'.os/\c.tape=w'.tape/\c.output=w'.output)(f:∀k,k≠b->c.heap[k]?=w'.heap[k]?):FS sb w c:=⟨a.1.trans h.os,a.2.1.trans h.tape,a.2.2.trans h.output,by rw[d];exact h.size,(by grind[FS.n_]),(by grind[FS.row,rA])⟩
end
structure sw(fp:iD)(F:bI)(w:aL)(sb mb:Nat)(mo:Obj)(ks:List aC)(tape:List Int)(s:bL)(n:Nat)(L:List Nat):Prop where
 uz:kZ fp F w sb mb mo (eE ks tape) s n
 tg:oN fp F w (dW ks 2001)
 pow:oY w
 low:11<=sb/\11<=mb
 hn:s.m_/20<n
 loc:∀b∈L,11<=b/\b<w.heap.size/\¬F b/\rA sb w≠Wj b/\b≠sb/\b≠mb
section
variable {fp:iD} {F G:bI} {w w':aL} {sb mb n n':Nat} {mo:Obj} {ks:List aC} {tape:List Int} {s:bL} {L:List Nat}
theorem sw.row(h:sw fp F w sb mb mo ks tape s n L){k:Nat}(a:rA sb w=Wj k):sb<k/\k<w.heap.size/\¬F k/\k≠mb:=h.uz.row k a
def sw.j_(h:sw fp F w sb mb mo ks tape s n L)(l:List Nat)(e:∀b∈l,b∈L)(j:w.heap.size<=w'.heap.size)(c:∀k,k<w.heap.size->k∉l->w'.heap[k]?=w.heap[k]?):sw fp F w' sb mb mo ks tape s n L:=by have g:=h.uz.lt;have Cx:=c sb g λa=>(h.loc sb (e sb a)).2.2.2.2.1 i_;have hF:=λb f=>c b (h.uz.fix b f).1 λa=>(h.loc b (e b a)).2.2.1 f;refine⟨h.uz.same j λk d=>?_,h.tg.j_ hF s_,h.pow.low λk d=>c k (by have:=h.low;exact Z) λa=>by have:=(h.loc k (e k a)).1;exact Z,h.low,h.hn,λb f=>?_⟩;rcases d with i|rfl|rfl|i;grind;exact Cx;exact c _ (aH h.uz.map.1) λa=>(h.loc _ (e _ a)).2.2.2.2.2 i_;exact c k (h.row i).2.1 λa=>(h.loc k (e k a)).2.2.2.1 i;have ⟨a1,a2,a3,a4,a5⟩:=h.loc b f;grind[rA]
def sw.alloc(h:sw fp F w sb mb mo ks tape s n L)(o:Obj):sw fp F (w.alloc o) sb mb mo ks tape s n (w.heap.size::L):=by have a:sw fp F (w.alloc o) sb mb mo ks tape s n L:=h.j_ [] (s_) s_ qw;refine⟨a.uz,a.tg,a.pow,a.low,a.hn,λb c=>?_⟩;rcases fe.1 c with rfl|c;have g:=h.uz.lt;have f:=h.low;refine⟨Z,s_,λd=>by have:=(h.uz.fix _ d).1;exact Z,λe=>?_,Z,by have:=aH h.uz.map.1;exact Z⟩;grind[ed,sw.row,rA];exact a.loc b c
def sw.drop(h:sw fp F w sb mb mo ks tape s n L){a:List Nat}(d:∀b∈a,b∈L):sw fp F w sb mb mo ks tape s n a:=⟨h.uz,h.tg,h.pow,h.low,h.hn,λb c=>h.loc b (d b c)⟩
def sw.fs(h:sw fp F w sb mb mo ks tape s n L)(c:FS sb w w')(d:kZ fp G w' sb mb mo (eE ks tape) s n')(f:ue F G (H_ w))(g:n<=n'):sw fp G w' sb mb mo ks tape s n' L:=by have hF:=λb a=>c.n_ b (h.uz.fix b a).1 (h.uz.fix b a).2.1 λe=>(h.row e).2.2.1 a;refine⟨d,h.tg.j_ hF f.sub,h.pow.low λk i=>c.n_ k (by have:=h.low;have:=h.uz.lt;exact Z) (by have:=h.low;exact Z) λe=>by have:=(h.row e).1;have:=h.low;exact Z,h.low,ef h.hn g,λb a=>?_⟩;have ⟨a1,a2,a3,a4,a5⟩:=h.loc b a;grind[Nat.lt_of_lt_of_le,FS.size,ue.new,FS.row]
theorem sw.n_(h:sw fp F w sb mb mo ks tape s n L)(a:FS sb w w'){b:Nat}(c:b∈L):w'.heap[b]?=w.heap[b]?:=by have ⟨a1,a2,a3,a4,a5,a6⟩:=h.loc b c;exact a.n_ b a2 a5 a4
def sw.Kg(h:sw fp F w sb mb mo ks tape s n L)(d:FS sb w w')(g:ue F G (H_ w)){v:aU}{c:bL}(f:oZ fp F w v c):oZ fp G w' v c:=f.j_ (λb a=>d.n_ b (h.uz.fix b a).1 (h.uz.fix b a).2.1 λe=>(h.row e).2.2.1 a) g.sub
def Good.Ai(b:Good ks){t:Nat}{a:bL}(h:eE ks tape t=Wj a):MA (gC ks) a/\a.m_=t/\Rest (aA tape) a.m/\a.stop<=9:=by have ⟨h1,h2⟩:=AI (oG b.ok) (uS b.ok b.main tape) t a h;have ⟨h3,h4⟩:=PD b.zh (b.BT tape) t a h;grind
def sw.count(a:Good ks)(h:sw fp F w sb mb mo ks tape s n L):n<=26:=by have ⟨_,_,_,_,es,_,_,_,h4,h5,_⟩:=h.uz.n_;rcases ju n with b|b;exact Z;have ⟨_,σ,h6,_⟩:=h5 (n-1) Z;have ⟨h7,h8,_⟩:=a.Ai h6;have:=h7.m_;exact Z
def Good.next(b:Good ks){a:bL}{t:Nat}(h:eE ks tape t=Wj a)(c:a.stop=0):∃r,fB (dW ks 2001) oL a.m=Wj r/\r.2<=9/\eE ks tape (a.m_+1)=Wj ⟨a.m_+1,r.1,cC (a.m_+1) r.2⟩:=by have ⟨h1,h2,h3,h4⟩:=b.Ai h;have ⟨r,hr,_⟩:=pQ (oG b.ok) (h1.ok c).1;refine⟨r,hr,(wD b.zh _ _ _ h3 hr).2,?_⟩;unfold eE at h⊢;grind[iC]
def rX:SV:=⟨0,Wk,Wk,Wk,0,0,0,0,0,0,0⟩
def Ev(fp:iD)(F:bI)(w:aL)(sb mb:Nat)(mo:Obj)(ks:List aC)(tape:List Int)(s:bL)(n:Nat)(L:List Nat)(σ:bL)(v':SV)(ok:Bool)(w':aL):Prop:=∃G n',n<=n'/\ue F G w.heap.size/\FS sb w w'/\sw fp G w' sb mb mo ks tape s n' L/\(ok=Wm->σ.stop=0/\∃σ',eE ks tape (σ.m_+1)=Wj σ'/\σ'.m_=σ.m_+1/\oZ fp G w' v'.val σ'/\σ'.m_/20<n')/\(ok=Wl->σ.stop≠0)
def PE(A:Good ks)(h:sw fp F w sb mb mo ks tape s n L)(X:aA tape<=17592186044416)(v:SV)(a:bL)(Q:oZ fp F w v.val a)(D:eE ks tape a.m_=Wj a)(K:a.m_/20<n):Wn Ww 116 #[aW sb,v.val] w λe w'=>∃N ok,e=bP (Xa #[SV.val N,Xc ok])/\Ev fp F w sb mb mo ks tape s n L a N ok w':=by
 have ⟨m,hw2⟩:∃m,m=h_ (h_ w (bM v.cells 54)) (bM #[Y 0,bR,bR,bR,Y 0] 54):=(by simp);have i:cB w m:=by rw[hw2];exact((dw _ _).alloc (Z) _).alloc s_ _
 have ab:m.heap.size=w.heap.size+2:=by rw[hw2];simp
 have U:m.heap[w.heap.size+1]?=Wj (bM #[Y 0,bR,bR,bR,Y 0] 54):=by grind[lS]
 have hFw:=λb o=>(h.uz.fix b o).1;have f:=h.uz.lt;have P:=aH h.uz.map.1;have ⟨ho1,ho2,ho3,ho4⟩:=A.Ai D;have M:=h.count A;by_cases u:a.stop=0;have ⟨r,hr1,hr2,hr3⟩:=A.next D u;refine JI w sb v (Ev fp F w sb mb mo ks tape s n L a) (λd ok W=>ok=Wm/\cB m W/\∃p,ue F p m.heap.size/\(∀b,p b->b<W.heap.size)/\oZ fp p W d.val ⟨a.m_+1,r.1,cC (a.m_+1) r.2⟩) ?_ (λd W x=>?_) (λd W x=>?_);rw[<-hw2];refine(H9 (oG A.ok) A.zh (Q.j_ (lm) s_) (G_) (h.tg.j_ (lm) zW) (h.pow.below i) u (ho1.ok u).1 (ho1.ok u).2 ho3.zh ho3.out (by have:=ho3.tape;exact Z) hr1 Z Z).mono ?_;grind[oZ.sv];cases x.1;have ⟨_,o,p,hx,hG,hS⟩:=x;have S:=o.size;have ⟨y,hW'⟩:∃y,y=h_ W (bM d.cells 54):=(by simp);have B:cB W y:=by grind[eo,dw]
 have ac:y.heap.size=W.heap.size+1:=by rw[hW'];simp
 have aa:y.heap[W.heap.size]?=Wj (bM d.cells 54):=by grind[aS]
 have c:=i.trans ((o.mono i.size).trans (B.mono Z));rw[<-hW'];have hses:=h.uz.grow c hx.sub λk j=>by rcases hx.new k j with t|t;grind;grind
 apply (PF hses d.val ⟨a.m_+1,r.1,cC (a.m_+1) r.2⟩ (hS.j_ (lm) s_) hr3 (G_) Z G_).mono;rintro e w' ⟨J,E,G⟩;have hrow:=SE (c.block _ f);have T:∀k,w.heap.size<=k->k<y.heap.size->w'.heap[k]?=y.heap[k]?:=λk t z=>E.n_ k z Z λe=>by rw[hrow]at e;have:=(h.row e).2.1;exact Z
 refine⟨J,G_,lm,Z,?_⟩;have ⟨z1,z2,z3,z4⟩:=oH w' (w.heap.size+1) d;have hfw:=(FS.q_ c f).trans E;have hf3:=hfw.other (b:=w.heap.size+1) Z f z1 ⟨z2,z3,z4⟩ λk j=>iZ _ _ _ k j;have V:¬p (w.heap.size+1):=(by grind[ue.new]);have C:∀k,p k\/k=sb\/k=mb\/rA sb w'=Wj k->(jH w' (w.heap.size+1) d).heap[k]?=w'.heap[k]?:=λk j=>iZ _ _ _ k (by rintro rfl;rcases j with t|t|t|t;grind;exact Z;exact Z;rcases E.row _ t with z|z;rw[hrow]at z;have:=(h.row z).2.1;exact Z;exact Z);have H:=G.same Z C;have q:ue F p w.heap.size:=⟨hx.sub,λk j=>(hx.new k j).imp_right Z⟩;refine⟨p,_,?_,q,hf3,h.fs hf3 H q ?_,λ_=>⟨u,⟨a.m_+1,r.1,cC (a.m_+1) r.2⟩,hr3,i_,?_,?_⟩,s_⟩;split<;>exact Z;split<;>exact Z;refine hS.j_ (λb l=>?_) s_;have I:=hG b l;have hbsb:=(hses.fix b l).2.1;rw[C b (ea l),E.n_ b Z hbsb λe=>(hses.row b e).2.2.1 l,B.block b I];simp only;split<;>exact Z;refine JI w sb v (Ev fp F w sb mb mo ks tape s n L a) (λd ok W=>ok=Wl/\d=rX/\cB m W) ?_ (λd W x=>?_) (λd W x=>?_);rw[<-hw2];have ⟨fv,tv,xo,J,f1,f2,f3⟩:=Q.form;rw[J];apply (Uk m a.m_ a.stop fv tv xo u f1 f2 f3).mono;rintro e w' ⟨rfl,o⟩;exact⟨rX,Wl,i_,i_,i_,o⟩;obtain⟨_,rfl,o⟩:=x;refine⟨lm,?_⟩;have ⟨z1,z2,z3,z4⟩:=oH W (w.heap.size+1) rX;have c:cB w (jH W (w.heap.size+1) rX):=by have h0:=i.trans (o.mono i.size);exact⟨z2.trans h0.os,z3.trans h0.tape,z4.trans h0.output,by rw[z1];exact h0.size,λk j=>by rw[iZ _ _ _ k Z];exact h0.block k j⟩
 have g:=c.alloc c.size (bM rX.cells 54);exact⟨F,n,Z,ue.refl _ _,FS.q_ g f,h.fs (FS.q_ g f) (h.uz.grow g (s_) G_) (ue.refl _ _) (Z),s_,λ_=>u⟩;cases x.1
end
def TA(w:aL)(n:Nat)(f:Int) (m:Hid (Wn Ww 94 #[W_ (Wj (aJ n 5)),Y f] (dZ w #[Y 0,bR,bR,bR,Y 0] 54) λe w'=>e=bP (Xa #[Y 0,Xc Wl])/\Below (H_ w+1) (dZ w #[Y 0,bR,bR,bR,Y 0] 54) w')):Wn Ww 115 #[W_ (Wj (aJ n 5)),Y f] w λe w'=>e=bP (Xa #[rX.val,Xc Wl])/\cB w w':=by
 go_in;go_wp;refine rB m λb j=>?_;have c:cB w b:=((dw (H_ w) w).alloc (Z) _).trans (j.mono Z);have A:b.heap[H_ w]?=Wj (bM #[Y 0,bR,bR,bR,Y 0] 54):=(j.block _ Z).trans (aS _ _ rfl _);have a:(dZ b #[Y 0,bR,bR,bR,Y 0] 54).heap[H_ w]?=Wj (bM #[Y 0,bR,bR,bR,Y 0] 54):=by grind[ed]
 have d:(dZ b #[Y 0,bR,bR,bR,Y 0] 54).heap[H_ b]?=Wj (bM #[Y 0,bR,bR,bR,Y 0] 54):=aS _ _ i_ _;have D:=aB (i:=0) a i_;have y:=aB (i:=1) a i_;have t:=aB (i:=2) a i_;have C:=aB (i:=3) a i_;have u:=aB (i:=4) a i_;have r:=aE (i:=0) a;have x:=aE (i:=1) a;have E:=aE (i:=2) a;have H:=aE (i:=3) a;have G:=aE (i:=4) a;have B:=aB (i:=0) d i_;have z:=aB (i:=1) d i_;have o:=aB (i:=2) d i_;have p:=aB (i:=3) d i_;have F:=aB (i:=4) d i_;have K:=aH a;have q:H_ w≠H_ b:=G_;have l:=O (pW (W:=dZ b #[Y 0,bR,bR,bR,Y 0] 54) (s:=rX) a s_ rfl);have k:=O (LR rX (c.alloc c.size (bM #[Y 0,bR,bR,bR,Y 0] 54)) kB);unfold jH rX at l k;clear j c A a d m;go_wp21;have g:=l.out;have I:=k.out;clear l k D y t C u r x E H G z o p F B;refine bodyPost_ret (v:=Xa #[rX.val,Xc Wl]) ?_ i_ G_;generalize (c9 (c9 (c9 (c9 (dZ b #[Y 0,bR,bR,bR,Y 0] 54) (aJ (H_ w) 0) (Y 0)) (aJ (H_ w) 1) (bR)) (aJ (H_ w) 2) (bR)) (aJ (H_ w) 3) (bR)).setCell (aJ (H_ w) 4) (Y 0)=J at g⊢;have ⟨c0,c1,c2,c3,c4⟩:=g;simp[results,results115,go_sem,c0,c1,c2,c3,c4,SV.val,rX]
def Kk(w:aL)(g:Nat)(a:Int)(P:Bool->Wp->Prop) (m:Hid (Wn Ww 64 #[aW g,Y a] w λe w'=>∃v ok,e=bP (Xa #[SV.val v,Xc ok])/\(ok=Wm->(∃c,(dZ w' v.cells 54).heap[g]?=Wj (bM c 61)/\5<=c.size)/\P Wm (jH (dZ w' v.cells 54) g v))/\(ok=Wl->P Wl (dZ w' v.cells 54)))):Wn Ww 24 #[aW g,Y a] w λe w'=>∃b,e=bP (Xc b)/\P b w':=by go_in;go_wp21;apply m.mono;rintro e l ⟨v,ok,rfl,k,j⟩;clear m;have d:(dZ l v.cells 54).heap[H_ l]?=Wj (bM v.cells 54):=aS _ _ i_ _;unfold SV.cells at d;unfold SV.val;cases ok with|false=>have f:=O (j i_);unfold SV.cells at f;clear k j;go_wp2;go_ret;exact⟨_,i_,f⟩|true=>have ⟨⟨c,hc,hsz⟩,h3⟩:=k rfl;have f:=O h3;unfold jH at f;unfold SV.cells at f hc;have y:=aB (i:=0) d i_;have x:=aB (i:=1) d i_;have o:=aB (i:=2) d i_;have p:=aB (i:=3) d i_;have C:=aB (i:=4) d i_;have A:=aB (i:=0) hc (ft Z);have u:=aB (i:=1) hc (ft Z);have r:=aB (i:=2) hc (ft Z);have z:=aB (i:=3) hc (ft Z);have s:=aB (i:=4) hc (ft Z);have q:=aE (i:=0) hc;have t:=aE (i:=1) hc;have B:=aE (i:=2) hc;have E:=aE (i:=3) hc;have D:=aE (i:=4) hc;have n:=aH hc;clear k j h3 hc d;go_wp2;go_ret;exact⟨_,i_,f⟩
def th.yo(w:aL)(b:Nat)(s:SV):th [b] w (jH w b s):=by have ⟨z1,z2,z3,z4⟩:=oH w b s;exact⟨z2,z3,z4,Z,(by grind[iZ])⟩
def FS.but{e:aL}(h:FS Q y t)(d:th r t e)(j:∀b∈r,y.heap.size<=b)(f:Q<y.heap.size):FS Q y e:=by have g:=h.size;have i:e.heap[Q]?=t.heap[Q]?:=(by grind[th.n_]);exact⟨d.os.trans h.os,d.tape.trans h.tape,d.output.trans h.output,em h.size d.size,(by grind[th.n_,FS.n_]),(by grind[FS.row,rA])⟩
theorem oZ.but{g:bL}{e:List Nat}(p:oZ B z y v g)(h:sw B z y Q S x A a D T r)(k:th e y t)(m:∀b∈e,b∈r):oZ B z t v g:=p.j_ (λb f=>k.n_ b (h.uz.fix b f).1 λo=>(h.loc b (m b o)).2.2.1 f) s_
def sw.but{c:List Nat}(h:sw B z y Q S x A a D T r)(k:th c y t)(l:∀b∈c,b∈r):sw B z t Q S x A a D T r:=h.j_ c l k.size k.n_
def kZ.cells{d:iD}{F:bI}{w:aL}{b f n:Nat}{g:Nat->Option bL}{s:bL}(h:kZ d F w b f x g s n):∃a:SV,oZ d F w a.val s/\i9 w (aJ b 0)=Wj (Y a.t)/\i9 w (aJ b 1)=Wj (Wz a.x1 a.n1 a.c1)/\i9 w (aJ b 2)=Wj (Wz a.x2 a.n2 a.c2)/\i9 w (aJ b 3)=Wj (Wz a.x3 a.n3 a.c3)/\i9 w (aJ b 4)=Wj (Y a.q)/\∃c,w.heap[b]?=Wj (Xe c 61)/\5<=c.size:=by have ⟨fv,tv,ov,ev,es,b1,b2,_⟩:=h.n_;have ⟨s0',e0,e01,e02⟩:=b2.sv;grind[SV.val,aB]
def kZ.go{l:Nat->Option bL}{s:bL}{v:SV}(h:kZ B z y Q S x l s T)(r:oZ B z y v.val D)(m:l D.m_=Wj D):kZ B z (jH y Q v) Q S x l D T/\FS Q y (jH y Q v)/\rA Q (jH y Q v)=rA Q y:=by
 have ⟨fv,tv,ov,ev,es,h1,h2,h3,h4,h5,h6,h7⟩:=h.n_;have ⟨s',e,e1,e2⟩:=r.sv;obtain rfl:=SV.val_inj e;have ⟨z1,z2,z3,z4⟩:=oH y Q v;have d:(jH y Q v).heap[Q]?=Wj (bM #[Y v.t,P_ v.x1 v.n1 v.c1,P_ v.x2 v.n2 v.c2,P_ v.x3 v.n3 v.c3,Y v.q,ev,.map (Wj S)] 61):=by have t:=DZ (s:=v) h1;exact t
 have q:∀b,z b->(jH y Q v).heap[b]?=y.heap[b]?:=λb d=>iZ _ _ _ _ (h.fix b d).2.1;have hr1:=rM h1 i_;have hr2:=rM d i_;have c:∀k,ev.ownBlock=Wj k->(jH y Q v).heap[k]?=y.heap[k]?:=λk p=>iZ _ _ _ _ (by have:=(h.row k G_).1;exact Z);refine⟨⟨⟨_,_,_,ev,es,by rw[<-e1,<-e2];exact d,?_,aX h3 c,h4,λi u=>(h5 i u).j_ q s_,h6,h7⟩,m,λk p=>?_,by grind[iZ,kZ.map],h.map.2⟩,⟨z2,z3,z4,Z,(by grind[iZ]),λk p=>ea ?_⟩,?_⟩;have:=r.j_ q zW;grind[SV.val];grind[kZ.fix];grind;grind
def sw.go{d:bL}{v:SV}(h:sw B z y Q S x A a D T r)(o:oZ B z y v.val d)(g:eE A a d.m_=Wj d)(m:d.m_/20<T):sw B z (jH y Q v) Q S x A a d T r/\FS Q y (jH y Q v):=by have ⟨g1,g2,g3⟩:=h.uz.go o g;have ⟨z1,_⟩:=oH y Q v;have i:=h.low;refine⟨⟨g1,h.tg.j_ ((by grind[iZ,kZ.fix])) s_,h.pow.low (by grind[iZ]),h.low,m,λb l=>?_⟩,g2⟩;have:=h.loc b l;grind
structure xq where
 fp:Nat->Wo
 sb:Nat
 mb:Nat
 mo:Obj
 ks:List aC
 tape:List Int
 s:bL
 p:bL->Bool
 bb:Nat
 fv:Wo
 w:aL
 L:List Nat
 le:Nat->Bool->Prop
def xq.bf(C:xq):Nat:=C.w.heap.size
def xq.bt(C:xq):Nat:=C.w.heap.size+1
def xq.bo(C:xq):Nat:=C.w.heap.size+1+1
def xq.all(C:xq):List Nat:=(C.w.heap.size+3+1)::(C.w.heap.size+3)::C.bo::C.bt::C.bf::C.L
noncomputable def xq.st(C:xq):Nat->Option bL:=eE C.ks C.tape
section
variable {C:xq} {L L':List Nat} {F G:bI} {n n' k:Nat} {fd:Bool} {W W':aL}
end
section
variable {fp:iD} {F:bI} {w:aL} {sb mb n:Nat} {mo:Obj} {ks:List aC} {tape:List Int} {s:bL} {L:List Nat}
def uD(fp:iD)(sb mb:Nat)(mo:Obj)(ks:List aC)(tape:List Int)(L:List Nat)(T:bL->Bool->Prop)(w:aL)(b:Bool)(w':aL):Prop:=∃G n' τ,sw fp G w' sb mb mo ks tape τ n' L/\T τ b/\FS sb w w'
end
theorem j7{l:bS}(b:eA l=.ok A)(e:dP l=(0,0)):Good A:=by have ⟨h1,h2⟩:=SG b e;have a:=NF b;have g:=(nC b).len;exact⟨Z,h1,a,λf d=>by have:=((nC b).mem d).y_.len;exact Z,h2,F7 a⟩
def RS:∀(d t:Nat) (z:bL),eE A a (t+1+d)=Wj z->∃x,eE A a t=Wj x/\x.stop=0|0,t,z,h=>by unfold eE at h⊢;grind[iC]|d+1,t,z,h=>by obtain⟨x,c,_⟩:=RS 0 (t+1+d) z (by exact h);exact RS d t x c
def Ec{t:Nat}(h:eE A a Q=Wj D)(c:t<Q):∃x,eE A a t=Wj x/\x.stop=0:=RS (Q-t-1) t D G_
def Below.fs{c:aL}{b:Nat}(h:cB y t)(a:FS b t c)(d:H_ y<=b)(f:∀k,rA b t=Wj k->b<k):cB y c:=⟨a.os.trans h.os,a.tape.trans h.tape,a.output.trans h.output,em h.size a.size,λk e=>by have:=h.size;grind[FS.n_,ej]⟩
attribute [local go_sem] Oper.semAt_some
def UF(x:Option Ws)(n c:Nat)(W:aL):Wn Ww 120 #[Wz x n c] W λe W'=>e=bP (.func (.func 175) #[] #[aW W.heap.size])/\W'=h_ W (Xe #[Wz x n c] 235):=by have b:∀(a:aU) (w:aL),(Instr.makeFunc (.func 175) #[] #[a]).run Ww w=.ok (.func (.func 175) #[] #[a]) w:=λ_ _=>i_;go_in;go_wp2;go_ret;exact⟨i_,i_⟩
def Iz(a:Array Wo)(W:aL):(callFunc 175 a).run Ww W=.ok (.enter 175 a) W:=(enters_of func175 k_ rfl) a W
structure Bu(W:aL)(g i:Nat)(s:SV):Prop where
 c0:i9 W (aJ g (i*5))=Wj (Y s.t)
 c1:i9 W (aJ g (i*5+1))=Wj (Wz s.x1 s.n1 s.c1)
 c2:i9 W (aJ g (i*5+2))=Wj (Wz s.x2 s.n2 s.c2)
 c3:i9 W (aJ g (i*5+3))=Wj (Wz s.x3 s.n3 s.c3)
 c4:i9 W (aJ g (i*5+4))=Wj (Y s.q)
 lt:g<W.heap.size
def X7{l n:Nat}{vs:Nat->SV}{W:aL}(J:Nat->Wp->Prop)(P:lF)(M:n<=1000000)(k:i9 W (aJ Q 0)=Wj (Wz (Wj (aJ S 0)) n T))(t:J n W) (D:Hid (∀i V,i<n->J (i+1) V->i9 V (aJ Q 0)=Wj (Wz (Wj (aJ S 0)) n T)/\Bu V S i (vs i)/\YieldAt Fence.wide 0 Ww l #[Y i,(vs i).val] V λe x=>(e=bP (Xc Wm)/\J i x)\/(e=bP (Xc Wl)/\P x))):Wn Ww 175 #[.func (.yield l) #[] #[],aW Q] W λe w'=>e=eV/\(J 0 w'\/P w'):=by
 have r:=O t;clear t;go_in;go_wp2;go_loopg [3] n (λgk G wr=>gk<=n/\G=Y ((gk:Int)-1)/\J gk wr);case atStart=>exact⟨fk _,lj,r⟩
 case round=>
  obtain⟨E,rfl,A⟩:=hrel;have a:=O A;clear A k r;cases gk with|zero=>go_wp2;go_end0;exact⟨i_,ea a⟩|succ i=>
   obtain⟨w,⟨q,y,v,z,C,H⟩,L,u,f,s,p,B⟩:=D i wr Z a;have o:=O B;unfold SV.val at p;have I:(0:Int)<=(i:Int):=Z;have N:(i:Int)<(n:Int):=Z;have F:(((i+1:Nat):Int))-1=(i:Int):=Z;rw[F];clear B a;refine(wpIn_wide (n:=0)).1 ?_;gi_wp2;refine⟨i_,o.mono ?_⟩;rintro e K (⟨rfl,d⟩|⟨rfl,c⟩)
   .have j:=O d;clear d p o w q y v z C;gi_wp2;go_roundg i;case measure=>exact Z
    case rel=>exact⟨Z,lj,j⟩
   have m:=O c;clear c p o w q y v z C;gi_wp2;exact bodyPost_ret (results_none i_ _ _ _) i_ ⟨i_,dv m⟩
def qU:aL->List Nat->aL|w,[]=>w|w,b::l=>qU (w.putObj b (.deferred Wk)) l
abbrev mark(b:Nat):Deferred:={target:=.collected b,args:=#[]}
def Marks(V:aL)(ms:List Nat):Prop:=ms.Nodup/\∀b∈ms,V.heap[b]?=Wj (.deferred (Wj []))
def BY{P:Program}{fn:Func}{tmps:Array Wo}{R:Ending->Wp->Prop}(a:fn.results=#[]):∀(bs:List Nat) (w:aL),Marks w bs->R eV (qU w bs)->LeavesInM Fence.wide 0 P fn tmps R (bs.map mark) .returning w|[],w,_,h=>⟨_,results_none a _ _ _,h⟩|b::bs,w,c,h=>by refine⟨s_,.inl ⟨_,_,rfl,run_takeDeferred (c.2 b s_),?_⟩⟩;have:=eu.1 c.1;exact BY a bs _ ⟨this.2,λx d=>by rw[World.putObj_heap_other G_];exact c.2 x (by simp[d])⟩ h
structure Cj where
 k:Nat
 e:Nat
 ms:List Nat
 g:Nat
 n:Nat
 cap:Nat
 vs:Nat->SV
 w2:aL
def NS{l bb sb mb K0:Nat}{s:SV}{ev:aU}{W:aL}(I:Nat->Nat->List Nat->Wp->Prop)(Q:Cj->Nat->Wp->Prop)(N:Cj->Nat->Nat->Wp->Prop)(E:Cj->Wp->Prop)(aj:lF) (S:W.heap[bb]?=Wj (bM #[aW sb] 31)) (hs:W.heap[sb]?=Wj (bM (MX s ev mb) 61)) (G:Hid (I K0 s.t [] (h_ (h_ W (bM #[.func (.yield l) #[] #[]] 144)) (bM s.cells 54)))) (HI:Hid (∀k e m V,I k e m V->V.heap[bb]?=Wj (bM #[aW sb] 31)/\(e=0->Marks V m/\aj (qU V m))/\(0<e->Wn Ww 119 #[aW sb,Y e] V λr M=>∃g n j vs,r=bP (P_ (Wj (aJ g 0)) (n+1) j)/\n+1<=1000000/\∀x,x=Cj.mk k e m g n j vs M->∀R0,Q x (n+1) (((h_ M (bM #[P_ (Wj (aJ g 0)) (n+1) j] 235)).alloc (.deferred (Wj []))).alloc (.loop R0))))) (L:Hid (∀x i V,Q x (i+1) V->x.w2.heap.size+1+1<V.heap.size/\i9 V (aJ x.w2.heap.size 0)=Wj (P_ (Wj (aJ x.g 0)) (x.n+1) x.cap)/\Bu V x.g i (x.vs i)/\N x i V.heap.size (h_ V (bM (x.vs i).cells 54)))) (H:Hid (∀x V r,(∀i b,N x i b V->N x i b (V.putObj (x.w2.heap.size+1+1) (.loop r)))/\(∀i,Q x i V->Q x i (V.putObj (x.w2.heap.size+1+1) (.loop r)))/\(E x V->E x (V.putObj (x.w2.heap.size+1+1) (.loop r))))) (HY:Hid (∀x i b V,N x i b V->V.heap[b]?=Wj (bM (x.vs i).cells 54)/\V.heap[W.heap.size]?=Wj (bM #[.func (.yield l) #[] #[]] 144)/\YieldAt Fence.wide 0 Ww l #[(x.vs i).val] V λe t=>(t.heap[x.w2.heap.size+1]?=V.heap[x.w2.heap.size+1]?/\t.heap[x.w2.heap.size+1+1]?=V.heap[x.w2.heap.size+1+1]?)/\((e=bP (Xc Wm)/\Q x i t)\/(e=bP (Xc Wl)/\E x t)))) (HD:Hid (∀x V,Q x 0 V->V.heap[x.w2.heap.size+1]?=Wj (.deferred (Wj []))->Bu V x.g 0 (x.vs 0)/\∃k',k'<x.k/\I k' (x.vs 0).t ((x.w2.heap.size+1)::x.ms) (h_ V (bM (x.vs 0).cells 54)))) (HE:Hid (∀x V,E x V->V.heap[x.w2.heap.size+1]?=Wj (.deferred (Wj []))->Marks V ((x.w2.heap.size+1)::x.ms)/\aj (qU V ((x.w2.heap.size+1)::x.ms)))):Wn Ww 118 #[.func (.yield l) #[] #[],aW bb] W λe w'=>e=eV/\aj w':=by
 have HT:=O λ(v:SV) (w:aL)=>tR v.t v.q v.x1 v.x2 v.x3 v.n1 v.n2 v.n3 v.c1 v.c2 v.c3 w;have u:=O (HT s);have ad:=O λtmps m V (B:Marks V m) h2=>(BY (P:=Ww) (fn:=f118) (tmps:=tmps) (R:=λe w'=>e=eV/\aj w') i_ m V B ⟨i_,h2⟩);unfold SV.cells at G;unfold MX at hs;have ⟨b1,b2,b3⟩:=bk S;have ⟨k1,k2,k3⟩:=bk hs;clear S hs;refine(callsIn_wide (n:=0)).1 (callsIn_of_wp_marks func118 i_ trivial ?_ i_);simp only[ntmps118,List.size_toArray,ff,fh,Nat.reduceAdd,Nat.reduceSub,Array.replicate_succ,Array.replicate_zero,List.push_toArray,List.append_toArray,ik,il];refine wpIn_wide.2 ?_;go_wp2_with fail;apply (u _).mono;rintro e w1 ⟨rfl,rfl⟩;go_wp2_with fail;clear b1 b2 k1 k2 u;refine wp_loop_ghost_k (λk a V=>∃e m,I k e m V/\∃(u4 u5 u6 u7 u8 u9 u10 u11 u12 u13 u14 u15 u16 u17 u18 u19 u20 u21 u22 u23 u24 u25 u26 u27 u28:aU),a={tmps:=#[.func (.yield l) #[] #[],aW bb,aW W.heap.size,Y (e:Nat),u4,u5,u6,u7,u8,u9,u10,u11,u12,u13,u14,u15,u16,u17,u18,u19,u20,u21,u22,u23,u24,u25,u26,u27,u28],defers:=m.map mark}) K0 ⟨s.t,[],G,_,_,_,_,_,_,_,_,_,_,_,_,_,_,_,_,_,_,_,_,_,_,_,_,_,i_⟩ ?_;rintro k a V ⟨e,m,hi,u4,u5,u6,u7,u8,u9,u10,u11,u12,u13,u14,u15,u16,u17,u18,u19,u20,u21,u22,u23,u24,u25,u26,u27,u28,rfl⟩ J K hJ hK;obtain⟨c0,h0,B⟩:=HI _ _ _ _ hi;have ⟨b1,b2,b3⟩:=bk c0;clear hi c0 b2 G;by_cases he:e=0;.subst he;have U:=O (h0 i_);clear h0 B;go_wp2_with fail;exact ad _ _ _ U.1 U.2
 have ae:=O (B Z);have ai:(0:Int)<(e:Int):=Z;clear h0 B HI;go_wp2_with fail;apply ae.mono;rintro r M ⟨g,n,j,vs,rfl,g1,hA⟩;have X:=O (UF (Wj (aJ g 0)) (n+1) j M);have o:=O (hA _ i_);clear ae hA;go_wp2_with fail;apply X.mono;rintro r w3 ⟨rfl,rfl⟩;clear X;go_wp2_with fail;generalize A:Cj.mk k e m g n j vs M=x at o;have xk:x.k=k:=by rw[<-A]
 have xe:x.e=e:=by rw[<-A]
 have ah:x.ms=m:=by rw[<-A]
 have xg:x.g=g:=by rw[<-A]
 have xn:x.n=n:=by rw[<-A]
 have xc:x.cap=j:=by rw[<-A]
 have xw:x.w2=M:=by rw[<-A]
 clear A;subst xk xe ah xg xn xc xw;generalize aa:h_ x.w2 (bM #[P_ (Wj (aJ x.g 0)) (x.n+1) x.cap] 235)=w3 at o⊢;have d:w3.heap.size=x.w2.heap.size+1:=by rw[<-aa];simp
 clear aa b1;refine wpIn_wide.1 (JN (τ:=Nat) (P:=Ww) (gf:=175) (lb:=#[aW x.w2.heap.size]) i_ Iz (λi y V=>y=#[Y (i:Nat),SV.val (x.vs i)]/\Q x (i+1) V) (λi y V=>Q x i V) (λi y a' V=>∃b,y=#[Y (i:Nat),SV.val (x.vs i)]/\a'={tmps:=#[.func (.yield l) #[] #[],aW bb,aW W.heap.size,Y (x.e:Nat),P_ (Wj (aJ x.g 0)) (x.n+1) x.cap,u5,aW b,u7,u8,u9,u10,u11,Y (x.e:Nat),Xc Wm,aW sb,Y (x.e:Nat),P_ (Wj (aJ x.g 0)) (x.n+1) x.cap,P_ (Wj (aJ x.g 0)) (x.n+1) x.cap,.func (.func 175) #[] #[aW x.w2.heap.size],Y (i:Nat),SV.val (x.vs i),u21,u22,u23,u24,u25,u26,u27,u28],defers:=[]}/\N x i b V) (λ_ c _ V=>c=.ret/\E x V) (λV=>Q x 0 V) ?hps ?hAx ?hB ?hBx ?hZ ?hassign ?hbody ?hseq ?hdone ?hstop);case hps=>rintro i y V ⟨rfl,_⟩;rfl
 case hAx=>rintro i y a' V r ⟨b,B,h2,h5⟩;rw[d];exact⟨b,B,h2,(H _ _ _).1 _ _ h5⟩
 case hB=>intro i y V r h;rw[d];exact(H _ _ _).2.1 _ h
 case hBx=>rintro _ c y V r ⟨rfl,h⟩;rw[d];exact⟨i_,(H _ _ _).2.2 h⟩
 case hZ=>intro V r h;rw[d];exact(H _ _ _).2.1 _ h
 case hassign=>rintro i y t K' ⟨rfl,h⟩ ab;obtain⟨q1,-,-,q2⟩:=L _ _ _ h;have ac:=O (ab _ _ (ed _ _ _ qz) (ed _ _ _ qz) ⟨_,rfl,rfl,q2⟩);unfold SV.val SV.cells at ac;clear ab q2 h;unfold SV.val;gi_wp2;exact ac
 case hbody=>
  rintro i y a' t ⟨b,rfl,rfl,h⟩ z;obtain⟨y1,y2,fn,tmps,f,q,hy,hR⟩:=HY _ _ _ _ h;have HR:=O hR;unfold SV.val at hy;unfold SV.val;unfold SV.cells at y1;have ⟨d1,d2,d3⟩:=bk y1;have ⟨c1,c2,c3⟩:=bk y2;clear h hR y1 y2 L HY H HE HD o;gi_wp2;refine⟨i_,(show RoundIn (Fence.wide.inRound (x.w2.heap.size+1+1)) 0 Ww l fn tmps f q t _ from HR).mono ?_⟩;rintro r V2 ⟨hq,C⟩;have HX:=O C;clear C HR hy d1 d2 c1 c2;rcases HX with ⟨rfl,hB⟩|⟨rfl,hB⟩;all_goals have HB:=O hB;clear hB;gi_wp2;rw[d]
  exact⟨hq,HB⟩;exact⟨hq,i_,HB⟩
 case hseq=>intro R0 Rdy Don B h2 h3 h4 h5 hY;rw[d]at hY⊢;have D:=o R0;generalize (w3.alloc (.deferred (Wj []))).alloc (.loop R0)=V0 at D h5⊢;refine callsIn_wide.2 ((X7 (l:=x.w2.heap.size+1+1) (vs:=x.vs) (W:=V0) (λi V=>Rdy V/\Q x i V) (λV=>∃c,(c=Code.ret/\E x V)/\Don c V) g1 (L _ _ _ D).2.1 ⟨h5,D⟩ λi V hi F=>?_).mono ?_);obtain⟨q1,q2,q3,-⟩:=L _ _ _ F.2;obtain⟨fn,tmps,f,q,hy,C⟩:=hY i _ V ⟨rfl,F.2⟩ F.1;refine⟨q2,q3,fn,tmps,f,q,hy,C.mono ?_⟩;rintro r t (⟨rfl,hb,C⟩|⟨rfl,c,⟨rfl,hE⟩,p⟩);exact ea ⟨i_,C,hb⟩;exact dv ⟨i_,_,⟨i_,hE⟩,p⟩;rintro r t ⟨rfl,⟨C,hd⟩|⟨c,hE,p⟩⟩;exact⟨⟨_,i_⟩,ea ⟨hd,C⟩⟩;exact⟨⟨_,i_⟩,dv ⟨0,_,#[],hE,p⟩⟩
 case hdone=>intro t hd p z;rw[d]at p z⊢;obtain⟨⟨e0,e1,e2,e3,e4,e5⟩,k',p2,p3⟩:=HD _ _ hd p;simp only[ip,gp]at e0 e1 e2 e3 e4;have T:=O p3;have u:=O (HT (x.vs 0));have ag:=O hJ;have af:=O p2;unfold SV.cells at T;clear hd p p3 HD HE L HY H o HT;dsimp only[Exit.inBlock,Exit.then];go_wp2_with fail;apply (u _).mono;rintro r w4 ⟨rfl,rfl⟩;clear e0 e1 e2 e3 e4 u;go_wp2_with fail;exact Handed.intro k' af (ag _ _ _ ⟨_,_,T,_,_,_,_,_,_,_,_,_,_,_,_,_,_,_,_,_,_,_,_,_,_,_,_,_,rfl⟩)
 case hstop=>rintro _ c y t ⟨rfl,hz⟩ p z;rw[d]at p z⊢;have U:=O (HE _ _ hz p);clear hz p HE HD L HY H o;refine wpIn_wide.2 ?_;go_wp2_with fail;exact ad _ _ _ U.1 U.2
