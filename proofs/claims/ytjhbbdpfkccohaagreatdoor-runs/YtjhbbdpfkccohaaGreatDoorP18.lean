import Derived.Test.YtjhbbdpfkccohaaGreatDoorP17
set_option linter.all false
set_option maxRecDepth 100000
set_option maxHeartbeats 4000000
open List renaming length->Ty
open Go.World renaming setCell->Tz,alloc->T6,cell?->T_
open Option renaming some->Ua,none->Ub
open Bool renaming false->Uc
open Go renaming Calls->Ue,Value->Uf,Addr->Uj
open Go.Proofs.Tryz renaming prog->Un
open Go.Value renaming slice->Uq,string->Ur,agg->Us,pointer->Ut,tuple->Uu,bool->Uw
open Go.Obj renaming cells->Uy
namespace Go.Proofs.YtjhbbdpfkccohaaGreatDoor
open Hs
open _root_.Go.Proofs.Tryz
open Go.RowKit
variable{a:List Int}{x:List Nat}{y:List aC}{S W n:Nat}{T:Nat->Option dB}{X:Obj}{R q:aN}{F:bN}{V:dB}{U:iU}
def xF(x y:Int):Int:=if x<y then -1 else if x>y then 1 else 0
def Qz{x y:Int}(h:¬x=y):¬xF x y=0:=by grind [xF]
def OF(x:Int)(w:aN):Ue Un 204 #[I_ x] w λe w'=>e=bY (Uw Uc)/\w'=w:=by
 go_in
 go_wp2
 go_ret;simp
def YK(x y:Int)(w:aN):Ue Un 156 #[I_ x,I_ y] w λe w'=>e=bY (I_ (xF x y))/\w'=w:=by
 go_in
 go_wp2_with fail;apply (OF x w).mono
 rintro e b ⟨rfl,rfl⟩;go_wp2_with fail;apply (OF y b).mono
 rintro e f ⟨rfl,rfl⟩;by_cases d:x<y
 .have a:Hid (xF x y= -1):=by show _=_;unfold xF;exact aD
  go_wp2
  go_ret;exact⟨by rw[a.out];rfl,rfl⟩
 by_cases c:y<x
 .have a:Hid (xF x y=1):=by show _=_;grind [xF]
  go_wp2
  go_ret;exact⟨by rw[a.out];rfl,rfl⟩
 have a:Hid (xF x y=0):=by show _=_;grind [xF]
 go_wp2
 go_ret;exact⟨by rw[a.out];rfl,rfl⟩
def OQ(k f:Int)(a b c d e:aW)(w:aN)(o:∃x l c,b=P_ x l c)(p:∃x l d,c=P_ x l d)(i:∃x l c,d=P_ x l c)(m:∃n,a=I_ n)(j:∃n,e=I_ n):
 Ue Un 155 #[Us #[I_ k,a,b,c,d,e],I_ f] w λg w'=>g=bY (I_ (xF k f))/\w'=eH w #[I_ k,a,b,c,d,e] 207:=by
 go_in
 go_wp2_with fail;refine oN (YK k f _) ?_;go_wp2
 go_ret;simp
structure vt where
 k:Int
 a:Int
 b:Uf
 c:Uf
 d:Uf
 e:Int
def vt.cells(x:vt):List Uf:=[I_ x.k,I_ x.a,x.b,x.c,x.d,I_ x.e]
def mQ:List vt->List Uf
 |[]=>[]
 |x::l=>x.cells++mQ l
structure vt.Ok(x:vt):Prop where
 b:∃y l c,x.b=Uq y l c
 c:∃y l c,x.c=Uq y l c
 d:∃y l c,x.d=Uq y l c
def Em(w:aN)(g:Nat)(es:List vt):Prop:=∀i (h:i<Ty es),es[i].Ok/\T_ w (aL g (i*6))=Ua (I_ es[i].k)/\T_ w (aL g (i*6+1))=Ua (I_ es[i].a)/\T_ w (aL g (i*6+2))=Ua es[i].b/\T_ w (aL g (i*6+3))=Ua es[i].c/\T_ w (aL g (i*6+4))=Ua es[i].d/\T_ w (aL g (i*6+5))=Ua (I_ es[i].e)
structure Found(es:List vt)(key:Int)(at_:Nat)(found:Bool):Prop where
 le:at_<=Ty es
 lo:∀i (h:i<Ty es),i<at_->es[i].k<key
 hi:∀i (h:i<Ty es),at_<=i->key<=es[i].k
 Cg:found=true↔∃h:at_<Ty es,es[at_].k=key
def D8(g V:Nat)(b:List vt)(c:Int)(w:aN)(hl:Ty b<=100000)(X:g<H_ w)(he:Em w g b)(hs:∀i j (hi:i<Ty b) (Z:j<Ty b),i<=j->b[i].k<=b[j].k):
 Ue Un 154 #[P_ (Ua (aL g 0)) (Ty b) V,I_ c,.func (.func 155) #[] #[]] w λe w'=>∃C fd,e=bY (Uu #[I_ (C:Nat),Uw fd])/\R_ w w'/\Found b c C fd:=by
 have W:=aB he;have HS:=aB hs;go_in
 go_wp2
 go_loopg [9,10,11] (Ty b) (λgk iv jv _ wr=>∃i j:Nat,iv=I_ i/\jv=I_ j/\i<=j/\j<=Ty b/\j-i<=gk/\R_ w wr/\(∀k (h:k<Ty b),k<i->b[k].k<c)/\(∀k (h:k<Ty b),j<=k->c<=b[k].k))
 case atStart=>exact⟨0,Ty b,aJ,aJ,aD,aD,aD,dz _ _,aD,aD⟩
 case round=>
  obtain⟨i,j,rfl,rfl,ab,Z,ad,x,m,l⟩:=hrel;by_cases aa:i<j
  .have f:=aB (dy m l);have hm:(i+j)/2<Ty b:=aD;obtain⟨n,y,K,s,v,q,D⟩:=W _ hm;have a:∀o u,dP w g o u->dP wr g o u:=(by grind [Below.cell])
   have y:=a _ _ y;have K:=a _ _ K;have s:=a _ _ s;have v:=a _ _ v;have q:=a _ _ q;have D:=a _ _ D;have hgr :=ej X x.size;have r:=aB x;have E:Hid (∀k (h:k<Ty b),(k<=(i+j)/2->b[k].k<=b[(i+j)/2].k)/\((i+j)/2<=k->b[(i+j)/2].k<=b[k].k)):=λk h=>⟨G_,G_⟩
   obtain⟨F,M,H,P⟩:=n.b;obtain⟨O,N,A,S⟩:=n.c;obtain⟨G,L,B,T⟩:=n.d;rw[P]at s;rw[S]at v;rw[T]at q;generalize b[(i+j)/2].k=mk at*;generalize b[(i+j)/2].a=J at*;generalize b[(i+j)/2].e=I at*;have U:=aB (OQ mk c (I_ J) (P_ F M H) (P_ O N A) (P_ G L B) (I_ I) wr s_ s_ s_ s_ s_)
   go_wp2_with fail;refine oN U ?_;have d:=aB (r.trans (((dz _ wr).alloc (aD) (cD #[I_ mk,I_ J,P_ F M H,P_ O N A,P_ G L B,I_ I] 207)).mono r.size));by_cases p:mk<c
   .have z:xF mk c= -1:=by unfold xF;exact aD
    rw[z];have Q:=aB p;go_wp2
    go_roundg ((gk-1))
    case measure=>exact aD
    case rel=>
     refine⟨(i+j)/2+1,j,la,rfl,aD,Z,aD,d,λk h Y=>?_,f.2⟩
     exact Int.lt_of_le_of_lt ((E k h).1 aD) Q
   have z:0<=xF mk c:=by unfold xF;exact aD
   have Q:=aB p;go_wp2
   go_roundg (gk-1)
   case measure=>exact aD
   case rel=>
    refine⟨i,(i+j)/2,aJ,la,aD,aD,aD,d,f.1,λk h Y=>?_⟩
    have:=(E k h).2 Y;exact aD
  obtain rfl:i=j:=aD;by_cases hn:i<Ty b
  .have f:=aB (dy m l);obtain⟨n,y,K,s,v,q,D⟩:=W _ hn;have a:∀o u,dP w g o u->dP wr g o u:=(by grind [Below.cell])
   have y:=a _ _ y;have K:=a _ _ K;have s:=a _ _ s;have v:=a _ _ v;have q:=a _ _ q;have D:=a _ _ D;have hgr :=ej X x.size;have r:=aB x;obtain⟨F,M,H,P⟩:=n.b;obtain⟨O,N,A,S⟩:=n.c;obtain⟨G,L,B,T⟩:=n.d;rw[P]at s;rw[S]at v;rw[T]at q;obtain⟨mk,t⟩:∃mk,mk=b[i].k:=(by simp)
   rw[<-t]at y;have ac:=aB t;generalize b[i].a=J at*;generalize b[i].e=I at*;clear m l x P S T a t n W HS;have U:=aB (OQ mk c (I_ J) (P_ F M H) (P_ O N A) (P_ G L B) (I_ I) wr s_ s_ s_ s_ s_)
   go_wp2_with fail;refine oN U ?_;have d:=aB (r.trans (((dz _ wr).alloc (aD) (cD #[I_ mk,I_ J,P_ F M H,P_ O N A,P_ G L B,I_ I] 207)).mono r.size));by_cases p:mk=c
   .have z:xF mk c=0:=by unfold xF;exact aD
    rw[z];have Q:=aB p;clear p z;go_wp2
    go_ret2
    refine⟨i,true,aJ,d,aD,f.1,f.2,?_⟩;grind [d7]
   have z:(xF mk c==0)=Uc:=by simpa using Qz p
   have Q:=aB p;go_wp2
   go_ret2
   refine⟨i,Uc,aJ,d,aD,f.1,f.2,?_⟩;grind [d7]
  have f:=aB (dy m l);have r:=aB x;go_wp2
  go_ret2
  refine⟨i,Uc,aJ,r,aD,f.1,f.2,?_⟩;grind
def D7(a:Int)(w:aN):
 Ue Un 154 #[bO,I_ a,.func (.func 155) #[] #[]] w λe w'=>e=bY (Uu #[I_ 0,Uw Uc])/\w'=w:=by
 go_in
 go_wp2
 go_loopg [9,10,11] 0 (λ_ b c _ wr=>b=I_ 0/\c=I_ 0/\wr=w)
 case atStart=>simp
 case round=>
  obtain⟨rfl,rfl,rfl⟩:=hrel;go_wp2
  go_ret2
  simp
def Jh:(prog.info? 207).map (λi=>(i.zero,i.size,i.bytes))=Ua (Ua (Us #[I_ 0,I_ 0,bO,bO,bO,I_ 0]),6,96):=k_
def OP(w:aN)(d:Nat)(x:Option Uj)(n c:Nat)(b:Int)(P:Int->Bool->World->Prop)(l:dP w d 5 (P_ x n c))
 (j:Hid (Ue Un 154 #[P_ x n c,I_ b,.func (.func 155) #[] #[]] w λe w'=>∃a f,e=bY (Uu #[I_ a,Uw f])/\P a f w')):
 Ue Un 94 #[Ut (Ua (aL d 5)),I_ b] w λe w'=>∃a f,e=bY (Uu #[I_ a,Uw f])/\P a f w':=by
 go_in
 go_wp2_with fail;apply j.mono
 rintro e k ⟨a,f,rfl,i⟩;have g:=aB i;go_wp2
 go_ret2
 exact⟨a,f,aJ,g⟩
def JO(w:aN)(y g n A b:Nat)(j a e:Int)(x t l:Option Uj)(v z m p q r:Nat)(P Q:mL)(D:b<n)
 (F:Hid (Ue Un 94 #[Ut (Ua (aL y 5)),I_ j] (T6 w (cD #[I_ a,P_ x v p,P_ t z q,P_ l m r,I_ e] 57)) λs w'=>s=bY (Uu #[I_ b,Uw true])/\Q w'))
 (E:Hid (∀W,Q W->y<W.heap.size/\T_ W (aL y 5)=Ua (P_ (Ua (aL g 0)) n A)/\g<W.heap.size/\(∃c,W.heap[g]?=Ua (cD c 207)/\b*6+5<c.size)/\W.heap[w.heap.size]?=Ua (cD #[I_ a,P_ x v p,P_ t z q,P_ l m r,I_ e] 57)/\
   ∀W',bV (Tz (Tz (Tz (Tz (Tz W (aL g (b*6+1)) (I_ a)) (aL g (b*6+2)) (P_ x v p)) (aL g (b*6+3)) (P_ t z q)) (aL g (b*6+4)) (P_ l m r)) (aL g (b*6+5)) (I_ e)) W'->P W')):
 Ue Un 56 #[Ut (Ua (aL y 5)),I_ j,Us #[I_ a,P_ x v p,P_ t z q,P_ l m r,I_ e]] w λs w'=>s=fD/\P w':=by
 go_in
 go_wp2_with fail;refine F.mono ?_;rintro s B ⟨rfl,G⟩;obtain⟨T,q2,V,⟨c,d,X⟩,f,C⟩:=E _ G;have HP:=aB C;have S:=aA f (i:=0) aJ;have H:=aA f (i:=1) aJ;have k2:=aA f (i:=2) aJ;have M:=aA f (i:=3) aJ;have U:=aA f (i:=4) aJ;have k:∀o,o<=b*6+5->∃u,T_ B (aL g o)=Ua u:=λo Y=>⟨c[o]'aD,by rw[cell_of_row B g o c _ _ d];simp⟩
 obtain⟨u1,m1⟩:=k (b*6+1) aD;obtain⟨u2,I⟩:=k (b*6+2) aD;obtain⟨u3,J⟩:=k (b*6+3) aD;obtain⟨u4,m4⟩:=k (b*6+4) aD;obtain⟨u5,Z⟩:=k (b*6+5) aD;have O:=aF d (i:=b*6+1);have L:=aF d (i:=b*6+2);have z3:=aF d (i:=b*6+3);have N:=aF d (i:=b*6+4);have K:=aF d (i:=b*6+5);go_wp2
 go_region
 all_goals
  go_wp2
  go_end0;grind [bV.drew]
def M2(w:aN)(a b n:Nat)(v:aW)(u:List Uf)(f:Int)(d:w.ownsRow a 207 6 v n u)(A:w.heap[b]?=Ua (Uy #[I_ f,I_ 0,bO,bO,bO,I_ 0] 207))(P:n<=100000)(j:a<=w.heap.size):
 Ue Un 95 #[v,I_ n,Uq (Ua (aL b 0)) 1 1] w λe w'=>∃g k,e=bY (Uq (Ua (aL g 0)) (n+1) k)/\w'.ownsRow a 207 6 (Uq (Ua (aL g 0)) (n+1) k) (n+1) (u++[I_ f,I_ 0,bO,bO,bO,I_ 0])/\w.grownBy w' v.ownBlock/\(v.ownBlock=Ua g\/g=w.heap.size):=by
 obtain⟨D,J,q,s,t⟩:=info_parts Jh;obtain⟨x,c,rfl⟩:=fW d;have G:=aB d;have I:=aB (World.news_of_block A);have p:∀v∈([I_ f,I_ 0,bO,bO,bO,I_ 0]:List Uf),v.oneCell'=true:=λv y=>by simp at y;rcases y with rfl|rfl|rfl|rfl<;>rfl
 have HONE:=aB p
 have K:(x=Ub/\n=0/\c=0)\/(∃g,x=Ua (aL g 0)/\n<c)\/∃g,x=Ua (aL g 0)/\c=n:=by
  rcases d.2 with ⟨z,L⟩|⟨g,k,F,z,L,N,O,_⟩
  .grind
  grind
 rcases K with ⟨rfl,rfl,rfl⟩|⟨C,rfl,H⟩|⟨C,rfl,rfl⟩
 all_goals
  go_in
  go_wp2_with (at_builtin;refine wpList_append_lies _ r_ _ _ 60 r_ a 207 D _ 6 96 underlying60 J q s t rfl d_ _ _ u r_ G (aL b 0) 1 1 [I_ f,I_ 0,bO,bO,bO,I_ 0] r_ r_ (I) HONE d_ kk aD j w.heap.size rfl ?_)
  intro E o M l i m B;have r:=aB (dy l (dy i m));go_wp2
  go_ret;exact⟨E,o,aJ,r.1,r.2.1,r.2.2⟩
def QX(w:aN)(f n:Nat)(x:Option Uj)(c:Nat)(j a e:Int)(A y q:Option Uj)(z B r s t v:Nat)(P Q:mL)(R:Nat->Nat->World->Prop)(hn:n<=100000)
 (H:Hid (Ue Un 94 #[Ut (Ua (aL f 5)),I_ j] (T6 w (Uy #[I_ a,Uq A z s,Uq y B t,Uq q r v,I_ e] 57)) λm w'=>m=bY (Uu #[I_ n,Uw Uc])/\Q w'))
 (I:Hid (∀W,Q W->f<W.heap.size/\T_ W (aL f 5)=Ua (Uq x n c)/\Ue Un 95 #[Uq x n c,I_ n,Uq (Ua (aL W.heap.size 0)) 1 1] (T6 W (Uy #[I_ j,I_ 0,bO,bO,bO,I_ 0] 207)) λe w'=>∃g b,e=bY (Uq (Ua (aL g 0)) (n+1) b)/\R g b w'))
 (G:Hid (∀g b W,R g b W->f<W.heap.size/\g≠f/\g≠w.heap.size/\f≠w.heap.size/\(∃u,T_ W (aL f 5)=Ua u)/\W.frozen? (aL f 5)=Uc/\g<W.heap.size/\(∃d,W.heap[g]?=Ua (Uy d 207)/\n*6+5<d.size)/\W.heap[w.heap.size]?=Ua (Uy #[I_ a,Uq A z s,Uq y B t,Uq q r v,I_ e] 57)/\
   ∀W',bV (Tz (Tz (Tz (Tz (Tz (Tz W (aL f 5) (Uq (Ua (aL g 0)) (n+1) b)) (aL g (n*6+1)) (I_ a)) (aL g (n*6+2)) (Uq A z s)) (aL g (n*6+3)) (Uq y B t)) (aL g (n*6+4)) (Uq q r v)) (aL g (n*6+5)) (I_ e)) W'->P W')):
 Ue Un 56 #[Ut (Ua (aL f 5)),I_ j,Us #[I_ a,Uq A z s,Uq y B t,Uq q r v,I_ e]] w λm w'=>m=fD/\P w':=by
 go_in
 go_wp2_with fail;apply H.mono
 rintro m w0 ⟨rfl,F⟩;obtain⟨i1,S,K⟩:=I _ F;have C:=aB K;go_wp2_with fail;apply C.mono
 rintro m D ⟨g,b,rfl,J⟩;obtain⟨q1,g1,V,g3,⟨T,g4⟩,g5,q3,⟨d,k,q5⟩,l,E⟩:=G _ _ _ J;have L:=aB E;have k0:=aA l (i:=0) aJ;have M:=aA l (i:=1) aJ;have k2:=aA l (i:=2) aJ;have Y:=aA l (i:=3) aJ;have k4:=aA l (i:=4) aJ;have p:∀o,o<=n*6+5->∃u,T_ D (aL g o)=Ua u:=λo ho=>⟨d[o]'aD,by rw[cell_of_row D g o d _ _ k];simp⟩
 obtain⟨u1,m1⟩:=p (n*6+1) aD;obtain⟨u2,N⟩:=p (n*6+2) aD;obtain⟨u3,O⟩:=p (n*6+3) aD;obtain⟨u4,m4⟩:=p (n*6+4) aD;obtain⟨u5,m5⟩:=p (n*6+5) aD;have z1:=aF k (i:=n*6+1);have X:=aF k (i:=n*6+2);have z3:=aF k (i:=n*6+3);have Z:=aF k (i:=n*6+4);have U:=aF k (i:=n*6+5);go_wp2
 go_region
 all_goals
  go_wp2
  go_end0;exact⟨aJ,L _ (bV.drew _)⟩
def AV(a e:Int)(f j g:Option Uj)(c i k l b d:Nat)(w:aN):Ue Un 55 #[Us #[I_ a,Uq f c l,Uq j i b,Uq g k d,I_ e]] w λm w'=>m=bY (I_ a)/\w'=T6 w (Uy #[I_ a,Uq f c l,Uq j i b,Uq g k d,I_ e] 57):=by
 go_in
 go_wp2
 go_ret;simp
theorem zE:∀(l:List aE) (a v:aE),(cI l a v).2<=9
 |[],_,_=>by simp[cI]
 |i::l,a,v=>by unfold cI;have:=zE l (a.l.getD i.n.toNat aY) v;grind
theorem j8(c:bP)(a b:aE):(dJ c a b).2<=9:=by
 unfold dJ jE gA;repeat' split
 all_goals first|(simp;done)|(grind)
def RE(i:aO)(f:aI):(aR i f).2<=9:=by
 cases i<;>simp [aR]
 case assign k n=>
  grind [zE,jI,jG]
 case unary op=>
  grind [dI]
 case binary op=>
  grind [j8]
 case index=>
  grind [cA]
 case list n=>
  grind [jG]
 case length=>
  grind [dO]
 all_goals (repeat' split)<;>simp
def Jl(b:List eM)(i:aO)(a:List aI)(f:aI)(t:List Int)(o:cY):(cF b i a f t o).2<=9:=by
 cases i<;>simp only[cF]<;>first|exact RE _ _|skip
 case read=>grind
 case call=>grind
 case sg=>simp
 grind
structure Rest(n:Nat)(m:dA):Prop where
 yz:iQ m
 out:Ty m.out<=50
 tape:Ty m.tape<=n
theorem vS{a:List eM}(e:lH a):∀(k:Nat) (m:dA) (r:dA × Nat),Rest n m->fG a k m=Ua r->Rest n r.1/\r.2<=9
 |0,_,_,_,h=>by cases h
 |k+1,m,r,c,h=>by
  rw[fG]at h;cases j:m.f_.getLast? with
  |none=>
   grind
  |some f=>
   rw[j]at h;simp only at h;cases d:f.se with
   |none=>grind
   |some p=>
    obtain⟨i,g⟩:=p;rw[d]at h;simp only at h
    have l:m.f_=m.f_.dropLast++[f]:=by grind [List.getLast?_eq_some_iff]
    have b:iQ ⟨m.f_.dropLast++[f],m.tape,m.out⟩:=by have:=c.yz;grind [iQ]
    have o:Rest n (cF a i m.f_.dropLast g m.tape m.out).1:=⟨JW e b d,X5 c.out,eo XZ c.tape⟩;have q:=Jl a i m.f_.dropLast g m.tape m.out;split at h
    .grind
    split at h
    .grind
    exact vS e k _ _ o h
def NL{a:List eM}(e:lH a){b:dA}(g:Rest n b):∀(t:Nat) (s:dB),iB a b t=Ua s->Rest n s.m/\s.stop<=9
 |0,s,h=>by
  rw[iB]at h;cases c:fG a oC b with
  |none=>grind
  |some r=>
   grind [vS,cB]
 |t+1,s,h=>by
  rw[iB]at h;cases f:iB a b t with
  |none=>grind
  |some d=>
   rw[f]at h;simp only at h;split at h
   .cases c:fG a oC d.m with
    |none=>grind
    |some r=>
     obtain⟨j,i⟩:=vS e _ _ _ (NL e g t d f).1 c;grind [cB]
   cases h
def C8(w:aN)(o:Nat)(a:Nat)(e:Int)(l j c:Option Uj)(k m d f g i:Nat)(P:mL)(v:a%20=0)(x:a<=1000000)
 (s:Hid (∀W',R_ w W'->Ue Un 56 #[Ut (Ua (aL o 5)),I_ a,Us #[I_ a,P_ l k f,P_ j m g,P_ c d i,I_ e]] W' λb w'=>b=fD/\P w')):
 Ue Un 18 #[bF o,Us #[I_ a,P_ l k f,P_ j m g,P_ c d i,I_ e]] w λb w'=>b=fD/\P w':=by
 have q:(a:Int)%20=0:=aD;have r:(a:Int).tmod 20=0:=by rw[Int.tmod_eq_emod_of_nonneg aD];exact q
 go_in
 go_wp2_with fail;apply (AV a e l j c k m d f g i _).mono
 rintro b t ⟨rfl,rfl⟩;go_wp2
 go_region_law (go_simp;first|(go_at_call 55;refine(AV a e l j c k m d f g i _).mono ?_;rintro b y ⟨rfl,rfl⟩)|(go_at_call 56;refine(s _ ((((dz _ w).alloc mJ _).alloc s_ _).alloc kj _).drew).mono ?_;rintro b u ⟨rfl,n⟩;have p:=aB n;clear n))
 all_goals
  go_wp2
  go_end0;exact⟨aJ,p⟩
def q9(w:aN)(p:Nat)(a:Nat)(e:Int)(l j b:Option Uj)(k m c d f g:Nat)(r:a%20≠0)(s:a<=1000000):
 Ue Un 18 #[bF p,Us #[I_ a,P_ l k d,P_ j m f,P_ b c g,I_ e]] w λi w'=>i=fD/\R_ w w':=by
 have n:¬(a:Int)%20=0:=aD;have o:¬(a:Int).tmod 20=0:=by rw[Int.tmod_eq_emod_of_nonneg aD];exact n
 go_in
 go_wp2_with fail;apply (AV a e l j b k m c d f g _).mono
 rintro i q ⟨rfl,rfl⟩;go_wp2
 go_end0;exact⟨aJ,((dz _ w).alloc mJ _).alloc s_ _⟩
def RG(l m:List vt):mQ (l++m)=mQ l++mQ m:=by
 induction l with
 |nil=>rfl
 |cons x l a=>simp[mQ,a]
def RF(l:List vt):Ty (mQ l)=Ty l*6:=by
 induction l with
 |nil=>rfl
 |cons x l a=>simp[mQ,vt.cells];exact aD
theorem ON:∀(l:List vt) (i j:Nat) (h:i<Ty l),j<6->(mQ l)[i*6+j]?=(l[i].cells)[j]?
 |x::l,0,j,h,a=>by grind [mQ,vt.cells]
 |x::l,i+1,j,h,a=>by
  have:=ON l i j G_ a
  simp [mQ];grind [vt.cells]
theorem OM:∀(l:List vt) (i:Nat) (x:vt) (h:i<Ty l),x.k=l[i].k->mQ (l.set i x)=(((((mQ l).set (i*6+1) (I_ x.a)).set (i*6+2) x.b).set (i*6+3) x.c).set (i*6+4) x.d).set (i*6+5) (I_ x.e)
 |y::l,0,x,h,a=>by simp[mQ,vt.cells,a]
 |y::l,i+1,x,h,a=>by
  have b:=OM l i x G_ G_
  have e:∀j,(i+1)*6+j=i*6+j+6:=aD;simp [mQ,e,vt.cells,iy];rw[b]
def SP(fp:iU)(F:bN)(w:aN)(st:Nat->Option dB)(i:Nat)(x:vt):Prop:=
 x.k=((20*i:Nat):Int)/\∃s,st (20*i)=Ua s/\pC fp F w (Us #[I_ x.a,x.b,x.c,x.d,I_ x.e]) s
theorem SP.h_{a:iU}{G:bN}{w w':aN}{i:Nat}{x:vt}(h:SP a F w T i x)(d:∀b,F b->w'.heap[b]?=w.heap[b]?)(e:∀b,F b->G b):SP a G w' T i x:=by grind [pC.h_,SP]
theorem SP.ok{i:Nat}{x:vt}(h:SP U F R T i x):x.Ok:=by
 obtain⟨_,s,_,g⟩:=h;obtain⟨o,m,n,e,f,k,l⟩:=g.form;simp only[Value.agg.injEq]at e;have b:=fg (λz=>z[1]?) e
 have a:=fg (λz=>z[2]?) e
 have c:=fg (λz=>z[3]?) e
 simp at b a c;subst b a c;exact⟨f,k,l⟩
structure kZ(fp:iU)(F:bN)(w:aN)(sb mb:Nat)(mo:Obj)(st:Nat->Option dB)(s:dB)(n:Nat):Prop where
 i_:∃fv tv ov ev es,w.heap[sb]?=Ua (Uy #[I_ s.m_,fv,tv,ov,I_ s.stop,ev,.map (Ua mb)] 64)/\pC fp F w (Us #[I_ s.m_,fv,tv,ov,I_ s.stop]) s/\
  w.ownsRow (sb+1) 207 6 ev n (mQ es)/\Ty es=n/\(∀i (h:i<Ty es),SP fp F w st i es[i])/\(∀k,F k->ev.ownBlock≠Ua k)/\ev.ownBlock≠Ua mb
 now:st s.m_=Ua s
 fix:∀k,F k->k<w.heap.size/\k≠sb/\k≠mb
 map:w.heap[mb]?=Ua mo/\mb≠sb
def qR(sb:Nat)(w:aN):Option Nat:=match w.heap[sb]? with|some (Uy c _ _)=>(c[5]?).bind Value.ownBlock|_=>Ub
def QD{b:aN}(h:b.heap[n]?=R.heap[n]?):qR n b=qR n R:=by unfold qR;rw[h]
def qY{c:Array Uf}{T:TypeId}{z:Nat × Nat}{v:aW}(h:R.heap[n]?=Ua (Uy c T z))(b:c[5]?=Ua v):qR n R=v.ownBlock:=by grind [qR]
structure FS(sb:Nat)(w w':aN):Prop where
 os:w'.os=w.os
 tape:w'.tape=w.tape
 output:w'.output=w.output
 size:w.heap.size<=w'.heap.size
 i_:∀k,k<w.heap.size->k≠sb->qR sb w≠Ua k->w'.heap[k]?=w.heap[k]?
 row:∀k,qR sb w'=Ua k->qR sb w=Ua k\/w.heap.size<=k
def FS.refl(a:Nat)(w:aN):FS a w w:=⟨rfl,rfl,rfl,aD,s_,G_⟩
theorem FS.trans{sb:Nat}{a b c:aN}(h:FS sb a b)(k:FS sb b c):FS sb a c:=by
 refine⟨k.os.trans h.os,k.tape.trans h.tape,k.output.trans h.output,eo h.size k.size,λi d f e=>?_,λi d=>?_⟩
 .grind [FS.i_,FS.row]
 grind [FS.row,Nat.le_trans,FS.size,qR]
def FS.p_{b:Nat}(h:R_ R q)(c:b<R.heap.size):FS b R q:=
 ⟨h.os,h.tape,h.output,h.size,ku,(by grind [eg,qR])⟩
section
variable {fp:iU} {F G:bN} {w w':aN} {sb mb n:Nat} {mo:Obj} {st:Nat->Option dB} {s:dB}
def kZ.lt(h:kZ fp F w sb mb mo st s n):sb<w.heap.size:=by grind [kZ.i_]
def kZ.row(h:kZ fp F w sb mb mo st s n):∀k,qR sb w=Ua k->sb<k/\k<w.heap.size/\¬F k/\k≠mb:=by obtain⟨_,_,_,d,_,b,_,c,_,_,e,f⟩:=h.i_;intro k a;rw[qY b rfl]at a;have:=c.lt k a;grind
def kZ.grow(h:kZ fp F w sb mb mo st s n)(j:R_ w w')(r:∀k,F k->G k)(f:∀k,G k->F k\/(w.heap.size<=k/\k<w'.heap.size)):kZ fp G w' sb mb mo st s n:=by
 have g:=h.lt;obtain⟨v,m,u,l,t,x,i,d,p,y,z,q⟩:=h.i_;have o:∀b,F b->w'.heap[b]?=w.heap[b]?:=(by grind [eg,kZ.fix])
 refine⟨⟨v,m,u,l,t,ku,i.h_ o r,jZ d j,p,(by grind [SP.h_]),λk a=>?_,q⟩,h.now,λk a=>?_,by grind [eg,kZ.map]⟩
 .rcases f k a with c|c
  .grind
  intro e;have:=(d.lt k e).2;exact aD
 rcases f k a with c|c
 .grind [kZ.fix]
 have:=aH h.map.1;exact aD
theorem X2{es:List vt}{a g d:Nat}(h:w.ownsRow a 207 6 (P_ (Ua (aL g 0)) (Ty es) d) (Ty es) (mQ es))(b:∀i (h:i<Ty es),es[i].Ok):Em w g es:=λi e=>by
 have c:∀j u,j<6->(es[i].cells)[j]?=Ua u->dP w g (i*6+j) u:=λj u f k=>by
  have:=h.cells (g:=g) aJ (i*6+j) u (by grind [ON])
  grind [SH]
 exact⟨b i e,c 0 _ aD rfl,c 1 _ aD rfl,c 2 _ aD rfl,c 3 _ aD rfl,c 4 _ aD rfl,c 5 _ aD rfl⟩
theorem U7{j:List vt}{f g k i:Nat}{W:aN}{a e:Int}{b c d:aW}(h:w.ownsRow f 207 6 (P_ (Ua (aL g 0)) (Ty j) k) (Ty j) (mQ j))(x:i<Ty j)
 (p:W.heap=(Tz (Tz (Tz (Tz (Tz w (aL g (i*6+1)) (I_ a)) (aL g (i*6+2)) b) (aL g (i*6+3)) c) (aL g (i*6+4)) d) (aL g (i*6+5)) (I_ e)).heap):
 W.ownsRow f 207 6 (P_ (Ua (aL g 0)) (Ty j) k) (Ty j) (mQ (j.set i ⟨j[i].k,a,b,c,d,e⟩)):=by
 rcases h.2 with ⟨l,_⟩|⟨v,m,r,l,s,n,o,q,t,u⟩
 .cases l
 cases l;refine⟨by simp[RF],ec ⟨g,k,_,rfl,s,by rw[p];exact aP (aP (aP (aP (aP n)))),o,q,G_,?_⟩⟩
 grind [OM,List.take_set]
end
structure Cx(n:Nat)(key:Int)(at_:Nat)(fd:Bool):Prop where
 le:at_<=n
 lo:∀i,i<at_->((20*i:Nat):Int)<key
 hi:∀i,i<n->at_<=i->key<=((20*i:Nat):Int)
 Cg:fd=true↔at_<n/\((20*at_:Nat):Int)=key
section
variable {fp:iU} {F G:bN} {w w':aN} {sb mb n:Nat} {mo:Obj} {st:Nat->Option dB} {s:dB}
def CZ(h:kZ fp F w sb mb mo st s n)(b:Int)(J:n<=1000):
 Ue Un 94 #[Ut (Ua (aL sb 5)),I_ b] w λe w'=>∃(c:Nat) (p:Bool),e=bY (Uu #[I_ c,Uw p])/\R_ w w'/\Cx n b c p:=by
 obtain⟨L,D,I,t,o,v,C,z,u,x,K,G⟩:=h.i_;have hk :=λi j=>(x i j).1
 have q:=aA (i:=5) v aJ;subst u;rcases z.2 with ⟨l,A⟩|⟨g,d,y,l,A,B,E,H⟩
 .subst l;refine(OP w sb Ub 0 0 b (λa f w'=>a=0/\f=Uc/\w'=w) q ((D7 b w).mono ?_)).mono ?_
  .simp
  rintro e w' ⟨a,f,rfl,rfl,rfl,rfl⟩;exact⟨0,Uc,aJ,dz _ _,aD,aD,aD,G_⟩
 subst l;refine(OP w sb (Ua (aL g 0)) (Ty o) d b (λa f w'=>∃c:Nat,a=c/\R_ w w'/\Found o b c f) q ((D8 g d o b w aD (G_) ((by grind [X2,SP.ok])) (G_)).mono ?_)).mono ?_
 .grind
 rintro e w' ⟨_,f,rfl,a,rfl,r,k⟩;refine⟨a,f,aJ,r,k.le,λi j=>?_,λi j m=>?_,?_⟩
 .have:=k.lo i (by have:=k.le;exact aD) j
  grind
 .have:=k.hi i j m;grind
 grind [Found.Cg]
def OI(W:aN)(g a b c d e:Nat)(u v x y z:aW)(k:Nat)(f:k≠g):(Tz (Tz (Tz (Tz (Tz W (aL g a) u) (aL g b) v) (aL g c) x) (aL g d) y) (aL g e) z).heap[k]?=W.heap[k]?:=by grind [em]
def U5(W:aN)(p q r t o:Uj)(u v x y z:aW):(((((W.setCell p u).setCell q v).setCell r x).setCell t y).setCell o z).os=W.os/\(((((W.setCell p u).setCell q v).setCell r x).setCell t y).setCell o z).tape=W.tape/\(((((W.setCell p u).setCell q v).setCell r x).setCell t y).setCell o z).output=W.output/\(((((W.setCell p u).setCell q v).setCell r x).setCell t y).setCell o z).heap.size=W.heap.size:=by grind [World.setCell]
def Rl(h:kZ fp F w sb mb mo st s n)(v:aW)(b:dB)(S:pC fp F w v b)(hs:st b.m_=Ua b)(hm:b.m_%20=0)(V:b.m_/20<n)(hn:n<=1000)(ht:b.m_<=1000000):
 Ue Un 56 #[Ut (Ua (aL sb 5)),I_ b.m_,v] w λe w'=>e=fD/\FS sb w w'/\kZ fp F w' sb mb mo st s n:=by
 obtain⟨f',t',o',rfl,⟨G,A,y,rfl⟩,⟨u,B,r,rfl⟩,⟨C,D,z,rfl⟩⟩:=S.form;obtain⟨fv,tv,ov,ev,m,h1,h2,O,h4,P,Y,X⟩:=h.i_;subst h4;have M:=O;rcases O.2 with ⟨U,r2⟩|⟨g,H,q,U,r2,r3,r4,r5,r6,r7⟩
 .exact aD
 subst U;obtain⟨o,t⟩:∃o,o=T6 w (cD #[I_ b.m_,P_ G A y,P_ u B r,P_ C D z,I_ b.stop] 57):=(by simp)
 have I:R_ w o:=by grind [ep,dz]
 have Z:o.heap[w.heap.size]?=Ua (cD #[I_ b.m_,P_ G A y,P_ u B r,P_ C D z,I_ b.stop] 57):=by grind [aZ]
 have ad:o.heap.size=w.heap.size+1:=by rw[t];simp
 refine(JO w sb g (Ty m) H (b.m_/20) b.m_ b.m_ b.stop G u C A B D y r z (λw'=>FS sb w w'/\kZ fp F w' sb mb mo st s (Ty m)) (λW=>R_ o W) V ?_ λW hW=>?_)
 .show Ue _ _ _ _ _
  rw[<-t];refine(CZ (h.grow I (s_) λ_ h=>ed h) b.m_ hn).mono ?_
  rintro e w' ⟨a,fd,rfl,hb,Q⟩
  have e1:a=b.m_/20:=by
   refine Nat.le_antisymm ?_ ?_
   .cases a with
    |zero=>exact aD
    |succ a=>have:=Q.lo a aD;exact aD
   rcases gz a (b.m_/20)with h8|h8
   .have:=Q.hi a aD (aD);exact aD
   exact aD
  grind [Cx.Cg]
 have c:R_ w W:=I.trans (hW.mono aD);have x:=h.lt;have L:=h.grow c (s_) (λ_ h=>ed h)
 have ab:=aH r3;have ae:W.heap[g]?=Ua (cD q 207):=by grind [eg]
 have ac:b.m_/20*6+5<q.size:=aD;refine⟨L.lt,(by grind [aA,eg]),G_,G_,ku,λN j=>?_⟩
 have E:g≠sb:=aD;have l:∀k,k≠g->N.heap[k]?=W.heap[k]?:=λk l=>by rw[j.heap];exact OI W g _ _ _ _ _ _ _ _ _ _ k l
 have T:qR sb W=Ua g:=qY (by rw[c.block _ x];exact h1) aJ
 have aa:∀k,F k->k≠g:=λk l e=>Y k l (by rw[e];rfl)
 have J:FS sb W N:=by
  obtain⟨a1,a2,a3,a4⟩:=U5 W (aL g (b.m_/20*6+1)) (aL g (b.m_/20*6+2)) (aL g (b.m_/20*6+3)) (aL g (b.m_/20*6+4)) (aL g (b.m_/20*6+5)) (I_ b.m_) (P_ G A y) (P_ u B r) (P_ C D z) (I_ b.stop);refine⟨j.os.trans a1,j.tape.trans a2,j.output.trans a3,by rw[j.heap,a4];exact aD,G_,λk f=>ed ?_⟩
  rw[<-QD (l sb λe=>E e.symm)];exact f
 refine⟨(FS.p_ c x).trans J,⟨fv,tv,ov,P_ (Ua (aL g 0)) (Ty m) H,m.set (b.m_/20) ⟨m[b.m_/20].k,b.m_,P_ G A y,P_ u B r,P_ C D z,b.stop⟩,?_,?_,?_,s_,λi hi=>?_,Y,X⟩,h.now,λk f=>?_,?_⟩
 .grind [eg]
 .exact h2.h_ ((by grind [eg,kZ.fix])) s_
 .exact U7 (jZ M c) V j.heap
 .have p:i<Ty m:=G_
  have d:∀k,F k->N.heap[k]?=w.heap[k]?:=(by grind [eg,kZ.fix])
  by_cases K:i=b.m_/20
  .subst K;rw[List.getElem_set_self];refine⟨(P _ p).1,b,?_,S.h_ d s_⟩
   grind
  rw[List.getElem_set_ne (aD)];exact(P i p).h_ d s_
 .have:=h.fix k f;exact⟨by rw[j.heap];simpa using ej this.1 c.size,this.2⟩
 refine⟨?_,h.map.2⟩;rw[l mb λe=>X (by rw[e];rfl),c.block _ (aH h.map.1)];exact h.map.1
end
section
variable {fp:iU} {F G:bN} {w w':aN} {sb mb n:Nat} {mo:Obj} {st:Nat->Option dB} {s:dB}
def Sz{k:List vt}{f g j i m:Nat}{W:aN}{k0 a e:Int}{b c d:aW}(l:Ty k=m)(h:w.ownsRow f 207 6 (Uq (Ua (aL g 0)) m j) m (mQ k))(p:i<Ty k)(n:k[i].k=k0)
 (o:W.heap=(Tz (Tz (Tz (Tz (Tz w (aL g (i*6+1)) (I_ a)) (aL g (i*6+2)) b) (aL g (i*6+3)) c) (aL g (i*6+4)) d) (aL g (i*6+5)) (I_ e)).heap):
 W.ownsRow f 207 6 (Uq (Ua (aL g 0)) m j) m (mQ (k.set i ⟨k0,a,b,c,d,e⟩)):=by
 grind [U7]
def I1(h:kZ fp F w sb mb mo st s n)(v:aW)(f:dB)(hv:pC fp F w v f)(hs:st f.m_=Ua f)(hm:f.m_%20=0)(hq:f.m_/20=n)(hn:n<=1000):
 Ue Un 56 #[Ut (Ua (aL sb 5)),I_ f.m_,v] w λe w'=>e=fD/\FS sb w w'/\kZ fp F w' sb mb mo st s (n+1):=by
 obtain⟨f',t',o',rfl,⟨J,E,B,rfl⟩,⟨A,G,y,rfl⟩,⟨H,I,C,rfl⟩⟩:=hv.form;obtain⟨Z,X,ov,ev,D,h1,h2,h3,h4,h5,h6,h7⟩:=h.i_;have ac:=h.lt;have S:=h3;obtain⟨x,c,rfl⟩:=fW h3;obtain⟨o,M⟩:∃o,o=T6 w (cD #[I_ f.m_,P_ J E B,P_ A G y,P_ H I C,I_ f.stop] 57):=(by simp)
 have V:R_ w o:=by grind [ep,dz]
 have al:o.heap[w.heap.size]?=Ua (cD #[I_ f.m_,P_ J E B,P_ A G y,P_ H I C,I_ f.stop] 57):=by grind [aZ]
 have ar:o.heap.size=w.heap.size+1:=by rw[M];simp
 have ao:∀k,(Value.slice x n c).ownBlock=Ua k->sb<k/\k<w.heap.size:=λk l=>by have:=S.lt k l;exact aD
 refine(QX w sb n x c f.m_ f.m_ f.stop J A H E G I B y C (λw'=>FS sb w w'/\kZ fp F w' sb mb mo st s (n+1)) (λW=>R_ o W)
  (λg j W=>(∀k,k<o.heap.size->Ua k≠(Value.slice x n c).ownBlock->W.heap[k]?=o.heap[k]?)/\W.os=w.os/\W.tape=w.tape/\W.output=w.output/\o.heap.size<=W.heap.size/\((Value.slice x n c).ownBlock=Ua g\/o.heap.size<=g)/\W.ownsRow (sb+1) 207 6 (P_ (Ua (aL g 0)) (n+1) j) (n+1) (mQ D++[I_ f.m_,I_ 0,bO,bO,bO,I_ 0])) aD ?_ (λW hW=>?_) λg j W hW=>?_)
 .rw[<-M];refine(CZ (h.grow V (s_) λ_ h=>ed h) f.m_ hn).mono ?_
  rintro e w' ⟨a,fd,rfl,hb,hf⟩
  have e1:a=n:=by
   refine Nat.le_antisymm hf.le ?_;rcases gz a n with Q|Q
   .have:=hf.hi a Q (aD);exact aD
   exact aD
  have e2:fd=Uc:=by
   cases fd with
   |false=>rfl
   |true=>have:=(hf.Cg.1 aJ).1;exact aD
  grind
 .have hbw :=V.trans (hW.mono aD);have af:=jZ S hbw;refine⟨ej ac hbw.size,(by grind [aA,eg]),?_⟩
  refine(M2 _ (sb+1) W.heap.size n (P_ x n c) (mQ D) f.m_ (af.alloc _) (aZ _ _ aJ _) aD (by have:=hbw.size;simp;exact aD)).mono ?_
  rintro e w' ⟨g,j,rfl,q1,q2,Y⟩;have au:=hW.size;have ai:=q2.size;simp only[World.size_alloc]at ai;refine⟨g,j,aJ,λk l K=>?_,?_,?_,?_,aD,?_,q1⟩
  .grind [World.grownBy.block,eh,eg]
  .exact q2.os.trans hbw.os
  .exact q2.tape.trans hbw.tape
  .exact q2.output.trans hbw.output
  rcases Y with Y|Y
  .grind
  exact ec (by rw[Y];simp;exact aD)
 obtain⟨b1,b2,b3,b4,b5,b6,b7⟩:=hW;have ah:=b7;have q:g≠sb:=G_
 have aa:g≠w.heap.size:=by grind
 rcases b7.2 with ⟨r1,_⟩|⟨g',aj,ab,r1,r2,r3,r4,r5,r6,r7⟩
 .cases r1
 cases r1
 have m:W.heap[sb]?=Ua (cD #[I_ s.m_,Z,X,ov,I_ s.stop,P_ x n c,.map (Ua mb)] 64):=by grind [eg]
 have aq:n*6+5<ab.size:=aD;refine⟨aD,q,aa,aD,⟨_,aA m rfl⟩,aF m,G_,G_,G_,λU u=>?_⟩
 generalize O:Tz W (aL sb 5) (P_ (Ua (aL g 0)) (n+1) j)=p at u;have ae:∀k,k≠sb->p.heap[k]?=W.heap[k]?:=(by grind [em])
 have ak:p.heap[sb]?=Ua (cD #[I_ s.m_,Z,X,ov,I_ s.stop,P_ (Ua (aL g 0)) (n+1) j,.map (Ua mb)] 64):=by rw[<-O];exact aP m
 have N:p.os=W.os/\p.tape=W.tape/\p.output=W.output/\p.heap.size=W.heap.size:=by rw[<-O];exact⟨aJ,aJ,aJ,s_⟩
 have ap:∀k,k≠g->U.heap[k]?=p.heap[k]?:=λk l=>by rw[u.heap];exact OI p g _ _ _ _ _ _ _ _ _ _ k l
 obtain⟨a1,a2,a3,a4⟩:=U5 p (aL g (n*6+1)) (aL g (n*6+2)) (aL g (n*6+3)) (aL g (n*6+4)) (aL g (n*6+5)) (I_ f.m_) (P_ J E B) (P_ A G y) (P_ H I C) (I_ f.stop);have an:U.heap.size=W.heap.size:=by rw[u.heap,a4,N.2.2.2]
 have L:∀k,k<w.heap.size->k≠sb->Ua k≠(Value.slice x n c).ownBlock->U.heap[k]?=w.heap[k]?:=(by grind [eg])
 have hFk :=λk l=>L k (h.fix k l).1 (h.fix k l).2.1 λe=>h6 k l e.symm
 have av:=aH h.map.1;have hrow0 :=qY h1 aJ;have r:U.heap[sb]?=Ua (cD #[I_ s.m_,Z,X,ov,I_ s.stop,P_ (Ua (aL g 0)) (n+1) j,.map (Ua mb)] 64):=G_
 obtain⟨z,hz⟩:∃z:vt,z=⟨f.m_,0,bO,bO,bO,0⟩:=(by simp)
 have t:p.ownsRow (sb+1) 207 6 (P_ (Ua (aL g 0)) (n+1) j) (n+1) (mQ (D++[z])):=by rw[RG,hz];exact bC ah λk e=>ae k (by cases e;exact q)
 have P:Ty (D++[z])=n+1:=by simp[h4]
 have ad:(D++[z])[n]'aD=z:=by rw[List.getElem_append_right aD];simp
 have T:=Sz (W:=U) (i:=n) (k0:=f.m_) (a:=f.m_) (b:=P_ J E B) (c:=P_ A G y) (d:=P_ H I C) (e:=f.stop) P t (by rw[P];exact aD) (by rw[ad,hz]) u.heap
 refine⟨⟨u.os.trans (G_),u.tape.trans (G_),u.output.trans (G_),aD,λk l K hr=>L k l K λe=>hr (by rw[hrow0];exact e.symm),λk l=>?_⟩,⟨Z,X,ov,P_ (Ua (aL g 0)) (n+1) j,(D++[z]).set n ⟨f.m_,f.m_,P_ J E B,P_ A G y,P_ H I C,f.stop⟩,r,h2.h_ hFk s_,?_,by simp[h4],λi hi=>?_,λk l e=>?_,λe=>?_⟩,h.now,λk l=>?_,?_⟩
 .rw[qY r rfl]at l;cases l;rcases b6 with Q|Q
  .exact ed (by rw[hrow0];exact Q)
  grind
 .exact T
 .have am:i<n+1:=G_
  by_cases ag:i=n
  .subst ag;rw[List.getElem_set_self];refine⟨G_,f,?_,hv.h_ hFk s_⟩
   rw[show 20*i=f.m_ by exact aD];exact hs
  rw[List.getElem_set_ne (aD),List.getElem_append_left aD];exact(h5 i aD).h_ hFk s_
 .grind [Value.ownBlock]
 .grind [Value.ownBlock]
 .have:=h.fix k l;exact aD
 grind [kZ.map]
def NM(h:kZ fp F w sb mb mo st s n)(v:aW)(a:dB)(z:pC fp F w v a)(u:st a.m_=Ua a)(D:a.m_%20=0->a.m_/20<=n)(y:n<=1000)(i:a.m_<=1000000):
 Ue Un 18 #[bF sb,v] w λe w'=>e=fD/\FS sb w w'/\kZ fp F w' sb mb mo st s (if a.m_%20=0/\a.m_/20=n then n+1 else n):=by
 obtain⟨H,G,I,rfl,⟨B,A,q,rfl⟩,⟨x,C,r,rfl⟩,⟨o,p,t,rfl⟩⟩:=z.form;by_cases b:a.m_%20=0
 .refine C8 w sb a.m_ a.stop B x o A C p q r t _ b i λW g=>?_
  have d:=h.grow g (s_) (λ_ h=>ed h)
  have c:=z.h_ (λk E=>g.block k (h.fix k E).1) MW
  rcases Nat.eq_or_lt_of_le (D b)with e|e
  .rw[ef ⟨b,e⟩];apply (I1 d _ a c u b e y).mono
   rintro e w' ⟨f,j,l⟩;exact⟨f,(FS.p_ g h.lt).trans j,l⟩
  rw[ea aD];apply (Rl d _ a c u b e y i).mono
  rintro e w' ⟨f,j,l⟩;exact⟨f,(FS.p_ g h.lt).trans j,l⟩
 rw[ea (aD)];apply (q9 w sb a.m_ a.stop B x o A C p q r t b i).mono
 rintro e w' ⟨f,m⟩;exact⟨f,FS.p_ m h.lt,h.grow m (s_) (G_)⟩
end
def Oa(s:ByteArray)(w:aN)(c:s.size<=281474976710656):Ue Un 16 #[Q_ s] w λe w'=>e=bY (Q_ s)/\R_ w w':=by
 have d:=aB (stringslite_Clone s w c);go_in
 go_wp2_with fail;refine rf d λf b=>?_
 have a:=aB b;go_wp2
 go_ret;exact⟨aJ,a⟩
def B7(a:ByteArray)(b p:Nat)(w:aN)(y:qH w)(C:a.size<=281474976710656)(D:T_ w (aL b 0)=Ua (Ur a))(H:w.heap[p]?=Ua (Uy #[bO] 48)):
 Ue Un 14 #[bF b,bF p] w λe w'=>
  (dR a.data.toList=(0,0)/\e=fD/\∃f v ks,R_ w f/\eA a.data.toList=.ok ks/\uj (rn w.heap.size f.heap.size) f v ks/\w'=Tz f (aL p 0) v)\/
  ((dR a.data.toList).1≠0/\e=iD (dR a.data.toList).1 (dR a.data.toList).2/\R_ w w'):=by
 have A:=aB (Oa a w C);have B:Hid (∀W,R_ w W->Ue Un 15 #[Ur a] W (NR a.data.toList W)):=λW u=>GB a W (y.below u) kk
 go_in
 go_wp2_with fail;refine rf A λf l=>?_
 have o:=aB (B f l);have d:=aB l;go_wp2_with fail;apply o.mono
 rintro e r ⟨g,⟨m,v,ks,rfl,z,s⟩|⟨m,rfl⟩⟩
 .have n:=d.trans (g.mono d.size);have j:r.heap[p]?=Ua (Uy #[bO] 48):=by grind [eg]
  have F:=aA j (i:=0) aJ;have E:=aF j (i:=0)
  obtain⟨x,c,rfl⟩:∃x c,v=Uq x (Ty ks) c:=by grind [uj]
  have t:=aB (dy m (dy z (dy n (s.grow (G:=rn w.heap.size r.heap.size) (λ_ _=>rfl) λk q=>⟨eo d.size q.1,q.2⟩))))
  go_wp2
  go_end0;grind [d7]
 have t:=aB (dy m (d.trans (g.mono d.size)));exact⟨aJ,mg⟩
def Qo(w:aN):(Instr.makeMap 59 Ub).run Un w=.ok (.map (Ua (H_ w))) (w.alloc (.map #[] 0)):=rfl
def WR(w:aN)(s:ByteArray)(x:Option Uj)(n c:Nat)(P:Uf->World->Prop)(A:mL)(S:Nat->Uf->Uf->Uf->Nat->World->Prop)
 (z:Hid (Ue Un 13 #[.func (.func 14) #[] #[bF w.heap.size,bF (w.heap.size+1)]] (T6 (T6 w (Uy #[Ur s] 9)) (Uy #[bO] 48)) λe w'=>(e=bY (Uu #[I_ 0,I_ 0])/\A w')\/∃k l:Nat,k≠0/\e=bY (Uu #[I_ k,I_ l])/\P (Uu #[Ut Ub,I_ k,I_ l]) w'))
 (y:Hid (∀W,A W->∃t B C,T_ W (aL (w.heap.size+1) 0)=Ua (Uq t B C)/\w.heap.size+1<W.heap.size/\Ue Un 17 #[Uq t B C,Uq x n c] W λe w'=>∃(a:Nat) (o j b:Option Uj) (m p d f g i q:Nat),e=bY (Us #[I_ a,Uq o m f,Uq j p g,Uq b d i,I_ q])/\S a (Uq o m f) (Uq j p g) (Uq b d i) q w'))
 (D:Hid (∀(a:Nat) (o j b:Option Uj) (m p d f g i q:Nat) W,S a (Uq o m f) (Uq j p g) (Uq b d i) q W->Ue Un 18 #[bF (W.heap.size+1),Us #[I_ a,Uq o m f,Uq j p g,Uq b d i,I_ q]] (T6 (W.alloc (.map #[] 0)) (Uy #[I_ a,Uq o m f,Uq j p g,Uq b d i,I_ q,bO,.map (Ua W.heap.size)] 64)) λe w'=>e=fD/\P (Uu #[bF (W.heap.size+1),I_ 0,I_ 0]) w')):
 Ue Un 6 #[Ur s,Uq x n c] w λe w'=>∃v,e=bY v/\P v w':=by
 have J:=Ev;have I:=Qo;go_in
 go_wp2_with fail;apply z.mono
 rintro e O (⟨rfl,r⟩|⟨k,l,T,rfl,r⟩)
 .obtain⟨t,B,C,M,V,F⟩:=y _ r;have H:=aB F;clear r F z y;go_wp2_with fail;apply H.mono
  rintro e U ⟨a,o,j,b,m,p,d,f,g,i,q,rfl,E⟩;have u:=aB (D _ _ _ _ _ _ _ _ _ _ _ _ E);clear E D H M;go_wp2_with fail;refine rf u λQ G=>?_
  have K:=aB G;clear G;go_wp2
  go_ret3
  exact⟨_,aJ,K⟩
 have N:=aB r;have L:¬(k:Int)=0:=aD;clear r z y D;go_wp2
 go_ret3
 exact⟨_,aJ,N⟩
structure Good(ks:List aC):Prop where
 fl:Ty ks<=90000
 ok:∀f∈ks,gX ks 2001 f
 lit:∀f∈ks,∀k∈f.y_,jX k
 kl:∀f∈ks,Ty f.y_<=40000
 main:gE ks (dV ks [109,97,105,110])=Ua 0
 yz:lH (dW ks 2001)
noncomputable def eX(ks:List aC)(tape:List Int):Nat->Option dB:=iB (dW ks 2001) (jW ks 2001 tape)
def Good.Aw(h:Good y)(a:List Int):Rest (Ty a) (jW y 2001 a):=by
 refine⟨?_,by simp[jW],by simp[jW]⟩
 intro f c;simp [jW]at c;subst c;refine⟨?_,s_,s_⟩
 cases d:(dW y 2001)[dV y [109,97,105,110]]? with
 |none=>grind [xL]
 |some f=>exact h.yz f (G_)
def Good.first{b:List aC}(h:Good b)(a:List Int):∃r,fG (dW b 2001) oC (jW b 2001 a)=Ua r/\r.2<=9/\eX b a 0=Ua ⟨0,r.1,cB 0 r.2⟩:=by obtain⟨r,c,_⟩:=pG (nY h.ok) (uE h.ok h.main a);exact⟨r,c,(vS h.yz _ _ _ (h.Aw a) c).2,by simp[eX,iB,c]⟩
def S8(src:bP)(tape:List Int)(w:aN)(v:aW)(w':aN):Prop:=
 R_ w w'/\
 ((dR src=(0,0)/\∃ks fp G sb mb,eA src=.ok ks/\v=Uu #[bF sb,I_ 0,I_ 0]/\w.heap.size<=sb/\w.heap.size<=mb/\oD fp G w' (dW ks 2001)/\∃s,kZ fp G w' sb mb (.map #[] 0) (eX ks tape) s 1/\s.m_=0/\∀b,G b->Nw w b)\/
  ((dR src).1≠0/\v=Uu #[Ut Ub,I_ (dR src).1,I_ (dR src).2]))
def M8(f:ByteArray)(X:aW)(h:List Int)(w:aN)(hT:qH w)(hp:pA w)(hs:f.size<=281474976710656)(ht:KO w X h)(ad:Ty h<=17592186044416)
 (hg:∀ks,eA f.data.toList=.ok ks->dR f.data.toList=(0,0)->Good ks):
 Ue Un 6 #[Ur f,X] w λe w'=>∃v,e=bY v/\S8 f.data.toList h w v w':=by
 obtain⟨tx,tn,tc,rfl⟩:∃x n c,X=Uq x n c:=by grind [KO]
 obtain⟨i,A⟩:∃i,i=T6 (T6 w (Uy #[Ur f] 9)) (Uy #[bO] 48):=(by simp)
 have I:R_ w i:=by rw[A];exact((dz _ _).alloc (aD) _).alloc s_ _
 have ah:i.heap.size=w.heap.size+2:=by rw[A];simp
 have ak:i.heap[w.heap.size]?=Ua (Uy #[Ur f] 9):=by grind [tP]
 have V:i.heap[w.heap.size+1]?=Ua (Uy #[bO] 48):=by grind [pM]
 generalize al:dR f.data.toList=O at*
 refine(WR w f tx tn tc (λv w'=>S8 f.data.toList h w v w')
  (λW=>O=(0,0)/\∃N m o s ks,eA f.data.toList=.ok ks/\R_ w W/\T_ W (aL (w.heap.size+1) 0)=Ua (Uq m o s)/\w.heap.size+1<W.heap.size/\uj (rn N W.heap.size) W (Uq m o s) ks)
  (λa v1 v2 v3 q W=>O=(0,0)/\∃(ks:List aC) (F:iU) (G:bN) (r:dA × Nat),eA f.data.toList=.ok ks/\R_ w W/\(∀b,G b->b<W.heap.size/\Nw w b)/\oD F G W (dW ks 2001)/\a=0/\q=cB 0 r.2/\pC F G W (Us #[I_ ((0:Nat):Int),v1,v2,v3,I_ (cB 0 r.2)]) ⟨0,r.1,cB 0 r.2⟩/\eX ks h 0=Ua ⟨0,r.1,cB 0 r.2⟩)
  ?_ (λW hA=>?_) λa x1 Z x3 n1 n2 n3 c1 Y c3 q W hS=>?_)
 .rw[<-A]
  refine(XE 14 (Ua (aL w.heap.size 0)) (Ua (aL (w.heap.size+1) 0)) i
   (λW=>O=(0,0)/\∃m o s ks L,eA f.data.toList=.ok ks/\Below (i.heap.size+2) (T6 (T6 i (Uy #[I_ 0] 39)) (Uy #[I_ 0] 3)) L/\uj (rn (i.heap.size+2) L.heap.size) L (Uq m o s) ks/\W=Tz L (aL (w.heap.size+1) 0) (Uq m o s))
   (λk l=>O=(k,l)) (s_) λW hW=>?_).mono ?_
  .have j:R_ i W:=by rw[hW];exact((dz _ _).alloc (aD) _).alloc s_ _
   have ab:W.heap.size=i.heap.size+2:=by rw[hW];simp
   have hK:W.heap[i.heap.size]?=Ua (Uy #[I_ 0] 39):=by grind [tP]
   have hI:W.heap[i.heap.size+1]?=Ua (Uy #[I_ 0] 3):=by grind [pM]
   apply (B7 f w.heap.size (w.heap.size+1) W ((hT.below I).below j) hs ((by grind [aA,eg])) ku).mono
   grind [em,eg,uj]
  rintro e w' (⟨J,L,⟨U,m,o,s,ks,w0,M,p,h3,T⟩,P⟩|⟨k,l,C,J,hb,hE⟩)
  .refine ed ⟨J,U,i.heap.size+2,m,o,s,ks,M,?_⟩;have hb0 :=I.trans ((((dz i.heap.size i).alloc (aD) _).alloc s_ _).mono aD |>.trans (p.mono aD))
   have ag:w'.heap.size=w0.heap.size:=by rw[P,T];simp
   have ac:=p.size;simp only[World.size_alloc]at ac;have af:∀k,k≠w.heap.size+1->k≠i.heap.size->k≠i.heap.size+1->w'.heap[k]?=w0.heap[k]?:=(by grind [em])
   have S:w'.heap[w.heap.size+1]?=Ua (Uy #[Uq m o s] 48):=by
    rw[P,em _ _ _ _ (G_),em _ _ _ _ (G_),T]
    have:w0.heap[w.heap.size+1]?=Ua (Uy #[bO] 48):=by rw[p.block _ aD,eh _ _ _ kj,eh _ _ _ aD];exact V
    rw[aP this];rfl
   grind [aA,Below.setCell,uj.grow,rn]
  grind [Below.trans,Below.mono,S8]
 .obtain⟨U,N,m,o,s,ks,M,p,h3,T,P⟩:=hA;refine⟨m,o,s,h3,T,?_⟩;have g:=hg ks M U;obtain⟨r,aa,ae,ai⟩:=g.first h
  refine(J2 (lo:=N) (d:=2001) _ _ W P g.fl g.ok g.lit ((by grind [Good.kl])) g.main ?_ ad (hp.below p) g.yz aa aD).mono ?_
  .grind [Below.cell,KO]
  rintro e w' ⟨v',J,hb,F,G,hG,z,E⟩;obtain⟨f',t',o',rfl,⟨x1,n1,c1,rfl⟩,⟨Z,n2,Y,rfl⟩,⟨x3,n3,c3,rfl⟩⟩:=E.form;grind [Below.trans,Below.mono,Nw.of,Nw,yr]
 obtain⟨U,ks,F,G,r,M,p,hG,z,rfl,rfl,E,u⟩:=hS;obtain⟨t,D⟩:∃t,t=T6 (W.alloc (.map #[] 0)) (Uy #[I_ ((0:Nat):Int),Uq x1 n1 c1,Uq Z n2 Y,Uq x3 n3 c3,I_ (cB 0 r.2),bO,.map (Ua W.heap.size)] 64):=(by simp)
 have j:R_ W t:=by rw[D];exact((dz _ _).alloc (aD) _).alloc s_ _
 have ab:t.heap.size=W.heap.size+2:=by rw[D];simp
 have hM:t.heap[W.heap.size]?=Ua (.map #[] 0):=by grind [tP]
 have S:t.heap[W.heap.size+1]?=Ua (Uy #[I_ ((0:Nat):Int),Uq x1 n1 c1,Uq Z n2 Y,Uq x3 n3 c3,I_ (cB 0 r.2),bO,.map (Ua W.heap.size)] 64):=by grind [pM]
 rw[<-D];have y:=E.h_ (λk C=>j.block k (hG k C).1) MW
 have H:kZ F G t (W.heap.size+1) W.heap.size (.map #[] 0) (eX ks h) ⟨0,r.1,cB 0 r.2⟩ 0:=by
  refine⟨⟨_,_,_,bO,[],S,y,World.ownsRow_nil _ _ _ _,aJ,s_,λk C e=>?_,λe=>?_⟩,u,λk C=>?_,hM,aD⟩
  .simp[Value.ownBlock]at e
  .simp[Value.ownBlock]at e
  grind
 apply (NM H _ ⟨0,r.1,cB 0 r.2⟩ y u (s_) aD s_).mono
 rintro e w' ⟨J,Q,aj⟩;have B:=z.h_ (λk C=>j.block k (hG k C).1) MW
 refine⟨J,?_,ed ⟨G_,ks,F,G,W.heap.size+1,W.heap.size,M,rfl,by have:=p.size;exact aD,p.size,?_,⟨0,r.1,cB 0 r.2⟩,G_,rfl,G_⟩⟩
 .have hbb :=p.trans (j.mono p.size);have K:qR (W.heap.size+1) t=Ub:=by rw[qY S rfl];rfl
  exact⟨Q.os.trans hbb.os,Q.tape.trans hbb.tape,Q.output.trans hbb.output,eo hbb.size Q.size,(by grind [FS.i_,eg])⟩
 refine B.h_ (λk C=>?_) s_
 have K:qR (W.heap.size+1) t=Ub:=by rw[qY S rfl];rfl
 grind [FS.i_]
theorem Pu:prog.globalNamed "internal/strconv.uint64pow10"=Ua 6:=k_
def pA.low(h:pA R)(b:∀k,k<11->q.heap[k]?=R.heap[k]?):pA q:=(by grind [pA.h_,Pu])
theorem pC.sv{v:aW}(h:pC U F R v V):∃s:SV,v=s.val/\s.t=V.m_/\s.q=V.stop:=by obtain⟨f,t,o,rfl,⟨l,k,e,rfl⟩,⟨j,m,g,rfl⟩,⟨c,d,i,rfl⟩⟩:=h.form;exact⟨⟨V.m_,l,j,c,k,m,d,e,g,i,V.stop⟩,aJ,aJ,aJ⟩
section
variable {fp:iU} {F G:bN} {w w':aN} {sb mb n n':Nat} {mo:Obj} {st:Nat->Option dB} {s:dB}
def kZ.same(h:kZ fp F w sb mb mo st s n)(o:H_ w<=H_ w')(f:∀k,F k\/k=sb\/k=mb\/qR sb w=Ua k->w'.heap[k]?=w.heap[k]?):kZ fp F w' sb mb mo st s n:=by
 obtain⟨u,e,q,d,p,j,a,v,g,m,t,l⟩:=h.i_;have hF :=λb c=>f b (ed c)
 have hr :=qY j aJ;refine⟨⟨u,e,q,d,p,G_,a.h_ hF s_,(by grind [bC]),g,λi r=>(m i r).h_ hF s_,t,l⟩,h.now,(by grind [kZ.fix]),by grind [kZ.map],h.map.2⟩
def FS.other{b:Nat}(h:FS sb w w')(g:w.heap.size<=b)(e:sb<w.heap.size){c:aN}(d:c.heap.size=w'.heap.size)(a:c.os=w'.os/\c.tape=w'.tape/\c.output=w'.output)(f:∀k,k≠b->c.heap[k]?=w'.heap[k]?):FS sb w c:=
 ⟨a.1.trans h.os,a.2.1.trans h.tape,a.2.2.trans h.output,by rw[d];exact h.size,(by grind [FS.i_]),(by grind [FS.row,qR])⟩
end
structure rE(fp:iU)(F:bN)(w:aN)(sb mb:Nat)(mo:Obj)(ks:List aC)(tape:List Int)(s:dB)(n:Nat)(L:List Nat):Prop where
 um:kZ fp F w sb mb mo (eX ks tape) s n
 si:oD fp F w (dW ks 2001)
 pow:pA w
 low:11<=sb/\11<=mb
 hn:s.m_/20<n
 loc:∀b∈L,11<=b/\b<w.heap.size/\¬F b/\qR sb w≠Ua b/\b≠sb/\b≠mb
section
variable {fp:iU} {F G:bN} {w w':aN} {sb mb n n':Nat} {mo:Obj} {ks:List aC} {tape:List Int} {s:dB} {L:List Nat}
theorem rE.row(h:rE fp F w sb mb mo ks tape s n L){k:Nat}(a:qR sb w=Ua k):sb<k/\k<w.heap.size/\¬F k/\k≠mb:=h.um.row k a
def rE.h_(h:rE fp F w sb mb mo ks tape s n L)(l:List Nat)(e:∀b∈l,b∈L)(j:w.heap.size<=w'.heap.size)(c:∀k,k<w.heap.size->k∉l->w'.heap[k]?=w.heap[k]?):rE fp F w' sb mb mo ks tape s n L:=by
 have g:=h.um.lt;have Bz :=c sb g λa=>(h.loc sb (e sb a)).2.2.2.2.1 aJ
 have hF :=λb f=>c b (h.um.fix b f).1 λa=>(h.loc b (e b a)).2.2.1 f
 refine⟨h.um.same j λk d=>?_,h.si.h_ hF s_,h.pow.low λk d=>c k (by have:=h.low;exact aD) λa=>by have:=(h.loc k (e k a)).1;exact aD,h.low,h.hn,λb f=>?_⟩
 .rcases d with i|rfl|rfl|i
  .grind
  .exact Bz
  .exact c _ (aH h.um.map.1) λa=>(h.loc _ (e _ a)).2.2.2.2.2 aJ
  exact c k (h.row i).2.1 λa=>(h.loc k (e k a)).2.2.2.1 i
 obtain⟨o,p,r,m,q⟩:=h.loc b f;grind [qR]
def rE.alloc(h:rE fp F w sb mb mo ks tape s n L)(o:Obj):rE fp F (w.alloc o) sb mb mo ks tape s n (w.heap.size::L):=by
 have a:rE fp F (w.alloc o) sb mb mo ks tape s n L:=h.h_ [] (s_) s_ qo
 refine⟨a.um,a.si,a.pow,a.low,a.hn,λb c=>?_⟩
 rcases ff.1 c with rfl|c
 .have g:=h.um.lt;have f:=h.low;refine⟨aD,s_,λd=>by have:=(h.um.fix _ d).1;exact aD,λe=>?_,aD,by have:=aH h.um.map.1;exact aD⟩
  grind [eh,rE.row,qR]
 exact a.loc b c
def rE.drop(h:rE fp F w sb mb mo ks tape s n L){a:List Nat}(d:∀b∈a,b∈L):rE fp F w sb mb mo ks tape s n a:=⟨h.um,h.si,h.pow,h.low,h.hn,λb c=>h.loc b (d b c)⟩
def rE.fs(h:rE fp F w sb mb mo ks tape s n L)(c:FS sb w w')(d:kZ fp G w' sb mb mo (eX ks tape) s n')(f:ss F G (H_ w))(g:n<=n'):rE fp G w' sb mb mo ks tape s n' L:=by
 have hF :=λb a=>c.i_ b (h.um.fix b a).1 (h.um.fix b a).2.1 λe=>(h.row e).2.2.1 a
 refine⟨d,h.si.h_ hF f.sub,h.pow.low λk j=>c.i_ k (by have:=h.low;have:=h.um.lt;exact aD) (by have:=h.low;exact aD) λe=>by have:=(h.row e).1;have:=h.low;exact aD,h.low,ej h.hn g,λb a=>?_⟩
 obtain⟨l,m,o,i,p⟩:=h.loc b a;grind [Nat.lt_of_lt_of_le,FS.size,ss.new,FS.row]
theorem rE.i_(h:rE fp F w sb mb mo ks tape s n L)(c:FS sb w w'){b:Nat}(e:b∈L):w'.heap[b]?=w.heap[b]?:=by obtain⟨g,d,i,a,f,j⟩:=h.loc b e;exact c.i_ b d f a
def rE.Ml(h:rE fp F w sb mb mo ks tape s n L)(d:FS sb w w')(g:ss F G (H_ w)){v:aW}{c:dB}(f:pC fp F w v c):pC fp G w' v c:=
 f.h_ (λb a=>d.i_ b (h.um.fix b a).1 (h.um.fix b a).2.1 λe=>(h.row e).2.2.1 a) g.sub
def Good.Bl(b:Good ks){t:Nat}{a:dB}(h:eX ks tape t=Ua a):KP (gE ks) a/\a.m_=t/\Rest (Ty tape) a.m/\a.stop<=9:=by obtain⟨e,c⟩:=zS (nY b.ok) (uE b.ok b.main tape) t a h;obtain⟨f,d⟩:=NL b.yz (b.Aw tape) t a h;grind
def rE.count(e:Good ks)(h:rE fp F w sb mb mo ks tape s n L):n<=26:=by
 obtain⟨_,_,_,_,i,_,_,_,g,c,_⟩:=h.um.i_;rcases jn n with d|d
 .exact aD
 obtain⟨_,j,a,_⟩:=c (n-1) aD;obtain⟨b,f,_⟩:=e.Bl a;have:=b.m_;exact aD
def Good.next(b:Good ks){a:dB}{t:Nat}(h:eX ks tape t=Ua a)(f:a.stop=0):∃r,fG (dW ks 2001) oC a.m=Ua r/\r.2<=9/\eX ks tape (a.m_+1)=Ua ⟨a.m_+1,r.1,cB (a.m_+1) r.2⟩:=by
 obtain⟨d,g,e,i⟩:=b.Bl h;obtain⟨r,c,_⟩:=pG (nY b.ok) (d.ok f).1;refine⟨r,c,(vS b.yz _ _ _ e c).2,?_⟩;unfold eX at h ⊢
 grind [iB]
def rJ:SV:=⟨0,Ub,Ub,Ub,0,0,0,0,0,0,0⟩
def CA(fp:iU)(F:bN)(w:aN)(sb mb:Nat)(mo:Obj)(ks:List aC)(tape:List Int)(s:dB)(n:Nat)(L:List Nat)(σ:dB)(v':SV)(ok:Bool)(w':aN):Prop:=
 ∃G n',n<=n'/\ss F G w.heap.size/\FS sb w w'/\rE fp G w' sb mb mo ks tape s n' L/\(ok=true->σ.stop=0/\∃σ',eX ks tape (σ.m_+1)=Ua σ'/\σ'.m_=σ.m_+1/\pC fp G w' v'.val σ'/\σ'.m_/20<n')/\(ok=Uc->σ.stop≠0)
def p8(C:Good ks)(h:rE fp F w sb mb mo ks tape s n L)(ag:Ty tape<=17592186044416)(v:SV)(a:dB)(hv:pC fp F w v.val a)(J:eX ks tape a.m_=Ua a)(Y:a.m_/20<n):
 Ue Un 116 #[bF sb,v.val] w λe w'=>∃v' ok,e=bY (Uu #[SV.val v',Uw ok])/\CA fp F w sb mb mo ks tape s n L a v' ok w':=by
 obtain⟨o,j⟩:∃o,o=T6 (T6 w (cD v.cells 57)) (cD #[I_ 0,bO,bO,bO,I_ 0] 57):=(by simp)
 have i:R_ w o:=by rw[j];exact((dz _ _).alloc (aD) _).alloc s_ _
 have aj:o.heap.size=w.heap.size+2:=by rw[j];simp
 have ae:o.heap[w.heap.size+1]?=Ua (cD #[I_ 0,bO,bO,bO,I_ 0] 57):=by grind [pM]
 have hFw :=λb p=>(h.um.fix b p).1
 have f:=h.um.lt;have aa:=aH h.um.map.1;obtain⟨E,ak,u,ah⟩:=C.Bl J;have Z:=h.count C;by_cases y:a.stop=0
 .obtain⟨r,V,ad,H⟩:=C.next J y
  refine IK w sb v (CA fp F w sb mb mo ks tape s n L a)
   (λd ok W=>ok=true/\R_ o W/\∃q,ss F q o.heap.size/\(∀b,q b->b<W.heap.size)/\pC fp q W d.val ⟨a.m_+1,r.1,cB (a.m_+1) r.2⟩) ?_ (λd W z=>?_) (λd W z=>?_)
  .rw[<-j];refine(C0 (nY C.ok) C.yz (hv.h_ (ku) s_) (G_) (h.si.h_ (ku) MW) (h.pow.below i) y (E.ok y).1 (E.ok y).2 u.yz u.out (by have:=u.tape;exact aD) V aD aD).mono ?_
   grind [pC.sv]
  .cases z.1
  obtain⟨_,p,q,M,hG,hS⟩:=z;have ab:=p.size;obtain⟨A,G⟩:∃A,A=T6 W (cD d.cells 57):=(by simp)
  have D:R_ W A:=by grind [ep,dz]
  have al:A.heap.size=W.heap.size+1:=by rw[G];simp
  have ai:A.heap[W.heap.size]?=Ua (cD d.cells 57):=by grind [aZ]
  have c :=i.trans ((p.mono i.size).trans (D.mono aD));rw[<-G]
  have hses :=h.um.grow c M.sub λk l=>by
   rcases M.new k l with x|x
   .grind
   grind
  refine(NM hses d.val ⟨a.m_+1,r.1,cB (a.m_+1) r.2⟩ (hS.h_ (ku) s_) H (G_) aD G_).mono ?_
  rintro e w' ⟨X,K,N⟩;have hrow :=QD (c.block _ f);have ac:∀k,w.heap.size<=k->k<A.heap.size->w'.heap[k]?=A.heap[k]?:=λk x B=>K.i_ k B aD λe=>by rw[hrow]at e;have:=(h.row e).2.1;exact aD
  refine⟨X,G_,ku,aD,?_⟩
  obtain⟨S,P,U,Q⟩:=nZ w' (w.heap.size+1) d;have hfw :=(FS.p_ c f).trans K;have hf3 :=hfw.other (b:=w.heap.size+1) aD f S ⟨P,U,Q⟩ λk l=>gZ _ _ _ k l
  have af:¬q (w.heap.size+1):=(by grind [ss.new])
  have I:∀k,q k\/k=sb\/k=mb\/qR sb w'=Ua k->(jR w' (w.heap.size+1) d).heap[k]?=w'.heap[k]?:=λk l=>gZ _ _ _ k (by
   rintro rfl;rcases l with x|x|x|x
   .grind
   .exact aD
   .exact aD
   rcases K.row _ x with B|B
   .rw[hrow]at B;have:=(h.row B).2.1;exact aD
   exact aD)
  have O:=N.same aD I;have t:ss F q w.heap.size:=⟨M.sub,λk l=>(M.new k l).imp_right aD⟩
  refine⟨q,_,?_,t,hf3,h.fs hf3 O t ?_,λ_=>⟨y,⟨a.m_+1,r.1,cB (a.m_+1) r.2⟩,H,aJ,?_,?_⟩,s_⟩
  .split<;>exact aD
  .split<;>exact aD
  .refine hS.h_ (λb m=>?_) s_
   have T:=hG b m;have hbsb :=(hses.fix b m).2.1;rw[I b (ed m),K.i_ b aD hbsb λe=>(hses.row b e).2.2.1 m,D.block b T]
  simp only;split<;>exact aD
 refine IK w sb v (CA fp F w sb mb mo ks tape s n L a) (λd ok W=>ok=Uc/\d=rJ/\R_ o W) ?_ (λd W z=>?_) (λd W z=>?_)
 .rw[<-j];obtain⟨fv,tv,xo,X,f1,f2,f3⟩:=hv.form;rw[X];refine(Ff o a.m_ a.stop fv tv xo y f1 f2 f3).mono ?_;rintro e w' ⟨rfl,p⟩;exact⟨rJ,Uc,aJ,aJ,aJ,p⟩
 .obtain⟨_,rfl,p⟩:=z;refine⟨ku,?_⟩
  obtain⟨S,P,U,Q⟩:=nZ W (w.heap.size+1) rJ
  have c:R_ w (jR W (w.heap.size+1) rJ):=by have h0 :=i.trans (p.mono i.size);exact⟨P.trans h0.os,U.trans h0.tape,Q.trans h0.output,by rw[S];exact h0.size,λk l=>by rw[gZ _ _ _ k aD];exact h0.block k l⟩
  have g:=c.alloc c.size (cD rJ.cells 57);exact⟨F,n,aD,ss.refl _ _,FS.p_ g f,h.fs (FS.p_ g f) (h.um.grow g (s_) G_) (ss.refl _ _) (aD),s_,λ_=>y⟩
 cases z.1
end
def td.Be(w:aN)(b:Nat)(s:SV):td [b] w (jR w b s):=by obtain⟨e,a,d,c⟩:=nZ w b s;exact⟨a,d,c,aD,(by grind [gZ])⟩
def FS.but{e:aN}(h:FS n R q)(d:td x q e)(j:∀b∈x,R.heap.size<=b)(f:n<R.heap.size):FS n R e:=by
 have g:=h.size;have i:e.heap[n]?=q.heap[n]?:=(by grind [td.i_])
 exact⟨d.os.trans h.os,d.tape.trans h.tape,d.output.trans h.output,eo h.size d.size,(by grind [td.i_,FS.i_]),(by grind [FS.row,qR])⟩
theorem pC.but{i:List aC}{f:dB}{L':List Nat}{v:aW}(o:pC U F R v f)(h:rE U F R S W X i a V n x)(j:td L' R q)(l:∀b∈L',b∈x):pC U F q v f:=
 o.h_ (λb e=>j.i_ b (h.um.fix b e).1 λm=>(h.loc b (l b m)).2.2.1 e) s_
def rE.but{i:List aC}{L':List Nat}(h:rE U F R S W X i a V n x)(j:td L' R q)(k:∀b∈L',b∈x):rE U F q S W X i a V n x:=h.h_ L' k j.size j.i_
def kZ.cells{d:iU}{w:aN}{b g:Nat}{s:dB}(h:kZ d F w b g X T s n):∃a:SV,pC d F w a.val s/\T_ w (aL b 0)=Ua (I_ a.t)/\T_ w (aL b 1)=Ua (Uq a.x1 a.n1 a.c1)/\T_ w (aL b 2)=Ua (Uq a.x2 a.n2 a.c2)/\T_ w (aL b 3)=Ua (Uq a.x3 a.n3 a.c3)/\T_ w (aL b 4)=Ua (I_ a.q)/\∃c,w.heap[b]?=Ua (Uy c 64)/\5<=c.size:=by obtain⟨u,q,t,p,r,o,j,_⟩:=h.i_;obtain⟨f,m,i,l⟩:=j.sv;grind [SV.val,aA]
def kZ.go{s:dB}{v:SV}(h:kZ U F R S W X T s n)(u:pC U F R v.val V)(o:T V.m_=Ua V):kZ U F (jR R S v) S W X T V n/\FS S R (jR R S v)/\qR S (jR R S v)=qR S R:=by
 obtain⟨Q,N,P,j,E,r,M,G,A,C,J,B⟩:=h.i_;obtain⟨L,e,K,D⟩:=u.sv;obtain rfl:=SV.val_inj e;obtain⟨O,y,H,z⟩:=nZ R S v
 have d:(jR R S v).heap[S]?=Ua (cD #[I_ v.t,P_ v.x1 v.n1 v.c1,P_ v.x2 v.n2 v.c2,P_ v.x3 v.n3 v.c3,I_ v.q,j,.map (Ua W)] 64):=by have x:=DD (s:=v) r;exact x
 have t:∀b,F b->(jR R S v).heap[b]?=R.heap[b]?:=λb d=>gZ _ _ _ _ (h.fix b d).2.1
 have hr1 :=qY r aJ;have hr2 :=qY d aJ;have c:∀k,j.ownBlock=Ua k->(jR R S v).heap[k]?=R.heap[k]?:=λk q=>gZ _ _ _ _ (by have:=(h.row k G_).1;exact aD)
 refine⟨⟨⟨_,_,_,j,E,by rw[<-K,<-D];exact d,?_,bC G c,A,λi I=>(C i I).h_ t s_,J,B⟩,o,λk q=>?_,by grind [gZ,kZ.map],h.map.2⟩,⟨y,H,z,aD,(by grind [gZ]),λk q=>ed ?_⟩,?_⟩
 .have:=u.h_ t MW;grind [SV.val]
 .grind [kZ.fix]
 .grind
 grind
def rE.go{d:dB}{v:SV}(h:rE U F R S W X y a V n x)(q:pC U F R v.val d)(g:eX y a d.m_=Ua d)(p:d.m_/20<n):rE U F (jR R S v) S W X y a d n x/\FS S R (jR R S v):=by
 obtain⟨o,m,t⟩:=h.um.go q g;obtain⟨r,_⟩:=nZ R S v;have i:=h.low;refine⟨⟨o,h.si.h_ ((by grind [gZ,kZ.fix])) s_,h.pow.low (by grind [gZ]),h.low,p,λb l=>?_⟩,m⟩
 have:=h.loc b l;grind
structure tr where
 fp:Nat->Uf
 sb:Nat
 mb:Nat
 mo:Obj
 ks:List aC
 tape:List Int
 s:dB
 p:dB->Bool
 bb:Nat
 fv:Uf
 w:aN
 L:List Nat
 le:Nat->Bool->Prop
def tr.bf(C:tr):Nat:=C.w.heap.size
def tr.bt(C:tr):Nat:=C.w.heap.size+1
def tr.bo(C:tr):Nat:=C.w.heap.size+1+1
def tr.all(C:tr):List Nat:=(C.w.heap.size+3+1)::(C.w.heap.size+3)::C.bo::C.bt::C.bf::C.L
noncomputable def tr.st(C:tr):Nat->Option dB:=eX C.ks C.tape
structure vu(C:tr)(L:List Nat)(F:bN)(n k:Nat)(fd:Bool)(W:aN):Prop where
 live:rE C.fp F W C.sb C.mb C.mo C.ks C.tape C.s n L
 mem:∀b∈C.all,b∈L
 cf:W.heap[C.bf]?=Ua (Uy #[C.fv] 143)
 cb:W.heap[C.bb]?=Ua (Uy #[bF C.sb] 30)/\C.bb∈C.L
 ct:∃s2 τ,W.heap[C.bt]?=Ua (Uy (SV.cells s2) 57)/\pC C.fp F W s2.val τ/\C.st k=Ua τ/\k/20<n
 co:W.heap[C.bo]?=Ua (Uy #[Uw fd] 4)
 le:C.le k fd
 fr:FS C.sb C.w W/\C.sb<C.w.heap.size/\∀b∈C.L,b<C.w.heap.size
section
variable {C:tr} {L L':List Nat} {F G:bN} {n n' k:Nat} {fd:Bool} {W W':aN}
def vu.lt(h:vu C L F n k fd W):C.w.heap.size+3+1<W.heap.size:=(h.live.loc _ (h.mem _ (by simp[tr.all]))).2.1
def vu.but(h:vu C L F n k fd W)(c:td L' W W')(p:∀b∈L',b∈L/\C.bo<b):vu C L F n k fd W':=by
 have a:=h.fr.2.1;have f:=h.lt;have m:∀b,b<=C.bo->W'.heap[b]?=W.heap[b]?:=(by grind [td.i_,tr.bo])
 obtain⟨g,j,o,i,l,d⟩:=h.ct;have e:=h.fr.2.2 _ h.cb.2;refine⟨h.live.but c G_,h.mem,by grind [tr.bo,tr.bf,vu.cf],(by grind [tr.bo,vu.cb]),⟨g,j,by grind [tr.bo,tr.bt],i.but h.live c G_,l,d⟩,by grind [vu.co],h.le,h.fr.1.but c ((by grind [tr.bo])) a,a,h.fr.2.2⟩
def vu.more(h:vu C L F n k fd W)(a:rE C.fp F W C.sb C.mb C.mo C.ks C.tape C.s n L')(c:∀b∈C.all,b∈L'):vu C L' F n k fd W:=⟨a,c,h.cf,h.cb,h.ct,h.co,h.le,h.fr⟩
def vu.alloc(h:vu C L F n k fd W)(o:Obj):vu C (W.heap.size::L) F n k fd (W.alloc o):=
 (h.but (L':=[]) (td.alloc W o []) s_).more (h.live.alloc o) (by grind [vu.mem])
def vu.fs(h:vu C L F n k fd W)(a:FS C.sb W W')(c:rE C.fp G W' C.sb C.mb C.mo C.ks C.tape C.s n' L)(j:ss F G (H_ W))(p:n<=n'):vu C L G n' k fd W':=by
 have m:∀b∈L,W'.heap[b]?=W.heap[b]?:=λb i=>h.live.i_ a i
 obtain⟨d,f,o,e,g,l⟩:=h.ct;exact⟨c,h.mem,by grind [vu.mem,tr.all,vu.cf],(by grind [vu.mem,tr.all,vu.cb]),⟨d,f,by grind [vu.mem,tr.all],h.live.Ml a j e,g,aD⟩,by grind [vu.mem,tr.all,vu.co],h.le,h.fr.1.trans a,h.fr.2⟩
end
section
variable {fp:iU} {F:bN} {w:aN} {sb mb n:Nat} {mo:Obj} {ks:List aC} {tape:List Int} {s:dB} {L:List Nat}
def Dq(fp:iU)(sb mb:Nat)(mo:Obj)(ks:List aC)(tape:List Int)(L:List Nat)(T:dB->Bool->Prop)(w:aN)(b:Bool)(w':aN):Prop:=∃G n' τ,rE fp G w' sb mb mo ks tape τ n' L/\T τ b/\FS sb w w'
end
def SK(b_:Nat)(w:aN)(v:aW)(l:cY):Prop:=∃x c,v=Uq x (Ty l) c/\∀i (h:i<Ty l),∃g,x=Ua (aL g 0)/\T_ w (aL g i)=Ua (Ur (bs l[i]))/\b_<=g/\g<w.heap.size
def SK.h_{a:Nat}{w w':aN}{v:aW}{l:cY}(h:SK a w v l)(b:∀k,a<=k->k<w.heap.size->w'.heap[k]?=w.heap[k]?)(c:w.heap.size<=w'.heap.size):SK a w' v l:=by grind [World.cell?_of_block,SK]
def D6(w:aN)(s:SV)(h:s.n1=0):Ue Un 169 #[s.val] w λe w'=>e=bY (Ut Ub)/\R_ w w':=by
 obtain⟨t,f,b,g,c,i,j,k,a,d,q⟩:=s;subst h;unfold SV.val;go_in
 go_wp2
 go_ret;exact⟨aJ,lr⟩
def Z8(w:aN)(s:SV)(h:s.n1=0):Ue Un 113 #[s.val] w λe w'=>e=bY (bO)/\R_ w w':=by
 have a:=aB λW=>D6 W s h
 have f:=aB λW=>AnyF.slices_SortFunc_none (P:=Un) (ρ:=sortL_ren) { sortL with } Ub 0 (.func (.func 172) #[] #[]) W
 obtain⟨t,p,n,g,o,r,i,j,l,m,q⟩:=s;subst h;unfold SV.val at a;unfold SV.val;go_in
 go_wp2_with fail;refine rf (a _) λc b=>?_
 have d:=aB b;clear b a;go_wp2
 go_loopg [3,4] 1 (λk v s wr=>v=bO/\s=Ut Ub/\wr=c)
 case atStart=>simp
 case round=>
  obtain⟨rfl,rfl,rfl⟩:=hrel;go_wp2_with fail;refine oN (f _) ?_;go_wp2
  go_ret;exact⟨aJ,((dz _ _).alloc (aD) _).trans (d.mono s_)⟩
def B9(w:aN)(s:SV)(h:s.n1=0):Ue Un 112 #[s.val] w λe w'=>e=bY (bO)/\R_ w w':=by
 unfold SV.val;go_in
 go_wp2
 go_loopg [3,9] 1 (λk v i wr=>v=bO/\i=I_ 0/\R_ w wr)
 case atStart=>grind [ep,dz]
 case round=>
  obtain⟨rfl,rfl,b⟩:=hrel;have a:=aB b;go_wp2
  go_ret;exact⟨aJ,a⟩
def Rr(w:aN)(b:Nat)(s:SV)(P:SV->World->Prop)(J:b<H_ w)
 (x:dP w b 0 (I_ s.t)) (p:dP w b 1 (P_ s.x1 s.n1 s.c1)) (G:dP w b 2 (P_ s.x2 s.n2 s.c2)) (t:dP w b 3 (P_ s.x3 s.n3 s.c3)) (K:dP w b 4 (I_ s.q))
 (g:Hid (Ue Un 62 #[s.val] (eH w #[I_ 0,bO,bO,bO,I_ 0] 73) λe w'=>∃m:SV,e=bY m.val/\(∃c,w'.heap[H_ w]?=Ua (cD c 73)/\c.size=5)/\P m (jR w' (H_ w) m))):
 Ue Un 21 #[bF b] w λe w'=>∃m:SV,e=bY m.val/\P m w':=by
 unfold SV.val at g;go_in
 go_wp2_with fail;apply g.mono
 rintro e l ⟨m,rfl,⟨c,a,Q⟩,n⟩;have y:=aA (i:=0) a (fh aD);have D:=aA (i:=1) a (fh aD);have r:=aA (i:=2) a (fh aD);have M:=aA (i:=3) a (fh aD);have C:=aA (i:=4) a (fh aD);have q:=aF (i:=0) a;have u:=aF (i:=1) a;have F:=aF (i:=2) a;have I:=aF (i:=3) a;have H:=aF (i:=4) a;have N:=aH a;have o:=mO (W:=l) (s:=m) a aD rfl;have j:=aB o;have k:=aB n;unfold jR at j k;clear o n a g x p G t K;go_wp2_with fail;have d:=j.out;have f:=k.out;clear j k y D r M C q u F I H;generalize (Tz (Tz (Tz (Tz l (aL (H_ w) 0) (I_ m.t)) (aL (H_ w) 1) (P_ m.x1 m.n1 m.c1)) (aL (H_ w) 2) (P_ m.x2 m.n2 m.c2)) (aL (H_ w) 3) (P_ m.x3 m.n3 m.c3)).setCell (aL (H_ w) 4) (I_ m.q)=O at d f ⊢
 obtain⟨L,z,B,E,A⟩:=d;exact bodyPost_ret (v:=Us #[I_ m.t,P_ m.x1 m.n1 m.c1,P_ m.x2 m.n2 m.c2,P_ m.x3 m.n3 m.c3,I_ m.q]) (by simp[results,results21,go_sem,L,z,B,E,A]) rfl ⟨m,rfl,f⟩
theorem AH(s:SV)(h:R_ R q)(f:H_ R<=n):R_ R (jR q n s):=by obtain⟨d,a,e,c⟩:=nZ q n s;exact⟨a.trans h.os,e.trans h.tape,c.trans h.output,by rw[d];exact h.size,(by grind [gZ,eg])⟩
theorem W5{l:bP}(b:eA l=.ok y)(g:dR l=(0,0)):Good y:=by obtain⟨h,e⟩:=QF b g;have a:=LW b;have i:=(mX b).len;exact⟨aD,h,a,λf d=>by have:=((mX b).mem d).y_.len;exact aD,e,A8 a⟩
def PU:∀(d t:Nat) (z:dB),eX y a (t+1+d)=Ua z->∃x,eX y a t=Ua x/\x.stop=0
 |0,t,z,h=>by
  unfold eX at h ⊢
  grind [iB]
 |d+1,t,z,h=>by
  obtain⟨x,c,_⟩:=PU 0 (t+1+d) z (by exact h)
  exact PU d t x c
def Hv{t:Nat}(h:eX y a n=Ua V)(c:t<n):∃x,eX y a t=Ua x/\x.stop=0:=PU (n-t-1) t V G_
def Below.fs{c:aN}{b:Nat}(h:R_ R q)(a:FS b q c)(d:H_ R<=b)(f:∀k,qR b q=Ua k->b<k):R_ R c:=
 ⟨a.os.trans h.os,a.tape.trans h.tape,a.output.trans h.output,eo h.size a.size,λk e=>by have:=h.size;grind [FS.i_,eg]⟩
open Go.RowKit Go.Sort
theorem Z7(x y a b:ByteArray)(w:aN):
 Ue Un 172 #[Us #[Q_ x,Q_ a],Us #[Q_ y,Q_ b]] w λe w'=>e=bY (I_ (Lib.compareBytes (dY x) (dY y)))/\∃q c,w'=grow (w.drewN q) c:=by
 go_in
 go_wp2_with fail;refine oN (strings_Compare x y _) ?_;go_wp2
 go_ret;refine⟨aJ,0,#[Obj.cells #[Q_ x,Q_ a] 135,Obj.cells #[Q_ y,Q_ b] 135],?_⟩;rfl
def X9:∀a:bP,Lib.compareBytes a a=0
 |[]=>rfl
 |a::l=>by rw[Lib.compareBytes,ea (s_),ea (s_)];exact X9 l
theorem uP:∀a b:bP,Lib.compareBytes b a= -Lib.compareBytes a b
 |[],[]=>rfl
 |[],_::_=>rfl
 |_::_,[]=>rfl
 |a::l,b::m=>by
  rw[Lib.compareBytes,Lib.compareBytes];by_cases d:a<b
  .grind
  by_cases c:b<a
  .grind
  rw[ea d,ea c,ea d,ea c];exact uP l m
theorem YT:∀a b:bP,Lib.compareBytes a b=0->a=b
 |[],[],_=>rfl
 |[],_::_,h=>by simp[Lib.compareBytes]at h
 |_::_,[],h=>by simp[Lib.compareBytes]at h
 |a::l,b::m,h=>by
  rw[Lib.compareBytes]at h;by_cases d:a<b
  .grind
  by_cases c:b<a
  .grind
  rw[ea d,ea c]at h;obtain rfl:a=b:=(by grind)
  rw[YT l m h]
theorem CF:∀a b c:bP,Lib.compareBytes a b<0->Lib.compareBytes b c<0->Lib.compareBytes a c<0
 |[],[],_,h,_=>by omega
 |_::_,[],_,h,_=>by simp[Lib.compareBytes]at h
 |_,_::_,[],_,h=>by simp[Lib.compareBytes]at h
 |[],_::_,_::_,_,_=>by simp[Lib.compareBytes]
 |a::l,b::m,c::n,h,k=>by
  rw[Lib.compareBytes]at h k ⊢
  by_cases f:a<b
  .grind
  rw[ea f]at h;by_cases d:b<a
  .grind
  obtain rfl:a=b:=(by grind)
  rw[ea d]at h;by_cases g:a<c
  .grind
  rw[ea g]at k ⊢
  by_cases e:c<a
  .grind
  rw[ea e]at k ⊢
  exact CF l m n h k
def Kd:SWO (λx y:bP=>decide (Lib.compareBytes x y<0)):=by
 refine⟨λx=>by simp[X9],λx y z h k=>?_,λx y z h k=>?_⟩
 .grind [CF]
 grind [YT,uP,CF]
def J0(x y:bP)(h:decide (Lib.compareBytes x y<0)=Uc)(k:decide (Lib.compareBytes y x<0)=Uc):x=y:=by grind [uP,YT]
