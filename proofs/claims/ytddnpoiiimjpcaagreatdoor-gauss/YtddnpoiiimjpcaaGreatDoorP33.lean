/- Contracts of the program: the store of states: where a key stands. -/
import Derived.Test.YtddnpoiiimjpcaaGreatDoorP32
set_option linter.defProp false
set_option maxRecDepth 100000
set_option maxHeartbeats 4000000
namespace Go.Proofs.YtddnpoiiimjpcaaGreatDoor
open Hs
open _root_.Go.Proofs.Tryz
open Go.RowKit
def qM(x y:Int):Int:=if x<y then -1 else if x>y then 1 else 0
def P3{x y:Int}(h:¬x=y):¬qM x y=0:=by
 unfold qM;split
 ·omega
 ·split<;>omega
def GA(x:Int)(w:aH):Calls prog 164 #[Iv0 x] w fun e w'=>e=bE (.bool false)/\w'=w:=by
 go_in
 go_wp2
 go_ret;exact⟨by simp,rfl⟩
def OT(x y:Int)(w:aH):Calls prog 121 #[Iv0 x,Iv0 y] w fun e w'=>e=bE (Iv0 (qM x y))/\w'=w:=by
 go_in
 go_wp2_with fail;refine(GA x w).mono ?_;rintro e d ⟨rfl,rfl⟩;go_wp2_with fail;refine(GA y d).mono ?_;rintro e f ⟨rfl,rfl⟩;by_cases b:x<y
 ·have a:Hid (qM x y= -1):=by show _=_;unfold qM;rw[if_pos b]
  go_wp2
  go_ret;exact⟨by rw[a.out];rfl,rfl⟩
 ·by_cases c:y<x
  ·have a:Hid (qM x y=1):=by show _=_;unfold qM;rw[if_neg b,if_pos c]
   go_wp2
   go_ret;exact⟨by rw[a.out];rfl,rfl⟩
  ·have a:Hid (qM x y=0):=by show _=_;unfold qM;rw[if_neg b,if_neg c]
   go_wp2
   go_ret;exact⟨by rw[a.out];rfl,rfl⟩
def GJ(k f:Int)(a b c d e:aQ)(w:aH)(h:∃x l c,b=.slice x l c)(o:∃x l d,c=.slice x l d)(g:∃x l c,d=.slice x l c)(m:∃n,a=Iv0 n)(j:∃n,e=Iv0 n):
 Calls prog 120 #[.agg #[Iv0 k,a,b,c,d,e],Iv0 f] w fun i w'=>i=bE (Iv0 (qM k f))/\w'=w.alloc (.cells #[Iv0 k,a,b,c,d,e] 151):=by
 obtain⟨_,_,_,rfl⟩:=h;obtain⟨_,_,_,rfl⟩:=o;obtain⟨_,_,_,rfl⟩:=g;obtain⟨_,rfl⟩:=m;obtain⟨_,rfl⟩:=j;go_in
 go_wp2_with fail;refine(OT k f _).mono ?_;rintro e p ⟨rfl,rfl⟩;go_wp2
 go_ret;exact⟨rfl,rfl⟩
def U5(a b:aQ)(W:aH):(callFunc 120 #[a,b]).run prog W=.ok (.enter 120 #[a,b]) W:=by kernel_rfl
structure Ent where
 k:Int
 a:Int
 b:Value
 c:Value
 d:Value
 e:Int
def Ent.cells(x:Ent):List Value:=[Iv0 x.k,Iv0 x.a,x.b,x.c,x.d,Iv0 x.e]
def jE:List Ent->List Value
 |[]=>[]
 |x::l=>x.cells++jE l
structure Ent.Ok(x:Ent):Prop where
 b:∃y l c,x.b=.slice y l c
 c:∃y l c,x.c=.slice y l c
 d:∃y l c,x.d=.slice y l c
def J3(w:aH)(g:Nat)(es:List Ent):Prop:=∀i (h:i<es.length),es[i].Ok/\w.cell? (aL g (i*6))=some (Iv0 es[i].k)/\w.cell? (aL g (i*6+1))=some (Iv0 es[i].a)/\w.cell? (aL g (i*6+2))=some es[i].b/\w.cell? (aL g (i*6+3))=some es[i].c/\w.cell? (aL g (i*6+4))=some es[i].d/\w.cell? (aL g (i*6+5))=some (Iv0 es[i].e)
structure Found(es:List Ent)(key:Int)(at_:Nat)(found:Bool):Prop where
 le:at_<=es.length
 lo:∀i (h:i<es.length),i<at_->es[i].k<key
 hi:∀i (h:i<es.length),at_<=i->key<=es[i].k
 fnd:found=true↔∃h:at_<es.length,es[at_].k=key
def QP(g aa:Nat)(b:List Ent)(c:Int)(w:World)(hl:b.length<=100000)(Y:g<w.heap.size)(he:J3 w g b)(hs:∀i j (hi:i<b.length) (hj:j<b.length),i<=j->b[i].k<=b[j].k):
 Calls prog 119 #[.slice (some ⟨g,0,none⟩) b.length aa,.int .i64 c,.func (.func 120) #[] #[]] w fun e w'=>∃H fd,e=.returned (.tuple #[.int .i64 (H:Nat),.bool fd])/\Below w.heap.size w w'/\Found b c H fd:=by
 have HE:=aB he;have Z:=aB hs;clear he hs;have af:=U5;go_enter func119,ntmps119;go_wp2_with fail;go_loopg [9,10,11] b.length (fun gk iv jv _ wr=>∃i j:Nat,iv=.int .i64 i/\jv=.int .i64 j/\i<=j/\j<=b.length/\j-i<=gk/\Below w.heap.size w wr/\(∀k (h:k<b.length),k<i->b[k].k<c)/\(∀k (h:k<b.length),j<=k->c<=b[k].k))
 case atStart=>exact⟨0,b.length,rfl,rfl,by omega,by omega,by omega,Y8 _ _,fun k h x=>by omega,fun k h x=>by omega⟩
 case round=>
  obtain⟨i,j,rfl,rfl,ad,hj,ae,n,f,d⟩:=hrel;by_cases ac:i<j
  ·have q:=aB (j6 f d);have hm:(i+j)/2<b.length:=by omega
   obtain⟨z,y,B,t,v,r,A⟩:=HE.out _ hm;have a:∀o u,w.cell? ⟨g,o,none⟩=some u->wr.cell? ⟨g,o,none⟩=some u:=fun o u hu=>by rw[n.cell (p:=⟨g,o,none⟩) Y];exact hu
   have y:=a _ _ y;have B:=a _ _ B;have t:=a _ _ t;have v:=a _ _ v;have r:=a _ _ r;have A:=a _ _ A;have ab:g<wr.heap.size:=Y7 Y n.size;have s:=aB n;have I:Hid (∀k (h:k<b.length),(k<=(i+j)/2->b[k].k<=b[(i+j)/2].k)/\((i+j)/2<=k->b[(i+j)/2].k<=b[k].k)):=fun k h=>⟨fun x=>Z.out _ _ h hm x,fun x=>Z.out _ _ hm h x⟩
   obtain⟨J,U,O,M⟩:=z.b;obtain⟨X,V,F,T⟩:=z.c;obtain⟨N,S,G,W⟩:=z.d;rw[M] at t;rw[T] at v;rw[W] at r;generalize b[(i+j)/2].k=mk at*;generalize b[(i+j)/2].a=Q at*;generalize b[(i+j)/2].e=P at*;clear f d n M T W a;have K:=aB (GJ mk c (.int .i64 Q) (.slice J U O) (.slice X V F) (.slice N S G) (.int .i64 P) wr ⟨_,_,_,rfl⟩ ⟨_,_,_,rfl⟩ ⟨_,_,_,rfl⟩ ⟨_,rfl⟩ ⟨_,rfl⟩);go_wp2_with fail;refine K.out.mono ?_;rintro e w1 ⟨rfl,rfl⟩;have m:=aB (s.out.trans (((Y8 _ wr).alloc (Z7 _) (.cells #[.int .i64 mk,.int .i64 Q,.slice J U O,.slice X V F,.slice N S G,.int .i64 P] 151)).mono s.out.size));clear s K y B t v r A;by_cases l:mk<c
   ·have E:qM mk c= -1:=by unfold qM;rw[if_pos l]
    rw[E];have D:=aB l;clear l E;go_wp2_with fail;go_roundg ((gk-1))
    case measure=>omega
    case rel=>
     refine⟨(i+j)/2+1,j,by go_num,rfl,by omega,hj,by omega,m.out,fun k h x=>?_,q.out.2⟩
     exact Int.lt_of_le_of_lt ((I.out k h).1 (by omega)) D.out
   ·have E:0<=qM mk c:=by unfold qM;rw[if_neg l];split<;>omega
    have D:=aB l;clear l;go_wp2_with fail;go_roundg (gk-1)
    case measure=>omega
    case rel=>
     refine⟨i,(i+j)/2,rfl,by go_num,by omega,by omega,by omega,m.out,q.out.1,fun k h x=>?_⟩
     have:=(I.out k h).2 x;have:=D.out;omega
  ·obtain rfl:i=j:=by omega
   by_cases hn:i<b.length
   ·have q:=aB (j6 f d);obtain⟨z,y,B,t,v,r,A⟩:=HE.out _ hn;have a:∀o u,w.cell? ⟨g,o,none⟩=some u->wr.cell? ⟨g,o,none⟩=some u:=fun o u hu=>by rw[n.cell (p:=⟨g,o,none⟩) Y];exact hu
    have y:=a _ _ y;have B:=a _ _ B;have t:=a _ _ t;have v:=a _ _ v;have r:=a _ _ r;have A:=a _ _ A;have ab:g<wr.heap.size:=Y7 Y n.size;have s:=aB n;obtain⟨J,U,O,M⟩:=z.b;obtain⟨X,V,F,T⟩:=z.c;obtain⟨N,S,G,W⟩:=z.d;rw[M] at t;rw[T] at v;rw[W] at r;obtain⟨mk,C⟩:∃mk,mk=b[i].k:=⟨_,rfl⟩;rw[<-C] at y;have L:=aB C;generalize b[i].a=Q at*;generalize b[i].e=P at*;clear f d n M T W a C z HE Z;have K:=aB (GJ mk c (.int .i64 Q) (.slice J U O) (.slice X V F) (.slice N S G) (.int .i64 P) wr ⟨_,_,_,rfl⟩ ⟨_,_,_,rfl⟩ ⟨_,_,_,rfl⟩ ⟨_,rfl⟩ ⟨_,rfl⟩);go_wp2_with fail;refine K.out.mono ?_;rintro e w1 ⟨rfl,rfl⟩;have m:=aB (s.out.trans (((Y8 _ wr).alloc (Z7 _) (.cells #[.int .i64 mk,.int .i64 Q,.slice J U O,.slice X V F,.slice N S G,.int .i64 P] 151)).mono s.out.size));clear s K y B t v r A;by_cases l:mk=c
    ·have E:qM mk c=0:=by unfold qM;rw[if_neg (by omega),if_neg (by omega)]
     rw[E];have D:=aB l;clear l E;go_wp2_with fail;go_ret2
     refine⟨i,true,rfl,m.out,al_ hn,q.out.1,q.out.2,?_⟩;simp only[true_iff];exact⟨hn,L.out.symm.trans D.out⟩
    ·have E:(qM mk c==0)=false:=by simpa using P3 l
     have D:=aB l;clear l;go_wp2_with fail;go_ret2
     refine⟨i,false,rfl,m.out,al_ hn,q.out.1,q.out.2,?_⟩;simp only[Bool.false_eq_true,false_iff];rintro⟨_,e⟩;exact D.out (L.out.trans e)
   ·have q:=aB (j6 f d);have s:=aB n;clear f d n HE Z;go_wp2_with fail;go_ret2
    refine⟨i,false,rfl,s.out,by omega,q.out.1,q.out.2,?_⟩
    simp only[Bool.false_eq_true,false_iff];rintro⟨h,_⟩;omega
def QO(a:Int)(w:aH):
 Calls prog 119 #[bV,Iv0 a,.func (.func 120) #[] #[]] w fun e w'=>e=bE (.tuple #[Iv0 0,.bool false])/\w'=w:=by
 go_in
 go_wp2_with fail;go_loopg [9,10,11] 0 (fun _ b c _ wr=>b=Iv0 0/\c=Iv0 0/\wr=w)
 case atStart=>exact⟨rfl,rfl,rfl⟩
 case round=>
  obtain⟨rfl,rfl,rfl⟩:=hrel;go_wp2
  go_ret2
  exact⟨rfl,rfl⟩
def N4:(prog.info? 151).map (fun i=>(i.zero,i.size,i.bytes))=some (some (.agg #[Iv0 0,Iv0 0,bV,bV,bV,Iv0 0]),6,96):=by kernel_rfl
def GI(w:aH)(sb:Nat)(x:Option Addr)(n c:Nat)(b:Int)(P:Int->Bool->World->Prop)(j:w.cell? (aL sb 5)=some (.slice x n c))
 (h:Hid (Calls prog 119 #[.slice x n c,Iv0 b,.func (.func 120) #[] #[]] w fun e w'=>∃a f,e=bE (.tuple #[Iv0 a,.bool f])/\P a f w')):
 Calls prog 86 #[.pointer (some (aL sb 5)),Iv0 b] w fun e w'=>∃a f,e=bE (.tuple #[Iv0 a,.bool f])/\P a f w':=by
 go_in
 go_wp2_with fail;refine h.mono ?_;rintro e i ⟨a,f,rfl,d⟩;have g:=aB d;clear d;go_wp2
 go_ret2
 exact⟨a,f,rfl,g⟩
def BM(w:aH)(sb g n x b:Nat)(j a e:Int)(t r k:Option Addr)(s v l c1 m p:Nat)(P Q:World->Prop)(D:b<n)
 (E:Hid (Calls prog 86 #[.pointer (some (aL sb 5)),Iv0 j] (w.alloc (.cells #[Iv0 a,.slice t s c1,.slice r v m,.slice k l p,Iv0 e] 60)) fun q w'=>q=bE (.tuple #[Iv0 b,.bool true])/\Q w'))
 (A:Hid (∀W,Q W->sb<W.heap.size/\W.cell? (aL sb 5)=some (.slice (some (aL g 0)) n x)/\g<W.heap.size/\(∃c,W.heap[g]?=some (.cells c 151 (0,0))/\b*6+5<c.size)/\W.heap[w.heap.size]?=some (.cells #[Iv0 a,.slice t s c1,.slice r v m,.slice k l p,Iv0 e] 60 (0,0))/\
   ∀B,aY (((((W.setCell (aL g (b*6+1)) (Iv0 a)).setCell (aL g (b*6+2)) (.slice t s c1)).setCell (aL g (b*6+3)) (.slice r v m)).setCell (aL g (b*6+4)) (.slice k l p)).setCell (aL g (b*6+5)) (Iv0 e)) B->P B)):
 Calls prog 78 #[.pointer (some (aL sb 5)),Iv0 j,.agg #[Iv0 a,.slice t s c1,.slice r v m,.slice k l p,Iv0 e]] w fun q w'=>q=bE (.tuple #[])/\P w':=by
 go_in
 go_wp2_with fail;refine E.mono ?_;rintro q y ⟨rfl,C⟩;obtain⟨T,q2,V,⟨c,f,F⟩,d,z⟩:=A _ C;have G:=aB z;have S:=aA d (i:=0) rfl;have H:=aA d (i:=1) rfl;have k2:=aA d (i:=2) rfl;have M:=aA d (i:=3) rfl;have U:=aA d (i:=4) rfl;have Z:=aD d;have h:∀o,o<=b*6+5->∃u,y.cell? (aL g o)=some u:=fun o Y=>⟨c[o]'(by omega),by rw[cell_of_row y g o c _ _ f];exact Z0 (by omega)⟩
 obtain⟨u1,m1⟩:=h (b*6+1) (by omega)
 obtain⟨u2,I⟩:=h (b*6+2) (by omega)
 obtain⟨u3,J⟩:=h (b*6+3) (by omega)
 obtain⟨u4,m4⟩:=h (b*6+4) (by omega)
 obtain⟨u5,m5⟩:=h (b*6+5) (by omega)
 have O:=aE f (i:=b*6+1);have L:=aE f (i:=b*6+2);have z3:=aE f (i:=b*6+3);have N:=aE f (i:=b*6+4);have K:=aE f (i:=b*6+5);have e1:(0:Int)<=(b:Int):=by omega
 have X:(b:Int)<(n:Int):=by omega
 clear C f F d z h A;go_wp2_with fail;go_region
 all_goals
  go_wp2
  go_end0;exact⟨rfl,G _ (aY.drew _)⟩
def SD(w:aH)(base b n:Nat)(v:aQ)(xs:List Value)(h:Int)(a:w.ownsRow base 151 6 v n xs)(t:w.heap[b]?=some (.cells #[Iv0 h,Iv0 0,bV,bV,bV,Iv0 0] 151 (0,0)))(M:n<=100000)(k:base<=w.heap.size):
 Calls prog 112 #[v,Iv0 n,.slice (some (aL b 0)) 1 1] w fun e w'=>∃g l,e=bE (.slice (some (aL g 0)) (n+1) l)/\w'.ownsRow base 151 6 (.slice (some (aL g 0)) (n+1) l) (n+1) (xs++[Iv0 h,Iv0 0,bV,bV,bV,Iv0 0])/\w.grownBy w' v.ownBlock/\(v.ownBlock=some g\/g=w.heap.size):=by
 obtain⟨B,H,p,r,s⟩:=info_parts N4;obtain⟨x,c,rfl⟩:=cY a;have E:=aB a;have G:=aB (World.news_of_block t);have j:∀v∈([Iv0 h,Iv0 0,bV,bV,bV,Iv0 0]:List Value),v.oneCell'=true:=fun v u=>by simp at u;rcases u with rfl|rfl|rfl|rfl<;>rfl
 have HONE:=aB j
 have I:(x=none/\n=0/\c=0)\/(∃g,x=some (aL g 0)/\n<c)\/∃g,x=some (aL g 0)/\c=n:=by
  rcases a.2 with ⟨o,J⟩|⟨g,l,D,o,J,L,z,_⟩
  ·cases o;exact Y4 ⟨rfl,rfl,rfl⟩
  ·cases o;rcases p9 z with e|e
   ·exact Y3 (Y3 ⟨g,rfl,e.symm⟩)
   ·exact Y3 (Y4 ⟨g,rfl,e⟩)
 clear a j t;rcases I with ⟨rfl,rfl,rfl⟩|⟨A,rfl,F⟩|⟨A,rfl,rfl⟩
 all_goals
  go_in
  go_wp2_with (at_builtin;refine wpList_append_lies _ (by rfl) _ _ 61 (by rfl) base 151 B _ 6 96 underlying61 H p r s rfl (by decide) _ _ xs (by rfl) E (aL b 0) 1 1 [Iv0 h,Iv0 0,bV,bV,bV,Iv0 0] (by rfl) (by rfl) (G) HONE (by decide) (by unfold maxLen;omega) (by omega) k w.heap.size rfl ?_)
  intro C m K f d i y;have q:=aB (j6 f (j6 d i));clear f d i;go_wp2
  go_ret;exact⟨C,m,rfl,q.1,q.2.1,q.2.2⟩
def JI(w:aH)(sb n:Nat)(x:Option Addr)(c:Nat)(h a e:Int)(z q v:Option Addr)(s t y c1 p r:Nat)(P Q:World->Prop)(R:Nat->Nat->World->Prop)(hn:n<=100000)
 (C:Hid (Calls prog 86 #[.pointer (some (aL sb 5)),Iv0 h] (w.alloc (.cells #[Iv0 a,.slice z s c1,.slice q t p,.slice v y r,Iv0 e] 60)) fun m w'=>m=bE (.tuple #[Iv0 n,.bool false])/\Q w'))
 (E:Hid (∀W,Q W->sb<W.heap.size/\W.cell? (aL sb 5)=some (.slice x n c)/\Calls prog 112 #[.slice x n c,Iv0 n,.slice (some (aL W.heap.size 0)) 1 1] (W.alloc (.cells #[Iv0 h,Iv0 0,bV,bV,bV,Iv0 0] 151)) fun e w'=>∃g b,e=bE (.slice (some (aL g 0)) (n+1) b)/\R g b w'))
 (A:Hid (∀g b W,R g b W->sb<W.heap.size/\g≠sb/\g≠w.heap.size/\sb≠w.heap.size/\(∃u,W.cell? (aL sb 5)=some u)/\W.frozen? (aL sb 5)=false/\g<W.heap.size/\(∃d,W.heap[g]?=some (.cells d 151 (0,0))/\n*6+5<d.size)/\W.heap[w.heap.size]?=some (.cells #[Iv0 a,.slice z s c1,.slice q t p,.slice v y r,Iv0 e] 60 (0,0))/\
   ∀F,aY ((((((W.setCell (aL sb 5) (.slice (some (aL g 0)) (n+1) b)).setCell (aL g (n*6+1)) (Iv0 a)).setCell (aL g (n*6+2)) (.slice z s c1)).setCell (aL g (n*6+3)) (.slice q t p)).setCell (aL g (n*6+4)) (.slice v y r)).setCell (aL g (n*6+5)) (Iv0 e)) F->P F)):
 Calls prog 78 #[.pointer (some (aL sb 5)),Iv0 h,.agg #[Iv0 a,.slice z s c1,.slice q t p,.slice v y r,Iv0 e]] w fun m w'=>m=bE (.tuple #[])/\P w':=by
 go_in
 go_wp2_with fail;refine C.mono ?_;rintro m w0 ⟨rfl,H⟩;obtain⟨N,L,D⟩:=E _ H;have l:=aB D;clear H D E C;go_wp2_with fail;refine l.mono ?_;rintro m G ⟨g,b,rfl,I⟩;obtain⟨q1,T,S,V,⟨v5,g4⟩,g5,Y,⟨d,j,M⟩,f,B⟩:=A _ _ _ I;have U:=aB B;have k0:=aA f (i:=0) rfl;have k1:=aA f (i:=1) rfl;have k2:=aA f (i:=2) rfl;have k3:=aA f (i:=3) rfl;have k4:=aA f (i:=4) rfl;have hl:=aD f;have k:∀o,o<=n*6+5->∃u,G.cell? (aL g o)=some u:=fun o Z=>⟨d[o]'(by omega),by rw[cell_of_row G g o d _ _ j];exact Z0 (by omega)⟩
 obtain⟨u1,m1⟩:=k (n*6+1) (by omega)
 obtain⟨u2,m2⟩:=k (n*6+2) (by omega)
 obtain⟨u3,m3⟩:=k (n*6+3) (by omega)
 obtain⟨u4,m4⟩:=k (n*6+4) (by omega)
 obtain⟨u5,m5⟩:=k (n*6+5) (by omega)
 have z1:=aE j (i:=n*6+1);have z2:=aE j (i:=n*6+2);have z3:=aE j (i:=n*6+3);have X:=aE j (i:=n*6+4);have z5:=aE j (i:=n*6+5);have e1:(0:Int)<=(n:Int):=by omega
 have e2:(n:Int)<((n+1:Nat):Int):=by omega
 have O:¬sb=g:=fun e=>T e.symm
 have J:¬w.heap.size=g:=fun e=>S e.symm
 have K:¬w.heap.size=sb:=fun e=>V e.symm
 clear I j M f B k A N L l;go_wp2_with fail;go_region
 all_goals
  go_wp2
  go_end0;exact⟨rfl,U _ (aY.drew _)⟩
def zK(a e:Int)(f i g:Option Addr)(c h j c1 b d:Nat)(w:aH):Calls prog 50 #[.agg #[Iv0 a,.slice f c c1,.slice i h b,.slice g j d,Iv0 e]] w fun k w'=>k=bE (Iv0 a)/\w'=w.alloc (.cells #[Iv0 a,.slice f c c1,.slice i h b,.slice g j d,Iv0 e] 60):=by
 go_in
 go_wp2
 go_ret;exact⟨rfl,rfl⟩
def QL(w:aH)(sb:Nat)(a:Nat)(e:Int)(j h c:Option Addr)(i k d c1 f g:Nat)(P:World->Prop)(t:a%20=0)(u:a<=1000000)
 (q:Hid (∀m,Below w.heap.size w m->Calls prog 78 #[.pointer (some (aL sb 5)),Iv0 a,.agg #[Iv0 a,.slice j i c1,.slice h k f,.slice c d g,Iv0 e]] m fun b w'=>b=bE (.tuple #[])/\P w')):
 Calls prog 45 #[bO sb,.agg #[Iv0 a,.slice j i c1,.slice h k f,.slice c d g,Iv0 e]] w fun b w'=>b=bE (.tuple #[])/\P w':=by
 have o:(a:Int)%20=0:=by omega
 have p:(a:Int).tmod 20=0:=by rw[Int.tmod_eq_emod_of_nonneg (by omega)];exact o
 go_in
 go_wp2_with fail;refine(zK a e j h c i k d c1 f g _).mono ?_;rintro b r ⟨rfl,rfl⟩;go_wp2_with fail;go_region_law (go_simp;first|(go_at_call 50;refine(zK a e j h c i k d c1 f g _).mono ?_;rintro b v ⟨rfl,rfl⟩)|(go_at_call 78;refine(q _ ((((Y8 _ w).alloc dH _).alloc (by simp) _).alloc (by simp;omega) _).drew).mono ?_;rintro b s ⟨rfl,l⟩;have n:=aB l;clear l))
 all_goals
  go_wp2
  go_end0;exact⟨rfl,n⟩
def VQ(w:aH)(sb:Nat)(a:Nat)(e:Int)(j h b:Option Addr)(i k c c1 d f:Nat)(o:a%20≠0)(p:a<=1000000):
 Calls prog 45 #[bO sb,.agg #[Iv0 a,.slice j i c1,.slice h k d,.slice b c f,Iv0 e]] w fun g w'=>g=bE (.tuple #[])/\Below w.heap.size w w':=by
 have l:¬(a:Int)%20=0:=by omega
 have m:¬(a:Int).tmod 20=0:=by rw[Int.tmod_eq_emod_of_nonneg (by omega)];exact l
 go_in
 go_wp2_with fail;refine(zK a e j h b i k c c1 d f _).mono ?_;rintro g n ⟨rfl,rfl⟩;go_wp2
 go_end0;exact⟨rfl,((Y8 _ w).alloc dH _).alloc (by simp) _⟩
def JP(l m:List Ent):jE (l++m)=jE l++jE m:=by
 induction l with
 |nil=>rfl
 |cons x l a=>simp[jE,a]
def JO(l:List Ent):(jE l).length=l.length*6:=by
 induction l with
 |nil=>rfl
 |cons x l a=>simp[jE,a,Ent.cells];omega
def GG:∀(l:List Ent) (i j:Nat) (h:i<l.length),j<6->(jE l)[i*6+j]?=(l[i].cells)[j]?
 |x::l,0,j,h,a=>by
  simp only[jE,Nat.zero_mul,x9,List.getElem_cons_zero];rw[l7 (by simpa [Ent.cells] using a)]
 |x::l,i+1,j,h,a=>by
  have:=GG l i j (by simpa using h) a
  simp only[jE,List.getElem_cons_succ];rw[j1 (by simp[Ent.cells];omega),<-this]
  congr 1
  simp[Ent.cells];omega
def GF:∀(l:List Ent) (i:Nat) (x:Ent) (h:i<l.length),x.k=l[i].k->jE (l.set i x)=(((((jE l).set (i*6+1) (Iv0 x.a)).set (i*6+2) x.b).set (i*6+3) x.c).set (i*6+4) x.d).set (i*6+5) (Iv0 x.e)
 |y::l,0,x,h,a=>by
  simp only[List.getElem_cons_zero] at a;simp[jE,Ent.cells,a]
 |y::l,i+1,x,h,a=>by
  have b:=GF l i x (by simpa using h) (by simpa using a)
  have e:∀j,(i+1)*6+j=i*6+j+6:=fun j=>by omega
  simp only[av_,jE,e,Ent.cells,l9,ai_];rw[b]
def ZH(fp:fN)(F:cC)(w:aH)(st:Nat->Option cD)(i:Nat)(x:Ent):Prop:=
 x.k=((20*i:Nat):Int)/\∃s,st (20*i)=some s/\nO fp F w (.agg #[Iv0 x.a,x.b,x.c,x.d,Iv0 x.e]) s
def ZH.keep{a:fN}{F G:cC}{w w':aH}{c:Nat->Option cD}{i:Nat}{x:Ent}(h:ZH a F w c i x)(d:∀b,F b->w'.heap[b]?=w.heap[b]?)(j:∀b,F b->G b):ZH a G w' c i x:=by
 obtain⟨f,s,e,g⟩:=h;exact⟨f,s,e,g.keep d j⟩
def ZH.ok{d:fN}{F:cC}{w:aH}{j:Nat->Option cD}{i:Nat}{x:Ent}(h:ZH d F w j i x):x.Ok:=by
 obtain⟨_,s,_,g⟩:=h;obtain⟨o,m,n,e,f,k,l⟩:=g.form;simp only[Value.agg.injEq] at e;have b:=congrArg (fun z=>z[1]?) e
 have a:=congrArg (fun z=>z[2]?) e
 have c:=congrArg (fun z=>z[3]?) e
 simp at b a c;subst b a c;exact⟨f,k,l⟩
structure kS(fp:fN)(F:cC)(w:aH)(sb mb:Nat)(mo:Obj)(st:Nat->Option cD)(s:cD)(n:Nat):Prop where
 blk:∃fv tv ov ev es,w.heap[sb]?=some (.cells #[Iv0 s.time,fv,tv,ov,Iv0 s.stop,ev,.map (some mb)] 66 (0,0))/\nO fp F w (.agg #[Iv0 s.time,fv,tv,ov,Iv0 s.stop]) s/\
  w.ownsRow (sb+1) 151 6 ev n (jE es)/\es.length=n/\(∀i (h:i<es.length),ZH fp F w st i es[i])/\(∀k,F k->ev.ownBlock≠some k)/\ev.ownBlock≠some mb
 now:st s.time=some s
 fix:∀k,F k->k<w.heap.size/\k≠sb/\k≠mb
 map:w.heap[mb]?=some mo/\mb≠sb
def lV(sb:Nat)(w:aH):Option Nat:=match w.heap[sb]? with|some (.cells c _ _)=>(c[5]?).bind Value.ownBlock|_=>none
def oG{sb:Nat}{w w':aH}(h:w'.heap[sb]?=w.heap[sb]?):lV sb w'=lV sb w:=by unfold lV;rw[h]
def mA{sb:Nat}{w:aH}{c:Array Value}{T:TypeId}{z:Nat × Nat}{v:aQ}(h:w.heap[sb]?=some (.cells c T z))(a:c[5]?=some v):lV sb w=v.ownBlock:=by unfold lV;rw[h];simp[a]
structure FS(sb:Nat)(w w':aH):Prop where
 os:w'.os=w.os
 tape:w'.tape=w.tape
 output:w'.output=w.output
 size:w.heap.size<=w'.heap.size
 blk:∀k,k<w.heap.size->k≠sb->lV sb w≠some k->w'.heap[k]?=w.heap[k]?
 row:∀k,lV sb w'=some k->lV sb w=some k\/w.heap.size<=k
def FS.trans{sb:Nat}{a b c:aH}(h:FS sb a b)(k:FS sb b c):FS sb a c:=by
 refine⟨k.os.trans h.os,k.tape.trans h.tape,k.output.trans h.output,Z4 h.size k.size,fun i f j g=>?_,fun i f=>?_⟩
 ·rw[k.blk i (Y7 f h.size) j (fun e=>?_),h.blk i f j g]
  rcases h.row i e with d|d
  ·exact g d
  ·omega
 ·rcases k.row i f with d|d
  ·exact h.row i d
  ·exact Y3 (Z4 h.size d)
def FS.of_below{sb:Nat}{w w':aH}(h:Below w.heap.size w w')(b:sb<w.heap.size):FS sb w w':=
 ⟨h.os,h.tape,h.output,h.size,fun k a _ _=>h.block k a,fun k a=>Y4 (by rw[<-oG (h.block sb b)];exact a)⟩
section
variable {fp:fN} {F G:cC} {w w':aH} {sb mb n:Nat} {mo:Obj} {st:Nat->Option cD} {s:cD}
def kS.lt(h:kS fp F w sb mb mo st s n):sb<w.heap.size:=by
 obtain⟨_,_,_,_,_,a,_⟩:=h.blk;exact aD a
def kS.row(h:kS fp F w sb mb mo st s n):∀k,lV sb w=some k->sb<k/\k<w.heap.size/\¬F k/\k≠mb:=by
 obtain⟨_,_,_,i,_,c,_,f,_,_,b,d⟩:=h.blk;intro k a;rw[mA c rfl] at a;have:=f.lt k a;exact⟨by omega,this.2,fun g=>b k g a,fun e=>d (by rw[<-e];exact a)⟩
def kS.grow(h:kS fp F w sb mb mo st s n)(d:Below w.heap.size w w')(l:∀k,F k->G k)(o:∀k,G k->F k\/(w.heap.size<=k/\k<w'.heap.size)):kS fp G w' sb mb mo st s n:=by
 have f:=h.lt;obtain⟨C,r,z,q,y,u,p,m,t,x,B,v⟩:=h.blk;have j:∀b,F b->w'.heap[b]?=w.heap[b]?:=fun b g=>d.block b (h.fix b g).1
 refine⟨⟨C,r,z,q,y,by rw[d.block _ f];exact u,p.keep j l,iS m d,t,fun i A=>(x i A).keep j l,fun k a=>?_,v⟩,h.now,fun k a=>?_,by rw[d.block _ (aD h.map.1)];exact h.map⟩
 ·rcases o k a with c|c
  ·exact B k c
  ·intro e;have:=(m.lt k e).2;omega
 ·rcases o k a with c|c
  ·have:=h.fix k c;exact⟨Y7 this.1 d.size,this.2⟩
  ·have:=aD h.map.1;exact⟨c.2,by omega,by omega⟩
def O3{a:List Ent}{base g d:Nat}(h:w.ownsRow base 151 6 (.slice (some (aL g 0)) a.length d) a.length (jE a))(b:∀i (h:i<a.length),a[i].Ok):J3 w g a:=fun i e=>by
 have c:∀j u,j<6->(a[i].cells)[j]?=some u->w.cell? (aL g (i*6+j))=some u:=fun j u f k=>by
  have:=h.cells (g:=g) rfl (i*6+j) u (by rw[GG a i j e f];exact k)
  rw[zC] at this;exact this
 exact⟨b i e,c 0 _ (by omega) rfl,c 1 _ (by omega) rfl,c 2 _ (by omega) rfl,c 3 _ (by omega) rfl,c 4 _ (by omega) rfl,c 5 _ (by omega) rfl⟩
def TV{f:List Ent}{base g j i:Nat}{W:aH}{a e:Int}{b c d:aQ}(h:w.ownsRow base 151 6 (.slice (some (aL g 0)) f.length j) f.length (jE f))(t:i<f.length)
 (p:W.heap=(((((w.setCell (aL g (i*6+1)) (Iv0 a)).setCell (aL g (i*6+2)) b).setCell (aL g (i*6+3)) c).setCell (aL g (i*6+4)) d).setCell (aL g (i*6+5)) (Iv0 e)).heap):
 W.ownsRow base 151 6 (.slice (some (aL g 0)) f.length j) f.length (jE (f.set i ⟨f[i].k,a,b,c,d,e⟩)):=by
 rcases h.2 with ⟨k,_⟩|⟨v,l,s,k,u,m,o,r,n,q⟩
 ·cases k
 cases k;refine⟨by simp[JO],Y3 ⟨g,j,_,rfl,u,by rw[p];exact aT (aT (aT (aT (aT m)))),o,r,by simpa using n,?_⟩⟩
 rw[GF f i ⟨f[i].k,a,b,c,d,e⟩ t rfl,<-q];simp only[y7,az_]
end
structure Y0(n:Nat)(key:Int)(at_:Nat)(fd:Bool):Prop where
 le:at_<=n
 lo:∀i,i<at_->((20*i:Nat):Int)<key
 hi:∀i,i<n->at_<=i->key<=((20*i:Nat):Int)
 fnd:fd=true↔at_<n/\((20*at_:Nat):Int)=key
section
variable {fp:fN} {F G:cC} {w w':aH} {sb mb n:Nat} {mo:Obj} {st:Nat->Option cD} {s:cD}
def FL(h:kS fp F w sb mb mo st s n)(b:Int)(P:n<=1000):
 Calls prog 86 #[.pointer (some (aL sb 5)),Iv0 b] w fun e w'=>∃(d:Nat) (v:Bool),e=bE (.tuple #[Iv0 d,.bool v])/\Below w.heap.size w w'/\Y0 n b d v:=by
 obtain⟨S,K,O,C,p,E,J,z,D,x,Q,M⟩:=h.blk;have l:∀i (h:i<p.length),p[i].k=((20*i:Nat):Int):=fun i c=>(x i c).1
 have y:w.cell? (aL sb 5)=some C:=aA E rfl;subst D;rcases z.2 with ⟨r,H⟩|⟨g,o,G,r,H,A,L,N⟩
 ·subst r;refine(GI w sb none 0 0 b (fun a f w'=>a=0/\f=false/\w'=w) y ((QO b w).mono ?_)).mono ?_
  ·rintro e w' ⟨rfl,rfl⟩;exact⟨0,false,rfl,rfl,rfl,rfl⟩
  ·rintro e w' ⟨a,f,rfl,rfl,rfl,rfl⟩;exact⟨0,false,rfl,Y8 _ _,n8 _,fun i c=>by omega,fun i c _=>by omega,by simp;omega⟩
 ·subst r;refine(GI w sb (some (aL g 0)) p.length o b (fun a f w'=>∃d:Nat,a=d/\Below w.heap.size w w'/\Found p b d f) y ((QP g o p b w (by omega) (aD A) (O3 z fun i c=>(x i c).ok) (fun i j c I B=>by rw[l i c,l j I];omega)).mono ?_)).mono ?_
  ·rintro e w' ⟨a,f,rfl,t,k⟩;exact⟨_,f,rfl,a,rfl,t,k⟩
  ·rintro e w' ⟨_,f,rfl,a,rfl,t,k⟩;refine⟨a,f,rfl,t,k.le,fun i c=>?_,fun i c u=>?_,?_⟩
   ·have:=k.lo i (by have:=k.le;omega) c
    rw[l i (by have:=k.le;omega)] at this;exact this
   ·have:=k.hi i c u;rw[l i c] at this;exact this
   ·rw[k.fnd];constructor
    ·rintro⟨m,q⟩;rw[l _ m] at q;exact⟨m,q⟩
    ·rintro⟨m,q⟩;exact⟨m,by rw[l _ m];exact q⟩
def GC(W:aH)(g a b c d e:Nat)(u v x y z:aQ)(k:Nat)(f:k≠g):(((((W.setCell (aL g a) u).setCell (aL g b) v).setCell (aL g c) x).setCell (aL g d) y).setCell (aL g e) z).heap[k]?=W.heap[k]?:=by
 rw[Y6 _ _ _ _ f,Y6 _ _ _ _ f,Y6 _ _ _ _ f,Y6 _ _ _ _ f,Y6 _ _ _ _ f]
def TT(W:aH)(p q r t o:Addr)(u v x y z:aQ):(((((W.setCell p u).setCell q v).setCell r x).setCell t y).setCell o z).os=W.os/\(((((W.setCell p u).setCell q v).setCell r x).setCell t y).setCell o z).tape=W.tape/\(((((W.setCell p u).setCell q v).setCell r x).setCell t y).setCell o z).output=W.output/\(((((W.setCell p u).setCell q v).setCell r x).setCell t y).setCell o z).heap.size=W.heap.size:=by
 have a:∀(W:aH) (p:Addr) (u:aQ),(W.setCell p u).os=W.os/\(W.setCell p u).tape=W.tape/\(W.setCell p u).output=W.output/\(W.setCell p u).heap.size=W.heap.size:=fun W p u=>⟨rfl,rfl,rfl,by simp⟩
 simp[a]
def XP(h:kS fp F w sb mb mo st s n)(v:aQ)(b:cD)(hv:nO fp F w v b)(hs:st b.time=some b)(hm:b.time%20=0)(hq:b.time/20<n)(hn:n<=1000)(ht:b.time<=1000000):
 Calls prog 78 #[.pointer (some (aL sb 5)),Iv0 b.time,v] w fun e w'=>e=bE (.tuple #[])/\FS sb w w'/\kS fp F w' sb mb mo st s n:=by
 obtain⟨f',t',o',rfl,⟨K,D,B,rfl⟩,⟨y,E,x,rfl⟩,⟨G,H,C,rfl⟩⟩:=hv.form;obtain⟨fv,tv,ov,ev,t,X,h2,Y,h4,Z,h6,h7⟩:=h.blk;subst h4;have I:=Y;rcases Y.2 with ⟨r1,r2⟩|⟨g,M,p,r1,r2,r3,r4,r5,r6,r7⟩
 ·omega
 subst r1;obtain⟨q,l⟩:∃q,q=w.alloc (.cells #[Iv0 b.time,.slice K D B,.slice y E x,.slice G H C,Iv0 b.stop] 60):=⟨_,rfl⟩;have N:Below w.heap.size w q:=by rw[l];exact(Y8 _ _).alloc dH _
 have P:q.heap[w.heap.size]?=some (.cells #[Iv0 b.time,.slice K D B,.slice y E x,.slice G H C,Iv0 b.stop] 60 (0,0)):=by rw[l];exact aU _ _ rfl _
 have aa:q.heap.size=w.heap.size+1:=by rw[l];simp
 refine(BM w sb g t.length M (b.time/20) b.time b.time b.stop K y G D E H B x C (fun w'=>FS sb w w'/\kS fp F w' sb mb mo st s t.length) (fun W=>Below q.heap.size q W) hq ?_ (fun W hW=>?_))
 ·show Calls _ _ _ _ _
  rw[<-l];refine(FL (h.grow N eD (fun _ h=>Y4 h)) b.time hn).mono ?_
  rintro e w' ⟨a,fd,rfl,hb,T⟩
  have e1:a=b.time/20:=by
   refine Nat.le_antisymm ?_ ?_
   ·cases a with
    |zero=>omega
    |succ a=>have:=T.lo a (by omega);omega
   ·rcases l6 a (b.time/20) with h8|h8
    ·have:=T.hi a (by omega) dH;omega
    ·exact h8
  have e2:fd=true:=T.fnd.2 ⟨by omega,by omega⟩
  exact⟨by rw[e1,e2],hb⟩
 ·have c:Below w.heap.size w W:=N.trans (hW.mono (by omega))
  have m:=h.lt;have S:=h.grow c eD (fun _ h=>Y4 h)
  have Q:=aD r3;have L:W.heap[g]?=some (.cells p 151 (0,0)):=by rw[c.block _ Q];exact r3
  have U:b.time/20*6+5<p.size:=by rw[r6];have:=Nat.mul_le_mul_right 6 r4;omega
  refine⟨S.lt,aA (by rw[c.block _ m];exact X) rfl,aD L,⟨p,L,U⟩,by rw[hW.block _ (by omega)];exact P,fun V r=>?_⟩
  have o:g≠sb:=by have:=(I.lt g rfl).1;omega
  have j:∀k,k≠g->V.heap[k]?=W.heap[k]?:=fun k j=>by rw[r.heap];exact GC W g _ _ _ _ _ _ _ _ _ _ k j
  have J:lV sb W=some g:=mA (by rw[c.block _ m];exact X) rfl
  have A:∀k,F k->k≠g:=fun k j e=>h6 k j (by rw[e];rfl)
  have O:FS sb W V:=by
   obtain⟨a1,a2,a3,a4⟩:=TT W (aL g (b.time/20*6+1)) (aL g (b.time/20*6+2)) (aL g (b.time/20*6+3)) (aL g (b.time/20*6+4)) (aL g (b.time/20*6+5)) (Iv0 b.time) (.slice K D B) (.slice y E x) (.slice G H C) (Iv0 b.stop);refine⟨r.os.trans a1,r.tape.trans a2,r.output.trans a3,by rw[r.heap,a4];exact Z7 _,fun k d hc hr=>j k fun e=>hr (by rw[e];exact J),fun k d=>Y4 ?_⟩
   rw[<-oG (j sb (fun e=>o e.symm))];exact d
  refine⟨(FS.of_below c m).trans O,⟨fv,tv,ov,.slice (some (aL g 0)) t.length M,t.set (b.time/20) ⟨t[b.time/20].k,b.time,.slice K D B,.slice y E x,.slice G H C,b.stop⟩,?_,?_,?_,by simp,fun i hi=>?_,h6,h7⟩,h.now,fun k d=>?_,?_⟩
  ·rw[j sb (fun e=>o e.symm),c.block _ m];exact X
  ·exact h2.keep (fun k d=>by rw[j k (A k d),c.block k (h.fix k d).1]) eD
  ·exact TV (iS I c) hq r.heap
  ·have u:i<t.length:=by simpa using hi
   have f:∀k,F k->V.heap[k]?=w.heap[k]?:=fun k d=>by rw[j k (A k d),c.block k (h.fix k d).1]
   by_cases z:i=b.time/20
   ·subst z;rw[List.getElem_set_self];refine⟨(Z _ u).1,b,?_,hv.keep f eD⟩;rw[show 20*(b.time/20)=b.time by omega];exact hs
   ·rw[List.getElem_set_ne (fun e=>z e.symm)]
    exact(Z i u).keep f eD
  ·have:=h.fix k d;exact⟨by rw[r.heap];simpa using Y7 this.1 c.size,this.2⟩
  ·refine⟨?_,h.map.2⟩;rw[j mb (fun e=>h7 (by rw[e];rfl)),c.block _ (aD h.map.1)];exact h.map.1
end
section
variable {fp:fN} {F G:cC} {w w':aH} {sb mb n:Nat} {mo:Obj} {st:Nat->Option cD} {s:cD}
def B4{j:List Ent}{base g f i m:Nat}{W:aH}{k0 a e:Int}{b c d:aQ}(k:j.length=m)(h:w.ownsRow base 151 6 (.slice (some (aL g 0)) m f) m (jE j))(o:i<j.length)(l:j[i].k=k0)
 (n:W.heap=(((((w.setCell (aL g (i*6+1)) (Iv0 a)).setCell (aL g (i*6+2)) b).setCell (aL g (i*6+3)) c).setCell (aL g (i*6+4)) d).setCell (aL g (i*6+5)) (Iv0 e)).heap):
 W.ownsRow base 151 6 (.slice (some (aL g 0)) m f) m (jE (j.set i ⟨k0,a,b,c,d,e⟩)):=by
 subst k l;exact TV h o n
def XO(h:kS fp F w sb mb mo st s n)(v:aQ)(f:cD)(hv:nO fp F w v f)(hs:st f.time=some f)(hm:f.time%20=0)(hq:f.time/20=n)(hn:n<=1000):
 Calls prog 78 #[.pointer (some (aL sb 5)),Iv0 f.time,v] w fun e w'=>e=bE (.tuple #[])/\FS sb w w'/\kS fp F w' sb mb mo st s (n+1):=by
 obtain⟨f',t',o',rfl,⟨Y,T,P,rfl⟩,⟨O,U,N,rfl⟩,⟨V,X,Q,rfl⟩⟩:=hv.form;obtain⟨fv,tv,ov,ev,S,h1,h2,h3,h4,h5,h6,h7⟩:=h.blk;have I:=h.lt;have ae:=h3;obtain⟨x,c,rfl⟩:=cY h3;obtain⟨y,B⟩:∃y,y=w.alloc (.cells #[Iv0 f.time,.slice Y T P,.slice O U N,.slice V X Q,Iv0 f.stop] 60):=⟨_,rfl⟩;have C:Below w.heap.size w y:=by rw[B];exact(Y8 _ _).alloc dH _
 have ai:y.heap[w.heap.size]?=some (.cells #[Iv0 f.time,.slice Y T P,.slice O U N,.slice V X Q,Iv0 f.stop] 60 (0,0)):=by rw[B];exact aU _ _ rfl _
 have av:y.heap.size=w.heap.size+1:=by rw[B];simp
 have H:∀k,(Value.slice x n c).ownBlock=some k->sb<k/\k<w.heap.size:=fun k j=>by have:=ae.lt k j;exact⟨by omega,this.2⟩
 refine(JI w sb n x c f.time f.time f.stop Y O V T U X P N Q (fun w'=>FS sb w w'/\kS fp F w' sb mb mo st s (n+1)) (fun W=>Below y.heap.size y W)
  (fun g l W=>(∀k,k<y.heap.size->some k≠(Value.slice x n c).ownBlock->W.heap[k]?=y.heap[k]?)/\W.os=w.os/\W.tape=w.tape/\W.output=w.output/\y.heap.size<=W.heap.size/\((Value.slice x n c).ownBlock=some g\/y.heap.size<=g)/\W.ownsRow (sb+1) 151 6 (.slice (some (aL g 0)) (n+1) l) (n+1) (jE S++[Iv0 f.time,Iv0 0,bV,bV,bV,Iv0 0])) (by omega) ?_ (fun W hW=>?_) (fun g l W hW=>?_))
 ·show Calls _ _ _ _ _
  rw[<-B];refine(FL (h.grow C eD (fun _ h=>Y4 h)) f.time hn).mono ?_
  rintro e w' ⟨a,fd,rfl,hb,hf⟩
  have e1:a=n:=by
   refine Nat.le_antisymm hf.le ?_;rcases l6 a n with m|m
   ·have:=hf.hi a m dH;omega
   ·exact m
  have e2:fd=false:=by
   cases fd with
   |false=>rfl
   |true=>have:=(hf.fnd.1 rfl).1;omega
  exact⟨by rw[e1,e2],hb⟩
 ·have o:Below w.heap.size w W:=C.trans (hW.mono (by omega))
  have ao:=iS ae o;refine⟨Y7 I o.size,aA (by rw[o.block _ I];exact h1) rfl,?_⟩
  refine(SD _ (sb+1) W.heap.size n (.slice x n c) (jE S) f.time (ao.alloc _) (aU _ _ rfl _) (by omega) (by have:=o.size;simp;omega)).mono ?_
  rintro e w' ⟨g,l,rfl,q1,q2,q3⟩;have aw:=hW.size;have aq:=q2.size;simp only[World.size_alloc] at aq;refine⟨g,l,rfl,fun k j q=>?_,?_,?_,?_,by omega,?_,q1⟩
  ·rw[q2.block k (by simp;omega) q,Z3 _ _ _ (by omega),hW.block k j]
  ·exact q2.os.trans o.os
  ·exact q2.tape.trans o.tape
  ·exact q2.output.trans o.output
  ·rcases q3 with q3|q3
   ·exact Y4 q3
   ·exact Y3 (by rw[q3];simp;omega)
 ·obtain⟨b1,b2,b3,b4,b5,b6,b7⟩:=hW;have ap:=b7;have t:g≠sb:=by have:=(b7.lt g rfl).1;omega
  have aj:g≠w.heap.size:=by
   rcases b6 with m|m
   ·have:=H g m;omega
   ·omega
  rcases b7.2 with ⟨r1,_⟩|⟨g',ar,aa,r1,r2,r3,r4,r5,r6,r7⟩
  ·cases r1
  cases r1
  have u:W.heap[sb]?=some (.cells #[Iv0 s.time,fv,tv,ov,Iv0 s.stop,.slice x n c,.map (some mb)] 66 (0,0)):=by
   rw[b1 sb (by omega) (fun e=>by have:=H sb e.symm;omega),C.block _ I];exact h1
  have am:n*6+5<aa.size:=by rw[r6];omega
  refine⟨by omega,t,aj,by omega,⟨_,aA u rfl⟩,aE u,aD r3,⟨aa,r3,am⟩,by rw[b1 _ (by omega) (fun e=>by have:=H _ e.symm;omega)];exact ai,fun Z M=>?_⟩
  generalize K:W.setCell (aL sb 5) (.slice (some (aL g 0)) (n+1) l)=A at M;have ag:∀k,k≠sb->A.heap[k]?=W.heap[k]?:=fun k j=>by rw[<-K];exact Y6 _ _ _ _ j
  have ad:A.heap[sb]?=some (.cells #[Iv0 s.time,fv,tv,ov,Iv0 s.stop,.slice (some (aL g 0)) (n+1) l,.map (some mb)] 66 (0,0)):=by rw[<-K];exact aT u
  have p:A.os=W.os/\A.tape=W.tape/\A.output=W.output/\A.heap.size=W.heap.size:=by rw[<-K];exact⟨rfl,rfl,rfl,by simp⟩
  have ac:∀k,k≠g->Z.heap[k]?=A.heap[k]?:=fun k j=>by rw[M.heap];exact GC A g _ _ _ _ _ _ _ _ _ _ k j
  obtain⟨a1,a2,a3,a4⟩:=TT A (aL g (n*6+1)) (aL g (n*6+2)) (aL g (n*6+3)) (aL g (n*6+4)) (aL g (n*6+5)) (Iv0 f.time) (.slice Y T P) (.slice O U N) (.slice V X Q) (Iv0 f.stop);have ab:Z.heap.size=W.heap.size:=by rw[M.heap,a4,p.2.2.2]
  have E:∀k,k<w.heap.size->k≠sb->some k≠(Value.slice x n c).ownBlock->Z.heap[k]?=w.heap[k]?:=fun k j q hr=>by
   have ak:k≠g:=fun e=>by
    rcases b6 with m|m
    ·exact hr (by rw[e];exact m.symm)
    ·omega
   rw[ac k ak,ag k q,b1 k (by omega) hr,C.block k j]
  have G:∀k,F k->Z.heap[k]?=w.heap[k]?:=fun k j=>E k (h.fix k j).1 (h.fix k j).2.1 fun e=>h6 k j e.symm
  have an:=aD h.map.1;have r:lV sb w=(Value.slice x n c).ownBlock:=mA h1 rfl;have D:Z.heap[sb]?=some (.cells #[Iv0 s.time,fv,tv,ov,Iv0 s.stop,.slice (some (aL g 0)) (n+1) l,.map (some mb)] 66 (0,0)):=by rw[ac sb (fun e=>t e.symm)];exact ad
  obtain⟨z,hz⟩:∃z:Ent,z=⟨f.time,0,bV,bV,bV,0⟩:=⟨_,rfl⟩
  have J:A.ownsRow (sb+1) 151 6 (.slice (some (aL g 0)) (n+1) l) (n+1) (jE (S++[z])):=by
   rw[JP,hz];exact bA ap fun k e=>ag k (by cases e;exact t)
  have L:(S++[z]).length=n+1:=by simp[h4]
  have al:(S++[z])[n]'(by rw[L];omega)=z:=by rw[as_ (by omega)];simp
  have af:=B4 (W:=Z) (i:=n) (k0:=f.time) (a:=f.time) (b:=.slice Y T P) (c:=.slice O U N) (d:=.slice V X Q) (e:=f.stop) L J (by rw[L];omega) (by rw[al,hz]) M.heap
  refine⟨⟨M.os.trans (a1.trans (p.1.trans b2)),M.tape.trans (a2.trans (p.2.1.trans b3)),M.output.trans (a3.trans (p.2.2.1.trans b4)),by rw[ab];omega,fun k j q hr=>E k j q (fun e=>hr (by rw[r];exact e.symm)),fun k j=>?_⟩,⟨fv,tv,ov,.slice (some (aL g 0)) (n+1) l,(S++[z]).set n ⟨f.time,f.time,.slice Y T P,.slice O U N,.slice V X Q,f.stop⟩,D,h2.keep G eD,?_,by simp[h4],fun i hi=>?_,fun k j e=>?_,fun e=>?_⟩,h.now,fun k j=>?_,?_⟩
  ·rw[mA D rfl] at j;cases j;rcases b6 with m|m
   ·exact Y4 (by rw[r];exact m)
   ·exact Y3 (by show w.heap.size<=g;omega)
  ·exact af
  ·have au:i<n+1:=by simpa [h4] using hi
   by_cases ah:i=n
   ·subst ah;rw[List.getElem_set_self];refine⟨by show (f.time:Int)=_;omega,f,?_,hv.keep G eD⟩
    rw[show 20*i=f.time by omega];exact hs
   ·rw[List.getElem_set_ne (fun e=>ah e.symm),aw_ (by omega)]
    exact(h5 i (by omega)).keep G eD
  ·have e':g=k:=by simpa [Value.ownBlock] using e
   rcases b6 with m|m
   ·exact h6 k j (by rw[<-e'];exact m)
   ·have:=(h.fix _ j).1;omega
  ·have e':g=mb:=by simpa [Value.ownBlock] using e
   rcases b6 with m|m
   ·exact h7 (by rw[<-e'];exact m)
   ·omega
  ·have:=h.fix k j;exact⟨by rw[ab];omega,this.2⟩
  ·exact⟨by rw[E mb an h.map.2 (fun e=>h7 e.symm)];exact h.map.1,h.map.2⟩
def FK(h:kS fp F w sb mb mo st s n)(v:aQ)(a:cD)(z:nO fp F w v a)(u:st a.time=some a)(D:a.time%20=0->a.time/20<=n)(y:n<=1000)(i:a.time<=1000000):
 Calls prog 45 #[bO sb,v] w fun e w'=>e=bE (.tuple #[])/\FS sb w w'/\kS fp F w' sb mb mo st s (if a.time%20=0/\a.time/20=n then n+1 else n):=by
 obtain⟨H,G,I,rfl,⟨B,A,q,rfl⟩,⟨x,C,r,rfl⟩,⟨o,p,t,rfl⟩⟩:=z.form;by_cases b:a.time%20=0
 ·refine QL w sb a.time a.stop B x o A C p q r t _ b i fun W g=>?_
  have d:=h.grow g eD (fun _ h=>Y4 h)
  have c:=z.keep (fun k E=>g.block k (h.fix k E).1) eD
  rcases p9 (D b) with e|e
  ·rw[if_pos ⟨b,e⟩];refine(XO d _ a c u b e y).mono ?_;rintro e w' ⟨f,j,l⟩;exact⟨f,(FS.of_below g h.lt).trans j,l⟩
  ·rw[if_neg (by omega)]
   refine(XP d _ a c u b e y i).mono ?_;rintro e w' ⟨f,j,l⟩;exact⟨f,(FS.of_below g h.lt).trans j,l⟩
 ·rw[if_neg (fun e=>b e.1)]
  refine(VQ w sb a.time a.stop B x o A C p q r t b i).mono ?_;rintro e w' ⟨f,m⟩;exact⟨f,FS.of_below m h.lt,h.grow m eD (fun _ h=>Y4 h)⟩
end
end Go.Proofs.YtddnpoiiimjpcaaGreatDoor
