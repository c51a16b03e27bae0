/- Contracts of the program: the store of states: where a key stands. -/
import Derived.Test.YthbffcmfmjpncaaGreatDoorP12s
set_option linter.defProp false
set_option maxRecDepth 100000
set_option maxHeartbeats 4000000
namespace Go.Proofs.YthbffcmfmjpncaaGreatDoor
open Hs
open _root_.Go.Proofs.Tryz
open Go.RowKit
variable{sb:Nat}{w w':World}
def pS(x y:Int):Int:=if x<y then -1 else if x>y then 1 else 0
def ZJ{x y:Int}(h:¬x=y):¬pS x y=0:=by
 unfold pS;split
 ·omega
 ·split<;>omega
def DJ(x:Int)(w:World):Calls prog 202 #[.int .i64 x] w λe w'=>e=.returned (.bool false)/\w'=w:=by
 go_enter func202,ntmps202;go_wp2_with fail;go_ret;exact⟨s_,rfl⟩
def KQ(x y:Int)(w:World):Calls prog 155 #[.int .i64 x,.int .i64 y] w λe w'=>e=.returned (.int .i64 (pS x y))/\w'=w:=by
 go_enter func155,ntmps155;go_wp2_with fail;refine(DJ x w).mono ?_;rintro e d ⟨rfl,rfl⟩;go_wp2_with fail;refine(DJ y d).mono ?_;rintro e f ⟨rfl,rfl⟩;by_cases b:x<y
 ·have a:Hid (pS x y= -1):=by show _=_;unfold pS;rw[if_pos b]
  go_wp2_with fail;go_ret;exact⟨by rw[a.out];rfl,rfl⟩
 ·by_cases c:y<x
  ·have a:Hid (pS x y=1):=by show _=_;unfold pS;rw[if_neg b,if_pos c]
   go_wp2_with fail;go_ret;exact⟨by rw[a.out];rfl,rfl⟩
  ·have a:Hid (pS x y=0):=by show _=_;unfold pS;rw[if_neg b,if_neg c]
   go_wp2_with fail;go_ret;exact⟨by rw[a.out];rfl,rfl⟩
def DW(k f:Int)(a b c d e:Value)(w:World)(i:∃x l c,b=.slice x l c)(p:∃x l d,c=.slice x l d)(g:∃x l c,d=.slice x l c)(o:∃n,a=.int .i64 n)(m:∃n,e=.int .i64 n):
 Calls prog 154 #[.agg #[.int .i64 k,a,b,c,d,e],.int .i64 f] w λj w'=>j=.returned (.int .i64 (pS k f))/\w'=w.alloc (.cells #[.int .i64 k,a,b,c,d,e] 202):=by
 obtain⟨_,_,_,rfl⟩:=i;obtain⟨_,_,_,rfl⟩:=p;obtain⟨_,_,_,rfl⟩:=g;obtain⟨_,rfl⟩:=o;obtain⟨_,rfl⟩:=m;go_enter func154,ntmps154;go_wp2_with fail;refine(KQ k f _).mono ?_;rintro e q ⟨rfl,rfl⟩;go_wp2_with fail;go_ret;exact⟨rfl,rfl⟩
def B5(a b:Value)(W:World):(callFunc 154 #[a,b]).run prog W=.ok (.enter 154 #[a,b]) W:=k_
structure Ent where
 k:Int
 a:Int
 b:Value
 c:Value
 d:Value
 e:Int
def Ent.cells(x:Ent):List Value:=[.int .i64 x.k,.int .i64 x.a,x.b,x.c,x.d,.int .i64 x.e]
def gO:List Ent->List Value
 |[]=>[]
 |x::l=>x.cells++gO l
structure Ent.Ok(x:Ent):Prop where
 b:∃y l c,x.b=.slice y l c
 c:∃y l c,x.c=.slice y l c
 d:∃y l c,x.d=.slice y l c
def XW(w:World)(g:Nat)(es:List Ent):Prop:=∀i (h:i<es.length),es[i].Ok/\w.cell? ⟨g,i*6,none⟩=some (.int .i64 es[i].k)/\w.cell? ⟨g,i*6+1,none⟩=some (.int .i64 es[i].a)/\w.cell? ⟨g,i*6+2,none⟩=some es[i].b/\w.cell? ⟨g,i*6+3,none⟩=some es[i].c/\w.cell? ⟨g,i*6+4,none⟩=some es[i].d/\w.cell? ⟨g,i*6+5,none⟩=some (.int .i64 es[i].e)
structure Found(es:List Ent)(key:Int)(at_:Nat)(found:Bool):Prop where
 le:at_<=es.length
 lo:∀i (h:i<es.length),i<at_->es[i].k<key
 hi:∀i (h:i<es.length),at_<=i->key<=es[i].k
 fnd:found=true↔∃h:at_<es.length,es[at_].k=key
def MF(g aa:Nat)(b:List Ent)(c:Int)(w:World)(hl:b.length<=100000)(Y:g<w.heap.size)(he:XW w g b)(hs:∀i j (hi:i<b.length) (hj:j<b.length),i<=j->b[i].k<=b[j].k):
 Calls prog 153 #[.slice (some ⟨g,0,none⟩) b.length aa,.int .i64 c,.func (.func 154) #[] #[]] w λe w'=>∃H fd,e=.returned (.tuple #[.int .i64 (H:Nat),.bool fd])/\Below w.heap.size w w'/\Found b c H fd:=by
 have HE:=aB he;have Z:=aB hs;clear he hs;have af:=B5;go_enter func153,ntmps153;go_wp2_with fail;go_loopg [9,10,11] b.length (λgk iv jv _ wr=>∃i j:Nat,iv=.int .i64 i/\jv=.int .i64 j/\i<=j/\j<=b.length/\j-i<=gk/\Below w.heap.size w wr/\(∀k (h:k<b.length),k<i->b[k].k<c)/\(∀k (h:k<b.length),j<=k->c<=b[k].k))
 case atStart=>exact⟨0,b.length,rfl,rfl,o_,o_,o_,F9 _ _,λk h x=>by omega,λk h x=>by omega⟩
 case round=>
  obtain⟨i,j,rfl,rfl,ad,hj,ae,n,f,d⟩:=hrel;by_cases ac:i<j
  ·have q:=aB (I8 f d);have hm:(i+j)/2<b.length:=o_
   obtain⟨z,y,B,t,v,r,A⟩:=HE.out _ hm;have a:∀o u,w.cell? ⟨g,o,none⟩=some u->wr.cell? ⟨g,o,none⟩=some u:=λo u hu=>by rw[n.cell (p:=⟨g,o,none⟩) Y];exact hu
   have y:=a _ _ y;have B:=a _ _ B;have t:=a _ _ t;have v:=a _ _ v;have r:=a _ _ r;have A:=a _ _ A;have ab:g<wr.heap.size:=G3 Y n.size;have s:=aB n;have I:Hid (∀k (h:k<b.length),(k<=(i+j)/2->b[k].k<=b[(i+j)/2].k)/\((i+j)/2<=k->b[(i+j)/2].k<=b[k].k)):=λk h=>⟨λx=>Z.out _ _ h hm x,λx=>Z.out _ _ hm h x⟩
   obtain⟨J,U,O,M⟩:=z.b;obtain⟨X,V,F,T⟩:=z.c;obtain⟨N,S,G,W⟩:=z.d;rw[M] at t;rw[T] at v;rw[W] at r;generalize b[(i+j)/2].k=mk at*;generalize b[(i+j)/2].a=Q at*;generalize b[(i+j)/2].e=P at*;clear f d n M T W a;have K:=aB (DW mk c (.int .i64 Q) (.slice J U O) (.slice X V F) (.slice N S G) (.int .i64 P) wr ⟨_,_,_,rfl⟩ ⟨_,_,_,rfl⟩ ⟨_,_,_,rfl⟩ ⟨_,rfl⟩ ⟨_,rfl⟩);go_wp2_with fail;refine K.out.mono ?_;rintro e w1 ⟨rfl,rfl⟩;have m:=aB (s.out.trans (((F9 _ wr).alloc (F6 _) (.cells #[.int .i64 mk,.int .i64 Q,.slice J U O,.slice X V F,.slice N S G,.int .i64 P] 202)).mono s.out.size));clear s K y B t v r A;by_cases l:mk<c
   ·have E:pS mk c= -1:=by unfold pS;rw[if_pos l]
    rw[E];have D:=aB l;clear l E;go_wp2_with fail;go_roundg ((gk-1))
    case measure=>omega
    case rel=>
     refine⟨(i+j)/2+1,j,by go_num,rfl,o_,hj,o_,m.out,λk h x=>?_,q.out.2⟩
     exact Int.lt_of_le_of_lt ((I.out k h).1 o_) D.out
   ·have E:0<=pS mk c:=by unfold pS;rw[if_neg l];split<;>omega
    have D:=aB l;clear l;go_wp2_with fail;go_roundg (gk-1)
    case measure=>omega
    case rel=>
     refine⟨i,(i+j)/2,rfl,by go_num,o_,o_,o_,m.out,q.out.1,λk h x=>?_⟩
     have:=(I.out k h).2 x;have:=D.out;omega
  ·obtain rfl:i=j:=o_
   by_cases hn:i<b.length
   ·have q:=aB (I8 f d);obtain⟨z,y,B,t,v,r,A⟩:=HE.out _ hn;have a:∀o u,w.cell? ⟨g,o,none⟩=some u->wr.cell? ⟨g,o,none⟩=some u:=λo u hu=>by rw[n.cell (p:=⟨g,o,none⟩) Y];exact hu
    have y:=a _ _ y;have B:=a _ _ B;have t:=a _ _ t;have v:=a _ _ v;have r:=a _ _ r;have A:=a _ _ A;have ab:g<wr.heap.size:=G3 Y n.size;have s:=aB n;obtain⟨J,U,O,M⟩:=z.b;obtain⟨X,V,F,T⟩:=z.c;obtain⟨N,S,G,W⟩:=z.d;rw[M] at t;rw[T] at v;rw[W] at r;obtain⟨mk,C⟩:=E_ (b[i].k);rw[<-C] at y;have L:=aB C;generalize b[i].a=Q at*;generalize b[i].e=P at*;clear f d n M T W a C z HE Z;have K:=aB (DW mk c (.int .i64 Q) (.slice J U O) (.slice X V F) (.slice N S G) (.int .i64 P) wr ⟨_,_,_,rfl⟩ ⟨_,_,_,rfl⟩ ⟨_,_,_,rfl⟩ ⟨_,rfl⟩ ⟨_,rfl⟩);go_wp2_with fail;refine K.out.mono ?_;rintro e w1 ⟨rfl,rfl⟩;have m:=aB (s.out.trans (((F9 _ wr).alloc (F6 _) (.cells #[.int .i64 mk,.int .i64 Q,.slice J U O,.slice X V F,.slice N S G,.int .i64 P] 202)).mono s.out.size));clear s K y B t v r A;by_cases l:mk=c
    ·have E:pS mk c=0:=by unfold pS;rw[if_neg o_,if_neg o_]
     rw[E];have D:=aB l;clear l E;go_wp2_with fail;go_ret2
     refine⟨i,true,rfl,m.out,M6 hn,q.out.1,q.out.2,?_⟩;simp only[true_iff];exact⟨hn,L.out.symm.trans D.out⟩
    ·have E:(pS mk c==0)=false:=by simpa using ZJ l
     have D:=aB l;clear l;go_wp2_with fail;go_ret2
     refine⟨i,false,rfl,m.out,M6 hn,q.out.1,q.out.2,?_⟩;simp only[Bool.false_eq_true,false_iff];rintro⟨_,e⟩;exact D.out (L.out.trans e)
   ·have q:=aB (I8 f d);have s:=aB n;clear f d n HE Z;go_wp2_with fail;go_ret2
    refine⟨i,false,rfl,s.out,o_,q.out.1,q.out.2,?_⟩
    simp only[Bool.false_eq_true,false_iff];rintro⟨h,_⟩;omega
def ME(a:Int)(w:World):
 Calls prog 153 #[.slice none 0 0,.int .i64 a,.func (.func 154) #[] #[]] w λe w'=>e=.returned (.tuple #[.int .i64 0,.bool false])/\w'=w:=by
 go_enter func153,ntmps153;go_wp2_with fail;go_loopg [9,10,11] 0 (λ_ b c _ wr=>b=.int .i64 0/\c=.int .i64 0/\wr=w)
 case atStart=>exact⟨rfl,rfl,rfl⟩
 case round=>
  obtain⟨rfl,rfl,rfl⟩:=hrel;go_wp2_with fail;go_ret2
  exact⟨rfl,rfl⟩
def YX:(prog.info? 202).map (λi=>(i.zero,i.size,i.bytes))=some (some (.agg #[.int .i64 0,.int .i64 0,.slice none 0 0,.slice none 0 0,.slice none 0 0,.int .i64 0]),6,96):=k_
def DV(w:World)(sb:Nat)(x:Option Addr)(n c:Nat)(b:Int)(P:Int->Bool->World->Prop)(k:w.cell? ⟨sb,5,none⟩=some (.slice x n c))
 (i:Hid (Calls prog 153 #[.slice x n c,.int .i64 b,.func (.func 154) #[] #[]] w λe w'=>∃a f,e=.returned (.tuple #[.int .i64 a,.bool f])/\P a f w')):
 Calls prog 106 #[.pointer (some ⟨sb,5,none⟩),.int .i64 b] w λe w'=>∃a f,e=.returned (.tuple #[.int .i64 a,.bool f])/\P a f w':=by
 go_enter func106,ntmps106;go_wp2_with fail;refine i.out.mono ?_;rintro e j ⟨a,f,rfl,d⟩;have g:=aB d;clear d;go_wp2_with fail;go_ret2
 exact⟨a,f,rfl,g.out⟩
def zE(w:World)(sb g n y b:Nat)(k a e:Int)(v s l:Option Addr)(t x m c1 p q:Nat)(P Q:World->Prop)(E:b<n)
 (F:Hid (Calls prog 106 #[.pointer (some ⟨sb,5,none⟩),.int .i64 k] (w.alloc (.cells #[.int .i64 a,.slice v t c1,.slice s x p,.slice l m q,.int .i64 e] 72)) λr w'=>r=.returned (.tuple #[.int .i64 b,.bool true])/\Q w'))
 (B:Hid (∀W,Q W->sb<W.heap.size/\W.cell? ⟨sb,5,none⟩=some (.slice (some ⟨g,0,none⟩) n y)/\g<W.heap.size/\(∃c,W.heap[g]?=some (.cells c 202 (0,0))/\b*6+5<c.size)/\W.heap[w.heap.size]?=some (.cells #[.int .i64 a,.slice v t c1,.slice s x p,.slice l m q,.int .i64 e] 72 (0,0))/\
   ∀C,bV (((((W.setCell ⟨g,b*6+1,none⟩ (.int .i64 a)).setCell ⟨g,b*6+2,none⟩ (.slice v t c1)).setCell ⟨g,b*6+3,none⟩ (.slice s x p)).setCell ⟨g,b*6+4,none⟩ (.slice l m q)).setCell ⟨g,b*6+5,none⟩ (.int .i64 e)) C->P C)):
 Calls prog 69 #[.pointer (some ⟨sb,5,none⟩),.int .i64 k,.agg #[.int .i64 a,.slice v t c1,.slice s x p,.slice l m q,.int .i64 e]] w λr w'=>r=.returned (.tuple #[])/\P w':=by
 go_enter func69,ntmps69;go_wp2_with fail;refine F.out.mono ?_;rintro r z ⟨rfl,D⟩;obtain⟨U,q2,X,⟨c,f,G⟩,d,A⟩:=B.out _ D;have H:=aB A;have T:=aA d (i:=0) rfl;have I:=aA d (i:=1) rfl;have k2:=aA d (i:=2) rfl;have N:=aA d (i:=3) rfl;have V:=aA d (i:=4) rfl;have hl:=aD d;have j:∀o,o<=b*6+5->∃u,z.cell? ⟨g,o,none⟩=some u:=λo Z=>⟨c[o]'(by omega),by rw[cell_of_row z g o c _ _ f];exact O8 o_⟩
 obtain⟨u1,m1⟩:=j (b*6+1) o_
 obtain⟨u2,J⟩:=j (b*6+2) o_
 obtain⟨u3,K⟩:=j (b*6+3) o_
 obtain⟨u4,m4⟩:=j (b*6+4) o_
 obtain⟨u5,m5⟩:=j (b*6+5) o_
 have S:=aE f (i:=b*6+1);have M:=aE f (i:=b*6+2);have z3:=aE f (i:=b*6+3);have O:=aE f (i:=b*6+4);have L:=aE f (i:=b*6+5);have e1:(0:Int)<=(b:Int):=o_
 have Y:(b:Int)<(n:Int):=o_
 clear D f G d A j B;go_wp2_with fail;go_region
 all_goals
  go_wp2_with fail;go_end0;exact⟨rfl,H.out _ (bV.drew _)⟩
def NQ(w:World)(b_ b n:Nat)(v:Value)(xs:List Value)(i:Int)(a:w.ownsRow b_ 202 6 v n xs)(u:w.heap[b]?=some (.cells #[.int .i64 i,.int .i64 0,.slice none 0 0,.slice none 0 0,.slice none 0 0,.int .i64 0] 202 (0,0)))(N:n<=100000)(l:b_<=w.heap.size):
 Calls prog 107 #[v,.int .i64 n,.slice (some ⟨b,0,none⟩) 1 1] w λe w'=>∃g m,e=.returned (.slice (some ⟨g,0,none⟩) (n+1) m)/\w'.ownsRow b_ 202 6 (.slice (some ⟨g,0,none⟩) (n+1) m) (n+1) (xs++[.int .i64 i,.int .i64 0,.slice none 0 0,.slice none 0 0,.slice none 0 0,.int .i64 0])/\w.grownBy w' v.ownBlock/\(v.ownBlock=some g\/g=w.heap.size):=by
 obtain⟨C,I,q,s,t⟩:=info_parts YX;obtain⟨x,c,rfl⟩:=dV a;have F:=aB a;have H:=aB (World.news_of_block u);have k:∀v∈([.int .i64 i,.int .i64 0,.slice none 0 0,.slice none 0 0,.slice none 0 0,.int .i64 0]:List Value),v.oneCell'=true:=λv y=>by simp at y;rcases y with rfl|rfl|rfl|rfl<;>rfl
 have HONE:=aB k
 have J:(x=none/\n=0/\c=0)\/(∃g,x=some ⟨g,0,none⟩/\n<c)\/∃g,x=some ⟨g,0,none⟩/\c=n:=by
  rcases a.2 with ⟨p,K⟩|⟨g,m,E,p,K,M,A,_⟩
  ·cases p;exact F7 ⟨rfl,rfl,rfl⟩
  ·cases p;rcases M3 A with e|e
   ·exact F5 (F5 ⟨g,rfl,e.symm⟩)
   ·exact F5 (F7 ⟨g,rfl,e⟩)
 clear a k u;rcases J with ⟨rfl,rfl,rfl⟩|⟨B,rfl,G⟩|⟨B,rfl,rfl⟩
 all_goals
  go_enter func107,ntmps107;go_wp2_with (at_builtin;refine wpList_append_lies _ r_ _ _ 73 r_ b_ 202 C _ 6 96 underlying73 I q s t rfl d_ _ _ xs r_ F.out ⟨b,0,none⟩ 1 1 [.int .i64 i,.int .i64 0,.slice none 0 0,.slice none 0 0,.slice none 0 0,.int .i64 0] r_ r_ (H.out) HONE.out d_ (by unfold maxLen;omega) o_ l w.heap.size rfl ?_)
  intro D o L f d j z;have r:=aB (I8 f (I8 d j));clear f d j;go_wp2_with fail;go_ret;exact⟨D,o,rfl,r.out.1,r.out.2.1,r.out.2.2⟩
def FK(w:World)(sb n:Nat)(x:Option Addr)(c:Nat)(j a e:Int)(A r y:Option Addr)(t v z c1 q s:Nat)(P Q:World->Prop)(R:Nat->Nat->World->Prop)(hn:n<=100000)
 (D:Hid (Calls prog 106 #[.pointer (some ⟨sb,5,none⟩),.int .i64 j] (w.alloc (.cells #[.int .i64 a,.slice A t c1,.slice r v q,.slice y z s,.int .i64 e] 72)) λp w'=>p=.returned (.tuple #[.int .i64 n,.bool false])/\Q w'))
 (F:Hid (∀W,Q W->sb<W.heap.size/\W.cell? ⟨sb,5,none⟩=some (.slice x n c)/\Calls prog 107 #[.slice x n c,.int .i64 n,.slice (some ⟨W.heap.size,0,none⟩) 1 1] (W.alloc (.cells #[.int .i64 j,.int .i64 0,.slice none 0 0,.slice none 0 0,.slice none 0 0,.int .i64 0] 202)) λe w'=>∃g b,e=.returned (.slice (some ⟨g,0,none⟩) (n+1) b)/\R g b w'))
 (B:Hid (∀g b W,R g b W->sb<W.heap.size/\g≠sb/\g≠w.heap.size/\sb≠w.heap.size/\(∃u,W.cell? ⟨sb,5,none⟩=some u)/\W.frozen? ⟨sb,5,none⟩=false/\g<W.heap.size/\(∃d,W.heap[g]?=some (.cells d 202 (0,0))/\n*6+5<d.size)/\W.heap[w.heap.size]?=some (.cells #[.int .i64 a,.slice A t c1,.slice r v q,.slice y z s,.int .i64 e] 72 (0,0))/\
   ∀G,bV ((((((W.setCell ⟨sb,5,none⟩ (.slice (some ⟨g,0,none⟩) (n+1) b)).setCell ⟨g,n*6+1,none⟩ (.int .i64 a)).setCell ⟨g,n*6+2,none⟩ (.slice A t c1)).setCell ⟨g,n*6+3,none⟩ (.slice r v q)).setCell ⟨g,n*6+4,none⟩ (.slice y z s)).setCell ⟨g,n*6+5,none⟩ (.int .i64 e)) G->P G)):
 Calls prog 69 #[.pointer (some ⟨sb,5,none⟩),.int .i64 j,.agg #[.int .i64 a,.slice A t c1,.slice r v q,.slice y z s,.int .i64 e]] w λp w'=>p=.returned (.tuple #[])/\P w':=by
 go_enter func69,ntmps69;go_wp2_with fail;refine D.out.mono ?_;rintro p w0 ⟨rfl,I⟩;obtain⟨O,M,E⟩:=F.out _ I;have m:=aB E;clear I E F D;go_wp2_with fail;refine m.out.mono ?_;rintro p H ⟨g,b,rfl,J⟩;obtain⟨q1,U,T,X,⟨v5,g4⟩,g5,Z,⟨d,k,N⟩,f,C⟩:=B.out _ _ _ J;have V:=aB C;have k0:=aA f (i:=0) rfl;have k1:=aA f (i:=1) rfl;have k2:=aA f (i:=2) rfl;have k3:=aA f (i:=3) rfl;have k4:=aA f (i:=4) rfl;have hl:=aD f;have l:∀o,o<=n*6+5->∃u,H.cell? ⟨g,o,none⟩=some u:=λo ho=>⟨d[o]'(by omega),by rw[cell_of_row H g o d _ _ k];exact O8 o_⟩
 obtain⟨u1,m1⟩:=l (n*6+1) o_
 obtain⟨u2,m2⟩:=l (n*6+2) o_
 obtain⟨u3,m3⟩:=l (n*6+3) o_
 obtain⟨u4,m4⟩:=l (n*6+4) o_
 obtain⟨u5,m5⟩:=l (n*6+5) o_
 have z1:=aE k (i:=n*6+1);have z2:=aE k (i:=n*6+2);have z3:=aE k (i:=n*6+3);have Y:=aE k (i:=n*6+4);have z5:=aE k (i:=n*6+5);have e1:(0:Int)<=(n:Int):=o_
 have e2:(n:Int)<((n+1:Nat):Int):=o_
 have S:¬sb=g:=λe=>U e.symm
 have K:¬w.heap.size=g:=λe=>T e.symm
 have L:¬w.heap.size=sb:=λe=>X e.symm
 clear J k N f C l B O M m;go_wp2_with fail;go_region
 all_goals
  go_wp2_with fail;go_end0;exact⟨rfl,V.out _ (bV.drew _)⟩
def xP(a e:Int)(f j g:Option Addr)(c i k c1 b d:Nat)(w:World):Calls prog 62 #[.agg #[.int .i64 a,.slice f c c1,.slice j i b,.slice g k d,.int .i64 e]] w λl w'=>l=.returned (.int .i64 a)/\w'=w.alloc (.cells #[.int .i64 a,.slice f c c1,.slice j i b,.slice g k d,.int .i64 e] 72):=by
 go_enter func62,ntmps62;go_wp2_with fail;go_ret;exact⟨rfl,rfl⟩
def rC:∀(l:List aH) (a v:aH),(fJ l a v).2<=9
 |[],_,_=>by simp[fJ]
 |i::l,a,v=>by
  unfold fJ;have:=rC l (a.l.getD i.n.toNat cJ) v;repeat' split
  all_goals first|(simp;done)|exact this
def vR{r:aH × Nat}(h:r.2<=9):(kI r).2<=9:=by
 unfold kI;split
 ·split
  ·simp
  ·exact h
 ·exact h
def QQ(op:List UInt8)(a b:aH):(cD op a b).2<=9:=by
 unfold cD gN gM;repeat' split
 all_goals first|(simp;done)|(simp only[];split<;>simp)
def SG(op:List UInt8)(a:aH):(eE op a).2<=9:=by
 unfold eE;repeat' split
 all_goals simp
def JQ(a b:aH):(mU a b).2<=9:=by
 unfold mU;repeat' split
 all_goals simp
def FJ(a:aH):(kW a).2<=9:=by
 unfold kW;repeat' split
 all_goals simp
def FO(i:aJ)(f:aF):(aP i f).2<=9:=by
 cases i<;>simp only[aP]
 case assign k n=>
  have:=vR (rC (f.pop.many n) (f.g_[k]?.getD cJ) f.last);split
  ·simp
  ·exact this
 case unary op=>
  have:=SG (op++[120]) f.last;split
  ·simp
  ·exact this
 case binary op=>
  have:=QQ op f.pop.last f.last;split
  ·simp
  ·exact this
 case index=>
  have:=JQ f.pop.last f.last;split
  ·simp
  ·exact this
 case list n=>
  have:=vR (r:=(bC (f.many n),0)) s_
  split
  ·simp
  ·exact this
 case length=>
  have:=FJ f.last;split
  ·simp
  ·exact this
 all_goals (repeat' split)<;>simp
def XE(b:List dN)(i:aJ)(a:List aF)(f:aF)(t:List Int)(o:List (List UInt8)):(bU b i a f t o).2<=9:=by
 cases i<;>simp only[bU]<;>first|exact FO _ _|skip
 case read=>cases t<;>simp
 case call=>split<;>simp
 case give=>simp
 case print=>split<;>simp
structure Rest(n:Nat)(m:bO):Prop where
 utf:kM m
 out:m.out.length<=50
 tape:m.tape.length<=n
def GX{a:List dN}(o:uX a){n:Nat}:∀(k:Nat) (m:bO) (r:bO × Nat),Rest n m->eQ a k m=some r->Rest n r.1/\r.2<=9
 |0,_,_,_,h=>by cases h
 |k+1,m,r,c,h=>by
  rw[eQ] at h;cases j:m.f_.getLast? with
  |none=>
   rw[j] at h;simp only[Option.some.injEq] at h;subst h;exact⟨c,s_⟩
  |some f=>
   rw[j] at h;simp only at h;cases e:f.fetch with
   |none=>rw[e] at h;cases h
   |some q=>
    obtain⟨i,g⟩:=q;rw[e] at h;simp only at h
    have d:m.f_=m.f_.dropLast++[f]:=by
     obtain⟨t,s⟩:=List.getLast?_eq_some_iff.1 j;rw[s];simp
    have b:kM ⟨m.f_.dropLast++[f],m.tape,m.out⟩:=by
     have:=c.utf;unfold kM at this ⊢
     rw[<-d];exact this
    have l:Rest n (bU a i m.f_.dropLast g m.tape m.out).1:=⟨OG o b e,ZH c.out,G6 XD c.tape⟩;have p:=XE a i m.f_.dropLast g m.tape m.out;split at h
    ·simp only[Option.some.injEq] at h;subst h;exact⟨l,p⟩
    ·split at h
     ·simp only[Option.some.injEq] at h;subst h;exact⟨l,p⟩
     ·exact GX o k _ _ l h
def MB(w:World)(sb:Nat)(a:Nat)(e:Int)(k i c:Option Addr)(j l d c1 f g:Nat)(P:World->Prop)(u:a%20=0)(v:a<=1000000)
 (r:Hid (∀n,Below w.heap.size w n->Calls prog 69 #[.pointer (some ⟨sb,5,none⟩),.int .i64 a,.agg #[.int .i64 a,.slice k j c1,.slice i l f,.slice c d g,.int .i64 e]] n λb w'=>b=.returned (.tuple #[])/\P w')):
 Calls prog 37 #[.pointer (some ⟨sb,0,none⟩),.agg #[.int .i64 a,.slice k j c1,.slice i l f,.slice c d g,.int .i64 e]] w λb w'=>b=.returned (.tuple #[])/\P w':=by
 have p:(a:Int)%20=0:=o_
 have q:(a:Int).tmod 20=0:=by rw[Int.tmod_eq_emod_of_nonneg o_];exact p
 go_enter func37,ntmps37;go_wp2_with fail;refine(xP a e k i c j l d c1 f g _).mono ?_;rintro b s ⟨rfl,rfl⟩;go_wp2_with fail;go_region_law (go_simp;first|(go_at_call 62;refine(xP a e k i c j l d c1 f g _).mono ?_;rintro b x ⟨rfl,rfl⟩)|(go_at_call 69;refine(r.out _ ((((F9 _ w).alloc (F6 _) _).alloc s_ _).alloc t_ _).drew).mono ?_;rintro b t ⟨rfl,m⟩;have o:=aB m;clear m))
 all_goals
  go_wp2_with fail;go_end0;exact⟨rfl,o.out⟩
def RB(w:World)(sb:Nat)(a:Nat)(e:Int)(k i b:Option Addr)(j l c c1 d f:Nat)(p:a%20≠0)(q:a<=1000000):
 Calls prog 37 #[.pointer (some ⟨sb,0,none⟩),.agg #[.int .i64 a,.slice k j c1,.slice i l d,.slice b c f,.int .i64 e]] w λg w'=>g=.returned (.tuple #[])/\Below w.heap.size w w':=by
 have m:¬(a:Int)%20=0:=o_
 have n:¬(a:Int).tmod 20=0:=by rw[Int.tmod_eq_emod_of_nonneg o_];exact m
 go_enter func37,ntmps37;go_wp2_with fail;refine(xP a e k i b j l c c1 d f _).mono ?_;rintro g o ⟨rfl,rfl⟩;go_wp2_with fail;go_end0;exact⟨rfl,((F9 _ w).alloc (F6 _) _).alloc s_ _⟩
def FQ(l m:List Ent):gO (l++m)=gO l++gO m:=by
 induction l with
 |nil=>rfl
 |cons x l a=>simp[gO,a]
def FP(l:List Ent):(gO l).length=l.length*6:=by
 induction l with
 |nil=>rfl
 |cons x l a=>simp[gO,a,Ent.cells];omega
def DT:∀(l:List Ent) (i j:Nat) (h:i<l.length),j<6->(gO l)[i*6+j]?=(l[i].cells)[j]?
 |x::l,0,j,h,a=>by
  simp only[gO,Nat.zero_mul,O0,List.getElem_cons_zero];rw[J7 (by simpa [Ent.cells] using a)]
 |x::l,i+1,j,h,a=>by
  have:=DT l i j (by simpa using h) a
  simp only[gO,List.getElem_cons_succ];rw[I3 (by simp[Ent.cells];omega),<-this]
  congr 1
  simp[Ent.cells];omega
def DR:∀(l:List Ent) (i:Nat) (x:Ent) (h:i<l.length),x.k=l[i].k->gO (l.set i x)=(((((gO l).set (i*6+1) (.int .i64 x.a)).set (i*6+2) x.b).set (i*6+3) x.c).set (i*6+4) x.d).set (i*6+5) (.int .i64 x.e)
 |y::l,0,x,h,a=>by
  simp only[List.getElem_cons_zero] at a;simp[gO,Ent.cells,a]
 |y::l,i+1,x,h,a=>by
  have b:=DR l i x (by simpa using h) (by simpa using a)
  have e:∀j,(i+1)*6+j=i*6+j+6:=λj=>by omega
  simp only[List.set_cons_succ,gO,e,Ent.cells,J3,N2];rw[b]
def UJ(fp:Nat->Value)(F:Nat->Prop)(w:World)(st:Nat->Option fU)(i:Nat)(x:Ent):Prop:=
 x.k=((20*i:Nat):Int)/\∃s,st (20*i)=some s/\LC fp F w (.agg #[.int .i64 x.a,x.b,x.c,x.d,.int .i64 x.e]) s
def UJ.keep{fp:Nat->Value}{F G:Nat->Prop}{a:Nat->Option fU}{i:Nat}{x:Ent}(h:UJ fp F w a i x)(c:∀b,F b->w'.heap[b]?=w.heap[b]?)(g:∀b,F b->G b):UJ fp G w' a i x:=by
 obtain⟨e,s,d,f⟩:=h;exact⟨e,s,d,f.keep c g⟩
def UJ.ok{fp:Nat->Value}{F:Nat->Prop}{g:Nat->Option fU}{i:Nat}{x:Ent}(h:UJ fp F w g i x):x.Ok:=by
 obtain⟨_,s,_,f⟩:=h;obtain⟨n,l,m,e,d,j,k⟩:=f.form;simp only[Value.agg.injEq] at e;have b:=congrArg (λz=>z[1]?) e
 have a:=congrArg (λz=>z[2]?) e
 have c:=congrArg (λz=>z[3]?) e
 simp at b a c;subst b a c;exact⟨d,j,k⟩
structure oL(fp:Nat->Value)(F:Nat->Prop)(w:World)(sb mb:Nat)(mo:Obj)(st:Nat->Option fU)(s:fU)(n:Nat):Prop where
 blk:∃fv tv ov ev es,w.heap[sb]?=some (.cells #[.int .i64 s.m_,fv,tv,ov,.int .i64 s.stop,ev,.map (some mb)] 78 (0,0))/\LC fp F w (.agg #[.int .i64 s.m_,fv,tv,ov,.int .i64 s.stop]) s/\
  w.ownsRow (sb+1) 202 6 ev n (gO es)/\es.length=n/\(∀i (h:i<es.length),UJ fp F w st i es[i])/\(∀k,F k->ev.ownBlock≠some k)/\ev.ownBlock≠some mb
 now:st s.m_=some s
 fix:∀k,F k->k<w.heap.size/\k≠sb/\k≠mb
 map:w.heap[mb]?=some mo/\mb≠sb
def uC(sb:Nat)(w:World):Option Nat:=match w.heap[sb]? with|some (.cells c _ _)=>(c[5]?).bind Value.ownBlock|_=>none
def PM(h:w'.heap[sb]?=w.heap[sb]?):uC sb w'=uC sb w:=by unfold uC;rw[h]
def qF{c:Array Value}{T:TypeId}{z:Nat × Nat}{v:Value}(h:w.heap[sb]?=some (.cells c T z))(a:c[5]?=some v):uC sb w=v.ownBlock:=by unfold uC;rw[h];simp[a]
structure Fz(sb:Nat)(w w':World):Prop where
 os:w'.os=w.os
 tape:w'.tape=w.tape
 output:w'.output=w.output
 size:w.heap.size<=w'.heap.size
 blk:∀k,k<w.heap.size->k≠sb->uC sb w≠some k->w'.heap[k]?=w.heap[k]?
 row:∀k,uC sb w'=some k->uC sb w=some k\/w.heap.size<=k
def Fz.refl(sb:Nat)(w:World):Fz sb w w:=⟨rfl,rfl,rfl,F6 _,λ_ _ _ _=>rfl,λ_ h=>F7 h⟩
def Fz.trans{a b c:World}(h:Fz sb a b)(k:Fz sb b c):Fz sb a c:=by
 refine⟨k.os.trans h.os,k.tape.trans h.tape,k.output.trans h.output,G6 h.size k.size,λi f j g=>?_,λi f=>?_⟩
 ·rw[k.blk i (G3 f h.size) j (λe=>?_),h.blk i f j g]
  rcases h.row i e with d|d
  ·exact g d
  ·omega
 ·rcases k.row i f with d|d
  ·exact h.row i d
  ·exact F5 (G6 h.size d)
def Fz.of_below(h:Below w.heap.size w w')(b:sb<w.heap.size):Fz sb w w':=
 ⟨h.os,h.tape,h.output,h.size,λk a _ _=>h.block k a,λk a=>F7 (by rw[<-PM (h.block sb b)];exact a)⟩
section
variable {fp:Nat->Value} {F G:Nat->Prop} {w w':World} {sb mb n:Nat} {mo:Obj} {st:Nat->Option fU} {s:fU}
def oL.lt(h:oL fp F w sb mb mo st s n):sb<w.heap.size:=by
 obtain⟨_,_,_,_,_,a,_⟩:=h.blk;exact aD a
def oL.row(h:oL fp F w sb mb mo st s n):∀k,uC sb w=some k->sb<k/\k<w.heap.size/\¬F k/\k≠mb:=by
 obtain⟨_,_,_,i,_,c,_,f,_,_,b,d⟩:=h.blk;intro k a;rw[qF c rfl] at a;have:=f.lt k a;exact⟨o_,this.2,λg=>b k g a,λe=>d (by rw[<-e];exact a)⟩
def oL.grow(h:oL fp F w sb mb mo st s n)(d:Below w.heap.size w w')(l:∀k,F k->G k)(o:∀k,G k->F k\/(w.heap.size<=k/\k<w'.heap.size)):oL fp G w' sb mb mo st s n:=by
 have f:=h.lt;obtain⟨C,r,z,q,y,u,p,m,t,x,B,v⟩:=h.blk;have j:∀b,F b->w'.heap[b]?=w.heap[b]?:=λb g=>d.block b (h.fix b g).1
 refine⟨⟨C,r,z,q,y,by rw[d.block _ f];exact u,p.keep j l,gG m d,t,λi A=>(x i A).keep j l,λk a=>?_,v⟩,h.now,λk a=>?_,by rw[d.block _ (aD h.map.1)];exact h.map⟩
 ·rcases o k a with c|c
  ·exact B k c
  ·intro e;have:=(m.lt k e).2;omega
 ·rcases o k a with c|c
  ·have:=h.fix k c;exact⟨G3 this.1 d.size,this.2⟩
  ·have:=aD h.map.1;exact⟨c.2,o_,o_⟩
def ZD{a:List Ent}{b_ g d:Nat}(h:w.ownsRow b_ 202 6 (.slice (some ⟨g,0,none⟩) a.length d) a.length (gO a))(b:∀i (h:i<a.length),a[i].Ok):XW w g a:=λi e=>by
 have c:∀j u,j<6->(a[i].cells)[j]?=some u->w.cell? ⟨g,i*6+j,none⟩=some u:=λj u f k=>by
  have:=h.cells (g:=g) rfl (i*6+j) u (by rw[DT a i j e f];exact k)
  rw[GN] at this;exact this
 exact⟨b i e,c 0 _ o_ rfl,c 1 _ o_ rfl,c 2 _ o_ rfl,c 3 _ o_ rfl,c 4 _ o_ rfl,c 5 _ o_ rfl⟩
def PL{f:List Ent}{b_ g j i:Nat}{W:World}{a e:Int}{b c d:Value}(h:w.ownsRow b_ 202 6 (.slice (some ⟨g,0,none⟩) f.length j) f.length (gO f))(t:i<f.length)
 (p:W.heap=(((((w.setCell ⟨g,i*6+1,none⟩ (.int .i64 a)).setCell ⟨g,i*6+2,none⟩ b).setCell ⟨g,i*6+3,none⟩ c).setCell ⟨g,i*6+4,none⟩ d).setCell ⟨g,i*6+5,none⟩ (.int .i64 e)).heap):
 W.ownsRow b_ 202 6 (.slice (some ⟨g,0,none⟩) f.length j) f.length (gO (f.set i ⟨f[i].k,a,b,c,d,e⟩)):=by
 rcases h.2 with ⟨k,_⟩|⟨v,l,s,k,u,m,o,r,n,q⟩
 ·cases k
 cases k;refine⟨by simp[FP],F5 ⟨g,j,_,rfl,u,by rw[p];exact aO (aO (aO (aO (aO m)))),o,r,by simpa using n,?_⟩⟩
 rw[DR f i ⟨f[i].k,a,b,c,d,e⟩ t rfl,<-q];simp only[O5,List.take_set]
end
structure E9(n:Nat)(key:Int)(at_:Nat)(fd:Bool):Prop where
 le:at_<=n
 lo:∀i,i<at_->((20*i:Nat):Int)<key
 hi:∀i,i<n->at_<=i->key<=((20*i:Nat):Int)
 fnd:fd=true↔at_<n/\((20*at_:Nat):Int)=key
section
variable {fp:Nat->Value} {F G:Nat->Prop} {w w':World} {sb mb n:Nat} {mo:Obj} {st:Nat->Option fU} {s:fU}
def CS(h:oL fp F w sb mb mo st s n)(b:Int)(P:n<=1000):
 Calls prog 106 #[.pointer (some ⟨sb,5,none⟩),.int .i64 b] w λe w'=>∃(d:Nat) (v:Bool),e=.returned (.tuple #[.int .i64 d,.bool v])/\Below w.heap.size w w'/\E9 n b d v:=by
 obtain⟨S,K,O,C,p,E,J,z,D,x,Q,M⟩:=h.blk;have l:∀i (h:i<p.length),p[i].k=((20*i:Nat):Int):=λi c=>(x i c).1
 have y:w.cell? ⟨sb,5,none⟩=some C:=aA E rfl;subst D;rcases z.2 with ⟨r,H⟩|⟨g,o,G,r,H,A,L,N⟩
 ·subst r;refine(DV w sb none 0 0 b (λa f w'=>a=0/\f=false/\w'=w) y ((ME b w).mono ?_)).mono ?_
  ·rintro e w' ⟨rfl,rfl⟩;exact⟨0,false,rfl,rfl,rfl,rfl⟩
  ·rintro e w' ⟨a,f,rfl,rfl,rfl,rfl⟩;exact⟨0,false,rfl,F9 _ _,K5 _,λi c=>by omega,λi c _=>by omega,t_⟩
 ·subst r;refine(DV w sb (some ⟨g,0,none⟩) p.length o b (λa f w'=>∃d:Nat,a=d/\Below w.heap.size w w'/\Found p b d f) y ((MF g o p b w o_ (aD A) (ZD z λi c=>(x i c).ok) (λi j c I B=>by rw[l i c,l j I];omega)).mono ?_)).mono ?_
  ·rintro e w' ⟨a,f,rfl,t,k⟩;exact⟨_,f,rfl,a,rfl,t,k⟩
  ·rintro e w' ⟨_,f,rfl,a,rfl,t,k⟩;refine⟨a,f,rfl,t,k.le,λi c=>?_,λi c u=>?_,?_⟩
   ·have:=k.lo i (by have:=k.le;omega) c
    rw[l i (by have:=k.le;omega)] at this;exact this
   ·have:=k.hi i c u;rw[l i c] at this;exact this
   ·rw[k.fnd];constructor
    ·rintro⟨m,q⟩;rw[l _ m] at q;exact⟨m,q⟩
    ·rintro⟨m,q⟩;exact⟨m,by rw[l _ m];exact q⟩
def DL(W:World)(g a b c d e:Nat)(u v x y z:Value)(k:Nat)(f:k≠g):(((((W.setCell ⟨g,a,none⟩ u).setCell ⟨g,b,none⟩ v).setCell ⟨g,c,none⟩ x).setCell ⟨g,d,none⟩ y).setCell ⟨g,e,none⟩ z).heap[k]?=W.heap[k]?:=by
 rw[G0 _ _ _ _ f,G0 _ _ _ _ f,G0 _ _ _ _ f,G0 _ _ _ _ f,G0 _ _ _ _ f]
def PK(W:World)(p q r t o:Addr)(u v x y z:Value):(((((W.setCell p u).setCell q v).setCell r x).setCell t y).setCell o z).os=W.os/\(((((W.setCell p u).setCell q v).setCell r x).setCell t y).setCell o z).tape=W.tape/\(((((W.setCell p u).setCell q v).setCell r x).setCell t y).setCell o z).output=W.output/\(((((W.setCell p u).setCell q v).setCell r x).setCell t y).setCell o z).heap.size=W.heap.size:=by
 have a:∀(W:World) (p:Addr) (u:Value),(W.setCell p u).os=W.os/\(W.setCell p u).tape=W.tape/\(W.setCell p u).output=W.output/\(W.setCell p u).heap.size=W.heap.size:=λW p u=>⟨rfl,rfl,rfl,s_⟩
 simp[a]
def TH(h:oL fp F w sb mb mo st s n)(v:Value)(b:fU)(hv:LC fp F w v b)(hs:st b.m_=some b)(hm:b.m_%20=0)(hq:b.m_/20<n)(hn:n<=1000)(ht:b.m_<=1000000):
 Calls prog 69 #[.pointer (some ⟨sb,5,none⟩),.int .i64 b.m_,v] w λe w'=>e=.returned (.tuple #[])/\Fz sb w w'/\oL fp F w' sb mb mo st s n:=by
 obtain⟨f',t',o',rfl,⟨K,D,B,rfl⟩,⟨y,E,x,rfl⟩,⟨G,H,C,rfl⟩⟩:=hv.form;obtain⟨fv,tv,ov,ev,t,X,h2,Y,h4,Z,h6,h7⟩:=h.blk;subst h4;have I:=Y;rcases Y.2 with ⟨r1,r2⟩|⟨g,M,p,r1,r2,r3,r4,r5,r6,r7⟩
 ·omega
 subst r1;obtain⟨q,l⟩:=E_ (w.alloc (.cells #[.int .i64 b.m_,.slice K D B,.slice y E x,.slice G H C,.int .i64 b.stop] 72));have N:Below w.heap.size w q:=by rw[l];exact(F9 _ _).alloc (F6 _) _
 have P:q.heap[w.heap.size]?=some (.cells #[.int .i64 b.m_,.slice K D B,.slice y E x,.slice G H C,.int .i64 b.stop] 72 (0,0)):=by rw[l];exact aU _ _ rfl _
 have aa:q.heap.size=w.heap.size+1:=by rw[l];simp
 refine(zE w sb g t.length M (b.m_/20) b.m_ b.m_ b.stop K y G D E H B x C (λw'=>Fz sb w w'/\oL fp F w' sb mb mo st s t.length) (λW=>Below q.heap.size q W) hq ?_ (λW hW=>?_))
 ·show Calls _ _ _ _ _
  rw[<-l];refine(CS (h.grow N (λ_ h=>h) (λ_ h=>F7 h)) b.m_ hn).mono ?_
  rintro e w' ⟨a,fd,rfl,hb,T⟩
  have e1:a=b.m_/20:=by
   refine Nat.le_antisymm ?_ ?_
   ·cases a with
    |zero=>omega
    |succ a=>have:=T.lo a o_;omega
   ·rcases J8 a (b.m_/20) with h8|h8
    ·have:=T.hi a o_ (F6 _);omega
    ·exact h8
  have e2:fd=true:=T.fnd.2 ⟨o_,o_⟩
  exact⟨by rw[e1,e2],hb⟩
 ·have c:Below w.heap.size w W:=N.trans (hW.mono o_)
  have m:=h.lt;have S:=h.grow c (λ_ h=>h) (λ_ h=>F7 h)
  have Q:=aD r3;have L:W.heap[g]?=some (.cells p 202 (0,0)):=by rw[c.block _ Q];exact r3
  have U:b.m_/20*6+5<p.size:=by rw[r6];have:=Nat.mul_le_mul_right 6 r4;omega
  refine⟨S.lt,aA (by rw[c.block _ m];exact X) rfl,aD L,⟨p,L,U⟩,by rw[hW.block _ o_];exact P,λV r=>?_⟩
  have o:g≠sb:=by have:=(I.lt g rfl).1;omega
  have j:∀k,k≠g->V.heap[k]?=W.heap[k]?:=λk j=>by rw[r.heap];exact DL W g _ _ _ _ _ _ _ _ _ _ k j
  have J:uC sb W=some g:=qF (by rw[c.block _ m];exact X) rfl
  have A:∀k,F k->k≠g:=λk j e=>h6 k j (by rw[e];rfl)
  have O:Fz sb W V:=by
   obtain⟨a1,a2,a3,a4⟩:=PK W ⟨g,b.m_/20*6+1,none⟩ ⟨g,b.m_/20*6+2,none⟩ ⟨g,b.m_/20*6+3,none⟩ ⟨g,b.m_/20*6+4,none⟩ ⟨g,b.m_/20*6+5,none⟩ (.int .i64 b.m_) (.slice K D B) (.slice y E x) (.slice G H C) (.int .i64 b.stop);refine⟨r.os.trans a1,r.tape.trans a2,r.output.trans a3,by rw[r.heap,a4];exact F6 _,λk d hc hr=>j k λe=>hr (by rw[e];exact J),λk d=>F7 ?_⟩
   rw[<-PM (j sb (λe=>o e.symm))];exact d
  refine⟨(Fz.of_below c m).trans O,⟨fv,tv,ov,.slice (some ⟨g,0,none⟩) t.length M,t.set (b.m_/20) ⟨t[b.m_/20].k,b.m_,.slice K D B,.slice y E x,.slice G H C,b.stop⟩,?_,?_,?_,s_,λi hi=>?_,h6,h7⟩,h.now,λk d=>?_,?_⟩
  ·rw[j sb (λe=>o e.symm),c.block _ m];exact X
  ·exact h2.keep (λk d=>by rw[j k (A k d),c.block k (h.fix k d).1]) λ_ h=>h
  ·exact PL (gG I c) hq r.heap
  ·have u:i<t.length:=by simpa using hi
   have f:∀k,F k->V.heap[k]?=w.heap[k]?:=λk d=>by rw[j k (A k d),c.block k (h.fix k d).1]
   by_cases z:i=b.m_/20
   ·subst z;rw[List.getElem_set_self];refine⟨(Z _ u).1,b,?_,hv.keep f λ_ h=>h⟩
    rw[show 20*(b.m_/20)=b.m_ by omega];exact hs
   ·rw[List.getElem_set_ne (λe=>z e.symm)]
    exact(Z i u).keep f λ_ h=>h
  ·have:=h.fix k d;exact⟨by rw[r.heap];simpa using G3 this.1 c.size,this.2⟩
  ·refine⟨?_,h.map.2⟩;rw[j mb (λe=>h7 (by rw[e];rfl)),c.block _ (aD h.map.1)];exact h.map.1
end
section
variable {fp:Nat->Value} {F G:Nat->Prop} {w w':World} {sb mb n:Nat} {mo:Obj} {st:Nat->Option fU} {s:fU}
def VP{j:List Ent}{b_ g f i m:Nat}{W:World}{k0 a e:Int}{b c d:Value}(k:j.length=m)(h:w.ownsRow b_ 202 6 (.slice (some ⟨g,0,none⟩) m f) m (gO j))(o:i<j.length)(l:j[i].k=k0)
 (n:W.heap=(((((w.setCell ⟨g,i*6+1,none⟩ (.int .i64 a)).setCell ⟨g,i*6+2,none⟩ b).setCell ⟨g,i*6+3,none⟩ c).setCell ⟨g,i*6+4,none⟩ d).setCell ⟨g,i*6+5,none⟩ (.int .i64 e)).heap):
 W.ownsRow b_ 202 6 (.slice (some ⟨g,0,none⟩) m f) m (gO (j.set i ⟨k0,a,b,c,d,e⟩)):=by
 subst k l;exact PL h o n
def TG(h:oL fp F w sb mb mo st s n)(v:Value)(f:fU)(hv:LC fp F w v f)(hs:st f.m_=some f)(hm:f.m_%20=0)(hq:f.m_/20=n)(hn:n<=1000):
 Calls prog 69 #[.pointer (some ⟨sb,5,none⟩),.int .i64 f.m_,v] w λe w'=>e=.returned (.tuple #[])/\Fz sb w w'/\oL fp F w' sb mb mo st s (n+1):=by
 obtain⟨f',t',o',rfl,⟨Y,T,P,rfl⟩,⟨O,U,N,rfl⟩,⟨V,X,Q,rfl⟩⟩:=hv.form;obtain⟨fv,tv,ov,ev,S,h1,h2,h3,h4,h5,h6,h7⟩:=h.blk;have I:=h.lt;have ae:=h3;obtain⟨x,c,rfl⟩:=dV h3;obtain⟨y,B⟩:=E_ (w.alloc (.cells #[.int .i64 f.m_,.slice Y T P,.slice O U N,.slice V X Q,.int .i64 f.stop] 72));have C:Below w.heap.size w y:=by rw[B];exact(F9 _ _).alloc (F6 _) _
 have ai:y.heap[w.heap.size]?=some (.cells #[.int .i64 f.m_,.slice Y T P,.slice O U N,.slice V X Q,.int .i64 f.stop] 72 (0,0)):=by rw[B];exact aU _ _ rfl _
 have av:y.heap.size=w.heap.size+1:=by rw[B];simp
 have H:∀k,(Value.slice x n c).ownBlock=some k->sb<k/\k<w.heap.size:=λk j=>by have:=ae.lt k j;exact⟨o_,this.2⟩
 refine(FK w sb n x c f.m_ f.m_ f.stop Y O V T U X P N Q (λw'=>Fz sb w w'/\oL fp F w' sb mb mo st s (n+1)) (λW=>Below y.heap.size y W)
  (λg l W=>(∀k,k<y.heap.size->some k≠(Value.slice x n c).ownBlock->W.heap[k]?=y.heap[k]?)/\W.os=w.os/\W.tape=w.tape/\W.output=w.output/\y.heap.size<=W.heap.size/\((Value.slice x n c).ownBlock=some g\/y.heap.size<=g)/\W.ownsRow (sb+1) 202 6 (.slice (some ⟨g,0,none⟩) (n+1) l) (n+1) (gO S++[.int .i64 f.m_,.int .i64 0,.slice none 0 0,.slice none 0 0,.slice none 0 0,.int .i64 0])) o_ ?_ (λW hW=>?_) (λg l W hW=>?_))
 ·show Calls _ _ _ _ _
  rw[<-B];refine(CS (h.grow C (λ_ h=>h) (λ_ h=>F7 h)) f.m_ hn).mono ?_
  rintro e w' ⟨a,fd,rfl,hb,hf⟩
  have e1:a=n:=by
   refine Nat.le_antisymm hf.le ?_;rcases J8 a n with m|m
   ·have:=hf.hi a m (F6 _);omega
   ·exact m
  have e2:fd=false:=by
   cases fd with
   |false=>rfl
   |true=>have:=(hf.fnd.1 rfl).1;omega
  exact⟨by rw[e1,e2],hb⟩
 ·have o:Below w.heap.size w W:=C.trans (hW.mono o_)
  have ao:=gG ae o;refine⟨G3 I o.size,aA (by rw[o.block _ I];exact h1) rfl,?_⟩
  refine(NQ _ (sb+1) W.heap.size n (.slice x n c) (gO S) f.m_ (ao.alloc _) (aU _ _ rfl _) o_ (by have:=o.size;simp;omega)).mono ?_
  rintro e w' ⟨g,l,rfl,q1,q2,q3⟩;have aw:=hW.size;have aq:=q2.size;simp only[World.size_alloc] at aq;refine⟨g,l,rfl,λk j q=>?_,?_,?_,?_,o_,?_,q1⟩
  ·rw[q2.block k t_ q,G7 _ _ _ o_,hW.block k j]
  ·exact q2.os.trans o.os
  ·exact q2.tape.trans o.tape
  ·exact q2.output.trans o.output
  ·rcases q3 with q3|q3
   ·exact F7 q3
   ·exact F5 (by rw[q3];simp;omega)
 ·obtain⟨b1,b2,b3,b4,b5,b6,b7⟩:=hW;have ap:=b7;have t:g≠sb:=by have:=(b7.lt g rfl).1;omega
  have aj:g≠w.heap.size:=by
   rcases b6 with m|m
   ·have:=H g m;omega
   ·omega
  rcases b7.2 with ⟨r1,_⟩|⟨g',ar,aa,r1,r2,r3,r4,r5,r6,r7⟩
  ·cases r1
  cases r1
  have u:W.heap[sb]?=some (.cells #[.int .i64 s.m_,fv,tv,ov,.int .i64 s.stop,.slice x n c,.map (some mb)] 78 (0,0)):=by
   rw[b1 sb o_ (λe=>by have:=H sb e.symm;omega),C.block _ I];exact h1
  have am:n*6+5<aa.size:=by rw[r6];omega
  refine⟨o_,t,aj,o_,⟨_,aA u rfl⟩,aE u,aD r3,⟨aa,r3,am⟩,by rw[b1 _ o_ (λe=>by have:=H _ e.symm;omega)];exact ai,λZ M=>?_⟩
  generalize K:W.setCell ⟨sb,5,none⟩ (.slice (some ⟨g,0,none⟩) (n+1) l)=A at M;have ag:∀k,k≠sb->A.heap[k]?=W.heap[k]?:=λk j=>by rw[<-K];exact G0 _ _ _ _ j
  have ad:A.heap[sb]?=some (.cells #[.int .i64 s.m_,fv,tv,ov,.int .i64 s.stop,.slice (some ⟨g,0,none⟩) (n+1) l,.map (some mb)] 78 (0,0)):=by rw[<-K];exact aO u
  have p:A.os=W.os/\A.tape=W.tape/\A.output=W.output/\A.heap.size=W.heap.size:=by rw[<-K];exact⟨rfl,rfl,rfl,s_⟩
  have ac:∀k,k≠g->Z.heap[k]?=A.heap[k]?:=λk j=>by rw[M.heap];exact DL A g _ _ _ _ _ _ _ _ _ _ k j
  obtain⟨a1,a2,a3,a4⟩:=PK A ⟨g,n*6+1,none⟩ ⟨g,n*6+2,none⟩ ⟨g,n*6+3,none⟩ ⟨g,n*6+4,none⟩ ⟨g,n*6+5,none⟩ (.int .i64 f.m_) (.slice Y T P) (.slice O U N) (.slice V X Q) (.int .i64 f.stop);have ab:Z.heap.size=W.heap.size:=by rw[M.heap,a4,p.2.2.2]
  have E:∀k,k<w.heap.size->k≠sb->some k≠(Value.slice x n c).ownBlock->Z.heap[k]?=w.heap[k]?:=λk j q hr=>by
   have ak:k≠g:=λe=>by
    rcases b6 with m|m
    ·exact hr (by rw[e];exact m.symm)
    ·omega
   rw[ac k ak,ag k q,b1 k o_ hr,C.block k j]
  have G:∀k,F k->Z.heap[k]?=w.heap[k]?:=λk j=>E k (h.fix k j).1 (h.fix k j).2.1 λe=>h6 k j e.symm
  have an:=aD h.map.1;have r:uC sb w=(Value.slice x n c).ownBlock:=qF h1 rfl;have D:Z.heap[sb]?=some (.cells #[.int .i64 s.m_,fv,tv,ov,.int .i64 s.stop,.slice (some ⟨g,0,none⟩) (n+1) l,.map (some mb)] 78 (0,0)):=by rw[ac sb (λe=>t e.symm)];exact ad
  obtain⟨z,hz⟩:∃z:Ent,z=⟨f.m_,0,.slice none 0 0,.slice none 0 0,.slice none 0 0,0⟩:=⟨_,rfl⟩
  have J:A.ownsRow (sb+1) 202 6 (.slice (some ⟨g,0,none⟩) (n+1) l) (n+1) (gO (S++[z])):=by
   rw[FQ,hz];exact bB ap λk e=>ag k (by cases e;exact t)
  have L:(S++[z]).length=n+1:=by simp[h4]
  have al:(S++[z])[n]'(by rw[L];omega)=z:=by rw[O7 o_];simp
  have af:=VP (W:=Z) (i:=n) (k0:=f.m_) (a:=f.m_) (b:=.slice Y T P) (c:=.slice O U N) (d:=.slice V X Q) (e:=f.stop) L J (by rw[L];omega) (by rw[al,hz]) M.heap
  refine⟨⟨M.os.trans (a1.trans (p.1.trans b2)),M.tape.trans (a2.trans (p.2.1.trans b3)),M.output.trans (a3.trans (p.2.2.1.trans b4)),by rw[ab];omega,λk j q hr=>E k j q (λe=>hr (by rw[r];exact e.symm)),λk j=>?_⟩,⟨fv,tv,ov,.slice (some ⟨g,0,none⟩) (n+1) l,(S++[z]).set n ⟨f.m_,f.m_,.slice Y T P,.slice O U N,.slice V X Q,f.stop⟩,D,h2.keep G λ_ h=>h,?_,by simp[h4],λi hi=>?_,λk j e=>?_,λe=>?_⟩,h.now,λk j=>?_,?_⟩
  ·rw[qF D rfl] at j;cases j;rcases b6 with m|m
   ·exact F7 (by rw[r];exact m)
   ·exact F5 (by show w.heap.size<=g;omega)
  ·exact af
  ·have au:i<n+1:=by simpa [h4] using hi
   by_cases ah:i=n
   ·subst ah;rw[List.getElem_set_self];refine⟨by show (f.m_:Int)=_;omega,f,?_,hv.keep G λ_ h=>h⟩
    rw[show 20*i=f.m_ by omega];exact hs
   ·rw[List.getElem_set_ne (λe=>ah e.symm),P1 o_]
    exact(h5 i o_).keep G λ_ h=>h
  ·have e':g=k:=by simpa [Value.ownBlock] using e
   rcases b6 with m|m
   ·exact h6 k j (by rw[<-e'];exact m)
   ·have:=(h.fix _ j).1;omega
  ·have e':g=mb:=by simpa [Value.ownBlock] using e
   rcases b6 with m|m
   ·exact h7 (by rw[<-e'];exact m)
   ·omega
  ·have:=h.fix k j;exact⟨by rw[ab];omega,this.2⟩
  ·exact⟨by rw[E mb an h.map.2 (λe=>h7 e.symm)];exact h.map.1,h.map.2⟩
def RD(h:oL fp F w sb mb mo st s n)(v:Value)(a:fU)(z:LC fp F w v a)(u:st a.m_=some a)(D:a.m_%20=0->a.m_/20<=n)(y:n<=1000)(i:a.m_<=1000000):
 Calls prog 37 #[.pointer (some ⟨sb,0,none⟩),v] w λe w'=>e=.returned (.tuple #[])/\Fz sb w w'/\oL fp F w' sb mb mo st s (if a.m_%20=0/\a.m_/20=n then n+1 else n):=by
 obtain⟨H,G,I,rfl,⟨B,A,q,rfl⟩,⟨x,C,r,rfl⟩,⟨o,p,t,rfl⟩⟩:=z.form;by_cases b:a.m_%20=0
 ·refine MB w sb a.m_ a.stop B x o A C p q r t _ b i λW g=>?_
  have d:=h.grow g (λ_ h=>h) (λ_ h=>F7 h)
  have c:=z.keep (λk E=>g.block k (h.fix k E).1) λ_ h=>h
  rcases M3 (D b) with e|e
  ·rw[if_pos ⟨b,e⟩];refine(TG d _ a c u b e y).mono ?_;rintro e w' ⟨f,j,l⟩;exact⟨f,(Fz.of_below g h.lt).trans j,l⟩
  ·rw[if_neg o_]
   refine(TH d _ a c u b e y i).mono ?_;rintro e w' ⟨f,j,l⟩;exact⟨f,(Fz.of_below g h.lt).trans j,l⟩
 ·rw[if_neg (λe=>b e.1)]
  refine(RB w sb a.m_ a.stop B x o A C p q r t b i).mono ?_;rintro e w' ⟨f,m⟩;exact⟨f,Fz.of_below m h.lt,h.grow m (λ_ h=>h) (λ_ h=>F7 h)⟩
end
def TW(s:ByteArray)(w:World)(c:s.size<=281474976710656):Calls prog 35 #[.string s] w λe w'=>e=.returned (.string s)/\Below w.heap.size w w':=by
 have d:=aB (stringslite_Clone s w c);go_enter func35,ntmps35;go_wp2_with fail;refine d.out.mono ?_;rintro e f ⟨rfl,a⟩;have b:=aB a;clear a;go_wp2_with fail;go_ret;exact⟨rfl,b.out⟩
def LZ(a:ByteArray)(b p:Nat)(w:World)(B:gV w)(K:a.size<=281474976710656)(L:w.cell? ⟨b,0,none⟩=some (.string a))(u:w.heap[p]?=some (.cells #[.slice none 0 0] 59 (0,0))):
 Calls prog 34 #[.pointer (some ⟨b,0,none⟩),.pointer (some ⟨p,0,none⟩)] w λe w'=>
  (dE a.data.toList=(0,0)/\e=.returned (.tuple #[])/\∃q v s,Below w.heap.size w q/\dK a.data.toList=.ok s/\FSl (Btw w.heap.size q.heap.size) q v s/\w'=q.setCell ⟨p,0,none⟩ v)\/
  ((dE a.data.toList).1≠0/\e=cH (dE a.data.toList).1 (dE a.data.toList).2/\Below w.heap.size w w'):=by
 have D:=aB (TW a w K);have E:Hid (∀W,Below w.heap.size w W->Calls prog 24 #[.string a] W (CW a.data.toList W)):=λW F=>RS a W (B.below F) (by unfold maxLen;omega)
 have z:=aB u;have J:=aD u;clear B u;go_enter func34,ntmps34;go_wp2_with fail;refine D.out.mono ?_;rintro e q ⟨rfl,o⟩;have n:=aB (E.out q o);have d:=aB o;clear E D o;go_wp2_with fail;refine n.out.mono ?_;rintro e y ⟨f,⟨r,v,s,rfl,C,t⟩|⟨r,rfl⟩⟩
 ·have m:=d.out.trans (f.mono d.out.size);have j:y.heap[p]?=some (.cells #[.slice none 0 0] 59 (0,0)):=by rw[m.block _ J];exact z.out
  have N:=aA j (i:=0) rfl;have M:=aE j (i:=0);have O:=aD j
  obtain⟨x,c,rfl⟩:∃x c,v=.slice x s.length c:=by
   rcases t with ⟨rfl,rfl⟩|⟨g,H,I,P,rfl,_⟩
   ·exact⟨none,0,rfl⟩
   ·exact⟨_,_,rfl⟩
  have l:=aB (I8 r (I8 C (I8 m (t.grow (G:=Btw w.heap.size y.heap.size) (λ_ _=>rfl) (λk A=>⟨G6 d.out.size A.1,A.2⟩)))))
  clear r C t f m j n d z;go_wp2_with fail;go_end0;exact F7 ⟨l.out.1,rfl,y,_,s,l.out.2.2.1,l.out.2.1,l.out.2.2.2,rfl⟩
 ·have l:=aB (I8 r (d.out.trans (f.mono d.out.size)));clear r f n d z;go_wp2_with fail;exact⟨rfl,F5 ⟨l.out.1,rfl,l.out.2⟩⟩
def WL(w:World):(Instr.makeMap 76 none).run prog w=.ok (.map (some w.heap.size)) (w.alloc (.map #[] 0)):=rfl
def JR(w:World)(r:ByteArray)(x:Option Addr)(n c:Nat)(P:Value->World->Prop)(A:World->Prop)(S:Nat->Value->Value->Value->Nat->World->Prop)
 (y:Hid (Calls prog 22 #[.func (.func 34) #[] #[.pointer (some ⟨w.heap.size,0,none⟩),.pointer (some ⟨w.heap.size+1,0,none⟩)]] ((w.alloc (.cells #[.string r] 9)).alloc (.cells #[.slice none 0 0] 59)) λe w'=>(e=.returned (.tuple #[.int .i64 0,.int .i64 0])/\A w')\/∃k l:Nat,k≠0/\e=.returned (.tuple #[.int .i64 k,.int .i64 l])/\P (.tuple #[.pointer none,.int .i64 k,.int .i64 l]) w'))
 (u:Hid (∀W,A W->∃s z B,W.cell? ⟨w.heap.size+1,0,none⟩=some (.slice s z B)/\w.heap.size+1<W.heap.size/\Calls prog 36 #[.slice s z B,.slice x n c] W λe w'=>∃(a:Nat) (m i b:Option Addr) (j o d c1 f g q:Nat),e=.returned (.agg #[.int .i64 a,.slice m j c1,.slice i o f,.slice b d g,.int .i64 q])/\S a (.slice m j c1) (.slice i o f) (.slice b d g) q w'))
 (C:Hid (∀(a:Nat) (m i b:Option Addr) (j o d c1 f g q:Nat) W,S a (.slice m j c1) (.slice i o f) (.slice b d g) q W->Calls prog 37 #[.pointer (some ⟨W.heap.size+1,0,none⟩),.agg #[.int .i64 a,.slice m j c1,.slice i o f,.slice b d g,.int .i64 q]] ((W.alloc (.map #[] 0)).alloc (.cells #[.int .i64 a,.slice m j c1,.slice i o f,.slice b d g,.int .i64 q,.slice none 0 0,.map (some W.heap.size)] 78)) λe w'=>e=.returned (.tuple #[])/\P (.tuple #[.pointer (some ⟨W.heap.size+1,0,none⟩),.int .i64 0,.int .i64 0]) w')):
 Calls prog 17 #[.string r,.slice x n c] w λe w'=>∃v,e=.returned v/\P v w':=by
 have I:=zB;have H:=WL;go_enter func17,ntmps17;go_wp2_with fail;refine y.out.mono ?_;rintro e N (⟨rfl,p⟩|⟨k,l,Q,rfl,p⟩)
 ·obtain⟨s,z,B,L,U,E⟩:=u.out _ p;have G:=aB E;clear p E y u;go_wp2_with fail;refine G.out.mono ?_;rintro e T ⟨a,m,i,b,j,o,d,c1,f,g,q,rfl,D⟩;have t:=aB (C.out _ _ _ _ _ _ _ _ _ _ _ _ D);clear D C G L;go_wp2_with fail;refine t.out.mono ?_;rintro e O ⟨rfl,F⟩;have J:=aB F;clear F;go_wp2_with fail;go_ret3
  exact⟨_,rfl,J.out⟩
 ·have M:=aB p;have K:¬(k:Int)=0:=o_
  clear p y u C;go_wp2_with fail;go_ret3
  exact⟨_,rfl,M.out⟩
structure Good(ks:List aC):Prop where
 fl:ks.length<=90000
 ok:∀f∈ks,jW ks 2001 f
 lit:∀f∈ks,∀k∈f.y_,AN k
 kl:∀f∈ks,f.y_.length<=90000
 main:fA ks (dJ ks [109,97,105,110])=some 0
 utf:uX (cZ ks 2001)
noncomputable def mR(ks:List aC)(tape:List Int):Nat->Option fU:=qB (cZ ks 2001) (fH ks 2001 tape)
def Good.rest0{ks:List aC}(h:Good ks)(a:List Int):Rest a.length (fH ks 2001 a):=by
 refine⟨?_,by simp[fH],by simp[fH]⟩
 intro f c;simp only[fH,G5] at c;subst c;refine⟨?_,λv b=>by simp at b,λv b=>by simp at b⟩
 show tM ((cZ ks 2001)[dJ ks [109,97,105,110]]?.getD ⟨[],[]⟩)
 cases d:(cZ ks 2001)[dJ ks [109,97,105,110]]? with
 |none=>exact⟨λv b=>by simp at b,λv b=>by simp at b⟩
 |some f=>exact h.utf f (M5 d)
def Good.first{ks:List aC}(h:Good ks)(a:List Int):∃r,eQ (cZ ks 2001) pV (fH ks 2001 a)=some r/\r.2<=9/\mR ks a 0=some ⟨0,r.1,cI 0 r.2⟩:=by
 obtain⟨r,b,_⟩:=LL (xS h.ok) (MZ h.ok h.main a);exact⟨r,b,(GX h.utf _ _ _ (h.rest0 a) b).2,by simp[mR,qB,b]⟩
def ZP(a b:Value)(W:World):(callFunc 34 #[a,b]).run prog W=.ok (.enter 34 #[a,b]) W:=k_
def XP(src:List UInt8)(tape:List Int)(w:World)(v:Value)(w':World):Prop:=
 Below w.heap.size w w'/\
 ((dE src=(0,0)/\∃ks fp G sb mb,dK src=.ok ks/\v=.tuple #[.pointer (some ⟨sb,0,none⟩),.int .i64 0,.int .i64 0]/\w.heap.size<=sb/\w.heap.size<=mb/\jG fp G w' (cZ ks 2001)/\∃s,oL fp G w' sb mb (.map #[] 0) (mR ks tape) s 1/\s.m_=0)\/
  ((dE src).1≠0/\v=.tuple #[.pointer none,.int .i64 (dE src).1,.int .i64 (dE src).2]))
def TJ(d:ByteArray)(tv:Value)(m:List Int)(w:World)(hT:gV w)(hs:d.size<=281474976710656)(ht:EG w tv m)
 (hM:∀j,dK d.data.toList=.ok j->dE d.data.toList=(0,0)->∃r:bO × Nat,mR j m 0=some ⟨0,r.1,cI 0 r.2⟩/\∀lo W v,FSl (Btw lo W.heap.size) W v j->EG W tv m->Calls prog 36 #[v,tv] W λe w'=>∃v',e=.returned v'/\Below W.heap.size W w'/\∃fp G,(∀b,G b->b<w'.heap.size)/\jG fp G w' (cZ j 2001)/\LC fp G w' v' ⟨0,r.1,cI 0 r.2⟩):
 Calls prog 17 #[.string d,tv] w λe w'=>∃v,e=.returned v/\XP d.data.toList m w v w':=by
 obtain⟨tx,tn,tc,rfl⟩:∃x n c,tv=.slice x n c:=by
  rcases ht with ⟨_,rfl⟩|⟨g,o,c,rfl,_⟩
  ·exact⟨_,_,_,rfl⟩
  ·exact⟨_,_,_,rfl⟩
 obtain⟨f,A⟩:=E_ ((w.alloc (.cells #[.string d] 9)).alloc (.cells #[.slice none 0 0] 59));have U:Below w.heap.size w f:=by rw[A];exact((F9 _ _).alloc (F6 _) _).alloc s_ _
 have ao:f.heap.size=w.heap.size+2:=by rw[A];simp
 have am:f.heap[w.heap.size]?=some (.cells #[.string d] 9 (0,0)):=by rw[A];exact jF _ _ _
 have ab:f.heap[w.heap.size+1]?=some (.cells #[.slice none 0 0] 59 (0,0)):=by rw[A];exact iC _ _ _
 generalize N:dE d.data.toList=rd at*
 refine(JR w d tx tn tc (λv w'=>XP d.data.toList m w v w')
  (λW=>rd=(0,0)/\∃lo y J z j,dK d.data.toList=.ok j/\Below w.heap.size w W/\W.cell? ⟨w.heap.size+1,0,none⟩=some (.slice y J z)/\w.heap.size+1<W.heap.size/\FSl (Btw lo W.heap.size) W (.slice y J z) j)
  (λa v1 v2 v3 q W=>rd=(0,0)/\∃(j:List aC) (fp:Nat->Value) (G:Nat->Prop) (r:bO × Nat),dK d.data.toList=.ok j/\Below w.heap.size w W/\(∀b,G b->b<W.heap.size)/\jG fp G W (cZ j 2001)/\a=0/\q=cI 0 r.2/\LC fp G W (.agg #[.int .i64 ((0:Nat):Int),v1,v2,v3,.int .i64 (cI 0 r.2)]) ⟨0,r.1,cI 0 r.2⟩/\mR j m 0=some ⟨0,r.1,cI 0 r.2⟩)
  ?_ (λW hA=>?_) (λa x1 x2 x3 n1 n2 n3 c1 c2 c3 q W hS=>?_))
 ·show Calls _ _ _ _ _
  rw[<-A]
  refine(pO 34 (some ⟨w.heap.size,0,none⟩) (some ⟨w.heap.size+1,0,none⟩) f
   (λW=>rd=(0,0)/\∃y J z j V,dK d.data.toList=.ok j/\Below (f.heap.size+2) ((f.alloc (.cells #[.int .i64 0] 22)).alloc (.cells #[.int .i64 0] 3)) V/\FSl (Btw (f.heap.size+2) V.heap.size) V (.slice y J z) j/\W=V.setCell ⟨w.heap.size+1,0,none⟩ (.slice y J z))
   (λk l=>rd=(k,l)) (λW=>ZP _ _ W) (λW hW=>?_)).mono ?_
  ·have t:Below f.heap.size f W:=by rw[hW];exact((F9 _ _).alloc (F6 _) _).alloc s_ _
   have S:W.heap.size=f.heap.size+2:=by rw[hW];simp
   have hK:W.heap[f.heap.size]?=some (.cells #[.int .i64 0] 22 (0,0)):=by rw[hW];exact jF _ _ _
   have hI:W.heap[f.heap.size+1]?=some (.cells #[.int .i64 0] 3 (0,0)):=by rw[hW];exact iC _ _ _
   refine(LZ d w.heap.size (w.heap.size+1) W ((hT.below U).below t) hs (aA (by rw[t.block _ o_];exact am) rfl) (by rw[t.block _ o_];exact ab)).mono ?_
   rintro e w' (⟨L,D,V,v,j,F,s,X,M⟩|⟨L,D,F⟩)
   ·obtain⟨y,z,rfl⟩:∃x c,v=.slice x j.length c:=by
     rcases X with ⟨rfl,rfl⟩|⟨g,ap,an,us,rfl,_⟩
     ·exact⟨none,0,rfl⟩
     ·exact⟨_,_,rfl⟩
    have aa:∀k,f.heap.size<=k->k<W.heap.size->w'.heap[k]?=W.heap[k]?:=λk u af=>by
     rw[M,G0 _ _ _ _ (show k≠w.heap.size+1 by omega),F.block k af]
    refine F7 ⟨D,by rw[aa _ (F6 _) o_];exact hK,by rw[aa _ o_ o_];exact hI,by rw[<-N];exact L,y,_,z,j,V,s,?_,?_,M⟩
    ·rw[<-hW,<-S];exact F
    ·rw[<-S];exact X
   ·refine F5 ⟨_,_,L,D,F,?_⟩;rw[<-N]
  ·rintro e w' (⟨D,V,⟨L,y,J,z,j,w0,F,s,X,M⟩,Z⟩|⟨k,l,u,D,I,hE⟩)
   ·refine F7 ⟨D,L,f.heap.size+2,y,J,z,j,F,?_⟩;have ai:Below w.heap.size w w0:=U.trans ((((F9 f.heap.size f).alloc (F6 _) _).alloc s_ _).mono o_ |>.trans (s.mono o_))
    have ag:w'.heap.size=w0.heap.size:=by rw[Z,M];simp
    have ah:=s.size;simp only[World.size_alloc] at ah
    have ae:∀k,k≠w.heap.size+1->k≠f.heap.size->k≠f.heap.size+1->w'.heap[k]?=w0.heap[k]?:=λk q1 q2 q3=>by
     rw[Z,G0 _ _ _ _ (show k≠f.heap.size+1 from q3),G0 _ _ _ _ (show k≠f.heap.size from q2),M,G0 _ _ _ _ (show k≠w.heap.size+1 from q1)]
    have hB:w'.heap[w.heap.size+1]?=some (.cells #[.slice y J z] 59 (0,0)):=by
     rw[Z,G0 _ _ _ _ (show w.heap.size+1≠f.heap.size+1 by omega),G0 _ _ _ _ (show w.heap.size+1≠f.heap.size by omega),M]
     have:w0.heap[w.heap.size+1]?=some (.cells #[.slice none 0 0] 59 (0,0)):=by
      rw[s.block _ o_,G7 _ _ _ t_,G7 _ _ _ o_];exact ab
     rw[aO this];rfl
    refine⟨?_,aA hB rfl,o_,?_⟩
    ·rw[Z,M];exact((ai.setCell (show w.heap.size<=w.heap.size+1 by omega) _).setCell (show w.heap.size<=f.heap.size by omega) _).setCell (show w.heap.size<=f.heap.size+1 by omega) _
    ·exact X.grow (λb I=>ae b (by have:=I.1;omega) (by have:=I.1;omega) (by have:=I.1;omega)) (λb I=>⟨I.1,by rw[ag];exact I.2⟩)
   ·refine F5 ⟨k,l,u,D,U.trans (I.mono o_),F5 ?_⟩
    rw[N,hE];exact⟨u,rfl⟩
 ·obtain⟨L,lo,y,J,z,j,F,s,X,M,Z⟩:=hA;refine⟨y,J,z,X,M,?_⟩;obtain⟨r,ak,aj⟩:=hM j F L;refine(aj lo W _ Z ?_).mono ?_
  ·rcases ht with ht|⟨g,o,c,e,ad,hc⟩
   ·exact F7 ht
   ·exact F5 ⟨g,o,c,e,G3 ad s.size,λi hi=>⟨(s.cell (p:=⟨g,o+i,none⟩) ad).trans (hc i hi).1,(hc i hi).2⟩⟩
  ·rintro e w' ⟨v',D,I,fp,G,Y,H,O⟩;obtain⟨f',t',o',rfl,⟨x1,n1,c1,rfl⟩,⟨x2,n2,c2,rfl⟩,⟨x3,n3,c3,rfl⟩⟩:=O.form;exact⟨0,x1,x2,x3,n1,n2,n3,c1,c2,c3,_,D,L,j,fp,G,r,F,s.trans (I.mono s.size),Y,H,rfl,rfl,O,ak⟩
 ·obtain⟨L,j,fp,G,r,F,s,Y,H,rfl,rfl,O,P⟩:=hS;obtain⟨K,C⟩:=E_ ((W.alloc (.map #[] 0)).alloc (.cells #[.int .i64 ((0:Nat):Int),.slice x1 n1 c1,.slice x2 n2 c2,.slice x3 n3 c3,.int .i64 (cI 0 r.2),.slice none 0 0,.map (some W.heap.size)] 78));have t:Below W.heap.size W K:=by rw[C];exact((F9 _ _).alloc (F6 _) _).alloc s_ _
  have S:K.heap.size=W.heap.size+2:=by rw[C];simp
  have hM:K.heap[W.heap.size]?=some (.map #[] 0):=by rw[C];exact jF _ _ _
  have hB:K.heap[W.heap.size+1]?=some (.cells #[.int .i64 ((0:Nat):Int),.slice x1 n1 c1,.slice x2 n2 c2,.slice x3 n3 c3,.int .i64 (cI 0 r.2),.slice none 0 0,.map (some W.heap.size)] 78 (0,0)):=by rw[C];exact iC _ _ _
  rw[<-C];have Q:=O.keep (λk u=>t.block k (Y k u)) λ_ h=>h
  have ac:oL fp G K (W.heap.size+1) W.heap.size (.map #[] 0) (mR j m) ⟨0,r.1,cI 0 r.2⟩ 0:=by
   refine⟨⟨_,_,_,.slice none 0 0,[],hB,Q,World.ownsRow_nil _ _ _ _,rfl,λi hi=>by simp at hi,λk u e=>?_,λe=>?_⟩,P,λk u=>?_,hM,o_⟩
   ·simp[Value.ownBlock] at e
   ·simp[Value.ownBlock] at e
   ·have:=Y k u;exact⟨o_,o_,o_⟩
  refine(RD ac _ ⟨0,r.1,cI 0 r.2⟩ Q P (λ_=>by simp) o_ s_).mono ?_
  rintro e w' ⟨D,hf,al⟩;have T:=H.keep (λk u=>t.block k (Y k u)) (λ_ h=>h)
  refine⟨D,?_,F7 ⟨by rw[N];exact L,j,fp,G,W.heap.size+1,W.heap.size,F,rfl,by have:=s.size;omega,s.size,?_,⟨0,r.1,cI 0 r.2⟩,by simpa using al,rfl⟩⟩
  ·have B:Below w.heap.size w K:=s.trans (t.mono s.size);have E:uC (W.heap.size+1) K=none:=by rw[qF hB rfl];rfl
   exact⟨hf.os.trans B.os,hf.tape.trans B.tape,hf.output.trans B.output,G6 B.size hf.size,λk u=>by
    have:=s.size;rw[hf.blk k o_ o_ (by rw[E];simp),B.block k u]⟩
  ·refine T.keep (λk u=>?_) λ_ h=>h
   have E:uC (W.heap.size+1) K=none:=by rw[qF hB rfl];rfl
   have:=Y k u;exact hf.blk k o_ o_ (by rw[E];simp)
end Go.Proofs.YthbffcmfmjpncaaGreatDoor
