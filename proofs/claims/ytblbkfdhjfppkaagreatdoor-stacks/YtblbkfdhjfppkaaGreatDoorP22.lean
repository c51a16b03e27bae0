/- Contracts of the program: the store of states: where a key stands. -/
import Derived.Test.YtblbkfdhjfppkaaGreatDoorP21
set_option linter.defProp false
set_option maxRecDepth 100000
set_option maxHeartbeats 4000000
namespace Go.Proofs.YtblbkfdhjfppkaaGreatDoor
open Hs
open _root_.Go.Proofs.Tryz
open Go.RowKit
def rC(x y:Int):Int:=if x<y then -1 else if x>y then 1 else 0
def Z8{x y:Int}(h:¬x=y):¬rC x y=0:=by
 unfold rC;split
 ·omega
 ·split<;>omega
def IM(x:Int)(w:World):Calls prog 280 #[.int .i64 x] w fun e a=>e=.returned (.bool false)/\a=w:=by
 go_enter func280,ntmps280;go_wp2_with fail;go_ret;exact⟨by simp,rfl⟩
def RA(x y:Int)(w:World):Calls prog 225 #[.int .i64 x,.int .i64 y] w fun e f=>e=.returned (.int .i64 (rC x y))/\f=w:=by
 go_enter func225,ntmps225;go_wp2_with fail;refine(IM x w).mono ?_;rintro e d ⟨rfl,rfl⟩;go_wp2_with fail;refine(IM y d).mono ?_;rintro e g ⟨rfl,rfl⟩;by_cases b:x<y
 ·have a:Hid (rC x y= -1):=by show _=_;unfold rC;rw[if_pos b]
  go_wp2_with fail;go_ret;exact⟨by rw[a.out];rfl,rfl⟩
 ·by_cases c:y<x
  ·have a:Hid (rC x y=1):=by show _=_;unfold rC;rw[if_neg b,if_pos c]
   go_wp2_with fail;go_ret;exact⟨by rw[a.out];rfl,rfl⟩
  ·have a:Hid (rC x y=0):=by show _=_;unfold rC;rw[if_neg b,if_neg c]
   go_wp2_with fail;go_ret;exact⟨by rw[a.out];rfl,rfl⟩
def IZ(k f:Int)(a b c d e:Value)(w:World)(i:∃x l c,b=.slice x l c)(p:∃x l d,c=.slice x l d)(g:∃x l c,d=.slice x l c)(o:∃n,a=.int .i64 n)(m:∃n,e=.int .i64 n):
 Calls prog 224 #[.agg #[.int .i64 k,a,b,c,d,e],.int .i64 f] w fun j h=>j=.returned (.int .i64 (rC k f))/\h=w.alloc (.cells #[.int .i64 k,a,b,c,d,e] 265):=by
 obtain⟨_,_,_,rfl⟩:=i;obtain⟨_,_,_,rfl⟩:=p;obtain⟨_,_,_,rfl⟩:=g;obtain⟨_,rfl⟩:=o;obtain⟨_,rfl⟩:=m;go_enter func224,ntmps224;go_wp2_with fail;refine(RA k f _).mono ?_;rintro e q ⟨rfl,rfl⟩;go_wp2_with fail;go_ret;exact⟨rfl,rfl⟩
def p6(a b:Value)(W:World):(callFunc 224 #[a,b]).run prog W=.ok (.enter 224 #[a,b]) W:=by kernel_rfl
structure Ent where
 k:Int
 a:Int
 b:Value
 c:Value
 d:Value
 e:Int
def Ent.cells(x:Ent):List Value:=[.int .i64 x.k,.int .i64 x.a,x.b,x.c,x.d,.int .i64 x.e]
def jC:List Ent->List Value
 |[]=>[]
 |x::l=>x.cells++jC l
structure Ent.Ok(x:Ent):Prop where
 b:∃y l c,x.b=.slice y l c
 c:∃y l c,x.c=.slice y l c
 d:∃y l c,x.d=.slice y l c
def R8(w:World)(g:Nat)(es:List Ent):Prop:=∀i (h:i<es.length),es[i].Ok/\w.cell? ⟨g,i*6,none⟩=some (.int .i64 es[i].k)/\w.cell? ⟨g,i*6+1,none⟩=some (.int .i64 es[i].a)/\w.cell? ⟨g,i*6+2,none⟩=some es[i].b/\w.cell? ⟨g,i*6+3,none⟩=some es[i].c/\w.cell? ⟨g,i*6+4,none⟩=some es[i].d/\w.cell? ⟨g,i*6+5,none⟩=some (.int .i64 es[i].e)
structure Found(es:List Ent)(key:Int)(at_:Nat)(found:Bool):Prop where
 le:at_<=es.length
 lo:∀i (h:i<es.length),i<at_->es[i].k<key
 hi:∀i (h:i<es.length),at_<=i->key<=es[i].k
 fnd:found=true↔∃h:at_<es.length,es[at_].k=key
def SZ(g aa:Nat)(es:List Ent)(b:Int)(w:World)(hl:es.length<=100000)(X:g<w.heap.size)(he:R8 w g es)(hs:∀i j (hi:i<es.length) (hj:j<es.length),i<=j->es[i].k<=es[j].k):
 Calls prog 223 #[.slice (some ⟨g,0,none⟩) es.length aa,.int .i64 b,.func (.func 224) #[] #[]] w fun e w'=>∃G fd,e=.returned (.tuple #[.int .i64 (G:Nat),.bool fd])/\Below w.heap.size w w'/\Found es b G fd:=by
 have HE:=aB he;have Y:=aB hs;clear he hs;have af:=p6;go_enter func223,ntmps223;go_wp2_with fail;go_loopg [9,10,11] es.length (fun gk iv jv _ wr=>∃i j:Nat,iv=.int .i64 i/\jv=.int .i64 j/\i<=j/\j<=es.length/\j-i<=gk/\Below w.heap.size w wr/\(∀k (h:k<es.length),k<i->es[k].k<b)/\(∀k (h:k<es.length),j<=k->b<=es[k].k))
 case atStart=>exact⟨0,es.length,rfl,rfl,by omega,by omega,by omega,ay_ _ _,fun k h v=>by omega,fun k h v=>by omega⟩
 case round=>
  obtain⟨i,j,rfl,rfl,ad,hj,ae,m,d,c⟩:=hrel;by_cases ac:i<j
  ·have n:=aB (aW_ d c);have hm:(i+j)/2<es.length:=by omega
   obtain⟨y,x,A,s,t,q,z⟩:=HE.out _ hm;have a:∀o u,w.cell? ⟨g,o,none⟩=some u->wr.cell? ⟨g,o,none⟩=some u:=fun o u hu=>by rw[m.cell (p:=⟨g,o,none⟩) X];exact hu
   have x:=a _ _ x;have A:=a _ _ A;have s:=a _ _ s;have t:=a _ _ t;have q:=a _ _ q;have z:=a _ _ z;have ab:g<wr.heap.size:=az_ X m.size;have r:=aB m;have H:Hid (∀k (h:k<es.length),(k<=(i+j)/2->es[k].k<=es[(i+j)/2].k)/\((i+j)/2<=k->es[(i+j)/2].k<=es[k].k)):=fun k h=>⟨fun v=>Y.out _ _ h hm v,fun v=>Y.out _ _ hm h v⟩
   obtain⟨I,T,N,L⟩:=y.b;obtain⟨W,U,E,S⟩:=y.c;obtain⟨M,Q,F,V⟩:=y.d;rw[L] at s;rw[S] at t;rw[V] at q;generalize es[(i+j)/2].k=mk at*;generalize es[(i+j)/2].a=P at*;generalize es[(i+j)/2].e=O at*;clear d c m L S V a;have J:=aB (IZ mk b (.int .i64 P) (.slice I T N) (.slice W U E) (.slice M Q F) (.int .i64 O) wr ⟨_,_,_,rfl⟩ ⟨_,_,_,rfl⟩ ⟨_,_,_,rfl⟩ ⟨_,rfl⟩ ⟨_,rfl⟩);go_wp2_with fail;refine J.out.mono ?_;rintro e w1 ⟨rfl,rfl⟩;have l:=aB (r.out.trans (((ay_ _ wr).alloc (au_ _) (.cells #[.int .i64 mk,.int .i64 P,.slice I T N,.slice W U E,.slice M Q F,.int .i64 O] 265)).mono r.out.size));clear r J x A s t q z;by_cases f:mk<b
   ·have D:rC mk b= -1:=by unfold rC;rw[if_pos f]
    rw[D];have C:=aB f;clear f D;go_wp2_with fail;go_roundg ((gk-1))
    case measure=>omega
    case rel=>
     refine⟨(i+j)/2+1,j,by go_num,rfl,by omega,hj,by omega,l.out,fun k h v=>?_,n.out.2⟩
     exact Int.lt_of_le_of_lt ((H.out k h).1 (by omega)) C.out
   ·have D:0<=rC mk b:=by unfold rC;rw[if_neg f];split<;>omega
    have C:=aB f;clear f;go_wp2_with fail;go_roundg (gk-1)
    case measure=>omega
    case rel=>
     refine⟨i,(i+j)/2,rfl,by go_num,by omega,by omega,by omega,l.out,n.out.1,fun k h v=>?_⟩
     have:=(H.out k h).2 v;have:=C.out;omega
  ·obtain rfl:i=j:=by omega
   by_cases Z:i<es.length
   ·have n:=aB (aW_ d c);obtain⟨y,x,A,s,t,q,z⟩:=HE.out _ Z;have a:∀o u,w.cell? ⟨g,o,none⟩=some u->wr.cell? ⟨g,o,none⟩=some u:=fun o u hu=>by rw[m.cell (p:=⟨g,o,none⟩) X];exact hu
    have x:=a _ _ x;have A:=a _ _ A;have s:=a _ _ s;have t:=a _ _ t;have q:=a _ _ q;have z:=a _ _ z;have ab:g<wr.heap.size:=az_ X m.size;have r:=aB m;obtain⟨I,T,N,L⟩:=y.b;obtain⟨W,U,E,S⟩:=y.c;obtain⟨M,Q,F,V⟩:=y.d;rw[L] at s;rw[S] at t;rw[V] at q;obtain⟨mk,B⟩:∃mk,mk=es[i].k:=⟨_,rfl⟩;rw[<-B] at x;have K:=aB B;generalize es[i].a=P at*;generalize es[i].e=O at*;clear d c m L S V a B y HE Y;have J:=aB (IZ mk b (.int .i64 P) (.slice I T N) (.slice W U E) (.slice M Q F) (.int .i64 O) wr ⟨_,_,_,rfl⟩ ⟨_,_,_,rfl⟩ ⟨_,_,_,rfl⟩ ⟨_,rfl⟩ ⟨_,rfl⟩);go_wp2_with fail;refine J.out.mono ?_;rintro e w1 ⟨rfl,rfl⟩;have l:=aB (r.out.trans (((ay_ _ wr).alloc (au_ _) (.cells #[.int .i64 mk,.int .i64 P,.slice I T N,.slice W U E,.slice M Q F,.int .i64 O] 265)).mono r.out.size));clear r J x A s t q z;by_cases f:mk=b
    ·have D:rC mk b=0:=by unfold rC;rw[if_neg (by omega),if_neg (by omega)]
     rw[D];have C:=aB f;clear f D;go_wp2_with fail;go_ret2
     refine⟨i,true,rfl,l.out,bW_ Z,n.out.1,n.out.2,?_⟩;simp only[true_iff];exact⟨Z,K.out.symm.trans C.out⟩
    ·have D:(rC mk b==0)=false:=by simpa using Z8 f
     have C:=aB f;clear f;go_wp2_with fail;go_ret2
     refine⟨i,false,rfl,l.out,bW_ Z,n.out.1,n.out.2,?_⟩;simp only[Bool.false_eq_true,false_iff];rintro⟨_,e⟩;exact C.out (K.out.trans e)
   ·have n:=aB (aW_ d c);have r:=aB m;clear d c m HE Y;go_wp2_with fail;go_ret2
    refine⟨i,false,rfl,r.out,by omega,n.out.1,n.out.2,?_⟩
    simp only[Bool.false_eq_true,false_iff];rintro⟨h,_⟩;omega
def SY(a:Int)(w:World):
 Calls prog 223 #[.slice none 0 0,.int .i64 a,.func (.func 224) #[] #[]] w fun e b=>e=.returned (.tuple #[.int .i64 0,.bool false])/\b=w:=by
 go_enter func223,ntmps223;go_wp2_with fail;go_loopg [9,10,11] 0 (fun _ c d _ wr=>c=.int .i64 0/\d=.int .i64 0/\wr=w)
 case atStart=>exact⟨rfl,rfl,rfl⟩
 case round=>
  obtain⟨rfl,rfl,rfl⟩:=hrel;go_wp2_with fail;go_ret2
  exact⟨rfl,rfl⟩
def Y4:(prog.info? 265).map (fun i=>(i.zero,i.size,i.bytes))=some (some (.agg #[.int .i64 0,.int .i64 0,.slice none 0 0,.slice none 0 0,.slice none 0 0,.int .i64 0]),6,96):=by kernel_rfl
def IY(w:World)(sb:Nat)(x:Option Addr)(n c:Nat)(b:Int)(P:Int->Bool->World->Prop)(k:w.cell? ⟨sb,5,none⟩=some (.slice x n c))
 (i:Hid (Calls prog 223 #[.slice x n c,.int .i64 b,.func (.func 224) #[] #[]] w fun e d=>∃a f,e=.returned (.tuple #[.int .i64 a,.bool f])/\P a f d)):
 Calls prog 162 #[.pointer (some ⟨sb,5,none⟩),.int .i64 b] w fun e d=>∃a f,e=.returned (.tuple #[.int .i64 a,.bool f])/\P a f d:=by
 go_enter func162,ntmps162;go_wp2_with fail;refine i.out.mono ?_;rintro e j ⟨a,f,rfl,g⟩;have h:=aB g;clear g;go_wp2_with fail;go_ret2
 exact⟨a,f,rfl,h.out⟩
def CV(w:World)(sb g n y b:Nat)(j a e:Int)(t r k:Option Addr)(s v l c1 m p:Nat)(P Q:World->Prop)(E:b<n)
 (F:Hid (Calls prog 162 #[.pointer (some ⟨sb,5,none⟩),.int .i64 j] (w.alloc (.cells #[.int .i64 a,.slice t s c1,.slice r v m,.slice k l p,.int .i64 e] 108)) fun q x=>q=.returned (.tuple #[.int .i64 b,.bool true])/\Q x))
 (B:Hid (∀W,Q W->sb<W.heap.size/\W.cell? ⟨sb,5,none⟩=some (.slice (some ⟨g,0,none⟩) n y)/\g<W.heap.size/\(∃c,W.heap[g]?=some (.cells c 265 (0,0))/\b*6+5<c.size)/\W.heap[w.heap.size]?=some (.cells #[.int .i64 a,.slice t s c1,.slice r v m,.slice k l p,.int .i64 e] 108 (0,0))/\
   ∀C,aQ (((((W.setCell ⟨g,b*6+1,none⟩ (.int .i64 a)).setCell ⟨g,b*6+2,none⟩ (.slice t s c1)).setCell ⟨g,b*6+3,none⟩ (.slice r v m)).setCell ⟨g,b*6+4,none⟩ (.slice k l p)).setCell ⟨g,b*6+5,none⟩ (.int .i64 e)) C->P C)):
 Calls prog 126 #[.pointer (some ⟨sb,5,none⟩),.int .i64 j,.agg #[.int .i64 a,.slice t s c1,.slice r v m,.slice k l p,.int .i64 e]] w fun q x=>q=.returned (.tuple #[])/\P x:=by
 go_enter func126,ntmps126;go_wp2_with fail;refine F.out.mono ?_;rintro q z ⟨rfl,D⟩;obtain⟨U,q2,X,⟨c,f,G⟩,d,A⟩:=B.out _ D;have H:=aB A;have T:=aA d (i:=0) rfl;have I:=aA d (i:=1) rfl;have k2:=aA d (i:=2) rfl;have N:=aA d (i:=3) rfl;have V:=aA d (i:=4) rfl;have hl:=aD d;have h:∀o,o<=b*6+5->∃u,z.cell? ⟨g,o,none⟩=some u:=fun o Z=>⟨c[o]'(by omega),by rw[cell_of_row z g o c _ _ f];exact aC_ (by omega)⟩
 obtain⟨u1,m1⟩:=h (b*6+1) (by omega)
 obtain⟨u2,J⟩:=h (b*6+2) (by omega)
 obtain⟨u3,K⟩:=h (b*6+3) (by omega)
 obtain⟨u4,m4⟩:=h (b*6+4) (by omega)
 obtain⟨u5,m5⟩:=h (b*6+5) (by omega)
 have S:=aE f (i:=b*6+1);have M:=aE f (i:=b*6+2);have z3:=aE f (i:=b*6+3);have O:=aE f (i:=b*6+4);have L:=aE f (i:=b*6+5);have e1:(0:Int)<=(b:Int):=by omega
 have Y:(b:Int)<(n:Int):=by omega
 clear D f G d A h B;go_wp2_with fail;go_region
 all_goals
  go_wp2_with fail;go_end0;exact⟨rfl,H.out _ (aQ.drew _)⟩
def UP(w:World)(base b n:Nat)(v:Value)(xs:List Value)(h:Int)(a:w.ownsRow base 265 6 v n xs)(u:w.heap[b]?=some (.cells #[.int .i64 h,.int .i64 0,.slice none 0 0,.slice none 0 0,.slice none 0 0,.int .i64 0] 265 (0,0)))(N:n<=100000)(k:base<=w.heap.size):
 Calls prog 176 #[v,.int .i64 n,.slice (some ⟨b,0,none⟩) 1 1] w fun e t=>∃g l,e=.returned (.slice (some ⟨g,0,none⟩) (n+1) l)/\t.ownsRow base 265 6 (.slice (some ⟨g,0,none⟩) (n+1) l) (n+1) (xs++[.int .i64 h,.int .i64 0,.slice none 0 0,.slice none 0 0,.slice none 0 0,.int .i64 0])/\w.grownBy t v.ownBlock/\(v.ownBlock=some g\/g=w.heap.size):=by
 obtain⟨C,I,p,r,s⟩:=info_parts Y4;obtain⟨x,c,rfl⟩:=cU a;have F:=aB a;have H:=aB (World.news_of_block u);have j:∀v∈([.int .i64 h,.int .i64 0,.slice none 0 0,.slice none 0 0,.slice none 0 0,.int .i64 0]:List Value),v.oneCell'=true:=fun v y=>by simp at y;rcases y with rfl|rfl|rfl|rfl<;>rfl
 have HONE:=aB j
 have J:(x=none/\n=0/\c=0)\/(∃g,x=some ⟨g,0,none⟩/\n<c)\/∃g,x=some ⟨g,0,none⟩/\c=n:=by
  rcases a.2 with ⟨o,K⟩|⟨g,l,E,o,K,M,A,_⟩
  ·cases o;exact av_ ⟨rfl,rfl,rfl⟩
  ·cases o;rcases bm_ A with e|e
   ·exact as_ (as_ ⟨g,rfl,e.symm⟩)
   ·exact as_ (av_ ⟨g,rfl,e⟩)
 clear a j u;rcases J with ⟨rfl,rfl,rfl⟩|⟨B,rfl,G⟩|⟨B,rfl,rfl⟩
 all_goals
  go_enter func176,ntmps176;go_wp2_with (at_builtin;refine wpList_append_lies _ (by rfl) _ _ 109 (by rfl) base 265 C _ 6 96 underlying109 I p r s rfl (by decide) _ _ xs (by rfl) F.out ⟨b,0,none⟩ 1 1 [.int .i64 h,.int .i64 0,.slice none 0 0,.slice none 0 0,.slice none 0 0,.int .i64 0] (by rfl) (by rfl) (H.out) HONE.out (by decide) (by unfold maxLen;omega) (by omega) k w.heap.size rfl ?_)
  intro D m L f d i z;have q:=aB (aW_ f (aW_ d i));clear f d i;go_wp2_with fail;go_ret;exact⟨D,m,rfl,q.out.1,q.out.2.1,q.out.2.2⟩
def KZ(w:World)(sb n:Nat)(x:Option Addr)(c:Nat)(h a e:Int)(A r y:Option Addr)(t v z c1 q s:Nat)(P Q:World->Prop)(R:Nat->Nat->World->Prop)(hn:n<=100000)
 (D:Hid (Calls prog 162 #[.pointer (some ⟨sb,5,none⟩),.int .i64 h] (w.alloc (.cells #[.int .i64 a,.slice A t c1,.slice r v q,.slice y z s,.int .i64 e] 108)) fun m p=>m=.returned (.tuple #[.int .i64 n,.bool false])/\Q p))
 (F:Hid (∀W,Q W->sb<W.heap.size/\W.cell? ⟨sb,5,none⟩=some (.slice x n c)/\Calls prog 176 #[.slice x n c,.int .i64 n,.slice (some ⟨W.heap.size,0,none⟩) 1 1] (W.alloc (.cells #[.int .i64 h,.int .i64 0,.slice none 0 0,.slice none 0 0,.slice none 0 0,.int .i64 0] 265)) fun e p=>∃g b,e=.returned (.slice (some ⟨g,0,none⟩) (n+1) b)/\R g b p))
 (B:Hid (∀g b W,R g b W->sb<W.heap.size/\g≠sb/\g≠w.heap.size/\sb≠w.heap.size/\(∃u,W.cell? ⟨sb,5,none⟩=some u)/\W.frozen? ⟨sb,5,none⟩=false/\g<W.heap.size/\(∃d,W.heap[g]?=some (.cells d 265 (0,0))/\n*6+5<d.size)/\W.heap[w.heap.size]?=some (.cells #[.int .i64 a,.slice A t c1,.slice r v q,.slice y z s,.int .i64 e] 108 (0,0))/\
   ∀G,aQ ((((((W.setCell ⟨sb,5,none⟩ (.slice (some ⟨g,0,none⟩) (n+1) b)).setCell ⟨g,n*6+1,none⟩ (.int .i64 a)).setCell ⟨g,n*6+2,none⟩ (.slice A t c1)).setCell ⟨g,n*6+3,none⟩ (.slice r v q)).setCell ⟨g,n*6+4,none⟩ (.slice y z s)).setCell ⟨g,n*6+5,none⟩ (.int .i64 e)) G->P G)):
 Calls prog 126 #[.pointer (some ⟨sb,5,none⟩),.int .i64 h,.agg #[.int .i64 a,.slice A t c1,.slice r v q,.slice y z s,.int .i64 e]] w fun m p=>m=.returned (.tuple #[])/\P p:=by
 go_enter func126,ntmps126;go_wp2_with fail;refine D.out.mono ?_;rintro m w0 ⟨rfl,I⟩;obtain⟨O,M,E⟩:=F.out _ I;have l:=aB E;clear I E F D;go_wp2_with fail;refine l.out.mono ?_;rintro m H ⟨g,b,rfl,J⟩;obtain⟨q1,U,T,X,⟨v5,g4⟩,g5,Z,⟨d,j,N⟩,f,C⟩:=B.out _ _ _ J;have V:=aB C;have k0:=aA f (i:=0) rfl;have k1:=aA f (i:=1) rfl;have k2:=aA f (i:=2) rfl;have k3:=aA f (i:=3) rfl;have k4:=aA f (i:=4) rfl;have hl:=aD f;have k:∀o,o<=n*6+5->∃u,H.cell? ⟨g,o,none⟩=some u:=fun o ho=>⟨d[o]'(by omega),by rw[cell_of_row H g o d _ _ j];exact aC_ (by omega)⟩
 obtain⟨u1,m1⟩:=k (n*6+1) (by omega)
 obtain⟨u2,m2⟩:=k (n*6+2) (by omega)
 obtain⟨u3,m3⟩:=k (n*6+3) (by omega)
 obtain⟨u4,m4⟩:=k (n*6+4) (by omega)
 obtain⟨u5,m5⟩:=k (n*6+5) (by omega)
 have z1:=aE j (i:=n*6+1);have z2:=aE j (i:=n*6+2);have z3:=aE j (i:=n*6+3);have Y:=aE j (i:=n*6+4);have z5:=aE j (i:=n*6+5);have e1:(0:Int)<=(n:Int):=by omega
 have e2:(n:Int)<((n+1:Nat):Int):=by omega
 have S:¬sb=g:=fun e=>U e.symm
 have K:¬w.heap.size=g:=fun e=>T e.symm
 have L:¬w.heap.size=sb:=fun e=>X e.symm
 clear J j N f C k B O M l;go_wp2_with fail;go_region
 all_goals
  go_wp2_with fail;go_end0;exact⟨rfl,V.out _ (aQ.drew _)⟩
def nZ(a e:Int)(f i g:Option Addr)(c h j c1 b d:Nat)(w:World):Calls prog 106 #[.agg #[.int .i64 a,.slice f c c1,.slice i h b,.slice g j d,.int .i64 e]] w fun l k=>l=.returned (.int .i64 a)/\k=w.alloc (.cells #[.int .i64 a,.slice f c c1,.slice i h b,.slice g j d,.int .i64 e] 108):=by
 go_enter func106,ntmps106;go_wp2_with fail;go_ret;exact⟨rfl,rfl⟩
def SU(w:World)(sb:Nat)(a:Nat)(e:Int)(j h c:Option Addr)(i k d c1 f g:Nat)(P:World->Prop)(u:a%20=0)(v:a<=1000000)
 (r:Hid (∀n,Below w.heap.size w n->Calls prog 126 #[.pointer (some ⟨sb,5,none⟩),.int .i64 a,.agg #[.int .i64 a,.slice j i c1,.slice h k f,.slice c d g,.int .i64 e]] n fun b l=>b=.returned (.tuple #[])/\P l)):
 Calls prog 71 #[.pointer (some ⟨sb,0,none⟩),.agg #[.int .i64 a,.slice j i c1,.slice h k f,.slice c d g,.int .i64 e]] w fun b l=>b=.returned (.tuple #[])/\P l:=by
 have p:(a:Int)%20=0:=by omega
 have q:(a:Int).tmod 20=0:=by rw[Int.tmod_eq_emod_of_nonneg (by omega)];exact p
 go_enter func71,ntmps71;go_wp2_with fail;refine(nZ a e j h c i k d c1 f g _).mono ?_;rintro b s ⟨rfl,rfl⟩;go_wp2_with fail;go_region_law (go_simp;first|(go_at_call 106;refine(nZ a e j h c i k d c1 f g _).mono ?_;rintro b x ⟨rfl,rfl⟩)|(go_at_call 126;refine(r.out _ ((((ay_ _ w).alloc (au_ _) _).alloc (by simp) _).alloc (by simp;omega) _).drew).mono ?_;rintro b t ⟨rfl,m⟩;have o:=aB m;clear m))
 all_goals
  go_wp2_with fail;go_end0;exact⟨rfl,o.out⟩
def YG(w:World)(sb:Nat)(a:Nat)(e:Int)(j h b:Option Addr)(i k c c1 d f:Nat)(p:a%20≠0)(q:a<=1000000):
 Calls prog 71 #[.pointer (some ⟨sb,0,none⟩),.agg #[.int .i64 a,.slice j i c1,.slice h k d,.slice b c f,.int .i64 e]] w fun g l=>g=.returned (.tuple #[])/\Below w.heap.size w l:=by
 have m:¬(a:Int)%20=0:=by omega
 have n:¬(a:Int).tmod 20=0:=by rw[Int.tmod_eq_emod_of_nonneg (by omega)];exact m
 go_enter func71,ntmps71;go_wp2_with fail;refine(nZ a e j h b i k c c1 d f _).mono ?_;rintro g o ⟨rfl,rfl⟩;go_wp2_with fail;go_end0;exact⟨rfl,((ay_ _ w).alloc (au_ _) _).alloc (by simp) _⟩
def LI(l m:List Ent):jC (l++m)=jC l++jC m:=by
 induction l with
 |nil=>rfl
 |cons x l a=>simp[jC,a]
def LH(l:List Ent):(jC l).length=l.length*6:=by
 induction l with
 |nil=>rfl
 |cons x l a=>simp[jC,a,Ent.cells];omega
def IW:∀(l:List Ent) (i j:Nat) (h:i<l.length),j<6->(jC l)[i*6+j]?=(l[i].cells)[j]?
 |x::l,0,j,h,a=>by
  simp only[jC,Nat.zero_mul,bk_,bV_];rw[a3_ (by simpa [Ent.cells] using a)]
 |x::l,i+1,j,h,a=>by
  have:=IW l i j (by simpa using h) a
  simp only[jC,List.getElem_cons_succ];rw[aV_ (by simp[Ent.cells];omega),<-this]
  congr 1
  simp[Ent.cells];omega
def IV:∀(l:List Ent) (i:Nat) (x:Ent) (h:i<l.length),x.k=l[i].k->jC (l.set i x)=(((((jC l).set (i*6+1) (.int .i64 x.a)).set (i*6+2) x.b).set (i*6+3) x.c).set (i*6+4) x.d).set (i*6+5) (.int .i64 x.e)
 |y::l,0,x,h,a=>by
  simp only[bV_] at a;simp[jC,Ent.cells,a]
 |y::l,i+1,x,h,a=>by
  have b:=IV l i x (by simpa using h) (by simpa using a)
  have e:∀j,(i+1)*6+j=i*6+j+6:=fun j=>by omega
  simp only[b1_,jC,e,Ent.cells,aY_,by_];rw[b]
def F7(fp:Nat->Value)(F:Nat->Prop)(w:World)(st:Nat->Option bI)(i:Nat)(x:Ent):Prop:=
 x.k=((20*i:Nat):Int)/\∃s,st (20*i)=some s/\kR fp F w (.agg #[.int .i64 x.a,x.b,x.c,x.d,.int .i64 x.e]) s
def F7.keep{a:Nat->Value}{F G:Nat->Prop}{w w':World}{c:Nat->Option bI}{i:Nat}{x:Ent}(h:F7 a F w c i x)(d:∀b,F b->w'.heap[b]?=w.heap[b]?)(j:∀b,F b->G b):F7 a G w' c i x:=by
 obtain⟨f,s,e,g⟩:=h;exact⟨f,s,e,g.keep d j⟩
def F7.ok{d:Nat->Value}{F:Nat->Prop}{w:World}{j:Nat->Option bI}{i:Nat}{x:Ent}(h:F7 d F w j i x):x.Ok:=by
 obtain⟨_,s,_,g⟩:=h;obtain⟨o,m,n,e,f,k,l⟩:=g.form;simp only[Value.agg.injEq] at e;have b:=congrArg (fun z=>z[1]?) e
 have a:=congrArg (fun z=>z[2]?) e
 have c:=congrArg (fun z=>z[3]?) e
 simp at b a c;subst b a c;exact⟨f,k,l⟩
structure jV(fp:Nat->Value)(F:Nat->Prop)(w:World)(sb mb:Nat)(mo:Obj)(st:Nat->Option bI)(s:bI)(n:Nat):Prop where
 blk:∃fv tv ov ev es,w.heap[sb]?=some (.cells #[.int .i64 s.time,fv,tv,ov,.int .i64 s.stop,ev,.map (some mb)] 114 (0,0))/\kR fp F w (.agg #[.int .i64 s.time,fv,tv,ov,.int .i64 s.stop]) s/\
  w.ownsRow (sb+1) 265 6 ev n (jC es)/\es.length=n/\(∀i (h:i<es.length),F7 fp F w st i es[i])/\(∀k,F k->ev.ownBlock≠some k)/\ev.ownBlock≠some mb
 now:st s.time=some s
 fix:∀k,F k->k<w.heap.size/\k≠sb/\k≠mb
 map:w.heap[mb]?=some mo/\mb≠sb
def lX(sb:Nat)(w:World):Option Nat:=match w.heap[sb]? with|some (.cells c _ _)=>(c[5]?).bind Value.ownBlock|_=>none
def nL{sb:Nat}{w w':World}(h:w'.heap[sb]?=w.heap[sb]?):lX sb w'=lX sb w:=by unfold lX;rw[h]
def mE{sb:Nat}{w:World}{c:Array Value}{T:TypeId}{z:Nat × Nat}{v:Value}(h:w.heap[sb]?=some (.cells c T z))(a:c[5]?=some v):lX sb w=v.ownBlock:=by unfold lX;rw[h];simp[a]
structure Fs(sb:Nat)(w w':World):Prop where
 os:w'.os=w.os
 tape:w'.tape=w.tape
 output:w'.output=w.output
 size:w.heap.size<=w'.heap.size
 blk:∀k,k<w.heap.size->k≠sb->lX sb w≠some k->w'.heap[k]?=w.heap[k]?
 row:∀k,lX sb w'=some k->lX sb w=some k\/w.heap.size<=k
def Fs.trans{sb:Nat}{a b c:World}(h:Fs sb a b)(k:Fs sb b c):Fs sb a c:=by
 refine⟨k.os.trans h.os,k.tape.trans h.tape,k.output.trans h.output,aF_ h.size k.size,fun i f j g=>?_,fun i f=>?_⟩
 ·rw[k.blk i (az_ f h.size) j (fun e=>?_),h.blk i f j g]
  rcases h.row i e with d|d
  ·exact g d
  ·omega
 ·rcases k.row i f with d|d
  ·exact h.row i d
  ·exact as_ (aF_ h.size d)
def Fs.of_below{sb:Nat}{w w':World}(h:Below w.heap.size w w')(b:sb<w.heap.size):Fs sb w w':=
 ⟨h.os,h.tape,h.output,h.size,fun k a _ _=>h.block k a,fun k a=>av_ (by rw[<-nL (h.block sb b)];exact a)⟩
section
variable {fp:Nat->Value} {F G:Nat->Prop} {w w':World} {sb mb n:Nat} {mo:Obj} {st:Nat->Option bI} {s:bI}
def jV.lt(h:jV fp F w sb mb mo st s n):sb<w.heap.size:=by
 obtain⟨_,_,_,_,_,a,_⟩:=h.blk;exact aD a
def jV.row(h:jV fp F w sb mb mo st s n):∀k,lX sb w=some k->sb<k/\k<w.heap.size/\¬F k/\k≠mb:=by
 obtain⟨_,_,_,i,_,c,_,f,_,_,b,d⟩:=h.blk;intro k a;rw[mE c rfl] at a;have:=f.lt k a;exact⟨by omega,this.2,fun g=>b k g a,fun e=>d (by rw[<-e];exact a)⟩
def jV.grow(h:jV fp F w sb mb mo st s n)(d:Below w.heap.size w w')(l:∀k,F k->G k)(o:∀k,G k->F k\/(w.heap.size<=k/\k<w'.heap.size)):jV fp G w' sb mb mo st s n:=by
 have f:=h.lt;obtain⟨C,r,z,q,y,u,p,m,t,x,B,v⟩:=h.blk;have j:∀b,F b->w'.heap[b]?=w.heap[b]?:=fun b g=>d.block b (h.fix b g).1
 refine⟨⟨C,r,z,q,y,by rw[d.block _ f];exact u,p.keep j l,gS m d,t,fun i A=>(x i A).keep j l,fun k a=>?_,v⟩,h.now,fun k a=>?_,by rw[d.block _ (aD h.map.1)];exact h.map⟩
 ·rcases o k a with c|c
  ·exact B k c
  ·intro e;have:=(m.lt k e).2;omega
 ·rcases o k a with c|c
  ·have:=h.fix k c;exact⟨az_ this.1 d.size,this.2⟩
  ·have:=aD h.map.1;exact⟨c.2,by omega,by omega⟩
def XB{es:List Ent}{base g b:Nat}(h:w.ownsRow base 265 6 (.slice (some ⟨g,0,none⟩) es.length b) es.length (jC es))(a:∀i (h:i<es.length),es[i].Ok):R8 w g es:=fun i d=>by
 have c:∀j u,j<6->(es[i].cells)[j]?=some u->w.cell? ⟨g,i*6+j,none⟩=some u:=fun j u e f=>by
  have:=h.cells (g:=g) rfl (i*6+j) u (by rw[IW es i j d e];exact f)
  rw[nQ] at this;exact this
 exact⟨a i d,c 0 _ (by omega) rfl,c 1 _ (by omega) rfl,c 2 _ (by omega) rfl,c 3 _ (by omega) rfl,c 4 _ (by omega) rfl,c 5 _ (by omega) rfl⟩
def WN{es:List Ent}{base g f i:Nat}{W:World}{a e:Int}{b c d:Value}(h:w.ownsRow base 265 6 (.slice (some ⟨g,0,none⟩) es.length f) es.length (jC es))(s:i<es.length)
 (o:W.heap=(((((w.setCell ⟨g,i*6+1,none⟩ (.int .i64 a)).setCell ⟨g,i*6+2,none⟩ b).setCell ⟨g,i*6+3,none⟩ c).setCell ⟨g,i*6+4,none⟩ d).setCell ⟨g,i*6+5,none⟩ (.int .i64 e)).heap):
 W.ownsRow base 265 6 (.slice (some ⟨g,0,none⟩) es.length f) es.length (jC (es.set i ⟨es[i].k,a,b,c,d,e⟩)):=by
 rcases h.2 with ⟨j,_⟩|⟨u,k,r,j,t,l,n,q,m,p⟩
 ·cases j
 cases j;refine⟨by simp[LH],as_ ⟨g,f,_,rfl,t,by rw[o];exact aS (aS (aS (aS (aS l)))),n,q,by simpa using m,?_⟩⟩
 rw[IV es i ⟨es[i].k,a,b,c,d,e⟩ s rfl,<-p];simp only[bB_,b6_]
end
structure ag_(n:Nat)(key:Int)(at_:Nat)(fd:Bool):Prop where
 le:at_<=n
 lo:∀i,i<at_->((20*i:Nat):Int)<key
 hi:∀i,i<n->at_<=i->key<=((20*i:Nat):Int)
 fnd:fd=true↔at_<n/\((20*at_:Nat):Int)=key
section
variable {fp:Nat->Value} {F G:Nat->Prop} {w w':World} {sb mb n:Nat} {mo:Obj} {st:Nat->Option bI} {s:bI}
def wG(h:jV fp F w sb mb mo st s n)(b:Int)(Q:n<=1000):
 Calls prog 162 #[.pointer (some ⟨sb,5,none⟩),.int .i64 b] w fun e k=>∃(d:Nat) (x:Bool),e=.returned (.tuple #[.int .i64 d,.bool x])/\Below w.heap.size w k/\ag_ n b d x:=by
 obtain⟨T,L,P,D,q,G,K,A,E,y,S,N⟩:=h.blk;have m:∀i (h:i<q.length),q[i].k=((20*i:Nat):Int):=fun i c=>(y i c).1
 have z:w.cell? ⟨sb,5,none⟩=some D:=aA G rfl;subst E;rcases A.2 with ⟨t,I⟩|⟨g,p,H,t,I,B,M,O⟩
 ·subst t;refine(IY w sb none 0 0 b (fun a f k=>a=0/\f=false/\k=w) z ((SY b w).mono ?_)).mono ?_
  ·rintro e k ⟨rfl,rfl⟩;exact⟨0,false,rfl,rfl,rfl,rfl⟩
  ·rintro e k ⟨a,f,rfl,rfl,rfl,rfl⟩;exact⟨0,false,rfl,ay_ _ _,a9_ _,fun i c=>by omega,fun i c _=>by omega,by simp;omega⟩
 ·subst t;refine(IY w sb (some ⟨g,0,none⟩) q.length p b (fun a f k=>∃d:Nat,a=d/\Below w.heap.size w k/\Found q b d f) z ((SZ g p q b w (by omega) (aD B) (XB A fun i c=>(y i c).ok) (fun i j c J C=>by rw[m i c,m j J];omega)).mono ?_)).mono ?_
  ·rintro e k ⟨a,f,rfl,u,l⟩;exact⟨_,f,rfl,a,rfl,u,l⟩
  ·rintro e k ⟨_,f,rfl,a,rfl,u,l⟩;refine⟨a,f,rfl,u,l.le,fun i c=>?_,fun i c v=>?_,?_⟩
   ·have:=l.lo i (by have:=l.le;omega) c
    rw[m i (by have:=l.le;omega)] at this;exact this
   ·have:=l.hi i c v;rw[m i c] at this;exact this
   ·rw[l.fnd];constructor
    ·rintro⟨o,r⟩;rw[m _ o] at r;exact⟨o,r⟩
    ·rintro⟨o,r⟩;exact⟨o,by rw[m _ o];exact r⟩
def IP(W:World)(g a b c d e:Nat)(u v x y z:Value)(k:Nat)(f:k≠g):(((((W.setCell ⟨g,a,none⟩ u).setCell ⟨g,b,none⟩ v).setCell ⟨g,c,none⟩ x).setCell ⟨g,d,none⟩ y).setCell ⟨g,e,none⟩ z).heap[k]?=W.heap[k]?:=by
 rw[ax_ _ _ _ _ f,ax_ _ _ _ _ f,ax_ _ _ _ _ f,ax_ _ _ _ _ f,ax_ _ _ _ _ f]
def WL(W:World)(p q r t o:Addr)(u v x y z:Value):(((((W.setCell p u).setCell q v).setCell r x).setCell t y).setCell o z).os=W.os/\(((((W.setCell p u).setCell q v).setCell r x).setCell t y).setCell o z).tape=W.tape/\(((((W.setCell p u).setCell q v).setCell r x).setCell t y).setCell o z).output=W.output/\(((((W.setCell p u).setCell q v).setCell r x).setCell t y).setCell o z).heap.size=W.heap.size:=by
 have a:∀(W:World) (p:Addr) (u:Value),(W.setCell p u).os=W.os/\(W.setCell p u).tape=W.tape/\(W.setCell p u).output=W.output/\(W.setCell p u).heap.size=W.heap.size:=fun W p u=>⟨rfl,rfl,rfl,by simp⟩
 simp[a]
def A9(h:jV fp F w sb mb mo st s n)(v:Value)(b:bI)(hv:kR fp F w v b)(hs:st b.time=some b)(hm:b.time%20=0)(hq:b.time/20<n)(hn:n<=1000)(ht:b.time<=1000000):
 Calls prog 126 #[.pointer (some ⟨sb,5,none⟩),.int .i64 b.time,v] w fun e u=>e=.returned (.tuple #[])/\Fs sb w u/\jV fp F u sb mb mo st s n:=by
 obtain⟨f',t',o',rfl,⟨L,E,C,rfl⟩,⟨z,G,y,rfl⟩,⟨H,I,D,rfl⟩⟩:=hv.form;obtain⟨fv,tv,ov,ev,t,Y,h2,Z,h4,h5,h6,h7⟩:=h.blk;subst h4;have J:=Z;rcases Z.2 with ⟨r1,r2⟩|⟨g,N,p,r1,r2,r3,r4,r5,r6,r7⟩
 ·omega
 subst r1;obtain⟨q,l⟩:∃q,q=w.alloc (.cells #[.int .i64 b.time,.slice L E C,.slice z G y,.slice H I D,.int .i64 b.stop] 108):=⟨_,rfl⟩;have O:Below w.heap.size w q:=by rw[l];exact(ay_ _ _).alloc (au_ _) _
 have Q:q.heap[w.heap.size]?=some (.cells #[.int .i64 b.time,.slice L E C,.slice z G y,.slice H I D,.int .i64 b.stop] 108 (0,0)):=by rw[l];exact aM _ _ rfl _
 have aa:q.heap.size=w.heap.size+1:=by rw[l];simp
 refine(CV w sb g t.length N (b.time/20) b.time b.time b.stop L z H E G I C y D (fun u=>Fs sb w u/\jV fp F u sb mb mo st s t.length) (fun W=>Below q.heap.size q W) hq ?_ (fun W hW=>?_))
 ·show Calls _ _ _ _ _
  rw[<-l];refine(wG (h.grow O (fun _ h=>h) (fun _ h=>av_ h)) b.time hn).mono ?_
  rintro e u ⟨a,fd,rfl,hb,U⟩
  have e1:a=b.time/20:=by
   refine Nat.le_antisymm ?_ ?_
   ·cases a with
    |zero=>omega
    |succ a=>have:=U.lo a (by omega);omega
   ·rcases a6_ a (b.time/20) with h8|h8
    ·have:=U.hi a (by omega) (au_ _);omega
    ·exact h8
  have e2:fd=true:=U.fnd.2 ⟨by omega,by omega⟩
  exact⟨by rw[e1,e2],hb⟩
 ·have c:Below w.heap.size w W:=O.trans (hW.mono (by omega))
  have m:=h.lt;have T:=h.grow c (fun _ h=>h) (fun _ h=>av_ h)
  have S:=aD r3;have M:W.heap[g]?=some (.cells p 265 (0,0)):=by rw[c.block _ S];exact r3
  have V:b.time/20*6+5<p.size:=by rw[r6];have:=Nat.mul_le_mul_right 6 r4;omega
  refine⟨T.lt,aA (by rw[c.block _ m];exact Y) rfl,aD M,⟨p,M,V⟩,by rw[hW.block _ (by omega)];exact Q,fun X r=>?_⟩
  have o:g≠sb:=by have:=(J.lt g rfl).1;omega
  have j:∀k,k≠g->X.heap[k]?=W.heap[k]?:=fun k j=>by rw[r.heap];exact IP W g _ _ _ _ _ _ _ _ _ _ k j
  have K:lX sb W=some g:=mE (by rw[c.block _ m];exact Y) rfl
  have B:∀k,F k->k≠g:=fun k j e=>h6 k j (by rw[e];rfl)
  have P:Fs sb W X:=by
   obtain⟨a1,a2,a3,a4⟩:=WL W ⟨g,b.time/20*6+1,none⟩ ⟨g,b.time/20*6+2,none⟩ ⟨g,b.time/20*6+3,none⟩ ⟨g,b.time/20*6+4,none⟩ ⟨g,b.time/20*6+5,none⟩ (.int .i64 b.time) (.slice L E C) (.slice z G y) (.slice H I D) (.int .i64 b.stop);refine⟨r.os.trans a1,r.tape.trans a2,r.output.trans a3,by rw[r.heap,a4];exact au_ _,fun k d hc hr=>j k fun e=>hr (by rw[e];exact K),fun k d=>av_ ?_⟩
   rw[<-nL (j sb (fun e=>o e.symm))];exact d
  refine⟨(Fs.of_below c m).trans P,⟨fv,tv,ov,.slice (some ⟨g,0,none⟩) t.length N,t.set (b.time/20) ⟨t[b.time/20].k,b.time,.slice L E C,.slice z G y,.slice H I D,b.stop⟩,?_,?_,?_,by simp,fun i hi=>?_,h6,h7⟩,h.now,fun k d=>?_,?_⟩
  ·rw[j sb (fun e=>o e.symm),c.block _ m];exact Y
  ·exact h2.keep (fun k d=>by rw[j k (B k d),c.block k (h.fix k d).1]) fun _ h=>h
  ·exact WN (gS J c) hq r.heap
  ·have x:i<t.length:=by simpa using hi
   have f:∀k,F k->X.heap[k]?=w.heap[k]?:=fun k d=>by rw[j k (B k d),c.block k (h.fix k d).1]
   by_cases A:i=b.time/20
   ·subst A;rw[List.getElem_set_self];refine⟨(h5 _ x).1,b,?_,hv.keep f fun _ h=>h⟩
    rw[show 20*(b.time/20)=b.time by omega];exact hs
   ·rw[List.getElem_set_ne (fun e=>A e.symm)]
    exact(h5 i x).keep f fun _ h=>h
  ·have:=h.fix k d;exact⟨by rw[r.heap];simpa using az_ this.1 c.size,this.2⟩
  ·refine⟨?_,h.map.2⟩;rw[j mb (fun e=>h7 (by rw[e];rfl)),c.block _ (aD h.map.1)];exact h.map.1
end
section
variable {fp:Nat->Value} {F G:Nat->Prop} {w w':World} {sb mb n:Nat} {mo:Obj} {st:Nat->Option bI} {s:bI}
def K5{es:List Ent}{base g f i m:Nat}{W:World}{k0 a e:Int}{b c d:Value}(j:es.length=m)(h:w.ownsRow base 265 6 (.slice (some ⟨g,0,none⟩) m f) m (jC es))(n:i<es.length)(k:es[i].k=k0)
 (l:W.heap=(((((w.setCell ⟨g,i*6+1,none⟩ (.int .i64 a)).setCell ⟨g,i*6+2,none⟩ b).setCell ⟨g,i*6+3,none⟩ c).setCell ⟨g,i*6+4,none⟩ d).setCell ⟨g,i*6+5,none⟩ (.int .i64 e)).heap):
 W.ownsRow base 265 6 (.slice (some ⟨g,0,none⟩) m f) m (jC (es.set i ⟨k0,a,b,c,d,e⟩)):=by
 subst j k;exact WN h n l
def A8(h:jV fp F w sb mb mo st s n)(v:Value)(f:bI)(hv:kR fp F w v f)(hs:st f.time=some f)(hm:f.time%20=0)(hq:f.time/20=n)(hn:n<=1000):
 Calls prog 126 #[.pointer (some ⟨sb,5,none⟩),.int .i64 f.time,v] w fun e M=>e=.returned (.tuple #[])/\Fs sb w M/\jV fp F M sb mb mo st s (n+1):=by
 obtain⟨f',t',o',rfl,⟨Z,U,Q,rfl⟩,⟨P,V,O,rfl⟩,⟨X,Y,S,rfl⟩⟩:=hv.form;obtain⟨fv,tv,ov,ev,T,h1,h2,h3,h4,h5,h6,h7⟩:=h.blk;have I:=h.lt;have ae:=h3;obtain⟨x,c,rfl⟩:=cU h3;obtain⟨y,B⟩:∃y,y=w.alloc (.cells #[.int .i64 f.time,.slice Z U Q,.slice P V O,.slice X Y S,.int .i64 f.stop] 108):=⟨_,rfl⟩;have C:Below w.heap.size w y:=by rw[B];exact(ay_ _ _).alloc (au_ _) _
 have ai:y.heap[w.heap.size]?=some (.cells #[.int .i64 f.time,.slice Z U Q,.slice P V O,.slice X Y S,.int .i64 f.stop] 108 (0,0)):=by rw[B];exact aM _ _ rfl _
 have av:y.heap.size=w.heap.size+1:=by rw[B];simp
 have H:∀k,(Value.slice x n c).ownBlock=some k->sb<k/\k<w.heap.size:=fun k j=>by have:=ae.lt k j;exact⟨by omega,this.2⟩
 refine(KZ w sb n x c f.time f.time f.stop Z P X U V Y Q O S (fun M=>Fs sb w M/\jV fp F M sb mb mo st s (n+1)) (fun W=>Below y.heap.size y W)
  (fun g l W=>(∀k,k<y.heap.size->some k≠(Value.slice x n c).ownBlock->W.heap[k]?=y.heap[k]?)/\W.os=w.os/\W.tape=w.tape/\W.output=w.output/\y.heap.size<=W.heap.size/\((Value.slice x n c).ownBlock=some g\/y.heap.size<=g)/\W.ownsRow (sb+1) 265 6 (.slice (some ⟨g,0,none⟩) (n+1) l) (n+1) (jC T++[.int .i64 f.time,.int .i64 0,.slice none 0 0,.slice none 0 0,.slice none 0 0,.int .i64 0])) (by omega) ?_ (fun W hW=>?_) (fun g l W hW=>?_))
 ·show Calls _ _ _ _ _
  rw[<-B];refine(wG (h.grow C (fun _ h=>h) (fun _ h=>av_ h)) f.time hn).mono ?_
  rintro e M ⟨a,fd,rfl,hb,hf⟩
  have e1:a=n:=by
   refine Nat.le_antisymm hf.le ?_;rcases a6_ a n with m|m
   ·have:=hf.hi a m (au_ _);omega
   ·exact m
  have e2:fd=false:=by
   cases fd with
   |false=>rfl
   |true=>have:=(hf.fnd.1 rfl).1;omega
  exact⟨by rw[e1,e2],hb⟩
 ·have o:Below w.heap.size w W:=C.trans (hW.mono (by omega))
  have ao:=gS ae o;refine⟨az_ I o.size,aA (by rw[o.block _ I];exact h1) rfl,?_⟩
  refine(UP _ (sb+1) W.heap.size n (.slice x n c) (jC T) f.time (ao.alloc _) (aM _ _ rfl _) (by omega) (by have:=o.size;simp;omega)).mono ?_
  rintro e M ⟨g,l,rfl,q1,q2,q3⟩;have aw:=hW.size;have aq:=q2.size;simp only[World.size_alloc] at aq;refine⟨g,l,rfl,fun k j q=>?_,?_,?_,?_,by omega,?_,q1⟩
  ·rw[q2.block k (by simp;omega) q,aA_ _ _ _ (by omega),hW.block k j]
  ·exact q2.os.trans o.os
  ·exact q2.tape.trans o.tape
  ·exact q2.output.trans o.output
  ·rcases q3 with q3|q3
   ·exact av_ q3
   ·exact as_ (by rw[q3];simp;omega)
 ·obtain⟨b1,b2,b3,b4,b5,b6,b7⟩:=hW;have ap:=b7;have t:g≠sb:=by have:=(b7.lt g rfl).1;omega
  have aj:g≠w.heap.size:=by
   rcases b6 with m|m
   ·have:=H g m;omega
   ·omega
  rcases b7.2 with ⟨r1,_⟩|⟨g',ar,aa,r1,r2,r3,r4,r5,r6,r7⟩
  ·cases r1
  cases r1
  have u:W.heap[sb]?=some (.cells #[.int .i64 s.time,fv,tv,ov,.int .i64 s.stop,.slice x n c,.map (some mb)] 114 (0,0)):=by
   rw[b1 sb (by omega) (fun e=>by have:=H sb e.symm;omega),C.block _ I];exact h1
  have am:n*6+5<aa.size:=by rw[r6];omega
  refine⟨by omega,t,aj,by omega,⟨_,aA u rfl⟩,aE u,aD r3,⟨aa,r3,am⟩,by rw[b1 _ (by omega) (fun e=>by have:=H _ e.symm;omega)];exact ai,fun W' N=>?_⟩
  generalize K:W.setCell ⟨sb,5,none⟩ (.slice (some ⟨g,0,none⟩) (n+1) l)=A at N;have ag:∀k,k≠sb->A.heap[k]?=W.heap[k]?:=fun k j=>by rw[<-K];exact ax_ _ _ _ _ j
  have ad:A.heap[sb]?=some (.cells #[.int .i64 s.time,fv,tv,ov,.int .i64 s.stop,.slice (some ⟨g,0,none⟩) (n+1) l,.map (some mb)] 114 (0,0)):=by rw[<-K];exact aS u
  have p:A.os=W.os/\A.tape=W.tape/\A.output=W.output/\A.heap.size=W.heap.size:=by rw[<-K];exact⟨rfl,rfl,rfl,by simp⟩
  have ac:∀k,k≠g->W'.heap[k]?=A.heap[k]?:=fun k j=>by rw[N.heap];exact IP A g _ _ _ _ _ _ _ _ _ _ k j
  obtain⟨a1,a2,a3,a4⟩:=WL A ⟨g,n*6+1,none⟩ ⟨g,n*6+2,none⟩ ⟨g,n*6+3,none⟩ ⟨g,n*6+4,none⟩ ⟨g,n*6+5,none⟩ (.int .i64 f.time) (.slice Z U Q) (.slice P V O) (.slice X Y S) (.int .i64 f.stop);have ab:W'.heap.size=W.heap.size:=by rw[N.heap,a4,p.2.2.2]
  have E:∀k,k<w.heap.size->k≠sb->some k≠(Value.slice x n c).ownBlock->W'.heap[k]?=w.heap[k]?:=fun k j q hr=>by
   have ak:k≠g:=fun e=>by
    rcases b6 with m|m
    ·exact hr (by rw[e];exact m.symm)
    ·omega
   rw[ac k ak,ag k q,b1 k (by omega) hr,C.block k j]
  have G:∀k,F k->W'.heap[k]?=w.heap[k]?:=fun k j=>E k (h.fix k j).1 (h.fix k j).2.1 fun e=>h6 k j e.symm
  have an:=aD h.map.1;have r:lX sb w=(Value.slice x n c).ownBlock:=mE h1 rfl;have D:W'.heap[sb]?=some (.cells #[.int .i64 s.time,fv,tv,ov,.int .i64 s.stop,.slice (some ⟨g,0,none⟩) (n+1) l,.map (some mb)] 114 (0,0)):=by rw[ac sb (fun e=>t e.symm)];exact ad
  obtain⟨z,hz⟩:∃z:Ent,z=⟨f.time,0,.slice none 0 0,.slice none 0 0,.slice none 0 0,0⟩:=⟨_,rfl⟩
  have J:A.ownsRow (sb+1) 265 6 (.slice (some ⟨g,0,none⟩) (n+1) l) (n+1) (jC (T++[z])):=by
   rw[LI,hz];exact aY ap fun k e=>ag k (by cases e;exact t)
  have L:(T++[z]).length=n+1:=by simp[h4]
  have al:(T++[z])[n]'(by rw[L];omega)=z:=by rw[bM_ (by omega)];simp
  have af:=K5 (W:=W') (i:=n) (k0:=f.time) (a:=f.time) (b:=.slice Z U Q) (c:=.slice P V O) (d:=.slice X Y S) (e:=f.stop) L J (by rw[L];omega) (by rw[al,hz]) N.heap
  refine⟨⟨N.os.trans (a1.trans (p.1.trans b2)),N.tape.trans (a2.trans (p.2.1.trans b3)),N.output.trans (a3.trans (p.2.2.1.trans b4)),by rw[ab];omega,fun k j q hr=>E k j q (fun e=>hr (by rw[r];exact e.symm)),fun k j=>?_⟩,⟨fv,tv,ov,.slice (some ⟨g,0,none⟩) (n+1) l,(T++[z]).set n ⟨f.time,f.time,.slice Z U Q,.slice P V O,.slice X Y S,f.stop⟩,D,h2.keep G fun _ h=>h,?_,by simp[h4],fun i hi=>?_,fun k j e=>?_,fun e=>?_⟩,h.now,fun k j=>?_,?_⟩
  ·rw[mE D rfl] at j;cases j;rcases b6 with m|m
   ·exact av_ (by rw[r];exact m)
   ·exact as_ (by show w.heap.size<=g;omega)
  ·exact af
  ·have au:i<n+1:=by simpa [h4] using hi
   by_cases ah:i=n
   ·subst ah;rw[List.getElem_set_self];refine⟨by show (f.time:Int)=_;omega,f,?_,hv.keep G fun _ h=>h⟩
    rw[show 20*i=f.time by omega];exact hs
   ·rw[List.getElem_set_ne (fun e=>ah e.symm),bv_ (by omega)]
    exact(h5 i (by omega)).keep G fun _ h=>h
  ·have e':g=k:=by simpa [Value.ownBlock] using e
   rcases b6 with m|m
   ·exact h6 k j (by rw[<-e'];exact m)
   ·have:=(h.fix _ j).1;omega
  ·have e':g=mb:=by simpa [Value.ownBlock] using e
   rcases b6 with m|m
   ·exact h7 (by rw[<-e'];exact m)
   ·omega
  ·have:=h.fix k j;exact⟨by rw[ab];omega,this.2⟩
  ·exact⟨by rw[E mb an h.map.2 (fun e=>h7 e.symm)];exact h.map.1,h.map.2⟩
def GZ(h:jV fp F w sb mb mo st s n)(v:Value)(a:bI)(A:kR fp F w v a)(x:st a.time=some a)(E:a.time%20=0->a.time/20<=n)(z:n<=1000)(j:a.time<=1000000):
 Calls prog 71 #[.pointer (some ⟨sb,0,none⟩),v] w fun e c=>e=.returned (.tuple #[])/\Fs sb w c/\jV fp F c sb mb mo st s (if a.time%20=0/\a.time/20=n then n+1 else n):=by
 obtain⟨I,H,J,rfl,⟨C,B,r,rfl⟩,⟨y,D,t,rfl⟩,⟨p,q,u,rfl⟩⟩:=A.form;by_cases b:a.time%20=0
 ·refine SU w sb a.time a.stop C y p B D q r t u _ b j fun W i=>?_
  have f:=h.grow i (fun _ h=>h) (fun _ h=>av_ h)
  have d:=A.keep (fun k G=>i.block k (h.fix k G).1) fun _ h=>h
  rcases bm_ (E b) with e|e
  ·rw[if_pos ⟨b,e⟩];refine(A8 f _ a d x b e z).mono ?_;rintro e c ⟨g,l,m⟩;exact⟨g,(Fs.of_below i h.lt).trans l,m⟩
  ·rw[if_neg (by omega)]
   refine(A9 f _ a d x b e z j).mono ?_;rintro e c ⟨g,l,m⟩;exact⟨g,(Fs.of_below i h.lt).trans l,m⟩
 ·rw[if_neg (fun e=>b e.1)]
  refine(YG w sb a.time a.stop C y p B D q r t u b j).mono ?_;rintro e c ⟨g,o⟩;exact⟨g,Fs.of_below o h.lt,h.grow o (fun _ h=>h) (fun _ h=>av_ h)⟩
end
end Go.Proofs.YtblbkfdhjfppkaaGreatDoor
