/- Contracts of the program: the store of states: where a key stands. -/
import Derived.Test.YtblbkfdhjfppkaaGreatDoorP21
set_option linter.defProp false
set_option maxRecDepth 100000
set_option maxHeartbeats 4000000
namespace Go.Proofs.YtblbkfdhjfppkaaGreatDoor
open Hs
open _root_.Go.Proofs.Tryz
open Go.RowKit
def rC(x y:Int):Int:=if x<y then -1 else if x>y then 1 else 0
def Z8{x y:Int}(h:¬x=y):¬rC x y=0:=by
 unfold rC;split
 ·omega
 ·split<;>omega
def IM(x:Int)(w:World):Calls prog 280 #[.int .i64 x] w fun e w'=>e=.returned (.bool false)/\w'=w:=by
 go_enter func280,ntmps280;go_wp2_with fail;go_ret;exact⟨by simp,rfl⟩
def RA(x y:Int)(w:World):Calls prog 225 #[.int .i64 x,.int .i64 y] w fun e w'=>e=.returned (.int .i64 (rC x y))/\w'=w:=by
 go_enter func225,ntmps225;go_wp2_with fail;refine(IM x w).mono ?_;rintro e d ⟨rfl,rfl⟩;go_wp2_with fail;refine(IM y d).mono ?_;rintro e f ⟨rfl,rfl⟩;by_cases b:x<y
 ·have a:Hid (rC x y= -1):=by show _=_;unfold rC;rw[if_pos b]
  go_wp2_with fail;go_ret;exact⟨by rw[a.out];rfl,rfl⟩
 ·by_cases c:y<x
  ·have a:Hid (rC x y=1):=by show _=_;unfold rC;rw[if_neg b,if_pos c]
   go_wp2_with fail;go_ret;exact⟨by rw[a.out];rfl,rfl⟩
  ·have a:Hid (rC x y=0):=by show _=_;unfold rC;rw[if_neg b,if_neg c]
   go_wp2_with fail;go_ret;exact⟨by rw[a.out];rfl,rfl⟩
def IZ(k f:Int)(a b c d e:Value)(w:World)(h:∃x l c,b=.slice x l c)(o:∃x l d,c=.slice x l d)(g:∃x l c,d=.slice x l c)(m:∃n,a=.int .i64 n)(j:∃n,e=.int .i64 n):
 Calls prog 224 #[.agg #[.int .i64 k,a,b,c,d,e],.int .i64 f] w fun i w'=>i=.returned (.int .i64 (rC k f))/\w'=w.alloc (.cells #[.int .i64 k,a,b,c,d,e] 265):=by
 obtain⟨_,_,_,rfl⟩:=h;obtain⟨_,_,_,rfl⟩:=o;obtain⟨_,_,_,rfl⟩:=g;obtain⟨_,rfl⟩:=m;obtain⟨_,rfl⟩:=j;go_enter func224,ntmps224;go_wp2_with fail;refine(RA k f _).mono ?_;rintro e p ⟨rfl,rfl⟩;go_wp2_with fail;go_ret;exact⟨rfl,rfl⟩
def p6(a b:Value)(W:World):(callFunc 224 #[a,b]).run prog W=.ok (.enter 224 #[a,b]) W:=by kernel_rfl
structure Ent where
 k:Int
 a:Int
 b:Value
 c:Value
 d:Value
 e:Int
def Ent.cells(x:Ent):List Value:=[.int .i64 x.k,.int .i64 x.a,x.b,x.c,x.d,.int .i64 x.e]
def jC:List Ent->List Value
 |[]=>[]
 |x::l=>x.cells++jC l
structure Ent.Ok(x:Ent):Prop where
 b:∃y l c,x.b=.slice y l c
 c:∃y l c,x.c=.slice y l c
 d:∃y l c,x.d=.slice y l c
def R8(w:World)(g:Nat)(es:List Ent):Prop:=∀i (h:i<es.length),es[i].Ok/\w.cell? ⟨g,i*6,none⟩=some (.int .i64 es[i].k)/\w.cell? ⟨g,i*6+1,none⟩=some (.int .i64 es[i].a)/\w.cell? ⟨g,i*6+2,none⟩=some es[i].b/\w.cell? ⟨g,i*6+3,none⟩=some es[i].c/\w.cell? ⟨g,i*6+4,none⟩=some es[i].d/\w.cell? ⟨g,i*6+5,none⟩=some (.int .i64 es[i].e)
structure Found(es:List Ent)(key:Int)(at_:Nat)(found:Bool):Prop where
 le:at_<=es.length
 lo:∀i (h:i<es.length),i<at_->es[i].k<key
 hi:∀i (h:i<es.length),at_<=i->key<=es[i].k
 fnd:found=true↔∃h:at_<es.length,es[at_].k=key
def SZ(g aa:Nat)(es:List Ent)(b:Int)(w:World)(hl:es.length<=100000)(X:g<w.heap.size)(he:R8 w g es)(hs:∀i j (hi:i<es.length) (hj:j<es.length),i<=j->es[i].k<=es[j].k):
 Calls prog 223 #[.slice (some ⟨g,0,none⟩) es.length aa,.int .i64 b,.func (.func 224) #[] #[]] w fun e w'=>∃G fd,e=.returned (.tuple #[.int .i64 (G:Nat),.bool fd])/\Below w.heap.size w w'/\Found es b G fd:=by
 have HE:=aB he;have Y:=aB hs;clear he hs;have af:=p6;go_enter func223,ntmps223;go_wp2_with fail;go_loopg [9,10,11] es.length (fun gk iv jv _ wr=>∃i j:Nat,iv=.int .i64 i/\jv=.int .i64 j/\i<=j/\j<=es.length/\j-i<=gk/\Below w.heap.size w wr/\(∀k (h:k<es.length),k<i->es[k].k<b)/\(∀k (h:k<es.length),j<=k->b<=es[k].k))
 case atStart=>exact⟨0,es.length,rfl,rfl,by omega,by omega,by omega,ay_ _ _,fun k h v=>by omega,fun k h v=>by omega⟩
 case round=>
  obtain⟨i,j,rfl,rfl,ad,hj,ae,m,d,c⟩:=hrel;by_cases ac:i<j
  ·have n:=aB (aW_ d c);have hm:(i+j)/2<es.length:=by omega
   obtain⟨y,x,A,s,t,q,z⟩:=HE.out _ hm;have a:∀o u,w.cell? ⟨g,o,none⟩=some u->wr.cell? ⟨g,o,none⟩=some u:=fun o u hu=>by rw[m.cell (p:=⟨g,o,none⟩) X];exact hu
   have x:=a _ _ x;have A:=a _ _ A;have s:=a _ _ s;have t:=a _ _ t;have q:=a _ _ q;have z:=a _ _ z;have ab:g<wr.heap.size:=az_ X m.size;have r:=aB m;have H:Hid (∀k (h:k<es.length),(k<=(i+j)/2->es[k].k<=es[(i+j)/2].k)/\((i+j)/2<=k->es[(i+j)/2].k<=es[k].k)):=fun k h=>⟨fun v=>Y.out _ _ h hm v,fun v=>Y.out _ _ hm h v⟩
   obtain⟨I,T,N,L⟩:=y.b;obtain⟨W,U,E,S⟩:=y.c;obtain⟨M,Q,F,V⟩:=y.d;rw[L] at s;rw[S] at t;rw[V] at q;generalize es[(i+j)/2].k=mk at*;generalize es[(i+j)/2].a=P at*;generalize es[(i+j)/2].e=O at*;clear d c m L S V a;have J:=aB (IZ mk b (.int .i64 P) (.slice I T N) (.slice W U E) (.slice M Q F) (.int .i64 O) wr ⟨_,_,_,rfl⟩ ⟨_,_,_,rfl⟩ ⟨_,_,_,rfl⟩ ⟨_,rfl⟩ ⟨_,rfl⟩);go_wp2_with fail;refine J.out.mono ?_;rintro e w1 ⟨rfl,rfl⟩;have l:=aB (r.out.trans (((ay_ _ wr).alloc (au_ _) (.cells #[.int .i64 mk,.int .i64 P,.slice I T N,.slice W U E,.slice M Q F,.int .i64 O] 265)).mono r.out.size));clear r J x A s t q z;by_cases f:mk<b
   ·have D:rC mk b= -1:=by unfold rC;rw[if_pos f]
    rw[D];have C:=aB f;clear f D;go_wp2_with fail;go_roundg ((gk-1))
    case measure=>omega
    case rel=>
     refine⟨(i+j)/2+1,j,by go_num,rfl,by omega,hj,by omega,l.out,fun k h v=>?_,n.out.2⟩
     exact Int.lt_of_le_of_lt ((H.out k h).1 (by omega)) C.out
   ·have D:0<=rC mk b:=by unfold rC;rw[if_neg f];split<;>omega
    have C:=aB f;clear f;go_wp2_with fail;go_roundg (gk-1)
    case measure=>omega
    case rel=>
     refine⟨i,(i+j)/2,rfl,by go_num,by omega,by omega,by omega,l.out,n.out.1,fun k h v=>?_⟩
     have:=(H.out k h).2 v;have:=C.out;omega
  ·obtain rfl:i=j:=by omega
   by_cases Z:i<es.length
   ·have n:=aB (aW_ d c);obtain⟨y,x,A,s,t,q,z⟩:=HE.out _ Z;have a:∀o u,w.cell? ⟨g,o,none⟩=some u->wr.cell? ⟨g,o,none⟩=some u:=fun o u hu=>by rw[m.cell (p:=⟨g,o,none⟩) X];exact hu
    have x:=a _ _ x;have A:=a _ _ A;have s:=a _ _ s;have t:=a _ _ t;have q:=a _ _ q;have z:=a _ _ z;have ab:g<wr.heap.size:=az_ X m.size;have r:=aB m;obtain⟨I,T,N,L⟩:=y.b;obtain⟨W,U,E,S⟩:=y.c;obtain⟨M,Q,F,V⟩:=y.d;rw[L] at s;rw[S] at t;rw[V] at q;obtain⟨mk,B⟩:∃mk,mk=es[i].k:=⟨_,rfl⟩;rw[<-B] at x;have K:=aB B;generalize es[i].a=P at*;generalize es[i].e=O at*;clear d c m L S V a B y HE Y;have J:=aB (IZ mk b (.int .i64 P) (.slice I T N) (.slice W U E) (.slice M Q F) (.int .i64 O) wr ⟨_,_,_,rfl⟩ ⟨_,_,_,rfl⟩ ⟨_,_,_,rfl⟩ ⟨_,rfl⟩ ⟨_,rfl⟩);go_wp2_with fail;refine J.out.mono ?_;rintro e w1 ⟨rfl,rfl⟩;have l:=aB (r.out.trans (((ay_ _ wr).alloc (au_ _) (.cells #[.int .i64 mk,.int .i64 P,.slice I T N,.slice W U E,.slice M Q F,.int .i64 O] 265)).mono r.out.size));clear r J x A s t q z;by_cases f:mk=b
    ·have D:rC mk b=0:=by unfold rC;rw[if_neg (by omega),if_neg (by omega)]
     rw[D];have C:=aB f;clear f D;go_wp2_with fail;go_ret2
     refine⟨i,true,rfl,l.out,bW_ Z,n.out.1,n.out.2,?_⟩;simp only[true_iff];exact⟨Z,K.out.symm.trans C.out⟩
    ·have D:(rC mk b==0)=false:=by simpa using Z8 f
     have C:=aB f;clear f;go_wp2_with fail;go_ret2
     refine⟨i,false,rfl,l.out,bW_ Z,n.out.1,n.out.2,?_⟩;simp only[Bool.false_eq_true,false_iff];rintro⟨_,e⟩;exact C.out (K.out.trans e)
   ·have n:=aB (aW_ d c);have r:=aB m;clear d c m HE Y;go_wp2_with fail;go_ret2
    refine⟨i,false,rfl,r.out,by omega,n.out.1,n.out.2,?_⟩
    simp only[Bool.false_eq_true,false_iff];rintro⟨h,_⟩;omega
def SY(a:Int)(w:World):
 Calls prog 223 #[.slice none 0 0,.int .i64 a,.func (.func 224) #[] #[]] w fun e w'=>e=.returned (.tuple #[.int .i64 0,.bool false])/\w'=w:=by
 go_enter func223,ntmps223;go_wp2_with fail;go_loopg [9,10,11] 0 (fun _ b c _ wr=>b=.int .i64 0/\c=.int .i64 0/\wr=w)
 case atStart=>exact⟨rfl,rfl,rfl⟩
 case round=>
  obtain⟨rfl,rfl,rfl⟩:=hrel;go_wp2_with fail;go_ret2
  exact⟨rfl,rfl⟩
def Y4:(prog.info? 265).map (fun i=>(i.zero,i.size,i.bytes))=some (some (.agg #[.int .i64 0,.int .i64 0,.slice none 0 0,.slice none 0 0,.slice none 0 0,.int .i64 0]),6,96):=by kernel_rfl
def IY(w:World)(sb:Nat)(x:Option Addr)(n c:Nat)(b:Int)(P:Int->Bool->World->Prop)(j:w.cell? ⟨sb,5,none⟩=some (.slice x n c))
 (h:Hid (Calls prog 223 #[.slice x n c,.int .i64 b,.func (.func 224) #[] #[]] w fun e w'=>∃a f,e=.returned (.tuple #[.int .i64 a,.bool f])/\P a f w')):
 Calls prog 162 #[.pointer (some ⟨sb,5,none⟩),.int .i64 b] w fun e w'=>∃a f,e=.returned (.tuple #[.int .i64 a,.bool f])/\P a f w':=by
 go_enter func162,ntmps162;go_wp2_with fail;refine h.out.mono ?_;rintro e i ⟨a,f,rfl,d⟩;have g:=aB d;clear d;go_wp2_with fail;go_ret2
 exact⟨a,f,rfl,g.out⟩
def CV(w:World)(sb g n x b:Nat)(j a e:Int)(t r k:Option Addr)(s v l c1 m p:Nat)(P Q:World->Prop)(D:b<n)
 (E:Hid (Calls prog 162 #[.pointer (some ⟨sb,5,none⟩),.int .i64 j] (w.alloc (.cells #[.int .i64 a,.slice t s c1,.slice r v m,.slice k l p,.int .i64 e] 108)) fun q w'=>q=.returned (.tuple #[.int .i64 b,.bool true])/\Q w'))
 (A:Hid (∀W,Q W->sb<W.heap.size/\W.cell? ⟨sb,5,none⟩=some (.slice (some ⟨g,0,none⟩) n x)/\g<W.heap.size/\(∃c,W.heap[g]?=some (.cells c 265 (0,0))/\b*6+5<c.size)/\W.heap[w.heap.size]?=some (.cells #[.int .i64 a,.slice t s c1,.slice r v m,.slice k l p,.int .i64 e] 108 (0,0))/\
   ∀B,aQ (((((W.setCell ⟨g,b*6+1,none⟩ (.int .i64 a)).setCell ⟨g,b*6+2,none⟩ (.slice t s c1)).setCell ⟨g,b*6+3,none⟩ (.slice r v m)).setCell ⟨g,b*6+4,none⟩ (.slice k l p)).setCell ⟨g,b*6+5,none⟩ (.int .i64 e)) B->P B)):
 Calls prog 126 #[.pointer (some ⟨sb,5,none⟩),.int .i64 j,.agg #[.int .i64 a,.slice t s c1,.slice r v m,.slice k l p,.int .i64 e]] w fun q w'=>q=.returned (.tuple #[])/\P w':=by
 go_enter func126,ntmps126;go_wp2_with fail;refine E.out.mono ?_;rintro q y ⟨rfl,C⟩;obtain⟨T,q2,V,⟨c,f,F⟩,d,z⟩:=A.out _ C;have G:=aB z;have S:=aA d (i:=0) rfl;have H:=aA d (i:=1) rfl;have k2:=aA d (i:=2) rfl;have M:=aA d (i:=3) rfl;have U:=aA d (i:=4) rfl;have Z:=aD d;have h:∀o,o<=b*6+5->∃u,y.cell? ⟨g,o,none⟩=some u:=fun o Y=>⟨c[o]'(by omega),by rw[cell_of_row y g o c _ _ f];exact aC_ (by omega)⟩
 obtain⟨u1,m1⟩:=h (b*6+1) (by omega)
 obtain⟨u2,I⟩:=h (b*6+2) (by omega)
 obtain⟨u3,J⟩:=h (b*6+3) (by omega)
 obtain⟨u4,m4⟩:=h (b*6+4) (by omega)
 obtain⟨u5,m5⟩:=h (b*6+5) (by omega)
 have O:=aE f (i:=b*6+1);have L:=aE f (i:=b*6+2);have z3:=aE f (i:=b*6+3);have N:=aE f (i:=b*6+4);have K:=aE f (i:=b*6+5);have e1:(0:Int)<=(b:Int):=by omega
 have X:(b:Int)<(n:Int):=by omega
 clear C f F d z h A;go_wp2_with fail;go_region
 all_goals
  go_wp2_with fail;go_end0;exact⟨rfl,G.out _ (aQ.drew _)⟩
def UP(w:World)(base b n:Nat)(v:Value)(xs:List Value)(h:Int)(a:w.ownsRow base 265 6 v n xs)(t:w.heap[b]?=some (.cells #[.int .i64 h,.int .i64 0,.slice none 0 0,.slice none 0 0,.slice none 0 0,.int .i64 0] 265 (0,0)))(M:n<=100000)(k:base<=w.heap.size):
 Calls prog 176 #[v,.int .i64 n,.slice (some ⟨b,0,none⟩) 1 1] w fun e w'=>∃g l,e=.returned (.slice (some ⟨g,0,none⟩) (n+1) l)/\w'.ownsRow base 265 6 (.slice (some ⟨g,0,none⟩) (n+1) l) (n+1) (xs++[.int .i64 h,.int .i64 0,.slice none 0 0,.slice none 0 0,.slice none 0 0,.int .i64 0])/\w.grownBy w' v.ownBlock/\(v.ownBlock=some g\/g=w.heap.size):=by
 obtain⟨B,H,p,r,s⟩:=info_parts Y4;obtain⟨x,c,rfl⟩:=cU a;have E:=aB a;have G:=aB (World.news_of_block t);have j:∀v∈([.int .i64 h,.int .i64 0,.slice none 0 0,.slice none 0 0,.slice none 0 0,.int .i64 0]:List Value),v.oneCell'=true:=fun v u=>by simp at u;rcases u with rfl|rfl|rfl|rfl<;>rfl
 have HONE:=aB j
 have I:(x=none/\n=0/\c=0)\/(∃g,x=some ⟨g,0,none⟩/\n<c)\/∃g,x=some ⟨g,0,none⟩/\c=n:=by
  rcases a.2 with ⟨o,J⟩|⟨g,l,D,o,J,L,z,_⟩
  ·cases o;exact av_ ⟨rfl,rfl,rfl⟩
  ·cases o;rcases bm_ z with e|e
   ·exact as_ (as_ ⟨g,rfl,e.symm⟩)
   ·exact as_ (av_ ⟨g,rfl,e⟩)
 clear a j t;rcases I with ⟨rfl,rfl,rfl⟩|⟨A,rfl,F⟩|⟨A,rfl,rfl⟩
 all_goals
  go_enter func176,ntmps176;go_wp2_with (at_builtin;refine wpList_append_lies _ (by rfl) _ _ 109 (by rfl) base 265 B _ 6 96 underlying109 H p r s rfl (by decide) _ _ xs (by rfl) E.out ⟨b,0,none⟩ 1 1 [.int .i64 h,.int .i64 0,.slice none 0 0,.slice none 0 0,.slice none 0 0,.int .i64 0] (by rfl) (by rfl) (G.out) HONE.out (by decide) (by unfold maxLen;omega) (by omega) k w.heap.size rfl ?_)
  intro C m K f d i y;have q:=aB (aW_ f (aW_ d i));clear f d i;go_wp2_with fail;go_ret;exact⟨C,m,rfl,q.out.1,q.out.2.1,q.out.2.2⟩
def KZ(w:World)(sb n:Nat)(x:Option Addr)(c:Nat)(h a e:Int)(z q v:Option Addr)(s t y c1 p r:Nat)(P Q:World->Prop)(R:Nat->Nat->World->Prop)(hn:n<=100000)
 (C:Hid (Calls prog 162 #[.pointer (some ⟨sb,5,none⟩),.int .i64 h] (w.alloc (.cells #[.int .i64 a,.slice z s c1,.slice q t p,.slice v y r,.int .i64 e] 108)) fun m w'=>m=.returned (.tuple #[.int .i64 n,.bool false])/\Q w'))
 (E:Hid (∀W,Q W->sb<W.heap.size/\W.cell? ⟨sb,5,none⟩=some (.slice x n c)/\Calls prog 176 #[.slice x n c,.int .i64 n,.slice (some ⟨W.heap.size,0,none⟩) 1 1] (W.alloc (.cells #[.int .i64 h,.int .i64 0,.slice none 0 0,.slice none 0 0,.slice none 0 0,.int .i64 0] 265)) fun e w'=>∃g b,e=.returned (.slice (some ⟨g,0,none⟩) (n+1) b)/\R g b w'))
 (A:Hid (∀g b W,R g b W->sb<W.heap.size/\g≠sb/\g≠w.heap.size/\sb≠w.heap.size/\(∃u,W.cell? ⟨sb,5,none⟩=some u)/\W.frozen? ⟨sb,5,none⟩=false/\g<W.heap.size/\(∃d,W.heap[g]?=some (.cells d 265 (0,0))/\n*6+5<d.size)/\W.heap[w.heap.size]?=some (.cells #[.int .i64 a,.slice z s c1,.slice q t p,.slice v y r,.int .i64 e] 108 (0,0))/\
   ∀F,aQ ((((((W.setCell ⟨sb,5,none⟩ (.slice (some ⟨g,0,none⟩) (n+1) b)).setCell ⟨g,n*6+1,none⟩ (.int .i64 a)).setCell ⟨g,n*6+2,none⟩ (.slice z s c1)).setCell ⟨g,n*6+3,none⟩ (.slice q t p)).setCell ⟨g,n*6+4,none⟩ (.slice v y r)).setCell ⟨g,n*6+5,none⟩ (.int .i64 e)) F->P F)):
 Calls prog 126 #[.pointer (some ⟨sb,5,none⟩),.int .i64 h,.agg #[.int .i64 a,.slice z s c1,.slice q t p,.slice v y r,.int .i64 e]] w fun m w'=>m=.returned (.tuple #[])/\P w':=by
 go_enter func126,ntmps126;go_wp2_with fail;refine C.out.mono ?_;rintro m w0 ⟨rfl,H⟩;obtain⟨N,L,D⟩:=E.out _ H;have l:=aB D;clear H D E C;go_wp2_with fail;refine l.out.mono ?_;rintro m G ⟨g,b,rfl,I⟩;obtain⟨q1,T,S,V,⟨v5,g4⟩,g5,Y,⟨d,j,M⟩,f,B⟩:=A.out _ _ _ I;have U:=aB B;have k0:=aA f (i:=0) rfl;have k1:=aA f (i:=1) rfl;have k2:=aA f (i:=2) rfl;have k3:=aA f (i:=3) rfl;have k4:=aA f (i:=4) rfl;have hl:=aD f;have k:∀o,o<=n*6+5->∃u,G.cell? ⟨g,o,none⟩=some u:=fun o Z=>⟨d[o]'(by omega),by rw[cell_of_row G g o d _ _ j];exact aC_ (by omega)⟩
 obtain⟨u1,m1⟩:=k (n*6+1) (by omega)
 obtain⟨u2,m2⟩:=k (n*6+2) (by omega)
 obtain⟨u3,m3⟩:=k (n*6+3) (by omega)
 obtain⟨u4,m4⟩:=k (n*6+4) (by omega)
 obtain⟨u5,m5⟩:=k (n*6+5) (by omega)
 have z1:=aE j (i:=n*6+1);have z2:=aE j (i:=n*6+2);have z3:=aE j (i:=n*6+3);have X:=aE j (i:=n*6+4);have z5:=aE j (i:=n*6+5);have e1:(0:Int)<=(n:Int):=by omega
 have e2:(n:Int)<((n+1:Nat):Int):=by omega
 have O:¬sb=g:=fun e=>T e.symm
 have J:¬w.heap.size=g:=fun e=>S e.symm
 have K:¬w.heap.size=sb:=fun e=>V e.symm
 clear I j M f B k A N L l;go_wp2_with fail;go_region
 all_goals
  go_wp2_with fail;go_end0;exact⟨rfl,U.out _ (aQ.drew _)⟩
def nZ(a e:Int)(f i g:Option Addr)(c h j c1 b d:Nat)(w:World):Calls prog 106 #[.agg #[.int .i64 a,.slice f c c1,.slice i h b,.slice g j d,.int .i64 e]] w fun k w'=>k=.returned (.int .i64 a)/\w'=w.alloc (.cells #[.int .i64 a,.slice f c c1,.slice i h b,.slice g j d,.int .i64 e] 108):=by
 go_enter func106,ntmps106;go_wp2_with fail;go_ret;exact⟨rfl,rfl⟩
def SU(w:World)(sb:Nat)(a:Nat)(e:Int)(j h c:Option Addr)(i k d c1 f g:Nat)(P:World->Prop)(t:a%20=0)(u:a<=1000000)
 (q:Hid (∀m,Below w.heap.size w m->Calls prog 126 #[.pointer (some ⟨sb,5,none⟩),.int .i64 a,.agg #[.int .i64 a,.slice j i c1,.slice h k f,.slice c d g,.int .i64 e]] m fun b w'=>b=.returned (.tuple #[])/\P w')):
 Calls prog 71 #[.pointer (some ⟨sb,0,none⟩),.agg #[.int .i64 a,.slice j i c1,.slice h k f,.slice c d g,.int .i64 e]] w fun b w'=>b=.returned (.tuple #[])/\P w':=by
 have o:(a:Int)%20=0:=by omega
 have p:(a:Int).tmod 20=0:=by rw[Int.tmod_eq_emod_of_nonneg (by omega)];exact o
 go_enter func71,ntmps71;go_wp2_with fail;refine(nZ a e j h c i k d c1 f g _).mono ?_;rintro b r ⟨rfl,rfl⟩;go_wp2_with fail;go_region_law (go_simp;first|(go_at_call 106;refine(nZ a e j h c i k d c1 f g _).mono ?_;rintro b v ⟨rfl,rfl⟩)|(go_at_call 126;refine(q.out _ ((((ay_ _ w).alloc (au_ _) _).alloc (by simp) _).alloc (by simp;omega) _).drew).mono ?_;rintro b s ⟨rfl,l⟩;have n:=aB l;clear l))
 all_goals
  go_wp2_with fail;go_end0;exact⟨rfl,n.out⟩
def YG(w:World)(sb:Nat)(a:Nat)(e:Int)(j h b:Option Addr)(i k c c1 d f:Nat)(o:a%20≠0)(p:a<=1000000):
 Calls prog 71 #[.pointer (some ⟨sb,0,none⟩),.agg #[.int .i64 a,.slice j i c1,.slice h k d,.slice b c f,.int .i64 e]] w fun g w'=>g=.returned (.tuple #[])/\Below w.heap.size w w':=by
 have l:¬(a:Int)%20=0:=by omega
 have m:¬(a:Int).tmod 20=0:=by rw[Int.tmod_eq_emod_of_nonneg (by omega)];exact l
 go_enter func71,ntmps71;go_wp2_with fail;refine(nZ a e j h b i k c c1 d f _).mono ?_;rintro g n ⟨rfl,rfl⟩;go_wp2_with fail;go_end0;exact⟨rfl,((ay_ _ w).alloc (au_ _) _).alloc (by simp) _⟩
def LI(l m:List Ent):jC (l++m)=jC l++jC m:=by
 induction l with
 |nil=>rfl
 |cons x l a=>simp[jC,a]
def LH(l:List Ent):(jC l).length=l.length*6:=by
 induction l with
 |nil=>rfl
 |cons x l a=>simp[jC,a,Ent.cells];omega
def IW:∀(l:List Ent) (i j:Nat) (h:i<l.length),j<6->(jC l)[i*6+j]?=(l[i].cells)[j]?
 |x::l,0,j,h,a=>by
  simp only[jC,Nat.zero_mul,bk_,bV_];rw[a3_ (by simpa [Ent.cells] using a)]
 |x::l,i+1,j,h,a=>by
  have:=IW l i j (by simpa using h) a
  simp only[jC,List.getElem_cons_succ];rw[aV_ (by simp[Ent.cells];omega),<-this]
  congr 1
  simp[Ent.cells];omega
def IV:∀(l:List Ent) (i:Nat) (x:Ent) (h:i<l.length),x.k=l[i].k->jC (l.set i x)=(((((jC l).set (i*6+1) (.int .i64 x.a)).set (i*6+2) x.b).set (i*6+3) x.c).set (i*6+4) x.d).set (i*6+5) (.int .i64 x.e)
 |y::l,0,x,h,a=>by
  simp only[bV_] at a;simp[jC,Ent.cells,a]
 |y::l,i+1,x,h,a=>by
  have b:=IV l i x (by simpa using h) (by simpa using a)
  have e:∀j,(i+1)*6+j=i*6+j+6:=fun j=>by omega
  simp only[b1_,jC,e,Ent.cells,aY_,by_];rw[b]
def F7(fp:Nat->Value)(F:Nat->Prop)(w:World)(st:Nat->Option bI)(i:Nat)(x:Ent):Prop:=
 x.k=((20*i:Nat):Int)/\∃s,st (20*i)=some s/\kR fp F w (.agg #[.int .i64 x.a,x.b,x.c,x.d,.int .i64 x.e]) s
def F7.keep{a:Nat->Value}{F G:Nat->Prop}{w w':World}{c:Nat->Option bI}{i:Nat}{x:Ent}(h:F7 a F w c i x)(d:∀b,F b->w'.heap[b]?=w.heap[b]?)(j:∀b,F b->G b):F7 a G w' c i x:=by
 obtain⟨f,s,e,g⟩:=h;exact⟨f,s,e,g.keep d j⟩
def F7.ok{d:Nat->Value}{F:Nat->Prop}{w:World}{j:Nat->Option bI}{i:Nat}{x:Ent}(h:F7 d F w j i x):x.Ok:=by
 obtain⟨_,s,_,g⟩:=h;obtain⟨o,m,n,e,f,k,l⟩:=g.form;simp only[Value.agg.injEq] at e;have b:=congrArg (fun z=>z[1]?) e
 have a:=congrArg (fun z=>z[2]?) e
 have c:=congrArg (fun z=>z[3]?) e
 simp at b a c;subst b a c;exact⟨f,k,l⟩
structure jV(fp:Nat->Value)(F:Nat->Prop)(w:World)(sb mb:Nat)(mo:Obj)(st:Nat->Option bI)(s:bI)(n:Nat):Prop where
 blk:∃fv tv ov ev es,w.heap[sb]?=some (.cells #[.int .i64 s.time,fv,tv,ov,.int .i64 s.stop,ev,.map (some mb)] 114 (0,0))/\kR fp F w (.agg #[.int .i64 s.time,fv,tv,ov,.int .i64 s.stop]) s/\
  w.ownsRow (sb+1) 265 6 ev n (jC es)/\es.length=n/\(∀i (h:i<es.length),F7 fp F w st i es[i])/\(∀k,F k->ev.ownBlock≠some k)/\ev.ownBlock≠some mb
 now:st s.time=some s
 fix:∀k,F k->k<w.heap.size/\k≠sb/\k≠mb
 map:w.heap[mb]?=some mo/\mb≠sb
def lX(sb:Nat)(w:World):Option Nat:=match w.heap[sb]? with|some (.cells c _ _)=>(c[5]?).bind Value.ownBlock|_=>none
def nL{sb:Nat}{w w':World}(h:w'.heap[sb]?=w.heap[sb]?):lX sb w'=lX sb w:=by unfold lX;rw[h]
def mE{sb:Nat}{w:World}{c:Array Value}{T:TypeId}{z:Nat × Nat}{v:Value}(h:w.heap[sb]?=some (.cells c T z))(a:c[5]?=some v):lX sb w=v.ownBlock:=by unfold lX;rw[h];simp[a]
structure Fs(sb:Nat)(w w':World):Prop where
 os:w'.os=w.os
 tape:w'.tape=w.tape
 output:w'.output=w.output
 size:w.heap.size<=w'.heap.size
 blk:∀k,k<w.heap.size->k≠sb->lX sb w≠some k->w'.heap[k]?=w.heap[k]?
 row:∀k,lX sb w'=some k->lX sb w=some k\/w.heap.size<=k
def Fs.trans{sb:Nat}{a b c:World}(h:Fs sb a b)(k:Fs sb b c):Fs sb a c:=by
 refine⟨k.os.trans h.os,k.tape.trans h.tape,k.output.trans h.output,aF_ h.size k.size,fun i f j g=>?_,fun i f=>?_⟩
 ·rw[k.blk i (az_ f h.size) j (fun e=>?_),h.blk i f j g]
  rcases h.row i e with d|d
  ·exact g d
  ·omega
 ·rcases k.row i f with d|d
  ·exact h.row i d
  ·exact as_ (aF_ h.size d)
def Fs.of_below{sb:Nat}{w w':World}(h:Below w.heap.size w w')(b:sb<w.heap.size):Fs sb w w':=
 ⟨h.os,h.tape,h.output,h.size,fun k a _ _=>h.block k a,fun k a=>av_ (by rw[<-nL (h.block sb b)];exact a)⟩
section
variable {fp:Nat->Value} {F G:Nat->Prop} {w w':World} {sb mb n:Nat} {mo:Obj} {st:Nat->Option bI} {s:bI}
def jV.lt(h:jV fp F w sb mb mo st s n):sb<w.heap.size:=by
 obtain⟨_,_,_,_,_,a,_⟩:=h.blk;exact aD a
def jV.row(h:jV fp F w sb mb mo st s n):∀k,lX sb w=some k->sb<k/\k<w.heap.size/\¬F k/\k≠mb:=by
 obtain⟨_,_,_,i,_,c,_,f,_,_,b,d⟩:=h.blk;intro k a;rw[mE c rfl] at a;have:=f.lt k a;exact⟨by omega,this.2,fun g=>b k g a,fun e=>d (by rw[<-e];exact a)⟩
def jV.grow(h:jV fp F w sb mb mo st s n)(d:Below w.heap.size w w')(l:∀k,F k->G k)(o:∀k,G k->F k\/(w.heap.size<=k/\k<w'.heap.size)):jV fp G w' sb mb mo st s n:=by
 have f:=h.lt;obtain⟨C,r,z,q,y,u,p,m,t,x,B,v⟩:=h.blk;have j:∀b,F b->w'.heap[b]?=w.heap[b]?:=fun b g=>d.block b (h.fix b g).1
 refine⟨⟨C,r,z,q,y,by rw[d.block _ f];exact u,p.keep j l,gS m d,t,fun i A=>(x i A).keep j l,fun k a=>?_,v⟩,h.now,fun k a=>?_,by rw[d.block _ (aD h.map.1)];exact h.map⟩
 ·rcases o k a with c|c
  ·exact B k c
  ·intro e;have:=(m.lt k e).2;omega
 ·rcases o k a with c|c
  ·have:=h.fix k c;exact⟨az_ this.1 d.size,this.2⟩
  ·have:=aD h.map.1;exact⟨c.2,by omega,by omega⟩
def XB{es:List Ent}{base g b:Nat}(h:w.ownsRow base 265 6 (.slice (some ⟨g,0,none⟩) es.length b) es.length (jC es))(a:∀i (h:i<es.length),es[i].Ok):R8 w g es:=fun i d=>by
 have c:∀j u,j<6->(es[i].cells)[j]?=some u->w.cell? ⟨g,i*6+j,none⟩=some u:=fun j u e f=>by
  have:=h.cells (g:=g) rfl (i*6+j) u (by rw[IW es i j d e];exact f)
  rw[nQ] at this;exact this
 exact⟨a i d,c 0 _ (by omega) rfl,c 1 _ (by omega) rfl,c 2 _ (by omega) rfl,c 3 _ (by omega) rfl,c 4 _ (by omega) rfl,c 5 _ (by omega) rfl⟩
def WN{es:List Ent}{base g f i:Nat}{W:World}{a e:Int}{b c d:Value}(h:w.ownsRow base 265 6 (.slice (some ⟨g,0,none⟩) es.length f) es.length (jC es))(s:i<es.length)
 (o:W.heap=(((((w.setCell ⟨g,i*6+1,none⟩ (.int .i64 a)).setCell ⟨g,i*6+2,none⟩ b).setCell ⟨g,i*6+3,none⟩ c).setCell ⟨g,i*6+4,none⟩ d).setCell ⟨g,i*6+5,none⟩ (.int .i64 e)).heap):
 W.ownsRow base 265 6 (.slice (some ⟨g,0,none⟩) es.length f) es.length (jC (es.set i ⟨es[i].k,a,b,c,d,e⟩)):=by
 rcases h.2 with ⟨j,_⟩|⟨u,k,r,j,t,l,n,q,m,p⟩
 ·cases j
 cases j;refine⟨by simp[LH],as_ ⟨g,f,_,rfl,t,by rw[o];exact aS (aS (aS (aS (aS l)))),n,q,by simpa using m,?_⟩⟩
 rw[IV es i ⟨es[i].k,a,b,c,d,e⟩ s rfl,<-p];simp only[bB_,b6_]
end
structure ag_(n:Nat)(key:Int)(at_:Nat)(fd:Bool):Prop where
 le:at_<=n
 lo:∀i,i<at_->((20*i:Nat):Int)<key
 hi:∀i,i<n->at_<=i->key<=((20*i:Nat):Int)
 fnd:fd=true↔at_<n/\((20*at_:Nat):Int)=key
section
variable {fp:Nat->Value} {F G:Nat->Prop} {w w':World} {sb mb n:Nat} {mo:Obj} {st:Nat->Option bI} {s:bI}
def wG(h:jV fp F w sb mb mo st s n)(b:Int)(P:n<=1000):
 Calls prog 162 #[.pointer (some ⟨sb,5,none⟩),.int .i64 b] w fun e w'=>∃(d:Nat) (v:Bool),e=.returned (.tuple #[.int .i64 d,.bool v])/\Below w.heap.size w w'/\ag_ n b d v:=by
 obtain⟨S,K,O,C,p,E,J,z,D,x,Q,M⟩:=h.blk;have l:∀i (h:i<p.length),p[i].k=((20*i:Nat):Int):=fun i c=>(x i c).1
 have y:w.cell? ⟨sb,5,none⟩=some C:=aA E rfl;subst D;rcases z.2 with ⟨r,H⟩|⟨g,o,G,r,H,A,L,N⟩
 ·subst r;refine(IY w sb none 0 0 b (fun a f w'=>a=0/\f=false/\w'=w) y ((SY b w).mono ?_)).mono ?_
  ·rintro e w' ⟨rfl,rfl⟩;exact⟨0,false,rfl,rfl,rfl,rfl⟩
  ·rintro e w' ⟨a,f,rfl,rfl,rfl,rfl⟩;exact⟨0,false,rfl,ay_ _ _,a9_ _,fun i c=>by omega,fun i c _=>by omega,by simp;omega⟩
 ·subst r;refine(IY w sb (some ⟨g,0,none⟩) p.length o b (fun a f w'=>∃d:Nat,a=d/\Below w.heap.size w w'/\Found p b d f) y ((SZ g o p b w (by omega) (aD A) (XB z fun i c=>(x i c).ok) (fun i j c I B=>by rw[l i c,l j I];omega)).mono ?_)).mono ?_
  ·rintro e w' ⟨a,f,rfl,t,k⟩;exact⟨_,f,rfl,a,rfl,t,k⟩
  ·rintro e w' ⟨_,f,rfl,a,rfl,t,k⟩;refine⟨a,f,rfl,t,k.le,fun i c=>?_,fun i c u=>?_,?_⟩
   ·have:=k.lo i (by have:=k.le;omega) c
    rw[l i (by have:=k.le;omega)] at this;exact this
   ·have:=k.hi i c u;rw[l i c] at this;exact this
   ·rw[k.fnd];constructor
    ·rintro⟨m,q⟩;rw[l _ m] at q;exact⟨m,q⟩
    ·rintro⟨m,q⟩;exact⟨m,by rw[l _ m];exact q⟩
def IP(W:World)(g a b c d e:Nat)(u v x y z:Value)(k:Nat)(f:k≠g):(((((W.setCell ⟨g,a,none⟩ u).setCell ⟨g,b,none⟩ v).setCell ⟨g,c,none⟩ x).setCell ⟨g,d,none⟩ y).setCell ⟨g,e,none⟩ z).heap[k]?=W.heap[k]?:=by
 rw[ax_ _ _ _ _ f,ax_ _ _ _ _ f,ax_ _ _ _ _ f,ax_ _ _ _ _ f,ax_ _ _ _ _ f]
def WL(W:World)(p q r t o:Addr)(u v x y z:Value):(((((W.setCell p u).setCell q v).setCell r x).setCell t y).setCell o z).os=W.os/\(((((W.setCell p u).setCell q v).setCell r x).setCell t y).setCell o z).tape=W.tape/\(((((W.setCell p u).setCell q v).setCell r x).setCell t y).setCell o z).output=W.output/\(((((W.setCell p u).setCell q v).setCell r x).setCell t y).setCell o z).heap.size=W.heap.size:=by
 have a:∀(W:World) (p:Addr) (u:Value),(W.setCell p u).os=W.os/\(W.setCell p u).tape=W.tape/\(W.setCell p u).output=W.output/\(W.setCell p u).heap.size=W.heap.size:=fun W p u=>⟨rfl,rfl,rfl,by simp⟩
 simp[a]
def A9(h:jV fp F w sb mb mo st s n)(v:Value)(b:bI)(hv:kR fp F w v b)(hs:st b.time=some b)(hm:b.time%20=0)(hq:b.time/20<n)(hn:n<=1000)(ht:b.time<=1000000):
 Calls prog 126 #[.pointer (some ⟨sb,5,none⟩),.int .i64 b.time,v] w fun e w'=>e=.returned (.tuple #[])/\Fs sb w w'/\jV fp F w' sb mb mo st s n:=by
 obtain⟨f',t',o',rfl,⟨K,D,B,rfl⟩,⟨y,E,x,rfl⟩,⟨G,H,C,rfl⟩⟩:=hv.form;obtain⟨fv,tv,ov,ev,t,X,h2,Y,h4,Z,h6,h7⟩:=h.blk;subst h4;have I:=Y;rcases Y.2 with ⟨r1,r2⟩|⟨g,M,p,r1,r2,r3,r4,r5,r6,r7⟩
 ·omega
 subst r1;obtain⟨q,l⟩:∃q,q=w.alloc (.cells #[.int .i64 b.time,.slice K D B,.slice y E x,.slice G H C,.int .i64 b.stop] 108):=⟨_,rfl⟩;have N:Below w.heap.size w q:=by rw[l];exact(ay_ _ _).alloc (au_ _) _
 have P:q.heap[w.heap.size]?=some (.cells #[.int .i64 b.time,.slice K D B,.slice y E x,.slice G H C,.int .i64 b.stop] 108 (0,0)):=by rw[l];exact aM _ _ rfl _
 have aa:q.heap.size=w.heap.size+1:=by rw[l];simp
 refine(CV w sb g t.length M (b.time/20) b.time b.time b.stop K y G D E H B x C (fun w'=>Fs sb w w'/\jV fp F w' sb mb mo st s t.length) (fun W=>Below q.heap.size q W) hq ?_ (fun W hW=>?_))
 ·show Calls _ _ _ _ _
  rw[<-l];refine(wG (h.grow N (fun _ h=>h) (fun _ h=>av_ h)) b.time hn).mono ?_
  rintro e w' ⟨a,fd,rfl,hb,T⟩
  have e1:a=b.time/20:=by
   refine Nat.le_antisymm ?_ ?_
   ·cases a with
    |zero=>omega
    |succ a=>have:=T.lo a (by omega);omega
   ·rcases a6_ a (b.time/20) with h8|h8
    ·have:=T.hi a (by omega) (au_ _);omega
    ·exact h8
  have e2:fd=true:=T.fnd.2 ⟨by omega,by omega⟩
  exact⟨by rw[e1,e2],hb⟩
 ·have c:Below w.heap.size w W:=N.trans (hW.mono (by omega))
  have m:=h.lt;have S:=h.grow c (fun _ h=>h) (fun _ h=>av_ h)
  have Q:=aD r3;have L:W.heap[g]?=some (.cells p 265 (0,0)):=by rw[c.block _ Q];exact r3
  have U:b.time/20*6+5<p.size:=by rw[r6];have:=Nat.mul_le_mul_right 6 r4;omega
  refine⟨S.lt,aA (by rw[c.block _ m];exact X) rfl,aD L,⟨p,L,U⟩,by rw[hW.block _ (by omega)];exact P,fun V r=>?_⟩
  have o:g≠sb:=by have:=(I.lt g rfl).1;omega
  have j:∀k,k≠g->V.heap[k]?=W.heap[k]?:=fun k j=>by rw[r.heap];exact IP W g _ _ _ _ _ _ _ _ _ _ k j
  have J:lX sb W=some g:=mE (by rw[c.block _ m];exact X) rfl
  have A:∀k,F k->k≠g:=fun k j e=>h6 k j (by rw[e];rfl)
  have O:Fs sb W V:=by
   obtain⟨a1,a2,a3,a4⟩:=WL W ⟨g,b.time/20*6+1,none⟩ ⟨g,b.time/20*6+2,none⟩ ⟨g,b.time/20*6+3,none⟩ ⟨g,b.time/20*6+4,none⟩ ⟨g,b.time/20*6+5,none⟩ (.int .i64 b.time) (.slice K D B) (.slice y E x) (.slice G H C) (.int .i64 b.stop);refine⟨r.os.trans a1,r.tape.trans a2,r.output.trans a3,by rw[r.heap,a4];exact au_ _,fun k d hc hr=>j k fun e=>hr (by rw[e];exact J),fun k d=>av_ ?_⟩
   rw[<-nL (j sb (fun e=>o e.symm))];exact d
  refine⟨(Fs.of_below c m).trans O,⟨fv,tv,ov,.slice (some ⟨g,0,none⟩) t.length M,t.set (b.time/20) ⟨t[b.time/20].k,b.time,.slice K D B,.slice y E x,.slice G H C,b.stop⟩,?_,?_,?_,by simp,fun i hi=>?_,h6,h7⟩,h.now,fun k d=>?_,?_⟩
  ·rw[j sb (fun e=>o e.symm),c.block _ m];exact X
  ·exact h2.keep (fun k d=>by rw[j k (A k d),c.block k (h.fix k d).1]) fun _ h=>h
  ·exact WN (gS I c) hq r.heap
  ·have u:i<t.length:=by simpa using hi
   have f:∀k,F k->V.heap[k]?=w.heap[k]?:=fun k d=>by rw[j k (A k d),c.block k (h.fix k d).1]
   by_cases z:i=b.time/20
   ·subst z;rw[List.getElem_set_self];refine⟨(Z _ u).1,b,?_,hv.keep f fun _ h=>h⟩
    rw[show 20*(b.time/20)=b.time by omega];exact hs
   ·rw[List.getElem_set_ne (fun e=>z e.symm)]
    exact(Z i u).keep f fun _ h=>h
  ·have:=h.fix k d;exact⟨by rw[r.heap];simpa using az_ this.1 c.size,this.2⟩
  ·refine⟨?_,h.map.2⟩;rw[j mb (fun e=>h7 (by rw[e];rfl)),c.block _ (aD h.map.1)];exact h.map.1
end
section
variable {fp:Nat->Value} {F G:Nat->Prop} {w w':World} {sb mb n:Nat} {mo:Obj} {st:Nat->Option bI} {s:bI}
def K5{es:List Ent}{base g f i m:Nat}{W:World}{k0 a e:Int}{b c d:Value}(j:es.length=m)(h:w.ownsRow base 265 6 (.slice (some ⟨g,0,none⟩) m f) m (jC es))(n:i<es.length)(k:es[i].k=k0)
 (l:W.heap=(((((w.setCell ⟨g,i*6+1,none⟩ (.int .i64 a)).setCell ⟨g,i*6+2,none⟩ b).setCell ⟨g,i*6+3,none⟩ c).setCell ⟨g,i*6+4,none⟩ d).setCell ⟨g,i*6+5,none⟩ (.int .i64 e)).heap):
 W.ownsRow base 265 6 (.slice (some ⟨g,0,none⟩) m f) m (jC (es.set i ⟨k0,a,b,c,d,e⟩)):=by
 subst j k;exact WN h n l
def A8(h:jV fp F w sb mb mo st s n)(v:Value)(f:bI)(hv:kR fp F w v f)(hs:st f.time=some f)(hm:f.time%20=0)(hq:f.time/20=n)(hn:n<=1000):
 Calls prog 126 #[.pointer (some ⟨sb,5,none⟩),.int .i64 f.time,v] w fun e w'=>e=.returned (.tuple #[])/\Fs sb w w'/\jV fp F w' sb mb mo st s (n+1):=by
 obtain⟨f',t',o',rfl,⟨Y,T,P,rfl⟩,⟨O,U,N,rfl⟩,⟨V,X,Q,rfl⟩⟩:=hv.form;obtain⟨fv,tv,ov,ev,S,h1,h2,h3,h4,h5,h6,h7⟩:=h.blk;have I:=h.lt;have ae:=h3;obtain⟨x,c,rfl⟩:=cU h3;obtain⟨y,B⟩:∃y,y=w.alloc (.cells #[.int .i64 f.time,.slice Y T P,.slice O U N,.slice V X Q,.int .i64 f.stop] 108):=⟨_,rfl⟩;have C:Below w.heap.size w y:=by rw[B];exact(ay_ _ _).alloc (au_ _) _
 have ai:y.heap[w.heap.size]?=some (.cells #[.int .i64 f.time,.slice Y T P,.slice O U N,.slice V X Q,.int .i64 f.stop] 108 (0,0)):=by rw[B];exact aM _ _ rfl _
 have av:y.heap.size=w.heap.size+1:=by rw[B];simp
 have H:∀k,(Value.slice x n c).ownBlock=some k->sb<k/\k<w.heap.size:=fun k j=>by have:=ae.lt k j;exact⟨by omega,this.2⟩
 refine(KZ w sb n x c f.time f.time f.stop Y O V T U X P N Q (fun w'=>Fs sb w w'/\jV fp F w' sb mb mo st s (n+1)) (fun W=>Below y.heap.size y W)
  (fun g l W=>(∀k,k<y.heap.size->some k≠(Value.slice x n c).ownBlock->W.heap[k]?=y.heap[k]?)/\W.os=w.os/\W.tape=w.tape/\W.output=w.output/\y.heap.size<=W.heap.size/\((Value.slice x n c).ownBlock=some g\/y.heap.size<=g)/\W.ownsRow (sb+1) 265 6 (.slice (some ⟨g,0,none⟩) (n+1) l) (n+1) (jC S++[.int .i64 f.time,.int .i64 0,.slice none 0 0,.slice none 0 0,.slice none 0 0,.int .i64 0])) (by omega) ?_ (fun W hW=>?_) (fun g l W hW=>?_))
 ·show Calls _ _ _ _ _
  rw[<-B];refine(wG (h.grow C (fun _ h=>h) (fun _ h=>av_ h)) f.time hn).mono ?_
  rintro e w' ⟨a,fd,rfl,hb,hf⟩
  have e1:a=n:=by
   refine Nat.le_antisymm hf.le ?_;rcases a6_ a n with m|m
   ·have:=hf.hi a m (au_ _);omega
   ·exact m
  have e2:fd=false:=by
   cases fd with
   |false=>rfl
   |true=>have:=(hf.fnd.1 rfl).1;omega
  exact⟨by rw[e1,e2],hb⟩
 ·have o:Below w.heap.size w W:=C.trans (hW.mono (by omega))
  have ao:=gS ae o;refine⟨az_ I o.size,aA (by rw[o.block _ I];exact h1) rfl,?_⟩
  refine(UP _ (sb+1) W.heap.size n (.slice x n c) (jC S) f.time (ao.alloc _) (aM _ _ rfl _) (by omega) (by have:=o.size;simp;omega)).mono ?_
  rintro e w' ⟨g,l,rfl,q1,q2,q3⟩;have aw:=hW.size;have aq:=q2.size;simp only[World.size_alloc] at aq;refine⟨g,l,rfl,fun k j q=>?_,?_,?_,?_,by omega,?_,q1⟩
  ·rw[q2.block k (by simp;omega) q,aA_ _ _ _ (by omega),hW.block k j]
  ·exact q2.os.trans o.os
  ·exact q2.tape.trans o.tape
  ·exact q2.output.trans o.output
  ·rcases q3 with q3|q3
   ·exact av_ q3
   ·exact as_ (by rw[q3];simp;omega)
 ·obtain⟨b1,b2,b3,b4,b5,b6,b7⟩:=hW;have ap:=b7;have t:g≠sb:=by have:=(b7.lt g rfl).1;omega
  have aj:g≠w.heap.size:=by
   rcases b6 with m|m
   ·have:=H g m;omega
   ·omega
  rcases b7.2 with ⟨r1,_⟩|⟨g',ar,aa,r1,r2,r3,r4,r5,r6,r7⟩
  ·cases r1
  cases r1
  have u:W.heap[sb]?=some (.cells #[.int .i64 s.time,fv,tv,ov,.int .i64 s.stop,.slice x n c,.map (some mb)] 114 (0,0)):=by
   rw[b1 sb (by omega) (fun e=>by have:=H sb e.symm;omega),C.block _ I];exact h1
  have am:n*6+5<aa.size:=by rw[r6];omega
  refine⟨by omega,t,aj,by omega,⟨_,aA u rfl⟩,aE u,aD r3,⟨aa,r3,am⟩,by rw[b1 _ (by omega) (fun e=>by have:=H _ e.symm;omega)];exact ai,fun Z M=>?_⟩
  generalize K:W.setCell ⟨sb,5,none⟩ (.slice (some ⟨g,0,none⟩) (n+1) l)=A at M;have ag:∀k,k≠sb->A.heap[k]?=W.heap[k]?:=fun k j=>by rw[<-K];exact ax_ _ _ _ _ j
  have ad:A.heap[sb]?=some (.cells #[.int .i64 s.time,fv,tv,ov,.int .i64 s.stop,.slice (some ⟨g,0,none⟩) (n+1) l,.map (some mb)] 114 (0,0)):=by rw[<-K];exact aS u
  have p:A.os=W.os/\A.tape=W.tape/\A.output=W.output/\A.heap.size=W.heap.size:=by rw[<-K];exact⟨rfl,rfl,rfl,by simp⟩
  have ac:∀k,k≠g->Z.heap[k]?=A.heap[k]?:=fun k j=>by rw[M.heap];exact IP A g _ _ _ _ _ _ _ _ _ _ k j
  obtain⟨a1,a2,a3,a4⟩:=WL A ⟨g,n*6+1,none⟩ ⟨g,n*6+2,none⟩ ⟨g,n*6+3,none⟩ ⟨g,n*6+4,none⟩ ⟨g,n*6+5,none⟩ (.int .i64 f.time) (.slice Y T P) (.slice O U N) (.slice V X Q) (.int .i64 f.stop);have ab:Z.heap.size=W.heap.size:=by rw[M.heap,a4,p.2.2.2]
  have E:∀k,k<w.heap.size->k≠sb->some k≠(Value.slice x n c).ownBlock->Z.heap[k]?=w.heap[k]?:=fun k j q hr=>by
   have ak:k≠g:=fun e=>by
    rcases b6 with m|m
    ·exact hr (by rw[e];exact m.symm)
    ·omega
   rw[ac k ak,ag k q,b1 k (by omega) hr,C.block k j]
  have G:∀k,F k->Z.heap[k]?=w.heap[k]?:=fun k j=>E k (h.fix k j).1 (h.fix k j).2.1 fun e=>h6 k j e.symm
  have an:=aD h.map.1;have r:lX sb w=(Value.slice x n c).ownBlock:=mE h1 rfl;have D:Z.heap[sb]?=some (.cells #[.int .i64 s.time,fv,tv,ov,.int .i64 s.stop,.slice (some ⟨g,0,none⟩) (n+1) l,.map (some mb)] 114 (0,0)):=by rw[ac sb (fun e=>t e.symm)];exact ad
  obtain⟨z,hz⟩:∃z:Ent,z=⟨f.time,0,.slice none 0 0,.slice none 0 0,.slice none 0 0,0⟩:=⟨_,rfl⟩
  have J:A.ownsRow (sb+1) 265 6 (.slice (some ⟨g,0,none⟩) (n+1) l) (n+1) (jC (S++[z])):=by
   rw[LI,hz];exact aY ap fun k e=>ag k (by cases e;exact t)
  have L:(S++[z]).length=n+1:=by simp[h4]
  have al:(S++[z])[n]'(by rw[L];omega)=z:=by rw[bM_ (by omega)];simp
  have af:=K5 (W:=Z) (i:=n) (k0:=f.time) (a:=f.time) (b:=.slice Y T P) (c:=.slice O U N) (d:=.slice V X Q) (e:=f.stop) L J (by rw[L];omega) (by rw[al,hz]) M.heap
  refine⟨⟨M.os.trans (a1.trans (p.1.trans b2)),M.tape.trans (a2.trans (p.2.1.trans b3)),M.output.trans (a3.trans (p.2.2.1.trans b4)),by rw[ab];omega,fun k j q hr=>E k j q (fun e=>hr (by rw[r];exact e.symm)),fun k j=>?_⟩,⟨fv,tv,ov,.slice (some ⟨g,0,none⟩) (n+1) l,(S++[z]).set n ⟨f.time,f.time,.slice Y T P,.slice O U N,.slice V X Q,f.stop⟩,D,h2.keep G fun _ h=>h,?_,by simp[h4],fun i hi=>?_,fun k j e=>?_,fun e=>?_⟩,h.now,fun k j=>?_,?_⟩
  ·rw[mE D rfl] at j;cases j;rcases b6 with m|m
   ·exact av_ (by rw[r];exact m)
   ·exact as_ (by show w.heap.size<=g;omega)
  ·exact af
  ·have au:i<n+1:=by simpa [h4] using hi
   by_cases ah:i=n
   ·subst ah;rw[List.getElem_set_self];refine⟨by show (f.time:Int)=_;omega,f,?_,hv.keep G fun _ h=>h⟩
    rw[show 20*i=f.time by omega];exact hs
   ·rw[List.getElem_set_ne (fun e=>ah e.symm),bv_ (by omega)]
    exact(h5 i (by omega)).keep G fun _ h=>h
  ·have e':g=k:=by simpa [Value.ownBlock] using e
   rcases b6 with m|m
   ·exact h6 k j (by rw[<-e'];exact m)
   ·have:=(h.fix _ j).1;omega
  ·have e':g=mb:=by simpa [Value.ownBlock] using e
   rcases b6 with m|m
   ·exact h7 (by rw[<-e'];exact m)
   ·omega
  ·have:=h.fix k j;exact⟨by rw[ab];omega,this.2⟩
  ·exact⟨by rw[E mb an h.map.2 (fun e=>h7 e.symm)];exact h.map.1,h.map.2⟩
def GZ(h:jV fp F w sb mb mo st s n)(v:Value)(a:bI)(z:kR fp F w v a)(u:st a.time=some a)(D:a.time%20=0->a.time/20<=n)(y:n<=1000)(i:a.time<=1000000):
 Calls prog 71 #[.pointer (some ⟨sb,0,none⟩),v] w fun e w'=>e=.returned (.tuple #[])/\Fs sb w w'/\jV fp F w' sb mb mo st s (if a.time%20=0/\a.time/20=n then n+1 else n):=by
 obtain⟨H,G,I,rfl,⟨B,A,q,rfl⟩,⟨x,C,r,rfl⟩,⟨o,p,t,rfl⟩⟩:=z.form;by_cases b:a.time%20=0
 ·refine SU w sb a.time a.stop B x o A C p q r t _ b i fun W g=>?_
  have d:=h.grow g (fun _ h=>h) (fun _ h=>av_ h)
  have c:=z.keep (fun k E=>g.block k (h.fix k E).1) fun _ h=>h
  rcases bm_ (D b) with e|e
  ·rw[if_pos ⟨b,e⟩];refine(A8 d _ a c u b e y).mono ?_;rintro e w' ⟨f,j,l⟩;exact⟨f,(Fs.of_below g h.lt).trans j,l⟩
  ·rw[if_neg (by omega)]
   refine(A9 d _ a c u b e y i).mono ?_;rintro e w' ⟨f,j,l⟩;exact⟨f,(Fs.of_below g h.lt).trans j,l⟩
 ·rw[if_neg (fun e=>b e.1)]
  refine(YG w sb a.time a.stop B x o A C p q r t b i).mono ?_;rintro e w' ⟨f,m⟩;exact⟨f,Fs.of_below m h.lt,h.grow m (fun _ h=>h) (fun _ h=>av_ h)⟩
end
end Go.Proofs.YtblbkfdhjfppkaaGreatDoor
