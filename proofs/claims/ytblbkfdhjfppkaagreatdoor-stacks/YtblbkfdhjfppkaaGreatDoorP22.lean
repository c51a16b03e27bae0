/- Contracts of the program: the store of states: where a key stands. -/
import Derived.Test.YtblbkfdhjfppkaaGreatDoorP21
set_option linter.defProp false
set_option maxRecDepth 100000
set_option maxHeartbeats 4000000
namespace Go.Proofs.YtblbkfdhjfppkaaGreatDoor
open Hs
open _root_.Go.Proofs.Tryz(prog)
open Go.RowKit
def rC(x y:Int):Int:=if x<y then -1 else if x>y then 1 else 0
def Z8{x y:Int}(h:¬x=y):¬rC x y=0:=by
 unfold rC;split
 ·omega
 ·split<;>omega
def IM(x:Int)(w:World):Calls prog 280 #[.int .i64 x] w fun e a=>e=.returned (.bool false)/\a=w:=by
 go_enter Tryz.func280,Tryz.ntmps280;go_wp2_with fail;go_ret;exact⟨by simp,rfl⟩
def RA(x y:Int)(w:World):Calls prog 225 #[.int .i64 x,.int .i64 y] w fun e d=>e=.returned (.int .i64 (rC x y))/\d=w:=by
 go_enter Tryz.func225,Tryz.ntmps225;go_wp2_with fail;refine(IM x w).mono ?_;rintro e f ⟨rfl,rfl⟩;go_wp2_with fail;refine(IM y f).mono ?_;rintro e g ⟨rfl,rfl⟩;by_cases b:x<y
 ·have a:Hid (rC x y= -1):=by show _=_;unfold rC;rw[if_pos b]
  go_wp2_with fail;go_ret;exact⟨by rw[a.out];rfl,rfl⟩
 ·by_cases c:y<x
  ·have a:Hid (rC x y=1):=by show _=_;unfold rC;rw[if_neg b,if_pos c]
   go_wp2_with fail;go_ret;exact⟨by rw[a.out];rfl,rfl⟩
  ·have a:Hid (rC x y=0):=by show _=_;unfold rC;rw[if_neg b,if_neg c]
   go_wp2_with fail;go_ret;exact⟨by rw[a.out];rfl,rfl⟩
def IZ(k f:Int)(a b c d e:Value)(w:World)(g:∃x l c,b=.slice x l c)(i:∃x l d,c=.slice x l d)(o:∃x l c,d=.slice x l c)(j:∃n,a=.int .i64 n)(p:∃n,e=.int .i64 n):
 Calls prog 224 #[.agg #[.int .i64 k,a,b,c,d,e],.int .i64 f] w fun m h=>m=.returned (.int .i64 (rC k f))/\h=w.alloc (.cells #[.int .i64 k,a,b,c,d,e] 265):=by
 obtain⟨_,_,_,rfl⟩:=g;obtain⟨_,_,_,rfl⟩:=i;obtain⟨_,_,_,rfl⟩:=o;obtain⟨_,rfl⟩:=j;obtain⟨_,rfl⟩:=p;go_enter Tryz.func224,Tryz.ntmps224;go_wp2_with fail;refine(RA k f _).mono ?_;rintro e q ⟨rfl,rfl⟩;go_wp2_with fail;go_ret;exact⟨rfl,rfl⟩
def p6(a b:Value)(W:World):(callFunc 224 #[a,b]).run prog W=.ok (.enter 224 #[a,b]) W:=by kernel_rfl
structure Ent where
 k:Int
 a:Int
 b:Value
 c:Value
 d:Value
 e:Int
def Ent.cells(x:Ent):List Value:=[.int .i64 x.k,.int .i64 x.a,x.b,x.c,x.d,.int .i64 x.e]
def jC:List Ent->List Value
 |[]=>[]
 |x::l=>x.cells++jC l
structure Ent.Ok(x:Ent):Prop where
 b:∃y l c,x.b=.slice y l c
 c:∃y l c,x.c=.slice y l c
 d:∃y l c,x.d=.slice y l c
def R8(w:World)(g:Nat)(es:List Ent):Prop:=∀i (h:i<es.length),es[i].Ok/\w.cell? ⟨g,i*6,none⟩=some (.int .i64 es[i].k)/\w.cell? ⟨g,i*6+1,none⟩=some (.int .i64 es[i].a)/\w.cell? ⟨g,i*6+2,none⟩=some es[i].b/\w.cell? ⟨g,i*6+3,none⟩=some es[i].c/\w.cell? ⟨g,i*6+4,none⟩=some es[i].d/\w.cell? ⟨g,i*6+5,none⟩=some (.int .i64 es[i].e)
structure Found(es:List Ent)(key:Int)(at_:Nat)(found:Bool):Prop where
 le:at_<=es.length
 lo:∀i (h:i<es.length),i<at_->es[i].k<key
 hi:∀i (h:i<es.length),at_<=i->key<=es[i].k
 fnd:found=true↔∃h:at_<es.length,es[at_].k=key
def SZ(g ab:Nat)(es:List Ent)(b:Int)(w:World)(hl:es.length<=100000)(hg:g<w.heap.size)(he:R8 w g es)(hs:∀i j (hi:i<es.length) (hj:j<es.length),i<=j->es[i].k<=es[j].k):
 Calls prog 223 #[.slice (some ⟨g,0,none⟩) es.length ab,.int .i64 b,.func (.func 224) #[] #[]] w fun e w'=>∃T fd,e=.returned (.tuple #[.int .i64 (T:Nat),.bool fd])/\Below w.heap.size w w'/\Found es b T fd:=by
 have Z:=aB he;have Y:=aB hs;clear he hs;have ae:=p6;go_enter Tryz.func223,Tryz.ntmps223;go_wp2_with fail;go_loopg [9,10,11] es.length (fun gk iv jv _ wr=>∃i j:Nat,iv=.int .i64 i/\jv=.int .i64 j/\i<=j/\j<=es.length/\j-i<=gk/\Below w.heap.size w wr/\(∀k (h:k<es.length),k<i->es[k].k<b)/\(∀k (h:k<es.length),j<=k->b<=es[k].k))
 case atStart=>exact⟨0,es.length,rfl,rfl,by omega,by omega,by omega,ay_ _ _,fun k h x=>by omega,fun k h x=>by omega⟩
 case round=>
  obtain⟨i,j,rfl,rfl,ad,hj,ac,m,d,c⟩:=hrel;by_cases af:i<j
  ·have n:=aB (aW_ d c);have hm:(i+j)/2<es.length:=by omega
   obtain⟨v,y,B,s,q,r,z⟩:=Z.out _ hm;have a:∀o u,w.cell? ⟨g,o,none⟩=some u->wr.cell? ⟨g,o,none⟩=some u:=fun o u hu=>by rw[m.cell (p:=⟨g,o,none⟩) hg];exact hu
   have y:=a _ _ y;have B:=a _ _ B;have s:=a _ _ s;have q:=a _ _ q;have r:=a _ _ r;have z:=a _ _ z;have aa:g<wr.heap.size:=az_ hg m.size;have t:=aB m;have Q:Hid (∀k (h:k<es.length),(k<=(i+j)/2->es[k].k<=es[(i+j)/2].k)/\((i+j)/2<=k->es[(i+j)/2].k<=es[k].k)):=fun k h=>⟨fun x=>Y.out _ _ h hm x,fun x=>Y.out _ _ hm h x⟩
   obtain⟨G,M,U,J⟩:=v.b;obtain⟨V,E,P,I⟩:=v.c;obtain⟨O,F,K,L⟩:=v.d;rw[J] at s;rw[I] at q;rw[L] at r;generalize es[(i+j)/2].k=mk at*;generalize es[(i+j)/2].a=S at*;generalize es[(i+j)/2].e=W at*;clear d c m J I L a;have H:=aB (IZ mk b (.int .i64 S) (.slice G M U) (.slice V E P) (.slice O F K) (.int .i64 W) wr ⟨_,_,_,rfl⟩ ⟨_,_,_,rfl⟩ ⟨_,_,_,rfl⟩ ⟨_,rfl⟩ ⟨_,rfl⟩);go_wp2_with fail;refine H.out.mono ?_;rintro e w1 ⟨rfl,rfl⟩;have l:=aB (t.out.trans (((ay_ _ wr).alloc (au_ _) (.cells #[.int .i64 mk,.int .i64 S,.slice G M U,.slice V E P,.slice O F K,.int .i64 W] 265)).mono t.out.size));clear t H y B s q r z;by_cases f:mk<b
   ·have D:rC mk b= -1:=by unfold rC;rw[if_pos f]
    rw[D];have A:=aB f;clear f D;go_wp2_with fail;go_roundg ((gk-1))
    case measure=>omega
    case rel=>
     refine⟨(i+j)/2+1,j,by go_num,rfl,by omega,hj,by omega,l.out,fun k h x=>?_,n.out.2⟩
     exact Int.lt_of_le_of_lt ((Q.out k h).1 (by omega)) A.out
   ·have D:0<=rC mk b:=by unfold rC;rw[if_neg f];split<;>omega
    have A:=aB f;clear f;go_wp2_with fail;go_roundg (gk-1)
    case measure=>omega
    case rel=>
     refine⟨i,(i+j)/2,rfl,by go_num,by omega,by omega,by omega,l.out,n.out.1,fun k h x=>?_⟩
     have:=(Q.out k h).2 x;have:=A.out;omega
  ·obtain rfl:i=j:=by omega
   by_cases X:i<es.length
   ·have n:=aB (aW_ d c);obtain⟨v,y,B,s,q,r,z⟩:=Z.out _ X;have a:∀o u,w.cell? ⟨g,o,none⟩=some u->wr.cell? ⟨g,o,none⟩=some u:=fun o u hu=>by rw[m.cell (p:=⟨g,o,none⟩) hg];exact hu
    have y:=a _ _ y;have B:=a _ _ B;have s:=a _ _ s;have q:=a _ _ q;have r:=a _ _ r;have z:=a _ _ z;have aa:g<wr.heap.size:=az_ hg m.size;have t:=aB m;obtain⟨G,M,U,J⟩:=v.b;obtain⟨V,E,P,I⟩:=v.c;obtain⟨O,F,K,L⟩:=v.d;rw[J] at s;rw[I] at q;rw[L] at r;obtain⟨mk,C⟩:∃mk,mk=es[i].k:=⟨_,rfl⟩;rw[<-C] at y;have N:=aB C;generalize es[i].a=S at*;generalize es[i].e=W at*;clear d c m J I L a C v Z Y;have H:=aB (IZ mk b (.int .i64 S) (.slice G M U) (.slice V E P) (.slice O F K) (.int .i64 W) wr ⟨_,_,_,rfl⟩ ⟨_,_,_,rfl⟩ ⟨_,_,_,rfl⟩ ⟨_,rfl⟩ ⟨_,rfl⟩);go_wp2_with fail;refine H.out.mono ?_;rintro e w1 ⟨rfl,rfl⟩;have l:=aB (t.out.trans (((ay_ _ wr).alloc (au_ _) (.cells #[.int .i64 mk,.int .i64 S,.slice G M U,.slice V E P,.slice O F K,.int .i64 W] 265)).mono t.out.size));clear t H y B s q r z;by_cases f:mk=b
    ·have D:rC mk b=0:=by unfold rC;rw[if_neg (by omega),if_neg (by omega)]
     rw[D];have A:=aB f;clear f D;go_wp2_with fail;go_ret2
     refine⟨i,true,rfl,l.out,bW_ X,n.out.1,n.out.2,?_⟩;simp only[true_iff];exact⟨X,N.out.symm.trans A.out⟩
    ·have D:(rC mk b==0)=false:=by simpa using Z8 f
     have A:=aB f;clear f;go_wp2_with fail;go_ret2
     refine⟨i,false,rfl,l.out,bW_ X,n.out.1,n.out.2,?_⟩;simp only[Bool.false_eq_true,false_iff];rintro⟨_,e⟩;exact A.out (N.out.trans e)
   ·have n:=aB (aW_ d c);have t:=aB m;clear d c m Z Y;go_wp2_with fail;go_ret2
    refine⟨i,false,rfl,t.out,by omega,n.out.1,n.out.2,?_⟩
    simp only[Bool.false_eq_true,false_iff];rintro⟨h,_⟩;omega
def SY(a:Int)(w:World):
 Calls prog 223 #[.slice none 0 0,.int .i64 a,.func (.func 224) #[] #[]] w fun e b=>e=.returned (.tuple #[.int .i64 0,.bool false])/\b=w:=by
 go_enter Tryz.func223,Tryz.ntmps223;go_wp2_with fail;go_loopg [9,10,11] 0 (fun _ d c _ wr=>d=.int .i64 0/\c=.int .i64 0/\wr=w)
 case atStart=>exact⟨rfl,rfl,rfl⟩
 case round=>
  obtain⟨rfl,rfl,rfl⟩:=hrel;go_wp2_with fail;go_ret2
  exact⟨rfl,rfl⟩
def Y4:(prog.info? 265).map (fun i=>(i.zero,i.size,i.bytes))=some (some (.agg #[.int .i64 0,.int .i64 0,.slice none 0 0,.slice none 0 0,.slice none 0 0,.int .i64 0]),6,96):=by kernel_rfl
def IY(w:World)(sb:Nat)(x:Option Addr)(n c:Nat)(b:Int)(P:Int->Bool->World->Prop)(k:w.cell? ⟨sb,5,none⟩=some (.slice x n c))
 (i:Hid (Calls prog 223 #[.slice x n c,.int .i64 b,.func (.func 224) #[] #[]] w fun e d=>∃a f,e=.returned (.tuple #[.int .i64 a,.bool f])/\P a f d)):
 Calls prog 162 #[.pointer (some ⟨sb,5,none⟩),.int .i64 b] w fun e d=>∃a f,e=.returned (.tuple #[.int .i64 a,.bool f])/\P a f d:=by
 go_enter Tryz.func162,Tryz.ntmps162;go_wp2_with fail;refine i.out.mono ?_;rintro e j ⟨a,f,rfl,g⟩;have h:=aB g;clear g;go_wp2_with fail;go_ret2
 exact⟨a,f,rfl,h.out⟩
def CV(w:World)(sb g n y b:Nat)(j a e:Int)(q p l:Option Addr)(s k m c1 t v:Nat)(P Q:World->Prop)(G:b<n)
 (E:Hid (Calls prog 162 #[.pointer (some ⟨sb,5,none⟩),.int .i64 j] (w.alloc (.cells #[.int .i64 a,.slice q s c1,.slice p k t,.slice l m v,.int .i64 e] 108)) fun r x=>r=.returned (.tuple #[.int .i64 b,.bool true])/\Q x))
 (z:Hid (∀W,Q W->sb<W.heap.size/\W.cell? ⟨sb,5,none⟩=some (.slice (some ⟨g,0,none⟩) n y)/\g<W.heap.size/\(∃c,W.heap[g]?=some (.cells c 265 (0,0))/\b*6+5<c.size)/\W.heap[w.heap.size]?=some (.cells #[.int .i64 a,.slice q s c1,.slice p k t,.slice l m v,.int .i64 e] 108 (0,0))/\
   ∀D,aQ (((((W.setCell ⟨g,b*6+1,none⟩ (.int .i64 a)).setCell ⟨g,b*6+2,none⟩ (.slice q s c1)).setCell ⟨g,b*6+3,none⟩ (.slice p k t)).setCell ⟨g,b*6+4,none⟩ (.slice l m v)).setCell ⟨g,b*6+5,none⟩ (.int .i64 e)) D->P D)):
 Calls prog 126 #[.pointer (some ⟨sb,5,none⟩),.int .i64 j,.agg #[.int .i64 a,.slice q s c1,.slice p k t,.slice l m v,.int .i64 e]] w fun r x=>r=.returned (.tuple #[])/\P x:=by
 go_enter Tryz.func126,Tryz.ntmps126;go_wp2_with fail;refine E.out.mono ?_;rintro r B ⟨rfl,C⟩;obtain⟨q1,Z,V,⟨c,d,H⟩,f,A⟩:=z.out _ C;have F:=aB A;have k0:=aA f (i:=0) rfl;have I:=aA f (i:=1) rfl;have k2:=aA f (i:=2) rfl;have k3:=aA f (i:=3) rfl;have L:=aA f (i:=4) rfl;have T:=aD f;have h:∀o,o<=b*6+5->∃u,B.cell? ⟨g,o,none⟩=some u:=fun o M=>⟨c[o]'(by omega),by rw[cell_of_row B g o c _ _ d];exact aC_ (by omega)⟩
 obtain⟨u1,N⟩:=h (b*6+1) (by omega)
 obtain⟨u2,K⟩:=h (b*6+2) (by omega)
 obtain⟨u3,J⟩:=h (b*6+3) (by omega)
 obtain⟨u4,m4⟩:=h (b*6+4) (by omega)
 obtain⟨u5,m5⟩:=h (b*6+5) (by omega)
 have U:=aE d (i:=b*6+1);have O:=aE d (i:=b*6+2);have z3:=aE d (i:=b*6+3);have X:=aE d (i:=b*6+4);have S:=aE d (i:=b*6+5);have e1:(0:Int)<=(b:Int):=by omega
 have Y:(b:Int)<(n:Int):=by omega
 clear C d H f A h z;go_wp2_with fail;go_region
 all_goals
  go_wp2_with fail;go_end0;exact⟨rfl,F.out _ (aQ.drew _)⟩
def UP(w:World)(base b n:Nat)(v:Value)(xs:List Value)(h:Int)(a:w.ownsRow base 265 6 v n xs)(t:w.heap[b]?=some (.cells #[.int .i64 h,.int .i64 0,.slice none 0 0,.slice none 0 0,.slice none 0 0,.int .i64 0] 265 (0,0)))(L:n<=100000)(k:base<=w.heap.size):
 Calls prog 176 #[v,.int .i64 n,.slice (some ⟨b,0,none⟩) 1 1] w fun e u=>∃g l,e=.returned (.slice (some ⟨g,0,none⟩) (n+1) l)/\u.ownsRow base 265 6 (.slice (some ⟨g,0,none⟩) (n+1) l) (n+1) (xs++[.int .i64 h,.int .i64 0,.slice none 0 0,.slice none 0 0,.slice none 0 0,.int .i64 0])/\w.grownBy u v.ownBlock/\(v.ownBlock=some g\/g=w.heap.size):=by
 obtain⟨J,D,o,p,s⟩:=info_parts Y4;obtain⟨x,c,rfl⟩:=cU a;have I:=aB a;have A:=aB (World.news_of_block t);have j:∀v∈([.int .i64 h,.int .i64 0,.slice none 0 0,.slice none 0 0,.slice none 0 0,.int .i64 0]:List Value),v.oneCell'=true:=fun v y=>by simp at y;rcases y with rfl|rfl|rfl|rfl<;>rfl
 have HONE:=aB j
 have H:(x=none/\n=0/\c=0)\/(∃g,x=some ⟨g,0,none⟩/\n<c)\/∃g,x=some ⟨g,0,none⟩/\c=n:=by
  rcases a.2 with ⟨r,K⟩|⟨g,l,B,r,K,N,G,_⟩
  ·cases r;exact av_ ⟨rfl,rfl,rfl⟩
  ·cases r;rcases bm_ G with e|e
   ·exact as_ (as_ ⟨g,rfl,e.symm⟩)
   ·exact as_ (av_ ⟨g,rfl,e⟩)
 clear a j t;rcases H with ⟨rfl,rfl,rfl⟩|⟨z,rfl,C⟩|⟨z,rfl,rfl⟩
 all_goals
  go_enter Tryz.func176,Tryz.ntmps176;go_wp2_with (at_builtin;refine wpList_append_lies _ (by rfl) _ _ 109 (by rfl) base 265 J _ 6 96 Tryz.underlying109 D o p s rfl (by decide) _ _ xs (by rfl) I.out ⟨b,0,none⟩ 1 1 [.int .i64 h,.int .i64 0,.slice none 0 0,.slice none 0 0,.slice none 0 0,.int .i64 0] (by rfl) (by rfl) (A.out) HONE.out (by decide) (by unfold maxLen;omega) (by omega) k w.heap.size rfl ?_)
  intro F m M f d i E;have q:=aB (aW_ f (aW_ d i));clear f d i;go_wp2_with fail;go_ret;exact⟨F,m,rfl,q.out.1,q.out.2.1,q.out.2.2⟩
def KZ(w:World)(sb n:Nat)(x:Option Addr)(c:Nat)(f a e:Int)(y v t:Option Addr)(z A q c1 r s:Nat)(P Q:World->Prop)(R:Nat->Nat->World->Prop)(hn:n<=100000)
 (E:Hid (Calls prog 162 #[.pointer (some ⟨sb,5,none⟩),.int .i64 f] (w.alloc (.cells #[.int .i64 a,.slice y z c1,.slice v A r,.slice t q s,.int .i64 e] 108)) fun m p=>m=.returned (.tuple #[.int .i64 n,.bool false])/\Q p))
 (C:Hid (∀W,Q W->sb<W.heap.size/\W.cell? ⟨sb,5,none⟩=some (.slice x n c)/\Calls prog 176 #[.slice x n c,.int .i64 n,.slice (some ⟨W.heap.size,0,none⟩) 1 1] (W.alloc (.cells #[.int .i64 f,.int .i64 0,.slice none 0 0,.slice none 0 0,.slice none 0 0,.int .i64 0] 265)) fun e p=>∃g b,e=.returned (.slice (some ⟨g,0,none⟩) (n+1) b)/\R g b p))
 (B:Hid (∀g b W,R g b W->sb<W.heap.size/\g≠sb/\g≠w.heap.size/\sb≠w.heap.size/\(∃u,W.cell? ⟨sb,5,none⟩=some u)/\W.frozen? ⟨sb,5,none⟩=false/\g<W.heap.size/\(∃d,W.heap[g]?=some (.cells d 265 (0,0))/\n*6+5<d.size)/\W.heap[w.heap.size]?=some (.cells #[.int .i64 a,.slice y z c1,.slice v A r,.slice t q s,.int .i64 e] 108 (0,0))/\
   ∀D,aQ ((((((W.setCell ⟨sb,5,none⟩ (.slice (some ⟨g,0,none⟩) (n+1) b)).setCell ⟨g,n*6+1,none⟩ (.int .i64 a)).setCell ⟨g,n*6+2,none⟩ (.slice y z c1)).setCell ⟨g,n*6+3,none⟩ (.slice v A r)).setCell ⟨g,n*6+4,none⟩ (.slice t q s)).setCell ⟨g,n*6+5,none⟩ (.int .i64 e)) D->P D)):
 Calls prog 126 #[.pointer (some ⟨sb,5,none⟩),.int .i64 f,.agg #[.int .i64 a,.slice y z c1,.slice v A r,.slice t q s,.int .i64 e]] w fun m p=>m=.returned (.tuple #[])/\P p:=by
 go_enter Tryz.func126,Tryz.ntmps126;go_wp2_with fail;refine E.out.mono ?_;rintro m w0 ⟨rfl,H⟩;obtain⟨L,M,F⟩:=C.out _ H;have l:=aB F;clear H F C E;go_wp2_with fail;refine l.out.mono ?_;rintro m G ⟨g,b,rfl,J⟩;obtain⟨q1,K,N,V,⟨Y,g4⟩,g5,q3,⟨d,j,S⟩,h,I⟩:=B.out _ _ _ J;have U:=aB I;have k0:=aA h (i:=0) rfl;have k1:=aA h (i:=1) rfl;have k2:=aA h (i:=2) rfl;have k3:=aA h (i:=3) rfl;have k4:=aA h (i:=4) rfl;have hl:=aD h;have k:∀o,o<=n*6+5->∃u,G.cell? ⟨g,o,none⟩=some u:=fun o ho=>⟨d[o]'(by omega),by rw[cell_of_row G g o d _ _ j];exact aC_ (by omega)⟩
 obtain⟨u1,m1⟩:=k (n*6+1) (by omega)
 obtain⟨u2,Z⟩:=k (n*6+2) (by omega)
 obtain⟨u3,m3⟩:=k (n*6+3) (by omega)
 obtain⟨u4,m4⟩:=k (n*6+4) (by omega)
 obtain⟨u5,m5⟩:=k (n*6+5) (by omega)
 have z1:=aE j (i:=n*6+1);have z2:=aE j (i:=n*6+2);have z3:=aE j (i:=n*6+3);have z4:=aE j (i:=n*6+4);have z5:=aE j (i:=n*6+5);have e1:(0:Int)<=(n:Int):=by omega
 have e2:(n:Int)<((n+1:Nat):Int):=by omega
 have T:¬sb=g:=fun e=>K e.symm
 have O:¬w.heap.size=g:=fun e=>N e.symm
 have X:¬w.heap.size=sb:=fun e=>V e.symm
 clear J j S h I k B L M l;go_wp2_with fail;go_region
 all_goals
  go_wp2_with fail;go_end0;exact⟨rfl,U.out _ (aQ.drew _)⟩
def nZ(a e:Int)(j h f:Option Addr)(c d b c1 g i:Nat)(w:World):Calls prog 106 #[.agg #[.int .i64 a,.slice j c c1,.slice h d g,.slice f b i,.int .i64 e]] w fun l k=>l=.returned (.int .i64 a)/\k=w.alloc (.cells #[.int .i64 a,.slice j c c1,.slice h d g,.slice f b i,.int .i64 e] 108):=by
 go_enter Tryz.func106,Tryz.ntmps106;go_wp2_with fail;go_ret;exact⟨rfl,rfl⟩
def SU(w:World)(sb:Nat)(a:Nat)(e:Int)(h g d:Option Addr)(i c f c1 j k:Nat)(P:World->Prop)(u:a%20=0)(v:a<=1000000)
 (o:Hid (∀n,Below w.heap.size w n->Calls prog 126 #[.pointer (some ⟨sb,5,none⟩),.int .i64 a,.agg #[.int .i64 a,.slice h i c1,.slice g c j,.slice d f k,.int .i64 e]] n fun b l=>b=.returned (.tuple #[])/\P l)):
 Calls prog 71 #[.pointer (some ⟨sb,0,none⟩),.agg #[.int .i64 a,.slice h i c1,.slice g c j,.slice d f k,.int .i64 e]] w fun b l=>b=.returned (.tuple #[])/\P l:=by
 have p:(a:Int)%20=0:=by omega
 have q:(a:Int).tmod 20=0:=by rw[Int.tmod_eq_emod_of_nonneg (by omega)];exact p
 go_enter Tryz.func71,Tryz.ntmps71;go_wp2_with fail;refine(nZ a e h g d i c f c1 j k _).mono ?_;rintro b x ⟨rfl,rfl⟩;go_wp2_with fail;go_region_law (go_simp;first|(go_at_call 106;refine(nZ a e h g d i c f c1 j k _).mono ?_;rintro b t ⟨rfl,rfl⟩)|(go_at_call 126;refine(o.out _ ((((ay_ _ w).alloc (au_ _) _).alloc (by simp) _).alloc (by simp;omega) _).drew).mono ?_;rintro b s ⟨rfl,m⟩;have r:=aB m;clear m))
 all_goals
  go_wp2_with fail;go_end0;exact⟨rfl,r.out⟩
def YG(w:World)(sb:Nat)(a:Nat)(e:Int)(g f c:Option Addr)(i b d c1 j k:Nat)(o:a%20≠0)(p:a<=1000000):
 Calls prog 71 #[.pointer (some ⟨sb,0,none⟩),.agg #[.int .i64 a,.slice g i c1,.slice f b j,.slice c d k,.int .i64 e]] w fun h l=>h=.returned (.tuple #[])/\Below w.heap.size w l:=by
 have m:¬(a:Int)%20=0:=by omega
 have n:¬(a:Int).tmod 20=0:=by rw[Int.tmod_eq_emod_of_nonneg (by omega)];exact m
 go_enter Tryz.func71,Tryz.ntmps71;go_wp2_with fail;refine(nZ a e g f c i b d c1 j k _).mono ?_;rintro h q ⟨rfl,rfl⟩;go_wp2_with fail;go_end0;exact⟨rfl,((ay_ _ w).alloc (au_ _) _).alloc (by simp) _⟩
def LI(l m:List Ent):jC (l++m)=jC l++jC m:=by
 induction l with
 |nil=>rfl
 |cons x l a=>simp[jC,a]
def LH(l:List Ent):(jC l).length=l.length*6:=by
 induction l with
 |nil=>rfl
 |cons x l a=>simp[jC,a,Ent.cells];omega
def IW:∀(l:List Ent) (i j:Nat) (h:i<l.length),j<6->(jC l)[i*6+j]?=(l[i].cells)[j]?
 |x::l,0,j,h,a=>by
  simp only[jC,Nat.zero_mul,bk_,bV_];rw[a3_ (by simpa [Ent.cells] using a)]
 |x::l,i+1,j,h,a=>by
  have:=IW l i j (by simpa using h) a
  simp only[jC,List.getElem_cons_succ];rw[aV_ (by simp[Ent.cells];omega),<-this]
  congr 1
  simp[Ent.cells];omega
def IV:∀(l:List Ent) (i:Nat) (x:Ent) (h:i<l.length),x.k=l[i].k->jC (l.set i x)=(((((jC l).set (i*6+1) (.int .i64 x.a)).set (i*6+2) x.b).set (i*6+3) x.c).set (i*6+4) x.d).set (i*6+5) (.int .i64 x.e)
 |y::l,0,x,h,a=>by
  simp only[bV_] at a;simp[jC,Ent.cells,a]
 |y::l,i+1,x,h,a=>by
  have b:=IV l i x (by simpa using h) (by simpa using a)
  have e:∀j,(i+1)*6+j=i*6+j+6:=fun j=>by omega
  simp only[b1_,jC,e,Ent.cells,aY_,by_];rw[b]
def F7(fp:Nat->Value)(F:Nat->Prop)(w:World)(st:Nat->Option bI)(i:Nat)(x:Ent):Prop:=
 x.k=((20*i:Nat):Int)/\∃s,st (20*i)=some s/\kR fp F w (.agg #[.int .i64 x.a,x.b,x.c,x.d,.int .i64 x.e]) s
def F7.keep{a:Nat->Value}{F G:Nat->Prop}{w w':World}{c:Nat->Option bI}{i:Nat}{x:Ent}(h:F7 a F w c i x)(g:∀b,F b->w'.heap[b]?=w.heap[b]?)(e:∀b,F b->G b):F7 a G w' c i x:=by
 obtain⟨d,s,f,j⟩:=h;exact⟨d,s,f,j.keep g e⟩
def F7.ok{k:Nat->Value}{F:Nat->Prop}{w:World}{f:Nat->Option bI}{i:Nat}{x:Ent}(h:F7 k F w f i x):x.Ok:=by
 obtain⟨_,s,_,l⟩:=h;obtain⟨m,o,n,e,g,d,j⟩:=l.form;simp only[Value.agg.injEq] at e;have c:=congrArg (fun z=>z[1]?) e
 have b:=congrArg (fun z=>z[2]?) e
 have a:=congrArg (fun z=>z[3]?) e
 simp at c b a;subst c b a;exact⟨g,d,j⟩
structure jV(fp:Nat->Value)(F:Nat->Prop)(w:World)(sb mb:Nat)(mo:Obj)(st:Nat->Option bI)(s:bI)(n:Nat):Prop where
 blk:∃fv tv ov ev es,w.heap[sb]?=some (.cells #[.int .i64 s.time,fv,tv,ov,.int .i64 s.stop,ev,.map (some mb)] 114 (0,0))/\kR fp F w (.agg #[.int .i64 s.time,fv,tv,ov,.int .i64 s.stop]) s/\
  w.ownsRow (sb+1) 265 6 ev n (jC es)/\es.length=n/\(∀i (h:i<es.length),F7 fp F w st i es[i])/\(∀k,F k->ev.ownBlock≠some k)/\ev.ownBlock≠some mb
 now:st s.time=some s
 fix:∀k,F k->k<w.heap.size/\k≠sb/\k≠mb
 map:w.heap[mb]?=some mo/\mb≠sb
def lX(sb:Nat)(w:World):Option Nat:=match w.heap[sb]? with|some (.cells c _ _)=>(c[5]?).bind Value.ownBlock|_=>none
def nL{sb:Nat}{w w':World}(h:w'.heap[sb]?=w.heap[sb]?):lX sb w'=lX sb w:=by unfold lX;rw[h]
def mE{sb:Nat}{w:World}{c:Array Value}{T:TypeId}{z:Nat × Nat}{v:Value}(h:w.heap[sb]?=some (.cells c T z))(a:c[5]?=some v):lX sb w=v.ownBlock:=by unfold lX;rw[h];simp[a]
structure FS(sb:Nat)(w w':World):Prop where
 os:w'.os=w.os
 tape:w'.tape=w.tape
 output:w'.output=w.output
 size:w.heap.size<=w'.heap.size
 blk:∀k,k<w.heap.size->k≠sb->lX sb w≠some k->w'.heap[k]?=w.heap[k]?
 row:∀k,lX sb w'=some k->lX sb w=some k\/w.heap.size<=k
def FS.trans{sb:Nat}{a b c:World}(h:FS sb a b)(k:FS sb b c):FS sb a c:=by
 refine⟨k.os.trans h.os,k.tape.trans h.tape,k.output.trans h.output,aF_ h.size k.size,fun i f j g=>?_,fun i f=>?_⟩
 ·rw[k.blk i (az_ f h.size) j (fun e=>?_),h.blk i f j g]
  rcases h.row i e with d|d
  ·exact g d
  ·omega
 ·rcases k.row i f with d|d
  ·exact h.row i d
  ·exact as_ (aF_ h.size d)
def FS.of_below{sb:Nat}{w w':World}(h:Below w.heap.size w w')(b:sb<w.heap.size):FS sb w w':=
 ⟨h.os,h.tape,h.output,h.size,fun k a _ _=>h.block k a,fun k a=>av_ (by rw[<-nL (h.block sb b)];exact a)⟩
section
variable {fp:Nat->Value} {F G:Nat->Prop} {w w':World} {sb mb n:Nat} {mo:Obj} {st:Nat->Option bI} {s:bI}
def jV.lt(h:jV fp F w sb mb mo st s n):sb<w.heap.size:=by
 obtain⟨_,_,_,_,_,a,_⟩:=h.blk;exact aD a
def jV.row(h:jV fp F w sb mb mo st s n):∀k,lX sb w=some k->sb<k/\k<w.heap.size/\¬F k/\k≠mb:=by
 obtain⟨_,_,_,i,_,d,_,g,_,_,c,b⟩:=h.blk;intro k a;rw[mE d rfl] at a;have:=g.lt k a;exact⟨by omega,this.2,fun f=>c k f a,fun e=>b (by rw[<-e];exact a)⟩
def jV.grow(h:jV fp F w sb mb mo st s n)(d:Below w.heap.size w w')(j:∀k,F k->G k)(o:∀k,G k->F k\/(w.heap.size<=k/\k<w'.heap.size)):jV fp G w' sb mb mo st s n:=by
 have g:=h.lt;obtain⟨t,z,q,x,C,A,v,m,B,p,u,r⟩:=h.blk;have l:∀b,F b->w'.heap[b]?=w.heap[b]?:=fun b f=>d.block b (h.fix b f).1
 refine⟨⟨t,z,q,x,C,by rw[d.block _ g];exact A,v.keep l j,gS m d,B,fun i y=>(p i y).keep l j,fun k a=>?_,r⟩,h.now,fun k a=>?_,by rw[d.block _ (aD h.map.1)];exact h.map⟩
 ·rcases o k a with c|c
  ·exact u k c
  ·intro e;have:=(m.lt k e).2;omega
 ·rcases o k a with c|c
  ·have:=h.fix k c;exact⟨az_ this.1 d.size,this.2⟩
  ·have:=aD h.map.1;exact⟨c.2,by omega,by omega⟩
def XB{es:List Ent}{base g b:Nat}(h:w.ownsRow base 265 6 (.slice (some ⟨g,0,none⟩) es.length b) es.length (jC es))(a:∀i (h:i<es.length),es[i].Ok):R8 w g es:=fun i d=>by
 have c:∀j u,j<6->(es[i].cells)[j]?=some u->w.cell? ⟨g,i*6+j,none⟩=some u:=fun j u e f=>by
  have:=h.cells (g:=g) rfl (i*6+j) u (by rw[IW es i j d e];exact f)
  rw[nQ] at this;exact this
 exact⟨a i d,c 0 _ (by omega) rfl,c 1 _ (by omega) rfl,c 2 _ (by omega) rfl,c 3 _ (by omega) rfl,c 4 _ (by omega) rfl,c 5 _ (by omega) rfl⟩
def WN{es:List Ent}{base g f i:Nat}{W:World}{a e:Int}{b c d:Value}(h:w.ownsRow base 265 6 (.slice (some ⟨g,0,none⟩) es.length f) es.length (jC es))(m:i<es.length)
 (q:W.heap=(((((w.setCell ⟨g,i*6+1,none⟩ (.int .i64 a)).setCell ⟨g,i*6+2,none⟩ b).setCell ⟨g,i*6+3,none⟩ c).setCell ⟨g,i*6+4,none⟩ d).setCell ⟨g,i*6+5,none⟩ (.int .i64 e)).heap):
 W.ownsRow base 265 6 (.slice (some ⟨g,0,none⟩) es.length f) es.length (jC (es.set i ⟨es[i].k,a,b,c,d,e⟩)):=by
 rcases h.2 with ⟨j,_⟩|⟨u,k,l,j,t,p,r,o,n,s⟩
 ·cases j
 cases j;refine⟨by simp[LH],as_ ⟨g,f,_,rfl,t,by rw[q];exact aS (aS (aS (aS (aS p)))),r,o,by simpa using n,?_⟩⟩
 rw[IV es i ⟨es[i].k,a,b,c,d,e⟩ m rfl,<-s];simp only[bB_,b6_]
end
structure ag_(n:Nat)(key:Int)(at_:Nat)(fd:Bool):Prop where
 le:at_<=n
 lo:∀i,i<at_->((20*i:Nat):Int)<key
 hi:∀i,i<n->at_<=i->key<=((20*i:Nat):Int)
 fnd:fd=true↔at_<n/\((20*at_:Nat):Int)=key
section
variable {fp:Nat->Value} {F G:Nat->Prop} {w w':World} {sb mb n:Nat} {mo:Obj} {st:Nat->Option bI} {s:bI}
def wG(h:jV fp F w sb mb mo st s n)(b:Int)(K:n<=1000):
 Calls prog 162 #[.pointer (some ⟨sb,5,none⟩),.int .i64 b] w fun e k=>∃(d:Nat) (A:Bool),e=.returned (.tuple #[.int .i64 d,.bool A])/\Below w.heap.size w k/\ag_ n b d A:=by
 obtain⟨N,Q,L,E,p,H,P,z,I,x,O,M⟩:=h.blk;have m:∀i (h:i<p.length),p[i].k=((20*i:Nat):Int):=fun i c=>(x i c).1
 have y:w.cell? ⟨sb,5,none⟩=some E:=aA H rfl;subst I;rcases z.2 with ⟨u,J⟩|⟨g,q,D,u,J,G,T,S⟩
 ·subst u;refine(IY w sb none 0 0 b (fun a f k=>a=0/\f=false/\k=w) y ((SY b w).mono ?_)).mono ?_
  ·rintro e k ⟨rfl,rfl⟩;exact⟨0,false,rfl,rfl,rfl,rfl⟩
  ·rintro e k ⟨a,f,rfl,rfl,rfl,rfl⟩;exact⟨0,false,rfl,ay_ _ _,a9_ _,fun i c=>by omega,fun i c _=>by omega,by simp;omega⟩
 ·subst u;refine(IY w sb (some ⟨g,0,none⟩) p.length q b (fun a f k=>∃d:Nat,a=d/\Below w.heap.size w k/\Found p b d f) y ((SZ g q p b w (by omega) (aD G) (XB z fun i c=>(x i c).ok) (fun i j c B C=>by rw[m i c,m j B];omega)).mono ?_)).mono ?_
  ·rintro e k ⟨a,f,rfl,t,l⟩;exact⟨_,f,rfl,a,rfl,t,l⟩
  ·rintro e k ⟨_,f,rfl,a,rfl,t,l⟩;refine⟨a,f,rfl,t,l.le,fun i c=>?_,fun i c v=>?_,?_⟩
   ·have:=l.lo i (by have:=l.le;omega) c
    rw[m i (by have:=l.le;omega)] at this;exact this
   ·have:=l.hi i c v;rw[m i c] at this;exact this
   ·rw[l.fnd];constructor
    ·rintro⟨o,r⟩;rw[m _ o] at r;exact⟨o,r⟩
    ·rintro⟨o,r⟩;exact⟨o,by rw[m _ o];exact r⟩
def IP(W:World)(g a b c d e:Nat)(u v x y z:Value)(k:Nat)(f:k≠g):(((((W.setCell ⟨g,a,none⟩ u).setCell ⟨g,b,none⟩ v).setCell ⟨g,c,none⟩ x).setCell ⟨g,d,none⟩ y).setCell ⟨g,e,none⟩ z).heap[k]?=W.heap[k]?:=by
 rw[ax_ _ _ _ _ f,ax_ _ _ _ _ f,ax_ _ _ _ _ f,ax_ _ _ _ _ f,ax_ _ _ _ _ f]
def WL(W:World)(p q r t o:Addr)(u v x y z:Value):(((((W.setCell p u).setCell q v).setCell r x).setCell t y).setCell o z).os=W.os/\(((((W.setCell p u).setCell q v).setCell r x).setCell t y).setCell o z).tape=W.tape/\(((((W.setCell p u).setCell q v).setCell r x).setCell t y).setCell o z).output=W.output/\(((((W.setCell p u).setCell q v).setCell r x).setCell t y).setCell o z).heap.size=W.heap.size:=by
 have a:∀(W:World) (p:Addr) (u:Value),(W.setCell p u).os=W.os/\(W.setCell p u).tape=W.tape/\(W.setCell p u).output=W.output/\(W.setCell p u).heap.size=W.heap.size:=fun W p u=>⟨rfl,rfl,rfl,by simp⟩
 simp[a]
def A9(h:jV fp F w sb mb mo st s n)(v:Value)(b:bI)(hv:kR fp F w v b)(hs:st b.time=some b)(hm:b.time%20=0)(hq:b.time/20<n)(hn:n<=1000)(ht:b.time<=1000000):
 Calls prog 126 #[.pointer (some ⟨sb,5,none⟩),.int .i64 b.time,v] w fun e u=>e=.returned (.tuple #[])/\FS sb w u/\jV fp F u sb mb mo st s n:=by
 obtain⟨f',t',o',rfl,⟨J,K,E,rfl⟩,⟨I,L,z,rfl⟩,⟨D,x,B,rfl⟩⟩:=hv.form;obtain⟨fv,tv,ov,ev,t,Y,h2,h3,h4,h5,Z,h7⟩:=h.blk;subst h4;have C:=h3;rcases h3.2 with ⟨r1,r2⟩|⟨g,A,p,r1,r2,r3,r4,r5,r6,r7⟩
 ·omega
 subst r1;obtain⟨q,m⟩:∃q,q=w.alloc (.cells #[.int .i64 b.time,.slice J K E,.slice I L z,.slice D x B,.int .i64 b.stop] 108):=⟨_,rfl⟩;have M:Below w.heap.size w q:=by rw[m];exact(ay_ _ _).alloc (au_ _) _
 have V:q.heap[w.heap.size]?=some (.cells #[.int .i64 b.time,.slice J K E,.slice I L z,.slice D x B,.int .i64 b.stop] 108 (0,0)):=by rw[m];exact aM _ _ rfl _
 have aa:q.heap.size=w.heap.size+1:=by rw[m];simp
 refine(CV w sb g t.length A (b.time/20) b.time b.time b.stop J I D K L x E z B (fun u=>FS sb w u/\jV fp F u sb mb mo st s t.length) (fun W=>Below q.heap.size q W) hq ?_ (fun W hW=>?_))
 ·show Calls _ _ _ _ _
  rw[<-m];refine(wG (h.grow M (fun _ h=>h) (fun _ h=>av_ h)) b.time hn).mono ?_
  rintro e u ⟨a,fd,rfl,hb,S⟩
  have e1:a=b.time/20:=by
   refine Nat.le_antisymm ?_ ?_
   ·cases a with
    |zero=>omega
    |succ a=>have:=S.lo a (by omega);omega
   ·rcases a6_ a (b.time/20) with h8|h8
    ·have:=S.hi a (by omega) (au_ _);omega
    ·exact h8
  have e2:fd=true:=S.fnd.2 ⟨by omega,by omega⟩
  exact⟨by rw[e1,e2],hb⟩
 ·have c:Below w.heap.size w W:=M.trans (hW.mono (by omega))
  have l:=h.lt;have U:=h.grow c (fun _ h=>h) (fun _ h=>av_ h)
  have Q:=aD r3;have O:W.heap[g]?=some (.cells p 265 (0,0)):=by rw[c.block _ Q];exact r3
  have P:b.time/20*6+5<p.size:=by rw[r6];have:=Nat.mul_le_mul_right 6 r4;omega
  refine⟨U.lt,aA (by rw[c.block _ l];exact Y) rfl,aD O,⟨p,O,P⟩,by rw[hW.block _ (by omega)];exact V,fun T r=>?_⟩
  have o:g≠sb:=by have:=(C.lt g rfl).1;omega
  have j:∀k,k≠g->T.heap[k]?=W.heap[k]?:=fun k j=>by rw[r.heap];exact IP W g _ _ _ _ _ _ _ _ _ _ k j
  have N:lX sb W=some g:=mE (by rw[c.block _ l];exact Y) rfl
  have H:∀k,F k->k≠g:=fun k j e=>Z k j (by rw[e];rfl)
  have X:FS sb W T:=by
   obtain⟨a1,a2,a3,a4⟩:=WL W ⟨g,b.time/20*6+1,none⟩ ⟨g,b.time/20*6+2,none⟩ ⟨g,b.time/20*6+3,none⟩ ⟨g,b.time/20*6+4,none⟩ ⟨g,b.time/20*6+5,none⟩ (.int .i64 b.time) (.slice J K E) (.slice I L z) (.slice D x B) (.int .i64 b.stop);refine⟨r.os.trans a1,r.tape.trans a2,r.output.trans a3,by rw[r.heap,a4];exact au_ _,fun k d hc hr=>j k fun e=>hr (by rw[e];exact N),fun k d=>av_ ?_⟩
   rw[<-nL (j sb (fun e=>o e.symm))];exact d
  refine⟨(FS.of_below c l).trans X,⟨fv,tv,ov,.slice (some ⟨g,0,none⟩) t.length A,t.set (b.time/20) ⟨t[b.time/20].k,b.time,.slice J K E,.slice I L z,.slice D x B,b.stop⟩,?_,?_,?_,by simp,fun i hi=>?_,Z,h7⟩,h.now,fun k d=>?_,?_⟩
  ·rw[j sb (fun e=>o e.symm),c.block _ l];exact Y
  ·exact h2.keep (fun k d=>by rw[j k (H k d),c.block k (h.fix k d).1]) fun _ h=>h
  ·exact WN (gS C c) hq r.heap
  ·have y:i<t.length:=by simpa using hi
   have f:∀k,F k->T.heap[k]?=w.heap[k]?:=fun k d=>by rw[j k (H k d),c.block k (h.fix k d).1]
   by_cases G:i=b.time/20
   ·subst G;rw[List.getElem_set_self];refine⟨(h5 _ y).1,b,?_,hv.keep f fun _ h=>h⟩
    rw[show 20*(b.time/20)=b.time by omega];exact hs
   ·rw[List.getElem_set_ne (fun e=>G e.symm)]
    exact(h5 i y).keep f fun _ h=>h
  ·have:=h.fix k d;exact⟨by rw[r.heap];simpa using az_ this.1 c.size,this.2⟩
  ·refine⟨?_,h.map.2⟩;rw[j mb (fun e=>h7 (by rw[e];rfl)),c.block _ (aD h.map.1)];exact h.map.1
end
section
variable {fp:Nat->Value} {F G:Nat->Prop} {w w':World} {sb mb n:Nat} {mo:Obj} {st:Nat->Option bI} {s:bI}
def K5{es:List Ent}{base g f i m:Nat}{W:World}{k0 a e:Int}{b c d:Value}(k:es.length=m)(h:w.ownsRow base 265 6 (.slice (some ⟨g,0,none⟩) m f) m (jC es))(j:i<es.length)(l:es[i].k=k0)
 (n:W.heap=(((((w.setCell ⟨g,i*6+1,none⟩ (.int .i64 a)).setCell ⟨g,i*6+2,none⟩ b).setCell ⟨g,i*6+3,none⟩ c).setCell ⟨g,i*6+4,none⟩ d).setCell ⟨g,i*6+5,none⟩ (.int .i64 e)).heap):
 W.ownsRow base 265 6 (.slice (some ⟨g,0,none⟩) m f) m (jC (es.set i ⟨k0,a,b,c,d,e⟩)):=by
 subst k l;exact WN h j n
def A8(h:jV fp F w sb mb mo st s n)(v:Value)(f:bI)(hv:kR fp F w v f)(hs:st f.time=some f)(hm:f.time%20=0)(hq:f.time/20=n)(hn:n<=1000):
 Calls prog 126 #[.pointer (some ⟨sb,5,none⟩),.int .i64 f.time,v] w fun e H=>e=.returned (.tuple #[])/\FS sb w H/\jV fp F H sb mb mo st s (n+1):=by
 obtain⟨f',t',o',rfl,⟨Y,Z,T,rfl⟩,⟨X,n2,P,rfl⟩,⟨S,O,Q,rfl⟩⟩:=hv.form;obtain⟨fv,tv,ov,ev,V,h1,h2,h3,h4,h5,h6,h7⟩:=h.blk;have L:=h.lt;have ac:=h3;obtain⟨x,c,rfl⟩:=cU h3;obtain⟨u,C⟩:∃u,u=w.alloc (.cells #[.int .i64 f.time,.slice Y Z T,.slice X n2 P,.slice S O Q,.int .i64 f.stop] 108):=⟨_,rfl⟩;have B:Below w.heap.size w u:=by rw[C];exact(ay_ _ _).alloc (au_ _) _
 have al:u.heap[w.heap.size]?=some (.cells #[.int .i64 f.time,.slice Y Z T,.slice X n2 P,.slice S O Q,.int .i64 f.stop] 108 (0,0)):=by rw[C];exact aM _ _ rfl _
 have au:u.heap.size=w.heap.size+1:=by rw[C];simp
 have J:∀k,(Value.slice x n c).ownBlock=some k->sb<k/\k<w.heap.size:=fun k j=>by have:=ac.lt k j;exact⟨by omega,this.2⟩
 refine(KZ w sb n x c f.time f.time f.stop Y X S Z n2 O T P Q (fun H=>FS sb w H/\jV fp F H sb mb mo st s (n+1)) (fun W=>Below u.heap.size u W)
  (fun g l W=>(∀k,k<u.heap.size->some k≠(Value.slice x n c).ownBlock->W.heap[k]?=u.heap[k]?)/\W.os=w.os/\W.tape=w.tape/\W.output=w.output/\u.heap.size<=W.heap.size/\((Value.slice x n c).ownBlock=some g\/u.heap.size<=g)/\W.ownsRow (sb+1) 265 6 (.slice (some ⟨g,0,none⟩) (n+1) l) (n+1) (jC V++[.int .i64 f.time,.int .i64 0,.slice none 0 0,.slice none 0 0,.slice none 0 0,.int .i64 0])) (by omega) ?_ (fun W hW=>?_) (fun g l W hW=>?_))
 ·show Calls _ _ _ _ _
  rw[<-C];refine(wG (h.grow B (fun _ h=>h) (fun _ h=>av_ h)) f.time hn).mono ?_
  rintro e H ⟨a,fd,rfl,hb,hf⟩
  have e1:a=n:=by
   refine Nat.le_antisymm hf.le ?_;rcases a6_ a n with m|m
   ·have:=hf.hi a m (au_ _);omega
   ·exact m
  have e2:fd=false:=by
   cases fd with
   |false=>rfl
   |true=>have:=(hf.fnd.1 rfl).1;omega
  exact⟨by rw[e1,e2],hb⟩
 ·have o:Below w.heap.size w W:=B.trans (hW.mono (by omega))
  have ak:=gS ac o;refine⟨az_ L o.size,aA (by rw[o.block _ L];exact h1) rfl,?_⟩
  refine(UP _ (sb+1) W.heap.size n (.slice x n c) (jC V) f.time (ak.alloc _) (aM _ _ rfl _) (by omega) (by have:=o.size;simp;omega)).mono ?_
  rintro e H ⟨g,l,rfl,q1,q2,q3⟩;have aw:=hW.size;have aj:=q2.size;simp only[World.size_alloc] at aj;refine⟨g,l,rfl,fun k j q=>?_,?_,?_,?_,by omega,?_,q1⟩
  ·rw[q2.block k (by simp;omega) q,aA_ _ _ _ (by omega),hW.block k j]
  ·exact q2.os.trans o.os
  ·exact q2.tape.trans o.tape
  ·exact q2.output.trans o.output
  ·rcases q3 with q3|q3
   ·exact av_ q3
   ·exact as_ (by rw[q3];simp;omega)
 ·obtain⟨b1,b2,b3,b4,b5,b6,b7⟩:=hW;have ap:=b7;have y:g≠sb:=by have:=(b7.lt g rfl).1;omega
  have ao:g≠w.heap.size:=by
   rcases b6 with m|m
   ·have:=J g m;omega
   ·omega
  rcases b7.2 with ⟨r1,_⟩|⟨g',ar,ab,r1,r2,r3,r4,r5,r6,r7⟩
  ·cases r1
  cases r1
  have r:W.heap[sb]?=some (.cells #[.int .i64 s.time,fv,tv,ov,.int .i64 s.stop,.slice x n c,.map (some mb)] 114 (0,0)):=by
   rw[b1 sb (by omega) (fun e=>by have:=J sb e.symm;omega),B.block _ L];exact h1
  have ai:n*6+5<ab.size:=by rw[r6];omega
  refine⟨by omega,y,ao,by omega,⟨_,aA r rfl⟩,aE r,aD r3,⟨ab,r3,ai⟩,by rw[b1 _ (by omega) (fun e=>by have:=J _ e.symm;omega)];exact al,fun U M=>?_⟩
  generalize I:W.setCell ⟨sb,5,none⟩ (.slice (some ⟨g,0,none⟩) (n+1) l)=A at M;have aa:∀k,k≠sb->A.heap[k]?=W.heap[k]?:=fun k j=>by rw[<-I];exact ax_ _ _ _ _ j
  have af:A.heap[sb]?=some (.cells #[.int .i64 s.time,fv,tv,ov,.int .i64 s.stop,.slice (some ⟨g,0,none⟩) (n+1) l,.map (some mb)] 114 (0,0)):=by rw[<-I];exact aS r
  have p:A.os=W.os/\A.tape=W.tape/\A.output=W.output/\A.heap.size=W.heap.size:=by rw[<-I];exact⟨rfl,rfl,rfl,by simp⟩
  have ad:∀k,k≠g->U.heap[k]?=A.heap[k]?:=fun k j=>by rw[M.heap];exact IP A g _ _ _ _ _ _ _ _ _ _ k j
  obtain⟨a1,a2,a3,a4⟩:=WL A ⟨g,n*6+1,none⟩ ⟨g,n*6+2,none⟩ ⟨g,n*6+3,none⟩ ⟨g,n*6+4,none⟩ ⟨g,n*6+5,none⟩ (.int .i64 f.time) (.slice Y Z T) (.slice X n2 P) (.slice S O Q) (.int .i64 f.stop);have ag:U.heap.size=W.heap.size:=by rw[M.heap,a4,p.2.2.2]
  have E:∀k,k<w.heap.size->k≠sb->some k≠(Value.slice x n c).ownBlock->U.heap[k]?=w.heap[k]?:=fun k j q hr=>by
   have an:k≠g:=fun e=>by
    rcases b6 with m|m
    ·exact hr (by rw[e];exact m.symm)
    ·omega
   rw[ad k an,aa k q,b1 k (by omega) hr,B.block k j]
  have G:∀k,F k->U.heap[k]?=w.heap[k]?:=fun k j=>E k (h.fix k j).1 (h.fix k j).2.1 fun e=>h6 k j e.symm
  have aq:=aD h.map.1;have t:lX sb w=(Value.slice x n c).ownBlock:=mE h1 rfl;have D:U.heap[sb]?=some (.cells #[.int .i64 s.time,fv,tv,ov,.int .i64 s.stop,.slice (some ⟨g,0,none⟩) (n+1) l,.map (some mb)] 114 (0,0)):=by rw[ad sb (fun e=>y e.symm)];exact af
  obtain⟨z,hz⟩:∃z:Ent,z=⟨f.time,0,.slice none 0 0,.slice none 0 0,.slice none 0 0,0⟩:=⟨_,rfl⟩
  have N:A.ownsRow (sb+1) 265 6 (.slice (some ⟨g,0,none⟩) (n+1) l) (n+1) (jC (V++[z])):=by
   rw[LI,hz];exact aY ap fun k e=>aa k (by cases e;exact y)
  have K:(V++[z]).length=n+1:=by simp[h4]
  have am:(V++[z])[n]'(by rw[K];omega)=z:=by rw[bM_ (by omega)];simp
  have ah:=K5 (W:=U) (i:=n) (k0:=f.time) (a:=f.time) (b:=.slice Y Z T) (c:=.slice X n2 P) (d:=.slice S O Q) (e:=f.stop) K N (by rw[K];omega) (by rw[am,hz]) M.heap
  refine⟨⟨M.os.trans (a1.trans (p.1.trans b2)),M.tape.trans (a2.trans (p.2.1.trans b3)),M.output.trans (a3.trans (p.2.2.1.trans b4)),by rw[ag];omega,fun k j q hr=>E k j q (fun e=>hr (by rw[t];exact e.symm)),fun k j=>?_⟩,⟨fv,tv,ov,.slice (some ⟨g,0,none⟩) (n+1) l,(V++[z]).set n ⟨f.time,f.time,.slice Y Z T,.slice X n2 P,.slice S O Q,f.stop⟩,D,h2.keep G fun _ h=>h,?_,by simp[h4],fun i hi=>?_,fun k j e=>?_,fun e=>?_⟩,h.now,fun k j=>?_,?_⟩
  ·rw[mE D rfl] at j;cases j;rcases b6 with m|m
   ·exact av_ (by rw[t];exact m)
   ·exact as_ (by show w.heap.size<=g;omega)
  ·exact ah
  ·have av:i<n+1:=by simpa [h4] using hi
   by_cases ae:i=n
   ·subst ae;rw[List.getElem_set_self];refine⟨by show (f.time:Int)=_;omega,f,?_,hv.keep G fun _ h=>h⟩
    rw[show 20*i=f.time by omega];exact hs
   ·rw[List.getElem_set_ne (fun e=>ae e.symm),bv_ (by omega)]
    exact(h5 i (by omega)).keep G fun _ h=>h
  ·have e':g=k:=by simpa [Value.ownBlock] using e
   rcases b6 with m|m
   ·exact h6 k j (by rw[<-e'];exact m)
   ·have:=(h.fix _ j).1;omega
  ·have e':g=mb:=by simpa [Value.ownBlock] using e
   rcases b6 with m|m
   ·exact h7 (by rw[<-e'];exact m)
   ·omega
  ·have:=h.fix k j;exact⟨by rw[ag];omega,this.2⟩
  ·exact⟨by rw[E mb aq h.map.2 (fun e=>h7 e.symm)];exact h.map.1,h.map.2⟩
def GZ(h:jV fp F w sb mb mo st s n)(v:Value)(a:bI)(z:kR fp F w v a)(A:st a.time=some a)(G:a.time%20=0->a.time/20<=n)(q:n<=1000)(m:a.time<=1000000):
 Calls prog 71 #[.pointer (some ⟨sb,0,none⟩),v] w fun e c=>e=.returned (.tuple #[])/\FS sb w c/\jV fp F c sb mb mo st s (if a.time%20=0/\a.time/20=n then n+1 else n):=by
 obtain⟨H,J,I,rfl,⟨y,B,t,rfl⟩,⟨x,p,C,rfl⟩,⟨r,u,D,rfl⟩⟩:=z.form;by_cases b:a.time%20=0
 ·refine SU w sb a.time a.stop y x r B p u t C D _ b m fun W i=>?_
  have g:=h.grow i (fun _ h=>h) (fun _ h=>av_ h)
  have d:=z.keep (fun k E=>i.block k (h.fix k E).1) fun _ h=>h
  rcases bm_ (G b) with e|e
  ·rw[if_pos ⟨b,e⟩];refine(A8 g _ a d A b e q).mono ?_;rintro e c ⟨f,l,j⟩;exact⟨f,(FS.of_below i h.lt).trans l,j⟩
  ·rw[if_neg (by omega)]
   refine(A9 g _ a d A b e q m).mono ?_;rintro e c ⟨f,l,j⟩;exact⟨f,(FS.of_below i h.lt).trans l,j⟩
 ·rw[if_neg (fun e=>b e.1)]
  refine(YG w sb a.time a.stop y x r B p u t C D b m).mono ?_;rintro e c ⟨f,o⟩;exact⟨f,FS.of_below o h.lt,h.grow o (fun _ h=>h) (fun _ h=>av_ h)⟩
end
end Go.Proofs.YtblbkfdhjfppkaaGreatDoor
