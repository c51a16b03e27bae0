/- Contracts of the program: the store of states: where a key stands. -/
import Derived.Test.YtmjbnmpamlainaaGreatDoorP12
set_option linter.defProp false
set_option maxRecDepth 100000
set_option maxHeartbeats 4000000
namespace Go.Proofs.YtmjbnmpamlainaaGreatDoor
open _root_.Go.Proofs.Tryz
open Go.RowKit
def sQ(x y:Int):Int:=if x<y then -1 else if x>y then 1 else 0
def aZ_{x y:Int}(h:¬x=y):¬sQ x y=0:=by
 unfold sQ;split
 ·omega
 ·split<;>omega
def KW(x:Int)(w:aG):Calls prog 120 #[Iv0 x] w fun e a=>e=aZ (.bool false)/\a=w:=by
 go_in
 go_wp2
 go_ret;exact⟨by simp,rfl⟩
def TG(x y:Int)(w:aG):Calls prog 87 #[Iv0 x,Iv0 y] w fun e f=>e=aZ (Iv0 (sQ x y))/\f=w:=by
 go_in
 go_wp2_with fail;refine(KW x w).mono ?_;rintro e d ⟨rfl,rfl⟩;go_wp2_with fail;refine(KW y d).mono ?_;rintro e g ⟨rfl,rfl⟩;by_cases b:x<y
 ·have a:Hid (sQ x y= -1):=by show _=_;unfold sQ;rw[if_pos b]
  go_wp2
  go_ret;exact⟨by rw[a.out];rfl,rfl⟩
 ·by_cases c:y<x
  ·have a:Hid (sQ x y=1):=by show _=_;unfold sQ;rw[if_neg b,if_pos c]
   go_wp2
   go_ret;exact⟨by rw[a.out];rfl,rfl⟩
  ·have a:Hid (sQ x y=0):=by show _=_;unfold sQ;rw[if_neg b,if_neg c]
   go_wp2
   go_ret;exact⟨by rw[a.out];rfl,rfl⟩
def LG(k f:Int)(a b c d e:aQ)(w:aG)(i:∃x l c,b=.slice x l c)(p:∃x l d,c=.slice x l d)(g:∃x l c,d=.slice x l c)(o:∃n,a=Iv0 n)(m:∃n,e=Iv0 n):
 Calls prog 86 #[.agg #[Iv0 k,a,b,c,d,e],Iv0 f] w fun j h=>j=aZ (Iv0 (sQ k f))/\h=w.alloc (.cells #[Iv0 k,a,b,c,d,e] 115):=by
 obtain⟨_,_,_,rfl⟩:=i;obtain⟨_,_,_,rfl⟩:=p;obtain⟨_,_,_,rfl⟩:=g;obtain⟨_,rfl⟩:=o;obtain⟨_,rfl⟩:=m;go_in
 go_wp2_with fail;refine(TG k f _).mono ?_;rintro e q ⟨rfl,rfl⟩;go_wp2
 go_ret;exact⟨rfl,rfl⟩
def bE_(a b:aQ)(W:aG):(callFunc 86 #[a,b]).run prog W=.ok (.enter 86 #[a,b]) W:=by kernel_rfl
structure Ent where
 k:Int
 a:Int
 b:Value
 c:Value
 d:Value
 e:Int
def Ent.cells(x:Ent):List Value:=[Iv0 x.k,Iv0 x.a,x.b,x.c,x.d,Iv0 x.e]
def kB:List Ent->List Value
 |[]=>[]
 |x::l=>x.cells++kB l
structure Ent.Ok(x:Ent):Prop where
 b:∃y l c,x.b=.slice y l c
 c:∃y l c,x.c=.slice y l c
 d:∃y l c,x.d=.slice y l c
def p8(w:aG)(g:Nat)(es:List Ent):Prop:=∀i (h:i<es.length),es[i].Ok/\w.cell? (aH g (i*6))=some (Iv0 es[i].k)/\w.cell? (aH g (i*6+1))=some (Iv0 es[i].a)/\w.cell? (aH g (i*6+2))=some es[i].b/\w.cell? (aH g (i*6+3))=some es[i].c/\w.cell? (aH g (i*6+4))=some es[i].d/\w.cell? (aH g (i*6+5))=some (Iv0 es[i].e)
structure Found(es:List Ent)(key:Int)(at_:Nat)(found:Bool):Prop where
 le:at_<=es.length
 lo:∀i (h:i<es.length),i<at_->es[i].k<key
 hi:∀i (h:i<es.length),at_<=i->key<=es[i].k
 fnd:found=true↔∃h:at_<es.length,es[at_].k=key
def VE(g aa:Nat)(es:List Ent)(b:Int)(w:World)(hl:es.length<=100000)(X:g<w.heap.size)(he:p8 w g es)(hs:∀i j (hi:i<es.length) (hj:j<es.length),i<=j->es[i].k<=es[j].k):
 Calls prog 85 #[.slice (some ⟨g,0,none⟩) es.length aa,.int .i64 b,.func (.func 86) #[] #[]] w fun e w'=>∃G fd,e=.returned (.tuple #[.int .i64 (G:Nat),.bool fd])/\Below w.heap.size w w'/\Found es b G fd:=by
 have HE:=aB he;have Y:=aB hs;clear he hs;have af:=bE_;go_enter func85,ntmps85;go_wp2_with fail;go_loopg [9,10,11] es.length (fun gk iv jv _ wr=>∃i j:Nat,iv=.int .i64 i/\jv=.int .i64 j/\i<=j/\j<=es.length/\j-i<=gk/\Below w.heap.size w wr/\(∀k (h:k<es.length),k<i->es[k].k<b)/\(∀k (h:k<es.length),j<=k->b<=es[k].k))
 case atStart=>exact⟨0,es.length,rfl,rfl,by omega,by omega,by omega,co_ _ _,fun k h v=>by omega,fun k h v=>by omega⟩
 case round=>
  obtain⟨i,j,rfl,rfl,ad,hj,ae,m,d,c⟩:=hrel;by_cases ac:i<j
  ·have n:=aB (cL_ d c);have hm:(i+j)/2<es.length:=by omega
   obtain⟨y,x,A,s,t,q,z⟩:=HE.out _ hm;have a:∀o u,w.cell? ⟨g,o,none⟩=some u->wr.cell? ⟨g,o,none⟩=some u:=fun o u hu=>by rw[m.cell (p:=⟨g,o,none⟩) X];exact hu
   have x:=a _ _ x;have A:=a _ _ A;have s:=a _ _ s;have t:=a _ _ t;have q:=a _ _ q;have z:=a _ _ z;have ab:g<wr.heap.size:=cn_ X m.size;have r:=aB m;have H:Hid (∀k (h:k<es.length),(k<=(i+j)/2->es[k].k<=es[(i+j)/2].k)/\((i+j)/2<=k->es[(i+j)/2].k<=es[k].k)):=fun k h=>⟨fun v=>Y.out _ _ h hm v,fun v=>Y.out _ _ hm h v⟩
   obtain⟨I,T,N,L⟩:=y.b;obtain⟨W,U,E,S⟩:=y.c;obtain⟨M,Q,F,V⟩:=y.d;rw[L] at s;rw[S] at t;rw[V] at q;generalize es[(i+j)/2].k=mk at*;generalize es[(i+j)/2].a=P at*;generalize es[(i+j)/2].e=O at*;clear d c m L S V a;have J:=aB (LG mk b (.int .i64 P) (.slice I T N) (.slice W U E) (.slice M Q F) (.int .i64 O) wr ⟨_,_,_,rfl⟩ ⟨_,_,_,rfl⟩ ⟨_,_,_,rfl⟩ ⟨_,rfl⟩ ⟨_,rfl⟩);go_wp2_with fail;refine J.out.mono ?_;rintro e w1 ⟨rfl,rfl⟩;have l:=aB (r.out.trans (((co_ _ wr).alloc (cy_ _) (.cells #[.int .i64 mk,.int .i64 P,.slice I T N,.slice W U E,.slice M Q F,.int .i64 O] 115)).mono r.out.size));clear r J x A s t q z;by_cases f:mk<b
   ·have D:sQ mk b= -1:=by unfold sQ;rw[if_pos f]
    rw[D];have C:=aB f;clear f D;go_wp2_with fail;go_roundg ((gk-1))
    case measure=>omega
    case rel=>
     refine⟨(i+j)/2+1,j,by go_num,rfl,by omega,hj,by omega,l.out,fun k h v=>?_,n.out.2⟩
     exact Int.lt_of_le_of_lt ((H.out k h).1 (by omega)) C.out
   ·have D:0<=sQ mk b:=by unfold sQ;rw[if_neg f];split<;>omega
    have C:=aB f;clear f;go_wp2_with fail;go_roundg (gk-1)
    case measure=>omega
    case rel=>
     refine⟨i,(i+j)/2,rfl,by go_num,by omega,by omega,by omega,l.out,n.out.1,fun k h v=>?_⟩
     have:=(H.out k h).2 v;have:=C.out;omega
  ·obtain rfl:i=j:=by omega
   by_cases Z:i<es.length
   ·have n:=aB (cL_ d c);obtain⟨y,x,A,s,t,q,z⟩:=HE.out _ Z;have a:∀o u,w.cell? ⟨g,o,none⟩=some u->wr.cell? ⟨g,o,none⟩=some u:=fun o u hu=>by rw[m.cell (p:=⟨g,o,none⟩) X];exact hu
    have x:=a _ _ x;have A:=a _ _ A;have s:=a _ _ s;have t:=a _ _ t;have q:=a _ _ q;have z:=a _ _ z;have ab:g<wr.heap.size:=cn_ X m.size;have r:=aB m;obtain⟨I,T,N,L⟩:=y.b;obtain⟨W,U,E,S⟩:=y.c;obtain⟨M,Q,F,V⟩:=y.d;rw[L] at s;rw[S] at t;rw[V] at q;obtain⟨mk,B⟩:∃mk,mk=es[i].k:=⟨_,rfl⟩;rw[<-B] at x;have K:=aB B;generalize es[i].a=P at*;generalize es[i].e=O at*;clear d c m L S V a B y HE Y;have J:=aB (LG mk b (.int .i64 P) (.slice I T N) (.slice W U E) (.slice M Q F) (.int .i64 O) wr ⟨_,_,_,rfl⟩ ⟨_,_,_,rfl⟩ ⟨_,_,_,rfl⟩ ⟨_,rfl⟩ ⟨_,rfl⟩);go_wp2_with fail;refine J.out.mono ?_;rintro e w1 ⟨rfl,rfl⟩;have l:=aB (r.out.trans (((co_ _ wr).alloc (cy_ _) (.cells #[.int .i64 mk,.int .i64 P,.slice I T N,.slice W U E,.slice M Q F,.int .i64 O] 115)).mono r.out.size));clear r J x A s t q z;by_cases f:mk=b
    ·have D:sQ mk b=0:=by unfold sQ;rw[if_neg (by omega),if_neg (by omega)]
     rw[D];have C:=aB f;clear f D;go_wp2_with fail;go_ret2
     refine⟨i,true,rfl,l.out,dv_ Z,n.out.1,n.out.2,?_⟩;simp only[true_iff];exact⟨Z,K.out.symm.trans C.out⟩
    ·have D:(sQ mk b==0)=false:=by simpa using aZ_ f
     have C:=aB f;clear f;go_wp2_with fail;go_ret2
     refine⟨i,false,rfl,l.out,dv_ Z,n.out.1,n.out.2,?_⟩;simp only[Bool.false_eq_true,false_iff];rintro⟨_,e⟩;exact C.out (K.out.trans e)
   ·have n:=aB (cL_ d c);have r:=aB m;clear d c m HE Y;go_wp2_with fail;go_ret2
    refine⟨i,false,rfl,r.out,by omega,n.out.1,n.out.2,?_⟩
    simp only[Bool.false_eq_true,false_iff];rintro⟨h,_⟩;omega
def VD(a:Int)(w:aG):
 Calls prog 85 #[bF,Iv0 a,.func (.func 86) #[] #[]] w fun e b=>e=aZ (.tuple #[Iv0 0,.bool false])/\b=w:=by
 go_in
 go_wp2_with fail;go_loopg [9,10,11] 0 (fun _ c d _ wr=>c=Iv0 0/\d=Iv0 0/\wr=w)
 case atStart=>exact⟨rfl,rfl,rfl⟩
 case round=>
  obtain⟨rfl,rfl,rfl⟩:=hrel;go_wp2
  go_ret2
  exact⟨rfl,rfl⟩
def aL_:(prog.info? 115).map (fun i=>(i.zero,i.size,i.bytes))=some (some (.agg #[Iv0 0,Iv0 0,bF,bF,bF,Iv0 0]),6,96):=by kernel_rfl
def LF(w:aG)(sb:Nat)(x:Option Addr)(n c:Nat)(b:Int)(P:Int->Bool->World->Prop)(k:w.cell? (aH sb 5)=some (.slice x n c))
 (i:Hid (Calls prog 85 #[.slice x n c,Iv0 b,.func (.func 86) #[] #[]] w fun e d=>∃a f,e=aZ (.tuple #[Iv0 a,.bool f])/\P a f d)):
 Calls prog 53 #[.pointer (some (aH sb 5)),Iv0 b] w fun e d=>∃a f,e=aZ (.tuple #[Iv0 a,.bool f])/\P a f d:=by
 go_in
 go_wp2_with fail;refine i.mono ?_;rintro e j ⟨a,f,rfl,g⟩;have h:=aB g;clear g;go_wp2
 go_ret2
 exact⟨a,f,rfl,h⟩
def EV(w:aG)(sb g n y b:Nat)(j a e:Int)(t r k:Option Addr)(s v l c1 m p:Nat)(P Q:World->Prop)(E:b<n)
 (F:Hid (Calls prog 53 #[.pointer (some (aH sb 5)),Iv0 j] (w.alloc (.cells #[Iv0 a,.slice t s c1,.slice r v m,.slice k l p,Iv0 e] 49)) fun q x=>q=aZ (.tuple #[Iv0 b,.bool true])/\Q x))
 (B:Hid (∀W,Q W->sb<W.heap.size/\W.cell? (aH sb 5)=some (.slice (some (aH g 0)) n y)/\g<W.heap.size/\(∃c,W.heap[g]?=some (.cells c 115 (0,0))/\b*6+5<c.size)/\W.heap[w.heap.size]?=some (.cells #[Iv0 a,.slice t s c1,.slice r v m,.slice k l p,Iv0 e] 49 (0,0))/\
   ∀C,aV (((((W.setCell (aH g (b*6+1)) (Iv0 a)).setCell (aH g (b*6+2)) (.slice t s c1)).setCell (aH g (b*6+3)) (.slice r v m)).setCell (aH g (b*6+4)) (.slice k l p)).setCell (aH g (b*6+5)) (Iv0 e)) C->P C)):
 Calls prog 52 #[.pointer (some (aH sb 5)),Iv0 j,.agg #[Iv0 a,.slice t s c1,.slice r v m,.slice k l p,Iv0 e]] w fun q x=>q=aZ (.tuple #[])/\P x:=by
 go_in
 go_wp2_with fail;refine F.mono ?_;rintro q z ⟨rfl,D⟩;obtain⟨U,q2,X,⟨c,f,G⟩,d,A⟩:=B _ D;have H:=aB A;have T:=aA d (i:=0) rfl;have I:=aA d (i:=1) rfl;have k2:=aA d (i:=2) rfl;have N:=aA d (i:=3) rfl;have V:=aA d (i:=4) rfl;have hl:=aC d;have h:∀o,o<=b*6+5->∃u,z.cell? (aH g o)=some u:=fun o Z=>⟨c[o]'(by omega),by rw[cell_of_row z g o c _ _ f];exact cr_ (by omega)⟩
 obtain⟨u1,m1⟩:=h (b*6+1) (by omega)
 obtain⟨u2,J⟩:=h (b*6+2) (by omega)
 obtain⟨u3,K⟩:=h (b*6+3) (by omega)
 obtain⟨u4,m4⟩:=h (b*6+4) (by omega)
 obtain⟨u5,m5⟩:=h (b*6+5) (by omega)
 have S:=aD f (i:=b*6+1);have M:=aD f (i:=b*6+2);have z3:=aD f (i:=b*6+3);have O:=aD f (i:=b*6+4);have L:=aD f (i:=b*6+5);have e1:(0:Int)<=(b:Int):=by omega
 have Y:(b:Int)<(n:Int):=by omega
 clear D f G d A h B;go_wp2_with fail;go_region
 all_goals
  go_wp2
  go_end0;exact⟨rfl,H _ (aV.drew _)⟩
def WZ(w:aG)(base b n:Nat)(v:aQ)(xs:List Value)(h:Int)(a:w.ownsRow base 115 6 v n xs)(u:w.heap[b]?=some (.cells #[Iv0 h,Iv0 0,bF,bF,bF,Iv0 0] 115 (0,0)))(N:n<=100000)(k:base<=w.heap.size):
 Calls prog 84 #[v,Iv0 n,.slice (some (aH b 0)) 1 1] w fun e t=>∃g l,e=aZ (.slice (some (aH g 0)) (n+1) l)/\t.ownsRow base 115 6 (.slice (some (aH g 0)) (n+1) l) (n+1) (xs++[Iv0 h,Iv0 0,bF,bF,bF,Iv0 0])/\w.grownBy t v.ownBlock/\(v.ownBlock=some g\/g=w.heap.size):=by
 obtain⟨C,I,p,r,s⟩:=info_parts aL_;obtain⟨x,c,rfl⟩:=dE a;have F:=aB a;have H:=aB (World.news_of_block u);have j:∀v∈([Iv0 h,Iv0 0,bF,bF,bF,Iv0 0]:List Value),v.oneCell'=true:=fun v y=>by simp at y;rcases y with rfl|rfl|rfl|rfl<;>rfl
 have HONE:=aB j
 have J:(x=none/\n=0/\c=0)\/(∃g,x=some (aH g 0)/\n<c)\/∃g,x=some (aH g 0)/\c=n:=by
  rcases a.2 with ⟨o,K⟩|⟨g,l,E,o,K,M,A,_⟩
  ·cases o;exact cl_ ⟨rfl,rfl,rfl⟩
  ·cases o;rcases dd_ A with e|e
   ·exact ck_ (ck_ ⟨g,rfl,e.symm⟩)
   ·exact ck_ (cl_ ⟨g,rfl,e⟩)
 clear a j u;rcases J with ⟨rfl,rfl,rfl⟩|⟨B,rfl,G⟩|⟨B,rfl,rfl⟩
 all_goals
  go_in
  go_wp2_with (at_builtin;refine wpList_append_lies _ (by rfl) _ _ 52 (by rfl) base 115 C _ 6 96 underlying52 I p r s rfl (by decide) _ _ xs (by rfl) F (aH b 0) 1 1 [Iv0 h,Iv0 0,bF,bF,bF,Iv0 0] (by rfl) (by rfl) (H) HONE (by decide) (by unfold maxLen;omega) (by omega) k w.heap.size rfl ?_)
  intro D m L f d i z;have q:=aB (cL_ f (cL_ d i));clear f d i;go_wp2
  go_ret;exact⟨D,m,rfl,q.1,q.2.1,q.2.2⟩
def NE(w:aG)(sb n:Nat)(x:Option Addr)(c:Nat)(h a e:Int)(A r y:Option Addr)(t v z c1 q s:Nat)(P Q:World->Prop)(R:Nat->Nat->World->Prop)(hn:n<=100000)
 (D:Hid (Calls prog 53 #[.pointer (some (aH sb 5)),Iv0 h] (w.alloc (.cells #[Iv0 a,.slice A t c1,.slice r v q,.slice y z s,Iv0 e] 49)) fun m p=>m=aZ (.tuple #[Iv0 n,.bool false])/\Q p))
 (F:Hid (∀W,Q W->sb<W.heap.size/\W.cell? (aH sb 5)=some (.slice x n c)/\Calls prog 84 #[.slice x n c,Iv0 n,.slice (some (aH W.heap.size 0)) 1 1] (W.alloc (.cells #[Iv0 h,Iv0 0,bF,bF,bF,Iv0 0] 115)) fun e p=>∃g b,e=aZ (.slice (some (aH g 0)) (n+1) b)/\R g b p))
 (B:Hid (∀g b W,R g b W->sb<W.heap.size/\g≠sb/\g≠w.heap.size/\sb≠w.heap.size/\(∃u,W.cell? (aH sb 5)=some u)/\W.frozen? (aH sb 5)=false/\g<W.heap.size/\(∃d,W.heap[g]?=some (.cells d 115 (0,0))/\n*6+5<d.size)/\W.heap[w.heap.size]?=some (.cells #[Iv0 a,.slice A t c1,.slice r v q,.slice y z s,Iv0 e] 49 (0,0))/\
   ∀G,aV ((((((W.setCell (aH sb 5) (.slice (some (aH g 0)) (n+1) b)).setCell (aH g (n*6+1)) (Iv0 a)).setCell (aH g (n*6+2)) (.slice A t c1)).setCell (aH g (n*6+3)) (.slice r v q)).setCell (aH g (n*6+4)) (.slice y z s)).setCell (aH g (n*6+5)) (Iv0 e)) G->P G)):
 Calls prog 52 #[.pointer (some (aH sb 5)),Iv0 h,.agg #[Iv0 a,.slice A t c1,.slice r v q,.slice y z s,Iv0 e]] w fun m p=>m=aZ (.tuple #[])/\P p:=by
 go_in
 go_wp2_with fail;refine D.mono ?_;rintro m w0 ⟨rfl,I⟩;obtain⟨O,M,E⟩:=F _ I;have l:=aB E;clear I E F D;go_wp2_with fail;refine l.mono ?_;rintro m H ⟨g,b,rfl,J⟩;obtain⟨q1,U,T,X,⟨v5,g4⟩,g5,Z,⟨d,j,N⟩,f,C⟩:=B _ _ _ J;have V:=aB C;have k0:=aA f (i:=0) rfl;have k1:=aA f (i:=1) rfl;have k2:=aA f (i:=2) rfl;have k3:=aA f (i:=3) rfl;have k4:=aA f (i:=4) rfl;have hl:=aC f;have k:∀o,o<=n*6+5->∃u,H.cell? (aH g o)=some u:=fun o ho=>⟨d[o]'(by omega),by rw[cell_of_row H g o d _ _ j];exact cr_ (by omega)⟩
 obtain⟨u1,m1⟩:=k (n*6+1) (by omega)
 obtain⟨u2,m2⟩:=k (n*6+2) (by omega)
 obtain⟨u3,m3⟩:=k (n*6+3) (by omega)
 obtain⟨u4,m4⟩:=k (n*6+4) (by omega)
 obtain⟨u5,m5⟩:=k (n*6+5) (by omega)
 have z1:=aD j (i:=n*6+1);have z2:=aD j (i:=n*6+2);have z3:=aD j (i:=n*6+3);have Y:=aD j (i:=n*6+4);have z5:=aD j (i:=n*6+5);have e1:(0:Int)<=(n:Int):=by omega
 have e2:(n:Int)<((n+1:Nat):Int):=by omega
 have S:¬sb=g:=fun e=>U e.symm
 have K:¬w.heap.size=g:=fun e=>T e.symm
 have L:¬w.heap.size=sb:=fun e=>X e.symm
 clear J j N f C k B O M l;go_wp2_with fail;go_region
 all_goals
  go_wp2
  go_end0;exact⟨rfl,V _ (aV.drew _)⟩
def nV(a e:Int)(f i g:Option Addr)(c h j c1 b d:Nat)(w:aG):Calls prog 18 #[.agg #[Iv0 a,.slice f c c1,.slice i h b,.slice g j d,Iv0 e]] w fun l k=>l=aZ (Iv0 a)/\k=w.alloc (.cells #[Iv0 a,.slice f c c1,.slice i h b,.slice g j d,Iv0 e] 49):=by
 go_in
 go_wp2
 go_ret;exact⟨rfl,rfl⟩
def ME:Array Value:= #[Iv0 0,bF,bF,bF,Iv0 0]
def ba_(w:aG)(sb K0:Nat)(g:Int)(I:Nat->Nat->SV->Bool->World->Prop)(R:SV->Bool->World->Prop)
 (Z:Hid (Calls prog 28 #[.pointer (some (aH sb 5)),Iv0 g] (w.alloc (.cells ME 49)) fun e B=>∃v ok,e=aZ (.tuple #[SV.val v,.bool ok])/\I K0 B.heap.size v ok (B.alloc (.cells v.cells 49))))
 (D:Hid (∀gk b v ok W,I gk b v ok W->W.heap[b]?=some (.cells v.cells 49 (0,0))/\w.heap.size≠b/\W.heap[w.heap.size]?=some (.cells ME 49 (0,0))))
 (M:Hid (∀gk b v W,I gk b v true W->(v.t:Int)<g->∃j,gk=j+1/\Calls prog 29 #[bH sb,v.val] (W.alloc (.cells v.cells 49)) fun e B=>∃E ok,e=aZ (.tuple #[SV.val E,.bool ok])/\(∃c,B.heap[b]?=some (.cells c 49 (0,0))/\c.size=5)/\I j b E ok (eC B b E)))
 (O:Hid (∀gk b v W,I gk b v true W->g<=(v.t:Int)->R v true (eC (W.alloc (.cells v.cells 49)) w.heap.size v))) (o:Hid (∀gk b v W,I gk b v false W->R v false (eC W w.heap.size v))):
 Calls prog 14 #[bH sb,Iv0 g] w fun e B=>∃v ok,e=aZ (.tuple #[SV.val v,.bool ok])/\R v ok B:=by
 unfold ME at Z D;go_in
 go_wp2_with fail;refine Z.mono ?_;rintro e w1 ⟨v0,ae,rfl,h1⟩;have H1:=aB h1;unfold SV.cells at H1;unfold SV.val;clear h1 Z;go_wp2_with fail;go_loopg [7] K0 (fun gk s7 wr=>∃v ok,s7=.bool ok/\I gk w1.heap.size v ok wr)
 case atStart=>exact⟨_,_,rfl,H1⟩
 case round=>
  obtain⟨v,ok,rfl,F⟩:=hrel;obtain⟨d,ab,h⟩:=D _ _ _ _ _ F;unfold SV.cells at d;have u:=aA (i:=0) d rfl;have y:=aA (i:=1) d rfl;have t:=aA (i:=2) d rfl;have x:=aA (i:=3) d rfl;have z:=aA (i:=4) d rfl;have C:=aC d;have lz:=aC h;cases ok
  ·have T:=aA (i:=0) h rfl;have Y:=aA (i:=1) h rfl;have z2:=aA (i:=2) h rfl;have X:=aA (i:=3) h rfl;have Q:=aA (i:=4) h rfl;have N:=aD (i:=0) h;have L:=aD (i:=1) h;have J:=aD (i:=2) h;have P:=aD (i:=3) h;have K:=aD (i:=4) h;have A:=aB (jW (W:=wr) (s:=v) h (by simp) rfl)
   have q:=aB (o _ _ _ _ F);unfold eC at A q;clear F D M O o d h;go_wp2_with fail;have l:=A;have m:=q;clear A q T Y z2 X Q N L J P K u y t x z;generalize ((((wr.setCell (aH w.heap.size 0) (Iv0 v.t)).setCell (aH w.heap.size 1) (.slice v.x1 v.n1 v.c1)).setCell (aH w.heap.size 2) (.slice v.x2 v.n2 v.c2)).setCell (aH w.heap.size 3) (.slice v.x3 v.n3 v.c3)).setCell (aH w.heap.size 4) (Iv0 v.q)=W3 at l m ⊢
   obtain⟨c0,U,S,V,c4⟩:=l;exact bodyPost_ret (v:=.tuple #[v.val,.bool false]) (by simp[results,results14,go_sem,c0,U,S,V,c4,SV.val]) rfl ⟨_,_,rfl,m⟩
  ·have HT:=aB (nV v.t v.q v.x1 v.x2 v.x3 v.n1 v.n2 v.n3 v.c1 v.c2 v.c3 wr);have p:=aB F;clear F;go_wp2_with fail;refine HT.mono ?_;rintro e H ⟨rfl,rfl⟩;clear HT;by_cases hv:(v.t:Int)<g
   ·obtain⟨j,rfl,hN⟩:=M _ _ _ _ p hv;have r:=aB hN;unfold SV.cells SV.val at r;clear hN;generalize n:wr.alloc (.cells #[Iv0 v.t,.slice v.x1 v.n1 v.c1,.slice v.x2 v.n2 v.c2,.slice v.x3 v.n3 v.c3,Iv0 v.q] 49)=H at r ⊢
    have a:H.heap[w1.heap.size]?=some (.cells #[Iv0 v.t,.slice v.x1 v.n1 v.c1,.slice v.x2 v.n2 v.c2,.slice v.x3 v.n3 v.c3,Iv0 v.q] 49 (0,0)):=by rw[<-n,cq_ _ _ _ C];exact d
    clear u y t x z;have u:=aA (i:=0) a rfl;have y:=aA (i:=1) a rfl;have t:=aA (i:=2) a rfl;have x:=aA (i:=3) a rfl;have z:=aA (i:=4) a rfl;have G:=aC a;clear d a n p D M O o h;go_wp2_with fail;refine r.mono ?_;rintro e w6 ⟨E,ok,rfl,⟨c,k,ac⟩,h6⟩;have H6:=aB h6;unfold eC at H6;clear r u y t x z h6;have u:=aA (i:=0) k (cr_ (by omega))
    have y:=aA (i:=1) k (cr_ (by omega))
    have t:=aA (i:=2) k (cr_ (by omega))
    have x:=aA (i:=3) k (cr_ (by omega))
    have z:=aA (i:=4) k (cr_ (by omega))
    have N:=aD (i:=0) k;have L:=aD (i:=1) k;have J:=aD (i:=2) k;have P:=aD (i:=3) k;have K:=aD (i:=4) k;have aa:=aC k;clear k;go_wp2
    go_roundg j
    case measure=>omega
    case rel=>exact⟨E,ok,rfl,H6⟩
   ·have q:=aB (O _ _ _ _ p (by omega))
    have f:(wr.alloc (.cells v.cells 49)).heap[w.heap.size]?=some (.cells #[Iv0 0,bF,bF,bF,Iv0 0] 49 (0,0)):=by rw[cq_ _ _ _ lz];exact h
    have a:(wr.alloc (.cells v.cells 49)).heap[w1.heap.size]?=some (.cells #[Iv0 v.t,.slice v.x1 v.n1 v.c1,.slice v.x2 v.n2 v.c2,.slice v.x3 v.n3 v.c3,Iv0 v.q] 49 (0,0)):=by rw[cq_ _ _ _ C];exact d
    unfold SV.cells at q f a;generalize n:wr.alloc (.cells #[Iv0 v.t,.slice v.x1 v.n1 v.c1,.slice v.x2 v.n2 v.c2,.slice v.x3 v.n3 v.c3,Iv0 v.q] 49)=H at q f a ⊢
    clear u y t x z;have u:=aA (i:=0) a rfl;have y:=aA (i:=1) a rfl;have t:=aA (i:=2) a rfl;have x:=aA (i:=3) a rfl;have z:=aA (i:=4) a rfl;have G:=aC a;have ad:=aC f;have T:=aA (i:=0) f rfl;have Y:=aA (i:=1) f rfl;have z2:=aA (i:=2) f rfl;have X:=aA (i:=3) f rfl;have Q:=aA (i:=4) f rfl;have N:=aD (i:=0) f;have L:=aD (i:=1) f;have J:=aD (i:=2) f;have P:=aD (i:=3) f;have K:=aD (i:=4) f;have A:=aB (jW (W:=H) (s:=v) f (by simp) rfl)
    unfold eC at A q;clear D M O o p d h f a n;go_wp2_with fail;have l:=A;have m:=q;clear A q T Y z2 X Q N L J P K u y t x z;generalize ((((H.setCell (aH w.heap.size 0) (Iv0 v.t)).setCell (aH w.heap.size 1) (.slice v.x1 v.n1 v.c1)).setCell (aH w.heap.size 2) (.slice v.x2 v.n2 v.c2)).setCell (aH w.heap.size 3) (.slice v.x3 v.n3 v.c3)).setCell (aH w.heap.size 4) (Iv0 v.q)=W3 at l m ⊢
    obtain⟨c0,U,S,V,c4⟩:=l;exact bodyPost_ret (v:=.tuple #[v.val,.bool true]) (by simp[results,results14,go_sem,c0,U,S,V,c4,SV.val]) rfl ⟨_,_,rfl,m⟩
end Go.Proofs.YtmjbnmpamlainaaGreatDoor
