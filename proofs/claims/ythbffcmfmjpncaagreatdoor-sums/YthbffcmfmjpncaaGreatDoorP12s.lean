/- Contracts of the program: a fault is caught, whatever is done (2 variables are shared with it). -/
import Derived.Test.YthbffcmfmjpncaaGreatDoorP11s
set_option linter.defProp false
set_option maxRecDepth 100000
set_option maxHeartbeats 4000000
namespace Go.Proofs.YthbffcmfmjpncaaGreatDoor
open Hs
open _root_.Go.Proofs.Tryz
open Instr(typeAssert)
open Go.RowKit
variable{fs:List aC}{d:Nat}{F G:Nat->Prop}{fp:Nat->Value}{v:Value}{W w w':World}
def pO(a:Nat)(p q:Option Addr)(w:World)(Q:World->Prop)(E:Nat->Nat->Prop)
 (c:∀W,(callFunc a #[.pointer p,.pointer q]).run prog W=.ok (.enter a #[.pointer p,.pointer q]) W)
 (x:∀o,o=(w.alloc (.cells #[.int .i64 0] 22)).alloc (.cells #[.int .i64 0] 3)->Calls prog a #[.pointer p,.pointer q] o λe w'=>
   (e=.returned (.tuple #[])/\w'.heap[w.heap.size]?=some (.cells #[.int .i64 0] 22 (0,0))/\w'.heap[w.heap.size+1]?=some (.cells #[.int .i64 0] 3 (0,0))/\Q w')\/
   ∃k n,k≠0/\e=.panicked [{ v:=.iface 98 (.agg #[.int .i64 (k:Nat),.int .i64 (n:Nat)]),recovered:=false }]/\Below o.heap.size o w'/\E k n):
 Calls prog 22 #[.func (.func a) #[] #[.pointer p,.pointer q]] w λe w'=>
  (e=.returned (.tuple #[.int .i64 0,.int .i64 0])/\∃d,Q d/\w'=(d.setCell ⟨w.heap.size,0,none⟩ (.int .i64 0)).setCell ⟨w.heap.size+1,0,none⟩ (.int .i64 0))\/
  ∃k n,k≠0/\e=.returned (.tuple #[.int .i64 (k:Nat),.int .i64 (n:Nat)])/\Below w.heap.size w w'/\E k n:=by
 have D:=zB;have m:Below w.heap.size w ((w.alloc (.cells #[.int .i64 0] 22)).alloc (.cells #[.int .i64 0] 3)):=((F9 _ w).alloc (F6 _) _).alloc s_ _
 have A:=aB (x _ rfl);have I:=c ((w.alloc (.cells #[.int .i64 0] 22)).alloc (.cells #[.int .i64 0] 3));clear x c;go_enter_defers func22,ntmps22
 go_wp2_with fail;refine A.out.mono ?_;rintro e d (⟨rfl,l,g,y⟩|⟨k,n,z,rfl,b,B⟩)
 ·have F:=aB y;clear y;have r:=jU l (i:=0) rfl;have s:=jU g (i:=0) rfl;have K:=nI (i:=0) l;have L:=nI (i:=0) g;have M:=pL l;have N:=pL g;go_wp2_with fail;refine leaves_cons (f:=41) (args:= #[.pointer (some ⟨w.heap.size,0,none⟩),.pointer (some ⟨w.heap.size+1,0,none⟩)]) s_ (by simp[go_sem]) ?_
  refine(OP ⟨w.heap.size,0,none⟩ ⟨w.heap.size+1,0,none⟩ _).mono ?_;rintro e H J ⟨rfl,rfl,rfl⟩;simp[Leaves,settle,results,results22,go_sem,r,s];exact F7 ⟨d,F.out,rfl⟩
 ·have l:d.heap[w.heap.size]?=some (.cells #[.int .i64 0] 22 (0,0)):=by rw[b.block _ t_];exact jF _ _ _
  have g:d.heap[w.heap.size+1]?=some (.cells #[.int .i64 0] 3 (0,0)):=by rw[b.block _ s_];exact iC _ _ _
  have G:Below w.heap.size w d:=m.trans (b.mono t_)
  have C:=aB (I8 z B);clear b m A B z;go_wp2_with fail;refine leaves_cons (f:=41) (args:= #[.pointer (some ⟨w.heap.size,0,none⟩),.pointer (some ⟨w.heap.size+1,0,none⟩)]) s_ (by simp[go_sem]) ?_
  refine(KU w.heap.size (w.heap.size+1) k n [] _ l g (J4 _)).mono ?_;rintro e H o ⟨rfl,rfl,u,r,s⟩;have t:=G.trans u;simp[Leaves,settle,results,results22,go_sem,r,s];obtain⟨j,rfl⟩:∃j,k=j+1:=⟨k-1,by have:=C.out.1;omega⟩
  exact F5 ⟨j,n,⟨s_,rfl⟩,t,C.out.2⟩
def LB(fp:Nat->Value)(F:Nat->Prop)(w:World)(xs:List Value)(code:List (Option aJ)):Prop:=
 xs.length=code.length/\∀(i:Nat) o,code[i]?=some o->∃u,xs[i]?=some u/\(match o with|none=>u=.nilIface|some i=>iX fp F w u i)
def LB.keep{xs:List Value}{a:List (Option aJ)}(h:LB fp F w xs a)(d:∀b,F b->w'.heap[b]?=w.heap[b]?)(g:∀b,F b->G b):LB fp G w' xs a:=
 ⟨h.1,λi o e=>by
   obtain⟨u,f,c⟩:=h.2 i o e;refine⟨u,f,?_⟩;cases o with
   |none=>exact c
   |some j=>exact iX.keep c d g⟩
def EI(fp:Nat->Value)(fb:Nat->Nat)(nms:List (List UInt8))(F:Nat->Prop)(w:World)(fv:Value):Prop:=
 (nms=[]/\fv=.slice none 0 0)\/∃g cap,fv=.slice (some ⟨g,0,none⟩) nms.length cap/\F g/\nms.length<=cap/\g<w.heap.size/\∀k (h:k<nms.length),w.cell? ⟨g,k,none⟩=some (fp k)/\fp k=.pointer (some ⟨fb k,0,none⟩)/\F (fb k)/\∃x,w.heap[fb k]?=some (.cells #[.string (bs nms[k]),x] 174 (0,0))
def EI.keep{fb:Nat->Nat}{a:List (List UInt8)}{l:Value}(h:EI fp fb a F w l)(f:∀b,F b->w'.heap[b]?=w.heap[b]?)(i:∀b,F b->G b)(r:w.heap.size<=w'.heap.size):EI fp fb a G w' l:=by
 rcases h with h|⟨g,d,n,e,q,m,o⟩
 ·exact F7 h
 ·refine F5 ⟨g,d,n,i g e,q,G3 m r,λk c=>?_⟩
  obtain⟨s,p,j,x,t⟩:=o k c;exact⟨by rw[World.cell?_of_block (f g e)];exact s,p,i _ j,x,by rw[f _ j];exact t⟩
structure CP(fp:Nat->Value)(fb:Nat->Nat)(nms:List (List UInt8))(cb:Nat)(F:Nat->Prop)(w:World)(code:List (Option aJ))(e_:List (List UInt8)):Prop where
 blk:∃fv cv sp,w.heap[cb]?=some (.cells #[fv,cv,sp] 193 (0,0))/\(∃xs,w.ownsRow (cb+1) 247 1 cv code.length xs/\LB fp F w xs code)/\eS F w sp e_/\EI fp fb nms F w fv
 fix:∀k,F k->k<w.heap.size/\k≠cb/\jR cb w≠some k
section
variable {fp:Nat->Value} {fb:Nat->Nat} {nms:List (List UInt8)} {cb:Nat} {F:Nat->Prop} {w w':World} {code:List (Option aJ)} {e_:List (List UInt8)}
def CP.lt(h:CP fp fb nms cb F w code e_):cb<w.heap.size:=by
 obtain⟨_,_,_,a,_⟩:=h.blk;exact aD a
def iQ{a v1 v2:Value}(h:w.heap[cb]?=some (.cells #[a,v1,v2] 193 (0,0))):jR cb w=v1.ownBlock:=by unfold jR;rw[h];rfl
def CP.grow(h:CP fp fb nms cb F w code e_)(a:Below w.heap.size w w'):CP fp fb nms cb F w' code e_:=by
 have c:=h.lt;obtain⟨t,i,f,m,⟨p,g,q⟩,l,n⟩:=h.blk;have d:∀b,F b->w'.heap[b]?=w.heap[b]?:=λb e=>a.block b (h.fix b e).1
 refine⟨⟨t,i,f,by rw[a.block _ c];exact m,⟨p,gG g a,q.keep d λ_ h=>h⟩,eS.keep d (λ_ h=>h) l,n.keep d (λ_ h=>h) a.size⟩,λk j=>?_⟩
 obtain⟨r,o,s⟩:=h.fix k j;exact⟨G3 r a.size,o,by rw[mS (a.block cb c)];exact s⟩
def CP.new(h:CP fp fb nms cb F w code e_)(o:Obj):Loc cb w w.heap.size o (w.alloc o)/\CP fp fb nms cb F (w.alloc o) code e_:=by
 have a:=h.lt;have b:Below w.heap.size w (w.alloc o):=(F9 _ _).alloc (F6 _) _;refine⟨⟨FB.of_below b a,aU _ _ rfl _,λe=>?_,o_⟩,h.grow b⟩
 obtain⟨i,j,f,d,⟨g,c,_⟩,_⟩:=h.blk;rw[mS (b.block cb a),iQ d] at e;have:=cK c _ e;omega
def YV:(prog.info? 247).map (λi=>(i.zero,i.size,i.bytes))=some (some .nilIface,1,16):=k_
def WC(w:World)(u:Value):∀j v,([u]:List Value)[j]?=some v->(w.alloc (.cells #[u] 247)).cell? ((⟨w.heap.size,0,none⟩:Addr).add j)=some v:=by
 intro j v a;match j,a with
 |0,a=>simp at a;subst a;simp[Addr.add,go_sem]
 |j+1,a=>simp at a
def B8(fp:Nat->Value)(F:Nat->Prop)(w:World)(u:Value):Option aJ->Prop
 |none=>u=.nilIface
 |some i=>iX fp F w u i
def B8.one{u:Value}{o:Option aJ}(h:B8 fp F w u o):u.oneCell'=true/\(u=.nilIface\/∃t z,u=.iface t z):=by
 cases o with
 |none=>rw[show u=.nilIface from h];exact⟨rfl,F7 rfl⟩
 |some i=>obtain⟨t,z,rfl⟩:=iX.form h;exact⟨rfl,F5 ⟨t,z,rfl⟩⟩
def TU(cb n:Nat)(C P A u:Value)(xs:List Value)(w:World)(f:w.heap[cb]?=some (.cells #[C,P,A] 193 (0,0)))(g:w.ownsRow (cb+1) 247 1 P n xs)(q:u.oneCell'=true)(Y:u=.nilIface\/∃t z,u=.iface t z)(hn:n<=1000000):
 Calls prog 150 #[.pointer (some ⟨cb,0,none⟩),u] w λe w'=>e=.returned (.int .i64 n)/\∃j,w'.heap[cb]?=some (.cells #[C,j,A] 193 (0,0))/\w'.ownsRow (cb+1) 247 1 j (n+1) (xs++[u])/\FB cb w w':=by
 obtain⟨X,Z,E,H,J⟩:=info_parts YV;obtain⟨x,c,rfl⟩:=dV g;have M:=aD f;have c1:w.cell? ⟨cb,1,none⟩=some (.slice x n c):=aA f rfl;have K:=aB g;have G:=aB f;have m:∀v∈([u]:List Value),v.oneCell'=true:=λv S=>by simp at S;rw[S];exact q
 have HONE:=aB m;clear g f m q
 have r:∀p:Value,u=p->(p=.nilIface\/∃t z,p=.iface t z)->Calls prog 150 #[.pointer (some ⟨cb,0,none⟩),p] w λe w'=>e=.returned (.int .i64 n)/\∃j,w'.heap[cb]?=some (.cells #[C,j,A] 193 (0,0))/\w'.ownsRow (cb+1) 247 1 j (n+1) (xs++[p])/\FB cb w w':=by
  intro p e I;subst e;rcases I with rfl|⟨t,z,rfl⟩
  all_goals
   go_enter func150,ntmps150;go_wp2_with (at_builtin;refine wpList_append_lies _ r_ _ _ 172 r_ (cb+1) 247 X _ 1 16 underlying172 Z E H J rfl d_ (.slice x n c) n xs r_ (K.out.alloc _) ⟨w.heap.size,0,none⟩ 1 1 [_] r_ r_ (WC w _) HONE.out d_ (by unfold maxLen;omega) o_ t_ (w.heap.size+1) s_ ?_)
   intro B s N d b l V;have D:some cb≠(Value.slice x n c).ownBlock:=λe=>by have:=(K.out.lt cb e.symm).1;omega
   have a:N.heap[cb]?=some (.cells #[C,.slice x n c,A] 193 (0,0)):=by
    rw[b.block cb t_ D,G7 _ _ _ M];exact G.out
   have U:N.cell? ⟨cb,1,none⟩=some (.slice x n c):=aA a rfl;have aa:=aE a (i:=1);have T:=aD a
   have L:B≠cb:=by
    have:=(d.lt B rfl).1;omega
   have HOWN:=aB d;have Q:=aB b;have F:=aB l;have y:=aB a;clear d b l a;go_wp2_with fail;go_ret;refine⟨by go_num,.slice (some ⟨B,0,none⟩) (n+1) s,aO y.out,bB HOWN.out λk o=>G0 _ _ _ _ (by cases o;exact L),⟨?_,λk o W O=>?_,λk o=>?_⟩⟩
   ·exact(((F9 cb w).alloc o_ _).grown Q.out t_ (λk o=>by have:=(K.out.lt k o).1;omega)).setCell (by exact F6 cb) _
   ·rw[iQ G.out] at O;rw[G0 _ _ _ _ W,Q.out.block k t_ (λe=>O e.symm),G7 _ _ _ o]
   ·rw[iQ (aO y.out),iQ G.out] at*;cases o;rcases F.out with h|h
    ·exact F7 h
    ·exact F5 (by show w.heap.size<=B;omega)
 exact r u rfl Y
def CP.step{a:List (Option aJ)}{l b g:Value}{xs':List Value}(h:CP fp fb nms cb F w code e_)(c:FB cb w w')(f:w'.heap[cb]?=some (.cells #[l,b,g] 193 (0,0)))(d:w'.ownsRow (cb+1) 247 1 b a.length xs')(r:LB fp F w' xs' a)(j:eS F w' g e_)(i:EI fp fb nms F w' l):CP fp fb nms cb F w' a e_:=
 ⟨⟨l,b,g,f,⟨xs',d,r⟩,j,i⟩,λk n=>by
   obtain⟨p,o,q⟩:=h.fix k n;refine⟨G3 p c.bel.size,o,λe=>?_⟩
   rcases c.row k e with m|m
   ·exact q m
   ·omega⟩
def CP.fixed(h:CP fp fb nms cb F w code e_)(a:FB cb w w'):∀b,F b->w'.heap[b]?=w.heap[b]?:=λb e=>by
 obtain⟨c,f,d⟩:=h.fix b e;exact a.blk b c f d
def zQ{u:Value}{o:Option aJ}(h:CP fp fb nms cb F w code e_)(k:B8 fp F w u o)(D:code.length<=1000000):
 Calls prog 150 #[.pointer (some ⟨cb,0,none⟩),u] w λe w'=>e=.returned (.int .i64 code.length)/\CP fp fb nms cb F w' (code++[o]) e_/\FB cb w w':=by
 obtain⟨H,p,m,s,⟨A,n,c⟩,q,t⟩:=h.blk;obtain⟨z,v⟩:=k.one;refine(TU cb code.length H p m u A w s n z v D).mono ?_;rintro e w' ⟨G,B,r,I,f⟩;have g:=h.fixed f;refine⟨G,h.step f r (by rw[F8];exact I) ?_ (eS.keep g (λ_ h=>h) q) (t.keep g (λ_ h=>h) f.bel.size),f⟩
 have l:=c.keep g λ_ h=>h
 refine⟨by simp[c.1],λi C a=>?_⟩
 rcases J8 i code.length with d|d
 ·rw[J7 d] at a;obtain⟨y,E,x⟩:=l.2 i C a;exact⟨y,by rw[J7 (by rw[c.1];exact d)];exact E,x⟩
 ·rw[I3 d] at a
  have b:i-code.length=0:=by
   have:=(K6.1 a).1;simp at this;omega
  rw[b] at a;simp at a;subst a;refine⟨u,by rw[I3 (by rw[c.1];exact d),c.1,b];rfl,?_⟩
  cases o with
  |none=>exact k
  |some j=>exact iX.keep k g λ_ h=>h
def WY(h:CP fp fb nms cb F w code e_)(j:e_.length<=1000000):
 Calls prog 200 #[.pointer (some ⟨cb,0,none⟩)] w λe w'=>e=.returned (.int .i64 e_.length)/\w'=w:=by
 obtain⟨r,m,f,c, -,g, -⟩:=h.blk;have q:=aD c;have p:w.cell? ⟨cb,2,none⟩=some f:=aA c rfl;cases e_ with
 |nil=>
  obtain rfl:f=.pointer none:=g;clear h c;go_enter func200,ntmps200;go_wp2_with fail;go_ret;exact⟨rfl,rfl⟩
 |cons x l=>
  obtain⟨b,o,rfl,k,a,d⟩:=g;have n:w.cell? ⟨b,1,none⟩=some (.int .i64 l.length):=aA a rfl;have i:=aD a;simp only[G1] at j;clear h c a d;go_enter func200,ntmps200;go_wp2_with fail;go_ret;exact⟨by go_num,rfl⟩
end
section
variable {fp:Nat->Value} {fb:Nat->Nat} {nms:List (List UInt8)} {cb:Nat} {F:Nat->Prop} {w w':World} {code:List (Option aJ)} {e_:List (List UInt8)}
def VM(w:World)(cb n:Nat)(x:List UInt8)(p:Option Addr)(f:cb<w.heap.size)(b:w.cell? ⟨cb,2,none⟩=some (.pointer p))(c:w.frozen? ⟨cb,2,none⟩=false)
 (a:Hid (Calls prog 200 #[.pointer (some ⟨cb,0,none⟩)] w.drew λe w'=>e=.returned (.int .i64 n)/\w'=w.drew)):
 Calls prog 148 #[.pointer (some ⟨cb,0,none⟩),.string (bs x)] w λe w'=>e=.returned (.tuple #[])/\bV ((w.setCell ⟨cb,2,none⟩ (.pointer (some ⟨w.heap.size,0,none⟩))).alloc (.cells #[.string (bs x),.int .i64 n,.pointer p] 177)) w':=by
 go_enter func148,ntmps148;go_wp2_with fail;go_region_law (go_simp;go_at_call 200;refine a.out.mono ?_;rintro e d ⟨rfl,rfl⟩)
 all_goals
  go_wp2_with fail;go_end0;exact⟨rfl,bV.drew _⟩
def bV.block{W a:World}(h:bV W a)(k:Nat):a.heap[k]?=W.heap[k]?:=by rw[h.heap]
def YM(x:List UInt8)(h:CP fp fb nms cb F w code e_)(D:e_.length<=1000000):
 Calls prog 148 #[.pointer (some ⟨cb,0,none⟩),.string (bs x)] w λe w'=>e=.returned (.tuple #[])/\CP fp fb nms cb (λk=>F k\/k=w.heap.size) w' code (x::e_)/\FB cb w w':=by
 have m:=h.lt;obtain⟨u,q,H,c,⟨B,j,C⟩,t,y⟩:=h.blk;obtain⟨p,rfl⟩:=t.form;have v:CP fp fb nms cb F w.drew code e_:=h.grow (bV.drew w).below;refine(VM w cb e_.length x p m (aA c rfl) (aE c) (WY v D)).mono ?_;rintro e w' ⟨G,d⟩;generalize g:(w.setCell ⟨cb,2,none⟩ (.pointer (some ⟨w.heap.size,0,none⟩))).alloc (.cells #[.string (bs x),.int .i64 e_.length,.pointer p] 177)=W at d
 have o:∀k,k<w.heap.size->k≠cb->w'.heap[k]?=w.heap[k]?:=λk c j=>by
  rw[d.heap,<-g,G7 _ _ _ (by simpa using c),G0 _ _ _ _ j]
 have l:w'.heap[cb]?=some (.cells #[u,q,.pointer (some ⟨w.heap.size,0,none⟩)] 193 (0,0)):=by
  rw[d.heap,<-g,G7 _ _ _ (by simpa using m)];exact aO c
 have n:w'.heap[w.heap.size]?=some (.cells #[.string (bs x),.int .i64 e_.length,.pointer p] 177 (0,0)):=by
  rw[d.heap,<-g];exact aU _ _ s_ _
 have A:w'.heap.size=w.heap.size+1:=by rw[d.heap,<-g];simp
 have f:jR cb w'=jR cb w:=by rw[iQ l,iQ c]
 have r:∀b,F b->w'.heap[b]?=w.heap[b]?:=λb s=>o b (h.fix b s).1 (h.fix b s).2.1
 have i:=λk (e:q.ownBlock=some k)=>j.lt k e
 refine⟨G,⟨⟨u,q,_,l,⟨B,bB j λk e=>o k (i k e).2 (by have:=(i k e).1;omega),C.keep r λ_ h=>F7 h⟩,⟨w.heap.size,.pointer p,rfl,F5 rfl,n,eS.keep r (λ_ h=>F7 h) t⟩,y.keep r (λ_ h=>F7 h) o_⟩,λk a=>?_⟩,⟨?_,λk c j _=>o k c j,λk e=>F7 (by rw[<-f];exact e)⟩⟩
 ·rcases a with a|rfl
  ·obtain⟨I,z,E⟩:=h.fix k a;exact⟨o_,z,by rw[f];exact E⟩
  ·refine⟨o_,o_,λe=>?_⟩
   rw[f,iQ c] at e;have:=(i _ e).2;omega
 ·refine⟨by rw[d.os,<-g];rfl,by rw[d.tape,<-g];rfl,by rw[d.output,<-g];rfl,o_,λk a=>o k o_ o_⟩
def VE{x y:List UInt8}{l:List (List UInt8)}(h:y∈x::l)(a:x≠y):y∈l/\eG (x::l) y=eG l y:=by
 refine⟨?_,by rw[eG,if_neg a]⟩
 rcases G9.1 h with e|e
 ·exact absurd e.symm a
 ·exact e
def VF(a:List UInt8)(h:CP fp fb nms cb F w code e_)(r:a∈e_)(_hn:e_.length<=1000000):
 Calls prog 207 #[.pointer (some ⟨cb,0,none⟩),.string (bs a)] w λe w'=>e=.returned (.int .i64 (eG e_ a))/\w'=w:=by
 obtain⟨L,G,n,j, -,i, -⟩:=h.blk;have K:=aD j;have I:w.cell? ⟨cb,2,none⟩=some n:=aA j rfl;have q:Hid (eS F w n e_/\a∈e_):=⟨i,r⟩;obtain⟨p,rfl⟩:=i.form;clear h j i r;go_enter func207,ntmps207;go_wp2_with fail;go_loopg [5] e_.length (λgk v wr=>∃l,l.length=gk/\eS F w v l/\a∈l/\eG l a=eG e_ a/\wr=w)
 case atStart=>exact⟨e_,rfl,q.out.1,q.out.2,rfl,rfl⟩
 case round=>
  obtain⟨l,k,B,f,d,rfl⟩:=hrel;cases l with
  |nil=>cases f
  |cons x l=>
   obtain⟨b,o,rfl,E,c,g⟩:=B;obtain⟨s,rfl⟩:=g.form;have J:wr.cell? ⟨b,0,none⟩=some (.string (bs x)):=aA c rfl;have H:wr.cell? ⟨b,1,none⟩=some (.int .i64 l.length):=aA c rfl;have D:wr.cell? ⟨b,2,none⟩=some (.pointer s):=aA c rfl;have t:=aD c;by_cases m:x=a
   ·subst m;have z:eG (x::l) x=l.length:=by rw[eG,if_pos rfl]
    rw[z] at d;clear c g f;go_wp2_with fail;go_ret;exact⟨by rw[<-d];rfl,rfl⟩
   ·obtain⟨y,C⟩:=VE f m;have u:((bs x).toList==(bs a).toList)=false:=by rw[bT,bT];simpa using m
    have A:Hid (eS F wr (.pointer s) l):=g;rw[C] at d;clear c g f;go_wp2_with fail;go_roundg l.length
    case measure=>simp at k;omega
    case rel=>exact⟨l,rfl,A.out,y,d,rfl⟩
def CB(a:List UInt8)(h:CP fp fb nms cb F w code e_)(v:a∈nms)(N:nms.length<=1000000):
 Calls prog 103 #[.pointer (some ⟨cb,0,none⟩),.string (bs a)] w λe w'=>e=.returned (fp (nms.findIdx λx=>x==a))/\w'=w:=by
 obtain⟨S,K,I,p, -, -,B⟩:=h.blk;rcases B with ⟨rfl,_⟩|⟨g,q,rfl,G,t,H,b⟩
 ·cases v
 have M:=aD p;have L:w.cell? ⟨cb,0,none⟩=some (.slice (some ⟨g,0,none⟩) nms.length q):=aA p rfl;have u:=aB b;clear h p b;go_enter func103,ntmps103;go_wp2_with fail;go_loopg [6,12] nms.length (λgk _ i wr=>∃j:Nat,j+gk=nms.length/\i=.int .i64 j/\j<=nms.findIdx (λx=>x==a)/\wr=w)
 case atStart=>exact⟨0,o_,rfl,K5 _,rfl⟩
 case round=>
  obtain⟨j,Q,rfl,f,rfl⟩:=hrel;have s:nms.findIdx (λx=>x==a)<nms.length:=List.findIdx_lt_length_of_exists ⟨a,v,s_⟩
  have o:j<nms.length:=o_
  obtain⟨m,rfl⟩:∃m,gk=m+1:=⟨gk-1,o_⟩
  obtain⟨E,k,P,x,n⟩:=u.out j o;rw[k] at E;have D:wr.cell? ⟨fb j,0,none⟩=some (.string (bs nms[j])):=aA n rfl;have z:=aD n;have O:(0:Int)<=(j:Int):=o_
  have J:(j:Int)<(nms.length:Int):=o_
  by_cases l:nms[j]=a
  ·have r:nms.findIdx (λx=>x==a)=j:=by
    refine Nat.le_antisymm (Nat.not_lt.1 λc=>?_) f
    have:=List.not_of_lt_findIdx c;simp[l] at this
   have C:=aB k;rw[l] at D;clear n k u;go_wp2_with fail;go_ret;exact⟨by rw[r,C.out];rfl,rfl⟩
  ·have A:((bs nms[j]).toList==(bs a).toList)=false:=by rw[bT,bT];simpa using l
   have d:j+1<=nms.findIdx (λx=>x==a):=by
    rcases M3 f with e|e
    ·have:=O4 (w:=s);simp only[<-e] at this;simp at this;exact absurd this l
    ·exact e
   generalize nms[j]=y at*;clear n k;go_wp2_with fail;go_roundg m
   case measure=>omega
   case rel=>exact⟨j+1,o_,by go_num,d,rfl⟩
end
section
variable(v:Value)(w:World)
def uN:(typeAssert (.iface 307 v) 92 307 true).run prog w=.ok (.tuple #[v,.bool true]) w:=k_
def uM:(typeAssert (.iface 308 v) 92 307 true).run prog w=.ok (.tuple #[.agg #[.int .i64 0,.int .i64 0],.bool false]) w:=k_
def uL:(typeAssert (.iface 308 v) 92 308 true).run prog w=.ok (.tuple #[v,.bool true]) w:=k_
def AA:(typeAssert (.iface 310 v) 92 307 true).run prog w=.ok (.tuple #[.agg #[.int .i64 0,.int .i64 0],.bool false]) w:=k_
def zZ:(typeAssert (.iface 310 v) 92 308 true).run prog w=.ok (.tuple #[.agg #[.int .i64 0,.string ⟨#[]⟩],.bool false]) w:=k_
def GF:(typeAssert (.iface 310 v) 92 310 true).run prog w=.ok (.tuple #[v,.bool true]) w:=k_
def rV:(typeAssert (.iface 274 v) 92 307 true).run prog w=.ok (.tuple #[.agg #[.int .i64 0,.int .i64 0],.bool false]) w:=k_
def rT:(typeAssert (.iface 274 v) 92 308 true).run prog w=.ok (.tuple #[.agg #[.int .i64 0,.string ⟨#[]⟩],.bool false]) w:=k_
def uK:(typeAssert (.iface 274 v) 92 310 true).run prog w=.ok (.tuple #[.agg #[.int .i64 0,.bool false],.bool false]) w:=k_
def pQ:(typeAssert (.iface 274 v) 92 274 true).run prog w=.ok (.tuple #[v,.bool true]) w:=k_
def zU:(typeAssert (.iface 276 v) 92 307 true).run prog w=.ok (.tuple #[.agg #[.int .i64 0,.int .i64 0],.bool false]) w:=k_
def zT:(typeAssert (.iface 276 v) 92 308 true).run prog w=.ok (.tuple #[.agg #[.int .i64 0,.string ⟨#[]⟩],.bool false]) w:=k_
def GB:(typeAssert (.iface 276 v) 92 310 true).run prog w=.ok (.tuple #[.agg #[.int .i64 0,.bool false],.bool false]) w:=k_
def uO:(typeAssert (.iface 276 v) 92 274 true).run prog w=.ok (.tuple #[.agg #[.int .i64 0,.string ⟨#[]⟩],.bool false]) w:=k_
def GA:(typeAssert (.iface 276 v) 92 276 true).run prog w=.ok (.tuple #[v,.bool true]) w:=k_
def wV:(typeAssert (.iface 278 v) 92 307 true).run prog w=.ok (.tuple #[.agg #[.int .i64 0,.int .i64 0],.bool false]) w:=k_
def wU:(typeAssert (.iface 278 v) 92 308 true).run prog w=.ok (.tuple #[.agg #[.int .i64 0,.string ⟨#[]⟩],.bool false]) w:=k_
def BR:(typeAssert (.iface 278 v) 92 310 true).run prog w=.ok (.tuple #[.agg #[.int .i64 0,.bool false],.bool false]) w:=k_
def tG:(typeAssert (.iface 278 v) 92 274 true).run prog w=.ok (.tuple #[.agg #[.int .i64 0,.string ⟨#[]⟩],.bool false]) w:=k_
def BQ:(typeAssert (.iface 278 v) 92 276 true).run prog w=.ok (.tuple #[.agg #[.int .i64 0,.slice none 0 0],.bool false]) w:=k_
def zV:(typeAssert (.iface 278 v) 92 278 true).run prog w=.ok (.tuple #[v,.bool true]) w:=k_
def wT:(typeAssert (.iface 280 v) 92 307 true).run prog w=.ok (.tuple #[.agg #[.int .i64 0,.int .i64 0],.bool false]) w:=k_
def wS:(typeAssert (.iface 280 v) 92 308 true).run prog w=.ok (.tuple #[.agg #[.int .i64 0,.string ⟨#[]⟩],.bool false]) w:=k_
def BP:(typeAssert (.iface 280 v) 92 310 true).run prog w=.ok (.tuple #[.agg #[.int .i64 0,.bool false],.bool false]) w:=k_
def tF:(typeAssert (.iface 280 v) 92 274 true).run prog w=.ok (.tuple #[.agg #[.int .i64 0,.string ⟨#[]⟩],.bool false]) w:=k_
def BO:(typeAssert (.iface 280 v) 92 276 true).run prog w=.ok (.tuple #[.agg #[.int .i64 0,.slice none 0 0],.bool false]) w:=k_
def zS:(typeAssert (.iface 280 v) 92 278 true).run prog w=.ok (.tuple #[.agg #[.int .i64 0,.nilIface,.nilIface],.bool false]) w:=k_
def zR:(typeAssert (.iface 280 v) 92 280 true).run prog w=.ok (.tuple #[v,.bool true]) w:=k_
def uR:(typeAssert (.iface 282 v) 92 307 true).run prog w=.ok (.tuple #[.agg #[.int .i64 0,.int .i64 0],.bool false]) w:=k_
def uQ:(typeAssert (.iface 282 v) 92 308 true).run prog w=.ok (.tuple #[.agg #[.int .i64 0,.string ⟨#[]⟩],.bool false]) w:=k_
def AC:(typeAssert (.iface 282 v) 92 310 true).run prog w=.ok (.tuple #[.agg #[.int .i64 0,.bool false],.bool false]) w:=k_
def rW:(typeAssert (.iface 282 v) 92 274 true).run prog w=.ok (.tuple #[.agg #[.int .i64 0,.string ⟨#[]⟩],.bool false]) w:=k_
def AB:(typeAssert (.iface 282 v) 92 276 true).run prog w=.ok (.tuple #[.agg #[.int .i64 0,.slice none 0 0],.bool false]) w:=k_
def wX:(typeAssert (.iface 282 v) 92 278 true).run prog w=.ok (.tuple #[.agg #[.int .i64 0,.nilIface,.nilIface],.bool false]) w:=k_
def wW:(typeAssert (.iface 282 v) 92 280 true).run prog w=.ok (.tuple #[.agg #[.int .i64 0,.string ⟨#[]⟩,.nilIface],.bool false]) w:=k_
def uS:(typeAssert (.iface 282 v) 92 282 true).run prog w=.ok (.tuple #[v,.bool true]) w:=k_
def zX:(typeAssert (.iface 271 v) 92 307 true).run prog w=.ok (.tuple #[.agg #[.int .i64 0,.int .i64 0],.bool false]) w:=k_
def zW:(typeAssert (.iface 271 v) 92 308 true).run prog w=.ok (.tuple #[.agg #[.int .i64 0,.string ⟨#[]⟩],.bool false]) w:=k_
def GE:(typeAssert (.iface 271 v) 92 310 true).run prog w=.ok (.tuple #[.agg #[.int .i64 0,.bool false],.bool false]) w:=k_
def uP:(typeAssert (.iface 271 v) 92 274 true).run prog w=.ok (.tuple #[.agg #[.int .i64 0,.string ⟨#[]⟩],.bool false]) w:=k_
def GC:(typeAssert (.iface 271 v) 92 276 true).run prog w=.ok (.tuple #[.agg #[.int .i64 0,.slice none 0 0],.bool false]) w:=k_
def BU:(typeAssert (.iface 271 v) 92 278 true).run prog w=.ok (.tuple #[.agg #[.int .i64 0,.nilIface,.nilIface],.bool false]) w:=k_
def BS:(typeAssert (.iface 271 v) 92 280 true).run prog w=.ok (.tuple #[.agg #[.int .i64 0,.string ⟨#[]⟩,.nilIface],.bool false]) w:=k_
def zY:(typeAssert (.iface 271 v) 92 282 true).run prog w=.ok (.tuple #[.agg #[.int .i64 0,.string ⟨#[]⟩,.nilIface,.nilIface],.bool false]) w:=k_
def GD:(typeAssert (.iface 271 v) 92 271 true).run prog w=.ok (.tuple #[v,.bool true]) w:=k_
end
def BN(w:World)(cb:Nat)(l k:Int)(P:World->Prop)
 (b:Hid (Calls prog 150 #[.pointer (some ⟨cb,0,none⟩),.iface 242 (.agg #[.iface 229 (.int .i64 k)])] (w.alloc (.cells #[.int .i64 l,.int .i64 k] 307)) λe w'=>(∃k:Nat,e=.returned (.int .i64 k))/\P w')):
 Calls prog 164 #[.pointer (some ⟨cb,0,none⟩),.iface 307 (.agg #[.int .i64 l,.int .i64 k])] w λe w'=>e=.returned (.tuple #[])/\P w':=by
 have d:=uN;go_enter func164,ntmps164;go_wp2_with fail;refine b.out.mono ?_;rintro e c ⟨⟨m,rfl⟩,a⟩;go_wp2_with fail;go_end0;exact⟨rfl,a⟩
def BM(w:World)(cb:Nat)(l:Int)(s:ByteArray)(P:World->Prop)
 (b:Hid (Calls prog 150 #[.pointer (some ⟨cb,0,none⟩),.iface 242 (.agg #[.iface 232 (.string s)])] (w.alloc (.cells #[.int .i64 l,.string s] 308)) λe w'=>(∃k:Nat,e=.returned (.int .i64 k))/\P w')):
 Calls prog 164 #[.pointer (some ⟨cb,0,none⟩),.iface 308 (.agg #[.int .i64 l,.string s])] w λe w'=>e=.returned (.tuple #[])/\P w':=by
 have d:=uM;have f:=uL;go_enter func164,ntmps164;go_wp2_with fail;refine b.out.mono ?_;rintro e c ⟨⟨m,rfl⟩,a⟩;go_wp2_with fail;go_end0;exact⟨rfl,a⟩
def KB(w:World)(cb:Nat)(l:Int)(b:Bool)(P:World->Prop)
 (c:Hid (Calls prog 150 #[.pointer (some ⟨cb,0,none⟩),.iface 242 (.agg #[.iface 230 (.bool b)])] (w.alloc (.cells #[.int .i64 l,.bool b] 310)) λe w'=>(∃k:Nat,e=.returned (.int .i64 k))/\P w')):
 Calls prog 164 #[.pointer (some ⟨cb,0,none⟩),.iface 310 (.agg #[.int .i64 l,.bool b])] w λe w'=>e=.returned (.tuple #[])/\P w':=by
 have f:=AA;have g:=zZ;have i:=GF;go_enter func164,ntmps164;go_wp2_with fail;refine c.out.mono ?_;rintro e d ⟨⟨m,rfl⟩,a⟩;go_wp2_with fail;go_end0;exact⟨rfl,a⟩
def wR(w:World)(cb:Nat)(l:Int)(s:ByteArray)(k:Nat)(P:World->Prop)
 (c:Hid (Calls prog 207 #[.pointer (some ⟨cb,0,none⟩),.string s] (w.alloc (.cells #[.int .i64 l,.string s] 274)) λe w'=>e=.returned (.int .i64 k)/\w'=w.alloc (.cells #[.int .i64 l,.string s] 274)))
 (b:Hid (Calls prog 150 #[.pointer (some ⟨cb,0,none⟩),.iface 312 (.agg #[.int .i64 k])] (w.alloc (.cells #[.int .i64 l,.string s] 274)) λe w'=>(∃k:Nat,e=.returned (.int .i64 k))/\P w')):
 Calls prog 164 #[.pointer (some ⟨cb,0,none⟩),.iface 274 (.agg #[.int .i64 l,.string s])] w λe w'=>e=.returned (.tuple #[])/\P w':=by
 have g:=rV;have i:=rT;have n:=uK;have f:=pQ;go_enter func164,ntmps164;go_wp2_with fail;refine c.out.mono ?_;rintro e d ⟨rfl,rfl⟩;go_wp2_with fail;refine b.out.mono ?_;rintro e j ⟨⟨m,rfl⟩,a⟩;go_wp2_with fail;go_end0;exact⟨rfl,a⟩
def KA(w:World)(cb n c:Nat)(l:Int)(x:Option Addr)(P Q:World->Prop)
 (i:Hid (Calls prog 208 #[.pointer (some ⟨cb,0,none⟩),.slice x n c] (w.alloc (.cells #[.int .i64 l,.slice x n c] 276)) λe w'=>e=.returned (.tuple #[])/\Q w'))
 (f:Hid (∀W,Q W->W.cell? ⟨w.heap.size,1,none⟩=some (.slice x n c)/\w.heap.size<W.heap.size))
 (g:Hid (∀W,Q W->Calls prog 150 #[.pointer (some ⟨cb,0,none⟩),.iface 314 (.agg #[.int .i64 n])] W λe w'=>(∃k:Nat,e=.returned (.int .i64 k))/\P w')):
 Calls prog 164 #[.pointer (some ⟨cb,0,none⟩),.iface 276 (.agg #[.int .i64 l,.slice x n c])] w λe w'=>e=.returned (.tuple #[])/\P w':=by
 have p:=zU;have q:=zT;have v:=GB;have r:=uO;have s:=GA;go_enter func164,ntmps164;go_wp2_with fail;refine i.out.mono ?_;rintro e j ⟨rfl,b⟩;obtain⟨o,t⟩:=f.out _ b;have a:=aB (g.out _ b);clear b;go_wp2_with fail;refine a.out.mono ?_;rintro e u ⟨⟨m,rfl⟩,d⟩;go_wp2_with fail;go_end0;exact⟨rfl,d⟩
def FX(w:World)(cb:Nat)(l:Int)(i a:TypeId)(d b:Value)(P Q R:World->Prop)
 (r:Hid (Calls prog 164 #[.pointer (some ⟨cb,0,none⟩),.iface i d] (w.alloc (.cells #[.int .i64 l,.iface i d,.iface a b] 278)) λe w'=>e=.returned (.tuple #[])/\Q w'))
 (n:Hid (∀W,Q W->W.cell? ⟨w.heap.size,2,none⟩=some (.iface a b)/\w.heap.size<W.heap.size))
 (o:Hid (∀W,Q W->Calls prog 164 #[.pointer (some ⟨cb,0,none⟩),.iface a b] W λe w'=>e=.returned (.tuple #[])/\R w'))
 (q:Hid (∀W,R W->Calls prog 150 #[.pointer (some ⟨cb,0,none⟩),.iface 315 (.agg #[])] W λe w'=>(∃k:Nat,e=.returned (.int .i64 k))/\P w')):
 Calls prog 164 #[.pointer (some ⟨cb,0,none⟩),.iface 278 (.agg #[.int .i64 l,.iface i d,.iface a b])] w λe w'=>e=.returned (.tuple #[])/\P w':=by
 have u:=wV;have x:=wU;have D:=BR;have y:=tG;have A:=BQ;have z:=zV;go_enter func164,ntmps164;go_wp2_with fail;refine r.out.mono ?_;rintro e s ⟨rfl,f⟩;obtain⟨t,B⟩:=n.out _ f;have g:=aB (o.out _ f);clear f;go_wp2_with fail;refine g.out.mono ?_;rintro e C ⟨rfl,j⟩;have c:=aB (q.out _ j);clear j;go_wp2_with fail;refine c.out.mono ?_;rintro e v ⟨⟨m,rfl⟩,p⟩;go_wp2_with fail;go_end0;exact⟨rfl,p⟩
def FW(w:World)(cb:Nat)(l:Int)(op:ByteArray)(d:TypeId)(b:Value)(P Q:World->Prop)
 (j:Hid (Calls prog 164 #[.pointer (some ⟨cb,0,none⟩),.iface d b] (w.alloc (.cells #[.int .i64 l,.string op,.iface d b] 280)) λe w'=>e=.returned (.tuple #[])/\Q w'))
 (f:Hid (∀W,Q W->W.cell? ⟨w.heap.size,1,none⟩=some (.string op)/\w.heap.size<W.heap.size))
 (i:Hid (∀W,Q W->Calls prog 150 #[.pointer (some ⟨cb,0,none⟩),.iface 317 (.agg #[.string op])] W λe w'=>(∃k:Nat,e=.returned (.int .i64 k))/\P w')):
 Calls prog 164 #[.pointer (some ⟨cb,0,none⟩),.iface 280 (.agg #[.int .i64 l,.string op,.iface d b])] w λe w'=>e=.returned (.tuple #[])/\P w':=by
 have p:=wT;have s:=wS;have y:=BP;have t:=tF;have v:=BO;have u:=zS;have r:=zR;go_enter func164,ntmps164;go_wp2_with fail;refine j.out.mono ?_;rintro e n ⟨rfl,c⟩;obtain⟨o,x⟩:=f.out _ c;have a:=aB (i.out _ c);clear c;go_wp2_with fail;refine a.out.mono ?_;rintro e q ⟨⟨m,rfl⟩,g⟩;go_wp2_with fail;go_end0;exact⟨rfl,g⟩
def qX(w:World)(cb:Nat)(l:Int)(op:ByteArray)(d a:TypeId)(c b:Value)(P:World->Prop)
 (g:Hid (Calls prog 209 #[.pointer (some ⟨cb,0,none⟩),.agg #[.int .i64 l,.string op,.iface d c,.iface a b]] (w.alloc (.cells #[.int .i64 l,.string op,.iface d c,.iface a b] 282)) λe w'=>e=.returned (.tuple #[])/\P w')):
 Calls prog 164 #[.pointer (some ⟨cb,0,none⟩),.iface 282 (.agg #[.int .i64 l,.string op,.iface d c,.iface a b])] w λe w'=>e=.returned (.tuple #[])/\P w':=by
 have j:=uR;have n:=uQ;have r:=AC;have o:=rW;have q:=AB;have p:=wX;have m:=wW;have k:=uS;go_enter func164,ntmps164;go_wp2_with fail;refine g.out.mono ?_;rintro e i ⟨rfl,f⟩;go_wp2_with fail;go_end0;exact⟨rfl,f⟩
def pP(w:World)(cb n c:Nat)(l:Int)(s:ByteArray)(x:Option Addr)(P:World->Prop)
 (b:Hid (Calls prog 210 #[.pointer (some ⟨cb,0,none⟩),.agg #[.int .i64 l,.string s,.slice x n c]] (w.alloc (.cells #[.int .i64 l,.string s,.slice x n c] 271)) λe w'=>e=.returned (.tuple #[])/\P w')):
 Calls prog 164 #[.pointer (some ⟨cb,0,none⟩),.iface 271 (.agg #[.int .i64 l,.string s,.slice x n c])] w λe w'=>e=.returned (.tuple #[])/\P w':=by
 have f:=zX;have j:=zW;have q:=GE;have k:=uP;have o:=GC;have m:=BU;have i:=BS;have g:=zY;have p:=GD;go_enter func164,ntmps164;go_wp2_with fail;refine b.out.mono ?_;rintro e d ⟨rfl,a⟩;go_wp2_with fail;go_end0;exact⟨rfl,a⟩
def NW(w:World)(cb g n d:Nat)(C:Nat->World->Prop)(y:n<=1000000)(l:C 0 w)
 (q:Hid (∀j W,C j W->j<n->g<W.heap.size/\∃t z,W.cell? ⟨g,j,none⟩=some (.iface t z)/\Calls prog 164 #[.pointer (some ⟨cb,0,none⟩),.iface t z] W λe w'=>e=.returned (.tuple #[])/\C (j+1) w')):
 Calls prog 208 #[.pointer (some ⟨cb,0,none⟩),.slice (some ⟨g,0,none⟩) n d] w λe w'=>e=.returned (.tuple #[])/\C n w':=by
 have o:=aB l;clear l;go_enter func208,ntmps208;go_wp2_with fail;go_loopg [5,8] n (λgk _ i wr=>∃j:Nat,j+gk=n/\i=.int .i64 j/\C j wr)
 case atStart=>exact⟨0,o_,rfl,o.out⟩
 case round=>
  obtain⟨j,B,rfl,b⟩:=hrel;by_cases c:j<n
  ·obtain⟨m,rfl⟩:∃m,gk=m+1:=⟨gk-1,o_⟩
   obtain⟨u,t,z,x,a⟩:=q.out _ _ b c;have r:=aB a;have A:(0:Int)<=(j:Int):=o_
   have v:(j:Int)<(n:Int):=o_
   clear b a;go_wp2_with fail;refine r.out.mono ?_;rintro e s ⟨rfl,p⟩;go_wp2_with fail;go_roundg m
   case measure=>omega
   case rel=>exact⟨j+1,o_,by go_num,p⟩
  ·have f:j=n:=o_
   subst f;have k:=aB b;clear b;go_wp2_with fail;go_end0;exact⟨rfl,k.out⟩
def TQ(w:World)(cb:Nat):Calls prog 208 #[.pointer (some ⟨cb,0,none⟩),.slice none 0 0] w λe w'=>e=.returned (.tuple #[])/\w'=w:=by
 go_enter func208,ntmps208;go_wp2_with fail;go_loopg [5,8] 0 (λ_ _ i wr=>i=.int .i64 0/\wr=w)
 case atStart=>exact⟨rfl,rfl⟩
 case round=>
  obtain⟨rfl,rfl⟩:=hrel;go_wp2_with fail;go_end0;exact⟨rfl,rfl⟩
def XK(w:World)(cb n c:Nat)(l:Int)(x:Option Addr)(P Q:World->Prop)
 (i:Hid (Calls prog 208 #[.pointer (some ⟨cb,0,none⟩),.slice x n c] (w.alloc (.cells #[.int .i64 l,.string (bs [108,101,110]),.slice x n c] 271)) λe w'=>e=.returned (.tuple #[])/\Q w'))
 (f:Hid (∀W,Q W->W.cell? ⟨w.heap.size,1,none⟩=some (.string (bs [108,101,110]))/\w.heap.size<W.heap.size))
 (g:Hid (∀W,Q W->Calls prog 150 #[.pointer (some ⟨cb,0,none⟩),.iface 354 (.agg #[])] W λe w'=>(∃k:Nat,e=.returned (.int .i64 k))/\P w')):
 Calls prog 210 #[.pointer (some ⟨cb,0,none⟩),.agg #[.int .i64 l,.string (bs [108,101,110]),.slice x n c]] w λe w'=>e=.returned (.tuple #[])/\P w':=by
 have q:((bs [108,101,110]).toList==[108,101,110])=true:=by rw[bT];rfl
 generalize bs [108,101,110]=s at*;go_enter func210,ntmps210;go_wp2_with fail;refine i.out.mono ?_;rintro e j ⟨rfl,b⟩;obtain⟨o,p⟩:=f.out _ b;have a:=aB (g.out _ b);clear b;go_wp2_with fail;refine a.out.mono ?_;rintro e r ⟨⟨m,rfl⟩,d⟩;go_wp2_with fail;go_end0;exact⟨rfl,d⟩
def UE(w:World)(cb n c:Nat)(l:Int)(x:Option Addr)(P Q:World->Prop)
 (i:Hid (Calls prog 208 #[.pointer (some ⟨cb,0,none⟩),.slice x n c] (w.alloc (.cells #[.int .i64 l,.string (bs [114,101,97,100]),.slice x n c] 271)) λe w'=>e=.returned (.tuple #[])/\Q w'))
 (f:Hid (∀W,Q W->W.cell? ⟨w.heap.size,1,none⟩=some (.string (bs [114,101,97,100]))/\w.heap.size<W.heap.size))
 (g:Hid (∀W,Q W->Calls prog 150 #[.pointer (some ⟨cb,0,none⟩),.iface 355 (.agg #[])] W λe w'=>(∃k:Nat,e=.returned (.int .i64 k))/\P w')):
 Calls prog 210 #[.pointer (some ⟨cb,0,none⟩),.agg #[.int .i64 l,.string (bs [114,101,97,100]),.slice x n c]] w λe w'=>e=.returned (.tuple #[])/\P w':=by
 have r:((bs [114,101,97,100]).toList==[108,101,110])=false:=by rw[bT];rfl
 have p:((bs [114,101,97,100]).toList==[114,101,97,100])=true:=by rw[bT];rfl
 generalize bs [114,101,97,100]=t at*;go_enter func210,ntmps210;go_wp2_with fail;refine i.out.mono ?_;rintro e j ⟨rfl,b⟩;obtain⟨o,q⟩:=f.out _ b;have a:=aB (g.out _ b);clear b;go_wp2_with fail;refine a.out.mono ?_;rintro e s ⟨⟨m,rfl⟩,d⟩;go_wp2_with fail;go_end0;exact⟨rfl,d⟩
def OR(w:World)(cb n c fb:Nat)(l:Int)(a:List UInt8)(x:Option Addr)(P Q:World->Prop)(b:a≠[108,101,110])(f:a≠[114,101,97,100])
 (q:Hid (Calls prog 208 #[.pointer (some ⟨cb,0,none⟩),.slice x n c] (w.alloc (.cells #[.int .i64 l,.string (bs a),.slice x n c] 271)) λe w'=>e=.returned (.tuple #[])/\Q w'))
 (j:Hid (∀W,Q W->W.cell? ⟨w.heap.size,1,none⟩=some (.string (bs a))/\W.cell? ⟨w.heap.size,2,none⟩=some (.slice x n c)/\w.heap.size<W.heap.size))
 (i:Hid (∀W d,Q W->bV W d->Calls prog 103 #[.pointer (some ⟨cb,0,none⟩),.string (bs a)] d λe w'=>e=.returned (.pointer (some ⟨fb,0,none⟩))/\w'=d))
 (p:Hid (∀W d,Q W->bV W d->Calls prog 150 #[.pointer (some ⟨cb,0,none⟩),.iface 357 (.agg #[.pointer (some ⟨fb,0,none⟩),.int .i64 n])] d λe w'=>(∃k:Nat,e=.returned (.int .i64 k))/\P w')):
 Calls prog 210 #[.pointer (some ⟨cb,0,none⟩),.agg #[.int .i64 l,.string (bs a),.slice x n c]] w λe w'=>e=.returned (.tuple #[])/\P w':=by
 have z:((bs a).toList==[108,101,110])=false:=by rw[bT];simpa using b
 have v:((bs a).toList==[114,101,97,100])=false:=by rw[bT];simpa using f
 clear b f;go_enter func210,ntmps210;go_wp2_with fail;refine q.out.mono ?_;rintro e r ⟨rfl,b⟩;obtain⟨s,y,u⟩:=j.out _ b;have g:=aB b;clear b;go_wp2_with fail;go_region_law (go_simp;first|(go_at_call 103;refine(i.out _ _ g.out (bV.drew _)).mono ?_;rintro e A ⟨rfl,rfl⟩)|(go_at_call 150;refine(p.out _ _ g.out (bV.drew _)).mono ?_;rintro e t ⟨⟨m,rfl⟩,o⟩))
 all_goals
  go_wp2_with fail;go_end0;exact⟨rfl,o⟩
def GM(w:World)(cb:Nat)(l:Int)(op:List UInt8)(j c:TypeId)(g d:Value)(P Q R:World->Prop)(b:op≠[38,38])(a:op≠[124,124])
 (s:Hid (Calls prog 164 #[.pointer (some ⟨cb,0,none⟩),.iface j g] (w.alloc (.cells #[.int .i64 l,.string (bs op),.iface j g,.iface c d] 282)) λe w'=>e=.returned (.tuple #[])/\Q w'))
 (o:Hid (∀W,Q W->W.cell? ⟨w.heap.size,1,none⟩=some (.string (bs op))/\W.cell? ⟨w.heap.size,3,none⟩=some (.iface c d)/\w.heap.size<W.heap.size))
 (p:Hid (∀W,Q W->Calls prog 164 #[.pointer (some ⟨cb,0,none⟩),.iface c d] W λe w'=>e=.returned (.tuple #[])/\R w'))
 (n:Hid (∀W,R W->W.cell? ⟨w.heap.size,1,none⟩=some (.string (bs op))/\w.heap.size<W.heap.size))
 (r:Hid (∀W,R W->Calls prog 150 #[.pointer (some ⟨cb,0,none⟩),.iface 350 (.agg #[.string (bs op)])] W λe w'=>(∃k:Nat,e=.returned (.int .i64 k))/\P w')):
 Calls prog 209 #[.pointer (some ⟨cb,0,none⟩),.agg #[.int .i64 l,.string (bs op),.iface j g,.iface c d]] w λe w'=>e=.returned (.tuple #[])/\P w':=by
 have D:((bs op).toList==[38,38])=false:=by rw[bT];simpa using b
 have B:((bs op).toList==[124,124])=false:=by rw[bT];simpa using a
 clear b a;generalize bs op=A at*;go_enter func209,ntmps209;go_wp2_with fail;refine s.out.mono ?_;rintro e t ⟨rfl,b⟩;obtain⟨v,C,y⟩:=o.out _ b;have i:=aB (p.out _ b);clear b;go_wp2_with fail;refine i.out.mono ?_;rintro e E ⟨rfl,a⟩;obtain⟨z,u⟩:=n.out _ a;have f:=aB (r.out _ a);clear a;go_wp2_with fail;refine f.out.mono ?_;rintro e x ⟨⟨m,rfl⟩,q⟩;go_wp2_with fail;exact⟨rfl,_,results_none r_ _ _ _,rfl,q⟩
def GL(w:World)(cb k:Nat)(l:Int)(b:Bool)(op:List UInt8)(v i:TypeId)(r j:Value)(P Q y R S:World->Prop)(a:op=if b then [124,124] else [38,38])
 (F:Hid (Calls prog 164 #[.pointer (some ⟨cb,0,none⟩),.iface v r] (w.alloc (.cells #[.int .i64 l,.string (bs op),.iface v r,.iface i j] 282)) λe w'=>e=.returned (.tuple #[])/\Q w'))
 (A:Hid (∀W,Q W->W.cell? ⟨w.heap.size,1,none⟩=some (.string (bs op))/\w.heap.size<W.heap.size))
 (I:Hid (∀W,Q W->Calls prog 150 #[.pointer (some ⟨cb,0,none⟩),.nilIface] W λe w'=>e=.returned (.int .i64 k)/\y w'))
 (x:Hid (∀W,y W->W.cell? ⟨w.heap.size,3,none⟩=some (.iface i j)/\w.heap.size<W.heap.size))
 (H:Hid (∀W,y W->Calls prog 164 #[.pointer (some ⟨cb,0,none⟩),.iface i j] W λe w'=>e=.returned (.tuple #[])/\R w'))
 (L:Hid (∀W,R W->Calls prog 150 #[.pointer (some ⟨cb,0,none⟩),.iface 351 (.agg #[])] W λe w'=>(∃k:Nat,e=.returned (.int .i64 k))/\S w'))
 (f:Hid (∀W,S W->W.cell? ⟨w.heap.size,1,none⟩=some (.string (bs op))/\w.heap.size<W.heap.size/\cb<W.heap.size/\∃g n c,W.cell? ⟨cb,1,none⟩=some (.slice (some ⟨g,0,none⟩) n c)/\k<n/\n<=1000000/\(∃u,W.cell? ⟨g,k,none⟩=some u)/\W.frozen? ⟨g,k,none⟩=false/\g<W.heap.size/\∀E,bV (W.setCell ⟨g,k,none⟩ (.iface 353 (.agg #[.bool b,.int .i64 n]))) E->P E)):
 Calls prog 209 #[.pointer (some ⟨cb,0,none⟩),.agg #[.int .i64 l,.string (bs op),.iface v r,.iface i j]] w λe w'=>e=.returned (.tuple #[])/\P w':=by
 have J:∃o:ByteArray,o=bs op/\(o.toList==[38,38])= !b/\(o.toList==[124,124])=b:=⟨bs op,rfl,by rw[bT,a];cases b<;>rfl,by rw[bT,a];cases b<;>rfl⟩
 obtain⟨o,C,K,e2⟩:=J;rw[<-C] at F A f ⊢
 clear C a;cases b
 all_goals
  simp only[Bool.not_true,Bool.not_false] at K;go_enter func209,ntmps209;go_wp2_with fail;refine F.out.mono ?_;rintro e N ⟨rfl,s⟩;obtain⟨O,b2⟩:=A.out _ s;have z:=aB (I.out _ s);clear s;go_wp2_with fail;refine z.out.mono ?_;rintro e w2 ⟨rfl,q⟩;obtain⟨d1,T⟩:=x.out _ q;have t:=aB (H.out _ q);clear q;go_wp2_with fail;refine t.out.mono ?_;rintro e V ⟨rfl,D⟩;have p:=aB (L.out _ D);clear D;go_wp2_with fail;refine p.out.mono ?_;rintro e M ⟨⟨m,rfl⟩,B⟩;obtain⟨Z,f2,f3,g,n,c,f4,f5,f6,⟨u,Y⟩,U,f9,d⟩:=f.out _ B;have G:=aB d;have i1:(0:Int)<=(k:Int):=o_
  have X:(k:Int)<(n:Int):=o_
  clear B d;go_wp2_with fail;go_region
  all_goals
   go_wp2_with fail;go_end0;exact⟨rfl,G.out _ (bV.drew _)⟩
def pG(c:aC->Nat->List aJ):∀(l m:List aC) (p:Nat),bQ c (l++m) p=bQ c l p++bQ c m (p+(bQ c l p).length)
 |[],m,p=>by simp[bQ]
 |a::l,m,p=>by
  rw[J3,bQ,bQ,pG c l m,I6,F8,P3]
def IP(c:aC->Nat->List aJ)(a:aC)(p:Nat):bQ c [a] p=c a p:=by simp[bQ]
def IN(c:aC->Nat->List aJ)(a b:aC)(p:Nat):bQ c [a,b] p=c a p++c b (p+(c a p).length):=by simp[bQ]
section
variable (fs:List aC) (e_:List (List UInt8)) (d:Nat) (a:aC) (p:Nat)
def exprC_num(h:a.op=[48]):aG fs e_ (d+1) a p=[.push (aL (((bW 0 a.x_).getD 0:Nat):Int))]:=by rw[aG];simp[h]
def TT(h:a.op=[115]):aG fs e_ (d+1) a p=[.push (bI a.x_)]:=by rw[aG];simp[h]
def NZ(h:a.op=[98,111,111,108]):aG fs e_ (d+1) a p=[.push (bK (a.x_==[116,114,117,101]))]:=by rw[aG];simp[h]
def TR(h:a.op=[110,97,109,101]):aG fs e_ (d+1) a p=[.load (eG e_ a.x_)]:=by rw[aG];simp[h]
def NX(h:a.op=[108,105,115,116]):aG fs e_ (d+1) a p=bQ (aG fs e_ d) a.y_ p++[.list a.y_.length]:=by rw[aG];simp[h]
def JZ(h:a.op=[105,110,100,101,120]):aG fs e_ (d+1) a p=bQ (aG fs e_ d) a.y_ p++[.index]:=by rw[aG];simp[h]
def JX(o:UInt8)(b:o=45\/o=33)(h:a.op=[o,120]):aG fs e_ (d+1) a p=bQ (aG fs e_ d) a.y_ p++[.unary [o]]:=by
 rw[aG];rcases b with rfl|rfl<;>simp[h]
def NY(h:a.op=[99,97,108,108]):aG fs e_ (d+1) a p=bQ (aG fs e_ d) a.y_ p++[if a.x_==[108,101,110] then .length else if a.x_==[114,101,97,100] then .read else .call (dJ fs a.x_) a.y_.length]:=by rw[aG];simp[h]
def JY(b:Bool)(l r:aC)(h:a.op=if b then [124,124] else [38,38])(c:a.y_=[l,r]):aG fs e_ (d+1) a p=
 aG fs e_ d l p++[.shortcut b (p+(aG fs e_ d l p).length+1+(aG fs e_ d r (p+(aG fs e_ d l p).length+1)).length+1)]++aG fs e_ d r (p+(aG fs e_ d l p).length+1)++[.truth]:=by
 rw[aG];cases b<;>simp[h,c]
def FU(h:bF a.op≠9)(b:a.op≠[38,38])(c:a.op≠[124,124]):aG fs e_ (d+1) a p=bQ (aG fs e_ d) a.y_ p++[.binary a.op]:=by
 rcases kV h with e|e|e|e|e|e|e|e|e|e|e
 all_goals first|exact absurd e c|exact absurd e b|(rw[aG];simp[e])
end
def CL:∀(l:List UInt8) (n k:Nat),n<=9223372036854775807->bW n l=some k->k<=9223372036854775807
 |[],n,k,b,h=>by rw[bW] at h;cases h;exact b
 |c::r,n,k,b,h=>by
  rw[bW] at h;split at h
  ·cases h
  ·rename_i a;refine CL r _ k ?_ h;have e:=O1 c;have d:fP=9223372036854775807:=rfl;rw[d] at a;omega
section
variable {fp:Nat->Value} {fb:Nat->Nat} {nms:List (List UInt8)} {cb:Nat} {F:Nat->Prop} {w w':World} {code:List (Option aJ)} {e_:List (List UInt8)}
def CP.patch{pre post:List (Option aJ)}(h:CP fp fb nms cb F w (pre++none::post) e_):
 ∃g c,w.cell? ⟨cb,1,none⟩=some (.slice (some ⟨g,0,none⟩) (pre++none::post).length c)/\(∃x,w.cell? ⟨g,pre.length,none⟩=some x)/\w.frozen? ⟨g,pre.length,none⟩=false/\g<w.heap.size/\
  ∀u i d,iX fp F w u i->bV (w.setCell ⟨g,pre.length,none⟩ u) d->CP fp fb nms cb F d (pre++some i::post) e_/\FB cb w d:=by
 obtain⟨fv,Y,X,y,⟨S,D,q⟩,M,N⟩:=h.blk;have I:=h.lt;have Z:(pre++none::post).length=pre.length+post.length+1:=t_
 rcases D.2 with ⟨_,G⟩|⟨g,c,n,rfl,G,r,J,Q,E,L⟩
 ·omega
 have C:=aD r;have p:∃x,n[pre.length]?=some x:=⟨_,O8 (by rw[E];omega)⟩
 obtain⟨x,U⟩:=p;refine⟨g,c,aA y rfl,⟨x,aA r U⟩,aE r,C,λu i d T l=>?_⟩
 have f:∀k,k≠g->d.heap[k]?=w.heap[k]?:=λk f=>by rw[l.heap,G0 _ _ _ _ f]
 have v:jR cb w=some g:=iQ y;have t:d.heap[cb]?=_:=(f cb o_).trans y
 have a:FB cb w d:=⟨⟨l.os.trans rfl,l.tape.trans rfl,l.output.trans rfl,by rw[l.heap];simp,λk K=>f k o_⟩,λk _ _ q=>f k λe=>q (by rw[v,e]),λk e=>F7 (by rw[mS (f cb o_)] at e;exact e)⟩
 have s:=h.fixed a;refine⟨h.step (xs':=S.set pre.length u) a t ⟨by rw[N6,D.1];simp,F5 ⟨g,c,n.setIfInBounds pre.length u,s_,G,by rw[l.heap];exact aO r,by simpa using J,Q,by simpa using E,?_⟩⟩ ?_ (eS.keep s (λ_ h=>h) M) (N.keep s (λ_ h=>h) a.bel.size),a⟩
 ·rw[O5,List.take_set,<-L];simp
 ·have A:=q.keep s λ_ h=>h
  refine⟨by simp[q.1],λj o b=>?_⟩
  by_cases H:j=pre.length
  ·subst H;rw[I3 (F6 _)] at b;simp at b;subst b;exact⟨u,by rw[List.getElem?_set_self (by rw[q.1];omega)],iX.keep T s λ_ h=>h⟩
  ·have z:(pre++none::post)[j]?=some o:=by
    rcases J8 j pre.length with B|B
    ·rw[J7 B] at b ⊢;exact b
    ·rw[I3 B] at b ⊢
     obtain⟨m,V⟩:∃m,j-pre.length=m+1:=⟨j-pre.length-1,o_⟩
     rw[V] at b ⊢
     simpa using b
   obtain⟨P,W,O⟩:=A.2 j o z;exact⟨P,by rw[List.getElem?_set_ne (λe=>H e.symm)];exact W,O⟩
end
def gE(fp:Nat->Value)(fb:Nat->Nat)(nms:List (List UInt8))(cb:Nat)(F:Nat->Prop)(w:World)(code:List (Option aJ))(e_:List (List UInt8))(w':World):Prop:=
 CP fp fb nms cb F w' code e_/\FB cb w w'
def GP(fp:Nat->Value)(fb:Nat->Nat)(fs:List aC)(cb lo:Nat)(F:Nat->Prop)(a_:Bool)(e_:List (List UInt8))(d:Nat):Prop:=
 ∀(v:Value) (a:aC) (code:List (Option aJ)) (w:World),CP fp fb (fs.map (·.x_)) cb F w code e_->PN (Btw lo cb) w v a->Hs.ExOk fs a_ e_ d a->jV d a->code.length+(aG fs e_ d a code.length).length<=1000000->
  Calls prog 164 #[.pointer (some ⟨cb,0,none⟩),v] w λe w'=>e=.returned (.tuple #[])/\gE fp fb (fs.map (·.x_)) cb F w (code++(aG fs e_ d a code.length).map some) e_ w'
section
variable {fp:Nat->Value} {fb:Nat->Nat} {fs:List aC} {cb lo:Nat} {F:Nat->Prop} {a_:Bool} {e_:List (List UInt8)} {d:Nat}
def gE.then{w w1 w':World}{b:List (List UInt8)}{a:List (Option aJ)}(c:FB cb w w1)(h:gE fp fb b cb F w1 a e_ w'):gE fp fb b cb F w a e_ w':=⟨h.1,c.trans h.2⟩
def PKid.sliceC{F:Nat->Prop}{w:World}{v:Value}{l:List aC}(h:PKid F w v l):∃x c,v=.slice x l.length c:=by
 rcases h.get with ⟨rfl,rfl⟩|⟨g,a,rfl,_⟩
 ·exact⟨none,0,rfl⟩
 ·exact⟨_,_,rfl⟩
def ExOk.op{fs:List aC}{a_:Bool}{e_:List (List UInt8)}{d:Nat}{a:aC}(h:Hs.ExOk fs a_ e_ (d+1) a):
 (∀k∈a.y_,Hs.ExOk fs a_ e_ d k)/\(a.op=[110,97,109,101]->a.x_∈e_)/\
   (a.op=[99,97,108,108]->a.x_=[108,101,110]\/a.x_=[114,101,97,100]\/(a.x_≠[108,101,110]/\a.x_≠[114,101,97,100]/\fA fs (dJ fs a.x_)=some a.y_.length)):=by
 have m:∀{l r:aC},a.y_=[l,r]->Hs.ExOk fs a_ e_ d l->Hs.ExOk fs a_ e_ d r->∀k∈a.y_,Hs.ExOk fs a_ e_ d k:=λe b c k f=>by
  rw[e] at f;simp at f;rcases f with rfl|rfl
  ·exact b
  ·exact c
 have j:∀{x y:List UInt8} {p:Prop},a.op=x->x≠y->a.op=y->p:=λs q t=>absurd (s.symm.trans t) q
 rcases h with ⟨b,i⟩|⟨b,i,c⟩|⟨b,c⟩|⟨b,l,r,i,c,g⟩|⟨b,l,i,c⟩|⟨b,c,g⟩|⟨b,l,r,i,c,g⟩
 ·refine⟨λk f=>absurd f (by rw[i];simp),?_,?_⟩<;>rcases b with b|b|b<;>exact j b d_
 ·exact⟨λk f=>absurd f (by rw[i];simp),λ_=>c,j b d_⟩
 ·exact⟨c,j b d_,j b d_⟩
 ·exact⟨m i c g,j b d_,j b d_⟩
 ·refine⟨λk f=>?_,?_,?_⟩
  ·rw[i] at f;simp at f;rw[f];exact c
  all_goals rcases b with b|b<;>exact j b d_
 ·refine⟨c,j b d_,λ_=>?_⟩
  rcases g with ⟨g,_⟩|⟨g,_⟩|⟨g,n,_,o⟩
  ·exact F7 g
  ·exact F5 (F7 g)
  ·exact F5 (F5 ⟨g,n,o⟩)
 ·refine⟨m i c g,λe=>?_,λe=>?_⟩<;>(exfalso;rw[e] at b;exact b rfl)
def DX(IH:GP fp fb fs cb lo F a_ e_ d)(v:Value)(l:List aC)(b:List (Option aJ))(w:World)(h:CP fp fb (fs.map (·.x_)) cb F w b e_)(I:PKid (Btw lo cb) w v l)(E:∀a∈l,Hs.ExOk fs a_ e_ d a)(y:∀a∈l,jV d a)(G:l.length<=1000000)(K:b.length+(bQ (aG fs e_ d) l b.length).length<=1000000):
 Calls prog 208 #[.pointer (some ⟨cb,0,none⟩),v] w λe w'=>e=.returned (.tuple #[])/\gE fp fb (fs.map (·.x_)) cb F w (b++(bQ (aG fs e_ d) l b.length).map some) e_ w':=by
 rcases I.get with ⟨rfl,rfl⟩|⟨g,s,rfl,B,z,A,J⟩
 ·refine(TQ w cb).mono ?_;rintro e w' ⟨rfl,rfl⟩;exact⟨rfl,by simpa [bQ] using h,FB.refl _⟩
 ·refine(NW w cb g l.length s (λj W=>j<=l.length/\gE fp fb (fs.map (·.x_)) cb F w (b++(bQ (aG fs e_ d) (l.take j) b.length).map some) e_ W) G ⟨K5 _,by simpa [bQ] using h,FB.refl _⟩ (λj W C n=>?_)).mono ?_
  ·obtain⟨_,q,f⟩:=C;obtain⟨u,H,i⟩:=J j n;obtain⟨T,D,rfl⟩:=i.form;have r:l.take (j+1)=l.take j++[l[j]]:=H8 n;have m:bQ (aG fs e_ d) (l.take (j+1)) b.length=bQ (aG fs e_ d) (l.take j) b.length++aG fs e_ d l[j] (b.length+(bQ (aG fs e_ d) (l.take j) b.length).length):=by rw[r,pG,IP]
   have k:(bQ (aG fs e_ d) (l.take (j+1)) b.length).length<=(bQ (aG fs e_ d) l b.length).length:=by
    have e:l=l.take (j+1)++l.drop (j+1):=(L0 _ _).symm;have:=congrArg (λx=>(bQ (aG fs e_ d) x b.length).length) e
    simp only[pG,F8] at this;omega
   have o:(b++(bQ (aG fs e_ d) (l.take j) b.length).map some).length=b.length+(bQ (aG fs e_ d) (l.take j) b.length).length:=s_
   refine⟨G3 z f.bel.size,T,.agg D,by rw[f.bel.cell (p:=⟨g,j,none⟩) B.2];exact H,(IH _ l[j] _ W q (i.below f.bel) (E _ (H9 n)) (y _ (H9 n)) ?_).mono ?_⟩
   ·rw[o];rw[m,F8] at k;omega
   ·rintro e w' ⟨t,c⟩;refine⟨t,n,?_⟩;rw[o] at c;rw[m,K4,<-I6];exact c.then f
  ·rintro e w' ⟨t,_,c⟩;rw[J5 (F6 _)] at c;exact⟨t,c⟩
def emits{c:List (List UInt8)}{w W:World}{a:List (Option aJ)}{u:Value}{i:aJ}(b:gE fp fb c cb F w a e_ W)(h:iX fp F W u i)(j:a.length+1<=1000000):
 Calls prog 150 #[.pointer (some ⟨cb,0,none⟩),u] W λe w'=>(∃k:Nat,e=.returned (.int .i64 k))/\gE fp fb c cb F w (a++[some i]) e_ w':=by
 refine(zQ (o:=some i) b.1 h o_).mono ?_
 rintro e w' ⟨d,g,f⟩;exact⟨⟨_,d⟩,g,b.2.trans f⟩
def JW(fs:List aC)(x:List UInt8):(fs.map (·.x_)).findIdx (λy=>y==x)=dJ fs x:=by
 unfold dJ;induction fs with
 |nil=>rfl
 |cons f fs a=>simp only[J1,List.findIdx_cons,a]
def gC(a:List (Option aJ))(c:List aJ):(a++c.map some).length=a.length+c.length:=s_
def OM(IH:GP fp fb fs cb lo F a_ e_ d)(bo:e_.length<=1000000)(bu:fs.length<=1000000)(ba:∀k,k<fs.length->fp k=.pointer (some ⟨fb k,0,none⟩)):GP fp fb fs cb lo F a_ e_ (d+1):=by
 intro v a j w h ca aw bv n;obtain⟨T,B,ps,rfl,cc,bq⟩:=ca.parts;obtain⟨au,ap,C⟩:=bv;have H:=ExOk.op aw;obtain⟨X,af⟩:=h.new (.cells B T)
 have E:∀p∈ps,Prt.ok (Btw lo cb) (w.alloc (.cells B T)) p:=λp Z=>by
  rcases bq p Z with ⟨A,b,h2,h3⟩|⟨A,h2⟩
  ·exact F7 ⟨A,b,h2,h3.below X.fb.bel⟩
  ·exact F5 ⟨A,PKid.below h2 X.fb.bel⟩
 have ab:∀{W:World} {c:List (Option aJ)},gE fp fb (fs.map (·.x_)) cb F (w.alloc (.cells B T)) c e_ W->W.heap[w.heap.size]?=some (.cells B T (0,0)):=λu=>(X.step u.2).blk
 have I:∀{c:List (Option aJ)} {e:Ending} {W:World},(e=.returned (.tuple #[])/\gE fp fb (fs.map (·.x_)) cb F (w.alloc (.cells B T)) c e_ W)->(e=.returned (.tuple #[])/\gE fp fb (fs.map (·.x_)) cb F w c e_ W):=λm=>⟨m.1,m.2.then X.fb⟩
 have G:gE fp fb (fs.map (·.x_)) cb F (w.alloc (.cells B T)) j e_ (w.alloc (.cells B T)):=⟨af,FB.refl _⟩
 have ce:(w.alloc (.cells B T)).heap.size=w.heap.size+1:=s_
 have am:∀{W:World} {v:Value} {k:aC} {c:List (Option aJ)},gE fp fb (fs.map (·.x_)) cb F (w.alloc (.cells B T)) c e_ W->Prt.ok (Btw lo cb) (w.alloc (.cells B T)) ⟨v,[k],true⟩->Hs.ExOk fs a_ e_ d k->jV d k->c.length+(aG fs e_ d k c.length).length<=1000000->
  Calls prog 164 #[.pointer (some ⟨cb,0,none⟩),v] W λe P=>e=.returned (.tuple #[])/\gE fp fb (fs.map (·.x_)) cb F (w.alloc (.cells B T)) (c++(aG fs e_ d k c.length).map some) e_ P:=λu Z hx hl hn=>
  (IH _ _ _ _ u.1 (Z.one'.below u.2.bel) hx hl hn).mono λe P m=>⟨m.1,m.2.then u.2⟩
 have ag:∀{W:World} {v:Value} {l:List aC} {c:List (Option aJ)},gE fp fb (fs.map (·.x_)) cb F (w.alloc (.cells B T)) c e_ W->Prt.ok (Btw lo cb) (w.alloc (.cells B T)) ⟨v,l,false⟩->(∀k∈l,Hs.ExOk fs a_ e_ d k)->(∀k∈l,jV d k)->l.length<=1000000->c.length+(bQ (aG fs e_ d) l c.length).length<=1000000->
  Calls prog 208 #[.pointer (some ⟨cb,0,none⟩),v] W λe P=>e=.returned (.tuple #[])/\gE fp fb (fs.map (·.x_)) cb F (w.alloc (.cells B T)) (c++(bQ (aG fs e_ d) l c.length).map some) e_ P:=λu Z hx hl bw hn=>
  (DX IH _ _ _ _ u.1 (Z.many.below u.2.bel) hx hl bw hn).mono λe P m=>⟨m.1,m.2.then u.2⟩
 rcases cc with ⟨rfl,k,rfl,s,av,r,rfl⟩|⟨rfl,rfl,s,r,rfl⟩|⟨rfl,rfl,s,r,rfl⟩|⟨rfl,sv,rfl,s,rfl⟩|⟨rfl,sv,rfl,s,rfl⟩|⟨rfl,rfl,s,r,rfl⟩|⟨rfl,l,v1,v2,S,a2,rfl,s,r,rfl⟩|⟨rfl,o,v1,S,rfl,bk,s,r,rfl⟩|⟨rfl,l,v1,v2,S,a2,rfl,s,r,rfl⟩|aj
 ·-- a number
  rw[exprC_num fs e_ d a _ s,av] at n ⊢
  have hk:=CL _ _ _ o_ av
  exact(BN w cb a.l_ k _ (emits (i:=.push (aL k)) G ⟨_,rfl,PV.num _ _ _ o_ o_,by rw[nN];omega⟩ (by simp at n;omega))).mono λ_ _=>I
 ·rw[TT fs e_ d a _ s] at n ⊢
  exact(BM w cb a.l_ _ _ (emits (i:=.push (bI a.x_)) G ⟨_,rfl,PV.str _ _ _,by rw[mW];have:=(au s).1;omega⟩ (by simp at n;omega))).mono λ_ _=>I
 ·rw[NZ fs e_ d a _ s] at n ⊢
  exact(KB w cb a.l_ _ _ (emits (i:=.push (bK (a.x_==[116,114,117,101]))) G ⟨_,rfl,PV.tru _ _ _,by rw[nM];omega⟩ (by simp at n;omega))).mono λ_ _=>I
 ·-- a list
  rw[NX fs e_ d a _ s] at n ⊢
  rw[F8,L2] at n;have D:=H.1;have Z:=E ⟨sv,a.y_,false⟩ s_
  obtain⟨x,c,rfl⟩:=Z.many.sliceC;refine(KA w cb a.y_.length c a.l_ x _ _ (ag G Z D C ap o_) (λW m=>⟨aA (ab m) rfl,aD (ab m)⟩) (λW m=>emits (i:=.list a.y_.length) m rfl (by rw[gC];omega))).mono ?_
  intro e W m;rw[K4,<-I6];exact I m
 ·-- a call
  rw[NY fs e_ d a _ s] at n ⊢
  rw[F8,L2] at n;have D:=H.1;have ao:=H.2.2 s;have Z:=E ⟨sv,a.y_,false⟩ s_
  obtain⟨x,c,rfl⟩:=Z.many.sliceC;obtain⟨z,V⟩:=af.new (.cells #[.int .i64 a.l_,.string (bs a.x_),.slice x a.y_.length c] 271);generalize N:w.alloc (.cells #[.int .i64 a.l_,.string (bs a.x_),.slice x a.y_.length c] 271)=q at*;have Y:gE fp fb (fs.map (·.x_)) cb F q j e_ (q.alloc (.cells #[.int .i64 a.l_,.string (bs a.x_),.slice x a.y_.length c] 271)):=⟨V,z.fb⟩
  have hx:=ag Y Z D C ap o_
  have cd:q.heap.size<q.heap.size+1:=J4 _;have bj:∀{W:World},FB cb (q.alloc (.cells #[.int .i64 a.l_,.string (bs a.x_),.slice x a.y_.length c] 271)) W->W.heap[q.heap.size]?=some (.cells #[.int .i64 a.l_,.string (bs a.x_),.slice x a.y_.length c] 271 (0,0)):=λbx=>(z.step bx).blk
  have M:Calls prog 208 #[.pointer (some ⟨cb,0,none⟩),.slice x a.y_.length c] (q.alloc (.cells #[.int .i64 a.l_,.string (bs a.x_),.slice x a.y_.length c] 271)) λe P=>e=.returned (.tuple #[])/\(gE fp fb (fs.map (·.x_)) cb F q (j++(bQ (aG fs e_ d) a.y_ j.length).map some) e_ P/\P.heap[q.heap.size]?=some (.cells #[.int .i64 a.l_,.string (bs a.x_),.slice x a.y_.length c] 271 (0,0))):=by
   refine(DX IH _ _ _ _ V (Z.many.below z.fb.bel) D C ap o_).mono ?_
   rintro e P ⟨he,u⟩;exact⟨he,u.then z.fb,bj u.2⟩
  have ae:∀{i:aJ} {e:Ending} {W:World},(e=.returned (.tuple #[])/\gE fp fb (fs.map (·.x_)) cb F q ((j++(bQ (aG fs e_ d) a.y_ j.length).map some)++[some i]) e_ W)->e=.returned (.tuple #[])/\gE fp fb (fs.map (·.x_)) cb F w (j++(bQ (aG fs e_ d) a.y_ j.length++[i]).map some) e_ W:=λm=>by
   rw[K4,<-I6];exact I m
  have ak:(j++(bQ (aG fs e_ d) a.y_ j.length).map some).length+1<=1000000:=by rw[gC];omega
  rcases ao with ai|ai|⟨bc,bd,ah⟩
  ·rw[ai] at M N ⊢
   refine(pP w cb a.y_.length c a.l_ _ x (λW=>gE fp fb (fs.map (·.x_)) cb F q ((j++(bQ (aG fs e_ d) a.y_ j.length).map some)++[some .length]) e_ W) (by rw[N];exact XK q cb a.y_.length c a.l_ x _ _ M (λW m=>⟨aA m.2 rfl,aD m.2⟩) (λW m=>emits (i:=.length) m.1 rfl ak))).mono ?_
   intro e W m;exact ae m
  ·rw[ai] at M N ⊢
   refine(pP w cb a.y_.length c a.l_ _ x (λW=>gE fp fb (fs.map (·.x_)) cb F q ((j++(bQ (aG fs e_ d) a.y_ j.length).map some)++[some .read]) e_ W) (by rw[N];exact UE q cb a.y_.length c a.l_ x _ _ M (λW m=>⟨aA m.2 rfl,aD m.2⟩) (λW m=>emits (i:=.read) m.1 rfl ak))).mono ?_
   intro e W m;exact ae m
  ·have al:dJ fs a.x_<fs.length:=by
    unfold fA at ah;cases hf:fs[dJ fs a.x_]? with
    |none=>rw[hf] at ah;cases ah
    |some f=>exact(K6.1 hf).1
   have az:a.x_∈fs.map (·.x_):=by
    have h9:=al;unfold dJ at h9;have:=O4 (w:=h9);exact List.mem_map.2 ⟨_,H9 h9,by simpa using this⟩
   have e1:(a.x_==[108,101,110])=false:=by simpa using bc
   have e2:(a.x_==[114,101,97,100])=false:=by simpa using bd
   rw[e1,e2];refine(pP w cb a.y_.length c a.l_ _ x (λW=>gE fp fb (fs.map (·.x_)) cb F q ((j++(bQ (aG fs e_ d) a.y_ j.length).map some)++[some (.call (dJ fs a.x_) a.y_.length)]) e_ W) ?_).mono ?_
   ·rw[N];refine OR q cb a.y_.length c (fb (dJ fs a.x_)) a.l_ a.x_ x _ _ bc bd M (λW m=>⟨aA m.2 rfl,aA m.2 rfl,aD m.2⟩) (λW W' m hS=>?_) (λW W' m hS=>?_)
    ·refine(CB a.x_ (m.1.1.grow hS.below) az (by simpa using bu)).mono ?_
     rintro e P ⟨he,bm⟩;rw[JW,ba _ al] at he;exact⟨he,bm⟩
    ·have bt:gE fp fb (fs.map (·.x_)) cb F q (j++(bQ (aG fs e_ d) a.y_ j.length).map some) e_ W':=⟨m.1.1.grow hS.below,m.1.2.trans (FB.of_below hS.below m.1.1.lt)⟩
     exact emits (i:=.call (dJ fs a.x_) a.y_.length) bt (by show _=_;rw[ba _ al]) ak
   ·intro e W m;exact ae m
 ·-- a variable
  rw[TR fs e_ d a _ s] at n ⊢
  have hm:=H.2.1 s;exact(wR w cb a.l_ _ (eG e_ a.x_) _ (VF a.x_ af hm bo) (emits (i:=.load (eG e_ a.x_)) G rfl (by simp at n;omega))).mono λ_ _=>I
 ·-- an index
  rw[JZ fs e_ d a _ s,r,IN] at n ⊢
  rw[F8,F8,L2] at n;have D:=H.1;have L:=E ⟨v1,[S],true⟩ s_
  have ac:=E ⟨v2,[a2],true⟩ s_
  obtain⟨T1,Q,rfl⟩:=L.one'.form;obtain⟨T2,U,rfl⟩:=ac.one'.form;refine(FX w cb l T1 T2 _ _ _ _ _ (am G L (D S (by rw[r];simp)) (C S (by rw[r];simp)) o_) (λW m=>⟨aA (ab m) rfl,aD (ab m)⟩) (λW m=>am m ac (D a2 (by rw[r];simp)) (C a2 (by rw[r];simp)) (by rw[gC];omega)) (λW m=>emits (i:=.index) m rfl (by simp only[gC];omega))).mono ?_
  intro e W m;rw[gC] at m;rw[K4,K4,<-I6,<-I6];exact I m
 ·-- one operand
  rw[JX fs e_ d a _ o bk s,r,IP] at n ⊢
  rw[F8,L2] at n;have D:=H.1;have L:=E ⟨v1,[S],true⟩ s_
  obtain⟨T1,Q,rfl⟩:=L.one'.form;refine(FW w cb a.l_ _ T1 _ _ _ (am G L (D S (by rw[r];simp)) (C S (by rw[r];simp)) o_) (λW m=>⟨aA (ab m) rfl,aD (ab m)⟩) (λW m=>emits (i:=.unary [o]) m rfl (by rw[gC];omega))).mono ?_
  intro e W m;rw[K4,<-I6];exact I m
 ·-- two operands
  have D:=H.1;have L:=E ⟨v1,[S],true⟩ s_
  have ac:=E ⟨v2,[a2],true⟩ s_
  obtain⟨T1,Q,rfl⟩:=L.one'.form;obtain⟨T2,U,rfl⟩:=ac.one'.form;have bf:=D S (by rw[r];simp)
  have M:=D a2 (by rw[r];simp)
  have ax:=C S (by rw[r];simp)
  have bb:=C a2 (by rw[r];simp)
  generalize J:(#[.int .i64 (l:Nat),.string (bs a.op),.iface T1 (.agg Q),.iface T2 (.agg U)]:Array Value)=B at*;obtain⟨z,V⟩:=af.new (.cells B 282);have Y:gE fp fb (fs.map (·.x_)) cb F (w.alloc (.cells B 282)) j e_ ((w.alloc (.cells B 282)).alloc (.cells B 282)):=⟨V,z.fb⟩
  generalize N:w.alloc (.cells B 282)=q at*
  have aa:∀{W:World} {v:Value} {k:aC} {c:List (Option aJ)},(gE fp fb (fs.map (·.x_)) cb F q c e_ W/\Loc cb q q.heap.size (.cells B 282) W)->Prt.ok (Btw lo cb) q ⟨v,[k],true⟩->Hs.ExOk fs a_ e_ d k->jV d k->c.length+(aG fs e_ d k c.length).length<=1000000->
   Calls prog 164 #[.pointer (some ⟨cb,0,none⟩),v] W λe P=>e=.returned (.tuple #[])/\(gE fp fb (fs.map (·.x_)) cb F q (c++(aG fs e_ d k c.length).map some) e_ P/\Loc cb q q.heap.size (.cells B 282) P):=λu Z hx hl hn=>
   (IH _ _ _ _ u.1.1 (Z.one'.below u.1.2.bel) hx hl hn).mono λe P m=>⟨m.1,m.2.then u.1.2,u.2.step m.2.2⟩
  have t:∀{W:World},Loc cb q q.heap.size (.cells B 282) W->W.cell? ⟨q.heap.size,1,none⟩=some (.string (bs a.op))/\W.cell? ⟨q.heap.size,3,none⟩=some (.iface T2 (.agg U))/\q.heap.size<W.heap.size:=λhL=>⟨aA hL.blk (by rw[<-J];rfl),aA hL.blk (by rw[<-J];rfl),aD hL.blk⟩
  by_cases ad:a.op=[38,38]\/a.op=[124,124]
  ·obtain⟨b,hb⟩:∃b:Bool,a.op=if b then [124,124] else [38,38]:=by
    rcases ad with e|e
    ·exact⟨false,e⟩
    ·exact⟨true,e⟩
   rw[JY fs e_ d a _ b S a2 hb r] at n ⊢
   generalize bi:aG fs e_ d S j.length=K at*;generalize bh:aG fs e_ d a2 (j.length+K.length+1)=cr at*;simp only[F8,L2] at n
   have O:=GL q cb (j.length+K.length) l b a.op T1 T2 (.agg Q) (.agg U) (λW=>gE fp fb (fs.map (·.x_)) cb F q (j++K.map some++some (.shortcut b (j.length+K.length+1+cr.length+1))::(cr.map some++[some .truth])) e_ W)
    (λW=>gE fp fb (fs.map (·.x_)) cb F q (j++K.map some) e_ W/\Loc cb q q.heap.size (.cells B 282) W)
    (λW=>gE fp fb (fs.map (·.x_)) cb F q (j++K.map some++[none]) e_ W/\Loc cb q q.heap.size (.cells B 282) W)
    (λW=>gE fp fb (fs.map (·.x_)) cb F q (j++K.map some++[none]++cr.map some) e_ W/\Loc cb q q.heap.size (.cells B 282) W)
    (λW=>gE fp fb (fs.map (·.x_)) cb F q (j++K.map some++[none]++cr.map some++[some .truth]) e_ W/\Loc cb q q.heap.size (.cells B 282) W) hb
    (by
      rw[J];have:=aa (c:=j) ⟨Y,z⟩ L bf ax (by rw[bi];omega)
      rw[bi] at this;exact this)
    (λW m=>⟨(t m.2).1,(t m.2).2.2⟩)
    (λW m=>(zQ (o:=none) m.1.1 rfl (by rw[gC];omega)).mono λe P hr=>⟨by rw[hr.1,gC],⟨hr.2.1,m.1.2.trans hr.2.2⟩,m.2.step hr.2.2⟩)
    (λW m=>⟨(t m.2).2.1,(t m.2).2.2⟩)
    (λW m=>by
      have ay:(j++K.map some++[none]).length=j.length+K.length+1:=t_
      have:=aa m ac M bb (by rw[ay,bh];omega)
      rw[ay,bh] at this;exact this)
    (λW m=>(zQ (o:=some .truth) m.1.1 rfl t_).mono λe P hr=>⟨⟨_,hr.1⟩,⟨hr.2.1,m.1.2.trans hr.2.2⟩,m.2.step hr.2.2⟩)
    (λW m=>by
      obtain⟨⟨aq,bp⟩,hL⟩:=m;have e0:j++K.map some++[none]++cr.map some++[some aJ.truth]=(j++K.map some)++none::(cr.map some++[some aJ.truth]):=s_
      rw[e0] at aq;have bn:=aq.lt;obtain⟨g,c,p1,p2,p3,p4,p5⟩:=aq.patch;have br:(j++K.map some).length=j.length+K.length:=gC _ _;have bz:((j++K.map some)++none::(cr.map some++[some aJ.truth])).length=j.length+K.length+1+cr.length+1:=t_
      rw[br] at p2 p3 p5;rw[bz] at p1;refine⟨(t hL).1,(t hL).2.2,bn,g,_,c,p1,o_,o_,p2,p3,p4,λW' hS=>?_⟩
      obtain⟨q1,q2⟩:=p5 _ (.shortcut b (j.length+K.length+1+cr.length+1)) W' rfl hS;exact⟨q1,bp.trans q2⟩)
   rw[J] at O;rw[<-J];refine(qX w cb l (bs a.op) T1 T2 (.agg Q) (.agg U) _ (by rw[J,N];exact O)).mono ?_
   intro e W m;have e9:j++(K++[aJ.shortcut b (j.length+K.length+1+cr.length+1)]++cr++[aJ.truth]).map some=j++K.map some++some (.shortcut b (j.length+K.length+1+cr.length+1))::(cr.map some++[some .truth]):=s_
   rw[e9];exact I m
  ·have ar:a.op≠[38,38]:=λe=>ad (F7 e)
   have bg:a.op≠[124,124]:=λe=>ad (F5 e)
   rw[FU fs e_ d a _ s ar bg,r,IN] at n ⊢
   simp only[F8,L2] at n
   have O:=GM q cb l a.op T1 T2 (.agg Q) (.agg U) (λW=>gE fp fb (fs.map (·.x_)) cb F q (j++(aG fs e_ d S j.length).map some++(aG fs e_ d a2 (j.length+(aG fs e_ d S j.length).length)).map some++[some (.binary a.op)]) e_ W) _ _ ar bg
    (by rw[J];exact aa (c:=j) ⟨Y,z⟩ L bf ax o_)
    (λW m=>t m.2)
    (λW m=>aa m ac M bb (by rw[gC];omega))
    (λW m=>⟨(t m.2).1,(t m.2).2.2⟩)
    (λW m=>by
      obtain⟨be,cf⟩:=m;rw[gC] at be;exact emits (i:=.binary a.op) be rfl (by simp only[gC];omega))
   rw[J] at O;rw[<-J];refine(qX w cb l (bs a.op) T1 T2 (.agg Q) (.agg U) _ (by rw[J,N];exact O)).mono ?_
   intro e W m;rw[K4,K4,<-I6,<-I6];exact I m
 ·-- no expression
  exfalso
  have bl:∀x∈([[118,97,114],[115,101,116],[105,102],[119,104,105,108,101],[114,101,116,117,114,110],[112,114,105,110,116],[100,111]]:List (List UInt8)),a.op≠x:=λx hx e=>by
   have hc:∀y∈([[48],[115],[98,111,111,108],[110,97,109,101],[108,105,115,116],[105,110,100,101,120],[45,120],[33,120],[99,97,108,108],[124,124],[38,38],[61,61],[33,61],[60],[60,61],[43],[45],[42],[47],[37]]:List (List UInt8)),a.op≠y:=λy hy e2=>by
    rw[e] at e2;subst e2;simp at hx hy;rcases hx with rfl|rfl|rfl|rfl|rfl|rfl|rfl<;>simp at hy
   rcases aw with ⟨A,_⟩|⟨A,_⟩|⟨A,_⟩|⟨A,_⟩|⟨A,_⟩|⟨A,_⟩|⟨A,_⟩
   ·rcases A with A|A|A<;>exact hc _ s_ A
   ·exact hc _ s_ A
   ·exact hc _ s_ A
   ·exact hc _ s_ A
   ·rcases A with A|A<;>exact hc _ s_ A
   ·exact hc _ s_ A
   ·rcases kV A with e|e|e|e|e|e|e|e|e|e|e<;>exact hc _ s_ e
  rcases aj with ⟨_,_,_,_,_,A,_⟩|⟨_,_,_,_,_,_,A,_⟩|⟨_,_,_,_,_,_,A,_⟩|⟨_,_,_,_,_,_,_,_,A,_⟩|⟨_,_,_,_,_,_,A,_⟩|⟨_,_,_,A,_⟩|⟨_,_,_,_,A,_⟩|⟨_,_,_,_,A,_⟩|⟨_,_,_,_,A,_⟩
  all_goals exact bl _ s_ A
def EB(c:e_.length<=1000000)(a:fs.length<=1000000)(b:∀k,k<fs.length->fp k=.pointer (some ⟨fb k,0,none⟩)):∀d,GP fp fb fs cb lo F a_ e_ d
 |0=>λ_ _ _ _ _ _ h=>h.elim
 |d+1=>OM (EB c a b d) c a b
end
def wL(w:World)(cb g n d:Nat)(C:Nat->World->Prop)(y:n<=1000000)(l:C 0 w)
 (q:Hid (∀j W,C j W->j<n->g<W.heap.size/\∃t z,W.cell? ⟨g,j,none⟩=some (.iface t z)/\Calls prog 201 #[.pointer (some ⟨cb,0,none⟩),.iface t z] W λe w'=>e=.returned (.tuple #[])/\C (j+1) w')):
 Calls prog 149 #[.pointer (some ⟨cb,0,none⟩),.slice (some ⟨g,0,none⟩) n d] w λe w'=>e=.returned (.tuple #[])/\C n w':=by
 have o:=aB l;clear l;go_enter func149,ntmps149;go_wp2_with fail;go_loopg [5,8] n (λgk _ i wr=>∃j:Nat,j+gk=n/\i=.int .i64 j/\C j wr)
 case atStart=>exact⟨0,o_,rfl,o.out⟩
 case round=>
  obtain⟨j,B,rfl,b⟩:=hrel;by_cases c:j<n
  ·obtain⟨m,rfl⟩:∃m,gk=m+1:=⟨gk-1,o_⟩
   obtain⟨u,t,z,x,a⟩:=q.out _ _ b c;have r:=aB a;have A:(0:Int)<=(j:Int):=o_
   have v:(j:Int)<(n:Int):=o_
   clear b a;go_wp2_with fail;refine r.out.mono ?_;rintro e s ⟨rfl,p⟩;go_wp2_with fail;go_roundg m
   case measure=>omega
   case rel=>exact⟨j+1,o_,by go_num,p⟩
  ·have f:j=n:=o_
   subst f;have k:=aB b;clear b;go_wp2_with fail;go_end0;exact⟨rfl,k.out⟩
def yL(w:World)(cb:Nat):Calls prog 149 #[.pointer (some ⟨cb,0,none⟩),.slice none 0 0] w λe w'=>e=.returned (.tuple #[])/\w'=w:=by
 go_enter func149,ntmps149;go_wp2_with fail;go_loopg [5,8] 0 (λ_ _ i wr=>i=.int .i64 0/\wr=w)
 case atStart=>exact⟨rfl,rfl⟩
 case round=>
  obtain⟨rfl,rfl⟩:=hrel;go_wp2_with fail;go_end0;exact⟨rfl,rfl⟩
def stC_seen{e_:List (List UInt8)}{a:aC}(p:Nat)(h:gB fs d e_ a):(bP fs d e_ a p).2=cO e_ a:=
 (kS fs d e_ a (λ_ _=>False) p h ⟨λ_ _ _ h=>h.elim,λ_ _ h=>h.elim⟩).2.1
def StsOk.split{S:List (List UInt8)->aC->Prop}:∀{l m:List aC} {e_:List (List UInt8)},Hs.StsOk S e_ (l++m)->Hs.StsOk S e_ l/\Hs.StsOk S (dB e_ l) m
 |[],_,_,h=>⟨trivial,h⟩
 |_::_,_,_,h=>by
  obtain⟨c,a⟩:=h;obtain⟨d,b⟩:=StsOk.split a;exact⟨⟨c,d⟩,b⟩
def pH:∀(l m:List aC) (e_:List (List UInt8)),dB e_ (l++m)=dB (dB e_ l) m
 |[],_,_=>rfl
 |a::l,m,e_=>pH l m (cO e_ a)
def pD:∀{l:List aC} (m:List aC) {e_:List (List UInt8)} (p:Nat),Hs.StsOk (gB fs d) e_ l->cB (bP fs d) e_ (l++m) p=cB (bP fs d) e_ l p++cB (bP fs d) (dB e_ l) m (p+(cB (bP fs d) e_ l p).length)
 |[],m,e_,p,_=>by simp[cB,dB]
 |a::l,m,e_,p,h=>by
  obtain⟨c,b⟩:=h;rw[J3,cB,cB,stC_seen p c,pD m _ b,I6,F8,P3];rfl
def VB(a:aC)(e_:List (List UInt8))(p:Nat):cB (bP fs d) e_ [a] p=(bP fs d e_ a p).1:=by simp[cB]
def YC(fp:Nat->Value)(fb:Nat->Nat)(nms:List (List UInt8))(cb:Nat)(F:Nat->Prop)(w:World)(code:List (Option aJ))(e_:List (List UInt8))(w':World):Prop:=
 ∃G,(∀k,F k->G k)/\gE fp fb nms cb G w code e_ w'
def ZV(fp:Nat->Value)(fb:Nat->Nat)(fs:List aC)(cb lo:Nat)(d:Nat):Prop:=
 ∀(F:Nat->Prop) (e_:List (List UInt8)) (v:Value) (a:aC) (code:List (Option aJ)) (w:World),CP fp fb (fs.map (·.x_)) cb F w code e_->PN (Btw lo cb) w v a->gB fs d e_ a->AN a->e_.length<=90001->code.length+(bP fs d e_ a code.length).1.length<=1000000->
  Calls prog 201 #[.pointer (some ⟨cb,0,none⟩),v] w λe w'=>e=.returned (.tuple #[])/\YC fp fb (fs.map (·.x_)) cb F w (code++(bP fs d e_ a code.length).1.map some) (bP fs d e_ a code.length).2 w'
section
variable {fp:Nat->Value} {fb:Nat->Nat} {fs:List aC} {cb lo:Nat} {F:Nat->Prop} {e_:List (List UInt8)} {d:Nat}
def YC.then{w w1 w':World}{b:List (List UInt8)}{a:List (Option aJ)}(c:FB cb w w1)(h:YC fp fb b cb F w1 a e_ w'):YC fp fb b cb F w a e_ w':=by
 obtain⟨G,d,h⟩:=h;exact⟨G,d,h.then c⟩
def YC.more{G:Nat->Prop}{w w':World}{b:List (List UInt8)}{a:List (Option aJ)}(e:∀k,F k->G k)(h:YC fp fb b cb G w a e_ w'):YC fp fb b cb F w a e_ w':=by
 obtain⟨H,d,h⟩:=h;exact⟨H,λk c=>d k (e k c),h⟩
def RF{fs:List aC}{d:Nat}{e_:List (List UInt8)}{a:aC}(h:gB fs d e_ a)(f:e_.length<=90001):(cO e_ a).length<=90001:=by
 cases d with
 |zero=>exact h.elim
 |succ d=>
  unfold cO;split
  ·rename_i c;rcases h with ⟨_,b,t,v,e,_⟩|⟨b,_⟩|⟨b,_⟩|⟨b,_⟩|⟨b,_⟩|⟨b,_⟩|⟨b,_⟩
   ·rw[e];simp;omega
   all_goals exact absurd (c.symm.trans b) d_
  ·exact f
def vJ{fs:List aC}{d:Nat}:∀{l:List aC} {e_:List (List UInt8)},Hs.StsOk (gB fs d) e_ l->e_.length<=90001->(dB e_ l).length<=90001
 |[],_,_,h=>h
 |a::l,e_,c,h=>by
  obtain⟨e,b⟩:=c;exact vJ (l:=l) (e_:=cO e_ a) b (RF e h)
end
section
variable {fp:Nat->Value} {fb:Nat->Nat} {fs:List aC} {cb lo:Nat} {F:Nat->Prop} {e_:List (List UInt8)} {d:Nat}
def F3(fp:Nat->Value)(fb:Nat->Nat)(nms:List (List UInt8))(cb:Nat)(F:Nat->Prop)(w w1:World)(b:Nat)(o:Obj)(e_:List (List UInt8))(c:List (Option aJ))(W:World):Prop:=
 ∃G,(∀k,F k->G k)/\gE fp fb nms cb G w c e_ W/\Loc cb w1 b o W
def F3.fin{a:List (List UInt8)}{w w1 W:World}{b:Nat}{o:Obj}{c:List (Option aJ)}(e:F3 fp fb a cb F w w1 b o e_ c W):YC fp fb a cb F w c e_ W:=by
 obtain⟨G,f,d,_⟩:=e;exact⟨G,f,d⟩
end
section
variable {fp:Nat->Value} {fb:Nat->Nat} {fs:List aC} {cb lo:Nat} {d:Nat}
def Prt.ok.below{w w':World}{p:Prt}(h:Prt.ok (Btw lo cb) w p)(d:Below cb w w'):Prt.ok (Btw lo cb) w' p:=by
 rcases h with ⟨c,b,a,e⟩|⟨c,a⟩
 ·exact F7 ⟨c,b,a,e.below d⟩
 ·exact F5 ⟨c,PKid.below a d⟩
end
def UF(w:World)(cb:Nat)(l:Int)(K:ByteArray)(s f:Option Addr)(b H p r:Nat)(P:Value->World->Prop)(I:Nat->World->Prop)(Q R S:World->Prop)(hl:cb<w.heap.size)(U:b<=1000000)
 (c1:∃u,w.cell? ⟨cb,1,none⟩=some u) (v:∃u,w.cell? ⟨cb,2,none⟩=some u) (Y:w.frozen? ⟨cb,1,none⟩=false) (f2:w.frozen? ⟨cb,2,none⟩=false)
 (L:Hid (I 0 (((w.setCell ⟨cb,1,none⟩ (.slice none 0 0)).setCell ⟨cb,2,none⟩ (.pointer none)).alloc (.cells #[.int .i64 l,.string K,.slice s b H,.slice f p r] 159))))
 (HP:Hid (∀j W,I j W->j<b->∃d C o,s=some ⟨d,0,none⟩/\d<W.heap.size/\W.cell? ⟨d,j*2,none⟩=some (.int .i64 C)/\W.cell? ⟨d,j*2+1,none⟩=some (.string o)/\Calls prog 148 #[.pointer (some ⟨cb,0,none⟩),.string o] (W.alloc (.cells #[.int .i64 C,.string o] 155)) λe w'=>e=.returned (.tuple #[])/\I (j+1) w'))
 (Z:Hid (∀W,I b W->W.cell? ⟨w.heap.size,3,none⟩=some (.slice f p r)/\w.heap.size<W.heap.size/\Calls prog 149 #[.pointer (some ⟨cb,0,none⟩),.slice f p r] W λe w'=>e=.returned (.tuple #[])/\Q w'))
 (HE:Hid (∀W,Q W->Calls prog 150 #[.pointer (some ⟨cb,0,none⟩),.iface 242 (.agg #[.iface 229 (.int .i64 0)])] W λe w'=>(∃k:Nat,e=.returned (.int .i64 k))/\R w'))
 (X:Hid (∀W,R W->Calls prog 150 #[.pointer (some ⟨cb,0,none⟩),.iface 244 (.agg #[])] W λe w'=>(∃k:Nat,e=.returned (.int .i64 k))/\S w'))
 (HS:Hid (∀W,S W->cb<W.heap.size/\∃x n c,W.cell? ⟨cb,1,none⟩=some (.slice x n c)/\P (.slice x n c) W)):
 Calls prog 102 #[.pointer (some ⟨cb,0,none⟩),.agg #[.int .i64 l,.string K,.slice s b H,.slice f p r]] w λe w'=>∃E,e=.returned E/\P E w':=by
 obtain⟨u1,c1⟩:=c1;obtain⟨u2,v⟩:=v;have T:¬cb=w.heap.size:=o_
 have J:¬w.heap.size=cb:=o_
 go_enter func102,ntmps102;go_wp2_with fail;go_loopg [6,16] b (λgk _ i wr=>∃j:Nat,j+gk=b/\i=.int .i64 j/\I j wr)
 case atStart=>exact⟨0,o_,rfl,L.out⟩
 case round=>
  obtain⟨j,hj,rfl,g⟩:=hrel;clear c1 v Y f2 L;by_cases t:j<b
  ·obtain⟨m,rfl⟩:∃m,gk=m+1:=⟨gk-1,o_⟩
   obtain⟨d,C,o,rfl,hg,F,O,a⟩:=HP.out _ _ g t;have B:=aB a;have e1:(0:Int)<=(j:Int):=o_
   have e2:(j:Int)<(b:Int):=o_
   clear g a;go_wp2_with fail;refine B.out.mono ?_;rintro e N ⟨rfl,q⟩;go_wp2_with fail;go_roundg m
   case measure=>omega
   case rel=>exact⟨j+1,o_,by go_num,q⟩
  ·have y:j=b:=o_
   subst y;obtain⟨F,O,a⟩:=Z.out _ g;have B:=aB a;clear g a;go_wp2_with fail;refine B.out.mono ?_;rintro e N ⟨rfl,q⟩;have A:=aB (HE.out _ q);clear q F;go_wp2_with fail;refine A.out.mono ?_;rintro e w2 ⟨⟨k,rfl⟩,D⟩;have z:=aB (X.out _ D);clear D;go_wp2_with fail;refine z.out.mono ?_;rintro e w3 ⟨⟨k2,rfl⟩,G⟩;obtain⟨g1,x,n,c,g2,M⟩:=HS.out _ G;have V:=aB M;clear G M;go_wp2_with fail;go_ret;exact⟨_,rfl,V.out⟩
def YW:(prog.info? 129).map (λi=>(i.zero,i.size,i.bytes))=some (some (.pointer none),1,8):=k_
def GH(w:World)(p n ad:Nat)(P:Value->World->Prop)(H:Nat->World->Prop)(K:Nat->World->Prop)(hn:n<=1000000)
 (H0:Hid (H 0 (w.alloc (.cells #[.slice none 0 0,.slice none 0 0,.pointer none] 193))))
 (Y:Hid (∀j W,H j W->j<n->w.heap.size<W.heap.size/\p<W.heap.size/\∃l t z s r q y f x c M O L,W.cell? ⟨p,j*4,none⟩=some (.int .i64 l)/\W.cell? ⟨p,j*4+1,none⟩=some (.string t)/\W.cell? ⟨p,j*4+1+1,none⟩=some (.slice z s r)/\W.cell? ⟨p,j*4+1+1+1,none⟩=some (.slice q y f)/\
   W.heap[w.heap.size]?=some (.cells #[.slice x j c,O,L] 193 (0,0))/\W.ownsRow (w.heap.size+1) 129 1 (.slice x j c) j M/\
   ∀W3 F d D,W3=((W.alloc (.cells #[.int .i64 l,.string t,.slice z s r,.slice q y f] 159)).alloc (.cells #[.string t,.slice none 0 0] 174)).alloc (.cells #[.pointer (some ⟨W.heap.size+1,0,none⟩)] 129)->
    D.ownsRow (w.heap.size+1) 129 1 (.slice (some ⟨F,0,none⟩) (j+1) d) (j+1) (M++[.pointer (some ⟨W.heap.size+1,0,none⟩)])->W3.grownBy D (Value.slice x j c).ownBlock->((Value.slice x j c).ownBlock=some F\/F=W.heap.size+3)->D.heap[w.heap.size]?=some (.cells #[.slice x j c,O,L] 193 (0,0))->H (j+1) (D.setCell ⟨w.heap.size,0,none⟩ (.slice (some ⟨F,0,none⟩) (j+1) d))))
 (I:Hid (∀W,H n W->K 0 W))
 (H2:Hid (∀j W,K j W->j<n->w.heap.size<W.heap.size/\p<W.heap.size/\∃l t z s r q y f g c fb,W.cell? ⟨p,j*4,none⟩=some (.int .i64 l)/\W.cell? ⟨p,j*4+1,none⟩=some (.string t)/\W.cell? ⟨p,j*4+1+1,none⟩=some (.slice z s r)/\W.cell? ⟨p,j*4+1+1+1,none⟩=some (.slice q y f)/\
   W.cell? ⟨w.heap.size,0,none⟩=some (.slice (some ⟨g,0,none⟩) n c)/\g<W.heap.size/\W.cell? ⟨g,j,none⟩=some (.pointer (some ⟨fb,0,none⟩))/\
   ∀W',bV (W.alloc (.cells #[.int .i64 l,.string t,.slice z s r,.slice q y f] 159)) W'->Calls prog 102 #[.pointer (some ⟨w.heap.size,0,none⟩),.agg #[.int .i64 l,.string t,.slice z s r,.slice q y f]] W' λe w'=>∃x n3 c3,e=.returned (.slice x n3 c3)/\
    w.heap.size<w'.heap.size/\(∃Q f,w'.cell? ⟨w.heap.size,0,none⟩=some (.slice (some ⟨Q,0,none⟩) n f)/\Q<w'.heap.size/\w'.cell? ⟨Q,j,none⟩=some (.pointer (some ⟨fb,0,none⟩)))/\g<w'.heap.size/\w'.cell? ⟨g,j,none⟩=some (.pointer (some ⟨fb,0,none⟩))/\fb<w'.heap.size/\(∃u,w'.cell? ⟨fb,1,none⟩=some u)/\w'.frozen? ⟨fb,1,none⟩=false/\K (j+1) (w'.setCell ⟨fb,1,none⟩ (.slice x n3 c3))))
 (H3:Hid (∀W,K n W->Calls prog 103 #[.pointer (some ⟨w.heap.size,0,none⟩),.string ⟨#[109,97,105,110]⟩] W λe w'=>∃v,e=.returned (.pointer v)/\P (.pointer v) w')):
 Calls prog 66 #[.slice (some ⟨p,0,none⟩) n ad] w λe w'=>∃v,e=.returned v/\P v w':=by
 obtain⟨i0,hi,aa,ae,ab⟩:=info_parts YW;go_enter func66,ntmps66;go_wp2_with fail;go_loopg [5,10] n (λgk _ i wr=>∃j:Nat,j+gk=n/\i=.int .i64 j/\H j wr)
 case atStart=>exact⟨0,o_,rfl,H0.out⟩
 case round=>
  obtain⟨j,hj,rfl,A⟩:=hrel;clear H0;by_cases E:j<n
  ·obtain⟨m,rfl⟩:∃m,gk=m+1:=⟨gk-1,o_⟩
   obtain⟨G,Z,l,t,z,s,r,q,y,f,x,c,M,O,L,d1,d2,d3,d4,N,V,U⟩:=Y.out _ _ A E;have HO:=aB V;have HB:=aB N;have HK:=aB U;have q0:wr.cell? ⟨w.heap.size,0,none⟩=some (.slice x j c):=aA N rfl;have e1:(0:Int)<=(j:Int):=o_
   have e2:(j:Int)<(n:Int):=o_
   clear A N V U Y;have HN:Hid (∀W:World,W.heap[wr.heap.size+1+1]?=some (.cells #[.pointer (some ⟨wr.heap.size+1,0,none⟩)] 129 (0,0))->∀k v,([.pointer (some ⟨wr.heap.size+1,0,none⟩)]:List Value)[k]?=some v->W.cell? ((⟨wr.heap.size+1+1,0,none⟩:Addr).add k)=some v):=λW hW k v hk=>World.news_of_block hW k v (by simpa using hk)
   have HL:Hid ((((wr.alloc (.cells #[.int .i64 l,.string t,.slice z s r,.slice q y f] 159)).alloc (.cells #[.string t,.slice none 0 0] 174)).alloc (.cells #[.pointer (some ⟨wr.heap.size+1,0,none⟩)] 129)).heap[wr.heap.size+1+1]?=some (.cells #[.pointer (some ⟨wr.heap.size+1,0,none⟩)] 129 (0,0))):=aU _ _ s_ _
   have B:∀v∈([.pointer (some ⟨wr.heap.size+1,0,none⟩)]:List Value),v.oneCell'=true:=λv hv=>by simp at hv;rw[hv];rfl
   have HONE:=aB B;clear B;go_wp2_with (at_builtin;refine wpList_append_lies _ r_ _ _ 191 r_ (w.heap.size+1) 129 i0 _ 1 8 underlying191 hi aa ae ab rfl d_ (.slice x j c) j M r_ (((HO.out.alloc _).alloc _).alloc _) ⟨wr.heap.size+1+1,0,none⟩ 1 1 [_] r_ r_ (HN.out _ HL.out) HONE.out d_ (by unfold maxLen;omega) o_ t_ (wr.heap.size+3) s_ ?_)
   intro F d D o b C ac;have T:some w.heap.size≠(Value.slice x j c).ownBlock:=λe=>by have:=(HO.out.lt _ e.symm).1;omega
   have a:D.heap[w.heap.size]?=some (.cells #[.slice x j c,O,L] 193 (0,0)):=by
    rw[b.block _ t_ T,G7 _ _ _ t_,G7 _ _ _ t_,G7 _ _ _ G];exact HB.out
   have ag:D.cell? ⟨w.heap.size,0,none⟩=some (.slice x j c):=aA a rfl;have ai:=aE a (i:=0);have af:=aD a;have HFIN:=aB (HK.out _ F d D rfl o b C a);clear o b C a ac q0 d1 d2 d3 d4;go_wp2_with fail;go_roundg m
   case measure=>omega
   case rel=>exact⟨j+1,o_,by go_num,HFIN.out⟩
  ·have X:j=n:=o_
   subst X;have J:=aB (I.out _ A);clear A I Y;go_wp2_with fail;go_loopg [6,7,27] j (λgk _ _ i wr=>∃k:Nat,k+gk=j/\i=.int .i64 k/\K k wr)
   case atStart=>exact⟨0,o_,rfl,J.out⟩
   case round=>
    obtain⟨k,aj,rfl,A⟩:=hrel;clear J;by_cases E:k<j
    ·obtain⟨m,rfl⟩:∃m,gk=m+1:=⟨gk-1,o_⟩
     obtain⟨G,Z,l,t,z,s,r,q,y,f,g,c,fb,d1,d2,d3,d4,N,V,U,d8⟩:=H2.out _ _ A E;have HX:=aB (d8 _ (bV.drew _));have e1:(0:Int)<=(k:Int):=o_
     have e2:(k:Int)<(j:Int):=o_
     clear A d8 H2 H3;go_wp2_with fail;go_region_law (go_simp;go_at_call 102;refine HX.out.mono ?_;rintro e w1 ⟨x,n3,c3,rfl,a1,⟨Q,ah,b1,b2,b3⟩,a3,a4,a5,⟨u,a6⟩,a7,a8⟩;have HF:=aB a8;clear a8)
     all_goals
      go_wp2_with fail;go_roundg m
      case measure=>omega
      case rel=>exact⟨k+1,o_,by go_num,HF.out⟩
    ·have S:k=j:=o_
     subst S;have HX:=aB (H3.out _ A);clear A H2 H3;go_wp2_with fail;refine HX.out.mono ?_;rintro e w1 ⟨v,rfl,h1⟩;have HF:=aB h1;clear h1;go_wp2_with fail;go_ret;exact⟨_,rfl,HF.out⟩
section
variable {fp:Nat->Value} {fb:Nat->Nat} {fs:List aC} {cb lo d:Nat} {F:Nat->Prop}
def CQ(fp:Nat->Value)(fb:Nat->Nat)(nms:List (List UInt8))(cb:Nat)(F:Nat->Prop)(w:World):Prop:=
 (∃fv cv sp,w.heap[cb]?=some (.cells #[fv,cv,sp] 193 (0,0))/\EI fp fb nms F w fv)/\∀k,F k->k<w.heap.size/\k≠cb
def DO(fs:List aC)(d:Nat){f b:aC}{ps:List aC}(a:f.y_=ps++[b]):(eY fs d f).code=cB (bP fs d) (ps.map (·.x_)).reverse b.y_ 0++[.push (aL 0),.give]:=by simp[eY,a]
end
def XT(w:World)(b:Nat):Prop:=∀c,w.heap[b]?≠some (.cells c 174 (0,0))
def eS.notFn:∀{l:List (List UInt8)} {v:Value},eS F w v l->eS (λb=>F b/\XT w b) w v l
 |[],_,h=>h
 |_::_,_,⟨b,o,g,d,a,f⟩=>⟨b,o,g,⟨d,λc e=>by rw[a] at e;cases e⟩,a,eS.notFn f⟩
def VR.notFn:∀{d:Nat} {v:Value} {a:aH},VR d F w v a->VR d (λb=>F b/\XT w b) w v a
 |0,_,_,h=>h.elim
 |d+1,v,a,h=>by
  rcases h with h|h|h|⟨s,l,q,p,k⟩
  ·exact F7 h
  ·exact F5 (F7 h)
  ·exact F5 (F5 (F7 h))
  ·refine F5 (F5 (F5 ⟨s,l,q,p,?_⟩));rcases k with k|⟨g,f,j,y,r,m,z,o⟩
   ·exact F7 k
   ·refine F5 ⟨g,f,j,y,⟨r,λc e=>by rw[m] at e;cases e⟩,m,z,λi t=>?_⟩
    obtain⟨u,n,x⟩:=o i t;exact⟨u,n,VR.notFn x⟩
def iX.notFn{i:aJ}(h:iX fp F w v i):iX fp (λb=>F b/\XT w b) w v i:=by
 cases i<;>first
  |exact h
  |(obtain⟨e,c,a⟩:=h;exact⟨e,c,a.notFn⟩)
  |(obtain⟨u,c,⟨d,a⟩,f⟩:=h;exact⟨u,c,⟨d,a.notFn⟩,f⟩)
def iX.setFn{u:Value}{i:aJ}{b o:Nat}{c:Array Value}(h:iX fp F w v i)(d:w.heap[b]?=some (.cells c 174 (0,0)))(f:∀b,F b->G b):iX fp G (w.setCell ⟨b,o,none⟩ u) v i:=
 h.notFn.keep (λk a=>G0 _ _ _ _ λe=>a.2 c (by rw[e];exact d)) λk a=>f k a.1
section
variable {fp:Nat->Value} {fb:Nat->Nat} {nms:List (List UInt8)} {cb:Nat} {F:Nat->Prop} {w:World}
def GJ(a:List UInt8)(h:CQ fp fb nms cb F w)(v:a∈nms)(N:nms.length<=1000000):
 Calls prog 103 #[.pointer (some ⟨cb,0,none⟩),.string (bs a)] w λe w'=>e=.returned (fp (nms.findIdx λx=>x==a))/\w'=w:=by
 obtain⟨⟨S,K,I,p,B⟩,_⟩:=h;rcases B with ⟨rfl,_⟩|⟨g,q,rfl,G,t,H,b⟩
 ·cases v
 have M:=aD p;have L:w.cell? ⟨cb,0,none⟩=some (.slice (some ⟨g,0,none⟩) nms.length q):=aA p rfl;have u:=aB b;clear p b;go_enter func103,ntmps103;go_wp2_with fail;go_loopg [6,12] nms.length (λgk _ i wr=>∃j:Nat,j+gk=nms.length/\i=.int .i64 j/\j<=nms.findIdx (λx=>x==a)/\wr=w)
 case atStart=>exact⟨0,o_,rfl,K5 _,rfl⟩
 case round=>
  obtain⟨j,Q,rfl,f,rfl⟩:=hrel;have s:nms.findIdx (λx=>x==a)<nms.length:=List.findIdx_lt_length_of_exists ⟨a,v,s_⟩
  have o:j<nms.length:=o_
  obtain⟨m,rfl⟩:∃m,gk=m+1:=⟨gk-1,o_⟩
  obtain⟨E,k,P,x,n⟩:=u.out j o;rw[k] at E;have D:wr.cell? ⟨fb j,0,none⟩=some (.string (bs nms[j])):=aA n rfl;have z:=aD n;have O:(0:Int)<=(j:Int):=o_
  have J:(j:Int)<(nms.length:Int):=o_
  by_cases l:nms[j]=a
  ·have r:nms.findIdx (λx=>x==a)=j:=by
    refine Nat.le_antisymm (Nat.not_lt.1 λc=>?_) f
    have:=List.not_of_lt_findIdx c;simp[l] at this
   have C:=aB k;rw[l] at D;clear n k u;go_wp2_with fail;go_ret;exact⟨by rw[r,C.out];rfl,rfl⟩
  ·have A:((bs nms[j]).toList==(bs a).toList)=false:=by rw[bT,bT];simpa using l
   have d:j+1<=nms.findIdx (λx=>x==a):=by
    rcases M3 f with e|e
    ·have:=O4 (w:=s);simp only[<-e] at this;simp at this;exact absurd this l
    ·exact e
   generalize nms[j]=y at*;clear n k;go_wp2_with fail;go_roundg m
   case measure=>omega
   case rel=>exact⟨j+1,o_,by go_num,d,rfl⟩
end
def lZ(bl:List Nat)(k:Nat):Nat:=bl[k]?.getD 0
def zN(bl:List Nat)(k:Nat):Value:=.pointer (some ⟨lZ bl k,0,none⟩)
def mV{a:List Nat}{k:Nat}(h:k<a.length):lZ a k=a[k]:=by simp[lZ,h]
def CI1(w:World)(fs:List aC)(j:Nat)(W:World):Prop:=
 ∃(x:Option Addr) (c:Nat) (bl:List Nat),j<=fs.length/\W.heap[w.heap.size]?=some (.cells #[.slice x j c,.slice none 0 0,.pointer none] 193 (0,0))/\bl.length=j/\W.ownsRow (w.heap.size+1) 129 1 (.slice x j c) j (bl.map λb=>.pointer (some ⟨b,0,none⟩))/\bl.Nodup/\
  (∀i (h:i<fs.length),∀b,bl[i]?=some b->W.heap[b]?=some (.cells #[.string (bs fs[i].x_),.slice none 0 0] 174 (0,0))/\w.heap.size<b/\b<W.heap.size/\(Value.slice x j c).ownBlock≠some b)/\Below w.heap.size w W
def CI2(w:World)(fs:List aC)(d j:Nat)(W:World):Prop:=
 ∃(bl:List Nat) (F:Nat->Prop),bl.length=fs.length/\(bl.Nodup/\∀b∈bl,w.heap.size<b)/\j<=fs.length/\CQ (zN bl) (lZ bl) (fs.map (·.x_)) w.heap.size F W/\Below w.heap.size w W/\∀i (h:i<fs.length),i<j->UI (zN bl) F W (zN bl i) (eY fs d fs[i])
def CI1.zero(w:World)(fs:List aC):CI1 w fs 0 (w.alloc (.cells #[.slice none 0 0,.slice none 0 0,.pointer none] 193)):=
 ⟨none,0,[],K5 _,aU _ _ rfl _,rfl,World.ownsRow_nil _ _ _ _,List.nodup_nil,λi h b a=>by simp at a,(F9 _ _).alloc (F6 _) _⟩
def CI1.next{z y:World}{j n f:Nat}{x:Option Addr}{c:Nat}{q:List Nat}{M O:Obj}(Q:j<fs.length)
 (r:q.length=j) (C:q.Nodup) (p:∀i (h:i<fs.length),∀b,q[i]?=some b->W.heap[b]?=some (.cells #[.string (bs fs[i].x_),.slice none 0 0] 174 (0,0))/\w.heap.size<b/\b<W.heap.size/\(Value.slice x j c).ownBlock≠some b) (u:Below w.heap.size w W) (J:w.heap.size<W.heap.size)
 (o:W.ownsRow (w.heap.size+1) 129 1 (.slice x j c) j (q.map λb=>.pointer (some ⟨b,0,none⟩)))
 (D:z=((W.alloc M).alloc (.cells #[.string (bs fs[j].x_),.slice none 0 0] 174)).alloc O)
 (H:y.ownsRow (w.heap.size+1) 129 1 (.slice (some ⟨n,0,none⟩) (j+1) f) (j+1) ((q.map λb=>.pointer (some ⟨b,0,none⟩))++[.pointer (some ⟨W.heap.size+1,0,none⟩)]))
 (d:z.grownBy y (Value.slice x j c).ownBlock) (s:(Value.slice x j c).ownBlock=some n\/n=W.heap.size+3)
 (F:y.heap[w.heap.size]?=some (.cells #[.slice x j c,.slice none 0 0,.pointer none] 193 (0,0))):
 CI1 w fs (j+1) (y.setCell ⟨w.heap.size,0,none⟩ (.slice (some ⟨n,0,none⟩) (j+1) f)):=by
 have K:z.heap.size=W.heap.size+3:=by rw[D];simp
 have N:=d.size;have t:n≠w.heap.size:=by have:=(H.lt n rfl).1;omega
 have v:Below W.heap.size W z:=by rw[D];exact(((F9 _ _).alloc (F6 _) _).alloc s_ _).alloc t_ _
 refine⟨some ⟨n,0,none⟩,f,q++[W.heap.size+1],Q,?_,by simp[r],?_,?_,λi E b l=>?_,?_⟩
 ·rw[aO F];rfl
 ·rw[K4];exact bB H λk G=>G0 _ _ _ _ (by cases G;exact t)
 ·refine K9.2 ⟨C,s_,λa T b l=>?_⟩
  simp at l;obtain⟨i,E,rfl⟩:=List.getElem_of_mem T;have:=(p i o_ _ (H7 E)).2.2.1
  omega
 ·rcases J8 i q.length with m|m
  ·rw[J7 m] at l;obtain⟨P,L,S,I⟩:=p i E b l;refine⟨?_,L,t_,λe=>?_⟩
   ·rw[G0 _ _ _ _ (show b≠w.heap.size by omega),d.block b o_ (λe=>I e.symm),v.block b S];exact P
   ·have B:n=b:=by simpa [Value.ownBlock] using e
    rcases s with h|h
    ·exact I (by rw[<-B];exact h)
    ·omega
  ·rw[I3 m] at l
   have A:i=j:=by
    rcases M3 m with h|h
    ·omega
    ·rw[J0 t_] at l;cases l
   subst A;rw[r,Nat.sub_self] at l;simp at l;subst l;have g:(Value.slice x i c).ownBlock≠some (W.heap.size+1):=λe=>by have:=(o.lt _ e).2;omega
   refine⟨?_,o_,t_,λe=>?_⟩
   ·rw[G0 _ _ _ _ (show W.heap.size+1≠w.heap.size by omega),d.block _ o_ (λe=>g e.symm),D,G7 _ _ _ s_]
    exact aU _ _ s_ _
   ·have B:n=W.heap.size+1:=by simpa [Value.ownBlock] using e
    rcases s with h|h
    ·exact g (by rw[<-B];exact h)
    ·omega
 ·refine((u.trans (v.mono o_)).trans ?_).setCell (F6 _) _
  exact⟨d.os,d.tape,d.output,o_,λk G=>d.block k o_ (λe=>by have:=(o.lt k e.symm).1;omega)⟩
def PT(fs:List aC)(k:Nat)(h:k<(fs.map (·.x_)).length):(fs.map (·.x_))[k]=(fs[k]'(by simpa using h)).x_:=s_
def GN(g j:Nat):(⟨g,0,none⟩:Addr).add j=⟨g,j,none⟩:=by unfold Addr.add;split<;>simp_all
def CI2.zero(n:fs≠[])(h:CI1 w fs fs.length W):CI2 w fs d 0 W:=by
 obtain⟨x,c,f,_,C,y,t,B,q,G⟩:=h;have s:0<fs.length:=M7.2 n;have e:=t;rcases t.2 with ⟨r,F⟩|⟨g,p,E,r,F,I,A,J⟩
 ·omega
 obtain⟨rfl,rfl⟩:x=some ⟨g,0,none⟩/\c=p:=by simpa using r
 have l:=e.lt g rfl;refine⟨f,λk=>k=g\/k∈f,y,⟨B,λb z=>?_⟩,K5 _,⟨⟨_,_,_,C,F5 ⟨g,c,s_,F7 rfl,by simp;exact A,l.2,λk j=>?_⟩⟩,λk j=>?_⟩,G,λi _ m=>by omega⟩
 ·obtain⟨i,m,rfl⟩:=List.getElem_of_mem z;exact(q i o_ f[i] (H7 m)).2.1
 ·have o:k<fs.length:=by simpa using j
  have a:k<f.length:=o_
  obtain⟨u,D,v,H⟩:=q k o f[k] (H7 a);refine⟨?_,rfl,F5 (by rw[mV a];exact H9 a),_,by rw[mV a,u,PT]⟩
  have:=e.cells (g:=g) rfl k (zN f k) (by simp[zN,mV a,a])
  rw[GN] at this;exact this
 ·rcases j with rfl|j
  ·exact⟨l.2,o_⟩
  ·obtain⟨i,m,rfl⟩:=List.getElem_of_mem j;obtain⟨u,D,v,H⟩:=q i o_ f[i] (H7 m)
   exact⟨v,o_⟩
def CI2.next{w1:World}{j:Nat}{a:List Nat}{sn:List (List UInt8)}{cv:Value}(hj:j<fs.length)(Y:a.length=fs.length)(t:a.Nodup/\∀b∈a,w.heap.size<b)(A:Below w.heap.size w W)(J:∀i (h:i<fs.length),i<j->UI (zN a) F W (zN a i) (eY fs d fs[i]))
 (s:∀k,F k->G k) (p:CP (zN a) (lZ a) (fs.map (·.x_)) w.heap.size G w1 ((eY fs d fs[j]).code.map some) sn) (X:w1.cell? ⟨w.heap.size,1,none⟩=some cv) (ad:Below w.heap.size W w1) (T:∀k,F k->w1.heap[k]?=W.heap[k]?) (ae:0<(eY fs d fs[j]).code.length):
 CI2 w fs d (j+1) (w1.setCell ⟨lZ a j,1,none⟩ cv):=by
 have r:j<a.length:=o_
 obtain⟨fv,V,sp,h1,⟨xs,h2,h3⟩,h4,h5⟩:=p.blk
 obtain rfl:V=cv:=by
  have:=aA h1 (i:=1) rfl;rw[X] at this;exact(Option.some.inj this).symm
 have n:j<(fs.map (·.x_)).length:=by simpa using hj
 rcases h5 with ⟨e,_⟩|⟨g,ac,rfl,k1,k2,k3,M⟩
 ·rw[e] at n;simp at n
 obtain⟨m1,m2,m3,x,B⟩:=M j n;have aa:=p.fix _ m3;rcases h2.2 with ⟨_,r2⟩|⟨v,c,P,rfl,r2,Z,r4,r5,r6,r7⟩
 ·rw[List.length_map] at r2;omega
 have Q:v≠lZ a j:=λe=>by rw[e,B] at Z;cases Z
 have E:∀k (h:k<(fs.map (·.x_)).length),g≠lZ a k:=λk m e=>by
  obtain⟨z1,z2,z3,z,O⟩:=M k m;obtain⟨y1,_⟩:=M 0 o_
  have:=aA O (i:=0) rfl;rw[<-e,y1] at this;cases this
 have f:∀k,k≠lZ a j->(w1.setCell ⟨lZ a j,1,none⟩ (.slice (some ⟨v,0,none⟩) ((eY fs d fs[j]).code.map some).length c)).heap[k]?=w1.heap[k]?:=λk m=>G0 _ _ _ _ m
 have I:(w1.setCell ⟨lZ a j,1,none⟩ (.slice (some ⟨v,0,none⟩) ((eY fs d fs[j]).code.map some).length c)).heap[lZ a j]?=some (.cells #[.string (bs (fs.map (·.x_))[j]),.slice (some ⟨v,0,none⟩) ((eY fs d fs[j]).code.map some).length c] 174 (0,0)):=by
  rw[aO B];rfl
 have l:∀i (L:i<a.length),i≠j->lZ a i≠lZ a j:=λi L D e=>by
  rw[mV L,mV r] at e;exact D ((List.getElem_inj t.1).1 e)
 refine⟨a,λk=>G k\/k=v,Y,t,hj,⟨⟨_,_,_,by rw[f _ (λe=>aa.2.1 e.symm)];exact h1,F5 ⟨g,ac,rfl,F7 k1,k2,by simpa using k3,λk m=>?_⟩⟩,λk m=>?_⟩,?_,λi L D=>?_⟩
 ·obtain⟨z1,z2,z3,z,O⟩:=M k m;refine⟨?_,z2,F7 z3,?_⟩
  ·rw[World.cell?_of_block (f g (E j n))];exact z1
  ·by_cases y:k=j
   ·subst y;exact⟨_,I⟩
   ·exact⟨z,by rw[f _ (l k (by simp at m;omega) y)];exact O⟩
 ·rcases m with m|rfl
  ·have:=p.fix k m;exact⟨by simpa using this.1,this.2.1⟩
  ·have:=h2.lt k rfl;exact⟨by simpa using this.2,o_⟩
 ·exact(A.trans ad).setCell (M6 (by show w.heap.size<lZ a j;rw[mV r];exact t.2 _ (H9 r))) _
 ·by_cases o:i=j
  ·subst o;refine⟨lZ a i,v,c,P,rfl,F7 m3,?_,F5 rfl,by rw[f _ Q];exact Z,λq N=>?_⟩
   ·rw[I,PT];simp only[List.length_map];rfl
   ·obtain⟨u,u1,u2⟩:=h3.2 q (some (eY fs d fs[i]).code[q]) (by simp[N])
    refine⟨u,?_,iX.setFn u2 B λ_ h=>F7 h⟩
    rw[<-r7] at u1;have ab:q<((eY fs d fs[i]).code.map some).length*1:=by simpa using N
    rw[List.getElem?_take_of_lt ab] at u1;simpa using u1
  ·obtain⟨U,H,K,C,a1,a2,a3,a4,a5,a6⟩:=J i L o_
   obtain rfl:U=lZ a i:=by simpa [zN] using a1.symm
   have b3:w1.heap[lZ a i]?=_:=(T _ a2).trans a3;have S:w1.heap[H]?=_:=(T _ a4).trans a5;refine⟨lZ a i,H,K,C,rfl,F7 (s _ a2),by rw[f _ (l i o_ o)];exact b3,F7 (s _ a4),by rw[f _ (λe=>by rw[e,B] at S;cases S)];exact S,λq N=>?_⟩
   obtain⟨u,u1,u2⟩:=a6 q N;exact⟨u,u1,iX.setFn (u2.keep T s) B λ_ h=>F7 h⟩
def LY(w:World)(D:Option Addr)(N Z:Nat)(Y:Option Addr)(X c1:Nat)(P:Value->World->Prop)(A:Value->World->Prop)(T:Value->Nat->Value->World->Prop)(B:Nat->World->Prop)
 (HC:Hid (Calls prog 66 #[.slice D N Z] (w.alloc (.cells #[.int .i64 0,.slice none 0 0,.slice none 0 0,.slice none 0 0,.int .i64 0] 72)) λe w'=>∃p,e=.returned (.pointer p)/\A (.pointer p) w'))
 (HT:Hid (∀p W,A (.pointer p) W->Calls prog 67 #[.slice Y X c1] (W.alloc (.cells #[.pointer p,.int .i64 0,.int .i64 0,.pointer none,.slice none 0 0,.slice none 0 0] 136)) λe w'=>∃x n c,e=.returned (.slice x n c)/\T (.pointer p) W.heap.size (.slice x n c) w'))
 (HG:Hid (∀p u x n c W,T (.pointer p) u (.slice x n c) W->Calls prog 68 #[.pointer (some ⟨W.heap.size,0,none⟩)] (W.alloc (.cells #[.int .i64 0,.slice (some ⟨u,0,none⟩) 1 1,.slice x n c,.slice none 0 0,.int .i64 0] 72)) λe w'=>e=.returned (.tuple #[])/\B W.heap.size w'))
 (HB:Hid (∀b W,B b W->∃(q:Nat) (f t o:Value) (m:Nat),W.heap[b]?=some (.cells #[.int .i64 q,f,t,o,.int .i64 m] 72 (0,0))/\(∃x l c,f=.slice x l c)/\(∃x l c,t=.slice x l c)/\(∃x l c,o=.slice x l c)/\W.heap[w.heap.size]?=some (.cells #[.int .i64 0,.slice none 0 0,.slice none 0 0,.slice none 0 0,.int .i64 0] 72 (0,0))/\b≠w.heap.size/\
   ∀r,Kept [w.heap.size] W r->r.heap.size=W.heap.size->P (.agg #[.int .i64 q,f,t,o,.int .i64 m]) r)):
 Calls prog 36 #[.slice D N Z,.slice Y X c1] w λe w'=>∃F,e=.returned F/\P F w':=by
 go_enter func36,ntmps36;go_wp2_with fail;refine HC.out.mono ?_;rintro e w1 ⟨p,rfl,M⟩;have k:=aB (HT.out _ _ M);generalize ab:w1.heap.size=u at k;clear M;go_wp2_with fail;refine k.out.mono ?_;rintro e w2 ⟨x,n,c,rfl,G⟩;have j:=aB (HG.out _ _ _ _ _ _ G);generalize hb:w2.heap.size=b at j;clear G;go_wp2_with fail;refine j.out.mono ?_;rintro e d ⟨rfl,K⟩;obtain⟨q,f,t,o,m,g,⟨L,H,Q,rfl⟩,⟨I,U,J,rfl⟩,⟨S,E,V,rfl⟩,a,q3,O⟩:=HB.out _ _ K;have HQ:=aB O;have aa:d.cell? ⟨b,0,none⟩=some (.int .i64 q):=aA g rfl;have am:d.cell? ⟨b,1,none⟩=some (.slice L H Q):=aA g rfl;have ah:d.cell? ⟨b,2,none⟩=some (.slice I U J):=aA g rfl;have al:d.cell? ⟨b,3,none⟩=some (.slice S E V):=aA g rfl;have af:d.cell? ⟨b,4,none⟩=some (.int .i64 m):=aA g rfl;have s:d.cell? ⟨w.heap.size,0,none⟩=some (.int .i64 0):=aA a rfl;have z:d.cell? ⟨w.heap.size,1,none⟩=some (.slice none 0 0):=aA a rfl;have v:d.cell? ⟨w.heap.size,2,none⟩=some (.slice none 0 0):=aA a rfl;have C:d.cell? ⟨w.heap.size,3,none⟩=some (.slice none 0 0):=aA a rfl;have y:d.cell? ⟨w.heap.size,4,none⟩=some (.int .i64 0):=aA a rfl;have ae:=aE (i:=0) a;have ak:=aE (i:=1) a;have ai:=aE (i:=2) a;have ac:=aE (i:=3) a;have ag:=aE (i:=4) a;have aj:=aD g;have ad:=aD a;clear K O g a;go_wp2_with fail;refine⟨rfl,.agg #[.int .i64 q,.slice L H Q,.slice I U J,.slice S E V,.int .i64 m],?_,_,rfl,HQ.out _ ?_ s_⟩
 ·simp[results,results36,go_sem,s,z,v,C,y]
 ·exact(((((Kept.refl _ _).setCell _ _ s_).setCell _ _ s_).setCell _ _ s_).setCell _ _ s_).setCell _ _ s_
def EG(w:World)(v:Value)(l:List Int):Prop:=
 (l=[]/\v=.slice none 0 0)\/∃g o c,v=.slice (some ⟨g,o,none⟩) l.length c/\g<w.heap.size/\∀i (h:i<l.length),w.cell? ⟨g,o+i,none⟩=some (.int .i64 l[i])/\ -9223372036854775808<=l[i]/\l[i]<=9223372036854775807
def AR(w:World)(v:Value)(l:List Int)(h:EG w v l)(D:l.length<=17592186044416):∃x n c,v=.slice x n c/\Calls prog 67 #[.slice x n c] w λe w'=>∃x n c,e=.returned (.slice x n c)/\Below w.heap.size w w'/\vY (λk=>w.heap.size<=k/\k<w'.heap.size) w' (.slice x n c) l:=by
 rcases h with ⟨rfl,rfl⟩|⟨g,o,c,rfl,G,t⟩
 ·refine⟨none,0,0,rfl,(BY w).mono ?_⟩;rintro e w' ⟨rfl,rfl⟩;exact⟨_,_,_,rfl,F9 _ _,F7 ⟨rfl,none,0,rfl⟩⟩
 ·refine⟨_,_,_,rfl,(BZ g o l.length c (l.map λn=>Value.int .i64 n) w s_ D (λj u d=>?_) (λu E=>?_)).mono ?_⟩
  ·rw[N9] at d;cases b:l[j]? with
   |none=>rw[b] at d;cases d
   |some n=>
    rw[b] at d;obtain⟨q,rfl⟩:=K6.1 b;rw[(t j q).1];exact d
  ·obtain⟨n,_,rfl⟩:=List.mem_map.1 E;rfl
  ·rintro e w' ⟨F,rfl,a,A⟩;obtain⟨x,r,rfl⟩:=dV a;refine⟨x,_,r,rfl,A,?_⟩;rcases a.2 with ⟨m,f⟩|⟨s,p,C,m,f,z,B⟩
   ·exact F7 ⟨N4.1 f,x,r,by rw[f]⟩
   ·refine F5 ⟨s,0,p,m,B.1,⟨f,aD z⟩,λi y=>⟨?_,(t i y).2⟩⟩
    have:=a.cells (g:=s) (by rw[m];rfl) i (.int .i64 l[i]) (by simp[y])
    rw[GN] at this;simpa using this
def UI.ptr{f:dN}(h:UI fp F w v f):∃p,v=.pointer p:=by
 obtain⟨b,_,_,_,a,_⟩:=h;exact⟨_,a⟩
def Kept.below{own:List Nat}{n:Nat}(h:Kept own w w')(d:n<=w.heap.size)(b:∀k∈own,n<=k):Below n w w':=
 ⟨h.os,h.tape,h.output,h.size,λk c=>h.block k o_ λa=>by have:=b k a;omega⟩
section
variable {fp:Nat->Value} {F:Nat->Prop} {w:World} {z:Nat} {c:Array Value} (hz:w.heap[z]?=some (.cells c 72 (0,0)))
include hz
def eS.off:∀{l:List (List UInt8)} {v:Value},eS F w v l->eS (λb=>F b/\b≠z) w v l
 |[],_,h=>h
 |_::_,_,⟨b,o,f,c,a,d⟩=>⟨b,o,f,⟨c,λe=>by rw[e,hz] at a;cases a⟩,a,eS.off d⟩
def VR.off:∀{d:Nat} {v:Value} {a:aH},VR d F w v a->VR d (λb=>F b/\b≠z) w v a
 |0,_,_,h=>h.elim
 |d+1,v,a,h=>by
  rcases h with h|h|h|⟨r,l,p,o,j⟩
  ·exact F7 h
  ·exact F5 (F7 h)
  ·exact F5 (F5 (F7 h))
  ·refine F5 (F5 (F5 ⟨r,l,p,o,?_⟩));rcases j with j|⟨g,c,f,x,q,k,y,n⟩
   ·exact F7 j
   ·refine F5 ⟨g,c,f,x,⟨q,λe=>by rw[e,hz] at k;cases k⟩,k,y,λi s=>?_⟩
    obtain⟨u,m,t⟩:=n i s;exact⟨u,m,VR.off t⟩
def iX.off{v:Value}{i:aJ}(h:iX fp F w v i):iX fp (λb=>F b/\b≠z) w v i:=by
 cases i<;>first
  |exact h
  |(obtain⟨e,c,a⟩:=h;exact⟨e,c,a.off hz⟩)
  |(obtain⟨u,c,⟨d,a⟩,f⟩:=h;exact⟨u,c,⟨d,a.off hz⟩,f⟩)
def jG.off{a:List dN}(h:jG fp F w a):jG fp (λb=>F b/\b≠z) w a:=λk f m=>by
 obtain⟨o,n,c,j,r,s,d,l,g,q⟩:=h k f m;refine⟨o,n,c,j,r,⟨s,λe=>by rw[e,hz] at d;cases d⟩,d,⟨l,λe=>by rw[e,hz] at g;cases g⟩,g,λi p=>?_⟩
 obtain⟨u,u1,u2⟩:=q i p;exact⟨u,u1,u2.off hz⟩
end
end Go.Proofs.YthbffcmfmjpncaaGreatDoor
