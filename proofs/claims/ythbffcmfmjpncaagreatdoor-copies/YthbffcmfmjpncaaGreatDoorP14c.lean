/- Contracts of the program: a fault is caught, whatever is done (2 variables are shared with it). -/
import Derived.Test.YthbffcmfmjpncaaGreatDoorP08c
import Derived.Test.YthbffcmfmjpncaaGreatDoorP13c
set_option linter.defProp false
set_option maxRecDepth 100000
set_option maxHeartbeats 4000000
namespace Go.Proofs.YthbffcmfmjpncaaGreatDoor
open Hs
open _root_.Go.Proofs.Tryz
open Instr(typeAssert)
open Go.RowKit
variable{fs:List aC}{d:Nat}
def QV(a:Nat)(p q:Option Addr)(w:World)(Q:World->Prop)(E:Nat->Nat->Prop)
 (c:∀W,(callFunc a #[.pointer p,.pointer q]).run prog W=.ok (.enter a #[.pointer p,.pointer q]) W)
 (x:∀o,o=(w.alloc (.cells #[.int .i64 0] 22)).alloc (.cells #[.int .i64 0] 3)->Calls prog a #[.pointer p,.pointer q] o λe w'=>
   (e=.returned (.tuple #[])/\w'.heap[w.heap.size]?=some (.cells #[.int .i64 0] 22 (0,0))/\w'.heap[w.heap.size+1]?=some (.cells #[.int .i64 0] 3 (0,0))/\Q w')\/
   ∃k n,k≠0/\e=.panicked [{ v:=.iface 98 (.agg #[.int .i64 (k:Nat),.int .i64 (n:Nat)]),recovered:=false }]/\Below o.heap.size o w'/\E k n):
 Calls prog 22 #[.func (.func a) #[] #[.pointer p,.pointer q]] w λe w'=>
  (e=.returned (.tuple #[.int .i64 0,.int .i64 0])/\∃d,Q d/\w'=(d.setCell ⟨w.heap.size,0,none⟩ (.int .i64 0)).setCell ⟨w.heap.size+1,0,none⟩ (.int .i64 0))\/
  ∃k n,k≠0/\e=.returned (.tuple #[.int .i64 (k:Nat),.int .i64 (n:Nat)])/\Below w.heap.size w w'/\E k n:=by
 have D:=O0;have m:Below w.heap.size w ((w.alloc (.cells #[.int .i64 0] 22)).alloc (.cells #[.int .i64 0] 3)):=((eh _ w).alloc (d7 _) _).alloc s_ _
 have A:=aB (x _ rfl);have I:=c ((w.alloc (.cells #[.int .i64 0] 22)).alloc (.cells #[.int .i64 0] 3));clear x c;go_enter_defers func22,ntmps22
 go_wp2_with fail;refine A.out.mono ?_;rintro e d (⟨rfl,l,g,y⟩|⟨k,n,z,rfl,b,B⟩)
 ·have F:=aB y;clear y;have r:=mA l (i:=0) rfl;have s:=mA g (i:=0) rfl;have K:=pD (i:=0) l;have L:=pD (i:=0) g;have M:=qY l;have N:=qY g;go_wp2_with fail;refine leaves_cons (f:=41) (args:= #[.pointer (some ⟨w.heap.size,0,none⟩),.pointer (some ⟨w.heap.size+1,0,none⟩)]) s_ (by simp[go_sem]) ?_
  refine(WP ⟨w.heap.size,0,none⟩ ⟨w.heap.size+1,0,none⟩ _).mono ?_;rintro e H J ⟨rfl,rfl,rfl⟩;simp[Leaves,settle,results,results22,go_sem,r,s];exact d6 ⟨d,F.out,rfl⟩
 ·have l:d.heap[w.heap.size]?=some (.cells #[.int .i64 0] 22 (0,0)):=by rw[b.block _ t_];exact oM _ _ _
  have g:d.heap[w.heap.size+1]?=some (.cells #[.int .i64 0] 3 (0,0)):=by rw[b.block _ s_];exact lO _ _ _
  have G:Below w.heap.size w d:=m.trans (b.mono t_)
  have C:=aB (ez z B);clear b m A B z;go_wp2_with fail;refine leaves_cons (f:=41) (args:= #[.pointer (some ⟨w.heap.size,0,none⟩),.pointer (some ⟨w.heap.size+1,0,none⟩)]) s_ (by simp[go_sem]) ?_
  refine(SE w.heap.size (w.heap.size+1) k n [] _ l g (gb _)).mono ?_;rintro e H o ⟨rfl,rfl,u,r,s⟩;have t:=G.trans u;simp[Leaves,settle,results,results22,go_sem,r,s];obtain⟨j,rfl⟩:∃j,k=j+1:=⟨k-1,by have:=C.out.1;omega⟩
  exact d5 ⟨j,n,⟨s_,rfl⟩,t,C.out.2⟩
def SQ(fp:Nat->Value)(F:Nat->Prop)(w:World)(xs:List Value)(code:List (Option aH)):Prop:=
 xs.length=code.length/\∀(i:Nat) o,code[i]?=some o->∃u,xs[i]?=some u/\(match o with|none=>u=.nilIface|some i=>lI fp F w u i)
def SQ.keep{d:Nat->Value}{F G:Nat->Prop}{w w':World}{xs:List Value}{a:List (Option aH)}(h:SQ d F w xs a)(e:∀b,F b->w'.heap[b]?=w.heap[b]?)(k:∀b,F b->G b):SQ d G w' xs a:=
 ⟨h.1,λi o f=>by
   obtain⟨u,g,c⟩:=h.2 i o f;refine⟨u,g,?_⟩;cases o with
   |none=>exact c
   |some j=>exact lI.keep c e k⟩
def JW(fp:Nat->Value)(fb:Nat->Nat)(nms:List (List UInt8))(F:Nat->Prop)(w:World)(fv:Value):Prop:=
 (nms=[]/\fv=.slice none 0 0)\/∃g cap,fv=.slice (some ⟨g,0,none⟩) nms.length cap/\F g/\nms.length<=cap/\g<w.heap.size/\∀k (h:k<nms.length),w.cell? ⟨g,k,none⟩=some (fp k)/\fp k=.pointer (some ⟨fb k,0,none⟩)/\F (fb k)/\∃x,w.heap[fb k]?=some (.cells #[.string (bs nms[k]),x] 174 (0,0))
def JW.keep{f:Nat->Value}{l:Nat->Nat}{a:List (List UInt8)}{F G:Nat->Prop}{w w':World}{n:Value}(h:JW f l a F w n)(i:∀b,F b->w'.heap[b]?=w.heap[b]?)(j:∀b,F b->G b)(t:w.heap.size<=w'.heap.size):JW f l a G w' n:=by
 rcases h with h|⟨g,d,p,e,s,o,q⟩
 ·exact d6 h
 ·refine d5 ⟨g,d,p,j g e,s,el o t,λk c=>?_⟩
  obtain⟨u,r,m,x,v⟩:=q k c;exact⟨by rw[World.cell?_of_block (i g e)];exact u,r,j _ m,x,by rw[i _ m];exact v⟩
structure CP(fp:Nat->Value)(fb:Nat->Nat)(nms:List (List UInt8))(cb:Nat)(F:Nat->Prop)(w:World)(code:List (Option aH))(e_:List (List UInt8)):Prop where
 blk:∃fv cv sp,w.heap[cb]?=some (.cells #[fv,cv,sp] 193 (0,0))/\(∃xs,w.ownsRow (cb+1) 247 1 cv code.length xs/\SQ fp F w xs code)/\eW F w sp e_/\JW fp fb nms F w fv
 fix:∀k,F k->k<w.heap.size/\k≠cb/\lA cb w≠some k
section
variable {fp:Nat->Value} {fb:Nat->Nat} {nms:List (List UInt8)} {cb:Nat} {F:Nat->Prop} {w w':World} {code:List (Option aH)} {e_:List (List UInt8)}
def CP.lt(h:CP fp fb nms cb F w code e_):cb<w.heap.size:=by
 obtain⟨_,_,_,a,_⟩:=h.blk;exact aD a
def jE{a v1 v2:Value}(h:w.heap[cb]?=some (.cells #[a,v1,v2] 193 (0,0))):lA cb w=v1.ownBlock:=by unfold lA;rw[h];rfl
def CP.grow(h:CP fp fb nms cb F w code e_)(a:Below w.heap.size w w'):CP fp fb nms cb F w' code e_:=by
 have c:=h.lt;obtain⟨t,i,f,m,⟨p,g,q⟩,l,n⟩:=h.blk;have d:∀b,F b->w'.heap[b]?=w.heap[b]?:=λb e=>a.block b (h.fix b e).1
 refine⟨⟨t,i,f,by rw[a.block _ c];exact m,⟨p,iW g a,q.keep d λ_ h=>h⟩,eW.keep d (λ_ h=>h) l,n.keep d (λ_ h=>h) a.size⟩,λk j=>?_⟩
 obtain⟨r,o,s⟩:=h.fix k j;exact⟨el r a.size,o,by rw[oG (a.block cb c)];exact s⟩
def CP.new(h:CP fp fb nms cb F w code e_)(o:Obj):Loc cb w w.heap.size o (w.alloc o)/\CP fp fb nms cb F (w.alloc o) code e_:=by
 have a:=h.lt;have b:Below w.heap.size w (w.alloc o):=(eh _ _).alloc (d7 _) _;refine⟨⟨FB.of_below b a,aS _ _ rfl _,λe=>?_,o_⟩,h.grow b⟩
 obtain⟨i,j,f,d,⟨g,c,_⟩,_⟩:=h.blk;rw[oG (b.block cb a),jE d] at e;have:=cI c _ e;omega
def Y6:(prog.info? 247).map (λi=>(i.zero,i.size,i.bytes))=some (some .nilIface,1,16):=k_
def M9(w:World)(u:Value):∀j v,([u]:List Value)[j]?=some v->(w.alloc (.cells #[u] 247)).cell? ((⟨w.heap.size,0,none⟩:Addr).add j)=some v:=by
 intro j v a;match j,a with
 |0,a=>simp at a;subst a;simp[Addr.add,go_sem]
 |j+1,a=>simp at a
def j2(fp:Nat->Value)(F:Nat->Prop)(w:World)(u:Value):Option aH->Prop
 |none=>u=.nilIface
 |some i=>lI fp F w u i
def j2.one{u:Value}{o:Option aH}(h:j2 fp F w u o):u.oneCell'=true/\(u=.nilIface\/∃t z,u=.iface t z):=by
 cases o with
 |none=>rw[show u=.nilIface from h];exact⟨rfl,d6 rfl⟩
 |some i=>obtain⟨t,z,rfl⟩:=lI.form h;exact⟨rfl,d5 ⟨t,z,rfl⟩⟩
def D8(cb n:Nat)(C P A u:Value)(xs:List Value)(w:World)(f:w.heap[cb]?=some (.cells #[C,P,A] 193 (0,0)))(g:w.ownsRow (cb+1) 247 1 P n xs)(q:u.oneCell'=true)(Y:u=.nilIface\/∃t z,u=.iface t z)(hn:n<=1000000):
 Calls prog 150 #[.pointer (some ⟨cb,0,none⟩),u] w λe w'=>e=.returned (.int .i64 n)/\∃j,w'.heap[cb]?=some (.cells #[C,j,A] 193 (0,0))/\w'.ownsRow (cb+1) 247 1 j (n+1) (xs++[u])/\FB cb w w':=by
 obtain⟨X,Z,E,H,J⟩:=info_parts Y6;obtain⟨x,c,rfl⟩:=cV g;have M:=aD f;have c1:w.cell? ⟨cb,1,none⟩=some (.slice x n c):=aA f rfl;have K:=aB g;have G:=aB f;have m:∀v∈([u]:List Value),v.oneCell'=true:=λv S=>by simp at S;rw[S];exact q
 have HONE:=aB m;clear g f m q
 have r:∀p:Value,u=p->(p=.nilIface\/∃t z,p=.iface t z)->Calls prog 150 #[.pointer (some ⟨cb,0,none⟩),p] w λe w'=>e=.returned (.int .i64 n)/\∃j,w'.heap[cb]?=some (.cells #[C,j,A] 193 (0,0))/\w'.ownsRow (cb+1) 247 1 j (n+1) (xs++[p])/\FB cb w w':=by
  intro p e I;subst e;rcases I with rfl|⟨t,z,rfl⟩
  all_goals
   go_enter func150,ntmps150;go_wp2_with (at_builtin;refine wpList_append_lies _ r_ _ _ 172 r_ (cb+1) 247 X _ 1 16 underlying172 Z E H J rfl d_ (.slice x n c) n xs r_ (K.out.alloc _) ⟨w.heap.size,0,none⟩ 1 1 [_] r_ r_ (M9 w _) HONE.out d_ (by unfold maxLen;omega) o_ t_ (w.heap.size+1) s_ ?_)
   intro B s N d b l V;have D:some cb≠(Value.slice x n c).ownBlock:=λe=>by have:=(K.out.lt cb e.symm).1;omega
   have a:N.heap[cb]?=some (.cells #[C,.slice x n c,A] 193 (0,0)):=by
    rw[b.block cb t_ D,eq _ _ _ M];exact G.out
   have U:N.cell? ⟨cb,1,none⟩=some (.slice x n c):=aA a rfl;have aa:=aE a (i:=1);have T:=aD a
   have L:B≠cb:=by
    have:=(d.lt B rfl).1;omega
   have HOWN:=aB d;have Q:=aB b;have F:=aB l;have y:=aB a;clear d b l a;go_wp2_with fail;go_ret;refine⟨by go_num,.slice (some ⟨B,0,none⟩) (n+1) s,aQ y.out,aX HOWN.out λk o=>ej _ _ _ _ (by cases o;exact L),⟨?_,λk o W O=>?_,λk o=>?_⟩⟩
   ·exact(((eh cb w).alloc o_ _).grown Q.out t_ (λk o=>by have:=(K.out.lt k o).1;omega)).setCell (by exact d7 cb) _
   ·rw[jE G.out] at O;rw[ej _ _ _ _ W,Q.out.block k t_ (λe=>O e.symm),eq _ _ _ o]
   ·rw[jE (aQ y.out),jE G.out] at*;cases o;rcases F.out with h|h
    ·exact d6 h
    ·exact d5 (by show w.heap.size<=B;omega)
 exact r u rfl Y
def CP.step{a:List (Option aH)}{l b g:Value}{xs':List Value}(h:CP fp fb nms cb F w code e_)(c:FB cb w w')(f:w'.heap[cb]?=some (.cells #[l,b,g] 193 (0,0)))(d:w'.ownsRow (cb+1) 247 1 b a.length xs')(r:SQ fp F w' xs' a)(j:eW F w' g e_)(i:JW fp fb nms F w' l):CP fp fb nms cb F w' a e_:=
 ⟨⟨l,b,g,f,⟨xs',d,r⟩,j,i⟩,λk n=>by
   obtain⟨p,o,q⟩:=h.fix k n;refine⟨el p c.bel.size,o,λe=>?_⟩
   rcases c.row k e with m|m
   ·exact q m
   ·omega⟩
def CP.fixed(h:CP fp fb nms cb F w code e_)(a:FB cb w w'):∀b,F b->w'.heap[b]?=w.heap[b]?:=λb e=>by
 obtain⟨c,f,d⟩:=h.fix b e;exact a.blk b c f d
def rF{u:Value}{o:Option aH}(h:CP fp fb nms cb F w code e_)(k:j2 fp F w u o)(D:code.length<=1000000):
 Calls prog 150 #[.pointer (some ⟨cb,0,none⟩),u] w λe w'=>e=.returned (.int .i64 code.length)/\CP fp fb nms cb F w' (code++[o]) e_/\FB cb w w':=by
 obtain⟨H,p,m,s,⟨A,n,c⟩,q,t⟩:=h.blk;obtain⟨z,v⟩:=k.one;refine(D8 cb code.length H p m u A w s n z v D).mono ?_;rintro e w' ⟨G,B,r,I,f⟩;have g:=h.fixed f;refine⟨G,h.step f r (by rw[ei];exact I) ?_ (eW.keep g (λ_ h=>h) q) (t.keep g (λ_ h=>h) f.bel.size),f⟩
 have l:=c.keep g λ_ h=>h
 refine⟨by simp[c.1],λi C a=>?_⟩
 rcases fk i code.length with d|d
 ·rw[gy d] at a;obtain⟨y,E,x⟩:=l.2 i C a;exact⟨y,by rw[gy (by rw[c.1];exact d)];exact E,x⟩
 ·rw[gh d] at a
  have b:i-code.length=0:=by
   have:=(gr.1 a).1;simp at this;omega
  rw[b] at a;simp at a;subst a;refine⟨u,by rw[gh (by rw[c.1];exact d),c.1,b];rfl,?_⟩
  cases o with
  |none=>exact k
  |some j=>exact lI.keep k g λ_ h=>h
def QS(h:CP fp fb nms cb F w code e_)(j:e_.length<=1000000):
 Calls prog 200 #[.pointer (some ⟨cb,0,none⟩)] w λe w'=>e=.returned (.int .i64 e_.length)/\w'=w:=by
 obtain⟨r,m,f,c, -,g, -⟩:=h.blk;have q:=aD c;have p:w.cell? ⟨cb,2,none⟩=some f:=aA c rfl;cases e_ with
 |nil=>
  obtain rfl:f=.pointer none:=g;clear h c;go_enter func200,ntmps200;go_wp2_with fail;go_ret;exact⟨rfl,rfl⟩
 |cons x l=>
  obtain⟨b,o,rfl,k,a,d⟩:=g;have n:w.cell? ⟨b,1,none⟩=some (.int .i64 l.length):=aA a rfl;have i:=aD a;simp only[ek] at j;clear h c a d;go_enter func200,ntmps200;go_wp2_with fail;go_ret;exact⟨by go_num,rfl⟩
end
section
variable {fp:Nat->Value} {fb:Nat->Nat} {nms:List (List UInt8)} {cb:Nat} {F:Nat->Prop} {w w':World} {code:List (Option aH)} {e_:List (List UInt8)}
def K9(w:World)(cb n:Nat)(x:List UInt8)(p:Option Addr)(f:cb<w.heap.size)(b:w.cell? ⟨cb,2,none⟩=some (.pointer p))(c:w.frozen? ⟨cb,2,none⟩=false)
 (a:Hid (Calls prog 200 #[.pointer (some ⟨cb,0,none⟩)] w.drew λe w'=>e=.returned (.int .i64 n)/\w'=w.drew)):
 Calls prog 148 #[.pointer (some ⟨cb,0,none⟩),.string (bs x)] w λe w'=>e=.returned (.tuple #[])/\aZ ((w.setCell ⟨cb,2,none⟩ (.pointer (some ⟨w.heap.size,0,none⟩))).alloc (.cells #[.string (bs x),.int .i64 n,.pointer p] 177)) w':=by
 go_enter func148,ntmps148;go_wp2_with fail;go_region_law (go_simp;go_at_call 200;refine a.out.mono ?_;rintro e d ⟨rfl,rfl⟩)
 all_goals
  go_wp2_with fail;go_end0;exact⟨rfl,aZ.drew _⟩
def aZ.block{W a:World}(h:aZ W a)(k:Nat):a.heap[k]?=W.heap[k]?:=by rw[h.heap]
def XB(x:List UInt8)(h:CP fp fb nms cb F w code e_)(D:e_.length<=1000000):
 Calls prog 148 #[.pointer (some ⟨cb,0,none⟩),.string (bs x)] w λe w'=>e=.returned (.tuple #[])/\CP fp fb nms cb (λk=>F k\/k=w.heap.size) w' code (x::e_)/\FB cb w w':=by
 have m:=h.lt;obtain⟨u,q,H,c,⟨B,j,C⟩,t,y⟩:=h.blk;obtain⟨p,rfl⟩:=t.form;have v:CP fp fb nms cb F w.drew code e_:=h.grow (aZ.drew w).below;refine(K9 w cb e_.length x p m (aA c rfl) (aE c) (QS v D)).mono ?_;rintro e w' ⟨G,d⟩;generalize g:(w.setCell ⟨cb,2,none⟩ (.pointer (some ⟨w.heap.size,0,none⟩))).alloc (.cells #[.string (bs x),.int .i64 e_.length,.pointer p] 177)=W at d
 have o:∀k,k<w.heap.size->k≠cb->w'.heap[k]?=w.heap[k]?:=λk c j=>by
  rw[d.heap,<-g,eq _ _ _ (by simpa using c),ej _ _ _ _ j]
 have l:w'.heap[cb]?=some (.cells #[u,q,.pointer (some ⟨w.heap.size,0,none⟩)] 193 (0,0)):=by
  rw[d.heap,<-g,eq _ _ _ (by simpa using m)];exact aQ c
 have n:w'.heap[w.heap.size]?=some (.cells #[.string (bs x),.int .i64 e_.length,.pointer p] 177 (0,0)):=by
  rw[d.heap,<-g];exact aS _ _ s_ _
 have A:w'.heap.size=w.heap.size+1:=by rw[d.heap,<-g];simp
 have f:lA cb w'=lA cb w:=by rw[jE l,jE c]
 have r:∀b,F b->w'.heap[b]?=w.heap[b]?:=λb s=>o b (h.fix b s).1 (h.fix b s).2.1
 have i:=λk (e:q.ownBlock=some k)=>j.lt k e
 refine⟨G,⟨⟨u,q,_,l,⟨B,aX j λk e=>o k (i k e).2 (by have:=(i k e).1;omega),C.keep r λ_ h=>d6 h⟩,⟨w.heap.size,.pointer p,rfl,d5 rfl,n,eW.keep r (λ_ h=>d6 h) t⟩,y.keep r (λ_ h=>d6 h) o_⟩,λk a=>?_⟩,⟨?_,λk c j _=>o k c j,λk e=>d6 (by rw[<-f];exact e)⟩⟩
 ·rcases a with a|rfl
  ·obtain⟨I,z,E⟩:=h.fix k a;exact⟨o_,z,by rw[f];exact E⟩
  ·refine⟨o_,o_,λe=>?_⟩
   rw[f,jE c] at e;have:=(i _ e).2;omega
 ·refine⟨by rw[d.os,<-g];rfl,by rw[d.tape,<-g];rfl,by rw[d.output,<-g];rfl,o_,λk a=>o k o_ o_⟩
def K1{x y:List UInt8}{l:List (List UInt8)}(h:y∈x::l)(a:x≠y):y∈l/\eB (x::l) y=eB l y:=by
 refine⟨?_,by rw[eB,if_neg a]⟩
 rcases en.1 h with e|e
 ·exact absurd e.symm a
 ·exact e
def OQ(a:List UInt8)(h:CP fp fb nms cb F w code e_)(r:a∈e_)(_hn:e_.length<=1000000):
 Calls prog 207 #[.pointer (some ⟨cb,0,none⟩),.string (bs a)] w λe w'=>e=.returned (.int .i64 (eB e_ a))/\w'=w:=by
 obtain⟨L,G,n,j, -,i, -⟩:=h.blk;have K:=aD j;have I:w.cell? ⟨cb,2,none⟩=some n:=aA j rfl;have q:Hid (eW F w n e_/\a∈e_):=⟨i,r⟩;obtain⟨p,rfl⟩:=i.form;clear h j i r;go_enter func207,ntmps207;go_wp2_with fail;go_loopg [5] e_.length (λgk v wr=>∃l,l.length=gk/\eW F w v l/\a∈l/\eB l a=eB e_ a/\wr=w)
 case atStart=>exact⟨e_,rfl,q.out.1,q.out.2,rfl,rfl⟩
 case round=>
  obtain⟨l,k,B,f,d,rfl⟩:=hrel;cases l with
  |nil=>cases f
  |cons x l=>
   obtain⟨b,o,rfl,E,c,g⟩:=B;obtain⟨s,rfl⟩:=g.form;have J:wr.cell? ⟨b,0,none⟩=some (.string (bs x)):=aA c rfl;have H:wr.cell? ⟨b,1,none⟩=some (.int .i64 l.length):=aA c rfl;have D:wr.cell? ⟨b,2,none⟩=some (.pointer s):=aA c rfl;have t:=aD c;by_cases m:x=a
   ·subst m;have z:eB (x::l) x=l.length:=by rw[eB,if_pos rfl]
    rw[z] at d;clear c g f;go_wp2_with fail;go_ret;exact⟨by rw[<-d];rfl,rfl⟩
   ·obtain⟨y,C⟩:=K1 f m;have u:((bs x).toList==(bs a).toList)=false:=by rw[cE,cE];simpa using m
    have A:Hid (eW F wr (.pointer s) l):=g;rw[C] at d;clear c g f;go_wp2_with fail;go_roundg l.length
    case measure=>simp at k;omega
    case rel=>exact⟨l,rfl,A.out,y,d,rfl⟩
def tF(a:List UInt8)(h:CP fp fb nms cb F w code e_)(v:a∈nms)(N:nms.length<=1000000):
 Calls prog 103 #[.pointer (some ⟨cb,0,none⟩),.string (bs a)] w λe w'=>e=.returned (fp (nms.findIdx λx=>x==a))/\w'=w:=by
 obtain⟨S,K,I,p, -, -,B⟩:=h.blk;rcases B with ⟨rfl,_⟩|⟨g,q,rfl,G,t,H,b⟩
 ·cases v
 have M:=aD p;have L:w.cell? ⟨cb,0,none⟩=some (.slice (some ⟨g,0,none⟩) nms.length q):=aA p rfl;have u:=aB b;clear h p b;go_enter func103,ntmps103;go_wp2_with fail;go_loopg [6,12] nms.length (λgk _ i wr=>∃j:Nat,j+gk=nms.length/\i=.int .i64 j/\j<=nms.findIdx (λx=>x==a)/\wr=w)
 case atStart=>exact⟨0,o_,rfl,ft _,rfl⟩
 case round=>
  obtain⟨j,Q,rfl,f,rfl⟩:=hrel;have s:nms.findIdx (λx=>x==a)<nms.length:=List.findIdx_lt_length_of_exists ⟨a,v,s_⟩
  have o:j<nms.length:=o_
  obtain⟨m,rfl⟩:∃m,gk=m+1:=⟨gk-1,o_⟩
  obtain⟨E,k,P,x,n⟩:=u.out j o;rw[k] at E;have D:wr.cell? ⟨fb j,0,none⟩=some (.string (bs nms[j])):=aA n rfl;have z:=aD n;have O:(0:Int)<=(j:Int):=o_
  have J:(j:Int)<(nms.length:Int):=o_
  by_cases l:nms[j]=a
  ·have r:nms.findIdx (λx=>x==a)=j:=by
    refine Nat.le_antisymm (Nat.not_lt.1 λc=>?_) f
    have:=List.not_of_lt_findIdx c;simp[l] at this
   have C:=aB k;rw[l] at D;clear n k u;go_wp2_with fail;go_ret;exact⟨by rw[r,C.out];rfl,rfl⟩
  ·have A:((bs nms[j]).toList==(bs a).toList)=false:=by rw[cE,cE];simpa using l
   have d:j+1<=nms.findIdx (λx=>x==a):=by
    rcases g8 f with e|e
    ·have:=jp (w:=s);simp only[<-e] at this;simp at this;exact absurd this l
    ·exact e
   generalize nms[j]=y at*;clear n k;go_wp2_with fail;go_roundg m
   case measure=>omega
   case rel=>exact⟨j+1,o_,by go_num,d,rfl⟩
end
section
variable(v:Value)(w:World)
def xD:(typeAssert (.iface 307 v) 92 307 true).run prog w=.ok (.tuple #[v,.bool true]) w:=k_
def xC:(typeAssert (.iface 308 v) 92 307 true).run prog w=.ok (.tuple #[.agg #[.int .i64 0,.int .i64 0],.bool false]) w:=k_
def xB:(typeAssert (.iface 308 v) 92 308 true).run prog w=.ok (.tuple #[v,.bool true]) w:=k_
def EG:(typeAssert (.iface 310 v) 92 307 true).run prog w=.ok (.tuple #[.agg #[.int .i64 0,.int .i64 0],.bool false]) w:=k_
def EF:(typeAssert (.iface 310 v) 92 308 true).run prog w=.ok (.tuple #[.agg #[.int .i64 0,.string ⟨#[]⟩],.bool false]) w:=k_
def MR:(typeAssert (.iface 310 v) 92 310 true).run prog w=.ok (.tuple #[v,.bool true]) w:=k_
def uA:(typeAssert (.iface 274 v) 92 307 true).run prog w=.ok (.tuple #[.agg #[.int .i64 0,.int .i64 0],.bool false]) w:=k_
def tZ:(typeAssert (.iface 274 v) 92 308 true).run prog w=.ok (.tuple #[.agg #[.int .i64 0,.string ⟨#[]⟩],.bool false]) w:=k_
def xA:(typeAssert (.iface 274 v) 92 310 true).run prog w=.ok (.tuple #[.agg #[.int .i64 0,.bool false],.bool false]) w:=k_
def rG:(typeAssert (.iface 274 v) 92 274 true).run prog w=.ok (.tuple #[v,.bool true]) w:=k_
def EA:(typeAssert (.iface 276 v) 92 307 true).run prog w=.ok (.tuple #[.agg #[.int .i64 0,.int .i64 0],.bool false]) w:=k_
def DZ:(typeAssert (.iface 276 v) 92 308 true).run prog w=.ok (.tuple #[.agg #[.int .i64 0,.string ⟨#[]⟩],.bool false]) w:=k_
def MN:(typeAssert (.iface 276 v) 92 310 true).run prog w=.ok (.tuple #[.agg #[.int .i64 0,.bool false],.bool false]) w:=k_
def xE:(typeAssert (.iface 276 v) 92 274 true).run prog w=.ok (.tuple #[.agg #[.int .i64 0,.string ⟨#[]⟩],.bool false]) w:=k_
def MM:(typeAssert (.iface 276 v) 92 276 true).run prog w=.ok (.tuple #[v,.bool true]) w:=k_
def AI:(typeAssert (.iface 278 v) 92 307 true).run prog w=.ok (.tuple #[.agg #[.int .i64 0,.int .i64 0],.bool false]) w:=k_
def AH:(typeAssert (.iface 278 v) 92 308 true).run prog w=.ok (.tuple #[.agg #[.int .i64 0,.string ⟨#[]⟩],.bool false]) w:=k_
def GN:(typeAssert (.iface 278 v) 92 310 true).run prog w=.ok (.tuple #[.agg #[.int .i64 0,.bool false],.bool false]) w:=k_
def vJ:(typeAssert (.iface 278 v) 92 274 true).run prog w=.ok (.tuple #[.agg #[.int .i64 0,.string ⟨#[]⟩],.bool false]) w:=k_
def GM:(typeAssert (.iface 278 v) 92 276 true).run prog w=.ok (.tuple #[.agg #[.int .i64 0,.slice none 0 0],.bool false]) w:=k_
def EB:(typeAssert (.iface 278 v) 92 278 true).run prog w=.ok (.tuple #[v,.bool true]) w:=k_
def AG:(typeAssert (.iface 280 v) 92 307 true).run prog w=.ok (.tuple #[.agg #[.int .i64 0,.int .i64 0],.bool false]) w:=k_
def AF:(typeAssert (.iface 280 v) 92 308 true).run prog w=.ok (.tuple #[.agg #[.int .i64 0,.string ⟨#[]⟩],.bool false]) w:=k_
def GL:(typeAssert (.iface 280 v) 92 310 true).run prog w=.ok (.tuple #[.agg #[.int .i64 0,.bool false],.bool false]) w:=k_
def vI:(typeAssert (.iface 280 v) 92 274 true).run prog w=.ok (.tuple #[.agg #[.int .i64 0,.string ⟨#[]⟩],.bool false]) w:=k_
def GK:(typeAssert (.iface 280 v) 92 276 true).run prog w=.ok (.tuple #[.agg #[.int .i64 0,.slice none 0 0],.bool false]) w:=k_
def DY:(typeAssert (.iface 280 v) 92 278 true).run prog w=.ok (.tuple #[.agg #[.int .i64 0,.nilIface,.nilIface],.bool false]) w:=k_
def DX:(typeAssert (.iface 280 v) 92 280 true).run prog w=.ok (.tuple #[v,.bool true]) w:=k_
def xH:(typeAssert (.iface 282 v) 92 307 true).run prog w=.ok (.tuple #[.agg #[.int .i64 0,.int .i64 0],.bool false]) w:=k_
def xG:(typeAssert (.iface 282 v) 92 308 true).run prog w=.ok (.tuple #[.agg #[.int .i64 0,.string ⟨#[]⟩],.bool false]) w:=k_
def EI:(typeAssert (.iface 282 v) 92 310 true).run prog w=.ok (.tuple #[.agg #[.int .i64 0,.bool false],.bool false]) w:=k_
def uB:(typeAssert (.iface 282 v) 92 274 true).run prog w=.ok (.tuple #[.agg #[.int .i64 0,.string ⟨#[]⟩],.bool false]) w:=k_
def EH:(typeAssert (.iface 282 v) 92 276 true).run prog w=.ok (.tuple #[.agg #[.int .i64 0,.slice none 0 0],.bool false]) w:=k_
def AK:(typeAssert (.iface 282 v) 92 278 true).run prog w=.ok (.tuple #[.agg #[.int .i64 0,.nilIface,.nilIface],.bool false]) w:=k_
def AJ:(typeAssert (.iface 282 v) 92 280 true).run prog w=.ok (.tuple #[.agg #[.int .i64 0,.string ⟨#[]⟩,.nilIface],.bool false]) w:=k_
def xI:(typeAssert (.iface 282 v) 92 282 true).run prog w=.ok (.tuple #[v,.bool true]) w:=k_
def ED:(typeAssert (.iface 271 v) 92 307 true).run prog w=.ok (.tuple #[.agg #[.int .i64 0,.int .i64 0],.bool false]) w:=k_
def EC:(typeAssert (.iface 271 v) 92 308 true).run prog w=.ok (.tuple #[.agg #[.int .i64 0,.string ⟨#[]⟩],.bool false]) w:=k_
def MQ:(typeAssert (.iface 271 v) 92 310 true).run prog w=.ok (.tuple #[.agg #[.int .i64 0,.bool false],.bool false]) w:=k_
def xF:(typeAssert (.iface 271 v) 92 274 true).run prog w=.ok (.tuple #[.agg #[.int .i64 0,.string ⟨#[]⟩],.bool false]) w:=k_
def MO:(typeAssert (.iface 271 v) 92 276 true).run prog w=.ok (.tuple #[.agg #[.int .i64 0,.slice none 0 0],.bool false]) w:=k_
def GP:(typeAssert (.iface 271 v) 92 278 true).run prog w=.ok (.tuple #[.agg #[.int .i64 0,.nilIface,.nilIface],.bool false]) w:=k_
def GO:(typeAssert (.iface 271 v) 92 280 true).run prog w=.ok (.tuple #[.agg #[.int .i64 0,.string ⟨#[]⟩,.nilIface],.bool false]) w:=k_
def EE:(typeAssert (.iface 271 v) 92 282 true).run prog w=.ok (.tuple #[.agg #[.int .i64 0,.string ⟨#[]⟩,.nilIface,.nilIface],.bool false]) w:=k_
def MP:(typeAssert (.iface 271 v) 92 271 true).run prog w=.ok (.tuple #[v,.bool true]) w:=k_
end
def sU(w:World)(cb:Nat)(l k:Int)(P:World->Prop)
 (b:Hid (Calls prog 150 #[.pointer (some ⟨cb,0,none⟩),.iface 242 (.agg #[.iface 229 (.int .i64 k)])] (w.alloc (.cells #[.int .i64 l,.int .i64 k] 307)) λe w'=>(∃k:Nat,e=.returned (.int .i64 k))/\P w')):
 Calls prog 164 #[.pointer (some ⟨cb,0,none⟩),.iface 307 (.agg #[.int .i64 l,.int .i64 k])] w λe w'=>e=.returned (.tuple #[])/\P w':=by
 have d:=xD;go_enter func164,ntmps164;go_wp2_with fail;refine b.out.mono ?_;rintro e c ⟨⟨m,rfl⟩,a⟩;go_wp2_with fail;go_end0;exact⟨rfl,a⟩
def GJ(w:World)(cb:Nat)(l:Int)(s:ByteArray)(P:World->Prop)
 (b:Hid (Calls prog 150 #[.pointer (some ⟨cb,0,none⟩),.iface 242 (.agg #[.iface 232 (.string s)])] (w.alloc (.cells #[.int .i64 l,.string s] 308)) λe w'=>(∃k:Nat,e=.returned (.int .i64 k))/\P w')):
 Calls prog 164 #[.pointer (some ⟨cb,0,none⟩),.iface 308 (.agg #[.int .i64 l,.string s])] w λe w'=>e=.returned (.tuple #[])/\P w':=by
 have d:=xC;have f:=xB;go_enter func164,ntmps164;go_wp2_with fail;refine b.out.mono ?_;rintro e c ⟨⟨m,rfl⟩,a⟩;go_wp2_with fail;go_end0;exact⟨rfl,a⟩
def RA(w:World)(cb:Nat)(l:Int)(b:Bool)(P:World->Prop)
 (c:Hid (Calls prog 150 #[.pointer (some ⟨cb,0,none⟩),.iface 242 (.agg #[.iface 230 (.bool b)])] (w.alloc (.cells #[.int .i64 l,.bool b] 310)) λe w'=>(∃k:Nat,e=.returned (.int .i64 k))/\P w')):
 Calls prog 164 #[.pointer (some ⟨cb,0,none⟩),.iface 310 (.agg #[.int .i64 l,.bool b])] w λe w'=>e=.returned (.tuple #[])/\P w':=by
 have f:=EG;have g:=EF;have i:=MR;go_enter func164,ntmps164;go_wp2_with fail;refine c.out.mono ?_;rintro e d ⟨⟨m,rfl⟩,a⟩;go_wp2_with fail;go_end0;exact⟨rfl,a⟩
def AE(w:World)(cb:Nat)(l:Int)(s:ByteArray)(k:Nat)(P:World->Prop)
 (c:Hid (Calls prog 207 #[.pointer (some ⟨cb,0,none⟩),.string s] (w.alloc (.cells #[.int .i64 l,.string s] 274)) λe w'=>e=.returned (.int .i64 k)/\w'=w.alloc (.cells #[.int .i64 l,.string s] 274)))
 (b:Hid (Calls prog 150 #[.pointer (some ⟨cb,0,none⟩),.iface 312 (.agg #[.int .i64 k])] (w.alloc (.cells #[.int .i64 l,.string s] 274)) λe w'=>(∃k:Nat,e=.returned (.int .i64 k))/\P w')):
 Calls prog 164 #[.pointer (some ⟨cb,0,none⟩),.iface 274 (.agg #[.int .i64 l,.string s])] w λe w'=>e=.returned (.tuple #[])/\P w':=by
 have g:=uA;have i:=tZ;have n:=xA;have f:=rG;go_enter func164,ntmps164;go_wp2_with fail;refine c.out.mono ?_;rintro e d ⟨rfl,rfl⟩;go_wp2_with fail;refine b.out.mono ?_;rintro e j ⟨⟨m,rfl⟩,a⟩;go_wp2_with fail;go_end0;exact⟨rfl,a⟩
def QZ(w:World)(cb n c:Nat)(l:Int)(x:Option Addr)(P Q:World->Prop)
 (i:Hid (Calls prog 208 #[.pointer (some ⟨cb,0,none⟩),.slice x n c] (w.alloc (.cells #[.int .i64 l,.slice x n c] 276)) λe w'=>e=.returned (.tuple #[])/\Q w'))
 (f:Hid (∀W,Q W->W.cell? ⟨w.heap.size,1,none⟩=some (.slice x n c)/\w.heap.size<W.heap.size))
 (g:Hid (∀W,Q W->Calls prog 150 #[.pointer (some ⟨cb,0,none⟩),.iface 314 (.agg #[.int .i64 n])] W λe w'=>(∃k:Nat,e=.returned (.int .i64 k))/\P w')):
 Calls prog 164 #[.pointer (some ⟨cb,0,none⟩),.iface 276 (.agg #[.int .i64 l,.slice x n c])] w λe w'=>e=.returned (.tuple #[])/\P w':=by
 have p:=EA;have q:=DZ;have v:=MN;have r:=xE;have s:=MM;go_enter func164,ntmps164;go_wp2_with fail;refine i.out.mono ?_;rintro e j ⟨rfl,b⟩;obtain⟨o,t⟩:=f.out _ b;have a:=aB (g.out _ b);clear b;go_wp2_with fail;refine a.out.mono ?_;rintro e u ⟨⟨m,rfl⟩,d⟩;go_wp2_with fail;go_end0;exact⟨rfl,d⟩
def MI(w:World)(cb:Nat)(l:Int)(i a:TypeId)(d b:Value)(P Q R:World->Prop)
 (r:Hid (Calls prog 164 #[.pointer (some ⟨cb,0,none⟩),.iface i d] (w.alloc (.cells #[.int .i64 l,.iface i d,.iface a b] 278)) λe w'=>e=.returned (.tuple #[])/\Q w'))
 (n:Hid (∀W,Q W->W.cell? ⟨w.heap.size,2,none⟩=some (.iface a b)/\w.heap.size<W.heap.size))
 (o:Hid (∀W,Q W->Calls prog 164 #[.pointer (some ⟨cb,0,none⟩),.iface a b] W λe w'=>e=.returned (.tuple #[])/\R w'))
 (q:Hid (∀W,R W->Calls prog 150 #[.pointer (some ⟨cb,0,none⟩),.iface 315 (.agg #[])] W λe w'=>(∃k:Nat,e=.returned (.int .i64 k))/\P w')):
 Calls prog 164 #[.pointer (some ⟨cb,0,none⟩),.iface 278 (.agg #[.int .i64 l,.iface i d,.iface a b])] w λe w'=>e=.returned (.tuple #[])/\P w':=by
 have u:=AI;have x:=AH;have D:=GN;have y:=vJ;have A:=GM;have z:=EB;go_enter func164,ntmps164;go_wp2_with fail;refine r.out.mono ?_;rintro e s ⟨rfl,f⟩;obtain⟨t,B⟩:=n.out _ f;have g:=aB (o.out _ f);clear f;go_wp2_with fail;refine g.out.mono ?_;rintro e C ⟨rfl,j⟩;have c:=aB (q.out _ j);clear j;go_wp2_with fail;refine c.out.mono ?_;rintro e v ⟨⟨m,rfl⟩,p⟩;go_wp2_with fail;go_end0;exact⟨rfl,p⟩
def MH(w:World)(cb:Nat)(l:Int)(op:ByteArray)(d:TypeId)(b:Value)(P Q:World->Prop)
 (j:Hid (Calls prog 164 #[.pointer (some ⟨cb,0,none⟩),.iface d b] (w.alloc (.cells #[.int .i64 l,.string op,.iface d b] 280)) λe w'=>e=.returned (.tuple #[])/\Q w'))
 (f:Hid (∀W,Q W->W.cell? ⟨w.heap.size,1,none⟩=some (.string op)/\w.heap.size<W.heap.size))
 (i:Hid (∀W,Q W->Calls prog 150 #[.pointer (some ⟨cb,0,none⟩),.iface 317 (.agg #[.string op])] W λe w'=>(∃k:Nat,e=.returned (.int .i64 k))/\P w')):
 Calls prog 164 #[.pointer (some ⟨cb,0,none⟩),.iface 280 (.agg #[.int .i64 l,.string op,.iface d b])] w λe w'=>e=.returned (.tuple #[])/\P w':=by
 have p:=AG;have s:=AF;have y:=GL;have t:=vI;have v:=GK;have u:=DY;have r:=DX;go_enter func164,ntmps164;go_wp2_with fail;refine j.out.mono ?_;rintro e n ⟨rfl,c⟩;obtain⟨o,x⟩:=f.out _ c;have a:=aB (i.out _ c);clear c;go_wp2_with fail;refine a.out.mono ?_;rintro e q ⟨⟨m,rfl⟩,g⟩;go_wp2_with fail;go_end0;exact⟨rfl,g⟩
def sV(w:World)(cb:Nat)(l:Int)(op:ByteArray)(d a:TypeId)(c b:Value)(P:World->Prop)
 (g:Hid (Calls prog 209 #[.pointer (some ⟨cb,0,none⟩),.agg #[.int .i64 l,.string op,.iface d c,.iface a b]] (w.alloc (.cells #[.int .i64 l,.string op,.iface d c,.iface a b] 282)) λe w'=>e=.returned (.tuple #[])/\P w')):
 Calls prog 164 #[.pointer (some ⟨cb,0,none⟩),.iface 282 (.agg #[.int .i64 l,.string op,.iface d c,.iface a b])] w λe w'=>e=.returned (.tuple #[])/\P w':=by
 have j:=xH;have n:=xG;have r:=EI;have o:=uB;have q:=EH;have p:=AK;have m:=AJ;have k:=xI;go_enter func164,ntmps164;go_wp2_with fail;refine g.out.mono ?_;rintro e i ⟨rfl,f⟩;go_wp2_with fail;go_end0;exact⟨rfl,f⟩
def rD(w:World)(cb n c:Nat)(l:Int)(s:ByteArray)(x:Option Addr)(P:World->Prop)
 (b:Hid (Calls prog 210 #[.pointer (some ⟨cb,0,none⟩),.agg #[.int .i64 l,.string s,.slice x n c]] (w.alloc (.cells #[.int .i64 l,.string s,.slice x n c] 271)) λe w'=>e=.returned (.tuple #[])/\P w')):
 Calls prog 164 #[.pointer (some ⟨cb,0,none⟩),.iface 271 (.agg #[.int .i64 l,.string s,.slice x n c])] w λe w'=>e=.returned (.tuple #[])/\P w':=by
 have f:=ED;have j:=EC;have q:=MQ;have k:=xF;have o:=MO;have m:=GP;have i:=GO;have g:=EE;have p:=MP;go_enter func164,ntmps164;go_wp2_with fail;refine b.out.mono ?_;rintro e d ⟨rfl,a⟩;go_wp2_with fail;go_end0;exact⟨rfl,a⟩
def VU(w:World)(cb g n d:Nat)(C:Nat->World->Prop)(y:n<=1000000)(l:C 0 w)
 (q:Hid (∀j W,C j W->j<n->g<W.heap.size/\∃t z,W.cell? ⟨g,j,none⟩=some (.iface t z)/\Calls prog 164 #[.pointer (some ⟨cb,0,none⟩),.iface t z] W λe w'=>e=.returned (.tuple #[])/\C (j+1) w')):
 Calls prog 208 #[.pointer (some ⟨cb,0,none⟩),.slice (some ⟨g,0,none⟩) n d] w λe w'=>e=.returned (.tuple #[])/\C n w':=by
 have o:=aB l;clear l;go_enter func208,ntmps208;go_wp2_with fail;go_loopg [5,8] n (λgk _ i wr=>∃j:Nat,j+gk=n/\i=.int .i64 j/\C j wr)
 case atStart=>exact⟨0,o_,rfl,o.out⟩
 case round=>
  obtain⟨j,B,rfl,b⟩:=hrel;by_cases c:j<n
  ·obtain⟨m,rfl⟩:∃m,gk=m+1:=⟨gk-1,o_⟩
   obtain⟨u,t,z,x,a⟩:=q.out _ _ b c;have r:=aB a;have A:(0:Int)<=(j:Int):=o_
   have v:(j:Int)<(n:Int):=o_
   clear b a;go_wp2_with fail;refine r.out.mono ?_;rintro e s ⟨rfl,p⟩;go_wp2_with fail;go_roundg m
   case measure=>omega
   case rel=>exact⟨j+1,o_,by go_num,p⟩
  ·have f:j=n:=o_
   subst f;have k:=aB b;clear b;go_wp2_with fail;go_end0;exact⟨rfl,k.out⟩
def D4(w:World)(cb:Nat):Calls prog 208 #[.pointer (some ⟨cb,0,none⟩),.slice none 0 0] w λe w'=>e=.returned (.tuple #[])/\w'=w:=by
 go_enter func208,ntmps208;go_wp2_with fail;go_loopg [5,8] 0 (λ_ _ i wr=>i=.int .i64 0/\wr=w)
 case atStart=>exact⟨rfl,rfl⟩
 case round=>
  obtain⟨rfl,rfl⟩:=hrel;go_wp2_with fail;go_end0;exact⟨rfl,rfl⟩
def SF(w:World)(cb n c:Nat)(l:Int)(x:Option Addr)(P Q:World->Prop)
 (i:Hid (Calls prog 208 #[.pointer (some ⟨cb,0,none⟩),.slice x n c] (w.alloc (.cells #[.int .i64 l,.string (bs [108,101,110]),.slice x n c] 271)) λe w'=>e=.returned (.tuple #[])/\Q w'))
 (f:Hid (∀W,Q W->W.cell? ⟨w.heap.size,1,none⟩=some (.string (bs [108,101,110]))/\w.heap.size<W.heap.size))
 (g:Hid (∀W,Q W->Calls prog 150 #[.pointer (some ⟨cb,0,none⟩),.iface 354 (.agg #[])] W λe w'=>(∃k:Nat,e=.returned (.int .i64 k))/\P w')):
 Calls prog 210 #[.pointer (some ⟨cb,0,none⟩),.agg #[.int .i64 l,.string (bs [108,101,110]),.slice x n c]] w λe w'=>e=.returned (.tuple #[])/\P w':=by
 have q:((bs [108,101,110]).toList==[108,101,110])=true:=by rw[cE];rfl
 generalize bs [108,101,110]=s at*;go_enter func210,ntmps210;go_wp2_with fail;refine i.out.mono ?_;rintro e j ⟨rfl,b⟩;obtain⟨o,p⟩:=f.out _ b;have a:=aB (g.out _ b);clear b;go_wp2_with fail;refine a.out.mono ?_;rintro e r ⟨⟨m,rfl⟩,d⟩;go_wp2_with fail;go_end0;exact⟨rfl,d⟩
def JP(w:World)(cb n c:Nat)(l:Int)(x:Option Addr)(P Q:World->Prop)
 (i:Hid (Calls prog 208 #[.pointer (some ⟨cb,0,none⟩),.slice x n c] (w.alloc (.cells #[.int .i64 l,.string (bs [114,101,97,100]),.slice x n c] 271)) λe w'=>e=.returned (.tuple #[])/\Q w'))
 (f:Hid (∀W,Q W->W.cell? ⟨w.heap.size,1,none⟩=some (.string (bs [114,101,97,100]))/\w.heap.size<W.heap.size))
 (g:Hid (∀W,Q W->Calls prog 150 #[.pointer (some ⟨cb,0,none⟩),.iface 355 (.agg #[])] W λe w'=>(∃k:Nat,e=.returned (.int .i64 k))/\P w')):
 Calls prog 210 #[.pointer (some ⟨cb,0,none⟩),.agg #[.int .i64 l,.string (bs [114,101,97,100]),.slice x n c]] w λe w'=>e=.returned (.tuple #[])/\P w':=by
 have r:((bs [114,101,97,100]).toList==[108,101,110])=false:=by rw[cE];rfl
 have p:((bs [114,101,97,100]).toList==[114,101,97,100])=true:=by rw[cE];rfl
 generalize bs [114,101,97,100]=t at*;go_enter func210,ntmps210;go_wp2_with fail;refine i.out.mono ?_;rintro e j ⟨rfl,b⟩;obtain⟨o,q⟩:=f.out _ b;have a:=aB (g.out _ b);clear b;go_wp2_with fail;refine a.out.mono ?_;rintro e s ⟨⟨m,rfl⟩,d⟩;go_wp2_with fail;go_end0;exact⟨rfl,d⟩
def EO(w:World)(cb n c g:Nat)(l:Int)(tx:List UInt8)(x:Option Addr)(P Q:World->Prop)(a:tx≠[108,101,110])(d:tx≠[114,101,97,100])
 (q:Hid (Calls prog 208 #[.pointer (some ⟨cb,0,none⟩),.slice x n c] (w.alloc (.cells #[.int .i64 l,.string (bs tx),.slice x n c] 271)) λe w'=>e=.returned (.tuple #[])/\Q w'))
 (j:Hid (∀W,Q W->W.cell? ⟨w.heap.size,1,none⟩=some (.string (bs tx))/\W.cell? ⟨w.heap.size,2,none⟩=some (.slice x n c)/\w.heap.size<W.heap.size))
 (i:Hid (∀W b,Q W->aZ W b->Calls prog 103 #[.pointer (some ⟨cb,0,none⟩),.string (bs tx)] b λe w'=>e=.returned (.pointer (some ⟨g,0,none⟩))/\w'=b))
 (p:Hid (∀W b,Q W->aZ W b->Calls prog 150 #[.pointer (some ⟨cb,0,none⟩),.iface 357 (.agg #[.pointer (some ⟨g,0,none⟩),.int .i64 n])] b λe w'=>(∃k:Nat,e=.returned (.int .i64 k))/\P w')):
 Calls prog 210 #[.pointer (some ⟨cb,0,none⟩),.agg #[.int .i64 l,.string (bs tx),.slice x n c]] w λe w'=>e=.returned (.tuple #[])/\P w':=by
 have z:((bs tx).toList==[108,101,110])=false:=by rw[cE];simpa using a
 have v:((bs tx).toList==[114,101,97,100])=false:=by rw[cE];simpa using d
 clear a d;go_enter func210,ntmps210;go_wp2_with fail;refine q.out.mono ?_;rintro e r ⟨rfl,a⟩;obtain⟨s,y,u⟩:=j.out _ a;have f:=aB a;clear a;go_wp2_with fail;go_region_law (go_simp;first|(go_at_call 103;refine(i.out _ _ f.out (aZ.drew _)).mono ?_;rintro e A ⟨rfl,rfl⟩)|(go_at_call 150;refine(p.out _ _ f.out (aZ.drew _)).mono ?_;rintro e t ⟨⟨m,rfl⟩,o⟩))
 all_goals
  go_wp2_with fail;go_end0;exact⟨rfl,o⟩
def NG(w:World)(cb:Nat)(l:Int)(op:List UInt8)(j c:TypeId)(g d:Value)(P Q R:World->Prop)(b:op≠[38,38])(a:op≠[124,124])
 (s:Hid (Calls prog 164 #[.pointer (some ⟨cb,0,none⟩),.iface j g] (w.alloc (.cells #[.int .i64 l,.string (bs op),.iface j g,.iface c d] 282)) λe w'=>e=.returned (.tuple #[])/\Q w'))
 (o:Hid (∀W,Q W->W.cell? ⟨w.heap.size,1,none⟩=some (.string (bs op))/\W.cell? ⟨w.heap.size,3,none⟩=some (.iface c d)/\w.heap.size<W.heap.size))
 (p:Hid (∀W,Q W->Calls prog 164 #[.pointer (some ⟨cb,0,none⟩),.iface c d] W λe w'=>e=.returned (.tuple #[])/\R w'))
 (n:Hid (∀W,R W->W.cell? ⟨w.heap.size,1,none⟩=some (.string (bs op))/\w.heap.size<W.heap.size))
 (r:Hid (∀W,R W->Calls prog 150 #[.pointer (some ⟨cb,0,none⟩),.iface 350 (.agg #[.string (bs op)])] W λe w'=>(∃k:Nat,e=.returned (.int .i64 k))/\P w')):
 Calls prog 209 #[.pointer (some ⟨cb,0,none⟩),.agg #[.int .i64 l,.string (bs op),.iface j g,.iface c d]] w λe w'=>e=.returned (.tuple #[])/\P w':=by
 have D:((bs op).toList==[38,38])=false:=by rw[cE];simpa using b
 have B:((bs op).toList==[124,124])=false:=by rw[cE];simpa using a
 clear b a;generalize bs op=A at*;go_enter func209,ntmps209;go_wp2_with fail;refine s.out.mono ?_;rintro e t ⟨rfl,b⟩;obtain⟨v,C,y⟩:=o.out _ b;have i:=aB (p.out _ b);clear b;go_wp2_with fail;refine i.out.mono ?_;rintro e E ⟨rfl,a⟩;obtain⟨z,u⟩:=n.out _ a;have f:=aB (r.out _ a);clear a;go_wp2_with fail;refine f.out.mono ?_;rintro e x ⟨⟨m,rfl⟩,q⟩;go_wp2_with fail;exact⟨rfl,_,results_none r_ _ _ _,rfl,q⟩
def NF(w:World)(cb k:Nat)(l:Int)(b:Bool)(op:List UInt8)(v i:TypeId)(r j:Value)(P Q y R S:World->Prop)(a:op=if b then [124,124] else [38,38])
 (F:Hid (Calls prog 164 #[.pointer (some ⟨cb,0,none⟩),.iface v r] (w.alloc (.cells #[.int .i64 l,.string (bs op),.iface v r,.iface i j] 282)) λe w'=>e=.returned (.tuple #[])/\Q w'))
 (A:Hid (∀W,Q W->W.cell? ⟨w.heap.size,1,none⟩=some (.string (bs op))/\w.heap.size<W.heap.size))
 (I:Hid (∀W,Q W->Calls prog 150 #[.pointer (some ⟨cb,0,none⟩),.nilIface] W λe w'=>e=.returned (.int .i64 k)/\y w'))
 (x:Hid (∀W,y W->W.cell? ⟨w.heap.size,3,none⟩=some (.iface i j)/\w.heap.size<W.heap.size))
 (H:Hid (∀W,y W->Calls prog 164 #[.pointer (some ⟨cb,0,none⟩),.iface i j] W λe w'=>e=.returned (.tuple #[])/\R w'))
 (L:Hid (∀W,R W->Calls prog 150 #[.pointer (some ⟨cb,0,none⟩),.iface 351 (.agg #[])] W λe w'=>(∃k:Nat,e=.returned (.int .i64 k))/\S w'))
 (f:Hid (∀W,S W->W.cell? ⟨w.heap.size,1,none⟩=some (.string (bs op))/\w.heap.size<W.heap.size/\cb<W.heap.size/\∃g n c,W.cell? ⟨cb,1,none⟩=some (.slice (some ⟨g,0,none⟩) n c)/\k<n/\n<=1000000/\(∃u,W.cell? ⟨g,k,none⟩=some u)/\W.frozen? ⟨g,k,none⟩=false/\g<W.heap.size/\∀E,aZ (W.setCell ⟨g,k,none⟩ (.iface 353 (.agg #[.bool b,.int .i64 n]))) E->P E)):
 Calls prog 209 #[.pointer (some ⟨cb,0,none⟩),.agg #[.int .i64 l,.string (bs op),.iface v r,.iface i j]] w λe w'=>e=.returned (.tuple #[])/\P w':=by
 have J:∃o:ByteArray,o=bs op/\(o.toList==[38,38])= !b/\(o.toList==[124,124])=b:=⟨bs op,rfl,by rw[cE,a];cases b<;>rfl,by rw[cE,a];cases b<;>rfl⟩
 obtain⟨o,C,K,e2⟩:=J;rw[<-C] at F A f ⊢
 clear C a;cases b
 all_goals
  simp only[Bool.not_true,Bool.not_false] at K;go_enter func209,ntmps209;go_wp2_with fail;refine F.out.mono ?_;rintro e N ⟨rfl,s⟩;obtain⟨O,b2⟩:=A.out _ s;have z:=aB (I.out _ s);clear s;go_wp2_with fail;refine z.out.mono ?_;rintro e w2 ⟨rfl,q⟩;obtain⟨d1,T⟩:=x.out _ q;have t:=aB (H.out _ q);clear q;go_wp2_with fail;refine t.out.mono ?_;rintro e V ⟨rfl,D⟩;have p:=aB (L.out _ D);clear D;go_wp2_with fail;refine p.out.mono ?_;rintro e M ⟨⟨m,rfl⟩,B⟩;obtain⟨Z,f2,f3,g,n,c,f4,f5,f6,⟨u,Y⟩,U,f9,d⟩:=f.out _ B;have G:=aB d;have i1:(0:Int)<=(k:Int):=o_
  have X:(k:Int)<(n:Int):=o_
  clear B d;go_wp2_with fail;go_region
  all_goals
   go_wp2_with fail;go_end0;exact⟨rfl,G.out _ (aZ.drew _)⟩
def nM(c:aC->Nat->List aH):∀(l m:List aC) (p:Nat),bP c (l++m) p=bP c l p++bP c m (p+(bP c l p).length)
 |[],m,p=>by simp[bP]
 |a::l,m,p=>by
  rw[fh,bP,bP,nM c l m,fo,ei,jh]
def CR(c:aC->Nat->List aH)(a:aC)(p:Nat):bP c [a] p=c a p:=by simp[bP]
def OT(c:aC->Nat->List aH)(a b:aC)(p:Nat):bP c [a,b] p=c a p++c b (p+(c a p).length):=by simp[bP]
section
variable (fs:List aC) (e_:List (List UInt8)) (d:Nat) (a:aC) (p:Nat)
def D7(h:a.op=[48]):aG fs e_ (d+1) a p=[.push (aW (((cD 0 a.x_).getD 0:Nat):Int))]:=by rw[aG];simp[h]
def D6(h:a.op=[115]):aG fs e_ (d+1) a p=[.push (bI a.x_)]:=by rw[aG];simp[h]
def VW(h:a.op=[98,111,111,108]):aG fs e_ (d+1) a p=[.push (bM (a.x_==[116,114,117,101]))]:=by rw[aG];simp[h]
def D5(h:a.op=[110,97,109,101]):aG fs e_ (d+1) a p=[.load (eB e_ a.x_)]:=by rw[aG];simp[h]
def VV(h:a.op=[108,105,115,116]):aG fs e_ (d+1) a p=bP (aG fs e_ d) a.y_ p++[.list a.y_.length]:=by rw[aG];simp[h]
def QY(h:a.op=[105,110,100,101,120]):aG fs e_ (d+1) a p=bP (aG fs e_ d) a.y_ p++[.index]:=by rw[aG];simp[h]
def QW(o:UInt8)(b:o=45\/o=33)(h:a.op=[o,120]):aG fs e_ (d+1) a p=bP (aG fs e_ d) a.y_ p++[.unary [o]]:=by
 rw[aG];rcases b with rfl|rfl<;>simp[h]
def DU(h:a.op=[99,97,108,108]):aG fs e_ (d+1) a p=bP (aG fs e_ d) a.y_ p++[if a.x_==[108,101,110] then .length else if a.x_==[114,101,97,100] then .read else .call (dA fs a.x_) a.y_.length]:=by rw[aG];simp[h]
def QX(b:Bool)(l r:aC)(h:a.op=if b then [124,124] else [38,38])(c:a.y_=[l,r]):aG fs e_ (d+1) a p=
 aG fs e_ d l p++[.shortcut b (p+(aG fs e_ d l p).length+1+(aG fs e_ d r (p+(aG fs e_ d l p).length+1)).length+1)]++aG fs e_ d r (p+(aG fs e_ d l p).length+1)++[.truth]:=by
 rw[aG];cases b<;>simp[h,c]
def MG(h:bW a.op≠9)(b:a.op≠[38,38])(c:a.op≠[124,124]):aG fs e_ (d+1) a p=bP (aG fs e_ d) a.y_ p++[.binary a.op]:=by
 rcases mW h with e|e|e|e|e|e|e|e|e|e|e
 all_goals first|exact absurd e c|exact absurd e b|(rw[aG];simp[e])
end
def IJ:∀(l:List UInt8) (n k:Nat),n<=9223372036854775807->cD n l=some k->k<=9223372036854775807
 |[],n,k,b,h=>by rw[cD] at h;cases h;exact b
 |c::r,n,k,b,h=>by
  rw[cD] at h;split at h
  ·cases h
  ·rename_i a;refine IJ r _ k ?_ h;have e:=iw c;have d:iE=9223372036854775807:=rfl;rw[d] at a;omega
section
variable {fp:Nat->Value} {fb:Nat->Nat} {nms:List (List UInt8)} {cb:Nat} {F:Nat->Prop} {w w':World} {code:List (Option aH)} {e_:List (List UInt8)}
def CP.patch{a b:List (Option aH)}(h:CP fp fb nms cb F w (a++none::b) e_):
 ∃g c,w.cell? ⟨cb,1,none⟩=some (.slice (some ⟨g,0,none⟩) (a++none::b).length c)/\(∃x,w.cell? ⟨g,a.length,none⟩=some x)/\w.frozen? ⟨g,a.length,none⟩=false/\g<w.heap.size/\
  ∀u i l,lI fp F w u i->aZ (w.setCell ⟨g,a.length,none⟩ u) l->CP fp fb nms cb F l (a++some i::b) e_/\FB cb w l:=by
 obtain⟨fv,cv,Z,A,⟨U,G,s⟩,O,P⟩:=h.blk;have K:=h.lt;have hl:(a++none::b).length=a.length+b.length+1:=t_
 rcases G.2 with ⟨_,I⟩|⟨g,c,q,rfl,I,t,L,T,H,N⟩
 ·omega
 have E:=aD t;have r:∃x,q[a.length]?=some x:=⟨_,ex (by rw[H];omega)⟩
 obtain⟨x,W⟩:=r;refine⟨g,c,aA A rfl,⟨x,aA t W⟩,aE t,E,λu i l V p=>?_⟩
 have n:∀k,k≠g->l.heap[k]?=w.heap[k]?:=λk n=>by rw[p.heap,ej _ _ _ _ n]
 have z:lA cb w=some g:=jE A;have y:l.heap[cb]?=_:=(n cb o_).trans A
 have d:FB cb w l:=⟨⟨p.os.trans rfl,p.tape.trans rfl,p.output.trans rfl,by rw[p.heap];simp,λk M=>n k o_⟩,λk _ _ s=>n k λe=>s (by rw[z,e]),λk e=>d6 (by rw[oG (n cb o_)] at e;exact e)⟩
 have v:=h.fixed d;refine⟨h.step (xs':=U.set a.length u) d y ⟨by rw[hQ,G.1];simp,d5 ⟨g,c,q.setIfInBounds a.length u,s_,I,by rw[p.heap];exact aQ t,by simpa using L,T,by simpa using H,?_⟩⟩ ?_ (eW.keep v (λ_ h=>h) O) (P.keep v (λ_ h=>h) d.bel.size),d⟩
 ·rw[jn,jo,<-N];simp
 ·have C:=s.keep v λ_ h=>h
  refine⟨by simp[s.1],λj o f=>?_⟩
  by_cases J:j=a.length
  ·subst J;rw[gh (d7 _)] at f;simp at f;subst f;exact⟨u,by rw[List.getElem?_set_self (by rw[s.1];omega)],lI.keep V v λ_ h=>h⟩
  ·have B:(a++none::b)[j]?=some o:=by
    rcases fk j a.length with D|D
    ·rw[gy D] at f ⊢;exact f
    ·rw[gh D] at f ⊢
     obtain⟨m,X⟩:∃m,j-a.length=m+1:=⟨j-a.length-1,o_⟩
     rw[X] at f ⊢
     simpa using f
   obtain⟨S,Y,Q⟩:=C.2 j o B;exact⟨S,by rw[List.getElem?_set_ne (λe=>J e.symm)];exact Y,Q⟩
end
def gC(fp:Nat->Value)(fb:Nat->Nat)(nms:List (List UInt8))(cb:Nat)(F:Nat->Prop)(w:World)(code:List (Option aH))(e_:List (List UInt8))(w':World):Prop:=
 CP fp fb nms cb F w' code e_/\FB cb w w'
def EW(fp:Nat->Value)(fb:Nat->Nat)(fs:List aC)(cb lo:Nat)(F:Nat->Prop)(a_:Bool)(e_:List (List UInt8))(d:Nat):Prop:=
 ∀(v:Value) (a:aC) (code:List (Option aH)) (w:World),CP fp fb (fs.map (·.x_)) cb F w code e_->PN (Btw lo cb) w v a->Hs.ExOk fs a_ e_ d a->pX d a->code.length+(aG fs e_ d a code.length).length<=1000000->
  Calls prog 164 #[.pointer (some ⟨cb,0,none⟩),v] w λe w'=>e=.returned (.tuple #[])/\gC fp fb (fs.map (·.x_)) cb F w (code++(aG fs e_ d a code.length).map some) e_ w'
section
variable {fp:Nat->Value} {fb:Nat->Nat} {fs:List aC} {cb lo:Nat} {F:Nat->Prop} {a_:Bool} {e_:List (List UInt8)} {d:Nat}
def gC.then{w w1 w':World}{b:List (List UInt8)}{a:List (Option aH)}(c:FB cb w w1)(h:gC fp fb b cb F w1 a e_ w'):gC fp fb b cb F w a e_ w':=⟨h.1,c.trans h.2⟩
def PKid.sliceC{F:Nat->Prop}{w:World}{v:Value}{l:List aC}(h:PKid F w v l):∃x c,v=.slice x l.length c:=by
 rcases h.get with ⟨rfl,rfl⟩|⟨g,a,rfl,_⟩
 ·exact⟨none,0,rfl⟩
 ·exact⟨_,_,rfl⟩
def ExOk.op{fs:List aC}{c:Bool}{e_:List (List UInt8)}{d:Nat}{a:aC}(h:Hs.ExOk fs c e_ (d+1) a):
 (∀k∈a.y_,Hs.ExOk fs c e_ d k)/\(a.op=[110,97,109,101]->a.x_∈e_)/\
   (a.op=[99,97,108,108]->a.x_=[108,101,110]\/a.x_=[114,101,97,100]\/(a.x_≠[108,101,110]/\a.x_≠[114,101,97,100]/\fP fs (dA fs a.x_)=some a.y_.length)):=by
 have n:∀{l r:aC},a.y_=[l,r]->Hs.ExOk fs c e_ d l->Hs.ExOk fs c e_ d r->∀k∈a.y_,Hs.ExOk fs c e_ d k:=λe b f k g=>by
  rw[e] at g;simp at g;rcases g with rfl|rfl
  ·exact b
  ·exact f
 have m:∀{x y:List UInt8} {p:Prop},a.op=x->x≠y->a.op=y->p:=λt s u=>absurd (t.symm.trans u) s
 rcases h with ⟨b,j⟩|⟨b,j,f⟩|⟨b,f⟩|⟨b,l,r,j,f,i⟩|⟨b,l,j,f⟩|⟨b,f,i⟩|⟨b,l,r,j,f,i⟩
 ·refine⟨λk g=>absurd g (by rw[j];simp),?_,?_⟩<;>rcases b with b|b|b<;>exact m b d_
 ·exact⟨λk g=>absurd g (by rw[j];simp),λ_=>f,m b d_⟩
 ·exact⟨f,m b d_,m b d_⟩
 ·exact⟨n j f i,m b d_,m b d_⟩
 ·refine⟨λk g=>?_,?_,?_⟩
  ·rw[j] at g;simp at g;rw[g];exact f
  all_goals rcases b with b|b<;>exact m b d_
 ·refine⟨f,m b d_,λ_=>?_⟩
  rcases i with ⟨i,_⟩|⟨i,_⟩|⟨i,o,_,q⟩
  ·exact d6 i
  ·exact d5 (d6 i)
  ·exact d5 (d5 ⟨i,o,q⟩)
 ·refine⟨n j f i,λe=>?_,λe=>?_⟩<;>(exfalso;rw[e] at b;exact b rfl)
def sA(H:EW fp fb fs cb lo F a_ e_ d)(v:Value)(l:List aC)(b:List (Option aH))(w:World)(h:CP fp fb (fs.map (·.x_)) cb F w b e_)(J:PKid (Btw lo cb) w v l)(E:∀a∈l,Hs.ExOk fs a_ e_ d a)(y:∀a∈l,pX d a)(G:l.length<=1000000)(L:b.length+(bP (aG fs e_ d) l b.length).length<=1000000):
 Calls prog 208 #[.pointer (some ⟨cb,0,none⟩),v] w λe w'=>e=.returned (.tuple #[])/\gC fp fb (fs.map (·.x_)) cb F w (b++(bP (aG fs e_ d) l b.length).map some) e_ w':=by
 rcases J.get with ⟨rfl,rfl⟩|⟨g,s,rfl,B,z,A,K⟩
 ·refine(D4 w cb).mono ?_;rintro e w' ⟨rfl,rfl⟩;exact⟨rfl,by simpa [bP] using h,FB.refl _⟩
 ·refine(VU w cb g l.length s (λj W=>j<=l.length/\gC fp fb (fs.map (·.x_)) cb F w (b++(bP (aG fs e_ d) (l.take j) b.length).map some) e_ W) G ⟨ft _,by simpa [bP] using h,FB.refl _⟩ (λj W C n=>?_)).mono ?_
  ·obtain⟨_,q,f⟩:=C;obtain⟨u,I,i⟩:=K j n;obtain⟨T,D,rfl⟩:=i.form;have r:l.take (j+1)=l.take j++[l[j]]:=gl n;have m:bP (aG fs e_ d) (l.take (j+1)) b.length=bP (aG fs e_ d) (l.take j) b.length++aG fs e_ d l[j] (b.length+(bP (aG fs e_ d) (l.take j) b.length).length):=by rw[r,nM,CR]
   have k:(bP (aG fs e_ d) (l.take (j+1)) b.length).length<=(bP (aG fs e_ d) l b.length).length:=by
    have e:l=l.take (j+1)++l.drop (j+1):=(gt _ _).symm;have:=congrArg (λx=>(bP (aG fs e_ d) x b.length).length) e
    simp only[nM,ei] at this;omega
   have o:(b++(bP (aG fs e_ d) (l.take j) b.length).map some).length=b.length+(bP (aG fs e_ d) (l.take j) b.length).length:=s_
   refine⟨el z f.bel.size,T,.agg D,by rw[f.bel.cell (p:=⟨g,j,none⟩) B.2];exact I,(H _ l[j] _ W q (i.below f.bel) (E _ (fi n)) (y _ (fi n)) ?_).mono ?_⟩
   ·rw[o];rw[m,ei] at k;omega
   ·rintro e w' ⟨t,c⟩;refine⟨t,n,?_⟩;rw[o] at c;rw[m,ga,<-fo];exact c.then f
  ·rintro e w' ⟨t,_,c⟩;rw[gp (d7 _)] at c;exact⟨t,c⟩
def emits{c:List (List UInt8)}{w W:World}{a:List (Option aH)}{u:Value}{i:aH}(b:gC fp fb c cb F w a e_ W)(h:lI fp F W u i)(j:a.length+1<=1000000):
 Calls prog 150 #[.pointer (some ⟨cb,0,none⟩),u] W λe w'=>(∃k:Nat,e=.returned (.int .i64 k))/\gC fp fb c cb F w (a++[some i]) e_ w':=by
 refine(rF (o:=some i) b.1 h o_).mono ?_
 rintro e w' ⟨d,g,f⟩;exact⟨⟨_,d⟩,g,b.2.trans f⟩
def DR(fs:List aC)(x:List UInt8):(fs.map (·.x_)).findIdx (λy=>y==x)=dA fs x:=by
 unfold dA;induction fs with
 |nil=>rfl
 |cons f fs a=>simp only[ew,List.findIdx_cons,a]
def fO(a:List (Option aH))(c:List aH):(a++c.map some).length=a.length+c.length:=s_
def WL(IH:EW fp fb fs cb lo F a_ e_ d)(bo:e_.length<=1000000)(bu:fs.length<=1000000)(ba:∀k,k<fs.length->fp k=.pointer (some ⟨fb k,0,none⟩)):EW fp fb fs cb lo F a_ e_ (d+1):=by
 intro v a j w h ca aw bv n;obtain⟨T,B,ps,rfl,cc,bq⟩:=ca.parts;obtain⟨au,ap,C⟩:=bv;have H:=ExOk.op aw;obtain⟨X,af⟩:=h.new (.cells B T)
 have E:∀p∈ps,Prt.ok (Btw lo cb) (w.alloc (.cells B T)) p:=λp Z=>by
  rcases bq p Z with ⟨A,b,h2,h3⟩|⟨A,h2⟩
  ·exact d6 ⟨A,b,h2,h3.below X.fb.bel⟩
  ·exact d5 ⟨A,PKid.below h2 X.fb.bel⟩
 have ab:∀{W:World} {c:List (Option aH)},gC fp fb (fs.map (·.x_)) cb F (w.alloc (.cells B T)) c e_ W->W.heap[w.heap.size]?=some (.cells B T (0,0)):=λu=>(X.step u.2).blk
 have I:∀{c:List (Option aH)} {e:Ending} {W:World},(e=.returned (.tuple #[])/\gC fp fb (fs.map (·.x_)) cb F (w.alloc (.cells B T)) c e_ W)->(e=.returned (.tuple #[])/\gC fp fb (fs.map (·.x_)) cb F w c e_ W):=λm=>⟨m.1,m.2.then X.fb⟩
 have G:gC fp fb (fs.map (·.x_)) cb F (w.alloc (.cells B T)) j e_ (w.alloc (.cells B T)):=⟨af,FB.refl _⟩
 have ce:(w.alloc (.cells B T)).heap.size=w.heap.size+1:=s_
 have am:∀{W:World} {v:Value} {k:aC} {c:List (Option aH)},gC fp fb (fs.map (·.x_)) cb F (w.alloc (.cells B T)) c e_ W->Prt.ok (Btw lo cb) (w.alloc (.cells B T)) ⟨v,[k],true⟩->Hs.ExOk fs a_ e_ d k->pX d k->c.length+(aG fs e_ d k c.length).length<=1000000->
  Calls prog 164 #[.pointer (some ⟨cb,0,none⟩),v] W λe P=>e=.returned (.tuple #[])/\gC fp fb (fs.map (·.x_)) cb F (w.alloc (.cells B T)) (c++(aG fs e_ d k c.length).map some) e_ P:=λu Z hx hl hn=>
  (IH _ _ _ _ u.1 (Z.one'.below u.2.bel) hx hl hn).mono λe P m=>⟨m.1,m.2.then u.2⟩
 have ag:∀{W:World} {v:Value} {l:List aC} {c:List (Option aH)},gC fp fb (fs.map (·.x_)) cb F (w.alloc (.cells B T)) c e_ W->Prt.ok (Btw lo cb) (w.alloc (.cells B T)) ⟨v,l,false⟩->(∀k∈l,Hs.ExOk fs a_ e_ d k)->(∀k∈l,pX d k)->l.length<=1000000->c.length+(bP (aG fs e_ d) l c.length).length<=1000000->
  Calls prog 208 #[.pointer (some ⟨cb,0,none⟩),v] W λe P=>e=.returned (.tuple #[])/\gC fp fb (fs.map (·.x_)) cb F (w.alloc (.cells B T)) (c++(bP (aG fs e_ d) l c.length).map some) e_ P:=λu Z hx hl bw hn=>
  (sA IH _ _ _ _ u.1 (Z.many.below u.2.bel) hx hl bw hn).mono λe P m=>⟨m.1,m.2.then u.2⟩
 rcases cc with ⟨rfl,k,rfl,s,av,r,rfl⟩|⟨rfl,rfl,s,r,rfl⟩|⟨rfl,rfl,s,r,rfl⟩|⟨rfl,sv,rfl,s,rfl⟩|⟨rfl,sv,rfl,s,rfl⟩|⟨rfl,rfl,s,r,rfl⟩|⟨rfl,l,v1,v2,S,a2,rfl,s,r,rfl⟩|⟨rfl,o,v1,S,rfl,bk,s,r,rfl⟩|⟨rfl,l,v1,v2,S,a2,rfl,s,r,rfl⟩|aj
 ·-- a number
  rw[D7 fs e_ d a _ s,av] at n ⊢
  have hk:=IJ _ _ _ o_ av
  exact(sU w cb a.l_ k _ (emits (i:=.push (aW k)) G ⟨_,rfl,PV.num _ _ _ o_ o_,by rw[kH];omega⟩ (by simp at n;omega))).mono λ_ _=>I
 ·rw[D6 fs e_ d a _ s] at n ⊢
  exact(GJ w cb a.l_ _ _ (emits (i:=.push (bI a.x_)) G ⟨_,rfl,PV.str _ _ _,by rw[kT];have:=(au s).1;omega⟩ (by simp at n;omega))).mono λ_ _=>I
 ·rw[VW fs e_ d a _ s] at n ⊢
  exact(RA w cb a.l_ _ _ (emits (i:=.push (bM (a.x_==[116,114,117,101]))) G ⟨_,rfl,PV.tru _ _ _,by rw[lR];omega⟩ (by simp at n;omega))).mono λ_ _=>I
 ·-- a list
  rw[VV fs e_ d a _ s] at n ⊢
  rw[ei,il] at n;have D:=H.1;have Z:=E ⟨sv,a.y_,false⟩ s_
  obtain⟨x,c,rfl⟩:=Z.many.sliceC;refine(QZ w cb a.y_.length c a.l_ x _ _ (ag G Z D C ap o_) (λW m=>⟨aA (ab m) rfl,aD (ab m)⟩) (λW m=>emits (i:=.list a.y_.length) m rfl (by rw[fO];omega))).mono ?_
  intro e W m;rw[ga,<-fo];exact I m
 ·-- a call
  rw[DU fs e_ d a _ s] at n ⊢
  rw[ei,il] at n;have D:=H.1;have ao:=H.2.2 s;have Z:=E ⟨sv,a.y_,false⟩ s_
  obtain⟨x,c,rfl⟩:=Z.many.sliceC;obtain⟨z,V⟩:=af.new (.cells #[.int .i64 a.l_,.string (bs a.x_),.slice x a.y_.length c] 271);generalize N:w.alloc (.cells #[.int .i64 a.l_,.string (bs a.x_),.slice x a.y_.length c] 271)=q at*;have Y:gC fp fb (fs.map (·.x_)) cb F q j e_ (q.alloc (.cells #[.int .i64 a.l_,.string (bs a.x_),.slice x a.y_.length c] 271)):=⟨V,z.fb⟩
  have hx:=ag Y Z D C ap o_
  have cd:q.heap.size<q.heap.size+1:=gb _;have bj:∀{W:World},FB cb (q.alloc (.cells #[.int .i64 a.l_,.string (bs a.x_),.slice x a.y_.length c] 271)) W->W.heap[q.heap.size]?=some (.cells #[.int .i64 a.l_,.string (bs a.x_),.slice x a.y_.length c] 271 (0,0)):=λbx=>(z.step bx).blk
  have M:Calls prog 208 #[.pointer (some ⟨cb,0,none⟩),.slice x a.y_.length c] (q.alloc (.cells #[.int .i64 a.l_,.string (bs a.x_),.slice x a.y_.length c] 271)) λe P=>e=.returned (.tuple #[])/\(gC fp fb (fs.map (·.x_)) cb F q (j++(bP (aG fs e_ d) a.y_ j.length).map some) e_ P/\P.heap[q.heap.size]?=some (.cells #[.int .i64 a.l_,.string (bs a.x_),.slice x a.y_.length c] 271 (0,0))):=by
   refine(sA IH _ _ _ _ V (Z.many.below z.fb.bel) D C ap o_).mono ?_
   rintro e P ⟨he,u⟩;exact⟨he,u.then z.fb,bj u.2⟩
  have ae:∀{i:aH} {e:Ending} {W:World},(e=.returned (.tuple #[])/\gC fp fb (fs.map (·.x_)) cb F q ((j++(bP (aG fs e_ d) a.y_ j.length).map some)++[some i]) e_ W)->e=.returned (.tuple #[])/\gC fp fb (fs.map (·.x_)) cb F w (j++(bP (aG fs e_ d) a.y_ j.length++[i]).map some) e_ W:=λm=>by
   rw[ga,<-fo];exact I m
  have ak:(j++(bP (aG fs e_ d) a.y_ j.length).map some).length+1<=1000000:=by rw[fO];omega
  rcases ao with ai|ai|⟨bc,bd,ah⟩
  ·rw[ai] at M N ⊢
   refine(rD w cb a.y_.length c a.l_ _ x (λW=>gC fp fb (fs.map (·.x_)) cb F q ((j++(bP (aG fs e_ d) a.y_ j.length).map some)++[some .length]) e_ W) (by rw[N];exact SF q cb a.y_.length c a.l_ x _ _ M (λW m=>⟨aA m.2 rfl,aD m.2⟩) (λW m=>emits (i:=.length) m.1 rfl ak))).mono ?_
   intro e W m;exact ae m
  ·rw[ai] at M N ⊢
   refine(rD w cb a.y_.length c a.l_ _ x (λW=>gC fp fb (fs.map (·.x_)) cb F q ((j++(bP (aG fs e_ d) a.y_ j.length).map some)++[some .read]) e_ W) (by rw[N];exact JP q cb a.y_.length c a.l_ x _ _ M (λW m=>⟨aA m.2 rfl,aD m.2⟩) (λW m=>emits (i:=.read) m.1 rfl ak))).mono ?_
   intro e W m;exact ae m
  ·have al:dA fs a.x_<fs.length:=by
    unfold fP at ah;cases hf:fs[dA fs a.x_]? with
    |none=>rw[hf] at ah;cases ah
    |some f=>exact(gr.1 hf).1
   have az:a.x_∈fs.map (·.x_):=by
    have h9:=al;unfold dA at h9;have:=jp (w:=h9);exact ia.2 ⟨_,fi h9,by simpa using this⟩
   have e1:(a.x_==[108,101,110])=false:=by simpa using bc
   have e2:(a.x_==[114,101,97,100])=false:=by simpa using bd
   rw[e1,e2];refine(rD w cb a.y_.length c a.l_ _ x (λW=>gC fp fb (fs.map (·.x_)) cb F q ((j++(bP (aG fs e_ d) a.y_ j.length).map some)++[some (.call (dA fs a.x_) a.y_.length)]) e_ W) ?_).mono ?_
   ·rw[N];refine EO q cb a.y_.length c (fb (dA fs a.x_)) a.l_ a.x_ x _ _ bc bd M (λW m=>⟨aA m.2 rfl,aA m.2 rfl,aD m.2⟩) (λW W' m hS=>?_) (λW W' m hS=>?_)
    ·refine(tF a.x_ (m.1.1.grow hS.below) az (by simpa using bu)).mono ?_
     rintro e P ⟨he,bm⟩;rw[DR,ba _ al] at he;exact⟨he,bm⟩
    ·have bt:gC fp fb (fs.map (·.x_)) cb F q (j++(bP (aG fs e_ d) a.y_ j.length).map some) e_ W':=⟨m.1.1.grow hS.below,m.1.2.trans (FB.of_below hS.below m.1.1.lt)⟩
     exact emits (i:=.call (dA fs a.x_) a.y_.length) bt (by show _=_;rw[ba _ al]) ak
   ·intro e W m;exact ae m
 ·-- a variable
  rw[D5 fs e_ d a _ s] at n ⊢
  have hm:=H.2.1 s;exact(AE w cb a.l_ _ (eB e_ a.x_) _ (OQ a.x_ af hm bo) (emits (i:=.load (eB e_ a.x_)) G rfl (by simp at n;omega))).mono λ_ _=>I
 ·-- an index
  rw[QY fs e_ d a _ s,r,OT] at n ⊢
  rw[ei,ei,il] at n;have D:=H.1;have L:=E ⟨v1,[S],true⟩ s_
  have ac:=E ⟨v2,[a2],true⟩ s_
  obtain⟨T1,Q,rfl⟩:=L.one'.form;obtain⟨T2,U,rfl⟩:=ac.one'.form;refine(MI w cb l T1 T2 _ _ _ _ _ (am G L (D S (by rw[r];simp)) (C S (by rw[r];simp)) o_) (λW m=>⟨aA (ab m) rfl,aD (ab m)⟩) (λW m=>am m ac (D a2 (by rw[r];simp)) (C a2 (by rw[r];simp)) (by rw[fO];omega)) (λW m=>emits (i:=.index) m rfl (by simp only[fO];omega))).mono ?_
  intro e W m;rw[fO] at m;rw[ga,ga,<-fo,<-fo];exact I m
 ·-- one operand
  rw[QW fs e_ d a _ o bk s,r,CR] at n ⊢
  rw[ei,il] at n;have D:=H.1;have L:=E ⟨v1,[S],true⟩ s_
  obtain⟨T1,Q,rfl⟩:=L.one'.form;refine(MH w cb a.l_ _ T1 _ _ _ (am G L (D S (by rw[r];simp)) (C S (by rw[r];simp)) o_) (λW m=>⟨aA (ab m) rfl,aD (ab m)⟩) (λW m=>emits (i:=.unary [o]) m rfl (by rw[fO];omega))).mono ?_
  intro e W m;rw[ga,<-fo];exact I m
 ·-- two operands
  have D:=H.1;have L:=E ⟨v1,[S],true⟩ s_
  have ac:=E ⟨v2,[a2],true⟩ s_
  obtain⟨T1,Q,rfl⟩:=L.one'.form;obtain⟨T2,U,rfl⟩:=ac.one'.form;have bf:=D S (by rw[r];simp)
  have M:=D a2 (by rw[r];simp)
  have ax:=C S (by rw[r];simp)
  have bb:=C a2 (by rw[r];simp)
  generalize J:(#[.int .i64 (l:Nat),.string (bs a.op),.iface T1 (.agg Q),.iface T2 (.agg U)]:Array Value)=B at*;obtain⟨z,V⟩:=af.new (.cells B 282);have Y:gC fp fb (fs.map (·.x_)) cb F (w.alloc (.cells B 282)) j e_ ((w.alloc (.cells B 282)).alloc (.cells B 282)):=⟨V,z.fb⟩
  generalize N:w.alloc (.cells B 282)=q at*
  have aa:∀{W:World} {v:Value} {k:aC} {c:List (Option aH)},(gC fp fb (fs.map (·.x_)) cb F q c e_ W/\Loc cb q q.heap.size (.cells B 282) W)->Prt.ok (Btw lo cb) q ⟨v,[k],true⟩->Hs.ExOk fs a_ e_ d k->pX d k->c.length+(aG fs e_ d k c.length).length<=1000000->
   Calls prog 164 #[.pointer (some ⟨cb,0,none⟩),v] W λe P=>e=.returned (.tuple #[])/\(gC fp fb (fs.map (·.x_)) cb F q (c++(aG fs e_ d k c.length).map some) e_ P/\Loc cb q q.heap.size (.cells B 282) P):=λu Z hx hl hn=>
   (IH _ _ _ _ u.1.1 (Z.one'.below u.1.2.bel) hx hl hn).mono λe P m=>⟨m.1,m.2.then u.1.2,u.2.step m.2.2⟩
  have t:∀{W:World},Loc cb q q.heap.size (.cells B 282) W->W.cell? ⟨q.heap.size,1,none⟩=some (.string (bs a.op))/\W.cell? ⟨q.heap.size,3,none⟩=some (.iface T2 (.agg U))/\q.heap.size<W.heap.size:=λhL=>⟨aA hL.blk (by rw[<-J];rfl),aA hL.blk (by rw[<-J];rfl),aD hL.blk⟩
  by_cases ad:a.op=[38,38]\/a.op=[124,124]
  ·obtain⟨b,hb⟩:∃b:Bool,a.op=if b then [124,124] else [38,38]:=by
    rcases ad with e|e
    ·exact⟨false,e⟩
    ·exact⟨true,e⟩
   rw[QX fs e_ d a _ b S a2 hb r] at n ⊢
   generalize bi:aG fs e_ d S j.length=K at*;generalize bh:aG fs e_ d a2 (j.length+K.length+1)=cr at*;simp only[ei,il] at n
   have O:=NF q cb (j.length+K.length) l b a.op T1 T2 (.agg Q) (.agg U) (λW=>gC fp fb (fs.map (·.x_)) cb F q (j++K.map some++some (.shortcut b (j.length+K.length+1+cr.length+1))::(cr.map some++[some .truth])) e_ W)
    (λW=>gC fp fb (fs.map (·.x_)) cb F q (j++K.map some) e_ W/\Loc cb q q.heap.size (.cells B 282) W)
    (λW=>gC fp fb (fs.map (·.x_)) cb F q (j++K.map some++[none]) e_ W/\Loc cb q q.heap.size (.cells B 282) W)
    (λW=>gC fp fb (fs.map (·.x_)) cb F q (j++K.map some++[none]++cr.map some) e_ W/\Loc cb q q.heap.size (.cells B 282) W)
    (λW=>gC fp fb (fs.map (·.x_)) cb F q (j++K.map some++[none]++cr.map some++[some .truth]) e_ W/\Loc cb q q.heap.size (.cells B 282) W) hb
    (by
      rw[J];have:=aa (c:=j) ⟨Y,z⟩ L bf ax (by rw[bi];omega)
      rw[bi] at this;exact this)
    (λW m=>⟨(t m.2).1,(t m.2).2.2⟩)
    (λW m=>(rF (o:=none) m.1.1 rfl (by rw[fO];omega)).mono λe P hr=>⟨by rw[hr.1,fO],⟨hr.2.1,m.1.2.trans hr.2.2⟩,m.2.step hr.2.2⟩)
    (λW m=>⟨(t m.2).2.1,(t m.2).2.2⟩)
    (λW m=>by
      have ay:(j++K.map some++[none]).length=j.length+K.length+1:=t_
      have:=aa m ac M bb (by rw[ay,bh];omega)
      rw[ay,bh] at this;exact this)
    (λW m=>(rF (o:=some .truth) m.1.1 rfl t_).mono λe P hr=>⟨⟨_,hr.1⟩,⟨hr.2.1,m.1.2.trans hr.2.2⟩,m.2.step hr.2.2⟩)
    (λW m=>by
      obtain⟨⟨aq,bp⟩,hL⟩:=m;have e0:j++K.map some++[none]++cr.map some++[some aH.truth]=(j++K.map some)++none::(cr.map some++[some aH.truth]):=s_
      rw[e0] at aq;have bn:=aq.lt;obtain⟨g,c,p1,p2,p3,p4,p5⟩:=aq.patch;have br:(j++K.map some).length=j.length+K.length:=fO _ _;have bz:((j++K.map some)++none::(cr.map some++[some aH.truth])).length=j.length+K.length+1+cr.length+1:=t_
      rw[br] at p2 p3 p5;rw[bz] at p1;refine⟨(t hL).1,(t hL).2.2,bn,g,_,c,p1,o_,o_,p2,p3,p4,λW' hS=>?_⟩
      obtain⟨q1,q2⟩:=p5 _ (.shortcut b (j.length+K.length+1+cr.length+1)) W' rfl hS;exact⟨q1,bp.trans q2⟩)
   rw[J] at O;rw[<-J];refine(sV w cb l (bs a.op) T1 T2 (.agg Q) (.agg U) _ (by rw[J,N];exact O)).mono ?_
   intro e W m;have e9:j++(K++[aH.shortcut b (j.length+K.length+1+cr.length+1)]++cr++[aH.truth]).map some=j++K.map some++some (.shortcut b (j.length+K.length+1+cr.length+1))::(cr.map some++[some .truth]):=s_
   rw[e9];exact I m
  ·have ar:a.op≠[38,38]:=λe=>ad (d6 e)
   have bg:a.op≠[124,124]:=λe=>ad (d5 e)
   rw[MG fs e_ d a _ s ar bg,r,OT] at n ⊢
   simp only[ei,il] at n
   have O:=NG q cb l a.op T1 T2 (.agg Q) (.agg U) (λW=>gC fp fb (fs.map (·.x_)) cb F q (j++(aG fs e_ d S j.length).map some++(aG fs e_ d a2 (j.length+(aG fs e_ d S j.length).length)).map some++[some (.binary a.op)]) e_ W) _ _ ar bg
    (by rw[J];exact aa (c:=j) ⟨Y,z⟩ L bf ax o_)
    (λW m=>t m.2)
    (λW m=>aa m ac M bb (by rw[fO];omega))
    (λW m=>⟨(t m.2).1,(t m.2).2.2⟩)
    (λW m=>by
      obtain⟨be,cf⟩:=m;rw[fO] at be;exact emits (i:=.binary a.op) be rfl (by simp only[fO];omega))
   rw[J] at O;rw[<-J];refine(sV w cb l (bs a.op) T1 T2 (.agg Q) (.agg U) _ (by rw[J,N];exact O)).mono ?_
   intro e W m;rw[ga,ga,<-fo,<-fo];exact I m
 ·-- no expression
  exfalso
  have bl:∀x∈([[118,97,114],[115,101,116],[105,102],[119,104,105,108,101],[114,101,116,117,114,110],[112,114,105,110,116],[100,111]]:List (List UInt8)),a.op≠x:=λx hx e=>by
   have hc:∀y∈([[48],[115],[98,111,111,108],[110,97,109,101],[108,105,115,116],[105,110,100,101,120],[45,120],[33,120],[99,97,108,108],[124,124],[38,38],[61,61],[33,61],[60],[60,61],[43],[45],[42],[47],[37]]:List (List UInt8)),a.op≠y:=λy hy e2=>by
    rw[e] at e2;subst e2;simp at hx hy;rcases hx with rfl|rfl|rfl|rfl|rfl|rfl|rfl<;>simp at hy
   rcases aw with ⟨A,_⟩|⟨A,_⟩|⟨A,_⟩|⟨A,_⟩|⟨A,_⟩|⟨A,_⟩|⟨A,_⟩
   ·rcases A with A|A|A<;>exact hc _ s_ A
   ·exact hc _ s_ A
   ·exact hc _ s_ A
   ·exact hc _ s_ A
   ·rcases A with A|A<;>exact hc _ s_ A
   ·exact hc _ s_ A
   ·rcases mW A with e|e|e|e|e|e|e|e|e|e|e<;>exact hc _ s_ e
  rcases aj with ⟨_,_,_,_,_,A,_⟩|⟨_,_,_,_,_,_,A,_⟩|⟨_,_,_,_,_,_,A,_⟩|⟨_,_,_,_,_,_,_,_,A,_⟩|⟨_,_,_,_,_,_,A,_⟩|⟨_,_,_,A,_⟩|⟨_,_,_,_,A,_⟩|⟨_,_,_,_,A,_⟩|⟨_,_,_,_,A,_⟩
  all_goals exact bl _ s_ A
def sB(c:e_.length<=1000000)(a:fs.length<=1000000)(b:∀k,k<fs.length->fp k=.pointer (some ⟨fb k,0,none⟩)):∀d,EW fp fb fs cb lo F a_ e_ d
 |0=>λ_ _ _ _ _ _ h=>h.elim
 |d+1=>WL (sB c a b d) c a b
end
section
variable(v:Value)(w:World)
def tS:(typeAssert (.iface 259 v) 92 259 true).run prog w=.ok (.tuple #[v,.bool true]) w:=k_
def uX:(typeAssert (.iface 262 v) 92 259 true).run prog w=.ok (.tuple #[.agg #[.int .i64 0,.int .i64 0,.string ⟨#[]⟩,.nilIface],.bool false]) w:=k_
def wS:(typeAssert (.iface 262 v) 92 262 true).run prog w=.ok (.tuple #[v,.bool true]) w:=k_
def FX:(typeAssert (.iface 264 v) 92 259 true).run prog w=.ok (.tuple #[.agg #[.int .i64 0,.int .i64 0,.string ⟨#[]⟩,.nilIface],.bool false]) w:=k_
def LE:(typeAssert (.iface 264 v) 92 262 true).run prog w=.ok (.tuple #[.agg #[.int .i64 0,.string ⟨#[]⟩,.slice none 0 0,.nilIface],.bool false]) w:=k_
def L2:(typeAssert (.iface 264 v) 92 264 true).run prog w=.ok (.tuple #[v,.bool true]) w:=k_
def wO:(typeAssert (.iface 266 v) 92 259 true).run prog w=.ok (.tuple #[.agg #[.int .i64 0,.int .i64 0,.string ⟨#[]⟩,.nilIface],.bool false]) w:=k_
def zV:(typeAssert (.iface 266 v) 92 262 true).run prog w=.ok (.tuple #[.agg #[.int .i64 0,.string ⟨#[]⟩,.slice none 0 0,.nilIface],.bool false]) w:=k_
def OV:(typeAssert (.iface 266 v) 92 264 true).run prog w=.ok (.tuple #[.agg #[.int .i64 0,.nilIface,.slice none 0 0,.slice none 0 0],.bool false]) w:=k_
def CS:(typeAssert (.iface 266 v) 92 266 true).run prog w=.ok (.tuple #[v,.bool true]) w:=k_
def uW:(typeAssert (.iface 268 v) 92 259 true).run prog w=.ok (.tuple #[.agg #[.int .i64 0,.int .i64 0,.string ⟨#[]⟩,.nilIface],.bool false]) w:=k_
def wQ:(typeAssert (.iface 268 v) 92 262 true).run prog w=.ok (.tuple #[.agg #[.int .i64 0,.string ⟨#[]⟩,.slice none 0 0,.nilIface],.bool false]) w:=k_
def LD:(typeAssert (.iface 268 v) 92 264 true).run prog w=.ok (.tuple #[.agg #[.int .i64 0,.nilIface,.slice none 0 0,.slice none 0 0],.bool false]) w:=k_
def zW:(typeAssert (.iface 268 v) 92 266 true).run prog w=.ok (.tuple #[.agg #[.int .i64 0,.nilIface,.slice none 0 0],.bool false]) w:=k_
def wP:(typeAssert (.iface 268 v) 92 268 true).run prog w=.ok (.tuple #[v,.bool true]) w:=k_
def wR:(typeAssert (.iface 269 v) 92 259 true).run prog w=.ok (.tuple #[.agg #[.int .i64 0,.int .i64 0,.string ⟨#[]⟩,.nilIface],.bool false]) w:=k_
def zY:(typeAssert (.iface 269 v) 92 262 true).run prog w=.ok (.tuple #[.agg #[.int .i64 0,.string ⟨#[]⟩,.slice none 0 0,.nilIface],.bool false]) w:=k_
def OW:(typeAssert (.iface 269 v) 92 264 true).run prog w=.ok (.tuple #[.agg #[.int .i64 0,.nilIface,.slice none 0 0,.slice none 0 0],.bool false]) w:=k_
def CT:(typeAssert (.iface 269 v) 92 266 true).run prog w=.ok (.tuple #[.agg #[.int .i64 0,.nilIface,.slice none 0 0],.bool false]) w:=k_
def zX:(typeAssert (.iface 269 v) 92 268 true).run prog w=.ok (.tuple #[.agg #[.int .i64 0,.nilIface],.bool false]) w:=k_
def CU:(typeAssert (.iface 269 v) 92 269 true).run prog w=.ok (.tuple #[v,.bool true]) w:=k_
def zZ:(typeAssert (.iface 271 v) 92 259 true).run prog w=.ok (.tuple #[.agg #[.int .i64 0,.int .i64 0,.string ⟨#[]⟩,.nilIface],.bool false]) w:=k_
def CW:(typeAssert (.iface 271 v) 92 262 true).run prog w=.ok (.tuple #[.agg #[.int .i64 0,.string ⟨#[]⟩,.slice none 0 0,.nilIface],.bool false]) w:=k_
def TY:(typeAssert (.iface 271 v) 92 264 true).run prog w=.ok (.tuple #[.agg #[.int .i64 0,.nilIface,.slice none 0 0,.slice none 0 0],.bool false]) w:=k_
def FY:(typeAssert (.iface 271 v) 92 266 true).run prog w=.ok (.tuple #[.agg #[.int .i64 0,.nilIface,.slice none 0 0],.bool false]) w:=k_
def CV:(typeAssert (.iface 271 v) 92 268 true).run prog w=.ok (.tuple #[.agg #[.int .i64 0,.nilIface],.bool false]) w:=k_
def FZ:(typeAssert (.iface 271 v) 92 269 true).run prog w=.ok (.tuple #[.agg #[.int .i64 0,.nilIface],.bool false]) w:=k_
def LF:(typeAssert (.iface 271 v) 92 271 true).run prog w=.ok (.tuple #[v,.bool true]) w:=k_
end
def TQ(l:Int)(a b c:Value)(w:World):(Go.method 524 259 (.agg #[.int .i64 l,a,b,c]) "Line").run prog w=.ok (126,.agg #[.int .i64 l]) w:=k_
def YT(l:Int)(a b c:Value)(w:World):(Go.method 524 262 (.agg #[.int .i64 l,a,b,c]) "Line").run prog w=.ok (126,.agg #[.int .i64 l]) w:=k_
def v7(l:Int)(a b c:Value)(w:World):(Go.method 524 264 (.agg #[.int .i64 l,a,b,c]) "Line").run prog w=.ok (126,.agg #[.int .i64 l]) w:=k_
def K2(l:Int)(a b:Value)(w:World):(Go.method 524 266 (.agg #[.int .i64 l,a,b]) "Line").run prog w=.ok (126,.agg #[.int .i64 l]) w:=k_
def YS(l:Int)(a:Value)(w:World):(Go.method 524 268 (.agg #[.int .i64 l,a]) "Line").run prog w=.ok (126,.agg #[.int .i64 l]) w:=k_
def K3(l:Int)(a:Value)(w:World):(Go.method 524 269 (.agg #[.int .i64 l,a]) "Line").run prog w=.ok (126,.agg #[.int .i64 l]) w:=k_
def U8(l:Int)(a b:Value)(w:World):(Go.method 524 271 (.agg #[.int .i64 l,a,b]) "Line").run prog w=.ok (126,.agg #[.int .i64 l]) w:=k_
def mT(a:Value)(w:World):(callFunc 126 #[a]).run prog w=.ok (.enter 126 #[a]) w:=k_
def gX(l:Int)(w:World):Calls prog 126 #[.agg #[.int .i64 l]] w λe w'=>e=.returned (.int .i64 l)/\w'=w.alloc (.cells #[.int .i64 l] 153):=by
 go_enter func126,ntmps126;go_wp2_with fail;go_ret;exact⟨rfl,rfl⟩
def sP(w:World)(cb a:Nat)(l:Int)(p:Option Addr)(f:TypeId)(d:Value)(P:World->Prop)(Q:World->Prop)(R:World->Prop)(C:cb<w.heap.size)(A:w.cell? ⟨cb,2,none⟩=some (.pointer p))
 (j:Hid (Calls prog 150 #[.pointer (some ⟨cb,0,none⟩),.iface 251 (.agg #[.int .i64 l,.pointer p])] (w.drew.alloc (.cells #[.int .i64 l] 153)) λe w'=>e=.returned (.int .i64 a)/\Q w'))
 (r:Hid (∀W,Q W->Calls prog 164 #[.pointer (some ⟨cb,0,none⟩),.iface f d] (W.alloc (.cells #[.int .i64 l,.iface f d] 268)) λe w'=>e=.returned (.tuple #[])/\R w'))
 (q:Hid (∀W,R W->Calls prog 150 #[.pointer (some ⟨cb,0,none⟩),.iface 244 (.agg #[])] W λe w'=>(∃k:Nat,e=.returned (.int .i64 k))/\P w')):
 Calls prog 201 #[.pointer (some ⟨cb,0,none⟩),.iface 268 (.agg #[.int .i64 l,.iface f d])] w λe w'=>e=.returned (.tuple #[])/\P w':=by
 have u:=uW;have y:=wQ;have E:=LD;have z:=zW;have B:=wP;have x:=YS;have o:=mT;go_enter func201,ntmps201;go_wp2_with fail;go_region_law (go_simp;first|(go_at_call 126;refine(gX l _).mono ?_;rintro e t ⟨rfl,rfl⟩)|(go_at_call 150;refine j.out.mono ?_;rintro e D ⟨rfl,g⟩))
 all_goals
  have c:=aB (r.out _ g);clear g;go_wp2_with fail;refine c.out.mono ?_;rintro e v ⟨rfl,i⟩;have b:=aB (q.out _ i);clear i;go_wp2_with fail;refine b.out.mono ?_;rintro e s ⟨⟨m,rfl⟩,n⟩;go_wp2_with fail;go_end0;exact⟨rfl,n⟩
def KW(w:World)(cb a:Nat)(l:Int)(p:Option Addr)(f:TypeId)(d:Value)(P:World->Prop)(Q:World->Prop)(R:World->Prop)(D:cb<w.heap.size)(B:w.cell? ⟨cb,2,none⟩=some (.pointer p))
 (j:Hid (Calls prog 150 #[.pointer (some ⟨cb,0,none⟩),.iface 251 (.agg #[.int .i64 l,.pointer p])] (w.drew.alloc (.cells #[.int .i64 l] 153)) λe w'=>e=.returned (.int .i64 a)/\Q w'))
 (r:Hid (∀W,Q W->Calls prog 164 #[.pointer (some ⟨cb,0,none⟩),.iface f d] (W.alloc (.cells #[.int .i64 l,.iface f d] 269)) λe w'=>e=.returned (.tuple #[])/\R w'))
 (q:Hid (∀W,R W->Calls prog 150 #[.pointer (some ⟨cb,0,none⟩),.iface 347 (.agg #[])] W λe w'=>(∃k:Nat,e=.returned (.int .i64 k))/\P w')):
 Calls prog 201 #[.pointer (some ⟨cb,0,none⟩),.iface 269 (.agg #[.int .i64 l,.iface f d])] w λe w'=>e=.returned (.tuple #[])/\P w':=by
 have u:=wR;have y:=zY;have F:=OW;have z:=CT;have C:=zX;have A:=CU;have x:=K3;have o:=mT;go_enter func201,ntmps201;go_wp2_with fail;go_region_law (go_simp;first|(go_at_call 126;refine(gX l _).mono ?_;rintro e t ⟨rfl,rfl⟩)|(go_at_call 150;refine j.out.mono ?_;rintro e E ⟨rfl,g⟩))
 all_goals
  have c:=aB (r.out _ g);clear g;go_wp2_with fail;refine c.out.mono ?_;rintro e v ⟨rfl,i⟩;have b:=aB (q.out _ i);clear i;go_wp2_with fail;refine b.out.mono ?_;rintro e s ⟨⟨m,rfl⟩,n⟩;go_wp2_with fail;go_end0;exact⟨rfl,n⟩
def OH(w:World)(cb a:Nat)(l:Int)(p:Option Addr)(tx:ByteArray)(x:Option Addr)(n c:Nat)(P:World->Prop)(Q:World->Prop)(R:World->Prop)(F:cb<w.heap.size)(D:w.cell? ⟨cb,2,none⟩=some (.pointer p))
 (i:Hid (Calls prog 150 #[.pointer (some ⟨cb,0,none⟩),.iface 251 (.agg #[.int .i64 l,.pointer p])] (w.drew.alloc (.cells #[.int .i64 l] 153)) λe w'=>e=.returned (.int .i64 a)/\Q w'))
 (r:Hid (∀W,Q W->Calls prog 210 #[.pointer (some ⟨cb,0,none⟩),.agg #[.int .i64 l,.string tx,.slice x n c]] (W.alloc (.cells #[.int .i64 l,.string tx,.slice x n c] 271)) λe w'=>e=.returned (.tuple #[])/\R w'))
 (q:Hid (∀W,R W->Calls prog 150 #[.pointer (some ⟨cb,0,none⟩),.iface 348 (.agg #[])] W λe w'=>(∃k:Nat,e=.returned (.int .i64 k))/\P w')):
 Calls prog 201 #[.pointer (some ⟨cb,0,none⟩),.iface 271 (.agg #[.int .i64 l,.string tx,.slice x n c])] w λe w'=>e=.returned (.tuple #[])/\P w':=by
 have u:=zZ;have A:=CW;have H:=TY;have B:=FY;have E:=CV;have C:=FZ;have z:=LF;have y:=U8;have o:=mT;go_enter func201,ntmps201;go_wp2_with fail;go_region_law (go_simp;first|(go_at_call 126;refine(gX l _).mono ?_;rintro e t ⟨rfl,rfl⟩)|(go_at_call 150;refine i.out.mono ?_;rintro e G ⟨rfl,f⟩))
 all_goals
  have d:=aB (r.out _ f);clear f;go_wp2_with fail;refine d.out.mono ?_;rintro e v ⟨rfl,g⟩;have b:=aB (q.out _ g);clear g;go_wp2_with fail;refine b.out.mono ?_;rintro e s ⟨⟨m,rfl⟩,j⟩;go_wp2_with fail;go_end0;exact⟨rfl,j⟩
def IM(w:World)(cb b:Nat)(l:Int)(p:Option Addr)(f:TypeId)(d:Value)(j g:Option Addr)(i k c1 a:Nat)(P:World->Prop)(Q:World->Prop)(z:cb<w.heap.size)(y:w.cell? ⟨cb,2,none⟩=some (.pointer p))
 (n:Hid (Calls prog 150 #[.pointer (some ⟨cb,0,none⟩),.iface 251 (.agg #[.int .i64 l,.pointer p])] (w.drew.alloc (.cells #[.int .i64 l] 153)) λe w'=>e=.returned (.int .i64 b)/\Q w'))
 (r:Hid (∀W,Q W->Calls prog 234 #[.pointer (some ⟨cb,0,none⟩),.agg #[.int .i64 l,.iface f d,.slice j i c1,.slice g k a]] (W.alloc (.cells #[.int .i64 l,.iface f d,.slice j i c1,.slice g k a] 264)) λe w'=>e=.returned (.tuple #[])/\P w')):
 Calls prog 201 #[.pointer (some ⟨cb,0,none⟩),.iface 264 (.agg #[.int .i64 l,.iface f d,.slice j i c1,.slice g k a])] w λe w'=>e=.returned (.tuple #[])/\P w':=by
 have t:=FX;have x:=LE;have B:=L2;have v:=v7;have o:=mT;go_enter func201,ntmps201;go_wp2_with fail;go_region_law (go_simp;first|(go_at_call 126;refine(gX l _).mono ?_;rintro e s ⟨rfl,rfl⟩)|(go_at_call 150;refine n.out.mono ?_;rintro e A ⟨rfl,m⟩))
 all_goals
  have c:=aB (r.out _ m);clear m;go_wp2_with fail;refine c.out.mono ?_;rintro e u ⟨rfl,q⟩;go_wp2_with fail;go_end0;exact⟨rfl,q⟩
def KV(w:World)(cb a:Nat)(l:Int)(p:Option Addr)(d:TypeId)(c:Value)(g:Option Addr)(f c1:Nat)(P:World->Prop)(Q:World->Prop)(x:cb<w.heap.size)(v:w.cell? ⟨cb,2,none⟩=some (.pointer p))
 (j:Hid (Calls prog 150 #[.pointer (some ⟨cb,0,none⟩),.iface 251 (.agg #[.int .i64 l,.pointer p])] (w.drew.alloc (.cells #[.int .i64 l] 153)) λe w'=>e=.returned (.int .i64 a)/\Q w'))
 (n:Hid (∀W,Q W->Calls prog 235 #[.pointer (some ⟨cb,0,none⟩),.agg #[.int .i64 l,.iface d c,.slice g f c1],.int .i64 a] (W.alloc (.cells #[.int .i64 l,.iface d c,.slice g f c1] 266)) λe w'=>e=.returned (.tuple #[])/\P w')):
 Calls prog 201 #[.pointer (some ⟨cb,0,none⟩),.iface 266 (.agg #[.int .i64 l,.iface d c,.slice g f c1])] w λe w'=>e=.returned (.tuple #[])/\P w':=by
 have q:=wO;have t:=zV;have z:=OV;have u:=CS;have s:=K2;have k:=mT;go_enter func201,ntmps201;go_wp2_with fail;go_region_law (go_simp;first|(go_at_call 126;refine(gX l _).mono ?_;rintro e o ⟨rfl,rfl⟩)|(go_at_call 150;refine j.out.mono ?_;rintro e y ⟨rfl,i⟩))
 all_goals
  have b:=aB (n.out _ i);clear i;go_wp2_with fail;refine b.out.mono ?_;rintro e r ⟨rfl,m⟩;go_wp2_with fail;go_end0;exact⟨rfl,m⟩
def CF(w:World)(cb a:Nat)(l:Int)(p:Option Addr)(u:Int)(d:ByteArray)(q:TypeId)(i:Value)(n:Nat)(P:World->Prop)(Q:World->Prop)(R g:Nat->World->Prop)(S:cb<w.heap.size)(O:w.cell? ⟨cb,2,none⟩=some (.pointer p))
 (v:Hid (Calls prog 150 #[.pointer (some ⟨cb,0,none⟩),.iface 251 (.agg #[.int .i64 l,.pointer p])] (w.drew.alloc (.cells #[.int .i64 l] 153)) λe w'=>e=.returned (.int .i64 a)/\Q w'))
 (E:Hid (∀W,Q W->Calls prog 164 #[.pointer (some ⟨cb,0,none⟩),.iface q i] (W.alloc (.cells #[.int .i64 l,.int .i64 u,.string d,.iface q i] 259)) λe w'=>e=.returned (.tuple #[])/\R W.heap.size w'))
 (x:Hid (∀b W,R b W->Calls prog 200 #[.pointer (some ⟨cb,0,none⟩)] W λe w'=>e=.returned (.int .i64 n)/\w'=W))
 (C:Hid (∀b W,R b W->Calls prog 150 #[.pointer (some ⟨cb,0,none⟩),.iface 342 (.agg #[.int .i64 n])] W λe w'=>(∃k:Nat,e=.returned (.int .i64 k))/\g b w'))
 (y:Hid (∀b W,g b W->W.cell? ⟨b,2,none⟩=some (.string d)/\b<W.heap.size))
 (A:Hid (∀b W,g b W->Calls prog 148 #[.pointer (some ⟨cb,0,none⟩),.string d] W λe w'=>e=.returned (.tuple #[])/\P w')):
 Calls prog 201 #[.pointer (some ⟨cb,0,none⟩),.iface 259 (.agg #[.int .i64 l,.int .i64 u,.string d,.iface q i])] w λe w'=>e=.returned (.tuple #[])/\P w':=by
 have I:=tS;have M:=TQ;have z:=mT;go_enter func201,ntmps201;go_wp2_with fail;go_region_law (go_simp;first|(go_at_call 126;refine(gX l _).mono ?_;rintro e G ⟨rfl,rfl⟩)|(go_at_call 150;refine v.out.mono ?_;rintro e D ⟨rfl,t⟩))
 all_goals
  have c:=aB (E.out _ t);generalize L:D.heap.size=b at c;clear t;go_wp2_with fail;refine c.out.mono ?_;rintro e J ⟨rfl,r⟩;have s:=aB (x.out _ _ r);have f:=aB (C.out _ _ r);clear r;go_wp2_with fail;refine s.out.mono ?_;rintro e F ⟨rfl,rfl⟩;go_wp2_with fail;refine f.out.mono ?_;rintro e T ⟨⟨m,rfl⟩,j⟩;obtain⟨N,H⟩:=y.out _ _ j;have o:=aB (A.out _ _ j);clear j;go_wp2_with fail;refine o.out.mono ?_;rintro e K ⟨rfl,B⟩;go_wp2_with fail;go_end0;exact⟨rfl,B⟩
def FU(w:World)(cb a:Nat)(l:Int)(p:Option Addr)(g:ByteArray)(x:Option Addr)(n c k:Nat)(o:TypeId)(j:Value)(P:World->Prop)(Q:World->Prop)(R i:Nat->World->Prop)(X:cb<w.heap.size)(V:w.cell? ⟨cb,2,none⟩=some (.pointer p))
 (y:Hid (Calls prog 150 #[.pointer (some ⟨cb,0,none⟩),.iface 251 (.agg #[.int .i64 l,.pointer p])] (w.drew.alloc (.cells #[.int .i64 l] 153)) λe w'=>e=.returned (.int .i64 a)/\Q w'))
 (G:Hid (∀W,Q W->Calls prog 208 #[.pointer (some ⟨cb,0,none⟩),.slice x n c] (W.alloc (.cells #[.int .i64 l,.string g,.slice x n c,.iface o j] 262)) λe w'=>e=.returned (.tuple #[])/\R W.heap.size w'))
 (z:Hid (∀b W,R b W->W.cell? ⟨b,3,none⟩=some (.iface o j)/\b<W.heap.size))
 (A:Hid (∀b W,R b W->Calls prog 164 #[.pointer (some ⟨cb,0,none⟩),.iface o j] W λe w'=>e=.returned (.tuple #[])/\i b w'))
 (t:Hid (∀b W,i b W->W.cell? ⟨b,1,none⟩=some (.string g)/\W.cell? ⟨b,2,none⟩=some (.slice x n c)/\b<W.heap.size))
 (C:Hid (∀b W d,i b W->aZ W d->Calls prog 207 #[.pointer (some ⟨cb,0,none⟩),.string g] d λe w'=>e=.returned (.int .i64 k)/\w'=d))
 (E:Hid (∀b W d,i b W->aZ W d->Calls prog 150 #[.pointer (some ⟨cb,0,none⟩),.iface 344 (.agg #[.int .i64 k,.int .i64 n])] d λe w'=>(∃k:Nat,e=.returned (.int .i64 k))/\P w')):
 Calls prog 201 #[.pointer (some ⟨cb,0,none⟩),.iface 262 (.agg #[.int .i64 l,.string g,.slice x n c,.iface o j])] w λe w'=>e=.returned (.tuple #[])/\P w':=by
 have K:=uX;have T:=wS;have O:=YT;have B:=mT;go_enter func201,ntmps201;go_wp2_with fail;go_region_law (go_simp;first|(go_at_call 126;refine(gX l _).mono ?_;rintro e I ⟨rfl,rfl⟩)|(go_at_call 150;refine y.out.mono ?_;rintro e F ⟨rfl,u⟩))
 all_goals
  have f:=aB (G.out _ u);generalize N:F.heap.size=b at f;clear u;go_wp2_with fail;refine f.out.mono ?_;rintro e L ⟨rfl,s⟩;obtain⟨U,J⟩:=z.out _ _ s;have r:=aB (A.out _ _ s);clear s;go_wp2_with fail;refine r.out.mono ?_;rintro e H ⟨rfl,q⟩;obtain⟨S,Y,Z⟩:=t.out _ _ q;have v:=aB q;clear q;go_wp2_with fail;go_region_law (go_simp;first|(go_at_call 207;refine(C.out _ _ _ v.out (aZ.drew _)).mono ?_;rintro e w5 ⟨rfl,rfl⟩)|(go_at_call 150;refine(E.out _ _ _ v.out (aZ.drew _)).mono ?_;rintro e M ⟨⟨m,rfl⟩,D⟩))
  all_goals
   go_wp2_with fail;go_end0;exact⟨rfl,D⟩
def zS(w:World)(cb g n d:Nat)(C:Nat->World->Prop)(y:n<=1000000)(l:C 0 w)
 (q:Hid (∀j W,C j W->j<n->g<W.heap.size/\∃t z,W.cell? ⟨g,j,none⟩=some (.iface t z)/\Calls prog 201 #[.pointer (some ⟨cb,0,none⟩),.iface t z] W λe w'=>e=.returned (.tuple #[])/\C (j+1) w')):
 Calls prog 149 #[.pointer (some ⟨cb,0,none⟩),.slice (some ⟨g,0,none⟩) n d] w λe w'=>e=.returned (.tuple #[])/\C n w':=by
 have o:=aB l;clear l;go_enter func149,ntmps149;go_wp2_with fail;go_loopg [5,8] n (λgk _ i wr=>∃j:Nat,j+gk=n/\i=.int .i64 j/\C j wr)
 case atStart=>exact⟨0,o_,rfl,o.out⟩
 case round=>
  obtain⟨j,B,rfl,b⟩:=hrel;by_cases c:j<n
  ·obtain⟨m,rfl⟩:∃m,gk=m+1:=⟨gk-1,o_⟩
   obtain⟨u,t,z,x,a⟩:=q.out _ _ b c;have r:=aB a;have A:(0:Int)<=(j:Int):=o_
   have v:(j:Int)<(n:Int):=o_
   clear b a;go_wp2_with fail;refine r.out.mono ?_;rintro e s ⟨rfl,p⟩;go_wp2_with fail;go_roundg m
   case measure=>omega
   case rel=>exact⟨j+1,o_,by go_num,p⟩
  ·have f:j=n:=o_
   subst f;have k:=aB b;clear b;go_wp2_with fail;go_end0;exact⟨rfl,k.out⟩
def CE(w:World)(cb:Nat):Calls prog 149 #[.pointer (some ⟨cb,0,none⟩),.slice none 0 0] w λe w'=>e=.returned (.tuple #[])/\w'=w:=by
 go_enter func149,ntmps149;go_wp2_with fail;go_loopg [5,8] 0 (λ_ _ i wr=>i=.int .i64 0/\wr=w)
 case atStart=>exact⟨rfl,rfl⟩
 case round=>
  obtain⟨rfl,rfl⟩:=hrel;go_wp2_with fail;go_end0;exact⟨rfl,rfl⟩
def WR(w:World)(cb:Nat)(p x:Option Addr)(n c:Nat)(P Q:World->Prop)(l:w.cell? ⟨cb,2,none⟩=some (.pointer p))
 (g:Hid (Calls prog 149 #[.pointer (some ⟨cb,0,none⟩),.slice x n c] w λe w'=>e=.returned (.tuple #[])/\Q w'))
 (d:Hid (∀W,Q W->(∃u,W.cell? ⟨cb,2,none⟩=some u)/\W.frozen? ⟨cb,2,none⟩=false/\cb<W.heap.size/\P (W.setCell ⟨cb,2,none⟩ (.pointer p)))):
 Calls prog 244 #[.pointer (some ⟨cb,0,none⟩),.slice x n c] w λe w'=>e=.returned (.tuple #[])/\P w':=by
 go_enter func244,ntmps244;go_wp2_with fail;refine g.out.mono ?_;rintro e i ⟨rfl,b⟩;obtain⟨⟨u,j⟩,m,k,a⟩:=d.out _ b;have f:=aB a;clear b a;go_wp2_with fail;go_end0;exact⟨rfl,f.out⟩
def RZ(w:World)(cb b d:Nat)(l:Int)(A:TypeId)(z:Value)(p k:Option Addr)(m o c1 j:Nat)(P M E F G r L:World->Prop)
 (HX:Hid (Calls prog 164 #[.pointer (some ⟨cb,0,none⟩),.iface A z] (w.alloc (.cells #[.int .i64 l,.iface A z,.slice p m c1,.slice k o j] 264)) λe w'=>e=.returned (.tuple #[])/\M w'))
 (v:Hid (∀W,M W->Calls prog 150 #[.pointer (some ⟨cb,0,none⟩),.nilIface] W λe w'=>e=.returned (.int .i64 b)/\E w'))
 (x:Hid (∀W,E W->W.cell? ⟨w.heap.size,2,none⟩=some (.slice p m c1)/\w.heap.size<W.heap.size))
 (HT:Hid (∀W,E W->Calls prog 244 #[.pointer (some ⟨cb,0,none⟩),.slice p m c1] W λe w'=>e=.returned (.tuple #[])/\F w'))
 (s:Hid (∀W,F W->Calls prog 150 #[.pointer (some ⟨cb,0,none⟩),.nilIface] W λe w'=>e=.returned (.int .i64 d)/\G w'))
 (D:Hid (∀W,G W->cb<W.heap.size/\∃g n c,W.cell? ⟨cb,1,none⟩=some (.slice (some ⟨g,0,none⟩) n c)/\b<n/\n<=1000000/\(∃u,W.cell? ⟨g,b,none⟩=some u)/\W.frozen? ⟨g,b,none⟩=false/\g<W.heap.size/\∀f,aZ (W.setCell ⟨g,b,none⟩ (.iface 366 (.agg #[.int .i64 n]))) f->r f))
 (C:Hid (∀W,r W->W.cell? ⟨w.heap.size,3,none⟩=some (.slice k o j)/\w.heap.size<W.heap.size))
 (HL:Hid (∀W,r W->Calls prog 244 #[.pointer (some ⟨cb,0,none⟩),.slice k o j] W λe w'=>e=.returned (.tuple #[])/\L w'))
 (q:Hid (∀W,L W->cb<W.heap.size/\∃g n c,W.cell? ⟨cb,1,none⟩=some (.slice (some ⟨g,0,none⟩) n c)/\d<n/\n<=1000000/\(∃u,W.cell? ⟨g,d,none⟩=some u)/\W.frozen? ⟨g,d,none⟩=false/\g<W.heap.size/\∀f,aZ (W.setCell ⟨g,d,none⟩ (.iface 367 (.agg #[.int .i64 n]))) f->P f)):
 Calls prog 234 #[.pointer (some ⟨cb,0,none⟩),.agg #[.int .i64 l,.iface A z,.slice p m c1,.slice k o j]] w λe w'=>e=.returned (.tuple #[])/\P w':=by
 go_enter func234,ntmps234;go_wp2_with fail;refine HX.out.mono ?_;rintro e w1 ⟨rfl,K⟩;have T:=aB (v.out _ K);clear K;go_wp2_with fail;refine T.out.mono ?_;rintro e w2 ⟨rfl,y⟩;obtain⟨b1,b2⟩:=x.out _ y;have H2:=aB (HT.out _ y);clear y;go_wp2_with fail;refine H2.out.mono ?_;rintro e w3 ⟨rfl,H⟩;have H3:=aB (s.out _ H);clear H;go_wp2_with fail;refine H3.out.mono ?_;rintro e w4 ⟨rfl,I⟩;obtain⟨f3,g,n,c,f4,f5,f6,⟨u,f7⟩,f8,f9,i⟩:=D.out _ I;have HP:=aB i;have i1:(0:Int)<=(b:Int):=o_
 have i2:(b:Int)<(n:Int):=o_
 clear I i;go_wp2_with fail;go_region
 all_goals
  have t:=HP.out _ (aZ.drew _);obtain⟨d1,d2⟩:=C.out _ t;have Q:=aB (HL.out _ t);clear t;generalize J:(w4.setCell ⟨g,b,none⟩ (.iface 366 (.agg #[.int .i64 n]))).drew=w5 at*;have HW:=aB J;clear J;go_wp2_with fail;refine Q.out.mono ?_;rintro e w6 ⟨rfl,N⟩;obtain⟨ac,g',U,c',X,ab,S,⟨u',aa⟩,Y,O,a⟩:=q.out _ N;have B:=aB a;have Z:(0:Int)<=(d:Int):=o_
  have V:(d:Int)<(U:Int):=o_
  clear N a;go_wp2_with fail;go_region
  all_goals
   go_wp2_with fail;go_end0;exact⟨rfl,B.out _ (aZ.drew _)⟩
def B8(w:World)(cb k a:Nat)(l:Int)(p:TypeId)(j:Value)(f:Option Addr)(d c1:Nat)(P A s t v:World->Prop)
 (H:Hid (Calls prog 164 #[.pointer (some ⟨cb,0,none⟩),.iface p j] (w.alloc (.cells #[.int .i64 l,.iface p j,.slice f d c1] 266)) λe w'=>e=.returned (.tuple #[])/\A w'))
 (o:Hid (∀W,A W->Calls prog 150 #[.pointer (some ⟨cb,0,none⟩),.nilIface] W λe w'=>e=.returned (.int .i64 k)/\s w'))
 (r:Hid (∀W,s W->W.cell? ⟨w.heap.size,2,none⟩=some (.slice f d c1)/\w.heap.size<W.heap.size))
 (I:Hid (∀W,s W->Calls prog 244 #[.pointer (some ⟨cb,0,none⟩),.slice f d c1] W λe w'=>e=.returned (.tuple #[])/\t w'))
 (C:Hid (∀W,t W->Calls prog 150 #[.pointer (some ⟨cb,0,none⟩),.iface 367 (.agg #[.int .i64 a])] W λe w'=>(∃k:Nat,e=.returned (.int .i64 k))/\v w'))
 (q:Hid (∀W,v W->cb<W.heap.size/\∃g n c,W.cell? ⟨cb,1,none⟩=some (.slice (some ⟨g,0,none⟩) n c)/\k<n/\n<=1000000/\(∃u,W.cell? ⟨g,k,none⟩=some u)/\W.frozen? ⟨g,k,none⟩=false/\g<W.heap.size/\∀B,aZ (W.setCell ⟨g,k,none⟩ (.iface 366 (.agg #[.int .i64 n]))) B->P B)):
 Calls prog 235 #[.pointer (some ⟨cb,0,none⟩),.agg #[.int .i64 l,.iface p j,.slice f d c1],.int .i64 a] w λe w'=>e=.returned (.tuple #[])/\P w':=by
 go_enter func235,ntmps235;go_wp2_with fail;refine H.out.mono ?_;rintro e K ⟨rfl,y⟩;have F:=aB (o.out _ y);clear y;go_wp2_with fail;refine F.out.mono ?_;rintro e w2 ⟨rfl,i⟩;obtain⟨L,T⟩:=r.out _ i;have G:=aB (I.out _ i);clear i;go_wp2_with fail;refine G.out.mono ?_;rintro e N ⟨rfl,z⟩;have D:=aB (C.out _ z);clear z;go_wp2_with fail;refine D.out.mono ?_;rintro e J ⟨⟨m,rfl⟩,x⟩;obtain⟨Y,g,n,c,X,S,U,⟨u,Q⟩,M,Z,b⟩:=q.out _ x;have E:=aB b;have V:(0:Int)<=(k:Int):=o_
 have O:(k:Int)<(n:Int):=o_
 clear x b;go_wp2_with fail;go_region
 all_goals
  go_wp2_with fail;go_end0;exact⟨rfl,E.out _ (aZ.drew _)⟩
def stC_seen{e_:List (List UInt8)}{a:aC}(p:Nat)(h:dP fs d e_ a):(bB fs d e_ a p).2=cO e_ a:=
 (mS fs d e_ a (λ_ _=>False) p h ⟨λ_ _ _ h=>h.elim,λ_ _ h=>h.elim⟩).2.1
def StsOk.split{S:List (List UInt8)->aC->Prop}:∀{l m:List aC} {e_:List (List UInt8)},Hs.StsOk S e_ (l++m)->Hs.StsOk S e_ l/\Hs.StsOk S (dT e_ l) m
 |[],_,_,h=>⟨trivial,h⟩
 |_::_,_,_,h=>by
  obtain⟨c,a⟩:=h;obtain⟨d,b⟩:=StsOk.split a;exact⟨⟨c,d⟩,b⟩
def qO:∀(l m:List aC) (e_:List (List UInt8)),dT e_ (l++m)=dT (dT e_ l) m
 |[],_,_=>rfl
 |a::l,m,e_=>qO l m (cO e_ a)
def qH:∀{l:List aC} (m:List aC) {e_:List (List UInt8)} (p:Nat),Hs.StsOk (dP fs d) e_ l->bG (bB fs d) e_ (l++m) p=bG (bB fs d) e_ l p++bG (bB fs d) (dT e_ l) m (p+(bG (bB fs d) e_ l p).length)
 |[],m,e_,p,_=>by simp[bG,dT]
 |a::l,m,e_,p,h=>by
  obtain⟨c,b⟩:=h;rw[fh,bG,bG,stC_seen p c,qH m _ b,fo,ei,jh];rfl
def J6(a:aC)(e_:List (List UInt8))(p:Nat):bG (bB fs d) e_ [a] p=(bB fs d e_ a p).1:=by simp[bG]
def NN(fp:Nat->Value)(fb:Nat->Nat)(nms:List (List UInt8))(cb:Nat)(F:Nat->Prop)(w:World)(code:List (Option aH))(e_:List (List UInt8))(w':World):Prop:=
 ∃G,(∀k,F k->G k)/\gC fp fb nms cb G w code e_ w'
def SM(fp:Nat->Value)(fb:Nat->Nat)(fs:List aC)(cb lo:Nat)(d:Nat):Prop:=
 ∀(F:Nat->Prop) (e_:List (List UInt8)) (v:Value) (a:aC) (code:List (Option aH)) (w:World),CP fp fb (fs.map (·.x_)) cb F w code e_->PN (Btw lo cb) w v a->dP fs d e_ a->mL a->e_.length<=90001->code.length+(bB fs d e_ a code.length).1.length<=1000000->
  Calls prog 201 #[.pointer (some ⟨cb,0,none⟩),v] w λe w'=>e=.returned (.tuple #[])/\NN fp fb (fs.map (·.x_)) cb F w (code++(bB fs d e_ a code.length).1.map some) (bB fs d e_ a code.length).2 w'
section
variable {fp:Nat->Value} {fb:Nat->Nat} {fs:List aC} {cb lo:Nat} {F:Nat->Prop} {e_:List (List UInt8)} {d:Nat}
def NN.then{w w1 w':World}{b:List (List UInt8)}{a:List (Option aH)}(c:FB cb w w1)(h:NN fp fb b cb F w1 a e_ w'):NN fp fb b cb F w a e_ w':=by
 obtain⟨G,d,h⟩:=h;exact⟨G,d,h.then c⟩
def NN.more{G:Nat->Prop}{w w':World}{b:List (List UInt8)}{a:List (Option aH)}(e:∀k,F k->G k)(h:NN fp fb b cb G w a e_ w'):NN fp fb b cb F w a e_ w':=by
 obtain⟨H,d,h⟩:=h;exact⟨H,λk c=>d k (e k c),h⟩
def YV{fs:List aC}{d:Nat}{e_:List (List UInt8)}{a:aC}(h:dP fs d e_ a)(f:e_.length<=90001):(cO e_ a).length<=90001:=by
 cases d with
 |zero=>exact h.elim
 |succ d=>
  unfold cO;split
  ·rename_i c;rcases h with ⟨_,b,t,v,e,_⟩|⟨b,_⟩|⟨b,_⟩|⟨b,_⟩|⟨b,_⟩|⟨b,_⟩|⟨b,_⟩
   ·rw[e];simp;omega
   all_goals exact absurd (c.symm.trans b) d_
  ·exact f
def yA{fs:List aC}{d:Nat}:∀{l:List aC} {e_:List (List UInt8)},Hs.StsOk (dP fs d) e_ l->e_.length<=90001->(dT e_ l).length<=90001
 |[],_,_,h=>h
 |a::l,e_,c,h=>by
  obtain⟨e,b⟩:=c;exact yA (l:=l) (e_:=cO e_ a) b (YV e h)
def pV(N:SM fp fb fs cb lo d)(v:Value)(l:List aC)(b:List (Option aH))(w:World)(h:CP fp fb (fs.map (·.x_)) cb F w b e_)(Q:PKid (Btw lo cb) w v l)(I:Hs.StsOk (dP fs d) e_ l)(D:∀a∈l,mL a)(M:l.length<=1000000)(y:e_.length<=90001)(U:b.length+(bG (bB fs d) e_ l b.length).length<=1000000):
 Calls prog 149 #[.pointer (some ⟨cb,0,none⟩),v] w λe w'=>e=.returned (.tuple #[])/\NN fp fb (fs.map (·.x_)) cb F w (b++(bG (bB fs d) e_ l b.length).map some) (dT e_ l) w':=by
 rcases Q.get with ⟨rfl,rfl⟩|⟨g,A,rfl,J,E,H,S⟩
 ·refine(CE w cb).mono ?_;rintro e w' ⟨rfl,rfl⟩;exact⟨rfl,F,λ_ h=>h,by simpa [bG,dT] using h,FB.refl _⟩
 ·refine(zS w cb g l.length A (λj W=>j<=l.length/\NN fp fb (fs.map (·.x_)) cb F w (b++(bG (bB fs d) e_ (l.take j) b.length).map some) (dT e_ (l.take j)) W) M ⟨ft _,F,λ_ h=>h,by simpa [bG,dT] using h,FB.refl _⟩ (λj W K t=>?_)).mono ?_
  ·obtain⟨_,G,P,x,f⟩:=K;obtain⟨u,O,m⟩:=S j t;obtain⟨T,L,rfl⟩:=m.form;have k:l.take (j+1)=l.take j++[l[j]]:=gl t
   have i:Hs.StsOk (dP fs d) e_ (l.take j++(l[j]::l.drop (j+1))):=by
    have e:l.take j++(l[j]::l.drop (j+1))=l:=by
     rw[jf];exact gt _ _
    rw[e];exact I
   obtain⟨n,o,_⟩:=StsOk.split i;have r:bG (bB fs d) e_ (l.take (j+1)) b.length=bG (bB fs d) e_ (l.take j) b.length++(bB fs d (dT e_ (l.take j)) l[j] (b.length+(bG (bB fs d) e_ (l.take j) b.length).length)).1:=by rw[k,qH _ _ n,J6]
   have q:(bG (bB fs d) e_ (l.take (j+1)) b.length).length<=(bG (bB fs d) e_ l b.length).length:=by
    have B:Hs.StsOk (dP fs d) e_ (l.take (j+1)++l.drop (j+1)):=by rw[gt];exact I
    have:=qH (l.drop (j+1)) b.length (StsOk.split B).1;rw[gt] at this;rw[this,ei];omega
   have s:(b++(bG (bB fs d) e_ (l.take j) b.length).map some).length=b.length+(bG (bB fs d) e_ (l.take j) b.length).length:=s_
   have z:dT e_ (l.take (j+1))=(bB fs d (dT e_ (l.take j)) l[j] (b.length+(bG (bB fs d) e_ (l.take j) b.length).length)).2:=by
    rw[k,qO,stC_seen _ o];rfl
   refine⟨el E f.bel.size,T,.agg L,by rw[f.bel.cell (p:=⟨g,j,none⟩) J.2];exact O,(N G _ _ l[j] _ W x (m.below f.bel) o (D _ (fi t)) (yA n y) ?_).mono ?_⟩
   ·rw[s];rw[r,ei] at q;omega
   ·rintro e w' ⟨C,c⟩;refine⟨C,t,?_⟩;rw[s] at c;rw[r,z,ga,<-fo];exact(c.then f).more P
  ·rintro e w' ⟨C,_,c⟩;rw[gp (d7 _)] at c;exact⟨C,c⟩
def WM(M:SM fp fb fs cb lo d)(v:Value)(l:List aC)(f:List (Option aH))(w:World)(h:CP fp fb (fs.map (·.x_)) cb F w f e_)(C:PKid (Btw lo cb) w v l)(K:Hs.StsOk (dP fs d) e_ l)(z:∀a∈l,mL a)(L:l.length<=1000000)(r:e_.length<=90001)(O:f.length+(bG (bB fs d) e_ l f.length).length<=1000000):
 Calls prog 244 #[.pointer (some ⟨cb,0,none⟩),v] w λe w'=>e=.returned (.tuple #[])/\NN fp fb (fs.map (·.x_)) cb F w (f++(bG (bB fs d) e_ l f.length).map some) e_ w':=by
 obtain⟨x,c,rfl⟩:=C.sliceC;have s:=pV M _ l f w h C K z L r O;obtain⟨Z,X,V,I,_,B,_⟩:=h.blk;obtain⟨p,rfl⟩:=B.form;refine WR w cb p x l.length c _ _ (aA I rfl) s (λW E=>?_)
 obtain⟨G,u,g,n⟩:=E;obtain⟨y,t,U,m,⟨N,A,T⟩,Y,P⟩:=g.blk;refine⟨⟨_,aA m rfl⟩,aE m,aD m,G,u,⟨⟨y,t,.pointer p,aQ m,⟨N,?_,?_⟩,?_,?_⟩,λk j=>?_⟩,?_⟩
 all_goals have j:∀k,k≠cb->(W.setCell ⟨cb,2,none⟩ (.pointer p)).heap[k]?=W.heap[k]?:=λk j=>ej _ _ _ _ j
 all_goals have i:∀b,G b->(W.setCell ⟨cb,2,none⟩ (.pointer p)).heap[b]?=W.heap[b]?:=λb q=>j b (g.fix b q).2.1
 all_goals have o:lA cb (W.setCell ⟨cb,2,none⟩ (.pointer p))=lA cb W:=by rw[jE (aQ m),jE m]
 ·exact aX A λk e=>j k (by have:=(A.lt k e).1;omega)
 ·exact T.keep i λ_ h=>h
 ·exact eW.keep (λb q=>by rw[i b (u b q),h.fixed n b q]) u B
 ·exact P.keep i (λ_ h=>h) s_
 ·obtain⟨Q,J,S⟩:=g.fix k (by assumption)
  exact⟨by simpa using Q,J,by rw[o];exact S⟩
 ·refine n.trans ⟨⟨rfl,rfl,rfl,s_,λk H=>j k o_⟩,λk _ D _=>j k D,λk e=>d6 (by rw[<-o];exact e)⟩
end
section
variable {fp:Nat->Value} {fb:Nat->Nat} {fs:List aC} {cb lo:Nat} {F:Nat->Prop} {a_:Bool} {e_:List (List UInt8)} {d:Nat}
def F9(Z:EW fp fb fs cb lo F a_ e_ d)(Q:fs.length<=1000000)(E:∀k,k<fs.length->fp k=.pointer (some ⟨fb k,0,none⟩))(a:aC)(X:Value)(l:Int)(b:List (Option aH))(w:World)(J:CP fp fb (fs.map (·.x_)) cb F w b e_)(v:a.op=[99,97,108,108])(U:PKid (Btw lo cb) w X a.y_)(O:Hs.ExOk fs a_ e_ (d+1) a)(S:pX (d+1) a)(o:b.length+(aG fs e_ (d+1) a b.length).length<=1000000):
 Calls prog 210 #[.pointer (some ⟨cb,0,none⟩),.agg #[.int .i64 l,.string (bs a.x_),X]] w λe w'=>e=.returned (.tuple #[])/\gC fp fb (fs.map (·.x_)) cb F w (b++(aG fs e_ (d+1) a b.length).map some) e_ w':=by
 have n:=ExOk.op O;obtain⟨_,K,C⟩:=S;rw[DU fs e_ d a _ v] at o ⊢
 rw[ei,il] at o;have M:=n.1;have p:=n.2.2 v;obtain⟨x,c,rfl⟩:=U.sliceC;obtain⟨h,u⟩:=J.new (.cells #[.int .i64 l,.string (bs a.x_),.slice x a.y_.length c] 271);have A:∀{W:World},FB cb (w.alloc (.cells #[.int .i64 l,.string (bs a.x_),.slice x a.y_.length c] 271)) W->W.heap[w.heap.size]?=some (.cells #[.int .i64 l,.string (bs a.x_),.slice x a.y_.length c] 271 (0,0)):=λL=>(h.step L).blk
 have j:Calls prog 208 #[.pointer (some ⟨cb,0,none⟩),.slice x a.y_.length c] (w.alloc (.cells #[.int .i64 l,.string (bs a.x_),.slice x a.y_.length c] 271)) λe w'=>e=.returned (.tuple #[])/\(gC fp fb (fs.map (·.x_)) cb F w (b++(bP (aG fs e_ d) a.y_ b.length).map some) e_ w'/\w'.heap[w.heap.size]?=some (.cells #[.int .i64 l,.string (bs a.x_),.slice x a.y_.length c] 271 (0,0))):=by
  refine(sA Z _ _ _ _ u (U.below h.fb.bel) M C K o_).mono ?_
  rintro e w' ⟨G,y⟩;exact⟨G,y.then h.fb,A y.2⟩
 have m:∀{i:aH} {e:Ending} {W:World},(e=.returned (.tuple #[])/\gC fp fb (fs.map (·.x_)) cb F w ((b++(bP (aG fs e_ d) a.y_ b.length).map some)++[some i]) e_ W)->e=.returned (.tuple #[])/\gC fp fb (fs.map (·.x_)) cb F w (b++(bP (aG fs e_ d) a.y_ b.length++[i]).map some) e_ W:=λg=>by
  rw[ga,<-fo];exact g
 have t:(b++(bP (aG fs e_ d) a.y_ b.length).map some).length+1<=1000000:=by rw[fO];omega
 rcases p with q|q|⟨z,B,r⟩
 ·rw[q] at j ⊢
  refine(SF w cb a.y_.length c l x _ _ j (λW g=>⟨aA g.2 rfl,aD g.2⟩) (λW g=>emits (i:=.length) g.1 rfl t)).mono ?_
  intro e W g;exact m g
 ·rw[q] at j ⊢
  refine(JP w cb a.y_.length c l x _ _ j (λW g=>⟨aA g.2 rfl,aD g.2⟩) (λW g=>emits (i:=.read) g.1 rfl t)).mono ?_
  intro e W g;exact m g
 ·have s:dA fs a.x_<fs.length:=by
   unfold fP at r;cases V:fs[dA fs a.x_]? with
   |none=>rw[V] at r;cases r
   |some f=>exact(gr.1 V).1
  have D:a.x_∈fs.map (·.x_):=by
   have P:=s;unfold dA at P;have:=jp (w:=P);exact ia.2 ⟨_,fi P,by simpa using this⟩
  have e1:(a.x_==[108,101,110])=false:=by simpa using z
  have Y:(a.x_==[114,101,97,100])=false:=by simpa using B
  rw[e1,Y];refine(EO w cb a.y_.length c (fb (dA fs a.x_)) l a.x_ x (λW=>gC fp fb (fs.map (·.x_)) cb F w ((b++(bP (aG fs e_ d) a.y_ b.length).map some)++[some (.call (dA fs a.x_) a.y_.length)]) e_ W) _ z B j (λW g=>⟨aA g.2 rfl,aA g.2 rfl,aD g.2⟩) (λW T g H=>?_) (λW T g H=>?_)).mono ?_
  ·refine(tF a.x_ (g.1.1.grow H.below) D (by simpa using Q)).mono ?_
   rintro e w' ⟨G,I⟩;rw[DR,E _ s] at G;exact⟨G,I⟩
  ·have N:gC fp fb (fs.map (·.x_)) cb F w (b++(bP (aG fs e_ d) a.y_ b.length).map some) e_ T:=⟨g.1.1.grow H.below,g.1.2.trans (FB.of_below H.below g.1.1.lt)⟩
   exact emits (i:=.call (dA fs a.x_) a.y_.length) N (by show _=_;rw[E _ s]) t
  ·intro e W g;exact m g
end
section
variable (fs:List aC) (e_:List (List UInt8)) (d:Nat) (a:aC) (p:Nat)
def U3(t v:aC)(h:a.op=[118,97,114])(b:a.y_=[t,v]):bB fs (d+1) e_ a p=(.begin a.l_ e_::aG fs e_ d v (p+1)++[.declare e_.length],t.x_::e_):=by rw[bB];simp[h,b]
def U4(h:a.op=[115,101,116]):bB fs (d+1) e_ a p=(.begin a.l_ e_::bP (aG fs e_ d) a.y_ (p+1)++[.assign (eB e_ a.x_) (a.y_.length-1)],e_):=by rw[bB];simp[h]
def U6(c t:aC)(h:a.op=[105,102])(b:a.y_=[c,t]):bB fs (d+1) e_ a p=
 (.begin a.l_ e_::aG fs e_ d c (p+1)++[.skip (p+1+(aG fs e_ d c (p+1)).length+1+(bG (bB fs d) e_ t.y_ (p+1+(aG fs e_ d c (p+1)).length+1)).length+1)]++bG (bB fs d) e_ t.y_ (p+1+(aG fs e_ d c (p+1)).length+1)++[.jump (p+1+(aG fs e_ d c (p+1)).length+1+(bG (bB fs d) e_ t.y_ (p+1+(aG fs e_ d c (p+1)).length+1)).length+1)],e_):=by rw[bB];simp[h,b]
def U5(c t x:aC)(h:a.op=[105,102])(b:a.y_=[c,t,x]):bB fs (d+1) e_ a p=
 (.begin a.l_ e_::aG fs e_ d c (p+1)++[.skip (p+1+(aG fs e_ d c (p+1)).length+1+(bG (bB fs d) e_ t.y_ (p+1+(aG fs e_ d c (p+1)).length+1)).length+1)]++bG (bB fs d) e_ t.y_ (p+1+(aG fs e_ d c (p+1)).length+1)++[.jump (p+1+(aG fs e_ d c (p+1)).length+1+(bG (bB fs d) e_ t.y_ (p+1+(aG fs e_ d c (p+1)).length+1)).length+1+(bG (bB fs d) e_ x.y_ (p+1+(aG fs e_ d c (p+1)).length+1+(bG (bB fs d) e_ t.y_ (p+1+(aG fs e_ d c (p+1)).length+1)).length+1)).length)]++
   bG (bB fs d) e_ x.y_ (p+1+(aG fs e_ d c (p+1)).length+1+(bG (bB fs d) e_ t.y_ (p+1+(aG fs e_ d c (p+1)).length+1)).length+1),e_):=by rw[bB];simp[h,b]
def YP(c b:aC)(h:a.op=[119,104,105,108,101])(e:a.y_=[c,b]):bB fs (d+1) e_ a p=
 (.begin a.l_ e_::aG fs e_ d c (p+1)++[.skip (p+1+(aG fs e_ d c (p+1)).length+1+(bG (bB fs d) e_ b.y_ (p+1+(aG fs e_ d c (p+1)).length+1)).length+1)]++bG (bB fs d) e_ b.y_ (p+1+(aG fs e_ d c (p+1)).length+1)++[.jump p],e_):=by rw[bB];simp[h,e]
def OK(h:a.op=[114,101,116,117,114,110])(b:a.y_=[]):bB fs (d+1) e_ a p=([.begin a.l_ e_,.push (aW 0),.give],e_):=by rw[bB];simp[h,b]
def OJ(v:aC)(h:a.op=[114,101,116,117,114,110])(b:a.y_=[v]):bB fs (d+1) e_ a p=(.begin a.l_ e_::aG fs e_ d v (p+1)++[.give],e_):=by rw[bB];simp[h,b]
def YQ(v:aC)(h:a.op=[112,114,105,110,116])(b:a.y_=[v]):bB fs (d+1) e_ a p=(.begin a.l_ e_::aG fs e_ d v (p+1)++[.print],e_):=by rw[bB];simp[h,b]
def m7(c:aC)(h:a.op=[100,111])(b:a.y_=[c]):bB fs (d+1) e_ a p=(.begin a.l_ e_::aG fs e_ d c (p+1)++[.drop],e_):=by rw[bB];simp[h,b]
end
section
variable {fp:Nat->Value} {fb:Nat->Nat} {fs:List aC} {cb lo:Nat} {F:Nat->Prop} {e_:List (List UInt8)} {d:Nat}
def pY(fp:Nat->Value)(fb:Nat->Nat)(nms:List (List UInt8))(cb:Nat)(F:Nat->Prop)(w w1:World)(b:Nat)(o:Obj)(e_:List (List UInt8))(c:List (Option aH))(W:World):Prop:=
 ∃G,(∀k,F k->G k)/\gC fp fb nms cb G w c e_ W/\Loc cb w1 b o W
def pY.emit{d:List (List UInt8)}{w w1 W:World}{b:Nat}{o:Obj}{c:List (Option aH)}(g:pY fp fb d cb F w w1 b o e_ c W){u:Value}{i:Option aH}(k:∀G,j2 fp G W u i)(m:c.length<=1000000):
 Calls prog 150 #[.pointer (some ⟨cb,0,none⟩),u] W λe w'=>e=.returned (.int .i64 c.length)/\pY fp fb d cb F w w1 b o e_ (c++[i]) w':=by
 obtain⟨G,l,a,j⟩:=g;refine(rF (o:=i) a.1 (k G) m).mono ?_;rintro e w' ⟨n,h,f⟩;exact⟨n,G,l,⟨h,a.2.trans f⟩,j.step f⟩
def pY.patch{e:List (List UInt8)}{w w1 W:World}{b:Nat}{o:Obj}{d a:List (Option aH)}(v:pY fp fb e cb F w w1 b o e_ (d++none::a) W)(k:Nat)(t:k=d.length)(l:TypeId)(i:Nat->aH)(A:∀G n,lI fp G W (.iface l (.agg #[.int .i64 (n:Nat)])) (i n))(C:(d++none::a).length<=1000000):
 cb<W.heap.size/\∃g n c,W.cell? ⟨cb,1,none⟩=some (.slice (some ⟨g,0,none⟩) n c)/\k<n/\n<=1000000/\(∃u,W.cell? ⟨g,k,none⟩=some u)/\W.frozen? ⟨g,k,none⟩=false/\g<W.heap.size/\∀h,aZ (W.setCell ⟨g,k,none⟩ (.iface l (.agg #[.int .i64 (n:Nat)]))) h->pY fp fb e cb F w w1 b o e_ (d++some (i (d++none::a).length)::a) h:=by
 obtain⟨G,B,⟨f,j⟩,y⟩:=v;obtain⟨g,c,z,s,p,r,q⟩:=f.patch;subst t;refine⟨f.lt,g,_,c,z,s_,C,s,p,r,λh D=>?_⟩
 obtain⟨x,m⟩:=q _ _ h (A G _) D;exact⟨G,B,⟨x,j.trans m⟩,y.step m⟩
def pY.blockk(s:SM fp fb fs cb lo d){w w1 W:World}{b:Nat}{o:Obj}{c:List (Option aH)}(m:pY fp fb (fs.map (·.x_)) cb F w w1 b o e_ c W)(v:Value)(l:List aC)(x:PKid (Btw lo cb) w v l)(p:Hs.StsOk (dP fs d) e_ l)(i:∀a∈l,mL a)(q:l.length<=1000000)(h:e_.length<=90001)(u:c.length+(bG (bB fs d) e_ l c.length).length<=1000000):
 Calls prog 244 #[.pointer (some ⟨cb,0,none⟩),v] W λe w'=>e=.returned (.tuple #[])/\pY fp fb (fs.map (·.x_)) cb F w w1 b o e_ (c++(bG (bB fs d) e_ l c.length).map some) w':=by
 obtain⟨G,t,g,n⟩:=m;refine(WM s v l c W g.1 (x.below g.2.bel) p i q h u).mono ?_;rintro e w' ⟨y,H,r,f⟩;exact⟨y,H,λk j=>r k (t k j),f.then g.2,n.step f.2⟩
def pY.exprk{w w1 W:World}{b:Nat}{o:Obj}{c:List (Option aH)}(m:pY fp fb (fs.map (·.x_)) cb F w w1 b o e_ c W)(h:fs.length<=1000000)(i:∀k,k<fs.length->fp k=.pointer (some ⟨fb k,0,none⟩))(l:e_.length<=90001)(v:Value)(a:aC)(s:PN (Btw lo cb) w v a)(p:Hs.ExOk fs false e_ d a)(j:mL a)(r:c.length+(aG fs e_ d a c.length).length<=1000000):
 Calls prog 164 #[.pointer (some ⟨cb,0,none⟩),v] W λe w'=>e=.returned (.tuple #[])/\pY fp fb (fs.map (·.x_)) cb F w w1 b o e_ (c++(aG fs e_ d a c.length).map some) w':=by
 obtain⟨G,q,g,n⟩:=m;refine(sB o_ h i d v a c W g.1 (s.below g.2.bel) p (j d) r).mono ?_
 rintro e w' ⟨t,f⟩;exact⟨t,G,q,f.then g.2,n.step f.2⟩
def pY.exprsk{w w1 W:World}{b:Nat}{o:Obj}{c:List (Option aH)}(n:pY fp fb (fs.map (·.x_)) cb F w w1 b o e_ c W)(h:fs.length<=1000000)(i:∀k,k<fs.length->fp k=.pointer (some ⟨fb k,0,none⟩))(m:e_.length<=90001)(v:Value)(l:List aC)(u:PKid (Btw lo cb) w v l)(q:∀a∈l,Hs.ExOk fs false e_ d a)(j:∀a∈l,mL a)(r:l.length<=1000000)(t:c.length+(bP (aG fs e_ d) l c.length).length<=1000000):
 Calls prog 208 #[.pointer (some ⟨cb,0,none⟩),v] W λe w'=>e=.returned (.tuple #[])/\pY fp fb (fs.map (·.x_)) cb F w w1 b o e_ (c++(bP (aG fs e_ d) l c.length).map some) w':=by
 obtain⟨G,s,g,p⟩:=n;refine(sA (sB o_ h i d) v l c W g.1 (u.below g.2.bel) q (λa y=>j a y d) r t).mono ?_
 rintro e w' ⟨x,f⟩;exact⟨x,G,s,f.then g.2,p.step f.2⟩
def pY.fin{a:List (List UInt8)}{w w1 W:World}{b:Nat}{o:Obj}{c:List (Option aH)}(e:pY fp fb a cb F w w1 b o e_ c W):NN fp fb a cb F w c e_ W:=by
 obtain⟨G,f,d,_⟩:=e;exact⟨G,f,d⟩
def pY.box{a:List (List UInt8)}{w w1 W:World}{b:Nat}{cs:Array Value}{T:TypeId}{c:List (Option aH)}(d:pY fp fb a cb F w w1 b (.cells cs T) e_ c W):W.heap[b]?=some (.cells cs T (0,0)):=by
 obtain⟨G,f,_,e⟩:=d;exact e.blk
def CP.cpB{c:List (List UInt8)}{w:World}{a:List (Option aH)}(h:CP fp fb c cb F w a e_)(o:Obj):pY fp fb c cb F w w w.heap.size o e_ a (w.alloc o):=by
 obtain⟨b,d⟩:=h.new o;exact⟨F,λ_ h=>h,⟨d,b.fb⟩,b⟩
def yT(V:SM fp fb fs cb lo d)(O:fs.length<=1000000)(Q:∀k,k<fs.length->fp k=.pointer (some ⟨fb k,0,none⟩))(B:e_.length<=90001)(l:Int)(v1 X U:Value)(c:aC)(s r:List aC)(b:List (Option aH))(w:World)(h:CP fp fb (fs.map (·.x_)) cb F w b e_)
 (Y:PN (Btw lo cb) w v1 c) (T:PKid (Btw lo cb) w X s) (Z:PKid (Btw lo cb) w U r) (ho:Hs.ExOk fs false e_ d c) (L:Hs.StsOk (dP fs d) e_ s) (S:Hs.StsOk (dP fs d) e_ r) (hl:mL c) (P:∀a∈s,mL a) (J:∀a∈r,mL a) (I:s.length<=1000000) (M:r.length<=1000000)
 (f j q:List aH) (C:aG fs e_ d c b.length=f) (D:bG (bB fs d) e_ s (b.length+f.length+1)=j) (E:bG (bB fs d) e_ r (b.length+f.length+1+j.length+1)=q) (hn:b.length+f.length+1+j.length+1+q.length<=1000000):
 Calls prog 234 #[.pointer (some ⟨cb,0,none⟩),.agg #[.int .i64 l,v1,X,U]] w λe w'=>e=.returned (.tuple #[])/\NN fp fb (fs.map (·.x_)) cb F w (b++(f++[aH.skip (b.length+f.length+1+j.length+1)]++j++[aH.jump (b.length+f.length+1+j.length+1+q.length)]++q).map some) e_ w':=by
 obtain⟨v,o,rfl⟩:=Y.form;obtain⟨A,x,rfl⟩:=T.sliceC;obtain⟨z,y,rfl⟩:=Z.sliceC;have K:=h.cpB (.cells #[.int .i64 l,.iface v (.agg o),.slice A s.length x,.slice z r.length y] 264)
 refine(RZ w cb (b.length+f.length) (b.length+f.length+1+j.length) l v (.agg o) A z s.length r.length x y
  (λW=>NN fp fb (fs.map (·.x_)) cb F w ((b++f.map some++some (aH.skip (b.length+f.length+1+j.length+1))::j.map some)++some (aH.jump (b.length+f.length+1+j.length+1+q.length))::q.map some) e_ W)
  (pY fp fb (fs.map (·.x_)) cb F w w w.heap.size (.cells #[.int .i64 l,.iface v (.agg o),.slice A s.length x,.slice z r.length y] 264) e_ (b++f.map some))
  (pY fp fb (fs.map (·.x_)) cb F w w w.heap.size (.cells #[.int .i64 l,.iface v (.agg o),.slice A s.length x,.slice z r.length y] 264) e_ (b++f.map some++[none]))
  (pY fp fb (fs.map (·.x_)) cb F w w w.heap.size (.cells #[.int .i64 l,.iface v (.agg o),.slice A s.length x,.slice z r.length y] 264) e_ (b++f.map some++[none]++j.map some))
  (pY fp fb (fs.map (·.x_)) cb F w w w.heap.size (.cells #[.int .i64 l,.iface v (.agg o),.slice A s.length x,.slice z r.length y] 264) e_ (b++f.map some++[none]++j.map some++[none]))
  (pY fp fb (fs.map (·.x_)) cb F w w w.heap.size (.cells #[.int .i64 l,.iface v (.agg o),.slice A s.length x,.slice z r.length y] 264) e_ (b++f.map some++some (aH.skip (b.length+f.length+1+j.length+1))::(j.map some++[none])))
  (pY fp fb (fs.map (·.x_)) cb F w w w.heap.size (.cells #[.int .i64 l,.iface v (.agg o),.slice A s.length x,.slice z r.length y] 264) e_ (b++f.map some++some (aH.skip (b.length+f.length+1+j.length+1))::(j.map some++[none])++q.map some))
  ?_ (λW m=>?_) (λW m=>?_) (λW m=>?_) (λW m=>?_) (λW m=>?_) (λW m=>?_) (λW m=>?_) (λW m=>?_)).mono ?_
 ·have:=K.exprk O Q B _ c Y ho hl (by rw[C];omega)
  rw[C] at this;exact this
 ·have:=m.emit (u:=.nilIface) (i:=none) (λ_=>rfl) t_
  rw[fO] at this;exact this
 ·exact⟨aA m.box rfl,aD m.box⟩
 ·have p:(b++f.map some++[none]).length=b.length+f.length+1:=t_
  have:=m.blockk V _ s T L P I B (by rw[p,D];omega)
  rw[p,D] at this;exact this
 ·have p:(b++f.map some++[none]++j.map some).length=b.length+f.length+1+j.length:=t_
  have:=m.emit (u:=.nilIface) (i:=none) (λ_=>rfl) (by rw[p];omega)
  rw[p] at this;exact this
 ·have G:b++f.map some++[none]++j.map some++[none]=(b++f.map some)++none::(j.map some++[none]):=s_
  rw[G] at m;have t:((b++f.map some)++none::(j.map some++[none])).length=b.length+f.length+1+j.length+1:=t_
  have:=m.patch (b.length+f.length) (by rw[fO]) 366 (λn=>.skip n) (λ_ _=>rfl) (by rw[t];omega)
  rw[t] at this;exact this
 ·exact⟨aA m.box rfl,aD m.box⟩
 ·have p:(b++f.map some++some (aH.skip (b.length+f.length+1+j.length+1))::(j.map some++[none])).length=b.length+f.length+1+j.length+1:=t_
  have:=m.blockk V _ r Z S J M B (by rw[p,E];omega)
  rw[p,E] at this;exact this
 ·have G:b++f.map some++some (aH.skip (b.length+f.length+1+j.length+1))::(j.map some++[none])++q.map some=(b++f.map some++some (aH.skip (b.length+f.length+1+j.length+1))::j.map some)++none::q.map some:=s_
  rw[G] at m;have t:((b++f.map some++some (aH.skip (b.length+f.length+1+j.length+1))::j.map some)++none::q.map some).length=b.length+f.length+1+j.length+1+q.length:=t_
  have H:b.length+f.length+1+j.length=(b++f.map some++some (aH.skip (b.length+f.length+1+j.length+1))::j.map some).length:=t_
  have:=m.patch (b.length+f.length+1+j.length) H 367 (λn=>.jump n) (λ_ _=>rfl) (by rw[t];omega)
  rw[t] at this;obtain⟨a1,g,n,N,a2,a3,a4,a5,a6,a7,a8⟩:=this;exact⟨a1,g,n,N,a2,a3,a4,a5,a6,a7,λW' hS=>(a8 W' hS).fin⟩
 ·intro e W m;have e9:b++(f++[aH.skip (b.length+f.length+1+j.length+1)]++j++[aH.jump (b.length+f.length+1+j.length+1+q.length)]++q).map some=(b++f.map some++some (aH.skip (b.length+f.length+1+j.length+1))::j.map some)++some (aH.jump (b.length+f.length+1+j.length+1+q.length))::q.map some:=s_
  rw[e9];exact m
def E9(Y:SM fp fb fs cb lo d)(G:fs.length<=1000000)(I:∀k,k<fs.length->fp k=.pointer (some ⟨fb k,0,none⟩))(x:e_.length<=90001)(l:Int)(f:Nat)(v1 K:Value)(c:aC)(q:List aC)(b:List (Option aH))(w:World)(h:CP fp fb (fs.map (·.x_)) cb F w b e_)
 (L:PN (Btw lo cb) w v1 c) (J:PKid (Btw lo cb) w K q) (V:Hs.ExOk fs false e_ d c) (D:Hs.StsOk (dP fs d) e_ q) (X:mL c) (H:∀a∈q,mL a) (B:q.length<=1000000)
 (j m:List aH) (y:aG fs e_ d c b.length=j) (z:bG (bB fs d) e_ q (b.length+j.length+1)=m) (hn:b.length+j.length+1+m.length+1<=1000000):
 Calls prog 235 #[.pointer (some ⟨cb,0,none⟩),.agg #[.int .i64 l,v1,K],.int .i64 f] w λe w'=>e=.returned (.tuple #[])/\NN fp fb (fs.map (·.x_)) cb F w (b++(j++[aH.skip (b.length+j.length+1+m.length+1)]++m++[aH.jump f]).map some) e_ w':=by
 obtain⟨s,p,rfl⟩:=L.form;obtain⟨v,t,rfl⟩:=J.sliceC;have C:=h.cpB (.cells #[.int .i64 l,.iface s (.agg p),.slice v q.length t] 266)
 refine(B8 w cb (b.length+j.length) f l s (.agg p) v q.length t
  (λW=>NN fp fb (fs.map (·.x_)) cb F w ((b++j.map some)++some (aH.skip (b.length+j.length+1+m.length+1))::(m.map some++[some (aH.jump f)])) e_ W)
  (pY fp fb (fs.map (·.x_)) cb F w w w.heap.size (.cells #[.int .i64 l,.iface s (.agg p),.slice v q.length t] 266) e_ (b++j.map some))
  (pY fp fb (fs.map (·.x_)) cb F w w w.heap.size (.cells #[.int .i64 l,.iface s (.agg p),.slice v q.length t] 266) e_ (b++j.map some++[none]))
  (pY fp fb (fs.map (·.x_)) cb F w w w.heap.size (.cells #[.int .i64 l,.iface s (.agg p),.slice v q.length t] 266) e_ (b++j.map some++[none]++m.map some))
  (pY fp fb (fs.map (·.x_)) cb F w w w.heap.size (.cells #[.int .i64 l,.iface s (.agg p),.slice v q.length t] 266) e_ (b++j.map some++[none]++m.map some++[some (aH.jump f)]))
  ?_ (λW o=>?_) (λW o=>?_) (λW o=>?_) (λW o=>?_) (λW o=>?_)).mono ?_
 ·have:=C.exprk G I x _ c L V X (by rw[y];omega)
  rw[y] at this;exact this
 ·have:=o.emit (u:=.nilIface) (i:=none) (λ_=>rfl) t_
  rw[fO] at this;exact this
 ·exact⟨aA o.box rfl,aD o.box⟩
 ·have r:(b++j.map some++[none]).length=b.length+j.length+1:=t_
  have:=o.blockk Y _ q J D H B x (by rw[r,z];omega)
  rw[r,z] at this;exact this
 ·have r:(b++j.map some++[none]++m.map some).length=b.length+j.length+1+m.length:=t_
  refine(o.emit (u:=.iface 367 (.agg #[.int .i64 f])) (i:=some (aH.jump f)) (λ_=>rfl) (by rw[r];omega)).mono ?_
  rintro e w' ⟨he,O⟩;exact⟨⟨_,he⟩,O⟩
 ·have N:b++j.map some++[none]++m.map some++[some (aH.jump f)]=(b++j.map some)++none::(m.map some++[some (aH.jump f)]):=s_
  rw[N] at o;have A:((b++j.map some)++none::(m.map some++[some (aH.jump f)])).length=b.length+j.length+1+m.length+1:=t_
  have:=o.patch (b.length+j.length) (by rw[fO]) 366 (λn=>.skip n) (λ_ _=>rfl) (by rw[A];omega)
  rw[A] at this;obtain⟨a1,g,n,E,a2,S,U,T,Z,P,M⟩:=this;exact⟨a1,g,n,E,a2,S,U,T,Z,P,λW' hS=>(M W' hS).fin⟩
 ·intro e W o;have Q:b++(j++[aH.skip (b.length+j.length+1+m.length+1)]++m++[aH.jump f]).map some=(b++j.map some)++some (aH.skip (b.length+j.length+1+m.length+1))::(m.map some++[some (aH.jump f)]):=s_
  rw[Q];exact o
end
section
variable {fp:Nat->Value} {fb:Nat->Nat} {fs:List aC} {cb lo:Nat} {d:Nat}
def Prt.ok.below{w w':World}{p:Prt}(h:Prt.ok (Btw lo cb) w p)(d:Below cb w w'):Prt.ok (Btw lo cb) w' p:=by
 rcases h with ⟨c,b,a,e⟩|⟨c,a⟩
 ·exact d6 ⟨c,b,a,e.below d⟩
 ·exact d5 ⟨c,PKid.below a d⟩
def gC.cpB{F:Nat->Prop}{e_:List (List UInt8)}{c:List (List UInt8)}{w W:World}{a:List (Option aH)}(h:gC fp fb c cb F w a e_ W)(o:Obj):pY fp fb c cb F w W W.heap.size o e_ a (W.alloc o):=by
 obtain⟨b,d⟩:=h.1.new o;exact⟨F,λ_ h=>h,⟨d,h.2.trans b.fb⟩,b⟩
def P8(IH:SM fp fb fs cb lo d)(Y:fs.length<=1000000)(X:∀k,k<fs.length->fp k=.pointer (some ⟨fb k,0,none⟩)):SM fp fb fs cb lo (d+1):=by
 intro F f v a g w h bc Q J ac z;obtain⟨T,cs,ps,rfl,bd,L⟩:=bc.parts;obtain⟨fv,cv,sp,m,_,h4,_⟩:=h.blk;obtain⟨p,rfl⟩:=h4.form;have V:=h.lt;have ab:w.cell? ⟨cb,2,none⟩=some (.pointer p):=aA m rfl
 have aa:g.length+1<=1000000->Calls prog 150 #[.pointer (some ⟨cb,0,none⟩),.iface 251 (.agg #[.int .i64 a.l_,.pointer p])] (w.drew.alloc (.cells #[.int .i64 a.l_] 153)) λe w'=>e=.returned (.int .i64 g.length)/\gC fp fb (fs.map (·.x_)) cb F w (g++[some (.begin a.l_ f)]) f w':=λhn=>by
  have hb:Below w.heap.size w (w.drew.alloc (.cells #[.int .i64 a.l_] 153)):=((eh _ w).drew).alloc (d7 _) _;have h':=h.grow hb;refine(rF (o:=some (.begin a.l_ f)) h' ⟨_,rfl,eW.keep (λb az=>hb.block b (h.fix b az).1) (λ_ h=>h) h4⟩ o_).mono ?_
  rintro e w' ⟨H,q1,q2⟩;exact⟨H,q1,(FB.of_below hb V).trans q2⟩
 have B:(g++[some (aH.begin a.l_ f)]).length=g.length+1:=s_
 have af:f.length<=1000000:=o_
 have no:∀{x y:List UInt8} {p:Prop},a.op=x->x≠y->a.op=y->p:=λe1 e2 e3=>absurd (e1.symm.trans e3) e2
 rcases bd with ⟨_,_,_,n,_⟩|⟨_,_,n,_⟩|⟨_,_,n,_⟩|⟨_,_,_,n,_⟩|⟨_,_,_,n,_⟩|⟨_,_,n,_⟩|⟨_,_,_,_,_,_,_,n,_⟩|⟨_,o,_,_,_,ax,n,_⟩|⟨_,_,_,_,_,_,_,n,_⟩|⟨rfl,v1,t,A,rfl,n,j,rfl⟩|⟨rfl,sv,v1,l,A,rfl,n,j,rfl⟩|⟨rfl,v1,s1,A,N,rfl,n,au,j,rfl⟩|⟨rfl,v1,s1,s2,A,N,b2,rfl,n,au,bf,j,rfl⟩|⟨rfl,v1,s1,A,N,rfl,n,au,j,rfl⟩|⟨rfl,l,rfl,n,j,rfl⟩|⟨rfl,v1,A,rfl,n,j,rfl⟩|⟨rfl,v1,A,rfl,n,j,rfl⟩|⟨rfl,sv,c,rfl,n,av,be,j,aj,rfl⟩
 iterate 7
  ·exfalso;rcases Q with ⟨m,_⟩|⟨m,_⟩|⟨m,_⟩|⟨m,_⟩|⟨m,_⟩|⟨m,_⟩|⟨m,_⟩<;>exact no n d_ m
 ·exfalso;rcases ax with rfl|rfl<;>(rcases Q with ⟨m,_⟩|⟨m,_⟩|⟨m,_⟩|⟨m,_⟩|⟨m,_⟩|⟨m,_⟩|⟨m,_⟩<;>exact no n d_ m)
 ·exfalso;rcases Q with ⟨m,_⟩|⟨m,_⟩|⟨m,_⟩|⟨m,_⟩|⟨m,_⟩|⟨m,_⟩|⟨m,_⟩<;>(rw[m] at n;exact n rfl)
 ·-- var
  have S:Hs.ExOk fs false f d A/\f.length<=90000:=by
   rcases Q with ⟨_,D,t',v',r,K,_⟩|⟨m,_⟩|⟨m,_⟩|⟨m,_⟩|⟨m,_⟩|⟨m,_⟩|⟨m,_⟩
   ·rw[j] at r;simp at r;rw[r.2];exact⟨K,D⟩
   all_goals exact no n d_ m
  have E:=U3 fs f d a g.length t A n j;rw[E] at z ⊢
  simp only[ei,ek,ep] at z;have hp:=L ⟨v1,[A],true⟩ s_
  obtain⟨Z,C,rfl⟩:=hp.one'.form;have M:=J.kid (k:=A) (by rw[j];simp)
  refine(CF w cb g.length a.l_ p t.l_ (bs t.x_) Z (.agg C) f.length (λW=>NN fp fb (fs.map (·.x_)) cb F w (g++(aH.begin a.l_ f::aG fs f d A (g.length+1)++[aH.declare f.length]).map some) (t.x_::f) W) _
   (λb W=>∃O,pY fp fb (fs.map (·.x_)) cb F w O b (.cells #[.int .i64 a.l_,.int .i64 t.l_,.string (bs t.x_),.iface Z (.agg C)] 259) f ((g++[some (.begin a.l_ f)])++(aG fs f d A (g.length+1)).map some) W)
   (λb W=>∃O,pY fp fb (fs.map (·.x_)) cb F w O b (.cells #[.int .i64 a.l_,.int .i64 t.l_,.string (bs t.x_),.iface Z (.agg C)] 259) f ((g++[some (.begin a.l_ f)])++(aG fs f d A (g.length+1)).map some++[some (.declare f.length)]) W)
   V ab (aa o_) (λW s=>?_) (λb W s=>?_) (λb W s=>?_) (λb W s=>?_) (λb W s=>?_))
  ·refine((s.cpB _).exprk Y X ac _ A hp.one' S.1 M (by rw[B];omega)).mono ?_
   rintro e w' ⟨H,D⟩;rw[B] at D;exact⟨H,W,D⟩
  ·obtain⟨O,G,hG,q,_⟩:=s;exact QS q.1 af
  ·obtain⟨O,s⟩:=s;refine(s.emit (u:=.iface 342 (.agg #[.int .i64 f.length])) (i:=some (.declare f.length)) (λ_=>rfl) t_).mono ?_
   rintro e w' ⟨H,D⟩;exact⟨⟨_,H⟩,O,D⟩
  ·obtain⟨O,s⟩:=s;exact⟨aA s.box rfl,aD s.box⟩
  ·obtain⟨O,G,hG,q,_⟩:=s;refine(XB t.x_ q.1 af).mono ?_;rintro e w' ⟨H,q1,q2⟩;refine⟨H,λk=>G k\/k=W.heap.size,λk r=>d6 (hG k r),?_,q.2.trans q2⟩
   simpa using q1
 ·-- an assignment
  have S:a.x_∈f/\∀k∈a.y_,Hs.ExOk fs false f d k:=by
   rcases Q with ⟨m,_⟩|⟨_,D,_,K⟩|⟨m,_⟩|⟨m,_⟩|⟨m,_⟩|⟨m,_⟩|⟨m,_⟩
   ·exact no n d_ m
   ·exact⟨D,K⟩
   all_goals exact no n d_ m
  have E:=U4 fs f d a g.length n;have ba:(l++[A]).length-1=l.length:=s_
  rw[j,nM,CR] at E;rw[ba] at E;rw[E] at z ⊢
  simp only[ei,ek,ep] at z;have hp:=L ⟨sv,l,false⟩ s_
  have I:=L ⟨v1,[A],true⟩ s_
  obtain⟨Z,C,rfl⟩:=I.one'.form;obtain⟨x,c,rfl⟩:=hp.many.sliceC;have aw:=J.len;rw[j,ei] at aw;generalize aq:bP (aG fs f d) l (g.length+1)=q1 at*;generalize al:aG fs f d A (g.length+1+q1.length)=q2 at*
  refine(FU w cb g.length a.l_ p (bs a.x_) x l.length c (eB f a.x_) Z (.agg C) (λW=>NN fp fb (fs.map (·.x_)) cb F w (g++(aH.begin a.l_ f::(q1++q2)++[aH.assign (eB f a.x_) l.length]).map some) f W) _
   (λb W=>∃O,pY fp fb (fs.map (·.x_)) cb F w O b (.cells #[.int .i64 a.l_,.string (bs a.x_),.slice x l.length c,.iface Z (.agg C)] 262) f ((g++[some (.begin a.l_ f)])++q1.map some) W)
   (λb W=>∃O,pY fp fb (fs.map (·.x_)) cb F w O b (.cells #[.int .i64 a.l_,.string (bs a.x_),.slice x l.length c,.iface Z (.agg C)] 262) f ((g++[some (.begin a.l_ f)])++q1.map some++q2.map some) W)
   V ab (aa o_) (λW s=>?_) (λb W s=>?_) (λb W s=>?_) (λb W s=>?_) (λb W W' s hS=>?_) (λb W W' s hS=>?_))
  ·refine((s.cpB _).exprsk Y X ac _ l hp.many (λk r=>S.2 k (by rw[j];simp[r])) (λk r=>J.kid (by rw[j];simp[r])) o_ (by rw[B,aq];omega)).mono ?_
   rintro e w' ⟨H,D⟩;rw[B,aq] at D;exact⟨H,W,D⟩
  ·obtain⟨O,s⟩:=s;exact⟨aA s.box rfl,aD s.box⟩
  ·obtain⟨O,s⟩:=s;have ai:((g++[some (aH.begin a.l_ f)])++q1.map some).length=g.length+1+q1.length:=t_
   refine(s.exprk Y X ac _ A I.one' (S.2 A (by rw[j];simp)) (J.kid (by rw[j];simp)) (by rw[ai,al];omega)).mono ?_
   rintro e w' ⟨H,D⟩;rw[ai,al] at D;exact⟨H,O,D⟩
  ·obtain⟨O,s⟩:=s;exact⟨aA s.box rfl,aA s.box rfl,aD s.box⟩
  ·obtain⟨O,G,hG,q,_⟩:=s;exact OQ a.x_ (q.1.grow hS.below) S.1 af
  ·obtain⟨O,G,hG,q,hL⟩:=s;have ap:gC fp fb (fs.map (·.x_)) cb G w ((g++[some (.begin a.l_ f)])++q1.map some++q2.map some) f W':=⟨q.1.grow hS.below,q.2.trans (FB.of_below hS.below q.1.lt)⟩
   refine(emits (i:=.assign (eB f a.x_) l.length) ap rfl t_).mono ?_
   rintro e w' ⟨H,D⟩;refine⟨H,G,hG,?_⟩;have e9:g++(aH.begin a.l_ f::(q1++q2)++[aH.assign (eB f a.x_) l.length]).map some=(g++[some (.begin a.l_ f)])++q1.map some++q2.map some++[some (.assign (eB f a.x_) l.length)]:=s_
   rw[e9];exact D
 ·-- if,without else
  have S:Hs.ExOk fs false f d A/\Hs.StsOk (dP fs d) f N.y_:=by
   rcases Q with ⟨m,_⟩|⟨m,_⟩|⟨_,c',t',r,K,h4⟩|⟨m,_⟩|⟨m,_⟩|⟨m,_⟩|⟨m,_⟩
   rotate_left 2
   ·rcases r with r|⟨x,r,_⟩
    ·rw[j] at r;simp at r;rw[r.1,r.2];exact⟨K,h4⟩
    ·rw[j] at r;simp at r
   all_goals exact no n d_ m
  have E:=U6 fs f d a g.length A N n j;rw[E] at z ⊢
  have I:=L ⟨v1,[A],true⟩ s_
  have ad:=L ⟨s1,N.y_,false⟩ s_
  have M:=J.kid (k:=A) (by rw[j];simp)
  have ae:=J.kid (k:=N) (by rw[j];simp)
  obtain⟨Z,C,rfl⟩:=I.one'.form;obtain⟨x,c,rfl⟩:=ad.many.sliceC;generalize ag:aG fs f d A (g.length+1)=P at*;generalize ah:bG (bB fs d) f N.y_ (g.length+1+P.length+1)=U at*;simp only[ei,ek,ep] at z;refine IM w cb g.length a.l_ p Z (.agg C) x none N.y_.length 0 c 0 _ _ V ab (aa o_) (λW s=>?_)
  obtain⟨G,hG,q,_⟩:=s.cpB (.cells #[.int .i64 a.l_,.iface Z (.agg C),.slice x N.y_.length c,.slice none 0 0] 264);refine(yT (d:=d) IH Y X ac a.l_ _ _ _ A N.y_ [] _ _ q.1 (I.one'.below q.2.bel) (ad.many.below q.2.bel) (d6 ⟨rfl,rfl⟩) S.1 S.2 trivial M (λk r=>ae.kid r) (λk r=>by simp at r) ae.len s_ P U [] (by rw[B];exact ag) (by rw[B];exact ah) rfl (by rw[B];simp;omega)).mono ?_
  rintro e w' ⟨H,D⟩;refine⟨H,?_⟩;have K:=(D.then q.2).more hG
  rw[B] at K;have e9:(g++[some (aH.begin a.l_ f)])++(P++[aH.skip (g.length+1+P.length+1+U.length+1)]++U++[aH.jump (g.length+1+P.length+1+U.length+1+([]:List aH).length)]++[]).map some=g++(aH.begin a.l_ f::P++[aH.skip (g.length+1+P.length+1+U.length+1)]++U++[aH.jump (g.length+1+P.length+1+U.length+1)]).map some:=s_
  rw[e9] at K;exact K
 ·-- if,with else
  have S:Hs.ExOk fs false f d A/\Hs.StsOk (dP fs d) f N.y_/\Hs.StsOk (dP fs d) f b2.y_:=by
   rcases Q with ⟨m,_⟩|⟨m,_⟩|⟨_,c',t',r,K,h4⟩|⟨m,_⟩|⟨m,_⟩|⟨m,_⟩|⟨m,_⟩
   rotate_left 2
   ·rcases r with r|⟨x,r,h5⟩
    ·rw[j] at r;simp at r
    ·rw[j] at r;simp at r;rw[r.1,r.2.1,r.2.2];exact⟨K,h4,h5⟩
   all_goals exact no n d_ m
  have E:=U5 fs f d a g.length A N b2 n j;rw[E] at z ⊢
  have I:=L ⟨v1,[A],true⟩ s_
  have ad:=L ⟨s1,N.y_,false⟩ s_
  have ak:=L ⟨s2,b2.y_,false⟩ s_
  have M:=J.kid (k:=A) (by rw[j];simp)
  have ae:=J.kid (k:=N) (by rw[j];simp)
  have am:=J.kid (k:=b2) (by rw[j];simp)
  obtain⟨Z,C,rfl⟩:=I.one'.form;obtain⟨x,c,rfl⟩:=ad.many.sliceC;obtain⟨x2,ao,rfl⟩:=ak.many.sliceC;generalize ag:aG fs f d A (g.length+1)=P at*;generalize ah:bG (bB fs d) f N.y_ (g.length+1+P.length+1)=U at*;generalize bb:bG (bB fs d) f b2.y_ (g.length+1+P.length+1+U.length+1)=ce at*;simp only[ei,ek,ep] at z;refine IM w cb g.length a.l_ p Z (.agg C) x x2 N.y_.length b2.y_.length c ao _ _ V ab (aa o_) (λW s=>?_)
  obtain⟨G,hG,q,_⟩:=s.cpB (.cells #[.int .i64 a.l_,.iface Z (.agg C),.slice x N.y_.length c,.slice x2 b2.y_.length ao] 264);refine(yT (d:=d) IH Y X ac a.l_ _ _ _ A N.y_ b2.y_ _ _ q.1 (I.one'.below q.2.bel) (ad.many.below q.2.bel) (ak.many.below q.2.bel) S.1 S.2.1 S.2.2 M (λk r=>ae.kid r) (λk r=>am.kid r) ae.len am.len P U ce (by rw[B];exact ag) (by rw[B];exact ah) (by rw[B];exact bb) (by rw[B];omega)).mono ?_
  rintro e w' ⟨H,D⟩;refine⟨H,?_⟩;have K:=(D.then q.2).more hG
  rw[B] at K;have e9:(g++[some (aH.begin a.l_ f)])++(P++[aH.skip (g.length+1+P.length+1+U.length+1)]++U++[aH.jump (g.length+1+P.length+1+U.length+1+ce.length)]++ce).map some=g++(aH.begin a.l_ f::P++[aH.skip (g.length+1+P.length+1+U.length+1)]++U++[aH.jump (g.length+1+P.length+1+U.length+1+ce.length)]++ce).map some:=s_
  rw[e9] at K;exact K
 ·-- while
  have S:Hs.ExOk fs false f d A/\Hs.StsOk (dP fs d) f N.y_:=by
   rcases Q with ⟨m,_⟩|⟨m,_⟩|⟨m,_⟩|⟨_,c',t',r,K,h4⟩|⟨m,_⟩|⟨m,_⟩|⟨m,_⟩
   rotate_left 3
   ·rw[j] at r;simp at r;rw[r.1,r.2];exact⟨K,h4⟩
   all_goals exact no n d_ m
  have E:=YP fs f d a g.length A N n j;rw[E] at z ⊢
  have I:=L ⟨v1,[A],true⟩ s_
  have ad:=L ⟨s1,N.y_,false⟩ s_
  have M:=J.kid (k:=A) (by rw[j];simp)
  have ae:=J.kid (k:=N) (by rw[j];simp)
  obtain⟨Z,C,rfl⟩:=I.one'.form;obtain⟨x,c,rfl⟩:=ad.many.sliceC;generalize ag:aG fs f d A (g.length+1)=P at*;generalize ah:bG (bB fs d) f N.y_ (g.length+1+P.length+1)=U at*;simp only[ei,ek,ep] at z;refine KV w cb g.length a.l_ p Z (.agg C) x N.y_.length c _ _ V ab (aa o_) (λW s=>?_)
  obtain⟨G,hG,q,_⟩:=s.cpB (.cells #[.int .i64 a.l_,.iface Z (.agg C),.slice x N.y_.length c] 266);refine(E9 (d:=d) IH Y X ac a.l_ g.length _ _ A N.y_ _ _ q.1 (I.one'.below q.2.bel) (ad.many.below q.2.bel) S.1 S.2 M (λk r=>ae.kid r) ae.len P U (by rw[B];exact ag) (by rw[B];exact ah) (by rw[B];omega)).mono ?_
  rintro e w' ⟨H,D⟩;refine⟨H,?_⟩;have K:=(D.then q.2).more hG
  rw[B] at K;have e9:(g++[some (aH.begin a.l_ f)])++(P++[aH.skip (g.length+1+P.length+1+U.length+1)]++U++[aH.jump g.length]).map some=g++(aH.begin a.l_ f::P++[aH.skip (g.length+1+P.length+1+U.length+1)]++U++[aH.jump g.length]).map some:=s_
  rw[e9] at K;exact K
 ·-- return,without a value
  have E:=OK fs f d a g.length n j;rw[E] at z ⊢
  simp only[ek,ep] at z;refine sP w cb g.length a.l_ p _ _ _ _ (λW=>NN fp fb (fs.map (·.x_)) cb F w ((g++[some (aH.begin a.l_ f)])++[some (.push (aW 0))]) f W) V ab (aa o_) (λW s=>?_) (λW s=>?_)
  ·obtain⟨G,hG,q,_⟩:=s.cpB (.cells #[.int .i64 a.l_,.iface 307 (.agg #[.int .i64 l,.int .i64 0])] 268);obtain⟨G2,ay,ar,_⟩:=q.cpB (.cells #[.int .i64 l,.int .i64 0] 307);refine(sU _ cb l 0 _ (emits (i:=.push (aW 0)) ar ⟨_,rfl,PV.num _ _ _ o_ o_,by rw[kH];omega⟩ t_)).mono ?_
   rintro e w' ⟨H,D⟩;exact⟨H,G2,λk r=>ay k (hG k r),D⟩
  ·obtain⟨G,hG,q⟩:=s;refine(emits (i:=.give) q rfl t_).mono ?_
   rintro e w' ⟨H,D⟩;refine⟨H,G,hG,?_⟩;have e9:g++([aH.begin a.l_ f,.push (aW 0),.give]).map some=(g++[some (aH.begin a.l_ f)])++[some (.push (aW 0))]++[some .give]:=s_
   rw[e9];exact D
 ·-- return
  have S:Hs.ExOk fs false f d A:=by
   rcases Q with ⟨m,_⟩|⟨m,_⟩|⟨m,_⟩|⟨m,_⟩|⟨_,r⟩|⟨m,_⟩|⟨m,_⟩
   rotate_left 4
   ·rcases r with r|⟨v',r,K⟩
    ·rw[j] at r;simp at r
    ·rw[j] at r;simp at r;rw[r];exact K
   all_goals exact no n d_ m
  have E:=OJ fs f d a g.length A n j;rw[E] at z ⊢
  have I:=L ⟨v1,[A],true⟩ s_
  have M:=J.kid (k:=A) (by rw[j];simp)
  obtain⟨Z,C,rfl⟩:=I.one'.form;simp only[ei,ek,ep] at z;refine sP w cb g.length a.l_ p _ _ _ _ (λW=>∃O,pY fp fb (fs.map (·.x_)) cb F w O O.heap.size (.cells #[.int .i64 a.l_,.iface Z (.agg C)] 268) f ((g++[some (aH.begin a.l_ f)])++(aG fs f d A (g.length+1)).map some) W) V ab (aa o_) (λW s=>?_) (λW s=>?_)
  ·refine((s.cpB _).exprk Y X ac _ A I.one' S M (by rw[B];omega)).mono ?_
   rintro e w' ⟨H,D⟩;rw[B] at D;exact⟨H,W,D⟩
  ·obtain⟨O,s⟩:=s;refine(s.emit (u:=.iface 244 (.agg #[])) (i:=some .give) (λ_=>rfl) t_).mono ?_
   rintro e w' ⟨H,D⟩;refine⟨⟨_,H⟩,?_⟩;have e9:g++(aH.begin a.l_ f::aG fs f d A (g.length+1)++[aH.give]).map some=(g++[some (aH.begin a.l_ f)])++(aG fs f d A (g.length+1)).map some++[some .give]:=s_
   rw[e9];exact D.fin
 ·-- print
  have S:Hs.ExOk fs false f d A:=by
   rcases Q with ⟨m,_⟩|⟨m,_⟩|⟨m,_⟩|⟨m,_⟩|⟨m,_⟩|⟨_,v',r,K⟩|⟨m,_⟩
   rotate_left 5
   ·rw[j] at r;simp at r;rw[r];exact K
   all_goals exact no n d_ m
  have E:=YQ fs f d a g.length A n j;rw[E] at z ⊢
  have I:=L ⟨v1,[A],true⟩ s_
  have M:=J.kid (k:=A) (by rw[j];simp)
  obtain⟨Z,C,rfl⟩:=I.one'.form;simp only[ei,ek,ep] at z;refine KW w cb g.length a.l_ p _ _ _ _ (λW=>∃O,pY fp fb (fs.map (·.x_)) cb F w O O.heap.size (.cells #[.int .i64 a.l_,.iface Z (.agg C)] 269) f ((g++[some (aH.begin a.l_ f)])++(aG fs f d A (g.length+1)).map some) W) V ab (aa o_) (λW s=>?_) (λW s=>?_)
  ·refine((s.cpB _).exprk Y X ac _ A I.one' S M (by rw[B];omega)).mono ?_
   rintro e w' ⟨H,D⟩;rw[B] at D;exact⟨H,W,D⟩
  ·obtain⟨O,s⟩:=s;refine(s.emit (u:=.iface 347 (.agg #[])) (i:=some .print) (λ_=>rfl) t_).mono ?_
   rintro e w' ⟨H,D⟩;refine⟨⟨_,H⟩,?_⟩;have e9:g++(aH.begin a.l_ f::aG fs f d A (g.length+1)++[aH.print]).map some=(g++[some (aH.begin a.l_ f)])++(aG fs f d A (g.length+1)).map some++[some .print]:=s_
   rw[e9];exact D.fin
 ·-- a call a_
  have S:Hs.ExOk fs false f d c:=by
   rcases Q with ⟨m,_⟩|⟨m,_⟩|⟨m,_⟩|⟨m,_⟩|⟨m,_⟩|⟨m,_⟩|⟨_,v',r,K⟩
   rotate_left 6
   ·rw[j] at r;simp at r;rw[r];exact K
   all_goals exact no n d_ m
  have E:=m7 fs f d a g.length c n j;rw[E] at z ⊢
  rw[<-av];have hp:=L ⟨sv,c.y_,false⟩ s_
  have M:=J.kid (k:=c) (by rw[j];simp)
  obtain⟨x,cp,rfl⟩:=hp.many.sliceC;simp only[ei,ek,ep] at z;refine OH w cb g.length a.l_ p _ _ _ _ _ _ (λW=>NN fp fb (fs.map (·.x_)) cb F w ((g++[some (aH.begin a.l_ f)])++(aG fs f d c (g.length+1)).map some) f W) V ab (aa o_) (λW s=>?_) (λW s=>?_)
  ·cases d with
   |zero=>exact S.elim
   |succ d=>
    obtain⟨G,hG,q,_⟩:=s.cpB (.cells #[.int .i64 a.l_,.string (bs c.x_),.slice x c.y_.length cp] 271);refine(F9 (sB o_ Y X d) Y X c _ a.l_ _ _ q.1 aj (hp.many.below q.2.bel) S (M _) (by rw[B];omega)).mono ?_
    rintro e w' ⟨H,D⟩;rw[B] at D;exact⟨H,G,hG,D.then q.2⟩
  ·obtain⟨G,hG,q⟩:=s;refine(emits (i:=.drop) q rfl t_).mono ?_
   rintro e w' ⟨H,D⟩;refine⟨H,G,hG,?_⟩;have e9:g++(aH.begin a.l_ f::aG fs f d c (g.length+1)++[aH.drop]).map some=(g++[some (aH.begin a.l_ f)])++(aG fs f d c (g.length+1)).map some++[some .drop]:=s_
   rw[e9];exact D
def XR(a:fs.length<=1000000)(b:∀k,k<fs.length->fp k=.pointer (some ⟨fb k,0,none⟩)):∀d,SM fp fb fs cb lo d
 |0=>λ_ _ _ _ _ _ _ _ h=>h.elim
 |d+1=>P8 (XR a b d) a b
end
end Go.Proofs.YthbffcmfmjpncaaGreatDoor
