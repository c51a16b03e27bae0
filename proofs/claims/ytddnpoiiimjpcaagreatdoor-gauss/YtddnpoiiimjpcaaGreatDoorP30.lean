/- Contracts of the program: a fault is caught, whatever is done (2 variables are shared with it). -/
import Derived.Test.YtddnpoiiimjpcaaGreatDoorP19
import Derived.Test.YtddnpoiiimjpcaaGreatDoorP25
set_option linter.defProp false
set_option maxRecDepth 100000
set_option maxHeartbeats 4000000
namespace Go.Proofs.YtddnpoiiimjpcaaGreatDoor
open Hs
open _root_.Go.Proofs.Tryz
open Instr(typeAssert)
open Go.RowKit
def NT(a:Nat)(p q:Option Addr)(w:aH)(Q:World->Prop)(E:Nat->Nat->Prop)
 (c:∀W,(callFunc a #[.pointer p,.pointer q]).run prog W=.ok (.enter a #[.pointer p,.pointer q]) W)
 (u:∀m,m=(w.alloc (.cells #[Iv0 0] 39)).alloc (.cells #[Iv0 0] 3)->Calls prog a #[.pointer p,.pointer q] m fun e w'=>
   (e=bE (.tuple #[])/\w'.heap[w.heap.size]?=some (.cells #[Iv0 0] 39 (0,0))/\w'.heap[w.heap.size+1]?=some (.cells #[Iv0 0] 3 (0,0))/\Q w')\/
   ∃k n,k≠0/\e=.panicked [{ v:=.iface 117 (.agg #[Iv0 (k:Nat),Iv0 (n:Nat)]),recovered:=false }]/\Below m.heap.size m w'/\E k n):
 Calls prog 40 #[.func (.func a) #[] #[.pointer p,.pointer q]] w fun e w'=>
  (e=bE (.tuple #[Iv0 0,Iv0 0])/\∃d,Q d/\w'=(d.setCell (aL w.heap.size 0) (Iv0 0)).setCell (aL (w.heap.size+1) 0) (Iv0 0))\/
  ∃k n,k≠0/\e=bE (.tuple #[Iv0 (k:Nat),Iv0 (n:Nat)])/\Below w.heap.size w w'/\E k n:=by
 have C:=D9;have l:Below w.heap.size w ((w.alloc (.cells #[Iv0 0] 39)).alloc (.cells #[Iv0 0] 3)):=((Y8 _ w).alloc dH _).alloc (by simp) _
 have z:=aB (u _ rfl);have H:=c ((w.alloc (.cells #[Iv0 0] 39)).alloc (.cells #[Iv0 0] 3));clear u c;go_enter_defers func40,ntmps40
 go_wp2_with fail;refine z.mono ?_;rintro e d (⟨rfl,h,g,x⟩|⟨k,n,y,rfl,b,A⟩)
 ·have D:=aB x;clear x;have o:=lU h (i:=0) rfl;have r:=lU g (i:=0) rfl;have J:=oN (i:=0) h;have K:=oN (i:=0) g;have L:=qF h;have M:=qF g;go_wp2_with fail;refine leaves_cons (f:=69) (args:= #[bO w.heap.size,bO (w.heap.size+1)]) (by simp) (by simp[go_sem]) ?_
  refine(TH (aL w.heap.size 0) (aL (w.heap.size+1) 0) _).mono ?_;rintro e G I ⟨rfl,rfl,rfl⟩;simp[Leaves,settle,results,results40,go_sem,o,r];exact Y4 ⟨d,D,rfl⟩
 ·have h:d.heap[w.heap.size]?=some (.cells #[Iv0 0] 39 (0,0)):=by rw[b.block _ (by simp;omega)];exact nY _ _ _
  have g:d.heap[w.heap.size+1]?=some (.cells #[Iv0 0] 3 (0,0)):=by rw[b.block _ (by simp)];exact lK _ _ _
  have F:Below w.heap.size w d:=l.trans (b.mono (by simp;omega))
  have B:=aB (j6 y A);clear b l z A y;go_wp2_with fail;refine leaves_cons (f:=69) (args:= #[bO w.heap.size,bO (w.heap.size+1)]) (by simp) (by simp[go_sem]) ?_
  refine(OZ w.heap.size (w.heap.size+1) k n [] _ h g (k9 _)).mono ?_;rintro e G m ⟨rfl,rfl,t,o,r⟩;have s:=F.trans t;simp[Leaves,settle,results,results40,go_sem,o,r];obtain⟨j,rfl⟩:∃j,k=j+1:=⟨k-1,by have:=B.1;omega⟩
  exact Y3 ⟨j,n,⟨by simp,rfl⟩,s,B.2⟩
def FB.of_lt{cb:Nat}{w w':aH}(h:Below w.heap.size w w')(a:cb<w.heap.size):FB cb cb w w':=FB.of_below h ⟨a,dH⟩
def PL(fp:fN)(F:cC)(w:aH)(xs:List Value)(code:List (Option aG)):Prop:=
 xs.length=code.length/\∀(i:Nat) o,code[i]?=some o->∃u,xs[i]?=some u/\(match o with|none=>u=.nilIface|some i=>lC fp F w u i)
def PL.keep{d:fN}{F G:cC}{w w':aH}{xs:List Value}{a:List (Option aG)}(h:PL d F w xs a)(e:∀b,F b->w'.heap[b]?=w.heap[b]?)(k:∀b,F b->G b):PL d G w' xs a:=
 ⟨h.1,fun i o f=>by
   obtain⟨u,g,c⟩:=h.2 i o f;refine⟨u,g,?_⟩;cases o with
   |none=>exact c
   |some j=>exact lC.keep c e k⟩
def GR(fp:fN)(fb:Nat->Nat)(nms:cO)(F:cC)(w:aH)(fv:aQ):Prop:=
 (nms=[]/\fv=bV)\/∃g cap,fv=.slice (some (aL g 0)) nms.length cap/\F g/\nms.length<=cap/\g<w.heap.size/\∀k (h:k<nms.length),w.cell? (aL g k)=some (fp k)/\fp k=bO (fb k)/\F (fb k)/\∃x,w.heap[fb k]?=some (.cells #[.string (bs nms[k]),x] 136 (0,0))
def GR.keep{f:fN}{l:Nat->Nat}{a:cO}{F G:cC}{w w':aH}{n:aQ}(h:GR f l a F w n)(i:∀b,F b->w'.heap[b]?=w.heap[b]?)(j:∀b,F b->G b)(t:w.heap.size<=w'.heap.size):GR f l a G w' n:=by
 rcases h with h|⟨g,d,p,e,s,o,q⟩
 ·exact Y4 h
 ·refine Y3 ⟨g,d,p,j g e,s,Y7 o t,fun k c=>?_⟩
  obtain⟨u,r,m,x,v⟩:=q k c;exact⟨by rw[World.cell?_of_block (i g e)];exact u,r,j _ m,x,by rw[i _ m];exact v⟩
structure CP(fp:fN)(fb:Nat->Nat)(nms:cO)(cb:Nat)(F:cC)(w:aH)(code:List (Option aG))(seen:cO):Prop where
 blk:∃fv cv sp,w.heap[cb]?=some (.cells #[fv,cv,sp] 190 (0,0))/\(∃xs,w.ownsRow (cb+1) 238 1 cv code.length xs/\PL fp F w xs code)/\fA F w sp seen/\GR fp fb nms F w fv
 fix:∀k,F k->k<w.heap.size/\k≠cb/\kW cb w≠some k
section
variable {fp:fN} {fb:Nat->Nat} {nms:cO} {cb:Nat} {F:cC} {w w':aH} {code:List (Option aG)} {seen:cO}
def CP.lt(h:CP fp fb nms cb F w code seen):cb<w.heap.size:=by
 obtain⟨_,_,_,a,_⟩:=h.blk;exact aD a
def jA{a v1 v2:aQ}(h:w.heap[cb]?=some (.cells #[a,v1,v2] 190 (0,0))):kW cb w=v1.ownBlock:=by unfold kW;rw[h];rfl
def CP.grow(h:CP fp fb nms cb F w code seen)(a:Below w.heap.size w w'):CP fp fb nms cb F w' code seen:=by
 have c:=h.lt;obtain⟨t,i,f,m,⟨p,g,q⟩,l,n⟩:=h.blk;have d:∀b,F b->w'.heap[b]?=w.heap[b]?:=fun b e=>a.block b (h.fix b e).1
 refine⟨⟨t,i,f,by rw[a.block _ c];exact m,⟨p,iS g a,q.keep d eD⟩,fA.keep d eD l,n.keep d eD a.size⟩,fun k j=>?_⟩
 obtain⟨r,o,s⟩:=h.fix k j;exact⟨Y7 r a.size,o,by rw[nT (a.block cb c)];exact s⟩
def CP.new(h:CP fp fb nms cb F w code seen)(o:Obj):Loc cb cb w w.heap.size o (w.alloc o)/\CP fp fb nms cb F (w.alloc o) code seen:=by
 have a:=h.lt;have b:Below w.heap.size w (w.alloc o):=(Y8 _ _).alloc dH _;refine⟨⟨FB.of_lt b a,aU _ _ rfl _,fun e=>?_,by omega⟩,h.grow b⟩
 obtain⟨i,j,f,d,⟨g,c,_⟩,_⟩:=h.blk;rw[nT (b.block cb a),jA d] at e;have:=cP c _ e;omega
def N2:(prog.info? 238).map (fun i=>(i.zero,i.size,i.bytes))=some (some .nilIface,1,16):=by kernel_rfl
def C6(w:aH)(u:aQ):∀j v,([u]:List Value)[j]?=some v->(w.alloc (.cells #[u] 238)).cell? ((⟨w.heap.size,0,none⟩:Addr).add j)=some v:=by
 intro j v a;match j,a with
 |0,a=>simp at a;subst a;simp[Addr.add,go_sem]
 |j+1,a=>simp at a
def Q9(fp:fN)(F:cC)(w:aH)(u:aQ):Option aG->Prop
 |none=>u=.nilIface
 |some i=>lC fp F w u i
def Q9.one{u:aQ}{o:Option aG}(h:Q9 fp F w u o):u.oneCell'=true/\(u=.nilIface\/∃t z,u=.iface t z):=by
 cases o with
 |none=>rw[show u=.nilIface from h];exact⟨rfl,Y4 rfl⟩
 |some i=>obtain⟨t,z,rfl⟩:=lC.form h;exact⟨rfl,Y3 ⟨t,z,rfl⟩⟩
def YE(cb n:Nat)(C P A u:aQ)(xs:List Value)(w:aH)(f:w.heap[cb]?=some (.cells #[C,P,A] 190 (0,0)))(g:w.ownsRow (cb+1) 238 1 P n xs)(q:u.oneCell'=true)(Y:u=.nilIface\/∃t z,u=.iface t z)(hn:n<=1000000):
 Calls prog 149 #[bO cb,u] w fun e w'=>e=bE (Iv0 n)/\∃j,w'.heap[cb]?=some (.cells #[C,j,A] 190 (0,0))/\w'.ownsRow (cb+1) 238 1 j (n+1) (xs++[u])/\FB cb cb w w':=by
 obtain⟨X,Z,E,H,J⟩:=info_parts N2;obtain⟨x,c,rfl⟩:=cY g;have M:=aD f;have c1:w.cell? (aL cb 1)=some (.slice x n c):=aA f rfl;have K:=aB g;have G:=aB f;have m:∀v∈([u]:List Value),v.oneCell'=true:=fun v S=>by simp at S;rw[S];exact q
 have HONE:=aB m;clear g f m q
 have r:∀p:aQ,u=p->(p=.nilIface\/∃t z,p=.iface t z)->Calls prog 149 #[bO cb,p] w fun e w'=>e=bE (Iv0 n)/\∃j,w'.heap[cb]?=some (.cells #[C,j,A] 190 (0,0))/\w'.ownsRow (cb+1) 238 1 j (n+1) (xs++[p])/\FB cb cb w w':=by
  intro p e I;subst e;rcases I with rfl|⟨t,z,rfl⟩
  all_goals
   go_in
   go_wp2_with (at_builtin;refine wpList_append_lies _ (by rfl) _ _ 134 (by rfl) (cb+1) 238 X _ 1 16 underlying134 Z E H J rfl (by decide) (.slice x n c) n xs (by rfl) (K.alloc _) (aL w.heap.size 0) 1 1 [_] (by rfl) (by rfl) (C6 w _) HONE (by decide) (by unfold maxLen;omega) (by omega) (by simp;omega) (w.heap.size+1) (by simp) ?_)
   intro B s N d b l V;have D:some cb≠(Value.slice x n c).ownBlock:=fun e=>by have:=(K.lt cb e.symm).1;omega
   have a:N.heap[cb]?=some (.cells #[C,.slice x n c,A] 190 (0,0)):=by
    rw[b.block cb (by simp;omega) D,Z3 _ _ _ M];exact G
   have U:N.cell? (aL cb 1)=some (.slice x n c):=aA a rfl;have aa:=aE a (i:=1);have T:=aD a
   have L:B≠cb:=by
    have:=(d.lt B rfl).1;omega
   have HOWN:=aB d;have Q:=aB b;have F:=aB l;have y:=aB a;clear d b l a;go_wp2
   go_ret;refine⟨by go_num,.slice (some (aL B 0)) (n+1) s,aT y,bA HOWN fun k o=>Y6 _ _ _ _ (by cases o;exact L),⟨?_,fun k o W O=>?_,fun k o=>?_⟩⟩
   ·exact(((Y8 cb w).alloc (by omega) _).grown Q (by simp;omega) (fun k o=>by have:=(K.lt k o).1;omega)).setCell (by exact Z7 cb) _
   ·rw[jA G.out] at O;rw[Y6 _ _ _ _ W,Q.out.block k (by simp;omega) (fun e=>O e.symm),Z3 _ _ _ o]
   ·rw[jA (aT y.out),jA G.out] at*;cases o;rcases F with h|h
    ·exact Y4 h
    ·exact Y3 (by show w.heap.size<=B;omega)
 exact r u rfl Y
def CP.step{a:List (Option aG)}{l b g:aQ}{xs':List Value}(h:CP fp fb nms cb F w code seen)(c:FB cb cb w w')(f:w'.heap[cb]?=some (.cells #[l,b,g] 190 (0,0)))(d:w'.ownsRow (cb+1) 238 1 b a.length xs')(r:PL fp F w' xs' a)(j:fA F w' g seen)(i:GR fp fb nms F w' l):CP fp fb nms cb F w' a seen:=
 ⟨⟨l,b,g,f,⟨xs',d,r⟩,j,i⟩,fun k n=>by
   obtain⟨p,o,q⟩:=h.fix k n;refine⟨Y7 p c.bel.size,o,fun e=>?_⟩
   rcases c.row k e with m|m
   ·exact q m
   ·omega⟩
def CP.fixed(h:CP fp fb nms cb F w code seen)(a:FB cb cb w w'):∀b,F b->w'.heap[b]?=w.heap[b]?:=fun b e=>by
 obtain⟨c,f,d⟩:=h.fix b e;exact a.blk b c f d
def qK{u:aQ}{o:Option aG}(h:CP fp fb nms cb F w code seen)(k:Q9 fp F w u o)(D:code.length<=1000000):
 Calls prog 149 #[bO cb,u] w fun e w'=>e=bE (Iv0 code.length)/\CP fp fb nms cb F w' (code++[o]) seen/\FB cb cb w w':=by
 obtain⟨H,p,m,s,⟨A,n,c⟩,q,t⟩:=h.blk;obtain⟨z,v⟩:=k.one;refine(YE cb code.length H p m u A w s n z v D).mono ?_;rintro e w' ⟨G,B,r,I,f⟩;have g:=h.fixed f;refine⟨G,h.step f r (by rw[Y5];exact I) ?_ (fA.keep g eD q) (t.keep g eD f.bel.size),f⟩
 have l:=c.keep g eD;refine⟨by simp[c.1],fun i C a=>?_⟩
 rcases l6 i code.length with d|d
 ·rw[l7 d] at a;obtain⟨y,E,x⟩:=l.2 i C a;exact⟨y,by rw[l7 (by rw[c.1];exact d)];exact E,x⟩
 ·rw[j1 d] at a
  have b:i-code.length=0:=by
   have:=(j4.1 a).1;simp at this;omega
  rw[b] at a;simp at a;subst a;refine⟨u,by rw[j1 (by rw[c.1];exact d),c.1,b];rfl,?_⟩
  cases o with
  |none=>exact k
  |some j=>exact lC.keep k g eD
def NR(h:CP fp fb nms cb F w code seen)(j:seen.length<=1000000):
 Calls prog 189 #[bO cb] w fun e w'=>e=bE (Iv0 seen.length)/\w'=w:=by
 obtain⟨r,m,f,c, -,g, -⟩:=h.blk;have q:=aD c;have p:w.cell? (aL cb 2)=some f:=aA c rfl;cases seen with
 |nil=>
  obtain rfl:f=.pointer none:=g;clear h c;go_in
  go_wp2
  go_ret;exact⟨rfl,rfl⟩
 |cons x l=>
  obtain⟨b,o,rfl,k,a,d⟩:=g;have n:w.cell? (aL b 1)=some (Iv0 l.length):=aA a rfl;have i:=aD a;simp only[Y9] at j;clear h c a d;go_in
  go_wp2
  go_ret;exact⟨by go_num,rfl⟩
end
section
variable {fp:fN} {fb:Nat->Nat} {nms:cO} {cb:Nat} {F:cC} {w w':aH} {code:List (Option aG)} {seen:cO}
def B0(w:aH)(cb n:Nat)(x:cE)(p:Option Addr)(f:cb<w.heap.size)(b:w.cell? (aL cb 2)=some (.pointer p))(c:w.frozen? (aL cb 2)=false)
 (a:Hid (Calls prog 189 #[bO cb] w.drew fun e w'=>e=bE (Iv0 n)/\w'=w.drew)):
 Calls prog 147 #[bO cb,.string (bs x)] w fun e w'=>e=bE (.tuple #[])/\aY ((w.setCell (aL cb 2) (bO w.heap.size)).alloc (.cells #[.string (bs x),Iv0 n,.pointer p] 139)) w':=by
 go_in
 go_wp2_with fail;go_region_law (go_simp;go_at_call 189;refine a.mono ?_;rintro e d ⟨rfl,rfl⟩)
 all_goals
  go_wp2
  go_end0;exact⟨rfl,aY.drew _⟩
def TU(x:cE)(h:CP fp fb nms cb F w code seen)(D:seen.length<=1000000):
 Calls prog 147 #[bO cb,.string (bs x)] w fun e w'=>e=bE (.tuple #[])/\CP fp fb nms cb (fun k=>F k\/k=w.heap.size) w' code (x::seen)/\FB cb cb w w':=by
 have m:=h.lt;obtain⟨u,q,H,c,⟨B,j,C⟩,t,y⟩:=h.blk;obtain⟨p,rfl⟩:=t.form;have v:CP fp fb nms cb F w.drew code seen:=h.grow (aY.drew w).below;refine(B0 w cb seen.length x p m (aA c rfl) (aE c) (NR v D)).mono ?_;rintro e w' ⟨G,d⟩;generalize g:(w.setCell (aL cb 2) (bO w.heap.size)).alloc (.cells #[.string (bs x),Iv0 seen.length,.pointer p] 139)=W at d
 have o:∀k,k<w.heap.size->k≠cb->w'.heap[k]?=w.heap[k]?:=fun k c j=>by
  rw[d.heap,<-g,Z3 _ _ _ (by simpa using c),Y6 _ _ _ _ j]
 have l:w'.heap[cb]?=some (.cells #[u,q,bO w.heap.size] 190 (0,0)):=by
  rw[d.heap,<-g,Z3 _ _ _ (by simpa using m)];exact aT c
 have n:w'.heap[w.heap.size]?=some (.cells #[.string (bs x),Iv0 seen.length,.pointer p] 139 (0,0)):=by
  rw[d.heap,<-g];exact aU _ _ (by simp) _
 have A:w'.heap.size=w.heap.size+1:=by rw[d.heap,<-g];simp
 have f:kW cb w'=kW cb w:=by rw[jA l,jA c]
 have r:∀b,F b->w'.heap[b]?=w.heap[b]?:=fun b s=>o b (h.fix b s).1 (h.fix b s).2.1
 have i:=fun k (e:q.ownBlock=some k)=>j.lt k e
 refine⟨G,⟨⟨u,q,_,l,⟨B,bA j fun k e=>o k (i k e).2 (by have:=(i k e).1;omega),C.keep r fun _ h=>Y4 h⟩,⟨w.heap.size,.pointer p,rfl,Y3 rfl,n,fA.keep r (fun _ h=>Y4 h) t⟩,y.keep r (fun _ h=>Y4 h) (by omega)⟩,fun k a=>?_⟩,⟨?_,fun k c j _=>o k c j,fun k e=>Y4 (by rw[<-f];exact e)⟩⟩
 ·rcases a with a|rfl
  ·obtain⟨I,z,E⟩:=h.fix k a;exact⟨by omega,z,by rw[f];exact E⟩
  ·refine⟨by omega,by omega,fun e=>?_⟩
   rw[f,jA c] at e;have:=(i _ e).2;omega
 ·refine⟨by rw[d.os,<-g];rfl,by rw[d.tape,<-g];rfl,by rw[d.output,<-g];rfl,by omega,fun k a=>o k (by omega) (by omega)⟩
def A4{x y:cE}{l:cO}(h:y∈x::l)(a:x≠y):y∈l/\eE (x::l) y=eE l y:=by
 refine⟨?_,by rw[eE,if_neg a]⟩
 rcases Z6.1 h with e|e
 ·exact absurd e.symm a
 ·exact e
def LQ(a:cE)(h:CP fp fb nms cb F w code seen)(r:a∈seen)(_hn:seen.length<=1000000):
 Calls prog 171 #[bO cb,.string (bs a)] w fun e w'=>e=bE (Iv0 (eE seen a))/\w'=w:=by
 obtain⟨L,G,n,j, -,i, -⟩:=h.blk;have K:=aD j;have I:w.cell? (aL cb 2)=some n:=aA j rfl;have q:Hid (fA F w n seen/\a∈seen):=⟨i,r⟩;obtain⟨p,rfl⟩:=i.form;clear h j i r;go_in
 go_wp2_with fail;go_loopg [5] seen.length (fun gk v wr=>∃l,l.length=gk/\fA F w v l/\a∈l/\eE l a=eE seen a/\wr=w)
 case atStart=>exact⟨seen,rfl,q.1,q.2,rfl,rfl⟩
 case round=>
  obtain⟨l,k,B,f,d,rfl⟩:=hrel;cases l with
  |nil=>cases f
  |cons x l=>
   obtain⟨b,o,rfl,E,c,g⟩:=B;obtain⟨s,rfl⟩:=g.form;have J:wr.cell? (aL b 0)=some (.string (bs x)):=aA c rfl;have H:wr.cell? (aL b 1)=some (Iv0 l.length):=aA c rfl;have D:wr.cell? (aL b 2)=some (.pointer s):=aA c rfl;have t:=aD c;by_cases m:x=a
   ·subst m;have z:eE (x::l) x=l.length:=by rw[eE,if_pos rfl]
    rw[z] at d;clear c g f;go_wp2
    go_ret;exact⟨by rw[<-d];rfl,rfl⟩
   ·obtain⟨y,C⟩:=A4 f m;have u:((bs x).toList==(bs a).toList)=false:=by rw[cF,cF];simpa using m
    have A:Hid (fA F wr (.pointer s) l):=g;rw[C] at d;clear c g f;go_wp2
    go_roundg l.length
    case measure=>simp at k;omega
    case rel=>exact⟨l,rfl,A,y,d,rfl⟩
def sH(a:cE)(h:CP fp fb nms cb F w code seen)(v:a∈nms)(N:nms.length<=1000000):
 Calls prog 110 #[bO cb,.string (bs a)] w fun e w'=>e=bE (fp (nms.findIdx fun x=>x==a))/\w'=w:=by
 obtain⟨S,K,I,p, -, -,B⟩:=h.blk;rcases B with ⟨rfl,_⟩|⟨g,q,rfl,G,t,H,b⟩
 ·cases v
 have M:=aD p;have L:w.cell? (aL cb 0)=some (.slice (some (aL g 0)) nms.length q):=aA p rfl;have u:=aB b;clear h p b;go_in
 go_wp2_with fail;go_loopg [6,12] nms.length (fun gk _ i wr=>∃j:Nat,j+gk=nms.length/\i=Iv0 j/\j<=nms.findIdx (fun x=>x==a)/\wr=w)
 case atStart=>exact⟨0,by omega,rfl,n8 _,rfl⟩
 case round=>
  obtain⟨j,Q,rfl,f,rfl⟩:=hrel;have s:nms.findIdx (fun x=>x==a)<nms.length:=List.findIdx_lt_length_of_exists ⟨a,v,by simp⟩
  have o:j<nms.length:=by omega
  obtain⟨m,rfl⟩:∃m,gk=m+1:=⟨gk-1,by omega⟩
  obtain⟨E,k,P,x,n⟩:=u j o;rw[k] at E;have D:wr.cell? (aL (fb j) 0)=some (.string (bs nms[j])):=aA n rfl;have z:=aD n;have O:(0:Int)<=(j:Int):=by omega
  have J:(j:Int)<(nms.length:Int):=by omega
  by_cases l:nms[j]=a
  ·have r:nms.findIdx (fun x=>x==a)=j:=by
    refine Nat.le_antisymm (Nat.not_lt.1 fun c=>?_) f
    have:=List.not_of_lt_findIdx c;simp[l] at this
   have C:=aB k;rw[l] at D;clear n k u;go_wp2
   go_ret;exact⟨by rw[r,C.out];rfl,rfl⟩
  ·have A:((bs nms[j]).toList==(bs a).toList)=false:=by rw[cF,cF];simpa using l
   have d:j+1<=nms.findIdx (fun x=>x==a):=by
    rcases p9 f with e|e
    ·have:=af_ (w:=s);simp only[<-e] at this;simp at this;exact absurd this l
    ·exact e
   generalize nms[j]=y at*;clear n k;go_wp2
   go_roundg m
   case measure=>omega
   case rel=>exact⟨j+1,by omega,by go_num,d,rfl⟩
end
def vW(v:aQ)(w:aH):(typeAssert (.iface 279 v) 74 279 true).run prog w=.ok (.tuple #[v,.bool true]) w:=by kernel_rfl
def vV(v:aQ)(w:aH):(typeAssert (.iface 280 v) 74 279 true).run prog w=.ok (.tuple #[.agg #[Iv0 0,Iv0 0],.bool false]) w:=by kernel_rfl
def vU(v:aQ)(w:aH):(typeAssert (.iface 280 v) 74 280 true).run prog w=.ok (.tuple #[v,.bool true]) w:=by kernel_rfl
def CH(v:aQ)(w:aH):(typeAssert (.iface 282 v) 74 279 true).run prog w=.ok (.tuple #[.agg #[Iv0 0,Iv0 0],.bool false]) w:=by kernel_rfl
def CG(v:aQ)(w:aH):(typeAssert (.iface 282 v) 74 280 true).run prog w=.ok (.tuple #[.agg #[Iv0 0,.string ⟨#[]⟩],.bool false]) w:=by kernel_rfl
def KA(v:aQ)(w:aH):(typeAssert (.iface 282 v) 74 282 true).run prog w=.ok (.tuple #[v,.bool true]) w:=by kernel_rfl
def tB(v:aQ)(w:aH):(typeAssert (.iface 227 v) 74 279 true).run prog w=.ok (.tuple #[.agg #[Iv0 0,Iv0 0],.bool false]) w:=by kernel_rfl
def tA(v:aQ)(w:aH):(typeAssert (.iface 227 v) 74 280 true).run prog w=.ok (.tuple #[.agg #[Iv0 0,.string ⟨#[]⟩],.bool false]) w:=by kernel_rfl
def vT(v:aQ)(w:aH):(typeAssert (.iface 227 v) 74 282 true).run prog w=.ok (.tuple #[.agg #[Iv0 0,.bool false],.bool false]) w:=by kernel_rfl
def qL(v:aQ)(w:aH):(typeAssert (.iface 227 v) 74 227 true).run prog w=.ok (.tuple #[v,.bool true]) w:=by kernel_rfl
def CB(v:aQ)(w:aH):(typeAssert (.iface 229 v) 74 279 true).run prog w=.ok (.tuple #[.agg #[Iv0 0,Iv0 0],.bool false]) w:=by kernel_rfl
def CA(v:aQ)(w:aH):(typeAssert (.iface 229 v) 74 280 true).run prog w=.ok (.tuple #[.agg #[Iv0 0,.string ⟨#[]⟩],.bool false]) w:=by kernel_rfl
def JW(v:aQ)(w:aH):(typeAssert (.iface 229 v) 74 282 true).run prog w=.ok (.tuple #[.agg #[Iv0 0,.bool false],.bool false]) w:=by kernel_rfl
def vX(v:aQ)(w:aH):(typeAssert (.iface 229 v) 74 227 true).run prog w=.ok (.tuple #[.agg #[Iv0 0,.string ⟨#[]⟩],.bool false]) w:=by kernel_rfl
def JV(v:aQ)(w:aH):(typeAssert (.iface 229 v) 74 229 true).run prog w=.ok (.tuple #[v,.bool true]) w:=by kernel_rfl
def yU(v:aQ)(w:aH):(typeAssert (.iface 231 v) 74 279 true).run prog w=.ok (.tuple #[.agg #[Iv0 0,Iv0 0],.bool false]) w:=by kernel_rfl
def yT(v:aQ)(w:aH):(typeAssert (.iface 231 v) 74 280 true).run prog w=.ok (.tuple #[.agg #[Iv0 0,.string ⟨#[]⟩],.bool false]) w:=by kernel_rfl
def EI(v:aQ)(w:aH):(typeAssert (.iface 231 v) 74 282 true).run prog w=.ok (.tuple #[.agg #[Iv0 0,.bool false],.bool false]) w:=by kernel_rfl
def uI(v:aQ)(w:aH):(typeAssert (.iface 231 v) 74 227 true).run prog w=.ok (.tuple #[.agg #[Iv0 0,.string ⟨#[]⟩],.bool false]) w:=by kernel_rfl
def EH(v:aQ)(w:aH):(typeAssert (.iface 231 v) 74 229 true).run prog w=.ok (.tuple #[.agg #[Iv0 0,bV],.bool false]) w:=by kernel_rfl
def CC(v:aQ)(w:aH):(typeAssert (.iface 231 v) 74 231 true).run prog w=.ok (.tuple #[v,.bool true]) w:=by kernel_rfl
def yS(v:aQ)(w:aH):(typeAssert (.iface 233 v) 74 279 true).run prog w=.ok (.tuple #[.agg #[Iv0 0,Iv0 0],.bool false]) w:=by kernel_rfl
def yR(v:aQ)(w:aH):(typeAssert (.iface 233 v) 74 280 true).run prog w=.ok (.tuple #[.agg #[Iv0 0,.string ⟨#[]⟩],.bool false]) w:=by kernel_rfl
def EG(v:aQ)(w:aH):(typeAssert (.iface 233 v) 74 282 true).run prog w=.ok (.tuple #[.agg #[Iv0 0,.bool false],.bool false]) w:=by kernel_rfl
def uH(v:aQ)(w:aH):(typeAssert (.iface 233 v) 74 227 true).run prog w=.ok (.tuple #[.agg #[Iv0 0,.string ⟨#[]⟩],.bool false]) w:=by kernel_rfl
def EF(v:aQ)(w:aH):(typeAssert (.iface 233 v) 74 229 true).run prog w=.ok (.tuple #[.agg #[Iv0 0,bV],.bool false]) w:=by kernel_rfl
def BZ(v:aQ)(w:aH):(typeAssert (.iface 233 v) 74 231 true).run prog w=.ok (.tuple #[.agg #[Iv0 0,.nilIface,.nilIface],.bool false]) w:=by kernel_rfl
def BY(v:aQ)(w:aH):(typeAssert (.iface 233 v) 74 233 true).run prog w=.ok (.tuple #[v,.bool true]) w:=by kernel_rfl
def wA(v:aQ)(w:aH):(typeAssert (.iface 235 v) 74 279 true).run prog w=.ok (.tuple #[.agg #[Iv0 0,Iv0 0],.bool false]) w:=by kernel_rfl
def vZ(v:aQ)(w:aH):(typeAssert (.iface 235 v) 74 280 true).run prog w=.ok (.tuple #[.agg #[Iv0 0,.string ⟨#[]⟩],.bool false]) w:=by kernel_rfl
def CL(v:aQ)(w:aH):(typeAssert (.iface 235 v) 74 282 true).run prog w=.ok (.tuple #[.agg #[Iv0 0,.bool false],.bool false]) w:=by kernel_rfl
def tC(v:aQ)(w:aH):(typeAssert (.iface 235 v) 74 227 true).run prog w=.ok (.tuple #[.agg #[Iv0 0,.string ⟨#[]⟩],.bool false]) w:=by kernel_rfl
def CJ(v:aQ)(w:aH):(typeAssert (.iface 235 v) 74 229 true).run prog w=.ok (.tuple #[.agg #[Iv0 0,bV],.bool false]) w:=by kernel_rfl
def yW(v:aQ)(w:aH):(typeAssert (.iface 235 v) 74 231 true).run prog w=.ok (.tuple #[.agg #[Iv0 0,.nilIface,.nilIface],.bool false]) w:=by kernel_rfl
def yV(v:aQ)(w:aH):(typeAssert (.iface 235 v) 74 233 true).run prog w=.ok (.tuple #[.agg #[Iv0 0,.string ⟨#[]⟩,.nilIface],.bool false]) w:=by kernel_rfl
def wB(v:aQ)(w:aH):(typeAssert (.iface 235 v) 74 235 true).run prog w=.ok (.tuple #[v,.bool true]) w:=by kernel_rfl
def CE(v:aQ)(w:aH):(typeAssert (.iface 224 v) 74 279 true).run prog w=.ok (.tuple #[.agg #[Iv0 0,Iv0 0],.bool false]) w:=by kernel_rfl
def CD(v:aQ)(w:aH):(typeAssert (.iface 224 v) 74 280 true).run prog w=.ok (.tuple #[.agg #[Iv0 0,.string ⟨#[]⟩],.bool false]) w:=by kernel_rfl
def JZ(v:aQ)(w:aH):(typeAssert (.iface 224 v) 74 282 true).run prog w=.ok (.tuple #[.agg #[Iv0 0,.bool false],.bool false]) w:=by kernel_rfl
def vY(v:aQ)(w:aH):(typeAssert (.iface 224 v) 74 227 true).run prog w=.ok (.tuple #[.agg #[Iv0 0,.string ⟨#[]⟩],.bool false]) w:=by kernel_rfl
def JX(v:aQ)(w:aH):(typeAssert (.iface 224 v) 74 229 true).run prog w=.ok (.tuple #[.agg #[Iv0 0,bV],.bool false]) w:=by kernel_rfl
def EK(v:aQ)(w:aH):(typeAssert (.iface 224 v) 74 231 true).run prog w=.ok (.tuple #[.agg #[Iv0 0,.nilIface,.nilIface],.bool false]) w:=by kernel_rfl
def EJ(v:aQ)(w:aH):(typeAssert (.iface 224 v) 74 233 true).run prog w=.ok (.tuple #[.agg #[Iv0 0,.string ⟨#[]⟩,.nilIface],.bool false]) w:=by kernel_rfl
def CF(v:aQ)(w:aH):(typeAssert (.iface 224 v) 74 235 true).run prog w=.ok (.tuple #[.agg #[Iv0 0,.string ⟨#[]⟩,.nilIface,.nilIface],.bool false]) w:=by kernel_rfl
def JY(v:aQ)(w:aH):(typeAssert (.iface 224 v) 74 224 true).run prog w=.ok (.tuple #[v,.bool true]) w:=by kernel_rfl
def rX(w:aH)(cb:Nat)(l k:Int)(P:World->Prop)
 (b:Hid (Calls prog 149 #[bO cb,.iface 256 (.agg #[.iface 195 (Iv0 k)])] (w.alloc (.cells #[Iv0 l,Iv0 k] 279)) fun e w'=>(∃k:Nat,e=bE (Iv0 k))/\P w')):
 Calls prog 130 #[bO cb,.iface 279 (.agg #[Iv0 l,Iv0 k])] w fun e w'=>e=bE (.tuple #[])/\P w':=by
 have d:=vW;go_in
 go_wp2_with fail;refine b.mono ?_;rintro e c ⟨⟨m,rfl⟩,a⟩;go_wp2
 go_end0;exact⟨rfl,a⟩
def EE(w:aH)(cb:Nat)(l:Int)(s:ByteArray)(P:World->Prop)
 (b:Hid (Calls prog 149 #[bO cb,.iface 256 (.agg #[.iface 198 (.string s)])] (w.alloc (.cells #[Iv0 l,.string s] 280)) fun e w'=>(∃k:Nat,e=bE (Iv0 k))/\P w')):
 Calls prog 130 #[bO cb,.iface 280 (.agg #[Iv0 l,.string s])] w fun e w'=>e=bE (.tuple #[])/\P w':=by
 have d:=vV;have f:=vU;go_in
 go_wp2_with fail;refine b.mono ?_;rintro e c ⟨⟨m,rfl⟩,a⟩;go_wp2
 go_end0;exact⟨rfl,a⟩
def NY(w:aH)(cb:Nat)(l:Int)(b:Bool)(P:World->Prop)
 (c:Hid (Calls prog 149 #[bO cb,.iface 256 (.agg #[.iface 196 (.bool b)])] (w.alloc (.cells #[Iv0 l,.bool b] 282)) fun e w'=>(∃k:Nat,e=bE (Iv0 k))/\P w')):
 Calls prog 130 #[bO cb,.iface 282 (.agg #[Iv0 l,.bool b])] w fun e w'=>e=bE (.tuple #[])/\P w':=by
 have f:=CH;have g:=CG;have h:=KA;go_in
 go_wp2_with fail;refine c.mono ?_;rintro e d ⟨⟨m,rfl⟩,a⟩;go_wp2
 go_end0;exact⟨rfl,a⟩
def yQ(w:aH)(cb:Nat)(l:Int)(s:ByteArray)(k:Nat)(P:World->Prop)
 (c:Hid (Calls prog 171 #[bO cb,.string s] (w.alloc (.cells #[Iv0 l,.string s] 227)) fun e w'=>e=bE (Iv0 k)/\w'=w.alloc (.cells #[Iv0 l,.string s] 227)))
 (b:Hid (Calls prog 149 #[bO cb,.iface 285 (.agg #[Iv0 k])] (w.alloc (.cells #[Iv0 l,.string s] 227)) fun e w'=>(∃k:Nat,e=bE (Iv0 k))/\P w')):
 Calls prog 130 #[bO cb,.iface 227 (.agg #[Iv0 l,.string s])] w fun e w'=>e=bE (.tuple #[])/\P w':=by
 have g:=tB;have h:=tA;have j:=vT;have f:=qL;go_in
 go_wp2_with fail;refine c.mono ?_;rintro e d ⟨rfl,rfl⟩;go_wp2_with fail;refine b.mono ?_;rintro e i ⟨⟨m,rfl⟩,a⟩;go_wp2
 go_end0;exact⟨rfl,a⟩
def NX(w:aH)(cb n c:Nat)(l:Int)(x:Option Addr)(P Q:World->Prop)
 (h:Hid (Calls prog 172 #[bO cb,.slice x n c] (w.alloc (.cells #[Iv0 l,.slice x n c] 229)) fun e w'=>e=bE (.tuple #[])/\Q w'))
 (f:Hid (∀W,Q W->W.cell? (aL w.heap.size 1)=some (.slice x n c)/\w.heap.size<W.heap.size))
 (g:Hid (∀W,Q W->Calls prog 149 #[bO cb,.iface 287 (.agg #[Iv0 n])] W fun e w'=>(∃k:Nat,e=bE (Iv0 k))/\P w')):
 Calls prog 130 #[bO cb,.iface 229 (.agg #[Iv0 l,.slice x n c])] w fun e w'=>e=bE (.tuple #[])/\P w':=by
 have o:=CB;have p:=CA;have u:=JW;have q:=vX;have r:=JV;go_in
 go_wp2_with fail;refine h.mono ?_;rintro e i ⟨rfl,b⟩;obtain⟨j,s⟩:=f _ b;have a:=aB (g _ b);clear b;go_wp2_with fail;refine a.mono ?_;rintro e t ⟨⟨m,rfl⟩,d⟩;go_wp2
 go_end0;exact⟨rfl,d⟩
def JS(w:aH)(cb:Nat)(l:Int)(h a:TypeId)(d b:aQ)(P Q R:World->Prop)
 (q:Hid (Calls prog 130 #[bO cb,.iface h d] (w.alloc (.cells #[Iv0 l,.iface h d,.iface a b] 231)) fun e w'=>e=bE (.tuple #[])/\Q w'))
 (j:Hid (∀W,Q W->W.cell? (aL w.heap.size 2)=some (.iface a b)/\w.heap.size<W.heap.size))
 (n:Hid (∀W,Q W->Calls prog 130 #[bO cb,.iface a b] W fun e w'=>e=bE (.tuple #[])/\R w'))
 (p:Hid (∀W,R W->Calls prog 149 #[bO cb,.iface 288 (.agg #[])] W fun e w'=>(∃k:Nat,e=bE (Iv0 k))/\P w')):
 Calls prog 130 #[bO cb,.iface 231 (.agg #[Iv0 l,.iface h d,.iface a b])] w fun e w'=>e=bE (.tuple #[])/\P w':=by
 have t:=yU;have v:=yT;have C:=EI;have x:=uI;have z:=EH;have y:=CC;go_in
 go_wp2_with fail;refine q.mono ?_;rintro e r ⟨rfl,f⟩;obtain⟨s,A⟩:=j _ f;have g:=aB (n _ f);clear f;go_wp2_with fail;refine g.mono ?_;rintro e B ⟨rfl,i⟩;have c:=aB (p _ i);clear i;go_wp2_with fail;refine c.mono ?_;rintro e u ⟨⟨m,rfl⟩,o⟩;go_wp2
 go_end0;exact⟨rfl,o⟩
def JR(w:aH)(cb:Nat)(l:Int)(op:ByteArray)(d:TypeId)(b:aQ)(P Q:World->Prop)
 (i:Hid (Calls prog 130 #[bO cb,.iface d b] (w.alloc (.cells #[Iv0 l,.string op,.iface d b] 233)) fun e w'=>e=bE (.tuple #[])/\Q w'))
 (f:Hid (∀W,Q W->W.cell? (aL w.heap.size 1)=some (.string op)/\w.heap.size<W.heap.size))
 (h:Hid (∀W,Q W->Calls prog 149 #[bO cb,.iface 290 (.agg #[.string op])] W fun e w'=>(∃k:Nat,e=bE (Iv0 k))/\P w')):
 Calls prog 130 #[bO cb,.iface 233 (.agg #[Iv0 l,.string op,.iface d b])] w fun e w'=>e=bE (.tuple #[])/\P w':=by
 have o:=yS;have r:=yR;have x:=EG;have s:=uH;have u:=EF;have t:=BZ;have q:=BY;go_in
 go_wp2_with fail;refine i.mono ?_;rintro e j ⟨rfl,c⟩;obtain⟨n,v⟩:=f _ c;have a:=aB (h _ c);clear c;go_wp2_with fail;refine a.mono ?_;rintro e p ⟨⟨m,rfl⟩,g⟩;go_wp2
 go_end0;exact⟨rfl,g⟩
def rY(w:aH)(cb:Nat)(l:Int)(op:ByteArray)(d a:TypeId)(c b:aQ)(P:World->Prop)
 (g:Hid (Calls prog 173 #[bO cb,.agg #[Iv0 l,.string op,.iface d c,.iface a b]] (w.alloc (.cells #[Iv0 l,.string op,.iface d c,.iface a b] 235)) fun e w'=>e=bE (.tuple #[])/\P w')):
 Calls prog 130 #[bO cb,.iface 235 (.agg #[Iv0 l,.string op,.iface d c,.iface a b])] w fun e w'=>e=bE (.tuple #[])/\P w':=by
 have i:=wA;have m:=vZ;have q:=CL;have n:=tC;have p:=CJ;have o:=yW;have k:=yV;have j:=wB;go_in
 go_wp2_with fail;refine g.mono ?_;rintro e h ⟨rfl,f⟩;go_wp2
 go_end0;exact⟨rfl,f⟩
def qJ(w:aH)(cb n c:Nat)(l:Int)(s:ByteArray)(x:Option Addr)(P:World->Prop)
 (b:Hid (Calls prog 174 #[bO cb,.agg #[Iv0 l,.string s,.slice x n c]] (w.alloc (.cells #[Iv0 l,.string s,.slice x n c] 224)) fun e w'=>e=bE (.tuple #[])/\P w')):
 Calls prog 130 #[bO cb,.iface 224 (.agg #[Iv0 l,.string s,.slice x n c])] w fun e w'=>e=bE (.tuple #[])/\P w':=by
 have f:=CE;have i:=CD;have p:=JZ;have j:=vY;have m:=JX;have k:=EK;have h:=EJ;have g:=CF;have o:=JY;go_in
 go_wp2_with fail;refine b.mono ?_;rintro e d ⟨rfl,a⟩;go_wp2
 go_end0;exact⟨rfl,a⟩
def SM(w:aH)(cb g n d:Nat)(C:Nat->World->Prop)(x:n<=1000000)(k:C 0 w)
 (p:Hid (∀j W,C j W->j<n->g<W.heap.size/\∃t z,W.cell? (aL g j)=some (.iface t z)/\Calls prog 130 #[bO cb,.iface t z] W fun e w'=>e=bE (.tuple #[])/\C (j+1) w')):
 Calls prog 172 #[bO cb,.slice (some (aL g 0)) n d] w fun e w'=>e=bE (.tuple #[])/\C n w':=by
 have l:=aB k;clear k;go_in
 go_wp2_with fail;go_loopg [5,8] n (fun gk _ i wr=>∃j:Nat,j+gk=n/\i=Iv0 j/\C j wr)
 case atStart=>exact⟨0,by omega,rfl,l⟩
 case round=>
  obtain⟨j,A,rfl,b⟩:=hrel;by_cases c:j<n
  ·obtain⟨m,rfl⟩:∃m,gk=m+1:=⟨gk-1,by omega⟩
   obtain⟨s,t,z,v,a⟩:=p _ _ b c;have q:=aB a;have y:(0:Int)<=(j:Int):=by omega
   have u:(j:Int)<(n:Int):=by omega
   clear b a;go_wp2_with fail;refine q.mono ?_;rintro e r ⟨rfl,o⟩;go_wp2
   go_roundg m
   case measure=>omega
   case rel=>exact⟨j+1,by omega,by go_num,o⟩
  ·have f:j=n:=by omega
   subst f;have h:=aB b;clear b;go_wp2
   go_end0;exact⟨rfl,h⟩
def YA(w:aH)(cb:Nat):Calls prog 172 #[bO cb,bV] w fun e w'=>e=bE (.tuple #[])/\w'=w:=by
 go_in
 go_wp2_with fail;go_loopg [5,8] 0 (fun _ _ i wr=>i=Iv0 0/\wr=w)
 case atStart=>exact⟨rfl,rfl⟩
 case round=>
  obtain⟨rfl,rfl⟩:=hrel;go_wp2
  go_end0;exact⟨rfl,rfl⟩
def PA(w:aH)(cb n c:Nat)(l:Int)(x:Option Addr)(P Q:World->Prop)
 (h:Hid (Calls prog 172 #[bO cb,.slice x n c] (w.alloc (.cells #[Iv0 l,.string (bs [108,101,110]),.slice x n c] 224)) fun e w'=>e=bE (.tuple #[])/\Q w'))
 (f:Hid (∀W,Q W->W.cell? (aL w.heap.size 1)=some (.string (bs [108,101,110]))/\w.heap.size<W.heap.size))
 (g:Hid (∀W,Q W->Calls prog 149 #[bO cb,.iface 317 (.agg #[])] W fun e w'=>(∃k:Nat,e=bE (Iv0 k))/\P w')):
 Calls prog 174 #[bO cb,.agg #[Iv0 l,.string (bs [108,101,110]),.slice x n c]] w fun e w'=>e=bE (.tuple #[])/\P w':=by
 have p:((bs [108,101,110]).toList==[108,101,110])=true:=by rw[cF];rfl
 generalize bs [108,101,110]=r at*;go_in
 go_wp2_with fail;refine h.mono ?_;rintro e i ⟨rfl,b⟩;obtain⟨j,o⟩:=f _ b;have a:=aB (g _ b);clear b;go_wp2_with fail;refine a.mono ?_;rintro e q ⟨⟨m,rfl⟩,d⟩;go_wp2
 go_end0;exact⟨rfl,d⟩
def GL(w:aH)(cb n c:Nat)(l:Int)(x:Option Addr)(P Q:World->Prop)
 (h:Hid (Calls prog 172 #[bO cb,.slice x n c] (w.alloc (.cells #[Iv0 l,.string (bs [114,101,97,100]),.slice x n c] 224)) fun e w'=>e=bE (.tuple #[])/\Q w'))
 (f:Hid (∀W,Q W->W.cell? (aL w.heap.size 1)=some (.string (bs [114,101,97,100]))/\w.heap.size<W.heap.size))
 (g:Hid (∀W,Q W->Calls prog 149 #[bO cb,.iface 318 (.agg #[])] W fun e w'=>(∃k:Nat,e=bE (Iv0 k))/\P w')):
 Calls prog 174 #[bO cb,.agg #[Iv0 l,.string (bs [114,101,97,100]),.slice x n c]] w fun e w'=>e=bE (.tuple #[])/\P w':=by
 have q:((bs [114,101,97,100]).toList==[108,101,110])=false:=by rw[cF];rfl
 have o:((bs [114,101,97,100]).toList==[114,101,97,100])=true:=by rw[cF];rfl
 generalize bs [114,101,97,100]=s at*;go_in
 go_wp2_with fail;refine h.mono ?_;rintro e i ⟨rfl,b⟩;obtain⟨j,p⟩:=f _ b;have a:=aB (g _ b);clear b;go_wp2_with fail;refine a.mono ?_;rintro e r ⟨⟨m,rfl⟩,d⟩;go_wp2
 go_end0;exact⟨rfl,d⟩
def CR(w:aH)(cb n c g:Nat)(l:Int)(tx:cE)(x:Option Addr)(P Q:World->Prop)(a:tx≠[108,101,110])(d:tx≠[114,101,97,100])
 (p:Hid (Calls prog 172 #[bO cb,.slice x n c] (w.alloc (.cells #[Iv0 l,.string (bs tx),.slice x n c] 224)) fun e w'=>e=bE (.tuple #[])/\Q w'))
 (i:Hid (∀W,Q W->W.cell? (aL w.heap.size 1)=some (.string (bs tx))/\W.cell? (aL w.heap.size 2)=some (.slice x n c)/\w.heap.size<W.heap.size))
 (h:Hid (∀W b,Q W->aY W b->Calls prog 110 #[bO cb,.string (bs tx)] b fun e w'=>e=bE (bO g)/\w'=b))
 (o:Hid (∀W b,Q W->aY W b->Calls prog 149 #[bO cb,.iface 320 (.agg #[bO g,Iv0 n])] b fun e w'=>(∃k:Nat,e=bE (Iv0 k))/\P w')):
 Calls prog 174 #[bO cb,.agg #[Iv0 l,.string (bs tx),.slice x n c]] w fun e w'=>e=bE (.tuple #[])/\P w':=by
 have y:((bs tx).toList==[108,101,110])=false:=by rw[cF];simpa using a
 have u:((bs tx).toList==[114,101,97,100])=false:=by rw[cF];simpa using d
 clear a d;go_in
 go_wp2_with fail;refine p.mono ?_;rintro e q ⟨rfl,a⟩;obtain⟨r,v,t⟩:=i _ a;have f:=aB a;clear a;go_wp2_with fail;go_region_law (go_simp;first|(go_at_call 110;refine(h _ _ f (aY.drew _)).mono ?_;rintro e z ⟨rfl,rfl⟩)|(go_at_call 149;refine(o _ _ f (aY.drew _)).mono ?_;rintro e s ⟨⟨m,rfl⟩,j⟩))
 all_goals
  go_wp2
  go_end0;exact⟨rfl,j⟩
def KL(w:aH)(cb:Nat)(l:Int)(op:cE)(i c:TypeId)(g d:aQ)(P Q R:World->Prop)(b:op≠[38,38])(a:op≠[124,124])
 (r:Hid (Calls prog 130 #[bO cb,.iface i g] (w.alloc (.cells #[Iv0 l,.string (bs op),.iface i g,.iface c d] 235)) fun e w'=>e=bE (.tuple #[])/\Q w'))
 (n:Hid (∀W,Q W->W.cell? (aL w.heap.size 1)=some (.string (bs op))/\W.cell? (aL w.heap.size 3)=some (.iface c d)/\w.heap.size<W.heap.size))
 (o:Hid (∀W,Q W->Calls prog 130 #[bO cb,.iface c d] W fun e w'=>e=bE (.tuple #[])/\R w'))
 (j:Hid (∀W,R W->W.cell? (aL w.heap.size 1)=some (.string (bs op))/\w.heap.size<W.heap.size))
 (q:Hid (∀W,R W->Calls prog 149 #[bO cb,.iface 313 (.agg #[.string (bs op)])] W fun e w'=>(∃k:Nat,e=bE (Iv0 k))/\P w')):
 Calls prog 173 #[bO cb,.agg #[Iv0 l,.string (bs op),.iface i g,.iface c d]] w fun e w'=>e=bE (.tuple #[])/\P w':=by
 have C:((bs op).toList==[38,38])=false:=by rw[cF];simpa using b
 have A:((bs op).toList==[124,124])=false:=by rw[cF];simpa using a
 clear b a;generalize bs op=z at*;go_in
 go_wp2_with fail;refine r.mono ?_;rintro e s ⟨rfl,b⟩;obtain⟨u,B,x⟩:=n _ b;have h:=aB (o _ b);clear b;go_wp2_with fail;refine h.mono ?_;rintro e D ⟨rfl,a⟩;obtain⟨y,t⟩:=j _ a;have f:=aB (q _ a);clear a;go_wp2_with fail;refine f.mono ?_;rintro e v ⟨⟨m,rfl⟩,p⟩;go_wp2_with fail;exact⟨rfl,_,results_none (by rfl) _ _ _,rfl,p⟩
def KK(w:aH)(cb k:Nat)(l:Int)(b:Bool)(op:cE)(t h:TypeId)(q i:aQ)(P Q x R S:World->Prop)(a:op=if b then [124,124] else [38,38])
 (E:Hid (Calls prog 130 #[bO cb,.iface t q] (w.alloc (.cells #[Iv0 l,.string (bs op),.iface t q,.iface h i] 235)) fun e w'=>e=bE (.tuple #[])/\Q w'))
 (z:Hid (∀W,Q W->W.cell? (aL w.heap.size 1)=some (.string (bs op))/\w.heap.size<W.heap.size))
 (H:Hid (∀W,Q W->Calls prog 149 #[bO cb,.nilIface] W fun e w'=>e=bE (Iv0 k)/\x w'))
 (v:Hid (∀W,x W->W.cell? (aL w.heap.size 3)=some (.iface h i)/\w.heap.size<W.heap.size))
 (G:Hid (∀W,x W->Calls prog 130 #[bO cb,.iface h i] W fun e w'=>e=bE (.tuple #[])/\R w'))
 (K:Hid (∀W,R W->Calls prog 149 #[bO cb,.iface 314 (.agg #[])] W fun e w'=>(∃k:Nat,e=bE (Iv0 k))/\S w'))
 (f:Hid (∀W,S W->W.cell? (aL w.heap.size 1)=some (.string (bs op))/\w.heap.size<W.heap.size/\cb<W.heap.size/\∃g n c,W.cell? (aL cb 1)=some (.slice (some (aL g 0)) n c)/\k<n/\n<=1000000/\(∃u,W.cell? (aL g k)=some u)/\W.frozen? (aL g k)=false/\g<W.heap.size/\∀D,aY (W.setCell (aL g k) (.iface 316 (.agg #[.bool b,Iv0 n]))) D->P D)):
 Calls prog 173 #[bO cb,.agg #[Iv0 l,.string (bs op),.iface t q,.iface h i]] w fun e w'=>e=bE (.tuple #[])/\P w':=by
 have I:∃j:ByteArray,j=bs op/\(j.toList==[38,38])= !b/\(j.toList==[124,124])=b:=⟨bs op,rfl,by rw[cF,a];cases b<;>rfl,by rw[cF,a];cases b<;>rfl⟩
 obtain⟨j,B,J,e2⟩:=I;rw[<-B] at E z f ⊢
 clear B a;cases b
 all_goals
  simp only[Bool.not_true,Bool.not_false] at J;go_in
  go_wp2_with fail;refine E.mono ?_;rintro e M ⟨rfl,r⟩;obtain⟨N,b2⟩:=z _ r;have y:=aB (H _ r);clear r;go_wp2_with fail;refine y.mono ?_;rintro e w2 ⟨rfl,p⟩;obtain⟨Z,O⟩:=v _ p;have s:=aB (G _ p);clear p;go_wp2_with fail;refine s.mono ?_;rintro e U ⟨rfl,C⟩;have o:=aB (K _ C);clear C;go_wp2_with fail;refine o.mono ?_;rintro e L ⟨⟨m,rfl⟩,A⟩;obtain⟨Y,f2,f3,g,n,c,f4,f5,f6,⟨u,X⟩,T,f9,d⟩:=f _ A;have F:=aB d;have i1:(0:Int)<=(k:Int):=by omega
  have V:(k:Int)<(n:Int):=by omega
  clear A d;go_wp2_with fail;go_region
  all_goals
   go_wp2
   go_end0;exact⟨rfl,F _ (aY.drew _)⟩
def nF(c:aC->Nat->List aG):∀(l m:List aC) (p:Nat),bS c (l++m) p=bS c l p++bS c m (p+(bS c l p).length)
 |[],m,p=>by simp[bS]
 |a::l,m,p=>by
  rw[l9,bS,bS,nF c l m,m8,Y5,ay_]
def AS(c:aC->Nat->List aG)(a:aC)(p:Nat):bS c [a] p=c a p:=by simp[bS]
def LT(c:aC->Nat->List aG)(a b:aC)(p:Nat):bS c [a,b] p=c a p++c b (p+(c a p).length):=by simp[bS]
section
variable (fs:List aC) (seen:cO) (d:Nat) (a:aC) (p:Nat)
def YD(h:a.op=[48]):aF fs seen (d+1) a p=[.push (bD (((dK 0 a.text).getD 0:Nat):Int))]:=by rw[aF];simp[h]
def YC(h:a.op=[115]):aF fs seen (d+1) a p=[.push (bK a.text)]:=by rw[aF];simp[h]
def SO(h:a.op=[98,111,111,108]):aF fs seen (d+1) a p=[.push (bP (a.text==[116,114,117,101]))]:=by rw[aF];simp[h]
def YB(h:a.op=[110,97,109,101]):aF fs seen (d+1) a p=[.load (eE seen a.text)]:=by rw[aF];simp[h]
def SN(h:a.op=[108,105,115,116]):aF fs seen (d+1) a p=bS (aF fs seen d) a.kids p++[.list a.kids.length]:=by rw[aF];simp[h]
def NW(h:a.op=[105,110,100,101,120]):aF fs seen (d+1) a p=bS (aF fs seen d) a.kids p++[.index]:=by rw[aF];simp[h]
def NU(o:UInt8)(b:o=45\/o=33)(h:a.op=[o,120]):aF fs seen (d+1) a p=bS (aF fs seen d) a.kids p++[.unary [o]]:=by
 rw[aF];rcases b with rfl|rfl<;>simp[h]
def BV(h:a.op=[99,97,108,108]):aF fs seen (d+1) a p=bS (aF fs seen d) a.kids p++[if a.text==[108,101,110] then .length else if a.text==[114,101,97,100] then .read else .call (dD fs a.text) a.kids.length]:=by rw[aF];simp[h]
def NV(b:Bool)(l r:aC)(h:a.op=if b then [124,124] else [38,38])(c:a.kids=[l,r]):aF fs seen (d+1) a p=
 aF fs seen d l p++[.shortcut b (p+(aF fs seen d l p).length+1+(aF fs seen d r (p+(aF fs seen d l p).length+1)).length+1)]++aF fs seen d r (p+(aF fs seen d l p).length+1)++[.truth]:=by
 rw[aF];cases b<;>simp[h,c]
def JQ(h:cB a.op≠9)(b:a.op≠[38,38])(c:a.op≠[124,124]):aF fs seen (d+1) a p=bS (aF fs seen d) a.kids p++[.binary a.op]:=by
 rcases mQ h with e|e|e|e|e|e|e|e|e|e|e
 all_goals first|exact absurd e c|exact absurd e b|(rw[aF];simp[e])
end
def FE:∀(l:cE) (n k:Nat),n<=9223372036854775807->dK n l=some k->k<=9223372036854775807
 |[],n,k,b,h=>by rw[dK] at h;cases h;exact b
 |c::r,n,k,b,h=>by
  rw[dK] at h;split at h
  ·cases h
  ·rename_i a;refine FE r _ k ?_ h;have e:=ah_ c;have d:JE=9223372036854775807:=rfl;rw[d] at a;omega
section
variable {fp:fN} {fb:Nat->Nat} {nms:cO} {cb:Nat} {F:cC} {w w':aH} {code:List (Option aG)} {seen:cO}
def CP.patch{a b:List (Option aG)}(h:CP fp fb nms cb F w (a++none::b) seen):
 ∃g c,w.cell? (aL cb 1)=some (.slice (some (aL g 0)) (a++none::b).length c)/\(∃x,w.cell? (aL g a.length)=some x)/\w.frozen? (aL g a.length)=false/\g<w.heap.size/\
  ∀u i l,lC fp F w u i->aY (w.setCell (aL g a.length) u) l->CP fp fb nms cb F l (a++some i::b) seen/\FB cb cb w l:=by
 obtain⟨fv,cv,Z,A,⟨U,G,s⟩,O,P⟩:=h.blk;have K:=h.lt;have hl:(a++none::b).length=a.length+b.length+1:=by simp;omega
 rcases G.2 with ⟨_,I⟩|⟨g,c,q,rfl,I,t,L,T,H,N⟩
 ·omega
 have E:=aD t;have r:∃x,q[a.length]?=some x:=⟨_,Z0 (by rw[H];omega)⟩
 obtain⟨x,W⟩:=r;refine⟨g,c,aA A rfl,⟨x,aA t W⟩,aE t,E,fun u i l V p=>?_⟩
 have n:∀k,k≠g->l.heap[k]?=w.heap[k]?:=fun k n=>by rw[p.heap,Y6 _ _ _ _ n]
 have z:kW cb w=some g:=jA A;have y:l.heap[cb]?=_:=(n cb (by omega)).trans A
 have d:FB cb cb w l:=⟨⟨p.os.trans rfl,p.tape.trans rfl,p.output.trans rfl,by rw[p.heap];simp,fun k M=>n k (by omega)⟩,fun k _ _ s=>n k fun e=>s (by rw[z,e]),fun k e=>Y4 (by rw[nT (n cb (by omega))] at e;exact e)⟩
 have v:=h.fixed d;refine⟨h.step (xs':=U.set a.length u) d y ⟨by rw[x6,G.1];simp,Y3 ⟨g,c,q.setIfInBounds a.length u,by simp,I,by rw[p.heap];exact aT t,by simpa using L,T,by simpa using H,?_⟩⟩ ?_ (fA.keep v eD O) (P.keep v eD d.bel.size),d⟩
 ·rw[y7,az_,<-N];simp
 ·have C:=s.keep v eD;refine⟨by simp[s.1],fun j o f=>?_⟩
  by_cases J:j=a.length
  ·subst J;rw[j1 dH] at f;simp at f;subst f;exact⟨u,by rw[List.getElem?_set_self (by rw[s.1];omega)],lC.keep V v eD⟩
  ·have B:(a++none::b)[j]?=some o:=by
    rcases l6 j a.length with D|D
    ·rw[l7 D] at f ⊢;exact f
    ·rw[j1 D] at f ⊢
     obtain⟨m,X⟩:∃m,j-a.length=m+1:=⟨j-a.length-1,by omega⟩
     rw[X] at f ⊢
     simpa using f
   obtain⟨S,Y,Q⟩:=C.2 j o B;exact⟨S,by rw[List.getElem?_set_ne (fun e=>J e.symm)];exact Y,Q⟩
end
def gI(fp:fN)(fb:Nat->Nat)(nms:cO)(cb:Nat)(F:cC)(w:aH)(code:List (Option aG))(seen:cO)(w':aH):Prop:=
 CP fp fb nms cb F w' code seen/\FB cb cb w w'
def CY(fp:fN)(fb:Nat->Nat)(fs:List aC)(cb lo:Nat)(F:cC)(alone:Bool)(seen:cO)(d:Nat):Prop:=
 ∀(v:aQ) (a:aC) (code:List (Option aG)) (w:aH),CP fp fb (fs.map (·.text)) cb F w code seen->PN (Btw lo cb) w v a->Hs.ExOk fs alone seen d a->pG d a->code.length+(aF fs seen d a code.length).length<=1000000->
  Calls prog 130 #[bO cb,v] w fun e w'=>e=bE (.tuple #[])/\gI fp fb (fs.map (·.text)) cb F w (code++(aF fs seen d a code.length).map some) seen w'
section
variable {fp:fN} {fb:Nat->Nat} {fs:List aC} {cb lo:Nat} {F:cC} {alone:Bool} {seen:cO} {d:Nat}
def gI.then{w w1 w':aH}{b:cO}{a:List (Option aG)}(c:FB cb cb w w1)(h:gI fp fb b cb F w1 a seen w'):gI fp fb b cb F w a seen w':=⟨h.1,c.trans h.2⟩
def PKid.sliceC{F:cC}{w:aH}{v:aQ}{l:List aC}(h:PKid F w v l):∃x c,v=.slice x l.length c:=by
 rcases h.get with ⟨rfl,rfl⟩|⟨g,a,rfl,_⟩
 ·exact⟨none,0,rfl⟩
 ·exact⟨_,_,rfl⟩
def ExOk.op{fs:List aC}{c:Bool}{seen:cO}{d:Nat}{a:aC}(h:Hs.ExOk fs c seen (d+1) a):
 (∀k∈a.kids,Hs.ExOk fs c seen d k)/\(a.op=[110,97,109,101]->a.text∈seen)/\
   (a.op=[99,97,108,108]->a.text=[108,101,110]\/a.text=[114,101,97,100]\/(a.text≠[108,101,110]/\a.text≠[114,101,97,100]/\fW fs (dD fs a.text)=some a.kids.length)):=by
 have n:∀{l r:aC},a.kids=[l,r]->Hs.ExOk fs c seen d l->Hs.ExOk fs c seen d r->∀k∈a.kids,Hs.ExOk fs c seen d k:=fun e b f k g=>by
  rw[e] at g;simp at g;rcases g with rfl|rfl
  ·exact b
  ·exact f
 have m:∀{x y:cE} {p:Prop},a.op=x->x≠y->a.op=y->p:=fun t s u=>absurd (t.symm.trans u) s
 rcases h with ⟨b,j⟩|⟨b,j,f⟩|⟨b,f⟩|⟨b,l,r,j,f,i⟩|⟨b,l,j,f⟩|⟨b,f,i⟩|⟨b,l,r,j,f,i⟩
 ·refine⟨fun k g=>absurd g (by rw[j];simp),?_,?_⟩<;>rcases b with b|b|b<;>exact m b (by decide)
 ·exact⟨fun k g=>absurd g (by rw[j];simp),fun _=>f,m b (by decide)⟩
 ·exact⟨f,m b (by decide),m b (by decide)⟩
 ·exact⟨n j f i,m b (by decide),m b (by decide)⟩
 ·refine⟨fun k g=>?_,?_,?_⟩
  ·rw[j] at g;simp at g;rw[g];exact f
  all_goals rcases b with b|b<;>exact m b (by decide)
 ·refine⟨f,m b (by decide),fun _=>?_⟩
  rcases i with ⟨i,_⟩|⟨i,_⟩|⟨i,o,_,q⟩
  ·exact Y4 i
  ·exact Y3 (Y4 i)
  ·exact Y3 (Y3 ⟨i,o,q⟩)
 ·refine⟨n j f i,fun e=>?_,fun e=>?_⟩<;>(exfalso;rw[e] at b;exact b rfl)
def rA(H:CY fp fb fs cb lo F alone seen d)(v:aQ)(l:List aC)(b:List (Option aG))(w:aH)(h:CP fp fb (fs.map (·.text)) cb F w b seen)(J:PKid (Btw lo cb) w v l)(E:∀a∈l,Hs.ExOk fs alone seen d a)(y:∀a∈l,pG d a)(G:l.length<=1000000)(L:b.length+(bS (aF fs seen d) l b.length).length<=1000000):
 Calls prog 172 #[bO cb,v] w fun e w'=>e=bE (.tuple #[])/\gI fp fb (fs.map (·.text)) cb F w (b++(bS (aF fs seen d) l b.length).map some) seen w':=by
 rcases J.get with ⟨rfl,rfl⟩|⟨g,s,rfl,B,z,A,K⟩
 ·refine(YA w cb).mono ?_;rintro e w' ⟨rfl,rfl⟩;exact⟨rfl,by simpa [bS] using h,FB.refl _⟩
 ·refine(SM w cb g l.length s (fun j W=>j<=l.length/\gI fp fb (fs.map (·.text)) cb F w (b++(bS (aF fs seen d) (l.take j) b.length).map some) seen W) G ⟨n8 _,by simpa [bS] using h,FB.refl _⟩ (fun j W C n=>?_)).mono ?_
  ·obtain⟨_,q,f⟩:=C;obtain⟨u,I,i⟩:=K j n;obtain⟨T,D,rfl⟩:=i.form;have r:l.take (j+1)=l.take j++[l[j]]:=i6 n;have m:bS (aF fs seen d) (l.take (j+1)) b.length=bS (aF fs seen d) (l.take j) b.length++aF fs seen d l[j] (b.length+(bS (aF fs seen d) (l.take j) b.length).length):=by rw[r,nF,AS]
   have k:(bS (aF fs seen d) (l.take (j+1)) b.length).length<=(bS (aF fs seen d) l b.length).length:=by
    have e:l=l.take (j+1)++l.drop (j+1):=(l8 _ _).symm;have:=congrArg (fun x=>(bS (aF fs seen d) x b.length).length) e
    simp only[nF,Y5] at this;omega
   have o:(b++(bS (aF fs seen d) (l.take j) b.length).map some).length=b.length+(bS (aF fs seen d) (l.take j) b.length).length:=by simp
   refine⟨Y7 z f.bel.size,T,.agg D,by rw[f.bel.cell (p:=(aL g j)) B.2];exact I,(H _ l[j] _ W q (i.below f.bel) (E _ (e8 n)) (y _ (e8 n)) ?_).mono ?_⟩
   ·rw[o];rw[m,Y5] at k;omega
   ·rintro e w' ⟨t,c⟩;refine⟨t,n,?_⟩;rw[o] at c;rw[m,m6,<-m8];exact c.then f
  ·rintro e w' ⟨t,_,c⟩;rw[j7 dH] at c;exact⟨t,c⟩
def emits{c:cO}{w W:aH}{a:List (Option aG)}{u:aQ}{i:aG}(b:gI fp fb c cb F w a seen W)(h:lC fp F W u i)(j:a.length+1<=1000000):
 Calls prog 149 #[bO cb,u] W fun e w'=>(∃k:Nat,e=bE (Iv0 k))/\gI fp fb c cb F w (a++[some i]) seen w':=by
 refine(qK (o:=some i) b.1 h (by omega)).mono ?_
 rintro e w' ⟨d,g,f⟩;exact⟨⟨_,d⟩,g,b.2.trans f⟩
def BS(fs:List aC)(x:cE):(fs.map (·.text)).findIdx (fun y=>y==x)=dD fs x:=by
 unfold dD;induction fs with
 |nil=>rfl
 |cons f fs a=>simp only[b9,List.findIdx_cons,a]
def fV(a:List (Option aG))(c:List aG):(a++c.map some).length=a.length+c.length:=by simp
def TD(IH:CY fp fb fs cb lo F alone seen d)(bo:seen.length<=1000000)(bu:fs.length<=1000000)(ba:∀k,k<fs.length->fp k=bO (fb k)):CY fp fb fs cb lo F alone seen (d+1):=by
 intro v a j w h ca aw bv n;obtain⟨T,B,ps,rfl,cc,bq⟩:=ca.parts;obtain⟨au,ap,C⟩:=bv;have H:=ExOk.op aw;obtain⟨X,af⟩:=h.new (.cells B T)
 have E:∀p∈ps,Prt.ok (Btw lo cb) (w.alloc (.cells B T)) p:=fun p Z=>by
  rcases bq p Z with ⟨A,b,h2,h3⟩|⟨A,h2⟩
  ·exact Y4 ⟨A,b,h2,h3.below X.fb.bel⟩
  ·exact Y3 ⟨A,PKid.below h2 X.fb.bel⟩
 have ab:∀{W:aH} {c:List (Option aG)},gI fp fb (fs.map (·.text)) cb F (w.alloc (.cells B T)) c seen W->W.heap[w.heap.size]?=some (.cells B T (0,0)):=fun u=>(X.step u.2).blk
 have I:∀{c:List (Option aG)} {e:Ending} {W:aH},(e=bE (.tuple #[])/\gI fp fb (fs.map (·.text)) cb F (w.alloc (.cells B T)) c seen W)->(e=bE (.tuple #[])/\gI fp fb (fs.map (·.text)) cb F w c seen W):=fun m=>⟨m.1,m.2.then X.fb⟩
 have G:gI fp fb (fs.map (·.text)) cb F (w.alloc (.cells B T)) j seen (w.alloc (.cells B T)):=⟨af,FB.refl _⟩
 have ce:(w.alloc (.cells B T)).heap.size=w.heap.size+1:=by simp
 have am:∀{W:aH} {v:aQ} {k:aC} {c:List (Option aG)},gI fp fb (fs.map (·.text)) cb F (w.alloc (.cells B T)) c seen W->Prt.ok (Btw lo cb) (w.alloc (.cells B T)) ⟨v,[k],true⟩->Hs.ExOk fs alone seen d k->pG d k->c.length+(aF fs seen d k c.length).length<=1000000->
  Calls prog 130 #[bO cb,v] W fun e P=>e=bE (.tuple #[])/\gI fp fb (fs.map (·.text)) cb F (w.alloc (.cells B T)) (c++(aF fs seen d k c.length).map some) seen P:=fun u Z hx hl hn=>
  (IH _ _ _ _ u.1 (Z.one'.below u.2.bel) hx hl hn).mono fun e P m=>⟨m.1,m.2.then u.2⟩
 have ag:∀{W:aH} {v:aQ} {l:List aC} {c:List (Option aG)},gI fp fb (fs.map (·.text)) cb F (w.alloc (.cells B T)) c seen W->Prt.ok (Btw lo cb) (w.alloc (.cells B T)) ⟨v,l,false⟩->(∀k∈l,Hs.ExOk fs alone seen d k)->(∀k∈l,pG d k)->l.length<=1000000->c.length+(bS (aF fs seen d) l c.length).length<=1000000->
  Calls prog 172 #[bO cb,v] W fun e P=>e=bE (.tuple #[])/\gI fp fb (fs.map (·.text)) cb F (w.alloc (.cells B T)) (c++(bS (aF fs seen d) l c.length).map some) seen P:=fun u Z hx hl bw hn=>
  (rA IH _ _ _ _ u.1 (Z.many.below u.2.bel) hx hl bw hn).mono fun e P m=>⟨m.1,m.2.then u.2⟩
 rcases cc with ⟨rfl,k,rfl,s,av,r,rfl⟩|⟨rfl,rfl,s,r,rfl⟩|⟨rfl,rfl,s,r,rfl⟩|⟨rfl,sv,rfl,s,rfl⟩|⟨rfl,sv,rfl,s,rfl⟩|⟨rfl,rfl,s,r,rfl⟩|⟨rfl,l,v1,v2,S,a2,rfl,s,r,rfl⟩|⟨rfl,o,v1,S,rfl,bk,s,r,rfl⟩|⟨rfl,l,v1,v2,S,a2,rfl,s,r,rfl⟩|aj
 ·-- a number
  rw[YD fs seen d a _ s,av] at n ⊢
  have hk:=FE _ _ _ (by omega) av
  exact(rX w cb a.line k _ (emits (i:=.push (bD k)) G ⟨_,rfl,PV.num _ _ _ (by omega) (by omega),by rw[kD];omega⟩ (by simp at n;omega))).mono fun _ _=>I
 ·rw[YC fs seen d a _ s] at n ⊢
  exact(EE w cb a.line _ _ (emits (i:=.push (bK a.text)) G ⟨_,rfl,PV.str _ _ _,by rw[kP];have:=(au s).1;omega⟩ (by simp at n;omega))).mono fun _ _=>I
 ·rw[SO fs seen d a _ s] at n ⊢
  exact(NY w cb a.line _ _ (emits (i:=.push (bP (a.text==[116,114,117,101]))) G ⟨_,rfl,PV.tru _ _ _,by rw[lM];omega⟩ (by simp at n;omega))).mono fun _ _=>I
 ·-- a list
  rw[SN fs seen d a _ s] at n ⊢
  rw[Y5,s5] at n;have D:=H.1;have Z:=E ⟨sv,a.kids,false⟩ (by simp)
  obtain⟨x,c,rfl⟩:=Z.many.sliceC;refine(NX w cb a.kids.length c a.line x _ _ (ag G Z D C ap (by omega)) (fun W m=>⟨aA (ab m) rfl,aD (ab m)⟩) (fun W m=>emits (i:=.list a.kids.length) m rfl (by rw[fV];omega))).mono ?_
  intro e W m;rw[m6,<-m8];exact I m
 ·-- a call
  rw[BV fs seen d a _ s] at n ⊢
  rw[Y5,s5] at n;have D:=H.1;have ao:=H.2.2 s;have Z:=E ⟨sv,a.kids,false⟩ (by simp)
  obtain⟨x,c,rfl⟩:=Z.many.sliceC;obtain⟨z,V⟩:=af.new (.cells #[Iv0 a.line,.string (bs a.text),.slice x a.kids.length c] 224);generalize N:w.alloc (.cells #[Iv0 a.line,.string (bs a.text),.slice x a.kids.length c] 224)=q at*;have Y:gI fp fb (fs.map (·.text)) cb F q j seen (q.alloc (.cells #[Iv0 a.line,.string (bs a.text),.slice x a.kids.length c] 224)):=⟨V,z.fb⟩
  have hx:=ag Y Z D C ap (by omega)
  have cd:q.heap.size<q.heap.size+1:=k9 _;have bj:∀{W:aH},FB cb cb (q.alloc (.cells #[Iv0 a.line,.string (bs a.text),.slice x a.kids.length c] 224)) W->W.heap[q.heap.size]?=some (.cells #[Iv0 a.line,.string (bs a.text),.slice x a.kids.length c] 224 (0,0)):=fun bx=>(z.step bx).blk
  have M:Calls prog 172 #[bO cb,.slice x a.kids.length c] (q.alloc (.cells #[Iv0 a.line,.string (bs a.text),.slice x a.kids.length c] 224)) fun e P=>e=bE (.tuple #[])/\(gI fp fb (fs.map (·.text)) cb F q (j++(bS (aF fs seen d) a.kids j.length).map some) seen P/\P.heap[q.heap.size]?=some (.cells #[Iv0 a.line,.string (bs a.text),.slice x a.kids.length c] 224 (0,0))):=by
   refine(rA IH _ _ _ _ V (Z.many.below z.fb.bel) D C ap (by omega)).mono ?_
   rintro e P ⟨he,u⟩;exact⟨he,u.then z.fb,bj u.2⟩
  have ae:∀{i:aG} {e:Ending} {W:aH},(e=bE (.tuple #[])/\gI fp fb (fs.map (·.text)) cb F q ((j++(bS (aF fs seen d) a.kids j.length).map some)++[some i]) seen W)->e=bE (.tuple #[])/\gI fp fb (fs.map (·.text)) cb F w (j++(bS (aF fs seen d) a.kids j.length++[i]).map some) seen W:=fun m=>by
   rw[m6,<-m8];exact I m
  have ak:(j++(bS (aF fs seen d) a.kids j.length).map some).length+1<=1000000:=by rw[fV];omega
  rcases ao with ai|ai|⟨bc,bd,ah⟩
  ·rw[ai] at M N ⊢
   refine(qJ w cb a.kids.length c a.line _ x (fun W=>gI fp fb (fs.map (·.text)) cb F q ((j++(bS (aF fs seen d) a.kids j.length).map some)++[some .length]) seen W) (by rw[N];exact PA q cb a.kids.length c a.line x _ _ M (fun W m=>⟨aA m.2 rfl,aD m.2⟩) (fun W m=>emits (i:=.length) m.1 rfl ak))).mono ?_
   intro e W m;exact ae m
  ·rw[ai] at M N ⊢
   refine(qJ w cb a.kids.length c a.line _ x (fun W=>gI fp fb (fs.map (·.text)) cb F q ((j++(bS (aF fs seen d) a.kids j.length).map some)++[some .read]) seen W) (by rw[N];exact GL q cb a.kids.length c a.line x _ _ M (fun W m=>⟨aA m.2 rfl,aD m.2⟩) (fun W m=>emits (i:=.read) m.1 rfl ak))).mono ?_
   intro e W m;exact ae m
  ·have al:dD fs a.text<fs.length:=by
    unfold fW at ah;cases hf:fs[dD fs a.text]? with
    |none=>rw[hf] at ah;cases ah
    |some f=>exact(j4.1 hf).1
   have az:a.text∈fs.map (·.text):=by
    have h9:=al;unfold dD at h9;have:=af_ (w:=h9);exact ac_.2 ⟨_,e8 h9,by simpa using this⟩
   have e1:(a.text==[108,101,110])=false:=by simpa using bc
   have e2:(a.text==[114,101,97,100])=false:=by simpa using bd
   rw[e1,e2];refine(qJ w cb a.kids.length c a.line _ x (fun W=>gI fp fb (fs.map (·.text)) cb F q ((j++(bS (aF fs seen d) a.kids j.length).map some)++[some (.call (dD fs a.text) a.kids.length)]) seen W) ?_).mono ?_
   ·rw[N];refine CR q cb a.kids.length c (fb (dD fs a.text)) a.line a.text x _ _ bc bd M (fun W m=>⟨aA m.2 rfl,aA m.2 rfl,aD m.2⟩) (fun W W' m hS=>?_) (fun W W' m hS=>?_)
    ·refine(sH a.text (m.1.1.grow hS.below) az (by simpa using bu)).mono ?_
     rintro e P ⟨he,bm⟩;rw[BS,ba _ al] at he;exact⟨he,bm⟩
    ·have bt:gI fp fb (fs.map (·.text)) cb F q (j++(bS (aF fs seen d) a.kids j.length).map some) seen W':=⟨m.1.1.grow hS.below,m.1.2.trans (FB.of_lt hS.below m.1.1.lt)⟩
     exact emits (i:=.call (dD fs a.text) a.kids.length) bt (by show _=_;rw[ba _ al]) ak
   ·intro e W m;exact ae m
 ·-- a variable
  rw[YB fs seen d a _ s] at n ⊢
  have hm:=H.2.1 s;exact(yQ w cb a.line _ (eE seen a.text) _ (LQ a.text af hm bo) (emits (i:=.load (eE seen a.text)) G rfl (by simp at n;omega))).mono fun _ _=>I
 ·-- an index
  rw[NW fs seen d a _ s,r,LT] at n ⊢
  rw[Y5,Y5,s5] at n;have D:=H.1;have L:=E ⟨v1,[S],true⟩ (by simp)
  have ac:=E ⟨v2,[a2],true⟩ (by simp)
  obtain⟨T1,Q,rfl⟩:=L.one'.form;obtain⟨T2,U,rfl⟩:=ac.one'.form;refine(JS w cb l T1 T2 _ _ _ _ _ (am G L (D S (by rw[r];simp)) (C S (by rw[r];simp)) (by omega)) (fun W m=>⟨aA (ab m) rfl,aD (ab m)⟩) (fun W m=>am m ac (D a2 (by rw[r];simp)) (C a2 (by rw[r];simp)) (by rw[fV];omega)) (fun W m=>emits (i:=.index) m rfl (by simp only[fV];omega))).mono ?_
  intro e W m;rw[fV] at m;rw[m6,m6,<-m8,<-m8];exact I m
 ·-- one operand
  rw[NU fs seen d a _ o bk s,r,AS] at n ⊢
  rw[Y5,s5] at n;have D:=H.1;have L:=E ⟨v1,[S],true⟩ (by simp)
  obtain⟨T1,Q,rfl⟩:=L.one'.form;refine(JR w cb a.line _ T1 _ _ _ (am G L (D S (by rw[r];simp)) (C S (by rw[r];simp)) (by omega)) (fun W m=>⟨aA (ab m) rfl,aD (ab m)⟩) (fun W m=>emits (i:=.unary [o]) m rfl (by rw[fV];omega))).mono ?_
  intro e W m;rw[m6,<-m8];exact I m
 ·-- two operands
  have D:=H.1;have L:=E ⟨v1,[S],true⟩ (by simp)
  have ac:=E ⟨v2,[a2],true⟩ (by simp)
  obtain⟨T1,Q,rfl⟩:=L.one'.form;obtain⟨T2,U,rfl⟩:=ac.one'.form;have bf:=D S (by rw[r];simp)
  have M:=D a2 (by rw[r];simp)
  have ax:=C S (by rw[r];simp)
  have bb:=C a2 (by rw[r];simp)
  generalize J:(#[Iv0 (l:Nat),.string (bs a.op),.iface T1 (.agg Q),.iface T2 (.agg U)]:Array Value)=B at*;obtain⟨z,V⟩:=af.new (.cells B 235);have Y:gI fp fb (fs.map (·.text)) cb F (w.alloc (.cells B 235)) j seen ((w.alloc (.cells B 235)).alloc (.cells B 235)):=⟨V,z.fb⟩
  generalize N:w.alloc (.cells B 235)=q at*
  have aa:∀{W:aH} {v:aQ} {k:aC} {c:List (Option aG)},(gI fp fb (fs.map (·.text)) cb F q c seen W/\Loc cb cb q q.heap.size (.cells B 235) W)->Prt.ok (Btw lo cb) q ⟨v,[k],true⟩->Hs.ExOk fs alone seen d k->pG d k->c.length+(aF fs seen d k c.length).length<=1000000->
   Calls prog 130 #[bO cb,v] W fun e P=>e=bE (.tuple #[])/\(gI fp fb (fs.map (·.text)) cb F q (c++(aF fs seen d k c.length).map some) seen P/\Loc cb cb q q.heap.size (.cells B 235) P):=fun u Z hx hl hn=>
   (IH _ _ _ _ u.1.1 (Z.one'.below u.1.2.bel) hx hl hn).mono fun e P m=>⟨m.1,m.2.then u.1.2,u.2.step m.2.2⟩
  have t:∀{W:aH},Loc cb cb q q.heap.size (.cells B 235) W->W.cell? (aL q.heap.size 1)=some (.string (bs a.op))/\W.cell? (aL q.heap.size 3)=some (.iface T2 (.agg U))/\q.heap.size<W.heap.size:=fun hL=>⟨aA hL.blk (by rw[<-J];rfl),aA hL.blk (by rw[<-J];rfl),aD hL.blk⟩
  by_cases ad:a.op=[38,38]\/a.op=[124,124]
  ·obtain⟨b,hb⟩:∃b:Bool,a.op=if b then [124,124] else [38,38]:=by
    rcases ad with e|e
    ·exact⟨false,e⟩
    ·exact⟨true,e⟩
   rw[NV fs seen d a _ b S a2 hb r] at n ⊢
   generalize bi:aF fs seen d S j.length=K at*;generalize bh:aF fs seen d a2 (j.length+K.length+1)=cr at*;simp only[Y5,s5] at n
   have O:=KK q cb (j.length+K.length) l b a.op T1 T2 (.agg Q) (.agg U) (fun W=>gI fp fb (fs.map (·.text)) cb F q (j++K.map some++some (.shortcut b (j.length+K.length+1+cr.length+1))::(cr.map some++[some .truth])) seen W)
    (fun W=>gI fp fb (fs.map (·.text)) cb F q (j++K.map some) seen W/\Loc cb cb q q.heap.size (.cells B 235) W)
    (fun W=>gI fp fb (fs.map (·.text)) cb F q (j++K.map some++[none]) seen W/\Loc cb cb q q.heap.size (.cells B 235) W)
    (fun W=>gI fp fb (fs.map (·.text)) cb F q (j++K.map some++[none]++cr.map some) seen W/\Loc cb cb q q.heap.size (.cells B 235) W)
    (fun W=>gI fp fb (fs.map (·.text)) cb F q (j++K.map some++[none]++cr.map some++[some .truth]) seen W/\Loc cb cb q q.heap.size (.cells B 235) W) hb
    (by
      rw[J];have:=aa (c:=j) ⟨Y,z⟩ L bf ax (by rw[bi];omega)
      rw[bi] at this;exact this)
    (fun W m=>⟨(t m.2).1,(t m.2).2.2⟩)
    (fun W m=>(qK (o:=none) m.1.1 rfl (by rw[fV];omega)).mono fun e P hr=>⟨by rw[hr.1,fV],⟨hr.2.1,m.1.2.trans hr.2.2⟩,m.2.step hr.2.2⟩)
    (fun W m=>⟨(t m.2).2.1,(t m.2).2.2⟩)
    (fun W m=>by
      have ay:(j++K.map some++[none]).length=j.length+K.length+1:=by simp;omega
      have:=aa m ac M bb (by rw[ay,bh];omega)
      rw[ay,bh] at this;exact this)
    (fun W m=>(qK (o:=some .truth) m.1.1 rfl (by simp;omega)).mono fun e P hr=>⟨⟨_,hr.1⟩,⟨hr.2.1,m.1.2.trans hr.2.2⟩,m.2.step hr.2.2⟩)
    (fun W m=>by
      obtain⟨⟨aq,bp⟩,hL⟩:=m;have e0:j++K.map some++[none]++cr.map some++[some aG.truth]=(j++K.map some)++none::(cr.map some++[some aG.truth]):=by simp
      rw[e0] at aq;have bn:=aq.lt;obtain⟨g,c,p1,p2,p3,p4,p5⟩:=aq.patch;have br:(j++K.map some).length=j.length+K.length:=fV _ _;have bz:((j++K.map some)++none::(cr.map some++[some aG.truth])).length=j.length+K.length+1+cr.length+1:=by simp;omega
      rw[br] at p2 p3 p5;rw[bz] at p1;refine⟨(t hL).1,(t hL).2.2,bn,g,_,c,p1,by omega,by omega,p2,p3,p4,fun W' hS=>?_⟩
      obtain⟨q1,q2⟩:=p5 _ (.shortcut b (j.length+K.length+1+cr.length+1)) W' rfl hS;exact⟨q1,bp.trans q2⟩)
   rw[J] at O;rw[<-J];refine(rY w cb l (bs a.op) T1 T2 (.agg Q) (.agg U) _ (by rw[J,N];exact O)).mono ?_
   intro e W m;have e9:j++(K++[aG.shortcut b (j.length+K.length+1+cr.length+1)]++cr++[aG.truth]).map some=j++K.map some++some (.shortcut b (j.length+K.length+1+cr.length+1))::(cr.map some++[some .truth]):=by simp
   rw[e9];exact I m
  ·have ar:a.op≠[38,38]:=fun e=>ad (Y4 e)
   have bg:a.op≠[124,124]:=fun e=>ad (Y3 e)
   rw[JQ fs seen d a _ s ar bg,r,LT] at n ⊢
   simp only[Y5,s5] at n
   have O:=KL q cb l a.op T1 T2 (.agg Q) (.agg U) (fun W=>gI fp fb (fs.map (·.text)) cb F q (j++(aF fs seen d S j.length).map some++(aF fs seen d a2 (j.length+(aF fs seen d S j.length).length)).map some++[some (.binary a.op)]) seen W) _ _ ar bg
    (by rw[J];exact aa (c:=j) ⟨Y,z⟩ L bf ax (by omega))
    (fun W m=>t m.2)
    (fun W m=>aa m ac M bb (by rw[fV];omega))
    (fun W m=>⟨(t m.2).1,(t m.2).2.2⟩)
    (fun W m=>by
      obtain⟨be,cf⟩:=m;rw[fV] at be;exact emits (i:=.binary a.op) be rfl (by simp only[fV];omega))
   rw[J] at O;rw[<-J];refine(rY w cb l (bs a.op) T1 T2 (.agg Q) (.agg U) _ (by rw[J,N];exact O)).mono ?_
   intro e W m;rw[m6,m6,<-m8,<-m8];exact I m
 ·-- no expression
  exfalso
  have bl:∀x∈([[118,97,114],[115,101,116],[105,102],[119,104,105,108,101],[114,101,116,117,114,110],[112,114,105,110,116],[100,111]]:cO),a.op≠x:=fun x hx e=>by
   have hc:∀y∈([[48],[115],[98,111,111,108],[110,97,109,101],[108,105,115,116],[105,110,100,101,120],[45,120],[33,120],[99,97,108,108],[124,124],[38,38],[61,61],[33,61],[60],[60,61],[43],[45],[42],[47],[37]]:cO),a.op≠y:=fun y hy e2=>by
    rw[e] at e2;subst e2;simp at hx hy;rcases hx with rfl|rfl|rfl|rfl|rfl|rfl|rfl<;>simp at hy
   rcases aw with ⟨A,_⟩|⟨A,_⟩|⟨A,_⟩|⟨A,_⟩|⟨A,_⟩|⟨A,_⟩|⟨A,_⟩
   ·rcases A with A|A|A<;>exact hc _ (by simp) A
   ·exact hc _ (by simp) A
   ·exact hc _ (by simp) A
   ·exact hc _ (by simp) A
   ·rcases A with A|A<;>exact hc _ (by simp) A
   ·exact hc _ (by simp) A
   ·rcases mQ A with e|e|e|e|e|e|e|e|e|e|e<;>exact hc _ (by simp) e
  rcases aj with ⟨_,_,_,_,_,A,_⟩|⟨_,_,_,_,_,_,A,_⟩|⟨_,_,_,_,_,_,A,_⟩|⟨_,_,_,_,_,_,_,_,A,_⟩|⟨_,_,_,_,_,_,A,_⟩|⟨_,_,_,A,_⟩|⟨_,_,_,_,A,_⟩|⟨_,_,_,_,A,_⟩|⟨_,_,_,_,A,_⟩
  all_goals exact bl _ (by simp) A
def rC(c:seen.length<=1000000)(a:fs.length<=1000000)(b:∀k,k<fs.length->fp k=bO (fb k)):∀d,CY fp fb fs cb lo F alone seen d
 |0=>fun _ _ _ _ _ _ h=>h.elim
 |d+1=>TD (rC c a b d) c a b
end
end Go.Proofs.YtddnpoiiimjpcaaGreatDoor
