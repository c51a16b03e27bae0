/- Contracts of the program: a fault is caught, whatever is done (2 variables are shared with it). -/
import Derived.Test.YtlflgmdcghfngaaGreatDoorP14
set_option linter.defProp false
set_option maxRecDepth 100000
set_option maxHeartbeats 4000000
namespace Go.Proofs.YtlflgmdcghfngaaGreatDoor
open Hs
open _root_.Go.Proofs.Tryz
open Instr(typeAssert)
open Go.RowKit
variable{fs:List aE}{d:Nat}{w w':aG}
def sZ(a:Nat)(p q:Option Addr)(w:aG)(Q:World->Prop)(E:Nat->Nat->Prop)
 (c:∀W,(callFunc a #[.pointer p,.pointer q]).run prog W=.ok (.enter a #[.pointer p,.pointer q]) W)
 (u:∀m,m=(w.alloc (.cells #[I_ 0] 39)).alloc (.cells #[I_ 0] 3)->Calls prog a #[.pointer p,.pointer q] m λe w'=>
   (e=aX (.tuple #[])/\w'.heap[w.heap.size]?=some (.cells #[I_ 0] 39 (0,0))/\w'.heap[w.heap.size+1]?=some (.cells #[I_ 0] 3 (0,0))/\Q w')\/
   ∃k n,k≠0/\e=.panicked [{ v:=.iface 104 (.agg #[I_ (k:Nat),I_ (n:Nat)]),recovered:=false }]/\Below m.heap.size m w'/\E k n):
 Calls prog 28 #[.func (.func a) #[] #[.pointer p,.pointer q]] w λe w'=>
  (e=aX (.tuple #[I_ 0,I_ 0])/\∃d,Q d/\w'=(d.setCell (aH w.heap.size 0) (I_ 0)).setCell (aH (w.heap.size+1) 0) (I_ 0))\/
  ∃k n,k≠0/\e=aX (.tuple #[I_ (k:Nat),I_ (n:Nat)])/\Below w.heap.size w w'/\E k n:=by
 have C:=vZ;have l:Below w.heap.size w ((w.alloc (.cells #[I_ 0] 39)).alloc (.cells #[I_ 0] 3)):=((eh _ w).alloc cL _).alloc s_ _
 have z:=aB (u _ rfl);have H:=c ((w.alloc (.cells #[I_ 0] 39)).alloc (.cells #[I_ 0] 3));clear u c;go_enter_defers func28,ntmps28
 go_wp2_with fail;refine z.mono ?_;rintro e d (⟨rfl,h,g,x⟩|⟨k,n,y,rfl,b,A⟩)
 ·have D:=aB x;clear x;have o:=kS h (i:=0) rfl;have r:=kS g (i:=0) rfl;have J:=mN (i:=0) h;have K:=mN (i:=0) g;have L:=pN h;have M:=pN g;go_wp2_with fail;refine leaves_cons (f:=55) (args:= #[aZ w.heap.size,aZ (w.heap.size+1)]) s_ (by simp[go_sem]) ?_
  refine(IA (aH w.heap.size 0) (aH (w.heap.size+1) 0) _).mono ?_;rintro e G I ⟨rfl,rfl,rfl⟩;simp[Leaves,settle,results,results28,go_sem,o,r];exact d7 ⟨d,D,rfl⟩
 ·have h:d.heap[w.heap.size]?=some (.cells #[I_ 0] 39 (0,0)):=by rw[b.block _ t_];exact iF _ _ _
  have g:d.heap[w.heap.size+1]?=some (.cells #[I_ 0] 3 (0,0)):=by rw[b.block _ s_];exact fR _ _ _
  have F:Below w.heap.size w d:=l.trans (b.mono t_)
  have B:=aB (ff y A);clear b l z A y;go_wp2_with fail;refine leaves_cons (f:=55) (args:= #[aZ w.heap.size,aZ (w.heap.size+1)]) s_ (by simp[go_sem]) ?_
  refine(BD w.heap.size (w.heap.size+1) k n [] _ h g (gj _)).mono ?_;rintro e G m ⟨rfl,rfl,t,o,r⟩;have s:=F.trans t;simp[Leaves,settle,results,results28,go_sem,o,r];obtain⟨j,rfl⟩:∃j,k=j+1:=⟨k-1,by have:=B.1;omega⟩
  exact d6 ⟨j,n,⟨s_,rfl⟩,s,B.2⟩
def FB.of_lt{cb:Nat}(h:Below w.heap.size w w')(a:cb<w.heap.size):FB cb cb w w':=FB.of_below h ⟨a,cL⟩
def VX(fp:eK)(F:bY)(w:aG)(xs:List Value)(code:List (Option aI)):Prop:=
 xs.length=code.length/\∀(i:Nat) o,code[i]?=some o->∃u,xs[i]?=some u/\(match o with|none=>u=.nilIface|some i=>lN fp F w u i)
def VX.keep{fp:eK}{F G:bY}{xs:List Value}{a:List (Option aI)}(h:VX fp F w xs a)(d:∀b,F b->w'.heap[b]?=w.heap[b]?)(g:∀b,F b->G b):VX fp G w' xs a:=
 ⟨h.1,λi o e=>by
   obtain⟨u,f,c⟩:=h.2 i o e;refine⟨u,f,?_⟩;cases o with
   |none=>exact c
   |some j=>exact lN.keep c d g⟩
def MV(fp:eK)(fb:Nat->Nat)(nms:cN)(F:bY)(w:aG)(fv:aQ):Prop:=
 (nms=[]/\fv=bG)\/∃g cap,fv=.slice (some (aH g 0)) nms.length cap/\F g/\nms.length<=cap/\g<w.heap.size/\∀k (h:k<nms.length),w.cell? (aH g k)=some (fp k)/\fp k=aZ (fb k)/\F (fb k)/\∃x,w.heap[fb k]?=some (.cells #[.string (bs nms[k]),x] 130 (0,0))
def MV.keep{fp:eK}{fb:Nat->Nat}{a:cN}{F G:bY}{l:aQ}(h:MV fp fb a F w l)(f:∀b,F b->w'.heap[b]?=w.heap[b]?)(i:∀b,F b->G b)(r:w.heap.size<=w'.heap.size):MV fp fb a G w' l:=by
 rcases h with h|⟨g,d,n,e,q,m,o⟩
 ·exact d7 h
 ·refine d6 ⟨g,d,n,i g e,q,ej m r,λk c=>?_⟩
  obtain⟨s,p,j,x,t⟩:=o k c;exact⟨by rw[World.cell?_of_block (f g e)];exact s,p,i _ j,x,by rw[f _ j];exact t⟩
structure CP(fp:eK)(fb:Nat->Nat)(nms:cN)(cb:Nat)(F:bY)(w:aG)(code:List (Option aI))(e_:cN):Prop where
 blk:∃fv cv sp,w.heap[cb]?=some (.cells #[fv,cv,sp] 177 (0,0))/\(∃xs,w.ownsRow (cb+1) 228 1 cv code.length xs/\VX fp F w xs code)/\eF F w sp e_/\MV fp fb nms F w fv
 fix:∀k,F k->k<w.heap.size/\k≠cb/\lS cb w≠some k
section
variable {fp:eK} {fb:Nat->Nat} {nms:cN} {cb:Nat} {F:bY} {w w':aG} {code:List (Option aI)} {e_:cN}
def CP.lt(h:CP fp fb nms cb F w code e_):cb<w.heap.size:=by
 obtain⟨_,_,_,a,_⟩:=h.blk;exact aC a
def jF{a v1 v2:aQ}(h:w.heap[cb]?=some (.cells #[a,v1,v2] 177 (0,0))):lS cb w=v1.ownBlock:=by unfold lS;rw[h];rfl
def CP.grow(h:CP fp fb nms cb F w code e_)(a:Below w.heap.size w w'):CP fp fb nms cb F w' code e_:=by
 have c:=h.lt;obtain⟨t,i,f,m,⟨p,g,q⟩,l,n⟩:=h.blk;have d:∀b,F b->w'.heap[b]?=w.heap[b]?:=λb e=>a.block b (h.fix b e).1
 refine⟨⟨t,i,f,by rw[a.block _ c];exact m,⟨p,iO g a,q.keep d dP⟩,eF.keep d dP l,n.keep d dP a.size⟩,λk j=>?_⟩
 obtain⟨r,o,s⟩:=h.fix k j;exact⟨ej r a.size,o,by rw[pW (a.block cb c)];exact s⟩
def CP.new(h:CP fp fb nms cb F w code e_)(o:Obj):Loc cb cb w w.heap.size o (w.alloc o)/\CP fp fb nms cb F (w.alloc o) code e_:=by
 have a:=h.lt;have b:Below w.heap.size w (w.alloc o):=(eh _ _).alloc cL _;refine⟨⟨FB.of_lt b a,aN _ _ rfl _,λe=>?_,o_⟩,h.grow b⟩
 obtain⟨i,j,f,d,⟨g,c,_⟩,_⟩:=h.blk;rw[pW (b.block cb a),jF d] at e;have:=cQ c _ e;omega
def bZ_:(prog.info? 228).map (λi=>(i.zero,i.size,i.bytes))=some (some .nilIface,1,16):=k_
def ah_(w:aG)(u:aQ):∀j v,([u]:List Value)[j]?=some v->(w.alloc (.cells #[u] 228)).cell? ((⟨w.heap.size,0,none⟩:Addr).add j)=some v:=by
 intro j v a;match j,a with
 |0,a=>simp at a;subst a;simp[Addr.add,go_sem]
 |j+1,a=>simp at a
def cz_(fp:eK)(F:bY)(w:aG)(u:aQ):Option aI->Prop
 |none=>u=.nilIface
 |some i=>lN fp F w u i
def cz_.one{u:aQ}{o:Option aI}(h:cz_ fp F w u o):u.oneCell'=true/\(u=.nilIface\/∃t z,u=.iface t z):=by
 cases o with
 |none=>rw[show u=.nilIface from h];exact⟨rfl,d7 rfl⟩
 |some i=>obtain⟨t,z,rfl⟩:=lN.form h;exact⟨rfl,d6 ⟨t,z,rfl⟩⟩
def U6(cb n:Nat)(C P A u:aQ)(xs:List Value)(w:aG)(f:w.heap[cb]?=some (.cells #[C,P,A] 177 (0,0)))(g:w.ownsRow (cb+1) 228 1 P n xs)(q:u.oneCell'=true)(Y:u=.nilIface\/∃t z,u=.iface t z)(hn:n<=1000000):
 Calls prog 132 #[aZ cb,u] w λe w'=>e=aX (I_ n)/\∃j,w'.heap[cb]?=some (.cells #[C,j,A] 177 (0,0))/\w'.ownsRow (cb+1) 228 1 j (n+1) (xs++[u])/\FB cb cb w w':=by
 obtain⟨X,Z,E,H,J⟩:=info_parts bZ_;obtain⟨x,c,rfl⟩:=dE g;have M:=aC f;have c1:=aA (i:=1) f rfl;have K:=aB g;have G:=aB f;have m:∀v∈([u]:List Value),v.oneCell'=true:=λv S=>by simp at S;rw[S];exact q
 have HONE:=aB m;clear g f m q
 have r:∀p:aQ,u=p->(p=.nilIface\/∃t z,p=.iface t z)->Calls prog 132 #[aZ cb,p] w λe w'=>e=aX (I_ n)/\∃j,w'.heap[cb]?=some (.cells #[C,j,A] 177 (0,0))/\w'.ownsRow (cb+1) 228 1 j (n+1) (xs++[p])/\FB cb cb w w':=by
  intro p e I;subst e;rcases I with rfl|⟨t,z,rfl⟩
  all_goals
   go_in
   go_wp2_with (at_builtin;refine wpList_append_lies _ r_ _ _ 128 r_ (cb+1) 228 X _ 1 16 underlying128 Z E H J rfl d_ (.slice x n c) n xs r_ (K.alloc _) (aH w.heap.size 0) 1 1 [_] r_ r_ (ah_ w _) HONE d_ (by unfold maxLen;omega) o_ t_ (w.heap.size+1) s_ ?_)
   intro B s N d b l V;have D:some cb≠(Value.slice x n c).ownBlock:=λe=>by have:=(K.lt cb e.symm).1;omega
   have a:N.heap[cb]?=some (.cells #[C,.slice x n c,A] 177 (0,0)):=by
    rw[b.block cb t_ D,ek _ _ _ M];exact G
   have U:=aA (i:=1) a rfl;have aa:=aD a (i:=1);have T:=aC a
   have L:B≠cb:=by
    have:=(d.lt B rfl).1;omega
   have HOWN:=aB d;have Q:=aB b;have F:=aB l;have y:=aB a;clear d b l a;go_wp2
   go_ret;refine⟨by go_num,.slice (some (aH B 0)) (n+1) s,aK y,aY HOWN λk o=>ei _ _ _ _ (by cases o;exact L),⟨?_,λk o W O=>?_,λk o=>?_⟩⟩
   ·exact(((eh cb w).alloc o_ _).grown Q t_ (λk o=>by have:=(K.lt k o).1;omega)).setCell (by exact en cb) _
   ·rw[jF G.out] at O;rw[ei _ _ _ _ W,Q.out.block k t_ (λe=>O e.symm),ek _ _ _ o]
   ·rw[jF (aK y.out),jF G.out] at*;cases o;rcases F with h|h
    ·exact d7 h
    ·exact d6 (by show w.heap.size<=B;omega)
 exact r u rfl Y
def CP.step{a:List (Option aI)}{l b g:aQ}{xs':List Value}(h:CP fp fb nms cb F w code e_)(c:FB cb cb w w')(f:w'.heap[cb]?=some (.cells #[l,b,g] 177 (0,0)))(d:w'.ownsRow (cb+1) 228 1 b a.length xs')(r:VX fp F w' xs' a)(j:eF F w' g e_)(i:MV fp fb nms F w' l):CP fp fb nms cb F w' a e_:=
 ⟨⟨l,b,g,f,⟨xs',d,r⟩,j,i⟩,λk n=>by
   obtain⟨p,o,q⟩:=h.fix k n;refine⟨ej p c.bel.size,o,λe=>?_⟩
   rcases c.row k e with m|m
   ·exact q m
   ·omega⟩
def CP.fixed(h:CP fp fb nms cb F w code e_)(a:FB cb cb w w'):∀b,F b->w'.heap[b]?=w.heap[b]?:=λb e=>by
 obtain⟨c,f,d⟩:=h.fix b e;exact a.blk b c f d
def tC{u:aQ}{o:Option aI}(h:CP fp fb nms cb F w code e_)(k:cz_ fp F w u o)(D:code.length<=1000000):
 Calls prog 132 #[aZ cb,u] w λe w'=>e=aX (I_ code.length)/\CP fp fb nms cb F w' (code++[o]) e_/\FB cb cb w w':=by
 obtain⟨H,p,m,s,⟨A,n,c⟩,q,t⟩:=h.blk;obtain⟨z,v⟩:=k.one;refine(U6 cb code.length H p m u A w s n z v D).mono ?_;rintro e w' ⟨G,B,r,I,f⟩;have g:=h.fixed f;refine⟨G,h.step f r (by rw[el];exact I) ?_ (eF.keep g dP q) (t.keep g dP f.bel.size),f⟩
 have l:=c.keep g dP;refine⟨by simp[c.1],λi C a=>?_⟩
 rcases fu i code.length with d|d
 ·rw[hQ d] at a;obtain⟨y,E,x⟩:=l.2 i C a;exact⟨y,by rw[hQ (by rw[c.1];exact d)];exact E,x⟩
 ·rw[gl d] at a
  have b:i-code.length=0:=by
   have:=(gq.1 a).1;simp at this;omega
  rw[b] at a;simp at a;subst a;refine⟨u,by rw[gl (by rw[c.1];exact d),c.1,b];rfl,?_⟩
  cases o with
  |none=>exact k
  |some j=>exact lN.keep k g dP
def TW(h:CP fp fb nms cb F w code e_)(j:e_.length<=1000000):
 Calls prog 172 #[aZ cb] w λe w'=>e=aX (I_ e_.length)/\w'=w:=by
 obtain⟨r,m,f,c, -,g, -⟩:=h.blk;have q:=aC c;have p:=aA (i:=2) c rfl;cases e_ with
 |nil=>
  obtain rfl:f=.pointer none:=g;clear h c;go_in
  go_wp2
  go_ret;exact⟨rfl,rfl⟩
 |cons x l=>
  obtain⟨b,o,rfl,k,a,d⟩:=g;have n:=aA (i:=1) a rfl;have i:=aC a;simp only[ep] at j;clear h c a d;go_in
  go_wp2
  go_ret;exact⟨by go_num,rfl⟩
end
section
variable {fp:eK} {fb:Nat->Nat} {nms:cN} {cb:Nat} {F:bY} {w w':aG} {code:List (Option aI)} {e_:cN}
def o9(w:aG)(cb n:Nat)(x:cC)(p:Option Addr)(f:cb<w.heap.size)(b:w.cell? (aH cb 2)=some (.pointer p))(c:w.frozen? (aH cb 2)=false)
 (a:Hid (Calls prog 172 #[aZ cb] w.drew λe w'=>e=aX (I_ n)/\w'=w.drew)):
 Calls prog 130 #[aZ cb,.string (bs x)] w λe w'=>e=aX (.tuple #[])/\aU ((w.setCell (aH cb 2) (aZ w.heap.size)).alloc (.cells #[.string (bs x),I_ n,.pointer p] 133)) w':=by
 go_in
 go_wp2_with fail;go_region_law (go_simp;go_at_call 172;refine a.mono ?_;rintro e d ⟨rfl,rfl⟩)
 all_goals
  go_wp2
  go_end0;exact⟨rfl,aU.drew _⟩
def E0(x:cC)(h:CP fp fb nms cb F w code e_)(D:e_.length<=1000000):
 Calls prog 130 #[aZ cb,.string (bs x)] w λe w'=>e=aX (.tuple #[])/\CP fp fb nms cb (λk=>F k\/k=w.heap.size) w' code (x::e_)/\FB cb cb w w':=by
 have m:=h.lt;obtain⟨u,q,H,c,⟨B,j,C⟩,t,y⟩:=h.blk;obtain⟨p,rfl⟩:=t.form;have v:CP fp fb nms cb F w.drew code e_:=h.grow (aU.drew w).below;refine(o9 w cb e_.length x p m (aA c rfl) (aD c) (TW v D)).mono ?_;rintro e w' ⟨G,d⟩;generalize g:(w.setCell (aH cb 2) (aZ w.heap.size)).alloc (.cells #[.string (bs x),I_ e_.length,.pointer p] 133)=W at d
 have o:∀k,k<w.heap.size->k≠cb->w'.heap[k]?=w.heap[k]?:=λk c j=>by
  rw[d.heap,<-g,ek _ _ _ (by simpa using c),ei _ _ _ _ j]
 have l:w'.heap[cb]?=some (.cells #[u,q,aZ w.heap.size] 177 (0,0)):=by
  rw[d.heap,<-g,ek _ _ _ (by simpa using m)];exact aK c
 have n:w'.heap[w.heap.size]?=some (.cells #[.string (bs x),I_ e_.length,.pointer p] 133 (0,0)):=by
  rw[d.heap,<-g];exact aN _ _ s_ _
 have A:w'.heap.size=w.heap.size+1:=by rw[d.heap,<-g];simp
 have f:lS cb w'=lS cb w:=by rw[jF l,jF c]
 have r:∀b,F b->w'.heap[b]?=w.heap[b]?:=λb s=>o b (h.fix b s).1 (h.fix b s).2.1
 have i:=λk (e:q.ownBlock=some k)=>j.lt k e
 refine⟨G,⟨⟨u,q,_,l,⟨B,aY j λk e=>o k (i k e).2 (by have:=(i k e).1;omega),C.keep r λ_ h=>d7 h⟩,⟨w.heap.size,.pointer p,rfl,d6 rfl,n,eF.keep r (λ_ h=>d7 h) t⟩,y.keep r (λ_ h=>d7 h) o_⟩,λk a=>?_⟩,⟨?_,λk c j _=>o k c j,λk e=>d7 (by rw[<-f];exact e)⟩⟩
 ·rcases a with a|rfl
  ·obtain⟨I,z,E⟩:=h.fix k a;exact⟨o_,z,by rw[f];exact E⟩
  ·refine⟨o_,o_,λe=>?_⟩
   rw[f,jF c] at e;have:=(i _ e).2;omega
 ·refine⟨by rw[d.os,<-g];rfl,by rw[d.tape,<-g];rfl,by rw[d.output,<-g];rfl,o_,λk a=>o k o_ o_⟩
def m6{x y:cC}{l:cN}(h:y∈x::l)(a:x≠y):y∈l/\dV (x::l) y=dV l y:=by
 refine⟨?_,by rw[dV,if_neg a]⟩
 rcases eo.1 h with e|e
 ·exact absurd e.symm a
 ·exact e
def RN(a:cC)(h:CP fp fb nms cb F w code e_)(r:a∈e_)(_hn:e_.length<=1000000):
 Calls prog 156 #[aZ cb,.string (bs a)] w λe w'=>e=aX (I_ (dV e_ a))/\w'=w:=by
 obtain⟨L,G,n,j, -,i, -⟩:=h.blk;have K:=aC j;have I:=aA (i:=2) j rfl;have q:Hid (eF F w n e_/\a∈e_):=⟨i,r⟩;obtain⟨p,rfl⟩:=i.form;clear h j i r;go_in
 go_wp2_with fail;go_loopg [5] e_.length (λgk v wr=>∃l,l.length=gk/\eF F w v l/\a∈l/\dV l a=dV e_ a/\wr=w)
 case atStart=>exact⟨e_,rfl,q.1,q.2,rfl,rfl⟩
 case round=>
  obtain⟨l,k,B,f,d,rfl⟩:=hrel;cases l with
  |nil=>cases f
  |cons x l=>
   obtain⟨b,o,rfl,E,c,g⟩:=B;obtain⟨s,rfl⟩:=g.form;have J:=aA (i:=0) c rfl;have H:=aA (i:=1) c rfl;have D:=aA (i:=2) c rfl;have t:=aC c;by_cases m:x=a
   ·subst m;have z:dV (x::l) x=l.length:=by rw[dV,if_pos rfl]
    rw[z] at d;clear c g f;go_wp2
    go_ret;exact⟨by rw[<-d];rfl,rfl⟩
   ·obtain⟨y,C⟩:=m6 f m;have u:((bs x).toList==(bs a).toList)=false:=by rw[cI,cI];simpa using m
    have A:Hid (eF F wr (.pointer s) l):=g;rw[C] at d;clear c g f;go_wp2
    go_roundg l.length
    case measure=>simp at k;omega
    case rel=>exact⟨l,rfl,A,y,d,rfl⟩
def vC(a:cC)(h:CP fp fb nms cb F w code e_)(v:a∈nms)(N:nms.length<=1000000):
 Calls prog 97 #[aZ cb,.string (bs a)] w λe w'=>e=aX (fp (nms.findIdx λx=>x==a))/\w'=w:=by
 obtain⟨S,K,I,p, -, -,B⟩:=h.blk;rcases B with ⟨rfl,_⟩|⟨g,q,rfl,G,t,H,b⟩
 ·cases v
 have M:=aC p;have L:=aA (i:=0) p rfl;have u:=aB b;clear h p b;go_in
 go_wp2_with fail;go_loopg [6,12] nms.length (λgk _ i wr=>∃j:Nat,j+gk=nms.length/\i=I_ j/\j<=nms.findIdx (λx=>x==a)/\wr=w)
 case atStart=>exact⟨0,o_,rfl,ft _,rfl⟩
 case round=>
  obtain⟨j,Q,rfl,f,rfl⟩:=hrel;have s:nms.findIdx (λx=>x==a)<nms.length:=List.findIdx_lt_length_of_exists ⟨a,v,s_⟩
  have o:j<nms.length:=o_
  obtain⟨m,rfl⟩:∃m,gk=m+1:=⟨gk-1,o_⟩
  obtain⟨E,k,P,x,n⟩:=u j o;rw[k] at E;have D:=aA (i:=0) n rfl;have z:=aC n;have O:(0:Int)<=(j:Int):=o_
  have J:(j:Int)<(nms.length:Int):=o_
  by_cases l:nms[j]=a
  ·have r:nms.findIdx (λx=>x==a)=j:=by
    refine jw (Nat.not_lt.1 λc=>?_) f
    have:=List.not_of_lt_findIdx c;simp[l] at this
   have C:=aB k;rw[l] at D;clear n k u;go_wp2
   go_ret;exact⟨by rw[r,C.out];rfl,rfl⟩
  ·have A:((bs nms[j]).toList==(bs a).toList)=false:=by rw[cI,cI];simpa using l
   have d:j+1<=nms.findIdx (λx=>x==a):=by
    rcases ii f with e|e
    ·have:=ka (w:=s);simp only[<-e] at this;simp at this;exact absurd this l
    ·exact e
   generalize nms[j]=y at*;clear n k;go_wp2
   go_roundg m
   case measure=>omega
   case rel=>exact⟨j+1,o_,by go_num,d,rfl⟩
end
section
variable(v:aQ)(w:aG)
def zL:(typeAssert (.iface 267 v) 67 267 true).run prog w=.ok (.tuple #[v,.bool true]) w:=k_
def zK:(typeAssert (.iface 268 v) 67 267 true).run prog w=.ok (.tuple #[.agg #[I_ 0,I_ 0],.bool false]) w:=k_
def zJ:(typeAssert (.iface 268 v) 67 268 true).run prog w=.ok (.tuple #[v,.bool true]) w:=k_
def GT:(typeAssert (.iface 270 v) 67 267 true).run prog w=.ok (.tuple #[.agg #[I_ 0,I_ 0],.bool false]) w:=k_
def GS:(typeAssert (.iface 270 v) 67 268 true).run prog w=.ok (.tuple #[.agg #[I_ 0,.string ⟨#[]⟩],.bool false]) w:=k_
def PJ:(typeAssert (.iface 270 v) 67 270 true).run prog w=.ok (.tuple #[v,.bool true]) w:=k_
def wC:(typeAssert (.iface 217 v) 67 267 true).run prog w=.ok (.tuple #[.agg #[I_ 0,I_ 0],.bool false]) w:=k_
def wB:(typeAssert (.iface 217 v) 67 268 true).run prog w=.ok (.tuple #[.agg #[I_ 0,.string ⟨#[]⟩],.bool false]) w:=k_
def zI:(typeAssert (.iface 217 v) 67 270 true).run prog w=.ok (.tuple #[.agg #[I_ 0,.bool false],.bool false]) w:=k_
def tD:(typeAssert (.iface 217 v) 67 217 true).run prog w=.ok (.tuple #[v,.bool true]) w:=k_
def GN:(typeAssert (.iface 219 v) 67 267 true).run prog w=.ok (.tuple #[.agg #[I_ 0,I_ 0],.bool false]) w:=k_
def GM:(typeAssert (.iface 219 v) 67 268 true).run prog w=.ok (.tuple #[.agg #[I_ 0,.string ⟨#[]⟩],.bool false]) w:=k_
def PF:(typeAssert (.iface 219 v) 67 270 true).run prog w=.ok (.tuple #[.agg #[I_ 0,.bool false],.bool false]) w:=k_
def zM:(typeAssert (.iface 219 v) 67 217 true).run prog w=.ok (.tuple #[.agg #[I_ 0,.string ⟨#[]⟩],.bool false]) w:=k_
def PE:(typeAssert (.iface 219 v) 67 219 true).run prog w=.ok (.tuple #[v,.bool true]) w:=k_
def CX:(typeAssert (.iface 221 v) 67 267 true).run prog w=.ok (.tuple #[.agg #[I_ 0,I_ 0],.bool false]) w:=k_
def CW:(typeAssert (.iface 221 v) 67 268 true).run prog w=.ok (.tuple #[.agg #[I_ 0,.string ⟨#[]⟩],.bool false]) w:=k_
def KC:(typeAssert (.iface 221 v) 67 270 true).run prog w=.ok (.tuple #[.agg #[I_ 0,.bool false],.bool false]) w:=k_
def xO:(typeAssert (.iface 221 v) 67 217 true).run prog w=.ok (.tuple #[.agg #[I_ 0,.string ⟨#[]⟩],.bool false]) w:=k_
def KB:(typeAssert (.iface 221 v) 67 219 true).run prog w=.ok (.tuple #[.agg #[I_ 0,bG],.bool false]) w:=k_
def GO:(typeAssert (.iface 221 v) 67 221 true).run prog w=.ok (.tuple #[v,.bool true]) w:=k_
def CV:(typeAssert (.iface 223 v) 67 267 true).run prog w=.ok (.tuple #[.agg #[I_ 0,I_ 0],.bool false]) w:=k_
def CU:(typeAssert (.iface 223 v) 67 268 true).run prog w=.ok (.tuple #[.agg #[I_ 0,.string ⟨#[]⟩],.bool false]) w:=k_
def KA:(typeAssert (.iface 223 v) 67 270 true).run prog w=.ok (.tuple #[.agg #[I_ 0,.bool false],.bool false]) w:=k_
def xN:(typeAssert (.iface 223 v) 67 217 true).run prog w=.ok (.tuple #[.agg #[I_ 0,.string ⟨#[]⟩],.bool false]) w:=k_
def JZ:(typeAssert (.iface 223 v) 67 219 true).run prog w=.ok (.tuple #[.agg #[I_ 0,bG],.bool false]) w:=k_
def GL:(typeAssert (.iface 223 v) 67 221 true).run prog w=.ok (.tuple #[.agg #[I_ 0,.nilIface,.nilIface],.bool false]) w:=k_
def GK:(typeAssert (.iface 223 v) 67 223 true).run prog w=.ok (.tuple #[v,.bool true]) w:=k_
def zP:(typeAssert (.iface 225 v) 67 267 true).run prog w=.ok (.tuple #[.agg #[I_ 0,I_ 0],.bool false]) w:=k_
def zO:(typeAssert (.iface 225 v) 67 268 true).run prog w=.ok (.tuple #[.agg #[I_ 0,.string ⟨#[]⟩],.bool false]) w:=k_
def GV:(typeAssert (.iface 225 v) 67 270 true).run prog w=.ok (.tuple #[.agg #[I_ 0,.bool false],.bool false]) w:=k_
def wD:(typeAssert (.iface 225 v) 67 217 true).run prog w=.ok (.tuple #[.agg #[I_ 0,.string ⟨#[]⟩],.bool false]) w:=k_
def GU:(typeAssert (.iface 225 v) 67 219 true).run prog w=.ok (.tuple #[.agg #[I_ 0,bG],.bool false]) w:=k_
def CZ:(typeAssert (.iface 225 v) 67 221 true).run prog w=.ok (.tuple #[.agg #[I_ 0,.nilIface,.nilIface],.bool false]) w:=k_
def CY:(typeAssert (.iface 225 v) 67 223 true).run prog w=.ok (.tuple #[.agg #[I_ 0,.string ⟨#[]⟩,.nilIface],.bool false]) w:=k_
def zQ:(typeAssert (.iface 225 v) 67 225 true).run prog w=.ok (.tuple #[v,.bool true]) w:=k_
def GQ:(typeAssert (.iface 214 v) 67 267 true).run prog w=.ok (.tuple #[.agg #[I_ 0,I_ 0],.bool false]) w:=k_
def GP:(typeAssert (.iface 214 v) 67 268 true).run prog w=.ok (.tuple #[.agg #[I_ 0,.string ⟨#[]⟩],.bool false]) w:=k_
def PI:(typeAssert (.iface 214 v) 67 270 true).run prog w=.ok (.tuple #[.agg #[I_ 0,.bool false],.bool false]) w:=k_
def zN:(typeAssert (.iface 214 v) 67 217 true).run prog w=.ok (.tuple #[.agg #[I_ 0,.string ⟨#[]⟩],.bool false]) w:=k_
def PG:(typeAssert (.iface 214 v) 67 219 true).run prog w=.ok (.tuple #[.agg #[I_ 0,bG],.bool false]) w:=k_
def KE:(typeAssert (.iface 214 v) 67 221 true).run prog w=.ok (.tuple #[.agg #[I_ 0,.nilIface,.nilIface],.bool false]) w:=k_
def KD:(typeAssert (.iface 214 v) 67 223 true).run prog w=.ok (.tuple #[.agg #[I_ 0,.string ⟨#[]⟩,.nilIface],.bool false]) w:=k_
def GR:(typeAssert (.iface 214 v) 67 225 true).run prog w=.ok (.tuple #[.agg #[I_ 0,.string ⟨#[]⟩,.nilIface,.nilIface],.bool false]) w:=k_
def PH:(typeAssert (.iface 214 v) 67 214 true).run prog w=.ok (.tuple #[v,.bool true]) w:=k_
end
def uS(w:aG)(cb:Nat)(l k:Int)(P:World->Prop)
 (b:Hid (Calls prog 132 #[aZ cb,.iface 241 (.agg #[.iface 183 (I_ k)])] (w.alloc (.cells #[I_ l,I_ k] 267)) λe w'=>(∃k:Nat,e=aX (I_ k))/\P w')):
 Calls prog 118 #[aZ cb,.iface 267 (.agg #[I_ l,I_ k])] w λe w'=>e=aX (.tuple #[])/\P w':=by
 have d:=zL;go_in
 go_wp2_with fail;refine b.mono ?_;rintro e c ⟨⟨m,rfl⟩,a⟩;go_wp2
 go_end0;exact⟨rfl,a⟩
def JX(w:aG)(cb:Nat)(l:Int)(s:ByteArray)(P:World->Prop)
 (b:Hid (Calls prog 132 #[aZ cb,.iface 241 (.agg #[.iface 187 (.string s)])] (w.alloc (.cells #[I_ l,.string s] 268)) λe w'=>(∃k:Nat,e=aX (I_ k))/\P w')):
 Calls prog 118 #[aZ cb,.iface 268 (.agg #[I_ l,.string s])] w λe w'=>e=aX (.tuple #[])/\P w':=by
 have d:=zK;have f:=zJ;go_in
 go_wp2_with fail;refine b.mono ?_;rintro e c ⟨⟨m,rfl⟩,a⟩;go_wp2
 go_end0;exact⟨rfl,a⟩
def UG(w:aG)(cb:Nat)(l:Int)(b:Bool)(P:World->Prop)
 (c:Hid (Calls prog 132 #[aZ cb,.iface 241 (.agg #[.iface 185 (.bool b)])] (w.alloc (.cells #[I_ l,.bool b] 270)) λe w'=>(∃k:Nat,e=aX (I_ k))/\P w')):
 Calls prog 118 #[aZ cb,.iface 270 (.agg #[I_ l,.bool b])] w λe w'=>e=aX (.tuple #[])/\P w':=by
 have f:=GT;have g:=GS;have h:=PJ;go_in
 go_wp2_with fail;refine c.mono ?_;rintro e d ⟨⟨m,rfl⟩,a⟩;go_wp2
 go_end0;exact⟨rfl,a⟩
def CT(w:aG)(cb:Nat)(l:Int)(s:ByteArray)(k:Nat)(P:World->Prop)
 (c:Hid (Calls prog 156 #[aZ cb,.string s] (w.alloc (.cells #[I_ l,.string s] 217)) λe w'=>e=aX (I_ k)/\w'=w.alloc (.cells #[I_ l,.string s] 217)))
 (b:Hid (Calls prog 132 #[aZ cb,.iface 273 (.agg #[I_ k])] (w.alloc (.cells #[I_ l,.string s] 217)) λe w'=>(∃k:Nat,e=aX (I_ k))/\P w')):
 Calls prog 118 #[aZ cb,.iface 217 (.agg #[I_ l,.string s])] w λe w'=>e=aX (.tuple #[])/\P w':=by
 have g:=wC;have h:=wB;have j:=zI;have f:=tD;go_in
 go_wp2_with fail;refine c.mono ?_;rintro e d ⟨rfl,rfl⟩;go_wp2_with fail;refine b.mono ?_;rintro e i ⟨⟨m,rfl⟩,a⟩;go_wp2
 go_end0;exact⟨rfl,a⟩
def UF(w:aG)(cb n c:Nat)(l:Int)(x:Option Addr)(P Q:World->Prop)
 (h:Hid (Calls prog 157 #[aZ cb,.slice x n c] (w.alloc (.cells #[I_ l,.slice x n c] 219)) λe w'=>e=aX (.tuple #[])/\Q w'))
 (f:Hid (∀W,Q W->W.cell? (aH w.heap.size 1)=some (.slice x n c)/\w.heap.size<W.heap.size))
 (g:Hid (∀W,Q W->Calls prog 132 #[aZ cb,.iface 275 (.agg #[I_ n])] W λe w'=>(∃k:Nat,e=aX (I_ k))/\P w')):
 Calls prog 118 #[aZ cb,.iface 219 (.agg #[I_ l,.slice x n c])] w λe w'=>e=aX (.tuple #[])/\P w':=by
 have o:=GN;have p:=GM;have u:=PF;have q:=zM;have r:=PE;go_in
 go_wp2_with fail;refine h.mono ?_;rintro e i ⟨rfl,b⟩;obtain⟨j,s⟩:=f _ b;have a:=aB (g _ b);clear b;go_wp2_with fail;refine a.mono ?_;rintro e t ⟨⟨m,rfl⟩,d⟩;go_wp2
 go_end0;exact⟨rfl,d⟩
def PA(w:aG)(cb:Nat)(l:Int)(h a:TypeId)(d b:aQ)(P Q R:World->Prop)
 (q:Hid (Calls prog 118 #[aZ cb,.iface h d] (w.alloc (.cells #[I_ l,.iface h d,.iface a b] 221)) λe w'=>e=aX (.tuple #[])/\Q w'))
 (j:Hid (∀W,Q W->W.cell? (aH w.heap.size 2)=some (.iface a b)/\w.heap.size<W.heap.size))
 (n:Hid (∀W,Q W->Calls prog 118 #[aZ cb,.iface a b] W λe w'=>e=aX (.tuple #[])/\R w'))
 (p:Hid (∀W,R W->Calls prog 132 #[aZ cb,.iface 276 (.agg #[])] W λe w'=>(∃k:Nat,e=aX (I_ k))/\P w')):
 Calls prog 118 #[aZ cb,.iface 221 (.agg #[I_ l,.iface h d,.iface a b])] w λe w'=>e=aX (.tuple #[])/\P w':=by
 have t:=CX;have v:=CW;have C:=KC;have x:=xO;have z:=KB;have y:=GO;go_in
 go_wp2_with fail;refine q.mono ?_;rintro e r ⟨rfl,f⟩;obtain⟨s,A⟩:=j _ f;have g:=aB (n _ f);clear f;go_wp2_with fail;refine g.mono ?_;rintro e B ⟨rfl,i⟩;have c:=aB (p _ i);clear i;go_wp2_with fail;refine c.mono ?_;rintro e u ⟨⟨m,rfl⟩,o⟩;go_wp2
 go_end0;exact⟨rfl,o⟩
def OZ(w:aG)(cb:Nat)(l:Int)(op:ByteArray)(d:TypeId)(b:aQ)(P Q:World->Prop)
 (i:Hid (Calls prog 118 #[aZ cb,.iface d b] (w.alloc (.cells #[I_ l,.string op,.iface d b] 223)) λe w'=>e=aX (.tuple #[])/\Q w'))
 (f:Hid (∀W,Q W->W.cell? (aH w.heap.size 1)=some (.string op)/\w.heap.size<W.heap.size))
 (h:Hid (∀W,Q W->Calls prog 132 #[aZ cb,.iface 278 (.agg #[.string op])] W λe w'=>(∃k:Nat,e=aX (I_ k))/\P w')):
 Calls prog 118 #[aZ cb,.iface 223 (.agg #[I_ l,.string op,.iface d b])] w λe w'=>e=aX (.tuple #[])/\P w':=by
 have o:=CV;have r:=CU;have x:=KA;have s:=xN;have u:=JZ;have t:=GL;have q:=GK;go_in
 go_wp2_with fail;refine i.mono ?_;rintro e j ⟨rfl,c⟩;obtain⟨n,v⟩:=f _ c;have a:=aB (h _ c);clear c;go_wp2_with fail;refine a.mono ?_;rintro e p ⟨⟨m,rfl⟩,g⟩;go_wp2
 go_end0;exact⟨rfl,g⟩
def uT(w:aG)(cb:Nat)(l:Int)(op:ByteArray)(d a:TypeId)(c b:aQ)(P:World->Prop)
 (g:Hid (Calls prog 158 #[aZ cb,.agg #[I_ l,.string op,.iface d c,.iface a b]] (w.alloc (.cells #[I_ l,.string op,.iface d c,.iface a b] 225)) λe w'=>e=aX (.tuple #[])/\P w')):
 Calls prog 118 #[aZ cb,.iface 225 (.agg #[I_ l,.string op,.iface d c,.iface a b])] w λe w'=>e=aX (.tuple #[])/\P w':=by
 have i:=zP;have m:=zO;have q:=GV;have n:=wD;have p:=GU;have o:=CZ;have k:=CY;have j:=zQ;go_in
 go_wp2_with fail;refine g.mono ?_;rintro e h ⟨rfl,f⟩;go_wp2
 go_end0;exact⟨rfl,f⟩
def tA(w:aG)(cb n c:Nat)(l:Int)(s:ByteArray)(x:Option Addr)(P:World->Prop)
 (b:Hid (Calls prog 159 #[aZ cb,.agg #[I_ l,.string s,.slice x n c]] (w.alloc (.cells #[I_ l,.string s,.slice x n c] 214)) λe w'=>e=aX (.tuple #[])/\P w')):
 Calls prog 118 #[aZ cb,.iface 214 (.agg #[I_ l,.string s,.slice x n c])] w λe w'=>e=aX (.tuple #[])/\P w':=by
 have f:=GQ;have i:=GP;have p:=PI;have j:=zN;have m:=PG;have k:=KE;have h:=KD;have g:=GR;have o:=PH;go_in
 go_wp2_with fail;refine b.mono ?_;rintro e d ⟨rfl,a⟩;go_wp2
 go_end0;exact⟨rfl,a⟩
def ZN(w:aG)(cb g n d:Nat)(C:Nat->World->Prop)(x:n<=1000000)(k:C 0 w)
 (p:Hid (∀j W,C j W->j<n->g<W.heap.size/\∃t z,W.cell? (aH g j)=some (.iface t z)/\Calls prog 118 #[aZ cb,.iface t z] W λe w'=>e=aX (.tuple #[])/\C (j+1) w')):
 Calls prog 157 #[aZ cb,.slice (some (aH g 0)) n d] w λe w'=>e=aX (.tuple #[])/\C n w':=by
 have l:=aB k;clear k;go_in
 go_wp2_with fail;go_loopg [5,8] n (λgk _ i wr=>∃j:Nat,j+gk=n/\i=I_ j/\C j wr)
 case atStart=>exact⟨0,o_,rfl,l⟩
 case round=>
  obtain⟨j,A,rfl,b⟩:=hrel;by_cases c:j<n
  ·obtain⟨m,rfl⟩:∃m,gk=m+1:=⟨gk-1,o_⟩
   obtain⟨s,t,z,v,a⟩:=p _ _ b c;have q:=aB a;have y:(0:Int)<=(j:Int):=o_
   have u:(j:Int)<(n:Int):=o_
   clear b a;go_wp2_with fail;refine q.mono ?_;rintro e r ⟨rfl,o⟩;go_wp2
   go_roundg m
   case measure=>omega
   case rel=>exact⟨j+1,o_,by go_num,o⟩
  ·have f:j=n:=o_
   subst f;have h:=aB b;clear b;go_wp2
   go_end0;exact⟨rfl,h⟩
def U1(w:aG)(cb:Nat):Calls prog 157 #[aZ cb,bG] w λe w'=>e=aX (.tuple #[])/\w'=w:=by
 go_in
 go_wp2_with fail;go_loopg [5,8] 0 (λ_ _ i wr=>i=I_ 0/\wr=w)
 case atStart=>exact⟨rfl,rfl⟩
 case round=>
  obtain⟨rfl,rfl⟩:=hrel;go_wp2
  go_end0;exact⟨rfl,rfl⟩
def VK(w:aG)(cb n c:Nat)(l:Int)(x:Option Addr)(P Q:World->Prop)
 (h:Hid (Calls prog 157 #[aZ cb,.slice x n c] (w.alloc (.cells #[I_ l,.string (bs [108,101,110]),.slice x n c] 214)) λe w'=>e=aX (.tuple #[])/\Q w'))
 (f:Hid (∀W,Q W->W.cell? (aH w.heap.size 1)=some (.string (bs [108,101,110]))/\w.heap.size<W.heap.size))
 (g:Hid (∀W,Q W->Calls prog 132 #[aZ cb,.iface 310 (.agg #[])] W λe w'=>(∃k:Nat,e=aX (I_ k))/\P w')):
 Calls prog 159 #[aZ cb,.agg #[I_ l,.string (bs [108,101,110]),.slice x n c]] w λe w'=>e=aX (.tuple #[])/\P w':=by
 have p:((bs [108,101,110]).toList==[108,101,110])=true:=by rw[cI];rfl
 generalize bs [108,101,110]=r at*;go_in
 go_wp2_with fail;refine h.mono ?_;rintro e i ⟨rfl,b⟩;obtain⟨j,o⟩:=f _ b;have a:=aB (g _ b);clear b;go_wp2_with fail;refine a.mono ?_;rintro e q ⟨⟨m,rfl⟩,d⟩;go_wp2
 go_end0;exact⟨rfl,d⟩
def MN(w:aG)(cb n c:Nat)(l:Int)(x:Option Addr)(P Q:World->Prop)
 (h:Hid (Calls prog 157 #[aZ cb,.slice x n c] (w.alloc (.cells #[I_ l,.string (bs [114,101,97,100]),.slice x n c] 214)) λe w'=>e=aX (.tuple #[])/\Q w'))
 (f:Hid (∀W,Q W->W.cell? (aH w.heap.size 1)=some (.string (bs [114,101,97,100]))/\w.heap.size<W.heap.size))
 (g:Hid (∀W,Q W->Calls prog 132 #[aZ cb,.iface 311 (.agg #[])] W λe w'=>(∃k:Nat,e=aX (I_ k))/\P w')):
 Calls prog 159 #[aZ cb,.agg #[I_ l,.string (bs [114,101,97,100]),.slice x n c]] w λe w'=>e=aX (.tuple #[])/\P w':=by
 have q:((bs [114,101,97,100]).toList==[108,101,110])=false:=by rw[cI];rfl
 have o:((bs [114,101,97,100]).toList==[114,101,97,100])=true:=by rw[cI];rfl
 generalize bs [114,101,97,100]=s at*;go_in
 go_wp2_with fail;refine h.mono ?_;rintro e i ⟨rfl,b⟩;obtain⟨j,p⟩:=f _ b;have a:=aB (g _ b);clear b;go_wp2_with fail;refine a.mono ?_;rintro e r ⟨⟨m,rfl⟩,d⟩;go_wp2
 go_end0;exact⟨rfl,d⟩
def IB(w:aG)(cb n c fb:Nat)(l:Int)(tx:cC)(x:Option Addr)(P Q:World->Prop)(a:tx≠[108,101,110])(d:tx≠[114,101,97,100])
 (o:Hid (Calls prog 157 #[aZ cb,.slice x n c] (w.alloc (.cells #[I_ l,.string (bs tx),.slice x n c] 214)) λe w'=>e=aX (.tuple #[])/\Q w'))
 (h:Hid (∀W,Q W->W.cell? (aH w.heap.size 1)=some (.string (bs tx))/\W.cell? (aH w.heap.size 2)=some (.slice x n c)/\w.heap.size<W.heap.size))
 (g:Hid (∀W b,Q W->aU W b->Calls prog 97 #[aZ cb,.string (bs tx)] b λe w'=>e=aX (aZ fb)/\w'=b))
 (j:Hid (∀W b,Q W->aU W b->Calls prog 132 #[aZ cb,.iface 313 (.agg #[aZ fb,I_ n])] b λe w'=>(∃k:Nat,e=aX (I_ k))/\P w')):
 Calls prog 159 #[aZ cb,.agg #[I_ l,.string (bs tx),.slice x n c]] w λe w'=>e=aX (.tuple #[])/\P w':=by
 have v:((bs tx).toList==[108,101,110])=false:=by rw[cI];simpa using a
 have t:((bs tx).toList==[114,101,97,100])=false:=by rw[cI];simpa using d
 clear a d;go_in
 go_wp2_with fail;refine o.mono ?_;rintro e p ⟨rfl,a⟩;obtain⟨q,u,s⟩:=h _ a;have f:=aB a;clear a;go_wp2_with fail;go_region_law (go_simp;first|(go_at_call 97;refine(g _ _ f (aU.drew _)).mono ?_;rintro e y ⟨rfl,rfl⟩)|(go_at_call 132;refine(j _ _ f (aU.drew _)).mono ?_;rintro e r ⟨⟨m,rfl⟩,i⟩))
 all_goals
  go_wp2
  go_end0;exact⟨rfl,i⟩
def PY(w:aG)(cb:Nat)(l:Int)(op:cC)(i c:TypeId)(g d:aQ)(P Q R:World->Prop)(b:op≠[38,38])(a:op≠[124,124])
 (r:Hid (Calls prog 118 #[aZ cb,.iface i g] (w.alloc (.cells #[I_ l,.string (bs op),.iface i g,.iface c d] 225)) λe w'=>e=aX (.tuple #[])/\Q w'))
 (n:Hid (∀W,Q W->W.cell? (aH w.heap.size 1)=some (.string (bs op))/\W.cell? (aH w.heap.size 3)=some (.iface c d)/\w.heap.size<W.heap.size))
 (o:Hid (∀W,Q W->Calls prog 118 #[aZ cb,.iface c d] W λe w'=>e=aX (.tuple #[])/\R w'))
 (j:Hid (∀W,R W->W.cell? (aH w.heap.size 1)=some (.string (bs op))/\w.heap.size<W.heap.size))
 (q:Hid (∀W,R W->Calls prog 132 #[aZ cb,.iface 306 (.agg #[.string (bs op)])] W λe w'=>(∃k:Nat,e=aX (I_ k))/\P w')):
 Calls prog 158 #[aZ cb,.agg #[I_ l,.string (bs op),.iface i g,.iface c d]] w λe w'=>e=aX (.tuple #[])/\P w':=by
 have C:((bs op).toList==[38,38])=false:=by rw[cI];simpa using b
 have A:((bs op).toList==[124,124])=false:=by rw[cI];simpa using a
 clear b a;generalize bs op=z at*;go_in
 go_wp2_with fail;refine r.mono ?_;rintro e s ⟨rfl,b⟩;obtain⟨u,B,x⟩:=n _ b;have h:=aB (o _ b);clear b;go_wp2_with fail;refine h.mono ?_;rintro e D ⟨rfl,a⟩;obtain⟨y,t⟩:=j _ a;have f:=aB (q _ a);clear a;go_wp2_with fail;refine f.mono ?_;rintro e v ⟨⟨m,rfl⟩,p⟩;go_wp2_with fail;exact⟨rfl,_,results_none r_ _ _ _,rfl,p⟩
def PX(w:aG)(cb k:Nat)(l:Int)(b:Bool)(op:cC)(t h:TypeId)(q i:aQ)(P Q x R S:World->Prop)(a:op=if b then [124,124] else [38,38])
 (E:Hid (Calls prog 118 #[aZ cb,.iface t q] (w.alloc (.cells #[I_ l,.string (bs op),.iface t q,.iface h i] 225)) λe w'=>e=aX (.tuple #[])/\Q w'))
 (z:Hid (∀W,Q W->W.cell? (aH w.heap.size 1)=some (.string (bs op))/\w.heap.size<W.heap.size))
 (H:Hid (∀W,Q W->Calls prog 132 #[aZ cb,.nilIface] W λe w'=>e=aX (I_ k)/\x w'))
 (v:Hid (∀W,x W->W.cell? (aH w.heap.size 3)=some (.iface h i)/\w.heap.size<W.heap.size))
 (G:Hid (∀W,x W->Calls prog 118 #[aZ cb,.iface h i] W λe w'=>e=aX (.tuple #[])/\R w'))
 (K:Hid (∀W,R W->Calls prog 132 #[aZ cb,.iface 307 (.agg #[])] W λe w'=>(∃k:Nat,e=aX (I_ k))/\S w'))
 (f:Hid (∀W,S W->W.cell? (aH w.heap.size 1)=some (.string (bs op))/\w.heap.size<W.heap.size/\cb<W.heap.size/\∃g n c,W.cell? (aH cb 1)=some (.slice (some (aH g 0)) n c)/\k<n/\n<=1000000/\(∃u,W.cell? (aH g k)=some u)/\W.frozen? (aH g k)=false/\g<W.heap.size/\∀D,aU (W.setCell (aH g k) (.iface 309 (.agg #[.bool b,I_ n]))) D->P D)):
 Calls prog 158 #[aZ cb,.agg #[I_ l,.string (bs op),.iface t q,.iface h i]] w λe w'=>e=aX (.tuple #[])/\P w':=by
 have I:∃j:ByteArray,j=bs op/\(j.toList==[38,38])= !b/\(j.toList==[124,124])=b:=⟨bs op,rfl,by rw[cI,a];cases b<;>rfl,by rw[cI,a];cases b<;>rfl⟩
 obtain⟨j,B,J,e2⟩:=I;rw[<-B] at E z f ⊢
 clear B a;cases b
 all_goals
  simp only[Bool.not_true,Bool.not_false] at J;go_in
  go_wp2_with fail;refine E.mono ?_;rintro e M ⟨rfl,r⟩;obtain⟨N,b2⟩:=z _ r;have y:=aB (H _ r);clear r;go_wp2_with fail;refine y.mono ?_;rintro e w2 ⟨rfl,p⟩;obtain⟨Z,O⟩:=v _ p;have s:=aB (G _ p);clear p;go_wp2_with fail;refine s.mono ?_;rintro e U ⟨rfl,C⟩;have o:=aB (K _ C);clear C;go_wp2_with fail;refine o.mono ?_;rintro e L ⟨⟨m,rfl⟩,A⟩;obtain⟨Y,f2,f3,g,n,c,f4,f5,f6,⟨u,X⟩,T,f9,d⟩:=f _ A;have F:=aB d;have i1:(0:Int)<=(k:Int):=o_
  have V:(k:Int)<(n:Int):=o_
  clear A d;go_wp2_with fail;go_region
  all_goals
   go_wp2
   go_end0;exact⟨rfl,F _ (aU.drew _)⟩
def oV(c:aE->Nat->List aI):∀(l m:List aE) (p:Nat),bW c (l++m) p=bW c l p++bW c m (p+(bW c l p).length)
 |[],m,p=>by simp[bW]
 |a::l,m,p=>by
  rw[gb,bW,bW,oV c l m,gr,el,jk]
def EX(c:aE->Nat->List aI)(a:aE)(p:Nat):bW c [a] p=c a p:=by simp[bW]
def RQ(c:aE->Nat->List aI)(a b:aE)(p:Nat):bW c [a,b] p=c a p++c b (p+(c a p).length):=by simp[bW]
section
variable (fs:List aE) (e_:cN) (d:Nat) (a:aE) (p:Nat)
def U4(h:a.op=[48]):aF fs e_ (d+1) a p=[.push (bH (((dQ 0 a.x_).getD 0:Nat):Int))]:=by rw[aF];simp[h]
def U3(h:a.op=[115]):aF fs e_ (d+1) a p=[.push (bP a.x_)]:=by rw[aF];simp[h]
def ZP(h:a.op=[98,111,111,108]):aF fs e_ (d+1) a p=[.push (bV (a.x_==[116,114,117,101]))]:=by rw[aF];simp[h]
def U2(h:a.op=[110,97,109,101]):aF fs e_ (d+1) a p=[.load (dV e_ a.x_)]:=by rw[aF];simp[h]
def ZO(h:a.op=[108,105,115,116]):aF fs e_ (d+1) a p=bW (aF fs e_ d) a.y_ p++[.list a.y_.length]:=by rw[aF];simp[h]
def UE(h:a.op=[105,110,100,101,120]):aF fs e_ (d+1) a p=bW (aF fs e_ d) a.y_ p++[.index]:=by rw[aF];simp[h]
def UC(o:UInt8)(b:o=45\/o=33)(h:a.op=[o,120]):aF fs e_ (d+1) a p=bW (aF fs e_ d) a.y_ p++[.unary [o]]:=by
 rw[aF];rcases b with rfl|rfl<;>simp[h]
def GH(h:a.op=[99,97,108,108]):aF fs e_ (d+1) a p=bW (aF fs e_ d) a.y_ p++[if a.x_==[108,101,110] then .length else if a.x_==[114,101,97,100] then .read else .call (dG fs a.x_) a.y_.length]:=by rw[aF];simp[h]
def UD(b:Bool)(l r:aE)(h:a.op=if b then [124,124] else [38,38])(c:a.y_=[l,r]):aF fs e_ (d+1) a p=
 aF fs e_ d l p++[.shortcut b (p+(aF fs e_ d l p).length+1+(aF fs e_ d r (p+(aF fs e_ d l p).length+1)).length+1)]++aF fs e_ d r (p+(aF fs e_ d l p).length+1)++[.truth]:=by
 rw[aF];cases b<;>simp[h,c]
def OY(h:cK a.op≠9)(b:a.op≠[38,38])(c:a.op≠[124,124]):aF fs e_ (d+1) a p=bW (aF fs e_ d) a.y_ p++[.binary a.op]:=by
 rcases oG h with e|e|e|e|e|e|e|e|e|e|e
 all_goals first|exact absurd e c|exact absurd e b|(rw[aF];simp[e])
end
def LA:∀(l:cC) (n k:Nat),n<=9223372036854775807->dQ n l=some k->k<=9223372036854775807
 |[],n,k,b,h=>by rw[dQ] at h;cases h;exact b
 |c::r,n,k,b,h=>by
  rw[dQ] at h;split at h
  ·cases h
  ·rename_i a;refine LA r _ k ?_ h;have e:=jh c;have d:OM=9223372036854775807:=rfl;rw[d] at a;omega
section
variable {fp:eK} {fb:Nat->Nat} {nms:cN} {cb:Nat} {F:bY} {w w':aG} {code:List (Option aI)} {e_:cN}
def CP.patch{a b:List (Option aI)}(h:CP fp fb nms cb F w (a++none::b) e_):
 ∃g c,w.cell? (aH cb 1)=some (.slice (some (aH g 0)) (a++none::b).length c)/\(∃x,w.cell? (aH g a.length)=some x)/\w.frozen? (aH g a.length)=false/\g<w.heap.size/\
  ∀u i l,lN fp F w u i->aU (w.setCell (aH g a.length) u) l->CP fp fb nms cb F l (a++some i::b) e_/\FB cb cb w l:=by
 obtain⟨fv,cv,Z,A,⟨U,G,s⟩,O,P⟩:=h.blk;have K:=h.lt;have hl:(a++none::b).length=a.length+b.length+1:=t_
 rcases G.2 with ⟨_,I⟩|⟨g,c,q,rfl,I,t,L,T,H,N⟩
 ·omega
 have E:=aC t;have r:∃x,q[a.length]?=some x:=⟨_,ez (by rw[H];omega)⟩
 obtain⟨x,W⟩:=r;refine⟨g,c,aA A rfl,⟨x,aA t W⟩,aD t,E,λu i l V p=>?_⟩
 have n:∀k,k≠g->l.heap[k]?=w.heap[k]?:=λk n=>by rw[p.heap,ei _ _ _ _ n]
 have z:lS cb w=some g:=jF A;have y:l.heap[cb]?=_:=(n cb o_).trans A
 have d:FB cb cb w l:=⟨⟨p.os.trans rfl,p.tape.trans rfl,p.output.trans rfl,by rw[p.heap];simp,λk M=>n k o_⟩,λk _ _ s=>n k λe=>s (by rw[z,e]),λk e=>d7 (by rw[pW (n cb o_)] at e;exact e)⟩
 have v:=h.fixed d;refine⟨h.step (xs':=U.set a.length u) d y ⟨by rw[im,G.1];simp,d6 ⟨g,c,q.setIfInBounds a.length u,s_,I,by rw[p.heap];exact aK t,by simpa using L,T,by simpa using H,?_⟩⟩ ?_ (eF.keep v dP O) (P.keep v dP d.bel.size),d⟩
 ·rw[jy,jz,<-N];simp
 ·have C:=s.keep v dP;refine⟨by simp[s.1],λj o f=>?_⟩
  by_cases J:j=a.length
  ·subst J;rw[gl cL] at f;simp at f;subst f;exact⟨u,by rw[List.getElem?_set_self (by rw[s.1];omega)],lN.keep V v dP⟩
  ·have B:(a++none::b)[j]?=some o:=by
    rcases fu j a.length with D|D
    ·rw[hQ D] at f ⊢;exact f
    ·rw[gl D] at f ⊢
     obtain⟨m,X⟩:∃m,j-a.length=m+1:=⟨j-a.length-1,o_⟩
     rw[X] at f ⊢
     simpa using f
   obtain⟨S,Y,Q⟩:=C.2 j o B;exact⟨S,by rw[List.getElem?_set_ne (λe=>J e.symm)];exact Y,Q⟩
end
def gX(fp:eK)(fb:Nat->Nat)(nms:cN)(cb:Nat)(F:bY)(w:aG)(code:List (Option aI))(e_:cN)(w':aG):Prop:=
 CP fp fb nms cb F w' code e_/\FB cb cb w w'
def IL(fp:eK)(fb:Nat->Nat)(fs:List aE)(cb lo:Nat)(F:bY)(a_:Bool)(e_:cN)(d:Nat):Prop:=
 ∀(v:aQ) (a:aE) (code:List (Option aI)) (w:aG),CP fp fb (fs.map (·.x_)) cb F w code e_->PN (Btw lo cb) w v a->Hs.ExOk fs a_ e_ d a->pI d a->code.length+(aF fs e_ d a code.length).length<=1000000->
  Calls prog 118 #[aZ cb,v] w λe w'=>e=aX (.tuple #[])/\gX fp fb (fs.map (·.x_)) cb F w (code++(aF fs e_ d a code.length).map some) e_ w'
section
variable {fp:eK} {fb:Nat->Nat} {fs:List aE} {cb lo:Nat} {F:bY} {a_:Bool} {e_:cN} {d:Nat}
def gX.then{w w1 w':aG}{b:cN}{a:List (Option aI)}(c:FB cb cb w w1)(h:gX fp fb b cb F w1 a e_ w'):gX fp fb b cb F w a e_ w':=⟨h.1,c.trans h.2⟩
def PKid.sliceC{F:bY}{w:aG}{v:aQ}{l:List aE}(h:PKid F w v l):∃x c,v=.slice x l.length c:=by
 rcases h.get with ⟨rfl,rfl⟩|⟨g,a,rfl,_⟩
 ·exact⟨none,0,rfl⟩
 ·exact⟨_,_,rfl⟩
def ExOk.op{fs:List aE}{a_:Bool}{e_:cN}{d:Nat}{a:aE}(h:Hs.ExOk fs a_ e_ (d+1) a):
 (∀k∈a.y_,Hs.ExOk fs a_ e_ d k)/\(a.op=[110,97,109,101]->a.x_∈e_)/\
   (a.op=[99,97,108,108]->a.x_=[108,101,110]\/a.x_=[114,101,97,100]\/(a.x_≠[108,101,110]/\a.x_≠[114,101,97,100]/\fZ fs (dG fs a.x_)=some a.y_.length)):=by
 have m:∀{l r:aE},a.y_=[l,r]->Hs.ExOk fs a_ e_ d l->Hs.ExOk fs a_ e_ d r->∀k∈a.y_,Hs.ExOk fs a_ e_ d k:=λe b c k f=>by
  rw[e] at f;simp at f;rcases f with rfl|rfl
  ·exact b
  ·exact c
 have j:∀{x y:cC} {p:Prop},a.op=x->x≠y->a.op=y->p:=λs q t=>absurd (s.symm.trans t) q
 rcases h with ⟨b,i⟩|⟨b,i,c⟩|⟨b,c⟩|⟨b,l,r,i,c,g⟩|⟨b,l,i,c⟩|⟨b,c,g⟩|⟨b,l,r,i,c,g⟩
 ·refine⟨λk f=>absurd f (by rw[i];simp),?_,?_⟩<;>rcases b with b|b|b<;>exact j b d_
 ·exact⟨λk f=>absurd f (by rw[i];simp),λ_=>c,j b d_⟩
 ·exact⟨c,j b d_,j b d_⟩
 ·exact⟨m i c g,j b d_,j b d_⟩
 ·refine⟨λk f=>?_,?_,?_⟩
  ·rw[i] at f;simp at f;rw[f];exact c
  all_goals rcases b with b|b<;>exact j b d_
 ·refine⟨c,j b d_,λ_=>?_⟩
  rcases g with ⟨g,_⟩|⟨g,_⟩|⟨g,n,_,o⟩
  ·exact d7 g
  ·exact d6 (d7 g)
  ·exact d6 (d6 ⟨g,n,o⟩)
 ·refine⟨m i c g,λe=>?_,λe=>?_⟩<;>(exfalso;rw[e] at b;exact b rfl)
def tZ(H:IL fp fb fs cb lo F a_ e_ d)(v:aQ)(l:List aE)(b:List (Option aI))(w:aG)(h:CP fp fb (fs.map (·.x_)) cb F w b e_)(J:PKid (Btw lo cb) w v l)(E:∀a∈l,Hs.ExOk fs a_ e_ d a)(y:∀a∈l,pI d a)(G:l.length<=1000000)(L:b.length+(bW (aF fs e_ d) l b.length).length<=1000000):
 Calls prog 157 #[aZ cb,v] w λe w'=>e=aX (.tuple #[])/\gX fp fb (fs.map (·.x_)) cb F w (b++(bW (aF fs e_ d) l b.length).map some) e_ w':=by
 rcases J.get with ⟨rfl,rfl⟩|⟨g,s,rfl,B,z,A,K⟩
 ·refine(U1 w cb).mono ?_;rintro e w' ⟨rfl,rfl⟩;exact⟨rfl,by simpa [bW] using h,FB.refl _⟩
 ·refine(ZN w cb g l.length s (λj W=>j<=l.length/\gX fp fb (fs.map (·.x_)) cb F w (b++(bW (aF fs e_ d) (l.take j) b.length).map some) e_ W) G ⟨ft _,by simpa [bW] using h,FB.refl _⟩ (λj W C n=>?_)).mono ?_
  ·obtain⟨_,q,f⟩:=C;obtain⟨u,I,i⟩:=K j n;obtain⟨T,D,rfl⟩:=i.form;have r:l.take (j+1)=l.take j++[l[j]]:=gu n;have m:bW (aF fs e_ d) (l.take (j+1)) b.length=bW (aF fs e_ d) (l.take j) b.length++aF fs e_ d l[j] (b.length+(bW (aF fs e_ d) (l.take j) b.length).length):=by rw[r,oV,EX]
   have k:(bW (aF fs e_ d) (l.take (j+1)) b.length).length<=(bW (aF fs e_ d) l b.length).length:=by
    have e:l=l.take (j+1)++l.drop (j+1):=(g9 _ _).symm;have:=congrArg (λx=>(bW (aF fs e_ d) x b.length).length) e
    simp only[oV,el] at this;omega
   have o:(b++(bW (aF fs e_ d) (l.take j) b.length).map some).length=b.length+(bW (aF fs e_ d) (l.take j) b.length).length:=s_
   refine⟨ej z f.bel.size,T,.agg D,by rw[f.bel.cell (p:=(aH g j)) B.2];exact I,(H _ l[j] _ W q (i.below f.bel) (E _ (fo n)) (y _ (fo n)) ?_).mono ?_⟩
   ·rw[o];rw[m,el] at k;omega
   ·rintro e w' ⟨t,c⟩;refine⟨t,n,?_⟩;rw[o] at c;rw[m,gi,<-gr];exact c.then f
  ·rintro e w' ⟨t,_,c⟩;rw[gv cL] at c;exact⟨t,c⟩
def emits{c:cN}{w W:aG}{a:List (Option aI)}{u:aQ}{i:aI}(b:gX fp fb c cb F w a e_ W)(h:lN fp F W u i)(j:a.length+1<=1000000):
 Calls prog 132 #[aZ cb,u] W λe w'=>(∃k:Nat,e=aX (I_ k))/\gX fp fb c cb F w (a++[some i]) e_ w':=by
 refine(tC (o:=some i) b.1 h o_).mono ?_
 rintro e w' ⟨d,g,f⟩;exact⟨⟨_,d⟩,g,b.2.trans f⟩
def GD(fs:List aE)(x:cC):(fs.map (·.x_)).findIdx (λy=>y==x)=dG fs x:=by
 unfold dG;induction fs with
 |nil=>rfl
 |cons f fs a=>simp only[fg,List.findIdx_cons,a]
def gG(a:List (Option aI))(c:List aI):(a++c.map some).length=a.length+c.length:=s_
def B6(IH:IL fp fb fs cb lo F a_ e_ d)(bo:e_.length<=1000000)(bu:fs.length<=1000000)(ba:∀k,k<fs.length->fp k=aZ (fb k)):IL fp fb fs cb lo F a_ e_ (d+1):=by
 intro v a j w h ca aw bv n;obtain⟨T,B,ps,rfl,cc,bq⟩:=ca.parts;obtain⟨au,ap,C⟩:=bv;have H:=ExOk.op aw;obtain⟨X,af⟩:=h.new (.cells B T)
 have E:∀p∈ps,Prt.ok (Btw lo cb) (w.alloc (.cells B T)) p:=λp Z=>by
  rcases bq p Z with ⟨A,b,h2,h3⟩|⟨A,h2⟩
  ·exact d7 ⟨A,b,h2,h3.below X.fb.bel⟩
  ·exact d6 ⟨A,PKid.below h2 X.fb.bel⟩
 have ab:∀{W:aG} {c:List (Option aI)},gX fp fb (fs.map (·.x_)) cb F (w.alloc (.cells B T)) c e_ W->W.heap[w.heap.size]?=some (.cells B T (0,0)):=λu=>(X.step u.2).blk
 have I:∀{c:List (Option aI)} {e:Ending} {W:aG},(e=aX (.tuple #[])/\gX fp fb (fs.map (·.x_)) cb F (w.alloc (.cells B T)) c e_ W)->(e=aX (.tuple #[])/\gX fp fb (fs.map (·.x_)) cb F w c e_ W):=λm=>⟨m.1,m.2.then X.fb⟩
 have G:gX fp fb (fs.map (·.x_)) cb F (w.alloc (.cells B T)) j e_ (w.alloc (.cells B T)):=⟨af,FB.refl _⟩
 have ce:(w.alloc (.cells B T)).heap.size=w.heap.size+1:=s_
 have am:∀{W:aG} {v:aQ} {k:aE} {c:List (Option aI)},gX fp fb (fs.map (·.x_)) cb F (w.alloc (.cells B T)) c e_ W->Prt.ok (Btw lo cb) (w.alloc (.cells B T)) ⟨v,[k],true⟩->Hs.ExOk fs a_ e_ d k->pI d k->c.length+(aF fs e_ d k c.length).length<=1000000->
  Calls prog 118 #[aZ cb,v] W λe P=>e=aX (.tuple #[])/\gX fp fb (fs.map (·.x_)) cb F (w.alloc (.cells B T)) (c++(aF fs e_ d k c.length).map some) e_ P:=λu Z hx hl hn=>
  (IH _ _ _ _ u.1 (Z.one'.below u.2.bel) hx hl hn).mono λe P m=>⟨m.1,m.2.then u.2⟩
 have ag:∀{W:aG} {v:aQ} {l:List aE} {c:List (Option aI)},gX fp fb (fs.map (·.x_)) cb F (w.alloc (.cells B T)) c e_ W->Prt.ok (Btw lo cb) (w.alloc (.cells B T)) ⟨v,l,false⟩->(∀k∈l,Hs.ExOk fs a_ e_ d k)->(∀k∈l,pI d k)->l.length<=1000000->c.length+(bW (aF fs e_ d) l c.length).length<=1000000->
  Calls prog 157 #[aZ cb,v] W λe P=>e=aX (.tuple #[])/\gX fp fb (fs.map (·.x_)) cb F (w.alloc (.cells B T)) (c++(bW (aF fs e_ d) l c.length).map some) e_ P:=λu Z hx hl bw hn=>
  (tZ IH _ _ _ _ u.1 (Z.many.below u.2.bel) hx hl bw hn).mono λe P m=>⟨m.1,m.2.then u.2⟩
 rcases cc with ⟨rfl,k,rfl,s,av,r,rfl⟩|⟨rfl,rfl,s,r,rfl⟩|⟨rfl,rfl,s,r,rfl⟩|⟨rfl,sv,rfl,s,rfl⟩|⟨rfl,sv,rfl,s,rfl⟩|⟨rfl,rfl,s,r,rfl⟩|⟨rfl,l,v1,v2,S,a2,rfl,s,r,rfl⟩|⟨rfl,o,v1,S,rfl,bk,s,r,rfl⟩|⟨rfl,l,v1,v2,S,a2,rfl,s,r,rfl⟩|aj
 ·-- a number
  rw[U4 fs e_ d a _ s,av] at n ⊢
  have hk:=LA _ _ _ o_ av
  exact(uS w cb a.l_ k _ (emits (i:=.push (bH k)) G ⟨_,rfl,PV.num _ _ _ o_ o_,by rw[kZ];omega⟩ (by simp at n;omega))).mono λ_ _=>I
 ·rw[U3 fs e_ d a _ s] at n ⊢
  exact(JX w cb a.l_ _ _ (emits (i:=.push (bP a.x_)) G ⟨_,rfl,PV.str _ _ _,by rw[lL];have:=(au s).1;omega⟩ (by simp at n;omega))).mono λ_ _=>I
 ·rw[ZP fs e_ d a _ s] at n ⊢
  exact(UG w cb a.l_ _ _ (emits (i:=.push (bV (a.x_==[116,114,117,101]))) G ⟨_,rfl,PV.tru _ _ _,by rw[mP];omega⟩ (by simp at n;omega))).mono λ_ _=>I
 ·-- a list
  rw[ZO fs e_ d a _ s] at n ⊢
  rw[el,iy] at n;have D:=H.1;have Z:=E ⟨sv,a.y_,false⟩ s_
  obtain⟨x,c,rfl⟩:=Z.many.sliceC;refine(UF w cb a.y_.length c a.l_ x _ _ (ag G Z D C ap o_) (λW m=>⟨aA (ab m) rfl,aC (ab m)⟩) (λW m=>emits (i:=.list a.y_.length) m rfl (by rw[gG];omega))).mono ?_
  intro e W m;rw[gi,<-gr];exact I m
 ·-- a call
  rw[GH fs e_ d a _ s] at n ⊢
  rw[el,iy] at n;have D:=H.1;have ao:=H.2.2 s;have Z:=E ⟨sv,a.y_,false⟩ s_
  obtain⟨x,c,rfl⟩:=Z.many.sliceC;obtain⟨z,V⟩:=af.new (.cells #[I_ a.l_,.string (bs a.x_),.slice x a.y_.length c] 214);generalize N:w.alloc (.cells #[I_ a.l_,.string (bs a.x_),.slice x a.y_.length c] 214)=q at*;have Y:gX fp fb (fs.map (·.x_)) cb F q j e_ (q.alloc (.cells #[I_ a.l_,.string (bs a.x_),.slice x a.y_.length c] 214)):=⟨V,z.fb⟩
  have hx:=ag Y Z D C ap o_
  have cd:q.heap.size<q.heap.size+1:=gj _;have bj:∀{W:aG},FB cb cb (q.alloc (.cells #[I_ a.l_,.string (bs a.x_),.slice x a.y_.length c] 214)) W->W.heap[q.heap.size]?=some (.cells #[I_ a.l_,.string (bs a.x_),.slice x a.y_.length c] 214 (0,0)):=λbx=>(z.step bx).blk
  have M:Calls prog 157 #[aZ cb,.slice x a.y_.length c] (q.alloc (.cells #[I_ a.l_,.string (bs a.x_),.slice x a.y_.length c] 214)) λe P=>e=aX (.tuple #[])/\(gX fp fb (fs.map (·.x_)) cb F q (j++(bW (aF fs e_ d) a.y_ j.length).map some) e_ P/\P.heap[q.heap.size]?=some (.cells #[I_ a.l_,.string (bs a.x_),.slice x a.y_.length c] 214 (0,0))):=by
   refine(tZ IH _ _ _ _ V (Z.many.below z.fb.bel) D C ap o_).mono ?_
   rintro e P ⟨he,u⟩;exact⟨he,u.then z.fb,bj u.2⟩
  have ae:∀{i:aI} {e:Ending} {W:aG},(e=aX (.tuple #[])/\gX fp fb (fs.map (·.x_)) cb F q ((j++(bW (aF fs e_ d) a.y_ j.length).map some)++[some i]) e_ W)->e=aX (.tuple #[])/\gX fp fb (fs.map (·.x_)) cb F w (j++(bW (aF fs e_ d) a.y_ j.length++[i]).map some) e_ W:=λm=>by
   rw[gi,<-gr];exact I m
  have ak:(j++(bW (aF fs e_ d) a.y_ j.length).map some).length+1<=1000000:=by rw[gG];omega
  rcases ao with ai|ai|⟨bc,bd,ah⟩
  ·rw[ai] at M N ⊢
   refine(tA w cb a.y_.length c a.l_ _ x (λW=>gX fp fb (fs.map (·.x_)) cb F q ((j++(bW (aF fs e_ d) a.y_ j.length).map some)++[some .length]) e_ W) (by rw[N];exact VK q cb a.y_.length c a.l_ x _ _ M (λW m=>⟨aA m.2 rfl,aC m.2⟩) (λW m=>emits (i:=.length) m.1 rfl ak))).mono ?_
   intro e W m;exact ae m
  ·rw[ai] at M N ⊢
   refine(tA w cb a.y_.length c a.l_ _ x (λW=>gX fp fb (fs.map (·.x_)) cb F q ((j++(bW (aF fs e_ d) a.y_ j.length).map some)++[some .read]) e_ W) (by rw[N];exact MN q cb a.y_.length c a.l_ x _ _ M (λW m=>⟨aA m.2 rfl,aC m.2⟩) (λW m=>emits (i:=.read) m.1 rfl ak))).mono ?_
   intro e W m;exact ae m
  ·have al:dG fs a.x_<fs.length:=by
    unfold fZ at ah;cases hf:fs[dG fs a.x_]? with
    |none=>rw[hf] at ah;cases ah
    |some f=>exact(gq.1 hf).1
   have az:a.x_∈fs.map (·.x_):=by
    have h9:=al;unfold dG at h9;have:=ka (w:=h9);exact gz.2 ⟨_,fo h9,by simpa using this⟩
   have e1:(a.x_==[108,101,110])=false:=by simpa using bc
   have e2:(a.x_==[114,101,97,100])=false:=by simpa using bd
   rw[e1,e2];refine(tA w cb a.y_.length c a.l_ _ x (λW=>gX fp fb (fs.map (·.x_)) cb F q ((j++(bW (aF fs e_ d) a.y_ j.length).map some)++[some (.call (dG fs a.x_) a.y_.length)]) e_ W) ?_).mono ?_
   ·rw[N];refine IB q cb a.y_.length c (fb (dG fs a.x_)) a.l_ a.x_ x _ _ bc bd M (λW m=>⟨aA m.2 rfl,aA m.2 rfl,aC m.2⟩) (λW W' m hS=>?_) (λW W' m hS=>?_)
    ·refine(vC a.x_ (m.1.1.grow hS.below) az (by simpa using bu)).mono ?_
     rintro e P ⟨he,bm⟩;rw[GD,ba _ al] at he;exact⟨he,bm⟩
    ·have bt:gX fp fb (fs.map (·.x_)) cb F q (j++(bW (aF fs e_ d) a.y_ j.length).map some) e_ W':=⟨m.1.1.grow hS.below,m.1.2.trans (FB.of_lt hS.below m.1.1.lt)⟩
     exact emits (i:=.call (dG fs a.x_) a.y_.length) bt (by show _=_;rw[ba _ al]) ak
   ·intro e W m;exact ae m
 ·-- a variable
  rw[U2 fs e_ d a _ s] at n ⊢
  have hm:=H.2.1 s;exact(CT w cb a.l_ _ (dV e_ a.x_) _ (RN a.x_ af hm bo) (emits (i:=.load (dV e_ a.x_)) G rfl (by simp at n;omega))).mono λ_ _=>I
 ·-- an index
  rw[UE fs e_ d a _ s,r,RQ] at n ⊢
  rw[el,el,iy] at n;have D:=H.1;have L:=E ⟨v1,[S],true⟩ s_
  have ac:=E ⟨v2,[a2],true⟩ s_
  obtain⟨T1,Q,rfl⟩:=L.one'.form;obtain⟨T2,U,rfl⟩:=ac.one'.form;refine(PA w cb l T1 T2 _ _ _ _ _ (am G L (D S (by rw[r];simp)) (C S (by rw[r];simp)) o_) (λW m=>⟨aA (ab m) rfl,aC (ab m)⟩) (λW m=>am m ac (D a2 (by rw[r];simp)) (C a2 (by rw[r];simp)) (by rw[gG];omega)) (λW m=>emits (i:=.index) m rfl (by simp only[gG];omega))).mono ?_
  intro e W m;rw[gG] at m;rw[gi,gi,<-gr,<-gr];exact I m
 ·-- one operand
  rw[UC fs e_ d a _ o bk s,r,EX] at n ⊢
  rw[el,iy] at n;have D:=H.1;have L:=E ⟨v1,[S],true⟩ s_
  obtain⟨T1,Q,rfl⟩:=L.one'.form;refine(OZ w cb a.l_ _ T1 _ _ _ (am G L (D S (by rw[r];simp)) (C S (by rw[r];simp)) o_) (λW m=>⟨aA (ab m) rfl,aC (ab m)⟩) (λW m=>emits (i:=.unary [o]) m rfl (by rw[gG];omega))).mono ?_
  intro e W m;rw[gi,<-gr];exact I m
 ·-- two operands
  have D:=H.1;have L:=E ⟨v1,[S],true⟩ s_
  have ac:=E ⟨v2,[a2],true⟩ s_
  obtain⟨T1,Q,rfl⟩:=L.one'.form;obtain⟨T2,U,rfl⟩:=ac.one'.form;have bf:=D S (by rw[r];simp)
  have M:=D a2 (by rw[r];simp)
  have ax:=C S (by rw[r];simp)
  have bb:=C a2 (by rw[r];simp)
  generalize J:(#[I_ (l:Nat),.string (bs a.op),.iface T1 (.agg Q),.iface T2 (.agg U)]:Array Value)=B at*;obtain⟨z,V⟩:=af.new (.cells B 225);have Y:gX fp fb (fs.map (·.x_)) cb F (w.alloc (.cells B 225)) j e_ ((w.alloc (.cells B 225)).alloc (.cells B 225)):=⟨V,z.fb⟩
  generalize N:w.alloc (.cells B 225)=q at*
  have aa:∀{W:aG} {v:aQ} {k:aE} {c:List (Option aI)},(gX fp fb (fs.map (·.x_)) cb F q c e_ W/\Loc cb cb q q.heap.size (.cells B 225) W)->Prt.ok (Btw lo cb) q ⟨v,[k],true⟩->Hs.ExOk fs a_ e_ d k->pI d k->c.length+(aF fs e_ d k c.length).length<=1000000->
   Calls prog 118 #[aZ cb,v] W λe P=>e=aX (.tuple #[])/\(gX fp fb (fs.map (·.x_)) cb F q (c++(aF fs e_ d k c.length).map some) e_ P/\Loc cb cb q q.heap.size (.cells B 225) P):=λu Z hx hl hn=>
   (IH _ _ _ _ u.1.1 (Z.one'.below u.1.2.bel) hx hl hn).mono λe P m=>⟨m.1,m.2.then u.1.2,u.2.step m.2.2⟩
  have t:∀{W:aG},Loc cb cb q q.heap.size (.cells B 225) W->W.cell? (aH q.heap.size 1)=some (.string (bs a.op))/\W.cell? (aH q.heap.size 3)=some (.iface T2 (.agg U))/\q.heap.size<W.heap.size:=λhL=>⟨aA hL.blk (by rw[<-J];rfl),aA hL.blk (by rw[<-J];rfl),aC hL.blk⟩
  by_cases ad:a.op=[38,38]\/a.op=[124,124]
  ·obtain⟨b,hb⟩:∃b:Bool,a.op=if b then [124,124] else [38,38]:=by
    rcases ad with e|e
    ·exact⟨false,e⟩
    ·exact⟨true,e⟩
   rw[UD fs e_ d a _ b S a2 hb r] at n ⊢
   generalize bi:aF fs e_ d S j.length=K at*;generalize bh:aF fs e_ d a2 (j.length+K.length+1)=cr at*;simp only[el,iy] at n
   have O:=PX q cb (j.length+K.length) l b a.op T1 T2 (.agg Q) (.agg U) (λW=>gX fp fb (fs.map (·.x_)) cb F q (j++K.map some++some (.shortcut b (j.length+K.length+1+cr.length+1))::(cr.map some++[some .truth])) e_ W)
    (λW=>gX fp fb (fs.map (·.x_)) cb F q (j++K.map some) e_ W/\Loc cb cb q q.heap.size (.cells B 225) W)
    (λW=>gX fp fb (fs.map (·.x_)) cb F q (j++K.map some++[none]) e_ W/\Loc cb cb q q.heap.size (.cells B 225) W)
    (λW=>gX fp fb (fs.map (·.x_)) cb F q (j++K.map some++[none]++cr.map some) e_ W/\Loc cb cb q q.heap.size (.cells B 225) W)
    (λW=>gX fp fb (fs.map (·.x_)) cb F q (j++K.map some++[none]++cr.map some++[some .truth]) e_ W/\Loc cb cb q q.heap.size (.cells B 225) W) hb
    (by
      rw[J];have:=aa (c:=j) ⟨Y,z⟩ L bf ax (by rw[bi];omega)
      rw[bi] at this;exact this)
    (λW m=>⟨(t m.2).1,(t m.2).2.2⟩)
    (λW m=>(tC (o:=none) m.1.1 rfl (by rw[gG];omega)).mono λe P hr=>⟨by rw[hr.1,gG],⟨hr.2.1,m.1.2.trans hr.2.2⟩,m.2.step hr.2.2⟩)
    (λW m=>⟨(t m.2).2.1,(t m.2).2.2⟩)
    (λW m=>by
      have ay:(j++K.map some++[none]).length=j.length+K.length+1:=t_
      have:=aa m ac M bb (by rw[ay,bh];omega)
      rw[ay,bh] at this;exact this)
    (λW m=>(tC (o:=some .truth) m.1.1 rfl t_).mono λe P hr=>⟨⟨_,hr.1⟩,⟨hr.2.1,m.1.2.trans hr.2.2⟩,m.2.step hr.2.2⟩)
    (λW m=>by
      obtain⟨⟨aq,bp⟩,hL⟩:=m;have e0:j++K.map some++[none]++cr.map some++[some aI.truth]=(j++K.map some)++none::(cr.map some++[some aI.truth]):=s_
      rw[e0] at aq;have bn:=aq.lt;obtain⟨g,c,p1,p2,p3,p4,p5⟩:=aq.patch;have br:(j++K.map some).length=j.length+K.length:=gG _ _;have bz:((j++K.map some)++none::(cr.map some++[some aI.truth])).length=j.length+K.length+1+cr.length+1:=t_
      rw[br] at p2 p3 p5;rw[bz] at p1;refine⟨(t hL).1,(t hL).2.2,bn,g,_,c,p1,o_,o_,p2,p3,p4,λW' hS=>?_⟩
      obtain⟨q1,q2⟩:=p5 _ (.shortcut b (j.length+K.length+1+cr.length+1)) W' rfl hS;exact⟨q1,bp.trans q2⟩)
   rw[J] at O;rw[<-J];refine(uT w cb l (bs a.op) T1 T2 (.agg Q) (.agg U) _ (by rw[J,N];exact O)).mono ?_
   intro e W m;have e9:j++(K++[aI.shortcut b (j.length+K.length+1+cr.length+1)]++cr++[aI.truth]).map some=j++K.map some++some (.shortcut b (j.length+K.length+1+cr.length+1))::(cr.map some++[some .truth]):=s_
   rw[e9];exact I m
  ·have ar:a.op≠[38,38]:=λe=>ad (d7 e)
   have bg:a.op≠[124,124]:=λe=>ad (d6 e)
   rw[OY fs e_ d a _ s ar bg,r,RQ] at n ⊢
   simp only[el,iy] at n
   have O:=PY q cb l a.op T1 T2 (.agg Q) (.agg U) (λW=>gX fp fb (fs.map (·.x_)) cb F q (j++(aF fs e_ d S j.length).map some++(aF fs e_ d a2 (j.length+(aF fs e_ d S j.length).length)).map some++[some (.binary a.op)]) e_ W) _ _ ar bg
    (by rw[J];exact aa (c:=j) ⟨Y,z⟩ L bf ax o_)
    (λW m=>t m.2)
    (λW m=>aa m ac M bb (by rw[gG];omega))
    (λW m=>⟨(t m.2).1,(t m.2).2.2⟩)
    (λW m=>by
      obtain⟨be,cf⟩:=m;rw[gG] at be;exact emits (i:=.binary a.op) be rfl (by simp only[gG];omega))
   rw[J] at O;rw[<-J];refine(uT w cb l (bs a.op) T1 T2 (.agg Q) (.agg U) _ (by rw[J,N];exact O)).mono ?_
   intro e W m;rw[gi,gi,<-gr,<-gr];exact I m
 ·-- no expression
  exfalso
  have bl:∀x∈([[118,97,114],[115,101,116],[105,102],[119,104,105,108,101],[114,101,116,117,114,110],[112,114,105,110,116],[100,111]]:cN),a.op≠x:=λx hx e=>by
   have hc:∀y∈([[48],[115],[98,111,111,108],[110,97,109,101],[108,105,115,116],[105,110,100,101,120],[45,120],[33,120],[99,97,108,108],[124,124],[38,38],[61,61],[33,61],[60],[60,61],[43],[45],[42],[47],[37]]:cN),a.op≠y:=λy hy e2=>by
    rw[e] at e2;subst e2;simp at hx hy;rcases hx with rfl|rfl|rfl|rfl|rfl|rfl|rfl<;>simp at hy
   rcases aw with ⟨A,_⟩|⟨A,_⟩|⟨A,_⟩|⟨A,_⟩|⟨A,_⟩|⟨A,_⟩|⟨A,_⟩
   ·rcases A with A|A|A<;>exact hc _ s_ A
   ·exact hc _ s_ A
   ·exact hc _ s_ A
   ·exact hc _ s_ A
   ·rcases A with A|A<;>exact hc _ s_ A
   ·exact hc _ s_ A
   ·rcases oG A with e|e|e|e|e|e|e|e|e|e|e<;>exact hc _ s_ e
  rcases aj with ⟨_,_,_,_,_,A,_⟩|⟨_,_,_,_,_,_,A,_⟩|⟨_,_,_,_,_,_,A,_⟩|⟨_,_,_,_,_,_,_,_,A,_⟩|⟨_,_,_,_,_,_,A,_⟩|⟨_,_,_,A,_⟩|⟨_,_,_,_,A,_⟩|⟨_,_,_,_,A,_⟩|⟨_,_,_,_,A,_⟩
  all_goals exact bl _ s_ A
def qE(c:e_.length<=1000000)(a:fs.length<=1000000)(b:∀k,k<fs.length->fp k=aZ (fb k)):∀d,IL fp fb fs cb lo F a_ e_ d
 |0=>λ_ _ _ _ _ _ h=>h.elim
 |d+1=>B6 (qE c a b d) c a b
end
section
variable(v:aQ)(w:aG)
def vS:(typeAssert (.iface 200 v) 67 200 true).run prog w=.ok (.tuple #[v,.bool true]) w:=k_
def xA:(typeAssert (.iface 203 v) 67 200 true).run prog w=.ok (.tuple #[.agg #[I_ 0,I_ 0,.string ⟨#[]⟩,.nilIface],.bool false]) w:=k_
def yV:(typeAssert (.iface 203 v) 67 203 true).run prog w=.ok (.tuple #[v,.bool true]) w:=k_
def JH:(typeAssert (.iface 207 v) 67 200 true).run prog w=.ok (.tuple #[.agg #[I_ 0,I_ 0,.string ⟨#[]⟩,.nilIface],.bool false]) w:=k_
def NX:(typeAssert (.iface 207 v) 67 203 true).run prog w=.ok (.tuple #[.agg #[I_ 0,.string ⟨#[]⟩,bG,.nilIface],.bool false]) w:=k_
def p9:(typeAssert (.iface 207 v) 67 207 true).run prog w=.ok (.tuple #[v,.bool true]) w:=k_
def yR:(typeAssert (.iface 209 v) 67 200 true).run prog w=.ok (.tuple #[.agg #[I_ 0,I_ 0,.string ⟨#[]⟩,.nilIface],.bool false]) w:=k_
def CG:(typeAssert (.iface 209 v) 67 203 true).run prog w=.ok (.tuple #[.agg #[I_ 0,.string ⟨#[]⟩,bG,.nilIface],.bool false]) w:=k_
def RU:(typeAssert (.iface 209 v) 67 207 true).run prog w=.ok (.tuple #[.agg #[I_ 0,.nilIface,bG,bG],.bool false]) w:=k_
def EY:(typeAssert (.iface 209 v) 67 209 true).run prog w=.ok (.tuple #[v,.bool true]) w:=k_
def wZ:(typeAssert (.iface 211 v) 67 200 true).run prog w=.ok (.tuple #[.agg #[I_ 0,I_ 0,.string ⟨#[]⟩,.nilIface],.bool false]) w:=k_
def yT:(typeAssert (.iface 211 v) 67 203 true).run prog w=.ok (.tuple #[.agg #[I_ 0,.string ⟨#[]⟩,bG,.nilIface],.bool false]) w:=k_
def NW:(typeAssert (.iface 211 v) 67 207 true).run prog w=.ok (.tuple #[.agg #[I_ 0,.nilIface,bG,bG],.bool false]) w:=k_
def CH:(typeAssert (.iface 211 v) 67 209 true).run prog w=.ok (.tuple #[.agg #[I_ 0,.nilIface,bG],.bool false]) w:=k_
def yS:(typeAssert (.iface 211 v) 67 211 true).run prog w=.ok (.tuple #[v,.bool true]) w:=k_
def yU:(typeAssert (.iface 212 v) 67 200 true).run prog w=.ok (.tuple #[.agg #[I_ 0,I_ 0,.string ⟨#[]⟩,.nilIface],.bool false]) w:=k_
def CL:(typeAssert (.iface 212 v) 67 203 true).run prog w=.ok (.tuple #[.agg #[I_ 0,.string ⟨#[]⟩,bG,.nilIface],.bool false]) w:=k_
def RV:(typeAssert (.iface 212 v) 67 207 true).run prog w=.ok (.tuple #[.agg #[I_ 0,.nilIface,bG,bG],.bool false]) w:=k_
def EZ:(typeAssert (.iface 212 v) 67 209 true).run prog w=.ok (.tuple #[.agg #[I_ 0,.nilIface,bG],.bool false]) w:=k_
def CJ:(typeAssert (.iface 212 v) 67 211 true).run prog w=.ok (.tuple #[.agg #[I_ 0,.nilIface],.bool false]) w:=k_
def FA:(typeAssert (.iface 212 v) 67 212 true).run prog w=.ok (.tuple #[v,.bool true]) w:=k_
def CM:(typeAssert (.iface 214 v) 67 200 true).run prog w=.ok (.tuple #[.agg #[I_ 0,I_ 0,.string ⟨#[]⟩,.nilIface],.bool false]) w:=k_
def FD:(typeAssert (.iface 214 v) 67 203 true).run prog w=.ok (.tuple #[.agg #[I_ 0,.string ⟨#[]⟩,bG,.nilIface],.bool false]) w:=k_
def XI:(typeAssert (.iface 214 v) 67 207 true).run prog w=.ok (.tuple #[.agg #[I_ 0,.nilIface,bG,bG],.bool false]) w:=k_
def JI:(typeAssert (.iface 214 v) 67 209 true).run prog w=.ok (.tuple #[.agg #[I_ 0,.nilIface,bG],.bool false]) w:=k_
def FC:(typeAssert (.iface 214 v) 67 211 true).run prog w=.ok (.tuple #[.agg #[I_ 0,.nilIface],.bool false]) w:=k_
def JJ:(typeAssert (.iface 214 v) 67 212 true).run prog w=.ok (.tuple #[.agg #[I_ 0,.nilIface],.bool false]) w:=k_
def NY:(typeAssert (.iface 214 v) 67 214 true).run prog w=.ok (.tuple #[v,.bool true]) w:=k_
end
def WY(l:Int)(a b c:aQ)(w:aG):(Go.method 496 200 (.agg #[I_ l,a,b,c]) "Line").run prog w=.ok (128,.agg #[I_ l]) w:=k_
def L4(l:Int)(a b c:aQ)(w:aG):(Go.method 496 203 (.agg #[I_ l,a,b,c]) "Line").run prog w=.ok (128,.agg #[I_ l]) w:=k_
def c9_(l:Int)(a b c:aQ)(w:aG):(Go.method 496 207 (.agg #[I_ l,a,b,c]) "Line").run prog w=.ok (128,.agg #[I_ l]) w:=k_
def m7(l:Int)(a b:aQ)(w:aG):(Go.method 496 209 (.agg #[I_ l,a,b]) "Line").run prog w=.ok (128,.agg #[I_ l]) w:=k_
def L3(l:Int)(a:aQ)(w:aG):(Go.method 496 211 (.agg #[I_ l,a]) "Line").run prog w=.ok (128,.agg #[I_ l]) w:=k_
def m8(l:Int)(a:aQ)(w:aG):(Go.method 496 212 (.agg #[I_ l,a]) "Line").run prog w=.ok (128,.agg #[I_ l]) w:=k_
def bt_(l:Int)(a b:aQ)(w:aG):(Go.method 496 214 (.agg #[I_ l,a,b]) "Line").run prog w=.ok (128,.agg #[I_ l]) w:=k_
def oD(a:aQ)(w:aG):(callFunc 128 #[a]).run prog w=.ok (.enter 128 #[a]) w:=k_
def iM(l:Int)(w:aG):Calls prog 128 #[.agg #[I_ l]] w λe w'=>e=aX (I_ l)/\w'=w.alloc (.cells #[I_ l] 163):=by
 go_in
 go_wp2
 go_ret;exact⟨rfl,rfl⟩
def uO(w:aG)(cb a:Nat)(l:Int)(p:Option Addr)(f:TypeId)(d:aQ)(P:World->Prop)(Q:World->Prop)(R:World->Prop)(B:cb<w.heap.size)(z:w.cell? (aH cb 2)=some (.pointer p))
 (i:Hid (Calls prog 132 #[aZ cb,.iface 245 (.agg #[I_ l,.pointer p])] (w.drew.alloc (.cells #[I_ l] 163)) λe w'=>e=aX (I_ a)/\Q w'))
 (q:Hid (∀W,Q W->Calls prog 118 #[aZ cb,.iface f d] (W.alloc (.cells #[I_ l,.iface f d] 211)) λe w'=>e=aX (.tuple #[])/\R w'))
 (o:Hid (∀W,R W->Calls prog 132 #[aZ cb,.iface 243 (.agg #[])] W λe w'=>(∃k:Nat,e=aX (I_ k))/\P w')):
 Calls prog 173 #[aZ cb,.iface 211 (.agg #[I_ l,.iface f d])] w λe w'=>e=aX (.tuple #[])/\P w':=by
 have t:=wZ;have x:=yT;have D:=NW;have y:=CH;have A:=yS;have v:=L3;have n:=oD;go_in
 go_wp2_with fail;go_region_law (go_simp;first|(go_at_call 128;refine(iM l _).mono ?_;rintro e s ⟨rfl,rfl⟩)|(go_at_call 132;refine i.mono ?_;rintro e C ⟨rfl,g⟩))
 all_goals
  have c:=aB (q _ g);clear g;go_wp2_with fail;refine c.mono ?_;rintro e u ⟨rfl,h⟩;have b:=aB (o _ h);clear h;go_wp2_with fail;refine b.mono ?_;rintro e r ⟨⟨m,rfl⟩,j⟩;go_wp2
  go_end0;exact⟨rfl,j⟩
def NQ(w:aG)(cb a:Nat)(l:Int)(p:Option Addr)(f:TypeId)(d:aQ)(P:World->Prop)(Q:World->Prop)(R:World->Prop)(C:cb<w.heap.size)(A:w.cell? (aH cb 2)=some (.pointer p))
 (i:Hid (Calls prog 132 #[aZ cb,.iface 245 (.agg #[I_ l,.pointer p])] (w.drew.alloc (.cells #[I_ l] 163)) λe w'=>e=aX (I_ a)/\Q w'))
 (q:Hid (∀W,Q W->Calls prog 118 #[aZ cb,.iface f d] (W.alloc (.cells #[I_ l,.iface f d] 212)) λe w'=>e=aX (.tuple #[])/\R w'))
 (o:Hid (∀W,R W->Calls prog 132 #[aZ cb,.iface 326 (.agg #[])] W λe w'=>(∃k:Nat,e=aX (I_ k))/\P w')):
 Calls prog 173 #[aZ cb,.iface 212 (.agg #[I_ l,.iface f d])] w λe w'=>e=aX (.tuple #[])/\P w':=by
 have t:=yU;have x:=CL;have E:=RV;have y:=EZ;have B:=CJ;have z:=FA;have v:=m8;have n:=oD;go_in
 go_wp2_with fail;go_region_law (go_simp;first|(go_at_call 128;refine(iM l _).mono ?_;rintro e s ⟨rfl,rfl⟩)|(go_at_call 132;refine i.mono ?_;rintro e D ⟨rfl,g⟩))
 all_goals
  have c:=aB (q _ g);clear g;go_wp2_with fail;refine c.mono ?_;rintro e u ⟨rfl,h⟩;have b:=aB (o _ h);clear h;go_wp2_with fail;refine b.mono ?_;rintro e r ⟨⟨m,rfl⟩,j⟩;go_wp2
  go_end0;exact⟨rfl,j⟩
def RG(w:aG)(cb a:Nat)(l:Int)(p:Option Addr)(tx:ByteArray)(x:Option Addr)(n c:Nat)(P:World->Prop)(Q:World->Prop)(R:World->Prop)(E:cb<w.heap.size)(C:w.cell? (aH cb 2)=some (.pointer p))
 (h:Hid (Calls prog 132 #[aZ cb,.iface 245 (.agg #[I_ l,.pointer p])] (w.drew.alloc (.cells #[I_ l] 163)) λe w'=>e=aX (I_ a)/\Q w'))
 (q:Hid (∀W,Q W->Calls prog 159 #[aZ cb,.agg #[I_ l,.string tx,.slice x n c]] (W.alloc (.cells #[I_ l,.string tx,.slice x n c] 214)) λe w'=>e=aX (.tuple #[])/\R w'))
 (o:Hid (∀W,R W->Calls prog 132 #[aZ cb,.iface 327 (.agg #[])] W λe w'=>(∃k:Nat,e=aX (I_ k))/\P w')):
 Calls prog 173 #[aZ cb,.iface 214 (.agg #[I_ l,.string tx,.slice x n c])] w λe w'=>e=aX (.tuple #[])/\P w':=by
 have t:=CM;have z:=FD;have G:=XI;have A:=JI;have D:=FC;have B:=JJ;have y:=NY;have v:=bt_;have j:=oD;go_in
 go_wp2_with fail;go_region_law (go_simp;first|(go_at_call 128;refine(iM l _).mono ?_;rintro e s ⟨rfl,rfl⟩)|(go_at_call 132;refine h.mono ?_;rintro e F ⟨rfl,f⟩))
 all_goals
  have d:=aB (q _ f);clear f;go_wp2_with fail;refine d.mono ?_;rintro e u ⟨rfl,g⟩;have b:=aB (o _ g);clear g;go_wp2_with fail;refine b.mono ?_;rintro e r ⟨⟨m,rfl⟩,i⟩;go_wp2
  go_end0;exact⟨rfl,i⟩
def LF(w:aG)(cb b:Nat)(l:Int)(p:Option Addr)(f:TypeId)(d:aQ)(i g:Option Addr)(h j c1 a:Nat)(P:World->Prop)(Q:World->Prop)(y:cb<w.heap.size)(x:w.cell? (aH cb 2)=some (.pointer p))
 (m:Hid (Calls prog 132 #[aZ cb,.iface 245 (.agg #[I_ l,.pointer p])] (w.drew.alloc (.cells #[I_ l] 163)) λe w'=>e=aX (I_ b)/\Q w'))
 (q:Hid (∀W,Q W->Calls prog 199 #[aZ cb,.agg #[I_ l,.iface f d,.slice i h c1,.slice g j a]] (W.alloc (.cells #[I_ l,.iface f d,.slice i h c1,.slice g j a] 207)) λe w'=>e=aX (.tuple #[])/\P w')):
 Calls prog 173 #[aZ cb,.iface 207 (.agg #[I_ l,.iface f d,.slice i h c1,.slice g j a])] w λe w'=>e=aX (.tuple #[])/\P w':=by
 have s:=JH;have v:=NX;have A:=p9;have u:=c9_;have n:=oD;go_in
 go_wp2_with fail;go_region_law (go_simp;first|(go_at_call 128;refine(iM l _).mono ?_;rintro e r ⟨rfl,rfl⟩)|(go_at_call 132;refine m.mono ?_;rintro e z ⟨rfl,k⟩))
 all_goals
  have c:=aB (q _ k);clear k;go_wp2_with fail;refine c.mono ?_;rintro e t ⟨rfl,o⟩;go_wp2
  go_end0;exact⟨rfl,o⟩
def NP(w:aG)(cb a:Nat)(l:Int)(p:Option Addr)(d:TypeId)(c:aQ)(g:Option Addr)(f c1:Nat)(P:World->Prop)(Q:World->Prop)(v:cb<w.heap.size)(u:w.cell? (aH cb 2)=some (.pointer p))
 (i:Hid (Calls prog 132 #[aZ cb,.iface 245 (.agg #[I_ l,.pointer p])] (w.drew.alloc (.cells #[I_ l] 163)) λe w'=>e=aX (I_ a)/\Q w'))
 (m:Hid (∀W,Q W->Calls prog 200 #[aZ cb,.agg #[I_ l,.iface d c,.slice g f c1],I_ a] (W.alloc (.cells #[I_ l,.iface d c,.slice g f c1] 209)) λe w'=>e=aX (.tuple #[])/\P w')):
 Calls prog 173 #[aZ cb,.iface 209 (.agg #[I_ l,.iface d c,.slice g f c1])] w λe w'=>e=aX (.tuple #[])/\P w':=by
 have o:=yR;have s:=CG;have y:=RU;have t:=EY;have r:=m7;have j:=oD;go_in
 go_wp2_with fail;go_region_law (go_simp;first|(go_at_call 128;refine(iM l _).mono ?_;rintro e n ⟨rfl,rfl⟩)|(go_at_call 132;refine i.mono ?_;rintro e x ⟨rfl,h⟩))
 all_goals
  have b:=aB (m _ h);clear h;go_wp2_with fail;refine b.mono ?_;rintro e q ⟨rfl,k⟩;go_wp2
  go_end0;exact⟨rfl,k⟩
def EP(w:aG)(cb a:Nat)(l:Int)(p:Option Addr)(t:Int)(d:ByteArray)(o:TypeId)(h:aQ)(n:Nat)(P:World->Prop)(Q:World->Prop)(R g:Nat->World->Prop)(O:cb<w.heap.size)(N:w.cell? (aH cb 2)=some (.pointer p))
 (u:Hid (Calls prog 132 #[aZ cb,.iface 245 (.agg #[I_ l,.pointer p])] (w.drew.alloc (.cells #[I_ l] 163)) λe w'=>e=aX (I_ a)/\Q w'))
 (D:Hid (∀W,Q W->Calls prog 118 #[aZ cb,.iface o h] (W.alloc (.cells #[I_ l,I_ t,.string d,.iface o h] 200)) λe w'=>e=aX (.tuple #[])/\R W.heap.size w'))
 (v:Hid (∀b W,R b W->Calls prog 172 #[aZ cb] W λe w'=>e=aX (I_ n)/\w'=W))
 (B:Hid (∀b W,R b W->Calls prog 132 #[aZ cb,.iface 321 (.agg #[I_ n])] W λe w'=>(∃k:Nat,e=aX (I_ k))/\g b w'))
 (x:Hid (∀b W,g b W->W.cell? (aH b 2)=some (.string d)/\b<W.heap.size))
 (z:Hid (∀b W,g b W->Calls prog 130 #[aZ cb,.string d] W λe w'=>e=aX (.tuple #[])/\P w')):
 Calls prog 173 #[aZ cb,.iface 200 (.agg #[I_ l,I_ t,.string d,.iface o h])] w λe w'=>e=aX (.tuple #[])/\P w':=by
 have H:=vS;have L:=WY;have y:=oD;go_in
 go_wp2_with fail;go_region_law (go_simp;first|(go_at_call 128;refine(iM l _).mono ?_;rintro e F ⟨rfl,rfl⟩)|(go_at_call 132;refine u.mono ?_;rintro e C ⟨rfl,s⟩))
 all_goals
  have c:=aB (D _ s);generalize K:C.heap.size=b at c;clear s;go_wp2_with fail;refine c.mono ?_;rintro e I ⟨rfl,q⟩;have r:=aB (v _ _ q);have f:=aB (B _ _ q);clear q;go_wp2_with fail;refine r.mono ?_;rintro e E ⟨rfl,rfl⟩;go_wp2_with fail;refine f.mono ?_;rintro e S ⟨⟨m,rfl⟩,i⟩;obtain⟨M,G⟩:=x _ _ i;have j:=aB (z _ _ i);clear i;go_wp2_with fail;refine j.mono ?_;rintro e J ⟨rfl,A⟩;go_wp2
  go_end0;exact⟨rfl,A⟩
def JG(w:aG)(cb a:Nat)(l:Int)(p:Option Addr)(g:ByteArray)(x:Option Addr)(n c k:Nat)(j:TypeId)(i:aQ)(P:World->Prop)(Q:World->Prop)(R h:Nat->World->Prop)(V:cb<w.heap.size)(U:w.cell? (aH cb 2)=some (.pointer p))
 (v:Hid (Calls prog 132 #[aZ cb,.iface 245 (.agg #[I_ l,.pointer p])] (w.drew.alloc (.cells #[I_ l] 163)) λe w'=>e=aX (I_ a)/\Q w'))
 (F:Hid (∀W,Q W->Calls prog 157 #[aZ cb,.slice x n c] (W.alloc (.cells #[I_ l,.string g,.slice x n c,.iface j i] 203)) λe w'=>e=aX (.tuple #[])/\R W.heap.size w'))
 (y:Hid (∀b W,R b W->W.cell? (aH b 3)=some (.iface j i)/\b<W.heap.size))
 (z:Hid (∀b W,R b W->Calls prog 118 #[aZ cb,.iface j i] W λe w'=>e=aX (.tuple #[])/\h b w'))
 (s:Hid (∀b W,h b W->W.cell? (aH b 1)=some (.string g)/\W.cell? (aH b 2)=some (.slice x n c)/\b<W.heap.size))
 (B:Hid (∀b W d,h b W->aU W d->Calls prog 156 #[aZ cb,.string g] d λe w'=>e=aX (I_ k)/\w'=d))
 (D:Hid (∀b W d,h b W->aU W d->Calls prog 132 #[aZ cb,.iface 323 (.agg #[I_ k,I_ n])] d λe w'=>(∃k:Nat,e=aX (I_ k))/\P w')):
 Calls prog 173 #[aZ cb,.iface 203 (.agg #[I_ l,.string g,.slice x n c,.iface j i])] w λe w'=>e=aX (.tuple #[])/\P w':=by
 have J:=xA;have S:=yV;have N:=L4;have A:=oD;go_in
 go_wp2_with fail;go_region_law (go_simp;first|(go_at_call 128;refine(iM l _).mono ?_;rintro e H ⟨rfl,rfl⟩)|(go_at_call 132;refine v.mono ?_;rintro e E ⟨rfl,t⟩))
 all_goals
  have f:=aB (F _ t);generalize M:E.heap.size=b at f;clear t;go_wp2_with fail;refine f.mono ?_;rintro e K ⟨rfl,r⟩;obtain⟨T,I⟩:=y _ _ r;have q:=aB (z _ _ r);clear r;go_wp2_with fail;refine q.mono ?_;rintro e G ⟨rfl,o⟩;obtain⟨O,X,Y⟩:=s _ _ o;have u:=aB o;clear o;go_wp2_with fail;go_region_law (go_simp;first|(go_at_call 156;refine(B _ _ _ u (aU.drew _)).mono ?_;rintro e Z ⟨rfl,rfl⟩)|(go_at_call 132;refine(D _ _ _ u (aU.drew _)).mono ?_;rintro e L ⟨⟨m,rfl⟩,C⟩))
  all_goals
   go_wp2
   go_end0;exact⟨rfl,C⟩
def CE(w:aG)(cb g n d:Nat)(C:Nat->World->Prop)(x:n<=1000000)(k:C 0 w)
 (p:Hid (∀j W,C j W->j<n->g<W.heap.size/\∃t z,W.cell? (aH g j)=some (.iface t z)/\Calls prog 173 #[aZ cb,.iface t z] W λe w'=>e=aX (.tuple #[])/\C (j+1) w')):
 Calls prog 131 #[aZ cb,.slice (some (aH g 0)) n d] w λe w'=>e=aX (.tuple #[])/\C n w':=by
 have l:=aB k;clear k;go_in
 go_wp2_with fail;go_loopg [5,8] n (λgk _ i wr=>∃j:Nat,j+gk=n/\i=I_ j/\C j wr)
 case atStart=>exact⟨0,o_,rfl,l⟩
 case round=>
  obtain⟨j,A,rfl,b⟩:=hrel;by_cases c:j<n
  ·obtain⟨m,rfl⟩:∃m,gk=m+1:=⟨gk-1,o_⟩
   obtain⟨s,t,z,v,a⟩:=p _ _ b c;have q:=aB a;have y:(0:Int)<=(j:Int):=o_
   have u:(j:Int)<(n:Int):=o_
   clear b a;go_wp2_with fail;refine q.mono ?_;rintro e r ⟨rfl,o⟩;go_wp2
   go_roundg m
   case measure=>omega
   case rel=>exact⟨j+1,o_,by go_num,o⟩
  ·have f:j=n:=o_
   subst f;have h:=aB b;clear b;go_wp2
   go_end0;exact⟨rfl,h⟩
def EN(w:aG)(cb:Nat):Calls prog 131 #[aZ cb,bG] w λe w'=>e=aX (.tuple #[])/\w'=w:=by
 go_in
 go_wp2_with fail;go_loopg [5,8] 0 (λ_ _ i wr=>i=I_ 0/\wr=w)
 case atStart=>exact⟨rfl,rfl⟩
 case round=>
  obtain⟨rfl,rfl⟩:=hrel;go_wp2
  go_end0;exact⟨rfl,rfl⟩
def C2(w:aG)(cb:Nat)(p x:Option Addr)(n c:Nat)(P Q:World->Prop)(k:w.cell? (aH cb 2)=some (.pointer p))
 (g:Hid (Calls prog 131 #[aZ cb,.slice x n c] w λe w'=>e=aX (.tuple #[])/\Q w'))
 (d:Hid (∀W,Q W->(∃u,W.cell? (aH cb 2)=some u)/\W.frozen? (aH cb 2)=false/\cb<W.heap.size/\P (W.setCell (aH cb 2) (.pointer p)))):
 Calls prog 213 #[aZ cb,.slice x n c] w λe w'=>e=aX (.tuple #[])/\P w':=by
 go_in
 go_wp2_with fail;refine g.mono ?_;rintro e h ⟨rfl,b⟩;obtain⟨⟨u,i⟩,l,j,a⟩:=d _ b;have f:=aB a;clear b a;go_wp2
 go_end0;exact⟨rfl,f⟩
def VG(w:aG)(cb b d:Nat)(l:Int)(z:TypeId)(y:aQ)(o j:Option Addr)(k m c1 i:Nat)(P L D E F q K:World->Prop)
 (HX:Hid (Calls prog 118 #[aZ cb,.iface z y] (w.alloc (.cells #[I_ l,.iface z y,.slice o k c1,.slice j m i] 207)) λe w'=>e=aX (.tuple #[])/\L w'))
 (t:Hid (∀W,L W->Calls prog 132 #[aZ cb,.nilIface] W λe w'=>e=aX (I_ b)/\D w'))
 (v:Hid (∀W,D W->W.cell? (aH w.heap.size 2)=some (.slice o k c1)/\w.heap.size<W.heap.size))
 (HT:Hid (∀W,D W->Calls prog 213 #[aZ cb,.slice o k c1] W λe w'=>e=aX (.tuple #[])/\E w'))
 (r:Hid (∀W,E W->Calls prog 132 #[aZ cb,.nilIface] W λe w'=>e=aX (I_ d)/\F w'))
 (C:Hid (∀W,F W->cb<W.heap.size/\∃g n c,W.cell? (aH cb 1)=some (.slice (some (aH g 0)) n c)/\b<n/\n<=1000000/\(∃u,W.cell? (aH g b)=some u)/\W.frozen? (aH g b)=false/\g<W.heap.size/\∀f,aU (W.setCell (aH g b) (.iface 339 (.agg #[I_ n]))) f->q f))
 (B:Hid (∀W,q W->W.cell? (aH w.heap.size 3)=some (.slice j m i)/\w.heap.size<W.heap.size))
 (HL:Hid (∀W,q W->Calls prog 213 #[aZ cb,.slice j m i] W λe w'=>e=aX (.tuple #[])/\K w'))
 (p:Hid (∀W,K W->cb<W.heap.size/\∃g n c,W.cell? (aH cb 1)=some (.slice (some (aH g 0)) n c)/\d<n/\n<=1000000/\(∃u,W.cell? (aH g d)=some u)/\W.frozen? (aH g d)=false/\g<W.heap.size/\∀f,aU (W.setCell (aH g d) (.iface 340 (.agg #[I_ n]))) f->P f)):
 Calls prog 199 #[aZ cb,.agg #[I_ l,.iface z y,.slice o k c1,.slice j m i]] w λe w'=>e=aX (.tuple #[])/\P w':=by
 go_in
 go_wp2_with fail;refine HX.mono ?_;rintro e w1 ⟨rfl,J⟩;have S:=aB (t _ J);clear J;go_wp2_with fail;refine S.mono ?_;rintro e w2 ⟨rfl,x⟩;obtain⟨b1,b2⟩:=v _ x;have H2:=aB (HT _ x);clear x;go_wp2_with fail;refine H2.mono ?_;rintro e w3 ⟨rfl,G⟩;have H3:=aB (r _ G);clear G;go_wp2_with fail;refine H3.mono ?_;rintro e Z ⟨rfl,H⟩;obtain⟨f3,g,n,c,f4,f5,f6,⟨u,f7⟩,f8,f9,h⟩:=C _ H;have HP:=aB h;have i1:(0:Int)<=(b:Int):=o_
 have i2:(b:Int)<(n:Int):=o_
 clear H h;go_wp2_with fail;go_region
 all_goals
  have s:=HP _ (aU.drew _);obtain⟨d1,d2⟩:=B _ s;have O:=aB (HL _ s);clear s;generalize I:(Z.setCell (aH g b) (.iface 339 (.agg #[I_ n]))).drew=w5 at*;have HW:=aB I;clear I;go_wp2_with fail;refine O.mono ?_;rintro e w6 ⟨rfl,M⟩;obtain⟨ac,g',T,c',V,ab,Q,⟨u',aa⟩,X,N,a⟩:=p _ M;have A:=aB a;have Y:(0:Int)<=(d:Int):=o_
  have U:(d:Int)<(T:Int):=o_
  clear M a;go_wp2_with fail;go_region
  all_goals
   go_wp2
   go_end0;exact⟨rfl,A _ (aU.drew _)⟩
def S0(w:aG)(cb k a:Nat)(l:Int)(o:TypeId)(i:aQ)(f:Option Addr)(d c1:Nat)(P z r s t:World->Prop)
 (G:Hid (Calls prog 118 #[aZ cb,.iface o i] (w.alloc (.cells #[I_ l,.iface o i,.slice f d c1] 209)) λe w'=>e=aX (.tuple #[])/\z w'))
 (j:Hid (∀W,z W->Calls prog 132 #[aZ cb,.nilIface] W λe w'=>e=aX (I_ k)/\r w'))
 (q:Hid (∀W,r W->W.cell? (aH w.heap.size 2)=some (.slice f d c1)/\w.heap.size<W.heap.size))
 (H:Hid (∀W,r W->Calls prog 213 #[aZ cb,.slice f d c1] W λe w'=>e=aX (.tuple #[])/\s w'))
 (B:Hid (∀W,s W->Calls prog 132 #[aZ cb,.iface 340 (.agg #[I_ a])] W λe w'=>(∃k:Nat,e=aX (I_ k))/\t w'))
 (p:Hid (∀W,t W->cb<W.heap.size/\∃g n c,W.cell? (aH cb 1)=some (.slice (some (aH g 0)) n c)/\k<n/\n<=1000000/\(∃u,W.cell? (aH g k)=some u)/\W.frozen? (aH g k)=false/\g<W.heap.size/\∀A,aU (W.setCell (aH g k) (.iface 339 (.agg #[I_ n]))) A->P A)):
 Calls prog 200 #[aZ cb,.agg #[I_ l,.iface o i,.slice f d c1],I_ a] w λe w'=>e=aX (.tuple #[])/\P w':=by
 go_in
 go_wp2_with fail;refine G.mono ?_;rintro e J ⟨rfl,x⟩;have E:=aB (j _ x);clear x;go_wp2_with fail;refine E.mono ?_;rintro e Z ⟨rfl,h⟩;obtain⟨K,S⟩:=q _ h;have F:=aB (H _ h);clear h;go_wp2_with fail;refine F.mono ?_;rintro e M ⟨rfl,y⟩;have C:=aB (B _ y);clear y;go_wp2_with fail;refine C.mono ?_;rintro e I ⟨⟨m,rfl⟩,v⟩;obtain⟨X,g,n,c,V,Q,T,⟨u,O⟩,L,Y,b⟩:=p _ v;have D:=aB b;have U:(0:Int)<=(k:Int):=o_
 have N:(k:Int)<(n:Int):=o_
 clear v b;go_wp2_with fail;go_region
 all_goals
  go_wp2
  go_end0;exact⟨rfl,D _ (aU.drew _)⟩
def stC_seen{e_:cN}{a:aE}(p:Nat)(h:dM fs d e_ a):(bA fs d e_ a p).2=cZ e_ a:=
 (mJ fs d e_ a (λ_ _=>False) p h ⟨λ_ _ _ h=>h.elim,λ_ _ h=>h.elim⟩).2.1
def StsOk.split{S:cN->aE->Prop}:∀{l m:List aE} {e_:cN},Hs.StsOk S e_ (l++m)->Hs.StsOk S e_ l/\Hs.StsOk S (eE e_ l) m
 |[],_,_,h=>⟨trivial,h⟩
 |_::_,_,_,h=>by
  obtain⟨c,a⟩:=h;obtain⟨d,b⟩:=StsOk.split a;exact⟨⟨c,d⟩,b⟩
def sL:∀(l m:List aE) (e_:cN),eE e_ (l++m)=eE (eE e_ l) m
 |[],_,_=>rfl
 |a::l,m,e_=>sL l m (cZ e_ a)
def sE:∀{l:List aE} (m:List aE) {e_:cN} (p:Nat),Hs.StsOk (dM fs d) e_ l->bL (bA fs d) e_ (l++m) p=bL (bA fs d) e_ l p++bL (bA fs d) (eE e_ l) m (p+(bL (bA fs d) e_ l p).length)
 |[],m,e_,p,_=>by simp[bL,eE]
 |a::l,m,e_,p,h=>by
  obtain⟨c,b⟩:=h;rw[gb,bL,bL,stC_seen p c,sE m _ b,gr,el,jk];rfl
def l7(a:aE)(e_:cN)(p:Nat):bL (bA fs d) e_ [a] p=(bA fs d e_ a p).1:=by simp[bL]
def QJ(fp:eK)(fb:Nat->Nat)(nms:cN)(cb:Nat)(F:bY)(w:aG)(code:List (Option aI))(e_:cN)(w':aG):Prop:=
 ∃G,(∀k,F k->G k)/\gX fp fb nms cb G w code e_ w'
def VS(fp:eK)(fb:Nat->Nat)(fs:List aE)(cb lo:Nat)(d:Nat):Prop:=
 ∀(F:bY) (e_:cN) (v:aQ) (a:aE) (code:List (Option aI)) (w:aG),CP fp fb (fs.map (·.x_)) cb F w code e_->PN (Btw lo cb) w v a->dM fs d e_ a->nC a->e_.length<=90001->code.length+(bA fs d e_ a code.length).1.length<=1000000->
  Calls prog 173 #[aZ cb,v] w λe w'=>e=aX (.tuple #[])/\QJ fp fb (fs.map (·.x_)) cb F w (code++(bA fs d e_ a code.length).1.map some) (bA fs d e_ a code.length).2 w'
section
variable {fp:eK} {fb:Nat->Nat} {fs:List aE} {cb lo:Nat} {F:bY} {e_:cN} {d:Nat}
def QJ.then{w w1 w':aG}{b:cN}{a:List (Option aI)}(c:FB cb cb w w1)(h:QJ fp fb b cb F w1 a e_ w'):QJ fp fb b cb F w a e_ w':=by
 obtain⟨G,d,h⟩:=h;exact⟨G,d,h.then c⟩
def QJ.more{G:bY}{w w':aG}{b:cN}{a:List (Option aI)}(e:∀k,F k->G k)(h:QJ fp fb b cb G w a e_ w'):QJ fp fb b cb F w a e_ w':=by
 obtain⟨H,d,h⟩:=h;exact⟨H,λk c=>d k (e k c),h⟩
def L7{fs:List aE}{d:Nat}{e_:cN}{a:aE}(h:dM fs d e_ a)(f:e_.length<=90001):(cZ e_ a).length<=90001:=by
 cases d with
 |zero=>exact h.elim
 |succ d=>
  unfold cZ;split
  ·rename_i c;rcases h with ⟨_,b,t,v,e,_⟩|⟨b,_⟩|⟨b,_⟩|⟨b,_⟩|⟨b,_⟩|⟨b,_⟩|⟨b,_⟩
   ·rw[e];simp;omega
   all_goals exact absurd (c.symm.trans b) d_
  ·exact f
def AI{fs:List aE}{d:Nat}:∀{l:List aE} {e_:cN},Hs.StsOk (dM fs d) e_ l->e_.length<=90001->(eE e_ l).length<=90001
 |[],_,_,h=>h
 |a::l,e_,c,h=>by
  obtain⟨e,b⟩:=c;exact AI (l:=l) (e_:=cZ e_ a) b (L7 e h)
def rN(N:VS fp fb fs cb lo d)(v:aQ)(l:List aE)(b:List (Option aI))(w:aG)(h:CP fp fb (fs.map (·.x_)) cb F w b e_)(Q:PKid (Btw lo cb) w v l)(I:Hs.StsOk (dM fs d) e_ l)(D:∀a∈l,nC a)(M:l.length<=1000000)(y:e_.length<=90001)(U:b.length+(bL (bA fs d) e_ l b.length).length<=1000000):
 Calls prog 131 #[aZ cb,v] w λe w'=>e=aX (.tuple #[])/\QJ fp fb (fs.map (·.x_)) cb F w (b++(bL (bA fs d) e_ l b.length).map some) (eE e_ l) w':=by
 rcases Q.get with ⟨rfl,rfl⟩|⟨g,A,rfl,J,E,H,S⟩
 ·refine(EN w cb).mono ?_;rintro e w' ⟨rfl,rfl⟩;exact⟨rfl,F,λ_ h=>h,by simpa [bL,eE] using h,FB.refl _⟩
 ·refine(CE w cb g l.length A (λj W=>j<=l.length/\QJ fp fb (fs.map (·.x_)) cb F w (b++(bL (bA fs d) e_ (l.take j) b.length).map some) (eE e_ (l.take j)) W) M ⟨ft _,F,λ_ h=>h,by simpa [bL,eE] using h,FB.refl _⟩ (λj W K t=>?_)).mono ?_
  ·obtain⟨_,G,P,x,f⟩:=K;obtain⟨u,O,m⟩:=S j t;obtain⟨T,L,rfl⟩:=m.form;have k:l.take (j+1)=l.take j++[l[j]]:=gu t
   have i:Hs.StsOk (dM fs d) e_ (l.take j++(l[j]::l.drop (j+1))):=by
    have e:l.take j++(l[j]::l.drop (j+1))=l:=by
     rw[jp];exact g9 _ _
    rw[e];exact I
   obtain⟨n,o,_⟩:=StsOk.split i;have r:bL (bA fs d) e_ (l.take (j+1)) b.length=bL (bA fs d) e_ (l.take j) b.length++(bA fs d (eE e_ (l.take j)) l[j] (b.length+(bL (bA fs d) e_ (l.take j) b.length).length)).1:=by rw[k,sE _ _ n,l7]
   have q:(bL (bA fs d) e_ (l.take (j+1)) b.length).length<=(bL (bA fs d) e_ l b.length).length:=by
    have B:Hs.StsOk (dM fs d) e_ (l.take (j+1)++l.drop (j+1)):=by rw[g9];exact I
    have:=sE (l.drop (j+1)) b.length (StsOk.split B).1;rw[g9] at this;rw[this,el];omega
   have s:(b++(bL (bA fs d) e_ (l.take j) b.length).map some).length=b.length+(bL (bA fs d) e_ (l.take j) b.length).length:=s_
   have z:eE e_ (l.take (j+1))=(bA fs d (eE e_ (l.take j)) l[j] (b.length+(bL (bA fs d) e_ (l.take j) b.length).length)).2:=by
    rw[k,sL,stC_seen _ o];rfl
   refine⟨ej E f.bel.size,T,.agg L,by rw[f.bel.cell (p:=(aH g j)) J.2];exact O,(N G _ _ l[j] _ W x (m.below f.bel) o (D _ (fo t)) (AI n y) ?_).mono ?_⟩
   ·rw[s];rw[r,el] at q;omega
   ·rintro e w' ⟨C,c⟩;refine⟨C,t,?_⟩;rw[s] at c;rw[r,z,gi,<-gr];exact(c.then f).more P
  ·rintro e w' ⟨C,_,c⟩;rw[gv cL] at c;exact⟨C,c⟩
def B7(M:VS fp fb fs cb lo d)(v:aQ)(l:List aE)(f:List (Option aI))(w:aG)(h:CP fp fb (fs.map (·.x_)) cb F w f e_)(C:PKid (Btw lo cb) w v l)(K:Hs.StsOk (dM fs d) e_ l)(z:∀a∈l,nC a)(L:l.length<=1000000)(r:e_.length<=90001)(O:f.length+(bL (bA fs d) e_ l f.length).length<=1000000):
 Calls prog 213 #[aZ cb,v] w λe w'=>e=aX (.tuple #[])/\QJ fp fb (fs.map (·.x_)) cb F w (f++(bL (bA fs d) e_ l f.length).map some) e_ w':=by
 obtain⟨x,c,rfl⟩:=C.sliceC;have s:=rN M _ l f w h C K z L r O;obtain⟨Z,X,V,I,_,B,_⟩:=h.blk;obtain⟨p,rfl⟩:=B.form;refine C2 w cb p x l.length c _ _ (aA I rfl) s (λW E=>?_)
 obtain⟨G,u,g,n⟩:=E;obtain⟨y,t,U,m,⟨N,A,T⟩,Y,P⟩:=g.blk;refine⟨⟨_,aA m rfl⟩,aD m,aC m,G,u,⟨⟨y,t,.pointer p,aK m,⟨N,?_,?_⟩,?_,?_⟩,λk j=>?_⟩,?_⟩
 all_goals have j:∀k,k≠cb->(W.setCell (aH cb 2) (.pointer p)).heap[k]?=W.heap[k]?:=λk j=>ei _ _ _ _ j
 all_goals have i:∀b,G b->(W.setCell (aH cb 2) (.pointer p)).heap[b]?=W.heap[b]?:=λb q=>j b (g.fix b q).2.1
 all_goals have o:lS cb (W.setCell (aH cb 2) (.pointer p))=lS cb W:=by rw[jF (aK m),jF m]
 ·exact aY A λk e=>j k (by have:=(A.lt k e).1;omega)
 ·exact T.keep i dP
 ·exact eF.keep (λb q=>by rw[i b (u b q),h.fixed n b q]) u B
 ·exact P.keep i dP s_
 ·obtain⟨Q,J,S⟩:=g.fix k (by assumption)
  exact⟨by simpa using Q,J,by rw[o];exact S⟩
 ·refine n.trans ⟨⟨rfl,rfl,rfl,s_,λk H=>j k o_⟩,λk _ D _=>j k D,λk e=>d7 (by rw[<-o];exact e)⟩
end
section
variable {fp:eK} {fb:Nat->Nat} {fs:List aE} {cb lo:Nat} {F:bY} {a_:Bool} {e_:cN} {d:Nat}
def Y0(Z:IL fp fb fs cb lo F a_ e_ d)(Q:fs.length<=1000000)(E:∀k,k<fs.length->fp k=aZ (fb k))(a:aE)(X:aQ)(l:Int)(b:List (Option aI))(w:aG)(J:CP fp fb (fs.map (·.x_)) cb F w b e_)(v:a.op=[99,97,108,108])(U:PKid (Btw lo cb) w X a.y_)(O:Hs.ExOk fs a_ e_ (d+1) a)(S:pI (d+1) a)(o:b.length+(aF fs e_ (d+1) a b.length).length<=1000000):
 Calls prog 159 #[aZ cb,.agg #[I_ l,.string (bs a.x_),X]] w λe w'=>e=aX (.tuple #[])/\gX fp fb (fs.map (·.x_)) cb F w (b++(aF fs e_ (d+1) a b.length).map some) e_ w':=by
 have n:=ExOk.op O;obtain⟨_,K,C⟩:=S;rw[GH fs e_ d a _ v] at o ⊢
 rw[el,iy] at o;have M:=n.1;have p:=n.2.2 v;obtain⟨x,c,rfl⟩:=U.sliceC;obtain⟨h,u⟩:=J.new (.cells #[I_ l,.string (bs a.x_),.slice x a.y_.length c] 214);have A:∀{W:aG},FB cb cb (w.alloc (.cells #[I_ l,.string (bs a.x_),.slice x a.y_.length c] 214)) W->W.heap[w.heap.size]?=some (.cells #[I_ l,.string (bs a.x_),.slice x a.y_.length c] 214 (0,0)):=λL=>(h.step L).blk
 have j:Calls prog 157 #[aZ cb,.slice x a.y_.length c] (w.alloc (.cells #[I_ l,.string (bs a.x_),.slice x a.y_.length c] 214)) λe w'=>e=aX (.tuple #[])/\(gX fp fb (fs.map (·.x_)) cb F w (b++(bW (aF fs e_ d) a.y_ b.length).map some) e_ w'/\w'.heap[w.heap.size]?=some (.cells #[I_ l,.string (bs a.x_),.slice x a.y_.length c] 214 (0,0))):=by
  refine(tZ Z _ _ _ _ u (U.below h.fb.bel) M C K o_).mono ?_
  rintro e w' ⟨G,y⟩;exact⟨G,y.then h.fb,A y.2⟩
 have m:∀{i:aI} {e:Ending} {W:aG},(e=aX (.tuple #[])/\gX fp fb (fs.map (·.x_)) cb F w ((b++(bW (aF fs e_ d) a.y_ b.length).map some)++[some i]) e_ W)->e=aX (.tuple #[])/\gX fp fb (fs.map (·.x_)) cb F w (b++(bW (aF fs e_ d) a.y_ b.length++[i]).map some) e_ W:=λg=>by
  rw[gi,<-gr];exact g
 have t:(b++(bW (aF fs e_ d) a.y_ b.length).map some).length+1<=1000000:=by rw[gG];omega
 rcases p with q|q|⟨z,B,r⟩
 ·rw[q] at j ⊢
  refine(VK w cb a.y_.length c l x _ _ j (λW g=>⟨aA g.2 rfl,aC g.2⟩) (λW g=>emits (i:=.length) g.1 rfl t)).mono ?_
  intro e W g;exact m g
 ·rw[q] at j ⊢
  refine(MN w cb a.y_.length c l x _ _ j (λW g=>⟨aA g.2 rfl,aC g.2⟩) (λW g=>emits (i:=.read) g.1 rfl t)).mono ?_
  intro e W g;exact m g
 ·have s:dG fs a.x_<fs.length:=by
   unfold fZ at r;cases V:fs[dG fs a.x_]? with
   |none=>rw[V] at r;cases r
   |some f=>exact(gq.1 V).1
  have D:a.x_∈fs.map (·.x_):=by
   have P:=s;unfold dG at P;have:=ka (w:=P);exact gz.2 ⟨_,fo P,by simpa using this⟩
  have e1:(a.x_==[108,101,110])=false:=by simpa using z
  have Y:(a.x_==[114,101,97,100])=false:=by simpa using B
  rw[e1,Y];refine(IB w cb a.y_.length c (fb (dG fs a.x_)) l a.x_ x (λW=>gX fp fb (fs.map (·.x_)) cb F w ((b++(bW (aF fs e_ d) a.y_ b.length).map some)++[some (.call (dG fs a.x_) a.y_.length)]) e_ W) _ z B j (λW g=>⟨aA g.2 rfl,aA g.2 rfl,aC g.2⟩) (λW T g H=>?_) (λW T g H=>?_)).mono ?_
  ·refine(vC a.x_ (g.1.1.grow H.below) D (by simpa using Q)).mono ?_
   rintro e w' ⟨G,I⟩;rw[GD,E _ s] at G;exact⟨G,I⟩
  ·have N:gX fp fb (fs.map (·.x_)) cb F w (b++(bW (aF fs e_ d) a.y_ b.length).map some) e_ T:=⟨g.1.1.grow H.below,g.1.2.trans (FB.of_lt H.below g.1.1.lt)⟩
   exact emits (i:=.call (dG fs a.x_) a.y_.length) N (by show _=_;rw[E _ s]) t
  ·intro e W g;exact m g
end
section
variable (fs:List aE) (e_:cN) (d:Nat) (a:aE) (p:Nat)
def bo_(t v:aE)(h:a.op=[118,97,114])(b:a.y_=[t,v]):bA fs (d+1) e_ a p=(.begin a.l_ e_::aF fs e_ d v (p+1)++[.declare e_.length],t.x_::e_):=by rw[bA];simp[h,b]
def bp_(h:a.op=[115,101,116]):bA fs (d+1) e_ a p=(.begin a.l_ e_::bW (aF fs e_ d) a.y_ (p+1)++[.assign (dV e_ a.x_) (a.y_.length-1)],e_):=by rw[bA];simp[h]
def br_(c t:aE)(h:a.op=[105,102])(b:a.y_=[c,t]):bA fs (d+1) e_ a p=
 (.begin a.l_ e_::aF fs e_ d c (p+1)++[.skip (p+1+(aF fs e_ d c (p+1)).length+1+(bL (bA fs d) e_ t.y_ (p+1+(aF fs e_ d c (p+1)).length+1)).length+1)]++bL (bA fs d) e_ t.y_ (p+1+(aF fs e_ d c (p+1)).length+1)++[.jump (p+1+(aF fs e_ d c (p+1)).length+1+(bL (bA fs d) e_ t.y_ (p+1+(aF fs e_ d c (p+1)).length+1)).length+1)],e_):=by rw[bA];simp[h,b]
def bq_(c t x:aE)(h:a.op=[105,102])(b:a.y_=[c,t,x]):bA fs (d+1) e_ a p=
 (.begin a.l_ e_::aF fs e_ d c (p+1)++[.skip (p+1+(aF fs e_ d c (p+1)).length+1+(bL (bA fs d) e_ t.y_ (p+1+(aF fs e_ d c (p+1)).length+1)).length+1)]++bL (bA fs d) e_ t.y_ (p+1+(aF fs e_ d c (p+1)).length+1)++[.jump (p+1+(aF fs e_ d c (p+1)).length+1+(bL (bA fs d) e_ t.y_ (p+1+(aF fs e_ d c (p+1)).length+1)).length+1+(bL (bA fs d) e_ x.y_ (p+1+(aF fs e_ d c (p+1)).length+1+(bL (bA fs d) e_ t.y_ (p+1+(aF fs e_ d c (p+1)).length+1)).length+1)).length)]++
   bL (bA fs d) e_ x.y_ (p+1+(aF fs e_ d c (p+1)).length+1+(bL (bA fs d) e_ t.y_ (p+1+(aF fs e_ d c (p+1)).length+1)).length+1),e_):=by rw[bA];simp[h,b]
def K9(c b:aE)(h:a.op=[119,104,105,108,101])(e:a.y_=[c,b]):bA fs (d+1) e_ a p=
 (.begin a.l_ e_::aF fs e_ d c (p+1)++[.skip (p+1+(aF fs e_ d c (p+1)).length+1+(bL (bA fs d) e_ b.y_ (p+1+(aF fs e_ d c (p+1)).length+1)).length+1)]++bL (bA fs d) e_ b.y_ (p+1+(aF fs e_ d c (p+1)).length+1)++[.jump p],e_):=by rw[bA];simp[h,e]
def RJ(h:a.op=[114,101,116,117,114,110])(b:a.y_=[]):bA fs (d+1) e_ a p=([.begin a.l_ e_,.push (bH 0),.give],e_):=by rw[bA];simp[h,b]
def RI(v:aE)(h:a.op=[114,101,116,117,114,110])(b:a.y_=[v]):bA fs (d+1) e_ a p=(.begin a.l_ e_::aF fs e_ d v (p+1)++[.give],e_):=by rw[bA];simp[h,b]
def L1(v:aE)(h:a.op=[112,114,105,110,116])(b:a.y_=[v]):bA fs (d+1) e_ a p=(.begin a.l_ e_::aF fs e_ d v (p+1)++[.print],e_):=by rw[bA];simp[h,b]
def cL_(c:aE)(h:a.op=[100,111])(b:a.y_=[c]):bA fs (d+1) e_ a p=(.begin a.l_ e_::aF fs e_ d c (p+1)++[.drop],e_):=by rw[bA];simp[h,b]
end
section
variable {fp:eK} {fb:Nat->Nat} {fs:List aE} {cb lo:Nat} {F:bY} {e_:cN} {d:Nat}
def rT(fp:eK)(fb:Nat->Nat)(nms:cN)(cb:Nat)(F:bY)(w w1:aG)(b:Nat)(o:Obj)(e_:cN)(c:List (Option aI))(W:aG):Prop:=
 ∃G,(∀k,F k->G k)/\gX fp fb nms cb G w c e_ W/\Loc cb cb w1 b o W
def rT.emit{d:cN}{w w1 W:aG}{b:Nat}{o:Obj}{c:List (Option aI)}(g:rT fp fb d cb F w w1 b o e_ c W){u:aQ}{i:Option aI}(k:∀G,cz_ fp G W u i)(m:c.length<=1000000):
 Calls prog 132 #[aZ cb,u] W λe w'=>e=aX (I_ c.length)/\rT fp fb d cb F w w1 b o e_ (c++[i]) w':=by
 obtain⟨G,l,a,j⟩:=g;refine(tC (o:=i) a.1 (k G) m).mono ?_;rintro e w' ⟨n,h,f⟩;exact⟨n,G,l,⟨h,a.2.trans f⟩,j.step f⟩
def rT.patch{e:cN}{w w1 W:aG}{b:Nat}{o:Obj}{d a:List (Option aI)}(v:rT fp fb e cb F w w1 b o e_ (d++none::a) W)(k:Nat)(t:k=d.length)(l:TypeId)(i:Nat->aI)(hi:∀G n,lN fp G W (.iface l (.agg #[I_ (n:Nat)])) (i n))(B:(d++none::a).length<=1000000):
 cb<W.heap.size/\∃g n c,W.cell? (aH cb 1)=some (.slice (some (aH g 0)) n c)/\k<n/\n<=1000000/\(∃u,W.cell? (aH g k)=some u)/\W.frozen? (aH g k)=false/\g<W.heap.size/\∀h,aU (W.setCell (aH g k) (.iface l (.agg #[I_ (n:Nat)]))) h->rT fp fb e cb F w w1 b o e_ (d++some (i (d++none::a).length)::a) h:=by
 obtain⟨G,A,⟨f,j⟩,y⟩:=v;obtain⟨g,c,z,s,p,r,q⟩:=f.patch;subst t;refine⟨f.lt,g,_,c,z,s_,B,s,p,r,λh C=>?_⟩
 obtain⟨x,m⟩:=q _ _ h (hi G _) C;exact⟨G,A,⟨x,j.trans m⟩,y.step m⟩
def rT.blockk(s:VS fp fb fs cb lo d){w w1 W:aG}{b:Nat}{o:Obj}{c:List (Option aI)}(m:rT fp fb (fs.map (·.x_)) cb F w w1 b o e_ c W)(v:aQ)(l:List aE)(x:PKid (Btw lo cb) w v l)(p:Hs.StsOk (dM fs d) e_ l)(i:∀a∈l,nC a)(q:l.length<=1000000)(h:e_.length<=90001)(u:c.length+(bL (bA fs d) e_ l c.length).length<=1000000):
 Calls prog 213 #[aZ cb,v] W λe w'=>e=aX (.tuple #[])/\rT fp fb (fs.map (·.x_)) cb F w w1 b o e_ (c++(bL (bA fs d) e_ l c.length).map some) w':=by
 obtain⟨G,t,g,n⟩:=m;refine(B7 s v l c W g.1 (x.below g.2.bel) p i q h u).mono ?_;rintro e w' ⟨y,H,r,f⟩;exact⟨y,H,λk j=>r k (t k j),f.then g.2,n.step f.2⟩
def rT.exprk{w w1 W:aG}{b:Nat}{o:Obj}{c:List (Option aI)}(m:rT fp fb (fs.map (·.x_)) cb F w w1 b o e_ c W)(h:fs.length<=1000000)(i:∀k,k<fs.length->fp k=aZ (fb k))(l:e_.length<=90001)(v:aQ)(a:aE)(s:PN (Btw lo cb) w v a)(p:Hs.ExOk fs false e_ d a)(j:nC a)(r:c.length+(aF fs e_ d a c.length).length<=1000000):
 Calls prog 118 #[aZ cb,v] W λe w'=>e=aX (.tuple #[])/\rT fp fb (fs.map (·.x_)) cb F w w1 b o e_ (c++(aF fs e_ d a c.length).map some) w':=by
 obtain⟨G,q,g,n⟩:=m;refine(qE o_ h i d v a c W g.1 (s.below g.2.bel) p (j d) r).mono ?_
 rintro e w' ⟨t,f⟩;exact⟨t,G,q,f.then g.2,n.step f.2⟩
def rT.exprsk{w w1 W:aG}{b:Nat}{o:Obj}{c:List (Option aI)}(n:rT fp fb (fs.map (·.x_)) cb F w w1 b o e_ c W)(h:fs.length<=1000000)(i:∀k,k<fs.length->fp k=aZ (fb k))(m:e_.length<=90001)(v:aQ)(l:List aE)(u:PKid (Btw lo cb) w v l)(q:∀a∈l,Hs.ExOk fs false e_ d a)(j:∀a∈l,nC a)(r:l.length<=1000000)(t:c.length+(bW (aF fs e_ d) l c.length).length<=1000000):
 Calls prog 157 #[aZ cb,v] W λe w'=>e=aX (.tuple #[])/\rT fp fb (fs.map (·.x_)) cb F w w1 b o e_ (c++(bW (aF fs e_ d) l c.length).map some) w':=by
 obtain⟨G,s,g,p⟩:=n;refine(tZ (qE o_ h i d) v l c W g.1 (u.below g.2.bel) q (λa y=>j a y d) r t).mono ?_
 rintro e w' ⟨x,f⟩;exact⟨x,G,s,f.then g.2,p.step f.2⟩
def rT.fin{a:cN}{w w1 W:aG}{b:Nat}{o:Obj}{c:List (Option aI)}(e:rT fp fb a cb F w w1 b o e_ c W):QJ fp fb a cb F w c e_ W:=by
 obtain⟨G,f,d,_⟩:=e;exact⟨G,f,d⟩
def rT.box{a:cN}{w w1 W:aG}{b:Nat}{cs:Array Value}{T:TypeId}{c:List (Option aI)}(d:rT fp fb a cb F w w1 b (.cells cs T) e_ c W):W.heap[b]?=some (.cells cs T (0,0)):=by
 obtain⟨G,f,_,e⟩:=d;exact e.blk
def CP.cpB{c:cN}{w:aG}{a:List (Option aI)}(h:CP fp fb c cb F w a e_)(o:Obj):rT fp fb c cb F w w w.heap.size o e_ a (w.alloc o):=by
 obtain⟨b,d⟩:=h.new o;exact⟨F,λ_ h=>h,⟨d,b.fb⟩,b⟩
def BC(V:VS fp fb fs cb lo d)(O:fs.length<=1000000)(Q:∀k,k<fs.length->fp k=aZ (fb k))(B:e_.length<=90001)(l:Int)(v1 s1 U:aQ)(c:aE)(s r:List aE)(b:List (Option aI))(w:aG)(h:CP fp fb (fs.map (·.x_)) cb F w b e_)
 (X:PN (Btw lo cb) w v1 c) (T:PKid (Btw lo cb) w s1 s) (Y:PKid (Btw lo cb) w U r) (ho:Hs.ExOk fs false e_ d c) (L:Hs.StsOk (dM fs d) e_ s) (S:Hs.StsOk (dM fs d) e_ r) (hl:nC c) (P:∀a∈s,nC a) (J:∀a∈r,nC a) (I:s.length<=1000000) (M:r.length<=1000000)
 (f j q:List aI) (C:aF fs e_ d c b.length=f) (D:bL (bA fs d) e_ s (b.length+f.length+1)=j) (E:bL (bA fs d) e_ r (b.length+f.length+1+j.length+1)=q) (hn:b.length+f.length+1+j.length+1+q.length<=1000000):
 Calls prog 199 #[aZ cb,.agg #[I_ l,v1,s1,U]] w λe w'=>e=aX (.tuple #[])/\QJ fp fb (fs.map (·.x_)) cb F w (b++(f++[aI.skip (b.length+f.length+1+j.length+1)]++j++[aI.jump (b.length+f.length+1+j.length+1+q.length)]++q).map some) e_ w':=by
 obtain⟨v,o,rfl⟩:=X.form;obtain⟨A,x,rfl⟩:=T.sliceC;obtain⟨z,y,rfl⟩:=Y.sliceC;have K:=h.cpB (.cells #[I_ l,.iface v (.agg o),.slice A s.length x,.slice z r.length y] 207)
 refine(VG w cb (b.length+f.length) (b.length+f.length+1+j.length) l v (.agg o) A z s.length r.length x y
  (λW=>QJ fp fb (fs.map (·.x_)) cb F w ((b++f.map some++some (aI.skip (b.length+f.length+1+j.length+1))::j.map some)++some (aI.jump (b.length+f.length+1+j.length+1+q.length))::q.map some) e_ W)
  (rT fp fb (fs.map (·.x_)) cb F w w w.heap.size (.cells #[I_ l,.iface v (.agg o),.slice A s.length x,.slice z r.length y] 207) e_ (b++f.map some))
  (rT fp fb (fs.map (·.x_)) cb F w w w.heap.size (.cells #[I_ l,.iface v (.agg o),.slice A s.length x,.slice z r.length y] 207) e_ (b++f.map some++[none]))
  (rT fp fb (fs.map (·.x_)) cb F w w w.heap.size (.cells #[I_ l,.iface v (.agg o),.slice A s.length x,.slice z r.length y] 207) e_ (b++f.map some++[none]++j.map some))
  (rT fp fb (fs.map (·.x_)) cb F w w w.heap.size (.cells #[I_ l,.iface v (.agg o),.slice A s.length x,.slice z r.length y] 207) e_ (b++f.map some++[none]++j.map some++[none]))
  (rT fp fb (fs.map (·.x_)) cb F w w w.heap.size (.cells #[I_ l,.iface v (.agg o),.slice A s.length x,.slice z r.length y] 207) e_ (b++f.map some++some (aI.skip (b.length+f.length+1+j.length+1))::(j.map some++[none])))
  (rT fp fb (fs.map (·.x_)) cb F w w w.heap.size (.cells #[I_ l,.iface v (.agg o),.slice A s.length x,.slice z r.length y] 207) e_ (b++f.map some++some (aI.skip (b.length+f.length+1+j.length+1))::(j.map some++[none])++q.map some))
  ?_ (λW m=>?_) (λW m=>?_) (λW m=>?_) (λW m=>?_) (λW m=>?_) (λW m=>?_) (λW m=>?_) (λW m=>?_)).mono ?_
 ·have:=K.exprk O Q B _ c X ho hl (by rw[C];omega)
  rw[C] at this;exact this
 ·have:=m.emit (u:=.nilIface) (i:=none) (λ_=>rfl) t_
  rw[gG] at this;exact this
 ·exact⟨aA m.box rfl,aC m.box⟩
 ·have p:(b++f.map some++[none]).length=b.length+f.length+1:=t_
  have:=m.blockk V _ s T L P I B (by rw[p,D];omega)
  rw[p,D] at this;exact this
 ·have p:(b++f.map some++[none]++j.map some).length=b.length+f.length+1+j.length:=t_
  have:=m.emit (u:=.nilIface) (i:=none) (λ_=>rfl) (by rw[p];omega)
  rw[p] at this;exact this
 ·have G:b++f.map some++[none]++j.map some++[none]=(b++f.map some)++none::(j.map some++[none]):=s_
  rw[G] at m;have t:((b++f.map some)++none::(j.map some++[none])).length=b.length+f.length+1+j.length+1:=t_
  have:=m.patch (b.length+f.length) (by rw[gG]) 339 (λn=>.skip n) (λ_ _=>rfl) (by rw[t];omega)
  rw[t] at this;exact this
 ·exact⟨aA m.box rfl,aC m.box⟩
 ·have p:(b++f.map some++some (aI.skip (b.length+f.length+1+j.length+1))::(j.map some++[none])).length=b.length+f.length+1+j.length+1:=t_
  have:=m.blockk V _ r Y S J M B (by rw[p,E];omega)
  rw[p,E] at this;exact this
 ·have G:b++f.map some++some (aI.skip (b.length+f.length+1+j.length+1))::(j.map some++[none])++q.map some=(b++f.map some++some (aI.skip (b.length+f.length+1+j.length+1))::j.map some)++none::q.map some:=s_
  rw[G] at m;have t:((b++f.map some++some (aI.skip (b.length+f.length+1+j.length+1))::j.map some)++none::q.map some).length=b.length+f.length+1+j.length+1+q.length:=t_
  have H:b.length+f.length+1+j.length=(b++f.map some++some (aI.skip (b.length+f.length+1+j.length+1))::j.map some).length:=t_
  have:=m.patch (b.length+f.length+1+j.length) H 340 (λn=>.jump n) (λ_ _=>rfl) (by rw[t];omega)
  rw[t] at this;obtain⟨a1,g,n,N,a2,a3,a4,a5,a6,a7,Z⟩:=this;exact⟨a1,g,n,N,a2,a3,a4,a5,a6,a7,λW' hS=>(Z W' hS).fin⟩
 ·intro e W m;have e9:b++(f++[aI.skip (b.length+f.length+1+j.length+1)]++j++[aI.jump (b.length+f.length+1+j.length+1+q.length)]++q).map some=(b++f.map some++some (aI.skip (b.length+f.length+1+j.length+1))::j.map some)++some (aI.jump (b.length+f.length+1+j.length+1+q.length))::q.map some:=s_
  rw[e9];exact m
def X1(X:VS fp fb fs cb lo d)(G:fs.length<=1000000)(I:∀k,k<fs.length->fp k=aZ (fb k))(x:e_.length<=90001)(l:Int)(f:Nat)(v1 s1:aQ)(c:aE)(q:List aE)(b:List (Option aI))(w:aG)(h:CP fp fb (fs.map (·.x_)) cb F w b e_)
 (K:PN (Btw lo cb) w v1 c) (J:PKid (Btw lo cb) w s1 q) (U:Hs.ExOk fs false e_ d c) (D:Hs.StsOk (dM fs d) e_ q) (V:nC c) (H:∀a∈q,nC a) (B:q.length<=1000000)
 (j m:List aI) (y:aF fs e_ d c b.length=j) (z:bL (bA fs d) e_ q (b.length+j.length+1)=m) (hn:b.length+j.length+1+m.length+1<=1000000):
 Calls prog 200 #[aZ cb,.agg #[I_ l,v1,s1],I_ f] w λe w'=>e=aX (.tuple #[])/\QJ fp fb (fs.map (·.x_)) cb F w (b++(j++[aI.skip (b.length+j.length+1+m.length+1)]++m++[aI.jump f]).map some) e_ w':=by
 obtain⟨s,p,rfl⟩:=K.form;obtain⟨v,t,rfl⟩:=J.sliceC;have C:=h.cpB (.cells #[I_ l,.iface s (.agg p),.slice v q.length t] 209)
 refine(S0 w cb (b.length+j.length) f l s (.agg p) v q.length t
  (λW=>QJ fp fb (fs.map (·.x_)) cb F w ((b++j.map some)++some (aI.skip (b.length+j.length+1+m.length+1))::(m.map some++[some (aI.jump f)])) e_ W)
  (rT fp fb (fs.map (·.x_)) cb F w w w.heap.size (.cells #[I_ l,.iface s (.agg p),.slice v q.length t] 209) e_ (b++j.map some))
  (rT fp fb (fs.map (·.x_)) cb F w w w.heap.size (.cells #[I_ l,.iface s (.agg p),.slice v q.length t] 209) e_ (b++j.map some++[none]))
  (rT fp fb (fs.map (·.x_)) cb F w w w.heap.size (.cells #[I_ l,.iface s (.agg p),.slice v q.length t] 209) e_ (b++j.map some++[none]++m.map some))
  (rT fp fb (fs.map (·.x_)) cb F w w w.heap.size (.cells #[I_ l,.iface s (.agg p),.slice v q.length t] 209) e_ (b++j.map some++[none]++m.map some++[some (aI.jump f)]))
  ?_ (λW o=>?_) (λW o=>?_) (λW o=>?_) (λW o=>?_) (λW o=>?_)).mono ?_
 ·have:=C.exprk G I x _ c K U V (by rw[y];omega)
  rw[y] at this;exact this
 ·have:=o.emit (u:=.nilIface) (i:=none) (λ_=>rfl) t_
  rw[gG] at this;exact this
 ·exact⟨aA o.box rfl,aC o.box⟩
 ·have r:(b++j.map some++[none]).length=b.length+j.length+1:=t_
  have:=o.blockk X _ q J D H B x (by rw[r,z];omega)
  rw[r,z] at this;exact this
 ·have r:(b++j.map some++[none]++m.map some).length=b.length+j.length+1+m.length:=t_
  refine(o.emit (u:=.iface 340 (.agg #[I_ f])) (i:=some (aI.jump f)) (λ_=>rfl) (by rw[r];omega)).mono ?_
  rintro e w' ⟨Z,N⟩;exact⟨⟨_,Z⟩,N⟩
 ·have M:b++j.map some++[none]++m.map some++[some (aI.jump f)]=(b++j.map some)++none::(m.map some++[some (aI.jump f)]):=s_
  rw[M] at o;have A:((b++j.map some)++none::(m.map some++[some (aI.jump f)])).length=b.length+j.length+1+m.length+1:=t_
  have:=o.patch (b.length+j.length) (by rw[gG]) 339 (λn=>.skip n) (λ_ _=>rfl) (by rw[A];omega)
  rw[A] at this;obtain⟨a1,g,n,E,a2,Q,T,S,Y,O,L⟩:=this;exact⟨a1,g,n,E,a2,Q,T,S,Y,O,λW' hS=>(L W' hS).fin⟩
 ·intro e W o;have P:b++(j++[aI.skip (b.length+j.length+1+m.length+1)]++m++[aI.jump f]).map some=(b++j.map some)++some (aI.skip (b.length+j.length+1+m.length+1))::(m.map some++[some (aI.jump f)]):=s_
  rw[P];exact o
end
section
variable {fp:eK} {fb:Nat->Nat} {fs:List aE} {cb lo:Nat} {d:Nat}
def gX.cpB{F:bY}{e_:cN}{c:cN}{w W:aG}{a:List (Option aI)}(h:gX fp fb c cb F w a e_ W)(o:Obj):rT fp fb c cb F w W W.heap.size o e_ a (W.alloc o):=by
 obtain⟨b,d⟩:=h.1.new o;exact⟨F,λ_ h=>h,⟨d,h.2.trans b.fb⟩,b⟩
def aO_(IH:VS fp fb fs cb lo d)(Y:fs.length<=1000000)(X:∀k,k<fs.length->fp k=aZ (fb k)):VS fp fb fs cb lo (d+1):=by
 intro F f v a g w h bc Q J ac z;obtain⟨T,cs,ps,rfl,bd,L⟩:=bc.parts;obtain⟨fv,cv,sp,m,_,h4,_⟩:=h.blk;obtain⟨p,rfl⟩:=h4.form;have V:=h.lt;have ab:=aA (i:=2) m rfl
 have aa:g.length+1<=1000000->Calls prog 132 #[aZ cb,.iface 245 (.agg #[I_ a.l_,.pointer p])] (w.drew.alloc (.cells #[I_ a.l_] 163)) λe w'=>e=aX (I_ g.length)/\gX fp fb (fs.map (·.x_)) cb F w (g++[some (.begin a.l_ f)]) f w':=λhn=>by
  have hb:Below w.heap.size w (w.drew.alloc (.cells #[I_ a.l_] 163)):=((eh _ w).drew).alloc cL _;have h':=h.grow hb;refine(tC (o:=some (.begin a.l_ f)) h' ⟨_,rfl,eF.keep (λb az=>hb.block b (h.fix b az).1) dP h4⟩ o_).mono ?_
  rintro e w' ⟨H,q1,q2⟩;exact⟨H,q1,(FB.of_lt hb V).trans q2⟩
 have B:(g++[some (aI.begin a.l_ f)]).length=g.length+1:=s_
 have af:f.length<=1000000:=o_
 have no:∀{x y:cC} {p:Prop},a.op=x->x≠y->a.op=y->p:=λe1 e2 e3=>absurd (e1.symm.trans e3) e2
 rcases bd with ⟨_,_,_,n,_⟩|⟨_,_,n,_⟩|⟨_,_,n,_⟩|⟨_,_,_,n,_⟩|⟨_,_,_,n,_⟩|⟨_,_,n,_⟩|⟨_,_,_,_,_,_,_,n,_⟩|⟨_,o,_,_,_,ax,n,_⟩|⟨_,_,_,_,_,_,_,n,_⟩|⟨rfl,v1,t,A,rfl,n,j,rfl⟩|⟨rfl,sv,v1,l,A,rfl,n,j,rfl⟩|⟨rfl,v1,s1,A,N,rfl,n,au,j,rfl⟩|⟨rfl,v1,s1,s2,A,N,b2,rfl,n,au,bf,j,rfl⟩|⟨rfl,v1,s1,A,N,rfl,n,au,j,rfl⟩|⟨rfl,l,rfl,n,j,rfl⟩|⟨rfl,v1,A,rfl,n,j,rfl⟩|⟨rfl,v1,A,rfl,n,j,rfl⟩|⟨rfl,sv,c,rfl,n,av,be,j,aj,rfl⟩
 iterate 7
  ·exfalso;rcases Q with ⟨m,_⟩|⟨m,_⟩|⟨m,_⟩|⟨m,_⟩|⟨m,_⟩|⟨m,_⟩|⟨m,_⟩<;>exact no n d_ m
 ·exfalso;rcases ax with rfl|rfl<;>(rcases Q with ⟨m,_⟩|⟨m,_⟩|⟨m,_⟩|⟨m,_⟩|⟨m,_⟩|⟨m,_⟩|⟨m,_⟩<;>exact no n d_ m)
 ·exfalso;rcases Q with ⟨m,_⟩|⟨m,_⟩|⟨m,_⟩|⟨m,_⟩|⟨m,_⟩|⟨m,_⟩|⟨m,_⟩<;>(rw[m] at n;exact n rfl)
 ·-- var
  have S:Hs.ExOk fs false f d A/\f.length<=90000:=by
   rcases Q with ⟨_,D,t',v',r,K,_⟩|⟨m,_⟩|⟨m,_⟩|⟨m,_⟩|⟨m,_⟩|⟨m,_⟩|⟨m,_⟩
   ·rw[j] at r;simp at r;rw[r.2];exact⟨K,o_⟩
   all_goals exact no n d_ m
  have E:=bo_ fs f d a g.length t A n j;rw[E] at z ⊢
  simp only[el,ep,ey] at z;have hp:=L ⟨v1,[A],true⟩ s_
  obtain⟨Z,C,rfl⟩:=hp.one'.form;have M:=J.kid (k:=A) (by rw[j];simp)
  refine(EP w cb g.length a.l_ p t.l_ (bs t.x_) Z (.agg C) f.length (λW=>QJ fp fb (fs.map (·.x_)) cb F w (g++(aI.begin a.l_ f::aF fs f d A (g.length+1)++[aI.declare f.length]).map some) (t.x_::f) W) _
   (λb W=>∃O,rT fp fb (fs.map (·.x_)) cb F w O b (.cells #[I_ a.l_,I_ t.l_,.string (bs t.x_),.iface Z (.agg C)] 200) f ((g++[some (.begin a.l_ f)])++(aF fs f d A (g.length+1)).map some) W)
   (λb W=>∃O,rT fp fb (fs.map (·.x_)) cb F w O b (.cells #[I_ a.l_,I_ t.l_,.string (bs t.x_),.iface Z (.agg C)] 200) f ((g++[some (.begin a.l_ f)])++(aF fs f d A (g.length+1)).map some++[some (.declare f.length)]) W)
   V ab (aa o_) (λW s=>?_) (λb W s=>?_) (λb W s=>?_) (λb W s=>?_) (λb W s=>?_))
  ·refine((s.cpB _).exprk Y X ac _ A hp.one' S.1 M (by rw[B];omega)).mono ?_
   rintro e w' ⟨H,D⟩;rw[B] at D;exact⟨H,W,D⟩
  ·obtain⟨O,G,hG,q,_⟩:=s;exact TW q.1 af
  ·obtain⟨O,s⟩:=s;refine(s.emit (u:=.iface 321 (.agg #[I_ f.length])) (i:=some (.declare f.length)) (λ_=>rfl) t_).mono ?_
   rintro e w' ⟨H,D⟩;exact⟨⟨_,H⟩,O,D⟩
  ·obtain⟨O,s⟩:=s;exact⟨aA s.box rfl,aC s.box⟩
  ·obtain⟨O,G,hG,q,_⟩:=s;refine(E0 t.x_ q.1 af).mono ?_;rintro e w' ⟨H,q1,q2⟩;refine⟨H,λk=>G k\/k=W.heap.size,λk r=>d7 (hG k r),?_,q.2.trans q2⟩
   simpa using q1
 ·-- an assignment
  have S:a.x_∈f/\∀k∈a.y_,Hs.ExOk fs false f d k:=by
   rcases Q with ⟨m,_⟩|⟨_,D,_,K⟩|⟨m,_⟩|⟨m,_⟩|⟨m,_⟩|⟨m,_⟩|⟨m,_⟩
   ·exact no n d_ m
   ·exact⟨D,K⟩
   all_goals exact no n d_ m
  have E:=bp_ fs f d a g.length n;have ba:(l++[A]).length-1=l.length:=s_
  rw[j,oV,EX] at E;rw[ba] at E;rw[E] at z ⊢
  simp only[el,ep,ey] at z;have hp:=L ⟨sv,l,false⟩ s_
  have I:=L ⟨v1,[A],true⟩ s_
  obtain⟨Z,C,rfl⟩:=I.one'.form;obtain⟨x,c,rfl⟩:=hp.many.sliceC;have aw:=J.len;rw[j,el] at aw;generalize aq:bW (aF fs f d) l (g.length+1)=q1 at*;generalize al:aF fs f d A (g.length+1+q1.length)=q2 at*
  refine(JG w cb g.length a.l_ p (bs a.x_) x l.length c (dV f a.x_) Z (.agg C) (λW=>QJ fp fb (fs.map (·.x_)) cb F w (g++(aI.begin a.l_ f::(q1++q2)++[aI.assign (dV f a.x_) l.length]).map some) f W) _
   (λb W=>∃O,rT fp fb (fs.map (·.x_)) cb F w O b (.cells #[I_ a.l_,.string (bs a.x_),.slice x l.length c,.iface Z (.agg C)] 203) f ((g++[some (.begin a.l_ f)])++q1.map some) W)
   (λb W=>∃O,rT fp fb (fs.map (·.x_)) cb F w O b (.cells #[I_ a.l_,.string (bs a.x_),.slice x l.length c,.iface Z (.agg C)] 203) f ((g++[some (.begin a.l_ f)])++q1.map some++q2.map some) W)
   V ab (aa o_) (λW s=>?_) (λb W s=>?_) (λb W s=>?_) (λb W s=>?_) (λb W W' s hS=>?_) (λb W W' s hS=>?_))
  ·refine((s.cpB _).exprsk Y X ac _ l hp.many (λk r=>S.2 k (by rw[j];simp[r])) (λk r=>J.kid (by rw[j];simp[r])) o_ (by rw[B,aq];omega)).mono ?_
   rintro e w' ⟨H,D⟩;rw[B,aq] at D;exact⟨H,W,D⟩
  ·obtain⟨O,s⟩:=s;exact⟨aA s.box rfl,aC s.box⟩
  ·obtain⟨O,s⟩:=s;have ai:((g++[some (aI.begin a.l_ f)])++q1.map some).length=g.length+1+q1.length:=t_
   refine(s.exprk Y X ac _ A I.one' (S.2 A (by rw[j];simp)) (J.kid (by rw[j];simp)) (by rw[ai,al];omega)).mono ?_
   rintro e w' ⟨H,D⟩;rw[ai,al] at D;exact⟨H,O,D⟩
  ·obtain⟨O,s⟩:=s;exact⟨aA s.box rfl,aA s.box rfl,aC s.box⟩
  ·obtain⟨O,G,hG,q,_⟩:=s;exact RN a.x_ (q.1.grow hS.below) S.1 af
  ·obtain⟨O,G,hG,q,hL⟩:=s;have ap:gX fp fb (fs.map (·.x_)) cb G w ((g++[some (.begin a.l_ f)])++q1.map some++q2.map some) f W':=⟨q.1.grow hS.below,q.2.trans (FB.of_lt hS.below q.1.lt)⟩
   refine(emits (i:=.assign (dV f a.x_) l.length) ap rfl t_).mono ?_
   rintro e w' ⟨H,D⟩;refine⟨H,G,hG,?_⟩;have e9:g++(aI.begin a.l_ f::(q1++q2)++[aI.assign (dV f a.x_) l.length]).map some=(g++[some (.begin a.l_ f)])++q1.map some++q2.map some++[some (.assign (dV f a.x_) l.length)]:=s_
   rw[e9];exact D
 ·-- if,without else
  have S:Hs.ExOk fs false f d A/\Hs.StsOk (dM fs d) f N.y_:=by
   rcases Q with ⟨m,_⟩|⟨m,_⟩|⟨_,c',t',r,K,h4⟩|⟨m,_⟩|⟨m,_⟩|⟨m,_⟩|⟨m,_⟩
   rotate_left 2
   ·rcases r with r|⟨x,r,_⟩
    ·rw[j] at r;simp at r;rw[r.1,r.2];exact⟨K,h4⟩
    ·rw[j] at r;simp at r
   all_goals exact no n d_ m
  have E:=br_ fs f d a g.length A N n j;rw[E] at z ⊢
  have I:=L ⟨v1,[A],true⟩ s_
  have ad:=L ⟨s1,N.y_,false⟩ s_
  have M:=J.kid (k:=A) (by rw[j];simp)
  have ae:=J.kid (k:=N) (by rw[j];simp)
  obtain⟨Z,C,rfl⟩:=I.one'.form;obtain⟨x,c,rfl⟩:=ad.many.sliceC;generalize ag:aF fs f d A (g.length+1)=P at*;generalize ah:bL (bA fs d) f N.y_ (g.length+1+P.length+1)=U at*;simp only[el,ep,ey] at z;refine LF w cb g.length a.l_ p Z (.agg C) x none N.y_.length 0 c 0 _ _ V ab (aa o_) (λW s=>?_)
  obtain⟨G,hG,q,_⟩:=s.cpB (.cells #[I_ a.l_,.iface Z (.agg C),.slice x N.y_.length c,bG] 207);refine(BC (d:=d) IH Y X ac a.l_ _ _ _ A N.y_ [] _ _ q.1 (I.one'.below q.2.bel) (ad.many.below q.2.bel) (d7 ⟨rfl,rfl⟩) S.1 S.2 trivial M (λk r=>ae.kid r) (λk r=>by simp at r) ae.len s_ P U [] (by rw[B];exact ag) (by rw[B];exact ah) rfl (by rw[B];simp;omega)).mono ?_
  rintro e w' ⟨H,D⟩;refine⟨H,?_⟩;have K:=(D.then q.2).more hG
  rw[B] at K;have e9:(g++[some (aI.begin a.l_ f)])++(P++[aI.skip (g.length+1+P.length+1+U.length+1)]++U++[aI.jump (g.length+1+P.length+1+U.length+1+([]:List aI).length)]++[]).map some=g++(aI.begin a.l_ f::P++[aI.skip (g.length+1+P.length+1+U.length+1)]++U++[aI.jump (g.length+1+P.length+1+U.length+1)]).map some:=s_
  rw[e9] at K;exact K
 ·-- if,with else
  have S:Hs.ExOk fs false f d A/\Hs.StsOk (dM fs d) f N.y_/\Hs.StsOk (dM fs d) f b2.y_:=by
   rcases Q with ⟨m,_⟩|⟨m,_⟩|⟨_,c',t',r,K,h4⟩|⟨m,_⟩|⟨m,_⟩|⟨m,_⟩|⟨m,_⟩
   rotate_left 2
   ·rcases r with r|⟨x,r,h5⟩
    ·rw[j] at r;simp at r
    ·rw[j] at r;simp at r;rw[r.1,r.2.1,r.2.2];exact⟨K,h4,h5⟩
   all_goals exact no n d_ m
  have E:=bq_ fs f d a g.length A N b2 n j;rw[E] at z ⊢
  have I:=L ⟨v1,[A],true⟩ s_
  have ad:=L ⟨s1,N.y_,false⟩ s_
  have ak:=L ⟨s2,b2.y_,false⟩ s_
  have M:=J.kid (k:=A) (by rw[j];simp)
  have ae:=J.kid (k:=N) (by rw[j];simp)
  have am:=J.kid (k:=b2) (by rw[j];simp)
  obtain⟨Z,C,rfl⟩:=I.one'.form;obtain⟨x,c,rfl⟩:=ad.many.sliceC;obtain⟨x2,ao,rfl⟩:=ak.many.sliceC;generalize ag:aF fs f d A (g.length+1)=P at*;generalize ah:bL (bA fs d) f N.y_ (g.length+1+P.length+1)=U at*;generalize bb:bL (bA fs d) f b2.y_ (g.length+1+P.length+1+U.length+1)=ce at*;simp only[el,ep,ey] at z;refine LF w cb g.length a.l_ p Z (.agg C) x x2 N.y_.length b2.y_.length c ao _ _ V ab (aa o_) (λW s=>?_)
  obtain⟨G,hG,q,_⟩:=s.cpB (.cells #[I_ a.l_,.iface Z (.agg C),.slice x N.y_.length c,.slice x2 b2.y_.length ao] 207);refine(BC (d:=d) IH Y X ac a.l_ _ _ _ A N.y_ b2.y_ _ _ q.1 (I.one'.below q.2.bel) (ad.many.below q.2.bel) (ak.many.below q.2.bel) S.1 S.2.1 S.2.2 M (λk r=>ae.kid r) (λk r=>am.kid r) ae.len am.len P U ce (by rw[B];exact ag) (by rw[B];exact ah) (by rw[B];exact bb) (by rw[B];omega)).mono ?_
  rintro e w' ⟨H,D⟩;refine⟨H,?_⟩;have K:=(D.then q.2).more hG
  rw[B] at K;have e9:(g++[some (aI.begin a.l_ f)])++(P++[aI.skip (g.length+1+P.length+1+U.length+1)]++U++[aI.jump (g.length+1+P.length+1+U.length+1+ce.length)]++ce).map some=g++(aI.begin a.l_ f::P++[aI.skip (g.length+1+P.length+1+U.length+1)]++U++[aI.jump (g.length+1+P.length+1+U.length+1+ce.length)]++ce).map some:=s_
  rw[e9] at K;exact K
 ·-- while
  have S:Hs.ExOk fs false f d A/\Hs.StsOk (dM fs d) f N.y_:=by
   rcases Q with ⟨m,_⟩|⟨m,_⟩|⟨m,_⟩|⟨_,c',t',r,K,h4⟩|⟨m,_⟩|⟨m,_⟩|⟨m,_⟩
   rotate_left 3
   ·rw[j] at r;simp at r;rw[r.1,r.2];exact⟨K,h4⟩
   all_goals exact no n d_ m
  have E:=K9 fs f d a g.length A N n j;rw[E] at z ⊢
  have I:=L ⟨v1,[A],true⟩ s_
  have ad:=L ⟨s1,N.y_,false⟩ s_
  have M:=J.kid (k:=A) (by rw[j];simp)
  have ae:=J.kid (k:=N) (by rw[j];simp)
  obtain⟨Z,C,rfl⟩:=I.one'.form;obtain⟨x,c,rfl⟩:=ad.many.sliceC;generalize ag:aF fs f d A (g.length+1)=P at*;generalize ah:bL (bA fs d) f N.y_ (g.length+1+P.length+1)=U at*;simp only[el,ep,ey] at z;refine NP w cb g.length a.l_ p Z (.agg C) x N.y_.length c _ _ V ab (aa o_) (λW s=>?_)
  obtain⟨G,hG,q,_⟩:=s.cpB (.cells #[I_ a.l_,.iface Z (.agg C),.slice x N.y_.length c] 209);refine(X1 (d:=d) IH Y X ac a.l_ g.length _ _ A N.y_ _ _ q.1 (I.one'.below q.2.bel) (ad.many.below q.2.bel) S.1 S.2 M (λk r=>ae.kid r) ae.len P U (by rw[B];exact ag) (by rw[B];exact ah) (by rw[B];omega)).mono ?_
  rintro e w' ⟨H,D⟩;refine⟨H,?_⟩;have K:=(D.then q.2).more hG
  rw[B] at K;have e9:(g++[some (aI.begin a.l_ f)])++(P++[aI.skip (g.length+1+P.length+1+U.length+1)]++U++[aI.jump g.length]).map some=g++(aI.begin a.l_ f::P++[aI.skip (g.length+1+P.length+1+U.length+1)]++U++[aI.jump g.length]).map some:=s_
  rw[e9] at K;exact K
 ·-- return,without a value
  have E:=RJ fs f d a g.length n j;rw[E] at z ⊢
  simp only[ep,ey] at z;refine uO w cb g.length a.l_ p _ _ _ _ (λW=>QJ fp fb (fs.map (·.x_)) cb F w ((g++[some (aI.begin a.l_ f)])++[some (.push (bH 0))]) f W) V ab (aa o_) (λW s=>?_) (λW s=>?_)
  ·obtain⟨G,hG,q,_⟩:=s.cpB (.cells #[I_ a.l_,.iface 267 (.agg #[I_ l,I_ 0])] 211);obtain⟨G2,ay,ar,_⟩:=q.cpB (.cells #[I_ l,I_ 0] 267);refine(uS _ cb l 0 _ (emits (i:=.push (bH 0)) ar ⟨_,rfl,PV.num _ _ _ o_ o_,by rw[kZ];omega⟩ t_)).mono ?_
   rintro e w' ⟨H,D⟩;exact⟨H,G2,λk r=>ay k (hG k r),D⟩
  ·obtain⟨G,hG,q⟩:=s;refine(emits (i:=.give) q rfl t_).mono ?_
   rintro e w' ⟨H,D⟩;refine⟨H,G,hG,?_⟩;have e9:g++([aI.begin a.l_ f,.push (bH 0),.give]).map some=(g++[some (aI.begin a.l_ f)])++[some (.push (bH 0))]++[some .give]:=s_
   rw[e9];exact D
 ·-- return
  have S:Hs.ExOk fs false f d A:=by
   rcases Q with ⟨m,_⟩|⟨m,_⟩|⟨m,_⟩|⟨m,_⟩|⟨_,r⟩|⟨m,_⟩|⟨m,_⟩
   rotate_left 4
   ·rcases r with r|⟨v',r,K⟩
    ·rw[j] at r;simp at r
    ·rw[j] at r;simp at r;rw[r];exact K
   all_goals exact no n d_ m
  have E:=RI fs f d a g.length A n j;rw[E] at z ⊢
  have I:=L ⟨v1,[A],true⟩ s_
  have M:=J.kid (k:=A) (by rw[j];simp)
  obtain⟨Z,C,rfl⟩:=I.one'.form;simp only[el,ep,ey] at z;refine uO w cb g.length a.l_ p _ _ _ _ (λW=>∃O,rT fp fb (fs.map (·.x_)) cb F w O O.heap.size (.cells #[I_ a.l_,.iface Z (.agg C)] 211) f ((g++[some (aI.begin a.l_ f)])++(aF fs f d A (g.length+1)).map some) W) V ab (aa o_) (λW s=>?_) (λW s=>?_)
  ·refine((s.cpB _).exprk Y X ac _ A I.one' S M (by rw[B];omega)).mono ?_
   rintro e w' ⟨H,D⟩;rw[B] at D;exact⟨H,W,D⟩
  ·obtain⟨O,s⟩:=s;refine(s.emit (u:=.iface 243 (.agg #[])) (i:=some .give) (λ_=>rfl) t_).mono ?_
   rintro e w' ⟨H,D⟩;refine⟨⟨_,H⟩,?_⟩;have e9:g++(aI.begin a.l_ f::aF fs f d A (g.length+1)++[aI.give]).map some=(g++[some (aI.begin a.l_ f)])++(aF fs f d A (g.length+1)).map some++[some .give]:=s_
   rw[e9];exact D.fin
 ·-- print
  have S:Hs.ExOk fs false f d A:=by
   rcases Q with ⟨m,_⟩|⟨m,_⟩|⟨m,_⟩|⟨m,_⟩|⟨m,_⟩|⟨_,v',r,K⟩|⟨m,_⟩
   rotate_left 5
   ·rw[j] at r;simp at r;rw[r];exact K
   all_goals exact no n d_ m
  have E:=L1 fs f d a g.length A n j;rw[E] at z ⊢
  have I:=L ⟨v1,[A],true⟩ s_
  have M:=J.kid (k:=A) (by rw[j];simp)
  obtain⟨Z,C,rfl⟩:=I.one'.form;simp only[el,ep,ey] at z;refine NQ w cb g.length a.l_ p _ _ _ _ (λW=>∃O,rT fp fb (fs.map (·.x_)) cb F w O O.heap.size (.cells #[I_ a.l_,.iface Z (.agg C)] 212) f ((g++[some (aI.begin a.l_ f)])++(aF fs f d A (g.length+1)).map some) W) V ab (aa o_) (λW s=>?_) (λW s=>?_)
  ·refine((s.cpB _).exprk Y X ac _ A I.one' S M (by rw[B];omega)).mono ?_
   rintro e w' ⟨H,D⟩;rw[B] at D;exact⟨H,W,D⟩
  ·obtain⟨O,s⟩:=s;refine(s.emit (u:=.iface 326 (.agg #[])) (i:=some .print) (λ_=>rfl) t_).mono ?_
   rintro e w' ⟨H,D⟩;refine⟨⟨_,H⟩,?_⟩;have e9:g++(aI.begin a.l_ f::aF fs f d A (g.length+1)++[aI.print]).map some=(g++[some (aI.begin a.l_ f)])++(aF fs f d A (g.length+1)).map some++[some .print]:=s_
   rw[e9];exact D.fin
 ·-- a call a_
  have S:Hs.ExOk fs false f d c:=by
   rcases Q with ⟨m,_⟩|⟨m,_⟩|⟨m,_⟩|⟨m,_⟩|⟨m,_⟩|⟨m,_⟩|⟨_,v',r,K⟩
   rotate_left 6
   ·rw[j] at r;simp at r;rw[r];exact K
   all_goals exact no n d_ m
  have E:=cL_ fs f d a g.length c n j;rw[E] at z ⊢
  rw[<-av];have hp:=L ⟨sv,c.y_,false⟩ s_
  have M:=J.kid (k:=c) (by rw[j];simp)
  obtain⟨x,cp,rfl⟩:=hp.many.sliceC;simp only[el,ep,ey] at z;refine RG w cb g.length a.l_ p _ _ _ _ _ _ (λW=>QJ fp fb (fs.map (·.x_)) cb F w ((g++[some (aI.begin a.l_ f)])++(aF fs f d c (g.length+1)).map some) f W) V ab (aa o_) (λW s=>?_) (λW s=>?_)
  ·cases d with
   |zero=>exact S.elim
   |succ d=>
    obtain⟨G,hG,q,_⟩:=s.cpB (.cells #[I_ a.l_,.string (bs c.x_),.slice x c.y_.length cp] 214);refine(Y0 (qE o_ Y X d) Y X c _ a.l_ _ _ q.1 aj (hp.many.below q.2.bel) S (M _) (by rw[B];omega)).mono ?_
    rintro e w' ⟨H,D⟩;rw[B] at D;exact⟨H,G,hG,D.then q.2⟩
  ·obtain⟨G,hG,q⟩:=s;refine(emits (i:=.drop) q rfl t_).mono ?_
   rintro e w' ⟨H,D⟩;refine⟨H,G,hG,?_⟩;have e9:g++(aI.begin a.l_ f::aF fs f d c (g.length+1)++[aI.drop]).map some=(g++[some (aI.begin a.l_ f)])++(aF fs f d c (g.length+1)).map some++[some .drop]:=s_
   rw[e9];exact D
def G4(a:fs.length<=1000000)(b:∀k,k<fs.length->fp k=aZ (fb k)):∀d,VS fp fb fs cb lo d
 |0=>λ_ _ _ _ _ _ _ _ h=>h.elim
 |d+1=>aO_ (G4 a b d) a b
end
def Y5(w:aG)(cb:Nat)(l:Int)(tx:ByteArray)(r f:Option Addr)(b G o q:Nat)(P:Value->World->Prop)(I:Nat->World->Prop)(Q R S:World->Prop)(hl:cb<w.heap.size)(O:b<=1000000)
 (c1:∃u,w.cell? (aH cb 1)=some u) (t:∃u,w.cell? (aH cb 2)=some u) (V:w.frozen? (aH cb 1)=false) (f2:w.frozen? (aH cb 2)=false)
 (J:Hid (I 0 (((w.setCell (aH cb 1) (bG)).setCell (aH cb 2) (.pointer none)).alloc (.cells #[I_ l,.string tx,.slice r b G,.slice f o q] 169))))
 (Y:Hid (∀j W,I j W->j<b->∃d B h,r=some (aH d 0)/\d<W.heap.size/\W.cell? (aH d (j*2))=some (I_ B)/\W.cell? (aH d (j*2+1))=some (.string h)/\Calls prog 130 #[aZ cb,.string h] (W.alloc (.cells #[I_ B,.string h] 165)) λe w'=>e=aX (.tuple #[])/\I (j+1) w'))
 (X:Hid (∀W,I b W->W.cell? (aH w.heap.size 3)=some (.slice f o q)/\w.heap.size<W.heap.size/\Calls prog 131 #[aZ cb,.slice f o q] W λe w'=>e=aX (.tuple #[])/\Q w'))
 (HE:Hid (∀W,Q W->Calls prog 132 #[aZ cb,.iface 241 (.agg #[.iface 183 (I_ 0)])] W λe w'=>(∃k:Nat,e=aX (I_ k))/\R w'))
 (U:Hid (∀W,R W->Calls prog 132 #[aZ cb,.iface 243 (.agg #[])] W λe w'=>(∃k:Nat,e=aX (I_ k))/\S w'))
 (Z:Hid (∀W,S W->cb<W.heap.size/\∃x n c,W.cell? (aH cb 1)=some (.slice x n c)/\P (.slice x n c) W)):
 Calls prog 96 #[aZ cb,.agg #[I_ l,.string tx,.slice r b G,.slice f o q]] w λe w'=>∃D,e=aX D/\P D w':=by
 obtain⟨u1,c1⟩:=c1;obtain⟨u2,t⟩:=t;have N:¬cb=w.heap.size:=o_
 have H:¬w.heap.size=cb:=o_
 go_in
 go_wp2_with fail;go_loopg [6,16] b (λgk _ i wr=>∃j:Nat,j+gk=b/\i=I_ j/\I j wr)
 case atStart=>exact⟨0,o_,rfl,J⟩
 case round=>
  obtain⟨j,hj,rfl,g⟩:=hrel;clear c1 t V f2 J;by_cases s:j<b
  ·obtain⟨m,rfl⟩:∃m,gk=m+1:=⟨gk-1,o_⟩
   obtain⟨d,B,h,rfl,hg,E,M,a⟩:=Y _ _ g s;have A:=aB a;have e1:(0:Int)<=(j:Int):=o_
   have e2:(j:Int)<(b:Int):=o_
   clear g a;go_wp2_with fail;refine A.mono ?_;rintro e L ⟨rfl,p⟩;go_wp2
   go_roundg m
   case measure=>omega
   case rel=>exact⟨j+1,o_,by go_num,p⟩
  ·have v:j=b:=o_
   subst v;obtain⟨E,M,a⟩:=X _ g;have A:=aB a;clear g a;go_wp2_with fail;refine A.mono ?_;rintro e L ⟨rfl,p⟩;have z:=aB (HE _ p);clear p E;go_wp2_with fail;refine z.mono ?_;rintro e w2 ⟨⟨k,rfl⟩,C⟩;have y:=aB (U _ C);clear C;go_wp2_with fail;refine y.mono ?_;rintro e w3 ⟨⟨k2,rfl⟩,F⟩;obtain⟨g1,x,n,c,g2,K⟩:=Z _ F;have T:=aB K;clear F K;go_wp2
   go_ret;exact⟨_,rfl,T⟩
end Go.Proofs.YtlflgmdcghfngaaGreatDoor
