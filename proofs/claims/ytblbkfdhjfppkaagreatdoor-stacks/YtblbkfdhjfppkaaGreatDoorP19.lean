/- Contracts of the program: a fault is caught, whatever is done (2 variables are shared with it). -/
import Derived.Test.YtblbkfdhjfppkaaGreatDoorP13
import Derived.Test.YtblbkfdhjfppkaaGreatDoorP16
import Derived.Test.YtblbkfdhjfppkaaGreatDoorP10
set_option linter.defProp false
set_option maxRecDepth 100000
set_option maxHeartbeats 4000000
namespace Go.Proofs.YtblbkfdhjfppkaaGreatDoor
open Hs
open _root_.Go.Proofs.Tryz
open Instr(typeAssert)
open Go.RowKit
def PW(a:Nat)(p q:Option Addr)(w:World)(Q:World->Prop)(E:Nat->Nat->Prop)
 (c:∀W,(callFunc a #[.pointer p,.pointer q]).run prog W=.ok (.enter a #[.pointer p,.pointer q]) W)
 (x:∀o,o=(w.alloc (.cells #[.int .i64 0] 22)).alloc (.cells #[.int .i64 0] 3)->Calls prog a #[.pointer p,.pointer q] o fun e g=>
   (e=.returned (.tuple #[])/\g.heap[w.heap.size]?=some (.cells #[.int .i64 0] 22 (0,0))/\g.heap[w.heap.size+1]?=some (.cells #[.int .i64 0] 3 (0,0))/\Q g)\/
   ∃k n,k≠0/\e=.panicked [{ v:=.iface 141 (.agg #[.int .i64 (k:Nat),.int .i64 (n:Nat)]),recovered:=false }]/\Below o.heap.size o g/\E k n):
 Calls prog 42 #[.func (.func a) #[] #[.pointer p,.pointer q]] w fun e g=>
  (e=.returned (.tuple #[.int .i64 0,.int .i64 0])/\∃d,Q d/\g=(d.setCell ⟨w.heap.size,0,none⟩ (.int .i64 0)).setCell ⟨w.heap.size+1,0,none⟩ (.int .i64 0))\/
  ∃k n,k≠0/\e=.returned (.tuple #[.int .i64 (k:Nat),.int .i64 (n:Nat)])/\Below w.heap.size w g/\E k n:=by
 have D:=KW;have m:Below w.heap.size w ((w.alloc (.cells #[.int .i64 0] 22)).alloc (.cells #[.int .i64 0] 3)):=((ay_ _ w).alloc (au_ _) _).alloc (by simp) _
 have A:=aB (x _ rfl);have I:=c ((w.alloc (.cells #[.int .i64 0] 22)).alloc (.cells #[.int .i64 0] 3));clear x c;go_enter_defers func42,ntmps42
 go_wp2_with fail;refine A.out.mono ?_;rintro e d (⟨rfl,l,h,y⟩|⟨k,n,z,rfl,b,B⟩)
 ·have F:=aB y;clear y;have r:=jT l (i:=0) rfl;have s:=jT h (i:=0) rfl;have K:=lL (i:=0) l;have L:=lL (i:=0) h;have M:=nU l;have N:=nU h;go_wp2_with fail;refine leaves_cons (f:=75) (args:= #[.pointer (some ⟨w.heap.size,0,none⟩),.pointer (some ⟨w.heap.size+1,0,none⟩)]) (by simp) (by simp[go_sem]) ?_
  refine(DW ⟨w.heap.size,0,none⟩ ⟨w.heap.size+1,0,none⟩ _).mono ?_;rintro e H J ⟨rfl,rfl,rfl⟩;simp[Leaves,settle,results,results42,go_sem,r,s];exact av_ ⟨d,F.out,rfl⟩
 ·have l:d.heap[w.heap.size]?=some (.cells #[.int .i64 0] 22 (0,0)):=by rw[b.block _ (by simp;omega)];exact jM _ _ _
  have h:d.heap[w.heap.size+1]?=some (.cells #[.int .i64 0] 3 (0,0)):=by rw[b.block _ (by simp)];exact gO _ _ _
  have G:Below w.heap.size w d:=m.trans (b.mono (by simp;omega))
  have C:=aB (aW_ z B);clear b m A B z;go_wp2_with fail;refine leaves_cons (f:=75) (args:= #[.pointer (some ⟨w.heap.size,0,none⟩),.pointer (some ⟨w.heap.size+1,0,none⟩)]) (by simp) (by simp[go_sem]) ?_
  refine(yK w.heap.size (w.heap.size+1) k n [] _ l h (a2_ _)).mono ?_;rintro e H o ⟨rfl,rfl,u,r,s⟩;have t:=G.trans u;simp[Leaves,settle,results,results42,go_sem,r,s];obtain⟨j,rfl⟩:∃j,k=j+1:=⟨k-1,by have:=C.out.1;omega⟩
  exact as_ ⟨j,n,⟨by simp,rfl⟩,t,C.out.2⟩
def RS(fp:Nat->Value)(F:Nat->Prop)(w:World)(xs:List Value)(code:List (Option aH)):Prop:=
 xs.length=code.length/\∀(i:Nat) o,code[i]?=some o->∃u,xs[i]?=some u/\(match o with|none=>u=.nilIface|some i=>lC fp F w u i)
def RS.keep{d:Nat->Value}{F G:Nat->Prop}{w w':World}{xs:List Value}{a:List (Option aH)}(h:RS d F w xs a)(e:∀b,F b->w'.heap[b]?=w.heap[b]?)(k:∀b,F b->G b):RS d G w' xs a:=
 ⟨h.1,fun i o f=>by
   obtain⟨u,g,c⟩:=h.2 i o f;refine⟨u,g,?_⟩;cases o with
   |none=>exact c
   |some j=>exact lC.keep c e k⟩
def JG(fp:Nat->Value)(fb:Nat->Nat)(nms:List (List UInt8))(F:Nat->Prop)(w:World)(fv:Value):Prop:=
 (nms=[]/\fv=.slice none 0 0)\/∃g cap,fv=.slice (some ⟨g,0,none⟩) nms.length cap/\F g/\nms.length<=cap/\g<w.heap.size/\∀k (h:k<nms.length),w.cell? ⟨g,k,none⟩=some (fp k)/\fp k=.pointer (some ⟨fb k,0,none⟩)/\F (fb k)/\∃x,w.heap[fb k]?=some (.cells #[.string (bs nms[k]),x] 250 (0,0))
def JG.keep{f:Nat->Value}{l:Nat->Nat}{a:List (List UInt8)}{F G:Nat->Prop}{w w':World}{n:Value}(h:JG f l a F w n)(i:∀b,F b->w'.heap[b]?=w.heap[b]?)(j:∀b,F b->G b)(t:w.heap.size<=w'.heap.size):JG f l a G w' n:=by
 rcases h with h|⟨g,d,p,e,s,o,q⟩
 ·exact av_ h
 ·refine as_ ⟨g,d,p,j g e,s,az_ o t,fun k c=>?_⟩
  obtain⟨u,r,m,x,v⟩:=q k c;exact⟨by rw[World.cell?_of_block (i g e)];exact u,r,j _ m,x,by rw[i _ m];exact v⟩
structure CP(fp:Nat->Value)(fb:Nat->Nat)(nms:List (List UInt8))(cb:Nat)(F:Nat->Prop)(w:World)(code:List (Option aH))(seen:List (List UInt8)):Prop where
 blk:∃fv cv sp,w.heap[cb]?=some (.cells #[fv,cv,sp] 276 (0,0))/\(∃xs,w.ownsRow (cb+1) 355 1 cv code.length xs/\RS fp F w xs code)/\eE F w sp seen/\JG fp fb nms F w fv
 fix:∀k,F k->k<w.heap.size/\k≠cb/\kW cb w≠some k
section
variable {fp:Nat->Value} {fb:Nat->Nat} {nms:List (List UInt8)} {cb:Nat} {F:Nat->Prop} {w w':World} {code:List (Option aH)} {seen:List (List UInt8)}
def CP.lt(h:CP fp fb nms cb F w code seen):cb<w.heap.size:=by
 obtain⟨_,_,_,a,_⟩:=h.blk;exact aD a
def iX{a v1 v2:Value}(h:w.heap[cb]?=some (.cells #[a,v1,v2] 276 (0,0))):kW cb w=v1.ownBlock:=by unfold kW;rw[h];rfl
def CP.grow(h:CP fp fb nms cb F w code seen)(a:Below w.heap.size w w'):CP fp fb nms cb F w' code seen:=by
 have c:=h.lt;obtain⟨t,i,f,m,⟨p,g,q⟩,l,n⟩:=h.blk;have d:∀b,F b->w'.heap[b]?=w.heap[b]?:=fun b e=>a.block b (h.fix b e).1
 refine⟨⟨t,i,f,by rw[a.block _ c];exact m,⟨p,gS g a,q.keep d fun _ h=>h⟩,eE.keep d (fun _ h=>h) l,n.keep d (fun _ h=>h) a.size⟩,fun k j=>?_⟩
 obtain⟨r,o,s⟩:=h.fix k j;exact⟨az_ r a.size,o,by rw[oD (a.block cb c)];exact s⟩
def CP.new(h:CP fp fb nms cb F w code seen)(o:Obj):Loc cb w w.heap.size o (w.alloc o)/\CP fp fb nms cb F (w.alloc o) code seen:=by
 have a:=h.lt;have b:Below w.heap.size w (w.alloc o):=(ay_ _ _).alloc (au_ _) _;refine⟨⟨FB.of_below b a,aM _ _ rfl _,fun e=>?_,by omega⟩,h.grow b⟩
 obtain⟨i,j,f,d,⟨g,c,_⟩,_⟩:=h.blk;rw[oD (b.block cb a),iX d] at e;have:=cK c _ e;omega
def Y1:(prog.info? 355).map (fun i=>(i.zero,i.size,i.bytes))=some (some .nilIface,1,16):=by kernel_rfl
def L8(w:World)(u:Value):∀j v,([u]:List Value)[j]?=some v->(w.alloc (.cells #[u] 355)).cell? ((⟨w.heap.size,0,none⟩:Addr).add j)=some v:=by
 intro j v a;match j,a with
 |0,a=>simp at a;subst a;simp[Addr.add,go_sem]
 |j+1,a=>simp at a
def j3(fp:Nat->Value)(F:Nat->Prop)(w:World)(u:Value):Option aH->Prop
 |none=>u=.nilIface
 |some i=>lC fp F w u i
def j3.one{u:Value}{o:Option aH}(h:j3 fp F w u o):u.oneCell'=true/\(u=.nilIface\/∃t z,u=.iface t z):=by
 cases o with
 |none=>rw[show u=.nilIface from h];exact⟨rfl,av_ rfl⟩
 |some i=>obtain⟨t,z,rfl⟩:=lC.form h;exact⟨rfl,as_ ⟨t,z,rfl⟩⟩
def C2(cb n:Nat)(D Q B u:Value)(xs:List Value)(w:World)(f:w.heap[cb]?=some (.cells #[D,Q,B] 276 (0,0)))(g:w.ownsRow (cb+1) 355 1 Q n xs)(r:u.oneCell'=true)(Z:u=.nilIface\/∃t z,u=.iface t z)(hn:n<=1000000):
 Calls prog 238 #[.pointer (some ⟨cb,0,none⟩),u] w fun e o=>e=.returned (.int .i64 n)/\∃j,o.heap[cb]?=some (.cells #[D,j,B] 276 (0,0))/\o.ownsRow (cb+1) 355 1 j (n+1) (xs++[u])/\FB cb w o:=by
 obtain⟨Y,hi,F,I,K⟩:=info_parts Y1;obtain⟨x,c,rfl⟩:=cU g;have N:=aD f;have c1:w.cell? ⟨cb,1,none⟩=some (.slice x n c):=aA f rfl;have L:=aB g;have H:=aB f;have m:∀v∈([u]:List Value),v.oneCell'=true:=fun v T=>by simp at T;rw[T];exact r
 have HONE:=aB m;clear g f m r
 have s:∀q:Value,u=q->(q=.nilIface\/∃t z,q=.iface t z)->Calls prog 238 #[.pointer (some ⟨cb,0,none⟩),q] w fun e o=>e=.returned (.int .i64 n)/\∃j,o.heap[cb]?=some (.cells #[D,j,B] 276 (0,0))/\o.ownsRow (cb+1) 355 1 j (n+1) (xs++[q])/\FB cb w o:=by
  intro q e J;subst e;rcases J with rfl|⟨t,z,rfl⟩
  all_goals
   go_enter func238,ntmps238;go_wp2_with (at_builtin;refine wpList_append_lies _ (by rfl) _ _ 248 (by rfl) (cb+1) 355 Y _ 1 16 underlying248 hi F I K rfl (by decide) (.slice x n c) n xs (by rfl) (L.out.alloc _) ⟨w.heap.size,0,none⟩ 1 1 [_] (by rfl) (by rfl) (L8 w _) HONE.out (by decide) (by unfold maxLen;omega) (by omega) (by simp;omega) (w.heap.size+1) (by simp) ?_)
   intro C y O d b l W;have E:some cb≠(Value.slice x n c).ownBlock:=fun e=>by have:=(L.out.lt cb e.symm).1;omega
   have a:O.heap[cb]?=some (.cells #[D,.slice x n c,B] 276 (0,0)):=by
    rw[b.block cb (by simp;omega) E,aA_ _ _ _ N];exact H.out
   have V:O.cell? ⟨cb,1,none⟩=some (.slice x n c):=aA a rfl;have aa:=aE a (i:=1);have U:=aD a
   have M:C≠cb:=by
    have:=(d.lt C rfl).1;omega
   have HOWN:=aB d;have S:=aB b;have G:=aB l;have A:=aB a;clear d b l a;go_wp2_with fail;go_ret;refine⟨by go_num,.slice (some ⟨C,0,none⟩) (n+1) y,aS A.out,aY HOWN.out fun k p=>ax_ _ _ _ _ (by cases p;exact M),⟨?_,fun k p X P=>?_,fun k p=>?_⟩⟩
   ·exact(((ay_ cb w).alloc (by omega) _).grown S.out (by simp;omega) (fun k p=>by have:=(L.out.lt k p).1;omega)).setCell (by exact au_ cb) _
   ·rw[iX H.out] at P;rw[ax_ _ _ _ _ X,S.out.block k (by simp;omega) (fun e=>P e.symm),aA_ _ _ _ p]
   ·rw[iX (aS A.out),iX H.out] at*;cases p;rcases G.out with h|h
    ·exact av_ h
    ·exact as_ (by show w.heap.size<=C;omega)
 exact s u rfl Z
def CP.step{a:List (Option aH)}{l b g:Value}{xs':List Value}(h:CP fp fb nms cb F w code seen)(c:FB cb w w')(f:w'.heap[cb]?=some (.cells #[l,b,g] 276 (0,0)))(d:w'.ownsRow (cb+1) 355 1 b a.length xs')(r:RS fp F w' xs' a)(j:eE F w' g seen)(i:JG fp fb nms F w' l):CP fp fb nms cb F w' a seen:=
 ⟨⟨l,b,g,f,⟨xs',d,r⟩,j,i⟩,fun k n=>by
   obtain⟨p,o,q⟩:=h.fix k n;refine⟨az_ p c.bel.size,o,fun e=>?_⟩
   rcases c.row k e with m|m
   ·exact q m
   ·omega⟩
def CP.fixed(h:CP fp fb nms cb F w code seen)(a:FB cb w w'):∀b,F b->w'.heap[b]?=w.heap[b]?:=fun b e=>by
 obtain⟨c,f,d⟩:=h.fix b e;exact a.blk b c f d
def qZ{u:Value}{o:Option aH}(h:CP fp fb nms cb F w code seen)(l:j3 fp F w u o)(E:code.length<=1000000):
 Calls prog 238 #[.pointer (some ⟨cb,0,none⟩),u] w fun e k=>e=.returned (.int .i64 code.length)/\CP fp fb nms cb F k (code++[o]) seen/\FB cb w k:=by
 obtain⟨I,q,n,t,⟨B,p,c⟩,r,v⟩:=h.blk;obtain⟨A,x⟩:=l.one;refine(C2 cb code.length I q n u B w t p A x E).mono ?_;rintro e k ⟨H,C,s,J,f⟩;have g:=h.fixed f;refine⟨H,h.step f s (by rw[aw_];exact J) ?_ (eE.keep g (fun _ h=>h) r) (v.keep g (fun _ h=>h) f.bel.size),f⟩
 have m:=c.keep g fun _ h=>h
 refine⟨by simp[c.1],fun i D a=>?_⟩
 rcases a6_ i code.length with d|d
 ·rw[a3_ d] at a;obtain⟨z,G,y⟩:=m.2 i D a;exact⟨z,by rw[a3_ (by rw[c.1];exact d)];exact G,y⟩
 ·rw[aV_ d] at a
  have b:i-code.length=0:=by
   have:=(aZ_.1 a).1;simp at this;omega
  rw[b] at a;simp at a;subst a;refine⟨u,by rw[aV_ (by rw[c.1];exact d),c.1,b];rfl,?_⟩
  cases o with
  |none=>exact l
  |some j=>exact lC.keep l g fun _ h=>h
def PQ(h:CP fp fb nms cb F w code seen)(k:seen.length<=1000000):
 Calls prog 290 #[.pointer (some ⟨cb,0,none⟩)] w fun e j=>e=.returned (.int .i64 seen.length)/\j=w:=by
 obtain⟨s,n,f,c, -,g, -⟩:=h.blk;have r:=aD c;have q:w.cell? ⟨cb,2,none⟩=some f:=aA c rfl;cases seen with
 |nil=>
  obtain rfl:f=.pointer none:=g;clear h c;go_enter func290,ntmps290;go_wp2_with fail;go_ret;exact⟨rfl,rfl⟩
 |cons x l=>
  obtain⟨b,o,rfl,m,a,d⟩:=g;have p:w.cell? ⟨b,1,none⟩=some (.int .i64 l.length):=aA a rfl;have i:=aD a;simp only[aB_] at k;clear h c a d;go_enter func290,ntmps290;go_wp2_with fail;go_ret;exact⟨by go_num,rfl⟩
end
section
variable {fp:Nat->Value} {fb:Nat->Nat} {nms:List (List UInt8)} {cb:Nat} {F:Nat->Prop} {w w':World} {code:List (Option aH)} {seen:List (List UInt8)}
def J6(w:World)(cb n:Nat)(x:List UInt8)(p:Option Addr)(g:cb<w.heap.size)(c:w.cell? ⟨cb,2,none⟩=some (.pointer p))(d:w.frozen? ⟨cb,2,none⟩=false)
 (b:Hid (Calls prog 290 #[.pointer (some ⟨cb,0,none⟩)] w.drew fun e a=>e=.returned (.int .i64 n)/\a=w.drew)):
 Calls prog 236 #[.pointer (some ⟨cb,0,none⟩),.string (bs x)] w fun e a=>e=.returned (.tuple #[])/\aQ ((w.setCell ⟨cb,2,none⟩ (.pointer (some ⟨w.heap.size,0,none⟩))).alloc (.cells #[.string (bs x),.int .i64 n,.pointer p] 253)) a:=by
 go_enter func236,ntmps236;go_wp2_with fail;go_region_law (go_simp;go_at_call 290;refine b.out.mono ?_;rintro e f ⟨rfl,rfl⟩)
 all_goals
  go_wp2_with fail;go_end0;exact⟨rfl,aQ.drew _⟩
def WM(x:List UInt8)(h:CP fp fb nms cb F w code seen)(E:seen.length<=1000000):
 Calls prog 236 #[.pointer (some ⟨cb,0,none⟩),.string (bs x)] w fun e a=>e=.returned (.tuple #[])/\CP fp fb nms cb (fun k=>F k\/k=w.heap.size) a code (x::seen)/\FB cb w a:=by
 have n:=h.lt;obtain⟨v,r,I,d,⟨C,l,D⟩,u,z⟩:=h.blk;obtain⟨p,rfl⟩:=u.form;have y:CP fp fb nms cb F w.drew code seen:=h.grow (aQ.drew w).below;refine(J6 w cb seen.length x p n (aA d rfl) (aE d) (PQ y E)).mono ?_;rintro e a ⟨H,f⟩;generalize i:(w.setCell ⟨cb,2,none⟩ (.pointer (some ⟨w.heap.size,0,none⟩))).alloc (.cells #[.string (bs x),.int .i64 seen.length,.pointer p] 253)=W at f
 have q:∀k,k<w.heap.size->k≠cb->a.heap[k]?=w.heap[k]?:=fun k d l=>by
  rw[f.heap,<-i,aA_ _ _ _ (by simpa using d),ax_ _ _ _ _ l]
 have m:a.heap[cb]?=some (.cells #[v,r,.pointer (some ⟨w.heap.size,0,none⟩)] 276 (0,0)):=by
  rw[f.heap,<-i,aA_ _ _ _ (by simpa using n)];exact aS d
 have o:a.heap[w.heap.size]?=some (.cells #[.string (bs x),.int .i64 seen.length,.pointer p] 253 (0,0)):=by
  rw[f.heap,<-i];exact aM _ _ (by simp) _
 have B:a.heap.size=w.heap.size+1:=by rw[f.heap,<-i];simp
 have g:kW cb a=kW cb w:=by rw[iX m,iX d]
 have s:∀b,F b->a.heap[b]?=w.heap[b]?:=fun b t=>q b (h.fix b t).1 (h.fix b t).2.1
 have j:=fun k (e:r.ownBlock=some k)=>l.lt k e
 refine⟨H,⟨⟨v,r,_,m,⟨C,aY l fun k e=>q k (j k e).2 (by have:=(j k e).1;omega),D.keep s fun _ h=>av_ h⟩,⟨w.heap.size,.pointer p,rfl,as_ rfl,o,eE.keep s (fun _ h=>av_ h) u⟩,z.keep s (fun _ h=>av_ h) (by omega)⟩,fun k c=>?_⟩,⟨?_,fun k d l _=>q k d l,fun k e=>av_ (by rw[<-g];exact e)⟩⟩
 ·rcases c with c|rfl
  ·obtain⟨J,A,G⟩:=h.fix k c;exact⟨by omega,A,by rw[g];exact G⟩
  ·refine⟨by omega,by omega,fun e=>?_⟩
   rw[g,iX d] at e;have:=(j _ e).2;omega
 ·refine⟨by rw[f.os,<-i];rfl,by rw[f.tape,<-i];rfl,by rw[f.output,<-i];rfl,by omega,fun k c=>q k (by omega) (by omega)⟩
def I9{x y:List UInt8}{l:List (List UInt8)}(h:y∈x::l)(a:x≠y):y∈l/\dK (x::l) y=dK l y:=by
 refine⟨?_,by rw[dK,if_neg a]⟩
 rcases aG_.1 h with e|e
 ·exact absurd e.symm a
 ·exact e
def NO(a:List UInt8)(h:CP fp fb nms cb F w code seen)(r:a∈seen)(_hn:seen.length<=1000000):
 Calls prog 286 #[.pointer (some ⟨cb,0,none⟩),.string (bs a)] w fun e y=>e=.returned (.int .i64 (dK seen a))/\y=w:=by
 obtain⟨M,H,n,j, -,i, -⟩:=h.blk;have L:=aD j;have J:w.cell? ⟨cb,2,none⟩=some n:=aA j rfl;have q:Hid (eE F w n seen/\a∈seen):=⟨i,r⟩;obtain⟨p,rfl⟩:=i.form;clear h j i r;go_enter func286,ntmps286;go_wp2_with fail;go_loopg [5] seen.length (fun gk v wr=>∃l,l.length=gk/\eE F w v l/\a∈l/\dK l a=dK seen a/\wr=w)
 case atStart=>exact⟨seen,rfl,q.out.1,q.out.2,rfl,rfl⟩
 case round=>
  obtain⟨l,k,C,f,d,rfl⟩:=hrel;cases l with
  |nil=>cases f
  |cons x l=>
   obtain⟨b,o,rfl,G,c,g⟩:=C;obtain⟨s,rfl⟩:=g.form;have K:wr.cell? ⟨b,0,none⟩=some (.string (bs x)):=aA c rfl;have I:wr.cell? ⟨b,1,none⟩=some (.int .i64 l.length):=aA c rfl;have E:wr.cell? ⟨b,2,none⟩=some (.pointer s):=aA c rfl;have t:=aD c;by_cases m:x=a
   ·subst m;have A:dK (x::l) x=l.length:=by rw[dK,if_pos rfl]
    rw[A] at d;clear c g f;go_wp2_with fail;go_ret;exact⟨by rw[<-d];rfl,rfl⟩
   ·obtain⟨z,D⟩:=I9 f m;have u:((bs x).toList==(bs a).toList)=false:=by rw[cA,cA];simpa using m
    have B:Hid (eE F wr (.pointer s) l):=g;rw[D] at d;clear c g f;go_wp2_with fail;go_roundg l.length
    case measure=>simp at k;omega
    case rel=>exact⟨l,rfl,B.out,z,d,rfl⟩
def tB(a:List UInt8)(h:CP fp fb nms cb F w code seen)(v:a∈nms)(O:nms.length<=1000000):
 Calls prog 174 #[.pointer (some ⟨cb,0,none⟩),.string (bs a)] w fun e B=>e=.returned (fp (nms.findIdx fun x=>x==a))/\B=w:=by
 obtain⟨T,L,J,p, -, -,C⟩:=h.blk;rcases C with ⟨rfl,_⟩|⟨g,q,rfl,H,t,I,b⟩
 ·cases v
 have N:=aD p;have M:w.cell? ⟨cb,0,none⟩=some (.slice (some ⟨g,0,none⟩) nms.length q):=aA p rfl;have u:=aB b;clear h p b;go_enter func174,ntmps174;go_wp2_with fail;go_loopg [6,12] nms.length (fun gk _ i wr=>∃j:Nat,j+gk=nms.length/\i=.int .i64 j/\j<=nms.findIdx (fun x=>x==a)/\wr=w)
 case atStart=>exact⟨0,by omega,rfl,a9_ _,rfl⟩
 case round=>
  obtain⟨j,S,rfl,f,rfl⟩:=hrel;have s:nms.findIdx (fun x=>x==a)<nms.length:=List.findIdx_lt_length_of_exists ⟨a,v,by simp⟩
  have o:j<nms.length:=by omega
  obtain⟨m,rfl⟩:∃m,gk=m+1:=⟨gk-1,by omega⟩
  obtain⟨G,k,Q,x,n⟩:=u.out j o;rw[k] at G;have E:wr.cell? ⟨fb j,0,none⟩=some (.string (bs nms[j])):=aA n rfl;have z:=aD n;have P:(0:Int)<=(j:Int):=by omega
  have K:(j:Int)<(nms.length:Int):=by omega
  by_cases l:nms[j]=a
  ·have r:nms.findIdx (fun x=>x==a)=j:=by
    refine Nat.le_antisymm (Nat.not_lt.1 fun c=>?_) f
    have:=List.not_of_lt_findIdx c;simp[l] at this
   have D:=aB k;rw[l] at E;clear n k u;go_wp2_with fail;go_ret;exact⟨by rw[r,D.out];rfl,rfl⟩
  ·have A:((bs nms[j]).toList==(bs a).toList)=false:=by rw[cA,cA];simpa using l
   have d:j+1<=nms.findIdx (fun x=>x==a):=by
    rcases bm_ f with e|e
    ·have:=bN_ (w:=s);simp only[<-e] at this;simp at this;exact absurd this l
    ·exact e
   generalize nms[j]=y at*;clear n k;go_wp2_with fail;go_roundg m
   case measure=>omega
   case rel=>exact⟨j+1,by omega,by go_num,d,rfl⟩
end
def wX(v:Value)(w:World):(typeAssert (.iface 397 v) 122 397 true).run prog w=.ok (.tuple #[v,.bool true]) w:=by kernel_rfl
def wW(v:Value)(w:World):(typeAssert (.iface 398 v) 122 397 true).run prog w=.ok (.tuple #[.agg #[.int .i64 0,.int .i64 0],.bool false]) w:=by kernel_rfl
def wV(v:Value)(w:World):(typeAssert (.iface 398 v) 122 398 true).run prog w=.ok (.tuple #[v,.bool true]) w:=by kernel_rfl
def DQ(v:Value)(w:World):(typeAssert (.iface 400 v) 122 397 true).run prog w=.ok (.tuple #[.agg #[.int .i64 0,.int .i64 0],.bool false]) w:=by kernel_rfl
def DP(v:Value)(w:World):(typeAssert (.iface 400 v) 122 398 true).run prog w=.ok (.tuple #[.agg #[.int .i64 0,.string ⟨#[]⟩],.bool false]) w:=by kernel_rfl
def LT(v:Value)(w:World):(typeAssert (.iface 400 v) 122 400 true).run prog w=.ok (.tuple #[v,.bool true]) w:=by kernel_rfl
def tX(v:Value)(w:World):(typeAssert (.iface 344 v) 122 397 true).run prog w=.ok (.tuple #[.agg #[.int .i64 0,.int .i64 0],.bool false]) w:=by kernel_rfl
def tW(v:Value)(w:World):(typeAssert (.iface 344 v) 122 398 true).run prog w=.ok (.tuple #[.agg #[.int .i64 0,.string ⟨#[]⟩],.bool false]) w:=by kernel_rfl
def wU(v:Value)(w:World):(typeAssert (.iface 344 v) 122 400 true).run prog w=.ok (.tuple #[.agg #[.int .i64 0,.bool false],.bool false]) w:=by kernel_rfl
def rA(v:Value)(w:World):(typeAssert (.iface 344 v) 122 344 true).run prog w=.ok (.tuple #[v,.bool true]) w:=by kernel_rfl
def DK(v:Value)(w:World):(typeAssert (.iface 346 v) 122 397 true).run prog w=.ok (.tuple #[.agg #[.int .i64 0,.int .i64 0],.bool false]) w:=by kernel_rfl
def DJ(v:Value)(w:World):(typeAssert (.iface 346 v) 122 398 true).run prog w=.ok (.tuple #[.agg #[.int .i64 0,.string ⟨#[]⟩],.bool false]) w:=by kernel_rfl
def LP(v:Value)(w:World):(typeAssert (.iface 346 v) 122 400 true).run prog w=.ok (.tuple #[.agg #[.int .i64 0,.bool false],.bool false]) w:=by kernel_rfl
def wY(v:Value)(w:World):(typeAssert (.iface 346 v) 122 344 true).run prog w=.ok (.tuple #[.agg #[.int .i64 0,.string ⟨#[]⟩],.bool false]) w:=by kernel_rfl
def LO(v:Value)(w:World):(typeAssert (.iface 346 v) 122 346 true).run prog w=.ok (.tuple #[v,.bool true]) w:=by kernel_rfl
def zY(v:Value)(w:World):(typeAssert (.iface 348 v) 122 397 true).run prog w=.ok (.tuple #[.agg #[.int .i64 0,.int .i64 0],.bool false]) w:=by kernel_rfl
def zX(v:Value)(w:World):(typeAssert (.iface 348 v) 122 398 true).run prog w=.ok (.tuple #[.agg #[.int .i64 0,.string ⟨#[]⟩],.bool false]) w:=by kernel_rfl
def FW(v:Value)(w:World):(typeAssert (.iface 348 v) 122 400 true).run prog w=.ok (.tuple #[.agg #[.int .i64 0,.bool false],.bool false]) w:=by kernel_rfl
def vE(v:Value)(w:World):(typeAssert (.iface 348 v) 122 344 true).run prog w=.ok (.tuple #[.agg #[.int .i64 0,.string ⟨#[]⟩],.bool false]) w:=by kernel_rfl
def FU(v:Value)(w:World):(typeAssert (.iface 348 v) 122 346 true).run prog w=.ok (.tuple #[.agg #[.int .i64 0,.slice none 0 0],.bool false]) w:=by kernel_rfl
def DL(v:Value)(w:World):(typeAssert (.iface 348 v) 122 348 true).run prog w=.ok (.tuple #[v,.bool true]) w:=by kernel_rfl
def zW(v:Value)(w:World):(typeAssert (.iface 350 v) 122 397 true).run prog w=.ok (.tuple #[.agg #[.int .i64 0,.int .i64 0],.bool false]) w:=by kernel_rfl
def zV(v:Value)(w:World):(typeAssert (.iface 350 v) 122 398 true).run prog w=.ok (.tuple #[.agg #[.int .i64 0,.string ⟨#[]⟩],.bool false]) w:=by kernel_rfl
def FT(v:Value)(w:World):(typeAssert (.iface 350 v) 122 400 true).run prog w=.ok (.tuple #[.agg #[.int .i64 0,.bool false],.bool false]) w:=by kernel_rfl
def vD(v:Value)(w:World):(typeAssert (.iface 350 v) 122 344 true).run prog w=.ok (.tuple #[.agg #[.int .i64 0,.string ⟨#[]⟩],.bool false]) w:=by kernel_rfl
def FR(v:Value)(w:World):(typeAssert (.iface 350 v) 122 346 true).run prog w=.ok (.tuple #[.agg #[.int .i64 0,.slice none 0 0],.bool false]) w:=by kernel_rfl
def DI(v:Value)(w:World):(typeAssert (.iface 350 v) 122 348 true).run prog w=.ok (.tuple #[.agg #[.int .i64 0,.nilIface,.nilIface],.bool false]) w:=by kernel_rfl
def DH(v:Value)(w:World):(typeAssert (.iface 350 v) 122 350 true).run prog w=.ok (.tuple #[v,.bool true]) w:=by kernel_rfl
def xB(v:Value)(w:World):(typeAssert (.iface 352 v) 122 397 true).run prog w=.ok (.tuple #[.agg #[.int .i64 0,.int .i64 0],.bool false]) w:=by kernel_rfl
def xA(v:Value)(w:World):(typeAssert (.iface 352 v) 122 398 true).run prog w=.ok (.tuple #[.agg #[.int .i64 0,.string ⟨#[]⟩],.bool false]) w:=by kernel_rfl
def DS(v:Value)(w:World):(typeAssert (.iface 352 v) 122 400 true).run prog w=.ok (.tuple #[.agg #[.int .i64 0,.bool false],.bool false]) w:=by kernel_rfl
def tY(v:Value)(w:World):(typeAssert (.iface 352 v) 122 344 true).run prog w=.ok (.tuple #[.agg #[.int .i64 0,.string ⟨#[]⟩],.bool false]) w:=by kernel_rfl
def DR(v:Value)(w:World):(typeAssert (.iface 352 v) 122 346 true).run prog w=.ok (.tuple #[.agg #[.int .i64 0,.slice none 0 0],.bool false]) w:=by kernel_rfl
def AA(v:Value)(w:World):(typeAssert (.iface 352 v) 122 348 true).run prog w=.ok (.tuple #[.agg #[.int .i64 0,.nilIface,.nilIface],.bool false]) w:=by kernel_rfl
def zZ(v:Value)(w:World):(typeAssert (.iface 352 v) 122 350 true).run prog w=.ok (.tuple #[.agg #[.int .i64 0,.string ⟨#[]⟩,.nilIface],.bool false]) w:=by kernel_rfl
def xC(v:Value)(w:World):(typeAssert (.iface 352 v) 122 352 true).run prog w=.ok (.tuple #[v,.bool true]) w:=by kernel_rfl
def DN(v:Value)(w:World):(typeAssert (.iface 341 v) 122 397 true).run prog w=.ok (.tuple #[.agg #[.int .i64 0,.int .i64 0],.bool false]) w:=by kernel_rfl
def DM(v:Value)(w:World):(typeAssert (.iface 341 v) 122 398 true).run prog w=.ok (.tuple #[.agg #[.int .i64 0,.string ⟨#[]⟩],.bool false]) w:=by kernel_rfl
def LS(v:Value)(w:World):(typeAssert (.iface 341 v) 122 400 true).run prog w=.ok (.tuple #[.agg #[.int .i64 0,.bool false],.bool false]) w:=by kernel_rfl
def wZ(v:Value)(w:World):(typeAssert (.iface 341 v) 122 344 true).run prog w=.ok (.tuple #[.agg #[.int .i64 0,.string ⟨#[]⟩],.bool false]) w:=by kernel_rfl
def LQ(v:Value)(w:World):(typeAssert (.iface 341 v) 122 346 true).run prog w=.ok (.tuple #[.agg #[.int .i64 0,.slice none 0 0],.bool false]) w:=by kernel_rfl
def FY(v:Value)(w:World):(typeAssert (.iface 341 v) 122 348 true).run prog w=.ok (.tuple #[.agg #[.int .i64 0,.nilIface,.nilIface],.bool false]) w:=by kernel_rfl
def FX(v:Value)(w:World):(typeAssert (.iface 341 v) 122 350 true).run prog w=.ok (.tuple #[.agg #[.int .i64 0,.string ⟨#[]⟩,.nilIface],.bool false]) w:=by kernel_rfl
def DO(v:Value)(w:World):(typeAssert (.iface 341 v) 122 352 true).run prog w=.ok (.tuple #[.agg #[.int .i64 0,.string ⟨#[]⟩,.nilIface,.nilIface],.bool false]) w:=by kernel_rfl
def LR(v:Value)(w:World):(typeAssert (.iface 341 v) 122 341 true).run prog w=.ok (.tuple #[v,.bool true]) w:=by kernel_rfl
def sR(w:World)(cb:Nat)(l k:Int)(P:World->Prop)
 (c:Hid (Calls prog 238 #[.pointer (some ⟨cb,0,none⟩),.iface 361 (.agg #[.iface 315 (.int .i64 k)])] (w.alloc (.cells #[.int .i64 l,.int .i64 k] 397)) fun e a=>(∃k:Nat,e=.returned (.int .i64 k))/\P a)):
 Calls prog 233 #[.pointer (some ⟨cb,0,none⟩),.iface 397 (.agg #[.int .i64 l,.int .i64 k])] w fun e a=>e=.returned (.tuple #[])/\P a:=by
 have f:=wX;go_enter func233,ntmps233;go_wp2_with fail;refine c.out.mono ?_;rintro e d ⟨⟨m,rfl⟩,b⟩;go_wp2_with fail;go_end0;exact⟨rfl,b⟩
def FO(w:World)(cb:Nat)(l:Int)(s:ByteArray)(P:World->Prop)
 (c:Hid (Calls prog 238 #[.pointer (some ⟨cb,0,none⟩),.iface 361 (.agg #[.iface 318 (.string s)])] (w.alloc (.cells #[.int .i64 l,.string s] 398)) fun e a=>(∃k:Nat,e=.returned (.int .i64 k))/\P a)):
 Calls prog 233 #[.pointer (some ⟨cb,0,none⟩),.iface 398 (.agg #[.int .i64 l,.string s])] w fun e a=>e=.returned (.tuple #[])/\P a:=by
 have f:=wW;have g:=wV;go_enter func233,ntmps233;go_wp2_with fail;refine c.out.mono ?_;rintro e d ⟨⟨m,rfl⟩,b⟩;go_wp2_with fail;go_end0;exact⟨rfl,b⟩
def QC(w:World)(cb:Nat)(l:Int)(b:Bool)(P:World->Prop)
 (d:Hid (Calls prog 238 #[.pointer (some ⟨cb,0,none⟩),.iface 361 (.agg #[.iface 316 (.bool b)])] (w.alloc (.cells #[.int .i64 l,.bool b] 400)) fun e a=>(∃k:Nat,e=.returned (.int .i64 k))/\P a)):
 Calls prog 233 #[.pointer (some ⟨cb,0,none⟩),.iface 400 (.agg #[.int .i64 l,.bool b])] w fun e a=>e=.returned (.tuple #[])/\P a:=by
 have g:=DQ;have h:=DP;have i:=LT;go_enter func233,ntmps233;go_wp2_with fail;refine d.out.mono ?_;rintro e f ⟨⟨m,rfl⟩,c⟩;go_wp2_with fail;go_end0;exact⟨rfl,c⟩
def zU(w:World)(cb:Nat)(l:Int)(s:ByteArray)(k:Nat)(P:World->Prop)
 (d:Hid (Calls prog 286 #[.pointer (some ⟨cb,0,none⟩),.string s] (w.alloc (.cells #[.int .i64 l,.string s] 344)) fun e a=>e=.returned (.int .i64 k)/\a=w.alloc (.cells #[.int .i64 l,.string s] 344)))
 (c:Hid (Calls prog 238 #[.pointer (some ⟨cb,0,none⟩),.iface 402 (.agg #[.int .i64 k])] (w.alloc (.cells #[.int .i64 l,.string s] 344)) fun e a=>(∃k:Nat,e=.returned (.int .i64 k))/\P a)):
 Calls prog 233 #[.pointer (some ⟨cb,0,none⟩),.iface 344 (.agg #[.int .i64 l,.string s])] w fun e a=>e=.returned (.tuple #[])/\P a:=by
 have h:=tX;have i:=tW;have n:=wU;have g:=rA;go_enter func233,ntmps233;go_wp2_with fail;refine d.out.mono ?_;rintro e f ⟨rfl,rfl⟩;go_wp2_with fail;refine c.out.mono ?_;rintro e j ⟨⟨m,rfl⟩,b⟩;go_wp2_with fail;go_end0;exact⟨rfl,b⟩
def QB(w:World)(cb n c:Nat)(l:Int)(x:Option Addr)(P Q:World->Prop)
 (i:Hid (Calls prog 287 #[.pointer (some ⟨cb,0,none⟩),.slice x n c] (w.alloc (.cells #[.int .i64 l,.slice x n c] 346)) fun e a=>e=.returned (.tuple #[])/\Q a))
 (g:Hid (∀W,Q W->W.cell? ⟨w.heap.size,1,none⟩=some (.slice x n c)/\w.heap.size<W.heap.size))
 (h:Hid (∀W,Q W->Calls prog 238 #[.pointer (some ⟨cb,0,none⟩),.iface 404 (.agg #[.int .i64 n])] W fun e a=>(∃k:Nat,e=.returned (.int .i64 k))/\P a)):
 Calls prog 233 #[.pointer (some ⟨cb,0,none⟩),.iface 346 (.agg #[.int .i64 l,.slice x n c])] w fun e a=>e=.returned (.tuple #[])/\P a:=by
 have p:=DK;have q:=DJ;have v:=LP;have r:=wY;have s:=LO;go_enter func233,ntmps233;go_wp2_with fail;refine i.out.mono ?_;rintro e j ⟨rfl,d⟩;obtain⟨o,t⟩:=g.out _ d;have b:=aB (h.out _ d);clear d;go_wp2_with fail;refine b.out.mono ?_;rintro e u ⟨⟨m,rfl⟩,f⟩;go_wp2_with fail;go_end0;exact⟨rfl,f⟩
def LL(w:World)(cb:Nat)(l:Int)(i b:TypeId)(f c:Value)(P Q R:World->Prop)
 (r:Hid (Calls prog 233 #[.pointer (some ⟨cb,0,none⟩),.iface i f] (w.alloc (.cells #[.int .i64 l,.iface i f,.iface b c] 348)) fun e a=>e=.returned (.tuple #[])/\Q a))
 (n:Hid (∀W,Q W->W.cell? ⟨w.heap.size,2,none⟩=some (.iface b c)/\w.heap.size<W.heap.size))
 (o:Hid (∀W,Q W->Calls prog 233 #[.pointer (some ⟨cb,0,none⟩),.iface b c] W fun e a=>e=.returned (.tuple #[])/\R a))
 (q:Hid (∀W,R W->Calls prog 238 #[.pointer (some ⟨cb,0,none⟩),.iface 405 (.agg #[])] W fun e a=>(∃k:Nat,e=.returned (.int .i64 k))/\P a)):
 Calls prog 233 #[.pointer (some ⟨cb,0,none⟩),.iface 348 (.agg #[.int .i64 l,.iface i f,.iface b c])] w fun e a=>e=.returned (.tuple #[])/\P a:=by
 have u:=zY;have x:=zX;have D:=FW;have y:=vE;have A:=FU;have z:=DL;go_enter func233,ntmps233;go_wp2_with fail;refine r.out.mono ?_;rintro e s ⟨rfl,g⟩;obtain⟨t,B⟩:=n.out _ g;have h:=aB (o.out _ g);clear g;go_wp2_with fail;refine h.out.mono ?_;rintro e C ⟨rfl,j⟩;have d:=aB (q.out _ j);clear j;go_wp2_with fail;refine d.out.mono ?_;rintro e v ⟨⟨m,rfl⟩,p⟩;go_wp2_with fail;go_end0;exact⟨rfl,p⟩
def LK(w:World)(cb:Nat)(l:Int)(op:ByteArray)(f:TypeId)(c:Value)(P Q:World->Prop)
 (j:Hid (Calls prog 233 #[.pointer (some ⟨cb,0,none⟩),.iface f c] (w.alloc (.cells #[.int .i64 l,.string op,.iface f c] 350)) fun e a=>e=.returned (.tuple #[])/\Q a))
 (g:Hid (∀W,Q W->W.cell? ⟨w.heap.size,1,none⟩=some (.string op)/\w.heap.size<W.heap.size))
 (i:Hid (∀W,Q W->Calls prog 238 #[.pointer (some ⟨cb,0,none⟩),.iface 407 (.agg #[.string op])] W fun e a=>(∃k:Nat,e=.returned (.int .i64 k))/\P a)):
 Calls prog 233 #[.pointer (some ⟨cb,0,none⟩),.iface 350 (.agg #[.int .i64 l,.string op,.iface f c])] w fun e a=>e=.returned (.tuple #[])/\P a:=by
 have p:=zW;have s:=zV;have y:=FT;have t:=vD;have v:=FR;have u:=DI;have r:=DH;go_enter func233,ntmps233;go_wp2_with fail;refine j.out.mono ?_;rintro e n ⟨rfl,d⟩;obtain⟨o,x⟩:=g.out _ d;have b:=aB (i.out _ d);clear d;go_wp2_with fail;refine b.out.mono ?_;rintro e q ⟨⟨m,rfl⟩,h⟩;go_wp2_with fail;go_end0;exact⟨rfl,h⟩
def sS(w:World)(cb:Nat)(l:Int)(op:ByteArray)(f a:TypeId)(d c:Value)(P:World->Prop)
 (h:Hid (Calls prog 288 #[.pointer (some ⟨cb,0,none⟩),.agg #[.int .i64 l,.string op,.iface f d,.iface a c]] (w.alloc (.cells #[.int .i64 l,.string op,.iface f d,.iface a c] 352)) fun e b=>e=.returned (.tuple #[])/\P b)):
 Calls prog 233 #[.pointer (some ⟨cb,0,none⟩),.iface 352 (.agg #[.int .i64 l,.string op,.iface f d,.iface a c])] w fun e b=>e=.returned (.tuple #[])/\P b:=by
 have j:=xB;have n:=xA;have r:=DS;have o:=tY;have q:=DR;have p:=AA;have m:=zZ;have k:=xC;go_enter func233,ntmps233;go_wp2_with fail;refine h.out.mono ?_;rintro e i ⟨rfl,g⟩;go_wp2_with fail;go_end0;exact⟨rfl,g⟩
def qX(w:World)(cb n c:Nat)(l:Int)(s:ByteArray)(x:Option Addr)(P:World->Prop)
 (d:Hid (Calls prog 289 #[.pointer (some ⟨cb,0,none⟩),.agg #[.int .i64 l,.string s,.slice x n c]] (w.alloc (.cells #[.int .i64 l,.string s,.slice x n c] 341)) fun e a=>e=.returned (.tuple #[])/\P a)):
 Calls prog 233 #[.pointer (some ⟨cb,0,none⟩),.iface 341 (.agg #[.int .i64 l,.string s,.slice x n c])] w fun e a=>e=.returned (.tuple #[])/\P a:=by
 have g:=DN;have j:=DM;have q:=LS;have k:=wZ;have o:=LQ;have m:=FY;have i:=FX;have h:=DO;have p:=LR;go_enter func233,ntmps233;go_wp2_with fail;refine d.out.mono ?_;rintro e f ⟨rfl,b⟩;go_wp2_with fail;go_end0;exact⟨rfl,b⟩
def UY(w:World)(cb g n f:Nat)(C:Nat->World->Prop)(y:n<=1000000)(l:C 0 w)
 (q:Hid (∀j W,C j W->j<n->g<W.heap.size/\∃t z,W.cell? ⟨g,j,none⟩=some (.iface t z)/\Calls prog 233 #[.pointer (some ⟨cb,0,none⟩),.iface t z] W fun e d=>e=.returned (.tuple #[])/\C (j+1) d)):
 Calls prog 287 #[.pointer (some ⟨cb,0,none⟩),.slice (some ⟨g,0,none⟩) n f] w fun e d=>e=.returned (.tuple #[])/\C n d:=by
 have o:=aB l;clear l;go_enter func287,ntmps287;go_wp2_with fail;go_loopg [5,8] n (fun gk _ i wr=>∃j:Nat,j+gk=n/\i=.int .i64 j/\C j wr)
 case atStart=>exact⟨0,by omega,rfl,o.out⟩
 case round=>
  obtain⟨j,B,rfl,b⟩:=hrel;by_cases c:j<n
  ·obtain⟨m,rfl⟩:∃m,gk=m+1:=⟨gk-1,by omega⟩
   obtain⟨u,t,z,x,a⟩:=q.out _ _ b c;have r:=aB a;have A:(0:Int)<=(j:Int):=by omega
   have v:(j:Int)<(n:Int):=by omega
   clear b a;go_wp2_with fail;refine r.out.mono ?_;rintro e s ⟨rfl,p⟩;go_wp2_with fail;go_roundg m
   case measure=>omega
   case rel=>exact⟨j+1,by omega,by go_num,p⟩
  ·have h:j=n:=by omega
   subst h;have k:=aB b;clear b;go_wp2_with fail;go_end0;exact⟨rfl,k.out⟩
def B8(w:World)(cb:Nat):Calls prog 287 #[.pointer (some ⟨cb,0,none⟩),.slice none 0 0] w fun e a=>e=.returned (.tuple #[])/\a=w:=by
 go_enter func287,ntmps287;go_wp2_with fail;go_loopg [5,8] 0 (fun _ _ i wr=>i=.int .i64 0/\wr=w)
 case atStart=>exact⟨rfl,rfl⟩
 case round=>
  obtain⟨rfl,rfl⟩:=hrel;go_wp2_with fail;go_end0;exact⟨rfl,rfl⟩
def RH(w:World)(cb n c:Nat)(l:Int)(x:Option Addr)(P Q:World->Prop)
 (i:Hid (Calls prog 287 #[.pointer (some ⟨cb,0,none⟩),.slice x n c] (w.alloc (.cells #[.int .i64 l,.string (bs [108,101,110]),.slice x n c] 341)) fun e a=>e=.returned (.tuple #[])/\Q a))
 (g:Hid (∀W,Q W->W.cell? ⟨w.heap.size,1,none⟩=some (.string (bs [108,101,110]))/\w.heap.size<W.heap.size))
 (h:Hid (∀W,Q W->Calls prog 238 #[.pointer (some ⟨cb,0,none⟩),.iface 439 (.agg #[])] W fun e a=>(∃k:Nat,e=.returned (.int .i64 k))/\P a)):
 Calls prog 289 #[.pointer (some ⟨cb,0,none⟩),.agg #[.int .i64 l,.string (bs [108,101,110]),.slice x n c]] w fun e a=>e=.returned (.tuple #[])/\P a:=by
 have q:((bs [108,101,110]).toList==[108,101,110])=true:=by rw[cA];rfl
 generalize bs [108,101,110]=s at*;go_enter func289,ntmps289;go_wp2_with fail;refine i.out.mono ?_;rintro e j ⟨rfl,d⟩;obtain⟨o,p⟩:=g.out _ d;have b:=aB (h.out _ d);clear d;go_wp2_with fail;refine b.out.mono ?_;rintro e r ⟨⟨m,rfl⟩,f⟩;go_wp2_with fail;go_end0;exact⟨rfl,f⟩
def JB(w:World)(cb n c:Nat)(l:Int)(x:Option Addr)(P Q:World->Prop)
 (i:Hid (Calls prog 287 #[.pointer (some ⟨cb,0,none⟩),.slice x n c] (w.alloc (.cells #[.int .i64 l,.string (bs [114,101,97,100]),.slice x n c] 341)) fun e a=>e=.returned (.tuple #[])/\Q a))
 (g:Hid (∀W,Q W->W.cell? ⟨w.heap.size,1,none⟩=some (.string (bs [114,101,97,100]))/\w.heap.size<W.heap.size))
 (h:Hid (∀W,Q W->Calls prog 238 #[.pointer (some ⟨cb,0,none⟩),.iface 440 (.agg #[])] W fun e a=>(∃k:Nat,e=.returned (.int .i64 k))/\P a)):
 Calls prog 289 #[.pointer (some ⟨cb,0,none⟩),.agg #[.int .i64 l,.string (bs [114,101,97,100]),.slice x n c]] w fun e a=>e=.returned (.tuple #[])/\P a:=by
 have r:((bs [114,101,97,100]).toList==[108,101,110])=false:=by rw[cA];rfl
 have p:((bs [114,101,97,100]).toList==[114,101,97,100])=true:=by rw[cA];rfl
 generalize bs [114,101,97,100]=t at*;go_enter func289,ntmps289;go_wp2_with fail;refine i.out.mono ?_;rintro e j ⟨rfl,d⟩;obtain⟨o,q⟩:=g.out _ d;have b:=aB (h.out _ d);clear d;go_wp2_with fail;refine b.out.mono ?_;rintro e s ⟨⟨m,rfl⟩,f⟩;go_wp2_with fail;go_end0;exact⟨rfl,f⟩
def DX(w:World)(cb n c h:Nat)(l:Int)(tx:List UInt8)(x:Option Addr)(P Q:World->Prop)(b:tx≠[108,101,110])(f:tx≠[114,101,97,100])
 (q:Hid (Calls prog 287 #[.pointer (some ⟨cb,0,none⟩),.slice x n c] (w.alloc (.cells #[.int .i64 l,.string (bs tx),.slice x n c] 341)) fun e a=>e=.returned (.tuple #[])/\Q a))
 (j:Hid (∀W,Q W->W.cell? ⟨w.heap.size,1,none⟩=some (.string (bs tx))/\W.cell? ⟨w.heap.size,2,none⟩=some (.slice x n c)/\w.heap.size<W.heap.size))
 (i:Hid (∀W d,Q W->aQ W d->Calls prog 174 #[.pointer (some ⟨cb,0,none⟩),.string (bs tx)] d fun e a=>e=.returned (.pointer (some ⟨h,0,none⟩))/\a=d))
 (p:Hid (∀W d,Q W->aQ W d->Calls prog 238 #[.pointer (some ⟨cb,0,none⟩),.iface 442 (.agg #[.pointer (some ⟨h,0,none⟩),.int .i64 n])] d fun e a=>(∃k:Nat,e=.returned (.int .i64 k))/\P a)):
 Calls prog 289 #[.pointer (some ⟨cb,0,none⟩),.agg #[.int .i64 l,.string (bs tx),.slice x n c]] w fun e a=>e=.returned (.tuple #[])/\P a:=by
 have z:((bs tx).toList==[108,101,110])=false:=by rw[cA];simpa using b
 have v:((bs tx).toList==[114,101,97,100])=false:=by rw[cA];simpa using f
 clear b f;go_enter func289,ntmps289;go_wp2_with fail;refine q.out.mono ?_;rintro e r ⟨rfl,b⟩;obtain⟨s,y,u⟩:=j.out _ b;have g:=aB b;clear b;go_wp2_with fail;go_region_law (go_simp;first|(go_at_call 174;refine(i.out _ _ g.out (aQ.drew _)).mono ?_;rintro e A ⟨rfl,rfl⟩)|(go_at_call 238;refine(p.out _ _ g.out (aQ.drew _)).mono ?_;rintro e t ⟨⟨m,rfl⟩,o⟩))
 all_goals
  go_wp2_with fail;go_end0;exact⟨rfl,o⟩
def MD(w:World)(cb:Nat)(l:Int)(op:List UInt8)(j d:TypeId)(h f:Value)(P Q R:World->Prop)(c:op≠[38,38])(b:op≠[124,124])
 (s:Hid (Calls prog 233 #[.pointer (some ⟨cb,0,none⟩),.iface j h] (w.alloc (.cells #[.int .i64 l,.string (bs op),.iface j h,.iface d f] 352)) fun e a=>e=.returned (.tuple #[])/\Q a))
 (o:Hid (∀W,Q W->W.cell? ⟨w.heap.size,1,none⟩=some (.string (bs op))/\W.cell? ⟨w.heap.size,3,none⟩=some (.iface d f)/\w.heap.size<W.heap.size))
 (p:Hid (∀W,Q W->Calls prog 233 #[.pointer (some ⟨cb,0,none⟩),.iface d f] W fun e a=>e=.returned (.tuple #[])/\R a))
 (n:Hid (∀W,R W->W.cell? ⟨w.heap.size,1,none⟩=some (.string (bs op))/\w.heap.size<W.heap.size))
 (r:Hid (∀W,R W->Calls prog 238 #[.pointer (some ⟨cb,0,none⟩),.iface 435 (.agg #[.string (bs op)])] W fun e a=>(∃k:Nat,e=.returned (.int .i64 k))/\P a)):
 Calls prog 288 #[.pointer (some ⟨cb,0,none⟩),.agg #[.int .i64 l,.string (bs op),.iface j h,.iface d f]] w fun e a=>e=.returned (.tuple #[])/\P a:=by
 have D:((bs op).toList==[38,38])=false:=by rw[cA];simpa using c
 have B:((bs op).toList==[124,124])=false:=by rw[cA];simpa using b
 clear c b;generalize bs op=A at*;go_enter func288,ntmps288;go_wp2_with fail;refine s.out.mono ?_;rintro e t ⟨rfl,c⟩;obtain⟨v,C,y⟩:=o.out _ c;have i:=aB (p.out _ c);clear c;go_wp2_with fail;refine i.out.mono ?_;rintro e E ⟨rfl,b⟩;obtain⟨z,u⟩:=n.out _ b;have g:=aB (r.out _ b);clear b;go_wp2_with fail;refine g.out.mono ?_;rintro e x ⟨⟨m,rfl⟩,q⟩;go_wp2_with fail;exact⟨rfl,_,results_none (by rfl) _ _ _,rfl,q⟩
def MC(w:World)(cb k:Nat)(l:Int)(b:Bool)(op:List UInt8)(v i:TypeId)(r j:Value)(P Q y R S:World->Prop)(d:op=if b then [124,124] else [38,38])
 (F:Hid (Calls prog 233 #[.pointer (some ⟨cb,0,none⟩),.iface v r] (w.alloc (.cells #[.int .i64 l,.string (bs op),.iface v r,.iface i j] 352)) fun e a=>e=.returned (.tuple #[])/\Q a))
 (A:Hid (∀W,Q W->W.cell? ⟨w.heap.size,1,none⟩=some (.string (bs op))/\w.heap.size<W.heap.size))
 (I:Hid (∀W,Q W->Calls prog 238 #[.pointer (some ⟨cb,0,none⟩),.nilIface] W fun e a=>e=.returned (.int .i64 k)/\y a))
 (x:Hid (∀W,y W->W.cell? ⟨w.heap.size,3,none⟩=some (.iface i j)/\w.heap.size<W.heap.size))
 (H:Hid (∀W,y W->Calls prog 233 #[.pointer (some ⟨cb,0,none⟩),.iface i j] W fun e a=>e=.returned (.tuple #[])/\R a))
 (L:Hid (∀W,R W->Calls prog 238 #[.pointer (some ⟨cb,0,none⟩),.iface 436 (.agg #[])] W fun e a=>(∃k:Nat,e=.returned (.int .i64 k))/\S a))
 (h:Hid (∀W,S W->W.cell? ⟨w.heap.size,1,none⟩=some (.string (bs op))/\w.heap.size<W.heap.size/\cb<W.heap.size/\∃g n c,W.cell? ⟨cb,1,none⟩=some (.slice (some ⟨g,0,none⟩) n c)/\k<n/\n<=1000000/\(∃u,W.cell? ⟨g,k,none⟩=some u)/\W.frozen? ⟨g,k,none⟩=false/\g<W.heap.size/\∀E,aQ (W.setCell ⟨g,k,none⟩ (.iface 438 (.agg #[.bool b,.int .i64 n]))) E->P E)):
 Calls prog 288 #[.pointer (some ⟨cb,0,none⟩),.agg #[.int .i64 l,.string (bs op),.iface v r,.iface i j]] w fun e a=>e=.returned (.tuple #[])/\P a:=by
 have J:∃o:ByteArray,o=bs op/\(o.toList==[38,38])= !b/\(o.toList==[124,124])=b:=⟨bs op,rfl,by rw[cA,d];cases b<;>rfl,by rw[cA,d];cases b<;>rfl⟩
 obtain⟨o,C,K,e2⟩:=J;rw[<-C] at F A h ⊢
 clear C d;cases b
 all_goals
  simp only[Bool.not_true,Bool.not_false] at K;go_enter func288,ntmps288;go_wp2_with fail;refine F.out.mono ?_;rintro e N ⟨rfl,s⟩;obtain⟨O,b2⟩:=A.out _ s;have z:=aB (I.out _ s);clear s;go_wp2_with fail;refine z.out.mono ?_;rintro e w2 ⟨rfl,q⟩;obtain⟨d1,T⟩:=x.out _ q;have t:=aB (H.out _ q);clear q;go_wp2_with fail;refine t.out.mono ?_;rintro e V ⟨rfl,D⟩;have p:=aB (L.out _ D);clear D;go_wp2_with fail;refine p.out.mono ?_;rintro e M ⟨⟨m,rfl⟩,B⟩;obtain⟨Z,f2,f3,g,n,c,f4,f5,f6,⟨u,Y⟩,U,f9,f⟩:=h.out _ B;have G:=aB f;have i1:(0:Int)<=(k:Int):=by omega
  have X:(k:Int)<(n:Int):=by omega
  clear B f;go_wp2_with fail;go_region
  all_goals
   go_wp2_with fail;go_end0;exact⟨rfl,G.out _ (aQ.drew _)⟩
def nK(c:aC->Nat->List aH):∀(l m:List aC) (p:Nat),bP c (l++m) p=bP c l p++bP c m (p+(bP c l p).length)
 |[],m,p=>by simp[bP]
 |a::l,m,p=>by
  rw[aY_,bP,bP,nK c l m,bd_,aw_,b5_]
def BT(c:aC->Nat->List aH)(a:aC)(p:Nat):bP c [a] p=c a p:=by simp[bP]
def NR(c:aC->Nat->List aH)(a b:aC)(p:Nat):bP c [a,b] p=c a p++c b (p+(c a p).length):=by simp[bP]
section
variable (fs:List aC) (seen:List (List UInt8)) (d:Nat) (a:aC) (p:Nat)
def C1(h:a.op=[48]):aG fs seen (d+1) a p=[.push (bC (((dG 0 a.text).getD 0:Nat):Int))]:=by rw[aG];simp[h]
def C0(h:a.op=[115]):aG fs seen (d+1) a p=[.push (bK a.text)]:=by rw[aG];simp[h]
def VA(h:a.op=[98,111,111,108]):aG fs seen (d+1) a p=[.push (bO (a.text==[116,114,117,101]))]:=by rw[aG];simp[h]
def B9(h:a.op=[110,97,109,101]):aG fs seen (d+1) a p=[.load (dK seen a.text)]:=by rw[aG];simp[h]
def UZ(h:a.op=[108,105,115,116]):aG fs seen (d+1) a p=bP (aG fs seen d) a.kids p++[.list a.kids.length]:=by rw[aG];simp[h]
def QA(h:a.op=[105,110,100,101,120]):aG fs seen (d+1) a p=bP (aG fs seen d) a.kids p++[.index]:=by rw[aG];simp[h]
def PY(o:UInt8)(b:o=45\/o=33)(h:a.op=[o,120]):aG fs seen (d+1) a p=bP (aG fs seen d) a.kids p++[.unary [o]]:=by
 rw[aG];rcases b with rfl|rfl<;>simp[h]
def DF(h:a.op=[99,97,108,108]):aG fs seen (d+1) a p=bP (aG fs seen d) a.kids p++[if a.text==[108,101,110] then .length else if a.text==[114,101,97,100] then .read else .call (cS fs a.text) a.kids.length]:=by rw[aG];simp[h]
def PZ(b:Bool)(l r:aC)(h:a.op=if b then [124,124] else [38,38])(c:a.kids=[l,r]):aG fs seen (d+1) a p=
 aG fs seen d l p++[.shortcut b (p+(aG fs seen d l p).length+1+(aG fs seen d r (p+(aG fs seen d l p).length+1)).length+1)]++aG fs seen d r (p+(aG fs seen d l p).length+1)++[.truth]:=by
 rw[aG];cases b<;>simp[h,c]
def LJ(h:bZ a.op≠9)(b:a.op≠[38,38])(c:a.op≠[124,124]):aG fs seen (d+1) a p=bP (aG fs seen d) a.kids p++[.binary a.op]:=by
 rcases mV h with e|e|e|e|e|e|e|e|e|e|e
 all_goals first|exact absurd e c|exact absurd e b|(rw[aG];simp[e])
end
def GQ:∀(l:List UInt8) (n k:Nat),n<=9223372036854775807->dG n l=some k->k<=9223372036854775807
 |[],n,k,b,h=>by rw[dG] at h;cases h;exact b
 |c::r,n,k,b,h=>by
  rw[dG] at h;split at h
  ·cases h
  ·rename_i a;refine GQ r _ k ?_ h;have e:=bP_ c;have d:KV=9223372036854775807:=rfl;rw[d] at a;omega
section
variable {fp:Nat->Value} {fb:Nat->Nat} {nms:List (List UInt8)} {cb:Nat} {F:Nat->Prop} {w w':World} {code:List (Option aH)} {seen:List (List UInt8)}
def CP.patch{a b:List (Option aH)}(h:CP fp fb nms cb F w (a++none::b) seen):
 ∃g c,w.cell? ⟨cb,1,none⟩=some (.slice (some ⟨g,0,none⟩) (a++none::b).length c)/\(∃x,w.cell? ⟨g,a.length,none⟩=some x)/\w.frozen? ⟨g,a.length,none⟩=false/\g<w.heap.size/\
  ∀u i l,lC fp F w u i->aQ (w.setCell ⟨g,a.length,none⟩ u) l->CP fp fb nms cb F l (a++some i::b) seen/\FB cb w l:=by
 obtain⟨fv,cv,Z,A,⟨U,G,s⟩,O,P⟩:=h.blk;have K:=h.lt;have hl:(a++none::b).length=a.length+b.length+1:=by simp;omega
 rcases G.2 with ⟨_,I⟩|⟨g,c,q,rfl,I,t,L,T,H,N⟩
 ·omega
 have E:=aD t;have r:∃x,q[a.length]?=some x:=⟨_,aC_ (by rw[H];omega)⟩
 obtain⟨x,W⟩:=r;refine⟨g,c,aA A rfl,⟨x,aA t W⟩,aE t,E,fun u i l V p=>?_⟩
 have n:∀k,k≠g->l.heap[k]?=w.heap[k]?:=fun k n=>by rw[p.heap,ax_ _ _ _ _ n]
 have z:kW cb w=some g:=iX A;have y:l.heap[cb]?=_:=(n cb (by omega)).trans A
 have d:FB cb w l:=⟨⟨p.os.trans rfl,p.tape.trans rfl,p.output.trans rfl,by rw[p.heap];simp,fun k M=>n k (by omega)⟩,fun k _ _ s=>n k fun e=>s (by rw[z,e]),fun k e=>av_ (by rw[oD (n cb (by omega))] at e;exact e)⟩
 have v:=h.fixed d;refine⟨h.step (xs':=U.set a.length u) d y ⟨by rw[bx_,G.1];simp,as_ ⟨g,c,q.setIfInBounds a.length u,by simp,I,by rw[p.heap];exact aS t,by simpa using L,T,by simpa using H,?_⟩⟩ ?_ (eE.keep v (fun _ h=>h) O) (P.keep v (fun _ h=>h) d.bel.size),d⟩
 ·rw[bB_,b6_,<-N];simp
 ·have C:=s.keep v fun _ h=>h
  refine⟨by simp[s.1],fun j o f=>?_⟩
  by_cases J:j=a.length
  ·subst J;rw[aV_ (au_ _)] at f;simp at f;subst f;exact⟨u,by rw[List.getElem?_set_self (by rw[s.1];omega)],lC.keep V v fun _ h=>h⟩
  ·have B:(a++none::b)[j]?=some o:=by
    rcases a6_ j a.length with D|D
    ·rw[a3_ D] at f ⊢;exact f
    ·rw[aV_ D] at f ⊢
     obtain⟨m,X⟩:∃m,j-a.length=m+1:=⟨j-a.length-1,by omega⟩
     rw[X] at f ⊢
     simpa using f
   obtain⟨S,Y,Q⟩:=C.2 j o B;exact⟨S,by rw[List.getElem?_set_ne (fun e=>J e.symm)];exact Y,Q⟩
end
def fX(fp:Nat->Value)(fb:Nat->Nat)(nms:List (List UInt8))(cb:Nat)(F:Nat->Prop)(w:World)(code:List (Option aH))(seen:List (List UInt8))(w':World):Prop:=
 CP fp fb nms cb F w' code seen/\FB cb w w'
def EF(fp:Nat->Value)(fb:Nat->Nat)(fs:List aC)(cb lo:Nat)(F:Nat->Prop)(alone:Bool)(seen:List (List UInt8))(d:Nat):Prop:=
 ∀(v:Value) (a:aC) (code:List (Option aH)) (w:World),CP fp fb (fs.map (·.text)) cb F w code seen->PN (Btw lo cb) w v a->Hs.ExOk fs alone seen d a->pS d a->code.length+(aG fs seen d a code.length).length<=1000000->
  Calls prog 233 #[.pointer (some ⟨cb,0,none⟩),v] w fun e w'=>e=.returned (.tuple #[])/\fX fp fb (fs.map (·.text)) cb F w (code++(aG fs seen d a code.length).map some) seen w'
section
variable {fp:Nat->Value} {fb:Nat->Nat} {fs:List aC} {cb lo:Nat} {F:Nat->Prop} {alone:Bool} {seen:List (List UInt8)} {d:Nat}
def fX.then{w w1 w':World}{b:List (List UInt8)}{a:List (Option aH)}(c:FB cb w w1)(h:fX fp fb b cb F w1 a seen w'):fX fp fb b cb F w a seen w':=⟨h.1,c.trans h.2⟩
def PKid.sliceC{F:Nat->Prop}{w:World}{v:Value}{l:List aC}(h:PKid F w v l):∃x c,v=.slice x l.length c:=by
 rcases h.get with ⟨rfl,rfl⟩|⟨g,a,rfl,_⟩
 ·exact⟨none,0,rfl⟩
 ·exact⟨_,_,rfl⟩
def ExOk.op{fs:List aC}{c:Bool}{seen:List (List UInt8)}{d:Nat}{a:aC}(h:Hs.ExOk fs c seen (d+1) a):
 (∀k∈a.kids,Hs.ExOk fs c seen d k)/\(a.op=[110,97,109,101]->a.text∈seen)/\
   (a.op=[99,97,108,108]->a.text=[108,101,110]\/a.text=[114,101,97,100]\/(a.text≠[108,101,110]/\a.text≠[114,101,97,100]/\fG fs (cS fs a.text)=some a.kids.length)):=by
 have n:∀{l r:aC},a.kids=[l,r]->Hs.ExOk fs c seen d l->Hs.ExOk fs c seen d r->∀k∈a.kids,Hs.ExOk fs c seen d k:=fun e b f k g=>by
  rw[e] at g;simp at g;rcases g with rfl|rfl
  ·exact b
  ·exact f
 have m:∀{x y:List UInt8} {p:Prop},a.op=x->x≠y->a.op=y->p:=fun t s u=>absurd (t.symm.trans u) s
 rcases h with ⟨b,j⟩|⟨b,j,f⟩|⟨b,f⟩|⟨b,l,r,j,f,i⟩|⟨b,l,j,f⟩|⟨b,f,i⟩|⟨b,l,r,j,f,i⟩
 ·refine⟨fun k g=>absurd g (by rw[j];simp),?_,?_⟩<;>rcases b with b|b|b<;>exact m b (by decide)
 ·exact⟨fun k g=>absurd g (by rw[j];simp),fun _=>f,m b (by decide)⟩
 ·exact⟨f,m b (by decide),m b (by decide)⟩
 ·exact⟨n j f i,m b (by decide),m b (by decide)⟩
 ·refine⟨fun k g=>?_,?_,?_⟩
  ·rw[j] at g;simp at g;rw[g];exact f
  all_goals rcases b with b|b<;>exact m b (by decide)
 ·refine⟨f,m b (by decide),fun _=>?_⟩
  rcases i with ⟨i,_⟩|⟨i,_⟩|⟨i,o,_,q⟩
  ·exact av_ i
  ·exact as_ (av_ i)
  ·exact as_ (as_ ⟨i,o,q⟩)
 ·refine⟨n j f i,fun e=>?_,fun e=>?_⟩<;>(exfalso;rw[e] at b;exact b rfl)
def rV(I:EF fp fb fs cb lo F alone seen d)(v:Value)(l:List aC)(b:List (Option aH))(w:World)(h:CP fp fb (fs.map (·.text)) cb F w b seen)(K:PKid (Btw lo cb) w v l)(G:∀a∈l,Hs.ExOk fs alone seen d a)(z:∀a∈l,pS d a)(H:l.length<=1000000)(M:b.length+(bP (aG fs seen d) l b.length).length<=1000000):
 Calls prog 287 #[.pointer (some ⟨cb,0,none⟩),v] w fun e q=>e=.returned (.tuple #[])/\fX fp fb (fs.map (·.text)) cb F w (b++(bP (aG fs seen d) l b.length).map some) seen q:=by
 rcases K.get with ⟨rfl,rfl⟩|⟨g,t,rfl,C,A,B,L⟩
 ·refine(B8 w cb).mono ?_;rintro e q ⟨rfl,rfl⟩;exact⟨rfl,by simpa [bP] using h,FB.refl _⟩
 ·refine(UY w cb g l.length t (fun j W=>j<=l.length/\fX fp fb (fs.map (·.text)) cb F w (b++(bP (aG fs seen d) (l.take j) b.length).map some) seen W) H ⟨a9_ _,by simpa [bP] using h,FB.refl _⟩ (fun j W D n=>?_)).mono ?_
  ·obtain⟨_,r,f⟩:=D;obtain⟨u,J,i⟩:=L j n;obtain⟨T,E,rfl⟩:=i.form;have s:l.take (j+1)=l.take j++[l[j]]:=aT_ n;have m:bP (aG fs seen d) (l.take (j+1)) b.length=bP (aG fs seen d) (l.take j) b.length++aG fs seen d l[j] (b.length+(bP (aG fs seen d) (l.take j) b.length).length):=by rw[s,nK,BT]
   have k:(bP (aG fs seen d) (l.take (j+1)) b.length).length<=(bP (aG fs seen d) l b.length).length:=by
    have e:l=l.take (j+1)++l.drop (j+1):=(a5_ _ _).symm;have:=congrArg (fun x=>(bP (aG fs seen d) x b.length).length) e
    simp only[nK,aw_] at this;omega
   have o:(b++(bP (aG fs seen d) (l.take j) b.length).map some).length=b.length+(bP (aG fs seen d) (l.take j) b.length).length:=by simp
   refine⟨az_ A f.bel.size,T,.agg E,by rw[f.bel.cell (p:=⟨g,j,none⟩) C.2];exact J,(I _ l[j] _ W r (i.below f.bel) (G _ (aR_ n)) (z _ (aR_ n)) ?_).mono ?_⟩
   ·rw[o];rw[m,aw_] at k;omega
   ·rintro e q ⟨y,c⟩;refine⟨y,n,?_⟩;rw[o] at c;rw[m,a7_,<-bd_];exact c.then f
  ·rintro e q ⟨y,_,c⟩;rw[a0_ (au_ _)] at c;exact⟨y,c⟩
def emits{c:List (List UInt8)}{w W:World}{a:List (Option aH)}{u:Value}{i:aH}(b:fX fp fb c cb F w a seen W)(j:lC fp F W u i)(l:a.length+1<=1000000):
 Calls prog 238 #[.pointer (some ⟨cb,0,none⟩),u] W fun e d=>(∃k:Nat,e=.returned (.int .i64 k))/\fX fp fb c cb F w (a++[some i]) seen d:=by
 refine(qZ (o:=some i) b.1 j (by omega)).mono ?_
 rintro e d ⟨f,h,g⟩;exact⟨⟨_,f⟩,h,b.2.trans g⟩
def DC(fs:List aC)(x:List UInt8):(fs.map (·.text)).findIdx (fun y=>y==x)=cS fs x:=by
 unfold cS;induction fs with
 |nil=>rfl
 |cons f fs a=>simp only[aM_,List.findIdx_cons,a]
def fJ(a:List (Option aH))(c:List aH):(a++c.map some).length=a.length+c.length:=by simp
def VQ(IH:EF fp fb fs cb lo F alone seen d)(bo:seen.length<=1000000)(bu:fs.length<=1000000)(ba:∀k,k<fs.length->fp k=.pointer (some ⟨fb k,0,none⟩)):EF fp fb fs cb lo F alone seen (d+1):=by
 intro v a j w h ca aw bv n;obtain⟨T,B,ps,rfl,cc,bq⟩:=ca.parts;obtain⟨au,ap,C⟩:=bv;have H:=ExOk.op aw;obtain⟨X,af⟩:=h.new (.cells B T)
 have E:∀p∈ps,Prt.ok (Btw lo cb) (w.alloc (.cells B T)) p:=fun p Z=>by
  rcases bq p Z with ⟨A,b,h2,h3⟩|⟨A,h2⟩
  ·exact av_ ⟨A,b,h2,h3.below X.fb.bel⟩
  ·exact as_ ⟨A,PKid.below h2 X.fb.bel⟩
 have ab:∀{W:World} {c:List (Option aH)},fX fp fb (fs.map (·.text)) cb F (w.alloc (.cells B T)) c seen W->W.heap[w.heap.size]?=some (.cells B T (0,0)):=fun u=>(X.step u.2).blk
 have I:∀{c:List (Option aH)} {e:Ending} {W:World},(e=.returned (.tuple #[])/\fX fp fb (fs.map (·.text)) cb F (w.alloc (.cells B T)) c seen W)->(e=.returned (.tuple #[])/\fX fp fb (fs.map (·.text)) cb F w c seen W):=fun m=>⟨m.1,m.2.then X.fb⟩
 have G:fX fp fb (fs.map (·.text)) cb F (w.alloc (.cells B T)) j seen (w.alloc (.cells B T)):=⟨af,FB.refl _⟩
 have ce:(w.alloc (.cells B T)).heap.size=w.heap.size+1:=by simp
 have am:∀{W:World} {v:Value} {k:aC} {c:List (Option aH)},fX fp fb (fs.map (·.text)) cb F (w.alloc (.cells B T)) c seen W->Prt.ok (Btw lo cb) (w.alloc (.cells B T)) ⟨v,[k],true⟩->Hs.ExOk fs alone seen d k->pS d k->c.length+(aG fs seen d k c.length).length<=1000000->
  Calls prog 233 #[.pointer (some ⟨cb,0,none⟩),v] W fun e P=>e=.returned (.tuple #[])/\fX fp fb (fs.map (·.text)) cb F (w.alloc (.cells B T)) (c++(aG fs seen d k c.length).map some) seen P:=fun u Z hx hl hn=>
  (IH _ _ _ _ u.1 (Z.one'.below u.2.bel) hx hl hn).mono fun e P m=>⟨m.1,m.2.then u.2⟩
 have ag:∀{W:World} {v:Value} {l:List aC} {c:List (Option aH)},fX fp fb (fs.map (·.text)) cb F (w.alloc (.cells B T)) c seen W->Prt.ok (Btw lo cb) (w.alloc (.cells B T)) ⟨v,l,false⟩->(∀k∈l,Hs.ExOk fs alone seen d k)->(∀k∈l,pS d k)->l.length<=1000000->c.length+(bP (aG fs seen d) l c.length).length<=1000000->
  Calls prog 287 #[.pointer (some ⟨cb,0,none⟩),v] W fun e P=>e=.returned (.tuple #[])/\fX fp fb (fs.map (·.text)) cb F (w.alloc (.cells B T)) (c++(bP (aG fs seen d) l c.length).map some) seen P:=fun u Z hx hl bw hn=>
  (rV IH _ _ _ _ u.1 (Z.many.below u.2.bel) hx hl bw hn).mono fun e P m=>⟨m.1,m.2.then u.2⟩
 rcases cc with ⟨rfl,k,rfl,s,av,r,rfl⟩|⟨rfl,rfl,s,r,rfl⟩|⟨rfl,rfl,s,r,rfl⟩|⟨rfl,sv,rfl,s,rfl⟩|⟨rfl,sv,rfl,s,rfl⟩|⟨rfl,rfl,s,r,rfl⟩|⟨rfl,l,v1,v2,S,a2,rfl,s,r,rfl⟩|⟨rfl,o,v1,S,rfl,bk,s,r,rfl⟩|⟨rfl,l,v1,v2,S,a2,rfl,s,r,rfl⟩|aj
 ·-- a number
  rw[C1 fs seen d a _ s,av] at n ⊢
  have hk:=GQ _ _ _ (by omega) av
  exact(sR w cb a.line k _ (emits (i:=.push (bC k)) G ⟨_,rfl,PV.num _ _ _ (by omega) (by omega),by rw[kA];omega⟩ (by simp at n;omega))).mono fun _ _=>I
 ·rw[C0 fs seen d a _ s] at n ⊢
  exact(FO w cb a.line _ _ (emits (i:=.push (bK a.text)) G ⟨_,rfl,PV.str _ _ _,by rw[kP];have:=(au s).1;omega⟩ (by simp at n;omega))).mono fun _ _=>I
 ·rw[VA fs seen d a _ s] at n ⊢
  exact(QC w cb a.line _ _ (emits (i:=.push (bO (a.text==[116,114,117,101]))) G ⟨_,rfl,PV.tru _ _ _,by rw[lM];omega⟩ (by simp at n;omega))).mono fun _ _=>I
 ·-- a list
  rw[UZ fs seen d a _ s] at n ⊢
  rw[aw_,bq_] at n;have D:=H.1;have Z:=E ⟨sv,a.kids,false⟩ (by simp)
  obtain⟨x,c,rfl⟩:=Z.many.sliceC;refine(QB w cb a.kids.length c a.line x _ _ (ag G Z D C ap (by omega)) (fun W m=>⟨aA (ab m) rfl,aD (ab m)⟩) (fun W m=>emits (i:=.list a.kids.length) m rfl (by rw[fJ];omega))).mono ?_
  intro e W m;rw[a7_,<-bd_];exact I m
 ·-- a call
  rw[DF fs seen d a _ s] at n ⊢
  rw[aw_,bq_] at n;have D:=H.1;have ao:=H.2.2 s;have Z:=E ⟨sv,a.kids,false⟩ (by simp)
  obtain⟨x,c,rfl⟩:=Z.many.sliceC;obtain⟨z,V⟩:=af.new (.cells #[.int .i64 a.line,.string (bs a.text),.slice x a.kids.length c] 341);generalize N:w.alloc (.cells #[.int .i64 a.line,.string (bs a.text),.slice x a.kids.length c] 341)=q at*;have Y:fX fp fb (fs.map (·.text)) cb F q j seen (q.alloc (.cells #[.int .i64 a.line,.string (bs a.text),.slice x a.kids.length c] 341)):=⟨V,z.fb⟩
  have hx:=ag Y Z D C ap (by omega)
  have cd:q.heap.size<q.heap.size+1:=a2_ _;have bj:∀{W:World},FB cb (q.alloc (.cells #[.int .i64 a.line,.string (bs a.text),.slice x a.kids.length c] 341)) W->W.heap[q.heap.size]?=some (.cells #[.int .i64 a.line,.string (bs a.text),.slice x a.kids.length c] 341 (0,0)):=fun bx=>(z.step bx).blk
  have M:Calls prog 287 #[.pointer (some ⟨cb,0,none⟩),.slice x a.kids.length c] (q.alloc (.cells #[.int .i64 a.line,.string (bs a.text),.slice x a.kids.length c] 341)) fun e P=>e=.returned (.tuple #[])/\(fX fp fb (fs.map (·.text)) cb F q (j++(bP (aG fs seen d) a.kids j.length).map some) seen P/\P.heap[q.heap.size]?=some (.cells #[.int .i64 a.line,.string (bs a.text),.slice x a.kids.length c] 341 (0,0))):=by
   refine(rV IH _ _ _ _ V (Z.many.below z.fb.bel) D C ap (by omega)).mono ?_
   rintro e P ⟨he,u⟩;exact⟨he,u.then z.fb,bj u.2⟩
  have ae:∀{i:aH} {e:Ending} {W:World},(e=.returned (.tuple #[])/\fX fp fb (fs.map (·.text)) cb F q ((j++(bP (aG fs seen d) a.kids j.length).map some)++[some i]) seen W)->e=.returned (.tuple #[])/\fX fp fb (fs.map (·.text)) cb F w (j++(bP (aG fs seen d) a.kids j.length++[i]).map some) seen W:=fun m=>by
   rw[a7_,<-bd_];exact I m
  have ak:(j++(bP (aG fs seen d) a.kids j.length).map some).length+1<=1000000:=by rw[fJ];omega
  rcases ao with ai|ai|⟨bc,bd,ah⟩
  ·rw[ai] at M N ⊢
   refine(qX w cb a.kids.length c a.line _ x (fun W=>fX fp fb (fs.map (·.text)) cb F q ((j++(bP (aG fs seen d) a.kids j.length).map some)++[some .length]) seen W) (by rw[N];exact RH q cb a.kids.length c a.line x _ _ M (fun W m=>⟨aA m.2 rfl,aD m.2⟩) (fun W m=>emits (i:=.length) m.1 rfl ak))).mono ?_
   intro e W m;exact ae m
  ·rw[ai] at M N ⊢
   refine(qX w cb a.kids.length c a.line _ x (fun W=>fX fp fb (fs.map (·.text)) cb F q ((j++(bP (aG fs seen d) a.kids j.length).map some)++[some .read]) seen W) (by rw[N];exact JB q cb a.kids.length c a.line x _ _ M (fun W m=>⟨aA m.2 rfl,aD m.2⟩) (fun W m=>emits (i:=.read) m.1 rfl ak))).mono ?_
   intro e W m;exact ae m
  ·have al:cS fs a.text<fs.length:=by
    unfold fG at ah;cases hf:fs[cS fs a.text]? with
    |none=>rw[hf] at ah;cases ah
    |some f=>exact(aZ_.1 hf).1
   have az:a.text∈fs.map (·.text):=by
    have h9:=al;unfold cS at h9;have:=bN_ (w:=h9);exact bz_.2 ⟨_,aR_ h9,by simpa using this⟩
   have e1:(a.text==[108,101,110])=false:=by simpa using bc
   have e2:(a.text==[114,101,97,100])=false:=by simpa using bd
   rw[e1,e2];refine(qX w cb a.kids.length c a.line _ x (fun W=>fX fp fb (fs.map (·.text)) cb F q ((j++(bP (aG fs seen d) a.kids j.length).map some)++[some (.call (cS fs a.text) a.kids.length)]) seen W) ?_).mono ?_
   ·rw[N];refine DX q cb a.kids.length c (fb (cS fs a.text)) a.line a.text x _ _ bc bd M (fun W m=>⟨aA m.2 rfl,aA m.2 rfl,aD m.2⟩) (fun W W' m hS=>?_) (fun W W' m hS=>?_)
    ·refine(tB a.text (m.1.1.grow hS.below) az (by simpa using bu)).mono ?_
     rintro e P ⟨he,bm⟩;rw[DC,ba _ al] at he;exact⟨he,bm⟩
    ·have bt:fX fp fb (fs.map (·.text)) cb F q (j++(bP (aG fs seen d) a.kids j.length).map some) seen W':=⟨m.1.1.grow hS.below,m.1.2.trans (FB.of_below hS.below m.1.1.lt)⟩
     exact emits (i:=.call (cS fs a.text) a.kids.length) bt (by show _=_;rw[ba _ al]) ak
   ·intro e W m;exact ae m
 ·-- a variable
  rw[B9 fs seen d a _ s] at n ⊢
  have hm:=H.2.1 s;exact(zU w cb a.line _ (dK seen a.text) _ (NO a.text af hm bo) (emits (i:=.load (dK seen a.text)) G rfl (by simp at n;omega))).mono fun _ _=>I
 ·-- an index
  rw[QA fs seen d a _ s,r,NR] at n ⊢
  rw[aw_,aw_,bq_] at n;have D:=H.1;have L:=E ⟨v1,[S],true⟩ (by simp)
  have ac:=E ⟨v2,[a2],true⟩ (by simp)
  obtain⟨T1,Q,rfl⟩:=L.one'.form;obtain⟨T2,U,rfl⟩:=ac.one'.form;refine(LL w cb l T1 T2 _ _ _ _ _ (am G L (D S (by rw[r];simp)) (C S (by rw[r];simp)) (by omega)) (fun W m=>⟨aA (ab m) rfl,aD (ab m)⟩) (fun W m=>am m ac (D a2 (by rw[r];simp)) (C a2 (by rw[r];simp)) (by rw[fJ];omega)) (fun W m=>emits (i:=.index) m rfl (by simp only[fJ];omega))).mono ?_
  intro e W m;rw[fJ] at m;rw[a7_,a7_,<-bd_,<-bd_];exact I m
 ·-- one operand
  rw[PY fs seen d a _ o bk s,r,BT] at n ⊢
  rw[aw_,bq_] at n;have D:=H.1;have L:=E ⟨v1,[S],true⟩ (by simp)
  obtain⟨T1,Q,rfl⟩:=L.one'.form;refine(LK w cb a.line _ T1 _ _ _ (am G L (D S (by rw[r];simp)) (C S (by rw[r];simp)) (by omega)) (fun W m=>⟨aA (ab m) rfl,aD (ab m)⟩) (fun W m=>emits (i:=.unary [o]) m rfl (by rw[fJ];omega))).mono ?_
  intro e W m;rw[a7_,<-bd_];exact I m
 ·-- two operands
  have D:=H.1;have L:=E ⟨v1,[S],true⟩ (by simp)
  have ac:=E ⟨v2,[a2],true⟩ (by simp)
  obtain⟨T1,Q,rfl⟩:=L.one'.form;obtain⟨T2,U,rfl⟩:=ac.one'.form;have bf:=D S (by rw[r];simp)
  have M:=D a2 (by rw[r];simp)
  have ax:=C S (by rw[r];simp)
  have bb:=C a2 (by rw[r];simp)
  generalize J:(#[.int .i64 (l:Nat),.string (bs a.op),.iface T1 (.agg Q),.iface T2 (.agg U)]:Array Value)=B at*;obtain⟨z,V⟩:=af.new (.cells B 352);have Y:fX fp fb (fs.map (·.text)) cb F (w.alloc (.cells B 352)) j seen ((w.alloc (.cells B 352)).alloc (.cells B 352)):=⟨V,z.fb⟩
  generalize N:w.alloc (.cells B 352)=q at*
  have aa:∀{W:World} {v:Value} {k:aC} {c:List (Option aH)},(fX fp fb (fs.map (·.text)) cb F q c seen W/\Loc cb q q.heap.size (.cells B 352) W)->Prt.ok (Btw lo cb) q ⟨v,[k],true⟩->Hs.ExOk fs alone seen d k->pS d k->c.length+(aG fs seen d k c.length).length<=1000000->
   Calls prog 233 #[.pointer (some ⟨cb,0,none⟩),v] W fun e P=>e=.returned (.tuple #[])/\(fX fp fb (fs.map (·.text)) cb F q (c++(aG fs seen d k c.length).map some) seen P/\Loc cb q q.heap.size (.cells B 352) P):=fun u Z hx hl hn=>
   (IH _ _ _ _ u.1.1 (Z.one'.below u.1.2.bel) hx hl hn).mono fun e P m=>⟨m.1,m.2.then u.1.2,u.2.step m.2.2⟩
  have t:∀{W:World},Loc cb q q.heap.size (.cells B 352) W->W.cell? ⟨q.heap.size,1,none⟩=some (.string (bs a.op))/\W.cell? ⟨q.heap.size,3,none⟩=some (.iface T2 (.agg U))/\q.heap.size<W.heap.size:=fun hL=>⟨aA hL.blk (by rw[<-J];rfl),aA hL.blk (by rw[<-J];rfl),aD hL.blk⟩
  by_cases ad:a.op=[38,38]\/a.op=[124,124]
  ·obtain⟨b,hb⟩:∃b:Bool,a.op=if b then [124,124] else [38,38]:=by
    rcases ad with e|e
    ·exact⟨false,e⟩
    ·exact⟨true,e⟩
   rw[PZ fs seen d a _ b S a2 hb r] at n ⊢
   generalize bi:aG fs seen d S j.length=K at*;generalize bh:aG fs seen d a2 (j.length+K.length+1)=cr at*;simp only[aw_,bq_] at n
   have O:=MC q cb (j.length+K.length) l b a.op T1 T2 (.agg Q) (.agg U) (fun W=>fX fp fb (fs.map (·.text)) cb F q (j++K.map some++some (.shortcut b (j.length+K.length+1+cr.length+1))::(cr.map some++[some .truth])) seen W)
    (fun W=>fX fp fb (fs.map (·.text)) cb F q (j++K.map some) seen W/\Loc cb q q.heap.size (.cells B 352) W)
    (fun W=>fX fp fb (fs.map (·.text)) cb F q (j++K.map some++[none]) seen W/\Loc cb q q.heap.size (.cells B 352) W)
    (fun W=>fX fp fb (fs.map (·.text)) cb F q (j++K.map some++[none]++cr.map some) seen W/\Loc cb q q.heap.size (.cells B 352) W)
    (fun W=>fX fp fb (fs.map (·.text)) cb F q (j++K.map some++[none]++cr.map some++[some .truth]) seen W/\Loc cb q q.heap.size (.cells B 352) W) hb
    (by
      rw[J];have:=aa (c:=j) ⟨Y,z⟩ L bf ax (by rw[bi];omega)
      rw[bi] at this;exact this)
    (fun W m=>⟨(t m.2).1,(t m.2).2.2⟩)
    (fun W m=>(qZ (o:=none) m.1.1 rfl (by rw[fJ];omega)).mono fun e P hr=>⟨by rw[hr.1,fJ],⟨hr.2.1,m.1.2.trans hr.2.2⟩,m.2.step hr.2.2⟩)
    (fun W m=>⟨(t m.2).2.1,(t m.2).2.2⟩)
    (fun W m=>by
      have ay:(j++K.map some++[none]).length=j.length+K.length+1:=by simp;omega
      have:=aa m ac M bb (by rw[ay,bh];omega)
      rw[ay,bh] at this;exact this)
    (fun W m=>(qZ (o:=some .truth) m.1.1 rfl (by simp;omega)).mono fun e P hr=>⟨⟨_,hr.1⟩,⟨hr.2.1,m.1.2.trans hr.2.2⟩,m.2.step hr.2.2⟩)
    (fun W m=>by
      obtain⟨⟨aq,bp⟩,hL⟩:=m;have e0:j++K.map some++[none]++cr.map some++[some aH.truth]=(j++K.map some)++none::(cr.map some++[some aH.truth]):=by simp
      rw[e0] at aq;have bn:=aq.lt;obtain⟨g,c,p1,p2,p3,p4,p5⟩:=aq.patch;have br:(j++K.map some).length=j.length+K.length:=fJ _ _;have bz:((j++K.map some)++none::(cr.map some++[some aH.truth])).length=j.length+K.length+1+cr.length+1:=by simp;omega
      rw[br] at p2 p3 p5;rw[bz] at p1;refine⟨(t hL).1,(t hL).2.2,bn,g,_,c,p1,by omega,by omega,p2,p3,p4,fun W' hS=>?_⟩
      obtain⟨q1,q2⟩:=p5 _ (.shortcut b (j.length+K.length+1+cr.length+1)) W' rfl hS;exact⟨q1,bp.trans q2⟩)
   rw[J] at O;rw[<-J];refine(sS w cb l (bs a.op) T1 T2 (.agg Q) (.agg U) _ (by rw[J,N];exact O)).mono ?_
   intro e W m;have e9:j++(K++[aH.shortcut b (j.length+K.length+1+cr.length+1)]++cr++[aH.truth]).map some=j++K.map some++some (.shortcut b (j.length+K.length+1+cr.length+1))::(cr.map some++[some .truth]):=by simp
   rw[e9];exact I m
  ·have ar:a.op≠[38,38]:=fun e=>ad (av_ e)
   have bg:a.op≠[124,124]:=fun e=>ad (as_ e)
   rw[LJ fs seen d a _ s ar bg,r,NR] at n ⊢
   simp only[aw_,bq_] at n
   have O:=MD q cb l a.op T1 T2 (.agg Q) (.agg U) (fun W=>fX fp fb (fs.map (·.text)) cb F q (j++(aG fs seen d S j.length).map some++(aG fs seen d a2 (j.length+(aG fs seen d S j.length).length)).map some++[some (.binary a.op)]) seen W) _ _ ar bg
    (by rw[J];exact aa (c:=j) ⟨Y,z⟩ L bf ax (by omega))
    (fun W m=>t m.2)
    (fun W m=>aa m ac M bb (by rw[fJ];omega))
    (fun W m=>⟨(t m.2).1,(t m.2).2.2⟩)
    (fun W m=>by
      obtain⟨be,cf⟩:=m;rw[fJ] at be;exact emits (i:=.binary a.op) be rfl (by simp only[fJ];omega))
   rw[J] at O;rw[<-J];refine(sS w cb l (bs a.op) T1 T2 (.agg Q) (.agg U) _ (by rw[J,N];exact O)).mono ?_
   intro e W m;rw[a7_,a7_,<-bd_,<-bd_];exact I m
 ·-- no expression
  exfalso
  have bl:∀x∈([[118,97,114],[115,101,116],[105,102],[119,104,105,108,101],[114,101,116,117,114,110],[112,114,105,110,116],[100,111]]:List (List UInt8)),a.op≠x:=fun x hx e=>by
   have hc:∀y∈([[48],[115],[98,111,111,108],[110,97,109,101],[108,105,115,116],[105,110,100,101,120],[45,120],[33,120],[99,97,108,108],[124,124],[38,38],[61,61],[33,61],[60],[60,61],[43],[45],[42],[47],[37]]:List (List UInt8)),a.op≠y:=fun y hy e2=>by
    rw[e] at e2;subst e2;simp at hx hy;rcases hx with rfl|rfl|rfl|rfl|rfl|rfl|rfl<;>simp at hy
   rcases aw with ⟨A,_⟩|⟨A,_⟩|⟨A,_⟩|⟨A,_⟩|⟨A,_⟩|⟨A,_⟩|⟨A,_⟩
   ·rcases A with A|A|A<;>exact hc _ (by simp) A
   ·exact hc _ (by simp) A
   ·exact hc _ (by simp) A
   ·exact hc _ (by simp) A
   ·rcases A with A|A<;>exact hc _ (by simp) A
   ·exact hc _ (by simp) A
   ·rcases mV A with e|e|e|e|e|e|e|e|e|e|e<;>exact hc _ (by simp) e
  rcases aj with ⟨_,_,_,_,_,A,_⟩|⟨_,_,_,_,_,_,A,_⟩|⟨_,_,_,_,_,_,A,_⟩|⟨_,_,_,_,_,_,_,_,A,_⟩|⟨_,_,_,_,_,_,A,_⟩|⟨_,_,_,A,_⟩|⟨_,_,_,_,A,_⟩|⟨_,_,_,_,A,_⟩|⟨_,_,_,_,A,_⟩
  all_goals exact bl _ (by simp) A
def rY(c:seen.length<=1000000)(a:fs.length<=1000000)(b:∀k,k<fs.length->fp k=.pointer (some ⟨fb k,0,none⟩)):∀d,EF fp fb fs cb lo F alone seen d
 |0=>fun _ _ _ _ _ _ h=>h.elim
 |d+1=>VQ (rY c a b d) c a b
end
end Go.Proofs.YtblbkfdhjfppkaaGreatDoor
