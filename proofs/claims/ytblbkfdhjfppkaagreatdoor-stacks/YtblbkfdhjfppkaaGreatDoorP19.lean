/- Contracts of the program: a fault is caught, whatever is done (2 variables are shared with it). -/
import Derived.Test.YtblbkfdhjfppkaaGreatDoorP13
import Derived.Test.YtblbkfdhjfppkaaGreatDoorP16
import Derived.Test.YtblbkfdhjfppkaaGreatDoorP10
set_option linter.defProp false
set_option maxRecDepth 100000
set_option maxHeartbeats 4000000
namespace Go.Proofs.YtblbkfdhjfppkaaGreatDoor
open Hs
open _root_.Go.Proofs.Tryz(prog)
open Instr(typeAssert)
open Go.RowKit
def PW(a:Nat)(p q:Option Addr)(w:World)(Q:World->Prop)(E:Nat->Nat->Prop)
 (c:∀W,(callFunc a #[.pointer p,.pointer q]).run prog W=.ok (.enter a #[.pointer p,.pointer q]) W)
 (z:∀h,h=(w.alloc (.cells #[.int .i64 0] 22)).alloc (.cells #[.int .i64 0] 3)->Calls prog a #[.pointer p,.pointer q] h fun e d=>
   (e=.returned (.tuple #[])/\d.heap[w.heap.size]?=some (.cells #[.int .i64 0] 22 (0,0))/\d.heap[w.heap.size+1]?=some (.cells #[.int .i64 0] 3 (0,0))/\Q d)\/
   ∃k n,k≠0/\e=.panicked [{ v:=.iface 141 (.agg #[.int .i64 (k:Nat),.int .i64 (n:Nat)]),recovered:=false }]/\Below h.heap.size h d/\E k n):
 Calls prog 42 #[.func (.func a) #[] #[.pointer p,.pointer q]] w fun e d=>
  (e=.returned (.tuple #[.int .i64 0,.int .i64 0])/\∃g,Q g/\d=(g.setCell ⟨w.heap.size,0,none⟩ (.int .i64 0)).setCell ⟨w.heap.size+1,0,none⟩ (.int .i64 0))\/
  ∃k n,k≠0/\e=.returned (.tuple #[.int .i64 (k:Nat),.int .i64 (n:Nat)])/\Below w.heap.size w d/\E k n:=by
 have G:=KW;have o:Below w.heap.size w ((w.alloc (.cells #[.int .i64 0] 22)).alloc (.cells #[.int .i64 0] 3)):=((ay_ _ w).alloc (au_ _) _).alloc (by simp) _
 have x:=aB (z _ rfl);have F:=c ((w.alloc (.cells #[.int .i64 0] 22)).alloc (.cells #[.int .i64 0] 3));clear z c;go_enter_defers Tryz.func42,Tryz.ntmps42
 go_wp2_with fail;refine x.out.mono ?_;rintro e g (⟨rfl,l,m,C⟩|⟨k,n,y,rfl,b,A⟩)
 ·have H:=aB C;clear C;have t:=jT l (i:=0) rfl;have r:=jT m (i:=0) rfl;have K:=lL (i:=0) l;have L:=lL (i:=0) m;have N:=nU l;have M:=nU m;go_wp2_with fail;refine leaves_cons (f:=75) (args:= #[.pointer (some ⟨w.heap.size,0,none⟩),.pointer (some ⟨w.heap.size+1,0,none⟩)]) (by simp) (by simp[go_sem]) ?_
  refine(DW ⟨w.heap.size,0,none⟩ ⟨w.heap.size+1,0,none⟩ _).mono ?_;rintro e I D ⟨rfl,rfl,rfl⟩;simp[Leaves,settle,results,Tryz.results42,go_sem,t,r];exact av_ ⟨g,H.out,rfl⟩
 ·have l:g.heap[w.heap.size]?=some (.cells #[.int .i64 0] 22 (0,0)):=by rw[b.block _ (by simp;omega)];exact jM _ _ _
  have m:g.heap[w.heap.size+1]?=some (.cells #[.int .i64 0] 3 (0,0)):=by rw[b.block _ (by simp)];exact gO _ _ _
  have J:Below w.heap.size w g:=o.trans (b.mono (by simp;omega))
  have B:=aB (aW_ y A);clear b o x A y;go_wp2_with fail;refine leaves_cons (f:=75) (args:= #[.pointer (some ⟨w.heap.size,0,none⟩),.pointer (some ⟨w.heap.size+1,0,none⟩)]) (by simp) (by simp[go_sem]) ?_
  refine(yK w.heap.size (w.heap.size+1) k n [] _ l m (a2_ _)).mono ?_;rintro e I h ⟨rfl,rfl,s,t,r⟩;have u:=J.trans s;simp[Leaves,settle,results,Tryz.results42,go_sem,t,r];obtain⟨j,rfl⟩:∃j,k=j+1:=⟨k-1,by have:=B.out.1;omega⟩
  exact as_ ⟨j,n,⟨by simp,rfl⟩,u,B.out.2⟩
def RS(fp:Nat->Value)(F:Nat->Prop)(w:World)(xs:List Value)(code:List (Option aH)):Prop:=
 xs.length=code.length/\∀(i:Nat) o,code[i]?=some o->∃u,xs[i]?=some u/\(match o with|none=>u=.nilIface|some i=>lC fp F w u i)
def RS.keep{c:Nat->Value}{F G:Nat->Prop}{w w':World}{xs:List Value}{a:List (Option aH)}(h:RS c F w xs a)(g:∀b,F b->w'.heap[b]?=w.heap[b]?)(f:∀b,F b->G b):RS c G w' xs a:=
 ⟨h.1,fun i o k=>by
   obtain⟨u,e,d⟩:=h.2 i o k;refine⟨u,e,?_⟩;cases o with
   |none=>exact d
   |some j=>exact lC.keep d g f⟩
def JG(fp:Nat->Value)(fb:Nat->Nat)(nms:List (List UInt8))(F:Nat->Prop)(w:World)(fv:Value):Prop:=
 (nms=[]/\fv=.slice none 0 0)\/∃g cap,fv=.slice (some ⟨g,0,none⟩) nms.length cap/\F g/\nms.length<=cap/\g<w.heap.size/\∀k (h:k<nms.length),w.cell? ⟨g,k,none⟩=some (fp k)/\fp k=.pointer (some ⟨fb k,0,none⟩)/\F (fb k)/\∃x,w.heap[fb k]?=some (.cells #[.string (bs nms[k]),x] 250 (0,0))
def JG.keep{j:Nat->Value}{f:Nat->Nat}{a:List (List UInt8)}{F G:Nat->Prop}{w w':World}{l:Value}(h:JG j f a F w l)(n:∀b,F b->w'.heap[b]?=w.heap[b]?)(e:∀b,F b->G b)(r:w.heap.size<=w'.heap.size):JG j f a G w' l:=by
 rcases h with h|⟨g,d,t,m,q,v,o⟩
 ·exact av_ h
 ·refine as_ ⟨g,d,t,e g m,q,az_ v r,fun k c=>?_⟩
  obtain⟨u,p,i,x,s⟩:=o k c;exact⟨by rw[World.cell?_of_block (n g m)];exact u,p,e _ i,x,by rw[n _ i];exact s⟩
structure CP(fp:Nat->Value)(fb:Nat->Nat)(nms:List (List UInt8))(cb:Nat)(F:Nat->Prop)(w:World)(code:List (Option aH))(seen:List (List UInt8)):Prop where
 blk:∃fv cv sp,w.heap[cb]?=some (.cells #[fv,cv,sp] 276 (0,0))/\(∃xs,w.ownsRow (cb+1) 355 1 cv code.length xs/\RS fp F w xs code)/\eE F w sp seen/\JG fp fb nms F w fv
 fix:∀k,F k->k<w.heap.size/\k≠cb/\kW cb w≠some k
section
variable {fp:Nat->Value} {fb:Nat->Nat} {nms:List (List UInt8)} {cb:Nat} {F:Nat->Prop} {w w':World} {code:List (Option aH)} {seen:List (List UInt8)}
def CP.lt(h:CP fp fb nms cb F w code seen):cb<w.heap.size:=by
 obtain⟨_,_,_,a,_⟩:=h.blk;exact aD a
def iX{a v1 v2:Value}(h:w.heap[cb]?=some (.cells #[a,v1,v2] 276 (0,0))):kW cb w=v1.ownBlock:=by unfold kW;rw[h];rfl
def CP.grow(h:CP fp fb nms cb F w code seen)(a:Below w.heap.size w w'):CP fp fb nms cb F w' code seen:=by
 have c:=h.lt;obtain⟨i,q,n,r,⟨o,j,p⟩,t,f⟩:=h.blk;have d:∀b,F b->w'.heap[b]?=w.heap[b]?:=fun b e=>a.block b (h.fix b e).1
 refine⟨⟨i,q,n,by rw[a.block _ c];exact r,⟨o,gS j a,p.keep d fun _ h=>h⟩,eE.keep d (fun _ h=>h) t,f.keep d (fun _ h=>h) a.size⟩,fun k l=>?_⟩
 obtain⟨s,m,g⟩:=h.fix k l;exact⟨az_ s a.size,m,by rw[oD (a.block cb c)];exact g⟩
def CP.new(h:CP fp fb nms cb F w code seen)(o:Obj):Loc cb w w.heap.size o (w.alloc o)/\CP fp fb nms cb F (w.alloc o) code seen:=by
 have a:=h.lt;have b:Below w.heap.size w (w.alloc o):=(ay_ _ _).alloc (au_ _) _;refine⟨⟨FB.of_below b a,aM _ _ rfl _,fun e=>?_,by omega⟩,h.grow b⟩
 obtain⟨f,i,j,c,⟨g,d,_⟩,_⟩:=h.blk;rw[oD (b.block cb a),iX c] at e;have:=cK d _ e;omega
def Y1:(prog.info? 355).map (fun i=>(i.zero,i.size,i.bytes))=some (some .nilIface,1,16):=by kernel_rfl
def L8(w:World)(u:Value):∀j v,([u]:List Value)[j]?=some v->(w.alloc (.cells #[u] 355)).cell? ((⟨w.heap.size,0,none⟩:Addr).add j)=some v:=by
 intro j v a;match j,a with
 |0,a=>simp at a;subst a;simp[Addr.add,go_sem]
 |j+1,a=>simp at a
def j3(fp:Nat->Value)(F:Nat->Prop)(w:World)(u:Value):Option aH->Prop
 |none=>u=.nilIface
 |some i=>lC fp F w u i
def j3.one{u:Value}{o:Option aH}(h:j3 fp F w u o):u.oneCell'=true/\(u=.nilIface\/∃t z,u=.iface t z):=by
 cases o with
 |none=>rw[show u=.nilIface from h];exact⟨rfl,av_ rfl⟩
 |some i=>obtain⟨t,z,rfl⟩:=lC.form h;exact⟨rfl,as_ ⟨t,z,rfl⟩⟩
def C2(cb n:Nat)(B T C u:Value)(xs:List Value)(w:World)(f:w.heap[cb]?=some (.cells #[B,T,C] 276 (0,0)))(g:w.ownsRow (cb+1) 355 1 T n xs)(A:u.oneCell'=true)(Y:u=.nilIface\/∃t z,u=.iface t z)(hn:n<=1000000):
 Calls prog 238 #[.pointer (some ⟨cb,0,none⟩),u] w fun e p=>e=.returned (.int .i64 n)/\∃j,p.heap[cb]?=some (.cells #[B,j,C] 276 (0,0))/\p.ownsRow (cb+1) 355 1 j (n+1) (xs++[u])/\FB cb w p:=by
 obtain⟨i0,W,H,I,J⟩:=info_parts Y1;obtain⟨x,c,rfl⟩:=cU g;have K:=aD f;have c1:w.cell? ⟨cb,1,none⟩=some (.slice x n c):=aA f rfl;have M:=aB g;have N:=aB f;have m:∀v∈([u]:List Value),v.oneCell'=true:=fun v S=>by simp at S;rw[S];exact A
 have HONE:=aB m;clear g f m A
 have s:∀q:Value,u=q->(q=.nilIface\/∃t z,q=.iface t z)->Calls prog 238 #[.pointer (some ⟨cb,0,none⟩),q] w fun e p=>e=.returned (.int .i64 n)/\∃j,p.heap[cb]?=some (.cells #[B,j,C] 276 (0,0))/\p.ownsRow (cb+1) 355 1 j (n+1) (xs++[q])/\FB cb w p:=by
  intro q e L;subst e;rcases L with rfl|⟨t,z,rfl⟩
  all_goals
   go_enter Tryz.func238,Tryz.ntmps238;go_wp2_with (at_builtin;refine wpList_append_lies _ (by rfl) _ _ 248 (by rfl) (cb+1) 355 i0 _ 1 16 Tryz.underlying248 W H I J rfl (by decide) (.slice x n c) n xs (by rfl) (M.out.alloc _) ⟨w.heap.size,0,none⟩ 1 1 [_] (by rfl) (by rfl) (L8 w _) HONE.out (by decide) (by unfold maxLen;omega) (by omega) (by simp;omega) (w.heap.size+1) (by simp) ?_)
   intro D y O d b l X;have G:some cb≠(Value.slice x n c).ownBlock:=fun e=>by have:=(M.out.lt cb e.symm).1;omega
   have a:O.heap[cb]?=some (.cells #[B,.slice x n c,C] 276 (0,0)):=by
    rw[b.block cb (by simp;omega) G,aA_ _ _ _ K];exact N.out
   have aa:O.cell? ⟨cb,1,none⟩=some (.slice x n c):=aA a rfl;have V:=aE a (i:=1);have U:=aD a
   have F:D≠cb:=by
    have:=(d.lt D rfl).1;omega
   have HOWN:=aB d;have P:=aB b;have E:=aB l;have r:=aB a;clear d b l a;go_wp2_with fail;go_ret;refine⟨by go_num,.slice (some ⟨D,0,none⟩) (n+1) y,aS r.out,aY HOWN.out fun k o=>ax_ _ _ _ _ (by cases o;exact F),⟨?_,fun k o Z Q=>?_,fun k o=>?_⟩⟩
   ·exact(((ay_ cb w).alloc (by omega) _).grown P.out (by simp;omega) (fun k o=>by have:=(M.out.lt k o).1;omega)).setCell (by exact au_ cb) _
   ·rw[iX N.out] at Q;rw[ax_ _ _ _ _ Z,P.out.block k (by simp;omega) (fun e=>Q e.symm),aA_ _ _ _ o]
   ·rw[iX (aS r.out),iX N.out] at*;cases o;rcases E.out with h|h
    ·exact av_ h
    ·exact as_ (by show w.heap.size<=D;omega)
 exact s u rfl Y
def CP.step{a:List (Option aH)}{j b l:Value}{xs':List Value}(h:CP fp fb nms cb F w code seen)(c:FB cb w w')(f:w'.heap[cb]?=some (.cells #[j,b,l] 276 (0,0)))(d:w'.ownsRow (cb+1) 355 1 b a.length xs')(o:RS fp F w' xs' a)(g:eE F w' l seen)(i:JG fp fb nms F w' j):CP fp fb nms cb F w' a seen:=
 ⟨⟨j,b,l,f,⟨xs',d,o⟩,g,i⟩,fun k p=>by
   obtain⟨r,q,n⟩:=h.fix k p;refine⟨az_ r c.bel.size,q,fun e=>?_⟩
   rcases c.row k e with m|m
   ·exact n m
   ·omega⟩
def CP.fixed(h:CP fp fb nms cb F w code seen)(a:FB cb w w'):∀b,F b->w'.heap[b]?=w.heap[b]?:=fun b c=>by
 obtain⟨d,e,f⟩:=h.fix b c;exact a.blk b d e f
def qZ{u:Value}{o:Option aH}(h:CP fp fb nms cb F w code seen)(l:j3 fp F w u o)(n:code.length<=1000000):
 Calls prog 238 #[.pointer (some ⟨cb,0,none⟩),u] w fun e k=>e=.returned (.int .i64 code.length)/\CP fp fb nms cb F k (code++[o]) seen/\FB cb w k:=by
 obtain⟨r,C,x,E,⟨A,s,c⟩,I,p⟩:=h.blk;obtain⟨G,q⟩:=l.one;refine(C2 cb code.length r C x u A w E s G q n).mono ?_;rintro e k ⟨D,J,y,v,g⟩;have f:=h.fixed g;refine⟨D,h.step g y (by rw[aw_];exact v) ?_ (eE.keep f (fun _ h=>h) I) (p.keep f (fun _ h=>h) g.bel.size),g⟩
 have m:=c.keep f fun _ h=>h
 refine⟨by simp[c.1],fun i z a=>?_⟩
 rcases a6_ i code.length with b|b
 ·rw[a3_ b] at a;obtain⟨B,H,t⟩:=m.2 i z a;exact⟨B,by rw[a3_ (by rw[c.1];exact b)];exact H,t⟩
 ·rw[aV_ b] at a
  have d:i-code.length=0:=by
   have:=(aZ_.1 a).1;simp at this;omega
  rw[d] at a;simp at a;subst a;refine⟨u,by rw[aV_ (by rw[c.1];exact b),c.1,d];rfl,?_⟩
  cases o with
  |none=>exact l
  |some j=>exact lC.keep l f fun _ h=>h
def PQ(h:CP fp fb nms cb F w code seen)(j:seen.length<=1000000):
 Calls prog 290 #[.pointer (some ⟨cb,0,none⟩)] w fun e i=>e=.returned (.int .i64 seen.length)/\i=w:=by
 obtain⟨q,r,f,c, -,g, -⟩:=h.blk;have p:=aD c;have s:w.cell? ⟨cb,2,none⟩=some f:=aA c rfl;cases seen with
 |nil=>
  obtain rfl:f=.pointer none:=g;clear h c;go_enter Tryz.func290,Tryz.ntmps290;go_wp2_with fail;go_ret;exact⟨rfl,rfl⟩
 |cons x l=>
  obtain⟨b,o,rfl,m,a,d⟩:=g;have n:w.cell? ⟨b,1,none⟩=some (.int .i64 l.length):=aA a rfl;have k:=aD a;simp only[aB_] at j;clear h c a d;go_enter Tryz.func290,Tryz.ntmps290;go_wp2_with fail;go_ret;exact⟨by go_num,rfl⟩
end
section
variable {fp:Nat->Value} {fb:Nat->Nat} {nms:List (List UInt8)} {cb:Nat} {F:Nat->Prop} {w w':World} {code:List (Option aH)} {seen:List (List UInt8)}
def J6(w:World)(cb n:Nat)(x:List UInt8)(p:Option Addr)(d:cb<w.heap.size)(f:w.cell? ⟨cb,2,none⟩=some (.pointer p))(g:w.frozen? ⟨cb,2,none⟩=false)
 (b:Hid (Calls prog 290 #[.pointer (some ⟨cb,0,none⟩)] w.drew fun e a=>e=.returned (.int .i64 n)/\a=w.drew)):
 Calls prog 236 #[.pointer (some ⟨cb,0,none⟩),.string (bs x)] w fun e a=>e=.returned (.tuple #[])/\aQ ((w.setCell ⟨cb,2,none⟩ (.pointer (some ⟨w.heap.size,0,none⟩))).alloc (.cells #[.string (bs x),.int .i64 n,.pointer p] 253)) a:=by
 go_enter Tryz.func236,Tryz.ntmps236;go_wp2_with fail;go_region_law (go_simp;go_at_call 290;refine b.out.mono ?_;rintro e c ⟨rfl,rfl⟩)
 all_goals
  go_wp2_with fail;go_end0;exact⟨rfl,aQ.drew _⟩
def WM(x:List UInt8)(h:CP fp fb nms cb F w code seen)(y:seen.length<=1000000):
 Calls prog 236 #[.pointer (some ⟨cb,0,none⟩),.string (bs x)] w fun e a=>e=.returned (.tuple #[])/\CP fp fb nms cb (fun k=>F k\/k=w.heap.size) a code (x::seen)/\FB cb w a:=by
 have o:=h.lt;obtain⟨u,s,I,d,⟨C,l,D⟩,v,z⟩:=h.blk;obtain⟨p,rfl⟩:=v.form;have G:CP fp fb nms cb F w.drew code seen:=h.grow (aQ.drew w).below;refine(J6 w cb seen.length x p o (aA d rfl) (aE d) (PQ G y)).mono ?_;rintro e a ⟨H,f⟩;generalize j:(w.setCell ⟨cb,2,none⟩ (.pointer (some ⟨w.heap.size,0,none⟩))).alloc (.cells #[.string (bs x),.int .i64 seen.length,.pointer p] 253)=W at f
 have q:∀k,k<w.heap.size->k≠cb->a.heap[k]?=w.heap[k]?:=fun k d l=>by
  rw[f.heap,<-j,aA_ _ _ _ (by simpa using d),ax_ _ _ _ _ l]
 have m:a.heap[cb]?=some (.cells #[u,s,.pointer (some ⟨w.heap.size,0,none⟩)] 276 (0,0)):=by
  rw[f.heap,<-j,aA_ _ _ _ (by simpa using o)];exact aS d
 have n:a.heap[w.heap.size]?=some (.cells #[.string (bs x),.int .i64 seen.length,.pointer p] 253 (0,0)):=by
  rw[f.heap,<-j];exact aM _ _ (by simp) _
 have E:a.heap.size=w.heap.size+1:=by rw[f.heap,<-j];simp
 have i:kW cb a=kW cb w:=by rw[iX m,iX d]
 have r:∀b,F b->a.heap[b]?=w.heap[b]?:=fun b t=>q b (h.fix b t).1 (h.fix b t).2.1
 have g:=fun k (e:s.ownBlock=some k)=>l.lt k e
 refine⟨H,⟨⟨u,s,_,m,⟨C,aY l fun k e=>q k (g k e).2 (by have:=(g k e).1;omega),D.keep r fun _ h=>av_ h⟩,⟨w.heap.size,.pointer p,rfl,as_ rfl,n,eE.keep r (fun _ h=>av_ h) v⟩,z.keep r (fun _ h=>av_ h) (by omega)⟩,fun k c=>?_⟩,⟨?_,fun k d l _=>q k d l,fun k e=>av_ (by rw[<-i];exact e)⟩⟩
 ·rcases c with c|rfl
  ·obtain⟨J,B,A⟩:=h.fix k c;exact⟨by omega,B,by rw[i];exact A⟩
  ·refine⟨by omega,by omega,fun e=>?_⟩
   rw[i,iX d] at e;have:=(g _ e).2;omega
 ·refine⟨by rw[f.os,<-j];rfl,by rw[f.tape,<-j];rfl,by rw[f.output,<-j];rfl,by omega,fun k c=>q k (by omega) (by omega)⟩
def I9{x y:List UInt8}{l:List (List UInt8)}(h:y∈x::l)(a:x≠y):y∈l/\dK (x::l) y=dK l y:=by
 refine⟨?_,by rw[dK,if_neg a]⟩
 rcases aG_.1 h with e|e
 ·exact absurd e.symm a
 ·exact e
def NO(a:List UInt8)(h:CP fp fb nms cb F w code seen)(q:a∈seen)(_hn:seen.length<=1000000):
 Calls prog 286 #[.pointer (some ⟨cb,0,none⟩),.string (bs a)] w fun e t=>e=.returned (.int .i64 (dK seen a))/\t=w:=by
 obtain⟨I,L,r,k, -,m, -⟩:=h.blk;have H:=aD k;have M:w.cell? ⟨cb,2,none⟩=some r:=aA k rfl;have n:Hid (eE F w r seen/\a∈seen):=⟨m,q⟩;obtain⟨p,rfl⟩:=m.form;clear h k m q;go_enter Tryz.func286,Tryz.ntmps286;go_wp2_with fail;go_loopg [5] seen.length (fun gk v wr=>∃l,l.length=gk/\eE F w v l/\a∈l/\dK l a=dK seen a/\wr=w)
 case atStart=>exact⟨seen,rfl,n.out.1,n.out.2,rfl,rfl⟩
 case round=>
  obtain⟨l,i,D,g,f,rfl⟩:=hrel;cases l with
  |nil=>cases g
  |cons x l=>
   obtain⟨b,o,rfl,E,c,d⟩:=D;obtain⟨s,rfl⟩:=d.form;have G:wr.cell? ⟨b,0,none⟩=some (.string (bs x)):=aA c rfl;have K:wr.cell? ⟨b,1,none⟩=some (.int .i64 l.length):=aA c rfl;have J:wr.cell? ⟨b,2,none⟩=some (.pointer s):=aA c rfl;have y:=aD c;by_cases j:x=a
   ·subst j;have u:dK (x::l) x=l.length:=by rw[dK,if_pos rfl]
    rw[u] at f;clear c d g;go_wp2_with fail;go_ret;exact⟨by rw[<-f];rfl,rfl⟩
   ·obtain⟨B,A⟩:=I9 g j;have z:((bs x).toList==(bs a).toList)=false:=by rw[cA,cA];simpa using j
    have C:Hid (eE F wr (.pointer s) l):=d;rw[A] at f;clear c d g;go_wp2_with fail;go_roundg l.length
    case measure=>simp at i;omega
    case rel=>exact⟨l,rfl,C.out,B,f,rfl⟩
def tB(a:List UInt8)(h:CP fp fb nms cb F w code seen)(v:a∈nms)(K:nms.length<=1000000):
 Calls prog 174 #[.pointer (some ⟨cb,0,none⟩),.string (bs a)] w fun e z=>e=.returned (fp (nms.findIdx fun x=>x==a))/\z=w:=by
 obtain⟨N,Q,O,r, -, -,A⟩:=h.blk;rcases A with ⟨rfl,_⟩|⟨g,s,rfl,B,t,H,b⟩
 ·cases v
 have M:=aD r;have P:w.cell? ⟨cb,0,none⟩=some (.slice (some ⟨g,0,none⟩) nms.length s):=aA r rfl;have u:=aB b;clear h r b;go_enter Tryz.func174,Tryz.ntmps174;go_wp2_with fail;go_loopg [6,12] nms.length (fun gk _ i wr=>∃j:Nat,j+gk=nms.length/\i=.int .i64 j/\j<=nms.findIdx (fun x=>x==a)/\wr=w)
 case atStart=>exact⟨0,by omega,rfl,a9_ _,rfl⟩
 case round=>
  obtain⟨j,J,rfl,d,rfl⟩:=hrel;have o:nms.findIdx (fun x=>x==a)<nms.length:=List.findIdx_lt_length_of_exists ⟨a,v,by simp⟩
  have q:j<nms.length:=by omega
  obtain⟨m,rfl⟩:∃m,gk=m+1:=⟨gk-1,by omega⟩
  obtain⟨I,k,L,x,n⟩:=u.out j q;rw[k] at I;have C:wr.cell? ⟨fb j,0,none⟩=some (.string (bs nms[j])):=aA n rfl;have E:=aD n;have S:(0:Int)<=(j:Int):=by omega
  have T:(j:Int)<(nms.length:Int):=by omega
  by_cases l:nms[j]=a
  ·have p:nms.findIdx (fun x=>x==a)=j:=by
    refine Nat.le_antisymm (Nat.not_lt.1 fun f=>?_) d
    have:=List.not_of_lt_findIdx f;simp[l] at this
   have D:=aB k;rw[l] at C;clear n k u;go_wp2_with fail;go_ret;exact⟨by rw[p,D.out];rfl,rfl⟩
  ·have G:((bs nms[j]).toList==(bs a).toList)=false:=by rw[cA,cA];simpa using l
   have c:j+1<=nms.findIdx (fun x=>x==a):=by
    rcases bm_ d with e|e
    ·have:=bN_ (w:=o);simp only[<-e] at this;simp at this;exact absurd this l
    ·exact e
   generalize nms[j]=y at*;clear n k;go_wp2_with fail;go_roundg m
   case measure=>omega
   case rel=>exact⟨j+1,by omega,by go_num,c,rfl⟩
end
def wX(v:Value)(w:World):(typeAssert (.iface 397 v) 122 397 true).run prog w=.ok (.tuple #[v,.bool true]) w:=by kernel_rfl
def wW(v:Value)(w:World):(typeAssert (.iface 398 v) 122 397 true).run prog w=.ok (.tuple #[.agg #[.int .i64 0,.int .i64 0],.bool false]) w:=by kernel_rfl
def wV(v:Value)(w:World):(typeAssert (.iface 398 v) 122 398 true).run prog w=.ok (.tuple #[v,.bool true]) w:=by kernel_rfl
def DQ(v:Value)(w:World):(typeAssert (.iface 400 v) 122 397 true).run prog w=.ok (.tuple #[.agg #[.int .i64 0,.int .i64 0],.bool false]) w:=by kernel_rfl
def DP(v:Value)(w:World):(typeAssert (.iface 400 v) 122 398 true).run prog w=.ok (.tuple #[.agg #[.int .i64 0,.string ⟨#[]⟩],.bool false]) w:=by kernel_rfl
def LT(v:Value)(w:World):(typeAssert (.iface 400 v) 122 400 true).run prog w=.ok (.tuple #[v,.bool true]) w:=by kernel_rfl
def tX(v:Value)(w:World):(typeAssert (.iface 344 v) 122 397 true).run prog w=.ok (.tuple #[.agg #[.int .i64 0,.int .i64 0],.bool false]) w:=by kernel_rfl
def tW(v:Value)(w:World):(typeAssert (.iface 344 v) 122 398 true).run prog w=.ok (.tuple #[.agg #[.int .i64 0,.string ⟨#[]⟩],.bool false]) w:=by kernel_rfl
def wU(v:Value)(w:World):(typeAssert (.iface 344 v) 122 400 true).run prog w=.ok (.tuple #[.agg #[.int .i64 0,.bool false],.bool false]) w:=by kernel_rfl
def rA(v:Value)(w:World):(typeAssert (.iface 344 v) 122 344 true).run prog w=.ok (.tuple #[v,.bool true]) w:=by kernel_rfl
def DK(v:Value)(w:World):(typeAssert (.iface 346 v) 122 397 true).run prog w=.ok (.tuple #[.agg #[.int .i64 0,.int .i64 0],.bool false]) w:=by kernel_rfl
def DJ(v:Value)(w:World):(typeAssert (.iface 346 v) 122 398 true).run prog w=.ok (.tuple #[.agg #[.int .i64 0,.string ⟨#[]⟩],.bool false]) w:=by kernel_rfl
def LP(v:Value)(w:World):(typeAssert (.iface 346 v) 122 400 true).run prog w=.ok (.tuple #[.agg #[.int .i64 0,.bool false],.bool false]) w:=by kernel_rfl
def wY(v:Value)(w:World):(typeAssert (.iface 346 v) 122 344 true).run prog w=.ok (.tuple #[.agg #[.int .i64 0,.string ⟨#[]⟩],.bool false]) w:=by kernel_rfl
def LO(v:Value)(w:World):(typeAssert (.iface 346 v) 122 346 true).run prog w=.ok (.tuple #[v,.bool true]) w:=by kernel_rfl
def zY(v:Value)(w:World):(typeAssert (.iface 348 v) 122 397 true).run prog w=.ok (.tuple #[.agg #[.int .i64 0,.int .i64 0],.bool false]) w:=by kernel_rfl
def zX(v:Value)(w:World):(typeAssert (.iface 348 v) 122 398 true).run prog w=.ok (.tuple #[.agg #[.int .i64 0,.string ⟨#[]⟩],.bool false]) w:=by kernel_rfl
def FW(v:Value)(w:World):(typeAssert (.iface 348 v) 122 400 true).run prog w=.ok (.tuple #[.agg #[.int .i64 0,.bool false],.bool false]) w:=by kernel_rfl
def vE(v:Value)(w:World):(typeAssert (.iface 348 v) 122 344 true).run prog w=.ok (.tuple #[.agg #[.int .i64 0,.string ⟨#[]⟩],.bool false]) w:=by kernel_rfl
def FU(v:Value)(w:World):(typeAssert (.iface 348 v) 122 346 true).run prog w=.ok (.tuple #[.agg #[.int .i64 0,.slice none 0 0],.bool false]) w:=by kernel_rfl
def DL(v:Value)(w:World):(typeAssert (.iface 348 v) 122 348 true).run prog w=.ok (.tuple #[v,.bool true]) w:=by kernel_rfl
def zW(v:Value)(w:World):(typeAssert (.iface 350 v) 122 397 true).run prog w=.ok (.tuple #[.agg #[.int .i64 0,.int .i64 0],.bool false]) w:=by kernel_rfl
def zV(v:Value)(w:World):(typeAssert (.iface 350 v) 122 398 true).run prog w=.ok (.tuple #[.agg #[.int .i64 0,.string ⟨#[]⟩],.bool false]) w:=by kernel_rfl
def FT(v:Value)(w:World):(typeAssert (.iface 350 v) 122 400 true).run prog w=.ok (.tuple #[.agg #[.int .i64 0,.bool false],.bool false]) w:=by kernel_rfl
def vD(v:Value)(w:World):(typeAssert (.iface 350 v) 122 344 true).run prog w=.ok (.tuple #[.agg #[.int .i64 0,.string ⟨#[]⟩],.bool false]) w:=by kernel_rfl
def FR(v:Value)(w:World):(typeAssert (.iface 350 v) 122 346 true).run prog w=.ok (.tuple #[.agg #[.int .i64 0,.slice none 0 0],.bool false]) w:=by kernel_rfl
def DI(v:Value)(w:World):(typeAssert (.iface 350 v) 122 348 true).run prog w=.ok (.tuple #[.agg #[.int .i64 0,.nilIface,.nilIface],.bool false]) w:=by kernel_rfl
def DH(v:Value)(w:World):(typeAssert (.iface 350 v) 122 350 true).run prog w=.ok (.tuple #[v,.bool true]) w:=by kernel_rfl
def xB(v:Value)(w:World):(typeAssert (.iface 352 v) 122 397 true).run prog w=.ok (.tuple #[.agg #[.int .i64 0,.int .i64 0],.bool false]) w:=by kernel_rfl
def xA(v:Value)(w:World):(typeAssert (.iface 352 v) 122 398 true).run prog w=.ok (.tuple #[.agg #[.int .i64 0,.string ⟨#[]⟩],.bool false]) w:=by kernel_rfl
def DS(v:Value)(w:World):(typeAssert (.iface 352 v) 122 400 true).run prog w=.ok (.tuple #[.agg #[.int .i64 0,.bool false],.bool false]) w:=by kernel_rfl
def tY(v:Value)(w:World):(typeAssert (.iface 352 v) 122 344 true).run prog w=.ok (.tuple #[.agg #[.int .i64 0,.string ⟨#[]⟩],.bool false]) w:=by kernel_rfl
def DR(v:Value)(w:World):(typeAssert (.iface 352 v) 122 346 true).run prog w=.ok (.tuple #[.agg #[.int .i64 0,.slice none 0 0],.bool false]) w:=by kernel_rfl
def AA(v:Value)(w:World):(typeAssert (.iface 352 v) 122 348 true).run prog w=.ok (.tuple #[.agg #[.int .i64 0,.nilIface,.nilIface],.bool false]) w:=by kernel_rfl
def zZ(v:Value)(w:World):(typeAssert (.iface 352 v) 122 350 true).run prog w=.ok (.tuple #[.agg #[.int .i64 0,.string ⟨#[]⟩,.nilIface],.bool false]) w:=by kernel_rfl
def xC(v:Value)(w:World):(typeAssert (.iface 352 v) 122 352 true).run prog w=.ok (.tuple #[v,.bool true]) w:=by kernel_rfl
def DN(v:Value)(w:World):(typeAssert (.iface 341 v) 122 397 true).run prog w=.ok (.tuple #[.agg #[.int .i64 0,.int .i64 0],.bool false]) w:=by kernel_rfl
def DM(v:Value)(w:World):(typeAssert (.iface 341 v) 122 398 true).run prog w=.ok (.tuple #[.agg #[.int .i64 0,.string ⟨#[]⟩],.bool false]) w:=by kernel_rfl
def LS(v:Value)(w:World):(typeAssert (.iface 341 v) 122 400 true).run prog w=.ok (.tuple #[.agg #[.int .i64 0,.bool false],.bool false]) w:=by kernel_rfl
def wZ(v:Value)(w:World):(typeAssert (.iface 341 v) 122 344 true).run prog w=.ok (.tuple #[.agg #[.int .i64 0,.string ⟨#[]⟩],.bool false]) w:=by kernel_rfl
def LQ(v:Value)(w:World):(typeAssert (.iface 341 v) 122 346 true).run prog w=.ok (.tuple #[.agg #[.int .i64 0,.slice none 0 0],.bool false]) w:=by kernel_rfl
def FY(v:Value)(w:World):(typeAssert (.iface 341 v) 122 348 true).run prog w=.ok (.tuple #[.agg #[.int .i64 0,.nilIface,.nilIface],.bool false]) w:=by kernel_rfl
def FX(v:Value)(w:World):(typeAssert (.iface 341 v) 122 350 true).run prog w=.ok (.tuple #[.agg #[.int .i64 0,.string ⟨#[]⟩,.nilIface],.bool false]) w:=by kernel_rfl
def DO(v:Value)(w:World):(typeAssert (.iface 341 v) 122 352 true).run prog w=.ok (.tuple #[.agg #[.int .i64 0,.string ⟨#[]⟩,.nilIface,.nilIface],.bool false]) w:=by kernel_rfl
def LR(v:Value)(w:World):(typeAssert (.iface 341 v) 122 341 true).run prog w=.ok (.tuple #[v,.bool true]) w:=by kernel_rfl
def sR(w:World)(cb:Nat)(l k:Int)(P:World->Prop)
 (c:Hid (Calls prog 238 #[.pointer (some ⟨cb,0,none⟩),.iface 361 (.agg #[.iface 315 (.int .i64 k)])] (w.alloc (.cells #[.int .i64 l,.int .i64 k] 397)) fun e a=>(∃k:Nat,e=.returned (.int .i64 k))/\P a)):
 Calls prog 233 #[.pointer (some ⟨cb,0,none⟩),.iface 397 (.agg #[.int .i64 l,.int .i64 k])] w fun e a=>e=.returned (.tuple #[])/\P a:=by
 have f:=wX;go_enter Tryz.func233,Tryz.ntmps233;go_wp2_with fail;refine c.out.mono ?_;rintro e d ⟨⟨m,rfl⟩,b⟩;go_wp2_with fail;go_end0;exact⟨rfl,b⟩
def FO(w:World)(cb:Nat)(l:Int)(s:ByteArray)(P:World->Prop)
 (c:Hid (Calls prog 238 #[.pointer (some ⟨cb,0,none⟩),.iface 361 (.agg #[.iface 318 (.string s)])] (w.alloc (.cells #[.int .i64 l,.string s] 398)) fun e a=>(∃k:Nat,e=.returned (.int .i64 k))/\P a)):
 Calls prog 233 #[.pointer (some ⟨cb,0,none⟩),.iface 398 (.agg #[.int .i64 l,.string s])] w fun e a=>e=.returned (.tuple #[])/\P a:=by
 have g:=wW;have f:=wV;go_enter Tryz.func233,Tryz.ntmps233;go_wp2_with fail;refine c.out.mono ?_;rintro e d ⟨⟨m,rfl⟩,b⟩;go_wp2_with fail;go_end0;exact⟨rfl,b⟩
def QC(w:World)(cb:Nat)(l:Int)(b:Bool)(P:World->Prop)
 (d:Hid (Calls prog 238 #[.pointer (some ⟨cb,0,none⟩),.iface 361 (.agg #[.iface 316 (.bool b)])] (w.alloc (.cells #[.int .i64 l,.bool b] 400)) fun e a=>(∃k:Nat,e=.returned (.int .i64 k))/\P a)):
 Calls prog 233 #[.pointer (some ⟨cb,0,none⟩),.iface 400 (.agg #[.int .i64 l,.bool b])] w fun e a=>e=.returned (.tuple #[])/\P a:=by
 have h:=DQ;have g:=DP;have i:=LT;go_enter Tryz.func233,Tryz.ntmps233;go_wp2_with fail;refine d.out.mono ?_;rintro e f ⟨⟨m,rfl⟩,c⟩;go_wp2_with fail;go_end0;exact⟨rfl,c⟩
def zU(w:World)(cb:Nat)(l:Int)(s:ByteArray)(k:Nat)(P:World->Prop)
 (c:Hid (Calls prog 286 #[.pointer (some ⟨cb,0,none⟩),.string s] (w.alloc (.cells #[.int .i64 l,.string s] 344)) fun e a=>e=.returned (.int .i64 k)/\a=w.alloc (.cells #[.int .i64 l,.string s] 344)))
 (d:Hid (Calls prog 238 #[.pointer (some ⟨cb,0,none⟩),.iface 402 (.agg #[.int .i64 k])] (w.alloc (.cells #[.int .i64 l,.string s] 344)) fun e a=>(∃k:Nat,e=.returned (.int .i64 k))/\P a)):
 Calls prog 233 #[.pointer (some ⟨cb,0,none⟩),.iface 344 (.agg #[.int .i64 l,.string s])] w fun e a=>e=.returned (.tuple #[])/\P a:=by
 have j:=tX;have g:=tW;have n:=wU;have i:=rA;go_enter Tryz.func233,Tryz.ntmps233;go_wp2_with fail;refine c.out.mono ?_;rintro e f ⟨rfl,rfl⟩;go_wp2_with fail;refine d.out.mono ?_;rintro e h ⟨⟨m,rfl⟩,b⟩;go_wp2_with fail;go_end0;exact⟨rfl,b⟩
def QB(w:World)(cb n c:Nat)(l:Int)(x:Option Addr)(P Q:World->Prop)
 (f:Hid (Calls prog 287 #[.pointer (some ⟨cb,0,none⟩),.slice x n c] (w.alloc (.cells #[.int .i64 l,.slice x n c] 346)) fun e a=>e=.returned (.tuple #[])/\Q a))
 (i:Hid (∀W,Q W->W.cell? ⟨w.heap.size,1,none⟩=some (.slice x n c)/\w.heap.size<W.heap.size))
 (h:Hid (∀W,Q W->Calls prog 238 #[.pointer (some ⟨cb,0,none⟩),.iface 404 (.agg #[.int .i64 n])] W fun e a=>(∃k:Nat,e=.returned (.int .i64 k))/\P a)):
 Calls prog 233 #[.pointer (some ⟨cb,0,none⟩),.iface 346 (.agg #[.int .i64 l,.slice x n c])] w fun e a=>e=.returned (.tuple #[])/\P a:=by
 have v:=DK;have t:=DJ;have s:=LP;have q:=wY;have j:=LO;go_enter Tryz.func233,Tryz.ntmps233;go_wp2_with fail;refine f.out.mono ?_;rintro e u ⟨rfl,d⟩;obtain⟨o,r⟩:=i.out _ d;have b:=aB (h.out _ d);clear d;go_wp2_with fail;refine b.out.mono ?_;rintro e p ⟨⟨m,rfl⟩,g⟩;go_wp2_with fail;go_end0;exact⟨rfl,g⟩
def LL(w:World)(cb:Nat)(l:Int)(f c:TypeId)(g b:Value)(P Q R:World->Prop)
 (n:Hid (Calls prog 233 #[.pointer (some ⟨cb,0,none⟩),.iface f g] (w.alloc (.cells #[.int .i64 l,.iface f g,.iface c b] 348)) fun e a=>e=.returned (.tuple #[])/\Q a))
 (q:Hid (∀W,Q W->W.cell? ⟨w.heap.size,2,none⟩=some (.iface c b)/\w.heap.size<W.heap.size))
 (r:Hid (∀W,Q W->Calls prog 233 #[.pointer (some ⟨cb,0,none⟩),.iface c b] W fun e a=>e=.returned (.tuple #[])/\R a))
 (p:Hid (∀W,R W->Calls prog 238 #[.pointer (some ⟨cb,0,none⟩),.iface 405 (.agg #[])] W fun e a=>(∃k:Nat,e=.returned (.int .i64 k))/\P a)):
 Calls prog 233 #[.pointer (some ⟨cb,0,none⟩),.iface 348 (.agg #[.int .i64 l,.iface f g,.iface c b])] w fun e a=>e=.returned (.tuple #[])/\P a:=by
 have C:=zY;have A:=zX;have z:=FW;have x:=vE;have s:=FU;have D:=DL;go_enter Tryz.func233,Tryz.ntmps233;go_wp2_with fail;refine n.out.mono ?_;rintro e B ⟨rfl,i⟩;obtain⟨t,y⟩:=q.out _ i;have d:=aB (r.out _ i);clear i;go_wp2_with fail;refine d.out.mono ?_;rintro e v ⟨rfl,j⟩;have h:=aB (p.out _ j);clear j;go_wp2_with fail;refine h.out.mono ?_;rintro e u ⟨⟨m,rfl⟩,o⟩;go_wp2_with fail;go_end0;exact⟨rfl,o⟩
def LK(w:World)(cb:Nat)(l:Int)(op:ByteArray)(b:TypeId)(c:Value)(P Q:World->Prop)
 (g:Hid (Calls prog 233 #[.pointer (some ⟨cb,0,none⟩),.iface b c] (w.alloc (.cells #[.int .i64 l,.string op,.iface b c] 350)) fun e a=>e=.returned (.tuple #[])/\Q a))
 (j:Hid (∀W,Q W->W.cell? ⟨w.heap.size,1,none⟩=some (.string op)/\w.heap.size<W.heap.size))
 (i:Hid (∀W,Q W->Calls prog 238 #[.pointer (some ⟨cb,0,none⟩),.iface 407 (.agg #[.string op])] W fun e a=>(∃k:Nat,e=.returned (.int .i64 k))/\P a)):
 Calls prog 233 #[.pointer (some ⟨cb,0,none⟩),.iface 350 (.agg #[.int .i64 l,.string op,.iface b c])] w fun e a=>e=.returned (.tuple #[])/\P a:=by
 have v:=zW;have t:=zV;have s:=FT;have q:=vD;have n:=FR;have x:=DI;have y:=DH;go_enter Tryz.func233,Tryz.ntmps233;go_wp2_with fail;refine g.out.mono ?_;rintro e u ⟨rfl,f⟩;obtain⟨o,r⟩:=j.out _ f;have d:=aB (i.out _ f);clear f;go_wp2_with fail;refine d.out.mono ?_;rintro e p ⟨⟨m,rfl⟩,h⟩;go_wp2_with fail;go_end0;exact⟨rfl,h⟩
def sS(w:World)(cb:Nat)(l:Int)(op:ByteArray)(b f:TypeId)(d c:Value)(P:World->Prop)
 (g:Hid (Calls prog 288 #[.pointer (some ⟨cb,0,none⟩),.agg #[.int .i64 l,.string op,.iface b d,.iface f c]] (w.alloc (.cells #[.int .i64 l,.string op,.iface b d,.iface f c] 352)) fun e a=>e=.returned (.tuple #[])/\P a)):
 Calls prog 233 #[.pointer (some ⟨cb,0,none⟩),.iface 352 (.agg #[.int .i64 l,.string op,.iface b d,.iface f c])] w fun e a=>e=.returned (.tuple #[])/\P a:=by
 have p:=xB;have m:=xA;have k:=DS;have j:=tY;have i:=DR;have q:=AA;have r:=zZ;have n:=xC;go_enter Tryz.func233,Tryz.ntmps233;go_wp2_with fail;refine g.out.mono ?_;rintro e o ⟨rfl,h⟩;go_wp2_with fail;go_end0;exact⟨rfl,h⟩
def qX(w:World)(cb n c:Nat)(l:Int)(s:ByteArray)(x:Option Addr)(P:World->Prop)
 (b:Hid (Calls prog 289 #[.pointer (some ⟨cb,0,none⟩),.agg #[.int .i64 l,.string s,.slice x n c]] (w.alloc (.cells #[.int .i64 l,.string s,.slice x n c] 341)) fun e a=>e=.returned (.tuple #[])/\P a)):
 Calls prog 233 #[.pointer (some ⟨cb,0,none⟩),.iface 341 (.agg #[.int .i64 l,.string s,.slice x n c])] w fun e a=>e=.returned (.tuple #[])/\P a:=by
 have o:=DN;have i:=DM;have h:=LS;have g:=wZ;have f:=LQ;have p:=FY;have q:=FX;have j:=DO;have k:=LR;go_enter Tryz.func233,Tryz.ntmps233;go_wp2_with fail;refine b.out.mono ?_;rintro e m ⟨rfl,d⟩;go_wp2_with fail;go_end0;exact⟨rfl,d⟩
def UY(w:World)(cb g n k:Nat)(C:Nat->World->Prop)(u:n<=1000000)(l:C 0 w)
 (q:Hid (∀j W,C j W->j<n->g<W.heap.size/\∃t z,W.cell? ⟨g,j,none⟩=some (.iface t z)/\Calls prog 233 #[.pointer (some ⟨cb,0,none⟩),.iface t z] W fun e c=>e=.returned (.tuple #[])/\C (j+1) c)):
 Calls prog 287 #[.pointer (some ⟨cb,0,none⟩),.slice (some ⟨g,0,none⟩) n k] w fun e c=>e=.returned (.tuple #[])/\C n c:=by
 have p:=aB l;clear l;go_enter Tryz.func287,Tryz.ntmps287;go_wp2_with fail;go_loopg [5,8] n (fun gk _ i wr=>∃j:Nat,j+gk=n/\i=.int .i64 j/\C j wr)
 case atStart=>exact⟨0,by omega,rfl,p.out⟩
 case round=>
  obtain⟨j,s,rfl,b⟩:=hrel;by_cases h:j<n
  ·obtain⟨m,rfl⟩:∃m,gk=m+1:=⟨gk-1,by omega⟩
   obtain⟨B,t,z,v,a⟩:=q.out _ _ b h;have o:=aB a;have A:(0:Int)<=(j:Int):=by omega
   have x:(j:Int)<(n:Int):=by omega
   clear b a;go_wp2_with fail;refine o.out.mono ?_;rintro e y ⟨rfl,r⟩;go_wp2_with fail;go_roundg m
   case measure=>omega
   case rel=>exact⟨j+1,by omega,by go_num,r⟩
  ·have f:j=n:=by omega
   subst f;have d:=aB b;clear b;go_wp2_with fail;go_end0;exact⟨rfl,d.out⟩
def B8(w:World)(cb:Nat):Calls prog 287 #[.pointer (some ⟨cb,0,none⟩),.slice none 0 0] w fun e a=>e=.returned (.tuple #[])/\a=w:=by
 go_enter Tryz.func287,Tryz.ntmps287;go_wp2_with fail;go_loopg [5,8] 0 (fun _ _ i wr=>i=.int .i64 0/\wr=w)
 case atStart=>exact⟨rfl,rfl⟩
 case round=>
  obtain⟨rfl,rfl⟩:=hrel;go_wp2_with fail;go_end0;exact⟨rfl,rfl⟩
def RH(w:World)(cb n c:Nat)(l:Int)(x:Option Addr)(P Q:World->Prop)
 (f:Hid (Calls prog 287 #[.pointer (some ⟨cb,0,none⟩),.slice x n c] (w.alloc (.cells #[.int .i64 l,.string (bs [108,101,110]),.slice x n c] 341)) fun e a=>e=.returned (.tuple #[])/\Q a))
 (i:Hid (∀W,Q W->W.cell? ⟨w.heap.size,1,none⟩=some (.string (bs [108,101,110]))/\w.heap.size<W.heap.size))
 (h:Hid (∀W,Q W->Calls prog 238 #[.pointer (some ⟨cb,0,none⟩),.iface 439 (.agg #[])] W fun e a=>(∃k:Nat,e=.returned (.int .i64 k))/\P a)):
 Calls prog 289 #[.pointer (some ⟨cb,0,none⟩),.agg #[.int .i64 l,.string (bs [108,101,110]),.slice x n c]] w fun e a=>e=.returned (.tuple #[])/\P a:=by
 have s:((bs [108,101,110]).toList==[108,101,110])=true:=by rw[cA];rfl
 generalize bs [108,101,110]=q at*;go_enter Tryz.func289,Tryz.ntmps289;go_wp2_with fail;refine f.out.mono ?_;rintro e r ⟨rfl,d⟩;obtain⟨j,p⟩:=i.out _ d;have b:=aB (h.out _ d);clear d;go_wp2_with fail;refine b.out.mono ?_;rintro e o ⟨⟨m,rfl⟩,g⟩;go_wp2_with fail;go_end0;exact⟨rfl,g⟩
def JB(w:World)(cb n c:Nat)(l:Int)(x:Option Addr)(P Q:World->Prop)
 (f:Hid (Calls prog 287 #[.pointer (some ⟨cb,0,none⟩),.slice x n c] (w.alloc (.cells #[.int .i64 l,.string (bs [114,101,97,100]),.slice x n c] 341)) fun e a=>e=.returned (.tuple #[])/\Q a))
 (i:Hid (∀W,Q W->W.cell? ⟨w.heap.size,1,none⟩=some (.string (bs [114,101,97,100]))/\w.heap.size<W.heap.size))
 (h:Hid (∀W,Q W->Calls prog 238 #[.pointer (some ⟨cb,0,none⟩),.iface 440 (.agg #[])] W fun e a=>(∃k:Nat,e=.returned (.int .i64 k))/\P a)):
 Calls prog 289 #[.pointer (some ⟨cb,0,none⟩),.agg #[.int .i64 l,.string (bs [114,101,97,100]),.slice x n c]] w fun e a=>e=.returned (.tuple #[])/\P a:=by
 have t:((bs [114,101,97,100]).toList==[108,101,110])=false:=by rw[cA];rfl
 have p:((bs [114,101,97,100]).toList==[114,101,97,100])=true:=by rw[cA];rfl
 generalize bs [114,101,97,100]=r at*;go_enter Tryz.func289,Tryz.ntmps289;go_wp2_with fail;refine f.out.mono ?_;rintro e s ⟨rfl,d⟩;obtain⟨j,q⟩:=i.out _ d;have b:=aB (h.out _ d);clear d;go_wp2_with fail;refine b.out.mono ?_;rintro e o ⟨⟨m,rfl⟩,g⟩;go_wp2_with fail;go_end0;exact⟨rfl,g⟩
def DX(w:World)(cb n c f:Nat)(l:Int)(tx:List UInt8)(x:Option Addr)(P Q:World->Prop)(d:tx≠[108,101,110])(g:tx≠[114,101,97,100])
 (j:Hid (Calls prog 287 #[.pointer (some ⟨cb,0,none⟩),.slice x n c] (w.alloc (.cells #[.int .i64 l,.string (bs tx),.slice x n c] 341)) fun e a=>e=.returned (.tuple #[])/\Q a))
 (q:Hid (∀W,Q W->W.cell? ⟨w.heap.size,1,none⟩=some (.string (bs tx))/\W.cell? ⟨w.heap.size,2,none⟩=some (.slice x n c)/\w.heap.size<W.heap.size))
 (i:Hid (∀W b,Q W->aQ W b->Calls prog 174 #[.pointer (some ⟨cb,0,none⟩),.string (bs tx)] b fun e a=>e=.returned (.pointer (some ⟨f,0,none⟩))/\a=b))
 (p:Hid (∀W b,Q W->aQ W b->Calls prog 238 #[.pointer (some ⟨cb,0,none⟩),.iface 442 (.agg #[.pointer (some ⟨f,0,none⟩),.int .i64 n])] b fun e a=>(∃k:Nat,e=.returned (.int .i64 k))/\P a)):
 Calls prog 289 #[.pointer (some ⟨cb,0,none⟩),.agg #[.int .i64 l,.string (bs tx),.slice x n c]] w fun e a=>e=.returned (.tuple #[])/\P a:=by
 have A:((bs tx).toList==[108,101,110])=false:=by rw[cA];simpa using d
 have v:((bs tx).toList==[114,101,97,100])=false:=by rw[cA];simpa using g
 clear d g;go_enter Tryz.func289,Tryz.ntmps289;go_wp2_with fail;refine j.out.mono ?_;rintro e z ⟨rfl,d⟩;obtain⟨s,y,r⟩:=q.out _ d;have h:=aB d;clear d;go_wp2_with fail;go_region_law (go_simp;first|(go_at_call 174;refine(i.out _ _ h.out (aQ.drew _)).mono ?_;rintro e u ⟨rfl,rfl⟩)|(go_at_call 238;refine(p.out _ _ h.out (aQ.drew _)).mono ?_;rintro e t ⟨⟨m,rfl⟩,o⟩))
 all_goals
  go_wp2_with fail;go_end0;exact⟨rfl,o⟩
def MD(w:World)(cb:Nat)(l:Int)(op:List UInt8)(h f:TypeId)(j d:Value)(P Q R:World->Prop)(c:op≠[38,38])(b:op≠[124,124])
 (o:Hid (Calls prog 233 #[.pointer (some ⟨cb,0,none⟩),.iface h j] (w.alloc (.cells #[.int .i64 l,.string (bs op),.iface h j,.iface f d] 352)) fun e a=>e=.returned (.tuple #[])/\Q a))
 (r:Hid (∀W,Q W->W.cell? ⟨w.heap.size,1,none⟩=some (.string (bs op))/\W.cell? ⟨w.heap.size,3,none⟩=some (.iface f d)/\w.heap.size<W.heap.size))
 (s:Hid (∀W,Q W->Calls prog 233 #[.pointer (some ⟨cb,0,none⟩),.iface f d] W fun e a=>e=.returned (.tuple #[])/\R a))
 (i:Hid (∀W,R W->W.cell? ⟨w.heap.size,1,none⟩=some (.string (bs op))/\w.heap.size<W.heap.size))
 (q:Hid (∀W,R W->Calls prog 238 #[.pointer (some ⟨cb,0,none⟩),.iface 435 (.agg #[.string (bs op)])] W fun e a=>(∃k:Nat,e=.returned (.int .i64 k))/\P a)):
 Calls prog 288 #[.pointer (some ⟨cb,0,none⟩),.agg #[.int .i64 l,.string (bs op),.iface h j,.iface f d]] w fun e a=>e=.returned (.tuple #[])/\P a:=by
 have D:((bs op).toList==[38,38])=false:=by rw[cA];simpa using c
 have y:((bs op).toList==[124,124])=false:=by rw[cA];simpa using b
 clear c b;generalize bs op=E at*;go_enter Tryz.func288,Tryz.ntmps288;go_wp2_with fail;refine o.out.mono ?_;rintro e C ⟨rfl,c⟩;obtain⟨u,z,t⟩:=r.out _ c;have g:=aB (s.out _ c);clear c;go_wp2_with fail;refine g.out.mono ?_;rintro e x ⟨rfl,b⟩;obtain⟨B,A⟩:=i.out _ b;have n:=aB (q.out _ b);clear b;go_wp2_with fail;refine n.out.mono ?_;rintro e v ⟨⟨m,rfl⟩,p⟩;go_wp2_with fail;exact⟨rfl,_,results_none (by rfl) _ _ _,rfl,p⟩
def MC(w:World)(cb k:Nat)(l:Int)(b:Bool)(op:List UInt8)(q j:TypeId)(s i:Value)(P Q y R S:World->Prop)(d:op=if b then [124,124] else [38,38])
 (B:Hid (Calls prog 233 #[.pointer (some ⟨cb,0,none⟩),.iface q s] (w.alloc (.cells #[.int .i64 l,.string (bs op),.iface q s,.iface j i] 352)) fun e a=>e=.returned (.tuple #[])/\Q a))
 (F:Hid (∀W,Q W->W.cell? ⟨w.heap.size,1,none⟩=some (.string (bs op))/\w.heap.size<W.heap.size))
 (H:Hid (∀W,Q W->Calls prog 238 #[.pointer (some ⟨cb,0,none⟩),.nilIface] W fun e a=>e=.returned (.int .i64 k)/\y a))
 (r:Hid (∀W,y W->W.cell? ⟨w.heap.size,3,none⟩=some (.iface j i)/\w.heap.size<W.heap.size))
 (L:Hid (∀W,y W->Calls prog 233 #[.pointer (some ⟨cb,0,none⟩),.iface j i] W fun e a=>e=.returned (.tuple #[])/\R a))
 (J:Hid (∀W,R W->Calls prog 238 #[.pointer (some ⟨cb,0,none⟩),.iface 436 (.agg #[])] W fun e a=>(∃k:Nat,e=.returned (.int .i64 k))/\S a))
 (h:Hid (∀W,S W->W.cell? ⟨w.heap.size,1,none⟩=some (.string (bs op))/\w.heap.size<W.heap.size/\cb<W.heap.size/\∃g n c,W.cell? ⟨cb,1,none⟩=some (.slice (some ⟨g,0,none⟩) n c)/\k<n/\n<=1000000/\(∃u,W.cell? ⟨g,k,none⟩=some u)/\W.frozen? ⟨g,k,none⟩=false/\g<W.heap.size/\∀D,aQ (W.setCell ⟨g,k,none⟩ (.iface 438 (.agg #[.bool b,.int .i64 n]))) D->P D)):
 Calls prog 288 #[.pointer (some ⟨cb,0,none⟩),.agg #[.int .i64 l,.string (bs op),.iface q s,.iface j i]] w fun e a=>e=.returned (.tuple #[])/\P a:=by
 have I:∃o:ByteArray,o=bs op/\(o.toList==[38,38])= !b/\(o.toList==[124,124])=b:=⟨bs op,rfl,by rw[cA,d];cases b<;>rfl,by rw[cA,d];cases b<;>rfl⟩
 obtain⟨o,A,K,e2⟩:=I;rw[<-A] at B F h ⊢
 clear A d;cases b
 all_goals
  simp only[Bool.not_true,Bool.not_false] at K;go_enter Tryz.func288,Tryz.ntmps288;go_wp2_with fail;refine B.out.mono ?_;rintro e w1 ⟨rfl,z⟩;obtain⟨O,b2⟩:=F.out _ z;have x:=aB (H.out _ z);clear z;go_wp2_with fail;refine x.out.mono ?_;rintro e Z ⟨rfl,t⟩;obtain⟨d1,d2⟩:=r.out _ t;have p:=aB (L.out _ t);clear t;go_wp2_with fail;refine p.out.mono ?_;rintro e V ⟨rfl,C⟩;have v:=aB (J.out _ C);clear C;go_wp2_with fail;refine v.out.mono ?_;rintro e M ⟨⟨m,rfl⟩,E⟩;obtain⟨X,T,Y,g,n,c,U,f5,f6,⟨u,f7⟩,N,f9,f⟩:=h.out _ E;have G:=aB f;have i1:(0:Int)<=(k:Int):=by omega
  have i2:(k:Int)<(n:Int):=by omega
  clear E f;go_wp2_with fail;go_region
  all_goals
   go_wp2_with fail;go_end0;exact⟨rfl,G.out _ (aQ.drew _)⟩
def nK(c:aC->Nat->List aH):∀(l m:List aC) (p:Nat),bP c (l++m) p=bP c l p++bP c m (p+(bP c l p).length)
 |[],m,p=>by simp[bP]
 |a::l,m,p=>by
  rw[aY_,bP,bP,nK c l m,bd_,aw_,b5_]
def BT(c:aC->Nat->List aH)(a:aC)(p:Nat):bP c [a] p=c a p:=by simp[bP]
def NR(c:aC->Nat->List aH)(a b:aC)(p:Nat):bP c [a,b] p=c a p++c b (p+(c a p).length):=by simp[bP]
section
variable (fs:List aC) (seen:List (List UInt8)) (d:Nat) (a:aC) (p:Nat)
def C1(h:a.op=[48]):aG fs seen (d+1) a p=[.push (bC (((dG 0 a.text).getD 0:Nat):Int))]:=by rw[aG];simp[h]
def C0(h:a.op=[115]):aG fs seen (d+1) a p=[.push (bK a.text)]:=by rw[aG];simp[h]
def VA(h:a.op=[98,111,111,108]):aG fs seen (d+1) a p=[.push (bO (a.text==[116,114,117,101]))]:=by rw[aG];simp[h]
def B9(h:a.op=[110,97,109,101]):aG fs seen (d+1) a p=[.load (dK seen a.text)]:=by rw[aG];simp[h]
def UZ(h:a.op=[108,105,115,116]):aG fs seen (d+1) a p=bP (aG fs seen d) a.kids p++[.list a.kids.length]:=by rw[aG];simp[h]
def QA(h:a.op=[105,110,100,101,120]):aG fs seen (d+1) a p=bP (aG fs seen d) a.kids p++[.index]:=by rw[aG];simp[h]
def PY(o:UInt8)(b:o=45\/o=33)(h:a.op=[o,120]):aG fs seen (d+1) a p=bP (aG fs seen d) a.kids p++[.unary [o]]:=by
 rw[aG];rcases b with rfl|rfl<;>simp[h]
def DF(h:a.op=[99,97,108,108]):aG fs seen (d+1) a p=bP (aG fs seen d) a.kids p++[if a.text==[108,101,110] then .length else if a.text==[114,101,97,100] then .read else .call (cS fs a.text) a.kids.length]:=by rw[aG];simp[h]
def PZ(b:Bool)(l r:aC)(h:a.op=if b then [124,124] else [38,38])(c:a.kids=[l,r]):aG fs seen (d+1) a p=
 aG fs seen d l p++[.shortcut b (p+(aG fs seen d l p).length+1+(aG fs seen d r (p+(aG fs seen d l p).length+1)).length+1)]++aG fs seen d r (p+(aG fs seen d l p).length+1)++[.truth]:=by
 rw[aG];cases b<;>simp[h,c]
def LJ(h:bZ a.op≠9)(c:a.op≠[38,38])(b:a.op≠[124,124]):aG fs seen (d+1) a p=bP (aG fs seen d) a.kids p++[.binary a.op]:=by
 rcases mV h with e|e|e|e|e|e|e|e|e|e|e
 all_goals first|exact absurd e b|exact absurd e c|(rw[aG];simp[e])
end
def GQ:∀(l:List UInt8) (n k:Nat),n<=9223372036854775807->dG n l=some k->k<=9223372036854775807
 |[],n,k,b,h=>by rw[dG] at h;cases h;exact b
 |c::r,n,k,b,h=>by
  rw[dG] at h;split at h
  ·cases h
  ·rename_i a;refine GQ r _ k ?_ h;have e:=bP_ c;have d:KV=9223372036854775807:=rfl;rw[d] at a;omega
section
variable {fp:Nat->Value} {fb:Nat->Nat} {nms:List (List UInt8)} {cb:Nat} {F:Nat->Prop} {w w':World} {code:List (Option aH)} {seen:List (List UInt8)}
def CP.patch{a b:List (Option aH)}(h:CP fp fb nms cb F w (a++none::b) seen):
 ∃g c,w.cell? ⟨cb,1,none⟩=some (.slice (some ⟨g,0,none⟩) (a++none::b).length c)/\(∃x,w.cell? ⟨g,a.length,none⟩=some x)/\w.frozen? ⟨g,a.length,none⟩=false/\g<w.heap.size/\
  ∀u i l,lC fp F w u i->aQ (w.setCell ⟨g,a.length,none⟩ u) l->CP fp fb nms cb F l (a++some i::b) seen/\FB cb w l:=by
 obtain⟨fv,cv,sp,D,⟨O,H,r⟩,X,K⟩:=h.blk;have T:=h.lt;have Z:(a++none::b).length=a.length+b.length+1:=by simp;omega
 rcases H.2 with ⟨_,J⟩|⟨g,c,q,rfl,J,v,U,Q,I,Y⟩
 ·omega
 have C:=aD v;have s:∃x,q[a.length]?=some x:=⟨_,aC_ (by rw[I];omega)⟩
 obtain⟨x,V⟩:=s;refine⟨g,c,aA D rfl,⟨x,aA v V⟩,aE v,C,fun u i l N n=>?_⟩
 have p:∀k,k≠g->l.heap[k]?=w.heap[k]?:=fun k p=>by rw[n.heap,ax_ _ _ _ _ p]
 have B:kW cb w=some g:=iX D;have A:l.heap[cb]?=_:=(p cb (by omega)).trans D
 have d:FB cb w l:=⟨⟨n.os.trans rfl,n.tape.trans rfl,n.output.trans rfl,by rw[n.heap];simp,fun k S=>p k (by omega)⟩,fun k _ _ r=>p k fun e=>r (by rw[B,e]),fun k e=>av_ (by rw[oD (p cb (by omega))] at e;exact e)⟩
 have t:=h.fixed d;refine⟨h.step (xs':=O.set a.length u) d A ⟨by rw[bx_,H.1];simp,as_ ⟨g,c,q.setIfInBounds a.length u,by simp,J,by rw[n.heap];exact aS v,by simpa using U,Q,by simpa using I,?_⟩⟩ ?_ (eE.keep t (fun _ h=>h) X) (K.keep t (fun _ h=>h) d.bel.size),d⟩
 ·rw[bB_,b6_,<-Y];simp
 ·have E:=r.keep t fun _ h=>h
  refine⟨by simp[r.1],fun j o f=>?_⟩
  by_cases G:j=a.length
  ·subst G;rw[aV_ (au_ _)] at f;simp at f;subst f;exact⟨u,by rw[List.getElem?_set_self (by rw[r.1];omega)],lC.keep N t fun _ h=>h⟩
  ·have y:(a++none::b)[j]?=some o:=by
    rcases a6_ j a.length with z|z
    ·rw[a3_ z] at f ⊢;exact f
    ·rw[aV_ z] at f ⊢
     obtain⟨m,M⟩:∃m,j-a.length=m+1:=⟨j-a.length-1,by omega⟩
     rw[M] at f ⊢
     simpa using f
   obtain⟨P,W,L⟩:=E.2 j o y;exact⟨P,by rw[List.getElem?_set_ne (fun e=>G e.symm)];exact W,L⟩
end
def fX(fp:Nat->Value)(fb:Nat->Nat)(nms:List (List UInt8))(cb:Nat)(F:Nat->Prop)(w:World)(code:List (Option aH))(seen:List (List UInt8))(w':World):Prop:=
 CP fp fb nms cb F w' code seen/\FB cb w w'
def EF(fp:Nat->Value)(fb:Nat->Nat)(fs:List aC)(cb lo:Nat)(F:Nat->Prop)(alone:Bool)(seen:List (List UInt8))(d:Nat):Prop:=
 ∀(v:Value) (a:aC) (code:List (Option aH)) (w:World),CP fp fb (fs.map (·.text)) cb F w code seen->PN (Btw lo cb) w v a->Hs.ExOk fs alone seen d a->pS d a->code.length+(aG fs seen d a code.length).length<=1000000->
  Calls prog 233 #[.pointer (some ⟨cb,0,none⟩),v] w fun e w'=>e=.returned (.tuple #[])/\fX fp fb (fs.map (·.text)) cb F w (code++(aG fs seen d a code.length).map some) seen w'
section
variable {fp:Nat->Value} {fb:Nat->Nat} {fs:List aC} {cb lo:Nat} {F:Nat->Prop} {alone:Bool} {seen:List (List UInt8)} {d:Nat}
def fX.then{w w1 w':World}{b:List (List UInt8)}{a:List (Option aH)}(c:FB cb w w1)(h:fX fp fb b cb F w1 a seen w'):fX fp fb b cb F w a seen w':=⟨h.1,c.trans h.2⟩
def PKid.sliceC{F:Nat->Prop}{w:World}{v:Value}{l:List aC}(h:PKid F w v l):∃x c,v=.slice x l.length c:=by
 rcases h.get with ⟨rfl,rfl⟩|⟨g,a,rfl,_⟩
 ·exact⟨none,0,rfl⟩
 ·exact⟨_,_,rfl⟩
def ExOk.op{fs:List aC}{c:Bool}{seen:List (List UInt8)}{d:Nat}{a:aC}(h:Hs.ExOk fs c seen (d+1) a):
 (∀k∈a.kids,Hs.ExOk fs c seen d k)/\(a.op=[110,97,109,101]->a.text∈seen)/\
   (a.op=[99,97,108,108]->a.text=[108,101,110]\/a.text=[114,101,97,100]\/(a.text≠[108,101,110]/\a.text≠[114,101,97,100]/\fG fs (cS fs a.text)=some a.kids.length)):=by
 have n:∀{l r:aC},a.kids=[l,r]->Hs.ExOk fs c seen d l->Hs.ExOk fs c seen d r->∀k∈a.kids,Hs.ExOk fs c seen d k:=fun e b f k g=>by
  rw[e] at g;simp at g;rcases g with rfl|rfl
  ·exact b
  ·exact f
 have m:∀{x y:List UInt8} {p:Prop},a.op=x->x≠y->a.op=y->p:=fun t s q=>absurd (t.symm.trans q) s
 rcases h with ⟨b,j⟩|⟨b,j,f⟩|⟨b,f⟩|⟨b,l,r,j,f,i⟩|⟨b,l,j,f⟩|⟨b,f,i⟩|⟨b,l,r,j,f,i⟩
 ·refine⟨fun k g=>absurd g (by rw[j];simp),?_,?_⟩<;>rcases b with b|b|b<;>exact m b (by decide)
 ·exact⟨fun k g=>absurd g (by rw[j];simp),fun _=>f,m b (by decide)⟩
 ·exact⟨f,m b (by decide),m b (by decide)⟩
 ·exact⟨n j f i,m b (by decide),m b (by decide)⟩
 ·refine⟨fun k g=>?_,?_,?_⟩
  ·rw[j] at g;simp at g;rw[g];exact f
  all_goals rcases b with b|b<;>exact m b (by decide)
 ·refine⟨f,m b (by decide),fun _=>?_⟩
  rcases i with ⟨i,_⟩|⟨i,_⟩|⟨i,u,_,o⟩
  ·exact av_ i
  ·exact as_ (av_ i)
  ·exact as_ (as_ ⟨i,u,o⟩)
 ·refine⟨n j f i,fun e=>?_,fun e=>?_⟩<;>(exfalso;rw[e] at b;exact b rfl)
def rV(E:EF fp fb fs cb lo F alone seen d)(v:Value)(l:List aC)(b:List (Option aH))(w:World)(h:CP fp fb (fs.map (·.text)) cb F w b seen)(J:PKid (Btw lo cb) w v l)(C:∀a∈l,Hs.ExOk fs alone seen d a)(r:∀a∈l,pS d a)(D:l.length<=1000000)(M:b.length+(bP (aG fs seen d) l b.length).length<=1000000):
 Calls prog 287 #[.pointer (some ⟨cb,0,none⟩),v] w fun e q=>e=.returned (.tuple #[])/\fX fp fb (fs.map (·.text)) cb F w (b++(bP (aG fs seen d) l b.length).map some) seen q:=by
 rcases J.get with ⟨rfl,rfl⟩|⟨g,A,rfl,L,t,B,G⟩
 ·refine(B8 w cb).mono ?_;rintro e q ⟨rfl,rfl⟩;exact⟨rfl,by simpa [bP] using h,FB.refl _⟩
 ·refine(UY w cb g l.length A (fun j W=>j<=l.length/\fX fp fb (fs.map (·.text)) cb F w (b++(bP (aG fs seen d) (l.take j) b.length).map some) seen W) D ⟨a9_ _,by simpa [bP] using h,FB.refl _⟩ (fun j W K k=>?_)).mono ?_
  ·obtain⟨_,s,f⟩:=K;obtain⟨u,I,m⟩:=G j k;obtain⟨T,H,rfl⟩:=m.form;have y:l.take (j+1)=l.take j++[l[j]]:=aT_ k;have i:bP (aG fs seen d) (l.take (j+1)) b.length=bP (aG fs seen d) (l.take j) b.length++aG fs seen d l[j] (b.length+(bP (aG fs seen d) (l.take j) b.length).length):=by rw[y,nK,BT]
   have n:(bP (aG fs seen d) (l.take (j+1)) b.length).length<=(bP (aG fs seen d) l b.length).length:=by
    have e:l=l.take (j+1)++l.drop (j+1):=(a5_ _ _).symm;have:=congrArg (fun x=>(bP (aG fs seen d) x b.length).length) e
    simp only[nK,aw_] at this;omega
   have o:(b++(bP (aG fs seen d) (l.take j) b.length).map some).length=b.length+(bP (aG fs seen d) (l.take j) b.length).length:=by simp
   refine⟨az_ t f.bel.size,T,.agg H,by rw[f.bel.cell (p:=⟨g,j,none⟩) L.2];exact I,(E _ l[j] _ W s (m.below f.bel) (C _ (aR_ k)) (r _ (aR_ k)) ?_).mono ?_⟩
   ·rw[o];rw[i,aw_] at n;omega
   ·rintro e q ⟨z,c⟩;refine⟨z,k,?_⟩;rw[o] at c;rw[i,a7_,<-bd_];exact c.then f
  ·rintro e q ⟨z,_,c⟩;rw[a0_ (au_ _)] at c;exact⟨z,c⟩
def emits{b:List (List UInt8)}{w W:World}{a:List (Option aH)}{u:Value}{i:aH}(c:fX fp fb b cb F w a seen W)(f:lC fp F W u i)(l:a.length+1<=1000000):
 Calls prog 238 #[.pointer (some ⟨cb,0,none⟩),u] W fun e d=>(∃k:Nat,e=.returned (.int .i64 k))/\fX fp fb b cb F w (a++[some i]) seen d:=by
 refine(qZ (o:=some i) c.1 f (by omega)).mono ?_
 rintro e d ⟨g,h,j⟩;exact⟨⟨_,g⟩,h,c.2.trans j⟩
def DC(fs:List aC)(x:List UInt8):(fs.map (·.text)).findIdx (fun y=>y==x)=cS fs x:=by
 unfold cS;induction fs with
 |nil=>rfl
 |cons f fs a=>simp only[aM_,List.findIdx_cons,a]
def fJ(a:List (Option aH))(c:List aH):(a++c.map some).length=a.length+c.length:=by simp
def VQ(IH:EF fp fb fs cb lo F alone seen d)(bm:seen.length<=1000000)(bx:fs.length<=1000000)(bd:∀k,k<fs.length->fp k=.pointer (some ⟨fb k,0,none⟩)):EF fp fb fs cb lo F alone seen (d+1):=by
 intro v a j w h bk bi bo n;obtain⟨T,B,ps,rfl,bp,ca⟩:=bk.parts;obtain⟨ar,ag,C⟩:=bo;have E:=ExOk.op bi;obtain⟨X,ae⟩:=h.new (.cells B T)
 have G:∀p∈ps,Prt.ok (Btw lo cb) (w.alloc (.cells B T)) p:=fun p hp=>by
  rcases ca p hp with ⟨A,b,h2,h3⟩|⟨A,h2⟩
  ·exact av_ ⟨A,b,h2,h3.below X.fb.bel⟩
  ·exact as_ ⟨A,PKid.below h2 X.fb.bel⟩
 have aa:∀{W:World} {c:List (Option aH)},fX fp fb (fs.map (·.text)) cb F (w.alloc (.cells B T)) c seen W->W.heap[w.heap.size]?=some (.cells B T (0,0)):=fun u=>(X.step u.2).blk
 have J:∀{c:List (Option aH)} {e:Ending} {W:World},(e=.returned (.tuple #[])/\fX fp fb (fs.map (·.text)) cb F (w.alloc (.cells B T)) c seen W)->(e=.returned (.tuple #[])/\fX fp fb (fs.map (·.text)) cb F w c seen W):=fun m=>⟨m.1,m.2.then X.fb⟩
 have H:fX fp fb (fs.map (·.text)) cb F (w.alloc (.cells B T)) j seen (w.alloc (.cells B T)):=⟨ae,FB.refl _⟩
 have ce:(w.alloc (.cells B T)).heap.size=w.heap.size+1:=by simp
 have am:∀{W:World} {v:Value} {k:aC} {c:List (Option aH)},fX fp fb (fs.map (·.text)) cb F (w.alloc (.cells B T)) c seen W->Prt.ok (Btw lo cb) (w.alloc (.cells B T)) ⟨v,[k],true⟩->Hs.ExOk fs alone seen d k->pS d k->c.length+(aG fs seen d k c.length).length<=1000000->
  Calls prog 233 #[.pointer (some ⟨cb,0,none⟩),v] W fun e P=>e=.returned (.tuple #[])/\fX fp fb (fs.map (·.text)) cb F (w.alloc (.cells B T)) (c++(aG fs seen d k c.length).map some) seen P:=fun u hp hx hl hn=>
  (IH _ _ _ _ u.1 (hp.one'.below u.2.bel) hx hl hn).mono fun e P m=>⟨m.1,m.2.then u.2⟩
 have af:∀{W:World} {v:Value} {l:List aC} {c:List (Option aH)},fX fp fb (fs.map (·.text)) cb F (w.alloc (.cells B T)) c seen W->Prt.ok (Btw lo cb) (w.alloc (.cells B T)) ⟨v,l,false⟩->(∀k∈l,Hs.ExOk fs alone seen d k)->(∀k∈l,pS d k)->l.length<=1000000->c.length+(bP (aG fs seen d) l c.length).length<=1000000->
  Calls prog 287 #[.pointer (some ⟨cb,0,none⟩),v] W fun e P=>e=.returned (.tuple #[])/\fX fp fb (fs.map (·.text)) cb F (w.alloc (.cells B T)) (c++(bP (aG fs seen d) l c.length).map some) seen P:=fun u hp hx hl bj hn=>
  (rV IH _ _ _ _ u.1 (hp.many.below u.2.bel) hx hl bj hn).mono fun e P m=>⟨m.1,m.2.then u.2⟩
 rcases bp with ⟨rfl,k,rfl,s,bc,r,rfl⟩|⟨rfl,rfl,s,r,rfl⟩|⟨rfl,rfl,s,r,rfl⟩|⟨rfl,sv,rfl,s,rfl⟩|⟨rfl,sv,rfl,s,rfl⟩|⟨rfl,rfl,s,r,rfl⟩|⟨rfl,l,v1,v2,Q,a2,rfl,s,r,rfl⟩|⟨rfl,o,v1,Q,rfl,bu,s,r,rfl⟩|⟨rfl,l,v1,v2,Q,a2,rfl,s,r,rfl⟩|ai
 ·-- a number
  rw[C1 fs seen d a _ s,bc] at n ⊢
  have hk:=GQ _ _ _ (by omega) bc
  exact(sR w cb a.line k _ (emits (i:=.push (bC k)) H ⟨_,rfl,PV.num _ _ _ (by omega) (by omega),by rw[kA];omega⟩ (by simp at n;omega))).mono fun _ _=>J
 ·rw[C0 fs seen d a _ s] at n ⊢
  exact(FO w cb a.line _ _ (emits (i:=.push (bK a.text)) H ⟨_,rfl,PV.str _ _ _,by rw[kP];have:=(ar s).1;omega⟩ (by simp at n;omega))).mono fun _ _=>J
 ·rw[VA fs seen d a _ s] at n ⊢
  exact(QC w cb a.line _ _ (emits (i:=.push (bO (a.text==[116,114,117,101]))) H ⟨_,rfl,PV.tru _ _ _,by rw[lM];omega⟩ (by simp at n;omega))).mono fun _ _=>J
 ·-- a list
  rw[UZ fs seen d a _ s] at n ⊢
  rw[aw_,bq_] at n;have D:=E.1;have hp:=G ⟨sv,a.kids,false⟩ (by simp)
  obtain⟨x,c,rfl⟩:=hp.many.sliceC;refine(QB w cb a.kids.length c a.line x _ _ (af H hp D C ag (by omega)) (fun W m=>⟨aA (aa m) rfl,aD (aa m)⟩) (fun W m=>emits (i:=.list a.kids.length) m rfl (by rw[fJ];omega))).mono ?_
  intro e W m;rw[a7_,<-bd_];exact J m
 ·-- a call
  rw[DF fs seen d a _ s] at n ⊢
  rw[aw_,bq_] at n;have D:=E.1;have ah:=E.2.2 s;have hp:=G ⟨sv,a.kids,false⟩ (by simp)
  obtain⟨x,c,rfl⟩:=hp.many.sliceC;obtain⟨z,V⟩:=ae.new (.cells #[.int .i64 a.line,.string (bs a.text),.slice x a.kids.length c] 341);generalize O:w.alloc (.cells #[.int .i64 a.line,.string (bs a.text),.slice x a.kids.length c] 341)=q at*;have Y:fX fp fb (fs.map (·.text)) cb F q j seen (q.alloc (.cells #[.int .i64 a.line,.string (bs a.text),.slice x a.kids.length c] 341)):=⟨V,z.fb⟩
  have hx:=af Y hp D C ag (by omega)
  have cd:q.heap.size<q.heap.size+1:=a2_ _;have ax:∀{W:World},FB cb (q.alloc (.cells #[.int .i64 a.line,.string (bs a.text),.slice x a.kids.length c] 341)) W->W.heap[q.heap.size]?=some (.cells #[.int .i64 a.line,.string (bs a.text),.slice x a.kids.length c] 341 (0,0)):=fun bz=>(z.step bz).blk
  have M:Calls prog 287 #[.pointer (some ⟨cb,0,none⟩),.slice x a.kids.length c] (q.alloc (.cells #[.int .i64 a.line,.string (bs a.text),.slice x a.kids.length c] 341)) fun e P=>e=.returned (.tuple #[])/\(fX fp fb (fs.map (·.text)) cb F q (j++(bP (aG fs seen d) a.kids j.length).map some) seen P/\P.heap[q.heap.size]?=some (.cells #[.int .i64 a.line,.string (bs a.text),.slice x a.kids.length c] 341 (0,0))):=by
   refine(rV IH _ _ _ _ V (hp.many.below z.fb.bel) D C ag (by omega)).mono ?_
   rintro e P ⟨he,u⟩;exact⟨he,u.then z.fb,ax u.2⟩
  have ad:∀{i:aH} {e:Ending} {W:World},(e=.returned (.tuple #[])/\fX fp fb (fs.map (·.text)) cb F q ((j++(bP (aG fs seen d) a.kids j.length).map some)++[some i]) seen W)->e=.returned (.tuple #[])/\fX fp fb (fs.map (·.text)) cb F w (j++(bP (aG fs seen d) a.kids j.length++[i]).map some) seen W:=fun m=>by
   rw[a7_,<-bd_];exact J m
  have aj:(j++(bP (aG fs seen d) a.kids j.length).map some).length+1<=1000000:=by rw[fJ];omega
  rcases ah with ap|ap|⟨av,bg,ao⟩
  ·rw[ap] at M O ⊢
   refine(qX w cb a.kids.length c a.line _ x (fun W=>fX fp fb (fs.map (·.text)) cb F q ((j++(bP (aG fs seen d) a.kids j.length).map some)++[some .length]) seen W) (by rw[O];exact RH q cb a.kids.length c a.line x _ _ M (fun W m=>⟨aA m.2 rfl,aD m.2⟩) (fun W m=>emits (i:=.length) m.1 rfl aj))).mono ?_
   intro e W m;exact ad m
  ·rw[ap] at M O ⊢
   refine(qX w cb a.kids.length c a.line _ x (fun W=>fX fp fb (fs.map (·.text)) cb F q ((j++(bP (aG fs seen d) a.kids j.length).map some)++[some .read]) seen W) (by rw[O];exact JB q cb a.kids.length c a.line x _ _ M (fun W m=>⟨aA m.2 rfl,aD m.2⟩) (fun W m=>emits (i:=.read) m.1 rfl aj))).mono ?_
   intro e W m;exact ad m
  ·have al:cS fs a.text<fs.length:=by
    unfold fG at ao;cases hf:fs[cS fs a.text]? with
    |none=>rw[hf] at ao;cases ao
    |some f=>exact(aZ_.1 hf).1
   have bh:a.text∈fs.map (·.text):=by
    have h9:=al;unfold cS at h9;have:=bN_ (w:=h9);exact bz_.2 ⟨_,aR_ h9,by simpa using this⟩
   have e1:(a.text==[108,101,110])=false:=by simpa using av
   have e2:(a.text==[114,101,97,100])=false:=by simpa using bg
   rw[e1,e2];refine(qX w cb a.kids.length c a.line _ x (fun W=>fX fp fb (fs.map (·.text)) cb F q ((j++(bP (aG fs seen d) a.kids j.length).map some)++[some (.call (cS fs a.text) a.kids.length)]) seen W) ?_).mono ?_
   ·rw[O];refine DX q cb a.kids.length c (fb (cS fs a.text)) a.line a.text x _ _ av bg M (fun W m=>⟨aA m.2 rfl,aA m.2 rfl,aD m.2⟩) (fun W W' m hS=>?_) (fun W W' m hS=>?_)
    ·refine(tB a.text (m.1.1.grow hS.below) bh (by simpa using bx)).mono ?_
     rintro e P ⟨he,bt⟩;rw[DC,bd _ al] at he;exact⟨he,bt⟩
    ·have br:fX fp fb (fs.map (·.text)) cb F q (j++(bP (aG fs seen d) a.kids j.length).map some) seen W':=⟨m.1.1.grow hS.below,m.1.2.trans (FB.of_below hS.below m.1.1.lt)⟩
     exact emits (i:=.call (cS fs a.text) a.kids.length) br (by show _=_;rw[bd _ al]) aj
   ·intro e W m;exact ad m
 ·-- a variable
  rw[B9 fs seen d a _ s] at n ⊢
  have hm:=E.2.1 s;exact(zU w cb a.line _ (dK seen a.text) _ (NO a.text ae hm bm) (emits (i:=.load (dK seen a.text)) H rfl (by simp at n;omega))).mono fun _ _=>J
 ·-- an index
  rw[QA fs seen d a _ s,r,NR] at n ⊢
  rw[aw_,aw_,bq_] at n;have D:=E.1;have L:=G ⟨v1,[Q],true⟩ (by simp)
  have ab:=G ⟨v2,[a2],true⟩ (by simp)
  obtain⟨T1,S,rfl⟩:=L.one'.form;obtain⟨T2,U,rfl⟩:=ab.one'.form;refine(LL w cb l T1 T2 _ _ _ _ _ (am H L (D Q (by rw[r];simp)) (C Q (by rw[r];simp)) (by omega)) (fun W m=>⟨aA (aa m) rfl,aD (aa m)⟩) (fun W m=>am m ab (D a2 (by rw[r];simp)) (C a2 (by rw[r];simp)) (by rw[fJ];omega)) (fun W m=>emits (i:=.index) m rfl (by simp only[fJ];omega))).mono ?_
  intro e W m;rw[fJ] at m;rw[a7_,a7_,<-bd_,<-bd_];exact J m
 ·-- one operand
  rw[PY fs seen d a _ o bu s,r,BT] at n ⊢
  rw[aw_,bq_] at n;have D:=E.1;have L:=G ⟨v1,[Q],true⟩ (by simp)
  obtain⟨T1,S,rfl⟩:=L.one'.form;refine(LK w cb a.line _ T1 _ _ _ (am H L (D Q (by rw[r];simp)) (C Q (by rw[r];simp)) (by omega)) (fun W m=>⟨aA (aa m) rfl,aD (aa m)⟩) (fun W m=>emits (i:=.unary [o]) m rfl (by rw[fJ];omega))).mono ?_
  intro e W m;rw[a7_,<-bd_];exact J m
 ·-- two operands
  have D:=E.1;have L:=G ⟨v1,[Q],true⟩ (by simp)
  have ab:=G ⟨v2,[a2],true⟩ (by simp)
  obtain⟨T1,S,rfl⟩:=L.one'.form;obtain⟨T2,U,rfl⟩:=ab.one'.form;have be:=D Q (by rw[r];simp)
  have M:=D a2 (by rw[r];simp)
  have az:=C Q (by rw[r];simp)
  have ba:=C a2 (by rw[r];simp)
  generalize I:(#[.int .i64 (l:Nat),.string (bs a.op),.iface T1 (.agg S),.iface T2 (.agg U)]:Array Value)=B at*;obtain⟨z,V⟩:=ae.new (.cells B 352);have Y:fX fp fb (fs.map (·.text)) cb F (w.alloc (.cells B 352)) j seen ((w.alloc (.cells B 352)).alloc (.cells B 352)):=⟨V,z.fb⟩
  generalize O:w.alloc (.cells B 352)=q at*
  have Z:∀{W:World} {v:Value} {k:aC} {c:List (Option aH)},(fX fp fb (fs.map (·.text)) cb F q c seen W/\Loc cb q q.heap.size (.cells B 352) W)->Prt.ok (Btw lo cb) q ⟨v,[k],true⟩->Hs.ExOk fs alone seen d k->pS d k->c.length+(aG fs seen d k c.length).length<=1000000->
   Calls prog 233 #[.pointer (some ⟨cb,0,none⟩),v] W fun e P=>e=.returned (.tuple #[])/\(fX fp fb (fs.map (·.text)) cb F q (c++(aG fs seen d k c.length).map some) seen P/\Loc cb q q.heap.size (.cells B 352) P):=fun u hp hx hl hn=>
   (IH _ _ _ _ u.1.1 (hp.one'.below u.1.2.bel) hx hl hn).mono fun e P m=>⟨m.1,m.2.then u.1.2,u.2.step m.2.2⟩
  have t:∀{W:World},Loc cb q q.heap.size (.cells B 352) W->W.cell? ⟨q.heap.size,1,none⟩=some (.string (bs a.op))/\W.cell? ⟨q.heap.size,3,none⟩=some (.iface T2 (.agg U))/\q.heap.size<W.heap.size:=fun hL=>⟨aA hL.blk (by rw[<-I];rfl),aA hL.blk (by rw[<-I];rfl),aD hL.blk⟩
  by_cases ac:a.op=[38,38]\/a.op=[124,124]
  ·obtain⟨b,hb⟩:∃b:Bool,a.op=if b then [124,124] else [38,38]:=by
    rcases ac with e|e
    ·exact⟨false,e⟩
    ·exact⟨true,e⟩
   rw[PZ fs seen d a _ b Q a2 hb r] at n ⊢
   generalize ay:aG fs seen d Q j.length=K at*;generalize aw:aG fs seen d a2 (j.length+K.length+1)=cr at*;simp only[aw_,bq_] at n
   have N:=MC q cb (j.length+K.length) l b a.op T1 T2 (.agg S) (.agg U) (fun W=>fX fp fb (fs.map (·.text)) cb F q (j++K.map some++some (.shortcut b (j.length+K.length+1+cr.length+1))::(cr.map some++[some .truth])) seen W)
    (fun W=>fX fp fb (fs.map (·.text)) cb F q (j++K.map some) seen W/\Loc cb q q.heap.size (.cells B 352) W)
    (fun W=>fX fp fb (fs.map (·.text)) cb F q (j++K.map some++[none]) seen W/\Loc cb q q.heap.size (.cells B 352) W)
    (fun W=>fX fp fb (fs.map (·.text)) cb F q (j++K.map some++[none]++cr.map some) seen W/\Loc cb q q.heap.size (.cells B 352) W)
    (fun W=>fX fp fb (fs.map (·.text)) cb F q (j++K.map some++[none]++cr.map some++[some .truth]) seen W/\Loc cb q q.heap.size (.cells B 352) W) hb
    (by
      rw[I];have:=Z (c:=j) ⟨Y,z⟩ L be az (by rw[ay];omega)
      rw[ay] at this;exact this)
    (fun W m=>⟨(t m.2).1,(t m.2).2.2⟩)
    (fun W m=>(qZ (o:=none) m.1.1 rfl (by rw[fJ];omega)).mono fun e P hr=>⟨by rw[hr.1,fJ],⟨hr.2.1,m.1.2.trans hr.2.2⟩,m.2.step hr.2.2⟩)
    (fun W m=>⟨(t m.2).2.1,(t m.2).2.2⟩)
    (fun W m=>by
      have bf:(j++K.map some++[none]).length=j.length+K.length+1:=by simp;omega
      have:=Z m ab M ba (by rw[bf,aw];omega)
      rw[bf,aw] at this;exact this)
    (fun W m=>(qZ (o:=some .truth) m.1.1 rfl (by simp;omega)).mono fun e P hr=>⟨⟨_,hr.1⟩,⟨hr.2.1,m.1.2.trans hr.2.2⟩,m.2.step hr.2.2⟩)
    (fun W m=>by
      obtain⟨⟨ak,bl⟩,hL⟩:=m;have e0:j++K.map some++[none]++cr.map some++[some aH.truth]=(j++K.map some)++none::(cr.map some++[some aH.truth]):=by simp
      rw[e0] at ak;have bw:=ak.lt;obtain⟨g,c,p1,p2,p3,p4,p5⟩:=ak.patch;have bn:(j++K.map some).length=j.length+K.length:=fJ _ _;have bq:((j++K.map some)++none::(cr.map some++[some aH.truth])).length=j.length+K.length+1+cr.length+1:=by simp;omega
      rw[bn] at p2 p3 p5;rw[bq] at p1;refine⟨(t hL).1,(t hL).2.2,bw,g,_,c,p1,by omega,by omega,p2,p3,p4,fun W' hS=>?_⟩
      obtain⟨q1,q2⟩:=p5 _ (.shortcut b (j.length+K.length+1+cr.length+1)) W' rfl hS;exact⟨q1,bl.trans q2⟩)
   rw[I] at N;rw[<-I];refine(sS w cb l (bs a.op) T1 T2 (.agg S) (.agg U) _ (by rw[I,O];exact N)).mono ?_
   intro e W m;have e9:j++(K++[aH.shortcut b (j.length+K.length+1+cr.length+1)]++cr++[aH.truth]).map some=j++K.map some++some (.shortcut b (j.length+K.length+1+cr.length+1))::(cr.map some++[some .truth]):=by simp
   rw[e9];exact J m
  ·have au:a.op≠[38,38]:=fun e=>ac (av_ e)
   have bb:a.op≠[124,124]:=fun e=>ac (as_ e)
   rw[LJ fs seen d a _ s au bb,r,NR] at n ⊢
   simp only[aw_,bq_] at n
   have N:=MD q cb l a.op T1 T2 (.agg S) (.agg U) (fun W=>fX fp fb (fs.map (·.text)) cb F q (j++(aG fs seen d Q j.length).map some++(aG fs seen d a2 (j.length+(aG fs seen d Q j.length).length)).map some++[some (.binary a.op)]) seen W) _ _ au bb
    (by rw[I];exact Z (c:=j) ⟨Y,z⟩ L be az (by omega))
    (fun W m=>t m.2)
    (fun W m=>Z m ab M ba (by rw[fJ];omega))
    (fun W m=>⟨(t m.2).1,(t m.2).2.2⟩)
    (fun W m=>by
      obtain⟨aq,cc⟩:=m;rw[fJ] at aq;exact emits (i:=.binary a.op) aq rfl (by simp only[fJ];omega))
   rw[I] at N;rw[<-I];refine(sS w cb l (bs a.op) T1 T2 (.agg S) (.agg U) _ (by rw[I,O];exact N)).mono ?_
   intro e W m;rw[a7_,a7_,<-bd_,<-bd_];exact J m
 ·-- no expression
  exfalso
  have bv:∀x∈([[118,97,114],[115,101,116],[105,102],[119,104,105,108,101],[114,101,116,117,114,110],[112,114,105,110,116],[100,111]]:List (List UInt8)),a.op≠x:=fun x hx e=>by
   have hc:∀y∈([[48],[115],[98,111,111,108],[110,97,109,101],[108,105,115,116],[105,110,100,101,120],[45,120],[33,120],[99,97,108,108],[124,124],[38,38],[61,61],[33,61],[60],[60,61],[43],[45],[42],[47],[37]]:List (List UInt8)),a.op≠y:=fun y hy e2=>by
    rw[e] at e2;subst e2;simp at hx hy;rcases hx with rfl|rfl|rfl|rfl|rfl|rfl|rfl<;>simp at hy
   rcases bi with ⟨A,_⟩|⟨A,_⟩|⟨A,_⟩|⟨A,_⟩|⟨A,_⟩|⟨A,_⟩|⟨A,_⟩
   ·rcases A with A|A|A<;>exact hc _ (by simp) A
   ·exact hc _ (by simp) A
   ·exact hc _ (by simp) A
   ·exact hc _ (by simp) A
   ·rcases A with A|A<;>exact hc _ (by simp) A
   ·exact hc _ (by simp) A
   ·rcases mV A with e|e|e|e|e|e|e|e|e|e|e<;>exact hc _ (by simp) e
  rcases ai with ⟨_,_,_,_,_,A,_⟩|⟨_,_,_,_,_,_,A,_⟩|⟨_,_,_,_,_,_,A,_⟩|⟨_,_,_,_,_,_,_,_,A,_⟩|⟨_,_,_,_,_,_,A,_⟩|⟨_,_,_,A,_⟩|⟨_,_,_,_,A,_⟩|⟨_,_,_,_,A,_⟩|⟨_,_,_,_,A,_⟩
  all_goals exact bv _ (by simp) A
def rY(b:seen.length<=1000000)(a:fs.length<=1000000)(c:∀k,k<fs.length->fp k=.pointer (some ⟨fb k,0,none⟩)):∀d,EF fp fb fs cb lo F alone seen d
 |0=>fun _ _ _ _ _ _ h=>h.elim
 |d+1=>VQ (rY b a c d) b a c
end
end Go.Proofs.YtblbkfdhjfppkaaGreatDoor
