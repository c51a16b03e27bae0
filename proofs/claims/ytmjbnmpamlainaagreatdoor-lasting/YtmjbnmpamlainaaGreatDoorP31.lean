/- Contracts of the program: goTo over earlier, to the first that fits; Back. -/
import Derived.Test.YtmjbnmpamlainaaGreatDoorP30
set_option linter.defProp false
set_option maxRecDepth 100000
namespace Go.Proofs.YtmjbnmpamlainaaGreatDoor
open Hs
open _root_.Go.Proofs.Tryz
open Go.RowKit
def ECx.S.put{C:ECx}{t:Tg}{W:aG}(h:C.S t W){d:Nat}(f:d<=C.bd)(c:¬t.F d)(o:Obj):C.S t (W.putObj d o):=
 ⟨fun b a=>⟨by rw[World.putObj_heap_other (by have:=(h.1 b a).2;omega)];exact(h.1 b a).1,(h.1 b a).2⟩,fun b a=>by rw[World.putObj_heap_other (show b≠d from fun e=>c (e▸a))];exact h.2 b a⟩
section
variable {fp:eQ} {F:bX} {w:aG} {sb mb n:Nat} {mo:Obj} {ks:List aE} {tape:List Int} {s:bC} {L:List Nat}
end
structure m7(fp:eQ)(sb mb:Nat)(mo:Obj)(ks:List aE)(tape:List Int)(s:bC)(L:List Nat)(src:cD)(w:aG)(m k l:Nat)(w':aG):Prop where
 kind:(k,l)=(gG s src).2
 bad:k≠0->m=0
 le:m<=s.time
 same:k=0->∀j τ,m<=j->j<=s.time->bU ks tape j=some τ->gG τ src=gG s src
 other:k=0->0<m->∀τ,bU ks tape (m-1)=some τ->gG τ src≠gG s src
 live:∃G n',Live fp G w' sb mb mo ks tape s n' L
 fs:FS sb w w'
structure SCx where
 fp:Nat->Value
 sb:Nat
 mb:Nat
 mo:Obj
 ks:List aE
 tape:List Int
 s:bC
 L:List Nat
 w:aG
 V0:aG
 A:aE
 bb:Nat
def SCx.new(C:SCx):List Nat:=List.range' C.w.heap.size (C.V0.heap.size+2-C.w.heap.size)
def SCx.since(C:SCx)(k:Nat):Prop:=∀j τ,k<=j->j<C.s.time->bU C.ks C.tape j=some τ->fL τ C.A=fL C.s C.A
structure SCx.Q(C:SCx)(k:Nat)(L:List Nat)(F:bX)(n:Nat)(W:aG):Prop where
 live:Live C.fp F W C.sb C.mb C.mo C.ks C.tape C.s n L
 mem:∀b∈C.new++C.L,b∈L
 keep:∀b,C.w.heap.size<=b->b<C.V0.heap.size->W.heap[b]?=C.V0.heap[b]?
 fs:FS C.sb C.w W/\C.sb<C.w.heap.size/\C.w.heap.size<=C.V0.heap.size
 sin:C.since k
structure SCx.X(C:SCx)(L:List Nat)(F:bX)(n:Nat)(W:aG):Prop where
 live:Live C.fp F W C.sb C.mb C.mo C.ks C.tape C.s n L
 mem:∀b∈C.new++C.L,b∈L
 fs:FS C.sb C.w W/\C.sb<C.w.heap.size/\C.w.heap.size+1+1<C.V0.heap.size
 res:∃m:Nat,W.heap[C.w.heap.size]?=some (.cells #[Iv0 (m:Nat)] 3 (0,0))/\W.heap[C.w.heap.size+1]?=some (.cells #[Iv0 0] 30 (0,0))/\W.heap[C.w.heap.size+1+1]?=some (.cells #[Iv0 0] 3 (0,0))/\m<=C.s.time/\C.since m/\0<m/\∀τ,bU C.ks C.tape (m-1)=some τ->fL τ C.A≠fL C.s C.A
def SCx.e(C:SCx):ECx where
 fp:=C.fp
 sb:=C.sb
 mb:=C.mb
 mo:=C.mo
 ks:=C.ks
 tape:=C.tape
 s:=C.s
 bb:=C.bb
 bd:=C.V0.heap.size+1
 All:=C.new++C.L
 Q:=C.Q
 X:=C.X
def SCx.mem_new{C:SCx}{b:Nat}:b∈C.new↔C.w.heap.size<=b/\b<C.V0.heap.size+2:=by
 unfold SCx.new;rw[List.mem_range'_1];omega
def SCx.e_ok{C:SCx}(g:C.V0.heap[C.bb]?=some (.cells #[bH C.sb] 23 (0,0)))(l:C.w.heap.size<=C.bb):C.e.Ok where
 live:=fun h=>⟨h.live,h.mem⟩
 cb:=fun h=>(h.keep _ l (aC g)).trans g
 but:=by
  intro k L u F n W s h d c;refine⟨h.live.but d fun b a=>(c b a).1,h.mem,fun b e f=>?_,⟨h.fs.1.but d (fun b a=>?_) h.fs.2.1,h.fs.2⟩,h.sin⟩
  ·rw[d.blk b (h.live.loc b (h.mem b (cC_ _ (SCx.mem_new.2 ⟨e,by omega⟩)))).2.1 fun a=>?_]
   ·exact h.keep b e f
   ·have:C.V0.heap.size+1<b:=(c b a).2;omega
  ·have:C.V0.heap.size+1<b:=(c b a).2;have:=h.fs.2.2;omega
 more:=fun h j a=>⟨j,a,h.keep,h.fs,h.sin⟩
 fs:=fun h q j w x=>⟨j,h.mem,fun b e f=>(h.live.blk q (h.mem b (cC_ _ (SCx.mem_new.2 ⟨e,by omega⟩)))).trans (h.keep b e f),⟨h.fs.1.trans q,h.fs.2⟩,h.sin⟩
 xbut:=by
  intro L u F n W s h d c;obtain⟨m,p,o,r,t⟩:=h.res;have v:=h.fs.2.2
  have i:∀b,b<=C.w.heap.size+1+1->b<W.heap.size->s.heap[b]?=W.heap[b]?:=fun b e f=>d.blk b f fun a=>by
   have:C.V0.heap.size+1<b:=(c b a).2;omega
  refine⟨h.live.but d fun b a=>(c b a).1,h.mem,⟨h.fs.1.but d (fun b a=>?_) h.fs.2.1,h.fs.2⟩,m,by rw[i _ (by omega) (aC p)];exact p,by rw[i _ (by omega) (aC o)];exact o,by rw[i _ (by omega) (aC r)];exact r,t⟩
  have:C.V0.heap.size+1<b:=(c b a).2;omega
 xmore:=fun h c a=>⟨h.live.drop c,a,h.fs,h.res⟩
def Sn1(C:SCx)(t:Tg)(s':SV)(b:Nat)(W:aG):Prop:=(∃σ,C.Q (σ.time+1) (b::(t.L++(C.new++C.L))) t.F t.n W/\jT C.fp t.F W s'.val σ/\bU C.ks C.tape σ.time=some σ/\σ.time<C.s.time/\σ.time/20<t.n/\C.e.S t W)/\W.heap[b]?=some (.cells s'.cells 49 (0,0))/\C.V0.heap.size+1<b
section
variable {C:SCx} {L:List Nat} {F:bX} {n k:Nat} {W:aG} {t:Tg}
def SCx.Q.lt(h:C.Q k L F n W){b:Nat}(a:C.w.heap.size<=b)(c:b<C.V0.heap.size+2):b<W.heap.size/\¬F b:=by
 have:=h.live.loc b (h.mem b (cC_ _ (SCx.mem_new.2 ⟨a,c⟩)));exact⟨this.2.1,this.2.2.1⟩
def SCx.X.lt(h:C.X L F n W){b:Nat}(a:C.w.heap.size<=b)(c:b<C.V0.heap.size+2):b<W.heap.size/\¬F b:=by
 have:=h.live.loc b (h.mem b (cC_ _ (SCx.mem_new.2 ⟨a,c⟩)));exact⟨this.2.1,this.2.2.1⟩
def SCx.Q.put(h:C.Q k L F n W)(o:Obj):C.Q k L F n (W.putObj (C.V0.heap.size+1) o):=by
 have g:=h.fs.2.2;have d:C.V0.heap.size+1∈L:=h.mem _ (cC_ _ (SCx.mem_new.2 ⟨by omega,by omega⟩))
 have a:But [C.V0.heap.size+1] W (W.putObj (C.V0.heap.size+1) o):=But.put _ _ _;exact⟨h.live.but a fun b c=>by rw[cs_.1 c];exact d,h.mem,fun b f e=>by rw[World.putObj_heap_other (by omega)];exact h.keep b f e,⟨h.fs.1.but a (fun b c=>by rw[cs_.1 c];omega) h.fs.2.1,h.fs.2⟩,h.sin⟩
def SCx.Q.putS{v:aQ}{a:bC}(h:C.Q k L F n W)(c:jT C.fp F W v a)(o:Obj):jT C.fp F (W.putObj (C.V0.heap.size+1) o) v a:=
 c.but h.live (But.put _ _ _) fun b d=>by rw[cs_.1 d];exact h.mem _ (cC_ _ (SCx.mem_new.2 ⟨by have:=h.fs.2.2;omega,by omega⟩))
def SCx.X.put(h:C.X L F n W)(o:Obj):C.X L F n (W.putObj (C.V0.heap.size+1) o):=by
 have j:=h.fs.2.2;have e:C.V0.heap.size+1∈L:=h.mem _ (cC_ _ (SCx.mem_new.2 ⟨by omega,by omega⟩))
 have a:But [C.V0.heap.size+1] W (W.putObj (C.V0.heap.size+1) o):=But.put _ _ _;obtain⟨m,i,g,d,f⟩:=h.res;exact⟨h.live.but a fun b c=>by rw[cs_.1 c];exact e,h.mem,⟨h.fs.1.but a (fun b c=>by rw[cs_.1 c];omega) h.fs.2.1,h.fs.2⟩,m,by rw[World.putObj_heap_other (by omega)];exact i,by rw[World.putObj_heap_other (by omega)];exact g,by rw[World.putObj_heap_other (by omega)];exact d,f⟩
end
def DY(W:aG)(b n k l:Nat):But [b,b+1,b+1+1] W (gF W b n k l):=by
 have:=((But.set W b (Iv0 n)).trans (But.set _ (b+1) (Iv0 k))).trans (But.set _ (b+1+1) (Iv0 l));exact this
def VA{W:aG}{b:Nat}(h:OM b W)(n k l:Nat):(gF W b n k l).heap[b]?=some (.cells #[Iv0 n] 3 (0,0))/\(gF W b n k l).heap[b+1]?=some (.cells #[Iv0 k] 30 (0,0))/\(gF W b n k l).heap[b+1+1]?=some (.cells #[Iv0 l] 3 (0,0)):=by
 obtain⟨⟨g,d⟩,⟨f,c⟩,e,a⟩:=h;unfold gF;refine⟨?_,?_,?_⟩
 ·rw[cm_ _ _ _ _ (by show b≠b+1+1;omega),cm_ _ _ _ _ (by show b≠b+1;omega)]
  exact aK d
 ·rw[cm_ _ _ _ _ (by show b+1≠b+1+1;omega)]
  exact aK ((cm_ _ _ _ _ (by show b+1≠b;omega)).trans c)
 ·exact aK ((cm_ _ _ _ _ (by show b+1+1≠b+1;omega)).trans ((cm_ _ _ _ _ (by show b+1+1≠b;omega)).trans a))
def VB{W:aG}{b:Nat}{r:(cD × Nat) × Nat × Nat}{c:Array Value}{T:TypeId}{z:Nat × Nat}(h:W.heap[b]?=some (.cells c T z))(d:c.size=4):(DZ W b r).heap[b]?=some (.cells (P4 r) T z):=by
 have a:(DZ W b r).heap[b]?=some (.cells ((((c.setIfInBounds 0 (.string (bs r.1.1))).setIfInBounds 1 (Iv0 r.1.2)).setIfInBounds 2 (Iv0 r.2.1)).setIfInBounds 3 (Iv0 r.2.2)) T z):=aK (aK (aK (aK h)));rw[a];obtain⟨l⟩:=c;match l,d with
 |[e,f,g,i],_=>rfl
def MI{w W:aG}{lo b:Nat}(h:Below lo w W)(a:lo<=b)(r:(cD × Nat) × Nat × Nat):Below lo w (DZ W b r):=
 (((h.setCell (by show lo<=b;exact a) _).setCell (by show lo<=b;exact a) _).setCell (by show lo<=b;exact a) _).setCell (by show lo<=b;exact a) _
def wF{w W:aG}{lo b:Nat}(h:Below lo w W)(a:lo<=b)(n k l:Nat):Below lo w (gF W b n k l):=
 ((h.setCell (by show lo<=b;exact a) _).setCell (by show lo<=b+1;omega) _).setCell (by show lo<=b+1+1;omega) _
def pT{s:bC}{l:cD}{A:aE}(h:iR l=.ok A):gG s l=fL s A:=by unfold gG;rw[h]
def xB{s:bC}{A:aE}(h:(fL s A).2.1=0):(fL s A).2=(0,0):=by
 unfold fL at h ⊢
 split
 ·rfl
 ·rename_i a;rw[if_neg a] at h;exact absurd h a
def bv_{C:SCx}(hg:Good C.ks)(ag:C.tape.length<=17592186044416){F:bX}{n nb f lo hi:Nat}{t:TypeId}{z:aQ}{R:Nat->Nat->Nat->World->Prop}(I:Live C.fp F C.w C.sb C.mb C.mo C.ks C.tape C.s n C.L)(X:Below C.w.heap.size C.w C.V0)
 (ac:C.V0.heap[C.bb]?=some (.cells #[bH C.sb] 23 (0,0))) (ah:C.w.heap.size<=C.bb)
 (aa:C.V0.heap[nb]?=some (.cells #[.iface t z] 59 (0,0))) (af:C.w.heap.size<=nb)
 (S:C.V0.heap[f]?=some (.cells (P4 (fL C.s C.A)) 63 (0,0))) (ae:C.w.heap.size<=f)
 (H:OM C.w.heap.size C.V0) (ad:PN (Btw lo hi) C.V0 (.iface t z) C.A) (aj:C.w.heap.size<=lo) (ak:hi<=C.V0.heap.size) (hA:rC C.A)
 (hR:∀(m:Nat) (G:bX) (n':Nat) (W:aG),Live C.fp G W C.sb C.mb C.mo C.ks C.tape C.s n' C.L->FS C.sb C.w W->m<=C.s.time->C.since m->(0<m->∀Q,bU C.ks C.tape (m-1)=some Q->fL Q C.A≠fL C.s C.A)->R m 0 0 W):
 bX_ C.w nb f t z (fL C.s C.A) R C.bb C.V0 C.e.A C.e.B (Sn1 C) C.e.E C.e.Z:=by
 have K:C.w.heap.size+1+1<C.V0.heap.size:=by
  obtain⟨_,_,_,h⟩:=H;exact aC h
 have A:=SCx.e_ok ac ah;have u:=I.ses.lt
 have s:∀{k L F n W},C.Q k L F n W->OM C.w.heap.size W:=fun {k L F n W} h=>by
  obtain⟨⟨v0,a0⟩,⟨v1,a1⟩,v2,a2⟩:=H;exact⟨⟨v0,(h.keep _ (by omega) (by omega)).trans a0⟩,⟨v1,(h.keep _ (by omega) (by omega)).trans a1⟩,v2,(h.keep _ (by omega) (by omega)).trans a2⟩
 refine⟨K,fun q y b W o h=>?_,fun q y W o h=>?_,fun q W o h=>?_,fun q W o h=>h.put _,fun q y W h=>?_,fun q y b W h=>?_,fun q W h=>?_,fun q W h=>?_,?_⟩
 ·obtain⟨⟨B,i,h2,E,h4,h5,P⟩,O,h8⟩:=h;exact⟨⟨B,i.put _,i.putS h2 _,E,h4,h5,P.put (d:=C.V0.heap.size+1) cL (i.lt (by omega) (by omega)).2 _⟩,by rw[World.putObj_heap_other (by omega)];exact O,h8⟩
 ·exact⟨h.1.put _,h.2.put (d:=C.V0.heap.size+1) cL (h.1.lt (by omega) (by omega)).2 _⟩
 ·exact⟨h.1.put _,h.2.put (d:=C.V0.heap.size+1) cL (h.1.lt (by omega) (by omega)).2 _⟩
 ·obtain⟨B,i,E,h4,h5,P,O⟩:=h;have hl:=(i.lt (b:=C.V0.heap.size+1) (by omega) (by omega)).1
  refine⟨⟨⟨B,A.more (A.but i (But.alloc _ _ []) pV) (i.live.alloc _) (fun b f=>cx_ _ (i.mem b f)),E.but i.live (But.alloc _ _ []) pV,h4,h5,P,fun b f=>⟨?_,(O.1 b f).2⟩,fun b f=>?_⟩,aO _ _ rfl _,hl⟩,hl⟩
  ·rw[cq_ _ _ _ (i.live.loc b (cC_ _ f)).2.1];exact(O.1 b f).1
  ·rw[cq_ _ _ _ (i.live.ses.fix b f).1];exact O.2 b f
 ·obtain⟨⟨B,i,h2,E,h4,h5,P⟩,O,h8⟩:=h;have hl:=(i.lt (b:=C.V0.heap.size+1) (by omega) (by omega)).1
  have Z:y.t=B.time:=by
   obtain⟨s2,e1,e2,_⟩:=h2.sv;obtain rfl:=SV.val_inj e1;exact e2
  have ai:=(hg.sta E).1.time;refine⟨O,(i.keep _ af (aC aa)).trans aa,(i.keep _ ae (aC S)).trans S,s i,hl,K,by omega,fL B C.A,?_⟩
  refine(qM (w:=W.drew) (h2.keep (fun b _=>rfl) dX) (fun b v=>(i.live.ses.fix b v).1) (OQ.of hg E) hA (PN.grow (hi':=W.drew.heap.size) ad (fun k a b=>i.keep k (by omega) (by omega)) cL (by show hi<=W.heap.size;omega)) (i.live.pow.low fun _ _=>rfl)).mono ?_
  rintro e N ⟨rfl,v⟩;have D:Below W.heap.size W N:=⟨v.os,v.tape,v.output,v.size,v.block⟩
  have l:C.Q (B.time+1) (q.L++(C.new++C.L)) q.F q.n N:=by
   have hq:=A.but (L':=[]) i (But.below D []) pV;exact A.more hq (hq.live.drop fun x p=>cx_ _ p) (fun x p=>cI_ _ p)
  have hS:C.e.S q N:=⟨fun x p=>⟨by rw[D.block _ (i.live.loc x (by simp[p])).2.1];exact(P.1 x p).1,(P.1 x p).2⟩,fun x p=>by rw[D.block _ (i.live.ses.fix x p).1];exact P.2 x p⟩
  refine⟨rfl,D,fun hr=>⟨⟨l.live,l.mem,l.keep,l.fs,fun j Q j1 j2 j3=>?_⟩,hS⟩,fun hr=>?_⟩
  ·rcases cR_ B.time j with hj|hj
   ·exact l.sin j Q hj j2 j3
   ·obtain rfl:j=B.time:=by omega
    rw[E] at j3;cases j3;exact hr
  ·have g:=(DY N C.w.heap.size (y.t+1) 0 0).trans (But.alloc (gF N C.w.heap.size (y.t+1) 0 0) (.cells y.cells 49) []);rw[dz_] at g
   have r:∀b∈[C.w.heap.size,C.w.heap.size+1,C.w.heap.size+1+1],C.w.heap.size<=b/\b<C.V0.heap.size:=fun b f=>by
    simp only[cv_,cD_,or_false] at f;omega
   have V:∀b∈[C.w.heap.size,C.w.heap.size+1,C.w.heap.size+1+1],b∈q.L++(C.new++C.L):=fun b f=>l.mem b (cC_ _ (SCx.mem_new.2 ⟨(r b f).1,by have:=(r b f).2;omega⟩))
   obtain⟨r0,r1,r2⟩:=VA (s l) (y.t+1) 0 0;have J:∀b c,(gF N C.w.heap.size (y.t+1) 0 0).heap[b]?=some c->((gF N C.w.heap.size (y.t+1) 0 0).alloc (.cells y.cells 49)).heap[b]?=some c:=fun b c hc=>(cq_ _ _ _ (c3_.1 hc).1).trans hc
   refine⟨⟨l.live.but g V,l.mem,⟨l.fs.1.but g (fun b f=>(r b f).1) u,u,K⟩,y.t+1,J _ _ r0,J _ _ r1,J _ _ r2,by omega,by rw[Z];exact l.sin,by omega,fun Q Y=>?_⟩,fun x p=>⟨?_,(hS.1 x p).2⟩,fun x p=>?_⟩
   ·rw[Z,Nat.add_sub_cancel,E] at Y;cases Y;exact hr
   ·have q1:C.V0.heap.size+1<x:=(hS.1 x p).2;rw[g.blk x (l.live.loc x (by simp[p])).2.1 fun hm=>by have:=(r x hm).2;omega]
    exact(hS.1 x p).1
   ·rw[g.blk x (l.live.ses.fix x p).1 fun hm=>(l.live.loc x (V x hm)).2.2.1 p]
    exact hS.2 x p
 ·obtain⟨T, -⟩:=h;obtain⟨m,r0,r1,r2,r3,r4,r5,r6⟩:=T.res;have g:But [C.V0.heap.size] W (W.putObj C.V0.heap.size (.deferred none)):=But.put _ _ _;exact⟨m,r0,r1,r2,hR m _ _ _ ((T.live.but g fun b f=>by rw[cs_.1 f];exact T.mem _ (cC_ _ (SCx.mem_new.2 ⟨by omega,by omega⟩))).drop fun b f=>T.mem b (cI_ _ f)) (T.fs.1.but g (fun b f=>by rw[cs_.1 f];omega) u) r3 r4 fun _=>r6⟩
 ·have l:C.Q 0 (q.L++(C.new++C.L)) q.F q.n W:=h;have g:=(DY W C.w.heap.size 0 0 0).trans (But.put (gF W C.w.heap.size 0 0 0) C.V0.heap.size (.deferred none))
  have r:∀b∈[C.w.heap.size,C.w.heap.size+1,C.w.heap.size+1+1]++[C.V0.heap.size],C.w.heap.size<=b/\b<=C.V0.heap.size:=fun b f=>by
   simp only[cP_,dk_,cv_,cD_,or_false] at f;omega
  exact⟨s l,hR 0 _ _ _ ((l.live.but g fun b f=>l.mem _ (cC_ _ (SCx.mem_new.2 ⟨(r b f).1,by have:=(r b f).2;omega⟩))).drop fun b f=>l.mem b (cI_ _ f)) (l.fs.1.but g (fun b f=>(r b f).1) u) (cU_ _) l.sin fun h=>absurd h (Nat.lt_irrefl 0)⟩
 ·refine IU (C:=C.e) (F:=F) (n:=n) A hg ag C.V0 rfl ⟨cC_ _ (SCx.mem_new.2 ⟨by omega,by omega⟩),cC_ _ (SCx.mem_new.2 ⟨by omega,by omega⟩)⟩ (fun R0=>?_)
  have U:Below C.V0.heap.size C.V0 ((C.V0.alloc (.deferred (some []))).alloc (.loop R0)):=vM _ _ _;have M:Below C.w.heap.size C.w ((C.V0.alloc (.deferred (some []))).alloc (.loop R0)):=X.trans (U.mono X.size);have ab:((C.V0.alloc (.deferred (some []))).alloc (.loop R0)).heap.size=C.V0.heap.size+2:=by simp
  exact⟨I.freshL (I.but (But.below M []) pV) (M.block _ u) _ fun b f=>⟨(SCx.mem_new.1 f).1,by rw[ab];exact(SCx.mem_new.1 f).2⟩,fun _ h=>h,fun b _ f=>U.block b f,⟨FS.of_below M u,u,by omega⟩,fun j Q j1 j2 _=>by have:C.s.time<=j:=j1;omega⟩
section
variable {fp:eQ} {F:bX} {w:aG} {sb mb n:Nat} {mo:Obj} {ks:List aE} {tape:List Int} {s:bC} {L:List Nat}
def C3(hg:Good ks)(am:tape.length<=17592186044416)(h:Live fp F w sb mb mo ks tape s n L)(hT:gS w)(i:ByteArray)(hl:i.size<=maxLen):
 Calls prog 9 #[bH sb,.string i] w fun e w'=>∃m k l:Nat,e=aZ (.tuple #[Iv0 m,Iv0 k,Iv0 l])/\m7 fp sb mb mo ks tape s L i.data.toList w m k l w':=by
 obtain⟨s1,aj,k0,k1,k2,k3,k4,_⟩:=h.ses.cells;have M:=h.ses.lt;have Z:∀b,F b->b<w.heap.size:=fun b q=>(h.ses.fix b q).1
 have aa:OQ s:=OQ.of hg h.ses.now;generalize H:((w.alloc (.cells #[Iv0 0] 3)).alloc (.cells #[Iv0 0] 30)).alloc (.cells #[Iv0 0] 3)=p;have y:Below w.heap.size w p:=by rw[<-H];exact(((co_ _ w).alloc cL _).alloc (by simp) _).alloc (by simp only[World.size_alloc];omega) _
 have ao:p.heap.size=w.heap.size+3:=by rw[<-H];simp
 have ah:OM w.heap.size p:=by
  rw[<-H];refine⟨⟨Iv0 0,?_⟩,⟨Iv0 0,?_⟩,⟨Iv0 0,?_⟩⟩
  ·rw[cq_ _ _ _ (by simp only[World.size_alloc];omega),cq_ _ _ _ (by simp only[World.size_alloc];omega)];exact aO _ _ rfl _
  ·rw[cq_ _ _ _ (by simp only[World.size_alloc];omega)];exact aO _ _ (by simp only[World.size_alloc]) _
  ·exact aO _ _ (by simp only[World.size_alloc]) _
 have J:∀W,Below w.heap.size w W->Live fp F W sb mb mo ks tape s n L/\FS sb w W:=fun W q=>⟨h.but (But.below q []) pV,FS.of_below q M⟩
 have Q:∀W,Below p.heap.size p W->OM w.heap.size W:=fun W q=>by
  obtain⟨⟨v0,a0⟩,⟨v1,a1⟩,v2,a2⟩:=ah;exact⟨⟨v0,(q.block _ (by omega)).trans a0⟩,⟨v1,(q.block _ (by omega)).trans a1⟩,v2,(q.block _ (by omega)).trans a2⟩
 refine UY (τ:=Tg) w sb i s1 (m7 fp sb mb mo ks tape s L i.data.toList w)
  (fun k l W=>iR i.data.toList=.error (k,l)/\k≠0/\Below p.heap.size p W)
  (fun t z W=>∃A,iR i.data.toList=.ok A/\Below p.heap.size p W/\PN (Btw p.heap.size W.heap.size) W (.iface t z) A)
  (fun t z W r q V=>∃A,iR i.data.toList=.ok A/\r=fL s A/\Below p.heap.size p W/\PN (Btw p.heap.size W.heap.size) W (.iface t z) A/\Below (W.heap.size+1) (W.alloc (.cells #[.iface t z] 59)) V/\V.heap[q]?=some (.cells (P4 r) 63 (0,0))/\W.heap.size+1<=q)
  ?_ (fun k l W hP=>?_) (fun t z W hA=>?_) (fun t z W r q V hH=>?_)
 ·show Calls _ _ _ _ _
  rw[H];refine(wK i p (hT.below y) hl).mono ?_;rintro e w' ⟨q,⟨f,T,I,rfl⟩|⟨A,t,z,T,rfl,I⟩⟩
  ·exact cl_ ⟨f.1,f.2,I,rfl,T,I,q⟩
  ·exact ck_ ⟨t,z,rfl,A,T,q,I⟩
 ·obtain⟨T,I,q3⟩:=hP;have d:Below w.heap.size w W:=y.trans (q3.mono (by omega))
  have x:Below w.heap.size w ((gF W w.heap.size 0 k l).alloc (.cells #[.nilIface] 59)):=by
   have:=wF d cL 0 k l;exact this.alloc this.size _
  refine⟨Q W q3,?_,fun _=>rfl,cU_ _,fun e=>absurd e I,fun e=>absurd e I,⟨F,n,(J _ x).1⟩,(J _ x).2⟩
  unfold gG;rw[T]
 ·obtain⟨A,a,o,B⟩:=hA;have d:Below w.heap.size w W:=y.trans (o.mono (by omega))
  have cw:∀j v,w.cell? (aH sb j)=some v->W.cell? (aH sb j)=some v:=fun j v hv=>(World.cell?_of_block (d.block sb M)).trans hv
  have ac:=o.size
  have ae:∀U,Below W.heap.size W U->Calls prog 16 #[s1.val,.iface t z] U fun e Y=>e=aZ (YN (fL s A))/\Below U.heap.size U Y:=fun U N=>by
   have S:Below w.heap.size w U:=d.trans (N.mono d.size);exact qM (aj.keep (fun b O=>S.block b (Z b O)) dX) (fun b O=>cn_ (Z b O) S.size) aa (yO a) (PN.grow B (fun k _ hk=>N.block k hk) cL N.size) (h.pow.below S)
  refine⟨cn_ M d.size,cw _ _ k0,cw _ _ k1,cw _ _ k2,cw _ _ k3,cw _ _ k4,?_,fun c hc=>?_⟩
  ·have N:Below W.heap.size W (W.alloc (.cells #[.iface t z] 59)).drew:=by
    have:=(co_ W.heap.size W).alloc cL (.cells #[.iface t z] 59);exact⟨this.os,this.tape,this.output,this.size,this.block⟩
   refine(ae _ N).mono ?_;rintro e Y ⟨rfl,g⟩
   have u:Below (W.heap.size+1) (W.alloc (.cells #[.iface t z] 59)) Y:=by
    have:(W.alloc (.cells #[.iface t z] 59)).drew.heap.size=W.heap.size+1:=by
     show (W.alloc (.cells #[.iface t z] 59)).heap.size=_
     simp
    rw[this] at g;exact⟨g.os,g.tape,g.output,g.size,g.block⟩
   have K:=u.size;rw[World.size_alloc] at K;exact⟨_,rfl,A,a,rfl,o,B,u.alloc K _,aO _ _ rfl _,K⟩
  ·have N:Below W.heap.size W ((W.alloc (.cells #[.iface t z] 59)).drew.alloc (.cells c 63)):=by
    have:=vM W (.cells #[.iface t z] 59) (.cells c 63);exact⟨this.os,this.tape,this.output,this.size,this.block⟩
   refine(ae _ N).mono ?_;rintro e Y ⟨rfl,g⟩
   have ak:((W.alloc (.cells #[.iface t z] 59)).drew.alloc (.cells c 63)).heap.size=W.heap.size+2:=by
    show ((W.alloc (.cells #[.iface t z] 59)).alloc (.cells c 63)).heap.size=_
    simp
   have ag:((W.alloc (.cells #[.iface t z] 59)).drew.alloc (.cells c 63)).heap[W.heap.size+1]?=some (.cells c 63 (0,0)):=gM _ _ _;rw[ak] at g;have ab:Y.heap[W.heap.size+1]?=some (.cells c 63 (0,0)):=(g.block _ (by omega)).trans ag
   have u:Below (W.heap.size+1) (W.alloc (.cells #[.iface t z] 59)) Y:=by
    have h1:Below (W.heap.size+1) (W.alloc (.cells #[.iface t z] 59)) ((W.alloc (.cells #[.iface t z] 59)).drew.alloc (.cells c 63)):=by
     have:=(co_ (W.heap.size+1) (W.alloc (.cells #[.iface t z] 59))).alloc (by simp) (.cells c 63)
     exact⟨this.os,this.tape,this.output,this.size,this.block⟩
    exact h1.trans (g.mono (by omega))
   exact⟨_,rfl,ab,A,a,rfl,o,B,MI u cL _,VB ab hc,cL⟩
 ·obtain⟨A,a,rfl,o,B,hV,ad,aq⟩:=hH;have d:Below w.heap.size w W:=y.trans (o.mono (by omega))
  have ac:=o.size;have P:Below W.heap.size W V:=((co_ W.heap.size W).alloc cL (.cells #[.iface t z] 59)).trans (hV.mono (by omega))
  have ai:=hV.size;rw[World.size_alloc] at ai;have E:Below w.heap.size w V:=d.trans (P.mono d.size);have af:Below p.heap.size p V:=o.trans (P.mono ac);have an:V.heap[W.heap.size]?=some (.cells #[.iface t z] 59 (0,0)):=(hV.block _ (by omega)).trans (aO _ _ rfl _)
  refine⟨ad,Q V af,fun hr=>?_,fun hr=>?_⟩
  ·have x:Below w.heap.size w (gF V w.heap.size 0 (fL s A).2.1 (fL s A).2.2).drew:=by
    have:=wF E cL 0 (fL s A).2.1 (fL s A).2.2;exact⟨this.os,this.tape,this.output,this.size,this.block⟩
   exact⟨by rw[pT a],fun _=>rfl,cU_ _,fun e=>absurd e hr,fun e=>absurd e hr,⟨F,n,(J _ x).1⟩,(J _ x).2⟩
  ·have ap:V.heap.size<(V.alloc (.cells #[bH sb] 23)).heap.size:=by simp
   have X:Below V.heap.size V (V.alloc (.cells #[bH sb] 23)):=(co_ _ V).alloc cL _;have D:∀b c,V.heap[b]?=some c->(V.alloc (.cells #[bH sb] 23)).heap[b]?=some c:=fun b c hc=>(X.block b (c3_.1 hc).1).trans hc
   refine⟨_,_,_,_,_,bv_ (C:=⟨fp,sb,mb,mo,ks,tape,s,L,w,V.alloc (.cells #[bH sb] 23),A,V.heap.size⟩) (lo:=p.heap.size) (hi:=W.heap.size) hg am h (E.trans (X.mono E.size)) (aO _ _ rfl _) E.size (D _ _ an) d.size (D _ _ ad) (by show w.heap.size<=q;have:=d.size;omega) ?_ ?_ y.size (by show W.heap.size<=(V.alloc _).heap.size;rw[World.size_alloc];omega) (yO a) ?_⟩
   ·obtain⟨⟨v0,a0⟩,⟨v1,a1⟩,v2,a2⟩:=Q V af;exact⟨⟨v0,D _ _ a0⟩,⟨v1,D _ _ a1⟩,v2,D _ _ a2⟩
   ·exact PN.grow B (fun k _ hk=>(X.block k (by omega)).trans (P.block k hk)) cL cL
   ·intro m G n' W' T I q3 q4 q5;refine⟨by rw[pT a];exact(xB hr).symm,fun e=>absurd rfl e,q3,fun _ j τ j1 j2 j3=>?_,fun _ hm τ al=>?_,⟨G,n',T⟩,I⟩
    ·rw[pT a,pT a];rcases cR_ j s.time with hj|hj
     ·exact q4 j τ j1 hj j3
     ·obtain rfl:j=s.time:=by omega
      rw[h.ses.now] at j3;cases j3;rfl
    ·rw[pT a,pT a];exact q5 hm τ al
end
def a2_:prog.cellsOf 3=1:=by kernel_rfl
section
variable {H:Type} {enc:TypeId × Value->H} {W:aG} {base fuel n c:Nat} {spare:Nat->Bool} {held:Bool} {y:Option Addr} {x:DataW H × List MemPlace} {ts:List TypeId} {ds:List (DataW H)} {j:Nat}
def F2(h:DataW.trod enc prog W base spare held fuel 22 [.slice y n c]=some x)(L:(DataW.weightsEach prog ts ds).all (·<=reachBytes)=true)(E:ts[j]?=some 22)(B:ds[j]?=some x.1):
 ∃tape:List Int,tape.length=n/\n<=17592186044416/\(∀z∈tape, -9223372036854775808<=z/\z<=9223372036854775807)/\(0<n->∃l,y=some l/\l.block<W.heap.size/\∀j v,(tape.map (Value.int .i64))[j]?=some v->W.cell? (l.add j)=some v):=by
 have I:=reachBytes_lt;rcases Deep.open_slice1 underlying22 a2_ h with ⟨d,O⟩|⟨a,N,G,m,k,V,D,Pl,d,r,P,Q,f,rfl,M⟩
 ·simp at d;obtain⟨rfl,rfl,rfl⟩:=d;exact⟨[],rfl,by omega,(fun o e=>by cases e),fun h=>by omega⟩
 ·simp at d;obtain⟨rfl,rfl,rfl⟩:=d;have K:n<=m:=by rw[f];split<;>omega
  have b:∀i,i<n->∃q:Int,W.cell? (a.add i)=some (Iv0 q)/\(-9223372036854775808<=q/\q<=9223372036854775807):=by
   intro i w;obtain⟨t,C⟩:=M i (by omega)
   obtain⟨J,s,_,u⟩:=DataW.trod_int underlying3 C;simp at s;rw[s] at t;refine⟨J,t,?_⟩;simp[Lit.wf] at u;exact u
  obtain⟨q,g⟩:=Deep.choose_lt b;refine⟨(List.range n).map q,by simp,?_,fun o e=>?_,fun F=>⟨a,rfl,?_,fun j v p=>?_⟩⟩
  ·have:=sized_slice L E B underlying22;have r:prog.bytesOf 3=8:=by kernel_rfl
   rw[r] at this;simp at this;omega
  ·simp only[dn_,List.mem_range] at e;obtain⟨i,w,rfl⟩:=e;exact(g i w).2
  ·rcases cR_ a.block W.heap.size with h|h
   ·exact h
   ·have H:=(g 0 F).1;simp[World.cell?,Addr.add,dc_ h] at H
  ·have A:j<n:=by
    have:=(cQ_.1 p).1;simpa using this
   simp[A] at p;rw[(g j A).1,<-p]
end
def FG{s c:bC}{l:cD}(h:(gG s l).2.1=0)(a:gG s l≠gG c l):(gG s l).2=(0,0):=by
 unfold gG at h a ⊢
 cases b:iR l with
 |error f=>rw[b] at a;exact absurd rfl a
 |ok A=>rw[b] at h;exact xB h
structure Since(ks:List aE)(tape:List Int)(ex:cD)(u:Nat)(r:(cD × Nat) × Nat × Nat)(i:Nat):Prop where
 le:i<=u
 now:∃x,bU ks tape u=some x/\r=gG x ex
 same:r.2.1=0->∀j τ,i<=j->j<=u->bU ks tape j=some τ->gG τ ex=r
 other:r.2.1=0->0<i->∀τ,bU ks tape (i-1)=some τ->gG τ ex≠r
section
variable {w:aG} {ks:List aE} {tape:List Int} {sb:Nat} {W:aG} {L:List Nat} {s:bC}
def nM.seek(o:Good ks)(d:tape.length<=17592186044416)(h:nM w ks tape sb W L s)(t:Nat)(x:bC)(j:bU ks tape t=some x):
 Calls prog 7 #[bH sb,Iv0 t] W fun e f=>(∃b,e=aZ (.bool b))/\nM w ks tape sb f L x:=by
 obtain⟨⟨m,F,r,l,n,i⟩,c,a⟩:=h;refine(QA o d i t).mono ?_;rintro e f ⟨b,rfl,G,k,y,u,z,v⟩;rcases z with ⟨rfl,A,g⟩|⟨_,_,q|q⟩
 ·have:y.time=t:=by omega
  rw[this,j] at g;cases g;exact⟨⟨_,rfl⟩,⟨m,G,r,l,k,u⟩,c,Below.fs a v c fun _ p=>(i.row p).1⟩
 ·omega
 ·rw[Int.toNat_natCast,j] at q;cases q
end
def RJ(w:aG)(D q:cD)(tx:Option Addr)(c:Nat)(I:Int)(b:List Int)(hT:gS w)(hp:kM w)(af:9<=w.heap.size)(hs:D.length<=140737488355328)(aq:q.length<=140737488355328)(h1: -9223372036854775808<=I)(h2:I<=9223372036854775807)(K:b.length<=17592186044416)(hi:∀x∈b, -9223372036854775808<=x/\x<=9223372036854775807)
 (al:0<b.length->∃ad,tx=some ad/\ad.block<w.heap.size/\∀j v,(b.map (Value.int .i64))[j]?=some v->w.cell? (ad.add j)=some v):
 Calls prog 3 #[.string (bs D),.slice tx b.length c,Iv0 I,.string (bs q)] w fun e E=>e=aZ (.bool true)/\Below w.heap.size w E:=by
 have T:(bs q).size<=maxLen:=by rw[gR];unfold maxLen;omega
 have S:∀{d f W s},Good d->nM w d b f W [] s->Calls prog 8 #[bH f,.string (bs q)] W fun e E=>e=aZ (.tuple #[.string (bs (gG s q).1.1),Iv0 (gG s q).1.2,Iv0 (gG s q).2.1,Iv0 (gG s q).2.2])/\nM w d b f E [] s:=fun {d f W s} g A=>by
  have z:=A;obtain⟨⟨U,F,N,mo,n,H⟩,B,o⟩:=A;refine(C6 H.ses (OQ.of g H.ses.now) H.pow (hT.below o) (bs q) T).mono ?_;rintro e E ⟨rfl,Q⟩;exact⟨rfl,z.below Q⟩
 refine ND w (bs D) (bs q) tx b.length c I
  (fun p W=>Below w.heap.size w W/\((p=none/\(cI D).1≠0)\/∃f d U G N s,p=some (aH f 0)/\Good d/\Live U G W f N (.map #[] 0) d b s 1 []/\s.time=0/\w.heap.size<=f/\w.heap.size<=N/\cW D=.ok d/\cI D=(0,0))) (fun W=>Below w.heap.size w W)
  (fun f u W=>∃d s x,Good d/\nM w d b f W [] s/\bU d b u=some x)
  (fun f u W=>∃d s,Good d/\nM w d b f W [] s/\s.time=u)
  (fun f u r W=>∃d s,Good d/\nM w d b f W [] s/\s.time=u/\r=gG s q)
  (fun f u r i W=>∃d s,Good d/\nM w d b f W [] s/\s.time=u/\Since d b q u r i)
  (fun f u r i W=>∃d s,Good d/\nM w d b f W [] s/\Since d b q u r i)
  (fun f u r i t W=>∃d s,Good d/\nM w d b f W [] s/\t<=u/\r.2.1=0/\Since d b q u r i)
  (fun f u r i t W=>∃d s,Good d/\nM w d b f W [] s/\s.time=t/\t<u/\i<=t+1/\r.2.1=0/\Since d b q u r i)
  (P0 w D tx c b hT hp af hs K hi al) (fun p W hB=>?_) (fun f u W P=>?_) (fun f u W P=>?_) (fun f u r W P=>?_) (fun f u r i W P=>?_) (fun f u r i W P=>?_) (fun f u r i t W hJ=>?_) (fun f u r i t W hK=>?_)
 ·obtain⟨Q,⟨rfl,_⟩|⟨f,d,U,G,N,s,rfl,g,H,ht,B,_⟩⟩:=hB
  ·exact cl_ ⟨rfl,Q⟩
  ·refine ck_ ⟨f,rfl,(K6 g K H).mono ?_⟩;rintro e E ⟨m,rfl,⟨⟨x,M⟩,ap⟩,G',n',X,h3,h4⟩;have ac:=(g.sta M).1.time;have Y:=(g.sta M).2.1;obtain⟨k,hk,ae⟩:=E4 I (m+1) (by omega) (by omega) h1 h2
   refine⟨m,rfl,by omega,k,by omega,?_⟩
   have hc:((m+1:Nat):Int)=(m:Int)+1:=by omega
   rw[hc] at ae;refine(ae E).mono ?_;rintro e w2 ⟨rfl,rfl⟩;have hA:nM w d b f w2 [] X:=⟨⟨U,G',N,_,n',h3⟩,B,Below.fs Q h4 B fun _ hk=>(H.row hk).1⟩
   rcases cR_ k m with aa|aa
   ·obtain⟨y,hy,_⟩:=DR M aa;exact⟨rfl,d,X,y,g,hA,hy⟩
   ·obtain rfl:k=m:=by omega
    exact⟨rfl,d,X,x,g,hA,M⟩
 ·obtain⟨d,s,x,g,A,M⟩:=P;have Y:=g.sta M;have ac:=Y.1.time;refine⟨by omega,(A.seek g K u x M).mono ?_⟩
  rintro e E ⟨Q,z⟩;exact⟨Q,d,x,g,z,Y.2.1⟩
 ·obtain⟨d,s,g,A,ht⟩:=P;refine(S g A).mono ?_;rintro e E ⟨rfl,z⟩;exact⟨_,rfl,d,s,g,z,ht,rfl⟩
 ·obtain⟨d,s,g,A,rfl,rfl⟩:=P;obtain⟨⟨U,F,N,mo,n,H⟩,B,o⟩:=A;refine(C3 g K H (hT.below o) (bs q) T).mono ?_;rintro e E ⟨i,k,l,rfl,V⟩;obtain⟨G,n',q1⟩:=V.live;have C:=V.kind;rw[fX] at C;have O:k=(gG s q).2.1:=by rw[<-C]
  have ag:l=(gG s q).2.2:=by rw[<-C]
  have hA:nM w d b f E [] s:=⟨⟨U,G,N,mo,n',q1⟩,B,Below.fs o V.fs B fun _ hk=>(H.row hk).1⟩
  refine⟨i,by rw[O,ag],V.le,fun J=>V.bad (by rw[O];exact J),d,s,g,hA,rfl,V.le,⟨s,H.ses.now,rfl⟩,fun h0 j X j1 j2 j3=>?_,fun h0 an X am=>?_⟩
  ·have:=V.same (by rw[O];exact h0) j X j1 j2 j3
   rw[fX] at this;exact this
  ·have:=V.other (by rw[O];exact h0) an X am
   rw[fX] at this;exact this
 ·obtain⟨d,s,g,A,rfl,L⟩:=P;refine(A.now g).mono ?_;rintro e E ⟨a,rfl,q1,q2,q3,q4,_⟩;obtain⟨⟨U,F,N,mo,n,H⟩,B,o⟩:=q2;exact⟨a,rfl,q3.mom.t,d,s,g,⟨⟨U,F,N,mo,n,H.drop pV⟩,B,o⟩,L⟩
 ·obtain⟨d,s,g,A,L⟩:=P;exact⟨fun _=>A.low,fun h0=>⟨d,s,g,A,cL,h0,L⟩⟩
 ·obtain⟨d,s,g,A,ak,hr,L⟩:=hJ;refine⟨fun _=>A.low,fun t' he ai=>?_⟩
  subst he;obtain⟨x,M,_⟩:=L.now;obtain⟨y,hy,_⟩:=DR M (t:=t') (by omega)
  refine(A.seek g K t' y hy).mono ?_;rintro e E ⟨Q,z⟩;exact⟨Q,d,y,g,z,(g.sta hy).2.1,by omega,by omega,hr,L⟩
 ·obtain⟨d,s,g,A,rfl,ak,ai,hr,L⟩:=hK;have ab:=A.st;refine⟨gG s q,(S g A).mono ?_⟩;rintro e E ⟨rfl,z⟩;refine⟨rfl,?_,d,s,g,z,by omega,hr,L⟩
  rw[decide_eq_decide];constructor
  ·rintro⟨a1,a2,a3⟩;rcases cR_ s.time i with ao|Z
   ·have ah:i-1=s.time:=by omega
    have J:=L.other hr (by omega) s (by rw[ah];exact ab)
    obtain⟨x,M,rfl⟩:=L.now;have hz:=FG a3 J;have aj:(gG x q).2=(0,0):=FG hr fun h=>J h.symm
    exact absurd (Prod.ext (Prod.ext a1 a2) (hz.trans aj.symm)) J
   ·exact Z
  ·intro Z;have:=L.same hr s.time s Z (by omega) ab
   rw[this];exact⟨rfl,rfl,hr⟩
end Go.Proofs.YtmjbnmpamlainaaGreatDoor
