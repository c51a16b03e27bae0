/- Contracts of the program: what is deferred at the face: a fault is caught. -/
import Derived.Test.YtmjbnmpamlainaaGreatDoorP00
set_option linter.defProp false
set_option maxRecDepth 100000
set_option maxHeartbeats 4000000
namespace Go.Proofs.YtmjbnmpamlainaaGreatDoor
open _root_.Go.Proofs.Tryz
open Instr(typeAssert)
open Go.RowKit
def pH{w:aG}{b:Nat}{o:Obj}(h:w.heap[b]?=some o):b<w.heap.size:=by
 rcases cR_ b w.heap.size with a|a
 ·exact a
 ·rw[dc_ a] at h;cases h
def kT{w:aG}{b i:Nat}{c:Array Value}{e:TypeId}(h:w.heap[b]?=some (.cells c e (0,0))){v:aQ}(a:c[i]?=some v):w.cell? (aH b i)=some v:=by
 simp[World.cell?,h,a]
def mO{w:aG}{b i:Nat}{c:Array Value}{e:TypeId}(h:w.heap[b]?=some (.cells c e (0,0))):w.frozen? (aH b i)=false:=by
 simp[World.frozen?,h]
def ac_(p q k n:Nat)(w:World)(b:w.heap[p]?=some (.cells #[.int .i64 0] 30 (0,0)))(c:w.heap[q]?=some (.cells #[.int .i64 0] 3 (0,0)))(a:p<q):
 Below p w (((w.setCell ⟨p,0,none⟩ (.int .i64 k)).setCell ⟨q,0,none⟩ (.int .i64 n)).alloc (.cells #[.int .i64 k,.int .i64 n] 94)).drew
 /\(((w.setCell ⟨p,0,none⟩ (.int .i64 k)).setCell ⟨q,0,none⟩ (.int .i64 n)).alloc (.cells #[.int .i64 k,.int .i64 n] 94)).drew.cell? ⟨p,0,none⟩=some (.int .i64 k)
 /\(((w.setCell ⟨p,0,none⟩ (.int .i64 k)).setCell ⟨q,0,none⟩ (.int .i64 n)).alloc (.cells #[.int .i64 k,.int .i64 n] 94)).drew.cell? ⟨q,0,none⟩=some (.int .i64 n):=by
 have i:w.cell? ⟨p,0,none⟩=some (.int .i64 0):=kT b rfl;have l:w.cell? ⟨q,0,none⟩=some (.int .i64 0):=kT c rfl;have e:=pH b;have g:=pH c;have h:¬p=q:=by omega
 have j:¬q=p:=by omega
 have f:¬p=w.heap.size:=by omega
 have d:¬q=w.heap.size:=by omega
 refine⟨((((co_ p w).setCell (cy_ p) _).setCell (dv_ a) _).alloc (by simp;omega) _).drew,?_,?_⟩
 ·simp[go_sem,i,e]
 ·simp[go_sem,l,g]
def T8(p q k n:Nat)(w:World)(b:w.heap[p]?=some (.cells #[.int .i64 0] 30 (0,0)))(c:w.heap[q]?=some (.cells #[.int .i64 0] 3 (0,0)))(a:p<q):
 Below p w (((w.setCell ⟨q,0,none⟩ (.int .i64 n)).setCell ⟨p,0,none⟩ (.int .i64 k)).alloc (.cells #[.int .i64 k,.int .i64 n] 94)).drew
 /\(((w.setCell ⟨q,0,none⟩ (.int .i64 n)).setCell ⟨p,0,none⟩ (.int .i64 k)).alloc (.cells #[.int .i64 k,.int .i64 n] 94)).drew.cell? ⟨p,0,none⟩=some (.int .i64 k)
 /\(((w.setCell ⟨q,0,none⟩ (.int .i64 n)).setCell ⟨p,0,none⟩ (.int .i64 k)).alloc (.cells #[.int .i64 k,.int .i64 n] 94)).drew.cell? ⟨q,0,none⟩=some (.int .i64 n):=by
 have i:w.cell? ⟨p,0,none⟩=some (.int .i64 0):=kT b rfl;have l:w.cell? ⟨q,0,none⟩=some (.int .i64 0):=kT c rfl;have e:=pH b;have g:=pH c;have h:¬p=q:=by omega
 have j:¬q=p:=by omega
 have f:¬p=w.heap.size:=by omega
 have d:¬q=w.heap.size:=by omega
 refine⟨((((co_ p w).setCell (dv_ a) _).setCell (cy_ p) _).alloc (by simp;omega) _).drew,?_,?_⟩
 ·simp[go_sem,i,e]
 ·simp[go_sem,l,g]
def aF_(v:aQ)(w:aG):(typeAssert (.iface 94 v) 20 94 true).run prog w=.ok (.tuple #[v,.bool true]) w:=by kernel_rfl
def AH(p q k n:Nat)(a:List PanicEntry)(w:aG)(c:w.heap[p]?=some (.cells #[Iv0 0] 30 (0,0)))(b:w.heap[q]?=some (.cells #[Iv0 0] 3 (0,0)))(d:p<q):
 CallsD prog 43 #[bH p,bH q] (.panicking ({ v:=.iface 94 (.agg #[Iv0 k,Iv0 n]),recovered:=false }::a)) w fun e u f=>
  e=aZ (.tuple #[])/\u=.panicking ({ v:=.iface 94 (.agg #[Iv0 k,Iv0 n]),recovered:=true }::a)/\Below p w f/\f.cell? (aH p 0)=some (Iv0 k)/\f.cell? (aH q 0)=some (Iv0 n):=by
 have H:=kT c (i:=0) rfl;have E:=kT b (i:=0) rfl;have B:=mO (i:=0) c;have C:=mO (i:=0) b;have F:=pH c;have G:=pH b;have A:=aF_;refine callsD_of_wpS func43 rfl fun r D y=>?_
 apply wpS_seq
 apply wpS_region
 simp[wpOpsS,go_sem,recoverD,y,ntmps43,Exit.thenS];refine wpS_of_wp ?_;have t:¬p=q:=by omega
 have z:¬q=p:=by omega
 have x:¬p=w.heap.size:=by omega
 have s:¬q=w.heap.size:=by omega
 obtain⟨o,j,m⟩:=ac_ p q k n w c b d;obtain⟨g,l,h⟩:=T8 p q k n w c b d;clear c b;go_wp2_with fail;go_region
 all_goals
  go_wp2_with fail;first
  |exact⟨rfl,_,rfl,.tuple #[],by simp[results,results43],rfl,rfl,o,j,m⟩
  |exact⟨rfl,_,rfl,.tuple #[],by simp[results,results43],rfl,rfl,g,l,h⟩
def GB(p q:Addr)(w:aG):
 CallsD prog 43 #[.pointer (some p),.pointer (some q)] .returning w fun e d c=>e=aZ (.tuple #[])/\d=.returning/\c=w:=by
 refine callsD_of_wpS func43 rfl fun a f b=>?_
 apply wpS_seq
 apply wpS_region
 simp[wpOpsS,go_sem,recoverD,b,ntmps43,Exit.thenS];refine wpS_of_wp ?_;go_wp2_with fail;exact⟨rfl,a.mode,rfl,.tuple #[],by simp[results,results43],rfl,b,rfl⟩
def jM(w:aG)(o a:Obj):((w.alloc o).alloc a).heap[w.heap.size]?=some o:=by
 rw[cq_ _ _ _ (by simp)]
 show (w.heap.push o)[w.heap.size]?=_
 rw[Array.getElem?_push,if_pos rfl]
def gM(w:aG)(o a:Obj):((w.alloc o).alloc a).heap[w.heap.size+1]?=some a:=by
 show ((w.alloc o).heap.push a)[w.heap.size+1]?=_
 rw[Array.getElem?_push,if_pos (by simp)]
def vE(fn:Fn)(first a:Array Value)(w:aG):(Instr.makeFunc fn first a).run prog w=.ok (.func fn first a) w:=rfl
def SA(a:Nat × Nat)(b:Nat)(w:aG)
 (r:∀c,Below w.heap.size w c->Calls prog 27 #[bH b] c fun e n=>Below c.heap.size c n/\((a=(0,0)/\e=aZ (.tuple #[]))\/(a.1≠0/\e=.panicked [{ v:=.iface 94 (.agg #[Iv0 a.1,Iv0 a.2]),recovered:=false }]))):
 Calls prog 21 #[.func (.func 27) #[] #[bH b]] w fun e n=>Below w.heap.size w n/\(a.1=0->a=(0,0))/\e=aZ (.tuple #[Iv0 a.1,Iv0 a.2]):=by
 have u:=vE;have j:Below w.heap.size w ((w.alloc (.cells #[Iv0 0] 30)).alloc (.cells #[Iv0 0] 3)):=((co_ _ w).alloc cL _).alloc (by simp) _
 have t:=r _ j;clear r;go_enter_defers func21,ntmps21
 go_wp2_with fail;refine t.mono ?_;rintro e c ⟨d,k⟩;have m:c.heap[w.heap.size]?=some (.cells #[Iv0 0] 30 (0,0)):=by rw[d.block _ (by simp;omega)];exact jM _ _ _
 have l:c.heap[w.heap.size+1]?=some (.cells #[Iv0 0] 3 (0,0)):=by rw[d.block _ (by simp)];exact gM _ _ _
 have s:Below w.heap.size w c:=j.trans (d.mono (by simp;omega))
 clear d j t;rcases k with ⟨k,rfl⟩|⟨k,rfl⟩
 ·have q:=kT m (i:=0) rfl;have o:=kT l (i:=0) rfl;have A:=mO (i:=0) m;have B:=mO (i:=0) l;have C:=pH m;have D:=pH l;go_wp2_with fail;refine leaves_cons (f:=43) (args:= #[bH w.heap.size,bH (w.heap.size+1)]) (by simp) (by simp[go_sem]) ?_
  refine(GB (aH w.heap.size 0) (aH (w.heap.size+1) 0) _).mono ?_;rintro e x z ⟨rfl,rfl,rfl⟩;subst k;have g:Below w.heap.size w ((c.setCell (aH w.heap.size 0) (Iv0 0)).setCell (aH (w.heap.size+1) 0) (Iv0 0)):=(s.setCell cL _).setCell (Nat.le_succ _) _;simp[Leaves,settle,results,results21,go_sem,q,o];exact g
 ·have y:Hid (a.1=0->a=(0,0)):=fun h=>absurd h k
  clear k;go_wp2_with fail;refine leaves_cons (f:=43) (args:= #[bH w.heap.size,bH (w.heap.size+1)]) (by simp) (by simp[go_sem]) ?_
  refine(AH w.heap.size (w.heap.size+1) a.1 a.2 [] _ m l (cW_ _)).mono ?_;rintro e x E ⟨rfl,rfl,p,q,o⟩;have g:=s.trans p;simp[Leaves,settle,results,results21,go_sem,q,o];exact⟨g,y⟩
def j5(a:Nat × Nat)(c:ByteArray)(w:aG)
 (j:∀b,Below w.heap.size w b->b.cell? (aH w.heap.size 0)=some (.string c)->w.heap.size<b.heap.size->Calls prog 27 #[bH w.heap.size] b fun e i=>Below b.heap.size b i/\((a=(0,0)/\e=aZ (.tuple #[]))\/(a.1≠0/\e=.panicked [{ v:=.iface 94 (.agg #[Iv0 a.1,Iv0 a.2]),recovered:=false }]))):
 Calls prog 13 #[.string c] w fun e i=>Below w.heap.size w i/\(a.1=0->a=(0,0))/\e=aZ (.tuple #[Iv0 a.1,Iv0 a.2]):=by
 have n:=vE;have d:Below w.heap.size w (w.alloc (.cells #[.string c] 9)):=(co_ _ w).alloc cL _
 have k:=SA a w.heap.size (w.alloc (.cells #[.string c] 9)) fun b f=>j b (d.trans (f.mono (by simp))) (by
  rw[f.cell (by simp)]
  simp[go_sem]) (cn_ (by simp) f.size)
 clear j;go_in
 go_wp2_with fail;refine k.mono ?_;rintro e b ⟨g,l,rfl⟩;have h:=d.trans (g.mono (by simp))
 have m:Hid (a.1=0->a=(0,0)):=l;clear d g k l;go_wp2
 go_ret2
 exact⟨h,m,rfl⟩
end Go.Proofs.YtmjbnmpamlainaaGreatDoor
