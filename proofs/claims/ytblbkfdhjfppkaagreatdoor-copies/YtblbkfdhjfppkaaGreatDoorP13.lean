/- Contracts of the program: what is deferred at the face: a fault is caught. -/
import Derived.Test.YtblbkfdhjfppkaaGreatDoorB02
set_option maxRecDepth 100000
set_option maxHeartbeats 4000000
namespace Go.Proofs.YtblbkfdhjfppkaaGreatDoor
open Tryz(prog)
open Go.RowKit
theorem qO{w:World}{b:Nat}{o:Obj}(h:w.heap[b]?=some o):b<w.heap.size:=by
 rcases ag_ b w.heap.size with h1|h1
 ·exact h1
 ·rw[au_ h1] at h;cases h
theorem lS{w:World}{b i:Nat}{c:Array Value}{e:TypeId}(h:w.heap[b]?=some (.cells c e (0,0))){v:Value}(hv:c[i]?=some v):w.cell? ⟨b,i,none⟩=some v:=by
 simp[World.cell?,h,hv]
theorem oT{w:World}{b i:Nat}{c:Array Value}{e:TypeId}(h:w.heap[b]?=some (.cells c e (0,0))):w.frozen? ⟨b,i,none⟩=false:=by
 simp[World.frozen?,h]
theorem O9(p q k n:Nat)(w:World)(hp:w.heap[p]?=some (.cells #[.int .i64 0] 22 (0,0)))(hq:w.heap[q]?=some (.cells #[.int .i64 0] 3 (0,0)))(hpq:p<q):
 Below p w (((w.setCell ⟨p,0,none⟩ (.int .i64 k)).setCell ⟨q,0,none⟩ (.int .i64 n)).alloc (.cells #[.int .i64 k,.int .i64 n] 141)).drew
 /\(((w.setCell ⟨p,0,none⟩ (.int .i64 k)).setCell ⟨q,0,none⟩ (.int .i64 n)).alloc (.cells #[.int .i64 k,.int .i64 n] 141)).drew.cell? ⟨p,0,none⟩=some (.int .i64 k)
 /\(((w.setCell ⟨p,0,none⟩ (.int .i64 k)).setCell ⟨q,0,none⟩ (.int .i64 n)).alloc (.cells #[.int .i64 k,.int .i64 n] 141)).drew.cell? ⟨q,0,none⟩=some (.int .i64 n):=by
 have c0:w.cell? ⟨p,0,none⟩=some (.int .i64 0):=lS hp rfl;have c1:w.cell? ⟨q,0,none⟩=some (.int .i64 0):=lS hq rfl;have l0:=qO hp;have l1:=qO hq;have hn1:¬p=q:=by omega
 have hn2:¬q=p:=by omega
 have hn3:¬p=w.heap.size:=by omega
 have hn4:¬q=w.heap.size:=by omega
 refine⟨((((m8 p w).setCell (l9 p) _).setCell (aX_ hpq) _).alloc (by simp;omega) _).drew,?_,?_⟩
 ·simp[go_sem,c0,l0]
 ·simp[go_sem,c1,l1]
theorem F2(p q k n:Nat)(w:World)(hp:w.heap[p]?=some (.cells #[.int .i64 0] 22 (0,0)))(hq:w.heap[q]?=some (.cells #[.int .i64 0] 3 (0,0)))(hpq:p<q):
 Below p w (((w.setCell ⟨q,0,none⟩ (.int .i64 n)).setCell ⟨p,0,none⟩ (.int .i64 k)).alloc (.cells #[.int .i64 k,.int .i64 n] 141)).drew
 /\(((w.setCell ⟨q,0,none⟩ (.int .i64 n)).setCell ⟨p,0,none⟩ (.int .i64 k)).alloc (.cells #[.int .i64 k,.int .i64 n] 141)).drew.cell? ⟨p,0,none⟩=some (.int .i64 k)
 /\(((w.setCell ⟨q,0,none⟩ (.int .i64 n)).setCell ⟨p,0,none⟩ (.int .i64 k)).alloc (.cells #[.int .i64 k,.int .i64 n] 141)).drew.cell? ⟨q,0,none⟩=some (.int .i64 n):=by
 have c0:w.cell? ⟨p,0,none⟩=some (.int .i64 0):=lS hp rfl;have c1:w.cell? ⟨q,0,none⟩=some (.int .i64 0):=lS hq rfl;have l0:=qO hp;have l1:=qO hq;have hn1:¬p=q:=by omega
 have hn2:¬q=p:=by omega
 have hn3:¬p=w.heap.size:=by omega
 have hn4:¬q=w.heap.size:=by omega
 refine⟨((((m8 p w).setCell (aX_ hpq) _).setCell (l9 p) _).alloc (by simp;omega) _).drew,?_,?_⟩
 ·simp[go_sem,c0,l0]
 ·simp[go_sem,c1,l1]
theorem S7(v:Value)(w:World):(Instr.typeAssert (.iface 141 v) 20 141 true).run prog w=.ok (.tuple #[v,.bool true]) w:=by kernel_rfl
theorem QW(p q k n:Nat)(older:List PanicEntry)(w:World)(hp:w.heap[p]?=some (.cells #[.int .i64 0] 22 (0,0)))(hq:w.heap[q]?=some (.cells #[.int .i64 0] 3 (0,0)))(hpq:p<q):
 CallsD prog 75 #[.pointer (some ⟨p,0,none⟩),.pointer (some ⟨q,0,none⟩)] (.panicking ({ v:=.iface 141 (.agg #[.int .i64 k,.int .i64 n]),recovered:=false }::older)) w fun e u' w'=>
  e=.returned (.tuple #[])/\u'=.panicking ({ v:=.iface 141 (.agg #[.int .i64 k,.int .i64 n]),recovered:=true }::older)/\Below p w w'/\w'.cell? ⟨p,0,none⟩=some (.int .i64 k)/\w'.cell? ⟨q,0,none⟩=some (.int .i64 n):=by
 have c0:=lS hp (i:=0) rfl;have c1:=lS hq (i:=0) rfl;have f0:=oT (i:=0) hp;have f1:=oT (i:=0) hq;have l0:=qO hp;have l1:=qO hq;have hft:=S7;refine callsD_of_wpS Tryz.func75 rfl fun c₀ cs hu=>?_
 apply wpS_seq
 apply wpS_region
 simp[wpOpsS,go_sem,recoverD,hu,Tryz.ntmps75,Exit.thenS];refine wpS_of_wp ?_;have hn1:¬p=q:=by omega
 have hn2:¬q=p:=by omega
 have hn3:¬p=w.heap.size:=by omega
 have hn4:¬q=w.heap.size:=by omega
 obtain⟨b12,x12,y12⟩:=O9 p q k n w hp hq hpq;obtain⟨b21,x21,y21⟩:=F2 p q k n w hp hq hpq;clear hp hq;go_wp2_with fail;go_region
 all_goals
  go_wp2_with fail;first
  |exact⟨rfl,_,rfl,.tuple #[],by simp[results,Tryz.results75],rfl,rfl,b12,x12,y12⟩
  |exact⟨rfl,_,rfl,.tuple #[],by simp[results,Tryz.results75],rfl,rfl,b21,x21,y21⟩
theorem VF(p q:Addr)(w:World):
 CallsD prog 75 #[.pointer (some p),.pointer (some q)] .returning w fun e u' w'=>e=.returned (.tuple #[])/\u'=.returning/\w'=w:=by
 refine callsD_of_wpS Tryz.func75 rfl fun c₀ cs hu=>?_
 apply wpS_seq
 apply wpS_region
 simp[wpOpsS,go_sem,recoverD,hu,Tryz.ntmps75,Exit.thenS];refine wpS_of_wp ?_;go_wp2_with fail;exact⟨rfl,c₀.mode,rfl,.tuple #[],by simp[results,Tryz.results75],rfl,hu,rfl⟩
theorem oC(w:World)(o o2:Obj):((w.alloc o).alloc o2).heap[w.heap.size]?=some o:=by
 rw[o9 _ _ _ (by simp)]
 show (w.heap.push o)[w.heap.size]?=_
 rw[Array.getElem?_push,if_pos rfl]
theorem lG(w:World)(o o2:Obj):((w.alloc o).alloc o2).heap[w.heap.size+1]?=some o2:=by
 show ((w.alloc o).heap.push o2)[w.heap.size+1]?=_
 rw[Array.getElem?_push,if_pos (by simp)]
theorem J8(fn:Fn)(first cap:Array Value)(w:World):(Instr.makeFunc fn first cap).run prog w=.ok (.func fn first cap) w:=rfl
end Go.Proofs.YtblbkfdhjfppkaaGreatDoor
