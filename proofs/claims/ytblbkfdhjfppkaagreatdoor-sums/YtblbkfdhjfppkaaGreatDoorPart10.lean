/- Contracts of the program: what is deferred at the face: a fault is caught. -/
import Derived.Test.YtblbkfdhjfppkaaGreatDoorProg
import Derived.WalkKit
import Derived.WalkSpells
import Derived.WalkLawsBesides
import Derived.RegionTactic
import Derived.BigRegion
import Derived.Defers
import Derived.Recover
namespace Go.Proofs.YtblbkfdhjfppkaaGreatDoor
open Go.RowKit
theorem lt_blk {w : World} {b : Nat} {o : Obj} (h : w.heap[b]? = some o) : b < w.heap.size := by
  rcases Nat.lt_or_ge b w.heap.size with h1 | h1
  · exact h1
  · rw [Array.getElem?_eq_none h1] at h; cases h
theorem cell_blk {w : World} {b i : Nat} {c : Array Value} {e : TypeId} (h : w.heap[b]? = some (.cells c e (0, 0))) {v : Value} (hv : c[i]? = some v) : w.cell? ⟨b, i, none⟩ = some v := by
  simp [World.cell?, h, hv]
theorem frozen_blk {w : World} {b i : Nat} {c : Array Value} {e : TypeId} (h : w.heap[b]? = some (.cells c e (0, 0))) : w.frozen? ⟨b, i, none⟩ = false := by
  simp [World.frozen?, h]
theorem set_two (p q k n : Nat) (w : World) (hp : w.heap[p]? = some (.cells #[.int .i64 0] 22 (0, 0))) (hq : w.heap[q]? = some (.cells #[.int .i64 0] 3 (0, 0))) (hpq : p < q) :
    Below p w (((w.setCell ⟨p, 0, none⟩ (.int .i64 k)).setCell ⟨q, 0, none⟩ (.int .i64 n)).alloc (.cells #[.int .i64 k, .int .i64 n] 141)).drew
    ∧ (((w.setCell ⟨p, 0, none⟩ (.int .i64 k)).setCell ⟨q, 0, none⟩ (.int .i64 n)).alloc (.cells #[.int .i64 k, .int .i64 n] 141)).drew.cell? ⟨p, 0, none⟩ = some (.int .i64 k)
    ∧ (((w.setCell ⟨p, 0, none⟩ (.int .i64 k)).setCell ⟨q, 0, none⟩ (.int .i64 n)).alloc (.cells #[.int .i64 k, .int .i64 n] 141)).drew.cell? ⟨q, 0, none⟩ = some (.int .i64 n) := by
  have c0 : w.cell? ⟨p, 0, none⟩ = some (.int .i64 0) := cell_blk hp rfl
  have c1 : w.cell? ⟨q, 0, none⟩ = some (.int .i64 0) := cell_blk hq rfl
  have l0 := lt_blk hp
  have l1 := lt_blk hq
  have hn1 : ¬ p = q := by omega
  have hn2 : ¬ q = p := by omega
  have hn3 : ¬ p = w.heap.size := by omega
  have hn4 : ¬ q = w.heap.size := by omega
  refine ⟨((((Below.refl p w).setCell (Nat.le_refl p) _).setCell (Nat.le_of_lt hpq) _).alloc (by simp; omega) _).drew, ?_, ?_⟩
  · simp [go_sem, c0, l0]
  · simp [go_sem, c1, l1]
theorem set_two' (p q k n : Nat) (w : World) (hp : w.heap[p]? = some (.cells #[.int .i64 0] 22 (0, 0))) (hq : w.heap[q]? = some (.cells #[.int .i64 0] 3 (0, 0))) (hpq : p < q) :
    Below p w (((w.setCell ⟨q, 0, none⟩ (.int .i64 n)).setCell ⟨p, 0, none⟩ (.int .i64 k)).alloc (.cells #[.int .i64 k, .int .i64 n] 141)).drew
    ∧ (((w.setCell ⟨q, 0, none⟩ (.int .i64 n)).setCell ⟨p, 0, none⟩ (.int .i64 k)).alloc (.cells #[.int .i64 k, .int .i64 n] 141)).drew.cell? ⟨p, 0, none⟩ = some (.int .i64 k)
    ∧ (((w.setCell ⟨q, 0, none⟩ (.int .i64 n)).setCell ⟨p, 0, none⟩ (.int .i64 k)).alloc (.cells #[.int .i64 k, .int .i64 n] 141)).drew.cell? ⟨q, 0, none⟩ = some (.int .i64 n) := by
  have c0 : w.cell? ⟨p, 0, none⟩ = some (.int .i64 0) := cell_blk hp rfl
  have c1 : w.cell? ⟨q, 0, none⟩ = some (.int .i64 0) := cell_blk hq rfl
  have l0 := lt_blk hp
  have l1 := lt_blk hq
  have hn1 : ¬ p = q := by omega
  have hn2 : ¬ q = p := by omega
  have hn3 : ¬ p = w.heap.size := by omega
  have hn4 : ¬ q = w.heap.size := by omega
  refine ⟨((((Below.refl p w).setCell (Nat.le_of_lt hpq) _).setCell (Nat.le_refl p) _).alloc (by simp; omega) _).drew, ?_, ?_⟩
  · simp [go_sem, c0, l0]
  · simp [go_sem, c1, l1]
theorem isFault (v : Value) (w : World) : (Instr.typeAssert (.iface 141 v) 20 141 true).run Tryz.prog w = .ok (.tuple #[v, .bool true]) w := by kernel_rfl
set_option maxRecDepth 100000 in
set_option maxHeartbeats 1000000 in
theorem catch_fault (p q k n : Nat) (older : List PanicEntry) (w : World) (hp : w.heap[p]? = some (.cells #[.int .i64 0] 22 (0, 0))) (hq : w.heap[q]? = some (.cells #[.int .i64 0] 3 (0, 0))) (hpq : p < q) :
    CallsD Tryz.prog 75 #[.pointer (some ⟨p, 0, none⟩), .pointer (some ⟨q, 0, none⟩)] (.panicking ({ v := .iface 141 (.agg #[.int .i64 k, .int .i64 n]), recovered := false } :: older)) w fun e u' w' =>
      e = .returned (.tuple #[]) ∧ u' = .panicking ({ v := .iface 141 (.agg #[.int .i64 k, .int .i64 n]), recovered := true } :: older) ∧ Below p w w' ∧ w'.cell? ⟨p, 0, none⟩ = some (.int .i64 k) ∧ w'.cell? ⟨q, 0, none⟩ = some (.int .i64 n) := by
  have c0 := cell_blk hp (i := 0) rfl
  have c1 := cell_blk hq (i := 0) rfl
  have f0 := frozen_blk (i := 0) hp
  have f1 := frozen_blk (i := 0) hq
  have l0 := lt_blk hp
  have l1 := lt_blk hq
  have hft := isFault
  refine callsD_of_wpS Tryz.func75 rfl fun c₀ cs hu => ?_
  apply wpS_seq
  apply wpS_region
  simp [wpOpsS, go_sem, recoverD, hu, Tryz.ntmps75, Exit.thenS]
  refine wpS_of_wp ?_
  have hn1 : ¬ p = q := by omega
  have hn2 : ¬ q = p := by omega
  have hn3 : ¬ p = w.heap.size := by omega
  have hn4 : ¬ q = w.heap.size := by omega
  obtain ⟨b12, x12, y12⟩ := set_two p q k n w hp hq hpq
  obtain ⟨b21, x21, y21⟩ := set_two' p q k n w hp hq hpq
  clear hp hq
  go_wp2_with fail
  go_region
  all_goals
    go_wp2_with fail
    first
    | exact ⟨rfl, _, rfl, .tuple #[], by simp [results, Tryz.results75], rfl, rfl, b12, x12, y12⟩
    | exact ⟨rfl, _, rfl, .tuple #[], by simp [results, Tryz.results75], rfl, rfl, b21, x21, y21⟩
end Go.Proofs.YtblbkfdhjfppkaaGreatDoor
