/- Contracts of the program: the face: a source is checked. -/
import Derived.Test.YtblbkfdhjfppkaaGreatDoorPart10
import Derived.Test.YtblbkfdhjfppkaaGreatDoorPart07
import Derived.Test.YtblbkfdhjfppkaaGreatDoorPart02
import Derived.Test.YtblbkfdhjfppkaaGreatDoorPart00
import Derived.Test.YtblbkfdhjfppkaaGreatDoorProg
import Derived.WalkKit
import Derived.Test.YtblbkfdhjfppkaaGreatDoorPart09
import Derived.Test.YtblbkfdhjfppkaaGreatDoorRows
import Derived.PinnedBridge
import Derived.Lib.LaidU8T
import Derived.OpenShut
import Derived.LaidMore
namespace Go.Proofs.YtblbkfdhjfppkaaGreatDoor
open Go.RowKit
set_option maxRecDepth 100000 in
set_option maxHeartbeats 1000000 in
theorem catch_idle (p q : Addr) (w : World) :
    CallsD Tryz.prog 75 #[.pointer (some p), .pointer (some q)] .returning w fun e u' w' => e = .returned (.tuple #[]) ∧ u' = .returning ∧ w' = w := by
  refine callsD_of_wpS Tryz.func75 rfl fun c₀ cs hu => ?_
  apply wpS_seq
  apply wpS_region
  simp [wpOpsS, go_sem, recoverD, hu, Tryz.ntmps75, Exit.thenS]
  refine wpS_of_wp ?_
  go_wp2_with fail
  exact ⟨rfl, c₀.mode, rfl, .tuple #[], by simp [results, Tryz.results75], rfl, hu, rfl⟩
theorem first_blk (w : World) (o o2 : Obj) : ((w.alloc o).alloc o2).heap[w.heap.size]? = some o := by
  rw [Below.heap_alloc _ _ _ (by simp)]
  show (w.heap.push o)[w.heap.size]? = _
  rw [Array.getElem?_push, if_pos rfl]
theorem second_blk (w : World) (o o2 : Obj) : ((w.alloc o).alloc o2).heap[w.heap.size + 1]? = some o2 := by
  show ((w.alloc o).heap.push o2)[w.heap.size + 1]? = _
  rw [Array.getElem?_push, if_pos (by simp)]
theorem makeFv (fn : Fn) (first cap : Array Value) (w : World) : (Instr.makeFunc fn first cap).run Tryz.prog w = .ok (.func fn first cap) w := rfl
end Go.Proofs.YtblbkfdhjfppkaaGreatDoor

/- Contracts of the program: names: an expression of Ints alone. -/
namespace Go.Proofs.YtblbkfdhjfppkaaGreatDoor
open Go.RowKit
def ArA : Nat → Hs.Ast → Prop
  | 0, _ => False
  | d + 1, a => (a.op = [48] ∨ a.op = [45, 120] ∨ (Hs.levelOf a.op = 3 ∨ Hs.levelOf a.op = 4)) ∧ ∀ k ∈ a.kids, ArA d k
def ArV : Nat → Value → Prop
  | 0, _ => False
  | d + 1, v => (∃ l k : Nat, v = .iface 397 (.agg #[.int .i64 l, .int .i64 k])) ∨ (∃ (l : Nat) (x : ByteArray) (v1 : Value), v = .iface 350 (.agg #[.int .i64 l, .string x, v1]) ∧ ArV d v1) ∨ ∃ (l : Nat) (x : ByteArray) (v1 v2 : Value), v = .iface 352 (.agg #[.int .i64 l, .string x, v1, v2]) ∧ ArV d v1 ∧ ArV d v2
theorem ArV.form : ∀ {d : Nat} {v : Value}, ArV d v → ∃ T cs, v = .iface T (.agg cs)
  | 0, _, h => h.elim
  | _ + 1, _, h => by
    rcases h with ⟨l, k, rfl⟩ | ⟨l, x, v1, rfl, _⟩ | ⟨l, x, v1, v2, rfl, _⟩
    · exact ⟨_, _, rfl⟩
    · exact ⟨_, _, rfl⟩
    · exact ⟨_, _, rfl⟩
theorem PN.ar : ∀ (d : Nat) {F : Nat → Prop} {w : World} {v : Value} {a : Hs.Ast}, PN F w v a → ArA d a → ArV d v
  | 0, _, _, _, _, _, h => h.elim
  | d + 1, F, w, v, a, hn, h => by
    obtain ⟨T, cs, ps, rfl, hsh, hps⟩ := hn.parts
    obtain ⟨ho, hk⟩ := h
    have no : ∀ x : List UInt8, a.op = x → x ≠ [48] → x ≠ [45, 120] → Hs.levelOf x = 9 → False := fun x e h1 h2 h3 => by
      rcases ho with ho | ho | ho | ho
      · exact h1 (by rw [← e]; exact ho)
      · exact h2 (by rw [← e]; exact ho)
      · rw [e, h3] at ho; cases ho
      · rw [e, h3] at ho; cases ho
    rcases hsh with ⟨rfl, k, rfl, hop, _, hkids, rfl⟩ | ⟨rfl, rfl, hop, hkids, rfl⟩ | ⟨rfl, rfl, hop, hkids, rfl⟩ | ⟨rfl, sv, rfl, hop, rfl⟩ | ⟨rfl, sv, rfl, hop, rfl⟩ | ⟨rfl, rfl, hop, hkids, rfl⟩ | ⟨rfl, l, v1, v2, a1, a2, rfl, hop, hkids, rfl⟩ | ⟨rfl, o, v1, a1, rfl, ho', hop, hkids, rfl⟩ | ⟨rfl, l, v1, v2, a1, a2, rfl, hop, hkids, rfl⟩ | ⟨rfl, v1, t, a1, rfl, hop, hkids, rfl⟩ | ⟨rfl, sv, v1, l, a1, rfl, hop, hkids, rfl⟩ | ⟨rfl, v1, s1, a1, b1, rfl, hop, hb1, hkids, rfl⟩ | ⟨rfl, v1, s1, s2, a1, b1, b2, rfl, hop, hb1, hb2, hkids, rfl⟩ | ⟨rfl, v1, s1, a1, b1, rfl, hop, hb1, hkids, rfl⟩ | ⟨rfl, l, rfl, hop, hkids, rfl⟩ | ⟨rfl, v1, a1, rfl, hop, hkids, rfl⟩ | ⟨rfl, v1, a1, rfl, hop, hkids, rfl⟩ | ⟨rfl, sv, c, rfl, hop, _⟩
    · exact Or.inl ⟨_, k, rfl⟩
    · exact (no _ hop (by decide) (by decide) (by decide)).elim
    · exact (no _ hop (by decide) (by decide) (by decide)).elim
    · exact (no _ hop (by decide) (by decide) (by decide)).elim
    · exact (no _ hop (by decide) (by decide) (by decide)).elim
    · exact (no _ hop (by decide) (by decide) (by decide)).elim
    · exact (no _ hop (by decide) (by decide) (by decide)).elim
    · exact Or.inr (Or.inl ⟨_, _, v1, rfl, PN.ar d (hps ⟨v1, [a1], true⟩ (by simp)).one' (hk a1 (by rw [hkids]; simp))⟩)
    · exact Or.inr (Or.inr ⟨_, _, v1, v2, rfl, PN.ar d (hps ⟨v1, [a1], true⟩ (by simp)).one' (hk a1 (by rw [hkids]; simp)), PN.ar d (hps ⟨v2, [a2], true⟩ (by simp)).one' (hk a2 (by rw [hkids]; simp))⟩)
    · exact (no _ hop (by decide) (by decide) (by decide)).elim
    · exact (no _ hop (by decide) (by decide) (by decide)).elim
    · exact (no _ hop (by decide) (by decide) (by decide)).elim
    · exact (no _ hop (by decide) (by decide) (by decide)).elim
    · exact (no _ hop (by decide) (by decide) (by decide)).elim
    · exact (no _ hop (by decide) (by decide) (by decide)).elim
    · exact (no _ hop (by decide) (by decide) (by decide)).elim
    · exact (no _ hop (by decide) (by decide) (by decide)).elim
    · exact (no _ hop (by decide) (by decide) (by decide)).elim
def ArAt (cb : Nat) (v : Value) : Prop := ∀ w, Calls Tryz.prog 167 #[.pointer (some ⟨cb, 0, none⟩), v] w fun e w' => e = .returned (.tuple #[]) ∧ Below w.heap.size w w'
set_option maxRecDepth 100000 in
set_option maxHeartbeats 2000000 in
theorem ar_Number (cb l k : Nat) : ArAt cb (.iface 397 (.agg #[.int .i64 l, .int .i64 k])) := by
  intro w
  have q0 := ta_Number_Declare
  have q1 := ta_Number_Assign
  have q2 := ta_Number_If
  have q3 := ta_Number_While
  have q4 := ta_Number_Return
  have q5 := ta_Number_Print
  have q6 := ta_Number_Call
  have q7 := ta_Number_Variable
  have q8 := ta_Number_List
  have q9 := ta_Number_Index
  have q10 := ta_Number_Unary
  have q11 := ta_Number_Binary
  go_enter Tryz.func167, Tryz.ntmps167
  go_wp2_with fail
  go_end0
  exact ⟨rfl, Below.refl _ _⟩
set_option maxRecDepth 100000 in
set_option maxHeartbeats 4000000 in
theorem ar_Unary (cb l : Nat) (x : ByteArray) (T1 : TypeId) (cs1 : Array Value) (H1 : Hid (ArAt cb (.iface T1 (.agg cs1)))) : ArAt cb (.iface 350 (.agg #[.int .i64 l, .string x, .iface T1 (.agg cs1)])) := by
  intro w
  have q0 := ta_Unary_Declare
  have q1 := ta_Unary_Assign
  have q2 := ta_Unary_If
  have q3 := ta_Unary_While
  have q4 := ta_Unary_Return
  have q5 := ta_Unary_Print
  have q6 := ta_Unary_Call
  have q7 := ta_Unary_Variable
  have q8 := ta_Unary_List
  have q9 := ta_Unary_Index
  have q10 := ta_Unary_Unary
  go_enter Tryz.func167, Tryz.ntmps167
  go_wp2_with fail
  refine (H1.out _).mono ?_
  rintro e w1 ⟨rfl, hb⟩
  have HB := mkHid hb
  clear hb
  go_wp2_with fail
  go_end0
  exact ⟨rfl, ((Below.refl _ _).alloc (Nat.le_refl _) _).trans (HB.out.mono (by simp))⟩
set_option maxRecDepth 100000 in
set_option maxHeartbeats 4000000 in
theorem ar_Binary (cb l : Nat) (x : ByteArray) (T1 T2 : TypeId) (cs1 cs2 : Array Value) (H1 : Hid (ArAt cb (.iface T1 (.agg cs1)))) (H2 : Hid (ArAt cb (.iface T2 (.agg cs2)))) : ArAt cb (.iface 352 (.agg #[.int .i64 l, .string x, .iface T1 (.agg cs1), .iface T2 (.agg cs2)])) := by
  intro w
  have q0 := ta_Binary_Declare
  have q1 := ta_Binary_Assign
  have q2 := ta_Binary_If
  have q3 := ta_Binary_While
  have q4 := ta_Binary_Return
  have q5 := ta_Binary_Print
  have q6 := ta_Binary_Call
  have q7 := ta_Binary_Variable
  have q8 := ta_Binary_List
  have q9 := ta_Binary_Index
  have q10 := ta_Binary_Unary
  have q11 := ta_Binary_Binary
  go_enter Tryz.func167, Tryz.ntmps167
  go_wp2_with fail
  refine (H1.out _).mono ?_
  rintro e w1 ⟨rfl, hb⟩
  have hbk : w1.heap[w.heap.size]? = some (.cells #[.int .i64 l, .string x, .iface T1 (.agg cs1), .iface T2 (.agg cs2)] 352 (0, 0)) := (hb.block _ (by simp)).trans (heap_first _ _ rfl _)
  have c3 : w1.cell? ⟨w.heap.size, 3, none⟩ = some (.iface T2 (.agg cs2)) := cell_of_block hbk rfl
  have hl := lt_of_block hbk
  have HB := mkHid hb
  clear hb hbk
  go_wp2_with fail
  refine (H2.out _).mono ?_
  rintro e w2 ⟨rfl, hb2⟩
  have HB2 := mkHid hb2
  clear hb2
  go_wp2_with fail
  go_end0
  have hs := HB.out.size
  exact ⟨rfl, (((Below.refl _ _).alloc (Nat.le_refl _) _).trans (HB.out.mono (by simp))).trans (HB2.out.mono (by simp at hs; omega))⟩
theorem ArV.at : ∀ {d : Nat} {v : Value}, ArV d v → ∀ cb, ArAt cb v
  | 0, _, h => h.elim
  | _ + 1, _, h => by
    intro cb
    rcases h with ⟨l, k, rfl⟩ | ⟨l, x, v1, rfl, h1⟩ | ⟨l, x, v1, v2, rfl, h1, h2⟩
    · exact ar_Number cb l k
    · obtain ⟨T1, cs1, rfl⟩ := h1.form
      exact ar_Unary cb l x T1 cs1 (h1.at cb)
    · obtain ⟨T1, cs1, rfl⟩ := h1.form
      obtain ⟨T2, cs2, rfl⟩ := h2.form
      exact ar_Binary cb l x T1 T2 cs1 cs2 (h1.at cb) (h2.at cb)
set_option maxRecDepth 100000 in
set_option maxHeartbeats 1000000 in
theorem checkExpr_ar {d : Nat} {v : Value} (h : ArV d v) (x : Option Addr) (n c : Nat) (w : World) :
    Calls Tryz.prog 115 #[v, .slice x n c] w fun e w' => e = .returned (.tuple #[]) ∧ Below w.heap.size w w' := by
  obtain ⟨T, cs, rfl⟩ := h.form
  have H := mkHid fun cb => h.at cb
  have hsf : ∀ (w : World) (a : Addr) (m : Mode), (store a (.func (.func 166) #[] #[]) m).run Tryz.prog w = stored Tryz.prog w a (.func (.func 166) #[] #[]) m := fun w a m => run_store Tryz.prog w a _ m rfl
  clear h
  go_enter Tryz.func115, Tryz.ntmps115
  go_wp2_with fail
  refine (H.out _ _).mono ?_
  rintro e w1 ⟨rfl, hb⟩
  have HB := mkHid hb
  clear hb
  go_wp2_with fail
  go_end0
  exact ⟨rfl, ((Below.refl _ _).alloc (Nat.le_refl _) _).trans (HB.out.mono (by simp))⟩
end Go.Proofs.YtblbkfdhjfppkaaGreatDoor

/- Contracts of the program: an expression is worked out: the walks. -/
namespace Go.Proofs.YtblbkfdhjfppkaaGreatDoor
open Go.RowKit
set_option maxRecDepth 100000 in
set_option maxHeartbeats 2000000 in
theorem readExpr_walk (w : World) (src : ByteArray) (P : Value → World → Prop)
    (HF : Hid (Calls Tryz.prog 42 #[.func (.func 112) #[] #[.pointer (some ⟨w.heap.size, 0, none⟩), .pointer (some ⟨w.heap.size + 1, 0, none⟩)]] ((w.alloc (.cells #[.string src] 9)).alloc (.cells #[.nilIface] 122)) fun e w' => ∃ (k l : Nat) (u : Value), e = .returned (.tuple #[.int .i64 k, .int .i64 l]) ∧ (u = .nilIface ∨ ∃ t z, u = .iface t z) ∧ w'.cell? ⟨w.heap.size + 1, 0, none⟩ = some u ∧ w'.frozen? ⟨w.heap.size + 1, 0, none⟩ = false ∧ w.heap.size + 1 < w'.heap.size ∧ P (.tuple #[u, .int .i64 k, .int .i64 l]) (w'.setCell ⟨w.heap.size + 1, 0, none⟩ u))) :
    Calls Tryz.prog 62 #[.string src] w fun e w' => ∃ v, e = .returned v ∧ P v w' := by
  have hmf := makeFv
  go_enter Tryz.func62, Tryz.ntmps62
  go_wp2_with fail
  refine HF.out.mono ?_
  rintro e w1 ⟨k, l, u, rfl, hu, q1, q2, q3, h1⟩
  have H1 := mkHid h1
  clear h1 HF
  rcases hu with rfl | ⟨t, z, rfl⟩
  all_goals
    go_wp2_with fail
    refine bodyPost_ret (by simp [results, Tryz.results62, go_sem, q1]; rfl) rfl ?_
    exact ⟨_, rfl, H1.out⟩
set_option maxRecDepth 100000 in
set_option maxHeartbeats 1000000 in
theorem seen0_any (w : World) (a q : Nat) (x1 x2 x3 : Option Addr) (c1 n2 c2 n3 c3 : Nat) :
    Calls Tryz.prog 156 #[.agg #[.int .i64 a, .slice x1 0 c1, .slice x2 n2 c2, .slice x3 n3 c3, .int .i64 q]] w fun e w' => e = .returned (.pointer none) ∧ Below w.heap.size w w' := by
  go_enter Tryz.func156, Tryz.ntmps156
  go_wp2_with fail
  go_ret
  exact ⟨rfl, (Below.refl _ _).alloc (Nat.le_refl _) _⟩
set_option maxRecDepth 100000 in
set_option maxHeartbeats 1000000 in
theorem names0_any (w : World) (a q : Nat) (x1 x2 x3 : Option Addr) (c1 n2 c2 n3 c3 : Nat) :
    Calls Tryz.prog 116 #[.agg #[.int .i64 a, .slice x1 0 c1, .slice x2 n2 c2, .slice x3 n3 c3, .int .i64 q]] w fun e w' => e = .returned (.slice none 0 0) ∧ Below w.heap.size w w' := by
  have HS := mkHid fun W => seen0_any W a q x1 x2 x3 c1 n2 c2 n3 c3
  go_enter Tryz.func116, Tryz.ntmps116
  go_wp2_with fail
  refine (HS.out _).mono ?_
  rintro e w1 ⟨rfl, hb⟩
  have HB := mkHid hb
  clear hb HS
  go_wp2_with fail
  go_loopg [3, 4] 1 (fun k v s wr => v = .slice none 0 0 ∧ s = .pointer none ∧ wr = w1)
  case atStart => exact ⟨rfl, rfl, rfl⟩
  case round =>
    obtain ⟨rfl, rfl, rfl⟩ := hrel
    go_wp2_with fail
    go_ret
    exact ⟨rfl, ((Below.refl _ _).alloc (Nat.le_refl _) _).trans (HB.out.mono (by simp))⟩
set_option maxRecDepth 100000 in
set_option maxHeartbeats 2000000 in
theorem frameFor0_walk (w : World) (a q : Nat) (x1 x2 x3 : Option Addr) (c1 n2 c2 n3 c3 : Nat) (t : TypeId) (z : Value) (P : Value → World → Prop)
    (HX : Hid (∀ W, Below w.heap.size w W → w.heap.size + 1 < W.heap.size → Calls Tryz.prog 233 #[.pointer (some ⟨W.heap.size, 0, none⟩), .iface t z] (W.alloc (.cells #[.slice none 0 0, .slice none 0 0, .pointer none] 276)) fun e w' => e = .returned (.tuple #[]) ∧ ∃ x n c, w'.cell? ⟨W.heap.size, 1, none⟩ = some (.slice x n c) ∧ W.heap.size < w'.heap.size ∧ Below W.heap.size W w' ∧
      ∀ W', Fr (w.heap.size + 1) w' W' → W'.heap[w'.heap.size]? = some (.cells #[.string (bs []), .slice x n c] 250 (0, 0)) → P (.agg #[.pointer (some ⟨w'.heap.size, 0, none⟩), .int .i64 0, .int .i64 0, .pointer none, .slice none 0 0, .slice none 0 0]) W')) :
    Calls Tryz.prog 168 #[.agg #[.int .i64 a, .slice x1 0 c1, .slice x2 n2 c2, .slice x3 n3 c3, .int .i64 q], .iface t z] w fun e w' => ∃ v, e = .returned v ∧ P v w' := by
  have HS := mkHid fun W => seen0_any W a q x1 x2 x3 c1 n2 c2 n3 c3
  go_enter Tryz.func168, Tryz.ntmps168
  go_wp2_with fail
  refine (HS.out _).mono ?_
  rintro e w1 ⟨rfl, hb⟩
  have hb1 : Below w.heap.size w w1 := (((Below.refl _ w).alloc (Nat.le_refl _) _).alloc (by simp) _).trans (hb.mono (by simp; omega))
  have hbx : w1.heap[w.heap.size]? = some (.cells #[.int .i64 a, .slice x1 0 c1, .slice x2 n2 c2, .slice x3 n3 c3, .int .i64 q] 108 (0, 0)) := by rw [hb.block _ (by simp; omega)]; exact heap_later _ _ (by simp) _ (heap_first _ _ rfl _)
  have hrz : w1.heap[w.heap.size + 1]? = some (.cells #[.pointer none, .int .i64 0, .int .i64 0, .pointer none, .slice none 0 0, .slice none 0 0] 195 (0, 0)) := by rw [hb.block _ (by simp)]; exact heap_first _ _ (by simp) _
  have hl0 := lt_of_block hrz
  have HXX := mkHid (HX.out w1 hb1 hl0)
  clear hb hb1 HS HX
  go_wp2_with fail
  refine HXX.out.mono ?_
  rintro e w2 ⟨rfl, x, n, c, k1, k2, hb2, h2⟩
  have hbx2 : w2.heap[w.heap.size]? = _ := (hb2.block _ (by omega)).trans hbx
  have hrz2 : w2.heap[w.heap.size + 1]? = _ := (hb2.block _ hl0).trans hrz
  have e1 : w2.cell? ⟨w.heap.size, 1, none⟩ = some (.slice x1 0 c1) := cell_of_block hbx2 rfl
  have r0 : w2.cell? ⟨w.heap.size + 1, 0, none⟩ = some (.pointer none) := cell_of_block hrz2 rfl
  have r1 : w2.cell? ⟨w.heap.size + 1, 1, none⟩ = some (.int .i64 0) := cell_of_block hrz2 rfl
  have r2 : w2.cell? ⟨w.heap.size + 1, 2, none⟩ = some (.int .i64 0) := cell_of_block hrz2 rfl
  have r3 : w2.cell? ⟨w.heap.size + 1, 3, none⟩ = some (.pointer none) := cell_of_block hrz2 rfl
  have r4 : w2.cell? ⟨w.heap.size + 1, 4, none⟩ = some (.slice none 0 0) := cell_of_block hrz2 rfl
  have r5 : w2.cell? ⟨w.heap.size + 1, 5, none⟩ = some (.slice none 0 0) := cell_of_block hrz2 rfl
  have f0 := frozen_of_block (i := 0) hrz2
  have f1 := frozen_of_block (i := 1) hrz2
  have f2 := frozen_of_block (i := 2) hrz2
  have f3 := frozen_of_block (i := 3) hrz2
  have f4 := frozen_of_block (i := 4) hrz2
  have f5 := frozen_of_block (i := 5) hrz2
  have hl1 := lt_of_block hbx2
  have hl2 := lt_of_block hrz2
  have H2 := mkHid h2
  have HRZ := mkHid hrz2
  clear h2 HXX hbx hrz hbx2 hrz2 hb2
  go_wp2_with fail
  have s5 := heap_setCell_at (heap_setCell_at (heap_setCell_at (heap_setCell_at (heap_setCell_at (heap_setCell_at HRZ.out (i := 0) (u := .pointer (some ⟨w2.heap.size, 0, none⟩))) (i := 1) (u := .int .i64 0)) (i := 2) (u := .int .i64 0)) (i := 3) (u := .pointer none)) (i := 4) (u := .slice none 0 0)) (i := 5) (u := .slice none 0 0)
  have hfr : Fr (w.heap.size + 1) w2 _ := ((((((Fr.refl (w.heap.size + 1) w2).setCell (p := ⟨w.heap.size + 1, 0, none⟩) (Or.inl rfl) (.pointer (some ⟨w2.heap.size, 0, none⟩))).setCell (p := ⟨w.heap.size + 1, 1, none⟩) (Or.inl rfl) (.int .i64 0)).setCell (p := ⟨w.heap.size + 1, 2, none⟩) (Or.inl rfl) (.int .i64 0)).setCell (p := ⟨w.heap.size + 1, 3, none⟩) (Or.inl rfl) (.pointer none)).setCell (p := ⟨w.heap.size + 1, 4, none⟩) (Or.inl rfl) (.slice none 0 0)).setCell (p := ⟨w.heap.size + 1, 5, none⟩) (Or.inl rfl) (.slice none 0 0)
  have hsz : w2.heap.size = (((((((w2.setCell ⟨w.heap.size + 1, 0, none⟩ (.pointer (some ⟨w2.heap.size, 0, none⟩))).setCell ⟨w.heap.size + 1, 1, none⟩ (.int .i64 0)).setCell ⟨w.heap.size + 1, 2, none⟩ (.int .i64 0)).setCell ⟨w.heap.size + 1, 3, none⟩ (.pointer none)).setCell ⟨w.heap.size + 1, 4, none⟩ (.slice none 0 0)).setCell ⟨w.heap.size + 1, 5, none⟩ (.slice none 0 0))).heap.size := by simp
  generalize (((((((w2.setCell ⟨w.heap.size + 1, 0, none⟩ (.pointer (some ⟨w2.heap.size, 0, none⟩))).setCell ⟨w.heap.size + 1, 1, none⟩ (.int .i64 0)).setCell ⟨w.heap.size + 1, 2, none⟩ (.int .i64 0)).setCell ⟨w.heap.size + 1, 3, none⟩ (.pointer none)).setCell ⟨w.heap.size + 1, 4, none⟩ (.slice none 0 0)).setCell ⟨w.heap.size + 1, 5, none⟩ (.slice none 0 0))) = W3 at *
  have s6 := heap_later _ _ (by simp; omega) (.cells #[.pointer (some ⟨w2.heap.size, 0, none⟩), .int .i64 0, .int .i64 0, .pointer none, .slice none 0 0, .slice none 0 0] 195) (heap_later W3 (w.heap.size + 1) (by omega) (.cells #[.string ⟨#[]⟩, .slice x n c] 250) s5)
  have g0 : ((W3.alloc (.cells #[.string ⟨#[]⟩, .slice x n c] 250)).alloc (.cells #[.pointer (some ⟨w2.heap.size, 0, none⟩), .int .i64 0, .int .i64 0, .pointer none, .slice none 0 0, .slice none 0 0] 195)).heap[w2.heap.size]? = some (.cells #[.string (bs []), .slice x n c] 250 (0, 0)) := heap_later _ _ (by simp; omega) _ (heap_first _ _ hsz _)
  have hfr2 := (hfr.trans (Fr.below ((Below.refl W3.heap.size W3).alloc (Nat.le_refl _) (.cells #[.string ⟨#[]⟩, .slice x n c] 250)))).trans (Fr.below ((Below.refl _ (W3.alloc (.cells #[.string ⟨#[]⟩, .slice x n c] 250))).alloc (Nat.le_refl _) (.cells #[.pointer (some ⟨w2.heap.size, 0, none⟩), .int .i64 0, .int .i64 0, .pointer none, .slice none 0 0, .slice none 0 0] 195)))
  generalize ((W3.alloc (.cells #[.string ⟨#[]⟩, .slice x n c] 250)).alloc (.cells #[.pointer (some ⟨w2.heap.size, 0, none⟩), .int .i64 0, .int .i64 0, .pointer none, .slice none 0 0, .slice none 0 0] 195)) = W4 at *
  have c0 : W4.cell? ⟨w.heap.size + 1, 0, none⟩ = some (.pointer (some ⟨w2.heap.size, 0, none⟩)) := cell_of_block s6 rfl
  have c1 : W4.cell? ⟨w.heap.size + 1, 1, none⟩ = some (.int .i64 0) := cell_of_block s6 rfl
  have c2 : W4.cell? ⟨w.heap.size + 1, 2, none⟩ = some (.int .i64 0) := cell_of_block s6 rfl
  have c3 : W4.cell? ⟨w.heap.size + 1, 3, none⟩ = some (.pointer none) := cell_of_block s6 rfl
  have c4 : W4.cell? ⟨w.heap.size + 1, 4, none⟩ = some (.slice none 0 0) := cell_of_block s6 rfl
  have c5 : W4.cell? ⟨w.heap.size + 1, 5, none⟩ = some (.slice none 0 0) := cell_of_block s6 rfl
  exact bodyPost_ret (v := .agg #[.pointer (some ⟨w2.heap.size, 0, none⟩), .int .i64 0, .int .i64 0, .pointer none, .slice none 0 0, .slice none 0 0]) (by simp [results, Tryz.results168, go_sem, c0, c1, c2, c3, c4, c5]) rfl ⟨_, rfl, H2.out _ hfr2 g0⟩
end Go.Proofs.YtblbkfdhjfppkaaGreatDoor

/- Contracts of the program: a fault is caught, whatever is done (2 variables are shared with it). -/
namespace Go.Proofs.YtblbkfdhjfppkaaGreatDoor
open Go.RowKit
set_option maxRecDepth 100000 in
set_option maxHeartbeats 1000000 in
theorem faultOf_gen (fno : Nat) (p q : Option Addr) (w : World) (Q : World → Prop) (E : Nat → Nat → Prop)
    (hent : ∀ W, (callFunc fno #[.pointer p, .pointer q]).run Tryz.prog W = .ok (.enter fno #[.pointer p, .pointer q]) W)
    (hC : ∀ w2, w2 = (w.alloc (.cells #[.int .i64 0] 22)).alloc (.cells #[.int .i64 0] 3) → Calls Tryz.prog fno #[.pointer p, .pointer q] w2 fun e w' =>
      (e = .returned (.tuple #[]) ∧ w'.heap[w.heap.size]? = some (.cells #[.int .i64 0] 22 (0, 0)) ∧ w'.heap[w.heap.size + 1]? = some (.cells #[.int .i64 0] 3 (0, 0)) ∧ Q w') ∨
      ∃ k n, k ≠ 0 ∧ e = .panicked [{ v := .iface 141 (.agg #[.int .i64 (k : Nat), .int .i64 (n : Nat)]), recovered := false }] ∧ Below w2.heap.size w2 w' ∧ E k n) :
    Calls Tryz.prog 42 #[.func (.func fno) #[] #[.pointer p, .pointer q]] w fun e w' =>
      (e = .returned (.tuple #[.int .i64 0, .int .i64 0]) ∧ ∃ w1, Q w1 ∧ w' = (w1.setCell ⟨w.heap.size, 0, none⟩ (.int .i64 0)).setCell ⟨w.heap.size + 1, 0, none⟩ (.int .i64 0)) ∨
      ∃ k n, k ≠ 0 ∧ e = .returned (.tuple #[.int .i64 (k : Nat), .int .i64 (n : Nat)]) ∧ Below w.heap.size w w' ∧ E k n := by
  have hmf := makeFv
  have hb2 : Below w.heap.size w ((w.alloc (.cells #[.int .i64 0] 22)).alloc (.cells #[.int .i64 0] 3)) := ((Below.refl _ w).alloc (Nat.le_refl _) _).alloc (by simp) _
  have HC := mkHid (hC _ rfl)
  have hen := hent ((w.alloc (.cells #[.int .i64 0] 22)).alloc (.cells #[.int .i64 0] 3))
  clear hC hent
  go_enter_defers Tryz.func42, Tryz.ntmps42
  go_wp2_with fail
  refine HC.out.mono ?_
  rintro e w1 (⟨rfl, hp, hq, hQ⟩ | ⟨k, n, hk, rfl, hb1, hE⟩)
  · have HQ := mkHid hQ
    clear hQ
    have c0 := cell_blk hp (i := 0) rfl
    have c1 := cell_blk hq (i := 0) rfl
    have f0 := frozen_blk (i := 0) hp
    have f1 := frozen_blk (i := 0) hq
    have l0 := lt_blk hp
    have l1 := lt_blk hq
    go_wp2_with fail
    refine leaves_cons (f := 75) (args := #[.pointer (some ⟨w.heap.size, 0, none⟩), .pointer (some ⟨w.heap.size + 1, 0, none⟩)]) (by simp) (by simp [go_sem]) ?_
    refine (catch_idle ⟨w.heap.size, 0, none⟩ ⟨w.heap.size + 1, 0, none⟩ _).mono ?_
    rintro e u' w'' ⟨rfl, rfl, rfl⟩
    simp [Leaves, settle, results, Tryz.results42, go_sem, c0, c1]
    exact Or.inl ⟨w1, HQ.out, rfl⟩
  · have hp : w1.heap[w.heap.size]? = some (.cells #[.int .i64 0] 22 (0, 0)) := by rw [hb1.block _ (by simp; omega)]; exact first_blk _ _ _
    have hq : w1.heap[w.heap.size + 1]? = some (.cells #[.int .i64 0] 3 (0, 0)) := by rw [hb1.block _ (by simp)]; exact second_blk _ _ _
    have HB : Below w.heap.size w w1 := hb2.trans (hb1.mono (by simp; omega))
    have HE := mkHid (And.intro hk hE)
    clear hb1 hb2 HC hE hk
    go_wp2_with fail
    refine leaves_cons (f := 75) (args := #[.pointer (some ⟨w.heap.size, 0, none⟩), .pointer (some ⟨w.heap.size + 1, 0, none⟩)]) (by simp) (by simp [go_sem]) ?_
    refine (catch_fault w.heap.size (w.heap.size + 1) k n [] _ hp hq (Nat.lt_succ_self _)).mono ?_
    rintro e u' w2 ⟨rfl, rfl, hb3, c0, c1⟩
    have hbb := HB.trans hb3
    simp [Leaves, settle, results, Tryz.results42, go_sem, c0, c1]
    obtain ⟨j, rfl⟩ : ∃ j, k = j + 1 := ⟨k - 1, by have := HE.out.1; omega⟩
    exact Or.inr ⟨j, n, ⟨by simp, rfl⟩, hbb, HE.out.2⟩
end Go.Proofs.YtblbkfdhjfppkaaGreatDoor

/- Contracts of the program: which sort a value is of. -/
namespace Go.Proofs.YtblbkfdhjfppkaaGreatDoor
open Go.RowKit
theorem va_Int_Int (v : Value) (w : World) : (Instr.typeAssert (.iface 315 v) 256 315 true).run Tryz.prog w = .ok (.tuple #[v, .bool true]) w := by kernel_rfl
theorem va_Int_Bool (v : Value) (w : World) : (Instr.typeAssert (.iface 315 v) 256 316 true).run Tryz.prog w = .ok (.tuple #[.bool false, .bool false]) w := by kernel_rfl
theorem va_Int_Str (v : Value) (w : World) : (Instr.typeAssert (.iface 315 v) 256 318 true).run Tryz.prog w = .ok (.tuple #[.string ⟨#[]⟩, .bool false]) w := by kernel_rfl
theorem va_Int_List (v : Value) (w : World) : (Instr.typeAssert (.iface 315 v) 256 319 true).run Tryz.prog w = .ok (.tuple #[.slice none 0 0, .bool false]) w := by kernel_rfl
theorem va_Bool_Int (v : Value) (w : World) : (Instr.typeAssert (.iface 316 v) 256 315 true).run Tryz.prog w = .ok (.tuple #[.int .i64 0, .bool false]) w := by kernel_rfl
theorem va_Bool_Bool (v : Value) (w : World) : (Instr.typeAssert (.iface 316 v) 256 316 true).run Tryz.prog w = .ok (.tuple #[v, .bool true]) w := by kernel_rfl
theorem va_Bool_Str (v : Value) (w : World) : (Instr.typeAssert (.iface 316 v) 256 318 true).run Tryz.prog w = .ok (.tuple #[.string ⟨#[]⟩, .bool false]) w := by kernel_rfl
theorem va_Bool_List (v : Value) (w : World) : (Instr.typeAssert (.iface 316 v) 256 319 true).run Tryz.prog w = .ok (.tuple #[.slice none 0 0, .bool false]) w := by kernel_rfl
theorem va_Str_Int (v : Value) (w : World) : (Instr.typeAssert (.iface 318 v) 256 315 true).run Tryz.prog w = .ok (.tuple #[.int .i64 0, .bool false]) w := by kernel_rfl
theorem va_Str_Bool (v : Value) (w : World) : (Instr.typeAssert (.iface 318 v) 256 316 true).run Tryz.prog w = .ok (.tuple #[.bool false, .bool false]) w := by kernel_rfl
theorem va_Str_Str (v : Value) (w : World) : (Instr.typeAssert (.iface 318 v) 256 318 true).run Tryz.prog w = .ok (.tuple #[v, .bool true]) w := by kernel_rfl
theorem va_Str_List (v : Value) (w : World) : (Instr.typeAssert (.iface 318 v) 256 319 true).run Tryz.prog w = .ok (.tuple #[.slice none 0 0, .bool false]) w := by kernel_rfl
theorem va_List_Int (v : Value) (w : World) : (Instr.typeAssert (.iface 319 v) 256 315 true).run Tryz.prog w = .ok (.tuple #[.int .i64 0, .bool false]) w := by kernel_rfl
theorem va_List_Bool (v : Value) (w : World) : (Instr.typeAssert (.iface 319 v) 256 316 true).run Tryz.prog w = .ok (.tuple #[.bool false, .bool false]) w := by kernel_rfl
theorem va_List_Str (v : Value) (w : World) : (Instr.typeAssert (.iface 319 v) 256 318 true).run Tryz.prog w = .ok (.tuple #[.string ⟨#[]⟩, .bool false]) w := by kernel_rfl
theorem va_List_List (v : Value) (w : World) : (Instr.typeAssert (.iface 319 v) 256 319 true).run Tryz.prog w = .ok (.tuple #[v, .bool true]) w := by kernel_rfl
end Go.Proofs.YtblbkfdhjfppkaaGreatDoor

/- Contracts of the program: an expression is read. -/
namespace Go.Proofs.YtblbkfdhjfppkaaGreatDoor
open Go.RowKit
def exprL (l : List UInt8) : Except (Nat × Nat) Hs.Ast :=
  match tokR l with
  | .error f => .error f
  | .ok ts =>
    match Hs.exprP ts (ts.length + 1) 0 with
    | .error n => .error (4, n)
    | .ok (a, q) => if (Hs.tk ts q).sort = 101 then .ok a else .error (4, (Hs.tk ts q).line)
set_option maxRecDepth 100000 in
set_option maxHeartbeats 1000000 in
theorem pend_any (C : Ctx) (w : World) (p : Nat) (h : PAt C w p) :
    Calls Tryz.prog 165 #[.pointer (some ⟨C.pb, 0, none⟩)] w fun e w' => Below w.heap.size w w' ∧ (((Hs.tk C.ts p).sort = 101 ∧ e = .returned (.tuple #[])) ∨ ((Hs.tk C.ts p).sort ≠ 101 ∧ e = faultE 4 (Hs.tk C.ts p).line)) := by
  have HN := mkHid (pnext_any C w p h)
  simp only [ptokV] at HN
  have hse := psort_end (h.tsk.tk p h.lt)
  have HSE := mkHid hse
  clear h hse
  generalize Hs.tk C.ts p = t at *
  generalize psort t.sort = ps at *
  generalize pval t = pv at *
  by_cases hs : t.sort = 101
  · obtain rfl : ps = 4 := HSE.out.2 hs
    have HS := mkHid hs
    clear hs HSE
    go_enter Tryz.func165, Tryz.ntmps165
    go_wp2_with fail
    refine HN.out.mono ?_
    rintro e w1 ⟨rfl, hb⟩
    have HB := mkHid hb
    clear hb HN
    go_wp2_with fail
    go_end0
    exact ⟨HB.out.trans (((Below.refl _ _).alloc (Nat.le_refl _) _).mono HB.out.size), Or.inl ⟨HS.out, rfl⟩⟩
  · have hps : ((ps : Int) != 4) = true := by simp; intro e; exact hs (HSE.out.1 (by omega))
    have HS := mkHid hs
    clear hs HSE
    go_enter Tryz.func165, Tryz.ntmps165
    go_wp2_with fail
    refine HN.out.mono ?_
    rintro e w1 ⟨rfl, hb⟩
    have HB := mkHid hb
    clear hb HN
    have HF := mkHid fun W => pfail_any 4 t.line W
    go_wp2_with fail
    refine (HF.out _).mono ?_
    rintro e w2 ⟨rfl, rfl⟩
    clear HF
    go_wp2_with fail
    exact ⟨rfl, HB.out.trans (((Below.refl _ _).alloc (Nat.le_refl _) _).mono HB.out.size), Or.inr ⟨HS.out, rfl⟩⟩
def rexprPost (l : List UInt8) (w : World) (e : Ending) (w' : World) : Prop :=
  Below w.heap.size w w' ∧ match exprL l with
    | .ok a => ∃ v, e = .returned v ∧ PN (Btw w.heap.size w'.heap.size) w' v a
    | .error f => f.1 ≠ 0 ∧ e = faultE f.1 f.2
set_option maxRecDepth 100000 in
set_option maxHeartbeats 2000000 in
theorem rexpr_any (src : ByteArray) (w : World) (hT : AllTabs w) (hs : src.size ≤ maxLen) :
    Calls Tryz.prog 113 #[.string src] w (rexprPost src.data.toList w) := by
  have HPO := mkHid (parserOf_any src w hT hs)
  obtain ⟨l, hl⟩ : ∃ l, l = src.data.toList := ⟨_, rfl⟩
  rw [← hl] at HPO ⊢
  clear hl hT
  go_enter Tryz.func113, Tryz.ntmps113
  go_wp2_with fail
  refine HPO.out.mono ?_
  rintro e w2 ⟨hb2, he2⟩
  cases htr : tokR l with
  | error f =>
    rw [htr] at he2
    obtain rfl : e = faultE f.1 f.2 := he2
    have HF : Hid (exprL l = .error f) := by show _ = _; unfold exprL; rw [htr]
    have HK := mkHid (tokR_kind htr)
    have HB2 := mkHid hb2
    clear hb2 HPO htr
    go_wp2_with fail
    exact ⟨rfl, HB2.out, by rw [HF.out]; exact ⟨HK.out, rfl⟩⟩
  | ok ts =>
    rw [htr] at he2
    obtain ⟨v, rfl, hown⟩ := he2
    have htk := (tokR_ok htr).1
    have hlen := (tokR_ok htr).2
    have hall := Hs.tokens_all htk
    have HR2 : Hid (exprL l = match Hs.exprP ts (ts.length + 1) 0 with
      | .error n => .error (4, n)
      | .ok (a, q) => if (Hs.tk ts q).sort = 101 then .ok a else .error (4, (Hs.tk ts q).line)) := by show _ = _; unfold exprL; rw [htr]
    obtain ⟨g, cap, cur, rfl, hg, hcap, hrow, hcur⟩ := row_at hown hall.1.some_
    have hgl := lt_of_block hrow
    have hat : PAt ⟨w2.heap.size, g, cap, ts⟩ (w2.alloc (.cells #[.slice (some ⟨g, 0, none⟩) ts.length cap, .int .i64 0] 144)) 0 :=
      ⟨heap_first _ _ rfl _, ⟨cur, heap_later _ _ hgl _ hrow, hcur⟩, by show g ≠ w2.heap.size; omega, hall.1.some_, by show ts.length ≤ 3000; omega, hcap, hall.1, Hs.tokens_k htk⟩
    have hfit := hall.1.ok.exprs 0 hall.1.some_
    have HP := mkHid (expr_any' ⟨w2.heap.size, g, cap, ts⟩ (ts.length + 1) (w2.alloc (.cells #[.slice (some ⟨g, 0, none⟩) ts.length cap, .int .i64 0] 144)) 0 hat (fun e => by
      have e : Hs.exprP ts (ts.length + 1) 0 = .error 0 := e
      exact hfit.ne e))
    have HB2 := mkHid hb2
    clear hown hb2 HPO htr htk hat hrow hcur hall hfit
    go_wp2_with fail
    refine HP.out.mono ?_
    rintro e w3 ⟨hf3, ho3⟩
    have hb3 : Below w2.heap.size w2 w3 := ⟨hf3.os.trans rfl, hf3.tape.trans rfl, hf3.output.trans rfl, Nat.le_trans (by simp) hf3.size, fun k hk => by rw [hf3.block k (by simp; omega) (by show k ≠ w2.heap.size; omega)]; exact Below.heap_alloc _ _ _ hk⟩
    have HB3 := mkHid (HB2.out.trans (hb3.mono HB2.out.size))
    simp only at ho3
    cases hpr : Hs.exprP ts (ts.length + 1) 0 with
    | error n =>
      rw [hpr] at ho3
      obtain rfl : e = faultE 4 n := ho3
      have HF : Hid (exprL l = .error (4, n)) := by show _ = _; rw [HR2.out, hpr]
      clear hf3 hb3 HP hpr HR2
      go_wp2_with fail
      exact ⟨rfl, HB3.out, by rw [HF.out]; exact ⟨by simp, rfl⟩⟩
    | ok aq =>
      obtain ⟨a, q⟩ := aq
      rw [hpr] at ho3
      obtain ⟨hp3, v3, rfl, hv3⟩ := ho3
      obtain ⟨t3, z3, rfl⟩ := hv3.form
      have HR3 : Hid (exprL l = if (Hs.tk ts q).sort = 101 then .ok a else .error (4, (Hs.tk ts q).line)) := by show _ = _; rw [HR2.out, hpr]
      have HEN := mkHid (pend_any _ w3 q hp3)
      have HV3 := mkHid hv3
      have hz2 := HB2.out.size
      clear hf3 hb3 HP hpr HR2 hp3 hv3
      go_wp2_with fail
      refine HEN.out.mono ?_
      rintro e w4 ⟨hb4, ⟨hs4, rfl⟩ | ⟨hs4, rfl⟩⟩
      · have HF : Hid (exprL l = .ok a) := by show _ = _; rw [HR3.out]; exact if_pos hs4
        have HV4 := mkHid (PN.grow (lo' := w.heap.size) (hi' := w4.heap.size) HV3.out (fun b _ hb => hb4.block b hb) (by simp; omega) hb4.size)
        have HB4 := mkHid (HB3.out.trans (hb4.mono HB3.out.size))
        clear hb4 hs4 HEN HR3 HV3
        go_wp2_with fail
        go_ret
        exact ⟨HB4.out, by rw [HF.out]; exact ⟨_, rfl, HV4.out⟩⟩
      · have HF : Hid (exprL l = .error (4, (Hs.tk ts q).line)) := by show _ = _; rw [HR3.out]; exact if_neg hs4
        have HB4 := mkHid (HB3.out.trans (hb4.mono HB3.out.size))
        clear hb4 hs4 HEN HR3 HV3
        go_wp2_with fail
        exact ⟨rfl, HB4.out, by rw [HF.out]; exact ⟨by simp, rfl⟩⟩
end Go.Proofs.YtblbkfdhjfppkaaGreatDoor

/- Contracts of the program: an expression is read, and its fault caught. -/
namespace Go.Proofs.YtblbkfdhjfppkaaGreatDoor
open Go.RowKit
def Rx1 (l : List UInt8) (p : Nat) (w : World) (w' : World) : Prop :=
  ∃ w1 v a, exprL l = .ok a ∧ Below w.heap.size w w1 ∧ PN (Btw w.heap.size w1.heap.size) w1 v a ∧ w' = w1.setCell ⟨p, 0, none⟩ v
set_option maxRecDepth 100000 in
set_option maxHeartbeats 1000000 in
theorem rx1_any (src : ByteArray) (b p : Nat) (w : World) (hT : AllTabs w) (hs : src.size ≤ maxLen) (hb : w.cell? ⟨b, 0, none⟩ = some (.string src)) (hp : w.heap[p]? = some (.cells #[.nilIface] 122 (0, 0))) :
    Calls Tryz.prog 112 #[.pointer (some ⟨b, 0, none⟩), .pointer (some ⟨p, 0, none⟩)] w fun e w' =>
      (e = .returned (.tuple #[]) ∧ Rx1 src.data.toList p w w') ∨
      ∃ f, exprL src.data.toList = .error f ∧ f.1 ≠ 0 ∧ e = faultE f.1 f.2 ∧ Below w.heap.size w w' := by
  have HR := mkHid (rexpr_any src w hT hs)
  have HP := mkHid hp
  have hl := lt_of_block hp
  clear hT hp
  go_enter Tryz.func112, Tryz.ntmps112
  go_wp2_with fail
  refine HR.out.mono ?_
  rintro e w1 ⟨hb1, he⟩
  cases hx : exprL src.data.toList with
  | error f =>
    rw [hx] at he
    obtain ⟨hk, rfl⟩ := he
    have HF := mkHid (And.intro hx (And.intro hk hb1))
    clear hx hk hb1 HR HP
    go_wp2_with fail
    exact ⟨rfl, Or.inr ⟨f, HF.out.1, HF.out.2.1, rfl, HF.out.2.2⟩⟩
  | ok a =>
    rw [hx] at he
    obtain ⟨v, rfl, hv⟩ := he
    obtain ⟨t, cs, rfl⟩ := hv.form
    have HP1 : w1.heap[p]? = some (.cells #[.nilIface] 122 (0, 0)) := by rw [hb1.block _ hl]; exact HP.out
    have c0 := cell_of_block HP1 (i := 0) rfl
    have f0 := frozen_of_block HP1 (i := 0)
    have l0 := lt_of_block HP1
    have HF : Hid (Rx1 src.data.toList p w (w1.setCell ⟨p, 0, none⟩ (.iface t (.agg cs)))) := ⟨w1, _, a, hx, hb1, hv, rfl⟩
    clear hx hv hb1 HP1 HR HP
    go_wp2_with fail
    go_end0
    exact Or.inl ⟨rfl, HF.out⟩
end Go.Proofs.YtblbkfdhjfppkaaGreatDoor

/- What the row's condition on package-level variables gives the contracts: their tables. -/
namespace Go.Proofs.YtblbkfdhjfppkaaGreatDoor
open Go.RowKit Go.Lib
theorem strs_of_array {H : Type} {enc : TypeId × Value → H} {P : Program} {w : World} {base : Nat} {sp : Nat → Bool} {held : Bool} {fuel : Nat} {t e : TypeId} {n : Nat} {cs : List Value} {bss : List (List UInt8)} {p : List MemPlace}
    (ht : P.underlying t = some (.array n e)) (he : P.underlying e = some .string) (hce : P.cellsOf e = 1) (hct : P.cellsOf t = n) (hl : bss.length = n)
    (h : DataW.trod enc P w base sp held fuel t cs = some (.agg (bss.map fun b => .lit (.string b)), p)) : cs = bss.map fun b => Value.string (bs b) := by
  obtain ⟨xs, m, rfl, hx, hlen, hxl, hel⟩ := DataW.trod_array ht h
  rw [hct] at hlen
  refine List.ext_getElem? fun i => ?_
  by_cases hi : i < n
  · have h1 := hel i hi
    rw [hce, Nat.mul_one, List.getElem?_eq_getElem (by omega)] at h1
    obtain ⟨s, e1, e2, _⟩ := DataW.trod_string he h1
    have e3 : xs.map (·.1) = bss.map fun b => (DataW.lit (.string b) : DataW H) := (DataW.agg.inj (Prod.mk.inj hx).1).symm
    have e4 : (xs.map (·.1))[i]? = (bss.map fun b => (DataW.lit (.string b) : DataW H))[i]? := by rw [e3]
    rw [List.getElem?_map, List.getElem?_map, List.getElem?_eq_getElem (by omega : i < xs.length), List.getElem?_eq_getElem (by omega : i < bss.length), e2] at e4
    simp only [Option.map_some, Option.some.injEq, DataW.lit.injEq, Lit.string.injEq] at e4
    rw [List.getElem?_map, List.getElem?_eq_getElem (by omega : i < bss.length)]
    have h0 : ((cs.drop i).take 1)[0]? = some (.string s) := by rw [e1]; rfl
    have h2 : cs[i]? = some (.string s) := by simpa using h0
    rw [h2]
    simp only [Option.map_some, Option.some.injEq, Value.string.injEq]
    rw [← e4]
    rfl
  · rw [List.getElem?_eq_none (by omega), List.getElem?_eq_none (by simp; omega)]
theorem block_of_var {P : Program} {w : World} {n : String} {g : Nat} {cs : Array Value} (hg : P.globalNamed n = some g) (h : w.var? P n = some cs) : ∃ t fr, w.heap[g]? = some (.cells cs t fr) := by
  simp only [World.var?, hg, Option.bind_some] at h
  split at h
  · next cs' t fr hb => cases h; exact ⟨t, fr, hb⟩
  · cases h
theorem strs_reads {w : World} {nm : String} {g t n : Nat} {bss : List (List UInt8)} (hg : Tryz.prog.globalNamed nm = some g) (ht : (Tryz.prog.globals[g]?).map (·.type) = some t) (hu : Tryz.prog.underlying t = some (.array n 9)) (hct : Tryz.prog.cellsOf t = n) (hl : bss.length = n)
    (h : VarReads Tryz.prog w nm (.agg (bss.map fun b => .lit (.string b)))) : ∃ ty fr, w.heap[g]? = some (.cells (bss.map fun b => Value.string (bs b)).toArray ty fr) := by
  obtain ⟨g0, t0, cs, fuel, p, hg0, ht0, hv, hd⟩ := h
  obtain rfl := Option.some.inj (hg.symm.trans hg0)
  obtain rfl := Option.some.inj (ht.symm.trans ht0)
  obtain ⟨ty, fr, hb⟩ := block_of_var hg hv
  have := strs_of_array hu Tryz.underlying9 (by kernel_rfl) hct hl hd
  obtain ⟨l⟩ := cs
  have e : l = bss.map fun b => Value.string (bs b) := this
  subst e
  exact ⟨ty, fr, hb⟩
theorem g_marks : Tryz.prog.globalNamed "hindsight/syntax.marks" = some 6 := by kernel_rfl
theorem g_range : Tryz.prog.globalNamed "strconv.ErrRange" = some 10 := by kernel_rfl
theorem g_de64 : Tryz.prog.globalNamed "math/bits.deBruijn64tab" = some 8 := by kernel_rfl
theorem t_marks : (Tryz.prog.globals[(6 : Nat)]?).map (·.type) = some 300 := by kernel_rfl
theorem t_range : (Tryz.prog.globals[(10 : Nat)]?).map (·.type) = some 414 := by kernel_rfl
theorem c_21 : Tryz.prog.cellsOf 300 = 21 := by kernel_rfl
theorem d_marks : (Rows.laid_hindsight_syntax_marks : DataW Unit) = .agg (Hs.others.map fun b => .lit (.string b)) := rfl
theorem d_accept : (Rows.laid_unicode_utf8_acceptRanges : DataW Unit) = acceptData := by kernel_rfl
theorem d_first : Rows.laid_unicode_utf8_first = firstData := Pinned.utf8First_eq
def u8ren : Shelf.Ren := ⟨fun x => x, fun n => if n = 5 then 5 else if n = 119 then 409 else if n = 138 then 411 else 412, fun n => if n = 3 then 4 else 5⟩
theorem u8types : U8Types Tryz.prog u8ren := ⟨Tryz.underlying5, Tryz.underlying409, Tryz.underlying411, Tryz.underlying412⟩
theorem u8extra : U8Extra Tryz.prog u8ren := ⟨by kernel_rfl, by kernel_rfl, by kernel_rfl, by kernel_rfl, by kernel_rfl, by kernel_rfl, by kernel_rfl⟩
end Go.Proofs.YtblbkfdhjfppkaaGreatDoor
