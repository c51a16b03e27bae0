/- Contracts of the program: names: an expression of Ints alone. -/
import Derived.Test.YtblbkfdhjfppkaaGreatDoorPart07
import Derived.Test.YtblbkfdhjfppkaaGreatDoorPart11
import Derived.Test.YtblbkfdhjfppkaaGreatDoorPart02
namespace Go.Proofs.YtblbkfdhjfppkaaGreatDoor
open Go.RowKit
def ArA : Nat → Hs.Ast → Prop
  | 0, _ => False
  | d + 1, a => (a.op = [48] ∨ a.op = [45, 120] ∨ (Hs.levelOf a.op = 3 ∨ Hs.levelOf a.op = 4)) ∧ ∀ k ∈ a.kids, ArA d k
def ArV : Nat → Value → Prop
  | 0, _ => False
  | d + 1, v => (∃ l k : Nat, v = .iface 397 (.agg #[.int .i64 l, .int .i64 k])) ∨ (∃ (l : Nat) (x : ByteArray) (v1 : Value), v = .iface 350 (.agg #[.int .i64 l, .string x, v1]) ∧ ArV d v1) ∨ ∃ (l : Nat) (x : ByteArray) (v1 v2 : Value), v = .iface 352 (.agg #[.int .i64 l, .string x, v1, v2]) ∧ ArV d v1 ∧ ArV d v2
theorem ArV.form : ∀ {d : Nat} {v : Value}, ArV d v → ∃ T cs, v = .iface T (.agg cs)
  | 0, _, h => h.elim
  | _ + 1, _, h => by
    rcases h with ⟨l, k, rfl⟩ | ⟨l, x, v1, rfl, _⟩ | ⟨l, x, v1, v2, rfl, _⟩
    · exact ⟨_, _, rfl⟩
    · exact ⟨_, _, rfl⟩
    · exact ⟨_, _, rfl⟩
theorem PN.ar : ∀ (d : Nat) {F : Nat → Prop} {w : World} {v : Value} {a : Hs.Ast}, PN F w v a → ArA d a → ArV d v
  | 0, _, _, _, _, _, h => h.elim
  | d + 1, F, w, v, a, hn, h => by
    obtain ⟨T, cs, ps, rfl, hsh, hps⟩ := hn.parts
    obtain ⟨ho, hk⟩ := h
    have no : ∀ x : List UInt8, a.op = x → x ≠ [48] → x ≠ [45, 120] → Hs.levelOf x = 9 → False := fun x e h1 h2 h3 => by
      rcases ho with ho | ho | ho | ho
      · exact h1 (by rw [← e]; exact ho)
      · exact h2 (by rw [← e]; exact ho)
      · rw [e, h3] at ho; cases ho
      · rw [e, h3] at ho; cases ho
    rcases hsh with ⟨rfl, k, rfl, hop, _, hkids, rfl⟩ | ⟨rfl, rfl, hop, hkids, rfl⟩ | ⟨rfl, rfl, hop, hkids, rfl⟩ | ⟨rfl, sv, rfl, hop, rfl⟩ | ⟨rfl, sv, rfl, hop, rfl⟩ | ⟨rfl, rfl, hop, hkids, rfl⟩ | ⟨rfl, l, v1, v2, a1, a2, rfl, hop, hkids, rfl⟩ | ⟨rfl, o, v1, a1, rfl, ho', hop, hkids, rfl⟩ | ⟨rfl, l, v1, v2, a1, a2, rfl, hop, hkids, rfl⟩ | ⟨rfl, v1, t, a1, rfl, hop, hkids, rfl⟩ | ⟨rfl, sv, v1, l, a1, rfl, hop, hkids, rfl⟩ | ⟨rfl, v1, s1, a1, b1, rfl, hop, hb1, hkids, rfl⟩ | ⟨rfl, v1, s1, s2, a1, b1, b2, rfl, hop, hb1, hb2, hkids, rfl⟩ | ⟨rfl, v1, s1, a1, b1, rfl, hop, hb1, hkids, rfl⟩ | ⟨rfl, l, rfl, hop, hkids, rfl⟩ | ⟨rfl, v1, a1, rfl, hop, hkids, rfl⟩ | ⟨rfl, v1, a1, rfl, hop, hkids, rfl⟩ | ⟨rfl, sv, c, rfl, hop, _⟩
    · exact Or.inl ⟨_, k, rfl⟩
    · exact (no _ hop (by decide) (by decide) (by decide)).elim
    · exact (no _ hop (by decide) (by decide) (by decide)).elim
    · exact (no _ hop (by decide) (by decide) (by decide)).elim
    · exact (no _ hop (by decide) (by decide) (by decide)).elim
    · exact (no _ hop (by decide) (by decide) (by decide)).elim
    · exact (no _ hop (by decide) (by decide) (by decide)).elim
    · exact Or.inr (Or.inl ⟨_, _, v1, rfl, PN.ar d (hps ⟨v1, [a1], true⟩ (by simp)).one' (hk a1 (by rw [hkids]; simp))⟩)
    · exact Or.inr (Or.inr ⟨_, _, v1, v2, rfl, PN.ar d (hps ⟨v1, [a1], true⟩ (by simp)).one' (hk a1 (by rw [hkids]; simp)), PN.ar d (hps ⟨v2, [a2], true⟩ (by simp)).one' (hk a2 (by rw [hkids]; simp))⟩)
    · exact (no _ hop (by decide) (by decide) (by decide)).elim
    · exact (no _ hop (by decide) (by decide) (by decide)).elim
    · exact (no _ hop (by decide) (by decide) (by decide)).elim
    · exact (no _ hop (by decide) (by decide) (by decide)).elim
    · exact (no _ hop (by decide) (by decide) (by decide)).elim
    · exact (no _ hop (by decide) (by decide) (by decide)).elim
    · exact (no _ hop (by decide) (by decide) (by decide)).elim
    · exact (no _ hop (by decide) (by decide) (by decide)).elim
    · exact (no _ hop (by decide) (by decide) (by decide)).elim
def ArAt (cb : Nat) (v : Value) : Prop := ∀ w, Calls Tryz.prog 167 #[.pointer (some ⟨cb, 0, none⟩), v] w fun e w' => e = .returned (.tuple #[]) ∧ Below w.heap.size w w'
set_option maxRecDepth 100000 in
set_option maxHeartbeats 2000000 in
theorem ar_Number (cb l k : Nat) : ArAt cb (.iface 397 (.agg #[.int .i64 l, .int .i64 k])) := by
  intro w
  have q0 := ta_Number_Declare
  have q1 := ta_Number_Assign
  have q2 := ta_Number_If
  have q3 := ta_Number_While
  have q4 := ta_Number_Return
  have q5 := ta_Number_Print
  have q6 := ta_Number_Call
  have q7 := ta_Number_Variable
  have q8 := ta_Number_List
  have q9 := ta_Number_Index
  have q10 := ta_Number_Unary
  have q11 := ta_Number_Binary
  go_enter Tryz.func167, Tryz.ntmps167
  go_wp2_with fail
  go_end0
  exact ⟨rfl, Below.refl _ _⟩
set_option maxRecDepth 100000 in
set_option maxHeartbeats 4000000 in
theorem ar_Unary (cb l : Nat) (x : ByteArray) (T1 : TypeId) (cs1 : Array Value) (H1 : Hid (ArAt cb (.iface T1 (.agg cs1)))) : ArAt cb (.iface 350 (.agg #[.int .i64 l, .string x, .iface T1 (.agg cs1)])) := by
  intro w
  have q0 := ta_Unary_Declare
  have q1 := ta_Unary_Assign
  have q2 := ta_Unary_If
  have q3 := ta_Unary_While
  have q4 := ta_Unary_Return
  have q5 := ta_Unary_Print
  have q6 := ta_Unary_Call
  have q7 := ta_Unary_Variable
  have q8 := ta_Unary_List
  have q9 := ta_Unary_Index
  have q10 := ta_Unary_Unary
  go_enter Tryz.func167, Tryz.ntmps167
  go_wp2_with fail
  refine (H1.out _).mono ?_
  rintro e w1 ⟨rfl, hb⟩
  have HB := mkHid hb
  clear hb
  go_wp2_with fail
  go_end0
  exact ⟨rfl, ((Below.refl _ _).alloc (Nat.le_refl _) _).trans (HB.out.mono (by simp))⟩
set_option maxRecDepth 100000 in
set_option maxHeartbeats 4000000 in
theorem ar_Binary (cb l : Nat) (x : ByteArray) (T1 T2 : TypeId) (cs1 cs2 : Array Value) (H1 : Hid (ArAt cb (.iface T1 (.agg cs1)))) (H2 : Hid (ArAt cb (.iface T2 (.agg cs2)))) : ArAt cb (.iface 352 (.agg #[.int .i64 l, .string x, .iface T1 (.agg cs1), .iface T2 (.agg cs2)])) := by
  intro w
  have q0 := ta_Binary_Declare
  have q1 := ta_Binary_Assign
  have q2 := ta_Binary_If
  have q3 := ta_Binary_While
  have q4 := ta_Binary_Return
  have q5 := ta_Binary_Print
  have q6 := ta_Binary_Call
  have q7 := ta_Binary_Variable
  have q8 := ta_Binary_List
  have q9 := ta_Binary_Index
  have q10 := ta_Binary_Unary
  have q11 := ta_Binary_Binary
  go_enter Tryz.func167, Tryz.ntmps167
  go_wp2_with fail
  refine (H1.out _).mono ?_
  rintro e w1 ⟨rfl, hb⟩
  have hbk : w1.heap[w.heap.size]? = some (.cells #[.int .i64 l, .string x, .iface T1 (.agg cs1), .iface T2 (.agg cs2)] 352 (0, 0)) := (hb.block _ (by simp)).trans (heap_first _ _ rfl _)
  have c3 : w1.cell? ⟨w.heap.size, 3, none⟩ = some (.iface T2 (.agg cs2)) := cell_of_block hbk rfl
  have hl := lt_of_block hbk
  have HB := mkHid hb
  clear hb hbk
  go_wp2_with fail
  refine (H2.out _).mono ?_
  rintro e w2 ⟨rfl, hb2⟩
  have HB2 := mkHid hb2
  clear hb2
  go_wp2_with fail
  go_end0
  have hs := HB.out.size
  exact ⟨rfl, (((Below.refl _ _).alloc (Nat.le_refl _) _).trans (HB.out.mono (by simp))).trans (HB2.out.mono (by simp at hs; omega))⟩
theorem ArV.at : ∀ {d : Nat} {v : Value}, ArV d v → ∀ cb, ArAt cb v
  | 0, _, h => h.elim
  | _ + 1, _, h => by
    intro cb
    rcases h with ⟨l, k, rfl⟩ | ⟨l, x, v1, rfl, h1⟩ | ⟨l, x, v1, v2, rfl, h1, h2⟩
    · exact ar_Number cb l k
    · obtain ⟨T1, cs1, rfl⟩ := h1.form
      exact ar_Unary cb l x T1 cs1 (h1.at cb)
    · obtain ⟨T1, cs1, rfl⟩ := h1.form
      obtain ⟨T2, cs2, rfl⟩ := h2.form
      exact ar_Binary cb l x T1 T2 cs1 cs2 (h1.at cb) (h2.at cb)
set_option maxRecDepth 100000 in
set_option maxHeartbeats 1000000 in
theorem checkExpr_ar {d : Nat} {v : Value} (h : ArV d v) (x : Option Addr) (n c : Nat) (w : World) :
    Calls Tryz.prog 115 #[v, .slice x n c] w fun e w' => e = .returned (.tuple #[]) ∧ Below w.heap.size w w' := by
  obtain ⟨T, cs, rfl⟩ := h.form
  have H := mkHid fun cb => h.at cb
  have hsf : ∀ (w : World) (a : Addr) (m : Mode), (store a (.func (.func 166) #[] #[]) m).run Tryz.prog w = stored Tryz.prog w a (.func (.func 166) #[] #[]) m := fun w a m => run_store Tryz.prog w a _ m rfl
  clear h
  go_enter Tryz.func115, Tryz.ntmps115
  go_wp2_with fail
  refine (H.out _ _).mono ?_
  rintro e w1 ⟨rfl, hb⟩
  have HB := mkHid hb
  clear hb
  go_wp2_with fail
  go_end0
  exact ⟨rfl, ((Below.refl _ _).alloc (Nat.le_refl _) _).trans (HB.out.mono (by simp))⟩
end Go.Proofs.YtblbkfdhjfppkaaGreatDoor

/- Contracts of the program: an expression is worked out: the walks. -/
namespace Go.Proofs.YtblbkfdhjfppkaaGreatDoor
open Go.RowKit
set_option maxRecDepth 100000 in
set_option maxHeartbeats 2000000 in
theorem readExpr_walk (w : World) (src : ByteArray) (P : Value → World → Prop)
    (HF : Hid (Calls Tryz.prog 42 #[.func (.func 112) #[] #[.pointer (some ⟨w.heap.size, 0, none⟩), .pointer (some ⟨w.heap.size + 1, 0, none⟩)]] ((w.alloc (.cells #[.string src] 9)).alloc (.cells #[.nilIface] 122)) fun e w' => ∃ (k l : Nat) (u : Value), e = .returned (.tuple #[.int .i64 k, .int .i64 l]) ∧ (u = .nilIface ∨ ∃ t z, u = .iface t z) ∧ w'.cell? ⟨w.heap.size + 1, 0, none⟩ = some u ∧ w'.frozen? ⟨w.heap.size + 1, 0, none⟩ = false ∧ w.heap.size + 1 < w'.heap.size ∧ P (.tuple #[u, .int .i64 k, .int .i64 l]) (w'.setCell ⟨w.heap.size + 1, 0, none⟩ u))) :
    Calls Tryz.prog 62 #[.string src] w fun e w' => ∃ v, e = .returned v ∧ P v w' := by
  have hmf := makeFv
  go_enter Tryz.func62, Tryz.ntmps62
  go_wp2_with fail
  refine HF.out.mono ?_
  rintro e w1 ⟨k, l, u, rfl, hu, q1, q2, q3, h1⟩
  have H1 := mkHid h1
  clear h1 HF
  rcases hu with rfl | ⟨t, z, rfl⟩
  all_goals
    go_wp2_with fail
    refine bodyPost_ret (by simp [results, Tryz.results62, go_sem, q1]; rfl) rfl ?_
    exact ⟨_, rfl, H1.out⟩
set_option maxRecDepth 100000 in
set_option maxHeartbeats 1000000 in
theorem seen0_any (w : World) (a q : Nat) (x1 x2 x3 : Option Addr) (c1 n2 c2 n3 c3 : Nat) :
    Calls Tryz.prog 156 #[.agg #[.int .i64 a, .slice x1 0 c1, .slice x2 n2 c2, .slice x3 n3 c3, .int .i64 q]] w fun e w' => e = .returned (.pointer none) ∧ Below w.heap.size w w' := by
  go_enter Tryz.func156, Tryz.ntmps156
  go_wp2_with fail
  go_ret
  exact ⟨rfl, (Below.refl _ _).alloc (Nat.le_refl _) _⟩
set_option maxRecDepth 100000 in
set_option maxHeartbeats 1000000 in
theorem names0_any (w : World) (a q : Nat) (x1 x2 x3 : Option Addr) (c1 n2 c2 n3 c3 : Nat) :
    Calls Tryz.prog 116 #[.agg #[.int .i64 a, .slice x1 0 c1, .slice x2 n2 c2, .slice x3 n3 c3, .int .i64 q]] w fun e w' => e = .returned (.slice none 0 0) ∧ Below w.heap.size w w' := by
  have HS := mkHid fun W => seen0_any W a q x1 x2 x3 c1 n2 c2 n3 c3
  go_enter Tryz.func116, Tryz.ntmps116
  go_wp2_with fail
  refine (HS.out _).mono ?_
  rintro e w1 ⟨rfl, hb⟩
  have HB := mkHid hb
  clear hb HS
  go_wp2_with fail
  go_loopg [3, 4] 1 (fun k v s wr => v = .slice none 0 0 ∧ s = .pointer none ∧ wr = w1)
  case atStart => exact ⟨rfl, rfl, rfl⟩
  case round =>
    obtain ⟨rfl, rfl, rfl⟩ := hrel
    go_wp2_with fail
    go_ret
    exact ⟨rfl, ((Below.refl _ _).alloc (Nat.le_refl _) _).trans (HB.out.mono (by simp))⟩
set_option maxRecDepth 100000 in
set_option maxHeartbeats 2000000 in
theorem frameFor0_walk (w : World) (a q : Nat) (x1 x2 x3 : Option Addr) (c1 n2 c2 n3 c3 : Nat) (t : TypeId) (z : Value) (P : Value → World → Prop)
    (HX : Hid (∀ W, Below w.heap.size w W → w.heap.size + 1 < W.heap.size → Calls Tryz.prog 233 #[.pointer (some ⟨W.heap.size, 0, none⟩), .iface t z] (W.alloc (.cells #[.slice none 0 0, .slice none 0 0, .pointer none] 276)) fun e w' => e = .returned (.tuple #[]) ∧ ∃ x n c, w'.cell? ⟨W.heap.size, 1, none⟩ = some (.slice x n c) ∧ W.heap.size < w'.heap.size ∧ Below W.heap.size W w' ∧
      ∀ W', Fr (w.heap.size + 1) w' W' → W'.heap[w'.heap.size]? = some (.cells #[.string (bs []), .slice x n c] 250 (0, 0)) → P (.agg #[.pointer (some ⟨w'.heap.size, 0, none⟩), .int .i64 0, .int .i64 0, .pointer none, .slice none 0 0, .slice none 0 0]) W')) :
    Calls Tryz.prog 168 #[.agg #[.int .i64 a, .slice x1 0 c1, .slice x2 n2 c2, .slice x3 n3 c3, .int .i64 q], .iface t z] w fun e w' => ∃ v, e = .returned v ∧ P v w' := by
  have HS := mkHid fun W => seen0_any W a q x1 x2 x3 c1 n2 c2 n3 c3
  go_enter Tryz.func168, Tryz.ntmps168
  go_wp2_with fail
  refine (HS.out _).mono ?_
  rintro e w1 ⟨rfl, hb⟩
  have hb1 : Below w.heap.size w w1 := (((Below.refl _ w).alloc (Nat.le_refl _) _).alloc (by simp) _).trans (hb.mono (by simp; omega))
  have hbx : w1.heap[w.heap.size]? = some (.cells #[.int .i64 a, .slice x1 0 c1, .slice x2 n2 c2, .slice x3 n3 c3, .int .i64 q] 108 (0, 0)) := by rw [hb.block _ (by simp; omega)]; exact heap_later _ _ (by simp) _ (heap_first _ _ rfl _)
  have hrz : w1.heap[w.heap.size + 1]? = some (.cells #[.pointer none, .int .i64 0, .int .i64 0, .pointer none, .slice none 0 0, .slice none 0 0] 195 (0, 0)) := by rw [hb.block _ (by simp)]; exact heap_first _ _ (by simp) _
  have hl0 := lt_of_block hrz
  have HXX := mkHid (HX.out w1 hb1 hl0)
  clear hb hb1 HS HX
  go_wp2_with fail
  refine HXX.out.mono ?_
  rintro e w2 ⟨rfl, x, n, c, k1, k2, hb2, h2⟩
  have hbx2 : w2.heap[w.heap.size]? = _ := (hb2.block _ (by omega)).trans hbx
  have hrz2 : w2.heap[w.heap.size + 1]? = _ := (hb2.block _ hl0).trans hrz
  have e1 : w2.cell? ⟨w.heap.size, 1, none⟩ = some (.slice x1 0 c1) := cell_of_block hbx2 rfl
  have r0 : w2.cell? ⟨w.heap.size + 1, 0, none⟩ = some (.pointer none) := cell_of_block hrz2 rfl
  have r1 : w2.cell? ⟨w.heap.size + 1, 1, none⟩ = some (.int .i64 0) := cell_of_block hrz2 rfl
  have r2 : w2.cell? ⟨w.heap.size + 1, 2, none⟩ = some (.int .i64 0) := cell_of_block hrz2 rfl
  have r3 : w2.cell? ⟨w.heap.size + 1, 3, none⟩ = some (.pointer none) := cell_of_block hrz2 rfl
  have r4 : w2.cell? ⟨w.heap.size + 1, 4, none⟩ = some (.slice none 0 0) := cell_of_block hrz2 rfl
  have r5 : w2.cell? ⟨w.heap.size + 1, 5, none⟩ = some (.slice none 0 0) := cell_of_block hrz2 rfl
  have f0 := frozen_of_block (i := 0) hrz2
  have f1 := frozen_of_block (i := 1) hrz2
  have f2 := frozen_of_block (i := 2) hrz2
  have f3 := frozen_of_block (i := 3) hrz2
  have f4 := frozen_of_block (i := 4) hrz2
  have f5 := frozen_of_block (i := 5) hrz2
  have hl1 := lt_of_block hbx2
  have hl2 := lt_of_block hrz2
  have H2 := mkHid h2
  have HRZ := mkHid hrz2
  clear h2 HXX hbx hrz hbx2 hrz2 hb2
  go_wp2_with fail
  have s5 := heap_setCell_at (heap_setCell_at (heap_setCell_at (heap_setCell_at (heap_setCell_at (heap_setCell_at HRZ.out (i := 0) (u := .pointer (some ⟨w2.heap.size, 0, none⟩))) (i := 1) (u := .int .i64 0)) (i := 2) (u := .int .i64 0)) (i := 3) (u := .pointer none)) (i := 4) (u := .slice none 0 0)) (i := 5) (u := .slice none 0 0)
  have hfr : Fr (w.heap.size + 1) w2 _ := ((((((Fr.refl (w.heap.size + 1) w2).setCell (p := ⟨w.heap.size + 1, 0, none⟩) (Or.inl rfl) (.pointer (some ⟨w2.heap.size, 0, none⟩))).setCell (p := ⟨w.heap.size + 1, 1, none⟩) (Or.inl rfl) (.int .i64 0)).setCell (p := ⟨w.heap.size + 1, 2, none⟩) (Or.inl rfl) (.int .i64 0)).setCell (p := ⟨w.heap.size + 1, 3, none⟩) (Or.inl rfl) (.pointer none)).setCell (p := ⟨w.heap.size + 1, 4, none⟩) (Or.inl rfl) (.slice none 0 0)).setCell (p := ⟨w.heap.size + 1, 5, none⟩) (Or.inl rfl) (.slice none 0 0)
  have hsz : w2.heap.size = (((((((w2.setCell ⟨w.heap.size + 1, 0, none⟩ (.pointer (some ⟨w2.heap.size, 0, none⟩))).setCell ⟨w.heap.size + 1, 1, none⟩ (.int .i64 0)).setCell ⟨w.heap.size + 1, 2, none⟩ (.int .i64 0)).setCell ⟨w.heap.size + 1, 3, none⟩ (.pointer none)).setCell ⟨w.heap.size + 1, 4, none⟩ (.slice none 0 0)).setCell ⟨w.heap.size + 1, 5, none⟩ (.slice none 0 0))).heap.size := by simp
  generalize (((((((w2.setCell ⟨w.heap.size + 1, 0, none⟩ (.pointer (some ⟨w2.heap.size, 0, none⟩))).setCell ⟨w.heap.size + 1, 1, none⟩ (.int .i64 0)).setCell ⟨w.heap.size + 1, 2, none⟩ (.int .i64 0)).setCell ⟨w.heap.size + 1, 3, none⟩ (.pointer none)).setCell ⟨w.heap.size + 1, 4, none⟩ (.slice none 0 0)).setCell ⟨w.heap.size + 1, 5, none⟩ (.slice none 0 0))) = W3 at *
  have s6 := heap_later _ _ (by simp; omega) (.cells #[.pointer (some ⟨w2.heap.size, 0, none⟩), .int .i64 0, .int .i64 0, .pointer none, .slice none 0 0, .slice none 0 0] 195) (heap_later W3 (w.heap.size + 1) (by omega) (.cells #[.string ⟨#[]⟩, .slice x n c] 250) s5)
  have g0 : ((W3.alloc (.cells #[.string ⟨#[]⟩, .slice x n c] 250)).alloc (.cells #[.pointer (some ⟨w2.heap.size, 0, none⟩), .int .i64 0, .int .i64 0, .pointer none, .slice none 0 0, .slice none 0 0] 195)).heap[w2.heap.size]? = some (.cells #[.string (bs []), .slice x n c] 250 (0, 0)) := heap_later _ _ (by simp; omega) _ (heap_first _ _ hsz _)
  have hfr2 := (hfr.trans (Fr.below ((Below.refl W3.heap.size W3).alloc (Nat.le_refl _) (.cells #[.string ⟨#[]⟩, .slice x n c] 250)))).trans (Fr.below ((Below.refl _ (W3.alloc (.cells #[.string ⟨#[]⟩, .slice x n c] 250))).alloc (Nat.le_refl _) (.cells #[.pointer (some ⟨w2.heap.size, 0, none⟩), .int .i64 0, .int .i64 0, .pointer none, .slice none 0 0, .slice none 0 0] 195)))
  generalize ((W3.alloc (.cells #[.string ⟨#[]⟩, .slice x n c] 250)).alloc (.cells #[.pointer (some ⟨w2.heap.size, 0, none⟩), .int .i64 0, .int .i64 0, .pointer none, .slice none 0 0, .slice none 0 0] 195)) = W4 at *
  have c0 : W4.cell? ⟨w.heap.size + 1, 0, none⟩ = some (.pointer (some ⟨w2.heap.size, 0, none⟩)) := cell_of_block s6 rfl
  have c1 : W4.cell? ⟨w.heap.size + 1, 1, none⟩ = some (.int .i64 0) := cell_of_block s6 rfl
  have c2 : W4.cell? ⟨w.heap.size + 1, 2, none⟩ = some (.int .i64 0) := cell_of_block s6 rfl
  have c3 : W4.cell? ⟨w.heap.size + 1, 3, none⟩ = some (.pointer none) := cell_of_block s6 rfl
  have c4 : W4.cell? ⟨w.heap.size + 1, 4, none⟩ = some (.slice none 0 0) := cell_of_block s6 rfl
  have c5 : W4.cell? ⟨w.heap.size + 1, 5, none⟩ = some (.slice none 0 0) := cell_of_block s6 rfl
  exact bodyPost_ret (v := .agg #[.pointer (some ⟨w2.heap.size, 0, none⟩), .int .i64 0, .int .i64 0, .pointer none, .slice none 0 0, .slice none 0 0]) (by simp [results, Tryz.results168, go_sem, c0, c1, c2, c3, c4, c5]) rfl ⟨_, rfl, H2.out _ hfr2 g0⟩
end Go.Proofs.YtblbkfdhjfppkaaGreatDoor
