/- Sums: what an operation of two Ints is as an expression of the program's. -/
import Derived.Test.YtblbkfdhjfppkaaGreatDoorPart22
import Derived.Test.YtblbkfdhjfppkaaGreatDoorPart20
import Derived.Test.YtblbkfdhjfppkaaGreatDoorPart21
import Derived.Test.YtblbkfdhjfppkaaGreatDoorPart19
import Derived.Test.YtblbkfdhjfppkaaGreatDoorPart12
import Derived.Test.YtblbkfdhjfppkaaGreatDoorPart18
namespace Go.Proofs.YtblbkfdhjfppkaaGreatDoor
open Go.RowKit
theorem sum_exprL (c : UInt8) (hc : c ∈ Hs.opSigns) (x y : Int) (hx1 : -9223372036854775808 ≤ x) (hx2 : x ≤ 9223372036854775807) (hy1 : -9223372036854775808 ≤ y) (hy2 : y ≤ 9223372036854775807) :
    exprL (Hs.sumL c x y) = .ok (Hs.sumA c x y) := by
  have h1 : tokR (Hs.sumL c x y) = .ok (Hs.sumT c x y) := by
    unfold tokR
    rw [if_neg (by have := Hs.sumL_len c x y; omega), Hs.spoilAt_low _ _ _ (Hs.sumL_low c hc x y), Hs.sum_tokens c hc x y hx1 hx2 hy1 hy2]
  obtain ⟨q, h2, h3, _⟩ := Hs.sum_parse c hc x y
  unfold exprL
  simp only [h1, h2, if_pos h3]
theorem num_ex (d n : Nat) : Hs.ExOk [] true [] (d + 1) (Hs.numA n) ∧ LitOk (d + 1) (Hs.numA n) ∧ ArA (d + 1) (Hs.numA n) :=
  ⟨Or.inl ⟨Or.inl rfl, rfl⟩, ⟨fun h => (by simp [Hs.numA, Hs.node] at h), by simp [Hs.numA, Hs.node], fun k hk => (by simp [Hs.numA, Hs.node] at hk)⟩, Or.inl rfl, fun k hk => (by simp [Hs.numA, Hs.node] at hk)⟩
theorem un_ex {d : Nat} {a : Hs.Ast} (h : Hs.ExOk [] true [] d a ∧ LitOk d a ∧ ArA d a) : Hs.ExOk [] true [] (d + 1) (Hs.node [45, 120] 1 [] [a]) ∧ LitOk (d + 1) (Hs.node [45, 120] 1 [] [a]) ∧ ArA (d + 1) (Hs.node [45, 120] 1 [] [a]) := by
  refine ⟨Or.inr (Or.inr (Or.inr (Or.inr (Or.inl ⟨Or.inl rfl, a, rfl, h.1⟩)))), ⟨fun h => (by simp [Hs.node] at h), by simp [Hs.node], fun k hk => ?_⟩, Or.inr (Or.inl rfl), fun k hk => ?_⟩
  · obtain rfl : k = a := by simpa [Hs.node] using hk
    exact h.2.1
  · obtain rfl : k = a := by simpa [Hs.node] using hk
    exact h.2.2
theorem bin_ex {d : Nat} {a b : Hs.Ast} (c : UInt8) (hc : c ∈ Hs.opSigns) (h : Hs.ExOk [] true [] d a ∧ LitOk d a ∧ ArA d a) (h2 : Hs.ExOk [] true [] d b ∧ LitOk d b ∧ ArA d b) : Hs.ExOk [] true [] (d + 1) (Hs.node [c] 1 [] [a, b]) ∧ LitOk (d + 1) (Hs.node [c] 1 [] [a, b]) ∧ ArA (d + 1) (Hs.node [c] 1 [] [a, b]) := by
  have hl : (Hs.levelOf [c] = 3 ∨ Hs.levelOf [c] = 4) ∧ ([c] : List UInt8) ≠ [115] := by
    simp only [Hs.opSigns, List.mem_cons, List.not_mem_nil, or_false] at hc
    rcases hc with rfl | rfl | rfl | rfl | rfl <;> decide
  refine ⟨Or.inr (Or.inr (Or.inr (Or.inr (Or.inr (Or.inr ⟨fun e => ?_, a, b, rfl, h.1, h2.1⟩))))), ⟨fun h => absurd h hl.2, by simp [Hs.node], fun k hk => ?_⟩, Or.inr (Or.inr hl.1), fun k hk => ?_⟩
  · have e : Hs.levelOf [c] = 9 := e
    rcases hl.1 with h | h <;> omega
  · rcases List.mem_cons.1 hk with rfl | hk
    · exact h.2.1
    · obtain rfl : k = b := by simpa using hk
      exact h2.2.1
  · rcases List.mem_cons.1 hk with rfl | hk
    · exact h.2.2
    · obtain rfl : k = b := by simpa using hk
      exact h2.2.2
theorem lit_ex (d : Nat) (x : Int) : Hs.ExOk [] true [] (d + 3) (Hs.litA x) ∧ LitOk (d + 3) (Hs.litA x) ∧ ArA (d + 3) (Hs.litA x) := by
  unfold Hs.litA
  split
  · exact bin_ex 45 (by decide) (un_ex (num_ex d _)) (num_ex (d + 1) _)
  · split
    · exact un_ex (num_ex (d + 1) _)
    · exact num_ex (d + 2) _
theorem sum_ex (c : UInt8) (hc : c ∈ Hs.opSigns) (x y : Int) : Hs.ExOk [] true [] 4 (Hs.sumA c x y) ∧ LitOk 4 (Hs.sumA c x y) ∧ ArA 4 (Hs.sumA c x y) := bin_ex c hc (lit_ex 0 x) (lit_ex 0 y)
theorem litC_len (x : Int) : (Hs.litC x).length ≤ 4 := by
  unfold Hs.litC; split
  · decide
  · split <;> simp
theorem meval_sum {lo : Nat} (c : UInt8) (hc : c ∈ Hs.opSigns) (x y : Int) (hx1 : -9223372036854775808 ≤ x) (hx2 : x ≤ 9223372036854775807) (hy1 : -9223372036854775808 ≤ y) (hy2 : y ≤ 9223372036854775807) (w : World) (a q : Nat) (x1 x2 x3 : Option Addr) (c1 n2 c2 n3 c3 : Nat) (t : TypeId) (z : Value) (hn : PN (Btw lo w.heap.size) w (.iface t z) (Hs.sumA c x y)) (hp : PowT w) :
    Calls Tryz.prog 117 #[.agg #[.int .i64 a, .slice x1 0 c1, .slice x2 n2 c2, .slice x3 n3 c3, .int .i64 q], .iface t z] w fun e w' => e = .returned (.tuple #[.string (bs (if (Hs.twoL [c] (Hs.vnum x) (Hs.vnum y)).2 = 0 then Hs.written (Hs.twoL [c] (Hs.vnum x) (Hs.vnum y)).1 else [])), .int .i64 ((Hs.twoL [c] (Hs.vnum x) (Hs.vnum y)).2 : Nat)]) ∧ Below w.heap.size w w' := by
  have hcd := Hs.exprC_sum [] [] 0 0 c hc x y hx1 hx2 hy1 hy2
  obtain ⟨k, g, hk, hg⟩ := Hs.sum_run c x y hx1 hx2 hy1 hy2 ⟨[], Hs.exprC [] [] 4 (Hs.sumA c x y) 0⟩ hcd 0 [] []
  obtain ⟨h1, h2, _⟩ := sum_ex c hc x y
  refine meval_ar w a q x1 x2 x3 c1 n2 c2 n3 c3 t z hn h1 h2 ?_ ?_ hk hg hp
  · rw [hcd]
    have := litC_len x
    have := litC_len y
    simp only [List.length_append, List.length_cons, List.length_nil]; omega
  · rw [hcd]; simp
end Go.Proofs.YtblbkfdhjfppkaaGreatDoor

/- Sums: an expression is read and worked out by a session. -/
namespace Go.Proofs.YtblbkfdhjfppkaaGreatDoor
open Go.RowKit
theorem callRx1 (a b : Value) (W : World) : (callFunc 112 #[a, b]).run Tryz.prog W = .ok (.enter 112 #[a, b]) W := by kernel_rfl
theorem callAn1 (a b : Value) (W : World) : (callFunc 114 #[a, b]).run Tryz.prog W = .ok (.enter 114 #[a, b]) W := by kernel_rfl
theorem readExpr_ok {a : Hs.Ast} (src : ByteArray) (w : World) (hT : AllTabs w) (hs : src.size ≤ maxLen) (ha : exprL src.data.toList = .ok a) :
    Calls Tryz.prog 62 #[.string src] w fun e w' => ∃ t z, e = .returned (.tuple #[.iface t z, .int .i64 0, .int .i64 0]) ∧ Below w.heap.size w w' ∧ PN (Btw w.heap.size w'.heap.size) w' (.iface t z) a := by
  generalize hW0 : (w.alloc (.cells #[.string src] 9)).alloc (.cells #[.nilIface] 122) = W0
  have hb0 : Below w.heap.size w W0 := by rw [← hW0]; exact ((Below.refl _ _).alloc (Nat.le_refl _) _).alloc (by simp) _
  have hs0 : W0.heap.size = w.heap.size + 2 := by rw [← hW0]; simp
  have hB0 : W0.heap[w.heap.size]? = some (.cells #[.string src] 9 (0, 0)) := by rw [← hW0]; exact first_blk _ _ _
  have hB1 : W0.heap[w.heap.size + 1]? = some (.cells #[.nilIface] 122 (0, 0)) := by rw [← hW0]; exact second_blk _ _ _
  refine (readExpr_walk w src (fun v W => ∃ t z, v = .tuple #[.iface t z, .int .i64 0, .int .i64 0] ∧ Below w.heap.size w W ∧ PN (Btw w.heap.size W.heap.size) W (.iface t z) a) ?_).mono ?_
  · show Calls _ _ _ _ _
    rw [hW0]
    refine (faultOf_gen 112 (some ⟨w.heap.size, 0, none⟩) (some ⟨w.heap.size + 1, 0, none⟩) W0
      (fun W => ∃ w1 t z, Below (W0.heap.size + 2) ((W0.alloc (.cells #[.int .i64 0] 22)).alloc (.cells #[.int .i64 0] 3)) w1 ∧ PN (Btw (W0.heap.size + 2) w1.heap.size) w1 (.iface t z) a ∧ W = w1.setCell ⟨w.heap.size + 1, 0, none⟩ (.iface t z))
      (fun _ _ => False) (fun W => callRx1 _ _ W) (fun W hW => ?_)).mono ?_
    · have hbW : Below W0.heap.size W0 W := by rw [hW]; exact ((Below.refl _ _).alloc (Nat.le_refl _) _).alloc (by simp) _
      have hsW : W.heap.size = W0.heap.size + 2 := by rw [hW]; simp
      have hK : W.heap[W0.heap.size]? = some (.cells #[.int .i64 0] 22 (0, 0)) := by rw [hW]; exact first_blk _ _ _
      have hI : W.heap[W0.heap.size + 1]? = some (.cells #[.int .i64 0] 3 (0, 0)) := by rw [hW]; exact second_blk _ _ _
      refine (rx1_any src w.heap.size (w.heap.size + 1) W ((hT.below hb0).below hbW) hs (cell_of_block (by rw [hbW.block _ (by omega)]; exact hB0) rfl) (by rw [hbW.block _ (by omega)]; exact hB1)).mono ?_
      rintro e w' (⟨rfl, w1, v, a', h1, h2, h3, rfl⟩ | ⟨f, h1, _⟩)
      · rw [ha] at h1
        cases h1
        obtain ⟨t, cs, rfl⟩ := h3.form
        refine Or.inl ⟨rfl, ?_, ?_, w1, t, _, by rw [← hW, ← hsW]; exact h2, by rw [← hsW]; exact h3, rfl⟩
        · rw [Below.heap_setCell _ _ _ _ (show W0.heap.size ≠ w.heap.size + 1 by omega), h2.block _ (by omega)]; exact hK
        · rw [Below.heap_setCell _ _ _ _ (show W0.heap.size + 1 ≠ w.heap.size + 1 by omega), h2.block _ (by omega)]; exact hI
      · rw [ha] at h1; cases h1
    · rintro e w' (⟨rfl, w1, ⟨w2, t, z, h1, h2, rfl⟩, rfl⟩ | ⟨k, n, _, _, _, h⟩)
      · have hz2 := h1.size
        simp at hz2
        have hc2 : w2.heap[w.heap.size + 1]? = some (.cells #[.nilIface] 122 (0, 0)) := by
          rw [h1.block _ (by omega)]
          exact heap_later _ _ (by simp; omega) _ (heap_later _ _ (by omega) _ hB1)
        have hne : ∀ k, k ≠ w.heap.size + 1 → k ≠ W0.heap.size → k ≠ W0.heap.size + 1 → (((w2.setCell ⟨w.heap.size + 1, 0, none⟩ (.iface t z)).setCell ⟨W0.heap.size, 0, none⟩ (.int .i64 0)).setCell ⟨W0.heap.size + 1, 0, none⟩ (.int .i64 0)).heap[k]? = w2.heap[k]? := fun k a b c => by
          rw [Below.heap_setCell _ _ _ _ c, Below.heap_setCell _ _ _ _ b, Below.heap_setCell _ _ _ _ a]
        have hcc : (((w2.setCell ⟨w.heap.size + 1, 0, none⟩ (.iface t z)).setCell ⟨W0.heap.size, 0, none⟩ (.int .i64 0)).setCell ⟨W0.heap.size + 1, 0, none⟩ (.int .i64 0)).heap[w.heap.size + 1]? = some (.cells #[.iface t z] 122 (0, 0)) := by
          rw [Below.heap_setCell _ _ _ _ (show w.heap.size + 1 ≠ W0.heap.size + 1 by omega), Below.heap_setCell _ _ _ _ (show w.heap.size + 1 ≠ W0.heap.size by omega)]
          exact heap_setCell_at hc2
        have hsz : (((w2.setCell ⟨w.heap.size + 1, 0, none⟩ (.iface t z)).setCell ⟨W0.heap.size, 0, none⟩ (.int .i64 0)).setCell ⟨W0.heap.size + 1, 0, none⟩ (.int .i64 0)).heap.size = w2.heap.size := by simp
        have hbb : Below w.heap.size w (((w2.setCell ⟨w.heap.size + 1, 0, none⟩ (.iface t z)).setCell ⟨W0.heap.size, 0, none⟩ (.int .i64 0)).setCell ⟨W0.heap.size + 1, 0, none⟩ (.int .i64 0)) :=
          ((((hb0.trans ((((Below.refl _ W0).alloc (Nat.le_refl _) _).alloc (by simp) _).mono (by omega))).trans (h1.mono (by omega))).setCell (by show _ ≤ w.heap.size + 1; omega) _).setCell (by show _ ≤ W0.heap.size; omega) _).setCell (by show _ ≤ W0.heap.size + 1; omega) _
        generalize ((w2.setCell ⟨w.heap.size + 1, 0, none⟩ (.iface t z)).setCell ⟨W0.heap.size, 0, none⟩ (.int .i64 0)).setCell ⟨W0.heap.size + 1, 0, none⟩ (.int .i64 0) = W3 at *
        refine ⟨0, 0, .iface t z, rfl, Or.inr ⟨t, z, rfl⟩, cell_of_block hcc rfl, frozen_of_block hcc, lt_of_block hcc, t, z, rfl, hbb.setCell (by show _ ≤ w.heap.size + 1; omega) _, ?_⟩
        refine PN.grow h2 (fun k hk1 hk2 => ?_) (by omega) (by simp; omega)
        rw [Below.heap_setCell _ _ _ _ (show k ≠ w.heap.size + 1 by omega), hne k (by omega) (by omega) (by omega)]
      · exact h.elim
  · rintro e w' ⟨v, rfl, t, z, rfl, h1, h2⟩
    exact ⟨t, z, rfl, h1, h2⟩
def sumStop (c : UInt8) (x y : Int) : Nat := (Hs.twoL [c] (Hs.vnum x) (Hs.vnum y)).2
def sumText (c : UInt8) (x y : Int) : List UInt8 := if sumStop c x y = 0 then Hs.written (Hs.twoL [c] (Hs.vnum x) (Hs.vnum y)).1 else []
theorem answer_sum {lo : Nat} (c : UInt8) (hc : c ∈ Hs.opSigns) (x y : Int) (hx1 : -9223372036854775808 ≤ x) (hx2 : x ≤ 9223372036854775807) (hy1 : -9223372036854775808 ≤ y) (hy2 : y ≤ 9223372036854775807) (w : World) (a q : Nat) (x1 x2 x3 : Option Addr) (c1 n2 c2 n3 c3 : Nat) (t : TypeId) (z : Value) (hn : PN (Btw lo w.heap.size) w (.iface t z) (Hs.sumA c x y)) (hp : PowT w) :
    Calls Tryz.prog 63 #[.agg #[.int .i64 a, .slice x1 0 c1, .slice x2 n2 c2, .slice x3 n3 c3, .int .i64 q], .iface t z] w fun e w' => e = .returned (.agg #[.string (bs (sumText c x y)), .int .i64 (sumStop c x y), .int .i64 0, .int .i64 0]) ∧ Below w.heap.size w w' := by
  have hav := PN.ar 4 hn (sum_ex c hc x y).2.2
  refine (answerAt_walk w a q x1 x2 x3 0 c1 n2 c2 n3 c3 t z (fun v W => v = .agg #[.string (bs (sumText c x y)), .int .i64 (sumStop c x y), .int .i64 0, .int .i64 0] ∧ Below w.heap.size w W) (fun k l W => k = 0 ∧ l = 0 ∧ Below w.heap.size w W) (fun W hb h0 h1 hsz => ?_) (fun k l W W' hk hA _ => absurd hA.1 hk) (fun l W W' hA hfr => ?_)).mono ?_
  · refine (faultOf_gen 114 (some ⟨w.heap.size + 1, 0, none⟩) (some ⟨w.heap.size, 0, none⟩) W (fun W1 => Below (W.heap.size + 2) ((W.alloc (.cells #[.int .i64 0] 22)).alloc (.cells #[.int .i64 0] 3)) W1) (fun _ _ => False) (fun W => callAn1 _ _ W) (fun V hV => ?_)).mono ?_
    · have hbV : Below W.heap.size W V := by rw [hV]; exact ((Below.refl _ _).alloc (Nat.le_refl _) _).alloc (by simp) _
      have hsV : V.heap.size = W.heap.size + 2 := by rw [hV]; simp
      have hK : V.heap[W.heap.size]? = some (.cells #[.int .i64 0] 22 (0, 0)) := by rw [hV]; exact first_blk _ _ _
      have hI : V.heap[W.heap.size + 1]? = some (.cells #[.int .i64 0] 3 (0, 0)) := by rw [hV]; exact second_blk _ _ _
      refine (answerAt1_walk V (w.heap.size + 1) w.heap.size a q x1 x2 x3 0 c1 n2 c2 n3 c3 t z (fun W1 => Below V.heap.size V W1) (by rw [hbV.block _ (by omega)]; exact h1) (by rw [hbV.block _ (by omega)]; exact h0) (fun W1 hS => ?_)).mono ?_
      · refine (names0_any W1 a q x1 x2 x3 c1 n2 c2 n3 c3).mono ?_
        rintro e w2 ⟨rfl, hb2⟩
        have hb2' : Below V.heap.size V w2 := hS.below.trans (hb2.mono hS.below.size)
        refine ⟨_, _, _, rfl, hb2', (checkExpr_ar hav none 0 0 w2).mono ?_⟩
        rintro e w3 ⟨rfl, hb3⟩
        exact ⟨rfl, hb2'.trans (hb3.mono hb2'.size)⟩
      · rintro e w' ⟨rfl, hb'⟩
        exact Or.inl ⟨rfl, by rw [hb'.block _ (by omega)]; exact hK, by rw [hb'.block _ (by omega)]; exact hI, by rw [← hV, ← hsV]; exact hb'⟩
    · rintro e w' (⟨rfl, w1, h2, rfl⟩ | ⟨k, n, _, _, _, h⟩)
      · have hbw : Below W.heap.size W ((w1.setCell ⟨W.heap.size, 0, none⟩ (.int .i64 0)).setCell ⟨W.heap.size + 1, 0, none⟩ (.int .i64 0)) :=
          (((((Below.refl _ W).alloc (Nat.le_refl _) _).alloc (by simp) _).trans (h2.mono (by omega))).setCell (by show _ ≤ W.heap.size; omega) _).setCell (by show _ ≤ W.heap.size + 1; omega) _
        exact ⟨0, 0, rfl, hbw, rfl, rfl, hb.trans (hbw.mono hb.size)⟩
      · exact h.elim
  · obtain ⟨_, rfl, hbW⟩ := hA
    have hbW' : Below w.heap.size w W' := ⟨hfr.os.trans hbW.os, hfr.tape.trans hbW.tape, hfr.output.trans hbW.output, Nat.le_trans hbW.size hfr.size, fun k hk => by
      rw [hfr.block k (Nat.lt_of_lt_of_le hk hbW.size) (by omega), hbW.block k hk]⟩
    refine (meval_sum c hc x y hx1 hx2 hy1 hy2 W' a q x1 x2 x3 c1 n2 c2 n3 c3 t z (PN.grow hn (fun k _ hk => hbW'.block k hk) (Nat.le_refl lo) hbW'.size) (hp.below hbW')).mono ?_
    rintro e w' ⟨rfl, hb⟩
    exact ⟨_, _, rfl, hb, fun w'' hb' => ⟨rfl, (hbW'.trans (hb.mono hbW'.size)).trans hb'⟩⟩
  · rintro e w' ⟨v, rfl, rfl, h⟩
    exact ⟨rfl, h⟩
theorem sEval_sum (c : UInt8) (hc : c ∈ Hs.opSigns) (x y : Int) (hx1 : -9223372036854775808 ≤ x) (hx2 : x ≤ 9223372036854775807) (hy1 : -9223372036854775808 ≤ y) (hy2 : y ≤ 9223372036854775807) (src : ByteArray) (hsrc : src.data.toList = Hs.sumL c x y) (w : World) (sb : Nat) (a q : Nat) (x1 x2 x3 : Option Addr) (c1 n2 c2 n3 c3 : Nat) (ev mv : Value) (hblk : w.heap[sb]? = some (.cells #[.int .i64 a, .slice x1 0 c1, .slice x2 n2 c2, .slice x3 n3 c3, .int .i64 q, ev, mv] 114 (0, 0))) (hT : AllTabs w) (hp : PowT w) :
    Calls Tryz.prog 26 #[.pointer (some ⟨sb, 0, none⟩), .string src] w fun e w' => e = .returned (.tuple #[.string (bs (sumText c x y)), .int .i64 (sumStop c x y), .int .i64 0, .int .i64 0]) ∧ Below w.heap.size w w' := by
  have hsl : src.size ≤ maxLen := by
    have h1 : src.data.toList.length = src.size := by simp
    have h2 := Hs.sumL_len c x y
    rw [hsrc] at h1
    unfold maxLen; omega
  have hlt := lt_of_block hblk
  refine (sEval_walk w sb src a q x1 x2 x3 0 c1 n2 c2 n3 c3 (fun v W => v = .tuple #[.string (bs (sumText c x y)), .int .i64 (sumStop c x y), .int .i64 0, .int .i64 0] ∧ Below w.heap.size w W) (fun t z W => Below w.heap.size w W ∧ PN (Btw w.heap.size W.heap.size) W (.iface t z) (Hs.sumA c x y)) ?_ (fun t z W hA => ?_)).mono ?_
  · refine (readExpr_ok src w hT hsl (by rw [hsrc]; exact sum_exprL c hc x y hx1 hx2 hy1 hy2)).mono ?_
    rintro e w' ⟨t, z, rfl, h1, h2⟩
    exact Or.inr ⟨t, z, rfl, h1, h2⟩
  · obtain ⟨h1, h2⟩ := hA
    have hb : W.heap[sb]? = _ := (h1.block sb hlt).trans hblk
    refine ⟨cell_of_block hb rfl, cell_of_block hb rfl, cell_of_block hb rfl, cell_of_block hb rfl, cell_of_block hb rfl, lt_of_block hb, ?_⟩
    refine (answer_sum c hc x y hx1 hx2 hy1 hy2 W a q x1 x2 x3 c1 n2 c2 n3 c3 t z h2 (hp.below h1)).mono ?_
    rintro e w' ⟨rfl, h3⟩
    exact ⟨_, _, _, _, rfl, fun W' hb' => ⟨rfl, (h1.trans (h3.mono h1.size)).trans (hb'.mono (Nat.le_trans h1.size h3.size))⟩⟩
  · rintro e w' ⟨v, rfl, rfl, h⟩
    exact ⟨rfl, h⟩
end Go.Proofs.YtblbkfdhjfppkaaGreatDoor

/- Sums: the whole. -/
namespace Go.Proofs.YtblbkfdhjfppkaaGreatDoor
open Go.RowKit
def opOf : Nat → UInt8
  | 0 => 43
  | 1 => 45
  | 2 => 42
  | 3 => 47
  | _ => 37
theorem opOf_mem : ∀ k, opOf k ∈ Hs.opSigns
  | 0 => by decide
  | 1 => by decide
  | 2 => by decide
  | 3 => by decide
  | _ + 4 => by show (37 : UInt8) ∈ _; decide
def SumS (w : World) (sb : Nat) (W : World) : Prop :=
  Below w.heap.size w W ∧ W.heap[w.heap.size]? = some opsO ∧ ∃ (a q : Nat) (x1 x2 x3 : Option Addr) (c1 n2 c2 n3 c3 : Nat) (ev mv : Value), W.heap[sb]? = some (.cells #[.int .i64 a, .slice x1 0 c1, .slice x2 n2 c2, .slice x3 n3 c3, .int .i64 q, ev, mv] 114 (0, 0))
theorem SumS.later {w W W' : World} {sb : Nat} (h : SumS w sb W) (hb : Below W.heap.size W W') : SumS w sb W' := by
  obtain ⟨h1, h2, a, q, x1, x2, x3, c1, n2, c2, n3, c3, ev, mv, h3⟩ := h
  exact ⟨h1.trans (hb.mono h1.size), (hb.block _ (lt_of_block h2)).trans h2, a, q, x1, x2, x3, c1, n2, c2, n3, c3, ev, mv, (hb.block _ (lt_of_block h3)).trans h3⟩
theorem sum_facts (k : Nat) (hk : k < 5) (x y : Int) (hx1 : -9223372036854775808 ≤ x) (hx2 : x ≤ 9223372036854775807) :
    (2 < k ∧ y = 0 ∧ sumStop (opOf k) x y = 3 ∧ sumText (opOf k) x y = []) ∨ (sumStop (opOf k) x y = 0 ∧ ∃ V, -9223372036854775808 ≤ V ∧ V ≤ 9223372036854775807 ∧ sumText (opOf k) x y = Hs.decimalsL V ∧ ((k = 0 ∧ V = wrap64 (x + y)) ∨ (k = 1 ∧ V = wrap64 (x - y)) ∨ (k = 2 ∧ V = wrap64 (x * y)) ∨ (k = 3 ∧ y = -1 ∧ V = wrap64 (-x)) ∨ (k = 4 ∧ y = -1 ∧ V = 0) ∨ (k = 3 ∧ y ≠ 0 ∧ y ≠ -1 ∧ V = wrap64 (x.tdiv y)) ∨ (k = 4 ∧ y ≠ 0 ∧ y ≠ -1 ∧ V = x.tmod y))) := by
  have hw : ∀ n : Int, Hs.written (Hs.vnum n) = Hs.decimalsL n := fun n => by rw [Hs.written_eq]; rfl
  have fin : ∀ (c : UInt8) (n : Int), Hs.twoL [c] (Hs.vnum x) (Hs.vnum y) = (Hs.vnum n, 0) → sumStop c x y = 0 ∧ sumText c x y = Hs.decimalsL n := fun c n e => by
    unfold sumText sumStop; rw [e]; exact ⟨rfl, hw n⟩
  obtain rfl | rfl | rfl | rfl | rfl : k = 0 ∨ k = 1 ∨ k = 2 ∨ k = 3 ∨ k = 4 := by omega
  · obtain ⟨e1, e2⟩ := fin 43 (Hs.w64 (x + y)) rfl
    exact Or.inr ⟨e1, _, (w64_fit _).1, (w64_fit _).2, e2, Or.inl ⟨rfl, w64_eq _⟩⟩
  · obtain ⟨e1, e2⟩ := fin 45 (Hs.w64 (x - y)) rfl
    exact Or.inr ⟨e1, _, (w64_fit _).1, (w64_fit _).2, e2, Or.inr (Or.inl ⟨rfl, w64_eq _⟩)⟩
  · obtain ⟨e1, e2⟩ := fin 42 (Hs.w64 (x * y)) rfl
    exact Or.inr ⟨e1, _, (w64_fit _).1, (w64_fit _).2, e2, Or.inr (Or.inr (Or.inl ⟨rfl, w64_eq _⟩))⟩
  · have ht : Hs.twoL [47] (Hs.vnum x) (Hs.vnum y) = if y = 0 then (Hs.vnil, 3) else (Hs.vnum (Hs.w64 (x.tdiv y)), 0) := rfl
    by_cases hy : y = 0
    · rw [if_pos hy] at ht
      exact Or.inl ⟨by omega, hy, by show (Hs.twoL [47] _ _).2 = 3; rw [ht], by show (if (Hs.twoL [47] _ _).2 = 0 then _ else _) = _; rw [ht]; rfl⟩
    · rw [if_neg hy] at ht
      obtain ⟨e1, e2⟩ := fin 47 _ ht
      refine Or.inr ⟨e1, _, (w64_fit _).1, (w64_fit _).2, e2, ?_⟩
      by_cases hm : y = -1
      · subst hm
        exact Or.inr (Or.inr (Or.inr (Or.inl ⟨rfl, rfl, by rw [w64_eq, Int.tdiv_neg, Int.tdiv_one]⟩)))
      · exact Or.inr (Or.inr (Or.inr (Or.inr (Or.inr (Or.inl ⟨rfl, hy, hm, w64_eq _⟩)))))
  · have ht : Hs.twoL [37] (Hs.vnum x) (Hs.vnum y) = if y = 0 then (Hs.vnil, 3) else (Hs.vnum (Hs.w64 (x.tmod y)), 0) := rfl
    by_cases hy : y = 0
    · rw [if_pos hy] at ht
      exact Or.inl ⟨by omega, hy, by show (Hs.twoL [37] _ _).2 = 3; rw [ht], by show (if (Hs.twoL [37] _ _).2 = 0 then _ else _) = _; rw [ht]; rfl⟩
    · rw [if_neg hy] at ht
      obtain ⟨e1, e2⟩ := fin 37 _ ht
      have hm := tmod_fit x y hx1 hx2
      rw [w64_small _ hm.1 hm.2] at e2
      refine Or.inr ⟨e1, _, hm.1, hm.2, e2, ?_⟩
      by_cases hm : y = -1
      · subst hm
        exact Or.inr (Or.inr (Or.inr (Or.inr (Or.inl ⟨rfl, rfl, by rw [Int.tmod_neg, Int.tmod_one]⟩))))
      · exact Or.inr (Or.inr (Or.inr (Or.inr (Or.inr (Or.inr ⟨rfl, hy, hm, rfl⟩)))))
theorem sums_any (x y c : Int) (hx1 : -9223372036854775808 ≤ x) (hx2 : x ≤ 9223372036854775807) (hy1 : -9223372036854775808 ≤ y) (hy2 : y ≤ 9223372036854775807) (hc1 : -9223372036854775808 ≤ c) (hc2 : c ≤ 9223372036854775807) (w : World) (hT : AllTabs w) (hp : PowT w) :
    Calls Tryz.prog 11 #[.int .i64 x, .int .i64 y, .int .i64 c] w fun e w' => e = .returned (.bool true) ∧ Below w.heap.size w w' := by
  obtain ⟨k, hk, hpk⟩ : ∃ k : Nat, k < 5 ∧ ∀ W, Calls Tryz.prog 31 #[.int .i64 c, .int .i64 5] W fun e w' => e = .returned (.int .i64 k) ∧ w' = W := pick5_any c hc1 hc2
  have hb0 : Below w.heap.size w (w.alloc opsO) := (Below.refl _ _).alloc (Nat.le_refl _) _
  refine sums_walk w x y c k (sumStop (opOf k) x y) (opOf k) (Hs.litL x) (Hs.litL y) (sumText (opOf k) x y) (SumS w) (sum_facts k hk x y hx1 hx2) hk (Hs.litL_len x) (Hs.litL_len y) hpk ?_ (fun sb W h => h.later ((Below.refl _ _).drew)) (fun sb W h => ?_) (fun sb W h => ?_) (fun sb W h => ?_) (fun sb W h => ?_) (fun V sb W h h1 h2 => ?_) (fun sb W h => h.1)
  · refine (hstart_of _ (.slice none 0 0) [] (w.alloc opsO) (hT.below hb0) (by decide) (Or.inl ⟨rfl, rfl⟩) (fun ks hpa _ => ?_)).mono ?_
    · have e : Hs.parsedL Hs.src0 = .ok ks := hpa
      rw [Hs.src0_parse] at e
      cases e
      exact ⟨(⟨[], [], []⟩, 1), Hs.ks0_start, fun lo W v hv ht => start0_any W v hv ht⟩
    · rintro e w' ⟨v, rfl, hb, ⟨_, ks, fp, G, sb, mb, hpa, rfl, _, _, _, s, hses, ht⟩ | ⟨hne, _⟩⟩
      · have e : Hs.parsedL Hs.src0 = .ok ks := hpa
        rw [Hs.src0_parse] at e
        cases e
        refine ⟨sb, rfl, hb0.trans (hb.mono hb0.size), (hb.block _ (by simp)).trans (heap_first _ _ rfl _), ?_⟩
        have hn := hses.now
        rw [ht] at hn
        have hn : Hs.stAt (Hs.tabC Hs.ks0 2001) (Hs.mst0 Hs.ks0 2001 []) 0 = some s := hn
        rw [Hs.ks0_start] at hn
        cases hn
        obtain ⟨fv, tv, ov, ev, es, k1, k2, -⟩ := hses.blk
        obtain ⟨fv', tv', outv, fvs, e1, f1, f2, f3, f4⟩ := k2
        simp only [Value.agg.injEq, Array.mk.injEq, List.cons.injEq, and_true, true_and] at e1
        obtain ⟨rfl, rfl, rfl⟩ := e1
        cases fvs with
        | cons v vs => exact f2.elim
        | nil =>
          obtain ⟨y1, d1, rfl⟩ : ∃ x c, fv = .slice x 0 c := by
            rcases f1 with ⟨_, h⟩ | ⟨g, c, cur, h, _⟩
            · exact h
            · exact ⟨_, _, h⟩
          obtain ⟨y2, m2, d2, rfl⟩ : ∃ x n c, tv = .slice x n c := by
            rcases f3 with ⟨_, x, c, h⟩ | ⟨g, o, c, h, _⟩
            · exact ⟨_, _, _, h⟩
            · exact ⟨_, _, _, h⟩
          obtain ⟨y3, m3, d3, rfl⟩ : ∃ x n c, ov = .slice x n c := by
            rcases f4 with ⟨_, h⟩ | ⟨g, c, cur, h, _⟩
            · exact ⟨_, _, _, h⟩
            · exact ⟨_, _, _, h⟩
          exact ⟨_, _, _, _, _, _, _, _, _, _, _, _, k1⟩
      · exact absurd (show (Hs.readL Hs.src0).1 = 0 by rw [Hs.src0_read]) hne
  · have h2 := h.2.1
    obtain rfl | rfl | rfl | rfl | rfl : k = 0 ∨ k = 1 ∨ k = 2 ∨ k = 3 ∨ k = 4 := by omega
    all_goals exact cell_of_block h2 rfl
  · exact (literal_any x hx1 hx2 W (hp.below h.1)).mono fun e w' h' => ⟨h'.1, h.later h'.2⟩
  · exact (literal_any y hy1 hy2 W (hp.below h.1)).mono fun e w' h' => ⟨h'.1, h.later h'.2⟩
  · obtain ⟨h1, h2, a, q, x1, x2, x3, c1, n2, c2, n3, c3, ev, mv, h3⟩ := id h
    refine (sEval_sum (opOf k) (opOf_mem k) x y hx1 hx2 hy1 hy2 _ ?_ W sb a q x1 x2 x3 c1 n2 c2 n3 c3 ev mv h3 (hT.below h1) (hp.below h1)).mono fun e w' h' => ⟨h'.1, h.later h'.2⟩
    rw [bs_append, bs_append, bs_data]; unfold Hs.sumL; simp
  · exact (itoa_any V h1 h2 W (hp.below h.1)).mono fun e w' h' => ⟨h'.1, h.later h'.2⟩
end Go.Proofs.YtblbkfdhjfppkaaGreatDoor
