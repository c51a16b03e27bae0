/- Contracts of the document's answer: names: declarations, functions by name. -/
import Derived.Test.YtblbkfdhjfppkaaGreatDoorPart00
import Derived.Deep.CutBlock
namespace Go.Proofs.YtblbkfdhjfppkaaGreatDoor
open Go.RowKit
theorem All2.get {R : Value → Hs.Ast → Prop} : ∀ {vs ks} (i : Nat) (hi : i < ks.length), All2 R vs ks → ∃ v, vs[i]? = some v ∧ R v ks[i]
  | v :: vs, a :: ks, 0, _, h => ⟨v, rfl, h.1⟩
  | v :: vs, a :: ks, i + 1, hi, h => by
    obtain ⟨u, h1, h2⟩ := All2.get (vs := vs) (ks := ks) i (by simpa using hi) h.2
    exact ⟨u, by simpa using h1, by simpa using h2⟩
  | [], _ :: _, _, _, h => h.elim
  | _ :: _, [], _, hi, _ => by simp at hi
  | [], [], _, hi, _ => by simp at hi
theorem Chk_seen_found (s : Hs.Chk) (l k : Nat) : (s.found l k).seen = s.seen := by
  unfold Hs.Chk.found; split <;> rfl
end Go.Proofs.YtblbkfdhjfppkaaGreatDoor

/- Contracts of the document's answer: names: calls. -/
namespace Go.Proofs.YtblbkfdhjfppkaaGreatDoor
open Go.RowKit
theorem callsL_neg {fs : List Hs.Ast} {alone : Bool} {s : Hs.Chk} {a : Hs.Ast} {W : Int} (h : Hs.wantL fs alone a.text = W) (h0 : W < 0) : Hs.callsL fs alone s a = s.found a.line 6 := by
  unfold Hs.callsL; rw [h, if_pos h0]
theorem callsL_ne {fs : List Hs.Ast} {alone : Bool} {s : Hs.Chk} {a : Hs.Ast} {W : Int} (h : Hs.wantL fs alone a.text = W) (h0 : ¬ W < 0) (h1 : W ≠ (a.kids.length : Int)) : Hs.callsL fs alone s a = s.found a.line 7 := by
  unfold Hs.callsL; rw [h, if_neg h0, if_pos h1]
theorem callsL_eq {fs : List Hs.Ast} {alone : Bool} {s : Hs.Chk} {a : Hs.Ast} {W : Int} (h : Hs.wantL fs alone a.text = W) (h0 : ¬ W < 0) (h1 : W = (a.kids.length : Int)) : Hs.callsL fs alone s a = s := by
  unfold Hs.callsL; rw [h, if_neg h0, if_neg (by simpa using h1)]
end Go.Proofs.YtblbkfdhjfppkaaGreatDoor

/- Contracts of the document's answer: names: trees. -/
namespace Go.Proofs.YtblbkfdhjfppkaaGreatDoor
open Go.RowKit
theorem lookL_seen (fs : List Hs.Ast) (alone : Bool) (s : Hs.Chk) (n : Hs.Ast) : (Hs.lookL fs alone s n).seen = s.seen := by
  unfold Hs.lookL Hs.callsL
  repeat' split
  all_goals first | rfl | exact Chk_seen_found _ _ _
theorem declaresL_seen (s : Hs.Chk) (n : Hs.Ast) : (Hs.declaresL s n).seen = s.seen := by
  unfold Hs.declaresL
  split
  · exact Chk_seen_found _ _ _
  · rfl
def Adds (s s' : Hs.Chk) (m : Nat) : Prop := ∃ t, s'.seen = s.seen ++ t ∧ t.length ≤ m
theorem Adds.refl (s : Hs.Chk) : Adds s s 0 := ⟨[], by simp, Nat.le_refl _⟩
theorem Adds.trans {a b c : Hs.Chk} {m n : Nat} (h : Adds a b m) (k : Adds b c n) : Adds a c (m + n) := by
  obtain ⟨t, h1, h2⟩ := h
  obtain ⟨u, k1, k2⟩ := k
  exact ⟨t ++ u, by rw [k1, h1, List.append_assoc], by simp; omega⟩
theorem Adds.le {a b : Hs.Chk} {m n : Nat} (h : Adds a b m) (hn : m ≤ n) : Adds a b n := by
  obtain ⟨t, h1, h2⟩ := h
  exact ⟨t, h1, by omega⟩
theorem Adds.of_eq {a b : Hs.Chk} (h : b.seen = a.seen) : Adds a b 0 := ⟨[], by simp [h], Nat.le_refl _⟩
theorem Adds.fold {f : Hs.Chk → Hs.Ast → Hs.Chk} {g : Hs.Ast → Nat} (h : ∀ s k, Adds s (f s k) (g k)) : ∀ (l : List Hs.Ast) (s : Hs.Chk), Adds s (l.foldl f s) (l.map g).sum
  | [], s => Adds.refl s
  | k :: l, s => by
    rw [List.foldl_cons, List.map_cons, List.sum_cons]
    exact (h s k).trans (Adds.fold h l _)
theorem walkL_adds (fs : List Hs.Ast) (alone : Bool) : ∀ (d : Nat) (n : Hs.Ast) (s : Hs.Chk), Adds s (Hs.walkL fs alone d n s) (Hs.wt d n)
  | 0, n, s => Adds.refl s
  | d + 1, n, s => by
    rw [Hs.walkL, Hs.wt]
    split
    · match hn : n.kids with
      | t :: v :: r =>
        simp only
        have h1 : Adds s (Hs.declaresL s t) 0 := Adds.of_eq (declaresL_seen s t)
        obtain ⟨u, h2, h3⟩ := h1.trans (walkL_adds fs alone d v (Hs.declaresL s t))
        exact ⟨u ++ [t.text], by simp [h2], by simp; omega⟩
      | [] => exact (Adds.refl s).le (by omega)
      | [_] => exact (Adds.refl s).le (by omega)
    · have h1 : Adds s (Hs.lookL fs alone s n) 0 := Adds.of_eq (lookL_seen fs alone s n)
      have h2 := h1.trans (Adds.fold (f := fun s k => Hs.walkL fs alone d k s) (g := Hs.wt d) (fun s k => walkL_adds fs alone d k s) n.kids (Hs.lookL fs alone s n))
      split
      · obtain ⟨u, h3, h4⟩ := h2
        exact ⟨[], by simp [h3], by simp⟩
      · exact h2.le (by omega)
theorem sum_mem_le {f : Hs.Ast → Nat} {k : Hs.Ast} : ∀ {l : List Hs.Ast}, k ∈ l → f k ≤ (l.map f).sum
  | [], h => by cases h
  | x :: l, h => by
    simp only [List.map_cons, List.sum_cons]
    rcases List.mem_cons.1 h with rfl | h
    · omega
    · have := sum_mem_le (f := f) h; omega
theorem strs_cut {w : World} {base : Nat} {v : Value} {l : List (List UInt8)} (h : w.ownsRow base 9 1 v l.length (strsV l)) (m : Nat) (hm : m ≤ l.length) :
    ∃ x c, v = .slice x l.length c ∧ l.length ≤ c ∧ c ≤ maxLen ∧ w.ownsRow base 9 1 (.slice x m c) m (strsV (l.take m)) := by
  have hl : (strsV (l.take m)).length = m * 1 := by simp [strsV]; omega
  rcases h.2 with ⟨rfl, h0⟩ | ⟨g, cap, cur, rfl, h2, h3, h4, h5, h6, h7⟩
  · refine ⟨none, 0, by rw [h0], by omega, by unfold maxLen; omega, hl, Or.inl ⟨?_, by omega⟩⟩
    rw [show m = 0 by omega]
  · refine ⟨_, cap, rfl, h4, h5, hl, Or.inr ⟨g, cap, cur, rfl, h2, h3, by omega, h5, h6, ?_⟩⟩
    have e : strsV (l.take m) = (strsV l).take m := by simp [strsV, List.map_take]
    rw [e, ← h7, List.take_take]
    congr 1; omega
end Go.Proofs.YtblbkfdhjfppkaaGreatDoor

/- Contracts of the document's answer: names: declarations. -/
namespace Go.Proofs.YtblbkfdhjfppkaaGreatDoor
open Go.RowKit
theorem news_str (w : World) (x : List UInt8) : ∀ j u, ([.string (bs x)] : List Value)[j]? = some u → (w.alloc (.cells #[.string (bs x)] 9)).cell? ((⟨w.heap.size, 0, none⟩ : Addr).add j) = some u := by
  intro j u hj
  match j, hj with
  | 0, hj => simp at hj; subst hj; simp [Addr.add, go_sem]
  | j + 1, hj => simp at hj
theorem one_str (x : List UInt8) : ∀ u ∈ ([.string (bs x)] : List Value), u.oneCell' = true := by
  intro u hu; simp at hu; subst hu; rfl
theorem len_le_sum (d : Nat) : ∀ l : List Hs.Ast, l.length ≤ (l.map (Hs.wt (d + 1))).sum
  | [] => by simp
  | x :: l => by
    have := len_le_sum d l
    have h1 : 1 ≤ Hs.wt (d + 1) x := by rw [Hs.wt]; omega
    simp only [List.length_cons, List.map_cons, List.sum_cons]
    omega
end Go.Proofs.YtblbkfdhjfppkaaGreatDoor

/- The document's answer: what is wrong with a source. -/
namespace Go.Proofs.YtblbkfdhjfppkaaGreatDoor
open Go.RowKit
theorem FineL.mem {m : Nat} {l : List Hs.Ast} (h : Hs.FineL m l) {f : Hs.Ast} (hf : f ∈ l) : Hs.FineA m f := fun d => ⟨Nat.le_trans (sum_mem_le hf) (h d).1, (h d).2 f hf⟩
theorem FineL.len {m : Nat} {l : List Hs.Ast} (h : Hs.FineL m l) : l.length ≤ m := Nat.le_trans (len_le_sum 0 l) (h 1).1
end Go.Proofs.YtblbkfdhjfppkaaGreatDoor
