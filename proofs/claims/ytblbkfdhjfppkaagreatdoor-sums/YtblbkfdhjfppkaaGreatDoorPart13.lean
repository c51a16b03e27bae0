/- Contracts of the document's answer: operations of two operands. -/
import Derived.Test.YtblbkfdhjfppkaaGreatDoorPart12
import Derived.Test.YtblbkfdhjfppkaaGreatDoorPart00
namespace Go.Proofs.YtblbkfdhjfppkaaGreatDoor
open Go.RowKit
theorem bytes_less : ∀ l m : List UInt8, Op.bytesLess l m = Hs.lessL l m
  | [], [] => rfl
  | [], _ :: _ => rfl
  | _ :: _, [] => rfl
  | a :: l, b :: m => by
    rw [Op.bytesLess, Hs.lessL, bytes_less l m]
    by_cases h1 : a.toNat < b.toNat
    · rw [if_pos h1, decide_eq_true (UInt8.lt_iff_toNat_lt.2 h1), Bool.true_or]
    · rw [if_neg h1, decide_eq_false (fun h => h1 (UInt8.lt_iff_toNat_lt.1 h)), Bool.false_or]
      by_cases h2 : b.toNat < a.toNat
      · rw [if_pos h2, beq_eq_false_iff_ne.2 (fun e => by rw [e] at h2; omega), Bool.false_and]
      · rw [if_neg h2, show a = b from UInt8.toNat_inj.1 (by omega), beq_self_eq_true, Bool.true_and]
theorem bytes_leq : ∀ l m : List UInt8, (Hs.lessL l m || l == m) = !Hs.lessL m l
  | [], [] => rfl
  | [], _ :: _ => rfl
  | _ :: _, [] => rfl
  | a :: l, b :: m => by
    rw [Hs.lessL, Hs.lessL]
    by_cases h1 : a.toNat < b.toNat
    · rw [if_pos h1, if_neg (by omega), if_pos h1]; rfl
    · by_cases h2 : b.toNat < a.toNat
      · rw [if_neg h1, if_pos h2, if_pos h2]
        have : (a :: l == b :: m) = false := beq_eq_false_iff_ne.2 (fun e => by rw [List.cons.injEq] at e; rw [e.1] at h2; omega)
        rw [this]; rfl
      · rw [if_neg h1, if_neg h2, if_neg h2, if_neg h1, ← bytes_leq l m, show a = b from UInt8.toNat_inj.1 (by omega)]
        simp
end Go.Proofs.YtblbkfdhjfppkaaGreatDoor

/- Values, more of what is done with them: characters, lengths, indices, changes. -/
namespace Go.Proofs.YtblbkfdhjfppkaaGreatDoor.Hs
def charsF : Nat → List UInt8 → List (List UInt8)
  | 0, _ => []
  | f + 1, l => if l = [] then [] else if charL l = 0 then [] else l.take (charL l) :: charsF f (l.drop (charL l))
def charsL (l : List UInt8) : List (List UInt8) := charsF l.length l
def lengthL (a : Val) : Val × Nat :=
  if a.sort = 3 then (vnum a.l.length, 0) else if a.sort = 2 then (vnum (charsL a.s).length, 0) else (vnil, 2)
def partsL (a : Val) : List Val := if a.sort = 2 then (charsL a.s).map vstr else a.l
def indexL (a b : Val) : Val × Nat :=
  if a.sort < 2 ∨ b.sort ≠ 0 then (vnil, 2)
  else if b.n < 0 ∨ ((partsL a).length : Int) ≤ b.n then (vnil, 4)
  else ((partsL a).getD b.n.toNat vnil, 0)
def changedL : List Val → Val → Val → Val × Nat
  | [], _, v => (v, 0)
  | i :: at', old, v =>
    if old.sort ≠ 3 ∨ i.sort ≠ 0 then (vnil, 2)
    else if i.n < 0 ∨ (old.l.length : Int) ≤ i.n then (vnil, 4)
    else if (changedL at' (old.l.getD i.n.toNat vnil) v).2 ≠ 0 then (vnil, (changedL at' (old.l.getD i.n.toNat vnil) v).2)
    else (vlst (old.l.set i.n.toNat (changedL at' (old.l.getD i.n.toNat vnil) v).1), 0)
end Go.Proofs.YtblbkfdhjfppkaaGreatDoor.Hs

/- Contracts of the program: values in memory; what asks for their sort. -/
namespace Go.Proofs.YtblbkfdhjfppkaaGreatDoor
open Go.RowKit
abbrev stopE (k : Nat) : Ending := .panicked [{ v := .iface 353 (.int .i64 k), recovered := false }]
def VLr (R : Value → Hs.Val → Prop) (F : Nat → Prop) (w : World) (sv : Value) (l : List Hs.Val) : Prop :=
  (l = [] ∧ sv = .slice none 0 0) ∨
  ∃ g cap cur, sv = .slice (some ⟨g, 0, none⟩) l.length cap ∧ F g ∧ w.heap[g]? = some (.cells cur 256 (0, 0)) ∧ l.length ≤ cap ∧ ∀ i (h : i < l.length), ∃ u, cur[i]? = some u ∧ R u l[i]
def VR : Nat → (Nat → Prop) → World → Value → Hs.Val → Prop
  | 0, _, _, _, _ => False
  | d + 1, F, w, v, a =>
    (∃ n, v = .iface 315 (.int .i64 n) ∧ a = Hs.vnum n ∧ -9223372036854775808 ≤ n ∧ n ≤ 9223372036854775807) ∨
    (∃ b, v = .iface 316 (.bool b) ∧ a = Hs.vtru b) ∨
    (∃ s, v = .iface 318 (.string (bs s)) ∧ a = Hs.vstr s) ∨
    (∃ sv l, v = .iface 319 sv ∧ a = Hs.vlst l ∧ VLr (VR d F w) F w sv l)
theorem VLr.mono {R S : Value → Hs.Val → Prop} {F G : Nat → Prop} {w : World} {sv : Value} {l : List Hs.Val} (h : VLr R F w sv l) (hR : ∀ v a, R v a → S v a) (hF : ∀ b, F b → G b) : VLr S G w sv l := by
  rcases h with h | ⟨g, cap, cur, h1, h2, h3, h4, h5⟩
  · exact Or.inl h
  · refine Or.inr ⟨g, cap, cur, h1, hF _ h2, h3, h4, fun i hi => ?_⟩
    obtain ⟨u, k1, k2⟩ := h5 i hi
    exact ⟨u, k1, hR _ _ k2⟩
theorem VLr.keep {R : Value → Hs.Val → Prop} {F : Nat → Prop} {w w' : World} {sv : Value} {l : List Hs.Val} (h : VLr R F w sv l) (hk : ∀ b, F b → w'.heap[b]? = w.heap[b]?) : VLr R F w' sv l := by
  rcases h with h | ⟨g, cap, cur, h1, h2, h3, h4, h5⟩
  · exact Or.inl h
  · exact Or.inr ⟨g, cap, cur, h1, h2, by rw [hk g h2]; exact h3, h4, h5⟩
theorem VR.mono {F G : Nat → Prop} {w : World} (hF : ∀ b, F b → G b) : ∀ {d e : Nat} {v : Value} {a : Hs.Val}, VR d F w v a → d ≤ e → VR e G w v a
  | 0, _, _, _, h, _ => h.elim
  | d + 1, 0, _, _, _, h => by omega
  | d + 1, e + 1, v, a, h, hde => by
    rcases h with h | h | h | ⟨sv, l, h1, h2, h3⟩
    · exact Or.inl h
    · exact Or.inr (Or.inl h)
    · exact Or.inr (Or.inr (Or.inl h))
    · exact Or.inr (Or.inr (Or.inr ⟨sv, l, h1, h2, h3.mono (fun _ _ h => VR.mono hF h (by omega)) hF⟩))
theorem VR.keep {F : Nat → Prop} {w w' : World} (hk : ∀ b, F b → w'.heap[b]? = w.heap[b]?) : ∀ {d : Nat} {v : Value} {a : Hs.Val}, VR d F w v a → VR d F w' v a
  | 0, _, _, h => h.elim
  | d + 1, v, a, h => by
    rcases h with h | h | h | ⟨sv, l, h1, h2, h3⟩
    · exact Or.inl h
    · exact Or.inr (Or.inl h)
    · exact Or.inr (Or.inr (Or.inl h))
    · exact Or.inr (Or.inr (Or.inr ⟨sv, l, h1, h2, (h3.mono (fun _ _ h => VR.keep hk h) (fun _ h => h)).keep hk⟩))
def PV (F : Nat → Prop) (w : World) (v : Value) (a : Hs.Val) : Prop := ∃ d, VR d F w v a
theorem PV.mono {F G : Nat → Prop} {w : World} {v : Value} {a : Hs.Val} (h : PV F w v a) (hF : ∀ b, F b → G b) : PV G w v a := by
  obtain ⟨d, h⟩ := h; exact ⟨d, h.mono hF (Nat.le_refl _)⟩
theorem PV.keep {F : Nat → Prop} {w w' : World} {v : Value} {a : Hs.Val} (h : PV F w v a) (hk : ∀ b, F b → w'.heap[b]? = w.heap[b]?) : PV F w' v a := by
  obtain ⟨d, h⟩ := h; exact ⟨d, h.keep hk⟩
theorem PV.num (F : Nat → Prop) (w : World) (n : Int) (h1 : -9223372036854775808 ≤ n) (h2 : n ≤ 9223372036854775807) : PV F w (.iface 315 (.int .i64 n)) (Hs.vnum n) := ⟨1, Or.inl ⟨n, rfl, rfl, h1, h2⟩⟩
theorem PV.tru (F : Nat → Prop) (w : World) (b : Bool) : PV F w (.iface 316 (.bool b)) (Hs.vtru b) := ⟨1, Or.inr (Or.inl ⟨b, rfl, rfl⟩)⟩
theorem PV.str (F : Nat → Prop) (w : World) (s : List UInt8) : PV F w (.iface 318 (.string (bs s))) (Hs.vstr s) := ⟨1, Or.inr (Or.inr (Or.inl ⟨s, rfl, rfl⟩))⟩
def PVs (F : Nat → Prop) (w : World) (sv : Value) (l : List Hs.Val) : Prop := VLr (PV F w) F w sv l
theorem deep_all {F : Nat → Prop} {w : World} {cur : Array Value} : ∀ (l : List Hs.Val) (o : Nat), (∀ i (h : i < l.length), ∃ u, cur[o + i]? = some u ∧ PV F w u l[i]) → ∃ d, ∀ i (h : i < l.length), ∃ u, cur[o + i]? = some u ∧ VR d F w u l[i]
  | [], _, _ => ⟨0, fun i h => by simp at h⟩
  | a :: l, o, h => by
    obtain ⟨u, hu, d, hd⟩ := h 0 (by simp)
    obtain ⟨e, he⟩ := deep_all (F := F) (w := w) (cur := cur) l (o + 1) fun i hi => by
      have := h (i + 1) (by simpa using hi)
      rw [show o + 1 + i = o + (i + 1) by omega]
      simpa using this
    refine ⟨max d e, fun i hi => ?_⟩
    cases i with
    | zero => exact ⟨u, hu, hd.mono (fun _ h => h) (Nat.le_max_left _ _)⟩
    | succ i =>
      obtain ⟨u', h1, h2⟩ := he i (by simpa using hi)
      rw [show o + 1 + i = o + (i + 1) by omega] at h1
      exact ⟨u', h1, h2.mono (fun _ h => h) (Nat.le_max_right _ _)⟩
theorem PV.lst {F : Nat → Prop} {w : World} {sv : Value} {l : List Hs.Val} (h : PVs F w sv l) : PV F w (.iface 319 sv) (Hs.vlst l) := by
  rcases h with h | ⟨g, cap, cur, h1, h2, h3, h4, h5⟩
  · exact ⟨1, Or.inr (Or.inr (Or.inr ⟨sv, l, rfl, rfl, Or.inl h⟩))⟩
  · obtain ⟨d, hd⟩ := deep_all (cur := cur) l 0 (by simpa using h5)
    exact ⟨d + 1, Or.inr (Or.inr (Or.inr ⟨sv, l, rfl, rfl, Or.inr ⟨g, cap, cur, h1, h2, h3, h4, by simpa using hd⟩⟩))⟩
theorem PV.cases {F : Nat → Prop} {w : World} {v : Value} {a : Hs.Val} (h : PV F w v a) :
    (∃ n, v = .iface 315 (.int .i64 n) ∧ a = Hs.vnum n ∧ -9223372036854775808 ≤ n ∧ n ≤ 9223372036854775807) ∨
    (∃ b, v = .iface 316 (.bool b) ∧ a = Hs.vtru b) ∨
    (∃ s, v = .iface 318 (.string (bs s)) ∧ a = Hs.vstr s) ∨
    (∃ x c l, v = .iface 319 (.slice x l.length c) ∧ a = Hs.vlst l ∧ PVs F w (.slice x l.length c) l) := by
  obtain ⟨d, h⟩ := h
  cases d with
  | zero => exact h.elim
  | succ d =>
    rcases h with h | h | h | ⟨sv, l, h1, h2, h3⟩
    · exact Or.inl h
    · exact Or.inr (Or.inl h)
    · exact Or.inr (Or.inr (Or.inl h))
    · refine Or.inr (Or.inr (Or.inr ?_))
      have h4 : PVs F w sv l := h3.mono (fun _ _ h => ⟨d, h⟩) (fun _ h => h)
      rcases h3 with ⟨rfl, rfl⟩ | ⟨g, cap, cur, rfl, _⟩
      · exact ⟨none, 0, [], h1, h2, h4⟩
      · exact ⟨_, _, l, h1, h2, h4⟩
set_option maxRecDepth 100000 in
set_option maxHeartbeats 1000000 in
theorem ptruth_any (F : Nat → Prop) (v : Value) (a : Hs.Val) (w : World) (h : PV F w v a) :
    Calls Tryz.prog 385 #[v] w fun e w' => w' = w ∧ ((a.sort = 1 ∧ e = .returned (.bool (decide (a.n = 1)))) ∨ (a.sort ≠ 1 ∧ e = stopE 2)) := by
  rcases h.cases with ⟨n, rfl, rfl, _, _⟩ | ⟨b, rfl, rfl⟩ | ⟨s, rfl, rfl⟩ | ⟨x, c, l, rfl, rfl, _⟩
  · clear h
    have q := va_Int_Bool
    go_enter Tryz.func385, Tryz.ntmps385
    go_wp2_with fail
    exact ⟨rfl, rfl, Or.inr ⟨by simp [Hs.vnum], rfl⟩⟩
  · clear h
    have q := va_Bool_Bool
    go_enter Tryz.func385, Tryz.ntmps385
    go_wp2_with fail
    go_ret
    exact ⟨rfl, Or.inl ⟨rfl, by cases b <;> rfl⟩⟩
  · clear h
    have q := va_Str_Bool
    go_enter Tryz.func385, Tryz.ntmps385
    go_wp2_with fail
    exact ⟨rfl, rfl, Or.inr ⟨by simp [Hs.vstr], rfl⟩⟩
  · clear h
    have q := va_List_Bool
    go_enter Tryz.func385, Tryz.ntmps385
    go_wp2_with fail
    exact ⟨rfl, rfl, Or.inr ⟨by simp [Hs.vlst], rfl⟩⟩
end Go.Proofs.YtblbkfdhjfppkaaGreatDoor

/- Contracts of the program: operations ahead of a value, and of two Ints. -/
namespace Go.Proofs.YtblbkfdhjfppkaaGreatDoor
open Go.RowKit
def ValQ (F : Nat → Prop) (w : World) (r : Hs.Val × Nat) (e : Ending) (w' : World) : Prop := w' = w ∧ ((r.2 = 0 ∧ ∃ u, e = .returned u ∧ PV F w u r.1) ∨ (r.2 ≠ 0 ∧ e = stopE r.2))
theorem ValQ.ok {F : Nat → Prop} {w : World} {r : Hs.Val × Nat} {u : Value} {a : Hs.Val} (hr : r = (a, 0)) (h : PV F w u a) : ValQ F w r (.returned u) w := by subst hr; exact ⟨rfl, Or.inl ⟨rfl, u, rfl, h⟩⟩
theorem ValQ.stop {F : Nat → Prop} {w : World} {r : Hs.Val × Nat} {a : Hs.Val} {k : Nat} (hr : r = (a, k)) (hk : k ≠ 0) : ValQ F w r (stopE k) w := by subst hr; exact ⟨rfl, Or.inr ⟨hk, rfl⟩⟩
theorem w64_fit (n : Int) : -9223372036854775808 ≤ Hs.w64 n ∧ Hs.w64 n ≤ 9223372036854775807 := by unfold Hs.w64; omega
theorem PV.wrap (F : Nat → Prop) (w : World) (n : Int) : PV F w (.iface 315 (.int .i64 (wrap64 n))) (Hs.vnum (Hs.w64 n)) := by
  rw [← w64_eq]; exact PV.num F w _ (w64_fit n).1 (w64_fit n).2
set_option maxRecDepth 100000 in
set_option maxHeartbeats 2000000 in
theorem pints_any (op : List UInt8) (F : Nat → Prop) (x y : Int) (w : World) (hx1 : -9223372036854775808 ≤ x) (hx2 : x ≤ 9223372036854775807) (hy1 : -9223372036854775808 ≤ y) (hy2 : y ≤ 9223372036854775807) :
    Calls Tryz.prog 390 #[.string (bs op), .int .i64 x, .int .i64 y] w (ValQ F w (Hs.intsL op x y)) := by
  have hbt := bs_toList op
  obtain ⟨r, hr⟩ : ∃ r, r = Hs.intsL op x y := ⟨_, rfl⟩
  rw [← hr]
  unfold Hs.intsL at hr
  by_cases o0 : op = [43]
  · rw [if_pos o0] at hr
    have e_lt : ((bs op).toList == [60]) = false := by rw [hbt, o0]; rfl
    have e_le : ((bs op).toList == [60, 61]) = false := by rw [hbt, o0]; rfl
    have e_add : ((bs op).toList == [43]) = true := by rw [hbt, o0]; rfl
    have e_sub : ((bs op).toList == [45]) = false := by rw [hbt, o0]; rfl
    have e_mul : ((bs op).toList == [42]) = false := by rw [hbt, o0]; rfl
    have HP := mkHid hr
    clear hbt hr o0
    go_enter Tryz.func390, Tryz.ntmps390
    go_wp2_with fail
    go_ret
    exact ValQ.ok HP.out (PV.wrap F w (x + y))
  rw [if_neg o0] at hr
  have e_add : ((bs op).toList == [43]) = false := by rw [hbt]; simpa using o0
  clear o0
  by_cases o1 : op = [45]
  · rw [if_pos o1] at hr
    have e_lt : ((bs op).toList == [60]) = false := by rw [hbt, o1]; rfl
    have e_le : ((bs op).toList == [60, 61]) = false := by rw [hbt, o1]; rfl
    have e_add : ((bs op).toList == [43]) = false := by rw [hbt, o1]; rfl
    have e_sub : ((bs op).toList == [45]) = true := by rw [hbt, o1]; rfl
    have e_mul : ((bs op).toList == [42]) = false := by rw [hbt, o1]; rfl
    have HP := mkHid hr
    clear hbt hr o1
    go_enter Tryz.func390, Tryz.ntmps390
    go_wp2_with fail
    go_ret
    exact ValQ.ok HP.out (PV.wrap F w (x - y))
  rw [if_neg o1] at hr
  have e_sub : ((bs op).toList == [45]) = false := by rw [hbt]; simpa using o1
  clear o1
  by_cases o2 : op = [42]
  · rw [if_pos o2] at hr
    have e_lt : ((bs op).toList == [60]) = false := by rw [hbt, o2]; rfl
    have e_le : ((bs op).toList == [60, 61]) = false := by rw [hbt, o2]; rfl
    have e_add : ((bs op).toList == [43]) = false := by rw [hbt, o2]; rfl
    have e_sub : ((bs op).toList == [45]) = false := by rw [hbt, o2]; rfl
    have e_mul : ((bs op).toList == [42]) = true := by rw [hbt, o2]; rfl
    have HP := mkHid hr
    clear hbt hr o2
    go_enter Tryz.func390, Tryz.ntmps390
    go_wp2_with fail
    go_ret
    exact ValQ.ok HP.out (PV.wrap F w (x * y))
  rw [if_neg o2] at hr
  have e_mul : ((bs op).toList == [42]) = false := by rw [hbt]; simpa using o2
  clear o2
  by_cases o3 : op = [60]
  · rw [if_pos o3] at hr
    have e_lt : ((bs op).toList == [60]) = true := by rw [hbt, o3]; rfl
    have e_le : ((bs op).toList == [60, 61]) = false := by rw [hbt, o3]; rfl
    have e_add : ((bs op).toList == [43]) = false := by rw [hbt, o3]; rfl
    have e_sub : ((bs op).toList == [45]) = false := by rw [hbt, o3]; rfl
    have e_mul : ((bs op).toList == [42]) = false := by rw [hbt, o3]; rfl
    have HP := mkHid hr
    clear hbt hr o3
    go_enter Tryz.func390, Tryz.ntmps390
    go_wp2_with fail
    go_ret
    exact ValQ.ok HP.out (PV.tru F w (decide (x < y)))
  rw [if_neg o3] at hr
  have e_lt : ((bs op).toList == [60]) = false := by rw [hbt]; simpa using o3
  clear o3
  by_cases o4 : op = [60, 61]
  · rw [if_pos o4] at hr
    have e_lt : ((bs op).toList == [60]) = false := by rw [hbt, o4]; rfl
    have e_le : ((bs op).toList == [60, 61]) = true := by rw [hbt, o4]; rfl
    have e_add : ((bs op).toList == [43]) = false := by rw [hbt, o4]; rfl
    have e_sub : ((bs op).toList == [45]) = false := by rw [hbt, o4]; rfl
    have e_mul : ((bs op).toList == [42]) = false := by rw [hbt, o4]; rfl
    have HP := mkHid hr
    clear hbt hr o4
    go_enter Tryz.func390, Tryz.ntmps390
    go_wp2_with fail
    go_ret
    exact ValQ.ok HP.out (PV.tru F w (decide (x ≤ y)))
  rw [if_neg o4] at hr
  have e_le : ((bs op).toList == [60, 61]) = false := by rw [hbt]; simpa using o4
  clear o4
  by_cases hz : y = 0
  · rw [if_pos hz] at hr
    subst hz
    have HP := mkHid hr
    clear hbt hr
    go_enter Tryz.func390, Tryz.ntmps390
    go_wp2_with fail
    exact ⟨rfl, ValQ.stop HP.out (by decide)⟩
  rw [if_neg hz] at hr
  have ez : (y == 0) = false := by simpa using hz
  by_cases o5 : op = [47]
  · rw [if_pos o5] at hr
    have e5 : ((bs op).toList == [47]) = true := by rw [hbt, o5]; rfl
    have HP := mkHid hr
    clear hbt hr o5
    go_enter Tryz.func390, Tryz.ntmps390
    go_wp2_with fail
    go_ret
    exact ValQ.ok HP.out (PV.wrap F w (x.tdiv y))
  · rw [if_neg o5] at hr
    have e5 : ((bs op).toList == [47]) = false := by rw [hbt]; simpa using o5
    have hm := tmod_fit x y hx1 hx2
    rw [w64_small _ hm.1 hm.2] at hr
    have HP := mkHid hr
    have HM := mkHid hm
    clear hbt hr o5 hm
    go_enter Tryz.func390, Tryz.ntmps390
    go_wp2_with fail
    go_ret
    exact ValQ.ok HP.out (PV.num F w (x.tmod y) HM.out.1 HM.out.2)
set_option maxRecDepth 100000 in
set_option maxHeartbeats 1000000 in
theorem punary_any (o : UInt8) (ho : o = 45 ∨ o = 33) (F : Nat → Prop) (v : Value) (a : Hs.Val) (w : World) (h : PV F w v a) :
    Calls Tryz.prog 384 #[.string (bs [o]), v] w (ValQ F w (Hs.oneL [o, 120] a)) := by
  rcases ho with rfl | rfl
  · have e1 : ((bs [45]).toList == [33]) = false := by rw [bs_toList]; rfl
    rcases h.cases with ⟨n, rfl, rfl, h1, h2⟩ | ⟨b, rfl, rfl⟩ | ⟨s, rfl, rfl⟩ | ⟨x, c, l, rfl, rfl, _⟩
    · have HP := mkHid (Hs.oneL_neg (op := [45, 120]) (a := Hs.vnum n) rfl rfl)
      have q := va_Int_Int
      clear h
      generalize Hs.oneL [45, 120] (Hs.vnum n) = r at *
      go_enter Tryz.func384, Tryz.ntmps384
      go_wp2_with fail
      go_ret
      exact ValQ.ok HP.out (by have hh := PV.wrap F w (-n); rw [w64_eq] at hh; exact hh)
    · have q := va_Bool_Int
      clear h
      go_enter Tryz.func384, Tryz.ntmps384
      go_wp2_with fail
      exact ⟨rfl, ValQ.stop (a := Hs.vnil) (by unfold Hs.oneL; simp [Hs.vtru]) (by decide)⟩
    · have q := va_Str_Int
      clear h
      go_enter Tryz.func384, Tryz.ntmps384
      go_wp2_with fail
      exact ⟨rfl, ValQ.stop (a := Hs.vnil) (by unfold Hs.oneL; simp [Hs.vstr]) (by decide)⟩
    · have q := va_List_Int
      clear h
      go_enter Tryz.func384, Tryz.ntmps384
      go_wp2_with fail
      exact ⟨rfl, ValQ.stop (a := Hs.vnil) (by unfold Hs.oneL; simp [Hs.vlst]) (by decide)⟩
  · have e1 : ((bs [33]).toList == [33]) = true := by rw [bs_toList]; rfl
    have HT := mkHid (ptruth_any F v a w h)
    obtain ⟨r, hr⟩ : ∃ r, r = Hs.oneL [33, 120] a := ⟨_, rfl⟩
    rw [← hr]
    have HR := mkHid hr
    have hform : ∃ t u, v = .iface t u := by
      rcases h.cases with ⟨n, rfl, _⟩ | ⟨b, rfl, _⟩ | ⟨s, rfl, _⟩ | ⟨x, c, l, rfl, _⟩ <;> exact ⟨_, _, rfl⟩
    obtain ⟨t, u, rfl⟩ := hform
    have HC := mkHid h.cases
    clear h hr
    go_enter Tryz.func384, Tryz.ntmps384
    go_wp2_with fail
    refine HT.out.mono ?_
    rintro e w1 ⟨rfl, ⟨hs, rfl⟩ | ⟨hs, rfl⟩⟩
    · have HS := mkHid hs
      clear hs
      go_wp2_with fail
      go_ret
      refine ValQ.ok (a := Hs.vtru (!decide (a.n = 1))) ?_ (PV.tru F w1 (!decide (a.n = 1)))
      rw [HR.out]
      unfold Hs.oneL
      rw [if_neg (by simp), if_pos ⟨rfl, HS.out⟩]
      rcases HC.out with ⟨n, _, rfl, _⟩ | ⟨b, _, rfl⟩ | ⟨s, _, rfl⟩ | ⟨x, c, l, _, rfl, _⟩
      · have := HS.out; simp [Hs.vnum] at this
      · cases b <;> rfl
      · have := HS.out; simp [Hs.vstr] at this
      · have := HS.out; simp [Hs.vlst] at this
    · have HS := mkHid hs
      clear hs
      go_wp2_with fail
      exact ⟨rfl, ValQ.stop (a := Hs.vnil) (by rw [HR.out]; unfold Hs.oneL; rw [if_neg (by simp), if_neg (fun hh => HS.out hh.2)]) (by decide)⟩
end Go.Proofs.YtblbkfdhjfppkaaGreatDoor

/- Contracts of the program: cells of values, places in lists, what is too large. -/
namespace Go.Proofs.YtblbkfdhjfppkaaGreatDoor
open Go.RowKit
theorem PVs.get {F : Nat → Prop} {w : World} {x : Option Addr} {n c : Nat} {l : List Hs.Val} (h : PVs F w (.slice x n c) l) (i : Nat) (hi : i < l.length) : ∃ g u, x = some ⟨g, 0, none⟩ ∧ n = l.length ∧ F g ∧ g < w.heap.size ∧ l.length ≤ c ∧ w.cell? ⟨g, i, none⟩ = some u ∧ PV F w u l[i] := by
  rcases h with ⟨rfl, _⟩ | ⟨g, cap, cur, h1, h2, h3, h4, h5⟩
  · simp at hi
  · cases h1
    obtain ⟨u, k1, k2⟩ := h5 i hi
    exact ⟨g, u, rfl, rfl, h2, lt_of_block h3, h4, cell_of_block h3 k1, k2⟩
theorem PV.form {F : Nat → Prop} {w : World} {v : Value} {a : Hs.Val} (h : PV F w v a) : ∃ t u, v = .iface t u := by
  rcases h.cases with ⟨n, rfl, _⟩ | ⟨b, rfl, _⟩ | ⟨s, rfl, _⟩ | ⟨x, c, l, rfl, _⟩ <;> exact ⟨_, _, rfl⟩
theorem PVs.keep {F : Nat → Prop} {w w' : World} {sv : Value} {l : List Hs.Val} (h : PVs F w sv l) (hk : ∀ b, F b → w'.heap[b]? = w.heap[b]?) : PVs F w' sv l := (VLr.mono h (fun _ _ h => h.keep hk) (fun _ h => h)).keep hk
theorem PVs.mono {F G : Nat → Prop} {w : World} {sv : Value} {l : List Hs.Val} (h : PVs F w sv l) (hF : ∀ b, F b → G b) : PVs G w sv l := VLr.mono h (fun _ _ h => h.mono hF) hF
theorem cells_num (n : Int) : Hs.cells (Hs.vnum n) = 1 := by rw [Hs.cells_eq]; simp [Hs.vnum]
theorem cells_tru (b : Bool) : Hs.cells (Hs.vtru b) = 1 := by rw [Hs.cells_eq]; simp [Hs.vtru]
theorem cells_str (s : List UInt8) : Hs.cells (Hs.vstr s) = 1 + s.length := by rw [Hs.cells_eq]; simp [Hs.vstr]
theorem cells_lst (l : List Hs.Val) : Hs.cells (Hs.vlst l) = 1 + (l.map Hs.cells).sum := by rw [Hs.cells_eq]; simp [Hs.vlst]
theorem cells_mem {l : List Hs.Val} {a : Hs.Val} (h : a ∈ l) : Hs.cells a ≤ (l.map Hs.cells).sum := by
  induction l with
  | nil => cases h
  | cons x l ih =>
    simp only [List.map_cons, List.sum_cons]
    rcases List.mem_cons.1 h with rfl | h
    · omega
    · have := ih h; omega
theorem cells_pos (a : Hs.Val) : 1 ≤ Hs.cells a := by rw [Hs.cells_eq]; omega
theorem len_cells (l : List Hs.Val) : l.length ≤ (l.map Hs.cells).sum := by
  induction l with
  | nil => simp
  | cons x l ih => simp only [List.map_cons, List.sum_cons, List.length_cons]; have := cells_pos x; omega
def CellsAt (F : Nat → Prop) (k : Nat) : Prop := ∀ (v : Value) (a : Hs.Val) (w : World), PV F w v a → Hs.cells a ≤ k → k ≤ 1000000000 → Calls Tryz.prog 379 #[v] w fun e w' => w' = w ∧ e = .returned (.int .i64 (Hs.cells a : Nat))
set_option maxRecDepth 100000 in
set_option maxHeartbeats 2000000 in
theorem pcells_step (F : Nat → Prop) (k : Nat) (IH : CellsAt F k) : CellsAt F (k + 1) := by
  intro v a w h hc hk
  rcases h.cases with ⟨n, rfl, rfl, h1, h2⟩ | ⟨b, rfl, rfl⟩ | ⟨s, rfl, rfl⟩ | ⟨x, c, l, rfl, rfl, hl⟩
  · have q := va_Int_Str
    have q' := va_Int_List
    rw [cells_num]
    clear h IH hc
    go_enter Tryz.func379, Tryz.ntmps379
    go_wp2_with fail
    go_ret
    exact ⟨rfl, rfl⟩
  · have q := va_Bool_Str
    have q' := va_Bool_List
    rw [cells_tru]
    clear h IH hc
    go_enter Tryz.func379, Tryz.ntmps379
    go_wp2_with fail
    go_ret
    exact ⟨rfl, rfl⟩
  · have q := va_Str_Str
    have hs : (bs s).size = s.length := bs_size s
    rw [cells_str] at hc ⊢
    clear h IH
    go_enter Tryz.func379, Tryz.ntmps379
    go_wp2_with fail
    go_ret
    exact ⟨rfl, by go_num⟩
  · have q := va_List_Str
    have q' := va_List_List
    have hlen := len_cells l
    rw [cells_lst] at hc ⊢
    have HIH := mkHid IH
    have HL := mkHid hl
    clear h IH hl
    go_enter Tryz.func379, Tryz.ntmps379
    go_wp2_with fail
    go_loopg [5, 7, 20] l.length (fun gk s _ i wr => ∃ j : Nat, j + gk = l.length ∧ i = .int .i64 j ∧ s = .int .i64 ((1 + ((l.map Hs.cells).take j).sum : Nat) : Int) ∧ wr = w)
    case atStart => exact ⟨0, by omega, rfl, rfl, rfl⟩
    case round =>
      obtain ⟨j, hj, rfl, rfl, rfl⟩ := hrel
      by_cases hlt : j < l.length
      · obtain ⟨m, rfl⟩ : ∃ m, gk = m + 1 := ⟨gk - 1, by omega⟩
        obtain ⟨g, u, rfl, hn, hF, hg, hcap, hcell, hu⟩ := HL.out.get j hlt
        have hmem : l[j] ∈ l := List.getElem_mem hlt
        have hcm := cells_mem hmem
        have HX := mkHid (HIH.out u l[j] wr hu (by omega) (by omega))
        obtain ⟨t, u', rfl⟩ := hu.form
        have htk : ((l.map Hs.cells).take (j + 1)).sum = ((l.map Hs.cells).take j).sum + Hs.cells l[j] := by
          rw [List.take_succ_eq_append_getElem (by simpa using hlt), List.sum_append]; simp only [List.getElem_map, List.sum_cons, List.sum_nil, Nat.add_zero]
        have htl : ((l.map Hs.cells).take (j + 1)).sum ≤ (l.map Hs.cells).sum := by
          have e : (l.map Hs.cells).sum = ((l.map Hs.cells).take (j + 1) ++ (l.map Hs.cells).drop (j + 1)).sum := by rw [List.take_append_drop]
          rw [e, List.sum_append]; omega
        generalize Hs.cells l[j] = cj at *
        clear hu
        go_wp2_with fail
        refine HX.out.mono ?_
        rintro e w1 ⟨rfl, rfl⟩
        go_wp2_with fail
        go_roundg m
        case measure => omega
        case rel => exact ⟨j + 1, by omega, by go_num, by rw [htk]; go_num, rfl⟩
      · have hjl : j = l.length := by omega
        subst hjl
        go_wp2_with fail
        go_ret
        exact ⟨rfl, by rw [List.take_of_length_le (by simp)]; rfl⟩
theorem pcells_any (F : Nat → Prop) : ∀ k, CellsAt F k
  | 0 => fun v a w _ h => by have := cells_pos a; omega
  | k + 1 => pcells_step F k (pcells_any F k)
end Go.Proofs.YtblbkfdhjfppkaaGreatDoor

/- Contracts of the program: what is too large, places in lists, new lists, operations of two Strs. -/
namespace Go.Proofs.YtblbkfdhjfppkaaGreatDoor
open Go.RowKit
set_option maxRecDepth 100000 in
set_option maxHeartbeats 1000000 in
theorem plimited_any (F : Nat → Prop) (v : Value) (a : Hs.Val) (w : World) (h : PV F w v a) (hc : Hs.cells a ≤ 1000000000) :
    Calls Tryz.prog 378 #[v] w fun e w' => w' = w ∧ ((Hs.cells a ≤ 200 ∧ e = .returned v) ∨ (200 < Hs.cells a ∧ e = stopE 6)) := by
  have HX := mkHid (pcells_any F 1000000000 v a w h hc (Nat.le_refl _))
  obtain ⟨t, u, rfl⟩ := h.form
  clear h
  generalize Hs.cells a = n at *
  by_cases h2 : n ≤ 200
  · have e : decide ((200 : Int) < (n : Int)) = false := decide_eq_false (by omega)
    go_enter Tryz.func378, Tryz.ntmps378
    go_wp2_with fail
    refine HX.out.mono ?_
    rintro e w1 ⟨rfl, rfl⟩
    go_wp2_with fail
    go_ret
    exact ⟨rfl, Or.inl ⟨h2, rfl⟩⟩
  · have e : decide ((200 : Int) < (n : Int)) = true := decide_eq_true (by omega)
    go_enter Tryz.func378, Tryz.ntmps378
    go_wp2_with fail
    refine HX.out.mono ?_
    rintro e w1 ⟨rfl, rfl⟩
    go_wp2_with fail
    exact ⟨rfl, rfl, Or.inr ⟨by omega, rfl⟩⟩
def strsL (op : List UInt8) (a b : List UInt8) : Hs.Val × Nat :=
  if op = [60] then (Hs.vtru (Hs.lessL a b), 0)
  else if op = [60, 61] then (Hs.vtru (!Hs.lessL b a), 0)
  else if op = [43] then (if 200 < Hs.cells (Hs.vstr (a ++ b)) then (Hs.vnil, 6) else (Hs.vstr (a ++ b), 0))
  else (Hs.vnil, 2)
set_option maxRecDepth 100000 in
set_option maxHeartbeats 2000000 in
theorem pstrs_any (op : List UInt8) (F : Nat → Prop) (a b : List UInt8) (w : World) (hab : a.length + b.length ≤ 1000000) :
    Calls Tryz.prog 391 #[.string (bs op), .string (bs a), .string (bs b)] w (ValQ F w (strsL op a b)) := by
  have hbt := bs_toList op
  obtain ⟨r, hr⟩ : ∃ r, r = strsL op a b := ⟨_, rfl⟩
  rw [← hr]
  unfold strsL at hr
  by_cases o0 : op = [60]
  · rw [if_pos o0] at hr
    have e0 : ((bs op).toList == [60]) = true := by rw [hbt, o0]; rfl
    have HLE : Hid (Op.bytesLess (bs a).toList (bs b).toList = Hs.lessL a b) := by show _ = _; rw [bs_toList, bs_toList, bytes_less]
    have HP := mkHid hr
    clear hbt hr o0
    generalize Hs.lessL a b = sl at *
    go_enter Tryz.func391, Tryz.ntmps391
    go_wp2_with fail
    go_ret
    exact ValQ.ok HP.out (by rw [← HLE.out]; exact PV.tru F w _)
  rw [if_neg o0] at hr
  have e0 : ((bs op).toList == [60]) = false := by rw [hbt]; simpa using o0
  by_cases o1 : op = [60, 61]
  · rw [if_pos o1] at hr
    have e1 : ((bs op).toList == [60, 61]) = true := by rw [hbt, o1]; rfl
    have HLE : Hid ((Op.bytesLess (bs a).toList (bs b).toList || (bs a).toList == (bs b).toList) = !Hs.lessL b a) := by show _ = _; rw [bs_toList, bs_toList, bytes_less, bytes_leq]
    have HP := mkHid hr
    clear hbt hr o0 o1
    generalize Hs.lessL b a = sl at *
    go_enter Tryz.func391, Tryz.ntmps391
    go_wp2_with fail
    go_ret
    exact ValQ.ok HP.out (by rw [← HLE.out]; exact PV.tru F w _)
  rw [if_neg o1] at hr
  have e1 : ((bs op).toList == [60, 61]) = false := by rw [hbt]; simpa using o1
  by_cases o2 : op = [43]
  · rw [if_pos o2] at hr
    have e2 : ((bs op).toList == [43]) = true := by rw [hbt, o2]; rfl
    have hcl := cells_str (a ++ b)
    have HX := mkHid (plimited_any F (.iface 318 (.string (bs (a ++ b)))) _ w (PV.str F w (a ++ b)) (by rw [hcl, List.length_append]; omega))
    have HP := mkHid hr
    have hbz := bs_size
    clear hbt hr o0 o1 o2 hcl
    go_enter Tryz.func391, Tryz.ntmps391
    go_wp2_with fail
    refine HX.out.mono ?_
    rintro e w1 ⟨rfl, ⟨h2, rfl⟩ | ⟨h2, rfl⟩⟩
    · have HQ : Hid (r = (Hs.vstr (a ++ b), 0)) := by show _ = _; rw [HP.out, if_neg (by omega)]
      clear h2 HP
      go_wp2_with fail
      go_ret
      exact ValQ.ok HQ.out (PV.str F w1 (a ++ b))
    · have HQ : Hid (r = (Hs.vnil, 6)) := by show _ = _; rw [HP.out, if_pos h2]
      clear h2 HP
      go_wp2_with fail
      exact ⟨rfl, ValQ.stop HQ.out (by decide)⟩
  · rw [if_neg o2] at hr
    have e2 : ((bs op).toList == [43]) = false := by rw [hbt]; simpa using o2
    have HP := mkHid hr
    clear hbt hr o0 o1 o2
    go_enter Tryz.func391, Tryz.ntmps391
    go_wp2_with fail
    exact ⟨rfl, ValQ.stop HP.out (by decide)⟩
end Go.Proofs.YtblbkfdhjfppkaaGreatDoor

/- Contracts of the program: are two values behind an interface the same? -/
namespace Go.Proofs.YtblbkfdhjfppkaaGreatDoor
open Go.RowKit
theorem eq_Int_Int (n m : Int) (w : World) : (binOp .eql 256 (.iface 315 (.int .i64 n)) (.iface 315 (.int .i64 m))).run Tryz.prog w = .ok (.bool (n == m)) w := by kernel_rfl
theorem eq_Bool_Bool (n m : Bool) (w : World) : (binOp .eql 256 (.iface 316 (.bool n)) (.iface 316 (.bool m))).run Tryz.prog w = .ok (.bool (n == m)) w := by kernel_rfl
theorem eq_Str_Str' (n m : ByteArray) (w : World) : (binOp .eql 256 (.iface 318 (.string n)) (.iface 318 (.string m))).run Tryz.prog w = .ok (.bool (n == m)) w := by kernel_rfl
theorem eq_Str_Str (a b : List UInt8) (w : World) : (binOp .eql 256 (.iface 318 (.string (bs a))) (.iface 318 (.string (bs b)))).run Tryz.prog w = .ok (.bool (a == b)) w := by
  rw [eq_Str_Str']
  have h : (bs a == bs b) = ((bs a).data == (bs b).data) := rfl
  rw [h]
  simp [bs]
theorem eq_Int_Bool (u v : Value) (w : World) : (binOp .eql 256 (.iface 315 u) (.iface 316 v)).run Tryz.prog w = .ok (.bool false) w := by kernel_rfl
theorem eq_Int_Str (u v : Value) (w : World) : (binOp .eql 256 (.iface 315 u) (.iface 318 v)).run Tryz.prog w = .ok (.bool false) w := by kernel_rfl
theorem eq_Int_List (u v : Value) (w : World) : (binOp .eql 256 (.iface 315 u) (.iface 319 v)).run Tryz.prog w = .ok (.bool false) w := by kernel_rfl
theorem eq_Bool_Int (u v : Value) (w : World) : (binOp .eql 256 (.iface 316 u) (.iface 315 v)).run Tryz.prog w = .ok (.bool false) w := by kernel_rfl
theorem eq_Bool_Str (u v : Value) (w : World) : (binOp .eql 256 (.iface 316 u) (.iface 318 v)).run Tryz.prog w = .ok (.bool false) w := by kernel_rfl
theorem eq_Bool_List (u v : Value) (w : World) : (binOp .eql 256 (.iface 316 u) (.iface 319 v)).run Tryz.prog w = .ok (.bool false) w := by kernel_rfl
theorem eq_Str_Int (u v : Value) (w : World) : (binOp .eql 256 (.iface 318 u) (.iface 315 v)).run Tryz.prog w = .ok (.bool false) w := by kernel_rfl
theorem eq_Str_Bool (u v : Value) (w : World) : (binOp .eql 256 (.iface 318 u) (.iface 316 v)).run Tryz.prog w = .ok (.bool false) w := by kernel_rfl
theorem eq_Str_List (u v : Value) (w : World) : (binOp .eql 256 (.iface 318 u) (.iface 319 v)).run Tryz.prog w = .ok (.bool false) w := by kernel_rfl
end Go.Proofs.YtblbkfdhjfppkaaGreatDoor
