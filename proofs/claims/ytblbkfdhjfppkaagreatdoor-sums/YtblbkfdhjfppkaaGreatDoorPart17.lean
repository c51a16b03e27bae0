/- Contracts of the program: the compiler's expressions: the walks (2). -/
import Derived.Test.YtblbkfdhjfppkaaGreatDoorPart16
import Derived.Test.YtblbkfdhjfppkaaGreatDoorPart15
namespace Go.Proofs.YtblbkfdhjfppkaaGreatDoor
open Go.RowKit
set_option maxRecDepth 100000 in
set_option maxHeartbeats 1000000 in
theorem exprs_walk (w : World) (cb g n cap : Nat) (C : Nat → World → Prop) (hn : n ≤ 1000000) (h0 : C 0 w)
    (HC : Hid (∀ j W, C j W → j < n → g < W.heap.size ∧ ∃ t z, W.cell? ⟨g, j, none⟩ = some (.iface t z) ∧ Calls Tryz.prog 233 #[.pointer (some ⟨cb, 0, none⟩), .iface t z] W fun e w' => e = .returned (.tuple #[]) ∧ C (j + 1) w')) :
    Calls Tryz.prog 287 #[.pointer (some ⟨cb, 0, none⟩), .slice (some ⟨g, 0, none⟩) n cap] w fun e w' => e = .returned (.tuple #[]) ∧ C n w' := by
  have H0 := mkHid h0
  clear h0
  go_enter Tryz.func287, Tryz.ntmps287
  go_wp2_with fail
  go_loopg [5, 8] n (fun gk _ i wr => ∃ j : Nat, j + gk = n ∧ i = .int .i64 j ∧ C j wr)
  case atStart => exact ⟨0, by omega, rfl, H0.out⟩
  case round =>
    obtain ⟨j, hj, rfl, hC⟩ := hrel
    by_cases hlt : j < n
    · obtain ⟨m, rfl⟩ : ∃ m, gk = m + 1 := ⟨gk - 1, by omega⟩
      obtain ⟨hg, t, z, c1, hcl⟩ := HC.out _ _ hC hlt
      have HX := mkHid hcl
      have e1 : (0 : Int) ≤ (j : Int) := by omega
      have e2 : (j : Int) < (n : Int) := by omega
      clear hC hcl
      go_wp2_with fail
      refine HX.out.mono ?_
      rintro e w1 ⟨rfl, h1⟩
      go_wp2_with fail
      go_roundg m
      case measure => omega
      case rel => exact ⟨j + 1, by omega, by go_num, h1⟩
    · have hjn : j = n := by omega
      subst hjn
      have HC' := mkHid hC
      clear hC
      go_wp2_with fail
      go_end0
      exact ⟨rfl, HC'.out⟩
set_option maxRecDepth 100000 in
theorem exprs_nil (w : World) (cb : Nat) : Calls Tryz.prog 287 #[.pointer (some ⟨cb, 0, none⟩), .slice none 0 0] w fun e w' => e = .returned (.tuple #[]) ∧ w' = w := by
  go_enter Tryz.func287, Tryz.ntmps287
  go_wp2_with fail
  go_loopg [5, 8] 0 (fun _ _ i wr => i = .int .i64 0 ∧ wr = w)
  case atStart => exact ⟨rfl, rfl⟩
  case round =>
    obtain ⟨rfl, rfl⟩ := hrel
    go_wp2_with fail
    go_end0
    exact ⟨rfl, rfl⟩
set_option maxRecDepth 100000 in
set_option maxHeartbeats 1000000 in
theorem call_len (w : World) (cb n c : Nat) (l : Int) (x : Option Addr) (P Q : World → Prop)
    (HX : Hid (Calls Tryz.prog 287 #[.pointer (some ⟨cb, 0, none⟩), .slice x n c] (w.alloc (.cells #[.int .i64 l, .string (bs [108, 101, 110]), .slice x n c] 341)) fun e w' => e = .returned (.tuple #[]) ∧ Q w'))
    (HB : Hid (∀ W, Q W → W.cell? ⟨w.heap.size, 1, none⟩ = some (.string (bs [108, 101, 110])) ∧ w.heap.size < W.heap.size))
    (HE : Hid (∀ W, Q W → Calls Tryz.prog 238 #[.pointer (some ⟨cb, 0, none⟩), .iface 439 (.agg #[])] W fun e w' => (∃ k : Nat, e = .returned (.int .i64 k)) ∧ P w')) :
    Calls Tryz.prog 289 #[.pointer (some ⟨cb, 0, none⟩), .agg #[.int .i64 l, .string (bs [108, 101, 110]), .slice x n c]] w fun e w' => e = .returned (.tuple #[]) ∧ P w' := by
  have e1 : ((bs [108, 101, 110]).toList == [108, 101, 110]) = true := by rw [bs_toList]; rfl
  generalize bs [108, 101, 110] = tx at *
  go_enter Tryz.func289, Tryz.ntmps289
  go_wp2_with fail
  refine HX.out.mono ?_
  rintro e w1 ⟨rfl, h1⟩
  obtain ⟨b1, b2⟩ := HB.out _ h1
  have HEE := mkHid (HE.out _ h1)
  clear h1
  go_wp2_with fail
  refine HEE.out.mono ?_
  rintro e w2 ⟨⟨m, rfl⟩, h2⟩
  go_wp2_with fail
  go_end0
  exact ⟨rfl, h2⟩
set_option maxRecDepth 100000 in
set_option maxHeartbeats 1000000 in
theorem call_read (w : World) (cb n c : Nat) (l : Int) (x : Option Addr) (P Q : World → Prop)
    (HX : Hid (Calls Tryz.prog 287 #[.pointer (some ⟨cb, 0, none⟩), .slice x n c] (w.alloc (.cells #[.int .i64 l, .string (bs [114, 101, 97, 100]), .slice x n c] 341)) fun e w' => e = .returned (.tuple #[]) ∧ Q w'))
    (HB : Hid (∀ W, Q W → W.cell? ⟨w.heap.size, 1, none⟩ = some (.string (bs [114, 101, 97, 100])) ∧ w.heap.size < W.heap.size))
    (HE : Hid (∀ W, Q W → Calls Tryz.prog 238 #[.pointer (some ⟨cb, 0, none⟩), .iface 440 (.agg #[])] W fun e w' => (∃ k : Nat, e = .returned (.int .i64 k)) ∧ P w')) :
    Calls Tryz.prog 289 #[.pointer (some ⟨cb, 0, none⟩), .agg #[.int .i64 l, .string (bs [114, 101, 97, 100]), .slice x n c]] w fun e w' => e = .returned (.tuple #[]) ∧ P w' := by
  have e1 : ((bs [114, 101, 97, 100]).toList == [108, 101, 110]) = false := by rw [bs_toList]; rfl
  have e2 : ((bs [114, 101, 97, 100]).toList == [114, 101, 97, 100]) = true := by rw [bs_toList]; rfl
  generalize bs [114, 101, 97, 100] = tx at *
  go_enter Tryz.func289, Tryz.ntmps289
  go_wp2_with fail
  refine HX.out.mono ?_
  rintro e w1 ⟨rfl, h1⟩
  obtain ⟨b1, b2⟩ := HB.out _ h1
  have HEE := mkHid (HE.out _ h1)
  clear h1
  go_wp2_with fail
  refine HEE.out.mono ?_
  rintro e w2 ⟨⟨m, rfl⟩, h2⟩
  go_wp2_with fail
  go_end0
  exact ⟨rfl, h2⟩
set_option maxRecDepth 100000 in
set_option maxHeartbeats 2000000 in
theorem call_other (w : World) (cb n c fb : Nat) (l : Int) (tx : List UInt8) (x : Option Addr) (P Q : World → Prop) (h1 : tx ≠ [108, 101, 110]) (h2 : tx ≠ [114, 101, 97, 100])
    (HX : Hid (Calls Tryz.prog 287 #[.pointer (some ⟨cb, 0, none⟩), .slice x n c] (w.alloc (.cells #[.int .i64 l, .string (bs tx), .slice x n c] 341)) fun e w' => e = .returned (.tuple #[]) ∧ Q w'))
    (HB : Hid (∀ W, Q W → W.cell? ⟨w.heap.size, 1, none⟩ = some (.string (bs tx)) ∧ W.cell? ⟨w.heap.size, 2, none⟩ = some (.slice x n c) ∧ w.heap.size < W.heap.size))
    (HF : Hid (∀ W W', Q W → SameH W W' → Calls Tryz.prog 174 #[.pointer (some ⟨cb, 0, none⟩), .string (bs tx)] W' fun e w' => e = .returned (.pointer (some ⟨fb, 0, none⟩)) ∧ w' = W'))
    (HE : Hid (∀ W W', Q W → SameH W W' → Calls Tryz.prog 238 #[.pointer (some ⟨cb, 0, none⟩), .iface 442 (.agg #[.pointer (some ⟨fb, 0, none⟩), .int .i64 n])] W' fun e w' => (∃ k : Nat, e = .returned (.int .i64 k)) ∧ P w')) :
    Calls Tryz.prog 289 #[.pointer (some ⟨cb, 0, none⟩), .agg #[.int .i64 l, .string (bs tx), .slice x n c]] w fun e w' => e = .returned (.tuple #[]) ∧ P w' := by
  have e1 : ((bs tx).toList == [108, 101, 110]) = false := by rw [bs_toList]; simpa using h1
  have e2 : ((bs tx).toList == [114, 101, 97, 100]) = false := by rw [bs_toList]; simpa using h2
  clear h1 h2
  go_enter Tryz.func289, Tryz.ntmps289
  go_wp2_with fail
  refine HX.out.mono ?_
  rintro e w1 ⟨rfl, h1⟩
  obtain ⟨b1, b2, b3⟩ := HB.out _ h1
  have HQ := mkHid h1
  clear h1
  go_wp2_with fail
  go_region_law (go_simp; first | (go_at_call 174; refine (HF.out _ _ HQ.out (SameH.drew _)).mono ?_; rintro e w2 ⟨rfl, rfl⟩) | (go_at_call 238; refine (HE.out _ _ HQ.out (SameH.drew _)).mono ?_; rintro e w3 ⟨⟨m, rfl⟩, h3⟩))
  all_goals
    go_wp2_with fail
    go_end0
    exact ⟨rfl, h3⟩
end Go.Proofs.YtblbkfdhjfppkaaGreatDoor

/- Contracts of the program: the compiler's expressions: operations: the walks. -/
namespace Go.Proofs.YtblbkfdhjfppkaaGreatDoor
open Go.RowKit
set_option maxRecDepth 100000 in
set_option maxHeartbeats 1000000 in
theorem binary_plain (w : World) (cb : Nat) (l : Int) (op : List UInt8) (t1 t2 : TypeId) (z1 z2 : Value) (P Q R : World → Prop) (h1 : op ≠ [38, 38]) (h2 : op ≠ [124, 124])
    (HX : Hid (Calls Tryz.prog 233 #[.pointer (some ⟨cb, 0, none⟩), .iface t1 z1] (w.alloc (.cells #[.int .i64 l, .string (bs op), .iface t1 z1, .iface t2 z2] 352)) fun e w' => e = .returned (.tuple #[]) ∧ Q w'))
    (HB : Hid (∀ W, Q W → W.cell? ⟨w.heap.size, 1, none⟩ = some (.string (bs op)) ∧ W.cell? ⟨w.heap.size, 3, none⟩ = some (.iface t2 z2) ∧ w.heap.size < W.heap.size))
    (HY : Hid (∀ W, Q W → Calls Tryz.prog 233 #[.pointer (some ⟨cb, 0, none⟩), .iface t2 z2] W fun e w' => e = .returned (.tuple #[]) ∧ R w'))
    (HB2 : Hid (∀ W, R W → W.cell? ⟨w.heap.size, 1, none⟩ = some (.string (bs op)) ∧ w.heap.size < W.heap.size))
    (HE : Hid (∀ W, R W → Calls Tryz.prog 238 #[.pointer (some ⟨cb, 0, none⟩), .iface 435 (.agg #[.string (bs op)])] W fun e w' => (∃ k : Nat, e = .returned (.int .i64 k)) ∧ P w')) :
    Calls Tryz.prog 288 #[.pointer (some ⟨cb, 0, none⟩), .agg #[.int .i64 l, .string (bs op), .iface t1 z1, .iface t2 z2]] w fun e w' => e = .returned (.tuple #[]) ∧ P w' := by
  have e1 : ((bs op).toList == [38, 38]) = false := by rw [bs_toList]; simpa using h1
  have e2 : ((bs op).toList == [124, 124]) = false := by rw [bs_toList]; simpa using h2
  clear h1 h2
  generalize bs op = ob at *
  go_enter Tryz.func288, Tryz.ntmps288
  go_wp2_with fail
  refine HX.out.mono ?_
  rintro e w1 ⟨rfl, h1⟩
  obtain ⟨b1, b2, b3⟩ := HB.out _ h1
  have HYY := mkHid (HY.out _ h1)
  clear h1
  go_wp2_with fail
  refine HYY.out.mono ?_
  rintro e w2 ⟨rfl, h2⟩
  obtain ⟨d1, d2⟩ := HB2.out _ h2
  have HEE := mkHid (HE.out _ h2)
  clear h2
  go_wp2_with fail
  refine HEE.out.mono ?_
  rintro e w3 ⟨⟨m, rfl⟩, h3⟩
  go_wp2_with fail
  exact ⟨rfl, _, results_none (by rfl) _ _ _, rfl, h3⟩
set_option maxRecDepth 100000 in
set_option maxHeartbeats 2000000 in
theorem binary_short (w : World) (cb k : Nat) (l : Int) (b : Bool) (op : List UInt8) (t1 t2 : TypeId) (z1 z2 : Value) (P Q Q2 R S : World → Prop) (hop : op = if b then [124, 124] else [38, 38])
    (HX : Hid (Calls Tryz.prog 233 #[.pointer (some ⟨cb, 0, none⟩), .iface t1 z1] (w.alloc (.cells #[.int .i64 l, .string (bs op), .iface t1 z1, .iface t2 z2] 352)) fun e w' => e = .returned (.tuple #[]) ∧ Q w'))
    (HB : Hid (∀ W, Q W → W.cell? ⟨w.heap.size, 1, none⟩ = some (.string (bs op)) ∧ w.heap.size < W.heap.size))
    (HN : Hid (∀ W, Q W → Calls Tryz.prog 238 #[.pointer (some ⟨cb, 0, none⟩), .nilIface] W fun e w' => e = .returned (.int .i64 k) ∧ Q2 w'))
    (HB1 : Hid (∀ W, Q2 W → W.cell? ⟨w.heap.size, 3, none⟩ = some (.iface t2 z2) ∧ w.heap.size < W.heap.size))
    (HY : Hid (∀ W, Q2 W → Calls Tryz.prog 233 #[.pointer (some ⟨cb, 0, none⟩), .iface t2 z2] W fun e w' => e = .returned (.tuple #[]) ∧ R w'))
    (HE : Hid (∀ W, R W → Calls Tryz.prog 238 #[.pointer (some ⟨cb, 0, none⟩), .iface 436 (.agg #[])] W fun e w' => (∃ k : Nat, e = .returned (.int .i64 k)) ∧ S w'))
    (HB2 : Hid (∀ W, S W → W.cell? ⟨w.heap.size, 1, none⟩ = some (.string (bs op)) ∧ w.heap.size < W.heap.size ∧ cb < W.heap.size ∧ ∃ g n c, W.cell? ⟨cb, 1, none⟩ = some (.slice (some ⟨g, 0, none⟩) n c) ∧ k < n ∧ n ≤ 1000000 ∧ (∃ u, W.cell? ⟨g, k, none⟩ = some u) ∧ W.frozen? ⟨g, k, none⟩ = false ∧ g < W.heap.size ∧ ∀ W', SameH (W.setCell ⟨g, k, none⟩ (.iface 438 (.agg #[.bool b, .int .i64 n]))) W' → P W')) :
    Calls Tryz.prog 288 #[.pointer (some ⟨cb, 0, none⟩), .agg #[.int .i64 l, .string (bs op), .iface t1 z1, .iface t2 z2]] w fun e w' => e = .returned (.tuple #[]) ∧ P w' := by
  have hm : ∃ ob : ByteArray, ob = bs op ∧ (ob.toList == [38, 38]) = !b ∧ (ob.toList == [124, 124]) = b := ⟨bs op, rfl, by rw [bs_toList, hop]; cases b <;> rfl, by rw [bs_toList, hop]; cases b <;> rfl⟩
  obtain ⟨ob, ho, e1, e2⟩ := hm
  rw [← ho] at HX HB HB2 ⊢
  clear ho hop
  cases b
  all_goals
    simp only [Bool.not_true, Bool.not_false] at e1
    go_enter Tryz.func288, Tryz.ntmps288
    go_wp2_with fail
    refine HX.out.mono ?_
    rintro e w1 ⟨rfl, h1⟩
    obtain ⟨b1, b2⟩ := HB.out _ h1
    have HNN := mkHid (HN.out _ h1)
    clear h1
    go_wp2_with fail
    refine HNN.out.mono ?_
    rintro e w2 ⟨rfl, h2⟩
    obtain ⟨d1, d2⟩ := HB1.out _ h2
    have HYY := mkHid (HY.out _ h2)
    clear h2
    go_wp2_with fail
    refine HYY.out.mono ?_
    rintro e w3 ⟨rfl, h3⟩
    have HEE := mkHid (HE.out _ h3)
    clear h3
    go_wp2_with fail
    refine HEE.out.mono ?_
    rintro e w4 ⟨⟨m, rfl⟩, h4⟩
    obtain ⟨f1, f2, f3, g, n, c, f4, f5, f6, ⟨u, f7⟩, f8, f9, f10⟩ := HB2.out _ h4
    have HP := mkHid f10
    have i1 : (0 : Int) ≤ (k : Int) := by omega
    have i2 : (k : Int) < (n : Int) := by omega
    clear h4 f10
    go_wp2_with fail
    go_region
    all_goals
      go_wp2_with fail
      go_end0
      exact ⟨rfl, HP.out _ (SameH.drew _)⟩
end Go.Proofs.YtblbkfdhjfppkaaGreatDoor

/- Contracts of the program: the compiler's expressions. -/
namespace Go.Proofs.YtblbkfdhjfppkaaGreatDoor
open Go.RowKit
def LitOk : Nat → Hs.Ast → Prop
  | 0, _ => True
  | d + 1, a => (a.op = [115] → a.text.length ≤ 100 ∧ Hs.TxtOk a.text) ∧ a.kids.length ≤ 1000000 ∧ ∀ k ∈ a.kids, LitOk d k
theorem seqC_append (c : Hs.Ast → Nat → List Hs.Ins) : ∀ (l m : List Hs.Ast) (p : Nat), Hs.seqC c (l ++ m) p = Hs.seqC c l p ++ Hs.seqC c m (p + (Hs.seqC c l p).length)
  | [], m, p => by simp [Hs.seqC]
  | a :: l, m, p => by
    rw [List.cons_append, Hs.seqC, Hs.seqC, seqC_append c l m, List.append_assoc, List.length_append, Nat.add_assoc]
theorem seqC_one (c : Hs.Ast → Nat → List Hs.Ins) (a : Hs.Ast) (p : Nat) : Hs.seqC c [a] p = c a p := by simp [Hs.seqC]
theorem seqC_two (c : Hs.Ast → Nat → List Hs.Ins) (a b : Hs.Ast) (p : Nat) : Hs.seqC c [a, b] p = c a p ++ c b (p + (c a p).length) := by simp [Hs.seqC]
section
variable (fs : List Hs.Ast) (seen : List (List UInt8)) (d : Nat) (a : Hs.Ast) (p : Nat)
theorem exprC_num (h : a.op = [48]) : Hs.exprC fs seen (d + 1) a p = [.push (Hs.vnum (((Hs.wholeL 0 a.text).getD 0 : Nat) : Int))] := by rw [Hs.exprC]; simp [h]
theorem exprC_str (h : a.op = [115]) : Hs.exprC fs seen (d + 1) a p = [.push (Hs.vstr a.text)] := by rw [Hs.exprC]; simp [h]
theorem exprC_bool (h : a.op = [98, 111, 111, 108]) : Hs.exprC fs seen (d + 1) a p = [.push (Hs.vtru (a.text == [116, 114, 117, 101]))] := by rw [Hs.exprC]; simp [h]
theorem exprC_var (h : a.op = [110, 97, 109, 101]) : Hs.exprC fs seen (d + 1) a p = [.load (Hs.slotL seen a.text)] := by rw [Hs.exprC]; simp [h]
theorem exprC_list (h : a.op = [108, 105, 115, 116]) : Hs.exprC fs seen (d + 1) a p = Hs.seqC (Hs.exprC fs seen d) a.kids p ++ [.list a.kids.length] := by rw [Hs.exprC]; simp [h]
theorem exprC_index (h : a.op = [105, 110, 100, 101, 120]) : Hs.exprC fs seen (d + 1) a p = Hs.seqC (Hs.exprC fs seen d) a.kids p ++ [.index] := by rw [Hs.exprC]; simp [h]
theorem exprC_unary (o : UInt8) (ho : o = 45 ∨ o = 33) (h : a.op = [o, 120]) : Hs.exprC fs seen (d + 1) a p = Hs.seqC (Hs.exprC fs seen d) a.kids p ++ [.unary [o]] := by
  rw [Hs.exprC]
  rcases ho with rfl | rfl <;> simp [h]
theorem exprC_call (h : a.op = [99, 97, 108, 108]) : Hs.exprC fs seen (d + 1) a p = Hs.seqC (Hs.exprC fs seen d) a.kids p ++ [if a.text == [108, 101, 110] then .length else if a.text == [114, 101, 97, 100] then .read else .call (Hs.fnIx fs a.text) a.kids.length] := by rw [Hs.exprC]; simp [h]
theorem exprC_short (b : Bool) (l r : Hs.Ast) (h : a.op = if b then [124, 124] else [38, 38]) (hk : a.kids = [l, r]) : Hs.exprC fs seen (d + 1) a p =
    Hs.exprC fs seen d l p ++ [.shortcut b (p + (Hs.exprC fs seen d l p).length + 1 + (Hs.exprC fs seen d r (p + (Hs.exprC fs seen d l p).length + 1)).length + 1)] ++ Hs.exprC fs seen d r (p + (Hs.exprC fs seen d l p).length + 1) ++ [.truth] := by
  rw [Hs.exprC]
  cases b <;> simp [h, hk]
theorem exprC_binary (h : Hs.levelOf a.op ≠ 9) (h1 : a.op ≠ [38, 38]) (h2 : a.op ≠ [124, 124]) : Hs.exprC fs seen (d + 1) a p = Hs.seqC (Hs.exprC fs seen d) a.kids p ++ [.binary a.op] := by
  rcases Hs.level_cases h with e | e | e | e | e | e | e | e | e | e | e
  all_goals first | exact absurd e h2 | exact absurd e h1 | (rw [Hs.exprC]; simp [e])
end
theorem wholeL_le : ∀ (l : List UInt8) (n k : Nat), n ≤ 9223372036854775807 → Hs.wholeL n l = some k → k ≤ 9223372036854775807
  | [], n, k, hn, h => by rw [Hs.wholeL] at h; cases h; exact hn
  | c :: r, n, k, hn, h => by
    rw [Hs.wholeL] at h
    split at h
    · cases h
    · rename_i hlt
      refine wholeL_le r _ k ?_ h
      have hc := UInt8.toNat_lt c
      have hm : Hs.maxI = 9223372036854775807 := rfl
      rw [hm] at hlt
      omega
section
variable {fp : Nat → Value} {fb : Nat → Nat} {nms : List (List UInt8)} {cb : Nat} {F : Nat → Prop} {w w' : World} {code : List (Option Hs.Ins)} {seen : List (List UInt8)}
theorem CP.patch {pre post : List (Option Hs.Ins)} (h : CP fp fb nms cb F w (pre ++ none :: post) seen) :
    ∃ g c, w.cell? ⟨cb, 1, none⟩ = some (.slice (some ⟨g, 0, none⟩) (pre ++ none :: post).length c) ∧ (∃ x, w.cell? ⟨g, pre.length, none⟩ = some x) ∧ w.frozen? ⟨g, pre.length, none⟩ = false ∧ g < w.heap.size ∧
      ∀ u i W', InsR fp F w u i → SameH (w.setCell ⟨g, pre.length, none⟩ u) W' → CP fp fb nms cb F W' (pre ++ some i :: post) seen ∧ FB cb w W' := by
  obtain ⟨fv, cv, sp, h1, ⟨xs, h2, h3⟩, h4, h5⟩ := h.blk
  have hlt := h.lt
  have hl : (pre ++ none :: post).length = pre.length + post.length + 1 := by simp; omega
  rcases h2.2 with ⟨_, r2⟩ | ⟨g, c, cur, rfl, r2, r3, r4, r5, r6, r7⟩
  · omega
  have hgl := lt_of_block r3
  have hget : ∃ x, cur[pre.length]? = some x := ⟨_, Array.getElem?_eq_getElem (by rw [r6]; omega)⟩
  obtain ⟨x, hx⟩ := hget
  refine ⟨g, c, cell_of_block h1 rfl, ⟨x, cell_of_block r3 hx⟩, frozen_of_block r3, hgl, fun u i W' hu hS => ?_⟩
  have hk : ∀ k, k ≠ g → W'.heap[k]? = w.heap[k]? := fun k hk => by rw [hS.heap, Below.heap_setCell _ _ _ _ hk]
  have hro : rowOf cb w = some g := rowOf_cp h1
  have hcb : W'.heap[cb]? = _ := (hk cb (by omega)).trans h1
  have hfb : FB cb w W' := ⟨⟨hS.os.trans rfl, hS.tape.trans rfl, hS.output.trans rfl, by rw [hS.heap]; simp, fun k hk' => hk k (by omega)⟩, fun k _ _ h3 => hk k fun e => h3 (by rw [hro, e]), fun k e => Or.inl (by rw [rowOf_eq (hk cb (by omega))] at e; exact e)⟩
  have hF := h.fixed hfb
  refine ⟨h.step (xs' := xs.set pre.length u) hfb hcb ⟨by rw [List.length_set, h2.1]; simp, Or.inr ⟨g, c, cur.setIfInBounds pre.length u, by simp, r2, by rw [hS.heap]; exact heap_setCell_at r3, by simpa using r4, r5, by simpa using r6, ?_⟩⟩ ?_ (SeenR.keep hF (fun _ h => h) h4) (h5.keep hF (fun _ h => h) hfb.bel.size), hfb⟩
  · rw [Array.toList_setIfInBounds, List.take_set, ← r7]; simp
  · have h3' := h3.keep hF fun _ h => h
    refine ⟨by simp [h3.1], fun j o ho => ?_⟩
    by_cases hj : j = pre.length
    · subst hj
      rw [List.getElem?_append_right (Nat.le_refl _)] at ho
      simp at ho
      subst ho
      exact ⟨u, by rw [List.getElem?_set_self (by rw [h3.1]; omega)], InsR.keep hu hF fun _ h => h⟩
    · have ho' : (pre ++ none :: post)[j]? = some o := by
        rcases Nat.lt_or_ge j pre.length with h6 | h6
        · rw [List.getElem?_append_left h6] at ho ⊢; exact ho
        · rw [List.getElem?_append_right h6] at ho ⊢
          obtain ⟨m, hm⟩ : ∃ m, j - pre.length = m + 1 := ⟨j - pre.length - 1, by omega⟩
          rw [hm] at ho ⊢
          simpa using ho
      obtain ⟨u', e1, e2⟩ := h3'.2 j o ho'
      exact ⟨u', by rw [List.getElem?_set_ne (fun e => hj e.symm)]; exact e1, e2⟩
end
end Go.Proofs.YtblbkfdhjfppkaaGreatDoor

/- Contracts of the program: the compiler's expressions (2). -/
namespace Go.Proofs.YtblbkfdhjfppkaaGreatDoor
open Go.RowKit
def CpTo (fp : Nat → Value) (fb : Nat → Nat) (nms : List (List UInt8)) (cb : Nat) (F : Nat → Prop) (w : World) (code : List (Option Hs.Ins)) (seen : List (List UInt8)) (w' : World) : Prop :=
  CP fp fb nms cb F w' code seen ∧ FB cb w w'
def ExprAt (fp : Nat → Value) (fb : Nat → Nat) (fs : List Hs.Ast) (cb lo : Nat) (F : Nat → Prop) (alone : Bool) (seen : List (List UInt8)) (d : Nat) : Prop :=
  ∀ (v : Value) (a : Hs.Ast) (code : List (Option Hs.Ins)) (w : World), CP fp fb (fs.map (·.text)) cb F w code seen → PN (Btw lo cb) w v a → Hs.ExOk fs alone seen d a → LitOk d a → code.length + (Hs.exprC fs seen d a code.length).length ≤ 1000000 →
    Calls Tryz.prog 233 #[.pointer (some ⟨cb, 0, none⟩), v] w fun e w' => e = .returned (.tuple #[]) ∧ CpTo fp fb (fs.map (·.text)) cb F w (code ++ (Hs.exprC fs seen d a code.length).map some) seen w'
section
variable {fp : Nat → Value} {fb : Nat → Nat} {fs : List Hs.Ast} {cb lo : Nat} {F : Nat → Prop} {alone : Bool} {seen : List (List UInt8)} {d : Nat}
theorem CpTo.then {w w1 w' : World} {nms : List (List UInt8)} {code : List (Option Hs.Ins)} (h1 : FB cb w w1) (h : CpTo fp fb nms cb F w1 code seen w') : CpTo fp fb nms cb F w code seen w' := ⟨h.1, h1.trans h.2⟩
theorem PKid.sliceC {F : Nat → Prop} {w : World} {v : Value} {l : List Hs.Ast} (h : PKid F w v l) : ∃ x c, v = .slice x l.length c := by
  rcases h.get with ⟨rfl, rfl⟩ | ⟨g, cap, rfl, _⟩
  · exact ⟨none, 0, rfl⟩
  · exact ⟨_, _, rfl⟩
theorem ExOk.op {fs : List Hs.Ast} {alone : Bool} {seen : List (List UInt8)} {d : Nat} {a : Hs.Ast} (h : Hs.ExOk fs alone seen (d + 1) a) :
    (∀ k ∈ a.kids, Hs.ExOk fs alone seen d k) ∧ (a.op = [110, 97, 109, 101] → a.text ∈ seen) ∧
      (a.op = [99, 97, 108, 108] → a.text = [108, 101, 110] ∨ a.text = [114, 101, 97, 100] ∨ (a.text ≠ [108, 101, 110] ∧ a.text ≠ [114, 101, 97, 100] ∧ Hs.arL fs (Hs.fnIx fs a.text) = some a.kids.length)) := by
  have two : ∀ {l r : Hs.Ast}, a.kids = [l, r] → Hs.ExOk fs alone seen d l → Hs.ExOk fs alone seen d r → ∀ k ∈ a.kids, Hs.ExOk fs alone seen d k := fun e h1 h2 k hk => by
    rw [e] at hk
    simp at hk
    rcases hk with rfl | rfl
    · exact h1
    · exact h2
  have no : ∀ {x y : List UInt8} {p : Prop}, a.op = x → x ≠ y → a.op = y → p := fun e1 e2 e3 => absurd (e1.symm.trans e3) e2
  rcases h with ⟨h1, h0⟩ | ⟨h1, h0, h2⟩ | ⟨h1, h2⟩ | ⟨h1, l, r, h0, h2, h3⟩ | ⟨h1, l, h0, h2⟩ | ⟨h1, h2, h3⟩ | ⟨h1, l, r, h0, h2, h3⟩
  · refine ⟨fun k hk => absurd hk (by rw [h0]; simp), ?_, ?_⟩ <;> rcases h1 with h1 | h1 | h1 <;> exact no h1 (by decide)
  · exact ⟨fun k hk => absurd hk (by rw [h0]; simp), fun _ => h2, no h1 (by decide)⟩
  · exact ⟨h2, no h1 (by decide), no h1 (by decide)⟩
  · exact ⟨two h0 h2 h3, no h1 (by decide), no h1 (by decide)⟩
  · refine ⟨fun k hk => ?_, ?_, ?_⟩
    · rw [h0] at hk; simp at hk; rw [hk]; exact h2
    all_goals rcases h1 with h1 | h1 <;> exact no h1 (by decide)
  · refine ⟨h2, no h1 (by decide), fun _ => ?_⟩
    rcases h3 with ⟨h3, _⟩ | ⟨h3, _⟩ | ⟨h3, h4, _, h5⟩
    · exact Or.inl h3
    · exact Or.inr (Or.inl h3)
    · exact Or.inr (Or.inr ⟨h3, h4, h5⟩)
  · refine ⟨two h0 h2 h3, fun e => ?_, fun e => ?_⟩ <;> (exfalso; rw [e] at h1; exact h1 rfl)
theorem exprs_any (IH : ExprAt fp fb fs cb lo F alone seen d) (v : Value) (l : List Hs.Ast) (code : List (Option Hs.Ins)) (w : World) (h : CP fp fb (fs.map (·.text)) cb F w code seen) (hv : PKid (Btw lo cb) w v l) (ho : ∀ a ∈ l, Hs.ExOk fs alone seen d a) (hli : ∀ a ∈ l, LitOk d a) (hl : l.length ≤ 1000000) (hn : code.length + (Hs.seqC (Hs.exprC fs seen d) l code.length).length ≤ 1000000) :
    Calls Tryz.prog 287 #[.pointer (some ⟨cb, 0, none⟩), v] w fun e w' => e = .returned (.tuple #[]) ∧ CpTo fp fb (fs.map (·.text)) cb F w (code ++ (Hs.seqC (Hs.exprC fs seen d) l code.length).map some) seen w' := by
  rcases hv.get with ⟨rfl, rfl⟩ | ⟨g, cap, rfl, hg, hgl, hcap, hc⟩
  · refine (exprs_nil w cb).mono ?_
    rintro e w' ⟨rfl, rfl⟩
    exact ⟨rfl, by simpa [Hs.seqC] using h, FB.refl _⟩
  · refine (exprs_walk w cb g l.length cap (fun j W => j ≤ l.length ∧ CpTo fp fb (fs.map (·.text)) cb F w (code ++ (Hs.seqC (Hs.exprC fs seen d) (l.take j) code.length).map some) seen W) hl ⟨Nat.zero_le _, by simpa [Hs.seqC] using h, FB.refl _⟩ (fun j W hq hj => ?_)).mono ?_
    · obtain ⟨_, hcp, hfb⟩ := hq
      obtain ⟨u, hu, hn'⟩ := hc j hj
      obtain ⟨T, cs, rfl⟩ := hn'.form
      have htk : l.take (j + 1) = l.take j ++ [l[j]] := List.take_succ_eq_append_getElem hj
      have hsp : Hs.seqC (Hs.exprC fs seen d) (l.take (j + 1)) code.length = Hs.seqC (Hs.exprC fs seen d) (l.take j) code.length ++ Hs.exprC fs seen d l[j] (code.length + (Hs.seqC (Hs.exprC fs seen d) (l.take j) code.length).length) := by rw [htk, seqC_append, seqC_one]
      have hall : (Hs.seqC (Hs.exprC fs seen d) (l.take (j + 1)) code.length).length ≤ (Hs.seqC (Hs.exprC fs seen d) l code.length).length := by
        have e : l = l.take (j + 1) ++ l.drop (j + 1) := (List.take_append_drop _ _).symm
        have := congrArg (fun x => (Hs.seqC (Hs.exprC fs seen d) x code.length).length) e
        simp only [seqC_append, List.length_append] at this
        omega
      have hcl : (code ++ (Hs.seqC (Hs.exprC fs seen d) (l.take j) code.length).map some).length = code.length + (Hs.seqC (Hs.exprC fs seen d) (l.take j) code.length).length := by simp
      refine ⟨Nat.lt_of_lt_of_le hgl hfb.bel.size, T, .agg cs, by rw [hfb.bel.cell (p := ⟨g, j, none⟩) hg.2]; exact hu, (IH _ l[j] _ W hcp (hn'.below hfb.bel) (ho _ (List.getElem_mem hj)) (hli _ (List.getElem_mem hj)) ?_).mono ?_⟩
      · rw [hcl]
        rw [hsp, List.length_append] at hall
        omega
      · rintro e w' ⟨he, hto⟩
        refine ⟨he, hj, ?_⟩
        rw [hcl] at hto
        rw [hsp, List.map_append, ← List.append_assoc]
        exact hto.then hfb
    · rintro e w' ⟨he, _, hto⟩
      rw [List.take_of_length_le (Nat.le_refl _)] at hto
      exact ⟨he, hto⟩
theorem emits {nms : List (List UInt8)} {w W : World} {code : List (Option Hs.Ins)} {u : Value} {i : Hs.Ins} (hto : CpTo fp fb nms cb F w code seen W) (hu : InsR fp F W u i) (hn : code.length + 1 ≤ 1000000) :
    Calls Tryz.prog 238 #[.pointer (some ⟨cb, 0, none⟩), u] W fun e w' => (∃ k : Nat, e = .returned (.int .i64 k)) ∧ CpTo fp fb nms cb F w (code ++ [some i]) seen w' := by
  refine (emit_any (o := some i) hto.1 hu (by omega)).mono ?_
  rintro e w' ⟨he, h1, h2⟩
  exact ⟨⟨_, he⟩, h1, hto.2.trans h2⟩
theorem fnIx_nms (fs : List Hs.Ast) (x : List UInt8) : (fs.map (·.text)).findIdx (fun y => y == x) = Hs.fnIx fs x := by
  unfold Hs.fnIx
  induction fs with
  | nil => rfl
  | cons f fs ih => simp only [List.map_cons, List.findIdx_cons, ih]
theorem code_len (code : List (Option Hs.Ins)) (c : List Hs.Ins) : (code ++ c.map some).length = code.length + c.length := by simp
set_option maxHeartbeats 1000000 in
theorem cexpr_step (IH : ExprAt fp fb fs cb lo F alone seen d) (hsn : seen.length ≤ 1000000) (hfn : fs.length ≤ 1000000) (hfp : ∀ k, k < fs.length → fp k = .pointer (some ⟨fb k, 0, none⟩)) : ExprAt fp fb fs cb lo F alone seen (d + 1) := by
  intro v a code w h hpn hok hli hlen
  obtain ⟨T, cs, ps, rfl, hsh, hps⟩ := hpn.parts
  obtain ⟨hlit, hk1, hlik⟩ := hli
  have hops := ExOk.op hok
  obtain ⟨hloc, hcp⟩ := h.new (.cells cs T)
  have hpsb : ∀ p ∈ ps, Prt.ok (Btw lo cb) (w.alloc (.cells cs T)) p := fun p hp => by
    rcases hps p hp with ⟨h1, b, h2, h3⟩ | ⟨h1, h2⟩
    · exact Or.inl ⟨h1, b, h2, h3.below hloc.fb.bel⟩
    · exact Or.inr ⟨h1, PKid.below h2 hloc.fb.bel⟩
  have blk : ∀ {W : World} {c : List (Option Hs.Ins)}, CpTo fp fb (fs.map (·.text)) cb F (w.alloc (.cells cs T)) c seen W → W.heap[w.heap.size]? = some (.cells cs T (0, 0)) := fun hto => (hloc.step hto.2).blk
  have fin : ∀ {c : List (Option Hs.Ins)} {e : Ending} {W : World}, (e = .returned (.tuple #[]) ∧ CpTo fp fb (fs.map (·.text)) cb F (w.alloc (.cells cs T)) c seen W) → (e = .returned (.tuple #[]) ∧ CpTo fp fb (fs.map (·.text)) cb F w c seen W) := fun hq => ⟨hq.1, hq.2.then hloc.fb⟩
  have hto0 : CpTo fp fb (fs.map (·.text)) cb F (w.alloc (.cells cs T)) code seen (w.alloc (.cells cs T)) := ⟨hcp, FB.refl _⟩
  have hsz : (w.alloc (.cells cs T)).heap.size = w.heap.size + 1 := by simp
  have kid : ∀ {W : World} {v : Value} {k : Hs.Ast} {c : List (Option Hs.Ins)}, CpTo fp fb (fs.map (·.text)) cb F (w.alloc (.cells cs T)) c seen W → Prt.ok (Btw lo cb) (w.alloc (.cells cs T)) ⟨v, [k], true⟩ → Hs.ExOk fs alone seen d k → LitOk d k → c.length + (Hs.exprC fs seen d k c.length).length ≤ 1000000 →
      Calls Tryz.prog 233 #[.pointer (some ⟨cb, 0, none⟩), v] W fun e w' => e = .returned (.tuple #[]) ∧ CpTo fp fb (fs.map (·.text)) cb F (w.alloc (.cells cs T)) (c ++ (Hs.exprC fs seen d k c.length).map some) seen w' := fun hto hp hx hl hn =>
    (IH _ _ _ _ hto.1 (hp.one'.below hto.2.bel) hx hl hn).mono fun e w' hq => ⟨hq.1, hq.2.then hto.2⟩
  have kids : ∀ {W : World} {v : Value} {l : List Hs.Ast} {c : List (Option Hs.Ins)}, CpTo fp fb (fs.map (·.text)) cb F (w.alloc (.cells cs T)) c seen W → Prt.ok (Btw lo cb) (w.alloc (.cells cs T)) ⟨v, l, false⟩ → (∀ k ∈ l, Hs.ExOk fs alone seen d k) → (∀ k ∈ l, LitOk d k) → l.length ≤ 1000000 → c.length + (Hs.seqC (Hs.exprC fs seen d) l c.length).length ≤ 1000000 →
      Calls Tryz.prog 287 #[.pointer (some ⟨cb, 0, none⟩), v] W fun e w' => e = .returned (.tuple #[]) ∧ CpTo fp fb (fs.map (·.text)) cb F (w.alloc (.cells cs T)) (c ++ (Hs.seqC (Hs.exprC fs seen d) l c.length).map some) seen w' := fun hto hp hx hl hll hn =>
    (exprs_any IH _ _ _ _ hto.1 (hp.many.below hto.2.bel) hx hl hll hn).mono fun e w' hq => ⟨hq.1, hq.2.then hto.2⟩
  rcases hsh with ⟨rfl, k, rfl, hop, hwh, hkd, rfl⟩ | ⟨rfl, rfl, hop, hkd, rfl⟩ | ⟨rfl, rfl, hop, hkd, rfl⟩ | ⟨rfl, sv, rfl, hop, rfl⟩ | ⟨rfl, sv, rfl, hop, rfl⟩ | ⟨rfl, rfl, hop, hkd, rfl⟩ | ⟨rfl, l, v1, v2, a1, a2, rfl, hop, hkd, rfl⟩ | ⟨rfl, o, v1, a1, rfl, hoo, hop, hkd, rfl⟩ | ⟨rfl, l, v1, v2, a1, a2, rfl, hop, hkd, rfl⟩ | hrest
  · -- a number
    rw [exprC_num fs seen d a _ hop, hwh] at hlen ⊢
    have hk := wholeL_le _ _ _ (by omega) hwh
    exact (exNumber_walk w cb a.line k _ (emits (i := .push (Hs.vnum k)) hto0 ⟨_, rfl, PV.num _ _ _ (by omega) (by omega), by rw [cells_vnum]; omega⟩ (by simp at hlen; omega))).mono fun _ _ => fin
  · rw [exprC_str fs seen d a _ hop] at hlen ⊢
    exact (exString_walk w cb a.line _ _ (emits (i := .push (Hs.vstr a.text)) hto0 ⟨_, rfl, PV.str _ _ _, by rw [cells_str]; have := (hlit hop).1; omega⟩ (by simp at hlen; omega))).mono fun _ _ => fin
  · rw [exprC_bool fs seen d a _ hop] at hlen ⊢
    exact (exBool_walk w cb a.line _ _ (emits (i := .push (Hs.vtru (a.text == [116, 114, 117, 101]))) hto0 ⟨_, rfl, PV.tru _ _ _, by rw [cells_vtru]; omega⟩ (by simp at hlen; omega))).mono fun _ _ => fin
  · -- a list
    rw [exprC_list fs seen d a _ hop] at hlen ⊢
    rw [List.length_append, List.length_singleton] at hlen
    have hkx := hops.1
    have hp := hpsb ⟨sv, a.kids, false⟩ (by simp)
    obtain ⟨x, c, rfl⟩ := hp.many.sliceC
    refine (exList_walk w cb a.kids.length c a.line x _ _ (kids hto0 hp hkx hlik hk1 (by omega)) (fun W hq => ⟨cell_of_block (blk hq) rfl, lt_of_block (blk hq)⟩) (fun W hq => emits (i := .list a.kids.length) hq rfl (by rw [code_len]; omega))).mono ?_
    intro e W hq
    rw [List.map_append, ← List.append_assoc]
    exact fin hq
  · -- a call
    rw [exprC_call fs seen d a _ hop] at hlen ⊢
    rw [List.length_append, List.length_singleton] at hlen
    have hkx := hops.1
    have hcase := hops.2.2 hop
    have hp := hpsb ⟨sv, a.kids, false⟩ (by simp)
    obtain ⟨x, c, rfl⟩ := hp.many.sliceC
    obtain ⟨hloc2, hcp2⟩ := hcp.new (.cells #[.int .i64 a.line, .string (bs a.text), .slice x a.kids.length c] 341)
    generalize hw1 : w.alloc (.cells #[.int .i64 a.line, .string (bs a.text), .slice x a.kids.length c] 341) = w1 at *
    have hto2 : CpTo fp fb (fs.map (·.text)) cb F w1 code seen (w1.alloc (.cells #[.int .i64 a.line, .string (bs a.text), .slice x a.kids.length c] 341)) := ⟨hcp2, hloc2.fb⟩
    have hx := kids hto2 hp hkx hlik hk1 (by omega)
    have hw2 : w1.heap.size < w1.heap.size + 1 := Nat.lt_succ_self _
    have blk2 : ∀ {W : World}, FB cb (w1.alloc (.cells #[.int .i64 a.line, .string (bs a.text), .slice x a.kids.length c] 341)) W → W.heap[w1.heap.size]? = some (.cells #[.int .i64 a.line, .string (bs a.text), .slice x a.kids.length c] 341 (0, 0)) := fun hfb => (hloc2.step hfb).blk
    have hx2 : Calls Tryz.prog 287 #[.pointer (some ⟨cb, 0, none⟩), .slice x a.kids.length c] (w1.alloc (.cells #[.int .i64 a.line, .string (bs a.text), .slice x a.kids.length c] 341)) fun e w' => e = .returned (.tuple #[]) ∧ (CpTo fp fb (fs.map (·.text)) cb F w1 (code ++ (Hs.seqC (Hs.exprC fs seen d) a.kids code.length).map some) seen w' ∧ w'.heap[w1.heap.size]? = some (.cells #[.int .i64 a.line, .string (bs a.text), .slice x a.kids.length c] 341 (0, 0))) := by
      refine (exprs_any IH _ _ _ _ hcp2 (hp.many.below hloc2.fb.bel) hkx hlik hk1 (by omega)).mono ?_
      rintro e w' ⟨he, hto⟩
      exact ⟨he, hto.then hloc2.fb, blk2 hto.2⟩
    have hfin : ∀ {i : Hs.Ins} {e : Ending} {W : World}, (e = .returned (.tuple #[]) ∧ CpTo fp fb (fs.map (·.text)) cb F w1 ((code ++ (Hs.seqC (Hs.exprC fs seen d) a.kids code.length).map some) ++ [some i]) seen W) → e = .returned (.tuple #[]) ∧ CpTo fp fb (fs.map (·.text)) cb F w (code ++ (Hs.seqC (Hs.exprC fs seen d) a.kids code.length ++ [i]).map some) seen W := fun hq => by
      rw [List.map_append, ← List.append_assoc]
      exact fin hq
    have hbd : (code ++ (Hs.seqC (Hs.exprC fs seen d) a.kids code.length).map some).length + 1 ≤ 1000000 := by rw [code_len]; omega
    rcases hcase with htx | htx | ⟨ht1, ht2, har⟩
    · rw [htx] at hx2 hw1 ⊢
      refine (exCall_walk w cb a.kids.length c a.line _ x (fun W => CpTo fp fb (fs.map (·.text)) cb F w1 ((code ++ (Hs.seqC (Hs.exprC fs seen d) a.kids code.length).map some) ++ [some .length]) seen W) (by rw [hw1]; exact call_len w1 cb a.kids.length c a.line x _ _ hx2 (fun W hq => ⟨cell_of_block hq.2 rfl, lt_of_block hq.2⟩) (fun W hq => emits (i := .length) hq.1 rfl hbd))).mono ?_
      intro e W hq
      exact hfin hq
    · rw [htx] at hx2 hw1 ⊢
      refine (exCall_walk w cb a.kids.length c a.line _ x (fun W => CpTo fp fb (fs.map (·.text)) cb F w1 ((code ++ (Hs.seqC (Hs.exprC fs seen d) a.kids code.length).map some) ++ [some .read]) seen W) (by rw [hw1]; exact call_read w1 cb a.kids.length c a.line x _ _ hx2 (fun W hq => ⟨cell_of_block hq.2 rfl, lt_of_block hq.2⟩) (fun W hq => emits (i := .read) hq.1 rfl hbd))).mono ?_
      intro e W hq
      exact hfin hq
    · have hfl : Hs.fnIx fs a.text < fs.length := by
        unfold Hs.arL at har
        cases hf : fs[Hs.fnIx fs a.text]? with
        | none => rw [hf] at har; cases har
        | some f => exact (List.getElem?_eq_some_iff.1 hf).1
      have hmem : a.text ∈ fs.map (·.text) := by
        have h9 := hfl
        unfold Hs.fnIx at h9
        have := List.findIdx_getElem (w := h9)
        exact List.mem_map.2 ⟨_, List.getElem_mem h9, by simpa using this⟩
      have e1 : (a.text == [108, 101, 110]) = false := by simpa using ht1
      have e2 : (a.text == [114, 101, 97, 100]) = false := by simpa using ht2
      rw [e1, e2]
      refine (exCall_walk w cb a.kids.length c a.line _ x (fun W => CpTo fp fb (fs.map (·.text)) cb F w1 ((code ++ (Hs.seqC (Hs.exprC fs seen d) a.kids code.length).map some) ++ [some (.call (Hs.fnIx fs a.text) a.kids.length)]) seen W) ?_).mono ?_
      · rw [hw1]
        refine call_other w1 cb a.kids.length c (fb (Hs.fnIx fs a.text)) a.line a.text x _ _ ht1 ht2 hx2 (fun W hq => ⟨cell_of_block hq.2 rfl, cell_of_block hq.2 rfl, lt_of_block hq.2⟩) (fun W W' hq hS => ?_) (fun W W' hq hS => ?_)
        · refine (cfunction_any a.text (hq.1.1.grow hS.below) hmem (by simpa using hfn)).mono ?_
          rintro e w' ⟨he, hw'⟩
          rw [fnIx_nms, hfp _ hfl] at he
          exact ⟨he, hw'⟩
        · have hq' : CpTo fp fb (fs.map (·.text)) cb F w1 (code ++ (Hs.seqC (Hs.exprC fs seen d) a.kids code.length).map some) seen W' := ⟨hq.1.1.grow hS.below, hq.1.2.trans (FB.of_below hS.below hq.1.1.lt)⟩
          exact emits (i := .call (Hs.fnIx fs a.text) a.kids.length) hq' (by show _ = _; rw [hfp _ hfl]) hbd
      · intro e W hq
        exact hfin hq
  · -- a variable
    rw [exprC_var fs seen d a _ hop] at hlen ⊢
    have hm := hops.2.1 hop
    exact (exVariable_walk w cb a.line _ (Hs.slotL seen a.text) _ (slot_any a.text hcp hm hsn) (emits (i := .load (Hs.slotL seen a.text)) hto0 rfl (by simp at hlen; omega))).mono fun _ _ => fin
  · -- an index
    rw [exprC_index fs seen d a _ hop, hkd, seqC_two] at hlen ⊢
    rw [List.length_append, List.length_append, List.length_singleton] at hlen
    have hkx := hops.1
    have hp1 := hpsb ⟨v1, [a1], true⟩ (by simp)
    have hp2 := hpsb ⟨v2, [a2], true⟩ (by simp)
    obtain ⟨T1, cs1, rfl⟩ := hp1.one'.form
    obtain ⟨T2, cs2, rfl⟩ := hp2.one'.form
    refine (exIndex_walk w cb l T1 T2 _ _ _ _ _ (kid hto0 hp1 (hkx a1 (by rw [hkd]; simp)) (hlik a1 (by rw [hkd]; simp)) (by omega)) (fun W hq => ⟨cell_of_block (blk hq) rfl, lt_of_block (blk hq)⟩) (fun W hq => kid hq hp2 (hkx a2 (by rw [hkd]; simp)) (hlik a2 (by rw [hkd]; simp)) (by rw [code_len]; omega)) (fun W hq => emits (i := .index) hq rfl (by simp only [code_len]; omega))).mono ?_
    intro e W hq
    rw [code_len] at hq
    rw [List.map_append, List.map_append, ← List.append_assoc, ← List.append_assoc]
    exact fin hq
  · -- one operand
    rw [exprC_unary fs seen d a _ o hoo hop, hkd, seqC_one] at hlen ⊢
    rw [List.length_append, List.length_singleton] at hlen
    have hkx := hops.1
    have hp1 := hpsb ⟨v1, [a1], true⟩ (by simp)
    obtain ⟨T1, cs1, rfl⟩ := hp1.one'.form
    refine (exUnary_walk w cb a.line _ T1 _ _ _ (kid hto0 hp1 (hkx a1 (by rw [hkd]; simp)) (hlik a1 (by rw [hkd]; simp)) (by omega)) (fun W hq => ⟨cell_of_block (blk hq) rfl, lt_of_block (blk hq)⟩) (fun W hq => emits (i := .unary [o]) hq rfl (by rw [code_len]; omega))).mono ?_
    intro e W hq
    rw [List.map_append, ← List.append_assoc]
    exact fin hq
  · -- two operands
    have hkx := hops.1
    have hp1 := hpsb ⟨v1, [a1], true⟩ (by simp)
    have hp2 := hpsb ⟨v2, [a2], true⟩ (by simp)
    obtain ⟨T1, cs1, rfl⟩ := hp1.one'.form
    obtain ⟨T2, cs2, rfl⟩ := hp2.one'.form
    have hx1 := hkx a1 (by rw [hkd]; simp)
    have hx2 := hkx a2 (by rw [hkd]; simp)
    have hl1 := hlik a1 (by rw [hkd]; simp)
    have hl2 := hlik a2 (by rw [hkd]; simp)
    generalize hcs : (#[.int .i64 (l : Nat), .string (bs a.op), .iface T1 (.agg cs1), .iface T2 (.agg cs2)] : Array Value) = cs at *
    obtain ⟨hloc2, hcp2⟩ := hcp.new (.cells cs 352)
    have hto2 : CpTo fp fb (fs.map (·.text)) cb F (w.alloc (.cells cs 352)) code seen ((w.alloc (.cells cs 352)).alloc (.cells cs 352)) := ⟨hcp2, hloc2.fb⟩
    generalize hw1 : w.alloc (.cells cs 352) = w1 at *
    have kid2 : ∀ {W : World} {v : Value} {k : Hs.Ast} {c : List (Option Hs.Ins)}, (CpTo fp fb (fs.map (·.text)) cb F w1 c seen W ∧ Loc cb w1 w1.heap.size (.cells cs 352) W) → Prt.ok (Btw lo cb) w1 ⟨v, [k], true⟩ → Hs.ExOk fs alone seen d k → LitOk d k → c.length + (Hs.exprC fs seen d k c.length).length ≤ 1000000 →
        Calls Tryz.prog 233 #[.pointer (some ⟨cb, 0, none⟩), v] W fun e w' => e = .returned (.tuple #[]) ∧ (CpTo fp fb (fs.map (·.text)) cb F w1 (c ++ (Hs.exprC fs seen d k c.length).map some) seen w' ∧ Loc cb w1 w1.heap.size (.cells cs 352) w') := fun hto hp hx hl hn =>
      (IH _ _ _ _ hto.1.1 (hp.one'.below hto.1.2.bel) hx hl hn).mono fun e w' hq => ⟨hq.1, hq.2.then hto.1.2, hto.2.step hq.2.2⟩
    have hcell : ∀ {W : World}, Loc cb w1 w1.heap.size (.cells cs 352) W → W.cell? ⟨w1.heap.size, 1, none⟩ = some (.string (bs a.op)) ∧ W.cell? ⟨w1.heap.size, 3, none⟩ = some (.iface T2 (.agg cs2)) ∧ w1.heap.size < W.heap.size := fun hL => ⟨cell_of_block hL.blk (by rw [← hcs]; rfl), cell_of_block hL.blk (by rw [← hcs]; rfl), lt_of_block hL.blk⟩
    by_cases hsho : a.op = [38, 38] ∨ a.op = [124, 124]
    · obtain ⟨b, hb⟩ : ∃ b : Bool, a.op = if b then [124, 124] else [38, 38] := by
        rcases hsho with e | e
        · exact ⟨false, e⟩
        · exact ⟨true, e⟩
      rw [exprC_short fs seen d a _ b a1 a2 hb hkd] at hlen ⊢
      generalize hcl : Hs.exprC fs seen d a1 code.length = cl at *
      generalize hcr : Hs.exprC fs seen d a2 (code.length + cl.length + 1) = cr at *
      simp only [List.length_append, List.length_singleton] at hlen
      have hbin := binary_short w1 cb (code.length + cl.length) l b a.op T1 T2 (.agg cs1) (.agg cs2) (fun W => CpTo fp fb (fs.map (·.text)) cb F w1 (code ++ cl.map some ++ some (.shortcut b (code.length + cl.length + 1 + cr.length + 1)) :: (cr.map some ++ [some .truth])) seen W)
        (fun W => CpTo fp fb (fs.map (·.text)) cb F w1 (code ++ cl.map some) seen W ∧ Loc cb w1 w1.heap.size (.cells cs 352) W)
        (fun W => CpTo fp fb (fs.map (·.text)) cb F w1 (code ++ cl.map some ++ [none]) seen W ∧ Loc cb w1 w1.heap.size (.cells cs 352) W)
        (fun W => CpTo fp fb (fs.map (·.text)) cb F w1 (code ++ cl.map some ++ [none] ++ cr.map some) seen W ∧ Loc cb w1 w1.heap.size (.cells cs 352) W)
        (fun W => CpTo fp fb (fs.map (·.text)) cb F w1 (code ++ cl.map some ++ [none] ++ cr.map some ++ [some .truth]) seen W ∧ Loc cb w1 w1.heap.size (.cells cs 352) W) hb
        (by
          rw [hcs]
          have := kid2 (c := code) ⟨hto2, hloc2⟩ hp1 hx1 hl1 (by rw [hcl]; omega)
          rw [hcl] at this; exact this)
        (fun W hq => ⟨(hcell hq.2).1, (hcell hq.2).2.2⟩)
        (fun W hq => (emit_any (o := none) hq.1.1 rfl (by rw [code_len]; omega)).mono fun e w' hr => ⟨by rw [hr.1, code_len], ⟨hr.2.1, hq.1.2.trans hr.2.2⟩, hq.2.step hr.2.2⟩)
        (fun W hq => ⟨(hcell hq.2).2.1, (hcell hq.2).2.2⟩)
        (fun W hq => by
          have hlc : (code ++ cl.map some ++ [none]).length = code.length + cl.length + 1 := by simp; omega
          have := kid2 hq hp2 hx2 hl2 (by rw [hlc, hcr]; omega)
          rw [hlc, hcr] at this; exact this)
        (fun W hq => (emit_any (o := some .truth) hq.1.1 rfl (by simp; omega)).mono fun e w' hr => ⟨⟨_, hr.1⟩, ⟨hr.2.1, hq.1.2.trans hr.2.2⟩, hq.2.step hr.2.2⟩)
        (fun W hq => by
          obtain ⟨⟨hc1, hc2⟩, hL⟩ := hq
          have e0 : code ++ cl.map some ++ [none] ++ cr.map some ++ [some Hs.Ins.truth] = (code ++ cl.map some) ++ none :: (cr.map some ++ [some Hs.Ins.truth]) := by simp
          rw [e0] at hc1
          have hlt := hc1.lt
          obtain ⟨g, c, p1, p2, p3, p4, p5⟩ := hc1.patch
          have hpl : (code ++ cl.map some).length = code.length + cl.length := code_len _ _
          have hnl : ((code ++ cl.map some) ++ none :: (cr.map some ++ [some Hs.Ins.truth])).length = code.length + cl.length + 1 + cr.length + 1 := by simp; omega
          rw [hpl] at p2 p3 p5
          rw [hnl] at p1
          refine ⟨(hcell hL).1, (hcell hL).2.2, hlt, g, _, c, p1, by omega, by omega, p2, p3, p4, fun W' hS => ?_⟩
          obtain ⟨q1, q2⟩ := p5 _ (.shortcut b (code.length + cl.length + 1 + cr.length + 1)) W' rfl hS
          exact ⟨q1, hc2.trans q2⟩)
      rw [hcs] at hbin
      rw [← hcs]
      refine (exBinary_walk w cb l (bs a.op) T1 T2 (.agg cs1) (.agg cs2) _ (by rw [hcs, hw1]; exact hbin)).mono ?_
      intro e W hq
      have e9 : code ++ (cl ++ [Hs.Ins.shortcut b (code.length + cl.length + 1 + cr.length + 1)] ++ cr ++ [Hs.Ins.truth]).map some = code ++ cl.map some ++ some (.shortcut b (code.length + cl.length + 1 + cr.length + 1)) :: (cr.map some ++ [some .truth]) := by simp
      rw [e9]
      exact fin hq
    · have hn1 : a.op ≠ [38, 38] := fun e => hsho (Or.inl e)
      have hn2 : a.op ≠ [124, 124] := fun e => hsho (Or.inr e)
      rw [exprC_binary fs seen d a _ hop hn1 hn2, hkd, seqC_two] at hlen ⊢
      simp only [List.length_append, List.length_singleton] at hlen
      have hbin := binary_plain w1 cb l a.op T1 T2 (.agg cs1) (.agg cs2) (fun W => CpTo fp fb (fs.map (·.text)) cb F w1 (code ++ (Hs.exprC fs seen d a1 code.length).map some ++ (Hs.exprC fs seen d a2 (code.length + (Hs.exprC fs seen d a1 code.length).length)).map some ++ [some (.binary a.op)]) seen W) _ _ hn1 hn2
        (by rw [hcs]; exact kid2 (c := code) ⟨hto2, hloc2⟩ hp1 hx1 hl1 (by omega))
        (fun W hq => hcell hq.2)
        (fun W hq => kid2 hq hp2 hx2 hl2 (by rw [code_len]; omega))
        (fun W hq => ⟨(hcell hq.2).1, (hcell hq.2).2.2⟩)
        (fun W hq => by
          obtain ⟨hq1, hq2⟩ := hq
          rw [code_len] at hq1
          exact emits (i := .binary a.op) hq1 rfl (by simp only [code_len]; omega))
      rw [hcs] at hbin
      rw [← hcs]
      refine (exBinary_walk w cb l (bs a.op) T1 T2 (.agg cs1) (.agg cs2) _ (by rw [hcs, hw1]; exact hbin)).mono ?_
      intro e W hq
      rw [List.map_append, List.map_append, ← List.append_assoc, ← List.append_assoc]
      exact fin hq
  · -- no expression
    exfalso
    have hno : ∀ x ∈ ([[118, 97, 114], [115, 101, 116], [105, 102], [119, 104, 105, 108, 101], [114, 101, 116, 117, 114, 110], [112, 114, 105, 110, 116], [100, 111]] : List (List UInt8)), a.op ≠ x := fun x hx e => by
      have hc : ∀ y ∈ ([[48], [115], [98, 111, 111, 108], [110, 97, 109, 101], [108, 105, 115, 116], [105, 110, 100, 101, 120], [45, 120], [33, 120], [99, 97, 108, 108], [124, 124], [38, 38], [61, 61], [33, 61], [60], [60, 61], [43], [45], [42], [47], [37]] : List (List UInt8)), a.op ≠ y := fun y hy e2 => by
        rw [e] at e2
        subst e2
        simp at hx hy
        rcases hx with rfl | rfl | rfl | rfl | rfl | rfl | rfl <;> simp at hy
      rcases hok with ⟨h1, _⟩ | ⟨h1, _⟩ | ⟨h1, _⟩ | ⟨h1, _⟩ | ⟨h1, _⟩ | ⟨h1, _⟩ | ⟨h1, _⟩
      · rcases h1 with h1 | h1 | h1 <;> exact hc _ (by simp) h1
      · exact hc _ (by simp) h1
      · exact hc _ (by simp) h1
      · exact hc _ (by simp) h1
      · rcases h1 with h1 | h1 <;> exact hc _ (by simp) h1
      · exact hc _ (by simp) h1
      · rcases Hs.level_cases h1 with e | e | e | e | e | e | e | e | e | e | e <;> exact hc _ (by simp) e
    rcases hrest with ⟨_, _, _, _, _, h1, _⟩ | ⟨_, _, _, _, _, _, h1, _⟩ | ⟨_, _, _, _, _, _, h1, _⟩ | ⟨_, _, _, _, _, _, _, _, h1, _⟩ | ⟨_, _, _, _, _, _, h1, _⟩ | ⟨_, _, _, h1, _⟩ | ⟨_, _, _, _, h1, _⟩ | ⟨_, _, _, _, h1, _⟩ | ⟨_, _, _, _, h1, _⟩
    all_goals exact hno _ (by simp) h1
theorem cexpr_any (hsn : seen.length ≤ 1000000) (hfn : fs.length ≤ 1000000) (hfp : ∀ k, k < fs.length → fp k = .pointer (some ⟨fb k, 0, none⟩)) : ∀ d, ExprAt fp fb fs cb lo F alone seen d
  | 0 => fun _ _ _ _ _ _ h => h.elim
  | d + 1 => cexpr_step (cexpr_any hsn hfn hfp d) hsn hfn hfp
end
end Go.Proofs.YtblbkfdhjfppkaaGreatDoor

/- Contracts of the program: the compiler's blocks: the walks. -/
namespace Go.Proofs.YtblbkfdhjfppkaaGreatDoor
open Go.RowKit
set_option maxRecDepth 100000 in
set_option maxHeartbeats 1000000 in
theorem statements_walk (w : World) (cb g n cap : Nat) (C : Nat → World → Prop) (hn : n ≤ 1000000) (h0 : C 0 w)
    (HC : Hid (∀ j W, C j W → j < n → g < W.heap.size ∧ ∃ t z, W.cell? ⟨g, j, none⟩ = some (.iface t z) ∧ Calls Tryz.prog 291 #[.pointer (some ⟨cb, 0, none⟩), .iface t z] W fun e w' => e = .returned (.tuple #[]) ∧ C (j + 1) w')) :
    Calls Tryz.prog 237 #[.pointer (some ⟨cb, 0, none⟩), .slice (some ⟨g, 0, none⟩) n cap] w fun e w' => e = .returned (.tuple #[]) ∧ C n w' := by
  have H0 := mkHid h0
  clear h0
  go_enter Tryz.func237, Tryz.ntmps237
  go_wp2_with fail
  go_loopg [5, 8] n (fun gk _ i wr => ∃ j : Nat, j + gk = n ∧ i = .int .i64 j ∧ C j wr)
  case atStart => exact ⟨0, by omega, rfl, H0.out⟩
  case round =>
    obtain ⟨j, hj, rfl, hC⟩ := hrel
    by_cases hlt : j < n
    · obtain ⟨m, rfl⟩ : ∃ m, gk = m + 1 := ⟨gk - 1, by omega⟩
      obtain ⟨hg, t, z, c1, hcl⟩ := HC.out _ _ hC hlt
      have HX := mkHid hcl
      have e1 : (0 : Int) ≤ (j : Int) := by omega
      have e2 : (j : Int) < (n : Int) := by omega
      clear hC hcl
      go_wp2_with fail
      refine HX.out.mono ?_
      rintro e w1 ⟨rfl, h1⟩
      go_wp2_with fail
      go_roundg m
      case measure => omega
      case rel => exact ⟨j + 1, by omega, by go_num, h1⟩
    · have hjn : j = n := by omega
      subst hjn
      have HC' := mkHid hC
      clear hC
      go_wp2_with fail
      go_end0
      exact ⟨rfl, HC'.out⟩
set_option maxRecDepth 100000 in
theorem statements_nil (w : World) (cb : Nat) : Calls Tryz.prog 237 #[.pointer (some ⟨cb, 0, none⟩), .slice none 0 0] w fun e w' => e = .returned (.tuple #[]) ∧ w' = w := by
  go_enter Tryz.func237, Tryz.ntmps237
  go_wp2_with fail
  go_loopg [5, 8] 0 (fun _ _ i wr => i = .int .i64 0 ∧ wr = w)
  case atStart => exact ⟨rfl, rfl⟩
  case round =>
    obtain ⟨rfl, rfl⟩ := hrel
    go_wp2_with fail
    go_end0
    exact ⟨rfl, rfl⟩
end Go.Proofs.YtblbkfdhjfppkaaGreatDoor

/- Contracts of the program: the compiler's statements. -/
namespace Go.Proofs.YtblbkfdhjfppkaaGreatDoor
open Go.RowKit
def LitA (a : Hs.Ast) : Prop := ∀ e, LitOk e a
theorem LitA.kid {a k : Hs.Ast} (h : LitA a) (hk : k ∈ a.kids) : LitA k := fun e => (h (e + 1)).2.2 k hk
theorem LitA.len {a : Hs.Ast} (h : LitA a) : a.kids.length ≤ 1000000 := (h 1).2.1
theorem stC_seen {fs : List Hs.Ast} {d : Nat} {seen : List (List UInt8)} {a : Hs.Ast} (p : Nat) (h : Hs.StOk fs d seen a) : (Hs.stC fs d seen a p).2 = Hs.seenC seen a :=
  (Hs.stC_seg fs d seen a (fun _ _ => False) p h ⟨fun _ _ _ h => h.elim, fun _ _ h => h.elim⟩).2.1
theorem StsOk.split {S : List (List UInt8) → Hs.Ast → Prop} : ∀ {l m : List Hs.Ast} {seen : List (List UInt8)}, Hs.StsOk S seen (l ++ m) → Hs.StsOk S seen l ∧ Hs.StsOk S (Hs.seenAll seen l) m
  | [], _, _, h => ⟨trivial, h⟩
  | _ :: _, _, _, h => by
    obtain ⟨h1, h2⟩ := h
    obtain ⟨h3, h4⟩ := StsOk.split h2
    exact ⟨⟨h1, h3⟩, h4⟩
theorem seenAll_append : ∀ (l m : List Hs.Ast) (seen : List (List UInt8)), Hs.seenAll seen (l ++ m) = Hs.seenAll (Hs.seenAll seen l) m
  | [], _, _ => rfl
  | a :: l, m, seen => seenAll_append l m (Hs.seenC seen a)
theorem stsC_append {fs : List Hs.Ast} {d : Nat} : ∀ {l : List Hs.Ast} (m : List Hs.Ast) {seen : List (List UInt8)} (p : Nat), Hs.StsOk (Hs.StOk fs d) seen l → Hs.stsC (Hs.stC fs d) seen (l ++ m) p = Hs.stsC (Hs.stC fs d) seen l p ++ Hs.stsC (Hs.stC fs d) (Hs.seenAll seen l) m (p + (Hs.stsC (Hs.stC fs d) seen l p).length)
  | [], m, seen, p, _ => by simp [Hs.stsC, Hs.seenAll]
  | a :: l, m, seen, p, h => by
    obtain ⟨h1, h2⟩ := h
    rw [List.cons_append, Hs.stsC, Hs.stsC, stC_seen p h1, stsC_append m _ h2, List.append_assoc, List.length_append, Nat.add_assoc]
    rfl
theorem stsC_one {fs : List Hs.Ast} {d : Nat} (a : Hs.Ast) (seen : List (List UInt8)) (p : Nat) : Hs.stsC (Hs.stC fs d) seen [a] p = (Hs.stC fs d seen a p).1 := by simp [Hs.stsC]
def CpG (fp : Nat → Value) (fb : Nat → Nat) (nms : List (List UInt8)) (cb : Nat) (F : Nat → Prop) (w : World) (code : List (Option Hs.Ins)) (seen : List (List UInt8)) (w' : World) : Prop :=
  ∃ G, (∀ k, F k → G k) ∧ CpTo fp fb nms cb G w code seen w'
def StAt (fp : Nat → Value) (fb : Nat → Nat) (fs : List Hs.Ast) (cb lo : Nat) (d : Nat) : Prop :=
  ∀ (F : Nat → Prop) (seen : List (List UInt8)) (v : Value) (a : Hs.Ast) (code : List (Option Hs.Ins)) (w : World), CP fp fb (fs.map (·.text)) cb F w code seen → PN (Btw lo cb) w v a → Hs.StOk fs d seen a → LitA a → seen.length ≤ 90001 → code.length + (Hs.stC fs d seen a code.length).1.length ≤ 1000000 →
    Calls Tryz.prog 291 #[.pointer (some ⟨cb, 0, none⟩), v] w fun e w' => e = .returned (.tuple #[]) ∧ CpG fp fb (fs.map (·.text)) cb F w (code ++ (Hs.stC fs d seen a code.length).1.map some) (Hs.stC fs d seen a code.length).2 w'
section
variable {fp : Nat → Value} {fb : Nat → Nat} {fs : List Hs.Ast} {cb lo : Nat} {F : Nat → Prop} {seen : List (List UInt8)} {d : Nat}
theorem CpG.then {w w1 w' : World} {nms : List (List UInt8)} {code : List (Option Hs.Ins)} (h1 : FB cb w w1) (h : CpG fp fb nms cb F w1 code seen w') : CpG fp fb nms cb F w code seen w' := by
  obtain ⟨G, hG, h⟩ := h
  exact ⟨G, hG, h.then h1⟩
theorem CpG.more {G : Nat → Prop} {w w' : World} {nms : List (List UInt8)} {code : List (Option Hs.Ins)} (hF : ∀ k, F k → G k) (h : CpG fp fb nms cb G w code seen w') : CpG fp fb nms cb F w code seen w' := by
  obtain ⟨H, hH, h⟩ := h
  exact ⟨H, fun k hk => hH k (hF k hk), h⟩
theorem seenC_len {fs : List Hs.Ast} {d : Nat} {seen : List (List UInt8)} {a : Hs.Ast} (h : Hs.StOk fs d seen a) (hs : seen.length ≤ 90001) : (Hs.seenC seen a).length ≤ 90001 := by
  cases d with
  | zero => exact h.elim
  | succ d =>
    unfold Hs.seenC
    split
    · rename_i hop
      rcases h with ⟨_, h1, t, v, hk, _⟩ | ⟨h1, _⟩ | ⟨h1, _⟩ | ⟨h1, _⟩ | ⟨h1, _⟩ | ⟨h1, _⟩ | ⟨h1, _⟩
      · rw [hk]; simp; omega
      all_goals exact absurd (hop.symm.trans h1) (by decide)
    · exact hs
theorem seenAll_len {fs : List Hs.Ast} {d : Nat} : ∀ {l : List Hs.Ast} {seen : List (List UInt8)}, Hs.StsOk (Hs.StOk fs d) seen l → seen.length ≤ 90001 → (Hs.seenAll seen l).length ≤ 90001
  | [], _, _, h => h
  | a :: l, seen, hh, h => by
    obtain ⟨h1, h2⟩ := hh
    exact seenAll_len (l := l) (seen := Hs.seenC seen a) h2 (seenC_len h1 h)
end
end Go.Proofs.YtblbkfdhjfppkaaGreatDoor

/- Contracts of the program: the compiler's functions: the walks. -/
namespace Go.Proofs.YtblbkfdhjfppkaaGreatDoor
open Go.RowKit
set_option maxRecDepth 100000 in
set_option maxHeartbeats 2000000 in
theorem body_walk (w : World) (cb : Nat) (l : Int) (tx : ByteArray) (px bx : Option Addr) (np pc nb bc : Nat) (P : Value → World → Prop) (I : Nat → World → Prop) (Q R S : World → Prop) (hl : cb < w.heap.size) (hnp : np ≤ 1000000)
    (c1 : ∃ u, w.cell? ⟨cb, 1, none⟩ = some u) (c2 : ∃ u, w.cell? ⟨cb, 2, none⟩ = some u) (f1 : w.frozen? ⟨cb, 1, none⟩ = false) (f2 : w.frozen? ⟨cb, 2, none⟩ = false)
    (HI : Hid (I 0 (((w.setCell ⟨cb, 1, none⟩ (.slice none 0 0)).setCell ⟨cb, 2, none⟩ (.pointer none)).alloc (.cells #[.int .i64 l, .string tx, .slice px np pc, .slice bx nb bc] 215))))
    (HP : Hid (∀ j W, I j W → j < np → ∃ pg l2 t2, px = some ⟨pg, 0, none⟩ ∧ pg < W.heap.size ∧ W.cell? ⟨pg, j * 2, none⟩ = some (.int .i64 l2) ∧ W.cell? ⟨pg, j * 2 + 1, none⟩ = some (.string t2) ∧ Calls Tryz.prog 236 #[.pointer (some ⟨cb, 0, none⟩), .string t2] (W.alloc (.cells #[.int .i64 l2, .string t2] 211)) fun e w' => e = .returned (.tuple #[]) ∧ I (j + 1) w'))
    (HB : Hid (∀ W, I np W → W.cell? ⟨w.heap.size, 3, none⟩ = some (.slice bx nb bc) ∧ w.heap.size < W.heap.size ∧ Calls Tryz.prog 237 #[.pointer (some ⟨cb, 0, none⟩), .slice bx nb bc] W fun e w' => e = .returned (.tuple #[]) ∧ Q w'))
    (HE : Hid (∀ W, Q W → Calls Tryz.prog 238 #[.pointer (some ⟨cb, 0, none⟩), .iface 361 (.agg #[.iface 315 (.int .i64 0)])] W fun e w' => (∃ k : Nat, e = .returned (.int .i64 k)) ∧ R w'))
    (HG : Hid (∀ W, R W → Calls Tryz.prog 238 #[.pointer (some ⟨cb, 0, none⟩), .iface 363 (.agg #[])] W fun e w' => (∃ k : Nat, e = .returned (.int .i64 k)) ∧ S w'))
    (HS : Hid (∀ W, S W → cb < W.heap.size ∧ ∃ x n c, W.cell? ⟨cb, 1, none⟩ = some (.slice x n c) ∧ P (.slice x n c) W)) :
    Calls Tryz.prog 173 #[.pointer (some ⟨cb, 0, none⟩), .agg #[.int .i64 l, .string tx, .slice px np pc, .slice bx nb bc]] w fun e w' => ∃ cv, e = .returned cv ∧ P cv w' := by
  obtain ⟨u1, c1⟩ := c1
  obtain ⟨u2, c2⟩ := c2
  have hne : ¬ cb = w.heap.size := by omega
  have hne2 : ¬ w.heap.size = cb := by omega
  go_enter Tryz.func173, Tryz.ntmps173
  go_wp2_with fail
  go_loopg [6, 16] np (fun gk _ i wr => ∃ j : Nat, j + gk = np ∧ i = .int .i64 j ∧ I j wr)
  case atStart => exact ⟨0, by omega, rfl, HI.out⟩
  case round =>
    obtain ⟨j, hj, rfl, hC⟩ := hrel
    clear c1 c2 f1 f2 HI
    by_cases hlt : j < np
    · obtain ⟨m, rfl⟩ : ∃ m, gk = m + 1 := ⟨gk - 1, by omega⟩
      obtain ⟨pg, l2, t2, rfl, hg, d1, d2, hcl⟩ := HP.out _ _ hC hlt
      have HX := mkHid hcl
      have e1 : (0 : Int) ≤ (j : Int) := by omega
      have e2 : (j : Int) < (np : Int) := by omega
      clear hC hcl
      go_wp2_with fail
      refine HX.out.mono ?_
      rintro e w1 ⟨rfl, h1⟩
      go_wp2_with fail
      go_roundg m
      case measure => omega
      case rel => exact ⟨j + 1, by omega, by go_num, h1⟩
    · have hjn : j = np := by omega
      subst hjn
      obtain ⟨d1, d2, hcl⟩ := HB.out _ hC
      have HX := mkHid hcl
      clear hC hcl
      go_wp2_with fail
      refine HX.out.mono ?_
      rintro e w1 ⟨rfl, h1⟩
      have HEE := mkHid (HE.out _ h1)
      clear h1 d1
      go_wp2_with fail
      refine HEE.out.mono ?_
      rintro e w2 ⟨⟨k, rfl⟩, h2⟩
      have HGG := mkHid (HG.out _ h2)
      clear h2
      go_wp2_with fail
      refine HGG.out.mono ?_
      rintro e w3 ⟨⟨k2, rfl⟩, h3⟩
      obtain ⟨g1, x, n, c, g2, g3⟩ := HS.out _ h3
      have HF := mkHid g3
      clear h3 g3
      go_wp2_with fail
      go_ret
      exact ⟨_, rfl, HF.out⟩
end Go.Proofs.YtblbkfdhjfppkaaGreatDoor

/- Contracts of the program: compile: its walk. -/
namespace Go.Proofs.YtblbkfdhjfppkaaGreatDoor
open Go.RowKit
theorem infoFnp : (Tryz.prog.info? 188).map (fun i => (i.zero, i.size, i.bytes)) = some (some (.pointer none), 1, 8) := by kernel_rfl
set_option maxRecDepth 100000 in
set_option maxHeartbeats 4000000 in
theorem compile_walk (w : World) (g0 n cap : Nat) (P : Value → World → Prop) (I1 : Nat → World → Prop) (I2 : Nat → World → Prop) (hn : n ≤ 1000000)
    (H0 : Hid (I1 0 (w.alloc (.cells #[.slice none 0 0, .slice none 0 0, .pointer none] 276))))
    (H1 : Hid (∀ j W, I1 j W → j < n → w.heap.size < W.heap.size ∧ g0 < W.heap.size ∧ ∃ l t x1 n1 c1 x2 n2 c2 x c xs cv sp, W.cell? ⟨g0, j * 4, none⟩ = some (.int .i64 l) ∧ W.cell? ⟨g0, j * 4 + 1, none⟩ = some (.string t) ∧ W.cell? ⟨g0, j * 4 + 1 + 1, none⟩ = some (.slice x1 n1 c1) ∧ W.cell? ⟨g0, j * 4 + 1 + 1 + 1, none⟩ = some (.slice x2 n2 c2) ∧
      W.heap[w.heap.size]? = some (.cells #[.slice x j c, cv, sp] 276 (0, 0)) ∧ W.ownsRow (w.heap.size + 1) 188 1 (.slice x j c) j xs ∧
      ∀ W3 g4 cap4 w4, W3 = ((W.alloc (.cells #[.int .i64 l, .string t, .slice x1 n1 c1, .slice x2 n2 c2] 215)).alloc (.cells #[.string t, .slice none 0 0] 250)).alloc (.cells #[.pointer (some ⟨W.heap.size + 1, 0, none⟩)] 188) →
        w4.ownsRow (w.heap.size + 1) 188 1 (.slice (some ⟨g4, 0, none⟩) (j + 1) cap4) (j + 1) (xs ++ [.pointer (some ⟨W.heap.size + 1, 0, none⟩)]) → W3.grownBy w4 (Value.slice x j c).ownBlock → ((Value.slice x j c).ownBlock = some g4 ∨ g4 = W.heap.size + 3) → w4.heap[w.heap.size]? = some (.cells #[.slice x j c, cv, sp] 276 (0, 0)) → I1 (j + 1) (w4.setCell ⟨w.heap.size, 0, none⟩ (.slice (some ⟨g4, 0, none⟩) (j + 1) cap4))))
    (H12 : Hid (∀ W, I1 n W → I2 0 W))
    (H2 : Hid (∀ j W, I2 j W → j < n → w.heap.size < W.heap.size ∧ g0 < W.heap.size ∧ ∃ l t x1 n1 c1 x2 n2 c2 g c fb, W.cell? ⟨g0, j * 4, none⟩ = some (.int .i64 l) ∧ W.cell? ⟨g0, j * 4 + 1, none⟩ = some (.string t) ∧ W.cell? ⟨g0, j * 4 + 1 + 1, none⟩ = some (.slice x1 n1 c1) ∧ W.cell? ⟨g0, j * 4 + 1 + 1 + 1, none⟩ = some (.slice x2 n2 c2) ∧
      W.cell? ⟨w.heap.size, 0, none⟩ = some (.slice (some ⟨g, 0, none⟩) n c) ∧ g < W.heap.size ∧ W.cell? ⟨g, j, none⟩ = some (.pointer (some ⟨fb, 0, none⟩)) ∧
      ∀ W', SameH (W.alloc (.cells #[.int .i64 l, .string t, .slice x1 n1 c1, .slice x2 n2 c2] 215)) W' → Calls Tryz.prog 173 #[.pointer (some ⟨w.heap.size, 0, none⟩), .agg #[.int .i64 l, .string t, .slice x1 n1 c1, .slice x2 n2 c2]] W' fun e w' => ∃ x n3 c3, e = .returned (.slice x n3 c3) ∧
        w.heap.size < w'.heap.size ∧ (∃ g2 c2, w'.cell? ⟨w.heap.size, 0, none⟩ = some (.slice (some ⟨g2, 0, none⟩) n c2) ∧ g2 < w'.heap.size ∧ w'.cell? ⟨g2, j, none⟩ = some (.pointer (some ⟨fb, 0, none⟩))) ∧ g < w'.heap.size ∧ w'.cell? ⟨g, j, none⟩ = some (.pointer (some ⟨fb, 0, none⟩)) ∧ fb < w'.heap.size ∧ (∃ u, w'.cell? ⟨fb, 1, none⟩ = some u) ∧ w'.frozen? ⟨fb, 1, none⟩ = false ∧ I2 (j + 1) (w'.setCell ⟨fb, 1, none⟩ (.slice x n3 c3))))
    (H3 : Hid (∀ W, I2 n W → Calls Tryz.prog 174 #[.pointer (some ⟨w.heap.size, 0, none⟩), .string ⟨#[109, 97, 105, 110]⟩] W fun e w' => ∃ v, e = .returned (.pointer v) ∧ P (.pointer v) w')) :
    Calls Tryz.prog 123 #[.slice (some ⟨g0, 0, none⟩) n cap] w fun e w' => ∃ v, e = .returned v ∧ P v w' := by
  obtain ⟨i0, hi, hz0, hz1, hz2⟩ := info_parts infoFnp
  go_enter Tryz.func123, Tryz.ntmps123
  go_wp2_with fail
  go_loopg [5, 10] n (fun gk _ i wr => ∃ j : Nat, j + gk = n ∧ i = .int .i64 j ∧ I1 j wr)
  case atStart => exact ⟨0, by omega, rfl, H0.out⟩
  case round =>
    obtain ⟨j, hj, rfl, hC⟩ := hrel
    clear H0
    by_cases hlt : j < n
    · obtain ⟨m, rfl⟩ : ∃ m, gk = m + 1 := ⟨gk - 1, by omega⟩
      obtain ⟨hl0, hl1, l, t, x1, n1, c1, x2, n2, c2, x, c, xs, cv, sp, d1, d2, d3, d4, d5, d6, d7⟩ := H1.out _ _ hC hlt
      have HO := mkHid d6
      have HB := mkHid d5
      have HK := mkHid d7
      have q0 : wr.cell? ⟨w.heap.size, 0, none⟩ = some (.slice x j c) := cell_of_block d5 rfl
      have e1 : (0 : Int) ≤ (j : Int) := by omega
      have e2 : (j : Int) < (n : Int) := by omega
      clear hC d5 d6 d7 H1
      have HN : Hid (∀ W : World, W.heap[wr.heap.size + 1 + 1]? = some (.cells #[.pointer (some ⟨wr.heap.size + 1, 0, none⟩)] 188 (0, 0)) → ∀ k v, ([.pointer (some ⟨wr.heap.size + 1, 0, none⟩)] : List Value)[k]? = some v → W.cell? ((⟨wr.heap.size + 1 + 1, 0, none⟩ : Addr).add k) = some v) := fun W hW k v hk => World.news_of_block hW k v (by simpa using hk)
      have HL : Hid ((((wr.alloc (.cells #[.int .i64 l, .string t, .slice x1 n1 c1, .slice x2 n2 c2] 215)).alloc (.cells #[.string t, .slice none 0 0] 250)).alloc (.cells #[.pointer (some ⟨wr.heap.size + 1, 0, none⟩)] 188)).heap[wr.heap.size + 1 + 1]? = some (.cells #[.pointer (some ⟨wr.heap.size + 1, 0, none⟩)] 188 (0, 0))) := heap_first _ _ (by simp) _
      have hone : ∀ v ∈ ([.pointer (some ⟨wr.heap.size + 1, 0, none⟩)] : List Value), v.oneCell' = true := fun v hv => by simp at hv; rw [hv]; rfl
      have HONE := mkHid hone
      clear hone
      go_wp2_with (at_builtin; refine wpList_append_lies _ (by rfl) _ _ 274 (by rfl) (w.heap.size + 1) 188 i0 _ 1 8 Tryz.underlying274 hi hz0 hz1 hz2 rfl (by decide) (.slice x j c) j xs (by rfl) (((HO.out.alloc _).alloc _).alloc _) ⟨wr.heap.size + 1 + 1, 0, none⟩ 1 1 [_] (by rfl) (by rfl) (HN.out _ HL.out) HONE.out (by decide) (by unfold maxLen; omega) (by omega) (by simp; omega) (wr.heap.size + 3) (by simp) ?_)
      intro g4 cap4 w4 hown4 hgrow4 hat4 hg4
      have hne : some w.heap.size ≠ (Value.slice x j c).ownBlock := fun e => by have := (HO.out.lt _ e.symm).1; omega
      have hblk4 : w4.heap[w.heap.size]? = some (.cells #[.slice x j c, cv, sp] 276 (0, 0)) := by
        rw [hgrow4.block _ (by simp; omega) hne, Below.heap_alloc _ _ _ (by simp; omega), Below.heap_alloc _ _ _ (by simp; omega), Below.heap_alloc _ _ _ hl0]; exact HB.out
      have c0' : w4.cell? ⟨w.heap.size, 0, none⟩ = some (.slice x j c) := cell_of_block hblk4 rfl
      have f0' := frozen_of_block hblk4 (i := 0)
      have hgl4 := lt_of_block hblk4
      have HFIN := mkHid (HK.out _ g4 cap4 w4 rfl hown4 hgrow4 hat4 hblk4)
      clear hown4 hgrow4 hat4 hblk4 hg4 q0 d1 d2 d3 d4
      go_wp2_with fail
      go_roundg m
      case measure => omega
      case rel => exact ⟨j + 1, by omega, by go_num, HFIN.out⟩
    · have hjn : j = n := by omega
      subst hjn
      have HI2 := mkHid (H12.out _ hC)
      clear hC H12 H1
      go_wp2_with fail
      go_loopg [6, 7, 27] j (fun gk _ _ i wr => ∃ k : Nat, k + gk = j ∧ i = .int .i64 k ∧ I2 k wr)
      case atStart => exact ⟨0, by omega, rfl, HI2.out⟩
      case round =>
        obtain ⟨k, hj2, rfl, hC⟩ := hrel
        clear HI2
        by_cases hlt : k < j
        · obtain ⟨m, rfl⟩ : ∃ m, gk = m + 1 := ⟨gk - 1, by omega⟩
          obtain ⟨hl0, hl1, l, t, x1, n1, c1, x2, n2, c2, g, c, fb, d1, d2, d3, d4, d5, d6, d7, d8⟩ := H2.out _ _ hC hlt
          have HX := mkHid (d8 _ (SameH.drew _))
          have e1 : (0 : Int) ≤ (k : Int) := by omega
          have e2 : (k : Int) < (j : Int) := by omega
          clear hC d8 H2 H3
          go_wp2_with fail
          go_region_law (go_simp; go_at_call 173; refine HX.out.mono ?_; rintro e w1 ⟨x, n3, c3, rfl, a1, ⟨g2, c2', b1, b2, b3⟩, a3, a4, a5, ⟨u, a6⟩, a7, a8⟩; have HF := mkHid a8; clear a8)
          all_goals
            go_wp2_with fail
            go_roundg m
            case measure => omega
            case rel => exact ⟨k + 1, by omega, by go_num, HF.out⟩
        · have hkn : k = j := by omega
          subst hkn
          have HX := mkHid (H3.out _ hC)
          clear hC H2 H3
          go_wp2_with fail
          refine HX.out.mono ?_
          rintro e w1 ⟨v, rfl, h1⟩
          have HF := mkHid h1
          clear h1
          go_wp2_with fail
          go_ret
          exact ⟨_, rfl, HF.out⟩
end Go.Proofs.YtblbkfdhjfppkaaGreatDoor
