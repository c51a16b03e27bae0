/- Contracts of the document's answer, the first part: lines, characters. -/
import Derived.Test.YtblbkfdhjfppkaaGreatDoorProg
import Derived.Test.YtblbkfdhjfppkaaGreatDoorPart00
import Derived.WalkKit
import Derived.WalkSpells
import Derived.WalkLawsBesides
import Derived.Lib.Strings
import Derived.BigQuiet
import Derived.Deep.QuietTactic
import Derived.Deep.RegionWith
import Derived.RegionTactic
import Derived.BigRegion
import Derived.Deep.RegionHeld3
import Derived.Deep.AppendLies
import Derived.Deep.DrawnRows
import Derived.Deep.LoopGhost
import Derived.Laws.IdiomStrings
namespace Go.Proofs.YtblbkfdhjfppkaaGreatDoor
open Go.RowKit

theorem take_snoc (s : ByteArray) (k : Nat) (h : k < s.size) : s.data.toList.take (k + 1) = s.data.toList.take k ++ [s[k]] := by
  rw [List.take_succ_eq_append_getElem (by simpa using h)]; rfl
theorem ret_int {k : IntKind} {a b : Int} (h : a = b) : Ending.returned (.int k a) = .returned (.int k b) := by rw [h]
theorem ret_bool {a b : Bool} (h : a = b) : Ending.returned (.bool a) = .returned (.bool b) := by rw [h]
theorem u8_eq (c d : UInt8) : (c = d) ↔ ((c.toNat : Int) = (d.toNat : Int)) := by
  rw [← UInt8.toNat_inj]; omega

set_option maxHeartbeats 400000 in
theorem lineAt_any (s : ByteArray) (n : Nat) (w : World) (hs : s.size ≤ 2000000000) (hn : n ≤ s.size) :
    Calls Tryz.prog 81 #[.string s, .int .i64 n] w fun e w' => e = .returned (.int .i64 (Hs.lineOf (s.data.toList.take n))) ∧ w' = w := by
  go_enter Tryz.func81, Tryz.ntmps81
  go_wp2
  go_loop [5, 6] (fun t i => ∃ k : Nat, k ≤ n ∧ i = .int .i64 k ∧ t = .int .i64 (Hs.lineOf (s.data.toList.take k))) (fun _ i => n - (intOf i).toNat)
  case atStart => exact ⟨0, Nat.zero_le _, rfl, rfl⟩
  case round =>
    obtain ⟨k, hk, rfl, rfl⟩ := hrel
    have hl : Hs.lineOf (s.data.toList.take k) ≤ k + 1 := by
      have := Hs.lineOf_le (s.data.toList.take k); have := List.length_take_le k s.data.toList; omega
    by_cases hlt : k < n
    · have hks : k < s.size := by omega
      have HS : Hid (Hs.lineOf (s.data.toList.take (k + 1)) = Hs.lineOf (s.data.toList.take k) + if s[k] = 10 then 1 else 0) := by
        rw [take_snoc s k hks, Hs.lineOf_snoc]; rfl
      go_wp2
      · go_round
        case rel => exact ⟨k + 1, by omega, by go_num, by rw [HS.out, if_pos (by rw [u8_eq]; simpa using ‹(_ == (10 : Int)) = true›)]; go_num⟩
        case measure => simp [intOf]; omega
      · go_round
        case rel => exact ⟨k + 1, by omega, by go_num, by rw [HS.out, if_neg (by rw [u8_eq]; simpa using ‹(_ == (10 : Int)) = false›)]; go_num⟩
        case measure => simp [intOf]; omega
    · go_wp2
      go_ret
      exact ⟨ret_int (by rw [show k = n by omega]), rfl⟩

theorem byte_le (c : UInt8) : (c.toNat : Int) ≤ 255 := by have := c.toNat_lt; omega

/-- What stands at a place of a text. -/
theorem getElem?_toList (s : ByteArray) (k : Nat) (h : k < s.size) : s.data.toList[k]? = some s[k] := by
  simp [h]; rfl
theorem getElem?_drop (s : ByteArray) (n i : Nat) (h : n + i < s.size) : (s.data.toList.drop n)[i]? = some s[n + i] := by
  rw [List.getElem?_drop]; exact getElem?_toList s _ h
theorem getElem?_drop_none (s : ByteArray) (n i : Nat) (h : s.size ≤ n + i) : (s.data.toList.drop n)[i]? = none := by
  rw [List.getElem?_drop, List.getElem?_eq_none]; simpa using h
theorem inR_in (s : ByteArray) (n i lo hi : Nat) (h : n + i < s.size) : Hs.inR (s.data.toList.drop n) i lo hi = (decide (lo ≤ s[n + i].toNat) && decide (s[n + i].toNat ≤ hi)) := by
  unfold Hs.inR; rw [getElem?_drop s n i h]
theorem inR_out (s : ByteArray) (n i lo hi : Nat) (h : s.size ≤ n + i) : Hs.inR (s.data.toList.drop n) i lo hi = false := by
  unfold Hs.inR; rw [getElem?_drop_none s n i h]

theorem inR_nat (s : ByteArray) (k lo hi : Nat) (h : k < s.size) : Hs.inR s.data.toList k lo hi = (decide (lo ≤ s[k].toNat) && decide (s[k].toNat ≤ hi)) := by
  unfold Hs.inR; rw [getElem?_toList s k h]
theorem inR_nat_out (s : ByteArray) (k lo hi : Nat) (h : s.size ≤ k) : Hs.inR s.data.toList k lo hi = false := by
  unfold Hs.inR; rw [List.getElem?_eq_none (by simpa using h)]

set_option maxHeartbeats 400000 in
theorem within_in (s : ByteArray) (n lo hi : Nat) (w : World) (_hs : s.size ≤ 2000000000) (hn : n < s.size) :
    Calls Tryz.prog 191 #[.string s, .int .i64 n, .int .i64 lo, .int .i64 hi] w fun e w' => e = .returned (.bool (Hs.inR s.data.toList n lo hi)) ∧ w' = w := by
  have hb : (s[n].toNat : Int) ≤ 255 := byte_le s[n]
  have HS : Hid (Hs.inR s.data.toList n lo hi = (decide (lo ≤ s[n].toNat) && decide (s[n].toNat ≤ hi))) := inR_nat s n lo hi hn
  go_enter Tryz.func191, Tryz.ntmps191
  go_wp2
  all_goals
    go_ret
    exact ⟨ret_bool (by rw [HS.out]; simp [*]), rfl⟩

set_option maxHeartbeats 400000 in
theorem within_out (s : ByteArray) (n lo hi : Nat) (w : World) (_hs : s.size ≤ 2000000000) (hn : s.size ≤ n) :
    Calls Tryz.prog 191 #[.string s, .int .i64 n, .int .i64 lo, .int .i64 hi] w fun e w' => e = .returned (.bool (Hs.inR s.data.toList n lo hi)) ∧ w' = w := by
  have HS : Hid (Hs.inR s.data.toList n lo hi = false) := inR_nat_out s n lo hi hn
  go_enter Tryz.func191, Tryz.ntmps191
  go_wp2
  all_goals
    go_ret
    exact ⟨ret_bool (by rw [HS.out]), rfl⟩

theorem within_any (s : ByteArray) (a lo hi : Int) (w : World) (hs : s.size ≤ 2000000000) (h0 : 0 ≤ a) (h1 : 0 ≤ lo) (h2 : 0 ≤ hi) :
    Calls Tryz.prog 191 #[.string s, .int .i64 a, .int .i64 lo, .int .i64 hi] w fun e w' => e = .returned (.bool (Hs.inR s.data.toList a.toNat lo.toNat hi.toNat)) ∧ w' = w := by
  obtain ⟨n, rfl⟩ := Int.eq_ofNat_of_zero_le h0
  obtain ⟨l, rfl⟩ := Int.eq_ofNat_of_zero_le h1
  obtain ⟨h, rfl⟩ := Int.eq_ofNat_of_zero_le h2
  rw [Int.toNat_natCast, Int.toNat_natCast, Int.toNat_natCast]
  by_cases hn : n < s.size
  · exact within_in s n l h w hs hn
  · exact within_out s n l h w hs (by omega)


end Go.Proofs.YtblbkfdhjfppkaaGreatDoor

/- Contracts of the document's answer: a character. -/
namespace Go.Proofs.YtblbkfdhjfppkaaGreatDoor
open Go.RowKit

/-- What holds of the second byte and of those behind it, up to a place. -/
def okTo (l : List UInt8) (n lo hi k : Nat) : Bool := Hs.inR l (n + 1) lo hi && (List.range (k - 2)).all fun j => Hs.inR l (n + (j + 2)) 128 191
theorem okTo_two (l : List UInt8) (n lo hi : Nat) : okTo l n lo hi 2 = Hs.inR l (n + 1) lo hi := by simp [okTo]
theorem okTo_succ (l : List UInt8) (n lo hi k : Nat) (h : 2 ≤ k) : okTo l n lo hi (k + 1) = (okTo l n lo hi k && Hs.inR l (n + k) 128 191) := by
  obtain ⟨j, rfl⟩ : ∃ j, k = j + 2 := ⟨k - 2, by omega⟩
  unfold okTo
  rw [show j + 2 + 1 - 2 = j + 1 by omega, show j + 2 - 2 = j by omega, List.range_succ]
  simp [Bool.and_assoc]

set_option maxRecDepth 100000 in
set_option maxHeartbeats 400000 in
theorem char_B (s : ByteArray) (n : Nat) (w : World) (hs : s.size ≤ 2000000000) (hn : n < s.size) (hc : 194 ≤ s[n].toNat) (hd : s[n].toNat ≤ 223) :
    Calls Tryz.prog 138 #[.string s, .int .i64 n] w fun e w' => e = .returned (.int .i64 (if okTo s.data.toList n 128 191 2 then 2 else 0)) ∧ w' = w := by
  have hb : (s[n].toNat : Int) ≤ 255 := byte_le s[n]
  go_enter Tryz.func138, Tryz.ntmps138
  go_wp2_with (go_at_call 191; refine (within_any _ _ _ _ _ hs (by omega) (by decide) (by decide)).mono ?_; rintro e w' ⟨rfl, rfl⟩)
  go_loop [9, 10] (fun ok i => ∃ k : Nat, 2 ≤ k ∧ k ≤ 2 ∧ i = .int .i64 k ∧ ok = .bool (okTo s.data.toList n 128 191 k)) (fun _ i => 5 - (intOf i).toNat)
  case atStart => exact ⟨2, by omega, by omega, rfl, by rw [okTo_two]⟩
  case round =>
    obtain ⟨k, hk, hk2, rfl, rfl⟩ := hrel
    by_cases hlt : k < 2
    · have HS : Hid (okTo s.data.toList n 128 191 (k + 1) = (okTo s.data.toList n 128 191 k && Hs.inR s.data.toList (n + k) 128 191)) := okTo_succ _ _ _ _ _ hk
      go_wp2_with (go_at_call 191; refine (within_any _ _ _ _ _ hs (by omega) (by decide) (by decide)).mono ?_; rintro e w' ⟨rfl, rfl⟩)
      all_goals
        go_round
        case rel => exact ⟨k + 1, by omega, by omega, by go_num, by rw [HS.out]; simp [*]⟩
        case measure => simp [intOf]; omega
    · obtain rfl : k = 2 := by omega
      cases hok : okTo s.data.toList n 128 191 2
      all_goals
        go_wp2_with fail
        go_ret
        exact ⟨by simp, rfl⟩

set_option maxRecDepth 100000 in
set_option maxHeartbeats 400000 in
theorem char_C (s : ByteArray) (n : Nat) (w : World) (hs : s.size ≤ 2000000000) (hn : n < s.size) (hc : s[n].toNat = 224) :
    Calls Tryz.prog 138 #[.string s, .int .i64 n] w fun e w' => e = .returned (.int .i64 (if okTo s.data.toList n 160 191 3 then 3 else 0)) ∧ w' = w := by
  have hb : (s[n].toNat : Int) ≤ 255 := byte_le s[n]
  have hE : (s[n].toNat : Int) = 224 := by omega
  clear hc
  go_enter Tryz.func138, Tryz.ntmps138
  go_wp2_with (go_at_call 191; refine (within_any _ _ _ _ _ hs (by omega) (by decide) (by decide)).mono ?_; rintro e w' ⟨rfl, rfl⟩)
  go_loop [9, 10] (fun ok i => ∃ k : Nat, 2 ≤ k ∧ k ≤ 3 ∧ i = .int .i64 k ∧ ok = .bool (okTo s.data.toList n 160 191 k)) (fun _ i => 5 - (intOf i).toNat)
  case atStart => exact ⟨2, by omega, by omega, rfl, by rw [okTo_two]⟩
  case round =>
    obtain ⟨k, hk, hk2, rfl, rfl⟩ := hrel
    by_cases hlt : k < 3
    · have HS : Hid (okTo s.data.toList n 160 191 (k + 1) = (okTo s.data.toList n 160 191 k && Hs.inR s.data.toList (n + k) 128 191)) := okTo_succ _ _ _ _ _ hk
      go_wp2_with (go_at_call 191; refine (within_any _ _ _ _ _ hs (by omega) (by decide) (by decide)).mono ?_; rintro e w' ⟨rfl, rfl⟩)
      all_goals
        go_round
        case rel => exact ⟨k + 1, by omega, by omega, by go_num, by rw [HS.out]; simp [*]⟩
        case measure => simp [intOf]; omega
    · obtain rfl : k = 3 := by omega
      cases hok : okTo s.data.toList n 160 191 3
      all_goals
        go_wp2_with fail
        go_ret
        exact ⟨by simp, rfl⟩

set_option maxRecDepth 100000 in
set_option maxHeartbeats 400000 in
theorem char_D (s : ByteArray) (n : Nat) (w : World) (hs : s.size ≤ 2000000000) (hn : n < s.size) (hc : s[n].toNat = 237) :
    Calls Tryz.prog 138 #[.string s, .int .i64 n] w fun e w' => e = .returned (.int .i64 (if okTo s.data.toList n 128 159 3 then 3 else 0)) ∧ w' = w := by
  have hb : (s[n].toNat : Int) ≤ 255 := byte_le s[n]
  have hE : (s[n].toNat : Int) = 237 := by omega
  clear hc
  go_enter Tryz.func138, Tryz.ntmps138
  go_wp2_with (go_at_call 191; refine (within_any _ _ _ _ _ hs (by omega) (by decide) (by decide)).mono ?_; rintro e w' ⟨rfl, rfl⟩)
  go_loop [9, 10] (fun ok i => ∃ k : Nat, 2 ≤ k ∧ k ≤ 3 ∧ i = .int .i64 k ∧ ok = .bool (okTo s.data.toList n 128 159 k)) (fun _ i => 5 - (intOf i).toNat)
  case atStart => exact ⟨2, by omega, by omega, rfl, by rw [okTo_two]⟩
  case round =>
    obtain ⟨k, hk, hk2, rfl, rfl⟩ := hrel
    by_cases hlt : k < 3
    · have HS : Hid (okTo s.data.toList n 128 159 (k + 1) = (okTo s.data.toList n 128 159 k && Hs.inR s.data.toList (n + k) 128 191)) := okTo_succ _ _ _ _ _ hk
      go_wp2_with (go_at_call 191; refine (within_any _ _ _ _ _ hs (by omega) (by decide) (by decide)).mono ?_; rintro e w' ⟨rfl, rfl⟩)
      all_goals
        go_round
        case rel => exact ⟨k + 1, by omega, by omega, by go_num, by rw [HS.out]; simp [*]⟩
        case measure => simp [intOf]; omega
    · obtain rfl : k = 3 := by omega
      cases hok : okTo s.data.toList n 128 159 3
      all_goals
        go_wp2_with fail
        go_ret
        exact ⟨by simp, rfl⟩

set_option maxRecDepth 100000 in
set_option maxHeartbeats 400000 in
theorem char_E (s : ByteArray) (n : Nat) (w : World) (hs : s.size ≤ 2000000000) (hn : n < s.size) (hc : 224 < s[n].toNat) (hd : s[n].toNat ≤ 239) (he : s[n].toNat ≠ 237) :
    Calls Tryz.prog 138 #[.string s, .int .i64 n] w fun e w' => e = .returned (.int .i64 (if okTo s.data.toList n 128 191 3 then 3 else 0)) ∧ w' = w := by
  have hb : (s[n].toNat : Int) ≤ 255 := byte_le s[n]
  go_enter Tryz.func138, Tryz.ntmps138
  go_wp2_with (go_at_call 191; refine (within_any _ _ _ _ _ hs (by omega) (by decide) (by decide)).mono ?_; rintro e w' ⟨rfl, rfl⟩)
  go_loop [9, 10] (fun ok i => ∃ k : Nat, 2 ≤ k ∧ k ≤ 3 ∧ i = .int .i64 k ∧ ok = .bool (okTo s.data.toList n 128 191 k)) (fun _ i => 5 - (intOf i).toNat)
  case atStart => exact ⟨2, by omega, by omega, rfl, by rw [okTo_two]⟩
  case round =>
    obtain ⟨k, hk, hk2, rfl, rfl⟩ := hrel
    by_cases hlt : k < 3
    · have HS : Hid (okTo s.data.toList n 128 191 (k + 1) = (okTo s.data.toList n 128 191 k && Hs.inR s.data.toList (n + k) 128 191)) := okTo_succ _ _ _ _ _ hk
      go_wp2_with (go_at_call 191; refine (within_any _ _ _ _ _ hs (by omega) (by decide) (by decide)).mono ?_; rintro e w' ⟨rfl, rfl⟩)
      all_goals
        go_round
        case rel => exact ⟨k + 1, by omega, by omega, by go_num, by rw [HS.out]; simp [*]⟩
        case measure => simp [intOf]; omega
    · obtain rfl : k = 3 := by omega
      cases hok : okTo s.data.toList n 128 191 3
      all_goals
        go_wp2_with fail
        go_ret
        exact ⟨by simp, rfl⟩

set_option maxRecDepth 100000 in
set_option maxHeartbeats 400000 in
theorem char_F (s : ByteArray) (n : Nat) (w : World) (hs : s.size ≤ 2000000000) (hn : n < s.size) (hc : s[n].toNat = 240) :
    Calls Tryz.prog 138 #[.string s, .int .i64 n] w fun e w' => e = .returned (.int .i64 (if okTo s.data.toList n 144 191 4 then 4 else 0)) ∧ w' = w := by
  have hb : (s[n].toNat : Int) ≤ 255 := byte_le s[n]
  have hE : (s[n].toNat : Int) = 240 := by omega
  clear hc
  go_enter Tryz.func138, Tryz.ntmps138
  go_wp2_with (go_at_call 191; refine (within_any _ _ _ _ _ hs (by omega) (by decide) (by decide)).mono ?_; rintro e w' ⟨rfl, rfl⟩)
  go_loop [9, 10] (fun ok i => ∃ k : Nat, 2 ≤ k ∧ k ≤ 4 ∧ i = .int .i64 k ∧ ok = .bool (okTo s.data.toList n 144 191 k)) (fun _ i => 5 - (intOf i).toNat)
  case atStart => exact ⟨2, by omega, by omega, rfl, by rw [okTo_two]⟩
  case round =>
    obtain ⟨k, hk, hk2, rfl, rfl⟩ := hrel
    by_cases hlt : k < 4
    · have HS : Hid (okTo s.data.toList n 144 191 (k + 1) = (okTo s.data.toList n 144 191 k && Hs.inR s.data.toList (n + k) 128 191)) := okTo_succ _ _ _ _ _ hk
      go_wp2_with (go_at_call 191; refine (within_any _ _ _ _ _ hs (by omega) (by decide) (by decide)).mono ?_; rintro e w' ⟨rfl, rfl⟩)
      all_goals
        go_round
        case rel => exact ⟨k + 1, by omega, by omega, by go_num, by rw [HS.out]; simp [*]⟩
        case measure => simp [intOf]; omega
    · obtain rfl : k = 4 := by omega
      cases hok : okTo s.data.toList n 144 191 4
      all_goals
        go_wp2_with fail
        go_ret
        exact ⟨by simp, rfl⟩

set_option maxRecDepth 100000 in
set_option maxHeartbeats 400000 in
theorem char_G (s : ByteArray) (n : Nat) (w : World) (hs : s.size ≤ 2000000000) (hn : n < s.size) (hc : s[n].toNat = 244) :
    Calls Tryz.prog 138 #[.string s, .int .i64 n] w fun e w' => e = .returned (.int .i64 (if okTo s.data.toList n 128 143 4 then 4 else 0)) ∧ w' = w := by
  have hb : (s[n].toNat : Int) ≤ 255 := byte_le s[n]
  have hE : (s[n].toNat : Int) = 244 := by omega
  clear hc
  go_enter Tryz.func138, Tryz.ntmps138
  go_wp2_with (go_at_call 191; refine (within_any _ _ _ _ _ hs (by omega) (by decide) (by decide)).mono ?_; rintro e w' ⟨rfl, rfl⟩)
  go_loop [9, 10] (fun ok i => ∃ k : Nat, 2 ≤ k ∧ k ≤ 4 ∧ i = .int .i64 k ∧ ok = .bool (okTo s.data.toList n 128 143 k)) (fun _ i => 5 - (intOf i).toNat)
  case atStart => exact ⟨2, by omega, by omega, rfl, by rw [okTo_two]⟩
  case round =>
    obtain ⟨k, hk, hk2, rfl, rfl⟩ := hrel
    by_cases hlt : k < 4
    · have HS : Hid (okTo s.data.toList n 128 143 (k + 1) = (okTo s.data.toList n 128 143 k && Hs.inR s.data.toList (n + k) 128 191)) := okTo_succ _ _ _ _ _ hk
      go_wp2_with (go_at_call 191; refine (within_any _ _ _ _ _ hs (by omega) (by decide) (by decide)).mono ?_; rintro e w' ⟨rfl, rfl⟩)
      all_goals
        go_round
        case rel => exact ⟨k + 1, by omega, by omega, by go_num, by rw [HS.out]; simp [*]⟩
        case measure => simp [intOf]; omega
    · obtain rfl : k = 4 := by omega
      cases hok : okTo s.data.toList n 128 143 4
      all_goals
        go_wp2_with fail
        go_ret
        exact ⟨by simp, rfl⟩

set_option maxRecDepth 100000 in
set_option maxHeartbeats 400000 in
theorem char_H (s : ByteArray) (n : Nat) (w : World) (hs : s.size ≤ 2000000000) (hn : n < s.size) (hc : 240 < s[n].toNat) (hd : s[n].toNat < 244) :
    Calls Tryz.prog 138 #[.string s, .int .i64 n] w fun e w' => e = .returned (.int .i64 (if okTo s.data.toList n 128 191 4 then 4 else 0)) ∧ w' = w := by
  have hb : (s[n].toNat : Int) ≤ 255 := byte_le s[n]
  go_enter Tryz.func138, Tryz.ntmps138
  go_wp2_with (go_at_call 191; refine (within_any _ _ _ _ _ hs (by omega) (by decide) (by decide)).mono ?_; rintro e w' ⟨rfl, rfl⟩)
  go_loop [9, 10] (fun ok i => ∃ k : Nat, 2 ≤ k ∧ k ≤ 4 ∧ i = .int .i64 k ∧ ok = .bool (okTo s.data.toList n 128 191 k)) (fun _ i => 5 - (intOf i).toNat)
  case atStart => exact ⟨2, by omega, by omega, rfl, by rw [okTo_two]⟩
  case round =>
    obtain ⟨k, hk, hk2, rfl, rfl⟩ := hrel
    by_cases hlt : k < 4
    · have HS : Hid (okTo s.data.toList n 128 191 (k + 1) = (okTo s.data.toList n 128 191 k && Hs.inR s.data.toList (n + k) 128 191)) := okTo_succ _ _ _ _ _ hk
      go_wp2_with (go_at_call 191; refine (within_any _ _ _ _ _ hs (by omega) (by decide) (by decide)).mono ?_; rintro e w' ⟨rfl, rfl⟩)
      all_goals
        go_round
        case rel => exact ⟨k + 1, by omega, by omega, by go_num, by rw [HS.out]; simp [*]⟩
        case measure => simp [intOf]; omega
    · obtain rfl : k = 4 := by omega
      cases hok : okTo s.data.toList n 128 191 4
      all_goals
        go_wp2_with fail
        go_ret
        exact ⟨by simp, rfl⟩

set_option maxRecDepth 100000 in
set_option maxHeartbeats 400000 in
theorem char_I (s : ByteArray) (n : Nat) (w : World) (hs : s.size ≤ 2000000000) (hn : n < s.size) (hc : 128 ≤ s[n].toNat) (hd : s[n].toNat < 194) :
    Calls Tryz.prog 138 #[.string s, .int .i64 n] w fun e w' => e = .returned (.int .i64 (if okTo s.data.toList n 128 191 2 then 0 else 0)) ∧ w' = w := by
  have hb : (s[n].toNat : Int) ≤ 255 := byte_le s[n]
  go_enter Tryz.func138, Tryz.ntmps138
  go_wp2_with (go_at_call 191; refine (within_any _ _ _ _ _ hs (by omega) (by decide) (by decide)).mono ?_; rintro e w' ⟨rfl, rfl⟩)
  go_loop [9, 10] (fun ok i => ∃ k : Nat, 2 ≤ k ∧ k ≤ 2 ∧ i = .int .i64 k ∧ ok = .bool (okTo s.data.toList n 128 191 k)) (fun _ i => 5 - (intOf i).toNat)
  case atStart => exact ⟨2, by omega, by omega, rfl, by rw [okTo_two]⟩
  case round =>
    obtain ⟨k, hk, hk2, rfl, rfl⟩ := hrel
    by_cases hlt : k < 0
    · have HS : Hid (okTo s.data.toList n 128 191 (k + 1) = (okTo s.data.toList n 128 191 k && Hs.inR s.data.toList (n + k) 128 191)) := okTo_succ _ _ _ _ _ hk
      go_wp2_with (go_at_call 191; refine (within_any _ _ _ _ _ hs (by omega) (by decide) (by decide)).mono ?_; rintro e w' ⟨rfl, rfl⟩)
      all_goals
        go_round
        case rel => exact ⟨k + 1, by omega, by omega, by go_num, by rw [HS.out]; simp [*]⟩
        case measure => simp [intOf]; omega
    · obtain rfl : k = 2 := by omega
      cases hok : okTo s.data.toList n 128 191 2
      all_goals
        go_wp2_with fail
        go_ret
        exact ⟨by simp, rfl⟩

set_option maxRecDepth 100000 in
set_option maxHeartbeats 400000 in
theorem char_J (s : ByteArray) (n : Nat) (w : World) (hs : s.size ≤ 2000000000) (hn : n < s.size) (hc : 244 < s[n].toNat) :
    Calls Tryz.prog 138 #[.string s, .int .i64 n] w fun e w' => e = .returned (.int .i64 (if okTo s.data.toList n 128 191 2 then 0 else 0)) ∧ w' = w := by
  have hb : (s[n].toNat : Int) ≤ 255 := byte_le s[n]
  go_enter Tryz.func138, Tryz.ntmps138
  go_wp2_with (go_at_call 191; refine (within_any _ _ _ _ _ hs (by omega) (by decide) (by decide)).mono ?_; rintro e w' ⟨rfl, rfl⟩)
  go_loop [9, 10] (fun ok i => ∃ k : Nat, 2 ≤ k ∧ k ≤ 2 ∧ i = .int .i64 k ∧ ok = .bool (okTo s.data.toList n 128 191 k)) (fun _ i => 5 - (intOf i).toNat)
  case atStart => exact ⟨2, by omega, by omega, rfl, by rw [okTo_two]⟩
  case round =>
    obtain ⟨k, hk, hk2, rfl, rfl⟩ := hrel
    by_cases hlt : k < 0
    · have HS : Hid (okTo s.data.toList n 128 191 (k + 1) = (okTo s.data.toList n 128 191 k && Hs.inR s.data.toList (n + k) 128 191)) := okTo_succ _ _ _ _ _ hk
      go_wp2_with (go_at_call 191; refine (within_any _ _ _ _ _ hs (by omega) (by decide) (by decide)).mono ?_; rintro e w' ⟨rfl, rfl⟩)
      all_goals
        go_round
        case rel => exact ⟨k + 1, by omega, by omega, by go_num, by rw [HS.out]; simp [*]⟩
        case measure => simp [intOf]; omega
    · obtain rfl : k = 2 := by omega
      cases hok : okTo s.data.toList n 128 191 2
      all_goals
        go_wp2_with fail
        go_ret
        exact ⟨by simp, rfl⟩

set_option maxRecDepth 100000 in
set_option maxHeartbeats 400000 in
theorem char_A (s : ByteArray) (n : Nat) (w : World) (_hs : s.size ≤ 2000000000) (hn : n < s.size) (hc : s[n].toNat < 128) :
    Calls Tryz.prog 138 #[.string s, .int .i64 n] w fun e w' => e = .returned (.int .i64 1) ∧ w' = w := by
  have hb : (s[n].toNat : Int) ≤ 255 := byte_le s[n]
  go_enter Tryz.func138, Tryz.ntmps138
  go_wp2_with fail
  go_ret
  exact ⟨rfl, rfl⟩

theorem inR_drop (l : List UInt8) (n i lo hi : Nat) : Hs.inR (l.drop n) i lo hi = Hs.inR l (n + i) lo hi := by
  unfold Hs.inR; rw [List.getElem?_drop]
theorem okTo_three (l : List UInt8) (n lo hi : Nat) : okTo l n lo hi 3 = (Hs.inR l (n + 1) lo hi && Hs.inR l (n + 2) 128 191) := by
  rw [okTo_succ _ _ _ _ _ (Nat.le_refl 2), okTo_two]
theorem okTo_four (l : List UInt8) (n lo hi : Nat) : okTo l n lo hi 4 = (Hs.inR l (n + 1) lo hi && Hs.inR l (n + 2) 128 191 && Hs.inR l (n + 3) 128 191) := by
  rw [okTo_succ _ _ _ _ _ (by omega : 2 ≤ 3), okTo_three]

theorem charL_at (s : ByteArray) (n : Nat) (hn : n < s.size) (r : Nat)
    (h : (if s[n].toNat < 128 then 1
    else if 194 ≤ s[n].toNat ∧ s[n].toNat ≤ 223 then if Hs.inR s.data.toList (n + 1) 128 191 then 2 else 0
    else if 224 ≤ s[n].toNat ∧ s[n].toNat ≤ 239 then
      if Hs.inR s.data.toList (n + 1) (if s[n].toNat = 224 then 160 else 128) (if s[n].toNat = 237 then 159 else 191) && Hs.inR s.data.toList (n + 2) 128 191 then 3 else 0
    else if 240 ≤ s[n].toNat ∧ s[n].toNat ≤ 244 then
      if Hs.inR s.data.toList (n + 1) (if s[n].toNat = 240 then 144 else 128) (if s[n].toNat = 244 then 143 else 191) && Hs.inR s.data.toList (n + 2) 128 191 && Hs.inR s.data.toList (n + 3) 128 191 then 4 else 0
    else 0) = r) : Hs.charL (s.data.toList.drop n) = r := by
  unfold Hs.charL
  rw [getElem?_drop s n 0 hn]
  simp only [inR_drop, Nat.add_zero]
  exact h

theorem char_any (s : ByteArray) (n : Nat) (w : World) (hs : s.size ≤ 2000000000) (hn : n < s.size) :
    Calls Tryz.prog 138 #[.string s, .int .i64 n] w fun e w' => e = .returned (.int .i64 (Hs.charL (s.data.toList.drop n))) ∧ w' = w := by
  by_cases h1 : s[n].toNat < 128
  · rw [charL_at s n hn 1 (by rw [if_pos h1])]; exact char_A s n w hs hn h1
  by_cases h2 : 194 ≤ s[n].toNat ∧ s[n].toNat ≤ 223
  · rw [charL_at s n hn (if okTo s.data.toList n 128 191 2 then 2 else 0) (by rw [if_neg h1, if_pos h2, okTo_two])]
    have := char_B s n w hs hn h2.1 h2.2
    split at this <;> simp_all
  by_cases h3 : 224 ≤ s[n].toNat ∧ s[n].toNat ≤ 239
  · by_cases h4 : s[n].toNat = 224
    · rw [charL_at s n hn (if okTo s.data.toList n 160 191 3 then 3 else 0) (by rw [if_neg h1, if_neg h2, if_pos h3, if_pos h4, if_neg (show ¬ s[n].toNat = 237 by omega), okTo_three])]
      have := char_C s n w hs hn h4
      split at this <;> simp_all
    by_cases h5 : s[n].toNat = 237
    · rw [charL_at s n hn (if okTo s.data.toList n 128 159 3 then 3 else 0) (by rw [if_neg h1, if_neg h2, if_pos h3, if_neg h4, if_pos h5, okTo_three])]
      have := char_D s n w hs hn h5
      split at this <;> simp_all
    rw [charL_at s n hn (if okTo s.data.toList n 128 191 3 then 3 else 0) (by rw [if_neg h1, if_neg h2, if_pos h3, if_neg h4, if_neg h5, okTo_three])]
    have := char_E s n w hs hn (by omega) h3.2 h5
    split at this <;> simp_all
  by_cases h6 : 240 ≤ s[n].toNat ∧ s[n].toNat ≤ 244
  · by_cases h7 : s[n].toNat = 240
    · rw [charL_at s n hn (if okTo s.data.toList n 144 191 4 then 4 else 0) (by rw [if_neg h1, if_neg h2, if_neg h3, if_pos h6, if_pos h7, if_neg (show ¬ s[n].toNat = 244 by omega), okTo_four])]
      have := char_F s n w hs hn h7
      split at this <;> simp_all
    by_cases h8 : s[n].toNat = 244
    · rw [charL_at s n hn (if okTo s.data.toList n 128 143 4 then 4 else 0) (by rw [if_neg h1, if_neg h2, if_neg h3, if_pos h6, if_neg h7, if_pos h8, okTo_four])]
      have := char_G s n w hs hn h8
      split at this <;> simp_all
    rw [charL_at s n hn (if okTo s.data.toList n 128 191 4 then 4 else 0) (by rw [if_neg h1, if_neg h2, if_neg h3, if_pos h6, if_neg h7, if_neg h8, okTo_four])]
    have := char_H s n w hs hn (by omega) (by omega)
    split at this <;> simp_all
  rw [charL_at s n hn 0 (by rw [if_neg h1, if_neg h2, if_neg h3, if_neg h6])]
  by_cases h9 : s[n].toNat < 194
  · have := char_I s n w hs hn (by omega) h9
    split at this <;> simp_all
  · have := char_J s n w hs hn (by omega)
    split at this <;> simp_all

end Go.Proofs.YtblbkfdhjfppkaaGreatDoor

/- Contracts of the document's answer: the first byte that is no part of a character; blanks; beginnings. -/
namespace Go.Proofs.YtblbkfdhjfppkaaGreatDoor
open Go.RowKit

theorem charL_le (l : List UInt8) : Hs.charL l ≤ 4 := by
  unfold Hs.charL; split <;> (try omega)
  repeat' split
  all_goals omega
theorem inR_lt {l : List UInt8} {i lo hi : Nat} (h : Hs.inR l i lo hi = true) : i < l.length := by
  unfold Hs.inR at h
  by_cases hi' : i < l.length
  · exact hi'
  · rw [List.getElem?_eq_none (by omega)] at h; cases h
theorem charL_len (l : List UInt8) : Hs.charL l ≤ l.length := by
  unfold Hs.charL
  split
  · omega
  · rename_i b hb
    have h0 : 0 < l.length := by
      by_cases h : 0 < l.length
      · exact h
      · rw [List.getElem?_eq_none (by omega)] at hb; cases hb
    repeat' split
    all_goals first
      | omega
      | (have := inR_lt ‹Hs.inR l 1 _ _ = true›; omega)
      | (have h := ‹(Hs.inR l 1 _ _ && Hs.inR l 2 _ _) = true›
         simp only [Bool.and_eq_true] at h
         have := inR_lt h.2; omega)
      | (have h := ‹(Hs.inR l 1 _ _ && Hs.inR l 2 _ _ && Hs.inR l 3 _ _) = true›
         simp only [Bool.and_eq_true] at h
         have := inR_lt h.2; omega)

/-- Where the first byte stands that is no part of a character, as Go's number. -/
def placeI : Option Nat → Int
  | some k => k
  | none => -1

theorem spoilAt_step (l : List UInt8) (p f : Nat) (h : 0 < l.length) (hc : Hs.charL l ≠ 0) : Hs.spoilAt (f + 1) l p = Hs.spoilAt f (l.drop (Hs.charL l)) (p + Hs.charL l) := by
  rw [Hs.spoilAt, if_neg (by omega), if_neg hc]
theorem spoilAt_hit (l : List UInt8) (p f : Nat) (h : 0 < l.length) (hc : Hs.charL l = 0) : Hs.spoilAt (f + 1) l p = some p := by
  rw [Hs.spoilAt, if_neg (by omega), if_pos hc]
theorem spoilAt_nil (l : List UInt8) (p f : Nat) (h : l.length = 0) : Hs.spoilAt f l p = none := by
  cases f with
  | zero => rfl
  | succ f => rw [Hs.spoilAt, if_pos h]

set_option maxHeartbeats 400000 in
theorem spoilt_any (s : ByteArray) (w : World) (hs : s.size ≤ 2000000000) :
    Calls Tryz.prog 80 #[.string s] w fun e w' => e = .returned (.int .i64 (placeI (Hs.spoilAt s.size s.data.toList 0))) ∧ w' = w := by
  have hlen : s.data.toList.length = s.size := by simp
  go_enter Tryz.func80, Tryz.ntmps80
  go_wp2
  go_loop [3] (fun i => ∃ k f : Nat, k ≤ s.size ∧ s.size ≤ k + f ∧ i = .int .i64 k ∧ Hid (Hs.spoilAt s.size s.data.toList 0 = Hs.spoilAt f (s.data.toList.drop k) k)) (fun i => s.size - (intOf i).toNat)
  case atStart => exact ⟨0, s.size, Nat.zero_le _, by omega, rfl, rfl⟩
  case round =>
    obtain ⟨k, f, hk, hf, rfl, HS⟩ := hrel
    by_cases hlt : k < s.size
    · have hd : (s.data.toList.drop k).length = s.size - k := by simp
      have hcl := charL_len (s.data.toList.drop k)
      obtain ⟨f, rfl⟩ : ∃ f', f = f' + 1 := ⟨f - 1, by omega⟩
      by_cases hc : Hs.charL (s.data.toList.drop k) = 0
      · have hx := spoilAt_hit _ k f (by omega) hc
        have HX : Hid (Hs.spoilAt s.size s.data.toList 0 = some k) := by rw [HS.out, hx]; rfl
        clear hx HS
        go_wp2_with (go_at_call 138; refine (char_any s k _ hs hlt).mono ?_; rintro e w' ⟨rfl, rfl⟩)
        go_ret
        exact ⟨ret_int (by rw [HX.out]; rfl), rfl⟩
      · have hx := spoilAt_step _ k f (by omega) hc
        have HX : Hid (Hs.spoilAt s.size s.data.toList 0 = Hs.spoilAt f (s.data.toList.drop (k + Hs.charL (s.data.toList.drop k))) (k + Hs.charL (s.data.toList.drop k))) := by
          rw [HS.out, hx, List.drop_drop]; rfl
        clear hx HS
        rw [hd] at hcl
        clear hd
        generalize hC : Hs.charL (s.data.toList.drop k) = c at *
        have HC : Hid (Hs.charL (s.data.toList.drop k) = c) := hC
        clear hC
        have hc0 : ((c : Int) == 0) = false := by simp; omega
        go_wp2_with (go_at_call 138; refine (char_any s k _ hs hlt).mono ?_; rw [HC.out]; rintro e w' ⟨rfl, rfl⟩)
        go_round
        case rel => exact ⟨k + c, f, by omega, by omega, by go_num, HX⟩
        case measure => simp [intOf]; omega
    · go_wp2_with fail
      go_ret
      exact ⟨ret_int (by rw [HS.out, spoilAt_nil _ _ _ (by simp; omega)]; rfl), rfl⟩

end Go.Proofs.YtblbkfdhjfppkaaGreatDoor

/- Contracts of the document's answer: digits, letters, beginnings, blanks. -/
namespace Go.Proofs.YtblbkfdhjfppkaaGreatDoor
open Go.RowKit

set_option maxHeartbeats 400000 in
theorem digit_any (c : UInt8) (w : World) :
    Calls Tryz.prog 193 #[.int .u8 c.toNat] w fun e w' => e = .returned (.bool (Hs.digitB c)) ∧ w' = w := by
  have hb : (c.toNat : Int) ≤ 255 := byte_le c
  have HS : Hid (Hs.digitB c = (decide (48 ≤ c.toNat) && decide (c.toNat ≤ 57))) := rfl
  go_enter Tryz.func193, Tryz.ntmps193
  go_wp2
  all_goals
    go_ret
    exact ⟨ret_bool (by rw [HS.out, Bool.eq_iff_iff]; constructor <;> intro h <;> (try simp at h) <;> (try simp) <;> omega), rfl⟩

set_option maxHeartbeats 400000 in
theorem letter_any (c : UInt8) (w : World) :
    Calls Tryz.prog 194 #[.int .u8 c.toNat] w fun e w' => e = .returned (.bool (Hs.letterB c)) ∧ w' = w := by
  have hb : (c.toNat : Int) ≤ 255 := byte_le c
  have HS : Hid (Hs.letterB c = (c.toNat == 95 || (decide (97 ≤ c.toNat) && decide (c.toNat ≤ 122) || decide (65 ≤ c.toNat) && decide (c.toNat ≤ 90)))) := rfl
  go_enter Tryz.func194, Tryz.ntmps194
  go_wp2
  all_goals
    go_ret
    exact ⟨ret_bool (by rw [HS.out, Bool.eq_iff_iff]; constructor <;> intro h <;> (try simp at h) <;> (try simp) <;> omega), rfl⟩

theorem isPrefixOf_take (x l : List UInt8) (h : x.length ≤ l.length) : x.isPrefixOf l = (l.take x.length == x) := by
  induction x generalizing l with
  | nil => simp
  | cons a x ih =>
    cases l with
    | nil => simp at h
    | cons b l =>
      simp only [List.isPrefixOf, List.length_cons, List.take_succ_cons, List.cons_beq_cons]
      rw [ih l (by simpa using h), show (a == b) = (b == a) from Bool.beq_comm]
theorem isPrefixOf_long (x l : List UInt8) (h : l.length < x.length) : x.isPrefixOf l = false := by
  rw [Bool.eq_false_iff]; intro hh
  have := (List.isPrefixOf_iff_prefix.1 hh).length_le; omega

set_option maxHeartbeats 400000 in
theorem starts_any (s x : ByteArray) (n : Nat) (w : World) (hs : s.size ≤ 2000000000) (hx : x.size ≤ 100) (hn : n ≤ s.size) :
    Calls Tryz.prog 192 #[.string s, .int .i64 n, .string x] w fun e w' => e = .returned (.bool (Hs.startsB (s.data.toList.drop n) x.data.toList)) ∧ w' = w := by
  by_cases h : x.size ≤ s.size - n
  · have HS : Hid (Hs.startsB (s.data.toList.drop n) x.data.toList = ((s.extract n (n + x.size)).toList == x.toList)) := by
      unfold Hs.startsB Hid
      rw [isPrefixOf_take _ _ (by simpa using h), Lib.extract_toList, Lib.toList_data]
      congr 3; simp
    go_enter Tryz.func192, Tryz.ntmps192
    go_wp2
    go_ret
    exact ⟨ret_bool (by rw [HS.out]), rfl⟩
  · have HS : Hid (Hs.startsB (s.data.toList.drop n) x.data.toList = false) := by
      unfold Hs.startsB Hid
      exact isPrefixOf_long _ _ (by simp; omega)
    go_enter Tryz.func192, Tryz.ntmps192
    go_wp2
    go_ret
    exact ⟨ret_bool (by rw [HS.out]), rfl⟩

theorem drop_cons (s : ByteArray) (k : Nat) (h : k < s.size) : s.data.toList.drop k = s[k] :: s.data.toList.drop (k + 1) := by
  rw [List.drop_eq_getElem_cons (by simpa using h)]; rfl

theorem blankL_nil (f : Nat) : Hs.blankL f [] = 0 := by cases f <;> rfl
theorem blankL_white (f : Nat) (c : UInt8) (r : List UInt8) (h : c.toNat = 32 ∨ c.toNat = 9 ∨ c.toNat = 10) : Hs.blankL (f + 1) (c :: r) = Hs.blankL f r + 1 := by
  rw [Hs.blankL, if_pos h]
theorem blankL_remark (f : Nat) (c : UInt8) (r : List UInt8) (h : ¬ (c.toNat = 32 ∨ c.toNat = 9 ∨ c.toNat = 10)) (h2 : Hs.startsB (c :: r) [47, 47] = true) :
    Hs.blankL (f + 1) (c :: r) = Hs.spanL Hs.notNl (c :: r) + Hs.blankL f ((c :: r).drop (Hs.spanL Hs.notNl (c :: r))) := by
  rw [Hs.blankL, if_neg h, if_pos h2]
theorem blankL_else (f : Nat) (c : UInt8) (r : List UInt8) (h : ¬ (c.toNat = 32 ∨ c.toNat = 9 ∨ c.toNat = 10)) (h2 : Hs.startsB (c :: r) [47, 47] = false) :
    Hs.blankL (f + 1) (c :: r) = 0 := by
  rw [Hs.blankL, if_neg h, if_neg (by rw [h2]; simp)]
theorem spanL_yes (p : UInt8 → Bool) (c : UInt8) (r : List UInt8) (h : p c = true) : Hs.spanL p (c :: r) = Hs.spanL p r + 1 := by rw [Hs.spanL, if_pos h]
theorem spanL_no (p : UInt8 → Bool) (c : UInt8) (r : List UInt8) (h : p c = false) : Hs.spanL p (c :: r) = 0 := by rw [Hs.spanL, if_neg (by rw [h]; simp)]

theorem notNl_int (b : UInt8) : Hs.notNl b = ((b.toNat : Int) != 10) := by
  unfold Hs.notNl; rw [Bool.eq_iff_iff]; simp; omega

set_option maxRecDepth 100000 in
set_option maxHeartbeats 1000000 in
theorem blank_any (s : ByteArray) (n : Nat) (w : World) (hs : s.size ≤ 2000000000) (hn : n ≤ s.size) :
    Calls Tryz.prog 139 #[.string s, .int .i64 n] w fun e w' => e = .returned (.int .i64 ((n + Hs.blankL s.size (s.data.toList.drop n) : Nat))) ∧ w' = w := by
  go_enter Tryz.func139, Tryz.ntmps139
  go_wp2_with fail
  go_loop [1] (fun i => ∃ k f : Nat, k ≤ s.size ∧ s.size ≤ k + f ∧ i = .int .i64 k ∧ Hid (n + Hs.blankL s.size (s.data.toList.drop n) = k + Hs.blankL f (s.data.toList.drop k))) (fun i => s.size - (intOf i).toNat)
  case atStart => exact ⟨n, s.size, hn, by omega, rfl, rfl⟩
  case round =>
    obtain ⟨k, f, hk, hf, rfl, HS⟩ := hrel
    by_cases hlt : k < s.size
    · have hb : (s[k].toNat : Int) ≤ 255 := byte_le s[k]
      obtain ⟨f, rfl⟩ : ∃ f', f = f' + 1 := ⟨f - 1, by omega⟩
      rw [drop_cons s k hlt] at HS
      by_cases hw : s[k].toNat = 32 ∨ s[k].toNat = 9 ∨ s[k].toNat = 10
      · rw [blankL_white _ _ _ hw] at HS
        have HF : Hid (n + Hs.blankL s.size (s.data.toList.drop n) = k + 1 + Hs.blankL f (s.data.toList.drop (k + 1))) := by
          rw [HS.out]; show _ = _; omega
        clear HS
        rcases hw with hw | hw | hw
        all_goals
          have hE : ((s[k].toNat : Int)) = _ := congrArg _ hw
          clear hw
          go_wp2_with fail
          go_round
          case rel => exact ⟨k + 1, f, by omega, by omega, by go_num, HF⟩
          case measure => simp [intOf]; omega
      · have h1 : ((s[k].toNat : Int) == 32) = false := by simp; omega
        have h2 : ((s[k].toNat : Int) == 9) = false := by simp; omega
        have h3 : ((s[k].toNat : Int) == 10) = false := by simp; omega
        cases hst : Hs.startsB (s[k] :: s.data.toList.drop (k + 1)) [47, 47]
        · rw [blankL_else _ _ _ hw hst] at HS
          rw [← drop_cons s k hlt] at hst
          go_wp2_with (go_at_call 192; refine (starts_any s _ k _ hs (by decide) hk).mono ?_; rw [hst]; rintro e w' ⟨rfl, rfl⟩)
          go_ret
          exact ⟨ret_int (by have := HS.out; omega), rfl⟩
        · rw [blankL_remark _ _ _ hw hst] at HS
          have HP : Hid (1 ≤ Hs.spanL Hs.notNl (s.data.toList.drop k)) := by
            rw [drop_cons s k hlt, spanL_yes _ _ _ (by unfold Hs.notNl; simp; omega)]; show _ ≤ _; omega
          rw [← drop_cons s k hlt] at hst HS
          rw [List.drop_drop] at HS
          go_wp2_with (go_at_call 192; refine (starts_any s _ k _ hs (by decide) hk).mono ?_; rw [hst]; rintro e w' ⟨rfl, rfl⟩)
          go_loop [1] (fun i => ∃ j : Nat, k ≤ j ∧ j ≤ s.size ∧ i = .int .i64 j ∧ Hid (k + Hs.spanL Hs.notNl (s.data.toList.drop k) = j + Hs.spanL Hs.notNl (s.data.toList.drop j))) (fun i => s.size - (intOf i).toNat)
          case atStart => exact ⟨k, Nat.le_refl _, hk, rfl, rfl⟩
          case round =>
            obtain ⟨j, hj1, hj2, rfl, HJ⟩ := hrel
            by_cases hj : j < s.size
            · have hbj : (s[j].toNat : Int) ≤ 255 := byte_le s[j]
              rw [drop_cons s j hj] at HJ
              have hni := notNl_int s[j]
              cases hp : Hs.notNl s[j]
              · rw [spanL_no _ _ _ hp] at HJ
                rw [hp] at hni
                have hE : ((s[j].toNat : Int) != 10) = false := hni.symm
                clear hni hp
                have hkj : k < j := by have := HP.out; have := HJ.out; omega
                have HF : Hid (n + Hs.blankL s.size (s.data.toList.drop n) = j + Hs.blankL f (s.data.toList.drop j)) := by
                  have e1 := HJ.out
                  have e2 := HS.out
                  rw [show k + Hs.spanL Hs.notNl (s.data.toList.drop k) = j by omega] at e2
                  show _ = _; omega
                clear HJ HS HP
                go_wp2_with fail
                go_round
                case rel => exact ⟨j, f, by omega, by omega, rfl, HF⟩
                case measure => simp [intOf]; omega
              · rw [spanL_yes _ _ _ hp] at HJ
                rw [hp] at hni
                have hE : ((s[j].toNat : Int) != 10) = true := hni.symm
                clear hni hp
                have HF : Hid (k + Hs.spanL Hs.notNl (s.data.toList.drop k) = j + 1 + Hs.spanL Hs.notNl (s.data.toList.drop (j + 1))) := by
                  rw [HJ.out]; show _ = _; omega
                clear HJ
                go_wp2_with fail
                go_round
                case rel => exact ⟨j + 1, by omega, by omega, by go_num, HF⟩
                case measure => simp [intOf]; omega
            · have hd : s.data.toList.drop j = [] := List.drop_eq_nil_of_le (by simp; omega)
              rw [hd] at HJ
              have hkj : k < j := by omega
              have HF : Hid (n + Hs.blankL s.size (s.data.toList.drop n) = j + Hs.blankL f (s.data.toList.drop j)) := by
                have e1 := HJ.out
                have e2 := HS.out
                rw [show k + Hs.spanL Hs.notNl (s.data.toList.drop k) = j by rw [e1]; rfl] at e2
                have e3 : k + Hs.spanL Hs.notNl (s.data.toList.drop k) = j := by rw [e1]; rfl
                show _ = _; omega
              clear HJ HS HP hd
              go_wp2_with fail
              go_round
              case rel => exact ⟨j, f, by omega, by omega, rfl, HF⟩
              case measure => simp [intOf]; omega
    · have hd : s.data.toList.drop k = [] := List.drop_eq_nil_of_le (by simp; omega)
      rw [hd, blankL_nil] at HS
      go_wp2_with fail
      go_ret
      exact ⟨ret_int (by have := HS.out; omega), rfl⟩

end Go.Proofs.YtblbkfdhjfppkaaGreatDoor

/- Contracts of the document's answer: numbers, words. -/
namespace Go.Proofs.YtblbkfdhjfppkaaGreatDoor
open Go.RowKit

def wholeV : Option Nat → Value
  | some n => .tuple #[.int .i64 n, .bool true]
  | none => .tuple #[.int .i64 0, .bool false]

set_option maxRecDepth 100000 in
set_option maxHeartbeats 1000000 in
theorem whole_any (s : ByteArray) (w : World) (hs : s.size ≤ 2000000000) (hd : ∀ k (h : k < s.size), Hs.digitB s[k] = true) :
    Calls Tryz.prog 209 #[.string s] w fun e w' => e = .returned (wholeV (Hs.wholeL 0 s.data.toList)) ∧ w' = w := by
  have HD : Hid (∀ k (h : k < s.size), Hs.digitB s[k] = true) := hd
  clear hd
  go_enter Tryz.func209, Tryz.ntmps209
  go_wp2_with fail
  go_loop [4, 5] (fun x i => ∃ k n : Nat, k ≤ s.size ∧ n ≤ 9223372036854775807 ∧ i = .int .i64 k ∧ x = .int .i64 n ∧ Hid (Hs.wholeL 0 s.data.toList = Hs.wholeL n (s.data.toList.drop k))) (fun _ i => s.size - (intOf i).toNat)
  case atStart => exact ⟨0, 0, Nat.zero_le _, Nat.zero_le _, rfl, rfl, rfl⟩
  case round =>
    obtain ⟨k, n, hk, hn, rfl, rfl, HS⟩ := hrel
    by_cases hlt : k < s.size
    · have hb : 48 ≤ (s[k].toNat : Int) ∧ (s[k].toNat : Int) ≤ 57 := by
        have := HD.out k hlt; unfold Hs.digitB at this; simp at this; omega
      obtain ⟨hb1, hb2⟩ := hb
      rw [drop_cons s k hlt, Hs.wholeL] at HS
      go_wp2_with fail
      · have hgt : (9223372036854775807 - ((s[k].toNat : Int) - 48)) / 10 < (n : Int) := by assumption
        go_ret2
        refine ⟨?_, rfl⟩
        rw [HS.out, if_pos (by unfold Hs.maxI; omega)]; rfl
      · have hle : (n : Int) ≤ (9223372036854775807 - ((s[k].toNat : Int) - 48)) / 10 := by assumption
        go_round
        case rel => exact ⟨k + 1, 10 * n + (s[k].toNat - 48), by omega, by omega, by go_num, by go_num, by rw [HS.out, if_neg (by unfold Hs.maxI; omega)]; rfl⟩
        case measure => simp [intOf]; omega
    · have hd : s.data.toList.drop k = [] := List.drop_eq_nil_of_le (by simp; omega)
      rw [hd, Hs.wholeL] at HS
      go_wp2_with fail
      go_ret2
      exact ⟨by rw [HS.out]; rfl, rfl⟩

end Go.Proofs.YtblbkfdhjfppkaaGreatDoor

/- Contracts of the document's answer: a word. -/
namespace Go.Proofs.YtblbkfdhjfppkaaGreatDoor
open Go.RowKit

/-- A text out of its bytes. -/
def bs (l : List UInt8) : ByteArray := ⟨l.toArray⟩
theorem bs_data (l : List UInt8) : (bs l).data.toList = l := by simp [bs]
theorem bs_size (l : List UInt8) : (bs l).size = l.length := by simp [bs, ByteArray.size]
theorem bs_inj {a b : ByteArray} (h : a.data.toList = b.data.toList) : a = b := by
  cases a; cases b; simp only at h; congr 1; exact Array.toList_inj.1 h
theorem extract_bs (s : ByteArray) (a b : Nat) : s.extract a b = bs ((s.data.toList.drop a).take (b - a)) :=
  bs_inj (by rw [Lib.extract_data, bs_data])
theorem bs_toList (l : List UInt8) : (bs l).toList = l := by rw [Lib.toList_data, bs_data]

/-- What the package-level tables of the document's answer hold. -/
structure RefTabs (w : World) : Prop where
  kw : ∀ i (h : i < 9), w.cell? ⟨2, i, none⟩ = some (.string (bs (Hs.kwords[i]'(by simpa [Hs.kwords] using h))))
  ot : ∀ i (h : i < 21), w.cell? ⟨0, i, none⟩ = some (.string (bs (Hs.others[i]'(by simpa [Hs.others] using h))))
  big : 11 ≤ w.heap.size

theorem RefTabs.below {w w' : World} (h : RefTabs w) (hb : Below w.heap.size w w') : RefTabs w' :=
  ⟨fun i hi => by rw [hb.cell (by have := h.big; show 2 < _; omega)]; exact h.kw i hi, fun i hi => by rw [hb.cell (by have := h.big; show 0 < _; omega)]; exact h.ot i hi, by have := hb.size; have := h.big; omega⟩

theorem spanL_all (p : UInt8 → Bool) (l : List UInt8) : ∀ c ∈ l.take (Hs.spanL p l), p c = true := by
  induction l with
  | nil => simp
  | cons a r ih =>
    intro c hc
    by_cases h : p a = true
    · rw [spanL_yes _ _ _ h, List.take_succ_cons] at hc
      rcases List.mem_cons.1 hc with rfl | hc
      · exact h
      · exact ih c hc
    · rw [spanL_no _ _ _ (by simpa using h)] at hc; simp at hc
theorem all_digits (l : List UInt8) (h : ∀ c ∈ l, Hs.wordP false c = true) : ∀ k (hk : k < (bs l).size), Hs.digitB (bs l)[k] = true := by
  intro k hk
  have e : (bs l)[k] = l[k]'(by rw [← bs_size]; exact hk) := by simp [bs]; rfl
  rw [e]
  have := h _ (List.getElem_mem (by rw [← bs_size]; exact hk) : l[k]'(by rw [← bs_size]; exact hk) ∈ l)
  simpa [Hs.wordP] using this

set_option maxRecDepth 100000 in
set_option maxHeartbeats 1000000 in
theorem word_num (s : ByteArray) (n : Nat) (w : World) (hs : s.size ≤ 2000000000) (hn : n < s.size) (h2 : Hs.letterB s[n] = false) (t : List UInt8) (z : Nat) (o : Option Nat)
    (ht : Hid (t = (s.data.toList.drop n).take z)) (hz : Hid (z = Hs.spanL (Hs.wordP false) (s.data.toList.drop n))) (ho : Hid (Hs.wholeL 0 t = o)) :
    Calls Tryz.prog 195 #[.string s, .int .i64 n] w fun e w' =>
      e = .returned (.tuple #[.agg #[.int .u8 48, .string (bs t), .int .i64 0], .int .i64 ((n + z : Nat)), .bool o.isSome]) ∧ Below w.heap.size w w' := by
  go_enter Tryz.func195, Tryz.ntmps195
  go_wp2_with (first | (go_at_call 194; refine (letter_any _ _).mono ?_; rw [h2]; rintro e w' ⟨rfl, rfl⟩))
  go_loop [7] (fun i => ∃ j : Nat, n ≤ j ∧ j ≤ s.size ∧ i = .int .i64 j ∧ Hid (n + Hs.spanL (Hs.wordP false) (s.data.toList.drop n) = j + Hs.spanL (Hs.wordP false) (s.data.toList.drop j))) (fun i => s.size - (intOf i).toNat)
  case atStart => exact ⟨n, Nat.le_refl _, by omega, rfl, rfl⟩
  case round =>
    obtain ⟨j, hj1, hj2, rfl, HJ⟩ := hrel
    have hfin : Hs.spanL (Hs.wordP false) (s.data.toList.drop j) = 0 → Hid (n + z = j) := fun h => by
      have := HJ.out; rw [h] at this; rw [hz.out]; exact this
    by_cases hy : ∃ h : j < s.size, Hs.digitB s[j] = true
    · obtain ⟨hj, hp⟩ := hy
      rw [drop_cons s j hj] at HJ hfin
      have hp' : Hs.wordP false s[j] = true := by simp [Hs.wordP, hp]
      rw [spanL_yes _ _ _ hp'] at HJ
      have HF : Hid (n + Hs.spanL (Hs.wordP false) (s.data.toList.drop n) = j + 1 + Hs.spanL (Hs.wordP false) (s.data.toList.drop (j + 1))) := by
        rw [HJ.out]; show _ = _; omega
      clear HJ hfin hp'
      go_wp2_with (first | (go_at_call 193; refine (digit_any _ _).mono ?_; rw [hp]; rintro e w' ⟨rfl, rfl⟩))
      go_round
      case rel => exact ⟨j + 1, by omega, by omega, by go_num, HF⟩
      case measure => simp [intOf]; omega
    · have hzj : n + z = j := by
        refine (hfin ?_).out
        by_cases hj : j < s.size
        · rw [drop_cons s j hj]
          exact spanL_no _ _ _ (by simp only [Hs.wordP, Bool.false_and, Bool.or_false]; simpa using fun h => hy ⟨hj, h⟩)
        · rw [List.drop_eq_nil_of_le (by simp; omega)]; rfl
      have HE : Hid (s.extract n j = bs t) := by
        show _ = _
        rw [extract_bs, ht.out, show j - n = z by omega]
      have HD : Hid (∀ k (h : k < (bs t).size), Hs.digitB (bs t)[k] = true) := by
        refine all_digits t ?_
        rw [ht.out, hz.out]; exact spanL_all _ _
      have hts : (bs t).size ≤ 2000000000 := by
        rw [bs_size, ht.out, List.length_take, List.length_drop]; simp; omega
      have HO : Hid (Hs.wholeL 0 (bs t).data.toList = o) := by rw [bs_data]; exact ho
      have HZ : Hid (((n + z : Nat) : Int) = j) := by show _ = _; omega
      clear HJ hfin ht hz ho hzj
      by_cases hj : j < s.size
      · have hp : Hs.digitB s[j] = false := by simpa using fun h => hy ⟨hj, h⟩
        clear hy
        cases o
        all_goals
          go_wp2_with (first | (go_at_call 193; refine (digit_any _ _).mono ?_; rw [hp]; rintro e w' ⟨rfl, rfl⟩) | (go_at_call 209; rw [HE.out]; refine (whole_any _ _ hts HD.out).mono ?_; rw [HO.out, wholeV]; rintro e w' ⟨rfl, rfl⟩))
          rw [HZ.out]
          refine bodyPost_ret (v := .tuple #[.agg #[.int .u8 48, .string (bs t), .int .i64 0], .int .i64 j, .bool _]) (by simp [results, Tryz.results195, go_sem]) rfl ⟨rfl, ?_⟩
          exact (((Below.refl _ _).alloc (Nat.le_refl _) _).alloc (by simp) _)
      · clear hy
        cases o
        all_goals
          go_wp2_with (first | (go_at_call 209; rw [HE.out]; refine (whole_any _ _ hts HD.out).mono ?_; rw [HO.out, wholeV]; rintro e w' ⟨rfl, rfl⟩))
          rw [HZ.out]
          refine bodyPost_ret (v := .tuple #[.agg #[.int .u8 48, .string (bs t), .int .i64 0], .int .i64 j, .bool _]) (by simp [results, Tryz.results195, go_sem]) rfl ⟨rfl, ?_⟩
          exact (((Below.refl _ _).alloc (Nat.le_refl _) _).alloc (by simp) _)

end Go.Proofs.YtblbkfdhjfppkaaGreatDoor

/- Contracts of the document's answer: a word that is a name. -/
namespace Go.Proofs.YtblbkfdhjfppkaaGreatDoor
open Go.RowKit

/-- The sort of a word behind k of the keywords. -/
def sortTo (t : List UInt8) (k : Nat) : Nat := if (Hs.kwords.take k).contains t then 107 else 110
theorem sortTo_zero (t : List UInt8) : sortTo t 0 = 110 := rfl
theorem contains_snoc (l : List (List UInt8)) (q t : List UInt8) : (l ++ [q]).contains t = (l.contains t || (t == q)) := by
  induction l with
  | nil => rw [List.nil_append, List.contains_cons]; simp
  | cons a l ih => rw [List.cons_append, List.contains_cons, List.contains_cons, ih, Bool.or_assoc]
theorem sortTo_succ (t : List UInt8) (k : Nat) (h : k < 9) (q : List UInt8) (hq : q = Hs.kwords[k]'(by simpa [Hs.kwords] using h)) : sortTo t (k + 1) = if q == t then 107 else sortTo t k := by
  unfold sortTo
  rw [List.take_succ_eq_append_getElem (by simpa [Hs.kwords] using h), ← hq, contains_snoc]
  by_cases e : q = t
  · subst e; simp
  · have e1 : (q == t) = false := by simpa using e
    have e2 : (t == q) = false := by simpa using fun x => e x.symm
    rw [e1, e2]; simp
theorem sortTo_nine (t : List UInt8) : sortTo t 9 = if Hs.kwords.contains t then 107 else 110 := rfl

set_option maxRecDepth 100000 in
set_option maxHeartbeats 1000000 in
theorem word_name (s : ByteArray) (n : Nat) (w : World) (hg : RefTabs w) (hs : s.size ≤ 2000000000) (hn : n < s.size) (h2 : Hs.letterB s[n] = true) (t : List UInt8) (z : Nat)
    (ht : Hid (t = (s.data.toList.drop n).take z)) (hz : Hid (z = Hs.spanL (Hs.wordP true) (s.data.toList.drop n))) :
    Calls Tryz.prog 195 #[.string s, .int .i64 n] w fun e w' =>
      e = .returned (.tuple #[.agg #[.int .u8 (sortTo t 9), .string (bs t), .int .i64 0], .int .i64 ((n + z : Nat)), .bool (decide (z ≤ 16))]) ∧ Below w.heap.size w w' := by
  go_enter Tryz.func195, Tryz.ntmps195
  go_wp2_with (first | (go_at_call 194; refine (letter_any _ _).mono ?_; rw [h2]; rintro e w' ⟨rfl, rfl⟩))
  go_loop [7] (fun i => ∃ j : Nat, n ≤ j ∧ j ≤ s.size ∧ i = .int .i64 j ∧ Hid (n + Hs.spanL (Hs.wordP true) (s.data.toList.drop n) = j + Hs.spanL (Hs.wordP true) (s.data.toList.drop j))) (fun i => s.size - (intOf i).toNat)
  case atStart => exact ⟨n, Nat.le_refl _, by omega, rfl, rfl⟩
  case round =>
    obtain ⟨j, hj1, hj2, rfl, HJ⟩ := hrel
    have hfin : Hs.spanL (Hs.wordP true) (s.data.toList.drop j) = 0 → Hid (n + z = j) := fun h => by
      have := HJ.out; rw [h] at this; rw [hz.out]; exact this
    by_cases hy : ∃ h : j < s.size, Hs.wordP true s[j] = true
    · obtain ⟨hj, hp⟩ := hy
      rw [drop_cons s j hj] at HJ hfin
      rw [spanL_yes _ _ _ hp] at HJ
      have HF : Hid (n + Hs.spanL (Hs.wordP true) (s.data.toList.drop n) = j + 1 + Hs.spanL (Hs.wordP true) (s.data.toList.drop (j + 1))) := by
        rw [HJ.out]; show _ = _; omega
      clear HJ hfin
      cases hp1 : Hs.digitB s[j]
      · have hp2 : Hs.letterB s[j] = true := by simpa [Hs.wordP, hp1] using hp
        clear hp
        go_wp2_with (first | (go_at_call 193; refine (digit_any _ _).mono ?_; rw [hp1]; rintro e w' ⟨rfl, rfl⟩) | (go_at_call 194; refine (letter_any _ _).mono ?_; rw [hp2]; rintro e w' ⟨rfl, rfl⟩))
        go_round
        case rel => exact ⟨j + 1, by omega, by omega, by go_num, HF⟩
        case measure => simp [intOf]; omega
      · clear hp
        go_wp2_with (first | (go_at_call 193; refine (digit_any _ _).mono ?_; rw [hp1]; rintro e w' ⟨rfl, rfl⟩))
        go_round
        case rel => exact ⟨j + 1, by omega, by omega, by go_num, HF⟩
        case measure => simp [intOf]; omega
    · have hzj : n + z = j := by
        refine (hfin ?_).out
        by_cases hj : j < s.size
        · rw [drop_cons s j hj]
          exact spanL_no _ _ _ (by simpa using fun h => hy ⟨hj, h⟩)
        · rw [List.drop_eq_nil_of_le (by simp; omega)]; rfl
      have HE : Hid (s.extract n j = bs t) := by
        show _ = _
        rw [extract_bs, ht.out, show j - n = z by omega]
      have HL : Hid ((bs t).size = z) := by
        show _ = _
        rw [bs_size, ht.out, List.length_take, List.length_drop]; simp; omega
      have HZ : Hid (((n + z : Nat) : Int) = j) := by show _ = _; omega
      clear HJ hfin ht hz hzj
      have hcase : (∃ h : j < s.size, Hs.digitB s[j] = false ∧ Hs.letterB s[j] = false) ∨ ¬ j < s.size := by
        by_cases hj : j < s.size
        · have hp : Hs.wordP true s[j] = false := by simpa using fun h => hy ⟨hj, h⟩
          exact Or.inl ⟨hj, by revert hp; unfold Hs.wordP; cases Hs.digitB s[j] <;> simp, by revert hp; unfold Hs.wordP; cases Hs.letterB s[j] <;> simp⟩
        · exact Or.inr hj
      clear hy
      have hg1 := hg.big
      have HG : Hid (RefTabs w) := hg
      clear hg
      rcases hcase with ⟨hj, hp1, hp2⟩ | hj
      · go_wp2_with (first | (go_at_call 193; refine (digit_any _ _).mono ?_; rw [hp1]; rintro e w' ⟨rfl, rfl⟩) | (go_at_call 194; refine (letter_any _ _).mono ?_; rw [hp2]; rintro e w' ⟨rfl, rfl⟩))
        rw [HE.out]
        go_loopw [12] (fun i wr => ∃ k : Nat, k ≤ 9 ∧ i = .int .i64 k ∧ Below w.heap.size w wr ∧ w.heap.size + 1 < wr.heap.size ∧ wr.cell? ⟨w.heap.size, 0, none⟩ = some (.int .u8 0) ∧ wr.cell? ⟨w.heap.size, 1, none⟩ = some (.string { data := #[] }) ∧ wr.cell? ⟨w.heap.size, 2, none⟩ = some (.int .i64 0) ∧ wr.frozen? ⟨w.heap.size, 0, none⟩ = false ∧ wr.frozen? ⟨w.heap.size, 1, none⟩ = false ∧ wr.frozen? ⟨w.heap.size, 2, none⟩ = false ∧ wr.cell? ⟨w.heap.size + 1, 0, none⟩ = some (.int .u8 (sortTo t k)) ∧ wr.cell? ⟨w.heap.size + 1, 1, none⟩ = some (.string (bs t)) ∧ wr.cell? ⟨w.heap.size + 1, 2, none⟩ = some (.int .i64 0) ∧ wr.frozen? ⟨w.heap.size + 1, 0, none⟩ = false ∧ wr.frozen? ⟨w.heap.size + 1, 1, none⟩ = false ∧ wr.frozen? ⟨w.heap.size + 1, 2, none⟩ = false) (fun i _ => 9 - (intOf i).toNat)
        case atStart => exact ⟨0, by omega, rfl, ((Below.refl _ _).alloc (Nat.le_refl _) _).alloc (by simp) _, by simp, by simp [go_sem], by simp [go_sem], by simp [go_sem], by simp [go_sem], by simp [go_sem], by simp [go_sem], by simp [go_sem, sortTo_zero], by simp [go_sem], by simp [go_sem], by simp [go_sem], by simp [go_sem], by simp [go_sem]⟩
        case round =>
          obtain ⟨k, hk, rfl, hbw, hsz, r0, r1, r2, f0, f1, f2, c0, c1, c2, g0, g1, g2⟩ := hrel
          by_cases hk9 : k < 9
          · obtain ⟨q, hq⟩ : ∃ q, q = Hs.kwords[k]'(by simpa [Hs.kwords] using hk9) := ⟨_, rfl⟩
            have hkc : wr.cell? ⟨2, k, none⟩ = some (.string (bs q)) := by rw [hq, hbw.cell (by show 2 < _; omega)]; exact HG.out.kw k hk9
            have HS : Hid (sortTo t (k + 1) = if q == t then 107 else sortTo t k) := sortTo_succ t k hk9 q hq
            clear hq
            cases hqt : (q == t)
            · have hE : ((bs q).toList == (bs t).toList) = false := by rw [bs_toList, bs_toList]; exact hqt
              rw [hqt] at HS
              clear hqt
              go_wp2_with fail
              go_quiet (fail)
              go_wp2_with fail
              go_roundw
              case rel => exact ⟨k + 1, by omega, by go_num, below_drewN hbw _, hsz, r0, r1, r2, f0, f1, f2, by rw [HS.out]; exact c0, c1, c2, g0, g1, g2⟩
              case measure => simp [intOf]; omega
            · have hE : ((bs q).toList == (bs t).toList) = true := by rw [bs_toList, bs_toList]; exact hqt
              rw [hqt] at HS
              clear hqt
              go_wp2_with fail
              go_quiet (fail)
              go_wp2_with fail
              go_roundw
              case rel =>
                refine ⟨k + 1, by omega, by go_num, (below_drewN hbw _).setCell (by simp) _, by simpa using hsz, ?_, ?_, ?_, ?_, ?_, ?_, ?_, ?_, ?_, ?_, ?_, ?_⟩
                all_goals first | (rw [HS.out]; simp [go_sem, c0]; done) | (simp [go_sem, *]; done)
              case measure => simp [intOf]; omega
          · obtain rfl : k = 9 := by omega
            go_wp2_with fail
            go_region
            go_wp2_with fail
            rw [HZ.out, show decide (z ≤ 16) = decide (((bs t).size : Int) ≤ 16) by rw [HL.out]; simp; omega]
            refine bodyPost_ret (v := .tuple #[.agg #[.int .u8 (sortTo t 9), .string (bs t), .int .i64 0], .int .i64 j, .bool _]) (by simp [results, Tryz.results195, go_sem, *]) rfl ⟨rfl, ?_⟩
            exact (((hbw.setCell (by simp) _).setCell (by simp) _).setCell (by simp) _).drew
      · go_wp2_with fail
        rw [HE.out]
        go_loopw [12] (fun i wr => ∃ k : Nat, k ≤ 9 ∧ i = .int .i64 k ∧ Below w.heap.size w wr ∧ w.heap.size + 1 < wr.heap.size ∧ wr.cell? ⟨w.heap.size, 0, none⟩ = some (.int .u8 0) ∧ wr.cell? ⟨w.heap.size, 1, none⟩ = some (.string { data := #[] }) ∧ wr.cell? ⟨w.heap.size, 2, none⟩ = some (.int .i64 0) ∧ wr.frozen? ⟨w.heap.size, 0, none⟩ = false ∧ wr.frozen? ⟨w.heap.size, 1, none⟩ = false ∧ wr.frozen? ⟨w.heap.size, 2, none⟩ = false ∧ wr.cell? ⟨w.heap.size + 1, 0, none⟩ = some (.int .u8 (sortTo t k)) ∧ wr.cell? ⟨w.heap.size + 1, 1, none⟩ = some (.string (bs t)) ∧ wr.cell? ⟨w.heap.size + 1, 2, none⟩ = some (.int .i64 0) ∧ wr.frozen? ⟨w.heap.size + 1, 0, none⟩ = false ∧ wr.frozen? ⟨w.heap.size + 1, 1, none⟩ = false ∧ wr.frozen? ⟨w.heap.size + 1, 2, none⟩ = false) (fun i _ => 9 - (intOf i).toNat)
        case atStart => exact ⟨0, by omega, rfl, ((Below.refl _ _).alloc (Nat.le_refl _) _).alloc (by simp) _, by simp, by simp [go_sem], by simp [go_sem], by simp [go_sem], by simp [go_sem], by simp [go_sem], by simp [go_sem], by simp [go_sem, sortTo_zero], by simp [go_sem], by simp [go_sem], by simp [go_sem], by simp [go_sem], by simp [go_sem]⟩
        case round =>
          obtain ⟨k, hk, rfl, hbw, hsz, r0, r1, r2, f0, f1, f2, c0, c1, c2, g0, g1, g2⟩ := hrel
          by_cases hk9 : k < 9
          · obtain ⟨q, hq⟩ : ∃ q, q = Hs.kwords[k]'(by simpa [Hs.kwords] using hk9) := ⟨_, rfl⟩
            have hkc : wr.cell? ⟨2, k, none⟩ = some (.string (bs q)) := by rw [hq, hbw.cell (by show 2 < _; omega)]; exact HG.out.kw k hk9
            have HS : Hid (sortTo t (k + 1) = if q == t then 107 else sortTo t k) := sortTo_succ t k hk9 q hq
            clear hq
            cases hqt : (q == t)
            · have hE : ((bs q).toList == (bs t).toList) = false := by rw [bs_toList, bs_toList]; exact hqt
              rw [hqt] at HS
              clear hqt
              go_wp2_with fail
              go_quiet (fail)
              go_wp2_with fail
              go_roundw
              case rel => exact ⟨k + 1, by omega, by go_num, below_drewN hbw _, hsz, r0, r1, r2, f0, f1, f2, by rw [HS.out]; exact c0, c1, c2, g0, g1, g2⟩
              case measure => simp [intOf]; omega
            · have hE : ((bs q).toList == (bs t).toList) = true := by rw [bs_toList, bs_toList]; exact hqt
              rw [hqt] at HS
              clear hqt
              go_wp2_with fail
              go_quiet (fail)
              go_wp2_with fail
              go_roundw
              case rel =>
                refine ⟨k + 1, by omega, by go_num, (below_drewN hbw _).setCell (by simp) _, by simpa using hsz, ?_, ?_, ?_, ?_, ?_, ?_, ?_, ?_, ?_, ?_, ?_, ?_⟩
                all_goals first | (rw [HS.out]; simp [go_sem, c0]; done) | (simp [go_sem, *]; done)
              case measure => simp [intOf]; omega
          · obtain rfl : k = 9 := by omega
            go_wp2_with fail
            go_region
            go_wp2_with fail
            rw [HZ.out, show decide (z ≤ 16) = decide (((bs t).size : Int) ≤ 16) by rw [HL.out]; simp; omega]
            refine bodyPost_ret (v := .tuple #[.agg #[.int .u8 (sortTo t 9), .string (bs t), .int .i64 0], .int .i64 j, .bool _]) (by simp [results, Tryz.results195, go_sem, *]) rfl ⟨rfl, ?_⟩
            exact (((hbw.setCell (by simp) _).setCell (by simp) _).setCell (by simp) _).drew

end Go.Proofs.YtblbkfdhjfppkaaGreatDoor

/- Contracts of the document's answer: the next token. -/
namespace Go.Proofs.YtblbkfdhjfppkaaGreatDoor
open Go.RowKit

/-- A token as Go's value, its line not yet told. -/
def rawV (r : Hs.Raw) (n : Nat) : Value :=
  .tuple #[.agg #[.int .u8 r.sort, .string (bs r.text), .int .i64 0], .int .i64 ((n + r.size : Nat)), .bool r.ok]

theorem word_any (s : ByteArray) (n : Nat) (w : World) (hg : RefTabs w) (hs : s.size ≤ 2000000000) (hn : n < s.size) :
    Calls Tryz.prog 195 #[.string s, .int .i64 n] w fun e w' =>
      e = .returned (rawV (Hs.wordL (s.data.toList.drop n) (Hs.letterB s[n])) n) ∧ Below w.heap.size w w' := by
  cases hl : Hs.letterB s[n]
  · exact word_num s n w hs hn hl _ _ _ rfl rfl rfl
  · refine (word_name s n w hg hs hn hl _ _ rfl rfl).mono ?_
    intro e w' h
    simpa [rawV, Hs.wordL, sortTo_nine] using h

theorem bcell {W w1 : World} (hb : Below W.heap.size W w1) : (∀ b o, b < W.heap.size → w1.cell? ⟨b, o, none⟩ = W.cell? ⟨b, o, none⟩) ∧ (∀ b o, b < W.heap.size → w1.frozen? ⟨b, o, none⟩ = W.frozen? ⟨b, o, none⟩) :=
  ⟨fun b o h => hb.cell (p := ⟨b, o, none⟩) h, fun b o h => hb.frozen (p := ⟨b, o, none⟩) h⟩

theorem RefTabs.alloc {w : World} (h : RefTabs w) (o : Obj) : RefTabs (w.alloc o) := h.below ((Below.refl _ _).alloc (Nat.le_refl _) _)

set_option maxRecDepth 100000 in
set_option maxHeartbeats 1000000 in
theorem next_word (s : ByteArray) (n : Nat) (w : World) (hg : RefTabs w) (hs : s.size ≤ 2000000000) (hn : n < s.size) (hd : (Hs.digitB s[n] || Hs.letterB s[n]) = true) (r : Hs.Raw)
    (hr : Hid (Hs.wordL (s.data.toList.drop n) (Hs.letterB s[n]) = r)) :
    Calls Tryz.prog 140 #[.string s, .int .i64 n] w fun e w' => e = .returned (rawV r n) ∧ Below w.heap.size w w' := by
  have HG : Hid (∀ o, RefTabs (w.alloc o)) := fun o => hg.alloc o
  clear hg
  have hcase : Hs.digitB s[n] = true ∨ (Hs.digitB s[n] = false ∧ Hs.letterB s[n] = true) := by
    revert hd; cases Hs.digitB s[n] <;> simp
  clear hd
  rcases hcase with h1 | ⟨h1, h2⟩
  all_goals
    go_enter Tryz.func140, Tryz.ntmps140
    go_wp2_with (first | (go_at_call 193; refine (digit_any _ _).mono ?_; rw [h1]; rintro e w' ⟨rfl, rfl⟩) | (go_at_call 194; refine (letter_any _ _).mono ?_; rw [h2]; rintro e w' ⟨rfl, rfl⟩))
    refine (word_any s n _ (HG.out _) hs hn).mono ?_
    rw [hr.out, rawV]
    rintro e w1 ⟨rfl, hb⟩
    obtain ⟨hc, hf⟩ := bcell hb
    have hz : w.heap.size < w1.heap.size := by have := hb.size; simp at this; omega
    go_wp2_with fail
    refine bodyPost_ret (v := .tuple #[.agg #[.int .u8 r.sort, .string (bs r.text), .int .i64 0], .int .i64 ((n + r.size : Nat)), .bool r.ok]) (by simp [results, Tryz.results140, go_sem, hc]) rfl ⟨rfl, ?_⟩
    exact ((((((Below.refl _ _).alloc (Nat.le_refl _) _).trans (hb.mono (by simp))).setCell (by simp) _).setCell (by simp) _).setCell (by simp) _)

end Go.Proofs.YtblbkfdhjfppkaaGreatDoor

/- Contracts of the document's answer: the next token where it is a string. -/
namespace Go.Proofs.YtblbkfdhjfppkaaGreatDoor
open Go.RowKit

theorem strP_int (b : UInt8) : Hs.strP b = (((b.toNat : Int) != 34) && ((b.toNat : Int) != 10)) := by
  unfold Hs.strP; rw [Bool.eq_iff_iff]; simp; omega

set_option maxRecDepth 100000 in
set_option maxHeartbeats 1000000 in
theorem next_str (s : ByteArray) (n : Nat) (w : World) (hs : s.size ≤ 2000000000) (hn : n < s.size) (h1 : Hs.digitB s[n] = false) (h2 : Hs.letterB s[n] = false) (h3 : s[n].toNat = 34) (t : List UInt8) (z : Nat) (ok : Bool)
    (ht : Hid (t = (s.data.toList.drop (n + 1)).take z)) (hz : Hid (z = Hs.spanL Hs.strP (s.data.toList.drop (n + 1)))) (hok : Hid (ok = (decide ((s.data.toList.drop (n + 1))[z]? = some 34) && decide (z ≤ 100)))) :
    Calls Tryz.prog 140 #[.string s, .int .i64 n] w fun e w' => e = .returned (.tuple #[.agg #[.int .u8 115, .string (bs t), .int .i64 0], .int .i64 ((n + (z + 2) : Nat)), .bool ok]) ∧ Below w.heap.size w w' := by
  have h34 : ((s[n].toNat : Int) == 34) = true := by simp; omega
  clear h3
  go_enter Tryz.func140, Tryz.ntmps140
  go_wp2_with (first | (go_at_call 193; refine (digit_any _ _).mono ?_; rw [h1]; rintro e w' ⟨rfl, rfl⟩) | (go_at_call 194; refine (letter_any _ _).mono ?_; rw [h2]; rintro e w' ⟨rfl, rfl⟩))
  go_loop [8] (fun i => ∃ j : Nat, n + 1 ≤ j ∧ j ≤ s.size ∧ i = .int .i64 j ∧ Hid (n + 1 + Hs.spanL Hs.strP (s.data.toList.drop (n + 1)) = j + Hs.spanL Hs.strP (s.data.toList.drop j))) (fun i => s.size - (intOf i).toNat)
  case atStart => exact ⟨n + 1, Nat.le_refl _, by omega, by go_num, rfl⟩
  case round =>
    obtain ⟨j, hj1, hj2, rfl, HJ⟩ := hrel
    have hfin : Hs.spanL Hs.strP (s.data.toList.drop j) = 0 → Hid (n + 1 + z = j) := fun h => by
      have := HJ.out; rw [h] at this; rw [hz.out]; exact this
    by_cases hy : ∃ h : j < s.size, Hs.strP s[j] = true
    · obtain ⟨hj, hp⟩ := hy
      have hbj : (s[j].toNat : Int) ≤ 255 := byte_le s[j]
      rw [drop_cons s j hj] at HJ hfin
      rw [spanL_yes _ _ _ hp] at HJ
      have HF : Hid (n + 1 + Hs.spanL Hs.strP (s.data.toList.drop (n + 1)) = j + 1 + Hs.spanL Hs.strP (s.data.toList.drop (j + 1))) := by
        rw [HJ.out]; show _ = _; omega
      clear HJ hfin
      rw [strP_int, Bool.and_eq_true] at hp
      obtain ⟨hp1, hp2⟩ := hp
      go_wp2_with fail
      go_round
      case rel => exact ⟨j + 1, by omega, by omega, by go_num, HF⟩
      case measure => simp [intOf]; omega
    · have hzj : n + 1 + z = j := by
        refine (hfin ?_).out
        by_cases hj : j < s.size
        · rw [drop_cons s j hj]
          exact spanL_no _ _ _ (by simpa using fun h => hy ⟨hj, h⟩)
        · rw [List.drop_eq_nil_of_le (by simp; omega)]; rfl
      have HE : Hid (s.extract (n + 1) j = bs t) := by
        show _ = _
        rw [extract_bs, ht.out, show j - (n + 1) = z by omega]
      have HL : Hid ((bs t).size = z) := by
        show _ = _
        rw [bs_size, ht.out, List.length_take, List.length_drop]; simp; omega
      have HZ : Hid (((n + (z + 2) : Nat) : Int) = (j : Int) + 1) := by show _ = _; omega
      by_cases hj : j < s.size
      · have hbj : (s[j].toNat : Int) ≤ 255 := byte_le s[j]
        have HK : Hid (ok = (decide (s[j] = 34) && decide (z ≤ 100))) := by
          show _ = _
          rw [hok.out, getElem?_drop s (n + 1) z (by omega)]
          simp only [Option.some.injEq, hzj]
        have hp : Hs.strP s[j] = false := by simpa using fun h => hy ⟨hj, h⟩
        rw [strP_int] at hp
        clear HJ hfin ht hz hzj hy hok
        by_cases hq : s[j].toNat = 34
        · have e1 : ((s[j].toNat : Int) != 34) = false := by simp; omega
          have e2 : ((s[j].toNat : Int) == 34) = true := by simp; omega
          have HK2 : Hid (ok = decide (((bs t).size : Int) ≤ 100)) := by
            show _ = _
            rw [HK.out, HL.out, show s[j] = 34 from UInt8.toNat_inj.1 (by rw [hq]; rfl)]; simp; omega
          clear hq HK hp
          go_wp2_with fail
          rw [HE.out]
          go_region
          go_wp2_with fail
          rw [HZ.out, HK2.out]
          refine bodyPost_ret (v := .tuple #[.agg #[.int .u8 115, .string (bs t), .int .i64 0], .int .i64 ((j : Int) + 1), .bool _]) (by simp [results, Tryz.results140, go_sem]) rfl ⟨rfl, ?_⟩
          exact (((Below.refl _ _).alloc (Nat.le_refl _) _).alloc (by simp) _).drew
        · have e1 : ((s[j].toNat : Int) != 34) = true := by simp; omega
          have e2 : ((s[j].toNat : Int) == 34) = false := by simp; omega
          have e3 : ((s[j].toNat : Int) != 10) = false := by rw [e1] at hp; simpa using hp
          have HK2 : Hid (ok = false) := by
            show _ = _
            rw [HK.out, show decide (s[j] = 34) = false from decide_eq_false (fun e => hq (by rw [e]; rfl))]; rfl
          clear hq HK hp
          go_wp2_with fail
          rw [HE.out]
          go_region
          go_wp2_with fail
          rw [HZ.out, HK2.out]
          refine bodyPost_ret (v := .tuple #[.agg #[.int .u8 115, .string (bs t), .int .i64 0], .int .i64 ((j : Int) + 1), .bool _]) (by simp [results, Tryz.results140, go_sem]) rfl ⟨rfl, ?_⟩
          exact (((Below.refl _ _).alloc (Nat.le_refl _) _).alloc (by simp) _).drew
      · have HK2 : Hid (ok = false) := by
          show _ = _
          rw [hok.out, getElem?_drop_none s (n + 1) z (by omega)]; rfl
        clear HJ hfin ht hz hzj hy hok
        go_wp2_with fail
        rw [HE.out]
        go_region
        go_wp2_with fail
        rw [HZ.out, HK2.out]
        refine bodyPost_ret (v := .tuple #[.agg #[.int .u8 115, .string (bs t), .int .i64 0], .int .i64 ((j : Int) + 1), .bool _]) (by simp [results, Tryz.results140, go_sem]) rfl ⟨rfl, ?_⟩
        exact (((Below.refl _ _).alloc (Nat.le_refl _) _).alloc (by simp) _).drew

end Go.Proofs.YtblbkfdhjfppkaaGreatDoor

/- Contracts of the document's answer: the next token where it is no word and no string; any next token. -/
namespace Go.Proofs.YtblbkfdhjfppkaaGreatDoor
open Go.RowKit

theorem others_short : ∀ k (h : k < 21), (Hs.others[k]'(by simpa [Hs.others] using h)).length ≤ 2 := by decide

/-- None of the first k begins the list. -/
def noneTo (l : List UInt8) (k : Nat) : Prop := ∀ o ∈ Hs.others.take k, Hs.startsB l o = false
theorem noneTo_succ {l : List UInt8} {k : Nat} (h : k < 21) (hn : noneTo l k) (hk : Hs.startsB l (Hs.others[k]'(by simpa [Hs.others] using h)) = false) : noneTo l (k + 1) := by
  intro o ho
  rw [List.take_succ_eq_append_getElem (by simpa [Hs.others] using h)] at ho
  rcases List.mem_append.1 ho with ho | ho
  · exact hn o ho
  · rw [List.mem_singleton.1 ho]; exact hk
theorem otherL_hit {l : List UInt8} {k : Nat} (h : k < 21) (hn : noneTo l k) (q : List UInt8) (hq : q = Hs.others[k]'(by simpa [Hs.others] using h)) (hk : Hs.startsB l q = true) :
    Hs.otherL l = { sort := 112, text := q, size := q.length, ok := true } := by
  have e : Hs.others.find? (fun o => Hs.startsB l o) = some q := by
    rw [List.find?_eq_some_iff_getElem]
    refine ⟨hk, k, by simpa [Hs.others] using h, hq.symm, fun j hj => ?_⟩
    have := hn (Hs.others[j]'(by have : Hs.others.length = 21 := rfl; omega)) (by
      rw [List.mem_take_iff_getElem]
      exact ⟨j, by have : Hs.others.length = 21 := rfl; omega, rfl⟩)
    simp [this]
  unfold Hs.otherL; rw [e]
theorem otherL_none {l : List UInt8} (hn : noneTo l 21) : Hs.otherL l = { sort := 0, text := [], size := 0, ok := false } := by
  have e : Hs.others.find? (fun o => Hs.startsB l o) = none := by
    rw [List.find?_eq_none]
    intro o ho
    rw [hn o (by rw [List.take_of_length_le (by decide)]; exact ho)]; simp
  unfold Hs.otherL; rw [e]

set_option maxRecDepth 100000 in
set_option maxHeartbeats 1000000 in
theorem next_other (s : ByteArray) (n : Nat) (w : World) (hg : RefTabs w) (hs : s.size ≤ 2000000000) (hn : n < s.size) (h1 : Hs.digitB s[n] = false) (h2 : Hs.letterB s[n] = false) (h3 : ¬ s[n].toNat = 34) (r : Hs.Raw)
    (hr : Hid (Hs.otherL (s.data.toList.drop n) = r)) :
    Calls Tryz.prog 140 #[.string s, .int .i64 n] w fun e w' => e = .returned (rawV r n) ∧ Below w.heap.size w w' := by
  have h34 : ((s[n].toNat : Int) == 34) = false := by simp; omega
  clear h3
  have HG : Hid (∀ o, RefTabs (w.alloc o)) := fun o => hg.alloc o
  clear hg
  go_enter Tryz.func140, Tryz.ntmps140
  go_wp2_with (first | (go_at_call 193; refine (digit_any _ _).mono ?_; rw [h1]; rintro e w' ⟨rfl, rfl⟩) | (go_at_call 194; refine (letter_any _ _).mono ?_; rw [h2]; rintro e w' ⟨rfl, rfl⟩))
  go_loop [10] (fun i => ∃ k : Nat, k ≤ 21 ∧ i = .int .i64 k ∧ Hid (noneTo (s.data.toList.drop n) k)) (fun i => 21 - (intOf i).toNat)
  case atStart => exact ⟨0, by omega, rfl, fun o ho => by simp at ho⟩
  case round =>
    obtain ⟨k, hk, rfl, HN⟩ := hrel
    by_cases hk2 : k < 21
    · obtain ⟨q, hq⟩ : ∃ q, q = Hs.others[k]'(by simpa [Hs.others] using hk2) := ⟨_, rfl⟩
      have hkc : ∀ o, (w.alloc o).cell? ⟨0, k, none⟩ = some (.string (bs q)) := fun o => by rw [hq]; exact (HG.out o).ot k hk2
      have hql : q.length ≤ 2 := by rw [hq]; exact others_short k hk2
      have hqs : (bs q).size ≤ 100 := by rw [bs_size]; omega
      have HQ : Hid (q = Hs.others[k]'(by simpa [Hs.others] using hk2)) := hq
      clear hq
      cases hst : Hs.startsB (s.data.toList.drop n) q
      · have HF : Hid (noneTo (s.data.toList.drop n) (k + 1)) := noneTo_succ hk2 HN.out (by rw [← HQ.out]; exact hst)
        clear HN HQ
        go_wp2_with (first | (go_at_call 192; refine (starts_any s _ n _ hs hqs (by omega)).mono ?_; rw [bs_data, hst]; rintro e w' ⟨rfl, rfl⟩))
        go_round
        case rel => exact ⟨k + 1, by omega, by go_num, HF⟩
        case measure => simp [intOf]; omega
      · have HF : Hid (r = { sort := 112, text := q, size := q.length, ok := true }) := by rw [← hr.out]; exact otherL_hit hk2 HN.out q HQ.out hst
        clear HN HQ
        go_wp2_with (first | (go_at_call 192; refine (starts_any s _ n _ hs hqs (by omega)).mono ?_; rw [bs_data, hst]; rintro e w' ⟨rfl, rfl⟩))
        go_region
        go_wp2_with fail
        rw [HF.out, rawV]
        refine bodyPost_ret (v := .tuple #[.agg #[.int .u8 112, .string (bs q), .int .i64 0], .int .i64 ((n + q.length : Nat)), .bool true]) (by simp [results, Tryz.results140, go_sem, bs_size]) rfl ⟨rfl, ?_⟩
        exact ((Below.refl _ _).alloc (Nat.le_refl _) _).drew
    · obtain rfl : k = 21 := by omega
      have HF : Hid (r = { sort := 0, text := [], size := 0, ok := false }) := by rw [← hr.out]; exact otherL_none HN.out
      clear HN
      go_wp2_with fail
      rw [HF.out, rawV]
      refine bodyPost_ret (v := .tuple #[.agg #[.int .u8 0, .string (bs []), .int .i64 0], .int .i64 ((n : Nat)), .bool false]) (by simp [results, Tryz.results140, go_sem, bs]) rfl ⟨rfl, ?_⟩
      exact ((Below.refl _ _).alloc (Nat.le_refl _) _)

theorem next_any (s : ByteArray) (n : Nat) (w : World) (hg : RefTabs w) (hs : s.size ≤ 2000000000) (hn : n < s.size) :
    Calls Tryz.prog 140 #[.string s, .int .i64 n] w fun e w' => e = .returned (rawV (Hs.tokL (s.data.toList.drop n)) n) ∧ Below w.heap.size w w' := by
  have e : s.data.toList.drop n = s[n] :: s.data.toList.drop (n + 1) := drop_cons s n hn
  cases hd : (Hs.digitB s[n] || Hs.letterB s[n])
  · have hd' := hd
    rw [Bool.or_eq_false_iff] at hd
    by_cases h3 : s[n].toNat = 34
    · have et : Hs.tokL (s.data.toList.drop n) = Hs.strL (s.data.toList.drop (n + 1)) := by rw [e, Hs.tokL, hd', if_neg (by simp), if_pos h3]
      rw [et]
      exact next_str s n w hs hn hd.1 hd.2 h3 _ _ _ rfl rfl rfl
    · have et : Hs.tokL (s.data.toList.drop n) = Hs.otherL (s.data.toList.drop n) := by rw [e, Hs.tokL, hd', if_neg (by simp), if_neg h3]
      rw [et]
      exact next_other s n w hg hs hn hd.1 hd.2 h3 _ rfl
  · have et : Hs.tokL (s.data.toList.drop n) = Hs.wordL (s.data.toList.drop n) (Hs.letterB s[n]) := by rw [e, Hs.tokL, if_pos hd]
    rw [et]
    exact next_word s n w hg hs hn hd _ rfl

end Go.Proofs.YtblbkfdhjfppkaaGreatDoor

/- Contracts of the document's answer: all tokens. -/
namespace Go.Proofs.YtblbkfdhjfppkaaGreatDoor
open Go.RowKit

theorem infoTok : (Tryz.prog.info? 158).map (fun i => (i.zero, i.size, i.bytes)) = some (some (.agg #[.int .u8 0, .string (bs []), .int .i64 0]), 3, 32) := by kernel_rfl

/-- A token's cells. -/
def tokC (t : Hs.Tok) : List Value := [.int .u8 t.sort, .string (bs t.text), .int .i64 t.line]
/-- All tokens' cells. -/
def toksC : List Hs.Tok → List Value
  | [] => []
  | t :: ts => tokC t ++ toksC ts
theorem toksC_append (a b : List Hs.Tok) : toksC (a ++ b) = toksC a ++ toksC b := by
  induction a with
  | nil => rfl
  | cons t a ih => simp [toksC, ih]
theorem toksC_length (a : List Hs.Tok) : (toksC a).length = a.length * 3 := by
  induction a with
  | nil => rfl
  | cons t a ih => simp [toksC, tokC, ih]; omega

theorem blank_zero (s : ByteArray) (w : World) (hs : s.size ≤ 2000000000) (b : Nat) (hb : Hid (Hs.blankL s.size s.data.toList = b)) :
    Calls Tryz.prog 139 #[.string s, .int .i64 0] w fun e w' => e = .returned (.int .i64 b) ∧ w' = w := by
  have h := blank_any s 0 w hs (Nat.zero_le _)
  rw [List.drop_zero, hb.out, Nat.zero_add] at h
  exact h
theorem blank_at (s : ByteArray) (x : Int) (n : Nat) (hx : x = n) (w : World) (hs : s.size ≤ 2000000000) (hn : n ≤ s.size) (m : Nat) (hm : Hid (n + Hs.blankL s.size (s.data.toList.drop n) = m)) :
    Calls Tryz.prog 139 #[.string s, .int .i64 x] w fun e w' => e = .returned (.int .i64 m) ∧ w' = w := by
  subst hx
  have h := blank_any s n w hs hn
  rw [hm.out] at h
  exact h
theorem lineAt_at (s : ByteArray) (x : Int) (n : Nat) (hx : x = n) (w : World) (hs : s.size ≤ 2000000000) (hn : n ≤ s.size) :
    Calls Tryz.prog 81 #[.string s, .int .i64 x] w fun e w' => e = .returned (.int .i64 (Hs.lineOf (s.data.toList.take n))) ∧ w' = w := by
  subst hx
  exact lineAt_any s n w hs hn
/-- What one token more does to what has been gathered. -/
theorem toksL_at (s : ByteArray) (k f : Nat) (hk : k < s.size) (hok : (Hs.tokL (s.data.toList.drop k)).ok = true) (m : Nat)
    (hm : m = k + (Hs.tokL (s.data.toList.drop k)).size + Hs.blankL s.size (s.data.toList.drop (k + (Hs.tokL (s.data.toList.drop k)).size))) :
    Hs.toksL (f + 1) (s.data.toList.take k) (s.data.toList.drop k) =
      Hs.prepend [{ sort := (Hs.tokL (s.data.toList.drop k)).sort, text := (Hs.tokL (s.data.toList.drop k)).text, line := Hs.lineOf (s.data.toList.take k) }] (Hs.toksL f (s.data.toList.take m) (s.data.toList.drop m)) := by
  have hl : (s.data.toList.drop k).length = s.size - k := by simp
  have hsz := Hs.tokL_size _ hok
  rw [Hs.toksL_step f _ _ (by omega) hok (m - k) (by
    rw [hl, List.drop_drop, hm, Hs.blankL_fuel s.size (s.size - k) _ (by simp) (by simp; omega)]; omega)]
  rw [List.drop_drop, show k + (m - k) = m by omega, ← List.take_add, show k + (m - k) = m by omega]

theorem ownsRow_below {w w1 : World} {b : Nat} {e : TypeId} {size : Nat} {v : Value} {n : Nat} {xs : List Value} (h : w.ownsRow b e size v n xs) (hb : Below w.heap.size w w1) : w1.ownsRow b e size v n xs := by
  refine ⟨h.1, ?_⟩
  rcases h.2 with h2 | ⟨g, cap, cur, h1, h2, h3, h4⟩
  · exact Or.inl h2
  · refine Or.inr ⟨g, cap, cur, h1, h2, ?_, h4⟩
    rw [hb.block g ?_]; exact h3
    by_cases hx : g < w.heap.size
    · exact hx
    · rw [Array.getElem?_eq_none (by omega)] at h3; cases h3

theorem own_block_ge {w : World} {b : Nat} {e : TypeId} {size : Nat} {v : Value} {n : Nat} {xs : List Value} (h : w.ownsRow b e size v n xs) : ∀ k, v.ownBlock = some k → b ≤ k := by
  intro k hk
  rcases h.2 with ⟨rfl, _⟩ | ⟨g, cap, cur, rfl, h2, _⟩
  · cases hk
  · have : g = k := Option.some.inj hk
    omega

def tokensPost (x : Except Nat (List Hs.Tok)) (w : World) (e : Ending) (w' : World) : Prop :=
  Below w.heap.size w w' ∧
      match x with
      | .error n => e = .returned (.tuple #[.slice none 0 0, .int .i64 n])
      | .ok ts => ∃ v, e = .returned (.tuple #[v, .int .i64 0]) ∧ w'.ownsRow w.heap.size 158 3 v ts.length (toksC ts)

set_option maxRecDepth 100000 in
set_option maxHeartbeats 1000000 in
theorem tokens_any (s : ByteArray) (w : World) (hg : RefTabs w) (hs : s.size ≤ 2000) :
    Calls Tryz.prog 82 #[.string s] w (tokensPost (Hs.tokens s.data.toList) w) := by
  have hs2 : s.size ≤ 2000000000 := by omega
  obtain ⟨i0, hi, hz0, hz1, hz2⟩ := info_parts infoTok
  have HG : Hid (RefTabs w) := hg
  clear hg
  have hb0 : Hs.blankL s.size s.data.toList ≤ s.size := by have := Hs.blankL_le s.size s.data.toList; simpa using this
  have HB : Hid (Hs.tokens s.data.toList = Hs.toksL (s.size + 1) (s.data.toList.take (Hs.blankL s.size s.data.toList)) (s.data.toList.drop (Hs.blankL s.size s.data.toList))) := by
    show _ = _
    unfold Hs.tokens
    rw [show s.data.toList.length = s.size by simp]
  generalize hb1 : Hs.blankL s.size s.data.toList = b0 at *
  have HB1 : Hid (Hs.blankL s.size s.data.toList = b0) := hb1
  clear hb1
  generalize Hs.tokens s.data.toList = TS at *
  go_enter Tryz.func82, Tryz.ntmps82
  go_wp2_with (go_at_call 139; refine (blank_zero s _ hs2 b0 HB1).mono ?_; rintro e w' ⟨rfl, hw⟩; obtain rfl := hw.symm)
  go_loopw [4, 5] (fun v i wr => ∃ (k f : Nat) (ts : List Hs.Tok), k ≤ s.size ∧ s.size + 1 ≤ k + f ∧ ts.length ≤ k ∧ i = .int .i64 k ∧ wr.ownsRow w.heap.size 158 3 v ts.length (toksC ts) ∧ Below w.heap.size w wr ∧ Hid (TS = Hs.prepend ts (Hs.toksL f (s.data.toList.take k) (s.data.toList.drop k)))) (fun _ i _ => s.size - (intOf i).toNat)
  case atStart => exact ⟨b0, s.size + 1, [], hb0, by omega, by simp, rfl, World.ownsRow_nil _ _ _ _, Below.refl _ _, by rw [HB.out, Hs.prepend_nil]; rfl⟩
  case round =>
    obtain ⟨k, f, ts, hk, hf, htl, rfl, hown, hbw, HS⟩ := hrel
    clear HB HB1 hb0
    by_cases hlt : k < s.size
    · obtain ⟨f, rfl⟩ : ∃ f', f = f' + 1 := ⟨f - 1, by omega⟩
      have hgr : RefTabs wr := HG.out.below hbw
      have hl : (s.data.toList.drop k).length = s.size - k := by simp
      cases hok : (Hs.tokL (s.data.toList.drop k)).ok
      · have HF : Hid (TS = .error (Hs.lineOf (s.data.toList.take k))) := by
          rw [HS.out, Hs.toksL_bad _ _ _ (by omega) hok]; rfl
        have HK : Hid ((Hs.tokL (s.data.toList.drop k)).ok = false) := hok
        have HR : Hid (RefTabs wr) := hgr
        clear HS hok hl hgr
        go_wp2_with fail
        refine (next_any s k _ HR.out hs2 hlt).mono ?_
        rw [rawV, HK.out]
        generalize Hs.tokL (s.data.toList.drop k) = r
        rintro e w1 ⟨rfl, hb⟩
        go_wp2_with (go_at_call 81; refine (lineAt_at s _ k rfl _ hs2 hk).mono ?_; rintro e w' ⟨rfl, rfl⟩)
        go_ret2
        refine ⟨(hbw.trans (hb.mono (by have := hbw.size; omega))).alloc (by have := hbw.size; have := hb.size; omega) _, ?_⟩
        rw [HF.out]; exact rfl
      · have hsz := Hs.tokL_size _ hok
        rw [hl] at hsz
        obtain ⟨m, hm⟩ : ∃ m, m = k + (Hs.tokL (s.data.toList.drop k)).size + Hs.blankL s.size (s.data.toList.drop (k + (Hs.tokL (s.data.toList.drop k)).size)) := ⟨_, rfl⟩
        have hml : m ≤ s.size := by
          have := Hs.blankL_le s.size (s.data.toList.drop (k + (Hs.tokL (s.data.toList.drop k)).size))
          rw [List.length_drop, show s.data.toList.length = s.size by simp] at this
          omega
        have HT := toksL_at s k f hlt hok m hm
        have HF : Hid (TS = Hs.prepend (ts ++ [{ sort := (Hs.tokL (s.data.toList.drop k)).sort, text := (Hs.tokL (s.data.toList.drop k)).text, line := Hs.lineOf (s.data.toList.take k) }]) (Hs.toksL f (s.data.toList.take m) (s.data.toList.drop m))) := by
          rw [HS.out, HT, Hs.prepend_snoc]; rfl
        have HK : Hid ((Hs.tokL (s.data.toList.drop k)).ok = true) := hok
        have HR : Hid (RefTabs wr) := hgr
        have HM : Hid (k + (Hs.tokL (s.data.toList.drop k)).size + Hs.blankL s.size (s.data.toList.drop (k + (Hs.tokL (s.data.toList.drop k)).size)) = m) := hm.symm
        have hkm : k < m := by omega
        clear HS hok hl hgr HT hm
        go_wp2_with fail
        refine (next_any s k _ HR.out hs2 hlt).mono ?_
        rw [rawV, HK.out]
        clear HK
        generalize Hs.tokL (s.data.toList.drop k) = r at *
        rintro e w1 ⟨rfl, hb⟩
        have hown1 : w1.ownsRow w.heap.size 158 3 _ ts.length (toksC ts) := ownsRow_below hown hb
        have hbw1 : Below w.heap.size w w1 := hbw.trans (hb.mono hbw.size)
        clear hb hbw hown
        go_wp2_with (first | (go_at_call 81; refine (lineAt_at s _ k rfl _ hs2 hk).mono ?_; rintro e w' ⟨rfl, hw⟩; obtain rfl := hw.symm) | (at_builtin; refine wpList_append_own _ rfl _ _ 150 rfl w.heap.size 158 i0 _ 3 32 Tryz.underlying150 hi hz0 hz1 hz2 rfl (by decide) _ _ _ rfl ((hown1.alloc _).alloc _) ⟨w1.heap.size + 1, 0, none⟩ 1 1 (tokC { sort := r.sort, text := r.text, line := Hs.lineOf (s.data.toList.take k) }) rfl rfl ?c1 ?c2 ?c3 ?c4 ?c5 ?_))
        case c1 =>
          intro j u hj
          match j, hj with
          | 0, hj => simp [tokC] at hj; subst hj; simp [Addr.add, go_sem]
          | 1, hj => simp [tokC] at hj; subst hj; simp [Addr.add, go_sem]
          | 2, hj => simp [tokC] at hj; subst hj; simp [Addr.add, go_sem]
          | j + 3, hj => simp [tokC] at hj
        case c2 =>
          intro u hu
          simp only [tokC, List.mem_cons, List.not_mem_nil, or_false] at hu
          rcases hu with rfl | rfl | rfl <;> rfl
        case c3 => unfold maxLen; omega
        case c4 => omega
        case c5 => have := hbw1.size; simp; omega
        intro v' w2 hown2 hgrow _
        have hbw2 : Below w.heap.size w w2 := ((hbw1.alloc hbw1.size _).alloc (by have := hbw1.size; simp; omega) _).grown hgrow (by have := hbw1.size; simp; omega) (own_block_ge hown1)
        have hown3 : w2.ownsRow w.heap.size 158 3 v' (ts ++ [({ sort := r.sort, text := r.text, line := Hs.lineOf (s.data.toList.take k) } : Hs.Tok)]).length (toksC (ts ++ [{ sort := r.sort, text := r.text, line := Hs.lineOf (s.data.toList.take k) }])) := by
          rw [toksC_append, List.length_append]; exact hown2
        clear hown1 hown2 hgrow hbw1
        have hrz : k + r.size ≤ s.size := by omega
        go_wp2_with (first | (go_at_call 139; refine (blank_at s _ (k + r.size) (by simp) _ hs2 hrz m HM).mono ?_; rintro e w' ⟨rfl, hw⟩; obtain rfl := hw.symm))
        go_roundw
        case rel => exact ⟨m, f, _, hml, by omega, by simp; omega, rfl, hown3, hbw2, HF⟩
        case measure => simp [intOf]; omega
    · obtain rfl : k = s.size := by omega
      obtain ⟨f, rfl⟩ : ∃ f', f = f' + 1 := ⟨f - 1, by omega⟩
      have HF : Hid (TS = .ok (ts ++ [{ sort := 101, text := [], line := Hs.lineOf (s.data.toList.take s.size) }])) := by
        rw [HS.out, Hs.toksL_end _ _ _ (by simp)]; rfl
      clear HS
      go_wp2_with (first | (go_at_call 81; refine (lineAt_at s _ s.size rfl _ hs2 (Nat.le_refl _)).mono ?_; rintro e w' ⟨rfl, hw⟩; obtain rfl := hw.symm) | (at_builtin; refine wpList_append_own _ rfl _ _ 150 rfl w.heap.size 158 i0 _ 3 32 Tryz.underlying150 hi hz0 hz1 hz2 rfl (by decide) _ _ _ rfl (hown.alloc _) ⟨wr.heap.size, 0, none⟩ 1 1 (tokC { sort := 101, text := [], line := Hs.lineOf (s.data.toList.take s.size) }) rfl rfl ?c1 ?c2 ?c3 ?c4 ?c5 ?_))
      case c1 =>
        intro j u hj
        match j, hj with
        | 0, hj => simp [tokC] at hj; subst hj; simp [Addr.add, go_sem]
        | 1, hj => simp [tokC, bs] at hj; subst hj; simp [Addr.add, go_sem]
        | 2, hj => simp [tokC] at hj; subst hj; simp [Addr.add, go_sem]
        | j + 3, hj => simp [tokC] at hj
      case c2 =>
        intro u hu
        simp only [tokC, List.mem_cons, List.not_mem_nil, or_false] at hu
        rcases hu with rfl | rfl | rfl <;> rfl
      case c3 => unfold maxLen; omega
      case c4 => omega
      case c5 => have := hbw.size; simp; omega
      intro v' w2 hown2 hgrow _
      go_wp2_with fail
      go_ret2
      refine ⟨(hbw.alloc hbw.size _).grown hgrow (by have := hbw.size; simp; omega) (own_block_ge hown), ?_⟩
      rw [HF.out]
      refine ⟨v', rfl, ?_⟩
      rw [toksC_append, List.length_append]; exact hown2

end Go.Proofs.YtblbkfdhjfppkaaGreatDoor

/- Contracts of the document's answer: the parser's small steps. -/
namespace Go.Proofs.YtblbkfdhjfppkaaGreatDoor
open Go.RowKit

theorem mkHid {p : Prop} (h : p) : Hid p := h

/-- Where a parser lies, and where its tokens. -/
structure Ctx where
  pb : Nat
  g : Nat
  cap : Nat
  ts : List Hs.Tok

/-- A parser in memory, at a place. -/
structure At (C : Ctx) (w : World) (p bad : Nat) : Prop where
  blk : w.heap[C.pb]? = some (.cells #[.slice (some ⟨C.g, 0, none⟩) C.ts.length C.cap, .int .i64 p, .int .i64 bad] 155 (0, 0))
  row : ∃ cur, w.heap[C.g]? = some (.cells cur 158 (0, 0)) ∧ cur.toList.take (C.ts.length * 3) = toksC C.ts
  ne : C.g ≠ C.pb
  lt : p < C.ts.length
  len : C.ts.length ≤ 3000
  cap : C.ts.length ≤ C.cap
  last : (Hs.tk C.ts (C.ts.length - 1)).sort = 101
  pos : ∀ q, q < C.ts.length → (Hs.tk C.ts q).line ≠ 0

/-- What is kept: all that was there, but for the parser itself. -/
structure Fr (pb : Nat) (w w' : World) : Prop where
  os : w'.os = w.os
  tape : w'.tape = w.tape
  output : w'.output = w.output
  size : w.heap.size ≤ w'.heap.size
  block : ∀ k, k < w.heap.size → k ≠ pb → w'.heap[k]? = w.heap[k]?

theorem Fr.refl (pb : Nat) (w : World) : Fr pb w w := ⟨rfl, rfl, rfl, Nat.le_refl _, fun _ _ _ => rfl⟩
theorem Fr.trans {pb : Nat} {a b c : World} (h : Fr pb a b) (k : Fr pb b c) : Fr pb a c :=
  ⟨k.os.trans h.os, k.tape.trans h.tape, k.output.trans h.output, Nat.le_trans h.size k.size, fun i hi hn => (k.block i (Nat.lt_of_lt_of_le hi h.size) hn).trans (h.block i hi hn)⟩
theorem Fr.below {pb : Nat} {w w' : World} (h : Below w.heap.size w w') : Fr pb w w' := ⟨h.os, h.tape, h.output, h.size, fun k hk _ => h.block k hk⟩
theorem Fr.drew {pb : Nat} {a w : World} (h : Fr pb a w) : Fr pb a w.drew := ⟨h.os, h.tape, h.output, h.size, h.block⟩
theorem Fr.drewN {pb : Nat} {a w : World} (h : Fr pb a w) (n : Nat) : Fr pb a (w.drewN n) := ⟨h.os, h.tape, h.output, h.size, h.block⟩
theorem Fr.alloc {pb : Nat} {a w : World} (h : Fr pb a w) (o : Obj) : Fr pb a (w.alloc o) := h.trans (Fr.below ((Below.refl _ _).alloc (Nat.le_refl _) _))
theorem Fr.setCell {pb : Nat} {a w : World} (h : Fr pb a w) {p : Addr} (hp : p.block = pb ∨ a.heap.size ≤ p.block) (u : Value) : Fr pb a (w.setCell p u) :=
  ⟨h.os, h.tape, h.output, by have := h.size; simpa [World.setCell] using this, fun k hk hn => by rw [Below.heap_setCell _ _ _ _ (by omega)]; exact h.block k hk hn⟩

theorem lt_of_block {w : World} {b : Nat} {o : Obj} (h : w.heap[b]? = some o) : b < w.heap.size := by
  by_cases hx : b < w.heap.size
  · exact hx
  · rw [Array.getElem?_eq_none (by omega)] at h; cases h
theorem cell_of_block {w : World} {b i : Nat} {c : Array Value} {e : TypeId} (h : w.heap[b]? = some (.cells c e (0, 0))) {v : Value} (hv : c[i]? = some v) : w.cell? ⟨b, i, none⟩ = some v := by
  simp [World.cell?, h, hv]
theorem frozen_of_block {w : World} {b i : Nat} {c : Array Value} {e : TypeId} (h : w.heap[b]? = some (.cells c e (0, 0))) : w.frozen? ⟨b, i, none⟩ = false := by
  simp [World.frozen?, h]

theorem heap_setCell_at {w : World} {b i : Nat} {c : Array Value} {e : TypeId} {f : Nat × Nat} (h : w.heap[b]? = some (.cells c e f)) {u : Value} : (w.setCell ⟨b, i, none⟩ u).heap[b]? = some (.cells (c.setIfInBounds i u) e f) := by
  simp [World.setCell, Array.getElem?_modify, h]

theorem toksC_get (ts : List Hs.Tok) (p : Nat) (h : p < ts.length) : (toksC ts)[p * 3]? = some (.int .u8 (Hs.tk ts p).sort) ∧ (toksC ts)[p * 3 + 1]? = some (.string (bs (Hs.tk ts p).text)) ∧ (toksC ts)[p * 3 + 1 + 1]? = some (.int .i64 (Hs.tk ts p).line) := by
  induction ts generalizing p with
  | nil => simp at h
  | cons t ts ih =>
    cases p with
    | zero => simp [toksC, tokC, Hs.tk]
    | succ p =>
      have := ih p (by simpa using h)
      have e : ∀ j, (toksC (t :: ts))[(p + 1) * 3 + j]? = (toksC ts)[p * 3 + j]? := fun j => by
        rw [toksC, List.getElem?_append_right (by simp [tokC]; omega)]
        congr 1; simp [tokC]; omega
      have et : Hs.tk (t :: ts) (p + 1) = Hs.tk ts p := by simp [Hs.tk]
      rw [et]
      exact ⟨(e 0).trans this.1, (e 1).trans this.2.1, (e 2).trans this.2.2⟩

theorem At.tok {C : Ctx} {w : World} {p bad : Nat} (h : At C w p bad) : w.cell? ⟨C.g, p * 3, none⟩ = some (.int .u8 (Hs.tk C.ts p).sort) ∧ w.cell? ⟨C.g, p * 3 + 1, none⟩ = some (.string (bs (Hs.tk C.ts p).text)) ∧ w.cell? ⟨C.g, p * 3 + 1 + 1, none⟩ = some (.int .i64 (Hs.tk C.ts p).line) := by
  obtain ⟨cur, h1, h2⟩ := h.row
  obtain ⟨t0, t1, t2⟩ := toksC_get C.ts p h.lt
  have hl := toksC_length C.ts
  have e : ∀ j v, (toksC C.ts)[j]? = some v → w.cell? ⟨C.g, j, none⟩ = some v := fun j v hj => by
    have hjl : j < C.ts.length * 3 := by
      by_cases hx : j < C.ts.length * 3
      · exact hx
      · rw [List.getElem?_eq_none (by omega)] at hj; cases hj
    refine cell_of_block h1 ?_
    rw [← h2, List.getElem?_take, if_pos hjl] at hj
    simpa using hj
  exact ⟨e _ _ t0, e _ _ t1, e _ _ t2⟩

theorem At.below {C : Ctx} {w w' : World} {p bad : Nat} (h : At C w p bad) (hb : Below w.heap.size w w') : At C w' p bad := by
  obtain ⟨cur, h1, h2⟩ := h.row
  exact ⟨by rw [hb.block _ (lt_of_block h.blk)]; exact h.blk, ⟨cur, by rw [hb.block _ (lt_of_block h1)]; exact h1, h2⟩, h.ne, h.lt, h.len, h.cap, h.last, h.pos⟩

/-- A token as Go's value. -/
def tokV (t : Hs.Tok) : Value := .agg #[.int .u8 t.sort, .string (bs t.text), .int .i64 t.line]

set_option maxRecDepth 100000 in
set_option maxHeartbeats 1000000 in
theorem peek_cells (pb g cap p n : Nat) (w : World) (a c : Int) (b : ByteArray) (hp : p < n) (_hn : n ≤ 3000) (_hnc : n ≤ cap) (hpb : pb < w.heap.size) (hgb : g < w.heap.size)
   (c0 : w.cell? ⟨pb, 0, none⟩ = some (.slice (some ⟨g, 0, none⟩) n cap)) (c1 : w.cell? ⟨pb, 1, none⟩ = some (.int .i64 p))
   (t0 : w.cell? ⟨g, p * 3, none⟩ = some (.int .u8 a)) (t1 : w.cell? ⟨g, p * 3 + 1, none⟩ = some (.string b)) (t2 : w.cell? ⟨g, p * 3 + 1 + 1, none⟩ = some (.int .i64 c)) :
    Calls Tryz.prog 142 #[.pointer (some ⟨pb, 0, none⟩)] w fun e w' => e = .returned (.agg #[.int .u8 a, .string b, .int .i64 c]) ∧ Below w.heap.size w w' := by
  have d0 : ∀ o, (w.alloc o).cell? ⟨pb, 0, none⟩ = some (.slice (some ⟨g, 0, none⟩) n cap) := fun o => by rw [World.cell?_alloc_past _ _ _ hpb]; exact c0
  have d1 : ∀ o, (w.alloc o).cell? ⟨pb, 1, none⟩ = some (.int .i64 p) := fun o => by rw [World.cell?_alloc_past _ _ _ hpb]; exact c1
  have e0 : ∀ o, (w.alloc o).cell? ⟨g, p * 3, none⟩ = some (.int .u8 a) := fun o => by rw [World.cell?_alloc_past _ _ _ hgb]; exact t0
  have e1 : ∀ o, (w.alloc o).cell? ⟨g, p * 3 + 1, none⟩ = some (.string b) := fun o => by rw [World.cell?_alloc_past _ _ _ hgb]; exact t1
  have e2 : ∀ o, (w.alloc o).cell? ⟨g, p * 3 + 1 + 1, none⟩ = some (.int .i64 c) := fun o => by rw [World.cell?_alloc_past _ _ _ hgb]; exact t2
  clear c0 c1 t0 t1 t2
  go_enter Tryz.func142, Tryz.ntmps142
  go_wp2_with fail
  go_region
  go_wp2_with fail
  refine bodyPost_ret (v := .agg #[.int .u8 a, .string b, .int .i64 c]) (by simp [results, Tryz.results142, go_sem]) rfl ⟨rfl, ?_⟩
  exact ((Below.refl _ _).alloc (Nat.le_refl _) _).drew

theorem peek_any (C : Ctx) (w : World) (p bad : Nat) (h : At C w p bad) :
    Calls Tryz.prog 142 #[.pointer (some ⟨C.pb, 0, none⟩)] w fun e w' => e = .returned (tokV (Hs.tk C.ts p)) ∧ Below w.heap.size w w' :=
  peek_cells C.pb C.g C.cap p C.ts.length w _ _ _ h.lt h.len h.cap (lt_of_block h.blk) (by obtain ⟨_, h1, _⟩ := h.row; exact lt_of_block h1) (cell_of_block h.blk rfl) (cell_of_block h.blk rfl) h.tok.1 h.tok.2.1 h.tok.2.2

/-- The parser's own cells, in a world that has grown. -/
theorem At.cells {C : Ctx} {w w1 : World} {p bad : Nat} (h : At C w p bad) (hb : Below w.heap.size w w1) :
    C.pb < w1.heap.size ∧ (∀ o, (w1.alloc o).cell? ⟨C.pb, 1, none⟩ = some (.int .i64 p)) ∧ (∀ o, (w1.alloc o).cell? ⟨C.pb, 2, none⟩ = some (.int .i64 bad)) ∧ w1.cell? ⟨C.pb, 1, none⟩ = some (.int .i64 p) ∧ w1.cell? ⟨C.pb, 2, none⟩ = some (.int .i64 bad) ∧ (∀ i, (∀ o, (w1.alloc o).frozen? ⟨C.pb, i, none⟩ = false) ∧ w1.frozen? ⟨C.pb, i, none⟩ = false) := by
  have h1 := h.below hb
  have hl := lt_of_block h1.blk
  refine ⟨hl, fun o => ?_, fun o => ?_, cell_of_block h1.blk rfl, cell_of_block h1.blk rfl, fun i => ⟨fun o => ?_, frozen_of_block h1.blk⟩⟩
  · rw [World.cell?_alloc_past _ _ _ hl]; exact cell_of_block h1.blk rfl
  · rw [World.cell?_alloc_past _ _ _ hl]; exact cell_of_block h1.blk rfl
  · have h2 := h1.below ((Below.refl _ _).alloc (Nat.le_refl _) o)
    exact frozen_of_block h2.blk

set_option maxRecDepth 100000 in
set_option maxHeartbeats 1000000 in
theorem is_any (C : Ctx) (w : World) (p bad : Nat) (x : ByteArray) (h : At C w p bad) :
    Calls Tryz.prog 200 #[.pointer (some ⟨C.pb, 0, none⟩), .string x] w fun e w' => e = .returned (.bool (decide (bad = 0) && Hs.isT C.ts p x.data.toList)) ∧ Below w.heap.size w w' := by
  have HS : Hid (Hs.isT C.ts p x.data.toList = (((Hs.tk C.ts p).sort == 112 || (Hs.tk C.ts p).sort == 107) && (Hs.tk C.ts p).text == x.data.toList)) := rfl
  have HE : Hid (((bs (Hs.tk C.ts p).text).toList == x.toList) = ((Hs.tk C.ts p).text == x.data.toList)) := by show _ = _; rw [bs_toList, Lib.toList_data]
  have HP := peek_any C w p bad h
  rw [tokV] at HP
  have HP' : Hid (Calls Tryz.prog 142 #[.pointer (some ⟨C.pb, 0, none⟩)] w fun e w' => e = .returned (.agg #[.int .u8 (Hs.tk C.ts p).sort, .string (bs (Hs.tk C.ts p).text), .int .i64 (Hs.tk C.ts p).line]) ∧ Below w.heap.size w w') := HP
  clear HP
  have HA : Hid (At C w p bad) := h
  clear h
  generalize Hs.tk C.ts p = t at *
  obtain ⟨so, te, li⟩ := t
  simp only at HS HE HP'
  go_enter Tryz.func200, Tryz.ntmps200
  go_wp2_with fail
  refine HP'.out.mono ?_
  rintro e w1 ⟨rfl, hb⟩
  obtain ⟨hl, -, q2, -, -, -⟩ := HA.out.cells hb
  clear HP'
  have hfin : Below w.heap.size w (w1.alloc (.cells #[.int .u8 so, .string (bs te), .int .i64 li] 158)) := hb.alloc hb.size _
  by_cases h0 : bad = 0
  · subst h0
    by_cases h1 : so = 112
    · subst h1
      go_wp2_with fail
      go_ret
      exact ⟨ret_bool (by rw [HS.out, ← HE.out]; simp), hfin⟩
    · have e1 : ((so : Int) == 112) = false := by simp; omega
      by_cases h2 : so = 107
      · subst h2
        go_wp2_with fail
        go_ret
        exact ⟨ret_bool (by rw [HS.out, ← HE.out]; simp), hfin⟩
      · have e2 : ((so : Int) == 107) = false := by simp; omega
        go_wp2_with fail
        go_ret
        exact ⟨ret_bool (by rw [HS.out]; simp [h1, h2]), hfin⟩
  · have e0 : ((bad : Int) == 0) = false := by simp; omega
    go_wp2_with fail
    go_ret
    exact ⟨ret_bool (by simp [h0]), hfin⟩

/-- The parser at a new place, or with a fault. -/
theorem At.move {C : Ctx} {w w1 : World} {p bad : Nat} (h : At C w p bad) (hb : Below w.heap.size w w1) (q : Nat) (hq : q < C.ts.length) :
    At C (w1.setCell ⟨C.pb, 1, none⟩ (.int .i64 q)) q bad ∧ Fr C.pb w (w1.setCell ⟨C.pb, 1, none⟩ (.int .i64 q)) := by
  have h1 := h.below hb
  obtain ⟨cur, r1, r2⟩ := h1.row
  refine ⟨⟨?_, ⟨cur, ?_, r2⟩, h.ne, hq, h.len, h.cap, h.last, h.pos⟩, Fr.setCell (p := ⟨C.pb, 1, none⟩) (Fr.below hb) (Or.inl rfl) _⟩
  · rw [heap_setCell_at h1.blk]; rfl
  · rw [Below.heap_setCell _ _ _ _ h.ne]; exact r1
theorem At.spoil {C : Ctx} {w w1 : World} {p bad : Nat} (h : At C w p bad) (hb : Below w.heap.size w w1) (q : Nat) :
    At C (w1.setCell ⟨C.pb, 2, none⟩ (.int .i64 q)) p q ∧ Fr C.pb w (w1.setCell ⟨C.pb, 2, none⟩ (.int .i64 q)) := by
  have h1 := h.below hb
  obtain ⟨cur, r1, r2⟩ := h1.row
  refine ⟨⟨?_, ⟨cur, ?_, r2⟩, h.ne, h.lt, h.len, h.cap, h.last, h.pos⟩, Fr.setCell (p := ⟨C.pb, 2, none⟩) (Fr.below hb) (Or.inl rfl) _⟩
  · rw [heap_setCell_at h1.blk]; rfl
  · rw [Below.heap_setCell _ _ _ _ h.ne]; exact r1

theorem fld_line (a : Int) (b : ByteArray) (c : Int) (w : World) : (Instr.field 158 (.agg #[.int .u8 a, .string b, .int .i64 c]) 2).run Tryz.prog w = .ok (.int .i64 c) w := by kernel_rfl

set_option maxRecDepth 100000 in
set_option maxHeartbeats 1000000 in
theorem fail_good (C : Ctx) (w : World) (p : Nat) (h : At C w p 0) :
    Calls Tryz.prog 84 #[.pointer (some ⟨C.pb, 0, none⟩)] w fun e w' => e = .returned (.tuple #[]) ∧ At C w' p (Hs.tk C.ts p).line ∧ Fr C.pb w w' := by
  obtain ⟨hl, -, -, -, q2, fz⟩ := h.cells (Below.refl _ w)
  have HP := peek_any C w p 0 h
  rw [tokV] at HP
  have HA : Hid (At C w p 0) := h
  clear h
  have HP' := mkHid HP
  clear HP
  go_enter Tryz.func84, Tryz.ntmps84
  go_wp2_with fail
  refine HP'.out.mono ?_
  rintro e w1 ⟨rfl, hb⟩
  obtain ⟨hl1, -, -, -, r2, fz1⟩ := HA.out.cells hb
  clear HP' fz
  have hf2 := (fz1 2).2
  clear fz1
  have hfl := fld_line
  go_wp2_with fail
  go_end0
  exact ⟨rfl, HA.out.spoil hb _⟩

set_option maxRecDepth 100000 in
set_option maxHeartbeats 1000000 in
theorem fail_bad (C : Ctx) (w : World) (p bad : Nat) (h : At C w p bad) (h0 : bad ≠ 0) :
    Calls Tryz.prog 84 #[.pointer (some ⟨C.pb, 0, none⟩)] w fun e w' => e = .returned (.tuple #[]) ∧ w' = w := by
  obtain ⟨hl, -, -, -, q2, fz⟩ := h.cells (Below.refl _ w)
  have e0 : ((bad : Int) == 0) = false := by simp; omega
  clear h
  go_enter Tryz.func84, Tryz.ntmps84
  go_wp2_with fail
  go_end0
  exact ⟨rfl, rfl⟩

end Go.Proofs.YtblbkfdhjfppkaaGreatDoor

/- Contracts of the document's answer: a token that must come, one that may, a name. -/
namespace Go.Proofs.YtblbkfdhjfppkaaGreatDoor
open Go.RowKit

theorem At.next {C : Ctx} {w : World} {p bad : Nat} (h : At C w p bad) (hs : (Hs.tk C.ts p).sort ≠ 101) : p + 1 < C.ts.length := by
  have h1 := h.lt
  have h2 := h.last
  by_cases hp : p = C.ts.length - 1
  · subst hp; exact absurd h2 hs
  · omega
theorem isT_sort {ts : List Hs.Tok} {p : Nat} {x : List UInt8} (h : Hs.isT ts p x = true) : (Hs.tk ts p).sort ≠ 101 := by
  intro e; unfold Hs.isT at h; rw [e] at h; simp at h
theorem Fr.below_trans {pb : Nat} {a b c : World} (h : Below a.heap.size a b) (k : Fr pb b c) : Fr pb a c := (Fr.below h).trans k
theorem Fr.trans_below {pb : Nat} {a b c : World} (h : Fr pb a b) (k : Below b.heap.size b c) : Fr pb a c := h.trans (Fr.below k)

set_option maxRecDepth 100000 in
set_option maxHeartbeats 1000000 in
theorem take_ok (C : Ctx) (w : World) (p : Nat) (x : ByteArray) (h : At C w p 0) (hi : Hs.isT C.ts p x.data.toList = true) :
    Calls Tryz.prog 198 #[.pointer (some ⟨C.pb, 0, none⟩), .string x] w fun e w' => e = .returned (.tuple #[]) ∧ At C w' (p + 1) 0 ∧ Fr C.pb w w' := by
  have hp : p + 1 < C.ts.length := h.next (isT_sort hi)
  have hlen := h.len
  have HI := is_any C w p 0 x h
  rw [hi] at HI
  have HI' := mkHid HI
  have HA := mkHid h
  clear h HI hi
  go_enter Tryz.func198, Tryz.ntmps198
  go_wp2_with fail
  refine HI'.out.mono ?_
  rintro e w1 ⟨rfl, hb⟩
  obtain ⟨hl, -, -, q1, q2, fz⟩ := HA.out.cells hb
  have hf1 := (fz 1).2
  clear fz HI'
  go_wp2_with fail
  go_end0
  refine ⟨rfl, ?_⟩
  have := HA.out.move hb (p + 1) hp
  simpa using this

set_option maxRecDepth 100000 in
set_option maxHeartbeats 1000000 in
theorem take_no (C : Ctx) (w : World) (p : Nat) (x : ByteArray) (h : At C w p 0) (hi : Hs.isT C.ts p x.data.toList = false) :
    Calls Tryz.prog 198 #[.pointer (some ⟨C.pb, 0, none⟩), .string x] w fun e w' => e = .returned (.tuple #[]) ∧ At C w' p (Hs.tk C.ts p).line ∧ Fr C.pb w w' := by
  have HI := is_any C w p 0 x h
  rw [hi] at HI
  have HI' := mkHid HI
  have HA := mkHid h
  clear h HI hi
  go_enter Tryz.func198, Tryz.ntmps198
  go_wp2_with fail
  refine HI'.out.mono ?_
  rintro e w1 ⟨rfl, hb⟩
  have HF := mkHid (fail_good C w1 p (HA.out.below hb))
  clear HI'
  go_wp2_with fail
  refine HF.out.mono ?_
  rintro e w2 ⟨rfl, hat, hfr⟩
  go_wp2_with fail
  refine bodyPost_ret (results_none rfl _ _ _) rfl ?_
  exact ⟨rfl, hat, Fr.below_trans hb hfr⟩

set_option maxRecDepth 100000 in
set_option maxHeartbeats 1000000 in
theorem take_bad (C : Ctx) (w : World) (p bad : Nat) (x : ByteArray) (h : At C w p bad) (h0 : bad ≠ 0) :
    Calls Tryz.prog 198 #[.pointer (some ⟨C.pb, 0, none⟩), .string x] w fun e w' => e = .returned (.tuple #[]) ∧ At C w' p bad ∧ Fr C.pb w w' := by
  have HI := is_any C w p bad x h
  rw [decide_eq_false h0] at HI
  have HI' := mkHid HI
  have HA := mkHid h
  clear h HI
  go_enter Tryz.func198, Tryz.ntmps198
  go_wp2_with fail
  refine HI'.out.mono ?_
  rintro e w1 ⟨rfl, hb⟩
  have HF := mkHid (fail_bad C w1 p bad (HA.out.below hb) h0)
  clear HI'
  go_wp2_with fail
  refine HF.out.mono ?_
  rintro e w2 ⟨rfl, hw⟩
  obtain rfl := hw.symm
  go_wp2_with fail
  refine bodyPost_ret (results_none rfl _ _ _) rfl ?_
  exact ⟨rfl, HA.out.below hb, Fr.below hb⟩

set_option maxRecDepth 100000 in
set_option maxHeartbeats 1000000 in
theorem eat_ok (C : Ctx) (w : World) (p : Nat) (x : ByteArray) (h : At C w p 0) (hi : Hs.isT C.ts p x.data.toList = true) :
    Calls Tryz.prog 201 #[.pointer (some ⟨C.pb, 0, none⟩), .string x] w fun e w' => e = .returned (.bool true) ∧ At C w' (p + 1) 0 ∧ Fr C.pb w w' := by
  have hp : p + 1 < C.ts.length := h.next (isT_sort hi)
  have hlen := h.len
  have HI := is_any C w p 0 x h
  rw [hi] at HI
  have HI' := mkHid HI
  have HA := mkHid h
  clear h HI hi
  go_enter Tryz.func201, Tryz.ntmps201
  go_wp2_with fail
  refine HI'.out.mono ?_
  rintro e w1 ⟨rfl, hb⟩
  obtain ⟨hl, -, -, q1, q2, fz⟩ := HA.out.cells hb
  have hf1 := (fz 1).2
  clear fz HI'
  go_wp2_with fail
  go_ret
  refine ⟨rfl, ?_⟩
  have := HA.out.move hb (p + 1) hp
  simpa using this

set_option maxRecDepth 100000 in
set_option maxHeartbeats 1000000 in
theorem eat_no (C : Ctx) (w : World) (p bad : Nat) (x : ByteArray) (h : At C w p bad) (hi : (decide (bad = 0) && Hs.isT C.ts p x.data.toList) = false) :
    Calls Tryz.prog 201 #[.pointer (some ⟨C.pb, 0, none⟩), .string x] w fun e w' => e = .returned (.bool false) ∧ Below w.heap.size w w' := by
  have HI := is_any C w p bad x h
  rw [hi] at HI
  have HI' := mkHid HI
  have HA := mkHid h
  clear h HI hi
  go_enter Tryz.func201, Tryz.ntmps201
  go_wp2_with fail
  refine HI'.out.mono ?_
  rintro e w1 ⟨rfl, hb⟩
  go_wp2_with fail
  go_ret
  exact ⟨rfl, hb⟩

set_option maxRecDepth 100000 in
set_option maxHeartbeats 1000000 in
theorem name_ok (C : Ctx) (w : World) (p : Nat) (h : At C w p 0) (hi : (Hs.tk C.ts p).sort = 110) :
    Calls Tryz.prog 199 #[.pointer (some ⟨C.pb, 0, none⟩)] w fun e w' => e = .returned (.tuple #[.string (bs (Hs.tk C.ts p).text), .int .i64 (Hs.tk C.ts p).line]) ∧ At C w' (p + 1) 0 ∧ Fr C.pb w w' := by
  have hp : p + 1 < C.ts.length := h.next (by omega)
  have hlen := h.len
  have HP := peek_any C w p 0 h
  rw [tokV, hi] at HP
  have HP' := mkHid HP
  have HA := mkHid h
  clear h HP hi
  go_enter Tryz.func199, Tryz.ntmps199
  go_wp2_with fail
  refine HP'.out.mono ?_
  rintro e w1 ⟨rfl, hb⟩
  obtain ⟨hl, q1, q2, -, -, fz⟩ := HA.out.cells hb
  have hf1 := (fz 1).1
  clear fz HP'
  go_wp2_with fail
  go_quiet (fail)
  go_wp2_with fail
  go_ret2
  refine ⟨rfl, ?_⟩
  have hm := HA.out.move hb (p + 1) hp
  rw [show (((p + 1 : Nat) : Int)) = (p : Int) + 1 by simp] at hm
  have hb2 := fun (o : Obj) => (below_drewN ((Below.refl (w1.setCell ⟨C.pb, 1, none⟩ (.int .i64 ((p : Int) + 1))).heap.size _).alloc (Nat.le_refl _) o) nq)
  exact ⟨hm.1.below (hb2 _), hm.2.trans_below (hb2 _)⟩

set_option maxRecDepth 100000 in
set_option maxHeartbeats 1000000 in
theorem name_no (C : Ctx) (w : World) (p : Nat) (h : At C w p 0) (hi : (Hs.tk C.ts p).sort ≠ 110) :
    Calls Tryz.prog 199 #[.pointer (some ⟨C.pb, 0, none⟩)] w fun e w' => e = .returned (.tuple #[.string (bs []), .int .i64 0]) ∧ At C w' p (Hs.tk C.ts p).line ∧ Fr C.pb w w' := by
  have HP := peek_any C w p 0 h
  rw [tokV] at HP
  have HP' := mkHid HP
  have HA := mkHid h
  have e1 : (((Hs.tk C.ts p).sort : Int) != 110) = true := by simp; omega
  clear h HP hi
  go_enter Tryz.func199, Tryz.ntmps199
  go_wp2_with fail
  refine HP'.out.mono ?_
  rintro e w1 ⟨rfl, hb⟩
  obtain ⟨hl, q1, q2, -, -, fz⟩ := HA.out.cells hb
  clear fz HP'
  have HF := mkHid (fun o => fail_good C (w1.alloc o) p ((HA.out.below hb).below ((Below.refl _ _).alloc (Nat.le_refl _) o)))
  go_wp2_with fail
  refine (HF.out _).mono ?_
  rintro e w2 ⟨rfl, hat, hfr⟩
  go_wp2_with fail
  go_ret2
  exact ⟨rfl, hat, Fr.below_trans (hb.alloc hb.size _) hfr⟩

set_option maxRecDepth 100000 in
set_option maxHeartbeats 1000000 in
theorem name_bad (C : Ctx) (w : World) (p bad : Nat) (h : At C w p bad) (h0 : bad ≠ 0) :
    Calls Tryz.prog 199 #[.pointer (some ⟨C.pb, 0, none⟩)] w fun e w' => e = .returned (.tuple #[.string (bs []), .int .i64 0]) ∧ At C w' p bad ∧ Fr C.pb w w' := by
  have HP := peek_any C w p bad h
  rw [tokV] at HP
  have HP' := mkHid HP
  have HA := mkHid h
  have e1 : ((bad : Int) != 0) = true := by simp; omega
  clear h HP
  go_enter Tryz.func199, Tryz.ntmps199
  go_wp2_with fail
  refine HP'.out.mono ?_
  rintro e w1 ⟨rfl, hb⟩
  obtain ⟨hl, q1, q2, -, -, fz⟩ := HA.out.cells hb
  clear fz HP'
  have hat := fun o => (HA.out.below hb).below ((Below.refl _ _).alloc (Nat.le_refl _) o)
  have HF := mkHid (fun o => fail_bad C (w1.alloc o) p bad (hat o) h0)
  have HAT := mkHid hat
  clear hat
  go_wp2_with fail
  refine (HF.out _).mono ?_
  rintro e w2 ⟨rfl, hw⟩
  obtain rfl := hw.symm
  go_wp2_with fail
  go_ret2
  exact ⟨rfl, HAT.out _, Fr.below (hb.alloc hb.size _)⟩

end Go.Proofs.YtblbkfdhjfppkaaGreatDoor

/- How a tree of the document's answer lies in memory. -/
namespace Go.Proofs.YtblbkfdhjfppkaaGreatDoor
open Go.RowKit

/-- Two lists, one by one. -/
def All2 (R : Value → Hs.Ast → Prop) : List Value → List Hs.Ast → Prop
  | [], [] => True
  | v :: vs, a :: ks => R v a ∧ All2 R vs ks
  | _, _ => False

theorem All2.mono {R S : Value → Hs.Ast → Prop} (h : ∀ v a, R v a → S v a) : ∀ {vs ks}, All2 R vs ks → All2 S vs ks
  | [], [], _ => trivial
  | _ :: _, _ :: _, ⟨h1, h2⟩ => ⟨h _ _ h1, All2.mono h h2⟩
  | [], _ :: _, h => h.elim
  | _ :: _, [], h => h.elim
theorem All2.length {R : Value → Hs.Ast → Prop} : ∀ {vs ks}, All2 R vs ks → vs.length = ks.length
  | [], [], _ => rfl
  | _ :: vs, _ :: ks, ⟨_, h2⟩ => by simp [All2.length h2]
  | [], _ :: _, h => h.elim
  | _ :: _, [], h => h.elim
theorem All2.snoc {R : Value → Hs.Ast → Prop} : ∀ {vs ks} {v a}, All2 R vs ks → R v a → All2 R (vs ++ [v]) (ks ++ [a])
  | [], [], _, _, _, h => ⟨h, trivial⟩
  | _ :: _, _ :: _, _, _, ⟨h1, h2⟩, h => ⟨h1, All2.snoc h2 h⟩
  | [], _ :: _, _, _, h, _ => h.elim
  | _ :: _, [], _, _, h, _ => h.elim

/-- The parts of a node: a slice of pointers. -/
def KidD (R : Value → Hs.Ast → Prop) (F : Nat → Prop) (w : World) (kv : Value) (ks : List Hs.Ast) : Prop :=
  (kv = .slice none 0 0 ∧ ks = []) ∨
  ∃ g cap cur vs, kv = .slice (some ⟨g, 0, none⟩) ks.length cap ∧ F g ∧ w.heap[g]? = some (.cells cur 25 (0, 0)) ∧ ks.length ≤ cap ∧ cur.toList.take ks.length = vs ∧ All2 R vs ks

/-- A tree, all blocks of which are among F. -/
def RepD : Nat → (Nat → Prop) → World → Value → Hs.Ast → Prop
  | 0, _, _, _, _ => False
  | d + 1, F, w, v, a => ∃ b kv, v = .pointer (some ⟨b, 0, none⟩) ∧ F b ∧ w.heap[b]? = some (.cells #[.string (bs a.op), .int .i64 a.line, .string (bs a.text), kv] 92 (0, 0)) ∧ KidD (RepD d F w) F w kv a.kids

def Rep (F : Nat → Prop) (w : World) (v : Value) (a : Hs.Ast) : Prop := ∃ d, RepD d F w v a

theorem KidD.mono {R S : Value → Hs.Ast → Prop} {F G : Nat → Prop} {w : World} {kv : Value} {ks : List Hs.Ast} (h : KidD R F w kv ks) (hR : ∀ v a, R v a → S v a) (hF : ∀ b, F b → G b) : KidD S G w kv ks := by
  rcases h with h | ⟨g, cap, cur, vs, h1, h2, h3, h4, h5, h6⟩
  · exact Or.inl h
  · exact Or.inr ⟨g, cap, cur, vs, h1, hF _ h2, h3, h4, h5, h6.mono hR⟩
theorem RepD.mono {F G : Nat → Prop} {w : World} (hF : ∀ b, F b → G b) : ∀ {d e : Nat} {v a}, RepD d F w v a → d ≤ e → RepD e G w v a
  | d + 1, e + 1, v, a, ⟨b, kv, h1, h2, h3, h4⟩, hde => ⟨b, kv, h1, hF _ h2, h3, h4.mono (fun _ _ h => RepD.mono hF h (by omega)) hF⟩
  | 0, _, _, _, h, _ => h.elim
theorem RepD.keep {F : Nat → Prop} {w w' : World} (hk : ∀ b, F b → w'.heap[b]? = w.heap[b]?) : ∀ {d : Nat} {v a}, RepD d F w v a → RepD d F w' v a
  | d + 1, v, a, ⟨b, kv, h1, h2, h3, h4⟩ => by
    refine ⟨b, kv, h1, h2, by rw [hk b h2]; exact h3, ?_⟩
    rcases h4 with h4 | ⟨g, cap, cur, vs, k1, k2, k3, k4, k5, k6⟩
    · exact Or.inl h4
    · exact Or.inr ⟨g, cap, cur, vs, k1, k2, by rw [hk g k2]; exact k3, k4, k5, k6.mono fun _ _ h => RepD.keep hk h⟩
theorem Rep.mono {F G : Nat → Prop} {w : World} {v : Value} {a : Hs.Ast} (h : Rep F w v a) (hF : ∀ b, F b → G b) : Rep G w v a := by
  obtain ⟨d, h⟩ := h; exact ⟨d, h.mono hF (Nat.le_refl _)⟩
theorem Rep.keep {F : Nat → Prop} {w w' : World} {v : Value} {a : Hs.Ast} (h : Rep F w v a) (hk : ∀ b, F b → w'.heap[b]? = w.heap[b]?) : Rep F w' v a := by
  obtain ⟨d, h⟩ := h; exact ⟨d, h.keep hk⟩
theorem Rep.ptr {F : Nat → Prop} {w : World} {v : Value} {a : Hs.Ast} (h : Rep F w v a) : ∃ b, v = .pointer (some ⟨b, 0, none⟩) := by
  obtain ⟨d, h⟩ := h
  cases d with
  | zero => exact h.elim
  | succ d => obtain ⟨b, _, h1, _⟩ := h; exact ⟨b, h1⟩
/-- One depth for all. -/
theorem All2.depth {F : Nat → Prop} {w : World} : ∀ {vs ks}, All2 (Rep F w) vs ks → ∃ d, All2 (RepD d F w) vs ks
  | [], [], _ => ⟨0, trivial⟩
  | _ :: _, _ :: _, ⟨⟨d, h1⟩, h2⟩ => by
    obtain ⟨e, h3⟩ := All2.depth h2
    exact ⟨max d e, h1.mono (fun _ h => h) (Nat.le_max_left _ _), h3.mono fun _ _ h => h.mono (fun _ h => h) (Nat.le_max_right _ _)⟩
  | [], _ :: _, h => h.elim
  | _ :: _, [], h => h.elim
/-- The parts, each by itself. -/
def Kid (F : Nat → Prop) (w : World) (kv : Value) (ks : List Hs.Ast) : Prop := KidD (Rep F w) F w kv ks
theorem Kid.depth {F : Nat → Prop} {w : World} {kv : Value} {ks : List Hs.Ast} (h : Kid F w kv ks) : ∃ d, KidD (RepD d F w) F w kv ks := by
  rcases h with h | ⟨g, cap, cur, vs, h1, h2, h3, h4, h5, h6⟩
  · exact ⟨0, Or.inl h⟩
  · obtain ⟨d, h7⟩ := h6.depth
    exact ⟨d, Or.inr ⟨g, cap, cur, vs, h1, h2, h3, h4, h5, h7⟩⟩
/-- A node out of its parts. -/
theorem Rep.mk {F : Nat → Prop} {w : World} {b : Nat} {kv : Value} {a : Hs.Ast} (hb : F b) (h : w.heap[b]? = some (.cells #[.string (bs a.op), .int .i64 a.line, .string (bs a.text), kv] 92 (0, 0))) (hk : Kid F w kv a.kids) : Rep F w (.pointer (some ⟨b, 0, none⟩)) a := by
  obtain ⟨d, hd⟩ := hk.depth
  exact ⟨d + 1, b, kv, rfl, hb, h, hd⟩
theorem Kid.mono {F G : Nat → Prop} {w : World} {kv : Value} {ks : List Hs.Ast} (h : Kid F w kv ks) (hF : ∀ b, F b → G b) : Kid G w kv ks := KidD.mono h (fun _ _ h => h.mono hF) hF
theorem Kid.keep {F : Nat → Prop} {w w' : World} {kv : Value} {ks : List Hs.Ast} (h : Kid F w kv ks) (hk : ∀ b, F b → w'.heap[b]? = w.heap[b]?) : Kid F w' kv ks := by
  rcases h with h | ⟨g, cap, cur, vs, k1, k2, k3, k4, k5, k6⟩
  · exact Or.inl h
  · exact Or.inr ⟨g, cap, cur, vs, k1, k2, by rw [hk g k2]; exact k3, k4, k5, k6.mono fun _ _ h => h.keep hk⟩

/-- From a block number up to another. -/
def Btw (lo hi : Nat) (b : Nat) : Prop := lo ≤ b ∧ b < hi

/-- The parser in a state: at a place, or with a fault. -/
def AtS (C : Ctx) (w : World) : Except Nat Nat → Prop
  | .ok q => At C w q 0
  | .error l => l ≠ 0 ∧ ∃ q, At C w q l

/-- The state behind what was read. -/
def stR {α : Type} : Hs.R α → Except Nat Nat
  | .ok (_, q) => .ok q
  | .error l => .error l

/-- To read from a state on. -/
def onS {α : Type} (S : Except Nat Nat) (X : Nat → Hs.R α) : Hs.R α :=
  match S with
  | .ok q => X q
  | .error l => .error l

def isS (C : Ctx) (S : Except Nat Nat) (x : List UInt8) : Bool :=
  match S with
  | .ok q => Hs.isT C.ts q x
  | .error _ => false
def eatS (C : Ctx) (S : Except Nat Nat) (x : List UInt8) : Except Nat Nat :=
  match S with
  | .ok q => if Hs.isT C.ts q x then .ok (q + 1) else .ok q
  | .error l => .error l
def takeS (C : Ctx) (S : Except Nat Nat) (x : List UInt8) : Except Nat Nat :=
  match S with
  | .ok q => if Hs.isT C.ts q x then .ok (q + 1) else .error (Hs.tk C.ts q).line
  | .error l => .error l
def nameS (C : Ctx) (S : Except Nat Nat) : Except Nat Nat :=
  match S with
  | .ok q => if (Hs.tk C.ts q).sort == 110 then .ok (q + 1) else .error (Hs.tk C.ts q).line
  | .error l => .error l
def nameT (C : Ctx) (S : Except Nat Nat) : List UInt8 :=
  match S with
  | .ok q => if (Hs.tk C.ts q).sort == 110 then (Hs.tk C.ts q).text else []
  | .error _ => []
def nameL (C : Ctx) (S : Except Nat Nat) : Nat :=
  match S with
  | .ok q => if (Hs.tk C.ts q).sort == 110 then (Hs.tk C.ts q).line else 0
  | .error _ => 0

theorem AtS.below {C : Ctx} {w w' : World} {S : Except Nat Nat} (h : AtS C w S) (hb : Below w.heap.size w w') : AtS C w' S := by
  cases S with
  | ok q => exact At.below h hb
  | error l => obtain ⟨h0, q, h1⟩ := h; exact ⟨h0, q, h1.below hb⟩

theorem isS_ok (C : Ctx) (q : Nat) (x : List UInt8) : isS C (.ok q) x = Hs.isT C.ts q x := rfl
theorem isS_er (C : Ctx) (l : Nat) (x : List UInt8) : isS C (.error l) x = false := rfl
theorem takeS_yes {C : Ctx} {q : Nat} {x : List UInt8} (h : Hs.isT C.ts q x = true) : takeS C (.ok q) x = .ok (q + 1) := by unfold takeS; simp only [h, if_true]
theorem takeS_no {C : Ctx} {q : Nat} {x : List UInt8} (h : Hs.isT C.ts q x = false) : takeS C (.ok q) x = .error (Hs.tk C.ts q).line := by unfold takeS; simp [h]
theorem takeS_er {C : Ctx} {l : Nat} {x : List UInt8} : takeS C (.error l) x = .error l := rfl
theorem eatS_yes {C : Ctx} {q : Nat} {x : List UInt8} (h : Hs.isT C.ts q x = true) : eatS C (.ok q) x = .ok (q + 1) := by unfold eatS; simp only [h, if_true]
theorem eatS_no {C : Ctx} {q : Nat} {x : List UInt8} (h : Hs.isT C.ts q x = false) : eatS C (.ok q) x = .ok q := by unfold eatS; simp [h]
theorem eatS_er {C : Ctx} {l : Nat} {x : List UInt8} : eatS C (.error l) x = .error l := rfl
theorem nameS_yes {C : Ctx} {q : Nat} (h : (Hs.tk C.ts q).sort = 110) : nameS C (.ok q) = .ok (q + 1) ∧ nameT C (.ok q) = (Hs.tk C.ts q).text ∧ nameL C (.ok q) = (Hs.tk C.ts q).line := by
  unfold nameS nameT nameL; simp [h]
theorem nameS_no {C : Ctx} {q : Nat} (h : (Hs.tk C.ts q).sort ≠ 110) : nameS C (.ok q) = .error (Hs.tk C.ts q).line ∧ nameT C (.ok q) = [] ∧ nameL C (.ok q) = 0 := by
  have e : ((Hs.tk C.ts q).sort == 110) = false := by simpa using h
  unfold nameS nameT nameL; simp [e]

theorem is_S (C : Ctx) (w : World) (S : Except Nat Nat) (x : ByteArray) (h : AtS C w S) :
    Calls Tryz.prog 200 #[.pointer (some ⟨C.pb, 0, none⟩), .string x] w fun e w' => e = .returned (.bool (isS C S x.data.toList)) ∧ Below w.heap.size w w' := by
  cases S with
  | ok q =>
    have := is_any C w q 0 x h
    rw [decide_eq_true rfl, Bool.true_and] at this
    exact this
  | error l =>
    obtain ⟨h0, q, h1⟩ := h
    have := is_any C w q l x h1
    rw [decide_eq_false h0] at this
    exact this

theorem take_S (C : Ctx) (w : World) (S : Except Nat Nat) (x : ByteArray) (h : AtS C w S) :
    Calls Tryz.prog 198 #[.pointer (some ⟨C.pb, 0, none⟩), .string x] w fun e w' => e = .returned (.tuple #[]) ∧ AtS C w' (takeS C S x.data.toList) ∧ Fr C.pb w w' := by
  cases S with
  | ok q =>
    have h' : At C w q 0 := h
    cases hi : Hs.isT C.ts q x.data.toList
    · rw [takeS_no hi]
      exact (take_no C w q x h' hi).mono fun e w' ⟨h1, h2, h3⟩ => ⟨h1, ⟨h'.pos q h'.lt, q, h2⟩, h3⟩
    · rw [takeS_yes hi]
      exact take_ok C w q x h' hi
  | error l =>
    obtain ⟨h0, q, h1⟩ := h
    exact (take_bad C w q l x h1 h0).mono fun e w' ⟨k1, k2, k3⟩ => ⟨k1, ⟨h0, q, k2⟩, k3⟩

theorem eat_S (C : Ctx) (w : World) (S : Except Nat Nat) (x : ByteArray) (h : AtS C w S) :
    Calls Tryz.prog 201 #[.pointer (some ⟨C.pb, 0, none⟩), .string x] w fun e w' => e = .returned (.bool (isS C S x.data.toList)) ∧ AtS C w' (eatS C S x.data.toList) ∧ Fr C.pb w w' := by
  cases S with
  | ok q =>
    have h' : At C w q 0 := h
    rw [isS_ok]
    cases hi : Hs.isT C.ts q x.data.toList
    · rw [eatS_no hi]
      exact (eat_no C w q 0 x h' (by rw [hi]; rfl)).mono fun e w' ⟨h1, h2⟩ => ⟨h1, h'.below h2, Fr.below h2⟩
    · rw [eatS_yes hi]
      exact eat_ok C w q x h' hi
  | error l =>
    obtain ⟨h0, q, h1⟩ := h
    exact (eat_no C w q l x h1 (by rw [decide_eq_false h0]; rfl)).mono fun e w' ⟨k1, k2⟩ => ⟨k1, ⟨h0, q, h1.below k2⟩, Fr.below k2⟩

theorem name_S (C : Ctx) (w : World) (S : Except Nat Nat) (h : AtS C w S) :
    Calls Tryz.prog 199 #[.pointer (some ⟨C.pb, 0, none⟩)] w fun e w' => e = .returned (.tuple #[.string (bs (nameT C S)), .int .i64 (nameL C S)]) ∧ AtS C w' (nameS C S) ∧ Fr C.pb w w' := by
  cases S with
  | ok q =>
    have h' : At C w q 0 := h
    by_cases hi : (Hs.tk C.ts q).sort = 110
    · obtain ⟨e1, e2, e3⟩ := nameS_yes hi
      rw [e1, e2, e3]
      exact name_ok C w q h' hi
    · obtain ⟨e1, e2, e3⟩ := nameS_no hi
      rw [e1, e2, e3]
      exact (name_no C w q h' hi).mono fun e w' ⟨h1, h2, h3⟩ => ⟨h1, ⟨h'.pos q h'.lt, q, h2⟩, h3⟩
  | error l =>
    obtain ⟨h0, q, h1⟩ := h
    exact (name_bad C w q l h1 h0).mono fun e w' ⟨k1, k2, k3⟩ => ⟨k1, ⟨h0, q, k2⟩, k3⟩

/-- The token at which a parser stands, whatever its state. -/
theorem peek_S (C : Ctx) (w : World) (S : Except Nat Nat) (h : AtS C w S) :
    Calls Tryz.prog 142 #[.pointer (some ⟨C.pb, 0, none⟩)] w fun e w' => (∃ t, e = .returned (.agg #[.int .u8 (Hs.Tok.sort t), .string (bs t.text), .int .i64 t.line]) ∧ ∀ q, S = .ok q → t = Hs.tk C.ts q) ∧ Below w.heap.size w w' := by
  cases S with
  | ok q => exact (peek_any C w q 0 h).mono fun e w' ⟨h1, h2⟩ => ⟨⟨_, h1, fun q' e => by cases e; rfl⟩, h2⟩
  | error l =>
    obtain ⟨h0, q, h1⟩ := h
    exact (peek_any C w q l h1).mono fun e w' ⟨k1, k2⟩ => ⟨⟨_, k1, fun q' e => by cases e⟩, k2⟩

/-- What a call of the parser leaves that gives a node. -/
def PostN (C : Ctx) (w : World) (r : Hs.R Hs.Ast) (e : Ending) (w' : World) : Prop :=
  Fr C.pb w w' ∧ AtS C w' (stR r) ∧ ∃ b, e = .returned (.pointer (some ⟨b, 0, none⟩)) ∧ ∀ a q, r = .ok (a, q) → Rep (Btw w.heap.size w'.heap.size) w' (.pointer (some ⟨b, 0, none⟩)) a

/-- What a call of the parser leaves that gives a list of nodes. -/
def PostL (C : Ctx) (w : World) (r : Hs.R (List Hs.Ast)) (e : Ending) (w' : World) : Prop :=
  Fr C.pb w w' ∧ AtS C w' (stR r) ∧ ∃ x n c, e = .returned (.slice x n c) ∧ ∀ ks q, r = .ok (ks, q) → Kid (Btw w.heap.size w'.heap.size) w' (.slice x n c) ks

/-- The parser's function f reads what the plain function X reads; where there is a fault already, it does nothing. -/
def Reads (C : Ctx) (f : Nat) (X : Nat → Hs.R Hs.Ast) : Prop :=
  ∀ (w : World) (S : Except Nat Nat), AtS C w S → onS S X ≠ .error 0 → Calls Tryz.prog f #[.pointer (some ⟨C.pb, 0, none⟩)] w (PostN C w (onS S X))

end Go.Proofs.YtblbkfdhjfppkaaGreatDoor

/- A list of nodes that is being gathered. -/
namespace Go.Proofs.YtblbkfdhjfppkaaGreatDoor
open Go.RowKit

theorem infoPtr : (Tryz.prog.info? 25).map (fun i => (i.zero, i.size, i.bytes)) = some (some (.pointer none), 1, 8) := by kernel_rfl

/-- What has been gathered: the slice's own row, and the nodes, none of which has a block of that row. -/
def Lst (base : Nat) (w : World) (v : Value) (acc : List Hs.Ast) : Prop :=
  ∃ vs F, w.ownsRow base 25 1 v acc.length vs ∧ All2 (Rep F w) vs acc ∧ ∀ b, F b → base ≤ b ∧ b < w.heap.size ∧ v.ownBlock ≠ some b

theorem Lst.nil (base : Nat) (w : World) : Lst base w (.slice none 0 0) [] := ⟨[], fun _ => False, World.ownsRow_nil _ _ _ _, trivial, fun _ h => h.elim⟩

theorem ownsRow_keep {w w1 : World} {b : Nat} {e : TypeId} {size : Nat} {v : Value} {n : Nat} {xs : List Value} (h : w.ownsRow b e size v n xs) (hb : ∀ k, v.ownBlock = some k → w1.heap[k]? = w.heap[k]?) : w1.ownsRow b e size v n xs := by
  refine ⟨h.1, ?_⟩
  rcases h.2 with h2 | ⟨g, cap, cur, h1, h2, h3, h4⟩
  · exact Or.inl h2
  · refine Or.inr ⟨g, cap, cur, h1, h2, ?_, h4⟩
    rw [hb g (by rw [h1]; rfl)]; exact h3
theorem own_block_lt {w : World} {b : Nat} {e : TypeId} {size : Nat} {v : Value} {n : Nat} {xs : List Value} (h : w.ownsRow b e size v n xs) : ∀ k, v.ownBlock = some k → k < w.heap.size := by
  intro k hk
  rcases h.2 with ⟨rfl, _⟩ | ⟨g, cap, cur, rfl, h2, h3, _⟩
  · cases hk
  · have : g = k := Option.some.inj hk
    subst this; exact lt_of_block h3

/-- Whatever keeps all blocks but the parser's keeps the list. -/
theorem Lst.keep {base pb : Nat} {w w1 : World} {v : Value} {acc : List Hs.Ast} (h : Lst base w v acc) (hf : Fr pb w w1) (hp : pb < base) : Lst base w1 v acc := by
  obtain ⟨vs, F, h1, h2, h3⟩ := h
  refine ⟨vs, F, ownsRow_keep h1 fun k hk => ?_, h2.mono fun _ _ h => h.keep fun b hb => ?_, fun b hb => ?_⟩
  · have := own_block_ge h1 k hk
    exact hf.block k (own_block_lt h1 k hk) (by omega)
  · have := h3 b hb
    have := hf.size
    exact ⟨by omega, by omega, (h3 b hb).2.2⟩
  · have := h3 b hb
    exact hf.block b this.2.1 (by omega)

/-- One node more. -/
theorem Lst.snoc {base lo : Nat} {w wa w2 : World} {v : Value} {acc : List Hs.Ast} {cv : Value} {a : Hs.Ast} {g cap : Nat} {vs : List Value} {F : Nat → Prop} (h2 : All2 (Rep F w) vs acc) (h3 : ∀ b, F b → base ≤ b ∧ b < w.heap.size ∧ v.ownBlock ≠ some b)
    (hr : Rep (Btw lo w.heap.size) w cv a) (hlo : base ≤ lo) (hrow : ∀ k, v.ownBlock = some k → k < lo) (hwa : ∀ k, k < w.heap.size → wa.heap[k]? = w.heap[k]?) (hsz : w.heap.size ≤ wa.heap.size)
    (hown : w2.ownsRow base 25 1 (.slice (some ⟨g, 0, none⟩) (acc.length + 1) cap) (acc.length + 1) (vs ++ [cv]))
    (hgrow : wa.grownBy w2 v.ownBlock) (hat : v.ownBlock = some g ∨ w.heap.size ≤ g) : Lst base w2 (.slice (some ⟨g, 0, none⟩) (acc.length + 1) cap) (acc ++ [a]) := by
  have hk : ∀ b, (F b ∨ Btw lo w.heap.size b) → base ≤ b ∧ b < w.heap.size ∧ v.ownBlock ≠ some b := by
    rintro b (hb | hb)
    · exact h3 b hb
    · exact ⟨by have := hb.1; omega, hb.2, fun e => by have := hrow b e; have := hb.1; omega⟩
  have hkeep : ∀ b, (F b ∨ Btw lo w.heap.size b) → w2.heap[b]? = w.heap[b]? := fun b hb => by
    have hb' := hk b hb
    rw [hgrow.block b (by omega) (fun e => hb'.2.2 e.symm), hwa b hb'.2.1]
  refine ⟨vs ++ [cv], fun b => F b ∨ Btw lo w.heap.size b, ?_, ?_, ?_⟩
  · rw [List.length_append]; exact hown
  · exact All2.snoc (h2.mono fun _ _ h => (h.mono (fun _ => Or.inl)).keep hkeep) ((hr.mono (fun _ => Or.inr)).keep hkeep)
  · intro b hb
    have hb' := hk b hb
    have := hgrow.size
    refine ⟨hb'.1, by omega, fun e => ?_⟩
    have e' : g = b := Option.some.inj e
    rcases hat with hat | hat
    · exact hb'.2.2 (by rw [hat, e'])
    · omega

/-- The list as a node's parts. -/
theorem Lst.kid {base : Nat} {w : World} {v : Value} {acc : List Hs.Ast} (h : Lst base w v acc) : Kid (Btw base w.heap.size) w v acc := by
  obtain ⟨vs, F, h1, h2, h3⟩ := h
  rcases h1.2 with ⟨r1, r2⟩ | ⟨g, cap, cur, r1, r2, r3, r4, r5, r6, r7⟩
  · exact Or.inl ⟨r1, List.eq_nil_of_length_eq_zero r2⟩
  · exact Or.inr ⟨g, cap, cur, vs, r1, ⟨r2, lt_of_block r3⟩, r3, r4, by rw [← r7, Nat.mul_one], h2.mono fun _ _ h => h.mono fun b hb => ⟨(h3 b hb).1, (h3 b hb).2.1⟩⟩

theorem Fr.grown {pb : Nat} {a w w' : World} {row : Option Nat} (h : Fr pb a w) (hg : w.grownBy w' row) (hr : ∀ k, row = some k → a.heap.size ≤ k) : Fr pb a w' :=
  ⟨hg.os.trans h.os, hg.tape.trans h.tape, hg.output.trans h.output, Nat.le_trans h.size hg.size, fun k hk hn => by
    rw [hg.block k (Nat.lt_of_lt_of_le hk h.size) (fun e => by have := hr k e.symm; omega)]; exact h.block k hk hn⟩
theorem At.grown {C : Ctx} {w w' : World} {p l : Nat} {row : Option Nat} {base : Nat} (h : At C w p l) (hg : w.grownBy w' row) (hr : ∀ k, row = some k → base ≤ k) (hp : C.pb < base) (hgb : C.g < base) : At C w' p l := by
  obtain ⟨cur, h1, h2⟩ := h.row
  have hb : ∀ k, k < w.heap.size → k < base → w'.heap[k]? = w.heap[k]? := fun k hk hb => hg.block k hk fun e => by have := hr k e.symm; omega
  exact ⟨by rw [hb _ (lt_of_block h.blk) hp]; exact h.blk, ⟨cur, by rw [hb _ (lt_of_block h1) hgb]; exact h1, h2⟩, h.ne, h.lt, h.len, h.cap, h.last, h.pos⟩
theorem AtS.grown {C : Ctx} {w w' : World} {S : Except Nat Nat} {row : Option Nat} {base : Nat} (h : AtS C w S) (hg : w.grownBy w' row) (hr : ∀ k, row = some k → base ≤ k) (hp : C.pb < base) (hgb : C.g < base) : AtS C w' S := by
  cases S with
  | ok q => exact At.grown h hg hr hp hgb
  | error l => obtain ⟨h0, q, h1⟩ := h; exact ⟨h0, q, h1.grown hg hr hp hgb⟩
theorem AtS.facts {C : Ctx} {w : World} {S : Except Nat Nat} (h : AtS C w S) : C.pb < w.heap.size ∧ C.g < w.heap.size ∧ C.ts.length ≤ 3000 := by
  have key : ∀ q l, At C w q l → C.pb < w.heap.size ∧ C.g < w.heap.size ∧ C.ts.length ≤ 3000 := fun q l h => by
    obtain ⟨cur, h1, _⟩ := h.row
    exact ⟨lt_of_block h.blk, lt_of_block h1, h.len⟩
  cases S with
  | ok q => exact key q 0 h
  | error l => obtain ⟨_, q, h1⟩ := h; exact key q l h1
theorem AtS.alloc {C : Ctx} {w : World} {S : Except Nat Nat} (h : AtS C w S) (o : Obj) : AtS C (w.alloc o) S := h.below ((Below.refl _ _).alloc (Nat.le_refl _) _)

end Go.Proofs.YtblbkfdhjfppkaaGreatDoor

/- Contracts of the document's answer: expressions with commas between them. -/
namespace Go.Proofs.YtblbkfdhjfppkaaGreatDoor
open Go.RowKit

theorem AtS.bad {C : Ctx} {w : World} {l : Nat} (h : AtS C w (.error l)) : C.pb < w.heap.size ∧ ∃ c : Int, (c == 0) = false ∧ w.cell? ⟨C.pb, 2, none⟩ = some (.int .i64 c) := by
  obtain ⟨h0, q, h1⟩ := h
  exact ⟨lt_of_block h1.blk, (l : Int), by simp; omega, cell_of_block h1.blk rfl⟩
theorem At.good {C : Ctx} {w : World} {q : Nat} (h : At C w q 0) : C.pb < w.heap.size ∧ w.cell? ⟨C.pb, 2, none⟩ = some (.int .i64 0) := ⟨lt_of_block h.blk, cell_of_block h.blk rfl⟩

/-- What holds at the head of the loop: k more rounds at most. -/
def ListInv (C : Ctx) (E : Nat → Hs.R Hs.Ast) (w : World) (r : Hs.R (List Hs.Ast)) (k : Nat) (v more : Value) (wr : World) : Prop :=
  Fr C.pb w wr ∧
  ((∃ q acc, more = .bool true ∧ At C wr q 0 ∧ r = Hs.listLoop E C.ts k q acc ∧ acc.length + k ≤ 4000 ∧ Lst w.heap.size wr v acc) ∨
   (∃ b x n c, more = .bool b ∧ v = .slice x n c ∧ (b = true → ∃ l, r = .error l) ∧ AtS C wr (stR r) ∧ ∀ acc q, r = .ok (acc, q) → Lst w.heap.size wr v acc))

theorem Lst.slice {base : Nat} {w : World} {v : Value} {acc : List Hs.Ast} (h : Lst base w v acc) : ∃ x n c, v = .slice x n c := by
  obtain ⟨vs, F, h1, _⟩ := h
  rcases h1.2 with ⟨rfl, _⟩ | ⟨g, cap, cur, rfl, _⟩
  · exact ⟨_, _, _, rfl⟩
  · exact ⟨_, _, _, rfl⟩

theorem takeS_then {α : Type} (C : Ctx) (x : List UInt8) (r : Hs.R α) : takeS C (stR r) x = stR (Hs.thenTake C.ts x r) := by
  cases r with
  | error l => rfl
  | ok aq =>
    obtain ⟨a, q⟩ := aq
    show takeS C (.ok q) x = stR (if Hs.isT C.ts q x then .ok (a, q + 1) else Hs.bad C.ts q)
    cases h : Hs.isT C.ts q x
    · rw [takeS_no h]; rfl
    · rw [takeS_yes h]; rfl
theorem thenTake_ok {α : Type} {C : Ctx} {x : List UInt8} {r : Hs.R α} {a : α} {q : Nat} (h : Hs.thenTake C.ts x r = .ok (a, q)) : ∃ q', r = .ok (a, q') := by
  cases r with
  | error l => cases h
  | ok aq =>
    obtain ⟨a', q'⟩ := aq
    unfold Hs.thenTake at h
    simp only at h
    split at h
    · cases h; exact ⟨q', rfl⟩
    · cases h
/-- The end of a list: the bracket that shuts it. -/
theorem list_end {C : Ctx} {w w2 w3 : World} {r0 r : Hs.R (List Hs.Ast)} {y : List UInt8} {x1 : Option Addr} {n1 c1 : Nat} (hr : r = Hs.thenTake C.ts y r0) (hf : Fr C.pb w w2) (hat : AtS C w3 (takeS C (stR r0) y)) (hfr : Fr C.pb w2 w3)
    (hrow : ∀ acc q, r0 = .ok (acc, q) → Lst w.heap.size w2 (.slice x1 n1 c1) acc) (hpb : C.pb < w.heap.size) : PostL C w r (.returned (.slice x1 n1 c1)) w3 := by
  subst hr
  refine ⟨hf.trans hfr, by rw [← takeS_then]; exact hat, x1, n1, c1, rfl, fun ks q h => ?_⟩
  obtain ⟨q', h'⟩ := thenTake_ok h
  exact ((hrow ks q' h').keep hfr hpb).kid

set_option maxRecDepth 100000 in
set_option maxHeartbeats 2000000 in
theorem list_S (C : Ctx) (E : Nat → Hs.R Hs.Ast) (HE : Reads C 83 E) (w : World) (S : Except Nat Nat) (x y : ByteArray) (h : AtS C w S) (r0 r : Hs.R (List Hs.Ast))
    (h0 : Hid (r0 = onS (takeS C S x.data.toList) fun q => Hs.listIn E C.ts q y.data.toList)) (h1 : Hid (r = Hs.thenTake C.ts y.data.toList r0)) (hr : r0 ≠ .error 0) :
    Calls Tryz.prog 306 #[.pointer (some ⟨C.pb, 0, none⟩), .string x, .string y] w (PostL C w r) := by
  obtain ⟨i0, hi, hz0, hz1, hz2⟩ := info_parts infoPtr
  obtain ⟨hpb, hgb, hlen⟩ := h.facts
  have HT := mkHid (take_S C w S x h)
  have HEE := mkHid HE
  have HR0 := mkHid hr
  clear h HE hr
  generalize takeS C S x.data.toList = S1 at *
  go_enter Tryz.func306, Tryz.ntmps306
  go_wp2_with fail
  refine HT.out.mono ?_
  rintro e w1 ⟨rfl, hat, hfr⟩
  have HI := mkHid (is_S C w1 S1 y hat)
  have HA := mkHid hat
  have HF := mkHid hfr
  clear hat hfr HT
  go_wp2_with fail
  refine HI.out.mono ?_
  rintro e w2 ⟨rfl, hb⟩
  have HA2 := mkHid (HA.out.below hb)
  have HF2 := mkHid (HF.out.trans_below hb)
  clear HA HF hb HI
  cases hb1 : isS C S1 y.data.toList
  · have HB := mkHid hb1
    clear hb1
    go_wp2_with fail
    go_loopg [7, 8] (C.ts.length + 1) (fun k v more wr => ListInv C E w r0 k v more wr)
    case atStart =>
      refine ⟨HF2.out, ?_⟩
      cases S1 with
      | ok q =>
        refine Or.inl ⟨q, [], rfl, HA2.out, ?_, by simp; omega, Lst.nil _ _⟩
        rw [h0.out]
        show Hs.listIn E C.ts q y.data.toList = _
        unfold Hs.listIn
        have := HB.out
        rw [isS_ok] at this
        rw [this]; rfl
      | error l =>
        have e : r0 = .error l := h0.out
        exact Or.inr ⟨true, none, 0, 0, rfl, rfl, fun _ => ⟨l, e⟩, by rw [e]; exact HA2.out, fun acc q hq => by rw [e] at hq; cases hq⟩
    case round =>
      obtain ⟨hf0, hrel⟩ := hrel
      have HF0 := mkHid hf0
      have hsz0 := hf0.size
      clear hf0 HA2 HF2 HB h0
      rcases hrel with ⟨q, acc, rfl, hq, hr1, hal, hls⟩ | ⟨b, x1, n1, c1, rfl, rfl, hbt, hS, hrow⟩
      · -- one expression more
        obtain ⟨k, rfl⟩ : ∃ k, gk = k + 1 := by
          cases gk with
          | zero => exact absurd hr1 HR0.out
          | succ k => exact ⟨k, rfl⟩
        obtain ⟨hl1, hc2⟩ := hq.good
        have hEq : onS (.ok q) E ≠ .error 0 := fun e => HR0.out (by
          rw [hr1, Hs.listLoop]
          rw [show E q = .error 0 from e])
        have HC := mkHid (HEE.out wr (.ok q) hq hEq)
        have HR1 := mkHid hr1
        have HL := mkHid hls
        clear hr1 hq hEq
        obtain ⟨x1, n1, c1, rfl⟩ := hls.slice
        clear hls
        go_wp2_with fail
        refine HC.out.mono ?_
        rintro e w3 ⟨hfr3, hat3, b3, rfl, hrep⟩
        obtain ⟨vs, F, hown, hall, hF⟩ := HL.out.keep hfr3 hpb
        have hsz3 := hfr3.size
        have HFR3 := mkHid hfr3
        have HAT3 := mkHid hat3
        have HREP := mkHid hrep
        have HALL := mkHid (And.intro hall hF)
        have hrb : ∀ g, (Value.slice x1 n1 c1).ownBlock = some g → g < wr.heap.size := by
          obtain ⟨vs', F', hown', _⟩ := HL.out
          exact own_block_lt hown'
        have HRB := mkHid hrb
        clear hfr3 hat3 hrep hall hF hrb HC
        go_wp2_with (at_builtin; refine wpList_append_lies _ (by rfl) _ _ 90 (by rfl) w.heap.size 25 i0 _ 1 8 Tryz.underlying90 hi hz0 hz1 hz2 rfl (by decide) _ _ _ (by rfl) (hown.alloc _) ⟨w3.heap.size, 0, none⟩ 1 1 [.pointer (some ⟨b3, 0, none⟩)] (by rfl) (by rfl) ?c1 ?c2 (by decide) ?c3 ?c4 ?c5 (w3.heap.size + 1) (by simp) ?_)
        case c1 =>
          intro j u hj
          match j, hj with
          | 0, hj => simp at hj; subst hj; simp [Addr.add, go_sem]
          | j + 1, hj => simp at hj
        case c2 => intro u hu; simp at hu; subst hu; rfl
        case c3 => unfold maxLen; omega
        case c4 => omega
        case c5 => simp; omega
        intro g cap w4 hown4 hgrow4 hat4 hg4
        have hge : ∀ k, (Value.slice x1 n1 c1).ownBlock = some k → w.heap.size ≤ k := own_block_ge hown
        have HS4 := mkHid ((HAT3.out.alloc _).grown hgrow4 hge hpb hgb)
        have HF4 := mkHid (((HF0.out.trans HFR3.out).alloc _).grown hgrow4 hge)
        have HL4 : Hid (∀ a q1, E q = .ok (a, q1) → Lst w.heap.size w4 (.slice (some ⟨g, 0, none⟩) (acc.length + 1) cap) (acc ++ [a])) := fun a q1 ha =>
          Lst.snoc (lo := wr.heap.size) HALL.out.1 HALL.out.2 (HREP.out a q1 ha) hsz0 HRB.out (fun k hk => Below.heap_alloc _ _ _ hk) (by simp) hown4 hgrow4 (hat4.imp_right (fun e => by omega))
        clear hown hown4 hgrow4 hat4 hge HALL HREP HRB HAT3 HFR3 HL HF0
        have HX := mkHid (eat_S C w4 _ ⟨#[44]⟩ HS4.out)
        go_wp2_with fail
        refine HX.out.mono ?_
        rintro e w5 ⟨rfl, hat5, hfr5⟩
        go_wp2_with fail
        go_roundg k
        case measure => omega
        case rel =>
          have hbig : Fr C.pb w w5 := HF4.out.trans hfr5
          refine ⟨hbig, ?_⟩
          have hr2 := HR1.out
          rw [Hs.listLoop] at hr2
          have hat5' := hat5
          rw [show onS (.ok q) E = E q from rfl] at hat5' ⊢
          cases hE : E q with
          | error l =>
            rw [hE] at hr2 hat5'
            exact Or.inr ⟨_, _, _, _, rfl, rfl, fun _ => ⟨l, hr2⟩, by rw [hr2]; exact hat5', fun acc q hq => by rw [hr2] at hq; cases hq⟩
          | ok aq =>
            obtain ⟨a, q1⟩ := aq
            have hls5 := (HL4.out a q1 hE).keep hfr5 hpb
            rw [hE] at hr2 hat5'
            simp only at hr2
            show _ ∨ _
            have e1 : stR (Except.ok (a, q1) : Hs.R Hs.Ast) = .ok q1 := rfl
            rw [e1] at hat5' ⊢
            rw [isS_ok]
            cases hc : Hs.isT C.ts q1 [44]
            · have e2 : eatS C (.ok q1) (⟨#[44]⟩ : ByteArray).data.toList = .ok q1 := eatS_no hc
              rw [e2] at hat5'
              rw [hc] at hr2
              exact Or.inr ⟨false, _, _, _, rfl, rfl, (fun h => by cases h), by rw [hr2]; exact hat5', fun acc' q' hq => by rw [hr2] at hq; cases hq; exact hls5⟩
            · have e2 : eatS C (.ok q1) (⟨#[44]⟩ : ByteArray).data.toList = .ok (q1 + 1) := eatS_yes hc
              rw [e2] at hat5'
              rw [hc] at hr2
              exact Or.inl ⟨q1 + 1, acc ++ [a], rfl, hat5', hr2, by simp; omega, hls5⟩
      · -- the loop is left
        have HSS := mkHid hS
        have HROW := mkHid hrow
        have HTK := mkHid (take_S C wr (stR r0) y hS)
        clear hrow
        cases b
        · clear hbt hS
          go_wp2_with fail
          refine HTK.out.mono ?_
          rintro e w3 ⟨rfl, hat3, hfr3⟩
          go_wp2_with fail
          go_ret
          exact list_end h1.out HF0.out hat3 hfr3 HROW.out hpb
        · obtain ⟨l, hl⟩ := hbt rfl
          have hS' := hS
          rw [hl] at hS'
          obtain ⟨hl1, c, hc0, hc2⟩ := AtS.bad hS'
          clear hbt hS hS' hl
          go_wp2_with fail
          refine HTK.out.mono ?_
          rintro e w3 ⟨rfl, hat3, hfr3⟩
          go_wp2_with fail
          go_ret
          exact list_end h1.out HF0.out hat3 hfr3 HROW.out hpb
  · obtain ⟨q, rfl, hq⟩ : ∃ q, S1 = .ok q ∧ Hs.isT C.ts q y.data.toList = true := by
      cases S1 with
      | ok q => exact ⟨q, rfl, hb1⟩
      | error l => cases hb1
    have HTK := mkHid (take_S C w2 (.ok q) y HA2.out)
    have e0 : r0 = .ok ([], q) := by
      rw [h0.out]
      show Hs.listIn E C.ts q y.data.toList = _
      unfold Hs.listIn; rw [hq]; rfl
    have HE0 := mkHid e0
    clear hb1 hq e0
    go_wp2_with fail
    refine HTK.out.mono ?_
    rintro e w3 ⟨rfl, hat3, hfr3⟩
    go_wp2_with fail
    go_ret
    refine list_end (w2 := w2) h1.out HF2.out (by rw [HE0.out]; exact hat3) hfr3 (fun acc q' hq' => ?_) hpb
    rw [HE0.out] at hq'
    cases hq'
    exact Lst.nil _ _

/-- .. as the parser's functions hand it on. -/
theorem list_R (C : Ctx) (E : Nat → Hs.R Hs.Ast) (HE : Reads C 83 E) (w : World) (S : Except Nat Nat) (x y : ByteArray) (h : AtS C w S) (hr : onS S (fun q => Hs.listP E C.ts q x.data.toList y.data.toList) ≠ .error 0) :
    Calls Tryz.prog 306 #[.pointer (some ⟨C.pb, 0, none⟩), .string x, .string y] w (PostL C w (onS S fun q => Hs.listP E C.ts q x.data.toList y.data.toList)) := by
  have e : onS S (fun q => Hs.listP E C.ts q x.data.toList y.data.toList) = Hs.thenTake C.ts y.data.toList (onS (takeS C S x.data.toList) fun q => Hs.listIn E C.ts q y.data.toList) := by
    cases S with
    | ok q =>
      show Hs.listP E C.ts q x.data.toList y.data.toList = _
      unfold Hs.listP
      cases hx : Hs.isT C.ts q x.data.toList
      · rw [takeS_no hx]; rfl
      · rw [takeS_yes hx]; rfl
    | error l => rfl
  refine list_S C E HE w S x y h _ _ rfl e fun h0 => hr ?_
  rw [e, h0]; rfl

end Go.Proofs.YtblbkfdhjfppkaaGreatDoor

/- Contracts of the document's answer: a primary, where it is a number, a string, true or false, or nothing. -/
namespace Go.Proofs.YtblbkfdhjfppkaaGreatDoor
open Go.RowKit

theorem Fr.cells {pb : Nat} {w w' : World} (h : Fr pb w w') {b : Nat} (hb : b < w.heap.size) (hn : b ≠ pb) : (∀ i, w'.cell? ⟨b, i, none⟩ = w.cell? ⟨b, i, none⟩) ∧ (∀ i, w'.frozen? ⟨b, i, none⟩ = w.frozen? ⟨b, i, none⟩) :=
  ⟨fun i => World.cell?_of_block (a := ⟨b, i, none⟩) (h.block b hb hn), fun i => World.frozen?_of_block (a := ⟨b, i, none⟩) (h.block b hb hn)⟩
/-- A node's block: its cells may be read and written. -/
theorem node_cells {w : World} {b : Nat} {v0 v1 v2 v3 : Value} (h : w.heap[b]? = some (.cells #[v0, v1, v2, v3] 92 (0, 0))) :
    b < w.heap.size ∧ w.cell? ⟨b, 0, none⟩ = some v0 ∧ w.cell? ⟨b, 1, none⟩ = some v1 ∧ w.cell? ⟨b, 2, none⟩ = some v2 ∧ w.cell? ⟨b, 3, none⟩ = some v3 ∧ w.frozen? ⟨b, 0, none⟩ = false ∧ w.frozen? ⟨b, 2, none⟩ = false ∧ w.frozen? ⟨b, 3, none⟩ = false :=
  ⟨lt_of_block h, cell_of_block h rfl, cell_of_block h rfl, cell_of_block h rfl, cell_of_block h rfl, frozen_of_block h, frozen_of_block h, frozen_of_block h⟩

/-- The parser's cells, behind two new blocks. -/
theorem At.two {C : Ctx} {w : World} {p l : Nat} (h : At C w p l) : C.pb < w.heap.size ∧ (∀ o1 o2, ((w.alloc o1).alloc o2).cell? ⟨C.pb, 1, none⟩ = some (.int .i64 p)) ∧ (∀ o1 o2, ((w.alloc o1).alloc o2).cell? ⟨C.pb, 2, none⟩ = some (.int .i64 l)) ∧ (∀ o1 o2, ((w.alloc o1).alloc o2).frozen? ⟨C.pb, 1, none⟩ = false) := by
  have h2 : ∀ o1 o2, At C ((w.alloc o1).alloc o2) p l := fun o1 o2 => (h.below ((Below.refl _ _).alloc (Nat.le_refl _) o1)).below ((Below.refl _ _).alloc (Nat.le_refl _) o2)
  exact ⟨lt_of_block h.blk, fun o1 o2 => cell_of_block (h2 o1 o2).blk rfl, fun o1 o2 => cell_of_block (h2 o1 o2).blk rfl, fun o1 o2 => frozen_of_block (h2 o1 o2).blk⟩

/-- Two new blocks. -/
theorem Below.two {w : World} (o1 o2 : Obj) : Below w.heap.size w ((w.alloc o1).alloc o2) := ((Below.refl _ _).alloc (Nat.le_refl _) o1).alloc (by simp) o2

set_option maxRecDepth 100000 in
set_option maxHeartbeats 1000000 in
theorem primary_er (C : Ctx) (w : World) (l : Nat) (h : AtS C w (.error l)) :
    Calls Tryz.prog 259 #[.pointer (some ⟨C.pb, 0, none⟩)] w (PostN C w (.error l)) := by
  have HP := mkHid (peek_S C w (.error l) h)
  have HA := mkHid h
  clear h
  go_enter Tryz.func259, Tryz.ntmps259
  go_wp2_with fail
  refine HP.out.mono ?_
  rintro e w1 ⟨⟨t, rfl, -⟩, hb⟩
  obtain ⟨h0, q, hq⟩ := HA.out
  obtain ⟨hl, -, c2, -⟩ := (hq.below hb).two
  have e0 : ((l : Int) != 0) = true := by simp; omega
  clear hq HP
  go_wp2_with fail
  go_ret
  exact ⟨Fr.below ((hb.alloc hb.size _).alloc (by have := hb.size; simp; omega) _), (HA.out.below hb).below (Below.two _ _), _, rfl, fun a q h => by cases h⟩

theorem heap_first (X : World) (n : Nat) (hn : n = X.heap.size) (o1 : Obj) : (X.alloc o1).heap[n]? = some o1 := by
  subst hn
  show (X.heap.push o1)[X.heap.size]? = _
  rw [Array.getElem?_push, if_pos rfl]
theorem heap_second (X : World) (n : Nat) (hn : n = X.heap.size + 1) (o1 o2 : Obj) : ((X.alloc o1).alloc o2).heap[n]? = some o2 :=
  heap_first (X.alloc o1) n (by rw [hn]; simp) o2
theorem heap_later (X : World) (n : Nat) (hn : n < X.heap.size) (o : Obj) {b : Option Obj} (h : X.heap[n]? = b) : (X.alloc o).heap[n]? = b := by
  rw [Below.heap_alloc _ _ _ hn]; exact h
theorem Below.three {w : World} (o1 o2 o3 : Obj) : Below w.heap.size w (((w.alloc o1).alloc o2).alloc o3) := (Below.two o1 o2).alloc (by simp; omega) o3
/-- The parser one place on. -/
theorem At.step {C : Ctx} {w w1 : World} {p bad : Nat} (h : At C w p bad) (hb : Below w.heap.size w w1) (hp : p + 1 < C.ts.length) :
    At C (w1.setCell ⟨C.pb, 1, none⟩ (.int .i64 ((p : Int) + 1))) (p + 1) bad ∧ Fr C.pb w (w1.setCell ⟨C.pb, 1, none⟩ (.int .i64 ((p : Int) + 1))) := by
  have hm := h.move hb (p + 1) hp
  rw [show (((p + 1 : Nat) : Int)) = (p : Int) + 1 by simp] at hm
  exact hm
theorem size_set (w : World) (a : Addr) (v : Value) : (w.setCell a v).heap.size = w.heap.size := by simp [World.setCell]

/-- A text of one byte. -/
theorem conv_byte (w1 : World) (o1 o2 : Obj) (b : UInt8) :
    (convert 247 9 (.slice (some ⟨w1.heap.size + 1 + 1, 0, none⟩) 1 1)).run Tryz.prog (((w1.alloc o1).alloc o2).alloc (.cells #[.int .u8 b.toNat] 5)) = .ok (.string (bs [b])) (((w1.alloc o1).alloc o2).alloc (.cells #[.int .u8 b.toNat] 5)) := by
  refine run_convert_bytes_back (P := Tryz.prog) _ 247 9 5 ⟨w1.heap.size + 1 + 1, 0, none⟩ 1 [b] Tryz.underlying247 Tryz.underlying5 Tryz.underlying9 fun j hj => ?_
  obtain rfl : j = 0 := by simp at hj; omega
  simp [Addr.add, go_sem]

/-- The end of a way through 'primary': the node's block is written, its parts are none. -/
theorem node_end {C : Ctx} {w w' : World} {b q : Nat} {a : Hs.Ast} (hf : Fr C.pb w w') (hat : At C w' q 0) (hb : w.heap.size ≤ b) (hk : a.kids = [])
    (hblk : w'.heap[b]? = some (.cells #[.string (bs a.op), .int .i64 a.line, .string (bs a.text), .slice none 0 0] 92 (0, 0))) : PostN C w (.ok (a, q)) (.returned (.pointer (some ⟨b, 0, none⟩))) w' :=
  ⟨hf, hat, b, rfl, fun a' q' e => by
    cases e
    exact Rep.mk ⟨hb, lt_of_block hblk⟩ hblk (Or.inl ⟨rfl, hk⟩)⟩

set_option maxRecDepth 100000 in
set_option maxHeartbeats 1000000 in
theorem primary_lit (C : Ctx) (w : World) (p : Nat) (h : At C w p 0) (b : UInt8) (hs : (Hs.tk C.ts p).sort = b.toNat) (hb48 : b = 48 ∨ b = 115) :
    Calls Tryz.prog 259 #[.pointer (some ⟨C.pb, 0, none⟩)] w (PostN C w (.ok (Hs.node [b] (Hs.tk C.ts p).line (Hs.tk C.ts p).text [], p + 1))) := by
  have hp : p + 1 < C.ts.length := h.next (by rcases hb48 with rfl | rfl <;> (rw [hs]; decide))
  have hlen := h.len
  have HP := mkHid (peek_any C w p 0 h)
  have HA := mkHid h
  clear h
  generalize Hs.tk C.ts p = t at *
  obtain ⟨so, te, li⟩ := t
  simp only [tokV] at HP hs ⊢
  subst hs
  have hcase : (((b.toNat : Int) == 48) = true) ∨ (((b.toNat : Int) == 48) = false ∧ ((b.toNat : Int) == 115) = true) := by
    rcases hb48 with rfl | rfl
    · exact Or.inl (by decide)
    · exact Or.inr ⟨by decide, by decide⟩
  clear hb48
  rcases hcase with e1 | ⟨e1, e2⟩
  all_goals
    go_enter Tryz.func259, Tryz.ntmps259
    go_wp2_with fail
    refine HP.out.mono ?_
    rintro e w1 ⟨rfl, hb⟩
    obtain ⟨hl, -, -, c1, c2, fz⟩ := HA.out.cells hb
    have fz1 := (fz 1).2
    clear fz
    have hcv := fun o1 o2 => conv_byte w1 o1 o2 b
    have hl2 : C.pb < w1.heap.size + 1 := by omega
    have hl3 : C.pb < w1.heap.size + 1 + 1 := by omega
    go_wp2_with fail
    go_ret
    have hst := HA.out.step hb hp
    have hsz := hb.size
    refine node_end (q := p + 1) (b := w1.heap.size + 1) (hst.2.trans_below (Below.three _ _ _)) (hst.1.below (Below.three _ _ _)) (by omega) rfl ?_
    exact heap_later _ _ (by simp) _ (heap_second _ _ (by simp) _ _)

theorem cell_keep {w w' : World} {b i : Nat} (h : w'.heap[b]? = w.heap[b]?) : w'.cell? ⟨b, i, none⟩ = w.cell? ⟨b, i, none⟩ := by simp [World.cell?, h]

end Go.Proofs.YtblbkfdhjfppkaaGreatDoor

/- Contracts of the document's answer: a primary, where it is true or false, or nothing. -/
namespace Go.Proofs.YtblbkfdhjfppkaaGreatDoor
open Go.RowKit

theorem At.other {C : Ctx} {w : World} {p l : Nat} (h : At C w p l) {b i : Nat} (h1 : b ≠ C.pb) (h2 : b ≠ C.g) (v : Value) : At C (w.setCell ⟨b, i, none⟩ v) p l := by
  obtain ⟨cur, r1, r2⟩ := h.row
  exact ⟨by rw [Below.heap_setCell _ _ _ _ (Ne.symm h1)]; exact h.blk, ⟨cur, by rw [Below.heap_setCell _ _ _ _ (Ne.symm h2)]; exact r1, r2⟩, h.ne, h.lt, h.len, h.cap, h.last, h.pos⟩
theorem AtS.other {C : Ctx} {w : World} {S : Except Nat Nat} (h : AtS C w S) {b i : Nat} (h1 : b ≠ C.pb) (h2 : b ≠ C.g) (v : Value) : AtS C (w.setCell ⟨b, i, none⟩ v) S := by
  cases S with
  | ok q => exact At.other h h1 h2 v
  | error l => obtain ⟨h0, q, hq⟩ := h; exact ⟨h0, q, hq.other h1 h2 v⟩
/-- A new node's block is none of the parser's. -/
theorem AtS.far {C : Ctx} {w : World} {S : Except Nat Nat} (h : AtS C w S) {b : Nat} (hb : w.heap.size ≤ b) : b ≠ C.pb ∧ b ≠ C.g := by
  have := h.facts; omega

set_option maxRecDepth 100000 in
set_option maxHeartbeats 1000000 in
theorem primary_true (C : Ctx) (w : World) (p : Nat) (h : At C w p 0) (h1 : (Hs.tk C.ts p).sort ≠ 48) (h2 : (Hs.tk C.ts p).sort ≠ 115) (h3 : Hs.isT C.ts p [116, 114, 117, 101] = true) :
    Calls Tryz.prog 259 #[.pointer (some ⟨C.pb, 0, none⟩)] w (PostN C w (.ok (Hs.node [98, 111, 111, 108] (Hs.tk C.ts p).line (Hs.tk C.ts p).text [], p + 1))) := by
  have HP := mkHid (peek_any C w p 0 h)
  have HA := mkHid h
  have HI := mkHid h3
  have e1 : (((Hs.tk C.ts p).sort : Int) == 48) = false := by simp; omega
  have e2 : (((Hs.tk C.ts p).sort : Int) == 115) = false := by simp; omega
  clear h h1 h2 h3
  go_enter Tryz.func259, Tryz.ntmps259
  go_wp2_with fail
  refine HP.out.mono ?_
  rw [tokV]
  rintro e w1 ⟨rfl, hb⟩
  obtain ⟨hl, -, -, c1, c2, fz⟩ := HA.out.cells hb
  have hl2 : C.pb < w1.heap.size + 1 := by omega
  have hl3 : C.pb < w1.heap.size + 1 + 1 := by omega
  clear fz HP
  go_wp2_with fail
  refine (eat_ok C _ p _ ((HA.out.below hb).below (Below.two _ _)) HI.out).mono ?_
  rintro e w3 ⟨rfl, hat3, hfr3⟩
  have hn : w3.heap[w1.heap.size + 1]? = some (.cells #[.string (bs []), .int .i64 (Hs.tk C.ts p).line, .string (bs (Hs.tk C.ts p).text), .slice none 0 0] 92 (0, 0)) := by
    rw [hfr3.block _ (by simp) (by omega)]
    exact heap_second _ _ (by simp) _ _
  obtain ⟨hn0, n0, n1, n2, n3, g0, g2, g3⟩ := node_cells hn
  have HN := mkHid hn
  have HAT := mkHid hat3
  have HFR := mkHid hfr3
  clear hn hat3 hfr3 c1 c2
  go_wp2_with fail
  go_ret
  have hsz := hb.size
  obtain ⟨f1, f2⟩ := AtS.far (S := .ok p) HA.out (show w.heap.size ≤ w1.heap.size + 1 by omega)
  refine node_end (q := p + 1) (b := w1.heap.size + 1) ((Fr.below_trans (hb.trans ((Below.two _ _).mono hsz)) HFR.out).setCell (Or.inr (by show _ ≤ w1.heap.size + 1; omega)) _) (HAT.out.other f1 f2 _) (by omega) rfl ?_
  rw [heap_setCell_at HN.out]; rfl

set_option maxRecDepth 100000 in
set_option maxHeartbeats 1000000 in
theorem primary_false (C : Ctx) (w : World) (p : Nat) (h : At C w p 0) (h1 : (Hs.tk C.ts p).sort ≠ 48) (h2 : (Hs.tk C.ts p).sort ≠ 115) (h3 : Hs.isT C.ts p [116, 114, 117, 101] = false) (h4 : Hs.isT C.ts p [102, 97, 108, 115, 101] = true) :
    Calls Tryz.prog 259 #[.pointer (some ⟨C.pb, 0, none⟩)] w (PostN C w (.ok (Hs.node [98, 111, 111, 108] (Hs.tk C.ts p).line (Hs.tk C.ts p).text [], p + 1))) := by
  have HP := mkHid (peek_any C w p 0 h)
  have HA := mkHid h
  have HI3 := mkHid h3
  have HI := mkHid h4
  have e1 : (((Hs.tk C.ts p).sort : Int) == 48) = false := by simp; omega
  have e2 : (((Hs.tk C.ts p).sort : Int) == 115) = false := by simp; omega
  clear h h1 h2 h3 h4
  go_enter Tryz.func259, Tryz.ntmps259
  go_wp2_with fail
  refine HP.out.mono ?_
  rw [tokV]
  rintro e w1 ⟨rfl, hb⟩
  obtain ⟨hl, -, -, c1, c2, fz⟩ := HA.out.cells hb
  have hl2 : C.pb < w1.heap.size + 1 := by omega
  have hl3 : C.pb < w1.heap.size + 1 + 1 := by omega
  clear fz HP
  go_wp2_with fail
  refine (eat_no C _ p 0 _ ((HA.out.below hb).below (Below.two _ _)) (by simpa using HI3.out)).mono ?_
  rintro e w2 ⟨rfl, hb2⟩
  go_wp2_with fail
  refine (eat_ok C _ p _ (((HA.out.below hb).below (Below.two _ _)).below hb2) HI.out).mono ?_
  rintro e w3 ⟨rfl, hat3, hfr3⟩
  have hfr := Fr.below_trans hb2 hfr3
  have hn : w3.heap[w1.heap.size + 1]? = some (.cells #[.string (bs []), .int .i64 (Hs.tk C.ts p).line, .string (bs (Hs.tk C.ts p).text), .slice none 0 0] 92 (0, 0)) := by
    rw [hfr.block _ (by simp) (by omega)]
    exact heap_second _ _ (by simp) _ _
  obtain ⟨hn0, n0, n1, n2, n3, g0, g2, g3⟩ := node_cells hn
  have HN := mkHid hn
  have HAT := mkHid hat3
  have HFR := mkHid hfr
  clear hn hat3 hfr3 hfr c1 c2 hb2
  go_wp2_with fail
  go_ret
  have hsz := hb.size
  obtain ⟨f1, f2⟩ := AtS.far (S := .ok p) HA.out (show w.heap.size ≤ w1.heap.size + 1 by omega)
  refine node_end (q := p + 1) (b := w1.heap.size + 1) ((Fr.below_trans (hb.trans ((Below.two _ _).mono hsz)) HFR.out).setCell (Or.inr (by show _ ≤ w1.heap.size + 1; omega)) _) (HAT.out.other f1 f2 _) (by omega) rfl ?_
  rw [heap_setCell_at HN.out]; rfl

/-- What was read stays, behind a token that must come. -/
theorem PostN.take {C : Ctx} {w w1 w2 : World} {r : Hs.R Hs.Ast} {x : List UInt8} {e : Ending} (h : PostN C w r e w1) (hf : Fr C.pb w1 w2) (hat : AtS C w2 (takeS C (stR r) x)) (hpb : C.pb < w.heap.size) : PostN C w (Hs.thenTake C.ts x r) e w2 := by
  obtain ⟨h1, h2, b, h3, h4⟩ := h
  refine ⟨h1.trans hf, by rw [← takeS_then]; exact hat, b, h3, fun a q ha => ?_⟩
  obtain ⟨q', hq'⟩ := thenTake_ok ha
  exact ((h4 a q' hq').keep fun k hk => hf.block k hk.2 (by have := hk.1; omega)).mono fun k hk => ⟨hk.1, by have := hk.2; have := hf.size; omega⟩
/-- What a later part of a call has read, the whole call has read. -/
theorem PostN.later {C : Ctx} {w w1 w2 : World} {r : Hs.R Hs.Ast} {e : Ending} (hf : Fr C.pb w w1) (h : PostN C w1 r e w2) : PostN C w r e w2 := by
  obtain ⟨h1, h2, b, h3, h4⟩ := h
  exact ⟨hf.trans h1, h2, b, h3, fun a q ha => (h4 a q ha).mono fun k hk => ⟨by have := hk.1; have := hf.size; omega, hk.2⟩⟩

set_option maxRecDepth 100000 in
set_option maxHeartbeats 1000000 in
theorem primary_paren (C : Ctx) (E : Nat → Hs.R Hs.Ast) (HE : Reads C 83 E) (w : World) (p : Nat) (h : At C w p 0) (h1 : (Hs.tk C.ts p).sort ≠ 48) (h2 : (Hs.tk C.ts p).sort ≠ 115) (h3 : Hs.isT C.ts p [116, 114, 117, 101] = false) (h4 : Hs.isT C.ts p [102, 97, 108, 115, 101] = false)
    (h5 : Hs.isT C.ts p [40] = true) (hr : E (p + 1) ≠ .error 0) :
    Calls Tryz.prog 259 #[.pointer (some ⟨C.pb, 0, none⟩)] w (PostN C w (Hs.thenTake C.ts [41] (E (p + 1)))) := by
  have HP := mkHid (peek_any C w p 0 h)
  have HA := mkHid h
  have HI := mkHid (And.intro h3 (And.intro h4 h5))
  have HEE := mkHid (And.intro HE hr)
  have e1 : (((Hs.tk C.ts p).sort : Int) == 48) = false := by simp; omega
  have e2 : (((Hs.tk C.ts p).sort : Int) == 115) = false := by simp; omega
  clear h h1 h2 h3 h4 h5 HE hr
  go_enter Tryz.func259, Tryz.ntmps259
  go_wp2_with fail
  refine HP.out.mono ?_
  rw [tokV]
  rintro e w1 ⟨rfl, hb⟩
  obtain ⟨hl, -, -, c1, c2, fz⟩ := HA.out.cells hb
  have hl2 : C.pb < w1.heap.size + 1 := by omega
  have hl3 : C.pb < w1.heap.size + 1 + 1 := by omega
  clear fz HP
  go_wp2_with fail
  refine (eat_no C _ p 0 _ ((HA.out.below hb).below (Below.two _ _)) (by simpa using HI.out.1)).mono ?_
  rintro e w2 ⟨rfl, hb2⟩
  go_wp2_with fail
  refine (eat_no C _ p 0 _ (((HA.out.below hb).below (Below.two _ _)).below hb2) (by simpa using HI.out.2.1)).mono ?_
  rintro e w3 ⟨rfl, hb3⟩
  go_wp2_with fail
  refine (eat_ok C _ p _ ((((HA.out.below hb).below (Below.two _ _)).below hb2).below hb3) HI.out.2.2).mono ?_
  rintro e w4 ⟨rfl, hat4, hfr4⟩
  have HF4 := mkHid (Fr.below_trans (hb.trans ((Below.two _ _).mono hb.size)) (Fr.below_trans hb2 (Fr.below_trans hb3 hfr4)))
  have HC := mkHid (HEE.out.1 w4 (.ok (p + 1)) hat4 HEE.out.2)
  clear hb2 hb3 hfr4 c1 c2 hat4
  go_wp2_with fail
  refine HC.out.mono ?_
  rintro e w5 hpost
  obtain ⟨b5, rfl⟩ : ∃ b, e = .returned (.pointer (some ⟨b, 0, none⟩)) := by obtain ⟨_, _, b, h, _⟩ := hpost; exact ⟨b, h⟩
  have HT := mkHid (take_S C w5 _ ⟨#[41]⟩ hpost.2.1)
  have HPO := mkHid hpost
  clear hpost HC
  go_wp2_with fail
  refine HT.out.mono ?_
  rintro e w6 ⟨rfl, hat6, hfr6⟩
  go_wp2_with fail
  go_ret
  exact PostN.later HF4.out (PostN.take HPO.out hfr6 hat6 (by have := HF4.out.size; have := (AtS.facts (S := .ok p) HA.out).1; omega))

set_option maxRecDepth 100000 in
set_option maxHeartbeats 1000000 in
theorem primary_none (C : Ctx) (w : World) (p : Nat) (h : At C w p 0) (h1 : (Hs.tk C.ts p).sort ≠ 48) (h2 : (Hs.tk C.ts p).sort ≠ 115) (h3 : Hs.isT C.ts p [116, 114, 117, 101] = false) (h4 : Hs.isT C.ts p [102, 97, 108, 115, 101] = false)
    (h5 : Hs.isT C.ts p [40] = false) (h6 : Hs.isT C.ts p [91] = false) (h7 : (Hs.tk C.ts p).sort ≠ 110) :
    Calls Tryz.prog 259 #[.pointer (some ⟨C.pb, 0, none⟩)] w (PostN C w (Hs.bad C.ts p)) := by
  have HP := mkHid (peek_any C w p 0 h)
  have HA := mkHid h
  have HI := mkHid (And.intro h3 (And.intro h4 (And.intro h5 h6)))
  have e1 : (((Hs.tk C.ts p).sort : Int) == 48) = false := by simp; omega
  have e2 : (((Hs.tk C.ts p).sort : Int) == 115) = false := by simp; omega
  have e3 : (((Hs.tk C.ts p).sort : Int) == 110) = false := by simp; omega
  have hpos := h.pos p h.lt
  clear h h1 h2 h3 h4 h5 h6 h7
  go_enter Tryz.func259, Tryz.ntmps259
  go_wp2_with fail
  refine HP.out.mono ?_
  rw [tokV]
  rintro e w1 ⟨rfl, hb⟩
  obtain ⟨hl, -, -, c1, c2, fz⟩ := HA.out.cells hb
  have hl2 : C.pb < w1.heap.size + 1 := by omega
  have hl3 : C.pb < w1.heap.size + 1 + 1 := by omega
  clear fz HP
  go_wp2_with fail
  refine (eat_no C _ p 0 _ ((HA.out.below hb).below (Below.two _ _)) (by simpa using HI.out.1)).mono ?_
  rintro e w2 ⟨rfl, hb2⟩
  go_wp2_with fail
  refine (eat_no C _ p 0 _ (((HA.out.below hb).below (Below.two _ _)).below hb2) (by simpa using HI.out.2.1)).mono ?_
  rintro e w3 ⟨rfl, hb3⟩
  go_wp2_with fail
  refine (eat_no C _ p 0 _ ((((HA.out.below hb).below (Below.two _ _)).below hb2).below hb3) (by simpa using HI.out.2.2.1)).mono ?_
  rintro e w4 ⟨rfl, hb4⟩
  have hB4 := (hb2.trans (hb3.mono hb2.size)).trans (hb4.mono (Nat.le_trans hb2.size hb3.size))
  clear hb2 hb3 hb4
  go_wp2_with fail
  refine (is_any C _ p 0 _ (((HA.out.below hb).below (Below.two _ _)).below hB4)).mono ?_
  rw [show Hs.isT C.ts p (⟨#[91]⟩ : ByteArray).data.toList = false from HI.out.2.2.2]
  rintro e w5 ⟨rfl, hb5⟩
  have hB5 := hB4.trans (hb5.mono hB4.size)
  obtain ⟨hc, hf⟩ := bcell hB5
  have HB5 := mkHid hB5
  clear hB4 hb5 hB5
  have hz : w1.heap.size + 1 < w5.heap.size := by have := HB5.out.size; simp at this; omega
  have HF := mkHid (fail_good C w5 p (((HA.out.below hb).below (Below.two _ _)).below HB5.out))
  go_wp2_with fail
  refine HF.out.mono ?_
  rintro e w6 ⟨rfl, hat6, hfr6⟩
  go_wp2_with fail
  go_ret
  exact ⟨Fr.below_trans (hb.trans ((Below.two _ _).mono hb.size)) (Fr.below_trans HB5.out hfr6), ⟨hpos, p, hat6⟩, _, rfl, fun a q h => by cases h⟩

end Go.Proofs.YtblbkfdhjfppkaaGreatDoor

/- Contracts of the document's answer: a primary, where it is a list, a name or a call; any primary. -/
namespace Go.Proofs.YtblbkfdhjfppkaaGreatDoor
open Go.RowKit

/-- The end of a way through 'primary' on which the node has its parts from 'list'. -/
theorem node_list {C : Ctx} {w W2 w4 : World} {b : Nat} {r : Hs.R (List Hs.Ast)} {op te : List UInt8} {li : Nat} {x : Option Addr} {n c : Nat} {k0 : Value} (hf : Fr C.pb w W2) (hp : PostL C W2 r (.returned (.slice x n c)) w4)
    (hb1 : w.heap.size ≤ b) (hb2 : b < W2.heap.size) (hfar : b ≠ C.pb ∧ b ≠ C.g) (hblk : W2.heap[b]? = some (.cells #[.string (bs op), .int .i64 li, .string (bs te), k0] 92 (0, 0))) :
    PostN C w (Hs.mapR (Hs.node op li te) r) (.returned (.pointer (some ⟨b, 0, none⟩))) (w4.setCell ⟨b, 3, none⟩ (.slice x n c)) := by
  obtain ⟨h1, h2, x', n', c', he, h4⟩ := hp
  cases he
  have hblk4 : w4.heap[b]? = _ := (h1.block b hb2 hfar.1).trans hblk
  refine ⟨(hf.trans h1).setCell (Or.inr hb1) _, ?_, b, rfl, fun a q ha => ?_⟩
  · have e : stR (Hs.mapR (Hs.node op li te) r) = stR r := by cases r <;> rfl
    rw [e]; exact h2.other hfar.1 hfar.2 _
  · cases r with
    | error l => cases ha
    | ok aq =>
      obtain ⟨ks, q'⟩ := aq
      cases ha
      have hk := h4 _ _ rfl
      refine Rep.mk (kv := .slice x n c) ⟨hb1, by rw [size_set]; exact lt_of_block hblk4⟩ (by rw [heap_setCell_at hblk4]; rfl) ?_
      have hk2 : Kid (Btw W2.heap.size w4.heap.size) (w4.setCell ⟨b, 3, none⟩ (.slice x n c)) (.slice x n c) ks := hk.keep fun k hk => Below.heap_setCell _ _ _ _ (by have := hk.1; show k ≠ b; omega)
      exact hk2.mono fun k hk => ⟨by have := hk.1; have := hf.size; omega, by rw [size_set]; exact hk.2⟩

set_option maxRecDepth 100000 in
set_option maxHeartbeats 1000000 in
theorem primary_list (C : Ctx) (E : Nat → Hs.R Hs.Ast) (HE : Reads C 83 E) (w : World) (p : Nat) (h : At C w p 0) (h1 : (Hs.tk C.ts p).sort ≠ 48) (h2 : (Hs.tk C.ts p).sort ≠ 115) (h3 : Hs.isT C.ts p [116, 114, 117, 101] = false) (h4 : Hs.isT C.ts p [102, 97, 108, 115, 101] = false)
    (h5 : Hs.isT C.ts p [40] = false) (h6 : Hs.isT C.ts p [91] = true) (hr : Hs.listP E C.ts p [91] [93] ≠ .error 0) :
    Calls Tryz.prog 259 #[.pointer (some ⟨C.pb, 0, none⟩)] w (PostN C w (Hs.mapR (Hs.node [108, 105, 115, 116] (Hs.tk C.ts p).line (Hs.tk C.ts p).text) (Hs.listP E C.ts p [91] [93]))) := by
  have HP := mkHid (peek_any C w p 0 h)
  have HA := mkHid h
  have HI := mkHid (And.intro h3 (And.intro h4 (And.intro h5 h6)))
  have HEE := mkHid (And.intro HE hr)
  have e1 : (((Hs.tk C.ts p).sort : Int) == 48) = false := by simp; omega
  have e2 : (((Hs.tk C.ts p).sort : Int) == 115) = false := by simp; omega
  clear h h1 h2 h3 h4 h5 h6 HE hr
  go_enter Tryz.func259, Tryz.ntmps259
  go_wp2_with fail
  refine HP.out.mono ?_
  rw [tokV]
  rintro e w1 ⟨rfl, hb⟩
  obtain ⟨hl, -, -, c1, c2, fz⟩ := HA.out.cells hb
  have hl2 : C.pb < w1.heap.size + 1 := by omega
  have hl3 : C.pb < w1.heap.size + 1 + 1 := by omega
  clear fz HP
  go_wp2_with fail
  refine (eat_no C _ p 0 _ ((HA.out.below hb).below (Below.two _ _)) (by simpa using HI.out.1)).mono ?_
  rintro e w2 ⟨rfl, hb2⟩
  go_wp2_with fail
  refine (eat_no C _ p 0 _ (((HA.out.below hb).below (Below.two _ _)).below hb2) (by simpa using HI.out.2.1)).mono ?_
  rintro e w3 ⟨rfl, hb3⟩
  go_wp2_with fail
  refine (eat_no C _ p 0 _ ((((HA.out.below hb).below (Below.two _ _)).below hb2).below hb3) (by simpa using HI.out.2.2.1)).mono ?_
  rintro e w4 ⟨rfl, hb4⟩
  have hB4 := (hb2.trans (hb3.mono hb2.size)).trans (hb4.mono (Nat.le_trans hb2.size hb3.size))
  clear hb2 hb3 hb4
  go_wp2_with fail
  refine (is_any C _ p 0 _ (((HA.out.below hb).below (Below.two _ _)).below hB4)).mono ?_
  rw [show Hs.isT C.ts p (⟨#[91]⟩ : ByteArray).data.toList = true from HI.out.2.2.2]
  rintro e w5 ⟨rfl, hb5⟩
  have hB5 := hB4.trans (hb5.mono hB4.size)
  have hn : w5.heap[w1.heap.size + 1]? = some (.cells #[.string (bs []), .int .i64 (Hs.tk C.ts p).line, .string (bs (Hs.tk C.ts p).text), .slice none 0 0] 92 (0, 0)) := by
    rw [hB5.block _ (by simp)]
    exact heap_second _ _ (by simp) _ _
  obtain ⟨hn0, n0, n1, n2, n3, g0, g2, g3⟩ := node_cells hn
  have HN := mkHid hn
  have HB5 := mkHid hB5
  have hsz := hb.size
  have HFAR := mkHid (AtS.far (S := .ok p) HA.out (show w.heap.size ≤ w1.heap.size + 1 by omega))
  clear hB4 hb5 hB5 hn c1 c2
  go_wp2_with fail
  have HAT5 := mkHid ((((HA.out.below hb).below (Below.two _ _)).below HB5.out).other (i := 0) HFAR.out.1 HFAR.out.2 (.string ⟨#[108, 105, 115, 116]⟩))
  refine (list_R C E HEE.out.1 _ (.ok p) ⟨#[91]⟩ ⟨#[93]⟩ HAT5.out HEE.out.2).mono ?_
  rintro e w6 hpl
  obtain ⟨x6, n6, c6, rfl⟩ : ∃ x n c, e = .returned (.slice x n c) := by obtain ⟨_, _, x, n, c, h, _⟩ := hpl; exact ⟨x, n, c, h⟩
  have hn6 := (hpl.1.block (w1.heap.size + 1) (by rw [size_set]; omega) HFAR.out.1).trans (heap_setCell_at HN.out)
  obtain ⟨hm0, m0, m1, m2, m3, k0, k2, k3⟩ := node_cells hn6
  have HPL := mkHid hpl
  clear hpl hn6 n0 n1 n2 n3 g0 g2 g3
  go_wp2_with fail
  go_ret
  exact node_list (Fr.setCell (Fr.below_trans (hb.trans ((Below.two _ _).mono hb.size)) (Fr.below HB5.out)) (Or.inr (by show _ ≤ w1.heap.size + 1; omega)) _) HPL.out (by omega) (by rw [size_set]; omega) HFAR.out (heap_setCell_at HN.out)

set_option maxRecDepth 100000 in
set_option maxHeartbeats 1000000 in
theorem primary_name (C : Ctx) (w : World) (p : Nat) (h : At C w p 0) (h3 : Hs.isT C.ts p [116, 114, 117, 101] = false) (h4 : Hs.isT C.ts p [102, 97, 108, 115, 101] = false)
    (h5 : Hs.isT C.ts p [40] = false) (h6 : Hs.isT C.ts p [91] = false) (h7 : (Hs.tk C.ts p).sort = 110) (h8 : Hs.isT C.ts (p + 1) [40] = false) :
    Calls Tryz.prog 259 #[.pointer (some ⟨C.pb, 0, none⟩)] w (PostN C w (.ok (Hs.node [110, 97, 109, 101] (Hs.tk C.ts p).line (Hs.tk C.ts p).text [], p + 1))) := by
  have HP := mkHid (peek_any C w p 0 h)
  have HA := mkHid h
  have HI := mkHid (And.intro h3 (And.intro h4 (And.intro h5 h6)))
  have H8 := mkHid h8
  have e1 : (((Hs.tk C.ts p).sort : Int) == 48) = false := by rw [h7]; rfl
  have e2 : (((Hs.tk C.ts p).sort : Int) == 115) = false := by rw [h7]; rfl
  have e3 : (((Hs.tk C.ts p).sort : Int) == 110) = true := by rw [h7]; rfl
  have hp : p + 1 < C.ts.length := h.next (by omega)
  have hlen := h.len
  clear h h3 h4 h5 h6 h7 h8
  go_enter Tryz.func259, Tryz.ntmps259
  go_wp2_with fail
  refine HP.out.mono ?_
  rw [tokV]
  rintro e w1 ⟨rfl, hb⟩
  obtain ⟨hl, -, -, c1, c2, fz⟩ := HA.out.cells hb
  have hl2 : C.pb < w1.heap.size + 1 := by omega
  have hl3 : C.pb < w1.heap.size + 1 + 1 := by omega
  clear fz HP
  go_wp2_with fail
  refine (eat_no C _ p 0 _ ((HA.out.below hb).below (Below.two _ _)) (by simpa using HI.out.1)).mono ?_
  rintro e w2 ⟨rfl, hb2⟩
  go_wp2_with fail
  refine (eat_no C _ p 0 _ (((HA.out.below hb).below (Below.two _ _)).below hb2) (by simpa using HI.out.2.1)).mono ?_
  rintro e w3 ⟨rfl, hb3⟩
  go_wp2_with fail
  refine (eat_no C _ p 0 _ ((((HA.out.below hb).below (Below.two _ _)).below hb2).below hb3) (by simpa using HI.out.2.2.1)).mono ?_
  rintro e w4 ⟨rfl, hb4⟩
  have hB4 := (hb2.trans (hb3.mono hb2.size)).trans (hb4.mono (Nat.le_trans hb2.size hb3.size))
  clear hb2 hb3 hb4
  go_wp2_with fail
  refine (is_any C _ p 0 _ (((HA.out.below hb).below (Below.two _ _)).below hB4)).mono ?_
  rw [show Hs.isT C.ts p (⟨#[91]⟩ : ByteArray).data.toList = false from HI.out.2.2.2]
  rintro e w5 ⟨rfl, hb5⟩
  have hB5 := hB4.trans (hb5.mono hB4.size)
  have hn : w5.heap[w1.heap.size + 1]? = some (.cells #[.string (bs []), .int .i64 (Hs.tk C.ts p).line, .string (bs (Hs.tk C.ts p).text), .slice none 0 0] 92 (0, 0)) := by
    rw [hB5.block _ (by simp)]
    exact heap_second _ _ (by simp) _ _
  have ht5 : w5.cell? ⟨w1.heap.size, 0, none⟩ = some (.int .u8 (Hs.tk C.ts p).sort) := by
    rw [hB5.cell (p := ⟨w1.heap.size, 0, none⟩) (by simp; omega)]
    simp [go_sem]
  obtain ⟨hn0, n0, n1, n2, n3, g0, g2, g3⟩ := node_cells hn
  obtain ⟨hl5, -, -, d1, d2, fz⟩ := (((HA.out.below hb).below (Below.two _ _)).cells hB5)
  have fz1 := (fz 1).2
  have HN := mkHid hn
  have HB5 := mkHid hB5
  have hsz := hb.size
  have HFAR := mkHid (AtS.far (S := .ok p) HA.out (show w.heap.size ≤ w1.heap.size + 1 by omega))
  have hfar1 := HFAR.out.1
  have hfar2 : ¬ C.pb = w1.heap.size + 1 := fun e => HFAR.out.1 e.symm
  clear hB4 hb5 hB5 hn c1 c2 fz
  go_wp2_with fail
  have HA6 := mkHid (((((HA.out.below hb).below (Below.two _ _)).below HB5.out).other (i := 0) HFAR.out.1 HFAR.out.2 (.string ⟨#[110, 97, 109, 101]⟩)).step (Below.refl _ _) hp)
  have HN6 : Hid (((w5.setCell ⟨w1.heap.size + 1, 0, none⟩ (.string ⟨#[110, 97, 109, 101]⟩)).setCell ⟨C.pb, 1, none⟩ (.int .i64 ((p : Int) + 1))).heap[w1.heap.size + 1]? = some (.cells #[.string ⟨#[110, 97, 109, 101]⟩, .int .i64 (Hs.tk C.ts p).line, .string (bs (Hs.tk C.ts p).text), .slice none 0 0] 92 (0, 0))) := by
    show _ = _
    rw [Below.heap_setCell _ _ _ _ hfar1, heap_setCell_at HN.out]; rfl
  have HF6 := mkHid ((Fr.setCell (p := ⟨w1.heap.size + 1, 0, none⟩) (Fr.below_trans (hb.trans ((Below.two _ _).mono hb.size)) (Fr.below HB5.out)) (Or.inr (by show _ ≤ w1.heap.size + 1; omega)) (.string ⟨#[110, 97, 109, 101]⟩)).trans HA6.out.2)
  refine (is_any C _ (p + 1) 0 _ HA6.out.1).mono ?_
  rw [show Hs.isT C.ts (p + 1) (⟨#[40]⟩ : ByteArray).data.toList = false from H8.out]
  rintro e w7 ⟨rfl, hb7⟩
  go_wp2_with fail
  go_ret
  exact node_end (q := p + 1) (b := w1.heap.size + 1) (HF6.out.trans_below hb7) (HA6.out.1.below hb7) (by omega) rfl (by rw [hb7.block _ (lt_of_block HN6.out)]; exact HN6.out)

set_option maxRecDepth 100000 in
set_option maxHeartbeats 1000000 in
theorem primary_call (C : Ctx) (E : Nat → Hs.R Hs.Ast) (HE : Reads C 83 E) (w : World) (p : Nat) (h : At C w p 0) (h3 : Hs.isT C.ts p [116, 114, 117, 101] = false) (h4 : Hs.isT C.ts p [102, 97, 108, 115, 101] = false)
    (h5 : Hs.isT C.ts p [40] = false) (h6 : Hs.isT C.ts p [91] = false) (h7 : (Hs.tk C.ts p).sort = 110) (h8 : Hs.isT C.ts (p + 1) [40] = true) (hr : Hs.listP E C.ts (p + 1) [40] [41] ≠ .error 0) :
    Calls Tryz.prog 259 #[.pointer (some ⟨C.pb, 0, none⟩)] w (PostN C w (Hs.mapR (Hs.node [99, 97, 108, 108] (Hs.tk C.ts p).line (Hs.tk C.ts p).text) (Hs.listP E C.ts (p + 1) [40] [41]))) := by
  have HP := mkHid (peek_any C w p 0 h)
  have HA := mkHid h
  have HI := mkHid (And.intro h3 (And.intro h4 (And.intro h5 h6)))
  have H8 := mkHid h8
  have HEE := mkHid (And.intro HE hr)
  have e1 : (((Hs.tk C.ts p).sort : Int) == 48) = false := by rw [h7]; rfl
  have e2 : (((Hs.tk C.ts p).sort : Int) == 115) = false := by rw [h7]; rfl
  have e3 : (((Hs.tk C.ts p).sort : Int) == 110) = true := by rw [h7]; rfl
  have hp : p + 1 < C.ts.length := h.next (by omega)
  have hlen := h.len
  clear h h3 h4 h5 h6 h7 h8 HE hr
  go_enter Tryz.func259, Tryz.ntmps259
  go_wp2_with fail
  refine HP.out.mono ?_
  rw [tokV]
  rintro e w1 ⟨rfl, hb⟩
  obtain ⟨hl, -, -, c1, c2, fz⟩ := HA.out.cells hb
  have hl2 : C.pb < w1.heap.size + 1 := by omega
  have hl3 : C.pb < w1.heap.size + 1 + 1 := by omega
  clear fz HP
  go_wp2_with fail
  refine (eat_no C _ p 0 _ ((HA.out.below hb).below (Below.two _ _)) (by simpa using HI.out.1)).mono ?_
  rintro e w2 ⟨rfl, hb2⟩
  go_wp2_with fail
  refine (eat_no C _ p 0 _ (((HA.out.below hb).below (Below.two _ _)).below hb2) (by simpa using HI.out.2.1)).mono ?_
  rintro e w3 ⟨rfl, hb3⟩
  go_wp2_with fail
  refine (eat_no C _ p 0 _ ((((HA.out.below hb).below (Below.two _ _)).below hb2).below hb3) (by simpa using HI.out.2.2.1)).mono ?_
  rintro e w4 ⟨rfl, hb4⟩
  have hB4 := (hb2.trans (hb3.mono hb2.size)).trans (hb4.mono (Nat.le_trans hb2.size hb3.size))
  clear hb2 hb3 hb4
  go_wp2_with fail
  refine (is_any C _ p 0 _ (((HA.out.below hb).below (Below.two _ _)).below hB4)).mono ?_
  rw [show Hs.isT C.ts p (⟨#[91]⟩ : ByteArray).data.toList = false from HI.out.2.2.2]
  rintro e w5 ⟨rfl, hb5⟩
  have hB5 := hB4.trans (hb5.mono hB4.size)
  have hn : w5.heap[w1.heap.size + 1]? = some (.cells #[.string (bs []), .int .i64 (Hs.tk C.ts p).line, .string (bs (Hs.tk C.ts p).text), .slice none 0 0] 92 (0, 0)) := by
    rw [hB5.block _ (by simp)]
    exact heap_second _ _ (by simp) _ _
  have ht5 : w5.cell? ⟨w1.heap.size, 0, none⟩ = some (.int .u8 (Hs.tk C.ts p).sort) := by
    rw [hB5.cell (p := ⟨w1.heap.size, 0, none⟩) (by simp; omega)]
    simp [go_sem]
  obtain ⟨hn0, n0, n1, n2, n3, g0, g2, g3⟩ := node_cells hn
  obtain ⟨hl5, -, -, d1, d2, fz⟩ := (((HA.out.below hb).below (Below.two _ _)).cells hB5)
  have fz1 := (fz 1).2
  have HN := mkHid hn
  have HB5 := mkHid hB5
  have hsz := hb.size
  have HFAR := mkHid (AtS.far (S := .ok p) HA.out (show w.heap.size ≤ w1.heap.size + 1 by omega))
  have hfar1 := HFAR.out.1
  have hfar2 : ¬ C.pb = w1.heap.size + 1 := fun e => HFAR.out.1 e.symm
  clear hB4 hb5 hB5 hn c1 c2 fz
  go_wp2_with fail
  have HA6 := mkHid (((((HA.out.below hb).below (Below.two _ _)).below HB5.out).other (i := 0) HFAR.out.1 HFAR.out.2 (.string ⟨#[110, 97, 109, 101]⟩)).step (Below.refl _ _) hp)
  have HN6 : Hid (((w5.setCell ⟨w1.heap.size + 1, 0, none⟩ (.string ⟨#[110, 97, 109, 101]⟩)).setCell ⟨C.pb, 1, none⟩ (.int .i64 ((p : Int) + 1))).heap[w1.heap.size + 1]? = some (.cells #[.string ⟨#[110, 97, 109, 101]⟩, .int .i64 (Hs.tk C.ts p).line, .string (bs (Hs.tk C.ts p).text), .slice none 0 0] 92 (0, 0))) := by
    show _ = _
    rw [Below.heap_setCell _ _ _ _ hfar1, heap_setCell_at HN.out]; rfl
  have HF6 := mkHid ((Fr.setCell (p := ⟨w1.heap.size + 1, 0, none⟩) (Fr.below_trans (hb.trans ((Below.two _ _).mono hb.size)) (Fr.below HB5.out)) (Or.inr (by show _ ≤ w1.heap.size + 1; omega)) (.string ⟨#[110, 97, 109, 101]⟩)).trans HA6.out.2)
  refine (is_any C _ (p + 1) 0 _ HA6.out.1).mono ?_
  rw [show Hs.isT C.ts (p + 1) (⟨#[40]⟩ : ByteArray).data.toList = true from H8.out]
  rintro e w7 ⟨rfl, hb7⟩
  have hn7 : w7.heap[w1.heap.size + 1]? = _ := (hb7.block _ (lt_of_block HN6.out)).trans HN6.out
  have hA7 := HA6.out.1.below hb7
  have hF7 := HF6.out.trans_below hb7
  obtain ⟨hm0, m0, m1, m2, m3, k0, k2, k3⟩ := node_cells hn7
  have HN7 := mkHid hn7
  have HA7 := mkHid hA7
  have HF7 := mkHid hF7
  clear hn7 hA7 hF7 hb7 n0 n1 n2 n3 g0 g2 g3 d1 d2 fz1 ht5
  go_wp2_with fail
  refine (list_R C E HEE.out.1 _ (.ok (p + 1)) ⟨#[40]⟩ ⟨#[41]⟩ (HA7.out.other HFAR.out.1 HFAR.out.2 _) HEE.out.2).mono ?_
  rintro e w8 hpl
  obtain ⟨x6, n6, c6, rfl⟩ : ∃ x n c, e = .returned (.slice x n c) := by obtain ⟨_, _, x, n, c, h, _⟩ := hpl; exact ⟨x, n, c, h⟩
  have hn8 := (hpl.1.block (w1.heap.size + 1) (by rw [size_set]; omega) HFAR.out.1).trans (heap_setCell_at HN7.out)
  obtain ⟨hq0, q0, q1, q2, q3, r0, r2, r3⟩ := node_cells hn8
  have HPL := mkHid hpl
  clear hpl hn8 m0 m1 m2 m3 k0 k2 k3
  go_wp2_with fail
  go_ret
  exact node_list (Fr.setCell HF7.out (Or.inr (by show _ ≤ w1.heap.size + 1; omega)) _) HPL.out (by omega) (by rw [size_set]; omega) HFAR.out (heap_setCell_at HN7.out)

/-- Any primary. -/
theorem primary_reads (C : Ctx) (E : Nat → Hs.R Hs.Ast) (HE : Reads C 83 E) : Reads C 259 (Hs.primaryP E C.ts) := by
  intro w S h hr
  cases S with
  | error l => exact primary_er C w l h
  | ok p =>
    have hat : At C w p 0 := h
    have hr' : Hs.primaryP E C.ts p ≠ .error 0 := hr
    show Calls _ _ _ _ (PostN C w (Hs.primaryP E C.ts p))
    unfold Hs.primaryP at hr' ⊢
    by_cases h48 : (Hs.tk C.ts p).sort = 48
    · rw [if_pos (by rw [h48]; rfl), h48]
      exact primary_lit C w p hat 48 h48 (Or.inl rfl)
    by_cases h115 : (Hs.tk C.ts p).sort = 115
    · rw [if_pos (by rw [h115]; rfl), h115]
      exact primary_lit C w p hat 115 h115 (Or.inr rfl)
    have e0 : ((Hs.tk C.ts p).sort == 48 || (Hs.tk C.ts p).sort == 115) = false := by simp [h48, h115]
    rw [if_neg (by rw [e0]; simp)] at hr' ⊢
    cases ht : Hs.isT C.ts p [116, 114, 117, 101]
    · cases hf : Hs.isT C.ts p [102, 97, 108, 115, 101]
      · rw [ht, hf] at hr'
        rw [if_neg (by simp)] at hr' ⊢
        cases hp : Hs.isT C.ts p [40]
        · rw [hp] at hr'
          rw [if_neg (by simp)] at hr' ⊢
          cases hq : Hs.isT C.ts p [91]
          · rw [hq] at hr'
            rw [if_neg (by simp)] at hr' ⊢
            by_cases h110 : (Hs.tk C.ts p).sort = 110
            · have e1 : ((Hs.tk C.ts p).sort == 110) = true := by simp [h110]
              rw [if_pos e1] at hr' ⊢
              cases hc : Hs.isT C.ts (p + 1) [40]
              · exact primary_name C w p hat ht hf hp hq h110 hc
              · rw [hc, if_pos rfl] at hr'
                exact primary_call C E HE w p hat ht hf hp hq h110 hc (fun e => hr' (by rw [e]; rfl))
            · have e1 : ((Hs.tk C.ts p).sort == 110) = false := by simp [h110]
              rw [if_neg (by rw [e1]; simp)]
              exact primary_none C w p hat h48 h115 ht hf hp hq h110
          · rw [hq, if_pos rfl] at hr'
            exact primary_list C E HE w p hat h48 h115 ht hf hp hq (fun e => hr' (by rw [e]; rfl))
        · rw [hp, if_pos rfl] at hr'
          exact primary_paren C E HE w p hat h48 h115 ht hf hp (fun e => hr' (by rw [e]; rfl))
      · exact primary_false C w p hat h48 h115 ht hf
    · exact primary_true C w p hat h48 h115 ht

end Go.Proofs.YtblbkfdhjfppkaaGreatDoor

/- Contracts of the document's answer: an operation of one operand, indices. -/
namespace Go.Proofs.YtblbkfdhjfppkaaGreatDoor
open Go.RowKit

/-- A tree stays in a world that has only grown. -/
theorem Rep.grow {lo hi lo' hi' : Nat} {w w' : World} {v : Value} {a : Hs.Ast} (h : Rep (Btw lo hi) w v a) (hk : ∀ k, lo ≤ k → k < hi → w'.heap[k]? = w.heap[k]?) (h1 : lo' ≤ lo) (h2 : hi ≤ hi') : Rep (Btw lo' hi') w' v a :=
  (h.keep fun k hk' => hk k hk'.1 hk'.2).mono fun k hk' => ⟨by have := hk'.1; omega, by have := hk'.2; omega⟩

/-- A new node with two parts. -/
theorem node_two {lo : Nat} {w : World} {va vb : Value} {a b : Hs.Ast} (op te : List UInt8) (li : Nat) (ha : Rep (Btw lo w.heap.size) w va a) (hb : Rep (Btw lo w.heap.size) w vb b) (hlo : lo ≤ w.heap.size) :
    Rep (Btw lo (w.heap.size + 2)) ((w.alloc (.cells #[va, vb] 25)).alloc (.cells #[.string (bs op), .int .i64 li, .string (bs te), .slice (some ⟨w.heap.size, 0, none⟩) 2 2] 92)) (.pointer (some ⟨w.heap.size + 1, 0, none⟩)) (Hs.node op li te [a, b]) := by
  have hk : ∀ k, lo ≤ k → k < w.heap.size → ((w.alloc (.cells #[va, vb] 25)).alloc (.cells #[.string (bs op), .int .i64 li, .string (bs te), .slice (some ⟨w.heap.size, 0, none⟩) 2 2] 92)).heap[k]? = w.heap[k]? := fun k _ hk => (Below.two _ _).block k hk
  refine Rep.mk ⟨by omega, by omega⟩ (heap_second _ _ rfl _ _) (Or.inr ⟨w.heap.size, 2, #[va, vb], [va, vb], rfl, ⟨hlo, by omega⟩, ?_, Nat.le_refl _, rfl, ?_⟩)
  · exact heap_later _ _ (by simp) _ (heap_first _ _ rfl _)
  · exact ⟨ha.grow hk (Nat.le_refl _) (by omega), hb.grow hk (Nat.le_refl _) (by omega), trivial⟩

/-- A new node with one part. -/
theorem node_one {lo : Nat} {w : World} {va : Value} {a : Hs.Ast} (op te : List UInt8) (li : Nat) (ha : Rep (Btw lo w.heap.size) w va a) (hlo : lo ≤ w.heap.size) :
    Rep (Btw lo (w.heap.size + 2)) ((w.alloc (.cells #[va] 25)).alloc (.cells #[.string (bs op), .int .i64 li, .string (bs te), .slice (some ⟨w.heap.size, 0, none⟩) 1 1] 92)) (.pointer (some ⟨w.heap.size + 1, 0, none⟩)) (Hs.node op li te [a]) := by
  have hk : ∀ k, lo ≤ k → k < w.heap.size → ((w.alloc (.cells #[va] 25)).alloc (.cells #[.string (bs op), .int .i64 li, .string (bs te), .slice (some ⟨w.heap.size, 0, none⟩) 1 1] 92)).heap[k]? = w.heap[k]? := fun k _ hk => (Below.two _ _).block k hk
  refine Rep.mk ⟨by omega, by omega⟩ (heap_second _ _ rfl _ _) (Or.inr ⟨w.heap.size, 1, #[va], [va], rfl, ⟨hlo, by omega⟩, ?_, Nat.le_refl _, rfl, ?_⟩)
  · exact heap_later _ _ (by simp) _ (heap_first _ _ rfl _)
  · exact ⟨ha.grow hk (Nat.le_refl _) (by omega), trivial⟩

/-- What holds at the head of the loop over indices. -/
def IndexInv (C : Ctx) (E : Nat → Hs.R Hs.Ast) (w : World) (r : Hs.R Hs.Ast) (k : Nat) (v : Value) (wr : World) : Prop :=
  Fr C.pb w wr ∧ ∃ b, v = .pointer (some ⟨b, 0, none⟩) ∧
  ((∃ a q, At C wr q 0 ∧ r = Hs.indexLoop E C.ts k a q ∧ Rep (Btw w.heap.size wr.heap.size) wr v a) ∨ (∃ l, r = .error l ∧ AtS C wr (.error l)))

set_option maxRecDepth 100000 in
set_option maxHeartbeats 2000000 in
theorem unary_plain (C : Ctx) (E : Nat → Hs.R Hs.Ast) (HE : Reads C 83 E) (w : World) (S : Except Nat Nat) (h : AtS C w S) (h1 : isS C S [45] = false) (h2 : isS C S [33] = false) (r : Hs.R Hs.Ast)
    (hr : Hid (r = Hs.bindR (onS S (Hs.primaryP E C.ts)) (Hs.indexLoop E C.ts (C.ts.length + 1)))) (hr0 : r ≠ .error 0) :
    Calls Tryz.prog 196 #[.pointer (some ⟨C.pb, 0, none⟩)] w (PostN C w r) := by
  obtain ⟨hpb, hgb, hlen⟩ := h.facts
  have HP := mkHid (peek_S C w S h)
  have HA := mkHid h
  have HI := mkHid (And.intro h1 h2)
  have HEE := mkHid HE
  have HR0 := mkHid hr0
  have hfl := fld_line
  have hS1 : eatS C S (⟨#[45]⟩ : ByteArray).data.toList = S := by
    cases S with
    | ok q => exact eatS_no h1
    | error l => rfl
  have hS2 : eatS C S (⟨#[33]⟩ : ByteArray).data.toList = S := by
    cases S with
    | ok q => exact eatS_no h2
    | error l => rfl
  have HS := mkHid (And.intro hS1 hS2)
  clear h h1 h2 HE hr0 hS1 hS2
  go_enter Tryz.func196, Tryz.ntmps196
  go_wp2_with fail
  refine HP.out.mono ?_
  rintro e w1 ⟨⟨t, rfl, -⟩, hb⟩
  have HA1 := mkHid (HA.out.below hb)
  have HF1 := mkHid (Fr.below (pb := C.pb) hb)
  clear hb HP
  go_wp2_with fail
  refine (eat_S C _ S ⟨#[45]⟩ HA1.out).mono ?_
  rw [HS.out.1, show isS C S (⟨#[45]⟩ : ByteArray).data.toList = false from HI.out.1]
  rintro e w2 ⟨rfl, hat2, hfr2⟩
  have HA2 := mkHid hat2
  have HF2 := mkHid (HF1.out.trans hfr2)
  clear hat2 hfr2 HA1 HF1
  go_wp2_with fail
  refine (eat_S C _ S ⟨#[33]⟩ HA2.out).mono ?_
  rw [HS.out.2, show isS C S (⟨#[33]⟩ : ByteArray).data.toList = false from HI.out.2]
  rintro e w3 ⟨rfl, hat3, hfr3⟩
  have HA3 := mkHid hat3
  have HF3 := mkHid (HF2.out.trans hfr3)
  clear hat3 hfr3 HA2 HF2
  have hp0 : onS S (Hs.primaryP E C.ts) ≠ .error 0 := fun e => HR0.out (by rw [hr.out, e]; rfl)
  have HC := mkHid (primary_reads C E HEE.out w3 S HA3.out hp0)
  clear hp0
  go_wp2_with fail
  refine HC.out.mono ?_
  rintro e w4 ⟨hfr4, hat4, b4, rfl, hrep4⟩
  have HF4 := mkHid (HF3.out.trans hfr4)
  have HX4 := mkHid (And.intro hat4 hrep4)
  have hsz3 := HF3.out.size
  clear hat4 hrep4 hfr4 HC
  go_wp2_with fail
  go_loopg [8] (C.ts.length + 1) (fun k v wr => IndexInv C E w r k v wr)
  case atStart =>
    refine ⟨HF4.out, b4, rfl, ?_⟩
    obtain ⟨hat4, hrep4⟩ := HX4.out
    cases hp : onS S (Hs.primaryP E C.ts) with
    | error l =>
      rw [hp] at hat4
      exact Or.inr ⟨l, by rw [hr.out, hp]; rfl, hat4⟩
    | ok aq =>
      obtain ⟨a, q⟩ := aq
      rw [hp] at hat4
      exact Or.inl ⟨a, q, hat4, by rw [hr.out, hp]; rfl, (hrep4 a q hp).mono fun k hk => ⟨by have := hk.1; omega, hk.2⟩⟩
  case round =>
    obtain ⟨hf0, b0, rfl, hrel⟩ := hrel
    have HF0 := mkHid hf0
    have hsz0 := hf0.size
    clear hf0 HF4 HX4 HF3 HA3
    rcases hrel with ⟨a, q, hq, hr1, hrep⟩ | ⟨l, hr1, hl⟩
    · obtain ⟨k, rfl⟩ : ∃ k, gk = k + 1 := by
        cases gk with
        | zero => exact absurd hr1 HR0.out
        | succ k => exact ⟨k, rfl⟩
      rw [Hs.indexLoop] at hr1
      cases hi : Hs.isT C.ts q [91]
      · rw [hi, if_neg (by simp)] at hr1
        have HIS := is_S C wr (.ok q) ⟨#[91]⟩ hq
        rw [show isS C (.ok q) (⟨#[91]⟩ : ByteArray).data.toList = false from hi] at HIS
        have HIS' := mkHid HIS
        have HQ := mkHid hq
        have HR1 := mkHid hr1
        have HREP := mkHid hrep
        clear HIS hq hr1 hrep hi
        go_wp2_with fail
        refine HIS'.out.mono ?_
        rintro e w5 ⟨rfl, hb5⟩
        go_wp2_with fail
        go_ret
        refine ⟨HF0.out.trans_below hb5, by rw [HR1.out]; exact HQ.out.below hb5, b0, rfl, fun a' q' h => ?_⟩
        rw [HR1.out] at h
        cases h
        exact HREP.out.grow (fun k _ hk => hb5.block k hk) (Nat.le_refl _) hb5.size
      · rw [hi, if_pos rfl] at hr1
        have HIS := is_S C wr (.ok q) ⟨#[91]⟩ hq
        rw [show isS C (.ok q) (⟨#[91]⟩ : ByteArray).data.toList = true from hi] at HIS
        have HIS' := mkHid HIS
        have HQ := mkHid hq
        have HR1 := mkHid hr1
        have HREP := mkHid hrep
        have hp1 : q + 1 < C.ts.length := hq.next (isT_sort hi)
        clear HIS hq hr1 hrep hi
        go_wp2_with fail
        refine HIS'.out.mono ?_
        rintro e w5 ⟨rfl, hb5⟩
        have HP5 := mkHid (peek_any C w5 q 0 (HQ.out.below hb5))
        clear HIS'
        go_wp2_with fail
        refine HP5.out.mono ?_
        rw [tokV]
        rintro e w6 ⟨rfl, hb6⟩
        have hB6 := hb5.trans (hb6.mono hb5.size)
        obtain ⟨hl6, -, -, d1, d2, fz⟩ := HQ.out.cells hB6
        have fz1 := (fz 1).2
        have HST := mkHid (HQ.out.step hB6 hp1)
        have hE0 : onS (.ok (q + 1)) E ≠ .error 0 := fun e => HR0.out (by
          rw [HR1.out, show E (q + 1) = .error 0 from e]; rfl)
        have HC := mkHid (HEE.out _ (.ok (q + 1)) HST.out.1 hE0)
        clear hb5 hb6 hB6 fz HP5 hE0
        go_wp2_with fail
        refine HC.out.mono ?_
        rintro e w7 ⟨hfr7, hat7, b7, rfl, hrep7⟩
        have HX7 := mkHid (And.intro hfr7 (And.intro hat7 hrep7))
        clear hfr7 hat7 hrep7 HC d1 d2 fz1
        have HT := mkHid (fun o1 o2 => take_S C ((w7.alloc o1).alloc o2) _ ⟨#[93]⟩ (HX7.out.2.1.below (Below.two _ _)))
        go_wp2_with fail
        refine (HT.out _ _).mono ?_
        rintro e w8 ⟨rfl, hat8, hfr8⟩
        go_wp2_with fail
        go_roundg k
        case measure => omega
        case rel =>
          obtain ⟨hfr7, hat7, hrep7⟩ := HX7.out
          refine ⟨((HF0.out.trans (HST.out.2.trans hfr7)).trans_below (Below.two _ _)).trans hfr8, w7.heap.size + 1, rfl, ?_⟩
          have hr2 := HR1.out
          have hat8' := hat8
          rw [takeS_then] at hat8'
          rw [show onS (.ok (q + 1)) E = E (q + 1) from rfl] at hat8' hrep7
          cases hE : Hs.thenTake C.ts [93] (E (q + 1)) with
          | error l =>
            rw [hE] at hr2
            refine Or.inr ⟨l, hr2, ?_⟩
            rw [hE] at hat8'
            exact hat8'
          | ok iq =>
            obtain ⟨i, q1⟩ := iq
            rw [hE] at hr2
            rw [hE] at hat8'
            obtain ⟨q2, hq2⟩ := thenTake_ok hE
            refine Or.inl ⟨_, q1, hat8', hr2, ?_⟩
            have hs67 := HST.out.2.size
            have hs7 := hfr7.size
            have ha7 : Rep (Btw w.heap.size w7.heap.size) w7 (.pointer (some ⟨b0, 0, none⟩)) a := HREP.out.grow (fun k hk1 hk2 => ((HST.out.2.trans hfr7).block k hk2 (by omega))) (Nat.le_refl _) (by omega)
            have hi7 : Rep (Btw w.heap.size w7.heap.size) w7 (.pointer (some ⟨b7, 0, none⟩)) i := (hrep7 i q2 hq2).mono fun k hk => ⟨by have := hk.1; omega, hk.2⟩
            have hnode := node_two [105, 110, 100, 101, 120] [] (Hs.tk C.ts q).line ha7 hi7 (by omega)
            exact hnode.grow (fun k hk1 hk2 => hfr8.block k (by simp; omega) (by omega)) (Nat.le_refl _) (by have := hfr8.size; simp at this; omega)
    · have HIS := mkHid (is_S C wr (.error l) ⟨#[91]⟩ hl)
      have HL := mkHid hl
      have HR1 := mkHid hr1
      clear hl hr1
      go_wp2_with fail
      refine HIS.out.mono ?_
      rw [isS_er]
      rintro e w5 ⟨rfl, hb5⟩
      go_wp2_with fail
      go_ret
      exact ⟨HF0.out.trans_below hb5, by rw [HR1.out]; exact HL.out.below hb5, b0, rfl, fun a q h => by rw [HR1.out] at h; cases h⟩

/-- The end of an operation of one operand. -/
theorem sign_end {C : Ctx} {w w2 w3 : World} {op : List UInt8} {li b : Nat} {r : Hs.R Hs.Ast} (hf2 : Fr C.pb w w2) (hf3 : Fr C.pb w2 w3) (hat : AtS C w3 (stR r)) (hrep : ∀ a q, r = .ok (a, q) → Rep (Btw w2.heap.size w3.heap.size) w3 (.pointer (some ⟨b, 0, none⟩)) a) :
    PostN C w (Hs.mapR (fun x => Hs.node op li [] [x]) r) (.returned (.pointer (some ⟨w3.heap.size + 1, 0, none⟩))) ((w3.alloc (.cells #[.pointer (some ⟨b, 0, none⟩)] 25)).alloc (.cells #[.string (bs op), .int .i64 li, .string (bs []), .slice (some ⟨w3.heap.size, 0, none⟩) 1 1] 92)) := by
  have e : stR (Hs.mapR (fun x => Hs.node op li [] [x]) r) = stR r := by cases r <;> rfl
  refine ⟨(hf2.trans hf3).trans_below (Below.two _ _), by rw [e]; exact hat.below (Below.two _ _), _, rfl, fun a q ha => ?_⟩
  cases r with
  | error l => cases ha
  | ok xq =>
    obtain ⟨x, q'⟩ := xq
    cases ha
    have h1 := hf2.size
    have h2 := hf3.size
    exact (node_one op [] li ((hrep _ _ rfl).mono fun k hk => (⟨by have := hk.1; omega, hk.2⟩ : Btw w.heap.size w3.heap.size k)) (by omega)).mono fun k hk => ⟨hk.1, by have := hk.2; simp; omega⟩

set_option maxRecDepth 100000 in
set_option maxHeartbeats 2000000 in
theorem unary_minus (C : Ctx) (X : Nat → Hs.R Hs.Ast) (HE : Reads C 196 X) (w : World) (p : Nat) (h : At C w p 0) (h2 : Hs.isT C.ts p [45] = true) (hr0 : X (p + 1) ≠ .error 0) :
    Calls Tryz.prog 196 #[.pointer (some ⟨C.pb, 0, none⟩)] w (PostN C w (Hs.mapR (fun x => Hs.node [45, 120] (Hs.tk C.ts p).line [] [x]) (X (p + 1)))) := by
  obtain ⟨hpb, hgb, hlen⟩ := AtS.facts (S := .ok p) h
  have HP := mkHid (peek_any C w p 0 h)
  have HA := mkHid h
  have HEE := mkHid (And.intro HE hr0)
  have hfl := fld_line
  have HI := mkHid h2
  clear h h2 HE hr0
  go_enter Tryz.func196, Tryz.ntmps196
  go_wp2_with fail
  refine HP.out.mono ?_
  rw [tokV]
  rintro e w1 ⟨rfl, hb⟩
  have HA1 := mkHid (HA.out.below hb)
  have HF1 := mkHid (Fr.below (pb := C.pb) hb)
  clear hb HP
  go_wp2_with fail
  refine (eat_ok C _ p ⟨#[45]⟩ HA1.out HI.out).mono ?_
  rintro e w2 ⟨rfl, hat2, hfr2⟩
  have HF2 := mkHid (HF1.out.trans hfr2)
  have HC := mkHid (HEE.out.1 w2 (.ok (p + 1)) hat2 HEE.out.2)
  clear hat2 hfr2 HA1 HF1
  go_wp2_with fail
  refine HC.out.mono ?_
  rintro e w3 ⟨hfr3, hat3, b3, rfl, hrep3⟩
  have HX3 := mkHid (And.intro hfr3 (And.intro hat3 hrep3))
  clear hfr3 hat3 hrep3 HC
  go_wp2_with fail
  go_ret
  exact sign_end HF2.out HX3.out.1 HX3.out.2.1 HX3.out.2.2

set_option maxRecDepth 100000 in
set_option maxHeartbeats 2000000 in
theorem unary_not (C : Ctx) (X : Nat → Hs.R Hs.Ast) (HE : Reads C 196 X) (w : World) (p : Nat) (h : At C w p 0) (h1 : Hs.isT C.ts p [45] = false) (h2 : Hs.isT C.ts p [33] = true) (hr0 : X (p + 1) ≠ .error 0) :
    Calls Tryz.prog 196 #[.pointer (some ⟨C.pb, 0, none⟩)] w (PostN C w (Hs.mapR (fun x => Hs.node [33, 120] (Hs.tk C.ts p).line [] [x]) (X (p + 1)))) := by
  obtain ⟨hpb, hgb, hlen⟩ := AtS.facts (S := .ok p) h
  have HP := mkHid (peek_any C w p 0 h)
  have HA := mkHid h
  have HEE := mkHid (And.intro HE hr0)
  have hfl := fld_line
  have HI := mkHid (And.intro h1 h2)
  clear h h1 h2 HE hr0
  go_enter Tryz.func196, Tryz.ntmps196
  go_wp2_with fail
  refine HP.out.mono ?_
  rw [tokV]
  rintro e w1 ⟨rfl, hb⟩
  have HA1 := mkHid (HA.out.below hb)
  have HF1 := mkHid (Fr.below (pb := C.pb) hb)
  clear hb HP
  go_wp2_with fail
  refine (eat_no C _ p 0 ⟨#[45]⟩ HA1.out (by rw [show Hs.isT C.ts p (⟨#[45]⟩ : ByteArray).data.toList = false from HI.out.1]; rfl)).mono ?_
  rintro e w1b ⟨rfl, hb1⟩
  go_wp2_with fail
  refine (eat_ok C _ p ⟨#[33]⟩ (HA1.out.below hb1) HI.out.2).mono ?_
  rintro e w2 ⟨rfl, hat2, hfr2⟩
  have HF2 := mkHid ((HF1.out.trans_below hb1).trans hfr2)
  have HC := mkHid (HEE.out.1 w2 (.ok (p + 1)) hat2 HEE.out.2)
  clear hat2 hfr2 HA1 HF1 hb1
  go_wp2_with fail
  refine HC.out.mono ?_
  rintro e w3 ⟨hfr3, hat3, b3, rfl, hrep3⟩
  have HX3 := mkHid (And.intro hfr3 (And.intro hat3 hrep3))
  clear hfr3 hat3 hrep3 HC
  go_wp2_with fail
  go_ret
  exact sign_end HF2.out HX3.out.1 HX3.out.2.1 HX3.out.2.2

/-- An operation of one operand, or none. -/
theorem unary_reads (C : Ctx) (E : Nat → Hs.R Hs.Ast) (HE : Reads C 83 E) (g : Nat) : Reads C 196 (Hs.unaryP E C.ts g) := by
  induction g with
  | zero =>
    intro w S h hr
    cases S with
    | ok p => exact absurd rfl hr
    | error l => exact unary_plain C E HE w (.error l) h rfl rfl _ rfl hr
  | succ g ih =>
    intro w S h hr
    cases S with
    | error l => exact unary_plain C E HE w (.error l) h rfl rfl _ rfl hr
    | ok p =>
      have hr' : Hs.unaryP E C.ts (g + 1) p ≠ .error 0 := hr
      show Calls _ _ _ _ (PostN C w (Hs.unaryP E C.ts (g + 1) p))
      rw [Hs.unaryP] at hr' ⊢
      cases h1 : Hs.isT C.ts p [45]
      · rw [h1, if_neg (by simp)] at hr'
        rw [if_neg (by simp)]
        cases h2 : Hs.isT C.ts p [33]
        · rw [h2, if_neg (by simp)] at hr'
          exact unary_plain C E HE w (.ok p) h h1 h2 _ rfl hr'
        · rw [h2, if_pos rfl] at hr'
          exact unary_not C _ ih w p h h1 h2 (fun e => hr' (by rw [e]; rfl))
      · rw [h1, if_pos rfl] at hr'
        exact unary_minus C _ ih w p h h1 (fun e => hr' (by rw [e]; rfl))

end Go.Proofs.YtblbkfdhjfppkaaGreatDoor
