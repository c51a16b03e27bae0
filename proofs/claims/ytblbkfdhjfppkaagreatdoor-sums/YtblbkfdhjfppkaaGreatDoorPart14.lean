/- Contracts of the program: are two values alike? -/
import Derived.Test.YtblbkfdhjfppkaaGreatDoorPart13
import Derived.Laws.Append
import Derived.Laws.AppendOwnNone
import Derived.Lib.SliceRun
import Derived.Test.YtblbkfdhjfppkaaGreatDoorPart00
import Derived.RegionDies
import Derived.Deep.QuietTactic
import Derived.BigQuiet
import Derived.Test.YtblbkfdhjfppkaaGreatDoorShelfB
import Derived.Test.YtblbkfdhjfppkaaGreatDoorPart12
import Derived.Test.YtblbkfdhjfppkaaGreatDoorPart11
namespace Go.Proofs.YtblbkfdhjfppkaaGreatDoor
open Go.RowKit
theorem psame_true {a b : Hs.Val} (h : a = b) : Hs.same a b = true := (Hs.same_iff a b).2 h
theorem psame_false {a b : Hs.Val} (h : a ≠ b) : Hs.same a b = false := by
  cases hs : Hs.same a b
  · rfl
  · exact absurd ((Hs.same_iff a b).1 hs) h
theorem vlst_inj {l m : List Hs.Val} : Hs.vlst l = Hs.vlst m ↔ l = m := by simp [Hs.vlst]
def EqualAt (F : Nat → Prop) (k : Nat) : Prop := ∀ (u v : Value) (a b : Hs.Val) (w : World), PV F w u a → PV F w v b → Hs.cells a ≤ k → k ≤ 1000000000 → Hs.cells b ≤ 1000000000 →
  Calls Tryz.prog 389 #[u, v] w fun e w' => w' = w ∧ e = .returned (.bool (Hs.same a b))
set_option maxRecDepth 100000 in
set_option maxHeartbeats 2000000 in
theorem pequalFunc_any (F : Nat → Prop) (k : Nat) (IH : EqualAt F k) (x y : Option Addr) (c d : Nat) (l m : List Hs.Val) (w : World) (hl : PVs F w (.slice x l.length c) l) (hm : PVs F w (.slice y m.length d) m) (hc : Hs.cells (Hs.vlst l) ≤ k + 1) (hk : k ≤ 1000000000) (hd : Hs.cells (Hs.vlst m) ≤ 1000000000) :
    Calls Tryz.prog 393 #[.slice x l.length c, .slice y m.length d, .func (.func 389) #[] #[]] w fun e w' => w' = w ∧ e = .returned (.bool (Hs.same (Hs.vlst l) (Hs.vlst m))) := by
  have h1 := len_cells l
  have h2 := len_cells m
  rw [cells_lst] at hc hd
  by_cases hlen : l.length = m.length
  · have hne : ((l.length : Int) != (l.length : Int)) = false := by simp
    rw [← hlen] at hm ⊢
    have HL := mkHid hl
    have HM := mkHid hm
    have HIH := mkHid IH
    have HLN := mkHid hlen
    clear hl hm IH hlen
    go_enter Tryz.func393, Tryz.ntmps393
    go_wp2_with fail
    go_loopg [6, 7, 8, 9, 17] l.length (fun gk _ _ _ _ i wr => ∃ j : Nat, j + gk = l.length ∧ i = .int .i64 j ∧ wr = w ∧ Hid (l.take j = m.take j))
    case atStart => exact ⟨0, by omega, rfl, rfl, by simp [Hid]⟩
    case round =>
      obtain ⟨j, hj, rfl, rfl, HT⟩ := hrel
      by_cases hlt : j < l.length
      · obtain ⟨q, rfl⟩ : ∃ q, gk = q + 1 := ⟨gk - 1, by omega⟩
        obtain ⟨g, u, rfl, hn, hF, hg, hcap, hcell, hu⟩ := HL.out.get j hlt
        obtain ⟨g', u', rfl, hn', hF', hg', hcap', hcell', hu'⟩ := HM.out.get j (by rw [← HLN.out]; exact hlt)
        have hcm := cells_mem (List.getElem_mem hlt)
        have hjm : j < m.length := by rw [← HLN.out]; exact hlt
        have hcm' := cells_mem (List.getElem_mem hjm)
        have HX := mkHid (HIH.out u u' l[j] (m[j]'hjm) wr hu hu' (by omega) hk (by omega))
        obtain ⟨t, z, rfl⟩ := hu.form
        obtain ⟨t', z', rfl⟩ := hu'.form
        have htk : l.take (j + 1) = l.take j ++ [l[j]] := List.take_succ_eq_append_getElem hlt
        have htk' : m.take (j + 1) = m.take j ++ [m[j]'hjm] := List.take_succ_eq_append_getElem hjm
        have hgl : l[j]? = some l[j] := List.getElem?_eq_getElem hlt
        have hgm : m[j]? = some (m[j]'hjm) := List.getElem?_eq_getElem hjm
        generalize l[j] = a at *
        generalize m[j]'hjm = b at *
        clear hu hu' hcm hcm' hn hn'
        by_cases hab : a = b
        · rw [psame_true hab] at HX
          have HT2 : Hid (l.take (j + 1) = m.take (j + 1)) := by show _ = _; rw [htk, htk', HT.out, hab]
          clear htk htk' hgl hgm HT hab
          go_wp2_with fail
          refine HX.out.mono ?_
          rintro e w1 ⟨rfl, rfl⟩
          go_wp2_with fail
          go_roundg q
          case measure => omega
          case rel => exact ⟨j + 1, by omega, by go_num, rfl, HT2⟩
        · rw [psame_false hab] at HX
          have HN : Hid (l ≠ m) := by show _ ≠ _; intro e; rw [e, hgm] at hgl; cases hgl; exact hab rfl
          clear htk htk' hgl hgm HT hab
          go_wp2_with fail
          refine HX.out.mono ?_
          rintro e w1 ⟨rfl, rfl⟩
          go_wp2_with fail
          go_ret
          exact ⟨rfl, by rw [psame_false fun e => HN.out (vlst_inj.1 e)]; rfl⟩
      · have HE : Hid (l = m) := by
          show _ = _
          have := HT.out
          rw [List.take_of_length_le (by omega), List.take_of_length_le (by rw [← HLN.out]; omega)] at this
          exact this
        go_wp2_with fail
        go_ret
        exact ⟨rfl, by rw [psame_true (vlst_inj.2 HE.out)]; rfl⟩
  · have hne : ((l.length : Int) != (m.length : Int)) = true := by simp; omega
    have HN : Hid (l ≠ m) := by show _ ≠ _; intro e; exact hlen (by rw [e])
    clear hl hm IH
    go_enter Tryz.func393, Tryz.ntmps393
    go_wp2_with fail
    go_ret
    exact ⟨rfl, by rw [psame_false fun e => HN.out (vlst_inj.1 e)]; rfl⟩
set_option maxRecDepth 100000 in
set_option maxHeartbeats 2000000 in
theorem pequal_step (F : Nat → Prop) (k : Nat) (IH : EqualAt F k) : EqualAt F (k + 1) := by
  intro u v a b w hu hv hc hk hd
  rcases hu.cases with ⟨n, rfl, rfl, h1, h2⟩ | ⟨s, rfl, rfl⟩ | ⟨s, rfl, rfl⟩ | ⟨x, c, l, rfl, rfl, hl⟩
  · have q := va_Int_List
    rcases hv.cases with ⟨n', rfl, rfl, _, _⟩ | ⟨s', rfl, rfl⟩ | ⟨s', rfl, rfl⟩ | ⟨x', c', l', rfl, rfl, _⟩
    · have q2 := eq_Int_Int
      have HS : Hid (Hs.same (Hs.vnum n) (Hs.vnum n') = (n == n')) := by
        show _ = _
        by_cases e : n = n'
        · rw [psame_true (by rw [e]), e, beq_self_eq_true]
        · rw [psame_false (by simp [Hs.vnum, e]), beq_eq_false_iff_ne.2 e]
      clear hu hv IH hc hd
      generalize Hs.same (Hs.vnum n) (Hs.vnum n') = r at *
      go_enter Tryz.func389, Tryz.ntmps389
      go_wp2_with fail
      go_ret
      exact ⟨rfl, by rw [HS.out]; rfl⟩
    · have q2 := eq_Int_Bool
      have HS : Hid (Hs.same (Hs.vnum n) (Hs.vtru s') = false) := psame_false (by simp [Hs.vnum, Hs.vtru])
      clear hu hv IH hc hd
      generalize Hs.same (Hs.vnum n) (Hs.vtru s') = r at *
      go_enter Tryz.func389, Tryz.ntmps389
      go_wp2_with fail
      go_ret
      exact ⟨rfl, by rw [HS.out]; rfl⟩
    · have q2 := eq_Int_Str
      have HS : Hid (Hs.same (Hs.vnum n) (Hs.vstr s') = false) := psame_false (by simp [Hs.vnum, Hs.vstr])
      clear hu hv IH hc hd
      generalize Hs.same (Hs.vnum n) (Hs.vstr s') = r at *
      go_enter Tryz.func389, Tryz.ntmps389
      go_wp2_with fail
      go_ret
      exact ⟨rfl, by rw [HS.out]; rfl⟩
    · have q2 := eq_Int_List
      have HS : Hid (Hs.same (Hs.vnum n) (Hs.vlst l') = false) := psame_false (by simp [Hs.vnum, Hs.vlst])
      clear hu hv IH hc hd
      generalize Hs.same (Hs.vnum n) (Hs.vlst l') = r at *
      go_enter Tryz.func389, Tryz.ntmps389
      go_wp2_with fail
      go_ret
      exact ⟨rfl, by rw [HS.out]; rfl⟩
  · have q := va_Bool_List
    rcases hv.cases with ⟨n', rfl, rfl, _, _⟩ | ⟨s', rfl, rfl⟩ | ⟨s', rfl, rfl⟩ | ⟨x', c', l', rfl, rfl, _⟩
    · have q2 := eq_Bool_Int
      have HS : Hid (Hs.same (Hs.vtru s) (Hs.vnum n') = false) := psame_false (by simp [Hs.vtru, Hs.vnum])
      clear hu hv IH hc hd
      generalize Hs.same (Hs.vtru s) (Hs.vnum n') = r at *
      go_enter Tryz.func389, Tryz.ntmps389
      go_wp2_with fail
      go_ret
      exact ⟨rfl, by rw [HS.out]; rfl⟩
    · have q2 := eq_Bool_Bool
      have HS : Hid (Hs.same (Hs.vtru s) (Hs.vtru s') = (s == s')) := by
        show _ = _
        cases s <;> cases s' <;> first | exact psame_true rfl | exact psame_false (by simp [Hs.vtru])
      clear hu hv IH hc hd
      generalize Hs.same (Hs.vtru s) (Hs.vtru s') = r at *
      go_enter Tryz.func389, Tryz.ntmps389
      go_wp2_with fail
      go_ret
      exact ⟨rfl, by rw [HS.out]; rfl⟩
    · have q2 := eq_Bool_Str
      have HS : Hid (Hs.same (Hs.vtru s) (Hs.vstr s') = false) := psame_false (by simp [Hs.vtru, Hs.vstr])
      clear hu hv IH hc hd
      generalize Hs.same (Hs.vtru s) (Hs.vstr s') = r at *
      go_enter Tryz.func389, Tryz.ntmps389
      go_wp2_with fail
      go_ret
      exact ⟨rfl, by rw [HS.out]; rfl⟩
    · have q2 := eq_Bool_List
      have HS : Hid (Hs.same (Hs.vtru s) (Hs.vlst l') = false) := psame_false (by simp [Hs.vtru, Hs.vlst])
      clear hu hv IH hc hd
      generalize Hs.same (Hs.vtru s) (Hs.vlst l') = r at *
      go_enter Tryz.func389, Tryz.ntmps389
      go_wp2_with fail
      go_ret
      exact ⟨rfl, by rw [HS.out]; rfl⟩
  · have q := va_Str_List
    rcases hv.cases with ⟨n', rfl, rfl, _, _⟩ | ⟨s', rfl, rfl⟩ | ⟨s', rfl, rfl⟩ | ⟨x', c', l', rfl, rfl, _⟩
    · have q2 := eq_Str_Int
      have HS : Hid (Hs.same (Hs.vstr s) (Hs.vnum n') = false) := psame_false (by simp [Hs.vstr, Hs.vnum])
      clear hu hv IH hc hd
      generalize Hs.same (Hs.vstr s) (Hs.vnum n') = r at *
      go_enter Tryz.func389, Tryz.ntmps389
      go_wp2_with fail
      go_ret
      exact ⟨rfl, by rw [HS.out]; rfl⟩
    · have q2 := eq_Str_Bool
      have HS : Hid (Hs.same (Hs.vstr s) (Hs.vtru s') = false) := psame_false (by simp [Hs.vstr, Hs.vtru])
      clear hu hv IH hc hd
      generalize Hs.same (Hs.vstr s) (Hs.vtru s') = r at *
      go_enter Tryz.func389, Tryz.ntmps389
      go_wp2_with fail
      go_ret
      exact ⟨rfl, by rw [HS.out]; rfl⟩
    · have q2 := eq_Str_Str
      have HS : Hid (Hs.same (Hs.vstr s) (Hs.vstr s') = (s == s')) := by
        show _ = _
        by_cases e : s = s'
        · rw [psame_true (by rw [e]), e, beq_self_eq_true]
        · rw [psame_false (by simp [Hs.vstr, e]), beq_eq_false_iff_ne.2 e]
      clear hu hv IH hc hd
      generalize Hs.same (Hs.vstr s) (Hs.vstr s') = r at *
      go_enter Tryz.func389, Tryz.ntmps389
      go_wp2_with fail
      go_ret
      exact ⟨rfl, by rw [HS.out]; rfl⟩
    · have q2 := eq_Str_List
      have HS : Hid (Hs.same (Hs.vstr s) (Hs.vlst l') = false) := psame_false (by simp [Hs.vstr, Hs.vlst])
      clear hu hv IH hc hd
      generalize Hs.same (Hs.vstr s) (Hs.vlst l') = r at *
      go_enter Tryz.func389, Tryz.ntmps389
      go_wp2_with fail
      go_ret
      exact ⟨rfl, by rw [HS.out]; rfl⟩
  · have q := va_List_List
    rcases hv.cases with ⟨n', rfl, rfl, _, _⟩ | ⟨s', rfl, rfl⟩ | ⟨s', rfl, rfl⟩ | ⟨x', c', l', rfl, rfl, hl'⟩
    · have q2 := va_Int_List
      have HS : Hid (Hs.same (Hs.vlst l) (Hs.vnum n') = false) := psame_false (by simp [Hs.vlst, Hs.vnum])
      clear hu hv hl IH hc hd
      generalize Hs.same (Hs.vlst l) (Hs.vnum n') = r at *
      go_enter Tryz.func389, Tryz.ntmps389
      go_wp2_with fail
      go_ret
      exact ⟨rfl, by rw [HS.out]; rfl⟩
    · have q2 := va_Bool_List
      have HS : Hid (Hs.same (Hs.vlst l) (Hs.vtru s') = false) := psame_false (by simp [Hs.vlst, Hs.vtru])
      clear hu hv hl IH hc hd
      generalize Hs.same (Hs.vlst l) (Hs.vtru s') = r at *
      go_enter Tryz.func389, Tryz.ntmps389
      go_wp2_with fail
      go_ret
      exact ⟨rfl, by rw [HS.out]; rfl⟩
    · have q2 := va_Str_List
      have HS : Hid (Hs.same (Hs.vlst l) (Hs.vstr s') = false) := psame_false (by simp [Hs.vlst, Hs.vstr])
      clear hu hv hl IH hc hd
      generalize Hs.same (Hs.vlst l) (Hs.vstr s') = r at *
      go_enter Tryz.func389, Tryz.ntmps389
      go_wp2_with fail
      go_ret
      exact ⟨rfl, by rw [HS.out]; rfl⟩
    · have HX := mkHid (pequalFunc_any F k IH x x' c c' l l' w hl hl' hc (by omega) hd)
      clear hu hv hl hl' IH hc hd
      generalize Hs.same (Hs.vlst l) (Hs.vlst l') = r at *
      go_enter Tryz.func389, Tryz.ntmps389
      go_wp2_with fail
      refine HX.out.mono ?_
      rintro e w1 ⟨rfl, rfl⟩
      go_wp2_with fail
      go_ret
      exact ⟨rfl, rfl⟩
theorem pequal_any (F : Nat → Prop) : ∀ k, EqualAt F k
  | 0 => fun u v a b w _ _ h => by have := cells_pos a; omega
  | k + 1 => pequal_step F k (pequal_any F k)
end Go.Proofs.YtblbkfdhjfppkaaGreatDoor

/- Contracts of the program: room for a list; a list of its own; two lists, one behind the other. -/
namespace Go.Proofs.YtblbkfdhjfppkaaGreatDoor
open Go.RowKit
theorem infoPVal : (Tryz.prog.info? 256).map (fun i => (i.zero, i.size, i.bytes)) = some (some .nilIface, 1, 16) := by kernel_rfl
theorem run_append_zeros {P : Program} (w : World) (t u ty e : TypeId) (i : TypeInfo) (z : Value) (ht : P.underlying t = some (.slice e)) (hu : P.underlying u = some (.int .i64)) (hi : P.info? e = some i) (hz : i.zero = some z) (h1 : i.size = 1)
    (n : Nat) (h0 : 0 < n) (hn : n ≤ 1000000000) (hb : i.bytes ≤ 64) :
    (Builtin.append_ #[t, u] ty #[.slice none 0 0, .int .i64 n]).run P w =
      .ok (.slice (some ⟨w.heap.size, 0, none⟩) n (grownCap w n 0 e)) (w.drew.alloc (.cells (Builtin.zeroCells z.cells n ++ Builtin.zeroCells z.cells (grownCap w n 0 e - n)) e)) := by
  have hn0 : n ≠ 0 := by omega
  have hmul : n * i.bytes ≤ 1000000000 * 64 := Nat.mul_le_mul hn hb
  have h48 : ¬ (281474976710656 < Builtin.nextslicecap n 0 * i.bytes) := by rw [nextslicecap_zero h0]; omega
  have h63 : ¬ (9223372036854775807 < (n : Int)) := by omega
  have hw : IntKind.i64.wrap (n : Int) = n := by
    rw [IntKind.wrap_i64]; omega
  have h48' : ¬ (281474976710656 < (n : Int) * (i.bytes : Int)) := by
    have : ((n * i.bytes : Nat) : Int) ≤ 64000000000 := by omega
    rw [Int.natCast_mul] at this
    omega
  have hlt0 : ¬ ((n : Int) < 0) := by omega
  have hmax : max (n : Int) 0 = n := by omega
  simp [Builtin.append_, run_underlying ht, run_underlying hu, sizeOf, typeInfo, zeroValue, hi, hz, h1, hw, asInt, asIntOf, hlt0, hmax, hn0, h63, h48, h48', Question.forced, run_firstCells_none, newRow, grownCap]
theorem wpList_append_zeros {P : Program} {w : World} {ops : Array Oper} {rest : List Oper} {o : Oper} {a : Act} {Q : Exit → Act → World → Prop} (hgd : o.guard = none) (s x : Operand) (t u : TypeId)
    (ho : o.op = .call { callee := .builtin .append, args := #[s, x], argTypes := #[t, u] })
    (e : TypeId) (i : TypeInfo) (z : Value) (ht : P.underlying t = some (.slice e)) (hu : P.underlying u = some (.int .i64)) (hi : P.info? e = some i) (hz : i.zero = some z) (h1 : i.size = 1)
    (n : Nat) (h0 : 0 < n) (hn : n ≤ 1000000000) (hb : i.bytes ≤ 64) (hs : a.eval s = .slice none 0 0) (hx : a.eval x = .int .i64 n)
    (h : wpList P ops Q rest (a.put o.dst (.slice (some ⟨w.heap.size, 0, none⟩) n (grownCap w n 0 e))) (w.drew.alloc (.cells (Builtin.zeroCells z.cells n ++ Builtin.zeroCells z.cells (grownCap w n 0 e - n)) e))) : wpList P ops Q (o :: rest) a w := by
  refine wpList_plain hgd fun K hK => ?_
  have hrun := run_append_zeros (P := P) w t u o.type e i z ht hu hi hz h1 n h0 hn hb
  unfold Oper.wp
  simp [execOp, ho, resolve, invoke, builtin, hs, hx, hrun, Result.andThen]
  exact hK _ _ h
set_option maxRecDepth 100000 in
set_option maxHeartbeats 1000000 in
theorem pgrow_any (n : Nat) (hn : n ≤ 1000000) (w : World) :
    Calls Tryz.prog 395 #[.slice none 0 0, .int .i64 n] w fun e w' => ∃ v, e = .returned v ∧ w'.ownsRow w.heap.size 256 1 v 0 [] ∧ Below w.heap.size w w' := by
  obtain ⟨i0, hi, hz0, hz1, hz2⟩ := info_parts infoPVal
  rcases Nat.eq_zero_or_pos n with rfl | hp
  · go_enter Tryz.func395, Tryz.ntmps395
    go_wp2_with fail
    go_ret
    exact ⟨_, rfl, World.ownsRow_nil _ _ _ _, Below.refl _ _⟩
  · have e1 : decide ((n : Int) < 0) = false := decide_eq_false (by omega)
    have e2 : decide ((0 : Int) < (n : Int)) = true := decide_eq_true (by omega)
    have hcap := grownCap_ge w n 0 256
    have hcm := grownCap_le_maxLen w n 0 256 (by unfold maxLen; omega)
    generalize hgc : grownCap w n 0 256 = cap at hcap hcm
    have HGC := mkHid hgc
    clear hgc
    go_enter Tryz.func395, Tryz.ntmps395
    go_wp2_with (at_builtin; refine wpList_append_zeros (by rfl) _ _ 319 3 (by rfl) 256 i0 .nilIface Tryz.underlying319 Tryz.underlying3 hi hz0 hz1 n hp (by omega) (by omega) (by rfl) (by rfl) ?_; rw [HGC.out])
    go_ret
    refine ⟨_, rfl, ⟨rfl, Or.inr ⟨w.heap.size, cap, _, rfl, Nat.le_refl _, heap_first _ _ rfl _, Nat.zero_le _, hcm, ?_, rfl⟩⟩, ?_⟩
    · rw [Array.size_append, size_zeroCells, size_zeroCells]; simp; omega
    · exact ((Below.refl _ _).drew).alloc (by simp) _
def RowP (F : Nat → Prop) (w : World) (xs : List Value) (l : List Hs.Val) : Prop := xs.length = l.length ∧ ∀ i (h : i < l.length), ∃ u, xs[i]? = some u ∧ PV F w u l[i]
theorem RowP.nil (F : Nat → Prop) (w : World) : RowP F w [] [] := ⟨rfl, fun i h => by simp at h⟩
theorem RowP.keep {F : Nat → Prop} {w w' : World} {xs : List Value} {l : List Hs.Val} (h : RowP F w xs l) (hk : ∀ b, F b → w'.heap[b]? = w.heap[b]?) : RowP F w' xs l :=
  ⟨h.1, fun i hi => by obtain ⟨u, h1, h2⟩ := h.2 i hi; exact ⟨u, h1, h2.keep hk⟩⟩
theorem RowP.mono {F G : Nat → Prop} {w : World} {xs : List Value} {l : List Hs.Val} (h : RowP F w xs l) (hF : ∀ b, F b → G b) : RowP G w xs l :=
  ⟨h.1, fun i hi => by obtain ⟨u, h1, h2⟩ := h.2 i hi; exact ⟨u, h1, h2.mono hF⟩⟩
theorem RowP.append {F : Nat → Prop} {w : World} {xs ys : List Value} {l m : List Hs.Val} (h : RowP F w xs l) (k : RowP F w ys m) : RowP F w (xs ++ ys) (l ++ m) := by
  refine ⟨by simp [h.1, k.1], fun i hi => ?_⟩
  rcases Nat.lt_or_ge i l.length with h1 | h1
  · obtain ⟨u, e1, e2⟩ := h.2 i h1
    exact ⟨u, by rw [List.getElem?_append_left (by rw [h.1]; exact h1)]; exact e1, by rw [List.getElem_append_left h1]; exact e2⟩
  · have h2 : i - l.length < m.length := by simp at hi; omega
    obtain ⟨u, e1, e2⟩ := k.2 _ h2
    exact ⟨u, by rw [List.getElem?_append_right (by rw [h.1]; exact h1), h.1]; exact e1, by rw [List.getElem_append_right h1]; exact e2⟩
theorem PVs.row {F : Nat → Prop} {w : World} {sv : Value} {l : List Hs.Val} (h : PVs F w sv l) : (l = [] ∧ sv = .slice none 0 0) ∨ ∃ g cap xs, sv = .slice (some ⟨g, 0, none⟩) l.length cap ∧ F g ∧ g < w.heap.size ∧ RowP F w xs l ∧ ∀ j u, xs[j]? = some u → w.cell? ⟨g, j, none⟩ = some u := by
  rcases h with h | ⟨g, cap, cur, h1, h2, h3, h4, h5⟩
  · exact Or.inl h
  · have hsz : l.length ≤ cur.size := by
      rcases Nat.eq_zero_or_pos l.length with h0 | h0
      · omega
      · obtain ⟨u, e1, _⟩ := h5 (l.length - 1) (by omega)
        have := (Array.getElem?_eq_some_iff.1 e1).1
        omega
    refine Or.inr ⟨g, cap, cur.toList.take l.length, h1, h2, lt_of_block h3, ⟨by simp; omega, fun i hi => ?_⟩, fun j u hj => ?_⟩
    · obtain ⟨u, e1, e2⟩ := h5 i hi
      exact ⟨u, by rw [List.getElem?_take, if_pos hi]; simpa using e1, e2⟩
    · rw [List.getElem?_take] at hj
      split at hj
      · exact cell_of_block h3 (by simpa using hj)
      · cases hj
theorem PVs.ofRow {F : Nat → Prop} {w : World} {base : Nat} {v : Value} {xs : List Value} {l : List Hs.Val} (h : w.ownsRow base 256 1 v l.length xs) (hr : RowP F w xs l) (hF : ∀ k, v.ownBlock = some k → F k) : PVs F w v l := by
  rcases h.2 with ⟨r1, r2⟩ | ⟨g, cap, cur, r1, r2, r3, r4, r5, r6, r7⟩
  · exact Or.inl ⟨List.eq_nil_of_length_eq_zero r2, r1⟩
  · refine Or.inr ⟨g, cap, cur, r1, hF g (by rw [r1]; rfl), r3, r4, fun i hi => ?_⟩
    obtain ⟨u, e1, e2⟩ := hr.2 i hi
    refine ⟨u, ?_, e2⟩
    rw [← r7, List.getElem?_take, if_pos (by omega)] at e1
    simpa using e1
theorem iface_one {F : Nat → Prop} {w : World} {xs : List Value} {l : List Hs.Val} (h : RowP F w xs l) : ∀ u ∈ xs, u.oneCell' = true := by
  intro u hu
  obtain ⟨j, hj, rfl⟩ := List.mem_iff_getElem.1 hu
  obtain ⟨u', e1, e2⟩ := h.2 j (by rw [← h.1]; exact hj)
  rw [List.getElem?_eq_getElem hj] at e1
  cases e1
  obtain ⟨t, z, e⟩ := e2.form
  rw [e]; rfl
theorem append_pvs {ops : Array Oper} {rest : List Oper} {o : Oper} {a : Act} {Q : Exit → Act → World → Prop} {w : World} (hgd : o.guard = none) (s x : Operand) (t : TypeId) (ht : Tryz.prog.underlying t = some (.slice 256))
    (ho : o.op = .call { callee := .builtin .append, args := #[s, x], argTypes := #[t, t] })
    (base : Nat) (v : Value) (l m : List Hs.Val) (xs : List Value) (F : Nat → Prop) (hs : a.eval s = v) (hown : w.ownsRow base 256 1 v l.length xs) (hr : RowP F w xs l)
    (sv : Value) (hx : a.eval x = sv) (hm : PVs F w sv m) (hF : ∀ b, F b → b < w.heap.size ∧ v.ownBlock ≠ some b) (hlen : l.length + m.length ≤ 1000000000) (hbase : base ≤ w.heap.size)
    (h : ∀ v' w' ys, w'.ownsRow base 256 1 v' (l ++ m).length ys → RowP F w' ys (l ++ m) → w.grownBy w' v.ownBlock → wpList Tryz.prog ops Q rest (a.put o.dst v') w') :
    wpList Tryz.prog ops Q (o :: rest) a w := by
  obtain ⟨i0, hi, hz0, hz1, hz2⟩ := info_parts infoPVal
  rcases hm.row with ⟨rfl, rfl⟩ | ⟨g, cap, ys, rfl, hg, hgl, hrow, hcell⟩
  · refine wpList_append_own_none hgd s x t ho base 256 i0 1 ht hi v l.length xs hs hown hx ?_
    exact h v w xs (by simpa using hown) (by simpa using hr) ⟨rfl, rfl, rfl, Nat.le_refl _, fun _ _ _ => rfl⟩
  · refine wpList_append_own _ hgd s x t ho base 256 i0 _ 1 16 ht hi hz0 hz1 hz2 rfl (by decide) v l.length xs hs hown ⟨g, 0, none⟩ m.length cap ys hx (by rw [hrow.1]; omega) (fun j u hj => by rw [Addr.add_lit, Nat.zero_add]; exact hcell j u hj) (iface_one hrow) (by unfold maxLen; omega) (by omega) hbase ?_
    intro v' w' hown' hgrow _
    have hk : ∀ b, F b → w'.heap[b]? = w.heap[b]? := fun b hb => hgrow.block b (hF b hb).1 (fun e => (hF b hb).2 e.symm)
    exact h v' w' (xs ++ ys) (by rw [List.length_append]; exact hown') ((hr.keep hk).append (hrow.keep hk)) hgrow
end Go.Proofs.YtblbkfdhjfppkaaGreatDoor

/- Contracts of the program: two lists, one behind the other. -/
namespace Go.Proofs.YtblbkfdhjfppkaaGreatDoor
open Go.RowKit
def CatInv (F : Nat → Prop) (w : World) (ls : List Hs.Val) (v : Value) (wr : World) : Prop :=
  ∃ ys, wr.ownsRow w.heap.size 256 1 v ls.length ys ∧ RowP F wr ys ls ∧ Below w.heap.size w wr
theorem CatInv.step {F : Nat → Prop} {w wr w' : World} {ls m : List Hs.Val} {v v' : Value} {ys : List Value} (h : CatInv F w ls v wr) (ho : w'.ownsRow w.heap.size 256 1 v' (ls ++ m).length ys) (hr : RowP F w' ys (ls ++ m)) (hg : wr.grownBy w' v.ownBlock) : CatInv F w (ls ++ m) v' w' := by
  obtain ⟨zs, h1, h2, h3⟩ := h
  refine ⟨ys, ho, hr, h3.grown hg h3.size fun k hk => ?_⟩
  exact own_block_ge h1 k hk
theorem own_slice {w : World} {base n k : Nat} {t : TypeId} {v : Value} {ys : List Value} (h : w.ownsRow base t k v n ys) : ∃ x c, v = .slice x n c := by
  rcases h.2 with ⟨r1, r2⟩ | ⟨g, cap, cur, r1, _⟩
  · exact ⟨none, 0, by rw [r1, r2]⟩
  · exact ⟨_, _, r1⟩
set_option maxRecDepth 100000 in
set_option maxHeartbeats 2000000 in
theorem pconcat_any (F : Nat → Prop) (b : Nat) (x y : Option Addr) (c d : Nat) (l m : List Hs.Val) (w : World) (hb : w.heap[b]? = some (.cells #[.slice x l.length c, .slice y m.length d] 319 (0, 0))) (hl : PVs F w (.slice x l.length c) l) (hm : PVs F w (.slice y m.length d) m) (hF : ∀ k, F k → k < w.heap.size) (hlm : l.length + m.length ≤ 1000000) :
    Calls Tryz.prog 394 #[.slice (some ⟨b, 0, none⟩) 2 2] w fun e w' => ∃ v', e = .returned v' ∧ CatInv F w (l ++ m) v' w' := by
  have hbl := lt_of_block hb
  have c0 := cell_of_block hb (i := 0) rfl
  have c1 := cell_of_block hb (i := 1) rfl
  have HL := mkHid hl
  have HM := mkHid hm
  have HF := mkHid hF
  have HG := mkHid (pgrow_any (l.length + m.length) (by omega) w)
  have HB := mkHid hb
  clear hl hm hF hb
  go_enter Tryz.func394, Tryz.ntmps394
  go_wp2_with fail
  go_loopg [3, 5, 11] 2 (fun gk s _ i wr => wr = w ∧ ((gk = 2 ∧ i = .int .i64 0 ∧ s = .int .i64 0) ∨ (gk = 1 ∧ i = .int .i64 1 ∧ s = .int .i64 (l.length : Nat)) ∨ (gk = 0 ∧ i = .int .i64 2 ∧ s = .int .i64 ((l.length + m.length : Nat) : Int))))
  case atStart => exact ⟨rfl, Or.inl ⟨rfl, rfl, rfl⟩⟩
  case round =>
    obtain ⟨hw, hrel⟩ := hrel
    obtain rfl := hw.symm
    rcases hrel with ⟨rfl, rfl, rfl⟩ | ⟨rfl, rfl, rfl⟩ | ⟨rfl, rfl, rfl⟩
    · have e : decide ((l.length : Int) < 0) = false := decide_eq_false (by omega)
      go_wp2_with fail
      go_roundg 1
      case measure => omega
      case rel => exact ⟨rfl, Or.inr (Or.inl ⟨rfl, rfl, rfl⟩)⟩
    · have e : decide ((l.length : Int) + (m.length : Int) < 0) = false := decide_eq_false (by omega)
      go_wp2_with fail
      go_roundg 0
      case measure => omega
      case rel => exact ⟨rfl, Or.inr (Or.inr ⟨rfl, rfl, by simp⟩)⟩
    · go_wp2_with fail
      refine HG.out.mono ?_
      rintro e w1 ⟨v1, rfl, hown1, hb1⟩
      obtain ⟨x1, c1', rfl⟩ : ∃ x c, v1 = .slice x 0 c := by
        rcases hown1.2 with ⟨r1, _⟩ | ⟨g, cap, cur, r1, _⟩
        · exact ⟨none, 0, r1⟩
        · exact ⟨_, _, r1⟩
      have HI : Hid (CatInv F w [] (.slice x1 0 c1') w1) := ⟨[], hown1, RowP.nil _ _, hb1⟩
      clear hown1 hb1 HG c0 c1
      go_wp2_with fail
      go_loopg [6, 8, 27] 2 (fun gk s _ i wq => (gk = 2 ∧ i = .int .i64 0 ∧ CatInv F w [] s wq) ∨ (gk = 1 ∧ i = .int .i64 1 ∧ CatInv F w l s wq) ∨ (gk = 0 ∧ i = .int .i64 2 ∧ CatInv F w (l ++ m) s wq))
      case atStart => exact Or.inl ⟨rfl, rfl, HI.out⟩
      case round =>
        rcases hrel with ⟨rfl, rfl, hc⟩ | ⟨rfl, rfl, hc⟩ | ⟨rfl, rfl, hc⟩
        · have hcs := hc
          obtain ⟨ys, ho, hr, hbw⟩ := hc
          obtain ⟨sx, sc, rfl⟩ := own_slice ho
          have c0 : wr.cell? ⟨b, 0, none⟩ = some (.slice x l.length c) := cell_of_block ((hbw.block b hbl).trans HB.out) rfl
          have c1 : wr.cell? ⟨b, 1, none⟩ = some (.slice y m.length d) := cell_of_block ((hbw.block b hbl).trans HB.out) rfl
          have hblr : b < wr.heap.size := Nat.lt_of_lt_of_le hbl hbw.size
          have HO := mkHid ho
          have HR := mkHid hr
          have HBW := mkHid hbw
          have HCS := mkHid hcs
          have HMM := mkHid (HL.out.keep (w' := wr) fun k hk => hbw.block k (HF.out k hk))
          have HFF : Hid (∀ k, F k → k < wr.heap.size ∧ (Value.slice sx ([] : List Hs.Val).length sc).ownBlock ≠ some k) := fun k hk => ⟨Nat.lt_of_lt_of_le (HF.out k hk) hbw.size, fun e => by have := own_block_ge ho k e; have := HF.out k hk; omega⟩
          clear ho hr hbw hcs HI
          go_wp2_with (at_builtin; refine append_pvs (by rfl) _ _ 319 Tryz.underlying319 (by rfl) w.heap.size (.slice sx ([] : List Hs.Val).length sc) ([] : List Hs.Val) l ys F (by rfl) HO.out HR.out _ (by rfl) HMM.out HFF.out (by first | omega | (simp; omega)) HBW.out.size ?_)
          intro v' w' ys' ho' hr' hg'
          have HI2 : Hid (CatInv F w (([] : List Hs.Val) ++ l) v' w') := HCS.out.step (by first | exact ho' | (rw [List.length_append]; exact ho')) hr' hg'
          obtain ⟨x', c', rfl⟩ := own_slice ho'
          clear ho' hr' hg' HO HR HMM HFF HBW HCS
          go_wp2_with fail
          go_roundg 1
          case measure => omega
          case rel => exact Or.inr (Or.inl ⟨rfl, rfl, by simpa using HI2.out⟩)
        · have hcs := hc
          obtain ⟨ys, ho, hr, hbw⟩ := hc
          obtain ⟨sx, sc, rfl⟩ := own_slice ho
          have c0 : wr.cell? ⟨b, 0, none⟩ = some (.slice x l.length c) := cell_of_block ((hbw.block b hbl).trans HB.out) rfl
          have c1 : wr.cell? ⟨b, 1, none⟩ = some (.slice y m.length d) := cell_of_block ((hbw.block b hbl).trans HB.out) rfl
          have hblr : b < wr.heap.size := Nat.lt_of_lt_of_le hbl hbw.size
          have HO := mkHid ho
          have HR := mkHid hr
          have HBW := mkHid hbw
          have HCS := mkHid hcs
          have HMM := mkHid (HM.out.keep (w' := wr) fun k hk => hbw.block k (HF.out k hk))
          have HFF : Hid (∀ k, F k → k < wr.heap.size ∧ (Value.slice sx (l).length sc).ownBlock ≠ some k) := fun k hk => ⟨Nat.lt_of_lt_of_le (HF.out k hk) hbw.size, fun e => by have := own_block_ge ho k e; have := HF.out k hk; omega⟩
          clear ho hr hbw hcs HI
          go_wp2_with (at_builtin; refine append_pvs (by rfl) _ _ 319 Tryz.underlying319 (by rfl) w.heap.size (.slice sx (l).length sc) (l) m ys F (by rfl) HO.out HR.out _ (by rfl) HMM.out HFF.out (by first | omega | (simp; omega)) HBW.out.size ?_)
          intro v' w' ys' ho' hr' hg'
          have HI2 : Hid (CatInv F w (l ++ m) v' w') := HCS.out.step (by first | exact ho' | (rw [List.length_append]; exact ho')) hr' hg'
          obtain ⟨x', c', rfl⟩ := own_slice ho'
          clear ho' hr' hg' HO HR HMM HFF HBW HCS
          go_wp2_with fail
          go_roundg 0
          case measure => omega
          case rel => exact Or.inr (Or.inr ⟨rfl, rfl, HI2.out⟩)
        · have HC := mkHid hc
          obtain ⟨ys, ho, _⟩ := hc
          obtain ⟨sx, sc, rfl⟩ := own_slice ho
          clear ho HI
          go_wp2_with fail
          go_ret
          exact ⟨_, rfl, HC.out⟩
end Go.Proofs.YtblbkfdhjfppkaaGreatDoor

/- Contracts of the program: an operation of two values. -/
namespace Go.Proofs.YtblbkfdhjfppkaaGreatDoor
open Go.RowKit
def ValG (F : Nat → Prop) (w : World) (r : Hs.Val × Nat) (e : Ending) (w' : World) : Prop := Below w.heap.size w w' ∧ ((r.2 = 0 ∧ ∃ u, e = .returned u ∧ PV (Grow F w w') w' u r.1) ∨ (r.2 ≠ 0 ∧ e = stopE r.2))
theorem ValG.ok {F : Nat → Prop} {w w' : World} {r : Hs.Val × Nat} {u : Value} {a : Hs.Val} (hb : Below w.heap.size w w') (hr : r = (a, 0)) (h : PV (Grow F w w') w' u a) : ValG F w r (.returned u) w' := by subst hr; exact ⟨hb, Or.inl ⟨rfl, u, rfl, h⟩⟩
theorem ValG.stop {F : Nat → Prop} {w w' : World} {r : Hs.Val × Nat} {a : Hs.Val} {k : Nat} (hb : Below w.heap.size w w') (hr : r = (a, k)) (hk : k ≠ 0) : ValG F w r (stopE k) w' := by subst hr; exact ⟨hb, Or.inr ⟨hk, rfl⟩⟩
def listsL (op : List UInt8) (l m : List Hs.Val) : Hs.Val × Nat := if op = [43] then (if 200 < Hs.cells (Hs.vlst (l ++ m)) then (Hs.vnil, 6) else (Hs.vlst (l ++ m), 0)) else (Hs.vnil, 2)
set_option maxRecDepth 100000 in
set_option maxHeartbeats 2000000 in
theorem plists_any (op : List UInt8) (F : Nat → Prop) (x y : Option Addr) (c d : Nat) (l m : List Hs.Val) (w : World) (hl : PVs F w (.slice x l.length c) l) (hm : PVs F w (.slice y m.length d) m) (hF : ∀ k, F k → k < w.heap.size) (hc : Hs.cells (Hs.vlst l) + Hs.cells (Hs.vlst m) ≤ 1000000) :
    Calls Tryz.prog 392 #[.string (bs op), .slice x l.length c, .slice y m.length d] w (ValG F w (listsL op l m)) := by
  have hbt := bs_toList op
  obtain ⟨r, hr⟩ : ∃ r, r = listsL op l m := ⟨_, rfl⟩
  rw [← hr]
  unfold listsL at hr
  by_cases o0 : op = [43]
  · rw [if_pos o0] at hr
    have e0 : ((bs op).toList == [43]) = true := by rw [hbt, o0]; rfl
    have e0' : ((bs op).toList != [43]) = false := by rw [hbt, o0]; rfl
    have hll := len_cells l
    have hlm := len_cells m
    rw [cells_lst, cells_lst] at hc
    have hcl : Hs.cells (Hs.vlst (l ++ m)) = 1 + ((l.map Hs.cells).sum + (m.map Hs.cells).sum) := by rw [cells_lst, List.map_append, List.sum_append]
    have hb0 : Below w.heap.size w (w.alloc (.cells #[.slice x l.length c, .slice y m.length d] 319)) := (Below.refl _ _).alloc (Nat.le_refl _) _
    have HX := mkHid (pconcat_any F w.heap.size x y c d l m (w.alloc (.cells #[.slice x l.length c, .slice y m.length d] 319)) (heap_first _ _ rfl _) (hl.keep fun k hk => hb0.block k (hF k hk)) (hm.keep fun k hk => hb0.block k (hF k hk)) (fun k hk => Nat.lt_of_lt_of_le (hF k hk) hb0.size) (by omega))
    have HB0 := mkHid hb0
    have HP := mkHid hr
    clear hbt hr o0 hl hm hF hb0
    go_enter Tryz.func392, Tryz.ntmps392
    go_wp2_with fail
    refine HX.out.mono ?_
    rintro e w1 ⟨v1, rfl, ys, ho, hrw, hb1⟩
    obtain ⟨x1, c1, rfl⟩ := own_slice ho
    have hb01 := HB0.out.trans (hb1.mono HB0.out.size)
    have hpv : PVs (Grow F w w1) w1 (.slice x1 (l ++ m).length c1) (l ++ m) := PVs.ofRow ho (hrw.mono fun k hk => Or.inl hk) fun k hk => Or.inr ⟨by have := own_block_ge ho k hk; have := HB0.out.size; omega, own_block_lt ho k hk⟩
    have HY := mkHid (plimited_any (Grow F w w1) _ _ w1 (PV.lst hpv) (by omega))
    have HPV := mkHid hpv
    have HB1 := mkHid hb01
    clear ho hrw hb1 hb01 hpv HX
    generalize (l ++ m).length = n at *
    go_wp2_with fail
    refine HY.out.mono ?_
    rintro e w2 ⟨rfl, ⟨h2, rfl⟩ | ⟨h2, rfl⟩⟩
    · have HQ : Hid (r = (Hs.vlst (l ++ m), 0)) := by show _ = _; rw [HP.out, if_neg (by omega)]
      clear h2 HP
      go_wp2_with fail
      go_ret
      exact ValG.ok HB1.out HQ.out (PV.lst HPV.out)
    · have HQ : Hid (r = (Hs.vnil, 6)) := by show _ = _; rw [HP.out, if_pos h2]
      clear h2 HP
      go_wp2_with fail
      exact ⟨rfl, ValG.stop HB1.out HQ.out (by decide)⟩
  · rw [if_neg o0] at hr
    have e0 : ((bs op).toList == [43]) = false := by rw [hbt]; simpa using o0
    have e0' : ((bs op).toList != [43]) = true := by rw [hbt]; simpa using o0
    have HP := mkHid hr
    clear hbt hr o0 hl hm hF
    go_enter Tryz.func392, Tryz.ntmps392
    go_wp2_with fail
    exact ⟨rfl, ValG.stop (Below.refl _ _) HP.out (by decide)⟩
end Go.Proofs.YtblbkfdhjfppkaaGreatDoor

/- Contracts of the program: an operation of two values. -/
namespace Go.Proofs.YtblbkfdhjfppkaaGreatDoor
open Go.RowKit
theorem ValG.ofQ {F : Nat → Prop} {w w' : World} {r : Hs.Val × Nat} {e : Ending} (h : ValQ F w r e w') : ValG F w r e w' := by
  obtain ⟨rfl, ⟨h1, u, h2, h3⟩ | ⟨h1, h2⟩⟩ := h
  · exact ⟨Below.refl _ _, Or.inl ⟨h1, u, h2, h3.mono fun _ hb => Or.inl hb⟩⟩
  · exact ⟨Below.refl _ _, Or.inr ⟨h1, h2⟩⟩
theorem two_ints {op : List UInt8} (h1 : op ≠ [61, 61]) (h2 : op ≠ [33, 61]) (n m : Int) : Hs.twoL op (Hs.vnum n) (Hs.vnum m) = Hs.intsL op n m := by
  unfold Hs.twoL; rw [if_neg h1, if_neg h2, if_neg (by simp [Hs.vnum]), if_pos (by simp [Hs.vnum])]; rfl
theorem two_strs {op : List UInt8} (h1 : op ≠ [61, 61]) (h2 : op ≠ [33, 61]) (a b : List UInt8) : Hs.twoL op (Hs.vstr a) (Hs.vstr b) = strsL op a b := by
  unfold Hs.twoL strsL Hs.joinedL
  rw [if_neg h1, if_neg h2, if_neg (by simp [Hs.vstr]), if_neg (by simp [Hs.vstr])]
  by_cases o0 : op = [60]
  · rw [if_neg (by rw [o0]; decide), if_pos ⟨rfl, o0⟩, if_pos o0]; rfl
  by_cases o1 : op = [60, 61]
  · rw [if_neg (by rw [o1]; decide), if_neg (fun h => o0 h.2), if_pos ⟨rfl, o1⟩, if_neg o0, if_pos o1]; rfl
  by_cases o2 : op = [43]
  · rw [if_pos o2, if_neg o0, if_neg o1, if_pos o2]
    have e : (if (Hs.vstr a).sort = 3 then Hs.vlst ((Hs.vstr a).l ++ (Hs.vstr b).l) else Hs.vstr ((Hs.vstr a).s ++ (Hs.vstr b).s)) = Hs.vstr (a ++ b) := rfl
    simp only [e]
  · rw [if_neg o2, if_neg (fun h => o0 h.2), if_neg (fun h => o1 h.2), if_neg o0, if_neg o1, if_neg o2]
theorem two_lists {op : List UInt8} (h1 : op ≠ [61, 61]) (h2 : op ≠ [33, 61]) (a b : List Hs.Val) : Hs.twoL op (Hs.vlst a) (Hs.vlst b) = listsL op a b := by
  unfold Hs.twoL listsL Hs.joinedL
  rw [if_neg h1, if_neg h2, if_neg (by simp [Hs.vlst]), if_neg (by simp [Hs.vlst])]
  by_cases o2 : op = [43]
  · rw [if_pos o2, if_pos o2]
    have e : (if (Hs.vlst a).sort = 3 then Hs.vlst ((Hs.vlst a).l ++ (Hs.vlst b).l) else Hs.vstr ((Hs.vlst a).s ++ (Hs.vlst b).s)) = Hs.vlst (a ++ b) := rfl
    simp only [e]
  · rw [if_neg o2, if_neg o2, if_neg (by simp [Hs.vlst]), if_neg (by simp [Hs.vlst])]
theorem two_other {op : List UInt8} (h1 : op ≠ [61, 61]) (h2 : op ≠ [33, 61]) {a b : Hs.Val} (h : a.sort ≠ b.sort ∨ a.sort = 1) : Hs.twoL op a b = (Hs.vnil, 2) := by
  unfold Hs.twoL; rw [if_neg h1, if_neg h2, if_pos h]
set_option maxRecDepth 100000 in
set_option maxHeartbeats 4000000 in
theorem pbinary_any (op : List UInt8) (F : Nat → Prop) (u v : Value) (a b : Hs.Val) (w : World) (hu : PV F w u a) (hv : PV F w v b) (hF : ∀ k, F k → k < w.heap.size) (hca : Hs.cells a ≤ 400000) (hcb : Hs.cells b ≤ 400000) :
    Calls Tryz.prog 388 #[.string (bs op), u, v] w (ValG F w (Hs.twoL op a b)) := by
  have hbt := bs_toList op
  by_cases o0 : op = [61, 61]
  · have e0 : ((bs op).toList == [61, 61]) = true := by rw [hbt, o0]; rfl
    have HP : Hid (Hs.twoL op a b = (Hs.vtru (Hs.same a b), 0)) := by show _ = _; unfold Hs.twoL; rw [if_pos o0]
    have HX := mkHid (pequal_any F 400000 u v a b w hu hv hca (by omega) (by omega))
    obtain ⟨t, z, rfl⟩ := hu.form
    obtain ⟨t', z', rfl⟩ := hv.form
    clear hu hv hbt o0
    rw [HP.out]
    generalize Hs.same a b = s at *
    go_enter Tryz.func388, Tryz.ntmps388
    go_wp2_with fail
    refine HX.out.mono ?_
    rintro e w1 ⟨rfl, rfl⟩
    go_wp2_with fail
    go_ret
    exact ValG.ok (Below.refl _ _) rfl (PV.tru _ _ s)
  have e0 : ((bs op).toList == [61, 61]) = false := by rw [hbt]; simpa using o0
  by_cases o1 : op = [33, 61]
  · have e1 : ((bs op).toList == [33, 61]) = true := by rw [hbt, o1]; rfl
    have HP : Hid (Hs.twoL op a b = (Hs.vtru (!Hs.same a b), 0)) := by show _ = _; unfold Hs.twoL; rw [if_neg o0, if_pos o1]
    have HX := mkHid (pequal_any F 400000 u v a b w hu hv hca (by omega) (by omega))
    obtain ⟨t, z, rfl⟩ := hu.form
    obtain ⟨t', z', rfl⟩ := hv.form
    clear hu hv hbt o0 o1
    rw [HP.out]
    generalize Hs.same a b = s at *
    go_enter Tryz.func388, Tryz.ntmps388
    go_wp2_with fail
    refine HX.out.mono ?_
    rintro e w1 ⟨rfl, rfl⟩
    go_wp2_with fail
    go_ret
    exact ValG.ok (Below.refl _ _) rfl (PV.tru _ _ (!s))
  have e1 : ((bs op).toList == [33, 61]) = false := by rw [hbt]; simpa using o1
  clear hbt
  rcases hu.cases with ⟨n, rfl, rfl, h1, h2⟩ | ⟨s, rfl, rfl⟩ | ⟨s, rfl, rfl⟩ | ⟨x, c, l, rfl, rfl, hl⟩
  · have qa := va_Int_Int
    rcases hv.cases with ⟨n', rfl, rfl, h1', h2'⟩ | ⟨s', rfl, rfl⟩ | ⟨s', rfl, rfl⟩ | ⟨x', c', l', rfl, rfl, hl'⟩
    · have qb := va_Int_Int
      rw [two_ints o0 o1]
      have HX := mkHid (pints_any op F n n' w h1 h2 h1' h2')
      generalize Hs.intsL op n n' = r at *
      clear hu hv hF o0 o1 hca hcb
      go_enter Tryz.func388, Tryz.ntmps388
      go_wp2_with fail
      refine HX.out.mono ?_
      rintro e w1 ⟨rfl, ⟨hk, u1, rfl, hp⟩ | ⟨hk, rfl⟩⟩
      · have HP := mkHid hp
        have HK := mkHid hk
        obtain ⟨t1, z1, rfl⟩ := hp.form
        clear hp hk
        go_wp2_with fail
        go_ret
        exact ValG.ofQ ⟨rfl, Or.inl ⟨HK.out, _, rfl, HP.out⟩⟩
      · have HK := mkHid hk
        clear hk
        go_wp2_with fail
        exact ⟨rfl, ValG.ofQ ⟨rfl, Or.inr ⟨HK.out, rfl⟩⟩⟩
    · have qb := va_Bool_Int
      rw [two_other o0 o1 (by simp [Hs.vnum, Hs.vtru])]
      clear hu hv hF o0 o1 hca hcb
      go_enter Tryz.func388, Tryz.ntmps388
      go_wp2_with fail
      exact ⟨rfl, ValG.stop (Below.refl _ _) rfl (by decide)⟩
    · have qb := va_Str_Int
      rw [two_other o0 o1 (by simp [Hs.vnum, Hs.vstr])]
      clear hu hv hF o0 o1 hca hcb
      go_enter Tryz.func388, Tryz.ntmps388
      go_wp2_with fail
      exact ⟨rfl, ValG.stop (Below.refl _ _) rfl (by decide)⟩
    · have qb := va_List_Int
      rw [two_other o0 o1 (by simp [Hs.vnum, Hs.vlst])]
      clear hu hv hF o0 o1 hca hcb
      go_enter Tryz.func388, Tryz.ntmps388
      go_wp2_with fail
      exact ⟨rfl, ValG.stop (Below.refl _ _) rfl (by decide)⟩
  · have qa := va_Bool_Int
    have qa_Str := va_Bool_Str
    have qa_List := va_Bool_List
    rcases hv.cases with ⟨n', rfl, rfl, h1', h2'⟩ | ⟨s', rfl, rfl⟩ | ⟨s', rfl, rfl⟩ | ⟨x', c', l', rfl, rfl, hl'⟩
    · have qb := va_Int_Int
      rw [two_other o0 o1 (by simp [Hs.vtru, Hs.vnum])]
      clear hu hv hF o0 o1 hca hcb
      go_enter Tryz.func388, Tryz.ntmps388
      go_wp2_with fail
      exact ⟨rfl, ValG.stop (Below.refl _ _) rfl (by decide)⟩
    · have qb := va_Bool_Int
      rw [two_other o0 o1 (by simp [Hs.vtru])]
      clear hu hv hF o0 o1 hca hcb
      go_enter Tryz.func388, Tryz.ntmps388
      go_wp2_with fail
      exact ⟨rfl, ValG.stop (Below.refl _ _) rfl (by decide)⟩
    · have qb := va_Str_Int
      rw [two_other o0 o1 (by simp [Hs.vtru, Hs.vstr])]
      clear hu hv hF o0 o1 hca hcb
      go_enter Tryz.func388, Tryz.ntmps388
      go_wp2_with fail
      exact ⟨rfl, ValG.stop (Below.refl _ _) rfl (by decide)⟩
    · have qb := va_List_Int
      rw [two_other o0 o1 (by simp [Hs.vtru, Hs.vlst])]
      clear hu hv hF o0 o1 hca hcb
      go_enter Tryz.func388, Tryz.ntmps388
      go_wp2_with fail
      exact ⟨rfl, ValG.stop (Below.refl _ _) rfl (by decide)⟩
  · have qa := va_Str_Int
    have qa_Str := va_Str_Str
    rcases hv.cases with ⟨n', rfl, rfl, h1', h2'⟩ | ⟨s', rfl, rfl⟩ | ⟨s', rfl, rfl⟩ | ⟨x', c', l', rfl, rfl, hl'⟩
    · have qb := va_Int_Str
      rw [two_other o0 o1 (by simp [Hs.vstr, Hs.vnum])]
      clear hu hv hF o0 o1 hca hcb
      go_enter Tryz.func388, Tryz.ntmps388
      go_wp2_with fail
      exact ⟨rfl, ValG.stop (Below.refl _ _) rfl (by decide)⟩
    · have qb := va_Bool_Str
      rw [two_other o0 o1 (by simp [Hs.vstr, Hs.vtru])]
      clear hu hv hF o0 o1 hca hcb
      go_enter Tryz.func388, Tryz.ntmps388
      go_wp2_with fail
      exact ⟨rfl, ValG.stop (Below.refl _ _) rfl (by decide)⟩
    · have qb := va_Str_Str
      rw [two_strs o0 o1]
      rw [cells_str] at hca hcb
      have HX := mkHid (pstrs_any op F s s' w (by omega))
      generalize strsL op s s' = r at *
      clear hu hv hF o0 o1 hca hcb
      go_enter Tryz.func388, Tryz.ntmps388
      go_wp2_with fail
      refine HX.out.mono ?_
      rintro e w1 ⟨rfl, ⟨hk, u1, rfl, hp⟩ | ⟨hk, rfl⟩⟩
      · have HP := mkHid hp
        have HK := mkHid hk
        obtain ⟨t1, z1, rfl⟩ := hp.form
        clear hp hk
        go_wp2_with fail
        go_ret
        exact ValG.ofQ ⟨rfl, Or.inl ⟨HK.out, _, rfl, HP.out⟩⟩
      · have HK := mkHid hk
        clear hk
        go_wp2_with fail
        exact ⟨rfl, ValG.ofQ ⟨rfl, Or.inr ⟨HK.out, rfl⟩⟩⟩
    · have qb := va_List_Str
      rw [two_other o0 o1 (by simp [Hs.vstr, Hs.vlst])]
      clear hu hv hF o0 o1 hca hcb
      go_enter Tryz.func388, Tryz.ntmps388
      go_wp2_with fail
      exact ⟨rfl, ValG.stop (Below.refl _ _) rfl (by decide)⟩
  · have qa := va_List_Int
    have qa_Str := va_List_Str
    have qa_List := va_List_List
    rcases hv.cases with ⟨n', rfl, rfl, h1', h2'⟩ | ⟨s', rfl, rfl⟩ | ⟨s', rfl, rfl⟩ | ⟨x', c', l', rfl, rfl, hl'⟩
    · have qb := va_Int_List
      rw [two_other o0 o1 (by simp [Hs.vlst, Hs.vnum])]
      clear hu hv hF o0 o1 hca hcb
      go_enter Tryz.func388, Tryz.ntmps388
      go_wp2_with fail
      exact ⟨rfl, ValG.stop (Below.refl _ _) rfl (by decide)⟩
    · have qb := va_Bool_List
      rw [two_other o0 o1 (by simp [Hs.vlst, Hs.vtru])]
      clear hu hv hF o0 o1 hca hcb
      go_enter Tryz.func388, Tryz.ntmps388
      go_wp2_with fail
      exact ⟨rfl, ValG.stop (Below.refl _ _) rfl (by decide)⟩
    · have qb := va_Str_List
      rw [two_other o0 o1 (by simp [Hs.vlst, Hs.vstr])]
      clear hu hv hF o0 o1 hca hcb
      go_enter Tryz.func388, Tryz.ntmps388
      go_wp2_with fail
      exact ⟨rfl, ValG.stop (Below.refl _ _) rfl (by decide)⟩
    · have qb := va_List_List
      rw [two_lists o0 o1]
      have HX := mkHid (plists_any op F x x' c c' l l' w hl hl' hF (by omega))
      generalize listsL op l l' = r at *
      clear hu hv hF o0 o1 hca hcb hl hl'
      go_enter Tryz.func388, Tryz.ntmps388
      go_wp2_with fail
      refine HX.out.mono ?_
      rintro e w1 ⟨hb1, ⟨hk, u1, rfl, hp⟩ | ⟨hk, rfl⟩⟩
      · have HP := mkHid hp
        have HK := mkHid hk
        have HB := mkHid hb1
        obtain ⟨t1, z1, rfl⟩ := hp.form
        clear hp hk hb1
        go_wp2_with fail
        go_ret
        exact ⟨HB.out, Or.inl ⟨HK.out, _, rfl, HP.out⟩⟩
      · have HK := mkHid hk
        have HB := mkHid hb1
        clear hk hb1
        go_wp2_with fail
        exact ⟨rfl, HB.out, Or.inr ⟨HK.out, rfl⟩⟩
end Go.Proofs.YtblbkfdhjfppkaaGreatDoor

/- Contracts of the program: slices in memory of their own. -/
namespace Go.Proofs.YtblbkfdhjfppkaaGreatDoor
open Go.RowKit
theorem cell_alloc_some {w : World} {a : Addr} {v : Value} (o : Obj) (h : w.cell? a = some v) : (w.alloc o).cell? a = some v := by
  have hlt := World.block_lt_of_cell? w a h
  rw [← h]
  exact World.cell?_of_block (Below.heap_alloc _ _ _ hlt)
end Go.Proofs.YtblbkfdhjfppkaaGreatDoor

/- The program's machine: instructions, frames, states; how a tree becomes instructions: plain functions. -/
namespace Go.Proofs.YtblbkfdhjfppkaaGreatDoor.Hs
inductive Ins where
  | begin (line : Nat) (seen : List (List UInt8))
  | push (v : Val)
  | load (slot : Nat)
  | declare (slot : Nat)
  | assign (slot n : Nat)
  | jump (to_ : Nat)
  | skip (to_ : Nat)
  | shortcut (when : Bool) (to_ : Nat)
  | truth
  | unary (op : List UInt8)
  | binary (op : List UInt8)
  | index
  | list (n : Nat)
  | length
  | read
  | call (f : Nat) (n : Nat)
  | give
  | drop
  | print
def Ins.isBegin : Ins → Bool
  | .begin _ _ => true
  | _ => false
structure Fn where
  name : List UInt8
  code : List Ins
structure Frm where
  fn : Fn
  next : Nat
  line : Nat
  seen : List (List UInt8)
  vars : List Val
  ops : List Val
structure Mst where
  frames : List Frm
  tape : List Int
  out : List (List UInt8)
def Frm.push (f : Frm) (v : Val) : Frm := { f with ops := f.ops ++ [v] }
def Frm.last (f : Frm) : Val := f.ops.getLast?.getD vnil
def Frm.pop (f : Frm) : Frm := { f with ops := f.ops.dropLast }
def Frm.many (f : Frm) (n : Nat) : List Val := f.ops.drop (f.ops.length - n)
def Frm.popMany (f : Frm) (n : Nat) : Frm := { f with ops := f.ops.take (f.ops.length - n) }
def limitL (r : Val × Nat) : Val × Nat := if r.2 = 0 then if 200 < cells r.1 then (vnil, 6) else r else r
def changeL (whole : Val) (at_ : List Val) (to_ : Val) : Val × Nat := limitL (changedL at_ whole to_)
def inFrame (i : Ins) (f : Frm) : Frm × Nat :=
  match i with
  | .begin l s => ({ f with line := l, seen := s }, 0)
  | .push v => (f.push v, 0)
  | .load k => (f.push (f.vars[k]?.getD vnil), 0)
  | .declare k => ({ f.pop with vars := f.vars.take k ++ [f.last] }, 0)
  | .assign k n =>
    let g := f.pop.popMany n
    let r := changeL (f.vars[k]?.getD vnil) (f.pop.many n) f.last
    if r.2 = 0 then ({ g with vars := f.vars.set k r.1 }, 0) else (g, r.2)
  | .jump t => ({ f with next := t }, 0)
  | .skip t => if f.last.sort = 1 then (if f.last.n = 1 then f.pop else { f.pop with next := t }, 0) else (f.pop, 2)
  | .shortcut w t => if f.last.sort = 1 then (if decide (f.last.n = 1) = w then { f.pop.push f.last with next := t } else f.pop, 0) else (f.pop, 2)
  | .truth => if f.last.sort = 1 then (f.pop.push f.last, 0) else (f.pop, 2)
  | .unary op => let r := oneL (op ++ [120]) f.last; if r.2 = 0 then (f.pop.push r.1, 0) else (f.pop, r.2)
  | .binary op => let r := twoL op f.pop.last f.last; if r.2 = 0 then (f.pop.pop.push r.1, 0) else (f.pop.pop, r.2)
  | .index => let r := indexL f.pop.last f.last; if r.2 = 0 then (f.pop.pop.push r.1, 0) else (f.pop.pop, r.2)
  | .list n => let r := limitL (vlst (f.many n), 0); if r.2 = 0 then ((f.popMany n).push r.1, 0) else (f.popMany n, r.2)
  | .length => let r := lengthL f.last; if r.2 = 0 then (f.pop.push r.1, 0) else (f.pop, r.2)
  | .drop => (f.pop, 0)
  | _ => (f, 0)
def doI (tab : List Fn) (i : Ins) (below : List Frm) (f : Frm) (tape : List Int) (out : List (List UInt8)) : Mst × Nat :=
  match i with
  | .read =>
    match tape with
    | [] => (⟨below ++ [f], tape, out⟩, 7)
    | t :: r => (⟨below ++ [f.push (vnum t)], r, out⟩, 0)
  | .call k n =>
    if below.length + 1 = 16 then (⟨below ++ [f.popMany n], tape, out⟩, 5)
    else (⟨below ++ [f.popMany n, ⟨tab[k]?.getD ⟨[], []⟩, 0, 0, [], f.many n, []⟩], tape, out⟩, 0)
  | .give => (⟨below.dropLast ++ (below.getLast?.map fun g => g.push f.last).toList, tape, out⟩, 0)
  | .print => if out.length = 50 then (⟨below ++ [f.pop], tape, out⟩, 8) else (⟨below ++ [f.pop], tape, out ++ [textL f.last]⟩, 0)
  | i => let r := inFrame i f; (⟨below ++ [r.1], tape, out⟩, r.2)
def Frm.fetch (f : Frm) : Option (Ins × Frm) := f.fn.code[f.next]?.map fun i => (i, { f with next := f.next + 1 })
def toS (tab : List Fn) : Nat → Mst → Option (Mst × Nat)
  | 0, _ => none
  | k + 1, m =>
    match m.frames.getLast? with
    | none => some (m, 1)
    | some f =>
      match f.fetch with
      | none => none
      | some (i, g) =>
        let r := doI tab i m.frames.dropLast g m.tape m.out
        if r.2 ≠ 0 then some r
        else if i.isBegin then some r
        else toS tab k r.1
structure Sta where
  time : Nat
  m : Mst
  stop : Nat
def fuelStop (time stop : Nat) : Nat := if stop = 0 ∧ time = 500 then 9 else stop
def slotL : List (List UInt8) → List UInt8 → Nat
  | [], _ => 0
  | x :: l, name => if x = name then l.length else slotL l name
def fnIx (fs : List Ast) (name : List UInt8) : Nat := fs.findIdx fun f => f.text == name
def seqC (c : Ast → Nat → List Ins) : List Ast → Nat → List Ins
  | [], _ => []
  | a :: l, p => c a p ++ seqC c l (p + (c a p).length)
def exprC (fs : List Ast) (seen : List (List UInt8)) : Nat → Ast → Nat → List Ins
  | 0, _, _ => []
  | d + 1, a, p =>
    let kids := seqC (exprC fs seen d) a.kids p
    if a.op == [48] then [.push (vnum (((wholeL 0 a.text).getD 0 : Nat) : Int))]
    else if a.op == [115] then [.push (vstr a.text)]
    else if a.op == [98, 111, 111, 108] then [.push (vtru (a.text == [116, 114, 117, 101]))]
    else if a.op == [110, 97, 109, 101] then [.load (slotL seen a.text)]
    else if a.op == [108, 105, 115, 116] then kids ++ [.list a.kids.length]
    else if a.op == [105, 110, 100, 101, 120] then kids ++ [.index]
    else if a.op == [45, 120] then kids ++ [.unary [45]]
    else if a.op == [33, 120] then kids ++ [.unary [33]]
    else if a.op == [99, 97, 108, 108] then
      kids ++ [if a.text == [108, 101, 110] then .length else if a.text == [114, 101, 97, 100] then .read else .call (fnIx fs a.text) a.kids.length]
    else if a.op == [38, 38] || a.op == [124, 124] then
      match a.kids with
      | [l, r] =>
        let cl := exprC fs seen d l p
        let cr := exprC fs seen d r (p + cl.length + 1)
        cl ++ [.shortcut (a.op == [124, 124]) (p + cl.length + 1 + cr.length + 1)] ++ cr ++ [.truth]
      | _ => []
    else kids ++ [.binary a.op]
def stsC (c : List (List UInt8) → Ast → Nat → List Ins × List (List UInt8)) : List (List UInt8) → List Ast → Nat → List Ins
  | _, [], _ => []
  | seen, a :: l, p => (c seen a p).1 ++ stsC c (c seen a p).2 l (p + (c seen a p).1.length)
def stC (fs : List Ast) : Nat → List (List UInt8) → Ast → Nat → List Ins × List (List UInt8)
  | 0, seen, _, _ => ([], seen)
  | d + 1, seen, a, p =>
    let start := Ins.begin a.line seen
    let blk := fun (b : Ast) q => stsC (stC fs d) seen b.kids q
    if a.op == [118, 97, 114] then
      match a.kids with
      | [t, v] => (start :: exprC fs seen d v (p + 1) ++ [.declare seen.length], t.text :: seen)
      | _ => ([], seen)
    else if a.op == [115, 101, 116] then
      (start :: seqC (exprC fs seen d) a.kids (p + 1) ++ [.assign (slotL seen a.text) (a.kids.length - 1)], seen)
    else if a.op == [105, 102] then
      match a.kids with
      | c :: t :: e =>
        let cc := exprC fs seen d c (p + 1)
        let ct := blk t (p + 1 + cc.length + 1)
        let q := p + 1 + cc.length + 1 + ct.length + 1
        let ce := match e with | [x] => blk x q | _ => []
        (start :: cc ++ [.skip q] ++ ct ++ [.jump (q + ce.length)] ++ ce, seen)
      | _ => ([], seen)
    else if a.op == [119, 104, 105, 108, 101] then
      match a.kids with
      | [c, b] =>
        let cc := exprC fs seen d c (p + 1)
        let cb := blk b (p + 1 + cc.length + 1)
        (start :: cc ++ [.skip (p + 1 + cc.length + 1 + cb.length + 1)] ++ cb ++ [.jump p], seen)
      | _ => ([], seen)
    else if a.op == [114, 101, 116, 117, 114, 110] then
      match a.kids with
      | [v] => (start :: exprC fs seen d v (p + 1) ++ [.give], seen)
      | _ => ([start, .push (vnum 0), .give], seen)
    else if a.op == [112, 114, 105, 110, 116] then
      match a.kids with
      | [v] => (start :: exprC fs seen d v (p + 1) ++ [.print], seen)
      | _ => ([], seen)
    else
      match a.kids with
      | [c] => (start :: exprC fs seen d c (p + 1) ++ [.drop], seen)
      | _ => ([], seen)
def fnC (fs : List Ast) (d : Nat) (f : Ast) : Fn :=
  let seen := (f.kids.dropLast.map (·.text)).reverse
  ⟨f.text, stsC (stC fs d) seen ((f.kids.getLast?.map (·.kids)).getD []) 0 ++ [.push (vnum 0), .give]⟩
def tabC (fs : List Ast) (d : Nat) : List Fn := fs.map (fnC fs d)
def mst0 (fs : List Ast) (d : Nat) (tape : List Int) : Mst := ⟨[⟨(tabC fs d)[fnIx fs [109, 97, 105, 110]]?.getD ⟨[], []⟩, 0, 0, [], [], []⟩], tape, []⟩
end Go.Proofs.YtblbkfdhjfppkaaGreatDoor.Hs

/- Contracts of the program: what is done with a frame's operands. -/
namespace Go.Proofs.YtblbkfdhjfppkaaGreatDoor
open Go.RowKit
structure Chg (gf : Nat) (row : Option Nat) (w w' : World) : Prop where
  os : w'.os = w.os
  tape : w'.tape = w.tape
  output : w'.output = w.output
  size : w.heap.size ≤ w'.heap.size
  block : ∀ k, k < w.heap.size → k ≠ gf → some k ≠ row → w'.heap[k]? = w.heap[k]?
theorem news_val (w : World) (u : Value) : ∀ j v, ([u] : List Value)[j]? = some v → (w.alloc (.cells #[u] 256)).cell? ((⟨w.heap.size, 0, none⟩ : Addr).add j) = some v := by
  intro j v hj
  match j, hj with
  | 0, hj => simp at hj; subst hj; simp [Addr.add, go_sem]
  | j + 1, hj => simp at hj
theorem one_iface (t : TypeId) (z : Value) : ∀ u ∈ ([.iface t z] : List Value), u.oneCell' = true := by
  intro u hu; simp at hu; rw [hu]; rfl
set_option maxRecDepth 100000 in
set_option maxHeartbeats 1000000 in
theorem fpush_any (base gf o n : Nat) (cur : Array Value) (ov : Value) (xs : List Value) (t : TypeId) (z : Value) (w : World) (hb : w.heap[gf]? = some (.cells cur 195 (0, 0))) (ho : cur[o + 5]? = some ov) (hown : w.ownsRow base 256 1 ov n xs) (hne : ov.ownBlock ≠ some gf) (hbase : base ≤ w.heap.size) (hn : n ≤ 1000000) :
    Calls Tryz.prog 371 #[.pointer (some ⟨gf, o, none⟩), .iface t z] w fun e w' => e = .returned (.tuple #[]) ∧ ∃ ov', w'.heap[gf]? = some (.cells (cur.setIfInBounds (o + 5) ov') 195 (0, 0)) ∧ w'.ownsRow base 256 1 ov' (n + 1) (xs ++ [.iface t z]) ∧ (∀ k, ov'.ownBlock = some k → ov.ownBlock = some k ∨ w.heap.size ≤ k) ∧ Chg gf ov.ownBlock w w' := by
  obtain ⟨i0, hi, hz0, hz1, hz2⟩ := info_parts infoPVal
  obtain ⟨x, c, rfl⟩ := own_slice hown
  have hgl := lt_of_block hb
  have c5 := cell_of_block hb ho
  have HO := mkHid hown
  have HB := mkHid hb
  have HNE := mkHid hne
  clear hown hb hne
  go_enter Tryz.func371, Tryz.ntmps371
  go_wp2_with (at_builtin; refine wpList_append_lies _ (by rfl) _ _ 193 (by rfl) base 256 i0 _ 1 16 Tryz.underlying193 hi hz0 hz1 hz2 rfl (by decide) (.slice x n c) n xs (by rfl) (HO.out.alloc _) ⟨w.heap.size, 0, none⟩ 1 1 [.iface t z] (by rfl) (by rfl) (news_val w _) (one_iface t z) (by decide) (by unfold maxLen; omega) (by omega) (by simp; omega) (w.heap.size + 1) (by simp) ?_)
  intro g4 cap4 w4 hown4 hgrow4 hat4 hg4
  have hblk4 : w4.heap[gf]? = some (.cells cur 195 (0, 0)) := by
    rw [hgrow4.block gf (by simp; omega) (fun e => HNE.out e.symm), Below.heap_alloc _ _ _ hgl]; exact HB.out
  have c5' := cell_of_block hblk4 ho
  have f5' := frozen_of_block hblk4 (i := o + 5)
  have hgl4 := lt_of_block hblk4
  have hgg : g4 ≠ gf := by
    rcases hat4 with h | h
    · exact fun e => HNE.out (by rw [← e]; exact h)
    · omega
  have HOWN := mkHid hown4
  have HG := mkHid hgrow4
  have HAT := mkHid hat4
  have HBL := mkHid hblk4
  clear hown4 hgrow4 hat4 hblk4
  go_wp2_with fail
  go_end0
  refine ⟨rfl, .slice (some ⟨g4, 0, none⟩) (n + 1) cap4, heap_setCell_at HBL.out, ?_, ?_, ?_⟩
  · exact ownsRow_keep HOWN.out fun k hk => Below.heap_setCell _ _ _ _ (by cases hk; exact hgg)
  · intro k hk
    cases hk
    rcases HAT.out with h | h
    · exact Or.inl h
    · exact Or.inr (by show w.heap.size ≤ g4; omega)
  · refine ⟨HG.out.os.trans rfl, HG.out.tape.trans rfl, HG.out.output.trans rfl, Nat.le_trans (by simp) (Nat.le_trans HG.out.size (by simp)), fun k hk h1 h2 => ?_⟩
    rw [Below.heap_setCell _ _ _ _ h1, HG.out.block k (by simp; omega) h2, Below.heap_alloc _ _ _ hk]
set_option maxRecDepth 100000 in
set_option maxHeartbeats 1000000 in
theorem fpop_any (base gf o n : Nat) (cur : Array Value) (ov : Value) (xs : List Value) (u : Value) (w : World) (hb : w.heap[gf]? = some (.cells cur 195 (0, 0))) (ho : cur[o + 5]? = some ov) (hown : w.ownsRow base 256 1 ov (n + 1) (xs ++ [u])) (hx : xs.length = n) (hu : ∃ t z, u = .iface t z) (hn : n ≤ 1000000) :
    Calls Tryz.prog 171 #[.pointer (some ⟨gf, o, none⟩)] w fun e w' => e = .returned u ∧ ∃ ov', w' = w.setCell ⟨gf, o + 5, none⟩ ov' ∧ w.ownsRow base 256 1 ov' n xs ∧ ov'.ownBlock = ov.ownBlock := by
  obtain ⟨t, z, rfl⟩ := hu
  rcases hown.2 with ⟨r1, r2⟩ | ⟨g, c, row, rfl, hg1, hrow, hcap, hcm, hcs, htk⟩
  · omega
  have hgl := lt_of_block hb
  have c5 := cell_of_block hb ho
  have f5 := frozen_of_block hb (i := o + 5)
  have hrl := lt_of_block hrow
  have hlast : row[n]? = some (.iface t z) := by
    have : (xs ++ [Value.iface t z])[n]? = some (.iface t z) := by rw [← hx]; simp
    rw [← htk, List.getElem?_take, if_pos (by omega)] at this
    simpa using this
  have cl := cell_of_block hrow hlast
  have HOWN : Hid (w.ownsRow base 256 1 (.slice (some ⟨g, 0, none⟩) n c) n xs) := by
    refine ⟨by rw [hx]; omega, Or.inr ⟨g, c, row, rfl, hg1, hrow, by omega, hcm, hcs, ?_⟩⟩
    have := congrArg (List.take n) htk
    rw [List.take_take] at this
    rw [show min n ((n + 1) * 1) = n by omega] at this
    rw [Nat.mul_one, this, ← hx]; simp
  have e1 : (0 : Int) ≤ n := by omega
  have e2 : (n : Int) < (n : Int) + 1 := by omega
  have e3 : (n : Int) ≤ c := by omega
  clear hown hb ho hrow htk hlast
  go_enter Tryz.func171, Tryz.ntmps171
  go_wp2_with fail
  go_ret
  exact ⟨rfl, _, rfl, HOWN.out, rfl⟩
end Go.Proofs.YtblbkfdhjfppkaaGreatDoor

/- Contracts of the program: the last frame, its next instruction, its last operands. -/
namespace Go.Proofs.YtblbkfdhjfppkaaGreatDoor
open Go.RowKit
set_option maxRecDepth 100000 in
set_option maxHeartbeats 1000000 in
theorem top_any (sb gf n cap : Nat) (w : World) (hc : w.cell? ⟨sb, 1, none⟩ = some (.slice (some ⟨gf, 0, none⟩) (n + 1) cap)) (hn : n ≤ 1000) :
    Calls Tryz.prog 158 #[.pointer (some ⟨sb, 0, none⟩)] w fun e w' => e = .returned (.pointer (some ⟨gf, n * 6, none⟩)) ∧ ∃ q, w' = w.drewN q := by
  have e1 : (0 : Int) ≤ (n : Int) := by omega
  have e2 : (n : Int) < (n : Int) + 1 := by omega
  go_enter Tryz.func158, Tryz.ntmps158
  go_wp2_with fail
  go_quiet (fail)
  go_wp2_with fail
  go_ret
  exact ⟨rfl, _, rfl⟩
set_option maxRecDepth 100000 in
set_option maxHeartbeats 1000000 in
theorem fetch_any (gf o fb gc n cap k : Nat) (cur : Array Value) (nm u : Value) (w : World) (hb : w.heap[gf]? = some (.cells cur 195 (0, 0))) (h0 : cur[o]? = some (.pointer (some ⟨fb, 0, none⟩))) (h1 : cur[o + 1]? = some (.int .i64 k))
    (hf : w.heap[fb]? = some (.cells #[nm, .slice (some ⟨gc, 0, none⟩) n cap] 250 (0, 0))) (hu : w.cell? ⟨gc, k, none⟩ = some u) (hi : ∃ t z, u = .iface t z) (hk : k < n) (hn : n ≤ 1000000) :
    Calls Tryz.prog 235 #[.pointer (some ⟨gf, o, none⟩)] w fun e w' => e = .returned u ∧ ∃ q, w' = (w.drewN q).setCell ⟨gf, o + 1, none⟩ (.int .i64 ((k + 1 : Nat) : Int)) := by
  obtain ⟨t, z, rfl⟩ := hi
  have hgl := lt_of_block hb
  have hfl := lt_of_block hf
  have c0 := cell_of_block hb h0
  have c1 := cell_of_block hb h1
  have f1 := frozen_of_block hb (i := o + 1)
  have d1 := cell_of_block hf (i := 1) rfl
  have e1 : (0 : Int) ≤ (k : Int) := by omega
  have e2 : (k : Int) < (n : Int) := by omega
  clear hb hf h0 h1
  go_enter Tryz.func235, Tryz.ntmps235
  go_wp2_with fail
  go_quiet (fail)
  go_wp2_with fail
  go_ret
  exact ⟨rfl, _, by congr 2⟩
end Go.Proofs.YtblbkfdhjfppkaaGreatDoor

/- How the machine lies in memory: instructions, functions, frames, a state that runs. -/
namespace Go.Proofs.YtblbkfdhjfppkaaGreatDoor
open Go.RowKit
def SeenR (F : Nat → Prop) (w : World) : Value → List (List UInt8) → Prop
  | v, [] => v = .pointer none
  | v, x :: l => ∃ b o, v = .pointer (some ⟨b, 0, none⟩) ∧ F b ∧ w.heap[b]? = some (.cells #[.string (bs x), .int .i64 l.length, o] 253 (0, 0)) ∧ SeenR F w o l
theorem SeenR.keep {F G : Nat → Prop} {w w' : World} (hk : ∀ b, F b → w'.heap[b]? = w.heap[b]?) (hF : ∀ b, F b → G b) : ∀ {l : List (List UInt8)} {v : Value}, SeenR F w v l → SeenR G w' v l
  | [], _, h => h
  | _ :: _, _, ⟨b, o, h1, h2, h3, h4⟩ => ⟨b, o, h1, hF b h2, by rw [hk b h2]; exact h3, SeenR.keep hk hF h4⟩
theorem SeenR.form {F : Nat → Prop} {w : World} {l : List (List UInt8)} {v : Value} (h : SeenR F w v l) : ∃ p, v = .pointer p := by
  cases l with
  | nil => exact ⟨none, h⟩
  | cons x l => obtain ⟨b, o, h1, _⟩ := h; exact ⟨_, h1⟩
def InsR (fp : Nat → Value) (F : Nat → Prop) (w : World) (v : Value) : Hs.Ins → Prop
  | .begin l s => ∃ sp, v = .iface 365 (.agg #[.int .i64 l, sp]) ∧ SeenR F w sp s
  | .push a => ∃ u, v = .iface 361 (.agg #[u]) ∧ PV F w u a ∧ Hs.cells a ≤ 200
  | .load k => v = .iface 402 (.agg #[.int .i64 k])
  | .declare k => v = .iface 443 (.agg #[.int .i64 k])
  | .assign k n => v = .iface 445 (.agg #[.int .i64 k, .int .i64 n])
  | .jump t => v = .iface 462 (.agg #[.int .i64 t])
  | .skip t => v = .iface 461 (.agg #[.int .i64 t])
  | .shortcut b t => v = .iface 438 (.agg #[.bool b, .int .i64 t])
  | .truth => v = .iface 436 (.agg #[])
  | .unary op => v = .iface 407 (.agg #[.string (bs op)])
  | .binary op => v = .iface 435 (.agg #[.string (bs op)])
  | .index => v = .iface 405 (.agg #[])
  | .list n => v = .iface 404 (.agg #[.int .i64 n])
  | .length => v = .iface 439 (.agg #[])
  | .read => v = .iface 440 (.agg #[])
  | .call k n => v = .iface 442 (.agg #[fp k, .int .i64 n])
  | .give => v = .iface 363 (.agg #[])
  | .drop => v = .iface 449 (.agg #[])
  | .print => v = .iface 448 (.agg #[])
theorem InsR.keep {fp : Nat → Value} {F G : Nat → Prop} {w w' : World} {v : Value} {i : Hs.Ins} (h : InsR fp F w v i) (hk : ∀ b, F b → w'.heap[b]? = w.heap[b]?) (hF : ∀ b, F b → G b) : InsR fp G w' v i := by
  cases i <;> first
    | exact h
    | (obtain ⟨sp, h1, h2⟩ := h; exact ⟨sp, h1, SeenR.keep hk hF h2⟩)
    | (obtain ⟨u, h1, h2, h3⟩ := h; exact ⟨u, h1, (h2.keep hk).mono hF, h3⟩)
theorem InsR.form {fp : Nat → Value} {F : Nat → Prop} {w : World} {v : Value} {i : Hs.Ins} (h : InsR fp F w v i) : ∃ t z, v = .iface t z := by
  cases i <;> first
    | exact ⟨_, _, h⟩
    | (obtain ⟨sp, h1, h2⟩ := h; exact ⟨_, _, h1⟩)
def FnR (fp : Nat → Value) (F : Nat → Prop) (w : World) (v : Value) (f : Hs.Fn) : Prop :=
  ∃ fb gc cap cur, v = .pointer (some ⟨fb, 0, none⟩) ∧ F fb ∧ w.heap[fb]? = some (.cells #[.string (bs f.name), .slice (some ⟨gc, 0, none⟩) f.code.length cap] 250 (0, 0)) ∧ F gc ∧ w.heap[gc]? = some (.cells cur 355 (0, 0)) ∧
    ∀ i (h : i < f.code.length), ∃ u, cur[i]? = some u ∧ InsR fp F w u f.code[i]
theorem FnR.keep {fp : Nat → Value} {F G : Nat → Prop} {w w' : World} {v : Value} {f : Hs.Fn} (h : FnR fp F w v f) (hk : ∀ b, F b → w'.heap[b]? = w.heap[b]?) (hF : ∀ b, F b → G b) : FnR fp G w' v f := by
  obtain ⟨fb, gc, cap, cur, h1, h2, h3, h4, h5, h6⟩ := h
  refine ⟨fb, gc, cap, cur, h1, hF _ h2, by rw [hk _ h2]; exact h3, hF _ h4, by rw [hk _ h4]; exact h5, fun i hi => ?_⟩
  obtain ⟨u, e1, e2⟩ := h6 i hi
  exact ⟨u, e1, e2.keep hk hF⟩
def TabR (fp : Nat → Value) (F : Nat → Prop) (w : World) (tab : List Hs.Fn) : Prop := ∀ k f, tab[k]? = some f → FnR fp F w (fp k) f
theorem TabR.keep {fp : Nat → Value} {F G : Nat → Prop} {w w' : World} {tab : List Hs.Fn} (h : TabR fp F w tab) (hk : ∀ b, F b → w'.heap[b]? = w.heap[b]?) (hF : ∀ b, F b → G b) : TabR fp G w' tab := fun k f hf => (h k f hf).keep hk hF
structure FVal where
  fp : Value
  nx : Value
  ln : Value
  sp : Value
  vv : Value
  ov : Value
def FVal.cells (f : FVal) : List Value := [f.fp, f.nx, f.ln, f.sp, f.vv, f.ov]
def flat6 : List FVal → List Value
  | [] => []
  | f :: l => f.cells ++ flat6 l
theorem flat6_append (l m : List FVal) : flat6 (l ++ m) = flat6 l ++ flat6 m := by
  induction l with
  | nil => rfl
  | cons f l ih => simp [flat6, ih]
theorem flat6_length (l : List FVal) : (flat6 l).length = l.length * 6 := by
  induction l with
  | nil => rfl
  | cons f l ih => simp [flat6, FVal.cells, ih]; omega
def FVal.owns (f : FVal) : List Nat := f.vv.ownBlock.toList ++ f.ov.ownBlock.toList
def ValRow (F : Nat → Prop) (base : Nat) (w : World) (v : Value) (l : List Hs.Val) : Prop := (∃ xs, w.ownsRow base 256 1 v l.length xs ∧ RowP F w xs l) ∧ ∀ a ∈ l, Hs.cells a ≤ 200
theorem ValRow.keep {F G : Nat → Prop} {base : Nat} {w w' : World} {v : Value} {l : List Hs.Val} (h : ValRow F base w v l) (hk : ∀ b, F b → w'.heap[b]? = w.heap[b]?) (hF : ∀ b, F b → G b) (ho : ∀ k, v.ownBlock = some k → w'.heap[k]? = w.heap[k]?) : ValRow G base w' v l := by
  obtain ⟨⟨xs, h1, h2⟩, h3⟩ := h
  exact ⟨⟨xs, ownsRow_keep h1 ho, (h2.keep hk).mono hF⟩, h3⟩
structure FrR (fp : Nat → Value) (F : Nat → Prop) (base : Nat) (w : World) (v : FVal) (f : Hs.Frm) : Prop where
  fn : FnR fp F w v.fp f.fn
  nx : v.nx = .int .i64 f.next
  ln : v.ln = .int .i64 f.line
  sp : SeenR F w v.sp f.seen
  vars : ValRow F base w v.vv f.vars
  ops : ValRow F base w v.ov f.ops
theorem FrR.keep {fp : Nat → Value} {F G : Nat → Prop} {base : Nat} {w w' : World} {v : FVal} {f : Hs.Frm} (h : FrR fp F base w v f) (hk : ∀ b, F b → w'.heap[b]? = w.heap[b]?) (hF : ∀ b, F b → G b) (ho : ∀ k ∈ v.owns, w'.heap[k]? = w.heap[k]?) : FrR fp G base w' v f :=
  ⟨h.fn.keep hk hF, h.nx, h.ln, SeenR.keep hk hF h.sp, h.vars.keep hk hF fun k e => ho k (by simp [FVal.owns, e]), h.ops.keep hk hF fun k e => ho k (by simp [FVal.owns, e])⟩
def FrsR (fp : Nat → Value) (F : Nat → Prop) (base : Nat) (w : World) : List FVal → List Hs.Frm → Prop
  | [], [] => True
  | v :: vs, f :: fs => FrR fp F base w v f ∧ FrsR fp F base w vs fs
  | _, _ => False
theorem FrsR.keep {fp : Nat → Value} {F G : Nat → Prop} {base : Nat} {w w' : World} (hk : ∀ b, F b → w'.heap[b]? = w.heap[b]?) (hF : ∀ b, F b → G b) : ∀ {vs : List FVal} {fs : List Hs.Frm}, FrsR fp F base w vs fs → (∀ v ∈ vs, ∀ k ∈ v.owns, w'.heap[k]? = w.heap[k]?) → FrsR fp G base w' vs fs
  | [], [], _, _ => trivial
  | v :: _, _ :: _, ⟨h1, h2⟩, ho => ⟨h1.keep hk hF (ho v (List.mem_cons_self ..)), FrsR.keep hk hF h2 fun u hu => ho u (List.mem_cons_of_mem _ hu)⟩
  | [], _ :: _, h, _ => h.elim
  | _ :: _, [], h, _ => h.elim
theorem FrsR.length {fp : Nat → Value} {F : Nat → Prop} {base : Nat} {w : World} : ∀ {vs : List FVal} {fs : List Hs.Frm}, FrsR fp F base w vs fs → vs.length = fs.length
  | [], [], _ => rfl
  | _ :: _, _ :: _, ⟨_, h⟩ => by simp [FrsR.length h]
  | [], _ :: _, h => h.elim
  | _ :: _, [], h => h.elim
theorem FrsR.snoc {fp : Nat → Value} {F : Nat → Prop} {base : Nat} {w : World} {v : FVal} {f : Hs.Frm} : ∀ {vs : List FVal} {fs : List Hs.Frm}, FrsR fp F base w vs fs → FrR fp F base w v f → FrsR fp F base w (vs ++ [v]) (fs ++ [f])
  | [], [], _, h => ⟨h, trivial⟩
  | _ :: _, _ :: _, ⟨h1, h2⟩, h => ⟨h1, FrsR.snoc h2 h⟩
  | [], _ :: _, h, _ => h.elim
  | _ :: _, [], h, _ => h.elim
theorem FrsR.unsnoc {fp : Nat → Value} {F : Nat → Prop} {base : Nat} {w : World} {f : Hs.Frm} : ∀ {vs : List FVal} {fs : List Hs.Frm}, FrsR fp F base w vs (fs ++ [f]) → ∃ vs' v, vs = vs' ++ [v] ∧ FrsR fp F base w vs' fs ∧ FrR fp F base w v f
  | [], [], h => h.elim
  | [v], [], ⟨h1, h2⟩ => ⟨[], v, rfl, trivial, h1⟩
  | _ :: _ :: _, [], ⟨_, h⟩ => h.elim
  | v :: vs, g :: fs, ⟨h1, h2⟩ => by
    obtain ⟨vs', u, e, h3, h4⟩ := FrsR.unsnoc (vs := vs) (fs := fs) h2
    exact ⟨v :: vs', u, by rw [e]; rfl, ⟨h1, h3⟩, h4⟩
  | [], _ :: _, h => h.elim
def ownsAll (l : List FVal) : List Nat := l.flatMap FVal.owns
def ownList (sb gf : Nat) (outv : Value) (fvs : List FVal) : List Nat := sb :: gf :: (outv.ownBlock.toList ++ ownsAll fvs)
def strsM (l : List (List UInt8)) : List Value := l.map fun x => Value.string (bs x)
def TapeR (F : Nat → Prop) (w : World) (v : Value) (l : List Int) : Prop :=
  (l = [] ∧ ∃ x c, v = .slice x 0 c) ∨ ∃ g o c, v = .slice (some ⟨g, o, none⟩) l.length c ∧ l.length ≤ c ∧ F g ∧ ∀ i (h : i < l.length), w.cell? ⟨g, o + i, none⟩ = some (.int .i64 l[i]) ∧ -9223372036854775808 ≤ l[i] ∧ l[i] ≤ 9223372036854775807
theorem TapeR.keep {F G : Nat → Prop} {w w' : World} {v : Value} {l : List Int} (h : TapeR F w v l) (hk : ∀ b, F b → w'.heap[b]? = w.heap[b]?) (hF : ∀ b, F b → G b) : TapeR G w' v l := by
  rcases h with h | ⟨g, o, c, h1, h2, h3, h4⟩
  · exact Or.inl h
  · exact Or.inr ⟨g, o, c, h1, h2, hF g h3, fun i hi => ⟨by rw [World.cell?_of_block (hk g h3)]; exact (h4 i hi).1, (h4 i hi).2⟩⟩
structure RunR (fp : Nat → Value) (F : Nat → Prop) (base : Nat) (w : World) (sb gf cap : Nat) (t0 tv outv s0 : Value) (fvs : List FVal) (m : Hs.Mst) : Prop where
  blk : w.heap[sb]? = some (.cells #[t0, .slice (some ⟨gf, 0, none⟩) fvs.length cap, tv, outv, s0] 108 (0, 0))
  row : w.ownsRow base 195 6 (.slice (some ⟨gf, 0, none⟩) fvs.length cap) fvs.length (flat6 fvs)
  frs : FrsR fp F base w fvs m.frames
  tape : TapeR F w tv m.tape
  out : w.ownsRow base 9 1 outv m.out.length (strsM m.out)
  nodup : (ownList sb gf outv fvs).Nodup
  lt : ∀ k ∈ ownList sb gf outv fvs, k < w.heap.size
  apart : ∀ k, F k → k < w.heap.size ∧ k ∉ ownList sb gf outv fvs
theorem RunR.step {fp : Nat → Value} {F G : Nat → Prop} {base : Nat} {w w' : World} {sb gf cap : Nat} {t0 tv outv s0 : Value} {fb : List FVal} {v v' : FVal} {below : List Hs.Frm} {f f' : Hs.Frm} {tape : List Int} {out : List (List UInt8)}
    (h : RunR fp F base w sb gf cap t0 tv outv s0 (fb ++ [v]) ⟨below ++ [f], tape, out⟩) (hsz : w.heap.size ≤ w'.heap.size) (hc : ∀ k, k < w.heap.size → k ≠ gf → k ∉ v.owns → w'.heap[k]? = w.heap[k]?)
    (hrow : w'.ownsRow base 195 6 (.slice (some ⟨gf, 0, none⟩) (fb.length + 1) cap) (fb.length + 1) (flat6 (fb ++ [v'])))
    (hfr : FrR fp G base w' v' f') (ho : ∀ k ∈ v'.owns, k < w'.heap.size ∧ (k ∈ v.owns ∨ w.heap.size ≤ k)) (hnd : v'.owns.Nodup)
    (hF : ∀ k, F k → G k) (hG : ∀ k, G k → F k ∨ (w.heap.size ≤ k ∧ k < w'.heap.size ∧ k ∉ v'.owns)) :
    RunR fp G base w' sb gf cap t0 tv outv s0 (fb ++ [v']) ⟨below ++ [f'], tape, out⟩ := by
  have hlen : (fb ++ [v']).length = (fb ++ [v]).length := by simp
  have hlen' : (fb ++ [v']).length = fb.length + 1 := by simp
  have hown : ∀ u : FVal, ownList sb gf outv (fb ++ [u]) = (sb :: gf :: (outv.ownBlock.toList ++ ownsAll fb)) ++ u.owns := fun u => by simp [ownList, ownsAll]
  have hnd0 := h.nodup
  have hlt0 := h.lt
  have hap0 := h.apart
  rw [hown] at hnd0 hlt0 hap0
  generalize hpre : (sb :: gf :: (outv.ownBlock.toList ++ ownsAll fb)) = pre at hnd0 hlt0 hap0 hown
  obtain ⟨hn1, hn2, hn3⟩ := List.nodup_append.1 hnd0
  have hpv : ∀ k ∈ pre, k < w.heap.size ∧ k ∉ v.owns := fun k hk => ⟨hlt0 k (List.mem_append_left _ hk), fun hv => hn3 k hk k hv rfl⟩
  have hsbm : sb ∈ pre := by rw [← hpre]; simp
  have hgfm : gf ∈ pre := by rw [← hpre]; simp
  have hsg : sb ≠ gf := by
    rw [← hpre] at hn1
    have := (List.nodup_cons.1 hn1).1
    intro e; exact this (by simp [e])
  have hFk : ∀ b, F b → w'.heap[b]? = w.heap[b]? := fun b hb => by
    obtain ⟨h1, h2⟩ := hap0 b hb
    exact hc b h1 (fun e => h2 (List.mem_append_left _ (by rw [e]; exact hgfm))) fun hv => h2 (List.mem_append_right _ hv)
  have hfbm : ∀ u ∈ fb, ∀ k ∈ u.owns, k ∈ pre ∧ k ≠ gf := fun u hu k hk => by
    have hk1 : k ∈ ownsAll fb := List.mem_flatMap.2 ⟨u, hu, hk⟩
    refine ⟨by rw [← hpre]; simp [hk1], ?_⟩
    rw [← hpre] at hn1
    have := (List.nodup_cons.1 (List.nodup_cons.1 hn1).2).1
    intro e; exact this (by rw [← e]; simp [hk1])
  have houtm : ∀ k, outv.ownBlock = some k → k ∈ pre ∧ k ≠ gf := fun k hk => by
    refine ⟨by rw [← hpre]; simp [hk], ?_⟩
    rw [← hpre] at hn1
    have := (List.nodup_cons.1 (List.nodup_cons.1 hn1).2).1
    intro e; exact this (by rw [← e]; simp [hk])
  refine ⟨?_, by rw [hlen']; exact hrow, ?_, h.tape.keep hFk hF, ownsRow_keep h.out fun k hk => ?_, ?_, ?_, ?_⟩
  · rw [hlen, hc sb (hpv sb hsbm).1 hsg (hpv sb hsbm).2]
    exact h.blk
  · obtain ⟨vs', u, e, k1, k2⟩ := FrsR.unsnoc h.frs
    obtain ⟨rfl, e2⟩ := List.append_inj' e rfl
    exact (k1.keep hFk hF fun u hu k hk => hc k (hpv k (hfbm u hu k hk).1).1 (hfbm u hu k hk).2 (hpv k (hfbm u hu k hk).1).2).snoc hfr
  · obtain ⟨h1, h2⟩ := houtm k hk
    exact hc k (hpv k h1).1 h2 (hpv k h1).2
  · rw [hown]
    refine List.nodup_append.2 ⟨hn1, hnd, fun a ha b hb e => ?_⟩
    subst e
    rcases (ho a hb).2 with h1 | h1
    · exact (hpv a ha).2 h1
    · have := (hpv a ha).1; omega
  · intro k hk
    rw [hown] at hk
    rcases List.mem_append.1 hk with hk | hk
    · exact Nat.lt_of_lt_of_le (hpv k hk).1 hsz
    · exact (ho k hk).1
  · intro k hk
    rw [hown]
    rcases hG k hk with h1 | ⟨h1, h2, h3⟩
    · obtain ⟨h4, h5⟩ := hap0 k h1
      refine ⟨Nat.lt_of_lt_of_le h4 hsz, fun hm => ?_⟩
      rcases List.mem_append.1 hm with hm | hm
      · exact h5 (List.mem_append_left _ hm)
      · rcases (ho k hm).2 with h6 | h6
        · exact h5 (List.mem_append_right _ h6)
        · omega
    · refine ⟨h2, fun hm => ?_⟩
      rcases List.mem_append.1 hm with hm | hm
      · have := (hpv k hm).1; omega
      · exact h3 hm
end Go.Proofs.YtblbkfdhjfppkaaGreatDoor

/- Contracts of the program: a value as it is written; its text. -/
namespace Go.Proofs.YtblbkfdhjfppkaaGreatDoor
open Go.RowKit
def PowT (w : World) : Prop := Lib.TabIs Tryz.prog w "internal/strconv.uint64pow10" .u64 Lib.pow10Tab
theorem PowT.keep {w w' : World} {g : Nat} (h : PowT w) (hg : Tryz.prog.globalNamed "internal/strconv.uint64pow10" = some g) (hk : w'.heap[g]? = w.heap[g]?) : PowT w' := by
  unfold PowT Lib.TabIs World.var? at h ⊢
  rw [hg] at h ⊢
  simp only [Option.bind_some] at h ⊢
  rw [hk]; exact h
theorem PowT.below {w w' : World} (h : PowT w) (hb : Below w.heap.size w w') : PowT w' := by
  cases hg : Tryz.prog.globalNamed "internal/strconv.uint64pow10" with
  | none => unfold PowT Lib.TabIs World.var? at h; rw [hg] at h; cases h
  | some g =>
    refine h.keep hg (hb.block g ?_)
    unfold PowT Lib.TabIs World.var? at h
    rw [hg] at h
    simp only [Option.bind_some] at h
    rcases Nat.lt_or_ge g w.heap.size with h1 | h1
    · exact h1
    · rw [Array.getElem?_eq_none (by exact h1)] at h
      cases h
theorem digitsF_dec : ∀ (f n : Nat) (t : List UInt8), n < 10 ^ (f + 1) → Hs.digitsF (f + 1) n t = Lib.decDigits n ++ t
  | 0, n, t, h => by
    have h1 : n < 10 := by simpa using h
    rw [Hs.digitsF, Lib.decDigits, if_pos h1, dif_pos h1]; rfl
  | f + 1, n, t, h => by
    rw [Hs.digitsF, Lib.decDigits]
    by_cases h1 : n < 10
    · rw [if_pos h1, dif_pos h1]; rfl
    · rw [if_neg h1, dif_neg h1, digitsF_dec f (n / 10) _ (by rw [Nat.pow_succ] at h; omega)]
      simp
theorem itoa_decimals (n : Int) (h1 : -9223372036854775808 ≤ n) (h2 : n ≤ 9223372036854775807) : Lib.itoa n = Hs.decimalsL n := by
  unfold Lib.itoa Hs.decimalsL
  rw [digitsF_dec 19 n.natAbs [] (by omega), List.append_nil]
  by_cases h : n < 0
  · rw [if_pos h, if_pos h]; rfl
  · rw [if_neg h, if_neg h, List.nil_append, show n.toNat = n.natAbs by omega]
theorem join_commas : ∀ l : List (List UInt8), Lib.join l [44, 32] = Hs.commas l
  | [] => rfl
  | [x] => by simp [Lib.join, List.intercalate, Hs.commas]
  | x :: y :: l => by
    have ih := join_commas (y :: l)
    unfold Lib.join List.intercalate at ih ⊢
    rw [List.intersperse_cons_cons, List.flatten_cons, List.flatten_cons, ih]
    simp [Hs.commas]
theorem join_bs (l : List (List UInt8)) : Lib.join ((l.map bs).map fun x => x.data.toList) (bs [44, 32]).data.toList = Hs.commas l := by
  rw [← join_commas, List.map_map]
  have e : ((fun x : ByteArray => x.data.toList) ∘ bs) = id := funext fun x => by simp [bs_data]
  rw [e, List.map_id]
  simp [bs_data]
theorem news_strP (w : World) (x : List UInt8) : ∀ j u, ([.string (bs x)] : List Value)[j]? = some u → (w.alloc (.cells #[.string (bs x)] 9)).cell? ((⟨w.heap.size, 0, none⟩ : Addr).add j) = some u := by
  intro j v hj
  match j, hj with
  | 0, hj => simp at hj; subst hj; simp [Addr.add, go_sem]
  | j + 1, hj => simp at hj
theorem one_strP (x : List UInt8) : ∀ u ∈ ([.string (bs x)] : List Value), u.oneCell' = true := by
  intro u hu; simp at hu; rw [hu]; rfl
theorem infoStrP : (Tryz.prog.info? 9).map (fun i => (i.zero, i.size, i.bytes)) = some (some (.string ⟨#[]⟩), 1, 16) := by kernel_rfl
def strsP (l : List (List UInt8)) : List Value := l.map fun x => Value.string (bs x)
def WrittenAt (F : Nat → Prop) (k : Nat) : Prop := ∀ (v : Value) (a : Hs.Val) (w : World), PV F w v a → (∀ b, F b → b < w.heap.size) → PowT w → Hs.cells a ≤ k → k ≤ 1000000 → Calls Tryz.prog 157 #[v] w fun e w' => e = .returned (.string (bs (Hs.written a))) ∧ Below w.heap.size w w'
set_option maxRecDepth 100000 in
set_option maxHeartbeats 2000000 in
theorem pjoined_step (F : Nat → Prop) (k : Nat) (IH : WrittenAt F k) (x : Option Addr) (c : Nat) (l : List Hs.Val) (w : World) (hl : PVs F w (.slice x l.length c) l) (hF : ∀ b, F b → b < w.heap.size) (hp : PowT w) (hc : (l.map Hs.cells).sum ≤ k) (hk : k ≤ 1000000) :
    Calls Tryz.prog 219 #[.slice x l.length c] w fun e w' => e = .returned (.string (bs (Hs.commas (l.map Hs.written)))) ∧ Below w.heap.size w w' := by
  obtain ⟨i0, hi, hz0, hz1, hz2⟩ := info_parts infoStrP
  have hlen := len_cells l
  have HIH := mkHid IH
  have HL := mkHid hl
  have HF := mkHid hF
  have HP := mkHid hp
  clear IH hl hF hp
  go_enter Tryz.func219, Tryz.ntmps219
  go_wp2_with fail
  go_loopg [3, 5, 8] l.length (fun gk s _ i wr => ∃ j : Nat, j + gk = l.length ∧ i = .int .i64 j ∧ (∃ y d, s = .slice y j d) ∧ wr.ownsRow w.heap.size 9 1 s j (strsP ((l.map Hs.written).take j)) ∧ Below w.heap.size w wr)
  case atStart => exact ⟨0, by omega, rfl, ⟨none, 0, rfl⟩, World.ownsRow_nil _ _ _ _, Below.refl _ _⟩
  case round =>
    obtain ⟨j, hj, rfl, ⟨y, d, rfl⟩, hown, hbel⟩ := hrel
    by_cases hlt : j < l.length
    · obtain ⟨m, rfl⟩ : ∃ m, gk = m + 1 := ⟨gk - 1, by omega⟩
      have hl' := HL.out.keep fun b hb => hbel.block b (HF.out b hb)
      obtain ⟨g, u, rfl, hn, hFg, hg, hcap, hcell, hu⟩ := hl'.get j hlt
      have hmem : l[j] ∈ l := List.getElem_mem hlt
      have hcm := cells_mem hmem
      have HX := mkHid (HIH.out u l[j] wr hu (fun b hb => Nat.lt_of_lt_of_le (HF.out b hb) hbel.size) (HP.out.below hbel) (by omega) (by omega))
      obtain ⟨t, u', rfl⟩ := hu.form
      have hsz := hbel.size
      have HO := mkHid hown
      have HB := mkHid hbel
      have htk : strsP ((l.map Hs.written).take (j + 1)) = strsP ((l.map Hs.written).take j) ++ [.string (bs (Hs.written l[j]))] := by
        rw [List.take_succ_eq_append_getElem (by simpa using hlt)]; simp [strsP]
      have HTK := mkHid htk
      clear hu hown hbel htk hl'
      go_wp2_with fail
      refine HX.out.mono ?_
      rintro e w1 ⟨rfl, hb1⟩
      have hsz1 := hb1.size
      have hown1 := ownsRow_below HO.out hb1
      have HO1 := mkHid hown1
      clear hown1
      generalize Hs.written l[j] = tx at *
      go_wp2_with (at_builtin; refine wpList_append_lies _ (by rfl) _ _ 60 (by rfl) w.heap.size 9 i0 _ 1 16 Tryz.underlying60 hi hz0 hz1 hz2 rfl (by decide) (.slice y j d) j _ (by rfl) (HO1.out.alloc _) ⟨w1.heap.size, 0, none⟩ 1 1 [.string (bs tx)] (by rfl) (by rfl) (news_strP w1 _) (one_strP _) (by decide) (by unfold maxLen; omega) (by omega) (by simp; omega) (w1.heap.size + 1) (by simp) ?_)
      intro g4 cap4 w4 hown4 hgrow4 hat4 hg4
      have HO4 := mkHid hown4
      have HG4 := mkHid hgrow4
      clear hown4 hgrow4 hat4
      go_wp2_with fail
      go_roundg m
      case measure => omega
      case rel =>
        refine ⟨j + 1, by omega, by go_num, ⟨_, _, rfl⟩, by rw [HTK.out]; exact HO4.out, ?_⟩
        exact ((HB.out.trans (hb1.mono (by omega))).alloc (by omega) _).grown HG4.out (by simp; omega) fun k hk => (HO1.out.lt k hk).1
    · have hjl : j = l.length := by omega
      subst hjl
      have hsz := hbel.size
      rw [List.take_of_length_le (by simp)] at hown
      have HB := mkHid hbel
      have hwl := commas_len l fun a _ => written_len a
      rcases hown.2 with ⟨r1, r2⟩ | ⟨g, cp, cur, r1, r2, r3, r4, r5, r6, r7⟩
      · have e1 : l = [] := List.eq_nil_of_length_eq_zero r2
        subst e1
        cases r1
        clear hown hbel HL HIH
        go_wp2_with fail
        refine (Tryz.strings_Join_none _ _ _ _).mono ?_
        rintro e w1 ⟨rfl, rfl⟩
        go_wp2_with fail
        go_ret
        exact ⟨rfl, HB.out⟩
      · cases r1
        have HJ := mkHid (Tryz.strings_Join g 0 d ((l.map Hs.written).map bs) (bs [44, 32]) wr (fun i x hx => by
          refine cell_of_block r3 ?_
          have e2 : (strsP (l.map Hs.written))[i]? = some (.string x) := by
            unfold strsP
            rw [List.getElem?_map] at hx ⊢
            obtain ⟨y, hy, rfl⟩ := Option.map_eq_some_iff.1 hx
            rw [hy]; rfl
          have hil : i < l.length := by
            have := (List.getElem?_eq_some_iff.1 hx).1
            simpa using this
          rw [← r7, List.getElem?_take, if_pos (by omega)] at e2
          simpa using e2) (lt_of_block r3) (by simp; omega) (by simpa using r4) (by rw [join_bs]; omega))
        have hln : ((l.map Hs.written).map bs).length = l.length := by simp
        rw [hln, join_bs] at HJ
        clear hown hbel HL HIH r3 r6 r7
        go_wp2_with fail
        refine HJ.out.mono ?_
        rintro e w1 ⟨rfl, hb1⟩
        go_wp2_with fail
        go_ret
        exact ⟨rfl, HB.out.trans (hb1.mono (by omega))⟩
theorem grow_below {w w' : World} {k : Nat} {os : Array Obj} (h : w' = Sort.grow (w.drewN k) os) : Below w.heap.size w w' := by
  subst h
  refine ⟨rfl, rfl, rfl, ?_, fun i hi => ?_⟩
  · show w.heap.size ≤ (w.heap ++ os).size
    rw [Array.size_append]; omega
  · show (w.heap ++ os)[i]? = w.heap[i]?
    rw [Array.getElem?_append_left hi]
theorem false_str : (⟨(Lib.formatBool false).toArray⟩ : ByteArray) = bs [102, 97, 108, 115, 101] := by kernel_rfl
theorem true_str : (⟨(Lib.formatBool true).toArray⟩ : ByteArray) = bs [116, 114, 117, 101] := by kernel_rfl
set_option maxRecDepth 100000 in
set_option maxHeartbeats 2000000 in
theorem pwritten_step (F : Nat → Prop) (k : Nat) (IH : WrittenAt F k) : WrittenAt F (k + 1) := by
  intro v a w h hF hp hc hk
  rcases h.cases with ⟨n, rfl, rfl, h1, h2⟩ | ⟨b, rfl, rfl⟩ | ⟨s, rfl, rfl⟩ | ⟨x, c, l, rfl, rfl, hl⟩
  · have q := va_Int_Int
    have hw : Hs.written (Hs.vnum n) = Hs.decimalsL n := by rw [Hs.written_eq]; rfl
    have HX := mkHid (Tryz.strconv_FormatInt_10 n h1 h2 w hp)
    rw [hw]
    clear h IH hc hp
    go_enter Tryz.func157, Tryz.ntmps157
    go_wp2_with fail
    refine HX.out.mono ?_
    rintro e w1 ⟨rfl, k1, os, hw1⟩
    have hb := grow_below hw1
    clear hw1
    go_wp2_with fail
    go_ret
    exact ⟨by rw [itoa_decimals n h1 h2]; rfl, hb⟩
  · have q := va_Bool_Int
    have q' := va_Bool_Bool
    have hw : Hs.written (Hs.vtru b) = if b then [116, 114, 117, 101] else [102, 97, 108, 115, 101] := by rw [Hs.written_eq]; cases b <;> rfl
    rw [hw]
    clear h IH hc hp
    cases b
    all_goals
      go_enter Tryz.func157, Tryz.ntmps157
      go_wp2_with fail
      refine (Tryz.strconv_FormatBool _ _).mono ?_
      rintro e w1 ⟨rfl, rfl⟩
      go_wp2_with fail
      go_ret
      exact ⟨by first | (rw [false_str]; rfl) | (rw [true_str]; rfl), Below.refl _ _⟩
  · have q := va_Str_Int
    have q' := va_Str_Bool
    have q'' := va_Str_Str
    have hw : Hs.written (Hs.vstr s) = [34] ++ s ++ [34] := by rw [Hs.written_eq]; rfl
    have hs : (bs s).size = s.length := bs_size s
    rw [cells_str] at hc
    rw [hw]
    clear h IH hp
    go_enter Tryz.func157, Tryz.ntmps157
    go_wp2_with fail
    go_ret
    refine ⟨?_, Below.refl _ _⟩
    show Ending.returned (.string ((⟨#[34]⟩ : ByteArray) ++ bs s ++ (⟨#[34]⟩ : ByteArray))) = _
    rw [quote_str, quote_end]; rfl
  · have q := va_List_Int
    have q' := va_List_Bool
    have q'' := va_List_Str
    have q''' := va_List_List
    have hw : Hs.written (Hs.vlst l) = [91] ++ Hs.commas (l.map Hs.written) ++ [93] := by rw [Hs.written_eq]; rfl
    have hwl := commas_len l fun a _ => written_len a
    rw [cells_lst] at hc
    have HX := mkHid (pjoined_step F k IH x c l w hl hF hp (by omega) (by omega))
    have hs : (bs (Hs.commas (l.map Hs.written))).size = (Hs.commas (l.map Hs.written)).length := bs_size _
    rw [hw]
    generalize Hs.commas (l.map Hs.written) = tx at *
    clear h IH hp hl hF
    go_enter Tryz.func157, Tryz.ntmps157
    go_wp2_with fail
    refine HX.out.mono ?_
    rintro e w1 ⟨rfl, hb⟩
    go_wp2_with fail
    go_ret
    refine ⟨?_, hb⟩
    show Ending.returned (.string (bs [91] ++ bs tx ++ bs [93])) = _
    rw [bs_append, bs_append]; rfl
theorem pwritten_any (F : Nat → Prop) : ∀ k, WrittenAt F k
  | 0 => fun v a w _ _ _ h => by have := cells_pos a; omega
  | k + 1 => pwritten_step F k (pwritten_any F k)
end Go.Proofs.YtblbkfdhjfppkaaGreatDoor

/- Instructions keep to their heights: plain facts on what compiling makes. -/
namespace Go.Proofs.YtblbkfdhjfppkaaGreatDoor.Hs
structure Ty where
  h : Nat
  v : Nat
  e : Option Nat
  b : Bool
def Flow (D : Nat → Prop) (T : Nat → Ty) (q h v : Nat) (e : Option Nat) : Prop := D q ∧ (T q).h = h ∧ (T q).v ≤ v ∧ ((T q).e = none ∨ (T q).e = e)
def InsOk (ar : Nat → Option Nat) (D : Nat → Prop) (T : Nat → Ty) (p : Nat) (i : Ins) : Prop :=
  (T p).b = i.isBegin ∧ (T p).h ≤ p ∧
  match i with
  | .begin _ s => s.length ≤ (T p).v ∧ Flow D T (p + 1) (T p).h (T p).v (some s.length)
  | .push _ => Flow D T (p + 1) ((T p).h + 1) (T p).v (T p).e
  | .load k => k < (T p).v ∧ Flow D T (p + 1) ((T p).h + 1) (T p).v (T p).e
  | .declare k => 1 ≤ (T p).h ∧ k ≤ (T p).v ∧ k ≤ 90000 ∧ (T p).e = some k ∧ Flow D T (p + 1) ((T p).h - 1) (k + 1) (T p).e
  | .assign k n => n + 1 ≤ (T p).h ∧ k < (T p).v ∧ Flow D T (p + 1) ((T p).h - (n + 1)) (T p).v (T p).e
  | .jump q => (p < q ∨ (T q).b = true) ∧ Flow D T q (T p).h (T p).v (T p).e
  | .skip q => 1 ≤ (T p).h ∧ p < q ∧ Flow D T q ((T p).h - 1) (T p).v (T p).e ∧ Flow D T (p + 1) ((T p).h - 1) (T p).v (T p).e
  | .shortcut _ q => 1 ≤ (T p).h ∧ p < q ∧ Flow D T q (T p).h (T p).v (T p).e ∧ Flow D T (p + 1) ((T p).h - 1) (T p).v (T p).e
  | .truth => 1 ≤ (T p).h ∧ Flow D T (p + 1) (T p).h (T p).v (T p).e
  | .unary _ => 1 ≤ (T p).h ∧ Flow D T (p + 1) (T p).h (T p).v (T p).e
  | .length => 1 ≤ (T p).h ∧ Flow D T (p + 1) (T p).h (T p).v (T p).e
  | .binary _ => 2 ≤ (T p).h ∧ Flow D T (p + 1) ((T p).h - 1) (T p).v (T p).e
  | .index => 2 ≤ (T p).h ∧ Flow D T (p + 1) ((T p).h - 1) (T p).v (T p).e
  | .list n => n ≤ (T p).h ∧ Flow D T (p + 1) ((T p).h - n + 1) (T p).v (T p).e
  | .read => Flow D T (p + 1) ((T p).h + 1) (T p).v (T p).e
  | .call k n => n ≤ (T p).h ∧ ar k = some n ∧ Flow D T (p + 1) ((T p).h - n + 1) (T p).v (T p).e
  | .give => 1 ≤ (T p).h
  | .drop => 1 ≤ (T p).h ∧ Flow D T (p + 1) ((T p).h - 1) (T p).v (T p).e
  | .print => 1 ≤ (T p).h ∧ Flow D T (p + 1) ((T p).h - 1) (T p).v (T p).e
def Dom (L : Nat → Ty → Prop) (lo hi : Nat) (q : Nat) : Prop := (lo ≤ q ∧ q ≤ hi) ∨ ∃ y, L q y
def Seg (ar : Nat → Option Nat) (L : Nat → Ty → Prop) (p : Nat) (c : List Ins) (h v : Nat) (e : Option Nat) (h' v' : Nat) (e' : Option Nat) : Prop :=
  ∃ T : Nat → Ty, (∀ q y, L q y → T q = y) ∧ (T p).h = h ∧ (T p).v ≤ v ∧ ((T p).e = none ∨ (T p).e = e) ∧
    (T (p + c.length)).h = h' ∧ (T (p + c.length)).v = v' ∧ (T (p + c.length)).e = e' ∧
    ∀ j i, c[j]? = some i → InsOk ar (Dom L p (p + c.length)) T (p + j) i
theorem Flow.same {D D' : Nat → Prop} {T T' : Nat → Ty} {q h v : Nat} {e : Option Nat} (f : Flow D T q h v e) (hd : D q → D' q ∧ (T' q).h = (T q).h ∧ (T' q).v ≤ (T q).v ∧ ((T' q).e = none ∨ (T' q).e = (T q).e)) : Flow D' T' q h v e := by
  obtain ⟨f1, f2, f3, f4⟩ := f
  obtain ⟨d1, d2, d3, d4⟩ := hd f1
  refine ⟨d1, by rw [d2, f2], by omega, ?_⟩
  rcases d4 with d4 | d4
  · exact Or.inl d4
  · rw [d4]; exact f4
theorem InsOk.same {ar : Nat → Option Nat} {D D' : Nat → Prop} {T T' : Nat → Ty} {p : Nat} {i : Ins} (f : InsOk ar D T p i) (hp : T' p = T p)
    (hd : ∀ q, D q → D' q ∧ (T' q).h = (T q).h ∧ (T' q).v ≤ (T q).v ∧ ((T' q).e = none ∨ (T' q).e = (T q).e)) (hb : ∀ q, D q → q ≤ p → (T q).b = true → (T' q).b = true) : InsOk ar D' T' p i := by
  obtain ⟨f1, f2, f3⟩ := f
  refine ⟨by rw [hp]; exact f1, by rw [hp]; exact f2, ?_⟩
  cases i <;> simp only at f3 ⊢ <;> try rw [hp]
  case jump q =>
    refine ⟨?_, f3.2.same (hd _)⟩
    rcases f3.1 with h | h
    · exact Or.inl h
    · rcases Nat.lt_or_ge p q with h' | h'
      · exact Or.inl h'
      · exact Or.inr (hb q f3.2.1 h' h)
  all_goals first
    | exact f3
    | exact f3.same (hd _)
    | exact ⟨f3.1, f3.2.same (hd _)⟩
    | exact ⟨f3.1, f3.2.1, f3.2.2.same (hd _)⟩
    | exact ⟨f3.1, f3.2.1, f3.2.2.1.same (hd _), f3.2.2.2.same (hd _)⟩
    | exact ⟨f3.1, f3.2.1, f3.2.2.1, f3.2.2.2.1, f3.2.2.2.2.same (hd _)⟩
theorem Seg.append {ar : Nat → Option Nat} {L : Nat → Ty → Prop} {p : Nat} {c c' : List Ins} {h v h1 v1 h2 v2 : Nat} {e e1 e2 : Option Nat} (a : Seg ar L p c h v e h1 v1 e1) (b : Seg ar L (p + c.length) c' h1 v1 e1 h2 v2 e2)
    (hL : ∀ q y, L q y → q ≤ p ∨ p + c.length + c'.length ≤ q) (hc : c ≠ []) : Seg ar L p (c ++ c') h v e h2 v2 e2 := by
  obtain ⟨T, t1, t2, t3, t4, t5, t6, t7, t8⟩ := a
  obtain ⟨U, u1, u2, u3, u4, u5, u6, u7, u8⟩ := b
  have hc0 : 0 < c.length := List.length_pos_iff.2 hc
  have hlen : (c ++ c').length = c.length + c'.length := List.length_append
  refine ⟨fun q => if q < p + c.length then T q else U q, fun q y hq => ?_, ?_, ?_, ?_, ?_, ?_, ?_, fun j i hj => ?_⟩
  · rcases hL q y hq with h | h
    · simp only [if_pos (show q < p + c.length by omega)]; exact t1 q y hq
    · simp only [if_neg (show ¬ q < p + c.length by omega)]; exact u1 q y hq
  · simp only [if_pos (show p < p + c.length by omega)]; exact t2
  · simp only [if_pos (show p < p + c.length by omega)]; exact t3
  · simp only [if_pos (show p < p + c.length by omega)]; exact t4
  · simp only [if_neg (show ¬ p + (c ++ c').length < p + c.length by omega)]; rw [hlen, ← Nat.add_assoc]; exact u5
  · simp only [if_neg (show ¬ p + (c ++ c').length < p + c.length by omega)]; rw [hlen, ← Nat.add_assoc]; exact u6
  · simp only [if_neg (show ¬ p + (c ++ c').length < p + c.length by omega)]; rw [hlen, ← Nat.add_assoc]; exact u7
  · rcases Nat.lt_or_ge j c.length with hj' | hj'
    · rw [List.getElem?_append_left hj'] at hj
      refine (t8 j i hj).same (by simp only [if_pos (show p + j < p + c.length by omega)]) (fun q hq => ?_) (fun q hq hqp hb => ?_)
      · rcases Nat.lt_or_ge q (p + c.length) with h | h
        · rw [if_pos h]
          exact ⟨hq.imp (fun hq => ⟨hq.1, by omega⟩) id, rfl, Nat.le_refl _, Or.inr rfl⟩
        · rw [if_neg (show ¬ q < p + c.length by omega)]
          rcases Nat.eq_or_lt_of_le h with h | h
          · subst h
            exact ⟨Or.inl ⟨by omega, by omega⟩, by rw [u2, t5], by rw [t6]; exact u3, by rw [t7]; exact u4⟩
          · rcases hq with hq | ⟨y, hy⟩
            · omega
            · rw [t1 q y hy, u1 q y hy]; exact ⟨Or.inr ⟨y, hy⟩, rfl, Nat.le_refl _, Or.inr rfl⟩
      · simp only [if_pos (show q < p + c.length by omega)]; exact hb
    · rw [List.getElem?_append_right hj'] at hj
      have hu := u8 (j - c.length) i hj
      rw [show p + c.length + (j - c.length) = p + j by omega] at hu
      have hlt : j - c.length < c'.length := (List.getElem?_eq_some_iff.1 hj).1
      refine hu.same (by simp only [if_neg (show ¬ p + j < p + c.length by omega)]) (fun q hq => ?_) (fun q hq hqp hb => ?_)
      · rcases hq with hq | ⟨y, hy⟩
        · rw [if_neg (show ¬ q < p + c.length by omega)]
          exact ⟨Or.inl ⟨by omega, by omega⟩, rfl, Nat.le_refl _, Or.inr rfl⟩
        · refine ⟨Or.inr ⟨y, hy⟩, ?_⟩
          split
          · rw [t1 q y hy, u1 q y hy]; exact ⟨rfl, Nat.le_refl _, Or.inr rfl⟩
          · exact ⟨rfl, Nat.le_refl _, Or.inr rfl⟩
      · rcases hq with hq | ⟨y, hy⟩
        · simp only [if_neg (show ¬ q < p + c.length by omega)]; exact hb
        · split
          · rw [t1 q y hy, ← u1 q y hy]; exact hb
          · exact hb
theorem Seg.nil (ar : Nat → Option Nat) (p h v : Nat) (e : Option Nat) (L : Nat → Ty → Prop) (hL : ∀ q y, L q y → q = p → y.h = h ∧ y.v = v ∧ y.e = e) (hu : ∀ q y z, L q y → L q z → y = z) : Seg ar L p [] h v e h v e := by
  classical
  refine ⟨fun q => if hq : ∃ y, L q y then hq.choose else ⟨h, v, e, false⟩, fun q y hy => ?_, ?_⟩
  · have hex : ∃ y, L q y := ⟨y, hy⟩
    simp only [dif_pos hex]
    exact hu q _ _ hex.choose_spec hy
  · simp only [List.length_nil, Nat.add_zero]
    split
    · rename_i hex
      obtain ⟨h1, h2, h3⟩ := hL p _ hex.choose_spec rfl
      exact ⟨h1, by omega, Or.inr h3, h1, h2, h3, fun j i hj => by simp at hj⟩
    · exact ⟨rfl, Nat.le_refl _, Or.inr rfl, rfl, rfl, rfl, fun j i hj => by simp at hj⟩
end Go.Proofs.YtblbkfdhjfppkaaGreatDoor.Hs

/- The machine stays right: plain facts. -/
namespace Go.Proofs.YtblbkfdhjfppkaaGreatDoor.Hs
theorem last_snoc {α : Type} (l : List α) (a : α) : (l ++ [a]).getLast? = some a := by simp
theorem drop_snoc {α : Type} (l : List α) (a : α) : (l ++ [a]).dropLast = l := by simp
end Go.Proofs.YtblbkfdhjfppkaaGreatDoor.Hs

/- Contracts of the program: instructions that push. -/
namespace Go.Proofs.YtblbkfdhjfppkaaGreatDoor
open Go.RowKit
structure Kept (own : List Nat) (w w' : World) : Prop where
  os : w'.os = w.os
  tape : w'.tape = w.tape
  output : w'.output = w.output
  size : w.heap.size ≤ w'.heap.size
  block : ∀ k, k < w.heap.size → k ∉ own → w'.heap[k]? = w.heap[k]?
structure Ext (F G : Nat → Prop) (n : Nat) : Prop where
  sub : ∀ k, F k → G k
  new : ∀ k, G k → F k ∨ n ≤ k
theorem Ext.refl (F : Nat → Prop) (n : Nat) : Ext F F n := ⟨fun _ h => h, fun _ h => Or.inl h⟩
theorem Ext.trans {F G H : Nat → Prop} {n m : Nat} (h : Ext F G n) (k : Ext G H m) (hn : n ≤ m) : Ext F H n := ⟨fun x hx => k.sub x (h.sub x hx), fun x hx => by
  rcases k.new x hx with h1 | h1
  · exact h.new x h1
  · exact Or.inr (Nat.le_trans hn h1)⟩
theorem Ext.le {F G : Nat → Prop} {n m : Nat} (h : Ext F G n) (hn : m ≤ n) : Ext F G m := ⟨h.sub, fun x hx => (h.new x hx).imp_right (Nat.le_trans hn)⟩
def Done (fp : Nat → Value) (F : Nat → Prop) (base : Nat) (sb : Nat) (t0 s0 : Value) (own : List Nat) (w : World) (m : Hs.Mst) (w' : World) : Prop :=
  Kept own w w' ∧ ∃ G gf cap tv outv fvs, Ext F G w.heap.size ∧ RunR fp G base w' sb gf cap t0 tv outv s0 fvs m ∧ ∀ k ∈ ownList sb gf outv fvs, k ∈ own ∨ w.heap.size ≤ k
theorem row_last {w : World} {base gf cap j : Nat} {fb : List FVal} {v : FVal} {x : Value} (h : w.ownsRow base 195 6 (.slice (some ⟨gf, 0, none⟩) (fb.length + 1) cap) (fb.length + 1) (flat6 (fb ++ [v]))) (hj : j < 6) :
    ∃ cur, w.heap[gf]? = some (.cells cur 195 (0, 0)) ∧ (∀ i, i < 6 → cur[fb.length * 6 + i]? = v.cells[i]?) ∧
      ∀ W : World, W.heap[gf]? = some (.cells (cur.setIfInBounds (fb.length * 6 + j) x) 195 (0, 0)) → ∀ v' : FVal, v'.cells = v.cells.set j x → W.ownsRow base 195 6 (.slice (some ⟨gf, 0, none⟩) (fb.length + 1) cap) (fb.length + 1) (flat6 (fb ++ [v'])) := by
  rcases h.2 with ⟨r1, _⟩ | ⟨g', cap', cur, r1, r2, r3, r4, r5, r6, r7⟩
  · cases r1
  cases r1
  have hfl : ∀ u : FVal, flat6 (fb ++ [u]) = flat6 fb ++ u.cells := fun u => by rw [flat6_append]; simp [flat6]
  have hc6 : ∀ u : FVal, u.cells.length = 6 := fun _ => rfl
  have hsz : (fb.length + 1) * 6 ≤ cur.size := by rw [r6]; exact Nat.mul_le_mul_right _ r4
  refine ⟨cur, r3, fun i hi => ?_, fun W hW v' hv' => ?_⟩
  · have : (flat6 (fb ++ [v]))[fb.length * 6 + i]? = v.cells[i]? := by
      rw [hfl, List.getElem?_append_right (by rw [flat6_length]; omega), flat6_length, Nat.add_sub_cancel_left]
    rw [← r7, List.getElem?_take, if_pos (by omega)] at this
    simpa using this
  · refine ⟨by rw [flat6_length]; simp, Or.inr ⟨gf, cap, _, rfl, r2, hW, r4, r5, by simpa using r6, ?_⟩⟩
    rw [Array.toList_setIfInBounds, List.take_set, r7, hfl, hfl, hv', List.set_append_right _ _ (by rw [flat6_length]; omega), flat6_length, Nat.add_sub_cancel_left]
end Go.Proofs.YtblbkfdhjfppkaaGreatDoor

/- The machine in memory, behind what is done with operands. -/
namespace Go.Proofs.YtblbkfdhjfppkaaGreatDoor
open Go.RowKit
theorem Kept.refl (own : List Nat) (w : World) : Kept own w w := ⟨rfl, rfl, rfl, Nat.le_refl _, fun _ _ _ => rfl⟩
theorem Kept.trans {own own' : List Nat} {a b c : World} (h : Kept own a b) (k : Kept own' b c) (ho : ∀ x ∈ own', x ∈ own ∨ a.heap.size ≤ x) : Kept own a c :=
  ⟨k.os.trans h.os, k.tape.trans h.tape, k.output.trans h.output, Nat.le_trans h.size k.size, fun x hx hn => by
    rw [k.block x (Nat.lt_of_lt_of_le hx h.size) (fun hm => by rcases ho x hm with h1 | h1; · exact hn h1
                                                               · omega), h.block x hx hn]⟩
theorem Kept.of_below {own : List Nat} {w w' : World} (h : Below w.heap.size w w') : Kept own w w' := ⟨h.os, h.tape, h.output, h.size, fun k hk _ => h.block k hk⟩
theorem RunR.grow {fp : Nat → Value} {F G : Nat → Prop} {base : Nat} {w w' : World} {sb gf cap : Nat} {t0 tv outv s0 : Value} {fvs : List FVal} {m : Hs.Mst} (h : RunR fp F base w sb gf cap t0 tv outv s0 fvs m) (hb : Below w.heap.size w w') (hF : ∀ k, F k → G k) (hG : ∀ k, G k → F k ∨ (w.heap.size ≤ k ∧ k < w'.heap.size)) : RunR fp G base w' sb gf cap t0 tv outv s0 fvs m := by
  have hFk : ∀ b, F b → w'.heap[b]? = w.heap[b]? := fun b hb' => hb.block b (h.apart b hb').1
  have hin : ∀ k, k ∈ ownList sb gf outv fvs → w'.heap[k]? = w.heap[k]? := fun k hk => hb.block k (h.lt k hk)
  refine ⟨by rw [hin sb (by simp [ownList])]; exact h.blk, ownsRow_keep h.row fun k hk => ?_, h.frs.keep hFk hF fun v hv k hk => hin k ?_, h.tape.keep hFk hF, ownsRow_keep h.out fun k hk => hin k (by simp [ownList, hk]), h.nodup, fun k hk => Nat.lt_of_lt_of_le (h.lt k hk) hb.size, fun k hk => ?_⟩
  · cases hk; exact hin gf (by simp [ownList])
  · have : k ∈ ownsAll fvs := List.mem_flatMap.2 ⟨v, hv, hk⟩
    simp [ownList, this]
  · rcases hG k hk with h1 | ⟨h1, h2⟩
    · exact ⟨Nat.lt_of_lt_of_le (h.apart k h1).1 hb.size, (h.apart k h1).2⟩
    · exact ⟨h2, fun hm => by have := h.lt k hm; omega⟩
theorem RunR.pushed {fp : Nat → Value} {F : Nat → Prop} {base : Nat} {w w' : World} {sb gf cap : Nat} {t0 tv outv s0 : Value} {fb : List FVal} {v : FVal} {below : List Hs.Frm} {f : Hs.Frm} {tape : List Int} {out : List (List UInt8)} {cur : Array Value} {ov' u : Value} {a : Hs.Val} {xs : List Value}
    (h : RunR fp F base w sb gf cap t0 tv outv s0 (fb ++ [v]) ⟨below ++ [f], tape, out⟩) (hcur : w.heap[gf]? = some (.cells cur 195 (0, 0)))
    (hxs : RowP F w xs f.ops) (hu : PV F w u a) (hca : Hs.cells a ≤ 200)
    (p1 : w'.heap[gf]? = some (.cells (cur.setIfInBounds (fb.length * 6 + 5) ov') 195 (0, 0))) (p2 : w'.ownsRow base 256 1 ov' (f.ops.length + 1) (xs ++ [u])) (p3 : ∀ k, ov'.ownBlock = some k → v.ov.ownBlock = some k ∨ w.heap.size ≤ k) (p4 : Chg gf v.ov.ownBlock w w') :
    RunR fp F base w' sb gf cap t0 tv outv s0 (fb ++ [{ v with ov := ov' }]) ⟨below ++ [f.push a], tape, out⟩ ∧ Kept (ownList sb gf outv (fb ++ [v])) w w' := by
  obtain ⟨vs', v0, e, hfb, hv⟩ := FrsR.unsnoc h.frs
  obtain ⟨rfl, e2⟩ := List.append_inj' e rfl
  cases e2
  have hrow := h.row
  rw [show (fb ++ [v]).length = fb.length + 1 by simp] at hrow
  obtain ⟨cur', c1, _, c3⟩ := row_last (j := 5) (x := ov') hrow (by omega)
  obtain rfl : cur' = cur := by rw [hcur] at c1; cases c1; rfl
  have hvm : ∀ k ∈ v.owns, k ∈ ownList sb gf outv (fb ++ [v]) := fun k hk => by simp [ownList, ownsAll, hk]
  have hgv : gf ∉ v.owns := fun hm => by
    have := (List.nodup_cons.1 (List.nodup_cons.1 h.nodup).2).1
    exact this (by simp [ownsAll, hm])
  have hnv : v.owns.Nodup := by
    have h1 := h.nodup
    have : ownList sb gf outv (fb ++ [v]) = (sb :: gf :: (outv.ownBlock.toList ++ ownsAll fb)) ++ v.owns := by simp [ownList, ownsAll]
    rw [this] at h1
    exact (List.nodup_append.1 h1).2.1
  have hFk : ∀ b, F b → w'.heap[b]? = w.heap[b]? := fun b hb => by
    obtain ⟨h1, h2⟩ := h.apart b hb
    exact p4.block b h1 (fun e => h2 (by simp [ownList, e])) (fun e => h2 (hvm b (by simp [FVal.owns, ← e])))
  have hchg : ∀ k, k < w.heap.size → k ≠ gf → k ∉ v.owns → w'.heap[k]? = w.heap[k]? := fun k h1 h2 h3 => p4.block k h1 h2 fun e => h3 (by simp [FVal.owns, ← e])
  have hvvo : ∀ k, v.vv.ownBlock = some k → k < w.heap.size ∧ k ≠ gf ∧ v.ov.ownBlock ≠ some k := fun k hk => by
    have hm : k ∈ v.owns := by simp [FVal.owns, hk]
    refine ⟨h.lt k (hvm k hm), fun e => hgv (by rw [← e]; exact hm), fun e => ?_⟩
    unfold FVal.owns at hnv
    rw [hk, e] at hnv
    simp at hnv
  refine ⟨h.step (G := F) p4.size hchg (c3 w' p1 _ rfl) ?_ ?_ ?_ (fun _ h => h) (fun _ h => Or.inl h), ?_⟩
  · refine ⟨hv.fn.keep hFk fun _ h => h, hv.nx, hv.ln, SeenR.keep hFk (fun _ h => h) hv.sp, hv.vars.keep hFk (fun _ h => h) fun k hk => ?_, ⟨xs ++ [u], ?_, ?_⟩, ?_⟩
    · obtain ⟨h1, h2, h3⟩ := hvvo k hk
      exact p4.block k h1 h2 (fun e => h3 e.symm)
    · show w'.ownsRow base 256 1 ov' (f.ops ++ [a]).length _
      rw [List.length_append]; exact p2
    · exact (hxs.keep hFk).append ⟨rfl, fun i hi => by
        obtain rfl : i = 0 := by simpa using hi
        exact ⟨u, rfl, hu.keep hFk⟩⟩
    · intro b hb
      rcases List.mem_append.1 hb with hb | hb
      · exact hv.ops.2 b hb
      · rw [List.mem_singleton.1 hb]; exact hca
  · intro k hk
    rcases List.mem_append.1 hk with hk | hk
    · have hk' : v.vv.ownBlock = some k := by simpa using hk
      exact ⟨Nat.lt_of_lt_of_le (hvvo k hk').1 p4.size, Or.inl (by simp [FVal.owns, hk'])⟩
    · have hk' : ov'.ownBlock = some k := by simpa using hk
      refine ⟨own_block_lt p2 k hk', ?_⟩
      rcases p3 k hk' with h1 | h1
      · exact Or.inl (by simp [FVal.owns, h1])
      · exact Or.inr h1
  · show (v.vv.ownBlock.toList ++ ov'.ownBlock.toList).Nodup
    refine List.nodup_append.2 ⟨by cases v.vv.ownBlock <;> simp, by cases ov'.ownBlock <;> simp, fun x hx y hy e => ?_⟩
    subst e
    have h1 : v.vv.ownBlock = some x := by simpa using hx
    have h2 : ov'.ownBlock = some x := by simpa using hy
    obtain ⟨h3, _, h4⟩ := hvvo x h1
    rcases p3 x h2 with h5 | h5
    · exact h4 h5
    · omega
  · exact ⟨p4.os, p4.tape, p4.output, p4.size, fun k hk hn => hchg k hk (fun e => hn (by simp [ownList, e])) fun hm => hn (hvm k hm)⟩
end Go.Proofs.YtblbkfdhjfppkaaGreatDoor

/- Contracts of the program: the instruction that pushes a value. -/
namespace Go.Proofs.YtblbkfdhjfppkaaGreatDoor
open Go.RowKit
structure SameH (w w' : World) : Prop where
  os : w'.os = w.os
  tape : w'.tape = w.tape
  output : w'.output = w.output
  heap : w'.heap = w.heap
theorem SameH.refl (w : World) : SameH w w := ⟨rfl, rfl, rfl, rfl⟩
theorem SameH.drewN (w : World) (n : Nat) : SameH w (w.drewN n) := ⟨rfl, rfl, rfl, rfl⟩
theorem SameH.drew (w : World) : SameH w w.drew := ⟨rfl, rfl, rfl, rfl⟩
theorem SameH.trans {a b c : World} (h : SameH a b) (k : SameH b c) : SameH a c := ⟨k.os.trans h.os, k.tape.trans h.tape, k.output.trans h.output, k.heap.trans h.heap⟩
theorem SameH.below {w w' : World} (h : SameH w w') : Below w.heap.size w w' := ⟨h.os, h.tape, h.output, by rw [h.heap]; exact Nat.le_refl _, fun k _ => by rw [h.heap]⟩
theorem RunR.top {fp : Nat → Value} {F : Nat → Prop} {base : Nat} {w : World} {sb gf cap : Nat} {t0 tv outv s0 : Value} {fvs : List FVal} {below : List Hs.Frm} {f : Hs.Frm} {tape : List Int} {out : List (List UInt8)} (h : RunR fp F base w sb gf cap t0 tv outv s0 fvs ⟨below ++ [f], tape, out⟩) :
    ∃ fb v cur, fvs = fb ++ [v] ∧ fb.length = below.length ∧ FrR fp F base w v f ∧ w.heap[sb]? = some (.cells #[t0, .slice (some ⟨gf, 0, none⟩) (fb.length + 1) cap, tv, outv, s0] 108 (0, 0)) ∧ w.heap[gf]? = some (.cells cur 195 (0, 0)) ∧ fb.length + 1 ≤ cap ∧
      cur[fb.length * 6]? = some v.fp ∧ cur[fb.length * 6 + 1]? = some v.nx ∧ cur[fb.length * 6 + 2]? = some v.ln ∧ cur[fb.length * 6 + 3]? = some v.sp ∧ cur[fb.length * 6 + 4]? = some v.vv ∧ cur[fb.length * 6 + 5]? = some v.ov := by
  obtain ⟨fb, v, rfl, h1, h2⟩ := FrsR.unsnoc h.frs
  have hrow := h.row
  have hblk := h.blk
  rw [show (fb ++ [v]).length = fb.length + 1 by simp] at hrow hblk
  obtain ⟨cur, c1, c2, _⟩ := row_last (j := 0) (x := undef) hrow (by omega)
  have hcap : fb.length + 1 ≤ cap := by
    rcases hrow.2 with ⟨r1, _⟩ | ⟨g', cap', cur, r1, r2, r3, r4, _⟩
    · cases r1
    · cases r1; exact r4
  exact ⟨fb, v, cur, rfl, h1.length, h2, hblk, c1, hcap, c2 0 (by omega), c2 1 (by omega), c2 2 (by omega), c2 3 (by omega), c2 4 (by omega), c2 5 (by omega)⟩
theorem cell_same {w W : World} (h : W.heap = w.heap) {a : Addr} {v : Value} (hc : w.cell? a = some v) : W.cell? a = some v := by
  have e : W.cell? a = w.cell? a := World.cell?_of_block (by rw [h])
  rw [e]; exact hc
set_option maxRecDepth 100000 in
set_option maxHeartbeats 2000000 in
theorem pushDo_walk (w w0 : World) (sb fa fj : Nat) (t : TypeId) (z : Value) (P : World → Prop) (hW : w.alloc (.cells #[.iface t z] 361) = w0)
    (HT : Hid (∀ W, SameH w0 W → Calls Tryz.prog 158 #[.pointer (some ⟨sb, 0, none⟩)] W fun e w' => e = .returned (.pointer (some ⟨fa, fj, none⟩)) ∧ SameH w0 w'))
    (HP : Hid (∀ W, SameH w0 W → Calls Tryz.prog 371 #[.pointer (some ⟨fa, fj, none⟩), .iface t z] W fun e w' => e = .returned (.tuple #[]) ∧ P w')) :
    Calls Tryz.prog 370 #[.agg #[.iface t z], .pointer (some ⟨sb, 0, none⟩)] w fun e w' => e = .returned (.tuple #[]) ∧ P w' := by
  have hbox : (w.alloc (.cells #[.iface t z] 361)).heap[w.heap.size]? = some (.cells #[.iface t z] 361 (0, 0)) := heap_first _ _ rfl _
  rw [hW] at hbox
  have HW := mkHid hW
  have c0 : w0.cell? ⟨w.heap.size, 0, none⟩ = some (.iface t z) := cell_of_block hbox rfl
  have HC0 := mkHid c0
  have hlt := lt_of_block hbox
  clear hW hbox
  go_enter Tryz.func370, Tryz.ntmps370
  go_wp2_with fail
  rw [HW.out]
  go_region_law (go_simp; first | (go_at_call 158; refine (HT.out _ (SameH.drew _)).mono ?_; rintro e w1 ⟨rfl, hs1⟩; have c1 := cell_same hs1.heap HC0.out; have hl1 : w.heap.size < w1.heap.size := by (rw [hs1.heap]; exact hlt)) | (go_at_call 371; refine (HP.out _ hs1).mono ?_; rintro e w2 ⟨rfl, hd2⟩))
  all_goals
    go_wp2_with fail
    go_end0
    exact ⟨rfl, hd2⟩
set_option maxRecDepth 100000 in
theorem pushDo_any (fp : Nat → Value) (F : Nat → Prop) (base : Nat) (w : World) (sb gf cap : Nat) (t0 tv outv s0 : Value) (fvs : List FVal) (below : List Hs.Frm) (f : Hs.Frm) (tape : List Int) (out : List (List UInt8)) (u : Value) (a : Hs.Val)
    (h : RunR fp F base w sb gf cap t0 tv outv s0 fvs ⟨below ++ [f], tape, out⟩) (hu : PV F w u a) (hca : Hs.cells a ≤ 200) (hops : f.ops.length ≤ 100000) (hbel : below.length ≤ 15) (hbase : base ≤ w.heap.size) :
    Calls Tryz.prog 370 #[.agg #[u], .pointer (some ⟨sb, 0, none⟩)] w fun e w' => e = .returned (.tuple #[]) ∧ Done fp F base sb t0 s0 (ownList sb gf outv fvs) w ⟨below ++ [f.push a], tape, out⟩ w' := by
  obtain ⟨t, z, rfl⟩ := hu.form
  have hb0 : Below w.heap.size w (w.alloc (.cells #[.iface t z] 361)) := (Below.refl _ _).alloc (Nat.le_refl _) _
  have hbox : (w.alloc (.cells #[.iface t z] 361)).heap[w.heap.size]? = some (.cells #[.iface t z] 361 (0, 0)) := heap_first _ _ rfl _
  have h0 := h.grow hb0 (fun _ h => h) (fun _ h => Or.inl h)
  have hu0 : PV F (w.alloc (.cells #[.iface t z] 361)) (.iface t z) a := hu.keep fun k hk => hb0.block k (h.apart k hk).1
  generalize hW : w.alloc (.cells #[.iface t z] 361) = w0 at *
  have HW := mkHid hW
  obtain ⟨fb, v, cur, rfl, hfl, hv, hblk, hcur, hcap, k0, k1, k2, k3, k4, k5⟩ := h0.top
  obtain ⟨⟨xs, hown, hxs⟩, hc200⟩ := hv.ops
  have hgv : v.ov.ownBlock ≠ some gf := fun e => by
    have := (List.nodup_cons.1 (List.nodup_cons.1 h0.nodup).2).1
    exact this (by simp [ownsAll, FVal.owns, e])
  have HT : Hid (∀ W, SameH w0 W → Calls Tryz.prog 158 #[.pointer (some ⟨sb, 0, none⟩)] W fun e w' => e = .returned (.pointer (some ⟨gf, fb.length * 6, none⟩)) ∧ SameH w0 w') := fun W hS => by
    refine (top_any sb gf fb.length cap W (cell_same hS.heap (cell_of_block hblk rfl)) (by omega)).mono ?_
    rintro e w' ⟨he, q, rfl⟩
    exact ⟨he, hS.trans (SameH.drewN _ _)⟩
  have HP : Hid (∀ W, SameH w0 W → Calls Tryz.prog 371 #[.pointer (some ⟨gf, fb.length * 6, none⟩), .iface t z] W fun e w' => e = .returned (.tuple #[]) ∧ Done fp F base sb t0 s0 (ownList sb gf outv (fb ++ [v])) w ⟨below ++ [f.push a], tape, out⟩ w') := fun W hS => by
    have hbW := hS.below
    have hR := h0.grow hbW (fun _ h => h) (fun _ h => Or.inl h)
    refine (fpush_any base gf (fb.length * 6) f.ops.length cur v.ov xs t z W (by rw [hS.heap]; exact hcur) k5 (ownsRow_keep hown fun k _ => by rw [hS.heap]) hgv (by rw [hS.heap]; exact Nat.le_trans hbase hb0.size) (by omega)).mono ?_
    rintro e w' ⟨he, ov', p1, p2, p3, p4⟩
    obtain ⟨q1, q2⟩ := hR.pushed (cur := cur) (by rw [hS.heap]; exact hcur) (hxs.keep fun k _ => by rw [hS.heap]) (hu0.keep fun k _ => by rw [hS.heap]) hca p1 p2 p3 p4
    have hk : Kept (ownList sb gf outv (fb ++ [v])) w w' := (Kept.of_below (own := ownList sb gf outv (fb ++ [v])) (hb0.trans (hbW.mono hb0.size))).trans q2 fun x hx => Or.inl hx
    refine ⟨he, hk, F, gf, cap, tv, outv, _, Ext.refl _ _, q1, fun k hk' => ?_⟩
    have hsz : W.heap.size = w0.heap.size := by rw [hS.heap]
    have h1 : ownList sb gf outv (fb ++ [{ v with ov := ov' }]) = (sb :: gf :: (outv.ownBlock.toList ++ ownsAll fb)) ++ ({ v with ov := ov' } : FVal).owns := by simp [ownList, ownsAll]
    have h2 : ownList sb gf outv (fb ++ [v]) = (sb :: gf :: (outv.ownBlock.toList ++ ownsAll fb)) ++ v.owns := by simp [ownList, ownsAll]
    rw [h1] at hk'
    rw [h2]
    rcases List.mem_append.1 hk' with h3 | h3
    · exact Or.inl (List.mem_append_left _ h3)
    · rcases List.mem_append.1 h3 with h3 | h3
      · exact Or.inl (List.mem_append_right _ (List.mem_append_left _ h3))
      · have h4 : ov'.ownBlock = some k := by simpa using h3
        rcases p3 k h4 with h5 | h5
        · exact Or.inl (List.mem_append_right _ (by simp [FVal.owns, h5]))
        · exact Or.inr (by have := hb0.size; omega)
  clear hown hxs hc200 hgv
  exact pushDo_walk w w0 sb gf (fb.length * 6) t z _ HW.out HT HP
end Go.Proofs.YtblbkfdhjfppkaaGreatDoor

/- Contracts of the program: an expression is worked out: more walks. -/
namespace Go.Proofs.YtblbkfdhjfppkaaGreatDoor
open Go.RowKit
set_option maxRecDepth 100000 in
set_option maxHeartbeats 2000000 in
theorem mEval_walk (w : World) (a q : Nat) (x1 x2 x3 : Option Addr) (n1 c1 n2 c2 n3 c3 : Nat) (t : TypeId) (z : Value) (P : Value → World → Prop) (A : Value → World → Prop) (B : Nat → Nat → World → Prop)
    (HF : Hid (Calls Tryz.prog 168 #[.agg #[.int .i64 a, .slice x1 n1 c1, .slice x2 n2 c2, .slice x3 n3 c3, .int .i64 q], .iface t z] (w.alloc (.cells #[.int .i64 a, .slice x1 n1 c1, .slice x2 n2 c2, .slice x3 n3 c3, .int .i64 q] 108)) fun e w' => ∃ p, e = .returned (.agg #[.pointer p, .int .i64 0, .int .i64 0, .pointer none, .slice none 0 0, .slice none 0 0]) ∧ A (.pointer p) w'))
    (HS : Hid (∀ p W, A (.pointer p) W → Calls Tryz.prog 169 #[.func (.func 170) #[.pointer (some ⟨W.heap.size + 1, 0, none⟩)] #[]] ((W.alloc (.cells #[.pointer p, .int .i64 0, .int .i64 0, .pointer none, .slice none 0 0, .slice none 0 0] 195)).alloc (.cells #[.int .i64 0, .slice (some ⟨W.heap.size, 0, none⟩) 1 1, .slice none 0 0, .slice none 0 0, .int .i64 0] 108)) fun e w' => ∃ s : Nat, e = .returned (.int .i64 s) ∧ B s W.heap.size w'))
    (HZ : Hid (∀ s gf W, s ≠ 0 → B s gf W → P (.tuple #[.string (bs []), .int .i64 s]) W))
    (HT : Hid (∀ gf W, B 0 gf W → Calls Tryz.prog 158 #[.pointer (some ⟨gf + 1, 0, none⟩)] W fun e w' => e = .returned (.pointer (some ⟨gf, 0, none⟩)) ∧ Calls Tryz.prog 171 #[.pointer (some ⟨gf, 0, none⟩)] w' fun e w2 => ∃ t z, e = .returned (.iface t z) ∧ Calls Tryz.prog 157 #[.iface t z] w2 fun e w3 => ∃ s, e = .returned (.string s) ∧ P (.tuple #[.string s, .int .i64 0]) w3)) :
    Calls Tryz.prog 117 #[.agg #[.int .i64 a, .slice x1 n1 c1, .slice x2 n2 c2, .slice x3 n3 c3, .int .i64 q], .iface t z] w fun e w' => ∃ v, e = .returned v ∧ P v w' := by
  have hmf := makeFv
  go_enter Tryz.func117, Tryz.ntmps117
  go_wp2_with fail
  refine HF.out.mono ?_
  rintro e w1 ⟨p, rfl, h1⟩
  have HSS := mkHid (HS.out _ _ h1)
  generalize hgf : w1.heap.size = gf at HSS
  clear h1 HF HS
  go_wp2_with fail
  refine HSS.out.mono ?_
  rintro e w2 ⟨s, rfl, h2⟩
  by_cases hs : s = 0
  · subst hs
    have HTT := mkHid (HT.out _ _ h2)
    clear h2 HSS HT HZ
    go_wp2_with fail
    refine HTT.out.mono ?_
    rintro e w3 ⟨rfl, h3⟩
    have H3 := mkHid h3
    clear h3 HTT
    go_wp2_with fail
    refine H3.out.mono ?_
    rintro e w4 ⟨t4, z4, rfl, h4⟩
    have H4 := mkHid h4
    clear h4 H3
    go_wp2_with fail
    refine H4.out.mono ?_
    rintro e w5 ⟨s5, rfl, h5⟩
    have H5 := mkHid h5
    clear h5 H4
    go_wp2_with fail
    go_ret2
    exact ⟨_, rfl, H5.out⟩
  · have H2 := mkHid (HZ.out _ _ _ hs h2)
    have hs' : ¬ (s : Int) = 0 := by omega
    clear h2 HSS HT HZ
    go_wp2_with fail
    go_ret2
    exact ⟨_, rfl, H2.out⟩
set_option maxRecDepth 100000 in
set_option maxHeartbeats 4000000 in
theorem answerAt_walk (w : World) (a q : Nat) (x1 x2 x3 : Option Addr) (n1 c1 n2 c2 n3 c3 : Nat) (t : TypeId) (z : Value) (R : Value → World → Prop) (A : Nat → Nat → World → Prop)
    (HF : Hid (∀ W, Below w.heap.size w W → W.heap[w.heap.size]? = some (.cells #[.int .i64 a, .slice x1 n1 c1, .slice x2 n2 c2, .slice x3 n3 c3, .int .i64 q] 108 (0, 0)) → W.heap[w.heap.size + 1]? = some (.cells #[.iface t z] 122 (0, 0)) → W.heap.size = w.heap.size + 4 → Calls Tryz.prog 42 #[.func (.func 114) #[] #[.pointer (some ⟨w.heap.size + 1, 0, none⟩), .pointer (some ⟨w.heap.size, 0, none⟩)]] W fun e w' => ∃ k l : Nat, e = .returned (.tuple #[.int .i64 k, .int .i64 l]) ∧ Below W.heap.size W w' ∧ A k l w'))
    (HN : Hid (∀ k l W W', k ≠ 0 → A k l W → Below w.heap.size W W' → R (.agg #[.string (bs []), .int .i64 0, .int .i64 k, .int .i64 l]) W'))
    (HE : Hid (∀ l W W', A 0 l W → Fr (w.heap.size + 3) W W' → Calls Tryz.prog 117 #[.agg #[.int .i64 a, .slice x1 n1 c1, .slice x2 n2 c2, .slice x3 n3 c3, .int .i64 q], .iface t z] W' fun e w' => ∃ (s : ByteArray) (st : Nat), e = .returned (.tuple #[.string s, .int .i64 st]) ∧ Below W'.heap.size W' w' ∧ ∀ w'', Below w.heap.size w' w'' → R (.agg #[.string s, .int .i64 st, .int .i64 0, .int .i64 l]) w'')) :
    Calls Tryz.prog 63 #[.agg #[.int .i64 a, .slice x1 n1 c1, .slice x2 n2 c2, .slice x3 n3 c3, .int .i64 q], .iface t z] w fun e w' => ∃ v, e = .returned v ∧ R v w' := by
  have hmf := makeFv
  obtain ⟨W0, hW0⟩ : ∃ W0, W0 = (((w.alloc (.cells #[.int .i64 a, .slice x1 n1 c1, .slice x2 n2 c2, .slice x3 n3 c3, .int .i64 q] 108)).alloc (.cells #[.iface t z] 122)).alloc (.cells #[.string ⟨#[]⟩, .int .i64 0, .int .i64 0, .int .i64 0] 126)).alloc (.cells #[.string ⟨#[]⟩, .int .i64 0, .int .i64 0, .int .i64 0] 126) := ⟨_, rfl⟩
  have hb0 : Below w.heap.size w W0 := by rw [hW0]; exact ((((Below.refl _ w).alloc (Nat.le_refl _) _).alloc (by simp) _).alloc (by simp; omega) _).alloc (by simp; omega) _
  have k0 : W0.heap[w.heap.size]? = some (.cells #[.int .i64 a, .slice x1 n1 c1, .slice x2 n2 c2, .slice x3 n3 c3, .int .i64 q] 108 (0, 0)) := by rw [hW0]; exact heap_later _ _ (by simp; omega) _ (heap_later _ _ (by simp; omega) _ (heap_later _ _ (by simp) _ (heap_first _ _ rfl _)))
  have k1 : W0.heap[w.heap.size + 1]? = some (.cells #[.iface t z] 122 (0, 0)) := by rw [hW0]; exact heap_later _ _ (by simp) _ (heap_later _ _ (by simp) _ (heap_first _ _ (by simp) _))
  have k2 : W0.heap[w.heap.size + 2]? = some (.cells #[.string ⟨#[]⟩, .int .i64 0, .int .i64 0, .int .i64 0] 126 (0, 0)) := by rw [hW0]; exact heap_later _ _ (by simp) _ (heap_first _ _ (by simp) _)
  have k3 : W0.heap[w.heap.size + 3]? = some (.cells #[.string ⟨#[]⟩, .int .i64 0, .int .i64 0, .int .i64 0] 126 (0, 0)) := by rw [hW0]; exact heap_first _ _ (by simp) _
  have hz : W0.heap.size = w.heap.size + 4 := by rw [hW0]; simp
  have HFF := mkHid (HF.out W0 hb0 k0 k1 hz)
  have HB0 := mkHid hb0
  have K0 := mkHid k0
  have K1 := mkHid k1
  have K2 := mkHid k2
  have K3 := mkHid k3
  have HZ := mkHid hz
  have HW := mkHid hW0
  clear hb0 k0 k1 k2 k3 hz hW0 HF
  go_enter Tryz.func63, Tryz.ntmps63
  go_wp2_with fail
  rw [show (((w.alloc (.cells #[.int .i64 a, .slice x1 n1 c1, .slice x2 n2 c2, .slice x3 n3 c3, .int .i64 q] 108)).alloc (.cells #[.iface t z] 122)).alloc (.cells #[.string ⟨#[]⟩, .int .i64 0, .int .i64 0, .int .i64 0] 126)).alloc (.cells #[.string ⟨#[]⟩, .int .i64 0, .int .i64 0, .int .i64 0] 126) = W0 from HW.out.symm]
  refine HFF.out.mono ?_
  rintro e w1 ⟨k, l, rfl, hb1, h1⟩
  have hz := HZ.out
  have q0 : w1.heap[w.heap.size]? = _ := (hb1.block _ (by omega)).trans K0.out
  have q1 : w1.heap[w.heap.size + 1]? = _ := (hb1.block _ (by omega)).trans K1.out
  have q2 : w1.heap[w.heap.size + 2]? = _ := (hb1.block _ (by omega)).trans K2.out
  have q3 : w1.heap[w.heap.size + 3]? = _ := (hb1.block _ (by omega)).trans K3.out
  have hl3 := lt_of_block q3
  have d0 : w1.cell? ⟨w.heap.size + 3, 0, none⟩ = some (.string ⟨#[]⟩) := cell_of_block q3 rfl
  have d1 : w1.cell? ⟨w.heap.size + 3, 1, none⟩ = some (.int .i64 0) := cell_of_block q3 rfl
  have d2 : w1.cell? ⟨w.heap.size + 3, 2, none⟩ = some (.int .i64 0) := cell_of_block q3 rfl
  have d3 : w1.cell? ⟨w.heap.size + 3, 3, none⟩ = some (.int .i64 0) := cell_of_block q3 rfl
  have f0 := frozen_of_block (i := 0) q3
  have f1 := frozen_of_block (i := 1) q3
  have f2 := frozen_of_block (i := 2) q3
  have f3 := frozen_of_block (i := 3) q3
  have e0 : w1.cell? ⟨w.heap.size + 2, 0, none⟩ = some (.string ⟨#[]⟩) := cell_of_block q2 rfl
  have e1 : w1.cell? ⟨w.heap.size + 2, 1, none⟩ = some (.int .i64 0) := cell_of_block q2 rfl
  have e2 : w1.cell? ⟨w.heap.size + 2, 2, none⟩ = some (.int .i64 0) := cell_of_block q2 rfl
  have e3 : w1.cell? ⟨w.heap.size + 2, 3, none⟩ = some (.int .i64 0) := cell_of_block q2 rfl
  have g0 := frozen_of_block (i := 0) q2
  have g1 := frozen_of_block (i := 1) q2
  have g2 := frozen_of_block (i := 2) q2
  have g3 := frozen_of_block (i := 3) q2
  have hl2 := lt_of_block q2
  have H2b : Hid (∀ u v : Value, ((w1.setCell ⟨w.heap.size + 1 + 1 + 1, 2, none⟩ u).setCell ⟨w.heap.size + 1 + 1 + 1, 3, none⟩ v).heap[w.heap.size + 1 + 1]? = some (.cells #[.string ⟨#[]⟩, .int .i64 0, .int .i64 0, .int .i64 0] 126 (0, 0))) := fun u v => by
    rw [Below.heap_setCell _ _ _ _ (by show w.heap.size + 1 + 1 ≠ w.heap.size + 1 + 1 + 1; omega), Below.heap_setCell _ _ _ _ (by show w.heap.size + 1 + 1 ≠ w.heap.size + 1 + 1 + 1; omega)]; exact q2
  by_cases hk : k = 0
  · subst hk
    have hfr : Fr (w.heap.size + 3) w1 ((w1.setCell ⟨w.heap.size + 1 + 1 + 1, 2, none⟩ (.int .i64 0)).setCell ⟨w.heap.size + 1 + 1 + 1, 3, none⟩ (.int .i64 l)) := ((Fr.refl _ _).setCell (p := ⟨w.heap.size + 1 + 1 + 1, 2, none⟩) (Or.inl rfl) _).setCell (p := ⟨w.heap.size + 1 + 1 + 1, 3, none⟩) (Or.inl rfl) _
    have HEE := mkHid (HE.out l w1 _ h1 hfr)
    have S3 := mkHid (heap_setCell_at (heap_setCell_at q3 (i := 2) (u := .int .i64 0)) (i := 3) (u := .int .i64 l))
    have HFR := mkHid hfr
    have i0 : w1.cell? ⟨w.heap.size, 0, none⟩ = some (.int .i64 a) := cell_of_block q0 rfl
    have i1 : w1.cell? ⟨w.heap.size, 1, none⟩ = some (.slice x1 n1 c1) := cell_of_block q0 rfl
    have i2 : w1.cell? ⟨w.heap.size, 2, none⟩ = some (.slice x2 n2 c2) := cell_of_block q0 rfl
    have i3 : w1.cell? ⟨w.heap.size, 3, none⟩ = some (.slice x3 n3 c3) := cell_of_block q0 rfl
    have i4 : w1.cell? ⟨w.heap.size, 4, none⟩ = some (.int .i64 q) := cell_of_block q0 rfl
    have i5 : w1.cell? ⟨w.heap.size + 1, 0, none⟩ = some (.iface t z) := cell_of_block q1 rfl
    have hl0 := lt_of_block q0
    have hl1 := lt_of_block q1
    clear q0 q1 q2 q3 h1 HFF HE HN HB0 K0 K1 K2 K3 HW HZ hfr hb1 e0 e1 e2 e3 g0 g1 g2 g3 f0 f1
    go_wp2_with fail
    refine HEE.out.mono ?_
    rintro e w2 ⟨s, st, rfl, hb2, h2⟩
    have hsz := HFR.out.size
    have t3 : w2.heap[w.heap.size + 1 + 1 + 1]? = _ := (hb2.block _ (by omega)).trans S3.out
    have t2 : w2.heap[w.heap.size + 1 + 1]? = _ := (hb2.block _ (by omega)).trans (H2b.out _ _)
    have b0 : w2.cell? ⟨w.heap.size + 1 + 1 + 1, 0, none⟩ = some (.string ⟨#[]⟩) := cell_of_block t3 rfl
    have b1 : w2.cell? ⟨w.heap.size + 1 + 1 + 1, 1, none⟩ = some (.int .i64 0) := cell_of_block t3 rfl
    have b2 : w2.cell? ⟨w.heap.size + 1 + 1 + 1, 2, none⟩ = some (.int .i64 0) := cell_of_block t3 rfl
    have b3 : w2.cell? ⟨w.heap.size + 1 + 1 + 1, 3, none⟩ = some (.int .i64 l) := cell_of_block t3 rfl
    have j0 := frozen_of_block (i := 0) t3
    have j1 := frozen_of_block (i := 1) t3
    have e0 : w2.cell? ⟨w.heap.size + 1 + 1, 0, none⟩ = some (.string ⟨#[]⟩) := cell_of_block t2 rfl
    have e1 : w2.cell? ⟨w.heap.size + 1 + 1, 1, none⟩ = some (.int .i64 0) := cell_of_block t2 rfl
    have e2 : w2.cell? ⟨w.heap.size + 1 + 1, 2, none⟩ = some (.int .i64 0) := cell_of_block t2 rfl
    have e3 : w2.cell? ⟨w.heap.size + 1 + 1, 3, none⟩ = some (.int .i64 0) := cell_of_block t2 rfl
    have g0 := frozen_of_block (i := 0) t2
    have g1 := frozen_of_block (i := 1) t2
    have g2 := frozen_of_block (i := 2) t2
    have g3 := frozen_of_block (i := 3) t2
    have m2 := lt_of_block t2
    have m3 := lt_of_block t3
    have H2 := mkHid h2
    have T2 : Hid (((w2.setCell ⟨w.heap.size + 1 + 1 + 1, 0, none⟩ (.string s)).setCell ⟨w.heap.size + 1 + 1 + 1, 1, none⟩ (.int .i64 st)).heap[w.heap.size + 1 + 1]? = some (.cells #[.string ⟨#[]⟩, .int .i64 0, .int .i64 0, .int .i64 0] 126 (0, 0))) := by
      show _ = _
      rw [Below.heap_setCell _ _ _ _ (by show w.heap.size + 1 + 1 ≠ w.heap.size + 1 + 1 + 1; omega), Below.heap_setCell _ _ _ _ (by show w.heap.size + 1 + 1 ≠ w.heap.size + 1 + 1 + 1; omega)]; exact t2
    clear h2 hb2 t2 t3 HEE HFR S3 H2b i0 i1 i2 i3 i4 i5 d0 d1 d2 d3 f2 f3
    go_wp2_with fail
    have s5 := heap_setCell_at (heap_setCell_at (heap_setCell_at (heap_setCell_at T2.out (i := 0) (u := .string s)) (i := 1) (u := .int .i64 st)) (i := 2) (u := .int .i64 0)) (i := 3) (u := .int .i64 l)
    refine bodyPost_ret (v := .agg #[.string s, .int .i64 st, .int .i64 0, .int .i64 l]) (by simp [results, Tryz.results63, go_sem, cell_of_block s5 (i := 0) rfl, cell_of_block s5 (i := 1) rfl, cell_of_block s5 (i := 2) rfl, cell_of_block s5 (i := 3) rfl]) rfl ⟨_, rfl, H2.out _ ?_⟩
    exact ((((((Below.refl _ _).setCell (by show _ ≤ w.heap.size + 1 + 1 + 1; omega) _).setCell (by show _ ≤ w.heap.size + 1 + 1 + 1; omega) _).setCell (by show _ ≤ w.heap.size + 1 + 1; omega) _).setCell (by show _ ≤ w.heap.size + 1 + 1; omega) _).setCell (by show _ ≤ w.heap.size + 1 + 1; omega) _).setCell (by show _ ≤ w.heap.size + 1 + 1; omega) _
  · have hk' : ¬ (k : Int) = 0 := by omega
    have H1 := mkHid fun W' => HN.out k l w1 W' hk h1
    clear q0 q1 q2 q3 h1 HFF HE HN HB0 K0 K1 K2 K3 HW HZ hb1
    go_wp2_with fail
    have s5 := heap_setCell_at (heap_setCell_at (heap_setCell_at (heap_setCell_at (H2b.out (.int .i64 k) (.int .i64 l)) (i := 0) (u := .string ⟨#[]⟩)) (i := 1) (u := .int .i64 0)) (i := 2) (u := .int .i64 k)) (i := 3) (u := .int .i64 l)
    refine bodyPost_ret (v := .agg #[.string ⟨#[]⟩, .int .i64 0, .int .i64 k, .int .i64 l]) (by simp [results, Tryz.results63, go_sem, cell_of_block s5 (i := 0) rfl, cell_of_block s5 (i := 1) rfl, cell_of_block s5 (i := 2) rfl, cell_of_block s5 (i := 3) rfl]) rfl ⟨_, rfl, H1.out _ ?_⟩
    exact ((((((Below.refl _ _).setCell (by show _ ≤ w.heap.size + 1 + 1 + 1; omega) _).setCell (by show _ ≤ w.heap.size + 1 + 1 + 1; omega) _).setCell (by show _ ≤ w.heap.size + 1 + 1; omega) _).setCell (by show _ ≤ w.heap.size + 1 + 1; omega) _).setCell (by show _ ≤ w.heap.size + 1 + 1; omega) _).setCell (by show _ ≤ w.heap.size + 1 + 1; omega) _
set_option maxRecDepth 100000 in
set_option maxHeartbeats 1000000 in
theorem answerAt1_walk (w : World) (p b : Nat) (a q : Nat) (x1 x2 x3 : Option Addr) (n1 c1 n2 c2 n3 c3 : Nat) (t : TypeId) (z : Value) (R : World → Prop)
    (hp : w.heap[p]? = some (.cells #[.iface t z] 122 (0, 0))) (hb : w.heap[b]? = some (.cells #[.int .i64 a, .slice x1 n1 c1, .slice x2 n2 c2, .slice x3 n3 c3, .int .i64 q] 108 (0, 0)))
    (HN : Hid (∀ W, SameH w W → Calls Tryz.prog 116 #[.agg #[.int .i64 a, .slice x1 n1 c1, .slice x2 n2 c2, .slice x3 n3 c3, .int .i64 q]] W fun e w' => ∃ x n c, e = .returned (.slice x n c) ∧ Below w.heap.size w w' ∧ Calls Tryz.prog 115 #[.iface t z, .slice x n c] w' fun e w'' => e = .returned (.tuple #[]) ∧ R w'')) :
    Calls Tryz.prog 114 #[.pointer (some ⟨p, 0, none⟩), .pointer (some ⟨b, 0, none⟩)] w fun e w' => e = .returned (.tuple #[]) ∧ R w' := by
  have c0 : w.cell? ⟨b, 0, none⟩ = some (.int .i64 a) := cell_of_block hb rfl
  have c1' : w.cell? ⟨b, 1, none⟩ = some (.slice x1 n1 c1) := cell_of_block hb rfl
  have c2' : w.cell? ⟨b, 2, none⟩ = some (.slice x2 n2 c2) := cell_of_block hb rfl
  have c3' : w.cell? ⟨b, 3, none⟩ = some (.slice x3 n3 c3) := cell_of_block hb rfl
  have c4' : w.cell? ⟨b, 4, none⟩ = some (.int .i64 q) := cell_of_block hb rfl
  have d0 : w.cell? ⟨p, 0, none⟩ = some (.iface t z) := cell_of_block hp rfl
  have hlb := lt_of_block hb
  have hlp := lt_of_block hp
  have HP := mkHid hp
  clear hb hp
  go_enter Tryz.func114, Tryz.ntmps114
  go_wp2_with fail
  go_region_law (go_simp; first | (go_at_call 116; refine (HN.out _ (SameH.drew _)).mono ?_; rintro e w1 ⟨x, n, c, rfl, hb1, h1⟩; have H1 := mkHid h1; have d1 : w1.cell? ⟨p, 0, none⟩ = some (.iface t z) := (cell_of_block ((hb1.block p hlp).trans HP.out) rfl); have hlp1 : p < w1.heap.size := Nat.lt_of_lt_of_le hlp hb1.size; clear h1 hb1) | (go_at_call 115; refine H1.out.mono ?_; rintro e w2 ⟨rfl, h2⟩))
  all_goals
    go_wp2_with fail
    go_end0
    exact ⟨rfl, h2⟩
set_option maxRecDepth 100000 in
set_option maxHeartbeats 2000000 in
theorem sEval_walk (w : World) (sb : Nat) (src : ByteArray) (a q : Nat) (x1 x2 x3 : Option Addr) (n1 c1 n2 c2 n3 c3 : Nat) (P : Value → World → Prop) (A : TypeId → Value → World → Prop)
    (HR : Hid (Calls Tryz.prog 62 #[.string src] w fun e w' => (∃ k l : Nat, k ≠ 0 ∧ e = .returned (.tuple #[.nilIface, .int .i64 k, .int .i64 l]) ∧ P (.tuple #[.string (bs []), .int .i64 0, .int .i64 k, .int .i64 l]) w') ∨ ∃ t z, e = .returned (.tuple #[.iface t z, .int .i64 0, .int .i64 0]) ∧ A t z w'))
    (HA : Hid (∀ t z W, A t z W → W.cell? ⟨sb, 0, none⟩ = some (.int .i64 a) ∧ W.cell? ⟨sb, 1, none⟩ = some (.slice x1 n1 c1) ∧ W.cell? ⟨sb, 2, none⟩ = some (.slice x2 n2 c2) ∧ W.cell? ⟨sb, 3, none⟩ = some (.slice x3 n3 c3) ∧ W.cell? ⟨sb, 4, none⟩ = some (.int .i64 q) ∧ sb < W.heap.size ∧
      Calls Tryz.prog 63 #[.agg #[.int .i64 a, .slice x1 n1 c1, .slice x2 n2 c2, .slice x3 n3 c3, .int .i64 q], .iface t z] W fun e w' => ∃ (s : ByteArray) (st k l : Nat), e = .returned (.agg #[.string s, .int .i64 st, .int .i64 k, .int .i64 l]) ∧ ∀ W', Below w'.heap.size w' W' → P (.tuple #[.string s, .int .i64 st, .int .i64 k, .int .i64 l]) W')) :
    Calls Tryz.prog 26 #[.pointer (some ⟨sb, 0, none⟩), .string src] w fun e w' => ∃ v, e = .returned v ∧ P v w' := by
  go_enter Tryz.func26, Tryz.ntmps26
  go_wp2_with fail
  refine HR.out.mono ?_
  rintro e w1 (⟨k, l, hk, rfl, h1⟩ | ⟨t, z, rfl, h1⟩)
  · have H1 := mkHid h1
    have hk' : ¬ (k : Int) = 0 := by omega
    clear h1 HR HA
    go_wp2_with fail
    refine bodyPost_ret (by simp [results, Tryz.results26, go_sem]; rfl) rfl ?_
    exact ⟨_, rfl, H1.out⟩
  · obtain ⟨i0, i1, i2, i3, i4, hl, h2⟩ := HA.out _ _ _ h1
    have H2 := mkHid h2
    clear h1 h2 HR HA
    go_wp2_with fail
    refine H2.out.mono ?_
    rintro e w2 ⟨s, st, k, l, rfl, h3⟩
    have H3 := mkHid h3
    clear h3 H2 i0 i1 i2 i3 i4
    go_wp2_with fail
    go_quiet (fail)
    go_wp2_with fail
    refine bodyPost_ret (by simp [results, Tryz.results26, go_sem]; rfl) rfl ?_
    exact ⟨_, rfl, H3.out _ (((Below.refl _ _).alloc (Nat.le_refl _) _).trans ((SameH.drewN _ _).below.mono (by simp)))⟩
end Go.Proofs.YtblbkfdhjfppkaaGreatDoor

/- The machine in memory while an instruction is being done. -/
namespace Go.Proofs.YtblbkfdhjfppkaaGreatDoor
open Go.RowKit
theorem RowP.split {F : Nat → Prop} {w : World} {xs : List Value} {l m : List Hs.Val} (h : RowP F w xs (l ++ m)) : ∃ ys zs, xs = ys ++ zs ∧ ys.length = l.length ∧ zs.length = m.length ∧ RowP F w ys l ∧ RowP F w zs m := by
  obtain ⟨h1, h2⟩ := h
  rw [List.length_append] at h1
  refine ⟨xs.take l.length, xs.drop l.length, (List.take_append_drop _ _).symm, by simp; omega, by simp; omega, ⟨by simp; omega, fun i hi => ?_⟩, ⟨by simp; omega, fun i hi => ?_⟩⟩
  · obtain ⟨u, e1, e2⟩ := h2 i (by simp; omega)
    rw [List.getElem_append_left hi] at e2
    exact ⟨u, by rw [List.getElem?_take, if_pos hi]; exact e1, e2⟩
  · obtain ⟨u, e1, e2⟩ := h2 (l.length + i) (by simp; omega)
    rw [List.getElem_append_right (by omega)] at e2
    simp only [Nat.add_sub_cancel_left] at e2
    exact ⟨u, by rw [List.getElem?_drop]; exact e1, e2⟩
theorem RowP.unsnoc {F : Nat → Prop} {w : World} {xs : List Value} {l : List Hs.Val} {a : Hs.Val} (h : RowP F w xs (l ++ [a])) : ∃ ys u, xs = ys ++ [u] ∧ ys.length = l.length ∧ RowP F w ys l ∧ PV F w u a := by
  obtain ⟨ys, zs, e, h1, h2, h3, h4⟩ := h.split
  match zs, h2 with
  | [u], _ =>
    obtain ⟨u', e1, e2⟩ := h4.2 0 (by simp)
    simp at e1 e2
    subst e1
    exact ⟨ys, u, e, h1, h3, e2⟩
theorem RunR.setTop {fp : Nat → Value} {F : Nat → Prop} {base : Nat} {w : World} {sb gf cap : Nat} {t0 tv outv s0 : Value} {fb : List FVal} {v v' : FVal} {below : List Hs.Frm} {f f' : Hs.Frm} {tape : List Int} {out : List (List UInt8)} {j : Nat} {x : Value}
    (h : RunR fp F base w sb gf cap t0 tv outv s0 (fb ++ [v]) ⟨below ++ [f], tape, out⟩) (hj : j < 6) (hv' : v'.cells = v.cells.set j x) (ho : v'.owns = v.owns) (hfr : FrR fp F base w v' f') :
    RunR fp F base (w.setCell ⟨gf, fb.length * 6 + j, none⟩ x) sb gf cap t0 tv outv s0 (fb ++ [v']) ⟨below ++ [f'], tape, out⟩ ∧ Kept (ownList sb gf outv (fb ++ [v])) w (w.setCell ⟨gf, fb.length * 6 + j, none⟩ x) := by
  have hrow := h.row
  rw [show (fb ++ [v]).length = fb.length + 1 by simp] at hrow
  obtain ⟨cur, c1, _, c3⟩ := row_last (j := j) (x := x) hrow hj
  have hvm : ∀ k ∈ v.owns, k ∈ ownList sb gf outv (fb ++ [v]) := fun k hk => by simp [ownList, ownsAll, hk]
  have hgv : gf ∉ v.owns := fun hm => by
    have := (List.nodup_cons.1 (List.nodup_cons.1 h.nodup).2).1
    exact this (by simp [ownsAll, hm])
  have hnv : v.owns.Nodup := by
    have h1 := h.nodup
    have : ownList sb gf outv (fb ++ [v]) = (sb :: gf :: (outv.ownBlock.toList ++ ownsAll fb)) ++ v.owns := by simp [ownList, ownsAll]
    rw [this] at h1
    exact (List.nodup_append.1 h1).2.1
  have hk : ∀ k, k ≠ gf → (w.setCell ⟨gf, fb.length * 6 + j, none⟩ x).heap[k]? = w.heap[k]? := fun k hk => Below.heap_setCell _ _ _ _ hk
  have hFk : ∀ b, F b → (w.setCell ⟨gf, fb.length * 6 + j, none⟩ x).heap[b]? = w.heap[b]? := fun b hb => hk b fun e => (h.apart b hb).2 (by simp [ownList, e])
  refine ⟨h.step (G := F) (by simp) (fun k _ h2 _ => hk k h2) (c3 _ (heap_setCell_at c1) _ hv') (hfr.keep hFk (fun _ h => h) fun k hm => hk k fun e => hgv (by rw [← ho, ← e]; exact hm)) (fun k hm => ?_) (by rw [ho]; exact hnv) (fun _ h => h) (fun _ h => Or.inl h), ⟨rfl, rfl, rfl, by simp, fun k _ hn => hk k fun e => hn (by simp [ownList, e])⟩⟩
  rw [ho] at hm
  exact ⟨Nat.lt_of_lt_of_le (h.lt k (hvm k hm)) (by simp), Or.inl hm⟩
def Mid (fp : Nat → Value) (base sb gf n : Nat) (t0 s0 : Value) (own : List Nat) (w0 : World) (G : Nat → Prop) (m : Hs.Mst) (w : World) : Prop :=
  Kept own w0 w ∧ base ≤ w.heap.size ∧ ∃ cap tv outv fvs, fvs.length = n + 1 ∧ RunR fp G base w sb gf cap t0 tv outv s0 fvs m ∧ ∀ k ∈ ownList sb gf outv fvs, k ∈ own ∨ w0.heap.size ≤ k
section
variable {fp : Nat → Value} {base sb gf n : Nat} {t0 s0 : Value} {own : List Nat} {w0 w w' : World} {G G' : Nat → Prop} {m : Hs.Mst} {below : List Hs.Frm} {f f' : Hs.Frm} {tape : List Int} {out : List (List UInt8)}
theorem Mid.init {cap : Nat} {tv outv : Value} {fvs : List FVal} (h : RunR fp G base w sb gf cap t0 tv outv s0 fvs m) (hn : fvs.length = n + 1) (hb : base ≤ w.heap.size) (ob : Obj) : Mid fp base sb gf n t0 s0 (ownList sb gf outv fvs) (w.alloc ob) G m (w.alloc ob) :=
  ⟨Kept.refl _ _, Nat.le_trans hb (by simp), cap, tv, outv, fvs, hn, h.grow ((Below.refl _ _).alloc (Nat.le_refl _) _) (fun _ h => h) (fun _ h => Or.inl h), fun _ h => Or.inl h⟩
theorem Mid.same (h : Mid fp base sb gf n t0 s0 own w0 G m w) (hs : SameH w w') : Mid fp base sb gf n t0 s0 own w0 G m w' := by
  obtain ⟨h1, h2, cap, tv, outv, fvs, h3, h4, h5⟩ := h
  exact ⟨h1.trans (Kept.of_below (own := []) hs.below) (fun x hx => by simp at hx), by rw [hs.heap]; exact h2, cap, tv, outv, fvs, h3, h4.grow hs.below (fun _ h => h) (fun _ h => Or.inl h), h5⟩
theorem Mid.grow (h : Mid fp base sb gf n t0 s0 own w0 G m w) (hb : Below w.heap.size w w') (hF : ∀ k, G k → G' k) (hG : ∀ k, G' k → G k ∨ (w.heap.size ≤ k ∧ k < w'.heap.size)) : Mid fp base sb gf n t0 s0 own w0 G' m w' := by
  obtain ⟨h1, h2, cap, tv, outv, fvs, h3, h4, h5⟩ := h
  exact ⟨h1.trans (Kept.of_below (own := []) hb) (fun x hx => by simp at hx), Nat.le_trans h2 hb.size, cap, tv, outv, fvs, h3, h4.grow hb hF hG, h5⟩
theorem Mid.old (h : Mid fp base sb gf n t0 s0 own w0 G m w) {k : Nat} (hk : k < w0.heap.size) (ho : k ∉ own) : w.heap[k]? = w0.heap[k]? := h.1.block k hk ho
theorem Mid.done {F : Nat → Prop} {ob : Obj} (h : Mid fp base sb gf n t0 s0 own (w.alloc ob) G m w') (hF : Ext F G w.heap.size) : Done fp F base sb t0 s0 own w m w' := by
  obtain ⟨h1, h2, cap, tv, outv, fvs, h3, h4, h5⟩ := h
  exact ⟨(Kept.of_below (own := own) ((Below.refl _ w).alloc (Nat.le_refl _) ob)).trans h1 (fun x hx => Or.inl hx), G, gf, cap, tv, outv, fvs, hF, h4, fun k hk => by
    rcases h5 k hk with h | h
    · exact Or.inl h
    · exact Or.inr (Nat.le_trans (by simp) h)⟩
theorem Mid.top (h : Mid fp base sb gf n t0 s0 own w0 G m w) (hn : n ≤ 15) : Calls Tryz.prog 158 #[.pointer (some ⟨sb, 0, none⟩)] w fun e w' => e = .returned (.pointer (some ⟨gf, n * 6, none⟩)) ∧ SameH w w' := by
  obtain ⟨h1, h2, cap, tv, outv, fvs, h3, h4, h5⟩ := h
  have := h4.blk
  rw [h3] at this
  refine (top_any sb gf n cap w (cell_of_block this rfl) (by omega)).mono ?_
  rintro e w' ⟨he, q, rfl⟩
  exact ⟨he, SameH.drewN _ _⟩
theorem Mid.push (h : Mid fp base sb gf n t0 s0 own w0 G ⟨below ++ [f], tape, out⟩ w) {t : TypeId} {z : Value} {a : Hs.Val} (hu : PV G w (.iface t z) a) (hca : Hs.cells a ≤ 200) (hops : f.ops.length ≤ 100000) : Calls Tryz.prog 371 #[.pointer (some ⟨gf, n * 6, none⟩), .iface t z] w fun e w' => e = .returned (.tuple #[]) ∧ Mid fp base sb gf n t0 s0 own w0 G ⟨below ++ [f.push a], tape, out⟩ w' := by
  obtain ⟨h1, h2, cap, tv, outv, fvs, h3, h4, h5⟩ := h
  obtain ⟨fb, v, cur, rfl, hfl, hv, hblk, hcur, hcap, k0, k1, k2, k3, k4, k5⟩ := h4.top
  have hfn : fb.length = n := by simpa using h3
  subst hfn
  obtain ⟨⟨xs, hown, hxs⟩, hc200⟩ := hv.ops
  have hgv : v.ov.ownBlock ≠ some gf := fun e => by
    have := (List.nodup_cons.1 (List.nodup_cons.1 h4.nodup).2).1
    exact this (by simp [ownsAll, FVal.owns, e])
  refine (fpush_any base gf (fb.length * 6) f.ops.length cur v.ov xs t z w hcur k5 hown hgv h2 (by omega)).mono ?_
  rintro e w' ⟨he, ov', p1, p2, p3, p4⟩
  obtain ⟨q1, q2⟩ := h4.pushed (cur := cur) hcur hxs hu hca p1 p2 p3 p4
  refine ⟨he, h1.trans q2 h5, Nat.le_trans h2 q2.size, cap, tv, outv, _, by simp, q1, fun k hk' => ?_⟩
  have e1 : ownList sb gf outv (fb ++ [{ v with ov := ov' }]) = (sb :: gf :: (outv.ownBlock.toList ++ ownsAll fb)) ++ ({ v with ov := ov' } : FVal).owns := by simp [ownList, ownsAll]
  have e2 : ownList sb gf outv (fb ++ [v]) = (sb :: gf :: (outv.ownBlock.toList ++ ownsAll fb)) ++ v.owns := by simp [ownList, ownsAll]
  rw [e1] at hk'
  rw [e2] at h5
  rcases List.mem_append.1 hk' with h3 | h3
  · exact h5 k (List.mem_append_left _ h3)
  · rcases List.mem_append.1 h3 with h3 | h3
    · exact h5 k (List.mem_append_right _ (List.mem_append_left _ h3))
    · have h4 : ov'.ownBlock = some k := by simpa using h3
      rcases p3 k h4 with h6 | h6
      · exact h5 k (List.mem_append_right _ (by simp [FVal.owns, h6]))
      · exact Or.inr (Nat.le_trans h1.size h6)
theorem Mid.popK (h : Mid fp base sb gf n t0 s0 own w0 G ⟨below ++ [f], tape, out⟩ w) {vs : List Hs.Val} {a : Hs.Val} (hf : f.ops = vs ++ [a]) (hops : f.ops.length ≤ 100000) : Calls Tryz.prog 171 #[.pointer (some ⟨gf, n * 6, none⟩)] w fun e w' => ∃ t z, e = .returned (.iface t z) ∧ PV G w' (.iface t z) a ∧ Hs.cells a ≤ 200 ∧ Mid fp base sb gf n t0 s0 own w0 G ⟨below ++ [f.pop], tape, out⟩ w' ∧ ∀ k, G k → w'.heap[k]? = w.heap[k]? := by
  obtain ⟨h1, h2, cap, tv, outv, fvs, h3, h4, h5⟩ := h
  obtain ⟨fb, v, cur, rfl, hfl, hv, hblk, hcur, hcap, k0, k1, k2, k3, k4, k5⟩ := h4.top
  have hfn : fb.length = n := by simpa using h3
  subst hfn
  obtain ⟨⟨xs, hown, hxs⟩, hc200⟩ := hv.ops
  rw [hf] at hown hxs hc200 hops
  obtain ⟨xs', u, rfl, hl, hxs', hu⟩ := RowP.unsnoc hxs
  obtain ⟨t, z, rfl⟩ := hu.form
  rw [List.length_append] at hown hops
  refine (fpop_any base gf (fb.length * 6) vs.length cur v.ov xs' _ w hcur k5 hown hl ⟨t, z, rfl⟩ (by omega)).mono ?_
  rintro e w' ⟨rfl, ov', rfl, p2, p3⟩
  have hpop : f.pop.ops = vs := by simp [Hs.Frm.pop, hf]
  have hfr : FrR fp G base w { v with ov := ov' } f.pop := ⟨hv.fn, hv.nx, hv.ln, hv.sp, hv.vars, ⟨xs', by rw [hpop]; exact p2, by rw [hpop]; exact hxs'⟩, fun b hb => hc200 b (List.mem_append_left _ (by rw [hpop] at hb; exact hb))⟩
  obtain ⟨q1, q2⟩ := h4.setTop (j := 5) (x := ov') (v' := { v with ov := ov' }) (by omega) rfl (by simp [FVal.owns, p3]) hfr
  have hgf : ∀ k, G k → (w.setCell ⟨gf, fb.length * 6 + 5, none⟩ ov').heap[k]? = w.heap[k]? := fun k hk => Below.heap_setCell _ _ _ _ fun e => (h4.apart k hk).2 (by simp [ownList, e])
  refine ⟨t, z, rfl, hu.keep hgf, hc200 a (by simp), ⟨h1.trans q2 h5, Nat.le_trans h2 q2.size, cap, tv, outv, _, by simp, q1, ?_⟩, hgf⟩
  rw [show ownList sb gf outv (fb ++ [{ v with ov := ov' }]) = ownList sb gf outv (fb ++ [v]) by simp [ownList, ownsAll, FVal.owns, p3]]
  exact h5
theorem Mid.pop (h : Mid fp base sb gf n t0 s0 own w0 G ⟨below ++ [f], tape, out⟩ w) {vs : List Hs.Val} {a : Hs.Val} (hf : f.ops = vs ++ [a]) (hops : f.ops.length ≤ 100000) : Calls Tryz.prog 171 #[.pointer (some ⟨gf, n * 6, none⟩)] w fun e w' => ∃ t z, e = .returned (.iface t z) ∧ PV G w' (.iface t z) a ∧ Hs.cells a ≤ 200 ∧ Mid fp base sb gf n t0 s0 own w0 G ⟨below ++ [f.pop], tape, out⟩ w' := by
  refine (h.popK hf hops).mono ?_
  rintro e w' ⟨t, z, h1, h2, h3, h4, _⟩
  exact ⟨t, z, h1, h2, h3, h4⟩
end
end Go.Proofs.YtblbkfdhjfppkaaGreatDoor

/- Contracts of the program: instructions that are done within the last frame (1): the walks. -/
namespace Go.Proofs.YtblbkfdhjfppkaaGreatDoor
open Go.RowKit
def EndE (k : Nat) (e : Ending) : Prop := (k = 0 ∧ e = .returned (.tuple #[])) ∨ (k ≠ 0 ∧ e = stopE k)
theorem lt_same {w W : World} (h : W.heap = w.heap) {k : Nat} (hk : k < w.heap.size) : k < W.heap.size := by rw [h]; exact hk
end Go.Proofs.YtblbkfdhjfppkaaGreatDoor
