/- Contracts of the program: the scanner's tokens. -/
import Derived.Test.YtblbkfdhjfppkaaGreatDoorPart05
import Derived.Test.YtblbkfdhjfppkaaGreatDoorProg
import Derived.WalkKit
namespace Go.Proofs.YtblbkfdhjfppkaaGreatDoor
open Go.RowKit
theorem Fr.keepS {pb b : Nat} {w w' : World} {o : Obj} (hf : Fr pb w w') (h : w.heap[b]? = some o) (hn : b ≠ pb) : w'.heap[b]? = some o := by
  rw [hf.block b (lt_of_block h) hn]; exact h
def TokR (sb : Nat) (src : ByteArray) (n L : Nat) (w : World) (r : Hs.Raw) (e : Ending) (w' : World) : Prop :=
  Fr sb w w' ∧ ((r.ok = true ∧ e = .returned (ptokV ⟨r.sort, r.text, L⟩) ∧ SC sb src (n + r.size) L w') ∨ (r.ok = false ∧ e = faultE 3 L))
theorem tok_end {sb b m L : Nat} {src : ByteArray} {w wc : World} (hf : Fr sb w wc) (hs : SC sb src m L wc) (hb : w.heap.size ≤ b) (hn : b ≠ sb) (v0 v1 v2 v3 : Value) :
    Fr sb w ((((wc.setCell ⟨b, 0, none⟩ v0).setCell ⟨b, 1, none⟩ v1).setCell ⟨b, 2, none⟩ v2).setCell ⟨b, 3, none⟩ v3) ∧ SC sb src m L ((((wc.setCell ⟨b, 0, none⟩ v0).setCell ⟨b, 1, none⟩ v1).setCell ⟨b, 2, none⟩ v2).setCell ⟨b, 3, none⟩ v3) := by
  refine ⟨(((hf.setCell (Or.inr hb) _).setCell (Or.inr hb) _).setCell (Or.inr hb) _).setCell (Or.inr hb) _, ?_⟩
  unfold SC
  rw [Below.heap_setCell _ _ _ _ (by show sb ≠ b; omega), Below.heap_setCell _ _ _ _ (by show sb ≠ b; omega), Below.heap_setCell _ _ _ _ (by show sb ≠ b; omega), Below.heap_setCell _ _ _ _ (by show sb ≠ b; omega)]
  exact hs
theorem rest_data (src : ByteArray) (n : Nat) : (src.extract n src.size).size = src.size - n := by simp
set_option maxRecDepth 100000 in
set_option maxHeartbeats 2000000 in
theorem tname_any (sb : Nat) (src : ByteArray) (n L : Nat) (w : World) (h : SC sb src n L w) (hs : src.size ≤ 2000000000) (hn : n ≤ src.size) :
    Calls Tryz.prog 251 #[.pointer (some ⟨sb, 0, none⟩)] w (TokR sb src n L w (Hs.wordL (src.data.toList.drop n) true)) := by
  obtain ⟨sp, hsp⟩ : ∃ sp, sp = Hs.spanL (Hs.wordP true) (src.data.toList.drop n) := ⟨_, rfl⟩
  have hle : sp ≤ src.size - n := by
    have := Hs.spanL_le (Hs.wordP true) (src.data.toList.drop n)
    rw [hsp]; simpa using this
  have hsb := (SC.cells h).1
  have hrb : w.heap.size ≠ sb := by omega
  have HZ : Hid ((w.alloc (.cells #[.int .i64 0, .string ⟨#[]⟩, .int .i64 0, .int .i64 0] 206)).heap[w.heap.size]? = some (.cells #[.int .i64 0, .string ⟨#[]⟩, .int .i64 0, .int .i64 0] 206 (0, 0))) := heap_first _ _ rfl _
  have h1 : SC sb src n L (w.alloc (.cells #[.int .i64 0, .string ⟨#[]⟩, .int .i64 0, .int .i64 0] 206)) := by unfold SC; rw [Below.heap_alloc _ _ _ hsb]; exact h
  obtain ⟨h0, c0, c1, c2, f1, f2⟩ := h1.cells
  have HZD : Hid ((w.alloc (.cells #[.int .i64 0, .string ⟨#[]⟩, .int .i64 0, .int .i64 0] 206)).drew.heap[w.heap.size]? = some (.cells #[.int .i64 0, .string ⟨#[]⟩, .int .i64 0, .int .i64 0] 206 (0, 0))) := HZ.out
  have HSP := mkHid (fun w => span_any (Hs.wordP true) 297 (fun _ _ => rfl) pword_any (src.extract n src.size) w (by rw [rest_data]; omega))
  rw [ext_data, ← hsp] at HSP
  have HTK := mkHid (take_any sb src n L sp (w.alloc (.cells #[.int .i64 0, .string ⟨#[]⟩, .int .i64 0, .int .i64 0] 206)).drew h1 hs (by omega))
  have HKW := mkHid (keyword_any ((src.data.toList.drop n).take sp))
  obtain ⟨tx, htx⟩ : ∃ tx, tx = (src.data.toList.drop n).take sp := ⟨_, rfl⟩
  rw [← htx] at HTK HKW
  have hlen : (bs tx).size = sp := by rw [bs_size, htx, List.length_take]; simp; omega
  have HW : Hid (Hs.wordL (src.data.toList.drop n) true = { sort := if Hs.kwords.contains tx then 107 else 110, text := tx, size := sp, ok := decide (sp ≤ 16) }) := by
    show _ = _
    unfold Hs.wordL
    rw [← hsp, ← htx]; rfl
  rw [HW.out]
  have H1 := mkHid h1
  have HF0 : Hid (Fr sb w (w.alloc (.cells #[.int .i64 0, .string ⟨#[]⟩, .int .i64 0, .int .i64 0] 206))) := (Fr.refl _ _).alloc _
  clear h h1 hsp htx HW
  obtain ⟨kw, hkw⟩ : ∃ kw, kw = Hs.kwords.contains tx := ⟨_, rfl⟩
  rw [← hkw] at HKW ⊢
  clear hkw
  obtain ⟨so, hso⟩ : ∃ so, so = (if kw then 107 else 110) := ⟨_, rfl⟩
  rw [show (if kw = true then 107 else 110) = so from hso.symm]
  have HSO := mkHid hso
  clear hso
  obtain ⟨rr, hrr⟩ : ∃ rr : Hs.Raw, rr = { sort := so, text := tx, size := sp, ok := decide (sp ≤ 16) } := ⟨_, rfl⟩
  rw [← hrr]
  have HRR := mkHid hrr
  clear hrr
  go_enter Tryz.func251, Tryz.ntmps251
  go_wp2_with fail
  go_cut [3] (fun v wc => v = .string (bs tx) ∧ SC sb src (n + sp) L wc ∧ Fr sb w wc ∧ wc.heap[w.heap.size]? = some (.cells #[.int .i64 0, .string ⟨#[]⟩, .int .i64 0, .int .i64 0] 206 (0, 0)))
  case first =>
    go_region_law (first | (go_simp; go_at_call 248; refine (HSP.out _).mono ?_; rintro e w1 ⟨rfl, hw⟩; obtain rfl := hw.symm) | (go_simp; go_at_call 296; refine HTK.out.mono ?_; rintro e w2 ⟨rfl, hs2, hf2⟩; have HS2 := mkHid hs2; have HF2 := mkHid (HF0.out.drew.trans hf2); have HZ2 := mkHid (hf2.keepS HZD.out hrb); clear hs2 hf2))
    all_goals
      go_wp2_with fail
      go_meet
      case rel => exact ⟨rfl, HS2.out, HF2.out, HZ2.out⟩
  case rest =>
    obtain ⟨rfl, hs2, hf2, hz2⟩ := hcut
    clear c0 c1 c2 f1 f2 h0
    obtain ⟨h0, c0, c1, c2, f1, f2⟩ := hs2.cells
    have HS2 := mkHid hs2
    have HF2 := mkHid hf2
    have HZ2 := mkHid hz2
    have z0 := cell_of_block hz2 (i := 0) rfl
    have z1 := cell_of_block hz2 (i := 1) rfl
    have z2 := cell_of_block hz2 (i := 2) rfl
    have z3 := cell_of_block hz2 (i := 3) rfl
    have y0 := frozen_of_block (i := 0) hz2
    have y1 := frozen_of_block (i := 1) hz2
    have y2 := frozen_of_block (i := 2) hz2
    have y3 := frozen_of_block (i := 3) hz2
    have hzz := lt_of_block hz2
    clear hs2 hf2 hz2 HTK HSP HZ
    by_cases h16 : sp ≤ 16
    · cases kw
      all_goals
        have hso := HSO.out
        clear HSO
        subst hso
        have hrr := HRR.out
        clear HRR
        subst hrr
        go_wp2_with fail
        refine (HKW.out _).mono ?_
        rintro e w3 ⟨rfl, hw⟩
        obtain rfl := hw.symm
        go_wp2_with fail
        first
          | (refine bodyPost_ret (v := .agg #[.int .i64 1, .string (bs tx), .int .i64 0, .int .i64 L]) (by simp [results, Tryz.results251, go_sem, z0, z1, z2, z3]) rfl ?_
             have hfin := tok_end HF2.out HS2.out (Nat.le_refl _) hrb (.int .i64 1) (.string (bs tx)) (.int .i64 0) (.int .i64 L)
             exact ⟨hfin.1, Or.inl ⟨by first | rfl | exact decide_eq_true h16, rfl, hfin.2⟩⟩)
          | (refine bodyPost_ret (v := .agg #[.int .i64 0, .string (bs tx), .int .i64 0, .int .i64 L]) (by simp [results, Tryz.results251, go_sem, z0, z1, z2, z3]) rfl ?_
             have hfin := tok_end HF2.out HS2.out (Nat.le_refl _) hrb (.int .i64 0) (.string (bs tx)) (.int .i64 0) (.int .i64 L)
             exact ⟨hfin.1, Or.inl ⟨by first | rfl | exact decide_eq_true h16, rfl, hfin.2⟩⟩)
    · have hrr := HRR.out
      clear HRR
      subst hrr
      have HFL := mkHid (sfail_any sb src (n + sp) L wc HS2.out)
      go_wp2_with fail
      refine HFL.out.mono ?_
      rintro e w3 ⟨rfl, hw⟩
      obtain rfl := hw.symm
      go_wp2_with fail
      exact ⟨rfl, HF2.out, Or.inr ⟨by first | rfl | exact decide_eq_false h16, rfl⟩⟩
end Go.Proofs.YtblbkfdhjfppkaaGreatDoor

/- Contracts of the program: which sort a node is of. -/
namespace Go.Proofs.YtblbkfdhjfppkaaGreatDoor
open Go.RowKit
theorem ta_Declare_Declare (v : Value) (w : World) : (Instr.typeAssert (.iface 329 v) 122 329 true).run Tryz.prog w = .ok (.tuple #[v, .bool true]) w := by kernel_rfl
theorem ta_Assign_Declare (v : Value) (w : World) : (Instr.typeAssert (.iface 332 v) 122 329 true).run Tryz.prog w = .ok (.tuple #[.agg #[.int .i64 0, .int .i64 0, .string ⟨#[]⟩, .nilIface], .bool false]) w := by kernel_rfl
theorem ta_Assign_Assign (v : Value) (w : World) : (Instr.typeAssert (.iface 332 v) 122 332 true).run Tryz.prog w = .ok (.tuple #[v, .bool true]) w := by kernel_rfl
theorem ta_If_Declare (v : Value) (w : World) : (Instr.typeAssert (.iface 334 v) 122 329 true).run Tryz.prog w = .ok (.tuple #[.agg #[.int .i64 0, .int .i64 0, .string ⟨#[]⟩, .nilIface], .bool false]) w := by kernel_rfl
theorem ta_If_Assign (v : Value) (w : World) : (Instr.typeAssert (.iface 334 v) 122 332 true).run Tryz.prog w = .ok (.tuple #[.agg #[.int .i64 0, .string ⟨#[]⟩, .slice none 0 0, .nilIface], .bool false]) w := by kernel_rfl
theorem ta_If_If (v : Value) (w : World) : (Instr.typeAssert (.iface 334 v) 122 334 true).run Tryz.prog w = .ok (.tuple #[v, .bool true]) w := by kernel_rfl
theorem ta_While_Declare (v : Value) (w : World) : (Instr.typeAssert (.iface 336 v) 122 329 true).run Tryz.prog w = .ok (.tuple #[.agg #[.int .i64 0, .int .i64 0, .string ⟨#[]⟩, .nilIface], .bool false]) w := by kernel_rfl
theorem ta_While_Assign (v : Value) (w : World) : (Instr.typeAssert (.iface 336 v) 122 332 true).run Tryz.prog w = .ok (.tuple #[.agg #[.int .i64 0, .string ⟨#[]⟩, .slice none 0 0, .nilIface], .bool false]) w := by kernel_rfl
theorem ta_While_If (v : Value) (w : World) : (Instr.typeAssert (.iface 336 v) 122 334 true).run Tryz.prog w = .ok (.tuple #[.agg #[.int .i64 0, .nilIface, .slice none 0 0, .slice none 0 0], .bool false]) w := by kernel_rfl
theorem ta_While_While (v : Value) (w : World) : (Instr.typeAssert (.iface 336 v) 122 336 true).run Tryz.prog w = .ok (.tuple #[v, .bool true]) w := by kernel_rfl
theorem ta_Return_Declare (v : Value) (w : World) : (Instr.typeAssert (.iface 338 v) 122 329 true).run Tryz.prog w = .ok (.tuple #[.agg #[.int .i64 0, .int .i64 0, .string ⟨#[]⟩, .nilIface], .bool false]) w := by kernel_rfl
theorem ta_Return_Assign (v : Value) (w : World) : (Instr.typeAssert (.iface 338 v) 122 332 true).run Tryz.prog w = .ok (.tuple #[.agg #[.int .i64 0, .string ⟨#[]⟩, .slice none 0 0, .nilIface], .bool false]) w := by kernel_rfl
theorem ta_Return_If (v : Value) (w : World) : (Instr.typeAssert (.iface 338 v) 122 334 true).run Tryz.prog w = .ok (.tuple #[.agg #[.int .i64 0, .nilIface, .slice none 0 0, .slice none 0 0], .bool false]) w := by kernel_rfl
theorem ta_Return_While (v : Value) (w : World) : (Instr.typeAssert (.iface 338 v) 122 336 true).run Tryz.prog w = .ok (.tuple #[.agg #[.int .i64 0, .nilIface, .slice none 0 0], .bool false]) w := by kernel_rfl
theorem ta_Return_Return (v : Value) (w : World) : (Instr.typeAssert (.iface 338 v) 122 338 true).run Tryz.prog w = .ok (.tuple #[v, .bool true]) w := by kernel_rfl
theorem ta_Print_Declare (v : Value) (w : World) : (Instr.typeAssert (.iface 339 v) 122 329 true).run Tryz.prog w = .ok (.tuple #[.agg #[.int .i64 0, .int .i64 0, .string ⟨#[]⟩, .nilIface], .bool false]) w := by kernel_rfl
theorem ta_Print_Assign (v : Value) (w : World) : (Instr.typeAssert (.iface 339 v) 122 332 true).run Tryz.prog w = .ok (.tuple #[.agg #[.int .i64 0, .string ⟨#[]⟩, .slice none 0 0, .nilIface], .bool false]) w := by kernel_rfl
theorem ta_Print_If (v : Value) (w : World) : (Instr.typeAssert (.iface 339 v) 122 334 true).run Tryz.prog w = .ok (.tuple #[.agg #[.int .i64 0, .nilIface, .slice none 0 0, .slice none 0 0], .bool false]) w := by kernel_rfl
theorem ta_Print_While (v : Value) (w : World) : (Instr.typeAssert (.iface 339 v) 122 336 true).run Tryz.prog w = .ok (.tuple #[.agg #[.int .i64 0, .nilIface, .slice none 0 0], .bool false]) w := by kernel_rfl
theorem ta_Print_Return (v : Value) (w : World) : (Instr.typeAssert (.iface 339 v) 122 338 true).run Tryz.prog w = .ok (.tuple #[.agg #[.int .i64 0, .nilIface], .bool false]) w := by kernel_rfl
theorem ta_Print_Print (v : Value) (w : World) : (Instr.typeAssert (.iface 339 v) 122 339 true).run Tryz.prog w = .ok (.tuple #[v, .bool true]) w := by kernel_rfl
theorem ta_Call_Declare (v : Value) (w : World) : (Instr.typeAssert (.iface 341 v) 122 329 true).run Tryz.prog w = .ok (.tuple #[.agg #[.int .i64 0, .int .i64 0, .string ⟨#[]⟩, .nilIface], .bool false]) w := by kernel_rfl
theorem ta_Call_Assign (v : Value) (w : World) : (Instr.typeAssert (.iface 341 v) 122 332 true).run Tryz.prog w = .ok (.tuple #[.agg #[.int .i64 0, .string ⟨#[]⟩, .slice none 0 0, .nilIface], .bool false]) w := by kernel_rfl
theorem ta_Call_If (v : Value) (w : World) : (Instr.typeAssert (.iface 341 v) 122 334 true).run Tryz.prog w = .ok (.tuple #[.agg #[.int .i64 0, .nilIface, .slice none 0 0, .slice none 0 0], .bool false]) w := by kernel_rfl
theorem ta_Call_While (v : Value) (w : World) : (Instr.typeAssert (.iface 341 v) 122 336 true).run Tryz.prog w = .ok (.tuple #[.agg #[.int .i64 0, .nilIface, .slice none 0 0], .bool false]) w := by kernel_rfl
theorem ta_Call_Return (v : Value) (w : World) : (Instr.typeAssert (.iface 341 v) 122 338 true).run Tryz.prog w = .ok (.tuple #[.agg #[.int .i64 0, .nilIface], .bool false]) w := by kernel_rfl
theorem ta_Call_Print (v : Value) (w : World) : (Instr.typeAssert (.iface 341 v) 122 339 true).run Tryz.prog w = .ok (.tuple #[.agg #[.int .i64 0, .nilIface], .bool false]) w := by kernel_rfl
theorem ta_Call_Call (v : Value) (w : World) : (Instr.typeAssert (.iface 341 v) 122 341 true).run Tryz.prog w = .ok (.tuple #[v, .bool true]) w := by kernel_rfl
theorem ta_Variable_Declare (v : Value) (w : World) : (Instr.typeAssert (.iface 344 v) 122 329 true).run Tryz.prog w = .ok (.tuple #[.agg #[.int .i64 0, .int .i64 0, .string ⟨#[]⟩, .nilIface], .bool false]) w := by kernel_rfl
theorem ta_Variable_Assign (v : Value) (w : World) : (Instr.typeAssert (.iface 344 v) 122 332 true).run Tryz.prog w = .ok (.tuple #[.agg #[.int .i64 0, .string ⟨#[]⟩, .slice none 0 0, .nilIface], .bool false]) w := by kernel_rfl
theorem ta_Variable_If (v : Value) (w : World) : (Instr.typeAssert (.iface 344 v) 122 334 true).run Tryz.prog w = .ok (.tuple #[.agg #[.int .i64 0, .nilIface, .slice none 0 0, .slice none 0 0], .bool false]) w := by kernel_rfl
theorem ta_Variable_While (v : Value) (w : World) : (Instr.typeAssert (.iface 344 v) 122 336 true).run Tryz.prog w = .ok (.tuple #[.agg #[.int .i64 0, .nilIface, .slice none 0 0], .bool false]) w := by kernel_rfl
theorem ta_Variable_Return (v : Value) (w : World) : (Instr.typeAssert (.iface 344 v) 122 338 true).run Tryz.prog w = .ok (.tuple #[.agg #[.int .i64 0, .nilIface], .bool false]) w := by kernel_rfl
theorem ta_Variable_Print (v : Value) (w : World) : (Instr.typeAssert (.iface 344 v) 122 339 true).run Tryz.prog w = .ok (.tuple #[.agg #[.int .i64 0, .nilIface], .bool false]) w := by kernel_rfl
theorem ta_Variable_Call (v : Value) (w : World) : (Instr.typeAssert (.iface 344 v) 122 341 true).run Tryz.prog w = .ok (.tuple #[.agg #[.int .i64 0, .string ⟨#[]⟩, .slice none 0 0], .bool false]) w := by kernel_rfl
theorem ta_Variable_Variable (v : Value) (w : World) : (Instr.typeAssert (.iface 344 v) 122 344 true).run Tryz.prog w = .ok (.tuple #[v, .bool true]) w := by kernel_rfl
theorem ta_List_Declare (v : Value) (w : World) : (Instr.typeAssert (.iface 346 v) 122 329 true).run Tryz.prog w = .ok (.tuple #[.agg #[.int .i64 0, .int .i64 0, .string ⟨#[]⟩, .nilIface], .bool false]) w := by kernel_rfl
theorem ta_List_Assign (v : Value) (w : World) : (Instr.typeAssert (.iface 346 v) 122 332 true).run Tryz.prog w = .ok (.tuple #[.agg #[.int .i64 0, .string ⟨#[]⟩, .slice none 0 0, .nilIface], .bool false]) w := by kernel_rfl
theorem ta_List_If (v : Value) (w : World) : (Instr.typeAssert (.iface 346 v) 122 334 true).run Tryz.prog w = .ok (.tuple #[.agg #[.int .i64 0, .nilIface, .slice none 0 0, .slice none 0 0], .bool false]) w := by kernel_rfl
theorem ta_List_While (v : Value) (w : World) : (Instr.typeAssert (.iface 346 v) 122 336 true).run Tryz.prog w = .ok (.tuple #[.agg #[.int .i64 0, .nilIface, .slice none 0 0], .bool false]) w := by kernel_rfl
theorem ta_List_Return (v : Value) (w : World) : (Instr.typeAssert (.iface 346 v) 122 338 true).run Tryz.prog w = .ok (.tuple #[.agg #[.int .i64 0, .nilIface], .bool false]) w := by kernel_rfl
theorem ta_List_Print (v : Value) (w : World) : (Instr.typeAssert (.iface 346 v) 122 339 true).run Tryz.prog w = .ok (.tuple #[.agg #[.int .i64 0, .nilIface], .bool false]) w := by kernel_rfl
theorem ta_List_Call (v : Value) (w : World) : (Instr.typeAssert (.iface 346 v) 122 341 true).run Tryz.prog w = .ok (.tuple #[.agg #[.int .i64 0, .string ⟨#[]⟩, .slice none 0 0], .bool false]) w := by kernel_rfl
theorem ta_List_Variable (v : Value) (w : World) : (Instr.typeAssert (.iface 346 v) 122 344 true).run Tryz.prog w = .ok (.tuple #[.agg #[.int .i64 0, .string ⟨#[]⟩], .bool false]) w := by kernel_rfl
theorem ta_List_List (v : Value) (w : World) : (Instr.typeAssert (.iface 346 v) 122 346 true).run Tryz.prog w = .ok (.tuple #[v, .bool true]) w := by kernel_rfl
theorem ta_Index_Declare (v : Value) (w : World) : (Instr.typeAssert (.iface 348 v) 122 329 true).run Tryz.prog w = .ok (.tuple #[.agg #[.int .i64 0, .int .i64 0, .string ⟨#[]⟩, .nilIface], .bool false]) w := by kernel_rfl
theorem ta_Index_Assign (v : Value) (w : World) : (Instr.typeAssert (.iface 348 v) 122 332 true).run Tryz.prog w = .ok (.tuple #[.agg #[.int .i64 0, .string ⟨#[]⟩, .slice none 0 0, .nilIface], .bool false]) w := by kernel_rfl
theorem ta_Index_If (v : Value) (w : World) : (Instr.typeAssert (.iface 348 v) 122 334 true).run Tryz.prog w = .ok (.tuple #[.agg #[.int .i64 0, .nilIface, .slice none 0 0, .slice none 0 0], .bool false]) w := by kernel_rfl
theorem ta_Index_While (v : Value) (w : World) : (Instr.typeAssert (.iface 348 v) 122 336 true).run Tryz.prog w = .ok (.tuple #[.agg #[.int .i64 0, .nilIface, .slice none 0 0], .bool false]) w := by kernel_rfl
theorem ta_Index_Return (v : Value) (w : World) : (Instr.typeAssert (.iface 348 v) 122 338 true).run Tryz.prog w = .ok (.tuple #[.agg #[.int .i64 0, .nilIface], .bool false]) w := by kernel_rfl
theorem ta_Index_Print (v : Value) (w : World) : (Instr.typeAssert (.iface 348 v) 122 339 true).run Tryz.prog w = .ok (.tuple #[.agg #[.int .i64 0, .nilIface], .bool false]) w := by kernel_rfl
theorem ta_Index_Call (v : Value) (w : World) : (Instr.typeAssert (.iface 348 v) 122 341 true).run Tryz.prog w = .ok (.tuple #[.agg #[.int .i64 0, .string ⟨#[]⟩, .slice none 0 0], .bool false]) w := by kernel_rfl
theorem ta_Index_Variable (v : Value) (w : World) : (Instr.typeAssert (.iface 348 v) 122 344 true).run Tryz.prog w = .ok (.tuple #[.agg #[.int .i64 0, .string ⟨#[]⟩], .bool false]) w := by kernel_rfl
theorem ta_Index_List (v : Value) (w : World) : (Instr.typeAssert (.iface 348 v) 122 346 true).run Tryz.prog w = .ok (.tuple #[.agg #[.int .i64 0, .slice none 0 0], .bool false]) w := by kernel_rfl
theorem ta_Index_Index (v : Value) (w : World) : (Instr.typeAssert (.iface 348 v) 122 348 true).run Tryz.prog w = .ok (.tuple #[v, .bool true]) w := by kernel_rfl
theorem ta_Unary_Declare (v : Value) (w : World) : (Instr.typeAssert (.iface 350 v) 122 329 true).run Tryz.prog w = .ok (.tuple #[.agg #[.int .i64 0, .int .i64 0, .string ⟨#[]⟩, .nilIface], .bool false]) w := by kernel_rfl
theorem ta_Unary_Assign (v : Value) (w : World) : (Instr.typeAssert (.iface 350 v) 122 332 true).run Tryz.prog w = .ok (.tuple #[.agg #[.int .i64 0, .string ⟨#[]⟩, .slice none 0 0, .nilIface], .bool false]) w := by kernel_rfl
theorem ta_Unary_If (v : Value) (w : World) : (Instr.typeAssert (.iface 350 v) 122 334 true).run Tryz.prog w = .ok (.tuple #[.agg #[.int .i64 0, .nilIface, .slice none 0 0, .slice none 0 0], .bool false]) w := by kernel_rfl
theorem ta_Unary_While (v : Value) (w : World) : (Instr.typeAssert (.iface 350 v) 122 336 true).run Tryz.prog w = .ok (.tuple #[.agg #[.int .i64 0, .nilIface, .slice none 0 0], .bool false]) w := by kernel_rfl
theorem ta_Unary_Return (v : Value) (w : World) : (Instr.typeAssert (.iface 350 v) 122 338 true).run Tryz.prog w = .ok (.tuple #[.agg #[.int .i64 0, .nilIface], .bool false]) w := by kernel_rfl
theorem ta_Unary_Print (v : Value) (w : World) : (Instr.typeAssert (.iface 350 v) 122 339 true).run Tryz.prog w = .ok (.tuple #[.agg #[.int .i64 0, .nilIface], .bool false]) w := by kernel_rfl
theorem ta_Unary_Call (v : Value) (w : World) : (Instr.typeAssert (.iface 350 v) 122 341 true).run Tryz.prog w = .ok (.tuple #[.agg #[.int .i64 0, .string ⟨#[]⟩, .slice none 0 0], .bool false]) w := by kernel_rfl
theorem ta_Unary_Variable (v : Value) (w : World) : (Instr.typeAssert (.iface 350 v) 122 344 true).run Tryz.prog w = .ok (.tuple #[.agg #[.int .i64 0, .string ⟨#[]⟩], .bool false]) w := by kernel_rfl
theorem ta_Unary_List (v : Value) (w : World) : (Instr.typeAssert (.iface 350 v) 122 346 true).run Tryz.prog w = .ok (.tuple #[.agg #[.int .i64 0, .slice none 0 0], .bool false]) w := by kernel_rfl
theorem ta_Unary_Index (v : Value) (w : World) : (Instr.typeAssert (.iface 350 v) 122 348 true).run Tryz.prog w = .ok (.tuple #[.agg #[.int .i64 0, .nilIface, .nilIface], .bool false]) w := by kernel_rfl
theorem ta_Unary_Unary (v : Value) (w : World) : (Instr.typeAssert (.iface 350 v) 122 350 true).run Tryz.prog w = .ok (.tuple #[v, .bool true]) w := by kernel_rfl
theorem ta_Binary_Declare (v : Value) (w : World) : (Instr.typeAssert (.iface 352 v) 122 329 true).run Tryz.prog w = .ok (.tuple #[.agg #[.int .i64 0, .int .i64 0, .string ⟨#[]⟩, .nilIface], .bool false]) w := by kernel_rfl
theorem ta_Binary_Assign (v : Value) (w : World) : (Instr.typeAssert (.iface 352 v) 122 332 true).run Tryz.prog w = .ok (.tuple #[.agg #[.int .i64 0, .string ⟨#[]⟩, .slice none 0 0, .nilIface], .bool false]) w := by kernel_rfl
theorem ta_Binary_If (v : Value) (w : World) : (Instr.typeAssert (.iface 352 v) 122 334 true).run Tryz.prog w = .ok (.tuple #[.agg #[.int .i64 0, .nilIface, .slice none 0 0, .slice none 0 0], .bool false]) w := by kernel_rfl
theorem ta_Binary_While (v : Value) (w : World) : (Instr.typeAssert (.iface 352 v) 122 336 true).run Tryz.prog w = .ok (.tuple #[.agg #[.int .i64 0, .nilIface, .slice none 0 0], .bool false]) w := by kernel_rfl
theorem ta_Binary_Return (v : Value) (w : World) : (Instr.typeAssert (.iface 352 v) 122 338 true).run Tryz.prog w = .ok (.tuple #[.agg #[.int .i64 0, .nilIface], .bool false]) w := by kernel_rfl
theorem ta_Binary_Print (v : Value) (w : World) : (Instr.typeAssert (.iface 352 v) 122 339 true).run Tryz.prog w = .ok (.tuple #[.agg #[.int .i64 0, .nilIface], .bool false]) w := by kernel_rfl
theorem ta_Binary_Call (v : Value) (w : World) : (Instr.typeAssert (.iface 352 v) 122 341 true).run Tryz.prog w = .ok (.tuple #[.agg #[.int .i64 0, .string ⟨#[]⟩, .slice none 0 0], .bool false]) w := by kernel_rfl
theorem ta_Binary_Variable (v : Value) (w : World) : (Instr.typeAssert (.iface 352 v) 122 344 true).run Tryz.prog w = .ok (.tuple #[.agg #[.int .i64 0, .string ⟨#[]⟩], .bool false]) w := by kernel_rfl
theorem ta_Binary_List (v : Value) (w : World) : (Instr.typeAssert (.iface 352 v) 122 346 true).run Tryz.prog w = .ok (.tuple #[.agg #[.int .i64 0, .slice none 0 0], .bool false]) w := by kernel_rfl
theorem ta_Binary_Index (v : Value) (w : World) : (Instr.typeAssert (.iface 352 v) 122 348 true).run Tryz.prog w = .ok (.tuple #[.agg #[.int .i64 0, .nilIface, .nilIface], .bool false]) w := by kernel_rfl
theorem ta_Binary_Unary (v : Value) (w : World) : (Instr.typeAssert (.iface 352 v) 122 350 true).run Tryz.prog w = .ok (.tuple #[.agg #[.int .i64 0, .string ⟨#[]⟩, .nilIface], .bool false]) w := by kernel_rfl
theorem ta_Binary_Binary (v : Value) (w : World) : (Instr.typeAssert (.iface 352 v) 122 352 true).run Tryz.prog w = .ok (.tuple #[v, .bool true]) w := by kernel_rfl
theorem ta_Number_Declare (v : Value) (w : World) : (Instr.typeAssert (.iface 397 v) 122 329 true).run Tryz.prog w = .ok (.tuple #[.agg #[.int .i64 0, .int .i64 0, .string ⟨#[]⟩, .nilIface], .bool false]) w := by kernel_rfl
theorem ta_Number_Assign (v : Value) (w : World) : (Instr.typeAssert (.iface 397 v) 122 332 true).run Tryz.prog w = .ok (.tuple #[.agg #[.int .i64 0, .string ⟨#[]⟩, .slice none 0 0, .nilIface], .bool false]) w := by kernel_rfl
theorem ta_Number_If (v : Value) (w : World) : (Instr.typeAssert (.iface 397 v) 122 334 true).run Tryz.prog w = .ok (.tuple #[.agg #[.int .i64 0, .nilIface, .slice none 0 0, .slice none 0 0], .bool false]) w := by kernel_rfl
theorem ta_Number_While (v : Value) (w : World) : (Instr.typeAssert (.iface 397 v) 122 336 true).run Tryz.prog w = .ok (.tuple #[.agg #[.int .i64 0, .nilIface, .slice none 0 0], .bool false]) w := by kernel_rfl
theorem ta_Number_Return (v : Value) (w : World) : (Instr.typeAssert (.iface 397 v) 122 338 true).run Tryz.prog w = .ok (.tuple #[.agg #[.int .i64 0, .nilIface], .bool false]) w := by kernel_rfl
theorem ta_Number_Print (v : Value) (w : World) : (Instr.typeAssert (.iface 397 v) 122 339 true).run Tryz.prog w = .ok (.tuple #[.agg #[.int .i64 0, .nilIface], .bool false]) w := by kernel_rfl
theorem ta_Number_Call (v : Value) (w : World) : (Instr.typeAssert (.iface 397 v) 122 341 true).run Tryz.prog w = .ok (.tuple #[.agg #[.int .i64 0, .string ⟨#[]⟩, .slice none 0 0], .bool false]) w := by kernel_rfl
theorem ta_Number_Variable (v : Value) (w : World) : (Instr.typeAssert (.iface 397 v) 122 344 true).run Tryz.prog w = .ok (.tuple #[.agg #[.int .i64 0, .string ⟨#[]⟩], .bool false]) w := by kernel_rfl
theorem ta_Number_List (v : Value) (w : World) : (Instr.typeAssert (.iface 397 v) 122 346 true).run Tryz.prog w = .ok (.tuple #[.agg #[.int .i64 0, .slice none 0 0], .bool false]) w := by kernel_rfl
theorem ta_Number_Index (v : Value) (w : World) : (Instr.typeAssert (.iface 397 v) 122 348 true).run Tryz.prog w = .ok (.tuple #[.agg #[.int .i64 0, .nilIface, .nilIface], .bool false]) w := by kernel_rfl
theorem ta_Number_Unary (v : Value) (w : World) : (Instr.typeAssert (.iface 397 v) 122 350 true).run Tryz.prog w = .ok (.tuple #[.agg #[.int .i64 0, .string ⟨#[]⟩, .nilIface], .bool false]) w := by kernel_rfl
theorem ta_Number_Binary (v : Value) (w : World) : (Instr.typeAssert (.iface 397 v) 122 352 true).run Tryz.prog w = .ok (.tuple #[.agg #[.int .i64 0, .string ⟨#[]⟩, .nilIface, .nilIface], .bool false]) w := by kernel_rfl
theorem ta_String_Declare (v : Value) (w : World) : (Instr.typeAssert (.iface 398 v) 122 329 true).run Tryz.prog w = .ok (.tuple #[.agg #[.int .i64 0, .int .i64 0, .string ⟨#[]⟩, .nilIface], .bool false]) w := by kernel_rfl
theorem ta_String_Assign (v : Value) (w : World) : (Instr.typeAssert (.iface 398 v) 122 332 true).run Tryz.prog w = .ok (.tuple #[.agg #[.int .i64 0, .string ⟨#[]⟩, .slice none 0 0, .nilIface], .bool false]) w := by kernel_rfl
theorem ta_String_If (v : Value) (w : World) : (Instr.typeAssert (.iface 398 v) 122 334 true).run Tryz.prog w = .ok (.tuple #[.agg #[.int .i64 0, .nilIface, .slice none 0 0, .slice none 0 0], .bool false]) w := by kernel_rfl
theorem ta_String_While (v : Value) (w : World) : (Instr.typeAssert (.iface 398 v) 122 336 true).run Tryz.prog w = .ok (.tuple #[.agg #[.int .i64 0, .nilIface, .slice none 0 0], .bool false]) w := by kernel_rfl
theorem ta_String_Return (v : Value) (w : World) : (Instr.typeAssert (.iface 398 v) 122 338 true).run Tryz.prog w = .ok (.tuple #[.agg #[.int .i64 0, .nilIface], .bool false]) w := by kernel_rfl
theorem ta_String_Print (v : Value) (w : World) : (Instr.typeAssert (.iface 398 v) 122 339 true).run Tryz.prog w = .ok (.tuple #[.agg #[.int .i64 0, .nilIface], .bool false]) w := by kernel_rfl
theorem ta_String_Call (v : Value) (w : World) : (Instr.typeAssert (.iface 398 v) 122 341 true).run Tryz.prog w = .ok (.tuple #[.agg #[.int .i64 0, .string ⟨#[]⟩, .slice none 0 0], .bool false]) w := by kernel_rfl
theorem ta_String_Variable (v : Value) (w : World) : (Instr.typeAssert (.iface 398 v) 122 344 true).run Tryz.prog w = .ok (.tuple #[.agg #[.int .i64 0, .string ⟨#[]⟩], .bool false]) w := by kernel_rfl
theorem ta_String_List (v : Value) (w : World) : (Instr.typeAssert (.iface 398 v) 122 346 true).run Tryz.prog w = .ok (.tuple #[.agg #[.int .i64 0, .slice none 0 0], .bool false]) w := by kernel_rfl
theorem ta_String_Index (v : Value) (w : World) : (Instr.typeAssert (.iface 398 v) 122 348 true).run Tryz.prog w = .ok (.tuple #[.agg #[.int .i64 0, .nilIface, .nilIface], .bool false]) w := by kernel_rfl
theorem ta_String_Unary (v : Value) (w : World) : (Instr.typeAssert (.iface 398 v) 122 350 true).run Tryz.prog w = .ok (.tuple #[.agg #[.int .i64 0, .string ⟨#[]⟩, .nilIface], .bool false]) w := by kernel_rfl
theorem ta_String_Binary (v : Value) (w : World) : (Instr.typeAssert (.iface 398 v) 122 352 true).run Tryz.prog w = .ok (.tuple #[.agg #[.int .i64 0, .string ⟨#[]⟩, .nilIface, .nilIface], .bool false]) w := by kernel_rfl
theorem ta_Bool_Declare (v : Value) (w : World) : (Instr.typeAssert (.iface 400 v) 122 329 true).run Tryz.prog w = .ok (.tuple #[.agg #[.int .i64 0, .int .i64 0, .string ⟨#[]⟩, .nilIface], .bool false]) w := by kernel_rfl
theorem ta_Bool_Assign (v : Value) (w : World) : (Instr.typeAssert (.iface 400 v) 122 332 true).run Tryz.prog w = .ok (.tuple #[.agg #[.int .i64 0, .string ⟨#[]⟩, .slice none 0 0, .nilIface], .bool false]) w := by kernel_rfl
theorem ta_Bool_If (v : Value) (w : World) : (Instr.typeAssert (.iface 400 v) 122 334 true).run Tryz.prog w = .ok (.tuple #[.agg #[.int .i64 0, .nilIface, .slice none 0 0, .slice none 0 0], .bool false]) w := by kernel_rfl
theorem ta_Bool_While (v : Value) (w : World) : (Instr.typeAssert (.iface 400 v) 122 336 true).run Tryz.prog w = .ok (.tuple #[.agg #[.int .i64 0, .nilIface, .slice none 0 0], .bool false]) w := by kernel_rfl
theorem ta_Bool_Return (v : Value) (w : World) : (Instr.typeAssert (.iface 400 v) 122 338 true).run Tryz.prog w = .ok (.tuple #[.agg #[.int .i64 0, .nilIface], .bool false]) w := by kernel_rfl
theorem ta_Bool_Print (v : Value) (w : World) : (Instr.typeAssert (.iface 400 v) 122 339 true).run Tryz.prog w = .ok (.tuple #[.agg #[.int .i64 0, .nilIface], .bool false]) w := by kernel_rfl
theorem ta_Bool_Call (v : Value) (w : World) : (Instr.typeAssert (.iface 400 v) 122 341 true).run Tryz.prog w = .ok (.tuple #[.agg #[.int .i64 0, .string ⟨#[]⟩, .slice none 0 0], .bool false]) w := by kernel_rfl
theorem ta_Bool_Variable (v : Value) (w : World) : (Instr.typeAssert (.iface 400 v) 122 344 true).run Tryz.prog w = .ok (.tuple #[.agg #[.int .i64 0, .string ⟨#[]⟩], .bool false]) w := by kernel_rfl
theorem ta_Bool_List (v : Value) (w : World) : (Instr.typeAssert (.iface 400 v) 122 346 true).run Tryz.prog w = .ok (.tuple #[.agg #[.int .i64 0, .slice none 0 0], .bool false]) w := by kernel_rfl
theorem ta_Bool_Index (v : Value) (w : World) : (Instr.typeAssert (.iface 400 v) 122 348 true).run Tryz.prog w = .ok (.tuple #[.agg #[.int .i64 0, .nilIface, .nilIface], .bool false]) w := by kernel_rfl
theorem ta_Bool_Unary (v : Value) (w : World) : (Instr.typeAssert (.iface 400 v) 122 350 true).run Tryz.prog w = .ok (.tuple #[.agg #[.int .i64 0, .string ⟨#[]⟩, .nilIface], .bool false]) w := by kernel_rfl
theorem ta_Bool_Binary (v : Value) (w : World) : (Instr.typeAssert (.iface 400 v) 122 352 true).run Tryz.prog w = .ok (.tuple #[.agg #[.int .i64 0, .string ⟨#[]⟩, .nilIface, .nilIface], .bool false]) w := by kernel_rfl
end Go.Proofs.YtblbkfdhjfppkaaGreatDoor
