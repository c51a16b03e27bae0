/- Contracts of the program: names: each sort of nodes. -/
import Derived.Test.YtblbkfdhjfppkaaGreatDoorPart06
import Derived.Laws.EntriesVeiled
import Derived.Test.YtblbkfdhjfppkaaGreatDoorPart01
import Derived.Test.YtblbkfdhjfppkaaGreatDoorPart00
import Derived.Lib.ParseIntB
import Derived.Test.YtblbkfdhjfppkaaGreatDoorShelf
import Derived.Lib.DecodeN
import Derived.Test.YtblbkfdhjfppkaaGreatDoorProg
import Derived.WalkKit
import Derived.WalkSpells
import Derived.WalkLawsBesides
import Derived.RegionTactic
import Derived.BigRegion
import Derived.Defers
import Derived.Recover
namespace Go.Proofs.YtblbkfdhjfppkaaGreatDoor
open Go.RowKit

theorem PN.parts {F : Nat → Prop} {w : World} {v : Value} {a : Hs.Ast} (h : PN F w v a) : ∃ T cs ps, v = .iface T (.agg cs) ∧ Shape T cs a ps ∧ ∀ p ∈ ps, p.ok F w := by
  obtain ⟨d, h⟩ := h
  cases d with
  | zero => exact h.elim
  | succ d =>
    obtain ⟨T, cs, ps, h1, h2, h3⟩ := h
    exact ⟨T, cs, ps, h1, h2, fun p hp => (h3 p hp).mono (fun _ _ h => ⟨d, h⟩) (fun _ h => h)⟩
theorem Prt.ok.one' {F : Nat → Prop} {w : World} {v : Value} {a : Hs.Ast} (h : Prt.ok F w ⟨v, [a], true⟩) : PN F w v a := by
  rcases h with ⟨_, b, h1, h2⟩ | ⟨h1, _⟩
  · cases h1; exact h2
  · cases h1
theorem Prt.ok.many {F : Nat → Prop} {w : World} {v : Value} {l : List Hs.Ast} (h : Prt.ok F w ⟨v, l, false⟩) : PKid F w v l := by
  rcases h with ⟨h1, _⟩ | ⟨_, h2⟩
  · cases h1
  · exact h2

/-- A block of a call's own, beside the checker's. -/
structure Loc (cb : Nat) (w0 : World) (b : Nat) (o : Obj) (W : World) : Prop where
  fb : FB cb w0 W
  blk : W.heap[b]? = some o
  row : rowOf cb W ≠ some b
  ne : b ≠ cb
theorem Loc.new {cb lo : Nat} {fs : List Hs.Ast} {fv : Value} {w : World} {seen : List (List UInt8)} (h : CK cb lo fs fv w seen) (o : Obj) : Loc cb w w.heap.size o (w.alloc o) ∧ CK cb lo fs fv (w.alloc o) seen := by
  have hcb := h.lt
  have hb : Below w.heap.size w (w.alloc o) := (Below.refl _ _).alloc (Nat.le_refl _) _
  refine ⟨⟨FB.of_below hb hcb, heap_first _ _ rfl _, fun e => ?_, by omega⟩, h.grow hb⟩
  obtain ⟨sv, hb', ho⟩ := h.blk
  rw [rowOf_eq (hb.block cb hcb), rowOf_at hb'] at e
  have := own_block_lt ho _ e
  omega
theorem Loc.step {cb b : Nat} {o : Obj} {w0 W W' : World} (h : Loc cb w0 b o W) (hb : FB cb W W') : Loc cb w0 b o W' :=
  ⟨h.fb.trans hb, (hb.blk b (lt_of_block h.blk) h.ne h.row).trans h.blk, fun e => by
    rcases hb.row _ e with e | e
    · exact h.row e
    · have := lt_of_block h.blk; omega, h.ne⟩

/-- A block is looked at as the document says. -/
def BlockAt (cb lo : Nat) (fs : List Hs.Ast) (fv : Value) (d : Nat) : Prop :=
  ∀ (v : Value) (b : Hs.Ast) (seen : List (List UInt8)) (w : World), CK cb lo fs fv w seen → b.op = [98, 108, 111, 99, 107] → PKid (Btw lo cb) w v b.kids → Hs.dp d b → seen.length + Hs.wt d b ≤ 90000 →
    Calls Tryz.prog 190 #[.pointer (some ⟨cb, 0, none⟩), v] w (OutC cb lo fs fv w (Hs.walkL fs false d b ⟨seen, 0, 0⟩))
theorem kids_len {d : Nat} {l : List Hs.Ast} (h : ∀ k ∈ l, Hs.dp d k) : l.length ≤ (l.map (Hs.wt d)).sum := by
  cases d with
  | zero =>
    cases l with
    | nil => simp
    | cons x l => exact (h x (List.mem_cons_self ..)).elim
  | succ d => exact len_le_sum d l
theorem block_at {cb lo : Nat} {fs : List Hs.Ast} {fv : Value} {d : Nat} (HN : NodesAt cb lo fs fv d) : BlockAt cb lo fs fv (d + 1) := by
  intro v b seen w h hop hk hd hwt
  rw [Hs.wt] at hwt
  have hs : Hs.walkL fs false (d + 1) b ⟨seen, 0, 0⟩ = { foldL fs d b.kids ⟨seen, 0, 0⟩ with seen := (foldL fs d b.kids ⟨seen, 0, 0⟩).seen.take seen.length } := by
    rw [Hs.walkL, if_neg (by rw [hop]; decide)]
    simp only [Hs.lookL, hop]
    rfl
  have hkl := kids_len hd
  rw [hs]
  exact ckBlock_any cb lo fs fv d HN v b.kids seen w h hk hd (by omega) (by omega)
theorem nil_block {cb lo : Nat} {fs : List Hs.Ast} {fv : Value} (d : Nat) (HN : NodesAt cb lo fs fv d) (seen : List (List UInt8)) (w : World) (h : CK cb lo fs fv w seen) (hs : seen.length ≤ 90000) :
    Calls Tryz.prog 190 #[.pointer (some ⟨cb, 0, none⟩), .slice none 0 0] w (OutC cb lo fs fv w ⟨seen, 0, 0⟩) := by
  have := ckBlock_any cb lo fs fv d HN (.slice none 0 0) [] seen w h (Or.inl ⟨rfl, rfl⟩) (fun k hk => by cases hk) (by simpa using hs) (by simp)
  have e : ({ foldL fs d [] ⟨seen, 0, 0⟩ with seen := (foldL fs d [] ⟨seen, 0, 0⟩).seen.take seen.length } : Hs.Chk) = ⟨seen, 0, 0⟩ := by
    show (⟨seen.take seen.length, 0, 0⟩ : Hs.Chk) = _
    rw [List.take_length]
  rw [e] at this
  exact this
theorem adds_len {a : Hs.Chk} {s t : List (List UInt8)} {m n k : Nat} (h : Adds a ⟨t, 0, 0⟩ m) (ha : a.seen = s) (hn : s.length + (m + k) ≤ n) : t.length + k ≤ n := by
  obtain ⟨x, h1, h2⟩ := h
  have h1' : t = s ++ x := by rw [← ha]; exact h1
  rw [h1', List.length_append]; omega

/-- A variable is used. -/
def useL (s : Hs.Chk) (l : Nat) (x : List UInt8) : Hs.Chk := if s.seen.contains x then s else s.found l 6
theorem useL_stk (s : Hs.Chk) (l : Nat) (x : List UInt8) : Stk s (useL s l x) := by
  unfold useL; split
  · exact Stk.refl _
  · exact Stk.found _ _ _
theorem useL_adds (s : Hs.Chk) (l : Nat) (x : List UInt8) : Adds s (useL s l x) 0 := Adds.of_eq (by unfold useL; split <;> first | rfl | exact Chk_seen_found _ _ _)

theorem use_at (cb lo : Nat) (fs : List Hs.Ast) (fv : Value) (w : World) (seen : List (List UInt8)) (h : CK cb lo fs fv w seen) (hs : seen.length ≤ 100000) (l : Nat) (x : List UInt8) :
    Calls Tryz.prog 230 #[.pointer (some ⟨cb, 0, none⟩), .agg #[.int .i64 l, .string (bs x)]] w (OutC cb lo fs fv w (useL ⟨seen, 0, 0⟩ l x)) := use_any cb lo fs fv w seen h hs l x

set_option maxRecDepth 100000 in
set_option maxHeartbeats 2000000 in
theorem nd_Number (cb lo : Nat) (fs : List Hs.Ast) (fv : Value) (seen : List (List UInt8)) (w : World) (h : CK cb lo fs fv w seen) (l k : Nat) :
    Calls Tryz.prog 167 #[.pointer (some ⟨cb, 0, none⟩), .iface 397 (.agg #[.int .i64 l, .int .i64 k])] w (OutC cb lo fs fv w ⟨seen, 0, 0⟩) := by
  have H := mkHid h
  have q0 := ta_Number_Declare
  have q1 := ta_Number_Assign
  have q2 := ta_Number_If
  have q3 := ta_Number_While
  have q4 := ta_Number_Return
  have q5 := ta_Number_Print
  have q6 := ta_Number_Call
  have q7 := ta_Number_Variable
  have q8 := ta_Number_List
  have q9 := ta_Number_Index
  have q10 := ta_Number_Unary
  have q11 := ta_Number_Binary
  clear h
  go_enter Tryz.func167, Tryz.ntmps167
  go_wp2_with fail
  go_end0
  exact OutC.done (FB.refl _) rfl H.out

set_option maxRecDepth 100000 in
set_option maxHeartbeats 2000000 in
theorem nd_String (cb lo : Nat) (fs : List Hs.Ast) (fv : Value) (seen : List (List UInt8)) (w : World) (h : CK cb lo fs fv w seen) (l : Nat) (x : ByteArray) :
    Calls Tryz.prog 167 #[.pointer (some ⟨cb, 0, none⟩), .iface 398 (.agg #[.int .i64 l, .string x])] w (OutC cb lo fs fv w ⟨seen, 0, 0⟩) := by
  have H := mkHid h
  have q0 := ta_String_Declare
  have q1 := ta_String_Assign
  have q2 := ta_String_If
  have q3 := ta_String_While
  have q4 := ta_String_Return
  have q5 := ta_String_Print
  have q6 := ta_String_Call
  have q7 := ta_String_Variable
  have q8 := ta_String_List
  have q9 := ta_String_Index
  have q10 := ta_String_Unary
  have q11 := ta_String_Binary
  clear h
  go_enter Tryz.func167, Tryz.ntmps167
  go_wp2_with fail
  go_end0
  exact OutC.done (FB.refl _) rfl H.out

set_option maxRecDepth 100000 in
set_option maxHeartbeats 2000000 in
theorem nd_Bool (cb lo : Nat) (fs : List Hs.Ast) (fv : Value) (seen : List (List UInt8)) (w : World) (h : CK cb lo fs fv w seen) (l : Nat) (x : Bool) :
    Calls Tryz.prog 167 #[.pointer (some ⟨cb, 0, none⟩), .iface 400 (.agg #[.int .i64 l, .bool x])] w (OutC cb lo fs fv w ⟨seen, 0, 0⟩) := by
  have H := mkHid h
  have q0 := ta_Bool_Declare
  have q1 := ta_Bool_Assign
  have q2 := ta_Bool_If
  have q3 := ta_Bool_While
  have q4 := ta_Bool_Return
  have q5 := ta_Bool_Print
  have q6 := ta_Bool_Call
  have q7 := ta_Bool_Variable
  have q8 := ta_Bool_List
  have q9 := ta_Bool_Index
  have q10 := ta_Bool_Unary
  have q11 := ta_Bool_Binary
  clear h
  go_enter Tryz.func167, Tryz.ntmps167
  go_wp2_with fail
  go_end0
  exact OutC.done (FB.refl _) rfl H.out

set_option maxRecDepth 100000 in
set_option maxHeartbeats 4000000 in
theorem nd_List (cb lo : Nat) (fs : List Hs.Ast) (fv : Value) (d : Nat) (HN : NodesAt cb lo fs fv d) (seen : List (List UInt8)) (w : World) (h : CK cb lo fs fv w seen) (l : Nat) (u1 : Value) (k1 : List Hs.Ast) (g1 : PKid (Btw lo cb) w u1 k1) (hk1d : ∀ k ∈ k1, Hs.dp d k) (hwt : seen.length + ((k1.map (Hs.wt d)).sum + 0) ≤ 90000) :
    Calls Tryz.prog 167 #[.pointer (some ⟨cb, 0, none⟩), .iface 346 (.agg #[.int .i64 l, u1])] w (OutC cb lo fs fv w (foldL fs d k1 ⟨seen, 0, 0⟩)) := by
  obtain ⟨x1, y1, rfl⟩ := g1.slice
  have q0 := ta_List_Declare
  have q1 := ta_List_Assign
  have q2 := ta_List_If
  have q3 := ta_List_While
  have q4 := ta_List_Return
  have q5 := ta_List_Print
  have q6 := ta_List_Call
  have q7 := ta_List_Variable
  have q8 := ta_List_List
  obtain ⟨hl0, hk0⟩ := Loc.new h (.cells #[.int .i64 l, (.slice x1 k1.length y1)] 346)
  have HL0 := mkHid hl0
  have HC0 := mkHid hk0
  clear h hl0 hk0
  go_enter Tryz.func167, Tryz.ntmps167
  have HX0 := mkHid (HN (.slice x1 k1.length y1) k1 seen (w.alloc (.cells #[.int .i64 l, (.slice x1 k1.length y1)] 346)) HC0.out (g1.below HL0.out.fb.bel) hk1d (by omega) (by have := kids_len hk1d; omega))
  obtain ⟨c0, hg0⟩ : ∃ c0, c0 = foldL fs d k1 (⟨seen, 0, 0⟩ : Hs.Chk) := ⟨_, rfl⟩
  have HG0 := mkHid hg0.symm
  first | rw [← hg0] at HX0 | rw [show _ = c0 from hg0.symm] at HX0
  clear hg0
  go_wp2_with fail
  refine HX0.out.mono ?_
  rintro e w1 ⟨hb0, ⟨s1, hc0, rfl, hck0⟩ | ⟨hk0, rfl⟩⟩
  rotate_left
  · have HB := mkHid (HL0.out.fb.trans hb0)
    have HK := mkHid hk0
    clear hb0 hk0
    go_wp2_with fail
    exact ⟨rfl, OutC.fault (c1 := c0) HB.out HK.out (by rw [HG0.out]; exact Stk.refl c0)⟩
  have HL1 := mkHid (HL0.out.step hb0)
  have HC1 := mkHid hck0
  subst hc0
  clear hb0 hck0 HX0
  go_wp2_with fail
  go_end0
  exact OutC.done HL1.out.fb (by rw [HG0.out]) HC1.out

set_option maxRecDepth 100000 in
set_option maxHeartbeats 4000000 in
theorem nd_Unary (cb lo : Nat) (fs : List Hs.Ast) (fv : Value) (d : Nat) (IH : NodeAt cb lo fs fv d) (seen : List (List UInt8)) (w : World) (h : CK cb lo fs fv w seen) (l : Nat) (x : ByteArray) (v1 : Value) (a1 : Hs.Ast) (h1 : PN (Btw lo cb) w v1 a1) (hd1 : Hs.dp d a1) (hwt : seen.length + (Hs.wt d a1 + 0) ≤ 90000) :
    Calls Tryz.prog 167 #[.pointer (some ⟨cb, 0, none⟩), .iface 350 (.agg #[.int .i64 l, .string x, v1])] w (OutC cb lo fs fv w (Hs.walkL fs false d a1 ⟨seen, 0, 0⟩)) := by
  obtain ⟨T1, cs1, rfl⟩ := h1.form
  have q0 := ta_Unary_Declare
  have q1 := ta_Unary_Assign
  have q2 := ta_Unary_If
  have q3 := ta_Unary_While
  have q4 := ta_Unary_Return
  have q5 := ta_Unary_Print
  have q6 := ta_Unary_Call
  have q7 := ta_Unary_Variable
  have q8 := ta_Unary_List
  have q9 := ta_Unary_Index
  have q10 := ta_Unary_Unary
  obtain ⟨hl0, hk0⟩ := Loc.new h (.cells #[.int .i64 l, .string x, (.iface T1 (.agg cs1))] 350)
  have HL0 := mkHid hl0
  have HC0 := mkHid hk0
  clear h hl0 hk0
  go_enter Tryz.func167, Tryz.ntmps167
  have HX0 := mkHid (IH (.iface T1 (.agg cs1)) a1 seen (w.alloc (.cells #[.int .i64 l, .string x, (.iface T1 (.agg cs1))] 350)) HC0.out (h1.below HL0.out.fb.bel) hd1 (by omega))
  obtain ⟨c0, hg0⟩ : ∃ c0, c0 = Hs.walkL fs false d a1 (⟨seen, 0, 0⟩ : Hs.Chk) := ⟨_, rfl⟩
  have HG0 := mkHid hg0.symm
  first | rw [← hg0] at HX0 | rw [show _ = c0 from hg0.symm] at HX0
  clear hg0
  go_wp2_with fail
  refine HX0.out.mono ?_
  rintro e w1 ⟨hb0, ⟨s1, hc0, rfl, hck0⟩ | ⟨hk0, rfl⟩⟩
  rotate_left
  · have HB := mkHid (HL0.out.fb.trans hb0)
    have HK := mkHid hk0
    clear hb0 hk0
    go_wp2_with fail
    exact ⟨rfl, OutC.fault (c1 := c0) HB.out HK.out (by rw [HG0.out]; exact Stk.refl c0)⟩
  have HL1 := mkHid (HL0.out.step hb0)
  have HC1 := mkHid hck0
  subst hc0
  clear hb0 hck0 HX0
  go_wp2_with fail
  go_end0
  exact OutC.done HL1.out.fb (by rw [HG0.out]) HC1.out

set_option maxRecDepth 100000 in
set_option maxHeartbeats 4000000 in
theorem nd_Return (cb lo : Nat) (fs : List Hs.Ast) (fv : Value) (d : Nat) (IH : NodeAt cb lo fs fv d) (seen : List (List UInt8)) (w : World) (h : CK cb lo fs fv w seen) (l : Nat) (v1 : Value) (a1 : Hs.Ast) (h1 : PN (Btw lo cb) w v1 a1) (hd1 : Hs.dp d a1) (hwt : seen.length + (Hs.wt d a1 + 0) ≤ 90000) :
    Calls Tryz.prog 167 #[.pointer (some ⟨cb, 0, none⟩), .iface 338 (.agg #[.int .i64 l, v1])] w (OutC cb lo fs fv w (Hs.walkL fs false d a1 ⟨seen, 0, 0⟩)) := by
  obtain ⟨T1, cs1, rfl⟩ := h1.form
  have q0 := ta_Return_Declare
  have q1 := ta_Return_Assign
  have q2 := ta_Return_If
  have q3 := ta_Return_While
  have q4 := ta_Return_Return
  obtain ⟨hl0, hk0⟩ := Loc.new h (.cells #[.int .i64 l, (.iface T1 (.agg cs1))] 338)
  have HL0 := mkHid hl0
  have HC0 := mkHid hk0
  clear h hl0 hk0
  go_enter Tryz.func167, Tryz.ntmps167
  have HX0 := mkHid (IH (.iface T1 (.agg cs1)) a1 seen (w.alloc (.cells #[.int .i64 l, (.iface T1 (.agg cs1))] 338)) HC0.out (h1.below HL0.out.fb.bel) hd1 (by omega))
  obtain ⟨c0, hg0⟩ : ∃ c0, c0 = Hs.walkL fs false d a1 (⟨seen, 0, 0⟩ : Hs.Chk) := ⟨_, rfl⟩
  have HG0 := mkHid hg0.symm
  first | rw [← hg0] at HX0 | rw [show _ = c0 from hg0.symm] at HX0
  clear hg0
  go_wp2_with fail
  refine HX0.out.mono ?_
  rintro e w1 ⟨hb0, ⟨s1, hc0, rfl, hck0⟩ | ⟨hk0, rfl⟩⟩
  rotate_left
  · have HB := mkHid (HL0.out.fb.trans hb0)
    have HK := mkHid hk0
    clear hb0 hk0
    go_wp2_with fail
    exact ⟨rfl, OutC.fault (c1 := c0) HB.out HK.out (by rw [HG0.out]; exact Stk.refl c0)⟩
  have HL1 := mkHid (HL0.out.step hb0)
  have HC1 := mkHid hck0
  subst hc0
  clear hb0 hck0 HX0
  go_wp2_with fail
  go_end0
  exact OutC.done HL1.out.fb (by rw [HG0.out]) HC1.out

set_option maxRecDepth 100000 in
set_option maxHeartbeats 4000000 in
theorem nd_Print (cb lo : Nat) (fs : List Hs.Ast) (fv : Value) (d : Nat) (IH : NodeAt cb lo fs fv d) (seen : List (List UInt8)) (w : World) (h : CK cb lo fs fv w seen) (l : Nat) (v1 : Value) (a1 : Hs.Ast) (h1 : PN (Btw lo cb) w v1 a1) (hd1 : Hs.dp d a1) (hwt : seen.length + (Hs.wt d a1 + 0) ≤ 90000) :
    Calls Tryz.prog 167 #[.pointer (some ⟨cb, 0, none⟩), .iface 339 (.agg #[.int .i64 l, v1])] w (OutC cb lo fs fv w (Hs.walkL fs false d a1 ⟨seen, 0, 0⟩)) := by
  obtain ⟨T1, cs1, rfl⟩ := h1.form
  have q0 := ta_Print_Declare
  have q1 := ta_Print_Assign
  have q2 := ta_Print_If
  have q3 := ta_Print_While
  have q4 := ta_Print_Return
  have q5 := ta_Print_Print
  obtain ⟨hl0, hk0⟩ := Loc.new h (.cells #[.int .i64 l, (.iface T1 (.agg cs1))] 339)
  have HL0 := mkHid hl0
  have HC0 := mkHid hk0
  clear h hl0 hk0
  go_enter Tryz.func167, Tryz.ntmps167
  have HX0 := mkHid (IH (.iface T1 (.agg cs1)) a1 seen (w.alloc (.cells #[.int .i64 l, (.iface T1 (.agg cs1))] 339)) HC0.out (h1.below HL0.out.fb.bel) hd1 (by omega))
  obtain ⟨c0, hg0⟩ : ∃ c0, c0 = Hs.walkL fs false d a1 (⟨seen, 0, 0⟩ : Hs.Chk) := ⟨_, rfl⟩
  have HG0 := mkHid hg0.symm
  first | rw [← hg0] at HX0 | rw [show _ = c0 from hg0.symm] at HX0
  clear hg0
  go_wp2_with fail
  refine HX0.out.mono ?_
  rintro e w1 ⟨hb0, ⟨s1, hc0, rfl, hck0⟩ | ⟨hk0, rfl⟩⟩
  rotate_left
  · have HB := mkHid (HL0.out.fb.trans hb0)
    have HK := mkHid hk0
    clear hb0 hk0
    go_wp2_with fail
    exact ⟨rfl, OutC.fault (c1 := c0) HB.out HK.out (by rw [HG0.out]; exact Stk.refl c0)⟩
  have HL1 := mkHid (HL0.out.step hb0)
  have HC1 := mkHid hck0
  subst hc0
  clear hb0 hck0 HX0
  go_wp2_with fail
  go_end0
  exact OutC.done HL1.out.fb (by rw [HG0.out]) HC1.out

set_option maxRecDepth 100000 in
set_option maxHeartbeats 4000000 in
theorem nd_Index (cb lo : Nat) (fs : List Hs.Ast) (fv : Value) (d : Nat) (IH : NodeAt cb lo fs fv d) (seen : List (List UInt8)) (w : World) (h : CK cb lo fs fv w seen) (l : Nat) (v1 : Value) (a1 : Hs.Ast) (h1 : PN (Btw lo cb) w v1 a1) (hd1 : Hs.dp d a1) (v2 : Value) (a2 : Hs.Ast) (h2 : PN (Btw lo cb) w v2 a2) (hd2 : Hs.dp d a2) (hwt : seen.length + (Hs.wt d a1 + (Hs.wt d a2 + 0)) ≤ 90000) :
    Calls Tryz.prog 167 #[.pointer (some ⟨cb, 0, none⟩), .iface 348 (.agg #[.int .i64 l, v1, v2])] w (OutC cb lo fs fv w (Hs.walkL fs false d a2 (Hs.walkL fs false d a1 ⟨seen, 0, 0⟩))) := by
  obtain ⟨T1, cs1, rfl⟩ := h1.form
  obtain ⟨T2, cs2, rfl⟩ := h2.form
  have q0 := ta_Index_Declare
  have q1 := ta_Index_Assign
  have q2 := ta_Index_If
  have q3 := ta_Index_While
  have q4 := ta_Index_Return
  have q5 := ta_Index_Print
  have q6 := ta_Index_Call
  have q7 := ta_Index_Variable
  have q8 := ta_Index_List
  have q9 := ta_Index_Index
  obtain ⟨hl0, hk0⟩ := Loc.new h (.cells #[.int .i64 l, (.iface T1 (.agg cs1)), (.iface T2 (.agg cs2))] 348)
  have HL0 := mkHid hl0
  have HC0 := mkHid hk0
  clear h hl0 hk0
  go_enter Tryz.func167, Tryz.ntmps167
  have HX0 := mkHid (IH (.iface T1 (.agg cs1)) a1 seen (w.alloc (.cells #[.int .i64 l, (.iface T1 (.agg cs1)), (.iface T2 (.agg cs2))] 348)) HC0.out (h1.below HL0.out.fb.bel) hd1 (by omega))
  have HA0 := mkHid (walkL_adds fs false d a1 ⟨seen, 0, 0⟩)
  obtain ⟨c0, hg0⟩ : ∃ c0, c0 = Hs.walkL fs false d a1 (⟨seen, 0, 0⟩ : Hs.Chk) := ⟨_, rfl⟩
  have HG0 := mkHid hg0.symm
  rw [← hg0] at HA0
  first | rw [← hg0] at HX0 | rw [show _ = c0 from hg0.symm] at HX0
  clear hg0
  go_wp2_with fail
  refine HX0.out.mono ?_
  rintro e w1 ⟨hb0, ⟨s1, hc0, rfl, hck0⟩ | ⟨hk0, rfl⟩⟩
  rotate_left
  · have HB := mkHid (HL0.out.fb.trans hb0)
    have HK := mkHid hk0
    clear hb0 hk0
    go_wp2_with fail
    exact ⟨rfl, OutC.fault (c1 := c0) HB.out HK.out (by rw [HG0.out]; exact (Stk.walk fs false d a2 c0))⟩
  have HL1 := mkHid (HL0.out.step hb0)
  have HC1 := mkHid hck0
  subst hc0
  have hn1 : s1.length + (Hs.wt d a2 + 0) ≤ 90000 := adds_len HA0.out rfl (by omega)
  clear hb0 hck0 HX0
  have HX1 := mkHid (IH (.iface T2 (.agg cs2)) a2 s1 w1 HC1.out (h2.below HL1.out.fb.bel) hd2 (by omega))
  obtain ⟨c1, hg1⟩ : ∃ c1, c1 = Hs.walkL fs false d a2 (⟨s1, 0, 0⟩ : Hs.Chk) := ⟨_, rfl⟩
  have HG1 := mkHid hg1.symm
  first | rw [← hg1] at HX1 | rw [show _ = c1 from hg1.symm] at HX1
  clear hg1
  have m1_0 := cell_of_block HL1.out.blk (i := 0) rfl
  have m1_1 := cell_of_block HL1.out.blk (i := 1) rfl
  have m1_2 := cell_of_block HL1.out.blk (i := 2) rfl
  have hz1 := lt_of_block HL1.out.blk
  go_wp2_with fail
  refine HX1.out.mono ?_
  rintro e w2 ⟨hb1, ⟨s2, hc1, rfl, hck1⟩ | ⟨hk1, rfl⟩⟩
  rotate_left
  · have HB := mkHid (HL1.out.fb.trans hb1)
    have HK := mkHid hk1
    clear hb1 hk1
    go_wp2_with fail
    exact ⟨rfl, OutC.fault (c1 := c1) HB.out HK.out (by rw [HG0.out, HG1.out]; exact Stk.refl c1)⟩
  have HL2 := mkHid (HL1.out.step hb1)
  have HC2 := mkHid hck1
  subst hc1
  clear hb1 hck1 HX1 m1_0 m1_1 m1_2 hz1
  go_wp2_with fail
  go_end0
  exact OutC.done HL2.out.fb (by rw [HG0.out, HG1.out]) HC2.out

set_option maxRecDepth 100000 in
set_option maxHeartbeats 4000000 in
theorem nd_Binary (cb lo : Nat) (fs : List Hs.Ast) (fv : Value) (d : Nat) (IH : NodeAt cb lo fs fv d) (seen : List (List UInt8)) (w : World) (h : CK cb lo fs fv w seen) (l : Nat) (x : ByteArray) (v1 : Value) (a1 : Hs.Ast) (h1 : PN (Btw lo cb) w v1 a1) (hd1 : Hs.dp d a1) (v2 : Value) (a2 : Hs.Ast) (h2 : PN (Btw lo cb) w v2 a2) (hd2 : Hs.dp d a2) (hwt : seen.length + (Hs.wt d a1 + (Hs.wt d a2 + 0)) ≤ 90000) :
    Calls Tryz.prog 167 #[.pointer (some ⟨cb, 0, none⟩), .iface 352 (.agg #[.int .i64 l, .string x, v1, v2])] w (OutC cb lo fs fv w (Hs.walkL fs false d a2 (Hs.walkL fs false d a1 ⟨seen, 0, 0⟩))) := by
  obtain ⟨T1, cs1, rfl⟩ := h1.form
  obtain ⟨T2, cs2, rfl⟩ := h2.form
  have q0 := ta_Binary_Declare
  have q1 := ta_Binary_Assign
  have q2 := ta_Binary_If
  have q3 := ta_Binary_While
  have q4 := ta_Binary_Return
  have q5 := ta_Binary_Print
  have q6 := ta_Binary_Call
  have q7 := ta_Binary_Variable
  have q8 := ta_Binary_List
  have q9 := ta_Binary_Index
  have q10 := ta_Binary_Unary
  have q11 := ta_Binary_Binary
  obtain ⟨hl0, hk0⟩ := Loc.new h (.cells #[.int .i64 l, .string x, (.iface T1 (.agg cs1)), (.iface T2 (.agg cs2))] 352)
  have HL0 := mkHid hl0
  have HC0 := mkHid hk0
  clear h hl0 hk0
  go_enter Tryz.func167, Tryz.ntmps167
  have HX0 := mkHid (IH (.iface T1 (.agg cs1)) a1 seen (w.alloc (.cells #[.int .i64 l, .string x, (.iface T1 (.agg cs1)), (.iface T2 (.agg cs2))] 352)) HC0.out (h1.below HL0.out.fb.bel) hd1 (by omega))
  have HA0 := mkHid (walkL_adds fs false d a1 ⟨seen, 0, 0⟩)
  obtain ⟨c0, hg0⟩ : ∃ c0, c0 = Hs.walkL fs false d a1 (⟨seen, 0, 0⟩ : Hs.Chk) := ⟨_, rfl⟩
  have HG0 := mkHid hg0.symm
  rw [← hg0] at HA0
  first | rw [← hg0] at HX0 | rw [show _ = c0 from hg0.symm] at HX0
  clear hg0
  go_wp2_with fail
  refine HX0.out.mono ?_
  rintro e w1 ⟨hb0, ⟨s1, hc0, rfl, hck0⟩ | ⟨hk0, rfl⟩⟩
  rotate_left
  · have HB := mkHid (HL0.out.fb.trans hb0)
    have HK := mkHid hk0
    clear hb0 hk0
    go_wp2_with fail
    exact ⟨rfl, OutC.fault (c1 := c0) HB.out HK.out (by rw [HG0.out]; exact (Stk.walk fs false d a2 c0))⟩
  have HL1 := mkHid (HL0.out.step hb0)
  have HC1 := mkHid hck0
  subst hc0
  have hn1 : s1.length + (Hs.wt d a2 + 0) ≤ 90000 := adds_len HA0.out rfl (by omega)
  clear hb0 hck0 HX0
  have HX1 := mkHid (IH (.iface T2 (.agg cs2)) a2 s1 w1 HC1.out (h2.below HL1.out.fb.bel) hd2 (by omega))
  obtain ⟨c1, hg1⟩ : ∃ c1, c1 = Hs.walkL fs false d a2 (⟨s1, 0, 0⟩ : Hs.Chk) := ⟨_, rfl⟩
  have HG1 := mkHid hg1.symm
  first | rw [← hg1] at HX1 | rw [show _ = c1 from hg1.symm] at HX1
  clear hg1
  have m1_0 := cell_of_block HL1.out.blk (i := 0) rfl
  have m1_1 := cell_of_block HL1.out.blk (i := 1) rfl
  have m1_2 := cell_of_block HL1.out.blk (i := 2) rfl
  have m1_3 := cell_of_block HL1.out.blk (i := 3) rfl
  have hz1 := lt_of_block HL1.out.blk
  go_wp2_with fail
  refine HX1.out.mono ?_
  rintro e w2 ⟨hb1, ⟨s2, hc1, rfl, hck1⟩ | ⟨hk1, rfl⟩⟩
  rotate_left
  · have HB := mkHid (HL1.out.fb.trans hb1)
    have HK := mkHid hk1
    clear hb1 hk1
    go_wp2_with fail
    exact ⟨rfl, OutC.fault (c1 := c1) HB.out HK.out (by rw [HG0.out, HG1.out]; exact Stk.refl c1)⟩
  have HL2 := mkHid (HL1.out.step hb1)
  have HC2 := mkHid hck1
  subst hc1
  clear hb1 hck1 HX1 m1_0 m1_1 m1_2 m1_3 hz1
  go_wp2_with fail
  go_end0
  exact OutC.done HL2.out.fb (by rw [HG0.out, HG1.out]) HC2.out

set_option maxRecDepth 100000 in
set_option maxHeartbeats 4000000 in
theorem nd_While (cb lo : Nat) (fs : List Hs.Ast) (fv : Value) (d : Nat) (IH : NodeAt cb lo fs fv d) (HBK : BlockAt cb lo fs fv d) (seen : List (List UInt8)) (w : World) (h : CK cb lo fs fv w seen) (l : Nat) (v1 : Value) (a1 : Hs.Ast) (h1 : PN (Btw lo cb) w v1 a1) (hd1 : Hs.dp d a1) (u2 : Value) (b2 : Hs.Ast) (hop2 : b2.op = [98, 108, 111, 99, 107]) (g2 : PKid (Btw lo cb) w u2 b2.kids) (hd2b : Hs.dp d b2) (hwt : seen.length + (Hs.wt d a1 + (Hs.wt d b2 + 0)) ≤ 90000) :
    Calls Tryz.prog 167 #[.pointer (some ⟨cb, 0, none⟩), .iface 336 (.agg #[.int .i64 l, v1, u2])] w (OutC cb lo fs fv w (Hs.walkL fs false d b2 (Hs.walkL fs false d a1 ⟨seen, 0, 0⟩))) := by
  obtain ⟨T1, cs1, rfl⟩ := h1.form
  obtain ⟨x2, y2, rfl⟩ := g2.slice
  have q0 := ta_While_Declare
  have q1 := ta_While_Assign
  have q2 := ta_While_If
  have q3 := ta_While_While
  obtain ⟨hl0, hk0⟩ := Loc.new h (.cells #[.int .i64 l, (.iface T1 (.agg cs1)), (.slice x2 b2.kids.length y2)] 336)
  have HL0 := mkHid hl0
  have HC0 := mkHid hk0
  clear h hl0 hk0
  go_enter Tryz.func167, Tryz.ntmps167
  have HX0 := mkHid (IH (.iface T1 (.agg cs1)) a1 seen (w.alloc (.cells #[.int .i64 l, (.iface T1 (.agg cs1)), (.slice x2 b2.kids.length y2)] 336)) HC0.out (h1.below HL0.out.fb.bel) hd1 (by omega))
  have HA0 := mkHid (walkL_adds fs false d a1 ⟨seen, 0, 0⟩)
  obtain ⟨c0, hg0⟩ : ∃ c0, c0 = Hs.walkL fs false d a1 (⟨seen, 0, 0⟩ : Hs.Chk) := ⟨_, rfl⟩
  have HG0 := mkHid hg0.symm
  rw [← hg0] at HA0
  first | rw [← hg0] at HX0 | rw [show _ = c0 from hg0.symm] at HX0
  clear hg0
  go_wp2_with fail
  refine HX0.out.mono ?_
  rintro e w1 ⟨hb0, ⟨s1, hc0, rfl, hck0⟩ | ⟨hk0, rfl⟩⟩
  rotate_left
  · have HB := mkHid (HL0.out.fb.trans hb0)
    have HK := mkHid hk0
    clear hb0 hk0
    go_wp2_with fail
    exact ⟨rfl, OutC.fault (c1 := c0) HB.out HK.out (by rw [HG0.out]; exact (Stk.walk fs false d b2 c0))⟩
  have HL1 := mkHid (HL0.out.step hb0)
  have HC1 := mkHid hck0
  subst hc0
  have hn1 : s1.length + (Hs.wt d b2 + 0) ≤ 90000 := adds_len HA0.out rfl (by omega)
  clear hb0 hck0 HX0
  have HX1 := mkHid (HBK (.slice x2 b2.kids.length y2) b2 s1 w1 HC1.out hop2 (g2.below HL1.out.fb.bel) hd2b (by omega))
  obtain ⟨c1, hg1⟩ : ∃ c1, c1 = Hs.walkL fs false d b2 (⟨s1, 0, 0⟩ : Hs.Chk) := ⟨_, rfl⟩
  have HG1 := mkHid hg1.symm
  first | rw [← hg1] at HX1 | rw [show _ = c1 from hg1.symm] at HX1
  clear hg1
  have m1_0 := cell_of_block HL1.out.blk (i := 0) rfl
  have m1_1 := cell_of_block HL1.out.blk (i := 1) rfl
  have m1_2 := cell_of_block HL1.out.blk (i := 2) rfl
  have hz1 := lt_of_block HL1.out.blk
  go_wp2_with fail
  refine HX1.out.mono ?_
  rintro e w2 ⟨hb1, ⟨s2, hc1, rfl, hck1⟩ | ⟨hk1, rfl⟩⟩
  rotate_left
  · have HB := mkHid (HL1.out.fb.trans hb1)
    have HK := mkHid hk1
    clear hb1 hk1
    go_wp2_with fail
    exact ⟨rfl, OutC.fault (c1 := c1) HB.out HK.out (by rw [HG0.out, HG1.out]; exact Stk.refl c1)⟩
  have HL2 := mkHid (HL1.out.step hb1)
  have HC2 := mkHid hck1
  subst hc1
  clear hb1 hck1 HX1 m1_0 m1_1 m1_2 hz1
  go_wp2_with fail
  go_end0
  exact OutC.done HL2.out.fb (by rw [HG0.out, HG1.out]) HC2.out

set_option maxRecDepth 100000 in
set_option maxHeartbeats 4000000 in
theorem nd_If (cb lo : Nat) (fs : List Hs.Ast) (fv : Value) (d : Nat) (IH : NodeAt cb lo fs fv d) (HBK : BlockAt cb lo fs fv d) (seen : List (List UInt8)) (w : World) (h : CK cb lo fs fv w seen) (l : Nat) (v1 : Value) (a1 : Hs.Ast) (h1 : PN (Btw lo cb) w v1 a1) (hd1 : Hs.dp d a1) (u2 : Value) (b2 : Hs.Ast) (hop2 : b2.op = [98, 108, 111, 99, 107]) (g2 : PKid (Btw lo cb) w u2 b2.kids) (hd2b : Hs.dp d b2) (u3 : Value) (b3 : Hs.Ast) (hop3 : b3.op = [98, 108, 111, 99, 107]) (g3 : PKid (Btw lo cb) w u3 b3.kids) (hd3b : Hs.dp d b3) (hwt : seen.length + (Hs.wt d a1 + (Hs.wt d b2 + (Hs.wt d b3 + 0))) ≤ 90000) :
    Calls Tryz.prog 167 #[.pointer (some ⟨cb, 0, none⟩), .iface 334 (.agg #[.int .i64 l, v1, u2, u3])] w (OutC cb lo fs fv w (Hs.walkL fs false d b3 (Hs.walkL fs false d b2 (Hs.walkL fs false d a1 ⟨seen, 0, 0⟩)))) := by
  obtain ⟨T1, cs1, rfl⟩ := h1.form
  obtain ⟨x2, y2, rfl⟩ := g2.slice
  obtain ⟨x3, y3, rfl⟩ := g3.slice
  have q0 := ta_If_Declare
  have q1 := ta_If_Assign
  have q2 := ta_If_If
  obtain ⟨hl0, hk0⟩ := Loc.new h (.cells #[.int .i64 l, (.iface T1 (.agg cs1)), (.slice x2 b2.kids.length y2), (.slice x3 b3.kids.length y3)] 334)
  have HL0 := mkHid hl0
  have HC0 := mkHid hk0
  clear h hl0 hk0
  go_enter Tryz.func167, Tryz.ntmps167
  have HX0 := mkHid (IH (.iface T1 (.agg cs1)) a1 seen (w.alloc (.cells #[.int .i64 l, (.iface T1 (.agg cs1)), (.slice x2 b2.kids.length y2), (.slice x3 b3.kids.length y3)] 334)) HC0.out (h1.below HL0.out.fb.bel) hd1 (by omega))
  have HA0 := mkHid (walkL_adds fs false d a1 ⟨seen, 0, 0⟩)
  obtain ⟨c0, hg0⟩ : ∃ c0, c0 = Hs.walkL fs false d a1 (⟨seen, 0, 0⟩ : Hs.Chk) := ⟨_, rfl⟩
  have HG0 := mkHid hg0.symm
  rw [← hg0] at HA0
  first | rw [← hg0] at HX0 | rw [show _ = c0 from hg0.symm] at HX0
  clear hg0
  go_wp2_with fail
  refine HX0.out.mono ?_
  rintro e w1 ⟨hb0, ⟨s1, hc0, rfl, hck0⟩ | ⟨hk0, rfl⟩⟩
  rotate_left
  · have HB := mkHid (HL0.out.fb.trans hb0)
    have HK := mkHid hk0
    clear hb0 hk0
    go_wp2_with fail
    exact ⟨rfl, OutC.fault (c1 := c0) HB.out HK.out (by rw [HG0.out]; exact ((Stk.walk fs false d b2 c0)).trans (Stk.walk fs false d b3 _))⟩
  have HL1 := mkHid (HL0.out.step hb0)
  have HC1 := mkHid hck0
  subst hc0
  have hn1 : s1.length + (Hs.wt d b2 + (Hs.wt d b3 + 0)) ≤ 90000 := adds_len HA0.out rfl (by omega)
  clear hb0 hck0 HX0
  have HX1 := mkHid (HBK (.slice x2 b2.kids.length y2) b2 s1 w1 HC1.out hop2 (g2.below HL1.out.fb.bel) hd2b (by omega))
  have HA1 := mkHid (walkL_adds fs false d b2 ⟨s1, 0, 0⟩)
  obtain ⟨c1, hg1⟩ : ∃ c1, c1 = Hs.walkL fs false d b2 (⟨s1, 0, 0⟩ : Hs.Chk) := ⟨_, rfl⟩
  have HG1 := mkHid hg1.symm
  rw [← hg1] at HA1
  first | rw [← hg1] at HX1 | rw [show _ = c1 from hg1.symm] at HX1
  clear hg1
  have m1_0 := cell_of_block HL1.out.blk (i := 0) rfl
  have m1_1 := cell_of_block HL1.out.blk (i := 1) rfl
  have m1_2 := cell_of_block HL1.out.blk (i := 2) rfl
  have m1_3 := cell_of_block HL1.out.blk (i := 3) rfl
  have hz1 := lt_of_block HL1.out.blk
  go_wp2_with fail
  refine HX1.out.mono ?_
  rintro e w2 ⟨hb1, ⟨s2, hc1, rfl, hck1⟩ | ⟨hk1, rfl⟩⟩
  rotate_left
  · have HB := mkHid (HL1.out.fb.trans hb1)
    have HK := mkHid hk1
    clear hb1 hk1
    go_wp2_with fail
    exact ⟨rfl, OutC.fault (c1 := c1) HB.out HK.out (by rw [HG0.out, HG1.out]; exact (Stk.walk fs false d b3 c1))⟩
  have HL2 := mkHid (HL1.out.step hb1)
  have HC2 := mkHid hck1
  subst hc1
  have hn2 : s2.length + (Hs.wt d b3 + 0) ≤ 90000 := adds_len HA1.out rfl (by omega)
  clear hb1 hck1 HX1 m1_0 m1_1 m1_2 m1_3 hz1
  have HX2 := mkHid (HBK (.slice x3 b3.kids.length y3) b3 s2 w2 HC2.out hop3 (g3.below HL2.out.fb.bel) hd3b (by omega))
  obtain ⟨c2, hg2⟩ : ∃ c2, c2 = Hs.walkL fs false d b3 (⟨s2, 0, 0⟩ : Hs.Chk) := ⟨_, rfl⟩
  have HG2 := mkHid hg2.symm
  first | rw [← hg2] at HX2 | rw [show _ = c2 from hg2.symm] at HX2
  clear hg2
  have m2_0 := cell_of_block HL2.out.blk (i := 0) rfl
  have m2_1 := cell_of_block HL2.out.blk (i := 1) rfl
  have m2_2 := cell_of_block HL2.out.blk (i := 2) rfl
  have m2_3 := cell_of_block HL2.out.blk (i := 3) rfl
  have hz2 := lt_of_block HL2.out.blk
  go_wp2_with fail
  refine HX2.out.mono ?_
  rintro e w3 ⟨hb2, ⟨s3, hc2, rfl, hck2⟩ | ⟨hk2, rfl⟩⟩
  rotate_left
  · have HB := mkHid (HL2.out.fb.trans hb2)
    have HK := mkHid hk2
    clear hb2 hk2
    go_wp2_with fail
    exact ⟨rfl, OutC.fault (c1 := c2) HB.out HK.out (by rw [HG0.out, HG1.out, HG2.out]; exact Stk.refl c2)⟩
  have HL3 := mkHid (HL2.out.step hb2)
  have HC3 := mkHid hck2
  subst hc2
  clear hb2 hck2 HX2 m2_0 m2_1 m2_2 m2_3 hz2
  go_wp2_with fail
  go_end0
  exact OutC.done HL3.out.fb (by rw [HG0.out, HG1.out, HG2.out]) HC3.out

set_option maxRecDepth 100000 in
set_option maxHeartbeats 4000000 in
theorem nd_IfN (cb lo : Nat) (fs : List Hs.Ast) (fv : Value) (d : Nat) (IH : NodeAt cb lo fs fv d) (HN : NodesAt cb lo fs fv d) (HBK : BlockAt cb lo fs fv d) (seen : List (List UInt8)) (w : World) (h : CK cb lo fs fv w seen) (l : Nat) (v1 : Value) (a1 : Hs.Ast) (h1 : PN (Btw lo cb) w v1 a1) (hd1 : Hs.dp d a1) (u2 : Value) (b2 : Hs.Ast) (hop2 : b2.op = [98, 108, 111, 99, 107]) (g2 : PKid (Btw lo cb) w u2 b2.kids) (hd2b : Hs.dp d b2) (hwt : seen.length + (Hs.wt d a1 + (Hs.wt d b2 + (0 + 0))) ≤ 90000) :
    Calls Tryz.prog 167 #[.pointer (some ⟨cb, 0, none⟩), .iface 334 (.agg #[.int .i64 l, v1, u2, .slice none 0 0])] w (OutC cb lo fs fv w ((Hs.walkL fs false d b2 (Hs.walkL fs false d a1 ⟨seen, 0, 0⟩)))) := by
  obtain ⟨T1, cs1, rfl⟩ := h1.form
  obtain ⟨x2, y2, rfl⟩ := g2.slice
  have q0 := ta_If_Declare
  have q1 := ta_If_Assign
  have q2 := ta_If_If
  obtain ⟨hl0, hk0⟩ := Loc.new h (.cells #[.int .i64 l, (.iface T1 (.agg cs1)), (.slice x2 b2.kids.length y2), .slice none 0 0] 334)
  have HL0 := mkHid hl0
  have HC0 := mkHid hk0
  clear h hl0 hk0
  go_enter Tryz.func167, Tryz.ntmps167
  have HX0 := mkHid (IH (.iface T1 (.agg cs1)) a1 seen (w.alloc (.cells #[.int .i64 l, (.iface T1 (.agg cs1)), (.slice x2 b2.kids.length y2), .slice none 0 0] 334)) HC0.out (h1.below HL0.out.fb.bel) hd1 (by omega))
  have HA0 := mkHid (walkL_adds fs false d a1 ⟨seen, 0, 0⟩)
  obtain ⟨c0, hg0⟩ : ∃ c0, c0 = Hs.walkL fs false d a1 (⟨seen, 0, 0⟩ : Hs.Chk) := ⟨_, rfl⟩
  have HG0 := mkHid hg0.symm
  rw [← hg0] at HA0
  first | rw [← hg0] at HX0 | rw [show _ = c0 from hg0.symm] at HX0
  clear hg0
  go_wp2_with fail
  refine HX0.out.mono ?_
  rintro e w1 ⟨hb0, ⟨s1, hc0, rfl, hck0⟩ | ⟨hk0, rfl⟩⟩
  rotate_left
  · have HB := mkHid (HL0.out.fb.trans hb0)
    have HK := mkHid hk0
    clear hb0 hk0
    go_wp2_with fail
    exact ⟨rfl, OutC.fault (c1 := c0) HB.out HK.out (by rw [HG0.out]; exact ((Stk.walk fs false d b2 c0)).trans (Stk.refl _))⟩
  have HL1 := mkHid (HL0.out.step hb0)
  have HC1 := mkHid hck0
  subst hc0
  have hn1 : s1.length + (Hs.wt d b2 + (0 + 0)) ≤ 90000 := adds_len HA0.out rfl (by omega)
  clear hb0 hck0 HX0
  have HX1 := mkHid (HBK (.slice x2 b2.kids.length y2) b2 s1 w1 HC1.out hop2 (g2.below HL1.out.fb.bel) hd2b (by omega))
  have HA1 := mkHid (walkL_adds fs false d b2 ⟨s1, 0, 0⟩)
  obtain ⟨c1, hg1⟩ : ∃ c1, c1 = Hs.walkL fs false d b2 (⟨s1, 0, 0⟩ : Hs.Chk) := ⟨_, rfl⟩
  have HG1 := mkHid hg1.symm
  rw [← hg1] at HA1
  first | rw [← hg1] at HX1 | rw [show _ = c1 from hg1.symm] at HX1
  clear hg1
  have m1_0 := cell_of_block HL1.out.blk (i := 0) rfl
  have m1_1 := cell_of_block HL1.out.blk (i := 1) rfl
  have m1_2 := cell_of_block HL1.out.blk (i := 2) rfl
  have m1_3 := cell_of_block HL1.out.blk (i := 3) rfl
  have hz1 := lt_of_block HL1.out.blk
  go_wp2_with fail
  refine HX1.out.mono ?_
  rintro e w2 ⟨hb1, ⟨s2, hc1, rfl, hck1⟩ | ⟨hk1, rfl⟩⟩
  rotate_left
  · have HB := mkHid (HL1.out.fb.trans hb1)
    have HK := mkHid hk1
    clear hb1 hk1
    go_wp2_with fail
    exact ⟨rfl, OutC.fault (c1 := c1) HB.out HK.out (by rw [HG0.out, HG1.out]; exact (Stk.refl c1))⟩
  have HL2 := mkHid (HL1.out.step hb1)
  have HC2 := mkHid hck1
  subst hc1
  have hn2 : s2.length + (0 + 0) ≤ 90000 := adds_len HA1.out rfl (by omega)
  clear hb1 hck1 HX1 m1_0 m1_1 m1_2 m1_3 hz1
  have HX2 := mkHid (nil_block d HN s2 w2 HC2.out (by omega))
  obtain ⟨c2, hg2⟩ : ∃ c2, c2 = (⟨s2, 0, 0⟩ : Hs.Chk) := ⟨_, rfl⟩
  have HG2 := mkHid hg2.symm
  first | rw [← hg2] at HX2 | rw [show _ = c2 from hg2.symm] at HX2
  clear hg2
  have m2_0 := cell_of_block HL2.out.blk (i := 0) rfl
  have m2_1 := cell_of_block HL2.out.blk (i := 1) rfl
  have m2_2 := cell_of_block HL2.out.blk (i := 2) rfl
  have m2_3 := cell_of_block HL2.out.blk (i := 3) rfl
  have hz2 := lt_of_block HL2.out.blk
  go_wp2_with fail
  refine HX2.out.mono ?_
  rintro e w3 ⟨hb2, ⟨s3, hc2, rfl, hck2⟩ | ⟨hk2, rfl⟩⟩
  rotate_left
  · have HB := mkHid (HL2.out.fb.trans hb2)
    have HK := mkHid hk2
    clear hb2 hk2
    go_wp2_with fail
    exact ⟨rfl, OutC.fault (c1 := c2) HB.out HK.out (by rw [HG0.out, HG1.out, HG2.out]; exact Stk.refl c2)⟩
  have HL3 := mkHid (HL2.out.step hb2)
  have HC3 := mkHid hck2
  subst hc2
  clear hb2 hck2 HX2 m2_0 m2_1 m2_2 m2_3 hz2
  go_wp2_with fail
  go_end0
  exact OutC.done HL3.out.fb (by rw [HG0.out, HG1.out, HG2.out]) HC3.out

set_option maxRecDepth 100000 in
set_option maxHeartbeats 4000000 in
theorem nd_Variable (cb lo : Nat) (fs : List Hs.Ast) (fv : Value)  (seen : List (List UInt8)) (w : World) (h : CK cb lo fs fv w seen) (l : Nat) (x : List UInt8) (hwt : seen.length + (0 + 0) ≤ 90000) :
    Calls Tryz.prog 167 #[.pointer (some ⟨cb, 0, none⟩), .iface 344 (.agg #[.int .i64 l, .string (bs x)])] w (OutC cb lo fs fv w (useL ⟨seen, 0, 0⟩ l x)) := by
  have q0 := ta_Variable_Declare
  have q1 := ta_Variable_Assign
  have q2 := ta_Variable_If
  have q3 := ta_Variable_While
  have q4 := ta_Variable_Return
  have q5 := ta_Variable_Print
  have q6 := ta_Variable_Call
  have q7 := ta_Variable_Variable
  obtain ⟨hl0, hk0⟩ := Loc.new h (.cells #[.int .i64 l, .string (bs x)] 344)
  have HL0 := mkHid hl0
  have HC0 := mkHid hk0
  clear h hl0 hk0
  go_enter Tryz.func167, Tryz.ntmps167
  have HX0 := mkHid (use_at cb lo fs fv (w.alloc (.cells #[.int .i64 l, .string (bs x)] 344)) seen HC0.out (by omega) l x)
  obtain ⟨c0, hg0⟩ : ∃ c0, c0 = useL (⟨seen, 0, 0⟩ : Hs.Chk) l x := ⟨_, rfl⟩
  have HG0 := mkHid hg0.symm
  first | rw [← hg0] at HX0 | rw [show _ = c0 from hg0.symm] at HX0
  clear hg0
  go_wp2_with fail
  refine HX0.out.mono ?_
  rintro e w1 ⟨hb0, ⟨s1, hc0, rfl, hck0⟩ | ⟨hk0, rfl⟩⟩
  rotate_left
  · have HB := mkHid (HL0.out.fb.trans hb0)
    have HK := mkHid hk0
    clear hb0 hk0
    go_wp2_with fail
    exact ⟨rfl, OutC.fault (c1 := c0) HB.out HK.out (by rw [HG0.out]; exact Stk.refl c0)⟩
  have HL1 := mkHid (HL0.out.step hb0)
  have HC1 := mkHid hck0
  subst hc0
  clear hb0 hck0 HX0
  go_wp2_with fail
  go_end0
  exact OutC.done HL1.out.fb (by rw [HG0.out]) HC1.out

set_option maxRecDepth 100000 in
set_option maxHeartbeats 4000000 in
theorem nd_Assign (cb lo : Nat) (fs : List Hs.Ast) (fv : Value) (d : Nat) (IH : NodeAt cb lo fs fv d) (HN : NodesAt cb lo fs fv d) (seen : List (List UInt8)) (w : World) (h : CK cb lo fs fv w seen) (l : Nat) (x : List UInt8) (u2 : Value) (k2 : List Hs.Ast) (g2 : PKid (Btw lo cb) w u2 k2) (hk2d : ∀ k ∈ k2, Hs.dp d k) (v1 : Value) (a1 : Hs.Ast) (h1 : PN (Btw lo cb) w v1 a1) (hd1 : Hs.dp d a1) (hwt : seen.length + (0 + ((k2.map (Hs.wt d)).sum + (Hs.wt d a1 + 0))) ≤ 90000) :
    Calls Tryz.prog 167 #[.pointer (some ⟨cb, 0, none⟩), .iface 332 (.agg #[.int .i64 l, .string (bs x), u2, v1])] w (OutC cb lo fs fv w (Hs.walkL fs false d a1 (foldL fs d k2 (useL ⟨seen, 0, 0⟩ l x)))) := by
  obtain ⟨x2, y2, rfl⟩ := g2.slice
  obtain ⟨T1, cs1, rfl⟩ := h1.form
  have q0 := ta_Assign_Declare
  have q1 := ta_Assign_Assign
  obtain ⟨hl0, hk0⟩ := Loc.new h (.cells #[.int .i64 l, .string (bs x), (.slice x2 k2.length y2), (.iface T1 (.agg cs1))] 332)
  have HL0 := mkHid hl0
  have HC0 := mkHid hk0
  clear h hl0 hk0
  go_enter Tryz.func167, Tryz.ntmps167
  have HX0 := mkHid (use_at cb lo fs fv (w.alloc (.cells #[.int .i64 l, .string (bs x), (.slice x2 k2.length y2), (.iface T1 (.agg cs1))] 332)) seen HC0.out (by omega) l x)
  have HA0 := mkHid (useL_adds ⟨seen, 0, 0⟩ l x)
  obtain ⟨c0, hg0⟩ : ∃ c0, c0 = useL (⟨seen, 0, 0⟩ : Hs.Chk) l x := ⟨_, rfl⟩
  have HG0 := mkHid hg0.symm
  rw [← hg0] at HA0
  first | rw [← hg0] at HX0 | rw [show _ = c0 from hg0.symm] at HX0
  clear hg0
  go_wp2_with fail
  refine HX0.out.mono ?_
  rintro e w1 ⟨hb0, ⟨s1, hc0, rfl, hck0⟩ | ⟨hk0, rfl⟩⟩
  rotate_left
  · have HB := mkHid (HL0.out.fb.trans hb0)
    have HK := mkHid hk0
    clear hb0 hk0
    go_wp2_with fail
    exact ⟨rfl, OutC.fault (c1 := c0) HB.out HK.out (by rw [HG0.out]; exact ((Stk.fold (fun s k => Stk.walk fs false d k s) _ _)).trans (Stk.walk fs false d a1 _))⟩
  have HL1 := mkHid (HL0.out.step hb0)
  have HC1 := mkHid hck0
  subst hc0
  have hn1 : s1.length + ((k2.map (Hs.wt d)).sum + (Hs.wt d a1 + 0)) ≤ 90000 := adds_len HA0.out rfl (by omega)
  clear hb0 hck0 HX0
  have HX1 := mkHid (HN (.slice x2 k2.length y2) k2 s1 w1 HC1.out (g2.below HL1.out.fb.bel) hk2d (by omega) (by have := kids_len hk2d; omega))
  have HA1 := mkHid (fold_adds fs d k2 ⟨s1, 0, 0⟩)
  obtain ⟨c1, hg1⟩ : ∃ c1, c1 = foldL fs d k2 (⟨s1, 0, 0⟩ : Hs.Chk) := ⟨_, rfl⟩
  have HG1 := mkHid hg1.symm
  rw [← hg1] at HA1
  first | rw [← hg1] at HX1 | rw [show _ = c1 from hg1.symm] at HX1
  clear hg1
  have m1_0 := cell_of_block HL1.out.blk (i := 0) rfl
  have m1_1 := cell_of_block HL1.out.blk (i := 1) rfl
  have m1_2 := cell_of_block HL1.out.blk (i := 2) rfl
  have m1_3 := cell_of_block HL1.out.blk (i := 3) rfl
  have hz1 := lt_of_block HL1.out.blk
  go_wp2_with fail
  refine HX1.out.mono ?_
  rintro e w2 ⟨hb1, ⟨s2, hc1, rfl, hck1⟩ | ⟨hk1, rfl⟩⟩
  rotate_left
  · have HB := mkHid (HL1.out.fb.trans hb1)
    have HK := mkHid hk1
    clear hb1 hk1
    go_wp2_with fail
    exact ⟨rfl, OutC.fault (c1 := c1) HB.out HK.out (by rw [HG0.out, HG1.out]; exact (Stk.walk fs false d a1 c1))⟩
  have HL2 := mkHid (HL1.out.step hb1)
  have HC2 := mkHid hck1
  subst hc1
  have hn2 : s2.length + (Hs.wt d a1 + 0) ≤ 90000 := adds_len HA1.out rfl (by omega)
  clear hb1 hck1 HX1 m1_0 m1_1 m1_2 m1_3 hz1
  have HX2 := mkHid (IH (.iface T1 (.agg cs1)) a1 s2 w2 HC2.out (h1.below HL2.out.fb.bel) hd1 (by omega))
  obtain ⟨c2, hg2⟩ : ∃ c2, c2 = Hs.walkL fs false d a1 (⟨s2, 0, 0⟩ : Hs.Chk) := ⟨_, rfl⟩
  have HG2 := mkHid hg2.symm
  first | rw [← hg2] at HX2 | rw [show _ = c2 from hg2.symm] at HX2
  clear hg2
  have m2_0 := cell_of_block HL2.out.blk (i := 0) rfl
  have m2_1 := cell_of_block HL2.out.blk (i := 1) rfl
  have m2_2 := cell_of_block HL2.out.blk (i := 2) rfl
  have m2_3 := cell_of_block HL2.out.blk (i := 3) rfl
  have hz2 := lt_of_block HL2.out.blk
  go_wp2_with fail
  refine HX2.out.mono ?_
  rintro e w3 ⟨hb2, ⟨s3, hc2, rfl, hck2⟩ | ⟨hk2, rfl⟩⟩
  rotate_left
  · have HB := mkHid (HL2.out.fb.trans hb2)
    have HK := mkHid hk2
    clear hb2 hk2
    go_wp2_with fail
    exact ⟨rfl, OutC.fault (c1 := c2) HB.out HK.out (by rw [HG0.out, HG1.out, HG2.out]; exact Stk.refl c2)⟩
  have HL3 := mkHid (HL2.out.step hb2)
  have HC3 := mkHid hck2
  subst hc2
  clear hb2 hck2 HX2 m2_0 m2_1 m2_2 m2_3 hz2
  go_wp2_with fail
  go_end0
  exact OutC.done HL3.out.fb (by rw [HG0.out, HG1.out, HG2.out]) HC3.out

end Go.Proofs.YtblbkfdhjfppkaaGreatDoor

/- Contracts of the program: names: calls, declarations. -/
namespace Go.Proofs.YtblbkfdhjfppkaaGreatDoor
open Go.RowKit

set_option maxRecDepth 100000 in
set_option maxHeartbeats 4000000 in
theorem nd_Call (cb lo : Nat) (fs : List Hs.Ast) (fv : Value) (hfl : fs.length ≤ 90000) (hfk : ∀ f ∈ fs, f.kids.length ≤ 90000) (d : Nat) (HN : NodesAt cb lo fs fv d) (c : Hs.Ast) (v : Value) (seen : List (List UInt8)) (w : World) (h : CK cb lo fs fv w seen) (hk : PKid (Btw lo cb) w v c.kids) (hd : ∀ k ∈ c.kids, Hs.dp d k) (hwt : seen.length + (c.kids.map (Hs.wt d)).sum ≤ 90000) :
    Calls Tryz.prog 167 #[.pointer (some ⟨cb, 0, none⟩), .iface 341 (.agg #[.int .i64 c.line, .string (bs c.text), v])] w (OutC cb lo fs fv w (foldL fs d c.kids (Hs.callsL fs false ⟨seen, 0, 0⟩ c))) := by
  obtain ⟨vx, vc, rfl⟩ := hk.slice
  have q0 := ta_Call_Declare
  have q1 := ta_Call_Assign
  have q2 := ta_Call_If
  have q3 := ta_Call_While
  have q4 := ta_Call_Return
  have q5 := ta_Call_Print
  have q6 := ta_Call_Call
  obtain ⟨hl0, hk0⟩ := Loc.new h (.cells #[.int .i64 c.line, .string (bs c.text), .slice vx c.kids.length vc] 341)
  have HL0 := mkHid hl0
  have HX := mkHid (ckCall_any cb lo fs fv hfl hfk d HN c (.slice vx c.kids.length vc) seen (w.alloc (.cells #[.int .i64 c.line, .string (bs c.text), .slice vx c.kids.length vc] 341)) hk0 (hk.below hl0.fb.bel) hd hwt (by have := kids_len hd; omega))
  clear h hl0 hk0
  generalize foldL fs d c.kids (Hs.callsL fs false ⟨seen, 0, 0⟩ c) = c at *
  go_enter Tryz.func167, Tryz.ntmps167
  go_wp2_with fail
  refine HX.out.mono ?_
  rintro e w1 ⟨hb, ⟨s, hc, rfl, hck⟩ | ⟨hk, rfl⟩⟩
  · have HB := mkHid (HL0.out.fb.trans hb)
    have HK := mkHid hck
    subst hc
    clear hb hck
    go_wp2_with fail
    go_end0
    exact OutC.done HB.out rfl HK.out
  · have HB := mkHid (HL0.out.fb.trans hb)
    have HK := mkHid hk
    clear hb hk
    go_wp2_with fail
    exact ⟨rfl, OutC.fault (c1 := c) HB.out HK.out (Stk.refl _)⟩

set_option maxRecDepth 100000 in
set_option maxHeartbeats 4000000 in
theorem nd_Declare (cb lo : Nat) (fs : List Hs.Ast) (fv : Value) (d : Nat) (IH : NodeAt cb lo fs fv d) (seen : List (List UInt8)) (w : World) (h : CK cb lo fs fv w seen) (l : Nat) (t a1 : Hs.Ast) (v1 : Value) (h1 : PN (Btw lo cb) w v1 a1) (hd1 : Hs.dp d a1) (hwt : seen.length + Hs.wt d a1 ≤ 90000) :
    Calls Tryz.prog 167 #[.pointer (some ⟨cb, 0, none⟩), .iface 329 (.agg #[.int .i64 l, .int .i64 t.line, .string (bs t.text), v1])] w (OutC cb lo fs fv w (({ Hs.walkL fs false d a1 (Hs.declaresL ⟨seen, 0, 0⟩ t) with seen := (Hs.walkL fs false d a1 (Hs.declaresL ⟨seen, 0, 0⟩ t)).seen ++ [t.text] } : Hs.Chk))) := by
  obtain ⟨T1, cs1, rfl⟩ := h1.form
  have q0 := ta_Declare_Declare
  obtain ⟨hl0, hk0⟩ := Loc.new h (.cells #[.int .i64 l, .int .i64 t.line, .string (bs t.text), .iface T1 (.agg cs1)] 329)
  have HL0 := mkHid hl0
  have HX := mkHid (declare_any cb lo fs fv d IH (w.alloc (.cells #[.int .i64 l, .int .i64 t.line, .string (bs t.text), .iface T1 (.agg cs1)] 329)) seen hk0 l t a1 (.iface T1 (.agg cs1)) (h1.below hl0.fb.bel) hd1 hwt)
  clear h hl0 hk0
  generalize ({ Hs.walkL fs false d a1 (Hs.declaresL ⟨seen, 0, 0⟩ t) with seen := (Hs.walkL fs false d a1 (Hs.declaresL ⟨seen, 0, 0⟩ t)).seen ++ [t.text] } : Hs.Chk) = c at *
  go_enter Tryz.func167, Tryz.ntmps167
  go_wp2_with fail
  refine HX.out.mono ?_
  rintro e w1 ⟨hb, ⟨s, hc, rfl, hck⟩ | ⟨hk, rfl⟩⟩
  · have HB := mkHid (HL0.out.fb.trans hb)
    have HK := mkHid hck
    subst hc
    clear hb hck
    go_wp2_with fail
    go_end0
    exact OutC.done HB.out rfl HK.out
  · have HB := mkHid (HL0.out.fb.trans hb)
    have HK := mkHid hk
    clear hb hk
    go_wp2_with fail
    exact ⟨rfl, OutC.fault (c1 := c) HB.out HK.out (Stk.refl _)⟩

set_option maxRecDepth 100000 in
set_option maxHeartbeats 4000000 in
theorem nd_Return0 (cb lo : Nat) (fs : List Hs.Ast) (fv : Value)  (seen : List (List UInt8)) (w : World) (h : CK cb lo fs fv w seen) (l m : Nat) :
    Calls Tryz.prog 167 #[.pointer (some ⟨cb, 0, none⟩), .iface 338 (.agg #[.int .i64 l, .iface 397 (.agg #[.int .i64 m, .int .i64 0])])] w (OutC cb lo fs fv w ((⟨seen, 0, 0⟩ : Hs.Chk))) := by
  have q0 := ta_Return_Declare
  have q1 := ta_Return_Assign
  have q2 := ta_Return_If
  have q3 := ta_Return_While
  have q4 := ta_Return_Return
  obtain ⟨hl0, hk0⟩ := Loc.new h (.cells #[.int .i64 l, .iface 397 (.agg #[.int .i64 m, .int .i64 0])] 338)
  have HL0 := mkHid hl0
  have HX := mkHid (nd_Number cb lo fs fv seen (w.alloc (.cells #[.int .i64 l, .iface 397 (.agg #[.int .i64 m, .int .i64 0])] 338)) hk0 m 0)
  clear h hl0 hk0
  generalize (⟨seen, 0, 0⟩ : Hs.Chk) = c at *
  go_enter Tryz.func167, Tryz.ntmps167
  go_wp2_with fail
  refine HX.out.mono ?_
  rintro e w1 ⟨hb, ⟨s, hc, rfl, hck⟩ | ⟨hk, rfl⟩⟩
  · have HB := mkHid (HL0.out.fb.trans hb)
    have HK := mkHid hck
    subst hc
    clear hb hck
    go_wp2_with fail
    go_end0
    exact OutC.done HB.out rfl HK.out
  · have HB := mkHid (HL0.out.fb.trans hb)
    have HK := mkHid hk
    clear hb hk
    go_wp2_with fail
    exact ⟨rfl, OutC.fault (c1 := c) HB.out HK.out (Stk.refl _)⟩

end Go.Proofs.YtblbkfdhjfppkaaGreatDoor

/- Contracts of the program: names: a node, whatever it is. -/
namespace Go.Proofs.YtblbkfdhjfppkaaGreatDoor
open Go.RowKit

theorem walk_plain {fs : List Hs.Ast} {d : Nat} {a : Hs.Ast} {s : Hs.Chk} (hv : (a.op == [118, 97, 114]) = false) (hb : (a.op == [98, 108, 111, 99, 107]) = false) : Hs.walkL fs false (d + 1) a s = foldL fs d a.kids (Hs.lookL fs false s a) := by
  rw [Hs.walkL, if_neg (by rw [hv]; simp)]
  simp only [hb]
  rfl
theorem look_plain {fs : List Hs.Ast} {a : Hs.Ast} {s : Hs.Chk} (h1 : (a.op == [115, 101, 116]) = false) (h2 : (a.op == [110, 97, 109, 101]) = false) (h3 : (a.op == [99, 97, 108, 108]) = false) : Hs.lookL fs false s a = s := by
  unfold Hs.lookL; rw [h1, h2, h3]; rfl
theorem look_use {fs : List Hs.Ast} {a : Hs.Ast} {s : Hs.Chk} (h : (a.op == [115, 101, 116] || a.op == [110, 97, 109, 101]) = true) : Hs.lookL fs false s a = useL s a.line a.text := by
  unfold Hs.lookL; rw [h]; rfl
theorem look_call {fs : List Hs.Ast} {a : Hs.Ast} {s : Hs.Chk} (h : a.op = [99, 97, 108, 108]) : Hs.lookL fs false s a = Hs.callsL fs false s a := by
  unfold Hs.lookL; rw [h]; rfl
theorem op_ne {x y : List UInt8} (h : Hs.levelOf x ≠ 9) (hy : Hs.levelOf y = 9) : (x == y) = false := by
  rw [beq_eq_false_iff_ne]; intro e; rw [e] at h; exact h hy

theorem node_step (cb lo : Nat) (fs : List Hs.Ast) (fv : Value) (hfl : fs.length ≤ 90000) (hfk : ∀ f ∈ fs, f.kids.length ≤ 90000) (d : Nat) (IHs : ∀ e, e ≤ d → NodeAt cb lo fs fv e) : NodeAt cb lo fs fv (d + 1) := by
  intro v a seen w h hn hdp hwt
  obtain ⟨T, cs, ps, rfl, hsh, hps⟩ := hn.parts
  have IH := IHs d (Nat.le_refl _)
  have HN := nodes_any cb lo fs fv d IH
  have HBK : BlockAt cb lo fs fv d := by
    cases d with
    | zero => exact fun _ _ _ _ _ _ _ hd _ => hd.elim
    | succ e => exact block_at (nodes_any cb lo fs fv e (IHs e (by omega)))
  rw [Hs.wt] at hwt
  have hdk : ∀ k ∈ a.kids, Hs.dp d k := hdp
  clear hn hdp
  rcases hsh with ⟨rfl, k, rfl, hop, hk, hkids, rfl⟩ | ⟨rfl, rfl, hop, hkids, rfl⟩ | ⟨rfl, rfl, hop, hkids, rfl⟩ | ⟨rfl, sv, rfl, hop, rfl⟩ | ⟨rfl, sv, rfl, hop, rfl⟩ | ⟨rfl, rfl, hop, hkids, rfl⟩ | ⟨rfl, l, v1, v2, a1, a2, rfl, hop, hkids, rfl⟩ | ⟨rfl, o, v1, a1, rfl, ho, hop, hkids, rfl⟩ | ⟨rfl, l, v1, v2, a1, a2, rfl, hop, hkids, rfl⟩ | ⟨rfl, v1, t, a1, rfl, hop, hkids, rfl⟩ | ⟨rfl, sv, v1, l, a1, rfl, hop, hkids, rfl⟩ | ⟨rfl, v1, s1, a1, b1, rfl, hop, hb1, hkids, rfl⟩ | ⟨rfl, v1, s1, s2, a1, b1, b2, rfl, hop, hb1, hb2, hkids, rfl⟩ | ⟨rfl, v1, s1, a1, b1, rfl, hop, hb1, hkids, rfl⟩ | ⟨rfl, l, rfl, hop, hkids, rfl⟩ | ⟨rfl, v1, a1, rfl, hop, hkids, rfl⟩ | ⟨rfl, v1, a1, rfl, hop, hkids, rfl⟩ | ⟨rfl, sv, c, rfl, hop, hln, htx, hkids, hcop, rfl⟩
  · have e : Hs.walkL fs false (d + 1) a ⟨seen, 0, 0⟩ = ⟨seen, 0, 0⟩ := by rw [walk_plain (by rw [hop]; decide) (by rw [hop]; decide), look_plain (by rw [hop]; decide) (by rw [hop]; decide) (by rw [hop]; decide), hkids]; rfl
    rw [e]
    exact nd_Number cb lo fs fv seen w h _ k
  · have e : Hs.walkL fs false (d + 1) a ⟨seen, 0, 0⟩ = ⟨seen, 0, 0⟩ := by rw [walk_plain (by rw [hop]; decide) (by rw [hop]; decide), look_plain (by rw [hop]; decide) (by rw [hop]; decide) (by rw [hop]; decide), hkids]; rfl
    rw [e]
    exact nd_String cb lo fs fv seen w h _ _
  · have e : Hs.walkL fs false (d + 1) a ⟨seen, 0, 0⟩ = ⟨seen, 0, 0⟩ := by rw [walk_plain (by rw [hop]; decide) (by rw [hop]; decide), look_plain (by rw [hop]; decide) (by rw [hop]; decide) (by rw [hop]; decide), hkids]; rfl
    rw [e]
    exact nd_Bool cb lo fs fv seen w h _ _
  · rw [walk_plain (by rw [hop]; decide) (by rw [hop]; decide), look_plain (by rw [hop]; decide) (by rw [hop]; decide) (by rw [hop]; decide)]
    exact nd_List cb lo fs fv d HN seen w h _ sv a.kids (hps _ (List.mem_singleton.2 rfl)).many hdk (by omega)
  · rw [walk_plain (by rw [hop]; decide) (by rw [hop]; decide), look_call hop]
    exact nd_Call cb lo fs fv hfl hfk d HN a sv seen w h (hps _ (List.mem_singleton.2 rfl)).many hdk (by omega)
  · have e : Hs.walkL fs false (d + 1) a ⟨seen, 0, 0⟩ = useL ⟨seen, 0, 0⟩ a.line a.text := by rw [walk_plain (by rw [hop]; decide) (by rw [hop]; decide), look_use (by rw [hop]; decide), hkids]; rfl
    rw [e]
    exact nd_Variable cb lo fs fv seen w h _ _ (by omega)
  · rw [walk_plain (by rw [hop]; decide) (by rw [hop]; decide), look_plain (by rw [hop]; decide) (by rw [hop]; decide) (by rw [hop]; decide), hkids]
    rw [hkids] at hwt hdk
    simp only [List.map_cons, List.map_nil, List.sum_cons, List.sum_nil] at hwt
    exact nd_Index cb lo fs fv d IH seen w h l v1 a1 (hps _ (by simp)).one' (hdk a1 (by simp)) v2 a2 (hps ⟨v2, [a2], true⟩ (by simp)).one' (hdk a2 (by simp)) (by omega)
  · have hop' : a.op = [45, 120] ∨ a.op = [33, 120] := by rcases ho with rfl | rfl <;> simp [hop]
    have e : Hs.walkL fs false (d + 1) a ⟨seen, 0, 0⟩ = Hs.walkL fs false d a1 ⟨seen, 0, 0⟩ := by
      rcases hop' with hop | hop <;> (rw [walk_plain (by rw [hop]; decide) (by rw [hop]; decide), look_plain (by rw [hop]; decide) (by rw [hop]; decide) (by rw [hop]; decide), hkids]; rfl)
    rw [e]
    rw [hkids] at hwt hdk
    simp only [List.map_cons, List.map_nil, List.sum_cons, List.sum_nil] at hwt
    exact nd_Unary cb lo fs fv d IH seen w h _ _ v1 a1 (hps _ (by simp)).one' (hdk a1 (by simp)) (by omega)
  · rw [walk_plain (op_ne hop (by decide)) (op_ne hop (by decide)), look_plain (op_ne hop (by decide)) (op_ne hop (by decide)) (op_ne hop (by decide)), hkids]
    rw [hkids] at hwt hdk
    simp only [List.map_cons, List.map_nil, List.sum_cons, List.sum_nil] at hwt
    exact nd_Binary cb lo fs fv d IH seen w h l _ v1 a1 (hps _ (by simp)).one' (hdk a1 (by simp)) v2 a2 (hps ⟨v2, [a2], true⟩ (by simp)).one' (hdk a2 (by simp)) (by omega)
  · have e : Hs.walkL fs false (d + 1) a ⟨seen, 0, 0⟩ = { Hs.walkL fs false d a1 (Hs.declaresL ⟨seen, 0, 0⟩ t) with seen := (Hs.walkL fs false d a1 (Hs.declaresL ⟨seen, 0, 0⟩ t)).seen ++ [t.text] } := by
      rw [Hs.walkL, if_pos (by rw [hop]; rfl), hkids]
    rw [e]
    rw [hkids] at hwt hdk
    simp only [List.map_cons, List.map_nil, List.sum_cons, List.sum_nil] at hwt
    exact nd_Declare cb lo fs fv d IH seen w h _ t a1 v1 (hps _ (by simp)).one' (hdk a1 (by simp)) (by omega)
  · rw [walk_plain (by rw [hop]; decide) (by rw [hop]; decide), look_use (by rw [hop]; decide), hkids]
    rw [hkids] at hwt hdk
    simp only [List.map_append, List.map_cons, List.map_nil, List.sum_append, List.sum_cons, List.sum_nil] at hwt
    have e : foldL fs d (l ++ [a1]) (useL ⟨seen, 0, 0⟩ a.line a.text) = Hs.walkL fs false d a1 (foldL fs d l (useL ⟨seen, 0, 0⟩ a.line a.text)) := by
      show List.foldl _ _ (l ++ [a1]) = _
      rw [List.foldl_append]; rfl
    rw [e]
    exact nd_Assign cb lo fs fv d IH HN seen w h _ _ sv l (hps ⟨sv, l, false⟩ (by simp)).many (fun k hk => hdk k (List.mem_append_left _ hk)) v1 a1 (hps ⟨v1, [a1], true⟩ (by simp)).one' (hdk a1 (by simp)) (by omega)
  · rw [walk_plain (by rw [hop]; decide) (by rw [hop]; decide), look_plain (by rw [hop]; decide) (by rw [hop]; decide) (by rw [hop]; decide), hkids]
    rw [hkids] at hwt hdk
    simp only [List.map_cons, List.map_nil, List.sum_cons, List.sum_nil] at hwt
    exact nd_IfN cb lo fs fv d IH HN HBK seen w h _ v1 a1 (hps ⟨v1, [a1], true⟩ (by simp)).one' (hdk a1 (by simp)) s1 b1 hb1 (hps ⟨s1, b1.kids, false⟩ (by simp)).many (hdk b1 (by simp)) (by omega)
  · rw [walk_plain (by rw [hop]; decide) (by rw [hop]; decide), look_plain (by rw [hop]; decide) (by rw [hop]; decide) (by rw [hop]; decide), hkids]
    rw [hkids] at hwt hdk
    simp only [List.map_cons, List.map_nil, List.sum_cons, List.sum_nil] at hwt
    exact nd_If cb lo fs fv d IH HBK seen w h _ v1 a1 (hps ⟨v1, [a1], true⟩ (by simp)).one' (hdk a1 (by simp)) s1 b1 hb1 (hps ⟨s1, b1.kids, false⟩ (by simp)).many (hdk b1 (by simp)) s2 b2 hb2 (hps ⟨s2, b2.kids, false⟩ (by simp)).many (hdk b2 (by simp)) (by omega)
  · rw [walk_plain (by rw [hop]; decide) (by rw [hop]; decide), look_plain (by rw [hop]; decide) (by rw [hop]; decide) (by rw [hop]; decide), hkids]
    rw [hkids] at hwt hdk
    simp only [List.map_cons, List.map_nil, List.sum_cons, List.sum_nil] at hwt
    exact nd_While cb lo fs fv d IH HBK seen w h _ v1 a1 (hps ⟨v1, [a1], true⟩ (by simp)).one' (hdk a1 (by simp)) s1 b1 hb1 (hps ⟨s1, b1.kids, false⟩ (by simp)).many (hdk b1 (by simp)) (by omega)
  · have e : Hs.walkL fs false (d + 1) a ⟨seen, 0, 0⟩ = ⟨seen, 0, 0⟩ := by rw [walk_plain (by rw [hop]; decide) (by rw [hop]; decide), look_plain (by rw [hop]; decide) (by rw [hop]; decide) (by rw [hop]; decide), hkids]; rfl
    rw [e]
    exact nd_Return0 cb lo fs fv seen w h _ l
  · rw [walk_plain (by rw [hop]; decide) (by rw [hop]; decide), look_plain (by rw [hop]; decide) (by rw [hop]; decide) (by rw [hop]; decide), hkids]
    rw [hkids] at hwt hdk
    simp only [List.map_cons, List.map_nil, List.sum_cons, List.sum_nil] at hwt
    exact nd_Return cb lo fs fv d IH seen w h _ v1 a1 (hps _ (by simp)).one' (hdk a1 (by simp)) (by omega)
  · rw [walk_plain (by rw [hop]; decide) (by rw [hop]; decide), look_plain (by rw [hop]; decide) (by rw [hop]; decide) (by rw [hop]; decide), hkids]
    rw [hkids] at hwt hdk
    simp only [List.map_cons, List.map_nil, List.sum_cons, List.sum_nil] at hwt
    exact nd_Print cb lo fs fv d IH seen w h _ v1 a1 (hps _ (by simp)).one' (hdk a1 (by simp)) (by omega)
  · rw [walk_plain (by rw [hop]; decide) (by rw [hop]; decide), look_plain (by rw [hop]; decide) (by rw [hop]; decide) (by rw [hop]; decide), hkids]
    rw [hkids] at hwt hdk
    simp only [List.map_cons, List.map_nil, List.sum_cons, List.sum_nil] at hwt
    have hdc := hdk c (by simp)
    cases d with
    | zero => exact hdc.elim
    | succ e =>
      show Calls _ _ _ _ (OutC cb lo fs fv w (Hs.walkL fs false (e + 1) c ⟨seen, 0, 0⟩))
      rw [Hs.wt] at hwt
      rw [walk_plain (by rw [hcop]; decide) (by rw [hcop]; decide), look_call hcop]
      exact nd_Call cb lo fs fv hfl hfk e (nodes_any cb lo fs fv e (IHs e (by omega))) c sv seen w h (hps ⟨sv, c.kids, false⟩ (by simp)).many hdc (by omega)

theorem node_any (cb lo : Nat) (fs : List Hs.Ast) (fv : Value) (hfl : fs.length ≤ 90000) (hfk : ∀ f ∈ fs, f.kids.length ≤ 90000) (d : Nat) : NodeAt cb lo fs fv d := by
  induction d using Nat.strongRecOn with
  | _ d ih =>
    cases d with
    | zero => exact fun _ _ _ _ _ _ hd _ => hd.elim
    | succ d => exact node_step cb lo fs fv hfl hfk d fun e he => ih e (by omega)

end Go.Proofs.YtblbkfdhjfppkaaGreatDoor

/- Contracts of the program: names: functions. -/
namespace Go.Proofs.YtblbkfdhjfppkaaGreatDoor
open Go.RowKit

theorem NmC_get {ps : List Hs.Ast} (k : Nat) (hk : k < ps.length) : (NmC ps)[k * 2]? = some (.int .i64 ps[k].line) ∧ (NmC ps)[k * 2 + 1]? = some (.string (bs ps[k].text)) := by
  induction ps generalizing k with
  | nil => simp at hk
  | cons a ps ih =>
    cases k with
    | zero => exact ⟨rfl, rfl⟩
    | succ k =>
      have := ih k (by simpa using hk)
      have e : ∀ j, (NmC (a :: ps))[(k + 1) * 2 + j]? = (NmC ps)[k * 2 + j]? := fun j => by
        rw [NmC, show (k + 1) * 2 + j = k * 2 + j + 1 + 1 by omega]; rfl
      exact ⟨(e 0).trans this.1, (e 1).trans this.2⟩
theorem PNm.get {F : Nat → Prop} {w : World} {v : Value} {ps : List Hs.Ast} (h : PNm F w v ps) : (v = .slice none 0 0 ∧ ps = []) ∨ ∃ g cap, v = .slice (some ⟨g, 0, none⟩) ps.length cap ∧ F g ∧ g < w.heap.size ∧ ps.length ≤ cap ∧ ∀ k (hk : k < ps.length), w.cell? ⟨g, k * 2, none⟩ = some (.int .i64 ps[k].line) ∧ w.cell? ⟨g, k * 2 + 1, none⟩ = some (.string (bs ps[k].text)) := by
  obtain ⟨_, h | ⟨g, cap, cur, h1, h2, h3, h4, h5⟩⟩ := h
  · exact Or.inl h
  · refine Or.inr ⟨g, cap, h1, h2, lt_of_block h3, h4, fun k hk => ?_⟩
    obtain ⟨e1, e2⟩ := NmC_get k hk
    have e : ∀ j u, j < ps.length * 2 → (NmC ps)[j]? = some u → w.cell? ⟨g, j, none⟩ = some u := fun j u hj hu => by
      refine cell_of_block h3 ?_
      rw [← h5, List.getElem?_take, if_pos hj] at hu
      simpa using hu
    exact ⟨e _ _ (by omega) e1, e _ _ (by omega) e2⟩
theorem flat4_take {F : Nat → Prop} {w : World} : ∀ {us : List Value} {fs : List Hs.Ast} (i : Nat), All2 (FunR F w) us fs → i ≤ fs.length → (flat4 us).take (i * 4) = flat4 (us.take i)
  | [], [], i, _, h => by simp [flat4]
  | u :: us, f :: fs, 0, _, _ => by simp [flat4]
  | u :: us, f :: fs, i + 1, ⟨⟨pv, bv, ps, b, hv, _⟩, h⟩, hi => by
    subst hv
    have ih := flat4_take i h (by simpa using hi)
    rw [List.take_succ_cons, flat4, flat4, ← ih, List.take_append]
    have : (cells4 (Value.agg #[.int .i64 f.line, .string (bs f.text), pv, bv])).length = 4 := rfl
    rw [this, List.take_of_length_le (by rw [this]; omega)]
    congr 2; omega
  | [], _ :: _, _, h, _ => h.elim
  | _ :: _, [], _, h, _ => h.elim
theorem All2.take {R : Value → Hs.Ast → Prop} : ∀ {vs ks} (i : Nat), All2 R vs ks → All2 R (vs.take i) (ks.take i)
  | _, _, 0, _ => by simp [All2]
  | [], [], _ + 1, _ => trivial
  | _ :: _, _ :: _, i + 1, ⟨h1, h2⟩ => ⟨h1, All2.take i h2⟩
  | [], _ :: _, _, h => h.elim
  | _ :: _, [], _, h => h.elim
theorem FSl.take {F : Nat → Prop} {w : World} {g cap : Nat} {fs : List Hs.Ast} (h : FSl F w (.slice (some ⟨g, 0, none⟩) fs.length cap) fs) (i : Nat) (hi : i ≤ fs.length) : FSl F w (.slice (some ⟨g, 0, none⟩) i cap) (fs.take i) := by
  rcases h with ⟨h1, _⟩ | ⟨g', cap', cur, us, h1, h2, h3, h4, h5, h6⟩
  · cases h1
  · cases h1
    have hl : (fs.take i).length = i := by rw [List.length_take]; omega
    refine Or.inr ⟨g, cap, cur, us.take i, by rw [hl], h2, h3, by omega, ?_, h6.take i⟩
    rw [hl, ← flat4_take i h6 hi, ← h5, List.take_take]
    congr 1; omega

theorem CK.reset {cb lo : Nat} {fs : List Hs.Ast} {fv sv : Value} {w : World} {seen : List (List UInt8)} (h : CK cb lo fs fv w seen) (hblk : w.heap[cb]? = some (.cells #[fv, sv] 220 (0, 0))) :
    FB cb w (w.setCell ⟨cb, 1, none⟩ (.slice none 0 0)) ∧ CK cb lo fs fv (w.setCell ⟨cb, 1, none⟩ (.slice none 0 0)) [] := by
  have hlt := lt_of_block hblk
  have hb : Below cb w (w.setCell ⟨cb, 1, none⟩ (.slice none 0 0)) := (Below.refl _ _).setCell (by simp) _
  have hn : (w.setCell ⟨cb, 1, none⟩ (.slice none 0 0)).heap[cb]? = some (.cells #[fv, .slice none 0 0] 220 (0, 0)) := by rw [heap_setCell_at hblk]; rfl
  refine ⟨⟨hb, fun k hk hc hr => Below.heap_setCell _ _ _ _ (by show k ≠ cb; exact hc), fun k hk => ?_⟩, ⟨.slice none 0 0, hn, World.ownsRow_nil _ _ _ _⟩, h.fun_.keep fun k hk => hb.block k hk.2⟩
  rw [rowOf_at hn] at hk
  cases hk

/-- Is the first of these functions of this name there already? -/
theorem parL_taken (pre : List Hs.Ast) (x : List UInt8) : (parL pre x).isSome = (Hs.givenB x || !(Hs.funcL pre x).isNone) := by
  unfold parL Hs.givenB
  cases x == [108, 101, 110] <;> cases x == [114, 101, 97, 100] <;> cases Hs.funcL pre x <;> rfl

theorem part_stk (fs : List Hs.Ast) (d : Nat) (s : Hs.Chk) (k : Hs.Ast) : Stk s (Hs.partL fs d s k) := by
  unfold Hs.partL
  split
  · exact (Stk.declares s k).trans (Stk.seen _ _)
  · exact Stk.walk fs false d k s
theorem part_par (fs : List Hs.Ast) (d : Nat) (s : Hs.Chk) (k : Hs.Ast) (h : k.op = [112, 97, 114, 97, 109]) : Hs.partL fs d s k = { Hs.declaresL s k with seen := (Hs.declaresL s k).seen ++ [k.text] } := by
  unfold Hs.partL; rw [h]; rfl
theorem part_blk (fs : List Hs.Ast) (d : Nat) (s : Hs.Chk) (k : Hs.Ast) (h : k.op = [98, 108, 111, 99, 107]) : Hs.partL fs d s k = Hs.walkL fs false d k s := by
  unfold Hs.partL; rw [h]; rfl

/-- The steps over a function's parameters. -/
def FnInv (cb lo : Nat) (fs : List Hs.Ast) (fv : Value) (d : Nat) (w : World) (b0 : Nat) (o : Obj) (ps : List Hs.Ast) (b : Hs.Ast) (c : Hs.Chk) (gk : Nat) (i : Value) (wr : World) : Prop :=
  ∃ k s, k + gk = ps.length ∧ i = .int .i64 (k : Nat) ∧ Loc cb w b0 o wr ∧ CK cb lo fs fv wr s ∧ c = (ps.drop k ++ [b]).foldl (Hs.partL fs d) ⟨s, 0, 0⟩ ∧ s.length = k

theorem does_found (fs : List Hs.Ast) (d : Nat) (seen : List (List UInt8)) (f : Hs.Ast) (first : Bool) (h : (Hs.givenB f.text || !first) = true) : Stk ⟨[], 6, f.line⟩ (Hs.doesL fs d ⟨seen, 0, 0⟩ f first) := by
  unfold Hs.doesL
  rw [h]
  exact Stk.fold (part_stk fs d) _ _
theorem does_go (fs : List Hs.Ast) (d : Nat) (seen : List (List UInt8)) (f : Hs.Ast) (first : Bool) (h : (Hs.givenB f.text || !first) = false) : Hs.doesL fs d ⟨seen, 0, 0⟩ f first = f.kids.foldl (Hs.partL fs d) ⟨[], 0, 0⟩ := by
  unfold Hs.doesL
  rw [h]
  rfl

set_option maxRecDepth 100000 in
set_option maxHeartbeats 4000000 in
theorem ckFun_any (cb lo : Nat) (fs : List Hs.Ast) (g cap : Nat) (hfl : fs.length ≤ 90000) (hfk : ∀ f ∈ fs, f.kids.length ≤ 90000) (d i : Nat) (hi : i < fs.length) (seen : List (List UInt8)) (w : World) (h : CK cb lo fs (FV (.slice (some ⟨g, 0, none⟩) fs.length cap)) w seen)
    (hd : ∀ k ∈ fs[i].kids, Hs.dp d k) (hw : fs[i].kids.length + (fs[i].kids.map (Hs.wt d)).sum ≤ 90000) :
    Calls Tryz.prog 137 #[.pointer (some ⟨cb, 0, none⟩), .slice (some ⟨g, 0, none⟩) fs.length cap, .int .i64 i] w (OutC cb lo fs (FV (.slice (some ⟨g, 0, none⟩) fs.length cap)) w (Hs.doesL fs d ⟨seen, 0, 0⟩ fs[i] (Hs.funcL (fs.take i) fs[i].text).isNone)) := by
  obtain ⟨_, hpe, hfs⟩ := h.fun_
  cases hpe
  rcases hfs.cells with ⟨h1, _⟩ | ⟨g', cap', h1, hgF, hgl, hcap, hc⟩
  · cases h1
  cases h1
  obtain ⟨pv, bv, ps, b, e0, e1, e2, e3, hkids, hps, hbo, hbk⟩ := hc i hi
  obtain ⟨px, pc, rfl⟩ := hps.slice
  obtain ⟨bx, bc, rfl⟩ := hbk.slice
  have HPT := mkHid (parL_taken (fs.take i) fs[i].text)
  have hfi := hfk fs[i] (List.getElem_mem hi)
  have HFT := mkHid (hfs.take i (by omega))
  generalize hff : fs[i] = f at *
  have HNT := mkHid (fun hx => does_found fs d seen f (Hs.funcL (fs.take i) f.text).isNone hx)
  have HNG := mkHid (fun hx => does_go fs d seen f (Hs.funcL (fs.take i) f.text).isNone hx)
  have hcb := h.lt
  obtain ⟨hl0, hk0⟩ := Loc.new h (.cells #[.int .i64 f.line, .string (bs f.text), .slice px ps.length pc, .slice bx b.kids.length bc] 215)
  obtain ⟨sx, sc, hblk, hsc, hscm, hown⟩ := h.cut
  obtain ⟨hlt, c0, c1, f1⟩ := cc_cells hblk
  have HL0 := mkHid hl0
  have HC0 := mkHid hk0
  have HPS := mkHid hps
  have HBK := mkHid hbk
  have HBO := mkHid hbo
  have HKD := mkHid hkids
  have HD := mkHid hd
  have HW := mkHid hw
  have HFK := mkHid hfk
  have hicap : i ≤ cap := by omega
  have HBLK : Hid (BlockAt cb lo fs (FV (.slice (some ⟨g, 0, none⟩) fs.length cap)) d) := by
    cases d with
    | zero => exact fun _ _ _ _ _ _ _ hd _ => hd.elim
    | succ e => exact block_at (nodes_any cb lo fs _ e (node_any cb lo fs _ hfl hfk e))
  have hpsl : ps.length ≤ 90000 := by rw [hkids] at hfi; simp at hfi; omega
  have HB0 : Hid (Below w.heap.size w (w.alloc (.cells #[.int .i64 f.line, .string (bs f.text), .slice px ps.length pc, .slice bx b.kids.length bc] 215))) := (Below.refl _ _).alloc (Nat.le_refl _) _
  have HPP := mkHid (pars_any (fs.take i) (Btw lo cb) (.slice (some ⟨g, 0, none⟩) i cap) f.text (w.alloc (.cells #[.int .i64 f.line, .string (bs f.text), .slice px ps.length pc, .slice bx b.kids.length bc] 215)).drew (by rw [List.length_take]; omega) (fun f hf => hfk f (List.mem_of_mem_take hf)) (HFT.out.keep fun k hk => by have := hk.2; exact Below.heap_alloc _ _ _ (by omega)))
  rw [HPT.out] at HPP
  generalize hpn : ((parL (List.take i fs) f.text).getD 0) = pn at HPP
  obtain ⟨tk, htk⟩ : ∃ tk, tk = (Hs.givenB f.text || !(Hs.funcL (fs.take i) f.text).isNone) := ⟨_, rfl⟩
  rw [← htk] at HPP
  have HTK := mkHid htk
  obtain ⟨cc, hcc⟩ : ∃ cc, cc = Hs.doesL fs d ⟨seen, 0, 0⟩ f (Hs.funcL (fs.take i) f.text).isNone := ⟨_, rfl⟩
  rw [← hcc]
  have HCC := mkHid hcc
  clear hpn htk hcc h hl0 hk0 hps hbk hbo hkids hd hw hfk hfs hc hblk hown HPT HFT hgF
  go_enter Tryz.func137, Tryz.ntmps137
  go_wp2_with fail
  go_cut [7, 8] (fun _ tv wc => tv = .bool tk ∧ Below w.heap.size w wc ∧ Loc cb w w.heap.size (.cells #[.int .i64 f.line, .string (bs f.text), .slice px ps.length pc, .slice bx b.kids.length bc] 215) wc ∧ CK cb lo fs (FV (.slice (some ⟨g, 0, none⟩) fs.length cap)) wc seen)
  case first =>
    go_region_law (go_simp; go_at_call 135; refine HPP.out.mono ?_; rintro e w1 ⟨rfl, hb1⟩; have HB1 := mkHid ((Below.refl (w.alloc (.cells #[.int .i64 f.line, .string (bs f.text), .slice px ps.length pc, .slice bx b.kids.length bc] 215)).heap.size (w.alloc (.cells #[.int .i64 f.line, .string (bs f.text), .slice px ps.length pc, .slice bx b.kids.length bc] 215))).drew.trans hb1); clear hb1)
    all_goals
      go_wp2_with fail
      go_meet
      case rel => exact ⟨rfl, HB0.out.trans (HB1.out.mono (by simp)), HL0.out.step (FB.of_below HB1.out (by simp; omega)), HC0.out.grow HB1.out⟩
  case rest =>
    obtain ⟨rfl, hbb, hL1, hC1⟩ := hcut
    clear c0 c1 f1 hlt e0 e1 e2 e3
    obtain ⟨sx1, sc1, hblk1, hsc1, hscm1, hown1⟩ := hC1.cut
    obtain ⟨hlt, c0, c1, f1⟩ := cc_cells hblk1
    have HL1 := mkHid hL1
    have HC1 := mkHid hC1
    have m0 := cell_of_block hL1.blk (i := 0) rfl
    have m1 := cell_of_block hL1.blk (i := 1) rfl
    have m2 := cell_of_block hL1.blk (i := 2) rfl
    have m3 := cell_of_block hL1.blk (i := 3) rfl
    have hz1 := lt_of_block hL1.blk
    have HRS := mkHid (hC1.reset hblk1)
    have HBB := mkHid hbb
    clear hL1 hC1 hblk1 hown1 hbb HPP
    cases tk
    rotate_left
    · go_wp2_with fail
      refine (line_any f.line _).mono ?_
      rintro e w2 ⟨rfl, hb2⟩
      have HB2 := mkHid (HBB.out.trans (hb2.mono HBB.out.size))
      clear hb2
      go_wp2_with (go_at_call 136; refine (pfail_any 6 f.line _).mono ?_; rintro e w3 ⟨rfl, hw⟩; obtain rfl := hw.symm)
      exact ⟨rfl, OutC.fault (c1 := ⟨[], 6, f.line⟩) (FB.of_below HB2.out hcb) (by simp) (by rw [HCC.out]; exact HNT.out HTK.out.symm)⟩
    have HI : Hid (FnInv cb lo fs (FV (.slice (some ⟨g, 0, none⟩) fs.length cap)) d w w.heap.size (.cells #[.int .i64 f.line, .string (bs f.text), .slice px ps.length pc, .slice bx b.kids.length bc] 215) ps b cc ps.length (.int .i64 (0 : Nat)) (wc.setCell ⟨cb, 1, none⟩ (.slice none 0 0))) :=
      ⟨0, [], by omega, rfl, HL1.out.step HRS.out.1, HRS.out.2, by rw [HCC.out, HNG.out HTK.out.symm, HKD.out]; rfl, rfl⟩
    have hcbb : ¬ cb = w.heap.size := by omega
    have hcbb2 : ¬ w.heap.size = cb := by omega
    obtain ⟨i0, hi0, hz0, hz1', hz2⟩ := info_parts infoStr
    go_wp2_with fail
    go_loopg [10, 37] ps.length (fun gk _ iv wr => FnInv cb lo fs (FV (.slice (some ⟨g, 0, none⟩) fs.length cap)) d w w.heap.size (.cells #[.int .i64 f.line, .string (bs f.text), .slice px ps.length pc, .slice bx b.kids.length bc] 215) ps b cc gk iv wr)
    case atStart => exact HI.out
    case round =>
      obtain ⟨k, s, hk, rfl, hLr, hCr, hcc, hsl⟩ := hrel
      have HSL := mkHid hsl
      have hsle : s.length ≤ 90000 := by omega
      clear hsl
      have HLR := mkHid hLr
      have HCR := mkHid hCr
      have HCS := mkHid hcc
      clear m0 m1 m2 m3 hz1 c0 c1 f1 hlt HI HRS
      have m0 := cell_of_block hLr.blk (i := 0) rfl
      have m1 := cell_of_block hLr.blk (i := 1) rfl
      have m2 := cell_of_block hLr.blk (i := 2) rfl
      have m3 := cell_of_block hLr.blk (i := 3) rfl
      have hz1 := lt_of_block hLr.blk
      have hcr := hCr.lt
      by_cases hlt : k < ps.length
      · obtain ⟨j, rfl⟩ : ∃ j, gk = j + 1 := ⟨gk - 1, by omega⟩
        rcases HPS.out.get with ⟨_, hnil⟩ | ⟨pg, pcap, hpe, hpF, hpl, hpc, hcell⟩
        · rw [hnil] at hlt; simp at hlt
        obtain ⟨hp1, hp2⟩ := hcell k hlt
        have hop := HPS.out.1 ps[k] (List.getElem_mem hlt)
        have hdk : ps.drop k = ps[k] :: ps.drop (k + 1) := (List.getElem_cons_drop hlt).symm
        have hcc' : cc = (ps.drop (k + 1) ++ [b]).foldl (Hs.partL fs d) (Hs.partL fs d ⟨s, 0, 0⟩ ps[k]) := by rw [hcc, hdk]; rfl
        generalize ps[k] = a at *
        cases hpe
        have r0 : wr.cell? ⟨pg, k * 2, none⟩ = some (.int .i64 a.line) := (hLr.fb.bel.cell (p := ⟨pg, k * 2, none⟩) hpF.2).trans hp1
        have r1 : wr.cell? ⟨pg, k * 2 + 1, none⟩ = some (.string (bs a.text)) := (hLr.fb.bel.cell (p := ⟨pg, k * 2 + 1, none⟩) hpF.2).trans hp2
        have hpgl : pg < wr.heap.size := Nat.lt_of_lt_of_le (Nat.lt_trans hpF.2 hcb) hLr.fb.bel.size
        obtain ⟨hl2, hc2⟩ := Loc.new hCr (.cells #[.int .i64 a.line, .string (bs a.text)] 211)
        have HL2 := mkHid hl2
        have HM := mkHid (mayDeclare_any cb lo fs _ (wr.alloc (.cells #[.int .i64 a.line, .string (bs a.text)] 211)) s hc2 (by omega) a.line a.text)
        have HDL : Hid (Hs.declaresL ⟨s, 0, 0⟩ a = if Hs.givenB a.text || s.contains a.text then Hs.Chk.found ⟨s, 0, 0⟩ a.line 6 else ⟨s, 0, 0⟩) := rfl
        rw [← HDL.out] at HM
        have HPP2 := mkHid (part_par fs d ⟨s, 0, 0⟩ a hop)
        have hds := declaresL_seen ⟨s, 0, 0⟩ a
        have HDS := mkHid hds
        have HCC2 := mkHid hcc'
        clear hcc hcc' hdk hp1 hp2 hcell hpc hpl HCS hds HDL hl2 hc2 hLr hCr hop
        generalize Hs.declaresL ⟨s, 0, 0⟩ a = c1 at *
        go_wp2_with fail
        refine HM.out.mono ?_
        rintro e w2 ⟨hb2, ⟨s2, rfl, rfl, hck2⟩ | ⟨hk2, rfl⟩⟩
        rotate_left
        · have HBF := mkHid (HLR.out.fb.trans (HL2.out.fb.trans hb2))
          have HK := mkHid hk2
          clear hb2 hk2
          go_wp2_with fail
          exact ⟨rfl, OutC.fault (c1 := c1) HBF.out HK.out (by rw [HCC2.out, HPP2.out]; exact (Stk.seen _ _).trans (Stk.fold (part_stk fs d) _ _))⟩
        obtain rfl : s2 = s := HDS.out
        have HL3 := mkHid (HL2.out.step hb2)
        have HLb := mkHid ((HLR.out.step HL2.out.fb).step hb2)
        obtain ⟨sx2, sc2, hblk2, hsc2, hscm2, hown2⟩ := hck2.cut
        obtain ⟨hlt2, c0, c1, f1⟩ := cc_cells hblk2
        have n0 := cell_of_block HL3.out.blk (i := 0) rfl
        have n1 := cell_of_block HL3.out.blk (i := 1) rfl
        have hy3 := lt_of_block HL3.out.blk
        clear m0 m1 m2 m3 hz1 r0 r1
        have m0 := cell_of_block HLb.out.blk (i := 0) rfl
        have m1 := cell_of_block HLb.out.blk (i := 1) rfl
        have m2 := cell_of_block HLb.out.blk (i := 2) rfl
        have m3 := cell_of_block HLb.out.blk (i := 3) rfl
        have hz1 := lt_of_block HLb.out.blk
        have HB2 := mkHid (show w2.drew.heap[cb]? = _ from hblk2)
        have HO2 := mkHid (show w2.drew.ownsRow _ _ _ _ _ _ from hown2)
        have HK2 := mkHid (show CK cb lo fs (FV (.slice (some ⟨g, 0, none⟩) fs.length cap)) w2.drew s2 from hck2.grow (Below.refl _ _).drew)
        have HFD := mkHid (FB.of_below (cb := cb) (Below.refl w2.heap.size w2).drew hlt2)
        clear hblk2 hown2 hck2 hb2 HM
        go_wp2_with fail
        go_region_law (refine step_append_lies _ (by rfl) _ _ 60 (by rfl) (cb + 1) 9 i0 _ 1 16 Tryz.underlying60 hi0 hz0 hz1' hz2 rfl (by decide) (.slice sx2 s2.length sc2) s2.length (strsV s2) (by rfl) (HO2.out.alloc _) ⟨w2.heap.size, 0, none⟩ 1 1 [.string (bs a.text)] (by rfl) (by rfl) (news_str w2.drew _) (one_str _) (by decide) (by unfold maxLen; omega) (by omega) (by simp; omega) (w2.heap.size + 1) (by simp) ?_; intro g5 cap5 w5 hown5 hgrow5 hat5 hg5; have hB5 := cc_grown HB2.out HO2.out hgrow5; obtain ⟨hz5, -, q1, fz5⟩ := cc_cells hB5; clear hB5)
        all_goals
          go_wp2_with fail
          go_roundg j
          case measure => omega
          case rel =>
            have hfin := HK2.out.add HB2.out HO2.out hown5 hgrow5 (hat5.imp_right fun e => by show w2.heap.size ≤ g5; omega)
            exact ⟨k + 1, s2 ++ [a.text], by omega, by go_num, (HLb.out.step HFD.out).step hfin.1, hfin.2, by rw [HCC2.out, HPP2.out], by have := HSL.out; simp; omega⟩
      · have hkl : k = ps.length := by omega
        have hwb : Hs.dp d b ∧ s.length + Hs.wt d b ≤ 90000 := by
          have h1 := HW.out
          have h2 := HD.out b (by rw [HKD.out]; simp)
          rw [HKD.out] at h1
          simp only [List.length_append, List.map_append, List.sum_append, List.map_cons, List.map_nil, List.sum_cons, List.sum_nil, List.length_cons, List.length_nil] at h1
          have := HSL.out
          exact ⟨h2, by omega⟩
        have HX := mkHid (HBLK.out (.slice bx b.kids.length bc) b s wr hCr HBO.out (HBK.out.below hLr.fb.bel) hwb.1 hwb.2)
        have HCC2 : Hid (cc = Hs.walkL fs false d b ⟨s, 0, 0⟩) := by
          show _ = _
          rw [hcc, List.drop_eq_nil_of_le (by omega)]
          exact part_blk fs d _ b HBO.out
        rw [← HCC2.out] at HX
        clear hLr hCr hcc HCS HCC2 hwb
        go_wp2_with fail
        refine HX.out.mono ?_
        rintro e w2 ⟨hb2, ⟨s2, hc2, rfl, hck2⟩ | ⟨hk2, rfl⟩⟩
        · have HB2 := mkHid (HLR.out.fb.trans hb2)
          have HK2 := mkHid hck2
          have HC2 := mkHid hc2
          clear hb2 hck2 hc2
          go_wp2_with fail
          go_end0
          exact OutC.done HB2.out HC2.out HK2.out
        · have HB2 := mkHid (HLR.out.fb.trans hb2)
          have HK2 := mkHid hk2
          clear hb2 hk2
          go_wp2_with fail
          exact ⟨rfl, OutC.fault (c1 := cc) HB2.out HK2.out (Stk.refl _)⟩

end Go.Proofs.YtblbkfdhjfppkaaGreatDoor

/- Contracts of the program: the names of a program. -/
namespace Go.Proofs.YtblbkfdhjfppkaaGreatDoor
open Go.RowKit

/-- Is there a main without parameters? -/
def mainOK (fs : List Hs.Ast) : Bool := parL fs [109, 97, 105, 110] == some 0

set_option maxRecDepth 100000 in
set_option maxHeartbeats 1000000 in
theorem ckMain_any (fs : List Hs.Ast) (F : Nat → Prop) (fv : Value) (w : World) (hfl : fs.length ≤ 90000) (hfk : ∀ f ∈ fs, f.kids.length ≤ 90000) (h : FSl F w fv fs) :
    Calls Tryz.prog 78 #[fv] w fun e w' => Below w.heap.size w w' ∧ ((mainOK fs = true ∧ e = .returned (.tuple #[])) ∨ (mainOK fs = false ∧ e = faultE 5 0)) := by
  have HP := mkHid (pars_any fs F fv [109, 97, 105, 110] w (by omega) hfk h)
  have HM : Hid (mainOK fs = (parL fs [109, 97, 105, 110] == some 0)) := rfl
  have HLE := mkHid (fun n hn => parL_le hfk (x := [109, 97, 105, 110]) (n := n) hn)
  clear h hfk
  rw [show bs [109, 97, 105, 110] = ⟨#[109, 97, 105, 110]⟩ from rfl] at HP
  obtain ⟨mo, hmo⟩ : ∃ mo, mo = mainOK fs := ⟨_, rfl⟩
  rw [← hmo] at HM ⊢
  clear hmo
  cases hp : parL fs [109, 97, 105, 110] with
  | none =>
    obtain rfl : mo = false := by rw [HM.out, hp]; rfl
    rw [hp] at HP
    simp only [Option.getD_none, Option.isSome_none] at HP
    clear hp HM HLE
    go_enter Tryz.func78, Tryz.ntmps78
    go_wp2_with fail
    refine HP.out.mono ?_
    rintro e w1 ⟨rfl, hb1⟩
    have HB := mkHid hb1
    clear hb1
    go_wp2_with (go_at_call 136; refine (pfail_any 5 0 _).mono ?_; rintro e w3 ⟨rfl, hw⟩; obtain rfl := hw.symm)
    exact ⟨rfl, HB.out, Or.inr ⟨trivial, rfl⟩⟩
  | some n =>
    have hn := HLE.out n hp
    rw [hp] at HP
    simp only [Option.getD_some, Option.isSome_some] at HP
    cases n with
    | zero =>
      obtain rfl : mo = true := by rw [HM.out, hp]; rfl
      clear hp HM HLE
      go_enter Tryz.func78, Tryz.ntmps78
      go_wp2_with fail
      refine HP.out.mono ?_
      rintro e w1 ⟨rfl, hb1⟩
      have HB := mkHid hb1
      clear hb1
      go_wp2_with fail
      go_end0
      exact ⟨HB.out, Or.inl ⟨trivial, rfl⟩⟩
    | succ n =>
      obtain rfl : mo = false := by rw [HM.out, hp]; rfl
      clear hp HM HLE
      have hpos : decide ((0 : Int) < ((n : Int) + 1)) = true := decide_eq_true (by omega)
      go_enter Tryz.func78, Tryz.ntmps78
      go_wp2_with fail
      refine HP.out.mono ?_
      rintro e w1 ⟨rfl, hb1⟩
      have HB := mkHid hb1
      clear hb1
      go_wp2_with (go_at_call 136; refine (pfail_any 5 0 _).mono ?_; rintro e w3 ⟨rfl, hw⟩; obtain rfl := hw.symm)
      exact ⟨rfl, HB.out, Or.inr ⟨trivial, rfl⟩⟩

theorem all_stk (fs : List Hs.Ast) (d : Nat) : ∀ (rest pre : List Hs.Ast) (s : Hs.Chk), Stk s (Hs.allL fs d pre rest s)
  | [], _, s => Stk.refl s
  | n :: rest, pre, s => by
    rw [Hs.allL]
    refine Stk.trans ?_ (all_stk fs d rest _ _)
    unfold Hs.doesL
    refine Stk.trans ?_ (Stk.fold (part_stk fs d) _ _)
    refine Stk.trans ?_ (Stk.seen _ _)
    split
    · exact Stk.found _ _ _
    · exact Stk.refl _

/-- What holds at the head of the loop over functions. -/
def AllInv (cb lo : Nat) (fs : List Hs.Ast) (fv : Value) (d : Nat) (w : World) (c : Hs.Chk) (gk : Nat) (i : Value) (wr : World) : Prop :=
  ∃ k s, k + gk = fs.length ∧ i = .int .i64 (k : Nat) ∧ Below cb w wr ∧ CK cb lo fs fv wr s ∧ c = Hs.allL fs d (fs.take k) (fs.drop k) ⟨s, 0, 0⟩

set_option maxRecDepth 100000 in
set_option maxHeartbeats 2000000 in
theorem ckNames_any (lo : Nat) (fs : List Hs.Ast) (fv : Value) (w : World) (d : Nat) (hfl : fs.length ≤ 90000) (hfk : ∀ f ∈ fs, f.kids.length ≤ 90000) (h : FSl (Btw lo w.heap.size) w fv fs) (hd : ∀ f ∈ fs, ∀ k ∈ f.kids, Hs.dp d k) (hw : ∀ f ∈ fs, f.kids.length + (f.kids.map (Hs.wt d)).sum ≤ 90000) :
    Calls Tryz.prog 79 #[fv] w fun e w' => Below w.heap.size w w' ∧ (((Hs.allL fs d [] fs ⟨[], 0, 0⟩).kind = 0 ∧ (Hs.allL fs d [] fs ⟨[], 0, 0⟩).line = 0 ∧ e = .returned (.tuple #[])) ∨ ((Hs.allL fs d [] fs ⟨[], 0, 0⟩).kind ≠ 0 ∧ e = faultE (Hs.allL fs d [] fs ⟨[], 0, 0⟩).kind (Hs.allL fs d [] fs ⟨[], 0, 0⟩).line)) := by
  obtain ⟨fx, fc, rfl⟩ : ∃ x c, fv = .slice x fs.length c := by
    rcases h.cells with ⟨h1, h2⟩ | ⟨g, cap, h1, _⟩
    · exact ⟨none, 0, by rw [h1, h2]; rfl⟩
    · exact ⟨_, _, h1⟩
  obtain ⟨c, hc⟩ : ∃ c, c = Hs.allL fs d [] fs ⟨[], 0, 0⟩ := ⟨_, rfl⟩
  have hb0 : Below w.heap.size w (w.alloc (.cells #[FV (.slice fx fs.length fc), .slice none 0 0] 220)) := (Below.refl _ _).alloc (Nat.le_refl _) _
  have HI : Hid (AllInv w.heap.size lo fs (FV (.slice fx fs.length fc)) d w c fs.length (.int .i64 (0 : Nat)) (w.alloc (.cells #[FV (.slice fx fs.length fc), .slice none 0 0] 220))) :=
    ⟨0, [], by omega, rfl, hb0, ⟨⟨.slice none 0 0, heap_first _ _ rfl _, World.ownsRow_nil _ _ _ _⟩, ⟨_, rfl, h.keep fun k hk => hb0.block k hk.2⟩⟩, by rw [hc]; rfl⟩
  rw [← hc]
  have HF := mkHid h
  have HFK := mkHid hfk
  have HD := mkHid hd
  have HW := mkHid hw
  clear h hb0 hc hfk hd hw
  go_enter Tryz.func79, Tryz.ntmps79
  go_wp2_with fail
  go_loopg [3, 9] fs.length (fun gk _ i wr => AllInv w.heap.size lo fs (FV (.slice fx fs.length fc)) d w c gk i wr)
  case atStart => exact HI.out
  case round =>
    obtain ⟨k, s, hk, rfl, hb, hck, hcc⟩ := hrel
    have HB := mkHid hb
    by_cases hlt : k < fs.length
    · obtain ⟨j, rfl⟩ : ∃ j, gk = j + 1 := ⟨gk - 1, by omega⟩
      obtain ⟨g, rfl⟩ : ∃ g, fx = some ⟨g, 0, none⟩ := by
        rcases HF.out.cells with ⟨h1, h2⟩ | ⟨g, cap, h1, _⟩
        · rw [h2] at hlt; simp at hlt
        · cases h1; exact ⟨g, rfl⟩
      have hm : fs[k] ∈ fs := List.getElem_mem hlt
      have HX := mkHid (ckFun_any w.heap.size lo fs g fc hfl HFK.out d k hlt s wr hck (HD.out _ hm) (HW.out _ hm))
      have hdk : fs.drop k = fs[k] :: fs.drop (k + 1) := (List.getElem_cons_drop hlt).symm
      have hcc' : c = Hs.allL fs d (fs.take (k + 1)) (fs.drop (k + 1)) (Hs.doesL fs d ⟨s, 0, 0⟩ fs[k] (Hs.funcL (fs.take k) fs[k].text).isNone) := by
        rw [hcc, hdk, Hs.allL, List.take_succ_eq_append_getElem hlt]
      have HCC := mkHid hcc'
      clear hb hck hcc hcc' hdk hm
      generalize Hs.doesL fs d ⟨s, 0, 0⟩ fs[k] (Hs.funcL (fs.take k) fs[k].text).isNone = c1 at *
      go_wp2_with fail
      refine HX.out.mono ?_
      rintro e w1 ⟨hb1, ⟨s1, rfl, rfl, hck1⟩ | ⟨hk1, rfl⟩⟩
      rotate_left
      · have HB1 := mkHid (HB.out.trans hb1.bel)
        have HK1 := mkHid hk1
        have HST : Hid (Stk c1 c) := by show Stk _ _; rw [HCC.out]; exact all_stk fs d _ _ _
        clear hb1 hk1
        go_wp2_with fail
        obtain ⟨e1, e2⟩ := HST.out HK1.out
        exact ⟨rfl, HB1.out, Or.inr ⟨by rw [e1]; exact HK1.out, by rw [e1, e2]⟩⟩
      have HI1 : Hid (AllInv w.heap.size lo fs (FV (.slice (some ⟨g, 0, none⟩) fs.length fc)) d w c j (.int .i64 ((k + 1 : Nat) : Int)) w1) := ⟨k + 1, s1, by omega, rfl, HB.out.trans hb1.bel, hck1, HCC.out⟩
      clear hb1 hck1 HX
      go_wp2_with fail
      go_roundg j
      case measure => omega
      case rel => exact HI1.out
    · have hcc' : c = ⟨s, 0, 0⟩ := by rw [hcc, List.drop_eq_nil_of_le (by omega)]; rfl
      have HCC := mkHid hcc'
      clear hb hck hcc hcc'
      go_wp2_with fail
      go_end0
      rw [HCC.out]
      exact ⟨HB.out, Or.inl ⟨rfl, rfl, rfl⟩⟩

end Go.Proofs.YtblbkfdhjfppkaaGreatDoor

/- Contracts of the program: strings and marks. -/
namespace Go.Proofs.YtblbkfdhjfppkaaGreatDoor
open Go.RowKit

/-- A token's block, before it is written. -/
abbrev ZTok (w : World) (b : Nat) : Prop := w.heap[b]? = some (.cells #[.int .i64 0, .string ⟨#[]⟩, .int .i64 0, .int .i64 0] 206 (0, 0))

set_option maxRecDepth 100000 in
set_option maxHeartbeats 2000000 in
theorem ttext_any (sb : Nat) (src : ByteArray) (n L : Nat) (w : World) (h : SC sb src n L w) (hs : src.size ≤ 2000000000) (hn : n < src.size) :
    Calls Tryz.prog 254 #[.pointer (some ⟨sb, 0, none⟩)] w (TokR sb src n L w (Hs.strL (src.data.toList.drop (n + 1)))) := by
  obtain ⟨m, hm⟩ : ∃ m, m = n + 1 := ⟨_, rfl⟩
  rw [← hm]
  obtain ⟨sp, hsp⟩ : ∃ sp, sp = Hs.spanL Hs.strP (src.data.toList.drop m) := ⟨_, rfl⟩
  have hle : sp ≤ src.size - m := by
    have := Hs.spanL_le Hs.strP (src.data.toList.drop m)
    rw [hsp]; simpa using this
  obtain ⟨k, hk⟩ : ∃ k, k = m + sp := ⟨_, rfl⟩
  have hsb := (SC.cells h).1
  have hrb : w.heap.size ≠ sb := by omega
  have h1 : SC sb src n L (w.alloc (.cells #[.int .i64 0, .string ⟨#[]⟩, .int .i64 0, .int .i64 0] 206)) := by unfold SC; rw [Below.heap_alloc _ _ _ hsb]; exact h
  have HZ : Hid (ZTok (w.alloc (.cells #[.int .i64 0, .string ⟨#[]⟩, .int .i64 0, .int .i64 0] 206)) w.heap.size) := heap_first _ _ rfl _
  have HT1 := mkHid (take_any sb src n L 1 (w.alloc (.cells #[.int .i64 0, .string ⟨#[]⟩, .int .i64 0, .int .i64 0] 206)) h1 hs (by omega))
  rw [← hm] at HT1
  have HSP := mkHid (fun w => span_any Hs.strP 301 (fun _ _ => rfl) inString_any (src.extract m src.size) w (by rw [rest_data]; omega))
  rw [ext_data, ← hsp] at HSP
  obtain ⟨tx, htx⟩ : ∃ tx, tx = (src.data.toList.drop m).take sp := ⟨_, rfl⟩
  have hlen : (bs tx).size = sp := by rw [bs_size, htx, List.length_take]; simp; omega
  obtain ⟨ok, hok⟩ : ∃ ok, ok = (decide ((src.data.toList.drop m)[sp]? = some 34) && decide (sp ≤ 100)) := ⟨_, rfl⟩
  have HW : Hid (Hs.strL (src.data.toList.drop m) = { sort := 115, text := tx, size := sp + 2, ok := ok }) := by
    show _ = _
    unfold Hs.strL
    rw [← hsp, ← htx, ← hok]
  rw [HW.out]
  have HTX := mkHid htx
  have HOK := mkHid hok
  have HF0 : Hid (Fr sb w (w.alloc (.cells #[.int .i64 0, .string ⟨#[]⟩, .int .i64 0, .int .i64 0] 206))) := (Fr.refl _ _).alloc _
  have HM := mkHid hm
  have HK := mkHid hk
  have hmle : m ≤ src.size := by omega
  have hkle : k ≤ src.size := by omega
  clear h h1 hsp htx HW hok hm hk
  generalize hrr : ({ sort := 115, text := tx, size := sp + 2, ok := ok } : Hs.Raw) = rr
  have HRR := mkHid hrr
  clear hrr
  go_enter Tryz.func254, Tryz.ntmps254
  go_wp2_with fail
  refine HT1.out.mono ?_
  rintro e w1 ⟨rfl, hs1, hf1⟩
  have HZ1 := mkHid (hf1.keepS HZ.out hrb)
  have HZ1d : Hid (ZTok w1.drew w.heap.size) := HZ1.out
  have HTK := mkHid (take_any sb src m L sp w1.drew hs1 hs (by omega))
  rw [← HK.out] at HTK
  rw [← HTX.out] at HTK
  have HF1 := mkHid (HF0.out.trans hf1)
  obtain ⟨h0, c0, c1, c2, f1, f2⟩ := hs1.cells
  clear hs1 hf1 HT1 HZ HF0
  go_wp2_with fail
  go_cut [3] (fun v wc => v = .string (bs tx) ∧ SC sb src (k) L wc ∧ Fr sb w wc ∧ ZTok wc w.heap.size)
  case first =>
    go_region_law (first | (go_simp; go_at_call 248; refine (HSP.out _).mono ?_; rintro e w2 ⟨rfl, hw⟩; obtain rfl := hw.symm) | (go_simp; go_at_call 296; refine HTK.out.mono ?_; rintro e w2 ⟨rfl, hs2, hf2⟩; have HS2 := mkHid hs2; have HF2 := mkHid (HF1.out.drew.trans hf2); have HZ2 := mkHid (hf2.keepS HZ1d.out hrb); clear hs2 hf2))
    all_goals
      go_wp2_with fail
      go_meet
      case rel => exact ⟨rfl, HS2.out, HF2.out, HZ2.out⟩
  case rest =>
    obtain ⟨rfl, hs2, hf2, hz2⟩ := hcut
    clear c0 c1 c2 f1 f2 h0
    obtain ⟨h0, c0, c1, c2, f1, f2⟩ := hs2.cells
    have HS2 := mkHid hs2
    have HF2 := mkHid hf2
    have HZ2 := mkHid hz2
    clear hs2 hf2 hz2 HTK HSP HZ1 HZ1d HF1
    have HFL := mkHid (fun q => sfail_any sb src (k) L (wc.drewN q) HS2.out)
    by_cases h100 : sp ≤ 100
    rotate_left
    · have e1 : decide ((100 : Int) < (sp : Int)) = true := decide_eq_true (by omega)
      have hok : ok = false := by rw [HOK.out, decide_eq_false h100, Bool.and_false]
      subst hok
      have hrr := HRR.out
      clear HRR HOK
      subst hrr
      go_wp2_with fail
      go_quiet (fail)
      go_wp2_with fail
      refine (HFL.out _).mono ?_
      rintro e w3 ⟨rfl, hw⟩
      obtain rfl := hw.symm
      go_wp2_with fail
      exact ⟨rfl, HF2.out.drewN _, Or.inr ⟨rfl, rfl⟩⟩
    have e1 : decide ((100 : Int) < (sp : Int)) = false := decide_eq_false (by omega)
    by_cases hend : k = src.size
    · have e2 : ((k : Int) == (src.size : Int)) = true := by simp; omega
      have hok : ok = false := by
        rw [HOK.out, List.getElem?_eq_none (by have := HK.out; simp; omega)]; simp
      subst hok
      have hrr := HRR.out
      clear HRR HOK
      subst hrr
      go_wp2_with fail
      go_quiet (fail)
      go_wp2_with fail
      refine (HFL.out _).mono ?_
      rintro e w3 ⟨rfl, hw⟩
      obtain rfl := hw.symm
      go_wp2_with fail
      exact ⟨rfl, HF2.out.drewN _, Or.inr ⟨rfl, rfl⟩⟩
    have hlt : k < src.size := by omega
    have e2 : ((k : Int) == (src.size : Int)) = false := by simp; omega
    have hb : (src[k].toNat : Int) ≤ 255 := byte_le _
    have hget : (src.data.toList.drop m)[sp]? = some src[k] := by
      have e := getElem?_drop src m sp (by rw [← HK.out]; exact hlt)
      rw [e]
      congr 1
      simp only [HK.out]
    by_cases h34 : src[k].toNat = 34
    · have hok : ok = true := by
        rw [HOK.out, hget, decide_eq_true h100, Bool.and_true]
        exact decide_eq_true (congrArg some (UInt8.toNat_inj.1 h34))
      subst hok
      have hrr := HRR.out
      clear HRR HOK hget
      subst hrr
      have h34' : ((src[k].toNat : Int) != 34) = false := by simp; omega
      have hsz : w.heap.size < wc.heap.size := lt_of_block HZ2.out
      have HT3 := mkHid (fun q => take_any sb src (k) L 1 (wc.drewN q) HS2.out hs (by omega))
      clear h34
      go_wp2_with fail
      go_quiet (fail)
      go_wp2_with fail
      refine (HT3.out _).mono ?_
      rintro e w3 ⟨rfl, hs3, hf3⟩
      have HZ3 := mkHid ((((Fr.refl sb wc).drewN _).trans hf3).keepS HZ2.out hrb)
      have HF3 := mkHid ((HF2.out.drewN _).trans hf3)
      have HS3 := mkHid hs3
      have z0 := cell_of_block HZ3.out (i := 0) rfl
      have z1 := cell_of_block HZ3.out (i := 1) rfl
      have z2 := cell_of_block HZ3.out (i := 2) rfl
      have z3 := cell_of_block HZ3.out (i := 3) rfl
      have y0 := frozen_of_block (i := 0) HZ3.out
      have y1 := frozen_of_block (i := 1) HZ3.out
      have y2 := frozen_of_block (i := 2) HZ3.out
      have y3 := frozen_of_block (i := 3) HZ3.out
      have hzz := lt_of_block HZ3.out
      clear c0 c1 c2 f1 f2 h0
      obtain ⟨h0, c0, c1, c2, f1, f2⟩ := hs3.cells
      clear hs3 hf3 HT3
      go_wp2_with fail
      refine bodyPost_ret (v := .agg #[.int .i64 3, .string (bs tx), .int .i64 0, .int .i64 L]) (by simp [results, Tryz.results254, go_sem, z0, z1, z2, z3]) rfl ?_
      have hfin := tok_end HF3.out HS3.out (Nat.le_refl _) hrb (.int .i64 3) (.string (bs tx)) (.int .i64 0) (.int .i64 L)
      exact ⟨hfin.1, Or.inl ⟨rfl, rfl, by rw [show n + (sp + 2) = k + 1 by have := HM.out; have := HK.out; omega]; exact hfin.2⟩⟩
    · have hok : ok = false := by
        rw [HOK.out, hget, decide_eq_false (fun e => h34 (by rw [Option.some.inj e]; rfl))]; rfl
      subst hok
      have hrr := HRR.out
      clear HRR HOK hget
      subst hrr
      have h34' : ((src[k].toNat : Int) != 34) = true := by simp; omega
      go_wp2_with fail
      go_quiet (fail)
      go_wp2_with fail
      refine (HFL.out _).mono ?_
      rintro e w3 ⟨rfl, hw⟩
      obtain rfl := hw.symm
      go_wp2_with fail
      exact ⟨rfl, HF2.out.drewN _, Or.inr ⟨rfl, rfl⟩⟩

end Go.Proofs.YtblbkfdhjfppkaaGreatDoor

/- Contracts of the program: marks. -/
namespace Go.Proofs.YtblbkfdhjfppkaaGreatDoor
open Go.RowKit

/-- What the program's table of marks holds. -/
structure PTabs (w : World) : Prop where
  tab : ∃ t fr, w.heap[(6 : Nat)]? = some (.cells #[.string ⟨#[61, 61]⟩, .string ⟨#[33, 61]⟩, .string ⟨#[60, 61]⟩, .string ⟨#[38, 38]⟩, .string ⟨#[124, 124]⟩, .string ⟨#[40]⟩, .string ⟨#[41]⟩, .string ⟨#[123]⟩, .string ⟨#[125]⟩, .string ⟨#[91]⟩, .string ⟨#[93]⟩, .string ⟨#[44]⟩, .string ⟨#[59]⟩, .string ⟨#[61]⟩, .string ⟨#[60]⟩, .string ⟨#[43]⟩, .string ⟨#[45]⟩, .string ⟨#[42]⟩, .string ⟨#[47]⟩, .string ⟨#[37]⟩, .string ⟨#[33]⟩] t fr)
  big : 11 ≤ w.heap.size
theorem PTabs.fr {w w' : World} {sb : Nat} (h : PTabs w) (hf : Fr sb w w') (hs : 11 ≤ sb) : PTabs w' := by
  obtain ⟨t, fr, h1⟩ := h.tab
  have := h.big
  have := hf.size
  exact ⟨⟨t, fr, by rw [hf.block 6 (by omega) (by omega)]; exact h1⟩, by omega⟩

/-- The table as a value. -/
abbrev marksV : Value := .agg #[.string ⟨#[61, 61]⟩, .string ⟨#[33, 61]⟩, .string ⟨#[60, 61]⟩, .string ⟨#[38, 38]⟩, .string ⟨#[124, 124]⟩, .string ⟨#[40]⟩, .string ⟨#[41]⟩, .string ⟨#[123]⟩, .string ⟨#[125]⟩, .string ⟨#[91]⟩, .string ⟨#[93]⟩, .string ⟨#[44]⟩, .string ⟨#[59]⟩, .string ⟨#[61]⟩, .string ⟨#[60]⟩, .string ⟨#[43]⟩, .string ⟨#[45]⟩, .string ⟨#[42]⟩, .string ⟨#[47]⟩, .string ⟨#[37]⟩, .string ⟨#[33]⟩]

theorem marks_at0 (w : World) : (Instr.index 300 marksV (.int .i64 0)).run Tryz.prog w = .ok (.string ⟨#[61, 61]⟩) w := by kernel_rfl
theorem marks_at1 (w : World) : (Instr.index 300 marksV (.int .i64 1)).run Tryz.prog w = .ok (.string ⟨#[33, 61]⟩) w := by kernel_rfl
theorem marks_at2 (w : World) : (Instr.index 300 marksV (.int .i64 2)).run Tryz.prog w = .ok (.string ⟨#[60, 61]⟩) w := by kernel_rfl
theorem marks_at3 (w : World) : (Instr.index 300 marksV (.int .i64 3)).run Tryz.prog w = .ok (.string ⟨#[38, 38]⟩) w := by kernel_rfl
theorem marks_at4 (w : World) : (Instr.index 300 marksV (.int .i64 4)).run Tryz.prog w = .ok (.string ⟨#[124, 124]⟩) w := by kernel_rfl
theorem marks_at5 (w : World) : (Instr.index 300 marksV (.int .i64 5)).run Tryz.prog w = .ok (.string ⟨#[40]⟩) w := by kernel_rfl
theorem marks_at6 (w : World) : (Instr.index 300 marksV (.int .i64 6)).run Tryz.prog w = .ok (.string ⟨#[41]⟩) w := by kernel_rfl
theorem marks_at7 (w : World) : (Instr.index 300 marksV (.int .i64 7)).run Tryz.prog w = .ok (.string ⟨#[123]⟩) w := by kernel_rfl
theorem marks_at8 (w : World) : (Instr.index 300 marksV (.int .i64 8)).run Tryz.prog w = .ok (.string ⟨#[125]⟩) w := by kernel_rfl
theorem marks_at9 (w : World) : (Instr.index 300 marksV (.int .i64 9)).run Tryz.prog w = .ok (.string ⟨#[91]⟩) w := by kernel_rfl
theorem marks_at10 (w : World) : (Instr.index 300 marksV (.int .i64 10)).run Tryz.prog w = .ok (.string ⟨#[93]⟩) w := by kernel_rfl
theorem marks_at11 (w : World) : (Instr.index 300 marksV (.int .i64 11)).run Tryz.prog w = .ok (.string ⟨#[44]⟩) w := by kernel_rfl
theorem marks_at12 (w : World) : (Instr.index 300 marksV (.int .i64 12)).run Tryz.prog w = .ok (.string ⟨#[59]⟩) w := by kernel_rfl
theorem marks_at13 (w : World) : (Instr.index 300 marksV (.int .i64 13)).run Tryz.prog w = .ok (.string ⟨#[61]⟩) w := by kernel_rfl
theorem marks_at14 (w : World) : (Instr.index 300 marksV (.int .i64 14)).run Tryz.prog w = .ok (.string ⟨#[60]⟩) w := by kernel_rfl
theorem marks_at15 (w : World) : (Instr.index 300 marksV (.int .i64 15)).run Tryz.prog w = .ok (.string ⟨#[43]⟩) w := by kernel_rfl
theorem marks_at16 (w : World) : (Instr.index 300 marksV (.int .i64 16)).run Tryz.prog w = .ok (.string ⟨#[45]⟩) w := by kernel_rfl
theorem marks_at17 (w : World) : (Instr.index 300 marksV (.int .i64 17)).run Tryz.prog w = .ok (.string ⟨#[42]⟩) w := by kernel_rfl
theorem marks_at18 (w : World) : (Instr.index 300 marksV (.int .i64 18)).run Tryz.prog w = .ok (.string ⟨#[47]⟩) w := by kernel_rfl
theorem marks_at19 (w : World) : (Instr.index 300 marksV (.int .i64 19)).run Tryz.prog w = .ok (.string ⟨#[37]⟩) w := by kernel_rfl
theorem marks_at20 (w : World) : (Instr.index 300 marksV (.int .i64 20)).run Tryz.prog w = .ok (.string ⟨#[33]⟩) w := by kernel_rfl
theorem marks_at (k : Nat) (hk : k < 21) (w : World) : (Instr.index 300 marksV (.int .i64 k)).run Tryz.prog w = .ok (.string (bs (Hs.others[k]'(by simpa [Hs.others] using hk)))) w := by
  match k, hk with
  | 0, _ => exact marks_at0 w
  | 1, _ => exact marks_at1 w
  | 2, _ => exact marks_at2 w
  | 3, _ => exact marks_at3 w
  | 4, _ => exact marks_at4 w
  | 5, _ => exact marks_at5 w
  | 6, _ => exact marks_at6 w
  | 7, _ => exact marks_at7 w
  | 8, _ => exact marks_at8 w
  | 9, _ => exact marks_at9 w
  | 10, _ => exact marks_at10 w
  | 11, _ => exact marks_at11 w
  | 12, _ => exact marks_at12 w
  | 13, _ => exact marks_at13 w
  | 14, _ => exact marks_at14 w
  | 15, _ => exact marks_at15 w
  | 16, _ => exact marks_at16 w
  | 17, _ => exact marks_at17 w
  | 18, _ => exact marks_at18 w
  | 19, _ => exact marks_at19 w
  | 20, _ => exact marks_at20 w
  | k + 21, h => exact absurd h (by omega)

set_option maxRecDepth 100000 in
set_option maxHeartbeats 2000000 in
theorem tmark_any (sb : Nat) (src : ByteArray) (n L : Nat) (w : World) (h : SC sb src n L w) (hg : PTabs w) (hs : src.size ≤ 2000000000) (hn : n < src.size) (r : Hs.Raw) (hr : Hid (Hs.otherL (src.data.toList.drop n) = r)) :
    Calls Tryz.prog 255 #[.pointer (some ⟨sb, 0, none⟩)] w (TokR sb src n L w r) := by
  have hsb := (SC.cells h).1
  have hrb : w.heap.size ≠ sb := by omega
  have hbig := hg.big
  have hn2 : n ≤ src.size := by omega
  have h1 : SC sb src n L (w.alloc (.cells #[.int .i64 0, .string ⟨#[]⟩, .int .i64 0, .int .i64 0] 206)) := by unfold SC; rw [Below.heap_alloc _ _ _ hsb]; exact h
  have HZ : Hid (ZTok (w.alloc (.cells #[.int .i64 0, .string ⟨#[]⟩, .int .i64 0, .int .i64 0] 206)) w.heap.size) := heap_first _ _ rfl _
  have HF0 : Hid (Fr sb w (w.alloc (.cells #[.int .i64 0, .string ⟨#[]⟩, .int .i64 0, .int .i64 0] 206))) := (Fr.refl _ _).alloc _
  obtain ⟨tt, fr, htab⟩ := hg.tab
  have htab1 : (w.alloc (.cells #[.int .i64 0, .string ⟨#[]⟩, .int .i64 0, .int .i64 0] 206)).heap[(6 : Nat)]? = _ := heap_later w 6 (by omega) _ htab
  have hsz : (Tryz.prog.info? 300).map (·.size) = some (#[.string ⟨#[61, 61]⟩, .string ⟨#[33, 61]⟩, .string ⟨#[60, 61]⟩, .string ⟨#[38, 38]⟩, .string ⟨#[124, 124]⟩, .string ⟨#[40]⟩, .string ⟨#[41]⟩, .string ⟨#[123]⟩, .string ⟨#[125]⟩, .string ⟨#[91]⟩, .string ⟨#[93]⟩, .string ⟨#[44]⟩, .string ⟨#[59]⟩, .string ⟨#[61]⟩, .string ⟨#[60]⟩, .string ⟨#[43]⟩, .string ⟨#[45]⟩, .string ⟨#[42]⟩, .string ⟨#[47]⟩, .string ⟨#[37]⟩, .string ⟨#[33]⟩] : Array Value).size := by kernel_rfl
  have HIX : ∀ (k : Nat) (hk : k < 21) (w : World), (Instr.index 300 (.agg #[.string ⟨#[61, 61]⟩, .string ⟨#[33, 61]⟩, .string ⟨#[60, 61]⟩, .string ⟨#[38, 38]⟩, .string ⟨#[124, 124]⟩, .string ⟨#[40]⟩, .string ⟨#[41]⟩, .string ⟨#[123]⟩, .string ⟨#[125]⟩, .string ⟨#[91]⟩, .string ⟨#[93]⟩, .string ⟨#[44]⟩, .string ⟨#[59]⟩, .string ⟨#[61]⟩, .string ⟨#[60]⟩, .string ⟨#[43]⟩, .string ⟨#[45]⟩, .string ⟨#[42]⟩, .string ⟨#[47]⟩, .string ⟨#[37]⟩, .string ⟨#[33]⟩]) (.int .i64 k)).run Tryz.prog w = .ok (.string (bs (Hs.others[k]'(by simpa [Hs.others] using hk)))) w := marks_at
  generalize (#[.string ⟨#[61, 61]⟩, .string ⟨#[33, 61]⟩, .string ⟨#[60, 61]⟩, .string ⟨#[38, 38]⟩, .string ⟨#[124, 124]⟩, .string ⟨#[40]⟩, .string ⟨#[41]⟩, .string ⟨#[123]⟩, .string ⟨#[125]⟩, .string ⟨#[91]⟩, .string ⟨#[93]⟩, .string ⟨#[44]⟩, .string ⟨#[59]⟩, .string ⟨#[61]⟩, .string ⟨#[60]⟩, .string ⟨#[43]⟩, .string ⟨#[45]⟩, .string ⟨#[42]⟩, .string ⟨#[47]⟩, .string ⟨#[37]⟩, .string ⟨#[33]⟩] : Array Value) = cs at htab1 hsz HIX
  have HIXX := mkHid HIX
  have HTAB := mkHid htab1
  have HSZ := mkHid hsz
  clear htab htab1 hsz HIX
  have H1 := mkHid h1
  clear h h1 hg
  go_enter Tryz.func255, Tryz.ntmps255
  go_wp2_with (refine wpList_load_row rfl 300 (.global 6) rfl 6 (by rfl) tt cs fr (.array 21 9) HTAB.out Tryz.underlying300 rfl HSZ.out ?_)
  go_loopg [4, 6] 21 (fun gk _ i wr => ∃ k : Nat, k + gk = 21 ∧ i = .int .i64 k ∧ Hid (noneTo (src.data.toList.drop n) k) ∧ SC sb src n L wr ∧ Fr sb w wr ∧ ZTok wr w.heap.size)
  case atStart => exact ⟨0, by omega, rfl, fun o ho => (by simp at ho), H1.out, HF0.out, HZ.out⟩
  case round =>
    obtain ⟨k, hk, rfl, HN, hsr, hfr, hzr⟩ := hrel
    obtain ⟨h0, c0, c1, c2, f1, f2⟩ := hsr.cells
    have HSR := mkHid hsr
    have HFR := mkHid hfr
    have HZR := mkHid hzr
    clear hsr hfr hzr HZ HF0 H1
    by_cases hk2 : k < 21
    · obtain ⟨j, rfl⟩ : ∃ j, gk = j + 1 := ⟨gk - 1, by omega⟩
      obtain ⟨q, hq⟩ : ∃ q, q = Hs.others[k]'(by simpa [Hs.others] using hk2) := ⟨_, rfl⟩
      have hix : ∀ w, (Instr.index 300 (.agg cs) (.int .i64 k)).run Tryz.prog w = .ok (.string (bs q)) w := fun w => by rw [hq]; exact HIXX.out k hk2 w
      have hql : q.length ≤ 2 := by rw [hq]; exact others_short k hk2
      have hqs : (bs q).size = q.length := bs_size q
      have HQ : Hid (q = Hs.others[k]'(by simpa [Hs.others] using hk2)) := hq
      clear hq
      have HPX := mkHid (fun w => prefix_any (src.extract n src.size) (bs q) w (by rw [rest_data]; omega) (by rw [bs_size]; omega))
      rw [ext_data, bs_data] at HPX
      cases hst : Hs.startsB (src.data.toList.drop n) q
      · rw [hst] at HPX
        have HF : Hid (noneTo (src.data.toList.drop n) (k + 1)) := noneTo_succ hk2 HN.out (by rw [← HQ.out]; exact hst)
        clear HN HQ hst
        go_wp2_with fail
        go_quiet ((go_at_call 247; exact Calls.quiet_of_same (HPX.out _)))
        go_wp2_with fail
        go_roundg j
        case measure => omega
        case rel => exact ⟨k + 1, by omega, by go_num, HF, HSR.out, HFR.out.drewN _, HZR.out⟩
      · rw [hst] at HPX
        have HF : Hid (r = { sort := 112, text := q, size := q.length, ok := true }) := by rw [← hr.out]; exact otherL_hit hk2 HN.out q HQ.out hst
        have hpl : n + q.length ≤ src.size := by
          have := Hs.startsB_len hst
          simp at this; omega
        have HTXT : Hid ((src.data.toList.drop n).take q.length = q) := by
          show _ = _
          have h1 := hst
          unfold Hs.startsB at h1
          rw [isPrefixOf_take _ _ (Hs.startsB_len hst)] at h1
          simpa using h1
        have HTK := mkHid (fun q' => take_any sb src n L q.length (wr.drewN q') HSR.out hs hpl)
        rw [HTXT.out] at HTK
        have HZQ : Hid (∀ q', ZTok (wr.drewN q') w.heap.size) := fun _ => HZR.out
        have HZW : Hid (∀ q', w.heap.size < (wr.drewN q').heap.size) := fun _ => lt_of_block HZR.out
        clear HN HQ hst
        go_wp2_with fail
        go_quiet ((go_at_call 247; exact Calls.quiet_of_same (HPX.out _)))
        go_wp2_with fail
        go_region_law (go_simp; go_at_call 296; refine (HTK.out _).mono ?_; rintro e w2 ⟨rfl, hs2, hf2⟩; have HS2 := mkHid hs2; have HF2 := mkHid ((HFR.out.drewN _).trans hf2); have HZ2 := mkHid (hf2.keepS (HZQ.out _) hrb); have c2' := (SC.cells HS2.out).2.2.2.1; have z0 := cell_of_block HZ2.out (i := 0) rfl; have z1 := cell_of_block HZ2.out (i := 1) rfl; have z2 := cell_of_block HZ2.out (i := 2) rfl; have z3 := cell_of_block HZ2.out (i := 3) rfl; have y0 := frozen_of_block (i := 0) HZ2.out; have y1 := frozen_of_block (i := 1) HZ2.out; have y2 := frozen_of_block (i := 2) HZ2.out; have y3 := frozen_of_block (i := 3) HZ2.out; have hz2 := lt_of_block HZ2.out; clear hs2 hf2)
        all_goals
          go_wp2_with fail
          rw [HF.out]
          refine bodyPost_ret (v := .agg #[.int .i64 0, .string (bs q), .int .i64 0, .int .i64 L]) (by simp [results, Tryz.results255, go_sem, z0, z1, z2, z3]) rfl ?_
          have hfin := tok_end HF2.out HS2.out (Nat.le_refl _) hrb (.int .i64 0) (.string (bs q)) (.int .i64 0) (.int .i64 L)
          exact ⟨hfin.1, Or.inl ⟨rfl, rfl, hfin.2⟩⟩
    · obtain rfl : k = 21 := by omega
      have HF : Hid (r = { sort := 0, text := [], size := 0, ok := false }) := by rw [← hr.out]; exact otherL_none HN.out
      have HFL := mkHid (sfail_any sb src n L wr HSR.out)
      clear HN
      go_wp2_with fail
      refine HFL.out.mono ?_
      rintro e w3 ⟨rfl, hw⟩
      obtain rfl := hw.symm
      go_wp2_with fail
      rw [HF.out]
      exact ⟨rfl, HFR.out, Or.inr ⟨rfl, rfl⟩⟩

end Go.Proofs.YtblbkfdhjfppkaaGreatDoor

/- Plain facts on numbers that digits spell. -/
namespace Go.Proofs.YtblbkfdhjfppkaaGreatDoor

theorem digit_in {c : UInt8} (h : Hs.digitB c = true) : 48 ≤ c.toNat ∧ c.toNat ≤ 57 := by
  unfold Hs.digitB at h
  simpa using h
theorem whole_step (n : Nat) (c : UInt8) (r : List UInt8) (h : 48 ≤ c.toNat ∧ c.toNat ≤ 57) : Hs.wholeL n (c :: r) = if 9223372036854775807 < n * 10 + (c.toNat - 48) then none else Hs.wholeL (n * 10 + (c.toNat - 48)) r := by
  rw [Hs.wholeL]
  unfold Hs.maxI
  have e : ((9223372036854775807 - (c.toNat - 48)) / 10 < n) ↔ (9223372036854775807 < n * 10 + (c.toNat - 48)) := by omega
  rw [Nat.mul_comm 10 n]
  by_cases h1 : 9223372036854775807 < n * 10 + (c.toNat - 48)
  · rw [if_pos (e.2 h1), if_pos h1]
  · rw [if_neg (fun x => h1 (e.1 x)), if_neg h1]
theorem uint_big : ∀ (l : List UInt8) (acc : Nat), (∀ c ∈ l, Hs.digitB c = true) → 9223372036854775807 < acc → Lib.parseUintM (2 ^ 64 - 1) acc l = .range ∨ ∃ u, Lib.parseUintM (2 ^ 64 - 1) acc l = .ok u ∧ 9223372036854775808 ≤ u
  | [], acc, _, h => Or.inr ⟨acc, rfl, by omega⟩
  | c :: r, acc, hd, h => by
    have hc := digit_in (hd c (List.mem_cons_self ..))
    rw [Lib.parseUintM, if_pos hc]
    by_cases h1 : 1844674407370955162 ≤ acc
    · rw [if_pos h1]; exact Or.inl rfl
    · omega
theorem uint_whole : ∀ (l : List UInt8) (acc : Nat), (∀ c ∈ l, Hs.digitB c = true) → acc ≤ 9223372036854775807 →
    (∃ v, Hs.wholeL acc l = some v ∧ Lib.parseUintM (2 ^ 64 - 1) acc l = .ok v ∧ v ≤ 9223372036854775807) ∨ (Hs.wholeL acc l = none ∧ (Lib.parseUintM (2 ^ 64 - 1) acc l = .range ∨ ∃ u, Lib.parseUintM (2 ^ 64 - 1) acc l = .ok u ∧ 9223372036854775808 ≤ u))
  | [], acc, _, h => Or.inl ⟨acc, rfl, rfl, h⟩
  | c :: r, acc, hd, h => by
    have hc := digit_in (hd c (List.mem_cons_self ..))
    have hr : ∀ x ∈ r, Hs.digitB x = true := fun x hx => hd x (List.mem_cons_of_mem _ hx)
    rw [whole_step acc c r hc, Lib.parseUintM, if_pos hc]
    by_cases h1 : 9223372036854775807 < acc * 10 + (c.toNat - 48)
    · refine Or.inr ⟨if_pos h1, ?_⟩
      by_cases h2 : 1844674407370955162 ≤ acc
      · rw [if_pos h2]; exact Or.inl rfl
      · rw [if_neg h2]
        by_cases h3 : 2 ^ 64 - 1 < acc * 10 + (c.toNat - 48)
        · rw [if_pos h3]; exact Or.inl rfl
        · rw [if_neg h3]; exact uint_big r _ hr h1
    · rw [if_neg h1, if_neg (by omega), if_neg (by omega)]
      exact uint_whole r _ hr (by omega)
theorem int_whole (l : List UInt8) (hd : ∀ c ∈ l, Hs.digitB c = true) (hne : l ≠ []) : (∃ v, Hs.wholeL 0 l = some v ∧ Lib.parseIntB 64 l = .ok (v : Int)) ∨ (Hs.wholeL 0 l = none ∧ Lib.parseIntB 64 l = .range) := by
  cases l with
  | nil => exact absurd rfl hne
  | cons c r =>
    have hc := digit_in (hd c (List.mem_cons_self ..))
    have hs : ¬ (c.toNat = 43 ∨ c.toNat = 45) := by omega
    have hn : ¬ c.toNat = 45 := by omega
    unfold Lib.parseIntB
    simp only [if_neg hs]
    unfold Lib.parseUintB
    rw [if_neg (by simp)]
    rcases uint_whole (c :: r) 0 hd (by omega) with ⟨v, h1, h2, h3⟩ | ⟨h1, h2 | ⟨u, h2, h3⟩⟩
    · refine Or.inl ⟨v, h1, ?_⟩
      rw [h2]
      simp only [hn]
      rw [if_neg (by omega)]
      simp
    · exact Or.inr ⟨h1, by rw [h2]⟩
    · refine Or.inr ⟨h1, ?_⟩
      rw [h2]
      simp only [hn]
      rw [if_pos ⟨by simp, by omega⟩]

end Go.Proofs.YtblbkfdhjfppkaaGreatDoor

/- Contracts of the program: numbers; any token. -/
namespace Go.Proofs.YtblbkfdhjfppkaaGreatDoor
open Go.RowKit

/-- The library's errors are there. -/
structure NTabs (w : World) : Prop where
  er : ∃ te pe, w.cell? ⟨10, 0, none⟩ = some (.iface te pe)
  big : 11 ≤ w.heap.size
theorem NTabs.fr {w w' : World} {sb : Nat} (h : NTabs w) (hf : Fr sb w w') (hs : 11 ≤ sb) : NTabs w' := by
  obtain ⟨te, pe, h1⟩ := h.er
  have := h.big
  have := hf.size
  exact ⟨⟨te, pe, by rw [cell_keep (hf.block 10 (by omega) (by omega))]; exact h1⟩, by omega⟩

/-- What digits are as a number: it, or an error. -/
theorem parse_any (l : List UInt8) (hd : ∀ c ∈ l, Hs.digitB c = true) (hne : l ≠ []) (hl : l.length ≤ 100000) (w : World) (hg : NTabs w) :
    Calls Tryz.prog 300 #[.string (bs l), .int .i64 10, .int .i64 64] w fun e w' => Below w.heap.size w w' ∧ ((∃ v, Hs.wholeL 0 l = some v ∧ e = .returned (.tuple #[.int .i64 (v : Nat), .nilIface])) ∨ (Hs.wholeL 0 l = none ∧ ∃ x T p, e = .returned (.tuple #[.int .i64 x, .iface T p]))) := by
  have hsz : (bs l).size = l.length := bs_size l
  rcases int_whole l hd hne with ⟨v, h1, h2⟩ | ⟨h1, h2⟩
  · refine (Tryz.strconv_ParseInt_10_at64_ok (bs l) (by omega) v (by rw [bs_data]; exact h2) w).mono ?_
    rintro e w' ⟨rfl, hw⟩
    refine ⟨?_, Or.inl ⟨v, h1, rfl⟩⟩
    rcases hw with rfl | ⟨t, rfl⟩
    · exact Below.refl _ _
    · exact Lib.bytesWorld_below _ _ _
  · obtain ⟨te, pe, he⟩ := hg.er
    refine (Tryz.strconv_ParseInt_10_at64_range (bs l) (by omega) (by rw [bs_data]; exact h2) (.iface te pe) w he (Or.inr ⟨te, pe, rfl⟩)).mono ?_
    rintro e w' ⟨N, rfl, _, _, hb⟩
    exact ⟨hb, Or.inr ⟨h1, _, _, _, rfl⟩⟩

theorem word_digit (c : UInt8) : Hs.wordP false c = Hs.digitB c := by unfold Hs.wordP; simp

set_option maxRecDepth 100000 in
set_option maxHeartbeats 2000000 in
theorem tnumber_any (sb : Nat) (src : ByteArray) (n L : Nat) (w : World) (h : SC sb src n L w) (hg : NTabs w) (hsbN : 11 ≤ sb) (hs : src.size ≤ 100000) (hn : n < src.size) (hdn : Hs.digitB src[n] = true) :
    Calls Tryz.prog 253 #[.pointer (some ⟨sb, 0, none⟩)] w (TokR sb src n L w (Hs.wordL (src.data.toList.drop n) false)) := by
  obtain ⟨sp, hsp⟩ : ∃ sp, sp = Hs.spanL (Hs.wordP false) (src.data.toList.drop n) := ⟨_, rfl⟩
  have hle : sp ≤ src.size - n := by
    have := Hs.spanL_le (Hs.wordP false) (src.data.toList.drop n)
    rw [hsp]; simpa using this
  have hpos : 1 ≤ sp := by
    rw [hsp, drop_cons src n hn, spanL_yes _ _ _ (by rw [word_digit]; exact hdn)]; omega
  have hn2 : n ≤ src.size := by omega
  have hsb := (SC.cells h).1
  have hrb : w.heap.size ≠ sb := by omega
  have h1 : SC sb src n L (w.alloc (.cells #[.int .i64 0, .string ⟨#[]⟩, .int .i64 0, .int .i64 0] 206)) := by unfold SC; rw [Below.heap_alloc _ _ _ hsb]; exact h
  obtain ⟨h0, c0, c1, c2, f1, f2⟩ := h1.cells
  have HZD : Hid (ZTok (w.alloc (.cells #[.int .i64 0, .string ⟨#[]⟩, .int .i64 0, .int .i64 0] 206)).drew w.heap.size) := heap_first _ _ rfl _
  have HSP := mkHid (fun w => span_any (Hs.wordP false) 252 (fun _ _ => rfl) (fun c w => by rw [word_digit]; exact pdigit_any c w) (src.extract n src.size) w (by rw [rest_data]; omega))
  rw [ext_data, ← hsp] at HSP
  have HTK := mkHid (take_any sb src n L sp (w.alloc (.cells #[.int .i64 0, .string ⟨#[]⟩, .int .i64 0, .int .i64 0] 206)).drew h1 (by omega) (by omega))
  obtain ⟨tx, htx⟩ : ∃ tx, tx = (src.data.toList.drop n).take sp := ⟨_, rfl⟩
  rw [← htx] at HTK
  have hlen : tx.length = sp := by rw [htx, List.length_take]; simp; omega
  have HPI := mkHid (fun W (hW : NTabs W) => parse_any tx (fun c hc => by
    rw [htx, hsp] at hc
    rw [← word_digit]
    exact spanL_all _ _ c hc) (fun e => by rw [e] at hlen; simp at hlen; omega) (by omega) W hW)
  have HW : Hid (Hs.wordL (src.data.toList.drop n) false = { sort := 48, text := tx, size := sp, ok := (Hs.wholeL 0 tx).isSome }) := by
    show _ = _
    unfold Hs.wordL
    rw [← hsp, ← htx]; rfl
  rw [HW.out]
  have HF0 : Hid (Fr sb w (w.alloc (.cells #[.int .i64 0, .string ⟨#[]⟩, .int .i64 0, .int .i64 0] 206))) := (Fr.refl _ _).alloc _
  have HG := mkHid hg
  have hbs : (bs tx).size = sp := by rw [bs_size]; exact hlen
  clear h h1 hsp htx HW hg hlen hdn
  obtain ⟨rr, hrr⟩ : ∃ rr : Hs.Raw, rr = { sort := 48, text := tx, size := sp, ok := (Hs.wholeL 0 tx).isSome } := ⟨_, rfl⟩
  rw [← hrr]
  have HRR := mkHid hrr
  clear hrr
  go_enter Tryz.func253, Tryz.ntmps253
  go_wp2_with fail
  go_cut [3] (fun v wc => v = .string (bs tx) ∧ SC sb src (n + sp) L wc ∧ Fr sb w wc ∧ ZTok wc w.heap.size)
  case first =>
    go_region_law (first | (go_simp; go_at_call 248; refine (HSP.out _).mono ?_; rintro e w1 ⟨rfl, hw⟩; obtain rfl := hw.symm) | (go_simp; go_at_call 296; refine HTK.out.mono ?_; rintro e w2 ⟨rfl, hs2, hf2⟩; have HS2 := mkHid hs2; have HF2 := mkHid (HF0.out.drew.trans hf2); have HZ2 := mkHid (hf2.keepS HZD.out hrb); clear hs2 hf2))
    all_goals
      go_wp2_with fail
      go_meet
      case rel => exact ⟨rfl, HS2.out, HF2.out, HZ2.out⟩
  case rest =>
    obtain ⟨rfl, hs2, hf2, hz2⟩ := hcut
    have HS2 := mkHid hs2
    have HF2 := mkHid hf2
    have HZ2 := mkHid hz2
    have HPC := mkHid (HPI.out wc (HG.out.fr hf2 hsbN))
    clear c0 c1 c2 f1 f2 h0 hs2 hf2 hz2 HTK HSP HZD HPI
    go_wp2_with fail
    refine HPC.out.mono ?_
    rintro e w3 ⟨hb3, ⟨v, hv, rfl⟩ | ⟨hv, x, T, p, rfl⟩⟩
    · have HS3 : Hid (SC sb src (n + sp) L w3) := (hb3.block sb (lt_of_block HS2.out)).trans HS2.out
      have HZ3 : Hid (ZTok w3 w.heap.size) := (hb3.block _ (lt_of_block HZ2.out)).trans HZ2.out
      have HF3 := mkHid (HF2.out.trans (Fr.below hb3))
      obtain ⟨h0, c0, c1, c2, f1, f2⟩ := HS3.out.cells
      have z0 := cell_of_block HZ3.out (i := 0) rfl
      have z1 := cell_of_block HZ3.out (i := 1) rfl
      have z2 := cell_of_block HZ3.out (i := 2) rfl
      have z3 := cell_of_block HZ3.out (i := 3) rfl
      have y0 := frozen_of_block (i := 0) HZ3.out
      have y1 := frozen_of_block (i := 1) HZ3.out
      have y2 := frozen_of_block (i := 2) HZ3.out
      have y3 := frozen_of_block (i := 3) HZ3.out
      have hzz := lt_of_block HZ3.out
      have HV := mkHid hv
      clear hb3 hv HPC
      go_wp2_with fail
      rw [HRR.out]
      refine bodyPost_ret (v := .agg #[.int .i64 2, .string (bs tx), .int .i64 v, .int .i64 L]) (by simp [results, Tryz.results253, go_sem, z0, z1, z2, z3]) rfl ?_
      have hfin := tok_end HF3.out HS3.out (Nat.le_refl _) hrb (.int .i64 2) (.string (bs tx)) (.int .i64 v) (.int .i64 L)
      refine ⟨hfin.1, Or.inl ⟨by show (Hs.wholeL 0 tx).isSome = true; rw [HV.out]; rfl, ?_, hfin.2⟩⟩
      show _ = Ending.returned (.agg #[.int .i64 2, .string (bs tx), .int .i64 (pval ⟨48, tx, L⟩), .int .i64 L])
      have e : pval ⟨48, tx, L⟩ = v := by unfold pval; rw [if_pos rfl, HV.out]; rfl
      rw [e]
    · have HS3 : Hid (SC sb src (n + sp) L w3) := (hb3.block sb (lt_of_block HS2.out)).trans HS2.out
      have HF3 := mkHid (HF2.out.trans (Fr.below hb3))
      have HFL := mkHid (sfail_any sb src (n + sp) L w3 HS3.out)
      have HV := mkHid hv
      clear hb3 hv HPC
      go_wp2_with fail
      refine HFL.out.mono ?_
      rintro e w4 ⟨rfl, hw⟩
      obtain rfl := hw.symm
      go_wp2_with fail
      rw [HRR.out]
      exact ⟨rfl, HF3.out, Or.inr ⟨by show (Hs.wholeL 0 tx).isSome = false; rw [HV.out]; rfl, rfl⟩⟩

end Go.Proofs.YtblbkfdhjfppkaaGreatDoor

/- Contracts of the program: any token. -/
namespace Go.Proofs.YtblbkfdhjfppkaaGreatDoor
open Go.RowKit

set_option maxRecDepth 100000 in
set_option maxHeartbeats 4000000 in
theorem token_any (sb : Nat) (src : ByteArray) (n L : Nat) (w : World) (h : SC sb src n L w) (hg : NTabs w) (hm : PTabs w) (hsbN : 11 ≤ sb) (hs : src.size ≤ 100000) (hn : n < src.size) :
    Calls Tryz.prog 183 #[.pointer (some ⟨sb, 0, none⟩)] w (TokR sb src n L w (Hs.tokL (src.data.toList.drop n))) := by
  have hsb := (SC.cells h).1
  have hrb : w.heap.size ≠ sb := by omega
  have hb : (src[n].toNat : Int) ≤ 255 := byte_le _
  have h1 : SC sb src n L (w.alloc (.cells #[.int .i64 0, .string ⟨#[]⟩, .int .i64 0, .int .i64 0] 206)) := by unfold SC; rw [Below.heap_alloc _ _ _ hsb]; exact h
  obtain ⟨h0, c0, c1, c2, f1, f2⟩ := h1.cells
  have HZD : Hid (∀ q, ZTok ((w.alloc (.cells #[.int .i64 0, .string ⟨#[]⟩, .int .i64 0, .int .i64 0] 206)).drewN q) w.heap.size) := fun _ => heap_first _ _ rfl _
  have hF0 : Fr sb w (w.alloc (.cells #[.int .i64 0, .string ⟨#[]⟩, .int .i64 0, .int .i64 0] 206)) := (Fr.refl _ _).alloc _
  have HF0 := mkHid hF0
  have HG : Hid (∀ q, NTabs ((w.alloc (.cells #[.int .i64 0, .string ⟨#[]⟩, .int .i64 0, .int .i64 0] 206)).drewN q)) := fun q => hg.fr (hF0.drewN q) hsbN
  have HMT : Hid (∀ q, PTabs ((w.alloc (.cells #[.int .i64 0, .string ⟨#[]⟩, .int .i64 0, .int .i64 0] 206)).drewN q)) := fun q => hm.fr (hF0.drewN q) hsbN
  have H1 := mkHid h1
  obtain ⟨rr, hrr⟩ : ∃ rr, rr = Hs.tokL (src.data.toList.drop n) := ⟨_, rfl⟩
  rw [← hrr]
  have hrr2 : rr = if Hs.digitB src[n] || Hs.letterB src[n] then Hs.wordL (src.data.toList.drop n) (Hs.letterB src[n]) else if src[n].toNat = 34 then Hs.strL (src.data.toList.drop (n + 1)) else Hs.otherL (src.data.toList.drop n) := by rw [hrr, drop_cons src n hn]; rfl
  have HRR := mkHid hrr2
  have HPL := mkHid (pletter_any src[n])
  have HPD := mkHid (pdigit_any src[n])
  clear h h1 hg hm hrr hrr2 hF0
  cases hl : Hs.letterB src[n]
  · cases hd : Hs.digitB src[n]
    · by_cases h34 : src[n].toNat = 34
      · have e : rr = Hs.strL (src.data.toList.drop (n + 1)) := by rw [HRR.out, hl, hd]; simp [h34]
        have HX := mkHid (fun q => ttext_any sb src n L ((w.alloc (.cells #[.int .i64 0, .string ⟨#[]⟩, .int .i64 0, .int .i64 0] 206)).drewN q) H1.out (by omega) hn)
        rw [← e] at HX
        rw [hl] at HPL
        rw [hd] at HPD
        have h34' : ((src[n].toNat : Int) == 34) = true := by simp; omega
        clear hl hd e HRR h34
        go_enter Tryz.func183, Tryz.ntmps183
        go_wp2_with fail
        go_quiet (fail)
        go_wp2_with fail
        refine (HPL.out _).mono ?_
        rintro e w1 ⟨rfl, hw⟩
        obtain rfl := hw.symm
        go_wp2_with fail
        refine (HPD.out _).mono ?_
        rintro e w1 ⟨rfl, hw⟩
        obtain rfl := hw.symm
        go_wp2_with fail
        refine (HX.out _).mono ?_
        rintro e w2 ⟨hf2, ⟨hok, rfl, hs2⟩ | ⟨hok, rfl⟩⟩
        · have HF2 := mkHid ((HF0.out.drewN _).trans hf2)
          have HS2 := mkHid hs2
          have HZ2 := mkHid (hf2.keepS (HZD.out _) hrb)
          have HOK := mkHid hok
          have z0 := cell_of_block HZ2.out (i := 0) rfl
          have z1 := cell_of_block HZ2.out (i := 1) rfl
          have z2 := cell_of_block HZ2.out (i := 2) rfl
          have z3 := cell_of_block HZ2.out (i := 3) rfl
          have y0 := frozen_of_block (i := 0) HZ2.out
          have y1 := frozen_of_block (i := 1) HZ2.out
          have y2 := frozen_of_block (i := 2) HZ2.out
          have y3 := frozen_of_block (i := 3) HZ2.out
          have hzz := lt_of_block HZ2.out
          clear hf2 hs2 hok
          simp only [ptokV]
          go_wp2_with fail
          refine bodyPost_ret (v := .agg #[.int .i64 (psort rr.sort), .string (bs rr.text), .int .i64 (pval ⟨rr.sort, rr.text, L⟩), .int .i64 L]) (by clear HG HMT HZD HF0 HF2 HS2 HZ2 HOK; generalize psort rr.sort = pa; generalize pval ⟨rr.sort, rr.text, L⟩ = pb; simp [results, Tryz.results183, go_sem, z0, z1, z2, z3]) rfl ?_
          have hfin := tok_end HF2.out HS2.out (Nat.le_refl _) hrb (.int .i64 (psort rr.sort)) (.string (bs rr.text)) (.int .i64 (pval ⟨rr.sort, rr.text, L⟩)) (.int .i64 L)
          exact ⟨hfin.1, Or.inl ⟨HOK.out, rfl, hfin.2⟩⟩
        · have HF2 := mkHid ((HF0.out.drewN _).trans hf2)
          have HOK := mkHid hok
          clear hf2 hok
          go_wp2_with fail
          exact ⟨rfl, HF2.out, Or.inr ⟨HOK.out, rfl⟩⟩
      · have e : Hs.otherL (src.data.toList.drop n) = rr := by rw [HRR.out, hl, hd]; simp [h34]
        have HX := mkHid (fun q => tmark_any sb src n L ((w.alloc (.cells #[.int .i64 0, .string ⟨#[]⟩, .int .i64 0, .int .i64 0] 206)).drewN q) H1.out (HMT.out q) (by omega) hn rr e)
        rw [hl] at HPL
        rw [hd] at HPD
        have h34' : ((src[n].toNat : Int) == 34) = false := by simp; omega
        clear hl hd e HRR h34
        go_enter Tryz.func183, Tryz.ntmps183
        go_wp2_with fail
        go_quiet (fail)
        go_wp2_with fail
        refine (HPL.out _).mono ?_
        rintro e w1 ⟨rfl, hw⟩
        obtain rfl := hw.symm
        go_wp2_with fail
        refine (HPD.out _).mono ?_
        rintro e w1 ⟨rfl, hw⟩
        obtain rfl := hw.symm
        go_wp2_with fail
        refine (HX.out _).mono ?_
        rintro e w2 ⟨hf2, ⟨hok, rfl, hs2⟩ | ⟨hok, rfl⟩⟩
        · have HF2 := mkHid ((HF0.out.drewN _).trans hf2)
          have HS2 := mkHid hs2
          have HZ2 := mkHid (hf2.keepS (HZD.out _) hrb)
          have HOK := mkHid hok
          have z0 := cell_of_block HZ2.out (i := 0) rfl
          have z1 := cell_of_block HZ2.out (i := 1) rfl
          have z2 := cell_of_block HZ2.out (i := 2) rfl
          have z3 := cell_of_block HZ2.out (i := 3) rfl
          have y0 := frozen_of_block (i := 0) HZ2.out
          have y1 := frozen_of_block (i := 1) HZ2.out
          have y2 := frozen_of_block (i := 2) HZ2.out
          have y3 := frozen_of_block (i := 3) HZ2.out
          have hzz := lt_of_block HZ2.out
          clear hf2 hs2 hok
          simp only [ptokV]
          go_wp2_with fail
          refine bodyPost_ret (v := .agg #[.int .i64 (psort rr.sort), .string (bs rr.text), .int .i64 (pval ⟨rr.sort, rr.text, L⟩), .int .i64 L]) (by clear HG HMT HZD HF0 HF2 HS2 HZ2 HOK; generalize psort rr.sort = pa; generalize pval ⟨rr.sort, rr.text, L⟩ = pb; simp [results, Tryz.results183, go_sem, z0, z1, z2, z3]) rfl ?_
          have hfin := tok_end HF2.out HS2.out (Nat.le_refl _) hrb (.int .i64 (psort rr.sort)) (.string (bs rr.text)) (.int .i64 (pval ⟨rr.sort, rr.text, L⟩)) (.int .i64 L)
          exact ⟨hfin.1, Or.inl ⟨HOK.out, rfl, hfin.2⟩⟩
        · have HF2 := mkHid ((HF0.out.drewN _).trans hf2)
          have HOK := mkHid hok
          clear hf2 hok
          go_wp2_with fail
          exact ⟨rfl, HF2.out, Or.inr ⟨HOK.out, rfl⟩⟩
    · have e : rr = Hs.wordL (src.data.toList.drop n) false := by rw [HRR.out, hl, hd]; rfl
      have HX := mkHid (fun q => tnumber_any sb src n L ((w.alloc (.cells #[.int .i64 0, .string ⟨#[]⟩, .int .i64 0, .int .i64 0] 206)).drewN q) H1.out (HG.out q) hsbN hs hn hd)
      rw [← e] at HX
      rw [hl] at HPL
      rw [hd] at HPD
      clear hl hd e HRR
      go_enter Tryz.func183, Tryz.ntmps183
      go_wp2_with fail
      go_quiet (fail)
      go_wp2_with fail
      refine (HPL.out _).mono ?_
      rintro e w1 ⟨rfl, hw⟩
      obtain rfl := hw.symm
      go_wp2_with fail
      refine (HPD.out _).mono ?_
      rintro e w1 ⟨rfl, hw⟩
      obtain rfl := hw.symm
      go_wp2_with fail
      refine (HX.out _).mono ?_
      rintro e w2 ⟨hf2, ⟨hok, rfl, hs2⟩ | ⟨hok, rfl⟩⟩
      · have HF2 := mkHid ((HF0.out.drewN _).trans hf2)
        have HS2 := mkHid hs2
        have HZ2 := mkHid (hf2.keepS (HZD.out _) hrb)
        have HOK := mkHid hok
        have z0 := cell_of_block HZ2.out (i := 0) rfl
        have z1 := cell_of_block HZ2.out (i := 1) rfl
        have z2 := cell_of_block HZ2.out (i := 2) rfl
        have z3 := cell_of_block HZ2.out (i := 3) rfl
        have y0 := frozen_of_block (i := 0) HZ2.out
        have y1 := frozen_of_block (i := 1) HZ2.out
        have y2 := frozen_of_block (i := 2) HZ2.out
        have y3 := frozen_of_block (i := 3) HZ2.out
        have hzz := lt_of_block HZ2.out
        clear hf2 hs2 hok
        simp only [ptokV]
        go_wp2_with fail
        refine bodyPost_ret (v := .agg #[.int .i64 (psort rr.sort), .string (bs rr.text), .int .i64 (pval ⟨rr.sort, rr.text, L⟩), .int .i64 L]) (by clear HG HMT HZD HF0 HF2 HS2 HZ2 HOK; generalize psort rr.sort = pa; generalize pval ⟨rr.sort, rr.text, L⟩ = pb; simp [results, Tryz.results183, go_sem, z0, z1, z2, z3]) rfl ?_
        have hfin := tok_end HF2.out HS2.out (Nat.le_refl _) hrb (.int .i64 (psort rr.sort)) (.string (bs rr.text)) (.int .i64 (pval ⟨rr.sort, rr.text, L⟩)) (.int .i64 L)
        exact ⟨hfin.1, Or.inl ⟨HOK.out, rfl, hfin.2⟩⟩
      · have HF2 := mkHid ((HF0.out.drewN _).trans hf2)
        have HOK := mkHid hok
        clear hf2 hok
        go_wp2_with fail
        exact ⟨rfl, HF2.out, Or.inr ⟨HOK.out, rfl⟩⟩
  · have e : rr = Hs.wordL (src.data.toList.drop n) true := by rw [HRR.out, hl, Bool.or_true]; rfl
    have HX := mkHid (fun q => tname_any sb src n L ((w.alloc (.cells #[.int .i64 0, .string ⟨#[]⟩, .int .i64 0, .int .i64 0] 206)).drewN q) H1.out (by omega) (by omega))
    rw [← e] at HX
    rw [hl] at HPL
    clear hl e HRR HPD
    go_enter Tryz.func183, Tryz.ntmps183
    go_wp2_with fail
    go_quiet (fail)
    go_wp2_with fail
    refine (HPL.out _).mono ?_
    rintro e w1 ⟨rfl, hw⟩
    obtain rfl := hw.symm
    go_wp2_with fail
    refine (HX.out _).mono ?_
    rintro e w2 ⟨hf2, ⟨hok, rfl, hs2⟩ | ⟨hok, rfl⟩⟩
    · have HF2 := mkHid ((HF0.out.drewN _).trans hf2)
      have HS2 := mkHid hs2
      have HZ2 := mkHid (hf2.keepS (HZD.out _) hrb)
      have HOK := mkHid hok
      have z0 := cell_of_block HZ2.out (i := 0) rfl
      have z1 := cell_of_block HZ2.out (i := 1) rfl
      have z2 := cell_of_block HZ2.out (i := 2) rfl
      have z3 := cell_of_block HZ2.out (i := 3) rfl
      have y0 := frozen_of_block (i := 0) HZ2.out
      have y1 := frozen_of_block (i := 1) HZ2.out
      have y2 := frozen_of_block (i := 2) HZ2.out
      have y3 := frozen_of_block (i := 3) HZ2.out
      have hzz := lt_of_block HZ2.out
      clear hf2 hs2 hok
      simp only [ptokV]
      go_wp2_with fail
      refine bodyPost_ret (v := .agg #[.int .i64 (psort rr.sort), .string (bs rr.text), .int .i64 (pval ⟨rr.sort, rr.text, L⟩), .int .i64 L]) (by clear HG HMT HZD HF0 HF2 HS2 HZ2 HOK; generalize psort rr.sort = pa; generalize pval ⟨rr.sort, rr.text, L⟩ = pb; simp [results, Tryz.results183, go_sem, z0, z1, z2, z3]) rfl ?_
      have hfin := tok_end HF2.out HS2.out (Nat.le_refl _) hrb (.int .i64 (psort rr.sort)) (.string (bs rr.text)) (.int .i64 (pval ⟨rr.sort, rr.text, L⟩)) (.int .i64 L)
      exact ⟨hfin.1, Or.inl ⟨HOK.out, rfl, hfin.2⟩⟩
    · have HF2 := mkHid ((HF0.out.drewN _).trans hf2)
      have HOK := mkHid hok
      clear hf2 hok
      go_wp2_with fail
      exact ⟨rfl, HF2.out, Or.inr ⟨HOK.out, rfl⟩⟩

end Go.Proofs.YtblbkfdhjfppkaaGreatDoor

/- Contracts of the program: all tokens. -/
namespace Go.Proofs.YtblbkfdhjfppkaaGreatDoor
open Go.RowKit

theorem infoPTok : (Tryz.prog.info? 206).map (fun i => (i.zero, i.size, i.bytes)) = some (some (.agg #[.int .i64 0, .string (bs []), .int .i64 0, .int .i64 0]), 4, 40) := by kernel_rfl

theorem news_ptok (w : World) (a b c d : Value) : ∀ j u, ([a, b, c, d] : List Value)[j]? = some u → (w.alloc (.cells #[a, b, c, d] 206)).cell? ((⟨w.heap.size, 0, none⟩ : Addr).add j) = some u := by
  intro j u hj
  match j, hj with
  | 0, hj => simp at hj; subst hj; simp [Addr.add, go_sem]
  | 1, hj => simp at hj; subst hj; simp [Addr.add, go_sem]
  | 2, hj => simp at hj; subst hj; simp [Addr.add, go_sem]
  | 3, hj => simp at hj; subst hj; simp [Addr.add, go_sem]
  | j + 4, hj => simp at hj
theorem one_ptok (l m n : Int) (b : ByteArray) : ∀ u ∈ ([.int .i64 l, .string b, .int .i64 m, .int .i64 n] : List Value), u.oneCell' = true := by
  intro u hu; simp at hu; rcases hu with rfl | rfl | rfl | rfl <;> rfl

theorem row_slice {w : World} {b : Nat} {e : TypeId} {size : Nat} {v : Value} {n : Nat} {xs : List Value} (h : w.ownsRow b e size v n xs) : ∃ x c, v = .slice x n c := by
  rcases h.2 with ⟨r1, r2⟩ | ⟨g, cap, cur, r1, _⟩
  · exact ⟨none, 0, by rw [r1, r2]⟩
  · exact ⟨_, cap, r1⟩

theorem count_none {l : List UInt8} (h : ∀ c ∈ l, c ≠ 10) : l.count 10 = 0 := List.count_eq_zero.2 fun hm => h 10 hm rfl
/-- No token goes beyond its line. -/
theorem tok_noline (l : List UInt8) (h : (Hs.tokL l).ok = true) : (l.take (Hs.tokL l).size).count 10 = 0 := by
  cases l with
  | nil => simp [Hs.tokL] at h
  | cons c r =>
    rw [Hs.tokL] at h ⊢
    split
    · rename_i hd
      rw [Hs.wordL_size]
      refine count_none fun x hx => ?_
      have := spanL_all _ _ x hx
      intro e
      subst e
      revert this
      cases Hs.letterB c <;> decide
    · rename_i hd
      rw [if_neg hd] at h
      split
      · rename_i h34
        rw [if_pos h34] at h
        have h' : (decide (r[Hs.spanL Hs.strP r]? = some 34) && decide (Hs.spanL Hs.strP r ≤ 100)) = true := h
        rw [Bool.and_eq_true, decide_eq_true_eq] at h'
        have hlt : Hs.spanL Hs.strP r < r.length := by
          by_cases hx : Hs.spanL Hs.strP r < r.length
          · exact hx
          · rw [List.getElem?_eq_none (by omega)] at h'; exact absurd h'.1 (by simp)
        show ((c :: r).take (Hs.spanL Hs.strP r + 1 + 1)).count 10 = 0
        rw [List.take_succ_cons, List.take_add_one, h'.1]
        refine count_none fun x hx => ?_
        rcases List.mem_cons.1 hx with rfl | hx
        · intro e; rw [e] at h34; exact absurd h34 (by decide)
        rcases List.mem_append.1 hx with hx | hx
        · have := spanL_all _ _ x hx
          intro e
          subst e
          exact absurd this (by decide)
        · intro e
          rw [e] at hx
          exact absurd hx (by decide)
      · rename_i h34
        rw [if_neg h34] at h
        unfold Hs.otherL at h ⊢
        cases ho : Hs.others.find? (fun o => Hs.startsB (c :: r) o) with
        | none => rw [ho] at h; simp at h
        | some o =>
          have h1 := List.find?_some ho
          have h2 := List.mem_of_find?_eq_some ho
          have h3 : (c :: r).take o.length = o := by
            have h4 := h1
            unfold Hs.startsB at h4
            rw [isPrefixOf_take _ _ (Hs.startsB_len h1)] at h4
            simpa using h4
          show ((c :: r).take o.length).count 10 = 0
          rw [h3]
          have : ∀ o ∈ Hs.others, o.count 10 = 0 := by decide
          exact this o h2

/-- What reading all tokens gives. -/
def scanPost (x : Except Nat (List Hs.Tok)) (w : World) (e : Ending) (w' : World) : Prop :=
  Below w.heap.size w w' ∧
    match x with
    | .error n => e = faultE 3 n
    | .ok ts => ∃ v, e = .returned v ∧ w'.ownsRow (w.heap.size + 1) 206 4 v ts.length (ptoks ts)

/-- What holds at the head of the loop over tokens. -/
def ScInv (src : ByteArray) (w : World) (TS : Except Nat (List Hs.Tok)) (gk : Nat) (v : Value) (wr : World) : Prop :=
  ∃ (k f : Nat) (ts : List Hs.Tok), k ≤ src.size ∧ src.size + 1 ≤ k + f ∧ src.size ≤ k + gk ∧ ts.length ≤ k ∧ SC w.heap.size src k (Hs.lineOf (src.data.toList.take k)) wr ∧ Fr w.heap.size w wr ∧ wr.ownsRow (w.heap.size + 1) 206 4 v ts.length (ptoks ts) ∧ TS = Hs.prepend ts (Hs.toksL f (src.data.toList.take k) (src.data.toList.drop k))

theorem Fr.to_below {w w' : World} (h : Fr w.heap.size w w') : Below w.heap.size w w' := ⟨h.os, h.tape, h.output, h.size, fun k hk => h.block k hk (by omega)⟩

set_option maxRecDepth 100000 in
set_option maxHeartbeats 4000000 in
theorem scan_any (src : ByteArray) (w : World) (hg : NTabs w) (hm : PTabs w) (hs : src.size ≤ 2000) :
    Calls Tryz.prog 132 #[.string src] w (scanPost (Hs.tokens src.data.toList) w) := by
  obtain ⟨i0, hi, hz0, hz1, hz2⟩ := info_parts infoPTok
  have hbig := hg.big
  have h0 : SC w.heap.size src 0 (Hs.lineOf (src.data.toList.take 0)) (w.alloc (.cells #[.string src, .int .i64 0, .int .i64 1] 290)) := heap_first _ _ rfl _
  have HSK := mkHid (skip_any w.heap.size src 0 (w.alloc (.cells #[.string src, .int .i64 0, .int .i64 1] 290)) h0 (by omega) (Nat.zero_le _))
  simp only [List.drop_zero, Nat.zero_add] at HSK
  obtain ⟨b0, hb0⟩ : ∃ b0, b0 = Hs.blankL src.size src.data.toList := ⟨_, rfl⟩
  have hb0l : b0 ≤ src.size := by have := Hs.blankL_le src.size src.data.toList; rw [hb0]; simpa using this
  rw [← hb0] at HSK
  obtain ⟨TS, hTS⟩ : ∃ TS, TS = Hs.tokens src.data.toList := ⟨_, rfl⟩
  have HTS : Hid (TS = Hs.toksL (src.size + 1) (src.data.toList.take b0) (src.data.toList.drop b0)) := by
    show _ = _
    rw [hTS]
    unfold Hs.tokens
    rw [show src.data.toList.length = src.size by simp, ← hb0]
  rw [← hTS]
  have HF0 : Hid (Fr w.heap.size w (w.alloc (.cells #[.string src, .int .i64 0, .int .i64 1] 290))) := (Fr.refl _ _).alloc _
  have HG := mkHid hg
  have HM := mkHid hm
  clear h0 hg hm hb0 hTS
  go_enter Tryz.func132, Tryz.ntmps132
  go_wp2_with fail
  refine HSK.out.mono ?_
  rintro e w1 ⟨rfl, hs1, hf1⟩
  have HI : Hid (ScInv src w TS src.size (.slice none 0 0) w1) := ⟨b0, src.size + 1, [], hb0l, by omega, by omega, by simp, hs1, HF0.out.trans hf1, World.ownsRow_nil _ _ _ _, by rw [HTS.out, Hs.prepend_nil]⟩
  clear hs1 hf1 HSK HTS HF0
  go_wp2_with fail
  go_loopg [4] src.size (fun gk v wr => ScInv src w TS gk v wr)
  case atStart => exact HI.out
  case round =>
    obtain ⟨k, f, ts, hk, hf, hgk, htl, hsc, hfr, hown, hTS⟩ := hrel
    have hL : Hs.lineOf (src.data.toList.take k) ≤ k + 1 := by
      have := Hs.lineOf_le (src.data.toList.take k); have := List.length_take_le k src.data.toList; omega
    obtain ⟨h0, c0, c1, c2, f1, f2⟩ := hsc.cells
    have hwz := hfr.size
    have HSC := mkHid hsc
    have HFR := mkHid hfr
    have HTS := mkHid hTS
    obtain ⟨x, c, rfl⟩ := row_slice hown
    have hge : ∀ k, (Value.slice x ts.length c).ownBlock = some k → w.heap.size + 1 ≤ k := own_block_ge hown
    clear HI hsc hfr hTS
    by_cases hlt : k < src.size
    · obtain ⟨f, rfl⟩ : ∃ f', f = f' + 1 := ⟨f - 1, by omega⟩
      obtain ⟨j, rfl⟩ : ∃ j, gk = j + 1 := ⟨gk - 1, by omega⟩
      have hlt' : decide ((k : Int) < (src.size : Int)) = true := decide_eq_true (by omega)
      have hl : (src.data.toList.drop k).length = src.size - k := by simp
      have HTK := mkHid (token_any w.heap.size src k (Hs.lineOf (src.data.toList.take k)) wr HSC.out (HG.out.fr HFR.out hbig) (HM.out.fr HFR.out hbig) hbig (by omega) hlt)
      cases hok : (Hs.tokL (src.data.toList.drop k)).ok
      · have HF : Hid (TS = .error (Hs.lineOf (src.data.toList.take k))) := by
          show _ = _
          rw [HTS.out, Hs.toksL_bad _ _ _ (by omega) hok]; rfl
        have HOK := mkHid hok
        clear HTS hl hok
        generalize Hs.lineOf (src.data.toList.take k) = L at *
        go_wp2_with fail
        refine HTK.out.mono ?_
        rintro e w2 ⟨hf2, ⟨hk2, _, _⟩ | ⟨hk2, rfl⟩⟩
        · rw [HOK.out] at hk2; cases hk2
        have HF2 := mkHid (HFR.out.trans hf2)
        clear hf2 hk2 HTK
        go_wp2_with fail
        rw [HF.out]
        exact ⟨rfl, HF2.out.to_below, rfl⟩
      · have hsz := Hs.tokL_size _ hok
        rw [hl] at hsz
        have hnl := tok_noline _ hok
        obtain ⟨m, hm⟩ : ∃ m, m = k + (Hs.tokL (src.data.toList.drop k)).size + Hs.blankL src.size (src.data.toList.drop (k + (Hs.tokL (src.data.toList.drop k)).size)) := ⟨_, rfl⟩
        have hml : m ≤ src.size := by
          have := Hs.blankL_le src.size (src.data.toList.drop (k + (Hs.tokL (src.data.toList.drop k)).size))
          rw [List.length_drop, show src.data.toList.length = src.size by simp] at this
          omega
        have HT := toksL_at src k f hlt hok m hm
        have HF : Hid (TS = Hs.prepend (ts ++ [{ sort := (Hs.tokL (src.data.toList.drop k)).sort, text := (Hs.tokL (src.data.toList.drop k)).text, line := Hs.lineOf (src.data.toList.take k) }]) (Hs.toksL f (src.data.toList.take m) (src.data.toList.drop m))) := by
          show _ = _
          rw [HTS.out, HT, Hs.prepend_snoc]
        have hln : Hs.lineOf (src.data.toList.take (k + (Hs.tokL (src.data.toList.drop k)).size)) = Hs.lineOf (src.data.toList.take k) := by
          rw [List.take_add, Hs.lineOf_append, hnl]; rfl
        have HSK := mkHid (fun W (hW : SC w.heap.size src (k + (Hs.tokL (src.data.toList.drop k)).size) (Hs.lineOf (src.data.toList.take (k + (Hs.tokL (src.data.toList.drop k)).size))) W) => skip_any w.heap.size src _ W hW (by omega) (by omega))
        rw [hln] at HSK
        simp only [← hm] at HSK
        have HOK := mkHid hok
        have hkm : k < m := by omega
        clear HTS hl hok HT hnl hln hm
        generalize Hs.tokL (src.data.toList.drop k) = r at *
        obtain ⟨pa, hpa⟩ : ∃ pa, pa = psort r.sort := ⟨_, rfl⟩
        obtain ⟨pb, hpb⟩ : ∃ pb, pb = pval ⟨r.sort, r.text, Hs.lineOf (src.data.toList.take k)⟩ := ⟨_, rfl⟩
        have HPT : Hid (ptokV ⟨r.sort, r.text, Hs.lineOf (src.data.toList.take k)⟩ = .agg #[.int .i64 pa, .string (bs r.text), .int .i64 pb, .int .i64 (Hs.lineOf (src.data.toList.take k))]) := by show _ = _; rw [hpa, hpb]; rfl
        have HPK : Hid (ptok ⟨r.sort, r.text, Hs.lineOf (src.data.toList.take k)⟩ = [.int .i64 pa, .string (bs r.text), .int .i64 pb, .int .i64 (Hs.lineOf (src.data.toList.take k))]) := by show _ = _; rw [hpa, hpb]; rfl
        clear hpa hpb
        generalize Hs.lineOf (src.data.toList.take k) = L at *
        have HGE := mkHid hge
        have HOW := mkHid hown
        clear hown hge
        go_wp2_with fail
        refine HTK.out.mono ?_
        rintro e w2 ⟨hf2, ⟨hk2, rfl, hs2⟩ | ⟨hk2, rfl⟩⟩
        rotate_left
        · rw [HOK.out] at hk2; cases hk2
        rw [HPT.out]
        have hown2 := ownsRow_keep (w1 := w2) HOW.out fun i hi => hf2.block i (own_block_lt HOW.out i hi) (by have := HGE.out i hi; omega)
        have HF2 := mkHid (HFR.out.trans hf2)
        have HS2 := mkHid hs2
        have hwz2 := HF2.out.size
        have hsb2 := lt_of_block hs2
        clear hf2 hk2 hs2 HTK HPT
        go_wp2_with (at_builtin; refine wpList_append_lies _ (by rfl) _ _ 142 (by rfl) (w.heap.size + 1) 206 i0 _ 4 40 Tryz.underlying142 hi hz0 hz1 hz2 rfl (by decide) _ _ _ (by rfl) (hown2.alloc _) ⟨w2.heap.size, 0, none⟩ 1 1 [.int .i64 pa, .string (bs r.text), .int .i64 pb, .int .i64 L] (by rfl) (by rfl) (news_ptok _ _ _ _ _) (one_ptok _ _ _ _) (by decide) (by unfold maxLen; omega) (by omega) (by simp; omega) (w2.heap.size + 1) (by simp) ?_)
        intro g7 cap7 w7 hown7 hgrow7 hat7 hg7
        have HF7 := mkHid ((HF2.out.alloc _).grown hgrow7 (fun k hk => by have := HGE.out k hk; omega))
        have HS7 : Hid (SC w.heap.size src (k + r.size) L w7) := by
          show _ = _
          rw [hgrow7.block _ (by simp; omega) (fun e => by have := HGE.out _ e.symm; omega), Below.heap_alloc _ _ _ hsb2]
          exact HS2.out
        have HO7 : Hid (w7.ownsRow (w.heap.size + 1) 206 4 (.slice (some ⟨g7, 0, none⟩) (ts.length + 1) cap7) (ts ++ [(⟨r.sort, r.text, L⟩ : Hs.Tok)]).length (ptoks (ts ++ [⟨r.sort, r.text, L⟩]))) := by
          rw [ptoks_snoc, HPK.out, List.length_append]; exact hown7
        have HK7 := mkHid (HSK.out w7 HS7.out)
        clear hown2 hown7 hgrow7 hat7 HS2 HF2 HSK
        go_wp2_with fail
        refine HK7.out.mono ?_
        rintro e w8 ⟨rfl, hs8, hf8⟩
        have HI8 : Hid (ScInv src w TS j (.slice (some ⟨g7, 0, none⟩) (ts.length + 1) cap7) w8) := by
          refine ⟨m, f, ts ++ [⟨r.sort, r.text, L⟩], hml, by omega, by omega, by simp; omega, hs8, HF7.out.trans hf8, ?_, HF.out⟩
          exact ownsRow_keep HO7.out fun i hi => hf8.block i (own_block_lt HO7.out i hi) (by have := own_block_ge HO7.out i hi; omega)
        clear hs8 hf8 HK7
        go_wp2_with fail
        go_roundg j
        case measure => omega
        case rel => exact HI8.out
    · obtain ⟨f, rfl⟩ : ∃ f', f = f' + 1 := ⟨f - 1, by omega⟩
      have HF : Hid (TS = .ok (ts ++ [{ sort := 101, text := [], line := Hs.lineOf (src.data.toList.take k) }])) := by
        show _ = _
        rw [HTS.out, Hs.toksL_end _ _ _ (by simp; omega)]; rfl
      have hlt' : decide ((k : Int) < (src.size : Int)) = false := decide_eq_false (by omega)
      clear HTS
      generalize Hs.lineOf (src.data.toList.take k) = L at *
      go_wp2_with (at_builtin; refine wpList_append_lies _ (by rfl) _ _ 142 (by rfl) (w.heap.size + 1) 206 i0 _ 4 40 Tryz.underlying142 hi hz0 hz1 hz2 rfl (by decide) _ _ _ (by rfl) (hown.alloc _) ⟨wr.heap.size, 0, none⟩ 1 1 [.int .i64 4, .string ⟨#[]⟩, .int .i64 0, .int .i64 L] (by rfl) (by rfl) (news_ptok _ _ _ _ _) (one_ptok _ _ _ _) (by decide) (by unfold maxLen; omega) (by omega) (by simp; omega) (wr.heap.size + 1) (by simp) ?_)
      intro g7 cap7 w7 hown7 hgrow7 hat7 hg7
      have HF7 := mkHid ((HFR.out.alloc _).grown hgrow7 (fun k hk => by have := hge k hk; omega))
      have HO7 : Hid (w7.ownsRow (w.heap.size + 1) 206 4 (.slice (some ⟨g7, 0, none⟩) (ts.length + 1) cap7) (ts ++ [(⟨101, [], L⟩ : Hs.Tok)]).length (ptoks (ts ++ [⟨101, [], L⟩]))) := by
        rw [ptoks_snoc, List.length_append]; exact hown7
      clear hown hown7 hgrow7 hat7 hge
      go_wp2_with fail
      go_ret
      rw [HF.out]
      exact ⟨HF7.out.to_below, _, rfl, HO7.out⟩

end Go.Proofs.YtblbkfdhjfppkaaGreatDoor

/- Plain facts: a character by its bytes, and as the library decodes it. -/
namespace Go.Proofs.YtblbkfdhjfppkaaGreatDoor

/-- How many bytes a character has, by its bytes and how many there are. -/
def charN (n b0 b1 b2 b3 : Nat) : Nat :=
  if b0 < 128 then 1
  else if 194 ≤ b0 ∧ b0 ≤ 223 then (if 1 < n ∧ 128 ≤ b1 ∧ b1 ≤ 191 then 2 else 0)
  else if 224 ≤ b0 ∧ b0 ≤ 239 then
    (if (1 < n ∧ (if b0 = 224 then 160 else 128) ≤ b1 ∧ b1 ≤ (if b0 = 237 then 159 else 191)) ∧ (2 < n ∧ 128 ≤ b2 ∧ b2 ≤ 191) then 3 else 0)
  else if 240 ≤ b0 ∧ b0 ≤ 244 then
    (if ((1 < n ∧ (if b0 = 240 then 144 else 128) ≤ b1 ∧ b1 ≤ (if b0 = 244 then 143 else 191)) ∧ (2 < n ∧ 128 ≤ b2 ∧ b2 ≤ 191)) ∧ (3 < n ∧ 128 ≤ b3 ∧ b3 ≤ 191) then 4 else 0)
  else 0

set_option maxRecDepth 100000 in
set_option maxHeartbeats 4000000 in
theorem char_dec (n b0 b1 b2 b3 : Nat) (h0 : b0 < 256) (h1 : b1 < 256) (h2 : b2 < 256) (h3 : b3 < 256) :
    (charN n b0 b1 b2 b3 = 0 → Lib.decodeN n b0 b1 b2 b3 = (65533, 1)) ∧ (charN n b0 b1 b2 b3 ≠ 0 → (Lib.decodeN n b0 b1 b2 b3).2 = charN n b0 b1 b2 b3 ∧ ¬ ((Lib.decodeN n b0 b1 b2 b3).1 = 65533 ∧ charN n b0 b1 b2 b3 = 1) ∧ ((Lib.decodeN n b0 b1 b2 b3).1 = 10 ↔ b0 = 10)) := by
  have d1 : b1 / 64 = 2 ↔ 128 ≤ b1 ∧ b1 ≤ 191 := by omega
  have d2 : b2 / 64 = 2 ↔ 128 ≤ b2 ∧ b2 ≤ 191 := by omega
  have d3 : b3 / 64 = 2 ↔ 128 ≤ b3 ∧ b3 ≤ 191 := by omega
  have a1 : b0 / 32 = 6 ↔ 192 ≤ b0 ∧ b0 ≤ 223 := by omega
  have a2 : b0 / 16 = 14 ↔ 224 ≤ b0 ∧ b0 ≤ 239 := by omega
  have a3 : b0 / 8 = 30 ↔ 240 ≤ b0 ∧ b0 ≤ 247 := by omega
  unfold charN Lib.decodeN
  simp only [d1, d2, d3, a1, a2, a3]
  by_cases c1 : b0 < 128
  · simp only [if_pos c1]
    exact ⟨fun h => absurd h (by omega), fun _ => ⟨trivial, by omega, trivial⟩⟩
  · simp only [if_neg c1]
    repeat' split
    all_goals first
      | (refine ⟨fun _ => rfl, fun h => absurd rfl h⟩)
      | (refine ⟨fun h => absurd h (by omega), fun _ => ⟨rfl, ?_, ?_⟩⟩ <;> (simp only; omega))
      | (exfalso; omega)

theorem get_bang (s : ByteArray) (i : Nat) (h : i < s.size) : s.get! i = s[i] := by
  show s.data[i]! = s.data[i]
  rw [getElem!_pos s.data i (by simpa using h)]
theorem inR_get (s : ByteArray) (i lo hi : Nat) : Hs.inR s.data.toList i lo hi = decide (i < s.size ∧ lo ≤ (s.get! i).toNat ∧ (s.get! i).toNat ≤ hi) := by
  unfold Hs.inR
  by_cases h : i < s.size
  · have e : s.data.toList[i]? = some s[i] := by simp [h]; rfl
    rw [e, get_bang s i h]
    simp [h]
  · have e : s.data.toList[i]? = none := List.getElem?_eq_none (by simpa using (by omega : s.size ≤ i))
    rw [e]
    simp [h]
theorem charL_N (s : ByteArray) (h : 0 < s.size) : Hs.charL s.data.toList = charN s.size (s.get! 0).toNat (s.get! 1).toNat (s.get! 2).toNat (s.get! 3).toNat := by
  unfold Hs.charL charN
  have e : s.data.toList[0]? = some s[0] := by simp [h]; rfl
  rw [e, ← get_bang s 0 h]
  simp only [inR_get, Bool.and_eq_true, decide_eq_true_eq]

end Go.Proofs.YtblbkfdhjfppkaaGreatDoor

/- Contracts of the program: length and characters of a source. -/
namespace Go.Proofs.YtblbkfdhjfppkaaGreatDoor
open Go.RowKit

set_option maxRecDepth 100000 in
set_option maxHeartbeats 400000 in
theorem length_any (src : ByteArray) (w : World) (_hs : src.size ≤ maxLen) :
    Calls Tryz.prog 130 #[.string src] w fun e w' => w' = w ∧ ((src.size ≤ 2000 ∧ e = .returned (.tuple #[])) ∨ (2000 < src.size ∧ e = faultE 1 0)) := by
  by_cases h : src.size ≤ 2000
  · have h' : decide ((2000 : Int) < (src.size : Int)) = false := decide_eq_false (by omega)
    go_enter Tryz.func130, Tryz.ntmps130
    go_wp2_with fail
    go_end0
    exact ⟨rfl, Or.inl ⟨h, rfl⟩⟩
  · have h' : decide ((2000 : Int) < (src.size : Int)) = true := decide_eq_true (by omega)
    go_enter Tryz.func130, Tryz.ntmps130
    go_wp2_with (go_at_call 136; refine (pfail_any 1 0 _).mono ?_; rintro e w3 ⟨rfl, hw⟩; obtain rfl := hw.symm)
    exact ⟨rfl, rfl, Or.inr ⟨by omega, rfl⟩⟩

theorem mem_take_get {l : List UInt8} {c : Nat} {x : UInt8} (h : x ∈ l.take c) : ∃ i, i < c ∧ l[i]? = some x := by
  obtain ⟨i, hi, e⟩ := List.mem_iff_getElem.1 h
  have hi' := hi
  rw [List.length_take] at hi'
  refine ⟨i, by omega, ?_⟩
  rw [List.getElem_take] at e
  rw [List.getElem?_eq_getElem (by omega), e]
theorem inR_at {l : List UInt8} {i lo hi : Nat} (h : Hs.inR l i lo hi = true) {x : UInt8} (hx : l[i]? = some x) : lo ≤ x.toNat := by
  unfold Hs.inR at h
  rw [hx] at h
  simp at h
  exact h.1
/-- A character of several bytes has no byte 10. -/
theorem char_noline {l : List UInt8} (h : 2 ≤ Hs.charL l) : (l.take (Hs.charL l)).count 10 = 0 := by
  refine count_none fun x hx => ?_
  obtain ⟨i, hi, e⟩ := mem_take_get hx
  suffices 128 ≤ x.toNat by intro e; rw [e] at this; exact absurd this (by decide)
  revert h hi
  unfold Hs.charL
  cases h0 : l[0]? with
  | none => simp
  | some b =>
    simp only
    have hb : i = 0 → x = b := fun e0 => by subst e0; rw [h0] at e; exact (Option.some.inj e).symm
    split
    · intro h; omega
    · rename_i hb1
      split
      · rename_i hb2
        split
        · rename_i h1
          intro _ hi
          match i, hi with
          | 0, _ => rw [hb rfl]; omega
          | 1, _ => exact inR_at h1 e
        · intro h; omega
      · split
        · rename_i hb3
          by_cases h1 : (Hs.inR l 1 (if b.toNat = 224 then 160 else 128) (if b.toNat = 237 then 159 else 191) && Hs.inR l 2 128 191) = true
          · rw [if_pos h1]
            rw [Bool.and_eq_true] at h1
            intro _ hi
            match i, hi with
            | 0, _ => rw [hb rfl]; omega
            | 1, _ => have := inR_at h1.1 e; split at this <;> omega
            | 2, _ => exact inR_at h1.2 e
          · rw [if_neg h1]; intro h; omega
        · split
          · rename_i hb4
            by_cases h1 : (Hs.inR l 1 (if b.toNat = 240 then 144 else 128) (if b.toNat = 244 then 143 else 191) && Hs.inR l 2 128 191 && Hs.inR l 3 128 191) = true
            · rw [if_pos h1]
              rw [Bool.and_eq_true, Bool.and_eq_true] at h1
              intro _ hi
              match i, hi with
              | 0, _ => rw [hb rfl]; omega
              | 1, _ => have := inR_at h1.1.1 e; split at this <;> omega
              | 2, _ => exact inR_at h1.1.2 e
              | 3, _ => exact inR_at h1.2 e
            · rw [if_neg h1]; intro h; omega
          · intro h; omega

theorem decN_le (n b0 b1 b2 b3 : Nat) (h0 : b0 < 256) : (Lib.decodeN n b0 b1 b2 b3).1 ≤ 1114111 := by
  unfold Lib.decodeN
  repeat' split
  all_goals (simp only; omega)

/-- What the library's decoder gives at a place. -/
theorem dec_at (src : ByteArray) (k : Nat) (hk : k < src.size) : ∃ r z, Lib.decodeGo (src.extract k src.size) = (r, z) ∧ r ≤ 1114111 ∧
    ((Hs.charL (src.data.toList.drop k) = 0 ∧ r = 65533 ∧ z = 1) ∨ (Hs.charL (src.data.toList.drop k) ≠ 0 ∧ z = Hs.charL (src.data.toList.drop k) ∧ ¬ (r = 65533 ∧ z = 1) ∧ (r = 10 ↔ src[k].toNat = 10))) := by
  have hsz : (src.extract k src.size).size = src.size - k := by simp
  have hpos : 0 < (src.extract k src.size).size := by omega
  have e0 : ((src.extract k src.size).get! 0).toNat = src[k].toNat := by rw [get_bang _ 0 hpos]; simp [ByteArray.getElem_extract]
  have hC := charL_N (src.extract k src.size) hpos
  rw [ext_data] at hC
  have hD : Lib.decodeGo (src.extract k src.size) = Lib.decodeN (src.extract k src.size).size ((src.extract k src.size).get! 0).toNat ((src.extract k src.size).get! 1).toNat ((src.extract k src.size).get! 2).toNat ((src.extract k src.size).get! 3).toNat := by
    unfold Lib.decodeGo
    rw [if_neg (by omega), Lib.decode_at]; rfl
  obtain ⟨h1, h2⟩ := char_dec (src.extract k src.size).size ((src.extract k src.size).get! 0).toNat ((src.extract k src.size).get! 1).toNat ((src.extract k src.size).get! 2).toNat ((src.extract k src.size).get! 3).toNat (UInt8.toNat_lt _) (UInt8.toNat_lt _) (UInt8.toNat_lt _) (UInt8.toNat_lt _)
  have hR := decN_le (src.extract k src.size).size ((src.extract k src.size).get! 0).toNat ((src.extract k src.size).get! 1).toNat ((src.extract k src.size).get! 2).toNat ((src.extract k src.size).get! 3).toNat (UInt8.toNat_lt _)
  rw [← hC] at h1 h2
  rw [← hD] at h1 h2 hR
  rw [e0] at h2
  clear hD hC
  generalize Lib.decodeGo (src.extract k src.size) = D at *
  obtain ⟨r, z⟩ := D
  refine ⟨r, z, rfl, hR, ?_⟩
  by_cases hz : Hs.charL (src.data.toList.drop k) = 0
  · have := h1 hz
    cases this
    exact Or.inl ⟨hz, rfl, rfl⟩
  · obtain ⟨g1, g2, g3⟩ := h2 hz
    have g1' : z = Hs.charL (src.data.toList.drop k) := g1
    exact Or.inr ⟨hz, g1', by rw [g1']; exact g2, g3⟩

theorem tabs_below {w w' : World} (h : Lib.Utf8Tabs 4 5 w) (hb : Below w.heap.size w w') (hz : 11 ≤ w.heap.size) : Lib.Utf8Tabs 4 5 w' :=
  ⟨fun c hc => (hb.cell (p := ⟨4, c, none⟩) (by show 4 < _; omega)).trans (h.1 c hc), fun i hi => ⟨(hb.cell (p := ⟨5, 2 * i, none⟩) (by show 5 < _; omega)).trans (h.2 i hi).1, (hb.cell (p := ⟨5, 2 * i + 1, none⟩) (by show 5 < _; omega)).trans (h.2 i hi).2⟩⟩

/-- What the look at a source's characters gives. -/
def encPost (x : Option Nat) (l : List UInt8) (w : World) (e : Ending) (w' : World) : Prop :=
  Below w.heap.size w w' ∧
    match x with
    | none => e = .returned (.tuple #[])
    | some k => e = faultE 2 (Hs.lineOf (l.take k))

set_option maxRecDepth 100000 in
set_option maxHeartbeats 2000000 in
theorem enc_any (src : ByteArray) (w : World) (hT : Lib.Utf8Tabs 4 5 w) (hz : 11 ≤ w.heap.size) (hs : src.size ≤ 2000) :
    Calls Tryz.prog 131 #[.string src] w (encPost (Hs.spoilAt src.size src.data.toList 0) src.data.toList w) := by
  have HT := mkHid hT
  obtain ⟨X, hX⟩ : ∃ X, X = Hs.spoilAt src.size src.data.toList 0 := ⟨_, rfl⟩
  rw [← hX]
  have HX0 : Hid (X = Hs.spoilAt src.size (src.data.toList.drop 0) 0) := hX
  clear hT hX
  go_enter Tryz.func131, Tryz.ntmps131
  go_wp2_with fail
  go_loopg [2, 3, 4, 5] src.size (fun gk lv iv _ _ wr => ∃ k f : Nat, k ≤ src.size ∧ src.size ≤ k + f ∧ src.size ≤ k + gk ∧ iv = .int .i64 k ∧ lv = .int .i64 (Hs.lineOf (src.data.toList.take k)) ∧ Below w.heap.size w wr ∧ Hid (X = Hs.spoilAt f (src.data.toList.drop k) k))
  case atStart => exact ⟨0, src.size, Nat.zero_le _, by omega, by omega, rfl, rfl, Below.refl _ _, HX0⟩
  case round =>
    obtain ⟨k, f, hk, hf, hgk, rfl, rfl, hb, HX⟩ := hrel
    have hL : Hs.lineOf (src.data.toList.take k) ≤ k + 1 := by
      have := Hs.lineOf_le (src.data.toList.take k); have := List.length_take_le k src.data.toList; omega
    have HB := mkHid hb
    by_cases hlt : k < src.size
    · obtain ⟨f, rfl⟩ : ∃ f', f = f' + 1 := ⟨f - 1, by omega⟩
      obtain ⟨j, rfl⟩ : ∃ j, gk = j + 1 := ⟨gk - 1, by omega⟩
      have hlen : 0 < (src.data.toList.drop k).length := by simp; omega
      obtain ⟨r, z, hD, hr, hc⟩ := dec_at src k hlt
      have HD := mkHid (Tryz.utf8_DecodeRuneInString (src.extract k src.size) wr (tabs_below HT.out hb hz))
      rw [hD] at HD
      clear hD hb
      rcases hc with ⟨hc0, rfl, rfl⟩ | ⟨hc0, hcz, hrz, hr10⟩
      · have HF : Hid (X = some k) := by show _ = _; rw [HX.out, spoilAt_hit _ _ _ hlen hc0]
        generalize hLL : Hs.lineOf (src.data.toList.take k) = L at *
        have HLL := mkHid hLL
        clear HX hc0 hlen hLL
        go_wp2_with fail
        refine HD.out.mono ?_
        rintro e w1 ⟨rfl, hb1⟩
        have HB1 := mkHid (HB.out.trans (hb1.mono HB.out.size))
        clear hb1 HD
        go_wp2_with (go_at_call 136; refine (pfail_any 2 L _).mono ?_; rintro e w3 ⟨rfl, hw⟩; obtain rfl := hw.symm)
        rw [HF.out]
        exact ⟨rfl, HB1.out, congrArg (faultE 2) HLL.out.symm⟩
      · have HF : Hid (X = Hs.spoilAt f (src.data.toList.drop (k + z)) (k + z)) := by
          show _ = _
          rw [HX.out, spoilAt_step _ _ _ hlen hc0, List.drop_drop, ← hcz]
        have hzl : z ≤ src.size - k := by rw [hcz]; have := charL_len (src.data.toList.drop k); simpa using this
        have hz1 : 1 ≤ z := by omega
        have hln : Hs.lineOf (src.data.toList.take (k + z)) = Hs.lineOf (src.data.toList.take k) + if r = 10 then 1 else 0 := by
          by_cases h2 : 2 ≤ z
          · have h3 := char_noline (l := src.data.toList.drop k) (by omega)
            rw [← hcz] at h3
            rw [List.take_add, Hs.lineOf_append, h3]
            rw [if_neg]
            intro e
            have h4 := hr10.1 e
            have h5 : src[k] ∈ (src.data.toList.drop k).take z := by
              rw [drop_cons src k hlt]
              obtain ⟨y, rfl⟩ : ∃ y, z = y + 1 := ⟨z - 1, by omega⟩
              rw [List.take_succ_cons]
              exact List.mem_cons_self ..
            exact List.count_eq_zero.1 h3 (by have : src[k] = 10 := UInt8.toNat_inj.1 h4; rw [this] at h5; exact h5)
          · obtain rfl : z = 1 := by omega
            rw [line_next src k hlt]
            congr 1
            by_cases h6 : r = 10
            · rw [if_pos h6, if_pos (UInt8.toNat_inj.1 (hr10.1 h6))]
            · rw [if_neg h6, if_neg (fun e => h6 (hr10.2 (by rw [e]; rfl)))]
        have HLN := mkHid hln
        generalize Hs.lineOf (src.data.toList.take k) = L at *
        have hrz' : ((r : Int) == 65533) = false ∨ ((r : Int) == 65533) = true ∧ ((z : Int) == 1) = false := by
          by_cases h7 : r = 65533
          · refine Or.inr ⟨by simp; omega, ?_⟩
            simp
            intro e
            exact hrz ⟨h7, by omega⟩
          · exact Or.inl (by simp; omega)
        have hne : (src.data.toList.drop k).length = src.size - k := by simp
        clear HX hc0 hlen hcz hr10 hln hrz hne
        by_cases h10 : r = 10
        · have e1 : ((r : Int) == 10) = true := by simp; omega
          have e2 : ((r : Int) == 65533) = false := by simp; omega
          have HL2 : Hid (Hs.lineOf (src.data.toList.take (k + z)) = L + 1) := by show _ = _; rw [HLN.out, if_pos h10]
          clear hrz' h10 HLN
          go_wp2_with fail
          refine HD.out.mono ?_
          rintro e w1 ⟨rfl, hb1⟩
          have HB1 := mkHid (HB.out.trans (hb1.mono HB.out.size))
          clear hb1 HD
          go_wp2_with fail
          go_roundg j
          case measure => omega
          case rel => exact ⟨k + z, f, by omega, by omega, by omega, by go_num, by rw [HL2.out]; go_num, HB1.out, HF⟩
        · have e1 : ((r : Int) == 10) = false := by simp; omega
          have HL2 : Hid (Hs.lineOf (src.data.toList.take (k + z)) = L) := by show _ = _; rw [HLN.out, if_neg h10]; rfl
          clear h10 HLN
          rcases hrz' with e2 | ⟨e2, e3⟩
          all_goals
            go_wp2_with fail
            refine HD.out.mono ?_
            rintro e w1 ⟨rfl, hb1⟩
            have HB1 := mkHid (HB.out.trans (hb1.mono HB.out.size))
            clear hb1 HD
            go_wp2_with fail
            go_roundg j
            case measure => omega
            case rel => exact ⟨k + z, f, by omega, by omega, by omega, by go_num, by rw [HL2.out], HB1.out, HF⟩
    · have HF : Hid (X = none) := by show _ = _; rw [HX.out, spoilAt_nil _ _ _ (by simp; omega)]
      have hlt' : decide ((k : Int) < (src.size : Int)) = false := decide_eq_false (by omega)
      clear HX hb
      generalize Hs.lineOf (src.data.toList.take k) = L at *
      go_wp2_with fail
      go_end0
      rw [HF.out]
      exact ⟨HB.out, rfl⟩

end Go.Proofs.YtblbkfdhjfppkaaGreatDoor

/- Contracts of the program: a source is read. -/
namespace Go.Proofs.YtblbkfdhjfppkaaGreatDoor
open Go.RowKit

/-- The tables that the program names. -/
structure AllTabs (w : World) : Prop where
  n : NTabs w
  p : PTabs w
  u : Lib.Utf8Tabs 4 5 w
theorem AllTabs.below {w w' : World} (h : AllTabs w) (hb : Below w.heap.size w w') : AllTabs w' :=
  ⟨h.n.fr (sb := w.heap.size) ⟨hb.os, hb.tape, hb.output, hb.size, fun k hk _ => hb.block k hk⟩ h.n.big, h.p.fr (sb := w.heap.size) ⟨hb.os, hb.tape, hb.output, hb.size, fun k hk _ => hb.block k hk⟩ h.n.big, tabs_below h.u hb h.n.big⟩

theorem FineA.kid {m : Nat} {f k : Hs.Ast} (h : Hs.FineA m f) (hk : k ∈ f.kids) : Hs.FineA m k := fun d => by
  have h1 := h (d + 1)
  refine ⟨?_, h1.2.2 k hk⟩
  have h2 := h1.1
  rw [Hs.wt] at h2
  have := sum_mem_le (f := Hs.wt d) hk
  omega
theorem FineA.kids {m : Nat} {f : Hs.Ast} (h : Hs.FineA m f) (d : Nat) : f.kids.length ≤ m ∧ (f.kids.map (Hs.wt d)).sum ≤ m := by
  have h1 := (h (d + 1)).1
  have h2 := (h 2).1
  rw [Hs.wt] at h1 h2
  have h3 : f.kids.length ≤ (f.kids.map (Hs.wt 1)).sum := len_le_sum 0 f.kids
  exact ⟨by omega, by omega⟩

/-- The tokens of a text, or what is wrong with it up to there. -/
def tokR (l : List UInt8) : Except (Nat × Nat) (List Hs.Tok) :=
  if 2000 < l.length then .error (1, 0)
  else match Hs.spoilAt l.length l 0 with
    | some k => .error (2, Hs.lineOf (l.take k))
    | none =>
      match Hs.tokens l with
      | .error n => .error (3, n)
      | .ok ts => .ok ts
theorem parsed_tok (l : List UInt8) : Hs.parsedL l = match tokR l with
    | .error f => .error f
    | .ok ts => match Hs.progP ts with
      | .error n => .error (4, n)
      | .ok (ks, _) => .ok ks := by
  unfold Hs.parsedL tokR
  by_cases h : 2000 < l.length
  · rw [if_pos h, if_pos h]
  · rw [if_neg h, if_neg h]
    cases Hs.spoilAt l.length l 0 with
    | some k => rfl
    | none =>
      cases Hs.tokens l with
      | error n => rfl
      | ok ts => rfl
theorem tokR_ok {l : List UInt8} {ts : List Hs.Tok} (h : tokR l = .ok ts) : Hs.tokens l = .ok ts ∧ l.length ≤ 2000 := by
  unfold tokR at h
  split at h
  · cases h
  · split at h
    · cases h
    · split at h
      · cases h
      · cases h; exact ⟨by assumption, by omega⟩
theorem tokR_kind {l : List UInt8} {f : Nat × Nat} (h : tokR l = .error f) : f.1 ≠ 0 := by
  unfold tokR at h
  split at h
  · cases h; simp
  · split at h
    · cases h; simp
    · split at h
      · cases h; simp
      · cases h

/-- What making a parser of a text gives. -/
def parserPost (l : List UInt8) (w : World) (e : Ending) (w' : World) : Prop :=
  Below w.heap.size w w' ∧
    match tokR l with
    | .error f => e = faultE f.1 f.2
    | .ok ts => ∃ v, e = .returned (.agg #[v, .int .i64 0]) ∧ w'.ownsRow w.heap.size 206 4 v ts.length (ptoks ts)

/-- What reading a source gives: its answer is the document's. -/
def preadPost (l : List UInt8) (w : World) (e : Ending) (w' : World) : Prop :=
  Below w.heap.size w w' ∧ ((Hs.readL l = (0, 0) ∧ ∃ v ks, e = .returned v ∧ Hs.parsedL l = .ok ks ∧ FSl (Btw w.heap.size w'.heap.size) w' v ks) ∨ ((Hs.readL l).1 ≠ 0 ∧ e = faultE (Hs.readL l).1 (Hs.readL l).2))

theorem names_main {ks : List Hs.Ast} (d : Nat) (h : mainOK ks = false) (hk : ∀ f ∈ ks, 1 ≤ f.kids.length) : Hs.namesL d ks = (5, 0) := by
  unfold Hs.namesL
  unfold mainOK parL at h
  cases hf : Hs.funcL ks [109, 97, 105, 110] with
  | none => rfl
  | some m =>
    rw [hf] at h
    have h1 := hk m (List.mem_of_find?_eq_some hf)
    have h2 : ¬ m.kids.length - 1 = 0 := by
      intro e
      rw [show (([109, 97, 105, 110] : List UInt8) == [108, 101, 110]) = false by decide, show (([109, 97, 105, 110] : List UInt8) == [114, 101, 97, 100]) = false by decide] at h
      simp [e] at h
    show (if 1 < m.kids.length then _ else _) = _
    rw [if_pos (by omega)]
theorem names_go {ks : List Hs.Ast} (d : Nat) (h : mainOK ks = true) : Hs.namesL d ks = ((Hs.allL ks d [] ks ⟨[], 0, 0⟩).kind, (Hs.allL ks d [] ks ⟨[], 0, 0⟩).line) := by
  unfold Hs.namesL
  unfold mainOK parL at h
  rw [show (([109, 97, 105, 110] : List UInt8) == [108, 101, 110]) = false by decide, show (([109, 97, 105, 110] : List UInt8) == [114, 101, 97, 100]) = false by decide] at h
  cases hf : Hs.funcL ks [109, 97, 105, 110] with
  | none => rw [hf] at h; simp at h
  | some m =>
    rw [hf] at h
    simp at h
    show (if 1 < m.kids.length then _ else _) = _
    rw [if_neg (by omega)]

theorem FSl.grow {F G : Nat → Prop} {w w' : World} {v : Value} {fs : List Hs.Ast} (h : FSl F w v fs) (hk : ∀ b, F b → w'.heap[b]? = w.heap[b]?) (hF : ∀ b, F b → G b) : FSl G w' v fs := by
  rcases h with h | ⟨g, cap, cur, us, h1, h2, h3, h4, h5, h6⟩
  · exact Or.inl h
  · exact Or.inr ⟨g, cap, cur, us, h1, hF g h2, by rw [hk g h2]; exact h3, h4, h5, h6.mono fun _ _ h => h.keep hk hF⟩

theorem row_at {w : World} {b : Nat} {v : Value} {ts : List Hs.Tok} (h : w.ownsRow b 206 4 v ts.length (ptoks ts)) (hp : 0 < ts.length) : ∃ g cap cur, v = .slice (some ⟨g, 0, none⟩) ts.length cap ∧ b ≤ g ∧ ts.length ≤ cap ∧ w.heap[g]? = some (.cells cur 206 (0, 0)) ∧ cur.toList.take (ts.length * 4) = ptoks ts := by
  rcases h.2 with ⟨r1, r2⟩ | ⟨g, cap, cur, r1, r2, r3, r4, r5, r6, r7⟩
  · omega
  · exact ⟨g, cap, cur, r1, r2, r4, r3, r7⟩

theorem infoParser : (Tryz.prog.info? 144).map (fun i => (i.zero, i.size)) = some (some (.agg #[.slice none 0 0, .int .i64 0]), 2) := by kernel_rfl

set_option maxRecDepth 100000 in
set_option maxHeartbeats 4000000 in
theorem parserOf_any (src : ByteArray) (w : World) (hT : AllTabs w) (hs : src.size ≤ maxLen) :
    Calls Tryz.prog 76 #[.string src] w (parserPost src.data.toList w) := by
  have hln : src.data.toList.length = src.size := by simp
  obtain ⟨l, hl⟩ : ∃ l, l = src.data.toList := ⟨_, rfl⟩
  rw [← hl] at hln ⊢
  obtain ⟨w0, hw0⟩ : ∃ w0, w0 = w.alloc (.cells #[.slice none 0 0, .int .i64 0] 144) := ⟨_, rfl⟩
  have hb0 : Below w.heap.size w w0 := by rw [hw0]; exact (Below.refl _ _).alloc (Nat.le_refl _) _
  have hblk0 : w0.heap[w.heap.size]? = some (.cells #[.slice none 0 0, .int .i64 0] 144 (0, 0)) := by rw [hw0]; exact heap_first _ _ rfl _
  have hsz0 : w0.heap.size = w.heap.size + 1 := by rw [hw0]; simp
  have HLE := mkHid (length_any src w0 hs)
  have HL := mkHid hl
  have HT := mkHid (hT.below hb0)
  have HB0 := mkHid hb0
  have HK0 := mkHid hblk0
  have HW0 := mkHid hw0
  clear hl hT hb0 hblk0 hw0
  go_enter Tryz.func76, Tryz.ntmps76
  go_wp2_with fail
  rw [← HW0.out]
  refine HLE.out.mono ?_
  rintro e w1 ⟨hw, ⟨hsz, rfl⟩ | ⟨hsz, rfl⟩⟩
  rotate_left
  · obtain rfl := hw.symm
    have HF : Hid (tokR l = .error (1, 0)) := by
      show _ = _
      unfold tokR
      rw [if_pos (by omega)]
    go_wp2_with fail
    exact ⟨rfl, HB0.out, by rw [HF.out]; rfl⟩
  obtain rfl := hw.symm
  have HE := mkHid (enc_any src w0 HT.out.u HT.out.n.big hsz)
  rw [← HL.out, ← hln] at HE
  have hlen : ¬ 2000 < l.length := by omega
  clear hw HLE
  go_wp2_with fail
  refine HE.out.mono ?_
  rintro e w1 ⟨hb1, he1⟩
  cases hsp : Hs.spoilAt l.length l 0 with
  | some k =>
    rw [hsp] at he1
    obtain rfl : e = faultE 2 (Hs.lineOf (l.take k)) := he1
    have HF : Hid (tokR l = .error (2, Hs.lineOf (l.take k))) := by show _ = _; unfold tokR; rw [if_neg hlen, hsp]
    have HB1 := mkHid (HB0.out.trans (hb1.mono HB0.out.size))
    clear hb1 HE hsp
    go_wp2_with fail
    exact ⟨rfl, HB1.out, by rw [HF.out]; rfl⟩
  | none =>
    rw [hsp] at he1
    obtain rfl : e = .returned (.tuple #[]) := he1
    have HSC := mkHid (scan_any src w1 (HT.out.below hb1).n (HT.out.below hb1).p hsz)
    rw [← HL.out] at HSC
    have HB1 := mkHid hb1
    have hR1 : tokR l = match Hs.tokens l with
      | .error n => .error (3, n)
      | .ok ts => .ok ts := by unfold tokR; rw [if_neg hlen, hsp]
    have HR1 := mkHid hR1
    clear hb1 HE hsp hR1
    go_wp2_with fail
    refine HSC.out.mono ?_
    rintro e w2 ⟨hb2, he2⟩
    cases htk : Hs.tokens l with
    | error n =>
      rw [htk] at he2
      obtain rfl : e = faultE 3 n := he2
      have HF : Hid (tokR l = .error (3, n)) := by show _ = _; rw [HR1.out, htk]
      have HB2 := mkHid (HB0.out.trans ((HB1.out.trans (hb2.mono HB1.out.size)).mono HB0.out.size))
      clear hb2 HSC htk HR1
      go_wp2_with fail
      exact ⟨rfl, HB2.out, by rw [HF.out]; rfl⟩
    | ok ts =>
      rw [htk] at he2
      obtain ⟨v, rfl, hown⟩ := he2
      obtain ⟨x, c, rfl⟩ : ∃ x c, v = .slice x ts.length c := by
        rcases hown.2 with ⟨r1, r2⟩ | ⟨g, cap, cur, r1, _⟩
        · exact ⟨none, 0, by rw [r1, r2]⟩
        · exact ⟨_, _, r1⟩
      have HF : Hid (tokR l = .ok ts) := by show _ = _; rw [HR1.out, htk]
      have hs12 := HB1.out.size
      have hblk2 : w2.heap[w.heap.size]? = some (.cells #[.slice none 0 0, .int .i64 0] 144 (0, 0)) := by
        rw [hb2.block _ (by omega), HB1.out.block _ (by omega)]; exact HK0.out
      have hlt2 := lt_of_block hblk2
      have m0 := cell_of_block hblk2 (i := 0) rfl
      have m1 := cell_of_block hblk2 (i := 1) rfl
      have fz := frozen_of_block hblk2 (i := 0)
      have fz1 := frozen_of_block hblk2 (i := 1)
      have HB2 := mkHid (HB0.out.trans ((HB1.out.trans (hb2.mono HB1.out.size)).mono HB0.out.size))
      have HO2 := mkHid hown
      clear hown hb2 HSC htk HR1 hblk2
      go_wp2_with fail
      refine bodyPost_ret (v := .agg #[.slice x ts.length c, .int .i64 0]) (by simp [results, Tryz.results76, go_sem, m0, m1]) rfl ?_
      refine ⟨(HB2.out.setCell (by simp) _).setCell (by simp) _, ?_⟩
      rw [HF.out]
      refine ⟨_, rfl, ?_⟩
      have ho := HO2.out
      rcases ho.2 with hn | ⟨g, cap, cur, r1, r2, r3, r4⟩
      · exact ⟨ho.1, Or.inl hn⟩
      · refine ⟨ho.1, Or.inr ⟨g, cap, cur, r1, by omega, ?_, r4⟩⟩
        rw [Below.heap_setCell _ _ _ _ (by show g ≠ w.heap.size; omega), Below.heap_setCell _ _ _ _ (by show g ≠ w.heap.size; omega)]
        exact r3

set_option maxRecDepth 100000 in
set_option maxHeartbeats 4000000 in
theorem pread_any (src : ByteArray) (w : World) (hT : AllTabs w) (hs : src.size ≤ maxLen) :
    Calls Tryz.prog 44 #[.string src] w (preadPost src.data.toList w) := by
  have HPO := mkHid (parserOf_any src w hT hs)
  obtain ⟨l, hl⟩ : ∃ l, l = src.data.toList := ⟨_, rfl⟩
  rw [← hl] at HPO ⊢
  clear hl hT
  go_enter Tryz.func44, Tryz.ntmps44
  go_wp2_with fail
  refine HPO.out.mono ?_
  rintro e w2 ⟨hb2, he2⟩
  cases htr : tokR l with
    | error f =>
      rw [htr] at he2
      obtain rfl : e = faultE f.1 f.2 := he2
      have HF : Hid (Hs.readL l = f) := by show _ = _; unfold Hs.readL; rw [parsed_tok, htr]
      have HK := mkHid (tokR_kind htr)
      have HB2 := mkHid hb2
      clear hb2 HPO htr
      go_wp2_with fail
      exact ⟨rfl, HB2.out, by rw [HF.out]; exact Or.inr ⟨HK.out, rfl⟩⟩
    | ok ts =>
      rw [htr] at he2
      obtain ⟨v, rfl, hown⟩ := he2
      have htk := (tokR_ok htr).1
      have hlen := (tokR_ok htr).2
      have hall := Hs.tokens_all htk
      have hR2 : Hs.parsedL l = match Hs.progP ts with
        | .error n => .error (4, n)
        | .ok (ks, _) => .ok ks := by rw [parsed_tok, htr]
      have HR2 := mkHid hR2
      obtain ⟨g, cap, cur, rfl, hg, hcap, hrow, hcur⟩ := row_at hown hall.1.some_
      have hgl := lt_of_block hrow
      have hat : PAt ⟨w2.heap.size, g, cap, ts⟩ (w2.alloc (.cells #[.slice (some ⟨g, 0, none⟩) ts.length cap, .int .i64 0] 144)) 0 :=
        ⟨heap_first _ _ rfl _, ⟨cur, heap_later _ _ hgl _ hrow, hcur⟩, by show g ≠ w2.heap.size; omega, hall.1.some_, by show ts.length ≤ 3000; omega, hcap, hall.1, Hs.tokens_k htk⟩
      have HP := mkHid (program_any ⟨w2.heap.size, g, cap, ts⟩ (w2.alloc (.cells #[.slice (some ⟨g, 0, none⟩) ts.length cap, .int .i64 0] 144)) hat (Hs.TsOk.prog hall.1.ok hall.1.some_))
      have HB2 := mkHid hb2
      clear hown hb2 HPO htr htk hR2 hat hrow hcur hall
      go_wp2_with fail
      refine HP.out.mono ?_
      rintro e w3 ⟨hf3, ho3⟩
      have hb3 : Below w2.heap.size w2 w3 := ⟨hf3.os.trans rfl, hf3.tape.trans rfl, hf3.output.trans rfl, Nat.le_trans (by simp) hf3.size, fun k hk => by rw [hf3.block k (by simp; omega) (by show k ≠ w2.heap.size; omega)]; exact Below.heap_alloc _ _ _ hk⟩
      have HB3 := mkHid (HB2.out.trans (hb3.mono HB2.out.size))
      cases hpr : Hs.progP ts with
      | error n =>
        rw [hpr] at ho3
        obtain rfl : e = faultE 4 n := ho3
        have HF : Hid (Hs.readL l = (4, n)) := by show _ = _; unfold Hs.readL; rw [HR2.out, hpr]
        clear hf3 hb3 HP hpr HR2
        go_wp2_with fail
        exact ⟨rfl, HB3.out, by rw [HF.out]; exact Or.inr ⟨by simp, rfl⟩⟩
      | ok kq =>
        obtain ⟨ks, q⟩ := kq
        rw [hpr] at ho3
        obtain ⟨_, v3, rfl, hv3⟩ := ho3
        have hpl : Hs.parsedL l = .ok ks := by rw [HR2.out, hpr]
        have hfine := Hs.sz_parsed hpl
        have HF : Hid (Hs.readL l = Hs.namesL 2001 ks) := by show _ = _; unfold Hs.readL; rw [hpl]
        have hfl := FineL.len hfine
        have hfk : ∀ f ∈ ks, f.kids.length ≤ 90000 := fun f hf => by have := (FineA.kids (FineL.mem hfine hf) 0).1; omega
        have hdd : ∀ f ∈ ks, ∀ k ∈ f.kids, Hs.dp 2001 k := fun f hf k hk => Hs.dp_of_fine 2001 k (FineA.kid (FineL.mem hfine hf) hk)
        have hww : ∀ f ∈ ks, f.kids.length + (f.kids.map (Hs.wt 2001)).sum ≤ 90000 := fun f hf => by have := FineA.kids (FineL.mem hfine hf) 2001; omega
        have hfs : FSl (Btw (w2.alloc (.cells #[.slice (some ⟨g, 0, none⟩) ts.length cap, .int .i64 0] 144)).heap.size w3.heap.size) w3 v3 ks := hv3
        obtain ⟨fx, fc, rfl⟩ : ∃ x c, v3 = .slice x ks.length c := by
          rcases hfs.cells with ⟨h1, h2⟩ | ⟨g, cap, h1, _⟩
          · exact ⟨none, 0, by rw [h1, h2]; rfl⟩
          · exact ⟨_, _, h1⟩
        have HKI := mkHid hfs.kids
        have HM := mkHid (ckMain_any ks _ _ w3 (by omega) hfk hfs)
        have HFS := mkHid hfs
        have HFK := mkHid hfk
        have HDD := mkHid hdd
        have HWW := mkHid hww
        have HPL := mkHid hpl
        clear hf3 hb3 HP hpr HR2 hv3 hpl hfine hfk hdd hww hfs
        go_wp2_with fail
        refine HM.out.mono ?_
        rintro e w4 ⟨hb4, ⟨hmo, rfl⟩ | ⟨hmo, rfl⟩⟩
        rotate_left
        · have HB4 := mkHid (HB3.out.trans (hb4.mono HB3.out.size))
          have HF2 : Hid (Hs.readL l = (5, 0)) := by show _ = _; rw [HF.out, names_main 2001 hmo HKI.out]
          clear hb4 hmo HM
          go_wp2_with fail
          exact ⟨rfl, HB4.out, by rw [HF2.out]; exact Or.inr ⟨by decide, rfl⟩⟩
        have HB4 := mkHid (HB3.out.trans (hb4.mono HB3.out.size))
        have HF2 : Hid (Hs.readL l = ((Hs.allL ks 2001 [] ks ⟨[], 0, 0⟩).kind, (Hs.allL ks 2001 [] ks ⟨[], 0, 0⟩).line)) := by show _ = _; rw [HF.out, names_go 2001 hmo]
        have HN := mkHid (ckNames_any (w2.alloc (.cells #[.slice (some ⟨g, 0, none⟩) ts.length cap, .int .i64 0] 144)).heap.size ks (.slice fx ks.length fc) w4 2001 (by omega) HFK.out (HFS.out.grow (fun b hb => hb4.block b hb.2) fun b hb => ⟨hb.1, Nat.lt_of_lt_of_le hb.2 hb4.size⟩) HDD.out HWW.out)
        have HF4 := mkHid (HFS.out.grow (G := Btw w.heap.size w4.heap.size) (fun b hb => hb4.block b hb.2) fun b hb => ⟨by have h1 := hb.1; have h2 := HB2.out.size; simp at h1; omega, Nat.lt_of_lt_of_le hb.2 hb4.size⟩)
        clear hb4 hmo HM HF HFK HDD HWW HKI HFS
        generalize (Hs.allL ks 2001 [] ks ⟨[], 0, 0⟩).kind = kd at *
        generalize (Hs.allL ks 2001 [] ks ⟨[], 0, 0⟩).line = ld at *
        go_wp2_with fail
        refine HN.out.mono ?_
        rintro e w5 ⟨hb5, ⟨hk5, hl5, rfl⟩ | ⟨hk5, rfl⟩⟩
        · have HB5 := mkHid (HB4.out.trans (hb5.mono HB4.out.size))
          have HF3 : Hid (Hs.readL l = (0, 0)) := by show _ = _; rw [HF2.out, hk5, hl5]
          have HF5 := mkHid (HF4.out.grow (G := Btw w.heap.size w5.heap.size) (fun b hb => hb5.block b hb.2) fun b hb => ⟨hb.1, Nat.lt_of_lt_of_le hb.2 hb5.size⟩)
          clear hb5 hk5 hl5 HN
          go_wp2_with fail
          go_ret
          exact ⟨HB5.out, Or.inl ⟨HF3.out, _, ks, rfl, HPL.out, HF5.out⟩⟩
        · have HB5 := mkHid (HB4.out.trans (hb5.mono HB4.out.size))
          have HK5 := mkHid hk5
          clear hb5 hk5 HN
          go_wp2_with fail
          exact ⟨rfl, HB5.out, by rw [HF2.out]; exact Or.inr ⟨HK5.out, rfl⟩⟩

end Go.Proofs.YtblbkfdhjfppkaaGreatDoor

/- Contracts of the program: the face. -/
namespace Go.Proofs.YtblbkfdhjfppkaaGreatDoor
open Go.RowKit

set_option maxRecDepth 100000 in
set_option maxHeartbeats 1000000 in
theorem check1_any (src : ByteArray) (b : Nat) (w : World) (hT : AllTabs w) (hs : src.size ≤ maxLen) (hb : w.cell? ⟨b, 0, none⟩ = some (.string src)) (_hbl : b < w.heap.size) :
    Calls Tryz.prog 43 #[.pointer (some ⟨b, 0, none⟩)] w fun e w' => Below w.heap.size w w' ∧ ((Hs.readL src.data.toList = (0, 0) ∧ e = .returned (.tuple #[])) ∨ ((Hs.readL src.data.toList).1 ≠ 0 ∧ e = faultE (Hs.readL src.data.toList).1 (Hs.readL src.data.toList).2)) := by
  have HR := mkHid (pread_any src w hT hs)
  unfold preadPost at HR
  clear hT
  generalize Hs.readL src.data.toList = rd at *
  go_enter Tryz.func43, Tryz.ntmps43
  go_wp2_with fail
  refine HR.out.mono ?_
  rintro e w1 ⟨hb1, ⟨h0, v, _, rfl, _, _⟩ | ⟨h0, rfl⟩⟩
  · have HB := mkHid hb1
    have H0 := mkHid h0
    clear hb1 h0
    go_wp2_with fail
    go_end0
    exact ⟨HB.out, Or.inl ⟨H0.out, rfl⟩⟩
  · have HB := mkHid hb1
    have H0 := mkHid h0
    clear hb1 h0
    go_wp2_with fail
    exact ⟨rfl, HB.out, Or.inr ⟨H0.out, rfl⟩⟩

end Go.Proofs.YtblbkfdhjfppkaaGreatDoor

/- Contracts of the program: what is deferred at the face: a fault is caught. -/
namespace Go.Proofs.YtblbkfdhjfppkaaGreatDoor
open Go.RowKit

theorem lt_blk {w : World} {b : Nat} {o : Obj} (h : w.heap[b]? = some o) : b < w.heap.size := by
  rcases Nat.lt_or_ge b w.heap.size with h1 | h1
  · exact h1
  · rw [Array.getElem?_eq_none h1] at h; cases h
theorem cell_blk {w : World} {b i : Nat} {c : Array Value} {e : TypeId} (h : w.heap[b]? = some (.cells c e (0, 0))) {v : Value} (hv : c[i]? = some v) : w.cell? ⟨b, i, none⟩ = some v := by
  simp [World.cell?, h, hv]
theorem frozen_blk {w : World} {b i : Nat} {c : Array Value} {e : TypeId} (h : w.heap[b]? = some (.cells c e (0, 0))) : w.frozen? ⟨b, i, none⟩ = false := by
  simp [World.frozen?, h]

theorem set_two (p q k n : Nat) (w : World) (hp : w.heap[p]? = some (.cells #[.int .i64 0] 22 (0, 0))) (hq : w.heap[q]? = some (.cells #[.int .i64 0] 3 (0, 0))) (hpq : p < q) :
    Below p w (((w.setCell ⟨p, 0, none⟩ (.int .i64 k)).setCell ⟨q, 0, none⟩ (.int .i64 n)).alloc (.cells #[.int .i64 k, .int .i64 n] 141)).drew
    ∧ (((w.setCell ⟨p, 0, none⟩ (.int .i64 k)).setCell ⟨q, 0, none⟩ (.int .i64 n)).alloc (.cells #[.int .i64 k, .int .i64 n] 141)).drew.cell? ⟨p, 0, none⟩ = some (.int .i64 k)
    ∧ (((w.setCell ⟨p, 0, none⟩ (.int .i64 k)).setCell ⟨q, 0, none⟩ (.int .i64 n)).alloc (.cells #[.int .i64 k, .int .i64 n] 141)).drew.cell? ⟨q, 0, none⟩ = some (.int .i64 n) := by
  have c0 : w.cell? ⟨p, 0, none⟩ = some (.int .i64 0) := cell_blk hp rfl
  have c1 : w.cell? ⟨q, 0, none⟩ = some (.int .i64 0) := cell_blk hq rfl
  have l0 := lt_blk hp
  have l1 := lt_blk hq
  have hn1 : ¬ p = q := by omega
  have hn2 : ¬ q = p := by omega
  have hn3 : ¬ p = w.heap.size := by omega
  have hn4 : ¬ q = w.heap.size := by omega
  refine ⟨((((Below.refl p w).setCell (Nat.le_refl p) _).setCell (Nat.le_of_lt hpq) _).alloc (by simp; omega) _).drew, ?_, ?_⟩
  · simp [go_sem, c0, l0]
  · simp [go_sem, c1, l1]
theorem set_two' (p q k n : Nat) (w : World) (hp : w.heap[p]? = some (.cells #[.int .i64 0] 22 (0, 0))) (hq : w.heap[q]? = some (.cells #[.int .i64 0] 3 (0, 0))) (hpq : p < q) :
    Below p w (((w.setCell ⟨q, 0, none⟩ (.int .i64 n)).setCell ⟨p, 0, none⟩ (.int .i64 k)).alloc (.cells #[.int .i64 k, .int .i64 n] 141)).drew
    ∧ (((w.setCell ⟨q, 0, none⟩ (.int .i64 n)).setCell ⟨p, 0, none⟩ (.int .i64 k)).alloc (.cells #[.int .i64 k, .int .i64 n] 141)).drew.cell? ⟨p, 0, none⟩ = some (.int .i64 k)
    ∧ (((w.setCell ⟨q, 0, none⟩ (.int .i64 n)).setCell ⟨p, 0, none⟩ (.int .i64 k)).alloc (.cells #[.int .i64 k, .int .i64 n] 141)).drew.cell? ⟨q, 0, none⟩ = some (.int .i64 n) := by
  have c0 : w.cell? ⟨p, 0, none⟩ = some (.int .i64 0) := cell_blk hp rfl
  have c1 : w.cell? ⟨q, 0, none⟩ = some (.int .i64 0) := cell_blk hq rfl
  have l0 := lt_blk hp
  have l1 := lt_blk hq
  have hn1 : ¬ p = q := by omega
  have hn2 : ¬ q = p := by omega
  have hn3 : ¬ p = w.heap.size := by omega
  have hn4 : ¬ q = w.heap.size := by omega
  refine ⟨((((Below.refl p w).setCell (Nat.le_of_lt hpq) _).setCell (Nat.le_refl p) _).alloc (by simp; omega) _).drew, ?_, ?_⟩
  · simp [go_sem, c0, l0]
  · simp [go_sem, c1, l1]

theorem isFault (v : Value) (w : World) : (Instr.typeAssert (.iface 141 v) 20 141 true).run Tryz.prog w = .ok (.tuple #[v, .bool true]) w := by kernel_rfl

set_option maxRecDepth 100000 in
set_option maxHeartbeats 1000000 in
theorem catch_fault (p q k n : Nat) (older : List PanicEntry) (w : World) (hp : w.heap[p]? = some (.cells #[.int .i64 0] 22 (0, 0))) (hq : w.heap[q]? = some (.cells #[.int .i64 0] 3 (0, 0))) (hpq : p < q) :
    CallsD Tryz.prog 75 #[.pointer (some ⟨p, 0, none⟩), .pointer (some ⟨q, 0, none⟩)] (.panicking ({ v := .iface 141 (.agg #[.int .i64 k, .int .i64 n]), recovered := false } :: older)) w fun e u' w' =>
      e = .returned (.tuple #[]) ∧ u' = .panicking ({ v := .iface 141 (.agg #[.int .i64 k, .int .i64 n]), recovered := true } :: older) ∧ Below p w w' ∧ w'.cell? ⟨p, 0, none⟩ = some (.int .i64 k) ∧ w'.cell? ⟨q, 0, none⟩ = some (.int .i64 n) := by
  have c0 := cell_blk hp (i := 0) rfl
  have c1 := cell_blk hq (i := 0) rfl
  have f0 := frozen_blk (i := 0) hp
  have f1 := frozen_blk (i := 0) hq
  have l0 := lt_blk hp
  have l1 := lt_blk hq
  have hft := isFault
  refine callsD_of_wpS Tryz.func75 rfl fun c₀ cs hu => ?_
  apply wpS_seq
  apply wpS_region
  simp [wpOpsS, go_sem, recoverD, hu, Tryz.ntmps75, Exit.thenS]
  refine wpS_of_wp ?_
  have hn1 : ¬ p = q := by omega
  have hn2 : ¬ q = p := by omega
  have hn3 : ¬ p = w.heap.size := by omega
  have hn4 : ¬ q = w.heap.size := by omega
  obtain ⟨b12, x12, y12⟩ := set_two p q k n w hp hq hpq
  obtain ⟨b21, x21, y21⟩ := set_two' p q k n w hp hq hpq
  clear hp hq
  go_wp2_with fail
  go_region
  all_goals
    go_wp2_with fail
    first
    | exact ⟨rfl, _, rfl, .tuple #[], by simp [results, Tryz.results75], rfl, rfl, b12, x12, y12⟩
    | exact ⟨rfl, _, rfl, .tuple #[], by simp [results, Tryz.results75], rfl, rfl, b21, x21, y21⟩

end Go.Proofs.YtblbkfdhjfppkaaGreatDoor

/- Contracts of the program: the face: a source is checked. -/
namespace Go.Proofs.YtblbkfdhjfppkaaGreatDoor
open Go.RowKit

set_option maxRecDepth 100000 in
set_option maxHeartbeats 1000000 in
theorem catch_idle (p q : Addr) (w : World) :
    CallsD Tryz.prog 75 #[.pointer (some p), .pointer (some q)] .returning w fun e u' w' => e = .returned (.tuple #[]) ∧ u' = .returning ∧ w' = w := by
  refine callsD_of_wpS Tryz.func75 rfl fun c₀ cs hu => ?_
  apply wpS_seq
  apply wpS_region
  simp [wpOpsS, go_sem, recoverD, hu, Tryz.ntmps75, Exit.thenS]
  refine wpS_of_wp ?_
  go_wp2_with fail
  exact ⟨rfl, c₀.mode, rfl, .tuple #[], by simp [results, Tryz.results75], rfl, hu, rfl⟩

theorem first_blk (w : World) (o o2 : Obj) : ((w.alloc o).alloc o2).heap[w.heap.size]? = some o := by
  rw [Below.heap_alloc _ _ _ (by simp)]
  show (w.heap.push o)[w.heap.size]? = _
  rw [Array.getElem?_push, if_pos rfl]
theorem second_blk (w : World) (o o2 : Obj) : ((w.alloc o).alloc o2).heap[w.heap.size + 1]? = some o2 := by
  show ((w.alloc o).heap.push o2)[w.heap.size + 1]? = _
  rw [Array.getElem?_push, if_pos (by simp)]

theorem makeFv (fn : Fn) (first cap : Array Value) (w : World) : (Instr.makeFunc fn first cap).run Tryz.prog w = .ok (.func fn first cap) w := rfl

set_option maxRecDepth 100000 in
set_option maxHeartbeats 1000000 in
theorem faultOf_any (rd : Nat × Nat) (b : Nat) (w : World)
    (hC : ∀ w1, Below w.heap.size w w1 → Calls Tryz.prog 43 #[.pointer (some ⟨b, 0, none⟩)] w1 fun e w' => Below w1.heap.size w1 w' ∧ ((rd = (0, 0) ∧ e = .returned (.tuple #[])) ∨ (rd.1 ≠ 0 ∧ e = .panicked [{ v := .iface 141 (.agg #[.int .i64 rd.1, .int .i64 rd.2]), recovered := false }]))) :
    Calls Tryz.prog 42 #[.func (.func 43) #[] #[.pointer (some ⟨b, 0, none⟩)]] w fun e w' => Below w.heap.size w w' ∧ (rd.1 = 0 → rd = (0, 0)) ∧ e = .returned (.tuple #[.int .i64 rd.1, .int .i64 rd.2]) := by
  have hmf := makeFv
  have hb2 : Below w.heap.size w ((w.alloc (.cells #[.int .i64 0] 22)).alloc (.cells #[.int .i64 0] 3)) := ((Below.refl _ w).alloc (Nat.le_refl _) _).alloc (by simp) _
  have HC := hC _ hb2
  clear hC
  go_enter_defers Tryz.func42, Tryz.ntmps42
  go_wp2_with fail
  refine HC.mono ?_
  rintro e w1 ⟨hb1, hr⟩
  have hp : w1.heap[w.heap.size]? = some (.cells #[.int .i64 0] 22 (0, 0)) := by rw [hb1.block _ (by simp; omega)]; exact first_blk _ _ _
  have hq : w1.heap[w.heap.size + 1]? = some (.cells #[.int .i64 0] 3 (0, 0)) := by rw [hb1.block _ (by simp)]; exact second_blk _ _ _
  have HB : Below w.heap.size w w1 := hb2.trans (hb1.mono (by simp; omega))
  clear hb1 hb2 HC
  rcases hr with ⟨hr, rfl⟩ | ⟨hr, rfl⟩
  · have c0 := cell_blk hp (i := 0) rfl
    have c1 := cell_blk hq (i := 0) rfl
    have f0 := frozen_blk (i := 0) hp
    have f1 := frozen_blk (i := 0) hq
    have l0 := lt_blk hp
    have l1 := lt_blk hq
    go_wp2_with fail
    refine leaves_cons (f := 75) (args := #[.pointer (some ⟨w.heap.size, 0, none⟩), .pointer (some ⟨w.heap.size + 1, 0, none⟩)]) (by simp) (by simp [go_sem]) ?_
    refine (catch_idle ⟨w.heap.size, 0, none⟩ ⟨w.heap.size + 1, 0, none⟩ _).mono ?_
    rintro e u' w'' ⟨rfl, rfl, rfl⟩
    subst hr
    have hbb : Below w.heap.size w ((w1.setCell ⟨w.heap.size, 0, none⟩ (.int .i64 0)).setCell ⟨w.heap.size + 1, 0, none⟩ (.int .i64 0)) := (HB.setCell (Nat.le_refl _) _).setCell (Nat.le_succ _) _
    simp [Leaves, settle, results, Tryz.results42, go_sem, c0, c1]
    exact hbb
  · have HN : Hid (rd.1 = 0 → rd = (0, 0)) := fun h => absurd h hr
    clear hr
    go_wp2_with fail
    refine leaves_cons (f := 75) (args := #[.pointer (some ⟨w.heap.size, 0, none⟩), .pointer (some ⟨w.heap.size + 1, 0, none⟩)]) (by simp) (by simp [go_sem]) ?_
    refine (catch_fault w.heap.size (w.heap.size + 1) rd.1 rd.2 [] _ hp hq (Nat.lt_succ_self _)).mono ?_
    rintro e u' w2 ⟨rfl, rfl, hb3, c0, c1⟩
    have hbb := HB.trans hb3
    simp [Leaves, settle, results, Tryz.results42, go_sem, c0, c1]
    exact ⟨hbb, HN.out⟩

set_option maxRecDepth 100000 in
set_option maxHeartbeats 1000000 in
theorem check_of (rd : Nat × Nat) (src : ByteArray) (w : World)
    (hC : ∀ w1, Below w.heap.size w w1 → w1.cell? ⟨w.heap.size, 0, none⟩ = some (.string src) → w.heap.size < w1.heap.size → Calls Tryz.prog 43 #[.pointer (some ⟨w.heap.size, 0, none⟩)] w1 fun e w' => Below w1.heap.size w1 w' ∧ ((rd = (0, 0) ∧ e = .returned (.tuple #[])) ∨ (rd.1 ≠ 0 ∧ e = .panicked [{ v := .iface 141 (.agg #[.int .i64 rd.1, .int .i64 rd.2]), recovered := false }]))) :
    Calls Tryz.prog 15 #[.string src] w fun e w' => Below w.heap.size w w' ∧ (rd.1 = 0 → rd = (0, 0)) ∧ e = .returned (.tuple #[.int .i64 rd.1, .int .i64 rd.2]) := by
  have hmf := makeFv
  have hb1 : Below w.heap.size w (w.alloc (.cells #[.string src] 9)) := (Below.refl _ w).alloc (Nat.le_refl _) _
  have HF := faultOf_any rd w.heap.size (w.alloc (.cells #[.string src] 9)) fun w1 hw1 => hC w1 (hb1.trans (hw1.mono (by simp))) (by
    rw [hw1.cell (by simp)]
    simp [go_sem]) (Nat.lt_of_lt_of_le (by simp) hw1.size)
  clear hC
  go_enter Tryz.func15, Tryz.ntmps15
  go_wp2_with fail
  refine HF.mono ?_
  rintro e w1 ⟨hb2, hz, rfl⟩
  have hbb := hb1.trans (hb2.mono (by simp))
  have HZ : Hid (rd.1 = 0 → rd = (0, 0)) := hz
  clear hb1 hb2 HF hz
  go_wp2_with fail
  go_ret2
  exact ⟨hbb, HZ.out, rfl⟩

end Go.Proofs.YtblbkfdhjfppkaaGreatDoor
