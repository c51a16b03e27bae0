/- Contracts of the program: names: each sort of nodes. -/
import Derived.Test.YtblbkfdhjfppkaaGreatDoorPart05
import Derived.Test.YtblbkfdhjfppkaaGreatDoorPart06
import Derived.Laws.EntriesVeiled
import Derived.Test.YtblbkfdhjfppkaaGreatDoorPart00
import Derived.Lib.ParseIntB
import Derived.Test.YtblbkfdhjfppkaaGreatDoorShelf
namespace Go.Proofs.YtblbkfdhjfppkaaGreatDoor
open Go.RowKit
theorem PN.parts {F : Nat → Prop} {w : World} {v : Value} {a : Hs.Ast} (h : PN F w v a) : ∃ T cs ps, v = .iface T (.agg cs) ∧ Shape T cs a ps ∧ ∀ p ∈ ps, p.ok F w := by
  obtain ⟨d, h⟩ := h
  cases d with
  | zero => exact h.elim
  | succ d =>
    obtain ⟨T, cs, ps, h1, h2, h3⟩ := h
    exact ⟨T, cs, ps, h1, h2, fun p hp => (h3 p hp).mono (fun _ _ h => ⟨d, h⟩) (fun _ h => h)⟩
theorem Prt.ok.one' {F : Nat → Prop} {w : World} {v : Value} {a : Hs.Ast} (h : Prt.ok F w ⟨v, [a], true⟩) : PN F w v a := by
  rcases h with ⟨_, b, h1, h2⟩ | ⟨h1, _⟩
  · cases h1; exact h2
  · cases h1
theorem Prt.ok.many {F : Nat → Prop} {w : World} {v : Value} {l : List Hs.Ast} (h : Prt.ok F w ⟨v, l, false⟩) : PKid F w v l := by
  rcases h with ⟨h1, _⟩ | ⟨_, h2⟩
  · cases h1
  · exact h2
structure Loc (cb : Nat) (w0 : World) (b : Nat) (o : Obj) (W : World) : Prop where
  fb : FB cb w0 W
  blk : W.heap[b]? = some o
  row : rowOf cb W ≠ some b
  ne : b ≠ cb
theorem Loc.new {cb lo : Nat} {fs : List Hs.Ast} {fv : Value} {w : World} {seen : List (List UInt8)} (h : CK cb lo fs fv w seen) (o : Obj) : Loc cb w w.heap.size o (w.alloc o) ∧ CK cb lo fs fv (w.alloc o) seen := by
  have hcb := h.lt
  have hb : Below w.heap.size w (w.alloc o) := (Below.refl _ _).alloc (Nat.le_refl _) _
  refine ⟨⟨FB.of_below hb hcb, heap_first _ _ rfl _, fun e => ?_, by omega⟩, h.grow hb⟩
  obtain ⟨sv, hb', ho⟩ := h.blk
  rw [rowOf_eq (hb.block cb hcb), rowOf_at hb'] at e
  have := own_block_lt ho _ e
  omega
theorem Loc.step {cb b : Nat} {o : Obj} {w0 W W' : World} (h : Loc cb w0 b o W) (hb : FB cb W W') : Loc cb w0 b o W' :=
  ⟨h.fb.trans hb, (hb.blk b (lt_of_block h.blk) h.ne h.row).trans h.blk, fun e => by
    rcases hb.row _ e with e | e
    · exact h.row e
    · have := lt_of_block h.blk; omega, h.ne⟩
def BlockAt (cb lo : Nat) (fs : List Hs.Ast) (fv : Value) (d : Nat) : Prop :=
  ∀ (v : Value) (b : Hs.Ast) (seen : List (List UInt8)) (w : World), CK cb lo fs fv w seen → b.op = [98, 108, 111, 99, 107] → PKid (Btw lo cb) w v b.kids → Hs.dp d b → seen.length + Hs.wt d b ≤ 90000 →
    Calls Tryz.prog 190 #[.pointer (some ⟨cb, 0, none⟩), v] w (OutC cb lo fs fv w (Hs.walkL fs false d b ⟨seen, 0, 0⟩))
theorem kids_len {d : Nat} {l : List Hs.Ast} (h : ∀ k ∈ l, Hs.dp d k) : l.length ≤ (l.map (Hs.wt d)).sum := by
  cases d with
  | zero =>
    cases l with
    | nil => simp
    | cons x l => exact (h x (List.mem_cons_self ..)).elim
  | succ d => exact len_le_sum d l
theorem block_at {cb lo : Nat} {fs : List Hs.Ast} {fv : Value} {d : Nat} (HN : NodesAt cb lo fs fv d) : BlockAt cb lo fs fv (d + 1) := by
  intro v b seen w h hop hk hd hwt
  rw [Hs.wt] at hwt
  have hs : Hs.walkL fs false (d + 1) b ⟨seen, 0, 0⟩ = { foldL fs d b.kids ⟨seen, 0, 0⟩ with seen := (foldL fs d b.kids ⟨seen, 0, 0⟩).seen.take seen.length } := by
    rw [Hs.walkL, if_neg (by rw [hop]; decide)]
    simp only [Hs.lookL, hop]
    rfl
  have hkl := kids_len hd
  rw [hs]
  exact ckBlock_any cb lo fs fv d HN v b.kids seen w h hk hd (by omega) (by omega)
theorem nil_block {cb lo : Nat} {fs : List Hs.Ast} {fv : Value} (d : Nat) (HN : NodesAt cb lo fs fv d) (seen : List (List UInt8)) (w : World) (h : CK cb lo fs fv w seen) (hs : seen.length ≤ 90000) :
    Calls Tryz.prog 190 #[.pointer (some ⟨cb, 0, none⟩), .slice none 0 0] w (OutC cb lo fs fv w ⟨seen, 0, 0⟩) := by
  have := ckBlock_any cb lo fs fv d HN (.slice none 0 0) [] seen w h (Or.inl ⟨rfl, rfl⟩) (fun k hk => by cases hk) (by simpa using hs) (by simp)
  have e : ({ foldL fs d [] ⟨seen, 0, 0⟩ with seen := (foldL fs d [] ⟨seen, 0, 0⟩).seen.take seen.length } : Hs.Chk) = ⟨seen, 0, 0⟩ := by
    show (⟨seen.take seen.length, 0, 0⟩ : Hs.Chk) = _
    rw [List.take_length]
  rw [e] at this
  exact this
theorem adds_len {a : Hs.Chk} {s t : List (List UInt8)} {m n k : Nat} (h : Adds a ⟨t, 0, 0⟩ m) (ha : a.seen = s) (hn : s.length + (m + k) ≤ n) : t.length + k ≤ n := by
  obtain ⟨x, h1, h2⟩ := h
  have h1' : t = s ++ x := by rw [← ha]; exact h1
  rw [h1', List.length_append]; omega
def useL (s : Hs.Chk) (l : Nat) (x : List UInt8) : Hs.Chk := if s.seen.contains x then s else s.found l 6
theorem useL_adds (s : Hs.Chk) (l : Nat) (x : List UInt8) : Adds s (useL s l x) 0 := Adds.of_eq (by unfold useL; split <;> first | rfl | exact Chk_seen_found _ _ _)
theorem use_at (cb lo : Nat) (fs : List Hs.Ast) (fv : Value) (w : World) (seen : List (List UInt8)) (h : CK cb lo fs fv w seen) (hs : seen.length ≤ 100000) (l : Nat) (x : List UInt8) :
    Calls Tryz.prog 230 #[.pointer (some ⟨cb, 0, none⟩), .agg #[.int .i64 l, .string (bs x)]] w (OutC cb lo fs fv w (useL ⟨seen, 0, 0⟩ l x)) := use_any cb lo fs fv w seen h hs l x
set_option maxRecDepth 100000 in
set_option maxHeartbeats 2000000 in
theorem nd_Number (cb lo : Nat) (fs : List Hs.Ast) (fv : Value) (seen : List (List UInt8)) (w : World) (h : CK cb lo fs fv w seen) (l k : Nat) :
    Calls Tryz.prog 167 #[.pointer (some ⟨cb, 0, none⟩), .iface 397 (.agg #[.int .i64 l, .int .i64 k])] w (OutC cb lo fs fv w ⟨seen, 0, 0⟩) := by
  have H := mkHid h
  have q0 := ta_Number_Declare
  have q1 := ta_Number_Assign
  have q2 := ta_Number_If
  have q3 := ta_Number_While
  have q4 := ta_Number_Return
  have q5 := ta_Number_Print
  have q6 := ta_Number_Call
  have q7 := ta_Number_Variable
  have q8 := ta_Number_List
  have q9 := ta_Number_Index
  have q10 := ta_Number_Unary
  have q11 := ta_Number_Binary
  clear h
  go_enter Tryz.func167, Tryz.ntmps167
  go_wp2_with fail
  go_end0
  exact OutC.done (FB.refl _) rfl H.out
set_option maxRecDepth 100000 in
set_option maxHeartbeats 2000000 in
theorem nd_String (cb lo : Nat) (fs : List Hs.Ast) (fv : Value) (seen : List (List UInt8)) (w : World) (h : CK cb lo fs fv w seen) (l : Nat) (x : ByteArray) :
    Calls Tryz.prog 167 #[.pointer (some ⟨cb, 0, none⟩), .iface 398 (.agg #[.int .i64 l, .string x])] w (OutC cb lo fs fv w ⟨seen, 0, 0⟩) := by
  have H := mkHid h
  have q0 := ta_String_Declare
  have q1 := ta_String_Assign
  have q2 := ta_String_If
  have q3 := ta_String_While
  have q4 := ta_String_Return
  have q5 := ta_String_Print
  have q6 := ta_String_Call
  have q7 := ta_String_Variable
  have q8 := ta_String_List
  have q9 := ta_String_Index
  have q10 := ta_String_Unary
  have q11 := ta_String_Binary
  clear h
  go_enter Tryz.func167, Tryz.ntmps167
  go_wp2_with fail
  go_end0
  exact OutC.done (FB.refl _) rfl H.out
set_option maxRecDepth 100000 in
set_option maxHeartbeats 2000000 in
theorem nd_Bool (cb lo : Nat) (fs : List Hs.Ast) (fv : Value) (seen : List (List UInt8)) (w : World) (h : CK cb lo fs fv w seen) (l : Nat) (x : Bool) :
    Calls Tryz.prog 167 #[.pointer (some ⟨cb, 0, none⟩), .iface 400 (.agg #[.int .i64 l, .bool x])] w (OutC cb lo fs fv w ⟨seen, 0, 0⟩) := by
  have H := mkHid h
  have q0 := ta_Bool_Declare
  have q1 := ta_Bool_Assign
  have q2 := ta_Bool_If
  have q3 := ta_Bool_While
  have q4 := ta_Bool_Return
  have q5 := ta_Bool_Print
  have q6 := ta_Bool_Call
  have q7 := ta_Bool_Variable
  have q8 := ta_Bool_List
  have q9 := ta_Bool_Index
  have q10 := ta_Bool_Unary
  have q11 := ta_Bool_Binary
  clear h
  go_enter Tryz.func167, Tryz.ntmps167
  go_wp2_with fail
  go_end0
  exact OutC.done (FB.refl _) rfl H.out
set_option maxRecDepth 100000 in
set_option maxHeartbeats 4000000 in
theorem nd_List (cb lo : Nat) (fs : List Hs.Ast) (fv : Value) (d : Nat) (HN : NodesAt cb lo fs fv d) (seen : List (List UInt8)) (w : World) (h : CK cb lo fs fv w seen) (l : Nat) (u1 : Value) (k1 : List Hs.Ast) (g1 : PKid (Btw lo cb) w u1 k1) (hk1d : ∀ k ∈ k1, Hs.dp d k) (hwt : seen.length + ((k1.map (Hs.wt d)).sum + 0) ≤ 90000) :
    Calls Tryz.prog 167 #[.pointer (some ⟨cb, 0, none⟩), .iface 346 (.agg #[.int .i64 l, u1])] w (OutC cb lo fs fv w (foldL fs d k1 ⟨seen, 0, 0⟩)) := by
  obtain ⟨x1, y1, rfl⟩ := g1.slice
  have q0 := ta_List_Declare
  have q1 := ta_List_Assign
  have q2 := ta_List_If
  have q3 := ta_List_While
  have q4 := ta_List_Return
  have q5 := ta_List_Print
  have q6 := ta_List_Call
  have q7 := ta_List_Variable
  have q8 := ta_List_List
  obtain ⟨hl0, hk0⟩ := Loc.new h (.cells #[.int .i64 l, (.slice x1 k1.length y1)] 346)
  have HL0 := mkHid hl0
  have HC0 := mkHid hk0
  clear h hl0 hk0
  go_enter Tryz.func167, Tryz.ntmps167
  have HX0 := mkHid (HN (.slice x1 k1.length y1) k1 seen (w.alloc (.cells #[.int .i64 l, (.slice x1 k1.length y1)] 346)) HC0.out (g1.below HL0.out.fb.bel) hk1d (by omega) (by have := kids_len hk1d; omega))
  obtain ⟨c0, hg0⟩ : ∃ c0, c0 = foldL fs d k1 (⟨seen, 0, 0⟩ : Hs.Chk) := ⟨_, rfl⟩
  have HG0 := mkHid hg0.symm
  first | rw [← hg0] at HX0 | rw [show _ = c0 from hg0.symm] at HX0
  clear hg0
  go_wp2_with fail
  refine HX0.out.mono ?_
  rintro e w1 ⟨hb0, ⟨s1, hc0, rfl, hck0⟩ | ⟨hk0, rfl⟩⟩
  rotate_left
  · have HB := mkHid (HL0.out.fb.trans hb0)
    have HK := mkHid hk0
    clear hb0 hk0
    go_wp2_with fail
    exact ⟨rfl, OutC.fault (c1 := c0) HB.out HK.out (by rw [HG0.out]; exact Stk.refl c0)⟩
  have HL1 := mkHid (HL0.out.step hb0)
  have HC1 := mkHid hck0
  subst hc0
  clear hb0 hck0 HX0
  go_wp2_with fail
  go_end0
  exact OutC.done HL1.out.fb (by rw [HG0.out]) HC1.out
set_option maxRecDepth 100000 in
set_option maxHeartbeats 4000000 in
theorem nd_Unary (cb lo : Nat) (fs : List Hs.Ast) (fv : Value) (d : Nat) (IH : NodeAt cb lo fs fv d) (seen : List (List UInt8)) (w : World) (h : CK cb lo fs fv w seen) (l : Nat) (x : ByteArray) (v1 : Value) (a1 : Hs.Ast) (h1 : PN (Btw lo cb) w v1 a1) (hd1 : Hs.dp d a1) (hwt : seen.length + (Hs.wt d a1 + 0) ≤ 90000) :
    Calls Tryz.prog 167 #[.pointer (some ⟨cb, 0, none⟩), .iface 350 (.agg #[.int .i64 l, .string x, v1])] w (OutC cb lo fs fv w (Hs.walkL fs false d a1 ⟨seen, 0, 0⟩)) := by
  obtain ⟨T1, cs1, rfl⟩ := h1.form
  have q0 := ta_Unary_Declare
  have q1 := ta_Unary_Assign
  have q2 := ta_Unary_If
  have q3 := ta_Unary_While
  have q4 := ta_Unary_Return
  have q5 := ta_Unary_Print
  have q6 := ta_Unary_Call
  have q7 := ta_Unary_Variable
  have q8 := ta_Unary_List
  have q9 := ta_Unary_Index
  have q10 := ta_Unary_Unary
  obtain ⟨hl0, hk0⟩ := Loc.new h (.cells #[.int .i64 l, .string x, (.iface T1 (.agg cs1))] 350)
  have HL0 := mkHid hl0
  have HC0 := mkHid hk0
  clear h hl0 hk0
  go_enter Tryz.func167, Tryz.ntmps167
  have HX0 := mkHid (IH (.iface T1 (.agg cs1)) a1 seen (w.alloc (.cells #[.int .i64 l, .string x, (.iface T1 (.agg cs1))] 350)) HC0.out (h1.below HL0.out.fb.bel) hd1 (by omega))
  obtain ⟨c0, hg0⟩ : ∃ c0, c0 = Hs.walkL fs false d a1 (⟨seen, 0, 0⟩ : Hs.Chk) := ⟨_, rfl⟩
  have HG0 := mkHid hg0.symm
  first | rw [← hg0] at HX0 | rw [show _ = c0 from hg0.symm] at HX0
  clear hg0
  go_wp2_with fail
  refine HX0.out.mono ?_
  rintro e w1 ⟨hb0, ⟨s1, hc0, rfl, hck0⟩ | ⟨hk0, rfl⟩⟩
  rotate_left
  · have HB := mkHid (HL0.out.fb.trans hb0)
    have HK := mkHid hk0
    clear hb0 hk0
    go_wp2_with fail
    exact ⟨rfl, OutC.fault (c1 := c0) HB.out HK.out (by rw [HG0.out]; exact Stk.refl c0)⟩
  have HL1 := mkHid (HL0.out.step hb0)
  have HC1 := mkHid hck0
  subst hc0
  clear hb0 hck0 HX0
  go_wp2_with fail
  go_end0
  exact OutC.done HL1.out.fb (by rw [HG0.out]) HC1.out
set_option maxRecDepth 100000 in
set_option maxHeartbeats 4000000 in
theorem nd_Return (cb lo : Nat) (fs : List Hs.Ast) (fv : Value) (d : Nat) (IH : NodeAt cb lo fs fv d) (seen : List (List UInt8)) (w : World) (h : CK cb lo fs fv w seen) (l : Nat) (v1 : Value) (a1 : Hs.Ast) (h1 : PN (Btw lo cb) w v1 a1) (hd1 : Hs.dp d a1) (hwt : seen.length + (Hs.wt d a1 + 0) ≤ 90000) :
    Calls Tryz.prog 167 #[.pointer (some ⟨cb, 0, none⟩), .iface 338 (.agg #[.int .i64 l, v1])] w (OutC cb lo fs fv w (Hs.walkL fs false d a1 ⟨seen, 0, 0⟩)) := by
  obtain ⟨T1, cs1, rfl⟩ := h1.form
  have q0 := ta_Return_Declare
  have q1 := ta_Return_Assign
  have q2 := ta_Return_If
  have q3 := ta_Return_While
  have q4 := ta_Return_Return
  obtain ⟨hl0, hk0⟩ := Loc.new h (.cells #[.int .i64 l, (.iface T1 (.agg cs1))] 338)
  have HL0 := mkHid hl0
  have HC0 := mkHid hk0
  clear h hl0 hk0
  go_enter Tryz.func167, Tryz.ntmps167
  have HX0 := mkHid (IH (.iface T1 (.agg cs1)) a1 seen (w.alloc (.cells #[.int .i64 l, (.iface T1 (.agg cs1))] 338)) HC0.out (h1.below HL0.out.fb.bel) hd1 (by omega))
  obtain ⟨c0, hg0⟩ : ∃ c0, c0 = Hs.walkL fs false d a1 (⟨seen, 0, 0⟩ : Hs.Chk) := ⟨_, rfl⟩
  have HG0 := mkHid hg0.symm
  first | rw [← hg0] at HX0 | rw [show _ = c0 from hg0.symm] at HX0
  clear hg0
  go_wp2_with fail
  refine HX0.out.mono ?_
  rintro e w1 ⟨hb0, ⟨s1, hc0, rfl, hck0⟩ | ⟨hk0, rfl⟩⟩
  rotate_left
  · have HB := mkHid (HL0.out.fb.trans hb0)
    have HK := mkHid hk0
    clear hb0 hk0
    go_wp2_with fail
    exact ⟨rfl, OutC.fault (c1 := c0) HB.out HK.out (by rw [HG0.out]; exact Stk.refl c0)⟩
  have HL1 := mkHid (HL0.out.step hb0)
  have HC1 := mkHid hck0
  subst hc0
  clear hb0 hck0 HX0
  go_wp2_with fail
  go_end0
  exact OutC.done HL1.out.fb (by rw [HG0.out]) HC1.out
set_option maxRecDepth 100000 in
set_option maxHeartbeats 4000000 in
theorem nd_Print (cb lo : Nat) (fs : List Hs.Ast) (fv : Value) (d : Nat) (IH : NodeAt cb lo fs fv d) (seen : List (List UInt8)) (w : World) (h : CK cb lo fs fv w seen) (l : Nat) (v1 : Value) (a1 : Hs.Ast) (h1 : PN (Btw lo cb) w v1 a1) (hd1 : Hs.dp d a1) (hwt : seen.length + (Hs.wt d a1 + 0) ≤ 90000) :
    Calls Tryz.prog 167 #[.pointer (some ⟨cb, 0, none⟩), .iface 339 (.agg #[.int .i64 l, v1])] w (OutC cb lo fs fv w (Hs.walkL fs false d a1 ⟨seen, 0, 0⟩)) := by
  obtain ⟨T1, cs1, rfl⟩ := h1.form
  have q0 := ta_Print_Declare
  have q1 := ta_Print_Assign
  have q2 := ta_Print_If
  have q3 := ta_Print_While
  have q4 := ta_Print_Return
  have q5 := ta_Print_Print
  obtain ⟨hl0, hk0⟩ := Loc.new h (.cells #[.int .i64 l, (.iface T1 (.agg cs1))] 339)
  have HL0 := mkHid hl0
  have HC0 := mkHid hk0
  clear h hl0 hk0
  go_enter Tryz.func167, Tryz.ntmps167
  have HX0 := mkHid (IH (.iface T1 (.agg cs1)) a1 seen (w.alloc (.cells #[.int .i64 l, (.iface T1 (.agg cs1))] 339)) HC0.out (h1.below HL0.out.fb.bel) hd1 (by omega))
  obtain ⟨c0, hg0⟩ : ∃ c0, c0 = Hs.walkL fs false d a1 (⟨seen, 0, 0⟩ : Hs.Chk) := ⟨_, rfl⟩
  have HG0 := mkHid hg0.symm
  first | rw [← hg0] at HX0 | rw [show _ = c0 from hg0.symm] at HX0
  clear hg0
  go_wp2_with fail
  refine HX0.out.mono ?_
  rintro e w1 ⟨hb0, ⟨s1, hc0, rfl, hck0⟩ | ⟨hk0, rfl⟩⟩
  rotate_left
  · have HB := mkHid (HL0.out.fb.trans hb0)
    have HK := mkHid hk0
    clear hb0 hk0
    go_wp2_with fail
    exact ⟨rfl, OutC.fault (c1 := c0) HB.out HK.out (by rw [HG0.out]; exact Stk.refl c0)⟩
  have HL1 := mkHid (HL0.out.step hb0)
  have HC1 := mkHid hck0
  subst hc0
  clear hb0 hck0 HX0
  go_wp2_with fail
  go_end0
  exact OutC.done HL1.out.fb (by rw [HG0.out]) HC1.out
set_option maxRecDepth 100000 in
set_option maxHeartbeats 4000000 in
theorem nd_Index (cb lo : Nat) (fs : List Hs.Ast) (fv : Value) (d : Nat) (IH : NodeAt cb lo fs fv d) (seen : List (List UInt8)) (w : World) (h : CK cb lo fs fv w seen) (l : Nat) (v1 : Value) (a1 : Hs.Ast) (h1 : PN (Btw lo cb) w v1 a1) (hd1 : Hs.dp d a1) (v2 : Value) (a2 : Hs.Ast) (h2 : PN (Btw lo cb) w v2 a2) (hd2 : Hs.dp d a2) (hwt : seen.length + (Hs.wt d a1 + (Hs.wt d a2 + 0)) ≤ 90000) :
    Calls Tryz.prog 167 #[.pointer (some ⟨cb, 0, none⟩), .iface 348 (.agg #[.int .i64 l, v1, v2])] w (OutC cb lo fs fv w (Hs.walkL fs false d a2 (Hs.walkL fs false d a1 ⟨seen, 0, 0⟩))) := by
  obtain ⟨T1, cs1, rfl⟩ := h1.form
  obtain ⟨T2, cs2, rfl⟩ := h2.form
  have q0 := ta_Index_Declare
  have q1 := ta_Index_Assign
  have q2 := ta_Index_If
  have q3 := ta_Index_While
  have q4 := ta_Index_Return
  have q5 := ta_Index_Print
  have q6 := ta_Index_Call
  have q7 := ta_Index_Variable
  have q8 := ta_Index_List
  have q9 := ta_Index_Index
  obtain ⟨hl0, hk0⟩ := Loc.new h (.cells #[.int .i64 l, (.iface T1 (.agg cs1)), (.iface T2 (.agg cs2))] 348)
  have HL0 := mkHid hl0
  have HC0 := mkHid hk0
  clear h hl0 hk0
  go_enter Tryz.func167, Tryz.ntmps167
  have HX0 := mkHid (IH (.iface T1 (.agg cs1)) a1 seen (w.alloc (.cells #[.int .i64 l, (.iface T1 (.agg cs1)), (.iface T2 (.agg cs2))] 348)) HC0.out (h1.below HL0.out.fb.bel) hd1 (by omega))
  have HA0 := mkHid (walkL_adds fs false d a1 ⟨seen, 0, 0⟩)
  obtain ⟨c0, hg0⟩ : ∃ c0, c0 = Hs.walkL fs false d a1 (⟨seen, 0, 0⟩ : Hs.Chk) := ⟨_, rfl⟩
  have HG0 := mkHid hg0.symm
  rw [← hg0] at HA0
  first | rw [← hg0] at HX0 | rw [show _ = c0 from hg0.symm] at HX0
  clear hg0
  go_wp2_with fail
  refine HX0.out.mono ?_
  rintro e w1 ⟨hb0, ⟨s1, hc0, rfl, hck0⟩ | ⟨hk0, rfl⟩⟩
  rotate_left
  · have HB := mkHid (HL0.out.fb.trans hb0)
    have HK := mkHid hk0
    clear hb0 hk0
    go_wp2_with fail
    exact ⟨rfl, OutC.fault (c1 := c0) HB.out HK.out (by rw [HG0.out]; exact (Stk.walk fs false d a2 c0))⟩
  have HL1 := mkHid (HL0.out.step hb0)
  have HC1 := mkHid hck0
  subst hc0
  have hn1 : s1.length + (Hs.wt d a2 + 0) ≤ 90000 := adds_len HA0.out rfl (by omega)
  clear hb0 hck0 HX0
  have HX1 := mkHid (IH (.iface T2 (.agg cs2)) a2 s1 w1 HC1.out (h2.below HL1.out.fb.bel) hd2 (by omega))
  obtain ⟨c1, hg1⟩ : ∃ c1, c1 = Hs.walkL fs false d a2 (⟨s1, 0, 0⟩ : Hs.Chk) := ⟨_, rfl⟩
  have HG1 := mkHid hg1.symm
  first | rw [← hg1] at HX1 | rw [show _ = c1 from hg1.symm] at HX1
  clear hg1
  have m1_0 := cell_of_block HL1.out.blk (i := 0) rfl
  have m1_1 := cell_of_block HL1.out.blk (i := 1) rfl
  have m1_2 := cell_of_block HL1.out.blk (i := 2) rfl
  have hz1 := lt_of_block HL1.out.blk
  go_wp2_with fail
  refine HX1.out.mono ?_
  rintro e w2 ⟨hb1, ⟨s2, hc1, rfl, hck1⟩ | ⟨hk1, rfl⟩⟩
  rotate_left
  · have HB := mkHid (HL1.out.fb.trans hb1)
    have HK := mkHid hk1
    clear hb1 hk1
    go_wp2_with fail
    exact ⟨rfl, OutC.fault (c1 := c1) HB.out HK.out (by rw [HG0.out, HG1.out]; exact Stk.refl c1)⟩
  have HL2 := mkHid (HL1.out.step hb1)
  have HC2 := mkHid hck1
  subst hc1
  clear hb1 hck1 HX1 m1_0 m1_1 m1_2 hz1
  go_wp2_with fail
  go_end0
  exact OutC.done HL2.out.fb (by rw [HG0.out, HG1.out]) HC2.out
set_option maxRecDepth 100000 in
set_option maxHeartbeats 4000000 in
theorem nd_Binary (cb lo : Nat) (fs : List Hs.Ast) (fv : Value) (d : Nat) (IH : NodeAt cb lo fs fv d) (seen : List (List UInt8)) (w : World) (h : CK cb lo fs fv w seen) (l : Nat) (x : ByteArray) (v1 : Value) (a1 : Hs.Ast) (h1 : PN (Btw lo cb) w v1 a1) (hd1 : Hs.dp d a1) (v2 : Value) (a2 : Hs.Ast) (h2 : PN (Btw lo cb) w v2 a2) (hd2 : Hs.dp d a2) (hwt : seen.length + (Hs.wt d a1 + (Hs.wt d a2 + 0)) ≤ 90000) :
    Calls Tryz.prog 167 #[.pointer (some ⟨cb, 0, none⟩), .iface 352 (.agg #[.int .i64 l, .string x, v1, v2])] w (OutC cb lo fs fv w (Hs.walkL fs false d a2 (Hs.walkL fs false d a1 ⟨seen, 0, 0⟩))) := by
  obtain ⟨T1, cs1, rfl⟩ := h1.form
  obtain ⟨T2, cs2, rfl⟩ := h2.form
  have q0 := ta_Binary_Declare
  have q1 := ta_Binary_Assign
  have q2 := ta_Binary_If
  have q3 := ta_Binary_While
  have q4 := ta_Binary_Return
  have q5 := ta_Binary_Print
  have q6 := ta_Binary_Call
  have q7 := ta_Binary_Variable
  have q8 := ta_Binary_List
  have q9 := ta_Binary_Index
  have q10 := ta_Binary_Unary
  have q11 := ta_Binary_Binary
  obtain ⟨hl0, hk0⟩ := Loc.new h (.cells #[.int .i64 l, .string x, (.iface T1 (.agg cs1)), (.iface T2 (.agg cs2))] 352)
  have HL0 := mkHid hl0
  have HC0 := mkHid hk0
  clear h hl0 hk0
  go_enter Tryz.func167, Tryz.ntmps167
  have HX0 := mkHid (IH (.iface T1 (.agg cs1)) a1 seen (w.alloc (.cells #[.int .i64 l, .string x, (.iface T1 (.agg cs1)), (.iface T2 (.agg cs2))] 352)) HC0.out (h1.below HL0.out.fb.bel) hd1 (by omega))
  have HA0 := mkHid (walkL_adds fs false d a1 ⟨seen, 0, 0⟩)
  obtain ⟨c0, hg0⟩ : ∃ c0, c0 = Hs.walkL fs false d a1 (⟨seen, 0, 0⟩ : Hs.Chk) := ⟨_, rfl⟩
  have HG0 := mkHid hg0.symm
  rw [← hg0] at HA0
  first | rw [← hg0] at HX0 | rw [show _ = c0 from hg0.symm] at HX0
  clear hg0
  go_wp2_with fail
  refine HX0.out.mono ?_
  rintro e w1 ⟨hb0, ⟨s1, hc0, rfl, hck0⟩ | ⟨hk0, rfl⟩⟩
  rotate_left
  · have HB := mkHid (HL0.out.fb.trans hb0)
    have HK := mkHid hk0
    clear hb0 hk0
    go_wp2_with fail
    exact ⟨rfl, OutC.fault (c1 := c0) HB.out HK.out (by rw [HG0.out]; exact (Stk.walk fs false d a2 c0))⟩
  have HL1 := mkHid (HL0.out.step hb0)
  have HC1 := mkHid hck0
  subst hc0
  have hn1 : s1.length + (Hs.wt d a2 + 0) ≤ 90000 := adds_len HA0.out rfl (by omega)
  clear hb0 hck0 HX0
  have HX1 := mkHid (IH (.iface T2 (.agg cs2)) a2 s1 w1 HC1.out (h2.below HL1.out.fb.bel) hd2 (by omega))
  obtain ⟨c1, hg1⟩ : ∃ c1, c1 = Hs.walkL fs false d a2 (⟨s1, 0, 0⟩ : Hs.Chk) := ⟨_, rfl⟩
  have HG1 := mkHid hg1.symm
  first | rw [← hg1] at HX1 | rw [show _ = c1 from hg1.symm] at HX1
  clear hg1
  have m1_0 := cell_of_block HL1.out.blk (i := 0) rfl
  have m1_1 := cell_of_block HL1.out.blk (i := 1) rfl
  have m1_2 := cell_of_block HL1.out.blk (i := 2) rfl
  have m1_3 := cell_of_block HL1.out.blk (i := 3) rfl
  have hz1 := lt_of_block HL1.out.blk
  go_wp2_with fail
  refine HX1.out.mono ?_
  rintro e w2 ⟨hb1, ⟨s2, hc1, rfl, hck1⟩ | ⟨hk1, rfl⟩⟩
  rotate_left
  · have HB := mkHid (HL1.out.fb.trans hb1)
    have HK := mkHid hk1
    clear hb1 hk1
    go_wp2_with fail
    exact ⟨rfl, OutC.fault (c1 := c1) HB.out HK.out (by rw [HG0.out, HG1.out]; exact Stk.refl c1)⟩
  have HL2 := mkHid (HL1.out.step hb1)
  have HC2 := mkHid hck1
  subst hc1
  clear hb1 hck1 HX1 m1_0 m1_1 m1_2 m1_3 hz1
  go_wp2_with fail
  go_end0
  exact OutC.done HL2.out.fb (by rw [HG0.out, HG1.out]) HC2.out
set_option maxRecDepth 100000 in
set_option maxHeartbeats 4000000 in
theorem nd_While (cb lo : Nat) (fs : List Hs.Ast) (fv : Value) (d : Nat) (IH : NodeAt cb lo fs fv d) (HBK : BlockAt cb lo fs fv d) (seen : List (List UInt8)) (w : World) (h : CK cb lo fs fv w seen) (l : Nat) (v1 : Value) (a1 : Hs.Ast) (h1 : PN (Btw lo cb) w v1 a1) (hd1 : Hs.dp d a1) (u2 : Value) (b2 : Hs.Ast) (hop2 : b2.op = [98, 108, 111, 99, 107]) (g2 : PKid (Btw lo cb) w u2 b2.kids) (hd2b : Hs.dp d b2) (hwt : seen.length + (Hs.wt d a1 + (Hs.wt d b2 + 0)) ≤ 90000) :
    Calls Tryz.prog 167 #[.pointer (some ⟨cb, 0, none⟩), .iface 336 (.agg #[.int .i64 l, v1, u2])] w (OutC cb lo fs fv w (Hs.walkL fs false d b2 (Hs.walkL fs false d a1 ⟨seen, 0, 0⟩))) := by
  obtain ⟨T1, cs1, rfl⟩ := h1.form
  obtain ⟨x2, y2, rfl⟩ := g2.slice
  have q0 := ta_While_Declare
  have q1 := ta_While_Assign
  have q2 := ta_While_If
  have q3 := ta_While_While
  obtain ⟨hl0, hk0⟩ := Loc.new h (.cells #[.int .i64 l, (.iface T1 (.agg cs1)), (.slice x2 b2.kids.length y2)] 336)
  have HL0 := mkHid hl0
  have HC0 := mkHid hk0
  clear h hl0 hk0
  go_enter Tryz.func167, Tryz.ntmps167
  have HX0 := mkHid (IH (.iface T1 (.agg cs1)) a1 seen (w.alloc (.cells #[.int .i64 l, (.iface T1 (.agg cs1)), (.slice x2 b2.kids.length y2)] 336)) HC0.out (h1.below HL0.out.fb.bel) hd1 (by omega))
  have HA0 := mkHid (walkL_adds fs false d a1 ⟨seen, 0, 0⟩)
  obtain ⟨c0, hg0⟩ : ∃ c0, c0 = Hs.walkL fs false d a1 (⟨seen, 0, 0⟩ : Hs.Chk) := ⟨_, rfl⟩
  have HG0 := mkHid hg0.symm
  rw [← hg0] at HA0
  first | rw [← hg0] at HX0 | rw [show _ = c0 from hg0.symm] at HX0
  clear hg0
  go_wp2_with fail
  refine HX0.out.mono ?_
  rintro e w1 ⟨hb0, ⟨s1, hc0, rfl, hck0⟩ | ⟨hk0, rfl⟩⟩
  rotate_left
  · have HB := mkHid (HL0.out.fb.trans hb0)
    have HK := mkHid hk0
    clear hb0 hk0
    go_wp2_with fail
    exact ⟨rfl, OutC.fault (c1 := c0) HB.out HK.out (by rw [HG0.out]; exact (Stk.walk fs false d b2 c0))⟩
  have HL1 := mkHid (HL0.out.step hb0)
  have HC1 := mkHid hck0
  subst hc0
  have hn1 : s1.length + (Hs.wt d b2 + 0) ≤ 90000 := adds_len HA0.out rfl (by omega)
  clear hb0 hck0 HX0
  have HX1 := mkHid (HBK (.slice x2 b2.kids.length y2) b2 s1 w1 HC1.out hop2 (g2.below HL1.out.fb.bel) hd2b (by omega))
  obtain ⟨c1, hg1⟩ : ∃ c1, c1 = Hs.walkL fs false d b2 (⟨s1, 0, 0⟩ : Hs.Chk) := ⟨_, rfl⟩
  have HG1 := mkHid hg1.symm
  first | rw [← hg1] at HX1 | rw [show _ = c1 from hg1.symm] at HX1
  clear hg1
  have m1_0 := cell_of_block HL1.out.blk (i := 0) rfl
  have m1_1 := cell_of_block HL1.out.blk (i := 1) rfl
  have m1_2 := cell_of_block HL1.out.blk (i := 2) rfl
  have hz1 := lt_of_block HL1.out.blk
  go_wp2_with fail
  refine HX1.out.mono ?_
  rintro e w2 ⟨hb1, ⟨s2, hc1, rfl, hck1⟩ | ⟨hk1, rfl⟩⟩
  rotate_left
  · have HB := mkHid (HL1.out.fb.trans hb1)
    have HK := mkHid hk1
    clear hb1 hk1
    go_wp2_with fail
    exact ⟨rfl, OutC.fault (c1 := c1) HB.out HK.out (by rw [HG0.out, HG1.out]; exact Stk.refl c1)⟩
  have HL2 := mkHid (HL1.out.step hb1)
  have HC2 := mkHid hck1
  subst hc1
  clear hb1 hck1 HX1 m1_0 m1_1 m1_2 hz1
  go_wp2_with fail
  go_end0
  exact OutC.done HL2.out.fb (by rw [HG0.out, HG1.out]) HC2.out
set_option maxRecDepth 100000 in
set_option maxHeartbeats 4000000 in
theorem nd_If (cb lo : Nat) (fs : List Hs.Ast) (fv : Value) (d : Nat) (IH : NodeAt cb lo fs fv d) (HBK : BlockAt cb lo fs fv d) (seen : List (List UInt8)) (w : World) (h : CK cb lo fs fv w seen) (l : Nat) (v1 : Value) (a1 : Hs.Ast) (h1 : PN (Btw lo cb) w v1 a1) (hd1 : Hs.dp d a1) (u2 : Value) (b2 : Hs.Ast) (hop2 : b2.op = [98, 108, 111, 99, 107]) (g2 : PKid (Btw lo cb) w u2 b2.kids) (hd2b : Hs.dp d b2) (u3 : Value) (b3 : Hs.Ast) (hop3 : b3.op = [98, 108, 111, 99, 107]) (g3 : PKid (Btw lo cb) w u3 b3.kids) (hd3b : Hs.dp d b3) (hwt : seen.length + (Hs.wt d a1 + (Hs.wt d b2 + (Hs.wt d b3 + 0))) ≤ 90000) :
    Calls Tryz.prog 167 #[.pointer (some ⟨cb, 0, none⟩), .iface 334 (.agg #[.int .i64 l, v1, u2, u3])] w (OutC cb lo fs fv w (Hs.walkL fs false d b3 (Hs.walkL fs false d b2 (Hs.walkL fs false d a1 ⟨seen, 0, 0⟩)))) := by
  obtain ⟨T1, cs1, rfl⟩ := h1.form
  obtain ⟨x2, y2, rfl⟩ := g2.slice
  obtain ⟨x3, y3, rfl⟩ := g3.slice
  have q0 := ta_If_Declare
  have q1 := ta_If_Assign
  have q2 := ta_If_If
  obtain ⟨hl0, hk0⟩ := Loc.new h (.cells #[.int .i64 l, (.iface T1 (.agg cs1)), (.slice x2 b2.kids.length y2), (.slice x3 b3.kids.length y3)] 334)
  have HL0 := mkHid hl0
  have HC0 := mkHid hk0
  clear h hl0 hk0
  go_enter Tryz.func167, Tryz.ntmps167
  have HX0 := mkHid (IH (.iface T1 (.agg cs1)) a1 seen (w.alloc (.cells #[.int .i64 l, (.iface T1 (.agg cs1)), (.slice x2 b2.kids.length y2), (.slice x3 b3.kids.length y3)] 334)) HC0.out (h1.below HL0.out.fb.bel) hd1 (by omega))
  have HA0 := mkHid (walkL_adds fs false d a1 ⟨seen, 0, 0⟩)
  obtain ⟨c0, hg0⟩ : ∃ c0, c0 = Hs.walkL fs false d a1 (⟨seen, 0, 0⟩ : Hs.Chk) := ⟨_, rfl⟩
  have HG0 := mkHid hg0.symm
  rw [← hg0] at HA0
  first | rw [← hg0] at HX0 | rw [show _ = c0 from hg0.symm] at HX0
  clear hg0
  go_wp2_with fail
  refine HX0.out.mono ?_
  rintro e w1 ⟨hb0, ⟨s1, hc0, rfl, hck0⟩ | ⟨hk0, rfl⟩⟩
  rotate_left
  · have HB := mkHid (HL0.out.fb.trans hb0)
    have HK := mkHid hk0
    clear hb0 hk0
    go_wp2_with fail
    exact ⟨rfl, OutC.fault (c1 := c0) HB.out HK.out (by rw [HG0.out]; exact ((Stk.walk fs false d b2 c0)).trans (Stk.walk fs false d b3 _))⟩
  have HL1 := mkHid (HL0.out.step hb0)
  have HC1 := mkHid hck0
  subst hc0
  have hn1 : s1.length + (Hs.wt d b2 + (Hs.wt d b3 + 0)) ≤ 90000 := adds_len HA0.out rfl (by omega)
  clear hb0 hck0 HX0
  have HX1 := mkHid (HBK (.slice x2 b2.kids.length y2) b2 s1 w1 HC1.out hop2 (g2.below HL1.out.fb.bel) hd2b (by omega))
  have HA1 := mkHid (walkL_adds fs false d b2 ⟨s1, 0, 0⟩)
  obtain ⟨c1, hg1⟩ : ∃ c1, c1 = Hs.walkL fs false d b2 (⟨s1, 0, 0⟩ : Hs.Chk) := ⟨_, rfl⟩
  have HG1 := mkHid hg1.symm
  rw [← hg1] at HA1
  first | rw [← hg1] at HX1 | rw [show _ = c1 from hg1.symm] at HX1
  clear hg1
  have m1_0 := cell_of_block HL1.out.blk (i := 0) rfl
  have m1_1 := cell_of_block HL1.out.blk (i := 1) rfl
  have m1_2 := cell_of_block HL1.out.blk (i := 2) rfl
  have m1_3 := cell_of_block HL1.out.blk (i := 3) rfl
  have hz1 := lt_of_block HL1.out.blk
  go_wp2_with fail
  refine HX1.out.mono ?_
  rintro e w2 ⟨hb1, ⟨s2, hc1, rfl, hck1⟩ | ⟨hk1, rfl⟩⟩
  rotate_left
  · have HB := mkHid (HL1.out.fb.trans hb1)
    have HK := mkHid hk1
    clear hb1 hk1
    go_wp2_with fail
    exact ⟨rfl, OutC.fault (c1 := c1) HB.out HK.out (by rw [HG0.out, HG1.out]; exact (Stk.walk fs false d b3 c1))⟩
  have HL2 := mkHid (HL1.out.step hb1)
  have HC2 := mkHid hck1
  subst hc1
  have hn2 : s2.length + (Hs.wt d b3 + 0) ≤ 90000 := adds_len HA1.out rfl (by omega)
  clear hb1 hck1 HX1 m1_0 m1_1 m1_2 m1_3 hz1
  have HX2 := mkHid (HBK (.slice x3 b3.kids.length y3) b3 s2 w2 HC2.out hop3 (g3.below HL2.out.fb.bel) hd3b (by omega))
  obtain ⟨c2, hg2⟩ : ∃ c2, c2 = Hs.walkL fs false d b3 (⟨s2, 0, 0⟩ : Hs.Chk) := ⟨_, rfl⟩
  have HG2 := mkHid hg2.symm
  first | rw [← hg2] at HX2 | rw [show _ = c2 from hg2.symm] at HX2
  clear hg2
  have m2_0 := cell_of_block HL2.out.blk (i := 0) rfl
  have m2_1 := cell_of_block HL2.out.blk (i := 1) rfl
  have m2_2 := cell_of_block HL2.out.blk (i := 2) rfl
  have m2_3 := cell_of_block HL2.out.blk (i := 3) rfl
  have hz2 := lt_of_block HL2.out.blk
  go_wp2_with fail
  refine HX2.out.mono ?_
  rintro e w3 ⟨hb2, ⟨s3, hc2, rfl, hck2⟩ | ⟨hk2, rfl⟩⟩
  rotate_left
  · have HB := mkHid (HL2.out.fb.trans hb2)
    have HK := mkHid hk2
    clear hb2 hk2
    go_wp2_with fail
    exact ⟨rfl, OutC.fault (c1 := c2) HB.out HK.out (by rw [HG0.out, HG1.out, HG2.out]; exact Stk.refl c2)⟩
  have HL3 := mkHid (HL2.out.step hb2)
  have HC3 := mkHid hck2
  subst hc2
  clear hb2 hck2 HX2 m2_0 m2_1 m2_2 m2_3 hz2
  go_wp2_with fail
  go_end0
  exact OutC.done HL3.out.fb (by rw [HG0.out, HG1.out, HG2.out]) HC3.out
set_option maxRecDepth 100000 in
set_option maxHeartbeats 4000000 in
theorem nd_IfN (cb lo : Nat) (fs : List Hs.Ast) (fv : Value) (d : Nat) (IH : NodeAt cb lo fs fv d) (HN : NodesAt cb lo fs fv d) (HBK : BlockAt cb lo fs fv d) (seen : List (List UInt8)) (w : World) (h : CK cb lo fs fv w seen) (l : Nat) (v1 : Value) (a1 : Hs.Ast) (h1 : PN (Btw lo cb) w v1 a1) (hd1 : Hs.dp d a1) (u2 : Value) (b2 : Hs.Ast) (hop2 : b2.op = [98, 108, 111, 99, 107]) (g2 : PKid (Btw lo cb) w u2 b2.kids) (hd2b : Hs.dp d b2) (hwt : seen.length + (Hs.wt d a1 + (Hs.wt d b2 + (0 + 0))) ≤ 90000) :
    Calls Tryz.prog 167 #[.pointer (some ⟨cb, 0, none⟩), .iface 334 (.agg #[.int .i64 l, v1, u2, .slice none 0 0])] w (OutC cb lo fs fv w ((Hs.walkL fs false d b2 (Hs.walkL fs false d a1 ⟨seen, 0, 0⟩)))) := by
  obtain ⟨T1, cs1, rfl⟩ := h1.form
  obtain ⟨x2, y2, rfl⟩ := g2.slice
  have q0 := ta_If_Declare
  have q1 := ta_If_Assign
  have q2 := ta_If_If
  obtain ⟨hl0, hk0⟩ := Loc.new h (.cells #[.int .i64 l, (.iface T1 (.agg cs1)), (.slice x2 b2.kids.length y2), .slice none 0 0] 334)
  have HL0 := mkHid hl0
  have HC0 := mkHid hk0
  clear h hl0 hk0
  go_enter Tryz.func167, Tryz.ntmps167
  have HX0 := mkHid (IH (.iface T1 (.agg cs1)) a1 seen (w.alloc (.cells #[.int .i64 l, (.iface T1 (.agg cs1)), (.slice x2 b2.kids.length y2), .slice none 0 0] 334)) HC0.out (h1.below HL0.out.fb.bel) hd1 (by omega))
  have HA0 := mkHid (walkL_adds fs false d a1 ⟨seen, 0, 0⟩)
  obtain ⟨c0, hg0⟩ : ∃ c0, c0 = Hs.walkL fs false d a1 (⟨seen, 0, 0⟩ : Hs.Chk) := ⟨_, rfl⟩
  have HG0 := mkHid hg0.symm
  rw [← hg0] at HA0
  first | rw [← hg0] at HX0 | rw [show _ = c0 from hg0.symm] at HX0
  clear hg0
  go_wp2_with fail
  refine HX0.out.mono ?_
  rintro e w1 ⟨hb0, ⟨s1, hc0, rfl, hck0⟩ | ⟨hk0, rfl⟩⟩
  rotate_left
  · have HB := mkHid (HL0.out.fb.trans hb0)
    have HK := mkHid hk0
    clear hb0 hk0
    go_wp2_with fail
    exact ⟨rfl, OutC.fault (c1 := c0) HB.out HK.out (by rw [HG0.out]; exact ((Stk.walk fs false d b2 c0)).trans (Stk.refl _))⟩
  have HL1 := mkHid (HL0.out.step hb0)
  have HC1 := mkHid hck0
  subst hc0
  have hn1 : s1.length + (Hs.wt d b2 + (0 + 0)) ≤ 90000 := adds_len HA0.out rfl (by omega)
  clear hb0 hck0 HX0
  have HX1 := mkHid (HBK (.slice x2 b2.kids.length y2) b2 s1 w1 HC1.out hop2 (g2.below HL1.out.fb.bel) hd2b (by omega))
  have HA1 := mkHid (walkL_adds fs false d b2 ⟨s1, 0, 0⟩)
  obtain ⟨c1, hg1⟩ : ∃ c1, c1 = Hs.walkL fs false d b2 (⟨s1, 0, 0⟩ : Hs.Chk) := ⟨_, rfl⟩
  have HG1 := mkHid hg1.symm
  rw [← hg1] at HA1
  first | rw [← hg1] at HX1 | rw [show _ = c1 from hg1.symm] at HX1
  clear hg1
  have m1_0 := cell_of_block HL1.out.blk (i := 0) rfl
  have m1_1 := cell_of_block HL1.out.blk (i := 1) rfl
  have m1_2 := cell_of_block HL1.out.blk (i := 2) rfl
  have m1_3 := cell_of_block HL1.out.blk (i := 3) rfl
  have hz1 := lt_of_block HL1.out.blk
  go_wp2_with fail
  refine HX1.out.mono ?_
  rintro e w2 ⟨hb1, ⟨s2, hc1, rfl, hck1⟩ | ⟨hk1, rfl⟩⟩
  rotate_left
  · have HB := mkHid (HL1.out.fb.trans hb1)
    have HK := mkHid hk1
    clear hb1 hk1
    go_wp2_with fail
    exact ⟨rfl, OutC.fault (c1 := c1) HB.out HK.out (by rw [HG0.out, HG1.out]; exact (Stk.refl c1))⟩
  have HL2 := mkHid (HL1.out.step hb1)
  have HC2 := mkHid hck1
  subst hc1
  have hn2 : s2.length + (0 + 0) ≤ 90000 := adds_len HA1.out rfl (by omega)
  clear hb1 hck1 HX1 m1_0 m1_1 m1_2 m1_3 hz1
  have HX2 := mkHid (nil_block d HN s2 w2 HC2.out (by omega))
  obtain ⟨c2, hg2⟩ : ∃ c2, c2 = (⟨s2, 0, 0⟩ : Hs.Chk) := ⟨_, rfl⟩
  have HG2 := mkHid hg2.symm
  first | rw [← hg2] at HX2 | rw [show _ = c2 from hg2.symm] at HX2
  clear hg2
  have m2_0 := cell_of_block HL2.out.blk (i := 0) rfl
  have m2_1 := cell_of_block HL2.out.blk (i := 1) rfl
  have m2_2 := cell_of_block HL2.out.blk (i := 2) rfl
  have m2_3 := cell_of_block HL2.out.blk (i := 3) rfl
  have hz2 := lt_of_block HL2.out.blk
  go_wp2_with fail
  refine HX2.out.mono ?_
  rintro e w3 ⟨hb2, ⟨s3, hc2, rfl, hck2⟩ | ⟨hk2, rfl⟩⟩
  rotate_left
  · have HB := mkHid (HL2.out.fb.trans hb2)
    have HK := mkHid hk2
    clear hb2 hk2
    go_wp2_with fail
    exact ⟨rfl, OutC.fault (c1 := c2) HB.out HK.out (by rw [HG0.out, HG1.out, HG2.out]; exact Stk.refl c2)⟩
  have HL3 := mkHid (HL2.out.step hb2)
  have HC3 := mkHid hck2
  subst hc2
  clear hb2 hck2 HX2 m2_0 m2_1 m2_2 m2_3 hz2
  go_wp2_with fail
  go_end0
  exact OutC.done HL3.out.fb (by rw [HG0.out, HG1.out, HG2.out]) HC3.out
set_option maxRecDepth 100000 in
set_option maxHeartbeats 4000000 in
theorem nd_Variable (cb lo : Nat) (fs : List Hs.Ast) (fv : Value)  (seen : List (List UInt8)) (w : World) (h : CK cb lo fs fv w seen) (l : Nat) (x : List UInt8) (hwt : seen.length + (0 + 0) ≤ 90000) :
    Calls Tryz.prog 167 #[.pointer (some ⟨cb, 0, none⟩), .iface 344 (.agg #[.int .i64 l, .string (bs x)])] w (OutC cb lo fs fv w (useL ⟨seen, 0, 0⟩ l x)) := by
  have q0 := ta_Variable_Declare
  have q1 := ta_Variable_Assign
  have q2 := ta_Variable_If
  have q3 := ta_Variable_While
  have q4 := ta_Variable_Return
  have q5 := ta_Variable_Print
  have q6 := ta_Variable_Call
  have q7 := ta_Variable_Variable
  obtain ⟨hl0, hk0⟩ := Loc.new h (.cells #[.int .i64 l, .string (bs x)] 344)
  have HL0 := mkHid hl0
  have HC0 := mkHid hk0
  clear h hl0 hk0
  go_enter Tryz.func167, Tryz.ntmps167
  have HX0 := mkHid (use_at cb lo fs fv (w.alloc (.cells #[.int .i64 l, .string (bs x)] 344)) seen HC0.out (by omega) l x)
  obtain ⟨c0, hg0⟩ : ∃ c0, c0 = useL (⟨seen, 0, 0⟩ : Hs.Chk) l x := ⟨_, rfl⟩
  have HG0 := mkHid hg0.symm
  first | rw [← hg0] at HX0 | rw [show _ = c0 from hg0.symm] at HX0
  clear hg0
  go_wp2_with fail
  refine HX0.out.mono ?_
  rintro e w1 ⟨hb0, ⟨s1, hc0, rfl, hck0⟩ | ⟨hk0, rfl⟩⟩
  rotate_left
  · have HB := mkHid (HL0.out.fb.trans hb0)
    have HK := mkHid hk0
    clear hb0 hk0
    go_wp2_with fail
    exact ⟨rfl, OutC.fault (c1 := c0) HB.out HK.out (by rw [HG0.out]; exact Stk.refl c0)⟩
  have HL1 := mkHid (HL0.out.step hb0)
  have HC1 := mkHid hck0
  subst hc0
  clear hb0 hck0 HX0
  go_wp2_with fail
  go_end0
  exact OutC.done HL1.out.fb (by rw [HG0.out]) HC1.out
set_option maxRecDepth 100000 in
set_option maxHeartbeats 4000000 in
theorem nd_Assign (cb lo : Nat) (fs : List Hs.Ast) (fv : Value) (d : Nat) (IH : NodeAt cb lo fs fv d) (HN : NodesAt cb lo fs fv d) (seen : List (List UInt8)) (w : World) (h : CK cb lo fs fv w seen) (l : Nat) (x : List UInt8) (u2 : Value) (k2 : List Hs.Ast) (g2 : PKid (Btw lo cb) w u2 k2) (hk2d : ∀ k ∈ k2, Hs.dp d k) (v1 : Value) (a1 : Hs.Ast) (h1 : PN (Btw lo cb) w v1 a1) (hd1 : Hs.dp d a1) (hwt : seen.length + (0 + ((k2.map (Hs.wt d)).sum + (Hs.wt d a1 + 0))) ≤ 90000) :
    Calls Tryz.prog 167 #[.pointer (some ⟨cb, 0, none⟩), .iface 332 (.agg #[.int .i64 l, .string (bs x), u2, v1])] w (OutC cb lo fs fv w (Hs.walkL fs false d a1 (foldL fs d k2 (useL ⟨seen, 0, 0⟩ l x)))) := by
  obtain ⟨x2, y2, rfl⟩ := g2.slice
  obtain ⟨T1, cs1, rfl⟩ := h1.form
  have q0 := ta_Assign_Declare
  have q1 := ta_Assign_Assign
  obtain ⟨hl0, hk0⟩ := Loc.new h (.cells #[.int .i64 l, .string (bs x), (.slice x2 k2.length y2), (.iface T1 (.agg cs1))] 332)
  have HL0 := mkHid hl0
  have HC0 := mkHid hk0
  clear h hl0 hk0
  go_enter Tryz.func167, Tryz.ntmps167
  have HX0 := mkHid (use_at cb lo fs fv (w.alloc (.cells #[.int .i64 l, .string (bs x), (.slice x2 k2.length y2), (.iface T1 (.agg cs1))] 332)) seen HC0.out (by omega) l x)
  have HA0 := mkHid (useL_adds ⟨seen, 0, 0⟩ l x)
  obtain ⟨c0, hg0⟩ : ∃ c0, c0 = useL (⟨seen, 0, 0⟩ : Hs.Chk) l x := ⟨_, rfl⟩
  have HG0 := mkHid hg0.symm
  rw [← hg0] at HA0
  first | rw [← hg0] at HX0 | rw [show _ = c0 from hg0.symm] at HX0
  clear hg0
  go_wp2_with fail
  refine HX0.out.mono ?_
  rintro e w1 ⟨hb0, ⟨s1, hc0, rfl, hck0⟩ | ⟨hk0, rfl⟩⟩
  rotate_left
  · have HB := mkHid (HL0.out.fb.trans hb0)
    have HK := mkHid hk0
    clear hb0 hk0
    go_wp2_with fail
    exact ⟨rfl, OutC.fault (c1 := c0) HB.out HK.out (by rw [HG0.out]; exact ((Stk.fold (fun s k => Stk.walk fs false d k s) _ _)).trans (Stk.walk fs false d a1 _))⟩
  have HL1 := mkHid (HL0.out.step hb0)
  have HC1 := mkHid hck0
  subst hc0
  have hn1 : s1.length + ((k2.map (Hs.wt d)).sum + (Hs.wt d a1 + 0)) ≤ 90000 := adds_len HA0.out rfl (by omega)
  clear hb0 hck0 HX0
  have HX1 := mkHid (HN (.slice x2 k2.length y2) k2 s1 w1 HC1.out (g2.below HL1.out.fb.bel) hk2d (by omega) (by have := kids_len hk2d; omega))
  have HA1 := mkHid (fold_adds fs d k2 ⟨s1, 0, 0⟩)
  obtain ⟨c1, hg1⟩ : ∃ c1, c1 = foldL fs d k2 (⟨s1, 0, 0⟩ : Hs.Chk) := ⟨_, rfl⟩
  have HG1 := mkHid hg1.symm
  rw [← hg1] at HA1
  first | rw [← hg1] at HX1 | rw [show _ = c1 from hg1.symm] at HX1
  clear hg1
  have m1_0 := cell_of_block HL1.out.blk (i := 0) rfl
  have m1_1 := cell_of_block HL1.out.blk (i := 1) rfl
  have m1_2 := cell_of_block HL1.out.blk (i := 2) rfl
  have m1_3 := cell_of_block HL1.out.blk (i := 3) rfl
  have hz1 := lt_of_block HL1.out.blk
  go_wp2_with fail
  refine HX1.out.mono ?_
  rintro e w2 ⟨hb1, ⟨s2, hc1, rfl, hck1⟩ | ⟨hk1, rfl⟩⟩
  rotate_left
  · have HB := mkHid (HL1.out.fb.trans hb1)
    have HK := mkHid hk1
    clear hb1 hk1
    go_wp2_with fail
    exact ⟨rfl, OutC.fault (c1 := c1) HB.out HK.out (by rw [HG0.out, HG1.out]; exact (Stk.walk fs false d a1 c1))⟩
  have HL2 := mkHid (HL1.out.step hb1)
  have HC2 := mkHid hck1
  subst hc1
  have hn2 : s2.length + (Hs.wt d a1 + 0) ≤ 90000 := adds_len HA1.out rfl (by omega)
  clear hb1 hck1 HX1 m1_0 m1_1 m1_2 m1_3 hz1
  have HX2 := mkHid (IH (.iface T1 (.agg cs1)) a1 s2 w2 HC2.out (h1.below HL2.out.fb.bel) hd1 (by omega))
  obtain ⟨c2, hg2⟩ : ∃ c2, c2 = Hs.walkL fs false d a1 (⟨s2, 0, 0⟩ : Hs.Chk) := ⟨_, rfl⟩
  have HG2 := mkHid hg2.symm
  first | rw [← hg2] at HX2 | rw [show _ = c2 from hg2.symm] at HX2
  clear hg2
  have m2_0 := cell_of_block HL2.out.blk (i := 0) rfl
  have m2_1 := cell_of_block HL2.out.blk (i := 1) rfl
  have m2_2 := cell_of_block HL2.out.blk (i := 2) rfl
  have m2_3 := cell_of_block HL2.out.blk (i := 3) rfl
  have hz2 := lt_of_block HL2.out.blk
  go_wp2_with fail
  refine HX2.out.mono ?_
  rintro e w3 ⟨hb2, ⟨s3, hc2, rfl, hck2⟩ | ⟨hk2, rfl⟩⟩
  rotate_left
  · have HB := mkHid (HL2.out.fb.trans hb2)
    have HK := mkHid hk2
    clear hb2 hk2
    go_wp2_with fail
    exact ⟨rfl, OutC.fault (c1 := c2) HB.out HK.out (by rw [HG0.out, HG1.out, HG2.out]; exact Stk.refl c2)⟩
  have HL3 := mkHid (HL2.out.step hb2)
  have HC3 := mkHid hck2
  subst hc2
  clear hb2 hck2 HX2 m2_0 m2_1 m2_2 m2_3 hz2
  go_wp2_with fail
  go_end0
  exact OutC.done HL3.out.fb (by rw [HG0.out, HG1.out, HG2.out]) HC3.out
end Go.Proofs.YtblbkfdhjfppkaaGreatDoor

/- Contracts of the program: names: calls, declarations. -/
namespace Go.Proofs.YtblbkfdhjfppkaaGreatDoor
open Go.RowKit
set_option maxRecDepth 100000 in
set_option maxHeartbeats 4000000 in
theorem nd_Call (cb lo : Nat) (fs : List Hs.Ast) (fv : Value) (hfl : fs.length ≤ 90000) (hfk : ∀ f ∈ fs, f.kids.length ≤ 90000) (d : Nat) (HN : NodesAt cb lo fs fv d) (c : Hs.Ast) (v : Value) (seen : List (List UInt8)) (w : World) (h : CK cb lo fs fv w seen) (hk : PKid (Btw lo cb) w v c.kids) (hd : ∀ k ∈ c.kids, Hs.dp d k) (hwt : seen.length + (c.kids.map (Hs.wt d)).sum ≤ 90000) :
    Calls Tryz.prog 167 #[.pointer (some ⟨cb, 0, none⟩), .iface 341 (.agg #[.int .i64 c.line, .string (bs c.text), v])] w (OutC cb lo fs fv w (foldL fs d c.kids (Hs.callsL fs false ⟨seen, 0, 0⟩ c))) := by
  obtain ⟨vx, vc, rfl⟩ := hk.slice
  have q0 := ta_Call_Declare
  have q1 := ta_Call_Assign
  have q2 := ta_Call_If
  have q3 := ta_Call_While
  have q4 := ta_Call_Return
  have q5 := ta_Call_Print
  have q6 := ta_Call_Call
  obtain ⟨hl0, hk0⟩ := Loc.new h (.cells #[.int .i64 c.line, .string (bs c.text), .slice vx c.kids.length vc] 341)
  have HL0 := mkHid hl0
  have HX := mkHid (ckCall_any cb lo fs fv hfl hfk d HN c (.slice vx c.kids.length vc) seen (w.alloc (.cells #[.int .i64 c.line, .string (bs c.text), .slice vx c.kids.length vc] 341)) hk0 (hk.below hl0.fb.bel) hd hwt (by have := kids_len hd; omega))
  clear h hl0 hk0
  generalize foldL fs d c.kids (Hs.callsL fs false ⟨seen, 0, 0⟩ c) = c at *
  go_enter Tryz.func167, Tryz.ntmps167
  go_wp2_with fail
  refine HX.out.mono ?_
  rintro e w1 ⟨hb, ⟨s, hc, rfl, hck⟩ | ⟨hk, rfl⟩⟩
  · have HB := mkHid (HL0.out.fb.trans hb)
    have HK := mkHid hck
    subst hc
    clear hb hck
    go_wp2_with fail
    go_end0
    exact OutC.done HB.out rfl HK.out
  · have HB := mkHid (HL0.out.fb.trans hb)
    have HK := mkHid hk
    clear hb hk
    go_wp2_with fail
    exact ⟨rfl, OutC.fault (c1 := c) HB.out HK.out (Stk.refl _)⟩
set_option maxRecDepth 100000 in
set_option maxHeartbeats 4000000 in
theorem nd_Declare (cb lo : Nat) (fs : List Hs.Ast) (fv : Value) (d : Nat) (IH : NodeAt cb lo fs fv d) (seen : List (List UInt8)) (w : World) (h : CK cb lo fs fv w seen) (l : Nat) (t a1 : Hs.Ast) (v1 : Value) (h1 : PN (Btw lo cb) w v1 a1) (hd1 : Hs.dp d a1) (hwt : seen.length + Hs.wt d a1 ≤ 90000) :
    Calls Tryz.prog 167 #[.pointer (some ⟨cb, 0, none⟩), .iface 329 (.agg #[.int .i64 l, .int .i64 t.line, .string (bs t.text), v1])] w (OutC cb lo fs fv w (({ Hs.walkL fs false d a1 (Hs.declaresL ⟨seen, 0, 0⟩ t) with seen := (Hs.walkL fs false d a1 (Hs.declaresL ⟨seen, 0, 0⟩ t)).seen ++ [t.text] } : Hs.Chk))) := by
  obtain ⟨T1, cs1, rfl⟩ := h1.form
  have q0 := ta_Declare_Declare
  obtain ⟨hl0, hk0⟩ := Loc.new h (.cells #[.int .i64 l, .int .i64 t.line, .string (bs t.text), .iface T1 (.agg cs1)] 329)
  have HL0 := mkHid hl0
  have HX := mkHid (declare_any cb lo fs fv d IH (w.alloc (.cells #[.int .i64 l, .int .i64 t.line, .string (bs t.text), .iface T1 (.agg cs1)] 329)) seen hk0 l t a1 (.iface T1 (.agg cs1)) (h1.below hl0.fb.bel) hd1 hwt)
  clear h hl0 hk0
  generalize ({ Hs.walkL fs false d a1 (Hs.declaresL ⟨seen, 0, 0⟩ t) with seen := (Hs.walkL fs false d a1 (Hs.declaresL ⟨seen, 0, 0⟩ t)).seen ++ [t.text] } : Hs.Chk) = c at *
  go_enter Tryz.func167, Tryz.ntmps167
  go_wp2_with fail
  refine HX.out.mono ?_
  rintro e w1 ⟨hb, ⟨s, hc, rfl, hck⟩ | ⟨hk, rfl⟩⟩
  · have HB := mkHid (HL0.out.fb.trans hb)
    have HK := mkHid hck
    subst hc
    clear hb hck
    go_wp2_with fail
    go_end0
    exact OutC.done HB.out rfl HK.out
  · have HB := mkHid (HL0.out.fb.trans hb)
    have HK := mkHid hk
    clear hb hk
    go_wp2_with fail
    exact ⟨rfl, OutC.fault (c1 := c) HB.out HK.out (Stk.refl _)⟩
set_option maxRecDepth 100000 in
set_option maxHeartbeats 4000000 in
theorem nd_Return0 (cb lo : Nat) (fs : List Hs.Ast) (fv : Value)  (seen : List (List UInt8)) (w : World) (h : CK cb lo fs fv w seen) (l m : Nat) :
    Calls Tryz.prog 167 #[.pointer (some ⟨cb, 0, none⟩), .iface 338 (.agg #[.int .i64 l, .iface 397 (.agg #[.int .i64 m, .int .i64 0])])] w (OutC cb lo fs fv w ((⟨seen, 0, 0⟩ : Hs.Chk))) := by
  have q0 := ta_Return_Declare
  have q1 := ta_Return_Assign
  have q2 := ta_Return_If
  have q3 := ta_Return_While
  have q4 := ta_Return_Return
  obtain ⟨hl0, hk0⟩ := Loc.new h (.cells #[.int .i64 l, .iface 397 (.agg #[.int .i64 m, .int .i64 0])] 338)
  have HL0 := mkHid hl0
  have HX := mkHid (nd_Number cb lo fs fv seen (w.alloc (.cells #[.int .i64 l, .iface 397 (.agg #[.int .i64 m, .int .i64 0])] 338)) hk0 m 0)
  clear h hl0 hk0
  generalize (⟨seen, 0, 0⟩ : Hs.Chk) = c at *
  go_enter Tryz.func167, Tryz.ntmps167
  go_wp2_with fail
  refine HX.out.mono ?_
  rintro e w1 ⟨hb, ⟨s, hc, rfl, hck⟩ | ⟨hk, rfl⟩⟩
  · have HB := mkHid (HL0.out.fb.trans hb)
    have HK := mkHid hck
    subst hc
    clear hb hck
    go_wp2_with fail
    go_end0
    exact OutC.done HB.out rfl HK.out
  · have HB := mkHid (HL0.out.fb.trans hb)
    have HK := mkHid hk
    clear hb hk
    go_wp2_with fail
    exact ⟨rfl, OutC.fault (c1 := c) HB.out HK.out (Stk.refl _)⟩
end Go.Proofs.YtblbkfdhjfppkaaGreatDoor

/- Contracts of the program: names: a node, whatever it is. -/
namespace Go.Proofs.YtblbkfdhjfppkaaGreatDoor
open Go.RowKit
theorem walk_plain {fs : List Hs.Ast} {d : Nat} {a : Hs.Ast} {s : Hs.Chk} (hv : (a.op == [118, 97, 114]) = false) (hb : (a.op == [98, 108, 111, 99, 107]) = false) : Hs.walkL fs false (d + 1) a s = foldL fs d a.kids (Hs.lookL fs false s a) := by
  rw [Hs.walkL, if_neg (by rw [hv]; simp)]
  simp only [hb]
  rfl
theorem look_plain {fs : List Hs.Ast} {a : Hs.Ast} {s : Hs.Chk} (h1 : (a.op == [115, 101, 116]) = false) (h2 : (a.op == [110, 97, 109, 101]) = false) (h3 : (a.op == [99, 97, 108, 108]) = false) : Hs.lookL fs false s a = s := by
  unfold Hs.lookL; rw [h1, h2, h3]; rfl
theorem look_use {fs : List Hs.Ast} {a : Hs.Ast} {s : Hs.Chk} (h : (a.op == [115, 101, 116] || a.op == [110, 97, 109, 101]) = true) : Hs.lookL fs false s a = useL s a.line a.text := by
  unfold Hs.lookL; rw [h]; rfl
theorem look_call {fs : List Hs.Ast} {a : Hs.Ast} {s : Hs.Chk} (h : a.op = [99, 97, 108, 108]) : Hs.lookL fs false s a = Hs.callsL fs false s a := by
  unfold Hs.lookL; rw [h]; rfl
theorem op_ne {x y : List UInt8} (h : Hs.levelOf x ≠ 9) (hy : Hs.levelOf y = 9) : (x == y) = false := by
  rw [beq_eq_false_iff_ne]; intro e; rw [e] at h; exact h hy
theorem node_step (cb lo : Nat) (fs : List Hs.Ast) (fv : Value) (hfl : fs.length ≤ 90000) (hfk : ∀ f ∈ fs, f.kids.length ≤ 90000) (d : Nat) (IHs : ∀ e, e ≤ d → NodeAt cb lo fs fv e) : NodeAt cb lo fs fv (d + 1) := by
  intro v a seen w h hn hdp hwt
  obtain ⟨T, cs, ps, rfl, hsh, hps⟩ := hn.parts
  have IH := IHs d (Nat.le_refl _)
  have HN := nodes_any cb lo fs fv d IH
  have HBK : BlockAt cb lo fs fv d := by
    cases d with
    | zero => exact fun _ _ _ _ _ _ _ hd _ => hd.elim
    | succ e => exact block_at (nodes_any cb lo fs fv e (IHs e (by omega)))
  rw [Hs.wt] at hwt
  have hdk : ∀ k ∈ a.kids, Hs.dp d k := hdp
  clear hn hdp
  rcases hsh with ⟨rfl, k, rfl, hop, hk, hkids, rfl⟩ | ⟨rfl, rfl, hop, hkids, rfl⟩ | ⟨rfl, rfl, hop, hkids, rfl⟩ | ⟨rfl, sv, rfl, hop, rfl⟩ | ⟨rfl, sv, rfl, hop, rfl⟩ | ⟨rfl, rfl, hop, hkids, rfl⟩ | ⟨rfl, l, v1, v2, a1, a2, rfl, hop, hkids, rfl⟩ | ⟨rfl, o, v1, a1, rfl, ho, hop, hkids, rfl⟩ | ⟨rfl, l, v1, v2, a1, a2, rfl, hop, hkids, rfl⟩ | ⟨rfl, v1, t, a1, rfl, hop, hkids, rfl⟩ | ⟨rfl, sv, v1, l, a1, rfl, hop, hkids, rfl⟩ | ⟨rfl, v1, s1, a1, b1, rfl, hop, hb1, hkids, rfl⟩ | ⟨rfl, v1, s1, s2, a1, b1, b2, rfl, hop, hb1, hb2, hkids, rfl⟩ | ⟨rfl, v1, s1, a1, b1, rfl, hop, hb1, hkids, rfl⟩ | ⟨rfl, l, rfl, hop, hkids, rfl⟩ | ⟨rfl, v1, a1, rfl, hop, hkids, rfl⟩ | ⟨rfl, v1, a1, rfl, hop, hkids, rfl⟩ | ⟨rfl, sv, c, rfl, hop, hln, htx, hkids, hcop, rfl⟩
  · have e : Hs.walkL fs false (d + 1) a ⟨seen, 0, 0⟩ = ⟨seen, 0, 0⟩ := by rw [walk_plain (by rw [hop]; decide) (by rw [hop]; decide), look_plain (by rw [hop]; decide) (by rw [hop]; decide) (by rw [hop]; decide), hkids]; rfl
    rw [e]
    exact nd_Number cb lo fs fv seen w h _ k
  · have e : Hs.walkL fs false (d + 1) a ⟨seen, 0, 0⟩ = ⟨seen, 0, 0⟩ := by rw [walk_plain (by rw [hop]; decide) (by rw [hop]; decide), look_plain (by rw [hop]; decide) (by rw [hop]; decide) (by rw [hop]; decide), hkids]; rfl
    rw [e]
    exact nd_String cb lo fs fv seen w h _ _
  · have e : Hs.walkL fs false (d + 1) a ⟨seen, 0, 0⟩ = ⟨seen, 0, 0⟩ := by rw [walk_plain (by rw [hop]; decide) (by rw [hop]; decide), look_plain (by rw [hop]; decide) (by rw [hop]; decide) (by rw [hop]; decide), hkids]; rfl
    rw [e]
    exact nd_Bool cb lo fs fv seen w h _ _
  · rw [walk_plain (by rw [hop]; decide) (by rw [hop]; decide), look_plain (by rw [hop]; decide) (by rw [hop]; decide) (by rw [hop]; decide)]
    exact nd_List cb lo fs fv d HN seen w h _ sv a.kids (hps _ (List.mem_singleton.2 rfl)).many hdk (by omega)
  · rw [walk_plain (by rw [hop]; decide) (by rw [hop]; decide), look_call hop]
    exact nd_Call cb lo fs fv hfl hfk d HN a sv seen w h (hps _ (List.mem_singleton.2 rfl)).many hdk (by omega)
  · have e : Hs.walkL fs false (d + 1) a ⟨seen, 0, 0⟩ = useL ⟨seen, 0, 0⟩ a.line a.text := by rw [walk_plain (by rw [hop]; decide) (by rw [hop]; decide), look_use (by rw [hop]; decide), hkids]; rfl
    rw [e]
    exact nd_Variable cb lo fs fv seen w h _ _ (by omega)
  · rw [walk_plain (by rw [hop]; decide) (by rw [hop]; decide), look_plain (by rw [hop]; decide) (by rw [hop]; decide) (by rw [hop]; decide), hkids]
    rw [hkids] at hwt hdk
    simp only [List.map_cons, List.map_nil, List.sum_cons, List.sum_nil] at hwt
    exact nd_Index cb lo fs fv d IH seen w h l v1 a1 (hps _ (by simp)).one' (hdk a1 (by simp)) v2 a2 (hps ⟨v2, [a2], true⟩ (by simp)).one' (hdk a2 (by simp)) (by omega)
  · have hop' : a.op = [45, 120] ∨ a.op = [33, 120] := by rcases ho with rfl | rfl <;> simp [hop]
    have e : Hs.walkL fs false (d + 1) a ⟨seen, 0, 0⟩ = Hs.walkL fs false d a1 ⟨seen, 0, 0⟩ := by
      rcases hop' with hop | hop <;> (rw [walk_plain (by rw [hop]; decide) (by rw [hop]; decide), look_plain (by rw [hop]; decide) (by rw [hop]; decide) (by rw [hop]; decide), hkids]; rfl)
    rw [e]
    rw [hkids] at hwt hdk
    simp only [List.map_cons, List.map_nil, List.sum_cons, List.sum_nil] at hwt
    exact nd_Unary cb lo fs fv d IH seen w h _ _ v1 a1 (hps _ (by simp)).one' (hdk a1 (by simp)) (by omega)
  · rw [walk_plain (op_ne hop (by decide)) (op_ne hop (by decide)), look_plain (op_ne hop (by decide)) (op_ne hop (by decide)) (op_ne hop (by decide)), hkids]
    rw [hkids] at hwt hdk
    simp only [List.map_cons, List.map_nil, List.sum_cons, List.sum_nil] at hwt
    exact nd_Binary cb lo fs fv d IH seen w h l _ v1 a1 (hps _ (by simp)).one' (hdk a1 (by simp)) v2 a2 (hps ⟨v2, [a2], true⟩ (by simp)).one' (hdk a2 (by simp)) (by omega)
  · have e : Hs.walkL fs false (d + 1) a ⟨seen, 0, 0⟩ = { Hs.walkL fs false d a1 (Hs.declaresL ⟨seen, 0, 0⟩ t) with seen := (Hs.walkL fs false d a1 (Hs.declaresL ⟨seen, 0, 0⟩ t)).seen ++ [t.text] } := by
      rw [Hs.walkL, if_pos (by rw [hop]; rfl), hkids]
    rw [e]
    rw [hkids] at hwt hdk
    simp only [List.map_cons, List.map_nil, List.sum_cons, List.sum_nil] at hwt
    exact nd_Declare cb lo fs fv d IH seen w h _ t a1 v1 (hps _ (by simp)).one' (hdk a1 (by simp)) (by omega)
  · rw [walk_plain (by rw [hop]; decide) (by rw [hop]; decide), look_use (by rw [hop]; decide), hkids]
    rw [hkids] at hwt hdk
    simp only [List.map_append, List.map_cons, List.map_nil, List.sum_append, List.sum_cons, List.sum_nil] at hwt
    have e : foldL fs d (l ++ [a1]) (useL ⟨seen, 0, 0⟩ a.line a.text) = Hs.walkL fs false d a1 (foldL fs d l (useL ⟨seen, 0, 0⟩ a.line a.text)) := by
      show List.foldl _ _ (l ++ [a1]) = _
      rw [List.foldl_append]; rfl
    rw [e]
    exact nd_Assign cb lo fs fv d IH HN seen w h _ _ sv l (hps ⟨sv, l, false⟩ (by simp)).many (fun k hk => hdk k (List.mem_append_left _ hk)) v1 a1 (hps ⟨v1, [a1], true⟩ (by simp)).one' (hdk a1 (by simp)) (by omega)
  · rw [walk_plain (by rw [hop]; decide) (by rw [hop]; decide), look_plain (by rw [hop]; decide) (by rw [hop]; decide) (by rw [hop]; decide), hkids]
    rw [hkids] at hwt hdk
    simp only [List.map_cons, List.map_nil, List.sum_cons, List.sum_nil] at hwt
    exact nd_IfN cb lo fs fv d IH HN HBK seen w h _ v1 a1 (hps ⟨v1, [a1], true⟩ (by simp)).one' (hdk a1 (by simp)) s1 b1 hb1 (hps ⟨s1, b1.kids, false⟩ (by simp)).many (hdk b1 (by simp)) (by omega)
  · rw [walk_plain (by rw [hop]; decide) (by rw [hop]; decide), look_plain (by rw [hop]; decide) (by rw [hop]; decide) (by rw [hop]; decide), hkids]
    rw [hkids] at hwt hdk
    simp only [List.map_cons, List.map_nil, List.sum_cons, List.sum_nil] at hwt
    exact nd_If cb lo fs fv d IH HBK seen w h _ v1 a1 (hps ⟨v1, [a1], true⟩ (by simp)).one' (hdk a1 (by simp)) s1 b1 hb1 (hps ⟨s1, b1.kids, false⟩ (by simp)).many (hdk b1 (by simp)) s2 b2 hb2 (hps ⟨s2, b2.kids, false⟩ (by simp)).many (hdk b2 (by simp)) (by omega)
  · rw [walk_plain (by rw [hop]; decide) (by rw [hop]; decide), look_plain (by rw [hop]; decide) (by rw [hop]; decide) (by rw [hop]; decide), hkids]
    rw [hkids] at hwt hdk
    simp only [List.map_cons, List.map_nil, List.sum_cons, List.sum_nil] at hwt
    exact nd_While cb lo fs fv d IH HBK seen w h _ v1 a1 (hps ⟨v1, [a1], true⟩ (by simp)).one' (hdk a1 (by simp)) s1 b1 hb1 (hps ⟨s1, b1.kids, false⟩ (by simp)).many (hdk b1 (by simp)) (by omega)
  · have e : Hs.walkL fs false (d + 1) a ⟨seen, 0, 0⟩ = ⟨seen, 0, 0⟩ := by rw [walk_plain (by rw [hop]; decide) (by rw [hop]; decide), look_plain (by rw [hop]; decide) (by rw [hop]; decide) (by rw [hop]; decide), hkids]; rfl
    rw [e]
    exact nd_Return0 cb lo fs fv seen w h _ l
  · rw [walk_plain (by rw [hop]; decide) (by rw [hop]; decide), look_plain (by rw [hop]; decide) (by rw [hop]; decide) (by rw [hop]; decide), hkids]
    rw [hkids] at hwt hdk
    simp only [List.map_cons, List.map_nil, List.sum_cons, List.sum_nil] at hwt
    exact nd_Return cb lo fs fv d IH seen w h _ v1 a1 (hps _ (by simp)).one' (hdk a1 (by simp)) (by omega)
  · rw [walk_plain (by rw [hop]; decide) (by rw [hop]; decide), look_plain (by rw [hop]; decide) (by rw [hop]; decide) (by rw [hop]; decide), hkids]
    rw [hkids] at hwt hdk
    simp only [List.map_cons, List.map_nil, List.sum_cons, List.sum_nil] at hwt
    exact nd_Print cb lo fs fv d IH seen w h _ v1 a1 (hps _ (by simp)).one' (hdk a1 (by simp)) (by omega)
  · rw [walk_plain (by rw [hop]; decide) (by rw [hop]; decide), look_plain (by rw [hop]; decide) (by rw [hop]; decide) (by rw [hop]; decide), hkids]
    rw [hkids] at hwt hdk
    simp only [List.map_cons, List.map_nil, List.sum_cons, List.sum_nil] at hwt
    have hdc := hdk c (by simp)
    cases d with
    | zero => exact hdc.elim
    | succ e =>
      show Calls _ _ _ _ (OutC cb lo fs fv w (Hs.walkL fs false (e + 1) c ⟨seen, 0, 0⟩))
      rw [Hs.wt] at hwt
      rw [walk_plain (by rw [hcop]; decide) (by rw [hcop]; decide), look_call hcop]
      exact nd_Call cb lo fs fv hfl hfk e (nodes_any cb lo fs fv e (IHs e (by omega))) c sv seen w h (hps ⟨sv, c.kids, false⟩ (by simp)).many hdc (by omega)
theorem node_any (cb lo : Nat) (fs : List Hs.Ast) (fv : Value) (hfl : fs.length ≤ 90000) (hfk : ∀ f ∈ fs, f.kids.length ≤ 90000) (d : Nat) : NodeAt cb lo fs fv d := by
  induction d using Nat.strongRecOn with
  | _ d ih =>
    cases d with
    | zero => exact fun _ _ _ _ _ _ hd _ => hd.elim
    | succ d => exact node_step cb lo fs fv hfl hfk d fun e he => ih e (by omega)
end Go.Proofs.YtblbkfdhjfppkaaGreatDoor

/- Contracts of the program: names: functions. -/
namespace Go.Proofs.YtblbkfdhjfppkaaGreatDoor
open Go.RowKit
theorem NmC_get {ps : List Hs.Ast} (k : Nat) (hk : k < ps.length) : (NmC ps)[k * 2]? = some (.int .i64 ps[k].line) ∧ (NmC ps)[k * 2 + 1]? = some (.string (bs ps[k].text)) := by
  induction ps generalizing k with
  | nil => simp at hk
  | cons a ps ih =>
    cases k with
    | zero => exact ⟨rfl, rfl⟩
    | succ k =>
      have := ih k (by simpa using hk)
      have e : ∀ j, (NmC (a :: ps))[(k + 1) * 2 + j]? = (NmC ps)[k * 2 + j]? := fun j => by
        rw [NmC, show (k + 1) * 2 + j = k * 2 + j + 1 + 1 by omega]; rfl
      exact ⟨(e 0).trans this.1, (e 1).trans this.2⟩
theorem PNm.get {F : Nat → Prop} {w : World} {v : Value} {ps : List Hs.Ast} (h : PNm F w v ps) : (v = .slice none 0 0 ∧ ps = []) ∨ ∃ g cap, v = .slice (some ⟨g, 0, none⟩) ps.length cap ∧ F g ∧ g < w.heap.size ∧ ps.length ≤ cap ∧ ∀ k (hk : k < ps.length), w.cell? ⟨g, k * 2, none⟩ = some (.int .i64 ps[k].line) ∧ w.cell? ⟨g, k * 2 + 1, none⟩ = some (.string (bs ps[k].text)) := by
  obtain ⟨_, h | ⟨g, cap, cur, h1, h2, h3, h4, h5⟩⟩ := h
  · exact Or.inl h
  · refine Or.inr ⟨g, cap, h1, h2, lt_of_block h3, h4, fun k hk => ?_⟩
    obtain ⟨e1, e2⟩ := NmC_get k hk
    have e : ∀ j u, j < ps.length * 2 → (NmC ps)[j]? = some u → w.cell? ⟨g, j, none⟩ = some u := fun j u hj hu => by
      refine cell_of_block h3 ?_
      rw [← h5, List.getElem?_take, if_pos hj] at hu
      simpa using hu
    exact ⟨e _ _ (by omega) e1, e _ _ (by omega) e2⟩
theorem flat4_take {F : Nat → Prop} {w : World} : ∀ {us : List Value} {fs : List Hs.Ast} (i : Nat), All2 (FunR F w) us fs → i ≤ fs.length → (flat4 us).take (i * 4) = flat4 (us.take i)
  | [], [], i, _, h => by simp [flat4]
  | u :: us, f :: fs, 0, _, _ => by simp [flat4]
  | u :: us, f :: fs, i + 1, ⟨⟨pv, bv, ps, b, hv, _⟩, h⟩, hi => by
    subst hv
    have ih := flat4_take i h (by simpa using hi)
    rw [List.take_succ_cons, flat4, flat4, ← ih, List.take_append]
    have : (cells4 (Value.agg #[.int .i64 f.line, .string (bs f.text), pv, bv])).length = 4 := rfl
    rw [this, List.take_of_length_le (by rw [this]; omega)]
    congr 2; omega
  | [], _ :: _, _, h, _ => h.elim
  | _ :: _, [], _, h, _ => h.elim
theorem All2.take {R : Value → Hs.Ast → Prop} : ∀ {vs ks} (i : Nat), All2 R vs ks → All2 R (vs.take i) (ks.take i)
  | _, _, 0, _ => by simp [All2]
  | [], [], _ + 1, _ => trivial
  | _ :: _, _ :: _, i + 1, ⟨h1, h2⟩ => ⟨h1, All2.take i h2⟩
  | [], _ :: _, _, h => h.elim
  | _ :: _, [], _, h => h.elim
theorem FSl.take {F : Nat → Prop} {w : World} {g cap : Nat} {fs : List Hs.Ast} (h : FSl F w (.slice (some ⟨g, 0, none⟩) fs.length cap) fs) (i : Nat) (hi : i ≤ fs.length) : FSl F w (.slice (some ⟨g, 0, none⟩) i cap) (fs.take i) := by
  rcases h with ⟨h1, _⟩ | ⟨g', cap', cur, us, h1, h2, h3, h4, h5, h6⟩
  · cases h1
  · cases h1
    have hl : (fs.take i).length = i := by rw [List.length_take]; omega
    refine Or.inr ⟨g, cap, cur, us.take i, by rw [hl], h2, h3, by omega, ?_, h6.take i⟩
    rw [hl, ← flat4_take i h6 hi, ← h5, List.take_take]
    congr 1; omega
theorem CK.reset {cb lo : Nat} {fs : List Hs.Ast} {fv sv : Value} {w : World} {seen : List (List UInt8)} (h : CK cb lo fs fv w seen) (hblk : w.heap[cb]? = some (.cells #[fv, sv] 220 (0, 0))) :
    FB cb w (w.setCell ⟨cb, 1, none⟩ (.slice none 0 0)) ∧ CK cb lo fs fv (w.setCell ⟨cb, 1, none⟩ (.slice none 0 0)) [] := by
  have hlt := lt_of_block hblk
  have hb : Below cb w (w.setCell ⟨cb, 1, none⟩ (.slice none 0 0)) := (Below.refl _ _).setCell (by simp) _
  have hn : (w.setCell ⟨cb, 1, none⟩ (.slice none 0 0)).heap[cb]? = some (.cells #[fv, .slice none 0 0] 220 (0, 0)) := by rw [heap_setCell_at hblk]; rfl
  refine ⟨⟨hb, fun k hk hc hr => Below.heap_setCell _ _ _ _ (by show k ≠ cb; exact hc), fun k hk => ?_⟩, ⟨.slice none 0 0, hn, World.ownsRow_nil _ _ _ _⟩, h.fun_.keep fun k hk => hb.block k hk.2⟩
  rw [rowOf_at hn] at hk
  cases hk
theorem parL_taken (pre : List Hs.Ast) (x : List UInt8) : (parL pre x).isSome = (Hs.givenB x || !(Hs.funcL pre x).isNone) := by
  unfold parL Hs.givenB
  cases x == [108, 101, 110] <;> cases x == [114, 101, 97, 100] <;> cases Hs.funcL pre x <;> rfl
theorem part_stk (fs : List Hs.Ast) (d : Nat) (s : Hs.Chk) (k : Hs.Ast) : Stk s (Hs.partL fs d s k) := by
  unfold Hs.partL
  split
  · exact (Stk.declares s k).trans (Stk.seen _ _)
  · exact Stk.walk fs false d k s
theorem part_par (fs : List Hs.Ast) (d : Nat) (s : Hs.Chk) (k : Hs.Ast) (h : k.op = [112, 97, 114, 97, 109]) : Hs.partL fs d s k = { Hs.declaresL s k with seen := (Hs.declaresL s k).seen ++ [k.text] } := by
  unfold Hs.partL; rw [h]; rfl
theorem part_blk (fs : List Hs.Ast) (d : Nat) (s : Hs.Chk) (k : Hs.Ast) (h : k.op = [98, 108, 111, 99, 107]) : Hs.partL fs d s k = Hs.walkL fs false d k s := by
  unfold Hs.partL; rw [h]; rfl
def FnInv (cb lo : Nat) (fs : List Hs.Ast) (fv : Value) (d : Nat) (w : World) (b0 : Nat) (o : Obj) (ps : List Hs.Ast) (b : Hs.Ast) (c : Hs.Chk) (gk : Nat) (i : Value) (wr : World) : Prop :=
  ∃ k s, k + gk = ps.length ∧ i = .int .i64 (k : Nat) ∧ Loc cb w b0 o wr ∧ CK cb lo fs fv wr s ∧ c = (ps.drop k ++ [b]).foldl (Hs.partL fs d) ⟨s, 0, 0⟩ ∧ s.length = k
theorem does_found (fs : List Hs.Ast) (d : Nat) (seen : List (List UInt8)) (f : Hs.Ast) (first : Bool) (h : (Hs.givenB f.text || !first) = true) : Stk ⟨[], 6, f.line⟩ (Hs.doesL fs d ⟨seen, 0, 0⟩ f first) := by
  unfold Hs.doesL
  rw [h]
  exact Stk.fold (part_stk fs d) _ _
theorem does_go (fs : List Hs.Ast) (d : Nat) (seen : List (List UInt8)) (f : Hs.Ast) (first : Bool) (h : (Hs.givenB f.text || !first) = false) : Hs.doesL fs d ⟨seen, 0, 0⟩ f first = f.kids.foldl (Hs.partL fs d) ⟨[], 0, 0⟩ := by
  unfold Hs.doesL
  rw [h]
  rfl
set_option maxRecDepth 100000 in
set_option maxHeartbeats 4000000 in
theorem ckFun_any (cb lo : Nat) (fs : List Hs.Ast) (g cap : Nat) (hfl : fs.length ≤ 90000) (hfk : ∀ f ∈ fs, f.kids.length ≤ 90000) (d i : Nat) (hi : i < fs.length) (seen : List (List UInt8)) (w : World) (h : CK cb lo fs (FV (.slice (some ⟨g, 0, none⟩) fs.length cap)) w seen)
    (hd : ∀ k ∈ fs[i].kids, Hs.dp d k) (hw : fs[i].kids.length + (fs[i].kids.map (Hs.wt d)).sum ≤ 90000) :
    Calls Tryz.prog 137 #[.pointer (some ⟨cb, 0, none⟩), .slice (some ⟨g, 0, none⟩) fs.length cap, .int .i64 i] w (OutC cb lo fs (FV (.slice (some ⟨g, 0, none⟩) fs.length cap)) w (Hs.doesL fs d ⟨seen, 0, 0⟩ fs[i] (Hs.funcL (fs.take i) fs[i].text).isNone)) := by
  obtain ⟨_, hpe, hfs⟩ := h.fun_
  cases hpe
  rcases hfs.cells with ⟨h1, _⟩ | ⟨g', cap', h1, hgF, hgl, hcap, hc⟩
  · cases h1
  cases h1
  obtain ⟨pv, bv, ps, b, e0, e1, e2, e3, hkids, hps, hbo, hbk⟩ := hc i hi
  obtain ⟨px, pc, rfl⟩ := hps.slice
  obtain ⟨bx, bc, rfl⟩ := hbk.slice
  have HPT := mkHid (parL_taken (fs.take i) fs[i].text)
  have hfi := hfk fs[i] (List.getElem_mem hi)
  have HFT := mkHid (hfs.take i (by omega))
  generalize hff : fs[i] = f at *
  have HNT := mkHid (fun hx => does_found fs d seen f (Hs.funcL (fs.take i) f.text).isNone hx)
  have HNG := mkHid (fun hx => does_go fs d seen f (Hs.funcL (fs.take i) f.text).isNone hx)
  have hcb := h.lt
  obtain ⟨hl0, hk0⟩ := Loc.new h (.cells #[.int .i64 f.line, .string (bs f.text), .slice px ps.length pc, .slice bx b.kids.length bc] 215)
  obtain ⟨sx, sc, hblk, hsc, hscm, hown⟩ := h.cut
  obtain ⟨hlt, c0, c1, f1⟩ := cc_cells hblk
  have HL0 := mkHid hl0
  have HC0 := mkHid hk0
  have HPS := mkHid hps
  have HBK := mkHid hbk
  have HBO := mkHid hbo
  have HKD := mkHid hkids
  have HD := mkHid hd
  have HW := mkHid hw
  have HFK := mkHid hfk
  have hicap : i ≤ cap := by omega
  have HBLK : Hid (BlockAt cb lo fs (FV (.slice (some ⟨g, 0, none⟩) fs.length cap)) d) := by
    cases d with
    | zero => exact fun _ _ _ _ _ _ _ hd _ => hd.elim
    | succ e => exact block_at (nodes_any cb lo fs _ e (node_any cb lo fs _ hfl hfk e))
  have hpsl : ps.length ≤ 90000 := by rw [hkids] at hfi; simp at hfi; omega
  have HB0 : Hid (Below w.heap.size w (w.alloc (.cells #[.int .i64 f.line, .string (bs f.text), .slice px ps.length pc, .slice bx b.kids.length bc] 215))) := (Below.refl _ _).alloc (Nat.le_refl _) _
  have HPP := mkHid (pars_any (fs.take i) (Btw lo cb) (.slice (some ⟨g, 0, none⟩) i cap) f.text (w.alloc (.cells #[.int .i64 f.line, .string (bs f.text), .slice px ps.length pc, .slice bx b.kids.length bc] 215)).drew (by rw [List.length_take]; omega) (fun f hf => hfk f (List.mem_of_mem_take hf)) (HFT.out.keep fun k hk => by have := hk.2; exact Below.heap_alloc _ _ _ (by omega)))
  rw [HPT.out] at HPP
  generalize hpn : ((parL (List.take i fs) f.text).getD 0) = pn at HPP
  obtain ⟨tk, htk⟩ : ∃ tk, tk = (Hs.givenB f.text || !(Hs.funcL (fs.take i) f.text).isNone) := ⟨_, rfl⟩
  rw [← htk] at HPP
  have HTK := mkHid htk
  obtain ⟨cc, hcc⟩ : ∃ cc, cc = Hs.doesL fs d ⟨seen, 0, 0⟩ f (Hs.funcL (fs.take i) f.text).isNone := ⟨_, rfl⟩
  rw [← hcc]
  have HCC := mkHid hcc
  clear hpn htk hcc h hl0 hk0 hps hbk hbo hkids hd hw hfk hfs hc hblk hown HPT HFT hgF
  go_enter Tryz.func137, Tryz.ntmps137
  go_wp2_with fail
  go_cut [7, 8] (fun _ tv wc => tv = .bool tk ∧ Below w.heap.size w wc ∧ Loc cb w w.heap.size (.cells #[.int .i64 f.line, .string (bs f.text), .slice px ps.length pc, .slice bx b.kids.length bc] 215) wc ∧ CK cb lo fs (FV (.slice (some ⟨g, 0, none⟩) fs.length cap)) wc seen)
  case first =>
    go_region_law (go_simp; go_at_call 135; refine HPP.out.mono ?_; rintro e w1 ⟨rfl, hb1⟩; have HB1 := mkHid ((Below.refl (w.alloc (.cells #[.int .i64 f.line, .string (bs f.text), .slice px ps.length pc, .slice bx b.kids.length bc] 215)).heap.size (w.alloc (.cells #[.int .i64 f.line, .string (bs f.text), .slice px ps.length pc, .slice bx b.kids.length bc] 215))).drew.trans hb1); clear hb1)
    all_goals
      go_wp2_with fail
      go_meet
      case rel => exact ⟨rfl, HB0.out.trans (HB1.out.mono (by simp)), HL0.out.step (FB.of_below HB1.out (by simp; omega)), HC0.out.grow HB1.out⟩
  case rest =>
    obtain ⟨rfl, hbb, hL1, hC1⟩ := hcut
    clear c0 c1 f1 hlt e0 e1 e2 e3
    obtain ⟨sx1, sc1, hblk1, hsc1, hscm1, hown1⟩ := hC1.cut
    obtain ⟨hlt, c0, c1, f1⟩ := cc_cells hblk1
    have HL1 := mkHid hL1
    have HC1 := mkHid hC1
    have m0 := cell_of_block hL1.blk (i := 0) rfl
    have m1 := cell_of_block hL1.blk (i := 1) rfl
    have m2 := cell_of_block hL1.blk (i := 2) rfl
    have m3 := cell_of_block hL1.blk (i := 3) rfl
    have hz1 := lt_of_block hL1.blk
    have HRS := mkHid (hC1.reset hblk1)
    have HBB := mkHid hbb
    clear hL1 hC1 hblk1 hown1 hbb HPP
    cases tk
    rotate_left
    · go_wp2_with fail
      refine (line_any f.line _).mono ?_
      rintro e w2 ⟨rfl, hb2⟩
      have HB2 := mkHid (HBB.out.trans (hb2.mono HBB.out.size))
      clear hb2
      go_wp2_with (go_at_call 136; refine (pfail_any 6 f.line _).mono ?_; rintro e w3 ⟨rfl, hw⟩; obtain rfl := hw.symm)
      exact ⟨rfl, OutC.fault (c1 := ⟨[], 6, f.line⟩) (FB.of_below HB2.out hcb) (by simp) (by rw [HCC.out]; exact HNT.out HTK.out.symm)⟩
    have HI : Hid (FnInv cb lo fs (FV (.slice (some ⟨g, 0, none⟩) fs.length cap)) d w w.heap.size (.cells #[.int .i64 f.line, .string (bs f.text), .slice px ps.length pc, .slice bx b.kids.length bc] 215) ps b cc ps.length (.int .i64 (0 : Nat)) (wc.setCell ⟨cb, 1, none⟩ (.slice none 0 0))) :=
      ⟨0, [], by omega, rfl, HL1.out.step HRS.out.1, HRS.out.2, by rw [HCC.out, HNG.out HTK.out.symm, HKD.out]; rfl, rfl⟩
    have hcbb : ¬ cb = w.heap.size := by omega
    have hcbb2 : ¬ w.heap.size = cb := by omega
    obtain ⟨i0, hi0, hz0, hz1', hz2⟩ := info_parts infoStr
    go_wp2_with fail
    go_loopg [10, 37] ps.length (fun gk _ iv wr => FnInv cb lo fs (FV (.slice (some ⟨g, 0, none⟩) fs.length cap)) d w w.heap.size (.cells #[.int .i64 f.line, .string (bs f.text), .slice px ps.length pc, .slice bx b.kids.length bc] 215) ps b cc gk iv wr)
    case atStart => exact HI.out
    case round =>
      obtain ⟨k, s, hk, rfl, hLr, hCr, hcc, hsl⟩ := hrel
      have HSL := mkHid hsl
      have hsle : s.length ≤ 90000 := by omega
      clear hsl
      have HLR := mkHid hLr
      have HCR := mkHid hCr
      have HCS := mkHid hcc
      clear m0 m1 m2 m3 hz1 c0 c1 f1 hlt HI HRS
      have m0 := cell_of_block hLr.blk (i := 0) rfl
      have m1 := cell_of_block hLr.blk (i := 1) rfl
      have m2 := cell_of_block hLr.blk (i := 2) rfl
      have m3 := cell_of_block hLr.blk (i := 3) rfl
      have hz1 := lt_of_block hLr.blk
      have hcr := hCr.lt
      by_cases hlt : k < ps.length
      · obtain ⟨j, rfl⟩ : ∃ j, gk = j + 1 := ⟨gk - 1, by omega⟩
        rcases HPS.out.get with ⟨_, hnil⟩ | ⟨pg, pcap, hpe, hpF, hpl, hpc, hcell⟩
        · rw [hnil] at hlt; simp at hlt
        obtain ⟨hp1, hp2⟩ := hcell k hlt
        have hop := HPS.out.1 ps[k] (List.getElem_mem hlt)
        have hdk : ps.drop k = ps[k] :: ps.drop (k + 1) := (List.getElem_cons_drop hlt).symm
        have hcc' : cc = (ps.drop (k + 1) ++ [b]).foldl (Hs.partL fs d) (Hs.partL fs d ⟨s, 0, 0⟩ ps[k]) := by rw [hcc, hdk]; rfl
        generalize ps[k] = a at *
        cases hpe
        have r0 : wr.cell? ⟨pg, k * 2, none⟩ = some (.int .i64 a.line) := (hLr.fb.bel.cell (p := ⟨pg, k * 2, none⟩) hpF.2).trans hp1
        have r1 : wr.cell? ⟨pg, k * 2 + 1, none⟩ = some (.string (bs a.text)) := (hLr.fb.bel.cell (p := ⟨pg, k * 2 + 1, none⟩) hpF.2).trans hp2
        have hpgl : pg < wr.heap.size := Nat.lt_of_lt_of_le (Nat.lt_trans hpF.2 hcb) hLr.fb.bel.size
        obtain ⟨hl2, hc2⟩ := Loc.new hCr (.cells #[.int .i64 a.line, .string (bs a.text)] 211)
        have HL2 := mkHid hl2
        have HM := mkHid (mayDeclare_any cb lo fs _ (wr.alloc (.cells #[.int .i64 a.line, .string (bs a.text)] 211)) s hc2 (by omega) a.line a.text)
        have HDL : Hid (Hs.declaresL ⟨s, 0, 0⟩ a = if Hs.givenB a.text || s.contains a.text then Hs.Chk.found ⟨s, 0, 0⟩ a.line 6 else ⟨s, 0, 0⟩) := rfl
        rw [← HDL.out] at HM
        have HPP2 := mkHid (part_par fs d ⟨s, 0, 0⟩ a hop)
        have hds := declaresL_seen ⟨s, 0, 0⟩ a
        have HDS := mkHid hds
        have HCC2 := mkHid hcc'
        clear hcc hcc' hdk hp1 hp2 hcell hpc hpl HCS hds HDL hl2 hc2 hLr hCr hop
        generalize Hs.declaresL ⟨s, 0, 0⟩ a = c1 at *
        go_wp2_with fail
        refine HM.out.mono ?_
        rintro e w2 ⟨hb2, ⟨s2, rfl, rfl, hck2⟩ | ⟨hk2, rfl⟩⟩
        rotate_left
        · have HBF := mkHid (HLR.out.fb.trans (HL2.out.fb.trans hb2))
          have HK := mkHid hk2
          clear hb2 hk2
          go_wp2_with fail
          exact ⟨rfl, OutC.fault (c1 := c1) HBF.out HK.out (by rw [HCC2.out, HPP2.out]; exact (Stk.seen _ _).trans (Stk.fold (part_stk fs d) _ _))⟩
        obtain rfl : s2 = s := HDS.out
        have HL3 := mkHid (HL2.out.step hb2)
        have HLb := mkHid ((HLR.out.step HL2.out.fb).step hb2)
        obtain ⟨sx2, sc2, hblk2, hsc2, hscm2, hown2⟩ := hck2.cut
        obtain ⟨hlt2, c0, c1, f1⟩ := cc_cells hblk2
        have n0 := cell_of_block HL3.out.blk (i := 0) rfl
        have n1 := cell_of_block HL3.out.blk (i := 1) rfl
        have hy3 := lt_of_block HL3.out.blk
        clear m0 m1 m2 m3 hz1 r0 r1
        have m0 := cell_of_block HLb.out.blk (i := 0) rfl
        have m1 := cell_of_block HLb.out.blk (i := 1) rfl
        have m2 := cell_of_block HLb.out.blk (i := 2) rfl
        have m3 := cell_of_block HLb.out.blk (i := 3) rfl
        have hz1 := lt_of_block HLb.out.blk
        have HB2 := mkHid (show w2.drew.heap[cb]? = _ from hblk2)
        have HO2 := mkHid (show w2.drew.ownsRow _ _ _ _ _ _ from hown2)
        have HK2 := mkHid (show CK cb lo fs (FV (.slice (some ⟨g, 0, none⟩) fs.length cap)) w2.drew s2 from hck2.grow (Below.refl _ _).drew)
        have HFD := mkHid (FB.of_below (cb := cb) (Below.refl w2.heap.size w2).drew hlt2)
        clear hblk2 hown2 hck2 hb2 HM
        go_wp2_with fail
        go_region_law (refine step_append_lies _ (by rfl) _ _ 60 (by rfl) (cb + 1) 9 i0 _ 1 16 Tryz.underlying60 hi0 hz0 hz1' hz2 rfl (by decide) (.slice sx2 s2.length sc2) s2.length (strsV s2) (by rfl) (HO2.out.alloc _) ⟨w2.heap.size, 0, none⟩ 1 1 [.string (bs a.text)] (by rfl) (by rfl) (news_str w2.drew _) (one_str _) (by decide) (by unfold maxLen; omega) (by omega) (by simp; omega) (w2.heap.size + 1) (by simp) ?_; intro g5 cap5 w5 hown5 hgrow5 hat5 hg5; have hB5 := cc_grown HB2.out HO2.out hgrow5; obtain ⟨hz5, -, q1, fz5⟩ := cc_cells hB5; clear hB5)
        all_goals
          go_wp2_with fail
          go_roundg j
          case measure => omega
          case rel =>
            have hfin := HK2.out.add HB2.out HO2.out hown5 hgrow5 (hat5.imp_right fun e => by show w2.heap.size ≤ g5; omega)
            exact ⟨k + 1, s2 ++ [a.text], by omega, by go_num, (HLb.out.step HFD.out).step hfin.1, hfin.2, by rw [HCC2.out, HPP2.out], by have := HSL.out; simp; omega⟩
      · have hkl : k = ps.length := by omega
        have hwb : Hs.dp d b ∧ s.length + Hs.wt d b ≤ 90000 := by
          have h1 := HW.out
          have h2 := HD.out b (by rw [HKD.out]; simp)
          rw [HKD.out] at h1
          simp only [List.length_append, List.map_append, List.sum_append, List.map_cons, List.map_nil, List.sum_cons, List.sum_nil, List.length_cons, List.length_nil] at h1
          have := HSL.out
          exact ⟨h2, by omega⟩
        have HX := mkHid (HBLK.out (.slice bx b.kids.length bc) b s wr hCr HBO.out (HBK.out.below hLr.fb.bel) hwb.1 hwb.2)
        have HCC2 : Hid (cc = Hs.walkL fs false d b ⟨s, 0, 0⟩) := by
          show _ = _
          rw [hcc, List.drop_eq_nil_of_le (by omega)]
          exact part_blk fs d _ b HBO.out
        rw [← HCC2.out] at HX
        clear hLr hCr hcc HCS HCC2 hwb
        go_wp2_with fail
        refine HX.out.mono ?_
        rintro e w2 ⟨hb2, ⟨s2, hc2, rfl, hck2⟩ | ⟨hk2, rfl⟩⟩
        · have HB2 := mkHid (HLR.out.fb.trans hb2)
          have HK2 := mkHid hck2
          have HC2 := mkHid hc2
          clear hb2 hck2 hc2
          go_wp2_with fail
          go_end0
          exact OutC.done HB2.out HC2.out HK2.out
        · have HB2 := mkHid (HLR.out.fb.trans hb2)
          have HK2 := mkHid hk2
          clear hb2 hk2
          go_wp2_with fail
          exact ⟨rfl, OutC.fault (c1 := cc) HB2.out HK2.out (Stk.refl _)⟩
end Go.Proofs.YtblbkfdhjfppkaaGreatDoor

/- Contracts of the program: the names of a program. -/
namespace Go.Proofs.YtblbkfdhjfppkaaGreatDoor
open Go.RowKit
def mainOK (fs : List Hs.Ast) : Bool := parL fs [109, 97, 105, 110] == some 0
set_option maxRecDepth 100000 in
set_option maxHeartbeats 1000000 in
theorem ckMain_any (fs : List Hs.Ast) (F : Nat → Prop) (fv : Value) (w : World) (hfl : fs.length ≤ 90000) (hfk : ∀ f ∈ fs, f.kids.length ≤ 90000) (h : FSl F w fv fs) :
    Calls Tryz.prog 78 #[fv] w fun e w' => Below w.heap.size w w' ∧ ((mainOK fs = true ∧ e = .returned (.tuple #[])) ∨ (mainOK fs = false ∧ e = faultE 5 0)) := by
  have HP := mkHid (pars_any fs F fv [109, 97, 105, 110] w (by omega) hfk h)
  have HM : Hid (mainOK fs = (parL fs [109, 97, 105, 110] == some 0)) := rfl
  have HLE := mkHid (fun n hn => parL_le hfk (x := [109, 97, 105, 110]) (n := n) hn)
  clear h hfk
  rw [show bs [109, 97, 105, 110] = ⟨#[109, 97, 105, 110]⟩ from rfl] at HP
  obtain ⟨mo, hmo⟩ : ∃ mo, mo = mainOK fs := ⟨_, rfl⟩
  rw [← hmo] at HM ⊢
  clear hmo
  cases hp : parL fs [109, 97, 105, 110] with
  | none =>
    obtain rfl : mo = false := by rw [HM.out, hp]; rfl
    rw [hp] at HP
    simp only [Option.getD_none, Option.isSome_none] at HP
    clear hp HM HLE
    go_enter Tryz.func78, Tryz.ntmps78
    go_wp2_with fail
    refine HP.out.mono ?_
    rintro e w1 ⟨rfl, hb1⟩
    have HB := mkHid hb1
    clear hb1
    go_wp2_with (go_at_call 136; refine (pfail_any 5 0 _).mono ?_; rintro e w3 ⟨rfl, hw⟩; obtain rfl := hw.symm)
    exact ⟨rfl, HB.out, Or.inr ⟨trivial, rfl⟩⟩
  | some n =>
    have hn := HLE.out n hp
    rw [hp] at HP
    simp only [Option.getD_some, Option.isSome_some] at HP
    cases n with
    | zero =>
      obtain rfl : mo = true := by rw [HM.out, hp]; rfl
      clear hp HM HLE
      go_enter Tryz.func78, Tryz.ntmps78
      go_wp2_with fail
      refine HP.out.mono ?_
      rintro e w1 ⟨rfl, hb1⟩
      have HB := mkHid hb1
      clear hb1
      go_wp2_with fail
      go_end0
      exact ⟨HB.out, Or.inl ⟨trivial, rfl⟩⟩
    | succ n =>
      obtain rfl : mo = false := by rw [HM.out, hp]; rfl
      clear hp HM HLE
      have hpos : decide ((0 : Int) < ((n : Int) + 1)) = true := decide_eq_true (by omega)
      go_enter Tryz.func78, Tryz.ntmps78
      go_wp2_with fail
      refine HP.out.mono ?_
      rintro e w1 ⟨rfl, hb1⟩
      have HB := mkHid hb1
      clear hb1
      go_wp2_with (go_at_call 136; refine (pfail_any 5 0 _).mono ?_; rintro e w3 ⟨rfl, hw⟩; obtain rfl := hw.symm)
      exact ⟨rfl, HB.out, Or.inr ⟨trivial, rfl⟩⟩
theorem all_stk (fs : List Hs.Ast) (d : Nat) : ∀ (rest pre : List Hs.Ast) (s : Hs.Chk), Stk s (Hs.allL fs d pre rest s)
  | [], _, s => Stk.refl s
  | n :: rest, pre, s => by
    rw [Hs.allL]
    refine Stk.trans ?_ (all_stk fs d rest _ _)
    unfold Hs.doesL
    refine Stk.trans ?_ (Stk.fold (part_stk fs d) _ _)
    refine Stk.trans ?_ (Stk.seen _ _)
    split
    · exact Stk.found _ _ _
    · exact Stk.refl _
def AllInv (cb lo : Nat) (fs : List Hs.Ast) (fv : Value) (d : Nat) (w : World) (c : Hs.Chk) (gk : Nat) (i : Value) (wr : World) : Prop :=
  ∃ k s, k + gk = fs.length ∧ i = .int .i64 (k : Nat) ∧ Below cb w wr ∧ CK cb lo fs fv wr s ∧ c = Hs.allL fs d (fs.take k) (fs.drop k) ⟨s, 0, 0⟩
set_option maxRecDepth 100000 in
set_option maxHeartbeats 2000000 in
theorem ckNames_any (lo : Nat) (fs : List Hs.Ast) (fv : Value) (w : World) (d : Nat) (hfl : fs.length ≤ 90000) (hfk : ∀ f ∈ fs, f.kids.length ≤ 90000) (h : FSl (Btw lo w.heap.size) w fv fs) (hd : ∀ f ∈ fs, ∀ k ∈ f.kids, Hs.dp d k) (hw : ∀ f ∈ fs, f.kids.length + (f.kids.map (Hs.wt d)).sum ≤ 90000) :
    Calls Tryz.prog 79 #[fv] w fun e w' => Below w.heap.size w w' ∧ (((Hs.allL fs d [] fs ⟨[], 0, 0⟩).kind = 0 ∧ (Hs.allL fs d [] fs ⟨[], 0, 0⟩).line = 0 ∧ e = .returned (.tuple #[])) ∨ ((Hs.allL fs d [] fs ⟨[], 0, 0⟩).kind ≠ 0 ∧ e = faultE (Hs.allL fs d [] fs ⟨[], 0, 0⟩).kind (Hs.allL fs d [] fs ⟨[], 0, 0⟩).line)) := by
  obtain ⟨fx, fc, rfl⟩ : ∃ x c, fv = .slice x fs.length c := by
    rcases h.cells with ⟨h1, h2⟩ | ⟨g, cap, h1, _⟩
    · exact ⟨none, 0, by rw [h1, h2]; rfl⟩
    · exact ⟨_, _, h1⟩
  obtain ⟨c, hc⟩ : ∃ c, c = Hs.allL fs d [] fs ⟨[], 0, 0⟩ := ⟨_, rfl⟩
  have hb0 : Below w.heap.size w (w.alloc (.cells #[FV (.slice fx fs.length fc), .slice none 0 0] 220)) := (Below.refl _ _).alloc (Nat.le_refl _) _
  have HI : Hid (AllInv w.heap.size lo fs (FV (.slice fx fs.length fc)) d w c fs.length (.int .i64 (0 : Nat)) (w.alloc (.cells #[FV (.slice fx fs.length fc), .slice none 0 0] 220))) :=
    ⟨0, [], by omega, rfl, hb0, ⟨⟨.slice none 0 0, heap_first _ _ rfl _, World.ownsRow_nil _ _ _ _⟩, ⟨_, rfl, h.keep fun k hk => hb0.block k hk.2⟩⟩, by rw [hc]; rfl⟩
  rw [← hc]
  have HF := mkHid h
  have HFK := mkHid hfk
  have HD := mkHid hd
  have HW := mkHid hw
  clear h hb0 hc hfk hd hw
  go_enter Tryz.func79, Tryz.ntmps79
  go_wp2_with fail
  go_loopg [3, 9] fs.length (fun gk _ i wr => AllInv w.heap.size lo fs (FV (.slice fx fs.length fc)) d w c gk i wr)
  case atStart => exact HI.out
  case round =>
    obtain ⟨k, s, hk, rfl, hb, hck, hcc⟩ := hrel
    have HB := mkHid hb
    by_cases hlt : k < fs.length
    · obtain ⟨j, rfl⟩ : ∃ j, gk = j + 1 := ⟨gk - 1, by omega⟩
      obtain ⟨g, rfl⟩ : ∃ g, fx = some ⟨g, 0, none⟩ := by
        rcases HF.out.cells with ⟨h1, h2⟩ | ⟨g, cap, h1, _⟩
        · rw [h2] at hlt; simp at hlt
        · cases h1; exact ⟨g, rfl⟩
      have hm : fs[k] ∈ fs := List.getElem_mem hlt
      have HX := mkHid (ckFun_any w.heap.size lo fs g fc hfl HFK.out d k hlt s wr hck (HD.out _ hm) (HW.out _ hm))
      have hdk : fs.drop k = fs[k] :: fs.drop (k + 1) := (List.getElem_cons_drop hlt).symm
      have hcc' : c = Hs.allL fs d (fs.take (k + 1)) (fs.drop (k + 1)) (Hs.doesL fs d ⟨s, 0, 0⟩ fs[k] (Hs.funcL (fs.take k) fs[k].text).isNone) := by
        rw [hcc, hdk, Hs.allL, List.take_succ_eq_append_getElem hlt]
      have HCC := mkHid hcc'
      clear hb hck hcc hcc' hdk hm
      generalize Hs.doesL fs d ⟨s, 0, 0⟩ fs[k] (Hs.funcL (fs.take k) fs[k].text).isNone = c1 at *
      go_wp2_with fail
      refine HX.out.mono ?_
      rintro e w1 ⟨hb1, ⟨s1, rfl, rfl, hck1⟩ | ⟨hk1, rfl⟩⟩
      rotate_left
      · have HB1 := mkHid (HB.out.trans hb1.bel)
        have HK1 := mkHid hk1
        have HST : Hid (Stk c1 c) := by show Stk _ _; rw [HCC.out]; exact all_stk fs d _ _ _
        clear hb1 hk1
        go_wp2_with fail
        obtain ⟨e1, e2⟩ := HST.out HK1.out
        exact ⟨rfl, HB1.out, Or.inr ⟨by rw [e1]; exact HK1.out, by rw [e1, e2]⟩⟩
      have HI1 : Hid (AllInv w.heap.size lo fs (FV (.slice (some ⟨g, 0, none⟩) fs.length fc)) d w c j (.int .i64 ((k + 1 : Nat) : Int)) w1) := ⟨k + 1, s1, by omega, rfl, HB.out.trans hb1.bel, hck1, HCC.out⟩
      clear hb1 hck1 HX
      go_wp2_with fail
      go_roundg j
      case measure => omega
      case rel => exact HI1.out
    · have hcc' : c = ⟨s, 0, 0⟩ := by rw [hcc, List.drop_eq_nil_of_le (by omega)]; rfl
      have HCC := mkHid hcc'
      clear hb hck hcc hcc'
      go_wp2_with fail
      go_end0
      rw [HCC.out]
      exact ⟨HB.out, Or.inl ⟨rfl, rfl, rfl⟩⟩
end Go.Proofs.YtblbkfdhjfppkaaGreatDoor

/- Contracts of the program: strings and marks. -/
namespace Go.Proofs.YtblbkfdhjfppkaaGreatDoor
open Go.RowKit
abbrev ZTok (w : World) (b : Nat) : Prop := w.heap[b]? = some (.cells #[.int .i64 0, .string ⟨#[]⟩, .int .i64 0, .int .i64 0] 206 (0, 0))
set_option maxRecDepth 100000 in
set_option maxHeartbeats 2000000 in
theorem ttext_any (sb : Nat) (src : ByteArray) (n L : Nat) (w : World) (h : SC sb src n L w) (hs : src.size ≤ 2000000000) (hn : n < src.size) :
    Calls Tryz.prog 254 #[.pointer (some ⟨sb, 0, none⟩)] w (TokR sb src n L w (Hs.strL (src.data.toList.drop (n + 1)))) := by
  obtain ⟨m, hm⟩ : ∃ m, m = n + 1 := ⟨_, rfl⟩
  rw [← hm]
  obtain ⟨sp, hsp⟩ : ∃ sp, sp = Hs.spanL Hs.strP (src.data.toList.drop m) := ⟨_, rfl⟩
  have hle : sp ≤ src.size - m := by
    have := Hs.spanL_le Hs.strP (src.data.toList.drop m)
    rw [hsp]; simpa using this
  obtain ⟨k, hk⟩ : ∃ k, k = m + sp := ⟨_, rfl⟩
  have hsb := (SC.cells h).1
  have hrb : w.heap.size ≠ sb := by omega
  have h1 : SC sb src n L (w.alloc (.cells #[.int .i64 0, .string ⟨#[]⟩, .int .i64 0, .int .i64 0] 206)) := by unfold SC; rw [Below.heap_alloc _ _ _ hsb]; exact h
  have HZ : Hid (ZTok (w.alloc (.cells #[.int .i64 0, .string ⟨#[]⟩, .int .i64 0, .int .i64 0] 206)) w.heap.size) := heap_first _ _ rfl _
  have HT1 := mkHid (take_any sb src n L 1 (w.alloc (.cells #[.int .i64 0, .string ⟨#[]⟩, .int .i64 0, .int .i64 0] 206)) h1 hs (by omega))
  rw [← hm] at HT1
  have HSP := mkHid (fun w => span_any Hs.strP 301 (fun _ _ => rfl) inString_any (src.extract m src.size) w (by rw [rest_data]; omega))
  rw [ext_data, ← hsp] at HSP
  obtain ⟨tx, htx⟩ : ∃ tx, tx = (src.data.toList.drop m).take sp := ⟨_, rfl⟩
  have hlen : (bs tx).size = sp := by rw [bs_size, htx, List.length_take]; simp; omega
  obtain ⟨ok, hok⟩ : ∃ ok, ok = (decide ((src.data.toList.drop m)[sp]? = some 34) && decide (sp ≤ 100)) := ⟨_, rfl⟩
  have HW : Hid (Hs.strL (src.data.toList.drop m) = { sort := 115, text := tx, size := sp + 2, ok := ok }) := by
    show _ = _
    unfold Hs.strL
    rw [← hsp, ← htx, ← hok]
  rw [HW.out]
  have HTX := mkHid htx
  have HOK := mkHid hok
  have HF0 : Hid (Fr sb w (w.alloc (.cells #[.int .i64 0, .string ⟨#[]⟩, .int .i64 0, .int .i64 0] 206))) := (Fr.refl _ _).alloc _
  have HM := mkHid hm
  have HK := mkHid hk
  have hmle : m ≤ src.size := by omega
  have hkle : k ≤ src.size := by omega
  clear h h1 hsp htx HW hok hm hk
  generalize hrr : ({ sort := 115, text := tx, size := sp + 2, ok := ok } : Hs.Raw) = rr
  have HRR := mkHid hrr
  clear hrr
  go_enter Tryz.func254, Tryz.ntmps254
  go_wp2_with fail
  refine HT1.out.mono ?_
  rintro e w1 ⟨rfl, hs1, hf1⟩
  have HZ1 := mkHid (hf1.keepS HZ.out hrb)
  have HZ1d : Hid (ZTok w1.drew w.heap.size) := HZ1.out
  have HTK := mkHid (take_any sb src m L sp w1.drew hs1 hs (by omega))
  rw [← HK.out] at HTK
  rw [← HTX.out] at HTK
  have HF1 := mkHid (HF0.out.trans hf1)
  obtain ⟨h0, c0, c1, c2, f1, f2⟩ := hs1.cells
  clear hs1 hf1 HT1 HZ HF0
  go_wp2_with fail
  go_cut [3] (fun v wc => v = .string (bs tx) ∧ SC sb src (k) L wc ∧ Fr sb w wc ∧ ZTok wc w.heap.size)
  case first =>
    go_region_law (first | (go_simp; go_at_call 248; refine (HSP.out _).mono ?_; rintro e w2 ⟨rfl, hw⟩; obtain rfl := hw.symm) | (go_simp; go_at_call 296; refine HTK.out.mono ?_; rintro e w2 ⟨rfl, hs2, hf2⟩; have HS2 := mkHid hs2; have HF2 := mkHid (HF1.out.drew.trans hf2); have HZ2 := mkHid (hf2.keepS HZ1d.out hrb); clear hs2 hf2))
    all_goals
      go_wp2_with fail
      go_meet
      case rel => exact ⟨rfl, HS2.out, HF2.out, HZ2.out⟩
  case rest =>
    obtain ⟨rfl, hs2, hf2, hz2⟩ := hcut
    clear c0 c1 c2 f1 f2 h0
    obtain ⟨h0, c0, c1, c2, f1, f2⟩ := hs2.cells
    have HS2 := mkHid hs2
    have HF2 := mkHid hf2
    have HZ2 := mkHid hz2
    clear hs2 hf2 hz2 HTK HSP HZ1 HZ1d HF1
    have HFL := mkHid (fun q => sfail_any sb src (k) L (wc.drewN q) HS2.out)
    by_cases h100 : sp ≤ 100
    rotate_left
    · have e1 : decide ((100 : Int) < (sp : Int)) = true := decide_eq_true (by omega)
      have hok : ok = false := by rw [HOK.out, decide_eq_false h100, Bool.and_false]
      subst hok
      have hrr := HRR.out
      clear HRR HOK
      subst hrr
      go_wp2_with fail
      go_quiet (fail)
      go_wp2_with fail
      refine (HFL.out _).mono ?_
      rintro e w3 ⟨rfl, hw⟩
      obtain rfl := hw.symm
      go_wp2_with fail
      exact ⟨rfl, HF2.out.drewN _, Or.inr ⟨rfl, rfl⟩⟩
    have e1 : decide ((100 : Int) < (sp : Int)) = false := decide_eq_false (by omega)
    by_cases hend : k = src.size
    · have e2 : ((k : Int) == (src.size : Int)) = true := by simp; omega
      have hok : ok = false := by
        rw [HOK.out, List.getElem?_eq_none (by have := HK.out; simp; omega)]; simp
      subst hok
      have hrr := HRR.out
      clear HRR HOK
      subst hrr
      go_wp2_with fail
      go_quiet (fail)
      go_wp2_with fail
      refine (HFL.out _).mono ?_
      rintro e w3 ⟨rfl, hw⟩
      obtain rfl := hw.symm
      go_wp2_with fail
      exact ⟨rfl, HF2.out.drewN _, Or.inr ⟨rfl, rfl⟩⟩
    have hlt : k < src.size := by omega
    have e2 : ((k : Int) == (src.size : Int)) = false := by simp; omega
    have hb : (src[k].toNat : Int) ≤ 255 := byte_le _
    have hget : (src.data.toList.drop m)[sp]? = some src[k] := by
      have e := getElem?_drop src m sp (by rw [← HK.out]; exact hlt)
      rw [e]
      congr 1
      simp only [HK.out]
    by_cases h34 : src[k].toNat = 34
    · have hok : ok = true := by
        rw [HOK.out, hget, decide_eq_true h100, Bool.and_true]
        exact decide_eq_true (congrArg some (UInt8.toNat_inj.1 h34))
      subst hok
      have hrr := HRR.out
      clear HRR HOK hget
      subst hrr
      have h34' : ((src[k].toNat : Int) != 34) = false := by simp; omega
      have hsz : w.heap.size < wc.heap.size := lt_of_block HZ2.out
      have HT3 := mkHid (fun q => take_any sb src (k) L 1 (wc.drewN q) HS2.out hs (by omega))
      clear h34
      go_wp2_with fail
      go_quiet (fail)
      go_wp2_with fail
      refine (HT3.out _).mono ?_
      rintro e w3 ⟨rfl, hs3, hf3⟩
      have HZ3 := mkHid ((((Fr.refl sb wc).drewN _).trans hf3).keepS HZ2.out hrb)
      have HF3 := mkHid ((HF2.out.drewN _).trans hf3)
      have HS3 := mkHid hs3
      have z0 := cell_of_block HZ3.out (i := 0) rfl
      have z1 := cell_of_block HZ3.out (i := 1) rfl
      have z2 := cell_of_block HZ3.out (i := 2) rfl
      have z3 := cell_of_block HZ3.out (i := 3) rfl
      have y0 := frozen_of_block (i := 0) HZ3.out
      have y1 := frozen_of_block (i := 1) HZ3.out
      have y2 := frozen_of_block (i := 2) HZ3.out
      have y3 := frozen_of_block (i := 3) HZ3.out
      have hzz := lt_of_block HZ3.out
      clear c0 c1 c2 f1 f2 h0
      obtain ⟨h0, c0, c1, c2, f1, f2⟩ := hs3.cells
      clear hs3 hf3 HT3
      go_wp2_with fail
      refine bodyPost_ret (v := .agg #[.int .i64 3, .string (bs tx), .int .i64 0, .int .i64 L]) (by simp [results, Tryz.results254, go_sem, z0, z1, z2, z3]) rfl ?_
      have hfin := tok_end HF3.out HS3.out (Nat.le_refl _) hrb (.int .i64 3) (.string (bs tx)) (.int .i64 0) (.int .i64 L)
      exact ⟨hfin.1, Or.inl ⟨rfl, rfl, by rw [show n + (sp + 2) = k + 1 by have := HM.out; have := HK.out; omega]; exact hfin.2⟩⟩
    · have hok : ok = false := by
        rw [HOK.out, hget, decide_eq_false (fun e => h34 (by rw [Option.some.inj e]; rfl))]; rfl
      subst hok
      have hrr := HRR.out
      clear HRR HOK hget
      subst hrr
      have h34' : ((src[k].toNat : Int) != 34) = true := by simp; omega
      go_wp2_with fail
      go_quiet (fail)
      go_wp2_with fail
      refine (HFL.out _).mono ?_
      rintro e w3 ⟨rfl, hw⟩
      obtain rfl := hw.symm
      go_wp2_with fail
      exact ⟨rfl, HF2.out.drewN _, Or.inr ⟨rfl, rfl⟩⟩
end Go.Proofs.YtblbkfdhjfppkaaGreatDoor

/- Contracts of the program: marks. -/
namespace Go.Proofs.YtblbkfdhjfppkaaGreatDoor
open Go.RowKit
structure PTabs (w : World) : Prop where
  tab : ∃ t fr, w.heap[(6 : Nat)]? = some (.cells #[.string ⟨#[61, 61]⟩, .string ⟨#[33, 61]⟩, .string ⟨#[60, 61]⟩, .string ⟨#[38, 38]⟩, .string ⟨#[124, 124]⟩, .string ⟨#[40]⟩, .string ⟨#[41]⟩, .string ⟨#[123]⟩, .string ⟨#[125]⟩, .string ⟨#[91]⟩, .string ⟨#[93]⟩, .string ⟨#[44]⟩, .string ⟨#[59]⟩, .string ⟨#[61]⟩, .string ⟨#[60]⟩, .string ⟨#[43]⟩, .string ⟨#[45]⟩, .string ⟨#[42]⟩, .string ⟨#[47]⟩, .string ⟨#[37]⟩, .string ⟨#[33]⟩] t fr)
  big : 11 ≤ w.heap.size
theorem PTabs.fr {w w' : World} {sb : Nat} (h : PTabs w) (hf : Fr sb w w') (hs : 11 ≤ sb) : PTabs w' := by
  obtain ⟨t, fr, h1⟩ := h.tab
  have := h.big
  have := hf.size
  exact ⟨⟨t, fr, by rw [hf.block 6 (by omega) (by omega)]; exact h1⟩, by omega⟩
abbrev marksV : Value := .agg #[.string ⟨#[61, 61]⟩, .string ⟨#[33, 61]⟩, .string ⟨#[60, 61]⟩, .string ⟨#[38, 38]⟩, .string ⟨#[124, 124]⟩, .string ⟨#[40]⟩, .string ⟨#[41]⟩, .string ⟨#[123]⟩, .string ⟨#[125]⟩, .string ⟨#[91]⟩, .string ⟨#[93]⟩, .string ⟨#[44]⟩, .string ⟨#[59]⟩, .string ⟨#[61]⟩, .string ⟨#[60]⟩, .string ⟨#[43]⟩, .string ⟨#[45]⟩, .string ⟨#[42]⟩, .string ⟨#[47]⟩, .string ⟨#[37]⟩, .string ⟨#[33]⟩]
theorem marks_at0 (w : World) : (Instr.index 300 marksV (.int .i64 0)).run Tryz.prog w = .ok (.string ⟨#[61, 61]⟩) w := by kernel_rfl
theorem marks_at1 (w : World) : (Instr.index 300 marksV (.int .i64 1)).run Tryz.prog w = .ok (.string ⟨#[33, 61]⟩) w := by kernel_rfl
theorem marks_at2 (w : World) : (Instr.index 300 marksV (.int .i64 2)).run Tryz.prog w = .ok (.string ⟨#[60, 61]⟩) w := by kernel_rfl
theorem marks_at3 (w : World) : (Instr.index 300 marksV (.int .i64 3)).run Tryz.prog w = .ok (.string ⟨#[38, 38]⟩) w := by kernel_rfl
theorem marks_at4 (w : World) : (Instr.index 300 marksV (.int .i64 4)).run Tryz.prog w = .ok (.string ⟨#[124, 124]⟩) w := by kernel_rfl
theorem marks_at5 (w : World) : (Instr.index 300 marksV (.int .i64 5)).run Tryz.prog w = .ok (.string ⟨#[40]⟩) w := by kernel_rfl
theorem marks_at6 (w : World) : (Instr.index 300 marksV (.int .i64 6)).run Tryz.prog w = .ok (.string ⟨#[41]⟩) w := by kernel_rfl
theorem marks_at7 (w : World) : (Instr.index 300 marksV (.int .i64 7)).run Tryz.prog w = .ok (.string ⟨#[123]⟩) w := by kernel_rfl
theorem marks_at8 (w : World) : (Instr.index 300 marksV (.int .i64 8)).run Tryz.prog w = .ok (.string ⟨#[125]⟩) w := by kernel_rfl
theorem marks_at9 (w : World) : (Instr.index 300 marksV (.int .i64 9)).run Tryz.prog w = .ok (.string ⟨#[91]⟩) w := by kernel_rfl
theorem marks_at10 (w : World) : (Instr.index 300 marksV (.int .i64 10)).run Tryz.prog w = .ok (.string ⟨#[93]⟩) w := by kernel_rfl
theorem marks_at11 (w : World) : (Instr.index 300 marksV (.int .i64 11)).run Tryz.prog w = .ok (.string ⟨#[44]⟩) w := by kernel_rfl
theorem marks_at12 (w : World) : (Instr.index 300 marksV (.int .i64 12)).run Tryz.prog w = .ok (.string ⟨#[59]⟩) w := by kernel_rfl
theorem marks_at13 (w : World) : (Instr.index 300 marksV (.int .i64 13)).run Tryz.prog w = .ok (.string ⟨#[61]⟩) w := by kernel_rfl
theorem marks_at14 (w : World) : (Instr.index 300 marksV (.int .i64 14)).run Tryz.prog w = .ok (.string ⟨#[60]⟩) w := by kernel_rfl
theorem marks_at15 (w : World) : (Instr.index 300 marksV (.int .i64 15)).run Tryz.prog w = .ok (.string ⟨#[43]⟩) w := by kernel_rfl
theorem marks_at16 (w : World) : (Instr.index 300 marksV (.int .i64 16)).run Tryz.prog w = .ok (.string ⟨#[45]⟩) w := by kernel_rfl
theorem marks_at17 (w : World) : (Instr.index 300 marksV (.int .i64 17)).run Tryz.prog w = .ok (.string ⟨#[42]⟩) w := by kernel_rfl
theorem marks_at18 (w : World) : (Instr.index 300 marksV (.int .i64 18)).run Tryz.prog w = .ok (.string ⟨#[47]⟩) w := by kernel_rfl
theorem marks_at19 (w : World) : (Instr.index 300 marksV (.int .i64 19)).run Tryz.prog w = .ok (.string ⟨#[37]⟩) w := by kernel_rfl
theorem marks_at20 (w : World) : (Instr.index 300 marksV (.int .i64 20)).run Tryz.prog w = .ok (.string ⟨#[33]⟩) w := by kernel_rfl
theorem marks_at (k : Nat) (hk : k < 21) (w : World) : (Instr.index 300 marksV (.int .i64 k)).run Tryz.prog w = .ok (.string (bs (Hs.others[k]'(by simpa [Hs.others] using hk)))) w := by
  match k, hk with
  | 0, _ => exact marks_at0 w
  | 1, _ => exact marks_at1 w
  | 2, _ => exact marks_at2 w
  | 3, _ => exact marks_at3 w
  | 4, _ => exact marks_at4 w
  | 5, _ => exact marks_at5 w
  | 6, _ => exact marks_at6 w
  | 7, _ => exact marks_at7 w
  | 8, _ => exact marks_at8 w
  | 9, _ => exact marks_at9 w
  | 10, _ => exact marks_at10 w
  | 11, _ => exact marks_at11 w
  | 12, _ => exact marks_at12 w
  | 13, _ => exact marks_at13 w
  | 14, _ => exact marks_at14 w
  | 15, _ => exact marks_at15 w
  | 16, _ => exact marks_at16 w
  | 17, _ => exact marks_at17 w
  | 18, _ => exact marks_at18 w
  | 19, _ => exact marks_at19 w
  | 20, _ => exact marks_at20 w
  | k + 21, h => exact absurd h (by omega)
set_option maxRecDepth 100000 in
set_option maxHeartbeats 2000000 in
theorem tmark_any (sb : Nat) (src : ByteArray) (n L : Nat) (w : World) (h : SC sb src n L w) (hg : PTabs w) (hs : src.size ≤ 2000000000) (hn : n < src.size) (r : Hs.Raw) (hr : Hid (Hs.otherL (src.data.toList.drop n) = r)) :
    Calls Tryz.prog 255 #[.pointer (some ⟨sb, 0, none⟩)] w (TokR sb src n L w r) := by
  have hsb := (SC.cells h).1
  have hrb : w.heap.size ≠ sb := by omega
  have hbig := hg.big
  have hn2 : n ≤ src.size := by omega
  have h1 : SC sb src n L (w.alloc (.cells #[.int .i64 0, .string ⟨#[]⟩, .int .i64 0, .int .i64 0] 206)) := by unfold SC; rw [Below.heap_alloc _ _ _ hsb]; exact h
  have HZ : Hid (ZTok (w.alloc (.cells #[.int .i64 0, .string ⟨#[]⟩, .int .i64 0, .int .i64 0] 206)) w.heap.size) := heap_first _ _ rfl _
  have HF0 : Hid (Fr sb w (w.alloc (.cells #[.int .i64 0, .string ⟨#[]⟩, .int .i64 0, .int .i64 0] 206))) := (Fr.refl _ _).alloc _
  obtain ⟨tt, fr, htab⟩ := hg.tab
  have htab1 : (w.alloc (.cells #[.int .i64 0, .string ⟨#[]⟩, .int .i64 0, .int .i64 0] 206)).heap[(6 : Nat)]? = _ := heap_later w 6 (by omega) _ htab
  have hsz : (Tryz.prog.info? 300).map (·.size) = some (#[.string ⟨#[61, 61]⟩, .string ⟨#[33, 61]⟩, .string ⟨#[60, 61]⟩, .string ⟨#[38, 38]⟩, .string ⟨#[124, 124]⟩, .string ⟨#[40]⟩, .string ⟨#[41]⟩, .string ⟨#[123]⟩, .string ⟨#[125]⟩, .string ⟨#[91]⟩, .string ⟨#[93]⟩, .string ⟨#[44]⟩, .string ⟨#[59]⟩, .string ⟨#[61]⟩, .string ⟨#[60]⟩, .string ⟨#[43]⟩, .string ⟨#[45]⟩, .string ⟨#[42]⟩, .string ⟨#[47]⟩, .string ⟨#[37]⟩, .string ⟨#[33]⟩] : Array Value).size := by kernel_rfl
  have HIX : ∀ (k : Nat) (hk : k < 21) (w : World), (Instr.index 300 (.agg #[.string ⟨#[61, 61]⟩, .string ⟨#[33, 61]⟩, .string ⟨#[60, 61]⟩, .string ⟨#[38, 38]⟩, .string ⟨#[124, 124]⟩, .string ⟨#[40]⟩, .string ⟨#[41]⟩, .string ⟨#[123]⟩, .string ⟨#[125]⟩, .string ⟨#[91]⟩, .string ⟨#[93]⟩, .string ⟨#[44]⟩, .string ⟨#[59]⟩, .string ⟨#[61]⟩, .string ⟨#[60]⟩, .string ⟨#[43]⟩, .string ⟨#[45]⟩, .string ⟨#[42]⟩, .string ⟨#[47]⟩, .string ⟨#[37]⟩, .string ⟨#[33]⟩]) (.int .i64 k)).run Tryz.prog w = .ok (.string (bs (Hs.others[k]'(by simpa [Hs.others] using hk)))) w := marks_at
  generalize (#[.string ⟨#[61, 61]⟩, .string ⟨#[33, 61]⟩, .string ⟨#[60, 61]⟩, .string ⟨#[38, 38]⟩, .string ⟨#[124, 124]⟩, .string ⟨#[40]⟩, .string ⟨#[41]⟩, .string ⟨#[123]⟩, .string ⟨#[125]⟩, .string ⟨#[91]⟩, .string ⟨#[93]⟩, .string ⟨#[44]⟩, .string ⟨#[59]⟩, .string ⟨#[61]⟩, .string ⟨#[60]⟩, .string ⟨#[43]⟩, .string ⟨#[45]⟩, .string ⟨#[42]⟩, .string ⟨#[47]⟩, .string ⟨#[37]⟩, .string ⟨#[33]⟩] : Array Value) = cs at htab1 hsz HIX
  have HIXX := mkHid HIX
  have HTAB := mkHid htab1
  have HSZ := mkHid hsz
  clear htab htab1 hsz HIX
  have H1 := mkHid h1
  clear h h1 hg
  go_enter Tryz.func255, Tryz.ntmps255
  go_wp2_with (refine wpList_load_row rfl 300 (.global 6) rfl 6 (by rfl) tt cs fr (.array 21 9) HTAB.out Tryz.underlying300 rfl HSZ.out ?_)
  go_loopg [4, 6] 21 (fun gk _ i wr => ∃ k : Nat, k + gk = 21 ∧ i = .int .i64 k ∧ Hid (noneTo (src.data.toList.drop n) k) ∧ SC sb src n L wr ∧ Fr sb w wr ∧ ZTok wr w.heap.size)
  case atStart => exact ⟨0, by omega, rfl, fun o ho => (by simp at ho), H1.out, HF0.out, HZ.out⟩
  case round =>
    obtain ⟨k, hk, rfl, HN, hsr, hfr, hzr⟩ := hrel
    obtain ⟨h0, c0, c1, c2, f1, f2⟩ := hsr.cells
    have HSR := mkHid hsr
    have HFR := mkHid hfr
    have HZR := mkHid hzr
    clear hsr hfr hzr HZ HF0 H1
    by_cases hk2 : k < 21
    · obtain ⟨j, rfl⟩ : ∃ j, gk = j + 1 := ⟨gk - 1, by omega⟩
      obtain ⟨q, hq⟩ : ∃ q, q = Hs.others[k]'(by simpa [Hs.others] using hk2) := ⟨_, rfl⟩
      have hix : ∀ w, (Instr.index 300 (.agg cs) (.int .i64 k)).run Tryz.prog w = .ok (.string (bs q)) w := fun w => by rw [hq]; exact HIXX.out k hk2 w
      have hql : q.length ≤ 2 := by rw [hq]; exact others_short k hk2
      have hqs : (bs q).size = q.length := bs_size q
      have HQ : Hid (q = Hs.others[k]'(by simpa [Hs.others] using hk2)) := hq
      clear hq
      have HPX := mkHid (fun w => prefix_any (src.extract n src.size) (bs q) w (by rw [rest_data]; omega) (by rw [bs_size]; omega))
      rw [ext_data, bs_data] at HPX
      cases hst : Hs.startsB (src.data.toList.drop n) q
      · rw [hst] at HPX
        have HF : Hid (noneTo (src.data.toList.drop n) (k + 1)) := noneTo_succ hk2 HN.out (by rw [← HQ.out]; exact hst)
        clear HN HQ hst
        go_wp2_with fail
        go_quiet ((go_at_call 247; exact Calls.quiet_of_same (HPX.out _)))
        go_wp2_with fail
        go_roundg j
        case measure => omega
        case rel => exact ⟨k + 1, by omega, by go_num, HF, HSR.out, HFR.out.drewN _, HZR.out⟩
      · rw [hst] at HPX
        have HF : Hid (r = { sort := 112, text := q, size := q.length, ok := true }) := by rw [← hr.out]; exact otherL_hit hk2 HN.out q HQ.out hst
        have hpl : n + q.length ≤ src.size := by
          have := Hs.startsB_len hst
          simp at this; omega
        have HTXT : Hid ((src.data.toList.drop n).take q.length = q) := by
          show _ = _
          have h1 := hst
          unfold Hs.startsB at h1
          rw [isPrefixOf_take _ _ (Hs.startsB_len hst)] at h1
          simpa using h1
        have HTK := mkHid (fun q' => take_any sb src n L q.length (wr.drewN q') HSR.out hs hpl)
        rw [HTXT.out] at HTK
        have HZQ : Hid (∀ q', ZTok (wr.drewN q') w.heap.size) := fun _ => HZR.out
        have HZW : Hid (∀ q', w.heap.size < (wr.drewN q').heap.size) := fun _ => lt_of_block HZR.out
        clear HN HQ hst
        go_wp2_with fail
        go_quiet ((go_at_call 247; exact Calls.quiet_of_same (HPX.out _)))
        go_wp2_with fail
        go_region_law (go_simp; go_at_call 296; refine (HTK.out _).mono ?_; rintro e w2 ⟨rfl, hs2, hf2⟩; have HS2 := mkHid hs2; have HF2 := mkHid ((HFR.out.drewN _).trans hf2); have HZ2 := mkHid (hf2.keepS (HZQ.out _) hrb); have c2' := (SC.cells HS2.out).2.2.2.1; have z0 := cell_of_block HZ2.out (i := 0) rfl; have z1 := cell_of_block HZ2.out (i := 1) rfl; have z2 := cell_of_block HZ2.out (i := 2) rfl; have z3 := cell_of_block HZ2.out (i := 3) rfl; have y0 := frozen_of_block (i := 0) HZ2.out; have y1 := frozen_of_block (i := 1) HZ2.out; have y2 := frozen_of_block (i := 2) HZ2.out; have y3 := frozen_of_block (i := 3) HZ2.out; have hz2 := lt_of_block HZ2.out; clear hs2 hf2)
        all_goals
          go_wp2_with fail
          rw [HF.out]
          refine bodyPost_ret (v := .agg #[.int .i64 0, .string (bs q), .int .i64 0, .int .i64 L]) (by simp [results, Tryz.results255, go_sem, z0, z1, z2, z3]) rfl ?_
          have hfin := tok_end HF2.out HS2.out (Nat.le_refl _) hrb (.int .i64 0) (.string (bs q)) (.int .i64 0) (.int .i64 L)
          exact ⟨hfin.1, Or.inl ⟨rfl, rfl, hfin.2⟩⟩
    · obtain rfl : k = 21 := by omega
      have HF : Hid (r = { sort := 0, text := [], size := 0, ok := false }) := by rw [← hr.out]; exact otherL_none HN.out
      have HFL := mkHid (sfail_any sb src n L wr HSR.out)
      clear HN
      go_wp2_with fail
      refine HFL.out.mono ?_
      rintro e w3 ⟨rfl, hw⟩
      obtain rfl := hw.symm
      go_wp2_with fail
      rw [HF.out]
      exact ⟨rfl, HFR.out, Or.inr ⟨rfl, rfl⟩⟩
end Go.Proofs.YtblbkfdhjfppkaaGreatDoor

/- Plain facts on numbers that digits spell. -/
namespace Go.Proofs.YtblbkfdhjfppkaaGreatDoor
theorem digit_in {c : UInt8} (h : Hs.digitB c = true) : 48 ≤ c.toNat ∧ c.toNat ≤ 57 := by
  unfold Hs.digitB at h
  simpa using h
theorem whole_step (n : Nat) (c : UInt8) (r : List UInt8) (h : 48 ≤ c.toNat ∧ c.toNat ≤ 57) : Hs.wholeL n (c :: r) = if 9223372036854775807 < n * 10 + (c.toNat - 48) then none else Hs.wholeL (n * 10 + (c.toNat - 48)) r := by
  rw [Hs.wholeL]
  unfold Hs.maxI
  have e : ((9223372036854775807 - (c.toNat - 48)) / 10 < n) ↔ (9223372036854775807 < n * 10 + (c.toNat - 48)) := by omega
  rw [Nat.mul_comm 10 n]
  by_cases h1 : 9223372036854775807 < n * 10 + (c.toNat - 48)
  · rw [if_pos (e.2 h1), if_pos h1]
  · rw [if_neg (fun x => h1 (e.1 x)), if_neg h1]
theorem uint_big : ∀ (l : List UInt8) (acc : Nat), (∀ c ∈ l, Hs.digitB c = true) → 9223372036854775807 < acc → Lib.parseUintM (2 ^ 64 - 1) acc l = .range ∨ ∃ u, Lib.parseUintM (2 ^ 64 - 1) acc l = .ok u ∧ 9223372036854775808 ≤ u
  | [], acc, _, h => Or.inr ⟨acc, rfl, by omega⟩
  | c :: r, acc, hd, h => by
    have hc := digit_in (hd c (List.mem_cons_self ..))
    rw [Lib.parseUintM, if_pos hc]
    by_cases h1 : 1844674407370955162 ≤ acc
    · rw [if_pos h1]; exact Or.inl rfl
    · omega
theorem uint_whole : ∀ (l : List UInt8) (acc : Nat), (∀ c ∈ l, Hs.digitB c = true) → acc ≤ 9223372036854775807 →
    (∃ v, Hs.wholeL acc l = some v ∧ Lib.parseUintM (2 ^ 64 - 1) acc l = .ok v ∧ v ≤ 9223372036854775807) ∨ (Hs.wholeL acc l = none ∧ (Lib.parseUintM (2 ^ 64 - 1) acc l = .range ∨ ∃ u, Lib.parseUintM (2 ^ 64 - 1) acc l = .ok u ∧ 9223372036854775808 ≤ u))
  | [], acc, _, h => Or.inl ⟨acc, rfl, rfl, h⟩
  | c :: r, acc, hd, h => by
    have hc := digit_in (hd c (List.mem_cons_self ..))
    have hr : ∀ x ∈ r, Hs.digitB x = true := fun x hx => hd x (List.mem_cons_of_mem _ hx)
    rw [whole_step acc c r hc, Lib.parseUintM, if_pos hc]
    by_cases h1 : 9223372036854775807 < acc * 10 + (c.toNat - 48)
    · refine Or.inr ⟨if_pos h1, ?_⟩
      by_cases h2 : 1844674407370955162 ≤ acc
      · rw [if_pos h2]; exact Or.inl rfl
      · rw [if_neg h2]
        by_cases h3 : 2 ^ 64 - 1 < acc * 10 + (c.toNat - 48)
        · rw [if_pos h3]; exact Or.inl rfl
        · rw [if_neg h3]; exact uint_big r _ hr h1
    · rw [if_neg h1, if_neg (by omega), if_neg (by omega)]
      exact uint_whole r _ hr (by omega)
theorem int_whole (l : List UInt8) (hd : ∀ c ∈ l, Hs.digitB c = true) (hne : l ≠ []) : (∃ v, Hs.wholeL 0 l = some v ∧ Lib.parseIntB 64 l = .ok (v : Int)) ∨ (Hs.wholeL 0 l = none ∧ Lib.parseIntB 64 l = .range) := by
  cases l with
  | nil => exact absurd rfl hne
  | cons c r =>
    have hc := digit_in (hd c (List.mem_cons_self ..))
    have hs : ¬ (c.toNat = 43 ∨ c.toNat = 45) := by omega
    have hn : ¬ c.toNat = 45 := by omega
    unfold Lib.parseIntB
    simp only [if_neg hs]
    unfold Lib.parseUintB
    rw [if_neg (by simp)]
    rcases uint_whole (c :: r) 0 hd (by omega) with ⟨v, h1, h2, h3⟩ | ⟨h1, h2 | ⟨u, h2, h3⟩⟩
    · refine Or.inl ⟨v, h1, ?_⟩
      rw [h2]
      simp only [hn]
      rw [if_neg (by omega)]
      simp
    · exact Or.inr ⟨h1, by rw [h2]⟩
    · refine Or.inr ⟨h1, ?_⟩
      rw [h2]
      simp only [hn]
      rw [if_pos ⟨by simp, by omega⟩]
end Go.Proofs.YtblbkfdhjfppkaaGreatDoor

/- Contracts of the program: numbers; any token. -/
namespace Go.Proofs.YtblbkfdhjfppkaaGreatDoor
open Go.RowKit
structure NTabs (w : World) : Prop where
  er : ∃ te pe, w.cell? ⟨10, 0, none⟩ = some (.iface te pe)
  big : 11 ≤ w.heap.size
theorem NTabs.fr {w w' : World} {sb : Nat} (h : NTabs w) (hf : Fr sb w w') (hs : 11 ≤ sb) : NTabs w' := by
  obtain ⟨te, pe, h1⟩ := h.er
  have := h.big
  have := hf.size
  exact ⟨⟨te, pe, by rw [cell_keep (hf.block 10 (by omega) (by omega))]; exact h1⟩, by omega⟩
theorem parse_any (l : List UInt8) (hd : ∀ c ∈ l, Hs.digitB c = true) (hne : l ≠ []) (hl : l.length ≤ 100000) (w : World) (hg : NTabs w) :
    Calls Tryz.prog 300 #[.string (bs l), .int .i64 10, .int .i64 64] w fun e w' => Below w.heap.size w w' ∧ ((∃ v, Hs.wholeL 0 l = some v ∧ e = .returned (.tuple #[.int .i64 (v : Nat), .nilIface])) ∨ (Hs.wholeL 0 l = none ∧ ∃ x T p, e = .returned (.tuple #[.int .i64 x, .iface T p]))) := by
  have hsz : (bs l).size = l.length := bs_size l
  rcases int_whole l hd hne with ⟨v, h1, h2⟩ | ⟨h1, h2⟩
  · refine (Tryz.strconv_ParseInt_10_at64_ok (bs l) (by omega) v (by rw [bs_data]; exact h2) w).mono ?_
    rintro e w' ⟨rfl, hw⟩
    refine ⟨?_, Or.inl ⟨v, h1, rfl⟩⟩
    rcases hw with rfl | ⟨t, rfl⟩
    · exact Below.refl _ _
    · exact Lib.bytesWorld_below _ _ _
  · obtain ⟨te, pe, he⟩ := hg.er
    refine (Tryz.strconv_ParseInt_10_at64_range (bs l) (by omega) (by rw [bs_data]; exact h2) (.iface te pe) w he (Or.inr ⟨te, pe, rfl⟩)).mono ?_
    rintro e w' ⟨N, rfl, _, _, hb⟩
    exact ⟨hb, Or.inr ⟨h1, _, _, _, rfl⟩⟩
theorem word_digit (c : UInt8) : Hs.wordP false c = Hs.digitB c := by unfold Hs.wordP; simp
set_option maxRecDepth 100000 in
set_option maxHeartbeats 2000000 in
theorem tnumber_any (sb : Nat) (src : ByteArray) (n L : Nat) (w : World) (h : SC sb src n L w) (hg : NTabs w) (hsbN : 11 ≤ sb) (hs : src.size ≤ 100000) (hn : n < src.size) (hdn : Hs.digitB src[n] = true) :
    Calls Tryz.prog 253 #[.pointer (some ⟨sb, 0, none⟩)] w (TokR sb src n L w (Hs.wordL (src.data.toList.drop n) false)) := by
  obtain ⟨sp, hsp⟩ : ∃ sp, sp = Hs.spanL (Hs.wordP false) (src.data.toList.drop n) := ⟨_, rfl⟩
  have hle : sp ≤ src.size - n := by
    have := Hs.spanL_le (Hs.wordP false) (src.data.toList.drop n)
    rw [hsp]; simpa using this
  have hpos : 1 ≤ sp := by
    rw [hsp, drop_cons src n hn, spanL_yes _ _ _ (by rw [word_digit]; exact hdn)]; omega
  have hn2 : n ≤ src.size := by omega
  have hsb := (SC.cells h).1
  have hrb : w.heap.size ≠ sb := by omega
  have h1 : SC sb src n L (w.alloc (.cells #[.int .i64 0, .string ⟨#[]⟩, .int .i64 0, .int .i64 0] 206)) := by unfold SC; rw [Below.heap_alloc _ _ _ hsb]; exact h
  obtain ⟨h0, c0, c1, c2, f1, f2⟩ := h1.cells
  have HZD : Hid (ZTok (w.alloc (.cells #[.int .i64 0, .string ⟨#[]⟩, .int .i64 0, .int .i64 0] 206)).drew w.heap.size) := heap_first _ _ rfl _
  have HSP := mkHid (fun w => span_any (Hs.wordP false) 252 (fun _ _ => rfl) (fun c w => by rw [word_digit]; exact pdigit_any c w) (src.extract n src.size) w (by rw [rest_data]; omega))
  rw [ext_data, ← hsp] at HSP
  have HTK := mkHid (take_any sb src n L sp (w.alloc (.cells #[.int .i64 0, .string ⟨#[]⟩, .int .i64 0, .int .i64 0] 206)).drew h1 (by omega) (by omega))
  obtain ⟨tx, htx⟩ : ∃ tx, tx = (src.data.toList.drop n).take sp := ⟨_, rfl⟩
  rw [← htx] at HTK
  have hlen : tx.length = sp := by rw [htx, List.length_take]; simp; omega
  have HPI := mkHid (fun W (hW : NTabs W) => parse_any tx (fun c hc => by
    rw [htx, hsp] at hc
    rw [← word_digit]
    exact spanL_all _ _ c hc) (fun e => by rw [e] at hlen; simp at hlen; omega) (by omega) W hW)
  have HW : Hid (Hs.wordL (src.data.toList.drop n) false = { sort := 48, text := tx, size := sp, ok := (Hs.wholeL 0 tx).isSome }) := by
    show _ = _
    unfold Hs.wordL
    rw [← hsp, ← htx]; rfl
  rw [HW.out]
  have HF0 : Hid (Fr sb w (w.alloc (.cells #[.int .i64 0, .string ⟨#[]⟩, .int .i64 0, .int .i64 0] 206))) := (Fr.refl _ _).alloc _
  have HG := mkHid hg
  have hbs : (bs tx).size = sp := by rw [bs_size]; exact hlen
  clear h h1 hsp htx HW hg hlen hdn
  obtain ⟨rr, hrr⟩ : ∃ rr : Hs.Raw, rr = { sort := 48, text := tx, size := sp, ok := (Hs.wholeL 0 tx).isSome } := ⟨_, rfl⟩
  rw [← hrr]
  have HRR := mkHid hrr
  clear hrr
  go_enter Tryz.func253, Tryz.ntmps253
  go_wp2_with fail
  go_cut [3] (fun v wc => v = .string (bs tx) ∧ SC sb src (n + sp) L wc ∧ Fr sb w wc ∧ ZTok wc w.heap.size)
  case first =>
    go_region_law (first | (go_simp; go_at_call 248; refine (HSP.out _).mono ?_; rintro e w1 ⟨rfl, hw⟩; obtain rfl := hw.symm) | (go_simp; go_at_call 296; refine HTK.out.mono ?_; rintro e w2 ⟨rfl, hs2, hf2⟩; have HS2 := mkHid hs2; have HF2 := mkHid (HF0.out.drew.trans hf2); have HZ2 := mkHid (hf2.keepS HZD.out hrb); clear hs2 hf2))
    all_goals
      go_wp2_with fail
      go_meet
      case rel => exact ⟨rfl, HS2.out, HF2.out, HZ2.out⟩
  case rest =>
    obtain ⟨rfl, hs2, hf2, hz2⟩ := hcut
    have HS2 := mkHid hs2
    have HF2 := mkHid hf2
    have HZ2 := mkHid hz2
    have HPC := mkHid (HPI.out wc (HG.out.fr hf2 hsbN))
    clear c0 c1 c2 f1 f2 h0 hs2 hf2 hz2 HTK HSP HZD HPI
    go_wp2_with fail
    refine HPC.out.mono ?_
    rintro e w3 ⟨hb3, ⟨v, hv, rfl⟩ | ⟨hv, x, T, p, rfl⟩⟩
    · have HS3 : Hid (SC sb src (n + sp) L w3) := (hb3.block sb (lt_of_block HS2.out)).trans HS2.out
      have HZ3 : Hid (ZTok w3 w.heap.size) := (hb3.block _ (lt_of_block HZ2.out)).trans HZ2.out
      have HF3 := mkHid (HF2.out.trans (Fr.below hb3))
      obtain ⟨h0, c0, c1, c2, f1, f2⟩ := HS3.out.cells
      have z0 := cell_of_block HZ3.out (i := 0) rfl
      have z1 := cell_of_block HZ3.out (i := 1) rfl
      have z2 := cell_of_block HZ3.out (i := 2) rfl
      have z3 := cell_of_block HZ3.out (i := 3) rfl
      have y0 := frozen_of_block (i := 0) HZ3.out
      have y1 := frozen_of_block (i := 1) HZ3.out
      have y2 := frozen_of_block (i := 2) HZ3.out
      have y3 := frozen_of_block (i := 3) HZ3.out
      have hzz := lt_of_block HZ3.out
      have HV := mkHid hv
      clear hb3 hv HPC
      go_wp2_with fail
      rw [HRR.out]
      refine bodyPost_ret (v := .agg #[.int .i64 2, .string (bs tx), .int .i64 v, .int .i64 L]) (by simp [results, Tryz.results253, go_sem, z0, z1, z2, z3]) rfl ?_
      have hfin := tok_end HF3.out HS3.out (Nat.le_refl _) hrb (.int .i64 2) (.string (bs tx)) (.int .i64 v) (.int .i64 L)
      refine ⟨hfin.1, Or.inl ⟨by show (Hs.wholeL 0 tx).isSome = true; rw [HV.out]; rfl, ?_, hfin.2⟩⟩
      show _ = Ending.returned (.agg #[.int .i64 2, .string (bs tx), .int .i64 (pval ⟨48, tx, L⟩), .int .i64 L])
      have e : pval ⟨48, tx, L⟩ = v := by unfold pval; rw [if_pos rfl, HV.out]; rfl
      rw [e]
    · have HS3 : Hid (SC sb src (n + sp) L w3) := (hb3.block sb (lt_of_block HS2.out)).trans HS2.out
      have HF3 := mkHid (HF2.out.trans (Fr.below hb3))
      have HFL := mkHid (sfail_any sb src (n + sp) L w3 HS3.out)
      have HV := mkHid hv
      clear hb3 hv HPC
      go_wp2_with fail
      refine HFL.out.mono ?_
      rintro e w4 ⟨rfl, hw⟩
      obtain rfl := hw.symm
      go_wp2_with fail
      rw [HRR.out]
      exact ⟨rfl, HF3.out, Or.inr ⟨by show (Hs.wholeL 0 tx).isSome = false; rw [HV.out]; rfl, rfl⟩⟩
end Go.Proofs.YtblbkfdhjfppkaaGreatDoor
