/- Contracts of the document's answer: names: declarations, functions by name. -/
import Derived.Test.YtjdbaeeanifleaaGreatDoorPart03
import Derived.Test.YtjdbaeeanifleaaGreatDoorPart00
import Derived.Deep.CutBlock
namespace Go.Proofs.YtjdbaeeanifleaaGreatDoor
open Go.RowKit

/-- A node's cells. -/
theorem RepD.cells {d : Nat} {F : Nat → Prop} {w : World} {v : Value} {a : Hs.Ast} (h : RepD d F w v a) :
    ∃ d' b kv, d = d' + 1 ∧ v = .pointer (some ⟨b, 0, none⟩) ∧ F b ∧ b < w.heap.size ∧ w.cell? ⟨b, 0, none⟩ = some (.string (bs a.op)) ∧ w.cell? ⟨b, 1, none⟩ = some (.int .i64 a.line) ∧ w.cell? ⟨b, 2, none⟩ = some (.string (bs a.text)) ∧ w.cell? ⟨b, 3, none⟩ = some kv ∧ KidD (RepD d' F w) F w kv a.kids := by
  cases d with
  | zero => exact h.elim
  | succ d =>
    obtain ⟨b, kv, h1, h2, h3, h4⟩ := h
    exact ⟨d, b, kv, rfl, h1, h2, lt_of_block h3, cell_of_block h3 rfl, cell_of_block h3 rfl, cell_of_block h3 rfl, cell_of_block h3 rfl, h4⟩

theorem All2.get {R : Value → Hs.Ast → Prop} : ∀ {vs ks} (i : Nat) (hi : i < ks.length), All2 R vs ks → ∃ v, vs[i]? = some v ∧ R v ks[i]
  | v :: vs, a :: ks, 0, _, h => ⟨v, rfl, h.1⟩
  | v :: vs, a :: ks, i + 1, hi, h => by
    obtain ⟨u, h1, h2⟩ := All2.get (vs := vs) (ks := ks) i (by simpa using hi) h.2
    exact ⟨u, by simpa using h1, by simpa using h2⟩
  | [], _ :: _, _, _, h => h.elim
  | _ :: _, [], _, hi, _ => by simp at hi
  | [], [], _, hi, _ => by simp at hi

/-- A part, by its place. -/
theorem KidD.get {R : Value → Hs.Ast → Prop} {F : Nat → Prop} {w : World} {kv : Value} {ks : List Hs.Ast} (h : KidD R F w kv ks) :
    (kv = .slice none 0 0 ∧ ks = []) ∨ ∃ g cap, kv = .slice (some ⟨g, 0, none⟩) ks.length cap ∧ F g ∧ g < w.heap.size ∧ ks.length ≤ cap ∧ ∀ i (hi : i < ks.length), ∃ v, w.cell? ⟨g, i, none⟩ = some v ∧ R v ks[i] := by
  rcases h with h | ⟨g, cap, cur, vs, h1, h2, h3, h4, h5, h6⟩
  · exact Or.inl h
  · refine Or.inr ⟨g, cap, h1, h2, lt_of_block h3, h4, fun i hi => ?_⟩
    obtain ⟨v, h7, h8⟩ := All2.get i hi h6
    refine ⟨v, cell_of_block h3 ?_, h8⟩
    rw [← h5, List.getElem?_take, if_pos hi] at h7
    simpa using h7

theorem Chk_seen_found (s : Hs.Chk) (l k : Nat) : (s.found l k).seen = s.seen := by
  unfold Hs.Chk.found; split <;> rfl

theorem RepD.keepw {d : Nat} {F : Nat → Prop} {w w' : World} {v : Value} {a : Hs.Ast} (h : RepD d F w v a) (hw : w'.heap = w.heap) : RepD d F w' v a := h.keep fun k _ => by rw [hw]
theorem CkAt.keepw {cb lo : Nat} {fs : List Hs.Ast} {fv : Value} {alone : Bool} {w w' : World} {s : Hs.Chk} (h : CkAt cb lo fs fv alone w s) (hw : w'.heap = w.heap) : CkAt cb lo fs fv alone w' s := by
  obtain ⟨sv, h1, h2⟩ := h.blk
  exact ⟨⟨sv, by rw [hw]; exact h1, ownsRow_keep h2 fun k _ => by rw [hw]⟩, h.kids.keep fun k _ => by rw [hw]⟩

set_option maxRecDepth 100000 in
set_option maxHeartbeats 1000000 in
theorem declares_any (cb lo : Nat) (fs : List Hs.Ast) (fv : Value) (alone : Bool) (w : World) (s : Hs.Chk) (h : CkAt cb lo fs fv alone w s) (hs : s.seen.length ≤ 100000) (v : Value) (a : Hs.Ast) (d : Nat) (ha : RepD d (Btw lo cb) w v a) :
    Calls Tryz.prog 86 #[.pointer (some ⟨cb, 0, none⟩), v] w fun e w' => e = .returned (.tuple #[]) ∧ Below cb w w' ∧ CkAt cb lo fs fv alone w' (Hs.declaresL s a) := by
  obtain ⟨d', b, kv, rfl, rfl, hF, hbl, n0, n1, n2, n3, -⟩ := ha.cells
  obtain ⟨sv, hblk, hown⟩ := h.blk
  obtain ⟨hlt, c0, c1, c2, c3, c4, fz⟩ := ck_cells hblk
  have HG := mkHid (given_any a.text w)
  have HM := mkHid (among_own s.seen a.text sv (cb + 1) w.drew hs hown)
  have HF := mkHid (found_any cb lo fs fv alone w.drew s a.line 6 (h.keepw rfl))
  have HS : Hid (Hs.declaresL s a = if Hs.givenB a.text || s.seen.contains a.text then s.found a.line 6 else s) := rfl
  have H := mkHid h
  clear fz hblk hown h ha
  generalize Hs.givenB a.text = gb at *
  generalize s.seen.contains a.text = mb at *
  go_enter Tryz.func86, Tryz.ntmps86
  go_wp2_with fail
  refine HG.out.mono ?_
  rintro e w1 ⟨rfl, hw⟩
  obtain rfl := hw.symm
  go_wp2_with fail
  go_region_law (go_simp; go_at_call 140; refine HM.out.mono ?_; rintro e w1 ⟨rfl, hw⟩; obtain rfl := hw.symm)
  all_goals (cases gb <;> cases mb)
  all_goals first
    | (go_wp2_with fail
       go_end0
       exact ⟨rfl, (Below.refl _ _).drew, by rw [HS.out]; exact H.out.keepw rfl⟩)
    | (go_wp2_with fail
       refine HF.out.mono ?_
       rintro e w1 ⟨rfl, hb, hc⟩
       go_wp2_with fail
       go_end0
       exact ⟨rfl, (Below.refl _ _).drew.trans hb, by rw [HS.out]; exact hc⟩)

/-- A function that was found, or none. -/
def fnOf (d : Nat) (F : Nat → Prop) (w : World) (o : Option Hs.Ast) (v : Value) : Prop := match o with | none => v = .pointer none | some f => RepD d F w v f

set_option maxRecDepth 100000 in
set_option maxHeartbeats 1000000 in
theorem function_some (ks : List Hs.Ast) (x : List UInt8) (g cap : Nat) (F : Nat → Prop) (w : World) (hl : ks.length ≤ 100000) (_hg : g < w.heap.size) (d : Nat) (hc : ∀ i (hi : i < ks.length), ∃ v, w.cell? ⟨g, i, none⟩ = some v ∧ RepD d F w v ks[i]) :
    Calls Tryz.prog 46 #[.slice (some ⟨g, 0, none⟩) ks.length cap, .string (bs x)] w fun e w' => w' = w ∧ ∃ v, e = .returned v ∧ fnOf d F w (Hs.funcL ks x) v := by
  have HC := mkHid hc
  clear hc
  have hx : (bs x).toList = x := bs_toList x
  go_enter Tryz.func46, Tryz.ntmps46
  go_wp2_with fail
  go_loop [5] (fun i => ∃ k : Nat, k ≤ ks.length ∧ i = .int .i64 k ∧ Hid (∀ y ∈ ks.take k, y.text ≠ x)) (fun i => ks.length - (intOf i).toNat)
  case atStart => exact ⟨0, Nat.zero_le _, rfl, fun y hy => by simp at hy⟩
  case round =>
    obtain ⟨k, hk, rfl, HN⟩ := hrel
    by_cases hlt : k < ks.length
    · obtain ⟨v, hcell, hrep⟩ := HC.out k hlt
      obtain ⟨d', b, kv, rfl, rfl, hF, hbl, n0, n1, n2, n3, -⟩ := hrep.cells
      have HR := mkHid hrep
      have HT : Hid (∀ y ∈ ks.take (k + 1), y ∈ ks.take k ∨ y = ks[k]) := fun y hy => by
        rw [List.take_succ_eq_append_getElem hlt] at hy
        rcases List.mem_append.1 hy with h | h
        · exact Or.inl h
        · exact Or.inr (List.mem_singleton.1 h)
      have HD : Hid (ks = ks.take k ++ ks[k] :: ks.drop (k + 1)) := by
        show _ = _
        rw [List.getElem_cons_drop, List.take_append_drop]
      clear hrep
      generalize ks[k] = y at *
      have hy : (bs y.text).toList = y.text := bs_toList y.text
      cases hyx : (y.text == x)
      · have HF : Hid (∀ z ∈ ks.take (k + 1), z.text ≠ x) := fun z hz => by
          rcases HT.out z hz with h | h
          · exact HN.out z h
          · rw [h]; simpa using hyx
        clear HN HT HR HD
        go_wp2_with fail
        go_round
        case rel => exact ⟨k + 1, by omega, by go_num, HF⟩
        case measure => simp [intOf]; omega
      · have HF : Hid (Hs.funcL ks x = some y) := by
          show _ = _
          rw [HD.out]
          unfold Hs.funcL
          rw [List.find?_append, List.find?_eq_none.2 (by intro z hz; simpa using HN.out z hz)]
          simp [hyx]
        clear HN HT HD
        go_wp2_with fail
        go_ret
        exact ⟨rfl, _, rfl, by rw [HF.out]; exact HR.out⟩
    · have HF : Hid (Hs.funcL ks x = none) := by
        show _ = _
        unfold Hs.funcL
        rw [List.find?_eq_none]
        intro z hz
        simpa using HN.out z (by rw [List.take_of_length_le (by omega)]; exact hz)
      clear HN
      go_wp2_with fail
      go_ret
      exact ⟨rfl, _, rfl, by rw [HF.out]; rfl⟩

set_option maxRecDepth 100000 in
set_option maxHeartbeats 1000000 in
theorem function_none (x : List UInt8) (d : Nat) (F : Nat → Prop) (w : World) :
    Calls Tryz.prog 46 #[.slice none 0 0, .string (bs x)] w fun e w' => w' = w ∧ ∃ v, e = .returned v ∧ fnOf d F w (Hs.funcL [] x) v := by
  go_enter Tryz.func46, Tryz.ntmps46
  go_wp2_with fail
  go_loop [5] (fun i => i = .int .i64 0) (fun _ => 0)
  case atStart => rfl
  case round =>
    subst hrel
    go_wp2_with fail
    go_ret
    exact ⟨rfl, _, rfl, rfl⟩

/-- The first function of this name. -/
theorem function_any (ks : List Hs.Ast) (x : List UInt8) (lv : Value) (F : Nat → Prop) (w : World) (hl : ks.length ≤ 100000) (d : Nat) (h : KidD (RepD d F w) F w lv ks) :
    Calls Tryz.prog 46 #[lv, .string (bs x)] w fun e w' => w' = w ∧ ∃ v, e = .returned v ∧ fnOf d F w (Hs.funcL ks x) v := by
  rcases h.get with ⟨rfl, rfl⟩ | ⟨g, cap, rfl, -, hg, -, hc⟩
  · exact function_none x d F w
  · exact function_some ks x g cap F w hl hg d hc

end Go.Proofs.YtjdbaeeanifleaaGreatDoor

/- Contracts of the document's answer: names: calls. -/
namespace Go.Proofs.YtjdbaeeanifleaaGreatDoor
open Go.RowKit

theorem KidD.slice {R : Value → Hs.Ast → Prop} {F : Nat → Prop} {w : World} {kv : Value} {ks : List Hs.Ast} (h : KidD R F w kv ks) : ∃ x c, kv = .slice x ks.length c := by
  rcases h.get with ⟨rfl, rfl⟩ | ⟨g, cap, rfl, _⟩
  · exact ⟨none, 0, rfl⟩
  · exact ⟨_, cap, rfl⟩

theorem callsL_neg {fs : List Hs.Ast} {alone : Bool} {s : Hs.Chk} {a : Hs.Ast} {W : Int} (h : Hs.wantL fs alone a.text = W) (h0 : W < 0) : Hs.callsL fs alone s a = s.found a.line 6 := by
  unfold Hs.callsL; rw [h, if_pos h0]
theorem callsL_ne {fs : List Hs.Ast} {alone : Bool} {s : Hs.Chk} {a : Hs.Ast} {W : Int} (h : Hs.wantL fs alone a.text = W) (h0 : ¬ W < 0) (h1 : W ≠ (a.kids.length : Int)) : Hs.callsL fs alone s a = s.found a.line 7 := by
  unfold Hs.callsL; rw [h, if_neg h0, if_pos h1]
theorem callsL_eq {fs : List Hs.Ast} {alone : Bool} {s : Hs.Chk} {a : Hs.Ast} {W : Int} (h : Hs.wantL fs alone a.text = W) (h0 : ¬ W < 0) (h1 : W = (a.kids.length : Int)) : Hs.callsL fs alone s a = s := by
  unfold Hs.callsL; rw [h, if_neg h0, if_neg (by simpa using h1)]

set_option maxRecDepth 100000 in
set_option maxHeartbeats 1000000 in
theorem calls_any (cb lo : Nat) (fs : List Hs.Ast) (fv : Value) (alone : Bool) (w : World) (s : Hs.Chk) (h : CkAt cb lo fs fv alone w s) (hfl : fs.length ≤ 100000) (hfk : ∀ f ∈ fs, f.kids.length ≤ 100000) (v : Value) (a : Hs.Ast) (d : Nat) (ha : RepD d (Btw lo cb) w v a) (_hak : a.kids.length ≤ 100000) :
    Calls Tryz.prog 141 #[.pointer (some ⟨cb, 0, none⟩), v] w fun e w' => e = .returned (.tuple #[]) ∧ Below cb w w' ∧ CkAt cb lo fs fv alone w' (Hs.callsL fs alone s a) := by
  obtain ⟨d', b, kv, rfl, rfl, hF, hbl, n0, n1, n2, n3, hk⟩ := ha.cells
  obtain ⟨kx, kc, rfl⟩ := hk.slice
  obtain ⟨sv, hblk, hown⟩ := h.blk
  obtain ⟨hlt, c0, c1, c2, c3, c4, fz⟩ := ck_cells hblk
  obtain ⟨df, hdf⟩ := (h.keepw (w' := w.drew) rfl).kids.depth
  have HM := mkHid (function_any fs a.text fv (Btw lo cb) w.drew hfl df hdf)
  have HF := mkHid (fun k => found_any cb lo fs fv alone w.drew s a.line k (h.keepw rfl))
  have H := mkHid h
  have HFK := mkHid hfk
  have htx : (bs a.text).toList = a.text := bs_toList _
  clear fz hblk hown h ha hdf hk hfk
  go_enter Tryz.func141, Tryz.ntmps141
  go_wp2_with fail
  go_region_law (go_simp; go_at_call 46; refine HM.out.mono ?_; rintro e w1 ⟨hw, fp, rfl, hfp⟩; obtain rfl := hw.symm)
  all_goals
    cases e1 : (a.text == [108, 101, 110])
    · cases e2 : (a.text == [114, 101, 97, 100])
      · cases hfu : Hs.funcL fs a.text with
        | none =>
          rw [hfu] at hfp
          obtain rfl : fp = .pointer none := hfp
          have hW : Hs.wantL fs alone a.text = -1 := by unfold Hs.wantL; simp [e1, e2, hfu]
          have HS := mkHid (callsL_neg (s := s) hW (by decide))
          clear hW
          go_wp2_with fail
          refine (HF.out 6).mono ?_
          rintro e w1 ⟨rfl, hb, hc⟩
          go_wp2_with fail
          go_end0
          exact ⟨rfl, (Below.refl _ _).drew.trans hb, by rw [HS.out]; exact hc⟩
        | some f =>
          rw [hfu] at hfp
          have hff : f.kids.length ≤ 100000 := HFK.out f (List.mem_of_find?_eq_some hfu)
          have hW : Hs.wantL fs alone a.text = (f.kids.length : Int) - 1 := by unfold Hs.wantL; simp [e1, e2, hfu]
          obtain ⟨d2, b2, kv2, rfl, rfl, hF2, hbl2, m0, m1, m2, m3, hk2⟩ := hfp.cells
          obtain ⟨kx2, kc2, rfl⟩ := hk2.slice
          clear hfp hk2
          by_cases hneg : (f.kids.length : Int) - 1 < 0
          · have HS := mkHid (callsL_neg (s := s) hW hneg)
            clear hW
            go_wp2_with fail
            refine (HF.out 6).mono ?_
            rintro e w1 ⟨rfl, hb, hc⟩
            go_wp2_with fail
            go_end0
            exact ⟨rfl, (Below.refl _ _).drew.trans hb, by rw [HS.out]; exact hc⟩
          · by_cases heq : ((f.kids.length : Int) - 1 : Int) = (a.kids.length : Int)
            · have HS := mkHid (callsL_eq (s := s) hW (by first | decide | omega) heq)
              clear hW
              go_wp2_with fail
              go_end0
              exact ⟨rfl, (Below.refl _ _).drew, by rw [HS.out]; exact H.out.keepw rfl⟩
            · have HS := mkHid (callsL_ne (s := s) hW (by first | decide | omega) heq)
              clear hW
              go_wp2_with fail
              refine (HF.out 7).mono ?_
              rintro e w1 ⟨rfl, hb, hc⟩
              go_wp2_with fail
              go_end0
              exact ⟨rfl, (Below.refl _ _).drew.trans hb, by rw [HS.out]; exact hc⟩
      · cases alone
        · have hW : Hs.wantL fs false a.text = 0 := by unfold Hs.wantL; simp [e1, e2]
          by_cases heq : (0 : Int) = (a.kids.length : Int)
          · have HS := mkHid (callsL_eq (s := s) hW (by first | decide | omega) heq)
            clear hW
            go_wp2_with fail
            go_end0
            exact ⟨rfl, (Below.refl _ _).drew, by rw [HS.out]; exact H.out.keepw rfl⟩
          · have HS := mkHid (callsL_ne (s := s) hW (by first | decide | omega) heq)
            clear hW
            go_wp2_with fail
            refine (HF.out 7).mono ?_
            rintro e w1 ⟨rfl, hb, hc⟩
            go_wp2_with fail
            go_end0
            exact ⟨rfl, (Below.refl _ _).drew.trans hb, by rw [HS.out]; exact hc⟩
        · cases hfu : Hs.funcL fs a.text with
          | none =>
            rw [hfu] at hfp
            obtain rfl : fp = .pointer none := hfp
            have hW : Hs.wantL fs true a.text = -1 := by unfold Hs.wantL; simp [e1, e2, hfu]
            have HS := mkHid (callsL_neg (s := s) hW (by decide))
            clear hW
            go_wp2_with fail
            refine (HF.out 6).mono ?_
            rintro e w1 ⟨rfl, hb, hc⟩
            go_wp2_with fail
            go_end0
            exact ⟨rfl, (Below.refl _ _).drew.trans hb, by rw [HS.out]; exact hc⟩
          | some f =>
            rw [hfu] at hfp
            have hff : f.kids.length ≤ 100000 := HFK.out f (List.mem_of_find?_eq_some hfu)
            have hW : Hs.wantL fs true a.text = (f.kids.length : Int) - 1 := by unfold Hs.wantL; simp [e1, e2, hfu]
            obtain ⟨d2, b2, kv2, rfl, rfl, hF2, hbl2, m0, m1, m2, m3, hk2⟩ := hfp.cells
            obtain ⟨kx2, kc2, rfl⟩ := hk2.slice
            clear hfp hk2
            by_cases hneg : (f.kids.length : Int) - 1 < 0
            · have HS := mkHid (callsL_neg (s := s) hW hneg)
              clear hW
              go_wp2_with fail
              refine (HF.out 6).mono ?_
              rintro e w1 ⟨rfl, hb, hc⟩
              go_wp2_with fail
              go_end0
              exact ⟨rfl, (Below.refl _ _).drew.trans hb, by rw [HS.out]; exact hc⟩
            · by_cases heq : ((f.kids.length : Int) - 1 : Int) = (a.kids.length : Int)
              · have HS := mkHid (callsL_eq (s := s) hW (by first | decide | omega) heq)
                clear hW
                go_wp2_with fail
                go_end0
                exact ⟨rfl, (Below.refl _ _).drew, by rw [HS.out]; exact H.out.keepw rfl⟩
              · have HS := mkHid (callsL_ne (s := s) hW (by first | decide | omega) heq)
                clear hW
                go_wp2_with fail
                refine (HF.out 7).mono ?_
                rintro e w1 ⟨rfl, hb, hc⟩
                go_wp2_with fail
                go_end0
                exact ⟨rfl, (Below.refl _ _).drew.trans hb, by rw [HS.out]; exact hc⟩
    · have hW : Hs.wantL fs alone a.text = 1 := by unfold Hs.wantL; rw [e1]; rfl
      by_cases heq : (1 : Int) = (a.kids.length : Int)
      · have HS := mkHid (callsL_eq (s := s) hW (by first | decide | omega) heq)
        clear hW
        go_wp2_with fail
        go_end0
        exact ⟨rfl, (Below.refl _ _).drew, by rw [HS.out]; exact H.out.keepw rfl⟩
      · have HS := mkHid (callsL_ne (s := s) hW (by first | decide | omega) heq)
        clear hW
        go_wp2_with fail
        refine (HF.out 7).mono ?_
        rintro e w1 ⟨rfl, hb, hc⟩
        go_wp2_with fail
        go_end0
        exact ⟨rfl, (Below.refl _ _).drew.trans hb, by rw [HS.out]; exact hc⟩

end Go.Proofs.YtjdbaeeanifleaaGreatDoor

/- Contracts of the document's answer: names: trees. -/
namespace Go.Proofs.YtjdbaeeanifleaaGreatDoor
open Go.RowKit

theorem lookL_seen (fs : List Hs.Ast) (alone : Bool) (s : Hs.Chk) (n : Hs.Ast) : (Hs.lookL fs alone s n).seen = s.seen := by
  unfold Hs.lookL Hs.callsL
  repeat' split
  all_goals first | rfl | exact Chk_seen_found _ _ _
theorem declaresL_seen (s : Hs.Chk) (n : Hs.Ast) : (Hs.declaresL s n).seen = s.seen := by
  unfold Hs.declaresL
  split
  · exact Chk_seen_found _ _ _
  · rfl

/-- Names are added behind those that are there. -/
def Adds (s s' : Hs.Chk) (m : Nat) : Prop := ∃ t, s'.seen = s.seen ++ t ∧ t.length ≤ m
theorem Adds.refl (s : Hs.Chk) : Adds s s 0 := ⟨[], by simp, Nat.le_refl _⟩
theorem Adds.trans {a b c : Hs.Chk} {m n : Nat} (h : Adds a b m) (k : Adds b c n) : Adds a c (m + n) := by
  obtain ⟨t, h1, h2⟩ := h
  obtain ⟨u, k1, k2⟩ := k
  exact ⟨t ++ u, by rw [k1, h1, List.append_assoc], by simp; omega⟩
theorem Adds.le {a b : Hs.Chk} {m n : Nat} (h : Adds a b m) (hn : m ≤ n) : Adds a b n := by
  obtain ⟨t, h1, h2⟩ := h
  exact ⟨t, h1, by omega⟩
theorem Adds.of_eq {a b : Hs.Chk} (h : b.seen = a.seen) : Adds a b 0 := ⟨[], by simp [h], Nat.le_refl _⟩
theorem Adds.fold {f : Hs.Chk → Hs.Ast → Hs.Chk} {g : Hs.Ast → Nat} (h : ∀ s k, Adds s (f s k) (g k)) : ∀ (l : List Hs.Ast) (s : Hs.Chk), Adds s (l.foldl f s) (l.map g).sum
  | [], s => Adds.refl s
  | k :: l, s => by
    rw [List.foldl_cons, List.map_cons, List.sum_cons]
    exact (h s k).trans (Adds.fold h l _)

theorem walkL_adds (fs : List Hs.Ast) (alone : Bool) : ∀ (d : Nat) (n : Hs.Ast) (s : Hs.Chk), Adds s (Hs.walkL fs alone d n s) (Hs.wt d n)
  | 0, n, s => Adds.refl s
  | d + 1, n, s => by
    rw [Hs.walkL, Hs.wt]
    split
    · match hn : n.kids with
      | t :: v :: r =>
        simp only
        have h1 : Adds s (Hs.declaresL s t) 0 := Adds.of_eq (declaresL_seen s t)
        obtain ⟨u, h2, h3⟩ := h1.trans (walkL_adds fs alone d v (Hs.declaresL s t))
        exact ⟨u ++ [t.text], by simp [h2], by simp; omega⟩
      | [] => exact (Adds.refl s).le (by omega)
      | [_] => exact (Adds.refl s).le (by omega)
    · have h1 : Adds s (Hs.lookL fs alone s n) 0 := Adds.of_eq (lookL_seen fs alone s n)
      have h2 := h1.trans (Adds.fold (f := fun s k => Hs.walkL fs alone d k s) (g := Hs.wt d) (fun s k => walkL_adds fs alone d k s) n.kids (Hs.lookL fs alone s n))
      split
      · obtain ⟨u, h3, h4⟩ := h2
        exact ⟨[], by simp [h3], by simp⟩
      · exact h2.le (by omega)

/-- What a walk asks and gives, at a depth. -/
def WalkAt (cb lo : Nat) (fs : List Hs.Ast) (fv : Value) (alone : Bool) (d : Nat) : Prop :=
  ∀ (v : Value) (a : Hs.Ast) (s : Hs.Chk) (w : World), CkAt cb lo fs fv alone w s → RepD d (Btw lo cb) w v a → Hs.wf d a → s.seen.length + Hs.wt d a ≤ 90000 →
    Calls Tryz.prog 87 #[.pointer (some ⟨cb, 0, none⟩), v] w fun e w' => e = .returned (.tuple #[]) ∧ Below cb w w' ∧ CkAt cb lo fs fv alone w' (Hs.walkL fs alone d a s)

theorem sum_mem_le {f : Hs.Ast → Nat} {k : Hs.Ast} : ∀ {l : List Hs.Ast}, k ∈ l → f k ≤ (l.map f).sum
  | [], h => by cases h
  | x :: l, h => by
    simp only [List.map_cons, List.sum_cons]
    rcases List.mem_cons.1 h with rfl | h
    · omega
    · have := sum_mem_le (f := f) h; omega

/-- An owned row of texts is cut short. -/
theorem strs_cut {w : World} {base : Nat} {v : Value} {l : List (List UInt8)} (h : w.ownsRow base 9 1 v l.length (strsV l)) (m : Nat) (hm : m ≤ l.length) :
    ∃ x c, v = .slice x l.length c ∧ l.length ≤ c ∧ c ≤ maxLen ∧ w.ownsRow base 9 1 (.slice x m c) m (strsV (l.take m)) := by
  have hl : (strsV (l.take m)).length = m * 1 := by simp [strsV]; omega
  rcases h.2 with ⟨rfl, h0⟩ | ⟨g, cap, cur, rfl, h2, h3, h4, h5, h6, h7⟩
  · refine ⟨none, 0, by rw [h0], by omega, by unfold maxLen; omega, hl, Or.inl ⟨?_, by omega⟩⟩
    rw [show m = 0 by omega]
  · refine ⟨_, cap, rfl, h4, h5, hl, Or.inr ⟨g, cap, cur, rfl, h2, h3, by omega, h5, h6, ?_⟩⟩
    have e : strsV (l.take m) = (strsV l).take m := by simp [strsV, List.map_take]
    rw [e, ← h7, List.take_take]
    congr 1; omega

set_option maxRecDepth 100000 in
set_option maxHeartbeats 2000000 in
theorem walk_rest (cb lo : Nat) (fs : List Hs.Ast) (fv : Value) (alone : Bool) (hfl : fs.length ≤ 90000) (hfk : ∀ f ∈ fs, f.kids.length ≤ 90000) (d : Nat) (IH : WalkAt cb lo fs fv alone d)
    (v : Value) (a : Hs.Ast) (s : Hs.Chk) (w : World) (h : CkAt cb lo fs fv alone w s) (ha : RepD (d + 1) (Btw lo cb) w v a) (hwf : Hs.wf (d + 1) a) (hwt : s.seen.length + Hs.wt (d + 1) a ≤ 90000) (hak : a.kids.length ≤ 90000) (hop : (a.op == [118, 97, 114]) = false) :
    Calls Tryz.prog 87 #[.pointer (some ⟨cb, 0, none⟩), v] w fun e w' => e = .returned (.tuple #[]) ∧ Below cb w w' ∧ CkAt cb lo fs fv alone w' (Hs.walkL fs alone (d + 1) a s) := by
  obtain ⟨d', b, kv, hd, rfl, hF, hbl, n0, n1, n2, n3, hk⟩ := ha.cells
  obtain rfl : d = d' := by omega
  obtain ⟨kx, kc, rfl⟩ := hk.slice
  obtain ⟨sv, hblk, hown⟩ := h.blk
  obtain ⟨hlt, c0, c1, c2, c3, c4, fz⟩ := ck_cells hblk
  obtain ⟨sx, sc, rfl, hsc, hscm, -⟩ := strs_cut hown _ (Nat.le_refl _)
  have htx : (bs a.op).toList = a.op := bs_toList _
  have H := mkHid h
  have HA := mkHid ha
  have HK := mkHid hk
  have HO := mkHid hown
  clear h ha hk fz hown
  go_enter Tryz.func87, Tryz.ntmps87
  go_upto_block 0 with fail
  go_cut [] (fun wc => Below cb w wc ∧ CkAt cb lo fs fv alone wc (Hs.lookL fs alone s a))
  case first =>
    cases e1 : (a.op == [115, 101, 116] || a.op == [110, 97, 109, 101])
    · obtain ⟨e1a, e1b⟩ := Bool.or_eq_false_iff.1 e1
      cases e2 : (a.op == [99, 97, 108, 108])
      · have HL : Hid (Hs.lookL fs alone s a = s) := by show _ = _; unfold Hs.lookL; rw [e1, e2]; rfl
        clear e1
        go_wp2_with fail
        go_meet
        case rel => exact ⟨Below.refl _ _, by rw [HL.out]; exact H.out⟩
      · have HL : Hid (Hs.lookL fs alone s a = Hs.callsL fs alone s a) := by show _ = _; unfold Hs.lookL; rw [e1, e2]; rfl
        have HC := mkHid (calls_any cb lo fs fv alone w s H.out (by omega) (fun f hf => Nat.le_trans (hfk f hf) (by omega)) _ a _ HA.out (by omega))
        clear e1
        go_wp2_with fail
        refine HC.out.mono ?_
        rintro e w1 ⟨rfl, hb, hc⟩
        go_wp2_with fail
        go_meet
        case rel => exact ⟨hb, by rw [HL.out]; exact hc⟩
    · have HL : Hid (Hs.lookL fs alone s a = if s.seen.contains a.text then s else s.found a.line 6) := by show _ = _; unfold Hs.lookL; rw [e1]; rfl
      have HM := mkHid (among_own s.seen a.text _ (cb + 1) w.drew (by omega) HO.out)
      have HF := mkHid (found_any cb lo fs fv alone w.drew s a.line 6 (H.out.keepw rfl))
      generalize s.seen.contains a.text = mb at *
      have e1' : ((a.op == [115, 101, 116]) = true ∧ (a.op == [110, 97, 109, 101]) = false) ∨ ((a.op == [115, 101, 116]) = false ∧ (a.op == [110, 97, 109, 101]) = true) := by
        cases e1a : (a.op == [115, 101, 116])
        · rw [e1a] at e1; exact Or.inr ⟨rfl, by simpa using e1⟩
        · refine Or.inl ⟨rfl, ?_⟩
          have : a.op = [115, 101, 116] := by simpa using e1a
          rw [this]; rfl
      clear e1
      rcases e1' with ⟨e1a, e1b⟩ | ⟨e1a, e1b⟩
      all_goals
        go_wp2_with fail
        go_region_law (go_simp; go_at_call 140; refine HM.out.mono ?_; rintro e w1 ⟨rfl, hw⟩; obtain rfl := hw.symm)
      all_goals (cases mb)
      all_goals first
        | (go_wp2_with fail
           go_meet
           case rel => exact ⟨(Below.refl _ _).drew, by rw [HL.out]; exact H.out.keepw rfl⟩)
        | (go_wp2_with fail
           refine HF.out.mono ?_
           rintro e w1 ⟨rfl, hb, hc⟩
           go_wp2_with fail
           go_meet
           case rel => exact ⟨(Below.refl _ _).drew.trans hb, by rw [HL.out]; exact hc⟩)
  case rest =>
    obtain ⟨hbc, hcc⟩ := hcut
    have HBC := mkHid hbc
    have HCC := mkHid hcc
    clear hbc hcc H HO
    go_wp2_with fail
    go_loopg [6] a.kids.length (fun gk i wr => ∃ k : Nat, k + gk = a.kids.length ∧ i = .int .i64 k ∧ Below cb w wr ∧ CkAt cb lo fs fv alone wr ((a.kids.take k).foldl (fun s k => Hs.walkL fs alone d k s) (Hs.lookL fs alone s a)))
    case atStart => exact ⟨0, by omega, rfl, HBC.out, HCC.out⟩
    case round =>
      obtain ⟨k, hkg, rfl, hbw, hck⟩ := hrel
      have hbb : wr.heap[b]? = w.heap[b]? := hbw.block b hF.2
      have q0 : wr.cell? ⟨b, 0, none⟩ = some (.string (bs a.op)) := (cell_keep hbb).trans n0
      have q3 : wr.cell? ⟨b, 3, none⟩ = some (.slice kx a.kids.length kc) := (cell_keep hbb).trans n3
      have hblr : b < wr.heap.size := Nat.lt_of_lt_of_le hbl hbw.size
      clear hbb n0 n1 n2 n3 c0 c1 c2 c3 c4
      by_cases hlt : k < a.kids.length
      · obtain ⟨j, rfl⟩ : ∃ j, gk = j + 1 := ⟨gk - 1, by omega⟩
        rcases HK.out.get with ⟨_, h0⟩ | ⟨g, cap, hkv, hgF, hgl, hcap, hget⟩
        · rw [h0] at hlt; simp at hlt
        obtain ⟨u, hu, hru⟩ := hget k hlt
        cases hkv
        have hgb : wr.heap[g]? = w.heap[g]? := hbw.block g hgF.2
        have r0 : wr.cell? ⟨g, k, none⟩ = some u := (cell_keep hgb).trans hu
        have hgr : g < wr.heap.size := Nat.lt_of_lt_of_le hgl hbw.size
        have hfold : (a.kids.take (k + 1)).foldl (fun s k => Hs.walkL fs alone d k s) (Hs.lookL fs alone s a) = Hs.walkL fs alone d a.kids[k] ((a.kids.take k).foldl (fun s k => Hs.walkL fs alone d k s) (Hs.lookL fs alone s a)) := by
          rw [List.take_succ_eq_append_getElem hlt, List.foldl_append]; rfl
        have hsum : ((a.kids.take k).map (Hs.wt d)).sum + Hs.wt d a.kids[k] ≤ (a.kids.map (Hs.wt d)).sum := by
          have e : a.kids = a.kids.take k ++ a.kids[k] :: a.kids.drop (k + 1) := by rw [List.getElem_cons_drop, List.take_append_drop]
          have e2 : (a.kids.map (Hs.wt d)).sum = ((a.kids.take k ++ a.kids[k] :: a.kids.drop (k + 1)).map (Hs.wt d)).sum := by rw [← e]
          rw [e2, List.map_append, List.sum_append, List.map_cons, List.sum_cons]
          omega
        have hadd := Adds.fold (f := fun s k => Hs.walkL fs alone d k s) (g := Hs.wt d) (fun s k => walkL_adds fs alone d k s) (a.kids.take k) (Hs.lookL fs alone s a)
        have hlen : ((a.kids.take k).foldl (fun s k => Hs.walkL fs alone d k s) (Hs.lookL fs alone s a)).seen.length + Hs.wt d a.kids[k] ≤ 90000 := by
          obtain ⟨t, h1, h2⟩ := hadd
          rw [h1, lookL_seen]
          rw [Hs.wt] at hwt
          simp; omega
        have HC := mkHid (IH u a.kids[k] _ wr hck (hru.keep fun k hk => hbw.block k hk.2) (hwf.2 _ (List.getElem_mem hlt)) hlen)
        have HFO := mkHid hfold
        have HBW := mkHid hbw
        clear hfold hsum hadd hlen hck hbw hru hget hu hgb hfk IH
        go_wp2_with fail
        refine HC.out.mono ?_
        rintro e w1 ⟨rfl, hb1, hc1⟩
        go_wp2_with fail
        go_roundg j
        case measure => omega
        case rel => exact ⟨k + 1, by omega, by go_num, HBW.out.trans hb1, by rw [HFO.out]; exact hc1⟩
      · obtain rfl : k = a.kids.length := by omega
        rw [List.take_length] at hck
        obtain ⟨sv1, hblk1, hown1⟩ := hck.blk
        obtain ⟨hlt1, c0, c1, c2, c3, c4, fz⟩ := ck_cells hblk1
        have hadd : Adds s _ _ := (Adds.of_eq (lookL_seen fs alone s a)).trans (Adds.fold (f := fun s k => Hs.walkL fs alone d k s) (g := Hs.wt d) (fun s k => walkL_adds fs alone d k s) a.kids (Hs.lookL fs alone s a))
        have hpre : s.seen.length ≤ (a.kids.foldl (fun s k => Hs.walkL fs alone d k s) (Hs.lookL fs alone s a)).seen.length := by
          obtain ⟨t, h1, h2⟩ := hadd
          rw [h1]; simp
        have hS : Hs.walkL fs alone (d + 1) a s = if a.op == [98, 108, 111, 99, 107] then { a.kids.foldl (fun s k => Hs.walkL fs alone d k s) (Hs.lookL fs alone s a) with seen := (a.kids.foldl (fun s k => Hs.walkL fs alone d k s) (Hs.lookL fs alone s a)).seen.take s.seen.length } else a.kids.foldl (fun s k => Hs.walkL fs alone d k s) (Hs.lookL fs alone s a) := by
          rw [Hs.walkL, if_neg (by rw [hop]; simp)]
        have HS := mkHid hS
        have HBW := mkHid hbw
        have HCK := mkHid hck
        obtain ⟨sx1, sc1, rfl, hsc1, hscm1, hcut1⟩ := strs_cut hown1 _ hpre
        have HCUT := mkHid hcut1
        have HB1 := mkHid hblk1
        have f1 := fz 1
        clear hadd hS hbw hck hown1 hcut1 hblk1 fz hfk IH HK
        generalize a.kids.foldl (fun s k => Hs.walkL fs alone d k s) (Hs.lookL fs alone s a) = s1 at *
        cases eb : (a.op == [98, 108, 111, 99, 107])
        · rw [eb] at HS
          go_wp2_with fail
          go_end0
          exact ⟨rfl, HBW.out, by rw [HS.out]; exact HCK.out⟩
        · rw [eb] at HS
          unfold maxLen at hscm1
          go_wp2_with fail
          go_end0
          refine ⟨rfl, HBW.out.setCell (by simp) _, ?_⟩
          rw [HS.out, if_pos trivial]
          refine ⟨⟨.slice sx1 s.seen.length sc1, ?_, ?_⟩, HCK.out.kids.keep fun k hk => Below.heap_setCell _ _ _ _ (by have := hk.2; show k ≠ cb; omega)⟩
          · rw [heap_setCell_at HB1.out]; rfl
          · have el : (s1.seen.take s.seen.length).length = s.seen.length := by rw [List.length_take]; omega
            show World.ownsRow _ _ _ _ _ (s1.seen.take s.seen.length).length _
            rw [el]
            exact ownsRow_keep HCUT.out fun k hk => Below.heap_setCell _ _ _ _ (by have := own_block_ge HCUT.out k hk; show k ≠ cb; omega)

end Go.Proofs.YtjdbaeeanifleaaGreatDoor

/- Contracts of the document's answer: names: declarations. -/
namespace Go.Proofs.YtjdbaeeanifleaaGreatDoor
open Go.RowKit

theorem news_str (w : World) (x : List UInt8) : ∀ j u, ([.string (bs x)] : List Value)[j]? = some u → (w.alloc (.cells #[.string (bs x)] 9)).cell? ((⟨w.heap.size, 0, none⟩ : Addr).add j) = some u := by
  intro j u hj
  match j, hj with
  | 0, hj => simp at hj; subst hj; simp [Addr.add, go_sem]
  | j + 1, hj => simp at hj
theorem one_str (x : List UInt8) : ∀ u ∈ ([.string (bs x)] : List Value), u.oneCell' = true := by
  intro u hu; simp at hu; subst hu; rfl

/-- The checker's block behind an append to its names. -/
theorem ck_grown {cb : Nat} {w w5 : World} {o : Obj} {v0 v1 v2 v3 v4 v' : Value} {n : Nat} {vs : List Value} (hb : w.heap[cb]? = some (.cells #[v0, v1, v2, v3, v4] 94 (0, 0))) (hown : w.ownsRow (cb + 1) 9 1 v' n vs) (hg : (w.alloc o).grownBy w5 v'.ownBlock) :
    w5.heap[cb]? = some (.cells #[v0, v1, v2, v3, v4] 94 (0, 0)) := by
  have hlt := lt_of_block hb
  rw [hg.block cb (by simp; omega) (fun e => by have := own_block_ge hown cb e.symm; omega)]
  exact heap_later _ _ hlt _ hb

/-- One name more. -/
theorem CkAt.add {cb lo : Nat} {fs : List Hs.Ast} {fv : Value} {alone : Bool} {w w5 : World} {s : Hs.Chk} {sv : Value} {x : List UInt8} {o : Obj} {g cap : Nat} (h : CkAt cb lo fs fv alone w s) (hblk : w.heap[cb]? = some (.cells #[fv, sv, .bool alone, .int .i64 s.kind, .int .i64 s.line] 94 (0, 0)))
    (hown : w.ownsRow (cb + 1) 9 1 sv s.seen.length (strsV s.seen)) (hown5 : w5.ownsRow (cb + 1) 9 1 (.slice (some ⟨g, 0, none⟩) (s.seen.length + 1) cap) (s.seen.length + 1) (strsV s.seen ++ [.string (bs x)])) (hg : (w.alloc o).grownBy w5 sv.ownBlock) :
    Below cb w (w5.setCell ⟨cb, 1, none⟩ (.slice (some ⟨g, 0, none⟩) (s.seen.length + 1) cap)) ∧ CkAt cb lo fs fv alone (w5.setCell ⟨cb, 1, none⟩ (.slice (some ⟨g, 0, none⟩) (s.seen.length + 1) cap)) { s with seen := s.seen ++ [x] } := by
  have hlt := lt_of_block hblk
  have hB5 := ck_grown hblk hown hg
  have hbel : Below cb w w5 := ⟨hg.os.trans rfl, hg.tape.trans rfl, hg.output.trans rfl, Nat.le_trans (by simp) hg.size, fun k hk => by
    rw [hg.block k (by simp; omega) (fun e => by have := own_block_ge hown k e.symm; omega)]
    exact Below.heap_alloc _ _ _ (by omega)⟩
  have hb2 : Below cb w (w5.setCell ⟨cb, 1, none⟩ (.slice (some ⟨g, 0, none⟩) (s.seen.length + 1) cap)) := hbel.setCell (by simp) _
  refine ⟨hb2, ⟨.slice (some ⟨g, 0, none⟩) (s.seen.length + 1) cap, ?_, ?_⟩, h.kids.keep fun k hk => hb2.block k hk.2⟩
  · rw [heap_setCell_at hB5]; rfl
  · have e1 : (s.seen ++ [x]).length = s.seen.length + 1 := by simp
    have e2 : strsV (s.seen ++ [x]) = strsV s.seen ++ [.string (bs x)] := by simp [strsV]
    show World.ownsRow _ _ _ _ _ (s.seen ++ [x]).length (strsV (s.seen ++ [x]))
    rw [e1, e2]
    exact ownsRow_keep hown5 fun k hk => Below.heap_setCell _ _ _ _ (by have := own_block_ge hown5 k hk; show k ≠ cb; omega)

set_option maxRecDepth 100000 in
set_option maxHeartbeats 2000000 in
theorem walk_var (cb lo : Nat) (fs : List Hs.Ast) (fv : Value) (alone : Bool) (d : Nat) (IH : WalkAt cb lo fs fv alone d)
    (v : Value) (a : Hs.Ast) (s : Hs.Chk) (w : World) (h : CkAt cb lo fs fv alone w s) (ha : RepD (d + 1) (Btw lo cb) w v a) (hwf : Hs.wf (d + 1) a) (hwt : s.seen.length + Hs.wt (d + 1) a ≤ 90000) (hop : a.op = [118, 97, 114]) :
    Calls Tryz.prog 87 #[.pointer (some ⟨cb, 0, none⟩), v] w fun e w' => e = .returned (.tuple #[]) ∧ Below cb w w' ∧ CkAt cb lo fs fv alone w' (Hs.walkL fs alone (d + 1) a s) := by
  obtain ⟨d', b, kv, hd, rfl, hF, hbl, n0, n1, n2, n3, hk⟩ := ha.cells
  obtain rfl : d = d' := by omega
  have h2 : 2 ≤ a.kids.length := hwf.1 hop
  obtain ⟨t, u, r, hkids⟩ : ∃ t u r, a.kids = t :: u :: r := by
    match hn : a.kids with
    | [] => rw [hn] at h2; simp at h2
    | [_] => rw [hn] at h2; simp at h2
    | t :: u :: r => exact ⟨t, u, r, rfl⟩
  have hS : Hs.walkL fs alone (d + 1) a s = { Hs.walkL fs alone d u (Hs.declaresL s t) with seen := (Hs.walkL fs alone d u (Hs.declaresL s t)).seen ++ [t.text] } := by
    rw [Hs.walkL, if_pos (by rw [hop]; rfl), hkids]
  have hwu : Hs.wf d u := hwf.2 u (by rw [hkids]; simp)
  have hlen : (Hs.declaresL s t).seen.length + Hs.wt d u ≤ 80000 + 9999 := by
    rw [declaresL_seen]
    rw [Hs.wt, hkids] at hwt
    simp only [List.map_cons, List.sum_cons] at hwt
    omega
  have hadd := walkL_adds fs alone d u (Hs.declaresL s t)
  rcases hk.get with ⟨_, h0⟩ | ⟨g, cap, rfl, hgF, hgl, hcap, hget⟩
  · rw [hkids] at h0; cases h0
  obtain ⟨tv, ht, hrt⟩ := hget 0 (by omega)
  obtain ⟨uv, hu, hru⟩ := hget 1 (by omega)
  have ek0 : ∀ h, a.kids[0]'h = t := fun h => by simp [hkids]
  have ek1 : ∀ h, a.kids[1]'h = u := fun h => by simp [hkids]
  rw [ek0] at hrt
  rw [ek1] at hru
  obtain ⟨sv, hblk, hown⟩ := h.blk
  obtain ⟨hlt, c0, c1, c2, c3, c4, fz⟩ := ck_cells hblk
  obtain ⟨sx, sc, rfl, hsc, hscm, -⟩ := strs_cut hown _ (Nat.le_refl _)
  have hsl : s.seen.length ≤ 90000 := by omega
  have htx : (bs a.op).toList = [118, 97, 114] := by rw [bs_toList, hop]
  have HD := mkHid (declares_any cb lo fs fv alone w s h (by omega) tv t d hrt)
  have HW := mkHid (fun w1 (hc : CkAt cb lo fs fv alone w1 (Hs.declaresL s t)) (hr : RepD d (Btw lo cb) w1 uv u) => IH uv u (Hs.declaresL s t) w1 hc hr hwu (by omega))
  have HS := mkHid hS
  have HRT := mkHid hrt
  have HRU := mkHid hru
  have HADD := mkHid hadd
  clear h ha hk fz hown hS hget hrt hru ek0 ek1 IH hadd hwf hwu hop
  have hkl : a.kids.length ≤ cap := hcap
  have hk0 : (0 : Int) < (a.kids.length : Int) := by omega
  have hk1 : (1 : Int) < (a.kids.length : Int) := by omega
  have hk0' : 0 < a.kids.length := by omega
  clear hkids hwt
  go_enter Tryz.func87, Tryz.ntmps87
  go_wp2_with fail
  refine HD.out.mono ?_
  rintro e w1 ⟨rfl, hb1, hc1⟩
  have hbb1 : w1.heap[b]? = w.heap[b]? := hb1.block b hF.2
  have hgb1 : w1.heap[g]? = w.heap[g]? := hb1.block g hgF.2
  have m3 := (cell_keep (i := 3) hbb1).trans n3
  have r1 := (cell_keep (i := 1) hgb1).trans hu
  have hbl1 : b < w1.heap.size := Nat.lt_of_lt_of_le hbl hb1.size
  have hgl1 : g < w1.heap.size := Nat.lt_of_lt_of_le hgl hb1.size
  have HC := mkHid (HW.out w1 hc1 (HRU.out.keep fun k hk => hb1.block k hk.2))
  have HB1 := mkHid hb1
  clear hbb1 hgb1 hb1 hc1 HD HW HRU c0 c1 c2 c3 c4
  go_wp2_with fail
  refine HC.out.mono ?_
  rintro e w2 ⟨rfl, hb2, hc2⟩
  have hb02 := HB1.out.trans hb2
  have hbb2 : w2.heap[b]? = w.heap[b]? := hb02.block b hF.2
  have hgb2 : w2.heap[g]? = w.heap[g]? := hb02.block g hgF.2
  have p3 : w2.cell? ⟨b, 3, none⟩ = _ := (cell_keep (i := 3) hbb2).trans n3
  have p0 : w2.cell? ⟨g, 0, none⟩ = _ := (cell_keep (i := 0) hgb2).trans ht
  have hbl2 : b < w2.heap.size := Nat.lt_of_lt_of_le hbl hb02.size
  have hgl2 : g < w2.heap.size := Nat.lt_of_lt_of_le hgl hb02.size
  obtain ⟨dt, tb, tkv, -, rfl, hFt, htl, t0, t1, t2, t3, -⟩ := (HRT.out.keep (w' := w2) fun k hk => hb02.block k hk.2).cells
  obtain ⟨sv2, hblk2, hown2⟩ := hc2.blk
  obtain ⟨hlt2, c0, c1, c2, c3, c4, fz⟩ := ck_cells (w := w2) hblk2
  obtain ⟨sx2, sc2, rfl, hsc2, hscm2, -⟩ := strs_cut hown2 _ (Nat.le_refl _)
  have hl2 : (Hs.walkL fs alone d u (Hs.declaresL s t)).seen.length ≤ 90000 := by
    obtain ⟨x, h1, h2⟩ := HADD.out
    rw [h1]; simp; omega
  have f1 := fz 1
  generalize Hs.walkL fs alone d u (Hs.declaresL s t) = s2 at *
  obtain ⟨i0, hi, hz0, hz1, hz2⟩ := info_parts infoStr
  have hblk2d : w2.drew.heap[cb]? = _ := hblk2
  have HB2 := mkHid hblk2d
  have HO2 := mkHid (show w2.drew.ownsRow _ _ _ _ _ _ from hown2)
  have HCC := mkHid (hc2.keepw (w' := w2.drew) rfl)
  have HB02 := mkHid hb02
  have hlt2' : cb < w2.heap.size := hlt2
  have hbl2' : b < w2.heap.size := hbl2
  have hgl2' : g < w2.heap.size := hgl2
  have htl' : tb < w2.heap.size := htl
  clear hlt2 hbl2 hgl2 htl
  clear hblk2 hblk2d hown2 hc2 hb02 hb2 HC hblk fz
  go_wp2_with fail
  go_region_law (refine step_append_lies _ (by rfl) _ _ 60 (by rfl) (cb + 1) 9 i0 _ 1 16 Tryz.underlying60 hi hz0 hz1 hz2 rfl (by decide) (.slice sx2 s2.seen.length sc2) s2.seen.length (strsV s2.seen) (by rfl) (HO2.out.alloc _) ⟨w2.heap.size, 0, none⟩ 1 1 [.string (bs t.text)] (by rfl) (by rfl) (news_str w2.drew _) (one_str _) (by decide) (by unfold maxLen; omega) (by omega) (by simp; omega) (w2.heap.size + 1) (by simp) ?_; intro g5 cap5 w5 hown5 hgrow5 hat5 hg5; have hB5 := ck_grown HB2.out HO2.out hgrow5; obtain ⟨hz5, -, q1, -, -, -, fz5⟩ := ck_cells hB5; have e1 := fz5 1; clear fz5 hB5)
  all_goals
    go_wp2_with fail
    refine bodyPost_ret (results_none rfl _ _ _) rfl ?_
    have hfin := HCC.out.add HB2.out HO2.out hown5 hgrow5
    exact ⟨rfl, HB02.out.trans ((Below.refl _ w2).drew.trans hfin.1), by rw [HS.out]; exact hfin.2⟩

theorem len_le_sum (d : Nat) : ∀ l : List Hs.Ast, l.length ≤ (l.map (Hs.wt (d + 1))).sum
  | [] => by simp
  | x :: l => by
    have := len_le_sum d l
    have h1 : 1 ≤ Hs.wt (d + 1) x := by rw [Hs.wt]; omega
    simp only [List.length_cons, List.map_cons, List.sum_cons]
    omega
theorem RepD.kids_le {d : Nat} {F : Nat → Prop} {w : World} {v : Value} {a : Hs.Ast} (h : RepD (d + 1) F w v a) : a.kids.length ≤ Hs.wt (d + 1) a := by
  obtain ⟨d', b, kv, hd, _, _, _, _, _, _, _, hk⟩ := h.cells
  obtain rfl : d = d' := by omega
  rw [Hs.wt]
  cases d with
  | zero =>
    rcases hk.get with ⟨_, h0⟩ | ⟨g, cap, _, _, _, _, hget⟩
    · rw [h0]; simp
    · by_cases h0 : 0 < a.kids.length
      · obtain ⟨v, _, hf⟩ := hget 0 h0
        exact hf.elim
      · omega
  | succ d =>
    have := len_le_sum d a.kids
    omega

/-- Every tree is walked. -/
theorem walk_any (cb lo : Nat) (fs : List Hs.Ast) (fv : Value) (alone : Bool) (hfl : fs.length ≤ 90000) (hfk : ∀ f ∈ fs, f.kids.length ≤ 90000) : ∀ d, WalkAt cb lo fs fv alone d := by
  intro d
  induction d with
  | zero => intro v a s w _ h; exact h.elim
  | succ d ih =>
    intro v a s w h1 h2 h3 h4
    cases hop : (a.op == [118, 97, 114])
    · exact walk_rest cb lo fs fv alone hfl hfk d ih v a s w h1 h2 h3 h4 (by have := h2.kids_le; omega) hop
    · exact walk_var cb lo fs fv alone d ih v a s w h1 h2 h3 h4 (by simpa using hop)

end Go.Proofs.YtjdbaeeanifleaaGreatDoor

/- Contracts of the document's answer: names: a function. -/
namespace Go.Proofs.YtjdbaeeanifleaaGreatDoor
open Go.RowKit

theorem partL_adds (fs : List Hs.Ast) (d : Nat) (s : Hs.Chk) (k : Hs.Ast) : Adds s (Hs.partL fs d s k) (Hs.wt d k + 1) := by
  unfold Hs.partL
  split
  · exact ⟨[k.text], by simp [declaresL_seen], by simp⟩
  · exact (walkL_adds fs false d k s).le (by omega)
theorem sum_succ (f : Hs.Ast → Nat) : ∀ l : List Hs.Ast, (l.map fun k => f k + 1).sum = (l.map f).sum + l.length
  | [] => rfl
  | x :: l => by
    have := sum_succ f l
    simp only [List.map_cons, List.sum_cons, List.length_cons]
    omega

/-- The checker with no names to be seen. -/
theorem CkAt.bare {cb lo : Nat} {fs : List Hs.Ast} {fv : Value} {alone : Bool} {w : World} {s : Hs.Chk} (h : CkAt cb lo fs fv alone w s) : CkAt cb lo fs fv alone (w.setCell ⟨cb, 1, none⟩ (.slice none 0 0)) { s with seen := [] } := by
  obtain ⟨sv, hblk, _⟩ := h.blk
  exact ⟨⟨.slice none 0 0, by rw [heap_setCell_at hblk]; rfl, World.ownsRow_nil _ _ _ _⟩, h.kids.keep fun k hk => Below.heap_setCell _ _ _ _ (by have := hk.2; show k ≠ cb; omega)⟩

set_option maxRecDepth 100000 in
set_option maxHeartbeats 2000000 in
theorem does_any (cb lo : Nat) (fs : List Hs.Ast) (fv : Value) (hfl : fs.length ≤ 90000) (hfk : ∀ f ∈ fs, f.kids.length ≤ 90000) (d : Nat) 
    (v : Value) (a : Hs.Ast) (s : Hs.Chk) (w : World) (first : Bool) (h : CkAt cb lo fs fv false w s) (ha : RepD (d + 1) (Btw lo cb) w v a) (hwf : Hs.wf (d + 1) a) (hwt : Hs.wt (d + 1) a ≤ 40000) :
    Calls Tryz.prog 47 #[.pointer (some ⟨cb, 0, none⟩), v, .bool first] w fun e w' => e = .returned (.tuple #[]) ∧ Below cb w w' ∧ CkAt cb lo fs fv false w' (Hs.doesL fs d s a first) := by
  have hak : a.kids.length ≤ 40000 := by have := ha.kids_le; omega
  have IH : WalkAt cb lo fs fv false d := walk_any cb lo fs fv false hfl hfk d
  obtain ⟨d', b, kv, hd, rfl, hF, hbl, n0, n1, n2, n3, hk⟩ := ha.cells
  obtain rfl : d = d' := by omega
  obtain ⟨kx, kc, rfl⟩ := hk.slice
  have hlt : cb < w.heap.size := by obtain ⟨_, h1, _⟩ := h.blk; exact lt_of_block h1
  have HG := mkHid (given_any a.text w)
  have HF := mkHid (found_any cb lo fs fv false w s a.line 6 h)
  have HS : Hid (Hs.doesL fs d s a first = a.kids.foldl (Hs.partL fs d) { (if Hs.givenB a.text || !first then s.found a.line 6 else s) with seen := [] }) := rfl
  have H := mkHid h
  have HK := mkHid hk
  have HIH := mkHid IH
  have HWF := mkHid hwf
  clear h ha hk IH hwf hfk
  generalize hgb : Hs.givenB a.text = gb at *
  clear hgb
  generalize hs0 : (if (gb || !first) = true then s.found a.line 6 else s) = s0 at *
  go_enter Tryz.func47, Tryz.ntmps47
  go_wp2_with fail
  refine HG.out.mono ?_
  rintro e w1 ⟨rfl, hw⟩
  obtain rfl := hw.symm
  cases gb <;> cases first
  · go_wp2_with fail
    refine HF.out.mono ?_
    rintro e wc ⟨rfl, hbc, hcf⟩
    have hcc : CkAt cb lo fs fv false wc s0 := by rw [← hs0]; exact hcf
    clear hcf
    have HBC := mkHid hbc
    have HCC := mkHid (CkAt.bare hcc)
    obtain ⟨sv0, hblk0, -⟩ := hcc.blk
    obtain ⟨hlt0, -, y1, -, -, -, fz⟩ := ck_cells hblk0
    have y1f := fz 1
    clear hbc hcc H HG HF fz hblk0 hs0
    go_wp2_with fail
    go_loopg [7, 8] a.kids.length (fun gk i kk wr => ∃ k : Nat, k + gk = a.kids.length ∧ i = .int .i64 k ∧ Below cb w wr ∧ CkAt cb lo fs fv false wr ((a.kids.take k).foldl (Hs.partL fs d) { s0 with seen := [] }))
    case atStart => exact ⟨0, by omega, rfl, HBC.out.setCell (by simp) _, HCC.out⟩
    case round =>
      obtain ⟨k, hkg, rfl, hbw, hck⟩ := hrel
      have hbb : wr.heap[b]? = w.heap[b]? := hbw.block b hF.2
      have q3 : wr.cell? ⟨b, 3, none⟩ = some (.slice kx a.kids.length kc) := (cell_keep hbb).trans n3
      have hblr : b < wr.heap.size := Nat.lt_of_lt_of_le hbl hbw.size
      clear hbb n0 n1 n2 n3
      by_cases hlt : k < a.kids.length
      · obtain ⟨j, rfl⟩ : ∃ j, gk = j + 1 := ⟨gk - 1, by omega⟩
        rcases HK.out.get with ⟨_, h0⟩ | ⟨g, cap, hkv, hgF, hgl, hcap, hget⟩
        · rw [h0] at hlt; simp at hlt
        obtain ⟨u, hu, hru⟩ := hget k hlt
        cases hkv
        have hgb : wr.heap[g]? = w.heap[g]? := hbw.block g hgF.2
        have r0 : wr.cell? ⟨g, k, none⟩ = some u := (cell_keep hgb).trans hu
        have hgr : g < wr.heap.size := Nat.lt_of_lt_of_le hgl hbw.size
        have hruw := hru.keep (w' := wr) fun k hk => hbw.block k hk.2
        obtain ⟨d2, ub, ukv, rfl, rfl, huF, hul, u0, u1, u2, u3, -⟩ := hruw.cells
        have hfold : (a.kids.take (k + 1)).foldl (Hs.partL fs (d2 + 1)) { s0 with seen := [] } = Hs.partL fs (d2 + 1) ((a.kids.take k).foldl (Hs.partL fs (d2 + 1)) { s0 with seen := [] }) a.kids[k] := by
          rw [List.take_succ_eq_append_getElem hlt, List.foldl_append]; rfl
        have hsum : ((a.kids.take k).map (Hs.wt (d2 + 1))).sum + Hs.wt (d2 + 1) a.kids[k] ≤ (a.kids.map (Hs.wt (d2 + 1))).sum := by
          have e : a.kids = a.kids.take k ++ a.kids[k] :: a.kids.drop (k + 1) := by rw [List.getElem_cons_drop, List.take_append_drop]
          have e2 : (a.kids.map (Hs.wt (d2 + 1))).sum = ((a.kids.take k ++ a.kids[k] :: a.kids.drop (k + 1)).map (Hs.wt (d2 + 1))).sum := by rw [← e]
          rw [e2, List.map_append, List.sum_append, List.map_cons, List.sum_cons]
          omega
        have hadd := Adds.fold (f := Hs.partL fs (d2 + 1)) (g := fun k => Hs.wt (d2 + 1) k + 1) (fun s k => partL_adds fs (d2 + 1) s k) (a.kids.take k) { s0 with seen := [] }
        have hlen : ((a.kids.take k).foldl (Hs.partL fs (d2 + 1)) { s0 with seen := [] }).seen.length + Hs.wt (d2 + 1) a.kids[k] ≤ 80000 := by
          obtain ⟨t, h1, h2⟩ := hadd
          rw [h1]
          rw [sum_succ, List.length_take] at h2
          rw [Hs.wt] at hwt
          simp; omega
        have HFO := mkHid hfold
        have HBW := mkHid hbw
        have hwk := HWF.out.2 _ (List.getElem_mem hlt)
        clear hfold hsum hadd hget hu hgb hru hbw
        generalize ((a.kids.take k).foldl (Hs.partL fs (d2 + 1)) { s0 with seen := [] }) = sk at *
        generalize a.kids[k] = kk at *
        have hkx : (bs kk.op).toList = kk.op := bs_toList _
        have HP : Hid (Hs.partL fs (d2 + 1) sk kk = if kk.op == [112, 97, 114, 97, 109] then { Hs.declaresL sk kk with seen := (Hs.declaresL sk kk).seen ++ [kk.text] } else Hs.walkL fs false (d2 + 1) kk sk) := rfl
        cases hpar : (kk.op == [112, 97, 114, 97, 109])
        · rw [hpar] at HP
          have HC := mkHid (HIH.out _ kk sk wr hck hruw hwk (by omega))
          clear hck hruw hwk
          go_wp2_with fail
          refine HC.out.mono ?_
          rintro e w1 ⟨rfl, hb1, hc1⟩
          go_wp2_with fail
          go_roundg j
          case measure => omega
          case rel => exact ⟨k + 1, by omega, by go_num, HBW.out.trans hb1, by rw [HFO.out, HP.out]; exact hc1⟩
        · rw [hpar] at HP
          have HC := mkHid (declares_any cb lo fs fv false wr sk hck (by omega) _ kk _ hruw)
          have HRU := mkHid hruw
          clear hck hruw hwk
          go_wp2_with fail
          refine HC.out.mono ?_
          rintro e w2 ⟨rfl, hb2, hc2⟩
          have hub2 : w2.heap[ub]? = wr.heap[ub]? := hb2.block ub huF.2
          have x2 : w2.cell? ⟨ub, 2, none⟩ = _ := (cell_keep (i := 2) hub2).trans u2
          have hul2 : ub < w2.heap.size := Nat.lt_of_lt_of_le hul hb2.size
          obtain ⟨sv2, hblk2, hown2⟩ := hc2.blk
          obtain ⟨hlt2, c0, c1, c2, c3, c4, fz⟩ := ck_cells (w := w2) hblk2
          obtain ⟨sx2, sc2, rfl, hsc2, hscm2, -⟩ := strs_cut hown2 _ (Nat.le_refl _)
          have hl2 : (Hs.declaresL sk kk).seen.length ≤ 90000 := by rw [declaresL_seen]; omega
          have f1 := fz 1
          obtain ⟨i0, hi, hz0, hz1, hz2⟩ := info_parts infoStr
          have hblk2d : w2.drew.heap[cb]? = _ := hblk2
          have HB2 := mkHid hblk2d
          have HO2 := mkHid (show w2.drew.ownsRow _ _ _ _ _ _ from hown2)
          have HCC2 := mkHid (hc2.keepw (w' := w2.drew) rfl)
          have HB02 := mkHid (HBW.out.trans hb2)
          clear hblk2 hblk2d hown2 hc2 hb2 HC fz hub2 u0 u1 u2 u3 q3 r0
          generalize Hs.declaresL sk kk = s2 at *
          go_wp2_with fail
          go_region_law (refine step_append_lies _ (by rfl) _ _ 60 (by rfl) (cb + 1) 9 i0 _ 1 16 Tryz.underlying60 hi hz0 hz1 hz2 rfl (by decide) (.slice sx2 s2.seen.length sc2) s2.seen.length (strsV s2.seen) (by rfl) (HO2.out.alloc _) ⟨w2.heap.size, 0, none⟩ 1 1 [.string (bs kk.text)] (by rfl) (by rfl) (news_str w2.drew _) (one_str _) (by decide) (by unfold maxLen; omega) (by omega) (by simp; omega) (w2.heap.size + 1) (by simp) ?_; intro g5 cap5 w5 hown5 hgrow5 hat5 hg5; have hB5 := ck_grown HB2.out HO2.out hgrow5; obtain ⟨hz5, -, q1, -, -, -, fz5⟩ := ck_cells hB5; have e1 := fz5 1; clear fz5 hB5)
          all_goals
            go_wp2_with fail
            go_roundg j
            case measure => omega
            case rel =>
              have hfin := HCC2.out.add HB2.out HO2.out hown5 hgrow5
              exact ⟨k + 1, by omega, by go_num, HB02.out.trans ((Below.refl _ w2).drew.trans hfin.1), by rw [HFO.out, HP.out]; exact hfin.2⟩
      · obtain rfl : k = a.kids.length := by omega
        rw [List.take_length] at hck
        have HBW := mkHid hbw
        have HCK := mkHid hck
        clear hbw hck
        go_wp2_with fail
        go_end0
        exact ⟨rfl, HBW.out, by rw [HS.out]; exact HCK.out⟩
  · have hbc : Below cb w w := Below.refl _ _
    have hcc : CkAt cb lo fs fv false w s0 := by rw [← hs0]; exact H.out
    have HBC := mkHid hbc
    have HCC := mkHid (CkAt.bare hcc)
    obtain ⟨sv0, hblk0, -⟩ := hcc.blk
    obtain ⟨hlt0, -, y1, -, -, -, fz⟩ := ck_cells hblk0
    have y1f := fz 1
    clear hbc hcc H HG HF fz hblk0 hs0
    go_wp2_with fail
    go_loopg [7, 8] a.kids.length (fun gk i kk wr => ∃ k : Nat, k + gk = a.kids.length ∧ i = .int .i64 k ∧ Below cb w wr ∧ CkAt cb lo fs fv false wr ((a.kids.take k).foldl (Hs.partL fs d) { s0 with seen := [] }))
    case atStart => exact ⟨0, by omega, rfl, HBC.out.setCell (by simp) _, HCC.out⟩
    case round =>
      obtain ⟨k, hkg, rfl, hbw, hck⟩ := hrel
      have hbb : wr.heap[b]? = w.heap[b]? := hbw.block b hF.2
      have q3 : wr.cell? ⟨b, 3, none⟩ = some (.slice kx a.kids.length kc) := (cell_keep hbb).trans n3
      have hblr : b < wr.heap.size := Nat.lt_of_lt_of_le hbl hbw.size
      clear hbb n0 n1 n2 n3
      by_cases hlt : k < a.kids.length
      · obtain ⟨j, rfl⟩ : ∃ j, gk = j + 1 := ⟨gk - 1, by omega⟩
        rcases HK.out.get with ⟨_, h0⟩ | ⟨g, cap, hkv, hgF, hgl, hcap, hget⟩
        · rw [h0] at hlt; simp at hlt
        obtain ⟨u, hu, hru⟩ := hget k hlt
        cases hkv
        have hgb : wr.heap[g]? = w.heap[g]? := hbw.block g hgF.2
        have r0 : wr.cell? ⟨g, k, none⟩ = some u := (cell_keep hgb).trans hu
        have hgr : g < wr.heap.size := Nat.lt_of_lt_of_le hgl hbw.size
        have hruw := hru.keep (w' := wr) fun k hk => hbw.block k hk.2
        obtain ⟨d2, ub, ukv, rfl, rfl, huF, hul, u0, u1, u2, u3, -⟩ := hruw.cells
        have hfold : (a.kids.take (k + 1)).foldl (Hs.partL fs (d2 + 1)) { s0 with seen := [] } = Hs.partL fs (d2 + 1) ((a.kids.take k).foldl (Hs.partL fs (d2 + 1)) { s0 with seen := [] }) a.kids[k] := by
          rw [List.take_succ_eq_append_getElem hlt, List.foldl_append]; rfl
        have hsum : ((a.kids.take k).map (Hs.wt (d2 + 1))).sum + Hs.wt (d2 + 1) a.kids[k] ≤ (a.kids.map (Hs.wt (d2 + 1))).sum := by
          have e : a.kids = a.kids.take k ++ a.kids[k] :: a.kids.drop (k + 1) := by rw [List.getElem_cons_drop, List.take_append_drop]
          have e2 : (a.kids.map (Hs.wt (d2 + 1))).sum = ((a.kids.take k ++ a.kids[k] :: a.kids.drop (k + 1)).map (Hs.wt (d2 + 1))).sum := by rw [← e]
          rw [e2, List.map_append, List.sum_append, List.map_cons, List.sum_cons]
          omega
        have hadd := Adds.fold (f := Hs.partL fs (d2 + 1)) (g := fun k => Hs.wt (d2 + 1) k + 1) (fun s k => partL_adds fs (d2 + 1) s k) (a.kids.take k) { s0 with seen := [] }
        have hlen : ((a.kids.take k).foldl (Hs.partL fs (d2 + 1)) { s0 with seen := [] }).seen.length + Hs.wt (d2 + 1) a.kids[k] ≤ 80000 := by
          obtain ⟨t, h1, h2⟩ := hadd
          rw [h1]
          rw [sum_succ, List.length_take] at h2
          rw [Hs.wt] at hwt
          simp; omega
        have HFO := mkHid hfold
        have HBW := mkHid hbw
        have hwk := HWF.out.2 _ (List.getElem_mem hlt)
        clear hfold hsum hadd hget hu hgb hru hbw
        generalize ((a.kids.take k).foldl (Hs.partL fs (d2 + 1)) { s0 with seen := [] }) = sk at *
        generalize a.kids[k] = kk at *
        have hkx : (bs kk.op).toList = kk.op := bs_toList _
        have HP : Hid (Hs.partL fs (d2 + 1) sk kk = if kk.op == [112, 97, 114, 97, 109] then { Hs.declaresL sk kk with seen := (Hs.declaresL sk kk).seen ++ [kk.text] } else Hs.walkL fs false (d2 + 1) kk sk) := rfl
        cases hpar : (kk.op == [112, 97, 114, 97, 109])
        · rw [hpar] at HP
          have HC := mkHid (HIH.out _ kk sk wr hck hruw hwk (by omega))
          clear hck hruw hwk
          go_wp2_with fail
          refine HC.out.mono ?_
          rintro e w1 ⟨rfl, hb1, hc1⟩
          go_wp2_with fail
          go_roundg j
          case measure => omega
          case rel => exact ⟨k + 1, by omega, by go_num, HBW.out.trans hb1, by rw [HFO.out, HP.out]; exact hc1⟩
        · rw [hpar] at HP
          have HC := mkHid (declares_any cb lo fs fv false wr sk hck (by omega) _ kk _ hruw)
          have HRU := mkHid hruw
          clear hck hruw hwk
          go_wp2_with fail
          refine HC.out.mono ?_
          rintro e w2 ⟨rfl, hb2, hc2⟩
          have hub2 : w2.heap[ub]? = wr.heap[ub]? := hb2.block ub huF.2
          have x2 : w2.cell? ⟨ub, 2, none⟩ = _ := (cell_keep (i := 2) hub2).trans u2
          have hul2 : ub < w2.heap.size := Nat.lt_of_lt_of_le hul hb2.size
          obtain ⟨sv2, hblk2, hown2⟩ := hc2.blk
          obtain ⟨hlt2, c0, c1, c2, c3, c4, fz⟩ := ck_cells (w := w2) hblk2
          obtain ⟨sx2, sc2, rfl, hsc2, hscm2, -⟩ := strs_cut hown2 _ (Nat.le_refl _)
          have hl2 : (Hs.declaresL sk kk).seen.length ≤ 90000 := by rw [declaresL_seen]; omega
          have f1 := fz 1
          obtain ⟨i0, hi, hz0, hz1, hz2⟩ := info_parts infoStr
          have hblk2d : w2.drew.heap[cb]? = _ := hblk2
          have HB2 := mkHid hblk2d
          have HO2 := mkHid (show w2.drew.ownsRow _ _ _ _ _ _ from hown2)
          have HCC2 := mkHid (hc2.keepw (w' := w2.drew) rfl)
          have HB02 := mkHid (HBW.out.trans hb2)
          clear hblk2 hblk2d hown2 hc2 hb2 HC fz hub2 u0 u1 u2 u3 q3 r0
          generalize Hs.declaresL sk kk = s2 at *
          go_wp2_with fail
          go_region_law (refine step_append_lies _ (by rfl) _ _ 60 (by rfl) (cb + 1) 9 i0 _ 1 16 Tryz.underlying60 hi hz0 hz1 hz2 rfl (by decide) (.slice sx2 s2.seen.length sc2) s2.seen.length (strsV s2.seen) (by rfl) (HO2.out.alloc _) ⟨w2.heap.size, 0, none⟩ 1 1 [.string (bs kk.text)] (by rfl) (by rfl) (news_str w2.drew _) (one_str _) (by decide) (by unfold maxLen; omega) (by omega) (by simp; omega) (w2.heap.size + 1) (by simp) ?_; intro g5 cap5 w5 hown5 hgrow5 hat5 hg5; have hB5 := ck_grown HB2.out HO2.out hgrow5; obtain ⟨hz5, -, q1, -, -, -, fz5⟩ := ck_cells hB5; have e1 := fz5 1; clear fz5 hB5)
          all_goals
            go_wp2_with fail
            go_roundg j
            case measure => omega
            case rel =>
              have hfin := HCC2.out.add HB2.out HO2.out hown5 hgrow5
              exact ⟨k + 1, by omega, by go_num, HB02.out.trans ((Below.refl _ w2).drew.trans hfin.1), by rw [HFO.out, HP.out]; exact hfin.2⟩
      · obtain rfl : k = a.kids.length := by omega
        rw [List.take_length] at hck
        have HBW := mkHid hbw
        have HCK := mkHid hck
        clear hbw hck
        go_wp2_with fail
        go_end0
        exact ⟨rfl, HBW.out, by rw [HS.out]; exact HCK.out⟩
  · go_wp2_with fail
    refine HF.out.mono ?_
    rintro e wc ⟨rfl, hbc, hcf⟩
    have hcc : CkAt cb lo fs fv false wc s0 := by rw [← hs0]; exact hcf
    clear hcf
    have HBC := mkHid hbc
    have HCC := mkHid (CkAt.bare hcc)
    obtain ⟨sv0, hblk0, -⟩ := hcc.blk
    obtain ⟨hlt0, -, y1, -, -, -, fz⟩ := ck_cells hblk0
    have y1f := fz 1
    clear hbc hcc H HG HF fz hblk0 hs0
    go_wp2_with fail
    go_loopg [7, 8] a.kids.length (fun gk i kk wr => ∃ k : Nat, k + gk = a.kids.length ∧ i = .int .i64 k ∧ Below cb w wr ∧ CkAt cb lo fs fv false wr ((a.kids.take k).foldl (Hs.partL fs d) { s0 with seen := [] }))
    case atStart => exact ⟨0, by omega, rfl, HBC.out.setCell (by simp) _, HCC.out⟩
    case round =>
      obtain ⟨k, hkg, rfl, hbw, hck⟩ := hrel
      have hbb : wr.heap[b]? = w.heap[b]? := hbw.block b hF.2
      have q3 : wr.cell? ⟨b, 3, none⟩ = some (.slice kx a.kids.length kc) := (cell_keep hbb).trans n3
      have hblr : b < wr.heap.size := Nat.lt_of_lt_of_le hbl hbw.size
      clear hbb n0 n1 n2 n3
      by_cases hlt : k < a.kids.length
      · obtain ⟨j, rfl⟩ : ∃ j, gk = j + 1 := ⟨gk - 1, by omega⟩
        rcases HK.out.get with ⟨_, h0⟩ | ⟨g, cap, hkv, hgF, hgl, hcap, hget⟩
        · rw [h0] at hlt; simp at hlt
        obtain ⟨u, hu, hru⟩ := hget k hlt
        cases hkv
        have hgb : wr.heap[g]? = w.heap[g]? := hbw.block g hgF.2
        have r0 : wr.cell? ⟨g, k, none⟩ = some u := (cell_keep hgb).trans hu
        have hgr : g < wr.heap.size := Nat.lt_of_lt_of_le hgl hbw.size
        have hruw := hru.keep (w' := wr) fun k hk => hbw.block k hk.2
        obtain ⟨d2, ub, ukv, rfl, rfl, huF, hul, u0, u1, u2, u3, -⟩ := hruw.cells
        have hfold : (a.kids.take (k + 1)).foldl (Hs.partL fs (d2 + 1)) { s0 with seen := [] } = Hs.partL fs (d2 + 1) ((a.kids.take k).foldl (Hs.partL fs (d2 + 1)) { s0 with seen := [] }) a.kids[k] := by
          rw [List.take_succ_eq_append_getElem hlt, List.foldl_append]; rfl
        have hsum : ((a.kids.take k).map (Hs.wt (d2 + 1))).sum + Hs.wt (d2 + 1) a.kids[k] ≤ (a.kids.map (Hs.wt (d2 + 1))).sum := by
          have e : a.kids = a.kids.take k ++ a.kids[k] :: a.kids.drop (k + 1) := by rw [List.getElem_cons_drop, List.take_append_drop]
          have e2 : (a.kids.map (Hs.wt (d2 + 1))).sum = ((a.kids.take k ++ a.kids[k] :: a.kids.drop (k + 1)).map (Hs.wt (d2 + 1))).sum := by rw [← e]
          rw [e2, List.map_append, List.sum_append, List.map_cons, List.sum_cons]
          omega
        have hadd := Adds.fold (f := Hs.partL fs (d2 + 1)) (g := fun k => Hs.wt (d2 + 1) k + 1) (fun s k => partL_adds fs (d2 + 1) s k) (a.kids.take k) { s0 with seen := [] }
        have hlen : ((a.kids.take k).foldl (Hs.partL fs (d2 + 1)) { s0 with seen := [] }).seen.length + Hs.wt (d2 + 1) a.kids[k] ≤ 80000 := by
          obtain ⟨t, h1, h2⟩ := hadd
          rw [h1]
          rw [sum_succ, List.length_take] at h2
          rw [Hs.wt] at hwt
          simp; omega
        have HFO := mkHid hfold
        have HBW := mkHid hbw
        have hwk := HWF.out.2 _ (List.getElem_mem hlt)
        clear hfold hsum hadd hget hu hgb hru hbw
        generalize ((a.kids.take k).foldl (Hs.partL fs (d2 + 1)) { s0 with seen := [] }) = sk at *
        generalize a.kids[k] = kk at *
        have hkx : (bs kk.op).toList = kk.op := bs_toList _
        have HP : Hid (Hs.partL fs (d2 + 1) sk kk = if kk.op == [112, 97, 114, 97, 109] then { Hs.declaresL sk kk with seen := (Hs.declaresL sk kk).seen ++ [kk.text] } else Hs.walkL fs false (d2 + 1) kk sk) := rfl
        cases hpar : (kk.op == [112, 97, 114, 97, 109])
        · rw [hpar] at HP
          have HC := mkHid (HIH.out _ kk sk wr hck hruw hwk (by omega))
          clear hck hruw hwk
          go_wp2_with fail
          refine HC.out.mono ?_
          rintro e w1 ⟨rfl, hb1, hc1⟩
          go_wp2_with fail
          go_roundg j
          case measure => omega
          case rel => exact ⟨k + 1, by omega, by go_num, HBW.out.trans hb1, by rw [HFO.out, HP.out]; exact hc1⟩
        · rw [hpar] at HP
          have HC := mkHid (declares_any cb lo fs fv false wr sk hck (by omega) _ kk _ hruw)
          have HRU := mkHid hruw
          clear hck hruw hwk
          go_wp2_with fail
          refine HC.out.mono ?_
          rintro e w2 ⟨rfl, hb2, hc2⟩
          have hub2 : w2.heap[ub]? = wr.heap[ub]? := hb2.block ub huF.2
          have x2 : w2.cell? ⟨ub, 2, none⟩ = _ := (cell_keep (i := 2) hub2).trans u2
          have hul2 : ub < w2.heap.size := Nat.lt_of_lt_of_le hul hb2.size
          obtain ⟨sv2, hblk2, hown2⟩ := hc2.blk
          obtain ⟨hlt2, c0, c1, c2, c3, c4, fz⟩ := ck_cells (w := w2) hblk2
          obtain ⟨sx2, sc2, rfl, hsc2, hscm2, -⟩ := strs_cut hown2 _ (Nat.le_refl _)
          have hl2 : (Hs.declaresL sk kk).seen.length ≤ 90000 := by rw [declaresL_seen]; omega
          have f1 := fz 1
          obtain ⟨i0, hi, hz0, hz1, hz2⟩ := info_parts infoStr
          have hblk2d : w2.drew.heap[cb]? = _ := hblk2
          have HB2 := mkHid hblk2d
          have HO2 := mkHid (show w2.drew.ownsRow _ _ _ _ _ _ from hown2)
          have HCC2 := mkHid (hc2.keepw (w' := w2.drew) rfl)
          have HB02 := mkHid (HBW.out.trans hb2)
          clear hblk2 hblk2d hown2 hc2 hb2 HC fz hub2 u0 u1 u2 u3 q3 r0
          generalize Hs.declaresL sk kk = s2 at *
          go_wp2_with fail
          go_region_law (refine step_append_lies _ (by rfl) _ _ 60 (by rfl) (cb + 1) 9 i0 _ 1 16 Tryz.underlying60 hi hz0 hz1 hz2 rfl (by decide) (.slice sx2 s2.seen.length sc2) s2.seen.length (strsV s2.seen) (by rfl) (HO2.out.alloc _) ⟨w2.heap.size, 0, none⟩ 1 1 [.string (bs kk.text)] (by rfl) (by rfl) (news_str w2.drew _) (one_str _) (by decide) (by unfold maxLen; omega) (by omega) (by simp; omega) (w2.heap.size + 1) (by simp) ?_; intro g5 cap5 w5 hown5 hgrow5 hat5 hg5; have hB5 := ck_grown HB2.out HO2.out hgrow5; obtain ⟨hz5, -, q1, -, -, -, fz5⟩ := ck_cells hB5; have e1 := fz5 1; clear fz5 hB5)
          all_goals
            go_wp2_with fail
            go_roundg j
            case measure => omega
            case rel =>
              have hfin := HCC2.out.add HB2.out HO2.out hown5 hgrow5
              exact ⟨k + 1, by omega, by go_num, HB02.out.trans ((Below.refl _ w2).drew.trans hfin.1), by rw [HFO.out, HP.out]; exact hfin.2⟩
      · obtain rfl : k = a.kids.length := by omega
        rw [List.take_length] at hck
        have HBW := mkHid hbw
        have HCK := mkHid hck
        clear hbw hck
        go_wp2_with fail
        go_end0
        exact ⟨rfl, HBW.out, by rw [HS.out]; exact HCK.out⟩
  · go_wp2_with fail
    refine HF.out.mono ?_
    rintro e wc ⟨rfl, hbc, hcf⟩
    have hcc : CkAt cb lo fs fv false wc s0 := by rw [← hs0]; exact hcf
    clear hcf
    have HBC := mkHid hbc
    have HCC := mkHid (CkAt.bare hcc)
    obtain ⟨sv0, hblk0, -⟩ := hcc.blk
    obtain ⟨hlt0, -, y1, -, -, -, fz⟩ := ck_cells hblk0
    have y1f := fz 1
    clear hbc hcc H HG HF fz hblk0 hs0
    go_wp2_with fail
    go_loopg [7, 8] a.kids.length (fun gk i kk wr => ∃ k : Nat, k + gk = a.kids.length ∧ i = .int .i64 k ∧ Below cb w wr ∧ CkAt cb lo fs fv false wr ((a.kids.take k).foldl (Hs.partL fs d) { s0 with seen := [] }))
    case atStart => exact ⟨0, by omega, rfl, HBC.out.setCell (by simp) _, HCC.out⟩
    case round =>
      obtain ⟨k, hkg, rfl, hbw, hck⟩ := hrel
      have hbb : wr.heap[b]? = w.heap[b]? := hbw.block b hF.2
      have q3 : wr.cell? ⟨b, 3, none⟩ = some (.slice kx a.kids.length kc) := (cell_keep hbb).trans n3
      have hblr : b < wr.heap.size := Nat.lt_of_lt_of_le hbl hbw.size
      clear hbb n0 n1 n2 n3
      by_cases hlt : k < a.kids.length
      · obtain ⟨j, rfl⟩ : ∃ j, gk = j + 1 := ⟨gk - 1, by omega⟩
        rcases HK.out.get with ⟨_, h0⟩ | ⟨g, cap, hkv, hgF, hgl, hcap, hget⟩
        · rw [h0] at hlt; simp at hlt
        obtain ⟨u, hu, hru⟩ := hget k hlt
        cases hkv
        have hgb : wr.heap[g]? = w.heap[g]? := hbw.block g hgF.2
        have r0 : wr.cell? ⟨g, k, none⟩ = some u := (cell_keep hgb).trans hu
        have hgr : g < wr.heap.size := Nat.lt_of_lt_of_le hgl hbw.size
        have hruw := hru.keep (w' := wr) fun k hk => hbw.block k hk.2
        obtain ⟨d2, ub, ukv, rfl, rfl, huF, hul, u0, u1, u2, u3, -⟩ := hruw.cells
        have hfold : (a.kids.take (k + 1)).foldl (Hs.partL fs (d2 + 1)) { s0 with seen := [] } = Hs.partL fs (d2 + 1) ((a.kids.take k).foldl (Hs.partL fs (d2 + 1)) { s0 with seen := [] }) a.kids[k] := by
          rw [List.take_succ_eq_append_getElem hlt, List.foldl_append]; rfl
        have hsum : ((a.kids.take k).map (Hs.wt (d2 + 1))).sum + Hs.wt (d2 + 1) a.kids[k] ≤ (a.kids.map (Hs.wt (d2 + 1))).sum := by
          have e : a.kids = a.kids.take k ++ a.kids[k] :: a.kids.drop (k + 1) := by rw [List.getElem_cons_drop, List.take_append_drop]
          have e2 : (a.kids.map (Hs.wt (d2 + 1))).sum = ((a.kids.take k ++ a.kids[k] :: a.kids.drop (k + 1)).map (Hs.wt (d2 + 1))).sum := by rw [← e]
          rw [e2, List.map_append, List.sum_append, List.map_cons, List.sum_cons]
          omega
        have hadd := Adds.fold (f := Hs.partL fs (d2 + 1)) (g := fun k => Hs.wt (d2 + 1) k + 1) (fun s k => partL_adds fs (d2 + 1) s k) (a.kids.take k) { s0 with seen := [] }
        have hlen : ((a.kids.take k).foldl (Hs.partL fs (d2 + 1)) { s0 with seen := [] }).seen.length + Hs.wt (d2 + 1) a.kids[k] ≤ 80000 := by
          obtain ⟨t, h1, h2⟩ := hadd
          rw [h1]
          rw [sum_succ, List.length_take] at h2
          rw [Hs.wt] at hwt
          simp; omega
        have HFO := mkHid hfold
        have HBW := mkHid hbw
        have hwk := HWF.out.2 _ (List.getElem_mem hlt)
        clear hfold hsum hadd hget hu hgb hru hbw
        generalize ((a.kids.take k).foldl (Hs.partL fs (d2 + 1)) { s0 with seen := [] }) = sk at *
        generalize a.kids[k] = kk at *
        have hkx : (bs kk.op).toList = kk.op := bs_toList _
        have HP : Hid (Hs.partL fs (d2 + 1) sk kk = if kk.op == [112, 97, 114, 97, 109] then { Hs.declaresL sk kk with seen := (Hs.declaresL sk kk).seen ++ [kk.text] } else Hs.walkL fs false (d2 + 1) kk sk) := rfl
        cases hpar : (kk.op == [112, 97, 114, 97, 109])
        · rw [hpar] at HP
          have HC := mkHid (HIH.out _ kk sk wr hck hruw hwk (by omega))
          clear hck hruw hwk
          go_wp2_with fail
          refine HC.out.mono ?_
          rintro e w1 ⟨rfl, hb1, hc1⟩
          go_wp2_with fail
          go_roundg j
          case measure => omega
          case rel => exact ⟨k + 1, by omega, by go_num, HBW.out.trans hb1, by rw [HFO.out, HP.out]; exact hc1⟩
        · rw [hpar] at HP
          have HC := mkHid (declares_any cb lo fs fv false wr sk hck (by omega) _ kk _ hruw)
          have HRU := mkHid hruw
          clear hck hruw hwk
          go_wp2_with fail
          refine HC.out.mono ?_
          rintro e w2 ⟨rfl, hb2, hc2⟩
          have hub2 : w2.heap[ub]? = wr.heap[ub]? := hb2.block ub huF.2
          have x2 : w2.cell? ⟨ub, 2, none⟩ = _ := (cell_keep (i := 2) hub2).trans u2
          have hul2 : ub < w2.heap.size := Nat.lt_of_lt_of_le hul hb2.size
          obtain ⟨sv2, hblk2, hown2⟩ := hc2.blk
          obtain ⟨hlt2, c0, c1, c2, c3, c4, fz⟩ := ck_cells (w := w2) hblk2
          obtain ⟨sx2, sc2, rfl, hsc2, hscm2, -⟩ := strs_cut hown2 _ (Nat.le_refl _)
          have hl2 : (Hs.declaresL sk kk).seen.length ≤ 90000 := by rw [declaresL_seen]; omega
          have f1 := fz 1
          obtain ⟨i0, hi, hz0, hz1, hz2⟩ := info_parts infoStr
          have hblk2d : w2.drew.heap[cb]? = _ := hblk2
          have HB2 := mkHid hblk2d
          have HO2 := mkHid (show w2.drew.ownsRow _ _ _ _ _ _ from hown2)
          have HCC2 := mkHid (hc2.keepw (w' := w2.drew) rfl)
          have HB02 := mkHid (HBW.out.trans hb2)
          clear hblk2 hblk2d hown2 hc2 hb2 HC fz hub2 u0 u1 u2 u3 q3 r0
          generalize Hs.declaresL sk kk = s2 at *
          go_wp2_with fail
          go_region_law (refine step_append_lies _ (by rfl) _ _ 60 (by rfl) (cb + 1) 9 i0 _ 1 16 Tryz.underlying60 hi hz0 hz1 hz2 rfl (by decide) (.slice sx2 s2.seen.length sc2) s2.seen.length (strsV s2.seen) (by rfl) (HO2.out.alloc _) ⟨w2.heap.size, 0, none⟩ 1 1 [.string (bs kk.text)] (by rfl) (by rfl) (news_str w2.drew _) (one_str _) (by decide) (by unfold maxLen; omega) (by omega) (by simp; omega) (w2.heap.size + 1) (by simp) ?_; intro g5 cap5 w5 hown5 hgrow5 hat5 hg5; have hB5 := ck_grown HB2.out HO2.out hgrow5; obtain ⟨hz5, -, q1, -, -, -, fz5⟩ := ck_cells hB5; have e1 := fz5 1; clear fz5 hB5)
          all_goals
            go_wp2_with fail
            go_roundg j
            case measure => omega
            case rel =>
              have hfin := HCC2.out.add HB2.out HO2.out hown5 hgrow5
              exact ⟨k + 1, by omega, by go_num, HB02.out.trans ((Below.refl _ w2).drew.trans hfin.1), by rw [HFO.out, HP.out]; exact hfin.2⟩
      · obtain rfl : k = a.kids.length := by omega
        rw [List.take_length] at hck
        have HBW := mkHid hbw
        have HCK := mkHid hck
        clear hbw hck
        go_wp2_with fail
        go_end0
        exact ⟨rfl, HBW.out, by rw [HS.out]; exact HCK.out⟩

end Go.Proofs.YtjdbaeeanifleaaGreatDoor

/- The document's answer: what is wrong with a source. -/
namespace Go.Proofs.YtjdbaeeanifleaaGreatDoor
open Go.RowKit

theorem RepD.dp {F : Nat → Prop} {w : World} : ∀ {d : Nat} {v : Value} {a : Hs.Ast}, RepD d F w v a → Hs.dp d a
  | 0, _, _, h => h.elim
  | d + 1, v, a, h => fun k hk => by
    obtain ⟨d', b, kv, hd, _, _, _, _, _, _, _, hkd⟩ := h.cells
    obtain rfl : d = d' := by omega
    obtain ⟨i, hi, rfl⟩ := List.mem_iff_getElem.1 hk
    rcases hkd.get with ⟨_, h0⟩ | ⟨g, cap, _, _, _, _, hget⟩
    · rw [h0] at hi; simp at hi
    · obtain ⟨v, _, hr⟩ := hget i hi
      exact hr.dp

theorem partL_deep (fs : List Hs.Ast) (d e : Nat) (s : Hs.Chk) (k : Hs.Ast) (h : Hs.dp d k) (h2 : Hs.dp e k) : Hs.partL fs d s k = Hs.partL fs e s k := by
  unfold Hs.partL
  split
  · rfl
  · rcases Nat.le_total d e with hde | hde
    · exact Hs.walkL_deep fs false d e k s h hde
    · exact (Hs.walkL_deep fs false e d k s h2 hde).symm
theorem doesL_deep (fs : List Hs.Ast) (d e : Nat) (s : Hs.Chk) (n : Hs.Ast) (first : Bool) (h : Hs.dp (d + 1) n) (h2 : Hs.dp (e + 1) n) : Hs.doesL fs d s n first = Hs.doesL fs e s n first := by
  unfold Hs.doesL
  exact Hs.foldl_congr' n.kids _ fun k hk b => partL_deep fs d e b k (h k hk) (h2 k hk)

theorem allL_snoc (fs : List Hs.Ast) (d : Nat) : ∀ (l pre : List Hs.Ast) (n : Hs.Ast) (s : Hs.Chk), Hs.allL fs d pre (l ++ [n]) s = Hs.doesL fs d (Hs.allL fs d pre l s) n (Hs.funcL (pre ++ l) n.text).isNone
  | [], pre, n, s => by simp [Hs.allL]
  | x :: l, pre, n, s => by
    rw [List.cons_append, Hs.allL, Hs.allL, allL_snoc fs d l]
    simp

/-- What Read answers: nothing and the fault, or the tree and none. -/
def readPost (w : World) (s : List UInt8) (e : Ending) (w' : World) : Prop :=
  Below w.heap.size w w' ∧
  if (Hs.readL s).1 = 0 then ∃ b ks, e = .returned (.tuple #[.pointer (some ⟨b, 0, none⟩), .agg #[.int .i64 0, .int .i64 0]]) ∧ Hs.parsedL s = .ok ks ∧ Rep (Btw w.heap.size w'.heap.size) w' (.pointer (some ⟨b, 0, none⟩)) (Hs.node [112, 114, 111, 103, 114, 97, 109] 0 [] ks)
  else e = .returned (.tuple #[.pointer none, .agg #[.int .i64 (Hs.readL s).1, .int .i64 (Hs.readL s).2]])

theorem parsedL_err {l : List UInt8} {k n : Nat} (h : Hs.parsedL l = .error (k, n)) : k ≠ 0 ∧ k ≤ 4 := by
  unfold Hs.parsedL at h
  split at h
  · cases h; decide
  split at h
  · cases h; decide
  split at h
  · cases h; decide
  split at h
  · cases h; decide
  · cases h

theorem allL_deep (fs : List Hs.Ast) (d e : Nat) : ∀ (l pre : List Hs.Ast) (s : Hs.Chk), (∀ n ∈ l, Hs.dp (d + 1) n ∧ Hs.dp (e + 1) n) → Hs.allL fs d pre l s = Hs.allL fs e pre l s
  | [], _, _, _ => rfl
  | n :: l, pre, s, h => by
    have hn := h n (List.mem_cons_self ..)
    rw [Hs.allL, Hs.allL, doesL_deep fs d e s n _ hn.1 hn.2]
    exact allL_deep fs d e l _ _ fun x hx => h x (List.mem_cons_of_mem _ hx)

theorem FineL.mem {m : Nat} {l : List Hs.Ast} (h : Hs.FineL m l) {f : Hs.Ast} (hf : f ∈ l) : Hs.FineA m f := fun d => ⟨Nat.le_trans (sum_mem_le hf) (h d).1, (h d).2 f hf⟩
theorem FineL.len {m : Nat} {l : List Hs.Ast} (h : Hs.FineL m l) : l.length ≤ m := Nat.le_trans (len_le_sum 0 l) (h 1).1
theorem FineA.len {m : Nat} {a : Hs.Ast} (h : Hs.FineA m a) : a.kids.length ≤ m := by
  have h1 : 1 + (a.kids.map (Hs.wt (0 + 1))).sum ≤ m := (h 2).1
  have h2 := len_le_sum 0 a.kids
  omega

set_option maxRecDepth 100000 in
set_option maxHeartbeats 2000000 in
theorem read_err (s : ByteArray) (w : World) (hg : RefTabs w) (hm : s.size ≤ maxLen) (k n : Nat) (hp : Hs.parsedL s.data.toList = .error (k, n)) :
    Calls Tryz.prog 16 #[.string s] w (readPost w s.data.toList) := by
  have hr : Hs.readL s.data.toList = (k, n) := by unfold Hs.readL; rw [hp]
  have hk0 := (parsedL_err hp).1
  have HP := mkHid (fun o => parsed_any s (w.alloc o) (hg.alloc o) hm)
  rw [hp] at HP
  have hkk : ((k : Int) != 0) = true := by simp; omega
  have HR := mkHid hr
  clear hr hp hg
  go_enter Tryz.func16, Tryz.ntmps16
  go_wp2_with fail
  refine (HP.out _).mono ?_
  rintro e w1 ⟨hb1, he⟩
  obtain rfl : e = .returned (.tuple #[.pointer none, .agg #[.int .i64 k, .int .i64 n]]) := he
  obtain ⟨hc, hf⟩ := bcell hb1
  have hz : w.heap.size < w1.heap.size := by have := hb1.size; simp at this; omega
  have HB1 := mkHid hb1
  clear hb1 HP
  go_wp2_with fail
  go_region
  go_wp2_with fail
  refine bodyPost_ret (v := .tuple #[.pointer none, .agg #[.int .i64 k, .int .i64 n]]) (by simp [results, Tryz.results16, go_sem, World.cell?_alloc_past, hz, hc]) rfl ?_
  unfold readPost
  rw [HR.out]
  refine ⟨?_, by rw [if_neg hk0]⟩
  exact (((((Below.refl _ _).alloc (Nat.le_refl _) _).trans (HB1.out.mono (by simp))).setCell (by simp) _).setCell (by simp) _ |>.alloc (by simp; omega) _).drew

theorem Kid.keep2 {F G : Nat → Prop} {d : Nat} {w w' : World} {kv : Value} {ks : List Hs.Ast} (h : KidD (RepD d F w) F w kv ks) (hk : ∀ b, F b → w'.heap[b]? = w.heap[b]?) (hG : ∀ b, F b → G b) : KidD (RepD d G w') G w' kv ks := by
  rcases h with h | ⟨g, cap, cur, vs, k1, k2, k3, k4, k5, k6⟩
  · exact Or.inl h
  · exact Or.inr ⟨g, cap, cur, vs, k1, hG _ k2, by rw [hk g k2]; exact k3, k4, k5, k6.mono fun _ _ h => (h.keep hk).mono hG (Nat.le_refl _)⟩

set_option maxRecDepth 100000 in
set_option maxHeartbeats 2000000 in
theorem read_ok (s : ByteArray) (w : World) (hg : RefTabs w) (hm : s.size ≤ maxLen) (ks : List Hs.Ast) (hp : Hs.parsedL s.data.toList = .ok ks) :
    Calls Tryz.prog 16 #[.string s] w (readPost w s.data.toList) := by
  have hfine := Hs.sz_parsed hp
  have hr : Hs.readL s.data.toList = Hs.namesL 2001 ks := by unfold Hs.readL; rw [hp]
  have HP := mkHid (fun o => parsed_any s (w.alloc o) (hg.alloc o) hm)
  rw [hp] at HP
  have hkl : ks.length ≤ 2001 := FineL.len hfine
  have HFI := mkHid hfine
  have HR := mkHid hr
  have HPP := mkHid hp
  clear hr hp hg hfine
  go_enter Tryz.func16, Tryz.ntmps16
  go_wp2_with fail
  refine (HP.out _).mono ?_
  rintro e w1 ⟨hb1, b, he, hrep⟩
  subst he
  obtain ⟨hc, hf⟩ := bcell hb1
  have hz : w.heap.size < w1.heap.size := by have := hb1.size; simp at this; omega
  obtain ⟨d, hrd⟩ := hrep
  obtain ⟨d0, b', kv, rfl, hbe, hbF, hbl, n0, n1, n2, n3, hkd⟩ := hrd.cells
  cases hbe
  obtain ⟨kx, kc, rfl⟩ := hkd.slice
  have n3' : w1.cell? ⟨b, 3, none⟩ = some (.slice kx ks.length kc) := n3
  clear n3
  have hbF' : w.heap.size + 1 ≤ b := by have := hbF.1; simpa using this
  have HRD := mkHid hrd
  have HB1 := mkHid hb1
  have hkd' : KidD (RepD d0 (Btw (w.heap.size + 1) (w1.heap.size + 1)) ((w1.alloc (.cells #[.int .i64 0, .int .i64 0] 27)).alloc (.cells #[.slice kx ks.length kc, .slice none 0 0, .bool false, .int .i64 0, .int .i64 0] 94))) (Btw (w.heap.size + 1) (w1.heap.size + 1)) ((w1.alloc (.cells #[.int .i64 0, .int .i64 0] 27)).alloc (.cells #[.slice kx ks.length kc, .slice none 0 0, .bool false, .int .i64 0, .int .i64 0] 94)) (.slice kx ks.length kc) ks :=
    Kid.keep2 hkd (fun k hk => by have := hk.2; rw [Below.heap_alloc _ _ _ (by simp; omega), Below.heap_alloc _ _ _ (by omega)]) (fun k hk => ⟨by have := hk.1; simpa using this, by have := hk.2; omega⟩)
  have HKD := mkHid hkd'
  have HC0 := mkHid (function_any ks [109, 97, 105, 110] _ _ _ (by omega) d0 hkd')
  clear hb1 HP hrd hkd hkd'
  go_wp2_with fail
  refine HC0.out.mono ?_
  rintro e w2 ⟨hw2, fp, rfl, hfp⟩
  have hW2 := hw2
  have hbel0 : Below w.heap.size w w2 := by
    rw [hW2]
    exact ((((Below.refl _ _).alloc (Nat.le_refl _) _).trans (HB1.out.mono (by simp))).alloc (by omega) _).alloc (by simp; omega) _
  have hck0 : CkAt (w1.heap.size + 1) (w.heap.size + 1) ks (.slice kx ks.length kc) false w2 ⟨[], 0, 0⟩ := by
    refine ⟨⟨.slice none 0 0, ?_, World.ownsRow_nil _ _ _ _⟩, ?_⟩
    · rw [hW2]; exact heap_first _ _ (by simp) _
    · rw [hW2]
      rcases HKD.out with h | ⟨g, cap, cur, vs, k1, k2, k3, k4, k5, k6⟩
      · exact Or.inl h
      · exact Or.inr ⟨g, cap, cur, vs, k1, k2, k3, k4, k5, k6.mono fun _ _ h => ⟨d0, h⟩⟩
  have HKD2 : Hid (KidD (RepD d0 (Btw (w.heap.size + 1) (w1.heap.size + 1)) w2) (Btw (w.heap.size + 1) (w1.heap.size + 1)) w2 (.slice kx ks.length kc) ks) := by rw [hW2]; exact HKD.out
  have hz2 : w2.heap.size = w1.heap.size + 2 := by rw [hW2]; simp
  have x3 : w2.cell? ⟨b, 3, none⟩ = some (.slice kx ks.length kc) := by
    rw [hW2, cell_keep (Below.heap_alloc _ _ _ (by simp; omega)), cell_keep (Below.heap_alloc _ _ _ (by omega))]; exact n3'
  have hres : w2.heap[w.heap.size]? = some (.cells #[.int .i64 0, .int .i64 0] 27 (0, 0)) := by
    rw [hW2, Below.heap_alloc _ _ _ (by simp; omega), Below.heap_alloc _ _ _ (by omega), HB1.out.block _ (by simp)]
    exact heap_first _ _ rfl _
  have y0 : w2.cell? ⟨w.heap.size, 0, none⟩ = some (.int .i64 0) := cell_of_block hres rfl
  have y1 : w2.cell? ⟨w.heap.size, 1, none⟩ = some (.int .i64 0) := cell_of_block hres rfl
  have fy : ∀ o, w2.frozen? ⟨w.heap.size, o, none⟩ = false := fun o => frozen_of_block hres
  have fy0 := fy 0
  have fy1 := fy 1
  rw [← hW2] at hfp
  have hbl2 : b < w2.heap.size := by omega
  have hzw : w.heap.size < w2.heap.size := by omega
  have HRD2 : Hid (RepD (d0 + 1) (Btw (w.heap.size + 1) w1.heap.size) w2 (.pointer (some ⟨b, 0, none⟩)) (Hs.node [112, 114, 111, 103, 114, 97, 109] 0 [] ks)) := by
    refine RepD.mono (F := Btw (w.alloc (.cells #[.int .i64 0, .int .i64 0] 27)).heap.size w1.heap.size) (fun k hk => ⟨by have := hk.1; simpa using this, hk.2⟩) (RepD.keep (fun k hk => ?_) HRD.out) (Nat.le_refl _)
    have := hk.2
    rw [hW2, Below.heap_alloc _ _ _ (by simp; omega), Below.heap_alloc _ _ _ (by omega)]
  have HBEL := mkHid hbel0
  have HCK := mkHid hck0
  have HRES := mkHid hres
  clear hw2 hbel0 hck0 hres HRD HKD HC0 fy n0 n1 n2 n3' hc hf HB1
  generalize hcb : w1.heap.size + 1 = cb at *
  cases hfu : Hs.funcL ks [109, 97, 105, 110] with
  | none =>
    rw [hfu] at hfp
    obtain rfl : fp = .pointer none := hfp
    have HN : Hid (Hs.readL s.data.toList = (5, 0)) := by show _ = _; rw [HR.out]; unfold Hs.namesL; rw [hfu]
    clear hW2
    go_wp2_with fail
    refine bodyPost_ret (v := .tuple #[.pointer none, .agg #[.int .i64 5, .int .i64 0]]) (by simp [results, Tryz.results16, go_sem, y0, y1]) rfl ?_
    unfold readPost
    rw [HN.out]
    exact ⟨(HBEL.out.setCell (by simp) _).setCell (by simp) _, by rw [if_neg (by simp)]; rfl⟩
  | some m =>
    rw [hfu] at hfp
    obtain ⟨d1, mb, mkv, rfl, rfl, hmF, hml, m0, m1, m2, m3, hmk⟩ := hfp.cells
    obtain ⟨mkx, mkc, rfl⟩ := hmk.slice
    have hmem : m ∈ ks := List.mem_of_find?_eq_some hfu
    have hmkl : m.kids.length ≤ 2001 := FineA.len (FineL.mem HFI.out hmem)
    clear hW2 hfp hmk
    by_cases hmk1 : 1 < m.kids.length
    · have HN : Hid (Hs.readL s.data.toList = (5, 0)) := by show _ = _; rw [HR.out]; unfold Hs.namesL; rw [hfu]; simp [hmk1]
      go_wp2_with fail
      refine bodyPost_ret (v := .tuple #[.pointer none, .agg #[.int .i64 5, .int .i64 0]]) (by simp [results, Tryz.results16, go_sem, y0, y1]) rfl ?_
      unfold readPost
      rw [HN.out]
      exact ⟨(HBEL.out.setCell (by simp) _).setCell (by simp) _, by rw [if_neg (by simp)]; rfl⟩
    · have HN : Hid (Hs.readL s.data.toList = ((Hs.allL ks d1 [] ks ⟨[], 0, 0⟩).kind, (Hs.allL ks d1 [] ks ⟨[], 0, 0⟩).line)) := by
        show _ = _
        rw [HR.out]; unfold Hs.namesL; rw [hfu]
        simp only [hmk1, if_false]
        rw [allL_deep ks d1 2001 ks [] ⟨[], 0, 0⟩ fun n hn => ⟨?_, Hs.dp_of_fine _ _ (Hs.FineA.le (FineL.mem HFI.out hn) (by omega))⟩]
        exact (RepD.dp HRD2.out) n hn
      clear hmem m0 m1 m2
      go_wp2_with fail
      go_loopg [8, 9] ks.length (fun gk i er wr => ∃ k : Nat, k + gk = ks.length ∧ i = .int .i64 k ∧ Below cb w2 wr ∧ CkAt cb (w.heap.size + 1) ks (.slice kx ks.length kc) false wr (Hs.allL ks d1 [] (ks.take k) ⟨[], 0, 0⟩))
      case atStart => exact ⟨0, by omega, rfl, Below.refl _ _, HCK.out⟩
      case round =>
        obtain ⟨k, hkg, rfl, hbw, hck⟩ := hrel
        have hbb : wr.heap[b]? = w2.heap[b]? := hbw.block b (by omega)
        have q3 : wr.cell? ⟨b, 3, none⟩ = some (.slice kx ks.length kc) := (cell_keep hbb).trans x3
        have hblr : b < wr.heap.size := Nat.lt_of_lt_of_le hbl2 hbw.size
        clear hbb x3 m3
        by_cases hlt : k < ks.length
        · obtain ⟨j, rfl⟩ : ∃ j, gk = j + 1 := ⟨gk - 1, by omega⟩
          rcases HKD2.out.get with ⟨_, h0⟩ | ⟨g, cap, hkv, hgF, hgl, hcap, hget⟩
          · rw [h0] at hlt; simp at hlt
          obtain ⟨u, hu, hru⟩ := hget k hlt
          cases hkv
          have hgb : wr.heap[g]? = w2.heap[g]? := hbw.block g hgF.2
          have r0 : wr.cell? ⟨g, k, none⟩ = some u := (cell_keep hgb).trans hu
          have hgr : g < wr.heap.size := Nat.lt_of_lt_of_le hgl hbw.size
          have hruw := hru.keep (w' := wr) fun k hk => hbw.block k hk.2
          obtain ⟨d2, ub, ukv, hd2, rfl, huF, hul, u0, u1, u2, u3, -⟩ := hruw.cells
          have hfine := FineL.mem HFI.out (List.getElem_mem hlt)
          have hstep : Hs.allL ks d1 [] (ks.take (k + 1)) ⟨[], 0, 0⟩ = Hs.doesL ks d1 (Hs.allL ks d1 [] (ks.take k) ⟨[], 0, 0⟩) ks[k] (Hs.funcL (ks.take k) ks[k].text).isNone := by
            rw [List.take_succ_eq_append_getElem hlt, allL_snoc]; rfl
          have hlk : (ks.take k).length = k := by rw [List.length_take]; omega
          have hfn := function_some (ks.take k) ks[k].text g kc (Btw (w.heap.size + 1) cb) wr.drew (by omega) hgr (d1 + 1) (fun i hi => by
            obtain ⟨v, h1, h2⟩ := hget i (by omega)
            refine ⟨v, (cell_keep (hbw.block g hgF.2)).trans h1, ?_⟩
            rw [List.getElem_take]
            exact (h2.keep (w' := wr) fun k hk => hbw.block k hk.2).keepw rfl)
          rw [hlk] at hfn
          have HFN := mkHid hfn
          have HD := mkHid (fun first => does_any cb (w.heap.size + 1) ks _ (by omega) (fun f hf => Nat.le_trans (FineA.len (FineL.mem HFI.out hf)) (by omega)) d1 _ ks[k] _ wr.drew first (hck.keepw rfl) (hruw.keepw rfl) (hfine (d1 + 1 + 0)).2 (by have := (hfine (d1 + 1)).1; omega))
          have HST := mkHid hstep
          have HBW := mkHid hbw
          have hkc : k ≤ kc := by omega
          clear hstep hfn hbw hck hru hruw hget hgb hu hfine
          go_wp2_with fail
          go_cut [9] (fun er wc => wc = wr.drew ∧ fnOf (d1 + 1) (Btw (w.heap.size + 1) cb) wr.drew (Hs.funcL (ks.take k) ks[k].text) er)
          case first =>
            go_region_law (go_simp; go_at_call 46; refine HFN.out.mono ?_; rintro e w3 ⟨hw3, er, rfl, her⟩; obtain rfl := hw3.symm)
            all_goals
              go_wp2_with fail
              go_meet
              case rel => exact ⟨rfl, her⟩
          case rest =>
            obtain ⟨rfl, her⟩ := hcut
            clear HFN
            cases hfk2 : Hs.funcL (ks.take k) ks[k].text with
            | none =>
              rw [hfk2] at her HST
              obtain rfl : u9 = .pointer none := her
              go_wp2_with fail
              refine (HD.out true).mono ?_
              rintro e w4 ⟨rfl, hb4, hc4⟩
              go_wp2_with fail
              go_roundg j
              case measure => omega
              case rel => exact ⟨k + 1, by omega, by go_num, HBW.out.trans ((Below.refl _ _).drew.trans hb4), by rw [HST.out]; exact hc4⟩
            | some f =>
              rw [hfk2] at her HST
              obtain ⟨d3, fb, fkv, -, rfl, -⟩ := RepD.cells her
              go_wp2_with fail
              refine (HD.out false).mono ?_
              rintro e w4 ⟨rfl, hb4, hc4⟩
              go_wp2_with fail
              go_roundg j
              case measure => omega
              case rel => exact ⟨k + 1, by omega, by go_num, HBW.out.trans ((Below.refl _ _).drew.trans hb4), by rw [HST.out]; exact hc4⟩
        · obtain rfl : k = ks.length := by omega
          rw [List.take_length] at hck
          obtain ⟨sv1, hblk1, -⟩ := hck.blk
          obtain ⟨hlt1, -, -, -, c3, c4, -⟩ := ck_cells hblk1
          have hres1 : wr.heap[w.heap.size]? = _ := (hbw.block w.heap.size (by omega)).trans HRES.out
          have z0 : wr.cell? ⟨w.heap.size, 0, none⟩ = some (.int .i64 0) := cell_of_block hres1 rfl
          have z1 : wr.cell? ⟨w.heap.size, 1, none⟩ = some (.int .i64 0) := cell_of_block hres1 rfl
          have fz0 : wr.frozen? ⟨w.heap.size, 0, none⟩ = false := frozen_of_block hres1
          have fz1 : wr.frozen? ⟨w.heap.size, 1, none⟩ = false := frozen_of_block hres1
          have hzr : w.heap.size < wr.heap.size := Nat.lt_of_lt_of_le hzw hbw.size
          have HBW := mkHid (HBEL.out.trans (hbw.mono (by omega)))
          have HRD3 := mkHid (HRD2.out.keep (w' := wr) fun k hk => hbw.block k (by have := hk.2; omega))
          clear hblk1 hck hbw hres1 y0 y1 fy0 fy1
          generalize Hs.allL ks d1 [] ks ⟨[], 0, 0⟩ = s1 at *
          by_cases hk0 : s1.kind = 0
          · have e0 : ((s1.kind : Int) != 0) = false := by simp; omega
            go_wp2_with fail
            refine bodyPost_ret (v := .tuple #[.pointer (some ⟨b, 0, none⟩), .agg #[.int .i64 0, .int .i64 0]]) (by simp [results, Tryz.results16, go_sem, z0, z1]) rfl ?_
            unfold readPost
            rw [HN.out, if_pos (by exact hk0)]
            refine ⟨(HBW.out.setCell (by simp) _).setCell (by simp) _, b, ks, rfl, HPP.out, d1 + 1 + 1, RepD.mono (F := Btw (w.heap.size + 1) w1.heap.size) (fun k hk => ⟨by have := hk.1; omega, ?_⟩) (RepD.keep (fun k hk => ?_) HRD3.out) (Nat.le_refl _)⟩
            rotate_left
            · have h1 := hk.2
              simp; omega
            · have h1 := hk.1
              rw [Below.heap_setCell _ _ _ _ (by show k ≠ w.heap.size; omega), Below.heap_setCell _ _ _ _ (by show k ≠ w.heap.size; omega)]
          · have e0 : ((s1.kind : Int) != 0) = true := by simp; omega
            go_wp2_with fail
            go_region
            go_wp2_with fail
            refine bodyPost_ret (v := .tuple #[.pointer none, .agg #[.int .i64 s1.kind, .int .i64 s1.line]]) (by simp [results, Tryz.results16, go_sem, z0, z1]) rfl ?_
            unfold readPost
            rw [HN.out, if_neg (by exact hk0)]
            exact ⟨((HBW.out.setCell (by simp) _).setCell (by simp) _).drew, rfl⟩

/-- What is wrong with a source, by the document's answer. -/
theorem read_any (s : ByteArray) (w : World) (hg : RefTabs w) (hm : s.size ≤ maxLen) :
    Calls Tryz.prog 16 #[.string s] w (readPost w s.data.toList) := by
  cases hp : Hs.parsedL s.data.toList with
  | error f => exact read_err s w hg hm f.1 f.2 hp
  | ok ks => exact read_ok s w hg hm ks hp

end Go.Proofs.YtjdbaeeanifleaaGreatDoor
