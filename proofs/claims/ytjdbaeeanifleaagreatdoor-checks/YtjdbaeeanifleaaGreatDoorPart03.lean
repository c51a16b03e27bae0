/- Contracts of the document's answer: while, if, var. -/
import Derived.Test.YtjdbaeeanifleaaGreatDoorPart02
import Derived.Test.YtjdbaeeanifleaaGreatDoorPart00
namespace Go.Proofs.YtjdbaeeanifleaaGreatDoor
open Go.RowKit
attribute [local go_sem ↓] Go.wp_at_zero Go.wp_at_succ

set_option maxRecDepth 100000 in
set_option maxHeartbeats 4000000 in
theorem stmt_while (C : Ctx) (w : World) (p : Nat) (h : At C w p 0) (k0 : Hs.isT C.ts p [118, 97, 114] = false) (k1 : Hs.isT C.ts p [105, 102] = false) (k2 : Hs.isT C.ts p [119, 104, 105, 108, 101] = true) (E B : Nat → Hs.R Hs.Ast) (HE : Reads C 81 E) (HB : Reads C 198 B) (hr : E (p + 1) ≠ .error 0) (hr2 : onS (stR (E (p + 1))) B ≠ .error 0) :
    Calls Tryz.prog 256 #[.pointer (some ⟨C.pb, 0, none⟩)] w (PostN C w (Hs.mapR (fun v => Hs.node [119, 104, 105, 108, 101] (Hs.tk C.ts p).line [] (kidsOf (E (p + 1)) ++ [v])) (onS (stR (E (p + 1))) B))) := by
  obtain ⟨hpb, hgb, hlen⟩ := AtS.facts (S := .ok p) h
  obtain ⟨i0, hi, hz0, hz1, hz2⟩ := info_parts infoPtr
  have HP := mkHid (peek_any C w p 0 h)
  have HA := mkHid h
  have HEE := mkHid (And.intro HE hr)
  have HBB := mkHid (And.intro HB hr2)
  have HK := mkHid (And.intro k0 (And.intro k1 k2))
  have hfl := fld_line
  clear h k0 k1 k2 HE hr HB hr2
  go_enter Tryz.func256, Tryz.ntmps256
  go_wp2_with fail
  refine HP.out.mono ?_
  rw [tokV]
  rintro e w1 ⟨rfl, hb⟩
  have hsz1 := hb.size
  have HA0 := mkHid (fun o => (HA.out.below hb).below ((Below.refl _ _).alloc (Nat.le_refl _) o))
  have HF0 := mkHid (fun o => (Fr.below (pb := C.pb) hb).alloc o)
  clear hb HP
  go_wp2_with fail
  refine (eat_no C _ p 0 ⟨#[118, 97, 114]⟩ (HA0.out _) (by rw [show Hs.isT C.ts p (⟨#[118, 97, 114]⟩ : ByteArray).data.toList = false from HK.out.1]; rfl)).mono ?_
  rintro e v1 ⟨rfl, hbx⟩
  have HA1 := mkHid ((HA0.out _).below hbx)
  have HF1 := mkHid ((HF0.out _).trans_below hbx)
  have hnn := (hbx.block w1.heap.size (by simp)).trans (heap_first w1 _ rfl _)
  have HN1 := mkHid hnn
  clear hbx hnn
  have hzz1 := lt_of_block HN1.out
  go_wp2_with fail
  refine (eat_no C _ p 0 ⟨#[105, 102]⟩ HA1.out (by rw [show Hs.isT C.ts p (⟨#[105, 102]⟩ : ByteArray).data.toList = false from HK.out.2.1]; rfl)).mono ?_
  rintro e v2 ⟨rfl, hbx⟩
  have HA2 := mkHid (HA1.out.below hbx)
  have HF2 := mkHid (HF1.out.trans_below hbx)
  have hnn := (hbx.block w1.heap.size (by omega)).trans HN1.out
  have HN2 := mkHid hnn
  clear hbx hnn
  have hzz2 := lt_of_block HN2.out
  go_wp2_with fail
  refine (eat_ok C _ p ⟨#[119, 104, 105, 108, 101]⟩ HA2.out HK.out.2.2).mono ?_
  rintro e v3 ⟨rfl, hat, hfr⟩
  have HA3 := mkHid hat
  have HF3 := mkHid (HF2.out.trans hfr)
  have hnn := (hfr.block w1.heap.size (by omega) (by omega)).trans HN2.out
  have HN3 := mkHid hnn
  clear hat hfr hnn
  have hzz3 := lt_of_block HN3.out
  obtain ⟨hm0, m0, m1, m2, m3, f0, f2, f3⟩ := node_cells HN3.out
  have HBW := mkHid (heap_setCell_at (i := 0) (u := .string ⟨#[119, 104, 105, 108, 101]⟩) HN3.out)
  have HAW := mkHid (HA3.out.other (i := 0) (show w1.heap.size ≠ C.pb by omega) (show w1.heap.size ≠ C.g by omega) (.string ⟨#[119, 104, 105, 108, 101]⟩))
  have HFW := mkHid (Fr.setCell (p := ⟨w1.heap.size, 0, none⟩) HF3.out (Or.inr hsz1) (.string ⟨#[119, 104, 105, 108, 101]⟩))
  go_wp2_with fail
  clear m0 m1 m2 m3 f0 f2 f3
  generalize v3.setCell ⟨w1.heap.size, 0, none⟩ (.string ⟨#[119, 104, 105, 108, 101]⟩) = W at *
  have HM := mkHid (Made.new (op := [119, 104, 105, 108, 101]) (te := []) HBW.out)
  have HPk := mkHid (HM.out.part.keep (Fr.refl C.pb W).drew (by omega))
  have HMk : Hid (∀ a q', E (p + 1) = .ok (a, q') → Made w1.heap.size W.drew [119, 104, 105, 108, 101] [] (Hs.tk C.ts p).line (.slice none 0 0) ([])) := fun _ _ _ => HM.out.keep (Fr.refl C.pb W).drew (by omega)
  have HFk := mkHid HFW.out.drew
  have HC := mkHid (HEE.out.1 W.drew (.ok (p + 1)) (HAW.out.below (Below.refl _ _).drew) HEE.out.2)
  obtain ⟨hmk, -, -, -, mk3, -, -, fk3⟩ := node_cells (show W.heap[w1.heap.size]? = _ from HPk.out.blk)
  go_wp2_with fail
  go_cut [] (fun wc => Kid2 C w (w1.heap.size) [119, 104, 105, 108, 101] [] ((Hs.tk C.ts p).line) ([]) (0 + 1) (E (p + 1)) wc)
  case first =>
    go_region_law ((first | (refine step_append_lies _ (by rfl) _ _ 90 (by rfl) ((w1.heap.size) + 1) 25 i0 _ 1 8 Tryz.underlying90 hi hz0 hz1 hz2 rfl (by decide) (.slice none 0 0) (0) vs (by rfl) (hown.alloc _) ⟨w4.heap.size, 0, none⟩ 1 1 [.pointer (some ⟨b4, 0, none⟩)] (by rfl) (by rfl) (news_ptr _ _) (one_ptr _) (by decide) (by unfold maxLen; omega) (by omega) (by simp; omega) (w4.heap.size + 1) (by simp) ?_; intro g cap w5 hown5 hgrow5 hat5 hg5; have hB5 := node_grown hP4.blk hown hgrow5; obtain ⟨hz5, -, -, -, q3, -, -, e3⟩ := node_cells hB5) | (go_simp; go_at_call 81; refine HC.out.mono ?_; rintro e w4 ⟨hfr4, hat4, b4, rfl, hrep4⟩; have hP4 := HPk.out.keep hfr4 (by omega); obtain ⟨hz4, -, -, -, p3, -, -, f3⟩ := node_cells hP4.blk; obtain ⟨vs, hown⟩ := hP4.own)))
    all_goals
      go_wp2_with fail
      go_meet
      case rel => exact kid2_end HFk.out HPk.out HMk.out (by omega) (by omega) (by omega) hfr4 hat4 hrep4 hown hown5 hgrow5 hat5
  case rest =>
    obtain ⟨hfc, hatc, x, n, c, hpc, hmc⟩ := hcut
    have HX := mkHid (And.intro hfc (And.intro hatc (And.intro hpc hmc)))
    clear hfc hatc hpc hmc HPk HMk HFk HC mk3 fk3 hmk
    have HPk := mkHid (HX.out.2.2.1.keep (Fr.refl C.pb wc).drew (by omega))
    have HMk : Hid (∀ a q', onS (stR (E (p + 1))) B = .ok (a, q') → Made w1.heap.size wc.drew [119, 104, 105, 108, 101] [] (Hs.tk C.ts p).line (.slice x n c) (kidsOf (E (p + 1)))) := fun a q' ha => by
      cases h1 : E (p + 1) with
      | error l => rw [h1] at ha; cases ha
      | ok cq =>
        obtain ⟨c0, q0⟩ := cq
        exact (HX.out.2.2.2 c0 q0 h1).keep (Fr.refl C.pb wc).drew (by omega)
    have HFk := mkHid HX.out.1.drew
    have HC := mkHid (HBB.out.1 wc.drew (stR (E (p + 1))) (HX.out.2.1.below (Below.refl _ _).drew) HBB.out.2)
    obtain ⟨hmk, -, -, -, mk3, -, -, fk3⟩ := node_cells (show wc.heap[w1.heap.size]? = _ from HPk.out.blk)
    go_wp2_with fail
    go_region_law ((first | (refine step_append_lies _ (by rfl) _ _ 90 (by rfl) ((w1.heap.size) + 1) 25 i0 _ 1 8 Tryz.underlying90 hi hz0 hz1 hz2 rfl (by decide) (.slice x n c) (1) vs (by rfl) (hown.alloc _) ⟨w4.heap.size, 0, none⟩ 1 1 [.pointer (some ⟨b4, 0, none⟩)] (by rfl) (by rfl) (news_ptr _ _) (one_ptr _) (by decide) (by unfold maxLen; omega) (by omega) (by simp; omega) (w4.heap.size + 1) (by simp) ?_; intro g cap w5 hown5 hgrow5 hat5 hg5; have hB5 := node_grown hP4.blk hown hgrow5; obtain ⟨hz5, -, -, -, q3, -, -, e3⟩ := node_cells hB5) | (go_simp; go_at_call 198; refine HC.out.mono ?_; rintro e w4 ⟨hfr4, hat4, b4, rfl, hrep4⟩; have hP4 := HPk.out.keep hfr4 (by omega); obtain ⟨hz4, -, -, -, p3, -, -, f3⟩ := node_cells hP4.blk; obtain ⟨vs, hown⟩ := hP4.own)))
    all_goals
      have hcut2 : Kid2 C w w1.heap.size [119, 104, 105, 108, 101] [] (Hs.tk C.ts p).line (kidsOf (E (p + 1))) (1 + 1) (onS (stR (E (p + 1))) B) _ := kid2_end HFk.out HPk.out HMk.out (by omega) (by omega) (by omega) hfr4 hat4 hrep4 hown hown5 hgrow5 hat5
      have HCUT := mkHid hcut2
      clear hcut2 hfr4 hat4 hrep4 hown hown5 hgrow5 hat5 hP4 hB5
      go_wp2_with fail
      go_ret
      exact kid_last HCUT.out hsz1

/-- The parts of an 'if'. -/
def kidsIf (r1 r2 : Hs.R Hs.Ast) : List Hs.Ast := kidsOf r1 ++ kidsOf r2

set_option maxRecDepth 100000 in
set_option maxHeartbeats 4000000 in
theorem stmt_if_false (C : Ctx) (w : World) (p : Nat) (h : At C w p 0) (k0 : Hs.isT C.ts p [118, 97, 114] = false) (k1 : Hs.isT C.ts p [105, 102] = true) (E B : Nat → Hs.R Hs.Ast) (HE : Reads C 81 E) (HB : Reads C 198 B) (hr : E (p + 1) ≠ .error 0) (hr2 : onS (stR (E (p + 1))) B ≠ .error 0) (hel : isS C (stR (onS (stR (E (p + 1))) B)) [101, 108, 115, 101] = false) :
    Calls Tryz.prog 256 #[.pointer (some ⟨C.pb, 0, none⟩)] w (PostN C w (Hs.mapR (fun v => Hs.node [105, 102] (Hs.tk C.ts p).line [] (kidsOf (E (p + 1)) ++ [v])) (onS (stR (E (p + 1))) B))) := by
  obtain ⟨hpb, hgb, hlen⟩ := AtS.facts (S := .ok p) h
  obtain ⟨i0, hi, hz0, hz1, hz2⟩ := info_parts infoPtr
  have HP := mkHid (peek_any C w p 0 h)
  have HA := mkHid h
  have HEE := mkHid (And.intro HE hr)
  have HBB := mkHid (And.intro HB hr2)
  have HEL := mkHid hel
  have HK := mkHid (And.intro k0 k1)
  have hfl := fld_line
  clear h k0 k1 HE hr HB hr2 hel
  go_enter Tryz.func256, Tryz.ntmps256
  go_wp2_with fail
  refine HP.out.mono ?_
  rw [tokV]
  rintro e w1 ⟨rfl, hb⟩
  have hsz1 := hb.size
  have HA0 := mkHid (fun o => (HA.out.below hb).below ((Below.refl _ _).alloc (Nat.le_refl _) o))
  have HF0 := mkHid (fun o => (Fr.below (pb := C.pb) hb).alloc o)
  clear hb HP
  go_wp2_with fail
  refine (eat_no C _ p 0 ⟨#[118, 97, 114]⟩ (HA0.out _) (by rw [show Hs.isT C.ts p (⟨#[118, 97, 114]⟩ : ByteArray).data.toList = false from HK.out.1]; rfl)).mono ?_
  rintro e v1 ⟨rfl, hbx⟩
  have HA1 := mkHid ((HA0.out _).below hbx)
  have HF1 := mkHid ((HF0.out _).trans_below hbx)
  have hnn := (hbx.block w1.heap.size (by simp)).trans (heap_first w1 _ rfl _)
  have HN1 := mkHid hnn
  clear hbx hnn
  have hzz1 := lt_of_block HN1.out
  go_wp2_with fail
  refine (eat_ok C _ p ⟨#[105, 102]⟩ HA1.out HK.out.2).mono ?_
  rintro e v2 ⟨rfl, hat, hfr⟩
  have HA2 := mkHid hat
  have HF2 := mkHid (HF1.out.trans hfr)
  have hnn := (hfr.block w1.heap.size (by omega) (by omega)).trans HN1.out
  have HN2 := mkHid hnn
  clear hat hfr hnn
  have hzz2 := lt_of_block HN2.out
  obtain ⟨hm0, m0, m1, m2, m3, f0, f2, f3⟩ := node_cells HN2.out
  have HBW := mkHid (heap_setCell_at (i := 0) (u := .string ⟨#[105, 102]⟩) HN2.out)
  have HAW := mkHid (HA2.out.other (i := 0) (show w1.heap.size ≠ C.pb by omega) (show w1.heap.size ≠ C.g by omega) (.string ⟨#[105, 102]⟩))
  have HFW := mkHid (Fr.setCell (p := ⟨w1.heap.size, 0, none⟩) HF2.out (Or.inr hsz1) (.string ⟨#[105, 102]⟩))
  go_wp2_with fail
  clear m0 m1 m2 m3 f0 f2 f3
  generalize v2.setCell ⟨w1.heap.size, 0, none⟩ (.string ⟨#[105, 102]⟩) = W at *
  have HM := mkHid (Made.new (op := [105, 102]) (te := []) HBW.out)
  have HPk := mkHid (HM.out.part.keep (Fr.refl C.pb W).drew (by omega))
  have HMk : Hid (∀ a q', E (p + 1) = .ok (a, q') → Made w1.heap.size W.drew [105, 102] [] (Hs.tk C.ts p).line (.slice none 0 0) ([])) := fun _ _ _ => HM.out.keep (Fr.refl C.pb W).drew (by omega)
  have HFk := mkHid HFW.out.drew
  have HC := mkHid (HEE.out.1 W.drew (.ok (p + 1)) (HAW.out.below (Below.refl _ _).drew) HEE.out.2)
  obtain ⟨hmk, -, -, -, mk3, -, -, fk3⟩ := node_cells (show W.heap[w1.heap.size]? = _ from HPk.out.blk)
  go_wp2_with fail
  go_cut [] (fun wc => Kid2 C w (w1.heap.size) [105, 102] [] ((Hs.tk C.ts p).line) ([]) (0 + 1) (E (p + 1)) wc)
  case first =>
    go_region_law ((first | (refine step_append_lies _ (by rfl) _ _ 90 (by rfl) ((w1.heap.size) + 1) 25 i0 _ 1 8 Tryz.underlying90 hi hz0 hz1 hz2 rfl (by decide) (.slice none 0 0) (0) vs (by rfl) (hown.alloc _) ⟨w4.heap.size, 0, none⟩ 1 1 [.pointer (some ⟨b4, 0, none⟩)] (by rfl) (by rfl) (news_ptr _ _) (one_ptr _) (by decide) (by unfold maxLen; omega) (by omega) (by simp; omega) (w4.heap.size + 1) (by simp) ?_; intro g cap w5 hown5 hgrow5 hat5 hg5; have hB5 := node_grown hP4.blk hown hgrow5; obtain ⟨hz5, -, -, -, q3, -, -, e3⟩ := node_cells hB5) | (go_simp; go_at_call 81; refine HC.out.mono ?_; rintro e w4 ⟨hfr4, hat4, b4, rfl, hrep4⟩; have hP4 := HPk.out.keep hfr4 (by omega); obtain ⟨hz4, -, -, -, p3, -, -, f3⟩ := node_cells hP4.blk; obtain ⟨vs, hown⟩ := hP4.own)))
    all_goals
      go_wp2_with fail
      go_meet
      case rel => exact kid2_end HFk.out HPk.out HMk.out (by omega) (by omega) (by omega) hfr4 hat4 hrep4 hown hown5 hgrow5 hat5
  case rest =>
    obtain ⟨hfc, hatc, x, n, c, hpc, hmc⟩ := hcut
    have HX := mkHid (And.intro hfc (And.intro hatc (And.intro hpc hmc)))
    clear hfc hatc hpc hmc HPk HMk HFk HC mk3 fk3 hmk
    obtain ⟨wd, hwd⟩ : ∃ wd, wd = wc := ⟨_, rfl⟩
    rw [← hwd] at HX ⊢
    clear hwd
    have HPk := mkHid (HX.out.2.2.1.keep (Fr.refl C.pb wd).drew (by omega))
    have HMk : Hid (∀ a q', onS (stR (E (p + 1))) B = .ok (a, q') → Made w1.heap.size wd.drew [105, 102] [] (Hs.tk C.ts p).line (.slice x n c) (kidsOf (E (p + 1)))) := fun a q' ha => by
      cases h1 : E (p + 1) with
      | error l => rw [h1] at ha; cases ha
      | ok cq =>
        obtain ⟨c0, q0⟩ := cq
        exact (HX.out.2.2.2 c0 q0 h1).keep (Fr.refl C.pb wd).drew (by omega)
    have HFk := mkHid HX.out.1.drew
    have HC := mkHid (HBB.out.1 wd.drew (stR (E (p + 1))) (HX.out.2.1.below (Below.refl _ _).drew) HBB.out.2)
    obtain ⟨hmk, -, -, -, mk3, -, -, fk3⟩ := node_cells (show wd.heap[w1.heap.size]? = _ from HPk.out.blk)
    go_wp2_with fail
    go_cut [] (fun wc => Kid2 C w (w1.heap.size) [105, 102] [] ((Hs.tk C.ts p).line) (kidsOf (E (p + 1))) (1 + 1) (onS (stR (E (p + 1))) B) wc)
    case first =>
      go_region_law ((first | (refine step_append_lies _ (by rfl) _ _ 90 (by rfl) ((w1.heap.size) + 1) 25 i0 _ 1 8 Tryz.underlying90 hi hz0 hz1 hz2 rfl (by decide) (.slice x n c) (1) vs (by rfl) (hown.alloc _) ⟨w4.heap.size, 0, none⟩ 1 1 [.pointer (some ⟨b4, 0, none⟩)] (by rfl) (by rfl) (news_ptr _ _) (one_ptr _) (by decide) (by unfold maxLen; omega) (by omega) (by simp; omega) (w4.heap.size + 1) (by simp) ?_; intro g cap w5 hown5 hgrow5 hat5 hg5; have hB5 := node_grown hP4.blk hown hgrow5; obtain ⟨hz5, -, -, -, q3, -, -, e3⟩ := node_cells hB5) | (go_simp; go_at_call 198; refine HC.out.mono ?_; rintro e w4 ⟨hfr4, hat4, b4, rfl, hrep4⟩; have hP4 := HPk.out.keep hfr4 (by omega); obtain ⟨hz4, -, -, -, p3, -, -, f3⟩ := node_cells hP4.blk; obtain ⟨vs, hown⟩ := hP4.own)))
      all_goals
        go_wp2_with fail
        go_meet
        case rel => exact kid2_end HFk.out HPk.out HMk.out (by omega) (by omega) (by omega) hfr4 hat4 hrep4 hown hown5 hgrow5 hat5
    case rest =>
      have HK2 := mkHid hcut
      have hxe := eat_S C wc _ ⟨#[101, 108, 115, 101]⟩ hcut.at_
      rw [show isS C (stR (onS (stR (E (p + 1))) B)) (⟨#[101, 108, 115, 101]⟩ : ByteArray).data.toList = false from HEL.out] at hxe
      have HXE := mkHid hxe
      clear hcut HPk HMk HFk HC mk3 fk3 hmk hxe
      go_wp2_with fail
      refine HXE.out.mono ?_
      rintro e w6 ⟨rfl, hat6, hfr6⟩
      obtain ⟨f1, f2, f3⟩ := HK2.out
      obtain ⟨x', n', c', f4, f5⟩ := f3
      have HY := mkHid (And.intro (f1.trans hfr6) (And.intro hat6 (And.intro (f4.keep hfr6 (by omega)) (fun a q ha => (f5 a q ha).keep hfr6 (by omega)))))
      clear f1 f2 f4 f5 hat6 hfr6 HK2 HXE
      go_wp2_with fail
      go_ret
      obtain ⟨y1, y2, y3, y4⟩ := HY.out
      refine kid_last (len := 2) ⟨y1, ?_, x', n', c', y3, y4⟩ hsz1
      rw [show eatS C (stR (onS (stR (E (p + 1))) B)) (⟨#[101, 108, 115, 101]⟩ : ByteArray).data.toList = stR (onS (stR (E (p + 1))) B) from eatS_same HEL.out] at y2
      exact y2

set_option maxRecDepth 100000 in
set_option maxHeartbeats 4000000 in
theorem stmt_if_true (C : Ctx) (w : World) (p : Nat) (h : At C w p 0) (k0 : Hs.isT C.ts p [118, 97, 114] = false) (k1 : Hs.isT C.ts p [105, 102] = true) (E B : Nat → Hs.R Hs.Ast) (HE : Reads C 81 E) (HB : Reads C 198 B) (hr : E (p + 1) ≠ .error 0) (hr2 : onS (stR (E (p + 1))) B ≠ .error 0) (hel : isS C (stR (onS (stR (E (p + 1))) B)) [101, 108, 115, 101] = true) (hr3 : onS (eatS C (stR (onS (stR (E (p + 1))) B)) [101, 108, 115, 101]) B ≠ .error 0) :
    Calls Tryz.prog 256 #[.pointer (some ⟨C.pb, 0, none⟩)] w (PostN C w (Hs.mapR (fun v => Hs.node [105, 102] (Hs.tk C.ts p).line [] (kidsIf (E (p + 1)) (onS (stR (E (p + 1))) B) ++ [v])) (onS (eatS C (stR (onS (stR (E (p + 1))) B)) [101, 108, 115, 101]) B))) := by
  obtain ⟨hpb, hgb, hlen⟩ := AtS.facts (S := .ok p) h
  obtain ⟨i0, hi, hz0, hz1, hz2⟩ := info_parts infoPtr
  have HP := mkHid (peek_any C w p 0 h)
  have HA := mkHid h
  have HEE := mkHid (And.intro HE hr)
  have HBB := mkHid (And.intro HB (And.intro hr2 hr3))
  have HEL := mkHid hel
  have HK := mkHid (And.intro k0 k1)
  have hfl := fld_line
  clear h k0 k1 HE hr HB hr2 hel hr3
  go_enter Tryz.func256, Tryz.ntmps256
  go_wp2_with fail
  refine HP.out.mono ?_
  rw [tokV]
  rintro e w1 ⟨rfl, hb⟩
  have hsz1 := hb.size
  have HA0 := mkHid (fun o => (HA.out.below hb).below ((Below.refl _ _).alloc (Nat.le_refl _) o))
  have HF0 := mkHid (fun o => (Fr.below (pb := C.pb) hb).alloc o)
  clear hb HP
  go_wp2_with fail
  refine (eat_no C _ p 0 ⟨#[118, 97, 114]⟩ (HA0.out _) (by rw [show Hs.isT C.ts p (⟨#[118, 97, 114]⟩ : ByteArray).data.toList = false from HK.out.1]; rfl)).mono ?_
  rintro e v1 ⟨rfl, hbx⟩
  have HA1 := mkHid ((HA0.out _).below hbx)
  have HF1 := mkHid ((HF0.out _).trans_below hbx)
  have hnn := (hbx.block w1.heap.size (by simp)).trans (heap_first w1 _ rfl _)
  have HN1 := mkHid hnn
  clear hbx hnn
  have hzz1 := lt_of_block HN1.out
  go_wp2_with fail
  refine (eat_ok C _ p ⟨#[105, 102]⟩ HA1.out HK.out.2).mono ?_
  rintro e v2 ⟨rfl, hat, hfr⟩
  have HA2 := mkHid hat
  have HF2 := mkHid (HF1.out.trans hfr)
  have hnn := (hfr.block w1.heap.size (by omega) (by omega)).trans HN1.out
  have HN2 := mkHid hnn
  clear hat hfr hnn
  have hzz2 := lt_of_block HN2.out
  obtain ⟨hm0, m0, m1, m2, m3, f0, f2, f3⟩ := node_cells HN2.out
  have HBW := mkHid (heap_setCell_at (i := 0) (u := .string ⟨#[105, 102]⟩) HN2.out)
  have HAW := mkHid (HA2.out.other (i := 0) (show w1.heap.size ≠ C.pb by omega) (show w1.heap.size ≠ C.g by omega) (.string ⟨#[105, 102]⟩))
  have HFW := mkHid (Fr.setCell (p := ⟨w1.heap.size, 0, none⟩) HF2.out (Or.inr hsz1) (.string ⟨#[105, 102]⟩))
  go_wp2_with fail
  clear m0 m1 m2 m3 f0 f2 f3
  generalize v2.setCell ⟨w1.heap.size, 0, none⟩ (.string ⟨#[105, 102]⟩) = W at *
  have HM := mkHid (Made.new (op := [105, 102]) (te := []) HBW.out)
  have HPk := mkHid (HM.out.part.keep (Fr.refl C.pb W).drew (by omega))
  have HMk : Hid (∀ a q', E (p + 1) = .ok (a, q') → Made w1.heap.size W.drew [105, 102] [] (Hs.tk C.ts p).line (.slice none 0 0) ([])) := fun _ _ _ => HM.out.keep (Fr.refl C.pb W).drew (by omega)
  have HFk := mkHid HFW.out.drew
  have HC := mkHid (HEE.out.1 W.drew (.ok (p + 1)) (HAW.out.below (Below.refl _ _).drew) HEE.out.2)
  obtain ⟨hmk, -, -, -, mk3, -, -, fk3⟩ := node_cells (show W.heap[w1.heap.size]? = _ from HPk.out.blk)
  go_wp2_with fail
  go_cut [] (fun wc => Kid2 C w (w1.heap.size) [105, 102] [] ((Hs.tk C.ts p).line) ([]) (0 + 1) (E (p + 1)) wc)
  case first =>
    go_region_law ((first | (refine step_append_lies _ (by rfl) _ _ 90 (by rfl) ((w1.heap.size) + 1) 25 i0 _ 1 8 Tryz.underlying90 hi hz0 hz1 hz2 rfl (by decide) (.slice none 0 0) (0) vs (by rfl) (hown.alloc _) ⟨w4.heap.size, 0, none⟩ 1 1 [.pointer (some ⟨b4, 0, none⟩)] (by rfl) (by rfl) (news_ptr _ _) (one_ptr _) (by decide) (by unfold maxLen; omega) (by omega) (by simp; omega) (w4.heap.size + 1) (by simp) ?_; intro g cap w5 hown5 hgrow5 hat5 hg5; have hB5 := node_grown hP4.blk hown hgrow5; obtain ⟨hz5, -, -, -, q3, -, -, e3⟩ := node_cells hB5) | (go_simp; go_at_call 81; refine HC.out.mono ?_; rintro e w4 ⟨hfr4, hat4, b4, rfl, hrep4⟩; have hP4 := HPk.out.keep hfr4 (by omega); obtain ⟨hz4, -, -, -, p3, -, -, f3⟩ := node_cells hP4.blk; obtain ⟨vs, hown⟩ := hP4.own)))
    all_goals
      go_wp2_with fail
      go_meet
      case rel => exact kid2_end HFk.out HPk.out HMk.out (by omega) (by omega) (by omega) hfr4 hat4 hrep4 hown hown5 hgrow5 hat5
  case rest =>
    obtain ⟨hfc, hatc, x, n, c, hpc, hmc⟩ := hcut
    have HX := mkHid (And.intro hfc (And.intro hatc (And.intro hpc hmc)))
    clear hfc hatc hpc hmc HPk HMk HFk HC mk3 fk3 hmk
    obtain ⟨wd, hwd⟩ : ∃ wd, wd = wc := ⟨_, rfl⟩
    rw [← hwd] at HX ⊢
    clear hwd
    have HPk := mkHid (HX.out.2.2.1.keep (Fr.refl C.pb wd).drew (by omega))
    have HMk : Hid (∀ a q', onS (stR (E (p + 1))) B = .ok (a, q') → Made w1.heap.size wd.drew [105, 102] [] (Hs.tk C.ts p).line (.slice x n c) (kidsOf (E (p + 1)))) := fun a q' ha => by
      cases h1 : E (p + 1) with
      | error l => rw [h1] at ha; cases ha
      | ok cq =>
        obtain ⟨c0, q0⟩ := cq
        exact (HX.out.2.2.2 c0 q0 h1).keep (Fr.refl C.pb wd).drew (by omega)
    have HFk := mkHid HX.out.1.drew
    have HC := mkHid (HBB.out.1 wd.drew (stR (E (p + 1))) (HX.out.2.1.below (Below.refl _ _).drew) HBB.out.2.1)
    obtain ⟨hmk, -, -, -, mk3, -, -, fk3⟩ := node_cells (show wd.heap[w1.heap.size]? = _ from HPk.out.blk)
    go_wp2_with fail
    go_cut [] (fun wc => Kid2 C w (w1.heap.size) [105, 102] [] ((Hs.tk C.ts p).line) (kidsOf (E (p + 1))) (1 + 1) (onS (stR (E (p + 1))) B) wc)
    case first =>
      go_region_law ((first | (refine step_append_lies _ (by rfl) _ _ 90 (by rfl) ((w1.heap.size) + 1) 25 i0 _ 1 8 Tryz.underlying90 hi hz0 hz1 hz2 rfl (by decide) (.slice x n c) (1) vs (by rfl) (hown.alloc _) ⟨w4.heap.size, 0, none⟩ 1 1 [.pointer (some ⟨b4, 0, none⟩)] (by rfl) (by rfl) (news_ptr _ _) (one_ptr _) (by decide) (by unfold maxLen; omega) (by omega) (by simp; omega) (w4.heap.size + 1) (by simp) ?_; intro g cap w5 hown5 hgrow5 hat5 hg5; have hB5 := node_grown hP4.blk hown hgrow5; obtain ⟨hz5, -, -, -, q3, -, -, e3⟩ := node_cells hB5) | (go_simp; go_at_call 198; refine HC.out.mono ?_; rintro e w4 ⟨hfr4, hat4, b4, rfl, hrep4⟩; have hP4 := HPk.out.keep hfr4 (by omega); obtain ⟨hz4, -, -, -, p3, -, -, f3⟩ := node_cells hP4.blk; obtain ⟨vs, hown⟩ := hP4.own)))
      all_goals
        go_wp2_with fail
        go_meet
        case rel => exact kid2_end HFk.out HPk.out HMk.out (by omega) (by omega) (by omega) hfr4 hat4 hrep4 hown hown5 hgrow5 hat5
    case rest =>
      have HK2 := mkHid hcut
      have hxe := eat_S C wc _ ⟨#[101, 108, 115, 101]⟩ hcut.at_
      rw [show isS C (stR (onS (stR (E (p + 1))) B)) (⟨#[101, 108, 115, 101]⟩ : ByteArray).data.toList = true from HEL.out] at hxe
      have HXE := mkHid hxe
      clear hcut HPk HMk HFk HC mk3 fk3 hmk hxe
      go_wp2_with fail
      refine HXE.out.mono ?_
      rintro e w6 ⟨rfl, hat6, hfr6⟩
      obtain ⟨f1, f2, f3⟩ := HK2.out
      obtain ⟨x', n', c', f4, f5⟩ := f3
      have HY := mkHid (And.intro (f1.trans hfr6) (And.intro hat6 (And.intro (f4.keep hfr6 (by omega)) (fun a q ha => (f5 a q ha).keep hfr6 (by omega)))))
      clear f1 f2 f4 f5 hat6 hfr6 HK2 HXE
      have HPk := mkHid (HY.out.2.2.1.keep (Fr.refl C.pb w6).drew (by omega))
      have HMk : Hid (∀ a q', onS (eatS C (stR (onS (stR (E (p + 1))) B)) [101, 108, 115, 101]) B = .ok (a, q') → Made w1.heap.size w6.drew [105, 102] [] (Hs.tk C.ts p).line (.slice x' n' c') (kidsIf (E (p + 1)) (onS (stR (E (p + 1))) B))) := fun a q' ha => by
        cases h2 : onS (stR (E (p + 1))) B with
        | error l => rw [h2] at ha; cases ha
        | ok bq =>
          obtain ⟨b0, q1⟩ := bq
          cases h1 : E (p + 1) with
          | error l => rw [h1] at h2; cases h2
          | ok cq =>
            obtain ⟨c0, q0⟩ := cq
            have hy := HY.out.2.2.2 b0 q1 h2
            rw [h1] at hy
            exact hy.keep (Fr.refl C.pb w6).drew (by omega)
      have HFk := mkHid HY.out.1.drew
      have HC := mkHid (HBB.out.1 w6.drew (eatS C (stR (onS (stR (E (p + 1))) B)) [101, 108, 115, 101]) (HY.out.2.1.below (Below.refl _ _).drew) HBB.out.2.2)
      obtain ⟨hmk, -, -, -, mk3, -, -, fk3⟩ := node_cells (show w6.heap[w1.heap.size]? = _ from HPk.out.blk)
      go_wp2_with fail
      go_region_law ((first | (refine step_append_lies _ (by rfl) _ _ 90 (by rfl) ((w1.heap.size) + 1) 25 i0 _ 1 8 Tryz.underlying90 hi hz0 hz1 hz2 rfl (by decide) (.slice x' n' c') (2) vs (by rfl) (hown.alloc _) ⟨w4.heap.size, 0, none⟩ 1 1 [.pointer (some ⟨b4, 0, none⟩)] (by rfl) (by rfl) (news_ptr _ _) (one_ptr _) (by decide) (by unfold maxLen; omega) (by omega) (by simp; omega) (w4.heap.size + 1) (by simp) ?_; intro g cap w5 hown5 hgrow5 hat5 hg5; have hB5 := node_grown hP4.blk hown hgrow5; obtain ⟨hz5, -, -, -, q3, -, -, e3⟩ := node_cells hB5) | (go_simp; go_at_call 198; refine HC.out.mono ?_; rintro e w4 ⟨hfr4, hat4, b4, rfl, hrep4⟩; have hP4 := HPk.out.keep hfr4 (by omega); obtain ⟨hz4, -, -, -, p3, -, -, f3⟩ := node_cells hP4.blk; obtain ⟨vs, hown⟩ := hP4.own)))
      all_goals
        have hcut2 : Kid2 C w w1.heap.size [105, 102] [] (Hs.tk C.ts p).line (kidsIf (E (p + 1)) (onS (stR (E (p + 1))) B)) (2 + 1) (onS (eatS C (stR (onS (stR (E (p + 1))) B)) [101, 108, 115, 101]) B) _ := kid2_end HFk.out HPk.out HMk.out (by omega) (by omega) (by omega) hfr4 hat4 hrep4 hown hown5 hgrow5 hat5
        have HCUT := mkHid hcut2
        clear hcut2 hfr4 hat4 hrep4 hown hown5 hgrow5 hat5 hP4 hB5
        go_wp2_with fail
        go_ret
        exact kid_last HCUT.out hsz1

end Go.Proofs.YtjdbaeeanifleaaGreatDoor

/- Contracts of the document's answer: var; any statement; all blocks. -/
namespace Go.Proofs.YtjdbaeeanifleaaGreatDoor
open Go.RowKit
attribute [local go_sem ↓] Go.wp_at_zero Go.wp_at_succ

/-- A new node without parts becomes the first part. -/
theorem first_kid {nb pb : Nat} (hp : pb < nb) {w w5 : World} {op te top tte : List UInt8} {li tli g cap : Nat} (hm : Made nb w op te li (.slice none 0 0) [])
    (hown5 : w5.ownsRow (nb + 1) 25 1 (.slice (some ⟨g, 0, none⟩) (0 + 1) cap) (0 + 1) ([] ++ [.pointer (some ⟨w.heap.size, 0, none⟩)]))
    (hgrow5 : ((w.alloc (.cells #[.string (bs top), .int .i64 tli, .string (bs tte), .slice none 0 0] 92)).alloc (.cells #[.pointer (some ⟨w.heap.size, 0, none⟩)] 25)).grownBy w5 (Value.slice none 0 0).ownBlock) (hat5 : (Value.slice none 0 0).ownBlock = some g ∨ g = w.heap.size + 1 + 1) :
    Made nb (w5.setCell ⟨nb, 3, none⟩ (.slice (some ⟨g, 0, none⟩) (0 + 1) cap)) op te li (.slice (some ⟨g, 0, none⟩) (0 + 1) cap) ([] ++ [Hs.node top tli tte []]) := by
  refine Made.snoc (pb := pb) (vs := []) (w3 := w.alloc (.cells #[.string (bs top), .int .i64 tli, .string (bs tte), .slice none 0 0] 92)) (F := fun _ => False) hm ((Fr.refl _ _).alloc _) hp trivial (fun _ h => h.elim) (fun k hk => Below.heap_alloc _ _ _ hk) (by simp) hown5 hgrow5 (hat5.imp_right (fun e => by simp; omega)) _ ?_
  exact Rep.mk ⟨Nat.le_refl _, by simp⟩ (heap_first _ _ rfl _) (Or.inl ⟨rfl, rfl⟩)

set_option maxRecDepth 100000 in
set_option maxHeartbeats 4000000 in
theorem stmt_var (C : Ctx) (w : World) (p : Nat) (h : At C w p 0) (k0 : Hs.isT C.ts p [118, 97, 114] = true) (E : Nat → Hs.R Hs.Ast) (HE : Reads C 81 E) (hr : onS (takeS C (nameS C (.ok (p + 1))) [61]) E ≠ .error 0) :
    Calls Tryz.prog 256 #[.pointer (some ⟨C.pb, 0, none⟩)] w (PostN C w (Hs.thenTake C.ts [59] (Hs.mapR (fun v => Hs.node [118, 97, 114] (Hs.tk C.ts p).line [] ([Hs.node [116, 97, 114, 103, 101, 116] (nameL C (.ok (p + 1))) (nameT C (.ok (p + 1))) []] ++ [v])) (onS (takeS C (nameS C (.ok (p + 1))) [61]) E)))) := by
  obtain ⟨hpb, hgb, hlen⟩ := AtS.facts (S := .ok p) h
  obtain ⟨i0, hi, hz0, hz1, hz2⟩ := info_parts infoPtr
  have HP := mkHid (peek_any C w p 0 h)
  have HA := mkHid h
  have HEE := mkHid (And.intro HE hr)
  have HK := mkHid k0
  have hfl := fld_line
  clear h k0 HE hr
  go_enter Tryz.func256, Tryz.ntmps256
  go_wp2_with fail
  refine HP.out.mono ?_
  rw [tokV]
  rintro e w1 ⟨rfl, hb⟩
  have hsz1 := hb.size
  have HA0 := mkHid (fun o => (HA.out.below hb).below ((Below.refl _ _).alloc (Nat.le_refl _) o))
  have HF0 := mkHid (fun o => (Fr.below (pb := C.pb) hb).alloc o)
  clear hb HP
  go_wp2_with fail
  refine (eat_ok C _ p ⟨#[118, 97, 114]⟩ (HA0.out _) HK.out).mono ?_
  rintro e v1 ⟨rfl, hat, hfr⟩
  have HA1 := mkHid hat
  have HF1 := mkHid ((HF0.out _).trans hfr)
  have hnn := (hfr.block w1.heap.size (by simp) (by omega)).trans (heap_first w1 _ rfl _)
  have HN1 := mkHid hnn
  clear hat hfr hnn
  have hzz1 := lt_of_block HN1.out
  obtain ⟨hm0, m0, m1, m2, m3, f0, f2, f3⟩ := node_cells HN1.out
  have HBW := mkHid (heap_setCell_at (i := 0) (u := .string ⟨#[118, 97, 114]⟩) HN1.out)
  have HAW := mkHid (HA1.out.other (i := 0) (show w1.heap.size ≠ C.pb by omega) (show w1.heap.size ≠ C.g by omega) (.string ⟨#[118, 97, 114]⟩))
  have HFW := mkHid (Fr.setCell (p := ⟨w1.heap.size, 0, none⟩) HF1.out (Or.inr hsz1) (.string ⟨#[118, 97, 114]⟩))
  go_wp2_with fail
  clear m0 m1 m2 m3 f0 f2 f3
  generalize v1.setCell ⟨w1.heap.size, 0, none⟩ (.string ⟨#[118, 97, 114]⟩) = W at *
  have HM := mkHid (Made.new (op := [118, 97, 114]) (te := []) HBW.out)
  refine (name_S C W (.ok (p + 1)) HAW.out).mono ?_
  rintro e w2 ⟨rfl, hat2, hfr2⟩
  have HM2 := mkHid (HM.out.keep hfr2 (by omega))
  have HF2 := mkHid (HFW.out.trans hfr2)
  have HA2 := mkHid hat2
  obtain ⟨hm2, -, -, -, m3, -, -, f3⟩ := node_cells HM2.out.blk
  clear hat2 hfr2
  go_wp2_with (at_builtin; refine wpList_append_lies _ (by rfl) _ _ 90 (by rfl) (w1.heap.size + 1) 25 i0 _ 1 8 Tryz.underlying90 hi hz0 hz1 hz2 rfl (by decide) (.slice none 0 0) 0 [] (by rfl) (World.ownsRow_nil _ _ _ _) ⟨w2.heap.size + 1, 0, none⟩ 1 1 [.pointer (some ⟨w2.heap.size, 0, none⟩)] (by rfl) (by rfl) (news_at _ _ _ (by simp)) (one_ptr _) (by decide) (by unfold maxLen; omega) (by omega) (by simp; omega) (w2.heap.size + 1 + 1) (by simp) ?_)
  intro g cap w5 hown5 hgrow5 hat5 hg5
  have hB5 := node_grown0 HM2.out.blk hgrow5
  obtain ⟨hz5, -, -, -, q3, -, -, e3⟩ := node_cells hB5
  have HM5 := mkHid (first_kid (pb := C.pb) (by omega) HM2.out hown5 hgrow5 hat5)
  have HF5 := mkHid (Fr.setCell (p := ⟨w1.heap.size, 3, none⟩) (((HF2.out.alloc _).alloc _).grown hgrow5 (fun k hk => by cases hk)) (Or.inr hsz1) (.slice (some ⟨g, 0, none⟩) (0 + 1) cap))
  have HA5 := mkHid ((((HA2.out.alloc _).alloc _).grown (base := w1.heap.size) hgrow5 (fun k hk => by cases hk) (by omega) (by omega)).other (i := 3) (show w1.heap.size ≠ C.pb by omega) (show w1.heap.size ≠ C.g by omega) (.slice (some ⟨g, 0, none⟩) (0 + 1) cap))
  clear hown5 hgrow5 hat5 hB5
  go_wp2_with fail
  clear q3 e3
  generalize w5.setCell ⟨w1.heap.size, 3, none⟩ (.slice (some ⟨g, 0, none⟩) (0 + 1) cap) = V at *
  refine (take_S C V _ ⟨#[61]⟩ HA5.out).mono ?_
  rintro e w6 ⟨rfl, hat6, hfr6⟩
  have HM6 := mkHid (HM5.out.keep hfr6 (by omega))
  have HF6 := mkHid (HF5.out.trans hfr6)
  have HA6 := mkHid hat6
  clear hat6 hfr6 HM5 HF5 HA5
  have HPk := mkHid (HM6.out.part.keep (Fr.refl C.pb w6).drew (by omega))
  have HMk : Hid (∀ a q', onS (takeS C (nameS C (.ok (p + 1))) [61]) E = .ok (a, q') → Made w1.heap.size w6.drew [118, 97, 114] [] (Hs.tk C.ts p).line (.slice (some ⟨g, 0, none⟩) (0 + 1) cap) ([Hs.node [116, 97, 114, 103, 101, 116] (nameL C (.ok (p + 1))) (nameT C (.ok (p + 1))) []])) := fun _ _ _ => HM6.out.keep (Fr.refl C.pb w6).drew (by omega)
  have HFk := mkHid HF6.out.drew
  have HC := mkHid (HEE.out.1 w6.drew (takeS C (nameS C (.ok (p + 1))) [61]) (HA6.out.below (Below.refl _ _).drew) HEE.out.2)
  obtain ⟨hmk, -, -, -, mk3, -, -, fk3⟩ := node_cells (show w6.heap[w1.heap.size]? = _ from HPk.out.blk)
  go_wp2_with fail
  go_cut [] (fun wc => Kid2 C w (w1.heap.size) [118, 97, 114] [] ((Hs.tk C.ts p).line) ([Hs.node [116, 97, 114, 103, 101, 116] (nameL C (.ok (p + 1))) (nameT C (.ok (p + 1))) []]) (1 + 1) (onS (takeS C (nameS C (.ok (p + 1))) [61]) E) wc)
  case first =>
    go_region_law ((first | (refine step_append_lies _ (by rfl) _ _ 90 (by rfl) ((w1.heap.size) + 1) 25 i0 _ 1 8 Tryz.underlying90 hi hz0 hz1 hz2 rfl (by decide) (.slice (some ⟨g, 0, none⟩) (0 + 1) cap) (1) vs (by rfl) (hown.alloc _) ⟨w4.heap.size, 0, none⟩ 1 1 [.pointer (some ⟨b4, 0, none⟩)] (by rfl) (by rfl) (news_ptr _ _) (one_ptr _) (by decide) (by unfold maxLen; omega) (by omega) (by simp; omega) (w4.heap.size + 1) (by simp) ?_; intro g cap w5 hown5 hgrow5 hat5 hg5; have hB5 := node_grown hP4.blk hown hgrow5; obtain ⟨hz5, -, -, -, q3, -, -, e3⟩ := node_cells hB5) | (go_simp; go_at_call 81; refine HC.out.mono ?_; rintro e w4 ⟨hfr4, hat4, b4, rfl, hrep4⟩; have hP4 := HPk.out.keep hfr4 (by omega); obtain ⟨hz4, -, -, -, p3, -, -, f3⟩ := node_cells hP4.blk; obtain ⟨vs, hown⟩ := hP4.own)))
    all_goals
      go_wp2_with fail
      go_meet
      case rel => exact kid2_end HFk.out HPk.out HMk.out (by omega) (by omega) (by omega) hfr4 hat4 hrep4 hown hown5 hgrow5 hat5
  case rest =>
    have HKK := mkHid hcut
    have HTK := mkHid (take_S C wc _ ⟨#[59]⟩ hcut.at_)
    clear hcut
    go_wp2_with fail
    refine HTK.out.mono ?_
    rintro e w8 ⟨rfl, hat8, hfr8⟩
    go_wp2_with fail
    go_ret
    exact semi_end HKK.out hfr8 hat8 (by omega) hsz1

/-- Any statement. -/
theorem stmt_reads (C : Ctx) (E B : Nat → Hs.R Hs.Ast) (HE : Reads C 81 E) (HB : Reads C 198 B) : Reads C 256 (Hs.stmtP E B C.ts) := by
  intro w S h hr
  cases S with
  | error l => exact stmt_simple C E HE w (.error l) h rfl rfl rfl rfl rfl hr
  | ok p =>
    have hat : At C w p 0 := h
    have hr' : Hs.stmtP E B C.ts p ≠ .error 0 := hr
    show Calls _ _ _ _ (PostN C w (Hs.stmtP E B C.ts p))
    unfold Hs.stmtP at hr' ⊢
    cases k0 : Hs.isT C.ts p [118, 97, 114]
    · rw [k0, if_neg (by simp)] at hr'
      rw [if_neg (by simp)]
      cases k1 : Hs.isT C.ts p [105, 102]
      · rw [k1, if_neg (by simp)] at hr'
        rw [if_neg (by simp)]
        cases k2 : Hs.isT C.ts p [119, 104, 105, 108, 101]
        · rw [k2, if_neg (by simp)] at hr'
          rw [if_neg (by simp)]
          cases k3 : Hs.isT C.ts p [114, 101, 116, 117, 114, 110]
          · rw [k3, if_neg (by simp)] at hr'
            rw [if_neg (by simp)]
            cases k4 : Hs.isT C.ts p [112, 114, 105, 110, 116]
            · rw [k4, if_neg (by simp)] at hr'
              exact stmt_simple C E HE w (.ok p) h k0 k1 k2 k3 k4 hr'
            · rw [k4, if_pos rfl] at hr'
              exact stmt_print C w p hat k0 k1 k2 k3 k4 E HE (fun e => hr' (by unfold Hs.printP; rw [e]; rfl))
          · rw [k3, if_pos rfl] at hr'
            rw [if_pos rfl]
            unfold Hs.returnP at hr' ⊢
            cases h59 : Hs.isT C.ts (p + 1) [59]
            · rw [h59, if_neg (by simp)] at hr'
              rw [if_neg (by simp)]
              exact stmt_return1 C w p hat k0 k1 k2 k3 E HE h59 (fun e => hr' (by rw [e]; rfl))
            · exact stmt_return0 C w p hat k0 k1 k2 k3 h59
        · rw [k2, if_pos rfl] at hr'
          rw [if_pos rfl]
          have e : Hs.whileP E B C.ts p = Hs.mapR (fun v => Hs.node [119, 104, 105, 108, 101] (Hs.tk C.ts p).line [] (kidsOf (E (p + 1)) ++ [v])) (onS (stR (E (p + 1))) B) := by
            unfold Hs.whileP
            cases E (p + 1) <;> rfl
          rw [e] at hr' ⊢
          exact stmt_while C w p hat k0 k1 k2 E B HE HB (fun e => hr' (by rw [e]; rfl)) (fun e => hr' (by rw [e]; rfl))
      · rw [k1, if_pos rfl] at hr'
        rw [if_pos rfl]
        have e1 : E (p + 1) ≠ .error 0 := fun e => hr' (by unfold Hs.ifP; rw [e]; rfl)
        have e2 : onS (stR (E (p + 1))) B ≠ .error 0 := fun e => hr' (by
          unfold Hs.ifP
          cases hE : E (p + 1) with
          | error l => rw [hE] at e; exact e
          | ok cq => rw [hE] at e; obtain ⟨c, q⟩ := cq; show Hs.bindR (B q) _ = _; rw [show B q = .error 0 from e]; rfl)
        cases hel : isS C (stR (onS (stR (E (p + 1))) B)) [101, 108, 115, 101]
        · have e : Hs.ifP E B C.ts p = Hs.mapR (fun v => Hs.node [105, 102] (Hs.tk C.ts p).line [] (kidsOf (E (p + 1)) ++ [v])) (onS (stR (E (p + 1))) B) := by
            unfold Hs.ifP
            cases hE : E (p + 1) with
            | error l => rfl
            | ok cq =>
              obtain ⟨c, q⟩ := cq
              rw [hE] at hel
              show Hs.bindR (B q) _ = Hs.mapR _ (B q)
              cases hB : B q with
              | error l => rfl
              | ok bq =>
                obtain ⟨b, q2⟩ := bq
                have hel' : Hs.isT C.ts q2 [101, 108, 115, 101] = false := by
                  rw [show onS (stR (.ok (c, q) : Hs.R Hs.Ast)) B = B q from rfl, hB] at hel; exact hel
                show (if Hs.isT C.ts q2 [101, 108, 115, 101] then _ else _) = _
                rw [hel', if_neg (by simp)]; rfl
          rw [e]
          exact stmt_if_false C w p hat k0 k1 E B HE HB e1 e2 hel
        · have e : Hs.ifP E B C.ts p = Hs.mapR (fun v => Hs.node [105, 102] (Hs.tk C.ts p).line [] (kidsIf (E (p + 1)) (onS (stR (E (p + 1))) B) ++ [v])) (onS (eatS C (stR (onS (stR (E (p + 1))) B)) [101, 108, 115, 101]) B) := by
            unfold Hs.ifP
            cases hE : E (p + 1) with
            | error l => rw [hE] at hel; cases hel
            | ok cq =>
              obtain ⟨c, q⟩ := cq
              rw [hE] at hel
              rw [show onS (stR (.ok (c, q) : Hs.R Hs.Ast)) B = B q from rfl] at hel ⊢
              cases hB : B q with
              | error l => rw [hB] at hel; cases hel
              | ok bq =>
                obtain ⟨b, q2⟩ := bq
                rw [hB] at hel
                have hel' : Hs.isT C.ts q2 [101, 108, 115, 101] = true := hel
                show (Hs.bindR (B q) fun b q2 => _) = _
                rw [hB, show eatS C (stR (.ok (b, q2) : Hs.R Hs.Ast)) [101, 108, 115, 101] = .ok (q2 + 1) from eatS_yes hel']
                show (if Hs.isT C.ts q2 [101, 108, 115, 101] then _ else _) = _
                rw [hel', if_pos rfl]; rfl
          rw [e] at hr' ⊢
          exact stmt_if_true C w p hat k0 k1 E B HE HB e1 e2 hel (fun e0 => hr' (by rw [e0]; rfl))
    · rw [k0, if_pos rfl] at hr'
      rw [if_pos rfl]
      have e : Hs.varP E C.ts p = Hs.thenTake C.ts [59] (Hs.mapR (fun v => Hs.node [118, 97, 114] (Hs.tk C.ts p).line [] ([Hs.node [116, 97, 114, 103, 101, 116] (nameL C (.ok (p + 1))) (nameT C (.ok (p + 1))) []] ++ [v])) (onS (takeS C (nameS C (.ok (p + 1))) [61]) E)) := by
        unfold Hs.varP
        by_cases h110 : (Hs.tk C.ts (p + 1)).sort = 110
        · obtain ⟨f1, f2, f3⟩ := nameS_yes h110
          rw [if_pos (by rw [h110]; rfl), f1, f2, f3]
          cases h61 : Hs.isT C.ts (p + 2) [61]
          · rw [takeS_no (show Hs.isT C.ts (p + 1 + 1) [61] = false from h61)]; rfl
          · rw [takeS_yes (show Hs.isT C.ts (p + 1 + 1) [61] = true from h61)]; rfl
        · obtain ⟨f1, f2, f3⟩ := nameS_no h110
          have e0 : ((Hs.tk C.ts (p + 1)).sort == 110) = false := by simpa using h110
          rw [f1, if_neg (by rw [e0]; simp)]; rfl
      rw [e] at hr' ⊢
      exact stmt_var C w p hat k0 E HE (fun e0 => hr' (by rw [e0]; rfl))

/-- Blocks, to any depth. -/
theorem blocks_reads (C : Ctx) (E : Nat → Hs.R Hs.Ast) (HE : Reads C 81 E) (f : Nat) : Reads C 198 (Hs.blockP E C.ts f) := by
  induction f with
  | zero =>
    intro w S h hr
    cases S with
    | ok p => exact absurd rfl hr
    | error l => exact block_er C w l h
  | succ f ih => exact block_reads C E f (stmt_reads C E _ HE ih)

end Go.Proofs.YtjdbaeeanifleaaGreatDoor

/- Contracts of the document's answer: a function. -/
namespace Go.Proofs.YtjdbaeeanifleaaGreatDoor
open Go.RowKit
attribute [local go_sem ↓] Go.wp_at_zero Go.wp_at_succ

/-- A parameter, or the fault that is there in its place. -/
def paramR (C : Ctx) (S : Except Nat Nat) : Hs.R Hs.Ast :=
  match nameS C S with
  | .ok q => .ok (Hs.node [112, 97, 114, 97, 109] (nameL C S) (nameT C S) [], q)
  | .error l => .error l
theorem paramR_st (C : Ctx) (S : Except Nat Nat) : stR (paramR C S) = nameS C S := by
  unfold paramR; cases nameS C S <;> rfl

/-- What holds at the head of the loop over parameters. -/
def ParamInv (C : Ctx) (w : World) (nb : Nat) (te : List UInt8) (li : Nat) (r : Hs.R (List Hs.Ast)) (k : Nat) (more : Value) (wr : World) : Prop :=
  Fr C.pb w wr ∧ ∃ x n c len, Part nb wr [102, 117, 110, 99] te li (.slice x n c) len ∧ len + k ≤ 4000 ∧
  ((more = .bool true ∧ ∃ q acc, At C wr q 0 ∧ r = Hs.paramLoop C.ts k q acc ∧ Made nb wr [102, 117, 110, 99] te li (.slice x n c) acc) ∨
   (∃ b, more = .bool b ∧ (b = true → ∃ l, r = .error l) ∧ AtS C wr (stR r) ∧ ∀ acc q, r = .ok (acc, q) → Made nb wr [102, 117, 110, 99] te li (.slice x n c) acc))

/-- The end of a function: its block was the last part. -/
theorem func_end {C : Ctx} {w wc : World} {nb : Nat} {op te : List UInt8} {li len : Nat} {acc : List Hs.Ast} {r1 : Hs.R Hs.Ast} (hk : Kid2 C w nb op te li acc len r1 wc) (hw : w.heap.size ≤ nb) :
    PostN C w (Hs.mapR (fun v => Hs.node op li te (acc ++ [v])) r1) (.returned (.pointer (some ⟨nb, 0, none⟩))) wc := by
  have e : stR (Hs.mapR (fun v => Hs.node op li te (acc ++ [v])) r1) = stR r1 := by cases r1 <;> rfl
  refine ⟨hk.fr, by rw [e]; exact hk.at_, nb, rfl, fun a q ha => ?_⟩
  cases r1 with
  | error l => cases ha
  | ok vq =>
    obtain ⟨v, q2⟩ := vq
    cases ha
    obtain ⟨x, n, c, _, hm⟩ := hk.blk
    exact (hm v _ rfl).rep hw

set_option maxRecDepth 100000 in
set_option maxHeartbeats 4000000 in
theorem func_S (C : Ctx) (B : Nat → Hs.R Hs.Ast) (HB : Reads C 198 B) (w : World) (S : Except Nat Nat) (h : AtS C w S) (r0 rP : Hs.R (List Hs.Ast))
    (h0 : Hid (r0 = onS (takeS C (nameS C (takeS C S [102, 117, 110, 99])) [40]) fun q => if Hs.isT C.ts q [41] then .ok ([], q) else Hs.paramLoop C.ts (C.ts.length + 1) q [])) (hP : Hid (rP = Hs.thenTake C.ts [41] r0)) (hr0 : r0 ≠ .error 0) (hr2 : onS (stR rP) B ≠ .error 0) :
    Calls Tryz.prog 139 #[.pointer (some ⟨C.pb, 0, none⟩)] w (PostN C w (Hs.mapR (fun v => Hs.node [102, 117, 110, 99] (nameL C (takeS C S [102, 117, 110, 99])) (nameT C (takeS C S [102, 117, 110, 99])) (accOf rP ++ [v])) (onS (stR rP) B))) := by
  obtain ⟨hpb, hgb, hlen⟩ := h.facts
  obtain ⟨i0, hi, hz0, hz1, hz2⟩ := info_parts infoPtr
  have HT := mkHid (take_S C w S ⟨#[102, 117, 110, 99]⟩ h)
  have HBB := mkHid (And.intro HB hr2)
  have HR0 := mkHid hr0
  clear h HB hr2 hr0
  generalize takeS C S [102, 117, 110, 99] = S1 at *
  have HNA := mkHid (fun w1 (h : AtS C w1 S1) => name_S C w1 S1 h)
  generalize nameT C S1 = te at *
  generalize nameL C S1 = li at *
  generalize nameS C S1 = S2 at *
  go_enter Tryz.func139, Tryz.ntmps139
  go_wp2_with fail
  refine HT.out.mono ?_
  rintro e w1 ⟨rfl, hat1, hfr1⟩
  have hat1' : AtS C w1 S1 := hat1
  have HNM := mkHid (HNA.out w1 hat1')
  have HF1 := mkHid hfr1
  have hsz1 := hfr1.size
  clear hat1 hat1' hfr1 HT
  go_wp2_with fail
  refine HNM.out.mono ?_
  rintro e w2 ⟨rfl, hat2, hfr2⟩
  have HF2 := mkHid (fun o => (HF1.out.trans hfr2).alloc o)
  have HA2 := mkHid (fun o => hat2.alloc o)
  have hsz2 := hfr2.size
  clear hat2 hfr2 HNM
  go_wp2_with fail
  refine (take_S C _ S2 ⟨#[40]⟩ (HA2.out _)).mono ?_
  rintro e w3 ⟨rfl, hat3, hfr3⟩
  have hblk := (hfr3.block w2.heap.size (by simp) (by omega)).trans (heap_first w2 _ rfl _)
  have HM3 := mkHid (Made.new (op := [102, 117, 110, 99]) (te := te) hblk)
  have HF3 := mkHid ((HF2.out _).trans hfr3)
  have hat3' : AtS C w3 (takeS C S2 [40]) := hat3
  clear hat3 hfr3 hblk
  generalize takeS C S2 [40] = S3 at *
  have HIS := mkHid (is_S C w3 S3 ⟨#[41]⟩ hat3')
  have HA3 := mkHid hat3'
  clear hat3'
  go_wp2_with fail
  refine HIS.out.mono ?_
  rintro e w4 ⟨rfl, hb4⟩
  have HA4 := mkHid (HA3.out.below hb4)
  have HF4 := mkHid (HF3.out.trans_below hb4)
  have HM4 := mkHid (HM3.out.keep (Fr.below (pb := C.pb) hb4) (by omega))
  have hz4 := lt_of_block HM4.out.blk
  clear hb4 HIS HA3 HF3 HM3
  cases hb1 : isS C S3 (⟨#[41]⟩ : ByteArray).data.toList
  · have HB1 := mkHid hb1
    clear hb1
    go_wp2_with fail
    go_loopg [6] (C.ts.length + 1) (fun k more wr => ParamInv C w w2.heap.size te li r0 k more wr)
    case atStart =>
      refine ⟨HF4.out, none, 0, 0, 0, HM4.out.part, by omega, ?_⟩
      cases S3 with
      | error l =>
        have e : r0 = .error l := h0.out
        exact Or.inr ⟨true, rfl, fun _ => ⟨l, e⟩, by rw [e]; exact HA4.out, fun acc q hq => by rw [e] at hq; cases hq⟩
      | ok q =>
        have e : r0 = Hs.paramLoop C.ts (C.ts.length + 1) q [] := by
          rw [h0.out]
          show (if Hs.isT C.ts q [41] then _ else _) = _
          rw [show Hs.isT C.ts q [41] = false from HB1.out]; rfl
        exact Or.inl ⟨rfl, q, [], HA4.out, e, HM4.out⟩
    case round =>
      obtain ⟨hf0, x, n, c, len, hpt, hlk, hrel⟩ := hrel
      have HF0 := mkHid hf0
      have HPT := mkHid hpt
      have hszr := hf0.size
      clear hf0 hpt HF4 HA4 HM4 HB1 h0
      rcases hrel with ⟨rfl, q, acc, hq, hr1, hmd⟩ | ⟨b, rfl, hbt, hS, hmd⟩
      · obtain ⟨k, rfl⟩ : ∃ k, gk = k + 1 := by
          cases gk with
          | zero => exact absurd hr1 HR0.out
          | succ k => exact ⟨k, rfl⟩
        rw [Hs.paramLoop] at hr1
        obtain ⟨hl1, hc2⟩ := hq.good
        have HNM := mkHid (name_S C wr (.ok q) hq)
        have HR1 := mkHid hr1
        have HM := mkHid hmd
        clear hr1 hq hmd
        go_wp2_with fail
        refine HNM.out.mono ?_
        rintro e v2 ⟨rfl, hat2, hfr2⟩
        have hP2 := HPT.out.keep hfr2 (by omega)
        obtain ⟨vs, hown⟩ := hP2.own
        obtain ⟨hm2, -, -, -, m3, -, -, f3⟩ := node_cells hP2.blk
        have HP2 := mkHid hP2
        have HM2 := mkHid (HM.out.keep hfr2 (by omega))
        have HA2 := mkHid hat2
        have HF2 := mkHid (HF0.out.trans hfr2)
        clear hP2 hat2 hfr2 HNM hc2
        go_wp2_with (at_builtin; refine wpList_append_lies _ (by rfl) _ _ 90 (by rfl) (w2.heap.size + 1) 25 i0 _ 1 8 Tryz.underlying90 hi hz0 hz1 hz2 rfl (by decide) (.slice x n c) len vs (by rfl) ((hown.alloc _).alloc _) ⟨v2.heap.size + 1, 0, none⟩ 1 1 [.pointer (some ⟨v2.heap.size, 0, none⟩)] (by rfl) (by rfl) (news_at _ _ _ (by simp)) (one_ptr _) (by decide) (by unfold maxLen; omega) (by omega) (by simp; omega) (v2.heap.size + 1 + 1) (by simp) ?_)
        intro g cap w5 hown5 hgrow5 hat5 hg5
        have hkid := kid2_end (C := C) (w0 := w) (wX := v2) (w4 := v2.alloc (.cells #[.string (bs [112, 97, 114, 97, 109]), .int .i64 (nameL C (.ok q)), .string (bs (nameT C (.ok q))), .slice none 0 0] 92)) (r := paramR C (.ok q)) (acc := acc) (b4 := v2.heap.size) HF2.out HP2.out (fun _ _ _ => HM2.out) (by omega) (by omega) (by omega) ((Fr.refl _ _).alloc _) (by rw [paramR_st]; exact HA2.out.alloc _)
          (fun a q' ha => by
            unfold paramR at ha
            cases hS2 : nameS C (.ok q) with
            | error l => rw [hS2] at ha; cases ha
            | ok q2 =>
              rw [hS2] at ha
              cases ha
              exact Rep.mk ⟨Nat.le_refl _, by simp⟩ (heap_first _ _ rfl _) (Or.inl ⟨rfl, rfl⟩)) (hown.alloc _) hown5 hgrow5 (hat5.imp_right (fun e => by simp; omega))
        have hB5 := node_grown (HP2.out.keep ((Fr.refl C.pb v2).alloc (.cells #[.string (bs [112, 97, 114, 97, 109]), .int .i64 (nameL C (.ok q)), .string (bs (nameT C (.ok q))), .slice none 0 0] 92)) (by omega)).blk (hown.alloc _) hgrow5
        obtain ⟨hz5, -, -, -, q3, -, -, e3⟩ := node_cells hB5
        have HKID := mkHid hkid
        clear hkid hown hown5 hgrow5 hat5 hB5 m3 f3
        go_wp2_with fail
        clear q3 e3
        generalize w5.setCell ⟨w2.heap.size, 3, none⟩ (.slice (some ⟨g, 0, none⟩) (len + 1) cap) = V at *
        have HXE := mkHid (eat_S C V _ ⟨#[44]⟩ HKID.out.at_)
        refine HXE.out.mono ?_
        rintro e w6 ⟨rfl, hat6, hfr6⟩
        go_wp2_with fail
        go_roundg k
        case measure => omega
        case rel =>
          obtain ⟨f1, f2, x', n', c', f4, f5⟩ := HKID.out
          refine ⟨f1.trans hfr6, x', n', c', len + 1, f4.keep hfr6 (by omega), by omega, ?_⟩
          have hr2 := HR1.out
          have hat6' := hat6
          rw [paramR_st] at hat6' ⊢
          by_cases h110 : (Hs.tk C.ts q).sort = 110
          · obtain ⟨g1, g2, g3⟩ := nameS_yes h110
            have ep : paramR C (.ok q) = .ok (Hs.node [112, 97, 114, 97, 109] (Hs.tk C.ts q).line (Hs.tk C.ts q).text [], q + 1) := by
              unfold paramR; rw [g1, g2, g3]
            have hm6 := (f5 _ _ ep).keep hfr6 (show C.pb < w2.heap.size by omega)
            rw [if_pos (by rw [h110]; rfl)] at hr2
            rw [g1] at hat6' ⊢
            rw [isS_ok]
            cases h44 : Hs.isT C.ts (q + 1) [44]
            · rw [h44, if_neg (by simp)] at hr2
              rw [show eatS C (.ok (q + 1)) (⟨#[44]⟩ : ByteArray).data.toList = .ok (q + 1) from eatS_no h44] at hat6'
              exact Or.inr ⟨false, rfl, (fun h => by cases h), by rw [hr2]; exact hat6', fun acc' q' hq => by rw [hr2] at hq; cases hq; exact hm6⟩
            · rw [h44, if_pos rfl] at hr2
              rw [show eatS C (.ok (q + 1)) (⟨#[44]⟩ : ByteArray).data.toList = .ok (q + 1 + 1) from eatS_yes h44] at hat6'
              exact Or.inl ⟨rfl, q + 2, _, hat6', hr2, hm6⟩
          · obtain ⟨g1, g2, g3⟩ := nameS_no h110
            have e0 : ((Hs.tk C.ts q).sort == 110) = false := by simpa using h110
            rw [if_neg (by rw [e0]; simp)] at hr2
            rw [g1] at hat6' ⊢
            exact Or.inr ⟨false, rfl, (fun h => by cases h), by rw [hr2]; exact hat6', fun acc' q' hq => by rw [hr2] at hq; cases hq⟩
      · have HTK := mkHid (take_S C wr (stR r0) ⟨#[41]⟩ hS)
        have HMD := mkHid hmd
        cases b
        · clear hbt hS hmd
          go_wp2_with fail
          refine HTK.out.mono ?_
          rintro e w6 ⟨rfl, hat6, hfr6⟩
          have hat6' := hat6
          rw [takeS_then, show Hs.thenTake C.ts (⟨#[41]⟩ : ByteArray).data.toList r0 = rP from hP.out.symm] at hat6'
          have HPk := mkHid ((HPT.out.keep hfr6 (by omega)).keep (Fr.refl C.pb w6).drew (by omega))
          have HMk : Hid (∀ a q', onS (stR rP) B = .ok (a, q') → Made w2.heap.size w6.drew [102, 117, 110, 99] te li (.slice x n c) (accOf rP)) := fun a q' ha => by
            cases hx : rP with
            | error l => rw [hx] at ha; cases ha
            | ok kq =>
              obtain ⟨ks, q3⟩ := kq
              obtain ⟨q4, hq4⟩ := thenTake_ok (hP.out.symm.trans hx)
              exact ((HMD.out ks q4 hq4).keep hfr6 (by omega)).keep (Fr.refl C.pb w6).drew (by omega)
          have HFk := mkHid (HF0.out.trans hfr6).drew
          have HC := mkHid (HBB.out.1 w6.drew (stR rP) (hat6'.below (Below.refl _ _).drew) HBB.out.2)
          obtain ⟨hmk, -, -, -, mk3, -, -, fk3⟩ := node_cells (show w6.heap[w2.heap.size]? = _ from HPk.out.blk)
          clear hat6 hat6' hfr6 HTK
          go_wp2_with fail
          go_cut [] (fun wc => Kid2 C w (w2.heap.size) [102, 117, 110, 99] te (li) (accOf rP) (len + 1) (onS (stR rP) B) wc)
          case first =>
            go_region_law ((first | (refine step_append_lies _ (by rfl) _ _ 90 (by rfl) ((w2.heap.size) + 1) 25 i0 _ 1 8 Tryz.underlying90 hi hz0 hz1 hz2 rfl (by decide) (.slice x n c) (len) vs (by rfl) (hown.alloc _) ⟨w4.heap.size, 0, none⟩ 1 1 [.pointer (some ⟨b4, 0, none⟩)] (by rfl) (by rfl) (news_ptr _ _) (one_ptr _) (by decide) (by unfold maxLen; omega) (by omega) (by simp; omega) (w4.heap.size + 1) (by simp) ?_; intro g cap w5 hown5 hgrow5 hat5 hg5; have hB5 := node_grown hP4.blk hown hgrow5; obtain ⟨hz5, -, -, -, q3, -, -, e3⟩ := node_cells hB5) | (go_simp; go_at_call 198; refine HC.out.mono ?_; rintro e w4 ⟨hfr4, hat4, b4, rfl, hrep4⟩; have hP4 := HPk.out.keep hfr4 (by omega); obtain ⟨hz4, -, -, -, p3, -, -, f3⟩ := node_cells hP4.blk; obtain ⟨vs, hown⟩ := hP4.own)))
            all_goals
              go_wp2_with fail
              go_meet
              case rel => exact kid2_end HFk.out HPk.out HMk.out (by omega) (by omega) (by omega) hfr4 hat4 hrep4 hown hown5 hgrow5 hat5
          case rest =>
            have HKK := mkHid hcut
            clear hcut
            go_wp2_with fail
            go_ret
            exact func_end HKK.out (by omega)
        · obtain ⟨l, hl⟩ := hbt rfl
          have hS' := hS
          rw [hl] at hS'
          obtain ⟨hl1, cc, hc0, hc2⟩ := AtS.bad hS'
          clear hbt hS hS' hl hmd
          go_wp2_with fail
          refine HTK.out.mono ?_
          rintro e w6 ⟨rfl, hat6, hfr6⟩
          have hat6' := hat6
          rw [takeS_then, show Hs.thenTake C.ts (⟨#[41]⟩ : ByteArray).data.toList r0 = rP from hP.out.symm] at hat6'
          have HPk := mkHid ((HPT.out.keep hfr6 (by omega)).keep (Fr.refl C.pb w6).drew (by omega))
          have HMk : Hid (∀ a q', onS (stR rP) B = .ok (a, q') → Made w2.heap.size w6.drew [102, 117, 110, 99] te li (.slice x n c) (accOf rP)) := fun a q' ha => by
            cases hx : rP with
            | error l => rw [hx] at ha; cases ha
            | ok kq =>
              obtain ⟨ks, q3⟩ := kq
              obtain ⟨q4, hq4⟩ := thenTake_ok (hP.out.symm.trans hx)
              exact ((HMD.out ks q4 hq4).keep hfr6 (by omega)).keep (Fr.refl C.pb w6).drew (by omega)
          have HFk := mkHid (HF0.out.trans hfr6).drew
          have HC := mkHid (HBB.out.1 w6.drew (stR rP) (hat6'.below (Below.refl _ _).drew) HBB.out.2)
          obtain ⟨hmk, -, -, -, mk3, -, -, fk3⟩ := node_cells (show w6.heap[w2.heap.size]? = _ from HPk.out.blk)
          clear hat6 hat6' hfr6 HTK
          go_wp2_with fail
          go_cut [] (fun wc => Kid2 C w (w2.heap.size) [102, 117, 110, 99] te (li) (accOf rP) (len + 1) (onS (stR rP) B) wc)
          case first =>
            go_region_law ((first | (refine step_append_lies _ (by rfl) _ _ 90 (by rfl) ((w2.heap.size) + 1) 25 i0 _ 1 8 Tryz.underlying90 hi hz0 hz1 hz2 rfl (by decide) (.slice x n c) (len) vs (by rfl) (hown.alloc _) ⟨w4.heap.size, 0, none⟩ 1 1 [.pointer (some ⟨b4, 0, none⟩)] (by rfl) (by rfl) (news_ptr _ _) (one_ptr _) (by decide) (by unfold maxLen; omega) (by omega) (by simp; omega) (w4.heap.size + 1) (by simp) ?_; intro g cap w5 hown5 hgrow5 hat5 hg5; have hB5 := node_grown hP4.blk hown hgrow5; obtain ⟨hz5, -, -, -, q3, -, -, e3⟩ := node_cells hB5) | (go_simp; go_at_call 198; refine HC.out.mono ?_; rintro e w4 ⟨hfr4, hat4, b4, rfl, hrep4⟩; have hP4 := HPk.out.keep hfr4 (by omega); obtain ⟨hz4, -, -, -, p3, -, -, f3⟩ := node_cells hP4.blk; obtain ⟨vs, hown⟩ := hP4.own)))
            all_goals
              go_wp2_with fail
              go_meet
              case rel => exact kid2_end HFk.out HPk.out HMk.out (by omega) (by omega) (by omega) hfr4 hat4 hrep4 hown hown5 hgrow5 hat5
          case rest =>
            have HKK := mkHid hcut
            clear hcut
            go_wp2_with fail
            go_ret
            exact func_end HKK.out (by omega)
  · obtain ⟨q, rfl, hq⟩ : ∃ q, S3 = .ok q ∧ Hs.isT C.ts q [41] = true := by
      cases S3 with
      | ok q => exact ⟨q, rfl, hb1⟩
      | error l => cases hb1
    have e0 : r0 = .ok ([], q) := by
      rw [h0.out]
      show (if Hs.isT C.ts q [41] then _ else _) = _
      rw [hq]; rfl
    have hS : AtS C w4 (stR r0) := by rw [e0]; exact HA4.out
    have HTK := mkHid (take_S C w4 (stR r0) ⟨#[41]⟩ hS)
    have HMD : Hid (∀ acc q, r0 = .ok (acc, q) → Made w2.heap.size w4 [102, 117, 110, 99] te li (.slice none 0 0) acc) := fun acc q' hq' => by
      rw [e0] at hq'; cases hq'; exact HM4.out
    have HF0 := HF4
    have HPT := mkHid HM4.out.part
    clear hb1 hq e0 hS
    go_wp2_with fail
    refine HTK.out.mono ?_
    rintro e w6 ⟨rfl, hat6, hfr6⟩
    have hat6' := hat6
    rw [takeS_then, show Hs.thenTake C.ts (⟨#[41]⟩ : ByteArray).data.toList r0 = rP from hP.out.symm] at hat6'
    have HPk := mkHid ((HPT.out.keep hfr6 (by omega)).keep (Fr.refl C.pb w6).drew (by omega))
    have HMk : Hid (∀ a q', onS (stR rP) B = .ok (a, q') → Made w2.heap.size w6.drew [102, 117, 110, 99] te li (.slice none 0 0) (accOf rP)) := fun a q' ha => by
      cases hx : rP with
      | error l => rw [hx] at ha; cases ha
      | ok kq =>
        obtain ⟨ks, q3⟩ := kq
        obtain ⟨q4, hq4⟩ := thenTake_ok (hP.out.symm.trans hx)
        exact ((HMD.out ks q4 hq4).keep hfr6 (by omega)).keep (Fr.refl C.pb w6).drew (by omega)
    have HFk := mkHid (HF0.out.trans hfr6).drew
    have HC := mkHid (HBB.out.1 w6.drew (stR rP) (hat6'.below (Below.refl _ _).drew) HBB.out.2)
    obtain ⟨hmk, -, -, -, mk3, -, -, fk3⟩ := node_cells (show w6.heap[w2.heap.size]? = _ from HPk.out.blk)
    clear hat6 hat6' hfr6 HTK
    go_wp2_with fail
    go_cut [] (fun wc => Kid2 C w (w2.heap.size) [102, 117, 110, 99] te (li) (accOf rP) (0 + 1) (onS (stR rP) B) wc)
    case first =>
      go_region_law ((first | (refine step_append_lies _ (by rfl) _ _ 90 (by rfl) ((w2.heap.size) + 1) 25 i0 _ 1 8 Tryz.underlying90 hi hz0 hz1 hz2 rfl (by decide) (.slice none 0 0) (0) vs (by rfl) (hown.alloc _) ⟨w4.heap.size, 0, none⟩ 1 1 [.pointer (some ⟨b4, 0, none⟩)] (by rfl) (by rfl) (news_ptr _ _) (one_ptr _) (by decide) (by unfold maxLen; omega) (by omega) (by simp; omega) (w4.heap.size + 1) (by simp) ?_; intro g cap w5 hown5 hgrow5 hat5 hg5; have hB5 := node_grown hP4.blk hown hgrow5; obtain ⟨hz5, -, -, -, q3, -, -, e3⟩ := node_cells hB5) | (go_simp; go_at_call 198; refine HC.out.mono ?_; rintro e w4 ⟨hfr4, hat4, b4, rfl, hrep4⟩; have hP4 := HPk.out.keep hfr4 (by omega); obtain ⟨hz4, -, -, -, p3, -, -, f3⟩ := node_cells hP4.blk; obtain ⟨vs, hown⟩ := hP4.own)))
      all_goals
        go_wp2_with fail
        go_meet
        case rel => exact kid2_end HFk.out HPk.out HMk.out (by omega) (by omega) (by omega) hfr4 hat4 hrep4 hown hown5 hgrow5 hat5
    case rest =>
      have HKK := mkHid hcut
      clear hcut
      go_wp2_with fail
      go_ret
      exact func_end HKK.out (by omega)

end Go.Proofs.YtjdbaeeanifleaaGreatDoor

/- Contracts of the document's answer: a program. -/
namespace Go.Proofs.YtjdbaeeanifleaaGreatDoor
open Go.RowKit
attribute [local go_sem ↓] Go.wp_at_zero Go.wp_at_succ

/-- A function: what the plain function reads. -/
theorem func_reads (C : Ctx) (B : Nat → Hs.R Hs.Ast) (HB : Reads C 198 B) : Reads C 139 (Hs.funcP B C.ts) := by
  intro w S h hr
  have e : onS S (Hs.funcP B C.ts) = Hs.mapR (fun v => Hs.node [102, 117, 110, 99] (nameL C (takeS C S [102, 117, 110, 99])) (nameT C (takeS C S [102, 117, 110, 99])) (accOf (Hs.thenTake C.ts [41] (onS (takeS C (nameS C (takeS C S [102, 117, 110, 99])) [40]) fun q => if Hs.isT C.ts q [41] then .ok ([], q) else Hs.paramLoop C.ts (C.ts.length + 1) q [])) ++ [v])) (onS (stR (Hs.thenTake C.ts [41] (onS (takeS C (nameS C (takeS C S [102, 117, 110, 99])) [40]) fun q => if Hs.isT C.ts q [41] then .ok ([], q) else Hs.paramLoop C.ts (C.ts.length + 1) q []))) B) := by
    cases S with
    | error l => rfl
    | ok p =>
      show Hs.funcP B C.ts p = _
      unfold Hs.funcP
      cases k0 : Hs.isT C.ts p [102, 117, 110, 99]
      · rw [takeS_no k0, if_neg (by simp)]; rfl
      · rw [takeS_yes k0, if_pos rfl]
        by_cases h110 : (Hs.tk C.ts (p + 1)).sort = 110
        · obtain ⟨f1, f2, f3⟩ := nameS_yes h110
          rw [if_pos (by rw [h110]; rfl), f1, f2, f3]
          cases h40 : Hs.isT C.ts (p + 2) [40]
          · rw [takeS_no (show Hs.isT C.ts (p + 1 + 1) [40] = false from h40), if_neg (by simp)]; rfl
          · rw [takeS_yes (show Hs.isT C.ts (p + 1 + 1) [40] = true from h40), if_pos rfl]
            show Hs.bindR (Hs.paramsP C.ts (p + 3)) _ = _
            have ep : Hs.paramsP C.ts (p + 3) = Hs.thenTake C.ts [41] (onS (.ok (p + 1 + 1 + 1)) fun q => if Hs.isT C.ts q [41] then .ok ([], q) else Hs.paramLoop C.ts (C.ts.length + 1) q []) := rfl
            rw [ep]
            cases Hs.thenTake C.ts [41] (onS (.ok (p + 1 + 1 + 1)) fun q => if Hs.isT C.ts q [41] then .ok ([], q) else Hs.paramLoop C.ts (C.ts.length + 1) q []) <;> rfl
        · obtain ⟨f1, f2, f3⟩ := nameS_no h110
          have e0 : ((Hs.tk C.ts (p + 1)).sort == 110) = false := by simpa using h110
          rw [f1, if_neg (by rw [e0]; simp)]; rfl
  rw [e] at hr ⊢
  exact func_S C B HB w S h _ _ rfl rfl (fun e0 => hr (by rw [e0]; rfl)) (fun e0 => hr (by rw [e0]; rfl))

theorem fld_sort (a : Int) (b : ByteArray) (c : Int) (w : World) : (Instr.field 152 (.agg #[.int .u8 a, .string b, .int .i64 c]) 0).run Tryz.prog w = .ok (.int .u8 a) w := by kernel_rfl

/-- What holds at the head of a program's loop. -/
def ProgInv (C : Ctx) (X : Nat → Hs.R Hs.Ast) (w : World) (nb : Nat) (r : Hs.R (List Hs.Ast)) (k : Nat) (wr : World) : Prop :=
  Fr C.pb w wr ∧ nb < wr.heap.size ∧
  ((∃ q acc x n c, At C wr q 0 ∧ r = Hs.progLoop X C.ts k q acc ∧ acc.length + k ≤ 4000 ∧ Made nb wr [112, 114, 111, 103, 114, 97, 109] [] 0 (.slice x n c) acc) ∨ (∃ l, r = .error l ∧ AtS C wr (.error l)))

set_option maxRecDepth 100000 in
set_option maxHeartbeats 2000000 in
theorem prog_any (C : Ctx) (X : Nat → Hs.R Hs.Ast) (HE : Reads C 139 X) (w : World) (p : Nat) (h : At C w p 0) (r : Hs.R (List Hs.Ast)) (hr : Hid (r = Hs.progLoop X C.ts (C.ts.length + 1) p [])) (hr0 : r ≠ .error 0) :
    Calls Tryz.prog 83 #[.pointer (some ⟨C.pb, 0, none⟩)] w (PostN C w (Hs.mapR (Hs.node [112, 114, 111, 103, 114, 97, 109] 0 []) r)) := by
  obtain ⟨hpb, hgb, hlen⟩ := AtS.facts (S := .ok p) h
  obtain ⟨i0, hi, hz0, hz1, hz2⟩ := info_parts infoPtr
  have HA := mkHid h
  have HEE := mkHid HE
  have HR0 := mkHid hr0
  have hfs := fld_sort
  have er : stR (Hs.mapR (Hs.node [112, 114, 111, 103, 114, 97, 109] 0 []) r) = stR r := by cases r <;> rfl
  have ER := mkHid er
  clear h HE hr0 er
  go_enter Tryz.func83, Tryz.ntmps83
  go_wp2_with fail
  go_loopg [] (C.ts.length + 1) (fun k wr => ProgInv C X w w.heap.size r k wr)
  case atStart =>
    refine ⟨(Fr.refl _ _).alloc _, by simp, ?_⟩
    exact Or.inl ⟨p, [], none, 0, 0, HA.out.below ((Below.refl _ _).alloc (Nat.le_refl _) _), hr.out, by simp; omega, Made.new (heap_first _ _ rfl _)⟩
  case round =>
    obtain ⟨hf0, hnb, hrel⟩ := hrel
    have HF0 := mkHid hf0
    have hsz0 := hf0.size
    clear hf0
    rcases hrel with ⟨q, acc, x, n, c, hq, hr1, hal, hmd⟩ | ⟨l, hr1, hl⟩
    · obtain ⟨k, rfl⟩ : ∃ k, gk = k + 1 := by
        cases gk with
        | zero => exact absurd hr1 HR0.out
        | succ k => exact ⟨k, rfl⟩
      rw [Hs.progLoop] at hr1
      obtain ⟨hl1, hc2⟩ := hq.good
      have HQ := mkHid hq
      have HM := mkHid hmd
      have HPK := mkHid (peek_any C wr q 0 hq)
      by_cases h101 : (Hs.tk C.ts q).sort = 101
      · rw [if_pos (by rw [h101]; rfl)] at hr1
        have HR1 := mkHid hr1
        have e1 : (((Hs.tk C.ts q).sort : Int) != 101) = false := by rw [h101]; rfl
        clear hr1 hq hmd h101
        go_wp2_with fail
        refine HPK.out.mono ?_
        rw [tokV]
        rintro e w3 ⟨rfl, hb3⟩
        go_wp2_with fail
        go_ret
        refine ⟨HF0.out.trans_below hb3, by rw [ER.out, HR1.out]; exact HQ.out.below hb3, w.heap.size, rfl, fun a q' ha => ?_⟩
        rw [HR1.out] at ha
        cases ha
        exact (HM.out.keep (Fr.below (pb := C.pb) hb3) hpb).rep (Nat.le_refl _)
      · have e0 : ((Hs.tk C.ts q).sort == 101) = false := by simpa using h101
        rw [if_neg (by rw [e0]; simp)] at hr1
        have HR1 := mkHid hr1
        have e1 : (((Hs.tk C.ts q).sort : Int) != 101) = true := by simp; omega
        clear hr1 hq hmd h101 e0
        go_wp2_with fail
        refine HPK.out.mono ?_
        rw [tokV]
        rintro e w3 ⟨rfl, hb3⟩
        have hM3 := HM.out.keep (Fr.below (pb := C.pb) hb3) hpb
        have hE0 : onS (.ok q) X ≠ .error 0 := fun e => HR0.out (by rw [HR1.out, show X q = .error 0 from e])
        have HC := mkHid (HEE.out w3.drew (.ok q) (HQ.out.below hb3.drew) hE0)
        obtain ⟨hm0, -, -, -, m3, -, -, k3⟩ := node_cells hM3.blk
        have hM3d := hM3.keep (Fr.refl C.pb w3).drew hpb
        have HPk := mkHid hM3d.part
        have HMk : Hid (∀ a q', X q = .ok (a, q') → Made w.heap.size w3.drew [112, 114, 111, 103, 114, 97, 109] [] 0 (.slice x n c) acc) := fun _ _ _ => hM3d
        have HFk := mkHid (HF0.out.trans_below hb3.drew)
        clear hb3 hM3 hE0 HPK hM3d hc2
        go_wp2_with fail
        go_region_law ((first | (refine step_append_lies _ (by rfl) _ _ 90 (by rfl) ((w.heap.size) + 1) 25 i0 _ 1 8 Tryz.underlying90 hi hz0 hz1 hz2 rfl (by decide) (.slice x n c) (acc.length) vs (by rfl) (hown.alloc _) ⟨w4.heap.size, 0, none⟩ 1 1 [.pointer (some ⟨b4, 0, none⟩)] (by rfl) (by rfl) (news_ptr _ _) (one_ptr _) (by decide) (by unfold maxLen; omega) (by omega) (by simp; omega) (w4.heap.size + 1) (by simp) ?_; intro g cap w5 hown5 hgrow5 hat5 hg5; have hB5 := node_grown hP4.blk hown hgrow5; obtain ⟨hz5, -, -, -, q3, -, -, e3⟩ := node_cells hB5) | (go_simp; go_at_call 139; refine HC.out.mono ?_; rintro e w4 ⟨hfr4, hat4, b4, rfl, hrep4⟩; have hP4 := HPk.out.keep hfr4 (by omega); obtain ⟨hz4, -, -, -, p3, -, -, f3⟩ := node_cells hP4.blk; obtain ⟨vs, hown⟩ := hP4.own)))
        all_goals
          have hcut2 : Kid2 C w w.heap.size [112, 114, 111, 103, 114, 97, 109] [] 0 acc (acc.length + 1) (X q) _ := kid2_end HFk.out HPk.out HMk.out (by omega) (by omega) (by omega) hfr4 hat4 hrep4 hown hown5 hgrow5 hat5
          have HCUT := mkHid hcut2
          clear hcut2 hfr4 hat4 hrep4 hown hown5 hgrow5 hat5 hP4 hB5
          go_wp2_with fail
          go_roundg k
          case measure => omega
          case rel =>
            obtain ⟨hfc, hatc, xc, nc, cc, hpc, hmc⟩ := HCUT.out
            refine ⟨hfc, lt_of_block hpc.blk, ?_⟩
            have hr2 := HR1.out
            cases hE : X q with
            | error l => rw [hE] at hr2 hatc; exact Or.inr ⟨l, hr2, hatc⟩
            | ok aq =>
              obtain ⟨a, q1⟩ := aq
              rw [hE] at hr2 hatc
              exact Or.inl ⟨q1, acc ++ [a], xc, nc, cc, hatc, hr2, by simp; omega, hmc a q1 hE⟩
    · obtain ⟨hl1, cc, hc0, hc2⟩ := AtS.bad hl
      have HR1 := mkHid hr1
      have HL := mkHid hl
      clear hl hr1
      go_wp2_with fail
      go_ret
      exact ⟨HF0.out, by rw [ER.out, HR1.out]; exact HL.out, w.heap.size, rfl, fun a q h => by rw [HR1.out] at h; cases h⟩

/-- Where nothing is read ahead of it: the whole program. -/
theorem prog_reads (C : Ctx) (w : World) (h : At C w 0 0) (hr : Hs.progP C.ts ≠ .error 0) :
    Calls Tryz.prog 83 #[.pointer (some ⟨C.pb, 0, none⟩)] w (PostN C w (Hs.mapR (Hs.node [112, 114, 111, 103, 114, 97, 109] 0 []) (Hs.progP C.ts))) :=
  prog_any C _ (func_reads C _ (blocks_reads C _ (expr_reads C _) _)) w 0 h _ rfl hr

end Go.Proofs.YtjdbaeeanifleaaGreatDoor

/- Contracts of the document's answer: a source, up to its form. -/
namespace Go.Proofs.YtjdbaeeanifleaaGreatDoor
open Go.RowKit

theorem spoilAt_le (f : Nat) : ∀ (l : List UInt8) (p k : Nat), Hs.spoilAt f l p = some k → k ≤ p + l.length := by
  induction f with
  | zero => intro l p k h; cases h
  | succ f ih =>
    intro l p k h
    rw [Hs.spoilAt] at h
    split at h
    · cases h
    split at h
    · cases h; omega
    · have := ih _ _ _ h
      rw [List.length_drop] at this
      have := charL_len l
      omega
theorem toksL_err (f : Nat) : ∀ (pre l : List UInt8) (n : Nat), l.length < f → Hs.toksL f pre l = .error n → n ≠ 0 := by
  induction f with
  | zero => intro pre l n h _; omega
  | succ f ih =>
    intro pre l n hf h
    by_cases hl : l.length = 0
    · rw [Hs.toksL_end _ _ _ hl] at h; cases h
    · cases hk : (Hs.tokL l).ok
      · rw [Hs.toksL_bad _ _ _ hl hk] at h
        cases h
        unfold Hs.lineOf; omega
      · rw [Hs.toksL_step _ _ _ hl hk _ rfl] at h
        have hsz := Hs.tokL_size l hk
        cases hx : Hs.toksL f (pre ++ l.take ((Hs.tokL l).size + Hs.blankL l.length (l.drop (Hs.tokL l).size))) (l.drop ((Hs.tokL l).size + Hs.blankL l.length (l.drop (Hs.tokL l).size))) with
        | error m =>
          rw [hx] at h
          cases h
          exact ih _ _ _ (by rw [List.length_drop]; omega) hx
        | ok us => rw [hx] at h; cases h
theorem tokens_err {l : List UInt8} {n : Nat} (h : Hs.tokens l = .error n) : n ≠ 0 := by
  unfold Hs.tokens at h
  exact toksL_err _ _ _ _ (by rw [List.length_drop]; omega) h

/-- The parser that 'parsed' makes. -/
theorem At.new {w : World} {g cap : Nat} {ts : List Hs.Tok} {base : Nat} (hown : w.ownsRow base 152 3 (.slice (some ⟨g, 0, none⟩) ts.length cap) ts.length (toksC ts)) (hts : Hs.TsAll ts) (hlen : ts.length ≤ 3000) :
    At ⟨w.heap.size, g, cap, ts⟩ (w.alloc (.cells #[.slice (some ⟨g, 0, none⟩) ts.length cap, .int .i64 0, .int .i64 0] 149)) 0 0 := by
  rcases hown.2 with ⟨h1, _⟩ | ⟨g', cap', cur, h1, h2, h3, h4, h5, h6, h7⟩
  · cases h1
  · cases h1
    have hg := lt_of_block h3
    refine ⟨heap_first _ _ rfl _, ⟨cur, heap_later _ _ hg _ h3, h7⟩, ?_, hts.some_, hlen, h4, hts.last, hts.line⟩
    show g ≠ w.heap.size
    omega

def parsedPost (w : World) (x : Except (Nat × Nat) (List Hs.Ast)) (e : Ending) (w' : World) : Prop :=
  Below w.heap.size w w' ∧
  match x with
  | .error (k, n) => e = .returned (.tuple #[.pointer none, .agg #[.int .i64 k, .int .i64 n]])
  | .ok ks => ∃ b, e = .returned (.tuple #[.pointer (some ⟨b, 0, none⟩), .agg #[.int .i64 0, .int .i64 0]]) ∧ Rep (Btw w.heap.size w'.heap.size) w' (.pointer (some ⟨b, 0, none⟩)) (Hs.node [112, 114, 111, 103, 114, 97, 109] 0 [] ks)

set_option maxRecDepth 100000 in
set_option maxHeartbeats 1000000 in
theorem parsed_long (s : ByteArray) (w : World) (hs : 2000 < s.size) (hm : s.size ≤ maxLen) :
    Calls Tryz.prog 45 #[.string s, .bool false] w (parsedPost w (.error (1, 0))) := by
  unfold maxLen at hm
  go_enter Tryz.func45, Tryz.ntmps45
  go_wp2_with fail
  refine bodyPost_ret (v := .tuple #[.pointer none, .agg #[.int .i64 1, .int .i64 0]]) (by simp [results, Tryz.results45, go_sem]) rfl ?_
  exact ⟨(Below.refl _ _).alloc (Nat.le_refl _) _, rfl⟩

set_option maxRecDepth 100000 in
set_option maxHeartbeats 1000000 in
theorem parsed_spoilt (s : ByteArray) (w : World) (hs : s.size ≤ 2000) (k : Nat) (hk : Hs.spoilAt s.size s.data.toList 0 = some k) :
    Calls Tryz.prog 45 #[.string s, .bool false] w (parsedPost w (.error (2, Hs.lineOf (s.data.toList.take k)))) := by
  have hs2 : s.size ≤ 2000000000 := by omega
  have hkl : k ≤ s.size := by have := spoilAt_le _ _ _ _ hk; simpa using this
  have HS := mkHid (fun w => spoilt_any s w hs2)
  rw [hk] at HS
  clear hk
  go_enter Tryz.func45, Tryz.ntmps45
  go_wp2_with fail
  refine (HS.out _).mono ?_
  rintro e w1 ⟨rfl, hw⟩
  obtain rfl := hw.symm
  rw [placeI]
  go_wp2_with (go_at_call 79; refine (lineAt_at s _ k rfl _ hs2 hkl).mono ?_; rintro e w' ⟨rfl, hw⟩; obtain rfl := hw.symm)
  refine bodyPost_ret (v := .tuple #[.pointer none, .agg #[.int .i64 2, .int .i64 (Hs.lineOf (s.data.toList.take k))]]) (by simp [results, Tryz.results45, go_sem]) rfl ?_
  exact ⟨(Below.refl _ _).alloc (Nat.le_refl _) _, rfl⟩

set_option maxRecDepth 100000 in
set_option maxHeartbeats 1000000 in
theorem parsed_token (s : ByteArray) (w : World) (hg : RefTabs w) (hs : s.size ≤ 2000) (hk : Hs.spoilAt s.size s.data.toList 0 = none) (n : Nat) (hn : Hs.tokens s.data.toList = .error n) :
    Calls Tryz.prog 45 #[.string s, .bool false] w (parsedPost w (.error (3, n))) := by
  have hs2 : s.size ≤ 2000000000 := by omega
  have HS := mkHid (fun w => spoilt_any s w hs2)
  rw [hk] at HS
  have hn0 : (0 : Int) < (n : Int) := by have := tokens_err hn; omega
  have HT := mkHid (fun o => tokens_any s (w.alloc o) (hg.alloc o) hs)
  rw [hn] at HT
  clear hk hg hn
  go_enter Tryz.func45, Tryz.ntmps45
  go_wp2_with fail
  refine (HS.out _).mono ?_
  rintro e w1 ⟨rfl, hw⟩
  obtain rfl := hw.symm
  rw [placeI]
  go_wp2_with fail
  refine (HT.out _).mono ?_
  rintro e w2 ⟨hb2, he⟩
  obtain rfl : e = .returned (.tuple #[.slice none 0 0, .int .i64 n]) := he
  obtain ⟨hc, hf⟩ := bcell hb2
  have hz : w.heap.size < w2.heap.size := by have := hb2.size; simp at this; omega
  have HB2 := mkHid hb2
  clear hb2
  go_wp2_with fail
  refine bodyPost_ret (v := .tuple #[.pointer none, .agg #[.int .i64 3, .int .i64 n]]) (by simp [results, Tryz.results45, go_sem, hc]) rfl ?_
  exact ⟨((((Below.refl _ _).alloc (Nat.le_refl _) _).trans (HB2.out.mono (by simp))).setCell (by simp) _).setCell (by simp) _, rfl⟩

end Go.Proofs.YtjdbaeeanifleaaGreatDoor

/- Contracts of the document's answer: a source, its form. -/
namespace Go.Proofs.YtjdbaeeanifleaaGreatDoor
open Go.RowKit

theorem Below.of_fr {pb : Nat} {w W w' : World} (h : Below w.heap.size w W) (hf : Fr pb W w') (hp : w.heap.size ≤ pb) : Below w.heap.size w w' :=
  h.trans ⟨hf.os, hf.tape, hf.output, hf.size, fun k hk => hf.block k (Nat.lt_of_lt_of_le hk h.size) (by omega)⟩

/-- The tokens' slice is not nil. -/
theorem toks_slice {w : World} {base : Nat} {v : Value} {ts : List Hs.Tok} (h : w.ownsRow base 152 3 v ts.length (toksC ts)) (hp : 0 < ts.length) : ∃ g cap, v = .slice (some ⟨g, 0, none⟩) ts.length cap := by
  rcases h.2 with ⟨_, h1⟩ | ⟨g, cap, cur, rfl, _⟩
  · omega
  · exact ⟨g, cap, rfl⟩

set_option maxRecDepth 100000 in
set_option maxHeartbeats 2000000 in
theorem parsed_form (s : ByteArray) (w : World) (hg : RefTabs w) (hs : s.size ≤ 2000) (hk : Hs.spoilAt s.size s.data.toList 0 = none) (ts : List Hs.Tok) (hn : Hs.tokens s.data.toList = .ok ts) (x : Except (Nat × Nat) (List Hs.Ast))
    (hx : Hid (x = match Hs.progP ts with | .error n => .error (4, n) | .ok (ks, _) => .ok ks)) :
    Calls Tryz.prog 45 #[.string s, .bool false] w (parsedPost w x) := by
  have hs2 : s.size ≤ 2000000000 := by omega
  have HS := mkHid (fun w => spoilt_any s w hs2)
  rw [hk] at HS
  have HT := mkHid (fun o => tokens_any s (w.alloc o) (hg.alloc o) hs)
  rw [hn] at HT
  obtain ⟨hall, hlen⟩ := Hs.tokens_all hn
  have hl3 : ts.length ≤ 3000 := by have : s.data.toList.length = s.size := by simp
                                    omega
  have HALL := mkHid hall
  have hpos := hall.some_
  clear hk hg hn hall
  go_enter Tryz.func45, Tryz.ntmps45
  go_wp2_with fail
  refine (HS.out _).mono ?_
  rintro e w1 ⟨rfl, hw⟩
  obtain rfl := hw.symm
  rw [placeI]
  go_wp2_with fail
  refine (HT.out _).mono ?_
  rintro e w2 ⟨hb2, he⟩
  obtain ⟨v, rfl, hown⟩ : ∃ v, e = .returned (.tuple #[v, .int .i64 0]) ∧ w2.ownsRow _ 152 3 v ts.length (toksC ts) := he
  obtain ⟨g, cap, rfl⟩ := toks_slice hown hpos
  have hz : w.heap.size < w2.heap.size := by have := hb2.size; simp at this; omega
  have HB2 := mkHid hb2
  have HAT := mkHid (At.new hown HALL.out hl3)
  clear hb2 hown
  go_wp2_with fail
  refine (prog_reads ⟨w2.heap.size, g, cap, ts⟩ _ HAT.out (HALL.out.ok.prog hpos)).mono ?_
  rintro e w3 ⟨hfr3, hat3, b3, rfl, hrep3⟩
  have hbel : Below w.heap.size w w3 := Below.of_fr ((((Below.refl _ _).alloc (Nat.le_refl _) _).trans (HB2.out.mono (by simp))).alloc (by omega) _) hfr3 (by show _ ≤ w2.heap.size; omega)
  have hblk : w3.heap[w.heap.size]? = some (.cells #[.int .i64 0, .int .i64 0] 27 (0, 0)) := by
    rw [hfr3.block w.heap.size (by simp; omega) (by show w.heap.size ≠ w2.heap.size; omega)]
    refine heap_later _ _ hz _ ?_
    rw [HB2.out.block _ (by simp)]
    exact heap_first _ _ rfl _
  have r0 : w3.cell? ⟨w.heap.size, 0, none⟩ = some (.int .i64 0) := cell_of_block hblk rfl
  have r1 : w3.cell? ⟨w.heap.size, 1, none⟩ = some (.int .i64 0) := cell_of_block hblk rfl
  have fz0 : w3.frozen? ⟨w.heap.size, 0, none⟩ = false := frozen_of_block hblk
  have fz1 : w3.frozen? ⟨w.heap.size, 1, none⟩ = false := frozen_of_block hblk
  clear hblk
  have HBEL := mkHid hbel
  have HREP := mkHid hrep3
  clear hbel hrep3 HS HT
  cases hp : Hs.progP ts with
  | error n =>
    rw [hp] at hx hat3
    obtain ⟨h0, q, hq⟩ := hat3
    have hn0 : (0 : Int) < (n : Int) := by omega
    have hl : w2.heap.size < w3.heap.size := lt_of_block hq.blk
    have hcc : w3.cell? ⟨w2.heap.size, 2, none⟩ = some (.int .i64 n) := cell_of_block hq.blk rfl
    have HX : Hid (x = .error (4, n)) := hx.out
    clear hx hq HREP hp
    go_wp2_with fail
    go_region
    go_wp2_with fail
    refine bodyPost_ret (v := .tuple #[.pointer none, .agg #[.int .i64 4, .int .i64 n]]) (by simp [results, Tryz.results45, go_sem, r0, r1]) rfl ?_
    refine ⟨((HBEL.out.setCell (by simp) _).setCell (by simp) _).drew, ?_⟩
    rw [HX.out]; exact rfl
  | ok kq =>
    obtain ⟨ks, q⟩ := kq
    rw [hp] at hx hat3
    obtain ⟨hl, hcc⟩ := At.good hat3
    have hcc' : w3.cell? ⟨w2.heap.size, 2, none⟩ = some (.int .i64 0) := hcc
    have HX : Hid (x = .ok ks) := hx.out
    have HK : Hid (Rep (Btw (w.heap.size + 1) w3.heap.size) w3 (.pointer (some ⟨b3, 0, none⟩)) (Hs.node [112, 114, 111, 103, 114, 97, 109] 0 [] ks)) := (HREP.out _ q (by rw [hp]; rfl)).mono fun k hk => ⟨by have := hk.1; simp at this; omega, hk.2⟩
    clear hcc hx hat3 HREP hp
    go_wp2_with fail
    refine bodyPost_ret (v := .tuple #[.pointer (some ⟨b3, 0, none⟩), .agg #[.int .i64 0, .int .i64 0]]) (by simp [results, Tryz.results45, go_sem, r0, r1]) rfl ?_
    refine ⟨(HBEL.out.setCell (by simp) _).setCell (by simp) _, ?_⟩
    rw [HX.out]
    refine ⟨b3, rfl, HK.out.grow (fun k hk1 hk2 => ?_) (by omega) (by simp)⟩
    rw [Below.heap_setCell _ _ _ _ (by show k ≠ w.heap.size; omega), Below.heap_setCell _ _ _ _ (by show k ≠ w.heap.size; omega)]

/-- A source, up to its form. -/
theorem parsed_any (s : ByteArray) (w : World) (hg : RefTabs w) (hm : s.size ≤ maxLen) :
    Calls Tryz.prog 45 #[.string s, .bool false] w (parsedPost w (Hs.parsedL s.data.toList)) := by
  unfold Hs.parsedL
  have hl : s.data.toList.length = s.size := by simp
  rw [hl]
  by_cases hs : 2000 < s.size
  · rw [if_pos hs]; exact parsed_long s w hs hm
  · rw [if_neg hs]
    cases hk : Hs.spoilAt s.size s.data.toList 0 with
    | some k => exact parsed_spoilt s w (by omega) k hk
    | none =>
      cases hn : Hs.tokens s.data.toList with
      | error n => exact parsed_token s w hg (by omega) hk n hn
      | ok ts => exact parsed_form s w hg (by omega) hk ts hn _ rfl

end Go.Proofs.YtjdbaeeanifleaaGreatDoor

/- Contracts of the document's answer: names: the small steps. -/
namespace Go.Proofs.YtjdbaeeanifleaaGreatDoor
open Go.RowKit

set_option maxRecDepth 100000 in
set_option maxHeartbeats 400000 in
theorem given_any (x : List UInt8) (w : World) :
    Calls Tryz.prog 84 #[.string (bs x)] w fun e w' => e = .returned (.bool (Hs.givenB x)) ∧ w' = w := by
  have hx : (bs x).toList = x := bs_toList x
  have HS : Hid (Hs.givenB x = (x == [108, 101, 110] || x == [114, 101, 97, 100])) := rfl
  go_enter Tryz.func84, Tryz.ntmps84
  go_wp2
  all_goals
    go_ret
    exact ⟨ret_bool (by rw [HS.out]; first | done | simp_all), rfl⟩

/-- A list of texts in a row. -/
def strsV (l : List (List UInt8)) : List Value := l.map fun x => .string (bs x)

set_option maxRecDepth 100000 in
set_option maxHeartbeats 400000 in
theorem among_some (l : List (List UInt8)) (x : List UInt8) (g cap : Nat) (w : World) (hl : l.length ≤ 100000) (_hlc : l.length ≤ cap) (hc : ∀ i (h : i < l.length), w.cell? ⟨g, i, none⟩ = some (.string (bs l[i]))) :
    Calls Tryz.prog 140 #[.slice (some ⟨g, 0, none⟩) l.length cap, .string (bs x)] w fun e w' => e = .returned (.bool (l.contains x)) ∧ w' = w := by
  have hx : (bs x).toList = x := bs_toList x
  have HC := mkHid hc
  clear hc
  go_enter Tryz.func140, Tryz.ntmps140
  go_wp2_with fail
  go_loop [5] (fun i => ∃ k : Nat, k ≤ l.length ∧ i = .int .i64 k ∧ Hid (∀ y ∈ l.take k, y ≠ x)) (fun i => l.length - (intOf i).toNat)
  case atStart => exact ⟨0, Nat.zero_le _, rfl, fun y hy => by simp at hy⟩
  case round =>
    obtain ⟨k, hk, rfl, HN⟩ := hrel
    by_cases hlt : k < l.length
    · have hcell := HC.out k hlt
      have hget : l[k] ∈ l := List.getElem_mem hlt
      have HT : Hid (∀ y ∈ l.take (k + 1), y ∈ l.take k ∨ y = l[k]) := fun y hy => by
        rw [List.take_succ_eq_append_getElem hlt] at hy
        rcases List.mem_append.1 hy with h | h
        · exact Or.inl h
        · exact Or.inr (List.mem_singleton.1 h)
      have HG := mkHid hget
      clear hget
      generalize l[k] = y at *
      have hy : (bs y).toList = y := bs_toList y
      cases hyx : (y == x)
      · have HF : Hid (∀ z ∈ l.take (k + 1), z ≠ x) := fun z hz => by
          rcases HT.out z hz with h | h
          · exact HN.out z h
          · rw [h]; simpa using hyx
        clear HN HT HG
        go_wp2_with fail
        go_round
        case rel => exact ⟨k + 1, by omega, by go_num, HF⟩
        case measure => simp [intOf]; omega
      · have HF : Hid (l.contains x = true) := by
          show _ = _
          have e : y = x := by simpa using hyx
          rw [← e]; simpa using HG.out
        clear HN HT HG
        go_wp2_with fail
        go_ret
        exact ⟨ret_bool (by have h := HF.out; simp at h; simp [h]), rfl⟩
    · have HF : Hid (l.contains x = false) := by
        show _ = _
        rw [Bool.eq_false_iff]
        intro h
        have := HN.out x (by rw [List.take_of_length_le (by omega)]; simpa using h)
        exact this rfl
      clear HN
      go_wp2_with fail
      go_ret
      exact ⟨ret_bool (by have h := HF.out; simp at h; simp [h]), rfl⟩

set_option maxRecDepth 100000 in
set_option maxHeartbeats 400000 in
theorem among_none (x : List UInt8) (w : World) :
    Calls Tryz.prog 140 #[.slice none 0 0, .string (bs x)] w fun e w' => e = .returned (.bool (([] : List (List UInt8)).contains x)) ∧ w' = w := by
  go_enter Tryz.func140, Tryz.ntmps140
  go_wp2_with fail
  go_loop [5] (fun i => i = .int .i64 0) (fun _ => 0)
  case atStart => rfl
  case round =>
    subst hrel
    go_wp2_with fail
    go_ret
    exact ⟨ret_bool (by simp), rfl⟩

theorem infoStr : (Tryz.prog.info? 9).map (fun i => (i.zero, i.size, i.bytes)) = some (some (.string (bs [])), 1, 16) := by kernel_rfl

/-- The names that are to be seen, as a slice of the checker's own. -/
theorem among_own (l : List (List UInt8)) (x : List UInt8) (v : Value) (base : Nat) (w : World) (hl : l.length ≤ 100000) (hown : w.ownsRow base 9 1 v l.length (strsV l)) :
    Calls Tryz.prog 140 #[v, .string (bs x)] w fun e w' => e = .returned (.bool (l.contains x)) ∧ w' = w := by
  rcases hown.2 with ⟨rfl, h0⟩ | ⟨g, cap, cur, rfl, h2, h3, h4, h5, h6, h7⟩
  · obtain rfl : l = [] := List.eq_nil_of_length_eq_zero h0
    exact among_none x w
  · refine among_some l x g cap w hl h4 fun i hi => cell_of_block h3 ?_
    have e : (strsV l)[i]? = some (.string (bs l[i])) := by simp [strsV, hi]
    rw [← h7, List.getElem?_take, if_pos (by omega)] at e
    simpa using e

/-- The checker in memory: its functions, the names that are to be seen, the first fault. -/
structure CkAt (cb lo : Nat) (fs : List Hs.Ast) (fv : Value) (alone : Bool) (w : World) (s : Hs.Chk) : Prop where
  blk : ∃ sv, w.heap[cb]? = some (.cells #[fv, sv, .bool alone, .int .i64 s.kind, .int .i64 s.line] 94 (0, 0)) ∧ w.ownsRow (cb + 1) 9 1 sv s.seen.length (strsV s.seen)
  kids : Kid (Btw lo cb) w fv fs

theorem ck_cells {w : World} {b : Nat} {v0 v1 v2 v3 v4 : Value} (h : w.heap[b]? = some (.cells #[v0, v1, v2, v3, v4] 94 (0, 0))) :
    b < w.heap.size ∧ w.cell? ⟨b, 0, none⟩ = some v0 ∧ w.cell? ⟨b, 1, none⟩ = some v1 ∧ w.cell? ⟨b, 2, none⟩ = some v2 ∧ w.cell? ⟨b, 3, none⟩ = some v3 ∧ w.cell? ⟨b, 4, none⟩ = some v4 ∧ (∀ i, w.frozen? ⟨b, i, none⟩ = false) :=
  ⟨lt_of_block h, cell_of_block h rfl, cell_of_block h rfl, cell_of_block h rfl, cell_of_block h rfl, cell_of_block h rfl, fun _ => frozen_of_block h⟩

/-- A store into the checker's own block keeps the trees and the names' row. -/
theorem CkAt.put {cb lo : Nat} {fs : List Hs.Ast} {fv : Value} {alone : Bool} {w w' : World} {s s' : Hs.Chk} {sv : Value} (hk : Kid (Btw lo cb) w fv fs) (hb : ∀ k, k ≠ cb → w'.heap[k]? = w.heap[k]?)
    (hblk : w'.heap[cb]? = some (.cells #[fv, sv, .bool alone, .int .i64 s'.kind, .int .i64 s'.line] 94 (0, 0))) (hown : w.ownsRow (cb + 1) 9 1 sv s.seen.length (strsV s.seen)) (hs : s'.seen = s.seen) : CkAt cb lo fs fv alone w' s' := by
  refine ⟨⟨sv, hblk, ?_⟩, hk.keep fun k hk => hb k (by have := hk.2; omega)⟩
  rw [hs]
  exact ownsRow_keep hown fun k hk => hb k (by have := own_block_ge hown k hk; omega)

set_option maxRecDepth 100000 in
set_option maxHeartbeats 400000 in
theorem found_any (cb lo : Nat) (fs : List Hs.Ast) (fv : Value) (alone : Bool) (w : World) (s : Hs.Chk) (line kind : Nat) (h : CkAt cb lo fs fv alone w s) :
    Calls Tryz.prog 85 #[.pointer (some ⟨cb, 0, none⟩), .int .i64 line, .int .i64 kind] w fun e w' => e = .returned (.tuple #[]) ∧ Below cb w w' ∧ CkAt cb lo fs fv alone w' (s.found line kind) := by
  obtain ⟨sv, hblk, hown⟩ := h.blk
  obtain ⟨hlt, c0, c1, c2, c3, c4, fz⟩ := ck_cells hblk
  have f3 := fz 3
  have f4 := fz 4
  have HB := mkHid hblk
  have HO := mkHid hown
  have H := mkHid h
  clear fz hblk hown h
  by_cases hk : s.kind = 0
  · have e0 : ((s.kind : Int) == 0) = true := by simp; omega
    have hfo : s.found line kind = { s with kind := kind, line := line } := by unfold Hs.Chk.found; rw [if_pos hk]
    have HFO := mkHid hfo
    clear hfo hk
    go_enter Tryz.func85, Tryz.ntmps85
    go_wp2_with fail
    go_end0
    refine ⟨rfl, ((Below.refl _ _).setCell (by simp) _).setCell (by simp) _, ?_⟩
    rw [HFO.out]
    refine CkAt.put H.out.kids (fun k hk => ?_) ?_ HO.out rfl
    · rw [Below.heap_setCell _ _ _ _ hk, Below.heap_setCell _ _ _ _ hk]
    · rw [heap_setCell_at (heap_setCell_at HB.out)]; rfl
  · have e0 : ((s.kind : Int) == 0) = false := by simp; omega
    have hfo : s.found line kind = s := by unfold Hs.Chk.found; rw [if_neg hk]
    have HFO := mkHid hfo
    clear hfo hk
    go_enter Tryz.func85, Tryz.ntmps85
    go_wp2_with fail
    go_end0
    exact ⟨rfl, Below.refl _ _, by rw [HFO.out]; exact H.out⟩

end Go.Proofs.YtjdbaeeanifleaaGreatDoor
