/- Contracts of the document's answer: var; any statement; all blocks. -/
import Derived.Test.YtblbkfdhjfppkaaGreatDoorPart02
import Derived.Test.YtblbkfdhjfppkaaGreatDoorPart00
import Derived.Deep.CutBlock
namespace Go.Proofs.YtblbkfdhjfppkaaGreatDoor
open Go.RowKit
attribute [local go_sem ↓] Go.wp_at_zero Go.wp_at_succ

/-- A new node without parts becomes the first part. -/
theorem first_kid {nb pb : Nat} (hp : pb < nb) {w w5 : World} {op te top tte : List UInt8} {li tli g cap : Nat} (hm : Made nb w op te li (.slice none 0 0) [])
    (hown5 : w5.ownsRow (nb + 1) 25 1 (.slice (some ⟨g, 0, none⟩) (0 + 1) cap) (0 + 1) ([] ++ [.pointer (some ⟨w.heap.size, 0, none⟩)]))
    (hgrow5 : ((w.alloc (.cells #[.string (bs top), .int .i64 tli, .string (bs tte), .slice none 0 0] 92)).alloc (.cells #[.pointer (some ⟨w.heap.size, 0, none⟩)] 25)).grownBy w5 (Value.slice none 0 0).ownBlock) (hat5 : (Value.slice none 0 0).ownBlock = some g ∨ g = w.heap.size + 1 + 1) :
    Made nb (w5.setCell ⟨nb, 3, none⟩ (.slice (some ⟨g, 0, none⟩) (0 + 1) cap)) op te li (.slice (some ⟨g, 0, none⟩) (0 + 1) cap) ([] ++ [Hs.node top tli tte []]) := by
  refine Made.snoc (pb := pb) (vs := []) (w3 := w.alloc (.cells #[.string (bs top), .int .i64 tli, .string (bs tte), .slice none 0 0] 92)) (F := fun _ => False) hm ((Fr.refl _ _).alloc _) hp trivial (fun _ h => h.elim) (fun k hk => Below.heap_alloc _ _ _ hk) (by simp) hown5 hgrow5 (hat5.imp_right (fun e => by simp; omega)) _ ?_
  exact Rep.mk ⟨Nat.le_refl _, by simp⟩ (heap_first _ _ rfl _) (Or.inl ⟨rfl, rfl⟩)

set_option maxRecDepth 100000 in
set_option maxHeartbeats 4000000 in
theorem stmt_var (C : Ctx) (w : World) (p : Nat) (h : At C w p 0) (k0 : Hs.isT C.ts p [118, 97, 114] = true) (E : Nat → Hs.R Hs.Ast) (HE : Reads C 83 E) (hr : onS (takeS C (nameS C (.ok (p + 1))) [61]) E ≠ .error 0) :
    Calls Tryz.prog 260 #[.pointer (some ⟨C.pb, 0, none⟩)] w (PostN C w (Hs.thenTake C.ts [59] (Hs.mapR (fun v => Hs.node [118, 97, 114] (Hs.tk C.ts p).line [] ([Hs.node [116, 97, 114, 103, 101, 116] (nameL C (.ok (p + 1))) (nameT C (.ok (p + 1))) []] ++ [v])) (onS (takeS C (nameS C (.ok (p + 1))) [61]) E)))) := by
  obtain ⟨hpb, hgb, hlen⟩ := AtS.facts (S := .ok p) h
  obtain ⟨i0, hi, hz0, hz1, hz2⟩ := info_parts infoPtr
  have HP := mkHid (peek_any C w p 0 h)
  have HA := mkHid h
  have HEE := mkHid (And.intro HE hr)
  have HK := mkHid k0
  have hfl := fld_line
  clear h k0 HE hr
  go_enter Tryz.func260, Tryz.ntmps260
  go_wp2_with fail
  refine HP.out.mono ?_
  rw [tokV]
  rintro e w1 ⟨rfl, hb⟩
  have hsz1 := hb.size
  have HA0 := mkHid (fun o => (HA.out.below hb).below ((Below.refl _ _).alloc (Nat.le_refl _) o))
  have HF0 := mkHid (fun o => (Fr.below (pb := C.pb) hb).alloc o)
  clear hb HP
  go_wp2_with fail
  refine (eat_ok C _ p ⟨#[118, 97, 114]⟩ (HA0.out _) HK.out).mono ?_
  rintro e v1 ⟨rfl, hat, hfr⟩
  have HA1 := mkHid hat
  have HF1 := mkHid ((HF0.out _).trans hfr)
  have hnn := (hfr.block w1.heap.size (by simp) (by omega)).trans (heap_first w1 _ rfl _)
  have HN1 := mkHid hnn
  clear hat hfr hnn
  have hzz1 := lt_of_block HN1.out
  obtain ⟨hm0, m0, m1, m2, m3, f0, f2, f3⟩ := node_cells HN1.out
  have HBW := mkHid (heap_setCell_at (i := 0) (u := .string ⟨#[118, 97, 114]⟩) HN1.out)
  have HAW := mkHid (HA1.out.other (i := 0) (show w1.heap.size ≠ C.pb by omega) (show w1.heap.size ≠ C.g by omega) (.string ⟨#[118, 97, 114]⟩))
  have HFW := mkHid (Fr.setCell (p := ⟨w1.heap.size, 0, none⟩) HF1.out (Or.inr hsz1) (.string ⟨#[118, 97, 114]⟩))
  go_wp2_with fail
  clear m0 m1 m2 m3 f0 f2 f3
  generalize v1.setCell ⟨w1.heap.size, 0, none⟩ (.string ⟨#[118, 97, 114]⟩) = W at *
  have HM := mkHid (Made.new (op := [118, 97, 114]) (te := []) HBW.out)
  refine (name_S C W (.ok (p + 1)) HAW.out).mono ?_
  rintro e w2 ⟨rfl, hat2, hfr2⟩
  have HM2 := mkHid (HM.out.keep hfr2 (by omega))
  have HF2 := mkHid (HFW.out.trans hfr2)
  have HA2 := mkHid hat2
  obtain ⟨hm2, -, -, -, m3, -, -, f3⟩ := node_cells HM2.out.blk
  clear hat2 hfr2
  go_wp2_with (at_builtin; refine wpList_append_lies _ (by rfl) _ _ 90 (by rfl) (w1.heap.size + 1) 25 i0 _ 1 8 Tryz.underlying90 hi hz0 hz1 hz2 rfl (by decide) (.slice none 0 0) 0 [] (by rfl) (World.ownsRow_nil _ _ _ _) ⟨w2.heap.size + 1, 0, none⟩ 1 1 [.pointer (some ⟨w2.heap.size, 0, none⟩)] (by rfl) (by rfl) (news_at _ _ _ (by simp)) (one_ptr _) (by decide) (by unfold maxLen; omega) (by omega) (by simp; omega) (w2.heap.size + 1 + 1) (by simp) ?_)
  intro g cap w5 hown5 hgrow5 hat5 hg5
  have hB5 := node_grown0 HM2.out.blk hgrow5
  obtain ⟨hz5, -, -, -, q3, -, -, e3⟩ := node_cells hB5
  have HM5 := mkHid (first_kid (pb := C.pb) (by omega) HM2.out hown5 hgrow5 hat5)
  have HF5 := mkHid (Fr.setCell (p := ⟨w1.heap.size, 3, none⟩) (((HF2.out.alloc _).alloc _).grown hgrow5 (fun k hk => by cases hk)) (Or.inr hsz1) (.slice (some ⟨g, 0, none⟩) (0 + 1) cap))
  have HA5 := mkHid ((((HA2.out.alloc _).alloc _).grown (base := w1.heap.size) hgrow5 (fun k hk => by cases hk) (by omega) (by omega)).other (i := 3) (show w1.heap.size ≠ C.pb by omega) (show w1.heap.size ≠ C.g by omega) (.slice (some ⟨g, 0, none⟩) (0 + 1) cap))
  clear hown5 hgrow5 hat5 hB5
  go_wp2_with fail
  clear q3 e3
  generalize w5.setCell ⟨w1.heap.size, 3, none⟩ (.slice (some ⟨g, 0, none⟩) (0 + 1) cap) = V at *
  refine (take_S C V _ ⟨#[61]⟩ HA5.out).mono ?_
  rintro e w6 ⟨rfl, hat6, hfr6⟩
  have HM6 := mkHid (HM5.out.keep hfr6 (by omega))
  have HF6 := mkHid (HF5.out.trans hfr6)
  have HA6 := mkHid hat6
  clear hat6 hfr6 HM5 HF5 HA5
  have HPk := mkHid (HM6.out.part.keep (Fr.refl C.pb w6).drew (by omega))
  have HMk : Hid (∀ a q', onS (takeS C (nameS C (.ok (p + 1))) [61]) E = .ok (a, q') → Made w1.heap.size w6.drew [118, 97, 114] [] (Hs.tk C.ts p).line (.slice (some ⟨g, 0, none⟩) (0 + 1) cap) ([Hs.node [116, 97, 114, 103, 101, 116] (nameL C (.ok (p + 1))) (nameT C (.ok (p + 1))) []])) := fun _ _ _ => HM6.out.keep (Fr.refl C.pb w6).drew (by omega)
  have HFk := mkHid HF6.out.drew
  have HC := mkHid (HEE.out.1 w6.drew (takeS C (nameS C (.ok (p + 1))) [61]) (HA6.out.below (Below.refl _ _).drew) HEE.out.2)
  obtain ⟨hmk, -, -, -, mk3, -, -, fk3⟩ := node_cells (show w6.heap[w1.heap.size]? = _ from HPk.out.blk)
  go_wp2_with fail
  go_cut [] (fun wc => Kid2 C w (w1.heap.size) [118, 97, 114] [] ((Hs.tk C.ts p).line) ([Hs.node [116, 97, 114, 103, 101, 116] (nameL C (.ok (p + 1))) (nameT C (.ok (p + 1))) []]) (1 + 1) (onS (takeS C (nameS C (.ok (p + 1))) [61]) E) wc)
  case first =>
    go_region_law ((first | (refine step_append_lies _ (by rfl) _ _ 90 (by rfl) ((w1.heap.size) + 1) 25 i0 _ 1 8 Tryz.underlying90 hi hz0 hz1 hz2 rfl (by decide) (.slice (some ⟨g, 0, none⟩) (0 + 1) cap) (1) vs (by rfl) (hown.alloc _) ⟨w4.heap.size, 0, none⟩ 1 1 [.pointer (some ⟨b4, 0, none⟩)] (by rfl) (by rfl) (news_ptr _ _) (one_ptr _) (by decide) (by unfold maxLen; omega) (by omega) (by simp; omega) (w4.heap.size + 1) (by simp) ?_; intro g cap w5 hown5 hgrow5 hat5 hg5; have hB5 := node_grown hP4.blk hown hgrow5; obtain ⟨hz5, -, -, -, q3, -, -, e3⟩ := node_cells hB5) | (go_simp; go_at_call 83; refine HC.out.mono ?_; rintro e w4 ⟨hfr4, hat4, b4, rfl, hrep4⟩; have hP4 := HPk.out.keep hfr4 (by omega); obtain ⟨hz4, -, -, -, p3, -, -, f3⟩ := node_cells hP4.blk; obtain ⟨vs, hown⟩ := hP4.own)))
    all_goals
      go_wp2_with fail
      go_meet
      case rel => exact kid2_end HFk.out HPk.out HMk.out (by omega) (by omega) (by omega) hfr4 hat4 hrep4 hown hown5 hgrow5 hat5
  case rest =>
    have HKK := mkHid hcut
    have HTK := mkHid (take_S C wc _ ⟨#[59]⟩ hcut.at_)
    clear hcut
    go_wp2_with fail
    refine HTK.out.mono ?_
    rintro e w8 ⟨rfl, hat8, hfr8⟩
    go_wp2_with fail
    go_ret
    exact semi_end HKK.out hfr8 hat8 (by omega) hsz1

/-- Any statement. -/
theorem stmt_reads (C : Ctx) (E B : Nat → Hs.R Hs.Ast) (HE : Reads C 83 E) (HB : Reads C 202 B) : Reads C 260 (Hs.stmtP E B C.ts) := by
  intro w S h hr
  cases S with
  | error l => exact stmt_simple C E HE w (.error l) h rfl rfl rfl rfl rfl hr
  | ok p =>
    have hat : At C w p 0 := h
    have hr' : Hs.stmtP E B C.ts p ≠ .error 0 := hr
    show Calls _ _ _ _ (PostN C w (Hs.stmtP E B C.ts p))
    unfold Hs.stmtP at hr' ⊢
    cases k0 : Hs.isT C.ts p [118, 97, 114]
    · rw [k0, if_neg (by simp)] at hr'
      rw [if_neg (by simp)]
      cases k1 : Hs.isT C.ts p [105, 102]
      · rw [k1, if_neg (by simp)] at hr'
        rw [if_neg (by simp)]
        cases k2 : Hs.isT C.ts p [119, 104, 105, 108, 101]
        · rw [k2, if_neg (by simp)] at hr'
          rw [if_neg (by simp)]
          cases k3 : Hs.isT C.ts p [114, 101, 116, 117, 114, 110]
          · rw [k3, if_neg (by simp)] at hr'
            rw [if_neg (by simp)]
            cases k4 : Hs.isT C.ts p [112, 114, 105, 110, 116]
            · rw [k4, if_neg (by simp)] at hr'
              exact stmt_simple C E HE w (.ok p) h k0 k1 k2 k3 k4 hr'
            · rw [k4, if_pos rfl] at hr'
              exact stmt_print C w p hat k0 k1 k2 k3 k4 E HE (fun e => hr' (by unfold Hs.printP; rw [e]; rfl))
          · rw [k3, if_pos rfl] at hr'
            rw [if_pos rfl]
            unfold Hs.returnP at hr' ⊢
            cases h59 : Hs.isT C.ts (p + 1) [59]
            · rw [h59, if_neg (by simp)] at hr'
              rw [if_neg (by simp)]
              exact stmt_return1 C w p hat k0 k1 k2 k3 E HE h59 (fun e => hr' (by rw [e]; rfl))
            · exact stmt_return0 C w p hat k0 k1 k2 k3 h59
        · rw [k2, if_pos rfl] at hr'
          rw [if_pos rfl]
          have e : Hs.whileP E B C.ts p = Hs.mapR (fun v => Hs.node [119, 104, 105, 108, 101] (Hs.tk C.ts p).line [] (kidsOf (E (p + 1)) ++ [v])) (onS (stR (E (p + 1))) B) := by
            unfold Hs.whileP
            cases E (p + 1) <;> rfl
          rw [e] at hr' ⊢
          exact stmt_while C w p hat k0 k1 k2 E B HE HB (fun e => hr' (by rw [e]; rfl)) (fun e => hr' (by rw [e]; rfl))
      · rw [k1, if_pos rfl] at hr'
        rw [if_pos rfl]
        have e1 : E (p + 1) ≠ .error 0 := fun e => hr' (by unfold Hs.ifP; rw [e]; rfl)
        have e2 : onS (stR (E (p + 1))) B ≠ .error 0 := fun e => hr' (by
          unfold Hs.ifP
          cases hE : E (p + 1) with
          | error l => rw [hE] at e; exact e
          | ok cq => rw [hE] at e; obtain ⟨c, q⟩ := cq; show Hs.bindR (B q) _ = _; rw [show B q = .error 0 from e]; rfl)
        cases hel : isS C (stR (onS (stR (E (p + 1))) B)) [101, 108, 115, 101]
        · have e : Hs.ifP E B C.ts p = Hs.mapR (fun v => Hs.node [105, 102] (Hs.tk C.ts p).line [] (kidsOf (E (p + 1)) ++ [v])) (onS (stR (E (p + 1))) B) := by
            unfold Hs.ifP
            cases hE : E (p + 1) with
            | error l => rfl
            | ok cq =>
              obtain ⟨c, q⟩ := cq
              rw [hE] at hel
              show Hs.bindR (B q) _ = Hs.mapR _ (B q)
              cases hB : B q with
              | error l => rfl
              | ok bq =>
                obtain ⟨b, q2⟩ := bq
                have hel' : Hs.isT C.ts q2 [101, 108, 115, 101] = false := by
                  rw [show onS (stR (.ok (c, q) : Hs.R Hs.Ast)) B = B q from rfl, hB] at hel; exact hel
                show (if Hs.isT C.ts q2 [101, 108, 115, 101] then _ else _) = _
                rw [hel', if_neg (by simp)]; rfl
          rw [e]
          exact stmt_if_false C w p hat k0 k1 E B HE HB e1 e2 hel
        · have e : Hs.ifP E B C.ts p = Hs.mapR (fun v => Hs.node [105, 102] (Hs.tk C.ts p).line [] (kidsIf (E (p + 1)) (onS (stR (E (p + 1))) B) ++ [v])) (onS (eatS C (stR (onS (stR (E (p + 1))) B)) [101, 108, 115, 101]) B) := by
            unfold Hs.ifP
            cases hE : E (p + 1) with
            | error l => rw [hE] at hel; cases hel
            | ok cq =>
              obtain ⟨c, q⟩ := cq
              rw [hE] at hel
              rw [show onS (stR (.ok (c, q) : Hs.R Hs.Ast)) B = B q from rfl] at hel ⊢
              cases hB : B q with
              | error l => rw [hB] at hel; cases hel
              | ok bq =>
                obtain ⟨b, q2⟩ := bq
                rw [hB] at hel
                have hel' : Hs.isT C.ts q2 [101, 108, 115, 101] = true := hel
                show (Hs.bindR (B q) fun b q2 => _) = _
                rw [hB, show eatS C (stR (.ok (b, q2) : Hs.R Hs.Ast)) [101, 108, 115, 101] = .ok (q2 + 1) from eatS_yes hel']
                show (if Hs.isT C.ts q2 [101, 108, 115, 101] then _ else _) = _
                rw [hel', if_pos rfl]; rfl
          rw [e] at hr' ⊢
          exact stmt_if_true C w p hat k0 k1 E B HE HB e1 e2 hel (fun e0 => hr' (by rw [e0]; rfl))
    · rw [k0, if_pos rfl] at hr'
      rw [if_pos rfl]
      have e : Hs.varP E C.ts p = Hs.thenTake C.ts [59] (Hs.mapR (fun v => Hs.node [118, 97, 114] (Hs.tk C.ts p).line [] ([Hs.node [116, 97, 114, 103, 101, 116] (nameL C (.ok (p + 1))) (nameT C (.ok (p + 1))) []] ++ [v])) (onS (takeS C (nameS C (.ok (p + 1))) [61]) E)) := by
        unfold Hs.varP
        by_cases h110 : (Hs.tk C.ts (p + 1)).sort = 110
        · obtain ⟨f1, f2, f3⟩ := nameS_yes h110
          rw [if_pos (by rw [h110]; rfl), f1, f2, f3]
          cases h61 : Hs.isT C.ts (p + 2) [61]
          · rw [takeS_no (show Hs.isT C.ts (p + 1 + 1) [61] = false from h61)]; rfl
          · rw [takeS_yes (show Hs.isT C.ts (p + 1 + 1) [61] = true from h61)]; rfl
        · obtain ⟨f1, f2, f3⟩ := nameS_no h110
          have e0 : ((Hs.tk C.ts (p + 1)).sort == 110) = false := by simpa using h110
          rw [f1, if_neg (by rw [e0]; simp)]; rfl
      rw [e] at hr' ⊢
      exact stmt_var C w p hat k0 E HE (fun e0 => hr' (by rw [e0]; rfl))

/-- Blocks, to any depth. -/
theorem blocks_reads (C : Ctx) (E : Nat → Hs.R Hs.Ast) (HE : Reads C 83 E) (f : Nat) : Reads C 202 (Hs.blockP E C.ts f) := by
  induction f with
  | zero =>
    intro w S h hr
    cases S with
    | ok p => exact absurd rfl hr
    | error l => exact block_er C w l h
  | succ f ih => exact block_reads C E f (stmt_reads C E _ HE ih)

end Go.Proofs.YtblbkfdhjfppkaaGreatDoor

/- Contracts of the document's answer: a function. -/
namespace Go.Proofs.YtblbkfdhjfppkaaGreatDoor
open Go.RowKit
attribute [local go_sem ↓] Go.wp_at_zero Go.wp_at_succ

/-- A parameter, or the fault that is there in its place. -/
def paramR (C : Ctx) (S : Except Nat Nat) : Hs.R Hs.Ast :=
  match nameS C S with
  | .ok q => .ok (Hs.node [112, 97, 114, 97, 109] (nameL C S) (nameT C S) [], q)
  | .error l => .error l
theorem paramR_st (C : Ctx) (S : Except Nat Nat) : stR (paramR C S) = nameS C S := by
  unfold paramR; cases nameS C S <;> rfl

/-- What holds at the head of the loop over parameters. -/
def ParamInv (C : Ctx) (w : World) (nb : Nat) (te : List UInt8) (li : Nat) (r : Hs.R (List Hs.Ast)) (k : Nat) (more : Value) (wr : World) : Prop :=
  Fr C.pb w wr ∧ ∃ x n c len, Part nb wr [102, 117, 110, 99] te li (.slice x n c) len ∧ len + k ≤ 4000 ∧
  ((more = .bool true ∧ ∃ q acc, At C wr q 0 ∧ r = Hs.paramLoop C.ts k q acc ∧ Made nb wr [102, 117, 110, 99] te li (.slice x n c) acc) ∨
   (∃ b, more = .bool b ∧ (b = true → ∃ l, r = .error l) ∧ AtS C wr (stR r) ∧ ∀ acc q, r = .ok (acc, q) → Made nb wr [102, 117, 110, 99] te li (.slice x n c) acc))

/-- The end of a function: its block was the last part. -/
theorem func_end {C : Ctx} {w wc : World} {nb : Nat} {op te : List UInt8} {li len : Nat} {acc : List Hs.Ast} {r1 : Hs.R Hs.Ast} (hk : Kid2 C w nb op te li acc len r1 wc) (hw : w.heap.size ≤ nb) :
    PostN C w (Hs.mapR (fun v => Hs.node op li te (acc ++ [v])) r1) (.returned (.pointer (some ⟨nb, 0, none⟩))) wc := by
  have e : stR (Hs.mapR (fun v => Hs.node op li te (acc ++ [v])) r1) = stR r1 := by cases r1 <;> rfl
  refine ⟨hk.fr, by rw [e]; exact hk.at_, nb, rfl, fun a q ha => ?_⟩
  cases r1 with
  | error l => cases ha
  | ok vq =>
    obtain ⟨v, q2⟩ := vq
    cases ha
    obtain ⟨x, n, c, _, hm⟩ := hk.blk
    exact (hm v _ rfl).rep hw

set_option maxRecDepth 100000 in
set_option maxHeartbeats 4000000 in
theorem func_S (C : Ctx) (B : Nat → Hs.R Hs.Ast) (HB : Reads C 202 B) (w : World) (S : Except Nat Nat) (h : AtS C w S) (r0 rP : Hs.R (List Hs.Ast))
    (h0 : Hid (r0 = onS (takeS C (nameS C (takeS C S [102, 117, 110, 99])) [40]) fun q => if Hs.isT C.ts q [41] then .ok ([], q) else Hs.paramLoop C.ts (C.ts.length + 1) q [])) (hP : Hid (rP = Hs.thenTake C.ts [41] r0)) (hr0 : r0 ≠ .error 0) (hr2 : onS (stR rP) B ≠ .error 0) :
    Calls Tryz.prog 143 #[.pointer (some ⟨C.pb, 0, none⟩)] w (PostN C w (Hs.mapR (fun v => Hs.node [102, 117, 110, 99] (nameL C (takeS C S [102, 117, 110, 99])) (nameT C (takeS C S [102, 117, 110, 99])) (accOf rP ++ [v])) (onS (stR rP) B))) := by
  obtain ⟨hpb, hgb, hlen⟩ := h.facts
  obtain ⟨i0, hi, hz0, hz1, hz2⟩ := info_parts infoPtr
  have HT := mkHid (take_S C w S ⟨#[102, 117, 110, 99]⟩ h)
  have HBB := mkHid (And.intro HB hr2)
  have HR0 := mkHid hr0
  clear h HB hr2 hr0
  generalize takeS C S [102, 117, 110, 99] = S1 at *
  have HNA := mkHid (fun w1 (h : AtS C w1 S1) => name_S C w1 S1 h)
  generalize nameT C S1 = te at *
  generalize nameL C S1 = li at *
  generalize nameS C S1 = S2 at *
  go_enter Tryz.func143, Tryz.ntmps143
  go_wp2_with fail
  refine HT.out.mono ?_
  rintro e w1 ⟨rfl, hat1, hfr1⟩
  have hat1' : AtS C w1 S1 := hat1
  have HNM := mkHid (HNA.out w1 hat1')
  have HF1 := mkHid hfr1
  have hsz1 := hfr1.size
  clear hat1 hat1' hfr1 HT
  go_wp2_with fail
  refine HNM.out.mono ?_
  rintro e w2 ⟨rfl, hat2, hfr2⟩
  have HF2 := mkHid (fun o => (HF1.out.trans hfr2).alloc o)
  have HA2 := mkHid (fun o => hat2.alloc o)
  have hsz2 := hfr2.size
  clear hat2 hfr2 HNM
  go_wp2_with fail
  refine (take_S C _ S2 ⟨#[40]⟩ (HA2.out _)).mono ?_
  rintro e w3 ⟨rfl, hat3, hfr3⟩
  have hblk := (hfr3.block w2.heap.size (by simp) (by omega)).trans (heap_first w2 _ rfl _)
  have HM3 := mkHid (Made.new (op := [102, 117, 110, 99]) (te := te) hblk)
  have HF3 := mkHid ((HF2.out _).trans hfr3)
  have hat3' : AtS C w3 (takeS C S2 [40]) := hat3
  clear hat3 hfr3 hblk
  generalize takeS C S2 [40] = S3 at *
  have HIS := mkHid (is_S C w3 S3 ⟨#[41]⟩ hat3')
  have HA3 := mkHid hat3'
  clear hat3'
  go_wp2_with fail
  refine HIS.out.mono ?_
  rintro e w4 ⟨rfl, hb4⟩
  have HA4 := mkHid (HA3.out.below hb4)
  have HF4 := mkHid (HF3.out.trans_below hb4)
  have HM4 := mkHid (HM3.out.keep (Fr.below (pb := C.pb) hb4) (by omega))
  have hz4 := lt_of_block HM4.out.blk
  clear hb4 HIS HA3 HF3 HM3
  cases hb1 : isS C S3 (⟨#[41]⟩ : ByteArray).data.toList
  · have HB1 := mkHid hb1
    clear hb1
    go_wp2_with fail
    go_loopg [6] (C.ts.length + 1) (fun k more wr => ParamInv C w w2.heap.size te li r0 k more wr)
    case atStart =>
      refine ⟨HF4.out, none, 0, 0, 0, HM4.out.part, by omega, ?_⟩
      cases S3 with
      | error l =>
        have e : r0 = .error l := h0.out
        exact Or.inr ⟨true, rfl, fun _ => ⟨l, e⟩, by rw [e]; exact HA4.out, fun acc q hq => by rw [e] at hq; cases hq⟩
      | ok q =>
        have e : r0 = Hs.paramLoop C.ts (C.ts.length + 1) q [] := by
          rw [h0.out]
          show (if Hs.isT C.ts q [41] then _ else _) = _
          rw [show Hs.isT C.ts q [41] = false from HB1.out]; rfl
        exact Or.inl ⟨rfl, q, [], HA4.out, e, HM4.out⟩
    case round =>
      obtain ⟨hf0, x, n, c, len, hpt, hlk, hrel⟩ := hrel
      have HF0 := mkHid hf0
      have HPT := mkHid hpt
      have hszr := hf0.size
      clear hf0 hpt HF4 HA4 HM4 HB1 h0
      rcases hrel with ⟨rfl, q, acc, hq, hr1, hmd⟩ | ⟨b, rfl, hbt, hS, hmd⟩
      · obtain ⟨k, rfl⟩ : ∃ k, gk = k + 1 := by
          cases gk with
          | zero => exact absurd hr1 HR0.out
          | succ k => exact ⟨k, rfl⟩
        rw [Hs.paramLoop] at hr1
        obtain ⟨hl1, hc2⟩ := hq.good
        have HNM := mkHid (name_S C wr (.ok q) hq)
        have HR1 := mkHid hr1
        have HM := mkHid hmd
        clear hr1 hq hmd
        go_wp2_with fail
        refine HNM.out.mono ?_
        rintro e v2 ⟨rfl, hat2, hfr2⟩
        have hP2 := HPT.out.keep hfr2 (by omega)
        obtain ⟨vs, hown⟩ := hP2.own
        obtain ⟨hm2, -, -, -, m3, -, -, f3⟩ := node_cells hP2.blk
        have HP2 := mkHid hP2
        have HM2 := mkHid (HM.out.keep hfr2 (by omega))
        have HA2 := mkHid hat2
        have HF2 := mkHid (HF0.out.trans hfr2)
        clear hP2 hat2 hfr2 HNM hc2
        go_wp2_with (at_builtin; refine wpList_append_lies _ (by rfl) _ _ 90 (by rfl) (w2.heap.size + 1) 25 i0 _ 1 8 Tryz.underlying90 hi hz0 hz1 hz2 rfl (by decide) (.slice x n c) len vs (by rfl) ((hown.alloc _).alloc _) ⟨v2.heap.size + 1, 0, none⟩ 1 1 [.pointer (some ⟨v2.heap.size, 0, none⟩)] (by rfl) (by rfl) (news_at _ _ _ (by simp)) (one_ptr _) (by decide) (by unfold maxLen; omega) (by omega) (by simp; omega) (v2.heap.size + 1 + 1) (by simp) ?_)
        intro g cap w5 hown5 hgrow5 hat5 hg5
        have hkid := kid2_end (C := C) (w0 := w) (wX := v2) (w4 := v2.alloc (.cells #[.string (bs [112, 97, 114, 97, 109]), .int .i64 (nameL C (.ok q)), .string (bs (nameT C (.ok q))), .slice none 0 0] 92)) (r := paramR C (.ok q)) (acc := acc) (b4 := v2.heap.size) HF2.out HP2.out (fun _ _ _ => HM2.out) (by omega) (by omega) (by omega) ((Fr.refl _ _).alloc _) (by rw [paramR_st]; exact HA2.out.alloc _)
          (fun a q' ha => by
            unfold paramR at ha
            cases hS2 : nameS C (.ok q) with
            | error l => rw [hS2] at ha; cases ha
            | ok q2 =>
              rw [hS2] at ha
              cases ha
              exact Rep.mk ⟨Nat.le_refl _, by simp⟩ (heap_first _ _ rfl _) (Or.inl ⟨rfl, rfl⟩)) (hown.alloc _) hown5 hgrow5 (hat5.imp_right (fun e => by simp; omega))
        have hB5 := node_grown (HP2.out.keep ((Fr.refl C.pb v2).alloc (.cells #[.string (bs [112, 97, 114, 97, 109]), .int .i64 (nameL C (.ok q)), .string (bs (nameT C (.ok q))), .slice none 0 0] 92)) (by omega)).blk (hown.alloc _) hgrow5
        obtain ⟨hz5, -, -, -, q3, -, -, e3⟩ := node_cells hB5
        have HKID := mkHid hkid
        clear hkid hown hown5 hgrow5 hat5 hB5 m3 f3
        go_wp2_with fail
        clear q3 e3
        generalize w5.setCell ⟨w2.heap.size, 3, none⟩ (.slice (some ⟨g, 0, none⟩) (len + 1) cap) = V at *
        have HXE := mkHid (eat_S C V _ ⟨#[44]⟩ HKID.out.at_)
        refine HXE.out.mono ?_
        rintro e w6 ⟨rfl, hat6, hfr6⟩
        go_wp2_with fail
        go_roundg k
        case measure => omega
        case rel =>
          obtain ⟨f1, f2, x', n', c', f4, f5⟩ := HKID.out
          refine ⟨f1.trans hfr6, x', n', c', len + 1, f4.keep hfr6 (by omega), by omega, ?_⟩
          have hr2 := HR1.out
          have hat6' := hat6
          rw [paramR_st] at hat6' ⊢
          by_cases h110 : (Hs.tk C.ts q).sort = 110
          · obtain ⟨g1, g2, g3⟩ := nameS_yes h110
            have ep : paramR C (.ok q) = .ok (Hs.node [112, 97, 114, 97, 109] (Hs.tk C.ts q).line (Hs.tk C.ts q).text [], q + 1) := by
              unfold paramR; rw [g1, g2, g3]
            have hm6 := (f5 _ _ ep).keep hfr6 (show C.pb < w2.heap.size by omega)
            rw [if_pos (by rw [h110]; rfl)] at hr2
            rw [g1] at hat6' ⊢
            rw [isS_ok]
            cases h44 : Hs.isT C.ts (q + 1) [44]
            · rw [h44, if_neg (by simp)] at hr2
              rw [show eatS C (.ok (q + 1)) (⟨#[44]⟩ : ByteArray).data.toList = .ok (q + 1) from eatS_no h44] at hat6'
              exact Or.inr ⟨false, rfl, (fun h => by cases h), by rw [hr2]; exact hat6', fun acc' q' hq => by rw [hr2] at hq; cases hq; exact hm6⟩
            · rw [h44, if_pos rfl] at hr2
              rw [show eatS C (.ok (q + 1)) (⟨#[44]⟩ : ByteArray).data.toList = .ok (q + 1 + 1) from eatS_yes h44] at hat6'
              exact Or.inl ⟨rfl, q + 2, _, hat6', hr2, hm6⟩
          · obtain ⟨g1, g2, g3⟩ := nameS_no h110
            have e0 : ((Hs.tk C.ts q).sort == 110) = false := by simpa using h110
            rw [if_neg (by rw [e0]; simp)] at hr2
            rw [g1] at hat6' ⊢
            exact Or.inr ⟨false, rfl, (fun h => by cases h), by rw [hr2]; exact hat6', fun acc' q' hq => by rw [hr2] at hq; cases hq⟩
      · have HTK := mkHid (take_S C wr (stR r0) ⟨#[41]⟩ hS)
        have HMD := mkHid hmd
        cases b
        · clear hbt hS hmd
          go_wp2_with fail
          refine HTK.out.mono ?_
          rintro e w6 ⟨rfl, hat6, hfr6⟩
          have hat6' := hat6
          rw [takeS_then, show Hs.thenTake C.ts (⟨#[41]⟩ : ByteArray).data.toList r0 = rP from hP.out.symm] at hat6'
          have HPk := mkHid ((HPT.out.keep hfr6 (by omega)).keep (Fr.refl C.pb w6).drew (by omega))
          have HMk : Hid (∀ a q', onS (stR rP) B = .ok (a, q') → Made w2.heap.size w6.drew [102, 117, 110, 99] te li (.slice x n c) (accOf rP)) := fun a q' ha => by
            cases hx : rP with
            | error l => rw [hx] at ha; cases ha
            | ok kq =>
              obtain ⟨ks, q3⟩ := kq
              obtain ⟨q4, hq4⟩ := thenTake_ok (hP.out.symm.trans hx)
              exact ((HMD.out ks q4 hq4).keep hfr6 (by omega)).keep (Fr.refl C.pb w6).drew (by omega)
          have HFk := mkHid (HF0.out.trans hfr6).drew
          have HC := mkHid (HBB.out.1 w6.drew (stR rP) (hat6'.below (Below.refl _ _).drew) HBB.out.2)
          obtain ⟨hmk, -, -, -, mk3, -, -, fk3⟩ := node_cells (show w6.heap[w2.heap.size]? = _ from HPk.out.blk)
          clear hat6 hat6' hfr6 HTK
          go_wp2_with fail
          go_cut [] (fun wc => Kid2 C w (w2.heap.size) [102, 117, 110, 99] te (li) (accOf rP) (len + 1) (onS (stR rP) B) wc)
          case first =>
            go_region_law ((first | (refine step_append_lies _ (by rfl) _ _ 90 (by rfl) ((w2.heap.size) + 1) 25 i0 _ 1 8 Tryz.underlying90 hi hz0 hz1 hz2 rfl (by decide) (.slice x n c) (len) vs (by rfl) (hown.alloc _) ⟨w4.heap.size, 0, none⟩ 1 1 [.pointer (some ⟨b4, 0, none⟩)] (by rfl) (by rfl) (news_ptr _ _) (one_ptr _) (by decide) (by unfold maxLen; omega) (by omega) (by simp; omega) (w4.heap.size + 1) (by simp) ?_; intro g cap w5 hown5 hgrow5 hat5 hg5; have hB5 := node_grown hP4.blk hown hgrow5; obtain ⟨hz5, -, -, -, q3, -, -, e3⟩ := node_cells hB5) | (go_simp; go_at_call 202; refine HC.out.mono ?_; rintro e w4 ⟨hfr4, hat4, b4, rfl, hrep4⟩; have hP4 := HPk.out.keep hfr4 (by omega); obtain ⟨hz4, -, -, -, p3, -, -, f3⟩ := node_cells hP4.blk; obtain ⟨vs, hown⟩ := hP4.own)))
            all_goals
              go_wp2_with fail
              go_meet
              case rel => exact kid2_end HFk.out HPk.out HMk.out (by omega) (by omega) (by omega) hfr4 hat4 hrep4 hown hown5 hgrow5 hat5
          case rest =>
            have HKK := mkHid hcut
            clear hcut
            go_wp2_with fail
            go_ret
            exact func_end HKK.out (by omega)
        · obtain ⟨l, hl⟩ := hbt rfl
          have hS' := hS
          rw [hl] at hS'
          obtain ⟨hl1, cc, hc0, hc2⟩ := AtS.bad hS'
          clear hbt hS hS' hl hmd
          go_wp2_with fail
          refine HTK.out.mono ?_
          rintro e w6 ⟨rfl, hat6, hfr6⟩
          have hat6' := hat6
          rw [takeS_then, show Hs.thenTake C.ts (⟨#[41]⟩ : ByteArray).data.toList r0 = rP from hP.out.symm] at hat6'
          have HPk := mkHid ((HPT.out.keep hfr6 (by omega)).keep (Fr.refl C.pb w6).drew (by omega))
          have HMk : Hid (∀ a q', onS (stR rP) B = .ok (a, q') → Made w2.heap.size w6.drew [102, 117, 110, 99] te li (.slice x n c) (accOf rP)) := fun a q' ha => by
            cases hx : rP with
            | error l => rw [hx] at ha; cases ha
            | ok kq =>
              obtain ⟨ks, q3⟩ := kq
              obtain ⟨q4, hq4⟩ := thenTake_ok (hP.out.symm.trans hx)
              exact ((HMD.out ks q4 hq4).keep hfr6 (by omega)).keep (Fr.refl C.pb w6).drew (by omega)
          have HFk := mkHid (HF0.out.trans hfr6).drew
          have HC := mkHid (HBB.out.1 w6.drew (stR rP) (hat6'.below (Below.refl _ _).drew) HBB.out.2)
          obtain ⟨hmk, -, -, -, mk3, -, -, fk3⟩ := node_cells (show w6.heap[w2.heap.size]? = _ from HPk.out.blk)
          clear hat6 hat6' hfr6 HTK
          go_wp2_with fail
          go_cut [] (fun wc => Kid2 C w (w2.heap.size) [102, 117, 110, 99] te (li) (accOf rP) (len + 1) (onS (stR rP) B) wc)
          case first =>
            go_region_law ((first | (refine step_append_lies _ (by rfl) _ _ 90 (by rfl) ((w2.heap.size) + 1) 25 i0 _ 1 8 Tryz.underlying90 hi hz0 hz1 hz2 rfl (by decide) (.slice x n c) (len) vs (by rfl) (hown.alloc _) ⟨w4.heap.size, 0, none⟩ 1 1 [.pointer (some ⟨b4, 0, none⟩)] (by rfl) (by rfl) (news_ptr _ _) (one_ptr _) (by decide) (by unfold maxLen; omega) (by omega) (by simp; omega) (w4.heap.size + 1) (by simp) ?_; intro g cap w5 hown5 hgrow5 hat5 hg5; have hB5 := node_grown hP4.blk hown hgrow5; obtain ⟨hz5, -, -, -, q3, -, -, e3⟩ := node_cells hB5) | (go_simp; go_at_call 202; refine HC.out.mono ?_; rintro e w4 ⟨hfr4, hat4, b4, rfl, hrep4⟩; have hP4 := HPk.out.keep hfr4 (by omega); obtain ⟨hz4, -, -, -, p3, -, -, f3⟩ := node_cells hP4.blk; obtain ⟨vs, hown⟩ := hP4.own)))
            all_goals
              go_wp2_with fail
              go_meet
              case rel => exact kid2_end HFk.out HPk.out HMk.out (by omega) (by omega) (by omega) hfr4 hat4 hrep4 hown hown5 hgrow5 hat5
          case rest =>
            have HKK := mkHid hcut
            clear hcut
            go_wp2_with fail
            go_ret
            exact func_end HKK.out (by omega)
  · obtain ⟨q, rfl, hq⟩ : ∃ q, S3 = .ok q ∧ Hs.isT C.ts q [41] = true := by
      cases S3 with
      | ok q => exact ⟨q, rfl, hb1⟩
      | error l => cases hb1
    have e0 : r0 = .ok ([], q) := by
      rw [h0.out]
      show (if Hs.isT C.ts q [41] then _ else _) = _
      rw [hq]; rfl
    have hS : AtS C w4 (stR r0) := by rw [e0]; exact HA4.out
    have HTK := mkHid (take_S C w4 (stR r0) ⟨#[41]⟩ hS)
    have HMD : Hid (∀ acc q, r0 = .ok (acc, q) → Made w2.heap.size w4 [102, 117, 110, 99] te li (.slice none 0 0) acc) := fun acc q' hq' => by
      rw [e0] at hq'; cases hq'; exact HM4.out
    have HF0 := HF4
    have HPT := mkHid HM4.out.part
    clear hb1 hq e0 hS
    go_wp2_with fail
    refine HTK.out.mono ?_
    rintro e w6 ⟨rfl, hat6, hfr6⟩
    have hat6' := hat6
    rw [takeS_then, show Hs.thenTake C.ts (⟨#[41]⟩ : ByteArray).data.toList r0 = rP from hP.out.symm] at hat6'
    have HPk := mkHid ((HPT.out.keep hfr6 (by omega)).keep (Fr.refl C.pb w6).drew (by omega))
    have HMk : Hid (∀ a q', onS (stR rP) B = .ok (a, q') → Made w2.heap.size w6.drew [102, 117, 110, 99] te li (.slice none 0 0) (accOf rP)) := fun a q' ha => by
      cases hx : rP with
      | error l => rw [hx] at ha; cases ha
      | ok kq =>
        obtain ⟨ks, q3⟩ := kq
        obtain ⟨q4, hq4⟩ := thenTake_ok (hP.out.symm.trans hx)
        exact ((HMD.out ks q4 hq4).keep hfr6 (by omega)).keep (Fr.refl C.pb w6).drew (by omega)
    have HFk := mkHid (HF0.out.trans hfr6).drew
    have HC := mkHid (HBB.out.1 w6.drew (stR rP) (hat6'.below (Below.refl _ _).drew) HBB.out.2)
    obtain ⟨hmk, -, -, -, mk3, -, -, fk3⟩ := node_cells (show w6.heap[w2.heap.size]? = _ from HPk.out.blk)
    clear hat6 hat6' hfr6 HTK
    go_wp2_with fail
    go_cut [] (fun wc => Kid2 C w (w2.heap.size) [102, 117, 110, 99] te (li) (accOf rP) (0 + 1) (onS (stR rP) B) wc)
    case first =>
      go_region_law ((first | (refine step_append_lies _ (by rfl) _ _ 90 (by rfl) ((w2.heap.size) + 1) 25 i0 _ 1 8 Tryz.underlying90 hi hz0 hz1 hz2 rfl (by decide) (.slice none 0 0) (0) vs (by rfl) (hown.alloc _) ⟨w4.heap.size, 0, none⟩ 1 1 [.pointer (some ⟨b4, 0, none⟩)] (by rfl) (by rfl) (news_ptr _ _) (one_ptr _) (by decide) (by unfold maxLen; omega) (by omega) (by simp; omega) (w4.heap.size + 1) (by simp) ?_; intro g cap w5 hown5 hgrow5 hat5 hg5; have hB5 := node_grown hP4.blk hown hgrow5; obtain ⟨hz5, -, -, -, q3, -, -, e3⟩ := node_cells hB5) | (go_simp; go_at_call 202; refine HC.out.mono ?_; rintro e w4 ⟨hfr4, hat4, b4, rfl, hrep4⟩; have hP4 := HPk.out.keep hfr4 (by omega); obtain ⟨hz4, -, -, -, p3, -, -, f3⟩ := node_cells hP4.blk; obtain ⟨vs, hown⟩ := hP4.own)))
      all_goals
        go_wp2_with fail
        go_meet
        case rel => exact kid2_end HFk.out HPk.out HMk.out (by omega) (by omega) (by omega) hfr4 hat4 hrep4 hown hown5 hgrow5 hat5
    case rest =>
      have HKK := mkHid hcut
      clear hcut
      go_wp2_with fail
      go_ret
      exact func_end HKK.out (by omega)

end Go.Proofs.YtblbkfdhjfppkaaGreatDoor

/- Contracts of the document's answer: a program. -/
namespace Go.Proofs.YtblbkfdhjfppkaaGreatDoor
open Go.RowKit
attribute [local go_sem ↓] Go.wp_at_zero Go.wp_at_succ

/-- A function: what the plain function reads. -/
theorem func_reads (C : Ctx) (B : Nat → Hs.R Hs.Ast) (HB : Reads C 202 B) : Reads C 143 (Hs.funcP B C.ts) := by
  intro w S h hr
  have e : onS S (Hs.funcP B C.ts) = Hs.mapR (fun v => Hs.node [102, 117, 110, 99] (nameL C (takeS C S [102, 117, 110, 99])) (nameT C (takeS C S [102, 117, 110, 99])) (accOf (Hs.thenTake C.ts [41] (onS (takeS C (nameS C (takeS C S [102, 117, 110, 99])) [40]) fun q => if Hs.isT C.ts q [41] then .ok ([], q) else Hs.paramLoop C.ts (C.ts.length + 1) q [])) ++ [v])) (onS (stR (Hs.thenTake C.ts [41] (onS (takeS C (nameS C (takeS C S [102, 117, 110, 99])) [40]) fun q => if Hs.isT C.ts q [41] then .ok ([], q) else Hs.paramLoop C.ts (C.ts.length + 1) q []))) B) := by
    cases S with
    | error l => rfl
    | ok p =>
      show Hs.funcP B C.ts p = _
      unfold Hs.funcP
      cases k0 : Hs.isT C.ts p [102, 117, 110, 99]
      · rw [takeS_no k0, if_neg (by simp)]; rfl
      · rw [takeS_yes k0, if_pos rfl]
        by_cases h110 : (Hs.tk C.ts (p + 1)).sort = 110
        · obtain ⟨f1, f2, f3⟩ := nameS_yes h110
          rw [if_pos (by rw [h110]; rfl), f1, f2, f3]
          cases h40 : Hs.isT C.ts (p + 2) [40]
          · rw [takeS_no (show Hs.isT C.ts (p + 1 + 1) [40] = false from h40), if_neg (by simp)]; rfl
          · rw [takeS_yes (show Hs.isT C.ts (p + 1 + 1) [40] = true from h40), if_pos rfl]
            show Hs.bindR (Hs.paramsP C.ts (p + 3)) _ = _
            have ep : Hs.paramsP C.ts (p + 3) = Hs.thenTake C.ts [41] (onS (.ok (p + 1 + 1 + 1)) fun q => if Hs.isT C.ts q [41] then .ok ([], q) else Hs.paramLoop C.ts (C.ts.length + 1) q []) := rfl
            rw [ep]
            cases Hs.thenTake C.ts [41] (onS (.ok (p + 1 + 1 + 1)) fun q => if Hs.isT C.ts q [41] then .ok ([], q) else Hs.paramLoop C.ts (C.ts.length + 1) q []) <;> rfl
        · obtain ⟨f1, f2, f3⟩ := nameS_no h110
          have e0 : ((Hs.tk C.ts (p + 1)).sort == 110) = false := by simpa using h110
          rw [f1, if_neg (by rw [e0]; simp)]; rfl
  rw [e] at hr ⊢
  exact func_S C B HB w S h _ _ rfl rfl (fun e0 => hr (by rw [e0]; rfl)) (fun e0 => hr (by rw [e0]; rfl))

theorem fld_sort (a : Int) (b : ByteArray) (c : Int) (w : World) : (Instr.field 158 (.agg #[.int .u8 a, .string b, .int .i64 c]) 0).run Tryz.prog w = .ok (.int .u8 a) w := by kernel_rfl

/-- What holds at the head of a program's loop. -/
def ProgInv (C : Ctx) (X : Nat → Hs.R Hs.Ast) (w : World) (nb : Nat) (r : Hs.R (List Hs.Ast)) (k : Nat) (wr : World) : Prop :=
  Fr C.pb w wr ∧ nb < wr.heap.size ∧
  ((∃ q acc x n c, At C wr q 0 ∧ r = Hs.progLoop X C.ts k q acc ∧ acc.length + k ≤ 4000 ∧ Made nb wr [112, 114, 111, 103, 114, 97, 109] [] 0 (.slice x n c) acc) ∨ (∃ l, r = .error l ∧ AtS C wr (.error l)))

set_option maxRecDepth 100000 in
set_option maxHeartbeats 2000000 in
theorem prog_any (C : Ctx) (X : Nat → Hs.R Hs.Ast) (HE : Reads C 143 X) (w : World) (p : Nat) (h : At C w p 0) (r : Hs.R (List Hs.Ast)) (hr : Hid (r = Hs.progLoop X C.ts (C.ts.length + 1) p [])) (hr0 : r ≠ .error 0) :
    Calls Tryz.prog 85 #[.pointer (some ⟨C.pb, 0, none⟩)] w (PostN C w (Hs.mapR (Hs.node [112, 114, 111, 103, 114, 97, 109] 0 []) r)) := by
  obtain ⟨hpb, hgb, hlen⟩ := AtS.facts (S := .ok p) h
  obtain ⟨i0, hi, hz0, hz1, hz2⟩ := info_parts infoPtr
  have HA := mkHid h
  have HEE := mkHid HE
  have HR0 := mkHid hr0
  have hfs := fld_sort
  have er : stR (Hs.mapR (Hs.node [112, 114, 111, 103, 114, 97, 109] 0 []) r) = stR r := by cases r <;> rfl
  have ER := mkHid er
  clear h HE hr0 er
  go_enter Tryz.func85, Tryz.ntmps85
  go_wp2_with fail
  go_loopg [] (C.ts.length + 1) (fun k wr => ProgInv C X w w.heap.size r k wr)
  case atStart =>
    refine ⟨(Fr.refl _ _).alloc _, by simp, ?_⟩
    exact Or.inl ⟨p, [], none, 0, 0, HA.out.below ((Below.refl _ _).alloc (Nat.le_refl _) _), hr.out, by simp; omega, Made.new (heap_first _ _ rfl _)⟩
  case round =>
    obtain ⟨hf0, hnb, hrel⟩ := hrel
    have HF0 := mkHid hf0
    have hsz0 := hf0.size
    clear hf0
    rcases hrel with ⟨q, acc, x, n, c, hq, hr1, hal, hmd⟩ | ⟨l, hr1, hl⟩
    · obtain ⟨k, rfl⟩ : ∃ k, gk = k + 1 := by
        cases gk with
        | zero => exact absurd hr1 HR0.out
        | succ k => exact ⟨k, rfl⟩
      rw [Hs.progLoop] at hr1
      obtain ⟨hl1, hc2⟩ := hq.good
      have HQ := mkHid hq
      have HM := mkHid hmd
      have HPK := mkHid (peek_any C wr q 0 hq)
      by_cases h101 : (Hs.tk C.ts q).sort = 101
      · rw [if_pos (by rw [h101]; rfl)] at hr1
        have HR1 := mkHid hr1
        have e1 : (((Hs.tk C.ts q).sort : Int) != 101) = false := by rw [h101]; rfl
        clear hr1 hq hmd h101
        go_wp2_with fail
        refine HPK.out.mono ?_
        rw [tokV]
        rintro e w3 ⟨rfl, hb3⟩
        go_wp2_with fail
        go_ret
        refine ⟨HF0.out.trans_below hb3, by rw [ER.out, HR1.out]; exact HQ.out.below hb3, w.heap.size, rfl, fun a q' ha => ?_⟩
        rw [HR1.out] at ha
        cases ha
        exact (HM.out.keep (Fr.below (pb := C.pb) hb3) hpb).rep (Nat.le_refl _)
      · have e0 : ((Hs.tk C.ts q).sort == 101) = false := by simpa using h101
        rw [if_neg (by rw [e0]; simp)] at hr1
        have HR1 := mkHid hr1
        have e1 : (((Hs.tk C.ts q).sort : Int) != 101) = true := by simp; omega
        clear hr1 hq hmd h101 e0
        go_wp2_with fail
        refine HPK.out.mono ?_
        rw [tokV]
        rintro e w3 ⟨rfl, hb3⟩
        have hM3 := HM.out.keep (Fr.below (pb := C.pb) hb3) hpb
        have hE0 : onS (.ok q) X ≠ .error 0 := fun e => HR0.out (by rw [HR1.out, show X q = .error 0 from e])
        have HC := mkHid (HEE.out w3.drew (.ok q) (HQ.out.below hb3.drew) hE0)
        obtain ⟨hm0, -, -, -, m3, -, -, k3⟩ := node_cells hM3.blk
        have hM3d := hM3.keep (Fr.refl C.pb w3).drew hpb
        have HPk := mkHid hM3d.part
        have HMk : Hid (∀ a q', X q = .ok (a, q') → Made w.heap.size w3.drew [112, 114, 111, 103, 114, 97, 109] [] 0 (.slice x n c) acc) := fun _ _ _ => hM3d
        have HFk := mkHid (HF0.out.trans_below hb3.drew)
        clear hb3 hM3 hE0 HPK hM3d hc2
        go_wp2_with fail
        go_region_law ((first | (refine step_append_lies _ (by rfl) _ _ 90 (by rfl) ((w.heap.size) + 1) 25 i0 _ 1 8 Tryz.underlying90 hi hz0 hz1 hz2 rfl (by decide) (.slice x n c) (acc.length) vs (by rfl) (hown.alloc _) ⟨w4.heap.size, 0, none⟩ 1 1 [.pointer (some ⟨b4, 0, none⟩)] (by rfl) (by rfl) (news_ptr _ _) (one_ptr _) (by decide) (by unfold maxLen; omega) (by omega) (by simp; omega) (w4.heap.size + 1) (by simp) ?_; intro g cap w5 hown5 hgrow5 hat5 hg5; have hB5 := node_grown hP4.blk hown hgrow5; obtain ⟨hz5, -, -, -, q3, -, -, e3⟩ := node_cells hB5) | (go_simp; go_at_call 143; refine HC.out.mono ?_; rintro e w4 ⟨hfr4, hat4, b4, rfl, hrep4⟩; have hP4 := HPk.out.keep hfr4 (by omega); obtain ⟨hz4, -, -, -, p3, -, -, f3⟩ := node_cells hP4.blk; obtain ⟨vs, hown⟩ := hP4.own)))
        all_goals
          have hcut2 : Kid2 C w w.heap.size [112, 114, 111, 103, 114, 97, 109] [] 0 acc (acc.length + 1) (X q) _ := kid2_end HFk.out HPk.out HMk.out (by omega) (by omega) (by omega) hfr4 hat4 hrep4 hown hown5 hgrow5 hat5
          have HCUT := mkHid hcut2
          clear hcut2 hfr4 hat4 hrep4 hown hown5 hgrow5 hat5 hP4 hB5
          go_wp2_with fail
          go_roundg k
          case measure => omega
          case rel =>
            obtain ⟨hfc, hatc, xc, nc, cc, hpc, hmc⟩ := HCUT.out
            refine ⟨hfc, lt_of_block hpc.blk, ?_⟩
            have hr2 := HR1.out
            cases hE : X q with
            | error l => rw [hE] at hr2 hatc; exact Or.inr ⟨l, hr2, hatc⟩
            | ok aq =>
              obtain ⟨a, q1⟩ := aq
              rw [hE] at hr2 hatc
              exact Or.inl ⟨q1, acc ++ [a], xc, nc, cc, hatc, hr2, by simp; omega, hmc a q1 hE⟩
    · obtain ⟨hl1, cc, hc0, hc2⟩ := AtS.bad hl
      have HR1 := mkHid hr1
      have HL := mkHid hl
      clear hl hr1
      go_wp2_with fail
      go_ret
      exact ⟨HF0.out, by rw [ER.out, HR1.out]; exact HL.out, w.heap.size, rfl, fun a q h => by rw [HR1.out] at h; cases h⟩

/-- Where nothing is read ahead of it: the whole program. -/
theorem prog_reads (C : Ctx) (w : World) (h : At C w 0 0) (hr : Hs.progP C.ts ≠ .error 0) :
    Calls Tryz.prog 85 #[.pointer (some ⟨C.pb, 0, none⟩)] w (PostN C w (Hs.mapR (Hs.node [112, 114, 111, 103, 114, 97, 109] 0 []) (Hs.progP C.ts))) :=
  prog_any C _ (func_reads C _ (blocks_reads C _ (expr_reads C _) _)) w 0 h _ rfl hr

end Go.Proofs.YtblbkfdhjfppkaaGreatDoor

/- Contracts of the document's answer: a source, up to its form. -/
namespace Go.Proofs.YtblbkfdhjfppkaaGreatDoor
open Go.RowKit

theorem spoilAt_le (f : Nat) : ∀ (l : List UInt8) (p k : Nat), Hs.spoilAt f l p = some k → k ≤ p + l.length := by
  induction f with
  | zero => intro l p k h; cases h
  | succ f ih =>
    intro l p k h
    rw [Hs.spoilAt] at h
    split at h
    · cases h
    split at h
    · cases h; omega
    · have := ih _ _ _ h
      rw [List.length_drop] at this
      have := charL_len l
      omega
theorem toksL_err (f : Nat) : ∀ (pre l : List UInt8) (n : Nat), l.length < f → Hs.toksL f pre l = .error n → n ≠ 0 := by
  induction f with
  | zero => intro pre l n h _; omega
  | succ f ih =>
    intro pre l n hf h
    by_cases hl : l.length = 0
    · rw [Hs.toksL_end _ _ _ hl] at h; cases h
    · cases hk : (Hs.tokL l).ok
      · rw [Hs.toksL_bad _ _ _ hl hk] at h
        cases h
        unfold Hs.lineOf; omega
      · rw [Hs.toksL_step _ _ _ hl hk _ rfl] at h
        have hsz := Hs.tokL_size l hk
        cases hx : Hs.toksL f (pre ++ l.take ((Hs.tokL l).size + Hs.blankL l.length (l.drop (Hs.tokL l).size))) (l.drop ((Hs.tokL l).size + Hs.blankL l.length (l.drop (Hs.tokL l).size))) with
        | error m =>
          rw [hx] at h
          cases h
          exact ih _ _ _ (by rw [List.length_drop]; omega) hx
        | ok us => rw [hx] at h; cases h
theorem tokens_err {l : List UInt8} {n : Nat} (h : Hs.tokens l = .error n) : n ≠ 0 := by
  unfold Hs.tokens at h
  exact toksL_err _ _ _ _ (by rw [List.length_drop]; omega) h

/-- The parser that 'parsed' makes. -/
theorem At.new {w : World} {g cap : Nat} {ts : List Hs.Tok} {base : Nat} (hown : w.ownsRow base 158 3 (.slice (some ⟨g, 0, none⟩) ts.length cap) ts.length (toksC ts)) (hts : Hs.TsAll ts) (hlen : ts.length ≤ 3000) :
    At ⟨w.heap.size, g, cap, ts⟩ (w.alloc (.cells #[.slice (some ⟨g, 0, none⟩) ts.length cap, .int .i64 0, .int .i64 0] 155)) 0 0 := by
  rcases hown.2 with ⟨h1, _⟩ | ⟨g', cap', cur, h1, h2, h3, h4, h5, h6, h7⟩
  · cases h1
  · cases h1
    have hg := lt_of_block h3
    refine ⟨heap_first _ _ rfl _, ⟨cur, heap_later _ _ hg _ h3, h7⟩, ?_, hts.some_, hlen, h4, hts.last, hts.line⟩
    show g ≠ w.heap.size
    omega

def parsedPost (w : World) (x : Except (Nat × Nat) (List Hs.Ast)) (e : Ending) (w' : World) : Prop :=
  Below w.heap.size w w' ∧
  match x with
  | .error (k, n) => e = .returned (.tuple #[.pointer none, .agg #[.int .i64 k, .int .i64 n]])
  | .ok ks => ∃ b, e = .returned (.tuple #[.pointer (some ⟨b, 0, none⟩), .agg #[.int .i64 0, .int .i64 0]]) ∧ Rep (Btw w.heap.size w'.heap.size) w' (.pointer (some ⟨b, 0, none⟩)) (Hs.node [112, 114, 111, 103, 114, 97, 109] 0 [] ks)

set_option maxRecDepth 100000 in
set_option maxHeartbeats 1000000 in
theorem parsed_long (s : ByteArray) (w : World) (hs : 2000 < s.size) (hm : s.size ≤ maxLen) :
    Calls Tryz.prog 45 #[.string s, .bool false] w (parsedPost w (.error (1, 0))) := by
  unfold maxLen at hm
  go_enter Tryz.func45, Tryz.ntmps45
  go_wp2_with fail
  refine bodyPost_ret (v := .tuple #[.pointer none, .agg #[.int .i64 1, .int .i64 0]]) (by simp [results, Tryz.results45, go_sem]) rfl ?_
  exact ⟨(Below.refl _ _).alloc (Nat.le_refl _) _, rfl⟩

set_option maxRecDepth 100000 in
set_option maxHeartbeats 1000000 in
theorem parsed_spoilt (s : ByteArray) (w : World) (hs : s.size ≤ 2000) (k : Nat) (hk : Hs.spoilAt s.size s.data.toList 0 = some k) :
    Calls Tryz.prog 45 #[.string s, .bool false] w (parsedPost w (.error (2, Hs.lineOf (s.data.toList.take k)))) := by
  have hs2 : s.size ≤ 2000000000 := by omega
  have hkl : k ≤ s.size := by have := spoilAt_le _ _ _ _ hk; simpa using this
  have HS := mkHid (fun w => spoilt_any s w hs2)
  rw [hk] at HS
  clear hk
  go_enter Tryz.func45, Tryz.ntmps45
  go_wp2_with fail
  refine (HS.out _).mono ?_
  rintro e w1 ⟨rfl, hw⟩
  obtain rfl := hw.symm
  rw [placeI]
  go_wp2_with (go_at_call 81; refine (lineAt_at s _ k rfl _ hs2 hkl).mono ?_; rintro e w' ⟨rfl, hw⟩; obtain rfl := hw.symm)
  refine bodyPost_ret (v := .tuple #[.pointer none, .agg #[.int .i64 2, .int .i64 (Hs.lineOf (s.data.toList.take k))]]) (by simp [results, Tryz.results45, go_sem]) rfl ?_
  exact ⟨(Below.refl _ _).alloc (Nat.le_refl _) _, rfl⟩

set_option maxRecDepth 100000 in
set_option maxHeartbeats 1000000 in
theorem parsed_token (s : ByteArray) (w : World) (hg : RefTabs w) (hs : s.size ≤ 2000) (hk : Hs.spoilAt s.size s.data.toList 0 = none) (n : Nat) (hn : Hs.tokens s.data.toList = .error n) :
    Calls Tryz.prog 45 #[.string s, .bool false] w (parsedPost w (.error (3, n))) := by
  have hs2 : s.size ≤ 2000000000 := by omega
  have HS := mkHid (fun w => spoilt_any s w hs2)
  rw [hk] at HS
  have hn0 : (0 : Int) < (n : Int) := by have := tokens_err hn; omega
  have HT := mkHid (fun o => tokens_any s (w.alloc o) (hg.alloc o) hs)
  rw [hn] at HT
  clear hk hg hn
  go_enter Tryz.func45, Tryz.ntmps45
  go_wp2_with fail
  refine (HS.out _).mono ?_
  rintro e w1 ⟨rfl, hw⟩
  obtain rfl := hw.symm
  rw [placeI]
  go_wp2_with fail
  refine (HT.out _).mono ?_
  rintro e w2 ⟨hb2, he⟩
  obtain rfl : e = .returned (.tuple #[.slice none 0 0, .int .i64 n]) := he
  obtain ⟨hc, hf⟩ := bcell hb2
  have hz : w.heap.size < w2.heap.size := by have := hb2.size; simp at this; omega
  have HB2 := mkHid hb2
  clear hb2
  go_wp2_with fail
  refine bodyPost_ret (v := .tuple #[.pointer none, .agg #[.int .i64 3, .int .i64 n]]) (by simp [results, Tryz.results45, go_sem, hc]) rfl ?_
  exact ⟨((((Below.refl _ _).alloc (Nat.le_refl _) _).trans (HB2.out.mono (by simp))).setCell (by simp) _).setCell (by simp) _, rfl⟩

end Go.Proofs.YtblbkfdhjfppkaaGreatDoor

/- Contracts of the document's answer: a source, its form. -/
namespace Go.Proofs.YtblbkfdhjfppkaaGreatDoor
open Go.RowKit

theorem Below.of_fr {pb : Nat} {w W w' : World} (h : Below w.heap.size w W) (hf : Fr pb W w') (hp : w.heap.size ≤ pb) : Below w.heap.size w w' :=
  h.trans ⟨hf.os, hf.tape, hf.output, hf.size, fun k hk => hf.block k (Nat.lt_of_lt_of_le hk h.size) (by omega)⟩

/-- The tokens' slice is not nil. -/
theorem toks_slice {w : World} {base : Nat} {v : Value} {ts : List Hs.Tok} (h : w.ownsRow base 158 3 v ts.length (toksC ts)) (hp : 0 < ts.length) : ∃ g cap, v = .slice (some ⟨g, 0, none⟩) ts.length cap := by
  rcases h.2 with ⟨_, h1⟩ | ⟨g, cap, cur, rfl, _⟩
  · omega
  · exact ⟨g, cap, rfl⟩

set_option maxRecDepth 100000 in
set_option maxHeartbeats 2000000 in
theorem parsed_form (s : ByteArray) (w : World) (hg : RefTabs w) (hs : s.size ≤ 2000) (hk : Hs.spoilAt s.size s.data.toList 0 = none) (ts : List Hs.Tok) (hn : Hs.tokens s.data.toList = .ok ts) (x : Except (Nat × Nat) (List Hs.Ast))
    (hx : Hid (x = match Hs.progP ts with | .error n => .error (4, n) | .ok (ks, _) => .ok ks)) :
    Calls Tryz.prog 45 #[.string s, .bool false] w (parsedPost w x) := by
  have hs2 : s.size ≤ 2000000000 := by omega
  have HS := mkHid (fun w => spoilt_any s w hs2)
  rw [hk] at HS
  have HT := mkHid (fun o => tokens_any s (w.alloc o) (hg.alloc o) hs)
  rw [hn] at HT
  obtain ⟨hall, hlen⟩ := Hs.tokens_all hn
  have hl3 : ts.length ≤ 3000 := by have : s.data.toList.length = s.size := by simp
                                    omega
  have HALL := mkHid hall
  have hpos := hall.some_
  clear hk hg hn hall
  go_enter Tryz.func45, Tryz.ntmps45
  go_wp2_with fail
  refine (HS.out _).mono ?_
  rintro e w1 ⟨rfl, hw⟩
  obtain rfl := hw.symm
  rw [placeI]
  go_wp2_with fail
  refine (HT.out _).mono ?_
  rintro e w2 ⟨hb2, he⟩
  obtain ⟨v, rfl, hown⟩ : ∃ v, e = .returned (.tuple #[v, .int .i64 0]) ∧ w2.ownsRow _ 158 3 v ts.length (toksC ts) := he
  obtain ⟨g, cap, rfl⟩ := toks_slice hown hpos
  have hz : w.heap.size < w2.heap.size := by have := hb2.size; simp at this; omega
  have HB2 := mkHid hb2
  have HAT := mkHid (At.new hown HALL.out hl3)
  clear hb2 hown
  go_wp2_with fail
  refine (prog_reads ⟨w2.heap.size, g, cap, ts⟩ _ HAT.out (HALL.out.ok.prog hpos)).mono ?_
  rintro e w3 ⟨hfr3, hat3, b3, rfl, hrep3⟩
  have hbel : Below w.heap.size w w3 := Below.of_fr ((((Below.refl _ _).alloc (Nat.le_refl _) _).trans (HB2.out.mono (by simp))).alloc (by omega) _) hfr3 (by show _ ≤ w2.heap.size; omega)
  have hblk : w3.heap[w.heap.size]? = some (.cells #[.int .i64 0, .int .i64 0] 27 (0, 0)) := by
    rw [hfr3.block w.heap.size (by simp; omega) (by show w.heap.size ≠ w2.heap.size; omega)]
    refine heap_later _ _ hz _ ?_
    rw [HB2.out.block _ (by simp)]
    exact heap_first _ _ rfl _
  have r0 : w3.cell? ⟨w.heap.size, 0, none⟩ = some (.int .i64 0) := cell_of_block hblk rfl
  have r1 : w3.cell? ⟨w.heap.size, 1, none⟩ = some (.int .i64 0) := cell_of_block hblk rfl
  have fz0 : w3.frozen? ⟨w.heap.size, 0, none⟩ = false := frozen_of_block hblk
  have fz1 : w3.frozen? ⟨w.heap.size, 1, none⟩ = false := frozen_of_block hblk
  clear hblk
  have HBEL := mkHid hbel
  have HREP := mkHid hrep3
  clear hbel hrep3 HS HT
  cases hp : Hs.progP ts with
  | error n =>
    rw [hp] at hx hat3
    obtain ⟨h0, q, hq⟩ := hat3
    have hn0 : (0 : Int) < (n : Int) := by omega
    have hl : w2.heap.size < w3.heap.size := lt_of_block hq.blk
    have hcc : w3.cell? ⟨w2.heap.size, 2, none⟩ = some (.int .i64 n) := cell_of_block hq.blk rfl
    have HX : Hid (x = .error (4, n)) := hx.out
    clear hx hq HREP hp
    go_wp2_with fail
    go_region
    go_wp2_with fail
    refine bodyPost_ret (v := .tuple #[.pointer none, .agg #[.int .i64 4, .int .i64 n]]) (by simp [results, Tryz.results45, go_sem, r0, r1]) rfl ?_
    refine ⟨((HBEL.out.setCell (by simp) _).setCell (by simp) _).drew, ?_⟩
    rw [HX.out]; exact rfl
  | ok kq =>
    obtain ⟨ks, q⟩ := kq
    rw [hp] at hx hat3
    obtain ⟨hl, hcc⟩ := At.good hat3
    have hcc' : w3.cell? ⟨w2.heap.size, 2, none⟩ = some (.int .i64 0) := hcc
    have HX : Hid (x = .ok ks) := hx.out
    have HK : Hid (Rep (Btw (w.heap.size + 1) w3.heap.size) w3 (.pointer (some ⟨b3, 0, none⟩)) (Hs.node [112, 114, 111, 103, 114, 97, 109] 0 [] ks)) := (HREP.out _ q (by rw [hp]; rfl)).mono fun k hk => ⟨by have := hk.1; simp at this; omega, hk.2⟩
    clear hcc hx hat3 HREP hp
    go_wp2_with fail
    refine bodyPost_ret (v := .tuple #[.pointer (some ⟨b3, 0, none⟩), .agg #[.int .i64 0, .int .i64 0]]) (by simp [results, Tryz.results45, go_sem, r0, r1]) rfl ?_
    refine ⟨(HBEL.out.setCell (by simp) _).setCell (by simp) _, ?_⟩
    rw [HX.out]
    refine ⟨b3, rfl, HK.out.grow (fun k hk1 hk2 => ?_) (by omega) (by simp)⟩
    rw [Below.heap_setCell _ _ _ _ (by show k ≠ w.heap.size; omega), Below.heap_setCell _ _ _ _ (by show k ≠ w.heap.size; omega)]

/-- A source, up to its form. -/
theorem parsed_any (s : ByteArray) (w : World) (hg : RefTabs w) (hm : s.size ≤ maxLen) :
    Calls Tryz.prog 45 #[.string s, .bool false] w (parsedPost w (Hs.parsedL s.data.toList)) := by
  unfold Hs.parsedL
  have hl : s.data.toList.length = s.size := by simp
  rw [hl]
  by_cases hs : 2000 < s.size
  · rw [if_pos hs]; exact parsed_long s w hs hm
  · rw [if_neg hs]
    cases hk : Hs.spoilAt s.size s.data.toList 0 with
    | some k => exact parsed_spoilt s w (by omega) k hk
    | none =>
      cases hn : Hs.tokens s.data.toList with
      | error n => exact parsed_token s w hg (by omega) hk n hn
      | ok ts => exact parsed_form s w hg (by omega) hk ts hn _ rfl

end Go.Proofs.YtblbkfdhjfppkaaGreatDoor

/- Contracts of the document's answer: names: the small steps. -/
namespace Go.Proofs.YtblbkfdhjfppkaaGreatDoor
open Go.RowKit

set_option maxRecDepth 100000 in
set_option maxHeartbeats 400000 in
theorem given_any (x : List UInt8) (w : World) :
    Calls Tryz.prog 86 #[.string (bs x)] w fun e w' => e = .returned (.bool (Hs.givenB x)) ∧ w' = w := by
  have hx : (bs x).toList = x := bs_toList x
  have HS : Hid (Hs.givenB x = (x == [108, 101, 110] || x == [114, 101, 97, 100])) := rfl
  go_enter Tryz.func86, Tryz.ntmps86
  go_wp2
  all_goals
    go_ret
    exact ⟨ret_bool (by rw [HS.out]; first | done | simp_all), rfl⟩

/-- A list of texts in a row. -/
def strsV (l : List (List UInt8)) : List Value := l.map fun x => .string (bs x)

set_option maxRecDepth 100000 in
set_option maxHeartbeats 400000 in
theorem among_some (l : List (List UInt8)) (x : List UInt8) (g cap : Nat) (w : World) (hl : l.length ≤ 100000) (_hlc : l.length ≤ cap) (hc : ∀ i (h : i < l.length), w.cell? ⟨g, i, none⟩ = some (.string (bs l[i]))) :
    Calls Tryz.prog 144 #[.slice (some ⟨g, 0, none⟩) l.length cap, .string (bs x)] w fun e w' => e = .returned (.bool (l.contains x)) ∧ w' = w := by
  have hx : (bs x).toList = x := bs_toList x
  have HC := mkHid hc
  clear hc
  go_enter Tryz.func144, Tryz.ntmps144
  go_wp2_with fail
  go_loop [5] (fun i => ∃ k : Nat, k ≤ l.length ∧ i = .int .i64 k ∧ Hid (∀ y ∈ l.take k, y ≠ x)) (fun i => l.length - (intOf i).toNat)
  case atStart => exact ⟨0, Nat.zero_le _, rfl, fun y hy => by simp at hy⟩
  case round =>
    obtain ⟨k, hk, rfl, HN⟩ := hrel
    by_cases hlt : k < l.length
    · have hcell := HC.out k hlt
      have hget : l[k] ∈ l := List.getElem_mem hlt
      have HT : Hid (∀ y ∈ l.take (k + 1), y ∈ l.take k ∨ y = l[k]) := fun y hy => by
        rw [List.take_succ_eq_append_getElem hlt] at hy
        rcases List.mem_append.1 hy with h | h
        · exact Or.inl h
        · exact Or.inr (List.mem_singleton.1 h)
      have HG := mkHid hget
      clear hget
      generalize l[k] = y at *
      have hy : (bs y).toList = y := bs_toList y
      cases hyx : (y == x)
      · have HF : Hid (∀ z ∈ l.take (k + 1), z ≠ x) := fun z hz => by
          rcases HT.out z hz with h | h
          · exact HN.out z h
          · rw [h]; simpa using hyx
        clear HN HT HG
        go_wp2_with fail
        go_round
        case rel => exact ⟨k + 1, by omega, by go_num, HF⟩
        case measure => simp [intOf]; omega
      · have HF : Hid (l.contains x = true) := by
          show _ = _
          have e : y = x := by simpa using hyx
          rw [← e]; simpa using HG.out
        clear HN HT HG
        go_wp2_with fail
        go_ret
        exact ⟨ret_bool (by have h := HF.out; simp at h; simp [h]), rfl⟩
    · have HF : Hid (l.contains x = false) := by
        show _ = _
        rw [Bool.eq_false_iff]
        intro h
        have := HN.out x (by rw [List.take_of_length_le (by omega)]; simpa using h)
        exact this rfl
      clear HN
      go_wp2_with fail
      go_ret
      exact ⟨ret_bool (by have h := HF.out; simp at h; simp [h]), rfl⟩

set_option maxRecDepth 100000 in
set_option maxHeartbeats 400000 in
theorem among_none (x : List UInt8) (w : World) :
    Calls Tryz.prog 144 #[.slice none 0 0, .string (bs x)] w fun e w' => e = .returned (.bool (([] : List (List UInt8)).contains x)) ∧ w' = w := by
  go_enter Tryz.func144, Tryz.ntmps144
  go_wp2_with fail
  go_loop [5] (fun i => i = .int .i64 0) (fun _ => 0)
  case atStart => rfl
  case round =>
    subst hrel
    go_wp2_with fail
    go_ret
    exact ⟨ret_bool (by simp), rfl⟩

theorem infoStr : (Tryz.prog.info? 9).map (fun i => (i.zero, i.size, i.bytes)) = some (some (.string (bs [])), 1, 16) := by kernel_rfl

/-- The names that are to be seen, as a slice of the checker's own. -/
theorem among_own (l : List (List UInt8)) (x : List UInt8) (v : Value) (base : Nat) (w : World) (hl : l.length ≤ 100000) (hown : w.ownsRow base 9 1 v l.length (strsV l)) :
    Calls Tryz.prog 144 #[v, .string (bs x)] w fun e w' => e = .returned (.bool (l.contains x)) ∧ w' = w := by
  rcases hown.2 with ⟨rfl, h0⟩ | ⟨g, cap, cur, rfl, h2, h3, h4, h5, h6, h7⟩
  · obtain rfl : l = [] := List.eq_nil_of_length_eq_zero h0
    exact among_none x w
  · refine among_some l x g cap w hl h4 fun i hi => cell_of_block h3 ?_
    have e : (strsV l)[i]? = some (.string (bs l[i])) := by simp [strsV, hi]
    rw [← h7, List.getElem?_take, if_pos (by omega)] at e
    simpa using e

/-- The checker in memory: its functions, the names that are to be seen, the first fault. -/
structure CkAt (cb lo : Nat) (fs : List Hs.Ast) (fv : Value) (alone : Bool) (w : World) (s : Hs.Chk) : Prop where
  blk : ∃ sv, w.heap[cb]? = some (.cells #[fv, sv, .bool alone, .int .i64 s.kind, .int .i64 s.line] 94 (0, 0)) ∧ w.ownsRow (cb + 1) 9 1 sv s.seen.length (strsV s.seen)
  kids : Kid (Btw lo cb) w fv fs

theorem ck_cells {w : World} {b : Nat} {v0 v1 v2 v3 v4 : Value} (h : w.heap[b]? = some (.cells #[v0, v1, v2, v3, v4] 94 (0, 0))) :
    b < w.heap.size ∧ w.cell? ⟨b, 0, none⟩ = some v0 ∧ w.cell? ⟨b, 1, none⟩ = some v1 ∧ w.cell? ⟨b, 2, none⟩ = some v2 ∧ w.cell? ⟨b, 3, none⟩ = some v3 ∧ w.cell? ⟨b, 4, none⟩ = some v4 ∧ (∀ i, w.frozen? ⟨b, i, none⟩ = false) :=
  ⟨lt_of_block h, cell_of_block h rfl, cell_of_block h rfl, cell_of_block h rfl, cell_of_block h rfl, cell_of_block h rfl, fun _ => frozen_of_block h⟩

/-- A store into the checker's own block keeps the trees and the names' row. -/
theorem CkAt.put {cb lo : Nat} {fs : List Hs.Ast} {fv : Value} {alone : Bool} {w w' : World} {s s' : Hs.Chk} {sv : Value} (hk : Kid (Btw lo cb) w fv fs) (hb : ∀ k, k ≠ cb → w'.heap[k]? = w.heap[k]?)
    (hblk : w'.heap[cb]? = some (.cells #[fv, sv, .bool alone, .int .i64 s'.kind, .int .i64 s'.line] 94 (0, 0))) (hown : w.ownsRow (cb + 1) 9 1 sv s.seen.length (strsV s.seen)) (hs : s'.seen = s.seen) : CkAt cb lo fs fv alone w' s' := by
  refine ⟨⟨sv, hblk, ?_⟩, hk.keep fun k hk => hb k (by have := hk.2; omega)⟩
  rw [hs]
  exact ownsRow_keep hown fun k hk => hb k (by have := own_block_ge hown k hk; omega)

set_option maxRecDepth 100000 in
set_option maxHeartbeats 400000 in
theorem found_any (cb lo : Nat) (fs : List Hs.Ast) (fv : Value) (alone : Bool) (w : World) (s : Hs.Chk) (line kind : Nat) (h : CkAt cb lo fs fv alone w s) :
    Calls Tryz.prog 87 #[.pointer (some ⟨cb, 0, none⟩), .int .i64 line, .int .i64 kind] w fun e w' => e = .returned (.tuple #[]) ∧ Below cb w w' ∧ CkAt cb lo fs fv alone w' (s.found line kind) := by
  obtain ⟨sv, hblk, hown⟩ := h.blk
  obtain ⟨hlt, c0, c1, c2, c3, c4, fz⟩ := ck_cells hblk
  have f3 := fz 3
  have f4 := fz 4
  have HB := mkHid hblk
  have HO := mkHid hown
  have H := mkHid h
  clear fz hblk hown h
  by_cases hk : s.kind = 0
  · have e0 : ((s.kind : Int) == 0) = true := by simp; omega
    have hfo : s.found line kind = { s with kind := kind, line := line } := by unfold Hs.Chk.found; rw [if_pos hk]
    have HFO := mkHid hfo
    clear hfo hk
    go_enter Tryz.func87, Tryz.ntmps87
    go_wp2_with fail
    go_end0
    refine ⟨rfl, ((Below.refl _ _).setCell (by simp) _).setCell (by simp) _, ?_⟩
    rw [HFO.out]
    refine CkAt.put H.out.kids (fun k hk => ?_) ?_ HO.out rfl
    · rw [Below.heap_setCell _ _ _ _ hk, Below.heap_setCell _ _ _ _ hk]
    · rw [heap_setCell_at (heap_setCell_at HB.out)]; rfl
  · have e0 : ((s.kind : Int) == 0) = false := by simp; omega
    have hfo : s.found line kind = s := by unfold Hs.Chk.found; rw [if_neg hk]
    have HFO := mkHid hfo
    clear hfo hk
    go_enter Tryz.func87, Tryz.ntmps87
    go_wp2_with fail
    go_end0
    exact ⟨rfl, Below.refl _ _, by rw [HFO.out]; exact H.out⟩

end Go.Proofs.YtblbkfdhjfppkaaGreatDoor

/- Contracts of the document's answer: names: declarations, functions by name. -/
namespace Go.Proofs.YtblbkfdhjfppkaaGreatDoor
open Go.RowKit

/-- A node's cells. -/
theorem RepD.cells {d : Nat} {F : Nat → Prop} {w : World} {v : Value} {a : Hs.Ast} (h : RepD d F w v a) :
    ∃ d' b kv, d = d' + 1 ∧ v = .pointer (some ⟨b, 0, none⟩) ∧ F b ∧ b < w.heap.size ∧ w.cell? ⟨b, 0, none⟩ = some (.string (bs a.op)) ∧ w.cell? ⟨b, 1, none⟩ = some (.int .i64 a.line) ∧ w.cell? ⟨b, 2, none⟩ = some (.string (bs a.text)) ∧ w.cell? ⟨b, 3, none⟩ = some kv ∧ KidD (RepD d' F w) F w kv a.kids := by
  cases d with
  | zero => exact h.elim
  | succ d =>
    obtain ⟨b, kv, h1, h2, h3, h4⟩ := h
    exact ⟨d, b, kv, rfl, h1, h2, lt_of_block h3, cell_of_block h3 rfl, cell_of_block h3 rfl, cell_of_block h3 rfl, cell_of_block h3 rfl, h4⟩

theorem All2.get {R : Value → Hs.Ast → Prop} : ∀ {vs ks} (i : Nat) (hi : i < ks.length), All2 R vs ks → ∃ v, vs[i]? = some v ∧ R v ks[i]
  | v :: vs, a :: ks, 0, _, h => ⟨v, rfl, h.1⟩
  | v :: vs, a :: ks, i + 1, hi, h => by
    obtain ⟨u, h1, h2⟩ := All2.get (vs := vs) (ks := ks) i (by simpa using hi) h.2
    exact ⟨u, by simpa using h1, by simpa using h2⟩
  | [], _ :: _, _, _, h => h.elim
  | _ :: _, [], _, hi, _ => by simp at hi
  | [], [], _, hi, _ => by simp at hi

/-- A part, by its place. -/
theorem KidD.get {R : Value → Hs.Ast → Prop} {F : Nat → Prop} {w : World} {kv : Value} {ks : List Hs.Ast} (h : KidD R F w kv ks) :
    (kv = .slice none 0 0 ∧ ks = []) ∨ ∃ g cap, kv = .slice (some ⟨g, 0, none⟩) ks.length cap ∧ F g ∧ g < w.heap.size ∧ ks.length ≤ cap ∧ ∀ i (hi : i < ks.length), ∃ v, w.cell? ⟨g, i, none⟩ = some v ∧ R v ks[i] := by
  rcases h with h | ⟨g, cap, cur, vs, h1, h2, h3, h4, h5, h6⟩
  · exact Or.inl h
  · refine Or.inr ⟨g, cap, h1, h2, lt_of_block h3, h4, fun i hi => ?_⟩
    obtain ⟨v, h7, h8⟩ := All2.get i hi h6
    refine ⟨v, cell_of_block h3 ?_, h8⟩
    rw [← h5, List.getElem?_take, if_pos hi] at h7
    simpa using h7

theorem Chk_seen_found (s : Hs.Chk) (l k : Nat) : (s.found l k).seen = s.seen := by
  unfold Hs.Chk.found; split <;> rfl

theorem RepD.keepw {d : Nat} {F : Nat → Prop} {w w' : World} {v : Value} {a : Hs.Ast} (h : RepD d F w v a) (hw : w'.heap = w.heap) : RepD d F w' v a := h.keep fun k _ => by rw [hw]
theorem CkAt.keepw {cb lo : Nat} {fs : List Hs.Ast} {fv : Value} {alone : Bool} {w w' : World} {s : Hs.Chk} (h : CkAt cb lo fs fv alone w s) (hw : w'.heap = w.heap) : CkAt cb lo fs fv alone w' s := by
  obtain ⟨sv, h1, h2⟩ := h.blk
  exact ⟨⟨sv, by rw [hw]; exact h1, ownsRow_keep h2 fun k _ => by rw [hw]⟩, h.kids.keep fun k _ => by rw [hw]⟩

set_option maxRecDepth 100000 in
set_option maxHeartbeats 1000000 in
theorem declares_any (cb lo : Nat) (fs : List Hs.Ast) (fv : Value) (alone : Bool) (w : World) (s : Hs.Chk) (h : CkAt cb lo fs fv alone w s) (hs : s.seen.length ≤ 100000) (v : Value) (a : Hs.Ast) (d : Nat) (ha : RepD d (Btw lo cb) w v a) :
    Calls Tryz.prog 88 #[.pointer (some ⟨cb, 0, none⟩), v] w fun e w' => e = .returned (.tuple #[]) ∧ Below cb w w' ∧ CkAt cb lo fs fv alone w' (Hs.declaresL s a) := by
  obtain ⟨d', b, kv, rfl, rfl, hF, hbl, n0, n1, n2, n3, -⟩ := ha.cells
  obtain ⟨sv, hblk, hown⟩ := h.blk
  obtain ⟨hlt, c0, c1, c2, c3, c4, fz⟩ := ck_cells hblk
  have HG := mkHid (given_any a.text w)
  have HM := mkHid (among_own s.seen a.text sv (cb + 1) w.drew hs hown)
  have HF := mkHid (found_any cb lo fs fv alone w.drew s a.line 6 (h.keepw rfl))
  have HS : Hid (Hs.declaresL s a = if Hs.givenB a.text || s.seen.contains a.text then s.found a.line 6 else s) := rfl
  have H := mkHid h
  clear fz hblk hown h ha
  generalize Hs.givenB a.text = gb at *
  generalize s.seen.contains a.text = mb at *
  go_enter Tryz.func88, Tryz.ntmps88
  go_wp2_with fail
  refine HG.out.mono ?_
  rintro e w1 ⟨rfl, hw⟩
  obtain rfl := hw.symm
  go_wp2_with fail
  go_region_law (go_simp; go_at_call 144; refine HM.out.mono ?_; rintro e w1 ⟨rfl, hw⟩; obtain rfl := hw.symm)
  all_goals (cases gb <;> cases mb)
  all_goals first
    | (go_wp2_with fail
       go_end0
       exact ⟨rfl, (Below.refl _ _).drew, by rw [HS.out]; exact H.out.keepw rfl⟩)
    | (go_wp2_with fail
       refine HF.out.mono ?_
       rintro e w1 ⟨rfl, hb, hc⟩
       go_wp2_with fail
       go_end0
       exact ⟨rfl, (Below.refl _ _).drew.trans hb, by rw [HS.out]; exact hc⟩)

/-- A function that was found, or none. -/
def fnOf (d : Nat) (F : Nat → Prop) (w : World) (o : Option Hs.Ast) (v : Value) : Prop := match o with | none => v = .pointer none | some f => RepD d F w v f

set_option maxRecDepth 100000 in
set_option maxHeartbeats 1000000 in
theorem function_some (ks : List Hs.Ast) (x : List UInt8) (g cap : Nat) (F : Nat → Prop) (w : World) (hl : ks.length ≤ 100000) (_hg : g < w.heap.size) (d : Nat) (hc : ∀ i (hi : i < ks.length), ∃ v, w.cell? ⟨g, i, none⟩ = some v ∧ RepD d F w v ks[i]) :
    Calls Tryz.prog 46 #[.slice (some ⟨g, 0, none⟩) ks.length cap, .string (bs x)] w fun e w' => w' = w ∧ ∃ v, e = .returned v ∧ fnOf d F w (Hs.funcL ks x) v := by
  have HC := mkHid hc
  clear hc
  have hx : (bs x).toList = x := bs_toList x
  go_enter Tryz.func46, Tryz.ntmps46
  go_wp2_with fail
  go_loop [5] (fun i => ∃ k : Nat, k ≤ ks.length ∧ i = .int .i64 k ∧ Hid (∀ y ∈ ks.take k, y.text ≠ x)) (fun i => ks.length - (intOf i).toNat)
  case atStart => exact ⟨0, Nat.zero_le _, rfl, fun y hy => by simp at hy⟩
  case round =>
    obtain ⟨k, hk, rfl, HN⟩ := hrel
    by_cases hlt : k < ks.length
    · obtain ⟨v, hcell, hrep⟩ := HC.out k hlt
      obtain ⟨d', b, kv, rfl, rfl, hF, hbl, n0, n1, n2, n3, -⟩ := hrep.cells
      have HR := mkHid hrep
      have HT : Hid (∀ y ∈ ks.take (k + 1), y ∈ ks.take k ∨ y = ks[k]) := fun y hy => by
        rw [List.take_succ_eq_append_getElem hlt] at hy
        rcases List.mem_append.1 hy with h | h
        · exact Or.inl h
        · exact Or.inr (List.mem_singleton.1 h)
      have HD : Hid (ks = ks.take k ++ ks[k] :: ks.drop (k + 1)) := by
        show _ = _
        rw [List.getElem_cons_drop, List.take_append_drop]
      clear hrep
      generalize ks[k] = y at *
      have hy : (bs y.text).toList = y.text := bs_toList y.text
      cases hyx : (y.text == x)
      · have HF : Hid (∀ z ∈ ks.take (k + 1), z.text ≠ x) := fun z hz => by
          rcases HT.out z hz with h | h
          · exact HN.out z h
          · rw [h]; simpa using hyx
        clear HN HT HR HD
        go_wp2_with fail
        go_round
        case rel => exact ⟨k + 1, by omega, by go_num, HF⟩
        case measure => simp [intOf]; omega
      · have HF : Hid (Hs.funcL ks x = some y) := by
          show _ = _
          rw [HD.out]
          unfold Hs.funcL
          rw [List.find?_append, List.find?_eq_none.2 (by intro z hz; simpa using HN.out z hz)]
          simp [hyx]
        clear HN HT HD
        go_wp2_with fail
        go_ret
        exact ⟨rfl, _, rfl, by rw [HF.out]; exact HR.out⟩
    · have HF : Hid (Hs.funcL ks x = none) := by
        show _ = _
        unfold Hs.funcL
        rw [List.find?_eq_none]
        intro z hz
        simpa using HN.out z (by rw [List.take_of_length_le (by omega)]; exact hz)
      clear HN
      go_wp2_with fail
      go_ret
      exact ⟨rfl, _, rfl, by rw [HF.out]; rfl⟩

set_option maxRecDepth 100000 in
set_option maxHeartbeats 1000000 in
theorem function_none (x : List UInt8) (d : Nat) (F : Nat → Prop) (w : World) :
    Calls Tryz.prog 46 #[.slice none 0 0, .string (bs x)] w fun e w' => w' = w ∧ ∃ v, e = .returned v ∧ fnOf d F w (Hs.funcL [] x) v := by
  go_enter Tryz.func46, Tryz.ntmps46
  go_wp2_with fail
  go_loop [5] (fun i => i = .int .i64 0) (fun _ => 0)
  case atStart => rfl
  case round =>
    subst hrel
    go_wp2_with fail
    go_ret
    exact ⟨rfl, _, rfl, rfl⟩

/-- The first function of this name. -/
theorem function_any (ks : List Hs.Ast) (x : List UInt8) (lv : Value) (F : Nat → Prop) (w : World) (hl : ks.length ≤ 100000) (d : Nat) (h : KidD (RepD d F w) F w lv ks) :
    Calls Tryz.prog 46 #[lv, .string (bs x)] w fun e w' => w' = w ∧ ∃ v, e = .returned v ∧ fnOf d F w (Hs.funcL ks x) v := by
  rcases h.get with ⟨rfl, rfl⟩ | ⟨g, cap, rfl, -, hg, -, hc⟩
  · exact function_none x d F w
  · exact function_some ks x g cap F w hl hg d hc

end Go.Proofs.YtblbkfdhjfppkaaGreatDoor

/- Contracts of the document's answer: names: calls. -/
namespace Go.Proofs.YtblbkfdhjfppkaaGreatDoor
open Go.RowKit

theorem KidD.slice {R : Value → Hs.Ast → Prop} {F : Nat → Prop} {w : World} {kv : Value} {ks : List Hs.Ast} (h : KidD R F w kv ks) : ∃ x c, kv = .slice x ks.length c := by
  rcases h.get with ⟨rfl, rfl⟩ | ⟨g, cap, rfl, _⟩
  · exact ⟨none, 0, rfl⟩
  · exact ⟨_, cap, rfl⟩

theorem callsL_neg {fs : List Hs.Ast} {alone : Bool} {s : Hs.Chk} {a : Hs.Ast} {W : Int} (h : Hs.wantL fs alone a.text = W) (h0 : W < 0) : Hs.callsL fs alone s a = s.found a.line 6 := by
  unfold Hs.callsL; rw [h, if_pos h0]
theorem callsL_ne {fs : List Hs.Ast} {alone : Bool} {s : Hs.Chk} {a : Hs.Ast} {W : Int} (h : Hs.wantL fs alone a.text = W) (h0 : ¬ W < 0) (h1 : W ≠ (a.kids.length : Int)) : Hs.callsL fs alone s a = s.found a.line 7 := by
  unfold Hs.callsL; rw [h, if_neg h0, if_pos h1]
theorem callsL_eq {fs : List Hs.Ast} {alone : Bool} {s : Hs.Chk} {a : Hs.Ast} {W : Int} (h : Hs.wantL fs alone a.text = W) (h0 : ¬ W < 0) (h1 : W = (a.kids.length : Int)) : Hs.callsL fs alone s a = s := by
  unfold Hs.callsL; rw [h, if_neg h0, if_neg (by simpa using h1)]

set_option maxRecDepth 100000 in
set_option maxHeartbeats 1000000 in
theorem calls_any (cb lo : Nat) (fs : List Hs.Ast) (fv : Value) (alone : Bool) (w : World) (s : Hs.Chk) (h : CkAt cb lo fs fv alone w s) (hfl : fs.length ≤ 100000) (hfk : ∀ f ∈ fs, f.kids.length ≤ 100000) (v : Value) (a : Hs.Ast) (d : Nat) (ha : RepD d (Btw lo cb) w v a) (_hak : a.kids.length ≤ 100000) :
    Calls Tryz.prog 145 #[.pointer (some ⟨cb, 0, none⟩), v] w fun e w' => e = .returned (.tuple #[]) ∧ Below cb w w' ∧ CkAt cb lo fs fv alone w' (Hs.callsL fs alone s a) := by
  obtain ⟨d', b, kv, rfl, rfl, hF, hbl, n0, n1, n2, n3, hk⟩ := ha.cells
  obtain ⟨kx, kc, rfl⟩ := hk.slice
  obtain ⟨sv, hblk, hown⟩ := h.blk
  obtain ⟨hlt, c0, c1, c2, c3, c4, fz⟩ := ck_cells hblk
  obtain ⟨df, hdf⟩ := (h.keepw (w' := w.drew) rfl).kids.depth
  have HM := mkHid (function_any fs a.text fv (Btw lo cb) w.drew hfl df hdf)
  have HF := mkHid (fun k => found_any cb lo fs fv alone w.drew s a.line k (h.keepw rfl))
  have H := mkHid h
  have HFK := mkHid hfk
  have htx : (bs a.text).toList = a.text := bs_toList _
  clear fz hblk hown h ha hdf hk hfk
  go_enter Tryz.func145, Tryz.ntmps145
  go_wp2_with fail
  go_region_law (go_simp; go_at_call 46; refine HM.out.mono ?_; rintro e w1 ⟨hw, fp, rfl, hfp⟩; obtain rfl := hw.symm)
  all_goals
    cases e1 : (a.text == [108, 101, 110])
    · cases e2 : (a.text == [114, 101, 97, 100])
      · cases hfu : Hs.funcL fs a.text with
        | none =>
          rw [hfu] at hfp
          obtain rfl : fp = .pointer none := hfp
          have hW : Hs.wantL fs alone a.text = -1 := by unfold Hs.wantL; simp [e1, e2, hfu]
          have HS := mkHid (callsL_neg (s := s) hW (by decide))
          clear hW
          go_wp2_with fail
          refine (HF.out 6).mono ?_
          rintro e w1 ⟨rfl, hb, hc⟩
          go_wp2_with fail
          go_end0
          exact ⟨rfl, (Below.refl _ _).drew.trans hb, by rw [HS.out]; exact hc⟩
        | some f =>
          rw [hfu] at hfp
          have hff : f.kids.length ≤ 100000 := HFK.out f (List.mem_of_find?_eq_some hfu)
          have hW : Hs.wantL fs alone a.text = (f.kids.length : Int) - 1 := by unfold Hs.wantL; simp [e1, e2, hfu]
          obtain ⟨d2, b2, kv2, rfl, rfl, hF2, hbl2, m0, m1, m2, m3, hk2⟩ := hfp.cells
          obtain ⟨kx2, kc2, rfl⟩ := hk2.slice
          clear hfp hk2
          by_cases hneg : (f.kids.length : Int) - 1 < 0
          · have HS := mkHid (callsL_neg (s := s) hW hneg)
            clear hW
            go_wp2_with fail
            refine (HF.out 6).mono ?_
            rintro e w1 ⟨rfl, hb, hc⟩
            go_wp2_with fail
            go_end0
            exact ⟨rfl, (Below.refl _ _).drew.trans hb, by rw [HS.out]; exact hc⟩
          · by_cases heq : ((f.kids.length : Int) - 1 : Int) = (a.kids.length : Int)
            · have HS := mkHid (callsL_eq (s := s) hW (by first | decide | omega) heq)
              clear hW
              go_wp2_with fail
              go_end0
              exact ⟨rfl, (Below.refl _ _).drew, by rw [HS.out]; exact H.out.keepw rfl⟩
            · have HS := mkHid (callsL_ne (s := s) hW (by first | decide | omega) heq)
              clear hW
              go_wp2_with fail
              refine (HF.out 7).mono ?_
              rintro e w1 ⟨rfl, hb, hc⟩
              go_wp2_with fail
              go_end0
              exact ⟨rfl, (Below.refl _ _).drew.trans hb, by rw [HS.out]; exact hc⟩
      · cases alone
        · have hW : Hs.wantL fs false a.text = 0 := by unfold Hs.wantL; simp [e1, e2]
          by_cases heq : (0 : Int) = (a.kids.length : Int)
          · have HS := mkHid (callsL_eq (s := s) hW (by first | decide | omega) heq)
            clear hW
            go_wp2_with fail
            go_end0
            exact ⟨rfl, (Below.refl _ _).drew, by rw [HS.out]; exact H.out.keepw rfl⟩
          · have HS := mkHid (callsL_ne (s := s) hW (by first | decide | omega) heq)
            clear hW
            go_wp2_with fail
            refine (HF.out 7).mono ?_
            rintro e w1 ⟨rfl, hb, hc⟩
            go_wp2_with fail
            go_end0
            exact ⟨rfl, (Below.refl _ _).drew.trans hb, by rw [HS.out]; exact hc⟩
        · cases hfu : Hs.funcL fs a.text with
          | none =>
            rw [hfu] at hfp
            obtain rfl : fp = .pointer none := hfp
            have hW : Hs.wantL fs true a.text = -1 := by unfold Hs.wantL; simp [e1, e2, hfu]
            have HS := mkHid (callsL_neg (s := s) hW (by decide))
            clear hW
            go_wp2_with fail
            refine (HF.out 6).mono ?_
            rintro e w1 ⟨rfl, hb, hc⟩
            go_wp2_with fail
            go_end0
            exact ⟨rfl, (Below.refl _ _).drew.trans hb, by rw [HS.out]; exact hc⟩
          | some f =>
            rw [hfu] at hfp
            have hff : f.kids.length ≤ 100000 := HFK.out f (List.mem_of_find?_eq_some hfu)
            have hW : Hs.wantL fs true a.text = (f.kids.length : Int) - 1 := by unfold Hs.wantL; simp [e1, e2, hfu]
            obtain ⟨d2, b2, kv2, rfl, rfl, hF2, hbl2, m0, m1, m2, m3, hk2⟩ := hfp.cells
            obtain ⟨kx2, kc2, rfl⟩ := hk2.slice
            clear hfp hk2
            by_cases hneg : (f.kids.length : Int) - 1 < 0
            · have HS := mkHid (callsL_neg (s := s) hW hneg)
              clear hW
              go_wp2_with fail
              refine (HF.out 6).mono ?_
              rintro e w1 ⟨rfl, hb, hc⟩
              go_wp2_with fail
              go_end0
              exact ⟨rfl, (Below.refl _ _).drew.trans hb, by rw [HS.out]; exact hc⟩
            · by_cases heq : ((f.kids.length : Int) - 1 : Int) = (a.kids.length : Int)
              · have HS := mkHid (callsL_eq (s := s) hW (by first | decide | omega) heq)
                clear hW
                go_wp2_with fail
                go_end0
                exact ⟨rfl, (Below.refl _ _).drew, by rw [HS.out]; exact H.out.keepw rfl⟩
              · have HS := mkHid (callsL_ne (s := s) hW (by first | decide | omega) heq)
                clear hW
                go_wp2_with fail
                refine (HF.out 7).mono ?_
                rintro e w1 ⟨rfl, hb, hc⟩
                go_wp2_with fail
                go_end0
                exact ⟨rfl, (Below.refl _ _).drew.trans hb, by rw [HS.out]; exact hc⟩
    · have hW : Hs.wantL fs alone a.text = 1 := by unfold Hs.wantL; rw [e1]; rfl
      by_cases heq : (1 : Int) = (a.kids.length : Int)
      · have HS := mkHid (callsL_eq (s := s) hW (by first | decide | omega) heq)
        clear hW
        go_wp2_with fail
        go_end0
        exact ⟨rfl, (Below.refl _ _).drew, by rw [HS.out]; exact H.out.keepw rfl⟩
      · have HS := mkHid (callsL_ne (s := s) hW (by first | decide | omega) heq)
        clear hW
        go_wp2_with fail
        refine (HF.out 7).mono ?_
        rintro e w1 ⟨rfl, hb, hc⟩
        go_wp2_with fail
        go_end0
        exact ⟨rfl, (Below.refl _ _).drew.trans hb, by rw [HS.out]; exact hc⟩

end Go.Proofs.YtblbkfdhjfppkaaGreatDoor

/- Contracts of the document's answer: names: trees. -/
namespace Go.Proofs.YtblbkfdhjfppkaaGreatDoor
open Go.RowKit

theorem lookL_seen (fs : List Hs.Ast) (alone : Bool) (s : Hs.Chk) (n : Hs.Ast) : (Hs.lookL fs alone s n).seen = s.seen := by
  unfold Hs.lookL Hs.callsL
  repeat' split
  all_goals first | rfl | exact Chk_seen_found _ _ _
theorem declaresL_seen (s : Hs.Chk) (n : Hs.Ast) : (Hs.declaresL s n).seen = s.seen := by
  unfold Hs.declaresL
  split
  · exact Chk_seen_found _ _ _
  · rfl

/-- Names are added behind those that are there. -/
def Adds (s s' : Hs.Chk) (m : Nat) : Prop := ∃ t, s'.seen = s.seen ++ t ∧ t.length ≤ m
theorem Adds.refl (s : Hs.Chk) : Adds s s 0 := ⟨[], by simp, Nat.le_refl _⟩
theorem Adds.trans {a b c : Hs.Chk} {m n : Nat} (h : Adds a b m) (k : Adds b c n) : Adds a c (m + n) := by
  obtain ⟨t, h1, h2⟩ := h
  obtain ⟨u, k1, k2⟩ := k
  exact ⟨t ++ u, by rw [k1, h1, List.append_assoc], by simp; omega⟩
theorem Adds.le {a b : Hs.Chk} {m n : Nat} (h : Adds a b m) (hn : m ≤ n) : Adds a b n := by
  obtain ⟨t, h1, h2⟩ := h
  exact ⟨t, h1, by omega⟩
theorem Adds.of_eq {a b : Hs.Chk} (h : b.seen = a.seen) : Adds a b 0 := ⟨[], by simp [h], Nat.le_refl _⟩
theorem Adds.fold {f : Hs.Chk → Hs.Ast → Hs.Chk} {g : Hs.Ast → Nat} (h : ∀ s k, Adds s (f s k) (g k)) : ∀ (l : List Hs.Ast) (s : Hs.Chk), Adds s (l.foldl f s) (l.map g).sum
  | [], s => Adds.refl s
  | k :: l, s => by
    rw [List.foldl_cons, List.map_cons, List.sum_cons]
    exact (h s k).trans (Adds.fold h l _)

theorem walkL_adds (fs : List Hs.Ast) (alone : Bool) : ∀ (d : Nat) (n : Hs.Ast) (s : Hs.Chk), Adds s (Hs.walkL fs alone d n s) (Hs.wt d n)
  | 0, n, s => Adds.refl s
  | d + 1, n, s => by
    rw [Hs.walkL, Hs.wt]
    split
    · match hn : n.kids with
      | t :: v :: r =>
        simp only
        have h1 : Adds s (Hs.declaresL s t) 0 := Adds.of_eq (declaresL_seen s t)
        obtain ⟨u, h2, h3⟩ := h1.trans (walkL_adds fs alone d v (Hs.declaresL s t))
        exact ⟨u ++ [t.text], by simp [h2], by simp; omega⟩
      | [] => exact (Adds.refl s).le (by omega)
      | [_] => exact (Adds.refl s).le (by omega)
    · have h1 : Adds s (Hs.lookL fs alone s n) 0 := Adds.of_eq (lookL_seen fs alone s n)
      have h2 := h1.trans (Adds.fold (f := fun s k => Hs.walkL fs alone d k s) (g := Hs.wt d) (fun s k => walkL_adds fs alone d k s) n.kids (Hs.lookL fs alone s n))
      split
      · obtain ⟨u, h3, h4⟩ := h2
        exact ⟨[], by simp [h3], by simp⟩
      · exact h2.le (by omega)

/-- What a walk asks and gives, at a depth. -/
def WalkAt (cb lo : Nat) (fs : List Hs.Ast) (fv : Value) (alone : Bool) (d : Nat) : Prop :=
  ∀ (v : Value) (a : Hs.Ast) (s : Hs.Chk) (w : World), CkAt cb lo fs fv alone w s → RepD d (Btw lo cb) w v a → Hs.wf d a → s.seen.length + Hs.wt d a ≤ 90000 →
    Calls Tryz.prog 89 #[.pointer (some ⟨cb, 0, none⟩), v] w fun e w' => e = .returned (.tuple #[]) ∧ Below cb w w' ∧ CkAt cb lo fs fv alone w' (Hs.walkL fs alone d a s)

theorem sum_mem_le {f : Hs.Ast → Nat} {k : Hs.Ast} : ∀ {l : List Hs.Ast}, k ∈ l → f k ≤ (l.map f).sum
  | [], h => by cases h
  | x :: l, h => by
    simp only [List.map_cons, List.sum_cons]
    rcases List.mem_cons.1 h with rfl | h
    · omega
    · have := sum_mem_le (f := f) h; omega

/-- An owned row of texts is cut short. -/
theorem strs_cut {w : World} {base : Nat} {v : Value} {l : List (List UInt8)} (h : w.ownsRow base 9 1 v l.length (strsV l)) (m : Nat) (hm : m ≤ l.length) :
    ∃ x c, v = .slice x l.length c ∧ l.length ≤ c ∧ c ≤ maxLen ∧ w.ownsRow base 9 1 (.slice x m c) m (strsV (l.take m)) := by
  have hl : (strsV (l.take m)).length = m * 1 := by simp [strsV]; omega
  rcases h.2 with ⟨rfl, h0⟩ | ⟨g, cap, cur, rfl, h2, h3, h4, h5, h6, h7⟩
  · refine ⟨none, 0, by rw [h0], by omega, by unfold maxLen; omega, hl, Or.inl ⟨?_, by omega⟩⟩
    rw [show m = 0 by omega]
  · refine ⟨_, cap, rfl, h4, h5, hl, Or.inr ⟨g, cap, cur, rfl, h2, h3, by omega, h5, h6, ?_⟩⟩
    have e : strsV (l.take m) = (strsV l).take m := by simp [strsV, List.map_take]
    rw [e, ← h7, List.take_take]
    congr 1; omega

set_option maxRecDepth 100000 in
set_option maxHeartbeats 2000000 in
theorem walk_rest (cb lo : Nat) (fs : List Hs.Ast) (fv : Value) (alone : Bool) (hfl : fs.length ≤ 90000) (hfk : ∀ f ∈ fs, f.kids.length ≤ 90000) (d : Nat) (IH : WalkAt cb lo fs fv alone d)
    (v : Value) (a : Hs.Ast) (s : Hs.Chk) (w : World) (h : CkAt cb lo fs fv alone w s) (ha : RepD (d + 1) (Btw lo cb) w v a) (hwf : Hs.wf (d + 1) a) (hwt : s.seen.length + Hs.wt (d + 1) a ≤ 90000) (hak : a.kids.length ≤ 90000) (hop : (a.op == [118, 97, 114]) = false) :
    Calls Tryz.prog 89 #[.pointer (some ⟨cb, 0, none⟩), v] w fun e w' => e = .returned (.tuple #[]) ∧ Below cb w w' ∧ CkAt cb lo fs fv alone w' (Hs.walkL fs alone (d + 1) a s) := by
  obtain ⟨d', b, kv, hd, rfl, hF, hbl, n0, n1, n2, n3, hk⟩ := ha.cells
  obtain rfl : d = d' := by omega
  obtain ⟨kx, kc, rfl⟩ := hk.slice
  obtain ⟨sv, hblk, hown⟩ := h.blk
  obtain ⟨hlt, c0, c1, c2, c3, c4, fz⟩ := ck_cells hblk
  obtain ⟨sx, sc, rfl, hsc, hscm, -⟩ := strs_cut hown _ (Nat.le_refl _)
  have htx : (bs a.op).toList = a.op := bs_toList _
  have H := mkHid h
  have HA := mkHid ha
  have HK := mkHid hk
  have HO := mkHid hown
  clear h ha hk fz hown
  go_enter Tryz.func89, Tryz.ntmps89
  go_upto_block 0 with fail
  go_cut [] (fun wc => Below cb w wc ∧ CkAt cb lo fs fv alone wc (Hs.lookL fs alone s a))
  case first =>
    cases e1 : (a.op == [115, 101, 116] || a.op == [110, 97, 109, 101])
    · obtain ⟨e1a, e1b⟩ := Bool.or_eq_false_iff.1 e1
      cases e2 : (a.op == [99, 97, 108, 108])
      · have HL : Hid (Hs.lookL fs alone s a = s) := by show _ = _; unfold Hs.lookL; rw [e1, e2]; rfl
        clear e1
        go_wp2_with fail
        go_meet
        case rel => exact ⟨Below.refl _ _, by rw [HL.out]; exact H.out⟩
      · have HL : Hid (Hs.lookL fs alone s a = Hs.callsL fs alone s a) := by show _ = _; unfold Hs.lookL; rw [e1, e2]; rfl
        have HC := mkHid (calls_any cb lo fs fv alone w s H.out (by omega) (fun f hf => Nat.le_trans (hfk f hf) (by omega)) _ a _ HA.out (by omega))
        clear e1
        go_wp2_with fail
        refine HC.out.mono ?_
        rintro e w1 ⟨rfl, hb, hc⟩
        go_wp2_with fail
        go_meet
        case rel => exact ⟨hb, by rw [HL.out]; exact hc⟩
    · have HL : Hid (Hs.lookL fs alone s a = if s.seen.contains a.text then s else s.found a.line 6) := by show _ = _; unfold Hs.lookL; rw [e1]; rfl
      have HM := mkHid (among_own s.seen a.text _ (cb + 1) w.drew (by omega) HO.out)
      have HF := mkHid (found_any cb lo fs fv alone w.drew s a.line 6 (H.out.keepw rfl))
      generalize s.seen.contains a.text = mb at *
      have e1' : ((a.op == [115, 101, 116]) = true ∧ (a.op == [110, 97, 109, 101]) = false) ∨ ((a.op == [115, 101, 116]) = false ∧ (a.op == [110, 97, 109, 101]) = true) := by
        cases e1a : (a.op == [115, 101, 116])
        · rw [e1a] at e1; exact Or.inr ⟨rfl, by simpa using e1⟩
        · refine Or.inl ⟨rfl, ?_⟩
          have : a.op = [115, 101, 116] := by simpa using e1a
          rw [this]; rfl
      clear e1
      rcases e1' with ⟨e1a, e1b⟩ | ⟨e1a, e1b⟩
      all_goals
        go_wp2_with fail
        go_region_law (go_simp; go_at_call 144; refine HM.out.mono ?_; rintro e w1 ⟨rfl, hw⟩; obtain rfl := hw.symm)
      all_goals (cases mb)
      all_goals first
        | (go_wp2_with fail
           go_meet
           case rel => exact ⟨(Below.refl _ _).drew, by rw [HL.out]; exact H.out.keepw rfl⟩)
        | (go_wp2_with fail
           refine HF.out.mono ?_
           rintro e w1 ⟨rfl, hb, hc⟩
           go_wp2_with fail
           go_meet
           case rel => exact ⟨(Below.refl _ _).drew.trans hb, by rw [HL.out]; exact hc⟩)
  case rest =>
    obtain ⟨hbc, hcc⟩ := hcut
    have HBC := mkHid hbc
    have HCC := mkHid hcc
    clear hbc hcc H HO
    go_wp2_with fail
    go_loopg [6] a.kids.length (fun gk i wr => ∃ k : Nat, k + gk = a.kids.length ∧ i = .int .i64 k ∧ Below cb w wr ∧ CkAt cb lo fs fv alone wr ((a.kids.take k).foldl (fun s k => Hs.walkL fs alone d k s) (Hs.lookL fs alone s a)))
    case atStart => exact ⟨0, by omega, rfl, HBC.out, HCC.out⟩
    case round =>
      obtain ⟨k, hkg, rfl, hbw, hck⟩ := hrel
      have hbb : wr.heap[b]? = w.heap[b]? := hbw.block b hF.2
      have q0 : wr.cell? ⟨b, 0, none⟩ = some (.string (bs a.op)) := (cell_keep hbb).trans n0
      have q3 : wr.cell? ⟨b, 3, none⟩ = some (.slice kx a.kids.length kc) := (cell_keep hbb).trans n3
      have hblr : b < wr.heap.size := Nat.lt_of_lt_of_le hbl hbw.size
      clear hbb n0 n1 n2 n3 c0 c1 c2 c3 c4
      by_cases hlt : k < a.kids.length
      · obtain ⟨j, rfl⟩ : ∃ j, gk = j + 1 := ⟨gk - 1, by omega⟩
        rcases HK.out.get with ⟨_, h0⟩ | ⟨g, cap, hkv, hgF, hgl, hcap, hget⟩
        · rw [h0] at hlt; simp at hlt
        obtain ⟨u, hu, hru⟩ := hget k hlt
        cases hkv
        have hgb : wr.heap[g]? = w.heap[g]? := hbw.block g hgF.2
        have r0 : wr.cell? ⟨g, k, none⟩ = some u := (cell_keep hgb).trans hu
        have hgr : g < wr.heap.size := Nat.lt_of_lt_of_le hgl hbw.size
        have hfold : (a.kids.take (k + 1)).foldl (fun s k => Hs.walkL fs alone d k s) (Hs.lookL fs alone s a) = Hs.walkL fs alone d a.kids[k] ((a.kids.take k).foldl (fun s k => Hs.walkL fs alone d k s) (Hs.lookL fs alone s a)) := by
          rw [List.take_succ_eq_append_getElem hlt, List.foldl_append]; rfl
        have hsum : ((a.kids.take k).map (Hs.wt d)).sum + Hs.wt d a.kids[k] ≤ (a.kids.map (Hs.wt d)).sum := by
          have e : a.kids = a.kids.take k ++ a.kids[k] :: a.kids.drop (k + 1) := by rw [List.getElem_cons_drop, List.take_append_drop]
          have e2 : (a.kids.map (Hs.wt d)).sum = ((a.kids.take k ++ a.kids[k] :: a.kids.drop (k + 1)).map (Hs.wt d)).sum := by rw [← e]
          rw [e2, List.map_append, List.sum_append, List.map_cons, List.sum_cons]
          omega
        have hadd := Adds.fold (f := fun s k => Hs.walkL fs alone d k s) (g := Hs.wt d) (fun s k => walkL_adds fs alone d k s) (a.kids.take k) (Hs.lookL fs alone s a)
        have hlen : ((a.kids.take k).foldl (fun s k => Hs.walkL fs alone d k s) (Hs.lookL fs alone s a)).seen.length + Hs.wt d a.kids[k] ≤ 90000 := by
          obtain ⟨t, h1, h2⟩ := hadd
          rw [h1, lookL_seen]
          rw [Hs.wt] at hwt
          simp; omega
        have HC := mkHid (IH u a.kids[k] _ wr hck (hru.keep fun k hk => hbw.block k hk.2) (hwf.2 _ (List.getElem_mem hlt)) hlen)
        have HFO := mkHid hfold
        have HBW := mkHid hbw
        clear hfold hsum hadd hlen hck hbw hru hget hu hgb hfk IH
        go_wp2_with fail
        refine HC.out.mono ?_
        rintro e w1 ⟨rfl, hb1, hc1⟩
        go_wp2_with fail
        go_roundg j
        case measure => omega
        case rel => exact ⟨k + 1, by omega, by go_num, HBW.out.trans hb1, by rw [HFO.out]; exact hc1⟩
      · obtain rfl : k = a.kids.length := by omega
        rw [List.take_length] at hck
        obtain ⟨sv1, hblk1, hown1⟩ := hck.blk
        obtain ⟨hlt1, c0, c1, c2, c3, c4, fz⟩ := ck_cells hblk1
        have hadd : Adds s _ _ := (Adds.of_eq (lookL_seen fs alone s a)).trans (Adds.fold (f := fun s k => Hs.walkL fs alone d k s) (g := Hs.wt d) (fun s k => walkL_adds fs alone d k s) a.kids (Hs.lookL fs alone s a))
        have hpre : s.seen.length ≤ (a.kids.foldl (fun s k => Hs.walkL fs alone d k s) (Hs.lookL fs alone s a)).seen.length := by
          obtain ⟨t, h1, h2⟩ := hadd
          rw [h1]; simp
        have hS : Hs.walkL fs alone (d + 1) a s = if a.op == [98, 108, 111, 99, 107] then { a.kids.foldl (fun s k => Hs.walkL fs alone d k s) (Hs.lookL fs alone s a) with seen := (a.kids.foldl (fun s k => Hs.walkL fs alone d k s) (Hs.lookL fs alone s a)).seen.take s.seen.length } else a.kids.foldl (fun s k => Hs.walkL fs alone d k s) (Hs.lookL fs alone s a) := by
          rw [Hs.walkL, if_neg (by rw [hop]; simp)]
        have HS := mkHid hS
        have HBW := mkHid hbw
        have HCK := mkHid hck
        obtain ⟨sx1, sc1, rfl, hsc1, hscm1, hcut1⟩ := strs_cut hown1 _ hpre
        have HCUT := mkHid hcut1
        have HB1 := mkHid hblk1
        have f1 := fz 1
        clear hadd hS hbw hck hown1 hcut1 hblk1 fz hfk IH HK
        generalize a.kids.foldl (fun s k => Hs.walkL fs alone d k s) (Hs.lookL fs alone s a) = s1 at *
        cases eb : (a.op == [98, 108, 111, 99, 107])
        · rw [eb] at HS
          go_wp2_with fail
          go_end0
          exact ⟨rfl, HBW.out, by rw [HS.out]; exact HCK.out⟩
        · rw [eb] at HS
          unfold maxLen at hscm1
          go_wp2_with fail
          go_end0
          refine ⟨rfl, HBW.out.setCell (by simp) _, ?_⟩
          rw [HS.out, if_pos trivial]
          refine ⟨⟨.slice sx1 s.seen.length sc1, ?_, ?_⟩, HCK.out.kids.keep fun k hk => Below.heap_setCell _ _ _ _ (by have := hk.2; show k ≠ cb; omega)⟩
          · rw [heap_setCell_at HB1.out]; rfl
          · have el : (s1.seen.take s.seen.length).length = s.seen.length := by rw [List.length_take]; omega
            show World.ownsRow _ _ _ _ _ (s1.seen.take s.seen.length).length _
            rw [el]
            exact ownsRow_keep HCUT.out fun k hk => Below.heap_setCell _ _ _ _ (by have := own_block_ge HCUT.out k hk; show k ≠ cb; omega)

end Go.Proofs.YtblbkfdhjfppkaaGreatDoor

/- Contracts of the document's answer: names: declarations. -/
namespace Go.Proofs.YtblbkfdhjfppkaaGreatDoor
open Go.RowKit

theorem news_str (w : World) (x : List UInt8) : ∀ j u, ([.string (bs x)] : List Value)[j]? = some u → (w.alloc (.cells #[.string (bs x)] 9)).cell? ((⟨w.heap.size, 0, none⟩ : Addr).add j) = some u := by
  intro j u hj
  match j, hj with
  | 0, hj => simp at hj; subst hj; simp [Addr.add, go_sem]
  | j + 1, hj => simp at hj
theorem one_str (x : List UInt8) : ∀ u ∈ ([.string (bs x)] : List Value), u.oneCell' = true := by
  intro u hu; simp at hu; subst hu; rfl

/-- The checker's block behind an append to its names. -/
theorem ck_grown {cb : Nat} {w w5 : World} {o : Obj} {v0 v1 v2 v3 v4 v' : Value} {n : Nat} {vs : List Value} (hb : w.heap[cb]? = some (.cells #[v0, v1, v2, v3, v4] 94 (0, 0))) (hown : w.ownsRow (cb + 1) 9 1 v' n vs) (hg : (w.alloc o).grownBy w5 v'.ownBlock) :
    w5.heap[cb]? = some (.cells #[v0, v1, v2, v3, v4] 94 (0, 0)) := by
  have hlt := lt_of_block hb
  rw [hg.block cb (by simp; omega) (fun e => by have := own_block_ge hown cb e.symm; omega)]
  exact heap_later _ _ hlt _ hb

/-- One name more. -/
theorem CkAt.add {cb lo : Nat} {fs : List Hs.Ast} {fv : Value} {alone : Bool} {w w5 : World} {s : Hs.Chk} {sv : Value} {x : List UInt8} {o : Obj} {g cap : Nat} (h : CkAt cb lo fs fv alone w s) (hblk : w.heap[cb]? = some (.cells #[fv, sv, .bool alone, .int .i64 s.kind, .int .i64 s.line] 94 (0, 0)))
    (hown : w.ownsRow (cb + 1) 9 1 sv s.seen.length (strsV s.seen)) (hown5 : w5.ownsRow (cb + 1) 9 1 (.slice (some ⟨g, 0, none⟩) (s.seen.length + 1) cap) (s.seen.length + 1) (strsV s.seen ++ [.string (bs x)])) (hg : (w.alloc o).grownBy w5 sv.ownBlock) :
    Below cb w (w5.setCell ⟨cb, 1, none⟩ (.slice (some ⟨g, 0, none⟩) (s.seen.length + 1) cap)) ∧ CkAt cb lo fs fv alone (w5.setCell ⟨cb, 1, none⟩ (.slice (some ⟨g, 0, none⟩) (s.seen.length + 1) cap)) { s with seen := s.seen ++ [x] } := by
  have hlt := lt_of_block hblk
  have hB5 := ck_grown hblk hown hg
  have hbel : Below cb w w5 := ⟨hg.os.trans rfl, hg.tape.trans rfl, hg.output.trans rfl, Nat.le_trans (by simp) hg.size, fun k hk => by
    rw [hg.block k (by simp; omega) (fun e => by have := own_block_ge hown k e.symm; omega)]
    exact Below.heap_alloc _ _ _ (by omega)⟩
  have hb2 : Below cb w (w5.setCell ⟨cb, 1, none⟩ (.slice (some ⟨g, 0, none⟩) (s.seen.length + 1) cap)) := hbel.setCell (by simp) _
  refine ⟨hb2, ⟨.slice (some ⟨g, 0, none⟩) (s.seen.length + 1) cap, ?_, ?_⟩, h.kids.keep fun k hk => hb2.block k hk.2⟩
  · rw [heap_setCell_at hB5]; rfl
  · have e1 : (s.seen ++ [x]).length = s.seen.length + 1 := by simp
    have e2 : strsV (s.seen ++ [x]) = strsV s.seen ++ [.string (bs x)] := by simp [strsV]
    show World.ownsRow _ _ _ _ _ (s.seen ++ [x]).length (strsV (s.seen ++ [x]))
    rw [e1, e2]
    exact ownsRow_keep hown5 fun k hk => Below.heap_setCell _ _ _ _ (by have := own_block_ge hown5 k hk; show k ≠ cb; omega)

set_option maxRecDepth 100000 in
set_option maxHeartbeats 2000000 in
theorem walk_var (cb lo : Nat) (fs : List Hs.Ast) (fv : Value) (alone : Bool) (d : Nat) (IH : WalkAt cb lo fs fv alone d)
    (v : Value) (a : Hs.Ast) (s : Hs.Chk) (w : World) (h : CkAt cb lo fs fv alone w s) (ha : RepD (d + 1) (Btw lo cb) w v a) (hwf : Hs.wf (d + 1) a) (hwt : s.seen.length + Hs.wt (d + 1) a ≤ 90000) (hop : a.op = [118, 97, 114]) :
    Calls Tryz.prog 89 #[.pointer (some ⟨cb, 0, none⟩), v] w fun e w' => e = .returned (.tuple #[]) ∧ Below cb w w' ∧ CkAt cb lo fs fv alone w' (Hs.walkL fs alone (d + 1) a s) := by
  obtain ⟨d', b, kv, hd, rfl, hF, hbl, n0, n1, n2, n3, hk⟩ := ha.cells
  obtain rfl : d = d' := by omega
  have h2 : 2 ≤ a.kids.length := hwf.1 hop
  obtain ⟨t, u, r, hkids⟩ : ∃ t u r, a.kids = t :: u :: r := by
    match hn : a.kids with
    | [] => rw [hn] at h2; simp at h2
    | [_] => rw [hn] at h2; simp at h2
    | t :: u :: r => exact ⟨t, u, r, rfl⟩
  have hS : Hs.walkL fs alone (d + 1) a s = { Hs.walkL fs alone d u (Hs.declaresL s t) with seen := (Hs.walkL fs alone d u (Hs.declaresL s t)).seen ++ [t.text] } := by
    rw [Hs.walkL, if_pos (by rw [hop]; rfl), hkids]
  have hwu : Hs.wf d u := hwf.2 u (by rw [hkids]; simp)
  have hlen : (Hs.declaresL s t).seen.length + Hs.wt d u ≤ 80000 + 9999 := by
    rw [declaresL_seen]
    rw [Hs.wt, hkids] at hwt
    simp only [List.map_cons, List.sum_cons] at hwt
    omega
  have hadd := walkL_adds fs alone d u (Hs.declaresL s t)
  rcases hk.get with ⟨_, h0⟩ | ⟨g, cap, rfl, hgF, hgl, hcap, hget⟩
  · rw [hkids] at h0; cases h0
  obtain ⟨tv, ht, hrt⟩ := hget 0 (by omega)
  obtain ⟨uv, hu, hru⟩ := hget 1 (by omega)
  have ek0 : ∀ h, a.kids[0]'h = t := fun h => by simp [hkids]
  have ek1 : ∀ h, a.kids[1]'h = u := fun h => by simp [hkids]
  rw [ek0] at hrt
  rw [ek1] at hru
  obtain ⟨sv, hblk, hown⟩ := h.blk
  obtain ⟨hlt, c0, c1, c2, c3, c4, fz⟩ := ck_cells hblk
  obtain ⟨sx, sc, rfl, hsc, hscm, -⟩ := strs_cut hown _ (Nat.le_refl _)
  have hsl : s.seen.length ≤ 90000 := by omega
  have htx : (bs a.op).toList = [118, 97, 114] := by rw [bs_toList, hop]
  have HD := mkHid (declares_any cb lo fs fv alone w s h (by omega) tv t d hrt)
  have HW := mkHid (fun w1 (hc : CkAt cb lo fs fv alone w1 (Hs.declaresL s t)) (hr : RepD d (Btw lo cb) w1 uv u) => IH uv u (Hs.declaresL s t) w1 hc hr hwu (by omega))
  have HS := mkHid hS
  have HRT := mkHid hrt
  have HRU := mkHid hru
  have HADD := mkHid hadd
  clear h ha hk fz hown hS hget hrt hru ek0 ek1 IH hadd hwf hwu hop
  have hkl : a.kids.length ≤ cap := hcap
  have hk0 : (0 : Int) < (a.kids.length : Int) := by omega
  have hk1 : (1 : Int) < (a.kids.length : Int) := by omega
  have hk0' : 0 < a.kids.length := by omega
  clear hkids hwt
  go_enter Tryz.func89, Tryz.ntmps89
  go_wp2_with fail
  refine HD.out.mono ?_
  rintro e w1 ⟨rfl, hb1, hc1⟩
  have hbb1 : w1.heap[b]? = w.heap[b]? := hb1.block b hF.2
  have hgb1 : w1.heap[g]? = w.heap[g]? := hb1.block g hgF.2
  have m3 := (cell_keep (i := 3) hbb1).trans n3
  have r1 := (cell_keep (i := 1) hgb1).trans hu
  have hbl1 : b < w1.heap.size := Nat.lt_of_lt_of_le hbl hb1.size
  have hgl1 : g < w1.heap.size := Nat.lt_of_lt_of_le hgl hb1.size
  have HC := mkHid (HW.out w1 hc1 (HRU.out.keep fun k hk => hb1.block k hk.2))
  have HB1 := mkHid hb1
  clear hbb1 hgb1 hb1 hc1 HD HW HRU c0 c1 c2 c3 c4
  go_wp2_with fail
  refine HC.out.mono ?_
  rintro e w2 ⟨rfl, hb2, hc2⟩
  have hb02 := HB1.out.trans hb2
  have hbb2 : w2.heap[b]? = w.heap[b]? := hb02.block b hF.2
  have hgb2 : w2.heap[g]? = w.heap[g]? := hb02.block g hgF.2
  have p3 : w2.cell? ⟨b, 3, none⟩ = _ := (cell_keep (i := 3) hbb2).trans n3
  have p0 : w2.cell? ⟨g, 0, none⟩ = _ := (cell_keep (i := 0) hgb2).trans ht
  have hbl2 : b < w2.heap.size := Nat.lt_of_lt_of_le hbl hb02.size
  have hgl2 : g < w2.heap.size := Nat.lt_of_lt_of_le hgl hb02.size
  obtain ⟨dt, tb, tkv, -, rfl, hFt, htl, t0, t1, t2, t3, -⟩ := (HRT.out.keep (w' := w2) fun k hk => hb02.block k hk.2).cells
  obtain ⟨sv2, hblk2, hown2⟩ := hc2.blk
  obtain ⟨hlt2, c0, c1, c2, c3, c4, fz⟩ := ck_cells (w := w2) hblk2
  obtain ⟨sx2, sc2, rfl, hsc2, hscm2, -⟩ := strs_cut hown2 _ (Nat.le_refl _)
  have hl2 : (Hs.walkL fs alone d u (Hs.declaresL s t)).seen.length ≤ 90000 := by
    obtain ⟨x, h1, h2⟩ := HADD.out
    rw [h1]; simp; omega
  have f1 := fz 1
  generalize Hs.walkL fs alone d u (Hs.declaresL s t) = s2 at *
  obtain ⟨i0, hi, hz0, hz1, hz2⟩ := info_parts infoStr
  have hblk2d : w2.drew.heap[cb]? = _ := hblk2
  have HB2 := mkHid hblk2d
  have HO2 := mkHid (show w2.drew.ownsRow _ _ _ _ _ _ from hown2)
  have HCC := mkHid (hc2.keepw (w' := w2.drew) rfl)
  have HB02 := mkHid hb02
  have hlt2' : cb < w2.heap.size := hlt2
  have hbl2' : b < w2.heap.size := hbl2
  have hgl2' : g < w2.heap.size := hgl2
  have htl' : tb < w2.heap.size := htl
  clear hlt2 hbl2 hgl2 htl
  clear hblk2 hblk2d hown2 hc2 hb02 hb2 HC hblk fz
  go_wp2_with fail
  go_region_law (refine step_append_lies _ (by rfl) _ _ 60 (by rfl) (cb + 1) 9 i0 _ 1 16 Tryz.underlying60 hi hz0 hz1 hz2 rfl (by decide) (.slice sx2 s2.seen.length sc2) s2.seen.length (strsV s2.seen) (by rfl) (HO2.out.alloc _) ⟨w2.heap.size, 0, none⟩ 1 1 [.string (bs t.text)] (by rfl) (by rfl) (news_str w2.drew _) (one_str _) (by decide) (by unfold maxLen; omega) (by omega) (by simp; omega) (w2.heap.size + 1) (by simp) ?_; intro g5 cap5 w5 hown5 hgrow5 hat5 hg5; have hB5 := ck_grown HB2.out HO2.out hgrow5; obtain ⟨hz5, -, q1, -, -, -, fz5⟩ := ck_cells hB5; have e1 := fz5 1; clear fz5 hB5)
  all_goals
    go_wp2_with fail
    refine bodyPost_ret (results_none rfl _ _ _) rfl ?_
    have hfin := HCC.out.add HB2.out HO2.out hown5 hgrow5
    exact ⟨rfl, HB02.out.trans ((Below.refl _ w2).drew.trans hfin.1), by rw [HS.out]; exact hfin.2⟩

theorem len_le_sum (d : Nat) : ∀ l : List Hs.Ast, l.length ≤ (l.map (Hs.wt (d + 1))).sum
  | [] => by simp
  | x :: l => by
    have := len_le_sum d l
    have h1 : 1 ≤ Hs.wt (d + 1) x := by rw [Hs.wt]; omega
    simp only [List.length_cons, List.map_cons, List.sum_cons]
    omega
theorem RepD.kids_le {d : Nat} {F : Nat → Prop} {w : World} {v : Value} {a : Hs.Ast} (h : RepD (d + 1) F w v a) : a.kids.length ≤ Hs.wt (d + 1) a := by
  obtain ⟨d', b, kv, hd, _, _, _, _, _, _, _, hk⟩ := h.cells
  obtain rfl : d = d' := by omega
  rw [Hs.wt]
  cases d with
  | zero =>
    rcases hk.get with ⟨_, h0⟩ | ⟨g, cap, _, _, _, _, hget⟩
    · rw [h0]; simp
    · by_cases h0 : 0 < a.kids.length
      · obtain ⟨v, _, hf⟩ := hget 0 h0
        exact hf.elim
      · omega
  | succ d =>
    have := len_le_sum d a.kids
    omega

/-- Every tree is walked. -/
theorem walk_any (cb lo : Nat) (fs : List Hs.Ast) (fv : Value) (alone : Bool) (hfl : fs.length ≤ 90000) (hfk : ∀ f ∈ fs, f.kids.length ≤ 90000) : ∀ d, WalkAt cb lo fs fv alone d := by
  intro d
  induction d with
  | zero => intro v a s w _ h; exact h.elim
  | succ d ih =>
    intro v a s w h1 h2 h3 h4
    cases hop : (a.op == [118, 97, 114])
    · exact walk_rest cb lo fs fv alone hfl hfk d ih v a s w h1 h2 h3 h4 (by have := h2.kids_le; omega) hop
    · exact walk_var cb lo fs fv alone d ih v a s w h1 h2 h3 h4 (by simpa using hop)

end Go.Proofs.YtblbkfdhjfppkaaGreatDoor

/- Contracts of the document's answer: names: a function. -/
namespace Go.Proofs.YtblbkfdhjfppkaaGreatDoor
open Go.RowKit

theorem partL_adds (fs : List Hs.Ast) (d : Nat) (s : Hs.Chk) (k : Hs.Ast) : Adds s (Hs.partL fs d s k) (Hs.wt d k + 1) := by
  unfold Hs.partL
  split
  · exact ⟨[k.text], by simp [declaresL_seen], by simp⟩
  · exact (walkL_adds fs false d k s).le (by omega)
theorem sum_succ (f : Hs.Ast → Nat) : ∀ l : List Hs.Ast, (l.map fun k => f k + 1).sum = (l.map f).sum + l.length
  | [] => rfl
  | x :: l => by
    have := sum_succ f l
    simp only [List.map_cons, List.sum_cons, List.length_cons]
    omega

/-- The checker with no names to be seen. -/
theorem CkAt.bare {cb lo : Nat} {fs : List Hs.Ast} {fv : Value} {alone : Bool} {w : World} {s : Hs.Chk} (h : CkAt cb lo fs fv alone w s) : CkAt cb lo fs fv alone (w.setCell ⟨cb, 1, none⟩ (.slice none 0 0)) { s with seen := [] } := by
  obtain ⟨sv, hblk, _⟩ := h.blk
  exact ⟨⟨.slice none 0 0, by rw [heap_setCell_at hblk]; rfl, World.ownsRow_nil _ _ _ _⟩, h.kids.keep fun k hk => Below.heap_setCell _ _ _ _ (by have := hk.2; show k ≠ cb; omega)⟩

set_option maxRecDepth 100000 in
set_option maxHeartbeats 2000000 in
theorem does_any (cb lo : Nat) (fs : List Hs.Ast) (fv : Value) (hfl : fs.length ≤ 90000) (hfk : ∀ f ∈ fs, f.kids.length ≤ 90000) (d : Nat) 
    (v : Value) (a : Hs.Ast) (s : Hs.Chk) (w : World) (first : Bool) (h : CkAt cb lo fs fv false w s) (ha : RepD (d + 1) (Btw lo cb) w v a) (hwf : Hs.wf (d + 1) a) (hwt : Hs.wt (d + 1) a ≤ 40000) :
    Calls Tryz.prog 47 #[.pointer (some ⟨cb, 0, none⟩), v, .bool first] w fun e w' => e = .returned (.tuple #[]) ∧ Below cb w w' ∧ CkAt cb lo fs fv false w' (Hs.doesL fs d s a first) := by
  have hak : a.kids.length ≤ 40000 := by have := ha.kids_le; omega
  have IH : WalkAt cb lo fs fv false d := walk_any cb lo fs fv false hfl hfk d
  obtain ⟨d', b, kv, hd, rfl, hF, hbl, n0, n1, n2, n3, hk⟩ := ha.cells
  obtain rfl : d = d' := by omega
  obtain ⟨kx, kc, rfl⟩ := hk.slice
  have hlt : cb < w.heap.size := by obtain ⟨_, h1, _⟩ := h.blk; exact lt_of_block h1
  have HG := mkHid (given_any a.text w)
  have HF := mkHid (found_any cb lo fs fv false w s a.line 6 h)
  have HS : Hid (Hs.doesL fs d s a first = a.kids.foldl (Hs.partL fs d) { (if Hs.givenB a.text || !first then s.found a.line 6 else s) with seen := [] }) := rfl
  have H := mkHid h
  have HK := mkHid hk
  have HIH := mkHid IH
  have HWF := mkHid hwf
  clear h ha hk IH hwf hfk
  generalize hgb : Hs.givenB a.text = gb at *
  clear hgb
  generalize hs0 : (if (gb || !first) = true then s.found a.line 6 else s) = s0 at *
  go_enter Tryz.func47, Tryz.ntmps47
  go_wp2_with fail
  refine HG.out.mono ?_
  rintro e w1 ⟨rfl, hw⟩
  obtain rfl := hw.symm
  cases gb <;> cases first
  · go_wp2_with fail
    refine HF.out.mono ?_
    rintro e wc ⟨rfl, hbc, hcf⟩
    have hcc : CkAt cb lo fs fv false wc s0 := by rw [← hs0]; exact hcf
    clear hcf
    have HBC := mkHid hbc
    have HCC := mkHid (CkAt.bare hcc)
    obtain ⟨sv0, hblk0, -⟩ := hcc.blk
    obtain ⟨hlt0, -, y1, -, -, -, fz⟩ := ck_cells hblk0
    have y1f := fz 1
    clear hbc hcc H HG HF fz hblk0 hs0
    go_wp2_with fail
    go_loopg [7, 8] a.kids.length (fun gk i kk wr => ∃ k : Nat, k + gk = a.kids.length ∧ i = .int .i64 k ∧ Below cb w wr ∧ CkAt cb lo fs fv false wr ((a.kids.take k).foldl (Hs.partL fs d) { s0 with seen := [] }))
    case atStart => exact ⟨0, by omega, rfl, HBC.out.setCell (by simp) _, HCC.out⟩
    case round =>
      obtain ⟨k, hkg, rfl, hbw, hck⟩ := hrel
      have hbb : wr.heap[b]? = w.heap[b]? := hbw.block b hF.2
      have q3 : wr.cell? ⟨b, 3, none⟩ = some (.slice kx a.kids.length kc) := (cell_keep hbb).trans n3
      have hblr : b < wr.heap.size := Nat.lt_of_lt_of_le hbl hbw.size
      clear hbb n0 n1 n2 n3
      by_cases hlt : k < a.kids.length
      · obtain ⟨j, rfl⟩ : ∃ j, gk = j + 1 := ⟨gk - 1, by omega⟩
        rcases HK.out.get with ⟨_, h0⟩ | ⟨g, cap, hkv, hgF, hgl, hcap, hget⟩
        · rw [h0] at hlt; simp at hlt
        obtain ⟨u, hu, hru⟩ := hget k hlt
        cases hkv
        have hgb : wr.heap[g]? = w.heap[g]? := hbw.block g hgF.2
        have r0 : wr.cell? ⟨g, k, none⟩ = some u := (cell_keep hgb).trans hu
        have hgr : g < wr.heap.size := Nat.lt_of_lt_of_le hgl hbw.size
        have hruw := hru.keep (w' := wr) fun k hk => hbw.block k hk.2
        obtain ⟨d2, ub, ukv, rfl, rfl, huF, hul, u0, u1, u2, u3, -⟩ := hruw.cells
        have hfold : (a.kids.take (k + 1)).foldl (Hs.partL fs (d2 + 1)) { s0 with seen := [] } = Hs.partL fs (d2 + 1) ((a.kids.take k).foldl (Hs.partL fs (d2 + 1)) { s0 with seen := [] }) a.kids[k] := by
          rw [List.take_succ_eq_append_getElem hlt, List.foldl_append]; rfl
        have hsum : ((a.kids.take k).map (Hs.wt (d2 + 1))).sum + Hs.wt (d2 + 1) a.kids[k] ≤ (a.kids.map (Hs.wt (d2 + 1))).sum := by
          have e : a.kids = a.kids.take k ++ a.kids[k] :: a.kids.drop (k + 1) := by rw [List.getElem_cons_drop, List.take_append_drop]
          have e2 : (a.kids.map (Hs.wt (d2 + 1))).sum = ((a.kids.take k ++ a.kids[k] :: a.kids.drop (k + 1)).map (Hs.wt (d2 + 1))).sum := by rw [← e]
          rw [e2, List.map_append, List.sum_append, List.map_cons, List.sum_cons]
          omega
        have hadd := Adds.fold (f := Hs.partL fs (d2 + 1)) (g := fun k => Hs.wt (d2 + 1) k + 1) (fun s k => partL_adds fs (d2 + 1) s k) (a.kids.take k) { s0 with seen := [] }
        have hlen : ((a.kids.take k).foldl (Hs.partL fs (d2 + 1)) { s0 with seen := [] }).seen.length + Hs.wt (d2 + 1) a.kids[k] ≤ 80000 := by
          obtain ⟨t, h1, h2⟩ := hadd
          rw [h1]
          rw [sum_succ, List.length_take] at h2
          rw [Hs.wt] at hwt
          simp; omega
        have HFO := mkHid hfold
        have HBW := mkHid hbw
        have hwk := HWF.out.2 _ (List.getElem_mem hlt)
        clear hfold hsum hadd hget hu hgb hru hbw
        generalize ((a.kids.take k).foldl (Hs.partL fs (d2 + 1)) { s0 with seen := [] }) = sk at *
        generalize a.kids[k] = kk at *
        have hkx : (bs kk.op).toList = kk.op := bs_toList _
        have HP : Hid (Hs.partL fs (d2 + 1) sk kk = if kk.op == [112, 97, 114, 97, 109] then { Hs.declaresL sk kk with seen := (Hs.declaresL sk kk).seen ++ [kk.text] } else Hs.walkL fs false (d2 + 1) kk sk) := rfl
        cases hpar : (kk.op == [112, 97, 114, 97, 109])
        · rw [hpar] at HP
          have HC := mkHid (HIH.out _ kk sk wr hck hruw hwk (by omega))
          clear hck hruw hwk
          go_wp2_with fail
          refine HC.out.mono ?_
          rintro e w1 ⟨rfl, hb1, hc1⟩
          go_wp2_with fail
          go_roundg j
          case measure => omega
          case rel => exact ⟨k + 1, by omega, by go_num, HBW.out.trans hb1, by rw [HFO.out, HP.out]; exact hc1⟩
        · rw [hpar] at HP
          have HC := mkHid (declares_any cb lo fs fv false wr sk hck (by omega) _ kk _ hruw)
          have HRU := mkHid hruw
          clear hck hruw hwk
          go_wp2_with fail
          refine HC.out.mono ?_
          rintro e w2 ⟨rfl, hb2, hc2⟩
          have hub2 : w2.heap[ub]? = wr.heap[ub]? := hb2.block ub huF.2
          have x2 : w2.cell? ⟨ub, 2, none⟩ = _ := (cell_keep (i := 2) hub2).trans u2
          have hul2 : ub < w2.heap.size := Nat.lt_of_lt_of_le hul hb2.size
          obtain ⟨sv2, hblk2, hown2⟩ := hc2.blk
          obtain ⟨hlt2, c0, c1, c2, c3, c4, fz⟩ := ck_cells (w := w2) hblk2
          obtain ⟨sx2, sc2, rfl, hsc2, hscm2, -⟩ := strs_cut hown2 _ (Nat.le_refl _)
          have hl2 : (Hs.declaresL sk kk).seen.length ≤ 90000 := by rw [declaresL_seen]; omega
          have f1 := fz 1
          obtain ⟨i0, hi, hz0, hz1, hz2⟩ := info_parts infoStr
          have hblk2d : w2.drew.heap[cb]? = _ := hblk2
          have HB2 := mkHid hblk2d
          have HO2 := mkHid (show w2.drew.ownsRow _ _ _ _ _ _ from hown2)
          have HCC2 := mkHid (hc2.keepw (w' := w2.drew) rfl)
          have HB02 := mkHid (HBW.out.trans hb2)
          clear hblk2 hblk2d hown2 hc2 hb2 HC fz hub2 u0 u1 u2 u3 q3 r0
          generalize Hs.declaresL sk kk = s2 at *
          go_wp2_with fail
          go_region_law (refine step_append_lies _ (by rfl) _ _ 60 (by rfl) (cb + 1) 9 i0 _ 1 16 Tryz.underlying60 hi hz0 hz1 hz2 rfl (by decide) (.slice sx2 s2.seen.length sc2) s2.seen.length (strsV s2.seen) (by rfl) (HO2.out.alloc _) ⟨w2.heap.size, 0, none⟩ 1 1 [.string (bs kk.text)] (by rfl) (by rfl) (news_str w2.drew _) (one_str _) (by decide) (by unfold maxLen; omega) (by omega) (by simp; omega) (w2.heap.size + 1) (by simp) ?_; intro g5 cap5 w5 hown5 hgrow5 hat5 hg5; have hB5 := ck_grown HB2.out HO2.out hgrow5; obtain ⟨hz5, -, q1, -, -, -, fz5⟩ := ck_cells hB5; have e1 := fz5 1; clear fz5 hB5)
          all_goals
            go_wp2_with fail
            go_roundg j
            case measure => omega
            case rel =>
              have hfin := HCC2.out.add HB2.out HO2.out hown5 hgrow5
              exact ⟨k + 1, by omega, by go_num, HB02.out.trans ((Below.refl _ w2).drew.trans hfin.1), by rw [HFO.out, HP.out]; exact hfin.2⟩
      · obtain rfl : k = a.kids.length := by omega
        rw [List.take_length] at hck
        have HBW := mkHid hbw
        have HCK := mkHid hck
        clear hbw hck
        go_wp2_with fail
        go_end0
        exact ⟨rfl, HBW.out, by rw [HS.out]; exact HCK.out⟩
  · have hbc : Below cb w w := Below.refl _ _
    have hcc : CkAt cb lo fs fv false w s0 := by rw [← hs0]; exact H.out
    have HBC := mkHid hbc
    have HCC := mkHid (CkAt.bare hcc)
    obtain ⟨sv0, hblk0, -⟩ := hcc.blk
    obtain ⟨hlt0, -, y1, -, -, -, fz⟩ := ck_cells hblk0
    have y1f := fz 1
    clear hbc hcc H HG HF fz hblk0 hs0
    go_wp2_with fail
    go_loopg [7, 8] a.kids.length (fun gk i kk wr => ∃ k : Nat, k + gk = a.kids.length ∧ i = .int .i64 k ∧ Below cb w wr ∧ CkAt cb lo fs fv false wr ((a.kids.take k).foldl (Hs.partL fs d) { s0 with seen := [] }))
    case atStart => exact ⟨0, by omega, rfl, HBC.out.setCell (by simp) _, HCC.out⟩
    case round =>
      obtain ⟨k, hkg, rfl, hbw, hck⟩ := hrel
      have hbb : wr.heap[b]? = w.heap[b]? := hbw.block b hF.2
      have q3 : wr.cell? ⟨b, 3, none⟩ = some (.slice kx a.kids.length kc) := (cell_keep hbb).trans n3
      have hblr : b < wr.heap.size := Nat.lt_of_lt_of_le hbl hbw.size
      clear hbb n0 n1 n2 n3
      by_cases hlt : k < a.kids.length
      · obtain ⟨j, rfl⟩ : ∃ j, gk = j + 1 := ⟨gk - 1, by omega⟩
        rcases HK.out.get with ⟨_, h0⟩ | ⟨g, cap, hkv, hgF, hgl, hcap, hget⟩
        · rw [h0] at hlt; simp at hlt
        obtain ⟨u, hu, hru⟩ := hget k hlt
        cases hkv
        have hgb : wr.heap[g]? = w.heap[g]? := hbw.block g hgF.2
        have r0 : wr.cell? ⟨g, k, none⟩ = some u := (cell_keep hgb).trans hu
        have hgr : g < wr.heap.size := Nat.lt_of_lt_of_le hgl hbw.size
        have hruw := hru.keep (w' := wr) fun k hk => hbw.block k hk.2
        obtain ⟨d2, ub, ukv, rfl, rfl, huF, hul, u0, u1, u2, u3, -⟩ := hruw.cells
        have hfold : (a.kids.take (k + 1)).foldl (Hs.partL fs (d2 + 1)) { s0 with seen := [] } = Hs.partL fs (d2 + 1) ((a.kids.take k).foldl (Hs.partL fs (d2 + 1)) { s0 with seen := [] }) a.kids[k] := by
          rw [List.take_succ_eq_append_getElem hlt, List.foldl_append]; rfl
        have hsum : ((a.kids.take k).map (Hs.wt (d2 + 1))).sum + Hs.wt (d2 + 1) a.kids[k] ≤ (a.kids.map (Hs.wt (d2 + 1))).sum := by
          have e : a.kids = a.kids.take k ++ a.kids[k] :: a.kids.drop (k + 1) := by rw [List.getElem_cons_drop, List.take_append_drop]
          have e2 : (a.kids.map (Hs.wt (d2 + 1))).sum = ((a.kids.take k ++ a.kids[k] :: a.kids.drop (k + 1)).map (Hs.wt (d2 + 1))).sum := by rw [← e]
          rw [e2, List.map_append, List.sum_append, List.map_cons, List.sum_cons]
          omega
        have hadd := Adds.fold (f := Hs.partL fs (d2 + 1)) (g := fun k => Hs.wt (d2 + 1) k + 1) (fun s k => partL_adds fs (d2 + 1) s k) (a.kids.take k) { s0 with seen := [] }
        have hlen : ((a.kids.take k).foldl (Hs.partL fs (d2 + 1)) { s0 with seen := [] }).seen.length + Hs.wt (d2 + 1) a.kids[k] ≤ 80000 := by
          obtain ⟨t, h1, h2⟩ := hadd
          rw [h1]
          rw [sum_succ, List.length_take] at h2
          rw [Hs.wt] at hwt
          simp; omega
        have HFO := mkHid hfold
        have HBW := mkHid hbw
        have hwk := HWF.out.2 _ (List.getElem_mem hlt)
        clear hfold hsum hadd hget hu hgb hru hbw
        generalize ((a.kids.take k).foldl (Hs.partL fs (d2 + 1)) { s0 with seen := [] }) = sk at *
        generalize a.kids[k] = kk at *
        have hkx : (bs kk.op).toList = kk.op := bs_toList _
        have HP : Hid (Hs.partL fs (d2 + 1) sk kk = if kk.op == [112, 97, 114, 97, 109] then { Hs.declaresL sk kk with seen := (Hs.declaresL sk kk).seen ++ [kk.text] } else Hs.walkL fs false (d2 + 1) kk sk) := rfl
        cases hpar : (kk.op == [112, 97, 114, 97, 109])
        · rw [hpar] at HP
          have HC := mkHid (HIH.out _ kk sk wr hck hruw hwk (by omega))
          clear hck hruw hwk
          go_wp2_with fail
          refine HC.out.mono ?_
          rintro e w1 ⟨rfl, hb1, hc1⟩
          go_wp2_with fail
          go_roundg j
          case measure => omega
          case rel => exact ⟨k + 1, by omega, by go_num, HBW.out.trans hb1, by rw [HFO.out, HP.out]; exact hc1⟩
        · rw [hpar] at HP
          have HC := mkHid (declares_any cb lo fs fv false wr sk hck (by omega) _ kk _ hruw)
          have HRU := mkHid hruw
          clear hck hruw hwk
          go_wp2_with fail
          refine HC.out.mono ?_
          rintro e w2 ⟨rfl, hb2, hc2⟩
          have hub2 : w2.heap[ub]? = wr.heap[ub]? := hb2.block ub huF.2
          have x2 : w2.cell? ⟨ub, 2, none⟩ = _ := (cell_keep (i := 2) hub2).trans u2
          have hul2 : ub < w2.heap.size := Nat.lt_of_lt_of_le hul hb2.size
          obtain ⟨sv2, hblk2, hown2⟩ := hc2.blk
          obtain ⟨hlt2, c0, c1, c2, c3, c4, fz⟩ := ck_cells (w := w2) hblk2
          obtain ⟨sx2, sc2, rfl, hsc2, hscm2, -⟩ := strs_cut hown2 _ (Nat.le_refl _)
          have hl2 : (Hs.declaresL sk kk).seen.length ≤ 90000 := by rw [declaresL_seen]; omega
          have f1 := fz 1
          obtain ⟨i0, hi, hz0, hz1, hz2⟩ := info_parts infoStr
          have hblk2d : w2.drew.heap[cb]? = _ := hblk2
          have HB2 := mkHid hblk2d
          have HO2 := mkHid (show w2.drew.ownsRow _ _ _ _ _ _ from hown2)
          have HCC2 := mkHid (hc2.keepw (w' := w2.drew) rfl)
          have HB02 := mkHid (HBW.out.trans hb2)
          clear hblk2 hblk2d hown2 hc2 hb2 HC fz hub2 u0 u1 u2 u3 q3 r0
          generalize Hs.declaresL sk kk = s2 at *
          go_wp2_with fail
          go_region_law (refine step_append_lies _ (by rfl) _ _ 60 (by rfl) (cb + 1) 9 i0 _ 1 16 Tryz.underlying60 hi hz0 hz1 hz2 rfl (by decide) (.slice sx2 s2.seen.length sc2) s2.seen.length (strsV s2.seen) (by rfl) (HO2.out.alloc _) ⟨w2.heap.size, 0, none⟩ 1 1 [.string (bs kk.text)] (by rfl) (by rfl) (news_str w2.drew _) (one_str _) (by decide) (by unfold maxLen; omega) (by omega) (by simp; omega) (w2.heap.size + 1) (by simp) ?_; intro g5 cap5 w5 hown5 hgrow5 hat5 hg5; have hB5 := ck_grown HB2.out HO2.out hgrow5; obtain ⟨hz5, -, q1, -, -, -, fz5⟩ := ck_cells hB5; have e1 := fz5 1; clear fz5 hB5)
          all_goals
            go_wp2_with fail
            go_roundg j
            case measure => omega
            case rel =>
              have hfin := HCC2.out.add HB2.out HO2.out hown5 hgrow5
              exact ⟨k + 1, by omega, by go_num, HB02.out.trans ((Below.refl _ w2).drew.trans hfin.1), by rw [HFO.out, HP.out]; exact hfin.2⟩
      · obtain rfl : k = a.kids.length := by omega
        rw [List.take_length] at hck
        have HBW := mkHid hbw
        have HCK := mkHid hck
        clear hbw hck
        go_wp2_with fail
        go_end0
        exact ⟨rfl, HBW.out, by rw [HS.out]; exact HCK.out⟩
  · go_wp2_with fail
    refine HF.out.mono ?_
    rintro e wc ⟨rfl, hbc, hcf⟩
    have hcc : CkAt cb lo fs fv false wc s0 := by rw [← hs0]; exact hcf
    clear hcf
    have HBC := mkHid hbc
    have HCC := mkHid (CkAt.bare hcc)
    obtain ⟨sv0, hblk0, -⟩ := hcc.blk
    obtain ⟨hlt0, -, y1, -, -, -, fz⟩ := ck_cells hblk0
    have y1f := fz 1
    clear hbc hcc H HG HF fz hblk0 hs0
    go_wp2_with fail
    go_loopg [7, 8] a.kids.length (fun gk i kk wr => ∃ k : Nat, k + gk = a.kids.length ∧ i = .int .i64 k ∧ Below cb w wr ∧ CkAt cb lo fs fv false wr ((a.kids.take k).foldl (Hs.partL fs d) { s0 with seen := [] }))
    case atStart => exact ⟨0, by omega, rfl, HBC.out.setCell (by simp) _, HCC.out⟩
    case round =>
      obtain ⟨k, hkg, rfl, hbw, hck⟩ := hrel
      have hbb : wr.heap[b]? = w.heap[b]? := hbw.block b hF.2
      have q3 : wr.cell? ⟨b, 3, none⟩ = some (.slice kx a.kids.length kc) := (cell_keep hbb).trans n3
      have hblr : b < wr.heap.size := Nat.lt_of_lt_of_le hbl hbw.size
      clear hbb n0 n1 n2 n3
      by_cases hlt : k < a.kids.length
      · obtain ⟨j, rfl⟩ : ∃ j, gk = j + 1 := ⟨gk - 1, by omega⟩
        rcases HK.out.get with ⟨_, h0⟩ | ⟨g, cap, hkv, hgF, hgl, hcap, hget⟩
        · rw [h0] at hlt; simp at hlt
        obtain ⟨u, hu, hru⟩ := hget k hlt
        cases hkv
        have hgb : wr.heap[g]? = w.heap[g]? := hbw.block g hgF.2
        have r0 : wr.cell? ⟨g, k, none⟩ = some u := (cell_keep hgb).trans hu
        have hgr : g < wr.heap.size := Nat.lt_of_lt_of_le hgl hbw.size
        have hruw := hru.keep (w' := wr) fun k hk => hbw.block k hk.2
        obtain ⟨d2, ub, ukv, rfl, rfl, huF, hul, u0, u1, u2, u3, -⟩ := hruw.cells
        have hfold : (a.kids.take (k + 1)).foldl (Hs.partL fs (d2 + 1)) { s0 with seen := [] } = Hs.partL fs (d2 + 1) ((a.kids.take k).foldl (Hs.partL fs (d2 + 1)) { s0 with seen := [] }) a.kids[k] := by
          rw [List.take_succ_eq_append_getElem hlt, List.foldl_append]; rfl
        have hsum : ((a.kids.take k).map (Hs.wt (d2 + 1))).sum + Hs.wt (d2 + 1) a.kids[k] ≤ (a.kids.map (Hs.wt (d2 + 1))).sum := by
          have e : a.kids = a.kids.take k ++ a.kids[k] :: a.kids.drop (k + 1) := by rw [List.getElem_cons_drop, List.take_append_drop]
          have e2 : (a.kids.map (Hs.wt (d2 + 1))).sum = ((a.kids.take k ++ a.kids[k] :: a.kids.drop (k + 1)).map (Hs.wt (d2 + 1))).sum := by rw [← e]
          rw [e2, List.map_append, List.sum_append, List.map_cons, List.sum_cons]
          omega
        have hadd := Adds.fold (f := Hs.partL fs (d2 + 1)) (g := fun k => Hs.wt (d2 + 1) k + 1) (fun s k => partL_adds fs (d2 + 1) s k) (a.kids.take k) { s0 with seen := [] }
        have hlen : ((a.kids.take k).foldl (Hs.partL fs (d2 + 1)) { s0 with seen := [] }).seen.length + Hs.wt (d2 + 1) a.kids[k] ≤ 80000 := by
          obtain ⟨t, h1, h2⟩ := hadd
          rw [h1]
          rw [sum_succ, List.length_take] at h2
          rw [Hs.wt] at hwt
          simp; omega
        have HFO := mkHid hfold
        have HBW := mkHid hbw
        have hwk := HWF.out.2 _ (List.getElem_mem hlt)
        clear hfold hsum hadd hget hu hgb hru hbw
        generalize ((a.kids.take k).foldl (Hs.partL fs (d2 + 1)) { s0 with seen := [] }) = sk at *
        generalize a.kids[k] = kk at *
        have hkx : (bs kk.op).toList = kk.op := bs_toList _
        have HP : Hid (Hs.partL fs (d2 + 1) sk kk = if kk.op == [112, 97, 114, 97, 109] then { Hs.declaresL sk kk with seen := (Hs.declaresL sk kk).seen ++ [kk.text] } else Hs.walkL fs false (d2 + 1) kk sk) := rfl
        cases hpar : (kk.op == [112, 97, 114, 97, 109])
        · rw [hpar] at HP
          have HC := mkHid (HIH.out _ kk sk wr hck hruw hwk (by omega))
          clear hck hruw hwk
          go_wp2_with fail
          refine HC.out.mono ?_
          rintro e w1 ⟨rfl, hb1, hc1⟩
          go_wp2_with fail
          go_roundg j
          case measure => omega
          case rel => exact ⟨k + 1, by omega, by go_num, HBW.out.trans hb1, by rw [HFO.out, HP.out]; exact hc1⟩
        · rw [hpar] at HP
          have HC := mkHid (declares_any cb lo fs fv false wr sk hck (by omega) _ kk _ hruw)
          have HRU := mkHid hruw
          clear hck hruw hwk
          go_wp2_with fail
          refine HC.out.mono ?_
          rintro e w2 ⟨rfl, hb2, hc2⟩
          have hub2 : w2.heap[ub]? = wr.heap[ub]? := hb2.block ub huF.2
          have x2 : w2.cell? ⟨ub, 2, none⟩ = _ := (cell_keep (i := 2) hub2).trans u2
          have hul2 : ub < w2.heap.size := Nat.lt_of_lt_of_le hul hb2.size
          obtain ⟨sv2, hblk2, hown2⟩ := hc2.blk
          obtain ⟨hlt2, c0, c1, c2, c3, c4, fz⟩ := ck_cells (w := w2) hblk2
          obtain ⟨sx2, sc2, rfl, hsc2, hscm2, -⟩ := strs_cut hown2 _ (Nat.le_refl _)
          have hl2 : (Hs.declaresL sk kk).seen.length ≤ 90000 := by rw [declaresL_seen]; omega
          have f1 := fz 1
          obtain ⟨i0, hi, hz0, hz1, hz2⟩ := info_parts infoStr
          have hblk2d : w2.drew.heap[cb]? = _ := hblk2
          have HB2 := mkHid hblk2d
          have HO2 := mkHid (show w2.drew.ownsRow _ _ _ _ _ _ from hown2)
          have HCC2 := mkHid (hc2.keepw (w' := w2.drew) rfl)
          have HB02 := mkHid (HBW.out.trans hb2)
          clear hblk2 hblk2d hown2 hc2 hb2 HC fz hub2 u0 u1 u2 u3 q3 r0
          generalize Hs.declaresL sk kk = s2 at *
          go_wp2_with fail
          go_region_law (refine step_append_lies _ (by rfl) _ _ 60 (by rfl) (cb + 1) 9 i0 _ 1 16 Tryz.underlying60 hi hz0 hz1 hz2 rfl (by decide) (.slice sx2 s2.seen.length sc2) s2.seen.length (strsV s2.seen) (by rfl) (HO2.out.alloc _) ⟨w2.heap.size, 0, none⟩ 1 1 [.string (bs kk.text)] (by rfl) (by rfl) (news_str w2.drew _) (one_str _) (by decide) (by unfold maxLen; omega) (by omega) (by simp; omega) (w2.heap.size + 1) (by simp) ?_; intro g5 cap5 w5 hown5 hgrow5 hat5 hg5; have hB5 := ck_grown HB2.out HO2.out hgrow5; obtain ⟨hz5, -, q1, -, -, -, fz5⟩ := ck_cells hB5; have e1 := fz5 1; clear fz5 hB5)
          all_goals
            go_wp2_with fail
            go_roundg j
            case measure => omega
            case rel =>
              have hfin := HCC2.out.add HB2.out HO2.out hown5 hgrow5
              exact ⟨k + 1, by omega, by go_num, HB02.out.trans ((Below.refl _ w2).drew.trans hfin.1), by rw [HFO.out, HP.out]; exact hfin.2⟩
      · obtain rfl : k = a.kids.length := by omega
        rw [List.take_length] at hck
        have HBW := mkHid hbw
        have HCK := mkHid hck
        clear hbw hck
        go_wp2_with fail
        go_end0
        exact ⟨rfl, HBW.out, by rw [HS.out]; exact HCK.out⟩
  · go_wp2_with fail
    refine HF.out.mono ?_
    rintro e wc ⟨rfl, hbc, hcf⟩
    have hcc : CkAt cb lo fs fv false wc s0 := by rw [← hs0]; exact hcf
    clear hcf
    have HBC := mkHid hbc
    have HCC := mkHid (CkAt.bare hcc)
    obtain ⟨sv0, hblk0, -⟩ := hcc.blk
    obtain ⟨hlt0, -, y1, -, -, -, fz⟩ := ck_cells hblk0
    have y1f := fz 1
    clear hbc hcc H HG HF fz hblk0 hs0
    go_wp2_with fail
    go_loopg [7, 8] a.kids.length (fun gk i kk wr => ∃ k : Nat, k + gk = a.kids.length ∧ i = .int .i64 k ∧ Below cb w wr ∧ CkAt cb lo fs fv false wr ((a.kids.take k).foldl (Hs.partL fs d) { s0 with seen := [] }))
    case atStart => exact ⟨0, by omega, rfl, HBC.out.setCell (by simp) _, HCC.out⟩
    case round =>
      obtain ⟨k, hkg, rfl, hbw, hck⟩ := hrel
      have hbb : wr.heap[b]? = w.heap[b]? := hbw.block b hF.2
      have q3 : wr.cell? ⟨b, 3, none⟩ = some (.slice kx a.kids.length kc) := (cell_keep hbb).trans n3
      have hblr : b < wr.heap.size := Nat.lt_of_lt_of_le hbl hbw.size
      clear hbb n0 n1 n2 n3
      by_cases hlt : k < a.kids.length
      · obtain ⟨j, rfl⟩ : ∃ j, gk = j + 1 := ⟨gk - 1, by omega⟩
        rcases HK.out.get with ⟨_, h0⟩ | ⟨g, cap, hkv, hgF, hgl, hcap, hget⟩
        · rw [h0] at hlt; simp at hlt
        obtain ⟨u, hu, hru⟩ := hget k hlt
        cases hkv
        have hgb : wr.heap[g]? = w.heap[g]? := hbw.block g hgF.2
        have r0 : wr.cell? ⟨g, k, none⟩ = some u := (cell_keep hgb).trans hu
        have hgr : g < wr.heap.size := Nat.lt_of_lt_of_le hgl hbw.size
        have hruw := hru.keep (w' := wr) fun k hk => hbw.block k hk.2
        obtain ⟨d2, ub, ukv, rfl, rfl, huF, hul, u0, u1, u2, u3, -⟩ := hruw.cells
        have hfold : (a.kids.take (k + 1)).foldl (Hs.partL fs (d2 + 1)) { s0 with seen := [] } = Hs.partL fs (d2 + 1) ((a.kids.take k).foldl (Hs.partL fs (d2 + 1)) { s0 with seen := [] }) a.kids[k] := by
          rw [List.take_succ_eq_append_getElem hlt, List.foldl_append]; rfl
        have hsum : ((a.kids.take k).map (Hs.wt (d2 + 1))).sum + Hs.wt (d2 + 1) a.kids[k] ≤ (a.kids.map (Hs.wt (d2 + 1))).sum := by
          have e : a.kids = a.kids.take k ++ a.kids[k] :: a.kids.drop (k + 1) := by rw [List.getElem_cons_drop, List.take_append_drop]
          have e2 : (a.kids.map (Hs.wt (d2 + 1))).sum = ((a.kids.take k ++ a.kids[k] :: a.kids.drop (k + 1)).map (Hs.wt (d2 + 1))).sum := by rw [← e]
          rw [e2, List.map_append, List.sum_append, List.map_cons, List.sum_cons]
          omega
        have hadd := Adds.fold (f := Hs.partL fs (d2 + 1)) (g := fun k => Hs.wt (d2 + 1) k + 1) (fun s k => partL_adds fs (d2 + 1) s k) (a.kids.take k) { s0 with seen := [] }
        have hlen : ((a.kids.take k).foldl (Hs.partL fs (d2 + 1)) { s0 with seen := [] }).seen.length + Hs.wt (d2 + 1) a.kids[k] ≤ 80000 := by
          obtain ⟨t, h1, h2⟩ := hadd
          rw [h1]
          rw [sum_succ, List.length_take] at h2
          rw [Hs.wt] at hwt
          simp; omega
        have HFO := mkHid hfold
        have HBW := mkHid hbw
        have hwk := HWF.out.2 _ (List.getElem_mem hlt)
        clear hfold hsum hadd hget hu hgb hru hbw
        generalize ((a.kids.take k).foldl (Hs.partL fs (d2 + 1)) { s0 with seen := [] }) = sk at *
        generalize a.kids[k] = kk at *
        have hkx : (bs kk.op).toList = kk.op := bs_toList _
        have HP : Hid (Hs.partL fs (d2 + 1) sk kk = if kk.op == [112, 97, 114, 97, 109] then { Hs.declaresL sk kk with seen := (Hs.declaresL sk kk).seen ++ [kk.text] } else Hs.walkL fs false (d2 + 1) kk sk) := rfl
        cases hpar : (kk.op == [112, 97, 114, 97, 109])
        · rw [hpar] at HP
          have HC := mkHid (HIH.out _ kk sk wr hck hruw hwk (by omega))
          clear hck hruw hwk
          go_wp2_with fail
          refine HC.out.mono ?_
          rintro e w1 ⟨rfl, hb1, hc1⟩
          go_wp2_with fail
          go_roundg j
          case measure => omega
          case rel => exact ⟨k + 1, by omega, by go_num, HBW.out.trans hb1, by rw [HFO.out, HP.out]; exact hc1⟩
        · rw [hpar] at HP
          have HC := mkHid (declares_any cb lo fs fv false wr sk hck (by omega) _ kk _ hruw)
          have HRU := mkHid hruw
          clear hck hruw hwk
          go_wp2_with fail
          refine HC.out.mono ?_
          rintro e w2 ⟨rfl, hb2, hc2⟩
          have hub2 : w2.heap[ub]? = wr.heap[ub]? := hb2.block ub huF.2
          have x2 : w2.cell? ⟨ub, 2, none⟩ = _ := (cell_keep (i := 2) hub2).trans u2
          have hul2 : ub < w2.heap.size := Nat.lt_of_lt_of_le hul hb2.size
          obtain ⟨sv2, hblk2, hown2⟩ := hc2.blk
          obtain ⟨hlt2, c0, c1, c2, c3, c4, fz⟩ := ck_cells (w := w2) hblk2
          obtain ⟨sx2, sc2, rfl, hsc2, hscm2, -⟩ := strs_cut hown2 _ (Nat.le_refl _)
          have hl2 : (Hs.declaresL sk kk).seen.length ≤ 90000 := by rw [declaresL_seen]; omega
          have f1 := fz 1
          obtain ⟨i0, hi, hz0, hz1, hz2⟩ := info_parts infoStr
          have hblk2d : w2.drew.heap[cb]? = _ := hblk2
          have HB2 := mkHid hblk2d
          have HO2 := mkHid (show w2.drew.ownsRow _ _ _ _ _ _ from hown2)
          have HCC2 := mkHid (hc2.keepw (w' := w2.drew) rfl)
          have HB02 := mkHid (HBW.out.trans hb2)
          clear hblk2 hblk2d hown2 hc2 hb2 HC fz hub2 u0 u1 u2 u3 q3 r0
          generalize Hs.declaresL sk kk = s2 at *
          go_wp2_with fail
          go_region_law (refine step_append_lies _ (by rfl) _ _ 60 (by rfl) (cb + 1) 9 i0 _ 1 16 Tryz.underlying60 hi hz0 hz1 hz2 rfl (by decide) (.slice sx2 s2.seen.length sc2) s2.seen.length (strsV s2.seen) (by rfl) (HO2.out.alloc _) ⟨w2.heap.size, 0, none⟩ 1 1 [.string (bs kk.text)] (by rfl) (by rfl) (news_str w2.drew _) (one_str _) (by decide) (by unfold maxLen; omega) (by omega) (by simp; omega) (w2.heap.size + 1) (by simp) ?_; intro g5 cap5 w5 hown5 hgrow5 hat5 hg5; have hB5 := ck_grown HB2.out HO2.out hgrow5; obtain ⟨hz5, -, q1, -, -, -, fz5⟩ := ck_cells hB5; have e1 := fz5 1; clear fz5 hB5)
          all_goals
            go_wp2_with fail
            go_roundg j
            case measure => omega
            case rel =>
              have hfin := HCC2.out.add HB2.out HO2.out hown5 hgrow5
              exact ⟨k + 1, by omega, by go_num, HB02.out.trans ((Below.refl _ w2).drew.trans hfin.1), by rw [HFO.out, HP.out]; exact hfin.2⟩
      · obtain rfl : k = a.kids.length := by omega
        rw [List.take_length] at hck
        have HBW := mkHid hbw
        have HCK := mkHid hck
        clear hbw hck
        go_wp2_with fail
        go_end0
        exact ⟨rfl, HBW.out, by rw [HS.out]; exact HCK.out⟩

end Go.Proofs.YtblbkfdhjfppkaaGreatDoor
