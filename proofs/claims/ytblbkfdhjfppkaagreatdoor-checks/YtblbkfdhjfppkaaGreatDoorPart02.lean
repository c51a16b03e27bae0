/- Contracts of the document's answer: operations of two operands; an expression. -/
import Derived.Test.YtblbkfdhjfppkaaGreatDoorPart01
import Derived.Deep.RegionLaw
import Derived.Deep.DeepCutAuto
namespace Go.Proofs.YtblbkfdhjfppkaaGreatDoor
open Go.RowKit

/-- The level as Go's number. -/
def levI (x : List UInt8) : Int := if Hs.levelOf x = 9 then -1 else (Hs.levelOf x : Int)

set_option maxRecDepth 100000 in
set_option maxHeartbeats 1000000 in
theorem levelOf_any (x : List UInt8) (w : World) :
    Calls Tryz.prog 197 #[.string (bs x)] w fun e w' => e = .returned (.int .i64 (levI x)) ∧ w' = w := by
  have hx : (bs x).toList = x := bs_toList x
  go_enter Tryz.func197, Tryz.ntmps197
  go_wp2
  all_goals
    go_ret
    refine ⟨ret_int ?_, rfl⟩
    clear hx
    unfold levI Hs.levelOf
    simp_all

theorem levI_eq (x : List UInt8) (k : Nat) (hk : k ≤ 4) : (levI x != (k : Int)) = !(Hs.levelOf x == k) := by
  unfold levI
  by_cases h : Hs.levelOf x = 9
  · rw [if_pos h, h]
    have e1 : ((-1 : Int) != (k : Int)) = true := by rw [bne_iff_ne]; omega
    have e2 : ((9 : Nat) == k) = false := by simp; omega
    rw [e1, e2]; rfl
  · rw [if_neg h]
    by_cases e : Hs.levelOf x = k
    · rw [e]; simp
    · have e1 : ((Hs.levelOf x : Int) != (k : Int)) = true := by simp; omega
      have e2 : (Hs.levelOf x == k) = false := by simp; omega
      rw [e1, e2]; rfl

/-- The function 'level' at a level. -/
def ReadsK (C : Ctx) (k : Int) (X : Nat → Hs.R Hs.Ast) : Prop :=
  ∀ (w : World) (S : Except Nat Nat), AtS C w S → onS S X ≠ .error 0 → Calls Tryz.prog 141 #[.pointer (some ⟨C.pb, 0, none⟩), .int .i64 k] w (PostN C w (onS S X))

/-- What holds at the head of the loop over operations. -/
def LevelInv (C : Ctx) (L : Nat → Hs.R Hs.Ast) (kk : Nat) (w : World) (r : Hs.R Hs.Ast) (k : Nat) (v : Value) (wr : World) : Prop :=
  Fr C.pb w wr ∧ ∃ b, v = .pointer (some ⟨b, 0, none⟩) ∧
  ((∃ a q, At C wr q 0 ∧ r = Hs.levelLoop L C.ts kk k a q ∧ Rep (Btw w.heap.size wr.heap.size) wr v a) ∨ (∃ l, r = .error l ∧ AtS C wr (.error l)))

set_option maxRecDepth 100000 in
set_option maxHeartbeats 2000000 in
theorem level_step (C : Ctx) (kk : Nat) (hkk : kk ≤ 4) (L : Nat → Hs.R Hs.Ast) (HL : ReadsK C ((kk : Int) + 1) L) (w : World) (S : Except Nat Nat) (h : AtS C w S) (r : Hs.R Hs.Ast)
    (hr : Hid (r = Hs.bindR (onS S L) (Hs.levelLoop L C.ts kk (C.ts.length + 1)))) (hr0 : r ≠ .error 0) :
    Calls Tryz.prog 141 #[.pointer (some ⟨C.pb, 0, none⟩), .int .i64 kk] w (PostN C w r) := by
  obtain ⟨hpb, hgb, hlen⟩ := h.facts
  have HA := mkHid h
  have HEE := mkHid HL
  have HR0 := mkHid hr0
  have hp0 : onS S L ≠ .error 0 := fun e => hr0 (by rw [hr.out, e]; rfl)
  have HC := mkHid (HL w S h hp0)
  clear h HL hr0 hp0
  go_enter Tryz.func141, Tryz.ntmps141
  go_wp2_with fail
  refine HC.out.mono ?_
  rintro e w4 ⟨hfr4, hat4, b4, rfl, hrep4⟩
  have HF4 := mkHid hfr4
  have HX4 := mkHid (And.intro hat4 hrep4)
  clear hat4 hrep4 hfr4 HC
  go_wp2_with fail
  go_loopg [5] (C.ts.length + 1) (fun k v wr => LevelInv C L kk w r k v wr)
  case atStart =>
    refine ⟨HF4.out, b4, rfl, ?_⟩
    obtain ⟨hat4, hrep4⟩ := HX4.out
    cases hp : onS S L with
    | error l =>
      rw [hp] at hat4
      exact Or.inr ⟨l, by rw [hr.out, hp]; rfl, hat4⟩
    | ok aq =>
      obtain ⟨a, q⟩ := aq
      rw [hp] at hat4
      exact Or.inl ⟨a, q, hat4, by rw [hr.out, hp]; rfl, hrep4 a q hp⟩
  case round =>
    obtain ⟨hf0, b0, rfl, hrel⟩ := hrel
    have HF0 := mkHid hf0
    have hsz0 := hf0.size
    clear hf0 HF4 HX4
    rcases hrel with ⟨a, q, hq, hr1, hrep⟩ | ⟨l, hr1, hl⟩
    · obtain ⟨k, rfl⟩ : ∃ k, gk = k + 1 := by
        cases gk with
        | zero => exact absurd hr1 HR0.out
        | succ k => exact ⟨k, rfl⟩
      rw [Hs.levelLoop] at hr1
      have HP := mkHid (peek_any C wr q 0 hq)
      obtain ⟨hl1, hc2⟩ := hq.good
      have HQ := mkHid hq
      have HREP := mkHid hrep
      by_cases hso : (Hs.tk C.ts q).sort = 112
      · have hp1 : q + 1 < C.ts.length := hq.next (by omega)
        cases hlv : (Hs.levelOf (Hs.tk C.ts q).text == kk)
        · have hlv' := levI_eq (Hs.tk C.ts q).text kk hkk
          rw [hlv] at hlv'
          have hlv2 : (levI (Hs.tk C.ts q).text != (kk : Int)) = true := hlv'
          rw [hlv, Bool.and_false, if_neg (by simp)] at hr1
          have HR1 := mkHid hr1
          have e112 : (((Hs.tk C.ts q).sort : Int) != 112) = false := by rw [hso]; rfl
          clear hr1 hq hrep hlv hlv' hso
          go_wp2_with fail
          refine HP.out.mono ?_
          rw [tokV]
          rintro e w5 ⟨rfl, hb5⟩
          go_wp2_with (go_at_call 197; refine (levelOf_any _ _).mono ?_; rintro e w' ⟨rfl, hw⟩; obtain rfl := hw.symm)
          go_ret
          have hB := hb5.alloc hb5.size (.cells #[.int .u8 (Hs.tk C.ts q).sort, .string (bs (Hs.tk C.ts q).text), .int .i64 (Hs.tk C.ts q).line] 158)
          refine ⟨HF0.out.trans_below hB, by rw [HR1.out]; exact HQ.out.below hB, b0, rfl, fun a' q' h => ?_⟩
          rw [HR1.out] at h
          cases h
          exact HREP.out.grow (fun k _ hk => hB.block k hk) (Nat.le_refl _) hB.size
        · have hlv' := levI_eq (Hs.tk C.ts q).text kk hkk
          rw [hlv] at hlv'
          have hlv2 : (levI (Hs.tk C.ts q).text != (kk : Int)) = false := hlv'
          have e112' : ((Hs.tk C.ts q).sort == 112) = true := by simp [hso]
          rw [hlv, e112', Bool.and_true, if_pos rfl] at hr1
          have HR1 := mkHid hr1
          have e112 : (((Hs.tk C.ts q).sort : Int) != 112) = false := by rw [hso]; rfl
          clear hr1 hq hrep hlv hlv' hso e112'
          go_wp2_with fail
          refine HP.out.mono ?_
          rw [tokV]
          rintro e w5 ⟨rfl, hb5⟩
          obtain ⟨hl5, -, -, d1, d2, fz⟩ := HQ.out.cells hb5
          have fz1 := (fz 1).2
          have HB5 := mkHid hb5
          clear fz hb5 HP
          go_wp2_with (go_at_call 197; refine (levelOf_any _ _).mono ?_; rintro e w' ⟨rfl, hw⟩; obtain rfl := hw.symm)
          have HST := mkHid (HQ.out.step HB5.out hp1)
          have hE0 : onS (.ok (q + 1)) L ≠ .error 0 := fun e => HR0.out (by
            rw [HR1.out, show L (q + 1) = .error 0 from e])
          have hBT := fun o => (Below.refl (w5.setCell ⟨C.pb, 1, none⟩ (.int .i64 ((q : Int) + 1))).heap.size _).alloc (Nat.le_refl _) o
          have HBT := mkHid hBT
          have HE0 := mkHid hE0
          clear hE0 hBT
          refine (HEE.out _ (.ok (q + 1)) (HST.out.1.below (HBT.out _)) HE0.out).mono ?_
          rintro e w7 ⟨hfr7, hat7, b7, rfl, hrep7⟩
          have ht7 : ∀ i, w7.cell? ⟨w5.heap.size, i, none⟩ = _ := fun i => (hfr7.cells (b := w5.heap.size) (by simp) (by omega)).1 i
          have t1 := ht7 1
          have t2 := ht7 2
          have hz7 : w5.heap.size < w7.heap.size := by have := hfr7.size; simp at this; omega
          have HX7 := mkHid (And.intro hfr7 (And.intro hat7 hrep7))
          clear hfr7 hat7 hrep7 ht7 d1 d2 fz1
          have hfin : ∀ (i : Hs.Ast) (q2 : Nat), L (q + 1) = .ok (i, q2) → Rep (Btw w.heap.size (w7.heap.size + 2)) ((w7.alloc (.cells #[.pointer (some ⟨b0, 0, none⟩), .pointer (some ⟨b7, 0, none⟩)] 25)).alloc (.cells #[.string (bs (Hs.tk C.ts q).text), .int .i64 (Hs.tk C.ts q).line, .string (bs []), .slice (some ⟨w7.heap.size, 0, none⟩) 2 2] 92)) (.pointer (some ⟨w7.heap.size + 1, 0, none⟩)) (Hs.node (Hs.tk C.ts q).text (Hs.tk C.ts q).line [] [a, i]) := fun i q2 hq2 => by
            obtain ⟨hfr7, hat7, hrep7⟩ := HX7.out
            have hfr := (HST.out.2.trans_below (HBT.out _)).trans hfr7
            have hs7 := hfr.size
            refine node_two _ [] _ (HREP.out.grow (fun k hk1 hk2 => hfr.block k hk2 (by omega)) (Nat.le_refl _) (by omega)) ((hrep7 i q2 hq2).mono fun k hk => ⟨?_, hk.2⟩) (by omega)
            have := hk.1
            have hs5 := HB5.out.size
            simp at this; omega
          have HFIN := mkHid hfin
          clear hfin
          by_cases hk2 : kk = 2
          · have ek : ((kk : Int) == 2) = true := by simp; omega
            go_wp2_with fail
            go_ret
            obtain ⟨hfr7, hat7, hrep7⟩ := HX7.out
            refine ⟨((HF0.out.trans (HST.out.2.trans_below (HBT.out _))).trans hfr7).trans_below (Below.two _ _), ?_, _, rfl, ?_⟩
            · have hr2 := HR1.out
              rw [show onS (.ok (q + 1)) L = L (q + 1) from rfl] at hat7
              cases hE : L (q + 1) with
              | error l => rw [hE] at hr2 hat7; rw [hr2]; exact hat7.below (Below.two _ _)
              | ok iq => obtain ⟨i, q2⟩ := iq; rw [hE] at hr2 hat7; simp only [hk2, if_true] at hr2; rw [hr2]; exact hat7.below (Below.two _ _)
            · intro a' q' h
              have hr2 := HR1.out
              cases hE : L (q + 1) with
              | error l => rw [hE] at hr2; rw [hr2] at h; cases h
              | ok iq =>
                obtain ⟨i, q2⟩ := iq
                rw [hE] at hr2; simp only [hk2, if_true] at hr2; rw [hr2] at h
                cases h
                exact (HFIN.out i _ hE).mono fun k hk => ⟨hk.1, by have := hk.2; simp; omega⟩
          · have ek : ((kk : Int) == 2) = false := by simp; omega
            go_wp2_with fail
            go_roundg k
            case measure => omega
            case rel =>
              obtain ⟨hfr7, hat7, hrep7⟩ := HX7.out
              refine ⟨((HF0.out.trans (HST.out.2.trans_below (HBT.out _))).trans hfr7).trans_below (Below.two _ _), w7.heap.size + 1, rfl, ?_⟩
              have hr2 := HR1.out
              rw [show onS (.ok (q + 1)) L = L (q + 1) from rfl] at hat7
              cases hE : L (q + 1) with
              | error l => rw [hE] at hr2 hat7; exact Or.inr ⟨l, hr2, hat7.below (Below.two _ _)⟩
              | ok iq =>
                obtain ⟨i, q2⟩ := iq
                rw [hE] at hr2 hat7
                simp only [hk2, if_false] at hr2
                exact Or.inl ⟨_, q2, hat7.below (Below.two _ _), hr2, (HFIN.out i _ hE).mono fun k hk => ⟨hk.1, by have := hk.2; simp; omega⟩⟩
      · have e112 : (((Hs.tk C.ts q).sort : Int) != 112) = true := by simp; omega
        have e1 : ((Hs.tk C.ts q).sort == 112) = false := by simpa using hso
        rw [e1, Bool.false_and, if_neg (by simp)] at hr1
        have HR1 := mkHid hr1
        clear hr1 hq hrep hso e1
        go_wp2_with fail
        refine HP.out.mono ?_
        rw [tokV]
        rintro e w5 ⟨rfl, hb5⟩
        go_wp2_with fail
        go_ret
        have hB := hb5.alloc hb5.size (.cells #[.int .u8 (Hs.tk C.ts q).sort, .string (bs (Hs.tk C.ts q).text), .int .i64 (Hs.tk C.ts q).line] 158)
        refine ⟨HF0.out.trans_below hB, by rw [HR1.out]; exact HQ.out.below hB, b0, rfl, fun a' q' h => ?_⟩
        rw [HR1.out] at h
        cases h
        exact HREP.out.grow (fun k _ hk => hB.block k hk) (Nat.le_refl _) hB.size
    · obtain ⟨hl1, c, hc0, hc2⟩ := AtS.bad hl
      have HL := mkHid hl
      have HR1 := mkHid hr1
      clear hl hr1
      go_wp2_with fail
      go_ret
      exact ⟨HF0.out, by rw [HR1.out]; exact HL.out, b0, rfl, fun a q h => by rw [HR1.out] at h; cases h⟩

end Go.Proofs.YtblbkfdhjfppkaaGreatDoor

/- Contracts of the document's answer: an expression. -/
namespace Go.Proofs.YtblbkfdhjfppkaaGreatDoor
open Go.RowKit

set_option maxRecDepth 100000 in
set_option maxHeartbeats 1000000 in
theorem level_five (C : Ctx) (E : Nat → Hs.R Hs.Ast) (HE : Reads C 83 E) : ReadsK C 5 (Hs.levelP E C.ts 0) := by
  intro w S h hr
  have HC := mkHid (unary_reads C E HE (C.ts.length + 1) w S h hr)
  clear HE h hr
  go_enter Tryz.func141, Tryz.ntmps141
  go_wp2_with fail
  refine HC.out.mono ?_
  intro e w1 hp
  obtain ⟨b, rfl⟩ : ∃ b, e = .returned (.pointer (some ⟨b, 0, none⟩)) := by obtain ⟨_, _, b, h, _⟩ := hp; exact ⟨b, h⟩
  have HP := mkHid hp
  clear hp
  go_wp2_with fail
  go_ret
  exact HP.out

theorem level_reads (C : Ctx) (E : Nat → Hs.R Hs.Ast) (HE : Reads C 83 E) : ∀ j, j ≤ 5 → ReadsK C (((5 - j : Nat)) : Int) (Hs.levelP E C.ts j)
  | 0, _ => level_five C E HE
  | j + 1, hj => by
    have ih := level_reads C E HE j (by omega)
    intro w S h hr
    rw [show (5 - (j + 1)) = 4 - j by omega]
    rw [show (((5 - j : Nat)) : Int) = ((4 - j : Nat) : Int) + 1 by omega] at ih
    have e : onS S (Hs.levelP E C.ts (j + 1)) = Hs.bindR (onS S (Hs.levelP E C.ts j)) (Hs.levelLoop (Hs.levelP E C.ts j) C.ts (4 - j) (C.ts.length + 1)) := by
      cases S <;> rfl
    exact level_step C (4 - j) (by omega) _ ih w S h _ e hr

set_option maxRecDepth 100000 in
set_option maxHeartbeats 1000000 in
theorem expr_step (C : Ctx) (E : Nat → Hs.R Hs.Ast) (HE : Reads C 83 E) : Reads C 83 (Hs.levelP E C.ts 5) := by
  intro w S h hr
  have HC := mkHid (level_reads C E HE 5 (Nat.le_refl _) w S h hr)
  clear HE h hr
  go_enter Tryz.func83, Tryz.ntmps83
  go_wp2_with fail
  refine HC.out.mono ?_
  intro e w1 hp
  obtain ⟨b, rfl⟩ : ∃ b, e = .returned (.pointer (some ⟨b, 0, none⟩)) := by obtain ⟨_, _, b, h, _⟩ := hp; exact ⟨b, h⟩
  have HP := mkHid hp
  clear hp
  go_wp2_with fail
  go_ret
  exact HP.out

/-- A fault that is there already. -/
def ErInv (C : Ctx) (l : Nat) (w : World) (_ : Nat) (v : Value) (wr : World) : Prop := Fr C.pb w wr ∧ AtS C wr (.error l) ∧ ∃ b, v = .pointer (some ⟨b, 0, none⟩)

theorem PostN.er {C : Ctx} {w w' : World} {l b : Nat} (hf : Fr C.pb w w') (hat : AtS C w' (.error l)) : PostN C w (.error l) (.returned (.pointer (some ⟨b, 0, none⟩))) w' := ⟨hf, hat, b, rfl, fun a q h => by cases h⟩

set_option maxRecDepth 100000 in
set_option maxHeartbeats 1000000 in
theorem unary_er (C : Ctx) (w : World) (l : Nat) (h : AtS C w (.error l)) :
    Calls Tryz.prog 196 #[.pointer (some ⟨C.pb, 0, none⟩)] w (PostN C w (.error l)) := by
  have HP := mkHid (peek_S C w (.error l) h)
  have HA := mkHid h
  have hfl := fld_line
  clear h
  go_enter Tryz.func196, Tryz.ntmps196
  go_wp2_with fail
  refine HP.out.mono ?_
  rintro e w1 ⟨⟨t, rfl, -⟩, hb⟩
  have HA1 := mkHid (HA.out.below hb)
  have HF1 := mkHid (Fr.below (pb := C.pb) hb)
  clear hb HP
  go_wp2_with fail
  refine (eat_S C _ (.error l) ⟨#[45]⟩ HA1.out).mono ?_
  rw [eatS_er, isS_er]
  rintro e w2 ⟨rfl, hat2, hfr2⟩
  have HA2 := mkHid hat2
  have HF2 := mkHid (HF1.out.trans hfr2)
  clear hat2 hfr2 HA1 HF1
  go_wp2_with fail
  refine (eat_S C _ (.error l) ⟨#[33]⟩ HA2.out).mono ?_
  rw [eatS_er, isS_er]
  rintro e w3 ⟨rfl, hat3, hfr3⟩
  have HA3 := mkHid hat3
  have HF3 := mkHid (HF2.out.trans hfr3)
  clear hat3 hfr3 HA2 HF2
  go_wp2_with fail
  refine (primary_er C w3 l HA3.out).mono ?_
  rintro e w4 ⟨hfr4, hat4, b4, rfl, -⟩
  have HF4 := mkHid (HF3.out.trans hfr4)
  have HX4 := mkHid hat4
  clear hat4 hfr4
  go_wp2_with fail
  go_loopg [8] 0 (fun k v wr => ErInv C l w k v wr)
  case atStart => exact ⟨HF4.out, HX4.out, b4, rfl⟩
  case round =>
    obtain ⟨hf0, hl, b0, rfl⟩ := hrel
    have HIS := mkHid (is_S C wr (.error l) ⟨#[91]⟩ hl)
    have HL := mkHid hl
    have HF0 := mkHid hf0
    clear hl hf0
    go_wp2_with fail
    refine HIS.out.mono ?_
    rw [isS_er]
    rintro e w5 ⟨rfl, hb5⟩
    go_wp2_with fail
    go_ret
    exact PostN.er (HF0.out.trans_below hb5) (HL.out.below hb5)

set_option maxRecDepth 100000 in
set_option maxHeartbeats 1000000 in
theorem level_er5 (C : Ctx) (w : World) (l : Nat) (h : AtS C w (.error l)) :
    Calls Tryz.prog 141 #[.pointer (some ⟨C.pb, 0, none⟩), .int .i64 5] w (PostN C w (.error l)) := by
  have HC := mkHid (unary_er C w l h)
  clear h
  go_enter Tryz.func141, Tryz.ntmps141
  go_wp2_with fail
  refine HC.out.mono ?_
  intro e w1 hp
  obtain ⟨b, rfl⟩ : ∃ b, e = .returned (.pointer (some ⟨b, 0, none⟩)) := by obtain ⟨_, _, b, h, _⟩ := hp; exact ⟨b, h⟩
  have HP := mkHid hp
  clear hp
  go_wp2_with fail
  go_ret
  exact HP.out

set_option maxRecDepth 100000 in
set_option maxHeartbeats 1000000 in
theorem level_er_step (C : Ctx) (l kk : Nat) (hkk : kk ≤ 4) (ih : ∀ w, AtS C w (.error l) → Calls Tryz.prog 141 #[.pointer (some ⟨C.pb, 0, none⟩), .int .i64 ((kk : Int) + 1)] w (PostN C w (.error l))) (w : World) (h : AtS C w (.error l)) :
    Calls Tryz.prog 141 #[.pointer (some ⟨C.pb, 0, none⟩), .int .i64 kk] w (PostN C w (.error l)) := by
  have HC := mkHid (ih w h)
  clear h ih
  go_enter Tryz.func141, Tryz.ntmps141
  go_wp2_with fail
  refine HC.out.mono ?_
  rintro e w4 ⟨hfr4, hat4, b4, rfl, -⟩
  have HF4 := mkHid hfr4
  have HX4 := mkHid hat4
  clear hat4 hfr4 HC
  go_wp2_with fail
  go_loopg [5] 0 (fun k v wr => ErInv C l w k v wr)
  case atStart => exact ⟨HF4.out, HX4.out, b4, rfl⟩
  case round =>
    obtain ⟨hf0, hl, b0, rfl⟩ := hrel
    obtain ⟨hl1, c, hc0, hc2⟩ := AtS.bad hl
    have HL := mkHid hl
    have HF0 := mkHid hf0
    clear hl hf0
    go_wp2_with fail
    go_ret
    exact PostN.er HF0.out HL.out

theorem level_er (C : Ctx) (l : Nat) : ∀ j, j ≤ 5 → ∀ w, AtS C w (.error l) → Calls Tryz.prog 141 #[.pointer (some ⟨C.pb, 0, none⟩), .int .i64 (((5 - j : Nat)) : Int)] w (PostN C w (.error l))
  | 0, _ => fun w h => level_er5 C w l h
  | j + 1, hj => by
    have ih := level_er C l j (by omega)
    intro w h
    rw [show (5 - (j + 1)) = 4 - j by omega]
    rw [show (((5 - j : Nat)) : Int) = ((4 - j : Nat) : Int) + 1 by omega] at ih
    exact level_er_step C l (4 - j) (by omega) ih w h

set_option maxRecDepth 100000 in
set_option maxHeartbeats 1000000 in
theorem expr_er (C : Ctx) (w : World) (l : Nat) (h : AtS C w (.error l)) :
    Calls Tryz.prog 83 #[.pointer (some ⟨C.pb, 0, none⟩)] w (PostN C w (.error l)) := by
  have HC := mkHid (level_er C l 5 (Nat.le_refl _) w h)
  clear h
  go_enter Tryz.func83, Tryz.ntmps83
  go_wp2_with fail
  refine HC.out.mono ?_
  intro e w1 hp
  obtain ⟨b, rfl⟩ : ∃ b, e = .returned (.pointer (some ⟨b, 0, none⟩)) := by obtain ⟨_, _, b, h, _⟩ := hp; exact ⟨b, h⟩
  have HP := mkHid hp
  clear hp
  go_wp2_with fail
  go_ret
  exact HP.out

/-- An expression, to any depth. -/
theorem expr_reads (C : Ctx) (f : Nat) : Reads C 83 (Hs.exprP C.ts f) := by
  induction f with
  | zero =>
    intro w S h hr
    cases S with
    | ok p => exact absurd rfl hr
    | error l => exact expr_er C w l h
  | succ f ih => exact expr_step C _ ih

end Go.Proofs.YtblbkfdhjfppkaaGreatDoor

/- Contracts of the document's answer: a node that gets its parts one by one; a block. -/
namespace Go.Proofs.YtblbkfdhjfppkaaGreatDoor
open Go.RowKit
attribute [local go_sem ↓] Go.wp_at_zero Go.wp_at_succ

/-- A node in the making: its block, its parts so far. -/
structure Made (nb : Nat) (w : World) (op te : List UInt8) (li : Nat) (v : Value) (acc : List Hs.Ast) : Prop where
  blk : w.heap[nb]? = some (.cells #[.string (bs op), .int .i64 li, .string (bs te), v] 92 (0, 0))
  lst : Lst (nb + 1) w v acc

theorem Made.keep {nb pb : Nat} {w w1 : World} {op te : List UInt8} {li : Nat} {v : Value} {acc : List Hs.Ast} (h : Made nb w op te li v acc) (hf : Fr pb w w1) (hp : pb < nb) : Made nb w1 op te li v acc :=
  ⟨by rw [hf.block nb (lt_of_block h.blk) (by omega)]; exact h.blk, h.lst.keep hf (by omega)⟩

/-- A node that is made is a tree. -/
theorem Made.rep {nb lo : Nat} {w : World} {op te : List UInt8} {li : Nat} {v : Value} {acc : List Hs.Ast} (h : Made nb w op te li v acc) (hlo : lo ≤ nb) : Rep (Btw lo w.heap.size) w (.pointer (some ⟨nb, 0, none⟩)) (Hs.node op li te acc) :=
  Rep.mk ⟨hlo, lt_of_block h.blk⟩ h.blk (h.lst.kid.mono fun k hk => ⟨by have := hk.1; omega, hk.2⟩)

/-- One part more: behind the call that gave it, the append and the store. -/
theorem Made.snoc {nb pb : Nat} {wr w3 wa w4 : World} {op te : List UInt8} {li : Nat} {v : Value} {acc : List Hs.Ast} {cv : Value} {g cap : Nat} {vs : List Value} {F : Nat → Prop} (h : Made nb wr op te li v acc) (hf : Fr pb wr w3) (hp : pb < nb)
    (h2 : All2 (Rep F w3) vs acc) (h3 : ∀ b, F b → nb + 1 ≤ b ∧ b < w3.heap.size ∧ v.ownBlock ≠ some b) (hwa : ∀ k, k < w3.heap.size → wa.heap[k]? = w3.heap[k]?) (hsz : w3.heap.size ≤ wa.heap.size)
    (hown : w4.ownsRow (nb + 1) 25 1 (.slice (some ⟨g, 0, none⟩) (acc.length + 1) cap) (acc.length + 1) (vs ++ [cv])) (hgrow : wa.grownBy w4 v.ownBlock) (hat : v.ownBlock = some g ∨ w3.heap.size ≤ g)
    (a : Hs.Ast) (hr : Rep (Btw wr.heap.size w3.heap.size) w3 cv a) :
    Made nb (w4.setCell ⟨nb, 3, none⟩ (.slice (some ⟨g, 0, none⟩) (acc.length + 1) cap)) op te li (.slice (some ⟨g, 0, none⟩) (acc.length + 1) cap) (acc ++ [a]) := by
  have hnb := lt_of_block h.blk
  obtain ⟨vs0, F0, ho0, _, _⟩ := h.lst
  have hge := own_block_ge ho0
  have hlt := own_block_lt ho0
  have hblk4 : w4.heap[nb]? = some (.cells #[.string (bs op), .int .i64 li, .string (bs te), v] 92 (0, 0)) := by
    have := hf.size
    rw [hgrow.block nb (by omega) (fun e => by have := hge nb e.symm; omega), hwa nb (by omega), hf.block nb hnb (by omega)]; exact h.blk
  have hls := Lst.snoc (lo := wr.heap.size) h2 h3 hr (by omega) hlt hwa hsz hown hgrow hat
  refine ⟨by rw [heap_setCell_at hblk4]; rfl, ?_⟩
  obtain ⟨us, G, k1, k2, k3⟩ := hls
  have hset : ∀ k, nb + 1 ≤ k → (w4.setCell ⟨nb, 3, none⟩ (.slice (some ⟨g, 0, none⟩) (acc.length + 1) cap)).heap[k]? = w4.heap[k]? := fun k hk => Below.heap_setCell _ _ _ _ (by show k ≠ nb; omega)
  exact ⟨us, G, ownsRow_keep k1 fun k hk => hset k (own_block_ge k1 k hk), k2.mono fun _ _ h => h.keep fun b hb => hset b (k3 b hb).1, fun b hb => by rw [size_set]; exact k3 b hb⟩

/-- A pointer to be appended lies in a block of its own. -/
theorem news_ptr (w : World) (b : Nat) : ∀ j u, ([.pointer (some ⟨b, 0, none⟩)] : List Value)[j]? = some u → (w.alloc (.cells #[.pointer (some ⟨b, 0, none⟩)] 25)).cell? ((⟨w.heap.size, 0, none⟩ : Addr).add j) = some u := by
  intro j u hj
  match j, hj with
  | 0, hj => simp at hj; subst hj; simp [Addr.add, go_sem]
  | j + 1, hj => simp at hj
theorem one_ptr (b : Nat) : ∀ u ∈ ([.pointer (some ⟨b, 0, none⟩)] : List Value), u.oneCell' = true := by
  intro u hu; simp at hu; subst hu; rfl

/-- A node's block is none of its parts' row. -/
theorem node_grown {nb : Nat} {w4 w5 : World} {o : Obj} {v0 v1 v2 v v' : Value} {n : Nat} {vs : List Value} (hb : w4.heap[nb]? = some (.cells #[v0, v1, v2, v] 92 (0, 0))) (hown : w4.ownsRow (nb + 1) 25 1 v' n vs) (hg : (w4.alloc o).grownBy w5 v'.ownBlock) :
    w5.heap[nb]? = some (.cells #[v0, v1, v2, v] 92 (0, 0)) := by
  have hlt := lt_of_block hb
  rw [hg.block nb (by simp; omega) (fun e => by have := own_block_ge hown nb e.symm; omega)]
  exact heap_later _ _ hlt _ hb

/-- A node behind 'its parts, and what was read': where the ways of that statement meet. -/
structure Kidded (C : Ctx) (w0 : World) (nb : Nat) (op te : List UInt8) (li : Nat) (acc : List Hs.Ast) (r : Hs.R Hs.Ast) (wc : World) : Prop where
  fr : Fr C.pb w0 wc
  at_ : AtS C wc (stR r)
  blk : ∃ x n c, wc.heap[nb]? = some (.cells #[.string (bs op), .int .i64 li, .string (bs te), .slice x n c] 92 (0, 0)) ∧ ∀ a q, r = .ok (a, q) → Made nb wc op te li (.slice x n c) (acc ++ [a])

theorem kid_end {C : Ctx} {w0 wX w4 w5 : World} {nb : Nat} {op te : List UInt8} {li : Nat} {acc : List Hs.Ast} {r : Hs.R Hs.Ast} {x : Option Addr} {n c b4 g cap : Nat} {vs : List Value} {F : Nat → Prop} (hF : Fr C.pb w0 wX) (hm : Made nb wX op te li (.slice x n c) acc) (hp : C.pb < nb) (hg : C.g < nb) (hw : w0.heap.size ≤ nb)
    (hfr4 : Fr C.pb wX w4) (hat4 : AtS C w4 (stR r)) (hrep4 : ∀ a q, r = .ok (a, q) → Rep (Btw wX.heap.size w4.heap.size) w4 (.pointer (some ⟨b4, 0, none⟩)) a)
    (hown : w4.ownsRow (nb + 1) 25 1 (.slice x n c) acc.length vs) (hall : All2 (Rep F w4) vs acc) (hFF : ∀ b, F b → nb + 1 ≤ b ∧ b < w4.heap.size ∧ (Value.slice x n c).ownBlock ≠ some b)
    (hown5 : w5.ownsRow (nb + 1) 25 1 (.slice (some ⟨g, 0, none⟩) (acc.length + 1) cap) (acc.length + 1) (vs ++ [.pointer (some ⟨b4, 0, none⟩)]))
    (hgrow5 : (w4.alloc (.cells #[.pointer (some ⟨b4, 0, none⟩)] 25)).grownBy w5 (Value.slice x n c).ownBlock) (hat5 : (Value.slice x n c).ownBlock = some g ∨ g = w4.heap.size + 1) :
    Kidded C w0 nb op te li acc r (w5.setCell ⟨nb, 3, none⟩ (.slice (some ⟨g, 0, none⟩) (acc.length + 1) cap)) := by
  have hge : ∀ k, (Value.slice x n c).ownBlock = some k → nb + 1 ≤ k := own_block_ge hown
  have hM4 := hm.keep hfr4 hp
  have hB5 := node_grown hM4.blk hown hgrow5
  refine ⟨?_, ?_, _, _, _, by rw [heap_setCell_at hB5]; rfl, fun a q ha => ?_⟩
  · exact Fr.setCell (((hF.trans hfr4).alloc _).grown hgrow5 (fun k hk => by have := hge k hk; omega)) (Or.inr hw) _
  · exact ((hat4.alloc _).grown (base := nb + 1) hgrow5 hge (by omega) (by omega)).other (by omega) (by omega) _
  · exact Made.snoc hm hfr4 hp hall hFF (fun k hk => Below.heap_alloc _ _ _ hk) (by simp) hown5 hgrow5 (hat5.imp_right (fun e => by omega)) a (hrep4 a q ha)

/-- What holds at the head of a block's loop. -/
def BlockInv (C : Ctx) (X : Nat → Hs.R Hs.Ast) (w : World) (nb li : Nat) (r : Hs.R (List Hs.Ast)) (k : Nat) (wr : World) : Prop :=
  Fr C.pb w wr ∧ nb < wr.heap.size ∧
  ((∃ q acc x n c, At C wr q 0 ∧ r = Hs.blockLoop X C.ts k q acc ∧ acc.length + k ≤ 4000 ∧ Made nb wr [98, 108, 111, 99, 107] [] li (.slice x n c) acc) ∨ (∃ l, r = .error l ∧ AtS C wr (.error l)))

/-- The end of a block: the brace that shuts it. -/
theorem block_end {C : Ctx} {w w2 w3 wS : World} {S : Except Nat Nat} {r0 r : Hs.R (List Hs.Ast)} {X : Nat → Hs.R (List Hs.Ast)} {nb li : Nat} {t : Hs.Tok} (hr : r = Hs.thenTake C.ts [125] r0) (hf : Fr C.pb w w2) (hat : AtS C w3 (takeS C (stR r0) [125])) (hfr : Fr C.pb w2 w3)
    (hrow : ∀ ks q, r0 = .ok (ks, q) → ∃ v, Made nb w2 [98, 108, 111, 99, 107] [] t.line v ks) (hpb : C.pb < nb) (hnb : w.heap.size ≤ nb) (ht : ∀ q, S = .ok q → t = Hs.tk C.ts q) (hli : ∀ q, S = .ok q → li = (Hs.tk C.ts q).line) (_hS : AtS C wS S) (h0 : r0 = onS (takeS C S [123]) X) :
    PostN C w (Hs.mapR (Hs.node [98, 108, 111, 99, 107] li []) r) (.returned (.pointer (some ⟨nb, 0, none⟩))) w3 := by
  subst hr
  have e : stR (Hs.mapR (Hs.node [98, 108, 111, 99, 107] li []) (Hs.thenTake C.ts [125] r0)) = stR (Hs.thenTake C.ts [125] r0) := by cases Hs.thenTake C.ts [125] r0 <;> rfl
  refine ⟨hf.trans hfr, by rw [e, ← takeS_then]; exact hat, nb, rfl, fun a q ha => ?_⟩
  cases hx : Hs.thenTake C.ts [125] r0 with
  | error l => rw [hx] at ha; cases ha
  | ok kq =>
    obtain ⟨ks, q'⟩ := kq
    rw [hx] at ha
    cases ha
    obtain ⟨q2, hq2⟩ := thenTake_ok hx
    obtain ⟨v, hm⟩ := hrow ks q2 hq2
    have hle : li = t.line := by
      cases S with
      | error l => rw [h0] at hq2; cases hq2
      | ok q => rw [ht q rfl, hli q rfl]
    rw [hle]
    exact (hm.keep hfr hpb).rep hnb

set_option maxRecDepth 100000 in
set_option maxHeartbeats 2000000 in
theorem block_S (C : Ctx) (X : Nat → Hs.R Hs.Ast) (HE : Reads C 260 X) (w : World) (S : Except Nat Nat) (h : AtS C w S) (li : Nat) (hli : Hid (∀ q, S = .ok q → li = (Hs.tk C.ts q).line)) (r0 r : Hs.R (List Hs.Ast))
    (h0 : Hid (r0 = onS (takeS C S [123]) fun q => Hs.blockLoop X C.ts (C.ts.length + 1) q [])) (h1 : Hid (r = Hs.thenTake C.ts [125] r0)) (hr : r0 ≠ .error 0) :
    Calls Tryz.prog 202 #[.pointer (some ⟨C.pb, 0, none⟩)] w (PostN C w (Hs.mapR (Hs.node [98, 108, 111, 99, 107] li []) r)) := by
  obtain ⟨hpb, hgb, hlen⟩ := h.facts
  obtain ⟨i0, hi, hz0, hz1, hz2⟩ := info_parts infoPtr
  have HP := mkHid (peek_S C w S h)
  have HA := mkHid h
  have HEE := mkHid HE
  have HR0 := mkHid hr
  have hfl := fld_line
  clear h HE hr
  go_enter Tryz.func202, Tryz.ntmps202
  go_wp2_with fail
  refine HP.out.mono ?_
  rintro e w1 ⟨⟨t, rfl, ht⟩, hb⟩
  have HT := mkHid ht
  have HA1 := mkHid (fun o => (HA.out.below hb).alloc o)
  have HF1 := mkHid (fun o => (Fr.below (pb := C.pb) hb).alloc o)
  have hsz1 := hb.size
  clear hb HP ht
  go_wp2_with fail
  refine (take_S C _ S ⟨#[123]⟩ (HA1.out _)).mono ?_
  rintro e w2 ⟨rfl, hat2, hfr2⟩
  have hblk2 := (hfr2.block w1.heap.size (by simp) (by omega)).trans (heap_first w1 _ rfl _)
  have HB2 := mkHid hblk2
  have HA2 := mkHid hat2
  have HF2 := mkHid ((HF1.out _).trans hfr2)
  clear hblk2 hat2 hfr2
  go_wp2_with fail
  go_loopg [] (C.ts.length + 1) (fun k wr => BlockInv C X w w1.heap.size t.line r0 k wr)
  case atStart =>
    refine ⟨HF2.out, lt_of_block HB2.out, ?_⟩
    cases hS : takeS C S [123] with
    | error l =>
      have e := h0.out
      rw [hS] at e
      have h2 := HA2.out
      rw [show takeS C S (⟨#[123]⟩ : ByteArray).data.toList = .error l from hS] at h2
      exact Or.inr ⟨l, e, h2⟩
    | ok q =>
      have e := h0.out
      rw [hS] at e
      have h2 := HA2.out
      rw [show takeS C S (⟨#[123]⟩ : ByteArray).data.toList = .ok q from hS] at h2
      exact Or.inl ⟨q, [], none, 0, 0, h2, e, by simp; omega, ⟨HB2.out, Lst.nil _ _⟩⟩
  case round =>
    obtain ⟨hf0, hnb, hrel⟩ := hrel
    have HF0 := mkHid hf0
    have hsz0 := hf0.size
    clear hf0 HF2 HA2 HB2 HA1 HF1
    rcases hrel with ⟨q, acc, x, n, c, hq, hr1, hal, hmd⟩ | ⟨l, hr1, hl⟩
    · obtain ⟨k, rfl⟩ : ∃ k, gk = k + 1 := by
        cases gk with
        | zero => exact absurd hr1 HR0.out
        | succ k => exact ⟨k, rfl⟩
      rw [Hs.blockLoop] at hr1
      obtain ⟨hl1, hc2⟩ := hq.good
      have HQ := mkHid hq
      have HM := mkHid hmd
      have HIS := is_S C wr (.ok q) ⟨#[125]⟩ hq
      cases hi125 : Hs.isT C.ts q [125]
      · rw [show isS C (.ok q) (⟨#[125]⟩ : ByteArray).data.toList = false from hi125] at HIS
        have HIS' := mkHid HIS
        rw [hi125, if_neg (by simp)] at hr1
        have HR1 := mkHid hr1
        clear HIS hr1 hq hmd hi125
        go_wp2_with fail
        refine HIS'.out.mono ?_
        rintro e w3 ⟨rfl, hb3⟩
        have hM3 := HM.out.keep (Fr.below (pb := C.pb) hb3) (by omega)
        have hE0 : onS (.ok q) X ≠ .error 0 := fun e => HR0.out (by rw [HR1.out, show X q = .error 0 from e])
        have HC := mkHid (HEE.out w3.drew (.ok q) (HQ.out.below hb3.drew) hE0)
        obtain ⟨hm0, m0, m1, m2, m3, k0, k2, k3⟩ := node_cells hM3.blk
        have HM3 := mkHid (hM3.keep (Fr.refl C.pb w3).drew (by omega))
        have HF3 := mkHid (HF0.out.trans_below hb3.drew)
        clear hb3 hM3 hE0 m0 m1 m2 k0 k2 HIS'
        go_wp2_with fail
        go_region_law ((first | (refine step_append_lies _ (by rfl) _ _ 90 (by rfl) ((w1.heap.size) + 1) 25 i0 _ 1 8 Tryz.underlying90 hi hz0 hz1 hz2 rfl (by decide) (.slice x n c) (List.length (acc)) vs (by rfl) (hown.alloc _) ⟨w4.heap.size, 0, none⟩ 1 1 [.pointer (some ⟨b4, 0, none⟩)] (by rfl) (by rfl) (news_ptr _ _) (one_ptr _) (by decide) (by unfold maxLen; (try simp); omega) (by (try simp); omega) (by simp; omega) (w4.heap.size + 1) (by simp) ?_; intro g cap w5 hown5 hgrow5 hat5 hg5; have hB5 := node_grown hM4.blk hown hgrow5; obtain ⟨hz5, -, -, -, q3, -, -, e3⟩ := node_cells hB5) | (go_simp; go_at_call 260; refine HC.out.mono ?_; rintro e w4 ⟨hfr4, hat4, b4, rfl, hrep4⟩; have hM4 := HM3.out.keep hfr4 (by omega); obtain ⟨hz4, -, -, -, p3, -, -, f3⟩ := node_cells hM4.blk; obtain ⟨vs, F, hown, hall, hFF⟩ := hM4.lst)))
        all_goals
          have hcut : Kidded C w w1.heap.size [98, 108, 111, 99, 107] [] t.line acc (X q) _ := kid_end HF3.out HM3.out (by omega) (by omega) (by omega) hfr4 hat4 hrep4 hown hall hFF hown5 hgrow5 hat5
          have HCUT := mkHid hcut
          clear hcut hfr4 hat4 hrep4 hown hall hFF hown5 hgrow5 hat5 hM4 hB5
          go_wp2_with fail
          go_roundg k
          case measure => omega
          case rel =>
            obtain ⟨hfc, hatc, xc, nc, cc, hbc, hmc⟩ := HCUT.out
            refine ⟨hfc, lt_of_block hbc, ?_⟩
            have hr2 := HR1.out
            cases hE : X q with
            | error l => rw [hE] at hr2 hatc; exact Or.inr ⟨l, hr2, hatc⟩
            | ok aq =>
              obtain ⟨a, q1⟩ := aq
              rw [hE] at hr2 hatc
              exact Or.inl ⟨q1, acc ++ [a], xc, nc, cc, hatc, hr2, by simp; omega, hmc a q1 hE⟩
      · rw [show isS C (.ok q) (⟨#[125]⟩ : ByteArray).data.toList = true from hi125] at HIS
        have HIS' := mkHid HIS
        rw [hi125, if_pos rfl] at hr1
        have HR1 := mkHid hr1
        clear HIS hr1 hq hmd hi125
        go_wp2_with fail
        refine HIS'.out.mono ?_
        rintro e w3 ⟨rfl, hb3⟩
        have HTK := mkHid (take_S C w3 (.ok q) ⟨#[125]⟩ (HQ.out.below hb3))
        have HB3 := mkHid hb3
        clear hb3
        go_wp2_with fail
        refine HTK.out.mono ?_
        rintro e w4 ⟨rfl, hat4, hfr4⟩
        go_wp2_with fail
        go_ret
        refine block_end h1.out (HF0.out.trans_below HB3.out) (by rw [HR1.out]; exact hat4) hfr4 (fun ks q' hk => ?_) (by omega) (by omega) HT.out hli.out HA.out h0.out
        rw [HR1.out] at hk
        cases hk
        exact ⟨_, HM.out.keep (Fr.below (pb := C.pb) HB3.out) (by omega)⟩
    · obtain ⟨hl1, cc, hc0, hc2⟩ := AtS.bad hl
      have HTK := mkHid (take_S C wr (.error l) ⟨#[125]⟩ hl)
      have HR1 := mkHid hr1
      clear hl hr1
      go_wp2_with fail
      refine HTK.out.mono ?_
      rintro e w4 ⟨rfl, hat4, hfr4⟩
      go_wp2_with fail
      go_ret
      refine block_end h1.out HF0.out (by rw [HR1.out]; exact hat4) hfr4 (fun ks q' hk => ?_) (by omega) (by omega) HT.out hli.out HA.out h0.out
      rw [HR1.out] at hk
      cases hk

def lineS (C : Ctx) (S : Except Nat Nat) : Nat :=
  match S with
  | .ok q => (Hs.tk C.ts q).line
  | .error _ => 0

/-- A block: its function reads what the plain function reads. -/
theorem block_reads (C : Ctx) (E : Nat → Hs.R Hs.Ast) (f : Nat) (HE : Reads C 260 (Hs.stmtP E (Hs.blockP E C.ts f) C.ts)) : Reads C 202 (Hs.blockP E C.ts (f + 1)) := by
  intro w S h hr
  have e : onS S (Hs.blockP E C.ts (f + 1)) = Hs.mapR (Hs.node [98, 108, 111, 99, 107] (lineS C S) []) (Hs.thenTake C.ts [125] (onS (takeS C S [123]) fun q => Hs.blockLoop (Hs.stmtP E (Hs.blockP E C.ts f) C.ts) C.ts (C.ts.length + 1) q [])) := by
    cases S with
    | error l => rfl
    | ok q =>
      show Hs.blockP E C.ts (f + 1) q = _
      rw [Hs.blockP]
      cases hx : Hs.isT C.ts q [123]
      · rw [takeS_no hx]; rfl
      · rw [takeS_yes hx]; rfl
  rw [e] at hr ⊢
  refine block_S C _ HE w S h _ (fun q hq => by subst hq; rfl) _ _ rfl rfl fun h0 => hr ?_
  rw [h0]; rfl

end Go.Proofs.YtblbkfdhjfppkaaGreatDoor

/- Contracts of the document's answer: parts of a node, whether there is a fault or not; a block where there is a fault. -/
namespace Go.Proofs.YtblbkfdhjfppkaaGreatDoor
open Go.RowKit

theorem ownsRow_one {w : World} {b : Nat} {e : TypeId} {size : Nat} {v : Value} {n m : Nat} {xs ys : List Value} (h : w.ownsRow b e size v n xs) (k : w.ownsRow b e size v m ys) : n = m ∧ xs = ys := by
  rcases h.2 with ⟨rfl, rfl⟩ | ⟨g, cap, cur, rfl, h2, h3, h4, h5, h6, h7⟩
  · rcases k.2 with ⟨_, rfl⟩ | ⟨g, cap, cur, k1, _⟩
    · exact ⟨rfl, by have a := h.1; have b := k.1; simp at a b; rw [a, b]⟩
    · cases k1
  · rcases k.2 with ⟨k1, _⟩ | ⟨g', cap', cur', k1, k2, k3, k4, k5, k6, k7⟩
    · cases k1
    · cases k1
      rw [h3] at k3
      cases k3
      exact ⟨rfl, by rw [← h7, ← k7]⟩

/-- A node in the making, of whose parts nothing is said. -/
structure Part (nb : Nat) (w : World) (op te : List UInt8) (li : Nat) (v : Value) (len : Nat) : Prop where
  blk : w.heap[nb]? = some (.cells #[.string (bs op), .int .i64 li, .string (bs te), v] 92 (0, 0))
  own : ∃ vs, w.ownsRow (nb + 1) 25 1 v len vs

theorem Part.keep {nb pb : Nat} {w w1 : World} {op te : List UInt8} {li : Nat} {v : Value} {len : Nat} (h : Part nb w op te li v len) (hf : Fr pb w w1) (hp : pb < nb) : Part nb w1 op te li v len := by
  obtain ⟨vs, ho⟩ := h.own
  exact ⟨by rw [hf.block nb (lt_of_block h.blk) (by omega)]; exact h.blk, vs, ownsRow_keep ho fun k hk => hf.block k (own_block_lt ho k hk) (by have := own_block_ge ho k hk; omega)⟩
theorem Made.part {nb : Nat} {w : World} {op te : List UInt8} {li : Nat} {v : Value} {acc : List Hs.Ast} (h : Made nb w op te li v acc) : Part nb w op te li v acc.length := by
  obtain ⟨vs, F, h1, _⟩ := h.lst
  exact ⟨h.blk, vs, h1⟩
theorem Part.slice {nb : Nat} {w : World} {op te : List UInt8} {li : Nat} {v : Value} {len : Nat} (h : Part nb w op te li v len) : ∃ x n c, v = .slice x n c := by
  obtain ⟨vs, h1⟩ := h.own
  rcases h1.2 with ⟨rfl, _⟩ | ⟨g, cap, cur, rfl, _⟩
  · exact ⟨_, _, _, rfl⟩
  · exact ⟨_, _, _, rfl⟩

/-- A node behind 'its parts, and what was read': where the ways of that statement meet. -/
structure Kid2 (C : Ctx) (w0 : World) (nb : Nat) (op te : List UInt8) (li : Nat) (acc : List Hs.Ast) (len : Nat) (r : Hs.R Hs.Ast) (wc : World) : Prop where
  fr : Fr C.pb w0 wc
  at_ : AtS C wc (stR r)
  blk : ∃ x n c, Part nb wc op te li (.slice x n c) len ∧ ∀ a q, r = .ok (a, q) → Made nb wc op te li (.slice x n c) (acc ++ [a])

theorem kid2_end {C : Ctx} {w0 wX w4 w5 : World} {nb : Nat} {op te : List UInt8} {li : Nat} {acc : List Hs.Ast} {r : Hs.R Hs.Ast} {x : Option Addr} {n c b4 g cap len : Nat} {vs : List Value} (hF : Fr C.pb w0 wX) (hPt : Part nb wX op te li (.slice x n c) len) (hmd : ∀ a q, r = .ok (a, q) → Made nb wX op te li (.slice x n c) acc) (hp : C.pb < nb) (hg : C.g < nb) (hw : w0.heap.size ≤ nb)
    (hfr4 : Fr C.pb wX w4) (hat4 : AtS C w4 (stR r)) (hrep4 : ∀ a q, r = .ok (a, q) → Rep (Btw wX.heap.size w4.heap.size) w4 (.pointer (some ⟨b4, 0, none⟩)) a)
    (hown : w4.ownsRow (nb + 1) 25 1 (.slice x n c) len vs)
    (hown5 : w5.ownsRow (nb + 1) 25 1 (.slice (some ⟨g, 0, none⟩) (len + 1) cap) (len + 1) (vs ++ [.pointer (some ⟨b4, 0, none⟩)]))
    (hgrow5 : (w4.alloc (.cells #[.pointer (some ⟨b4, 0, none⟩)] 25)).grownBy w5 (Value.slice x n c).ownBlock) (hat5 : (Value.slice x n c).ownBlock = some g ∨ g = w4.heap.size + 1) :
    Kid2 C w0 nb op te li acc (len + 1) r (w5.setCell ⟨nb, 3, none⟩ (.slice (some ⟨g, 0, none⟩) (len + 1) cap)) := by
  have hge : ∀ k, (Value.slice x n c).ownBlock = some k → nb + 1 ≤ k := own_block_ge hown
  have hP4 := hPt.keep hfr4 hp
  have hB5 := node_grown hP4.blk hown hgrow5
  refine ⟨?_, ?_, _, _, _, ⟨by rw [heap_setCell_at hB5]; rfl, _, ownsRow_keep hown5 fun k hk => Below.heap_setCell _ _ _ _ ?_⟩, fun a q ha => ?_⟩
  · exact Fr.setCell (((hF.trans hfr4).alloc _).grown hgrow5 (fun k hk => by have := hge k hk; omega)) (Or.inr hw) _
  · exact ((hat4.alloc _).grown (base := nb + 1) hgrow5 hge (by omega) (by omega)).other (by omega) (by omega) _
  · have := own_block_ge hown5 k hk
    show k ≠ nb; omega
  · have hm := hmd a q ha
    obtain ⟨vs', F, ho, hall, hFF⟩ := (hm.keep hfr4 hp).lst
    obtain ⟨rfl, rfl⟩ := ownsRow_one ho hown
    exact Made.snoc hm hfr4 hp hall hFF (fun k hk => Below.heap_alloc _ _ _ hk) (by simp) hown5 hgrow5 (hat5.imp_right (fun e => by omega)) a (hrep4 a q ha)

def ErInv0 (C : Ctx) (l : Nat) (w : World) (_ : Nat) (wr : World) : Prop := Fr C.pb w wr ∧ AtS C wr (.error l)

set_option maxRecDepth 100000 in
set_option maxHeartbeats 1000000 in
theorem block_er (C : Ctx) (w : World) (l : Nat) (h : AtS C w (.error l)) :
    Calls Tryz.prog 202 #[.pointer (some ⟨C.pb, 0, none⟩)] w (PostN C w (.error l)) := by
  have HP := mkHid (peek_S C w (.error l) h)
  have HA := mkHid h
  have hfl := fld_line
  clear h
  go_enter Tryz.func202, Tryz.ntmps202
  go_wp2_with fail
  refine HP.out.mono ?_
  rintro e w1 ⟨⟨t, rfl, ht⟩, hb⟩
  have HA1 := mkHid (fun o => (HA.out.below hb).alloc o)
  have HF1 := mkHid (fun o => (Fr.below (pb := C.pb) hb).alloc o)
  clear hb HP ht
  go_wp2_with fail
  refine (take_S C _ (.error l) ⟨#[123]⟩ (HA1.out _)).mono ?_
  rw [takeS_er]
  rintro e w2 ⟨rfl, hat2, hfr2⟩
  have HA2 := mkHid hat2
  have HF2 := mkHid ((HF1.out _).trans hfr2)
  clear hat2 hfr2
  go_wp2_with fail
  go_loopg [] 0 (fun k wr => ErInv0 C l w k wr)
  case atStart => exact ⟨HF2.out, HA2.out⟩
  case round =>
    obtain ⟨hf0, hl⟩ := hrel
    obtain ⟨hl1, cc, hc0, hc2⟩ := AtS.bad hl
    have HTK := mkHid (take_S C wr (.error l) ⟨#[125]⟩ hl)
    have HF0 := mkHid hf0
    clear hl hf0
    go_wp2_with fail
    refine HTK.out.mono ?_
    rw [takeS_er]
    rintro e w4 ⟨rfl, hat4, hfr4⟩
    go_wp2_with fail
    go_ret
    exact PostN.er (HF0.out.trans hfr4) hat4

end Go.Proofs.YtblbkfdhjfppkaaGreatDoor

/- Contracts of the document's answer: an assignment or a call. -/
namespace Go.Proofs.YtblbkfdhjfppkaaGreatDoor
open Go.RowKit
attribute [local go_sem ↓] Go.wp_at_zero Go.wp_at_succ

/-- What 'simple' leaves: the node that it was handed is filled. -/
def PostS (C : Ctx) (w0 : World) (nb : Nat) (r : Hs.R Hs.Ast) (e : Ending) (w' : World) : Prop :=
  e = .returned (.tuple #[]) ∧ Fr C.pb w0 w' ∧ AtS C w' (stR r) ∧ ∀ a q, r = .ok (a, q) → Rep (Btw w0.heap.size w'.heap.size) w' (.pointer (some ⟨nb, 0, none⟩)) a

theorem Made.new {nb : Nat} {w : World} {op te : List UInt8} {li : Nat} (h : w.heap[nb]? = some (.cells #[.string (bs op), .int .i64 li, .string (bs te), .slice none 0 0] 92 (0, 0))) : Made nb w op te li (.slice none 0 0) [] := ⟨h, Lst.nil _ _⟩

/-- The end of 'simple': the semicolon. -/
theorem simple_end {C : Ctx} {w0 wc w' : World} {nb : Nat} {op te : List UInt8} {li len : Nat} {acc : List Hs.Ast} {r1 : Hs.R Hs.Ast} (hk : Kid2 C w0 nb op te li acc len r1 wc) (hf : Fr C.pb wc w') (hat : AtS C w' (takeS C (stR r1) [59])) (hp : C.pb < nb) (hw : w0.heap.size ≤ nb) :
    PostS C w0 nb (Hs.thenTake C.ts [59] (Hs.mapR (fun v => Hs.node op li te (acc ++ [v])) r1)) (.returned (.tuple #[])) w' := by
  have e : stR (Hs.thenTake C.ts [59] (Hs.mapR (fun v => Hs.node op li te (acc ++ [v])) r1)) = takeS C (stR r1) [59] := by
    rw [← takeS_then]; cases r1 <;> rfl
  refine ⟨rfl, hk.fr.trans hf, by rw [e]; exact hat, fun a q ha => ?_⟩
  obtain ⟨q', hq'⟩ := thenTake_ok ha
  cases r1 with
  | error l => cases hq'
  | ok vq =>
    obtain ⟨v, q2⟩ := vq
    cases hq'
    obtain ⟨x, n, c, _, hm⟩ := hk.blk
    exact ((hm v _ rfl).keep hf hp).rep hw

theorem news_at (w : World) (b k : Nat) (hk : w.heap.size = k) : ∀ j u, ([.pointer (some ⟨b, 0, none⟩)] : List Value)[j]? = some u → (w.alloc (.cells #[.pointer (some ⟨b, 0, none⟩)] 25)).cell? ((⟨k, 0, none⟩ : Addr).add j) = some u := by
  subst hk; exact news_ptr w b
theorem node_grown0 {nb : Nat} {w4 w5 : World} {o1 o2 : Obj} {v0 v1 v2 v : Value} (hb : w4.heap[nb]? = some (.cells #[v0, v1, v2, v] 92 (0, 0))) (hg : ((w4.alloc o1).alloc o2).grownBy w5 (Value.slice none 0 0).ownBlock) :
    w5.heap[nb]? = some (.cells #[v0, v1, v2, v] 92 (0, 0)) := by
  have hlt := lt_of_block hb
  rw [hg.block nb (by simp; omega) (fun e => by cases e)]
  exact heap_later _ _ (by simp; omega) _ (heap_later _ _ hlt _ hb)

/-- A call as the one part of a node. -/
theorem call_kid {C : Ctx} {w0 wX w4 w5 : World} {nb : Nat} {op te cop cte : List UInt8} {li cli : Nat} {rl : Hs.R (List Hs.Ast)} {x : Option Addr} {n c g cap : Nat} (hF : Fr C.pb w0 wX) (hm : Made nb wX op te li (.slice none 0 0) []) (hp : C.pb < nb) (hg : C.g < nb) (hw : w0.heap.size ≤ nb)
    (hfr4 : Fr C.pb wX w4) (hat4 : AtS C w4 (stR rl)) (hkid4 : ∀ ks q, rl = .ok (ks, q) → Kid (Btw wX.heap.size w4.heap.size) w4 (.slice x n c) ks)
    (hown5 : w5.ownsRow (nb + 1) 25 1 (.slice (some ⟨g, 0, none⟩) (0 + 1) cap) (0 + 1) ([] ++ [.pointer (some ⟨w4.heap.size, 0, none⟩)]))
    (hgrow5 : ((w4.alloc (.cells #[.string (bs cop), .int .i64 cli, .string (bs cte), .slice x n c] 92)).alloc (.cells #[.pointer (some ⟨w4.heap.size, 0, none⟩)] 25)).grownBy w5 (Value.slice none 0 0).ownBlock) (hat5 : (Value.slice none 0 0).ownBlock = some g ∨ g = w4.heap.size + 1 + 1) :
    Kid2 C w0 nb op te li [] 1 (Hs.mapR (Hs.node cop cli cte) rl) (w5.setCell ⟨nb, 3, none⟩ (.slice (some ⟨g, 0, none⟩) (0 + 1) cap)) := by
  have e : stR (Hs.mapR (Hs.node cop cli cte) rl) = stR rl := by cases rl <;> rfl
  refine kid2_end (w4 := w4.alloc (.cells #[.string (bs cop), .int .i64 cli, .string (bs cte), .slice x n c] 92)) (b4 := w4.heap.size) (len := 0) hF hm.part (fun _ _ _ => hm) hp hg hw (hfr4.alloc _) (by rw [e]; exact hat4.alloc _) ?_ (World.ownsRow_nil _ _ _ _) hown5 hgrow5 (hat5.imp_right (fun e => by simp; omega))
  intro a q ha
  cases rl with
  | error l => cases ha
  | ok kq =>
    obtain ⟨ks, q'⟩ := kq
    cases ha
    have hs4 := hfr4.size
    refine Rep.mk ⟨hs4, by simp⟩ (heap_first _ _ rfl _) ?_
    exact ((hkid4 _ _ rfl).keep fun k hk => Below.heap_alloc _ _ _ hk.2).mono fun k hk => ⟨hk.1, by have := hk.2; simp; omega⟩

set_option maxRecDepth 100000 in
set_option maxHeartbeats 2000000 in
theorem simple_call (C : Ctx) (E : Nat → Hs.R Hs.Ast) (HE : Reads C 83 E) (w0 w : World) (nb p : Nat) (h : At C w p 0) (hF : Fr C.pb w0 w) (hw : w0.heap.size ≤ nb) (hpb : C.pb < nb) (hgb : C.g < nb)
    (hn : w.heap[nb]? = some (.cells #[.string (bs []), .int .i64 (Hs.tk C.ts p).line, .string (bs []), .slice none 0 0] 92 (0, 0))) (h1 : (Hs.tk C.ts p).sort = 110) (h2 : Hs.isT C.ts (p + 1) [40] = true) (hr : Hs.listP E C.ts (p + 1) [40] [41] ≠ .error 0) :
    Calls Tryz.prog 307 #[.pointer (some ⟨C.pb, 0, none⟩), .pointer (some ⟨nb, 0, none⟩)] w
      (PostS C w0 nb (Hs.thenTake C.ts [59] (Hs.mapR (fun l => Hs.node [100, 111] (Hs.tk C.ts p).line (Hs.tk C.ts p).text [Hs.node [99, 97, 108, 108] (Hs.tk C.ts p).line (Hs.tk C.ts p).text l]) (Hs.listP E C.ts (p + 1) [40] [41])))) := by
  obtain ⟨i0, hi, hz0, hz1, hz2⟩ := info_parts infoPtr
  have HN := mkHid (name_ok C w p h h1)
  have HEE := mkHid (And.intro HE (And.intro h2 hr))
  have HF := mkHid hF
  have HB := mkHid hn
  have hsz0 := hF.size
  clear h HE h1 h2 hr hF hn
  go_enter Tryz.func307, Tryz.ntmps307
  go_wp2_with fail
  refine HN.out.mono ?_
  rintro e w1 ⟨rfl, hat1, hfr1⟩
  have hn1 := (hfr1.block nb (lt_of_block HB.out) (by omega)).trans HB.out
  obtain ⟨hm0, m0, m1, m2, m3, k0, k2, k3⟩ := node_cells hn1
  have HB1 := mkHid hn1
  have HA1 := mkHid hat1
  have HF1 := mkHid (HF.out.trans hfr1)
  clear hn1 hat1 hfr1
  go_wp2_with fail
  have HA2 := mkHid (HA1.out.other (i := 2) (show nb ≠ C.pb by omega) (show nb ≠ C.g by omega) (.string (bs (Hs.tk C.ts p).text)))
  refine (is_any C _ (p + 1) 0 ⟨#[40]⟩ HA2.out).mono ?_
  rw [show Hs.isT C.ts (p + 1) (⟨#[40]⟩ : ByteArray).data.toList = true from HEE.out.2.1]
  rintro e w3 ⟨rfl, hb3⟩
  have hn3 := (hb3.block nb (by rw [size_set]; omega)).trans (heap_setCell_at HB1.out)
  clear m0 m1 m2 m3 k0 k2 k3
  obtain ⟨hm0, m0, m1, m2, m3, k0, k2, k3⟩ := node_cells hn3
  have HB3 := mkHid (heap_setCell_at (i := 0) (u := .string ⟨#[100, 111]⟩) hn3)
  have HA3 := mkHid ((HA2.out.below hb3).other (i := 0) (show nb ≠ C.pb by omega) (show nb ≠ C.g by omega) (.string ⟨#[100, 111]⟩))
  have HF3 := mkHid (Fr.setCell (p := ⟨nb, 0, none⟩) ((Fr.setCell (p := ⟨nb, 2, none⟩) HF1.out (Or.inr hw) (.string (bs (Hs.tk C.ts p).text))).trans_below hb3) (Or.inr hw) (.string ⟨#[100, 111]⟩))
  clear hn3 hb3
  go_wp2_with fail
  clear m0 m1 m2 m3 k0 k2 k3
  generalize w3.setCell ⟨nb, 0, none⟩ (.string ⟨#[100, 111]⟩) = W at *
  have HM := mkHid ((Made.new (op := [100, 111]) (te := (Hs.tk C.ts p).text) HB3.out).keep (Fr.refl C.pb W).drew hpb)
  have HFW := mkHid HF3.out.drew
  have HC := mkHid (list_R C E HEE.out.1 W.drew (.ok (p + 1)) ⟨#[40]⟩ ⟨#[41]⟩ (HA3.out.below (Below.refl _ _).drew) HEE.out.2.2)
  obtain ⟨hm0, -, -, -, m3, -, -, k3⟩ := node_cells HB3.out
  go_cut [] (fun wc => Kid2 C w0 nb [100, 111] (Hs.tk C.ts p).text (Hs.tk C.ts p).line [] 1 (Hs.mapR (Hs.node [99, 97, 108, 108] (Hs.tk C.ts p).line (Hs.tk C.ts p).text) (Hs.listP E C.ts (p + 1) [40] [41])) wc)
  case first =>
    go_region_law ((first | (refine step_append_lies _ (by rfl) _ _ 90 (by rfl) (nb + 1) 25 i0 _ 1 8 Tryz.underlying90 hi hz0 hz1 hz2 rfl (by decide) (.slice none 0 0) 0 [] (by rfl) (World.ownsRow_nil _ _ _ _) ⟨w4.heap.size + 1, 0, none⟩ 1 1 [.pointer (some ⟨w4.heap.size, 0, none⟩)] (by rfl) (by rfl) (news_at _ _ _ (by simp)) (one_ptr _) (by decide) (by unfold maxLen; omega) (by omega) (by simp; omega) (w4.heap.size + 1 + 1) (by simp) ?_; intro g cap w5 hown5 hgrow5 hat5 hg5; have hB5 := node_grown0 hP4.blk hgrow5; obtain ⟨hz5, -, -, -, q3, -, -, e3⟩ := node_cells hB5) | (go_simp; go_at_call 306; refine HC.out.mono ?_; rintro e w4 ⟨hfr4, hat4, x4, n4, c4, rfl, hkid4⟩; have hP4 := HM.out.keep hfr4 hpb; obtain ⟨hz4, -, -, -, p3, -, -, f3⟩ := node_cells hP4.blk)))
    all_goals
      go_wp2_with fail
      go_meet
      case rel => exact call_kid HFW.out HM.out hpb hgb hw hfr4 hat4 hkid4 hown5 hgrow5 hat5
  case rest =>
    have HK := mkHid hcut
    have HTK := mkHid (take_S C wc _ ⟨#[59]⟩ hcut.at_)
    clear hcut
    go_wp2_with fail
    refine HTK.out.mono ?_
    rintro e w6 ⟨rfl, hat6, hfr6⟩
    go_wp2_with fail
    refine bodyPost_ret (results_none rfl _ _ _) rfl ?_
    have hend := simple_end HK.out hfr6 hat6 hpb hw
    have e : Hs.mapR (fun v => Hs.node [100, 111] (Hs.tk C.ts p).line (Hs.tk C.ts p).text ([] ++ [v])) (Hs.mapR (Hs.node [99, 97, 108, 108] (Hs.tk C.ts p).line (Hs.tk C.ts p).text) (Hs.listP E C.ts (p + 1) [40] [41])) = Hs.mapR (fun l => Hs.node [100, 111] (Hs.tk C.ts p).line (Hs.tk C.ts p).text [Hs.node [99, 97, 108, 108] (Hs.tk C.ts p).line (Hs.tk C.ts p).text l]) (Hs.listP E C.ts (p + 1) [40] [41]) := by
      cases Hs.listP E C.ts (p + 1) [40] [41] <;> rfl
    rw [e] at hend
    exact hend

end Go.Proofs.YtblbkfdhjfppkaaGreatDoor

/- Contracts of the document's answer: an assignment. -/
namespace Go.Proofs.YtblbkfdhjfppkaaGreatDoor
open Go.RowKit
attribute [local go_sem ↓] Go.wp_at_zero Go.wp_at_succ

def accOf (r : Hs.R (List Hs.Ast)) : List Hs.Ast :=
  match r with
  | .ok (ks, _) => ks
  | .error _ => []

/-- What holds at the head of the loop over the indices of what is assigned to. -/
def SetInv (C : Ctx) (E : Nat → Hs.R Hs.Ast) (w0 : World) (nb : Nat) (te : List UInt8) (li : Nat) (r : Hs.R (List Hs.Ast)) (k : Nat) (wr : World) : Prop :=
  Fr C.pb w0 wr ∧ ∃ x n c len, Part nb wr [115, 101, 116] te li (.slice x n c) len ∧ len + k ≤ 4000 ∧
  ((∃ q acc, At C wr q 0 ∧ r = Hs.setLoop E C.ts k q acc ∧ Made nb wr [115, 101, 116] te li (.slice x n c) acc) ∨ (∃ l, r = .error l ∧ AtS C wr (.error l)))

set_option maxRecDepth 100000 in
set_option maxHeartbeats 4000000 in
theorem simple_set (C : Ctx) (E : Nat → Hs.R Hs.Ast) (HE : Reads C 83 E) (w0 w : World) (nb li : Nat) (S : Except Nat Nat) (h : AtS C w S) (hF : Fr C.pb w0 w) (hw : w0.heap.size ≤ nb) (hpb : C.pb < nb) (hgb : C.g < nb)
    (hn : w.heap[nb]? = some (.cells #[.string (bs []), .int .i64 li, .string (bs []), .slice none 0 0] 92 (0, 0))) (h2 : isS C (nameS C S) [40] = false) (r0 rI : Hs.R (List Hs.Ast))
    (h0 : Hid (r0 = onS (nameS C S) fun q => Hs.setLoop E C.ts (C.ts.length + 1) q [])) (hI : Hid (rI = Hs.thenTake C.ts [61] r0)) (hr0 : r0 ≠ .error 0) (hr1 : onS (stR rI) E ≠ .error 0) :
    Calls Tryz.prog 307 #[.pointer (some ⟨C.pb, 0, none⟩), .pointer (some ⟨nb, 0, none⟩)] w
      (PostS C w0 nb (Hs.thenTake C.ts [59] (Hs.mapR (fun v => Hs.node [115, 101, 116] li (nameT C S) (accOf rI ++ [v])) (onS (stR rI) E)))) := by
  obtain ⟨i0, hi, hz0, hz1, hz2⟩ := info_parts infoPtr
  obtain ⟨-, -, hlen⟩ := h.facts
  have HN := mkHid (name_S C w S h)
  have HEE := mkHid HE
  have H2 := mkHid h2
  have HR0 := mkHid (And.intro hr0 hr1)
  have HF := mkHid hF
  have HB := mkHid hn
  have hsz0 := hF.size
  clear h HE h2 hr0 hr1 hF hn
  generalize nameT C S = te at *
  generalize nameL C S = nl at *
  generalize nameS C S = S1 at *
  go_enter Tryz.func307, Tryz.ntmps307
  go_wp2_with fail
  refine HN.out.mono ?_
  rintro e w1 ⟨rfl, hat1, hfr1⟩
  have hn1 := (hfr1.block nb (lt_of_block HB.out) (by omega)).trans HB.out
  obtain ⟨hm0, m0, m1, m2, m3, k0, k2, k3⟩ := node_cells hn1
  have HB1 := mkHid hn1
  have HA1 := mkHid hat1
  have HF1 := mkHid (HF.out.trans hfr1)
  clear hn1 hat1 hfr1
  go_wp2_with fail
  have HA2 := mkHid (HA1.out.other (i := 2) (show nb ≠ C.pb by omega) (show nb ≠ C.g by omega) (.string (bs te)))
  refine (is_S C _ S1 ⟨#[40]⟩ HA2.out).mono ?_
  rw [show isS C S1 (⟨#[40]⟩ : ByteArray).data.toList = false from H2.out]
  rintro e w3 ⟨rfl, hb3⟩
  have hn3 := (hb3.block nb (by rw [size_set]; omega)).trans (heap_setCell_at HB1.out)
  clear m0 m1 m2 m3 k0 k2 k3
  obtain ⟨hm0, m0, m1, m2, m3, k0, k2, k3⟩ := node_cells hn3
  have HB3 := mkHid (heap_setCell_at (i := 0) (u := .string ⟨#[115, 101, 116]⟩) hn3)
  have HA3 := mkHid ((HA2.out.below hb3).other (i := 0) (show nb ≠ C.pb by omega) (show nb ≠ C.g by omega) (.string ⟨#[115, 101, 116]⟩))
  have HF3 := mkHid (Fr.setCell (p := ⟨nb, 0, none⟩) ((Fr.setCell (p := ⟨nb, 2, none⟩) HF1.out (Or.inr hw) (.string (bs te))).trans_below hb3) (Or.inr hw) (.string ⟨#[115, 101, 116]⟩))
  clear hn3 hb3
  go_wp2_with fail
  clear m0 m1 m2 m3 k0 k2 k3
  generalize w3.setCell ⟨nb, 0, none⟩ (.string ⟨#[115, 101, 116]⟩) = W at *
  go_loopg [] (C.ts.length + 1) (fun k wr => SetInv C E w0 nb te li r0 k wr)
  case atStart =>
    have hmd := Made.new (op := [115, 101, 116]) (te := te) HB3.out
    refine ⟨HF3.out, none, 0, 0, 0, hmd.part, by omega, ?_⟩
    cases S1 with
    | error l => exact Or.inr ⟨l, h0.out, HA3.out⟩
    | ok q => exact Or.inl ⟨q, [], HA3.out, h0.out, hmd⟩
  case round =>
    obtain ⟨hf0, x, n, c, len, hpt, hlk, hrel⟩ := hrel
    have HF0 := mkHid hf0
    have HPT := mkHid hpt
    have hszr := hf0.size
    clear hf0 hpt HF3 HA3 HB3 HA2 HA1 HB1 HF1
    rcases hrel with ⟨q, acc, hq, hr1, hmd⟩ | ⟨l, hr1, hl⟩
    · obtain ⟨k, rfl⟩ : ∃ k, gk = k + 1 := by
        cases gk with
        | zero => exact absurd hr1 HR0.out.1
        | succ k => exact ⟨k, rfl⟩
      rw [Hs.setLoop] at hr1
      have HQ := mkHid hq
      have HM := mkHid hmd
      cases hi91 : Hs.isT C.ts q [91]
      · rw [hi91, if_neg (by simp)] at hr1
        have HX := mkHid (eat_no C wr q 0 ⟨#[91]⟩ hq (by rw [show Hs.isT C.ts q (⟨#[91]⟩ : ByteArray).data.toList = false from hi91]; rfl))
        have HR1 := mkHid hr1
        clear hr1 hq hmd hi91
        go_wp2_with fail
        refine HX.out.mono ?_
        rintro e w2 ⟨rfl, hb2⟩
        have hat2 : AtS C w2 (.ok q) := HQ.out.below hb2
        have hfr2 : Fr C.pb wr w2 := Fr.below hb2
        have HP2 := mkHid (HPT.out.keep hfr2 hpb)
        have HM2 := mkHid (HM.out.keep hfr2 hpb)
        have HF2 := mkHid (HF0.out.trans hfr2)
        clear hb2 HX
        have HTK := mkHid (take_S C w2 (.ok q) ⟨#[61]⟩ hat2)
        clear hat2 hfr2
        go_wp2_with fail
        refine HTK.out.mono ?_
        rintro e w2b ⟨rfl, hat3, hfr3⟩
        have HI3 : Hid (stR rI = takeS C (.ok q) [61]) := by show _ = _; rw [hI.out, ← takeS_then, HR1.out]; rfl
        have hP3 := (HP2.out.keep hfr3 hpb).keep (Fr.refl C.pb w2b).drew hpb
        have HP3 := mkHid hP3
        have HM3 : Hid (∀ a q', onS (stR rI) E = .ok (a, q') → Made nb w2b.drew [115, 101, 116] te li (.slice x n c) (accOf rI)) := fun a q' ha => by
          have e1 : accOf rI = acc := by
            cases hx : rI with
            | error l => rw [hx] at ha; cases ha
            | ok kq =>
              obtain ⟨ks, q3⟩ := kq
              obtain ⟨q4, hq4⟩ := thenTake_ok (hI.out.symm.trans hx)
              rw [HR1.out] at hq4
              cases hq4
              rfl
          rw [e1]
          exact (HM2.out.keep hfr3 hpb).keep (Fr.refl C.pb w2b).drew hpb
        have HF3 := mkHid (HF2.out.trans hfr3).drew
        have HC := mkHid (HEE.out w2b.drew (stR rI) (by rw [HI3.out]; exact hat3.below (Below.refl _ _).drew) HR0.out.2)
        obtain ⟨hm2, -, -, -, m3, -, -, k3⟩ := node_cells (show w2b.heap[nb]? = _ from hP3.blk)
        clear hP3 hat3 hfr3 HTK
        go_wp2_with fail
        go_cut [] (fun wc => Kid2 C w0 (nb) [115, 101, 116] te (li) (accOf rI) (len + 1) (onS (stR rI) E) wc)
        case first =>
          go_region_law ((first | (refine step_append_lies _ (by rfl) _ _ 90 (by rfl) ((nb) + 1) 25 i0 _ 1 8 Tryz.underlying90 hi hz0 hz1 hz2 rfl (by decide) (.slice x n c) (len) vs (by rfl) (hown.alloc _) ⟨w4.heap.size, 0, none⟩ 1 1 [.pointer (some ⟨b4, 0, none⟩)] (by rfl) (by rfl) (news_ptr _ _) (one_ptr _) (by decide) (by unfold maxLen; omega) (by omega) (by simp; omega) (w4.heap.size + 1) (by simp) ?_; intro g cap w5 hown5 hgrow5 hat5 hg5; have hB5 := node_grown hP4.blk hown hgrow5; obtain ⟨hz5, -, -, -, q3, -, -, e3⟩ := node_cells hB5) | (go_simp; go_at_call 83; refine HC.out.mono ?_; rintro e w4 ⟨hfr4, hat4, b4, rfl, hrep4⟩; have hP4 := HP3.out.keep hfr4 (by omega); obtain ⟨hz4, -, -, -, p3, -, -, f3⟩ := node_cells hP4.blk; obtain ⟨vs, hown⟩ := hP4.own)))
          all_goals
            go_wp2_with fail
            go_meet
            case rel => exact kid2_end HF3.out HP3.out HM3.out (by omega) (by omega) (by omega) hfr4 hat4 hrep4 hown hown5 hgrow5 hat5
        case rest =>
          have HK := mkHid hcut
          have HTK := mkHid (take_S C wc _ ⟨#[59]⟩ hcut.at_)
          clear hcut
          go_wp2_with fail
          refine HTK.out.mono ?_
          rintro e w6 ⟨rfl, hat6, hfr6⟩
          go_wp2_with fail
          go_end0
          exact simple_end HK.out hfr6 hat6 hpb hw
      · rw [hi91, if_pos rfl] at hr1
        have HX := mkHid (eat_ok C wr q ⟨#[91]⟩ hq hi91)
        have HR1 := mkHid hr1
        clear hr1 hq hmd hi91
        go_wp2_with fail
        refine HX.out.mono ?_
        rintro e w2 ⟨rfl, hat2, hfr2⟩
        have hP2 := (HPT.out.keep hfr2 hpb).keep (Fr.refl C.pb w2).drew hpb
        have HP2 := mkHid hP2
        have HM2 : Hid (∀ a q', E (q + 1) = .ok (a, q') → Made nb w2.drew [115, 101, 116] te li (.slice x n c) acc) := fun _ _ _ => (HM.out.keep hfr2 hpb).keep (Fr.refl C.pb w2).drew hpb
        have HF2 := mkHid (HF0.out.trans hfr2).drew
        have hE0 : onS (.ok (q + 1)) E ≠ .error 0 := fun e => HR0.out.1 (by rw [HR1.out, show E (q + 1) = .error 0 from e]; rfl)
        have HC := mkHid (HEE.out w2.drew (.ok (q + 1)) (hat2.below (Below.refl _ _).drew) hE0)
        obtain ⟨hm2, -, -, -, m3, -, -, k3⟩ := node_cells (show w2.heap[nb]? = _ from hP2.blk)
        clear hP2 hat2 hfr2 hE0 HX
        go_wp2_with fail
        go_cut [] (fun wc => Kid2 C w0 (nb) [115, 101, 116] te (li) (acc) (len + 1) (E (q + 1)) wc)
        case first =>
          go_region_law ((first | (refine step_append_lies _ (by rfl) _ _ 90 (by rfl) ((nb) + 1) 25 i0 _ 1 8 Tryz.underlying90 hi hz0 hz1 hz2 rfl (by decide) (.slice x n c) (len) vs (by rfl) (hown.alloc _) ⟨w4.heap.size, 0, none⟩ 1 1 [.pointer (some ⟨b4, 0, none⟩)] (by rfl) (by rfl) (news_ptr _ _) (one_ptr _) (by decide) (by unfold maxLen; omega) (by omega) (by simp; omega) (w4.heap.size + 1) (by simp) ?_; intro g cap w5 hown5 hgrow5 hat5 hg5; have hB5 := node_grown hP4.blk hown hgrow5; obtain ⟨hz5, -, -, -, q3, -, -, e3⟩ := node_cells hB5) | (go_simp; go_at_call 83; refine HC.out.mono ?_; rintro e w4 ⟨hfr4, hat4, b4, rfl, hrep4⟩; have hP4 := HP2.out.keep hfr4 (by omega); obtain ⟨hz4, -, -, -, p3, -, -, f3⟩ := node_cells hP4.blk; obtain ⟨vs, hown⟩ := hP4.own)))
          all_goals
            go_wp2_with fail
            go_meet
            case rel => exact kid2_end HF2.out HP2.out HM2.out (by omega) (by omega) (by omega) hfr4 hat4 hrep4 hown hown5 hgrow5 hat5
        case rest =>
          have HK := mkHid hcut
          have HTK := mkHid (take_S C wc _ ⟨#[93]⟩ hcut.at_)
          clear hcut
          go_wp2_with fail
          refine HTK.out.mono ?_
          rintro e w6 ⟨rfl, hat6, hfr6⟩
          go_wp2_with fail
          go_roundg k
          case measure => omega
          case rel =>
            obtain ⟨hfc, hatc, x', n', c', hpc, hmc⟩ := HK.out
            refine ⟨hfc.trans hfr6, x', n', c', len + 1, hpc.keep hfr6 hpb, by omega, ?_⟩
            have hr2 := HR1.out
            have hat6' := hat6
            rw [takeS_then] at hat6'
            cases hE : Hs.thenTake C.ts [93] (E (q + 1)) with
            | error l => rw [hE] at hr2 hat6'; exact Or.inr ⟨l, hr2, hat6'⟩
            | ok iq =>
              obtain ⟨i, q1⟩ := iq
              rw [hE] at hr2 hat6'
              obtain ⟨q2, hq2⟩ := thenTake_ok hE
              exact Or.inl ⟨q1, acc ++ [i], hat6', hr2, (hmc i q2 hq2).keep hfr6 hpb⟩
    · have HX := mkHid (eat_S C wr (.error l) ⟨#[91]⟩ hl)
      have HR1 := mkHid hr1
      clear hr1 hl
      go_wp2_with fail
      refine HX.out.mono ?_
      rw [eatS_er, isS_er]
      rintro e w2 ⟨rfl, hat2, hfr2⟩
      have HP2 := mkHid (HPT.out.keep hfr2 hpb)
      have HF2 := mkHid (HF0.out.trans hfr2)
      clear HX
      have HTK := mkHid (take_S C w2 (.error l) ⟨#[61]⟩ hat2)
      clear hat2 hfr2
      go_wp2_with fail
      refine HTK.out.mono ?_
      rintro e w2b ⟨rfl, hat3, hfr3⟩
      have HI3 : Hid (stR rI = takeS C (.error l) [61]) := by show _ = _; rw [hI.out, ← takeS_then, HR1.out]; rfl
      have hP3 := (HP2.out.keep hfr3 hpb).keep (Fr.refl C.pb w2b).drew hpb
      have HP3 := mkHid hP3
      have HM3 : Hid (∀ a q', onS (stR rI) E = .ok (a, q') → Made nb w2b.drew [115, 101, 116] te li (.slice x n c) (accOf rI)) := fun a q' ha => by
        have e1 : stR rI = .error l := HI3.out
        rw [e1] at ha
        cases ha
      have HF3 := mkHid (HF2.out.trans hfr3).drew
      have HC := mkHid (HEE.out w2b.drew (stR rI) (by rw [HI3.out]; exact hat3.below (Below.refl _ _).drew) HR0.out.2)
      obtain ⟨hm2, -, -, -, m3, -, -, k3⟩ := node_cells (show w2b.heap[nb]? = _ from hP3.blk)
      clear hP3 hat3 hfr3 HTK
      go_wp2_with fail
      go_cut [] (fun wc => Kid2 C w0 (nb) [115, 101, 116] te (li) (accOf rI) (len + 1) (onS (stR rI) E) wc)
      case first =>
        go_region_law ((first | (refine step_append_lies _ (by rfl) _ _ 90 (by rfl) ((nb) + 1) 25 i0 _ 1 8 Tryz.underlying90 hi hz0 hz1 hz2 rfl (by decide) (.slice x n c) (len) vs (by rfl) (hown.alloc _) ⟨w4.heap.size, 0, none⟩ 1 1 [.pointer (some ⟨b4, 0, none⟩)] (by rfl) (by rfl) (news_ptr _ _) (one_ptr _) (by decide) (by unfold maxLen; omega) (by omega) (by simp; omega) (w4.heap.size + 1) (by simp) ?_; intro g cap w5 hown5 hgrow5 hat5 hg5; have hB5 := node_grown hP4.blk hown hgrow5; obtain ⟨hz5, -, -, -, q3, -, -, e3⟩ := node_cells hB5) | (go_simp; go_at_call 83; refine HC.out.mono ?_; rintro e w4 ⟨hfr4, hat4, b4, rfl, hrep4⟩; have hP4 := HP3.out.keep hfr4 (by omega); obtain ⟨hz4, -, -, -, p3, -, -, f3⟩ := node_cells hP4.blk; obtain ⟨vs, hown⟩ := hP4.own)))
        all_goals
          go_wp2_with fail
          go_meet
          case rel => exact kid2_end HF3.out HP3.out HM3.out (by omega) (by omega) (by omega) hfr4 hat4 hrep4 hown hown5 hgrow5 hat5
      case rest =>
        have HK := mkHid hcut
        have HTK := mkHid (take_S C wc _ ⟨#[59]⟩ hcut.at_)
        clear hcut
        go_wp2_with fail
        refine HTK.out.mono ?_
        rintro e w6 ⟨rfl, hat6, hfr6⟩
        go_wp2_with fail
        go_end0
        exact simple_end HK.out hfr6 hat6 hpb hw

end Go.Proofs.YtblbkfdhjfppkaaGreatDoor

/- Contracts of the document's answer: statements. -/
namespace Go.Proofs.YtblbkfdhjfppkaaGreatDoor
open Go.RowKit
attribute [local go_sem ↓] Go.wp_at_zero Go.wp_at_succ

/-- An assignment or a call. -/
theorem simple_reads (C : Ctx) (E : Nat → Hs.R Hs.Ast) (HE : Reads C 83 E) (w0 w : World) (nb li : Nat) (S : Except Nat Nat) (h : AtS C w S) (hF : Fr C.pb w0 w) (hw : w0.heap.size ≤ nb) (hpb : C.pb < nb) (hgb : C.g < nb)
    (hn : w.heap[nb]? = some (.cells #[.string (bs []), .int .i64 li, .string (bs []), .slice none 0 0] 92 (0, 0))) (hli : ∀ q, S = .ok q → li = (Hs.tk C.ts q).line) (hr : onS S (Hs.simpleP E C.ts) ≠ .error 0) :
    Calls Tryz.prog 307 #[.pointer (some ⟨C.pb, 0, none⟩), .pointer (some ⟨nb, 0, none⟩)] w (PostS C w0 nb (onS S (Hs.simpleP E C.ts))) := by
  have key : ∀ (S : Except Nat Nat), AtS C w S → isS C (nameS C S) [40] = false → onS S (Hs.simpleP E C.ts) ≠ .error 0 → (∀ l, S ≠ .error l → True) →
      onS S (Hs.simpleP E C.ts) = Hs.thenTake C.ts [59] (Hs.mapR (fun v => Hs.node [115, 101, 116] li (nameT C S) (accOf (Hs.thenTake C.ts [61] (onS (nameS C S) fun q => Hs.setLoop E C.ts (C.ts.length + 1) q [])) ++ [v])) (onS (stR (Hs.thenTake C.ts [61] (onS (nameS C S) fun q => Hs.setLoop E C.ts (C.ts.length + 1) q []))) E)) →
      Calls Tryz.prog 307 #[.pointer (some ⟨C.pb, 0, none⟩), .pointer (some ⟨nb, 0, none⟩)] w (PostS C w0 nb (onS S (Hs.simpleP E C.ts))) := by
    intro S h h2 hr _ e
    rw [e]
    refine simple_set C E HE w0 w nb li S h hF hw hpb hgb hn h2 _ _ rfl rfl (fun e0 => hr ?_) (fun e0 => hr ?_)
    · rw [e, e0]; rfl
    · rw [e, e0]; rfl
  cases S with
  | error l => exact key (.error l) h rfl hr (fun _ _ => trivial) rfl
  | ok p =>
    have hl := hli p rfl
    by_cases h110 : (Hs.tk C.ts p).sort = 110
    · obtain ⟨e1, e2, e3⟩ := nameS_yes h110
      have ex : Hs.simpleP E C.ts p = _ := rfl
      cases h40 : Hs.isT C.ts (p + 1) [40]
      · refine key (.ok p) h (by rw [e1]; exact h40) hr (fun _ _ => trivial) ?_
        show Hs.simpleP E C.ts p = _
        unfold Hs.simpleP
        rw [if_pos (by rw [h110]; rfl), h40, if_neg (by simp), e1, e2, hl]
        show Hs.bindR (Hs.thenTake C.ts [61] (Hs.setLoop E C.ts (C.ts.length + 1) (p + 1) [])) _ = _
        rw [show onS (.ok (p + 1)) (fun q => Hs.setLoop E C.ts (C.ts.length + 1) q []) = Hs.setLoop E C.ts (C.ts.length + 1) (p + 1) [] from rfl]
        cases Hs.thenTake C.ts [61] (Hs.setLoop E C.ts (C.ts.length + 1) (p + 1) []) <;> rfl
      · have es : Hs.simpleP E C.ts p = Hs.thenTake C.ts [59] (Hs.mapR (fun l => Hs.node [100, 111] (Hs.tk C.ts p).line (Hs.tk C.ts p).text [Hs.node [99, 97, 108, 108] (Hs.tk C.ts p).line (Hs.tk C.ts p).text l]) (Hs.listP E C.ts (p + 1) [40] [41])) := by
          unfold Hs.simpleP
          rw [if_pos (by rw [h110]; rfl), h40, if_pos rfl]
        show Calls _ _ _ _ (PostS C w0 nb (Hs.simpleP E C.ts p))
        have hr' : Hs.simpleP E C.ts p ≠ .error 0 := hr
        rw [es] at hr' ⊢
        exact simple_call C E HE w0 w nb p h hF hw hpb hgb (by rw [← hl]; exact hn) h110 h40 (fun e0 => hr' (by rw [e0]; rfl))
    · obtain ⟨e1, e2, e3⟩ := nameS_no h110
      refine key (.ok p) h (by rw [e1]; rfl) hr (fun _ _ => trivial) ?_
      show Hs.simpleP E C.ts p = _
      unfold Hs.simpleP
      have e0 : ((Hs.tk C.ts p).sort == 110) = false := by simpa using h110
      rw [e1, if_neg (by rw [e0]; simp)]
      rfl

theorem eatS_same {C : Ctx} {S : Except Nat Nat} {x : List UInt8} (h : isS C S x = false) : eatS C S x = S := by
  cases S with
  | ok q => exact eatS_no h
  | error l => rfl

set_option maxRecDepth 100000 in
set_option maxHeartbeats 2000000 in
theorem stmt_simple (C : Ctx) (E : Nat → Hs.R Hs.Ast) (HE : Reads C 83 E) (w : World) (S : Except Nat Nat) (h : AtS C w S) (k0 : isS C S [118, 97, 114] = false) (k1 : isS C S [105, 102] = false) (k2 : isS C S [119, 104, 105, 108, 101] = false) (k3 : isS C S [114, 101, 116, 117, 114, 110] = false) (k4 : isS C S [112, 114, 105, 110, 116] = false) (hr : onS S (Hs.simpleP E C.ts) ≠ .error 0) :
    Calls Tryz.prog 260 #[.pointer (some ⟨C.pb, 0, none⟩)] w (PostN C w (onS S (Hs.simpleP E C.ts))) := by
  obtain ⟨hpb, hgb, hlen⟩ := h.facts
  have HP := mkHid (peek_S C w S h)
  have HA := mkHid h
  have HEE := mkHid (And.intro HE hr)
  have HK := mkHid (And.intro k0 (And.intro k1 (And.intro k2 (And.intro k3 k4))))
  have hfl := fld_line
  clear h HE hr k0 k1 k2 k3 k4
  go_enter Tryz.func260, Tryz.ntmps260
  go_wp2_with fail
  refine HP.out.mono ?_
  rintro e w1 ⟨⟨t, rfl, ht⟩, hb⟩
  have HT := mkHid ht
  have hsz1 := hb.size
  have HA0 := mkHid (fun o => (HA.out.below hb).alloc o)
  have HF0 := mkHid (fun o => (Fr.below (pb := C.pb) hb).alloc o)
  clear hb HP ht
  go_wp2_with fail
  refine (eat_S C _ S ⟨#[118, 97, 114]⟩ (HA0.out _)).mono ?_
  rw [show isS C S (⟨#[118, 97, 114]⟩ : ByteArray).data.toList = false from HK.out.1, show eatS C S (⟨#[118, 97, 114]⟩ : ByteArray).data.toList = S from eatS_same HK.out.1]
  rintro e v1 ⟨rfl, hat, hfr⟩
  have HA1 := mkHid hat
  have HF1 := mkHid ((HF0.out _).trans hfr)
  have hnn1 := (hfr.block w1.heap.size (by simp) (by omega)).trans (heap_first w1 _ rfl _)
  have HN1 := mkHid hnn1
  clear hat hfr hnn1
  have hzz1 := lt_of_block HN1.out
  go_wp2_with fail
  refine (eat_S C _ S ⟨#[105, 102]⟩ HA1.out).mono ?_
  rw [show isS C S (⟨#[105, 102]⟩ : ByteArray).data.toList = false from HK.out.2.1, show eatS C S (⟨#[105, 102]⟩ : ByteArray).data.toList = S from eatS_same HK.out.2.1]
  rintro e v2 ⟨rfl, hat, hfr⟩
  have HA2 := mkHid hat
  have HF2 := mkHid (HF1.out.trans hfr)
  have hnn2 := (hfr.block w1.heap.size (by omega) (by omega)).trans HN1.out
  have HN2 := mkHid hnn2
  clear hat hfr hnn2
  have hzz2 := lt_of_block HN2.out
  go_wp2_with fail
  refine (eat_S C _ S ⟨#[119, 104, 105, 108, 101]⟩ HA2.out).mono ?_
  rw [show isS C S (⟨#[119, 104, 105, 108, 101]⟩ : ByteArray).data.toList = false from HK.out.2.2.1, show eatS C S (⟨#[119, 104, 105, 108, 101]⟩ : ByteArray).data.toList = S from eatS_same HK.out.2.2.1]
  rintro e v3 ⟨rfl, hat, hfr⟩
  have HA3 := mkHid hat
  have HF3 := mkHid (HF2.out.trans hfr)
  have hnn3 := (hfr.block w1.heap.size (by omega) (by omega)).trans HN2.out
  have HN3 := mkHid hnn3
  clear hat hfr hnn3
  have hzz3 := lt_of_block HN3.out
  go_wp2_with fail
  refine (eat_S C _ S ⟨#[114, 101, 116, 117, 114, 110]⟩ HA3.out).mono ?_
  rw [show isS C S (⟨#[114, 101, 116, 117, 114, 110]⟩ : ByteArray).data.toList = false from HK.out.2.2.2.1, show eatS C S (⟨#[114, 101, 116, 117, 114, 110]⟩ : ByteArray).data.toList = S from eatS_same HK.out.2.2.2.1]
  rintro e v4 ⟨rfl, hat, hfr⟩
  have HA4 := mkHid hat
  have HF4 := mkHid (HF3.out.trans hfr)
  have hnn4 := (hfr.block w1.heap.size (by omega) (by omega)).trans HN3.out
  have HN4 := mkHid hnn4
  clear hat hfr hnn4
  have hzz4 := lt_of_block HN4.out
  go_wp2_with fail
  refine (eat_S C _ S ⟨#[112, 114, 105, 110, 116]⟩ HA4.out).mono ?_
  rw [show isS C S (⟨#[112, 114, 105, 110, 116]⟩ : ByteArray).data.toList = false from HK.out.2.2.2.2, show eatS C S (⟨#[112, 114, 105, 110, 116]⟩ : ByteArray).data.toList = S from eatS_same HK.out.2.2.2.2]
  rintro e v5 ⟨rfl, hat, hfr⟩
  have HA5 := mkHid hat
  have HF5 := mkHid (HF4.out.trans hfr)
  have hnn5 := (hfr.block w1.heap.size (by omega) (by omega)).trans HN4.out
  have HN5 := mkHid hnn5
  clear hat hfr hnn5
  have hzz5 := lt_of_block HN5.out
  go_wp2_with fail
  refine (simple_reads C E HEE.out.1 w _ w1.heap.size t.line S HA5.out HF5.out hsz1 (by omega) (by omega) HN5.out (fun q hq => by rw [HT.out q hq]) HEE.out.2).mono ?_
  rintro e w7 ⟨rfl, hfr7, hat7, hrep7⟩
  go_wp2_with fail
  go_ret
  exact ⟨hfr7, hat7, _, rfl, hrep7⟩

end Go.Proofs.YtblbkfdhjfppkaaGreatDoor

/- Contracts of the document's answer: print, return, while. -/
namespace Go.Proofs.YtblbkfdhjfppkaaGreatDoor
open Go.RowKit
attribute [local go_sem ↓] Go.wp_at_zero Go.wp_at_succ

/-- The end of a statement: the node is made, a semicolon behind it. -/
theorem semi_end {C : Ctx} {w wc w' : World} {nb : Nat} {op : List UInt8} {li len : Nat} {acc : List Hs.Ast} {r1 : Hs.R Hs.Ast} (hk : Kid2 C w nb op [] li acc len r1 wc) (hf : Fr C.pb wc w') (hat : AtS C w' (takeS C (stR r1) [59])) (hp : C.pb < nb) (hw : w.heap.size ≤ nb) :
    PostN C w (Hs.thenTake C.ts [59] (Hs.mapR (fun v => Hs.node op li [] (acc ++ [v])) r1)) (.returned (.pointer (some ⟨nb, 0, none⟩))) w' := by
  obtain ⟨_, h2, h3, h4⟩ := simple_end hk hf hat hp hw
  exact ⟨h2, h3, _, rfl, h4⟩
/-- .. without one. -/
theorem kid_last {C : Ctx} {w wc : World} {nb : Nat} {op : List UInt8} {li len : Nat} {acc : List Hs.Ast} {r1 : Hs.R Hs.Ast} (hk : Kid2 C w nb op [] li acc len r1 wc) (hw : w.heap.size ≤ nb) :
    PostN C w (Hs.mapR (fun v => Hs.node op li [] (acc ++ [v])) r1) (.returned (.pointer (some ⟨nb, 0, none⟩))) wc := by
  have e : stR (Hs.mapR (fun v => Hs.node op li [] (acc ++ [v])) r1) = stR r1 := by cases r1 <;> rfl
  refine ⟨hk.fr, by rw [e]; exact hk.at_, nb, rfl, fun a q ha => ?_⟩
  cases r1 with
  | error l => cases ha
  | ok vq =>
    obtain ⟨v, q2⟩ := vq
    cases ha
    obtain ⟨x, n, c, _, hm⟩ := hk.blk
    exact (hm v _ rfl).rep hw
/-- The one part that was read. -/
def kidsOf (r : Hs.R Hs.Ast) : List Hs.Ast :=
  match r with
  | .ok (a, _) => [a]
  | .error _ => []

set_option maxRecDepth 100000 in
set_option maxHeartbeats 4000000 in
theorem stmt_print (C : Ctx) (w : World) (p : Nat) (h : At C w p 0) (k0 : Hs.isT C.ts p [118, 97, 114] = false) (k1 : Hs.isT C.ts p [105, 102] = false) (k2 : Hs.isT C.ts p [119, 104, 105, 108, 101] = false) (k3 : Hs.isT C.ts p [114, 101, 116, 117, 114, 110] = false) (k4 : Hs.isT C.ts p [112, 114, 105, 110, 116] = true) (E : Nat → Hs.R Hs.Ast) (HE : Reads C 83 E) (hr : E (p + 1) ≠ .error 0) :
    Calls Tryz.prog 260 #[.pointer (some ⟨C.pb, 0, none⟩)] w (PostN C w (Hs.thenTake C.ts [59] (Hs.mapR (fun v => Hs.node [112, 114, 105, 110, 116] (Hs.tk C.ts p).line [] [v]) (E (p + 1))))) := by
  obtain ⟨hpb, hgb, hlen⟩ := AtS.facts (S := .ok p) h
  obtain ⟨i0, hi, hz0, hz1, hz2⟩ := info_parts infoPtr
  have HP := mkHid (peek_any C w p 0 h)
  have HA := mkHid h
  have HEE := mkHid (And.intro HE hr)
  have HK := mkHid (And.intro k0 (And.intro k1 (And.intro k2 (And.intro k3 k4))))
  have hfl := fld_line
  clear h k0 k1 k2 k3 k4 HE hr
  go_enter Tryz.func260, Tryz.ntmps260
  go_wp2_with fail
  refine HP.out.mono ?_
  rw [tokV]
  rintro e w1 ⟨rfl, hb⟩
  have hsz1 := hb.size
  have HA0 := mkHid (fun o => (HA.out.below hb).below ((Below.refl _ _).alloc (Nat.le_refl _) o))
  have HF0 := mkHid (fun o => (Fr.below (pb := C.pb) hb).alloc o)
  clear hb HP
  go_wp2_with fail
  refine (eat_no C _ p 0 ⟨#[118, 97, 114]⟩ (HA0.out _) (by rw [show Hs.isT C.ts p (⟨#[118, 97, 114]⟩ : ByteArray).data.toList = false from HK.out.1]; rfl)).mono ?_
  rintro e v1 ⟨rfl, hbx⟩
  have HA1 := mkHid ((HA0.out _).below hbx)
  have HF1 := mkHid ((HF0.out _).trans_below hbx)
  have hnn := (hbx.block w1.heap.size (by simp)).trans (heap_first w1 _ rfl _)
  have HN1 := mkHid hnn
  clear hbx hnn
  have hzz1 := lt_of_block HN1.out
  go_wp2_with fail
  refine (eat_no C _ p 0 ⟨#[105, 102]⟩ HA1.out (by rw [show Hs.isT C.ts p (⟨#[105, 102]⟩ : ByteArray).data.toList = false from HK.out.2.1]; rfl)).mono ?_
  rintro e v2 ⟨rfl, hbx⟩
  have HA2 := mkHid (HA1.out.below hbx)
  have HF2 := mkHid (HF1.out.trans_below hbx)
  have hnn := (hbx.block w1.heap.size (by omega)).trans HN1.out
  have HN2 := mkHid hnn
  clear hbx hnn
  have hzz2 := lt_of_block HN2.out
  go_wp2_with fail
  refine (eat_no C _ p 0 ⟨#[119, 104, 105, 108, 101]⟩ HA2.out (by rw [show Hs.isT C.ts p (⟨#[119, 104, 105, 108, 101]⟩ : ByteArray).data.toList = false from HK.out.2.2.1]; rfl)).mono ?_
  rintro e v3 ⟨rfl, hbx⟩
  have HA3 := mkHid (HA2.out.below hbx)
  have HF3 := mkHid (HF2.out.trans_below hbx)
  have hnn := (hbx.block w1.heap.size (by omega)).trans HN2.out
  have HN3 := mkHid hnn
  clear hbx hnn
  have hzz3 := lt_of_block HN3.out
  go_wp2_with fail
  refine (eat_no C _ p 0 ⟨#[114, 101, 116, 117, 114, 110]⟩ HA3.out (by rw [show Hs.isT C.ts p (⟨#[114, 101, 116, 117, 114, 110]⟩ : ByteArray).data.toList = false from HK.out.2.2.2.1]; rfl)).mono ?_
  rintro e v4 ⟨rfl, hbx⟩
  have HA4 := mkHid (HA3.out.below hbx)
  have HF4 := mkHid (HF3.out.trans_below hbx)
  have hnn := (hbx.block w1.heap.size (by omega)).trans HN3.out
  have HN4 := mkHid hnn
  clear hbx hnn
  have hzz4 := lt_of_block HN4.out
  go_wp2_with fail
  refine (eat_ok C _ p ⟨#[112, 114, 105, 110, 116]⟩ HA4.out HK.out.2.2.2.2).mono ?_
  rintro e v5 ⟨rfl, hat, hfr⟩
  have HA5 := mkHid hat
  have HF5 := mkHid (HF4.out.trans hfr)
  have hnn := (hfr.block w1.heap.size (by omega) (by omega)).trans HN4.out
  have HN5 := mkHid hnn
  clear hat hfr hnn
  have hzz5 := lt_of_block HN5.out
  obtain ⟨hm0, m0, m1, m2, m3, f0, f2, f3⟩ := node_cells HN5.out
  have HBW := mkHid (heap_setCell_at (i := 0) (u := .string ⟨#[112, 114, 105, 110, 116]⟩) HN5.out)
  have HAW := mkHid (HA5.out.other (i := 0) (show w1.heap.size ≠ C.pb by omega) (show w1.heap.size ≠ C.g by omega) (.string ⟨#[112, 114, 105, 110, 116]⟩))
  have HFW := mkHid (Fr.setCell (p := ⟨w1.heap.size, 0, none⟩) HF5.out (Or.inr hsz1) (.string ⟨#[112, 114, 105, 110, 116]⟩))
  go_wp2_with fail
  clear m0 m1 m2 m3 f0 f2 f3
  generalize v5.setCell ⟨w1.heap.size, 0, none⟩ (.string ⟨#[112, 114, 105, 110, 116]⟩) = W at *
  have HM := mkHid (Made.new (op := [112, 114, 105, 110, 116]) (te := []) HBW.out)
  have HPk := mkHid (HM.out.part.keep (Fr.refl C.pb W).drew (by omega))
  have HMk : Hid (∀ a q', E (p + 1) = .ok (a, q') → Made w1.heap.size W.drew [112, 114, 105, 110, 116] [] (Hs.tk C.ts p).line (.slice none 0 0) ([])) := fun _ _ _ => HM.out.keep (Fr.refl C.pb W).drew (by omega)
  have HFk := mkHid HFW.out.drew
  have HC := mkHid (HEE.out.1 W.drew (.ok (p + 1)) (HAW.out.below (Below.refl _ _).drew) HEE.out.2)
  obtain ⟨hmk, -, -, -, mk3, -, -, fk3⟩ := node_cells (show W.heap[w1.heap.size]? = _ from HPk.out.blk)
  go_wp2_with fail
  go_cut [] (fun wc => Kid2 C w (w1.heap.size) [112, 114, 105, 110, 116] [] ((Hs.tk C.ts p).line) ([]) (0 + 1) (E (p + 1)) wc)
  case first =>
    go_region_law ((first | (refine step_append_lies _ (by rfl) _ _ 90 (by rfl) ((w1.heap.size) + 1) 25 i0 _ 1 8 Tryz.underlying90 hi hz0 hz1 hz2 rfl (by decide) (.slice none 0 0) (0) vs (by rfl) (hown.alloc _) ⟨w4.heap.size, 0, none⟩ 1 1 [.pointer (some ⟨b4, 0, none⟩)] (by rfl) (by rfl) (news_ptr _ _) (one_ptr _) (by decide) (by unfold maxLen; omega) (by omega) (by simp; omega) (w4.heap.size + 1) (by simp) ?_; intro g cap w5 hown5 hgrow5 hat5 hg5; have hB5 := node_grown hP4.blk hown hgrow5; obtain ⟨hz5, -, -, -, q3, -, -, e3⟩ := node_cells hB5) | (go_simp; go_at_call 83; refine HC.out.mono ?_; rintro e w4 ⟨hfr4, hat4, b4, rfl, hrep4⟩; have hP4 := HPk.out.keep hfr4 (by omega); obtain ⟨hz4, -, -, -, p3, -, -, f3⟩ := node_cells hP4.blk; obtain ⟨vs, hown⟩ := hP4.own)))
    all_goals
      go_wp2_with fail
      go_meet
      case rel => exact kid2_end HFk.out HPk.out HMk.out (by omega) (by omega) (by omega) hfr4 hat4 hrep4 hown hown5 hgrow5 hat5
  case rest =>
    have HKK := mkHid hcut
    have HTK := mkHid (take_S C wc _ ⟨#[59]⟩ hcut.at_)
    clear hcut
    go_wp2_with fail
    refine HTK.out.mono ?_
    rintro e w6 ⟨rfl, hat6, hfr6⟩
    go_wp2_with fail
    go_ret
    exact semi_end HKK.out hfr6 hat6 (by omega) hsz1

set_option maxRecDepth 100000 in
set_option maxHeartbeats 4000000 in
theorem stmt_return0 (C : Ctx) (w : World) (p : Nat) (h : At C w p 0) (k0 : Hs.isT C.ts p [118, 97, 114] = false) (k1 : Hs.isT C.ts p [105, 102] = false) (k2 : Hs.isT C.ts p [119, 104, 105, 108, 101] = false) (k3 : Hs.isT C.ts p [114, 101, 116, 117, 114, 110] = true) (h59 : Hs.isT C.ts (p + 1) [59] = true) :
    Calls Tryz.prog 260 #[.pointer (some ⟨C.pb, 0, none⟩)] w (PostN C w (.ok (Hs.node [114, 101, 116, 117, 114, 110] (Hs.tk C.ts p).line [] [], p + 2))) := by
  obtain ⟨hpb, hgb, hlen⟩ := AtS.facts (S := .ok p) h
  obtain ⟨i0, hi, hz0, hz1, hz2⟩ := info_parts infoPtr
  have HP := mkHid (peek_any C w p 0 h)
  have HA := mkHid h
  have H59 := mkHid h59
  have HK := mkHid (And.intro k0 (And.intro k1 (And.intro k2 k3)))
  have hfl := fld_line
  clear h k0 k1 k2 k3 h59
  go_enter Tryz.func260, Tryz.ntmps260
  go_wp2_with fail
  refine HP.out.mono ?_
  rw [tokV]
  rintro e w1 ⟨rfl, hb⟩
  have hsz1 := hb.size
  have HA0 := mkHid (fun o => (HA.out.below hb).below ((Below.refl _ _).alloc (Nat.le_refl _) o))
  have HF0 := mkHid (fun o => (Fr.below (pb := C.pb) hb).alloc o)
  clear hb HP
  go_wp2_with fail
  refine (eat_no C _ p 0 ⟨#[118, 97, 114]⟩ (HA0.out _) (by rw [show Hs.isT C.ts p (⟨#[118, 97, 114]⟩ : ByteArray).data.toList = false from HK.out.1]; rfl)).mono ?_
  rintro e v1 ⟨rfl, hbx⟩
  have HA1 := mkHid ((HA0.out _).below hbx)
  have HF1 := mkHid ((HF0.out _).trans_below hbx)
  have hnn := (hbx.block w1.heap.size (by simp)).trans (heap_first w1 _ rfl _)
  have HN1 := mkHid hnn
  clear hbx hnn
  have hzz1 := lt_of_block HN1.out
  go_wp2_with fail
  refine (eat_no C _ p 0 ⟨#[105, 102]⟩ HA1.out (by rw [show Hs.isT C.ts p (⟨#[105, 102]⟩ : ByteArray).data.toList = false from HK.out.2.1]; rfl)).mono ?_
  rintro e v2 ⟨rfl, hbx⟩
  have HA2 := mkHid (HA1.out.below hbx)
  have HF2 := mkHid (HF1.out.trans_below hbx)
  have hnn := (hbx.block w1.heap.size (by omega)).trans HN1.out
  have HN2 := mkHid hnn
  clear hbx hnn
  have hzz2 := lt_of_block HN2.out
  go_wp2_with fail
  refine (eat_no C _ p 0 ⟨#[119, 104, 105, 108, 101]⟩ HA2.out (by rw [show Hs.isT C.ts p (⟨#[119, 104, 105, 108, 101]⟩ : ByteArray).data.toList = false from HK.out.2.2.1]; rfl)).mono ?_
  rintro e v3 ⟨rfl, hbx⟩
  have HA3 := mkHid (HA2.out.below hbx)
  have HF3 := mkHid (HF2.out.trans_below hbx)
  have hnn := (hbx.block w1.heap.size (by omega)).trans HN2.out
  have HN3 := mkHid hnn
  clear hbx hnn
  have hzz3 := lt_of_block HN3.out
  go_wp2_with fail
  refine (eat_ok C _ p ⟨#[114, 101, 116, 117, 114, 110]⟩ HA3.out HK.out.2.2.2).mono ?_
  rintro e v4 ⟨rfl, hat, hfr⟩
  have HA4 := mkHid hat
  have HF4 := mkHid (HF3.out.trans hfr)
  have hnn := (hfr.block w1.heap.size (by omega) (by omega)).trans HN3.out
  have HN4 := mkHid hnn
  clear hat hfr hnn
  have hzz4 := lt_of_block HN4.out
  obtain ⟨hm0, m0, m1, m2, m3, f0, f2, f3⟩ := node_cells HN4.out
  have HBW := mkHid (heap_setCell_at (i := 0) (u := .string ⟨#[114, 101, 116, 117, 114, 110]⟩) HN4.out)
  have HAW := mkHid (HA4.out.other (i := 0) (show w1.heap.size ≠ C.pb by omega) (show w1.heap.size ≠ C.g by omega) (.string ⟨#[114, 101, 116, 117, 114, 110]⟩))
  have HFW := mkHid (Fr.setCell (p := ⟨w1.heap.size, 0, none⟩) HF4.out (Or.inr hsz1) (.string ⟨#[114, 101, 116, 117, 114, 110]⟩))
  go_wp2_with fail
  clear m0 m1 m2 m3 f0 f2 f3
  generalize v4.setCell ⟨w1.heap.size, 0, none⟩ (.string ⟨#[114, 101, 116, 117, 114, 110]⟩) = W at *
  have HM := mkHid (Made.new (op := [114, 101, 116, 117, 114, 110]) (te := []) HBW.out)
  refine (is_any C _ (p + 1) 0 ⟨#[59]⟩ HAW.out).mono ?_
  rw [show Hs.isT C.ts (p + 1) (⟨#[59]⟩ : ByteArray).data.toList = true from H59.out]
  rintro e w2 ⟨rfl, hb2⟩
  have HB2 := mkHid hb2
  clear hb2
  go_wp2_with fail
  refine (take_ok C _ (p + 1) ⟨#[59]⟩ (HAW.out.below HB2.out) H59.out).mono ?_
  rintro e w3 ⟨rfl, hat3, hfr3⟩
  go_wp2_with fail
  go_ret
  refine ⟨(HFW.out.trans_below HB2.out).trans hfr3, hat3, w1.heap.size, rfl, fun a q ha => ?_⟩
  cases ha
  exact ((HM.out.keep (Fr.below (pb := C.pb) HB2.out) (by omega)).keep hfr3 (by omega)).rep hsz1

set_option maxRecDepth 100000 in
set_option maxHeartbeats 4000000 in
theorem stmt_return1 (C : Ctx) (w : World) (p : Nat) (h : At C w p 0) (k0 : Hs.isT C.ts p [118, 97, 114] = false) (k1 : Hs.isT C.ts p [105, 102] = false) (k2 : Hs.isT C.ts p [119, 104, 105, 108, 101] = false) (k3 : Hs.isT C.ts p [114, 101, 116, 117, 114, 110] = true) (E : Nat → Hs.R Hs.Ast) (HE : Reads C 83 E) (h59 : Hs.isT C.ts (p + 1) [59] = false) (hr : E (p + 1) ≠ .error 0) :
    Calls Tryz.prog 260 #[.pointer (some ⟨C.pb, 0, none⟩)] w (PostN C w (Hs.thenTake C.ts [59] (Hs.mapR (fun v => Hs.node [114, 101, 116, 117, 114, 110] (Hs.tk C.ts p).line [] [v]) (E (p + 1))))) := by
  obtain ⟨hpb, hgb, hlen⟩ := AtS.facts (S := .ok p) h
  obtain ⟨i0, hi, hz0, hz1, hz2⟩ := info_parts infoPtr
  have HP := mkHid (peek_any C w p 0 h)
  have HA := mkHid h
  have HEE := mkHid (And.intro HE hr)
  have H59 := mkHid h59
  have HK := mkHid (And.intro k0 (And.intro k1 (And.intro k2 k3)))
  have hfl := fld_line
  clear h k0 k1 k2 k3 h59 HE hr
  go_enter Tryz.func260, Tryz.ntmps260
  go_wp2_with fail
  refine HP.out.mono ?_
  rw [tokV]
  rintro e w1 ⟨rfl, hb⟩
  have hsz1 := hb.size
  have HA0 := mkHid (fun o => (HA.out.below hb).below ((Below.refl _ _).alloc (Nat.le_refl _) o))
  have HF0 := mkHid (fun o => (Fr.below (pb := C.pb) hb).alloc o)
  clear hb HP
  go_wp2_with fail
  refine (eat_no C _ p 0 ⟨#[118, 97, 114]⟩ (HA0.out _) (by rw [show Hs.isT C.ts p (⟨#[118, 97, 114]⟩ : ByteArray).data.toList = false from HK.out.1]; rfl)).mono ?_
  rintro e v1 ⟨rfl, hbx⟩
  have HA1 := mkHid ((HA0.out _).below hbx)
  have HF1 := mkHid ((HF0.out _).trans_below hbx)
  have hnn := (hbx.block w1.heap.size (by simp)).trans (heap_first w1 _ rfl _)
  have HN1 := mkHid hnn
  clear hbx hnn
  have hzz1 := lt_of_block HN1.out
  go_wp2_with fail
  refine (eat_no C _ p 0 ⟨#[105, 102]⟩ HA1.out (by rw [show Hs.isT C.ts p (⟨#[105, 102]⟩ : ByteArray).data.toList = false from HK.out.2.1]; rfl)).mono ?_
  rintro e v2 ⟨rfl, hbx⟩
  have HA2 := mkHid (HA1.out.below hbx)
  have HF2 := mkHid (HF1.out.trans_below hbx)
  have hnn := (hbx.block w1.heap.size (by omega)).trans HN1.out
  have HN2 := mkHid hnn
  clear hbx hnn
  have hzz2 := lt_of_block HN2.out
  go_wp2_with fail
  refine (eat_no C _ p 0 ⟨#[119, 104, 105, 108, 101]⟩ HA2.out (by rw [show Hs.isT C.ts p (⟨#[119, 104, 105, 108, 101]⟩ : ByteArray).data.toList = false from HK.out.2.2.1]; rfl)).mono ?_
  rintro e v3 ⟨rfl, hbx⟩
  have HA3 := mkHid (HA2.out.below hbx)
  have HF3 := mkHid (HF2.out.trans_below hbx)
  have hnn := (hbx.block w1.heap.size (by omega)).trans HN2.out
  have HN3 := mkHid hnn
  clear hbx hnn
  have hzz3 := lt_of_block HN3.out
  go_wp2_with fail
  refine (eat_ok C _ p ⟨#[114, 101, 116, 117, 114, 110]⟩ HA3.out HK.out.2.2.2).mono ?_
  rintro e v4 ⟨rfl, hat, hfr⟩
  have HA4 := mkHid hat
  have HF4 := mkHid (HF3.out.trans hfr)
  have hnn := (hfr.block w1.heap.size (by omega) (by omega)).trans HN3.out
  have HN4 := mkHid hnn
  clear hat hfr hnn
  have hzz4 := lt_of_block HN4.out
  obtain ⟨hm0, m0, m1, m2, m3, f0, f2, f3⟩ := node_cells HN4.out
  have HBW := mkHid (heap_setCell_at (i := 0) (u := .string ⟨#[114, 101, 116, 117, 114, 110]⟩) HN4.out)
  have HAW := mkHid (HA4.out.other (i := 0) (show w1.heap.size ≠ C.pb by omega) (show w1.heap.size ≠ C.g by omega) (.string ⟨#[114, 101, 116, 117, 114, 110]⟩))
  have HFW := mkHid (Fr.setCell (p := ⟨w1.heap.size, 0, none⟩) HF4.out (Or.inr hsz1) (.string ⟨#[114, 101, 116, 117, 114, 110]⟩))
  go_wp2_with fail
  clear m0 m1 m2 m3 f0 f2 f3
  generalize v4.setCell ⟨w1.heap.size, 0, none⟩ (.string ⟨#[114, 101, 116, 117, 114, 110]⟩) = W at *
  have HM := mkHid (Made.new (op := [114, 101, 116, 117, 114, 110]) (te := []) HBW.out)
  refine (is_any C _ (p + 1) 0 ⟨#[59]⟩ HAW.out).mono ?_
  rw [show Hs.isT C.ts (p + 1) (⟨#[59]⟩ : ByteArray).data.toList = false from H59.out]
  rintro e w2 ⟨rfl, hb2⟩
  have HM2 := mkHid (HM.out.keep (Fr.below (pb := C.pb) hb2) (by omega))
  have HF2 := mkHid (HFW.out.trans_below hb2)
  have HA2 := mkHid (HAW.out.below hb2)
  clear hb2
  have HPk := mkHid (HM2.out.part.keep (Fr.refl C.pb w2).drew (by omega))
  have HMk : Hid (∀ a q', E (p + 1) = .ok (a, q') → Made w1.heap.size w2.drew [114, 101, 116, 117, 114, 110] [] (Hs.tk C.ts p).line (.slice none 0 0) ([])) := fun _ _ _ => HM2.out.keep (Fr.refl C.pb w2).drew (by omega)
  have HFk := mkHid HF2.out.drew
  have HC := mkHid (HEE.out.1 w2.drew (.ok (p + 1)) (HA2.out.below (Below.refl _ _).drew) HEE.out.2)
  obtain ⟨hmk, -, -, -, mk3, -, -, fk3⟩ := node_cells (show w2.heap[w1.heap.size]? = _ from HPk.out.blk)
  go_wp2_with fail
  go_cut [] (fun wc => Kid2 C w (w1.heap.size) [114, 101, 116, 117, 114, 110] [] ((Hs.tk C.ts p).line) ([]) (0 + 1) (E (p + 1)) wc)
  case first =>
    go_region_law ((first | (refine step_append_lies _ (by rfl) _ _ 90 (by rfl) ((w1.heap.size) + 1) 25 i0 _ 1 8 Tryz.underlying90 hi hz0 hz1 hz2 rfl (by decide) (.slice none 0 0) (0) vs (by rfl) (hown.alloc _) ⟨w4.heap.size, 0, none⟩ 1 1 [.pointer (some ⟨b4, 0, none⟩)] (by rfl) (by rfl) (news_ptr _ _) (one_ptr _) (by decide) (by unfold maxLen; omega) (by omega) (by simp; omega) (w4.heap.size + 1) (by simp) ?_; intro g cap w5 hown5 hgrow5 hat5 hg5; have hB5 := node_grown hP4.blk hown hgrow5; obtain ⟨hz5, -, -, -, q3, -, -, e3⟩ := node_cells hB5) | (go_simp; go_at_call 83; refine HC.out.mono ?_; rintro e w4 ⟨hfr4, hat4, b4, rfl, hrep4⟩; have hP4 := HPk.out.keep hfr4 (by omega); obtain ⟨hz4, -, -, -, p3, -, -, f3⟩ := node_cells hP4.blk; obtain ⟨vs, hown⟩ := hP4.own)))
    all_goals
      go_wp2_with fail
      go_meet
      case rel => exact kid2_end HFk.out HPk.out HMk.out (by omega) (by omega) (by omega) hfr4 hat4 hrep4 hown hown5 hgrow5 hat5
  case rest =>
    have HKK := mkHid hcut
    have HTK := mkHid (take_S C wc _ ⟨#[59]⟩ hcut.at_)
    clear hcut
    go_wp2_with fail
    refine HTK.out.mono ?_
    rintro e w6 ⟨rfl, hat6, hfr6⟩
    go_wp2_with fail
    go_ret
    exact semi_end HKK.out hfr6 hat6 (by omega) hsz1

end Go.Proofs.YtblbkfdhjfppkaaGreatDoor

/- Contracts of the document's answer: while, if, var. -/
namespace Go.Proofs.YtblbkfdhjfppkaaGreatDoor
open Go.RowKit
attribute [local go_sem ↓] Go.wp_at_zero Go.wp_at_succ

set_option maxRecDepth 100000 in
set_option maxHeartbeats 4000000 in
theorem stmt_while (C : Ctx) (w : World) (p : Nat) (h : At C w p 0) (k0 : Hs.isT C.ts p [118, 97, 114] = false) (k1 : Hs.isT C.ts p [105, 102] = false) (k2 : Hs.isT C.ts p [119, 104, 105, 108, 101] = true) (E B : Nat → Hs.R Hs.Ast) (HE : Reads C 83 E) (HB : Reads C 202 B) (hr : E (p + 1) ≠ .error 0) (hr2 : onS (stR (E (p + 1))) B ≠ .error 0) :
    Calls Tryz.prog 260 #[.pointer (some ⟨C.pb, 0, none⟩)] w (PostN C w (Hs.mapR (fun v => Hs.node [119, 104, 105, 108, 101] (Hs.tk C.ts p).line [] (kidsOf (E (p + 1)) ++ [v])) (onS (stR (E (p + 1))) B))) := by
  obtain ⟨hpb, hgb, hlen⟩ := AtS.facts (S := .ok p) h
  obtain ⟨i0, hi, hz0, hz1, hz2⟩ := info_parts infoPtr
  have HP := mkHid (peek_any C w p 0 h)
  have HA := mkHid h
  have HEE := mkHid (And.intro HE hr)
  have HBB := mkHid (And.intro HB hr2)
  have HK := mkHid (And.intro k0 (And.intro k1 k2))
  have hfl := fld_line
  clear h k0 k1 k2 HE hr HB hr2
  go_enter Tryz.func260, Tryz.ntmps260
  go_wp2_with fail
  refine HP.out.mono ?_
  rw [tokV]
  rintro e w1 ⟨rfl, hb⟩
  have hsz1 := hb.size
  have HA0 := mkHid (fun o => (HA.out.below hb).below ((Below.refl _ _).alloc (Nat.le_refl _) o))
  have HF0 := mkHid (fun o => (Fr.below (pb := C.pb) hb).alloc o)
  clear hb HP
  go_wp2_with fail
  refine (eat_no C _ p 0 ⟨#[118, 97, 114]⟩ (HA0.out _) (by rw [show Hs.isT C.ts p (⟨#[118, 97, 114]⟩ : ByteArray).data.toList = false from HK.out.1]; rfl)).mono ?_
  rintro e v1 ⟨rfl, hbx⟩
  have HA1 := mkHid ((HA0.out _).below hbx)
  have HF1 := mkHid ((HF0.out _).trans_below hbx)
  have hnn := (hbx.block w1.heap.size (by simp)).trans (heap_first w1 _ rfl _)
  have HN1 := mkHid hnn
  clear hbx hnn
  have hzz1 := lt_of_block HN1.out
  go_wp2_with fail
  refine (eat_no C _ p 0 ⟨#[105, 102]⟩ HA1.out (by rw [show Hs.isT C.ts p (⟨#[105, 102]⟩ : ByteArray).data.toList = false from HK.out.2.1]; rfl)).mono ?_
  rintro e v2 ⟨rfl, hbx⟩
  have HA2 := mkHid (HA1.out.below hbx)
  have HF2 := mkHid (HF1.out.trans_below hbx)
  have hnn := (hbx.block w1.heap.size (by omega)).trans HN1.out
  have HN2 := mkHid hnn
  clear hbx hnn
  have hzz2 := lt_of_block HN2.out
  go_wp2_with fail
  refine (eat_ok C _ p ⟨#[119, 104, 105, 108, 101]⟩ HA2.out HK.out.2.2).mono ?_
  rintro e v3 ⟨rfl, hat, hfr⟩
  have HA3 := mkHid hat
  have HF3 := mkHid (HF2.out.trans hfr)
  have hnn := (hfr.block w1.heap.size (by omega) (by omega)).trans HN2.out
  have HN3 := mkHid hnn
  clear hat hfr hnn
  have hzz3 := lt_of_block HN3.out
  obtain ⟨hm0, m0, m1, m2, m3, f0, f2, f3⟩ := node_cells HN3.out
  have HBW := mkHid (heap_setCell_at (i := 0) (u := .string ⟨#[119, 104, 105, 108, 101]⟩) HN3.out)
  have HAW := mkHid (HA3.out.other (i := 0) (show w1.heap.size ≠ C.pb by omega) (show w1.heap.size ≠ C.g by omega) (.string ⟨#[119, 104, 105, 108, 101]⟩))
  have HFW := mkHid (Fr.setCell (p := ⟨w1.heap.size, 0, none⟩) HF3.out (Or.inr hsz1) (.string ⟨#[119, 104, 105, 108, 101]⟩))
  go_wp2_with fail
  clear m0 m1 m2 m3 f0 f2 f3
  generalize v3.setCell ⟨w1.heap.size, 0, none⟩ (.string ⟨#[119, 104, 105, 108, 101]⟩) = W at *
  have HM := mkHid (Made.new (op := [119, 104, 105, 108, 101]) (te := []) HBW.out)
  have HPk := mkHid (HM.out.part.keep (Fr.refl C.pb W).drew (by omega))
  have HMk : Hid (∀ a q', E (p + 1) = .ok (a, q') → Made w1.heap.size W.drew [119, 104, 105, 108, 101] [] (Hs.tk C.ts p).line (.slice none 0 0) ([])) := fun _ _ _ => HM.out.keep (Fr.refl C.pb W).drew (by omega)
  have HFk := mkHid HFW.out.drew
  have HC := mkHid (HEE.out.1 W.drew (.ok (p + 1)) (HAW.out.below (Below.refl _ _).drew) HEE.out.2)
  obtain ⟨hmk, -, -, -, mk3, -, -, fk3⟩ := node_cells (show W.heap[w1.heap.size]? = _ from HPk.out.blk)
  go_wp2_with fail
  go_cut [] (fun wc => Kid2 C w (w1.heap.size) [119, 104, 105, 108, 101] [] ((Hs.tk C.ts p).line) ([]) (0 + 1) (E (p + 1)) wc)
  case first =>
    go_region_law ((first | (refine step_append_lies _ (by rfl) _ _ 90 (by rfl) ((w1.heap.size) + 1) 25 i0 _ 1 8 Tryz.underlying90 hi hz0 hz1 hz2 rfl (by decide) (.slice none 0 0) (0) vs (by rfl) (hown.alloc _) ⟨w4.heap.size, 0, none⟩ 1 1 [.pointer (some ⟨b4, 0, none⟩)] (by rfl) (by rfl) (news_ptr _ _) (one_ptr _) (by decide) (by unfold maxLen; omega) (by omega) (by simp; omega) (w4.heap.size + 1) (by simp) ?_; intro g cap w5 hown5 hgrow5 hat5 hg5; have hB5 := node_grown hP4.blk hown hgrow5; obtain ⟨hz5, -, -, -, q3, -, -, e3⟩ := node_cells hB5) | (go_simp; go_at_call 83; refine HC.out.mono ?_; rintro e w4 ⟨hfr4, hat4, b4, rfl, hrep4⟩; have hP4 := HPk.out.keep hfr4 (by omega); obtain ⟨hz4, -, -, -, p3, -, -, f3⟩ := node_cells hP4.blk; obtain ⟨vs, hown⟩ := hP4.own)))
    all_goals
      go_wp2_with fail
      go_meet
      case rel => exact kid2_end HFk.out HPk.out HMk.out (by omega) (by omega) (by omega) hfr4 hat4 hrep4 hown hown5 hgrow5 hat5
  case rest =>
    obtain ⟨hfc, hatc, x, n, c, hpc, hmc⟩ := hcut
    have HX := mkHid (And.intro hfc (And.intro hatc (And.intro hpc hmc)))
    clear hfc hatc hpc hmc HPk HMk HFk HC mk3 fk3 hmk
    have HPk := mkHid (HX.out.2.2.1.keep (Fr.refl C.pb wc).drew (by omega))
    have HMk : Hid (∀ a q', onS (stR (E (p + 1))) B = .ok (a, q') → Made w1.heap.size wc.drew [119, 104, 105, 108, 101] [] (Hs.tk C.ts p).line (.slice x n c) (kidsOf (E (p + 1)))) := fun a q' ha => by
      cases h1 : E (p + 1) with
      | error l => rw [h1] at ha; cases ha
      | ok cq =>
        obtain ⟨c0, q0⟩ := cq
        exact (HX.out.2.2.2 c0 q0 h1).keep (Fr.refl C.pb wc).drew (by omega)
    have HFk := mkHid HX.out.1.drew
    have HC := mkHid (HBB.out.1 wc.drew (stR (E (p + 1))) (HX.out.2.1.below (Below.refl _ _).drew) HBB.out.2)
    obtain ⟨hmk, -, -, -, mk3, -, -, fk3⟩ := node_cells (show wc.heap[w1.heap.size]? = _ from HPk.out.blk)
    go_wp2_with fail
    go_region_law ((first | (refine step_append_lies _ (by rfl) _ _ 90 (by rfl) ((w1.heap.size) + 1) 25 i0 _ 1 8 Tryz.underlying90 hi hz0 hz1 hz2 rfl (by decide) (.slice x n c) (1) vs (by rfl) (hown.alloc _) ⟨w4.heap.size, 0, none⟩ 1 1 [.pointer (some ⟨b4, 0, none⟩)] (by rfl) (by rfl) (news_ptr _ _) (one_ptr _) (by decide) (by unfold maxLen; omega) (by omega) (by simp; omega) (w4.heap.size + 1) (by simp) ?_; intro g cap w5 hown5 hgrow5 hat5 hg5; have hB5 := node_grown hP4.blk hown hgrow5; obtain ⟨hz5, -, -, -, q3, -, -, e3⟩ := node_cells hB5) | (go_simp; go_at_call 202; refine HC.out.mono ?_; rintro e w4 ⟨hfr4, hat4, b4, rfl, hrep4⟩; have hP4 := HPk.out.keep hfr4 (by omega); obtain ⟨hz4, -, -, -, p3, -, -, f3⟩ := node_cells hP4.blk; obtain ⟨vs, hown⟩ := hP4.own)))
    all_goals
      have hcut2 : Kid2 C w w1.heap.size [119, 104, 105, 108, 101] [] (Hs.tk C.ts p).line (kidsOf (E (p + 1))) (1 + 1) (onS (stR (E (p + 1))) B) _ := kid2_end HFk.out HPk.out HMk.out (by omega) (by omega) (by omega) hfr4 hat4 hrep4 hown hown5 hgrow5 hat5
      have HCUT := mkHid hcut2
      clear hcut2 hfr4 hat4 hrep4 hown hown5 hgrow5 hat5 hP4 hB5
      go_wp2_with fail
      go_ret
      exact kid_last HCUT.out hsz1

/-- The parts of an 'if'. -/
def kidsIf (r1 r2 : Hs.R Hs.Ast) : List Hs.Ast := kidsOf r1 ++ kidsOf r2

set_option maxRecDepth 100000 in
set_option maxHeartbeats 4000000 in
theorem stmt_if_false (C : Ctx) (w : World) (p : Nat) (h : At C w p 0) (k0 : Hs.isT C.ts p [118, 97, 114] = false) (k1 : Hs.isT C.ts p [105, 102] = true) (E B : Nat → Hs.R Hs.Ast) (HE : Reads C 83 E) (HB : Reads C 202 B) (hr : E (p + 1) ≠ .error 0) (hr2 : onS (stR (E (p + 1))) B ≠ .error 0) (hel : isS C (stR (onS (stR (E (p + 1))) B)) [101, 108, 115, 101] = false) :
    Calls Tryz.prog 260 #[.pointer (some ⟨C.pb, 0, none⟩)] w (PostN C w (Hs.mapR (fun v => Hs.node [105, 102] (Hs.tk C.ts p).line [] (kidsOf (E (p + 1)) ++ [v])) (onS (stR (E (p + 1))) B))) := by
  obtain ⟨hpb, hgb, hlen⟩ := AtS.facts (S := .ok p) h
  obtain ⟨i0, hi, hz0, hz1, hz2⟩ := info_parts infoPtr
  have HP := mkHid (peek_any C w p 0 h)
  have HA := mkHid h
  have HEE := mkHid (And.intro HE hr)
  have HBB := mkHid (And.intro HB hr2)
  have HEL := mkHid hel
  have HK := mkHid (And.intro k0 k1)
  have hfl := fld_line
  clear h k0 k1 HE hr HB hr2 hel
  go_enter Tryz.func260, Tryz.ntmps260
  go_wp2_with fail
  refine HP.out.mono ?_
  rw [tokV]
  rintro e w1 ⟨rfl, hb⟩
  have hsz1 := hb.size
  have HA0 := mkHid (fun o => (HA.out.below hb).below ((Below.refl _ _).alloc (Nat.le_refl _) o))
  have HF0 := mkHid (fun o => (Fr.below (pb := C.pb) hb).alloc o)
  clear hb HP
  go_wp2_with fail
  refine (eat_no C _ p 0 ⟨#[118, 97, 114]⟩ (HA0.out _) (by rw [show Hs.isT C.ts p (⟨#[118, 97, 114]⟩ : ByteArray).data.toList = false from HK.out.1]; rfl)).mono ?_
  rintro e v1 ⟨rfl, hbx⟩
  have HA1 := mkHid ((HA0.out _).below hbx)
  have HF1 := mkHid ((HF0.out _).trans_below hbx)
  have hnn := (hbx.block w1.heap.size (by simp)).trans (heap_first w1 _ rfl _)
  have HN1 := mkHid hnn
  clear hbx hnn
  have hzz1 := lt_of_block HN1.out
  go_wp2_with fail
  refine (eat_ok C _ p ⟨#[105, 102]⟩ HA1.out HK.out.2).mono ?_
  rintro e v2 ⟨rfl, hat, hfr⟩
  have HA2 := mkHid hat
  have HF2 := mkHid (HF1.out.trans hfr)
  have hnn := (hfr.block w1.heap.size (by omega) (by omega)).trans HN1.out
  have HN2 := mkHid hnn
  clear hat hfr hnn
  have hzz2 := lt_of_block HN2.out
  obtain ⟨hm0, m0, m1, m2, m3, f0, f2, f3⟩ := node_cells HN2.out
  have HBW := mkHid (heap_setCell_at (i := 0) (u := .string ⟨#[105, 102]⟩) HN2.out)
  have HAW := mkHid (HA2.out.other (i := 0) (show w1.heap.size ≠ C.pb by omega) (show w1.heap.size ≠ C.g by omega) (.string ⟨#[105, 102]⟩))
  have HFW := mkHid (Fr.setCell (p := ⟨w1.heap.size, 0, none⟩) HF2.out (Or.inr hsz1) (.string ⟨#[105, 102]⟩))
  go_wp2_with fail
  clear m0 m1 m2 m3 f0 f2 f3
  generalize v2.setCell ⟨w1.heap.size, 0, none⟩ (.string ⟨#[105, 102]⟩) = W at *
  have HM := mkHid (Made.new (op := [105, 102]) (te := []) HBW.out)
  have HPk := mkHid (HM.out.part.keep (Fr.refl C.pb W).drew (by omega))
  have HMk : Hid (∀ a q', E (p + 1) = .ok (a, q') → Made w1.heap.size W.drew [105, 102] [] (Hs.tk C.ts p).line (.slice none 0 0) ([])) := fun _ _ _ => HM.out.keep (Fr.refl C.pb W).drew (by omega)
  have HFk := mkHid HFW.out.drew
  have HC := mkHid (HEE.out.1 W.drew (.ok (p + 1)) (HAW.out.below (Below.refl _ _).drew) HEE.out.2)
  obtain ⟨hmk, -, -, -, mk3, -, -, fk3⟩ := node_cells (show W.heap[w1.heap.size]? = _ from HPk.out.blk)
  go_wp2_with fail
  go_cut [] (fun wc => Kid2 C w (w1.heap.size) [105, 102] [] ((Hs.tk C.ts p).line) ([]) (0 + 1) (E (p + 1)) wc)
  case first =>
    go_region_law ((first | (refine step_append_lies _ (by rfl) _ _ 90 (by rfl) ((w1.heap.size) + 1) 25 i0 _ 1 8 Tryz.underlying90 hi hz0 hz1 hz2 rfl (by decide) (.slice none 0 0) (0) vs (by rfl) (hown.alloc _) ⟨w4.heap.size, 0, none⟩ 1 1 [.pointer (some ⟨b4, 0, none⟩)] (by rfl) (by rfl) (news_ptr _ _) (one_ptr _) (by decide) (by unfold maxLen; omega) (by omega) (by simp; omega) (w4.heap.size + 1) (by simp) ?_; intro g cap w5 hown5 hgrow5 hat5 hg5; have hB5 := node_grown hP4.blk hown hgrow5; obtain ⟨hz5, -, -, -, q3, -, -, e3⟩ := node_cells hB5) | (go_simp; go_at_call 83; refine HC.out.mono ?_; rintro e w4 ⟨hfr4, hat4, b4, rfl, hrep4⟩; have hP4 := HPk.out.keep hfr4 (by omega); obtain ⟨hz4, -, -, -, p3, -, -, f3⟩ := node_cells hP4.blk; obtain ⟨vs, hown⟩ := hP4.own)))
    all_goals
      go_wp2_with fail
      go_meet
      case rel => exact kid2_end HFk.out HPk.out HMk.out (by omega) (by omega) (by omega) hfr4 hat4 hrep4 hown hown5 hgrow5 hat5
  case rest =>
    obtain ⟨hfc, hatc, x, n, c, hpc, hmc⟩ := hcut
    have HX := mkHid (And.intro hfc (And.intro hatc (And.intro hpc hmc)))
    clear hfc hatc hpc hmc HPk HMk HFk HC mk3 fk3 hmk
    obtain ⟨wd, hwd⟩ : ∃ wd, wd = wc := ⟨_, rfl⟩
    rw [← hwd] at HX ⊢
    clear hwd
    have HPk := mkHid (HX.out.2.2.1.keep (Fr.refl C.pb wd).drew (by omega))
    have HMk : Hid (∀ a q', onS (stR (E (p + 1))) B = .ok (a, q') → Made w1.heap.size wd.drew [105, 102] [] (Hs.tk C.ts p).line (.slice x n c) (kidsOf (E (p + 1)))) := fun a q' ha => by
      cases h1 : E (p + 1) with
      | error l => rw [h1] at ha; cases ha
      | ok cq =>
        obtain ⟨c0, q0⟩ := cq
        exact (HX.out.2.2.2 c0 q0 h1).keep (Fr.refl C.pb wd).drew (by omega)
    have HFk := mkHid HX.out.1.drew
    have HC := mkHid (HBB.out.1 wd.drew (stR (E (p + 1))) (HX.out.2.1.below (Below.refl _ _).drew) HBB.out.2)
    obtain ⟨hmk, -, -, -, mk3, -, -, fk3⟩ := node_cells (show wd.heap[w1.heap.size]? = _ from HPk.out.blk)
    go_wp2_with fail
    go_cut [] (fun wc => Kid2 C w (w1.heap.size) [105, 102] [] ((Hs.tk C.ts p).line) (kidsOf (E (p + 1))) (1 + 1) (onS (stR (E (p + 1))) B) wc)
    case first =>
      go_region_law ((first | (refine step_append_lies _ (by rfl) _ _ 90 (by rfl) ((w1.heap.size) + 1) 25 i0 _ 1 8 Tryz.underlying90 hi hz0 hz1 hz2 rfl (by decide) (.slice x n c) (1) vs (by rfl) (hown.alloc _) ⟨w4.heap.size, 0, none⟩ 1 1 [.pointer (some ⟨b4, 0, none⟩)] (by rfl) (by rfl) (news_ptr _ _) (one_ptr _) (by decide) (by unfold maxLen; omega) (by omega) (by simp; omega) (w4.heap.size + 1) (by simp) ?_; intro g cap w5 hown5 hgrow5 hat5 hg5; have hB5 := node_grown hP4.blk hown hgrow5; obtain ⟨hz5, -, -, -, q3, -, -, e3⟩ := node_cells hB5) | (go_simp; go_at_call 202; refine HC.out.mono ?_; rintro e w4 ⟨hfr4, hat4, b4, rfl, hrep4⟩; have hP4 := HPk.out.keep hfr4 (by omega); obtain ⟨hz4, -, -, -, p3, -, -, f3⟩ := node_cells hP4.blk; obtain ⟨vs, hown⟩ := hP4.own)))
      all_goals
        go_wp2_with fail
        go_meet
        case rel => exact kid2_end HFk.out HPk.out HMk.out (by omega) (by omega) (by omega) hfr4 hat4 hrep4 hown hown5 hgrow5 hat5
    case rest =>
      have HK2 := mkHid hcut
      have hxe := eat_S C wc _ ⟨#[101, 108, 115, 101]⟩ hcut.at_
      rw [show isS C (stR (onS (stR (E (p + 1))) B)) (⟨#[101, 108, 115, 101]⟩ : ByteArray).data.toList = false from HEL.out] at hxe
      have HXE := mkHid hxe
      clear hcut HPk HMk HFk HC mk3 fk3 hmk hxe
      go_wp2_with fail
      refine HXE.out.mono ?_
      rintro e w6 ⟨rfl, hat6, hfr6⟩
      obtain ⟨f1, f2, f3⟩ := HK2.out
      obtain ⟨x', n', c', f4, f5⟩ := f3
      have HY := mkHid (And.intro (f1.trans hfr6) (And.intro hat6 (And.intro (f4.keep hfr6 (by omega)) (fun a q ha => (f5 a q ha).keep hfr6 (by omega)))))
      clear f1 f2 f4 f5 hat6 hfr6 HK2 HXE
      go_wp2_with fail
      go_ret
      obtain ⟨y1, y2, y3, y4⟩ := HY.out
      refine kid_last (len := 2) ⟨y1, ?_, x', n', c', y3, y4⟩ hsz1
      rw [show eatS C (stR (onS (stR (E (p + 1))) B)) (⟨#[101, 108, 115, 101]⟩ : ByteArray).data.toList = stR (onS (stR (E (p + 1))) B) from eatS_same HEL.out] at y2
      exact y2

set_option maxRecDepth 100000 in
set_option maxHeartbeats 4000000 in
theorem stmt_if_true (C : Ctx) (w : World) (p : Nat) (h : At C w p 0) (k0 : Hs.isT C.ts p [118, 97, 114] = false) (k1 : Hs.isT C.ts p [105, 102] = true) (E B : Nat → Hs.R Hs.Ast) (HE : Reads C 83 E) (HB : Reads C 202 B) (hr : E (p + 1) ≠ .error 0) (hr2 : onS (stR (E (p + 1))) B ≠ .error 0) (hel : isS C (stR (onS (stR (E (p + 1))) B)) [101, 108, 115, 101] = true) (hr3 : onS (eatS C (stR (onS (stR (E (p + 1))) B)) [101, 108, 115, 101]) B ≠ .error 0) :
    Calls Tryz.prog 260 #[.pointer (some ⟨C.pb, 0, none⟩)] w (PostN C w (Hs.mapR (fun v => Hs.node [105, 102] (Hs.tk C.ts p).line [] (kidsIf (E (p + 1)) (onS (stR (E (p + 1))) B) ++ [v])) (onS (eatS C (stR (onS (stR (E (p + 1))) B)) [101, 108, 115, 101]) B))) := by
  obtain ⟨hpb, hgb, hlen⟩ := AtS.facts (S := .ok p) h
  obtain ⟨i0, hi, hz0, hz1, hz2⟩ := info_parts infoPtr
  have HP := mkHid (peek_any C w p 0 h)
  have HA := mkHid h
  have HEE := mkHid (And.intro HE hr)
  have HBB := mkHid (And.intro HB (And.intro hr2 hr3))
  have HEL := mkHid hel
  have HK := mkHid (And.intro k0 k1)
  have hfl := fld_line
  clear h k0 k1 HE hr HB hr2 hel hr3
  go_enter Tryz.func260, Tryz.ntmps260
  go_wp2_with fail
  refine HP.out.mono ?_
  rw [tokV]
  rintro e w1 ⟨rfl, hb⟩
  have hsz1 := hb.size
  have HA0 := mkHid (fun o => (HA.out.below hb).below ((Below.refl _ _).alloc (Nat.le_refl _) o))
  have HF0 := mkHid (fun o => (Fr.below (pb := C.pb) hb).alloc o)
  clear hb HP
  go_wp2_with fail
  refine (eat_no C _ p 0 ⟨#[118, 97, 114]⟩ (HA0.out _) (by rw [show Hs.isT C.ts p (⟨#[118, 97, 114]⟩ : ByteArray).data.toList = false from HK.out.1]; rfl)).mono ?_
  rintro e v1 ⟨rfl, hbx⟩
  have HA1 := mkHid ((HA0.out _).below hbx)
  have HF1 := mkHid ((HF0.out _).trans_below hbx)
  have hnn := (hbx.block w1.heap.size (by simp)).trans (heap_first w1 _ rfl _)
  have HN1 := mkHid hnn
  clear hbx hnn
  have hzz1 := lt_of_block HN1.out
  go_wp2_with fail
  refine (eat_ok C _ p ⟨#[105, 102]⟩ HA1.out HK.out.2).mono ?_
  rintro e v2 ⟨rfl, hat, hfr⟩
  have HA2 := mkHid hat
  have HF2 := mkHid (HF1.out.trans hfr)
  have hnn := (hfr.block w1.heap.size (by omega) (by omega)).trans HN1.out
  have HN2 := mkHid hnn
  clear hat hfr hnn
  have hzz2 := lt_of_block HN2.out
  obtain ⟨hm0, m0, m1, m2, m3, f0, f2, f3⟩ := node_cells HN2.out
  have HBW := mkHid (heap_setCell_at (i := 0) (u := .string ⟨#[105, 102]⟩) HN2.out)
  have HAW := mkHid (HA2.out.other (i := 0) (show w1.heap.size ≠ C.pb by omega) (show w1.heap.size ≠ C.g by omega) (.string ⟨#[105, 102]⟩))
  have HFW := mkHid (Fr.setCell (p := ⟨w1.heap.size, 0, none⟩) HF2.out (Or.inr hsz1) (.string ⟨#[105, 102]⟩))
  go_wp2_with fail
  clear m0 m1 m2 m3 f0 f2 f3
  generalize v2.setCell ⟨w1.heap.size, 0, none⟩ (.string ⟨#[105, 102]⟩) = W at *
  have HM := mkHid (Made.new (op := [105, 102]) (te := []) HBW.out)
  have HPk := mkHid (HM.out.part.keep (Fr.refl C.pb W).drew (by omega))
  have HMk : Hid (∀ a q', E (p + 1) = .ok (a, q') → Made w1.heap.size W.drew [105, 102] [] (Hs.tk C.ts p).line (.slice none 0 0) ([])) := fun _ _ _ => HM.out.keep (Fr.refl C.pb W).drew (by omega)
  have HFk := mkHid HFW.out.drew
  have HC := mkHid (HEE.out.1 W.drew (.ok (p + 1)) (HAW.out.below (Below.refl _ _).drew) HEE.out.2)
  obtain ⟨hmk, -, -, -, mk3, -, -, fk3⟩ := node_cells (show W.heap[w1.heap.size]? = _ from HPk.out.blk)
  go_wp2_with fail
  go_cut [] (fun wc => Kid2 C w (w1.heap.size) [105, 102] [] ((Hs.tk C.ts p).line) ([]) (0 + 1) (E (p + 1)) wc)
  case first =>
    go_region_law ((first | (refine step_append_lies _ (by rfl) _ _ 90 (by rfl) ((w1.heap.size) + 1) 25 i0 _ 1 8 Tryz.underlying90 hi hz0 hz1 hz2 rfl (by decide) (.slice none 0 0) (0) vs (by rfl) (hown.alloc _) ⟨w4.heap.size, 0, none⟩ 1 1 [.pointer (some ⟨b4, 0, none⟩)] (by rfl) (by rfl) (news_ptr _ _) (one_ptr _) (by decide) (by unfold maxLen; omega) (by omega) (by simp; omega) (w4.heap.size + 1) (by simp) ?_; intro g cap w5 hown5 hgrow5 hat5 hg5; have hB5 := node_grown hP4.blk hown hgrow5; obtain ⟨hz5, -, -, -, q3, -, -, e3⟩ := node_cells hB5) | (go_simp; go_at_call 83; refine HC.out.mono ?_; rintro e w4 ⟨hfr4, hat4, b4, rfl, hrep4⟩; have hP4 := HPk.out.keep hfr4 (by omega); obtain ⟨hz4, -, -, -, p3, -, -, f3⟩ := node_cells hP4.blk; obtain ⟨vs, hown⟩ := hP4.own)))
    all_goals
      go_wp2_with fail
      go_meet
      case rel => exact kid2_end HFk.out HPk.out HMk.out (by omega) (by omega) (by omega) hfr4 hat4 hrep4 hown hown5 hgrow5 hat5
  case rest =>
    obtain ⟨hfc, hatc, x, n, c, hpc, hmc⟩ := hcut
    have HX := mkHid (And.intro hfc (And.intro hatc (And.intro hpc hmc)))
    clear hfc hatc hpc hmc HPk HMk HFk HC mk3 fk3 hmk
    obtain ⟨wd, hwd⟩ : ∃ wd, wd = wc := ⟨_, rfl⟩
    rw [← hwd] at HX ⊢
    clear hwd
    have HPk := mkHid (HX.out.2.2.1.keep (Fr.refl C.pb wd).drew (by omega))
    have HMk : Hid (∀ a q', onS (stR (E (p + 1))) B = .ok (a, q') → Made w1.heap.size wd.drew [105, 102] [] (Hs.tk C.ts p).line (.slice x n c) (kidsOf (E (p + 1)))) := fun a q' ha => by
      cases h1 : E (p + 1) with
      | error l => rw [h1] at ha; cases ha
      | ok cq =>
        obtain ⟨c0, q0⟩ := cq
        exact (HX.out.2.2.2 c0 q0 h1).keep (Fr.refl C.pb wd).drew (by omega)
    have HFk := mkHid HX.out.1.drew
    have HC := mkHid (HBB.out.1 wd.drew (stR (E (p + 1))) (HX.out.2.1.below (Below.refl _ _).drew) HBB.out.2.1)
    obtain ⟨hmk, -, -, -, mk3, -, -, fk3⟩ := node_cells (show wd.heap[w1.heap.size]? = _ from HPk.out.blk)
    go_wp2_with fail
    go_cut [] (fun wc => Kid2 C w (w1.heap.size) [105, 102] [] ((Hs.tk C.ts p).line) (kidsOf (E (p + 1))) (1 + 1) (onS (stR (E (p + 1))) B) wc)
    case first =>
      go_region_law ((first | (refine step_append_lies _ (by rfl) _ _ 90 (by rfl) ((w1.heap.size) + 1) 25 i0 _ 1 8 Tryz.underlying90 hi hz0 hz1 hz2 rfl (by decide) (.slice x n c) (1) vs (by rfl) (hown.alloc _) ⟨w4.heap.size, 0, none⟩ 1 1 [.pointer (some ⟨b4, 0, none⟩)] (by rfl) (by rfl) (news_ptr _ _) (one_ptr _) (by decide) (by unfold maxLen; omega) (by omega) (by simp; omega) (w4.heap.size + 1) (by simp) ?_; intro g cap w5 hown5 hgrow5 hat5 hg5; have hB5 := node_grown hP4.blk hown hgrow5; obtain ⟨hz5, -, -, -, q3, -, -, e3⟩ := node_cells hB5) | (go_simp; go_at_call 202; refine HC.out.mono ?_; rintro e w4 ⟨hfr4, hat4, b4, rfl, hrep4⟩; have hP4 := HPk.out.keep hfr4 (by omega); obtain ⟨hz4, -, -, -, p3, -, -, f3⟩ := node_cells hP4.blk; obtain ⟨vs, hown⟩ := hP4.own)))
      all_goals
        go_wp2_with fail
        go_meet
        case rel => exact kid2_end HFk.out HPk.out HMk.out (by omega) (by omega) (by omega) hfr4 hat4 hrep4 hown hown5 hgrow5 hat5
    case rest =>
      have HK2 := mkHid hcut
      have hxe := eat_S C wc _ ⟨#[101, 108, 115, 101]⟩ hcut.at_
      rw [show isS C (stR (onS (stR (E (p + 1))) B)) (⟨#[101, 108, 115, 101]⟩ : ByteArray).data.toList = true from HEL.out] at hxe
      have HXE := mkHid hxe
      clear hcut HPk HMk HFk HC mk3 fk3 hmk hxe
      go_wp2_with fail
      refine HXE.out.mono ?_
      rintro e w6 ⟨rfl, hat6, hfr6⟩
      obtain ⟨f1, f2, f3⟩ := HK2.out
      obtain ⟨x', n', c', f4, f5⟩ := f3
      have HY := mkHid (And.intro (f1.trans hfr6) (And.intro hat6 (And.intro (f4.keep hfr6 (by omega)) (fun a q ha => (f5 a q ha).keep hfr6 (by omega)))))
      clear f1 f2 f4 f5 hat6 hfr6 HK2 HXE
      have HPk := mkHid (HY.out.2.2.1.keep (Fr.refl C.pb w6).drew (by omega))
      have HMk : Hid (∀ a q', onS (eatS C (stR (onS (stR (E (p + 1))) B)) [101, 108, 115, 101]) B = .ok (a, q') → Made w1.heap.size w6.drew [105, 102] [] (Hs.tk C.ts p).line (.slice x' n' c') (kidsIf (E (p + 1)) (onS (stR (E (p + 1))) B))) := fun a q' ha => by
        cases h2 : onS (stR (E (p + 1))) B with
        | error l => rw [h2] at ha; cases ha
        | ok bq =>
          obtain ⟨b0, q1⟩ := bq
          cases h1 : E (p + 1) with
          | error l => rw [h1] at h2; cases h2
          | ok cq =>
            obtain ⟨c0, q0⟩ := cq
            have hy := HY.out.2.2.2 b0 q1 h2
            rw [h1] at hy
            exact hy.keep (Fr.refl C.pb w6).drew (by omega)
      have HFk := mkHid HY.out.1.drew
      have HC := mkHid (HBB.out.1 w6.drew (eatS C (stR (onS (stR (E (p + 1))) B)) [101, 108, 115, 101]) (HY.out.2.1.below (Below.refl _ _).drew) HBB.out.2.2)
      obtain ⟨hmk, -, -, -, mk3, -, -, fk3⟩ := node_cells (show w6.heap[w1.heap.size]? = _ from HPk.out.blk)
      go_wp2_with fail
      go_region_law ((first | (refine step_append_lies _ (by rfl) _ _ 90 (by rfl) ((w1.heap.size) + 1) 25 i0 _ 1 8 Tryz.underlying90 hi hz0 hz1 hz2 rfl (by decide) (.slice x' n' c') (2) vs (by rfl) (hown.alloc _) ⟨w4.heap.size, 0, none⟩ 1 1 [.pointer (some ⟨b4, 0, none⟩)] (by rfl) (by rfl) (news_ptr _ _) (one_ptr _) (by decide) (by unfold maxLen; omega) (by omega) (by simp; omega) (w4.heap.size + 1) (by simp) ?_; intro g cap w5 hown5 hgrow5 hat5 hg5; have hB5 := node_grown hP4.blk hown hgrow5; obtain ⟨hz5, -, -, -, q3, -, -, e3⟩ := node_cells hB5) | (go_simp; go_at_call 202; refine HC.out.mono ?_; rintro e w4 ⟨hfr4, hat4, b4, rfl, hrep4⟩; have hP4 := HPk.out.keep hfr4 (by omega); obtain ⟨hz4, -, -, -, p3, -, -, f3⟩ := node_cells hP4.blk; obtain ⟨vs, hown⟩ := hP4.own)))
      all_goals
        have hcut2 : Kid2 C w w1.heap.size [105, 102] [] (Hs.tk C.ts p).line (kidsIf (E (p + 1)) (onS (stR (E (p + 1))) B)) (2 + 1) (onS (eatS C (stR (onS (stR (E (p + 1))) B)) [101, 108, 115, 101]) B) _ := kid2_end HFk.out HPk.out HMk.out (by omega) (by omega) (by omega) hfr4 hat4 hrep4 hown hown5 hgrow5 hat5
        have HCUT := mkHid hcut2
        clear hcut2 hfr4 hat4 hrep4 hown hown5 hgrow5 hat5 hP4 hB5
        go_wp2_with fail
        go_ret
        exact kid_last HCUT.out hsz1

end Go.Proofs.YtblbkfdhjfppkaaGreatDoor
