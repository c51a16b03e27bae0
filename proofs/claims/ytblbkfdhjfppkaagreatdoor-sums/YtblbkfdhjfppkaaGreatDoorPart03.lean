/- Contracts of the program: expressions. -/
import Derived.Test.YtblbkfdhjfppkaaGreatDoorPart02
namespace Go.Proofs.YtblbkfdhjfppkaaGreatDoor
open Go.RowKit
theorem chain_call (C : Ctx) (L : Nat → Hs.R Hs.Ast) (F : Nat) (hcf : ∀ args w, Sem.run Tryz.prog (callFunc F args) w = .ok (.enter F args) w) (HF : PReads C F L) (lv : Nat) (h2 : lv ≠ 2) (h9 : lv ≠ 9) (ops : List (List UInt8)) (hops : ∀ x, x ∈ ops ↔ Hs.levelOf x = lv) (hlen : ops.length ≤ 100) (w : World) (p : Nat) (h : PAt C w p) (n : Nat) (hn : n = ops.length) (cs : Array Value) (hcs : cs = (ops.map fun x => Value.string (bs x)).toArray)
    (hne : Hs.bindR (L p) (Hs.levelLoop L C.ts lv (C.ts.length + 1)) ≠ .error 0) :
    Calls Tryz.prog 227 #[.pointer (some ⟨C.pb, 0, none⟩), .func (.func F) #[.pointer (some ⟨C.pb, 0, none⟩)] #[], .slice (some ⟨w.heap.size, 0, none⟩) n n] (w.alloc (.cells cs 9)) (OutN C w (Hs.bindR (L p) (Hs.levelLoop L C.ts lv (C.ts.length + 1)))) := by
  subst hn
  have hpb := h.pb_lt
  refine (chain_any C L F hcf HF lv h2 h9 ops hops hlen _ p (h.alloc _) w.heap.size ops.length (by simp) (by omega) ?_ hne).mono fun e w' ⟨h1, h2⟩ => ⟨((Fr.refl _ _).alloc _).trans h1, ?_⟩
  · intro i hi
    refine cell_of_block (heap_first _ _ rfl _) ?_
    rw [hcs]
    simp [hi]
  · cases hb : Hs.bindR (L p) (Hs.levelLoop L C.ts lv (C.ts.length + 1)) with
    | error l => rw [hb] at h2; exact h2
    | ok aq =>
      rw [hb] at h2
      obtain ⟨hp, v, hv, hn⟩ := h2
      exact ⟨hp, v, hv, hn.grow (fun _ _ _ => rfl) (by simp) (Nat.le_refl _)⟩
theorem makeF (fn : Fn) (a b : Array Value) (w : World) : (Instr.makeFunc fn a b).run Tryz.prog w = .ok (.func fn a b) w := rfl
set_option maxRecDepth 100000 in
set_option maxHeartbeats 2000000 in
theorem product_any (C : Ctx) (L : Nat → Hs.R Hs.Ast) (HL : PReads C 345 L) : PReads C 336 (fun p => Hs.bindR (L p) (Hs.levelLoop L C.ts 4 (C.ts.length + 1))) := by
  intro w p h hne
  have HC := mkHid (chain_call C L 345 (fun _ _ => rfl) HL 4 (by decide) (by decide) [[42], [47], [37]] ops4 (by decide) w p h 3 rfl #[.string ⟨#[42]⟩, .string ⟨#[47]⟩, .string ⟨#[37]⟩] rfl hne)
  have hmf := makeF
  show Calls _ _ _ _ (OutN C w (Hs.bindR (L p) (Hs.levelLoop L C.ts 4 (C.ts.length + 1))))
  generalize Hs.bindR (L p) (Hs.levelLoop L C.ts 4 (C.ts.length + 1)) = r at *
  clear h hne HL
  go_enter Tryz.func336, Tryz.ntmps336
  go_wp2_with fail
  refine HC.out.mono ?_
  rintro e w1 ⟨hf1, ho1⟩
  cases r with
  | error l =>
    obtain rfl : e = faultE 4 l := ho1
    have HF1 := mkHid hf1
    clear hf1 hmf
    go_wp2_with fail
    exact ⟨rfl, Out.err rfl HF1.out⟩
  | ok aq =>
    obtain ⟨a, q⟩ := aq
    obtain ⟨hp1, v1, rfl, hn1⟩ := ho1
    have HF1 := mkHid hf1
    have HP1 := mkHid hp1
    have HN1 := mkHid hn1
    clear hf1 hp1 hn1 hmf
    go_wp2_with fail
    go_ret
    exact Out.ok rfl HF1.out HP1.out HN1.out
set_option maxRecDepth 100000 in
set_option maxHeartbeats 2000000 in
theorem sum_any (C : Ctx) (L : Nat → Hs.R Hs.Ast) (HL : PReads C 336 L) : PReads C 323 (fun p => Hs.bindR (L p) (Hs.levelLoop L C.ts 3 (C.ts.length + 1))) := by
  intro w p h hne
  have HC := mkHid (chain_call C L 336 (fun _ _ => rfl) HL 3 (by decide) (by decide) [[43], [45]] ops3 (by decide) w p h 2 rfl #[.string ⟨#[43]⟩, .string ⟨#[45]⟩] rfl hne)
  have hmf := makeF
  show Calls _ _ _ _ (OutN C w (Hs.bindR (L p) (Hs.levelLoop L C.ts 3 (C.ts.length + 1))))
  generalize Hs.bindR (L p) (Hs.levelLoop L C.ts 3 (C.ts.length + 1)) = r at *
  clear h hne HL
  go_enter Tryz.func323, Tryz.ntmps323
  go_wp2_with fail
  refine HC.out.mono ?_
  rintro e w1 ⟨hf1, ho1⟩
  cases r with
  | error l =>
    obtain rfl : e = faultE 4 l := ho1
    have HF1 := mkHid hf1
    clear hf1 hmf
    go_wp2_with fail
    exact ⟨rfl, Out.err rfl HF1.out⟩
  | ok aq =>
    obtain ⟨a, q⟩ := aq
    obtain ⟨hp1, v1, rfl, hn1⟩ := ho1
    have HF1 := mkHid hf1
    have HP1 := mkHid hp1
    have HN1 := mkHid hn1
    clear hf1 hp1 hn1 hmf
    go_wp2_with fail
    go_ret
    exact Out.ok rfl HF1.out HP1.out HN1.out
set_option maxRecDepth 100000 in
set_option maxHeartbeats 2000000 in
theorem and_any (C : Ctx) (L : Nat → Hs.R Hs.Ast) (HL : PReads C 285 L) : PReads C 228 (fun p => Hs.bindR (L p) (Hs.levelLoop L C.ts 1 (C.ts.length + 1))) := by
  intro w p h hne
  have HC := mkHid (chain_call C L 285 (fun _ _ => rfl) HL 1 (by decide) (by decide) [[38, 38]] ops1 (by decide) w p h 1 rfl #[.string ⟨#[38, 38]⟩] rfl hne)
  have hmf := makeF
  show Calls _ _ _ _ (OutN C w (Hs.bindR (L p) (Hs.levelLoop L C.ts 1 (C.ts.length + 1))))
  generalize Hs.bindR (L p) (Hs.levelLoop L C.ts 1 (C.ts.length + 1)) = r at *
  clear h hne HL
  go_enter Tryz.func228, Tryz.ntmps228
  go_wp2_with fail
  refine HC.out.mono ?_
  rintro e w1 ⟨hf1, ho1⟩
  cases r with
  | error l =>
    obtain rfl : e = faultE 4 l := ho1
    have HF1 := mkHid hf1
    clear hf1 hmf
    go_wp2_with fail
    exact ⟨rfl, Out.err rfl HF1.out⟩
  | ok aq =>
    obtain ⟨a, q⟩ := aq
    obtain ⟨hp1, v1, rfl, hn1⟩ := ho1
    have HF1 := mkHid hf1
    have HP1 := mkHid hp1
    have HN1 := mkHid hn1
    clear hf1 hp1 hn1 hmf
    go_wp2_with fail
    go_ret
    exact Out.ok rfl HF1.out HP1.out HN1.out
set_option maxRecDepth 100000 in
set_option maxHeartbeats 2000000 in
theorem expr_any (C : Ctx) (L : Nat → Hs.R Hs.Ast) (HL : PReads C 228 L) : PReads C 164 (fun p => Hs.bindR (L p) (Hs.levelLoop L C.ts 0 (C.ts.length + 1))) := by
  intro w p h hne
  have HC := mkHid (chain_call C L 228 (fun _ _ => rfl) HL 0 (by decide) (by decide) [[124, 124]] ops0 (by decide) w p h 1 rfl #[.string ⟨#[124, 124]⟩] rfl hne)
  have hmf := makeF
  show Calls _ _ _ _ (OutN C w (Hs.bindR (L p) (Hs.levelLoop L C.ts 0 (C.ts.length + 1))))
  generalize Hs.bindR (L p) (Hs.levelLoop L C.ts 0 (C.ts.length + 1)) = r at *
  clear h hne HL
  go_enter Tryz.func164, Tryz.ntmps164
  go_wp2_with fail
  refine HC.out.mono ?_
  rintro e w1 ⟨hf1, ho1⟩
  cases r with
  | error l =>
    obtain rfl : e = faultE 4 l := ho1
    have HF1 := mkHid hf1
    clear hf1 hmf
    go_wp2_with fail
    exact ⟨rfl, Out.err rfl HF1.out⟩
  | ok aq =>
    obtain ⟨a, q⟩ := aq
    obtain ⟨hp1, v1, rfl, hn1⟩ := ho1
    have HF1 := mkHid hf1
    have HP1 := mkHid hp1
    have HN1 := mkHid hn1
    clear hf1 hp1 hn1 hmf
    go_wp2_with fail
    go_ret
    exact Out.ok rfl HF1.out HP1.out HN1.out
set_option maxRecDepth 100000 in
set_option maxHeartbeats 2000000 in
theorem relation_any (C : Ctx) (L : Nat → Hs.R Hs.Ast) (HL : PReads C 323 L) : PReads C 285 (fun p => Hs.bindR (L p) (Hs.levelLoop L C.ts 2 (C.ts.length + 1))) := by
  intro w p h hne
  have HPL := mkHid (place_any C w p h)
  have hne1 : L p ≠ .error 0 := fun e => hne (by show Hs.bindR _ _ = _; rw [e]; rfl)
  have HX := mkHid (fun w1 (hb : Below w.heap.size w w1) => HL w1 p (h.below hb) hne1)
  have HFF := mkHid HL
  have hpb := h.pb_lt
  obtain ⟨r, hr⟩ : ∃ r, r = Hs.bindR (L p) (Hs.levelLoop L C.ts 2 (C.ts.length + 1)) := ⟨_, rfl⟩
  have hne2 : r ≠ .error 0 := hr ▸ hne
  show Calls _ _ _ _ (OutN C w (Hs.bindR (L p) (Hs.levelLoop L C.ts 2 (C.ts.length + 1))))
  rw [← hr]
  have HR := mkHid hr
  have HNE := mkHid hne2
  clear h HL hne hr hne1 hne2
  generalize (Hs.tk C.ts p).line = pl at *
  cases hpr : L p with
  | error l =>
    have HL : Hid (r = .error l) := by show _ = _; rw [HR.out, hpr]; rfl
    rw [hpr] at HX
    clear hpr HR
    go_enter Tryz.func285, Tryz.ntmps285
    go_wp2_with fail
    refine HPL.out.mono ?_
    rintro e w1 ⟨rfl, hb1⟩
    have HB1 := mkHid hb1
    clear hb1
    go_wp2_with fail
    refine (HX.out w1 HB1.out).mono ?_
    rintro e w2 ⟨hf2, rfl⟩
    have HF2 := mkHid ((Fr.below HB1.out).trans hf2)
    clear hf2
    go_wp2_with fail
    exact ⟨rfl, Out.err HL.out HF2.out⟩
  | ok aq =>
    obtain ⟨a, q⟩ := aq
    have hr3 : r = Hs.levelLoop L C.ts 2 (C.ts.length + 1) a q := by rw [HR.out, hpr]; rfl
    rw [hpr] at HX
    clear hpr HR
    have HR3 := mkHid hr3
    clear hr3
    go_enter Tryz.func285, Tryz.ntmps285
    go_wp2_with fail
    refine HPL.out.mono ?_
    rintro e w1 ⟨rfl, hb1⟩
    have HB1 := mkHid hb1
    clear hb1
    go_wp2_with fail
    refine (HX.out w1 HB1.out).mono ?_
    rintro e w2 ⟨hf2, hp2, v2, rfl, hn2⟩
    have hs1 := HB1.out.size
    have hs2 := hf2.size
    have HN3 := mkHid (hn2.grow (lo' := w.heap.size) (w' := w2.alloc (.cells #[.int .i64 pl] 209)) (hi' := w2.heap.size + 1) (fun k _ h2 => Below.heap_alloc _ _ _ h2) hs1 (by simp))
    have HF3 := mkHid (((Fr.below HB1.out).trans hf2).alloc (.cells #[.int .i64 pl] 209))
    have HP3 := mkHid (PlB.new w2 pl)
    have HA3 := mkHid (hp2.alloc (.cells #[.int .i64 pl] 209))
    obtain ⟨T3, cs3, rfl⟩ := hn2.form
    have HO := mkHid (oneOf_level (hp2.tsk.tk q hp2.lt) 2 (by decide) [[61, 61], [33, 61], [60], [60, 61]] ops2)
    clear hf2 hp2 hn2 HX HPL HB1
    generalize hoo : oneOf C.ts q [[61, 61], [33, 61], [60], [60, 61]] = oo at *
    have HM := mkHid (marks_any C _ q HA3.out [[61, 61], [33, 61], [60], [60, 61]] (by decide) (by intro x hx; simp at hx; rcases hx with rfl | rfl | rfl | rfl <;> simp) oo hoo (w2.heap.size + 1) (by simp) 4 rfl #[.string ⟨#[61, 61]⟩, .string ⟨#[33, 61]⟩, .string ⟨#[60]⟩, .string ⟨#[60, 61]⟩] rfl)
    generalize hqo : (if oo = [] then q else q + 1) = qo at *
    have HQO := mkHid hqo
    clear hqo hoo
    cases hit : ((Hs.tk C.ts q).sort == 112 && Hs.levelOf (Hs.tk C.ts q).text == 2)
    · have HL : Hid (r = .ok (a, q)) := by show _ = _; rw [HR3.out]; exact lev_no hit
      obtain rfl : oo = [] := by rw [HO.out, hit]; rfl
      obtain rfl : q = qo := HQO.out
      clear hit HR3 HO HQO
      simp only [bs] at HM
      go_wp2_with fail
      refine HM.out.mono ?_
      rintro e w4 ⟨rfl, hp4, hf4⟩
      have HF4 := mkHid hf4
      have HP4 := mkHid hp4
      have hs4 := hf4.size
      simp at hs4
      clear hf4 hp4
      go_wp2_with fail
      go_ret
      exact Out.ok HL.out (HF3.out.trans HF4.out) HP4.out (HN3.out.grow (fun k h1 h2 => HF4.out.block k (by simpa using h2) (by omega)) (Nat.le_refl _) (by omega))
    · obtain ⟨rE, hrE⟩ : ∃ rE, rE = L (q + 1) := ⟨_, rfl⟩
      have HR4 : Hid (r = Hs.mapR (fun b => Hs.node (Hs.tk C.ts q).text (Hs.tk C.ts q).line [] [a, b]) rE) := by
        show _ = _
        rw [HR3.out, Hs.levelLoop, if_pos hit, hrE]
        cases L (q + 1) <;> rfl
      have hoo : oo = (Hs.tk C.ts q).text := by rw [HO.out, hit]; rfl
      have hit' : (Hs.tk C.ts q).sort = 112 ∧ Hs.levelOf (Hs.tk C.ts q).text = 2 := by simpa using hit
      have hon : oo ≠ [] := by
        intro e
        rw [← hoo, e] at hit'
        exact absurd hit'.2 (by decide)
      have HLO : Hid (Hs.levelOf (Hs.tk C.ts q).text ≠ 9) := by show _ ≠ _; rw [hit'.2]; decide
      obtain rfl : q + 1 = qo := by rw [← HQO.out, if_neg hon]
      have hE0 : L (q + 1) ≠ .error 0 := fun e => HNE.out (by rw [HR4.out, hrE, e]; rfl)
      have hoe : (bs oo).toList.isEmpty = false := by
        rw [bs_toList]
        cases oo with
        | nil => exact absurd rfl hon
        | cons x l => rfl
      have HRE := mkHid hrE
      have HOO := mkHid hoo
      clear hit HR3 hrE HO HQO hit' hoo
      go_wp2_with fail
      refine HM.out.mono ?_
      rintro e w4 ⟨rfl, hp4, hf4⟩
      have HX := mkHid (HFF.out w4.drew (q + 1) hp4.drew hE0)
      rw [← HRE.out] at HX
      have hs4 := hf4.size
      simp at hs4
      have HN4 := mkHid (HN3.out.grow (lo' := w.heap.size) (hi' := w4.heap.size) (fun k h1 h2 => hf4.block k (by simpa using h2) (by omega)) (Nat.le_refl _) (by omega))
      have HP4 := mkHid (hf4.keepB HP3.out (by omega))
      have HF4 := mkHid (HF3.out.trans hf4)
      have c0 := cell_of_block HP4.out (i := 0) rfl
      have hz4 := lt_of_block HP4.out
      clear hf4 hp4 HN3 HP3 HF3 HM hE0 hon
      cases rE with
      | error l =>
        have HL : Hid (r = .error l) := HR4.out
        go_wp2_with fail
        go_region_law (refine thrown .nilIface ?_ ?_; (focus go_simp; go_at_call 323; refine HX.out.mono ?_; rintro e w5 ⟨hf5, rfl⟩; exact And.intro rfl (Out.err HL.out (HF4.out.drew.trans hf5))); intro hfalse)
        all_goals exact hfalse.out.elim
      | ok iq =>
        obtain ⟨i, q5⟩ := iq
        have HL : Hid (r = .ok (Hs.node (Hs.tk C.ts q).text (Hs.tk C.ts q).line [] [a, i], q5)) := HR4.out
        clear HR4
        go_wp2_with fail
        go_region_law (go_simp; go_at_call 323; refine HX.out.mono ?_; rintro e w5 ⟨hf5, hp5, v5, rfl, hn5⟩; obtain ⟨T5, cs5, rfl⟩ := hn5.form; have HN5 := mkHid hn5; have HF5 := mkHid hf5; have HA5 := mkHid hp5; have HP5 := mkHid (((Fr.refl C.pb w4).drew.trans hf5).keepB HP4.out (by omega)); have d0 := cell_of_block HP5.out (i := 0) rfl; have hz5 := lt_of_block HP5.out; clear hf5 hp5 hn5)
        all_goals (go_wp2_with fail; go_ret)
        all_goals exact Out.ok HL.out (HF4.out.drew.trans HF5.out) HA5.out (PN.mk (Or.inr (Or.inr (Or.inr (Or.inr (Or.inr (Or.inr (Or.inr (Or.inr (Or.inl ⟨rfl, pl, _, _, a, i, by rw [HOO.out]; rfl, HLO.out, rfl, rfl⟩))))))))) (fun p hp => by
              simp only [List.mem_cons, List.not_mem_nil, or_false] at hp
              rcases hp with rfl | rfl
              · exact Prt.ok.node (HN4.out.grow (fun k h1 h2 => HF5.out.block k h2 (by omega)) (Nat.le_refl _) HF5.out.size)
              · exact Prt.ok.node (HN5.out.grow (fun _ _ _ => rfl) (by have := HF4.out.size; exact this) (Nat.le_refl _))))
theorem expr_any' (C : Ctx) : ∀ f, PReads C 164 (Hs.exprP C.ts f)
  | 0 => fun _ _ _ hne => absurd rfl hne
  | f + 1 => fun w p h hne => expr_any C (Hs.levelP (Hs.exprP C.ts f) C.ts 4) (and_any C (Hs.levelP (Hs.exprP C.ts f) C.ts 3) (relation_any C (Hs.levelP (Hs.exprP C.ts f) C.ts 2) (sum_any C (Hs.levelP (Hs.exprP C.ts f) C.ts 1) (product_any C (Hs.levelP (Hs.exprP C.ts f) C.ts 0) (unary_any C (Hs.exprP C.ts f) (expr_any' C f) (C.ts.length + 1)))))) w p h hne
end Go.Proofs.YtblbkfdhjfppkaaGreatDoor

/- Contracts of the program: the ends of statements; calls and assignments. -/
namespace Go.Proofs.YtblbkfdhjfppkaaGreatDoor
open Go.RowKit
theorem tt_map {α β : Type} (ts : List Hs.Tok) (x : List UInt8) (f : α → β) (r : Hs.R α) : Hs.thenTake ts x (Hs.mapR f r) = Hs.mapR f (Hs.thenTake ts x r) := by
  cases r with
  | error l => rfl
  | ok aq =>
    obtain ⟨a, q⟩ := aq
    unfold Hs.thenTake Hs.mapR
    simp only
    split <;> rfl
set_option maxRecDepth 100000 in
set_option maxHeartbeats 1000000 in
theorem last_any (C : Ctx) (E : Nat → Hs.R Hs.Ast) (HE : PReads C 164 E) : PReads C 302 (fun p => Hs.thenTake C.ts [59] (E p)) := by
  intro w p h hne
  have hE0 : E p ≠ .error 0 := fun e => hne (by show Hs.thenTake _ _ _ = _; rw [e]; rfl)
  have HX := mkHid (HE w p h hE0)
  have hpb := h.pb_lt
  show Calls _ _ _ _ (OutN C w (Hs.thenTake C.ts [59] (E p)))
  obtain ⟨r, hr⟩ : ∃ r, r = Hs.thenTake C.ts [59] (E p) := ⟨_, rfl⟩
  rw [← hr]
  generalize E p = rE at *
  have HR := mkHid hr
  clear h HE hne hE0 hr
  cases rE with
  | error l =>
    have HL : Hid (r = .error l) := HR.out
    go_enter Tryz.func302, Tryz.ntmps302
    go_wp2_with fail
    refine HX.out.mono ?_
    rintro e w1 ⟨hf1, rfl⟩
    have HF1 := mkHid hf1
    clear hf1
    go_wp2_with fail
    exact ⟨rfl, Out.err HL.out HF1.out⟩
  | ok aq =>
    obtain ⟨a, q⟩ := aq
    go_enter Tryz.func302, Tryz.ntmps302
    go_wp2_with fail
    refine HX.out.mono ?_
    rintro e w1 ⟨hf1, hp1, v1, rfl, hn1⟩
    obtain ⟨T1, cs1, rfl⟩ := hn1.form
    have HXP := mkHid (expect_any C w1 q ⟨#[59]⟩ hp1)
    have ed : (⟨#[59]⟩ : ByteArray).data.toList = [59] := rfl
    rw [ed] at HXP
    have HF1 := mkHid hf1
    have HN1 := mkHid hn1
    have hs1 := hf1.size
    clear hp1 hf1 hn1 HX ed
    cases hit : Hs.isT C.ts q [59]
    · have HL : Hid (r = .error (Hs.tk C.ts q).line) := by show _ = _; rw [HR.out]; exact tt_no hit
      rw [hit] at HXP
      clear hit HR
      go_wp2_with fail
      refine HXP.out.mono ?_
      rintro e w7 ⟨hf7, he7⟩
      obtain rfl : e = faultE 4 (Hs.tk C.ts q).line := he7
      have HF7 := mkHid (HF1.out.trans hf7)
      clear hf7
      go_wp2_with fail
      exact ⟨rfl, Out.err HL.out HF7.out⟩
    · have HL : Hid (r = .ok (a, q + 1)) := by show _ = _; rw [HR.out]; exact tt_yes hit
      rw [hit] at HXP
      clear hit HR
      go_wp2_with fail
      refine HXP.out.mono ?_
      rintro e w7 ⟨hf7, he7⟩
      obtain ⟨rfl, hp7⟩ := he7
      have HF7 := mkHid hf7
      have HP7 := mkHid hp7
      clear hf7 hp7
      go_wp2_with fail
      go_ret
      exact Out.ok HL.out (HF1.out.trans HF7.out) HP7.out (HN1.out.grow (fun k h1 h2 => HF7.out.block k h2 (by omega)) (Nat.le_refl _) HF7.out.size)
def CallMid (C : Ctx) (w : World) (q : Nat) (l : List Hs.Ast) (t : Hs.Tok) (v : Value) (wc : World) : Prop :=
  ∃ cb sv, v = .pointer (some ⟨cb, 0, none⟩) ∧ cb ≠ C.pb ∧ Fr C.pb w wc ∧ PAt C wc q ∧ wc.heap[cb]? = some (.cells #[.int .i64 t.line, .string (bs t.text), sv] 341 (0, 0)) ∧ PKid (Btw w.heap.size wc.heap.size) wc sv l
theorem CallMid.late {C : Ctx} {w w8 w9 : World} {q : Nat} {l : List Hs.Ast} {t : Hs.Tok} {sv : Value} (h8 : Fr C.pb w w8) (h9 : Fr C.pb w8 w9) (hp : PAt C w9 q) (hk : PKid (Btw w8.drew.heap.size w9.heap.size) w9 sv l) :
    CallMid C w q l t (.pointer (some ⟨w9.heap.size, 0, none⟩)) (w9.alloc (.cells #[.int .i64 t.line, .string (bs t.text), sv] 341)) := by
  have hpb := hp.pb_lt
  refine ⟨w9.heap.size, sv, rfl, by omega, (h8.trans h9).alloc _, hp.alloc _, heap_first _ _ rfl _, hk.grow (fun k _ h2 => Below.heap_alloc _ _ _ h2) ?_ (by simp)⟩
  exact h8.size
theorem CallMid.early {C : Ctx} {w w8 w9 : World} {q : Nat} {l : List Hs.Ast} {t : Hs.Tok} {sv : Value} {cs : Array Value} {o : Obj} (h8 : Fr C.pb w w8) (h9 : Fr C.pb w8 w9) (hp : PAt C w9 q) (hpb : C.pb < w8.heap.size) (hgb : C.g < w8.heap.size) (hk : PKid (Btw (w8.alloc o).drew.heap.size w9.heap.size) w9 sv l) (hb : w9.heap[w8.heap.size]? = some (.cells cs 341 (0, 0))) (hcs : cs.size = 3) :
    CallMid C w q l t (.pointer (some ⟨w8.heap.size, 0, none⟩)) (((w9.setCell ⟨w8.heap.size, 0, none⟩ (.int .i64 t.line)).setCell ⟨w8.heap.size, 1, none⟩ (.string (bs t.text))).setCell ⟨w8.heap.size, 2, none⟩ sv) := by
  have hs8 := h8.size
  have hs : ∀ (W : World) (i : Nat) (u : Value), (W.setCell ⟨w8.heap.size, i, none⟩ u).heap.size = W.heap.size := fun W i u => by simp [World.setCell]
  refine ⟨w8.heap.size, sv, rfl, by omega, (((h8.trans h9).setCell (Or.inr hs8) _).setCell (Or.inr hs8) _).setCell (Or.inr hs8) _, ((hp.other (by omega) (by omega)).other (by omega) (by omega)).other (by omega) (by omega), ?_, ?_⟩
  · rw [heap_setCell_at (heap_setCell_at (heap_setCell_at hb))]
    congr 1
    match cs, hcs with
    | ⟨[a, b, c]⟩, _ => rfl
  · refine hk.grow (fun k h1 h2 => ?_) ?_ ?_
    · have h1' : w8.heap.size < k := by have : (w8.alloc o).drew.heap.size = w8.heap.size + 1 := by simp
                                        omega
      rw [Below.heap_setCell _ _ _ _ (by show k ≠ w8.heap.size; omega), Below.heap_setCell _ _ _ _ (by show k ≠ w8.heap.size; omega), Below.heap_setCell _ _ _ _ (by show k ≠ w8.heap.size; omega)]
    · have : (w8.alloc o).drew.heap.size = w8.heap.size + 1 := by simp
      omega
    · rw [hs, hs, hs]; exact Nat.le_refl _
def PSetInv (C : Ctx) (E : Nat → Hs.R Hs.Ast) (w w0 : World) (r0 : Hs.R (List Hs.Ast)) (nb : Nat) (t : Hs.Tok) (k : Nat) (v : Value) (wr : World) : Prop :=
  Fr C.pb w wr ∧ ∃ q acc, PAt C wr q ∧ r0 = Hs.setLoop E C.ts k q acc ∧ acc.length + k ≤ 4000 ∧ PLst w0.heap.size wr v acc ∧ wr.heap[nb]? = some (.cells #[.int .i64 t.line, .string (bs t.text)] 211 (0, 0)) ∧ w0.heap.size ≤ wr.heap.size
set_option maxRecDepth 100000 in
set_option maxHeartbeats 4000000 in
theorem simple_any (C : Ctx) (E : Nat → Hs.R Hs.Ast) (HE : PReads C 164 E) : PReads C 304 (Hs.simpleP E C.ts) := by
  obtain ⟨i0, hi, hz0, hz1, hz2⟩ := info_parts infoNode
  intro w p h hne
  have HNM := mkHid (pname_any C w p h)
  have HEE := mkHid HE
  have HLA := mkHid (last_any C E HE)
  have hpb := h.pb_lt
  have hgb := h.g_lt
  have hlen := h.len
  obtain ⟨r, hr⟩ : ∃ r, r = Hs.simpleP E C.ts p := ⟨_, rfl⟩
  rw [← hr] at hne ⊢
  rw [Hs.simpleP] at hr
  have HR4 := mkHid hr
  have HNE := mkHid hne
  clear h HE hne hr
  generalize htk : Hs.tk C.ts p = t at *
  have HTK := mkHid htk
  clear htk
  cases hs : (t.sort == 110)
  · rw [hs] at HNM
    have HL : Hid (r = .error t.line) := by show _ = _; rw [HR4.out, hs]; show Hs.bad _ _ = _; unfold Hs.bad; rw [HTK.out]
    clear hs HR4
    go_enter Tryz.func304, Tryz.ntmps304
    go_wp2_with fail
    refine HNM.out.mono ?_
    rintro e w7 ⟨hf7, he7⟩
    obtain rfl : e = faultE 4 t.line := he7
    have HF7 := mkHid hf7
    clear hf7
    go_wp2_with fail
    exact ⟨rfl, Out.err HL.out HF7.out⟩
  rw [hs] at HNM
  have HR5 : Hid (r = if Hs.isT C.ts (p + 1) [40] then
      Hs.mapR (fun l => Hs.node [100, 111] t.line t.text [Hs.node [99, 97, 108, 108] t.line t.text l]) (Hs.thenTake C.ts [59] (Hs.listP E C.ts (p + 1) [40] [41]))
    else
      Hs.bindR (Hs.thenTake C.ts [61] (Hs.setLoop E C.ts (C.ts.length + 1) (p + 1) [])) fun idx q =>
        Hs.mapR (fun v => Hs.node [115, 101, 116] t.line t.text (idx ++ [v])) (Hs.thenTake C.ts [59] (E q))) := by
    show _ = _
    rw [HR4.out, hs]
    simp only [tt_map]
    rfl
  clear HR4 hs
  go_enter Tryz.func304, Tryz.ntmps304
  go_wp2_with fail
  refine HNM.out.mono ?_
  rintro e w7 ⟨hf7, he7⟩
  obtain ⟨rfl, hat7⟩ := he7
  have HF7 := mkHid (hf7.alloc (.cells #[.int .i64 t.line, .string (bs t.text)] 211))
  have HA5 := mkHid (accept_any C (w7.alloc (.cells #[.int .i64 t.line, .string (bs t.text)] 211)) (p + 1) ⟨#[40]⟩ (hat7.alloc _))
  have ed5 : (⟨#[40]⟩ : ByteArray).data.toList = [40] := rfl
  rw [ed5] at HA5
  have HNB : Hid ((w7.alloc (.cells #[.int .i64 t.line, .string (bs t.text)] 211)).heap[w7.heap.size]? = some (.cells #[.int .i64 t.line, .string (bs t.text)] 211 (0, 0))) := heap_first _ _ rfl _
  have hnb : w7.heap.size ≠ C.pb := by have := hat7.pb_lt; omega
  have hsz7 := hf7.size
  clear hf7 hat7 HNM ed5
  cases i5 : Hs.isT C.ts (p + 1) [40]
  rotate_left
  · rw [i5] at HA5
    obtain ⟨r1, hr1⟩ : ∃ r1, r1 = Hs.listIn E C.ts (p + 1 + 1) [41] := ⟨_, rfl⟩
    have HR6 : Hid (r = Hs.mapR (fun l => Hs.node [100, 111] t.line t.text [Hs.node [99, 97, 108, 108] t.line t.text l]) (Hs.thenTake C.ts [59] (Hs.thenTake C.ts [41] r1))) := by show _ = _; rw [HR5.out, i5, hr1]; unfold Hs.listP; rw [i5]; rfl
    have HR7 := mkHid hr1
    clear i5 HR5 hr1
    go_wp2_with fail
    refine HA5.out.mono ?_
    rintro e w8 ⟨rfl, hat8, hf8⟩
    have HN8 := mkHid (hf8.keepB HNB.out hnb)
    have HF8 := mkHid (HF7.out.trans hf8)
    have HV := mkHid (fun W (hW : PAt C W (p + 1 + 1)) => values_any C E HEE.out W (p + 1 + 1) ⟨#[41]⟩ hW r1 _ HR7 rfl (fun e => HNE.out (by rw [HR6.out, e]; rfl)))
    have ed6 : (⟨#[41]⟩ : ByteArray).data.toList = [41] := rfl
    rw [ed6] at HV
    have HP8 := mkHid hat8
    have c0 := cell_of_block HN8.out (i := 0) rfl
    have c1 := cell_of_block HN8.out (i := 1) rfl
    have hz8 := lt_of_block HN8.out
    have hsz8 := HF8.out.size
    clear hat8 hf8 HA5 ed6
    cases hV : Hs.thenTake C.ts [41] r1 with
    | error l =>
      rw [hV] at HV
      have HL : Hid (r = .error l) := by show _ = _; rw [HR6.out, hV]; rfl
      clear hV
      go_wp2_with fail
      go_region_law (refine thrown (.slice none 0 0) ?_ ?_; (focus go_simp; go_at_call 329; refine (HV.out _ ?_).mono ?_; (focus first | exact HP8.out.drew | exact (HP8.out.alloc _).drew); rintro e w9 ⟨hf9, rfl⟩; first | exact And.intro rfl (Out.err HL.out (HF8.out.drew.trans hf9)) | exact And.intro rfl (Out.err HL.out ((HF8.out.alloc _).drew.trans hf9))); intro hfalse)
      all_goals exact hfalse.out.elim
    | ok lq =>
      obtain ⟨l, q⟩ := lq
      rw [hV] at HV
      have HR8 : Hid (r = Hs.mapR (fun l => Hs.node [100, 111] t.line t.text [Hs.node [99, 97, 108, 108] t.line t.text l]) (Hs.thenTake C.ts [59] (.ok (l, q)))) := by show _ = _; rw [HR6.out, hV]
      clear hV HR6 HR7
      have hpb8 := HP8.out.pb_lt
      have hgb8 := HP8.out.g_lt
      go_wp2_with fail
      go_cut [4] (fun v wc => CallMid C w q l t v wc)
      case first =>
        go_region_law (go_simp; go_at_call 329; refine (HV.out _ ?_).mono ?_; (focus first | exact HP8.out.drew | exact (HP8.out.alloc _).drew); rintro e w9 ⟨hf9, hp9, v, rfl, hk⟩; obtain ⟨x, c, rfl⟩ := hk.slice; have HK := mkHid hk; have HP9 := mkHid hp9; (first | (have hf9' := hf9; have HF9 := mkHid (((Fr.refl C.pb w8).alloc (.cells #[.int .i64 0, .string ⟨#[]⟩, .slice none 0 0] 341)).drew.trans hf9); have HB9 := mkHid (hf9.keepB (b := w8.heap.size) (o := .cells #[.int .i64 0, .string ⟨#[]⟩, .slice none 0 0] 341 (0, 0)) (heap_first w8 _ rfl _) (by omega)); have z0 := cell_of_block HB9.out (i := 0) rfl; have z1 := cell_of_block HB9.out (i := 1) rfl; have z2 := cell_of_block HB9.out (i := 2) rfl; have y0 := frozen_of_block (i := 0) HB9.out; have y1 := frozen_of_block (i := 1) HB9.out; have y2 := frozen_of_block (i := 2) HB9.out; have hzb := lt_of_block HB9.out; clear hf9') | have HF9 := mkHid ((Fr.refl C.pb w8).drew.trans hf9)); have HN9 := mkHid (HF9.out.keepB HN8.out hnb); have d0 := cell_of_block HN9.out (i := 0) rfl; have d1 := cell_of_block HN9.out (i := 1) rfl; have hz9 := lt_of_block HN9.out; clear hf9 hp9 hk)
        all_goals
          go_wp2_with fail
          go_meet
          case rel => first | exact CallMid.late HF8.out HF9.out HP9.out HK.out | exact CallMid.early HF8.out HF9.out HP9.out hpb8 hgb8 HK.out HB9.out rfl
      case rest =>
        obtain ⟨cb, sv, rfl, hcb, hf10, hp10, hb10, hk10⟩ := hcut
        obtain ⟨x, c, rfl⟩ := hk10.slice
        have HXP := mkHid (expect_any C wc q ⟨#[59]⟩ hp10)
        have ed : (⟨#[59]⟩ : ByteArray).data.toList = [59] := rfl
        rw [ed] at HXP
        have HF10 := mkHid hf10
        have HB10 := mkHid hb10
        have HK10 := mkHid hk10
        have hs10 := hf10.size
        clear hf10 hp10 hb10 hk10 ed HV c0 c1 HN8 hz8 HP8
        cases hit : Hs.isT C.ts q [59]
        · have HL : Hid (r = .error (Hs.tk C.ts q).line) := by show _ = _; rw [HR8.out, tt_no hit]; rfl
          rw [hit] at HXP
          clear hit HR8
          go_wp2_with fail
          refine HXP.out.mono ?_
          rintro e w11 ⟨hf11, he11⟩
          obtain rfl : e = faultE 4 (Hs.tk C.ts q).line := he11
          have HF11 := mkHid (HF10.out.trans hf11)
          clear hf11
          go_wp2_with fail
          exact ⟨rfl, Out.err HL.out HF11.out⟩
        · have HL : Hid (r = .ok (Hs.node [100, 111] t.line t.text [Hs.node [99, 97, 108, 108] t.line t.text l], q + 1)) := by show _ = _; rw [HR8.out, tt_yes hit]; rfl
          rw [hit] at HXP
          clear hit HR8
          go_wp2_with fail
          refine HXP.out.mono ?_
          rintro e w11 ⟨hf11, he11⟩
          obtain ⟨rfl, hp11⟩ := he11
          have HF11 := mkHid hf11
          have HP11 := mkHid hp11
          have HB11 := mkHid (hf11.keepB HB10.out hcb)
          have m0 := cell_of_block HB11.out (i := 0) rfl
          have m1 := cell_of_block HB11.out (i := 1) rfl
          have m2 := cell_of_block HB11.out (i := 2) rfl
          have hz11 := lt_of_block HB11.out
          clear hf11 hp11
          go_wp2_with fail
          go_ret
          exact Out.ok HL.out (HF10.out.trans HF11.out) HP11.out (PN.mk (Or.inr (Or.inr (Or.inr (Or.inr (Or.inr (Or.inr (Or.inr (Or.inr (Or.inr (Or.inr (Or.inr (Or.inr (Or.inr (Or.inr (Or.inr (Or.inr (Or.inr (⟨rfl, _, Hs.node [99, 97, 108, 108] t.line t.text l, rfl, rfl, rfl, rfl, rfl, rfl, rfl⟩)))))))))))))))))) (fun p hp => by obtain rfl := List.mem_singleton.1 hp; exact Prt.ok.list (HK10.out.grow (fun k h1 h2 => HF11.out.block k h2 (by omega)) (Nat.le_refl _) HF11.out.size)))
  rw [i5] at HA5
  obtain ⟨r0, hr0⟩ : ∃ r0, r0 = Hs.setLoop E C.ts (C.ts.length + 1) (p + 1) [] := ⟨_, rfl⟩
  have HR6 : Hid (r = Hs.bindR (Hs.thenTake C.ts [61] r0) fun idx q => Hs.mapR (fun v => Hs.node [115, 101, 116] t.line t.text (idx ++ [v])) (Hs.thenTake C.ts [59] (E q))) := by show _ = _; rw [HR5.out, i5, hr0]; rfl
  have HR0 := mkHid hr0
  have HNE0 : Hid (r0 ≠ .error 0) := fun e => HNE.out (by rw [HR6.out, e]; rfl)
  clear i5 HR5 hr0
  go_wp2_with fail
  refine HA5.out.mono ?_
  rintro e w8 ⟨rfl, hat8, hf8⟩
  have hpb8 := hat8.pb_lt
  have hgb8 := hat8.g_lt
  have HN8 := mkHid (hf8.keepB HNB.out hnb)
  have hnz8 := lt_of_block HN8.out
  have hs8 : w.heap.size ≤ w8.heap.size := (HF7.out.trans hf8).size
  have HI : Hid (PSetInv C E w w8 r0 w7.heap.size t (C.ts.length + 1) (.slice none 0 0) w8) := ⟨HF7.out.trans hf8, p + 1, [], hat8, HR0.out, by simp; omega, PLst.nil _ _, HN8.out, Nat.le_refl _⟩
  clear hat8 hf8 HA5 HNB HN8 HF7
  go_wp2_with fail
  go_loopg [5] (C.ts.length + 1) (fun k v wr => PSetInv C E w w8 r0 w7.heap.size t k v wr)
  case atStart => exact HI.out
  case round =>
    obtain ⟨hf4, q4, acc, hp4, hr4, hal, hls, hnb4, hbs4⟩ := hrel
    obtain ⟨x4, c4, rfl⟩ := hls.slice
    have HAC := mkHid (accept_any C wr q4 ⟨#[91]⟩ hp4)
    have ed : (⟨#[91]⟩ : ByteArray).data.toList = [91] := rfl
    rw [ed] at HAC
    have HF4 := mkHid hf4
    have HLS := mkHid hls
    have HNB4 := mkHid hnb4
    have hs4 := hf4.size
    obtain ⟨k, rfl⟩ : ∃ k, gk = k + 1 := by
      cases gk with
      | zero => exact absurd hr4 HNE0.out
      | succ k => exact ⟨k, rfl⟩
    clear hf4 hp4 hls hnb4 HI HR0 ed
    cases hit : Hs.isT C.ts q4 [91]
    · have HR4 : Hid (r0 = .ok (acc, q4)) := by show _ = _; rw [hr4, Hs.setLoop, hit]; rfl
      rw [hit] at HAC
      clear hit hr4
      go_wp2_with fail
      refine HAC.out.mono ?_
      rintro e w5 ⟨rfl, hp5, hf5⟩
      have HXP := mkHid (expect_any C w5 q4 ⟨#[61]⟩ hp5)
      have ed : (⟨#[61]⟩ : ByteArray).data.toList = [61] := rfl
      rw [ed] at HXP
      have HF5 := mkHid (HF4.out.trans hf5)
      have HL5 := mkHid (HLS.out.keep hf5 hpb8)
      have HNB5 := mkHid (hf5.keepB HNB4.out hnb)
      have hs5 := hf5.size
      clear hp5 hf5 HAC HLS ed HNB4
      cases hit : Hs.isT C.ts q4 [61]
      · have HL : Hid (r = .error (Hs.tk C.ts q4).line) := by show _ = _; rw [HR6.out, HR4.out, tt_no hit]; rfl
        rw [hit] at HXP
        clear hit HR6 HR4
        go_wp2_with fail
        refine HXP.out.mono ?_
        rintro e w6 ⟨hf6, he6⟩
        obtain rfl : e = faultE 4 (Hs.tk C.ts q4).line := he6
        have HF6 := mkHid (HF5.out.trans hf6)
        clear hf6
        go_wp2_with fail
        exact ⟨rfl, Out.err HL.out HF6.out⟩
      · obtain ⟨rE, hrE⟩ : ∃ rE, rE = Hs.thenTake C.ts [59] (E (q4 + 1)) := ⟨_, rfl⟩
        have HR8 : Hid (r = Hs.mapR (fun v => Hs.node [115, 101, 116] t.line t.text (acc ++ [v])) rE) := by show _ = _; rw [HR6.out, HR4.out, tt_yes hit, hrE]; rfl
        have hE0 : Hs.thenTake C.ts [59] (E (q4 + 1)) ≠ .error 0 := fun e => HNE.out (by rw [HR8.out, hrE, e]; rfl)
        rw [hit] at HXP
        have HRE := mkHid hrE
        clear hit HR6 HR4 hrE
        go_wp2_with fail
        refine HXP.out.mono ?_
        rintro e w6 ⟨hf6, he6⟩
        obtain ⟨rfl, hp6⟩ := he6
        have HX := mkHid (HLA.out w6.drew (q4 + 1) hp6.drew hE0)
        simp only [← HRE.out] at HX
        have HF6 := mkHid (HF5.out.trans hf6)
        have HL6 := mkHid (HL5.out.keep hf6 hpb8)
        have HNB6 := mkHid (hf6.keepB HNB5.out hnb)
        have hs6 := hf6.size
        have m0 := cell_of_block HNB6.out (i := 0) rfl
        have m1 := cell_of_block HNB6.out (i := 1) rfl
        have hz6 := lt_of_block HNB6.out
        clear hp6 hf6 HXP HL5 HNB5 hE0
        cases rE with
        | error l =>
          have HL : Hid (r = .error l) := HR8.out
          go_wp2_with fail
          go_region_law (refine thrown .nilIface ?_ ?_; (focus go_simp; go_at_call 302; refine HX.out.mono ?_; rintro e w9 ⟨hf9, rfl⟩; exact And.intro rfl (Out.err HL.out (HF6.out.drew.trans hf9))); intro hfalse)
          all_goals exact hfalse.out.elim
        | ok aq =>
          obtain ⟨a, q⟩ := aq
          have HL : Hid (r = .ok (Hs.node [115, 101, 116] t.line t.text (acc ++ [a]), q)) := HR8.out
          clear HR8
          go_wp2_with fail
          go_region_law (go_simp; go_at_call 302; refine HX.out.mono ?_; rintro e w9 ⟨hf9, hp9, v9, rfl, hn9⟩; obtain ⟨T9, cs9, rfl⟩ := hn9.form; have HF9 := mkHid ((Fr.refl C.pb w6).drew.trans hf9); have HN9 := mkHid hn9; have HP9 := mkHid hp9; have HNB9 := mkHid (HF9.out.keepB HNB6.out hnb); have d0 := cell_of_block HNB9.out (i := 0) rfl; have d1 := cell_of_block HNB9.out (i := 1) rfl; have hz9 := lt_of_block HNB9.out; clear hf9 hp9 hn9)
          all_goals (go_wp2_with fail; go_ret)
          all_goals exact Out.ok HL.out (HF6.out.trans HF9.out) HP9.out (PN.mk (Or.inr (Or.inr (Or.inr (Or.inr (Or.inr (Or.inr (Or.inr (Or.inr (Or.inr (Or.inr (Or.inl (⟨rfl, _, _, acc, a, rfl, rfl, rfl, rfl⟩)))))))))))) (fun p hp => by
                simp only [List.mem_cons, List.not_mem_nil, or_false] at hp
                have hs9 := HF9.out.size
                rcases hp with rfl | rfl
                · exact Prt.ok.list ((HL6.out.keep HF9.out hpb8).kid.grow (fun _ _ _ => rfl) (by omega) (Nat.le_refl _))
                · exact Prt.ok.node (HN9.out.grow (fun _ _ _ => rfl) (by show _ ≤ w6.heap.size; omega) (Nat.le_refl _))))
    · obtain ⟨rE, hrE⟩ : ∃ rE, rE = E (q4 + 1) := ⟨_, rfl⟩
      have HR4 : Hid (r0 = Hs.bindR (Hs.thenTake C.ts [93] rE) fun i q => Hs.setLoop E C.ts k q (acc ++ [i])) := by
        show _ = _
        rw [hr4, Hs.setLoop, hit, hrE, if_pos rfl]
        cases Hs.thenTake C.ts [93] (E (q4 + 1)) <;> rfl
      have hE0 : E (q4 + 1) ≠ .error 0 := fun e => HNE0.out (by rw [HR4.out, hrE, e]; rfl)
      have HRE := mkHid hrE
      rw [hit] at HAC
      clear hit hr4 hrE
      go_wp2_with fail
      refine HAC.out.mono ?_
      rintro e w5 ⟨rfl, hp5, hf5⟩
      have HX := mkHid (HEE.out w5 (q4 + 1) hp5 hE0)
      simp only [← HRE.out] at HX
      have HF5 := mkHid (HF4.out.trans hf5)
      have HL5 := mkHid (HLS.out.keep hf5 hpb8)
      have HNB5 := mkHid (hf5.keepB HNB4.out hnb)
      have hs5 := hf5.size
      clear hp5 hf5 HAC HLS hE0 HNB4
      cases rE with
      | error l =>
        have HL : Hid (r = .error l) := by show _ = _; rw [HR6.out, HR4.out]; rfl
        go_wp2_with fail
        refine HX.out.mono ?_
        rintro e w6 ⟨hf6, rfl⟩
        have HF6 := mkHid (HF5.out.trans hf6)
        clear hf6 HX
        go_wp2_with fail
        exact ⟨rfl, Out.err HL.out HF6.out⟩
      | ok aq6 =>
        obtain ⟨a6, q6⟩ := aq6
        go_wp2_with fail
        refine HX.out.mono ?_
        rintro e w6 ⟨hf6, hp6, v6, rfl, hn6⟩
        obtain ⟨T6, cs6, rfl⟩ := hn6.form
        obtain ⟨vs, F, hown, hall, hFF⟩ := HL5.out.keep hf6 hpb8
        have hrb : ∀ g, (Value.slice x4 acc.length c4).ownBlock = some g → g < w5.heap.size := by
          obtain ⟨vs', F', hown', _⟩ := HL5.out
          exact own_block_lt hown'
        have HRB := mkHid hrb
        have HF6 := mkHid (HF5.out.trans hf6)
        have HP6 := mkHid hp6
        have HN6 := mkHid hn6
        have HNB6 := mkHid (hf6.keepB HNB5.out hnb)
        have HALL := mkHid (And.intro hall hFF)
        have hs6 := hf6.size
        have hge : ∀ k, (Value.slice x4 acc.length c4).ownBlock = some k → w8.heap.size ≤ k := own_block_ge hown
        clear hp6 hf6 hn6 HX HL5 HF5 hall hFF hrb HNB5
        go_wp2_with (at_builtin; refine wpList_append_lies _ (by rfl) _ _ 213 (by rfl) w8.heap.size 122 i0 _ 1 16 Tryz.underlying213 hi hz0 hz1 hz2 rfl (by decide) _ _ _ (by rfl) (hown.alloc _) ⟨w6.heap.size, 0, none⟩ 1 1 [.iface T6 (.agg cs6)] (by rfl) (by rfl) (news_node _ _) (one_node _ _) (by decide) (by unfold maxLen; omega) (by omega) (by simp; omega) (w6.heap.size + 1) (by simp) ?_)
        intro g7 cap7 w9 hown9 hgrow9 hat9 hg9
        have HL9 := mkHid (PLst.snoc (lo := w5.heap.size) HALL.out.1 HALL.out.2 HN6.out (by omega) HRB.out (fun k hk => Below.heap_alloc _ _ _ hk) (by simp) hown9 hgrow9 (hat9.imp_right (fun e => by omega)))
        have HP9 := mkHid ((HP6.out.alloc _).grown (base := w8.heap.size) hgrow9 hge hpb8 hgb8)
        have HF9 := mkHid ((HF6.out.alloc _).grown hgrow9 (fun k hk => Nat.le_trans hs8 (hge k hk)))
        have HNB9 : Hid (w9.heap[w7.heap.size]? = some (.cells #[.int .i64 t.line, .string (bs t.text)] 211 (0, 0))) := by
          show _ = _
          rw [hgrow9.block _ (by simp; omega) (fun e => by have := hge _ e.symm; omega), Below.heap_alloc _ _ _ (by omega)]
          exact HNB6.out
        have hs9 : w8.heap.size ≤ w9.heap.size := by have := hgrow9.size; simp at this; omega
        have HXP := mkHid (expect_any C w9 q6 ⟨#[93]⟩ HP9.out)
        have ed : (⟨#[93]⟩ : ByteArray).data.toList = [93] := rfl
        rw [ed] at HXP
        clear hown hown9 hgrow9 hat9 HN6 HP6 HF6 HALL HRB hge HNB6 ed
        cases hit : Hs.isT C.ts q6 [93]
        · have HL : Hid (r = .error (Hs.tk C.ts q6).line) := by show _ = _; rw [HR6.out, HR4.out, tt_no hit]; rfl
          rw [hit] at HXP
          clear hit HR6 HR4
          go_wp2_with fail
          refine HXP.out.mono ?_
          rintro e w10 ⟨hf10, he10⟩
          obtain rfl : e = faultE 4 (Hs.tk C.ts q6).line := he10
          have HF10 := mkHid (HF9.out.trans hf10)
          clear hf10
          go_wp2_with fail
          exact ⟨rfl, Out.err HL.out HF10.out⟩
        · have HR5 : Hid (r0 = Hs.setLoop E C.ts k (q6 + 1) (acc ++ [a6])) := by show _ = _; rw [HR4.out, tt_yes hit]; rfl
          rw [hit] at HXP
          clear hit HR4
          go_wp2_with fail
          refine HXP.out.mono ?_
          rintro e w10 ⟨hf10, he10⟩
          obtain ⟨rfl, hp10⟩ := he10
          have HF10 := mkHid (HF9.out.trans hf10)
          have HL10 := mkHid (HL9.out.keep hf10 hpb8)
          have HNB10 := mkHid (hf10.keepB HNB9.out hnb)
          have HP10 := mkHid hp10
          have hs10 := hf10.size
          clear hf10 hp10
          go_wp2_with fail
          go_roundg k
          case measure => omega
          case rel => exact ⟨HF10.out, q6 + 1, acc ++ [a6], HP10.out, HR5.out, by simp; omega, by simpa using HL10.out, HNB10.out, by omega⟩
end Go.Proofs.YtblbkfdhjfppkaaGreatDoor
