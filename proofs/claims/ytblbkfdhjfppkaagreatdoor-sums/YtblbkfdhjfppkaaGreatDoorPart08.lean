/- Contracts of the program: any token. -/
import Derived.Test.YtblbkfdhjfppkaaGreatDoorPart07
import Derived.Test.YtblbkfdhjfppkaaGreatDoorPart00
import Derived.Lib.DecodeN
namespace Go.Proofs.YtblbkfdhjfppkaaGreatDoor
open Go.RowKit
set_option maxRecDepth 100000 in
set_option maxHeartbeats 4000000 in
theorem token_any (sb : Nat) (src : ByteArray) (n L : Nat) (w : World) (h : SC sb src n L w) (hg : NTabs w) (hm : PTabs w) (hsbN : 11 ≤ sb) (hs : src.size ≤ 100000) (hn : n < src.size) :
    Calls Tryz.prog 183 #[.pointer (some ⟨sb, 0, none⟩)] w (TokR sb src n L w (Hs.tokL (src.data.toList.drop n))) := by
  have hsb := (SC.cells h).1
  have hrb : w.heap.size ≠ sb := by omega
  have hb : (src[n].toNat : Int) ≤ 255 := byte_le _
  have h1 : SC sb src n L (w.alloc (.cells #[.int .i64 0, .string ⟨#[]⟩, .int .i64 0, .int .i64 0] 206)) := by unfold SC; rw [Below.heap_alloc _ _ _ hsb]; exact h
  obtain ⟨h0, c0, c1, c2, f1, f2⟩ := h1.cells
  have HZD : Hid (∀ q, ZTok ((w.alloc (.cells #[.int .i64 0, .string ⟨#[]⟩, .int .i64 0, .int .i64 0] 206)).drewN q) w.heap.size) := fun _ => heap_first _ _ rfl _
  have hF0 : Fr sb w (w.alloc (.cells #[.int .i64 0, .string ⟨#[]⟩, .int .i64 0, .int .i64 0] 206)) := (Fr.refl _ _).alloc _
  have HF0 := mkHid hF0
  have HG : Hid (∀ q, NTabs ((w.alloc (.cells #[.int .i64 0, .string ⟨#[]⟩, .int .i64 0, .int .i64 0] 206)).drewN q)) := fun q => hg.fr (hF0.drewN q) hsbN
  have HMT : Hid (∀ q, PTabs ((w.alloc (.cells #[.int .i64 0, .string ⟨#[]⟩, .int .i64 0, .int .i64 0] 206)).drewN q)) := fun q => hm.fr (hF0.drewN q) hsbN
  have H1 := mkHid h1
  obtain ⟨rr, hrr⟩ : ∃ rr, rr = Hs.tokL (src.data.toList.drop n) := ⟨_, rfl⟩
  rw [← hrr]
  have hrr2 : rr = if Hs.digitB src[n] || Hs.letterB src[n] then Hs.wordL (src.data.toList.drop n) (Hs.letterB src[n]) else if src[n].toNat = 34 then Hs.strL (src.data.toList.drop (n + 1)) else Hs.otherL (src.data.toList.drop n) := by rw [hrr, drop_cons src n hn]; rfl
  have HRR := mkHid hrr2
  have HPL := mkHid (pletter_any src[n])
  have HPD := mkHid (pdigit_any src[n])
  clear h h1 hg hm hrr hrr2 hF0
  cases hl : Hs.letterB src[n]
  · cases hd : Hs.digitB src[n]
    · by_cases h34 : src[n].toNat = 34
      · have e : rr = Hs.strL (src.data.toList.drop (n + 1)) := by rw [HRR.out, hl, hd]; simp [h34]
        have HX := mkHid (fun q => ttext_any sb src n L ((w.alloc (.cells #[.int .i64 0, .string ⟨#[]⟩, .int .i64 0, .int .i64 0] 206)).drewN q) H1.out (by omega) hn)
        rw [← e] at HX
        rw [hl] at HPL
        rw [hd] at HPD
        have h34' : ((src[n].toNat : Int) == 34) = true := by simp; omega
        clear hl hd e HRR h34
        go_enter Tryz.func183, Tryz.ntmps183
        go_wp2_with fail
        go_quiet (fail)
        go_wp2_with fail
        refine (HPL.out _).mono ?_
        rintro e w1 ⟨rfl, hw⟩
        obtain rfl := hw.symm
        go_wp2_with fail
        refine (HPD.out _).mono ?_
        rintro e w1 ⟨rfl, hw⟩
        obtain rfl := hw.symm
        go_wp2_with fail
        refine (HX.out _).mono ?_
        rintro e w2 ⟨hf2, ⟨hok, rfl, hs2⟩ | ⟨hok, rfl⟩⟩
        · have HF2 := mkHid ((HF0.out.drewN _).trans hf2)
          have HS2 := mkHid hs2
          have HZ2 := mkHid (hf2.keepS (HZD.out _) hrb)
          have HOK := mkHid hok
          have z0 := cell_of_block HZ2.out (i := 0) rfl
          have z1 := cell_of_block HZ2.out (i := 1) rfl
          have z2 := cell_of_block HZ2.out (i := 2) rfl
          have z3 := cell_of_block HZ2.out (i := 3) rfl
          have y0 := frozen_of_block (i := 0) HZ2.out
          have y1 := frozen_of_block (i := 1) HZ2.out
          have y2 := frozen_of_block (i := 2) HZ2.out
          have y3 := frozen_of_block (i := 3) HZ2.out
          have hzz := lt_of_block HZ2.out
          clear hf2 hs2 hok
          simp only [ptokV]
          go_wp2_with fail
          refine bodyPost_ret (v := .agg #[.int .i64 (psort rr.sort), .string (bs rr.text), .int .i64 (pval ⟨rr.sort, rr.text, L⟩), .int .i64 L]) (by clear HG HMT HZD HF0 HF2 HS2 HZ2 HOK; generalize psort rr.sort = pa; generalize pval ⟨rr.sort, rr.text, L⟩ = pb; simp [results, Tryz.results183, go_sem, z0, z1, z2, z3]) rfl ?_
          have hfin := tok_end HF2.out HS2.out (Nat.le_refl _) hrb (.int .i64 (psort rr.sort)) (.string (bs rr.text)) (.int .i64 (pval ⟨rr.sort, rr.text, L⟩)) (.int .i64 L)
          exact ⟨hfin.1, Or.inl ⟨HOK.out, rfl, hfin.2⟩⟩
        · have HF2 := mkHid ((HF0.out.drewN _).trans hf2)
          have HOK := mkHid hok
          clear hf2 hok
          go_wp2_with fail
          exact ⟨rfl, HF2.out, Or.inr ⟨HOK.out, rfl⟩⟩
      · have e : Hs.otherL (src.data.toList.drop n) = rr := by rw [HRR.out, hl, hd]; simp [h34]
        have HX := mkHid (fun q => tmark_any sb src n L ((w.alloc (.cells #[.int .i64 0, .string ⟨#[]⟩, .int .i64 0, .int .i64 0] 206)).drewN q) H1.out (HMT.out q) (by omega) hn rr e)
        rw [hl] at HPL
        rw [hd] at HPD
        have h34' : ((src[n].toNat : Int) == 34) = false := by simp; omega
        clear hl hd e HRR h34
        go_enter Tryz.func183, Tryz.ntmps183
        go_wp2_with fail
        go_quiet (fail)
        go_wp2_with fail
        refine (HPL.out _).mono ?_
        rintro e w1 ⟨rfl, hw⟩
        obtain rfl := hw.symm
        go_wp2_with fail
        refine (HPD.out _).mono ?_
        rintro e w1 ⟨rfl, hw⟩
        obtain rfl := hw.symm
        go_wp2_with fail
        refine (HX.out _).mono ?_
        rintro e w2 ⟨hf2, ⟨hok, rfl, hs2⟩ | ⟨hok, rfl⟩⟩
        · have HF2 := mkHid ((HF0.out.drewN _).trans hf2)
          have HS2 := mkHid hs2
          have HZ2 := mkHid (hf2.keepS (HZD.out _) hrb)
          have HOK := mkHid hok
          have z0 := cell_of_block HZ2.out (i := 0) rfl
          have z1 := cell_of_block HZ2.out (i := 1) rfl
          have z2 := cell_of_block HZ2.out (i := 2) rfl
          have z3 := cell_of_block HZ2.out (i := 3) rfl
          have y0 := frozen_of_block (i := 0) HZ2.out
          have y1 := frozen_of_block (i := 1) HZ2.out
          have y2 := frozen_of_block (i := 2) HZ2.out
          have y3 := frozen_of_block (i := 3) HZ2.out
          have hzz := lt_of_block HZ2.out
          clear hf2 hs2 hok
          simp only [ptokV]
          go_wp2_with fail
          refine bodyPost_ret (v := .agg #[.int .i64 (psort rr.sort), .string (bs rr.text), .int .i64 (pval ⟨rr.sort, rr.text, L⟩), .int .i64 L]) (by clear HG HMT HZD HF0 HF2 HS2 HZ2 HOK; generalize psort rr.sort = pa; generalize pval ⟨rr.sort, rr.text, L⟩ = pb; simp [results, Tryz.results183, go_sem, z0, z1, z2, z3]) rfl ?_
          have hfin := tok_end HF2.out HS2.out (Nat.le_refl _) hrb (.int .i64 (psort rr.sort)) (.string (bs rr.text)) (.int .i64 (pval ⟨rr.sort, rr.text, L⟩)) (.int .i64 L)
          exact ⟨hfin.1, Or.inl ⟨HOK.out, rfl, hfin.2⟩⟩
        · have HF2 := mkHid ((HF0.out.drewN _).trans hf2)
          have HOK := mkHid hok
          clear hf2 hok
          go_wp2_with fail
          exact ⟨rfl, HF2.out, Or.inr ⟨HOK.out, rfl⟩⟩
    · have e : rr = Hs.wordL (src.data.toList.drop n) false := by rw [HRR.out, hl, hd]; rfl
      have HX := mkHid (fun q => tnumber_any sb src n L ((w.alloc (.cells #[.int .i64 0, .string ⟨#[]⟩, .int .i64 0, .int .i64 0] 206)).drewN q) H1.out (HG.out q) hsbN hs hn hd)
      rw [← e] at HX
      rw [hl] at HPL
      rw [hd] at HPD
      clear hl hd e HRR
      go_enter Tryz.func183, Tryz.ntmps183
      go_wp2_with fail
      go_quiet (fail)
      go_wp2_with fail
      refine (HPL.out _).mono ?_
      rintro e w1 ⟨rfl, hw⟩
      obtain rfl := hw.symm
      go_wp2_with fail
      refine (HPD.out _).mono ?_
      rintro e w1 ⟨rfl, hw⟩
      obtain rfl := hw.symm
      go_wp2_with fail
      refine (HX.out _).mono ?_
      rintro e w2 ⟨hf2, ⟨hok, rfl, hs2⟩ | ⟨hok, rfl⟩⟩
      · have HF2 := mkHid ((HF0.out.drewN _).trans hf2)
        have HS2 := mkHid hs2
        have HZ2 := mkHid (hf2.keepS (HZD.out _) hrb)
        have HOK := mkHid hok
        have z0 := cell_of_block HZ2.out (i := 0) rfl
        have z1 := cell_of_block HZ2.out (i := 1) rfl
        have z2 := cell_of_block HZ2.out (i := 2) rfl
        have z3 := cell_of_block HZ2.out (i := 3) rfl
        have y0 := frozen_of_block (i := 0) HZ2.out
        have y1 := frozen_of_block (i := 1) HZ2.out
        have y2 := frozen_of_block (i := 2) HZ2.out
        have y3 := frozen_of_block (i := 3) HZ2.out
        have hzz := lt_of_block HZ2.out
        clear hf2 hs2 hok
        simp only [ptokV]
        go_wp2_with fail
        refine bodyPost_ret (v := .agg #[.int .i64 (psort rr.sort), .string (bs rr.text), .int .i64 (pval ⟨rr.sort, rr.text, L⟩), .int .i64 L]) (by clear HG HMT HZD HF0 HF2 HS2 HZ2 HOK; generalize psort rr.sort = pa; generalize pval ⟨rr.sort, rr.text, L⟩ = pb; simp [results, Tryz.results183, go_sem, z0, z1, z2, z3]) rfl ?_
        have hfin := tok_end HF2.out HS2.out (Nat.le_refl _) hrb (.int .i64 (psort rr.sort)) (.string (bs rr.text)) (.int .i64 (pval ⟨rr.sort, rr.text, L⟩)) (.int .i64 L)
        exact ⟨hfin.1, Or.inl ⟨HOK.out, rfl, hfin.2⟩⟩
      · have HF2 := mkHid ((HF0.out.drewN _).trans hf2)
        have HOK := mkHid hok
        clear hf2 hok
        go_wp2_with fail
        exact ⟨rfl, HF2.out, Or.inr ⟨HOK.out, rfl⟩⟩
  · have e : rr = Hs.wordL (src.data.toList.drop n) true := by rw [HRR.out, hl, Bool.or_true]; rfl
    have HX := mkHid (fun q => tname_any sb src n L ((w.alloc (.cells #[.int .i64 0, .string ⟨#[]⟩, .int .i64 0, .int .i64 0] 206)).drewN q) H1.out (by omega) (by omega))
    rw [← e] at HX
    rw [hl] at HPL
    clear hl e HRR HPD
    go_enter Tryz.func183, Tryz.ntmps183
    go_wp2_with fail
    go_quiet (fail)
    go_wp2_with fail
    refine (HPL.out _).mono ?_
    rintro e w1 ⟨rfl, hw⟩
    obtain rfl := hw.symm
    go_wp2_with fail
    refine (HX.out _).mono ?_
    rintro e w2 ⟨hf2, ⟨hok, rfl, hs2⟩ | ⟨hok, rfl⟩⟩
    · have HF2 := mkHid ((HF0.out.drewN _).trans hf2)
      have HS2 := mkHid hs2
      have HZ2 := mkHid (hf2.keepS (HZD.out _) hrb)
      have HOK := mkHid hok
      have z0 := cell_of_block HZ2.out (i := 0) rfl
      have z1 := cell_of_block HZ2.out (i := 1) rfl
      have z2 := cell_of_block HZ2.out (i := 2) rfl
      have z3 := cell_of_block HZ2.out (i := 3) rfl
      have y0 := frozen_of_block (i := 0) HZ2.out
      have y1 := frozen_of_block (i := 1) HZ2.out
      have y2 := frozen_of_block (i := 2) HZ2.out
      have y3 := frozen_of_block (i := 3) HZ2.out
      have hzz := lt_of_block HZ2.out
      clear hf2 hs2 hok
      simp only [ptokV]
      go_wp2_with fail
      refine bodyPost_ret (v := .agg #[.int .i64 (psort rr.sort), .string (bs rr.text), .int .i64 (pval ⟨rr.sort, rr.text, L⟩), .int .i64 L]) (by clear HG HMT HZD HF0 HF2 HS2 HZ2 HOK; generalize psort rr.sort = pa; generalize pval ⟨rr.sort, rr.text, L⟩ = pb; simp [results, Tryz.results183, go_sem, z0, z1, z2, z3]) rfl ?_
      have hfin := tok_end HF2.out HS2.out (Nat.le_refl _) hrb (.int .i64 (psort rr.sort)) (.string (bs rr.text)) (.int .i64 (pval ⟨rr.sort, rr.text, L⟩)) (.int .i64 L)
      exact ⟨hfin.1, Or.inl ⟨HOK.out, rfl, hfin.2⟩⟩
    · have HF2 := mkHid ((HF0.out.drewN _).trans hf2)
      have HOK := mkHid hok
      clear hf2 hok
      go_wp2_with fail
      exact ⟨rfl, HF2.out, Or.inr ⟨HOK.out, rfl⟩⟩
end Go.Proofs.YtblbkfdhjfppkaaGreatDoor

/- Contracts of the program: all tokens. -/
namespace Go.Proofs.YtblbkfdhjfppkaaGreatDoor
open Go.RowKit
theorem infoPTok : (Tryz.prog.info? 206).map (fun i => (i.zero, i.size, i.bytes)) = some (some (.agg #[.int .i64 0, .string (bs []), .int .i64 0, .int .i64 0]), 4, 40) := by kernel_rfl
theorem news_ptok (w : World) (a b c d : Value) : ∀ j u, ([a, b, c, d] : List Value)[j]? = some u → (w.alloc (.cells #[a, b, c, d] 206)).cell? ((⟨w.heap.size, 0, none⟩ : Addr).add j) = some u := by
  intro j u hj
  match j, hj with
  | 0, hj => simp at hj; subst hj; simp [Addr.add, go_sem]
  | 1, hj => simp at hj; subst hj; simp [Addr.add, go_sem]
  | 2, hj => simp at hj; subst hj; simp [Addr.add, go_sem]
  | 3, hj => simp at hj; subst hj; simp [Addr.add, go_sem]
  | j + 4, hj => simp at hj
theorem one_ptok (l m n : Int) (b : ByteArray) : ∀ u ∈ ([.int .i64 l, .string b, .int .i64 m, .int .i64 n] : List Value), u.oneCell' = true := by
  intro u hu; simp at hu; rcases hu with rfl | rfl | rfl | rfl <;> rfl
theorem row_slice {w : World} {b : Nat} {e : TypeId} {size : Nat} {v : Value} {n : Nat} {xs : List Value} (h : w.ownsRow b e size v n xs) : ∃ x c, v = .slice x n c := by
  rcases h.2 with ⟨r1, r2⟩ | ⟨g, cap, cur, r1, _⟩
  · exact ⟨none, 0, by rw [r1, r2]⟩
  · exact ⟨_, cap, r1⟩
theorem count_none {l : List UInt8} (h : ∀ c ∈ l, c ≠ 10) : l.count 10 = 0 := List.count_eq_zero.2 fun hm => h 10 hm rfl
theorem tok_noline (l : List UInt8) (h : (Hs.tokL l).ok = true) : (l.take (Hs.tokL l).size).count 10 = 0 := by
  cases l with
  | nil => simp [Hs.tokL] at h
  | cons c r =>
    rw [Hs.tokL] at h ⊢
    split
    · rename_i hd
      rw [Hs.wordL_size]
      refine count_none fun x hx => ?_
      have := spanL_all _ _ x hx
      intro e
      subst e
      revert this
      cases Hs.letterB c <;> decide
    · rename_i hd
      rw [if_neg hd] at h
      split
      · rename_i h34
        rw [if_pos h34] at h
        have h' : (decide (r[Hs.spanL Hs.strP r]? = some 34) && decide (Hs.spanL Hs.strP r ≤ 100)) = true := h
        rw [Bool.and_eq_true, decide_eq_true_eq] at h'
        have hlt : Hs.spanL Hs.strP r < r.length := by
          by_cases hx : Hs.spanL Hs.strP r < r.length
          · exact hx
          · rw [List.getElem?_eq_none (by omega)] at h'; exact absurd h'.1 (by simp)
        show ((c :: r).take (Hs.spanL Hs.strP r + 1 + 1)).count 10 = 0
        rw [List.take_succ_cons, List.take_add_one, h'.1]
        refine count_none fun x hx => ?_
        rcases List.mem_cons.1 hx with rfl | hx
        · intro e; rw [e] at h34; exact absurd h34 (by decide)
        rcases List.mem_append.1 hx with hx | hx
        · have := spanL_all _ _ x hx
          intro e
          subst e
          exact absurd this (by decide)
        · intro e
          rw [e] at hx
          exact absurd hx (by decide)
      · rename_i h34
        rw [if_neg h34] at h
        unfold Hs.otherL at h ⊢
        cases ho : Hs.others.find? (fun o => Hs.startsB (c :: r) o) with
        | none => rw [ho] at h; simp at h
        | some o =>
          have h1 := List.find?_some ho
          have h2 := List.mem_of_find?_eq_some ho
          have h3 : (c :: r).take o.length = o := by
            have h4 := h1
            unfold Hs.startsB at h4
            rw [isPrefixOf_take _ _ (Hs.startsB_len h1)] at h4
            simpa using h4
          show ((c :: r).take o.length).count 10 = 0
          rw [h3]
          have : ∀ o ∈ Hs.others, o.count 10 = 0 := by decide
          exact this o h2
def scanPost (x : Except Nat (List Hs.Tok)) (w : World) (e : Ending) (w' : World) : Prop :=
  Below w.heap.size w w' ∧
    match x with
    | .error n => e = faultE 3 n
    | .ok ts => ∃ v, e = .returned v ∧ w'.ownsRow (w.heap.size + 1) 206 4 v ts.length (ptoks ts)
def ScInv (src : ByteArray) (w : World) (TS : Except Nat (List Hs.Tok)) (gk : Nat) (v : Value) (wr : World) : Prop :=
  ∃ (k f : Nat) (ts : List Hs.Tok), k ≤ src.size ∧ src.size + 1 ≤ k + f ∧ src.size ≤ k + gk ∧ ts.length ≤ k ∧ SC w.heap.size src k (Hs.lineOf (src.data.toList.take k)) wr ∧ Fr w.heap.size w wr ∧ wr.ownsRow (w.heap.size + 1) 206 4 v ts.length (ptoks ts) ∧ TS = Hs.prepend ts (Hs.toksL f (src.data.toList.take k) (src.data.toList.drop k))
theorem Fr.to_below {w w' : World} (h : Fr w.heap.size w w') : Below w.heap.size w w' := ⟨h.os, h.tape, h.output, h.size, fun k hk => h.block k hk (by omega)⟩
set_option maxRecDepth 100000 in
set_option maxHeartbeats 4000000 in
theorem scan_any (src : ByteArray) (w : World) (hg : NTabs w) (hm : PTabs w) (hs : src.size ≤ 2000) :
    Calls Tryz.prog 132 #[.string src] w (scanPost (Hs.tokens src.data.toList) w) := by
  obtain ⟨i0, hi, hz0, hz1, hz2⟩ := info_parts infoPTok
  have hbig := hg.big
  have h0 : SC w.heap.size src 0 (Hs.lineOf (src.data.toList.take 0)) (w.alloc (.cells #[.string src, .int .i64 0, .int .i64 1] 290)) := heap_first _ _ rfl _
  have HSK := mkHid (skip_any w.heap.size src 0 (w.alloc (.cells #[.string src, .int .i64 0, .int .i64 1] 290)) h0 (by omega) (Nat.zero_le _))
  simp only [List.drop_zero, Nat.zero_add] at HSK
  obtain ⟨b0, hb0⟩ : ∃ b0, b0 = Hs.blankL src.size src.data.toList := ⟨_, rfl⟩
  have hb0l : b0 ≤ src.size := by have := Hs.blankL_le src.size src.data.toList; rw [hb0]; simpa using this
  rw [← hb0] at HSK
  obtain ⟨TS, hTS⟩ : ∃ TS, TS = Hs.tokens src.data.toList := ⟨_, rfl⟩
  have HTS : Hid (TS = Hs.toksL (src.size + 1) (src.data.toList.take b0) (src.data.toList.drop b0)) := by
    show _ = _
    rw [hTS]
    unfold Hs.tokens
    rw [show src.data.toList.length = src.size by simp, ← hb0]
  rw [← hTS]
  have HF0 : Hid (Fr w.heap.size w (w.alloc (.cells #[.string src, .int .i64 0, .int .i64 1] 290))) := (Fr.refl _ _).alloc _
  have HG := mkHid hg
  have HM := mkHid hm
  clear h0 hg hm hb0 hTS
  go_enter Tryz.func132, Tryz.ntmps132
  go_wp2_with fail
  refine HSK.out.mono ?_
  rintro e w1 ⟨rfl, hs1, hf1⟩
  have HI : Hid (ScInv src w TS src.size (.slice none 0 0) w1) := ⟨b0, src.size + 1, [], hb0l, by omega, by omega, by simp, hs1, HF0.out.trans hf1, World.ownsRow_nil _ _ _ _, by rw [HTS.out, Hs.prepend_nil]⟩
  clear hs1 hf1 HSK HTS HF0
  go_wp2_with fail
  go_loopg [4] src.size (fun gk v wr => ScInv src w TS gk v wr)
  case atStart => exact HI.out
  case round =>
    obtain ⟨k, f, ts, hk, hf, hgk, htl, hsc, hfr, hown, hTS⟩ := hrel
    have hL : Hs.lineOf (src.data.toList.take k) ≤ k + 1 := by
      have := Hs.lineOf_le (src.data.toList.take k); have := List.length_take_le k src.data.toList; omega
    obtain ⟨h0, c0, c1, c2, f1, f2⟩ := hsc.cells
    have hwz := hfr.size
    have HSC := mkHid hsc
    have HFR := mkHid hfr
    have HTS := mkHid hTS
    obtain ⟨x, c, rfl⟩ := row_slice hown
    have hge : ∀ k, (Value.slice x ts.length c).ownBlock = some k → w.heap.size + 1 ≤ k := own_block_ge hown
    clear HI hsc hfr hTS
    by_cases hlt : k < src.size
    · obtain ⟨f, rfl⟩ : ∃ f', f = f' + 1 := ⟨f - 1, by omega⟩
      obtain ⟨j, rfl⟩ : ∃ j, gk = j + 1 := ⟨gk - 1, by omega⟩
      have hlt' : decide ((k : Int) < (src.size : Int)) = true := decide_eq_true (by omega)
      have hl : (src.data.toList.drop k).length = src.size - k := by simp
      have HTK := mkHid (token_any w.heap.size src k (Hs.lineOf (src.data.toList.take k)) wr HSC.out (HG.out.fr HFR.out hbig) (HM.out.fr HFR.out hbig) hbig (by omega) hlt)
      cases hok : (Hs.tokL (src.data.toList.drop k)).ok
      · have HF : Hid (TS = .error (Hs.lineOf (src.data.toList.take k))) := by
          show _ = _
          rw [HTS.out, Hs.toksL_bad _ _ _ (by omega) hok]; rfl
        have HOK := mkHid hok
        clear HTS hl hok
        generalize Hs.lineOf (src.data.toList.take k) = L at *
        go_wp2_with fail
        refine HTK.out.mono ?_
        rintro e w2 ⟨hf2, ⟨hk2, _, _⟩ | ⟨hk2, rfl⟩⟩
        · rw [HOK.out] at hk2; cases hk2
        have HF2 := mkHid (HFR.out.trans hf2)
        clear hf2 hk2 HTK
        go_wp2_with fail
        rw [HF.out]
        exact ⟨rfl, HF2.out.to_below, rfl⟩
      · have hsz := Hs.tokL_size _ hok
        rw [hl] at hsz
        have hnl := tok_noline _ hok
        obtain ⟨m, hm⟩ : ∃ m, m = k + (Hs.tokL (src.data.toList.drop k)).size + Hs.blankL src.size (src.data.toList.drop (k + (Hs.tokL (src.data.toList.drop k)).size)) := ⟨_, rfl⟩
        have hml : m ≤ src.size := by
          have := Hs.blankL_le src.size (src.data.toList.drop (k + (Hs.tokL (src.data.toList.drop k)).size))
          rw [List.length_drop, show src.data.toList.length = src.size by simp] at this
          omega
        have HT := toksL_at src k f hlt hok m hm
        have HF : Hid (TS = Hs.prepend (ts ++ [{ sort := (Hs.tokL (src.data.toList.drop k)).sort, text := (Hs.tokL (src.data.toList.drop k)).text, line := Hs.lineOf (src.data.toList.take k) }]) (Hs.toksL f (src.data.toList.take m) (src.data.toList.drop m))) := by
          show _ = _
          rw [HTS.out, HT, Hs.prepend_snoc]
        have hln : Hs.lineOf (src.data.toList.take (k + (Hs.tokL (src.data.toList.drop k)).size)) = Hs.lineOf (src.data.toList.take k) := by
          rw [List.take_add, Hs.lineOf_append, hnl]; rfl
        have HSK := mkHid (fun W (hW : SC w.heap.size src (k + (Hs.tokL (src.data.toList.drop k)).size) (Hs.lineOf (src.data.toList.take (k + (Hs.tokL (src.data.toList.drop k)).size))) W) => skip_any w.heap.size src _ W hW (by omega) (by omega))
        rw [hln] at HSK
        simp only [← hm] at HSK
        have HOK := mkHid hok
        have hkm : k < m := by omega
        clear HTS hl hok HT hnl hln hm
        generalize Hs.tokL (src.data.toList.drop k) = r at *
        obtain ⟨pa, hpa⟩ : ∃ pa, pa = psort r.sort := ⟨_, rfl⟩
        obtain ⟨pb, hpb⟩ : ∃ pb, pb = pval ⟨r.sort, r.text, Hs.lineOf (src.data.toList.take k)⟩ := ⟨_, rfl⟩
        have HPT : Hid (ptokV ⟨r.sort, r.text, Hs.lineOf (src.data.toList.take k)⟩ = .agg #[.int .i64 pa, .string (bs r.text), .int .i64 pb, .int .i64 (Hs.lineOf (src.data.toList.take k))]) := by show _ = _; rw [hpa, hpb]; rfl
        have HPK : Hid (ptok ⟨r.sort, r.text, Hs.lineOf (src.data.toList.take k)⟩ = [.int .i64 pa, .string (bs r.text), .int .i64 pb, .int .i64 (Hs.lineOf (src.data.toList.take k))]) := by show _ = _; rw [hpa, hpb]; rfl
        clear hpa hpb
        generalize Hs.lineOf (src.data.toList.take k) = L at *
        have HGE := mkHid hge
        have HOW := mkHid hown
        clear hown hge
        go_wp2_with fail
        refine HTK.out.mono ?_
        rintro e w2 ⟨hf2, ⟨hk2, rfl, hs2⟩ | ⟨hk2, rfl⟩⟩
        rotate_left
        · rw [HOK.out] at hk2; cases hk2
        rw [HPT.out]
        have hown2 := ownsRow_keep (w1 := w2) HOW.out fun i hi => hf2.block i (own_block_lt HOW.out i hi) (by have := HGE.out i hi; omega)
        have HF2 := mkHid (HFR.out.trans hf2)
        have HS2 := mkHid hs2
        have hwz2 := HF2.out.size
        have hsb2 := lt_of_block hs2
        clear hf2 hk2 hs2 HTK HPT
        go_wp2_with (at_builtin; refine wpList_append_lies _ (by rfl) _ _ 142 (by rfl) (w.heap.size + 1) 206 i0 _ 4 40 Tryz.underlying142 hi hz0 hz1 hz2 rfl (by decide) _ _ _ (by rfl) (hown2.alloc _) ⟨w2.heap.size, 0, none⟩ 1 1 [.int .i64 pa, .string (bs r.text), .int .i64 pb, .int .i64 L] (by rfl) (by rfl) (news_ptok _ _ _ _ _) (one_ptok _ _ _ _) (by decide) (by unfold maxLen; omega) (by omega) (by simp; omega) (w2.heap.size + 1) (by simp) ?_)
        intro g7 cap7 w7 hown7 hgrow7 hat7 hg7
        have HF7 := mkHid ((HF2.out.alloc _).grown hgrow7 (fun k hk => by have := HGE.out k hk; omega))
        have HS7 : Hid (SC w.heap.size src (k + r.size) L w7) := by
          show _ = _
          rw [hgrow7.block _ (by simp; omega) (fun e => by have := HGE.out _ e.symm; omega), Below.heap_alloc _ _ _ hsb2]
          exact HS2.out
        have HO7 : Hid (w7.ownsRow (w.heap.size + 1) 206 4 (.slice (some ⟨g7, 0, none⟩) (ts.length + 1) cap7) (ts ++ [(⟨r.sort, r.text, L⟩ : Hs.Tok)]).length (ptoks (ts ++ [⟨r.sort, r.text, L⟩]))) := by
          rw [ptoks_snoc, HPK.out, List.length_append]; exact hown7
        have HK7 := mkHid (HSK.out w7 HS7.out)
        clear hown2 hown7 hgrow7 hat7 HS2 HF2 HSK
        go_wp2_with fail
        refine HK7.out.mono ?_
        rintro e w8 ⟨rfl, hs8, hf8⟩
        have HI8 : Hid (ScInv src w TS j (.slice (some ⟨g7, 0, none⟩) (ts.length + 1) cap7) w8) := by
          refine ⟨m, f, ts ++ [⟨r.sort, r.text, L⟩], hml, by omega, by omega, by simp; omega, hs8, HF7.out.trans hf8, ?_, HF.out⟩
          exact ownsRow_keep HO7.out fun i hi => hf8.block i (own_block_lt HO7.out i hi) (by have := own_block_ge HO7.out i hi; omega)
        clear hs8 hf8 HK7
        go_wp2_with fail
        go_roundg j
        case measure => omega
        case rel => exact HI8.out
    · obtain ⟨f, rfl⟩ : ∃ f', f = f' + 1 := ⟨f - 1, by omega⟩
      have HF : Hid (TS = .ok (ts ++ [{ sort := 101, text := [], line := Hs.lineOf (src.data.toList.take k) }])) := by
        show _ = _
        rw [HTS.out, Hs.toksL_end _ _ _ (by simp; omega)]; rfl
      have hlt' : decide ((k : Int) < (src.size : Int)) = false := decide_eq_false (by omega)
      clear HTS
      generalize Hs.lineOf (src.data.toList.take k) = L at *
      go_wp2_with (at_builtin; refine wpList_append_lies _ (by rfl) _ _ 142 (by rfl) (w.heap.size + 1) 206 i0 _ 4 40 Tryz.underlying142 hi hz0 hz1 hz2 rfl (by decide) _ _ _ (by rfl) (hown.alloc _) ⟨wr.heap.size, 0, none⟩ 1 1 [.int .i64 4, .string ⟨#[]⟩, .int .i64 0, .int .i64 L] (by rfl) (by rfl) (news_ptok _ _ _ _ _) (one_ptok _ _ _ _) (by decide) (by unfold maxLen; omega) (by omega) (by simp; omega) (wr.heap.size + 1) (by simp) ?_)
      intro g7 cap7 w7 hown7 hgrow7 hat7 hg7
      have HF7 := mkHid ((HFR.out.alloc _).grown hgrow7 (fun k hk => by have := hge k hk; omega))
      have HO7 : Hid (w7.ownsRow (w.heap.size + 1) 206 4 (.slice (some ⟨g7, 0, none⟩) (ts.length + 1) cap7) (ts ++ [(⟨101, [], L⟩ : Hs.Tok)]).length (ptoks (ts ++ [⟨101, [], L⟩]))) := by
        rw [ptoks_snoc, List.length_append]; exact hown7
      clear hown hown7 hgrow7 hat7 hge
      go_wp2_with fail
      go_ret
      rw [HF.out]
      exact ⟨HF7.out.to_below, _, rfl, HO7.out⟩
end Go.Proofs.YtblbkfdhjfppkaaGreatDoor

/- Plain facts: a character by its bytes, and as the library decodes it. -/
namespace Go.Proofs.YtblbkfdhjfppkaaGreatDoor
def charN (n b0 b1 b2 b3 : Nat) : Nat :=
  if b0 < 128 then 1
  else if 194 ≤ b0 ∧ b0 ≤ 223 then (if 1 < n ∧ 128 ≤ b1 ∧ b1 ≤ 191 then 2 else 0)
  else if 224 ≤ b0 ∧ b0 ≤ 239 then
    (if (1 < n ∧ (if b0 = 224 then 160 else 128) ≤ b1 ∧ b1 ≤ (if b0 = 237 then 159 else 191)) ∧ (2 < n ∧ 128 ≤ b2 ∧ b2 ≤ 191) then 3 else 0)
  else if 240 ≤ b0 ∧ b0 ≤ 244 then
    (if ((1 < n ∧ (if b0 = 240 then 144 else 128) ≤ b1 ∧ b1 ≤ (if b0 = 244 then 143 else 191)) ∧ (2 < n ∧ 128 ≤ b2 ∧ b2 ≤ 191)) ∧ (3 < n ∧ 128 ≤ b3 ∧ b3 ≤ 191) then 4 else 0)
  else 0
set_option maxRecDepth 100000 in
set_option maxHeartbeats 4000000 in
theorem char_dec (n b0 b1 b2 b3 : Nat) (h0 : b0 < 256) (h1 : b1 < 256) (h2 : b2 < 256) (h3 : b3 < 256) :
    (charN n b0 b1 b2 b3 = 0 → Lib.decodeN n b0 b1 b2 b3 = (65533, 1)) ∧ (charN n b0 b1 b2 b3 ≠ 0 → (Lib.decodeN n b0 b1 b2 b3).2 = charN n b0 b1 b2 b3 ∧ ¬ ((Lib.decodeN n b0 b1 b2 b3).1 = 65533 ∧ charN n b0 b1 b2 b3 = 1) ∧ ((Lib.decodeN n b0 b1 b2 b3).1 = 10 ↔ b0 = 10)) := by
  have d1 : b1 / 64 = 2 ↔ 128 ≤ b1 ∧ b1 ≤ 191 := by omega
  have d2 : b2 / 64 = 2 ↔ 128 ≤ b2 ∧ b2 ≤ 191 := by omega
  have d3 : b3 / 64 = 2 ↔ 128 ≤ b3 ∧ b3 ≤ 191 := by omega
  have a1 : b0 / 32 = 6 ↔ 192 ≤ b0 ∧ b0 ≤ 223 := by omega
  have a2 : b0 / 16 = 14 ↔ 224 ≤ b0 ∧ b0 ≤ 239 := by omega
  have a3 : b0 / 8 = 30 ↔ 240 ≤ b0 ∧ b0 ≤ 247 := by omega
  unfold charN Lib.decodeN
  simp only [d1, d2, d3, a1, a2, a3]
  by_cases c1 : b0 < 128
  · simp only [if_pos c1]
    exact ⟨fun h => absurd h (by omega), fun _ => ⟨trivial, by omega, trivial⟩⟩
  · simp only [if_neg c1]
    repeat' split
    all_goals first
      | (refine ⟨fun _ => rfl, fun h => absurd rfl h⟩)
      | (refine ⟨fun h => absurd h (by omega), fun _ => ⟨rfl, ?_, ?_⟩⟩ <;> (simp only; omega))
      | (exfalso; omega)
theorem get_bang (s : ByteArray) (i : Nat) (h : i < s.size) : s.get! i = s[i] := by
  show s.data[i]! = s.data[i]
  rw [getElem!_pos s.data i (by simpa using h)]
theorem inR_get (s : ByteArray) (i lo hi : Nat) : Hs.inR s.data.toList i lo hi = decide (i < s.size ∧ lo ≤ (s.get! i).toNat ∧ (s.get! i).toNat ≤ hi) := by
  unfold Hs.inR
  by_cases h : i < s.size
  · have e : s.data.toList[i]? = some s[i] := by simp [h]; rfl
    rw [e, get_bang s i h]
    simp [h]
  · have e : s.data.toList[i]? = none := List.getElem?_eq_none (by simpa using (by omega : s.size ≤ i))
    rw [e]
    simp [h]
theorem charL_N (s : ByteArray) (h : 0 < s.size) : Hs.charL s.data.toList = charN s.size (s.get! 0).toNat (s.get! 1).toNat (s.get! 2).toNat (s.get! 3).toNat := by
  unfold Hs.charL charN
  have e : s.data.toList[0]? = some s[0] := by simp [h]; rfl
  rw [e, ← get_bang s 0 h]
  simp only [inR_get, Bool.and_eq_true, decide_eq_true_eq]
end Go.Proofs.YtblbkfdhjfppkaaGreatDoor

/- Contracts of the program: length and characters of a source. -/
namespace Go.Proofs.YtblbkfdhjfppkaaGreatDoor
open Go.RowKit
set_option maxRecDepth 100000 in
set_option maxHeartbeats 400000 in
theorem length_any (src : ByteArray) (w : World) (_hs : src.size ≤ maxLen) :
    Calls Tryz.prog 130 #[.string src] w fun e w' => w' = w ∧ ((src.size ≤ 2000 ∧ e = .returned (.tuple #[])) ∨ (2000 < src.size ∧ e = faultE 1 0)) := by
  by_cases h : src.size ≤ 2000
  · have h' : decide ((2000 : Int) < (src.size : Int)) = false := decide_eq_false (by omega)
    go_enter Tryz.func130, Tryz.ntmps130
    go_wp2_with fail
    go_end0
    exact ⟨rfl, Or.inl ⟨h, rfl⟩⟩
  · have h' : decide ((2000 : Int) < (src.size : Int)) = true := decide_eq_true (by omega)
    go_enter Tryz.func130, Tryz.ntmps130
    go_wp2_with (go_at_call 136; refine (pfail_any 1 0 _).mono ?_; rintro e w3 ⟨rfl, hw⟩; obtain rfl := hw.symm)
    exact ⟨rfl, rfl, Or.inr ⟨by omega, rfl⟩⟩
theorem mem_take_get {l : List UInt8} {c : Nat} {x : UInt8} (h : x ∈ l.take c) : ∃ i, i < c ∧ l[i]? = some x := by
  obtain ⟨i, hi, e⟩ := List.mem_iff_getElem.1 h
  have hi' := hi
  rw [List.length_take] at hi'
  refine ⟨i, by omega, ?_⟩
  rw [List.getElem_take] at e
  rw [List.getElem?_eq_getElem (by omega), e]
theorem inR_at {l : List UInt8} {i lo hi : Nat} (h : Hs.inR l i lo hi = true) {x : UInt8} (hx : l[i]? = some x) : lo ≤ x.toNat := by
  unfold Hs.inR at h
  rw [hx] at h
  simp at h
  exact h.1
theorem char_noline {l : List UInt8} (h : 2 ≤ Hs.charL l) : (l.take (Hs.charL l)).count 10 = 0 := by
  refine count_none fun x hx => ?_
  obtain ⟨i, hi, e⟩ := mem_take_get hx
  suffices 128 ≤ x.toNat by intro e; rw [e] at this; exact absurd this (by decide)
  revert h hi
  unfold Hs.charL
  cases h0 : l[0]? with
  | none => simp
  | some b =>
    simp only
    have hb : i = 0 → x = b := fun e0 => by subst e0; rw [h0] at e; exact (Option.some.inj e).symm
    split
    · intro h; omega
    · rename_i hb1
      split
      · rename_i hb2
        split
        · rename_i h1
          intro _ hi
          match i, hi with
          | 0, _ => rw [hb rfl]; omega
          | 1, _ => exact inR_at h1 e
        · intro h; omega
      · split
        · rename_i hb3
          by_cases h1 : (Hs.inR l 1 (if b.toNat = 224 then 160 else 128) (if b.toNat = 237 then 159 else 191) && Hs.inR l 2 128 191) = true
          · rw [if_pos h1]
            rw [Bool.and_eq_true] at h1
            intro _ hi
            match i, hi with
            | 0, _ => rw [hb rfl]; omega
            | 1, _ => have := inR_at h1.1 e; split at this <;> omega
            | 2, _ => exact inR_at h1.2 e
          · rw [if_neg h1]; intro h; omega
        · split
          · rename_i hb4
            by_cases h1 : (Hs.inR l 1 (if b.toNat = 240 then 144 else 128) (if b.toNat = 244 then 143 else 191) && Hs.inR l 2 128 191 && Hs.inR l 3 128 191) = true
            · rw [if_pos h1]
              rw [Bool.and_eq_true, Bool.and_eq_true] at h1
              intro _ hi
              match i, hi with
              | 0, _ => rw [hb rfl]; omega
              | 1, _ => have := inR_at h1.1.1 e; split at this <;> omega
              | 2, _ => exact inR_at h1.1.2 e
              | 3, _ => exact inR_at h1.2 e
            · rw [if_neg h1]; intro h; omega
          · intro h; omega
theorem decN_le (n b0 b1 b2 b3 : Nat) (h0 : b0 < 256) : (Lib.decodeN n b0 b1 b2 b3).1 ≤ 1114111 := by
  unfold Lib.decodeN
  repeat' split
  all_goals (simp only; omega)
theorem dec_at (src : ByteArray) (k : Nat) (hk : k < src.size) : ∃ r z, Lib.decodeGo (src.extract k src.size) = (r, z) ∧ r ≤ 1114111 ∧
    ((Hs.charL (src.data.toList.drop k) = 0 ∧ r = 65533 ∧ z = 1) ∨ (Hs.charL (src.data.toList.drop k) ≠ 0 ∧ z = Hs.charL (src.data.toList.drop k) ∧ ¬ (r = 65533 ∧ z = 1) ∧ (r = 10 ↔ src[k].toNat = 10))) := by
  have hsz : (src.extract k src.size).size = src.size - k := by simp
  have hpos : 0 < (src.extract k src.size).size := by omega
  have e0 : ((src.extract k src.size).get! 0).toNat = src[k].toNat := by rw [get_bang _ 0 hpos]; simp [ByteArray.getElem_extract]
  have hC := charL_N (src.extract k src.size) hpos
  rw [ext_data] at hC
  have hD : Lib.decodeGo (src.extract k src.size) = Lib.decodeN (src.extract k src.size).size ((src.extract k src.size).get! 0).toNat ((src.extract k src.size).get! 1).toNat ((src.extract k src.size).get! 2).toNat ((src.extract k src.size).get! 3).toNat := by
    unfold Lib.decodeGo
    rw [if_neg (by omega), Lib.decode_at]; rfl
  obtain ⟨h1, h2⟩ := char_dec (src.extract k src.size).size ((src.extract k src.size).get! 0).toNat ((src.extract k src.size).get! 1).toNat ((src.extract k src.size).get! 2).toNat ((src.extract k src.size).get! 3).toNat (UInt8.toNat_lt _) (UInt8.toNat_lt _) (UInt8.toNat_lt _) (UInt8.toNat_lt _)
  have hR := decN_le (src.extract k src.size).size ((src.extract k src.size).get! 0).toNat ((src.extract k src.size).get! 1).toNat ((src.extract k src.size).get! 2).toNat ((src.extract k src.size).get! 3).toNat (UInt8.toNat_lt _)
  rw [← hC] at h1 h2
  rw [← hD] at h1 h2 hR
  rw [e0] at h2
  clear hD hC
  generalize Lib.decodeGo (src.extract k src.size) = D at *
  obtain ⟨r, z⟩ := D
  refine ⟨r, z, rfl, hR, ?_⟩
  by_cases hz : Hs.charL (src.data.toList.drop k) = 0
  · have := h1 hz
    cases this
    exact Or.inl ⟨hz, rfl, rfl⟩
  · obtain ⟨g1, g2, g3⟩ := h2 hz
    have g1' : z = Hs.charL (src.data.toList.drop k) := g1
    exact Or.inr ⟨hz, g1', by rw [g1']; exact g2, g3⟩
theorem tabs_below {w w' : World} (h : Lib.Utf8Tabs 4 5 w) (hb : Below w.heap.size w w') (hz : 11 ≤ w.heap.size) : Lib.Utf8Tabs 4 5 w' :=
  ⟨fun c hc => (hb.cell (p := ⟨4, c, none⟩) (by show 4 < _; omega)).trans (h.1 c hc), fun i hi => ⟨(hb.cell (p := ⟨5, 2 * i, none⟩) (by show 5 < _; omega)).trans (h.2 i hi).1, (hb.cell (p := ⟨5, 2 * i + 1, none⟩) (by show 5 < _; omega)).trans (h.2 i hi).2⟩⟩
def encPost (x : Option Nat) (l : List UInt8) (w : World) (e : Ending) (w' : World) : Prop :=
  Below w.heap.size w w' ∧
    match x with
    | none => e = .returned (.tuple #[])
    | some k => e = faultE 2 (Hs.lineOf (l.take k))
set_option maxRecDepth 100000 in
set_option maxHeartbeats 2000000 in
theorem enc_any (src : ByteArray) (w : World) (hT : Lib.Utf8Tabs 4 5 w) (hz : 11 ≤ w.heap.size) (hs : src.size ≤ 2000) :
    Calls Tryz.prog 131 #[.string src] w (encPost (Hs.spoilAt src.size src.data.toList 0) src.data.toList w) := by
  have HT := mkHid hT
  obtain ⟨X, hX⟩ : ∃ X, X = Hs.spoilAt src.size src.data.toList 0 := ⟨_, rfl⟩
  rw [← hX]
  have HX0 : Hid (X = Hs.spoilAt src.size (src.data.toList.drop 0) 0) := hX
  clear hT hX
  go_enter Tryz.func131, Tryz.ntmps131
  go_wp2_with fail
  go_loopg [2, 3, 4, 5] src.size (fun gk lv iv _ _ wr => ∃ k f : Nat, k ≤ src.size ∧ src.size ≤ k + f ∧ src.size ≤ k + gk ∧ iv = .int .i64 k ∧ lv = .int .i64 (Hs.lineOf (src.data.toList.take k)) ∧ Below w.heap.size w wr ∧ Hid (X = Hs.spoilAt f (src.data.toList.drop k) k))
  case atStart => exact ⟨0, src.size, Nat.zero_le _, by omega, by omega, rfl, rfl, Below.refl _ _, HX0⟩
  case round =>
    obtain ⟨k, f, hk, hf, hgk, rfl, rfl, hb, HX⟩ := hrel
    have hL : Hs.lineOf (src.data.toList.take k) ≤ k + 1 := by
      have := Hs.lineOf_le (src.data.toList.take k); have := List.length_take_le k src.data.toList; omega
    have HB := mkHid hb
    by_cases hlt : k < src.size
    · obtain ⟨f, rfl⟩ : ∃ f', f = f' + 1 := ⟨f - 1, by omega⟩
      obtain ⟨j, rfl⟩ : ∃ j, gk = j + 1 := ⟨gk - 1, by omega⟩
      have hlen : 0 < (src.data.toList.drop k).length := by simp; omega
      obtain ⟨r, z, hD, hr, hc⟩ := dec_at src k hlt
      have HD := mkHid (Tryz.utf8_DecodeRuneInString (src.extract k src.size) wr (tabs_below HT.out hb hz))
      rw [hD] at HD
      clear hD hb
      rcases hc with ⟨hc0, rfl, rfl⟩ | ⟨hc0, hcz, hrz, hr10⟩
      · have HF : Hid (X = some k) := by show _ = _; rw [HX.out, spoilAt_hit _ _ _ hlen hc0]
        generalize hLL : Hs.lineOf (src.data.toList.take k) = L at *
        have HLL := mkHid hLL
        clear HX hc0 hlen hLL
        go_wp2_with fail
        refine HD.out.mono ?_
        rintro e w1 ⟨rfl, hb1⟩
        have HB1 := mkHid (HB.out.trans (hb1.mono HB.out.size))
        clear hb1 HD
        go_wp2_with (go_at_call 136; refine (pfail_any 2 L _).mono ?_; rintro e w3 ⟨rfl, hw⟩; obtain rfl := hw.symm)
        rw [HF.out]
        exact ⟨rfl, HB1.out, congrArg (faultE 2) HLL.out.symm⟩
      · have HF : Hid (X = Hs.spoilAt f (src.data.toList.drop (k + z)) (k + z)) := by
          show _ = _
          rw [HX.out, spoilAt_step _ _ _ hlen hc0, List.drop_drop, ← hcz]
        have hzl : z ≤ src.size - k := by rw [hcz]; have := charL_len (src.data.toList.drop k); simpa using this
        have hz1 : 1 ≤ z := by omega
        have hln : Hs.lineOf (src.data.toList.take (k + z)) = Hs.lineOf (src.data.toList.take k) + if r = 10 then 1 else 0 := by
          by_cases h2 : 2 ≤ z
          · have h3 := char_noline (l := src.data.toList.drop k) (by omega)
            rw [← hcz] at h3
            rw [List.take_add, Hs.lineOf_append, h3]
            rw [if_neg]
            intro e
            have h4 := hr10.1 e
            have h5 : src[k] ∈ (src.data.toList.drop k).take z := by
              rw [drop_cons src k hlt]
              obtain ⟨y, rfl⟩ : ∃ y, z = y + 1 := ⟨z - 1, by omega⟩
              rw [List.take_succ_cons]
              exact List.mem_cons_self ..
            exact List.count_eq_zero.1 h3 (by have : src[k] = 10 := UInt8.toNat_inj.1 h4; rw [this] at h5; exact h5)
          · obtain rfl : z = 1 := by omega
            rw [line_next src k hlt]
            congr 1
            by_cases h6 : r = 10
            · rw [if_pos h6, if_pos (UInt8.toNat_inj.1 (hr10.1 h6))]
            · rw [if_neg h6, if_neg (fun e => h6 (hr10.2 (by rw [e]; rfl)))]
        have HLN := mkHid hln
        generalize Hs.lineOf (src.data.toList.take k) = L at *
        have hrz' : ((r : Int) == 65533) = false ∨ ((r : Int) == 65533) = true ∧ ((z : Int) == 1) = false := by
          by_cases h7 : r = 65533
          · refine Or.inr ⟨by simp; omega, ?_⟩
            simp
            intro e
            exact hrz ⟨h7, by omega⟩
          · exact Or.inl (by simp; omega)
        have hne : (src.data.toList.drop k).length = src.size - k := by simp
        clear HX hc0 hlen hcz hr10 hln hrz hne
        by_cases h10 : r = 10
        · have e1 : ((r : Int) == 10) = true := by simp; omega
          have e2 : ((r : Int) == 65533) = false := by simp; omega
          have HL2 : Hid (Hs.lineOf (src.data.toList.take (k + z)) = L + 1) := by show _ = _; rw [HLN.out, if_pos h10]
          clear hrz' h10 HLN
          go_wp2_with fail
          refine HD.out.mono ?_
          rintro e w1 ⟨rfl, hb1⟩
          have HB1 := mkHid (HB.out.trans (hb1.mono HB.out.size))
          clear hb1 HD
          go_wp2_with fail
          go_roundg j
          case measure => omega
          case rel => exact ⟨k + z, f, by omega, by omega, by omega, by go_num, by rw [HL2.out]; go_num, HB1.out, HF⟩
        · have e1 : ((r : Int) == 10) = false := by simp; omega
          have HL2 : Hid (Hs.lineOf (src.data.toList.take (k + z)) = L) := by show _ = _; rw [HLN.out, if_neg h10]; rfl
          clear h10 HLN
          rcases hrz' with e2 | ⟨e2, e3⟩
          all_goals
            go_wp2_with fail
            refine HD.out.mono ?_
            rintro e w1 ⟨rfl, hb1⟩
            have HB1 := mkHid (HB.out.trans (hb1.mono HB.out.size))
            clear hb1 HD
            go_wp2_with fail
            go_roundg j
            case measure => omega
            case rel => exact ⟨k + z, f, by omega, by omega, by omega, by go_num, by rw [HL2.out], HB1.out, HF⟩
    · have HF : Hid (X = none) := by show _ = _; rw [HX.out, spoilAt_nil _ _ _ (by simp; omega)]
      have hlt' : decide ((k : Int) < (src.size : Int)) = false := decide_eq_false (by omega)
      clear HX hb
      generalize Hs.lineOf (src.data.toList.take k) = L at *
      go_wp2_with fail
      go_end0
      rw [HF.out]
      exact ⟨HB.out, rfl⟩
end Go.Proofs.YtblbkfdhjfppkaaGreatDoor
