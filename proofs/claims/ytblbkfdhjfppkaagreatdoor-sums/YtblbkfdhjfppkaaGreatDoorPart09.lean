/- Contracts of the program: a source is read. -/
import Derived.Test.YtblbkfdhjfppkaaGreatDoorPart08
import Derived.Test.YtblbkfdhjfppkaaGreatDoorPart07
namespace Go.Proofs.YtblbkfdhjfppkaaGreatDoor
open Go.RowKit
structure AllTabs (w : World) : Prop where
  n : NTabs w
  p : PTabs w
  u : Lib.Utf8Tabs 4 5 w
theorem AllTabs.below {w w' : World} (h : AllTabs w) (hb : Below w.heap.size w w') : AllTabs w' :=
  ⟨h.n.fr (sb := w.heap.size) ⟨hb.os, hb.tape, hb.output, hb.size, fun k hk _ => hb.block k hk⟩ h.n.big, h.p.fr (sb := w.heap.size) ⟨hb.os, hb.tape, hb.output, hb.size, fun k hk _ => hb.block k hk⟩ h.n.big, tabs_below h.u hb h.n.big⟩
theorem FineA.kid {m : Nat} {f k : Hs.Ast} (h : Hs.FineA m f) (hk : k ∈ f.kids) : Hs.FineA m k := fun d => by
  have h1 := h (d + 1)
  refine ⟨?_, h1.2.2 k hk⟩
  have h2 := h1.1
  rw [Hs.wt] at h2
  have := sum_mem_le (f := Hs.wt d) hk
  omega
theorem FineA.kids {m : Nat} {f : Hs.Ast} (h : Hs.FineA m f) (d : Nat) : f.kids.length ≤ m ∧ (f.kids.map (Hs.wt d)).sum ≤ m := by
  have h1 := (h (d + 1)).1
  have h2 := (h 2).1
  rw [Hs.wt] at h1 h2
  have h3 : f.kids.length ≤ (f.kids.map (Hs.wt 1)).sum := len_le_sum 0 f.kids
  exact ⟨by omega, by omega⟩
def tokR (l : List UInt8) : Except (Nat × Nat) (List Hs.Tok) :=
  if 2000 < l.length then .error (1, 0)
  else match Hs.spoilAt l.length l 0 with
    | some k => .error (2, Hs.lineOf (l.take k))
    | none =>
      match Hs.tokens l with
      | .error n => .error (3, n)
      | .ok ts => .ok ts
theorem parsed_tok (l : List UInt8) : Hs.parsedL l = match tokR l with
    | .error f => .error f
    | .ok ts => match Hs.progP ts with
      | .error n => .error (4, n)
      | .ok (ks, _) => .ok ks := by
  unfold Hs.parsedL tokR
  by_cases h : 2000 < l.length
  · rw [if_pos h, if_pos h]
  · rw [if_neg h, if_neg h]
    cases Hs.spoilAt l.length l 0 with
    | some k => rfl
    | none =>
      cases Hs.tokens l with
      | error n => rfl
      | ok ts => rfl
theorem tokR_ok {l : List UInt8} {ts : List Hs.Tok} (h : tokR l = .ok ts) : Hs.tokens l = .ok ts ∧ l.length ≤ 2000 := by
  unfold tokR at h
  split at h
  · cases h
  · split at h
    · cases h
    · split at h
      · cases h
      · cases h; exact ⟨by assumption, by omega⟩
theorem tokR_kind {l : List UInt8} {f : Nat × Nat} (h : tokR l = .error f) : f.1 ≠ 0 := by
  unfold tokR at h
  split at h
  · cases h; simp
  · split at h
    · cases h; simp
    · split at h
      · cases h; simp
      · cases h
def parserPost (l : List UInt8) (w : World) (e : Ending) (w' : World) : Prop :=
  Below w.heap.size w w' ∧
    match tokR l with
    | .error f => e = faultE f.1 f.2
    | .ok ts => ∃ v, e = .returned (.agg #[v, .int .i64 0]) ∧ w'.ownsRow w.heap.size 206 4 v ts.length (ptoks ts)
def preadPost (l : List UInt8) (w : World) (e : Ending) (w' : World) : Prop :=
  Below w.heap.size w w' ∧ ((Hs.readL l = (0, 0) ∧ ∃ v ks, e = .returned v ∧ Hs.parsedL l = .ok ks ∧ FSl (Btw w.heap.size w'.heap.size) w' v ks) ∨ ((Hs.readL l).1 ≠ 0 ∧ e = faultE (Hs.readL l).1 (Hs.readL l).2))
theorem names_main {ks : List Hs.Ast} (d : Nat) (h : mainOK ks = false) (hk : ∀ f ∈ ks, 1 ≤ f.kids.length) : Hs.namesL d ks = (5, 0) := by
  unfold Hs.namesL
  unfold mainOK parL at h
  cases hf : Hs.funcL ks [109, 97, 105, 110] with
  | none => rfl
  | some m =>
    rw [hf] at h
    have h1 := hk m (List.mem_of_find?_eq_some hf)
    have h2 : ¬ m.kids.length - 1 = 0 := by
      intro e
      rw [show (([109, 97, 105, 110] : List UInt8) == [108, 101, 110]) = false by decide, show (([109, 97, 105, 110] : List UInt8) == [114, 101, 97, 100]) = false by decide] at h
      simp [e] at h
    show (if 1 < m.kids.length then _ else _) = _
    rw [if_pos (by omega)]
theorem names_go {ks : List Hs.Ast} (d : Nat) (h : mainOK ks = true) : Hs.namesL d ks = ((Hs.allL ks d [] ks ⟨[], 0, 0⟩).kind, (Hs.allL ks d [] ks ⟨[], 0, 0⟩).line) := by
  unfold Hs.namesL
  unfold mainOK parL at h
  rw [show (([109, 97, 105, 110] : List UInt8) == [108, 101, 110]) = false by decide, show (([109, 97, 105, 110] : List UInt8) == [114, 101, 97, 100]) = false by decide] at h
  cases hf : Hs.funcL ks [109, 97, 105, 110] with
  | none => rw [hf] at h; simp at h
  | some m =>
    rw [hf] at h
    simp at h
    show (if 1 < m.kids.length then _ else _) = _
    rw [if_neg (by omega)]
theorem FSl.grow {F G : Nat → Prop} {w w' : World} {v : Value} {fs : List Hs.Ast} (h : FSl F w v fs) (hk : ∀ b, F b → w'.heap[b]? = w.heap[b]?) (hF : ∀ b, F b → G b) : FSl G w' v fs := by
  rcases h with h | ⟨g, cap, cur, us, h1, h2, h3, h4, h5, h6⟩
  · exact Or.inl h
  · exact Or.inr ⟨g, cap, cur, us, h1, hF g h2, by rw [hk g h2]; exact h3, h4, h5, h6.mono fun _ _ h => h.keep hk hF⟩
theorem row_at {w : World} {b : Nat} {v : Value} {ts : List Hs.Tok} (h : w.ownsRow b 206 4 v ts.length (ptoks ts)) (hp : 0 < ts.length) : ∃ g cap cur, v = .slice (some ⟨g, 0, none⟩) ts.length cap ∧ b ≤ g ∧ ts.length ≤ cap ∧ w.heap[g]? = some (.cells cur 206 (0, 0)) ∧ cur.toList.take (ts.length * 4) = ptoks ts := by
  rcases h.2 with ⟨r1, r2⟩ | ⟨g, cap, cur, r1, r2, r3, r4, r5, r6, r7⟩
  · omega
  · exact ⟨g, cap, cur, r1, r2, r4, r3, r7⟩
set_option maxRecDepth 100000 in
set_option maxHeartbeats 4000000 in
theorem parserOf_any (src : ByteArray) (w : World) (hT : AllTabs w) (hs : src.size ≤ maxLen) :
    Calls Tryz.prog 76 #[.string src] w (parserPost src.data.toList w) := by
  have hln : src.data.toList.length = src.size := by simp
  obtain ⟨l, hl⟩ : ∃ l, l = src.data.toList := ⟨_, rfl⟩
  rw [← hl] at hln ⊢
  obtain ⟨w0, hw0⟩ : ∃ w0, w0 = w.alloc (.cells #[.slice none 0 0, .int .i64 0] 144) := ⟨_, rfl⟩
  have hb0 : Below w.heap.size w w0 := by rw [hw0]; exact (Below.refl _ _).alloc (Nat.le_refl _) _
  have hblk0 : w0.heap[w.heap.size]? = some (.cells #[.slice none 0 0, .int .i64 0] 144 (0, 0)) := by rw [hw0]; exact heap_first _ _ rfl _
  have hsz0 : w0.heap.size = w.heap.size + 1 := by rw [hw0]; simp
  have HLE := mkHid (length_any src w0 hs)
  have HL := mkHid hl
  have HT := mkHid (hT.below hb0)
  have HB0 := mkHid hb0
  have HK0 := mkHid hblk0
  have HW0 := mkHid hw0
  clear hl hT hb0 hblk0 hw0
  go_enter Tryz.func76, Tryz.ntmps76
  go_wp2_with fail
  rw [← HW0.out]
  refine HLE.out.mono ?_
  rintro e w1 ⟨hw, ⟨hsz, rfl⟩ | ⟨hsz, rfl⟩⟩
  rotate_left
  · obtain rfl := hw.symm
    have HF : Hid (tokR l = .error (1, 0)) := by
      show _ = _
      unfold tokR
      rw [if_pos (by omega)]
    go_wp2_with fail
    exact ⟨rfl, HB0.out, by rw [HF.out]; rfl⟩
  obtain rfl := hw.symm
  have HE := mkHid (enc_any src w0 HT.out.u HT.out.n.big hsz)
  rw [← HL.out, ← hln] at HE
  have hlen : ¬ 2000 < l.length := by omega
  clear hw HLE
  go_wp2_with fail
  refine HE.out.mono ?_
  rintro e w1 ⟨hb1, he1⟩
  cases hsp : Hs.spoilAt l.length l 0 with
  | some k =>
    rw [hsp] at he1
    obtain rfl : e = faultE 2 (Hs.lineOf (l.take k)) := he1
    have HF : Hid (tokR l = .error (2, Hs.lineOf (l.take k))) := by show _ = _; unfold tokR; rw [if_neg hlen, hsp]
    have HB1 := mkHid (HB0.out.trans (hb1.mono HB0.out.size))
    clear hb1 HE hsp
    go_wp2_with fail
    exact ⟨rfl, HB1.out, by rw [HF.out]; rfl⟩
  | none =>
    rw [hsp] at he1
    obtain rfl : e = .returned (.tuple #[]) := he1
    have HSC := mkHid (scan_any src w1 (HT.out.below hb1).n (HT.out.below hb1).p hsz)
    rw [← HL.out] at HSC
    have HB1 := mkHid hb1
    have hR1 : tokR l = match Hs.tokens l with
      | .error n => .error (3, n)
      | .ok ts => .ok ts := by unfold tokR; rw [if_neg hlen, hsp]
    have HR1 := mkHid hR1
    clear hb1 HE hsp hR1
    go_wp2_with fail
    refine HSC.out.mono ?_
    rintro e w2 ⟨hb2, he2⟩
    cases htk : Hs.tokens l with
    | error n =>
      rw [htk] at he2
      obtain rfl : e = faultE 3 n := he2
      have HF : Hid (tokR l = .error (3, n)) := by show _ = _; rw [HR1.out, htk]
      have HB2 := mkHid (HB0.out.trans ((HB1.out.trans (hb2.mono HB1.out.size)).mono HB0.out.size))
      clear hb2 HSC htk HR1
      go_wp2_with fail
      exact ⟨rfl, HB2.out, by rw [HF.out]; rfl⟩
    | ok ts =>
      rw [htk] at he2
      obtain ⟨v, rfl, hown⟩ := he2
      obtain ⟨x, c, rfl⟩ : ∃ x c, v = .slice x ts.length c := by
        rcases hown.2 with ⟨r1, r2⟩ | ⟨g, cap, cur, r1, _⟩
        · exact ⟨none, 0, by rw [r1, r2]⟩
        · exact ⟨_, _, r1⟩
      have HF : Hid (tokR l = .ok ts) := by show _ = _; rw [HR1.out, htk]
      have hs12 := HB1.out.size
      have hblk2 : w2.heap[w.heap.size]? = some (.cells #[.slice none 0 0, .int .i64 0] 144 (0, 0)) := by
        rw [hb2.block _ (by omega), HB1.out.block _ (by omega)]; exact HK0.out
      have hlt2 := lt_of_block hblk2
      have m0 := cell_of_block hblk2 (i := 0) rfl
      have m1 := cell_of_block hblk2 (i := 1) rfl
      have fz := frozen_of_block hblk2 (i := 0)
      have fz1 := frozen_of_block hblk2 (i := 1)
      have HB2 := mkHid (HB0.out.trans ((HB1.out.trans (hb2.mono HB1.out.size)).mono HB0.out.size))
      have HO2 := mkHid hown
      clear hown hb2 HSC htk HR1 hblk2
      go_wp2_with fail
      refine bodyPost_ret (v := .agg #[.slice x ts.length c, .int .i64 0]) (by simp [results, Tryz.results76, go_sem, m0, m1]) rfl ?_
      refine ⟨(HB2.out.setCell (by simp) _).setCell (by simp) _, ?_⟩
      rw [HF.out]
      refine ⟨_, rfl, ?_⟩
      have ho := HO2.out
      rcases ho.2 with hn | ⟨g, cap, cur, r1, r2, r3, r4⟩
      · exact ⟨ho.1, Or.inl hn⟩
      · refine ⟨ho.1, Or.inr ⟨g, cap, cur, r1, by omega, ?_, r4⟩⟩
        rw [Below.heap_setCell _ _ _ _ (by show g ≠ w.heap.size; omega), Below.heap_setCell _ _ _ _ (by show g ≠ w.heap.size; omega)]
        exact r3
set_option maxRecDepth 100000 in
set_option maxHeartbeats 4000000 in
theorem pread_any (src : ByteArray) (w : World) (hT : AllTabs w) (hs : src.size ≤ maxLen) :
    Calls Tryz.prog 44 #[.string src] w (preadPost src.data.toList w) := by
  have HPO := mkHid (parserOf_any src w hT hs)
  obtain ⟨l, hl⟩ : ∃ l, l = src.data.toList := ⟨_, rfl⟩
  rw [← hl] at HPO ⊢
  clear hl hT
  go_enter Tryz.func44, Tryz.ntmps44
  go_wp2_with fail
  refine HPO.out.mono ?_
  rintro e w2 ⟨hb2, he2⟩
  cases htr : tokR l with
    | error f =>
      rw [htr] at he2
      obtain rfl : e = faultE f.1 f.2 := he2
      have HF : Hid (Hs.readL l = f) := by show _ = _; unfold Hs.readL; rw [parsed_tok, htr]
      have HK := mkHid (tokR_kind htr)
      have HB2 := mkHid hb2
      clear hb2 HPO htr
      go_wp2_with fail
      exact ⟨rfl, HB2.out, by rw [HF.out]; exact Or.inr ⟨HK.out, rfl⟩⟩
    | ok ts =>
      rw [htr] at he2
      obtain ⟨v, rfl, hown⟩ := he2
      have htk := (tokR_ok htr).1
      have hlen := (tokR_ok htr).2
      have hall := Hs.tokens_all htk
      have hR2 : Hs.parsedL l = match Hs.progP ts with
        | .error n => .error (4, n)
        | .ok (ks, _) => .ok ks := by rw [parsed_tok, htr]
      have HR2 := mkHid hR2
      obtain ⟨g, cap, cur, rfl, hg, hcap, hrow, hcur⟩ := row_at hown hall.1.some_
      have hgl := lt_of_block hrow
      have hat : PAt ⟨w2.heap.size, g, cap, ts⟩ (w2.alloc (.cells #[.slice (some ⟨g, 0, none⟩) ts.length cap, .int .i64 0] 144)) 0 :=
        ⟨heap_first _ _ rfl _, ⟨cur, heap_later _ _ hgl _ hrow, hcur⟩, by show g ≠ w2.heap.size; omega, hall.1.some_, by show ts.length ≤ 3000; omega, hcap, hall.1, Hs.tokens_k htk⟩
      have HP := mkHid (program_any ⟨w2.heap.size, g, cap, ts⟩ (w2.alloc (.cells #[.slice (some ⟨g, 0, none⟩) ts.length cap, .int .i64 0] 144)) hat (Hs.TsOk.prog hall.1.ok hall.1.some_))
      have HB2 := mkHid hb2
      clear hown hb2 HPO htr htk hR2 hat hrow hcur hall
      go_wp2_with fail
      refine HP.out.mono ?_
      rintro e w3 ⟨hf3, ho3⟩
      have hb3 : Below w2.heap.size w2 w3 := ⟨hf3.os.trans rfl, hf3.tape.trans rfl, hf3.output.trans rfl, Nat.le_trans (by simp) hf3.size, fun k hk => by rw [hf3.block k (by simp; omega) (by show k ≠ w2.heap.size; omega)]; exact Below.heap_alloc _ _ _ hk⟩
      have HB3 := mkHid (HB2.out.trans (hb3.mono HB2.out.size))
      cases hpr : Hs.progP ts with
      | error n =>
        rw [hpr] at ho3
        obtain rfl : e = faultE 4 n := ho3
        have HF : Hid (Hs.readL l = (4, n)) := by show _ = _; unfold Hs.readL; rw [HR2.out, hpr]
        clear hf3 hb3 HP hpr HR2
        go_wp2_with fail
        exact ⟨rfl, HB3.out, by rw [HF.out]; exact Or.inr ⟨by simp, rfl⟩⟩
      | ok kq =>
        obtain ⟨ks, q⟩ := kq
        rw [hpr] at ho3
        obtain ⟨_, v3, rfl, hv3⟩ := ho3
        have hpl : Hs.parsedL l = .ok ks := by rw [HR2.out, hpr]
        have hfine := Hs.sz_parsed hpl
        have HF : Hid (Hs.readL l = Hs.namesL 2001 ks) := by show _ = _; unfold Hs.readL; rw [hpl]
        have hfl := FineL.len hfine
        have hfk : ∀ f ∈ ks, f.kids.length ≤ 90000 := fun f hf => by have := (FineA.kids (FineL.mem hfine hf) 0).1; omega
        have hdd : ∀ f ∈ ks, ∀ k ∈ f.kids, Hs.dp 2001 k := fun f hf k hk => Hs.dp_of_fine 2001 k (FineA.kid (FineL.mem hfine hf) hk)
        have hww : ∀ f ∈ ks, f.kids.length + (f.kids.map (Hs.wt 2001)).sum ≤ 90000 := fun f hf => by have := FineA.kids (FineL.mem hfine hf) 2001; omega
        have hfs : FSl (Btw (w2.alloc (.cells #[.slice (some ⟨g, 0, none⟩) ts.length cap, .int .i64 0] 144)).heap.size w3.heap.size) w3 v3 ks := hv3
        obtain ⟨fx, fc, rfl⟩ : ∃ x c, v3 = .slice x ks.length c := by
          rcases hfs.cells with ⟨h1, h2⟩ | ⟨g, cap, h1, _⟩
          · exact ⟨none, 0, by rw [h1, h2]; rfl⟩
          · exact ⟨_, _, h1⟩
        have HKI := mkHid hfs.kids
        have HM := mkHid (ckMain_any ks _ _ w3 (by omega) hfk hfs)
        have HFS := mkHid hfs
        have HFK := mkHid hfk
        have HDD := mkHid hdd
        have HWW := mkHid hww
        have HPL := mkHid hpl
        clear hf3 hb3 HP hpr HR2 hv3 hpl hfine hfk hdd hww hfs
        go_wp2_with fail
        refine HM.out.mono ?_
        rintro e w4 ⟨hb4, ⟨hmo, rfl⟩ | ⟨hmo, rfl⟩⟩
        rotate_left
        · have HB4 := mkHid (HB3.out.trans (hb4.mono HB3.out.size))
          have HF2 : Hid (Hs.readL l = (5, 0)) := by show _ = _; rw [HF.out, names_main 2001 hmo HKI.out]
          clear hb4 hmo HM
          go_wp2_with fail
          exact ⟨rfl, HB4.out, by rw [HF2.out]; exact Or.inr ⟨by decide, rfl⟩⟩
        have HB4 := mkHid (HB3.out.trans (hb4.mono HB3.out.size))
        have HF2 : Hid (Hs.readL l = ((Hs.allL ks 2001 [] ks ⟨[], 0, 0⟩).kind, (Hs.allL ks 2001 [] ks ⟨[], 0, 0⟩).line)) := by show _ = _; rw [HF.out, names_go 2001 hmo]
        have HN := mkHid (ckNames_any (w2.alloc (.cells #[.slice (some ⟨g, 0, none⟩) ts.length cap, .int .i64 0] 144)).heap.size ks (.slice fx ks.length fc) w4 2001 (by omega) HFK.out (HFS.out.grow (fun b hb => hb4.block b hb.2) fun b hb => ⟨hb.1, Nat.lt_of_lt_of_le hb.2 hb4.size⟩) HDD.out HWW.out)
        have HF4 := mkHid (HFS.out.grow (G := Btw w.heap.size w4.heap.size) (fun b hb => hb4.block b hb.2) fun b hb => ⟨by have h1 := hb.1; have h2 := HB2.out.size; simp at h1; omega, Nat.lt_of_lt_of_le hb.2 hb4.size⟩)
        clear hb4 hmo HM HF HFK HDD HWW HKI HFS
        generalize (Hs.allL ks 2001 [] ks ⟨[], 0, 0⟩).kind = kd at *
        generalize (Hs.allL ks 2001 [] ks ⟨[], 0, 0⟩).line = ld at *
        go_wp2_with fail
        refine HN.out.mono ?_
        rintro e w5 ⟨hb5, ⟨hk5, hl5, rfl⟩ | ⟨hk5, rfl⟩⟩
        · have HB5 := mkHid (HB4.out.trans (hb5.mono HB4.out.size))
          have HF3 : Hid (Hs.readL l = (0, 0)) := by show _ = _; rw [HF2.out, hk5, hl5]
          have HF5 := mkHid (HF4.out.grow (G := Btw w.heap.size w5.heap.size) (fun b hb => hb5.block b hb.2) fun b hb => ⟨hb.1, Nat.lt_of_lt_of_le hb.2 hb5.size⟩)
          clear hb5 hk5 hl5 HN
          go_wp2_with fail
          go_ret
          exact ⟨HB5.out, Or.inl ⟨HF3.out, _, ks, rfl, HPL.out, HF5.out⟩⟩
        · have HB5 := mkHid (HB4.out.trans (hb5.mono HB4.out.size))
          have HK5 := mkHid hk5
          clear hb5 hk5 HN
          go_wp2_with fail
          exact ⟨rfl, HB5.out, by rw [HF2.out]; exact Or.inr ⟨HK5.out, rfl⟩⟩
end Go.Proofs.YtblbkfdhjfppkaaGreatDoor
