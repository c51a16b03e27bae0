/- Contracts of the program: the whole of a program. -/
import Derived.Test.YtblbkfdhjfppkaaGreatDoorPart04
import Derived.Test.YtblbkfdhjfppkaaGreatDoorPart01
import Derived.Test.YtblbkfdhjfppkaaGreatDoorPart02
namespace Go.Proofs.YtblbkfdhjfppkaaGreatDoor
open Go.RowKit
theorem infoFunc : (Tryz.prog.info? 215).map (fun i => (i.zero, i.size, i.bytes)) = some (some (.agg #[.int .i64 0, .string (bs []), .slice none 0 0, .slice none 0 0]), 4, 72) := by kernel_rfl
def cells4 : Value → List Value
  | .agg a => a.toList
  | v => [v]
def flat4 : List Value → List Value
  | [] => []
  | v :: l => cells4 v ++ flat4 l
theorem flat4_snoc (l : List Value) (v : Value) : flat4 (l ++ [v]) = flat4 l ++ cells4 v := by
  induction l with
  | nil => simp [flat4]
  | cons x l ih => simp [flat4, ih]
def FSl (F : Nat → Prop) (w : World) (v : Value) (fs : List Hs.Ast) : Prop :=
  (v = .slice none 0 0 ∧ fs = []) ∨
  ∃ g cap cur us, v = .slice (some ⟨g, 0, none⟩) fs.length cap ∧ F g ∧ w.heap[g]? = some (.cells cur 215 (0, 0)) ∧ fs.length ≤ cap ∧ cur.toList.take (fs.length * 4) = flat4 us ∧ All2 (FunR F w) us fs
def PFl (base : Nat) (w : World) (v : Value) (acc : List Hs.Ast) : Prop :=
  ∃ us F, w.ownsRow base 215 4 v acc.length (flat4 us) ∧ All2 (FunR F w) us acc ∧ ∀ b, F b → base ≤ b ∧ b < w.heap.size ∧ v.ownBlock ≠ some b
theorem PFl.nil (base : Nat) (w : World) : PFl base w (.slice none 0 0) [] := ⟨[], fun _ => False, World.ownsRow_nil _ _ _ _, trivial, fun _ h => h.elim⟩
theorem PFl.slice {base : Nat} {w : World} {v : Value} {acc : List Hs.Ast} (h : PFl base w v acc) : ∃ x c, v = .slice x acc.length c := by
  obtain ⟨vs, F, h1, _⟩ := h
  rcases h1.2 with ⟨r1, r2⟩ | ⟨g, cap, cur, r1, _⟩
  · exact ⟨none, 0, by rw [r1, r2]⟩
  · exact ⟨_, cap, r1⟩
theorem PFl.keep {base pb : Nat} {w w1 : World} {v : Value} {acc : List Hs.Ast} (h : PFl base w v acc) (hf : Fr pb w w1) (hp : pb < base) : PFl base w1 v acc := by
  obtain ⟨vs, F, h1, h2, h3⟩ := h
  refine ⟨vs, F, ownsRow_keep h1 fun k hk => ?_, h2.mono fun _ _ h => h.keep (fun b hb => ?_) (fun _ h => h), fun b hb => ?_⟩
  · have := own_block_ge h1 k hk
    exact hf.block k (own_block_lt h1 k hk) (by omega)
  · have := h3 b hb
    have := hf.size
    exact ⟨by omega, by omega, (h3 b hb).2.2⟩
  · have := h3 b hb
    exact hf.block b this.2.1 (by omega)
theorem PFl.snoc {base lo : Nat} {w wa w2 : World} {v : Value} {acc : List Hs.Ast} {cv : Value} {a : Hs.Ast} {g cap : Nat} {us : List Value} {F : Nat → Prop} (h2 : All2 (FunR F w) us acc) (h3 : ∀ b, F b → base ≤ b ∧ b < w.heap.size ∧ v.ownBlock ≠ some b)
    (hr : FunR (Btw lo w.heap.size) w cv a) (hlo : base ≤ lo) (hrow : ∀ k, v.ownBlock = some k → k < lo) (hwa : ∀ k, k < w.heap.size → wa.heap[k]? = w.heap[k]?) (hsz : w.heap.size ≤ wa.heap.size)
    (hown : w2.ownsRow base 215 4 (.slice (some ⟨g, 0, none⟩) (acc.length + 1) cap) (acc.length + 1) (flat4 us ++ cells4 cv))
    (hgrow : wa.grownBy w2 v.ownBlock) (hat : v.ownBlock = some g ∨ w.heap.size ≤ g) : PFl base w2 (.slice (some ⟨g, 0, none⟩) (acc.length + 1) cap) (acc ++ [a]) := by
  have hk : ∀ b, (F b ∨ Btw lo w.heap.size b) → base ≤ b ∧ b < w.heap.size ∧ v.ownBlock ≠ some b := by
    rintro b (hb | hb)
    · exact h3 b hb
    · exact ⟨by have := hb.1; omega, hb.2, fun e => by have := hrow b e; have := hb.1; omega⟩
  have hkeep : ∀ b, (F b ∨ Btw lo w.heap.size b) → w2.heap[b]? = w.heap[b]? := fun b hb => by
    have hb' := hk b hb
    rw [hgrow.block b (by omega) (fun e => hb'.2.2 e.symm), hwa b hb'.2.1]
  refine ⟨us ++ [cv], fun b => F b ∨ Btw lo w.heap.size b, ?_, ?_, ?_⟩
  · rw [List.length_append, flat4_snoc]; exact hown
  · exact All2.snoc (h2.mono fun _ _ h => h.keep (fun b hb => hkeep b (Or.inl hb)) (fun _ => Or.inl)) (hr.keep (fun b hb => hkeep b (Or.inr hb)) (fun _ => Or.inr))
  · intro b hb
    have hb' := hk b hb
    have := hgrow.size
    refine ⟨hb'.1, by omega, fun e => ?_⟩
    have e' : g = b := Option.some.inj e
    rcases hat with hat | hat
    · exact hb'.2.2 (by rw [hat, e'])
    · omega
theorem PFl.fsl {base : Nat} {w : World} {v : Value} {acc : List Hs.Ast} (h : PFl base w v acc) : FSl (Btw base w.heap.size) w v acc := by
  obtain ⟨us, F, h1, h2, h3⟩ := h
  rcases h1.2 with ⟨r1, r2⟩ | ⟨g, cap, cur, r1, r2, r3, r4, r5, r6, r7⟩
  · exact Or.inl ⟨r1, List.eq_nil_of_length_eq_zero r2⟩
  · exact Or.inr ⟨g, cap, cur, us, r1, ⟨r2, lt_of_block r3⟩, r3, r4, r7, h2.mono fun _ _ h => h.keep (fun _ _ => rfl) fun b hb => ⟨(h3 b hb).1, (h3 b hb).2.1⟩⟩
theorem pfld_sort (a c d : Int) (b : ByteArray) (w : World) : (Instr.field 206 (.agg #[.int .i64 a, .string b, .int .i64 c, .int .i64 d]) 0).run Tryz.prog w = .ok (.int .i64 a) w := by kernel_rfl
theorem psort_end {t : Hs.Tok} (h : Hs.okTok t) : (psort t.sort = 4 ↔ t.sort = 101) := by
  unfold psort
  rcases h with h | ⟨h, _⟩ | h | ⟨h, _⟩ | h | h <;> simp [h]
theorem news_func (w : World) (a b c d : Value) : ∀ j u, ([a, b, c, d] : List Value)[j]? = some u → (w.alloc (.cells #[a, b, c, d] 215)).cell? ((⟨w.heap.size, 0, none⟩ : Addr).add j) = some u := by
  intro j u hj
  match j, hj with
  | 0, hj => simp at hj; subst hj; simp [Addr.add, go_sem]
  | 1, hj => simp at hj; subst hj; simp [Addr.add, go_sem]
  | 2, hj => simp at hj; subst hj; simp [Addr.add, go_sem]
  | 3, hj => simp at hj; subst hj; simp [Addr.add, go_sem]
  | j + 4, hj => simp at hj
theorem one_func (l : Int) (b : ByteArray) (x y : Option Addr) (n m c d : Nat) : ∀ u ∈ ([.int .i64 l, .string b, .slice x n c, .slice y m d] : List Value), u.oneCell' = true := by
  intro u hu; simp at hu; rcases hu with rfl | rfl | rfl | rfl <;> rfl
def PrgInv (C : Ctx) (X : Nat → Hs.R Hs.Ast) (w : World) (r : Hs.R (List Hs.Ast)) (k : Nat) (v : Value) (wr : World) : Prop :=
  Fr C.pb w wr ∧ ∃ q acc, PAt C wr q ∧ r = Hs.progLoop X C.ts k q acc ∧ acc.length + k ≤ 4000 ∧ PFl w.heap.size wr v acc
def ProgV (lo : Nat) (w' : World) (v : Value) (l : List Hs.Ast) : Prop := FSl (Btw lo w'.heap.size) w' v l
set_option maxRecDepth 100000 in
set_option maxHeartbeats 4000000 in
theorem pprog_any (C : Ctx) (X : Nat → Hs.R Hs.Ast) (HX : ∀ w p, PAt C w p → X p ≠ .error 0 → Calls Tryz.prog 134 #[.pointer (some ⟨C.pb, 0, none⟩)] w (Out C w (X p) (FunV w.heap.size))) (w : World) (p : Nat) (h : PAt C w p) (r : Hs.R (List Hs.Ast)) (hr : r = Hs.progLoop X C.ts (C.ts.length + 1) p []) (hne : r ≠ .error 0) :
    Calls Tryz.prog 77 #[.pointer (some ⟨C.pb, 0, none⟩)] w (Out C w r (ProgV w.heap.size)) := by
  obtain ⟨i0, hi, hz0, hz1, hz2⟩ := info_parts infoFunc
  have hlen := h.len
  have hpb := h.pb_lt
  have hgb := h.g_lt
  have HI : Hid (PrgInv C X w r (C.ts.length + 1) (.slice none 0 0) w) := ⟨Fr.refl _ _, p, [], h, hr, by simp; omega, PFl.nil _ _⟩
  have HNE := mkHid hne
  have HXX := mkHid HX
  have hfl := pfld_sort
  clear h hr hne HX
  go_enter Tryz.func77, Tryz.ntmps77
  go_wp2_with fail
  go_loopg [3] (C.ts.length + 1) (fun k v wr => PrgInv C X w r k v wr)
  case atStart => exact HI.out
  case round =>
    obtain ⟨hf4, q4, acc, hp4, hr4, hal, hls⟩ := hrel
    obtain ⟨x4, c4, rfl⟩ := hls.slice
    have HNX := mkHid (pnext_any C wr q4 hp4)
    simp only [ptokV] at HNX
    have hse := psort_end (hp4.tsk.tk q4 hp4.lt)
    have HF4 := mkHid hf4
    have HLS := mkHid hls
    have HP4 := mkHid hp4
    have hs4 := hf4.size
    obtain ⟨k, rfl⟩ : ∃ k, gk = k + 1 := by
      cases gk with
      | zero => exact absurd hr4 HNE.out
      | succ k => exact ⟨k, rfl⟩
    rw [Hs.progLoop] at hr4
    clear hf4 hp4 hls HI
    have HR4 := mkHid hr4
    have HSE := mkHid hse
    clear hr4 hse
    generalize Hs.tk C.ts q4 = t at *
    generalize psort t.sort = ps at *
    generalize pval t = pv at *
    by_cases hs : t.sort = 101
    · have HL : Hid (r = .ok (acc, q4)) := by show _ = _; rw [HR4.out, hs]; rfl
      obtain rfl : ps = 4 := HSE.out.2 hs
      clear hs HR4 HSE
      go_wp2_with fail
      refine HNX.out.mono ?_
      rintro e w5 ⟨rfl, hb5⟩
      have HB5 := mkHid hb5
      clear hb5
      go_wp2_with fail
      go_ret
      exact Out.ok HL.out (HF4.out.trans (Fr.below HB5.out)) (HP4.out.below HB5.out) (HLS.out.keep (Fr.below HB5.out) hpb).fsl
    · have hps : ((ps : Int) != 4) = true := by simp; intro e; exact hs (HSE.out.1 (by omega))
      obtain ⟨rE, hrE⟩ : ∃ rE, rE = X q4 := ⟨_, rfl⟩
      have HR5 : Hid (r = Hs.bindR rE fun i q => Hs.progLoop X C.ts k q (acc ++ [i])) := by
        show _ = _
        rw [HR4.out, if_neg (by simpa using hs), hrE]
        cases X q4 <;> rfl
      have hE0 : X q4 ≠ .error 0 := fun e => HNE.out (by rw [HR5.out, hrE, e]; rfl)
      have HRE := mkHid hrE
      clear hs HR4 HSE hrE
      go_wp2_with fail
      refine HNX.out.mono ?_
      rintro e w5 ⟨rfl, hb5⟩
      have HY := mkHid (HXX.out w5 q4 (HP4.out.below hb5) hE0)
      simp only [← HRE.out] at HY
      have HF5 := mkHid (HF4.out.trans (Fr.below hb5))
      have HL5 := mkHid (HLS.out.keep (Fr.below hb5) hpb)
      have hs5 := hb5.size
      clear hb5 HNX HLS hE0 HF4
      cases rE with
      | error l =>
        have HL : Hid (r = .error l) := HR5.out
        go_wp2_with fail
        refine HY.out.mono ?_
        rintro e w6 ⟨hf6, rfl⟩
        have HF6 := mkHid (HF5.out.trans hf6)
        clear hf6
        go_wp2_with fail
        exact ⟨rfl, Out.err HL.out HF6.out⟩
      | ok aq6 =>
        obtain ⟨a6, q6⟩ := aq6
        have HR6 : Hid (r = Hs.progLoop X C.ts k q6 (acc ++ [a6])) := HR5.out
        clear HR5
        go_wp2_with fail
        refine HY.out.mono ?_
        rintro e w6 ⟨hf6, hp6, v6, rfl, hn6⟩
        have HN6 := mkHid hn6
        obtain ⟨pv6, bv6, ps6, b6, hv6, -, hn7, -, hn8⟩ := hn6
        obtain ⟨x7, c7, rfl⟩ := hn7.slice
        obtain ⟨x8, c8, rfl⟩ := hn8.slice
        subst hv6
        obtain ⟨us, F, hown, hall, hFF⟩ := HL5.out.keep hf6 hpb
        have hrb : ∀ g, (Value.slice x4 acc.length c4).ownBlock = some g → g < w5.heap.size := by
          obtain ⟨vs', F', hown', _⟩ := HL5.out
          exact own_block_lt hown'
        have HRB := mkHid hrb
        have HF6 := mkHid (HF5.out.trans hf6)
        have HP6 := mkHid hp6
        have HALL := mkHid (And.intro hall hFF)
        have hs6 := hf6.size
        have hge : ∀ k, (Value.slice x4 acc.length c4).ownBlock = some k → w.heap.size ≤ k := own_block_ge hown
        clear hp6 hf6 hn7 hn8 HY HL5 HF5 hall hFF hrb
        go_wp2_with (at_builtin; refine wpList_append_lies _ (by rfl) _ _ 86 (by rfl) w.heap.size 215 i0 _ 4 72 Tryz.underlying86 hi hz0 hz1 hz2 rfl (by decide) _ _ _ (by rfl) (hown.alloc _) ⟨w6.heap.size, 0, none⟩ 1 1 [.int .i64 a6.line, .string (bs a6.text), .slice x7 ps6.length c7, .slice x8 b6.kids.length c8] (by rfl) (by rfl) (news_func _ _ _ _ _) (one_func _ _ _ _ _ _ _ _) (by decide) (by unfold maxLen; omega) (by omega) (by simp; omega) (w6.heap.size + 1) (by simp) ?_)
        intro g7 cap7 w9 hown9 hgrow9 hat9 hg9
        have HL9 := mkHid (PFl.snoc (lo := w5.heap.size) HALL.out.1 HALL.out.2 HN6.out (by omega) HRB.out (fun k hk => Below.heap_alloc _ _ _ hk) (by simp) hown9 hgrow9 (hat9.imp_right (fun e => by omega)))
        have HP9 := mkHid ((HP6.out.alloc _).grown (base := w.heap.size) hgrow9 hge hpb hgb)
        have HF9 := mkHid ((HF6.out.alloc _).grown hgrow9 hge)
        clear hown hown9 hgrow9 hat9 HN6 HP6 HF6 HALL HRB hge
        go_wp2_with fail
        go_roundg k
        case measure => omega
        case rel => exact ⟨HF9.out, q6, acc ++ [a6], HP9.out, HR6.out, by simp; omega, by simpa using HL9.out⟩
theorem program_any (C : Ctx) (w : World) (h : PAt C w 0) (hne : Hs.progP C.ts ≠ .error 0) :
    Calls Tryz.prog 77 #[.pointer (some ⟨C.pb, 0, none⟩)] w (Out C w (Hs.progP C.ts) (ProgV w.heap.size)) :=
  pprog_any C _ (fun w p h hn => func_any C _ (block_any C (C.ts.length + 1) (C.ts.length + 1)) w p h _ rfl hn) w 0 h _ rfl hne
end Go.Proofs.YtblbkfdhjfppkaaGreatDoor

/- Contracts of the program: names: what is looked up. -/
namespace Go.Proofs.YtblbkfdhjfppkaaGreatDoor
open Go.RowKit
set_option maxRecDepth 100000 in
set_option maxHeartbeats 400000 in
theorem line_any (l : Nat) (w : World) :
    Calls Tryz.prog 188 #[.agg #[.int .i64 l]] w fun e w' => e = .returned (.int .i64 l) ∧ Below w.heap.size w w' := by
  go_enter Tryz.func188, Tryz.ntmps188
  go_wp2_with fail
  go_ret
  exact ⟨rfl, (Below.refl _ _).alloc (Nat.le_refl _) _⟩
def Says (n : Int) (l : List (List UInt8)) (x : List UInt8) : Prop := decide (0 ≤ n) = l.contains x
set_option maxRecDepth 100000 in
set_option maxHeartbeats 400000 in
theorem index_some (l : List (List UInt8)) (x : List UInt8) (g cap : Nat) (w : World) (hl : l.length ≤ 100000) (_hlc : l.length ≤ cap) (hc : ∀ i (h : i < l.length), w.cell? ⟨g, i, none⟩ = some (.string (bs l[i]))) :
    Calls Tryz.prog 305 #[.slice (some ⟨g, 0, none⟩) l.length cap, .string (bs x)] w fun e w' => (∃ n : Int, e = .returned (.int .i64 n) ∧ Says n l x) ∧ w' = w := by
  have hx : (bs x).toList = x := bs_toList x
  have HC := mkHid hc
  clear hc
  go_enter Tryz.func305, Tryz.ntmps305
  go_wp2_with fail
  go_loop [5, 8] (fun _ i => ∃ k : Nat, k ≤ l.length ∧ i = .int .i64 k ∧ Hid (∀ y ∈ l.take k, y ≠ x)) (fun _ i => l.length - (intOf i).toNat)
  case atStart => exact ⟨0, Nat.zero_le _, rfl, fun y hy => by simp at hy⟩
  case round =>
    obtain ⟨k, hk, rfl, HN⟩ := hrel
    by_cases hlt : k < l.length
    · have hcell := HC.out k hlt
      have hget : l[k] ∈ l := List.getElem_mem hlt
      have HT : Hid (∀ y ∈ l.take (k + 1), y ∈ l.take k ∨ y = l[k]) := fun y hy => by
        rw [List.take_succ_eq_append_getElem hlt] at hy
        rcases List.mem_append.1 hy with h | h
        · exact Or.inl h
        · exact Or.inr (List.mem_singleton.1 h)
      have HG := mkHid hget
      clear hget
      generalize l[k] = y at *
      have hy : (bs y).toList = y := bs_toList y
      cases hyx : (x == y)
      · have HF : Hid (∀ z ∈ l.take (k + 1), z ≠ x) := fun z hz => by
          rcases HT.out z hz with h | h
          · exact HN.out z h
          · rw [h]; intro e; rw [e] at hyx; simp at hyx
        clear HN HT HG
        go_wp2_with fail
        go_round
        case rel => exact ⟨k + 1, by omega, by go_num, HF⟩
        case measure => simp [intOf]; omega
      · have HF : Hid (l.contains x = true) := by
          show _ = _
          have e : x = y := by simpa using hyx
          rw [e]; simpa using HG.out
        clear HN HT HG
        go_wp2_with fail
        go_ret
        exact ⟨⟨k, rfl, by unfold Says; rw [HF.out]; simp⟩, rfl⟩
    · have HF : Hid (l.contains x = false) := by
        show _ = _
        rw [Bool.eq_false_iff]
        intro h
        have := HN.out x (by rw [List.take_of_length_le (by omega)]; simpa using h)
        exact this rfl
      clear HN
      go_wp2_with fail
      go_ret
      exact ⟨⟨-1, rfl, by unfold Says; rw [HF.out]; decide⟩, rfl⟩
set_option maxRecDepth 100000 in
set_option maxHeartbeats 400000 in
theorem index_none (x : List UInt8) (w : World) :
    Calls Tryz.prog 305 #[.slice none 0 0, .string (bs x)] w fun e w' => (∃ n : Int, e = .returned (.int .i64 n) ∧ Says n [] x) ∧ w' = w := by
  go_enter Tryz.func305, Tryz.ntmps305
  go_wp2_with fail
  go_loop [5, 8] (fun _ i => i = .int .i64 0) (fun _ _ => 0)
  case atStart => rfl
  case round =>
    subst hrel
    go_wp2_with fail
    go_ret
    exact ⟨⟨-1, rfl, rfl⟩, rfl⟩
set_option maxRecDepth 100000 in
set_option maxHeartbeats 400000 in
theorem contains_own (l : List (List UInt8)) (x : List UInt8) (v : Value) (base : Nat) (w : World) (hl : l.length ≤ 100000) (hown : w.ownsRow base 9 1 v l.length (strsV l)) :
    Calls Tryz.prog 258 #[v, .string (bs x)] w fun e w' => e = .returned (.bool (l.contains x)) ∧ w' = w := by
  have HI : Hid (Calls Tryz.prog 305 #[v, .string (bs x)] w fun e w' => (∃ n : Int, e = .returned (.int .i64 n) ∧ Says n l x) ∧ w' = w) := by
    rcases hown.2 with ⟨rfl, h0⟩ | ⟨g, cap, cur, rfl, h2, h3, h4, h5, h6, h7⟩
    · obtain rfl : l = [] := List.eq_nil_of_length_eq_zero h0
      exact index_none x w
    · refine index_some l x g cap w hl h4 fun i hi => cell_of_block h3 ?_
      have e : (strsV l)[i]? = some (.string (bs l[i])) := by simp [strsV, hi]
      rw [← h7, List.getElem?_take, if_pos (by omega)] at e
      simpa using e
  clear hown
  go_enter Tryz.func258, Tryz.ntmps258
  go_wp2_with fail
  refine HI.out.mono ?_
  rintro e w1 ⟨⟨n, rfl, hn⟩, hw⟩
  obtain rfl := hw.symm
  clear HI
  have HN := mkHid hn
  clear hn
  go_wp2_with fail
  go_ret
  exact ⟨ret_bool HN.out, rfl⟩
def parL (fs : List Hs.Ast) (x : List UInt8) : Option Nat :=
  if x == [108, 101, 110] then some 1 else if x == [114, 101, 97, 100] then some 0 else (Hs.funcL fs x).map fun f => f.kids.length - 1
theorem flat4_get {F : Nat → Prop} {w : World} : ∀ {us : List Value} {fs : List Hs.Ast} (k : Nat) (hk : k < fs.length), All2 (FunR F w) us fs →
    ∃ pv bv ps b, (flat4 us)[k * 4]? = some (.int .i64 fs[k].line) ∧ (flat4 us)[k * 4 + 1]? = some (.string (bs fs[k].text)) ∧ (flat4 us)[k * 4 + 1 + 1]? = some pv ∧ (flat4 us)[k * 4 + 1 + 1 + 1]? = some bv ∧ fs[k].kids = ps ++ [b] ∧ PNm F w pv ps ∧ b.op = [98, 108, 111, 99, 107] ∧ PKid F w bv b.kids
  | [], [], k, hk, _ => absurd hk (Nat.not_lt_zero _)
  | _ :: us, f :: fs, 0, _, ⟨⟨pv, bv, ps, b, hv, h2, h3, h4, h5⟩, _⟩ => by
    subst hv
    exact ⟨pv, bv, ps, b, rfl, rfl, rfl, rfl, h2, h3, h4, h5⟩
  | _ :: us, f :: fs, k + 1, hk, ⟨⟨pv, bv, ps, b, hv, _⟩, h⟩ => by
    subst hv
    obtain ⟨pv', bv', ps', b', e1, e2, e3, e4, e5⟩ := flat4_get k (by simpa using hk) h
    have e : ∀ j, (flat4 (Value.agg #[.int .i64 f.line, .string (bs f.text), pv, bv] :: us))[(k + 1) * 4 + j]? = (flat4 us)[k * 4 + j]? := fun j => by
      rw [flat4, List.getElem?_append_right (by simp [cells4]; omega)]
      congr 1; simp [cells4]; omega
    exact ⟨pv', bv', ps', b', (e 0).trans e1, (e 1).trans e2, (e 2).trans e3, (e 3).trans e4, e5⟩
  | [], _ :: _, _, _, h => h.elim
  | _ :: _, [], _, hk, _ => absurd hk (Nat.not_lt_zero _)
def FunCells (F : Nat → Prop) (w : World) (g : Nat) (fs : List Hs.Ast) : Prop :=
  ∀ k (hk : k < fs.length), ∃ pv bv ps b, w.cell? ⟨g, k * 4, none⟩ = some (.int .i64 fs[k].line) ∧ w.cell? ⟨g, k * 4 + 1, none⟩ = some (.string (bs fs[k].text)) ∧ w.cell? ⟨g, k * 4 + 1 + 1, none⟩ = some pv ∧ w.cell? ⟨g, k * 4 + 1 + 1 + 1, none⟩ = some bv ∧ fs[k].kids = ps ++ [b] ∧ PNm F w pv ps ∧ b.op = [98, 108, 111, 99, 107] ∧ PKid F w bv b.kids
theorem FSl.cells {F : Nat → Prop} {w : World} {v : Value} {fs : List Hs.Ast} (h : FSl F w v fs) : (v = .slice none 0 0 ∧ fs = []) ∨ ∃ g cap, v = .slice (some ⟨g, 0, none⟩) fs.length cap ∧ F g ∧ g < w.heap.size ∧ fs.length ≤ cap ∧ FunCells F w g fs := by
  rcases h with h | ⟨g, cap, cur, us, h1, h2, h3, h4, h5, h6⟩
  · exact Or.inl h
  · refine Or.inr ⟨g, cap, h1, h2, lt_of_block h3, h4, fun k hk => ?_⟩
    obtain ⟨pv, bv, ps, b, e1, e2, e3, e4, e5⟩ := flat4_get k hk h6
    have e : ∀ j u, j < fs.length * 4 → (flat4 us)[j]? = some u → w.cell? ⟨g, j, none⟩ = some u := fun j u hj hu => by
      refine cell_of_block h3 ?_
      rw [← h5, List.getElem?_take, if_pos hj] at hu
      simpa using hu
    exact ⟨pv, bv, ps, b, e _ _ (by omega) e1, e _ _ (by omega) e2, e _ _ (by omega) e3, e _ _ (by omega) e4, e5⟩
theorem find_at {fs : List Hs.Ast} {x : List UInt8} {k : Nat} (hk : k < fs.length) (hn : ∀ f ∈ fs.take k, f.text ≠ x) (hx : fs[k].text = x) : Hs.funcL fs x = some fs[k] := by
  unfold Hs.funcL
  have hd : fs = fs.take k ++ fs[k] :: fs.drop (k + 1) := by rw [List.getElem_cons_drop, List.take_append_drop]
  generalize hf : fs[k] = f at *
  rw [hd, List.find?_append, List.find?_eq_none.2 (by intro z hz; simpa using hn z hz)]
  simp [hx]
theorem find_not {fs : List Hs.Ast} {x : List UInt8} (hn : ∀ f ∈ fs, f.text ≠ x) : Hs.funcL fs x = none := by
  unfold Hs.funcL
  exact List.find?_eq_none.2 (by intro z hz; simpa using hn z hz)
set_option maxRecDepth 100000 in
set_option maxHeartbeats 1000000 in
theorem pars_some (fs : List Hs.Ast) (F : Nat → Prop) (x : List UInt8) (g cap : Nat) (w : World) (hl : fs.length ≤ 100000) (hfk : ∀ f ∈ fs, f.kids.length ≤ 90000) (_hlc : fs.length ≤ cap) (hg : g < w.heap.size) (hc : FunCells F w g fs) (hx1 : (x == [108, 101, 110]) = false) (hx2 : (x == [114, 101, 97, 100]) = false) :
    Calls Tryz.prog 135 #[.slice (some ⟨g, 0, none⟩) fs.length cap, .string (bs x)] w fun e w' => e = .returned (.tuple #[.int .i64 ((parL fs x).getD 0 : Nat), .bool (parL fs x).isSome]) ∧ Below w.heap.size w w' := by
  have hx : (bs x).toList = x := bs_toList x
  have HC := mkHid hc
  have HFK := mkHid hfk
  have HP : Hid (parL fs x = (Hs.funcL fs x).map fun f => f.kids.length - 1) := by show _ = _; unfold parL; rw [hx1, hx2]; rfl
  clear hc hfk
  go_enter Tryz.func135, Tryz.ntmps135
  go_wp2_with fail
  go_loopg [7, 15] fs.length (fun gk _ i wr => ∃ k : Nat, k + gk = fs.length ∧ i = .int .i64 k ∧ Below w.heap.size w wr ∧ Hid (∀ f ∈ fs.take k, f.text ≠ x))
  case atStart => exact ⟨0, by omega, rfl, Below.refl _ _, fun y hy => by simp at hy⟩
  case round =>
    obtain ⟨k, hk, rfl, hb, HN⟩ := hrel
    have hgr : g < wr.heap.size := Nat.lt_of_lt_of_le hg hb.size
    by_cases hlt : k < fs.length
    · obtain ⟨j, rfl⟩ : ∃ j, gk = j + 1 := ⟨gk - 1, by omega⟩
      obtain ⟨pv, bv, ps, b, c0, c1, c2, c3, hkids, hps, hbo, hbk⟩ := HC.out k hlt
      obtain ⟨px, pc, rfl⟩ := hps.slice
      obtain ⟨bx, bc, rfl⟩ := hbk.slice
      have d : ∀ o u, w.cell? ⟨g, o, none⟩ = some u → wr.cell? ⟨g, o, none⟩ = some u := fun o u h => (hb.cell (p := ⟨g, o, none⟩) hg).trans h
      have d0 := d _ _ c0
      have d1 := d _ _ c1
      have d2 := d _ _ c2
      have d3 := d _ _ c3
      have hget : fs[k] ∈ fs := List.getElem_mem hlt
      have HT : Hid (∀ y ∈ fs.take (k + 1), y ∈ fs.take k ∨ y = fs[k]) := fun y hy => by
        rw [List.take_succ_eq_append_getElem hlt] at hy
        rcases List.mem_append.1 hy with h | h
        · exact Or.inl h
        · exact Or.inr (List.mem_singleton.1 h)
      have HAT : Hid (fs[k].text = x → Hs.funcL fs x = some fs[k]) := fun e => find_at hlt HN.out e
      have hkl : ps.length + 1 = fs[k].kids.length := by rw [hkids]; simp
      have hkb := HFK.out _ hget
      have HB := mkHid hb
      clear c0 c1 c2 c3 hps hbk d hkids hget hb
      generalize fs[k] = f at *
      have hy : (bs f.text).toList = f.text := bs_toList _
      cases hyx : (f.text == x)
      · have HF : Hid (∀ z ∈ fs.take (k + 1), z.text ≠ x) := fun z hz => by
          rcases HT.out z hz with h | h
          · exact HN.out z h
          · rw [h]; simpa using hyx
        clear HN HT HAT
        go_wp2_with fail
        go_roundg j
        case measure => omega
        case rel => exact ⟨k + 1, by omega, by go_num, HB.out.alloc HB.out.size _, HF⟩
      · have HF : Hid (parL fs x = some ps.length) := by
          show _ = _
          rw [HP.out, HAT.out (by simpa using hyx)]
          simp; omega
        clear HN HT HAT
        go_wp2_with fail
        go_ret2
        rw [HF.out]
        exact ⟨rfl, HB.out.alloc HB.out.size _⟩
    · have HF : Hid (parL fs x = none) := by
        show _ = _
        rw [HP.out, find_not (fun f hf => HN.out f (by rw [List.take_of_length_le (by omega)]; exact hf))]
        rfl
      have HB := mkHid hb
      clear HN hb
      go_wp2_with fail
      go_ret2
      rw [HF.out]
      exact ⟨rfl, HB.out⟩
set_option maxRecDepth 100000 in
set_option maxHeartbeats 1000000 in
theorem pars_none (x : List UInt8) (w : World) (hx1 : (x == [108, 101, 110]) = false) (hx2 : (x == [114, 101, 97, 100]) = false) :
    Calls Tryz.prog 135 #[.slice none 0 0, .string (bs x)] w fun e w' => e = .returned (.tuple #[.int .i64 ((parL [] x).getD 0 : Nat), .bool (parL [] x).isSome]) ∧ Below w.heap.size w w' := by
  have hx : (bs x).toList = x := bs_toList x
  have HF : Hid (parL [] x = none) := by show _ = _; unfold parL; rw [hx1, hx2]; rfl
  go_enter Tryz.func135, Tryz.ntmps135
  go_wp2_with fail
  go_loop [7, 15] (fun _ i => i = .int .i64 0) (fun _ _ => 0)
  case atStart => rfl
  case round =>
    subst hrel
    go_wp2_with fail
    go_ret2
    rw [HF.out]
    exact ⟨rfl, Below.refl _ _⟩
set_option maxRecDepth 100000 in
set_option maxHeartbeats 1000000 in
theorem pars_given (v : Value) (x : List UInt8) (w : World) (n : Nat) (fs : List Hs.Ast) (hx : (x = [108, 101, 110] ∧ n = 1) ∨ (x = [114, 101, 97, 100] ∧ n = 0)) :
    Calls Tryz.prog 135 #[v, .string (bs x)] w fun e w' => e = .returned (.tuple #[.int .i64 ((parL fs x).getD 0 : Nat), .bool (parL fs x).isSome]) ∧ Below w.heap.size w w' := by
  rcases hx with ⟨rfl, rfl⟩ | ⟨rfl, rfl⟩
  · have HF : Hid (parL fs [108, 101, 110] = some 1) := rfl
    simp only [bs]
    go_enter Tryz.func135, Tryz.ntmps135
    go_wp2_with fail
    go_ret2
    rw [HF.out]
    exact ⟨rfl, Below.refl _ _⟩
  · have HF : Hid (parL fs [114, 101, 97, 100] = some 0) := rfl
    simp only [bs]
    go_enter Tryz.func135, Tryz.ntmps135
    go_wp2_with fail
    go_ret2
    rw [HF.out]
    exact ⟨rfl, Below.refl _ _⟩
theorem pars_any (fs : List Hs.Ast) (F : Nat → Prop) (v : Value) (x : List UInt8) (w : World) (hl : fs.length ≤ 100000) (hfk : ∀ f ∈ fs, f.kids.length ≤ 90000) (h : FSl F w v fs) :
    Calls Tryz.prog 135 #[v, .string (bs x)] w fun e w' => e = .returned (.tuple #[.int .i64 ((parL fs x).getD 0 : Nat), .bool (parL fs x).isSome]) ∧ Below w.heap.size w w' := by
  by_cases h1 : x = [108, 101, 110]
  · exact pars_given v x w 1 fs (Or.inl ⟨h1, rfl⟩)
  by_cases h2 : x = [114, 101, 97, 100]
  · exact pars_given v x w 0 fs (Or.inr ⟨h2, rfl⟩)
  rcases h.cells with ⟨rfl, rfl⟩ | ⟨g, cap, rfl, hF, hg, hcap, hc⟩
  · exact pars_none x w (by simpa using h1) (by simpa using h2)
  · exact pars_some fs F x g cap w hl hfk hcap hg hc (by simpa using h1) (by simpa using h2)
end Go.Proofs.YtblbkfdhjfppkaaGreatDoor

/- Contracts of the program: names: variables. -/
namespace Go.Proofs.YtblbkfdhjfppkaaGreatDoor
open Go.RowKit
abbrev FV (pv : Value) : Value := .func (.func 135) #[pv] #[]
def FVl (F : Nat → Prop) (w : World) (fv : Value) (fs : List Hs.Ast) : Prop := ∃ pv, fv = FV pv ∧ FSl F w pv fs
structure CK (cb lo : Nat) (fs : List Hs.Ast) (fv : Value) (w : World) (seen : List (List UInt8)) : Prop where
  blk : ∃ sv, w.heap[cb]? = some (.cells #[fv, sv] 220 (0, 0)) ∧ w.ownsRow (cb + 1) 9 1 sv seen.length (strsV seen)
  fun_ : FVl (Btw lo cb) w fv fs
theorem FSl.keep {F : Nat → Prop} {w w' : World} {v : Value} {fs : List Hs.Ast} (h : FSl F w v fs) (hk : ∀ b, F b → w'.heap[b]? = w.heap[b]?) : FSl F w' v fs := by
  rcases h with h | ⟨g, cap, cur, us, h1, h2, h3, h4, h5, h6⟩
  · exact Or.inl h
  · exact Or.inr ⟨g, cap, cur, us, h1, h2, by rw [hk g h2]; exact h3, h4, h5, h6.mono fun _ _ h => h.keep hk fun _ h => h⟩
theorem FVl.keep {F : Nat → Prop} {w w' : World} {v : Value} {fs : List Hs.Ast} (h : FVl F w v fs) (hk : ∀ b, F b → w'.heap[b]? = w.heap[b]?) : FVl F w' v fs := by
  obtain ⟨pv, h1, h2⟩ := h
  exact ⟨pv, h1, h2.keep hk⟩
theorem CK.lt {cb lo : Nat} {fs : List Hs.Ast} {fv : Value} {w : World} {seen : List (List UInt8)} (h : CK cb lo fs fv w seen) : cb < w.heap.size := by
  obtain ⟨_, h1, _⟩ := h.blk; exact lt_of_block h1
theorem CK.grow {cb lo : Nat} {fs : List Hs.Ast} {fv : Value} {w w' : World} {seen : List (List UInt8)} (h : CK cb lo fs fv w seen) (hb : Below w.heap.size w w') : CK cb lo fs fv w' seen := by
  obtain ⟨sv, h1, h2⟩ := h.blk
  have hlt := lt_of_block h1
  exact ⟨⟨sv, by rw [hb.block _ hlt]; exact h1, ownsRow_keep h2 fun k hk => hb.block k (own_block_lt h2 k hk)⟩, h.fun_.keep fun k hk => hb.block k (by have := hk.2; omega)⟩
theorem cc_cells {w : World} {b : Nat} {v0 v1 : Value} (h : w.heap[b]? = some (.cells #[v0, v1] 220 (0, 0))) :
    b < w.heap.size ∧ w.cell? ⟨b, 0, none⟩ = some v0 ∧ w.cell? ⟨b, 1, none⟩ = some v1 ∧ w.frozen? ⟨b, 1, none⟩ = false :=
  ⟨lt_of_block h, cell_of_block h rfl, cell_of_block h rfl, frozen_of_block h⟩
def rowOf (cb : Nat) (w : World) : Option Nat :=
  match w.heap[cb]? with
  | some (.cells cs _ _) => (cs[1]?.getD undef).ownBlock
  | _ => none
theorem rowOf_eq {cb : Nat} {w w' : World} (h : w'.heap[cb]? = w.heap[cb]?) : rowOf cb w' = rowOf cb w := by unfold rowOf; rw [h]
theorem rowOf_at {cb : Nat} {w : World} {v0 v1 : Value} (h : w.heap[cb]? = some (.cells #[v0, v1] 220 (0, 0))) : rowOf cb w = v1.ownBlock := by unfold rowOf; rw [h]; rfl
structure FB (cb : Nat) (w w' : World) : Prop where
  bel : Below cb w w'
  blk : ∀ k, k < w.heap.size → k ≠ cb → rowOf cb w ≠ some k → w'.heap[k]? = w.heap[k]?
  row : ∀ k, rowOf cb w' = some k → rowOf cb w = some k ∨ w.heap.size ≤ k
theorem FB.trans {cb : Nat} {a b c : World} (h : FB cb a b) (k : FB cb b c) : FB cb a c := by
  refine ⟨h.bel.trans k.bel, fun i hi hc hr => ?_, fun i hi => ?_⟩
  · have hs := h.bel.size
    rw [k.blk i (by omega) hc (fun e => ?_), h.blk i hi hc hr]
    rcases h.row i e with e | e
    · exact hr e
    · omega
  · have hs := h.bel.size
    rcases k.row i hi with e | e
    · exact h.row i e
    · exact Or.inr (by omega)
theorem FB.of_below {cb : Nat} {w w' : World} (h : Below w.heap.size w w') (hc : cb < w.heap.size) : FB cb w w' :=
  ⟨h.mono (by omega), fun k hk _ _ => h.block k hk, fun k hk => Or.inl (by rw [← rowOf_eq (h.block cb hc)]; exact hk)⟩
theorem FB.refl {cb : Nat} (w : World) : FB cb w w := ⟨Below.refl _ _, fun _ _ _ _ => rfl, fun _ h => Or.inl h⟩
def OutC (cb lo : Nat) (fs : List Hs.Ast) (fv : Value) (w : World) (c : Hs.Chk) (e : Ending) (w' : World) : Prop :=
  FB cb w w' ∧ ((∃ s, c = ⟨s, 0, 0⟩ ∧ e = .returned (.tuple #[]) ∧ CK cb lo fs fv w' s) ∨ (c.kind ≠ 0 ∧ e = faultE c.kind c.line))
def Stk (a b : Hs.Chk) : Prop := a.kind ≠ 0 → b.kind = a.kind ∧ b.line = a.line
theorem Stk.refl (a : Hs.Chk) : Stk a a := fun _ => ⟨rfl, rfl⟩
theorem Stk.trans {a b c : Hs.Chk} (h : Stk a b) (k : Stk b c) : Stk a c := fun ha => by
  obtain ⟨h1, h2⟩ := h ha
  obtain ⟨k1, k2⟩ := k (by rw [h1]; exact ha)
  exact ⟨k1.trans h1, k2.trans h2⟩
theorem Stk.found (s : Hs.Chk) (l k : Nat) : Stk s (s.found l k) := fun h => by unfold Hs.Chk.found; rw [if_neg h]; exact ⟨rfl, rfl⟩
theorem Stk.declares (s : Hs.Chk) (n : Hs.Ast) : Stk s (Hs.declaresL s n) := by
  unfold Hs.declaresL; split
  · exact Stk.found _ _ _
  · exact Stk.refl _
theorem Stk.look (fs : List Hs.Ast) (alone : Bool) (s : Hs.Chk) (n : Hs.Ast) : Stk s (Hs.lookL fs alone s n) := by
  unfold Hs.lookL Hs.callsL
  repeat' split
  all_goals first | exact Stk.found _ _ _ | exact Stk.refl _
theorem Stk.fold {f : Hs.Chk → Hs.Ast → Hs.Chk} (h : ∀ s k, Stk s (f s k)) : ∀ (l : List Hs.Ast) (s : Hs.Chk), Stk s (l.foldl f s)
  | [], s => Stk.refl s
  | k :: l, s => (h s k).trans (Stk.fold h l (f s k))
theorem Stk.seen (s : Hs.Chk) (x : List (List UInt8)) : Stk s { s with seen := x } := fun _ => ⟨rfl, rfl⟩
theorem Stk.walk (fs : List Hs.Ast) (alone : Bool) : ∀ (d : Nat) (n : Hs.Ast) (s : Hs.Chk), Stk s (Hs.walkL fs alone d n s)
  | 0, _, s => Stk.refl s
  | d + 1, n, s => by
    rw [Hs.walkL]
    split
    · split
      · exact ((Stk.declares s _).trans (Stk.walk fs alone d _ _)).trans (Stk.seen _ _)
      · exact Stk.refl s
    · have h : Stk s (n.kids.foldl (fun s k => Hs.walkL fs alone d k s) (Hs.lookL fs alone s n)) := (Stk.look fs alone s n).trans (Stk.fold (fun s k => Stk.walk fs alone d k s) _ _)
      simp only
      split
      · exact h.trans (Stk.seen _ _)
      · exact h
theorem OutC.fault {cb lo : Nat} {fs : List Hs.Ast} {fv : Value} {w w' : World} {c1 c : Hs.Chk} (hb : FB cb w w') (hk : c1.kind ≠ 0) (hs : Stk c1 c) : OutC cb lo fs fv w c (faultE c1.kind c1.line) w' := by
  obtain ⟨h1, h2⟩ := hs hk
  exact ⟨hb, Or.inr ⟨by rw [h1]; exact hk, by rw [h1, h2]⟩⟩
theorem OutC.done {cb lo : Nat} {fs : List Hs.Ast} {fv : Value} {w w' : World} {c : Hs.Chk} {s : List (List UInt8)} (hb : FB cb w w') (hc : c = ⟨s, 0, 0⟩) (hk : CK cb lo fs fv w' s) : OutC cb lo fs fv w c (.returned (.tuple #[])) w' := ⟨hb, Or.inl ⟨s, hc, rfl, hk⟩⟩
theorem below_drewN {B : Nat} {a w : World} (h : Below B a w) (n : Nat) : Below B a (w.drewN n) := ⟨h.os, h.tape, h.output, h.size, h.block⟩
set_option maxRecDepth 100000 in
set_option maxHeartbeats 1000000 in
theorem use_any (cb lo : Nat) (fs : List Hs.Ast) (fv : Value) (w : World) (seen : List (List UInt8)) (h : CK cb lo fs fv w seen) (hs : seen.length ≤ 100000) (l : Nat) (x : List UInt8) :
    Calls Tryz.prog 230 #[.pointer (some ⟨cb, 0, none⟩), .agg #[.int .i64 l, .string (bs x)]] w (OutC cb lo fs fv w (if seen.contains x then ⟨seen, 0, 0⟩ else Hs.Chk.found ⟨seen, 0, 0⟩ l 6)) := by
  have h1 := h.grow ((Below.refl _ _).alloc (Nat.le_refl _) (.cells #[.int .i64 l, .string (bs x)] 211))
  obtain ⟨sv, hblk, hown⟩ := h1.blk
  have hcb := h.lt
  obtain ⟨hlt, c0, c1, fz⟩ := cc_cells hblk
  obtain ⟨sx, sc, rfl⟩ : ∃ sx sc, sv = .slice sx seen.length sc := by
    rcases hown.2 with ⟨rfl, h0⟩ | ⟨g, cap, cur, rfl, _⟩
    · exact ⟨none, 0, by rw [h0]⟩
    · exact ⟨_, _, rfl⟩
  have HM := mkHid (fun n => contains_own seen x (.slice sx seen.length sc) (cb + 1) ((w.alloc (.cells #[.int .i64 l, .string (bs x)] 211)).drewN n) hs (ownsRow_keep hown fun _ _ => rfl))
  have H := mkHid h1
  have HB : Hid (Below w.heap.size w (w.alloc (.cells #[.int .i64 l, .string (bs x)] 211))) := (Below.refl _ _).alloc (Nat.le_refl _) _
  clear hblk hown h h1 fz
  generalize hcc : (if seen.contains x then (⟨seen, 0, 0⟩ : Hs.Chk) else Hs.Chk.found ⟨seen, 0, 0⟩ l 6) = c
  have HCC := mkHid hcc
  clear hcc
  generalize seen.contains x = b at *
  cases b
  · have hc : c = ⟨seen, 6, l⟩ := HCC.out.symm
    subst hc
    clear HCC
    go_enter Tryz.func230, Tryz.ntmps230
    go_wp2_with fail
    go_quiet ((go_at_call 258; exact Calls.quiet_of_same (HM.out _)))
    go_wp2_with fail
    refine (line_any l _).mono ?_
    rintro e w2 ⟨rfl, hb2⟩
    have HB2 := mkHid hb2
    clear hb2
    go_wp2_with (go_at_call 136; refine (pfail_any 6 l _).mono ?_; rintro e w3 ⟨rfl, hw⟩; obtain rfl := hw.symm)
    exact ⟨rfl, OutC.fault (c1 := ⟨seen, 6, l⟩) (FB.of_below ((below_drewN HB.out _).trans (HB2.out.mono (by simp))) hcb) (by simp) (Stk.refl _)⟩
  · have hc : c = ⟨seen, 0, 0⟩ := HCC.out.symm
    subst hc
    clear HCC
    go_enter Tryz.func230, Tryz.ntmps230
    go_wp2_with fail
    go_quiet ((go_at_call 258; exact Calls.quiet_of_same (HM.out _)))
    go_wp2_with fail
    go_end0
    exact OutC.done (FB.of_below (below_drewN HB.out _) hcb) rfl (H.out.grow (below_drewN (Below.refl _ _) _))
set_option maxRecDepth 100000 in
set_option maxHeartbeats 2000000 in
theorem mayDeclare_any (cb lo : Nat) (fs : List Hs.Ast) (fv : Value) (w : World) (seen : List (List UInt8)) (h : CK cb lo fs fv w seen) (hs : seen.length ≤ 100000) (l : Nat) (x : List UInt8) :
    Calls Tryz.prog 189 #[.pointer (some ⟨cb, 0, none⟩), .agg #[.int .i64 l, .string (bs x)]] w (OutC cb lo fs fv w (if Hs.givenB x || seen.contains x then Hs.Chk.found ⟨seen, 0, 0⟩ l 6 else ⟨seen, 0, 0⟩)) := by
  have h1 := h.grow ((Below.refl _ _).alloc (Nat.le_refl _) (.cells #[.int .i64 l, .string (bs x)] 211))
  obtain ⟨sv, hblk, hown⟩ := h1.blk
  have hcb := h.lt
  obtain ⟨hlt, c0, c1, fz⟩ := cc_cells hblk
  obtain ⟨sx, sc, rfl⟩ : ∃ sx sc, sv = .slice sx seen.length sc := by
    rcases hown.2 with ⟨rfl, h0⟩ | ⟨g, cap, cur, rfl, _⟩
    · exact ⟨none, 0, by rw [h0]⟩
    · exact ⟨_, _, rfl⟩
  have HM := mkHid (fun n => contains_own seen x (.slice sx seen.length sc) (cb + 1) ((w.alloc (.cells #[.int .i64 l, .string (bs x)] 211)).drewN n) hs (ownsRow_keep hown fun _ _ => rfl))
  have H := mkHid h1
  have HB : Hid (Below w.heap.size w (w.alloc (.cells #[.int .i64 l, .string (bs x)] 211))) := (Below.refl _ _).alloc (Nat.le_refl _) _
  have hx : (bs x).toList = x := bs_toList x
  clear hblk hown h h1 fz
  have HG : Hid (Hs.givenB x = (x == [108, 101, 110] || x == [114, 101, 97, 100])) := rfl
  generalize hcc : (if Hs.givenB x || seen.contains x then Hs.Chk.found ⟨seen, 0, 0⟩ l 6 else (⟨seen, 0, 0⟩ : Hs.Chk)) = c
  have HCC := mkHid hcc
  clear hcc
  rw [HG.out] at HCC
  generalize seen.contains x = b at *
  cases h1 : (x == [108, 101, 110]) <;> cases h2 : (x == [114, 101, 97, 100]) <;> cases b
  all_goals
    rw [h1, h2] at HCC
    first
      | (have hc : c = ⟨seen, 0, 0⟩ := HCC.out.symm
         subst hc
         clear HCC
         go_enter Tryz.func189, Tryz.ntmps189
         go_wp2_with fail
         go_quiet ((go_at_call 258; exact Calls.quiet_of_same (HM.out _)))
         go_wp2_with fail
         go_end0
         exact OutC.done (FB.of_below (below_drewN HB.out _) hcb) rfl (H.out.grow (below_drewN (Below.refl _ _) _)))
      | (have hc : c = ⟨seen, 6, l⟩ := HCC.out.symm
         subst hc
         clear HCC
         go_enter Tryz.func189, Tryz.ntmps189
         go_wp2_with fail
         go_quiet ((go_at_call 258; exact Calls.quiet_of_same (HM.out _)))
         go_wp2_with fail
         refine (line_any l _).mono ?_
         rintro e w2 ⟨rfl, hb2⟩
         have HB2 := mkHid hb2
         clear hb2
         go_wp2_with (go_at_call 136; refine (pfail_any 6 l _).mono ?_; rintro e w3 ⟨rfl, hw⟩; obtain rfl := hw.symm)
         exact ⟨rfl, OutC.fault (c1 := ⟨seen, 6, l⟩) (FB.of_below ((below_drewN HB.out _).trans (HB2.out.mono (by simp))) hcb) (by simp) (Stk.refl _)⟩)
end Go.Proofs.YtblbkfdhjfppkaaGreatDoor

/- Contracts of the program: bytes, stretches of them. -/
namespace Go.Proofs.YtblbkfdhjfppkaaGreatDoor
open Go.RowKit
set_option maxHeartbeats 400000 in
theorem inLine_any (c : UInt8) (w : World) :
    Calls Tryz.prog 249 #[.int .u8 c.toNat] w fun e w' => e = .returned (.bool (Hs.notNl c)) ∧ w' = w := by
  have hb : (c.toNat : Int) ≤ 255 := byte_le c
  have HS := mkHid (notNl_int c)
  go_enter Tryz.func249, Tryz.ntmps249
  go_wp2
  all_goals
    go_ret
    exact ⟨ret_bool (by rw [HS.out]), rfl⟩
set_option maxHeartbeats 400000 in
theorem pdigit_any (c : UInt8) (w : World) :
    Calls Tryz.prog 252 #[.int .u8 c.toNat] w fun e w' => e = .returned (.bool (Hs.digitB c)) ∧ w' = w := by
  have hb : (c.toNat : Int) ≤ 255 := byte_le c
  have HS : Hid (Hs.digitB c = (decide (48 ≤ c.toNat) && decide (c.toNat ≤ 57))) := rfl
  go_enter Tryz.func252, Tryz.ntmps252
  go_wp2
  all_goals
    go_ret
    exact ⟨ret_bool (by rw [HS.out, Bool.eq_iff_iff]; constructor <;> intro h <;> (try simp at h) <;> (try simp) <;> omega), rfl⟩
set_option maxHeartbeats 400000 in
theorem pletter_any (c : UInt8) (w : World) :
    Calls Tryz.prog 250 #[.int .u8 c.toNat] w fun e w' => e = .returned (.bool (Hs.letterB c)) ∧ w' = w := by
  have hb : (c.toNat : Int) ≤ 255 := byte_le c
  have HS : Hid (Hs.letterB c = (c.toNat == 95 || (decide (97 ≤ c.toNat) && decide (c.toNat ≤ 122) || decide (65 ≤ c.toNat) && decide (c.toNat ≤ 90)))) := rfl
  go_enter Tryz.func250, Tryz.ntmps250
  go_wp2
  all_goals
    go_ret
    exact ⟨ret_bool (by rw [HS.out, Bool.eq_iff_iff]; constructor <;> intro h <;> (try simp at h) <;> (try simp) <;> omega), rfl⟩
set_option maxHeartbeats 400000 in
theorem pword_any (c : UInt8) (w : World) :
    Calls Tryz.prog 297 #[.int .u8 c.toNat] w fun e w' => e = .returned (.bool (Hs.wordP true c)) ∧ w' = w := by
  have HS : Hid (Hs.wordP true c = (Hs.letterB c || Hs.digitB c)) := by show _ = _; unfold Hs.wordP; rw [Bool.true_and, Bool.or_comm]
  have HL := mkHid (pletter_any c)
  have HD := mkHid (pdigit_any c)
  generalize Hs.wordP true c = r at *
  generalize Hs.letterB c = lb at *
  generalize Hs.digitB c = db at *
  have h := HS.out
  subst h
  clear HS
  cases lb <;> cases db
  all_goals
    go_enter Tryz.func297, Tryz.ntmps297
    go_wp2_with (first | (go_at_call 250; refine (HL.out _).mono ?_; rintro e w1 ⟨rfl, hw⟩; obtain rfl := hw.symm) | (go_at_call 252; refine (HD.out _).mono ?_; rintro e w1 ⟨rfl, hw⟩; obtain rfl := hw.symm))
    go_ret
    exact ⟨rfl, rfl⟩
set_option maxHeartbeats 400000 in
theorem inString_any (c : UInt8) (w : World) :
    Calls Tryz.prog 301 #[.int .u8 c.toNat] w fun e w' => e = .returned (.bool (Hs.strP c)) ∧ w' = w := by
  have hb : (c.toNat : Int) ≤ 255 := byte_le c
  have HS : Hid (Hs.strP c = (c.toNat != 34 && c.toNat != 10)) := rfl
  go_enter Tryz.func301, Tryz.ntmps301
  go_wp2
  all_goals
    go_ret
    exact ⟨ret_bool (by rw [HS.out, Bool.eq_iff_iff]; constructor <;> intro h <;> (try simp at h) <;> (try simp) <;> omega), rfl⟩
set_option maxRecDepth 100000 in
set_option maxHeartbeats 1000000 in
theorem span_any (P : UInt8 → Bool) (F : Nat) (hcf : ∀ args w, Sem.run Tryz.prog (callFunc F args) w = .ok (.enter F args) w) (HF : ∀ c w, Calls Tryz.prog F #[.int .u8 (UInt8.toNat c)] w fun e w' => e = .returned (.bool (P c)) ∧ w' = w) (s : ByteArray) (w : World) (hs : s.size ≤ 2000000000) :
    Calls Tryz.prog 248 #[.string s, .func (.func F) #[] #[]] w fun e w' => e = .returned (.int .i64 (Hs.spanL P s.data.toList)) ∧ w' = w := by
  have HFF := mkHid HF
  clear HF
  go_enter Tryz.func248, Tryz.ntmps248
  go_wp2_with fail
  go_loop [5] (fun i => ∃ j : Nat, j ≤ s.size ∧ i = .int .i64 j ∧ Hid (Hs.spanL P s.data.toList = j + Hs.spanL P (s.data.toList.drop j))) (fun i => s.size - (intOf i).toNat)
  case atStart => exact ⟨0, Nat.zero_le _, rfl, by show _ = _; simp⟩
  case round =>
    obtain ⟨j, hj, rfl, HJ⟩ := hrel
    by_cases hlt : j < s.size
    · have hbj : (s[j].toNat : Int) ≤ 255 := byte_le s[j]
      rw [drop_cons s j hlt] at HJ
      have HX := mkHid (HFF.out s[j])
      cases hp : P s[j]
      · rw [spanL_no _ _ _ hp] at HJ
        rw [hp] at HX
        clear hp
        go_wp2_with (refine (HX.out _).mono ?_; rintro e w1 ⟨rfl, hw⟩; obtain rfl := hw.symm)
        go_ret
        exact ⟨ret_int (by have := HJ.out; omega), rfl⟩
      · rw [spanL_yes _ _ _ hp] at HJ
        rw [hp] at HX
        clear hp
        have HF2 : Hid (Hs.spanL P s.data.toList = j + 1 + Hs.spanL P (s.data.toList.drop (j + 1))) := by show _ = _; rw [HJ.out]; omega
        go_wp2_with (refine (HX.out _).mono ?_; rintro e w1 ⟨rfl, hw⟩; obtain rfl := hw.symm)
        go_round
        case rel => exact ⟨j + 1, by omega, by go_num, HF2⟩
        case measure => simp [intOf]; omega
    · rw [List.drop_eq_nil_of_le (by simpa using (by omega : s.size ≤ j))] at HJ
      go_wp2_with fail
      go_ret
      exact ⟨ret_int (by have := HJ.out; simp [Hs.spanL] at this; omega), rfl⟩
set_option maxRecDepth 100000 in
set_option maxHeartbeats 1000000 in
theorem keyword_any (x : List UInt8) (w : World) :
    Calls Tryz.prog 299 #[.string (bs x)] w fun e w' => e = .returned (.bool (Hs.kwords.contains x)) ∧ w' = w := by
  have hx : (bs x).toList = x := bs_toList x
  have HS : Hid (Hs.kwords.contains x = (x == [102, 117, 110, 99] || (x == [118, 97, 114] || (x == [105, 102] || (x == [101, 108, 115, 101] || (x == [119, 104, 105, 108, 101] || (x == [114, 101, 116, 117, 114, 110] || (x == [112, 114, 105, 110, 116] || (x == [116, 114, 117, 101] || x == [102, 97, 108, 115, 101]))))))))) := by
    show _ = _
    rw [Bool.eq_iff_iff]
    simp [Hs.kwords]
  go_enter Tryz.func299, Tryz.ntmps299
  go_wp2
  all_goals
    go_ret
    exact ⟨ret_bool (by rw [HS.out]; first | done | simp_all), rfl⟩
end Go.Proofs.YtblbkfdhjfppkaaGreatDoor

/- Contracts of the program: the scanner's small steps. -/
namespace Go.Proofs.YtblbkfdhjfppkaaGreatDoor
open Go.RowKit
set_option maxRecDepth 100000 in
set_option maxHeartbeats 400000 in
theorem prefix_lite (s x : ByteArray) (w : World) (_hs : s.size ≤ 2000000000) (_hx : x.size ≤ 100) :
    Calls Tryz.prog 295 #[.string s, .string x] w fun e w' => e = .returned (.bool (Hs.startsB s.data.toList x.data.toList)) ∧ w' = w := by
  by_cases h : x.size ≤ s.size
  · have HS : Hid (Hs.startsB s.data.toList x.data.toList = ((s.extract 0 x.size).toList == x.toList)) := by
      unfold Hs.startsB Hid
      rw [isPrefixOf_take _ _ (by simpa using h), Lib.extract_toList, Lib.toList_data]
      congr 3
    go_enter Tryz.func295, Tryz.ntmps295
    go_wp2
    go_ret
    exact ⟨ret_bool (by rw [HS.out]), rfl⟩
  · have HS : Hid (Hs.startsB s.data.toList x.data.toList = false) := by
      unfold Hs.startsB Hid
      exact isPrefixOf_long _ _ (by simp; omega)
    go_enter Tryz.func295, Tryz.ntmps295
    go_wp2
    go_ret
    exact ⟨ret_bool (by rw [HS.out]), rfl⟩
set_option maxRecDepth 100000 in
set_option maxHeartbeats 400000 in
theorem prefix_any (s x : ByteArray) (w : World) (hs : s.size ≤ 2000000000) (hx : x.size ≤ 100) :
    Calls Tryz.prog 247 #[.string s, .string x] w fun e w' => e = .returned (.bool (Hs.startsB s.data.toList x.data.toList)) ∧ w' = w := by
  have H := mkHid (prefix_lite s x w hs hx)
  go_enter Tryz.func247, Tryz.ntmps247
  go_wp2_with fail
  refine H.out.mono ?_
  rintro e w1 ⟨rfl, hw⟩
  obtain rfl := hw.symm
  go_wp2_with fail
  go_ret
  exact ⟨rfl, rfl⟩
theorem ext_data (s : ByteArray) (k : Nat) : (s.extract k s.size).data.toList = s.data.toList.drop k := by
  rw [extract_bs, bs_data]
  exact List.take_of_length_le (by simp)
def SC (sb : Nat) (src : ByteArray) (n l : Nat) (w : World) : Prop := w.heap[sb]? = some (.cells #[.string src, .int .i64 n, .int .i64 l] 290 (0, 0))
theorem SC.cells {sb : Nat} {src : ByteArray} {n l : Nat} {w : World} (h : SC sb src n l w) :
    sb < w.heap.size ∧ w.cell? ⟨sb, 0, none⟩ = some (.string src) ∧ w.cell? ⟨sb, 1, none⟩ = some (.int .i64 n) ∧ w.cell? ⟨sb, 2, none⟩ = some (.int .i64 l) ∧ w.frozen? ⟨sb, 1, none⟩ = false ∧ w.frozen? ⟨sb, 2, none⟩ = false :=
  ⟨lt_of_block h, cell_of_block h rfl, cell_of_block h rfl, cell_of_block h rfl, frozen_of_block h, frozen_of_block h⟩
theorem SC.move {sb : Nat} {src : ByteArray} {n l : Nat} {w : World} (h : SC sb src n l w) (m : Nat) : SC sb src m l (w.setCell ⟨sb, 1, none⟩ (.int .i64 m)) := by
  unfold SC; rw [heap_setCell_at h]; rfl
theorem SC.down {sb : Nat} {src : ByteArray} {n l : Nat} {w : World} (h : SC sb src n l w) (m : Nat) : SC sb src n m (w.setCell ⟨sb, 2, none⟩ (.int .i64 m)) := by
  unfold SC; rw [heap_setCell_at h]; rfl
theorem SC.drewN {sb : Nat} {src : ByteArray} {n l : Nat} {w : World} (h : SC sb src n l w) (m : Nat) : SC sb src n l (w.drewN m) := h
set_option maxRecDepth 100000 in
set_option maxHeartbeats 400000 in
theorem sfail_any (sb : Nat) (src : ByteArray) (n l : Nat) (w : World) (h : SC sb src n l w) :
    Calls Tryz.prog 298 #[.pointer (some ⟨sb, 0, none⟩)] w fun e w' => e = faultE 3 l ∧ w' = w := by
  obtain ⟨h0, c0, c1, c2, f1, f2⟩ := h.cells
  clear h
  go_enter Tryz.func298, Tryz.ntmps298
  go_wp2_with (go_at_call 136; refine (pfail_any 3 l _).mono ?_; rintro e w3 ⟨rfl, hw⟩; obtain rfl := hw.symm)
  exact ⟨rfl, rfl, rfl⟩
set_option maxRecDepth 100000 in
set_option maxHeartbeats 400000 in
theorem take_any (sb : Nat) (src : ByteArray) (n l m : Nat) (w : World) (h : SC sb src n l w) (hs : src.size ≤ 2000000000) (hm : n + m ≤ src.size) :
    Calls Tryz.prog 296 #[.pointer (some ⟨sb, 0, none⟩), .int .i64 m] w fun e w' => e = .returned (.string (bs ((src.data.toList.drop n).take m))) ∧ SC sb src (n + m) l w' ∧ Fr sb w w' := by
  obtain ⟨h0, c0, c1, c2, f1, f2⟩ := h.cells
  have H := mkHid h
  have HX : Hid (src.extract n (n + m) = bs ((src.data.toList.drop n).take m)) := by show _ = _; rw [extract_bs]; congr 2; omega
  clear h
  go_enter Tryz.func296, Tryz.ntmps296
  go_wp2_with fail
  go_quiet (fail)
  go_wp2_with fail
  go_ret
  refine ⟨by rw [← HX.out]; rfl, ?_, ?_⟩
  · exact (H.out.drewN _).move _
  · exact ((Fr.refl _ _).drewN _).setCell (p := ⟨sb, 1, none⟩) (Or.inl rfl) _
theorem line_remark (l : List UInt8) (k : Nat) : Hs.lineOf (l.take (k + Hs.spanL Hs.notNl (l.drop k))) = Hs.lineOf (l.take k) := by
  rw [List.take_add, Hs.lineOf_append]
  have : ((l.drop k).take (Hs.spanL Hs.notNl (l.drop k))).count 10 = 0 := by
    rw [List.count_eq_zero]
    intro h
    have := spanL_all Hs.notNl (l.drop k) 10 h
    exact absurd this (by decide)
  omega
theorem line_next (s : ByteArray) (k : Nat) (h : k < s.size) : Hs.lineOf (s.data.toList.take (k + 1)) = Hs.lineOf (s.data.toList.take k) + if s[k] = 10 then 1 else 0 := by
  rw [take_snoc s k h, Hs.lineOf_snoc]
set_option maxRecDepth 100000 in
set_option maxHeartbeats 2000000 in
theorem skip_any (sb : Nat) (src : ByteArray) (n : Nat) (w : World) (h : SC sb src n (Hs.lineOf (src.data.toList.take n)) w) (hs : src.size ≤ 2000000000) (hn : n ≤ src.size) :
    Calls Tryz.prog 182 #[.pointer (some ⟨sb, 0, none⟩)] w fun e w' => e = .returned (.tuple #[]) ∧ SC sb src (n + Hs.blankL src.size (src.data.toList.drop n)) (Hs.lineOf (src.data.toList.take (n + Hs.blankL src.size (src.data.toList.drop n)))) w' ∧ Fr sb w w' := by
  have H := mkHid h
  clear h
  go_enter Tryz.func182, Tryz.ntmps182
  go_wp2_with fail
  go_loopg [2] src.size (fun gk _ wr => ∃ k f : Nat, k ≤ src.size ∧ src.size ≤ k + f ∧ src.size ≤ k + gk ∧ SC sb src k (Hs.lineOf (src.data.toList.take k)) wr ∧ Fr sb w wr ∧ Hid (n + Hs.blankL src.size (src.data.toList.drop n) = k + Hs.blankL f (src.data.toList.drop k)))
  case atStart => exact ⟨n, src.size, hn, by omega, by omega, H.out, Fr.refl _ _, rfl⟩
  case round =>
    obtain ⟨k, f, hk, hf, hgk, hsc, hfr, HS⟩ := hrel
    obtain ⟨h0, c0, c1, c2, f1, f2⟩ := hsc.cells
    have HSC := mkHid hsc
    have HFR := mkHid hfr
    clear hsc hfr
    by_cases hlt : k < src.size
    · have hb : (src[k].toNat : Int) ≤ 255 := byte_le src[k]
      obtain ⟨f, rfl⟩ : ∃ f', f = f' + 1 := ⟨f - 1, by omega⟩
      obtain ⟨j, rfl⟩ : ∃ j, gk = j + 1 := ⟨gk - 1, by omega⟩
      rw [drop_cons src k hlt] at HS
      have hl : Hs.lineOf (src.data.toList.take k) ≤ k + 1 := by
        have := Hs.lineOf_le (src.data.toList.take k); have := List.length_take_le k src.data.toList; omega
      have hx0 : (src.extract k src.size).size = src.size - k := by simp
      have hx1 : 0 < (src.extract k src.size).size := by omega
      have hx2 : (src.extract k src.size)[0] = src[k] := by simp [ByteArray.getElem_extract]
      have HLN := mkHid (line_next src k hlt)
      by_cases hw : src[k].toNat = 32 ∨ src[k].toNat = 9 ∨ src[k].toNat = 10
      · rw [blankL_white _ _ _ hw] at HS
        have HF : Hid (n + Hs.blankL src.size (src.data.toList.drop n) = k + 1 + Hs.blankL f (src.data.toList.drop (k + 1))) := by
          rw [HS.out]; show _ = _; omega
        clear HS
        by_cases h10 : src[k].toNat = 10
        · have hE : ((src[k].toNat : Int)) = 10 := by omega
          have HL : Hid (Hs.lineOf (src.data.toList.take (k + 1)) = Hs.lineOf (src.data.toList.take k) + 1) := by
            show _ = _
            rw [HLN.out, if_pos (by rw [u8_eq]; exact hE)]
          clear hw h10 HLN
          generalize Hs.lineOf (src.data.toList.take k) = L at *
          go_wp2_with fail
          go_quiet (fail)
          go_wp2_with fail
          go_quiet (fail)
          go_wp2_with fail
          go_roundg j
          case measure => omega
          case rel =>
            refine ⟨k + 1, f, by omega, by omega, by omega, ?_, ?_, HF⟩
            · rw [HL.out]
              exact ((HSC.out.drewN _).down _).move _
            · exact ((HFR.out.drewN _).setCell (p := ⟨sb, 2, none⟩) (Or.inl rfl) _).setCell (p := ⟨sb, 1, none⟩) (Or.inl rfl) _
        · have HL : Hid (Hs.lineOf (src.data.toList.take (k + 1)) = Hs.lineOf (src.data.toList.take k)) := by
            show _ = _
            rw [HLN.out, if_neg (by rw [u8_eq]; show ¬ ((src[k].toNat : Int) = 10); omega)]; rfl
          have h1 : ((src[k].toNat : Int) == 10) = false := by simp; omega
          have hw' : src[k].toNat = 32 ∨ src[k].toNat = 9 := by omega
          clear hw HLN h10
          generalize Hs.lineOf (src.data.toList.take k) = L at *
          rcases hw' with hw | hw
          all_goals
            have hE : ((src[k].toNat : Int)) = _ := congrArg _ hw
            clear hw
            go_wp2_with fail
            go_quiet (fail)
            go_wp2_with fail
            go_quiet (fail)
            go_wp2_with fail
            go_roundg j
            case measure => omega
            case rel =>
              refine ⟨k + 1, f, by omega, by omega, by omega, ?_, ?_, HF⟩
              · rw [HL.out]
                exact (HSC.out.drewN _).move _
              · exact (HFR.out.drewN _).setCell (p := ⟨sb, 1, none⟩) (Or.inl rfl) _
      · have h1 : ((src[k].toNat : Int) == 32) = false := by simp; omega
        have h2 : ((src[k].toNat : Int) == 9) = false := by simp; omega
        have h3 : ((src[k].toNat : Int) == 10) = false := by simp; omega
        have HPX := mkHid (fun w => prefix_any (src.extract k src.size) ⟨#[47, 47]⟩ w (by omega) (by decide))
        rw [ext_data, show (⟨#[47, 47]⟩ : ByteArray).data.toList = [47, 47] from rfl] at HPX
        clear HLN
        cases hst : Hs.startsB (src[k] :: src.data.toList.drop (k + 1)) [47, 47]
        · rw [blankL_else _ _ _ hw hst] at HS
          rw [← drop_cons src k hlt] at hst
          rw [hst] at HPX
          have HE : Hid (n + Hs.blankL src.size (src.data.toList.drop n) = k) := HS
          clear hst HS hw
          have HSC2 : Hid (∀ nq : Nat, SC sb src k (Hs.lineOf (src.data.toList.take k)) (wr.drewN nq)) := fun nq => HSC.out.drewN nq
          generalize hL : Hs.lineOf (src.data.toList.take k) = L at HSC c2 hl
          have HLL := mkHid hL
          clear hL
          go_wp2_with fail
          go_quiet (fail)
          go_wp2_with fail
          go_quiet (fail)
          go_wp2_with fail
          refine (HPX.out _).mono ?_
          rintro e w1 ⟨rfl, hw⟩
          obtain rfl := hw.symm
          go_wp2_with fail
          (try simp only [Exit.inBlock, Exit.then])
          refine bodyPost_ret (results_none rfl _ _ _) rfl ?_
          rw [HE.out]
          exact ⟨rfl, HSC2.out _, HFR.out.drewN _⟩
        · rw [blankL_remark _ _ _ hw hst] at HS
          have HP : Hid (1 ≤ Hs.spanL Hs.notNl (src.data.toList.drop k)) := by
            rw [drop_cons src k hlt, spanL_yes _ _ _ (by unfold Hs.notNl; simp; omega)]; show _ ≤ _; omega
          rw [← drop_cons src k hlt] at hst HS
          rw [List.drop_drop] at HS
          rw [hst] at HPX
          have HSP := mkHid (fun w => span_any Hs.notNl 249 (fun _ _ => rfl) inLine_any (src.extract k src.size) w (by omega))
          rw [ext_data] at HSP
          have hle : Hs.spanL Hs.notNl (src.data.toList.drop k) ≤ src.size - k := by
            have := Hs.spanL_le Hs.notNl (src.data.toList.drop k); simpa using this
          have HLR := mkHid (line_remark src.data.toList k)
          clear hst hw
          have hsp1 := HP.out
          generalize hsp : Hs.spanL Hs.notNl (src.data.toList.drop k) = sp at *
          have HL2 : Hid (Hs.lineOf (src.data.toList.take (k + sp)) = Hs.lineOf (src.data.toList.take k)) := HLR
          generalize Hs.lineOf (src.data.toList.take k) = L at *
          have HF : Hid (n + Hs.blankL src.size (src.data.toList.drop n) = (k + sp) + Hs.blankL f (src.data.toList.drop (k + sp))) := by show _ = _; rw [HS.out]; omega
          clear HS HLR hsp
          go_wp2_with fail
          go_quiet (fail)
          go_wp2_with fail
          go_quiet (fail)
          go_wp2_with fail
          refine (HPX.out _).mono ?_
          rintro e w1 ⟨rfl, hw⟩
          obtain rfl := hw.symm
          go_wp2_with fail
          go_region_law (go_simp; go_at_call 248; refine (HSP.out _).mono ?_; rintro e w2 ⟨rfl, hw⟩; obtain rfl := hw.symm)
          all_goals
            go_wp2_with fail
            go_roundg j
            case measure => omega
            case rel =>
              refine ⟨k + sp, f, by omega, by omega, by omega, ?_, ?_, HF⟩
              · have e : Value.int .i64 (IntKind.i64.wrap ((k : Int) + (sp : Int))) = .int .i64 ((k + sp : Nat) : Int) := by rw [IntWalk.i64_in _ (by omega)]; rfl
                rw [HL2.out, e]
                exact (HSC.out.drewN _).move _
              · exact (HFR.out.drewN _).setCell (p := ⟨sb, 1, none⟩) (Or.inl rfl) _
    · have HE : Hid (n + Hs.blankL src.size (src.data.toList.drop n) = k) := by
        show _ = _
        rw [HS.out, List.drop_eq_nil_of_le (by simpa using (by omega : src.size ≤ k)), blankL_nil]; rfl
      go_wp2_with fail
      go_quiet (fail)
      go_wp2_with fail
      go_end0
      rw [HE.out]
      exact ⟨rfl, HSC.out, HFR.out.drewN _⟩
end Go.Proofs.YtblbkfdhjfppkaaGreatDoor

/- Contracts of the program: names: the steps of the checker. -/
namespace Go.Proofs.YtblbkfdhjfppkaaGreatDoor
open Go.RowKit
theorem cc_grown {cb : Nat} {w w5 : World} {o : Obj} {v0 v1 v' : Value} {n : Nat} {vs : List Value} (hb : w.heap[cb]? = some (.cells #[v0, v1] 220 (0, 0))) (hown : w.ownsRow (cb + 1) 9 1 v' n vs) (hg : (w.alloc o).grownBy w5 v'.ownBlock) :
    w5.heap[cb]? = some (.cells #[v0, v1] 220 (0, 0)) := by
  have hlt := lt_of_block hb
  rw [hg.block cb (by simp; omega) (fun e => by have := own_block_ge hown cb e.symm; omega)]
  exact heap_later _ _ hlt _ hb
theorem CK.add {cb lo : Nat} {fs : List Hs.Ast} {fv : Value} {w w5 : World} {seen : List (List UInt8)} {sv : Value} {x : List UInt8} {o : Obj} {g cap : Nat} (h : CK cb lo fs fv w seen) (hblk : w.heap[cb]? = some (.cells #[fv, sv] 220 (0, 0)))
    (hown : w.ownsRow (cb + 1) 9 1 sv seen.length (strsV seen)) (hown5 : w5.ownsRow (cb + 1) 9 1 (.slice (some ⟨g, 0, none⟩) (seen.length + 1) cap) (seen.length + 1) (strsV seen ++ [.string (bs x)])) (hg : (w.alloc o).grownBy w5 sv.ownBlock) (hat : sv.ownBlock = some g ∨ w.heap.size ≤ g) :
    FB cb w (w5.setCell ⟨cb, 1, none⟩ (.slice (some ⟨g, 0, none⟩) (seen.length + 1) cap)) ∧ CK cb lo fs fv (w5.setCell ⟨cb, 1, none⟩ (.slice (some ⟨g, 0, none⟩) (seen.length + 1) cap)) (seen ++ [x]) := by
  have hlt := lt_of_block hblk
  have hB5 := cc_grown hblk hown hg
  have hbel : Below cb w w5 := ⟨hg.os.trans rfl, hg.tape.trans rfl, hg.output.trans rfl, Nat.le_trans (by simp) hg.size, fun k hk => by
    rw [hg.block k (by simp; omega) (fun e => by have := own_block_ge hown k e.symm; omega)]
    exact Below.heap_alloc _ _ _ (by omega)⟩
  have hb2 : Below cb w (w5.setCell ⟨cb, 1, none⟩ (.slice (some ⟨g, 0, none⟩) (seen.length + 1) cap)) := hbel.setCell (by simp) _
  have hn : (w5.setCell ⟨cb, 1, none⟩ (.slice (some ⟨g, 0, none⟩) (seen.length + 1) cap)).heap[cb]? = some (.cells #[fv, .slice (some ⟨g, 0, none⟩) (seen.length + 1) cap] 220 (0, 0)) := by rw [heap_setCell_at hB5]; rfl
  have hro := rowOf_at hblk
  refine ⟨⟨hb2, fun k hk hc hr => ?_, fun k hk => ?_⟩, ⟨.slice (some ⟨g, 0, none⟩) (seen.length + 1) cap, hn, ?_⟩, h.fun_.keep fun k hk => hb2.block k hk.2⟩
  · rw [Below.heap_setCell _ _ _ _ (by show k ≠ cb; exact hc), hg.block k (by simp; omega) (fun e => hr (by rw [hro]; exact e.symm)), Below.heap_alloc _ _ _ hk]
  · rw [rowOf_at hn] at hk
    have e : g = k := Option.some.inj hk
    rw [hro]
    subst e
    exact hat
  · have e1 : (seen ++ [x]).length = seen.length + 1 := by simp
    have e2 : strsV (seen ++ [x]) = strsV seen ++ [.string (bs x)] := by simp [strsV]
    rw [e1, e2]
    exact ownsRow_keep hown5 fun k hk => Below.heap_setCell _ _ _ _ (by have := own_block_ge hown5 k hk; show k ≠ cb; omega)
def NodeAt (cb lo : Nat) (fs : List Hs.Ast) (fv : Value) (d : Nat) : Prop :=
  ∀ (v : Value) (a : Hs.Ast) (seen : List (List UInt8)) (w : World), CK cb lo fs fv w seen → PN (Btw lo cb) w v a → Hs.dp d a → seen.length + Hs.wt d a ≤ 90000 →
    Calls Tryz.prog 167 #[.pointer (some ⟨cb, 0, none⟩), v] w (OutC cb lo fs fv w (Hs.walkL fs false d a ⟨seen, 0, 0⟩))
theorem CK.cut {cb lo : Nat} {fs : List Hs.Ast} {fv : Value} {w : World} {seen : List (List UInt8)} (h : CK cb lo fs fv w seen) : ∃ sx sc, w.heap[cb]? = some (.cells #[fv, .slice sx seen.length sc] 220 (0, 0)) ∧ seen.length ≤ sc ∧ sc ≤ maxLen ∧ w.ownsRow (cb + 1) 9 1 (.slice sx seen.length sc) seen.length (strsV seen) := by
  obtain ⟨sv, h1, h2⟩ := h.blk
  obtain ⟨x, c, rfl, hc1, hc2, _⟩ := strs_cut h2 _ (Nat.le_refl _)
  exact ⟨x, c, h1, hc1, hc2, h2⟩
theorem PN.below {lo cb : Nat} {w w' : World} {v : Value} {a : Hs.Ast} (h : PN (Btw lo cb) w v a) (hb : Below cb w w') : PN (Btw lo cb) w' v a := h.keep fun k hk => hb.block k hk.2
theorem PKid.below {lo cb : Nat} {w w' : World} {v : Value} {l : List Hs.Ast} (h : PKid (Btw lo cb) w v l) (hb : Below cb w w') : PKid (Btw lo cb) w' v l := h.keep (fun k hk => hb.block k hk.2) fun _ h => h
set_option maxRecDepth 100000 in
set_option maxHeartbeats 2000000 in
theorem declare_any (cb lo : Nat) (fs : List Hs.Ast) (fv : Value) (d : Nat) (IH : NodeAt cb lo fs fv d) (w : World) (seen : List (List UInt8)) (h : CK cb lo fs fv w seen) (al : Nat) (t u : Hs.Ast) (v1 : Value) (hu : PN (Btw lo cb) w v1 u) (hdu : Hs.dp d u) (hwt : seen.length + Hs.wt d u ≤ 90000) :
    Calls Tryz.prog 229 #[.pointer (some ⟨cb, 0, none⟩), .agg #[.int .i64 al, .int .i64 t.line, .string (bs t.text), v1]] w
      (OutC cb lo fs fv w { Hs.walkL fs false d u (Hs.declaresL ⟨seen, 0, 0⟩ t) with seen := (Hs.walkL fs false d u (Hs.declaresL ⟨seen, 0, 0⟩ t)).seen ++ [t.text] }) := by
  obtain ⟨T1, cs1, rfl⟩ := hu.form
  have hcb := h.lt
  have HB0 : Hid (Below w.heap.size w (w.alloc (.cells #[.int .i64 al, .int .i64 t.line, .string (bs t.text), .iface T1 (.agg cs1)] 329))) := (Below.refl _ _).alloc (Nat.le_refl _) _
  have HBX : Hid ((w.alloc (.cells #[.int .i64 al, .int .i64 t.line, .string (bs t.text), .iface T1 (.agg cs1)] 329)).heap[w.heap.size]? = some (.cells #[.int .i64 al, .int .i64 t.line, .string (bs t.text), .iface T1 (.agg cs1)] 329 (0, 0))) := heap_first _ _ rfl _
  have HM := mkHid (mayDeclare_any cb lo fs fv _ seen (h.grow HB0.out) (by omega) t.line t.text)
  have HDL : Hid (Hs.declaresL ⟨seen, 0, 0⟩ t = if Hs.givenB t.text || seen.contains t.text then Hs.Chk.found ⟨seen, 0, 0⟩ t.line 6 else ⟨seen, 0, 0⟩) := rfl
  rw [← HDL.out] at HM
  have HU := mkHid hu
  have HIH := mkHid IH
  have hadd := walkL_adds fs false d u (Hs.declaresL ⟨seen, 0, 0⟩ t)
  have HADD := mkHid hadd
  have hds := declaresL_seen ⟨seen, 0, 0⟩ t
  have HDS := mkHid hds
  have HBF := mkHid (FB.of_below HB0.out hcb)
  have hrw : rowOf cb (w.alloc (.cells #[.int .i64 al, .int .i64 t.line, .string (bs t.text), .iface T1 (.agg cs1)] 329)) ≠ some w.heap.size := by
    obtain ⟨sv, hb, ho⟩ := h.blk
    intro e
    rw [rowOf_eq (HB0.out.block cb hcb), rowOf_at hb] at e
    have := own_block_lt ho _ e
    omega
  have HRW := mkHid hrw
  clear h hu IH HDL hadd hds hrw
  generalize hc1 : Hs.declaresL ⟨seen, 0, 0⟩ t = c1 at *
  clear hc1
  obtain ⟨i0, hi, hz0, hz1, hz2⟩ := info_parts infoStr
  go_enter Tryz.func229, Tryz.ntmps229
  go_wp2_with fail
  refine HM.out.mono ?_
  rintro e w1 ⟨hb1, ⟨s1, rfl, rfl, hck1⟩ | ⟨hk1, rfl⟩⟩
  rotate_left
  · have HB1 := mkHid (HBF.out.trans hb1)
    have HK1 := mkHid hk1
    clear hb1 hk1
    go_wp2_with fail
    exact ⟨rfl, OutC.fault (c1 := c1) HB1.out HK1.out ((Stk.walk fs false d u c1).trans (Stk.seen _ _))⟩
  obtain rfl : s1 = seen := HDS.out
  have HX := mkHid (HIH.out (.iface T1 (.agg cs1)) u s1 w1 hck1 (HU.out.below (HBF.out.trans hb1).bel) hdu (by omega))
  have HBX1 := mkHid ((hb1.blk w.heap.size (by simp) (by omega) HRW.out).trans HBX.out)
  have HB1 := mkHid (HBF.out.trans hb1)
  have HRW1 : Hid (rowOf cb w1 ≠ some w.heap.size) := fun e => by
    rcases hb1.row _ e with e | e
    · exact HRW.out e
    · simp at e
      omega
  have m0 := cell_of_block HBX1.out (i := 0) rfl
  have m1 := cell_of_block HBX1.out (i := 1) rfl
  have m2 := cell_of_block HBX1.out (i := 2) rfl
  have m3 := cell_of_block HBX1.out (i := 3) rfl
  have hz1' := lt_of_block HBX1.out
  clear hb1 hck1 HM HDS
  generalize hc2 : Hs.walkL fs false d u ⟨s1, 0, 0⟩ = c2 at *
  clear hc2
  go_wp2_with fail
  refine HX.out.mono ?_
  rintro e w2 ⟨hb2, ⟨s2, rfl, rfl, hck2⟩ | ⟨hk2, rfl⟩⟩
  rotate_left
  · have HB2 := mkHid (HB1.out.trans hb2)
    have HK2 := mkHid hk2
    clear hb2 hk2
    go_wp2_with fail
    exact ⟨rfl, OutC.fault (c1 := c2) HB2.out HK2.out (Stk.seen _ _)⟩
  clear m0 m1 m2 m3 hz1'
  have HBX2 := mkHid ((hb2.blk w.heap.size (lt_of_block HBX1.out) (by omega) HRW1.out).trans HBX1.out)
  have m0 := cell_of_block HBX2.out (i := 0) rfl
  have m1 := cell_of_block HBX2.out (i := 1) rfl
  have m2 := cell_of_block HBX2.out (i := 2) rfl
  have m3 := cell_of_block HBX2.out (i := 3) rfl
  have hz2' := lt_of_block HBX2.out
  obtain ⟨sx2, sc2, hblk2, hsc2, hscm2, hown2⟩ := hck2.cut
  obtain ⟨hlt2, c0, c1, f1⟩ := cc_cells hblk2
  have hl2 : s2.length ≤ 90000 := by
    obtain ⟨x, h1, h2⟩ := HADD.out
    have h1' : s2 = s1 ++ x := h1
    rw [h1']; simp; omega
  have HB2 := mkHid (show w2.drew.heap[cb]? = _ from hblk2)
  have HO2 := mkHid (show w2.drew.ownsRow _ _ _ _ _ _ from hown2)
  have HCC := mkHid (show CK cb lo fs fv w2.drew s2 from hck2.grow (Below.refl _ _).drew)
  have HB02 := mkHid (HB1.out.trans (hb2.trans (FB.of_below (Below.refl _ _).drew hlt2)))
  clear hblk2 hown2 hck2 hb2 HX
  go_wp2_with fail
  go_region_law (refine step_append_lies _ (by rfl) _ _ 60 (by rfl) (cb + 1) 9 i0 _ 1 16 Tryz.underlying60 hi hz0 hz1 hz2 rfl (by decide) (.slice sx2 s2.length sc2) s2.length (strsV s2) (by rfl) (HO2.out.alloc _) ⟨w2.heap.size, 0, none⟩ 1 1 [.string (bs t.text)] (by rfl) (by rfl) (news_str w2.drew _) (one_str _) (by decide) (by unfold maxLen; omega) (by omega) (by simp; omega) (w2.heap.size + 1) (by simp) ?_; intro g5 cap5 w5 hown5 hgrow5 hat5 hg5; have hB5 := cc_grown HB2.out HO2.out hgrow5; obtain ⟨hz5, -, q1, fz5⟩ := cc_cells hB5; clear hB5)
  all_goals
    go_wp2_with fail
    first | go_end0 | refine bodyPost_ret (results_none rfl _ _ _) rfl ?_
    have hfin := HCC.out.add HB2.out HO2.out hown5 hgrow5 (hat5.imp_right fun e => by show w2.heap.size ≤ g5; omega)
    exact OutC.done (HB02.out.trans hfin.1) rfl hfin.2
end Go.Proofs.YtblbkfdhjfppkaaGreatDoor

/- Contracts of the program: names: lists, blocks, calls. -/
namespace Go.Proofs.YtblbkfdhjfppkaaGreatDoor
open Go.RowKit
theorem PKid.get {F : Nat → Prop} {w : World} {v : Value} {l : List Hs.Ast} (h : PKid F w v l) : (v = .slice none 0 0 ∧ l = []) ∨ ∃ g cap, v = .slice (some ⟨g, 0, none⟩) l.length cap ∧ F g ∧ g < w.heap.size ∧ l.length ≤ cap ∧ ∀ k (hk : k < l.length), ∃ u, w.cell? ⟨g, k, none⟩ = some u ∧ PN F w u l[k] := by
  rcases h with h | ⟨g, cap, cur, vs, h1, h2, h3, h4, h5, h6⟩
  · exact Or.inl h
  · refine Or.inr ⟨g, cap, h1, h2, lt_of_block h3, h4, fun k hk => ?_⟩
    obtain ⟨u, hu, hr⟩ := All2.get k hk h6
    refine ⟨u, cell_of_block h3 ?_, hr⟩
    rw [← h5, List.getElem?_take, if_pos hk] at hu
    simpa using hu
abbrev foldL (fs : List Hs.Ast) (d : Nat) (l : List Hs.Ast) (s : Hs.Chk) : Hs.Chk := l.foldl (fun s k => Hs.walkL fs false d k s) s
def NodesAt (cb lo : Nat) (fs : List Hs.Ast) (fv : Value) (d : Nat) : Prop :=
  ∀ (v : Value) (l : List Hs.Ast) (seen : List (List UInt8)) (w : World), CK cb lo fs fv w seen → PKid (Btw lo cb) w v l → (∀ k ∈ l, Hs.dp d k) → seen.length + (l.map (Hs.wt d)).sum ≤ 90000 → l.length ≤ 90000 →
    Calls Tryz.prog 231 #[.pointer (some ⟨cb, 0, none⟩), v] w (OutC cb lo fs fv w (foldL fs d l ⟨seen, 0, 0⟩))
def NdInv (cb lo : Nat) (fs : List Hs.Ast) (fv : Value) (d : Nat) (w : World) (l : List Hs.Ast) (c : Hs.Chk) (gk : Nat) (i : Value) (wr : World) : Prop :=
  ∃ k s, k + gk = l.length ∧ i = .int .i64 (k : Nat) ∧ FB cb w wr ∧ CK cb lo fs fv wr s ∧ c = foldL fs d (l.drop k) ⟨s, 0, 0⟩ ∧ s.length + ((l.drop k).map (Hs.wt d)).sum ≤ 90000
set_option maxRecDepth 100000 in
set_option maxHeartbeats 2000000 in
theorem nodes_some (cb lo : Nat) (fs : List Hs.Ast) (fv : Value) (d : Nat) (IH : NodeAt cb lo fs fv d) (g cap : Nat) (l : List Hs.Ast) (seen : List (List UInt8)) (w : World) (h : CK cb lo fs fv w seen) (hg : g < cb) (_hcap : l.length ≤ cap) (hc : ∀ k (hk : k < l.length), ∃ u, w.cell? ⟨g, k, none⟩ = some u ∧ PN (Btw lo cb) w u l[k]) (hd : ∀ k ∈ l, Hs.dp d k) (hwt : seen.length + (l.map (Hs.wt d)).sum ≤ 90000) (hl : l.length ≤ 90000) :
    Calls Tryz.prog 231 #[.pointer (some ⟨cb, 0, none⟩), .slice (some ⟨g, 0, none⟩) l.length cap] w (OutC cb lo fs fv w (foldL fs d l ⟨seen, 0, 0⟩)) := by
  have HI : Hid (NdInv cb lo fs fv d w l (foldL fs d l ⟨seen, 0, 0⟩) l.length (.int .i64 (0 : Nat)) w) := ⟨0, seen, by omega, rfl, FB.refl _, h, by simp, by simpa using hwt⟩
  have HC := mkHid hc
  have HD := mkHid hd
  have HIH := mkHid IH
  have hcb := h.lt
  clear h hc hd IH hwt
  generalize foldL fs d l ⟨seen, 0, 0⟩ = c at *
  go_enter Tryz.func231, Tryz.ntmps231
  go_wp2_with fail
  go_loopg [5, 8] l.length (fun gk _ i wr => NdInv cb lo fs fv d w l c gk i wr)
  case atStart => exact HI.out
  case round =>
    obtain ⟨k, s, hk, rfl, hfb, hck, hcc, hs⟩ := hrel
    have HFB := mkHid hfb
    have HCK := mkHid hck
    by_cases hlt : k < l.length
    · obtain ⟨j, rfl⟩ : ∃ j, gk = j + 1 := ⟨gk - 1, by omega⟩
      obtain ⟨u, hu, hn⟩ := HC.out k hlt
      obtain ⟨T, cs, rfl⟩ := hn.form
      have hcell : wr.cell? ⟨g, k, none⟩ = some (.iface T (.agg cs)) := (hfb.bel.cell (p := ⟨g, k, none⟩) hg).trans hu
      have hgr : g < wr.heap.size := Nat.lt_of_lt_of_le (Nat.lt_trans hg hcb) hfb.bel.size
      have hdk : l.drop k = l[k] :: l.drop (k + 1) := (List.getElem_cons_drop hlt).symm
      have hdp := HD.out l[k] (List.getElem_mem hlt)
      rw [hdk] at hcc hs
      simp only [List.map_cons, List.sum_cons] at hs
      generalize l[k] = a at *
      have HX := mkHid (HIH.out (.iface T (.agg cs)) a s wr hck (hn.below hfb.bel) hdp (by omega))
      have hadd := walkL_adds fs false d a ⟨s, 0, 0⟩
      have HADD := mkHid hadd
      have hcc' : c = foldL fs d (l.drop (k + 1)) (Hs.walkL fs false d a ⟨s, 0, 0⟩) := hcc
      have HCC := mkHid hcc'
      have HHS := mkHid hs
      clear hfb hck hn hu hdk hcc hcc' hadd hs
      generalize Hs.walkL fs false d a ⟨s, 0, 0⟩ = c1 at *
      go_wp2_with fail
      refine HX.out.mono ?_
      rintro e w1 ⟨hb1, ⟨s1, rfl, rfl, hck1⟩ | ⟨hk1, rfl⟩⟩
      rotate_left
      · have HB1 := mkHid (HFB.out.trans hb1)
        have HK1 := mkHid hk1
        clear hb1 hk1
        go_wp2_with fail
        exact ⟨rfl, OutC.fault (c1 := c1) HB1.out HK1.out (by rw [HCC.out]; exact Stk.fold (fun s k => Stk.walk fs false d k s) _ _)⟩
      have HI1 : Hid (NdInv cb lo fs fv d w l c j (.int .i64 ((k + 1 : Nat) : Int)) w1) := by
        refine ⟨k + 1, s1, by omega, rfl, HFB.out.trans hb1, hck1, HCC.out, ?_⟩
        obtain ⟨x, h1, h2⟩ := HADD.out
        have h1' : s1 = s ++ x := h1
        have := HHS.out
        rw [h1', List.length_append]
        omega
      clear hb1 hck1 HX
      go_wp2_with fail
      go_roundg j
      case measure => omega
      case rel => exact HI1.out
    · have hcc' : c = ⟨s, 0, 0⟩ := by rw [hcc, List.drop_eq_nil_of_le (by omega)]; rfl
      have HCC := mkHid hcc'
      clear hfb hck hcc hcc'
      go_wp2_with fail
      go_end0
      exact OutC.done HFB.out HCC.out HCK.out
set_option maxRecDepth 100000 in
set_option maxHeartbeats 1000000 in
theorem nodes_none (cb lo : Nat) (fs : List Hs.Ast) (fv : Value) (seen : List (List UInt8)) (w : World) (h : CK cb lo fs fv w seen) :
    Calls Tryz.prog 231 #[.pointer (some ⟨cb, 0, none⟩), .slice none 0 0] w (OutC cb lo fs fv w ⟨seen, 0, 0⟩) := by
  have H := mkHid h
  clear h
  go_enter Tryz.func231, Tryz.ntmps231
  go_wp2_with fail
  go_loop [5, 8] (fun _ i => i = .int .i64 0) (fun _ _ => 0)
  case atStart => rfl
  case round =>
    subst hrel
    go_wp2_with fail
    go_end0
    exact OutC.done (FB.refl _) rfl H.out
theorem nodes_any (cb lo : Nat) (fs : List Hs.Ast) (fv : Value) (d : Nat) (IH : NodeAt cb lo fs fv d) : NodesAt cb lo fs fv d := by
  intro v l seen w h hk hd hwt hl
  rcases hk.get with ⟨rfl, rfl⟩ | ⟨g, cap, rfl, hF, hg, hcap, hc⟩
  · exact nodes_none cb lo fs fv seen w h
  · exact nodes_some cb lo fs fv d IH g cap l seen w h hF.2 hcap hc hd hwt hl
theorem fold_adds (fs : List Hs.Ast) (d : Nat) (l : List Hs.Ast) (s : Hs.Chk) : Adds s (foldL fs d l s) (l.map (Hs.wt d)).sum := Adds.fold (fun s k => walkL_adds fs false d k s) l s
theorem CK.back {cb lo : Nat} {fs : List Hs.Ast} {fv : Value} {w : World} {seen : List (List UInt8)} (m : Nat) (hm : m ≤ seen.length) {sx : Option Addr} {sc : Nat} (h : CK cb lo fs fv w seen) (hblk : w.heap[cb]? = some (.cells #[fv, .slice sx seen.length sc] 220 (0, 0))) (hown : w.ownsRow (cb + 1) 9 1 (.slice sx seen.length sc) seen.length (strsV seen)) :
    FB cb w (w.setCell ⟨cb, 1, none⟩ (.slice sx m sc)) ∧ CK cb lo fs fv (w.setCell ⟨cb, 1, none⟩ (.slice sx m sc)) (seen.take m) := by
  have hlt := lt_of_block hblk
  obtain ⟨x, c, he, -, -, ho⟩ := strs_cut hown m hm
  obtain ⟨rfl, rfl⟩ : sx = x ∧ sc = c := by cases he; exact ⟨rfl, rfl⟩
  have hb : Below cb w (w.setCell ⟨cb, 1, none⟩ (.slice sx m sc)) := (Below.refl _ _).setCell (by simp) _
  have hn : (w.setCell ⟨cb, 1, none⟩ (.slice sx m sc)).heap[cb]? = some (.cells #[fv, .slice sx m sc] 220 (0, 0)) := by rw [heap_setCell_at hblk]; rfl
  refine ⟨⟨hb, fun k hk hc hr => Below.heap_setCell _ _ _ _ (by show k ≠ cb; exact hc), fun k hk => Or.inl ?_⟩, ⟨.slice sx m sc, hn, ?_⟩, h.fun_.keep fun k hk => hb.block k hk.2⟩
  · rw [rowOf_at hn] at hk
    rw [rowOf_at hblk, ← hk]
    cases sx <;> rfl
  · rw [List.length_take, Nat.min_eq_left hm]
    exact ownsRow_keep ho fun k hk => Below.heap_setCell _ _ _ _ (by have := own_block_ge ho k hk; show k ≠ cb; omega)
set_option maxRecDepth 100000 in
set_option maxHeartbeats 1000000 in
theorem ckBlock_any (cb lo : Nat) (fs : List Hs.Ast) (fv : Value) (d : Nat) (HN : NodesAt cb lo fs fv d) (v : Value) (l : List Hs.Ast) (seen : List (List UInt8)) (w : World) (h : CK cb lo fs fv w seen) (hk : PKid (Btw lo cb) w v l) (hd : ∀ k ∈ l, Hs.dp d k) (hwt : seen.length + (l.map (Hs.wt d)).sum ≤ 90000) (hl : l.length ≤ 90000) :
    Calls Tryz.prog 190 #[.pointer (some ⟨cb, 0, none⟩), v] w (OutC cb lo fs fv w { foldL fs d l ⟨seen, 0, 0⟩ with seen := (foldL fs d l ⟨seen, 0, 0⟩).seen.take seen.length }) := by
  obtain ⟨vx, vc, rfl⟩ := hk.slice
  have HX := mkHid (HN _ l seen w h hk hd hwt hl)
  have hadd := fold_adds fs d l ⟨seen, 0, 0⟩
  have HADD := mkHid hadd
  obtain ⟨sx, sc, hblk, hsc, hscm, hown⟩ := h.cut
  obtain ⟨hlt, c0, c1, f1⟩ := cc_cells hblk
  clear h hk hd HN hadd hblk hown
  generalize foldL fs d l ⟨seen, 0, 0⟩ = c at *
  go_enter Tryz.func190, Tryz.ntmps190
  go_wp2_with fail
  refine HX.out.mono ?_
  rintro e w1 ⟨hb1, ⟨s1, rfl, rfl, hck1⟩ | ⟨hk1, rfl⟩⟩
  rotate_left
  · have HB1 := mkHid hb1
    have HK1 := mkHid hk1
    clear hb1 hk1
    go_wp2_with fail
    exact ⟨rfl, OutC.fault (c1 := c) HB1.out HK1.out (Stk.seen _ _)⟩
  obtain ⟨x, hx1, hx2⟩ := HADD.out
  have hx1' : s1 = seen ++ x := hx1
  have hle : seen.length ≤ s1.length := by rw [hx1']; simp
  obtain ⟨sx1, sc1, hblk1, hsc1, hscm1, hown1⟩ := hck1.cut
  have HFIN := mkHid (hck1.back seen.length hle hblk1 hown1)
  have HB1 := mkHid hb1
  clear c0 c1 f1 hlt hsc hscm
  obtain ⟨hlt, c0, c1, f1⟩ := cc_cells hblk1
  have hs1 : s1.length ≤ 200000 := by rw [hx1', List.length_append]; omega
  clear hck1 hblk1 hown1 hb1 HX hx1 hx1'
  go_wp2_with fail
  go_end0
  exact OutC.done (HB1.out.trans HFIN.out.1) rfl HFIN.out.2
theorem FSl.kids {F : Nat → Prop} {w : World} {v : Value} {fs : List Hs.Ast} (h : FSl F w v fs) : ∀ f ∈ fs, 1 ≤ f.kids.length := by
  rcases h.cells with ⟨_, rfl⟩ | ⟨g, cap, _, _, _, _, hc⟩
  · intro f hf; cases hf
  · intro f hf
    obtain ⟨k, hk, rfl⟩ := List.mem_iff_getElem.1 hf
    obtain ⟨pv, bv, ps, b, _, _, _, _, e, _⟩ := hc k hk
    rw [e]; simp
theorem wantL_par {fs : List Hs.Ast} (hk : ∀ f ∈ fs, 1 ≤ f.kids.length) (x : List UInt8) : Hs.wantL fs false x = match parL fs x with | some n => (n : Int) | none => -1 := by
  unfold Hs.wantL parL
  cases h1 : (x == [108, 101, 110])
  · cases h2 : (x == [114, 101, 97, 100])
    · cases hf : Hs.funcL fs x with
      | none => simp
      | some f =>
        have h3 := hk f (List.mem_of_find?_eq_some hf)
        have e : ((f.kids.length - 1 : Nat) : Int) = (f.kids.length : Int) - 1 := by omega
        simpa using e.symm
    · simp
  · simp
theorem parL_le {fs : List Hs.Ast} (hk : ∀ f ∈ fs, f.kids.length ≤ 90000) {x : List UInt8} {n : Nat} (h : parL fs x = some n) : n ≤ 90000 := by
  unfold parL at h
  split at h
  · cases h; omega
  · split at h
    · cases h; omega
    · cases hf : Hs.funcL fs x with
      | none => rw [hf] at h; cases h
      | some f =>
        rw [hf] at h
        have := hk f (List.mem_of_find?_eq_some hf)
        cases h
        show f.kids.length - 1 ≤ 90000
        omega
set_option maxRecDepth 100000 in
set_option maxHeartbeats 2000000 in
theorem ckCall_any (cb lo : Nat) (fs : List Hs.Ast) (fv : Value) (hfl : fs.length ≤ 90000) (hfk : ∀ f ∈ fs, f.kids.length ≤ 90000) (d : Nat) (HN : NodesAt cb lo fs fv d) (c : Hs.Ast) (v : Value) (seen : List (List UInt8)) (w : World) (h : CK cb lo fs fv w seen) (hk : PKid (Btw lo cb) w v c.kids) (hd : ∀ k ∈ c.kids, Hs.dp d k) (hwt : seen.length + (c.kids.map (Hs.wt d)).sum ≤ 90000) (hl : c.kids.length ≤ 90000) :
    Calls Tryz.prog 232 #[.pointer (some ⟨cb, 0, none⟩), .agg #[.int .i64 c.line, .string (bs c.text), v]] w (OutC cb lo fs fv w (foldL fs d c.kids (Hs.callsL fs false ⟨seen, 0, 0⟩ c))) := by
  obtain ⟨vx, vc, rfl⟩ := hk.slice
  have hcb := h.lt
  have hb0 : Below w.heap.size w (w.alloc (.cells #[.int .i64 c.line, .string (bs c.text), .slice vx c.kids.length vc] 341)) := (Below.refl _ _).alloc (Nat.le_refl _) _
  have h0 := h.grow hb0
  have HB0 := mkHid hb0
  have HBX : Hid ((w.alloc (.cells #[.int .i64 c.line, .string (bs c.text), .slice vx c.kids.length vc] 341)).heap[w.heap.size]? = some (.cells #[.int .i64 c.line, .string (bs c.text), .slice vx c.kids.length vc] 341 (0, 0))) := heap_first _ _ rfl _
  obtain ⟨sx, sc, hblk, hsc, hscm, hown⟩ := h0.cut
  obtain ⟨hlt, c0, c1, f1⟩ := cc_cells hblk
  obtain ⟨pv, rfl, hpv⟩ := (h0.grow (Below.refl _ _).drew).fun_
  obtain ⟨fx, fc, rfl⟩ : ∃ x c, pv = .slice x fs.length c := by
    rcases hpv.cells with ⟨h1, h2⟩ | ⟨g, cap, h1, _⟩
    · exact ⟨none, 0, by rw [h1, h2]; rfl⟩
    · exact ⟨_, _, h1⟩
  have HPP := mkHid (pars_any fs (Btw lo cb) (.slice fx fs.length fc) c.text (w.alloc (.cells #[.int .i64 c.line, .string (bs c.text), .slice vx c.kids.length vc] 341)).drew (by omega) hfk hpv)
  have HWP := mkHid (wantL_par hpv.kids c.text)
  clear hpv
  have H0 := mkHid h0
  have HK := mkHid hk
  have HNN := mkHid (fun W (hb : Below w.heap.size w W) => HN (.slice vx c.kids.length vc) c.kids seen W (h.grow hb) (hk.below (hb.mono (by omega))) hd hwt hl)
  have HFK := mkHid hfk
  clear h hk hd HN hb0 h0 hblk hown hfk
  cases hp : parL fs c.text with
  | none =>
    have HC : Hid (Hs.callsL fs false ⟨seen, 0, 0⟩ c = ⟨seen, 6, c.line⟩) := by
      show _ = _
      rw [callsL_neg (W := -1) (by rw [HWP.out, hp]) (by decide)]; rfl
    rw [hp] at HPP
    simp only [Option.getD_none, Option.isSome_none] at HPP
    rw [HC.out]
    clear hp HWP HC
    go_enter Tryz.func232, Tryz.ntmps232
    go_wp2_with fail
    go_region_law (go_simp; go_at_call 135; refine HPP.out.mono ?_; rintro e w1 ⟨rfl, hb1⟩; have HB1 := mkHid (HB0.out.trans ((Below.refl _ _).drew.trans (hb1.mono (by simp)))); have HBX1 := mkHid ((hb1.block w.heap.size (by simp)).trans HBX.out); have m0 := cell_of_block HBX1.out (i := 0) rfl; have m1 := cell_of_block HBX1.out (i := 1) rfl; have m2 := cell_of_block HBX1.out (i := 2) rfl; have hz1 := lt_of_block HBX1.out; clear hb1)
    all_goals
      go_wp2_with fail
      refine (line_any c.line _).mono ?_
      rintro e w2 ⟨rfl, hb2⟩
      have HB2 := mkHid (HB1.out.trans (hb2.mono HB1.out.size))
      clear hb2
      go_wp2_with (go_at_call 136; refine (pfail_any 6 c.line _).mono ?_; rintro e w3 ⟨rfl, hw⟩; obtain rfl := hw.symm)
      exact ⟨rfl, OutC.fault (c1 := ⟨seen, 6, c.line⟩) (FB.of_below HB2.out hcb) (by simp) (Stk.fold (fun s k => Stk.walk fs false d k s) _ _)⟩
  | some n =>
    rw [hp] at HPP
    simp only [Option.getD_some, Option.isSome_some] at HPP
    have hn : n ≤ 2000000000 := by have := parL_le HFK.out hp; omega
    by_cases he : n = c.kids.length
    · have HC : Hid (Hs.callsL fs false ⟨seen, 0, 0⟩ c = ⟨seen, 0, 0⟩) := by
        show _ = _
        rw [callsL_eq (W := n) (by rw [HWP.out, hp]) (by omega) (by omega)]
      rw [HC.out]
      subst he
      clear hp HWP HC
      generalize foldL fs d c.kids ⟨seen, 0, 0⟩ = r at *
      go_enter Tryz.func232, Tryz.ntmps232
      go_wp2_with fail
      go_region_law (go_simp; go_at_call 135; refine HPP.out.mono ?_; rintro e w1 ⟨rfl, hb1⟩; have HB1 := mkHid (HB0.out.trans ((Below.refl _ _).drew.trans (hb1.mono (by simp)))); have HBX1 := mkHid ((hb1.block w.heap.size (by simp)).trans HBX.out); have m0 := cell_of_block HBX1.out (i := 0) rfl; have m1 := cell_of_block HBX1.out (i := 1) rfl; have m2 := cell_of_block HBX1.out (i := 2) rfl; have hz1 := lt_of_block HBX1.out; clear hb1)
      all_goals
        go_wp2_with fail
        refine (HNN.out _ HB1.out).mono ?_
        rintro e w2 ⟨hb2, ⟨s2, rfl, rfl, hck2⟩ | ⟨hk2, rfl⟩⟩
        · have HB2 := mkHid ((FB.of_below HB1.out hcb).trans hb2)
          have HC2 := mkHid hck2
          clear hb2 hck2
          go_wp2_with fail
          go_end0
          exact OutC.done HB2.out rfl HC2.out
        · have HB2 := mkHid ((FB.of_below HB1.out hcb).trans hb2)
          have HK2 := mkHid hk2
          clear hb2 hk2
          go_wp2_with fail
          exact ⟨rfl, OutC.fault (c1 := r) HB2.out HK2.out (Stk.refl _)⟩
    · have HC : Hid (Hs.callsL fs false ⟨seen, 0, 0⟩ c = ⟨seen, 7, c.line⟩) := by
        show _ = _
        rw [callsL_ne (W := n) (by rw [HWP.out, hp]) (by omega) (by omega)]; rfl
      rw [HC.out]
      have hne : ((n : Int) != (c.kids.length : Int)) = true := by simp; omega
      clear hp HWP HC
      go_enter Tryz.func232, Tryz.ntmps232
      go_wp2_with fail
      go_region_law (go_simp; go_at_call 135; refine HPP.out.mono ?_; rintro e w1 ⟨rfl, hb1⟩; have HB1 := mkHid (HB0.out.trans ((Below.refl _ _).drew.trans (hb1.mono (by simp)))); have HBX1 := mkHid ((hb1.block w.heap.size (by simp)).trans HBX.out); have m0 := cell_of_block HBX1.out (i := 0) rfl; have m1 := cell_of_block HBX1.out (i := 1) rfl; have m2 := cell_of_block HBX1.out (i := 2) rfl; have hz1 := lt_of_block HBX1.out; clear hb1)
      all_goals
        go_wp2_with fail
        refine (line_any c.line _).mono ?_
        rintro e w2 ⟨rfl, hb2⟩
        have HB2 := mkHid (HB1.out.trans (hb2.mono HB1.out.size))
        clear hb2
        go_wp2_with (go_at_call 136; refine (pfail_any 7 c.line _).mono ?_; rintro e w3 ⟨rfl, hw⟩; obtain rfl := hw.symm)
        exact ⟨rfl, OutC.fault (c1 := ⟨seen, 7, c.line⟩) (FB.of_below HB2.out hcb) (by simp) (Stk.fold (fun s k => Stk.walk fs false d k s) _ _)⟩
end Go.Proofs.YtblbkfdhjfppkaaGreatDoor
