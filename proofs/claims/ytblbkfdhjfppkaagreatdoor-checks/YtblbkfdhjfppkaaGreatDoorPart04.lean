/- The document's answer: what is wrong with a source. -/
import Derived.Test.YtblbkfdhjfppkaaGreatDoorPart03
namespace Go.Proofs.YtblbkfdhjfppkaaGreatDoor
open Go.RowKit

theorem RepD.dp {F : Nat → Prop} {w : World} : ∀ {d : Nat} {v : Value} {a : Hs.Ast}, RepD d F w v a → Hs.dp d a
  | 0, _, _, h => h.elim
  | d + 1, v, a, h => fun k hk => by
    obtain ⟨d', b, kv, hd, _, _, _, _, _, _, _, hkd⟩ := h.cells
    obtain rfl : d = d' := by omega
    obtain ⟨i, hi, rfl⟩ := List.mem_iff_getElem.1 hk
    rcases hkd.get with ⟨_, h0⟩ | ⟨g, cap, _, _, _, _, hget⟩
    · rw [h0] at hi; simp at hi
    · obtain ⟨v, _, hr⟩ := hget i hi
      exact hr.dp

theorem partL_deep (fs : List Hs.Ast) (d e : Nat) (s : Hs.Chk) (k : Hs.Ast) (h : Hs.dp d k) (h2 : Hs.dp e k) : Hs.partL fs d s k = Hs.partL fs e s k := by
  unfold Hs.partL
  split
  · rfl
  · rcases Nat.le_total d e with hde | hde
    · exact Hs.walkL_deep fs false d e k s h hde
    · exact (Hs.walkL_deep fs false e d k s h2 hde).symm
theorem doesL_deep (fs : List Hs.Ast) (d e : Nat) (s : Hs.Chk) (n : Hs.Ast) (first : Bool) (h : Hs.dp (d + 1) n) (h2 : Hs.dp (e + 1) n) : Hs.doesL fs d s n first = Hs.doesL fs e s n first := by
  unfold Hs.doesL
  exact Hs.foldl_congr' n.kids _ fun k hk b => partL_deep fs d e b k (h k hk) (h2 k hk)

theorem allL_snoc (fs : List Hs.Ast) (d : Nat) : ∀ (l pre : List Hs.Ast) (n : Hs.Ast) (s : Hs.Chk), Hs.allL fs d pre (l ++ [n]) s = Hs.doesL fs d (Hs.allL fs d pre l s) n (Hs.funcL (pre ++ l) n.text).isNone
  | [], pre, n, s => by simp [Hs.allL]
  | x :: l, pre, n, s => by
    rw [List.cons_append, Hs.allL, Hs.allL, allL_snoc fs d l]
    simp

/-- What Read answers: nothing and the fault, or the tree and none. -/
def readPost (w : World) (s : List UInt8) (e : Ending) (w' : World) : Prop :=
  Below w.heap.size w w' ∧
  if (Hs.readL s).1 = 0 then ∃ b ks, e = .returned (.tuple #[.pointer (some ⟨b, 0, none⟩), .agg #[.int .i64 0, .int .i64 0]]) ∧ Hs.parsedL s = .ok ks ∧ Rep (Btw w.heap.size w'.heap.size) w' (.pointer (some ⟨b, 0, none⟩)) (Hs.node [112, 114, 111, 103, 114, 97, 109] 0 [] ks)
  else e = .returned (.tuple #[.pointer none, .agg #[.int .i64 (Hs.readL s).1, .int .i64 (Hs.readL s).2]])

theorem parsedL_err {l : List UInt8} {k n : Nat} (h : Hs.parsedL l = .error (k, n)) : k ≠ 0 ∧ k ≤ 4 := by
  unfold Hs.parsedL at h
  split at h
  · cases h; decide
  split at h
  · cases h; decide
  split at h
  · cases h; decide
  split at h
  · cases h; decide
  · cases h

theorem allL_deep (fs : List Hs.Ast) (d e : Nat) : ∀ (l pre : List Hs.Ast) (s : Hs.Chk), (∀ n ∈ l, Hs.dp (d + 1) n ∧ Hs.dp (e + 1) n) → Hs.allL fs d pre l s = Hs.allL fs e pre l s
  | [], _, _, _ => rfl
  | n :: l, pre, s, h => by
    have hn := h n (List.mem_cons_self ..)
    rw [Hs.allL, Hs.allL, doesL_deep fs d e s n _ hn.1 hn.2]
    exact allL_deep fs d e l _ _ fun x hx => h x (List.mem_cons_of_mem _ hx)

theorem FineL.mem {m : Nat} {l : List Hs.Ast} (h : Hs.FineL m l) {f : Hs.Ast} (hf : f ∈ l) : Hs.FineA m f := fun d => ⟨Nat.le_trans (sum_mem_le hf) (h d).1, (h d).2 f hf⟩
theorem FineL.len {m : Nat} {l : List Hs.Ast} (h : Hs.FineL m l) : l.length ≤ m := Nat.le_trans (len_le_sum 0 l) (h 1).1
theorem FineA.len {m : Nat} {a : Hs.Ast} (h : Hs.FineA m a) : a.kids.length ≤ m := by
  have h1 : 1 + (a.kids.map (Hs.wt (0 + 1))).sum ≤ m := (h 2).1
  have h2 := len_le_sum 0 a.kids
  omega

set_option maxRecDepth 100000 in
set_option maxHeartbeats 2000000 in
theorem read_err (s : ByteArray) (w : World) (hg : RefTabs w) (hm : s.size ≤ maxLen) (k n : Nat) (hp : Hs.parsedL s.data.toList = .error (k, n)) :
    Calls Tryz.prog 16 #[.string s] w (readPost w s.data.toList) := by
  have hr : Hs.readL s.data.toList = (k, n) := by unfold Hs.readL; rw [hp]
  have hk0 := (parsedL_err hp).1
  have HP := mkHid (fun o => parsed_any s (w.alloc o) (hg.alloc o) hm)
  rw [hp] at HP
  have hkk : ((k : Int) != 0) = true := by simp; omega
  have HR := mkHid hr
  clear hr hp hg
  go_enter Tryz.func16, Tryz.ntmps16
  go_wp2_with fail
  refine (HP.out _).mono ?_
  rintro e w1 ⟨hb1, he⟩
  obtain rfl : e = .returned (.tuple #[.pointer none, .agg #[.int .i64 k, .int .i64 n]]) := he
  obtain ⟨hc, hf⟩ := bcell hb1
  have hz : w.heap.size < w1.heap.size := by have := hb1.size; simp at this; omega
  have HB1 := mkHid hb1
  clear hb1 HP
  go_wp2_with fail
  go_region
  go_wp2_with fail
  refine bodyPost_ret (v := .tuple #[.pointer none, .agg #[.int .i64 k, .int .i64 n]]) (by simp [results, Tryz.results16, go_sem, World.cell?_alloc_past, hz, hc]) rfl ?_
  unfold readPost
  rw [HR.out]
  refine ⟨?_, by rw [if_neg hk0]⟩
  exact (((((Below.refl _ _).alloc (Nat.le_refl _) _).trans (HB1.out.mono (by simp))).setCell (by simp) _).setCell (by simp) _ |>.alloc (by simp; omega) _).drew

theorem Kid.keep2 {F G : Nat → Prop} {d : Nat} {w w' : World} {kv : Value} {ks : List Hs.Ast} (h : KidD (RepD d F w) F w kv ks) (hk : ∀ b, F b → w'.heap[b]? = w.heap[b]?) (hG : ∀ b, F b → G b) : KidD (RepD d G w') G w' kv ks := by
  rcases h with h | ⟨g, cap, cur, vs, k1, k2, k3, k4, k5, k6⟩
  · exact Or.inl h
  · exact Or.inr ⟨g, cap, cur, vs, k1, hG _ k2, by rw [hk g k2]; exact k3, k4, k5, k6.mono fun _ _ h => (h.keep hk).mono hG (Nat.le_refl _)⟩

set_option maxRecDepth 100000 in
set_option maxHeartbeats 2000000 in
theorem read_ok (s : ByteArray) (w : World) (hg : RefTabs w) (hm : s.size ≤ maxLen) (ks : List Hs.Ast) (hp : Hs.parsedL s.data.toList = .ok ks) :
    Calls Tryz.prog 16 #[.string s] w (readPost w s.data.toList) := by
  have hfine := Hs.sz_parsed hp
  have hr : Hs.readL s.data.toList = Hs.namesL 2001 ks := by unfold Hs.readL; rw [hp]
  have HP := mkHid (fun o => parsed_any s (w.alloc o) (hg.alloc o) hm)
  rw [hp] at HP
  have hkl : ks.length ≤ 2001 := FineL.len hfine
  have HFI := mkHid hfine
  have HR := mkHid hr
  have HPP := mkHid hp
  clear hr hp hg hfine
  go_enter Tryz.func16, Tryz.ntmps16
  go_wp2_with fail
  refine (HP.out _).mono ?_
  rintro e w1 ⟨hb1, b, he, hrep⟩
  subst he
  obtain ⟨hc, hf⟩ := bcell hb1
  have hz : w.heap.size < w1.heap.size := by have := hb1.size; simp at this; omega
  obtain ⟨d, hrd⟩ := hrep
  obtain ⟨d0, b', kv, rfl, hbe, hbF, hbl, n0, n1, n2, n3, hkd⟩ := hrd.cells
  cases hbe
  obtain ⟨kx, kc, rfl⟩ := hkd.slice
  have n3' : w1.cell? ⟨b, 3, none⟩ = some (.slice kx ks.length kc) := n3
  clear n3
  have hbF' : w.heap.size + 1 ≤ b := by have := hbF.1; simpa using this
  have HRD := mkHid hrd
  have HB1 := mkHid hb1
  have hkd' : KidD (RepD d0 (Btw (w.heap.size + 1) (w1.heap.size + 1)) ((w1.alloc (.cells #[.int .i64 0, .int .i64 0] 27)).alloc (.cells #[.slice kx ks.length kc, .slice none 0 0, .bool false, .int .i64 0, .int .i64 0] 94))) (Btw (w.heap.size + 1) (w1.heap.size + 1)) ((w1.alloc (.cells #[.int .i64 0, .int .i64 0] 27)).alloc (.cells #[.slice kx ks.length kc, .slice none 0 0, .bool false, .int .i64 0, .int .i64 0] 94)) (.slice kx ks.length kc) ks :=
    Kid.keep2 hkd (fun k hk => by have := hk.2; rw [Below.heap_alloc _ _ _ (by simp; omega), Below.heap_alloc _ _ _ (by omega)]) (fun k hk => ⟨by have := hk.1; simpa using this, by have := hk.2; omega⟩)
  have HKD := mkHid hkd'
  have HC0 := mkHid (function_any ks [109, 97, 105, 110] _ _ _ (by omega) d0 hkd')
  clear hb1 HP hrd hkd hkd'
  go_wp2_with fail
  refine HC0.out.mono ?_
  rintro e w2 ⟨hw2, fp, rfl, hfp⟩
  have hW2 := hw2
  have hbel0 : Below w.heap.size w w2 := by
    rw [hW2]
    exact ((((Below.refl _ _).alloc (Nat.le_refl _) _).trans (HB1.out.mono (by simp))).alloc (by omega) _).alloc (by simp; omega) _
  have hck0 : CkAt (w1.heap.size + 1) (w.heap.size + 1) ks (.slice kx ks.length kc) false w2 ⟨[], 0, 0⟩ := by
    refine ⟨⟨.slice none 0 0, ?_, World.ownsRow_nil _ _ _ _⟩, ?_⟩
    · rw [hW2]; exact heap_first _ _ (by simp) _
    · rw [hW2]
      rcases HKD.out with h | ⟨g, cap, cur, vs, k1, k2, k3, k4, k5, k6⟩
      · exact Or.inl h
      · exact Or.inr ⟨g, cap, cur, vs, k1, k2, k3, k4, k5, k6.mono fun _ _ h => ⟨d0, h⟩⟩
  have HKD2 : Hid (KidD (RepD d0 (Btw (w.heap.size + 1) (w1.heap.size + 1)) w2) (Btw (w.heap.size + 1) (w1.heap.size + 1)) w2 (.slice kx ks.length kc) ks) := by rw [hW2]; exact HKD.out
  have hz2 : w2.heap.size = w1.heap.size + 2 := by rw [hW2]; simp
  have x3 : w2.cell? ⟨b, 3, none⟩ = some (.slice kx ks.length kc) := by
    rw [hW2, cell_keep (Below.heap_alloc _ _ _ (by simp; omega)), cell_keep (Below.heap_alloc _ _ _ (by omega))]; exact n3'
  have hres : w2.heap[w.heap.size]? = some (.cells #[.int .i64 0, .int .i64 0] 27 (0, 0)) := by
    rw [hW2, Below.heap_alloc _ _ _ (by simp; omega), Below.heap_alloc _ _ _ (by omega), HB1.out.block _ (by simp)]
    exact heap_first _ _ rfl _
  have y0 : w2.cell? ⟨w.heap.size, 0, none⟩ = some (.int .i64 0) := cell_of_block hres rfl
  have y1 : w2.cell? ⟨w.heap.size, 1, none⟩ = some (.int .i64 0) := cell_of_block hres rfl
  have fy : ∀ o, w2.frozen? ⟨w.heap.size, o, none⟩ = false := fun o => frozen_of_block hres
  have fy0 := fy 0
  have fy1 := fy 1
  rw [← hW2] at hfp
  have hbl2 : b < w2.heap.size := by omega
  have hzw : w.heap.size < w2.heap.size := by omega
  have HRD2 : Hid (RepD (d0 + 1) (Btw (w.heap.size + 1) w1.heap.size) w2 (.pointer (some ⟨b, 0, none⟩)) (Hs.node [112, 114, 111, 103, 114, 97, 109] 0 [] ks)) := by
    refine RepD.mono (F := Btw (w.alloc (.cells #[.int .i64 0, .int .i64 0] 27)).heap.size w1.heap.size) (fun k hk => ⟨by have := hk.1; simpa using this, hk.2⟩) (RepD.keep (fun k hk => ?_) HRD.out) (Nat.le_refl _)
    have := hk.2
    rw [hW2, Below.heap_alloc _ _ _ (by simp; omega), Below.heap_alloc _ _ _ (by omega)]
  have HBEL := mkHid hbel0
  have HCK := mkHid hck0
  have HRES := mkHid hres
  clear hw2 hbel0 hck0 hres HRD HKD HC0 fy n0 n1 n2 n3' hc hf HB1
  generalize hcb : w1.heap.size + 1 = cb at *
  cases hfu : Hs.funcL ks [109, 97, 105, 110] with
  | none =>
    rw [hfu] at hfp
    obtain rfl : fp = .pointer none := hfp
    have HN : Hid (Hs.readL s.data.toList = (5, 0)) := by show _ = _; rw [HR.out]; unfold Hs.namesL; rw [hfu]
    clear hW2
    go_wp2_with fail
    refine bodyPost_ret (v := .tuple #[.pointer none, .agg #[.int .i64 5, .int .i64 0]]) (by simp [results, Tryz.results16, go_sem, y0, y1]) rfl ?_
    unfold readPost
    rw [HN.out]
    exact ⟨(HBEL.out.setCell (by simp) _).setCell (by simp) _, by rw [if_neg (by simp)]; rfl⟩
  | some m =>
    rw [hfu] at hfp
    obtain ⟨d1, mb, mkv, rfl, rfl, hmF, hml, m0, m1, m2, m3, hmk⟩ := hfp.cells
    obtain ⟨mkx, mkc, rfl⟩ := hmk.slice
    have hmem : m ∈ ks := List.mem_of_find?_eq_some hfu
    have hmkl : m.kids.length ≤ 2001 := FineA.len (FineL.mem HFI.out hmem)
    clear hW2 hfp hmk
    by_cases hmk1 : 1 < m.kids.length
    · have HN : Hid (Hs.readL s.data.toList = (5, 0)) := by show _ = _; rw [HR.out]; unfold Hs.namesL; rw [hfu]; simp [hmk1]
      go_wp2_with fail
      refine bodyPost_ret (v := .tuple #[.pointer none, .agg #[.int .i64 5, .int .i64 0]]) (by simp [results, Tryz.results16, go_sem, y0, y1]) rfl ?_
      unfold readPost
      rw [HN.out]
      exact ⟨(HBEL.out.setCell (by simp) _).setCell (by simp) _, by rw [if_neg (by simp)]; rfl⟩
    · have HN : Hid (Hs.readL s.data.toList = ((Hs.allL ks d1 [] ks ⟨[], 0, 0⟩).kind, (Hs.allL ks d1 [] ks ⟨[], 0, 0⟩).line)) := by
        show _ = _
        rw [HR.out]; unfold Hs.namesL; rw [hfu]
        simp only [hmk1, if_false]
        rw [allL_deep ks d1 2001 ks [] ⟨[], 0, 0⟩ fun n hn => ⟨?_, Hs.dp_of_fine _ _ (Hs.FineA.le (FineL.mem HFI.out hn) (by omega))⟩]
        exact (RepD.dp HRD2.out) n hn
      clear hmem m0 m1 m2
      go_wp2_with fail
      go_loopg [8, 9] ks.length (fun gk i er wr => ∃ k : Nat, k + gk = ks.length ∧ i = .int .i64 k ∧ Below cb w2 wr ∧ CkAt cb (w.heap.size + 1) ks (.slice kx ks.length kc) false wr (Hs.allL ks d1 [] (ks.take k) ⟨[], 0, 0⟩))
      case atStart => exact ⟨0, by omega, rfl, Below.refl _ _, HCK.out⟩
      case round =>
        obtain ⟨k, hkg, rfl, hbw, hck⟩ := hrel
        have hbb : wr.heap[b]? = w2.heap[b]? := hbw.block b (by omega)
        have q3 : wr.cell? ⟨b, 3, none⟩ = some (.slice kx ks.length kc) := (cell_keep hbb).trans x3
        have hblr : b < wr.heap.size := Nat.lt_of_lt_of_le hbl2 hbw.size
        clear hbb x3 m3
        by_cases hlt : k < ks.length
        · obtain ⟨j, rfl⟩ : ∃ j, gk = j + 1 := ⟨gk - 1, by omega⟩
          rcases HKD2.out.get with ⟨_, h0⟩ | ⟨g, cap, hkv, hgF, hgl, hcap, hget⟩
          · rw [h0] at hlt; simp at hlt
          obtain ⟨u, hu, hru⟩ := hget k hlt
          cases hkv
          have hgb : wr.heap[g]? = w2.heap[g]? := hbw.block g hgF.2
          have r0 : wr.cell? ⟨g, k, none⟩ = some u := (cell_keep hgb).trans hu
          have hgr : g < wr.heap.size := Nat.lt_of_lt_of_le hgl hbw.size
          have hruw := hru.keep (w' := wr) fun k hk => hbw.block k hk.2
          obtain ⟨d2, ub, ukv, hd2, rfl, huF, hul, u0, u1, u2, u3, -⟩ := hruw.cells
          have hfine := FineL.mem HFI.out (List.getElem_mem hlt)
          have hstep : Hs.allL ks d1 [] (ks.take (k + 1)) ⟨[], 0, 0⟩ = Hs.doesL ks d1 (Hs.allL ks d1 [] (ks.take k) ⟨[], 0, 0⟩) ks[k] (Hs.funcL (ks.take k) ks[k].text).isNone := by
            rw [List.take_succ_eq_append_getElem hlt, allL_snoc]; rfl
          have hlk : (ks.take k).length = k := by rw [List.length_take]; omega
          have hfn := function_some (ks.take k) ks[k].text g kc (Btw (w.heap.size + 1) cb) wr.drew (by omega) hgr (d1 + 1) (fun i hi => by
            obtain ⟨v, h1, h2⟩ := hget i (by omega)
            refine ⟨v, (cell_keep (hbw.block g hgF.2)).trans h1, ?_⟩
            rw [List.getElem_take]
            exact (h2.keep (w' := wr) fun k hk => hbw.block k hk.2).keepw rfl)
          rw [hlk] at hfn
          have HFN := mkHid hfn
          have HD := mkHid (fun first => does_any cb (w.heap.size + 1) ks _ (by omega) (fun f hf => Nat.le_trans (FineA.len (FineL.mem HFI.out hf)) (by omega)) d1 _ ks[k] _ wr.drew first (hck.keepw rfl) (hruw.keepw rfl) (hfine (d1 + 1 + 0)).2 (by have := (hfine (d1 + 1)).1; omega))
          have HST := mkHid hstep
          have HBW := mkHid hbw
          have hkc : k ≤ kc := by omega
          clear hstep hfn hbw hck hru hruw hget hgb hu hfine
          go_wp2_with fail
          go_cut [9] (fun er wc => wc = wr.drew ∧ fnOf (d1 + 1) (Btw (w.heap.size + 1) cb) wr.drew (Hs.funcL (ks.take k) ks[k].text) er)
          case first =>
            go_region_law (go_simp; go_at_call 46; refine HFN.out.mono ?_; rintro e w3 ⟨hw3, er, rfl, her⟩; obtain rfl := hw3.symm)
            all_goals
              go_wp2_with fail
              go_meet
              case rel => exact ⟨rfl, her⟩
          case rest =>
            obtain ⟨rfl, her⟩ := hcut
            clear HFN
            cases hfk2 : Hs.funcL (ks.take k) ks[k].text with
            | none =>
              rw [hfk2] at her HST
              obtain rfl : u9 = .pointer none := her
              go_wp2_with fail
              refine (HD.out true).mono ?_
              rintro e w4 ⟨rfl, hb4, hc4⟩
              go_wp2_with fail
              go_roundg j
              case measure => omega
              case rel => exact ⟨k + 1, by omega, by go_num, HBW.out.trans ((Below.refl _ _).drew.trans hb4), by rw [HST.out]; exact hc4⟩
            | some f =>
              rw [hfk2] at her HST
              obtain ⟨d3, fb, fkv, -, rfl, -⟩ := RepD.cells her
              go_wp2_with fail
              refine (HD.out false).mono ?_
              rintro e w4 ⟨rfl, hb4, hc4⟩
              go_wp2_with fail
              go_roundg j
              case measure => omega
              case rel => exact ⟨k + 1, by omega, by go_num, HBW.out.trans ((Below.refl _ _).drew.trans hb4), by rw [HST.out]; exact hc4⟩
        · obtain rfl : k = ks.length := by omega
          rw [List.take_length] at hck
          obtain ⟨sv1, hblk1, -⟩ := hck.blk
          obtain ⟨hlt1, -, -, -, c3, c4, -⟩ := ck_cells hblk1
          have hres1 : wr.heap[w.heap.size]? = _ := (hbw.block w.heap.size (by omega)).trans HRES.out
          have z0 : wr.cell? ⟨w.heap.size, 0, none⟩ = some (.int .i64 0) := cell_of_block hres1 rfl
          have z1 : wr.cell? ⟨w.heap.size, 1, none⟩ = some (.int .i64 0) := cell_of_block hres1 rfl
          have fz0 : wr.frozen? ⟨w.heap.size, 0, none⟩ = false := frozen_of_block hres1
          have fz1 : wr.frozen? ⟨w.heap.size, 1, none⟩ = false := frozen_of_block hres1
          have hzr : w.heap.size < wr.heap.size := Nat.lt_of_lt_of_le hzw hbw.size
          have HBW := mkHid (HBEL.out.trans (hbw.mono (by omega)))
          have HRD3 := mkHid (HRD2.out.keep (w' := wr) fun k hk => hbw.block k (by have := hk.2; omega))
          clear hblk1 hck hbw hres1 y0 y1 fy0 fy1
          generalize Hs.allL ks d1 [] ks ⟨[], 0, 0⟩ = s1 at *
          by_cases hk0 : s1.kind = 0
          · have e0 : ((s1.kind : Int) != 0) = false := by simp; omega
            go_wp2_with fail
            refine bodyPost_ret (v := .tuple #[.pointer (some ⟨b, 0, none⟩), .agg #[.int .i64 0, .int .i64 0]]) (by simp [results, Tryz.results16, go_sem, z0, z1]) rfl ?_
            unfold readPost
            rw [HN.out, if_pos (by exact hk0)]
            refine ⟨(HBW.out.setCell (by simp) _).setCell (by simp) _, b, ks, rfl, HPP.out, d1 + 1 + 1, RepD.mono (F := Btw (w.heap.size + 1) w1.heap.size) (fun k hk => ⟨by have := hk.1; omega, ?_⟩) (RepD.keep (fun k hk => ?_) HRD3.out) (Nat.le_refl _)⟩
            rotate_left
            · have h1 := hk.2
              simp; omega
            · have h1 := hk.1
              rw [Below.heap_setCell _ _ _ _ (by show k ≠ w.heap.size; omega), Below.heap_setCell _ _ _ _ (by show k ≠ w.heap.size; omega)]
          · have e0 : ((s1.kind : Int) != 0) = true := by simp; omega
            go_wp2_with fail
            go_region
            go_wp2_with fail
            refine bodyPost_ret (v := .tuple #[.pointer none, .agg #[.int .i64 s1.kind, .int .i64 s1.line]]) (by simp [results, Tryz.results16, go_sem, z0, z1]) rfl ?_
            unfold readPost
            rw [HN.out, if_neg (by exact hk0)]
            exact ⟨((HBW.out.setCell (by simp) _).setCell (by simp) _).drew, rfl⟩

/-- What is wrong with a source, by the document's answer. -/
theorem read_any (s : ByteArray) (w : World) (hg : RefTabs w) (hm : s.size ≤ maxLen) :
    Calls Tryz.prog 16 #[.string s] w (readPost w s.data.toList) := by
  cases hp : Hs.parsedL s.data.toList with
  | error f => exact read_err s w hg hm f.1 f.2 hp
  | ok ks => exact read_ok s w hg hm ks hp

end Go.Proofs.YtblbkfdhjfppkaaGreatDoor
