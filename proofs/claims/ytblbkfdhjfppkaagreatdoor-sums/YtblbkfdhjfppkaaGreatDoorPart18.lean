/- Contracts of the program: a function is compiled. -/
import Derived.Test.YtblbkfdhjfppkaaGreatDoorPart17
import Derived.Test.YtblbkfdhjfppkaaGreatDoorPart07
import Derived.Test.YtblbkfdhjfppkaaGreatDoorPart09
import Derived.Test.YtblbkfdhjfppkaaGreatDoorPart15
import Derived.KernelRfl
import Derived.Test.YtblbkfdhjfppkaaGreatDoorShelfD
import Derived.Test.YtblbkfdhjfppkaaGreatDoorPart14
import Derived.Deep.RegionHeld
namespace Go.Proofs.YtblbkfdhjfppkaaGreatDoor
open Go.RowKit
section
variable {fp : Nat → Value} {fb : Nat → Nat} {fs : List Hs.Ast} {cb lo d : Nat} {F : Nat → Prop}
def CQ (fp : Nat → Value) (fb : Nat → Nat) (nms : List (List UInt8)) (cb : Nat) (F : Nat → Prop) (w : World) : Prop :=
  (∃ fv cv sp, w.heap[cb]? = some (.cells #[fv, cv, sp] 276 (0, 0)) ∧ FunsR fp fb nms F w fv) ∧ ∀ k, F k → k < w.heap.size ∧ k ≠ cb
theorem fnC_parts (fs : List Hs.Ast) (d : Nat) {f b : Hs.Ast} {ps : List Hs.Ast} (hk : f.kids = ps ++ [b]) : (Hs.fnC fs d f).code = Hs.stsC (Hs.stC fs d) (ps.map (·.text)).reverse b.kids 0 ++ [.push (Hs.vnum 0), .give] := by simp [Hs.fnC, hk]
end
end Go.Proofs.YtblbkfdhjfppkaaGreatDoor

/- Contracts of the program: a program is compiled. -/
namespace Go.Proofs.YtblbkfdhjfppkaaGreatDoor
open Go.RowKit
def NotFn (w : World) (b : Nat) : Prop := ∀ c, w.heap[b]? ≠ some (.cells c 250 (0, 0))
theorem SeenR.notFn {F : Nat → Prop} {w : World} : ∀ {l : List (List UInt8)} {v : Value}, SeenR F w v l → SeenR (fun b => F b ∧ NotFn w b) w v l
  | [], _, h => h
  | _ :: _, _, ⟨b, o, h1, h2, h3, h4⟩ => ⟨b, o, h1, ⟨h2, fun c e => by rw [h3] at e; cases e⟩, h3, SeenR.notFn h4⟩
theorem VR.notFn {F : Nat → Prop} {w : World} : ∀ {d : Nat} {v : Value} {a : Hs.Val}, VR d F w v a → VR d (fun b => F b ∧ NotFn w b) w v a
  | 0, _, _, h => h.elim
  | d + 1, v, a, h => by
    rcases h with h | h | h | ⟨sv, l, h1, h2, h3⟩
    · exact Or.inl h
    · exact Or.inr (Or.inl h)
    · exact Or.inr (Or.inr (Or.inl h))
    · refine Or.inr (Or.inr (Or.inr ⟨sv, l, h1, h2, ?_⟩))
      rcases h3 with h3 | ⟨g, cap, cur, e1, e2, e3, e4, e5⟩
      · exact Or.inl h3
      · refine Or.inr ⟨g, cap, cur, e1, ⟨e2, fun c e => by rw [e3] at e; cases e⟩, e3, e4, fun i hi => ?_⟩
        obtain ⟨u, k1, k2⟩ := e5 i hi
        exact ⟨u, k1, VR.notFn k2⟩
theorem InsR.notFn {fp : Nat → Value} {F : Nat → Prop} {w : World} {v : Value} {i : Hs.Ins} (h : InsR fp F w v i) : InsR fp (fun b => F b ∧ NotFn w b) w v i := by
  cases i <;> first
    | exact h
    | (obtain ⟨sp, h1, h2⟩ := h; exact ⟨sp, h1, h2.notFn⟩)
    | (obtain ⟨u, h1, ⟨d, h2⟩, h3⟩ := h; exact ⟨u, h1, ⟨d, h2.notFn⟩, h3⟩)
theorem InsR.setFn {fp : Nat → Value} {F G : Nat → Prop} {w : World} {v u : Value} {i : Hs.Ins} {b o : Nat} {c : Array Value} (h : InsR fp F w v i) (hb : w.heap[b]? = some (.cells c 250 (0, 0))) (hF : ∀ b, F b → G b) : InsR fp G (w.setCell ⟨b, o, none⟩ u) v i :=
  h.notFn.keep (fun k hk => Below.heap_setCell _ _ _ _ fun e => hk.2 c (by rw [e]; exact hb)) fun k hk => hF k hk.1
section
variable {fp : Nat → Value} {fb : Nat → Nat} {nms : List (List UInt8)} {cb : Nat} {F : Nat → Prop} {w : World}
set_option maxRecDepth 100000 in
set_option maxHeartbeats 1000000 in
theorem cfunction_cq (name : List UInt8) (h : CQ fp fb nms cb F w) (hm : name ∈ nms) (hn : nms.length ≤ 1000000) :
    Calls Tryz.prog 174 #[.pointer (some ⟨cb, 0, none⟩), .string (bs name)] w fun e w' => e = .returned (fp (nms.findIdx fun x => x == name)) ∧ w' = w := by
  obtain ⟨⟨fv, cv, sp, h1, h5⟩, _⟩ := h
  rcases h5 with ⟨rfl, _⟩ | ⟨g, cap, rfl, hFg, hcap, hgl, hall⟩
  · cases hm
  have hl := lt_of_block h1
  have c0 : w.cell? ⟨cb, 0, none⟩ = some (.slice (some ⟨g, 0, none⟩) nms.length cap) := cell_of_block h1 rfl
  have HA := mkHid hall
  clear h1 hall
  go_enter Tryz.func174, Tryz.ntmps174
  go_wp2_with fail
  go_loopg [6, 12] nms.length (fun gk _ i wr => ∃ j : Nat, j + gk = nms.length ∧ i = .int .i64 j ∧ j ≤ nms.findIdx (fun x => x == name) ∧ wr = w)
  case atStart => exact ⟨0, by omega, rfl, Nat.zero_le _, rfl⟩
  case round =>
    obtain ⟨j, hj, rfl, hle, rfl⟩ := hrel
    have hfi : nms.findIdx (fun x => x == name) < nms.length := List.findIdx_lt_length_of_exists ⟨name, hm, by simp⟩
    have hlt : j < nms.length := by omega
    obtain ⟨m, rfl⟩ : ∃ m, gk = m + 1 := ⟨gk - 1, by omega⟩
    obtain ⟨e1, e2, e3, x, e4⟩ := HA.out j hlt
    rw [e2] at e1
    have d0 : wr.cell? ⟨fb j, 0, none⟩ = some (.string (bs nms[j])) := cell_of_block e4 rfl
    have hbl := lt_of_block e4
    have i1 : (0 : Int) ≤ (j : Int) := by omega
    have i2 : (j : Int) < (nms.length : Int) := by omega
    by_cases hx : nms[j] = name
    · have hje : nms.findIdx (fun x => x == name) = j := by
        refine Nat.le_antisymm (Nat.not_lt.1 fun hlt' => ?_) hle
        have := List.not_of_lt_findIdx hlt'
        simp [hx] at this
      have E2 := mkHid e2
      rw [hx] at d0
      clear e4 e2 HA
      go_wp2_with fail
      go_ret
      exact ⟨by rw [hje, E2.out]; rfl, rfl⟩
    · have hne : ((bs nms[j]).toList == (bs name).toList) = false := by rw [bs_toList, bs_toList]; simpa using hx
      have hle' : j + 1 ≤ nms.findIdx (fun x => x == name) := by
        rcases Nat.eq_or_lt_of_le hle with e | e
        · have := List.findIdx_getElem (w := hfi)
          simp only [← e] at this
          simp at this
          exact absurd this hx
        · exact e
      generalize nms[j] = y at *
      clear e4 e2
      go_wp2_with fail
      go_roundg m
      case measure => omega
      case rel => exact ⟨j + 1, by omega, by go_num, hle', rfl⟩
end
def fbOf (bl : List Nat) (k : Nat) : Nat := bl[k]?.getD 0
def fpOf (bl : List Nat) (k : Nat) : Value := .pointer (some ⟨fbOf bl k, 0, none⟩)
theorem fbOf_get {bl : List Nat} {k : Nat} (h : k < bl.length) : fbOf bl k = bl[k] := by simp [fbOf, h]
def CI1 (w : World) (fs : List Hs.Ast) (j : Nat) (W : World) : Prop :=
  ∃ (x : Option Addr) (c : Nat) (bl : List Nat), j ≤ fs.length ∧ W.heap[w.heap.size]? = some (.cells #[.slice x j c, .slice none 0 0, .pointer none] 276 (0, 0)) ∧ bl.length = j ∧ W.ownsRow (w.heap.size + 1) 188 1 (.slice x j c) j (bl.map fun b => .pointer (some ⟨b, 0, none⟩)) ∧ bl.Nodup ∧
    (∀ i (h : i < fs.length), ∀ b, bl[i]? = some b → W.heap[b]? = some (.cells #[.string (bs fs[i].text), .slice none 0 0] 250 (0, 0)) ∧ w.heap.size < b ∧ b < W.heap.size ∧ (Value.slice x j c).ownBlock ≠ some b) ∧ Below w.heap.size w W
def CI2 (w : World) (fs : List Hs.Ast) (d j : Nat) (W : World) : Prop :=
  ∃ (bl : List Nat) (F : Nat → Prop), bl.length = fs.length ∧ (bl.Nodup ∧ ∀ b ∈ bl, w.heap.size < b) ∧ j ≤ fs.length ∧ CQ (fpOf bl) (fbOf bl) (fs.map (·.text)) w.heap.size F W ∧ Below w.heap.size w W ∧ ∀ i (h : i < fs.length), i < j → FnR (fpOf bl) F W (fpOf bl i) (Hs.fnC fs d fs[i])
theorem CI1.zero (w : World) (fs : List Hs.Ast) : CI1 w fs 0 (w.alloc (.cells #[.slice none 0 0, .slice none 0 0, .pointer none] 276)) :=
  ⟨none, 0, [], Nat.zero_le _, heap_first _ _ rfl _, rfl, World.ownsRow_nil _ _ _ _, List.nodup_nil, fun i h b hb => by simp at hb, (Below.refl _ _).alloc (Nat.le_refl _) _⟩
theorem CI1.next {w W W3 w4 : World} {fs : List Hs.Ast} {j g4 cap4 : Nat} {x : Option Addr} {c : Nat} {bl : List Nat} {o1 o3 : Obj} (hj : j < fs.length)
    (hbl : bl.length = j) (hnd : bl.Nodup) (hall : ∀ i (h : i < fs.length), ∀ b, bl[i]? = some b → W.heap[b]? = some (.cells #[.string (bs fs[i].text), .slice none 0 0] 250 (0, 0)) ∧ w.heap.size < b ∧ b < W.heap.size ∧ (Value.slice x j c).ownBlock ≠ some b) (hbel : Below w.heap.size w W) (hlt : w.heap.size < W.heap.size)
    (hown : W.ownsRow (w.heap.size + 1) 188 1 (.slice x j c) j (bl.map fun b => .pointer (some ⟨b, 0, none⟩)))
    (h3 : W3 = ((W.alloc o1).alloc (.cells #[.string (bs fs[j].text), .slice none 0 0] 250)).alloc o3)
    (ho : w4.ownsRow (w.heap.size + 1) 188 1 (.slice (some ⟨g4, 0, none⟩) (j + 1) cap4) (j + 1) ((bl.map fun b => .pointer (some ⟨b, 0, none⟩)) ++ [.pointer (some ⟨W.heap.size + 1, 0, none⟩)]))
    (hgr : W3.grownBy w4 (Value.slice x j c).ownBlock) (hat : (Value.slice x j c).ownBlock = some g4 ∨ g4 = W.heap.size + 3)
    (hb4 : w4.heap[w.heap.size]? = some (.cells #[.slice x j c, .slice none 0 0, .pointer none] 276 (0, 0))) :
    CI1 w fs (j + 1) (w4.setCell ⟨w.heap.size, 0, none⟩ (.slice (some ⟨g4, 0, none⟩) (j + 1) cap4)) := by
  have hs3 : W3.heap.size = W.heap.size + 3 := by rw [h3]; simp
  have hsz := hgr.size
  have hgne : g4 ≠ w.heap.size := by have := (ho.lt g4 rfl).1; omega
  have hb3 : Below W.heap.size W W3 := by rw [h3]; exact (((Below.refl _ _).alloc (Nat.le_refl _) _).alloc (by simp) _).alloc (by simp; omega) _
  refine ⟨some ⟨g4, 0, none⟩, cap4, bl ++ [W.heap.size + 1], hj, ?_, by simp [hbl], ?_, ?_, fun i hi b hb => ?_, ?_⟩
  · rw [heap_setCell_at hb4]; rfl
  · rw [List.map_append]
    exact ownsRow_keep ho fun k hk => Below.heap_setCell _ _ _ _ (by cases hk; exact hgne)
  · refine List.nodup_append.2 ⟨hnd, by simp, fun a ha b hb => ?_⟩
    simp at hb
    obtain ⟨i, hi, rfl⟩ := List.getElem_of_mem ha
    have := (hall i (by omega) _ (List.getElem?_eq_getElem hi)).2.2.1
    omega
  · rcases Nat.lt_or_ge i bl.length with hib | hib
    · rw [List.getElem?_append_left hib] at hb
      obtain ⟨e1, e2, e3, e4⟩ := hall i hi b hb
      refine ⟨?_, e2, by simp; omega, fun e => ?_⟩
      · rw [Below.heap_setCell _ _ _ _ (show b ≠ w.heap.size by omega), hgr.block b (by omega) (fun e => e4 e.symm), hb3.block b e3]; exact e1
      · have e' : g4 = b := by simpa [Value.ownBlock] using e
        rcases hat with h | h
        · exact e4 (by rw [← e']; exact h)
        · omega
    · rw [List.getElem?_append_right hib] at hb
      have hij : i = j := by
        rcases Nat.eq_or_lt_of_le hib with h | h
        · omega
        · rw [List.getElem?_eq_none (by simp; omega)] at hb; cases hb
      subst hij
      rw [hbl, Nat.sub_self] at hb
      simp at hb
      subst hb
      have hown' : (Value.slice x i c).ownBlock ≠ some (W.heap.size + 1) := fun e => by have := (hown.lt _ e).2; omega
      refine ⟨?_, by omega, by simp; omega, fun e => ?_⟩
      · rw [Below.heap_setCell _ _ _ _ (show W.heap.size + 1 ≠ w.heap.size by omega), hgr.block _ (by omega) (fun e => hown' e.symm), h3, Below.heap_alloc _ _ _ (by simp)]
        exact heap_first _ _ (by simp) _
      · have e' : g4 = W.heap.size + 1 := by simpa [Value.ownBlock] using e
        rcases hat with h | h
        · exact hown' (by rw [← e']; exact h)
        · omega
  · refine ((hbel.trans (hb3.mono (by omega))).trans ?_).setCell (Nat.le_refl _) _
    exact ⟨hgr.os, hgr.tape, hgr.output, by omega, fun k hk => hgr.block k (by omega) (fun e => by have := (hown.lt k e.symm).1; omega)⟩
theorem nms_get (fs : List Hs.Ast) (k : Nat) (h : k < (fs.map (·.text)).length) : (fs.map (·.text))[k] = (fs[k]'(by simpa using h)).text := by simp
theorem add_off (g j : Nat) : (⟨g, 0, none⟩ : Addr).add j = ⟨g, j, none⟩ := by unfold Addr.add; split <;> simp_all
theorem CI2.zero {w W : World} {fs : List Hs.Ast} {d : Nat} (hne : fs ≠ []) (h : CI1 w fs fs.length W) : CI2 w fs d 0 W := by
  obtain ⟨x, c, bl, _, h1, h2, h3, h4, h5, h6⟩ := h
  have hpos : 0 < fs.length := List.length_pos_iff.2 hne
  have hrow := h3
  rcases h3.2 with ⟨r1, r2⟩ | ⟨g, cap, cur, r1, r2, r3, r4, r5⟩
  · omega
  obtain ⟨rfl, rfl⟩ : x = some ⟨g, 0, none⟩ ∧ c = cap := by simpa using r1
  have hgl := hrow.lt g rfl
  refine ⟨bl, fun k => k = g ∨ k ∈ bl, h2, ⟨h4, fun b hb => ?_⟩, Nat.zero_le _, ⟨⟨_, _, _, h1, Or.inr ⟨g, c, by simp, Or.inl rfl, by simp; exact r4, hgl.2, fun k hk => ?_⟩⟩, fun k hk => ?_⟩, h6, fun i _ hi => by omega⟩
  · obtain ⟨i, hi, rfl⟩ := List.getElem_of_mem hb
    exact (h5 i (by omega) bl[i] (List.getElem?_eq_getElem hi)).2.1
  · have hk' : k < fs.length := by simpa using hk
    have hkb : k < bl.length := by omega
    obtain ⟨e1, e2, e3, e4⟩ := h5 k hk' bl[k] (List.getElem?_eq_getElem hkb)
    refine ⟨?_, rfl, Or.inr (by rw [fbOf_get hkb]; exact List.getElem_mem hkb), _, by rw [fbOf_get hkb, e1, nms_get]⟩
    have := hrow.cells (g := g) rfl k (fpOf bl k) (by simp [fpOf, fbOf_get hkb, hkb])
    rw [add_off] at this; exact this
  · rcases hk with rfl | hk
    · exact ⟨hgl.2, by omega⟩
    · obtain ⟨i, hi, rfl⟩ := List.getElem_of_mem hk
      obtain ⟨e1, e2, e3, e4⟩ := h5 i (by omega) bl[i] (List.getElem?_eq_getElem hi)
      exact ⟨e3, by omega⟩
theorem CI2.next {w W w1 : World} {fs : List Hs.Ast} {d j : Nat} {bl : List Nat} {F G : Nat → Prop} {sn : List (List UInt8)} {cv : Value} (hj : j < fs.length) (hbl : bl.length = fs.length) (hnd : bl.Nodup ∧ ∀ b ∈ bl, w.heap.size < b) (hbel : Below w.heap.size w W) (hold : ∀ i (h : i < fs.length), i < j → FnR (fpOf bl) F W (fpOf bl i) (Hs.fnC fs d fs[i]))
    (hFG : ∀ k, F k → G k) (hcp : CP (fpOf bl) (fbOf bl) (fs.map (·.text)) w.heap.size G w1 ((Hs.fnC fs d fs[j]).code.map some) sn) (hcv : w1.cell? ⟨w.heap.size, 1, none⟩ = some cv) (hb1 : Below w.heap.size W w1) (hF : ∀ k, F k → w1.heap[k]? = W.heap[k]?) (hpos : 0 < (Hs.fnC fs d fs[j]).code.length) :
    CI2 w fs d (j + 1) (w1.setCell ⟨fbOf bl j, 1, none⟩ cv) := by
  have hjb : j < bl.length := by omega
  obtain ⟨fv, cv', sp, h1, ⟨xs, h2, h3⟩, h4, h5⟩ := hcp.blk
  obtain rfl : cv' = cv := by
    have := cell_of_block h1 (i := 1) rfl
    rw [hcv] at this; exact (Option.some.inj this).symm
  have hjn : j < (fs.map (·.text)).length := by simpa using hj
  rcases h5 with ⟨e, _⟩ | ⟨g, cap, rfl, k1, k2, k3, k4⟩
  · rw [e] at hjn; simp at hjn
  obtain ⟨m1, m2, m3, x, m4⟩ := k4 j hjn
  have hfj := hcp.fix _ m3
  rcases h2.2 with ⟨_, r2⟩ | ⟨gc, cap', cur, rfl, r2, r3, r4, r5, r6, r7⟩
  · rw [List.length_map] at r2; omega
  have hgc : gc ≠ fbOf bl j := fun e => by rw [e, m4] at r3; cases r3
  have hgfb : ∀ k (h : k < (fs.map (·.text)).length), g ≠ fbOf bl k := fun k hk e => by
    obtain ⟨z1, z2, z3, z, z4⟩ := k4 k hk
    obtain ⟨y1, _⟩ := k4 0 (by omega)
    have := cell_of_block z4 (i := 0) rfl
    rw [← e, y1] at this
    cases this
  have hkp : ∀ k, k ≠ fbOf bl j → (w1.setCell ⟨fbOf bl j, 1, none⟩ (.slice (some ⟨gc, 0, none⟩) ((Hs.fnC fs d fs[j]).code.map some).length cap')).heap[k]? = w1.heap[k]? := fun k hk => Below.heap_setCell _ _ _ _ hk
  have hjs : (w1.setCell ⟨fbOf bl j, 1, none⟩ (.slice (some ⟨gc, 0, none⟩) ((Hs.fnC fs d fs[j]).code.map some).length cap')).heap[fbOf bl j]? = some (.cells #[.string (bs (fs.map (·.text))[j]), .slice (some ⟨gc, 0, none⟩) ((Hs.fnC fs d fs[j]).code.map some).length cap'] 250 (0, 0)) := by
    rw [heap_setCell_at m4]; rfl
  have hdist : ∀ i (hi : i < bl.length), i ≠ j → fbOf bl i ≠ fbOf bl j := fun i hi hij e => by
    rw [fbOf_get hi, fbOf_get hjb] at e
    exact hij ((List.getElem_inj hnd.1).1 e)
  refine ⟨bl, fun k => G k ∨ k = gc, hbl, hnd, hj, ⟨⟨_, _, _, by rw [hkp _ (fun e => hfj.2.1 e.symm)]; exact h1, Or.inr ⟨g, cap, rfl, Or.inl k1, k2, by simpa using k3, fun k hk => ?_⟩⟩, fun k hk => ?_⟩, ?_, fun i hi hij => ?_⟩
  · obtain ⟨z1, z2, z3, z, z4⟩ := k4 k hk
    refine ⟨?_, z2, Or.inl z3, ?_⟩
    · rw [World.cell?_of_block (hkp g (hgfb j hjn))]; exact z1
    · by_cases hkj : k = j
      · subst hkj; exact ⟨_, hjs⟩
      · exact ⟨z, by rw [hkp _ (hdist k (by simp at hk; omega) hkj)]; exact z4⟩
  · rcases hk with hk | rfl
    · have := hcp.fix k hk
      exact ⟨by simpa using this.1, this.2.1⟩
    · have := h2.lt k rfl
      exact ⟨by simpa using this.2, by omega⟩
  · exact (hbel.trans hb1).setCell (Nat.le_of_lt (by show w.heap.size < fbOf bl j; rw [fbOf_get hjb]; exact hnd.2 _ (List.getElem_mem hjb))) _
  · by_cases hij' : i = j
    · subst hij'
      refine ⟨fbOf bl i, gc, cap', cur, rfl, Or.inl m3, ?_, Or.inr rfl, by rw [hkp _ hgc]; exact r3, fun q hq => ?_⟩
      · rw [hjs, nms_get]; simp only [List.length_map]; rfl
      · obtain ⟨u, u1, u2⟩ := h3.2 q (some (Hs.fnC fs d fs[i]).code[q]) (by simp [hq])
        refine ⟨u, ?_, InsR.setFn u2 m4 fun _ h => Or.inl h⟩
        rw [← r7] at u1
        have hql : q < ((Hs.fnC fs d fs[i]).code.map some).length * 1 := by simpa using hq
        rw [List.getElem?_take_of_lt hql] at u1
        simpa using u1
    · obtain ⟨fb', gc', cap2, cur', a1, a2, a3, a4, a5, a6⟩ := hold i hi (by omega)
      obtain rfl : fb' = fbOf bl i := by simpa [fpOf] using a1.symm
      have b3 : w1.heap[fbOf bl i]? = _ := (hF _ a2).trans a3
      have b5 : w1.heap[gc']? = _ := (hF _ a4).trans a5
      refine ⟨fbOf bl i, gc', cap2, cur', rfl, Or.inl (hFG _ a2), by rw [hkp _ (hdist i (by omega) hij')]; exact b3, Or.inl (hFG _ a4), by rw [hkp _ (fun e => by rw [e, m4] at b5; cases b5)]; exact b5, fun q hq => ?_⟩
      obtain ⟨u, u1, u2⟩ := a6 q hq
      exact ⟨u, u1, InsR.setFn (u2.keep hF hFG) m4 fun _ h => Or.inl h⟩
end Go.Proofs.YtblbkfdhjfppkaaGreatDoor

/- Contracts of the program: a machine is started. -/
namespace Go.Proofs.YtblbkfdhjfppkaaGreatDoor
open Go.RowKit
set_option maxRecDepth 100000 in
set_option maxHeartbeats 2000000 in
theorem start_walk (w : World) (x0 : Option Addr) (n0 c0 : Nat) (x1 : Option Addr) (n1 c1 : Nat) (P : Value → World → Prop) (A : Value → World → Prop) (T : Value → Nat → Value → World → Prop) (B : Nat → World → Prop)
    (HC : Hid (Calls Tryz.prog 123 #[.slice x0 n0 c0] (w.alloc (.cells #[.int .i64 0, .slice none 0 0, .slice none 0 0, .slice none 0 0, .int .i64 0] 108)) fun e w' => ∃ p, e = .returned (.pointer p) ∧ A (.pointer p) w'))
    (HT : Hid (∀ p W, A (.pointer p) W → Calls Tryz.prog 124 #[.slice x1 n1 c1] (W.alloc (.cells #[.pointer p, .int .i64 0, .int .i64 0, .pointer none, .slice none 0 0, .slice none 0 0] 195)) fun e w' => ∃ x n c, e = .returned (.slice x n c) ∧ T (.pointer p) W.heap.size (.slice x n c) w'))
    (HG : Hid (∀ p gf x n c W, T (.pointer p) gf (.slice x n c) W → Calls Tryz.prog 125 #[.pointer (some ⟨W.heap.size, 0, none⟩)] (W.alloc (.cells #[.int .i64 0, .slice (some ⟨gf, 0, none⟩) 1 1, .slice x n c, .slice none 0 0, .int .i64 0] 108)) fun e w' => e = .returned (.tuple #[]) ∧ B W.heap.size w'))
    (HB : Hid (∀ b W, B b W → ∃ (q : Nat) (f t o : Value) (st : Nat), W.heap[b]? = some (.cells #[.int .i64 q, f, t, o, .int .i64 st] 108 (0, 0)) ∧ (∃ x l c, f = .slice x l c) ∧ (∃ x l c, t = .slice x l c) ∧ (∃ x l c, o = .slice x l c) ∧ W.heap[w.heap.size]? = some (.cells #[.int .i64 0, .slice none 0 0, .slice none 0 0, .slice none 0 0, .int .i64 0] 108 (0, 0)) ∧ b ≠ w.heap.size ∧
      ∀ W', Kept [w.heap.size] W W' → W'.heap.size = W.heap.size → P (.agg #[.int .i64 q, f, t, o, .int .i64 st]) W')) :
    Calls Tryz.prog 70 #[.slice x0 n0 c0, .slice x1 n1 c1] w fun e w' => ∃ v', e = .returned v' ∧ P v' w' := by
  go_enter Tryz.func70, Tryz.ntmps70
  go_wp2_with fail
  refine HC.out.mono ?_
  rintro e w1 ⟨p, rfl, h1⟩
  have HTT := mkHid (HT.out _ _ h1)
  generalize hgf : w1.heap.size = gf at HTT
  clear h1
  go_wp2_with fail
  refine HTT.out.mono ?_
  rintro e w2 ⟨x, n, c, rfl, h2⟩
  have HGG := mkHid (HG.out _ _ _ _ _ _ h2)
  generalize hb : w2.heap.size = b at HGG
  clear h2
  go_wp2_with fail
  refine HGG.out.mono ?_
  rintro e w4 ⟨rfl, h4⟩
  obtain ⟨q, f, t, o, st, q1, ⟨z1, r1, s1, rfl⟩, ⟨z2, r2, s2, rfl⟩, ⟨z3, r3, s3, rfl⟩, q2, q3, q4⟩ := HB.out _ _ h4
  have HQ := mkHid q4
  have hc0 : w4.cell? ⟨b, 0, none⟩ = some (.int .i64 q) := cell_of_block q1 rfl
  have hc1 : w4.cell? ⟨b, 1, none⟩ = some (.slice z1 r1 s1) := cell_of_block q1 rfl
  have hc2 : w4.cell? ⟨b, 2, none⟩ = some (.slice z2 r2 s2) := cell_of_block q1 rfl
  have hc3 : w4.cell? ⟨b, 3, none⟩ = some (.slice z3 r3 s3) := cell_of_block q1 rfl
  have hc4 : w4.cell? ⟨b, 4, none⟩ = some (.int .i64 st) := cell_of_block q1 rfl
  have hb0 : w4.cell? ⟨w.heap.size, 0, none⟩ = some (.int .i64 0) := cell_of_block q2 rfl
  have hb1 : w4.cell? ⟨w.heap.size, 1, none⟩ = some (.slice none 0 0) := cell_of_block q2 rfl
  have hb2 : w4.cell? ⟨w.heap.size, 2, none⟩ = some (.slice none 0 0) := cell_of_block q2 rfl
  have hb3 : w4.cell? ⟨w.heap.size, 3, none⟩ = some (.slice none 0 0) := cell_of_block q2 rfl
  have hb4 : w4.cell? ⟨w.heap.size, 4, none⟩ = some (.int .i64 0) := cell_of_block q2 rfl
  have hf0 := frozen_of_block (i := 0) q2
  have hf1 := frozen_of_block (i := 1) q2
  have hf2 := frozen_of_block (i := 2) q2
  have hf3 := frozen_of_block (i := 3) q2
  have hf4 := frozen_of_block (i := 4) q2
  have hl1 := lt_of_block q1
  have hl2 := lt_of_block q2
  clear h4 q4 q1 q2
  go_wp2_with fail
  refine ⟨rfl, .agg #[.int .i64 q, .slice z1 r1 s1, .slice z2 r2 s2, .slice z3 r3 s3, .int .i64 st], ?_, _, rfl, HQ.out _ ?_ (by simp)⟩
  · simp [results, Tryz.results70, go_sem, hb0, hb1, hb2, hb3, hb4]
  · exact (((((Kept.refl _ _).setCell _ _ (by simp)).setCell _ _ (by simp)).setCell _ _ (by simp)).setCell _ _ (by simp)).setCell _ _ (by simp)
def TapeI (w : World) (v : Value) (l : List Int) : Prop :=
  (l = [] ∧ v = .slice none 0 0) ∨ ∃ g o c, v = .slice (some ⟨g, o, none⟩) l.length c ∧ g < w.heap.size ∧ ∀ i (h : i < l.length), w.cell? ⟨g, o + i, none⟩ = some (.int .i64 l[i]) ∧ -9223372036854775808 ≤ l[i] ∧ l[i] ≤ 9223372036854775807
theorem tapeClone_any (w : World) (v : Value) (l : List Int) (h : TapeI w v l) (hl : l.length ≤ 1000000) : ∃ x n c, v = .slice x n c ∧ Calls Tryz.prog 124 #[.slice x n c] w fun e w' => ∃ x n c, e = .returned (.slice x n c) ∧ Below w.heap.size w w' ∧ TapeR (fun k => w.heap.size ≤ k ∧ k < w'.heap.size) w' (.slice x n c) l := by
  rcases h with ⟨rfl, rfl⟩ | ⟨g, o, c, rfl, hg, hc⟩
  · refine ⟨none, 0, 0, rfl, (cloneInts_nil w).mono ?_⟩
    rintro e w' ⟨rfl, rfl⟩
    exact ⟨_, _, _, rfl, Below.refl _ _, Or.inl ⟨rfl, none, 0, rfl⟩⟩
  · refine ⟨_, _, _, rfl, (cloneInts_any g o l.length c (l.map fun n => Value.int .i64 n) w (by simp) hl (fun j u hj => ?_) (fun u hu => ?_)).mono ?_⟩
    · rw [List.getElem?_map] at hj
      cases hl2 : l[j]? with
      | none => rw [hl2] at hj; cases hj
      | some n =>
        rw [hl2] at hj
        obtain ⟨hj2, rfl⟩ := List.getElem?_eq_some_iff.1 hl2
        rw [(hc j hj2).1]; exact hj
    · obtain ⟨n, _, rfl⟩ := List.mem_map.1 hu; rfl
    · rintro e w' ⟨v', rfl, hown, hb⟩
      obtain ⟨x, c', rfl⟩ := own_slice hown
      refine ⟨x, _, c', rfl, hb, ?_⟩
      rcases hown.2 with ⟨r1, r2⟩ | ⟨g2, cap, cur, r1, r2, r3, r4⟩
      · exact Or.inl ⟨List.length_eq_zero_iff.1 r2, x, c', by rw [r2]⟩
      · refine Or.inr ⟨g2, 0, cap, r1, r4.1, ⟨r2, lt_of_block r3⟩, fun i hi => ⟨?_, (hc i hi).2⟩⟩
        have := hown.cells (g := g2) (by rw [r1]; rfl) i (.int .i64 l[i]) (by simp [hi])
        rw [add_off] at this
        simpa using this
end Go.Proofs.YtblbkfdhjfppkaaGreatDoor

/- Contracts of the program: a machine is started (2). -/
namespace Go.Proofs.YtblbkfdhjfppkaaGreatDoor
open Go.RowKit
theorem FnR.ptr {fp : Nat → Value} {F : Nat → Prop} {w : World} {v : Value} {f : Hs.Fn} (h : FnR fp F w v f) : ∃ p, v = .pointer p := by
  obtain ⟨fb, _, _, _, h1, _⟩ := h
  exact ⟨_, h1⟩
theorem Kept.below {own : List Nat} {w w' : World} {n : Nat} (h : Kept own w w') (hn : n ≤ w.heap.size) (ho : ∀ k ∈ own, n ≤ k) : Below n w w' :=
  ⟨h.os, h.tape, h.output, h.size, fun k hk => h.block k (by omega) fun hm => by have := ho k hm; omega⟩
section
variable {fp : Nat → Value} {F : Nat → Prop} {w : World} {z : Nat} {c : Array Value} (hz : w.heap[z]? = some (.cells c 108 (0, 0)))
include hz
theorem SeenR.off : ∀ {l : List (List UInt8)} {v : Value}, SeenR F w v l → SeenR (fun b => F b ∧ b ≠ z) w v l
  | [], _, h => h
  | _ :: _, _, ⟨b, o, h1, h2, h3, h4⟩ => ⟨b, o, h1, ⟨h2, fun e => by rw [e, hz] at h3; cases h3⟩, h3, SeenR.off h4⟩
theorem VR.off : ∀ {d : Nat} {v : Value} {a : Hs.Val}, VR d F w v a → VR d (fun b => F b ∧ b ≠ z) w v a
  | 0, _, _, h => h.elim
  | d + 1, v, a, h => by
    rcases h with h | h | h | ⟨sv, l, h1, h2, h3⟩
    · exact Or.inl h
    · exact Or.inr (Or.inl h)
    · exact Or.inr (Or.inr (Or.inl h))
    · refine Or.inr (Or.inr (Or.inr ⟨sv, l, h1, h2, ?_⟩))
      rcases h3 with h3 | ⟨g, cap, cur, e1, e2, e3, e4, e5⟩
      · exact Or.inl h3
      · refine Or.inr ⟨g, cap, cur, e1, ⟨e2, fun e => by rw [e, hz] at e3; cases e3⟩, e3, e4, fun i hi => ?_⟩
        obtain ⟨u, k1, k2⟩ := e5 i hi
        exact ⟨u, k1, VR.off k2⟩
theorem InsR.off {v : Value} {i : Hs.Ins} (h : InsR fp F w v i) : InsR fp (fun b => F b ∧ b ≠ z) w v i := by
  cases i <;> first
    | exact h
    | (obtain ⟨sp, h1, h2⟩ := h; exact ⟨sp, h1, h2.off hz⟩)
    | (obtain ⟨u, h1, ⟨d, h2⟩, h3⟩ := h; exact ⟨u, h1, ⟨d, h2.off hz⟩, h3⟩)
theorem TabR.off {tab : List Hs.Fn} (h : TabR fp F w tab) : TabR fp (fun b => F b ∧ b ≠ z) w tab := fun k f hf => by
  obtain ⟨fb, gc, cap, cur, a1, a2, a3, a4, a5, a6⟩ := h k f hf
  refine ⟨fb, gc, cap, cur, a1, ⟨a2, fun e => by rw [e, hz] at a3; cases a3⟩, a3, ⟨a4, fun e => by rw [e, hz] at a5; cases a5⟩, a5, fun i hi => ?_⟩
  obtain ⟨u, u1, u2⟩ := a6 i hi
  exact ⟨u, u1, u2.off hz⟩
end
end Go.Proofs.YtblbkfdhjfppkaaGreatDoor

/- Contracts of the program: the store of states: where a key stands. -/
namespace Go.Proofs.YtblbkfdhjfppkaaGreatDoor
open Go.RowKit
def cmpI (x y : Int) : Int := if x < y then -1 else if x > y then 1 else 0
theorem cmpI_ne {x y : Int} (h : ¬ x = y) : ¬ cmpI x y = 0 := by
  unfold cmpI
  split
  · omega
  · split <;> omega
set_option maxRecDepth 100000 in
theorem isNaN_any (x : Int) (w : World) : Calls Tryz.prog 280 #[.int .i64 x] w fun e w' => e = .returned (.bool false) ∧ w' = w := by
  go_enter Tryz.func280, Tryz.ntmps280
  go_wp2_with fail
  go_ret
  exact ⟨by simp, rfl⟩
set_option maxRecDepth 100000 in
theorem compare_any (x y : Int) (w : World) : Calls Tryz.prog 225 #[.int .i64 x, .int .i64 y] w fun e w' => e = .returned (.int .i64 (cmpI x y)) ∧ w' = w := by
  go_enter Tryz.func225, Tryz.ntmps225
  go_wp2_with fail
  refine (isNaN_any x w).mono ?_
  rintro e w1 ⟨rfl, rfl⟩
  go_wp2_with fail
  refine (isNaN_any y w1).mono ?_
  rintro e w2 ⟨rfl, rfl⟩
  by_cases h1 : x < y
  · have hv : Hid (cmpI x y = -1) := by show _ = _; unfold cmpI; rw [if_pos h1]
    go_wp2_with fail
    go_ret
    exact ⟨by rw [hv.out]; rfl, rfl⟩
  · by_cases h2 : y < x
    · have hv : Hid (cmpI x y = 1) := by show _ = _; unfold cmpI; rw [if_neg h1, if_pos h2]
      go_wp2_with fail
      go_ret
      exact ⟨by rw [hv.out]; rfl, rfl⟩
    · have hv : Hid (cmpI x y = 0) := by show _ = _; unfold cmpI; rw [if_neg h1, if_neg h2]
      go_wp2_with fail
      go_ret
      exact ⟨by rw [hv.out]; rfl, rfl⟩
set_option maxRecDepth 100000 in
theorem find1_any (k key : Int) (a b c d e : Value) (w : World) (hb : ∃ x l c, b = .slice x l c) (hc : ∃ x l d, c = .slice x l d) (hd : ∃ x l c, d = .slice x l c) (ha : ∃ n, a = .int .i64 n) (he : ∃ n, e = .int .i64 n) :
    Calls Tryz.prog 224 #[.agg #[.int .i64 k, a, b, c, d, e], .int .i64 key] w fun en w' => en = .returned (.int .i64 (cmpI k key)) ∧ w' = w.alloc (.cells #[.int .i64 k, a, b, c, d, e] 265) := by
  obtain ⟨_, _, _, rfl⟩ := hb
  obtain ⟨_, _, _, rfl⟩ := hc
  obtain ⟨_, _, _, rfl⟩ := hd
  obtain ⟨_, rfl⟩ := ha
  obtain ⟨_, rfl⟩ := he
  go_enter Tryz.func224, Tryz.ntmps224
  go_wp2_with fail
  refine (compare_any k key _).mono ?_
  rintro e w1 ⟨rfl, rfl⟩
  go_wp2_with fail
  go_ret
  exact ⟨rfl, rfl⟩
theorem callF1 (a b : Value) (W : World) : (callFunc 224 #[a, b]).run Tryz.prog W = .ok (.enter 224 #[a, b]) W := by kernel_rfl
structure Ent where
  k : Int
  a : Int
  b : Value
  c : Value
  d : Value
  e : Int
def Ent.cells (x : Ent) : List Value := [.int .i64 x.k, .int .i64 x.a, x.b, x.c, x.d, .int .i64 x.e]
def flatE : List Ent → List Value
  | [] => []
  | x :: l => x.cells ++ flatE l
structure Ent.Ok (x : Ent) : Prop where
  b : ∃ y l c, x.b = .slice y l c
  c : ∃ y l c, x.c = .slice y l c
  d : ∃ y l c, x.d = .slice y l c
def EntsAt (w : World) (g : Nat) (es : List Ent) : Prop := ∀ i (h : i < es.length), es[i].Ok ∧ w.cell? ⟨g, i * 6, none⟩ = some (.int .i64 es[i].k) ∧ w.cell? ⟨g, i * 6 + 1, none⟩ = some (.int .i64 es[i].a) ∧ w.cell? ⟨g, i * 6 + 2, none⟩ = some es[i].b ∧ w.cell? ⟨g, i * 6 + 3, none⟩ = some es[i].c ∧ w.cell? ⟨g, i * 6 + 4, none⟩ = some es[i].d ∧ w.cell? ⟨g, i * 6 + 5, none⟩ = some (.int .i64 es[i].e)
structure Found (es : List Ent) (key : Int) (at_ : Nat) (found : Bool) : Prop where
  le : at_ ≤ es.length
  lo : ∀ i (h : i < es.length), i < at_ → es[i].k < key
  hi : ∀ i (h : i < es.length), at_ ≤ i → key ≤ es[i].k
  fnd : found = true ↔ ∃ h : at_ < es.length, es[at_].k = key
set_option maxRecDepth 100000 in
set_option maxHeartbeats 2000000 in
theorem search_any (g cap : Nat) (es : List Ent) (key : Int) (w : World) (hl : es.length ≤ 100000) (hg : g < w.heap.size) (he : EntsAt w g es) (hs : ∀ i j (hi : i < es.length) (hj : j < es.length), i ≤ j → es[i].k ≤ es[j].k) :
    Calls Tryz.prog 223 #[.slice (some ⟨g, 0, none⟩) es.length cap, .int .i64 key, .func (.func 224) #[] #[]] w fun e w' => ∃ at_ fd, e = .returned (.tuple #[.int .i64 (at_ : Nat), .bool fd]) ∧ Below w.heap.size w w' ∧ Found es key at_ fd := by
  have HE := mkHid he
  have HS := mkHid hs
  clear he hs
  have hcf := callF1
  go_enter Tryz.func223, Tryz.ntmps223
  go_wp2_with fail
  go_loopg [9, 10, 11] es.length (fun gk iv jv _ wr => ∃ i j : Nat, iv = .int .i64 i ∧ jv = .int .i64 j ∧ i ≤ j ∧ j ≤ es.length ∧ j - i ≤ gk ∧ Below w.heap.size w wr ∧ (∀ k (h : k < es.length), k < i → es[k].k < key) ∧ (∀ k (h : k < es.length), j ≤ k → key ≤ es[k].k))
  case atStart => exact ⟨0, es.length, rfl, rfl, by omega, by omega, by omega, Below.refl _ _, fun k h h' => by omega, fun k h h' => by omega⟩
  case round =>
    obtain ⟨i, j, rfl, rfl, hij, hj, hgk, hb, hlo, hhi⟩ := hrel
    by_cases hlt : i < j
    · have HH := mkHid (And.intro hlo hhi)
      have hm : (i + j) / 2 < es.length := by omega
      obtain ⟨o0, o1, o2, o3, o4, o5, o6⟩ := HE.out _ hm
      have cel : ∀ o u, w.cell? ⟨g, o, none⟩ = some u → wr.cell? ⟨g, o, none⟩ = some u := fun o u hu => by rw [hb.cell (p := ⟨g, o, none⟩) hg]; exact hu
      have o1 := cel _ _ o1
      have o2 := cel _ _ o2
      have o3 := cel _ _ o3
      have o4 := cel _ _ o4
      have o5 := cel _ _ o5
      have o6 := cel _ _ o6
      have hgr : g < wr.heap.size := Nat.lt_of_lt_of_le hg hb.size
      have HB := mkHid hb
      have HSM : Hid (∀ k (h : k < es.length), (k ≤ (i + j) / 2 → es[k].k ≤ es[(i + j) / 2].k) ∧ ((i + j) / 2 ≤ k → es[(i + j) / 2].k ≤ es[k].k)) := fun k h => ⟨fun h' => HS.out _ _ h hm h', fun h' => HS.out _ _ hm h h'⟩
      obtain ⟨y1, l1, d1, f1⟩ := o0.b
      obtain ⟨y2, l2, d2, f2⟩ := o0.c
      obtain ⟨y3, l3, d3, f3⟩ := o0.d
      rw [f1] at o3
      rw [f2] at o4
      rw [f3] at o5
      generalize es[(i + j) / 2].k = mk at *
      generalize es[(i + j) / 2].a = ma at *
      generalize es[(i + j) / 2].e = me at *
      clear hlo hhi hb f1 f2 f3 cel
      have HF := mkHid (find1_any mk key (.int .i64 ma) (.slice y1 l1 d1) (.slice y2 l2 d2) (.slice y3 l3 d3) (.int .i64 me) wr ⟨_, _, _, rfl⟩ ⟨_, _, _, rfl⟩ ⟨_, _, _, rfl⟩ ⟨_, rfl⟩ ⟨_, rfl⟩)
      go_wp2_with fail
      refine HF.out.mono ?_
      rintro e w1 ⟨rfl, rfl⟩
      have HB1 := mkHid (HB.out.trans (((Below.refl _ wr).alloc (Nat.le_refl _) (.cells #[.int .i64 mk, .int .i64 ma, .slice y1 l1 d1, .slice y2 l2 d2, .slice y3 l3 d3, .int .i64 me] 265)).mono HB.out.size))
      clear HB HF o1 o2 o3 o4 o5 o6
      by_cases hk : mk < key
      · have hv : cmpI mk key = -1 := by unfold cmpI; rw [if_pos hk]
        rw [hv]
        have HK := mkHid hk
        clear hk hv
        go_wp2_with fail
        go_roundg ((gk - 1))
        case measure => omega
        case rel =>
          refine ⟨(i + j) / 2 + 1, j, by go_num, rfl, by omega, hj, by omega, HB1.out, fun k h h' => ?_, HH.out.2⟩
          exact Int.lt_of_le_of_lt ((HSM.out k h).1 (by omega)) HK.out
      · have hv : 0 ≤ cmpI mk key := by unfold cmpI; rw [if_neg hk]; split <;> omega
        have HK := mkHid hk
        clear hk
        go_wp2_with fail
        go_roundg (gk - 1)
        case measure => omega
        case rel =>
          refine ⟨i, (i + j) / 2, rfl, by go_num, by omega, by omega, by omega, HB1.out, HH.out.1, fun k h h' => ?_⟩
          have := (HSM.out k h).2 h'
          have := HK.out
          omega
    · obtain rfl : i = j := by omega
      by_cases hn : i < es.length
      · have HH := mkHid (And.intro hlo hhi)
        obtain ⟨o0, o1, o2, o3, o4, o5, o6⟩ := HE.out _ hn
        have cel : ∀ o u, w.cell? ⟨g, o, none⟩ = some u → wr.cell? ⟨g, o, none⟩ = some u := fun o u hu => by rw [hb.cell (p := ⟨g, o, none⟩) hg]; exact hu
        have o1 := cel _ _ o1
        have o2 := cel _ _ o2
        have o3 := cel _ _ o3
        have o4 := cel _ _ o4
        have o5 := cel _ _ o5
        have o6 := cel _ _ o6
        have hgr : g < wr.heap.size := Nat.lt_of_lt_of_le hg hb.size
        have HB := mkHid hb
        obtain ⟨y1, l1, d1, f1⟩ := o0.b
        obtain ⟨y2, l2, d2, f2⟩ := o0.c
        obtain ⟨y3, l3, d3, f3⟩ := o0.d
        rw [f1] at o3
        rw [f2] at o4
        rw [f3] at o5
        obtain ⟨mk, hmk⟩ : ∃ mk, mk = es[i].k := ⟨_, rfl⟩
        rw [← hmk] at o1
        have HMK := mkHid hmk
        generalize es[i].a = ma at *
        generalize es[i].e = me at *
        clear hlo hhi hb f1 f2 f3 cel hmk o0 HE HS
        have HF := mkHid (find1_any mk key (.int .i64 ma) (.slice y1 l1 d1) (.slice y2 l2 d2) (.slice y3 l3 d3) (.int .i64 me) wr ⟨_, _, _, rfl⟩ ⟨_, _, _, rfl⟩ ⟨_, _, _, rfl⟩ ⟨_, rfl⟩ ⟨_, rfl⟩)
        go_wp2_with fail
        refine HF.out.mono ?_
        rintro e w1 ⟨rfl, rfl⟩
        have HB1 := mkHid (HB.out.trans (((Below.refl _ wr).alloc (Nat.le_refl _) (.cells #[.int .i64 mk, .int .i64 ma, .slice y1 l1 d1, .slice y2 l2 d2, .slice y3 l3 d3, .int .i64 me] 265)).mono HB.out.size))
        clear HB HF o1 o2 o3 o4 o5 o6
        by_cases hk : mk = key
        · have hv : cmpI mk key = 0 := by unfold cmpI; rw [if_neg (by omega), if_neg (by omega)]
          rw [hv]
          have HK := mkHid hk
          clear hk hv
          go_wp2_with fail
          go_ret2
          refine ⟨i, true, rfl, HB1.out, Nat.le_of_lt hn, HH.out.1, HH.out.2, ?_⟩
          simp only [true_iff]
          exact ⟨hn, HMK.out.symm.trans HK.out⟩
        · have hv : (cmpI mk key == 0) = false := by simpa using cmpI_ne hk
          have HK := mkHid hk
          clear hk
          go_wp2_with fail
          go_ret2
          refine ⟨i, false, rfl, HB1.out, Nat.le_of_lt hn, HH.out.1, HH.out.2, ?_⟩
          simp only [Bool.false_eq_true, false_iff]
          rintro ⟨_, e⟩
          exact HK.out (HMK.out.trans e)
      · have HH := mkHid (And.intro hlo hhi)
        have HB := mkHid hb
        clear hlo hhi hb HE HS
        go_wp2_with fail
        go_ret2
        refine ⟨i, false, rfl, HB.out, by omega, HH.out.1, HH.out.2, ?_⟩
        simp only [Bool.false_eq_true, false_iff]
        rintro ⟨h, _⟩
        omega
set_option maxRecDepth 100000 in
set_option maxHeartbeats 1000000 in
theorem search_nil (key : Int) (w : World) :
    Calls Tryz.prog 223 #[.slice none 0 0, .int .i64 key, .func (.func 224) #[] #[]] w fun e w' => e = .returned (.tuple #[.int .i64 0, .bool false]) ∧ w' = w := by
  go_enter Tryz.func223, Tryz.ntmps223
  go_wp2_with fail
  go_loopg [9, 10, 11] 0 (fun _ iv jv _ wr => iv = .int .i64 0 ∧ jv = .int .i64 0 ∧ wr = w)
  case atStart => exact ⟨rfl, rfl, rfl⟩
  case round =>
    obtain ⟨rfl, rfl, rfl⟩ := hrel
    go_wp2_with fail
    go_ret2
    exact ⟨rfl, rfl⟩
end Go.Proofs.YtblbkfdhjfppkaaGreatDoor

/- Contracts of the program: the store of states: the walks. -/
namespace Go.Proofs.YtblbkfdhjfppkaaGreatDoor
open Go.RowKit
theorem infoEnt : (Tryz.prog.info? 265).map (fun i => (i.zero, i.size, i.bytes)) = some (some (.agg #[.int .i64 0, .int .i64 0, .slice none 0 0, .slice none 0 0, .slice none 0 0, .int .i64 0]), 6, 96) := by kernel_rfl
set_option maxRecDepth 100000 in
set_option maxHeartbeats 2000000 in
theorem find_walk (w : World) (sb : Nat) (x : Option Addr) (n c : Nat) (key : Int) (P : Int → Bool → World → Prop) (hc : w.cell? ⟨sb, 5, none⟩ = some (.slice x n c))
    (HS : Hid (Calls Tryz.prog 223 #[.slice x n c, .int .i64 key, .func (.func 224) #[] #[]] w fun e w' => ∃ a f, e = .returned (.tuple #[.int .i64 a, .bool f]) ∧ P a f w')) :
    Calls Tryz.prog 162 #[.pointer (some ⟨sb, 5, none⟩), .int .i64 key] w fun e w' => ∃ a f, e = .returned (.tuple #[.int .i64 a, .bool f]) ∧ P a f w' := by
  go_enter Tryz.func162, Tryz.ntmps162
  go_wp2_with fail
  refine HS.out.mono ?_
  rintro e w1 ⟨a, f, rfl, h1⟩
  have H1 := mkHid h1
  clear h1
  go_wp2_with fail
  go_ret2
  exact ⟨a, f, rfl, H1.out⟩
set_option maxRecDepth 100000 in
set_option maxHeartbeats 2000000 in
theorem keepFound_walk (w : World) (sb g n cap at_ : Nat) (key a e : Int) (x1 x2 x3 : Option Addr) (n1 n2 n3 c1 c2 c3 : Nat) (P Q : World → Prop) (hat : at_ < n)
    (HF : Hid (Calls Tryz.prog 162 #[.pointer (some ⟨sb, 5, none⟩), .int .i64 key] (w.alloc (.cells #[.int .i64 a, .slice x1 n1 c1, .slice x2 n2 c2, .slice x3 n3 c3, .int .i64 e] 108)) fun en w' => en = .returned (.tuple #[.int .i64 at_, .bool true]) ∧ Q w'))
    (HQ : Hid (∀ W, Q W → sb < W.heap.size ∧ W.cell? ⟨sb, 5, none⟩ = some (.slice (some ⟨g, 0, none⟩) n cap) ∧ g < W.heap.size ∧ (∃ cur, W.heap[g]? = some (.cells cur 265 (0, 0)) ∧ at_ * 6 + 5 < cur.size) ∧ W.heap[w.heap.size]? = some (.cells #[.int .i64 a, .slice x1 n1 c1, .slice x2 n2 c2, .slice x3 n3 c3, .int .i64 e] 108 (0, 0)) ∧
      ∀ W', SameH (((((W.setCell ⟨g, at_ * 6 + 1, none⟩ (.int .i64 a)).setCell ⟨g, at_ * 6 + 2, none⟩ (.slice x1 n1 c1)).setCell ⟨g, at_ * 6 + 3, none⟩ (.slice x2 n2 c2)).setCell ⟨g, at_ * 6 + 4, none⟩ (.slice x3 n3 c3)).setCell ⟨g, at_ * 6 + 5, none⟩ (.int .i64 e)) W' → P W')) :
    Calls Tryz.prog 126 #[.pointer (some ⟨sb, 5, none⟩), .int .i64 key, .agg #[.int .i64 a, .slice x1 n1 c1, .slice x2 n2 c2, .slice x3 n3 c3, .int .i64 e]] w fun en w' => en = .returned (.tuple #[]) ∧ P w' := by
  go_enter Tryz.func126, Tryz.ntmps126
  go_wp2_with fail
  refine HF.out.mono ?_
  rintro en w1 ⟨rfl, h1⟩
  obtain ⟨q1, q2, q3, ⟨cur, q4, q5⟩, q6, q7⟩ := HQ.out _ h1
  have HP := mkHid q7
  have k0 := cell_of_block q6 (i := 0) rfl
  have k1 := cell_of_block q6 (i := 1) rfl
  have k2 := cell_of_block q6 (i := 2) rfl
  have k3 := cell_of_block q6 (i := 3) rfl
  have k4 := cell_of_block q6 (i := 4) rfl
  have hl := lt_of_block q6
  have hu : ∀ o, o ≤ at_ * 6 + 5 → ∃ u, w1.cell? ⟨g, o, none⟩ = some u := fun o ho => ⟨cur[o]'(by omega), by rw [cell_of_row w1 g o cur _ _ q4]; exact Array.getElem?_eq_getElem (by omega)⟩
  obtain ⟨u1, m1⟩ := hu (at_ * 6 + 1) (by omega)
  obtain ⟨u2, m2⟩ := hu (at_ * 6 + 2) (by omega)
  obtain ⟨u3, m3⟩ := hu (at_ * 6 + 3) (by omega)
  obtain ⟨u4, m4⟩ := hu (at_ * 6 + 4) (by omega)
  obtain ⟨u5, m5⟩ := hu (at_ * 6 + 5) (by omega)
  have z1 := frozen_of_block q4 (i := at_ * 6 + 1)
  have z2 := frozen_of_block q4 (i := at_ * 6 + 2)
  have z3 := frozen_of_block q4 (i := at_ * 6 + 3)
  have z4 := frozen_of_block q4 (i := at_ * 6 + 4)
  have z5 := frozen_of_block q4 (i := at_ * 6 + 5)
  have e1 : (0 : Int) ≤ (at_ : Int) := by omega
  have e2 : (at_ : Int) < (n : Int) := by omega
  clear h1 q4 q5 q6 q7 hu HQ
  go_wp2_with fail
  go_region
  all_goals
    go_wp2_with fail
    go_end0
    exact ⟨rfl, HP.out _ (SameH.drew _)⟩
set_option maxRecDepth 100000 in
set_option maxHeartbeats 2000000 in
theorem insert_any (w : World) (base b n : Nat) (v : Value) (xs : List Value) (key : Int) (hown : w.ownsRow base 265 6 v n xs) (hb : w.heap[b]? = some (.cells #[.int .i64 key, .int .i64 0, .slice none 0 0, .slice none 0 0, .slice none 0 0, .int .i64 0] 265 (0, 0))) (hn : n ≤ 100000) (hbase : base ≤ w.heap.size) :
    Calls Tryz.prog 176 #[v, .int .i64 n, .slice (some ⟨b, 0, none⟩) 1 1] w fun e w' => ∃ g cap, e = .returned (.slice (some ⟨g, 0, none⟩) (n + 1) cap) ∧ w'.ownsRow base 265 6 (.slice (some ⟨g, 0, none⟩) (n + 1) cap) (n + 1) (xs ++ [.int .i64 key, .int .i64 0, .slice none 0 0, .slice none 0 0, .slice none 0 0, .int .i64 0]) ∧ w.grownBy w' v.ownBlock ∧ (v.ownBlock = some g ∨ g = w.heap.size) := by
  obtain ⟨i0, hi, hz0, hz1, hz2⟩ := info_parts infoEnt
  obtain ⟨x, c, rfl⟩ := own_slice hown
  have HO := mkHid hown
  have HN := mkHid (World.news_of_block hb)
  have hone : ∀ v ∈ ([.int .i64 key, .int .i64 0, .slice none 0 0, .slice none 0 0, .slice none 0 0, .int .i64 0] : List Value), v.oneCell' = true := fun v hv => by simp at hv; rcases hv with rfl | rfl | rfl | rfl <;> rfl
  have HONE := mkHid hone
  have hx : (x = none ∧ n = 0 ∧ c = 0) ∨ (∃ g, x = some ⟨g, 0, none⟩ ∧ n < c) ∨ ∃ g, x = some ⟨g, 0, none⟩ ∧ c = n := by
    rcases hown.2 with ⟨r1, r2⟩ | ⟨g, cap, cur, r1, r2, r3, r4, _⟩
    · cases r1; exact Or.inl ⟨rfl, rfl, rfl⟩
    · cases r1
      rcases Nat.eq_or_lt_of_le r4 with e | e
      · exact Or.inr (Or.inr ⟨g, rfl, e.symm⟩)
      · exact Or.inr (Or.inl ⟨g, rfl, e⟩)
  clear hown hone hb
  rcases hx with ⟨rfl, rfl, rfl⟩ | ⟨g0, rfl, hnc⟩ | ⟨g0, rfl, rfl⟩
  all_goals
    go_enter Tryz.func176, Tryz.ntmps176
    go_wp2_with (at_builtin; refine wpList_append_lies _ (by rfl) _ _ 109 (by rfl) base 265 i0 _ 6 96 Tryz.underlying109 hi hz0 hz1 hz2 rfl (by decide) _ _ xs (by rfl) HO.out ⟨b, 0, none⟩ 1 1 [.int .i64 key, .int .i64 0, .slice none 0 0, .slice none 0 0, .slice none 0 0, .int .i64 0] (by rfl) (by rfl) (HN.out) HONE.out (by decide) (by unfold maxLen; omega) (by omega) hbase w.heap.size rfl ?_)
    intro g4 cap4 w4 hown4 hgrow4 hat4 hg4
    have H4 := mkHid (And.intro hown4 (And.intro hgrow4 hat4))
    clear hown4 hgrow4 hat4
    go_wp2_with fail
    go_ret
    exact ⟨g4, cap4, rfl, H4.out.1, H4.out.2.1, H4.out.2.2⟩
set_option maxRecDepth 100000 in
set_option maxHeartbeats 4000000 in
theorem keepNew_walk (w : World) (sb n : Nat) (x : Option Addr) (c : Nat) (key a e : Int) (x1 x2 x3 : Option Addr) (n1 n2 n3 c1 c2 c3 : Nat) (P Q : World → Prop) (R : Nat → Nat → World → Prop) (hn : n ≤ 100000)
    (HF : Hid (Calls Tryz.prog 162 #[.pointer (some ⟨sb, 5, none⟩), .int .i64 key] (w.alloc (.cells #[.int .i64 a, .slice x1 n1 c1, .slice x2 n2 c2, .slice x3 n3 c3, .int .i64 e] 108)) fun en w' => en = .returned (.tuple #[.int .i64 n, .bool false]) ∧ Q w'))
    (HI : Hid (∀ W, Q W → sb < W.heap.size ∧ W.cell? ⟨sb, 5, none⟩ = some (.slice x n c) ∧ Calls Tryz.prog 176 #[.slice x n c, .int .i64 n, .slice (some ⟨W.heap.size, 0, none⟩) 1 1] (W.alloc (.cells #[.int .i64 key, .int .i64 0, .slice none 0 0, .slice none 0 0, .slice none 0 0, .int .i64 0] 265)) fun e w' => ∃ g cap, e = .returned (.slice (some ⟨g, 0, none⟩) (n + 1) cap) ∧ R g cap w'))
    (HQ : Hid (∀ g cap W, R g cap W → sb < W.heap.size ∧ g ≠ sb ∧ g ≠ w.heap.size ∧ sb ≠ w.heap.size ∧ (∃ u, W.cell? ⟨sb, 5, none⟩ = some u) ∧ W.frozen? ⟨sb, 5, none⟩ = false ∧ g < W.heap.size ∧ (∃ cur, W.heap[g]? = some (.cells cur 265 (0, 0)) ∧ n * 6 + 5 < cur.size) ∧ W.heap[w.heap.size]? = some (.cells #[.int .i64 a, .slice x1 n1 c1, .slice x2 n2 c2, .slice x3 n3 c3, .int .i64 e] 108 (0, 0)) ∧
      ∀ W', SameH ((((((W.setCell ⟨sb, 5, none⟩ (.slice (some ⟨g, 0, none⟩) (n + 1) cap)).setCell ⟨g, n * 6 + 1, none⟩ (.int .i64 a)).setCell ⟨g, n * 6 + 2, none⟩ (.slice x1 n1 c1)).setCell ⟨g, n * 6 + 3, none⟩ (.slice x2 n2 c2)).setCell ⟨g, n * 6 + 4, none⟩ (.slice x3 n3 c3)).setCell ⟨g, n * 6 + 5, none⟩ (.int .i64 e)) W' → P W')) :
    Calls Tryz.prog 126 #[.pointer (some ⟨sb, 5, none⟩), .int .i64 key, .agg #[.int .i64 a, .slice x1 n1 c1, .slice x2 n2 c2, .slice x3 n3 c3, .int .i64 e]] w fun en w' => en = .returned (.tuple #[]) ∧ P w' := by
  go_enter Tryz.func126, Tryz.ntmps126
  go_wp2_with fail
  refine HF.out.mono ?_
  rintro en w0 ⟨rfl, h0⟩
  obtain ⟨i1, i2, i3⟩ := HI.out _ h0
  have HII := mkHid i3
  clear h0 i3 HI HF
  go_wp2_with fail
  refine HII.out.mono ?_
  rintro en w1 ⟨g, cap, rfl, h1⟩
  obtain ⟨q1, g1, g2, g3, ⟨v5, g4⟩, g5, q3, ⟨cur, q4, q5⟩, q6, q7⟩ := HQ.out _ _ _ h1
  have HP := mkHid q7
  have k0 := cell_of_block q6 (i := 0) rfl
  have k1 := cell_of_block q6 (i := 1) rfl
  have k2 := cell_of_block q6 (i := 2) rfl
  have k3 := cell_of_block q6 (i := 3) rfl
  have k4 := cell_of_block q6 (i := 4) rfl
  have hl := lt_of_block q6
  have hu : ∀ o, o ≤ n * 6 + 5 → ∃ u, w1.cell? ⟨g, o, none⟩ = some u := fun o ho => ⟨cur[o]'(by omega), by rw [cell_of_row w1 g o cur _ _ q4]; exact Array.getElem?_eq_getElem (by omega)⟩
  obtain ⟨u1, m1⟩ := hu (n * 6 + 1) (by omega)
  obtain ⟨u2, m2⟩ := hu (n * 6 + 2) (by omega)
  obtain ⟨u3, m3⟩ := hu (n * 6 + 3) (by omega)
  obtain ⟨u4, m4⟩ := hu (n * 6 + 4) (by omega)
  obtain ⟨u5, m5⟩ := hu (n * 6 + 5) (by omega)
  have z1 := frozen_of_block q4 (i := n * 6 + 1)
  have z2 := frozen_of_block q4 (i := n * 6 + 2)
  have z3 := frozen_of_block q4 (i := n * 6 + 3)
  have z4 := frozen_of_block q4 (i := n * 6 + 4)
  have z5 := frozen_of_block q4 (i := n * 6 + 5)
  have e1 : (0 : Int) ≤ (n : Int) := by omega
  have e2 : (n : Int) < ((n + 1 : Nat) : Int) := by omega
  have g1' : ¬ sb = g := fun e => g1 e.symm
  have g2' : ¬ w.heap.size = g := fun e => g2 e.symm
  have g3' : ¬ w.heap.size = sb := fun e => g3 e.symm
  clear h1 q4 q5 q6 q7 hu HQ i1 i2 HII
  go_wp2_with fail
  go_region
  all_goals
    go_wp2_with fail
    go_end0
    exact ⟨rfl, HP.out _ (SameH.drew _)⟩
set_option maxRecDepth 100000 in
set_option maxHeartbeats 2000000 in
theorem time_any (a e : Int) (x1 x2 x3 : Option Addr) (n1 n2 n3 c1 c2 c3 : Nat) (w : World) : Calls Tryz.prog 106 #[.agg #[.int .i64 a, .slice x1 n1 c1, .slice x2 n2 c2, .slice x3 n3 c3, .int .i64 e]] w fun en w' => en = .returned (.int .i64 a) ∧ w' = w.alloc (.cells #[.int .i64 a, .slice x1 n1 c1, .slice x2 n2 c2, .slice x3 n3 c3, .int .i64 e] 108) := by
  go_enter Tryz.func106, Tryz.ntmps106
  go_wp2_with fail
  go_ret
  exact ⟨rfl, rfl⟩
end Go.Proofs.YtblbkfdhjfppkaaGreatDoor

/- Plain: an Int as an expression is read back: its tokens. -/
namespace Go.Proofs.YtblbkfdhjfppkaaGreatDoor.Hs
theorem digitsF_acc (f : Nat) : ∀ (n : Nat) (t : List UInt8), digitsF f n t = digitsF f n [] ++ t := by
  induction f with
  | zero => intro n t; rfl
  | succ f ih =>
    intro n t
    simp only [digitsF]
    split
    · rfl
    · rw [ih (n / 10) (_ :: t), ih (n / 10) [_]]; simp
theorem digit_toNat (k : Nat) (h : k < 10) : (UInt8.ofNat (48 + k)).toNat = 48 + k := by
  rw [UInt8.toNat_ofNat']; omega
theorem digitB_of (k : Nat) (h : k < 10) : digitB (UInt8.ofNat (48 + k)) = true := by
  unfold digitB; rw [digit_toNat k h]; simp; omega
theorem digitsF_digit (f : Nat) : ∀ (n : Nat) (t : List UInt8), (∀ c ∈ t, digitB c = true) → ∀ c ∈ digitsF f n t, digitB c = true := by
  induction f with
  | zero => intro n t h; exact h
  | succ f ih =>
    intro n t h
    simp only [digitsF]
    split
    · rename_i hn
      intro c hc
      rcases List.mem_cons.1 hc with rfl | hc
      · exact digitB_of n hn
      · exact h c hc
    · refine ih _ _ fun c hc => ?_
      rcases List.mem_cons.1 hc with rfl | hc
      · exact digitB_of _ (Nat.mod_lt _ (by omega))
      · exact h c hc
theorem digitsF_len (f : Nat) : ∀ (n : Nat) (t : List UInt8), (digitsF f n t).length ≤ f + t.length := by
  induction f with
  | zero => intro n t; simp [digitsF]
  | succ f ih =>
    intro n t
    simp only [digitsF]
    split
    · simp; omega
    · have := ih (n / 10) (UInt8.ofNat (48 + n % 10) :: t); rw [List.length_cons] at this; omega
theorem digitsF_ne (f n : Nat) : digitsF (f + 1) n [] ≠ [] := by
  simp only [digitsF]
  split
  · simp
  · rw [digitsF_acc]; simp
theorem wholeL_snoc (d : List UInt8) (c : UInt8) : ∀ (n m : Nat), wholeL n d = some m → 10 * m + (c.toNat - 48) ≤ maxI → c.toNat - 48 ≤ maxI → wholeL n (d ++ [c]) = some (10 * m + (c.toNat - 48)) := by
  induction d with
  | nil =>
    intro n m h hm hc
    cases h
    simp only [List.nil_append, wholeL]
    rw [if_neg (by omega)]
  | cons x d ih =>
    intro n m h hm hc
    simp only [wholeL] at h
    split at h
    · cases h
    · rename_i hx
      simp only [List.cons_append, wholeL]
      rw [if_neg hx]
      exact ih _ _ h hm hc
theorem digitsF_whole (f : Nat) : ∀ n : Nat, n < 10 ^ f → n ≤ maxI → wholeL 0 (digitsF f n []) = some n := by
  induction f with
  | zero => intro n h _; obtain rfl : n = 0 := by simpa using h
            rfl
  | succ f ih =>
    intro n h hm
    simp only [digitsF]
    split
    · rename_i hn
      simp only [wholeL, digit_toNat n hn]
      rw [if_neg (by unfold maxI; omega)]
      congr 1; omega
    · rename_i hn
      rw [digitsF_acc]
      have h1 : n / 10 < 10 ^ f := by rw [Nat.pow_succ] at h; omega
      have h2 := ih (n / 10) h1 (by omega)
      have hk := digit_toNat (n % 10) (Nat.mod_lt _ (by omega))
      rw [wholeL_snoc _ _ 0 (n / 10) h2 (by rw [hk]; omega) (by rw [hk]; unfold maxI; omega), hk]
      congr 1; omega
def digs (n : Nat) : List UInt8 := digitsF 20 n []
theorem digs_whole (n : Nat) (h : n ≤ maxI) : wholeL 0 (digs n) = some n := digitsF_whole 20 n (by unfold maxI at h; omega) h
theorem digs_digit (n : Nat) : ∀ c ∈ digs n, digitB c = true := digitsF_digit 20 n [] (by simp)
theorem digs_ne (n : Nat) : digs n ≠ [] := digitsF_ne 19 n
theorem digs_len (n : Nat) : (digs n).length ≤ 20 := by have := digitsF_len 20 n []; rw [List.length_nil] at this; exact this
def Sep (l : List UInt8) : Prop := ∀ c r, l = c :: r → digitB c = false ∧ letterB c = false ∧ ¬ (c.toNat = 32 ∨ c.toNat = 9 ∨ c.toNat = 10) ∧ startsB (c :: r) [47, 47] = false
theorem Sep.blank {l : List UInt8} (h : Sep l) (n : Nat) : blankL n l = 0 := by
  cases n with
  | zero => rfl
  | succ n =>
    cases l with
    | nil => rfl
    | cons c r =>
      obtain ⟨_, _, h3, h4⟩ := h c r rfl
      rw [blankL_cons, if_neg h3, if_neg (by rw [h4]; simp)]
theorem spanL_digits (d rest : List UInt8) (hd : ∀ c ∈ d, digitB c = true) (hr : Sep rest) : spanL (wordP false) (d ++ rest) = d.length := by
  induction d with
  | nil =>
    cases rest with
    | nil => rfl
    | cons c r =>
      obtain ⟨h1, _⟩ := hr c r rfl
      simp [spanL, wordP, h1]
  | cons c d ih =>
    simp only [List.cons_append, spanL]
    rw [if_pos (by simp [wordP, hd c (by simp)]), ih fun c hc => hd c (by simp [hc])]
    rfl
theorem digit_noletter (c : UInt8) (h : digitB c = true) : letterB c = false := by
  unfold digitB at h; unfold letterB
  simp only [Bool.and_eq_true, decide_eq_true_eq] at h
  obtain ⟨h1, h2⟩ := h
  simp only [Bool.or_eq_false_iff, beq_eq_false_iff_ne, Bool.and_eq_false_iff, decide_eq_false_iff_not]
  omega
theorem tokL_digits (d rest : List UInt8) (n : Nat) (hn : d ≠ []) (hd : ∀ c ∈ d, digitB c = true) (hr : Sep rest) (hw : wholeL 0 d = some n) :
    tokL (d ++ rest) = ⟨48, d, d.length, true⟩ := by
  cases d with
  | nil => exact absurd rfl hn
  | cons c d =>
    have h0 := spanL_digits (c :: d) rest hd hr
    have hc := hd c (by simp)
    rw [List.cons_append, tokL, if_pos (by rw [hc]; rfl), digit_noletter c hc]
    unfold wordL
    rw [if_neg (by simp)]
    rw [← List.cons_append, h0]
    rw [List.take_left, hw]; rfl
theorem toksL_tok (f : Nat) (pre w rest : List UInt8) (s : Nat) (hw : w ≠ []) (ht : tokL (w ++ rest) = ⟨s, w, w.length, true⟩) (hr : Sep rest) :
    toksL (f + 1) pre (w ++ rest) = prepend [⟨s, w, lineOf pre⟩] (toksL f (pre ++ w) rest) := by
  have hl : ¬ (w ++ rest).length = 0 := by
    cases w with
    | nil => exact absurd rfl hw
    | cons c w => simp
  rw [toksL_step f pre (w ++ rest) hl (by rw [ht]) w.length (by rw [ht]; rw [List.drop_left, hr.blank]; rfl), ht, List.take_left, List.drop_left]
def signs : List UInt8 := [40, 41, 43, 45, 42, 47, 37]
theorem prepend_app (a b : List Tok) (x : Except Nat (List Tok)) : prepend (a ++ b) x = prepend a (prepend b x) := by cases x <;> simp [prepend]
theorem toksL_sign (f : Nat) (pre : List UInt8) (c : UInt8) (hc : c ∈ signs) (rest : List UInt8) (hr : Sep rest ∨ ∃ d r, rest = d :: r ∧ digitB d = true) :
    toksL (f + 1) pre (c :: rest) = prepend [⟨112, [c], lineOf pre⟩] (toksL f (pre ++ [c]) rest) := by
  have hb : ∀ n, blankL n rest = 0 := by
    intro n
    rcases hr with hr | ⟨d, r, rfl, hd⟩
    · exact hr.blank n
    · cases n with
      | zero => rfl
      | succ n =>
        unfold digitB at hd
        simp only [Bool.and_eq_true, decide_eq_true_eq] at hd
        rw [blankL_cons, if_neg (by omega), if_neg]
        intro hs
        have := List.isPrefixOf_iff_prefix.1 hs
        obtain ⟨t, ht⟩ := this
        simp only [List.cons_append, List.cons.injEq] at ht
        rw [← ht.1] at hd
        revert hd; decide
  have ht : tokL (c :: rest) = ⟨112, [c], 1, true⟩ := by
    simp only [signs, List.mem_cons, List.not_mem_nil, or_false] at hc
    rcases hc with rfl | rfl | rfl | rfl | rfl | rfl | rfl <;> rfl
  rw [toksL_step f pre (c :: rest) (by simp) (by rw [ht]) 1 (by rw [ht]; show 1 = 1 + blankL _ (List.drop 1 (c :: rest)); rw [List.drop_one, List.tail_cons, hb]), ht]
  rfl
def litL (x : Int) : List UInt8 :=
  if x = -9223372036854775808 then [40, 45] ++ (digs 9223372036854775807 ++ ([45] ++ (digs 1 ++ [41])))
  else if x < 0 then [40, 45] ++ (digs x.natAbs ++ [41])
  else digs x.natAbs
def litT (x : Int) : List Tok :=
  if x = -9223372036854775808 then [⟨112, [40], 1⟩, ⟨112, [45], 1⟩, ⟨48, digs 9223372036854775807, 1⟩, ⟨112, [45], 1⟩, ⟨48, digs 1, 1⟩, ⟨112, [41], 1⟩]
  else if x < 0 then [⟨112, [40], 1⟩, ⟨112, [45], 1⟩, ⟨48, digs x.natAbs, 1⟩, ⟨112, [41], 1⟩]
  else [⟨48, digs x.natAbs, 1⟩]
theorem lineOf_no (l : List UInt8) (h : ∀ c ∈ l, c ≠ 10) : lineOf l = 1 := by
  unfold lineOf; rw [List.count_eq_zero.2 (fun hc => h 10 hc rfl)]
theorem digs_no (n : Nat) : ∀ c ∈ digs n, c ≠ 10 := by
  intro c hc e
  subst e
  exact absurd (digs_digit n 10 hc) (by decide)
theorem digs_pos (n : Nat) : 1 ≤ (digs n).length := by
  have := digs_ne n
  cases h : digs n with
  | nil => exact absurd h this
  | cons c r => simp
theorem digs_head (n : Nat) (r : List UInt8) : ∃ d s, digs n ++ r = d :: s ∧ digitB d = true := by
  cases h : digs n with
  | nil => exact absurd h (digs_ne n)
  | cons d s => exact ⟨d, s ++ r, rfl, digs_digit n d (by rw [h]; simp)⟩
theorem Sep.sign (c : UInt8) (hc : c = 41 ∨ c = 45 ∨ c = 43 ∨ c = 42 ∨ c = 37 ∨ c = 40) (r : List UInt8) : Sep (c :: r) := by
  intro x y h
  obtain ⟨rfl, rfl⟩ := List.cons.inj h
  rcases hc with rfl | rfl | rfl | rfl | rfl | rfl <;> refine ⟨by decide, by decide, by decide, rfl⟩
theorem Sep.slash (d : UInt8) (r : List UInt8) (hd : digitB d = true ∨ d = 40) : Sep (47 :: d :: r) := by
  intro x y h
  obtain ⟨rfl, rfl⟩ := List.cons.inj h
  refine ⟨by decide, by decide, by decide, ?_⟩
  have hn : d ≠ 47 := by rintro rfl; rcases hd with h | h <;> revert h <;> decide
  show (List.isPrefixOf [47, 47] (47 :: d :: r)) = false
  simp [List.isPrefixOf, Ne.symm hn]
theorem Sep.nil : Sep [] := by intro c r h; cases h
theorem toksL_digs (f : Nat) (pre : List UInt8) (n : Nat) (hn : n ≤ maxI) (rest : List UInt8) (hr : Sep rest) (hp : ∀ c ∈ pre, c ≠ 10) :
    toksL (f + 1) pre (digs n ++ rest) = prepend [⟨48, digs n, 1⟩] (toksL f (pre ++ digs n) rest) := by
  rw [toksL_tok f pre (digs n) rest 48 (digs_ne n) (tokL_digits _ _ n (digs_ne n) (digs_digit n) hr (digs_whole n hn)) hr, lineOf_no pre hp]
theorem no_app {a b : List UInt8} (ha : ∀ c ∈ a, c ≠ 10) (hb : ∀ c ∈ b, c ≠ 10) : ∀ c ∈ a ++ b, c ≠ 10 := by
  intro c hc; rcases List.mem_append.1 hc with h | h
  · exact ha c h
  · exact hb c h
theorem toksL_sign1 (f : Nat) (pre : List UInt8) (c : UInt8) (hc : c ∈ signs) (rest : List UInt8) (hr : Sep rest ∨ ∃ d r, rest = d :: r ∧ digitB d = true) (hp : ∀ c ∈ pre, c ≠ 10) :
    toksL (f + 1) pre (c :: rest) = prepend [⟨112, [c], 1⟩] (toksL f (pre ++ [c]) rest) := by
  rw [toksL_sign f pre c hc rest hr, lineOf_no pre hp]
theorem litL_no (x : Int) : ∀ c ∈ litL x, c ≠ 10 := by
  unfold litL
  split
  · exact no_app (by decide) (no_app (digs_no _) (no_app (by decide) (no_app (digs_no _) (by decide))))
  · split
    · exact no_app (by decide) (no_app (digs_no _) (by decide))
    · exact digs_no _
theorem toksL_lit (x : Int) (h1 : -9223372036854775808 ≤ x) (h2 : x ≤ 9223372036854775807) (pre rest : List UInt8) (hr : Sep rest) (hp : ∀ c ∈ pre, c ≠ 10) :
    ∃ k, k ≤ (litL x).length ∧ ∀ f, toksL (f + k) pre (litL x ++ rest) = prepend (litT x) (toksL f (pre ++ litL x) rest) := by
  unfold litL litT
  split
  · have := digs_pos 9223372036854775807
    refine ⟨6, by simp only [List.length_append, List.length_cons, List.length_nil]; have := digs_pos 1; omega, fun f => ?_⟩
    simp only [List.append_assoc, List.cons_append, List.nil_append]
    rw [toksL_sign1 (f + 5) pre 40 (by decide) _ (.inl (Sep.sign 45 (by simp) _)) hp,
      toksL_sign1 (f + 4) _ 45 (by decide) _ (.inr (digs_head _ _)) (no_app hp (by decide)),
      toksL_digs (f + 3) _ _ (by decide) _ (Sep.sign 45 (by simp) _) (no_app (no_app hp (by decide)) (by decide)),
      toksL_sign1 (f + 2) _ 45 (by decide) _ (.inr (digs_head _ _)) (no_app (no_app (no_app hp (by decide)) (by decide)) (digs_no _)),
      toksL_digs (f + 1) _ _ (by decide) _ (Sep.sign 41 (by simp) _) (no_app (no_app (no_app (no_app hp (by decide)) (by decide)) (digs_no _)) (by decide)),
      toksL_sign1 f _ 41 (by decide) _ (.inl hr) (no_app (no_app (no_app (no_app (no_app hp (by decide)) (by decide)) (digs_no _)) (by decide)) (digs_no _))]
    simp only [← prepend_app, List.append_assoc, List.cons_append, List.nil_append]
  · split
    · refine ⟨4, by simp only [List.length_append, List.length_cons, List.length_nil]; have := digs_pos x.natAbs; omega, fun f => ?_⟩
      simp only [List.append_assoc, List.cons_append, List.nil_append]
      rw [toksL_sign1 (f + 3) pre 40 (by decide) _ (.inl (Sep.sign 45 (by simp) _)) hp,
        toksL_sign1 (f + 2) _ 45 (by decide) _ (.inr (digs_head _ _)) (no_app hp (by decide)),
        toksL_digs (f + 1) _ _ (by unfold maxI; omega) _ (Sep.sign 41 (by simp) _) (no_app (no_app hp (by decide)) (by decide)),
        toksL_sign1 f _ 41 (by decide) _ (.inl hr) (no_app (no_app (no_app hp (by decide)) (by decide)) (digs_no _))]
      simp only [← prepend_app, List.append_assoc, List.cons_append, List.nil_append]
    · refine ⟨1, digs_pos _, fun f => ?_⟩
      rw [toksL_digs f pre _ (by unfold maxI; omega) _ hr hp]
end Go.Proofs.YtblbkfdhjfppkaaGreatDoor.Hs

/- Plain: an operation of two Ints as an expression: its tokens, its tree, its instructions, what they come to. -/
namespace Go.Proofs.YtblbkfdhjfppkaaGreatDoor.Hs
def opSigns : List UInt8 := [43, 45, 42, 47, 37]
theorem litL_head (y : Int) : ∃ d s, litL y = d :: s ∧ (digitB d = true ∨ d = 40) := by
  unfold litL
  split
  · exact ⟨40, _, rfl, .inr rfl⟩
  · split
    · exact ⟨40, _, rfl, .inr rfl⟩
    · obtain ⟨d, s, h1, h2⟩ := digs_head y.natAbs []
      exact ⟨d, s, by simpa using h1, .inl h2⟩
theorem sep_op (c : UInt8) (hc : c ∈ opSigns) (y : Int) : Sep (c :: litL y) := by
  simp only [opSigns, List.mem_cons, List.not_mem_nil, or_false] at hc
  obtain ⟨d, s, hd, hk⟩ := litL_head y
  rcases hc with rfl | rfl | rfl | rfl | rfl
  · exact Sep.sign _ (by simp) _
  · exact Sep.sign _ (by simp) _
  · exact Sep.sign _ (by simp) _
  · rw [hd]; exact Sep.slash d s hk
  · exact Sep.sign _ (by simp) _
def sumL (c : UInt8) (x y : Int) : List UInt8 := litL x ++ c :: litL y
def sumT (c : UInt8) (x y : Int) : List Tok := litT x ++ (⟨112, [c], 1⟩ :: (litT y ++ [⟨101, [], 1⟩]))
theorem sumL_blank (c : UInt8) (x y : Int) (n : Nat) : blankL n (sumL c x y) = 0 := by
  obtain ⟨d, s, hd, hk⟩ := litL_head x
  unfold sumL
  rw [hd]
  cases n with
  | zero => rfl
  | succ n =>
    have h1 : ¬ (d.toNat = 32 ∨ d.toNat = 9 ∨ d.toNat = 10) ∧ d ≠ 47 := by
      rcases hk with hk | rfl
      · unfold digitB at hk
        simp only [Bool.and_eq_true, decide_eq_true_eq] at hk
        refine ⟨by omega, ?_⟩
        rintro rfl; revert hk; decide
      · decide
    rw [List.cons_append, blankL_cons, if_neg h1.1, if_neg]
    intro hs
    obtain ⟨t, ht⟩ := List.isPrefixOf_iff_prefix.1 hs
    simp only [List.cons_append, List.cons.injEq] at ht
    exact h1.2 ht.1.symm
theorem signs_of {c : UInt8} (hc : c ∈ opSigns) : c ∈ signs := by
  simp only [opSigns, List.mem_cons, List.not_mem_nil, or_false] at hc
  rcases hc with rfl | rfl | rfl | rfl | rfl <;> decide
theorem sum_tokens (c : UInt8) (hc : c ∈ opSigns) (x y : Int) (hx1 : -9223372036854775808 ≤ x) (hx2 : x ≤ 9223372036854775807) (hy1 : -9223372036854775808 ≤ y) (hy2 : y ≤ 9223372036854775807) :
    tokens (sumL c x y) = .ok (sumT c x y) := by
  have hcn : c ≠ 10 := by rintro rfl; revert hc; decide
  have hcl : ∀ z ∈ [c], z ≠ 10 := by intro z hz; simp only [List.mem_singleton] at hz; subst hz; exact hcn
  unfold tokens
  rw [sumL_blank]
  simp only [List.take_zero, List.drop_zero]
  unfold sumL sumT
  obtain ⟨k1, hk1, h1⟩ := toksL_lit x hx1 hx2 [] (c :: litL y) (sep_op c hc y) (by simp)
  obtain ⟨k2, hk2, h2⟩ := toksL_lit y hy1 hy2 (([] ++ litL x) ++ [c]) [] Sep.nil (no_app (no_app (by simp) (litL_no x)) hcl)
  obtain ⟨g, hg⟩ : ∃ g, (litL x ++ c :: litL y).length + 1 = ((g + 1 + k2) + 1) + k1 := by
    refine ⟨(litL x).length - k1 + ((litL y).length - k2), ?_⟩
    simp only [List.length_append, List.length_cons]; omega
  rw [hg, h1, toksL_sign1 (g + 1 + k2) _ c (signs_of hc) _ (by
    obtain ⟨d, s, hd, hk⟩ := litL_head y
    rcases hk with hk | rfl
    · exact .inr ⟨d, s, hd, hk⟩
    · left; rw [hd]; exact Sep.sign _ (by simp) _) (no_app (by simp) (litL_no x))]
  have h2' := h2 (g + 1)
  rw [List.append_nil] at h2'
  rw [h2', toksL_end g _ [] rfl, lineOf_no _ (no_app (no_app (no_app (by simp) (litL_no x)) hcl) (litL_no y))]
  rfl
theorem spoilAt_low (f : Nat) : ∀ (l : List UInt8) (p : Nat), (∀ c ∈ l, c.toNat < 128) → spoilAt f l p = none := by
  induction f with
  | zero => intro l p _; rfl
  | succ f ih =>
    intro l p h
    cases l with
    | nil => rfl
    | cons c r =>
      have hc : charL (c :: r) = 1 := by
        unfold charL
        simp only [List.getElem?_cons_zero]
        rw [if_pos (h c (by simp))]
      unfold spoilAt
      rw [hc, if_neg (by simp), if_neg (by omega)]
      exact ih _ _ fun z hz => h z (by simp at hz; simp [hz])
theorem low_app {a b : List UInt8} (ha : ∀ c ∈ a, c.toNat < 128) (hb : ∀ c ∈ b, c.toNat < 128) : ∀ c ∈ a ++ b, c.toNat < 128 := by
  intro c hc; rcases List.mem_append.1 hc with h | h
  · exact ha c h
  · exact hb c h
theorem digs_low (n : Nat) : ∀ c ∈ digs n, c.toNat < 128 := by
  intro c hc
  have := digs_digit n c hc
  unfold digitB at this
  simp only [Bool.and_eq_true, decide_eq_true_eq] at this
  omega
theorem litL_low (x : Int) : ∀ c ∈ litL x, c.toNat < 128 := by
  unfold litL
  split
  · exact low_app (by decide) (low_app (digs_low _) (low_app (by decide) (low_app (digs_low _) (by decide))))
  · split
    · exact low_app (by decide) (low_app (digs_low _) (by decide))
    · exact digs_low _
theorem sumL_low (c : UInt8) (hc : c ∈ opSigns) (x y : Int) : ∀ z ∈ sumL c x y, z.toNat < 128 := by
  unfold sumL
  refine low_app (litL_low x) ?_
  intro z hz
  rcases List.mem_cons.1 hz with rfl | hz
  · simp only [opSigns, List.mem_cons, List.not_mem_nil, or_false] at hc
    rcases hc with rfl | rfl | rfl | rfl | rfl <;> decide
  · exact litL_low y z hz
theorem litL_len (x : Int) : (litL x).length ≤ 50 := by
  unfold litL
  have h1 := digs_len 9223372036854775807; have h2 := digs_len 1; have h3 := digs_len x.natAbs
  split
  · simp only [List.length_append, List.length_cons, List.length_nil]; omega
  · split
    · simp only [List.length_append, List.length_cons, List.length_nil]; omega
    · omega
theorem sumL_len (c : UInt8) (x y : Int) : (sumL c x y).length ≤ 101 := by
  unfold sumL
  have h1 := litL_len x; have h2 := litL_len y
  simp only [List.length_append, List.length_cons]; omega
def numA (n : Nat) : Ast := node [48] 1 (digs n) []
def litA (x : Int) : Ast :=
  if x = -9223372036854775808 then node [45] 1 [] [node [45, 120] 1 [] [numA 9223372036854775807], numA 1]
  else if x < 0 then node [45, 120] 1 [] [numA x.natAbs]
  else numA x.natAbs
def sumA (c : UInt8) (x y : Int) : Ast := node [c] 1 [] [litA x, litA y]
set_option maxRecDepth 10000 in
theorem sum_parse (c : UInt8) (hc : c ∈ opSigns) (x y : Int) : ∃ q, exprP (sumT c x y) ((sumT c x y).length + 1) 0 = .ok (sumA c x y, q) ∧ (tk (sumT c x y) q).sort = 101 ∧ q + 1 = (sumT c x y).length := by
  refine ⟨(sumT c x y).length - 1, ?_⟩
  unfold sumT sumA litT litA numA
  simp only [opSigns, List.mem_cons, List.not_mem_nil, or_false] at hc
  generalize digs x.natAbs = dx
  generalize digs y.natAbs = dy
  generalize digs 9223372036854775807 = dm
  generalize digs 1 = d1
  rcases hc with rfl | rfl | rfl | rfl | rfl <;> (repeat' split) <;> exact ⟨by kernel_rfl, by kernel_rfl, by kernel_rfl⟩
end Go.Proofs.YtblbkfdhjfppkaaGreatDoor.Hs

/- Sums: an Int as an expression, and which operation is meant. -/
namespace Go.Proofs.YtblbkfdhjfppkaaGreatDoor
open Go.RowKit
theorem itoa_any (n : Int) (h1 : -9223372036854775808 ≤ n) (h2 : n ≤ 9223372036854775807) (w : World) (hp : PowT w) :
    Calls Tryz.prog 34 #[.int .i64 n] w fun e w' => e = .returned (.string (bs (Hs.decimalsL n))) ∧ Below w.heap.size w w' := by
  refine (Tryz.strconv_Itoa n h1 h2 w hp).mono ?_
  rintro e w1 ⟨rfl, k1, os, hw1⟩
  exact ⟨by rw [itoa_decimals n h1 h2]; rfl, grow_below hw1⟩
set_option maxRecDepth 100000 in
set_option maxHeartbeats 1000000 in
theorem pick5_any (c : Int) (h1 : -9223372036854775808 ≤ c) (h2 : c ≤ 9223372036854775807) :
    ∃ k : Nat, k < 5 ∧ ∀ w, Calls Tryz.prog 31 #[.int .i64 c, .int .i64 5] w fun e w' => e = .returned (.int .i64 k) ∧ w' = w := by
  by_cases hc : c < 0
  · have e1 : wrap64 (c + 1) = c + 1 := by unfold wrap64; omega
    have e2 : wrap64 (-(c + 1)) = -(c + 1) := by unfold wrap64; omega
    obtain ⟨m, hm⟩ : ∃ m : Nat, -(c + 1) = (m : Int) := ⟨(-(c + 1)).toNat, by omega⟩
    have e3 : (-(c + 1)).tmod 5 = ((m % 5 : Nat) : Int) := by rw [hm]; rfl
    refine ⟨m % 5, Nat.mod_lt _ (by omega), fun w => ?_⟩
    go_enter Tryz.func31, Tryz.ntmps31
    go_wp2_with fail
    refine bodyPost_ret (v := .int .i64 ((m % 5 : Nat) : Int)) ?_ rfl ⟨rfl, rfl⟩
    have e4 : (c + 1).tmod 5 = -((m % 5 : Nat) : Int) := by rw [show c + 1 = -(m : Int) by omega, Int.neg_tmod]; rfl
    simp [results, Tryz.results31, go_sem]
  · obtain ⟨m, rfl⟩ : ∃ m : Nat, c = (m : Int) := ⟨c.toNat, by omega⟩
    refine ⟨m % 5, Nat.mod_lt _ (by omega), fun w => ?_⟩
    go_enter Tryz.func31, Tryz.ntmps31
    go_wp2_with fail
    refine bodyPost_ret (v := .int .i64 ((m % 5 : Nat) : Int)) (by simp [results, Tryz.results31, go_sem]) rfl ⟨rfl, rfl⟩
set_option maxRecDepth 100000 in
set_option maxHeartbeats 1000000 in
theorem literal_any (n : Int) (h1 : -9223372036854775808 ≤ n) (h2 : n ≤ 9223372036854775807) (w : World) (hp : PowT w) :
    Calls Tryz.prog 33 #[.int .i64 n] w fun e w' => e = .returned (.string (bs (Hs.litL n))) ∧ Below w.heap.size w w' := by
  by_cases hm : n = -9223372036854775808
  · subst hm
    go_enter Tryz.func33, Tryz.ntmps33
    go_wp2_with fail
    go_ret
    exact ⟨by kernel_rfl, Below.refl _ _⟩
  · by_cases hn : n < 0
    · have e1 : wrap64 (-n) = -n := by unfold wrap64; omega
      have e2 : Hs.decimalsL (-n) = Hs.digs n.natAbs := by
        unfold Hs.decimalsL Hs.digs
        rw [if_neg (by omega), show (-n).natAbs = n.natAbs by omega]; rfl
      have e3 : Hs.litL n = [40, 45] ++ (Hs.digs n.natAbs ++ [41]) := by unfold Hs.litL; rw [if_neg hm, if_pos hn]
      have HI := mkHid (itoa_any (-n) (by omega) (by omega) w hp)
      rw [e2] at HI
      rw [e3]
      have hl := Hs.digs_len n.natAbs
      generalize Hs.digs n.natAbs = tx at *
      have hs : (bs tx).size = tx.length := bs_size tx
      clear hp e2 e3
      go_enter Tryz.func33, Tryz.ntmps33
      go_wp2_with fail
      refine HI.out.mono ?_
      rintro e w1 ⟨rfl, hb⟩
      have HB := mkHid hb
      clear hb
      go_wp2_with fail
      go_ret
      refine ⟨?_, HB.out⟩
      show Ending.returned (.string (bs [40, 45] ++ bs tx ++ bs [41])) = _
      rw [bs_append, bs_append, List.append_assoc]; rfl
    · have HI := mkHid (itoa_any n h1 h2 w hp)
      clear hp
      go_enter Tryz.func33, Tryz.ntmps33
      go_wp2_with fail
      refine HI.out.mono ?_
      rintro e w1 ⟨rfl, hb⟩
      have HB := mkHid hb
      clear hb
      go_wp2_with fail
      go_ret
      refine ⟨?_, HB.out⟩
      unfold Hs.litL Hs.decimalsL
      rw [if_neg hm, if_neg (by omega), if_neg (by omega)]; rfl
end Go.Proofs.YtblbkfdhjfppkaaGreatDoor

/- Sums: the walk. -/
namespace Go.Proofs.YtblbkfdhjfppkaaGreatDoor
open Go.RowKit
def opsO : Obj := .cells #[.string ⟨#[43]⟩, .string ⟨#[45]⟩, .string ⟨#[42]⟩, .string ⟨#[47]⟩, .string ⟨#[37]⟩] 71
set_option maxRecDepth 100000 in
set_option maxHeartbeats 4000000 in
theorem sums_walk (w : World) (x y c : Int) (k st : Nat) (op : UInt8) (lx ly tx : List UInt8) (S : Nat → World → Prop)
    (hR : (2 < k ∧ y = 0 ∧ st = 3 ∧ tx = []) ∨ (st = 0 ∧ ∃ V, -9223372036854775808 ≤ V ∧ V ≤ 9223372036854775807 ∧ tx = Hs.decimalsL V ∧ ((k = 0 ∧ V = wrap64 (x + y)) ∨ (k = 1 ∧ V = wrap64 (x - y)) ∨ (k = 2 ∧ V = wrap64 (x * y)) ∨ (k = 3 ∧ y = -1 ∧ V = wrap64 (-x)) ∨ (k = 4 ∧ y = -1 ∧ V = 0) ∨ (k = 3 ∧ y ≠ 0 ∧ y ≠ -1 ∧ V = wrap64 (x.tdiv y)) ∨ (k = 4 ∧ y ≠ 0 ∧ y ≠ -1 ∧ V = x.tmod y))))
    (hk : k < 5) (hlx : lx.length ≤ 50) (hly : ly.length ≤ 50)
    (HP : Hid (∀ W, Calls Tryz.prog 31 #[.int .i64 c, .int .i64 5] W fun e w' => e = .returned (.int .i64 k) ∧ w' = W))
    (HS : Hid (Calls Tryz.prog 32 #[.string ⟨#[102, 117, 110, 99, 32, 109, 97, 105, 110, 40, 41, 32, 123, 32, 125]⟩, .slice none 0 0] (w.alloc opsO) fun e w' => ∃ sb, e = .returned (.tuple #[.pointer (some ⟨sb, 0, none⟩), .int .i64 0, .int .i64 0]) ∧ S sb w'))
    (HD : Hid (∀ sb W, S sb W → S sb W.drew))
    (HC : Hid (∀ sb W, S sb W → W.cell? ⟨w.heap.size, k, none⟩ = some (.string (bs [op]))))
    (HX : Hid (∀ sb W, S sb W → Calls Tryz.prog 33 #[.int .i64 x] W fun e w' => e = .returned (.string (bs lx)) ∧ S sb w'))
    (HY : Hid (∀ sb W, S sb W → Calls Tryz.prog 33 #[.int .i64 y] W fun e w' => e = .returned (.string (bs ly)) ∧ S sb w'))
    (HE : Hid (∀ sb W, S sb W → Calls Tryz.prog 26 #[.pointer (some ⟨sb, 0, none⟩), .string (bs lx ++ bs [op] ++ bs ly)] W fun e w' => e = .returned (.tuple #[.string (bs tx), .int .i64 st, .int .i64 0, .int .i64 0]) ∧ S sb w'))
    (HI : Hid (∀ V sb W, S sb W → -9223372036854775808 ≤ V → V ≤ 9223372036854775807 → Calls Tryz.prog 34 #[.int .i64 V] W fun e w' => e = .returned (.string (bs (Hs.decimalsL V))) ∧ S sb w'))
    (HB : Hid (∀ sb W, S sb W → Below w.heap.size w W)) :
    Calls Tryz.prog 11 #[.int .i64 x, .int .i64 y, .int .i64 c] w fun e w' => e = .returned (.bool true) ∧ Below w.heap.size w w' := by
  have HRR := mkHid hR
  clear hR
  have hsx : (bs lx).size = lx.length := bs_size lx
  have hsy : (bs ly).size = ly.length := bs_size ly
  have hso : (bs [op]).size = 1 := bs_size [op]
  have hq1 : ¬ 9223372036854775807 < lx.length + 1 := by omega
  have hq2 : ¬ 9223372036854775807 < lx.length + 1 + ly.length := by omega
  have hk1 : (0 : Int) ≤ (k : Int) := by omega
  have hk2 : (k : Int) < 5 := by omega
  go_enter Tryz.func11, Tryz.ntmps11
  go_wp2_with fail
  refine (HP.out _).mono ?_
  rintro e w1 ⟨rfl, rfl⟩
  clear HP
  go_wp2_with fail
  refine HS.out.mono ?_
  rintro e w2 ⟨sb, rfl, h2⟩
  have h2d := HD.out _ _ h2
  have H2 := mkHid h2d
  have c2 := HC.out _ _ h2d
  clear h2 h2d HS
  go_wp2_with fail
  refine wp_region_held_drew (S := fun W => W.cell? ⟨w.heap.size, k, none⟩ = some (.string (bs [op]))) (by kernel_rfl) c2 (fun hHeld => ?_)
  (refine wpAnyH_take (i := 0) (v := ?_) rfl (by kernel_rfl) (by kernel_rfl) (by kernel_rfl) (fun _ _ _ h => h) (Or.inl ⟨by rfl, ?_⟩) hHeld ?_; rotate_left; (intro w hSw; (try dsimp only at hSw); go_simp <;> with_reducible rfl))
  (refine wpAnyH_take (i := 1) (v := ?_) rfl (by kernel_rfl) (by kernel_rfl) (by kernel_rfl) (fun _ _ _ h => h) (Or.inl ⟨by rfl, ?_⟩) hHeld ?_; rotate_left; (intro w hSw; (try dsimp only at hSw); go_simp <;> with_reducible rfl))
  (refine wpAnyH_take (i := 3) (v := ?_) rfl (by kernel_rfl) (by kernel_rfl) (by kernel_rfl) (fun _ _ _ h => h) (Or.inl ⟨by rfl, ?_⟩) hHeld ?_; rotate_left; (intro w hSw; (try dsimp only at hSw); go_simp <;> with_reducible rfl))
  (refine wpAnyH_take (i := 7) (v := ?_) rfl (by kernel_rfl) (by kernel_rfl) (by kernel_rfl) (fun _ _ _ h => h) (Or.inl ⟨by rfl, ?_⟩) hHeld ?_; rotate_left; (intro w hSw; (try dsimp only at hSw); go_simp <;> with_reducible rfl))
  (refine wpAnyH_take (i := 4) (v := ?_) rfl (by kernel_rfl) (by kernel_rfl) (by kernel_rfl) (fun _ _ _ h => h) (Or.inl ⟨by rfl, ?_⟩) hHeld ?_; rotate_left; (intro w hSw; (try dsimp only at hSw); go_simp <;> with_reducible rfl))
  (refine wpAnyH_take (i := 5) (v := ?_) rfl (by kernel_rfl) (by kernel_rfl) (by kernel_rfl) (fun _ _ _ h => h) (Or.inl ⟨by rfl, ?_⟩) hHeld ?_; rotate_left; (intro w hSw; (try dsimp only at hSw); go_simp <;> with_reducible rfl))
  refine wpAnyH_ready (rs := [2]) (by kernel_rfl) (by simp) ?_
  refine AllReadyH.cons rfl (fun K hK => ?_) AllReadyH.nil
  go_simp
  go_at_call 33
  refine (HX.out _ _ H2.out).mono ?_
  rintro e w3 ⟨rfl, hw3⟩
  have Hw3 := mkHid hw3
  have cw3 := HC.out _ _ hw3
  clear hw3
  go_wp2_with fail
  refine hK.out _ _ cw3 (fun hHeld => ?_)
  clear hK K
  (refine wpAnyH_take (i := 6) (v := ?_) rfl (by kernel_rfl) (by kernel_rfl) (by kernel_rfl) (fun _ _ _ h => h) (Or.inl ⟨by rfl, ?_⟩) hHeld ?_; rotate_left; (intro w hSw; (try dsimp only at hSw); go_simp <;> with_reducible rfl))
  refine wpAnyH_ready (rs := [8]) (by kernel_rfl) (by simp) ?_
  refine AllReadyH.cons rfl (fun K hK => ?_) AllReadyH.nil
  go_simp
  go_at_call 33
  refine (HY.out _ _ Hw3.out).mono ?_
  rintro e w4 ⟨rfl, hw4⟩
  have Hw4 := mkHid hw4
  have cw4 := HC.out _ _ hw4
  clear hw4
  go_wp2_with fail
  refine hK.out _ _ cw4 (fun hHeld => ?_)
  clear hK K
  (refine wpAnyH_take (i := 9) (v := ?_) rfl (by kernel_rfl) (by kernel_rfl) (by kernel_rfl) (fun _ _ _ h => h) (Or.inl ⟨by rfl, ?_⟩) hHeld ?_; rotate_left; (intro w hSw; (try dsimp only at hSw); go_simp <;> with_reducible rfl))
  refine wpAnyH_ready (rs := [10]) (by kernel_rfl) (by simp) ?_
  refine AllReadyH.cons rfl (fun K hK => ?_) AllReadyH.nil
  go_simp
  go_at_call 26
  refine (HE.out _ _ Hw4.out).mono ?_
  rintro e w5 ⟨rfl, hw5⟩
  have Hw5 := mkHid hw5
  have cw5 := HC.out _ _ hw5
  clear hw5
  go_wp2_with fail
  refine hK.out _ _ cw5 (fun hHeld => ?_)
  clear hK K
  (refine wpAnyH_take (i := 11) (v := ?_) rfl (by kernel_rfl) (by kernel_rfl) (by kernel_rfl) (fun _ _ _ h => h) (Or.inl ⟨by rfl, ?_⟩) hHeld ?_; rotate_left; (intro w hSw; (try dsimp only at hSw); go_simp <;> with_reducible rfl))
  (refine wpAnyH_take (i := 12) (v := ?_) rfl (by kernel_rfl) (by kernel_rfl) (by kernel_rfl) (fun _ _ _ h => h) (Or.inl ⟨by rfl, ?_⟩) hHeld ?_; rotate_left; (intro w hSw; (try dsimp only at hSw); go_simp <;> with_reducible rfl))
  (refine wpAnyH_take (i := 13) (v := ?_) rfl (by kernel_rfl) (by kernel_rfl) (by kernel_rfl) (fun _ _ _ h => h) (Or.inl ⟨by rfl, ?_⟩) hHeld ?_; rotate_left; (intro w hSw; (try dsimp only at hSw); go_simp <;> with_reducible rfl))
  (refine wpAnyH_take (i := 14) (v := ?_) rfl (by kernel_rfl) (by kernel_rfl) (by kernel_rfl) (fun _ _ _ h => h) (Or.inl ⟨by rfl, ?_⟩) hHeld ?_; rotate_left; (intro w hSw; (try dsimp only at hSw); go_simp <;> with_reducible rfl))
  (refine wpAnyH_take (i := 15) (v := ?_) rfl (by kernel_rfl) (by kernel_rfl) (by kernel_rfl) (fun _ _ _ h => h) (Or.inl ⟨by rfl, ?_⟩) hHeld ?_; rotate_left; (intro w hSw; (try dsimp only at hSw); go_simp <;> with_reducible rfl))
  (refine wpAnyH_take (i := 16) (v := ?_) rfl (by kernel_rfl) (by kernel_rfl) (by kernel_rfl) (fun _ _ _ h => h) (Or.inl ⟨by rfl, ?_⟩) hHeld ?_; rotate_left; (intro w hSw; (try dsimp only at hSw); go_simp <;> with_reducible rfl))
  (refine wpAnyH_take (i := 17) (v := ?_) rfl (by kernel_rfl) (by kernel_rfl) (by kernel_rfl) (fun _ _ _ h => h) (Or.inl ⟨by rfl, ?_⟩) hHeld ?_; rotate_left; (intro w hSw; (try dsimp only at hSw); go_simp <;> with_reducible rfl))
  (refine wpAnyH_take (i := 18) (v := ?_) rfl (by kernel_rfl) (by kernel_rfl) (by kernel_rfl) (fun _ _ _ h => h) (Or.inl ⟨by rfl, ?_⟩) hHeld ?_; rotate_left; (intro w hSw; (try dsimp only at hSw); go_simp <;> with_reducible rfl))
  (refine wpAnyH_take (i := 19) (v := ?_) rfl (by kernel_rfl) (by kernel_rfl) (by kernel_rfl) (fun _ _ _ h => h) (Or.inl ⟨by rfl, ?_⟩) hHeld ?_; rotate_left; (intro w hSw; (try dsimp only at hSw); go_simp <;> with_reducible rfl))
  refine wpAnyH_done (by kernel_rfl) ?_ _
  clear HX HY HE HC HD H2 Hw3 Hw4 c2 cw3 cw4 cw5 hq1 hq2
  clear hsx hsy hso
  rcases HRR.out with ⟨h1, rfl, rfl, rfl⟩ | ⟨rfl, V, hv1, hv2, rfl, hV⟩
  · clear HI HRR
    have h2 : (2 : Int) < (k : Int) := by omega
    have h3 : (bs []).toList.isEmpty = true := by rw [bs_toList]; rfl
    go_wp2_with fail
    refine bodyPost_ret (v := .bool true) (by simp [results, Tryz.results11, go_sem]) rfl ⟨rfl, HB.out _ _ Hw5.out⟩
  · have HII := mkHid (HI.out V _ _ Hw5.out hv1 hv2)
    clear HI HRR Hw5 hv1 hv2
    rcases hV with ⟨rfl, rfl⟩ | ⟨rfl, rfl⟩ | ⟨rfl, rfl⟩ | ⟨rfl, rfl, rfl⟩ | ⟨rfl, rfl, rfl⟩ | ⟨rfl, hy0, hy1, rfl⟩ | ⟨rfl, hy0, hy1, rfl⟩
    rotate_left 5
    · have e0 : (y == 0) = false := by simpa using hy0
      have e1 : (y == -1) = false := by simpa using hy1
      go_wp2_with fail
      refine HII.out.mono ?_
      rintro e w6 ⟨rfl, h6⟩
      have H6 := mkHid (HB.out _ _ h6)
      clear h6
      go_wp2_with fail
      refine bodyPost_ret (v := .bool true) (by simp [results, Tryz.results11, go_sem]) rfl ⟨rfl, H6.out⟩
    · have e0 : (y == 0) = false := by simpa using hy0
      have e1 : (y == -1) = false := by simpa using hy1
      go_wp2_with fail
      refine HII.out.mono ?_
      rintro e w6 ⟨rfl, h6⟩
      have H6 := mkHid (HB.out _ _ h6)
      clear h6
      go_wp2_with fail
      refine bodyPost_ret (v := .bool true) (by simp [results, Tryz.results11, go_sem]) rfl ⟨rfl, H6.out⟩
    all_goals
      go_wp2_with fail
      refine HII.out.mono ?_
      rintro e w6 ⟨rfl, h6⟩
      have H6 := mkHid (HB.out _ _ h6)
      clear h6
      go_wp2_with fail
      refine bodyPost_ret (v := .bool true) (by simp [results, Tryz.results11, go_sem]) rfl ⟨rfl, H6.out⟩
end Go.Proofs.YtblbkfdhjfppkaaGreatDoor
