/- Contracts of the program: instructions that are done within the last frame (2): the walks. -/
import Derived.Test.YtblbkfdhjfppkaaGreatDoorPart14
import Derived.Test.YtblbkfdhjfppkaaGreatDoorPart00
import Derived.Deep.RegionHeld
import Derived.Laws.IdiomStrings
import Derived.Lib.RuneCount
namespace Go.Proofs.YtblbkfdhjfppkaaGreatDoor
open Go.RowKit
set_option maxRecDepth 100000 in
set_option maxHeartbeats 1000000 in
theorem binaryDo_walk (w w0 : World) (sb fa fj : Nat) (op : List UInt8) (k : Nat) (P S : World → Prop) (Q1 : TypeId → Value → World → Prop) (Q2 : TypeId → Value → TypeId → Value → World → Prop) (Q3 : TypeId → Value → World → Prop) (hW : w.alloc (.cells #[.string (bs op)] 435) = w0)
    (HT : Hid (∀ W, SameH w0 W → Calls Tryz.prog 158 #[.pointer (some ⟨sb, 0, none⟩)] W fun e w' => e = .returned (.pointer (some ⟨fa, fj, none⟩)) ∧ SameH w0 w'))
    (HP : Hid (∀ W, SameH w0 W → Calls Tryz.prog 171 #[.pointer (some ⟨fa, fj, none⟩)] W fun e w' => ∃ t z, e = .returned (.iface t z) ∧ Q1 t z w'))
    (HP2 : Hid (∀ W t z, Q1 t z W → Calls Tryz.prog 171 #[.pointer (some ⟨fa, fj, none⟩)] W fun e w' => ∃ t' z', e = .returned (.iface t' z') ∧ Q2 t z t' z' w'))
    (HB : Hid (∀ W t z t' z', Q2 t z t' z' W → W.cell? ⟨w.heap.size, 0, none⟩ = some (.string (bs op)) ∧ w.heap.size < W.heap.size))
    (HV : Hid (∀ W t z t' z', Q2 t z t' z' W → Calls Tryz.prog 388 #[.string (bs op), .iface t' z', .iface t z] W fun e w' => (∃ t1 z1, e = .returned (.iface t1 z1) ∧ Q3 t1 z1 w') ∨ (e = stopE k ∧ S w')))
    (HU : Hid (∀ W t z, Q3 t z W → Calls Tryz.prog 371 #[.pointer (some ⟨fa, fj, none⟩), .iface t z] W fun e w' => e = .returned (.tuple #[]) ∧ P w')) :
    Calls Tryz.prog 387 #[.agg #[.string (bs op)], .pointer (some ⟨sb, 0, none⟩)] w fun e w' => (e = .returned (.tuple #[]) ∧ P w') ∨ (e = stopE k ∧ S w') := by
  have HW := mkHid hW
  clear hW
  go_enter Tryz.func387, Tryz.ntmps387
  go_wp2_with fail
  rw [HW.out]
  refine (HT.out _ (SameH.refl _)).mono ?_
  rintro e w1 ⟨rfl, hs1⟩
  go_wp2_with fail
  refine (HP.out _ hs1).mono ?_
  rintro e w2 ⟨t, z, rfl, h2⟩
  have h3 := mkHid (HP2.out _ t z h2)
  clear h2
  go_wp2_with fail
  refine h3.out.mono ?_
  rintro e w3 ⟨t', z', rfl, h4⟩
  obtain ⟨c1, c2⟩ := HB.out _ _ _ _ _ h4
  have h5 := mkHid (HV.out _ _ _ _ _ h4)
  clear h4
  go_wp2_with fail
  refine h5.out.mono ?_
  rintro e w4 (⟨t1, z1, rfl, h6⟩ | ⟨rfl, h6⟩)
  · have h7 := mkHid (HU.out _ _ _ h6)
    clear h6
    go_wp2_with fail
    refine h7.out.mono ?_
    rintro e w5 ⟨rfl, h8⟩
    go_wp2_with fail
    go_end0
    exact Or.inl ⟨rfl, h8⟩
  · go_wp2_with fail
    exact ⟨rfl, Or.inr ⟨rfl, h6⟩⟩
end Go.Proofs.YtblbkfdhjfppkaaGreatDoor

/- Contracts of the program: instructions that are done within the last frame (3): the walks. -/
namespace Go.Proofs.YtblbkfdhjfppkaaGreatDoor
open Go.RowKit
theorem thrownM {P : Program} {ops : Array Oper} {o : Oper} {a : Act} {w : World} {K : Act → World → Prop} {Q : Exit → Act → World → Prop} {E : Prop} (v0 : Value)
    (h : if Region.wanted o (yielded ops a.tmps) = true then Oper.wp P o a w K Q else E) (_d : Hid False → K (a.put o.dst v0) w) :
    if Region.wanted o (yielded ops a.tmps) = true then Oper.wp P o a w K Q else E := h
set_option maxRecDepth 100000 in
set_option maxHeartbeats 1000000 in
theorem unaryDo_ok (w w0 : World) (sb fa fj : Nat) (op : List UInt8) (P : World → Prop) (Q1 Q3 : TypeId → Value → World → Prop) (hW : w.alloc (.cells #[.string (bs op)] 407) = w0)
    (HT : Hid (∀ W, SameH w0 W → Calls Tryz.prog 158 #[.pointer (some ⟨sb, 0, none⟩)] W fun e w' => e = .returned (.pointer (some ⟨fa, fj, none⟩)) ∧ SameH w0 w'))
    (HP : Hid (∀ W, SameH w0 W → Calls Tryz.prog 171 #[.pointer (some ⟨fa, fj, none⟩)] W fun e w' => ∃ t z, e = .returned (.iface t z) ∧ Q1 t z w'))
    (HB : Hid (∀ W t z, Q1 t z W → W.cell? ⟨w.heap.size, 0, none⟩ = some (.string (bs op)) ∧ w.heap.size < W.heap.size))
    (HV : Hid (∀ W t z, Q1 t z W → Calls Tryz.prog 384 #[.string (bs op), .iface t z] W fun e w' => ∃ t1 z1, e = .returned (.iface t1 z1) ∧ Q3 t1 z1 w'))
    (HU : Hid (∀ W t z, Q3 t z W → Calls Tryz.prog 371 #[.pointer (some ⟨fa, fj, none⟩), .iface t z] W fun e w' => e = .returned (.tuple #[]) ∧ P w')) :
    Calls Tryz.prog 383 #[.agg #[.string (bs op)], .pointer (some ⟨sb, 0, none⟩)] w fun e w' => e = .returned (.tuple #[]) ∧ P w' := by
  have hbox : (w.alloc (.cells #[.string (bs op)] 407)).heap[w.heap.size]? = some (.cells #[.string (bs op)] 407 (0, 0)) := heap_first _ _ rfl _
  rw [hW] at hbox
  have HW := mkHid hW
  have HC0 := mkHid (cell_of_block (i := 0) hbox rfl)
  have hlt := lt_of_block hbox
  clear hW hbox
  go_enter Tryz.func383, Tryz.ntmps383
  go_wp2_with fail
  rw [HW.out]
  refine (HT.out _ (SameH.refl _)).mono ?_
  rintro e w1 ⟨rfl, hs1⟩
  have c1 := cell_same hs1.heap HC0.out
  have hl1 := lt_same hs1.heap hlt
  go_wp2_with fail
  go_region_law (go_simp; first | (go_at_call 171; refine (HP.out _ (hs1.trans (SameH.drew _))).mono ?_; rintro e w2 ⟨t, z, rfl, h2⟩; have hb2 := HB.out _ _ _ h2; have b1 := hb2.1; have b2 := hb2.2; clear hb2) | (go_at_call 384; refine (HV.out _ _ _ h2).mono ?_; rintro e w3 ⟨t1, z1, rfl, h3⟩) | (go_at_call 371; refine (HU.out _ _ _ h3).mono ?_; rintro e w4 ⟨rfl, h4⟩))
  all_goals
    go_wp2_with fail
    go_end0
    exact ⟨rfl, h4⟩
set_option maxRecDepth 100000 in
set_option maxHeartbeats 1000000 in
theorem unaryDo_stop (w w0 : World) (sb fa fj : Nat) (op : List UInt8) (k : Nat) (S : World → Prop) (Q1 : TypeId → Value → World → Prop) (hW : w.alloc (.cells #[.string (bs op)] 407) = w0)
    (HT : Hid (∀ W, SameH w0 W → Calls Tryz.prog 158 #[.pointer (some ⟨sb, 0, none⟩)] W fun e w' => e = .returned (.pointer (some ⟨fa, fj, none⟩)) ∧ SameH w0 w'))
    (HP : Hid (∀ W, SameH w0 W → Calls Tryz.prog 171 #[.pointer (some ⟨fa, fj, none⟩)] W fun e w' => ∃ t z, e = .returned (.iface t z) ∧ Q1 t z w'))
    (HB : Hid (∀ W t z, Q1 t z W → W.cell? ⟨w.heap.size, 0, none⟩ = some (.string (bs op)) ∧ w.heap.size < W.heap.size))
    (HV : Hid (∀ W t z, Q1 t z W → Calls Tryz.prog 384 #[.string (bs op), .iface t z] W fun e w' => e = stopE k ∧ S w')) :
    Calls Tryz.prog 383 #[.agg #[.string (bs op)], .pointer (some ⟨sb, 0, none⟩)] w fun e w' => e = stopE k ∧ S w' := by
  have hbox : (w.alloc (.cells #[.string (bs op)] 407)).heap[w.heap.size]? = some (.cells #[.string (bs op)] 407 (0, 0)) := heap_first _ _ rfl _
  rw [hW] at hbox
  have HW := mkHid hW
  have HC0 := mkHid (cell_of_block (i := 0) hbox rfl)
  have hlt := lt_of_block hbox
  clear hW hbox
  go_enter Tryz.func383, Tryz.ntmps383
  go_wp2_with fail
  rw [HW.out]
  refine (HT.out _ (SameH.refl _)).mono ?_
  rintro e w1 ⟨rfl, hs1⟩
  have c1 := cell_same hs1.heap HC0.out
  have hl1 := lt_same hs1.heap hlt
  go_wp2_with fail
  go_region_law (first | (go_simp; go_at_call 171; refine (HP.out _ (hs1.trans (SameH.drew _))).mono ?_; rintro e w2 ⟨t, z, rfl, h2⟩; have hb2 := HB.out _ _ _ h2; have b1 := hb2.1; have b2 := hb2.2; clear hb2) | (refine thrownM (.iface 316 (.bool true)) ?_ ?_; (focus go_simp; go_at_call 384; refine (HV.out _ _ _ h2).mono ?_; rintro e w3 ⟨rfl, h3⟩; exact ⟨rfl, rfl, h3⟩); intro hfalse) | (refine thrownM (.tuple #[]) hfalse.out.elim ?_; intro hfalse2))
  all_goals exact hfalse.out.elim
end Go.Proofs.YtblbkfdhjfppkaaGreatDoor

/- Contracts of the program: instructions that are done within the last frame: what they do. -/
namespace Go.Proofs.YtblbkfdhjfppkaaGreatDoor
open Go.RowKit
theorem cells_vnum (n : Int) : Hs.cells (Hs.vnum n) = 1 := by rw [Hs.cells_eq]; rfl
theorem cells_vtru (b : Bool) : Hs.cells (Hs.vtru b) = 1 := by rw [Hs.cells_eq]; rfl
theorem cells_vnil : Hs.cells Hs.vnil ≤ 200 := by rw [Hs.cells_eq]; decide
theorem one_cells (op : List UInt8) (a : Hs.Val) : Hs.cells (Hs.oneL op a).1 ≤ 200 := by
  unfold Hs.oneL
  repeat' split
  all_goals first | (show Hs.cells (Hs.vnum _) ≤ 200; rw [cells_vnum]; omega) | (show Hs.cells (Hs.vtru _) ≤ 200; rw [cells_vtru]; omega) | exact cells_vnil
theorem ints_cells (op : List UInt8) (x y : Int) : Hs.cells (Hs.intsL op x y).1 ≤ 200 := by
  unfold Hs.intsL
  repeat' split
  all_goals first | (show Hs.cells (Hs.vnum _) ≤ 200; rw [cells_vnum]; omega) | (show Hs.cells (Hs.vtru _) ≤ 200; rw [cells_vtru]; omega) | exact cells_vnil
theorem joined_cells (a b : Hs.Val) : Hs.cells (Hs.joinedL a b).1 ≤ 200 := by
  unfold Hs.joinedL
  dsimp only
  by_cases h : 200 < Hs.cells (if a.sort = 3 then Hs.vlst (a.l ++ b.l) else Hs.vstr (a.s ++ b.s))
  · rw [if_pos h]; exact cells_vnil
  · rw [if_neg h]; exact Nat.le_of_not_lt h
theorem two_cells (op : List UInt8) (a b : Hs.Val) : Hs.cells (Hs.twoL op a b).1 ≤ 200 := by
  unfold Hs.twoL
  repeat' split
  all_goals first | exact ints_cells _ _ _ | exact joined_cells _ _ | (show Hs.cells (Hs.vtru _) ≤ 200; rw [cells_vtru]; omega) | exact cells_vnil
theorem last_of {f : Hs.Frm} {vs : List Hs.Val} {a : Hs.Val} (h : f.ops = vs ++ [a]) : f.last = a := by simp [Hs.Frm.last, h]
theorem pop_ops {f : Hs.Frm} {vs : List Hs.Val} {a : Hs.Val} (h : f.ops = vs ++ [a]) : f.pop.ops = vs := by simp [Hs.Frm.pop, h]
section
variable {fp : Nat → Value} {F : Nat → Prop} {base : Nat} {w : World} {sb gf cap : Nat} {t0 tv outv s0 : Value} {fvs : List FVal} {below : List Hs.Frm} {f : Hs.Frm} {tape : List Int} {out : List (List UInt8)}
theorem RunR.count {m : Hs.Mst} (h : RunR fp F base w sb gf cap t0 tv outv s0 fvs m) : fvs.length = m.frames.length := h.frs.length
theorem RunR.mid (h : RunR fp F base w sb gf cap t0 tv outv s0 fvs ⟨below ++ [f], tape, out⟩) (hb : base ≤ w.heap.size) (ob : Obj) : Mid fp base sb gf below.length t0 s0 (ownList sb gf outv fvs) (w.alloc ob) F ⟨below ++ [f], tape, out⟩ (w.alloc ob) :=
  Mid.init h (by rw [h.count]; simp) hb ob
theorem Mid.topS {own : List Nat} {w0 : World} {G : Nat → Prop} {n : Nat} {m : Hs.Mst} (h : Mid fp base sb gf n t0 s0 own w0 G m w0) (hn : n ≤ 15) : Hid (∀ W, SameH w0 W → Calls Tryz.prog 158 #[.pointer (some ⟨sb, 0, none⟩)] W fun e w' => e = .returned (.pointer (some ⟨gf, n * 6, none⟩)) ∧ SameH w0 w') := fun W hS => by
  refine ((h.same hS).top hn).mono ?_
  rintro e w' ⟨he, hs⟩
  exact ⟨he, hS.trans hs⟩
theorem Mid.box {n : Nat} {G : Nat → Prop} {m : Hs.Mst} {cs : Array Value} {ty : TypeId} {W : World} (h : RunR fp F base w sb gf cap t0 tv outv s0 fvs ⟨below ++ [f], tape, out⟩) (hM : Mid fp base sb gf n t0 s0 (ownList sb gf outv fvs) (w.alloc (.cells cs ty)) G m W) : W.heap[w.heap.size]? = some (.cells cs ty (0, 0)) := by
  rw [hM.old (by simp) (fun hm => Nat.lt_irrefl _ (h.lt _ hm))]
  exact heap_first _ _ rfl _
end
end Go.Proofs.YtblbkfdhjfppkaaGreatDoor

/- Contracts of the program: instructions that are done within the last frame: what they do (3). -/
namespace Go.Proofs.YtblbkfdhjfppkaaGreatDoor
open Go.RowKit
section
variable {fp : Nat → Value} {F : Nat → Prop} {base : Nat} {w : World} {sb gf cap : Nat} {t0 tv outv s0 : Value} {fvs : List FVal} {below : List Hs.Frm} {f : Hs.Frm} {tape : List Int} {out : List (List UInt8)}
theorem Mid.apart {own : List Nat} {w0 : World} {G : Nat → Prop} {n : Nat} {m : Hs.Mst} (h : Mid fp base sb gf n t0 s0 own w0 G m w) : ∀ k, G k → k < w.heap.size ∧ k ≠ gf := by
  obtain ⟨h1, h2, cap, tv, outv, fvs, h3, h4, h5⟩ := h
  exact fun k hk => ⟨(h4.apart k hk).1, fun e => (h4.apart k hk).2 (by simp [ownList, e])⟩
end
end Go.Proofs.YtblbkfdhjfppkaaGreatDoor

/- Instructions that leave the frames where they lie: what they come to. -/
namespace Go.Proofs.YtblbkfdhjfppkaaGreatDoor
open Go.RowKit
def DoneG (fp : Nat → Value) (F : Nat → Prop) (base sb gf : Nat) (t0 s0 : Value) (own : List Nat) (w : World) (m : Hs.Mst) (w' : World) : Prop :=
  Kept own w w' ∧ ∃ G cap tv outv fvs, Ext F G w.heap.size ∧ RunR fp G base w' sb gf cap t0 tv outv s0 fvs m ∧ ∀ k ∈ ownList sb gf outv fvs, k ∈ own ∨ w.heap.size ≤ k
def DoPG (fp : Nat → Value) (F : Nat → Prop) (base sb gf : Nat) (t0 s0 : Value) (own : List Nat) (w : World) (below : List Hs.Frm) (tape : List Int) (out : List (List UInt8)) (r : Hs.Frm × Nat) (e : Ending) (w' : World) : Prop :=
  EndE r.2 e ∧ DoneG fp F base sb gf t0 s0 own w ⟨below ++ [r.1], tape, out⟩ w'
section
variable {fp : Nat → Value} {F : Nat → Prop} {base : Nat} {w : World} {sb gf cap : Nat} {t0 tv outv s0 : Value} {fvs : List FVal} {below : List Hs.Frm} {f : Hs.Frm} {tape : List Int} {out : List (List UInt8)}
theorem DoPG.ok {own : List Nat} {r : Hs.Frm × Nat} {g : Hs.Frm} {w' : World} (hr : r = (g, 0)) (h : DoneG fp F base sb gf t0 s0 own w ⟨below ++ [g], tape, out⟩ w') : DoPG fp F base sb gf t0 s0 own w below tape out r (.returned (.tuple #[])) w' := by
  subst hr; exact ⟨Or.inl ⟨rfl, rfl⟩, h⟩
theorem DoPG.stop {own : List Nat} {r : Hs.Frm × Nat} {g : Hs.Frm} {k : Nat} {w' : World} (hr : r = (g, k)) (hk : k ≠ 0) (h : DoneG fp F base sb gf t0 s0 own w ⟨below ++ [g], tape, out⟩ w') : DoPG fp F base sb gf t0 s0 own w below tape out r (stopE k) w' := by
  subst hr; exact ⟨Or.inr ⟨hk, rfl⟩, h⟩
theorem Mid.doneG {n : Nat} {own : List Nat} {m : Hs.Mst} {w' : World} {G : Nat → Prop} {ob : Obj} (h : Mid fp base sb gf n t0 s0 own (w.alloc ob) G m w') (hF : Ext F G w.heap.size) : DoneG fp F base sb gf t0 s0 own w m w' := by
  obtain ⟨h1, h2, cap, tv, outv, fvs, h3, h4, h5⟩ := h
  exact ⟨(Kept.of_below (own := own) ((Below.refl _ w).alloc (Nat.le_refl _) ob)).trans h1 (fun x hx => Or.inl hx), G, cap, tv, outv, fvs, hF, h4, fun k hk => by
    rcases h5 k hk with h | h
    · exact Or.inl h
    · exact Or.inr (Nat.le_trans (by simp) h)⟩
set_option maxRecDepth 100000 in
theorem pushDo_anyG (fp : Nat → Value) (F : Nat → Prop) (base : Nat) (w : World) (sb gf cap : Nat) (t0 tv outv s0 : Value) (fvs : List FVal) (below : List Hs.Frm) (f : Hs.Frm) (tape : List Int) (out : List (List UInt8)) (u : Value) (a : Hs.Val)
    (h : RunR fp F base w sb gf cap t0 tv outv s0 fvs ⟨below ++ [f], tape, out⟩) (hu : PV F w u a) (hca : Hs.cells a ≤ 200) (hops : f.ops.length ≤ 100000) (hbel : below.length ≤ 15) (hbase : base ≤ w.heap.size) :
    Calls Tryz.prog 370 #[.agg #[u], .pointer (some ⟨sb, 0, none⟩)] w fun e w' => e = .returned (.tuple #[]) ∧ DoneG fp F base sb gf t0 s0 (ownList sb gf outv fvs) w ⟨below ++ [f.push a], tape, out⟩ w' := by
  obtain ⟨t, z, rfl⟩ := hu.form
  have hb0 : Below w.heap.size w (w.alloc (.cells #[.iface t z] 361)) := (Below.refl _ _).alloc (Nat.le_refl _) _
  have hbox : (w.alloc (.cells #[.iface t z] 361)).heap[w.heap.size]? = some (.cells #[.iface t z] 361 (0, 0)) := heap_first _ _ rfl _
  have h0 := h.grow hb0 (fun _ h => h) (fun _ h => Or.inl h)
  have hu0 : PV F (w.alloc (.cells #[.iface t z] 361)) (.iface t z) a := hu.keep fun k hk => hb0.block k (h.apart k hk).1
  generalize hW : w.alloc (.cells #[.iface t z] 361) = w0 at *
  have HW := mkHid hW
  obtain ⟨fb, v, cur, rfl, hfl, hv, hblk, hcur, hcap, k0, k1, k2, k3, k4, k5⟩ := h0.top
  obtain ⟨⟨xs, hown, hxs⟩, hc200⟩ := hv.ops
  have hgv : v.ov.ownBlock ≠ some gf := fun e => by
    have := (List.nodup_cons.1 (List.nodup_cons.1 h0.nodup).2).1
    exact this (by simp [ownsAll, FVal.owns, e])
  have HT : Hid (∀ W, SameH w0 W → Calls Tryz.prog 158 #[.pointer (some ⟨sb, 0, none⟩)] W fun e w' => e = .returned (.pointer (some ⟨gf, fb.length * 6, none⟩)) ∧ SameH w0 w') := fun W hS => by
    refine (top_any sb gf fb.length cap W (cell_same hS.heap (cell_of_block hblk rfl)) (by omega)).mono ?_
    rintro e w' ⟨he, q, rfl⟩
    exact ⟨he, hS.trans (SameH.drewN _ _)⟩
  have HP : Hid (∀ W, SameH w0 W → Calls Tryz.prog 371 #[.pointer (some ⟨gf, fb.length * 6, none⟩), .iface t z] W fun e w' => e = .returned (.tuple #[]) ∧ DoneG fp F base sb gf t0 s0 (ownList sb gf outv (fb ++ [v])) w ⟨below ++ [f.push a], tape, out⟩ w') := fun W hS => by
    have hbW := hS.below
    have hR := h0.grow hbW (fun _ h => h) (fun _ h => Or.inl h)
    refine (fpush_any base gf (fb.length * 6) f.ops.length cur v.ov xs t z W (by rw [hS.heap]; exact hcur) k5 (ownsRow_keep hown fun k _ => by rw [hS.heap]) hgv (by rw [hS.heap]; exact Nat.le_trans hbase hb0.size) (by omega)).mono ?_
    rintro e w' ⟨he, ov', p1, p2, p3, p4⟩
    obtain ⟨q1, q2⟩ := hR.pushed (cur := cur) (by rw [hS.heap]; exact hcur) (hxs.keep fun k _ => by rw [hS.heap]) (hu0.keep fun k _ => by rw [hS.heap]) hca p1 p2 p3 p4
    have hk : Kept (ownList sb gf outv (fb ++ [v])) w w' := (Kept.of_below (own := ownList sb gf outv (fb ++ [v])) (hb0.trans (hbW.mono hb0.size))).trans q2 fun x hx => Or.inl hx
    refine ⟨he, hk, F, cap, tv, outv, _, Ext.refl _ _, q1, fun k hk' => ?_⟩
    have hsz : W.heap.size = w0.heap.size := by rw [hS.heap]
    have h1 : ownList sb gf outv (fb ++ [{ v with ov := ov' }]) = (sb :: gf :: (outv.ownBlock.toList ++ ownsAll fb)) ++ ({ v with ov := ov' } : FVal).owns := by simp [ownList, ownsAll]
    have h2 : ownList sb gf outv (fb ++ [v]) = (sb :: gf :: (outv.ownBlock.toList ++ ownsAll fb)) ++ v.owns := by simp [ownList, ownsAll]
    rw [h1] at hk'
    rw [h2]
    rcases List.mem_append.1 hk' with h3 | h3
    · exact Or.inl (List.mem_append_left _ h3)
    · rcases List.mem_append.1 h3 with h3 | h3
      · exact Or.inl (List.mem_append_right _ (List.mem_append_left _ h3))
      · have h4 : ov'.ownBlock = some k := by simpa using h3
        rcases p3 k h4 with h5 | h5
        · exact Or.inl (List.mem_append_right _ (by simp [FVal.owns, h5]))
        · exact Or.inr (by have := hb0.size; omega)
  clear hown hxs hc200 hgv
  exact pushDo_walk w w0 sb gf (fb.length * 6) t z _ HW.out HT HP
theorem unary_doG (op : List UInt8) (ho : op = [45] ∨ op = [33]) (h : RunR fp F base w sb gf cap t0 tv outv s0 fvs ⟨below ++ [f], tape, out⟩) (hbel : below.length ≤ 15) (hbase : base ≤ w.heap.size) (hops : f.ops.length ≤ 99000) (hne : ∃ vs a, f.ops = vs ++ [a]) :
    Calls Tryz.prog 383 #[.agg #[.string (bs op)], .pointer (some ⟨sb, 0, none⟩)] w (DoPG fp F base sb gf t0 s0 (ownList sb gf outv fvs) w below tape out (Hs.inFrame (.unary op) f)) := by
  obtain ⟨vs, a, hf⟩ := hne
  have hM := h.mid hbase (.cells #[.string (bs op)] 407)
  have hl : f.pop.ops.length ≤ 100000 := by rw [pop_ops hf]; rw [hf, List.length_append] at hops; omega
  have hun : ∀ (W : World) (v : Value), PV F W v a → Calls Tryz.prog 384 #[.string (bs op), v] W (ValQ F W (Hs.oneL (op ++ [120]) a)) := fun W v hv => by
    rcases ho with rfl | rfl
    · exact punary_any 45 (Or.inl rfl) F v a W hv
    · exact punary_any 33 (Or.inr rfl) F v a W hv
  have hr : Hs.inFrame (.unary op) f = if (Hs.oneL (op ++ [120]) a).2 = 0 then (f.pop.push (Hs.oneL (op ++ [120]) a).1, 0) else (f.pop, (Hs.oneL (op ++ [120]) a).2) := by simp [Hs.inFrame, last_of hf]
  have hcl := one_cells (op ++ [120]) a
  generalize Hs.oneL (op ++ [120]) a = r at hun hr hcl
  rw [hr]
  have HP : Hid (∀ W, SameH (w.alloc (.cells #[.string (bs op)] 407)) W → Calls Tryz.prog 171 #[.pointer (some ⟨gf, below.length * 6, none⟩)] W fun e w' => ∃ t z, e = .returned (.iface t z) ∧ PV F w' (.iface t z) a ∧ Mid fp base sb gf below.length t0 s0 (ownList sb gf outv fvs) (w.alloc (.cells #[.string (bs op)] 407)) F ⟨below ++ [f.pop], tape, out⟩ w') := fun W hS => by
    refine ((hM.same hS).pop hf (by omega)).mono ?_
    rintro e w' ⟨t, z, he, h1, h2, h3⟩
    exact ⟨t, z, he, h1, h3⟩
  by_cases hz : r.2 = 0
  · rw [if_pos hz]
    refine (unaryDo_ok w _ sb gf (below.length * 6) op (fun w' => DoneG fp F base sb gf t0 s0 (ownList sb gf outv fvs) w ⟨below ++ [f.pop.push r.1], tape, out⟩ w') (fun t z W => PV F W (.iface t z) a ∧ Mid fp base sb gf below.length t0 s0 (ownList sb gf outv fvs) (w.alloc (.cells #[.string (bs op)] 407)) F ⟨below ++ [f.pop], tape, out⟩ W) (fun t z W => PV F W (.iface t z) r.1 ∧ Mid fp base sb gf below.length t0 s0 (ownList sb gf outv fvs) (w.alloc (.cells #[.string (bs op)] 407)) F ⟨below ++ [f.pop], tape, out⟩ W) rfl (hM.topS hbel) HP (fun W t z hq => ?_) (fun W t z hq => ?_) (fun W t z hq => ?_)).mono ?_
    · have hb := Mid.box h hq.2
      exact ⟨cell_of_block hb rfl, lt_of_block hb⟩
    · refine (hun W _ hq.1).mono ?_
      rintro e w' ⟨rfl, ⟨_, u, rfl, hu⟩ | ⟨hk, _⟩⟩
      · obtain ⟨t1, z1, rfl⟩ := hu.form
        exact ⟨t1, z1, rfl, hu, hq.2⟩
      · exact absurd hz hk
    · refine (hq.2.push hq.1 hcl hl).mono ?_
      rintro e w' ⟨he, h4⟩
      exact ⟨he, h4.doneG (Ext.refl _ _)⟩
    · rintro e w' ⟨rfl, h2⟩
      exact DoPG.ok rfl h2
  · rw [if_neg hz]
    refine (unaryDo_stop w _ sb gf (below.length * 6) op r.2 (fun w' => DoneG fp F base sb gf t0 s0 (ownList sb gf outv fvs) w ⟨below ++ [f.pop], tape, out⟩ w') (fun t z W => PV F W (.iface t z) a ∧ Mid fp base sb gf below.length t0 s0 (ownList sb gf outv fvs) (w.alloc (.cells #[.string (bs op)] 407)) F ⟨below ++ [f.pop], tape, out⟩ W) rfl (hM.topS hbel) HP (fun W t z hq => ?_) (fun W t z hq => ?_)).mono ?_
    · have hb := Mid.box h hq.2
      exact ⟨cell_of_block hb rfl, lt_of_block hb⟩
    · refine (hun W _ hq.1).mono ?_
      rintro e w' ⟨rfl, ⟨hk, _⟩ | ⟨hk, rfl⟩⟩
      · exact absurd hk hz
      · exact ⟨rfl, hq.2.doneG (Ext.refl _ _)⟩
    · rintro e w' ⟨rfl, h2⟩
      exact DoPG.stop rfl hz h2
theorem binary_doG (op : List UInt8) (h : RunR fp F base w sb gf cap t0 tv outv s0 fvs ⟨below ++ [f], tape, out⟩) (hbel : below.length ≤ 15) (hbase : base ≤ w.heap.size) (hops : f.ops.length ≤ 99000) (hne : ∃ vs a b, f.ops = vs ++ [a, b]) :
    Calls Tryz.prog 387 #[.agg #[.string (bs op)], .pointer (some ⟨sb, 0, none⟩)] w (DoPG fp F base sb gf t0 s0 (ownList sb gf outv fvs) w below tape out (Hs.inFrame (.binary op) f)) := by
  obtain ⟨vs, a, b, hf⟩ := hne
  have hf : f.ops = (vs ++ [a]) ++ [b] := by rw [hf]; simp
  have hM := h.mid hbase (.cells #[.string (bs op)] 435)
  have hf2 : f.pop.ops = vs ++ [a] := pop_ops hf
  have hlen := hops
  rw [hf, List.length_append, List.length_append] at hlen
  have hl1 : f.pop.ops.length ≤ 100000 := by rw [hf2, List.length_append]; omega
  have hl2 : f.pop.pop.ops.length ≤ 100000 := by rw [pop_ops hf2]; omega
  have hr : Hs.inFrame (.binary op) f = if (Hs.twoL op a b).2 = 0 then (f.pop.pop.push (Hs.twoL op a b).1, 0) else (f.pop.pop, (Hs.twoL op a b).2) := by simp [Hs.inFrame, last_of hf, last_of hf2]
  have hcl := two_cells op a b
  have hbi : ∀ (W : World) (u v : Value), PV F W u a → PV F W v b → (∀ k, F k → k < W.heap.size) → Hs.cells a ≤ 200 → Hs.cells b ≤ 200 → Calls Tryz.prog 388 #[.string (bs op), u, v] W (ValG F W (Hs.twoL op a b)) := fun W u v h1 h2 h3 h4 h5 => pbinary_any op F u v a b W h1 h2 h3 (by omega) (by omega)
  generalize Hs.twoL op a b = r at hbi hr hcl
  rw [hr]
  refine (binaryDo_walk w _ sb gf (below.length * 6) op r.2 (fun w' => r.2 = 0 ∧ DoneG fp F base sb gf t0 s0 (ownList sb gf outv fvs) w ⟨below ++ [f.pop.pop.push r.1], tape, out⟩ w') (fun w' => r.2 ≠ 0 ∧ DoneG fp F base sb gf t0 s0 (ownList sb gf outv fvs) w ⟨below ++ [f.pop.pop], tape, out⟩ w')
    (fun t z W => PV F W (.iface t z) b ∧ Hs.cells b ≤ 200 ∧ Mid fp base sb gf below.length t0 s0 (ownList sb gf outv fvs) (w.alloc (.cells #[.string (bs op)] 435)) F ⟨below ++ [f.pop], tape, out⟩ W)
    (fun t z t' z' W => PV F W (.iface t z) b ∧ Hs.cells b ≤ 200 ∧ PV F W (.iface t' z') a ∧ Hs.cells a ≤ 200 ∧ Mid fp base sb gf below.length t0 s0 (ownList sb gf outv fvs) (w.alloc (.cells #[.string (bs op)] 435)) F ⟨below ++ [f.pop.pop], tape, out⟩ W)
    (fun t z W => r.2 = 0 ∧ ∃ G, Ext F G w.heap.size ∧ PV G W (.iface t z) r.1 ∧ Mid fp base sb gf below.length t0 s0 (ownList sb gf outv fvs) (w.alloc (.cells #[.string (bs op)] 435)) G ⟨below ++ [f.pop.pop], tape, out⟩ W) rfl (hM.topS hbel) (fun W hS => ?_) (fun W t z hq => ?_) (fun W t z t' z' hq => ?_) (fun W t z t' z' hq => ?_) (fun W t z hq => ?_)).mono ?_
  · refine ((hM.same hS).pop hf (by omega)).mono ?_
    rintro e w' ⟨t, z, he, h1, h2, h3⟩
    exact ⟨t, z, he, h1, h2, h3⟩
  · obtain ⟨h1, h2, h3⟩ := hq
    refine (h3.popK hf2 hl1).mono ?_
    rintro e w' ⟨t', z', he, k1, k2, k3, k4⟩
    exact ⟨t', z', he, h1.keep k4, h2, k1, k2, k3⟩
  · have hb := Mid.box h hq.2.2.2.2
    exact ⟨cell_of_block hb rfl, lt_of_block hb⟩
  · obtain ⟨h1, h2, h3, h4, h5⟩ := hq
    refine (hbi W _ _ h3 h1 (fun k hk => (h5.apart k hk).1) h4 h2).mono ?_
    rintro e w' ⟨hb, ⟨hz, u, rfl, hu⟩ | ⟨hz, rfl⟩⟩
    · obtain ⟨t1, z1, rfl⟩ := hu.form
      exact Or.inl ⟨t1, z1, rfl, hz, Grow F W w', ⟨fun _ => Or.inl, fun k hk => hk.imp_right fun h1 => Nat.le_trans (Nat.le_trans (by simp) h5.1.size) h1.1⟩, hu, h5.grow hb (fun _ => Or.inl) fun _ h => h⟩
    · exact Or.inr ⟨rfl, hz, (h5.grow hb (fun _ h => h) fun _ => Or.inl).doneG (Ext.refl _ _)⟩
  · obtain ⟨hz, G, hG, h1, h2⟩ := hq
    refine (h2.push h1 hcl hl2).mono ?_
    rintro e w' ⟨he, h4⟩
    exact ⟨he, hz, h4.doneG hG⟩
  · rintro e w' (⟨rfl, h1, h2⟩ | ⟨rfl, h1, h2⟩)
    · exact DoPG.ok (if_pos h1) h2
    · exact DoPG.stop (if_neg h1) h1 h2
end
end Go.Proofs.YtblbkfdhjfppkaaGreatDoor

/- Contracts of the program: a variable is declared: what it does. -/
namespace Go.Proofs.YtblbkfdhjfppkaaGreatDoor
open Go.RowKit
section
variable {fp : Nat → Value} {F : Nat → Prop} {base : Nat} {w : World} {sb gf cap : Nat} {t0 tv outv s0 : Value} {fvs : List FVal} {below : List Hs.Frm} {f : Hs.Frm} {tape : List Int} {out : List (List UInt8)}
theorem RunR.popR {fb : List FVal} {v : FVal} {vs : List Hs.Val} {a : Hs.Val} (h : RunR fp F base w sb gf cap t0 tv outv s0 (fb ++ [v]) ⟨below ++ [f], tape, out⟩) (hf : f.ops = vs ++ [a]) (hops : f.ops.length ≤ 100000) :
    Calls Tryz.prog 171 #[.pointer (some ⟨gf, fb.length * 6, none⟩)] w fun e w' => ∃ t z ov', e = .returned (.iface t z) ∧ PV F w' (.iface t z) a ∧ Hs.cells a ≤ 200 ∧ ov'.ownBlock = v.ov.ownBlock ∧ RunR fp F base w' sb gf cap t0 tv outv s0 (fb ++ [{ v with ov := ov' }]) ⟨below ++ [f.pop], tape, out⟩ ∧ Kept (ownList sb gf outv (fb ++ [v])) w w' ∧ ∀ k, k ≠ gf → w'.heap[k]? = w.heap[k]? := by
  obtain ⟨fb', v0, cur, e, hfl, hv, hblk, hcur, hcap, k0, k1, k2, k3, k4, k5⟩ := h.top
  obtain ⟨rfl, e2⟩ := List.append_inj' e rfl
  cases e2
  obtain ⟨⟨xs, hown, hxs⟩, hc200⟩ := hv.ops
  rw [hf] at hown hxs hc200 hops
  obtain ⟨xs', u, rfl, hl, hxs', hu⟩ := RowP.unsnoc hxs
  obtain ⟨t, z, rfl⟩ := hu.form
  rw [List.length_append] at hown hops
  refine (fpop_any base gf (fb.length * 6) vs.length cur v.ov xs' _ w hcur k5 hown hl ⟨t, z, rfl⟩ (by omega)).mono ?_
  rintro e w' ⟨rfl, ov', rfl, p2, p3⟩
  have hpop : f.pop.ops = vs := by simp [Hs.Frm.pop, hf]
  have hfr : FrR fp F base w { v with ov := ov' } f.pop := ⟨hv.fn, hv.nx, hv.ln, hv.sp, hv.vars, ⟨xs', by rw [hpop]; exact p2, by rw [hpop]; exact hxs'⟩, fun b hb => hc200 b (List.mem_append_left _ (by rw [hpop] at hb; exact hb))⟩
  obtain ⟨q1, q2⟩ := h.setTop (j := 5) (x := ov') (v' := { v with ov := ov' }) (by omega) rfl (by simp [FVal.owns, p3]) hfr
  have hgf : ∀ k, F k → (w.setCell ⟨gf, fb.length * 6 + 5, none⟩ ov').heap[k]? = w.heap[k]? := fun k hk => Below.heap_setCell _ _ _ _ fun e => (h.apart k hk).2 (by simp [ownList, e])
  exact ⟨t, z, ov', rfl, hu.keep hgf, hc200 a (by simp), p3, q1, q2, fun k hk => Below.heap_setCell _ _ _ _ hk⟩
end
end Go.Proofs.YtblbkfdhjfppkaaGreatDoor

/- Contracts of the program: a number is read from the tape: the walks. -/
namespace Go.Proofs.YtblbkfdhjfppkaaGreatDoor
open Go.RowKit
section
variable {fp : Nat → Value} {F : Nat → Prop} {base : Nat} {w : World} {sb gf cap : Nat} {t0 tv outv s0 : Value} {fvs : List FVal} {below : List Hs.Frm} {f : Hs.Frm} {tape : List Int} {out : List (List UInt8)}
def DoM (fp : Nat → Value) (F : Nat → Prop) (base sb : Nat) (t0 s0 : Value) (own : List Nat) (w : World) (r : Hs.Mst × Nat) (e : Ending) (w' : World) : Prop :=
  EndE r.2 e ∧ Done fp F base sb t0 s0 own w r.1 w'
end
end Go.Proofs.YtblbkfdhjfppkaaGreatDoor

/- Contracts of the program: a call gives its value. -/
namespace Go.Proofs.YtblbkfdhjfppkaaGreatDoor
open Go.RowKit
set_option maxRecDepth 100000 in
set_option maxHeartbeats 2000000 in
theorem giveDo_last (w w0 : World) (sb fa fj gf cap : Nat) (P : World → Prop) (Q : TypeId → Value → World → Prop) (hW : w.alloc (.cells #[] 363) = w0) (hcap : 1 ≤ cap)
    (HT : Hid (∀ W, SameH w0 W → Calls Tryz.prog 158 #[.pointer (some ⟨sb, 0, none⟩)] W fun e w' => e = .returned (.pointer (some ⟨fa, fj, none⟩)) ∧ SameH w0 w'))
    (HP : Hid (∀ W, SameH w0 W → Calls Tryz.prog 171 #[.pointer (some ⟨fa, fj, none⟩)] W fun e w' => ∃ t z, e = .returned (.iface t z) ∧ Q t z w'))
    (HB : Hid (∀ W t z, Q t z W → W.cell? ⟨sb, 1, none⟩ = some (.slice (some ⟨gf, 0, none⟩) 1 cap) ∧ W.frozen? ⟨sb, 1, none⟩ = false ∧ sb < W.heap.size))
    (HN : Hid (∀ W t z, Q t z W → P (W.drew.setCell ⟨sb, 1, none⟩ (.slice (some ⟨gf, 0, none⟩) 0 cap)))) :
    Calls Tryz.prog 372 #[.agg #[], .pointer (some ⟨sb, 0, none⟩)] w fun e w' => e = .returned (.tuple #[]) ∧ P w' := by
  have HW := mkHid hW
  have e2 : (0 : Int) ≤ (cap : Int) := by omega
  clear hW
  go_enter Tryz.func372, Tryz.ntmps372
  go_wp2_with fail
  rw [HW.out]
  refine (HT.out _ (SameH.refl _)).mono ?_
  rintro e w1 ⟨rfl, hs1⟩
  go_wp2_with fail
  refine (HP.out _ hs1).mono ?_
  rintro e w2 ⟨t, z, rfl, h2⟩
  obtain ⟨b1, b2, b3⟩ := HB.out _ _ _ h2
  have h3 := mkHid (HN.out _ _ _ h2)
  clear h2
  go_wp2_with fail
  go_region
  all_goals
    go_wp2_with fail
    go_end0
    exact ⟨rfl, h3.out⟩
set_option maxRecDepth 100000 in
set_option maxHeartbeats 2000000 in
theorem giveDo_more (w w0 : World) (sb fa fj gf cap n ga gj : Nat) (P : World → Prop) (Q Q2 : TypeId → Value → World → Prop) (hW : w.alloc (.cells #[] 363) = w0) (hcap : n + 2 ≤ cap) (hn : n ≤ 1000)
    (HT : Hid (∀ W, SameH w0 W → Calls Tryz.prog 158 #[.pointer (some ⟨sb, 0, none⟩)] W fun e w' => e = .returned (.pointer (some ⟨fa, fj, none⟩)) ∧ SameH w0 w'))
    (HP : Hid (∀ W, SameH w0 W → Calls Tryz.prog 171 #[.pointer (some ⟨fa, fj, none⟩)] W fun e w' => ∃ t z, e = .returned (.iface t z) ∧ Q t z w'))
    (HB : Hid (∀ W t z, Q t z W → W.cell? ⟨sb, 1, none⟩ = some (.slice (some ⟨gf, 0, none⟩) (n + 2) cap) ∧ W.frozen? ⟨sb, 1, none⟩ = false ∧ sb < W.heap.size))
    (HT2 : Hid (∀ W t z, Q t z W → Calls Tryz.prog 158 #[.pointer (some ⟨sb, 0, none⟩)] (W.drew.setCell ⟨sb, 1, none⟩ (.slice (some ⟨gf, 0, none⟩) (n + 1) cap)) fun e w' => e = .returned (.pointer (some ⟨ga, gj, none⟩)) ∧ Q2 t z w'))
    (HU : Hid (∀ W t z, Q2 t z W → Calls Tryz.prog 371 #[.pointer (some ⟨ga, gj, none⟩), .iface t z] W fun e w' => e = .returned (.tuple #[]) ∧ P w')) :
    Calls Tryz.prog 372 #[.agg #[], .pointer (some ⟨sb, 0, none⟩)] w fun e w' => e = .returned (.tuple #[]) ∧ P w' := by
  have HW := mkHid hW
  have e1 : (0 : Int) ≤ (n : Int) + 1 := by omega
  have e2 : (n : Int) + 1 ≤ (cap : Int) := by omega
  have e3 : (0 : Int) < (n : Int) + 1 := by omega
  have e4 : (n : Int) + 2 - 1 = (n : Int) + 1 := by omega
  clear hW
  go_enter Tryz.func372, Tryz.ntmps372
  go_wp2_with fail
  rw [HW.out]
  refine (HT.out _ (SameH.refl _)).mono ?_
  rintro e w1 ⟨rfl, hs1⟩
  go_wp2_with fail
  refine (HP.out _ hs1).mono ?_
  rintro e w2 ⟨t, z, rfl, h2⟩
  obtain ⟨b1, b2, b3⟩ := HB.out _ _ _ h2
  have h3 := mkHid (HT2.out _ _ _ h2)
  clear h2
  go_wp2_with fail
  go_region
  all_goals
    go_wp2_with fail
    refine h3.out.mono ?_
    rintro e w3 ⟨rfl, h4⟩
    go_wp2_with fail
    refine (HU.out _ _ _ h4).mono ?_
    rintro e w4 ⟨rfl, h5⟩
    go_wp2_with fail
    go_end0
    exact ⟨rfl, h5⟩
section
variable {fp : Nat → Value} {F : Nat → Prop} {base : Nat} {w : World} {sb gf cap : Nat} {t0 tv outv s0 : Value} {fvs : List FVal} {below : List Hs.Frm} {f : Hs.Frm} {tape : List Int} {out : List (List UInt8)}
theorem RunR.dropTop {fb : List FVal} {v : FVal} (h : RunR fp F base w sb gf cap t0 tv outv s0 (fb ++ [v]) ⟨below ++ [f], tape, out⟩) :
    RunR fp F base (w.setCell ⟨sb, 1, none⟩ (.slice (some ⟨gf, 0, none⟩) fb.length cap)) sb gf cap t0 tv outv s0 fb ⟨below, tape, out⟩ ∧ Kept (ownList sb gf outv (fb ++ [v])) w (w.setCell ⟨sb, 1, none⟩ (.slice (some ⟨gf, 0, none⟩) fb.length cap)) := by
  generalize hV : Value.slice (some ⟨gf, 0, none⟩) fb.length cap = V
  have hk : ∀ k, k ≠ sb → (w.setCell ⟨sb, 1, none⟩ V).heap[k]? = w.heap[k]? := fun k hk => Below.heap_setCell _ _ _ _ hk
  have hns := (List.nodup_cons.1 h.nodup).1
  have hall : ownsAll (fb ++ [v]) = ownsAll fb ++ v.owns := by simp [ownsAll]
  have hmem : ∀ k, k ∈ ownList sb gf outv fb → k ∈ ownList sb gf outv (fb ++ [v]) := fun k hm => by
    unfold ownList at hm ⊢
    rw [hall]
    simp only [List.mem_cons, List.mem_append] at hm ⊢
    rcases hm with h1 | h1 | h1 | h1
    · exact Or.inl h1
    · exact Or.inr (Or.inl h1)
    · exact Or.inr (Or.inr (Or.inl h1))
    · exact Or.inr (Or.inr (Or.inr (Or.inl h1)))
  have hFk : ∀ b, F b → (w.setCell ⟨sb, 1, none⟩ V).heap[b]? = w.heap[b]? := fun b hb => hk b fun e => (h.apart b hb).2 (by simp [ownList, e])
  have hin : ∀ k, k ∈ gf :: (outv.ownBlock.toList ++ ownsAll (fb ++ [v])) → (w.setCell ⟨sb, 1, none⟩ V).heap[k]? = w.heap[k]? := fun k hm => hk k fun e => hns (by rw [← e]; exact hm)
  obtain ⟨vs', v0, e, hfb, hv⟩ := FrsR.unsnoc h.frs
  obtain ⟨rfl, e2⟩ := List.append_inj' e rfl
  refine ⟨⟨?_, ?_, hfb.keep hFk (fun _ h => h) fun u hu k hk' => hin k ?_, h.tape.keep hFk fun _ h => h, ownsRow_keep h.out fun k hk' => hin k (by simp [hk']), ?_, fun k hk' => Nat.lt_of_lt_of_le (h.lt k (hmem k hk')) (by simp), fun k hk' => ⟨Nat.lt_of_lt_of_le (h.apart k hk').1 (by simp), fun hm => (h.apart k hk').2 (hmem k hm)⟩⟩, ⟨rfl, rfl, rfl, by simp, fun k _ hn => hk k fun e => hn (by simp [ownList, e])⟩⟩
  · rw [heap_setCell_at h.blk, ← hV]; rfl
  · rcases h.row.2 with ⟨r1, _⟩ | ⟨g', c', cur, r1, r2, r3, r4, r5, r6, r7⟩
    · cases r1
    · cases r1
      rw [List.length_append] at r4 r7
      refine ⟨by rw [flat6_length], Or.inr ⟨gf, cap, cur, rfl, r2, ?_, by omega, r5, r6, ?_⟩⟩
      · rw [hin gf (by simp)]; exact r3
      · have := congrArg (List.take (fb.length * 6)) r7
        rw [List.take_take, show min (fb.length * 6) ((fb.length + [v].length) * 6) = fb.length * 6 by simp, flat6_append] at this
        rw [this, List.take_left' (by rw [flat6_length])]
  · have : k ∈ ownsAll fb := List.mem_flatMap.2 ⟨u, hu, hk'⟩
    rw [hall]; simp [this]
  · have e1 : ownList sb gf outv (fb ++ [v]) = ownList sb gf outv fb ++ v.owns := by simp [ownList, hall]
    have := h.nodup
    rw [e1] at this
    exact (List.nodup_append.1 this).1
theorem ownList_sub (sb gf : Nat) (outv : Value) (fb : List FVal) (v : FVal) : ∀ k, k ∈ ownList sb gf outv fb → k ∈ ownList sb gf outv (fb ++ [v]) := fun k hm => by
  have e1 : ownList sb gf outv (fb ++ [v]) = ownList sb gf outv fb ++ v.owns := by simp [ownList, ownsAll]
  rw [e1]; exact List.mem_append_left _ hm
def GivQ (fp : Nat → Value) (F : Nat → Prop) (base sb gf cap : Nat) (t0 tv outv s0 : Value) (fb : List FVal) (v : FVal) (below : List Hs.Frm) (f : Hs.Frm) (tape : List Int) (out : List (List UInt8)) (w0 : World) (a : Hs.Val) (t : TypeId) (z : Value) (W : World) : Prop :=
  PV F W (.iface t z) a ∧ Hs.cells a ≤ 200 ∧ ∃ v', v'.owns = v.owns ∧ RunR fp F base W sb gf cap t0 tv outv s0 (fb ++ [v']) ⟨below ++ [f.pop], tape, out⟩ ∧ Kept (ownList sb gf outv (fb ++ [v])) w0 W
theorem GivQ.gone {fb : List FVal} {v : FVal} {w0 W : World} {a : Hs.Val} {t : TypeId} {z : Value} (hq : GivQ fp F base sb gf cap t0 tv outv s0 fb v below f tape out w0 a t z W) :
    PV F (W.drew.setCell ⟨sb, 1, none⟩ (.slice (some ⟨gf, 0, none⟩) fb.length cap)) (.iface t z) a ∧ RunR fp F base (W.drew.setCell ⟨sb, 1, none⟩ (.slice (some ⟨gf, 0, none⟩) fb.length cap)) sb gf cap t0 tv outv s0 fb ⟨below, tape, out⟩ ∧ Kept (ownList sb gf outv (fb ++ [v])) w0 (W.drew.setCell ⟨sb, 1, none⟩ (.slice (some ⟨gf, 0, none⟩) fb.length cap)) := by
  obtain ⟨h1, h2, v', h3, h4, h5⟩ := hq
  have hd := h4.grow (SameH.drew W).below (fun _ h => h) (fun _ h => Or.inl h)
  obtain ⟨q1, q2⟩ := hd.dropTop
  have e : ownList sb gf outv (fb ++ [v']) = ownList sb gf outv (fb ++ [v]) := by simp [ownList, ownsAll, h3]
  rw [e] at q2
  refine ⟨(h1.keep (w' := W.drew) fun _ _ => rfl).keep fun k hk => Below.heap_setCell _ _ _ _ fun e => (h4.apart k hk).2 (by simp [ownList, e]), q1, (h5.trans (Kept.of_below (own := []) (SameH.drew W).below) (fun x hx => by simp at hx)).trans q2 fun _ h => Or.inl h⟩
theorem give_do (tab : List Hs.Fn) (h : RunR fp F base w sb gf cap t0 tv outv s0 fvs ⟨below ++ [f], tape, out⟩) (hbel : below.length ≤ 15) (hbase : base ≤ w.heap.size) (hops : f.ops.length ≤ 99000) (hne : ∃ vs a, f.ops = vs ++ [a]) (hgo : ∀ g ∈ below, g.ops.length ≤ 99000) :
    Calls Tryz.prog 372 #[.agg #[], .pointer (some ⟨sb, 0, none⟩)] w (DoM fp F base sb t0 s0 (ownList sb gf outv fvs) w (Hs.doI tab .give below f tape out)) := by
  obtain ⟨vs, a, hf⟩ := hne
  have hM := h.mid hbase (.cells #[] 363)
  obtain ⟨fb, v, cur, rfl, hfl, -, -, -, hcap, -⟩ := h.top
  have hb0 : Below w.heap.size w (w.alloc (.cells #[] 363)) := (Below.refl _ w).alloc (Nat.le_refl _) _
  have h0 := h.grow hb0 (fun _ h => h) (fun _ h => Or.inl h)
  have hT := hM.topS hbel
  rw [← hfl] at hT
  have HP : Hid (∀ W, SameH (w.alloc (.cells #[] 363)) W → Calls Tryz.prog 171 #[.pointer (some ⟨gf, fb.length * 6, none⟩)] W fun e w' => ∃ t z, e = .returned (.iface t z) ∧ GivQ fp F base sb gf cap t0 tv outv s0 fb v below f tape out (w.alloc (.cells #[] 363)) a t z w') := fun W hS => by
    refine ((h0.grow hS.below (fun _ h => h) (fun _ h => Or.inl h)).popR hf (by omega)).mono ?_
    rintro e w' ⟨t, z, ov', he, h1, h2, h3, h4, h5, h6⟩
    exact ⟨t, z, he, h1, h2, _, by simp [FVal.owns, h3], h4, (Kept.of_below (own := ownList sb gf outv (fb ++ [v])) hS.below).trans h5 fun _ h => Or.inl h⟩
  have HB : ∀ W t z, GivQ fp F base sb gf cap t0 tv outv s0 fb v below f tape out (w.alloc (.cells #[] 363)) a t z W → W.cell? ⟨sb, 1, none⟩ = some (.slice (some ⟨gf, 0, none⟩) (fb.length + 1) cap) ∧ W.frozen? ⟨sb, 1, none⟩ = false ∧ sb < W.heap.size := fun W t z hq => by
    obtain ⟨_, _, v', _, h4, _⟩ := hq
    have hblk := h4.blk
    rw [show (fb ++ [v']).length = fb.length + 1 by simp] at hblk
    exact ⟨cell_of_block hblk rfl, frozen_of_block hblk, lt_of_block hblk⟩
  rcases List.eq_nil_or_concat below with rfl | ⟨b', g, hbg⟩
  · obtain rfl : fb = [] := List.eq_nil_of_length_eq_zero hfl
    refine (giveDo_last w _ sb gf 0 gf cap (fun w' => Done fp F base sb t0 s0 (ownList sb gf outv ([] ++ [v])) w ⟨[], tape, out⟩ w') _ rfl (by simpa using hcap) hT HP HB fun W t z hq => ?_).mono ?_
    · obtain ⟨_, q2, q3⟩ := hq.gone
      exact ⟨(Kept.of_below hb0).trans q3 fun _ h => Or.inl h, F, gf, cap, tv, outv, [], Ext.refl _ _, q2, fun k hk => Or.inl (ownList_sub sb gf outv [] v k hk)⟩
    · rintro e w' ⟨rfl, h2⟩
      exact ⟨Or.inl ⟨rfl, rfl⟩, h2⟩
  · rw [List.concat_eq_append] at hbg
    subst hbg
    have hfl2 : fb.length = b'.length + 1 := by simpa using hfl
    have hbl : b'.length ≤ 14 := by simp at hbel; omega
    rw [hfl2] at hcap
    have hr : Hs.doI tab .give (b' ++ [g]) f tape out = (⟨b' ++ [g.push a], tape, out⟩, 0) := by simp [Hs.doI, last_of hf]
    rw [hr]
    refine (giveDo_more w _ sb gf (fb.length * 6) gf cap b'.length gf (b'.length * 6) (fun w' => Done fp F base sb t0 s0 (ownList sb gf outv (fb ++ [v])) w ⟨b' ++ [g.push a], tape, out⟩ w') _ (fun t z W => PV F W (.iface t z) a ∧ Hs.cells a ≤ 200 ∧ Mid fp base sb gf b'.length t0 s0 (ownList sb gf outv (fb ++ [v])) (w.alloc (.cells #[] 363)) F ⟨b' ++ [g], tape, out⟩ W) rfl (by omega) (by omega) hT HP (fun W t z hq => ?_) (fun W t z hq => ?_) (fun W t z hq => ?_)).mono ?_
    · have := HB W t z hq
      rw [hfl2] at this; exact this
    · obtain ⟨q1, q2, q3⟩ := hq.gone
      rw [hfl2] at q1 q2 q3
      have hmid : Mid fp base sb gf b'.length t0 s0 (ownList sb gf outv (fb ++ [v])) (w.alloc (.cells #[] 363)) F ⟨b' ++ [g], tape, out⟩ _ := ⟨q3, Nat.le_trans hbase (Nat.le_trans hb0.size q3.size), cap, tv, outv, fb, hfl2, q2, fun k hk => Or.inl (ownList_sub sb gf outv fb v k hk)⟩
      refine (hmid.top (by omega)).mono ?_
      rintro e w' ⟨he, hs⟩
      exact ⟨he, q1.keep (fun _ _ => by rw [hs.heap]), hq.2.1, hmid.same hs⟩
    · refine (hq.2.2.push hq.1 hq.2.1 (by have := hgo g (by simp); omega)).mono ?_
      rintro e w' ⟨he, h4⟩
      exact ⟨he, h4.done (Ext.refl _ _)⟩
    · rintro e w' ⟨rfl, h2⟩
      exact ⟨Or.inl ⟨rfl, rfl⟩, h2⟩
end
end Go.Proofs.YtblbkfdhjfppkaaGreatDoor

/- The machine stays right, and comes to the next statement, or to a stop: plain facts. -/
namespace Go.Proofs.YtblbkfdhjfppkaaGreatDoor.Hs
theorem inFrame_fn (i : Ins) (f : Frm) : (inFrame i f).1.fn = f.fn := by
  cases i <;> simp only [inFrame] <;> (repeat' split) <;> rfl
end Go.Proofs.YtblbkfdhjfppkaaGreatDoor.Hs

/- The machine comes to the next statement, or to a stop: plain facts. -/
namespace Go.Proofs.YtblbkfdhjfppkaaGreatDoor.Hs
theorem frames_snoc {l : List Frm} (h : l ≠ []) : ∃ b f, l = b ++ [f] := by
  rcases List.eq_nil_or_concat l with h' | ⟨b, f, h'⟩
  · exact absurd h' h
  · exact ⟨b, f, by rw [h', List.concat_eq_append]⟩
theorem fetch_of {f : Frm} (h : f.next < f.fn.code.length) : f.fetch = some (f.fn.code[f.next], { f with next := f.next + 1 }) := by
  unfold Frm.fetch; rw [List.getElem?_eq_getElem h]; rfl
end Go.Proofs.YtblbkfdhjfppkaaGreatDoor.Hs

/- What compiling makes of expressions is right: plain facts. -/
namespace Go.Proofs.YtblbkfdhjfppkaaGreatDoor.Hs
theorem Seg.then {ar : Nat → Option Nat} {L : Nat → Ty → Prop} {p : Nat} {c c' : List Ins} {h v h1 v1 h2 v2 : Nat} {e e1 e2 : Option Nat} (a : Seg ar L p c h v e h1 v1 e1) (b : Seg ar L (p + c.length) c' h1 v1 e1 h2 v2 e2)
    (hL : ∀ q y, L q y → q ≤ p ∨ p + c.length + c'.length ≤ q) : Seg ar L p (c ++ c') h v e h2 v2 e2 := by
  by_cases hc : c = []
  · subst hc
    obtain ⟨T, t1, t2, t3, t4, t5, t6, t7, t8⟩ := a
    obtain ⟨U, u1, u2, u3, u4, u5, u6, u7, u8⟩ := b
    simp only [List.length_nil, Nat.add_zero] at t5 t6 t7 u2 u3 u4 u5 u6 u7 u8
    refine ⟨U, u1, by omega, by omega, ?_, u5, u6, u7, u8⟩
    rcases u4 with u4 | u4
    · exact Or.inl u4
    · rw [u4, ← t7]; exact t4
  · exact a.append b hL hc
theorem Seg.one {ar : Nat → Option Nat} {L : Nat → Ty → Prop} {p : Nat} {i : Ins} {h v h' v' : Nat} {e e' : Option Nat} (hu : ∀ q y z, L q y → L q z → y = z) (h0 : ∀ y, L p y → y = ⟨h, v, e, i.isBegin⟩) (h1 : ∀ y, L (p + 1) y → y.h = h' ∧ y.v = v' ∧ y.e = e')
    (hi : ∀ T : Nat → Ty, T p = ⟨h, v, e, i.isBegin⟩ → (T (p + 1)).h = h' → (T (p + 1)).v = v' → (T (p + 1)).e = e' → (∀ q y, L q y → T q = y) → InsOk ar (Dom L p (p + 1)) T p i) : Seg ar L p [i] h v e h' v' e' := by
  classical
  let T : Nat → Ty := fun q => if hq : ∃ y, L q y then hq.choose else if q = p then ⟨h, v, e, i.isBegin⟩ else ⟨h', v', e', false⟩
  have t1 : ∀ q y, L q y → T q = y := fun q y hy => by
    have hex : ∃ y, L q y := ⟨y, hy⟩
    simp only [T, dif_pos hex]
    exact hu q _ _ hex.choose_spec hy
  have t2 : T p = ⟨h, v, e, i.isBegin⟩ := by
    by_cases hex : ∃ y, L p y
    · obtain ⟨y, hy⟩ := hex
      rw [t1 p y hy]; exact h0 y hy
    · simp only [T, dif_neg hex]; rfl
  have t3 : (T (p + 1)).h = h' ∧ (T (p + 1)).v = v' ∧ (T (p + 1)).e = e' := by
    by_cases hex : ∃ y, L (p + 1) y
    · obtain ⟨y, hy⟩ := hex
      rw [t1 _ y hy]; exact h1 y hy
    · have e : T (p + 1) = ⟨h', v', e', false⟩ := by simp only [T, dif_neg hex, if_neg (show ¬ p + 1 = p by omega)]
      rw [e]; exact ⟨rfl, rfl, rfl⟩
  refine ⟨T, t1, by rw [t2], by rw [t2]; exact Nat.le_refl _, by rw [t2]; exact Or.inr rfl, t3.1, t3.2.1, t3.2.2, fun j x hj => ?_⟩
  match j, hj with
  | 0, hj =>
    simp at hj
    subst hj
    exact hi T t2 t3.1 t3.2.1 t3.2.2 t1
  | j + 1, hj => simp at hj
structure Lab (L : Nat → Ty → Prop) (lo hi : Nat) : Prop where
  uniq : ∀ q y z, L q y → L q z → y = z
  out : ∀ q y, L q y → q < lo ∨ hi < q
theorem Lab.sub {L : Nat → Ty → Prop} {lo hi lo' hi' : Nat} (h : Lab L lo hi) (h1 : lo ≤ lo') (h2 : hi' ≤ hi) : Lab L lo' hi' := ⟨h.uniq, fun q y hy => by have := h.out q y hy; omega⟩
def LabP (L : Nat → Ty → Prop) (q : Nat) (y : Ty) : Nat → Ty → Prop := fun r z => L r z ∨ (r = q ∧ z = y)
theorem LabP.ok {L : Nat → Ty → Prop} {lo hi lo' hi' q : Nat} {y : Ty} (h : Lab L lo hi) (h1 : lo ≤ q) (h2 : q ≤ hi) (h3 : lo ≤ lo') (h4 : hi' ≤ hi) (h5 : q < lo' ∨ hi' < q) : Lab (LabP L q y) lo' hi' := by
  refine ⟨fun r x z hx hz => ?_, fun r x hx => ?_⟩
  · rcases hx with hx | ⟨rfl, rfl⟩ <;> rcases hz with hz | ⟨hz1, rfl⟩
    · exact h.uniq _ _ _ hx hz
    · have := h.out _ _ hx; omega
    · have := h.out _ _ hz; omega
    · rfl
  · rcases hx with hx | ⟨rfl, rfl⟩
    · have := h.out _ _ hx; omega
    · exact h5
theorem Seg.close {ar : Nat → Option Nat} {L : Nat → Ty → Prop} {p : Nat} {c : List Ins} {h v h' v' q : Nat} {e e' : Option Nat} {y : Ty} (s : Seg ar (LabP L q y) p c h v e h' v' e') (h1 : p ≤ q) (h2 : q ≤ p + c.length) : Seg ar L p c h v e h' v' e' := by
  obtain ⟨T, t1, t2, t3, t4, t5, t6, t7, t8⟩ := s
  refine ⟨T, fun q y hq => t1 q y (Or.inl hq), t2, t3, t4, t5, t6, t7, fun j i hj => (t8 j i hj).same rfl (fun r hr => ⟨?_, rfl, Nat.le_refl _, Or.inr rfl⟩) (fun _ _ _ hb => hb)⟩
  rcases hr with hr | ⟨z, hz | ⟨rfl, rfl⟩⟩
  · exact Or.inl hr
  · exact Or.inr ⟨z, hz⟩
  · exact Or.inl ⟨h1, h2⟩
theorem dom_next {L : Nat → Ty → Prop} {p : Nat} : Dom L p (p + 1) (p + 1) := Or.inl ⟨by omega, by omega⟩
theorem Seg.plain {ar : Nat → Option Nat} {L : Nat → Ty → Prop} {p : Nat} {i : Ins} {h v h' : Nat} {e : Option Nat} (hl : Lab L p (p + 1)) (hb : i.isBegin = false) (hp : h ≤ p)
    (hi : ∀ (D : Nat → Prop) (T : Nat → Ty), (T p).h = h → (T p).v = v → Flow D T (p + 1) h' (T p).v (T p).e → (T p).b = false → (T p).h ≤ p → InsOk ar D T p i) : Seg ar L p [i] h v e h' v e :=
  Seg.one hl.uniq (fun y hy => absurd (hl.out _ _ hy) (by omega)) (fun y hy => absurd (hl.out _ _ hy) (by omega)) fun T t0 t1 t2 t3 _ =>
    hi _ T (by rw [t0]) (by rw [t0]) ⟨dom_next, t1, by rw [t2, t0]; exact Nat.le_refl _, by rw [t3, t0]; exact Or.inr rfl⟩ (by rw [t0]; exact hb) (by rw [t0]; exact hp)
def arL (fs : List Ast) (k : Nat) : Option Nat := fs[k]?.map fun f => f.kids.length - 1
def ExOk (fs : List Ast) (alone : Bool) (seen : List (List UInt8)) : Nat → Ast → Prop
  | 0, _ => False
  | d + 1, a =>
    ((a.op = [48] ∨ a.op = [115] ∨ a.op = [98, 111, 111, 108]) ∧ a.kids = []) ∨
    (a.op = [110, 97, 109, 101] ∧ a.kids = [] ∧ a.text ∈ seen) ∨
    (a.op = [108, 105, 115, 116] ∧ ∀ k ∈ a.kids, ExOk fs alone seen d k) ∨
    (a.op = [105, 110, 100, 101, 120] ∧ ∃ l r, a.kids = [l, r] ∧ ExOk fs alone seen d l ∧ ExOk fs alone seen d r) ∨
    ((a.op = [45, 120] ∨ a.op = [33, 120]) ∧ ∃ l, a.kids = [l] ∧ ExOk fs alone seen d l) ∨
    (a.op = [99, 97, 108, 108] ∧ (∀ k ∈ a.kids, ExOk fs alone seen d k) ∧
      ((a.text = [108, 101, 110] ∧ a.kids.length = 1) ∨ (a.text = [114, 101, 97, 100] ∧ alone = false ∧ a.kids.length = 0) ∨
       (a.text ≠ [108, 101, 110] ∧ a.text ≠ [114, 101, 97, 100] ∧ alone = false ∧ arL fs (fnIx fs a.text) = some a.kids.length))) ∨
    (levelOf a.op ≠ 9 ∧ ∃ l r, a.kids = [l, r] ∧ ExOk fs alone seen d l ∧ ExOk fs alone seen d r)
theorem slotL_lt : ∀ {seen : List (List UInt8)} {x : List UInt8}, x ∈ seen → slotL seen x < seen.length
  | y :: l, x, h => by
    unfold slotL
    split
    · simp
    · rename_i hne
      rcases List.mem_cons.1 h with rfl | h
      · exact absurd rfl hne
      · have := slotL_lt h; simp; omega
theorem level_cases {op : List UInt8} (h : levelOf op ≠ 9) : op = [124, 124] ∨ op = [38, 38] ∨ op = [61, 61] ∨ op = [33, 61] ∨ op = [60] ∨ op = [60, 61] ∨ op = [43] ∨ op = [45] ∨ op = [42] ∨ op = [47] ∨ op = [37] := by
  unfold levelOf at h
  repeat' split at h
  all_goals simp_all
  all_goals grind
end Go.Proofs.YtblbkfdhjfppkaaGreatDoor.Hs

/- What compiling makes of expressions is right: plain facts. -/
namespace Go.Proofs.YtblbkfdhjfppkaaGreatDoor.Hs
def ExSeg (fs : List Ast) (alone : Bool) (seen : List (List UInt8)) (d : Nat) : Prop :=
  ∀ (a : Ast) (L : Nat → Ty → Prop) (p h v : Nat) (e : Option Nat), ExOk fs alone seen d a → seen.length ≤ v → h ≤ p → Lab L p (p + (exprC fs seen d a p).length) →
    Seg (arL fs) L p (exprC fs seen d a p) h v e (h + 1) v e ∧ 1 ≤ (exprC fs seen d a p).length
theorem seqC_seg {fs : List Ast} {alone : Bool} {seen : List (List UInt8)} {d : Nat} (IH : ExSeg fs alone seen d) : ∀ (l : List Ast) (L : Nat → Ty → Prop) (p h v : Nat) (e : Option Nat), (∀ a ∈ l, ExOk fs alone seen d a) → seen.length ≤ v → h ≤ p → Lab L p (p + (seqC (exprC fs seen d) l p).length) →
    Seg (arL fs) L p (seqC (exprC fs seen d) l p) h v e (h + l.length) v e ∧ l.length ≤ (seqC (exprC fs seen d) l p).length
  | [], L, p, h, v, e, _, _, _, hL => ⟨Seg.nil _ _ _ _ _ _ (fun q y hq hqp => absurd (hL.out q y hq) (by simp [seqC]; omega)) hL.uniq, by simp⟩
  | a :: l, L, p, h, v, e, ha, hv, hp, hL => by
    simp only [seqC, List.length_append] at hL ⊢
    obtain ⟨h1, h1l⟩ := IH a L p h v e (ha a (List.mem_cons_self ..)) hv hp (hL.sub (Nat.le_refl _) (by omega))
    obtain ⟨h2, h2l⟩ := seqC_seg IH l L (p + (exprC fs seen d a p).length) (h + 1) v e (fun x hx => ha x (List.mem_cons_of_mem _ hx)) hv (by omega) (hL.sub (by omega) (by omega))
    refine ⟨?_, by simp only [List.length_cons]; omega⟩
    have e1 : h + (a :: l).length = h + 1 + l.length := by simp only [List.length_cons]; omega
    rw [e1]
    exact h1.then h2 fun q y hq => by have := hL.out q y hq; omega
theorem Seg.snoc {ar : Nat → Option Nat} {L : Nat → Ty → Prop} {p : Nat} {c : List Ins} {i : Ins} {h v h1 h2 v2 : Nat} {e e2 : Option Nat} (a : Seg ar L p c h v e h1 v e) (hL : Lab L p (p + (c ++ [i]).length)) (b : Lab L (p + c.length) (p + c.length + 1) → Seg ar L (p + c.length) [i] h1 v e h2 v2 e2) : Seg ar L p (c ++ [i]) h v e h2 v2 e2 := by
  have hl : (c ++ [i]).length = c.length + 1 := by simp
  refine a.then (b (hL.sub (by omega) (by omega))) fun q y hq => ?_
  have := hL.out q y hq
  simp only [List.length_cons, List.length_nil]
  omega
theorem exprC_seg (fs : List Ast) (alone : Bool) (seen : List (List UInt8)) : ∀ d, ExSeg fs alone seen d
  | 0, _, _, _, _, _, _, h, _, _, _ => h.elim
  | d + 1, a, L, p, h, v, e, ha, hv, hp, hL => by
    have IH := exprC_seg fs alone seen d
    have two : ∀ l r : Ast, a.kids = [l, r] → ExOk fs alone seen d l → ExOk fs alone seen d r → ∀ k ∈ a.kids, ExOk fs alone seen d k := fun l r hk h1 h2 k hk' => by
      rw [hk] at hk'
      rcases List.mem_cons.1 hk' with rfl | hk'
      · exact h1
      · rw [List.mem_singleton.1 hk']; exact h2
    have kids : ∀ i : Ins, i.isBegin = false → exprC fs seen (d + 1) a p = seqC (exprC fs seen d) a.kids p ++ [i] → (∀ k ∈ a.kids, ExOk fs alone seen d k) →
        (∀ (p' : Nat) (D : Nat → Prop) (T : Nat → Ty), (T p').h = h + a.kids.length → (T p').v = v → Flow D T (p' + 1) (h + 1) (T p').v (T p').e → (T p').b = false → (T p').h ≤ p' → InsOk (arL fs) D T p' i) →
        Seg (arL fs) L p (exprC fs seen (d + 1) a p) h v e (h + 1) v e ∧ 1 ≤ (exprC fs seen (d + 1) a p).length := fun i hb hc hk hi => by
      rw [hc] at hL ⊢
      obtain ⟨h1, h2⟩ := seqC_seg IH a.kids L p h v e hk hv hp (hL.sub (Nat.le_refl _) (by simp))
      exact ⟨Seg.snoc h1 hL fun hl => Seg.plain hl hb (by omega) (hi _), by simp⟩
    rcases ha with ⟨h0 | h0 | h0, hk⟩ | ⟨h0, hk, hx⟩ | ⟨h0, hk⟩ | ⟨h0, l, r, hk, hl, hr⟩ | ⟨h0 | h0, l, hk, hl⟩ | ⟨h0, hk, hc⟩ | ⟨h0, l, r, hk, hl, hr⟩
    · have hc : exprC fs seen (d + 1) a p = [.push (vnum (((wholeL 0 a.text).getD 0 : Nat) : Int))] := by rw [exprC]; simp [h0]
      rw [hc] at hL ⊢
      exact ⟨Seg.plain hL rfl hp fun D T t1 t2 f b hp => ⟨b, hp, by rw [t1]; exact f⟩, by simp⟩
    · have hc : exprC fs seen (d + 1) a p = [.push (vstr a.text)] := by rw [exprC]; simp [h0]
      rw [hc] at hL ⊢
      exact ⟨Seg.plain hL rfl hp fun D T t1 t2 f b hp => ⟨b, hp, by rw [t1]; exact f⟩, by simp⟩
    · have hc : exprC fs seen (d + 1) a p = [.push (vtru (a.text == [116, 114, 117, 101]))] := by rw [exprC]; simp [h0]
      rw [hc] at hL ⊢
      exact ⟨Seg.plain hL rfl hp fun D T t1 t2 f b hp => ⟨b, hp, by rw [t1]; exact f⟩, by simp⟩
    · have hc : exprC fs seen (d + 1) a p = [.load (slotL seen a.text)] := by rw [exprC]; simp [h0]
      rw [hc] at hL ⊢
      exact ⟨Seg.plain hL rfl hp fun D T t1 t2 f b hp => ⟨b, hp, by rw [t2]; have := slotL_lt hx; omega, by rw [t1]; exact f⟩, by simp⟩
    · refine kids (.list a.kids.length) rfl (by rw [exprC]; simp [h0]) hk fun p' D T t1 t2 f b hp => ⟨b, hp, by omega, ?_⟩
      have : (T p').h - a.kids.length + 1 = h + 1 := by omega
      rw [this]; exact f
    · refine kids .index rfl (by rw [exprC]; simp [h0]) (two l r hk hl hr) fun p' D T t1 t2 f b hp => ?_
      rw [hk] at t1
      simp only [List.length_cons, List.length_nil] at t1
      refine ⟨b, hp, by omega, ?_⟩
      have : (T p').h - 1 = h + 1 := by omega
      rw [this]; exact f
    · refine kids (.unary [45]) rfl (by rw [exprC]; simp [h0]) (by rw [hk]; simpa using hl) fun p' D T t1 t2 f b hp => ?_
      rw [hk] at t1
      simp only [List.length_cons, List.length_nil] at t1
      exact ⟨b, hp, by omega, by rw [t1]; exact f⟩
    · refine kids (.unary [33]) rfl (by rw [exprC]; simp [h0]) (by rw [hk]; simpa using hl) fun p' D T t1 t2 f b hp => ?_
      rw [hk] at t1
      simp only [List.length_cons, List.length_nil] at t1
      exact ⟨b, hp, by omega, by rw [t1]; exact f⟩
    · rcases hc with ⟨ht, hn⟩ | ⟨ht, _, hn⟩ | ⟨ht1, ht2, _, hn⟩
      · refine kids .length rfl (by rw [exprC]; simp [h0, ht]) hk fun p' D T t1 t2 f b hp => ⟨b, hp, by omega, ?_⟩
        rw [t1, hn]; exact f
      · refine kids .read rfl (by rw [exprC]; simp [h0, ht]) hk fun p' D T t1 t2 f b hp => ⟨b, hp, ?_⟩
        rw [t1, hn]; exact f
      · refine kids (.call (fnIx fs a.text) a.kids.length) rfl (by rw [exprC]; simp [h0, ht1, ht2]) hk fun p' D T t1 t2 f b hp => ⟨b, hp, by omega, hn, ?_⟩
        have : (T p').h - a.kids.length + 1 = h + 1 := by omega
        rw [this]; exact f
    · by_cases hlo : a.op = [38, 38] ∨ a.op = [124, 124]
      rotate_left
      · have hnl : exprC fs seen (d + 1) a p = seqC (exprC fs seen d) a.kids p ++ [.binary a.op] := by
          rw [exprC]
          rcases level_cases h0 with h | h | h | h | h | h | h | h | h | h | h <;> simp [h] at hlo ⊢
        refine kids (.binary a.op) rfl hnl (two l r hk hl hr) fun p' D T t1 t2 f b hp => ?_
        rw [hk] at t1
        simp only [List.length_cons, List.length_nil] at t1
        refine ⟨b, hp, by omega, ?_⟩
        have : (T p').h - 1 = h + 1 := by omega
        rw [this]; exact f
      · have hc : exprC fs seen (d + 1) a p = exprC fs seen d l p ++ [.shortcut (a.op == [124, 124]) (p + (exprC fs seen d l p).length + 1 + (exprC fs seen d r (p + (exprC fs seen d l p).length + 1)).length + 1)] ++ exprC fs seen d r (p + (exprC fs seen d l p).length + 1) ++ [.truth] := by
          rw [exprC]
          rcases hlo with h | h <;> simp [h, hk]
        generalize hcl : exprC fs seen d l p = cl at hc
        generalize hcr : exprC fs seen d r (p + cl.length + 1) = cr at hc
        rw [hc] at hL ⊢
        have hlen : (cl ++ [Ins.shortcut (a.op == [124, 124]) (p + cl.length + 1 + cr.length + 1)] ++ cr ++ [Ins.truth]).length = cl.length + 1 + cr.length + 1 := by simp only [List.length_append, List.length_cons, List.length_nil]
        rw [hlen] at hL
        refine ⟨Seg.close (q := p + cl.length + 1 + cr.length + 1) (y := ⟨h + 1, v, e, false⟩) ?_ (by omega) (by rw [hlen]; omega), by omega⟩
        have hL1 : Lab (LabP L (p + cl.length + 1 + cr.length + 1) ⟨h + 1, v, e, false⟩) p (p + cl.length + 1 + cr.length) := LabP.ok hL (by omega) (by omega) (Nat.le_refl _) (by omega) (by omega)
        obtain ⟨s1, l1⟩ := IH l (LabP L (p + cl.length + 1 + cr.length + 1) ⟨h + 1, v, e, false⟩) p h v e hl hv hp (by rw [hcl]; exact hL1.sub (Nat.le_refl _) (by omega))
        rw [hcl] at s1 l1
        obtain ⟨s3, l3⟩ := IH r (LabP L (p + cl.length + 1 + cr.length + 1) ⟨h + 1, v, e, false⟩) (p + cl.length + 1) h v e hr hv (by omega) (by rw [hcr]; exact hL1.sub (by omega) (by omega))
        rw [hcr] at s3 l3
        have s2 : Seg (arL fs) (LabP L (p + cl.length + 1 + cr.length + 1) ⟨h + 1, v, e, false⟩) (p + cl.length) [.shortcut (a.op == [124, 124]) (p + cl.length + 1 + cr.length + 1)] (h + 1) v e h v e := by
          refine Seg.one hL1.uniq (fun y hy => absurd (hL1.out _ _ hy) (by omega)) (fun y hy => absurd (hL1.out _ _ hy) (by omega)) fun T t0 t1 t2 t3 t4 => ?_
          refine ⟨by rw [t0], by rw [t0]; show h + 1 ≤ _; omega, by rw [t0]; show 1 ≤ h + 1; omega, by omega, ?_, dom_next, by rw [t1, t0]; rfl, by rw [t2, t0]; exact Nat.le_refl _, by rw [t3, t0]; exact Or.inr rfl⟩
          have := t4 (p + cl.length + 1 + cr.length + 1) ⟨h + 1, v, e, false⟩ (Or.inr ⟨rfl, rfl⟩)
          exact ⟨Or.inr ⟨_, Or.inr ⟨rfl, rfl⟩⟩, by rw [this, t0], by rw [this, t0]; exact Nat.le_refl _, by rw [this, t0]; exact Or.inr rfl⟩
        have s4 : Seg (arL fs) (LabP L (p + cl.length + 1 + cr.length + 1) ⟨h + 1, v, e, false⟩) (p + cl.length + 1 + cr.length) [.truth] (h + 1) v e (h + 1) v e := by
          refine Seg.one hL1.uniq (fun y hy => absurd (hL1.out _ _ hy) (by omega)) (fun y hy => ?_) fun T t0 t1 t2 t3 t4 => ⟨by rw [t0], by rw [t0]; show h + 1 ≤ _; omega, by rw [t0]; show 1 ≤ h + 1; omega, dom_next, by rw [t1, t0], by rw [t2, t0]; exact Nat.le_refl _, by rw [t3, t0]; exact Or.inr rfl⟩
          rcases hy with hy | ⟨_, rfl⟩
          · exact absurd (hL.out _ _ hy) (by omega)
          · exact ⟨rfl, rfl, rfl⟩
        have hout : ∀ q y, LabP L (p + cl.length + 1 + cr.length + 1) ⟨h + 1, v, e, false⟩ q y → q ≤ p ∨ p + cl.length + 1 + cr.length + 1 ≤ q := fun q y hq => by have := hL1.out q y hq; omega
        have s12 := s1.then s2 fun q y hq => by have := hout q y hq; simp only [List.length_cons, List.length_nil]; omega
        have s123 := s12.then (c' := cr) (by rw [List.length_append]; exact s3) fun q y hq => by have := hout q y hq; simp only [List.length_append, List.length_cons, List.length_nil]; omega
        exact s123.then (c' := [.truth]) (by rw [show p + (cl ++ [Ins.shortcut (a.op == [124, 124]) (p + cl.length + 1 + cr.length + 1)] ++ cr).length = p + cl.length + 1 + cr.length by simp only [List.length_append, List.length_cons, List.length_nil]; omega]; exact s4) fun q y hq => by have := hout q y hq; simp only [List.length_append, List.length_cons, List.length_nil]; omega
end Go.Proofs.YtblbkfdhjfppkaaGreatDoor.Hs

/- What compiling makes of statements is right: plain facts. -/
namespace Go.Proofs.YtblbkfdhjfppkaaGreatDoor.Hs
theorem Seg.entry {ar : Nat → Option Nat} {L : Nat → Ty → Prop} {p : Nat} {c : List Ins} {h v v0 h' v' : Nat} {e e' : Option Nat} (s : Seg ar L p c h v none h' v' e') (hv : v ≤ v0) : Seg ar L p c h v0 e h' v' e' := by
  obtain ⟨T, t1, t2, t3, t4, t5⟩ := s
  exact ⟨T, t1, t2, by omega, Or.inl (by rcases t4 with t4 | t4 <;> exact t4), t5⟩
theorem Seg.exit {ar : Nat → Option Nat} {L : Nat → Ty → Prop} {p : Nat} {c : List Ins} {h v h' v' v'' : Nat} {e e' : Option Nat} (s : Seg ar L p c h v e h' v' e') (hv : v'' ≤ v') (b : Bool) (hn : ∀ y, ¬ L (p + c.length) y) : Seg ar (LabP L (p + c.length) ⟨h', v'', none, b⟩) p c h v e h' v'' none := by
  obtain ⟨T, t1, t2, t3, t4, t5, t6, t7, t8⟩ := s
  refine ⟨fun q => if q = p + c.length then ⟨h', v'', none, b⟩ else T q, fun q y hq => ?_, ?_, ?_, ?_, by simp only [if_pos], by simp only [if_pos], by simp only [if_pos], fun j i hj => ?_⟩
  · rcases hq with hq | ⟨rfl, rfl⟩
    · have hne : q ≠ p + c.length := fun e => hn y (by rw [← e]; exact hq)
      simp only [if_neg hne]; exact t1 q y hq
    · simp only [if_pos]
  · simp only
    split
    · rename_i hp; rw [← hp] at t5; simp only; omega
    · exact t2
  · simp only
    split
    · rename_i hp; rw [← hp] at t6; simp only; omega
    · exact t3
  · simp only
    split
    · exact Or.inl rfl
    · exact t4
  · have hjl : j < c.length := (List.getElem?_eq_some_iff.1 hj).1
    refine (t8 j i hj).same (by rw [if_neg (by omega)]) (fun q hq => ?_) (fun q hq hqp hb => by rw [if_neg (by omega)]; exact hb)
    have hd : Dom (LabP L (p + c.length) ⟨h', v'', none, b⟩) p (p + c.length) q := hq.imp id fun ⟨y, hy⟩ => ⟨y, Or.inl hy⟩
    refine ⟨hd, ?_⟩
    split
    · rename_i hqe; rw [hqe]; exact ⟨t5.symm, by simp only; omega, Or.inl rfl⟩
    · exact ⟨rfl, Nat.le_refl _, Or.inr rfl⟩
def seenC (seen : List (List UInt8)) (a : Ast) : List (List UInt8) := if a.op = [118, 97, 114] then (a.kids.head?.map (·.text)).toList ++ seen else seen
def StsOk (S : List (List UInt8) → Ast → Prop) : List (List UInt8) → List Ast → Prop
  | _, [] => True
  | seen, a :: l => S seen a ∧ StsOk S (seenC seen a) l
def StOk (fs : List Ast) : Nat → List (List UInt8) → Ast → Prop
  | 0, _, _ => False
  | d + 1, seen, a =>
    (a.op = [118, 97, 114] ∧ seen.length ≤ 90000 ∧ ∃ t v, a.kids = [t, v] ∧ ExOk fs false seen d v ∧ t.text ∉ seen) ∨
    (a.op = [115, 101, 116] ∧ a.text ∈ seen ∧ a.kids ≠ [] ∧ ∀ k ∈ a.kids, ExOk fs false seen d k) ∨
    (a.op = [105, 102] ∧ ∃ c t, (a.kids = [c, t] ∨ ∃ x, a.kids = [c, t, x] ∧ StsOk (StOk fs d) seen x.kids) ∧ ExOk fs false seen d c ∧ StsOk (StOk fs d) seen t.kids) ∨
    (a.op = [119, 104, 105, 108, 101] ∧ ∃ c b, a.kids = [c, b] ∧ ExOk fs false seen d c ∧ StsOk (StOk fs d) seen b.kids) ∨
    (a.op = [114, 101, 116, 117, 114, 110] ∧ (a.kids = [] ∨ ∃ v, a.kids = [v] ∧ ExOk fs false seen d v)) ∨
    (a.op = [112, 114, 105, 110, 116] ∧ ∃ v, a.kids = [v] ∧ ExOk fs false seen d v) ∨
    (a.op = [100, 111] ∧ ∃ c, a.kids = [c] ∧ ExOk fs false seen d c)
def StSeg (fs : List Ast) (d : Nat) : Prop :=
  ∀ (seen : List (List UInt8)) (a : Ast) (L : Nat → Ty → Prop) (p : Nat), StOk fs d seen a → Lab L p (p + (stC fs d seen a p).1.length) →
    Seg (arL fs) L p (stC fs d seen a p).1 0 seen.length none 0 (seenC seen a).length none ∧ (stC fs d seen a p).2 = seenC seen a ∧ ∃ r, (stC fs d seen a p).1 = .begin a.line seen :: r
theorem seenC_le (seen : List (List UInt8)) (a : Ast) : seen.length ≤ (seenC seen a).length := by unfold seenC; split <;> simp
def seenAll : List (List UInt8) → List Ast → List (List UInt8)
  | seen, [] => seen
  | seen, a :: l => seenAll (seenC seen a) l
theorem seenAll_le : ∀ (l : List Ast) (seen : List (List UInt8)), seen.length ≤ (seenAll seen l).length
  | [], _ => Nat.le_refl _
  | a :: l, seen => Nat.le_trans (seenC_le seen a) (seenAll_le l _)
theorem stsC_seg {fs : List Ast} {d : Nat} (IH : StSeg fs d) : ∀ (l : List Ast) (seen : List (List UInt8)) (L : Nat → Ty → Prop) (p : Nat), StsOk (StOk fs d) seen l → Lab L p (p + (stsC (stC fs d) seen l p).length) →
    Seg (arL fs) L p (stsC (stC fs d) seen l p) 0 seen.length none 0 (seenAll seen l).length none
  | [], seen, L, p, _, hL => Seg.nil _ _ _ _ _ _ (fun q y hq hqp => absurd (hL.out q y hq) (by simp [stsC]; omega)) hL.uniq
  | a :: l, seen, L, p, h, hL => by
    simp only [stsC, List.length_append] at hL ⊢
    obtain ⟨h1, h2, _⟩ := IH seen a L p h.1 (hL.sub (Nat.le_refl _) (by omega))
    rw [h2] at hL ⊢
    have h3 := stsC_seg IH l (seenC seen a) L (p + (stC fs d seen a p).1.length) h.2 (hL.sub (by omega) (by omega))
    exact h1.then h3 fun q y hq => by have := hL.out q y hq; omega
theorem Seg.begins {ar : Nat → Option Nat} {L : Nat → Ty → Prop} {p l : Nat} {seen : List (List UInt8)} (hu : ∀ q y z, L q y → L q z → y = z) (h0 : ∀ y, L p y → y = ⟨0, seen.length, none, true⟩) (h1 : ∀ y, ¬ L (p + 1) y) : Seg ar L p [.begin l seen] 0 seen.length none 0 seen.length (some seen.length) :=
  Seg.one hu h0 (fun y hy => absurd hy (h1 y)) fun T t0 t1 t2 t3 _ => ⟨by rw [t0], by rw [t0]; exact Nat.zero_le _, by rw [t0]; exact Nat.le_refl _, dom_next, by rw [t1, t0], by rw [t2, t0]; exact Nat.le_refl _, by rw [t3]; exact Or.inr rfl⟩
theorem len3 (i j : Ins) (c : List Ins) : (i :: c ++ [j]).length = c.length + 2 := by simp
theorem Seg.stmt {ar : Nat → Option Nat} {L : Nat → Ty → Prop} {p l n v' : Nat} {seen : List (List UInt8)} {c : List Ins} {i : Ins} (hL : Lab L p (p + (Ins.begin l seen :: c ++ [i]).length))
    (hc : Seg ar L (p + 1) c 0 seen.length (some seen.length) n seen.length (some seen.length)) (hi : Lab L (p + 1 + c.length) (p + 1 + c.length + 1) → Seg ar L (p + 1 + c.length) [i] n seen.length (some seen.length) 0 v' none) :
    Seg ar L p (Ins.begin l seen :: c ++ [i]) 0 seen.length none 0 v' none := by
  rw [len3] at hL
  have s1 : Seg ar L p [.begin l seen] 0 seen.length none 0 seen.length (some seen.length) := Seg.begins hL.uniq (fun y hy => absurd (hL.out _ _ hy) (by omega)) (fun y hy => absurd (hL.out _ _ hy) (by omega))
  have s2 := s1.then (c' := c) hc fun q y hq => by have := hL.out q y hq; simp only [List.length_cons, List.length_nil]; omega
  have s3 := s2.then (c' := [i]) (by rw [show p + ([Ins.begin l seen] ++ c).length = p + 1 + c.length by simp only [List.length_append, List.length_cons, List.length_nil]; omega]; exact hi (hL.sub (by omega) (by omega))) fun q y hq => by have := hL.out q y hq; simp only [List.length_append, List.length_cons, List.length_nil]; omega
  exact s3
theorem Seg.last {ar : Nat → Option Nat} {L : Nat → Ty → Prop} {p n v v' : Nat} {e : Option Nat} {i : Ins} (hl : Lab L p (p + 1)) (hb : i.isBegin = false) (hp : n ≤ p)
    (hi : ∀ (D : Nat → Prop) (T : Nat → Ty), T p = ⟨n, v, e, false⟩ → D (p + 1) → (T (p + 1)).h = 0 → (T (p + 1)).v = v' → (T (p + 1)).e = none → (T p).h ≤ p → InsOk ar D T p i) : Seg ar L p [i] n v e 0 v' none :=
  Seg.one hl.uniq (fun y hy => absurd (hl.out _ _ hy) (by omega)) (fun y hy => absurd (hl.out _ _ hy) (by omega)) fun T t0 t1 t2 t3 _ => hi _ T (by rw [t0, hb]) dom_next t1 t2 t3 (by rw [t0]; exact hp)
theorem exprC_at {fs : List Ast} {seen : List (List UInt8)} {d : Nat} {a : Ast} {L : Nat → Ty → Prop} {p : Nat} {e : Option Nat} (ha : ExOk fs false seen d a) (hp : 0 < p) (hL : Lab L p (p + (exprC fs seen d a p).length)) :
    Seg (arL fs) L p (exprC fs seen d a p) 0 seen.length e 1 seen.length e ∧ 1 ≤ (exprC fs seen d a p).length := exprC_seg fs false seen d a L p 0 seen.length e ha (Nat.le_refl _) (by omega) hL
end Go.Proofs.YtblbkfdhjfppkaaGreatDoor.Hs

/- What compiling makes of statements and of functions is right: plain facts. -/
namespace Go.Proofs.YtblbkfdhjfppkaaGreatDoor.Hs
theorem Lab.none {L : Nat → Ty → Prop} {lo hi q : Nat} (h : Lab L lo hi) (h1 : lo ≤ q) (h2 : q ≤ hi) (y : Ty) : ¬ L q y := fun hy => by have := h.out q y hy; omega
theorem Seg.ifs {ar : Nat → Option Nat} {L : Nat → Ty → Prop} {p l v1 v2 : Nat} {seen : List (List UInt8)} {cc ct ce : List Ins}
    (hL : Lab L p (p + 1 + cc.length + 1 + ct.length + 1 + ce.length))
    (hc : ∀ L', Lab L' (p + 1) (p + 1 + cc.length) → Seg ar L' (p + 1) cc 0 seen.length (some seen.length) 1 seen.length (some seen.length))
    (ht : ∀ L', Lab L' (p + 1 + cc.length + 1) (p + 1 + cc.length + 1 + ct.length) → Seg ar L' (p + 1 + cc.length + 1) ct 0 seen.length none 0 v1 none) (h1 : seen.length ≤ v1)
    (he : ∀ L', Lab L' (p + 1 + cc.length + 1 + ct.length + 1) (p + 1 + cc.length + 1 + ct.length + 1 + ce.length) → Seg ar L' (p + 1 + cc.length + 1 + ct.length + 1) ce 0 seen.length none 0 v2 none) (h2 : seen.length ≤ v2) :
    Seg ar L p (Ins.begin l seen :: cc ++ [.skip (p + 1 + cc.length + 1 + ct.length + 1)] ++ ct ++ [.jump (p + 1 + cc.length + 1 + ct.length + 1 + ce.length)] ++ ce) 0 seen.length none 0 seen.length none := by
  generalize hq : p + 1 + cc.length + 1 + ct.length + 1 = q at *
  generalize hr : q + ce.length = r at *
  have hL1 : Lab (LabP L r ⟨0, seen.length, none, false⟩) p (r - 1) := LabP.ok hL (by omega) (Nat.le_refl _) (Nat.le_refl _) (by omega) (by omega)
  have part1 : Seg ar (LabP L r ⟨0, seen.length, none, false⟩) p (Ins.begin l seen :: cc ++ [Ins.skip q] ++ ct ++ [Ins.jump r]) 0 seen.length none 0 seen.length none := by
    have hlen : p + (Ins.begin l seen :: cc ++ [Ins.skip q] ++ ct ++ [Ins.jump r]).length = q := by simp only [List.length_append, List.length_cons, List.length_nil]; omega
    rcases Nat.eq_or_lt_of_le (show q ≤ r by omega) with hqr | hqr
    · -- there is no else: one label
      subst hqr
      have hN : Lab (LabP L q ⟨0, seen.length, none, false⟩) p (q - 1) := hL1
      have s1 := Seg.begins (ar := ar) (l := l) (p := p) (seen := seen) hN.uniq (fun y hy => absurd (hN.out _ _ hy) (by omega)) (fun y hy => absurd (hN.out _ _ hy) (by omega))
      have s2 := s1.then (c' := cc) (hc _ (hN.sub (by omega) (by omega))) fun x y hx => by have := hN.out x y hx; simp only [List.length_cons, List.length_nil]; omega
      have e2 : p + ([Ins.begin l seen] ++ cc).length = p + 1 + cc.length := by simp only [List.length_append, List.length_cons, List.length_nil]; omega
      have s3 := s2.then (c' := [Ins.skip q]) (by
        rw [e2]
        refine Seg.one (h' := 0) (v' := seen.length) (e' := some seen.length) hN.uniq (fun y hy => absurd (hN.out _ _ hy) (by omega)) (fun y hy => absurd (hN.out _ _ hy) (by omega)) fun T t0 t1 t2 t3 t4 => ?_
        have hy := t4 q ⟨0, seen.length, none, false⟩ (Or.inr ⟨rfl, rfl⟩)
        exact ⟨by rw [t0], by rw [t0]; show 1 ≤ _; omega, by rw [t0]; exact Nat.le_refl _, by omega, ⟨Or.inr ⟨_, Or.inr ⟨rfl, rfl⟩⟩, by rw [hy, t0]; rfl, by rw [hy, t0]; exact Nat.le_refl _, by rw [hy]; exact Or.inl rfl⟩, dom_next, by rw [t1, t0]; rfl, by rw [t2, t0]; exact Nat.le_refl _, by rw [t3, t0]; exact Or.inr rfl⟩)
        fun x y hx => by have := hN.out x y hx; simp only [List.length_append, List.length_cons, List.length_nil]; omega
      have e3 : p + ([Ins.begin l seen] ++ cc ++ [Ins.skip q]).length = p + 1 + cc.length + 1 := by simp only [List.length_append, List.length_cons, List.length_nil]; omega
      have s4 := s3.then (c' := ct) (by rw [e3]; exact (ht _ (hN.sub (by omega) (by omega))).entry (Nat.le_refl _)) fun x y hx => by have := hN.out x y hx; simp only [List.length_append, List.length_cons, List.length_nil]; omega
      have e4 : p + ([Ins.begin l seen] ++ cc ++ [Ins.skip q] ++ ct).length = p + 1 + cc.length + 1 + ct.length := by simp only [List.length_append, List.length_cons, List.length_nil]; omega
      exact s4.then (c' := [Ins.jump q]) (by
        rw [e4]
        refine Seg.one hN.uniq (fun y hy => absurd (hN.out _ _ hy) (by omega)) (fun y hy => ?_) fun T t0 t1 t2 t3 t4 => ?_
        · rw [show p + 1 + cc.length + 1 + ct.length + 1 = q from hq] at hy
          rcases hy with hy | ⟨_, rfl⟩
          · exact absurd hy (hL.none (by omega) (by omega) y)
          · exact ⟨rfl, rfl, rfl⟩
        · have hy := t4 q ⟨0, seen.length, none, false⟩ (Or.inr ⟨rfl, rfl⟩)
          exact ⟨by rw [t0], by rw [t0]; exact Nat.zero_le _, Or.inl (by omega), Or.inr ⟨_, Or.inr ⟨rfl, rfl⟩⟩, by rw [hy, t0], by rw [hy, t0]; exact h1, by rw [hy]; exact Or.inl rfl⟩)
        fun x y hx => by have := hN.out x y hx; simp only [List.length_append, List.length_cons, List.length_nil]; omega
    · refine Seg.close (q := q) (y := ⟨0, seen.length, none, false⟩) ?_ (by omega) (by omega)
      have hN : Lab (LabP (LabP L r ⟨0, seen.length, none, false⟩) q ⟨0, seen.length, none, false⟩) p (q - 1) := LabP.ok hL1 (by omega) (by omega) (Nat.le_refl _) (by omega) (by omega)
      have s1 := Seg.begins (ar := ar) (l := l) (p := p) (seen := seen) hN.uniq (fun y hy => absurd (hN.out _ _ hy) (by omega)) (fun y hy => absurd (hN.out _ _ hy) (by omega))
      have s2 := s1.then (c' := cc) (hc _ (hN.sub (by omega) (by omega))) fun x y hx => by have := hN.out x y hx; simp only [List.length_cons, List.length_nil]; omega
      have e2 : p + ([Ins.begin l seen] ++ cc).length = p + 1 + cc.length := by simp only [List.length_append, List.length_cons, List.length_nil]; omega
      have s3 := s2.then (c' := [Ins.skip q]) (by
        rw [e2]
        refine Seg.one (h' := 0) (v' := seen.length) (e' := some seen.length) hN.uniq (fun y hy => absurd (hN.out _ _ hy) (by omega)) (fun y hy => absurd (hN.out _ _ hy) (by omega)) fun T t0 t1 t2 t3 t4 => ?_
        have hy := t4 q ⟨0, seen.length, none, false⟩ (Or.inr ⟨rfl, rfl⟩)
        exact ⟨by rw [t0], by rw [t0]; show 1 ≤ _; omega, by rw [t0]; exact Nat.le_refl _, by omega, ⟨Or.inr ⟨_, Or.inr ⟨rfl, rfl⟩⟩, by rw [hy, t0]; rfl, by rw [hy, t0]; exact Nat.le_refl _, by rw [hy]; exact Or.inl rfl⟩, dom_next, by rw [t1, t0]; rfl, by rw [t2, t0]; exact Nat.le_refl _, by rw [t3, t0]; exact Or.inr rfl⟩)
        fun x y hx => by have := hN.out x y hx; simp only [List.length_append, List.length_cons, List.length_nil]; omega
      have e3 : p + ([Ins.begin l seen] ++ cc ++ [Ins.skip q]).length = p + 1 + cc.length + 1 := by simp only [List.length_append, List.length_cons, List.length_nil]; omega
      have s4 := s3.then (c' := ct) (by rw [e3]; exact (ht _ (hN.sub (by omega) (by omega))).entry (Nat.le_refl _)) fun x y hx => by have := hN.out x y hx; simp only [List.length_append, List.length_cons, List.length_nil]; omega
      have e4 : p + ([Ins.begin l seen] ++ cc ++ [Ins.skip q] ++ ct).length = p + 1 + cc.length + 1 + ct.length := by simp only [List.length_append, List.length_cons, List.length_nil]; omega
      exact s4.then (c' := [Ins.jump r]) (by
        rw [e4]
        refine Seg.one hN.uniq (fun y hy => absurd (hN.out _ _ hy) (by omega)) (fun y hy => ?_) fun T t0 t1 t2 t3 t4 => ?_
        · rw [show p + 1 + cc.length + 1 + ct.length + 1 = q from hq] at hy
          rcases hy with (hy | ⟨hy, _⟩) | ⟨_, rfl⟩
          · exact absurd hy (hL.none (by omega) (by omega) y)
          · omega
          · exact ⟨rfl, rfl, rfl⟩
        · have hy := t4 r ⟨0, seen.length, none, false⟩ (Or.inl (Or.inr ⟨rfl, rfl⟩))
          exact ⟨by rw [t0], by rw [t0]; exact Nat.zero_le _, Or.inl (by omega), Or.inr ⟨_, Or.inl (Or.inr ⟨rfl, rfl⟩)⟩, by rw [hy, t0], by rw [hy, t0]; exact h1, by rw [hy]; exact Or.inl rfl⟩)
        fun x y hx => by have := hN.out x y hx; simp only [List.length_append, List.length_cons, List.length_nil]; omega
  have hlen : p + (Ins.begin l seen :: cc ++ [Ins.skip q] ++ ct ++ [Ins.jump r]).length = q := by simp only [List.length_append, List.length_cons, List.length_nil]; omega
  refine Seg.close (q := r) (y := ⟨0, seen.length, none, false⟩) ?_ (by omega) (by rw [List.length_append]; omega)
  refine part1.then (c' := ce) ?_ fun x y hx => by have := hL1.out x y hx; omega
  rw [hlen]
  have := (he L (hL.sub (by omega) (by omega))).exit h2 false (by rw [hr]; exact hL.none (by omega) (Nat.le_refl _))
  rw [hr] at this
  exact this
theorem Seg.whiles {ar : Nat → Option Nat} {L : Nat → Ty → Prop} {p l v1 : Nat} {seen : List (List UInt8)} {cc cb : List Ins}
    (hL : Lab L p (p + 1 + cc.length + 1 + cb.length + 1))
    (hc : ∀ L', Lab L' (p + 1) (p + 1 + cc.length) → Seg ar L' (p + 1) cc 0 seen.length (some seen.length) 1 seen.length (some seen.length))
    (hb : ∀ L', Lab L' (p + 1 + cc.length + 1) (p + 1 + cc.length + 1 + cb.length) → Seg ar L' (p + 1 + cc.length + 1) cb 0 seen.length none 0 v1 none) (h1 : seen.length ≤ v1) :
    Seg ar L p (Ins.begin l seen :: cc ++ [.skip (p + 1 + cc.length + 1 + cb.length + 1)] ++ cb ++ [Ins.jump p]) 0 seen.length none 0 seen.length none := by
  generalize hq : p + 1 + cc.length + 1 + cb.length + 1 = q at *
  have hlen : p + (Ins.begin l seen :: cc ++ [Ins.skip q] ++ cb ++ [Ins.jump p]).length = q := by simp only [List.length_append, List.length_cons, List.length_nil]; omega
  refine Seg.close (q := p) (y := ⟨0, seen.length, none, true⟩) (Seg.close (q := q) (y := ⟨0, seen.length, none, false⟩) ?_ (by omega) (by omega)) (by omega) (by omega)
  have hL1 : Lab (LabP L p ⟨0, seen.length, none, true⟩) (p + 1) q := LabP.ok hL (Nat.le_refl _) (by omega) (by omega) (Nat.le_refl _) (by omega)
  have hN : Lab (LabP (LabP L p ⟨0, seen.length, none, true⟩) q ⟨0, seen.length, none, false⟩) (p + 1) (q - 1) := LabP.ok hL1 (by omega) (Nat.le_refl _) (Nat.le_refl _) (by omega) (by omega)
  have s1 := Seg.begins (ar := ar) (l := l) (p := p) (seen := seen) hN.uniq (fun y hy => by
    rcases hy with (hy | ⟨_, rfl⟩) | ⟨hy, _⟩
    · exact absurd hy (hL.none (by omega) (by omega) y)
    · rfl
    · omega) (fun y hy => absurd (hN.out _ _ hy) (by omega))
  have s2 := s1.then (c' := cc) (hc _ (hN.sub (by omega) (by omega))) fun x y hx => by have := hN.out x y hx; simp only [List.length_cons, List.length_nil]; omega
  have e2 : p + ([Ins.begin l seen] ++ cc).length = p + 1 + cc.length := by simp only [List.length_append, List.length_cons, List.length_nil]; omega
  have s3 := s2.then (c' := [Ins.skip q]) (by
    rw [e2]
    refine Seg.one (h' := 0) (v' := seen.length) (e' := some seen.length) hN.uniq (fun y hy => absurd (hN.out _ _ hy) (by omega)) (fun y hy => absurd (hN.out _ _ hy) (by omega)) fun T t0 t1 t2 t3 t4 => ?_
    have hy := t4 q ⟨0, seen.length, none, false⟩ (Or.inr ⟨rfl, rfl⟩)
    exact ⟨by rw [t0], by rw [t0]; show 1 ≤ _; omega, by rw [t0]; exact Nat.le_refl _, by omega, ⟨Or.inr ⟨_, Or.inr ⟨rfl, rfl⟩⟩, by rw [hy, t0]; rfl, by rw [hy, t0]; exact Nat.le_refl _, by rw [hy]; exact Or.inl rfl⟩, dom_next, by rw [t1, t0]; rfl, by rw [t2, t0]; exact Nat.le_refl _, by rw [t3, t0]; exact Or.inr rfl⟩)
    fun x y hx => by have := hN.out x y hx; simp only [List.length_append, List.length_cons, List.length_nil]; omega
  have e3 : p + ([Ins.begin l seen] ++ cc ++ [Ins.skip q]).length = p + 1 + cc.length + 1 := by simp only [List.length_append, List.length_cons, List.length_nil]; omega
  have s4 := s3.then (c' := cb) (by rw [e3]; exact (hb _ (hN.sub (by omega) (by omega))).entry (Nat.le_refl _)) fun x y hx => by have := hN.out x y hx; simp only [List.length_append, List.length_cons, List.length_nil]; omega
  have e4 : p + ([Ins.begin l seen] ++ cc ++ [Ins.skip q] ++ cb).length = p + 1 + cc.length + 1 + cb.length := by simp only [List.length_append, List.length_cons, List.length_nil]; omega
  exact s4.then (c' := [Ins.jump p]) (by
    rw [e4]
    refine Seg.one hN.uniq (fun y hy => absurd (hN.out _ _ hy) (by omega)) (fun y hy => ?_) fun T t0 t1 t2 t3 t4 => ?_
    · rw [show p + 1 + cc.length + 1 + cb.length + 1 = q from hq] at hy
      rcases hy with (hy | ⟨hy, _⟩) | ⟨_, rfl⟩
      · exact absurd hy (hL.none (by omega) (by omega) y)
      · omega
      · exact ⟨rfl, rfl, rfl⟩
    · have hy := t4 p ⟨0, seen.length, none, true⟩ (Or.inl (Or.inr ⟨rfl, rfl⟩))
      exact ⟨by rw [t0], by rw [t0]; exact Nat.zero_le _, Or.inr (by rw [hy]), Or.inr ⟨_, Or.inl (Or.inr ⟨rfl, rfl⟩)⟩, by rw [hy, t0], by rw [hy, t0]; exact h1, by rw [hy]; exact Or.inl rfl⟩)
    fun x y hx => by have := hN.out x y hx; simp only [List.length_append, List.length_cons, List.length_nil]; omega
end Go.Proofs.YtblbkfdhjfppkaaGreatDoor.Hs

/- What compiling makes of statements and of functions is right: plain facts. -/
namespace Go.Proofs.YtblbkfdhjfppkaaGreatDoor.Hs
theorem stC_seg (fs : List Ast) : ∀ d, StSeg fs d
  | 0, _, _, _, _, h, _ => h.elim
  | d + 1, seen, a, L, p, ha, hL => by
    have IH := stC_seg fs d
    rcases ha with ⟨h0, hb, t, v, hk, hv, _⟩ | ⟨h0, hx, hne, hk⟩ | ⟨h0, c, t, hk, hc, ht⟩ | ⟨h0, c, b, hk, hc, hb⟩ | ⟨h0, hk | ⟨v, hk, hv⟩⟩ | ⟨h0, v, hk, hv⟩ | ⟨h0, v, hk, hv⟩
    · have hs : stC fs (d + 1) seen a p = (Ins.begin a.line seen :: exprC fs seen d v (p + 1) ++ [Ins.declare seen.length], t.text :: seen) := by rw [stC]; simp [h0, hk]
      have hn : seenC seen a = t.text :: seen := by unfold seenC; rw [if_pos h0, hk]; rfl
      rw [hs] at hL ⊢
      rw [hn]
      simp only at hL ⊢
      obtain ⟨s1, l1⟩ := exprC_at (L := L) (p := p + 1) (e := some seen.length) hv (by omega) (hL.sub (by omega) (by rw [len3]; omega))
      refine ⟨Seg.stmt hL s1 fun hl => Seg.last hl rfl (by omega) fun D T t0 d1 t1 t2 t3 tp => ⟨by rw [t0]; rfl, tp, ?_⟩, trivial, _, rfl⟩
      rw [t0]
      exact ⟨Nat.le_refl _, Nat.le_refl _, hb, rfl, d1, t1, by rw [t2]; exact Nat.le_refl _, Or.inl t3⟩
    · have hs : stC fs (d + 1) seen a p = (Ins.begin a.line seen :: seqC (exprC fs seen d) a.kids (p + 1) ++ [Ins.assign (slotL seen a.text) (a.kids.length - 1)], seen) := by rw [stC]; simp [h0]
      have hn : seenC seen a = seen := by unfold seenC; rw [if_neg (by rw [h0]; decide)]
      rw [hs] at hL ⊢
      rw [hn]
      simp only at hL ⊢
      obtain ⟨s1, l1⟩ := seqC_seg (exprC_seg fs false seen d) a.kids L (p + 1) 0 seen.length (some seen.length) hk (Nat.le_refl _) (by omega) (hL.sub (by omega) (by rw [len3]; omega))
      rw [Nat.zero_add] at s1
      have hpos : 0 < a.kids.length := List.length_pos_iff.2 hne
      refine ⟨Seg.stmt hL s1 fun hl => Seg.last hl rfl (by omega) fun D T t0 d1 t1 t2 t3 tp => ⟨by rw [t0]; rfl, tp, ?_⟩, trivial, _, rfl⟩
      rw [t0]
      refine ⟨?_, slotL_lt hx, d1, ?_, by rw [t2]; exact Nat.le_refl _, Or.inl t3⟩
      · show a.kids.length - 1 + 1 ≤ a.kids.length; omega
      · rw [t1]; show 0 = a.kids.length - (a.kids.length - 1 + 1); omega
    · have hn : seenC seen a = seen := by unfold seenC; rw [if_neg (by rw [h0]; decide)]
      rw [hn]
      obtain ⟨ce, hs, he⟩ : ∃ ce, stC fs (d + 1) seen a p = (Ins.begin a.line seen :: exprC fs seen d c (p + 1) ++ [Ins.skip (p + 1 + (exprC fs seen d c (p + 1)).length + 1 + (stsC (stC fs d) seen t.kids (p + 1 + (exprC fs seen d c (p + 1)).length + 1)).length + 1)] ++ stsC (stC fs d) seen t.kids (p + 1 + (exprC fs seen d c (p + 1)).length + 1) ++
          [Ins.jump (p + 1 + (exprC fs seen d c (p + 1)).length + 1 + (stsC (stC fs d) seen t.kids (p + 1 + (exprC fs seen d c (p + 1)).length + 1)).length + 1 + ce.length)] ++ ce, seen) ∧
          ∃ v2, seen.length ≤ v2 ∧ ∀ L', Lab L' (p + 1 + (exprC fs seen d c (p + 1)).length + 1 + (stsC (stC fs d) seen t.kids (p + 1 + (exprC fs seen d c (p + 1)).length + 1)).length + 1) (p + 1 + (exprC fs seen d c (p + 1)).length + 1 + (stsC (stC fs d) seen t.kids (p + 1 + (exprC fs seen d c (p + 1)).length + 1)).length + 1 + ce.length) → Seg (arL fs) L' (p + 1 + (exprC fs seen d c (p + 1)).length + 1 + (stsC (stC fs d) seen t.kids (p + 1 + (exprC fs seen d c (p + 1)).length + 1)).length + 1) ce 0 seen.length none 0 v2 none := by
        rcases hk with hk | ⟨x, hk, hx⟩
        · refine ⟨[], by rw [stC]; simp [h0, hk], seen.length, Nat.le_refl _, fun L' hL' => Seg.nil _ _ _ _ _ _ (fun q y hq hqp => absurd (hL'.out q y hq) (by simp; omega)) hL'.uniq⟩
        · exact ⟨_, by rw [stC]; simp [h0, hk], _, seenAll_le x.kids seen, fun L' hL' => stsC_seg IH x.kids seen L' _ hx hL'⟩
      obtain ⟨v2, hv2, he⟩ := he
      rw [hs] at hL ⊢
      simp only at hL ⊢
      refine ⟨Seg.ifs (v1 := (seenAll seen t.kids).length) (v2 := v2) ?_ (fun L' hL' => (exprC_at hc (by omega) hL').1) (fun L' hL' => stsC_seg IH t.kids seen L' _ ht hL') (seenAll_le _ _) he hv2, trivial, _, rfl⟩
      refine hL.sub (Nat.le_refl _) ?_
      simp only [List.length_append, List.length_cons, List.length_nil]
      omega
    · have hs : stC fs (d + 1) seen a p = (Ins.begin a.line seen :: exprC fs seen d c (p + 1) ++ [Ins.skip (p + 1 + (exprC fs seen d c (p + 1)).length + 1 + (stsC (stC fs d) seen b.kids (p + 1 + (exprC fs seen d c (p + 1)).length + 1)).length + 1)] ++ stsC (stC fs d) seen b.kids (p + 1 + (exprC fs seen d c (p + 1)).length + 1) ++ [Ins.jump p], seen) := by rw [stC]; simp [h0, hk]
      have hn : seenC seen a = seen := by unfold seenC; rw [if_neg (by rw [h0]; decide)]
      rw [hs] at hL ⊢
      rw [hn]
      simp only at hL ⊢
      refine ⟨Seg.whiles (v1 := (seenAll seen b.kids).length) ?_ (fun L' hL' => (exprC_at hc (by omega) hL').1) (fun L' hL' => stsC_seg IH b.kids seen L' _ hb hL') (seenAll_le _ _), trivial, _, rfl⟩
      refine hL.sub (Nat.le_refl _) ?_
      simp only [List.length_append, List.length_cons, List.length_nil]
      omega
    · have hs : stC fs (d + 1) seen a p = (Ins.begin a.line seen :: [Ins.push (vnum 0)] ++ [Ins.give], seen) := by rw [stC]; simp [h0, hk]
      have hn : seenC seen a = seen := by unfold seenC; rw [if_neg (by rw [h0]; decide)]
      rw [hs] at hL ⊢
      rw [hn]
      simp only at hL ⊢
      have hl' : Lab L (p + 1) (p + 2) := hL.sub (by omega) (by rw [len3]; simp)
      refine ⟨Seg.stmt (n := 1) hL (Seg.plain hl' rfl (by omega) fun D T t1 t2 f b hp => ⟨b, hp, by rw [t1]; exact f⟩) fun hl => Seg.last hl rfl (by omega) fun D T t0 d1 t1 t2 t3 tp => ⟨by rw [t0]; rfl, tp, by rw [t0]; exact Nat.le_refl _⟩, trivial, _, rfl⟩
    · have hs : stC fs (d + 1) seen a p = (Ins.begin a.line seen :: exprC fs seen d v (p + 1) ++ [Ins.give], seen) := by rw [stC]; simp [h0, hk]
      have hn : seenC seen a = seen := by unfold seenC; rw [if_neg (by rw [h0]; decide)]
      rw [hs] at hL ⊢
      rw [hn]
      simp only at hL ⊢
      obtain ⟨s1, l1⟩ := exprC_at (L := L) (p := p + 1) (e := some seen.length) hv (by omega) (hL.sub (by omega) (by rw [len3]; omega))
      exact ⟨Seg.stmt hL s1 fun hl => Seg.last hl rfl (by omega) fun D T t0 d1 t1 t2 t3 tp => ⟨by rw [t0]; rfl, tp, by rw [t0]; exact Nat.le_refl _⟩, trivial, _, rfl⟩
    · have hs : stC fs (d + 1) seen a p = (Ins.begin a.line seen :: exprC fs seen d v (p + 1) ++ [Ins.print], seen) := by rw [stC]; simp [h0, hk]
      have hn : seenC seen a = seen := by unfold seenC; rw [if_neg (by rw [h0]; decide)]
      rw [hs] at hL ⊢
      rw [hn]
      simp only at hL ⊢
      obtain ⟨s1, l1⟩ := exprC_at (L := L) (p := p + 1) (e := some seen.length) hv (by omega) (hL.sub (by omega) (by rw [len3]; omega))
      refine ⟨Seg.stmt hL s1 fun hl => Seg.last hl rfl (by omega) fun D T t0 d1 t1 t2 t3 tp => ⟨by rw [t0]; rfl, tp, ?_⟩, trivial, _, rfl⟩
      rw [t0]
      exact ⟨Nat.le_refl _, d1, t1, by rw [t2]; exact Nat.le_refl _, Or.inl t3⟩
    · have hs : stC fs (d + 1) seen a p = (Ins.begin a.line seen :: exprC fs seen d v (p + 1) ++ [Ins.drop], seen) := by rw [stC]; simp [h0, hk]
      have hn : seenC seen a = seen := by unfold seenC; rw [if_neg (by rw [h0]; decide)]
      rw [hs] at hL ⊢
      rw [hn]
      simp only at hL ⊢
      obtain ⟨s1, l1⟩ := exprC_at (L := L) (p := p + 1) (e := some seen.length) hv (by omega) (hL.sub (by omega) (by rw [len3]; omega))
      refine ⟨Seg.stmt hL s1 fun hl => Seg.last hl rfl (by omega) fun D T t0 d1 t1 t2 t3 tp => ⟨by rw [t0]; rfl, tp, ?_⟩, trivial, _, rfl⟩
      rw [t0]
      exact ⟨Nat.le_refl _, d1, t1, by rw [t2]; exact Nat.le_refl _, Or.inl t3⟩
end Go.Proofs.YtblbkfdhjfppkaaGreatDoor.Hs

/- What compiling makes of functions is right: plain facts. -/
namespace Go.Proofs.YtblbkfdhjfppkaaGreatDoor.Hs
structure FunOk (fs : List Ast) (d : Nat) (f : Ast) : Prop where
  kids : ∃ ps b, f.kids = ps ++ [b] ∧ StsOk (StOk fs d) (ps.map (·.text)).reverse b.kids ∧ (ps.map (·.text)).Nodup
  len : (fnC fs d f).code.length ≤ 80000
end Go.Proofs.YtblbkfdhjfppkaaGreatDoor.Hs

/- Trees without a wrong name are right for the machine: plain facts. -/
namespace Go.Proofs.YtblbkfdhjfppkaaGreatDoor.Hs
theorem look_plain {fs : List Ast} {alone : Bool} {n : Ast} {s : Chk} (h1 : n.op ≠ [115, 101, 116]) (h2 : n.op ≠ [110, 97, 109, 101]) (h3 : n.op ≠ [99, 97, 108, 108]) : lookL fs alone s n = s := by
  unfold lookL
  rw [if_neg (by simp [h1, h2]), if_neg (by simpa using h3)]
end Go.Proofs.YtblbkfdhjfppkaaGreatDoor.Hs

/- Texts are texts of characters, in all that runs: plain facts. -/
namespace Go.Proofs.YtblbkfdhjfppkaaGreatDoor.Hs
inductive TxtOk : List UInt8 → Prop
  | nil : TxtOk []
  | cons {l : List UInt8} : charL l ≠ 0 → TxtOk (l.drop (charL l)) → TxtOk l
end Go.Proofs.YtblbkfdhjfppkaaGreatDoor.Hs

/- Contracts of the program: which method an instruction's do is; is it a begin? -/
namespace Go.Proofs.YtblbkfdhjfppkaaGreatDoor
open Go.RowKit
def Disp (t : TypeId) (f : Nat) : Prop := (∀ recv w, (Go.method 616 t recv "hindsight/machine.do").run Tryz.prog w = .ok (f, recv) w) ∧ ∀ a b w, (callFunc f #[a, b]).run Tryz.prog w = .ok (.enter f #[a, b]) w
def NotBegin (t : TypeId) : Prop := ∀ v w, (Instr.typeAssert (.iface t v) 355 365 true).run Tryz.prog w = .ok (.tuple #[.agg #[.int .i64 0, .pointer none], .bool false]) w
theorem is_begin (v : Value) (w : World) : (Instr.typeAssert (.iface 365 v) 355 365 true).run Tryz.prog w = .ok (.tuple #[v, .bool true]) w := by kernel_rfl
theorem disp_push : Disp 361 370 := ⟨fun _ _ => by kernel_rfl, fun _ _ _ => by kernel_rfl⟩
theorem disp_unary : Disp 407 383 := ⟨fun _ _ => by kernel_rfl, fun _ _ _ => by kernel_rfl⟩
theorem disp_binary : Disp 435 387 := ⟨fun _ _ => by kernel_rfl, fun _ _ _ => by kernel_rfl⟩
theorem disp_give : Disp 363 372 := ⟨fun _ _ => by kernel_rfl, fun _ _ _ => by kernel_rfl⟩
theorem nb_push : NotBegin 361 := fun _ _ => by kernel_rfl
theorem nb_give : NotBegin 363 := fun _ _ => by kernel_rfl
end Go.Proofs.YtblbkfdhjfppkaaGreatDoor

/- Contracts of the program: on to the end of a frame's instructions: the walk. -/
namespace Go.Proofs.YtblbkfdhjfppkaaGreatDoor
open Go.RowKit
set_option maxRecDepth 100000 in
set_option maxHeartbeats 2000000 in
theorem toEnd_walk (w : World) (sb gf : Nat) (L : Nat → World → Prop) (P : World → Prop) (S : Nat → World → Prop) (N : Nat → TypeId → Value → Nat → World → Prop) (K0 : Nat)
    (HT : Hid (Calls Tryz.prog 158 #[.pointer (some ⟨sb, 0, none⟩)] w fun e w' => e = .returned (.pointer (some ⟨gf, 0, none⟩)) ∧ L K0 w'))
    (HL : Hid (∀ k W, L k W → ∃ (nx : Nat) (fb : Nat) (gc : Option Addr) (n c : Nat), W.cell? ⟨gf, 1, none⟩ = some (.int .i64 nx) ∧ W.cell? ⟨gf, 0, none⟩ = some (.pointer (some ⟨fb, 0, none⟩)) ∧ W.cell? ⟨fb, 1, none⟩ = some (.slice gc n c) ∧ gf < W.heap.size ∧ fb < W.heap.size ∧ (n ≤ nx → ∀ q, P (W.drewN q)) ∧ (nx < n → ∃ j, k = j + 1 ∧ ∀ q, Calls Tryz.prog 235 #[.pointer (some ⟨gf, 0, none⟩)] (W.drewN q) fun e w' => ∃ t z fno, e = .returned (.iface t z) ∧ Disp t fno ∧ N j t z fno w')))
    (HN : Hid (∀ j t z fno W, N j t z fno W → Calls Tryz.prog fno #[z, .pointer (some ⟨sb, 0, none⟩)] W fun e w' => (e = .returned (.tuple #[]) ∧ L j w') ∨ (∃ q, e = stopE q ∧ S q w'))) :
    Calls Tryz.prog 170 #[.pointer (some ⟨sb, 0, none⟩)] w fun e w' => (e = .returned (.tuple #[]) ∧ P w') ∨ (∃ q, e = stopE q ∧ S q w') := by
  go_enter Tryz.func170, Tryz.ntmps170
  go_wp2_with fail
  refine HT.out.mono ?_
  rintro e w0 ⟨rfl, h0⟩
  have H0 := mkHid h0
  clear h0 HT
  go_wp2_with fail
  go_loopg [] K0 (fun gk wr => L gk wr)
  case atStart => exact H0.out
  case round =>
    have hl0 := hrel
    clear hrel
    obtain ⟨nx, fb, gc, n, c, c1, c0, d1, l1, l2, hz, hs⟩ := HL.out _ _ hl0
    by_cases h0 : n ≤ nx
    · have HZ := mkHid (hz h0)
      have e1 : ¬ (nx : Int) < (n : Int) := by omega
      clear hl0 hz hs
      go_wp2_with fail
      go_quiet (fail)
      go_wp2_with fail
      exact ⟨rfl, _, results_none (by rfl) _ _ _, Or.inl ⟨rfl, HZ.out _⟩⟩
    · obtain ⟨j, rfl, hf⟩ := hs (by omega)
      have HFF := mkHid hf
      have e1 : (nx : Int) < (n : Int) := by omega
      clear hl0 hz hs hf
      go_wp2_with fail
      go_quiet (fail)
      go_wp2_with fail
      refine (HFF.out _).mono ?_
      rintro e w2 ⟨t, z, fno, rfl, hd, h2⟩
      have HNN := mkHid (HN.out _ _ _ _ _ h2)
      have hd1 := hd.1 z w2
      have hd2 := hd.2 z (.pointer (some ⟨sb, 0, none⟩)) w2
      clear h2 hd HFF
      go_wp2_with fail
      refine HNN.out.mono ?_
      rintro e w3 (⟨rfl, h3⟩ | ⟨q, rfl, h3⟩)
      · have H3 := mkHid h3
        clear h3 hd1 hd2
        go_wp2_with fail
        go_roundg j
        case measure => omega
        case rel => exact H3.out
      · go_wp2_with fail
        exact ⟨rfl, Or.inr ⟨q, rfl, h3⟩⟩
end Go.Proofs.YtblbkfdhjfppkaaGreatDoor

/- Contracts of the program: on until a statement begins: the walk. -/
namespace Go.Proofs.YtblbkfdhjfppkaaGreatDoor
open Go.RowKit
def BegOr (t : TypeId) (z : Value) (b : Bool) : Prop := (t = 365 ∧ (∃ l p, z = .agg #[.int .i64 l, .pointer p]) ∧ b = true) ∨ (NotBegin t ∧ b = false)
set_option maxRecDepth 100000 in
set_option maxHeartbeats 2000000 in
theorem toS_walk (w : World) (sb : Nat) (L : Nat → World → Prop) (P : World → Prop) (S : Nat → World → Prop) (M : Nat → Nat → Nat → World → Prop) (N : Nat → TypeId → Value → Nat → Bool → World → Prop) (K0 : Nat) (h0 : L K0 w)
    (HL : Hid (∀ k W, L k W → ∃ x n c, W.cell? ⟨sb, 1, none⟩ = some (.slice x n c) ∧ sb < W.heap.size ∧ n ≤ 16 ∧ (n = 0 → S 1 W) ∧ (n ≠ 0 → ∃ j, k = j + 1 ∧ ∃ fa fj, M j fa fj W)))
    (HM : Hid (∀ j fa fj W, M j fa fj W → Calls Tryz.prog 158 #[.pointer (some ⟨sb, 0, none⟩)] W fun e w' => e = .returned (.pointer (some ⟨fa, fj, none⟩)) ∧ M j fa fj w'))
    (HF : Hid (∀ j fa fj W, M j fa fj W → Calls Tryz.prog 235 #[.pointer (some ⟨fa, fj, none⟩)] W fun e w' => ∃ t z fno b, e = .returned (.iface t z) ∧ Disp t fno ∧ BegOr t z b ∧ N j t z fno b w'))
    (HN : Hid (∀ j t z fno b W, N j t z fno b W → Calls Tryz.prog fno #[z, .pointer (some ⟨sb, 0, none⟩)] W fun e w' => (e = .returned (.tuple #[]) ∧ (b = true → ∀ ob, P (w'.alloc ob)) ∧ (b = false → ∀ ob, L j (w'.alloc ob))) ∨ (∃ q, e = stopE q ∧ S q w'))) :
    Calls Tryz.prog 175 #[.pointer (some ⟨sb, 0, none⟩)] w fun e w' => (e = .returned (.tuple #[]) ∧ P w') ∨ (∃ q, e = stopE q ∧ S q w') := by
  have H0 := mkHid h0
  clear h0
  go_enter Tryz.func175, Tryz.ntmps175
  go_wp2_with fail
  go_loopg [2, 3, 4] K0 (fun gk _ _ _ wr => L gk wr)
  case atStart => exact H0.out
  case round =>
    obtain ⟨x, n, c, c1, hl, hn, hz, hs⟩ := HL.out _ _ hrel
    by_cases h0 : n = 0
    · subst h0
      have HZ := mkHid (hz rfl)
      clear hrel hz hs
      go_wp2_with fail
      exact ⟨rfl, Or.inr ⟨1, rfl, HZ.out⟩⟩
    · obtain ⟨j, rfl, fa, fj, hm⟩ := hs h0
      have HMM := mkHid (HM.out _ _ _ _ hm)
      have hpos : (0 : Int) < (n : Int) := by omega
      clear hrel hz hs hm
      go_wp2_with fail
      refine HMM.out.mono ?_
      rintro e w1 ⟨rfl, h1⟩
      have HFF := mkHid (HF.out _ _ _ _ h1)
      clear h1
      go_wp2_with fail
      refine HFF.out.mono ?_
      rintro e w2 ⟨t, z, fno, b, rfl, hd, hb, h2⟩
      have HNN := mkHid (HN.out _ _ _ _ _ _ h2)
      have hd1 := hd.1 z w2
      have hd2 := hd.2 z (.pointer (some ⟨sb, 0, none⟩)) w2
      clear h2 hd
      go_wp2_with fail
      refine HNN.out.mono ?_
      rintro e w3 (⟨rfl, h3, h4⟩ | ⟨q, rfl, h3⟩)
      · rcases hb with ⟨rfl, ⟨l, p, rfl⟩, rfl⟩ | ⟨hnb, rfl⟩
        · have hib := is_begin (.agg #[.int .i64 l, .pointer p]) w3
          have HP := mkHid (h3 rfl)
          clear h3 h4 hd1 hd2
          go_wp2_with fail
          exact ⟨rfl, _, results_none (by rfl) _ _ _, Or.inl ⟨rfl, HP.out _⟩⟩
        · have hib := hnb z w3
          have HP := mkHid (h4 rfl)
          clear h3 h4 hd1 hd2 hnb
          go_wp2_with fail
          go_roundg j
          case measure => omega
          case rel => exact HP.out _
      · go_wp2_with fail
        exact ⟨rfl, Or.inr ⟨q, rfl, h3⟩⟩
end Go.Proofs.YtblbkfdhjfppkaaGreatDoor

/- Contracts of the program: on until a statement begins: what it comes to. -/
namespace Go.Proofs.YtblbkfdhjfppkaaGreatDoor
open Go.RowKit
theorem toS_step {tab : List Hs.Fn} {j : Nat} {below : List Hs.Frm} {f0 f : Hs.Frm} {t : List Int} {o : List (List UInt8)} {i : Hs.Ins} {r : Hs.Mst × Nat} (h : Hs.toS tab (j + 1) ⟨below ++ [f0], t, o⟩ = some r) (hf : f0.fetch = some (i, f)) :
    ((Hs.doI tab i below f t o).2 ≠ 0 → r = Hs.doI tab i below f t o) ∧ ((Hs.doI tab i below f t o).2 = 0 → i.isBegin = true → r = Hs.doI tab i below f t o) ∧ ((Hs.doI tab i below f t o).2 = 0 → i.isBegin = false → Hs.toS tab j (Hs.doI tab i below f t o).1 = some r) := by
  rw [Hs.toS] at h
  simp only [Hs.last_snoc, hf, Hs.drop_snoc] at h
  refine ⟨fun h1 => ?_, fun h1 h2 => ?_, fun h1 h2 => ?_⟩
  · rw [if_pos h1] at h; cases h; rfl
  · rw [if_neg (by rw [h1]; simp), if_pos h2] at h; cases h; rfl
  · rw [if_neg (by rw [h1]; simp), h2] at h; exact h
section
variable {fp : Nat → Value} {F : Nat → Prop} {base : Nat} {w : World} {sb gf cap : Nat} {t0 tv outv s0 : Value} {fvs : List FVal} {below : List Hs.Frm} {f0 f : Hs.Frm} {tape : List Int} {out : List (List UInt8)}
theorem RunR.fetched {i : Hs.Ins} (h : RunR fp F base w sb gf cap t0 tv outv s0 fvs ⟨below ++ [f0], tape, out⟩) (hf : f0.fetch = some (i, f)) (hl : f0.fn.code.length ≤ 1000000) :
    Calls Tryz.prog 235 #[.pointer (some ⟨gf, below.length * 6, none⟩)] w fun e w' => ∃ v fvs', e = .returned v ∧ InsR fp F w' v i ∧ RunR fp F base w' sb gf cap t0 tv outv s0 fvs' ⟨below ++ [f], tape, out⟩ ∧ Kept (ownList sb gf outv fvs) w w' ∧ ownList sb gf outv fvs' = ownList sb gf outv fvs := by
  obtain ⟨fb, v, cur, rfl, hfl, hv, hblk, hcur, hcap, k0, k1, k2, k3, k4, k5⟩ := h.top
  rw [← hfl]
  obtain ⟨hi, rfl⟩ : f0.fn.code[f0.next]? = some i ∧ f = { f0 with next := f0.next + 1 } := by
    unfold Hs.Frm.fetch at hf
    cases hx : f0.fn.code[f0.next]? with
    | none => rw [hx] at hf; cases hf
    | some j => rw [hx] at hf; simp at hf; exact ⟨by rw [hf.1], hf.2.symm⟩
  obtain ⟨hnl, hie⟩ := List.getElem?_eq_some_iff.1 hi
  obtain ⟨fbk, gc, cp, row, e1, e2, e3, e4, e5, e6⟩ := hv.fn
  obtain ⟨u, u1, u2⟩ := e6 f0.next hnl
  rw [hie] at u2
  rw [e1] at k0
  rw [hv.nx] at k1
  refine (fetch_any gf (fb.length * 6) fbk gc f0.fn.code.length cp f0.next cur _ u w hcur k0 k1 e3 (cell_of_block e5 u1) u2.form hnl hl).mono ?_
  rintro e w' ⟨he, q, rfl⟩
  have hS := SameH.drewN w q
  have hR1 := h.grow hS.below (fun _ h => h) (fun _ h => Or.inl h)
  have hv1 : FrR fp F base (w.drewN q) v f0 := hv.keep (fun b _ => by rw [hS.heap]) (fun _ h => h) fun k _ => by rw [hS.heap]
  have hv2 : FrR fp F base (w.drewN q) { v with nx := .int .i64 ((f0.next + 1 : Nat) : Int) } { f0 with next := f0.next + 1 } := ⟨hv1.fn, rfl, hv1.ln, hv1.sp, hv1.vars, hv1.ops⟩
  obtain ⟨q1, q2⟩ := hR1.setTop (j := 1) (x := .int .i64 ((f0.next + 1 : Nat) : Int)) (v' := { v with nx := .int .i64 ((f0.next + 1 : Nat) : Int) }) (by omega) rfl rfl hv2
  refine ⟨u, _, he, u2.keep (fun b hb => ?_) (fun _ h => h), q1, (Kept.of_below hS.below).trans q2 fun _ h => Or.inl h, by simp [ownList, ownsAll, FVal.owns]⟩
  rw [Below.heap_setCell _ _ _ _ fun e => (h.apart b hb).2 (by simp [ownList, e]), hS.heap]
end
end Go.Proofs.YtblbkfdhjfppkaaGreatDoor
