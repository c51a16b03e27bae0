/- Plain: the instructions of an operation of two Ints, and what they come to. -/
import Derived.Test.YtblbkfdhjfppkaaGreatDoorPart18
import Derived.Test.YtblbkfdhjfppkaaGreatDoorPart15
import Derived.Test.YtblbkfdhjfppkaaGreatDoorPart16
import Derived.Test.YtblbkfdhjfppkaaGreatDoorPart00
import Derived.Test.YtblbkfdhjfppkaaGreatDoorPart13
import Derived.Test.YtblbkfdhjfppkaaGreatDoorShelfC
import Derived.Test.YtblbkfdhjfppkaaGreatDoorPart12
namespace Go.Proofs.YtblbkfdhjfppkaaGreatDoor.Hs
def ArOk (i : Ins) (g : Frm) : Prop :=
  g.ops.length ≤ 99000 ∧ ((∃ a, i = .push a) ∨ (i = .unary [45] ∧ ∃ vs a, g.ops = vs ++ [a]) ∨ ((∃ op, i = .binary op) ∧ ∃ vs a b, g.ops = vs ++ [a, b]))
inductive ArRun : Nat → Frm → Frm → Nat → Prop where
  | done {k : Nat} {f : Frm} : f.fn.code.length ≤ f.next → ArRun k f f 0
  | stop {k : Nat} {f g r : Frm} {i : Ins} {s : Nat} : f.fetch = some (i, g) → ArOk i g → inFrame i g = (r, s) → s ≠ 0 → ArRun (k + 1) f r s
  | go {k : Nat} {f g r x : Frm} {i : Ins} {s : Nat} : f.fetch = some (i, g) → ArOk i g → inFrame i g = (r, 0) → ArRun k r x s → ArRun (k + 1) f x s
def litC (x : Int) : List Ins :=
  if x = -9223372036854775808 then [.push (vnum 9223372036854775807), .unary [45], .push (vnum 1), .binary [45]]
  else if x < 0 then [.push (vnum x.natAbs), .unary [45]]
  else [.push (vnum x.natAbs)]
theorem exprC_num (fs : List Ast) (seen : List (List UInt8)) (d p n : Nat) (h : n ≤ maxI) : exprC fs seen (d + 1) (numA n) p = [.push (vnum (n : Int))] := by
  show [Ins.push (vnum (((wholeL 0 (digs n)).getD 0 : Nat) : Int))] = _
  rw [digs_whole n h]; rfl
theorem exprC_un (fs : List Ast) (seen : List (List UInt8)) (d p : Nat) (a : Ast) : exprC fs seen (d + 1) (node [45, 120] 1 [] [a]) p = exprC fs seen d a p ++ [.unary [45]] := by
  show (exprC fs seen d a p ++ []) ++ [Ins.unary [45]] = _
  rw [List.append_nil]
theorem exprC_bin (fs : List Ast) (seen : List (List UInt8)) (d p : Nat) (c : UInt8) (hc : c ∈ opSigns) (a b : Ast) : exprC fs seen (d + 1) (node [c] 1 [] [a, b]) p = exprC fs seen d a p ++ exprC fs seen d b (p + (exprC fs seen d a p).length) ++ [.binary [c]] := by
  simp only [opSigns, List.mem_cons, List.not_mem_nil, or_false] at hc
  have h : seqC (exprC fs seen d) [a, b] p = exprC fs seen d a p ++ exprC fs seen d b (p + (exprC fs seen d a p).length) := by
    simp [seqC]
  rw [← h]
  rcases hc with rfl | rfl | rfl | rfl | rfl <;> rfl
theorem exprC_lit (fs : List Ast) (seen : List (List UInt8)) (d p : Nat) (x : Int) (h1 : -9223372036854775808 ≤ x) (h2 : x ≤ 9223372036854775807) : exprC fs seen (d + 3) (litA x) p = litC x := by
  unfold litA litC
  split
  · rw [exprC_bin fs seen (d + 2) p 45 (by decide), exprC_un, exprC_num fs seen d _ _ (by decide), exprC_num fs seen (d + 1) _ _ (by decide)]; rfl
  · split
    · rw [exprC_un, exprC_num fs seen (d + 1) _ _ (by unfold maxI; omega)]; rfl
    · rw [exprC_num fs seen (d + 2) _ _ (by unfold maxI; omega)]
theorem exprC_sum (fs : List Ast) (seen : List (List UInt8)) (d p : Nat) (c : UInt8) (hc : c ∈ opSigns) (x y : Int) (hx1 : -9223372036854775808 ≤ x) (hx2 : x ≤ 9223372036854775807) (hy1 : -9223372036854775808 ≤ y) (hy2 : y ≤ 9223372036854775807) :
    exprC fs seen (d + 4) (sumA c x y) p = litC x ++ litC y ++ [.binary [c]] := by
  unfold sumA
  rw [exprC_bin fs seen (d + 3) p c hc, exprC_lit fs seen d _ _ hx1 hx2, exprC_lit fs seen d _ _ hy1 hy2]
theorem fetch_pre (f : Frm) (pre post : List Ins) (i : Ins) (h : f.fn.code = pre ++ i :: post) (hn : f.next = pre.length) : f.fetch = some (i, { f with next := pre.length + 1 }) := by
  unfold Frm.fetch
  rw [h, hn]; simp
theorem inFrame_neg (f : Frm) (l : List Val) (n : Int) (h : f.ops = l ++ [vnum n]) : inFrame (.unary [45]) f = ({ f with ops := l ++ [vnum (w64 (-n))] }, 0) := by
  have h1 : f.last = vnum n := by unfold Frm.last; rw [h]; simp
  have h2 : f.pop = { f with ops := l } := by unfold Frm.pop; rw [h]; simp
  unfold inFrame
  simp only
  rw [h1, h2]
  rfl
theorem inFrame_two (f : Frm) (l : List Val) (op : List UInt8) (a b v : Val) (h : f.ops = l ++ [a, b]) (ht : twoL op a b = (v, 0)) : inFrame (.binary op) f = ({ f with ops := l ++ [v] }, 0) := by
  have h1 : f.last = b := by unfold Frm.last; rw [h]; simp
  have h2 : f.pop = { f with ops := l ++ [a] } := by unfold Frm.pop; rw [h, show l ++ [a, b] = (l ++ [a]) ++ [b] by simp]; simp
  have h3 : f.pop.last = a := by unfold Frm.last; rw [h2]; simp
  have h4 : f.pop.pop = { f with ops := l } := by rw [h2]; unfold Frm.pop; simp
  unfold inFrame
  simp only
  rw [h1, h3, h4, ht]
  rfl
theorem inFrame_twoStop (f : Frm) (l : List Val) (op : List UInt8) (a b v : Val) (s : Nat) (h : f.ops = l ++ [a, b]) (ht : twoL op a b = (v, s)) (hs : s ≠ 0) : inFrame (.binary op) f = ({ f with ops := l }, s) := by
  have h1 : f.last = b := by unfold Frm.last; rw [h]; simp
  have h2 : f.pop = { f with ops := l ++ [a] } := by unfold Frm.pop; rw [h, show l ++ [a, b] = (l ++ [a]) ++ [b] by simp]; simp
  have h3 : f.pop.last = a := by unfold Frm.last; rw [h2]; simp
  have h4 : f.pop.pop = { f with ops := l } := by rw [h2]; unfold Frm.pop; simp
  unfold inFrame
  simp only
  rw [h1, h3, h4, ht]
  simp [hs]
theorem fetch_fn (fn : Fn) (pre post : List Ins) (i : Ins) (h : fn.code = pre ++ i :: post) (n l : Nat) (hn : n = pre.length) (s : List (List UInt8)) (v o : List Val) : (⟨fn, n, l, s, v, o⟩ : Frm).fetch = some (i, ⟨fn, n + 1, l, s, v, o⟩) := by
  subst hn; exact fetch_pre _ pre post i h rfl
section
variable {k : Nat} {fn : Fn} {pre post : List Ins} {n l : Nat} {s : List (List UInt8)} {v o : List Val} {x : Frm} {st : Nat}
theorem run_push (a : Val) (h : fn.code = pre ++ .push a :: post) (hn : n = pre.length) (ho : o.length ≤ 90000) (hr : ArRun k ⟨fn, n + 1, l, s, v, o ++ [a]⟩ x st) : ArRun (k + 1) ⟨fn, n, l, s, v, o⟩ x st :=
  .go (fetch_fn fn pre post _ h n l hn s v o) ⟨by show o.length ≤ 99000; omega, Or.inl ⟨a, rfl⟩⟩ rfl hr
theorem run_neg (a : Int) (h : fn.code = pre ++ .unary [45] :: post) (hn : n = pre.length) (ho : o.length ≤ 90000) (hr : ArRun k ⟨fn, n + 1, l, s, v, o ++ [vnum (w64 (-a))]⟩ x st) : ArRun (k + 1) ⟨fn, n, l, s, v, o ++ [vnum a]⟩ x st :=
  .go (fetch_fn fn pre post _ h n l hn s v _) ⟨by show (o ++ [vnum a]).length ≤ 99000; simp; omega, Or.inr (Or.inl ⟨rfl, o, _, rfl⟩)⟩ (inFrame_neg _ o _ rfl) hr
theorem run_two (op : List UInt8) (a b z : Val) (hz : twoL op a b = (z, 0)) (h : fn.code = pre ++ .binary op :: post) (hn : n = pre.length) (ho : o.length ≤ 90000) (hr : ArRun k ⟨fn, n + 1, l, s, v, o ++ [z]⟩ x st) : ArRun (k + 1) ⟨fn, n, l, s, v, o ++ [a] ++ [b]⟩ x st :=
  .go (fetch_fn fn pre post _ h n l hn s v _) ⟨by show (o ++ [a] ++ [b]).length ≤ 99000; simp; omega, Or.inr (Or.inr ⟨⟨op, rfl⟩, o, a, b, by simp⟩)⟩ (inFrame_two _ o _ a b z (by simp) hz) hr
theorem run_lit (a : Int) (hx1 : -9223372036854775808 ≤ a) (hx2 : a ≤ 9223372036854775807) (h : fn.code = pre ++ litC a ++ post) (hn : n = pre.length) (ho : o.length ≤ 80000) (hr : ArRun k ⟨fn, n + (litC a).length, l, s, v, o ++ [vnum a]⟩ x st) :
    ArRun (k + (litC a).length) ⟨fn, n, l, s, v, o⟩ x st := by
  unfold litC at h hr ⊢
  split at h
  · rename_i hx
    subst hx
    rw [if_pos rfl] at hr ⊢
    have h1 := h.trans (show _ = pre ++ .push (vnum 9223372036854775807) :: (.unary [45] :: .push (vnum 1) :: .binary [45] :: post) by simp)
    have h2 := h.trans (show _ = (pre ++ [.push (vnum 9223372036854775807)]) ++ .unary [45] :: (.push (vnum 1) :: .binary [45] :: post) by simp)
    have h3 := h.trans (show _ = (pre ++ [.push (vnum 9223372036854775807), .unary [45]]) ++ .push (vnum 1) :: (.binary [45] :: post) by simp)
    have h4 := h.trans (show _ = (pre ++ [.push (vnum 9223372036854775807), .unary [45], .push (vnum 1)]) ++ .binary [45] :: post by simp)
    exact run_push (k := k + 3) _ h1 hn (by omega) (run_neg (k := k + 2) _ h2 (by simp [hn]) (by omega) (run_push (k := k + 1) _ h3 (by simp [hn]) (by simp; omega) (run_two (k := k) _ _ _ (vnum (-9223372036854775808)) rfl h4 (by simp [hn]) (by omega) hr)))
  · rename_i hx
    rw [if_neg hx] at hr ⊢
    split at h
    · rename_i hx0
      rw [if_pos hx0] at hr ⊢
      have h1 := h.trans (show _ = pre ++ .push (vnum a.natAbs) :: (.unary [45] :: post) by simp)
      have h2 := h.trans (show _ = (pre ++ [.push (vnum a.natAbs)]) ++ .unary [45] :: post by simp)
      refine run_push (k := k + 1) _ h1 hn (by omega) (run_neg (k := k) _ h2 (by simp [hn]) (by omega) ?_)
      rw [show w64 (-(a.natAbs : Int)) = a by unfold w64; omega]
      exact hr
    · rename_i hx0
      rw [if_neg hx0] at hr ⊢
      have h1 := h.trans (show _ = pre ++ .push (vnum a.natAbs) :: post by simp)
      refine run_push (k := k) _ h1 hn (by omega) ?_
      rw [show (a.natAbs : Int) = a by omega]
      exact hr
end
theorem sum_run (c : UInt8) (x y : Int) (hx1 : -9223372036854775808 ≤ x) (hx2 : x ≤ 9223372036854775807) (hy1 : -9223372036854775808 ≤ y) (hy2 : y ≤ 9223372036854775807) (fn : Fn) (hcd : fn.code = litC x ++ litC y ++ [.binary [c]]) (l : Nat) (s : List (List UInt8)) (v : List Val) :
    ∃ k g, ArRun k ⟨fn, 0, l, s, v, []⟩ g (twoL [c] (vnum x) (vnum y)).2 ∧ ((twoL [c] (vnum x) (vnum y)).2 = 0 → g.ops = [(twoL [c] (vnum x) (vnum y)).1]) := by
  obtain ⟨z, st, ht⟩ : ∃ z st, twoL [c] (vnum x) (vnum y) = (z, st) := ⟨_, _, rfl⟩
  rw [ht]
  have two : ∀ {k : Nat} {g : Frm}, ArRun k ⟨fn, (litC x).length + (litC y).length, l, s, v, [vnum x] ++ [vnum y]⟩ g st → ArRun (k + (litC y).length + (litC x).length) ⟨fn, 0, l, s, v, []⟩ g st := fun h =>
    run_lit x hx1 hx2 (pre := []) (post := litC y ++ [.binary [c]]) (by rw [hcd]; simp) rfl (by simp) (run_lit y hy1 hy2 (pre := litC x) (post := [.binary [c]]) hcd (by simp) (by simp) (by simpa using h))
  by_cases hs : st = 0
  · subst hs
    exact ⟨_, _, two (run_two (k := 0) (o := []) _ _ _ _ ht (pre := litC x ++ litC y) (post := []) hcd (by simp) (by simp) (.done (by rw [hcd]; simp; omega))), fun _ => rfl⟩
  · exact ⟨_, _, two (.stop (k := 0) (fetch_fn fn (litC x ++ litC y) [] _ hcd _ l (by simp) s v _) ⟨by simp, Or.inr (Or.inr ⟨⟨_, rfl⟩, [], _, _, rfl⟩)⟩ (inFrame_twoStop _ [] _ _ _ _ st rfl ht hs) hs), fun h => absurd h hs⟩
end Go.Proofs.YtblbkfdhjfppkaaGreatDoor.Hs

/- Contracts of the program: on to the end of a frame's instructions: what it comes to. -/
namespace Go.Proofs.YtblbkfdhjfppkaaGreatDoor
open Go.RowKit
theorem inFrame_fn (i : Hs.Ins) (f : Hs.Frm) : (Hs.inFrame i f).1.fn = f.fn := by
  cases i <;> simp only [Hs.inFrame] <;> (repeat' split) <;> rfl
theorem ArRun.ended {k : Nat} {f x : Hs.Frm} {st : Nat} (h : Hs.ArRun k f x st) (hn : f.fn.code.length ≤ f.next) : x = f ∧ st = 0 := by
  have hf : f.fetch = none := by unfold Hs.Frm.fetch; rw [List.getElem?_eq_none hn]; rfl
  cases h with
  | done _ => exact ⟨rfl, rfl⟩
  | stop h1 => rw [hf] at h1; cases h1
  | go h1 => rw [hf] at h1; cases h1
theorem ArRun.next {k : Nat} {f x : Hs.Frm} {st : Nat} (h : Hs.ArRun k f x st) (hn : f.next < f.fn.code.length) : ∃ j i g, k = j + 1 ∧ f.fetch = some (i, g) ∧ Hs.ArOk i g ∧ (((Hs.inFrame i g).2 ≠ 0 ∧ x = (Hs.inFrame i g).1 ∧ st = (Hs.inFrame i g).2) ∨ ((Hs.inFrame i g).2 = 0 ∧ Hs.ArRun j (Hs.inFrame i g).1 x st)) := by
  cases h with
  | done h => omega
  | stop h1 h2 h3 h4 => exact ⟨_, _, _, rfl, h1, h2, Or.inl ⟨by rw [h3]; exact h4, by rw [h3], by rw [h3]⟩⟩
  | go h1 h2 h3 h4 => exact ⟨_, _, _, rfl, h1, h2, Or.inr ⟨by rw [h3], by rw [h3]; exact h4⟩⟩
section
variable {fp : Nat → Value} {F : Nat → Prop} {base : Nat} {w : World} {sb gf cap : Nat} {t0 tv outv s0 : Value} {fvs : List FVal} {f : Hs.Frm} {tape : List Int} {out : List (List UInt8)}
theorem ar_do {i : Hs.Ins} {v : Value} (h : RunR fp F base w sb gf cap t0 tv outv s0 fvs ⟨[] ++ [f], tape, out⟩) (hbase : base ≤ w.heap.size) (hI : InsR fp F w v i) (ha : Hs.ArOk i f) :
    ∃ t z fno, v = .iface t z ∧ Disp t fno ∧ Calls Tryz.prog fno #[z, .pointer (some ⟨sb, 0, none⟩)] w (DoPG fp F base sb gf t0 s0 (ownList sb gf outv fvs) w [] tape out (Hs.inFrame i f)) := by
  obtain ⟨ho, ⟨a, rfl⟩ | ⟨rfl, hv⟩ | ⟨⟨op, rfl⟩, hv⟩⟩ := ha
  · obtain ⟨u, rfl, h1, h2⟩ := hI
    refine ⟨_, _, _, rfl, disp_push, (pushDo_anyG fp F base w sb gf cap t0 tv outv s0 fvs [] f tape out u a h h1 h2 (by omega) (by simp) hbase).mono ?_⟩
    rintro e w' ⟨rfl, h3⟩
    exact DoPG.ok rfl h3
  · obtain rfl : v = _ := hI
    exact ⟨_, _, _, rfl, disp_unary, unary_doG [45] (Or.inl rfl) h (by simp) hbase ho hv⟩
  · obtain rfl : v = _ := hI
    exact ⟨_, _, _, rfl, disp_binary, binary_doG op h (by simp) hbase ho hv⟩
def EndL (fp : Nat → Value) (F0 : Nat → Prop) (base sb gf : Nat) (t0 s0 : Value) (own0 : List Nat) (w0 : World) (tape : List Int) (out : List (List UInt8)) (f : Hs.Frm) (W : World) : Prop :=
  ∃ F cap tv outv fvs, Ext F0 F w0.heap.size ∧ RunR fp F base W sb gf cap t0 tv outv s0 fvs ⟨[] ++ [f], tape, out⟩ ∧ Kept own0 w0 W ∧ (∀ x ∈ ownList sb gf outv fvs, x ∈ own0 ∨ w0.heap.size ≤ x)
theorem EndL.same {own0 : List Nat} {W W' : World} (h : EndL fp F base sb gf t0 s0 own0 w tape out f W) (hS : SameH W W') : EndL fp F base sb gf t0 s0 own0 w tape out f W' := by
  obtain ⟨F', cap, tv, outv, fvs, g1, g2, g3, g4⟩ := h
  exact ⟨F', cap, tv, outv, fvs, g1, g2.grow hS.below (fun _ h => h) (fun _ h => Or.inl h), g3.trans (Kept.of_below (own := []) hS.below) (fun x hx => by simp at hx), g4⟩
theorem toEnd_ar {k : Nat} {x : Hs.Frm} {st : Nat} (h : RunR fp F base w sb gf cap t0 tv outv s0 fvs ⟨[] ++ [f], tape, out⟩) (hbase : base ≤ w.heap.size) (hl : f.fn.code.length ≤ 1000000) (hk : Hs.ArRun k f x st) :
    Calls Tryz.prog 170 #[.pointer (some ⟨sb, 0, none⟩)] w fun e w' => EndE st e ∧ DoneG fp F base sb gf t0 s0 (ownList sb gf outv fvs) w ⟨[] ++ [x], tape, out⟩ w' := by
  generalize hown : ownList sb gf outv fvs = own0
  have done : ∀ W, EndL fp F base sb gf t0 s0 own0 w tape out x W → DoneG fp F base sb gf t0 s0 own0 w ⟨[] ++ [x], tape, out⟩ W := fun W hE => by
    obtain ⟨F', cap, tv, outv, fvs, g1, g2, g3, g4⟩ := hE
    exact ⟨g3, F', cap, tv, outv, fvs, g1, g2, g4⟩
  have h0 : EndL fp F base sb gf t0 s0 own0 w tape out f w := ⟨F, cap, tv, outv, fvs, Ext.refl _ _, h, Kept.refl _ _, fun y hy => Or.inl (by rw [← hown]; exact hy)⟩
  refine (toEnd_walk w sb gf (fun k W => ∃ f, EndL fp F base sb gf t0 s0 own0 w tape out f W ∧ f.fn.code.length ≤ 1000000 ∧ Hs.ArRun k f x st)
    (fun W => st = 0 ∧ DoneG fp F base sb gf t0 s0 own0 w ⟨[] ++ [x], tape, out⟩ W) (fun q W => q = st ∧ st ≠ 0 ∧ DoneG fp F base sb gf t0 s0 own0 w ⟨[] ++ [x], tape, out⟩ W)
    (fun j t z fno W => ∃ (F' : Nat → Prop) (outv : Value) (fvs : List FVal) (g : Hs.Frm) (i : Hs.Ins), (Ext F F' w.heap.size ∧ Kept own0 w W ∧ (∀ x ∈ ownList sb gf outv fvs, x ∈ own0 ∨ w.heap.size ≤ x) ∧ g.fn.code.length ≤ 1000000) ∧ (((Hs.inFrame i g).2 ≠ 0 ∧ x = (Hs.inFrame i g).1 ∧ st = (Hs.inFrame i g).2) ∨ ((Hs.inFrame i g).2 = 0 ∧ Hs.ArRun j (Hs.inFrame i g).1 x st)) ∧
      Calls Tryz.prog fno #[z, .pointer (some ⟨sb, 0, none⟩)] W (DoPG fp F' base sb gf t0 s0 (ownList sb gf outv fvs) W [] tape out (Hs.inFrame i g)))
    k ?_ (fun k W hL => ?_) (fun j t z fno W hN => ?_)).mono ?_
  · have hc := h.count
    have hblk := h.blk
    rw [hc] at hblk
    refine (top_any sb gf 0 cap w (cell_of_block hblk rfl) (by omega)).mono ?_
    rintro e w' ⟨he, q, rfl⟩
    exact ⟨he, f, h0.same (SameH.drewN _ _), hl, hk⟩
  · obtain ⟨f, hE, hl, hk⟩ := hL
    have hE' := hE
    obtain ⟨F', cap, tv, outv, fvs, g1, g2, g3, g4⟩ := hE
    obtain ⟨fb, v, cur, rfl, hfl, hv, hblk, hcur, hcap, k0, k1, -, -, -, -⟩ := g2.top
    obtain rfl : fb = [] := List.eq_nil_of_length_eq_zero hfl
    obtain ⟨fbk, gc, cp, row, e1, e2, e3, e4, e5, e6⟩ := hv.fn
    rw [e1] at k0
    rw [hv.nx] at k1
    refine ⟨f.next, fbk, some ⟨gc, 0, none⟩, f.fn.code.length, cp, cell_of_block hcur k1, cell_of_block hcur k0, cell_of_block e3 rfl, lt_of_block hcur, lt_of_block e3, fun hn q => ?_, fun hn => ?_⟩
    · obtain ⟨rfl, rfl⟩ := ArRun.ended hk hn
      exact ⟨rfl, done _ (hE'.same (SameH.drewN _ _))⟩
    · obtain ⟨j, i, g, rfl, hf, ha, hr⟩ := ArRun.next hk hn
      refine ⟨j, rfl, fun q => ?_⟩
      have hS := SameH.drewN W q
      have g2' := g2.grow hS.below (fun _ h => h) (fun _ h => Or.inl h)
      have hkq : Kept own0 w (W.drewN q) := g3.trans (Kept.of_below (own := []) hS.below) (fun x hx => by simp at hx)
      refine (g2'.fetched hf hl).mono ?_
      rintro e w' ⟨u, fvs', he, q1, q2, q3, q4⟩
      have hk' : Kept own0 w w' := hkq.trans q3 g4
      obtain ⟨t', z, fno, d1, d2, d3⟩ := ar_do q2 (Nat.le_trans hbase hk'.size) q1 ha
      have hgf : g.fn = f.fn := by
        unfold Hs.Frm.fetch at hf
        cases hx : f.fn.code[f.next]? with
        | none => rw [hx] at hf; cases hf
        | some y => rw [hx] at hf; simp at hf; rw [← hf.2]
      exact ⟨t', z, fno, by rw [he, d1], d2, F', outv, fvs', g, i, ⟨g1, hk', fun x hx => g4 x (by rw [← q4]; exact hx), by rw [hgf]; exact hl⟩, hr, d3⟩
  · obtain ⟨F', outv, fvs, g, i, ⟨g1, g2, g3, g4⟩, hr, hc⟩ := hN
    refine hc.mono ?_
    rintro e w' ⟨he, hd1, G, cap', tv', outv', fvs', d1, d2, d3⟩
    have hE : EndL fp F base sb gf t0 s0 own0 w tape out (Hs.inFrame i g).1 w' := ⟨G, cap', tv', outv', fvs', g1.trans d1 g2.size, d2, g2.trans hd1 g3, fun x hx => by
      rcases d3 x hx with h1 | h1
      · exact g3 x h1
      · exact Or.inr (Nat.le_trans g2.size h1)⟩
    rcases he with ⟨hz, rfl⟩ | ⟨hz, rfl⟩
    · rcases hr with ⟨h1, _⟩ | ⟨_, h1⟩
      · exact absurd hz h1
      · exact Or.inl ⟨rfl, _, hE, by rw [inFrame_fn]; exact g4, h1⟩
    · rcases hr with ⟨_, rfl, rfl⟩ | ⟨h1, _⟩
      · exact Or.inr ⟨_, rfl, rfl, hz, done _ hE⟩
      · exact absurd h1 hz
  · rintro e w' (⟨rfl, h1, h2⟩ | ⟨q, rfl, rfl, h1, h2⟩)
    · exact ⟨Or.inl ⟨h1, rfl⟩, h2⟩
    · exact ⟨Or.inr ⟨h1, rfl⟩, h2⟩
end
end Go.Proofs.YtblbkfdhjfppkaaGreatDoor

/- Contracts of the program: on until a statement begins, for machines of any kind; a machine goes on. -/
namespace Go.Proofs.YtblbkfdhjfppkaaGreatDoor
open Go.RowKit
section
variable {fp : Nat → Value} {F : Nat → Prop} {base : Nat} {w : World} {sb gf cap : Nat} {t0 tv outv s0 : Value} {fvs : List FVal} {below : List Hs.Frm} {f0 f : Hs.Frm} {tape : List Int} {out : List (List UInt8)}
def LoopP (fp : Nat → Value) (F0 : Nat → Prop) (base sb : Nat) (t0 s0 : Value) (own0 : List Nat) (w0 : World) (tab : List Hs.Fn) (Pm : Hs.Mst → Prop) (m : Hs.Mst) (W : World) : Prop :=
  ∃ F gf cap tv outv fvs, Ext F0 F w0.heap.size ∧ RunR fp F base W sb gf cap t0 tv outv s0 fvs m ∧ TabR fp F W tab ∧ Kept own0 w0 W ∧ (∀ x ∈ ownList sb gf outv fvs, x ∈ own0 ∨ w0.heap.size ≤ x) ∧ Pm m
theorem toStatement_of {tab : List Hs.Fn} {m : Hs.Mst} {k : Nat} {r : Hs.Mst × Nat} (Pm : Hs.Mst → Prop) (HQ : ∀ m, Pm m → m.frames.length ≤ 16 ∧ ∀ below f0, m.frames = below ++ [f0] → f0.next < f0.fn.code.length ∧ f0.fn.code.length ≤ 1000000)
    (HN : ∀ below f0 f i tape out, Pm ⟨below ++ [f0], tape, out⟩ → f0.fetch = some (i, f) → (Hs.doI tab i below f tape out).2 = 0 → Pm (Hs.doI tab i below f tape out).1)
    (HI : ∀ (F : Nat → Prop) (w : World) (gf cap : Nat) (tv outv : Value) (fvs : List FVal) (below : List Hs.Frm) (f0 f : Hs.Frm) (tape : List Int) (out : List (List UInt8)) (i : Hs.Ins) (v : Value), Pm ⟨below ++ [f0], tape, out⟩ → f0.fetch = some (i, f) → RunR fp F base w sb gf cap t0 tv outv s0 fvs ⟨below ++ [f], tape, out⟩ → TabR fp F w tab → base ≤ w.heap.size → InsR fp F w v i →
      ∃ t z fno b, v = .iface t z ∧ Disp t fno ∧ BegOr t z b ∧ b = i.isBegin ∧ Calls Tryz.prog fno #[z, .pointer (some ⟨sb, 0, none⟩)] w (DoM fp F base sb t0 s0 (ownList sb gf outv fvs) w (Hs.doI tab i below f tape out)))
    (h : RunR fp F base w sb gf cap t0 tv outv s0 fvs m) (hT : TabR fp F w tab) (hbase : base ≤ w.heap.size)
    (hA : Pm m) (hk : Hs.toS tab k m = some r) :
    Calls Tryz.prog 175 #[.pointer (some ⟨sb, 0, none⟩)] w (DoM fp F base sb t0 s0 (ownList sb gf outv fvs) w r) := by
  generalize hown : ownList sb gf outv fvs = own0
  refine (toS_walk w sb (fun k W => ∃ m, LoopP fp F base sb t0 s0 own0 w tab Pm m W ∧ Hs.toS tab k m = some r)
    (fun W => r.2 = 0 ∧ Done fp F base sb t0 s0 own0 w r.1 W) (fun q W => q = r.2 ∧ r.2 ≠ 0 ∧ Done fp F base sb t0 s0 own0 w r.1 W)
    (fun j fa fj W => ∃ F' gf cap tv outv fvs below f0 tape out, fa = gf ∧ fj = below.length * 6 ∧ (Ext F F' w.heap.size ∧ RunR fp F' base W sb gf cap t0 tv outv s0 fvs ⟨below ++ [f0], tape, out⟩ ∧ TabR fp F' W tab ∧ Kept own0 w W ∧ (∀ x ∈ ownList sb gf outv fvs, x ∈ own0 ∨ w.heap.size ≤ x)) ∧ Pm ⟨below ++ [f0], tape, out⟩ ∧ Hs.toS tab (j + 1) ⟨below ++ [f0], tape, out⟩ = some r)
    (fun j t z fno b W => ∃ F' gf cap tv outv fvs below f0 f i tape out, (Ext F F' w.heap.size ∧ RunR fp F' base W sb gf cap t0 tv outv s0 fvs ⟨below ++ [f], tape, out⟩ ∧ TabR fp F' W tab ∧ Kept own0 w W ∧ (∀ x ∈ ownList sb gf outv fvs, x ∈ own0 ∨ w.heap.size ≤ x)) ∧ Pm ⟨below ++ [f0], tape, out⟩ ∧ Hs.toS tab (j + 1) ⟨below ++ [f0], tape, out⟩ = some r ∧ f0.fetch = some (i, f) ∧ b = i.isBegin ∧
      Calls Tryz.prog fno #[z, .pointer (some ⟨sb, 0, none⟩)] W (DoM fp F' base sb t0 s0 (ownList sb gf outv fvs) W (Hs.doI tab i below f tape out)))
    k ⟨m, ⟨F, gf, cap, tv, outv, fvs, Ext.refl _ _, h, hT, Kept.refl _ _, fun x hx => Or.inl (by rw [← hown]; exact hx), hA⟩, hk⟩ (fun k W hL => ?_) (fun j fa fj W hM => ?_) (fun j fa fj W hM => ?_) (fun j t z fno b W hN => ?_)).mono ?_
  · obtain ⟨m, ⟨F', gf, cap, tv, outv, fvs, g1, g2, g3, g4, g5, g6⟩, hk⟩ := hL
    have hc := g2.count
    have hd := (HQ _ g6).1
    refine ⟨_, _, _, cell_of_block g2.blk rfl, lt_of_block g2.blk, by omega, fun h0 => ?_, fun h0 => ?_⟩
    · have hm : m.frames = [] := List.eq_nil_of_length_eq_zero (by omega)
      cases k with
      | zero => rw [Hs.toS] at hk; cases hk
      | succ j =>
        rw [Hs.toS, hm] at hk
        simp only [List.getLast?_nil] at hk
        cases hk
        exact ⟨rfl, Nat.one_ne_zero, g4, F', gf, cap, tv, outv, fvs, g1, g2, g5⟩
    · obtain ⟨b, f, e⟩ := Hs.frames_snoc (l := m.frames) (fun e => h0 (by rw [hc, e]; rfl))
      obtain ⟨fr, t, o⟩ := m
      simp only at e
      subst e
      cases k with
      | zero => rw [Hs.toS] at hk; cases hk
      | succ j => exact ⟨j, rfl, gf, b.length * 6, F', gf, cap, tv, outv, fvs, b, f, t, o, rfl, rfl, ⟨g1, g2, g3, g4, g5⟩, g6, hk⟩
  · obtain ⟨F', gf, cap, tv, outv, fvs, b, f, t, o, rfl, rfl, ⟨g1, g2, g3, g4, g5⟩, g6, hk⟩ := hM
    have hc := g2.count
    have hd := (HQ _ g6).1
    have hblk := g2.blk
    rw [hc, List.length_append, List.length_singleton] at hblk
    simp at hd
    refine (top_any sb fa b.length cap W (cell_of_block hblk rfl) (by omega)).mono ?_
    rintro e w' ⟨he, q, rfl⟩
    have hS := SameH.drewN W q
    exact ⟨he, F', fa, cap, tv, outv, fvs, b, f, t, o, rfl, rfl, ⟨g1, g2.grow hS.below (fun _ h => h) (fun _ h => Or.inl h), g3.keep (fun b _ => by rw [hS.heap]) (fun _ h => h), g4.trans (Kept.of_below (own := []) hS.below) (fun x hx => by simp at hx), g5⟩, g6, hk⟩
  · obtain ⟨F', gf, cap, tv, outv, fvs, b, f0, t, o, rfl, rfl, ⟨g1, g2, g3, g4, g5⟩, g6, hk⟩ := hM
    obtain ⟨hnx, hcl⟩ := (HQ _ g6).2 b f0 rfl
    have hf := Hs.fetch_of hnx
    generalize f0.fn.code[f0.next]'hnx = i at hf
    refine (g2.fetched hf (by omega)).mono ?_
    rintro e w' ⟨v, fvs', he, q1, q2, q3, q4⟩
    have g3' : TabR fp F' w' tab := g3.keep (fun x hx => q3.block x (g2.apart x hx).1 (g2.apart x hx).2) fun _ h => h
    have hk' : Kept own0 w w' := g4.trans q3 g5
    obtain ⟨t', z, fno, bb, e1, e2, e3, e4, e5⟩ := HI F' w' fa cap tv outv fvs' b f0 _ t o i v g6 hf q2 g3' (Nat.le_trans hbase hk'.size) q1
    exact ⟨t', z, fno, bb, by rw [he, e1], e2, e3, F', fa, cap, tv, outv, fvs', b, f0, _, i, t, o, ⟨g1, q2, g3', hk', fun x hx => g5 x (by rw [← q4]; exact hx)⟩, g6, hk, hf, e4, e5⟩
  · obtain ⟨F', gf, cap, tv, outv, fvs, below, f0, f, i, tp, o, ⟨g1, g2, g3, g4, g5⟩, g6, hk, hf, hb, hc⟩ := hN
    obtain ⟨s1, s2, s3⟩ := toS_step hk hf
    refine hc.mono ?_
    rintro e w' ⟨he, hd1, G, gf', cap', tv', outv', fvs', d1, d2, d3⟩
    have hk' : Kept own0 w w' := g4.trans hd1 g5
    have hsub : ∀ x ∈ ownList sb gf' outv' fvs', x ∈ own0 ∨ w.heap.size ≤ x := fun x hx => by
      rcases d3 x hx with h1 | h1
      · exact g5 x h1
      · exact Or.inr (Nat.le_trans g4.size h1)
    have hTab : TabR fp G w' tab := g3.keep (fun x hx => hd1.block x (g2.apart x hx).1 (g2.apart x hx).2) d1.sub
    have hal : ∀ ob, Below w'.heap.size w' (w'.alloc ob) := fun ob => (Below.refl _ w').alloc (Nat.le_refl _) ob
    rcases he with ⟨hz, rfl⟩ | ⟨hz, rfl⟩
    · refine Or.inl ⟨rfl, fun hbt ob => ?_, fun hbf ob => ?_⟩
      · have hr := s2 hz (by rw [← hb]; exact hbt)
        rw [hr]
        exact ⟨hz, hk'.trans (Kept.of_below (own := []) (hal ob)) (fun x hx => by simp at hx), G, gf', cap', tv', outv', fvs', g1.trans d1 g4.size, d2.grow (hal ob) (fun _ h => h) (fun _ h => Or.inl h), hsub⟩
      · refine ⟨_, ⟨G, gf', cap', tv', outv', fvs', g1.trans d1 g4.size, d2.grow (hal ob) (fun _ h => h) (fun _ h => Or.inl h), hTab.keep (fun x hx => (hal ob).block x (d2.apart x hx).1) (fun _ h => h), hk'.trans (Kept.of_below (own := []) (hal ob)) (fun x hx => by simp at hx), hsub, HN _ _ _ _ _ _ g6 hf hz⟩, s3 hz (by rw [← hb]; exact hbf)⟩
    · refine Or.inr ⟨_, rfl, ?_⟩
      have hr := s1 hz
      rw [hr]
      exact ⟨rfl, hz, hk', G, gf', cap', tv', outv', fvs', g1.trans d1 g4.size, d2, hsub⟩
  · rintro e w' (⟨rfl, h1, h2⟩ | ⟨q, rfl, rfl, h1, h2⟩)
    · exact ⟨Or.inl ⟨h1, rfl⟩, h2⟩
    · exact ⟨Or.inr ⟨h1, rfl⟩, h2⟩
theorem goOn_of {m : Hs.Mst} {time : Nat} {r : Hs.Mst × Nat} (h : RunR fp F base w sb gf cap (.int .i64 time) tv outv s0 fvs m) (hX : Calls Tryz.prog 175 #[.pointer (some ⟨sb, 0, none⟩)] (w.alloc (.cells #[.int .i64 0] 61)) (DoM fp F base sb (.int .i64 time) s0 (ownList sb gf outv fvs) (w.alloc (.cells #[.int .i64 0] 61)) r)) (htm : time ≤ 1000000) (hr9 : r.2 ≤ 1000) :
    Calls Tryz.prog 125 #[.pointer (some ⟨sb, 0, none⟩)] w fun e w' => e = .returned (.tuple #[]) ∧ Done fp F base sb (.int .i64 time) (.int .i64 (Hs.fuelStop time r.2)) (ownList sb gf outv fvs) w r.1 w' := by
  have hal : Below w.heap.size w (w.alloc (.cells #[.int .i64 0] 61)) := (Below.refl _ w).alloc (Nat.le_refl _) _
  have hK0 : Kept (ownList sb gf outv fvs) w (w.alloc (.cells #[.int .i64 0] 61)) := Kept.of_below hal
  have hfirst : (w.alloc (.cells #[.int .i64 0] 61)).heap[w.heap.size]? = some (.cells #[.int .i64 0] 61 (0, 0)) := heap_first _ _ rfl _
  have hnew : w.heap.size ∉ ownList sb gf outv fvs := fun hm => by have := h.lt _ hm; omega
  have hS := stopOf_any 175 ⟨sb, 0, none⟩ w (fun k W => k = r.2 ∧ Done fp F base sb (.int .i64 time) s0 (ownList sb gf outv fvs) (w.alloc (.cells #[.int .i64 0] 61)) r.1 W) callToS (hX.mono fun e w' hd => by
    obtain ⟨he, hd⟩ := hd
    refine ⟨r.2, he, ⟨rfl, hd⟩, ?_⟩
    rw [hd.1.block _ (by simp) hnew]; exact hfirst)
  generalize hw0 : w.alloc (.cells #[.int .i64 0] 61) = w0 at *
  have hD : ∀ W x, Done fp F base sb (.int .i64 time) s0 (ownList sb gf outv fvs) w0 r.1 W → Done fp F base sb (.int .i64 time) s0 (ownList sb gf outv fvs) w r.1 (W.setCell ⟨w.heap.size, 0, none⟩ x) := fun W x hd => by
    obtain ⟨d1, G, gf', cap', tv', outv', fvs', d2, d3, d4⟩ := hd
    have hsz : w.heap.size < w0.heap.size := by rw [← hw0]; simp
    have hnG : ¬ F w.heap.size := fun hF => by have := (h.apart _ hF).1; omega
    have hno : w.heap.size ∉ ownList sb gf' outv' fvs' := fun hm => by
      rcases d4 _ hm with h1 | h1
      · exact hnew h1
      · omega
    have hnG2 : ∀ b, G b → b ≠ w.heap.size := fun b hb e => by
      subst e
      rcases d2.new _ hb with h1 | h1
      · exact hnG h1
      · omega
    have hk : ∀ k, k ≠ w.heap.size → (W.setCell ⟨w.heap.size, 0, none⟩ x).heap[k]? = W.heap[k]? := fun k hk => Below.heap_setCell _ _ _ _ hk
    have hko : ∀ k ∈ ownList sb gf' outv' fvs', (W.setCell ⟨w.heap.size, 0, none⟩ x).heap[k]? = W.heap[k]? := fun k hm => hk k fun e => hno (by rw [← e]; exact hm)
    have hFk : ∀ b, G b → (W.setCell ⟨w.heap.size, 0, none⟩ x).heap[b]? = W.heap[b]? := fun b hb => hk b (hnG2 b hb)
    refine ⟨⟨d1.os.trans hK0.os, d1.tape.trans hK0.tape, d1.output.trans hK0.output, Nat.le_trans hK0.size (by simpa using d1.size), fun k h1 h2 => ?_⟩, G, gf', cap', tv', outv', fvs', d2.le (Nat.le_of_lt hsz), ⟨by rw [hko sb (by simp [ownList])]; exact d3.blk, ownsRow_keep d3.row fun k e => ?_, d3.frs.keep hFk (fun _ h => h) fun v hv k hkm => hko k ?_, d3.tape.keep hFk (fun _ h => h), ownsRow_keep d3.out fun k e => hko k (by simp [ownList, e]), d3.nodup, fun k hk => by simpa using d3.lt k hk, fun k hk => by simpa using d3.apart k hk⟩, fun k hm => (d4 k hm).imp_right (Nat.le_trans (Nat.le_of_lt hsz))⟩
    · rw [hk k (by omega), d1.block k (by omega) h2, hK0.block k h1 h2]
    · cases e; exact hko gf' (by simp [ownList])
    · have hm : k ∈ ownsAll fvs' := List.mem_flatMap.2 ⟨v, hv, hkm⟩
      simp [ownList, hm]
  refine (goOn_walk w sb time (fun k W => k = r.2 ∧ Done fp F base sb (.int .i64 time) s0 (ownList sb gf outv fvs) w r.1 W) (fun w' => Done fp F base sb (.int .i64 time) (.int .i64 (Hs.fuelStop time r.2)) (ownList sb gf outv fvs) w r.1 w') htm (hS.mono ?_) (fun k W hq => ?_) (fun k W hq hn => ?_) (fun W hq hn => ?_))
  · rintro e w' ⟨k, w1, rfl, ⟨rfl, hd⟩, rfl⟩
    exact ⟨r.2, hr9, rfl, rfl, hD _ _ hd⟩
  · obtain ⟨_, _, G, gf', cap', tv', outv', fvs', _, d3, _⟩ := hq
    exact ⟨⟨_, cell_of_block d3.blk rfl⟩, frozen_of_block d3.blk, lt_of_block d3.blk, cell_of_block d3.blk rfl⟩
  · obtain ⟨rfl, d1, G, gf', cap', tv', outv', fvs', d2, d3, d4⟩ := hq
    obtain ⟨q1, q2⟩ := d3.setStop (.int .i64 r.2)
    have e : Hs.fuelStop time r.2 = r.2 := if_neg hn
    rw [e]
    exact ⟨d1.trans q2 d4, G, gf', cap', tv', outv', fvs', d2, q1, d4⟩
  · obtain ⟨hz, d1, G, gf', cap', tv', outv', fvs', d2, d3, d4⟩ := hq
    obtain ⟨q1, q2⟩ := d3.setStop (.int .i64 0)
    obtain ⟨q3, q4⟩ := q1.setStop (.int .i64 9)
    have e : Hs.fuelStop time r.2 = 9 := if_pos ⟨hz.symm, hn⟩
    rw [e]
    exact ⟨(d1.trans q2 d4).trans q4 d4, G, gf', cap', tv', outv', fvs', d2, q3, d4⟩
end
end Go.Proofs.YtblbkfdhjfppkaaGreatDoor

/- Contracts of the program: a machine is started, whatever its statements are. -/
namespace Go.Proofs.YtblbkfdhjfppkaaGreatDoor
open Go.RowKit
section
variable {fp : Nat → Value} {fb : Nat → Nat} {fs : List Hs.Ast} {cb lo : Nat} {F : Nat → Prop} {seen : List (List UInt8)} {d : Nat}
theorem cstatements_of (v : Value) (l : List Hs.Ast) (code : List (Option Hs.Ins)) (w : World) (h : CP fp fb (fs.map (·.text)) cb F w code seen) (hv : PKid (Btw lo cb) w v l) (ho : Hs.StsOk (Hs.StOk fs d) seen l) (hli : ∀ a ∈ l, LitA a) (hl : l.length ≤ 1000000) (hsn : seen.length ≤ 90001) (hn : code.length + (Hs.stsC (Hs.stC fs d) seen l code.length).length ≤ 1000000) (IH : l ≠ [] → StAt fp fb fs cb lo d) :
    Calls Tryz.prog 237 #[.pointer (some ⟨cb, 0, none⟩), v] w fun e w' => e = .returned (.tuple #[]) ∧ CpG fp fb (fs.map (·.text)) cb F w (code ++ (Hs.stsC (Hs.stC fs d) seen l code.length).map some) (Hs.seenAll seen l) w' := by
  rcases hv.get with ⟨rfl, rfl⟩ | ⟨g, cap, rfl, hg, hgl, hcap, hc⟩
  · refine (statements_nil w cb).mono ?_
    rintro e w' ⟨rfl, rfl⟩
    exact ⟨rfl, F, fun _ h => h, by simpa [Hs.stsC, Hs.seenAll] using h, FB.refl _⟩
  · refine (statements_walk w cb g l.length cap (fun j W => j ≤ l.length ∧ CpG fp fb (fs.map (·.text)) cb F w (code ++ (Hs.stsC (Hs.stC fs d) seen (l.take j) code.length).map some) (Hs.seenAll seen (l.take j)) W) hl ⟨Nat.zero_le _, F, fun _ h => h, by simpa [Hs.stsC, Hs.seenAll] using h, FB.refl _⟩ (fun j W hq hj => ?_)).mono ?_
    · obtain ⟨_, G, hG, hcp, hfb⟩ := hq
      obtain ⟨u, hu, hn'⟩ := hc j hj
      obtain ⟨T, cs, rfl⟩ := hn'.form
      have htk : l.take (j + 1) = l.take j ++ [l[j]] := List.take_succ_eq_append_getElem hj
      have hsplit : Hs.StsOk (Hs.StOk fs d) seen (l.take j ++ (l[j] :: l.drop (j + 1))) := by
        have e : l.take j ++ (l[j] :: l.drop (j + 1)) = l := by
          rw [List.getElem_cons_drop]; exact List.take_append_drop _ _
        rw [e]; exact ho
      obtain ⟨hs1, hs2, _⟩ := StsOk.split hsplit
      have hsp : Hs.stsC (Hs.stC fs d) seen (l.take (j + 1)) code.length = Hs.stsC (Hs.stC fs d) seen (l.take j) code.length ++ (Hs.stC fs d (Hs.seenAll seen (l.take j)) l[j] (code.length + (Hs.stsC (Hs.stC fs d) seen (l.take j) code.length).length)).1 := by rw [htk, stsC_append _ _ hs1, stsC_one]
      have hall : (Hs.stsC (Hs.stC fs d) seen (l.take (j + 1)) code.length).length ≤ (Hs.stsC (Hs.stC fs d) seen l code.length).length := by
        have ho' : Hs.StsOk (Hs.StOk fs d) seen (l.take (j + 1) ++ l.drop (j + 1)) := by rw [List.take_append_drop]; exact ho
        have := stsC_append (l.drop (j + 1)) code.length (StsOk.split ho').1
        rw [List.take_append_drop] at this
        rw [this, List.length_append]; omega
      have hcl : (code ++ (Hs.stsC (Hs.stC fs d) seen (l.take j) code.length).map some).length = code.length + (Hs.stsC (Hs.stC fs d) seen (l.take j) code.length).length := by simp
      have hse : Hs.seenAll seen (l.take (j + 1)) = (Hs.stC fs d (Hs.seenAll seen (l.take j)) l[j] (code.length + (Hs.stsC (Hs.stC fs d) seen (l.take j) code.length).length)).2 := by
        rw [htk, seenAll_append, stC_seen _ hs2]; rfl
      refine ⟨Nat.lt_of_lt_of_le hgl hfb.bel.size, T, .agg cs, by rw [hfb.bel.cell (p := ⟨g, j, none⟩) hg.2]; exact hu, (IH (fun e => by rw [e] at hj; simp at hj) G _ _ l[j] _ W hcp (hn'.below hfb.bel) hs2 (hli _ (List.getElem_mem hj)) (seenAll_len hs1 hsn) ?_).mono ?_⟩
      · rw [hcl]
        rw [hsp, List.length_append] at hall
        omega
      · rintro e w' ⟨he, hto⟩
        refine ⟨he, hj, ?_⟩
        rw [hcl] at hto
        rw [hsp, hse, List.map_append, ← List.append_assoc]
        exact (hto.then hfb).more hG
    · rintro e w' ⟨he, _, hto⟩
      rw [List.take_of_length_le (Nat.le_refl _)] at hto
      exact ⟨he, hto⟩
end
section
variable {fp : Nat → Value} {fb : Nat → Nat} {fs : List Hs.Ast} {cb lo d : Nat} {F : Nat → Prop}
theorem body_of {w : World} (h : CQ fp fb (fs.map (·.text)) cb F w) (f : Hs.Ast) (v : Value) (hv : FunR (Btw lo cb) w v f) (hok : Hs.FunOk fs d f) (hli : ∀ k ∈ f.kids, LitA k) (hkl : f.kids.length ≤ 90000) (hS : (∃ b ∈ f.kids, b.kids ≠ []) → StAt fp fb fs cb lo d) :
    Calls Tryz.prog 173 #[.pointer (some ⟨cb, 0, none⟩), v] w fun e w' => ∃ cv, e = .returned cv ∧ ∃ G sn, (∀ k, F k → G k) ∧ CP fp fb (fs.map (·.text)) cb G w' ((Hs.fnC fs d f).code.map some) sn ∧ w'.cell? ⟨cb, 1, none⟩ = some cv ∧ Below cb w w' ∧ ∀ k, F k → w'.heap[k]? = w.heap[k]? := by
  obtain ⟨⟨fv, cv0, sp0, hblk, hfun⟩, hfix⟩ := h
  obtain ⟨pv, bv, ps, b, rfl, hk, hps, hbo, hbk⟩ := hv
  obtain ⟨px, pc, rfl⟩ := hps.slice
  obtain ⟨bx, bc, rfl⟩ := hbk.sliceC
  obtain ⟨⟨ps', b', hk', hst, _⟩, hlen⟩ := hok
  obtain ⟨rfl, hbb⟩ : ps' = ps ∧ b' = b := by
    rw [hk] at hk'
    have := List.append_inj' hk' rfl
    simp at this
    exact ⟨this.1.symm, this.2.symm⟩
  subst hbb
  rw [fnC_parts fs d hk] at hlen ⊢
  simp only [List.length_append, List.length_cons, List.length_nil] at hlen
  rw [hk] at hkl
  simp only [List.length_append, List.length_cons, List.length_nil] at hkl
  have hcb := lt_of_block hblk
  obtain ⟨W0, hW0⟩ : ∃ W0, W0 = (w.setCell ⟨cb, 1, none⟩ (.slice none 0 0)).setCell ⟨cb, 2, none⟩ (.pointer none) := ⟨_, rfl⟩
  have hb0 : Below cb w W0 := by rw [hW0]; exact ((Below.refl cb w).setCell (Nat.le_refl _) _).setCell (Nat.le_refl _) _
  have hsz : W0.heap.size = w.heap.size := by rw [hW0]; simp
  have hne0 : ∀ k, k ≠ cb → W0.heap[k]? = w.heap[k]? := fun k hk => by rw [hW0, Below.heap_setCell _ _ _ _ hk, Below.heap_setCell _ _ _ _ hk]
  have hF0 : ∀ k, F k → W0.heap[k]? = w.heap[k]? := fun k hk => hne0 k (hfix k hk).2
  have hblk0 : W0.heap[cb]? = some (.cells #[fv, .slice none 0 0, .pointer none] 276 (0, 0)) := by
    rw [hW0, heap_setCell_at (heap_setCell_at hblk)]; rfl
  have hcp0 : CP fp fb (fs.map (·.text)) cb F W0 [] [] := by
    refine ⟨⟨fv, _, _, hblk0, ⟨[], World.ownsRow_nil _ _ _ _, rfl, fun i o ho => by simp at ho⟩, rfl, hfun.keep hF0 (fun _ h => h) (by omega)⟩, fun k hk => ⟨by rw [hsz]; exact (hfix k hk).1, (hfix k hk).2, ?_⟩⟩
    rw [rowOf_cp hblk0]; simp [Value.ownBlock]
  obtain ⟨hL1, hcp1⟩ := hcp0.new (.cells #[.int .i64 f.line, .string (bs f.text), .slice px ps'.length pc, .slice bx b'.kids.length bc] 215)
  rw [hsz] at hL1
  refine (body_walk w cb f.line (bs f.text) px bx ps'.length pc b'.kids.length bc (fun cv w' => ∃ G sn, (∀ k, F k → G k) ∧ CP fp fb (fs.map (·.text)) cb G w' ((Hs.stsC (Hs.stC fs d) (ps'.map fun a => a.text).reverse b'.kids 0 ++ [Hs.Ins.push (Hs.vnum 0), Hs.Ins.give]).map some) sn ∧ w'.cell? ⟨cb, 1, none⟩ = some cv ∧ Below cb w w' ∧ ∀ k, F k → w'.heap[k]? = w.heap[k]?)
    (fun j W => ∃ G, (∀ k, F k → G k) ∧ CP fp fb (fs.map (·.text)) cb G W [] ((ps'.take j).map fun a => a.text).reverse ∧ Loc cb W0 w.heap.size (.cells #[.int .i64 f.line, .string (bs f.text), .slice px ps'.length pc, .slice bx b'.kids.length bc] 215) W)
    (fun W => ∃ G sn, (∀ k, F k → G k) ∧ CpTo fp fb (fs.map (·.text)) cb G W0 ((Hs.stsC (Hs.stC fs d) (ps'.map fun a => a.text).reverse b'.kids 0).map some) sn W)
    (fun W => ∃ G sn, (∀ k, F k → G k) ∧ CpTo fp fb (fs.map (·.text)) cb G W0 ((Hs.stsC (Hs.stC fs d) (ps'.map fun a => a.text).reverse b'.kids 0).map some ++ [some (Hs.Ins.push (Hs.vnum 0))]) sn W)
    (fun W => ∃ G sn, (∀ k, F k → G k) ∧ CpTo fp fb (fs.map (·.text)) cb G W0 ((Hs.stsC (Hs.stC fs d) (ps'.map fun a => a.text).reverse b'.kids 0).map some ++ [some (Hs.Ins.push (Hs.vnum 0))] ++ [some Hs.Ins.give]) sn W)
    hcb (by omega) ⟨_, cell_of_block hblk rfl⟩ ⟨_, cell_of_block hblk rfl⟩ (frozen_of_block hblk) (frozen_of_block hblk) ?_ (fun j W hq hj => ?_) (fun W hq => ?_) (fun W hq => ?_) (fun W hq => ?_) (fun W hq => ?_))
  · show ∃ G, _
    rw [← hW0]
    exact ⟨F, fun _ h => h, hcp1, hL1⟩
  · obtain ⟨G, hG, hcp, hL⟩ := hq
    rcases hps.get with ⟨_, hnil⟩ | ⟨pg, pcap, hpe, hpF, hpl, hpc, hcell⟩
    · rw [hnil] at hj; simp at hj
    cases hpe
    obtain ⟨hp1, hp2⟩ := hcell j hj
    have hbW : Below cb w W := hb0.trans hL.fb.bel
    refine ⟨pg, _, _, rfl, Nat.lt_of_lt_of_le (Nat.lt_trans hpF.2 hcb) hbW.size, (hbW.cell (p := ⟨pg, j * 2, none⟩) hpF.2).trans hp1, (hbW.cell (p := ⟨pg, j * 2 + 1, none⟩) hpF.2).trans hp2, ?_⟩
    obtain ⟨hL2, hcp2⟩ := hcp.new (.cells #[.int .i64 ps'[j].line, .string (bs ps'[j].text)] 211)
    refine (see_any ps'[j].text hcp2 (by simp; omega)).mono ?_
    rintro e w' ⟨he, q1, q2⟩
    refine ⟨he, fun k => G k ∨ k = (W.alloc (.cells #[.int .i64 ps'[j].line, .string (bs ps'[j].text)] 211)).heap.size, fun k hk => Or.inl (hG k hk), ?_, hL.step (hL2.fb.trans q2)⟩
    have e9 : ((ps'.take (j + 1)).map (·.text)).reverse = ps'[j].text :: ((ps'.take j).map (·.text)).reverse := by
      rw [List.take_succ_eq_append_getElem hj, List.map_append, List.reverse_append]; rfl
    rw [e9]; exact q1
  · obtain ⟨G, hG, hcp, hL⟩ := hq
    rw [List.take_of_length_le (Nat.le_refl _)] at hcp
    have hbW : Below cb w W := hb0.trans hL.fb.bel
    refine ⟨cell_of_block hL.blk rfl, lt_of_block hL.blk, ?_⟩
    refine (cstatements_of (IH := fun hne => hS ⟨b', by rw [hk]; simp, hne⟩) _ b'.kids [] W hcp (hbk.below hbW) hst (fun a ha => (hli b' (by rw [hk]; simp)).kid ha) (hli b' (by rw [hk]; simp)).len (by simp; omega) (by simp; omega)).mono ?_
    rintro e w' ⟨he, G2, hG2, hto⟩
    exact ⟨he, G2, _, fun k hk => hG2 k (hG k hk), by simpa using hto.then hL.fb⟩
  · obtain ⟨G, sn, hG, hto⟩ := hq
    refine (emits (i := .push (Hs.vnum 0)) hto ⟨_, rfl, PV.num _ _ _ (by omega) (by omega), by rw [cells_vnum]; omega⟩ (by simp; omega)).mono ?_
    rintro e w' ⟨he, h2⟩
    exact ⟨he, G, sn, hG, h2⟩
  · obtain ⟨G, sn, hG, hto⟩ := hq
    refine (emits (i := .give) hto rfl (by simp; omega)).mono ?_
    rintro e w' ⟨he, h2⟩
    exact ⟨he, G, sn, hG, h2⟩
  · obtain ⟨G, sn, hG, hto⟩ := hq
    obtain ⟨fv', cv', sp', g1, ⟨xs, g2, g3⟩, g4, g5⟩ := hto.1.blk
    obtain ⟨x, c, rfl⟩ := own_slice g2
    refine ⟨hto.1.lt, x, _, c, cell_of_block g1 rfl, G, sn, hG, ?_, cell_of_block g1 rfl, hb0.trans hto.2.bel, fun k hk => ?_⟩
    · have := hto.1
      simpa using this
    · rw [hcp0.fixed hto.2 k hk, hF0 k hk]
end
theorem compile_of {lo d : Nat} {fs : List Hs.Ast} (v : Value) (w : World) (h : FSl (Btw lo w.heap.size) w v fs) (hfl : fs.length ≤ 90000) (hok : ∀ f ∈ fs, Hs.FunOk fs d f) (hli : ∀ f ∈ fs, ∀ k ∈ f.kids, LitA k) (hkl : ∀ f ∈ fs, f.kids.length ≤ 90000) (hm : [109, 97, 105, 110] ∈ fs.map (·.text)) (hStm : ∀ fp fb cb, (∀ k, k < fs.length → fp k = .pointer (some ⟨fb k, 0, none⟩)) → (∃ f ∈ fs, ∃ b ∈ f.kids, b.kids ≠ []) → StAt fp fb fs cb lo d) :
    Calls Tryz.prog 123 #[v] w fun e w' => ∃ fp F, e = .returned (fp (Hs.fnIx fs [109, 97, 105, 110])) ∧ TabR fp F w' (Hs.tabC fs d) ∧ Below w.heap.size w w' ∧ ∀ k, F k → k < w'.heap.size := by
  have hne : fs ≠ [] := fun e => by rw [e] at hm; simp at hm
  rcases h.cells with ⟨_, e⟩ | ⟨g0, cap, rfl, hg0, hgl, hcap, hc⟩
  · exact absurd e hne
  refine (compile_walk w g0 fs.length cap (fun v w' => ∃ fp F, v = fp (Hs.fnIx fs [109, 97, 105, 110]) ∧ TabR fp F w' (Hs.tabC fs d) ∧ Below w.heap.size w w' ∧ ∀ k, F k → k < w'.heap.size) (CI1 w fs) (CI2 w fs d) (by omega) (CI1.zero w fs) (fun j W hq hj => ?_) (fun W hq => CI2.zero hne hq) (fun j W hq hj => ?_) (fun W hq => ?_)).mono ?_
  · obtain ⟨x, c, bl, h0, h1, h2, h3, h4, h5, h6⟩ := hq
    obtain ⟨pv, bv, ps, b, e0, e1, e2, e3, hkids, hps, hbo, hbk⟩ := hc j hj
    obtain ⟨px, pc, rfl⟩ := hps.slice
    obtain ⟨bx, bc, rfl⟩ := hbk.sliceC
    have cel : ∀ o u, w.cell? ⟨g0, o, none⟩ = some u → W.cell? ⟨g0, o, none⟩ = some u := fun o u hu => by rw [h6.cell (p := ⟨g0, o, none⟩) hgl]; exact hu
    exact ⟨lt_of_block h1, Nat.lt_of_lt_of_le hgl h6.size, _, _, _, _, _, _, _, _, _, _, _, _, _, cel _ _ e0, cel _ _ e1, cel _ _ e2, cel _ _ e3, h1, h3, fun W3 g4 cap4 w4 a1 a2 a3 a4 a5 => CI1.next hj h2 h4 h5 h6 (lt_of_block h1) h3 a1 a2 a3 a4 a5⟩
  · obtain ⟨bl, F, h1, h2, h3, h4, h5, h6⟩ := hq
    obtain ⟨pv, bv, ps, b, e0, e1, e2, e3, hkids, hps, hbo, hbk⟩ := hc j hj
    have hFR : FunR (Btw lo w.heap.size) w (.agg #[.int .i64 fs[j].line, .string (bs fs[j].text), pv, bv]) fs[j] := ⟨pv, bv, ps, b, rfl, hkids, hps, hbo, hbk⟩
    obtain ⟨px, pc, rfl⟩ := hps.slice
    obtain ⟨bx, bc, rfl⟩ := hbk.sliceC
    have cel : ∀ o u, w.cell? ⟨g0, o, none⟩ = some u → W.cell? ⟨g0, o, none⟩ = some u := fun o u hu => by rw [h5.cell (p := ⟨g0, o, none⟩) hgl]; exact hu
    have hcq := h4
    obtain ⟨⟨fv, cv, sp, q1, q2⟩, q3⟩ := h4
    have hjn : j < (fs.map (·.text)).length := by simpa using hj
    rcases q2 with ⟨e, _⟩ | ⟨g, c, rfl, k1, k2, k3, k4⟩
    · rw [e] at hjn; simp at hjn
    obtain ⟨m1, m2, m3, x, m4⟩ := k4 j hjn
    rw [m2] at m1
    have hnl : (fs.map (·.text)).length = fs.length := by simp
    refine ⟨lt_of_block q1, Nat.lt_of_lt_of_le hgl h5.size, _, _, _, _, _, _, _, _, g, c, fbOf bl j, cel _ _ e0, cel _ _ e1, cel _ _ e2, cel _ _ e3, by rw [← hnl]; exact cell_of_block q1 rfl, k3, m1, fun W' hS => ?_⟩
    have hbW : Below W.heap.size W W' := ((Below.refl _ _).alloc (Nat.le_refl _) _).trans (hS.below.mono (by simp))
    have hcq' : CQ (fpOf bl) (fbOf bl) (fs.map (·.text)) w.heap.size F W' := by
      obtain ⟨⟨fv, cv, sp, z1, z2⟩, z3⟩ := hcq
      exact ⟨⟨fv, cv, sp, by rw [hbW.block _ (lt_of_block z1)]; exact z1, z2.keep (fun k hk => hbW.block k (z3 k hk).1) (fun _ h => h) hbW.size⟩, fun k hk => ⟨Nat.lt_of_lt_of_le (z3 k hk).1 hbW.size, (z3 k hk).2⟩⟩
    have hcbW := lt_of_block q1
    refine (body_of (lo := lo) (d := d) (hS := fun ⟨b, hb, hne⟩ => hStm _ _ _ (fun k _ => rfl) ⟨fs[j], List.getElem_mem hj, b, hb, hne⟩) hcq' fs[j] _ (hFR.keep (fun k hk => (h5.trans (hbW.mono (by omega))).block k hk.2) fun _ h => h) (hok _ (List.getElem_mem hj)) (hli _ (List.getElem_mem hj)) (hkl _ (List.getElem_mem hj))).mono ?_
    rintro e w' ⟨cv', he, G, sn, hFG, hcp, hcv, hb1, hF⟩
    have hpos : 0 < (Hs.fnC fs d fs[j]).code.length := by rw [fnC_parts fs d hkids]; simp
    have hcp0 := hcp
    obtain ⟨fv', cv2, sp', y1, ⟨xs, y2, y3⟩, y4, y5⟩ := hcp.blk
    obtain rfl : cv2 = cv' := by
      have := cell_of_block y1 (i := 1) rfl
      rw [hcv] at this; exact (Option.some.inj this).symm
    obtain ⟨x', c', rfl⟩ := own_slice y2
    have hFW : ∀ k, F k → w'.heap[k]? = W.heap[k]? := fun k hk => by rw [hF k hk, hbW.block k (q3 k hk).1]
    rcases y5 with ⟨e, _⟩ | ⟨g2, c2, rfl, l1, l2, l3, l4⟩
    · rw [e] at hjn; simp at hjn
    obtain ⟨n1, n2, n3, x2, n4⟩ := l4 j hjn
    rw [n2] at n1
    refine ⟨x', _, c', he, hcp.lt, ⟨g2, c2, by rw [← hnl]; exact cell_of_block y1 rfl, l3, n1⟩, Nat.lt_of_lt_of_le k3 (Nat.le_trans hbW.size hb1.size), ?_, lt_of_block n4, ⟨_, cell_of_block n4 rfl⟩, frozen_of_block n4, ?_⟩
    · rw [World.cell?_of_block (hFW g k1)]; exact m1
    · exact CI2.next hj h1 h2 h5 h6 hFG hcp hcv ((hbW.mono (by omega)).trans hb1) hFW hpos
  · obtain ⟨bl, F, h1, h2, h3, h4, h5, h6⟩ := hq
    refine (cfunction_cq [109, 97, 105, 110] h4 hm (by simpa using (by omega : fs.length ≤ 1000000))).mono ?_
    rintro e w' ⟨he, rfl⟩
    rw [fnIx_nms] at he
    refine ⟨_, he, fpOf bl, F, rfl, fun k f hf => ?_, h5, fun k hk => (h4.2 k hk).1⟩
    have hkl : k < fs.length := by
      rcases Nat.lt_or_ge k fs.length with h | h
      · exact h
      · rw [List.getElem?_eq_none (by simpa [Hs.tabC] using h)] at hf; cases hf
    have : f = Hs.fnC fs d fs[k] := by simpa [Hs.tabC, hkl] using hf.symm
    rw [this]
    exact h6 k hkl hkl
  · rintro e w' ⟨v, rfl, fp, F, rfl, h⟩
    exact ⟨fp, F, rfl, h⟩
theorem mstart_of {lo d : Nat} {fs : List Hs.Ast} {tape : List Int} {r : Hs.Mst × Nat} (v tv : Value) (w : World) (h : FSl (Btw lo w.heap.size) w v fs) (hfl : fs.length ≤ 90000) (hok : ∀ f ∈ fs, Hs.FunOk fs d f) (hli : ∀ f ∈ fs, ∀ k ∈ f.kids, LitA k) (hkl : ∀ f ∈ fs, f.kids.length ≤ 90000) (hm : Hs.arL fs (Hs.fnIx fs [109, 97, 105, 110]) = some 0)
    (ht : TapeI w tv tape) (htl : tape.length ≤ 1000000) (hr : r.2 ≤ 1000) (hStm : ∀ fp fb cb, (∀ k, k < fs.length → fp k = .pointer (some ⟨fb k, 0, none⟩)) → (∃ f ∈ fs, ∃ b ∈ f.kids, b.kids ≠ []) → StAt fp fb fs cb lo d)
    (hX : ∀ (fp : Nat → Value) (F : Nat → Prop) (base sb gf cap : Nat) (tv outv s0 : Value) (fvs : List FVal) (W : World), RunR fp F base W sb gf cap (.int .i64 ((0 : Nat) : Int)) tv outv s0 fvs (Hs.mst0 fs d tape) → TabR fp F W (Hs.tabC fs d) → base ≤ W.heap.size → Calls Tryz.prog 175 #[.pointer (some ⟨sb, 0, none⟩)] W (DoM fp F base sb (.int .i64 ((0 : Nat) : Int)) s0 (ownList sb gf outv fvs) W r)) :
    Calls Tryz.prog 70 #[v, tv] w fun e w' => ∃ v', e = .returned v' ∧ Below w.heap.size w w' ∧ ∃ fp G, (∀ b, G b → b < w'.heap.size) ∧ TabR fp G w' (Hs.tabC fs d) ∧ StR fp G w' v' ⟨0, r.1, Hs.fuelStop 0 r.2⟩ := by
  have hix : Hs.fnIx fs [109, 97, 105, 110] < fs.length := by
    unfold Hs.arL at hm
    rcases Nat.lt_or_ge (Hs.fnIx fs [109, 97, 105, 110]) fs.length with h | h
    · exact h
    · rw [List.getElem?_eq_none h] at hm; cases hm
  have hmem : [109, 97, 105, 110] ∈ fs.map (·.text) := by
    have := List.findIdx_getElem (p := fun f : Hs.Ast => f.text == [109, 97, 105, 110]) (xs := fs) (w := hix)
    exact List.mem_map.2 ⟨_, List.getElem_mem hix, eq_of_beq this⟩
  obtain ⟨x0, c0, rfl⟩ : ∃ x c, v = .slice x fs.length c := by
    rcases h with ⟨rfl, rfl⟩ | ⟨g, cap, cur, us, rfl, _⟩
    · exact ⟨none, 0, rfl⟩
    · exact ⟨_, _, rfl⟩
  obtain ⟨x1, n1, c1, rfl⟩ : ∃ x n c, tv = .slice x n c := by
    rcases ht with ⟨_, rfl⟩ | ⟨g, o, c, rfl, _⟩
    · exact ⟨_, _, _, rfl⟩
    · exact ⟨_, _, _, rfl⟩
  generalize hf0 : (Hs.tabC fs d)[Hs.fnIx fs [109, 97, 105, 110]]?.getD ⟨[], []⟩ = f0
  have hf0' : (Hs.tabC fs d)[Hs.fnIx fs [109, 97, 105, 110]]? = some f0 := by
    rw [List.getElem?_eq_getElem (by simpa [Hs.tabC] using hix)] at hf0 ⊢
    simpa using hf0
  have hms : Hs.mst0 fs d tape = ⟨[⟨f0, 0, 0, [], [], []⟩], tape, []⟩ := by rw [← hf0]; rfl
  obtain ⟨w1, hw1⟩ : ∃ w1, w1 = w.alloc (.cells #[.int .i64 0, .slice none 0 0, .slice none 0 0, .slice none 0 0, .int .i64 0] 108) := ⟨_, rfl⟩
  have hb1 : Below w.heap.size w w1 := by rw [hw1]; exact (Below.refl _ _).alloc (Nat.le_refl _) _
  have hs1 : w1.heap.size = w.heap.size + 1 := by rw [hw1]; simp
  have hB1 : w1.heap[w.heap.size]? = some (.cells #[.int .i64 0, .slice none 0 0, .slice none 0 0, .slice none 0 0, .int .i64 0] 108 (0, 0)) := by rw [hw1]; exact heap_first _ _ rfl _
  have hFS : FSl (Btw lo w1.heap.size) w1 (.slice x0 fs.length c0) fs := h.grow (fun b hb => hb1.block b hb.2) fun b hb => ⟨hb.1, by have := hb.2; omega⟩
  refine (start_walk w x0 fs.length c0 x1 n1 c1 (fun v' w' => Below w.heap.size w w' ∧ ∃ fp G, (∀ b, G b → b < w'.heap.size) ∧ TabR fp G w' (Hs.tabC fs d) ∧ StR fp G w' v' ⟨0, r.1, Hs.fuelStop 0 r.2⟩)
    (fun p W => ∃ fp F, p = fp (Hs.fnIx fs [109, 97, 105, 110]) ∧ TabR fp F W (Hs.tabC fs d) ∧ Below w1.heap.size w1 W ∧ ∀ k, F k → k < W.heap.size)
    (fun p gf tv' W => ∃ fp F, p = fp (Hs.fnIx fs [109, 97, 105, 110]) ∧ TabR fp F W (Hs.tabC fs d) ∧ Below w1.heap.size w1 W ∧ (∀ k, F k → k < W.heap.size ∧ k ≠ gf) ∧ w1.heap.size ≤ gf ∧ gf < W.heap.size ∧ W.heap[gf]? = some (.cells #[p, .int .i64 0, .int .i64 0, .pointer none, .slice none 0 0, .slice none 0 0] 195 (0, 0)) ∧ TapeR F W tv' tape ∧ ∀ k, F k → k ≠ w.heap.size)
    (fun b W => ∃ fp F gf cap tv' outv fvs, Below w1.heap.size w1 W ∧ w1.heap.size ≤ b ∧ RunR fp F w1.heap.size W b gf cap (.int .i64 ((0 : Nat) : Int)) tv' outv (.int .i64 (Hs.fuelStop 0 r.2)) fvs r.1 ∧ TabR fp F W (Hs.tabC fs d) ∧ (∀ k ∈ ownList b gf outv fvs, w1.heap.size ≤ k) ∧ ∀ k, F k → k ≠ w.heap.size)
    ?_ (fun p W hq => ?_) (fun p gf x n c W hq => ?_) (fun b W hq => ?_))
  · show Calls _ _ _ _ _
    rw [← hw1]
    refine (compile_of (lo := lo) (d := d) _ w1 hFS hfl hok hli hkl hmem hStm).mono ?_
    rintro e w' ⟨fp, F, he, hT, hb, hF⟩
    obtain ⟨p, hpp⟩ := (hT _ _ hf0').ptr
    exact ⟨p, by rw [he, hpp], fp, F, hpp.symm, hT, hb, hF⟩
  · obtain ⟨fp, F, hpe, hT, hb, hF⟩ := hq
    have hzW : W.heap[w.heap.size]? = some (.cells #[.int .i64 0, .slice none 0 0, .slice none 0 0, .slice none 0 0, .int .i64 0] 108 (0, 0)) := by rw [hb.block _ (by omega)]; exact hB1
    have hT' := hT.off hzW
    generalize hW' : W.alloc (.cells #[.pointer p, .int .i64 0, .int .i64 0, .pointer none, .slice none 0 0, .slice none 0 0] 195) = W'
    have hbW : Below W.heap.size W W' := by rw [← hW']; exact (Below.refl _ _).alloc (Nat.le_refl _) _
    have hsW : W'.heap.size = W.heap.size + 1 := by rw [← hW']; simp
    have hgW : W'.heap[W.heap.size]? = some (.cells #[.pointer p, .int .i64 0, .int .i64 0, .pointer none, .slice none 0 0, .slice none 0 0] 195 (0, 0)) := by rw [← hW']; exact heap_first _ _ rfl _
    have hwW : Below w.heap.size w W' := hb1.trans ((hb.mono (by omega)).trans (hbW.mono (by have := hb.size; omega)))
    have htW : TapeI W' (.slice x1 n1 c1) tape := by
      rcases ht with ht | ⟨g, o, c, e, hg, hc⟩
      · exact Or.inl ht
      · exact Or.inr ⟨g, o, c, e, Nat.lt_of_lt_of_le hg hwW.size, fun i hi => ⟨(hwW.cell (p := ⟨g, o + i, none⟩) hg).trans (hc i hi).1, (hc i hi).2⟩⟩
    obtain ⟨x, n, c, e, hcl⟩ := tapeClone_any W' _ tape htW htl
    rw [e]
    refine hcl.mono ?_
    rintro e w' ⟨x', n', c', he, hb', htr⟩
    have hbw : Below W.heap.size W w' := hbW.trans (hb'.mono (by omega))
    refine ⟨x', n', c', he, fp, fun k => (F k ∧ k ≠ w.heap.size) ∨ (W'.heap.size ≤ k ∧ k < w'.heap.size), hpe, hT'.keep (fun k hk => hbw.block k (hF k hk.1)) fun _ h => Or.inl h, hb.trans (hbw.mono hb.size), fun k hk => ?_, hb.size, by have := hb'.size; omega, by rw [hb'.block _ (by omega)]; exact hgW, htr.keep (fun _ _ => rfl) fun _ h => Or.inr h, fun k hk => by
      rcases hk with h1 | h1
      · exact h1.2
      · have := hb.size; omega⟩
    have := hb'.size
    rcases hk with h1 | h1
    · have := hF k h1.1
      omega
    · omega
  · obtain ⟨fp, F, hpe, hT, hb, hF, hg1, hg2, hg3, htr, hFz⟩ := hq
    generalize hW' : W.alloc (.cells #[.int .i64 0, .slice (some ⟨gf, 0, none⟩) 1 1, .slice x n c, .slice none 0 0, .int .i64 0] 108) = W'
    have hbW : Below W.heap.size W W' := by rw [← hW']; exact (Below.refl _ _).alloc (Nat.le_refl _) _
    have hsW : W'.heap.size = W.heap.size + 1 := by rw [← hW']; simp
    have hgW : W'.heap[W.heap.size]? = some (.cells #[.int .i64 0, .slice (some ⟨gf, 0, none⟩) 1 1, .slice x n c, .slice none 0 0, .int .i64 0] 108 (0, 0)) := by rw [← hW']; exact heap_first _ _ rfl _
    have hTW : TabR fp F W' (Hs.tabC fs d) := hT.keep (fun k hk => hbW.block k (hF k hk).1) fun _ h => h
    have hown : ownList W.heap.size gf (.slice none 0 0) [⟨.pointer p, .int .i64 0, .int .i64 0, .pointer none, .slice none 0 0, .slice none 0 0⟩] = [W.heap.size, gf] := rfl
    have hnil : ValRow F w1.heap.size W' (.slice none 0 0) [] := ⟨⟨[], World.ownsRow_nil _ _ _ _, RowP.nil _ _⟩, fun a ha => by simp at ha⟩
    have hrun : RunR fp F w1.heap.size W' W.heap.size gf 1 (.int .i64 ((0 : Nat) : Int)) (.slice x n c) (.slice none 0 0) (.int .i64 0) [⟨.pointer p, .int .i64 0, .int .i64 0, .pointer none, .slice none 0 0, .slice none 0 0⟩] ⟨[⟨f0, 0, 0, [], [], []⟩], tape, []⟩ := by
      refine ⟨hgW, ⟨rfl, Or.inr ⟨gf, 1, _, rfl, hg1, by rw [hbW.block _ hg2]; exact hg3, Nat.le_refl _, by unfold maxLen; omega, rfl, rfl⟩⟩, ⟨⟨?_, rfl, rfl, rfl, hnil, hnil⟩, trivial⟩, htr.keep (fun k hk => hbW.block k (hF k hk).1) fun _ h => h, World.ownsRow_nil _ _ _ _, ?_, ?_, fun k hk => ?_⟩
      · show FnR fp F W' (.pointer p) f0
        rw [hpe]; exact hTW _ _ hf0'
      · rw [hown]; simp; omega
      · rw [hown]; simp; omega
      · rw [hown]; have := hF k hk; simp; omega
    have hb0 : Below w1.heap.size w1 W' := hb.trans (hbW.mono hb.size)
    have hal : Below W'.heap.size W' (W'.alloc (.cells #[.int .i64 0] 61)) := (Below.refl _ _).alloc (Nat.le_refl _) _
    refine (goOn_of hrun (hX fp F _ _ _ _ _ _ _ _ _ (by rw [hms]; exact hrun.grow hal (fun _ h => h) (fun _ h => Or.inl h)) (hTW.keep (fun k hk => hal.block k (hrun.apart k hk).1) fun _ h => h) (Nat.le_trans hb0.size hal.size)) (by omega) hr).mono ?_
    rintro e w' ⟨he, hd1, G, gf', cap', tv'', outv', fvs', d1, d2, d3⟩
    rw [hown] at d3 hd1
    have hsub : ∀ x ∈ ownList W.heap.size gf' outv' fvs', w1.heap.size ≤ x := fun x hx => by
      have := hb.size
      rcases d3 x hx with h1 | h1
      · simp at h1; omega
      · omega
    have hlt : ∀ k ∈ [W.heap.size, gf], w1.heap.size ≤ k := fun k hk => by have := hb.size; simp at hk; omega
    refine ⟨he, fp, G, gf', cap', tv'', outv', fvs', hb0.trans (hd1.below hb0.size hlt), hb.size, d2, ?_, hsub, fun k hk => ?_⟩
    · refine hTW.keep (fun k hk => hd1.block k (Nat.lt_of_lt_of_le (hF k hk).1 hbW.size) fun hm => ?_) d1.sub
      have := hF k hk
      simp at hm; omega
    · rcases d1.new k hk with h1 | h1
      · exact hFz k h1
      · have := hb0.size; omega
  · obtain ⟨fp, F, gf, cap, tv', outv, fvs, g1, g2, g5, gT, g6, g7⟩ := hq
    have hblk := g5.blk
    refine ⟨_, _, _, _, _, hblk, ⟨_, _, _, rfl⟩, ?_, own_slice' g5.out, by rw [g1.block _ (by omega)]; exact hB1, by omega, fun W' hkp hsz => ?_⟩
    · rcases g5.tape with ⟨_, x, c, e⟩ | ⟨g, o, c, e, _⟩ <;> exact ⟨_, _, _, e⟩
    · have hb0 : Below w.heap.size w W := hb1.trans (g1.mono (by omega))
      have hS := g5.kept (G := fun k => F k ∨ (k ∈ ownList b gf outv fvs ∧ k ≠ b)) (fun _ h => Or.inl h) (fun k hk' hn => Or.inr ⟨hk', hn⟩)
      have hne1 : ∀ k, (F k ∨ (k ∈ ownList b gf outv fvs ∧ k ≠ b)) → k ≠ w.heap.size ∧ k < W.heap.size := fun k hk' => by
        rcases hk' with h1 | ⟨h1, _⟩
        · exact ⟨g7 k h1, (g5.apart k h1).1⟩
        · have := g6 k h1
          exact ⟨by omega, g5.lt k h1⟩
      have hkk : ∀ k, (F k ∨ (k ∈ ownList b gf outv fvs ∧ k ≠ b)) → W'.heap[k]? = W.heap[k]? := fun k hk' => hkp.block k (hne1 k hk').2 (by simpa using (hne1 k hk').1)
      refine ⟨⟨hkp.os.trans hb0.os, hkp.tape.trans hb0.tape, hkp.output.trans hb0.output, by rw [hsz]; exact hb0.size, fun k hk' => ?_⟩, fp, fun k => F k ∨ (k ∈ ownList b gf outv fvs ∧ k ≠ b), fun k hk' => by rw [hsz]; exact (hne1 k hk').2, gT.keep (fun k hk' => hkk k (Or.inl hk')) fun _ h => Or.inl h, hS.keep hkk fun _ h => h⟩
      rw [hkp.block k (Nat.lt_of_lt_of_le hk' hb0.size) (by simp; omega), hb0.block k hk']
end Go.Proofs.YtblbkfdhjfppkaaGreatDoor

/- The machine does what the document's run does: plain facts: blocks, the whole run. -/
namespace Go.Proofs.YtblbkfdhjfppkaaGreatDoor.Hs
theorem stC_seen {fs : List Ast} {d : Nat} {seen : List (List UInt8)} {a : Ast} {p : Nat} (h : StOk fs d seen a) : (stC fs d seen a p).2 = seenC seen a :=
  (stC_seg fs d seen a (fun _ _ => False) p h ⟨fun _ _ _ h => h.elim, fun _ _ h => h.elim⟩).2.1
end Go.Proofs.YtblbkfdhjfppkaaGreatDoor.Hs

/- The machine's states, moment by moment, and the document's moments: plain facts. -/
namespace Go.Proofs.YtblbkfdhjfppkaaGreatDoor.Hs
theorem big_ex : ∃ k : Nat, 16 * 320000 + 2 ≤ k := ⟨_, Nat.le_refl _⟩
noncomputable def big : Nat := Classical.choose big_ex
theorem big_le : 16 * 320000 + 2 ≤ big := Classical.choose_spec big_ex
noncomputable def stAt (tab : List Fn) (m0 : Mst) : Nat → Option Sta
  | 0 => (toS tab big m0).map fun r => ⟨0, r.1, fuelStop 0 r.2⟩
  | t + 1 =>
    match stAt tab m0 t with
    | none => none
    | some s => if s.stop = 0 then (toS tab big s.m).map fun r => ⟨t + 1, r.1, fuelStop (t + 1) r.2⟩ else none
end Go.Proofs.YtblbkfdhjfppkaaGreatDoor.Hs

/- Contracts of the program: a session keeps a state: the walk. -/
namespace Go.Proofs.YtblbkfdhjfppkaaGreatDoor
open Go.RowKit
set_option maxRecDepth 100000 in
set_option maxHeartbeats 2000000 in
theorem skeep_walk (w : World) (sb : Nat) (a : Nat) (e : Int) (x1 x2 x3 : Option Addr) (n1 n2 n3 c1 c2 c3 : Nat) (P : World → Prop) (hm : a % 20 = 0) (ha : a ≤ 1000000)
    (HK : Hid (∀ W', Below w.heap.size w W' → Calls Tryz.prog 126 #[.pointer (some ⟨sb, 5, none⟩), .int .i64 a, .agg #[.int .i64 a, .slice x1 n1 c1, .slice x2 n2 c2, .slice x3 n3 c3, .int .i64 e]] W' fun en w' => en = .returned (.tuple #[]) ∧ P w')) :
    Calls Tryz.prog 71 #[.pointer (some ⟨sb, 0, none⟩), .agg #[.int .i64 a, .slice x1 n1 c1, .slice x2 n2 c2, .slice x3 n3 c3, .int .i64 e]] w fun en w' => en = .returned (.tuple #[]) ∧ P w' := by
  have em : (a : Int) % 20 = 0 := by omega
  have em2 : (a : Int).tmod 20 = 0 := by rw [Int.tmod_eq_emod_of_nonneg (by omega)]; exact em
  go_enter Tryz.func71, Tryz.ntmps71
  go_wp2_with fail
  refine (time_any a e x1 x2 x3 n1 n2 n3 c1 c2 c3 _).mono ?_
  rintro en w1 ⟨rfl, rfl⟩
  go_wp2_with fail
  go_region_law (go_simp; first | (go_at_call 106; refine (time_any a e x1 x2 x3 n1 n2 n3 c1 c2 c3 _).mono ?_; rintro en w2 ⟨rfl, rfl⟩) | (go_at_call 126; refine (HK.out _ ((((Below.refl _ w).alloc (Nat.le_refl _) _).alloc (by simp) _).alloc (by simp; omega) _).drew).mono ?_; rintro en w3 ⟨rfl, h3⟩; have H3 := mkHid h3; clear h3))
  all_goals
    go_wp2_with fail
    go_end0
    exact ⟨rfl, H3.out⟩
set_option maxRecDepth 100000 in
set_option maxHeartbeats 2000000 in
theorem skeep_not (w : World) (sb : Nat) (a : Nat) (e : Int) (x1 x2 x3 : Option Addr) (n1 n2 n3 c1 c2 c3 : Nat) (hm : a % 20 ≠ 0) (ha : a ≤ 1000000) :
    Calls Tryz.prog 71 #[.pointer (some ⟨sb, 0, none⟩), .agg #[.int .i64 a, .slice x1 n1 c1, .slice x2 n2 c2, .slice x3 n3 c3, .int .i64 e]] w fun en w' => en = .returned (.tuple #[]) ∧ Below w.heap.size w w' := by
  have em : ¬ (a : Int) % 20 = 0 := by omega
  have em2 : ¬ (a : Int).tmod 20 = 0 := by rw [Int.tmod_eq_emod_of_nonneg (by omega)]; exact em
  go_enter Tryz.func71, Tryz.ntmps71
  go_wp2_with fail
  refine (time_any a e x1 x2 x3 n1 n2 n3 c1 c2 c3 _).mono ?_
  rintro en w1 ⟨rfl, rfl⟩
  go_wp2_with fail
  go_end0
  exact ⟨rfl, ((Below.refl _ w).alloc (Nat.le_refl _) _).alloc (by simp) _⟩
end Go.Proofs.YtblbkfdhjfppkaaGreatDoor

/- A session in memory; it keeps a state. -/
namespace Go.Proofs.YtblbkfdhjfppkaaGreatDoor
open Go.RowKit
theorem flatE_append (l m : List Ent) : flatE (l ++ m) = flatE l ++ flatE m := by
  induction l with
  | nil => rfl
  | cons x l ih => simp [flatE, ih]
theorem flatE_length (l : List Ent) : (flatE l).length = l.length * 6 := by
  induction l with
  | nil => rfl
  | cons x l ih => simp [flatE, ih, Ent.cells]; omega
theorem flatE_get : ∀ (l : List Ent) (i j : Nat) (h : i < l.length), j < 6 → (flatE l)[i * 6 + j]? = (l[i].cells)[j]?
  | x :: l, 0, j, h, hj => by
    simp only [flatE, Nat.zero_mul, Nat.zero_add, List.getElem_cons_zero]
    rw [List.getElem?_append_left (by simpa [Ent.cells] using hj)]
  | x :: l, i + 1, j, h, hj => by
    have := flatE_get l i j (by simpa using h) hj
    simp only [flatE, List.getElem_cons_succ]
    rw [List.getElem?_append_right (by simp [Ent.cells]; omega), ← this]
    congr 1
    simp [Ent.cells]; omega
theorem flatE_set : ∀ (l : List Ent) (i : Nat) (x : Ent) (h : i < l.length), x.k = l[i].k → flatE (l.set i x) = (((((flatE l).set (i * 6 + 1) (.int .i64 x.a)).set (i * 6 + 2) x.b).set (i * 6 + 3) x.c).set (i * 6 + 4) x.d).set (i * 6 + 5) (.int .i64 x.e)
  | y :: l, 0, x, h, hk => by
    simp only [List.getElem_cons_zero] at hk
    simp [flatE, Ent.cells, hk]
  | y :: l, i + 1, x, h, hk => by
    have ih := flatE_set l i x (by simpa using h) (by simpa using hk)
    have e : ∀ j, (i + 1) * 6 + j = i * 6 + j + 6 := fun j => by omega
    simp only [List.set_cons_succ, flatE, e, Ent.cells, List.cons_append, List.nil_append]
    rw [ih]
def EntR (fp : Nat → Value) (F : Nat → Prop) (w : World) (st : Nat → Option Hs.Sta) (i : Nat) (x : Ent) : Prop :=
  x.k = ((20 * i : Nat) : Int) ∧ ∃ s, st (20 * i) = some s ∧ StR fp F w (.agg #[.int .i64 x.a, x.b, x.c, x.d, .int .i64 x.e]) s
theorem EntR.keep {fp : Nat → Value} {F G : Nat → Prop} {w w' : World} {st : Nat → Option Hs.Sta} {i : Nat} {x : Ent} (h : EntR fp F w st i x) (hk : ∀ b, F b → w'.heap[b]? = w.heap[b]?) (hF : ∀ b, F b → G b) : EntR fp G w' st i x := by
  obtain ⟨h1, s, h2, h3⟩ := h
  exact ⟨h1, s, h2, h3.keep hk hF⟩
theorem EntR.ok {fp : Nat → Value} {F : Nat → Prop} {w : World} {st : Nat → Option Hs.Sta} {i : Nat} {x : Ent} (h : EntR fp F w st i x) : x.Ok := by
  obtain ⟨_, s, _, h3⟩ := h
  obtain ⟨fv, tv, xo, e, f1, f2, f3⟩ := h3.form
  simp only [Value.agg.injEq] at e
  have e1 := congrArg (fun z => z[1]?) e
  have e2 := congrArg (fun z => z[2]?) e
  have e3 := congrArg (fun z => z[3]?) e
  simp at e1 e2 e3
  subst e1 e2 e3
  exact ⟨f1, f2, f3⟩
structure SesR (fp : Nat → Value) (F : Nat → Prop) (w : World) (sb mb : Nat) (mo : Obj) (st : Nat → Option Hs.Sta) (s : Hs.Sta) (n : Nat) : Prop where
  blk : ∃ fv tv ov ev es, w.heap[sb]? = some (.cells #[.int .i64 s.time, fv, tv, ov, .int .i64 s.stop, ev, .map (some mb)] 114 (0, 0)) ∧ StR fp F w (.agg #[.int .i64 s.time, fv, tv, ov, .int .i64 s.stop]) s ∧
    w.ownsRow (sb + 1) 265 6 ev n (flatE es) ∧ es.length = n ∧ (∀ i (h : i < es.length), EntR fp F w st i es[i]) ∧ (∀ k, F k → ev.ownBlock ≠ some k) ∧ ev.ownBlock ≠ some mb
  now : st s.time = some s
  fix : ∀ k, F k → k < w.heap.size ∧ k ≠ sb ∧ k ≠ mb
  map : w.heap[mb]? = some mo ∧ mb ≠ sb
def rowS (sb : Nat) (w : World) : Option Nat := match w.heap[sb]? with | some (.cells c _ _) => (c[5]?).bind Value.ownBlock | _ => none
theorem rowS_eq {sb : Nat} {w w' : World} (h : w'.heap[sb]? = w.heap[sb]?) : rowS sb w' = rowS sb w := by unfold rowS; rw [h]
theorem rowS_of {sb : Nat} {w : World} {c : Array Value} {T : TypeId} {z : Nat × Nat} {v : Value} (h : w.heap[sb]? = some (.cells c T z)) (hv : c[5]? = some v) : rowS sb w = v.ownBlock := by unfold rowS; rw [h]; simp [hv]
structure FS (sb : Nat) (w w' : World) : Prop where
  os : w'.os = w.os
  tape : w'.tape = w.tape
  output : w'.output = w.output
  size : w.heap.size ≤ w'.heap.size
  blk : ∀ k, k < w.heap.size → k ≠ sb → rowS sb w ≠ some k → w'.heap[k]? = w.heap[k]?
  row : ∀ k, rowS sb w' = some k → rowS sb w = some k ∨ w.heap.size ≤ k
theorem FS.trans {sb : Nat} {a b c : World} (h : FS sb a b) (k : FS sb b c) : FS sb a c := by
  refine ⟨k.os.trans h.os, k.tape.trans h.tape, k.output.trans h.output, Nat.le_trans h.size k.size, fun i hi hc hr => ?_, fun i hi => ?_⟩
  · rw [k.blk i (Nat.lt_of_lt_of_le hi h.size) hc (fun e => ?_), h.blk i hi hc hr]
    rcases h.row i e with h1 | h1
    · exact hr h1
    · omega
  · rcases k.row i hi with h1 | h1
    · exact h.row i h1
    · exact Or.inr (Nat.le_trans h.size h1)
theorem FS.of_below {sb : Nat} {w w' : World} (h : Below w.heap.size w w') (hs : sb < w.heap.size) : FS sb w w' :=
  ⟨h.os, h.tape, h.output, h.size, fun k hk _ _ => h.block k hk, fun k hk => Or.inl (by rw [← rowS_eq (h.block sb hs)]; exact hk)⟩
section
variable {fp : Nat → Value} {F G : Nat → Prop} {w w' : World} {sb mb n : Nat} {mo : Obj} {st : Nat → Option Hs.Sta} {s : Hs.Sta}
theorem SesR.lt (h : SesR fp F w sb mb mo st s n) : sb < w.heap.size := by
  obtain ⟨_, _, _, _, _, h1, _⟩ := h.blk; exact lt_of_block h1
theorem SesR.grow (h : SesR fp F w sb mb mo st s n) (hb : Below w.heap.size w w') (hF : ∀ k, F k → G k) (hG : ∀ k, G k → F k ∨ (w.heap.size ≤ k ∧ k < w'.heap.size)) : SesR fp G w' sb mb mo st s n := by
  have hlt := h.lt
  obtain ⟨fv, tv, ov, ev, es, h1, h2, h3, h4, h5, h6, h7⟩ := h.blk
  have hk : ∀ b, F b → w'.heap[b]? = w.heap[b]? := fun b hb' => hb.block b (h.fix b hb').1
  refine ⟨⟨fv, tv, ov, ev, es, by rw [hb.block _ hlt]; exact h1, h2.keep hk hF, ownsRow_below h3 hb, h4, fun i hi => (h5 i hi).keep hk hF, fun k hk' => ?_, h7⟩, h.now, fun k hk' => ?_, by rw [hb.block _ (lt_of_block h.map.1)]; exact h.map⟩
  · rcases hG k hk' with h8 | h8
    · exact h6 k h8
    · intro e; have := (h3.lt k e).2; omega
  · rcases hG k hk' with h8 | h8
    · have := h.fix k h8
      exact ⟨Nat.lt_of_lt_of_le this.1 hb.size, this.2⟩
    · have := lt_of_block h.map.1
      exact ⟨h8.2, by omega, by omega⟩
theorem ents_at {es : List Ent} {base g cap : Nat} (h : w.ownsRow base 265 6 (.slice (some ⟨g, 0, none⟩) es.length cap) es.length (flatE es)) (hok : ∀ i (h : i < es.length), es[i].Ok) : EntsAt w g es := fun i hi => by
  have c : ∀ j u, j < 6 → (es[i].cells)[j]? = some u → w.cell? ⟨g, i * 6 + j, none⟩ = some u := fun j u hj hu => by
    have := h.cells (g := g) rfl (i * 6 + j) u (by rw [flatE_get es i j hi hj]; exact hu)
    rw [add_off] at this; exact this
  exact ⟨hok i hi, c 0 _ (by omega) rfl, c 1 _ (by omega) rfl, c 2 _ (by omega) rfl, c 3 _ (by omega) rfl, c 4 _ (by omega) rfl, c 5 _ (by omega) rfl⟩
theorem row_set {es : List Ent} {base g cap i : Nat} {W : World} {a e : Int} {b c d : Value} (h : w.ownsRow base 265 6 (.slice (some ⟨g, 0, none⟩) es.length cap) es.length (flatE es)) (hi : i < es.length)
    (hW : W.heap = (((((w.setCell ⟨g, i * 6 + 1, none⟩ (.int .i64 a)).setCell ⟨g, i * 6 + 2, none⟩ b).setCell ⟨g, i * 6 + 3, none⟩ c).setCell ⟨g, i * 6 + 4, none⟩ d).setCell ⟨g, i * 6 + 5, none⟩ (.int .i64 e)).heap) :
    W.ownsRow base 265 6 (.slice (some ⟨g, 0, none⟩) es.length cap) es.length (flatE (es.set i ⟨es[i].k, a, b, c, d, e⟩)) := by
  rcases h.2 with ⟨r1, _⟩ | ⟨g', cap', cur, r1, r2, r3, r4, r5, r6, r7⟩
  · cases r1
  cases r1
  refine ⟨by simp [flatE_length], Or.inr ⟨g, cap, _, rfl, r2, by rw [hW]; exact heap_setCell_at (heap_setCell_at (heap_setCell_at (heap_setCell_at (heap_setCell_at r3)))), r4, r5, by simpa using r6, ?_⟩⟩
  rw [flatE_set es i ⟨es[i].k, a, b, c, d, e⟩ hi rfl, ← r7]
  simp only [Array.toList_setIfInBounds, List.take_set]
end
end Go.Proofs.YtblbkfdhjfppkaaGreatDoor

/- Contracts of the program: a session keeps a state. -/
namespace Go.Proofs.YtblbkfdhjfppkaaGreatDoor
open Go.RowKit
structure At20 (n : Nat) (key : Int) (at_ : Nat) (fd : Bool) : Prop where
  le : at_ ≤ n
  lo : ∀ i, i < at_ → ((20 * i : Nat) : Int) < key
  hi : ∀ i, i < n → at_ ≤ i → key ≤ ((20 * i : Nat) : Int)
  fnd : fd = true ↔ at_ < n ∧ ((20 * at_ : Nat) : Int) = key
section
variable {fp : Nat → Value} {F G : Nat → Prop} {w w' : World} {sb mb n : Nat} {mo : Obj} {st : Nat → Option Hs.Sta} {s : Hs.Sta}
theorem sfind_any (h : SesR fp F w sb mb mo st s n) (key : Int) (hn : n ≤ 1000) :
    Calls Tryz.prog 162 #[.pointer (some ⟨sb, 5, none⟩), .int .i64 key] w fun e w' => ∃ (at_ : Nat) (fd : Bool), e = .returned (.tuple #[.int .i64 at_, .bool fd]) ∧ Below w.heap.size w w' ∧ At20 n key at_ fd := by
  obtain ⟨fv, tv, ov, ev, es, h1, h2, h3, h4, h5, h6, h7⟩ := h.blk
  have hk : ∀ i (h : i < es.length), es[i].k = ((20 * i : Nat) : Int) := fun i hi => (h5 i hi).1
  have c5 : w.cell? ⟨sb, 5, none⟩ = some ev := cell_of_block h1 rfl
  subst h4
  rcases h3.2 with ⟨r1, r2⟩ | ⟨g, cap, cur, r1, r2, r3, r4, r5⟩
  · subst r1
    refine (find_walk w sb none 0 0 key (fun a f w' => a = 0 ∧ f = false ∧ w' = w) c5 ((search_nil key w).mono ?_)).mono ?_
    · rintro e w' ⟨rfl, rfl⟩
      exact ⟨0, false, rfl, rfl, rfl, rfl⟩
    · rintro e w' ⟨a, f, rfl, rfl, rfl, rfl⟩
      exact ⟨0, false, rfl, Below.refl _ _, Nat.zero_le _, fun i hi => by omega, fun i hi _ => by omega, by simp; omega⟩
  · subst r1
    refine (find_walk w sb (some ⟨g, 0, none⟩) es.length cap key (fun a f w' => ∃ at_ : Nat, a = at_ ∧ Below w.heap.size w w' ∧ Found es key at_ f) c5 ((search_any g cap es key w (by omega) (lt_of_block r3) (ents_at h3 fun i hi => (h5 i hi).ok) (fun i j hi hj hij => by rw [hk i hi, hk j hj]; omega)).mono ?_)).mono ?_
    · rintro e w' ⟨a, f, rfl, hb, hf⟩
      exact ⟨_, f, rfl, a, rfl, hb, hf⟩
    · rintro e w' ⟨_, f, rfl, a, rfl, hb, hf⟩
      refine ⟨a, f, rfl, hb, hf.le, fun i hi => ?_, fun i hi hi' => ?_, ?_⟩
      · have := hf.lo i (by have := hf.le; omega) hi
        rw [hk i (by have := hf.le; omega)] at this; exact this
      · have := hf.hi i hi hi'
        rw [hk i hi] at this; exact this
      · rw [hf.fnd]
        constructor
        · rintro ⟨q1, q2⟩
          rw [hk _ q1] at q2
          exact ⟨q1, q2⟩
        · rintro ⟨q1, q2⟩
          exact ⟨q1, by rw [hk _ q1]; exact q2⟩
theorem heap_set5 (W : World) (g a b c d e : Nat) (u v x y z : Value) (k : Nat) (hk : k ≠ g) : (((((W.setCell ⟨g, a, none⟩ u).setCell ⟨g, b, none⟩ v).setCell ⟨g, c, none⟩ x).setCell ⟨g, d, none⟩ y).setCell ⟨g, e, none⟩ z).heap[k]? = W.heap[k]? := by
  rw [Below.heap_setCell _ _ _ _ hk, Below.heap_setCell _ _ _ _ hk, Below.heap_setCell _ _ _ _ hk, Below.heap_setCell _ _ _ _ hk, Below.heap_setCell _ _ _ _ hk]
theorem set5_os (W : World) (p q r t o : Addr) (u v x y z : Value) : (((((W.setCell p u).setCell q v).setCell r x).setCell t y).setCell o z).os = W.os ∧ (((((W.setCell p u).setCell q v).setCell r x).setCell t y).setCell o z).tape = W.tape ∧ (((((W.setCell p u).setCell q v).setCell r x).setCell t y).setCell o z).output = W.output ∧ (((((W.setCell p u).setCell q v).setCell r x).setCell t y).setCell o z).heap.size = W.heap.size := by
  have one : ∀ (W : World) (p : Addr) (u : Value), (W.setCell p u).os = W.os ∧ (W.setCell p u).tape = W.tape ∧ (W.setCell p u).output = W.output ∧ (W.setCell p u).heap.size = W.heap.size := fun W p u => ⟨rfl, rfl, rfl, by simp⟩
  simp [one]
set_option maxHeartbeats 1000000 in
theorem keepF_any (h : SesR fp F w sb mb mo st s n) (v : Value) (s' : Hs.Sta) (hv : StR fp F w v s') (hs : st s'.time = some s') (hm : s'.time % 20 = 0) (hq : s'.time / 20 < n) (hn : n ≤ 1000) (ht : s'.time ≤ 1000000) :
    Calls Tryz.prog 126 #[.pointer (some ⟨sb, 5, none⟩), .int .i64 s'.time, v] w fun e w' => e = .returned (.tuple #[]) ∧ FS sb w w' ∧ SesR fp F w' sb mb mo st s n := by
  obtain ⟨f', t', o', rfl, ⟨x1, n1, c1, rfl⟩, ⟨x2, n2, c2, rfl⟩, ⟨x3, n3, c3, rfl⟩⟩ := hv.form
  obtain ⟨fv, tv, ov, ev, es, h1, h2, h3, h4, h5, h6, h7⟩ := h.blk
  subst h4
  have h3' := h3
  rcases h3.2 with ⟨r1, r2⟩ | ⟨g, cap, cur, r1, r2, r3, r4, r5, r6, r7⟩
  · omega
  subst r1
  obtain ⟨w1, hw1⟩ : ∃ w1, w1 = w.alloc (.cells #[.int .i64 s'.time, .slice x1 n1 c1, .slice x2 n2 c2, .slice x3 n3 c3, .int .i64 s'.stop] 108) := ⟨_, rfl⟩
  have hb1 : Below w.heap.size w w1 := by rw [hw1]; exact (Below.refl _ _).alloc (Nat.le_refl _) _
  have hB1 : w1.heap[w.heap.size]? = some (.cells #[.int .i64 s'.time, .slice x1 n1 c1, .slice x2 n2 c2, .slice x3 n3 c3, .int .i64 s'.stop] 108 (0, 0)) := by rw [hw1]; exact heap_first _ _ rfl _
  have hs1 : w1.heap.size = w.heap.size + 1 := by rw [hw1]; simp
  refine (keepFound_walk w sb g es.length cap (s'.time / 20) s'.time s'.time s'.stop x1 x2 x3 n1 n2 n3 c1 c2 c3 (fun w' => FS sb w w' ∧ SesR fp F w' sb mb mo st s es.length) (fun W => Below w1.heap.size w1 W) hq ?_ (fun W hW => ?_))
  · show Calls _ _ _ _ _
    rw [← hw1]
    refine (sfind_any (h.grow hb1 (fun _ h => h) (fun _ h => Or.inl h)) s'.time hn).mono ?_
    rintro e w' ⟨a, fd, rfl, hb, hf⟩
    have e1 : a = s'.time / 20 := by
      refine Nat.le_antisymm ?_ ?_
      · cases a with
        | zero => omega
        | succ a => have := hf.lo a (by omega); omega
      · rcases Nat.lt_or_ge a (s'.time / 20) with h8 | h8
        · have := hf.hi a (by omega) (Nat.le_refl _); omega
        · exact h8
    have e2 : fd = true := hf.fnd.2 ⟨by omega, by omega⟩
    exact ⟨by rw [e1, e2], hb⟩
  · have hbw : Below w.heap.size w W := hb1.trans (hW.mono (by omega))
    have hlt := h.lt
    have hSW := h.grow hbw (fun _ h => h) (fun _ h => Or.inl h)
    have hgl := lt_of_block r3
    have r3W : W.heap[g]? = some (.cells cur 265 (0, 0)) := by rw [hbw.block _ hgl]; exact r3
    have hcs : s'.time / 20 * 6 + 5 < cur.size := by rw [r6]; have := Nat.mul_le_mul_right 6 r4; omega
    refine ⟨hSW.lt, cell_of_block (by rw [hbw.block _ hlt]; exact h1) rfl, lt_of_block r3W, ⟨cur, r3W, hcs⟩, by rw [hW.block _ (by omega)]; exact hB1, fun W' hS => ?_⟩
    have hgsb : g ≠ sb := by have := (h3'.lt g rfl).1; omega
    have hk : ∀ k, k ≠ g → W'.heap[k]? = W.heap[k]? := fun k hk => by rw [hS.heap]; exact heap_set5 W g _ _ _ _ _ _ _ _ _ _ k hk
    have hrow : rowS sb W = some g := rowS_of (by rw [hbw.block _ hlt]; exact h1) rfl
    have hFg : ∀ k, F k → k ≠ g := fun k hk e => h6 k hk (by rw [e]; rfl)
    have hWW : FS sb W W' := by
      obtain ⟨a1, a2, a3, a4⟩ := set5_os W ⟨g, s'.time / 20 * 6 + 1, none⟩ ⟨g, s'.time / 20 * 6 + 2, none⟩ ⟨g, s'.time / 20 * 6 + 3, none⟩ ⟨g, s'.time / 20 * 6 + 4, none⟩ ⟨g, s'.time / 20 * 6 + 5, none⟩ (.int .i64 s'.time) (.slice x1 n1 c1) (.slice x2 n2 c2) (.slice x3 n3 c3) (.int .i64 s'.stop)
      refine ⟨hS.os.trans a1, hS.tape.trans a2, hS.output.trans a3, by rw [hS.heap, a4]; exact Nat.le_refl _, fun k hk' hc hr => hk k fun e => hr (by rw [e]; exact hrow), fun k hk' => Or.inl ?_⟩
      rw [← rowS_eq (hk sb (fun e => hgsb e.symm))]; exact hk'
    refine ⟨(FS.of_below hbw hlt).trans hWW, ⟨fv, tv, ov, .slice (some ⟨g, 0, none⟩) es.length cap, es.set (s'.time / 20) ⟨es[s'.time / 20].k, s'.time, .slice x1 n1 c1, .slice x2 n2 c2, .slice x3 n3 c3, s'.stop⟩, ?_, ?_, ?_, by simp, fun i hi => ?_, h6, h7⟩, h.now, fun k hk' => ?_, ?_⟩
    · rw [hk sb (fun e => hgsb e.symm), hbw.block _ hlt]; exact h1
    · exact h2.keep (fun k hk' => by rw [hk k (hFg k hk'), hbw.block k (h.fix k hk').1]) fun _ h => h
    · exact row_set (ownsRow_below h3' hbw) hq hS.heap
    · have hi' : i < es.length := by simpa using hi
      have hkeep : ∀ k, F k → W'.heap[k]? = w.heap[k]? := fun k hk' => by rw [hk k (hFg k hk'), hbw.block k (h.fix k hk').1]
      by_cases hie : i = s'.time / 20
      · subst hie
        rw [List.getElem_set_self]
        refine ⟨(h5 _ hi').1, s', ?_, hv.keep hkeep fun _ h => h⟩
        rw [show 20 * (s'.time / 20) = s'.time by omega]; exact hs
      · rw [List.getElem_set_ne (fun e => hie e.symm)]
        exact (h5 i hi').keep hkeep fun _ h => h
    · have := h.fix k hk'
      exact ⟨by rw [hS.heap]; simpa using Nat.lt_of_lt_of_le this.1 hbw.size, this.2⟩
    · refine ⟨?_, h.map.2⟩
      rw [hk mb (fun e => h7 (by rw [e]; rfl)), hbw.block _ (lt_of_block h.map.1)]; exact h.map.1
end
end Go.Proofs.YtblbkfdhjfppkaaGreatDoor

/- Contracts of the program: a session keeps a state (2). -/
namespace Go.Proofs.YtblbkfdhjfppkaaGreatDoor
open Go.RowKit
section
variable {fp : Nat → Value} {F G : Nat → Prop} {w w' : World} {sb mb n : Nat} {mo : Obj} {st : Nat → Option Hs.Sta} {s : Hs.Sta}
theorem row_set' {es : List Ent} {base g cap i m : Nat} {W : World} {k0 a e : Int} {b c d : Value} (hm : es.length = m) (h : w.ownsRow base 265 6 (.slice (some ⟨g, 0, none⟩) m cap) m (flatE es)) (hi : i < es.length) (hk : es[i].k = k0)
    (hW : W.heap = (((((w.setCell ⟨g, i * 6 + 1, none⟩ (.int .i64 a)).setCell ⟨g, i * 6 + 2, none⟩ b).setCell ⟨g, i * 6 + 3, none⟩ c).setCell ⟨g, i * 6 + 4, none⟩ d).setCell ⟨g, i * 6 + 5, none⟩ (.int .i64 e)).heap) :
    W.ownsRow base 265 6 (.slice (some ⟨g, 0, none⟩) m cap) m (flatE (es.set i ⟨k0, a, b, c, d, e⟩)) := by
  subst hm hk
  exact row_set h hi hW
set_option maxHeartbeats 1000000 in
theorem keepN_any (h : SesR fp F w sb mb mo st s n) (v : Value) (s' : Hs.Sta) (hv : StR fp F w v s') (hs : st s'.time = some s') (hm : s'.time % 20 = 0) (hq : s'.time / 20 = n) (hn : n ≤ 1000) :
    Calls Tryz.prog 126 #[.pointer (some ⟨sb, 5, none⟩), .int .i64 s'.time, v] w fun e w' => e = .returned (.tuple #[]) ∧ FS sb w w' ∧ SesR fp F w' sb mb mo st s (n + 1) := by
  obtain ⟨f', t', o', rfl, ⟨x1, n1, c1, rfl⟩, ⟨x2, n2, c2, rfl⟩, ⟨x3, n3, c3, rfl⟩⟩ := hv.form
  obtain ⟨fv, tv, ov, ev, es, h1, h2, h3, h4, h5, h6, h7⟩ := h.blk
  have hlt := h.lt
  have h3' := h3
  obtain ⟨x, c, rfl⟩ := own_slice h3
  obtain ⟨w1, hw1⟩ : ∃ w1, w1 = w.alloc (.cells #[.int .i64 s'.time, .slice x1 n1 c1, .slice x2 n2 c2, .slice x3 n3 c3, .int .i64 s'.stop] 108) := ⟨_, rfl⟩
  have hb1 : Below w.heap.size w w1 := by rw [hw1]; exact (Below.refl _ _).alloc (Nat.le_refl _) _
  have hB1 : w1.heap[w.heap.size]? = some (.cells #[.int .i64 s'.time, .slice x1 n1 c1, .slice x2 n2 c2, .slice x3 n3 c3, .int .i64 s'.stop] 108 (0, 0)) := by rw [hw1]; exact heap_first _ _ rfl _
  have hs1 : w1.heap.size = w.heap.size + 1 := by rw [hw1]; simp
  have hno : ∀ k, (Value.slice x n c).ownBlock = some k → sb < k ∧ k < w.heap.size := fun k hk => by have := h3'.lt k hk; exact ⟨by omega, this.2⟩
  refine (keepNew_walk w sb n x c s'.time s'.time s'.stop x1 x2 x3 n1 n2 n3 c1 c2 c3 (fun w' => FS sb w w' ∧ SesR fp F w' sb mb mo st s (n + 1)) (fun W => Below w1.heap.size w1 W)
    (fun g cap W => (∀ k, k < w1.heap.size → some k ≠ (Value.slice x n c).ownBlock → W.heap[k]? = w1.heap[k]?) ∧ W.os = w.os ∧ W.tape = w.tape ∧ W.output = w.output ∧ w1.heap.size ≤ W.heap.size ∧ ((Value.slice x n c).ownBlock = some g ∨ w1.heap.size ≤ g) ∧ W.ownsRow (sb + 1) 265 6 (.slice (some ⟨g, 0, none⟩) (n + 1) cap) (n + 1) (flatE es ++ [.int .i64 s'.time, .int .i64 0, .slice none 0 0, .slice none 0 0, .slice none 0 0, .int .i64 0])) (by omega) ?_ (fun W hW => ?_) (fun g cap W hW => ?_))
  · show Calls _ _ _ _ _
    rw [← hw1]
    refine (sfind_any (h.grow hb1 (fun _ h => h) (fun _ h => Or.inl h)) s'.time hn).mono ?_
    rintro e w' ⟨a, fd, rfl, hb, hf⟩
    have e1 : a = n := by
      refine Nat.le_antisymm hf.le ?_
      rcases Nat.lt_or_ge a n with h8 | h8
      · have := hf.hi a h8 (Nat.le_refl _); omega
      · exact h8
    have e2 : fd = false := by
      cases fd with
      | false => rfl
      | true => have := (hf.fnd.1 rfl).1; omega
    exact ⟨by rw [e1, e2], hb⟩
  · have hbw : Below w.heap.size w W := hb1.trans (hW.mono (by omega))
    have hrW := ownsRow_below h3' hbw
    refine ⟨Nat.lt_of_lt_of_le hlt hbw.size, cell_of_block (by rw [hbw.block _ hlt]; exact h1) rfl, ?_⟩
    refine (insert_any _ (sb + 1) W.heap.size n (.slice x n c) (flatE es) s'.time (hrW.alloc _) (heap_first _ _ rfl _) (by omega) (by have := hbw.size; simp; omega)).mono ?_
    rintro e w' ⟨g, cap, rfl, q1, q2, q3⟩
    have hWs := hW.size
    have q2s := q2.size
    simp only [World.size_alloc] at q2s
    refine ⟨g, cap, rfl, fun k hk hne => ?_, ?_, ?_, ?_, by omega, ?_, q1⟩
    · rw [q2.block k (by simp; omega) hne, Below.heap_alloc _ _ _ (by omega), hW.block k hk]
    · exact q2.os.trans hbw.os
    · exact q2.tape.trans hbw.tape
    · exact q2.output.trans hbw.output
    · rcases q3 with q3 | q3
      · exact Or.inl q3
      · exact Or.inr (by rw [q3]; simp; omega)
  · obtain ⟨b1, b2, b3, b4, b5, b6, b7⟩ := hW
    have hb7 := b7
    have hgsb : g ≠ sb := by have := (b7.lt g rfl).1; omega
    have hgw : g ≠ w.heap.size := by
      rcases b6 with h8 | h8
      · have := hno g h8; omega
      · omega
    rcases b7.2 with ⟨r1, _⟩ | ⟨g', cap', cur, r1, r2, r3, r4, r5, r6, r7⟩
    · cases r1
    cases r1
    have hsbW : W.heap[sb]? = some (.cells #[.int .i64 s.time, fv, tv, ov, .int .i64 s.stop, .slice x n c, .map (some mb)] 114 (0, 0)) := by
      rw [b1 sb (by omega) (fun e => by have := hno sb e.symm; omega), hb1.block _ hlt]; exact h1
    have hcs : n * 6 + 5 < cur.size := by rw [r6]; omega
    refine ⟨by omega, hgsb, hgw, by omega, ⟨_, cell_of_block hsbW rfl⟩, frozen_of_block hsbW, lt_of_block r3, ⟨cur, r3, hcs⟩, by rw [b1 _ (by omega) (fun e => by have := hno _ e.symm; omega)]; exact hB1, fun W' hS => ?_⟩
    generalize hW1 : W.setCell ⟨sb, 5, none⟩ (.slice (some ⟨g, 0, none⟩) (n + 1) cap) = W1 at hS
    have hk1 : ∀ k, k ≠ sb → W1.heap[k]? = W.heap[k]? := fun k hk => by rw [← hW1]; exact Below.heap_setCell _ _ _ _ hk
    have hsb1 : W1.heap[sb]? = some (.cells #[.int .i64 s.time, fv, tv, ov, .int .i64 s.stop, .slice (some ⟨g, 0, none⟩) (n + 1) cap, .map (some mb)] 114 (0, 0)) := by rw [← hW1]; exact heap_setCell_at hsbW
    have hos1 : W1.os = W.os ∧ W1.tape = W.tape ∧ W1.output = W.output ∧ W1.heap.size = W.heap.size := by rw [← hW1]; exact ⟨rfl, rfl, rfl, by simp⟩
    have hk2 : ∀ k, k ≠ g → W'.heap[k]? = W1.heap[k]? := fun k hk => by rw [hS.heap]; exact heap_set5 W1 g _ _ _ _ _ _ _ _ _ _ k hk
    obtain ⟨a1, a2, a3, a4⟩ := set5_os W1 ⟨g, n * 6 + 1, none⟩ ⟨g, n * 6 + 2, none⟩ ⟨g, n * 6 + 3, none⟩ ⟨g, n * 6 + 4, none⟩ ⟨g, n * 6 + 5, none⟩ (.int .i64 s'.time) (.slice x1 n1 c1) (.slice x2 n2 c2) (.slice x3 n3 c3) (.int .i64 s'.stop)
    have hsz : W'.heap.size = W.heap.size := by rw [hS.heap, a4, hos1.2.2.2]
    have hkk : ∀ k, k < w.heap.size → k ≠ sb → some k ≠ (Value.slice x n c).ownBlock → W'.heap[k]? = w.heap[k]? := fun k hk hne hr => by
      have hkg : k ≠ g := fun e => by
        rcases b6 with h8 | h8
        · exact hr (by rw [e]; exact h8.symm)
        · omega
      rw [hk2 k hkg, hk1 k hne, b1 k (by omega) hr, hb1.block k hk]
    have hFk : ∀ k, F k → W'.heap[k]? = w.heap[k]? := fun k hk => hkk k (h.fix k hk).1 (h.fix k hk).2.1 fun e => h6 k hk e.symm
    have hmb := lt_of_block h.map.1
    have hrow0 : rowS sb w = (Value.slice x n c).ownBlock := rowS_of h1 rfl
    have hsb' : W'.heap[sb]? = some (.cells #[.int .i64 s.time, fv, tv, ov, .int .i64 s.stop, .slice (some ⟨g, 0, none⟩) (n + 1) cap, .map (some mb)] 114 (0, 0)) := by rw [hk2 sb (fun e => hgsb e.symm)]; exact hsb1
    obtain ⟨z, hz⟩ : ∃ z : Ent, z = ⟨s'.time, 0, .slice none 0 0, .slice none 0 0, .slice none 0 0, 0⟩ := ⟨_, rfl⟩
    have hown1 : W1.ownsRow (sb + 1) 265 6 (.slice (some ⟨g, 0, none⟩) (n + 1) cap) (n + 1) (flatE (es ++ [z])) := by
      rw [flatE_append, hz]
      exact ownsRow_keep hb7 fun k e => hk1 k (by cases e; exact hgsb)
    have hel : (es ++ [z]).length = n + 1 := by simp [h4]
    have hzk : (es ++ [z])[n]'(by rw [hel]; omega) = z := by rw [List.getElem_append_right (by omega)]; simp
    have hrow := row_set' (W := W') (i := n) (k0 := s'.time) (a := s'.time) (b := .slice x1 n1 c1) (c := .slice x2 n2 c2) (d := .slice x3 n3 c3) (e := s'.stop) hel hown1 (by rw [hel]; omega) (by rw [hzk, hz]) hS.heap
    refine ⟨⟨hS.os.trans (a1.trans (hos1.1.trans b2)), hS.tape.trans (a2.trans (hos1.2.1.trans b3)), hS.output.trans (a3.trans (hos1.2.2.1.trans b4)), by rw [hsz]; omega, fun k hk hne hr => hkk k hk hne (fun e => hr (by rw [hrow0]; exact e.symm)), fun k hk => ?_⟩, ⟨fv, tv, ov, .slice (some ⟨g, 0, none⟩) (n + 1) cap, (es ++ [z]).set n ⟨s'.time, s'.time, .slice x1 n1 c1, .slice x2 n2 c2, .slice x3 n3 c3, s'.stop⟩, hsb', h2.keep hFk fun _ h => h, ?_, by simp [h4], fun i hi => ?_, fun k hk e => ?_, fun e => ?_⟩, h.now, fun k hk => ?_, ?_⟩
    · rw [rowS_of hsb' rfl] at hk
      cases hk
      rcases b6 with h8 | h8
      · exact Or.inl (by rw [hrow0]; exact h8)
      · exact Or.inr (by show w.heap.size ≤ g; omega)
    · exact hrow
    · have hi' : i < n + 1 := by simpa [h4] using hi
      by_cases hin : i = n
      · subst hin
        rw [List.getElem_set_self]
        refine ⟨by show (s'.time : Int) = _; omega, s', ?_, hv.keep hFk fun _ h => h⟩
        rw [show 20 * i = s'.time by omega]; exact hs
      · rw [List.getElem_set_ne (fun e => hin e.symm), List.getElem_append_left (by omega)]
        exact (h5 i (by omega)).keep hFk fun _ h => h
    · have e' : g = k := by simpa [Value.ownBlock] using e
      rcases b6 with h8 | h8
      · exact h6 k hk (by rw [← e']; exact h8)
      · have := (h.fix _ hk).1; omega
    · have e' : g = mb := by simpa [Value.ownBlock] using e
      rcases b6 with h8 | h8
      · exact h7 (by rw [← e']; exact h8)
      · omega
    · have := h.fix k hk
      exact ⟨by rw [hsz]; omega, this.2⟩
    · exact ⟨by rw [hkk mb hmb h.map.2 (fun e => h7 e.symm)]; exact h.map.1, h.map.2⟩
theorem skeep_any (h : SesR fp F w sb mb mo st s n) (v : Value) (s' : Hs.Sta) (hv : StR fp F w v s') (hs : st s'.time = some s') (hg : s'.time % 20 = 0 → s'.time / 20 ≤ n) (hn : n ≤ 1000) (ht : s'.time ≤ 1000000) :
    Calls Tryz.prog 71 #[.pointer (some ⟨sb, 0, none⟩), v] w fun e w' => e = .returned (.tuple #[]) ∧ FS sb w w' ∧ SesR fp F w' sb mb mo st s (if s'.time % 20 = 0 ∧ s'.time / 20 = n then n + 1 else n) := by
  obtain ⟨f', t', o', rfl, ⟨x1, n1, c1, rfl⟩, ⟨x2, n2, c2, rfl⟩, ⟨x3, n3, c3, rfl⟩⟩ := hv.form
  by_cases hm : s'.time % 20 = 0
  · refine skeep_walk w sb s'.time s'.stop x1 x2 x3 n1 n2 n3 c1 c2 c3 _ hm ht fun W hW => ?_
    have hgr := h.grow hW (fun _ h => h) (fun _ h => Or.inl h)
    have hvW := hv.keep (fun k hk => hW.block k (h.fix k hk).1) fun _ h => h
    rcases Nat.eq_or_lt_of_le (hg hm) with e | e
    · rw [if_pos ⟨hm, e⟩]
      refine (keepN_any hgr _ s' hvW hs hm e hn).mono ?_
      rintro e w' ⟨he, q1, q2⟩
      exact ⟨he, (FS.of_below hW h.lt).trans q1, q2⟩
    · rw [if_neg (by omega)]
      refine (keepF_any hgr _ s' hvW hs hm e hn ht).mono ?_
      rintro e w' ⟨he, q1, q2⟩
      exact ⟨he, (FS.of_below hW h.lt).trans q1, q2⟩
  · rw [if_neg (fun e => hm e.1)]
    refine (skeep_not w sb s'.time s'.stop x1 x2 x3 n1 n2 n3 c1 c2 c3 hm ht).mono ?_
    rintro e w' ⟨he, hb⟩
    exact ⟨he, FS.of_below hb h.lt, h.grow hb (fun _ h => h) (fun _ h => Or.inl h)⟩
end
end Go.Proofs.YtblbkfdhjfppkaaGreatDoor

/- Contracts of the program: a session is begun: a source is read. -/
namespace Go.Proofs.YtblbkfdhjfppkaaGreatDoor
open Go.RowKit
set_option maxRecDepth 100000 in
theorem clone_any (s : ByteArray) (w : World) (hs : s.size ≤ 281474976710656) : Calls Tryz.prog 69 #[.string s] w fun e w' => e = .returned (.string s) ∧ Below w.heap.size w w' := by
  have HC := mkHid (Tryz.stringslite_Clone s w hs)
  go_enter Tryz.func69, Tryz.ntmps69
  go_wp2_with fail
  refine HC.out.mono ?_
  rintro e w1 ⟨rfl, hb⟩
  have HB := mkHid hb
  clear hb
  go_wp2_with fail
  go_ret
  exact ⟨rfl, HB.out⟩
set_option maxRecDepth 100000 in
set_option maxHeartbeats 1000000 in
theorem start1_any (src : ByteArray) (b p : Nat) (w : World) (hT : AllTabs w) (hs : src.size ≤ 281474976710656) (hb : w.cell? ⟨b, 0, none⟩ = some (.string src)) (hp : w.heap[p]? = some (.cells #[.slice none 0 0] 86 (0, 0))) :
    Calls Tryz.prog 68 #[.pointer (some ⟨b, 0, none⟩), .pointer (some ⟨p, 0, none⟩)] w fun e w' =>
      (Hs.readL src.data.toList = (0, 0) ∧ e = .returned (.tuple #[]) ∧ ∃ w1 v ks, Below w.heap.size w w1 ∧ Hs.parsedL src.data.toList = .ok ks ∧ FSl (Btw w.heap.size w1.heap.size) w1 v ks ∧ w' = w1.setCell ⟨p, 0, none⟩ v) ∨
      ((Hs.readL src.data.toList).1 ≠ 0 ∧ e = faultE (Hs.readL src.data.toList).1 (Hs.readL src.data.toList).2 ∧ Below w.heap.size w w') := by
  have HC := mkHid (clone_any src w hs)
  have HR : Hid (∀ W, Below w.heap.size w W → Calls Tryz.prog 44 #[.string src] W (preadPost src.data.toList W)) := fun W hW => pread_any src W (hT.below hW) (by unfold maxLen; omega)
  have HP := mkHid hp
  have hl := lt_of_block hp
  clear hT hp
  go_enter Tryz.func68, Tryz.ntmps68
  go_wp2_with fail
  refine HC.out.mono ?_
  rintro e w1 ⟨rfl, hb1⟩
  have HRR := mkHid (HR.out w1 hb1)
  have HB1 := mkHid hb1
  clear HR HC hb1
  go_wp2_with fail
  refine HRR.out.mono ?_
  rintro e w2 ⟨hb2, ⟨h0, v, ks, rfl, h1, h2⟩ | ⟨h0, rfl⟩⟩
  · have hbb := HB1.out.trans (hb2.mono HB1.out.size)
    have HP2 : w2.heap[p]? = some (.cells #[.slice none 0 0] 86 (0, 0)) := by rw [hbb.block _ hl]; exact HP.out
    have c0 := cell_of_block HP2 (i := 0) rfl
    have f0 := frozen_of_block HP2 (i := 0)
    have l0 := lt_of_block HP2
    obtain ⟨x, c, rfl⟩ : ∃ x c, v = .slice x ks.length c := by
      rcases h2 with ⟨rfl, rfl⟩ | ⟨g, cap, cur, us, rfl, _⟩
      · exact ⟨none, 0, rfl⟩
      · exact ⟨_, _, rfl⟩
    have HF := mkHid (And.intro h0 (And.intro h1 (And.intro hbb (h2.grow (G := Btw w.heap.size w2.heap.size) (fun _ _ => rfl) (fun k hk => ⟨Nat.le_trans HB1.out.size hk.1, hk.2⟩)))))
    clear h0 h1 h2 hb2 hbb HP2 HRR HB1 HP
    go_wp2_with fail
    go_end0
    exact Or.inl ⟨HF.out.1, rfl, w2, _, ks, HF.out.2.2.1, HF.out.2.1, HF.out.2.2.2, rfl⟩
  · have HF := mkHid (And.intro h0 (HB1.out.trans (hb2.mono HB1.out.size)))
    clear h0 hb2 HRR HB1 HP
    go_wp2_with fail
    exact ⟨rfl, Or.inr ⟨HF.out.1, rfl, HF.out.2⟩⟩
end Go.Proofs.YtblbkfdhjfppkaaGreatDoor

/- Contracts of the program: a session is begun: the walk. -/
namespace Go.Proofs.YtblbkfdhjfppkaaGreatDoor
open Go.RowKit
theorem makeMapB (w : World) : (Instr.makeMap 112 none).run Tryz.prog w = .ok (.map (some w.heap.size)) (w.alloc (.map #[] 0)) := rfl
set_option maxRecDepth 100000 in
set_option maxHeartbeats 4000000 in
theorem hstart_walk (w : World) (src : ByteArray) (x : Option Addr) (n c : Nat) (P : Value → World → Prop) (A : World → Prop) (S : Nat → Value → Value → Value → Nat → World → Prop)
    (HF : Hid (Calls Tryz.prog 42 #[.func (.func 68) #[] #[.pointer (some ⟨w.heap.size, 0, none⟩), .pointer (some ⟨w.heap.size + 1, 0, none⟩)]] ((w.alloc (.cells #[.string src] 9)).alloc (.cells #[.slice none 0 0] 86)) fun e w' => (e = .returned (.tuple #[.int .i64 0, .int .i64 0]) ∧ A w') ∨ ∃ k l : Nat, k ≠ 0 ∧ e = .returned (.tuple #[.int .i64 k, .int .i64 l]) ∧ P (.tuple #[.pointer none, .int .i64 k, .int .i64 l]) w'))
    (HM : Hid (∀ W, A W → ∃ px pn pc, W.cell? ⟨w.heap.size + 1, 0, none⟩ = some (.slice px pn pc) ∧ w.heap.size + 1 < W.heap.size ∧ Calls Tryz.prog 70 #[.slice px pn pc, .slice x n c] W fun e w' => ∃ (a : Nat) (x1 x2 x3 : Option Addr) (n1 n2 n3 c1 c2 c3 q : Nat), e = .returned (.agg #[.int .i64 a, .slice x1 n1 c1, .slice x2 n2 c2, .slice x3 n3 c3, .int .i64 q]) ∧ S a (.slice x1 n1 c1) (.slice x2 n2 c2) (.slice x3 n3 c3) q w'))
    (HK : Hid (∀ (a : Nat) (x1 x2 x3 : Option Addr) (n1 n2 n3 c1 c2 c3 q : Nat) W, S a (.slice x1 n1 c1) (.slice x2 n2 c2) (.slice x3 n3 c3) q W → Calls Tryz.prog 71 #[.pointer (some ⟨W.heap.size + 1, 0, none⟩), .agg #[.int .i64 a, .slice x1 n1 c1, .slice x2 n2 c2, .slice x3 n3 c3, .int .i64 q]] ((W.alloc (.map #[] 0)).alloc (.cells #[.int .i64 a, .slice x1 n1 c1, .slice x2 n2 c2, .slice x3 n3 c3, .int .i64 q, .slice none 0 0, .map (some W.heap.size)] 114)) fun e w' => e = .returned (.tuple #[]) ∧ P (.tuple #[.pointer (some ⟨W.heap.size + 1, 0, none⟩), .int .i64 0, .int .i64 0]) w')) :
    Calls Tryz.prog 32 #[.string src, .slice x n c] w fun e w' => ∃ v, e = .returned v ∧ P v w' := by
  have hmf := makeFv
  have hmm := makeMapB
  go_enter Tryz.func32, Tryz.ntmps32
  go_wp2_with fail
  refine HF.out.mono ?_
  rintro e w1 (⟨rfl, h1⟩ | ⟨k, l, hk, rfl, h1⟩)
  · obtain ⟨px, pn, pc, q1, q2, q3⟩ := HM.out _ h1
    have HS := mkHid q3
    clear h1 q3 HF HM
    go_wp2_with fail
    refine HS.out.mono ?_
    rintro e w2 ⟨a, x1, x2, x3, n1, n2, n3, c1, c2, c3, q, rfl, h2⟩
    have HKK := mkHid (HK.out _ _ _ _ _ _ _ _ _ _ _ _ h2)
    clear h2 HK HS q1
    go_wp2_with fail
    refine HKK.out.mono ?_
    rintro e w3 ⟨rfl, h3⟩
    have H3 := mkHid h3
    clear h3
    go_wp2_with fail
    go_ret3
    exact ⟨_, rfl, H3.out⟩
  · have H1 := mkHid h1
    have hk' : ¬ (k : Int) = 0 := by omega
    clear h1 HF HM HK
    go_wp2_with fail
    go_ret3
    exact ⟨_, rfl, H1.out⟩
end Go.Proofs.YtblbkfdhjfppkaaGreatDoor

/- Contracts of the program: a session is begun. -/
namespace Go.Proofs.YtblbkfdhjfppkaaGreatDoor
open Go.RowKit
noncomputable def statesOf (ks : List Hs.Ast) (tape : List Int) : Nat → Option Hs.Sta := Hs.stAt (Hs.tabC ks 2001) (Hs.mst0 ks 2001 tape)
theorem callSt1 (a b : Value) (W : World) : (callFunc 68 #[a, b]).run Tryz.prog W = .ok (.enter 68 #[a, b]) W := by kernel_rfl
def StartP (src : List UInt8) (tape : List Int) (w : World) (v : Value) (w' : World) : Prop :=
  Below w.heap.size w w' ∧
  ((Hs.readL src = (0, 0) ∧ ∃ ks fp G sb mb, Hs.parsedL src = .ok ks ∧ v = .tuple #[.pointer (some ⟨sb, 0, none⟩), .int .i64 0, .int .i64 0] ∧ w.heap.size ≤ sb ∧ w.heap.size ≤ mb ∧ TabR fp G w' (Hs.tabC ks 2001) ∧ ∃ s, SesR fp G w' sb mb (.map #[] 0) (statesOf ks tape) s 1 ∧ s.time = 0) ∨
   ((Hs.readL src).1 ≠ 0 ∧ v = .tuple #[.pointer none, .int .i64 (Hs.readL src).1, .int .i64 (Hs.readL src).2]))
end Go.Proofs.YtblbkfdhjfppkaaGreatDoor

/- Contracts of the program: a session is begun, whatever a machine's start is. -/
namespace Go.Proofs.YtblbkfdhjfppkaaGreatDoor
open Go.RowKit
theorem hstart_of (src : ByteArray) (tv : Value) (tape : List Int) (w : World) (hT : AllTabs w) (hs : src.size ≤ 281474976710656) (ht : TapeI w tv tape)
    (hM : ∀ ks, Hs.parsedL src.data.toList = .ok ks → Hs.readL src.data.toList = (0, 0) → ∃ r : Hs.Mst × Nat, statesOf ks tape 0 = some ⟨0, r.1, Hs.fuelStop 0 r.2⟩ ∧ ∀ lo W v, FSl (Btw lo W.heap.size) W v ks → TapeI W tv tape → Calls Tryz.prog 70 #[v, tv] W fun e w' => ∃ v', e = .returned v' ∧ Below W.heap.size W w' ∧ ∃ fp G, (∀ b, G b → b < w'.heap.size) ∧ TabR fp G w' (Hs.tabC ks 2001) ∧ StR fp G w' v' ⟨0, r.1, Hs.fuelStop 0 r.2⟩) :
    Calls Tryz.prog 32 #[.string src, tv] w fun e w' => ∃ v, e = .returned v ∧ StartP src.data.toList tape w v w' := by
  obtain ⟨tx, tn, tc, rfl⟩ : ∃ x n c, tv = .slice x n c := by
    rcases ht with ⟨_, rfl⟩ | ⟨g, o, c, rfl, _⟩
    · exact ⟨_, _, _, rfl⟩
    · exact ⟨_, _, _, rfl⟩
  obtain ⟨w2, hw2⟩ : ∃ w2, w2 = (w.alloc (.cells #[.string src] 9)).alloc (.cells #[.slice none 0 0] 86) := ⟨_, rfl⟩
  have hb2 : Below w.heap.size w w2 := by rw [hw2]; exact ((Below.refl _ _).alloc (Nat.le_refl _) _).alloc (by simp) _
  have hs2 : w2.heap.size = w.heap.size + 2 := by rw [hw2]; simp
  have hB0 : w2.heap[w.heap.size]? = some (.cells #[.string src] 9 (0, 0)) := by rw [hw2]; exact first_blk _ _ _
  have hB1 : w2.heap[w.heap.size + 1]? = some (.cells #[.slice none 0 0] 86 (0, 0)) := by rw [hw2]; exact second_blk _ _ _
  generalize hrd : Hs.readL src.data.toList = rd at *
  refine (hstart_walk w src tx tn tc (fun v w' => StartP src.data.toList tape w v w')
    (fun W => rd = (0, 0) ∧ ∃ lo px pn pc ks, Hs.parsedL src.data.toList = .ok ks ∧ Below w.heap.size w W ∧ W.cell? ⟨w.heap.size + 1, 0, none⟩ = some (.slice px pn pc) ∧ w.heap.size + 1 < W.heap.size ∧ FSl (Btw lo W.heap.size) W (.slice px pn pc) ks)
    (fun a v1 v2 v3 q W => rd = (0, 0) ∧ ∃ (ks : List Hs.Ast) (fp : Nat → Value) (G : Nat → Prop) (r : Hs.Mst × Nat), Hs.parsedL src.data.toList = .ok ks ∧ Below w.heap.size w W ∧ (∀ b, G b → b < W.heap.size) ∧ TabR fp G W (Hs.tabC ks 2001) ∧ a = 0 ∧ q = Hs.fuelStop 0 r.2 ∧ StR fp G W (.agg #[.int .i64 ((0 : Nat) : Int), v1, v2, v3, .int .i64 (Hs.fuelStop 0 r.2)]) ⟨0, r.1, Hs.fuelStop 0 r.2⟩ ∧ statesOf ks tape 0 = some ⟨0, r.1, Hs.fuelStop 0 r.2⟩)
    ?_ (fun W hA => ?_) (fun a x1 x2 x3 n1 n2 n3 c1 c2 c3 q W hS => ?_))
  · show Calls _ _ _ _ _
    rw [← hw2]
    refine (faultOf_gen 68 (some ⟨w.heap.size, 0, none⟩) (some ⟨w.heap.size + 1, 0, none⟩) w2
      (fun W => rd = (0, 0) ∧ ∃ px pn pc ks w1, Hs.parsedL src.data.toList = .ok ks ∧ Below (w2.heap.size + 2) ((w2.alloc (.cells #[.int .i64 0] 22)).alloc (.cells #[.int .i64 0] 3)) w1 ∧ FSl (Btw (w2.heap.size + 2) w1.heap.size) w1 (.slice px pn pc) ks ∧ W = w1.setCell ⟨w.heap.size + 1, 0, none⟩ (.slice px pn pc))
      (fun k l => rd = (k, l)) (fun W => callSt1 _ _ W) (fun W hW => ?_)).mono ?_
    · have hbW : Below w2.heap.size w2 W := by rw [hW]; exact ((Below.refl _ _).alloc (Nat.le_refl _) _).alloc (by simp) _
      have hsW : W.heap.size = w2.heap.size + 2 := by rw [hW]; simp
      have hK : W.heap[w2.heap.size]? = some (.cells #[.int .i64 0] 22 (0, 0)) := by rw [hW]; exact first_blk _ _ _
      have hI : W.heap[w2.heap.size + 1]? = some (.cells #[.int .i64 0] 3 (0, 0)) := by rw [hW]; exact second_blk _ _ _
      refine (start1_any src w.heap.size (w.heap.size + 1) W ((hT.below hb2).below hbW) hs (cell_of_block (by rw [hbW.block _ (by omega)]; exact hB0) rfl) (by rw [hbW.block _ (by omega)]; exact hB1)).mono ?_
      rintro e w' (⟨h0, he, w1, v, ks, h1, h2, h3, h4⟩ | ⟨h0, he, h1⟩)
      · obtain ⟨px, pc, rfl⟩ : ∃ x c, v = .slice x ks.length c := by
          rcases h3 with ⟨rfl, rfl⟩ | ⟨g, cap, cur, us, rfl, _⟩
          · exact ⟨none, 0, rfl⟩
          · exact ⟨_, _, rfl⟩
        have hne : ∀ k, w2.heap.size ≤ k → k < W.heap.size → w'.heap[k]? = W.heap[k]? := fun k hk hk' => by
          rw [h4, Below.heap_setCell _ _ _ _ (show k ≠ w.heap.size + 1 by omega), h1.block k hk']
        refine Or.inl ⟨he, by rw [hne _ (Nat.le_refl _) (by omega)]; exact hK, by rw [hne _ (by omega) (by omega)]; exact hI, by rw [← hrd]; exact h0, px, _, pc, ks, w1, h2, ?_, ?_, h4⟩
        · rw [← hW, ← hsW]; exact h1
        · rw [← hsW]; exact h3
      · refine Or.inr ⟨_, _, h0, he, h1, ?_⟩
        rw [← hrd]
    · rintro e w' (⟨he, w1, ⟨h0, px, pn, pc, ks, w0, h1, h2, h3, h4⟩, h5⟩ | ⟨k, l, hk, he, hb, hE⟩)
      · refine Or.inl ⟨he, h0, w2.heap.size + 2, px, pn, pc, ks, h1, ?_⟩
        have hb0 : Below w.heap.size w w0 := hb2.trans ((((Below.refl w2.heap.size w2).alloc (Nat.le_refl _) _).alloc (by simp) _).mono (by omega) |>.trans (h2.mono (by omega)))
        have hsz : w'.heap.size = w0.heap.size := by rw [h5, h4]; simp
        have hs0 := h2.size
        simp only [World.size_alloc] at hs0
        have hkk : ∀ k, k ≠ w.heap.size + 1 → k ≠ w2.heap.size → k ≠ w2.heap.size + 1 → w'.heap[k]? = w0.heap[k]? := fun k q1 q2 q3 => by
          rw [h5, Below.heap_setCell _ _ _ _ (show k ≠ w2.heap.size + 1 from q3), Below.heap_setCell _ _ _ _ (show k ≠ w2.heap.size from q2), h4, Below.heap_setCell _ _ _ _ (show k ≠ w.heap.size + 1 from q1)]
        have hB : w'.heap[w.heap.size + 1]? = some (.cells #[.slice px pn pc] 86 (0, 0)) := by
          rw [h5, Below.heap_setCell _ _ _ _ (show w.heap.size + 1 ≠ w2.heap.size + 1 by omega), Below.heap_setCell _ _ _ _ (show w.heap.size + 1 ≠ w2.heap.size by omega), h4]
          have : w0.heap[w.heap.size + 1]? = some (.cells #[.slice none 0 0] 86 (0, 0)) := by
            rw [h2.block _ (by omega), Below.heap_alloc _ _ _ (by simp; omega), Below.heap_alloc _ _ _ (by omega)]; exact hB1
          rw [heap_setCell_at this]; rfl
        refine ⟨?_, cell_of_block hB rfl, by omega, ?_⟩
        · rw [h5, h4]
          exact ((hb0.setCell (show w.heap.size ≤ w.heap.size + 1 by omega) _).setCell (show w.heap.size ≤ w2.heap.size by omega) _).setCell (show w.heap.size ≤ w2.heap.size + 1 by omega) _
        · exact h3.grow (fun b hb => hkk b (by have := hb.1; omega) (by have := hb.1; omega) (by have := hb.1; omega)) (fun b hb => ⟨hb.1, by rw [hsz]; exact hb.2⟩)
      · refine Or.inr ⟨k, l, hk, he, hb2.trans (hb.mono (by omega)), Or.inr ?_⟩
        rw [hrd, hE]
        exact ⟨hk, rfl⟩
  · obtain ⟨h0, lo, px, pn, pc, ks, h1, h2, h3, h4, h5⟩ := hA
    refine ⟨px, pn, pc, h3, h4, ?_⟩
    obtain ⟨r, hr3, hMM⟩ := hM ks h1 h0
    refine (hMM lo W _ h5 ?_).mono ?_
    · rcases ht with ht | ⟨g, o, c, e, hgl, hc⟩
      · exact Or.inl ht
      · exact Or.inr ⟨g, o, c, e, Nat.lt_of_lt_of_le hgl h2.size, fun i hi => ⟨(h2.cell (p := ⟨g, o + i, none⟩) hgl).trans (hc i hi).1, (hc i hi).2⟩⟩
    · rintro e w' ⟨v', he, hb, fp, G, hG, hTab, hSt⟩
      obtain ⟨f', t', o', rfl, ⟨x1, n1, c1, rfl⟩, ⟨x2, n2, c2, rfl⟩, ⟨x3, n3, c3, rfl⟩⟩ := hSt.form
      exact ⟨0, x1, x2, x3, n1, n2, n3, c1, c2, c3, _, he, h0, ks, fp, G, r, h1, h2.trans (hb.mono h2.size), hG, hTab, rfl, rfl, hSt, hr3⟩
  · obtain ⟨h0, ks, fp, G, r, h1, h2, hG, hTab, rfl, rfl, hSt, hst0⟩ := hS
    obtain ⟨W', hW'⟩ : ∃ W', W' = (W.alloc (.map #[] 0)).alloc (.cells #[.int .i64 ((0 : Nat) : Int), .slice x1 n1 c1, .slice x2 n2 c2, .slice x3 n3 c3, .int .i64 (Hs.fuelStop 0 r.2), .slice none 0 0, .map (some W.heap.size)] 114) := ⟨_, rfl⟩
    have hbW : Below W.heap.size W W' := by rw [hW']; exact ((Below.refl _ _).alloc (Nat.le_refl _) _).alloc (by simp) _
    have hsW : W'.heap.size = W.heap.size + 2 := by rw [hW']; simp
    have hM : W'.heap[W.heap.size]? = some (.map #[] 0) := by rw [hW']; exact first_blk _ _ _
    have hB : W'.heap[W.heap.size + 1]? = some (.cells #[.int .i64 ((0 : Nat) : Int), .slice x1 n1 c1, .slice x2 n2 c2, .slice x3 n3 c3, .int .i64 (Hs.fuelStop 0 r.2), .slice none 0 0, .map (some W.heap.size)] 114 (0, 0)) := by rw [hW']; exact second_blk _ _ _
    rw [← hW']
    have hStW := hSt.keep (fun k hk => hbW.block k (hG k hk)) fun _ h => h
    have hses : SesR fp G W' (W.heap.size + 1) W.heap.size (.map #[] 0) (statesOf ks tape) ⟨0, r.1, Hs.fuelStop 0 r.2⟩ 0 := by
      refine ⟨⟨_, _, _, .slice none 0 0, [], hB, hStW, World.ownsRow_nil _ _ _ _, rfl, fun i hi => by simp at hi, fun k hk e => ?_, fun e => ?_⟩, hst0, fun k hk => ?_, hM, by omega⟩
      · simp [Value.ownBlock] at e
      · simp [Value.ownBlock] at e
      · have := hG k hk; exact ⟨by omega, by omega, by omega⟩
    refine (skeep_any hses _ ⟨0, r.1, Hs.fuelStop 0 r.2⟩ hStW hst0 (fun _ => by simp) (by omega) (by simp)).mono ?_
    rintro e w' ⟨he, hf, hs'⟩
    have hTabW := hTab.keep (fun k hk => hbW.block k (hG k hk)) (fun _ h => h)
    refine ⟨he, ?_, Or.inl ⟨by rw [hrd]; exact h0, ks, fp, G, W.heap.size + 1, W.heap.size, h1, rfl, by have := h2.size; omega, h2.size, ?_, ⟨0, r.1, Hs.fuelStop 0 r.2⟩, by simpa using hs', rfl⟩⟩
    · have hbb : Below w.heap.size w W' := h2.trans (hbW.mono h2.size)
      have hrow : rowS (W.heap.size + 1) W' = none := by rw [rowS_of hB rfl]; rfl
      exact ⟨hf.os.trans hbb.os, hf.tape.trans hbb.tape, hf.output.trans hbb.output, Nat.le_trans hbb.size hf.size, fun k hk => by
        have := h2.size
        rw [hf.blk k (by omega) (by omega) (by rw [hrow]; simp), hbb.block k hk]⟩
    · refine hTabW.keep (fun k hk => ?_) fun _ h => h
      have hrow : rowS (W.heap.size + 1) W' = none := by rw [rowS_of hB rfl]; rfl
      have := hG k hk
      exact hf.blk k (by omega) (by omega) (by rw [hrow]; simp)
end Go.Proofs.YtblbkfdhjfppkaaGreatDoor

/- Plain: the smallest program, and its run. -/
namespace Go.Proofs.YtblbkfdhjfppkaaGreatDoor.Hs
def src0 : List UInt8 := [102, 117, 110, 99, 32, 109, 97, 105, 110, 40, 41, 32, 123, 32, 125]
def ks0 : List Ast := [node [102, 117, 110, 99] 1 [109, 97, 105, 110] [node [98, 108, 111, 99, 107] 1 [] []]]
theorem src0_parse : parsedL src0 = .ok ks0 := by kernel_rfl
theorem src0_read : readL src0 = (0, 0) := by kernel_rfl
theorem ks0_tab : tabC ks0 2001 = [⟨[109, 97, 105, 110], [.push (vnum 0), .give]⟩] := by kernel_rfl
theorem ks0_mst : mst0 ks0 2001 [] = ⟨[⟨⟨[109, 97, 105, 110], [.push (vnum 0), .give]⟩, 0, 0, [], [], []⟩], [], []⟩ := by kernel_rfl
theorem ks0_first (j : Nat) : toS (tabC ks0 2001) (j + 3) (mst0 ks0 2001 []) = some (⟨[], [], []⟩, 1) := by
  rw [ks0_tab, ks0_mst]; rfl
theorem ks0_start : stAt (tabC ks0 2001) (mst0 ks0 2001 []) 0 = some ⟨0, ⟨[], [], []⟩, 1⟩ := by
  obtain ⟨j, hj⟩ : ∃ j, big = j + 3 := ⟨big - 3, by have := big_le; omega⟩
  rw [stAt, hj, ks0_first]; rfl
theorem ks0_ok : ∀ f ∈ ks0, FunOk ks0 2001 f := by
  intro f hf
  simp only [ks0, List.mem_singleton] at hf
  subst hf
  exact ⟨⟨[], node [98, 108, 111, 99, 107] 1 [] [], rfl, trivial, by simp⟩, by decide⟩
theorem ks0_main : arL ks0 (fnIx ks0 [109, 97, 105, 110]) = some 0 := by kernel_rfl
end Go.Proofs.YtblbkfdhjfppkaaGreatDoor.Hs

/- Sums: the smallest program's machine is started. -/
namespace Go.Proofs.YtblbkfdhjfppkaaGreatDoor
open Go.RowKit
def fn0 : Hs.Fn := ⟨[109, 97, 105, 110], [.push (Hs.vnum 0), .give]⟩
def mA : Hs.Mst := ⟨[] ++ [⟨fn0, 0, 0, [], [], []⟩], [], []⟩
def mB : Hs.Mst := ⟨[] ++ [⟨fn0, 1, 0, [], [], [Hs.vnum 0]⟩], [], []⟩
def P0 (m : Hs.Mst) : Prop := m = mA ∨ m = mB ∨ m = ⟨[], [], []⟩
theorem P0.snoc {below : List Hs.Frm} {f0 : Hs.Frm} {tape : List Int} {out : List (List UInt8)} (h : P0 ⟨below ++ [f0], tape, out⟩) : below = [] ∧ tape = [] ∧ out = [] ∧ (f0 = ⟨fn0, 0, 0, [], [], []⟩ ∨ f0 = ⟨fn0, 1, 0, [], [], [Hs.vnum 0]⟩) := by
  rcases h with h | h | h
  · simp only [mA, Hs.Mst.mk.injEq] at h
    obtain ⟨h1, h2, h3⟩ := h
    obtain ⟨rfl, h4⟩ := List.append_inj' h1 rfl
    exact ⟨rfl, h2, h3, Or.inl (by simpa using h4)⟩
  · simp only [mB, Hs.Mst.mk.injEq] at h
    obtain ⟨h1, h2, h3⟩ := h
    obtain ⟨rfl, h4⟩ := List.append_inj' h1 rfl
    exact ⟨rfl, h2, h3, Or.inr (by simpa using h4)⟩
  · simp at h
theorem to0_any (fp : Nat → Value) (F : Nat → Prop) (base sb gf cap : Nat) (t0 tv outv s0 : Value) (fvs : List FVal) (W : World) (h : RunR fp F base W sb gf cap t0 tv outv s0 fvs (Hs.mst0 Hs.ks0 2001 [])) (hT : TabR fp F W (Hs.tabC Hs.ks0 2001)) (hb : base ≤ W.heap.size) :
    Calls Tryz.prog 175 #[.pointer (some ⟨sb, 0, none⟩)] W (DoM fp F base sb t0 s0 (ownList sb gf outv fvs) W (⟨[], [], []⟩, 1)) := by
  have hm : Hs.mst0 Hs.ks0 2001 [] = mA := Hs.ks0_mst
  refine toStatement_of P0 (fun m hP => ?_) (fun below f0 f i tape out hP hf hz => ?_) (fun F w gf cap tv outv fvs below f0 f tape out i v hP hf hR hT hb hI => ?_) h hT hb (Or.inl hm) (Hs.ks0_first 0)
  · refine ⟨by rcases hP with rfl | rfl | rfl <;> decide, fun below f0 e => ?_⟩
    obtain ⟨fr, t, o⟩ := m
    simp only at e
    subst e
    obtain ⟨_, _, _, rfl | rfl⟩ := hP.snoc <;> decide
  · obtain ⟨rfl, rfl, rfl, rfl | rfl⟩ := hP.snoc
    · cases hf; exact Or.inr (Or.inl rfl)
    · cases hf; exact Or.inr (Or.inr rfl)
  · obtain ⟨rfl, rfl, rfl, rfl | rfl⟩ := hP.snoc
    · cases hf
      obtain ⟨u, rfl, h1, h2⟩ := hI
      refine ⟨_, _, _, false, rfl, disp_push, Or.inr ⟨nb_push, rfl⟩, rfl, (pushDo_any fp F base w sb gf cap t0 tv outv s0 fvs [] _ [] [] u _ hR h1 h2 (by simp) (by simp) hb).mono ?_⟩
      rintro e w' ⟨rfl, h3⟩
      exact ⟨Or.inl ⟨rfl, rfl⟩, h3⟩
    · cases hf
      obtain rfl : v = _ := hI
      exact ⟨_, _, _, false, rfl, disp_give, Or.inr ⟨nb_give, rfl⟩, rfl, give_do _ hR (by simp) hb (by simp) ⟨[], _, rfl⟩ (by simp)⟩
theorem start0_any {lo : Nat} (W : World) (v : Value) (hv : FSl (Btw lo W.heap.size) W v Hs.ks0) (ht : TapeI W (.slice none 0 0) []) :
    Calls Tryz.prog 70 #[v, .slice none 0 0] W fun e w' => ∃ v', e = .returned v' ∧ Below W.heap.size W w' ∧ ∃ fp G, (∀ b, G b → b < w'.heap.size) ∧ TabR fp G w' (Hs.tabC Hs.ks0 2001) ∧ StR fp G w' v' ⟨0, ⟨[], [], []⟩, Hs.fuelStop 0 1⟩ := by
  refine mstart_of (d := 2001) (r := (⟨[], [], []⟩, 1)) v _ W hv (by decide) Hs.ks0_ok ?_ (by decide) Hs.ks0_main ht (by decide) (by decide) (fun _ _ _ _ hne => ?_) (fun fp F base sb gf cap tv outv s0 fvs W => to0_any fp F base sb gf cap _ tv outv s0 fvs W)
  · intro f hf k hk e
    simp only [Hs.ks0, List.mem_singleton] at hf
    subst hf
    obtain rfl : k = Hs.node [98, 108, 111, 99, 107] 1 [] [] := by simpa [Hs.node] using hk
    cases e with
    | zero => trivial
    | succ e => exact ⟨fun h => absurd h (by decide), by decide, fun k hk => by cases hk⟩
  · obtain ⟨f, hf, b, hb, hne⟩ := hne
    simp only [Hs.ks0, List.mem_singleton] at hf
    subst hf
    obtain rfl : b = Hs.node [98, 108, 111, 99, 107] 1 [] [] := by simpa [Hs.node] using hb
    exact absurd rfl hne
end Go.Proofs.YtblbkfdhjfppkaaGreatDoor
