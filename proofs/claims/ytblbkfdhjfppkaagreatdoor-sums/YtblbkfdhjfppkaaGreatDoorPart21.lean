/- Contracts of the program: an expression of Ints is worked out where the run has no frame. -/
import Derived.Test.YtblbkfdhjfppkaaGreatDoorPart19
import Derived.Test.YtblbkfdhjfppkaaGreatDoorPart20
import Derived.Test.YtblbkfdhjfppkaaGreatDoorPart14
import Derived.Test.YtblbkfdhjfppkaaGreatDoorPart16
import Derived.Test.YtblbkfdhjfppkaaGreatDoorPart17
namespace Go.Proofs.YtblbkfdhjfppkaaGreatDoor
open Go.RowKit
theorem Kept.belowE {own : List Nat} {w w' : World} {n : Nat} (h : Kept own w w') (hn : n ≤ w.heap.size) (ho : ∀ k ∈ own, n ≤ k) : Below n w w' :=
  ⟨h.os, h.tape, h.output, h.size, fun k hk => h.block k (by omega) fun hm => by have := ho k hm; omega⟩
section
variable {fp : Nat → Value} {F : Nat → Prop} {base : Nat} {w : World} {sb gf : Nat} {t0 s0 : Value} {m : Hs.Mst}
theorem DoneG.box {own : List Nat} {W : World} {ob : Obj} (x : Value) (h : DoneG fp F base sb gf t0 s0 own (w.alloc ob) m W) (hF : ∀ k, F k → k < w.heap.size) (ho : ∀ k ∈ own, k < w.heap.size) : DoneG fp F base sb gf t0 s0 own w m (W.setCell ⟨w.heap.size, 0, none⟩ x) := by
  obtain ⟨d1, G, cap', tv', outv', fvs', d2, d3, d4⟩ := h
  have hsz : w.heap.size < (w.alloc ob).heap.size := by simp
  have hK0 : Kept own w (w.alloc ob) := Kept.of_below ((Below.refl _ w).alloc (Nat.le_refl _) ob)
  have hno : w.heap.size ∉ ownList sb gf outv' fvs' := fun hm => by
    rcases d4 _ hm with h1 | h1
    · have := ho _ h1; omega
    · omega
  have hnG2 : ∀ b, G b → b ≠ w.heap.size := fun b hb e => by
    subst e
    rcases d2.new _ hb with h1 | h1
    · have := hF _ h1; omega
    · omega
  have hk : ∀ k, k ≠ w.heap.size → (W.setCell ⟨w.heap.size, 0, none⟩ x).heap[k]? = W.heap[k]? := fun k hk => Below.heap_setCell _ _ _ _ hk
  have hko : ∀ k ∈ ownList sb gf outv' fvs', (W.setCell ⟨w.heap.size, 0, none⟩ x).heap[k]? = W.heap[k]? := fun k hm => hk k fun e => hno (by rw [← e]; exact hm)
  have hFk : ∀ b, G b → (W.setCell ⟨w.heap.size, 0, none⟩ x).heap[b]? = W.heap[b]? := fun b hb => hk b (hnG2 b hb)
  refine ⟨⟨d1.os.trans hK0.os, d1.tape.trans hK0.tape, d1.output.trans hK0.output, Nat.le_trans hK0.size (by simpa using d1.size), fun k h1 h2 => ?_⟩, G, cap', tv', outv', fvs', d2.le (Nat.le_of_lt hsz), ⟨by rw [hko sb (by simp [ownList])]; exact d3.blk, ownsRow_keep d3.row fun k e => ?_, d3.frs.keep hFk (fun _ h => h) fun v hv k hkm => hko k ?_, d3.tape.keep hFk (fun _ h => h), ownsRow_keep d3.out fun k e => hko k (by simp [ownList, e]), d3.nodup, fun k hk => by simpa using d3.lt k hk, fun k hk => by simpa using d3.apart k hk⟩, fun k hm => (d4 k hm).imp_right (Nat.le_trans (Nat.le_of_lt hsz))⟩
  · rw [hk k (by omega), d1.block k (by omega) h2, hK0.block k h1 h2]
  · cases e; exact hko gf (by simp [ownList])
  · have hm : k ∈ ownsAll fvs' := List.mem_flatMap.2 ⟨v, hv, hkm⟩
    simp [ownList, hm]
end
theorem callToE (a : Value) (W : World) : (callFunc 170 #[a]).run Tryz.prog W = .ok (.enter 170 #[a]) W := by kernel_rfl
def fp0 : Nat → Value := fun _ => .pointer none
def EvB (w : World) (st : Nat) (val : Hs.Val) (s gf : Nat) (W : World) : Prop :=
  s = st ∧ Below w.heap.size w W ∧ w.heap.size ≤ gf ∧ ∃ (G : Nat → Prop) (cap : Nat) (tv outv : Value) (fvs : List FVal) (x : Hs.Frm), RunR fp0 G gf W (gf + 1) gf cap (.int .i64 0) tv outv (.int .i64 0) fvs ⟨[] ++ [x], [], []⟩ ∧ (st = 0 → x.ops = [val]) ∧ ∀ k ∈ ownList (gf + 1) gf outv fvs, gf ≤ k
theorem evStop_any {k st : Nat} {x : Hs.Frm} {val : Hs.Val} {code : List Hs.Ins} {G : Nat → Prop} {p : Option Addr} (w W : World) (hb : Below w.heap.size w W) (hf : FnR fp0 G W (.pointer p) ⟨[], code⟩) (hG : ∀ k, G k → k < W.heap.size) (hl : code.length ≤ 1000000) (hk : Hs.ArRun k ⟨⟨[], code⟩, 0, 0, [], [], []⟩ x st) (hx : st = 0 → x.ops = [val]) :
    Calls Tryz.prog 169 #[.func (.func 170) #[.pointer (some ⟨W.heap.size + 1, 0, none⟩)] #[]] ((W.alloc (.cells #[.pointer p, .int .i64 0, .int .i64 0, .pointer none, .slice none 0 0, .slice none 0 0] 195)).alloc (.cells #[.int .i64 0, .slice (some ⟨W.heap.size, 0, none⟩) 1 1, .slice none 0 0, .slice none 0 0, .int .i64 0] 108)) fun e w' => ∃ s : Nat, e = .returned (.int .i64 s) ∧ EvB w st val s W.heap.size w' := by
  generalize hW2 : ((W.alloc (.cells #[.pointer p, .int .i64 0, .int .i64 0, .pointer none, .slice none 0 0, .slice none 0 0] 195)).alloc (.cells #[.int .i64 0, .slice (some ⟨W.heap.size, 0, none⟩) 1 1, .slice none 0 0, .slice none 0 0, .int .i64 0] 108)) = W2
  have hb2 : Below W.heap.size W W2 := by rw [← hW2]; exact ((Below.refl _ _).alloc (Nat.le_refl _) _).alloc (by simp) _
  have hs2 : W2.heap.size = W.heap.size + 2 := by rw [← hW2]; simp
  have hg : W2.heap[W.heap.size]? = some (.cells #[.pointer p, .int .i64 0, .int .i64 0, .pointer none, .slice none 0 0, .slice none 0 0] 195 (0, 0)) := by rw [← hW2]; exact heap_later _ _ (by simp) _ (heap_first _ _ rfl _)
  have hsb : W2.heap[W.heap.size + 1]? = some (.cells #[.int .i64 0, .slice (some ⟨W.heap.size, 0, none⟩) 1 1, .slice none 0 0, .slice none 0 0, .int .i64 0] 108 (0, 0)) := by rw [← hW2]; exact heap_first _ _ (by simp) _
  have hown : ownList (W.heap.size + 1) W.heap.size (.slice none 0 0) [⟨.pointer p, .int .i64 0, .int .i64 0, .pointer none, .slice none 0 0, .slice none 0 0⟩] = [W.heap.size + 1, W.heap.size] := rfl
  have hnil : ValRow G W.heap.size W2 (.slice none 0 0) [] := ⟨⟨[], World.ownsRow_nil _ _ _ _, RowP.nil _ _⟩, fun a ha => by simp at ha⟩
  have hrun : RunR fp0 G W.heap.size W2 (W.heap.size + 1) W.heap.size 1 (.int .i64 0) (.slice none 0 0) (.slice none 0 0) (.int .i64 0) [⟨.pointer p, .int .i64 0, .int .i64 0, .pointer none, .slice none 0 0, .slice none 0 0⟩] ⟨[] ++ [⟨⟨[], code⟩, 0, 0, [], [], []⟩], [], []⟩ := by
    refine ⟨hsb, ⟨rfl, Or.inr ⟨W.heap.size, 1, _, rfl, Nat.le_refl _, hg, Nat.le_refl _, by unfold maxLen; omega, rfl, rfl⟩⟩, ⟨⟨hf.keep (fun k hk => hb2.block k (hG k hk)) fun _ h => h, rfl, rfl, rfl, hnil, hnil⟩, trivial⟩, Or.inl ⟨rfl, _, _, rfl⟩, World.ownsRow_nil _ _ _ _, ?_, ?_, fun k hk => ?_⟩
    · rw [hown]; simp
    · rw [hown]; simp; omega
    · rw [hown]; have := hG k hk; simp; omega
  have hal : Below W2.heap.size W2 (W2.alloc (.cells #[.int .i64 0] 61)) := (Below.refl _ _).alloc (Nat.le_refl _) _
  have h0 := hrun.grow hal (fun _ h => h) (fun _ h => Or.inl h)
  have hX := toEnd_ar h0 (by simp; omega) hl hk
  rw [hown] at hX
  have hfirst : (W2.alloc (.cells #[.int .i64 0] 61)).heap[W2.heap.size]? = some (.cells #[.int .i64 0] 61 (0, 0)) := heap_first _ _ rfl _
  refine (stopOf_any 170 ⟨W.heap.size + 1, 0, none⟩ W2 (fun k W' => k = st ∧ DoneG fp0 G W.heap.size (W.heap.size + 1) W.heap.size (.int .i64 0) (.int .i64 0) [W.heap.size + 1, W.heap.size] (W2.alloc (.cells #[.int .i64 0] 61)) ⟨[] ++ [x], [], []⟩ W') callToE (hX.mono fun e w' hd => ?_)).mono ?_
  · obtain ⟨he, hd⟩ := hd
    refine ⟨st, he, ⟨rfl, hd⟩, ?_⟩
    rw [hd.1.block _ (by simp) (by simp; omega)]; exact hfirst
  · rintro e w' ⟨k, w1, rfl, ⟨rfl, hd⟩, rfl⟩
    obtain ⟨d1, G', cap', tv', outv', fvs', d2, d3, d4⟩ := hd.box (.int .i64 k) (fun k hk => by have := hG k hk; omega) (fun k hk => by simp at hk; omega)
    have hbw : Below W.heap.size W _ := hb2.trans ((d1.belowE (Nat.le_of_lt (by omega)) (fun k hk => by simp at hk; omega)))
    exact ⟨k, rfl, rfl, hb.trans (hbw.mono hb.size), hb.size, G', cap', tv', outv', fvs', x, d3, hx, fun y hy => by
      rcases d4 y hy with h1 | h1
      · simp at h1; omega
      · omega⟩
end Go.Proofs.YtblbkfdhjfppkaaGreatDoor

/- Contracts of the program: an expression of Ints is worked out where the run has no frame: the whole. -/
namespace Go.Proofs.YtblbkfdhjfppkaaGreatDoor
open Go.RowKit
def EvF (w : World) (code : List Hs.Ins) (p : Value) (W : World) : Prop :=
  ∃ G : Nat → Prop, Below w.heap.size w W ∧ FnR fp0 G W p ⟨[], code⟩ ∧ ∀ k, G k → k < W.heap.size
theorem evFrame_any {d lo : Nat} {alone : Bool} {A : Hs.Ast} (w : World) (a q : Nat) (x1 x2 x3 : Option Addr) (c1 n2 c2 n3 c3 : Nat) (t : TypeId) (z : Value) (hn : PN (Btw lo w.heap.size) w (.iface t z) A) (hok : Hs.ExOk [] alone [] d A) (hli : LitOk d A) (hl : (Hs.exprC [] [] d A 0).length ≤ 1000000) (hne : Hs.exprC [] [] d A 0 ≠ []) :
    Calls Tryz.prog 168 #[.agg #[.int .i64 a, .slice x1 0 c1, .slice x2 n2 c2, .slice x3 n3 c3, .int .i64 q], .iface t z] w fun e w' => ∃ p, e = .returned (.agg #[.pointer p, .int .i64 0, .int .i64 0, .pointer none, .slice none 0 0, .slice none 0 0]) ∧ EvF w (Hs.exprC [] [] d A 0) (.pointer p) w' := by
  refine (frameFor0_walk w a q x1 x2 x3 c1 n2 c2 n3 c3 t z (fun v W => ∃ p, v = .agg #[.pointer p, .int .i64 0, .int .i64 0, .pointer none, .slice none 0 0, .slice none 0 0] ∧ EvF w (Hs.exprC [] [] d A 0) (.pointer p) W) (fun W hb hsz => ?_)).mono ?_
  · have hb1 : Below W.heap.size W (W.alloc (.cells #[.slice none 0 0, .slice none 0 0, .pointer none] 276)) := (Below.refl _ _).alloc (Nat.le_refl _) _
    have hblk : (W.alloc (.cells #[.slice none 0 0, .slice none 0 0, .pointer none] 276)).heap[W.heap.size]? = some (.cells #[.slice none 0 0, .slice none 0 0, .pointer none] 276 (0, 0)) := heap_first _ _ rfl _
    have hcp : CP fp0 (fun _ => 0) (([] : List Hs.Ast).map (·.text)) W.heap.size (fun _ => False) (W.alloc (.cells #[.slice none 0 0, .slice none 0 0, .pointer none] 276)) [] [] :=
      ⟨⟨_, _, _, hblk, ⟨[], World.ownsRow_nil _ _ _ _, rfl, fun i o h => by simp at h⟩, rfl, Or.inl ⟨rfl, rfl⟩⟩, fun k hk => hk.elim⟩
    have hpn : PN (Btw lo W.heap.size) (W.alloc (.cells #[.slice none 0 0, .slice none 0 0, .pointer none] 276)) (.iface t z) A := PN.grow hn (fun k _ hk => ((hb.trans (hb1.mono hb.size)).block k hk)) (Nat.le_refl _) hb.size
    refine (cexpr_any (fp := fp0) (fb := fun _ => 0) (fs := []) (cb := W.heap.size) (lo := lo) (F := fun _ => False) (alone := alone) (seen := []) (by simp) (by simp) (fun k hk => by simp at hk) d (.iface t z) A [] _ hcp hpn hok hli (by simpa using hl)).mono ?_
    rintro e w' ⟨rfl, hcp', hfb⟩
    obtain ⟨fv, cv, sp, k1, ⟨xs, k2, k3⟩, -, -⟩ := hcp'.blk
    have hlen : ([] ++ (Hs.exprC [] [] d A ([] : List (Option Hs.Ins)).length).map some).length = (Hs.exprC [] [] d A 0).length := by simp
    have hpos : 0 < (Hs.exprC [] [] d A 0).length := List.length_pos_iff.2 hne
    rw [hlen] at k2
    obtain ⟨g, cap, cur, rfl, r2, r3, r4, r5, r6, r7⟩ : ∃ g cap cur, cv = .slice (some ⟨g, 0, none⟩) (Hs.exprC [] [] d A 0).length cap ∧ W.heap.size + 1 ≤ g ∧ w'.heap[g]? = some (.cells cur 355 (0, 0)) ∧ (Hs.exprC [] [] d A 0).length ≤ cap ∧ True ∧ True ∧ cur.toList.take ((Hs.exprC [] [] d A 0).length * 1) = xs := by
      rcases k2.2 with ⟨_, r2⟩ | ⟨g, cap, cur, r1, r2, r3, r4, r5, r6, r7⟩
      · omega
      · exact ⟨g, cap, cur, r1, r2, r3, r4, trivial, trivial, r7⟩
    have hbw : Below W.heap.size W w' := hb1.trans hfb.bel
    refine ⟨rfl, _, _, _, cell_of_block k1 rfl, lt_of_block k1, hbw, fun W' hfr hfn => ⟨_, rfl, fun k => k = w'.heap.size ∨ k = g, ?_, ?_, fun k hk => ?_⟩⟩
    · have hs1 := hb.size
      have hs2 := hbw.size
      refine ⟨hfr.os.trans (hbw.os.trans hb.os), hfr.tape.trans (hbw.tape.trans hb.tape), hfr.output.trans (hbw.output.trans hb.output), by have := hfr.size; omega, fun k hk => ?_⟩
      rw [hfr.block k (by omega) (by omega), hbw.block k (by omega), hb.block k hk]
    · have hgl := lt_of_block r3
      refine ⟨w'.heap.size, g, cap, cur, rfl, Or.inl rfl, hfn, Or.inr rfl, by rw [hfr.block g hgl (by omega)]; exact r3, fun i hi => ?_⟩
      obtain ⟨u, u1, u2⟩ := k3.2 i (some (Hs.exprC [] [] d A 0)[i]) (by simp [List.getElem?_eq_getElem hi])
      rw [← r7] at u1
      refine ⟨u, ?_, InsR.keep (F := fun _ => False) u2 (fun b hb => hb.elim) (fun b hb => hb.elim)⟩
      rw [List.getElem?_take] at u1
      split at u1
      · simpa using u1
      · cases u1
    · have hl' : w'.heap.size < W'.heap.size := lt_of_block hfn
      have hgl := lt_of_block r3
      rcases hk with rfl | rfl <;> omega
  · rintro e w' ⟨v, rfl, p, rfl, h⟩
    exact ⟨p, rfl, h⟩
theorem meval_ar {k d lo st : Nat} {alone : Bool} {A : Hs.Ast} {x : Hs.Frm} {val : Hs.Val} (w : World) (a q : Nat) (x1 x2 x3 : Option Addr) (c1 n2 c2 n3 c3 : Nat) (t : TypeId) (z : Value) (hn : PN (Btw lo w.heap.size) w (.iface t z) A) (hok : Hs.ExOk [] alone [] d A) (hli : LitOk d A) (hl : (Hs.exprC [] [] d A 0).length ≤ 1000000) (hne : Hs.exprC [] [] d A 0 ≠ [])
    (hk : Hs.ArRun k ⟨⟨[], Hs.exprC [] [] d A 0⟩, 0, 0, [], [], []⟩ x st) (hx : st = 0 → x.ops = [val]) (hp : PowT w) :
    Calls Tryz.prog 117 #[.agg #[.int .i64 a, .slice x1 0 c1, .slice x2 n2 c2, .slice x3 n3 c3, .int .i64 q], .iface t z] w fun e w' => e = .returned (.tuple #[.string (bs (if st = 0 then Hs.written val else [])), .int .i64 st]) ∧ Below w.heap.size w w' := by
  have hb0 : Below w.heap.size w (w.alloc (.cells #[.int .i64 a, .slice x1 0 c1, .slice x2 n2 c2, .slice x3 n3 c3, .int .i64 q] 108)) := (Below.refl _ _).alloc (Nat.le_refl _) _
  refine (mEval_walk w a q x1 x2 x3 0 c1 n2 c2 n3 c3 t z (fun v W => v = .tuple #[.string (bs (if st = 0 then Hs.written val else [])), .int .i64 st] ∧ Below w.heap.size w W)
    (fun p W => EvF w (Hs.exprC [] [] d A 0) p W) (EvB w st val) ?_ (fun p W hq => ?_) (fun s gf W hs hB => ?_) (fun gf W hB => ?_)).mono ?_
  · refine (evFrame_any (alone := alone) _ a q x1 x2 x3 c1 n2 c2 n3 c3 t z (PN.grow hn (fun k _ hk => hb0.block k hk) (Nat.le_refl lo) hb0.size) hok hli hl hne).mono ?_
    rintro e w' ⟨p, he, G, h1, h2, h3⟩
    exact ⟨p, he, G, hb0.trans (h1.mono hb0.size), h2, h3⟩
  · obtain ⟨G, h1, h2, h3⟩ := hq
    exact evStop_any w W h1 h2 h3 hl hk hx
  · obtain ⟨rfl, h1, _⟩ := hB
    exact ⟨by rw [if_neg hs], h1⟩
  · obtain ⟨hst, h1, hgw, G, cap, tv, outv, fvs, x, hR, hv, ho⟩ := hB
    have hval := hv hst.symm
    have hc := hR.count
    have hblk := hR.blk
    rw [hc] at hblk
    refine (top_any (gf + 1) gf 0 cap W (cell_of_block hblk rfl) (by omega)).mono ?_
    rintro e w1 ⟨he, j, rfl⟩
    have hS := SameH.drewN W j
    have hR1 := hR.grow hS.below (fun _ h => h) (fun _ h => Or.inl h)
    have hgl : gf ≤ (W.drewN j).heap.size := by have := hR1.lt gf (by simp [ownList]); omega
    have hM : Mid fp0 gf (gf + 1) gf 0 (.int .i64 0) (.int .i64 0) (ownList (gf + 1) gf outv fvs) (W.drewN j) G ⟨[] ++ [x], [], []⟩ (W.drewN j) := ⟨Kept.refl _ _, hgl, cap, tv, outv, fvs, by simpa using hc, hR1, fun _ h => Or.inl h⟩
    refine ⟨by simpa using he, ?_⟩
    refine (hM.pop (vs := []) (a := val) hval (by rw [hval]; simp)).mono ?_
    rintro e w2 ⟨t2, z2, rfl, hpv, hc2, hM2⟩
    have hb2 : Below w.heap.size w w2 := (h1.trans (hS.below.mono h1.size)).trans ((hM2.1.belowE (n := w.heap.size) (Nat.le_trans h1.size hS.below.size) fun k hk => Nat.le_trans hgw (ho k hk)))
    refine ⟨t2, z2, rfl, (pwritten_any G 200 (.iface t2 z2) val w2 hpv (fun b hb => ?_) (hp.below hb2) hc2 (by omega)).mono ?_⟩
    · obtain ⟨_, _, _, _, _, _, _, hR2, _⟩ := hM2
      exact (hR2.apart b hb).1
    rintro e w3 ⟨rfl, hb3⟩
    exact ⟨_, rfl, by rw [← hst, if_pos rfl]; rfl, hb2.trans (hb3.mono hb2.size)⟩
  · rintro e w' ⟨v, rfl, rfl, h⟩
    exact ⟨rfl, h⟩
end Go.Proofs.YtblbkfdhjfppkaaGreatDoor
