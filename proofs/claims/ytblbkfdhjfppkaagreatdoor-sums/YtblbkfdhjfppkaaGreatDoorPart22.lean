/- Contracts of the program: an expression is read. -/
import Derived.Test.YtblbkfdhjfppkaaGreatDoorPart09
namespace Go.Proofs.YtblbkfdhjfppkaaGreatDoor
open Go.RowKit
def exprL (l : List UInt8) : Except (Nat × Nat) Hs.Ast :=
  match tokR l with
  | .error f => .error f
  | .ok ts =>
    match Hs.exprP ts (ts.length + 1) 0 with
    | .error n => .error (4, n)
    | .ok (a, q) => if (Hs.tk ts q).sort = 101 then .ok a else .error (4, (Hs.tk ts q).line)
set_option maxRecDepth 100000 in
set_option maxHeartbeats 1000000 in
theorem pend_any (C : Ctx) (w : World) (p : Nat) (h : PAt C w p) :
    Calls Tryz.prog 165 #[.pointer (some ⟨C.pb, 0, none⟩)] w fun e w' => Below w.heap.size w w' ∧ (((Hs.tk C.ts p).sort = 101 ∧ e = .returned (.tuple #[])) ∨ ((Hs.tk C.ts p).sort ≠ 101 ∧ e = faultE 4 (Hs.tk C.ts p).line)) := by
  have HN := mkHid (pnext_any C w p h)
  simp only [ptokV] at HN
  have hse := psort_end (h.tsk.tk p h.lt)
  have HSE := mkHid hse
  clear h hse
  generalize Hs.tk C.ts p = t at *
  generalize psort t.sort = ps at *
  generalize pval t = pv at *
  by_cases hs : t.sort = 101
  · obtain rfl : ps = 4 := HSE.out.2 hs
    have HS := mkHid hs
    clear hs HSE
    go_enter Tryz.func165, Tryz.ntmps165
    go_wp2_with fail
    refine HN.out.mono ?_
    rintro e w1 ⟨rfl, hb⟩
    have HB := mkHid hb
    clear hb HN
    go_wp2_with fail
    go_end0
    exact ⟨HB.out.trans (((Below.refl _ _).alloc (Nat.le_refl _) _).mono HB.out.size), Or.inl ⟨HS.out, rfl⟩⟩
  · have hps : ((ps : Int) != 4) = true := by simp; intro e; exact hs (HSE.out.1 (by omega))
    have HS := mkHid hs
    clear hs HSE
    go_enter Tryz.func165, Tryz.ntmps165
    go_wp2_with fail
    refine HN.out.mono ?_
    rintro e w1 ⟨rfl, hb⟩
    have HB := mkHid hb
    clear hb HN
    have HF := mkHid fun W => pfail_any 4 t.line W
    go_wp2_with fail
    refine (HF.out _).mono ?_
    rintro e w2 ⟨rfl, rfl⟩
    clear HF
    go_wp2_with fail
    exact ⟨rfl, HB.out.trans (((Below.refl _ _).alloc (Nat.le_refl _) _).mono HB.out.size), Or.inr ⟨HS.out, rfl⟩⟩
def rexprPost (l : List UInt8) (w : World) (e : Ending) (w' : World) : Prop :=
  Below w.heap.size w w' ∧ match exprL l with
    | .ok a => ∃ v, e = .returned v ∧ PN (Btw w.heap.size w'.heap.size) w' v a
    | .error f => f.1 ≠ 0 ∧ e = faultE f.1 f.2
set_option maxRecDepth 100000 in
set_option maxHeartbeats 2000000 in
theorem rexpr_any (src : ByteArray) (w : World) (hT : AllTabs w) (hs : src.size ≤ maxLen) :
    Calls Tryz.prog 113 #[.string src] w (rexprPost src.data.toList w) := by
  have HPO := mkHid (parserOf_any src w hT hs)
  obtain ⟨l, hl⟩ : ∃ l, l = src.data.toList := ⟨_, rfl⟩
  rw [← hl] at HPO ⊢
  clear hl hT
  go_enter Tryz.func113, Tryz.ntmps113
  go_wp2_with fail
  refine HPO.out.mono ?_
  rintro e w2 ⟨hb2, he2⟩
  cases htr : tokR l with
  | error f =>
    rw [htr] at he2
    obtain rfl : e = faultE f.1 f.2 := he2
    have HF : Hid (exprL l = .error f) := by show _ = _; unfold exprL; rw [htr]
    have HK := mkHid (tokR_kind htr)
    have HB2 := mkHid hb2
    clear hb2 HPO htr
    go_wp2_with fail
    exact ⟨rfl, HB2.out, by rw [HF.out]; exact ⟨HK.out, rfl⟩⟩
  | ok ts =>
    rw [htr] at he2
    obtain ⟨v, rfl, hown⟩ := he2
    have htk := (tokR_ok htr).1
    have hlen := (tokR_ok htr).2
    have hall := Hs.tokens_all htk
    have HR2 : Hid (exprL l = match Hs.exprP ts (ts.length + 1) 0 with
      | .error n => .error (4, n)
      | .ok (a, q) => if (Hs.tk ts q).sort = 101 then .ok a else .error (4, (Hs.tk ts q).line)) := by show _ = _; unfold exprL; rw [htr]
    obtain ⟨g, cap, cur, rfl, hg, hcap, hrow, hcur⟩ := row_at hown hall.1.some_
    have hgl := lt_of_block hrow
    have hat : PAt ⟨w2.heap.size, g, cap, ts⟩ (w2.alloc (.cells #[.slice (some ⟨g, 0, none⟩) ts.length cap, .int .i64 0] 144)) 0 :=
      ⟨heap_first _ _ rfl _, ⟨cur, heap_later _ _ hgl _ hrow, hcur⟩, by show g ≠ w2.heap.size; omega, hall.1.some_, by show ts.length ≤ 3000; omega, hcap, hall.1, Hs.tokens_k htk⟩
    have hfit := hall.1.ok.exprs 0 hall.1.some_
    have HP := mkHid (expr_any' ⟨w2.heap.size, g, cap, ts⟩ (ts.length + 1) (w2.alloc (.cells #[.slice (some ⟨g, 0, none⟩) ts.length cap, .int .i64 0] 144)) 0 hat (fun e => by
      have e : Hs.exprP ts (ts.length + 1) 0 = .error 0 := e
      exact hfit.ne e))
    have HB2 := mkHid hb2
    clear hown hb2 HPO htr htk hat hrow hcur hall hfit
    go_wp2_with fail
    refine HP.out.mono ?_
    rintro e w3 ⟨hf3, ho3⟩
    have hb3 : Below w2.heap.size w2 w3 := ⟨hf3.os.trans rfl, hf3.tape.trans rfl, hf3.output.trans rfl, Nat.le_trans (by simp) hf3.size, fun k hk => by rw [hf3.block k (by simp; omega) (by show k ≠ w2.heap.size; omega)]; exact Below.heap_alloc _ _ _ hk⟩
    have HB3 := mkHid (HB2.out.trans (hb3.mono HB2.out.size))
    simp only at ho3
    cases hpr : Hs.exprP ts (ts.length + 1) 0 with
    | error n =>
      rw [hpr] at ho3
      obtain rfl : e = faultE 4 n := ho3
      have HF : Hid (exprL l = .error (4, n)) := by show _ = _; rw [HR2.out, hpr]
      clear hf3 hb3 HP hpr HR2
      go_wp2_with fail
      exact ⟨rfl, HB3.out, by rw [HF.out]; exact ⟨by simp, rfl⟩⟩
    | ok aq =>
      obtain ⟨a, q⟩ := aq
      rw [hpr] at ho3
      obtain ⟨hp3, v3, rfl, hv3⟩ := ho3
      obtain ⟨t3, z3, rfl⟩ := hv3.form
      have HR3 : Hid (exprL l = if (Hs.tk ts q).sort = 101 then .ok a else .error (4, (Hs.tk ts q).line)) := by show _ = _; rw [HR2.out, hpr]
      have HEN := mkHid (pend_any _ w3 q hp3)
      have HV3 := mkHid hv3
      have hz2 := HB2.out.size
      clear hf3 hb3 HP hpr HR2 hp3 hv3
      go_wp2_with fail
      refine HEN.out.mono ?_
      rintro e w4 ⟨hb4, ⟨hs4, rfl⟩ | ⟨hs4, rfl⟩⟩
      · have HF : Hid (exprL l = .ok a) := by show _ = _; rw [HR3.out]; exact if_pos hs4
        have HV4 := mkHid (PN.grow (lo' := w.heap.size) (hi' := w4.heap.size) HV3.out (fun b _ hb => hb4.block b hb) (by simp; omega) hb4.size)
        have HB4 := mkHid (HB3.out.trans (hb4.mono HB3.out.size))
        clear hb4 hs4 HEN HR3 HV3
        go_wp2_with fail
        go_ret
        exact ⟨HB4.out, by rw [HF.out]; exact ⟨_, rfl, HV4.out⟩⟩
      · have HF : Hid (exprL l = .error (4, (Hs.tk ts q).line)) := by show _ = _; rw [HR3.out]; exact if_neg hs4
        have HB4 := mkHid (HB3.out.trans (hb4.mono HB3.out.size))
        clear hb4 hs4 HEN HR3 HV3
        go_wp2_with fail
        exact ⟨rfl, HB4.out, by rw [HF.out]; exact ⟨by simp, rfl⟩⟩
end Go.Proofs.YtblbkfdhjfppkaaGreatDoor

/- Contracts of the program: an expression is read, and its fault caught. -/
namespace Go.Proofs.YtblbkfdhjfppkaaGreatDoor
open Go.RowKit
def Rx1 (l : List UInt8) (p : Nat) (w : World) (w' : World) : Prop :=
  ∃ w1 v a, exprL l = .ok a ∧ Below w.heap.size w w1 ∧ PN (Btw w.heap.size w1.heap.size) w1 v a ∧ w' = w1.setCell ⟨p, 0, none⟩ v
set_option maxRecDepth 100000 in
set_option maxHeartbeats 1000000 in
theorem rx1_any (src : ByteArray) (b p : Nat) (w : World) (hT : AllTabs w) (hs : src.size ≤ maxLen) (hb : w.cell? ⟨b, 0, none⟩ = some (.string src)) (hp : w.heap[p]? = some (.cells #[.nilIface] 122 (0, 0))) :
    Calls Tryz.prog 112 #[.pointer (some ⟨b, 0, none⟩), .pointer (some ⟨p, 0, none⟩)] w fun e w' =>
      (e = .returned (.tuple #[]) ∧ Rx1 src.data.toList p w w') ∨
      ∃ f, exprL src.data.toList = .error f ∧ f.1 ≠ 0 ∧ e = faultE f.1 f.2 ∧ Below w.heap.size w w' := by
  have HR := mkHid (rexpr_any src w hT hs)
  have HP := mkHid hp
  have hl := lt_of_block hp
  clear hT hp
  go_enter Tryz.func112, Tryz.ntmps112
  go_wp2_with fail
  refine HR.out.mono ?_
  rintro e w1 ⟨hb1, he⟩
  cases hx : exprL src.data.toList with
  | error f =>
    rw [hx] at he
    obtain ⟨hk, rfl⟩ := he
    have HF := mkHid (And.intro hx (And.intro hk hb1))
    clear hx hk hb1 HR HP
    go_wp2_with fail
    exact ⟨rfl, Or.inr ⟨f, HF.out.1, HF.out.2.1, rfl, HF.out.2.2⟩⟩
  | ok a =>
    rw [hx] at he
    obtain ⟨v, rfl, hv⟩ := he
    obtain ⟨t, cs, rfl⟩ := hv.form
    have HP1 : w1.heap[p]? = some (.cells #[.nilIface] 122 (0, 0)) := by rw [hb1.block _ hl]; exact HP.out
    have c0 := cell_of_block HP1 (i := 0) rfl
    have f0 := frozen_of_block HP1 (i := 0)
    have l0 := lt_of_block HP1
    have HF : Hid (Rx1 src.data.toList p w (w1.setCell ⟨p, 0, none⟩ (.iface t (.agg cs)))) := ⟨w1, _, a, hx, hb1, hv, rfl⟩
    clear hx hv hb1 HP1 HR HP
    go_wp2_with fail
    go_end0
    exact Or.inl ⟨rfl, HF.out⟩
end Go.Proofs.YtblbkfdhjfppkaaGreatDoor
