/- Contracts of the program: a stop is caught. -/
import Derived.Test.YtblbkfdhjfppkaaGreatDoorPart15
import Derived.Defers
import Derived.Recover
import Derived.Laws.OwnMore
import Derived.Test.YtblbkfdhjfppkaaGreatDoorPart07
namespace Go.Proofs.YtblbkfdhjfppkaaGreatDoor
open Go.RowKit
theorem isStop (v : Value) (w : World) : (Instr.typeAssert (.iface 353 v) 20 353 true).run Tryz.prog w = .ok (.tuple #[v, .bool true]) w := by kernel_rfl
theorem makeFvM (fn : Fn) (first cap : Array Value) (w : World) : (Instr.makeFunc fn first cap).run Tryz.prog w = .ok (.func fn first cap) w := rfl
set_option maxRecDepth 100000 in
set_option maxHeartbeats 1000000 in
theorem catch_stop (p k : Nat) (older : List PanicEntry) (w : World) (hp : w.heap[p]? = some (.cells #[.int .i64 0] 61 (0, 0))) :
    CallsD Tryz.prog 234 #[.pointer (some ⟨p, 0, none⟩)] (.panicking ({ v := .iface 353 (.int .i64 k), recovered := false } :: older)) w fun e u' w' =>
      e = .returned (.tuple #[]) ∧ u' = .panicking ({ v := .iface 353 (.int .i64 k), recovered := true } :: older) ∧ w' = w.setCell ⟨p, 0, none⟩ (.int .i64 k) := by
  have c0 : w.cell? ⟨p, 0, none⟩ = some (.int .i64 0) := cell_of_block hp rfl
  have f0 := frozen_of_block (i := 0) hp
  have l0 := lt_of_block hp
  have hft := isStop
  refine callsD_of_wpS Tryz.func234 rfl fun c₀ cs hu => ?_
  apply wpS_seq
  apply wpS_region
  simp [wpOpsS, go_sem, recoverD, hu, Tryz.ntmps234, Exit.thenS]
  refine wpS_of_wp ?_
  clear hp
  go_wp2_with fail
  exact ⟨rfl, _, rfl, .tuple #[], by simp [results, Tryz.results234], rfl, rfl, rfl⟩
set_option maxRecDepth 100000 in
set_option maxHeartbeats 1000000 in
theorem catch_none (p : Addr) (w : World) :
    CallsD Tryz.prog 234 #[.pointer (some p)] .returning w fun e u' w' => e = .returned (.tuple #[]) ∧ u' = .returning ∧ w' = w := by
  refine callsD_of_wpS Tryz.func234 rfl fun c₀ cs hu => ?_
  apply wpS_seq
  apply wpS_region
  simp [wpOpsS, go_sem, recoverD, hu, Tryz.ntmps234, Exit.thenS]
  refine wpS_of_wp ?_
  go_wp2_with fail
  exact ⟨rfl, c₀.mode, rfl, .tuple #[], by simp [results, Tryz.results234], rfl, hu, rfl⟩
set_option maxRecDepth 100000 in
set_option maxHeartbeats 1000000 in
theorem stopOf_any (fno : Nat) (p : Addr) (w : World) (R : Nat → World → Prop) (hent : ∀ a W, (callFunc fno #[a]).run Tryz.prog W = .ok (.enter fno #[a]) W)
    (hC : Calls Tryz.prog fno #[.pointer (some p)] (w.alloc (.cells #[.int .i64 0] 61)) fun e w' => ∃ k, EndE k e ∧ R k w' ∧ w'.heap[w.heap.size]? = some (.cells #[.int .i64 0] 61 (0, 0))) :
    Calls Tryz.prog 169 #[.func (.func fno) #[.pointer (some p)] #[]] w fun e w' => ∃ (k : Nat) (w1 : World), e = .returned (.int .i64 k) ∧ R k w1 ∧ w' = w1.setCell ⟨w.heap.size, 0, none⟩ (.int .i64 k) := by
  have hmf := makeFvM
  have hen := hent (.pointer (some p)) (w.alloc (.cells #[.int .i64 0] 61))
  have HC := mkHid hC
  clear hC hent
  go_enter_defers Tryz.func169, Tryz.ntmps169
  go_wp2_with fail
  refine HC.out.mono ?_
  rintro e w1 ⟨k, hr, hR, hp⟩
  have HR := mkHid hR
  have c0 : w1.cell? ⟨w.heap.size, 0, none⟩ = some (.int .i64 0) := cell_of_block hp rfl
  have f0 := frozen_of_block (i := 0) hp
  have l0 := lt_of_block hp
  clear hR HC
  rcases hr with ⟨rfl, rfl⟩ | ⟨hr, rfl⟩
  · go_wp2_with fail
    refine leaves_cons (f := 234) (args := #[.pointer (some ⟨w.heap.size, 0, none⟩)]) (by simp) (by simp [go_sem]) ?_
    refine (catch_none ⟨w.heap.size, 0, none⟩ _).mono ?_
    rintro e u' w'' ⟨rfl, rfl, rfl⟩
    simp [Leaves, settle, results, Tryz.results169, go_sem, c0]
    exact ⟨0, rfl, w1, HR.out, rfl⟩
  · go_wp2_with fail
    refine leaves_cons (f := 234) (args := #[.pointer (some ⟨w.heap.size, 0, none⟩)]) (by simp) (by simp [go_sem]) ?_
    refine (catch_stop w.heap.size k [] _ hp).mono ?_
    rintro e u' w2 ⟨rfl, rfl, rfl⟩
    simp [Leaves, settle, results, Tryz.results169, go_sem, c0]
    exact ⟨k, rfl, w1, HR.out, rfl⟩
end Go.Proofs.YtblbkfdhjfppkaaGreatDoor

/- Contracts of the program: frames, lines, numbers in memory of their own. -/
namespace Go.Proofs.YtblbkfdhjfppkaaGreatDoor
open Go.RowKit
theorem infoNumP : (Tryz.prog.info? 3).map (fun i => (i.zero, i.size, i.bytes)) = some (some (.int .i64 0), 1, 8) := by kernel_rfl
set_option maxRecDepth 100000 in
set_option maxHeartbeats 1000000 in
theorem cloneStrs_any (g off n c : Nat) (news : List Value) (w : World) (hl : news.length = n * 1) (hn : n ≤ 1000000) (hc : ∀ j u, news[j]? = some u → w.cell? ⟨g, off + j, none⟩ = some u) (h1 : ∀ u ∈ news, u.oneCell' = true) :
    Calls Tryz.prog 109 #[.slice (some ⟨g, off, none⟩) n c] w fun e w' => ∃ v', e = .returned v' ∧ w'.ownsRow w.heap.size 9 1 v' n news ∧ Below w.heap.size w w' := by
  obtain ⟨i0, hi, hz0, hz1, hz2⟩ := info_parts infoStrP
  have HC := mkHid hc
  clear hc
  have q22 : ∀ (w : World) (a : Option Addr) (n c n' c' : Nat), (binOp .eql 60 (.slice a n c) (.slice none n' c')).run Tryz.prog w = .ok (.bool a.isNone) w := fun w a n c n' c' => Lib.run_eql_slice_nil w _ _ a n c n' c' Tryz.underlying60
  go_enter Tryz.func109, Tryz.ntmps109
  go_wp2_with (at_builtin; refine wpList_append_own _ (by rfl) _ _ 60 (by rfl) w.heap.size 9 i0 _ 1 16 Tryz.underlying60 hi hz0 hz1 hz2 rfl (by decide) (.slice (some ⟨w.heap.size, 0, none⟩) 0 0) 0 [] (by rfl) (World.ownsRow_made w #[] 0 (Nat.le_refl _) (Nat.zero_le _) (by simp)) ⟨g, off, none⟩ n c news (by rfl) hl (fun j u hj => by rw [Addr.add_lit]; exact cell_alloc_some _ (HC.out j u hj)) h1 (by unfold maxLen; omega) (by omega) (by simp) ?_)
  intro v' w1 hown hgrow _
  have HO := mkHid hown
  have HG := mkHid hgrow
  obtain ⟨x', c', rfl⟩ := own_slice hown
  clear hown hgrow
  go_wp2_with fail
  go_ret
  refine ⟨_, rfl, by simpa using HO.out, ?_⟩
  exact ((Below.refl _ w).alloc (Nat.le_refl _) _).grown HG.out (by simp) (by intro k hk; simp [Value.ownBlock] at hk; omega)
set_option maxRecDepth 100000 in
set_option maxHeartbeats 1000000 in
theorem cloneInts_any (g off n c : Nat) (news : List Value) (w : World) (hl : news.length = n * 1) (hn : n ≤ 1000000) (hc : ∀ j u, news[j]? = some u → w.cell? ⟨g, off + j, none⟩ = some u) (h1 : ∀ u ∈ news, u.oneCell' = true) :
    Calls Tryz.prog 124 #[.slice (some ⟨g, off, none⟩) n c] w fun e w' => ∃ v', e = .returned v' ∧ w'.ownsRow w.heap.size 3 1 v' n news ∧ Below w.heap.size w w' := by
  obtain ⟨i0, hi, hz0, hz1, hz2⟩ := info_parts infoNumP
  have HC := mkHid hc
  clear hc
  have q22 : ∀ (w : World) (a : Option Addr) (n c n' c' : Nat), (binOp .eql 31 (.slice a n c) (.slice none n' c')).run Tryz.prog w = .ok (.bool a.isNone) w := fun w a n c n' c' => Lib.run_eql_slice_nil w _ _ a n c n' c' Tryz.underlying31
  go_enter Tryz.func124, Tryz.ntmps124
  go_wp2_with (at_builtin; refine wpList_append_own _ (by rfl) _ _ 31 (by rfl) w.heap.size 3 i0 _ 1 8 Tryz.underlying31 hi hz0 hz1 hz2 rfl (by decide) (.slice (some ⟨w.heap.size, 0, none⟩) 0 0) 0 [] (by rfl) (World.ownsRow_made w #[] 0 (Nat.le_refl _) (Nat.zero_le _) (by simp)) ⟨g, off, none⟩ n c news (by rfl) hl (fun j u hj => by rw [Addr.add_lit]; exact cell_alloc_some _ (HC.out j u hj)) h1 (by unfold maxLen; omega) (by omega) (by simp) ?_)
  intro v' w1 hown hgrow _
  have HO := mkHid hown
  have HG := mkHid hgrow
  obtain ⟨x', c', rfl⟩ := own_slice hown
  clear hown hgrow
  go_wp2_with fail
  go_ret
  refine ⟨_, rfl, by simpa using HO.out, ?_⟩
  exact ((Below.refl _ w).alloc (Nat.le_refl _) _).grown HG.out (by simp) (by intro k hk; simp [Value.ownBlock] at hk; omega)
set_option maxRecDepth 100000 in
theorem cloneInts_nil (w : World) :
    Calls Tryz.prog 124 #[.slice none 0 0] w fun e w' => e = .returned (.slice none 0 0) ∧ w' = w := by
  have q22 : ∀ (w : World) (a : Option Addr) (n c n' c' : Nat), (binOp .eql 31 (.slice a n c) (.slice none n' c')).run Tryz.prog w = .ok (.bool a.isNone) w := fun w a n c n' c' => Lib.run_eql_slice_nil w _ _ a n c n' c' Tryz.underlying31
  go_enter Tryz.func124, Tryz.ntmps124
  go_wp2_with fail
  go_ret
  exact ⟨rfl, rfl⟩
end Go.Proofs.YtblbkfdhjfppkaaGreatDoor

/- Contracts of the program: to the next moment. -/
namespace Go.Proofs.YtblbkfdhjfppkaaGreatDoor
open Go.RowKit
set_option maxRecDepth 100000 in
set_option maxHeartbeats 1000000 in
theorem goOn_walk (w : World) (sb time : Nat) (R : Nat → World → Prop) (P : World → Prop) (ht : time ≤ 1000000)
    (HS : Hid (Calls Tryz.prog 169 #[.func (.func 175) #[.pointer (some ⟨sb, 0, none⟩)] #[]] w fun e w' => ∃ k : Nat, k ≤ 1000 ∧ e = .returned (.int .i64 k) ∧ R k w'))
    (HR : Hid (∀ k W, R k W → (∃ u, W.cell? ⟨sb, 4, none⟩ = some u) ∧ W.frozen? ⟨sb, 4, none⟩ = false ∧ sb < W.heap.size ∧ W.cell? ⟨sb, 0, none⟩ = some (.int .i64 time)))
    (HN : Hid (∀ k W, R k W → ¬ (k = 0 ∧ time = 500) → P (W.setCell ⟨sb, 4, none⟩ (.int .i64 k))))
    (HE : Hid (∀ W, R 0 W → time = 500 → P ((W.setCell ⟨sb, 4, none⟩ (.int .i64 0)).setCell ⟨sb, 4, none⟩ (.int .i64 9)))) :
    Calls Tryz.prog 125 #[.pointer (some ⟨sb, 0, none⟩)] w fun e w' => e = .returned (.tuple #[]) ∧ P w' := by
  have hmf := makeFvM
  go_enter Tryz.func125, Tryz.ntmps125
  go_wp2_with fail
  refine HS.out.mono ?_
  rintro e w1 ⟨k, hk, rfl, h1⟩
  obtain ⟨⟨u, c1⟩, f1, l1, c0⟩ := HR.out _ _ h1
  by_cases h0 : k = 0
  · subst h0
    by_cases h5 : time = 500
    · subst h5
      have HP := mkHid (HE.out _ h1 rfl)
      clear h1
      go_wp2_with fail
      go_end0
      exact ⟨rfl, HP.out⟩
    · have HP := mkHid (HN.out _ _ h1 (fun h => h5 h.2))
      have e1 : ¬ (time : Int) = 500 := by omega
      clear h1
      go_wp2_with fail
      go_end0
      exact ⟨rfl, HP.out⟩
  · have HP := mkHid (HN.out _ _ h1 (fun h => h0 h.1))
    have e1 : ¬ (k : Int) = 0 := by omega
    clear h1
    go_wp2_with fail
    go_end0
    exact ⟨rfl, HP.out⟩
section
variable {fp : Nat → Value} {F : Nat → Prop} {base : Nat} {w : World} {sb gf cap : Nat} {t0 tv outv s0 : Value} {fvs : List FVal}
theorem RunR.setStop {m : Hs.Mst} (h : RunR fp F base w sb gf cap t0 tv outv s0 fvs m) (x : Value) : RunR fp F base (w.setCell ⟨sb, 4, none⟩ x) sb gf cap t0 tv outv x fvs m ∧ Kept (ownList sb gf outv fvs) w (w.setCell ⟨sb, 4, none⟩ x) := by
  obtain ⟨n1, n2⟩ := List.nodup_cons.1 h.nodup
  have hk : ∀ k, k ≠ sb → (w.setCell ⟨sb, 4, none⟩ x).heap[k]? = w.heap[k]? := fun k hk => Below.heap_setCell _ _ _ _ hk
  have hFk : ∀ b, F b → (w.setCell ⟨sb, 4, none⟩ x).heap[b]? = w.heap[b]? := fun b hb => hk b fun e => (h.apart b hb).2 (by simp [ownList, e])
  refine ⟨⟨heap_setCell_at h.blk, ownsRow_keep h.row fun k e => hk k ?_, h.frs.keep hFk (fun _ h => h) fun v hv k hkm => hk k ?_, h.tape.keep hFk (fun _ h => h), ownsRow_keep h.out fun k e => hk k ?_, h.nodup, fun k hk => by simpa using h.lt k hk, fun k hk => by simpa using h.apart k hk⟩, ⟨rfl, rfl, rfl, by simp, fun k _ hn => hk k fun e => hn (by simp [ownList, e])⟩⟩
  · cases e
    exact fun e => n1 (by simp [← e])
  · have hm : k ∈ ownsAll fvs := List.mem_flatMap.2 ⟨v, hv, hkm⟩
    exact fun e => n1 (by simp [← e, hm])
  · exact fun e2 => n1 (by simp [← e2, e])
theorem callToS (a : Value) (W : World) : (callFunc 175 #[a]).run Tryz.prog W = .ok (.enter 175 #[a]) W := by kernel_rfl
end
end Go.Proofs.YtblbkfdhjfppkaaGreatDoor

/- How a state that is kept lies in memory. -/
namespace Go.Proofs.YtblbkfdhjfppkaaGreatDoor
open Go.RowKit
structure FrS (fp : Nat → Value) (F : Nat → Prop) (w : World) (v : FVal) (f : Hs.Frm) : Prop where
  fn : FnR fp F w v.fp f.fn
  nx : v.nx = .int .i64 f.next
  ln : v.ln = .int .i64 f.line
  sp : SeenR F w v.sp f.seen
  vars : PVs F w v.vv f.vars
  varsB : ∀ a ∈ f.vars, Hs.cells a ≤ 200
  ops : PVs F w v.ov f.ops
  opsB : ∀ a ∈ f.ops, Hs.cells a ≤ 200
theorem FrS.keep {fp : Nat → Value} {F G : Nat → Prop} {w w' : World} {v : FVal} {f : Hs.Frm} (h : FrS fp F w v f) (hk : ∀ b, F b → w'.heap[b]? = w.heap[b]?) (hF : ∀ b, F b → G b) : FrS fp G w' v f :=
  ⟨h.fn.keep hk hF, h.nx, h.ln, SeenR.keep hk hF h.sp, (h.vars.keep hk).mono hF, h.varsB, (h.ops.keep hk).mono hF, h.opsB⟩
def FrsS (fp : Nat → Value) (F : Nat → Prop) (w : World) : List FVal → List Hs.Frm → Prop
  | [], [] => True
  | v :: vs, f :: fs => FrS fp F w v f ∧ FrsS fp F w vs fs
  | _, _ => False
theorem FrsS.keep {fp : Nat → Value} {F G : Nat → Prop} {w w' : World} (hk : ∀ b, F b → w'.heap[b]? = w.heap[b]?) (hF : ∀ b, F b → G b) : ∀ {vs : List FVal} {fs : List Hs.Frm}, FrsS fp F w vs fs → FrsS fp G w' vs fs
  | [], [], _ => trivial
  | _ :: _, _ :: _, ⟨h1, h2⟩ => ⟨h1.keep hk hF, FrsS.keep hk hF h2⟩
  | [], _ :: _, h => h.elim
  | _ :: _, [], h => h.elim
def FrRow (F : Nat → Prop) (w : World) (v : Value) (fvs : List FVal) : Prop :=
  (fvs = [] ∧ ∃ x c, v = .slice x 0 c) ∨ ∃ g c cur, v = .slice (some ⟨g, 0, none⟩) fvs.length c ∧ F g ∧ w.heap[g]? = some (.cells cur 195 (0, 0)) ∧ fvs.length ≤ c ∧ cur.toList.take (fvs.length * 6) = flat6 fvs
theorem FrRow.keep {F G : Nat → Prop} {w w' : World} {v : Value} {fvs : List FVal} (h : FrRow F w v fvs) (hk : ∀ b, F b → w'.heap[b]? = w.heap[b]?) (hF : ∀ b, F b → G b) : FrRow G w' v fvs := by
  rcases h with h | ⟨g, c, cur, h1, h2, h3, h4⟩
  · exact Or.inl h
  · exact Or.inr ⟨g, c, cur, h1, hF g h2, by rw [hk g h2]; exact h3, h4⟩
def StrsR (F : Nat → Prop) (w : World) (v : Value) (l : List (List UInt8)) : Prop :=
  (l = [] ∧ v = .slice none 0 0) ∨ ∃ g c cur, v = .slice (some ⟨g, 0, none⟩) l.length c ∧ F g ∧ w.heap[g]? = some (.cells cur 9 (0, 0)) ∧ l.length ≤ c ∧ cur.toList.take l.length = strsM l
theorem StrsR.keep {F G : Nat → Prop} {w w' : World} {v : Value} {l : List (List UInt8)} (h : StrsR F w v l) (hk : ∀ b, F b → w'.heap[b]? = w.heap[b]?) (hF : ∀ b, F b → G b) : StrsR G w' v l := by
  rcases h with h | ⟨g, c, cur, h1, h2, h3, h4⟩
  · exact Or.inl h
  · exact Or.inr ⟨g, c, cur, h1, hF g h2, by rw [hk g h2]; exact h3, h4⟩
def StR (fp : Nat → Value) (F : Nat → Prop) (w : World) (v : Value) (s : Hs.Sta) : Prop :=
  ∃ fv tv outv fvs, v = .agg #[.int .i64 s.time, fv, tv, outv, .int .i64 s.stop] ∧ FrRow F w fv fvs ∧ FrsS fp F w fvs s.m.frames ∧ TapeR F w tv s.m.tape ∧ StrsR F w outv s.m.out
theorem StR.keep {fp : Nat → Value} {F G : Nat → Prop} {w w' : World} {v : Value} {s : Hs.Sta} (h : StR fp F w v s) (hk : ∀ b, F b → w'.heap[b]? = w.heap[b]?) (hF : ∀ b, F b → G b) : StR fp G w' v s := by
  obtain ⟨fv, tv, outv, fvs, h1, h2, h3, h4, h5⟩ := h
  exact ⟨fv, tv, outv, fvs, h1, h2.keep hk hF, h3.keep hk hF, h4.keep hk hF, h5.keep hk hF⟩
theorem FrsR.kept {fp : Nat → Value} {F G : Nat → Prop} {base : Nat} {w : World} (hF : ∀ k, F k → G k) : ∀ {vs : List FVal} {fs : List Hs.Frm}, FrsR fp F base w vs fs → (∀ v ∈ vs, ∀ k ∈ v.owns, G k) → FrsS fp G w vs fs
  | [], [], _, _ => trivial
  | v :: _, _ :: _, ⟨h1, h2⟩, ho => by
    have hv := ho v (List.mem_cons_self ..)
    obtain ⟨⟨xs, a1, a2⟩, a3⟩ := h1.vars
    obtain ⟨⟨ys, b1, b2⟩, b3⟩ := h1.ops
    exact ⟨⟨h1.fn.keep (fun _ _ => rfl) hF, h1.nx, h1.ln, SeenR.keep (fun _ _ => rfl) hF h1.sp, PVs.ofRow a1 (a2.mono hF) fun k e => hv k (by simp [FVal.owns, e]), a3, PVs.ofRow b1 (b2.mono hF) fun k e => hv k (by simp [FVal.owns, e]), b3⟩, FrsR.kept hF h2 fun u hu => ho u (List.mem_cons_of_mem _ hu)⟩
  | [], _ :: _, h, _ => h.elim
  | _ :: _, [], h, _ => h.elim
theorem RunR.kept {fp : Nat → Value} {F G : Nat → Prop} {base : Nat} {w : World} {sb gf cap time stop : Nat} {tv outv : Value} {fvs : List FVal} {m : Hs.Mst} (h : RunR fp F base w sb gf cap (.int .i64 time) tv outv (.int .i64 stop) fvs m) (hF : ∀ k, F k → G k) (hG : ∀ k ∈ ownList sb gf outv fvs, k ≠ sb → G k) :
    StR fp G w (.agg #[.int .i64 time, .slice (some ⟨gf, 0, none⟩) fvs.length cap, tv, outv, .int .i64 stop]) ⟨time, m, stop⟩ := by
  obtain ⟨n1, n2⟩ := List.nodup_cons.1 h.nodup
  have hne : ∀ k, k ∈ gf :: (outv.ownBlock.toList ++ ownsAll fvs) → k ≠ sb := fun k hk e => n1 (by rw [← e]; exact hk)
  have hg : ∀ k, k ∈ gf :: (outv.ownBlock.toList ++ ownsAll fvs) → G k := fun k hk => hG k (List.mem_cons_of_mem _ hk) (hne k hk)
  refine ⟨_, tv, outv, fvs, rfl, ?_, FrsR.kept hF h.frs fun v hv k hk => hg k ?_, h.tape.keep (fun _ _ => rfl) hF, ?_⟩
  · rcases h.row.2 with ⟨r1, _⟩ | ⟨g', cap', cur, r1, r2, r3, r4, r5, r6, r7⟩
    · cases r1
    · cases r1
      exact Or.inr ⟨gf, cap, cur, rfl, hg gf (by simp), r3, r4, r7⟩
  · have hm : k ∈ ownsAll fvs := List.mem_flatMap.2 ⟨v, hv, hk⟩
    simp [hm]
  · rcases h.out.2 with ⟨r1, r2⟩ | ⟨g', cap', cur, r1, r2, r3, r4, r5, r6, r7⟩
    · exact Or.inl ⟨List.eq_nil_of_length_eq_zero r2, r1⟩
    · exact Or.inr ⟨g', cap', cur, r1, hg g' (by rw [r1]; simp [Value.ownBlock]), r3, r4, by simpa using r7⟩
end Go.Proofs.YtblbkfdhjfppkaaGreatDoor

/- Contracts of the program: a state is copied: the walk. -/
namespace Go.Proofs.YtblbkfdhjfppkaaGreatDoor
open Go.RowKit
theorem Kept.setCell {own : List Nat} {w W : World} (h : Kept own w W) (p : Addr) (x : Value) (hp : p.block ∈ own) : Kept own w (W.setCell p x) :=
  ⟨h.os, h.tape, h.output, by simpa using h.size, fun k hk hn => by rw [Below.heap_setCell _ _ _ _ fun e => hn (by rw [e]; exact hp), h.block k hk hn]⟩
end Go.Proofs.YtblbkfdhjfppkaaGreatDoor

/- Contracts of the program: the next state: what it comes to. -/
namespace Go.Proofs.YtblbkfdhjfppkaaGreatDoor
open Go.RowKit
theorem own_slice' {w : World} {base n k : Nat} {t : TypeId} {v : Value} {ys : List Value} (h : w.ownsRow base t k v n ys) : ∃ x l c, v = .slice x l c := by
  obtain ⟨x, c, e⟩ := own_slice h
  exact ⟨x, n, c, e⟩
theorem StR.form {fp : Nat → Value} {F : Nat → Prop} {w : World} {v : Value} {s : Hs.Sta} (h : StR fp F w v s) : ∃ fv tv xo, v = .agg #[.int .i64 s.time, fv, tv, xo, .int .i64 s.stop] ∧ (∃ x l c, fv = .slice x l c) ∧ (∃ x l c, tv = .slice x l c) ∧ (∃ x l c, xo = .slice x l c) := by
  obtain ⟨fv, tv, xo, fvs, rfl, hrow, hfs, htp, hst⟩ := h
  refine ⟨fv, tv, xo, rfl, ?_, ?_, ?_⟩
  · rcases hrow with ⟨_, x, c, e⟩ | ⟨g, c, cur, e, _⟩ <;> exact ⟨_, _, _, e⟩
  · rcases htp with ⟨_, x, c, e⟩ | ⟨g, o, c, e, _⟩ <;> exact ⟨_, _, _, e⟩
  · rcases hst with ⟨_, e⟩ | ⟨g, c, cu, e, _⟩ <;> exact ⟨_, _, _, e⟩
end Go.Proofs.YtblbkfdhjfppkaaGreatDoor

/- How the program's compiler lies in memory; what it emits. -/
namespace Go.Proofs.YtblbkfdhjfppkaaGreatDoor
open Go.RowKit
def CodeR (fp : Nat → Value) (F : Nat → Prop) (w : World) (xs : List Value) (code : List (Option Hs.Ins)) : Prop :=
  xs.length = code.length ∧ ∀ (i : Nat) o, code[i]? = some o → ∃ u, xs[i]? = some u ∧ (match o with | none => u = .nilIface | some i => InsR fp F w u i)
theorem CodeR.keep {fp : Nat → Value} {F G : Nat → Prop} {w w' : World} {xs : List Value} {code : List (Option Hs.Ins)} (h : CodeR fp F w xs code) (hk : ∀ b, F b → w'.heap[b]? = w.heap[b]?) (hF : ∀ b, F b → G b) : CodeR fp G w' xs code :=
  ⟨h.1, fun i o ho => by
    obtain ⟨u, h1, h2⟩ := h.2 i o ho
    refine ⟨u, h1, ?_⟩
    cases o with
    | none => exact h2
    | some j => exact InsR.keep h2 hk hF⟩
def FunsR (fp : Nat → Value) (fb : Nat → Nat) (nms : List (List UInt8)) (F : Nat → Prop) (w : World) (fv : Value) : Prop :=
  (nms = [] ∧ fv = .slice none 0 0) ∨ ∃ g cap, fv = .slice (some ⟨g, 0, none⟩) nms.length cap ∧ F g ∧ nms.length ≤ cap ∧ g < w.heap.size ∧ ∀ k (h : k < nms.length), w.cell? ⟨g, k, none⟩ = some (fp k) ∧ fp k = .pointer (some ⟨fb k, 0, none⟩) ∧ F (fb k) ∧ ∃ x, w.heap[fb k]? = some (.cells #[.string (bs nms[k]), x] 250 (0, 0))
theorem FunsR.keep {fp : Nat → Value} {fb : Nat → Nat} {nms : List (List UInt8)} {F G : Nat → Prop} {w w' : World} {fv : Value} (h : FunsR fp fb nms F w fv) (hk : ∀ b, F b → w'.heap[b]? = w.heap[b]?) (hF : ∀ b, F b → G b) (hs : w.heap.size ≤ w'.heap.size) : FunsR fp fb nms G w' fv := by
  rcases h with h | ⟨g, cap, h1, h2, h3, h4, h5⟩
  · exact Or.inl h
  · refine Or.inr ⟨g, cap, h1, hF g h2, h3, Nat.lt_of_lt_of_le h4 hs, fun k hk' => ?_⟩
    obtain ⟨e1, e2, e3, x, e4⟩ := h5 k hk'
    exact ⟨by rw [World.cell?_of_block (hk g h2)]; exact e1, e2, hF _ e3, x, by rw [hk _ e3]; exact e4⟩
structure CP (fp : Nat → Value) (fb : Nat → Nat) (nms : List (List UInt8)) (cb : Nat) (F : Nat → Prop) (w : World) (code : List (Option Hs.Ins)) (seen : List (List UInt8)) : Prop where
  blk : ∃ fv cv sp, w.heap[cb]? = some (.cells #[fv, cv, sp] 276 (0, 0)) ∧ (∃ xs, w.ownsRow (cb + 1) 355 1 cv code.length xs ∧ CodeR fp F w xs code) ∧ SeenR F w sp seen ∧ FunsR fp fb nms F w fv
  fix : ∀ k, F k → k < w.heap.size ∧ k ≠ cb ∧ rowOf cb w ≠ some k
section
variable {fp : Nat → Value} {fb : Nat → Nat} {nms : List (List UInt8)} {cb : Nat} {F : Nat → Prop} {w w' : World} {code : List (Option Hs.Ins)} {seen : List (List UInt8)}
theorem CP.lt (h : CP fp fb nms cb F w code seen) : cb < w.heap.size := by
  obtain ⟨_, _, _, h1, _⟩ := h.blk; exact lt_of_block h1
theorem rowOf_cp {v0 v1 v2 : Value} (h : w.heap[cb]? = some (.cells #[v0, v1, v2] 276 (0, 0))) : rowOf cb w = v1.ownBlock := by unfold rowOf; rw [h]; rfl
theorem CP.grow (h : CP fp fb nms cb F w code seen) (hb : Below w.heap.size w w') : CP fp fb nms cb F w' code seen := by
  have hlt := h.lt
  obtain ⟨fv, cv, sp, h1, ⟨xs, h2, h3⟩, h4, h5⟩ := h.blk
  have hF : ∀ b, F b → w'.heap[b]? = w.heap[b]? := fun b hb' => hb.block b (h.fix b hb').1
  refine ⟨⟨fv, cv, sp, by rw [hb.block _ hlt]; exact h1, ⟨xs, ownsRow_below h2 hb, h3.keep hF fun _ h => h⟩, SeenR.keep hF (fun _ h => h) h4, h5.keep hF (fun _ h => h) hb.size⟩, fun k hk => ?_⟩
  obtain ⟨e1, e2, e3⟩ := h.fix k hk
  exact ⟨Nat.lt_of_lt_of_le e1 hb.size, e2, by rw [rowOf_eq (hb.block cb hlt)]; exact e3⟩
theorem CP.new (h : CP fp fb nms cb F w code seen) (o : Obj) : Loc cb w w.heap.size o (w.alloc o) ∧ CP fp fb nms cb F (w.alloc o) code seen := by
  have hcb := h.lt
  have hb : Below w.heap.size w (w.alloc o) := (Below.refl _ _).alloc (Nat.le_refl _) _
  refine ⟨⟨FB.of_below hb hcb, heap_first _ _ rfl _, fun e => ?_, by omega⟩, h.grow hb⟩
  obtain ⟨fv, cv, sp, h1, ⟨xs, h2, _⟩, _⟩ := h.blk
  rw [rowOf_eq (hb.block cb hcb), rowOf_cp h1] at e
  have := own_block_lt h2 _ e
  omega
theorem infoIns : (Tryz.prog.info? 355).map (fun i => (i.zero, i.size, i.bytes)) = some (some .nilIface, 1, 16) := by kernel_rfl
theorem news_ins (w : World) (u : Value) : ∀ j v, ([u] : List Value)[j]? = some v → (w.alloc (.cells #[u] 355)).cell? ((⟨w.heap.size, 0, none⟩ : Addr).add j) = some v := by
  intro j v hj
  match j, hj with
  | 0, hj => simp at hj; subst hj; simp [Addr.add, go_sem]
  | j + 1, hj => simp at hj
def InsO (fp : Nat → Value) (F : Nat → Prop) (w : World) (u : Value) : Option Hs.Ins → Prop
  | none => u = .nilIface
  | some i => InsR fp F w u i
theorem InsO.one {u : Value} {o : Option Hs.Ins} (h : InsO fp F w u o) : u.oneCell' = true ∧ (u = .nilIface ∨ ∃ t z, u = .iface t z) := by
  cases o with
  | none => rw [show u = .nilIface from h]; exact ⟨rfl, Or.inl rfl⟩
  | some i => obtain ⟨t, z, rfl⟩ := InsR.form h; exact ⟨rfl, Or.inr ⟨t, z, rfl⟩⟩
set_option maxRecDepth 100000 in
set_option maxHeartbeats 1000000 in
theorem emit_walk (cb n : Nat) (fv cv sp u : Value) (xs : List Value) (w : World) (hblk : w.heap[cb]? = some (.cells #[fv, cv, sp] 276 (0, 0))) (hown : w.ownsRow (cb + 1) 355 1 cv n xs) (hu1 : u.oneCell' = true) (hu : u = .nilIface ∨ ∃ t z, u = .iface t z) (hn : n ≤ 1000000) :
    Calls Tryz.prog 238 #[.pointer (some ⟨cb, 0, none⟩), u] w fun e w' => e = .returned (.int .i64 n) ∧ ∃ cv', w'.heap[cb]? = some (.cells #[fv, cv', sp] 276 (0, 0)) ∧ w'.ownsRow (cb + 1) 355 1 cv' (n + 1) (xs ++ [u]) ∧ FB cb w w' := by
  obtain ⟨i0, hi, hz0, hz1, hz2⟩ := info_parts infoIns
  obtain ⟨x, c, rfl⟩ := own_slice hown
  have hgl := lt_of_block hblk
  have c1 : w.cell? ⟨cb, 1, none⟩ = some (.slice x n c) := cell_of_block hblk rfl
  have HO := mkHid hown
  have HB := mkHid hblk
  have hone : ∀ v ∈ ([u] : List Value), v.oneCell' = true := fun v hv => by simp at hv; rw [hv]; exact hu1
  have HONE := mkHid hone
  clear hown hblk hone hu1
  have main : ∀ u' : Value, u = u' → (u' = .nilIface ∨ ∃ t z, u' = .iface t z) → Calls Tryz.prog 238 #[.pointer (some ⟨cb, 0, none⟩), u'] w fun e w' => e = .returned (.int .i64 n) ∧ ∃ cv', w'.heap[cb]? = some (.cells #[fv, cv', sp] 276 (0, 0)) ∧ w'.ownsRow (cb + 1) 355 1 cv' (n + 1) (xs ++ [u']) ∧ FB cb w w' := by
    intro u' e hu'
    subst e
    rcases hu' with rfl | ⟨t, z, rfl⟩
    all_goals
      go_enter Tryz.func238, Tryz.ntmps238
      go_wp2_with (at_builtin; refine wpList_append_lies _ (by rfl) _ _ 248 (by rfl) (cb + 1) 355 i0 _ 1 16 Tryz.underlying248 hi hz0 hz1 hz2 rfl (by decide) (.slice x n c) n xs (by rfl) (HO.out.alloc _) ⟨w.heap.size, 0, none⟩ 1 1 [_] (by rfl) (by rfl) (news_ins w _) HONE.out (by decide) (by unfold maxLen; omega) (by omega) (by simp; omega) (w.heap.size + 1) (by simp) ?_)
      intro g4 cap4 w4 hown4 hgrow4 hat4 hg4
      have hne : some cb ≠ (Value.slice x n c).ownBlock := fun e => by have := (HO.out.lt cb e.symm).1; omega
      have hblk4 : w4.heap[cb]? = some (.cells #[fv, .slice x n c, sp] 276 (0, 0)) := by
        rw [hgrow4.block cb (by simp; omega) hne, Below.heap_alloc _ _ _ hgl]; exact HB.out
      have c1' : w4.cell? ⟨cb, 1, none⟩ = some (.slice x n c) := cell_of_block hblk4 rfl
      have f1' := frozen_of_block hblk4 (i := 1)
      have hgl4 := lt_of_block hblk4
      have hgg : g4 ≠ cb := by
        have := (hown4.lt g4 rfl).1; omega
      have HOWN := mkHid hown4
      have HG := mkHid hgrow4
      have HAT := mkHid hat4
      have HBL := mkHid hblk4
      clear hown4 hgrow4 hat4 hblk4
      go_wp2_with fail
      go_ret
      refine ⟨by go_num, .slice (some ⟨g4, 0, none⟩) (n + 1) cap4, heap_setCell_at HBL.out, ownsRow_keep HOWN.out fun k hk => Below.heap_setCell _ _ _ _ (by cases hk; exact hgg), ⟨?_, fun k hk h1 h2 => ?_, fun k hk => ?_⟩⟩
      · exact (((Below.refl cb w).alloc (by omega) _).grown HG.out (by simp; omega) (fun k hk => by have := (HO.out.lt k hk).1; omega)).setCell (by exact Nat.le_refl cb) _
      · rw [rowOf_cp HB.out] at h2
        rw [Below.heap_setCell _ _ _ _ h1, HG.out.block k (by simp; omega) (fun e => h2 e.symm), Below.heap_alloc _ _ _ hk]
      · rw [rowOf_cp (heap_setCell_at HBL.out), rowOf_cp HB.out] at *
        cases hk
        rcases HAT.out with h | h
        · exact Or.inl h
        · exact Or.inr (by show w.heap.size ≤ g4; omega)
  exact main u rfl hu
theorem CP.step {code' : List (Option Hs.Ins)} {fv cv' sp : Value} {xs' : List Value} (h : CP fp fb nms cb F w code seen) (hfb : FB cb w w') (hblk : w'.heap[cb]? = some (.cells #[fv, cv', sp] 276 (0, 0))) (hrow : w'.ownsRow (cb + 1) 355 1 cv' code'.length xs') (hc : CodeR fp F w' xs' code') (hsp : SeenR F w' sp seen) (hfv : FunsR fp fb nms F w' fv) : CP fp fb nms cb F w' code' seen :=
  ⟨⟨fv, cv', sp, hblk, ⟨xs', hrow, hc⟩, hsp, hfv⟩, fun k hk => by
    obtain ⟨e1, e2, e3⟩ := h.fix k hk
    refine ⟨Nat.lt_of_lt_of_le e1 hfb.bel.size, e2, fun e => ?_⟩
    rcases hfb.row k e with h1 | h1
    · exact e3 h1
    · omega⟩
theorem CP.fixed (h : CP fp fb nms cb F w code seen) (hfb : FB cb w w') : ∀ b, F b → w'.heap[b]? = w.heap[b]? := fun b hb => by
  obtain ⟨e1, e2, e3⟩ := h.fix b hb
  exact hfb.blk b e1 e2 e3
theorem emit_any {u : Value} {o : Option Hs.Ins} (h : CP fp fb nms cb F w code seen) (hu : InsO fp F w u o) (hn : code.length ≤ 1000000) :
    Calls Tryz.prog 238 #[.pointer (some ⟨cb, 0, none⟩), u] w fun e w' => e = .returned (.int .i64 code.length) ∧ CP fp fb nms cb F w' (code ++ [o]) seen ∧ FB cb w w' := by
  obtain ⟨fv, cv, sp, h1, ⟨xs, h2, h3⟩, h4, h5⟩ := h.blk
  obtain ⟨o1, o2⟩ := hu.one
  refine (emit_walk cb code.length fv cv sp u xs w h1 h2 o1 o2 hn).mono ?_
  rintro e w' ⟨he, cv', q1, q2, q3⟩
  have hF := h.fixed q3
  refine ⟨he, h.step q3 q1 (by rw [List.length_append]; exact q2) ?_ (SeenR.keep hF (fun _ h => h) h4) (h5.keep hF (fun _ h => h) q3.bel.size), q3⟩
  have h3' := h3.keep hF fun _ h => h
  refine ⟨by simp [h3.1], fun i o' ho => ?_⟩
  rcases Nat.lt_or_ge i code.length with hi | hi
  · rw [List.getElem?_append_left hi] at ho
    obtain ⟨u', e1, e2⟩ := h3'.2 i o' ho
    exact ⟨u', by rw [List.getElem?_append_left (by rw [h3.1]; exact hi)]; exact e1, e2⟩
  · rw [List.getElem?_append_right hi] at ho
    have hi0 : i - code.length = 0 := by
      have := (List.getElem?_eq_some_iff.1 ho).1
      simp at this; omega
    rw [hi0] at ho
    simp at ho
    subst ho
    refine ⟨u, by rw [List.getElem?_append_right (by rw [h3.1]; exact hi), h3.1, hi0]; rfl, ?_⟩
    cases o with
    | none => exact hu
    | some j => exact InsR.keep hu hF fun _ h => h
set_option maxRecDepth 100000 in
set_option maxHeartbeats 1000000 in
theorem free_any (h : CP fp fb nms cb F w code seen) (hn : seen.length ≤ 1000000) :
    Calls Tryz.prog 290 #[.pointer (some ⟨cb, 0, none⟩)] w fun e w' => e = .returned (.int .i64 seen.length) ∧ w' = w := by
  obtain ⟨fv, cv, sp, h1, -, h4, -⟩ := h.blk
  have hl := lt_of_block h1
  have c2 : w.cell? ⟨cb, 2, none⟩ = some sp := cell_of_block h1 rfl
  cases seen with
  | nil =>
    obtain rfl : sp = .pointer none := h4
    clear h h1
    go_enter Tryz.func290, Tryz.ntmps290
    go_wp2_with fail
    go_ret
    exact ⟨rfl, rfl⟩
  | cons x l =>
    obtain ⟨b, o, rfl, hb, hbb, hso⟩ := h4
    have c1 : w.cell? ⟨b, 1, none⟩ = some (.int .i64 l.length) := cell_of_block hbb rfl
    have hbl := lt_of_block hbb
    simp only [List.length_cons] at hn
    clear h h1 hbb hso
    go_enter Tryz.func290, Tryz.ntmps290
    go_wp2_with fail
    go_ret
    exact ⟨by go_num, rfl⟩
end
end Go.Proofs.YtblbkfdhjfppkaaGreatDoor

/- Contracts of the program: the compiler's variables and functions. -/
namespace Go.Proofs.YtblbkfdhjfppkaaGreatDoor
open Go.RowKit
section
variable {fp : Nat → Value} {fb : Nat → Nat} {nms : List (List UInt8)} {cb : Nat} {F : Nat → Prop} {w w' : World} {code : List (Option Hs.Ins)} {seen : List (List UInt8)}
set_option maxRecDepth 100000 in
set_option maxHeartbeats 1000000 in
theorem see_walk (w : World) (cb n : Nat) (x : List UInt8) (p : Option Addr) (hl : cb < w.heap.size) (c2 : w.cell? ⟨cb, 2, none⟩ = some (.pointer p)) (f2 : w.frozen? ⟨cb, 2, none⟩ = false)
    (HF : Hid (Calls Tryz.prog 290 #[.pointer (some ⟨cb, 0, none⟩)] w.drew fun e w' => e = .returned (.int .i64 n) ∧ w' = w.drew)) :
    Calls Tryz.prog 236 #[.pointer (some ⟨cb, 0, none⟩), .string (bs x)] w fun e w' => e = .returned (.tuple #[]) ∧ SameH ((w.setCell ⟨cb, 2, none⟩ (.pointer (some ⟨w.heap.size, 0, none⟩))).alloc (.cells #[.string (bs x), .int .i64 n, .pointer p] 253)) w' := by
  go_enter Tryz.func236, Tryz.ntmps236
  go_wp2_with fail
  go_region_law (go_simp; go_at_call 290; refine HF.out.mono ?_; rintro e w1 ⟨rfl, rfl⟩)
  all_goals
    go_wp2_with fail
    go_end0
    exact ⟨rfl, SameH.drew _⟩
theorem see_any (x : List UInt8) (h : CP fp fb nms cb F w code seen) (hn : seen.length ≤ 1000000) :
    Calls Tryz.prog 236 #[.pointer (some ⟨cb, 0, none⟩), .string (bs x)] w fun e w' => e = .returned (.tuple #[]) ∧ CP fp fb nms cb (fun k => F k ∨ k = w.heap.size) w' code (x :: seen) ∧ FB cb w w' := by
  have hlt := h.lt
  obtain ⟨fv, cv, sp, h1, ⟨xs, h2, h3⟩, h4, h5⟩ := h.blk
  obtain ⟨p, rfl⟩ := h4.form
  have hd : CP fp fb nms cb F w.drew code seen := h.grow (SameH.drew w).below
  refine (see_walk w cb seen.length x p hlt (cell_of_block h1 rfl) (frozen_of_block h1) (free_any hd hn)).mono ?_
  rintro e w' ⟨he, hS⟩
  generalize hW : (w.setCell ⟨cb, 2, none⟩ (.pointer (some ⟨w.heap.size, 0, none⟩))).alloc (.cells #[.string (bs x), .int .i64 seen.length, .pointer p] 253) = W at hS
  have hk : ∀ k, k < w.heap.size → k ≠ cb → w'.heap[k]? = w.heap[k]? := fun k h1 h2 => by
    rw [hS.heap, ← hW, Below.heap_alloc _ _ _ (by simpa using h1), Below.heap_setCell _ _ _ _ h2]
  have hcb : w'.heap[cb]? = some (.cells #[fv, cv, .pointer (some ⟨w.heap.size, 0, none⟩)] 276 (0, 0)) := by
    rw [hS.heap, ← hW, Below.heap_alloc _ _ _ (by simpa using hlt)]; exact heap_setCell_at h1
  have hnew : w'.heap[w.heap.size]? = some (.cells #[.string (bs x), .int .i64 seen.length, .pointer p] 253 (0, 0)) := by
    rw [hS.heap, ← hW]; exact heap_first _ _ (by simp) _
  have hsz : w'.heap.size = w.heap.size + 1 := by rw [hS.heap, ← hW]; simp
  have hro : rowOf cb w' = rowOf cb w := by rw [rowOf_cp hcb, rowOf_cp h1]
  have hF : ∀ b, F b → w'.heap[b]? = w.heap[b]? := fun b hb => hk b (h.fix b hb).1 (h.fix b hb).2.1
  have hrl := fun k (e : cv.ownBlock = some k) => h2.lt k e
  refine ⟨he, ⟨⟨fv, cv, _, hcb, ⟨xs, ownsRow_keep h2 fun k e => hk k (hrl k e).2 (by have := (hrl k e).1; omega), h3.keep hF fun _ h => Or.inl h⟩, ⟨w.heap.size, .pointer p, rfl, Or.inr rfl, hnew, SeenR.keep hF (fun _ h => Or.inl h) h4⟩, h5.keep hF (fun _ h => Or.inl h) (by omega)⟩, fun k hk' => ?_⟩, ⟨?_, fun k h1 h2 _ => hk k h1 h2, fun k e => Or.inl (by rw [← hro]; exact e)⟩⟩
  · rcases hk' with hk' | rfl
    · obtain ⟨e1, e2, e3⟩ := h.fix k hk'
      exact ⟨by omega, e2, by rw [hro]; exact e3⟩
    · refine ⟨by omega, by omega, fun e => ?_⟩
      rw [hro, rowOf_cp h1] at e
      have := (hrl _ e).2
      omega
  · refine ⟨by rw [hS.os, ← hW]; rfl, by rw [hS.tape, ← hW]; rfl, by rw [hS.output, ← hW]; rfl, by omega, fun k hk' => hk k (by omega) (by omega)⟩
theorem slot_mem {x y : List UInt8} {l : List (List UInt8)} (h : y ∈ x :: l) (hn : x ≠ y) : y ∈ l ∧ Hs.slotL (x :: l) y = Hs.slotL l y := by
  refine ⟨?_, by rw [Hs.slotL, if_neg hn]⟩
  rcases List.mem_cons.1 h with e | e
  · exact absurd e.symm hn
  · exact e
set_option maxRecDepth 100000 in
set_option maxHeartbeats 1000000 in
theorem slot_any (name : List UInt8) (h : CP fp fb nms cb F w code seen) (hm : name ∈ seen) (_hn : seen.length ≤ 1000000) :
    Calls Tryz.prog 286 #[.pointer (some ⟨cb, 0, none⟩), .string (bs name)] w fun e w' => e = .returned (.int .i64 (Hs.slotL seen name)) ∧ w' = w := by
  obtain ⟨fv, cv, sp, h1, -, h4, -⟩ := h.blk
  have hl := lt_of_block h1
  have c2 : w.cell? ⟨cb, 2, none⟩ = some sp := cell_of_block h1 rfl
  have H4 : Hid (SeenR F w sp seen ∧ name ∈ seen) := ⟨h4, hm⟩
  obtain ⟨p, rfl⟩ := h4.form
  clear h h1 h4 hm
  go_enter Tryz.func286, Tryz.ntmps286
  go_wp2_with fail
  go_loopg [5] seen.length (fun gk v wr => ∃ l, l.length = gk ∧ SeenR F w v l ∧ name ∈ l ∧ Hs.slotL l name = Hs.slotL seen name ∧ wr = w)
  case atStart => exact ⟨seen, rfl, H4.out.1, H4.out.2, rfl, rfl⟩
  case round =>
    obtain ⟨l, hl', hs, hml, hsl, rfl⟩ := hrel
    cases l with
    | nil => cases hml
    | cons x l =>
      obtain ⟨b, o, rfl, hb, hbb, hso⟩ := hs
      obtain ⟨p', rfl⟩ := hso.form
      have d0 : wr.cell? ⟨b, 0, none⟩ = some (.string (bs x)) := cell_of_block hbb rfl
      have d1 : wr.cell? ⟨b, 1, none⟩ = some (.int .i64 l.length) := cell_of_block hbb rfl
      have d2 : wr.cell? ⟨b, 2, none⟩ = some (.pointer p') := cell_of_block hbb rfl
      have hbl := lt_of_block hbb
      by_cases hx : x = name
      · subst hx
        have hr : Hs.slotL (x :: l) x = l.length := by rw [Hs.slotL, if_pos rfl]
        rw [hr] at hsl
        clear hbb hso hml
        go_wp2_with fail
        go_ret
        exact ⟨by rw [← hsl]; rfl, rfl⟩
      · obtain ⟨q1, q2⟩ := slot_mem hml hx
        have hne : ((bs x).toList == (bs name).toList) = false := by rw [bs_toList, bs_toList]; simpa using hx
        have HS : Hid (SeenR F wr (.pointer p') l) := hso
        rw [q2] at hsl
        clear hbb hso hml
        go_wp2_with fail
        go_roundg l.length
        case measure => simp at hl'; omega
        case rel => exact ⟨l, rfl, HS.out, q1, hsl, rfl⟩
set_option maxRecDepth 100000 in
set_option maxHeartbeats 1000000 in
theorem cfunction_any (name : List UInt8) (h : CP fp fb nms cb F w code seen) (hm : name ∈ nms) (hn : nms.length ≤ 1000000) :
    Calls Tryz.prog 174 #[.pointer (some ⟨cb, 0, none⟩), .string (bs name)] w fun e w' => e = .returned (fp (nms.findIdx fun x => x == name)) ∧ w' = w := by
  obtain ⟨fv, cv, sp, h1, -, -, h5⟩ := h.blk
  rcases h5 with ⟨rfl, _⟩ | ⟨g, cap, rfl, hFg, hcap, hgl, hall⟩
  · cases hm
  have hl := lt_of_block h1
  have c0 : w.cell? ⟨cb, 0, none⟩ = some (.slice (some ⟨g, 0, none⟩) nms.length cap) := cell_of_block h1 rfl
  have HA := mkHid hall
  clear h h1 hall
  go_enter Tryz.func174, Tryz.ntmps174
  go_wp2_with fail
  go_loopg [6, 12] nms.length (fun gk _ i wr => ∃ j : Nat, j + gk = nms.length ∧ i = .int .i64 j ∧ j ≤ nms.findIdx (fun x => x == name) ∧ wr = w)
  case atStart => exact ⟨0, by omega, rfl, Nat.zero_le _, rfl⟩
  case round =>
    obtain ⟨j, hj, rfl, hle, rfl⟩ := hrel
    have hfi : nms.findIdx (fun x => x == name) < nms.length := List.findIdx_lt_length_of_exists ⟨name, hm, by simp⟩
    have hlt : j < nms.length := by omega
    obtain ⟨m, rfl⟩ : ∃ m, gk = m + 1 := ⟨gk - 1, by omega⟩
    obtain ⟨e1, e2, e3, x, e4⟩ := HA.out j hlt
    rw [e2] at e1
    have d0 : wr.cell? ⟨fb j, 0, none⟩ = some (.string (bs nms[j])) := cell_of_block e4 rfl
    have hbl := lt_of_block e4
    have i1 : (0 : Int) ≤ (j : Int) := by omega
    have i2 : (j : Int) < (nms.length : Int) := by omega
    by_cases hx : nms[j] = name
    · have hje : nms.findIdx (fun x => x == name) = j := by
        refine Nat.le_antisymm (Nat.not_lt.1 fun hlt' => ?_) hle
        have := List.not_of_lt_findIdx hlt'
        simp [hx] at this
      have E2 := mkHid e2
      rw [hx] at d0
      clear e4 e2 HA
      go_wp2_with fail
      go_ret
      exact ⟨by rw [hje, E2.out]; rfl, rfl⟩
    · have hne : ((bs nms[j]).toList == (bs name).toList) = false := by rw [bs_toList, bs_toList]; simpa using hx
      have hle' : j + 1 ≤ nms.findIdx (fun x => x == name) := by
        rcases Nat.eq_or_lt_of_le hle with e | e
        · have := List.findIdx_getElem (w := hfi)
          simp only [← e] at this
          simp at this
          exact absurd this hx
        · exact e
      generalize nms[j] = y at *
      clear e4 e2
      go_wp2_with fail
      go_roundg m
      case measure => omega
      case rel => exact ⟨j + 1, by omega, by go_num, hle', rfl⟩
end
end Go.Proofs.YtblbkfdhjfppkaaGreatDoor

/- Contracts of the program: the compiler's expressions: the walks. -/
namespace Go.Proofs.YtblbkfdhjfppkaaGreatDoor
open Go.RowKit
theorem ea_Number_Number (v : Value) (w : World) : (Instr.typeAssert (.iface 397 v) 122 397 true).run Tryz.prog w = .ok (.tuple #[v, .bool true]) w := by kernel_rfl
theorem ea_String_Number (v : Value) (w : World) : (Instr.typeAssert (.iface 398 v) 122 397 true).run Tryz.prog w = .ok (.tuple #[.agg #[.int .i64 0, .int .i64 0], .bool false]) w := by kernel_rfl
theorem ea_String_String (v : Value) (w : World) : (Instr.typeAssert (.iface 398 v) 122 398 true).run Tryz.prog w = .ok (.tuple #[v, .bool true]) w := by kernel_rfl
theorem ea_Bool_Number (v : Value) (w : World) : (Instr.typeAssert (.iface 400 v) 122 397 true).run Tryz.prog w = .ok (.tuple #[.agg #[.int .i64 0, .int .i64 0], .bool false]) w := by kernel_rfl
theorem ea_Bool_String (v : Value) (w : World) : (Instr.typeAssert (.iface 400 v) 122 398 true).run Tryz.prog w = .ok (.tuple #[.agg #[.int .i64 0, .string ⟨#[]⟩], .bool false]) w := by kernel_rfl
theorem ea_Bool_Bool (v : Value) (w : World) : (Instr.typeAssert (.iface 400 v) 122 400 true).run Tryz.prog w = .ok (.tuple #[v, .bool true]) w := by kernel_rfl
theorem ea_Variable_Number (v : Value) (w : World) : (Instr.typeAssert (.iface 344 v) 122 397 true).run Tryz.prog w = .ok (.tuple #[.agg #[.int .i64 0, .int .i64 0], .bool false]) w := by kernel_rfl
theorem ea_Variable_String (v : Value) (w : World) : (Instr.typeAssert (.iface 344 v) 122 398 true).run Tryz.prog w = .ok (.tuple #[.agg #[.int .i64 0, .string ⟨#[]⟩], .bool false]) w := by kernel_rfl
theorem ea_Variable_Bool (v : Value) (w : World) : (Instr.typeAssert (.iface 344 v) 122 400 true).run Tryz.prog w = .ok (.tuple #[.agg #[.int .i64 0, .bool false], .bool false]) w := by kernel_rfl
theorem ea_Variable_Variable (v : Value) (w : World) : (Instr.typeAssert (.iface 344 v) 122 344 true).run Tryz.prog w = .ok (.tuple #[v, .bool true]) w := by kernel_rfl
theorem ea_List_Number (v : Value) (w : World) : (Instr.typeAssert (.iface 346 v) 122 397 true).run Tryz.prog w = .ok (.tuple #[.agg #[.int .i64 0, .int .i64 0], .bool false]) w := by kernel_rfl
theorem ea_List_String (v : Value) (w : World) : (Instr.typeAssert (.iface 346 v) 122 398 true).run Tryz.prog w = .ok (.tuple #[.agg #[.int .i64 0, .string ⟨#[]⟩], .bool false]) w := by kernel_rfl
theorem ea_List_Bool (v : Value) (w : World) : (Instr.typeAssert (.iface 346 v) 122 400 true).run Tryz.prog w = .ok (.tuple #[.agg #[.int .i64 0, .bool false], .bool false]) w := by kernel_rfl
theorem ea_List_Variable (v : Value) (w : World) : (Instr.typeAssert (.iface 346 v) 122 344 true).run Tryz.prog w = .ok (.tuple #[.agg #[.int .i64 0, .string ⟨#[]⟩], .bool false]) w := by kernel_rfl
theorem ea_List_List (v : Value) (w : World) : (Instr.typeAssert (.iface 346 v) 122 346 true).run Tryz.prog w = .ok (.tuple #[v, .bool true]) w := by kernel_rfl
theorem ea_Index_Number (v : Value) (w : World) : (Instr.typeAssert (.iface 348 v) 122 397 true).run Tryz.prog w = .ok (.tuple #[.agg #[.int .i64 0, .int .i64 0], .bool false]) w := by kernel_rfl
theorem ea_Index_String (v : Value) (w : World) : (Instr.typeAssert (.iface 348 v) 122 398 true).run Tryz.prog w = .ok (.tuple #[.agg #[.int .i64 0, .string ⟨#[]⟩], .bool false]) w := by kernel_rfl
theorem ea_Index_Bool (v : Value) (w : World) : (Instr.typeAssert (.iface 348 v) 122 400 true).run Tryz.prog w = .ok (.tuple #[.agg #[.int .i64 0, .bool false], .bool false]) w := by kernel_rfl
theorem ea_Index_Variable (v : Value) (w : World) : (Instr.typeAssert (.iface 348 v) 122 344 true).run Tryz.prog w = .ok (.tuple #[.agg #[.int .i64 0, .string ⟨#[]⟩], .bool false]) w := by kernel_rfl
theorem ea_Index_List (v : Value) (w : World) : (Instr.typeAssert (.iface 348 v) 122 346 true).run Tryz.prog w = .ok (.tuple #[.agg #[.int .i64 0, .slice none 0 0], .bool false]) w := by kernel_rfl
theorem ea_Index_Index (v : Value) (w : World) : (Instr.typeAssert (.iface 348 v) 122 348 true).run Tryz.prog w = .ok (.tuple #[v, .bool true]) w := by kernel_rfl
theorem ea_Unary_Number (v : Value) (w : World) : (Instr.typeAssert (.iface 350 v) 122 397 true).run Tryz.prog w = .ok (.tuple #[.agg #[.int .i64 0, .int .i64 0], .bool false]) w := by kernel_rfl
theorem ea_Unary_String (v : Value) (w : World) : (Instr.typeAssert (.iface 350 v) 122 398 true).run Tryz.prog w = .ok (.tuple #[.agg #[.int .i64 0, .string ⟨#[]⟩], .bool false]) w := by kernel_rfl
theorem ea_Unary_Bool (v : Value) (w : World) : (Instr.typeAssert (.iface 350 v) 122 400 true).run Tryz.prog w = .ok (.tuple #[.agg #[.int .i64 0, .bool false], .bool false]) w := by kernel_rfl
theorem ea_Unary_Variable (v : Value) (w : World) : (Instr.typeAssert (.iface 350 v) 122 344 true).run Tryz.prog w = .ok (.tuple #[.agg #[.int .i64 0, .string ⟨#[]⟩], .bool false]) w := by kernel_rfl
theorem ea_Unary_List (v : Value) (w : World) : (Instr.typeAssert (.iface 350 v) 122 346 true).run Tryz.prog w = .ok (.tuple #[.agg #[.int .i64 0, .slice none 0 0], .bool false]) w := by kernel_rfl
theorem ea_Unary_Index (v : Value) (w : World) : (Instr.typeAssert (.iface 350 v) 122 348 true).run Tryz.prog w = .ok (.tuple #[.agg #[.int .i64 0, .nilIface, .nilIface], .bool false]) w := by kernel_rfl
theorem ea_Unary_Unary (v : Value) (w : World) : (Instr.typeAssert (.iface 350 v) 122 350 true).run Tryz.prog w = .ok (.tuple #[v, .bool true]) w := by kernel_rfl
theorem ea_Binary_Number (v : Value) (w : World) : (Instr.typeAssert (.iface 352 v) 122 397 true).run Tryz.prog w = .ok (.tuple #[.agg #[.int .i64 0, .int .i64 0], .bool false]) w := by kernel_rfl
theorem ea_Binary_String (v : Value) (w : World) : (Instr.typeAssert (.iface 352 v) 122 398 true).run Tryz.prog w = .ok (.tuple #[.agg #[.int .i64 0, .string ⟨#[]⟩], .bool false]) w := by kernel_rfl
theorem ea_Binary_Bool (v : Value) (w : World) : (Instr.typeAssert (.iface 352 v) 122 400 true).run Tryz.prog w = .ok (.tuple #[.agg #[.int .i64 0, .bool false], .bool false]) w := by kernel_rfl
theorem ea_Binary_Variable (v : Value) (w : World) : (Instr.typeAssert (.iface 352 v) 122 344 true).run Tryz.prog w = .ok (.tuple #[.agg #[.int .i64 0, .string ⟨#[]⟩], .bool false]) w := by kernel_rfl
theorem ea_Binary_List (v : Value) (w : World) : (Instr.typeAssert (.iface 352 v) 122 346 true).run Tryz.prog w = .ok (.tuple #[.agg #[.int .i64 0, .slice none 0 0], .bool false]) w := by kernel_rfl
theorem ea_Binary_Index (v : Value) (w : World) : (Instr.typeAssert (.iface 352 v) 122 348 true).run Tryz.prog w = .ok (.tuple #[.agg #[.int .i64 0, .nilIface, .nilIface], .bool false]) w := by kernel_rfl
theorem ea_Binary_Unary (v : Value) (w : World) : (Instr.typeAssert (.iface 352 v) 122 350 true).run Tryz.prog w = .ok (.tuple #[.agg #[.int .i64 0, .string ⟨#[]⟩, .nilIface], .bool false]) w := by kernel_rfl
theorem ea_Binary_Binary (v : Value) (w : World) : (Instr.typeAssert (.iface 352 v) 122 352 true).run Tryz.prog w = .ok (.tuple #[v, .bool true]) w := by kernel_rfl
theorem ea_Call_Number (v : Value) (w : World) : (Instr.typeAssert (.iface 341 v) 122 397 true).run Tryz.prog w = .ok (.tuple #[.agg #[.int .i64 0, .int .i64 0], .bool false]) w := by kernel_rfl
theorem ea_Call_String (v : Value) (w : World) : (Instr.typeAssert (.iface 341 v) 122 398 true).run Tryz.prog w = .ok (.tuple #[.agg #[.int .i64 0, .string ⟨#[]⟩], .bool false]) w := by kernel_rfl
theorem ea_Call_Bool (v : Value) (w : World) : (Instr.typeAssert (.iface 341 v) 122 400 true).run Tryz.prog w = .ok (.tuple #[.agg #[.int .i64 0, .bool false], .bool false]) w := by kernel_rfl
theorem ea_Call_Variable (v : Value) (w : World) : (Instr.typeAssert (.iface 341 v) 122 344 true).run Tryz.prog w = .ok (.tuple #[.agg #[.int .i64 0, .string ⟨#[]⟩], .bool false]) w := by kernel_rfl
theorem ea_Call_List (v : Value) (w : World) : (Instr.typeAssert (.iface 341 v) 122 346 true).run Tryz.prog w = .ok (.tuple #[.agg #[.int .i64 0, .slice none 0 0], .bool false]) w := by kernel_rfl
theorem ea_Call_Index (v : Value) (w : World) : (Instr.typeAssert (.iface 341 v) 122 348 true).run Tryz.prog w = .ok (.tuple #[.agg #[.int .i64 0, .nilIface, .nilIface], .bool false]) w := by kernel_rfl
theorem ea_Call_Unary (v : Value) (w : World) : (Instr.typeAssert (.iface 341 v) 122 350 true).run Tryz.prog w = .ok (.tuple #[.agg #[.int .i64 0, .string ⟨#[]⟩, .nilIface], .bool false]) w := by kernel_rfl
theorem ea_Call_Binary (v : Value) (w : World) : (Instr.typeAssert (.iface 341 v) 122 352 true).run Tryz.prog w = .ok (.tuple #[.agg #[.int .i64 0, .string ⟨#[]⟩, .nilIface, .nilIface], .bool false]) w := by kernel_rfl
theorem ea_Call_Call (v : Value) (w : World) : (Instr.typeAssert (.iface 341 v) 122 341 true).run Tryz.prog w = .ok (.tuple #[v, .bool true]) w := by kernel_rfl
set_option maxRecDepth 100000 in
set_option maxHeartbeats 2000000 in
theorem exNumber_walk (w : World) (cb : Nat) (l k : Int) (P : World → Prop)
    (HE : Hid (Calls Tryz.prog 238 #[.pointer (some ⟨cb, 0, none⟩), .iface 361 (.agg #[.iface 315 (.int .i64 k)])] (w.alloc (.cells #[.int .i64 l, .int .i64 k] 397)) fun e w' => (∃ k : Nat, e = .returned (.int .i64 k)) ∧ P w')) :
    Calls Tryz.prog 233 #[.pointer (some ⟨cb, 0, none⟩), .iface 397 (.agg #[.int .i64 l, .int .i64 k])] w fun e w' => e = .returned (.tuple #[]) ∧ P w' := by
  have q0 := ea_Number_Number
  go_enter Tryz.func233, Tryz.ntmps233
  go_wp2_with fail
  refine HE.out.mono ?_
  rintro e w1 ⟨⟨m, rfl⟩, h1⟩
  go_wp2_with fail
  go_end0
  exact ⟨rfl, h1⟩
set_option maxRecDepth 100000 in
set_option maxHeartbeats 2000000 in
theorem exString_walk (w : World) (cb : Nat) (l : Int) (s : ByteArray) (P : World → Prop)
    (HE : Hid (Calls Tryz.prog 238 #[.pointer (some ⟨cb, 0, none⟩), .iface 361 (.agg #[.iface 318 (.string s)])] (w.alloc (.cells #[.int .i64 l, .string s] 398)) fun e w' => (∃ k : Nat, e = .returned (.int .i64 k)) ∧ P w')) :
    Calls Tryz.prog 233 #[.pointer (some ⟨cb, 0, none⟩), .iface 398 (.agg #[.int .i64 l, .string s])] w fun e w' => e = .returned (.tuple #[]) ∧ P w' := by
  have q0 := ea_String_Number
  have q1 := ea_String_String
  go_enter Tryz.func233, Tryz.ntmps233
  go_wp2_with fail
  refine HE.out.mono ?_
  rintro e w1 ⟨⟨m, rfl⟩, h1⟩
  go_wp2_with fail
  go_end0
  exact ⟨rfl, h1⟩
set_option maxRecDepth 100000 in
set_option maxHeartbeats 2000000 in
theorem exBool_walk (w : World) (cb : Nat) (l : Int) (b : Bool) (P : World → Prop)
    (HE : Hid (Calls Tryz.prog 238 #[.pointer (some ⟨cb, 0, none⟩), .iface 361 (.agg #[.iface 316 (.bool b)])] (w.alloc (.cells #[.int .i64 l, .bool b] 400)) fun e w' => (∃ k : Nat, e = .returned (.int .i64 k)) ∧ P w')) :
    Calls Tryz.prog 233 #[.pointer (some ⟨cb, 0, none⟩), .iface 400 (.agg #[.int .i64 l, .bool b])] w fun e w' => e = .returned (.tuple #[]) ∧ P w' := by
  have q0 := ea_Bool_Number
  have q1 := ea_Bool_String
  have q2 := ea_Bool_Bool
  go_enter Tryz.func233, Tryz.ntmps233
  go_wp2_with fail
  refine HE.out.mono ?_
  rintro e w1 ⟨⟨m, rfl⟩, h1⟩
  go_wp2_with fail
  go_end0
  exact ⟨rfl, h1⟩
set_option maxRecDepth 100000 in
set_option maxHeartbeats 2000000 in
theorem exVariable_walk (w : World) (cb : Nat) (l : Int) (s : ByteArray) (k : Nat) (P : World → Prop)
    (HS : Hid (Calls Tryz.prog 286 #[.pointer (some ⟨cb, 0, none⟩), .string s] (w.alloc (.cells #[.int .i64 l, .string s] 344)) fun e w' => e = .returned (.int .i64 k) ∧ w' = w.alloc (.cells #[.int .i64 l, .string s] 344)))
    (HE : Hid (Calls Tryz.prog 238 #[.pointer (some ⟨cb, 0, none⟩), .iface 402 (.agg #[.int .i64 k])] (w.alloc (.cells #[.int .i64 l, .string s] 344)) fun e w' => (∃ k : Nat, e = .returned (.int .i64 k)) ∧ P w')) :
    Calls Tryz.prog 233 #[.pointer (some ⟨cb, 0, none⟩), .iface 344 (.agg #[.int .i64 l, .string s])] w fun e w' => e = .returned (.tuple #[]) ∧ P w' := by
  have q0 := ea_Variable_Number
  have q1 := ea_Variable_String
  have q2 := ea_Variable_Bool
  have q3 := ea_Variable_Variable
  go_enter Tryz.func233, Tryz.ntmps233
  go_wp2_with fail
  refine HS.out.mono ?_
  rintro e w1 ⟨rfl, rfl⟩
  go_wp2_with fail
  refine HE.out.mono ?_
  rintro e w2 ⟨⟨m, rfl⟩, h1⟩
  go_wp2_with fail
  go_end0
  exact ⟨rfl, h1⟩
set_option maxRecDepth 100000 in
set_option maxHeartbeats 2000000 in
theorem exList_walk (w : World) (cb n c : Nat) (l : Int) (x : Option Addr) (P Q : World → Prop)
    (HX : Hid (Calls Tryz.prog 287 #[.pointer (some ⟨cb, 0, none⟩), .slice x n c] (w.alloc (.cells #[.int .i64 l, .slice x n c] 346)) fun e w' => e = .returned (.tuple #[]) ∧ Q w'))
    (HB : Hid (∀ W, Q W → W.cell? ⟨w.heap.size, 1, none⟩ = some (.slice x n c) ∧ w.heap.size < W.heap.size))
    (HE : Hid (∀ W, Q W → Calls Tryz.prog 238 #[.pointer (some ⟨cb, 0, none⟩), .iface 404 (.agg #[.int .i64 n])] W fun e w' => (∃ k : Nat, e = .returned (.int .i64 k)) ∧ P w')) :
    Calls Tryz.prog 233 #[.pointer (some ⟨cb, 0, none⟩), .iface 346 (.agg #[.int .i64 l, .slice x n c])] w fun e w' => e = .returned (.tuple #[]) ∧ P w' := by
  have q0 := ea_List_Number
  have q1 := ea_List_String
  have q2 := ea_List_Bool
  have q3 := ea_List_Variable
  have q4 := ea_List_List
  go_enter Tryz.func233, Tryz.ntmps233
  go_wp2_with fail
  refine HX.out.mono ?_
  rintro e w1 ⟨rfl, h1⟩
  obtain ⟨b1, b2⟩ := HB.out _ h1
  have HEE := mkHid (HE.out _ h1)
  clear h1
  go_wp2_with fail
  refine HEE.out.mono ?_
  rintro e w2 ⟨⟨m, rfl⟩, h2⟩
  go_wp2_with fail
  go_end0
  exact ⟨rfl, h2⟩
set_option maxRecDepth 100000 in
set_option maxHeartbeats 2000000 in
theorem exIndex_walk (w : World) (cb : Nat) (l : Int) (t1 t2 : TypeId) (z1 z2 : Value) (P Q R : World → Prop)
    (HX : Hid (Calls Tryz.prog 233 #[.pointer (some ⟨cb, 0, none⟩), .iface t1 z1] (w.alloc (.cells #[.int .i64 l, .iface t1 z1, .iface t2 z2] 348)) fun e w' => e = .returned (.tuple #[]) ∧ Q w'))
    (HB : Hid (∀ W, Q W → W.cell? ⟨w.heap.size, 2, none⟩ = some (.iface t2 z2) ∧ w.heap.size < W.heap.size))
    (HY : Hid (∀ W, Q W → Calls Tryz.prog 233 #[.pointer (some ⟨cb, 0, none⟩), .iface t2 z2] W fun e w' => e = .returned (.tuple #[]) ∧ R w'))
    (HE : Hid (∀ W, R W → Calls Tryz.prog 238 #[.pointer (some ⟨cb, 0, none⟩), .iface 405 (.agg #[])] W fun e w' => (∃ k : Nat, e = .returned (.int .i64 k)) ∧ P w')) :
    Calls Tryz.prog 233 #[.pointer (some ⟨cb, 0, none⟩), .iface 348 (.agg #[.int .i64 l, .iface t1 z1, .iface t2 z2])] w fun e w' => e = .returned (.tuple #[]) ∧ P w' := by
  have q0 := ea_Index_Number
  have q1 := ea_Index_String
  have q2 := ea_Index_Bool
  have q3 := ea_Index_Variable
  have q4 := ea_Index_List
  have q5 := ea_Index_Index
  go_enter Tryz.func233, Tryz.ntmps233
  go_wp2_with fail
  refine HX.out.mono ?_
  rintro e w1 ⟨rfl, h1⟩
  obtain ⟨b1, b2⟩ := HB.out _ h1
  have HYY := mkHid (HY.out _ h1)
  clear h1
  go_wp2_with fail
  refine HYY.out.mono ?_
  rintro e w2 ⟨rfl, h2⟩
  have HEE := mkHid (HE.out _ h2)
  clear h2
  go_wp2_with fail
  refine HEE.out.mono ?_
  rintro e w3 ⟨⟨m, rfl⟩, h3⟩
  go_wp2_with fail
  go_end0
  exact ⟨rfl, h3⟩
set_option maxRecDepth 100000 in
set_option maxHeartbeats 2000000 in
theorem exUnary_walk (w : World) (cb : Nat) (l : Int) (op : ByteArray) (t1 : TypeId) (z1 : Value) (P Q : World → Prop)
    (HX : Hid (Calls Tryz.prog 233 #[.pointer (some ⟨cb, 0, none⟩), .iface t1 z1] (w.alloc (.cells #[.int .i64 l, .string op, .iface t1 z1] 350)) fun e w' => e = .returned (.tuple #[]) ∧ Q w'))
    (HB : Hid (∀ W, Q W → W.cell? ⟨w.heap.size, 1, none⟩ = some (.string op) ∧ w.heap.size < W.heap.size))
    (HE : Hid (∀ W, Q W → Calls Tryz.prog 238 #[.pointer (some ⟨cb, 0, none⟩), .iface 407 (.agg #[.string op])] W fun e w' => (∃ k : Nat, e = .returned (.int .i64 k)) ∧ P w')) :
    Calls Tryz.prog 233 #[.pointer (some ⟨cb, 0, none⟩), .iface 350 (.agg #[.int .i64 l, .string op, .iface t1 z1])] w fun e w' => e = .returned (.tuple #[]) ∧ P w' := by
  have q0 := ea_Unary_Number
  have q1 := ea_Unary_String
  have q2 := ea_Unary_Bool
  have q3 := ea_Unary_Variable
  have q4 := ea_Unary_List
  have q5 := ea_Unary_Index
  have q6 := ea_Unary_Unary
  go_enter Tryz.func233, Tryz.ntmps233
  go_wp2_with fail
  refine HX.out.mono ?_
  rintro e w1 ⟨rfl, h1⟩
  obtain ⟨b1, b2⟩ := HB.out _ h1
  have HEE := mkHid (HE.out _ h1)
  clear h1
  go_wp2_with fail
  refine HEE.out.mono ?_
  rintro e w3 ⟨⟨m, rfl⟩, h3⟩
  go_wp2_with fail
  go_end0
  exact ⟨rfl, h3⟩
set_option maxRecDepth 100000 in
set_option maxHeartbeats 2000000 in
theorem exBinary_walk (w : World) (cb : Nat) (l : Int) (op : ByteArray) (t1 t2 : TypeId) (z1 z2 : Value) (P : World → Prop)
    (HX : Hid (Calls Tryz.prog 288 #[.pointer (some ⟨cb, 0, none⟩), .agg #[.int .i64 l, .string op, .iface t1 z1, .iface t2 z2]] (w.alloc (.cells #[.int .i64 l, .string op, .iface t1 z1, .iface t2 z2] 352)) fun e w' => e = .returned (.tuple #[]) ∧ P w')) :
    Calls Tryz.prog 233 #[.pointer (some ⟨cb, 0, none⟩), .iface 352 (.agg #[.int .i64 l, .string op, .iface t1 z1, .iface t2 z2])] w fun e w' => e = .returned (.tuple #[]) ∧ P w' := by
  have q0 := ea_Binary_Number
  have q1 := ea_Binary_String
  have q2 := ea_Binary_Bool
  have q3 := ea_Binary_Variable
  have q4 := ea_Binary_List
  have q5 := ea_Binary_Index
  have q6 := ea_Binary_Unary
  have q7 := ea_Binary_Binary
  go_enter Tryz.func233, Tryz.ntmps233
  go_wp2_with fail
  refine HX.out.mono ?_
  rintro e w1 ⟨rfl, h1⟩
  go_wp2_with fail
  go_end0
  exact ⟨rfl, h1⟩
set_option maxRecDepth 100000 in
set_option maxHeartbeats 2000000 in
theorem exCall_walk (w : World) (cb n c : Nat) (l : Int) (s : ByteArray) (x : Option Addr) (P : World → Prop)
    (HX : Hid (Calls Tryz.prog 289 #[.pointer (some ⟨cb, 0, none⟩), .agg #[.int .i64 l, .string s, .slice x n c]] (w.alloc (.cells #[.int .i64 l, .string s, .slice x n c] 341)) fun e w' => e = .returned (.tuple #[]) ∧ P w')) :
    Calls Tryz.prog 233 #[.pointer (some ⟨cb, 0, none⟩), .iface 341 (.agg #[.int .i64 l, .string s, .slice x n c])] w fun e w' => e = .returned (.tuple #[]) ∧ P w' := by
  have q0 := ea_Call_Number
  have q1 := ea_Call_String
  have q2 := ea_Call_Bool
  have q3 := ea_Call_Variable
  have q4 := ea_Call_List
  have q5 := ea_Call_Index
  have q6 := ea_Call_Unary
  have q7 := ea_Call_Binary
  have q8 := ea_Call_Call
  go_enter Tryz.func233, Tryz.ntmps233
  go_wp2_with fail
  refine HX.out.mono ?_
  rintro e w1 ⟨rfl, h1⟩
  go_wp2_with fail
  go_end0
  exact ⟨rfl, h1⟩
end Go.Proofs.YtblbkfdhjfppkaaGreatDoor
