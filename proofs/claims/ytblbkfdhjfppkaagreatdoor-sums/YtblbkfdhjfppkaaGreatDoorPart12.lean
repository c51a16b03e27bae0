/- Contracts of the program: a fault is caught, whatever is done (2 variables are shared with it). -/
import Derived.Test.YtblbkfdhjfppkaaGreatDoorPart11
import Derived.Test.YtblbkfdhjfppkaaGreatDoorPart00
import Derived.Test.YtblbkfdhjfppkaaGreatDoorProg
import Derived.WalkKit
import Derived.Laws.BytesArg
import Derived.WalkLawsBesides
import Derived.Deep.CutBlock
import Derived.Deep.RegionLaw
import Derived.Deep.DeepCutAuto
import Derived.Handy
import Derived.Laws.AppendOwnNone
namespace Go.Proofs.YtblbkfdhjfppkaaGreatDoor
open Go.RowKit
set_option maxRecDepth 100000 in
set_option maxHeartbeats 1000000 in
theorem faultOf_gen (fno : Nat) (p q : Option Addr) (w : World) (Q : World → Prop) (E : Nat → Nat → Prop)
    (hent : ∀ W, (callFunc fno #[.pointer p, .pointer q]).run Tryz.prog W = .ok (.enter fno #[.pointer p, .pointer q]) W)
    (hC : ∀ w2, w2 = (w.alloc (.cells #[.int .i64 0] 22)).alloc (.cells #[.int .i64 0] 3) → Calls Tryz.prog fno #[.pointer p, .pointer q] w2 fun e w' =>
      (e = .returned (.tuple #[]) ∧ w'.heap[w.heap.size]? = some (.cells #[.int .i64 0] 22 (0, 0)) ∧ w'.heap[w.heap.size + 1]? = some (.cells #[.int .i64 0] 3 (0, 0)) ∧ Q w') ∨
      ∃ k n, k ≠ 0 ∧ e = .panicked [{ v := .iface 141 (.agg #[.int .i64 (k : Nat), .int .i64 (n : Nat)]), recovered := false }] ∧ Below w2.heap.size w2 w' ∧ E k n) :
    Calls Tryz.prog 42 #[.func (.func fno) #[] #[.pointer p, .pointer q]] w fun e w' =>
      (e = .returned (.tuple #[.int .i64 0, .int .i64 0]) ∧ ∃ w1, Q w1 ∧ w' = (w1.setCell ⟨w.heap.size, 0, none⟩ (.int .i64 0)).setCell ⟨w.heap.size + 1, 0, none⟩ (.int .i64 0)) ∨
      ∃ k n, k ≠ 0 ∧ e = .returned (.tuple #[.int .i64 (k : Nat), .int .i64 (n : Nat)]) ∧ Below w.heap.size w w' ∧ E k n := by
  have hmf := makeFv
  have hb2 : Below w.heap.size w ((w.alloc (.cells #[.int .i64 0] 22)).alloc (.cells #[.int .i64 0] 3)) := ((Below.refl _ w).alloc (Nat.le_refl _) _).alloc (by simp) _
  have HC := mkHid (hC _ rfl)
  have hen := hent ((w.alloc (.cells #[.int .i64 0] 22)).alloc (.cells #[.int .i64 0] 3))
  clear hC hent
  go_enter_defers Tryz.func42, Tryz.ntmps42
  go_wp2_with fail
  refine HC.out.mono ?_
  rintro e w1 (⟨rfl, hp, hq, hQ⟩ | ⟨k, n, hk, rfl, hb1, hE⟩)
  · have HQ := mkHid hQ
    clear hQ
    have c0 := cell_blk hp (i := 0) rfl
    have c1 := cell_blk hq (i := 0) rfl
    have f0 := frozen_blk (i := 0) hp
    have f1 := frozen_blk (i := 0) hq
    have l0 := lt_blk hp
    have l1 := lt_blk hq
    go_wp2_with fail
    refine leaves_cons (f := 75) (args := #[.pointer (some ⟨w.heap.size, 0, none⟩), .pointer (some ⟨w.heap.size + 1, 0, none⟩)]) (by simp) (by simp [go_sem]) ?_
    refine (catch_idle ⟨w.heap.size, 0, none⟩ ⟨w.heap.size + 1, 0, none⟩ _).mono ?_
    rintro e u' w'' ⟨rfl, rfl, rfl⟩
    simp [Leaves, settle, results, Tryz.results42, go_sem, c0, c1]
    exact Or.inl ⟨w1, HQ.out, rfl⟩
  · have hp : w1.heap[w.heap.size]? = some (.cells #[.int .i64 0] 22 (0, 0)) := by rw [hb1.block _ (by simp; omega)]; exact first_blk _ _ _
    have hq : w1.heap[w.heap.size + 1]? = some (.cells #[.int .i64 0] 3 (0, 0)) := by rw [hb1.block _ (by simp)]; exact second_blk _ _ _
    have HB : Below w.heap.size w w1 := hb2.trans (hb1.mono (by simp; omega))
    have HE := mkHid (And.intro hk hE)
    clear hb1 hb2 HC hE hk
    go_wp2_with fail
    refine leaves_cons (f := 75) (args := #[.pointer (some ⟨w.heap.size, 0, none⟩), .pointer (some ⟨w.heap.size + 1, 0, none⟩)]) (by simp) (by simp [go_sem]) ?_
    refine (catch_fault w.heap.size (w.heap.size + 1) k n [] _ hp hq (Nat.lt_succ_self _)).mono ?_
    rintro e u' w2 ⟨rfl, rfl, hb3, c0, c1⟩
    have hbb := HB.trans hb3
    simp [Leaves, settle, results, Tryz.results42, go_sem, c0, c1]
    obtain ⟨j, rfl⟩ : ∃ j, k = j + 1 := ⟨k - 1, by have := HE.out.1; omega⟩
    exact Or.inr ⟨j, n, ⟨by simp, rfl⟩, hbb, HE.out.2⟩
end Go.Proofs.YtblbkfdhjfppkaaGreatDoor

/- Contracts of the program: which sort a value is of. -/
namespace Go.Proofs.YtblbkfdhjfppkaaGreatDoor
open Go.RowKit
theorem va_Int_Int (v : Value) (w : World) : (Instr.typeAssert (.iface 315 v) 256 315 true).run Tryz.prog w = .ok (.tuple #[v, .bool true]) w := by kernel_rfl
theorem va_Int_Bool (v : Value) (w : World) : (Instr.typeAssert (.iface 315 v) 256 316 true).run Tryz.prog w = .ok (.tuple #[.bool false, .bool false]) w := by kernel_rfl
theorem va_Int_Str (v : Value) (w : World) : (Instr.typeAssert (.iface 315 v) 256 318 true).run Tryz.prog w = .ok (.tuple #[.string ⟨#[]⟩, .bool false]) w := by kernel_rfl
theorem va_Int_List (v : Value) (w : World) : (Instr.typeAssert (.iface 315 v) 256 319 true).run Tryz.prog w = .ok (.tuple #[.slice none 0 0, .bool false]) w := by kernel_rfl
theorem va_Bool_Int (v : Value) (w : World) : (Instr.typeAssert (.iface 316 v) 256 315 true).run Tryz.prog w = .ok (.tuple #[.int .i64 0, .bool false]) w := by kernel_rfl
theorem va_Bool_Bool (v : Value) (w : World) : (Instr.typeAssert (.iface 316 v) 256 316 true).run Tryz.prog w = .ok (.tuple #[v, .bool true]) w := by kernel_rfl
theorem va_Bool_Str (v : Value) (w : World) : (Instr.typeAssert (.iface 316 v) 256 318 true).run Tryz.prog w = .ok (.tuple #[.string ⟨#[]⟩, .bool false]) w := by kernel_rfl
theorem va_Bool_List (v : Value) (w : World) : (Instr.typeAssert (.iface 316 v) 256 319 true).run Tryz.prog w = .ok (.tuple #[.slice none 0 0, .bool false]) w := by kernel_rfl
theorem va_Str_Int (v : Value) (w : World) : (Instr.typeAssert (.iface 318 v) 256 315 true).run Tryz.prog w = .ok (.tuple #[.int .i64 0, .bool false]) w := by kernel_rfl
theorem va_Str_Bool (v : Value) (w : World) : (Instr.typeAssert (.iface 318 v) 256 316 true).run Tryz.prog w = .ok (.tuple #[.bool false, .bool false]) w := by kernel_rfl
theorem va_Str_Str (v : Value) (w : World) : (Instr.typeAssert (.iface 318 v) 256 318 true).run Tryz.prog w = .ok (.tuple #[v, .bool true]) w := by kernel_rfl
theorem va_Str_List (v : Value) (w : World) : (Instr.typeAssert (.iface 318 v) 256 319 true).run Tryz.prog w = .ok (.tuple #[.slice none 0 0, .bool false]) w := by kernel_rfl
theorem va_List_Int (v : Value) (w : World) : (Instr.typeAssert (.iface 319 v) 256 315 true).run Tryz.prog w = .ok (.tuple #[.int .i64 0, .bool false]) w := by kernel_rfl
theorem va_List_Bool (v : Value) (w : World) : (Instr.typeAssert (.iface 319 v) 256 316 true).run Tryz.prog w = .ok (.tuple #[.bool false, .bool false]) w := by kernel_rfl
theorem va_List_Str (v : Value) (w : World) : (Instr.typeAssert (.iface 319 v) 256 318 true).run Tryz.prog w = .ok (.tuple #[.string ⟨#[]⟩, .bool false]) w := by kernel_rfl
theorem va_List_List (v : Value) (w : World) : (Instr.typeAssert (.iface 319 v) 256 319 true).run Tryz.prog w = .ok (.tuple #[v, .bool true]) w := by kernel_rfl
end Go.Proofs.YtblbkfdhjfppkaaGreatDoor

/- Values, and what is done with them, as the document says: plain functions. -/
namespace Go.Proofs.YtblbkfdhjfppkaaGreatDoor.Hs
structure Val where
  sort : Nat
  n : Int
  s : List UInt8
  l : List Val
theorem Val.ind {P : Val → Prop} (h : ∀ v, (∀ x, x ∈ v.l → P x) → P v) : ∀ v, P v
  | ⟨a, b, c, l⟩ => h ⟨a, b, c, l⟩ fun x _ => Val.ind h x
def vnum (n : Int) : Val := ⟨0, n, [], []⟩
def vtru (b : Bool) : Val := ⟨1, if b then 1 else 0, [], []⟩
def vstr (s : List UInt8) : Val := ⟨2, 0, s, []⟩
def vlst (l : List Val) : Val := ⟨3, 0, [], l⟩
def vnil : Val := ⟨0, 0, [], []⟩
def cells : Val → Nat
  | ⟨_, _, s, l⟩ => 1 + s.length + (l.map cells).sum
theorem cells_eq (v : Val) : cells v = 1 + v.s.length + (v.l.map cells).sum := by
  cases v; rw [cells]
def eachB {α : Type} : List (α → Bool) → List α → Bool
  | [], [] => true
  | f :: fs, x :: xs => f x && eachB fs xs
  | _, _ => false
def same : Val → Val → Bool
  | ⟨a, n, s, l⟩ => fun y => a == y.sort && (n == y.n && (s == y.s && eachB (l.map same) y.l))
theorem same_eq (x y : Val) : same x y = (x.sort == y.sort && (x.n == y.n && (x.s == y.s && eachB (x.l.map same) y.l))) := by
  cases x; rw [same]
theorem same_iff : ∀ x y : Val, same x y = true ↔ x = y := by
  refine Val.ind fun x ih y => ?_
  have hE : ∀ (l : List Val), (∀ v, v ∈ l → ∀ y, same v y = true ↔ v = y) → ∀ m : List Val, eachB (l.map same) m = true ↔ l = m := by
    intro l
    induction l with
    | nil => intro _ m; cases m <;> simp [eachB]
    | cons a l ihl =>
      intro h m
      cases m with
      | nil => simp [eachB]
      | cons b m => simp [eachB, h a (by simp) b, ihl (fun v hv => h v (by simp [hv])) m]
  rw [same_eq]
  simp only [Bool.and_eq_true, beq_iff_eq, hE x.l ih y.l]
  constructor
  · rintro ⟨h1, h2, h3, h4⟩
    cases x; cases y; simp_all
  · rintro rfl; simp
def digitsF : Nat → Nat → List UInt8 → List UInt8
  | 0, _, t => t
  | f + 1, n, t => if n < 10 then UInt8.ofNat (48 + n) :: t else digitsF f (n / 10) (UInt8.ofNat (48 + n % 10) :: t)
def decimalsL (n : Int) : List UInt8 := (if n < 0 then [45] else []) ++ digitsF 20 n.natAbs []
def commas : List (List UInt8) → List UInt8
  | [] => []
  | [x] => x
  | x :: r => x ++ [44, 32] ++ commas r
def written : Val → List UInt8
  | ⟨a, n, s, l⟩ => if a = 0 then decimalsL n else if a = 1 then (if n = 1 then [116, 114, 117, 101] else [102, 97, 108, 115, 101]) else if a = 2 then [34] ++ s ++ [34] else [91] ++ commas (l.map written) ++ [93]
theorem written_eq (v : Val) : written v = if v.sort = 0 then decimalsL v.n else if v.sort = 1 then (if v.n = 1 then [116, 114, 117, 101] else [102, 97, 108, 115, 101]) else if v.sort = 2 then [34] ++ v.s ++ [34] else [91] ++ commas (v.l.map written) ++ [93] := by
  cases v; rw [written]
def textL (v : Val) : List UInt8 := if v.sort = 2 then v.s else written v
def w64 (n : Int) : Int := (n + 9223372036854775808) % 18446744073709551616 - 9223372036854775808
def joinedL (a b : Val) : Val × Nat :=
  let v := if a.sort = 3 then vlst (a.l ++ b.l) else vstr (a.s ++ b.s)
  if 200 < cells v then (vnil, 6) else (v, 0)
def intsL (op : List UInt8) (x y : Int) : Val × Nat :=
  if op = [43] then (vnum (w64 (x + y)), 0)
  else if op = [45] then (vnum (w64 (x - y)), 0)
  else if op = [42] then (vnum (w64 (x * y)), 0)
  else if op = [60] then (vtru (decide (x < y)), 0)
  else if op = [60, 61] then (vtru (decide (x ≤ y)), 0)
  else if y = 0 then (vnil, 3)
  else if op = [47] then (vnum (w64 (x.tdiv y)), 0)
  else (vnum (w64 (x.tmod y)), 0)
def lessL : List UInt8 → List UInt8 → Bool
  | [], [] => false
  | [], _ :: _ => true
  | _ :: _, [] => false
  | a :: l, b :: m => if a.toNat < b.toNat then true else if b.toNat < a.toNat then false else lessL l m
def twoL (op : List UInt8) (a b : Val) : Val × Nat :=
  if op = [61, 61] then (vtru (same a b), 0)
  else if op = [33, 61] then (vtru (!same a b), 0)
  else if a.sort ≠ b.sort ∨ a.sort = 1 then (vnil, 2)
  else if a.sort = 0 then intsL op a.n b.n
  else if op = [43] then joinedL a b
  else if a.sort = 2 ∧ op = [60] then (vtru (lessL a.s b.s), 0)
  else if a.sort = 2 ∧ op = [60, 61] then (vtru (!lessL b.s a.s), 0)
  else (vnil, 2)
def oneL (op : List UInt8) (a : Val) : Val × Nat :=
  if op = [45, 120] ∧ a.sort = 0 then (vnum (w64 (-a.n)), 0)
  else if op = [33, 120] ∧ a.sort = 1 then (vtru (decide (a.n = 0)), 0)
  else (vnil, 2)
end Go.Proofs.YtblbkfdhjfppkaaGreatDoor.Hs

/- Contracts of the document's answer: an Int in decimals. -/
namespace Go.Proofs.YtblbkfdhjfppkaaGreatDoor
open Go.RowKit
theorem bs_append (a b : List UInt8) : bs a ++ bs b = bs (a ++ b) := by
  apply bs_inj
  rw [bs_data, ByteArray.data_append]
  simp [bs]
end Go.Proofs.YtblbkfdhjfppkaaGreatDoor

/- Contracts of the document's answer: a value as it is written; its text. -/
namespace Go.Proofs.YtblbkfdhjfppkaaGreatDoor
open Go.RowKit
theorem digitsF_len (f : Nat) : ∀ n t, (Hs.digitsF f n t).length ≤ t.length + f := by
  induction f with
  | zero => intro n t; simp [Hs.digitsF]
  | succ f ih =>
    intro n t
    rw [Hs.digitsF]
    split
    · simp
    · have := ih (n / 10) (UInt8.ofNat (48 + n % 10) :: t); rw [List.length_cons] at this; omega
theorem decimals_len (n : Int) : (Hs.decimalsL n).length ≤ 21 := by
  unfold Hs.decimalsL
  have := digitsF_len 20 n.natAbs []
  rw [List.length_append]
  split <;> simp at this ⊢ <;> omega
theorem commas_len (l : List Hs.Val) (h : ∀ x ∈ l, (Hs.written x).length + 2 ≤ 24 * Hs.cells x) : (Hs.commas (l.map Hs.written)).length ≤ 24 * (l.map Hs.cells).sum := by
  induction l with
  | nil => simp [Hs.commas]
  | cons y r ih =>
    have h1 := h y (by simp)
    have h2 := ih fun x hx => h x (by simp [hx])
    cases r with
    | nil => simp [Hs.commas]; omega
    | cons z r =>
      simp only [List.map_cons, Hs.commas, List.length_append, List.sum_cons, List.length_cons, List.length_nil] at h2 ⊢
      omega
theorem written_len : ∀ v : Hs.Val, (Hs.written v).length + 2 ≤ 24 * Hs.cells v := by
  refine Hs.Val.ind fun v ih => ?_
  have hc := commas_len v.l ih
  have hd := decimals_len v.n
  rw [Hs.written_eq, Hs.cells_eq]
  split
  · omega
  split
  · split <;> simp <;> omega
  split
  · simp; omega
  · simp; omega
theorem quote_str (s : List UInt8) : (⟨#[34]⟩ : ByteArray) ++ bs s = bs (34 :: s) := bs_append [34] s
theorem quote_end (s : List UInt8) : bs s ++ (⟨#[34]⟩ : ByteArray) = bs (s ++ [34]) := bs_append s [34]
end Go.Proofs.YtblbkfdhjfppkaaGreatDoor

/- Contracts of the document's answer: a value's text; small makers of values; operations of Ints. -/
namespace Go.Proofs.YtblbkfdhjfppkaaGreatDoor
open Go.RowKit
theorem w64_eq (n : Int) : Hs.w64 n = wrap64 n := by unfold Hs.w64 wrap64; rfl
theorem Hs.oneL_neg {op : List UInt8} {a : Hs.Val} (h : op = [45, 120]) (h0 : a.sort = 0) : Hs.oneL op a = (Hs.vnum (wrap64 (-a.n)), 0) := by
  rw [← w64_eq]
  unfold Hs.oneL; rw [if_pos ⟨h, h0⟩]
end Go.Proofs.YtblbkfdhjfppkaaGreatDoor

/- Contracts of the document's answer: operations of two Ints. -/
namespace Go.Proofs.YtblbkfdhjfppkaaGreatDoor
open Go.RowKit
theorem w64_small (n : Int) (h1 : -9223372036854775808 ≤ n) (h2 : n ≤ 9223372036854775807) : Hs.w64 n = n := by unfold Hs.w64; omega
theorem tmod_fit (x y : Int) (hx1 : -9223372036854775808 ≤ x) (hx2 : x ≤ 9223372036854775807) : -9223372036854775808 ≤ x.tmod y ∧ x.tmod y ≤ 9223372036854775807 := by
  have h : (x.tmod y).natAbs = x.natAbs % y.natAbs := Int.natAbs_tmod x y
  have h2 : x.natAbs % y.natAbs ≤ x.natAbs := Nat.mod_le _ _
  by_cases hn : 0 ≤ x
  · have := Int.tmod_nonneg y hn; omega
  · have : x.tmod y ≤ 0 := by
      have := Int.tmod_nonneg y (show 0 ≤ -x by omega)
      rw [Int.neg_tmod] at this; omega
    omega
end Go.Proofs.YtblbkfdhjfppkaaGreatDoor

/- Contracts of the document's answer: rows of values: slices that are made by appending. -/
namespace Go.Proofs.YtblbkfdhjfppkaaGreatDoor
open Go.RowKit
def Grow (F : Nat → Prop) (w w' : World) (b : Nat) : Prop := F b ∨ (w.heap.size ≤ b ∧ b < w'.heap.size)
end Go.Proofs.YtblbkfdhjfppkaaGreatDoor
