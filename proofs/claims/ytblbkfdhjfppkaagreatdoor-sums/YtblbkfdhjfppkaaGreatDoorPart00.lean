/- Plain functions on lists of bytes: lines, characters, blanks, tokens of a source. No Go, no program. -/
import Derived.Test.YtblbkfdhjfppkaaGreatDoorProg
import Derived.WalkKit
import Derived.WalkSpells
import Derived.WalkLawsBesides
import Derived.Lib.Strings
import Derived.BigQuiet
import Derived.Deep.QuietTactic
import Derived.Deep.RegionWith
import Derived.RegionTactic
import Derived.BigRegion
import Derived.Deep.RegionHeld3
import Derived.Deep.AppendLies
import Derived.Deep.DrawnRows
import Derived.Deep.LoopGhost
import Derived.Laws.IdiomStrings
import Derived.Deep.RegionLaw
import Derived.Deep.DeepCutAuto
namespace Go.Proofs.YtblbkfdhjfppkaaGreatDoor.Hs
def lineOf (l : List UInt8) : Nat := 1 + l.count 10
theorem lineOf_append (a b : List UInt8) : lineOf (a ++ b) = lineOf a + b.count 10 := by
  unfold lineOf; rw [List.count_append]; omega
theorem count_le (a : List UInt8) : a.count 10 ≤ a.length := List.count_le_length
theorem lineOf_le (a : List UInt8) : lineOf a ≤ a.length + 1 := by have := count_le a; unfold lineOf; omega
theorem lineOf_snoc (a : List UInt8) (c : UInt8) : lineOf (a ++ [c]) = lineOf a + if c = 10 then 1 else 0 := by
  rw [lineOf_append]
  by_cases h : c = 10 <;> simp [h]
def inR (l : List UInt8) (i lo hi : Nat) : Bool :=
  match l[i]? with
  | some b => decide (lo ≤ b.toNat) && decide (b.toNat ≤ hi)
  | none => false
def charL (l : List UInt8) : Nat :=
  match l[0]? with
  | none => 0
  | some b =>
    if b.toNat < 128 then 1
    else if 194 ≤ b.toNat ∧ b.toNat ≤ 223 then if inR l 1 128 191 then 2 else 0
    else if 224 ≤ b.toNat ∧ b.toNat ≤ 239 then
      if inR l 1 (if b.toNat = 224 then 160 else 128) (if b.toNat = 237 then 159 else 191) && inR l 2 128 191 then 3 else 0
    else if 240 ≤ b.toNat ∧ b.toNat ≤ 244 then
      if inR l 1 (if b.toNat = 240 then 144 else 128) (if b.toNat = 244 then 143 else 191) && inR l 2 128 191 && inR l 3 128 191 then 4 else 0
    else 0
def spoilAt : Nat → List UInt8 → Nat → Option Nat
  | 0, _, _ => none
  | f + 1, l, p =>
    if l.length = 0 then none
    else if charL l = 0 then some p
    else spoilAt f (l.drop (charL l)) (p + charL l)
def digitB (c : UInt8) : Bool := decide (48 ≤ c.toNat) && decide (c.toNat ≤ 57)
def letterB (c : UInt8) : Bool :=
  c.toNat == 95 || (decide (97 ≤ c.toNat) && decide (c.toNat ≤ 122) || decide (65 ≤ c.toNat) && decide (c.toNat ≤ 90))
def startsB (l what : List UInt8) : Bool := what.isPrefixOf l
def spanL (p : UInt8 → Bool) : List UInt8 → Nat
  | [] => 0
  | c :: r => if p c then spanL p r + 1 else 0
theorem spanL_le (p : UInt8 → Bool) (l : List UInt8) : spanL p l ≤ l.length := by
  induction l with
  | nil => simp [spanL]
  | cons c r ih => simp only [spanL]; split <;> simp <;> omega
def notNl (b : UInt8) : Bool := b.toNat != 10
def blankL : Nat → List UInt8 → Nat
  | 0, _ => 0
  | f + 1, l =>
    match l with
    | [] => 0
    | c :: r =>
      if c.toNat = 32 ∨ c.toNat = 9 ∨ c.toNat = 10 then blankL f r + 1
      else if startsB (c :: r) [47, 47] then
        spanL notNl (c :: r) + blankL f ((c :: r).drop (spanL notNl (c :: r)))
      else 0
def maxI : Nat := 9223372036854775807
def wholeL : Nat → List UInt8 → Option Nat
  | n, [] => some n
  | n, c :: r => if (maxI - (c.toNat - 48)) / 10 < n then none else wholeL (10 * n + (c.toNat - 48)) r
def kwords : List (List UInt8) := [[102, 117, 110, 99], [118, 97, 114], [105, 102], [101, 108, 115, 101], [119, 104, 105, 108, 101], [114, 101, 116, 117, 114, 110], [112, 114, 105, 110, 116], [116, 114, 117, 101], [102, 97, 108, 115, 101]]
def others : List (List UInt8) := [[61, 61], [33, 61], [60, 61], [38, 38], [124, 124], [40], [41], [123], [125], [91], [93], [44], [59], [61], [60], [43], [45], [42], [47], [37], [33]]
def wordP (name : Bool) (b : UInt8) : Bool := digitB b || name && letterB b
def strP (b : UInt8) : Bool := b.toNat != 34 && b.toNat != 10
structure Tok where
  sort : Nat
  text : List UInt8
  line : Nat
structure Raw where
  sort : Nat
  text : List UInt8
  size : Nat
  ok : Bool
def wordL (l : List UInt8) (name : Bool) : Raw :=
  if name then { sort := if kwords.contains (l.take (spanL (wordP name) l)) then 107 else 110, text := l.take (spanL (wordP name) l), size := spanL (wordP name) l, ok := decide (spanL (wordP name) l ≤ 16) }
  else { sort := 48, text := l.take (spanL (wordP name) l), size := spanL (wordP name) l, ok := (wholeL 0 (l.take (spanL (wordP name) l))).isSome }
def strL (r : List UInt8) : Raw :=
  { sort := 115, text := r.take (spanL strP r), size := spanL strP r + 2, ok := decide (r[spanL strP r]? = some 34) && decide (spanL strP r ≤ 100) }
def otherL (l : List UInt8) : Raw :=
  match others.find? (fun o => startsB l o) with
  | some o => { sort := 112, text := o, size := o.length, ok := true }
  | none => { sort := 0, text := [], size := 0, ok := false }
def tokL : List UInt8 → Raw
  | [] => { sort := 0, text := [], size := 0, ok := false }
  | c :: r => if digitB c || letterB c then wordL (c :: r) (letterB c) else if c.toNat = 34 then strL r else otherL (c :: r)
def toksL : Nat → List UInt8 → List UInt8 → Except Nat (List Tok)
  | 0, _, _ => .error 0
  | f + 1, pre, l =>
    if l.length = 0 then .ok [{ sort := 101, text := [], line := lineOf pre }]
    else if (tokL l).ok then
      match toksL f (pre ++ l.take ((tokL l).size + blankL l.length (l.drop (tokL l).size))) (l.drop ((tokL l).size + blankL l.length (l.drop (tokL l).size))) with
      | .ok ts => .ok ({ sort := (tokL l).sort, text := (tokL l).text, line := lineOf pre } :: ts)
      | .error n => .error n
    else .error (lineOf pre)
def tokens (l : List UInt8) : Except Nat (List Tok) :=
  toksL (l.length + 1) (l.take (blankL l.length l)) (l.drop (blankL l.length l))
end Go.Proofs.YtblbkfdhjfppkaaGreatDoor.Hs

/- Plain lemmas on blanks and tokens. -/
namespace Go.Proofs.YtblbkfdhjfppkaaGreatDoor.Hs
theorem startsB_len {l w : List UInt8} (h : startsB l w = true) : w.length ≤ l.length := (List.isPrefixOf_iff_prefix.1 h).length_le
theorem blankL_cons (f : Nat) (c : UInt8) (r : List UInt8) : blankL (f + 1) (c :: r) =
    if c.toNat = 32 ∨ c.toNat = 9 ∨ c.toNat = 10 then blankL f r + 1
      else if startsB (c :: r) [47, 47] then spanL notNl (c :: r) + blankL f ((c :: r).drop (spanL notNl (c :: r)))
      else 0 := by
  rw [blankL]
theorem spanL_slash (c : UInt8) (r : List UInt8) (h : startsB (c :: r) [47, 47] = true) : 1 ≤ spanL notNl (c :: r) := by
  have hc : c = 47 := by
    have := List.isPrefixOf_iff_prefix.1 h
    obtain ⟨t, ht⟩ := this
    simp only [List.cons_append, List.cons.injEq] at ht
    exact ht.1.symm
  subst hc
  rw [spanL, if_pos (by decide)]; omega
theorem blankL_le (f : Nat) : ∀ l : List UInt8, blankL f l ≤ l.length := by
  induction f with
  | zero => intro l; simp [blankL]
  | succ f ih =>
    intro l
    cases l with
    | nil => simp [blankL]
    | cons c r =>
      rw [blankL_cons]
      split
      · have := ih r; simp; omega
      · split
        · have h1 := ih ((c :: r).drop (spanL notNl (c :: r)))
          have h2 := spanL_le notNl (c :: r)
          rw [List.length_drop] at h1
          omega
        · omega
theorem blankL_fuel (f : Nat) : ∀ (g : Nat) (l : List UInt8), l.length ≤ f → l.length ≤ g → blankL f l = blankL g l := by
  induction f with
  | zero =>
    intro g l h _
    obtain rfl : l = [] := List.eq_nil_of_length_eq_zero (by omega)
    cases g <;> rfl
  | succ f ih =>
    intro g l h1 h2
    cases l with
    | nil => cases g <;> rfl
    | cons c r =>
      cases g with
      | zero => simp at h2
      | succ g =>
        rw [blankL_cons, blankL_cons]
        simp only [List.length_cons] at h1 h2
        rw [ih g r (by omega) (by omega)]
        by_cases hst : startsB (c :: r) [47, 47] = true
        · have h3 := spanL_slash c r hst
          rw [ih g ((c :: r).drop (spanL notNl (c :: r))) (by rw [List.length_drop, List.length_cons]; omega) (by rw [List.length_drop, List.length_cons]; omega)]
        · simp only [hst]; rfl
theorem wordL_size (l : List UInt8) (b : Bool) : (wordL l b).size = spanL (wordP b) l := by
  unfold wordL; split <;> rfl
theorem tokL_size (l : List UInt8) (h : (tokL l).ok = true) : 1 ≤ (tokL l).size ∧ (tokL l).size ≤ l.length := by
  cases l with
  | nil => simp [tokL] at h
  | cons c r =>
    rw [tokL] at h ⊢
    split
    · rename_i hd
      rw [wordL_size]
      refine ⟨?_, spanL_le _ _⟩
      rw [spanL, if_pos (by
        revert hd; unfold wordP
        cases digitB c <;> cases letterB c <;> simp)]
      omega
    · rename_i hd
      rw [if_neg hd] at h
      split
      · rename_i h34
        rw [if_pos h34] at h
        have h' : (decide (r[spanL strP r]? = some 34) && decide (spanL strP r ≤ 100)) = true := h
        rw [Bool.and_eq_true, decide_eq_true_eq] at h'
        have hlt : spanL strP r < r.length := by
          by_cases hx : spanL strP r < r.length
          · exact hx
          · rw [List.getElem?_eq_none (by omega)] at h'; exact absurd h'.1 (by simp)
        show 1 ≤ spanL strP r + 2 ∧ spanL strP r + 2 ≤ (c :: r).length
        rw [List.length_cons]; omega
      · rename_i h34
        rw [if_neg h34] at h
        unfold otherL at h ⊢
        cases ho : others.find? (fun o => startsB (c :: r) o) with
        | none => rw [ho] at h; simp at h
        | some o =>
          have h1 := List.find?_some ho
          have h2 := List.mem_of_find?_eq_some ho
          refine ⟨?_, startsB_len h1⟩
          have : ∀ o ∈ others, 1 ≤ o.length := by decide
          exact this o h2
def prepend (ts : List Tok) : Except Nat (List Tok) → Except Nat (List Tok)
  | .ok l => .ok (ts ++ l)
  | .error n => .error n
theorem prepend_nil (x : Except Nat (List Tok)) : prepend [] x = x := by cases x <;> rfl
theorem prepend_snoc (ts : List Tok) (t : Tok) (x : Except Nat (List Tok)) : prepend (ts ++ [t]) x = prepend ts (prepend [t] x) := by cases x <;> simp [prepend]
theorem toksL_end (f : Nat) (pre l : List UInt8) (h : l.length = 0) : toksL (f + 1) pre l = .ok [{ sort := 101, text := [], line := lineOf pre }] := by
  rw [toksL, if_pos h]
theorem toksL_bad (f : Nat) (pre l : List UInt8) (h : ¬ l.length = 0) (hk : (tokL l).ok = false) : toksL (f + 1) pre l = .error (lineOf pre) := by
  rw [toksL, if_neg h, if_neg (by rw [hk]; simp)]
theorem toksL_step (f : Nat) (pre l : List UInt8) (h : ¬ l.length = 0) (hk : (tokL l).ok = true) (m : Nat) (hm : m = (tokL l).size + blankL l.length (l.drop (tokL l).size)) :
    toksL (f + 1) pre l = prepend [{ sort := (tokL l).sort, text := (tokL l).text, line := lineOf pre }] (toksL f (pre ++ l.take m) (l.drop m)) := by
  rw [toksL, if_neg h, if_pos hk, ← hm]
  cases toksL f (pre ++ l.take m) (l.drop m) <;> rfl
end Go.Proofs.YtblbkfdhjfppkaaGreatDoor.Hs

/- The tree of a program, and how it is read off the tokens: plain functions. -/
namespace Go.Proofs.YtblbkfdhjfppkaaGreatDoor.Hs
structure Ast where
  op : List UInt8
  line : Nat
  text : List UInt8
  kids : List Ast
def tk (ts : List Tok) (p : Nat) : Tok := ts[p]?.getD { sort := 101, text := [], line := 0 }
def isT (ts : List Tok) (p : Nat) (x : List UInt8) : Bool := ((tk ts p).sort == 112 || (tk ts p).sort == 107) && (tk ts p).text == x
abbrev R (α : Type) := Except Nat (α × Nat)
def bad {α : Type} (ts : List Tok) (p : Nat) : R α := .error (tk ts p).line
def levelOf (x : List UInt8) : Nat :=
  if x == [124, 124] then 0
  else if x == [38, 38] then 1
  else if x == [61, 61] || (x == [33, 61] || (x == [60] || x == [60, 61])) then 2
  else if x == [43] || x == [45] then 3
  else if x == [42] || (x == [47] || x == [37]) then 4
  else 9
def listLoop (E : Nat → R Ast) (ts : List Tok) : Nat → Nat → List Ast → R (List Ast)
  | 0, _, _ => .error 0
  | g + 1, p, acc =>
    match E p with
    | .error l => .error l
    | .ok (a, q) => if isT ts q [44] then listLoop E ts g (q + 1) (acc ++ [a]) else .ok (acc ++ [a], q)
def listIn (E : Nat → R Ast) (ts : List Tok) (p : Nat) (shut : List UInt8) : R (List Ast) :=
  if isT ts p shut then .ok ([], p) else listLoop E ts (ts.length + 1) p []
def thenTake {α : Type} (ts : List Tok) (x : List UInt8) : R α → R α
  | .error l => .error l
  | .ok (a, q) => if isT ts q x then .ok (a, q + 1) else bad ts q
def listP (E : Nat → R Ast) (ts : List Tok) (p : Nat) (opens shut : List UInt8) : R (List Ast) :=
  if isT ts p opens then thenTake ts shut (listIn E ts (p + 1) shut) else bad ts p
def mapR {α β : Type} (f : α → β) : R α → R β
  | .error l => .error l
  | .ok (a, q) => .ok (f a, q)
def bindR {α β : Type} (x : R α) (f : α → Nat → R β) : R β :=
  match x with
  | .error l => .error l
  | .ok (a, q) => f a q
def node (op : List UInt8) (line : Nat) (text : List UInt8) (kids : List Ast) : Ast := { op := op, line := line, text := text, kids := kids }
def primaryP (E : Nat → R Ast) (ts : List Tok) (p : Nat) : R Ast :=
  if (tk ts p).sort == 48 || (tk ts p).sort == 115 then .ok (node [UInt8.ofNat (tk ts p).sort] (tk ts p).line (tk ts p).text [], p + 1)
  else if isT ts p [116, 114, 117, 101] || isT ts p [102, 97, 108, 115, 101] then .ok (node [98, 111, 111, 108] (tk ts p).line (tk ts p).text [], p + 1)
  else if isT ts p [40] then thenTake ts [41] (E (p + 1))
  else if isT ts p [91] then mapR (node [108, 105, 115, 116] (tk ts p).line (tk ts p).text) (listP E ts p [91] [93])
  else if (tk ts p).sort == 110 then
    if isT ts (p + 1) [40] then mapR (node [99, 97, 108, 108] (tk ts p).line (tk ts p).text) (listP E ts (p + 1) [40] [41])
    else .ok (node [110, 97, 109, 101] (tk ts p).line (tk ts p).text [], p + 1)
  else bad ts p
def indexLoop (E : Nat → R Ast) (ts : List Tok) : Nat → Ast → Nat → R Ast
  | 0, _, _ => .error 0
  | g + 1, n, p =>
    if isT ts p [91] then
      match thenTake ts [93] (E (p + 1)) with
      | .error l => .error l
      | .ok (i, q) => indexLoop E ts g (node [105, 110, 100, 101, 120] (tk ts p).line [] [n, i]) q
    else .ok (n, p)
def unaryP (E : Nat → R Ast) (ts : List Tok) : Nat → Nat → R Ast
  | 0, _ => .error 0
  | g + 1, p =>
    if isT ts p [45] then mapR (fun x => node [45, 120] (tk ts p).line [] [x]) (unaryP E ts g (p + 1))
    else if isT ts p [33] then mapR (fun x => node [33, 120] (tk ts p).line [] [x]) (unaryP E ts g (p + 1))
    else bindR (primaryP E ts p) (indexLoop E ts (ts.length + 1))
def levelLoop (L : Nat → R Ast) (ts : List Tok) (k : Nat) : Nat → Ast → Nat → R Ast
  | 0, _, _ => .error 0
  | g + 1, n, q =>
    if (tk ts q).sort == 112 && levelOf (tk ts q).text == k then
      match L (q + 1) with
      | .error l => .error l
      | .ok (r, q2) => if k = 2 then .ok (node (tk ts q).text (tk ts q).line [] [n, r], q2) else levelLoop L ts k g (node (tk ts q).text (tk ts q).line [] [n, r]) q2
    else .ok (n, q)
def levelP (E : Nat → R Ast) (ts : List Tok) : Nat → Nat → R Ast
  | 0, p => unaryP E ts (ts.length + 1) p
  | j + 1, p => bindR (levelP E ts j p) (levelLoop (levelP E ts j) ts (4 - j) (ts.length + 1))
def exprP (ts : List Tok) : Nat → Nat → R Ast
  | 0, _ => .error 0
  | f + 1, p => levelP (exprP ts f) ts 5 p
def setLoop (E : Nat → R Ast) (ts : List Tok) : Nat → Nat → List Ast → R (List Ast)
  | 0, _, _ => .error 0
  | g + 1, p, acc =>
    if isT ts p [91] then
      match thenTake ts [93] (E (p + 1)) with
      | .error l => .error l
      | .ok (i, q) => setLoop E ts g q (acc ++ [i])
    else .ok (acc, p)
def simpleP (E : Nat → R Ast) (ts : List Tok) (p : Nat) : R Ast :=
  if (tk ts p).sort == 110 then
    if isT ts (p + 1) [40] then
      thenTake ts [59] (mapR (fun l => node [100, 111] (tk ts p).line (tk ts p).text [node [99, 97, 108, 108] (tk ts p).line (tk ts p).text l]) (listP E ts (p + 1) [40] [41]))
    else
      bindR (thenTake ts [61] (setLoop E ts (ts.length + 1) (p + 1) [])) fun idx q =>
        thenTake ts [59] (mapR (fun v => node [115, 101, 116] (tk ts p).line (tk ts p).text (idx ++ [v])) (E q))
  else bad ts p
def varP (E : Nat → R Ast) (ts : List Tok) (p : Nat) : R Ast :=
  if (tk ts (p + 1)).sort == 110 then
    if isT ts (p + 2) [61] then
      thenTake ts [59] (mapR (fun v => node [118, 97, 114] (tk ts p).line [] [node [116, 97, 114, 103, 101, 116] (tk ts (p + 1)).line (tk ts (p + 1)).text [], v]) (E (p + 3)))
    else bad ts (p + 2)
  else bad ts (p + 1)
def ifP (E B : Nat → R Ast) (ts : List Tok) (p : Nat) : R Ast :=
  bindR (E (p + 1)) fun c q => bindR (B q) fun b q2 =>
    if isT ts q2 [101, 108, 115, 101] then mapR (fun d => node [105, 102] (tk ts p).line [] [c, b, d]) (B (q2 + 1))
    else .ok (node [105, 102] (tk ts p).line [] [c, b], q2)
def whileP (E B : Nat → R Ast) (ts : List Tok) (p : Nat) : R Ast :=
  bindR (E (p + 1)) fun c q => mapR (fun b => node [119, 104, 105, 108, 101] (tk ts p).line [] [c, b]) (B q)
def returnP (E : Nat → R Ast) (ts : List Tok) (p : Nat) : R Ast :=
  if isT ts (p + 1) [59] then .ok (node [114, 101, 116, 117, 114, 110] (tk ts p).line [] [], p + 2)
  else thenTake ts [59] (mapR (fun v => node [114, 101, 116, 117, 114, 110] (tk ts p).line [] [v]) (E (p + 1)))
def printP (E : Nat → R Ast) (ts : List Tok) (p : Nat) : R Ast :=
  thenTake ts [59] (mapR (fun v => node [112, 114, 105, 110, 116] (tk ts p).line [] [v]) (E (p + 1)))
def stmtP (E B : Nat → R Ast) (ts : List Tok) (p : Nat) : R Ast :=
  if isT ts p [118, 97, 114] then varP E ts p
  else if isT ts p [105, 102] then ifP E B ts p
  else if isT ts p [119, 104, 105, 108, 101] then whileP E B ts p
  else if isT ts p [114, 101, 116, 117, 114, 110] then returnP E ts p
  else if isT ts p [112, 114, 105, 110, 116] then printP E ts p
  else simpleP E ts p
def blockLoop (S : Nat → R Ast) (ts : List Tok) : Nat → Nat → List Ast → R (List Ast)
  | 0, _, _ => .error 0
  | g + 1, p, acc =>
    if isT ts p [125] then .ok (acc, p)
    else
      match S p with
      | .error l => .error l
      | .ok (s, q) => blockLoop S ts g q (acc ++ [s])
def blockP (E : Nat → R Ast) (ts : List Tok) : Nat → Nat → R Ast
  | 0, _ => .error 0
  | f + 1, p =>
    if isT ts p [123] then
      mapR (node [98, 108, 111, 99, 107] (tk ts p).line []) (thenTake ts [125] (blockLoop (stmtP E (blockP E ts f) ts) ts (ts.length + 1) (p + 1) []))
    else bad ts p
def paramLoop (ts : List Tok) : Nat → Nat → List Ast → R (List Ast)
  | 0, _, _ => .error 0
  | g + 1, p, acc =>
    if (tk ts p).sort == 110 then
      if isT ts (p + 1) [44] then paramLoop ts g (p + 2) (acc ++ [node [112, 97, 114, 97, 109] (tk ts p).line (tk ts p).text []])
      else .ok (acc ++ [node [112, 97, 114, 97, 109] (tk ts p).line (tk ts p).text []], p + 1)
    else bad ts p
def paramsP (ts : List Tok) (p : Nat) : R (List Ast) :=
  thenTake ts [41] (if isT ts p [41] then .ok ([], p) else paramLoop ts (ts.length + 1) p [])
def funcP (B : Nat → R Ast) (ts : List Tok) (p : Nat) : R Ast :=
  if isT ts p [102, 117, 110, 99] then
    if (tk ts (p + 1)).sort == 110 then
      if isT ts (p + 2) [40] then
        bindR (paramsP ts (p + 3)) fun l q => mapR (fun b => node [102, 117, 110, 99] (tk ts (p + 1)).line (tk ts (p + 1)).text (l ++ [b])) (B q)
      else bad ts (p + 2)
    else bad ts (p + 1)
  else bad ts p
def progLoop (F : Nat → R Ast) (ts : List Tok) : Nat → Nat → List Ast → R (List Ast)
  | 0, _, _ => .error 0
  | g + 1, p, acc =>
    if (tk ts p).sort == 101 then .ok (acc, p)
    else
      match F p with
      | .error l => .error l
      | .ok (s, q) => progLoop F ts g q (acc ++ [s])
def progP (ts : List Tok) : R (List Ast) :=
  progLoop (funcP (blockP (exprP ts (ts.length + 1)) ts (ts.length + 1)) ts) ts (ts.length + 1) 0 []
end Go.Proofs.YtblbkfdhjfppkaaGreatDoor.Hs

/- The plain reading never runs out of fuel: what is read is behind where it began. -/
namespace Go.Proofs.YtblbkfdhjfppkaaGreatDoor.Hs
structure TsOk (ts : List Tok) : Prop where
  next : ∀ p, p < ts.length → (tk ts p).sort ≠ 101 → p + 1 < ts.length
  line : ∀ p, p < ts.length → (tk ts p).line ≠ 0
structure Fit {α : Type} (N p : Nat) (r : R α) : Prop where
  er : ∀ l, r = .error l → l ≠ 0
  ok : ∀ a q, r = .ok (a, q) → p < q ∧ q < N
structure FitW {α : Type} (N p : Nat) (r : R α) : Prop where
  er : ∀ l, r = .error l → l ≠ 0
  ok : ∀ a q, r = .ok (a, q) → p ≤ q ∧ q < N
theorem Fit.weak {α : Type} {N p : Nat} {r : R α} (h : Fit N p r) : FitW N p r := ⟨h.er, fun a q e => by have := h.ok a q e; omega⟩
theorem Fit.ne {α : Type} {N p : Nat} {r : R α} (h : Fit N p r) : r ≠ .error 0 := fun e => h.er 0 e rfl
theorem FitW.ne {α : Type} {N p : Nat} {r : R α} (h : FitW N p r) : r ≠ .error 0 := fun e => h.er 0 e rfl
theorem Fit.low {α : Type} {N p p' : Nat} {r : R α} (h : Fit N p r) (hp : p' ≤ p) : Fit N p' r := ⟨h.er, fun a q e => by have := h.ok a q e; omega⟩
theorem FitW.low {α : Type} {N p p' : Nat} {r : R α} (h : FitW N p r) (hp : p' < p) : Fit N p' r := ⟨h.er, fun a q e => by have := h.ok a q e; omega⟩
theorem Fit.of_ok {α : Type} {N p q : Nat} (a : α) (h : p < q) (h2 : q < N) : Fit N p (.ok (a, q) : R α) := ⟨(fun l e => by cases e), fun a' q' e => by cases e; exact ⟨h, h2⟩⟩
theorem FitW.of_ok {α : Type} {N p q : Nat} (a : α) (h : p ≤ q) (h2 : q < N) : FitW N p (.ok (a, q) : R α) := ⟨(fun l e => by cases e), fun a' q' e => by cases e; exact ⟨h, h2⟩⟩
theorem Fit.map {α β : Type} {N p : Nat} {r : R α} (f : α → β) (h : Fit N p r) : Fit N p (mapR f r) := by
  cases r with
  | error l => exact ⟨fun l' e => by cases e; exact h.er _ rfl, fun a q e => by cases e⟩
  | ok aq => obtain ⟨a, q⟩ := aq; exact ⟨(fun l e => by cases e), fun a' q' e => by cases e; exact h.ok _ _ rfl⟩
theorem TsOk.isT {ts : List Tok} (T : TsOk ts) {p : Nat} {x : List UInt8} (hp : p < ts.length) (h : isT ts p x = true) : p + 1 < ts.length := by
  refine T.next p hp fun e => ?_
  unfold Hs.isT at h; rw [e] at h; simp at h
theorem TsOk.bad {ts : List Tok} (T : TsOk ts) {α : Type} {p p' : Nat} (hp : p < ts.length) : Fit ts.length p' (bad ts p : R α) := ⟨fun l e => by cases e; exact T.line p hp, fun a q e => by cases e⟩
theorem TsOk.take {ts : List Tok} (T : TsOk ts) {α : Type} {p : Nat} {x : List UInt8} {r : R α} (h : Fit ts.length p r) : Fit ts.length p (thenTake ts x r) := by
  cases r with
  | error l => exact ⟨fun l' e => by cases e; exact h.er _ rfl, fun a q e => by cases e⟩
  | ok aq =>
    obtain ⟨a, q⟩ := aq
    have hq := h.ok a q rfl
    unfold thenTake
    simp only
    split
    · rename_i hi
      exact Fit.of_ok a (by omega) (T.isT hq.2 hi)
    · exact T.bad hq.2
theorem TsOk.takeW {ts : List Tok} (T : TsOk ts) {α : Type} {p : Nat} {x : List UInt8} {r : R α} (h : FitW ts.length p r) : Fit ts.length p (thenTake ts x r) := by
  cases r with
  | error l => exact ⟨fun l' e => by cases e; exact h.er _ rfl, fun a q e => by cases e⟩
  | ok aq =>
    obtain ⟨a, q⟩ := aq
    have hq := h.ok a q rfl
    unfold thenTake
    simp only
    split
    · rename_i hi
      exact Fit.of_ok a (by omega) (T.isT hq.2 hi)
    · exact T.bad hq.2
theorem TsOk.listLoop {ts : List Tok} (T : TsOk ts) {E : Nat → R Ast} {p0 : Nat} (HE : ∀ q, p0 < q → q < ts.length → Fit ts.length q (E q)) : ∀ (g p : Nat) (acc : List Ast), p0 < p → p < ts.length → ts.length ≤ p + g → Fit ts.length p (listLoop E ts g p acc)
  | 0, p, acc, _, h1, h2 => by omega
  | g + 1, p, acc, h0, h1, h2 => by
    have hE := HE p h0 h1
    rw [Hs.listLoop]
    cases hx : E p with
    | error l => exact ⟨fun l' e => by cases e; exact hE.er _ hx, fun a q e => by cases e⟩
    | ok aq =>
      obtain ⟨a, q⟩ := aq
      have hq := hE.ok a q hx
      simp only
      split
      · rename_i hi
        have := T.isT hq.2 hi
        exact (TsOk.listLoop T HE g (q + 1) (acc ++ [a]) (by omega) this (by omega)).low (by omega)
      · exact Fit.of_ok _ hq.1 hq.2
theorem TsOk.listIn {ts : List Tok} (T : TsOk ts) {E : Nat → R Ast} {p0 : Nat} (HE : ∀ q, p0 < q → q < ts.length → Fit ts.length q (E q)) {p : Nat} (h0 : p0 < p) (h1 : p < ts.length) (y : List UInt8) : FitW ts.length p (listIn E ts p y) := by
  unfold Hs.listIn
  split
  · exact FitW.of_ok _ (Nat.le_refl _) h1
  · exact (T.listLoop HE (ts.length + 1) p [] h0 h1 (by omega)).weak
theorem TsOk.listP {ts : List Tok} (T : TsOk ts) {E : Nat → R Ast} {p0 : Nat} (HE : ∀ q, p0 < q → q < ts.length → Fit ts.length q (E q)) {p : Nat} (h0 : p0 ≤ p) (h1 : p < ts.length) (x y : List UInt8) : Fit ts.length p (listP E ts p x y) := by
  unfold Hs.listP
  split
  · rename_i hi
    have := T.isT h1 hi
    exact (T.takeW (T.listIn HE (p := p + 1) (by omega) this y)).low (by omega)
  · exact T.bad h1
theorem TsOk.primary {ts : List Tok} (T : TsOk ts) {E : Nat → R Ast} {p0 : Nat} (HE : ∀ q, p0 < q → q < ts.length → Fit ts.length q (E q)) {p : Nat} (h0 : p0 ≤ p) (h1 : p < ts.length) : Fit ts.length p (primaryP E ts p) := by
  unfold primaryP
  split
  · rename_i hi
    refine Fit.of_ok _ (by omega) (T.next p h1 fun e => ?_)
    rw [e] at hi; simp at hi
  split
  · rename_i hi
    refine Fit.of_ok _ (by omega) ?_
    rcases Bool.or_eq_true_iff.1 hi with hi | hi
    · exact T.isT h1 hi
    · exact T.isT h1 hi
  split
  · rename_i hi
    have := T.isT h1 hi
    exact T.take ((HE (p + 1) (by omega) this).low (by omega))
  split
  · exact (T.listP HE h0 h1 _ _).map _
  split
  · rename_i hi
    have hp : p + 1 < ts.length := T.next p h1 fun e => by rw [e] at hi; simp at hi
    split
    · exact ((T.listP HE (p := p + 1) (by omega) hp _ _).low (by omega)).map _
    · exact Fit.of_ok _ (by omega) hp
  · exact T.bad h1
theorem TsOk.index {ts : List Tok} (T : TsOk ts) {E : Nat → R Ast} {p0 : Nat} (HE : ∀ q, p0 < q → q < ts.length → Fit ts.length q (E q)) : ∀ (g : Nat) (n : Ast) (p : Nat), p0 ≤ p → p < ts.length → ts.length ≤ p + g → FitW ts.length p (indexLoop E ts g n p)
  | 0, n, p, _, h1, h2 => by omega
  | g + 1, n, p, h0, h1, h2 => by
    rw [Hs.indexLoop]
    split
    · rename_i hi
      have hp := T.isT h1 hi
      have hE := T.take (x := [93]) (HE (p + 1) (by omega) hp)
      cases hx : thenTake ts [93] (E (p + 1)) with
      | error l => exact ⟨fun l' e => by cases e; exact hE.er _ hx, fun a q e => by cases e⟩
      | ok iq =>
        obtain ⟨i, q⟩ := iq
        have hq := hE.ok i q hx
        exact ((TsOk.index T HE g _ q (by omega) hq.2 (by omega)).low (by omega : p < q)).weak
    · exact FitW.of_ok _ (Nat.le_refl _) h1
theorem TsOk.bind {ts : List Tok} (_T : TsOk ts) {α β : Type} {p : Nat} {r : R α} {f : α → Nat → R β} (h : Fit ts.length p r) (hf : ∀ a q, p < q → q < ts.length → FitW ts.length q (f a q)) : Fit ts.length p (bindR r f) := by
  cases r with
  | error l => exact ⟨fun l' e => by cases e; exact h.er _ rfl, fun a q e => by cases e⟩
  | ok aq =>
    obtain ⟨a, q⟩ := aq
    have hq := h.ok a q rfl
    exact (hf a q hq.1 hq.2).low hq.1
theorem TsOk.unary {ts : List Tok} (T : TsOk ts) {E : Nat → R Ast} {p0 : Nat} (HE : ∀ q, p0 < q → q < ts.length → Fit ts.length q (E q)) : ∀ (g p : Nat), p0 ≤ p → p < ts.length → ts.length ≤ p + g → Fit ts.length p (unaryP E ts g p)
  | 0, p, _, h1, h2 => by omega
  | g + 1, p, h0, h1, h2 => by
    rw [Hs.unaryP]
    split
    · rename_i hi
      have hp := T.isT h1 hi
      exact ((TsOk.unary T HE g (p + 1) (by omega) hp (by omega)).low (by omega)).map _
    split
    · rename_i hi
      have hp := T.isT h1 hi
      exact ((TsOk.unary T HE g (p + 1) (by omega) hp (by omega)).low (by omega)).map _
    · exact T.bind (T.primary HE h0 h1) fun a q hq1 hq2 => T.index HE _ a q (by omega) hq2 (by omega)
theorem TsOk.levelLoop {ts : List Tok} (T : TsOk ts) {L : Nat → R Ast} {p0 k : Nat} (HL : ∀ q, p0 ≤ q → q < ts.length → Fit ts.length q (L q)) : ∀ (g : Nat) (n : Ast) (q : Nat), p0 ≤ q → q < ts.length → ts.length ≤ q + g → FitW ts.length q (levelLoop L ts k g n q)
  | 0, n, q, _, h1, h2 => by omega
  | g + 1, n, q, h0, h1, h2 => by
    rw [Hs.levelLoop]
    split
    · rename_i hi
      have hp : q + 1 < ts.length := T.next q h1 fun e => by rw [e] at hi; simp at hi
      have hE := HL (q + 1) (by omega) hp
      cases hx : L (q + 1) with
      | error l => exact ⟨fun l' e => by cases e; exact hE.er _ hx, fun a q e => by cases e⟩
      | ok rq =>
        obtain ⟨r, q2⟩ := rq
        have hq := hE.ok r q2 hx
        simp only
        split
        · exact FitW.of_ok _ (by omega) hq.2
        · exact ((TsOk.levelLoop T HL g _ q2 (by omega) hq.2 (by omega)).low (by omega : q < q2)).weak
    · exact FitW.of_ok _ (Nat.le_refl _) h1
theorem TsOk.level {ts : List Tok} (T : TsOk ts) {E : Nat → R Ast} {p0 : Nat} (HE : ∀ q, p0 < q → q < ts.length → Fit ts.length q (E q)) : ∀ (j p : Nat), p0 ≤ p → p < ts.length → Fit ts.length p (levelP E ts j p)
  | 0, p, h0, h1 => T.unary HE _ p h0 h1 (by omega)
  | j + 1, p, h0, h1 => by
    rw [Hs.levelP]
    exact T.bind (TsOk.level T HE j p h0 h1) fun a q hq1 hq2 => T.levelLoop (p0 := p0) (fun q h0 h1 => TsOk.level T HE j q h0 h1) _ a q (by omega) hq2 (by omega)
theorem TsOk.expr {ts : List Tok} (T : TsOk ts) : ∀ (f p : Nat), p < ts.length → ts.length ≤ p + f → Fit ts.length p (exprP ts f p)
  | 0, p, h1, h2 => by omega
  | f + 1, p, h1, h2 => by
    rw [Hs.exprP]
    exact T.level (p0 := p) (fun q hq1 hq2 => TsOk.expr T f q hq2 (by omega)) 5 p (Nat.le_refl _) h1
theorem TsOk.exprs {ts : List Tok} (T : TsOk ts) : ∀ q, q < ts.length → Fit ts.length q (exprP ts (ts.length + 1) q) := fun q hq => T.expr _ q hq (by omega)
theorem TsOk.setLoop {ts : List Tok} (T : TsOk ts) {E : Nat → R Ast} (HE : ∀ q, q < ts.length → Fit ts.length q (E q)) : ∀ (g p : Nat) (acc : List Ast), p < ts.length → ts.length ≤ p + g → FitW ts.length p (setLoop E ts g p acc)
  | 0, p, acc, h1, h2 => by omega
  | g + 1, p, acc, h1, h2 => by
    rw [Hs.setLoop]
    split
    · rename_i hi
      have hp := T.isT h1 hi
      have hE := T.take (x := [93]) (HE (p + 1) hp)
      cases hx : thenTake ts [93] (E (p + 1)) with
      | error l => exact ⟨fun l' e => by cases e; exact hE.er _ hx, fun a q e => by cases e⟩
      | ok iq =>
        obtain ⟨i, q⟩ := iq
        have hq := hE.ok i q hx
        exact ((TsOk.setLoop T HE g q _ hq.2 (by omega)).low (by omega : p < q)).weak
    · exact FitW.of_ok _ (Nat.le_refl _) h1
theorem TsOk.simple {ts : List Tok} (T : TsOk ts) {E : Nat → R Ast} (HE : ∀ q, q < ts.length → Fit ts.length q (E q)) {p : Nat} (h1 : p < ts.length) : Fit ts.length p (simpleP E ts p) := by
  unfold simpleP
  split
  · rename_i hi
    have hp : p + 1 < ts.length := T.next p h1 fun e => by rw [e] at hi; simp at hi
    split
    · exact T.take (((T.listP (p0 := p) (fun q _ hq => HE q hq) (p := p + 1) (by omega) hp _ _).low (by omega)).map _)
    · exact T.bind ((T.takeW (T.setLoop HE _ (p + 1) [] hp (by omega))).low (by omega)) fun idx q _ hq => (T.take ((HE q hq).map _)).weak
  · exact T.bad h1
theorem TsOk.stmt {ts : List Tok} (T : TsOk ts) {E B : Nat → R Ast} {p : Nat} (HE : ∀ q, q < ts.length → Fit ts.length q (E q)) (HB : ∀ q, p < q → q < ts.length → Fit ts.length q (B q)) (h1 : p < ts.length) : Fit ts.length p (stmtP E B ts p) := by
  unfold stmtP
  split
  · rename_i hi
    have hp := T.isT h1 hi
    unfold varP
    split
    · rename_i h110
      have hp2 : p + 2 < ts.length := T.next (p + 1) hp fun e => by rw [e] at h110; simp at h110
      split
      · rename_i h61
        have hp3 : p + 3 < ts.length := T.isT hp2 h61
        exact T.take (((HE (p + 3) hp3).low (by omega)).map _)
      · exact T.bad hp2
    · exact T.bad hp
  split
  · rename_i hi
    have hp := T.isT h1 hi
    unfold ifP
    refine T.bind ((HE (p + 1) hp).low (by omega)) fun c q hq1 hq2 => (T.bind (HB q hq1 hq2) fun b q2 hq3 hq4 => ?_).weak
    split
    · rename_i hel
      have := T.isT hq4 hel
      exact (((HB (q2 + 1) (by omega) this).low (by omega)).map _).weak
    · exact FitW.of_ok _ (Nat.le_refl _) hq4
  split
  · rename_i hi
    have hp := T.isT h1 hi
    unfold whileP
    exact T.bind ((HE (p + 1) hp).low (by omega)) fun c q hq1 hq2 => ((HB q hq1 hq2).map _).weak
  split
  · rename_i hi
    have hp := T.isT h1 hi
    unfold returnP
    split
    · rename_i h59
      exact Fit.of_ok _ (by omega) (T.isT hp h59)
    · exact T.take (((HE (p + 1) hp).low (by omega)).map _)
  split
  · rename_i hi
    have hp := T.isT h1 hi
    unfold printP
    exact T.take (((HE (p + 1) hp).low (by omega)).map _)
  · exact T.simple HE h1
theorem TsOk.blockLoop {ts : List Tok} (_T : TsOk ts) {S : Nat → R Ast} {p0 : Nat} (HS : ∀ q, p0 < q → q < ts.length → Fit ts.length q (S q)) : ∀ (g p : Nat) (acc : List Ast), p0 < p → p < ts.length → ts.length ≤ p + g → FitW ts.length p (blockLoop S ts g p acc)
  | 0, p, acc, _, h1, h2 => by omega
  | g + 1, p, acc, h0, h1, h2 => by
    rw [Hs.blockLoop]
    split
    · exact FitW.of_ok _ (Nat.le_refl _) h1
    · have hE := HS p h0 h1
      cases hx : S p with
      | error l => exact ⟨fun l' e => by cases e; exact hE.er _ hx, fun a q e => by cases e⟩
      | ok sq =>
        obtain ⟨s, q⟩ := sq
        have hq := hE.ok s q hx
        exact ((TsOk.blockLoop _T HS g q _ (by omega) hq.2 (by omega)).low (by omega : p < q)).weak
theorem TsOk.block {ts : List Tok} (T : TsOk ts) {E : Nat → R Ast} (HE : ∀ q, q < ts.length → Fit ts.length q (E q)) : ∀ (f p : Nat), p < ts.length → ts.length ≤ p + f → Fit ts.length p (blockP E ts f p)
  | 0, p, h1, h2 => by omega
  | f + 1, p, h1, h2 => by
    rw [Hs.blockP]
    split
    · rename_i hi
      have hp := T.isT h1 hi
      refine ((T.takeW (T.blockLoop (p0 := p) (fun q hq1 hq2 => T.stmt HE (fun q' h' h'' => TsOk.block T HE f q' h'' (by omega)) hq2) _ (p + 1) [] (by omega) hp (by omega))).low (by omega)).map _
    · exact T.bad h1
theorem TsOk.paramLoop {ts : List Tok} (T : TsOk ts) : ∀ (g p : Nat) (acc : List Ast), p < ts.length → ts.length ≤ p + g → Fit ts.length p (paramLoop ts g p acc)
  | 0, p, acc, h1, h2 => by omega
  | g + 1, p, acc, h1, h2 => by
    rw [Hs.paramLoop]
    split
    · rename_i hi
      have hp : p + 1 < ts.length := T.next p h1 fun e => by rw [e] at hi; simp at hi
      split
      · rename_i h44
        have hp2 : p + 2 < ts.length := T.isT hp h44
        exact (TsOk.paramLoop T g (p + 2) _ hp2 (by omega)).low (by omega)
      · exact Fit.of_ok _ (by omega) hp
    · exact T.bad h1
theorem TsOk.func {ts : List Tok} (T : TsOk ts) {B : Nat → R Ast} (HB : ∀ q, q < ts.length → Fit ts.length q (B q)) {p : Nat} (h1 : p < ts.length) : Fit ts.length p (funcP B ts p) := by
  unfold funcP
  split
  · rename_i hi
    have hp := T.isT h1 hi
    split
    · rename_i h110
      have hp2 : p + 2 < ts.length := T.next (p + 1) hp fun e => by rw [e] at h110; simp at h110
      split
      · rename_i h40
        have hp3 : p + 3 < ts.length := T.isT hp2 h40
        have hpar : Fit ts.length (p + 3) (paramsP ts (p + 3)) := by
          unfold paramsP
          refine T.takeW ?_
          split
          · exact FitW.of_ok _ (Nat.le_refl _) hp3
          · exact (T.paramLoop _ (p + 3) [] hp3 (by omega)).weak
        exact T.bind (hpar.low (by omega)) fun l q _ hq => ((HB q hq).map _).weak
      · exact T.bad hp2
    · exact T.bad hp
  · exact T.bad h1
theorem TsOk.progLoop {ts : List Tok} (_T : TsOk ts) {F : Nat → R Ast} (HF : ∀ q, q < ts.length → Fit ts.length q (F q)) : ∀ (g p : Nat) (acc : List Ast), p < ts.length → ts.length ≤ p + g → FitW ts.length p (progLoop F ts g p acc)
  | 0, p, acc, h1, h2 => by omega
  | g + 1, p, acc, h1, h2 => by
    rw [Hs.progLoop]
    split
    · exact FitW.of_ok _ (Nat.le_refl _) h1
    · have hE := HF p h1
      cases hx : F p with
      | error l => exact ⟨fun l' e => by cases e; exact hE.er _ hx, fun a q e => by cases e⟩
      | ok sq =>
        obtain ⟨s, q⟩ := sq
        have hq := hE.ok s q hx
        exact ((TsOk.progLoop _T HF g q _ hq.2 (by omega)).low (by omega : p < q)).weak
theorem TsOk.prog {ts : List Tok} (T : TsOk ts) (h : 0 < ts.length) : progP ts ≠ .error 0 :=
  (T.progLoop (fun q hq => T.func (fun q' hq' => T.block (fun q hq => T.exprs q hq) _ q' hq' (by omega)) hq) _ 0 [] h (by omega)).ne
end Go.Proofs.YtblbkfdhjfppkaaGreatDoor.Hs

/- What the tokens of a source are like; what is wrong with a source, up to its form. -/
namespace Go.Proofs.YtblbkfdhjfppkaaGreatDoor.Hs
structure TsAll (ts : List Tok) : Prop where
  some_ : 0 < ts.length
  last : (tk ts (ts.length - 1)).sort = 101
  line : ∀ p, p < ts.length → (tk ts p).line ≠ 0
theorem tk_cons_succ (t : Tok) (ts : List Tok) (p : Nat) : tk (t :: ts) (p + 1) = tk ts p := by simp [tk]
theorem toksL_all (f : Nat) : ∀ (pre l : List UInt8) (ts : List Tok), toksL f pre l = .ok ts → TsAll ts ∧ ts.length ≤ f := by
  induction f with
  | zero => intro pre l ts h; cases h
  | succ f ih =>
    intro pre l ts h
    by_cases hl : l.length = 0
    · rw [toksL_end _ _ _ hl] at h
      cases h
      refine ⟨⟨by simp, rfl, fun p hp => ?_⟩, by simp⟩
      obtain rfl : p = 0 := by simp at hp; omega
      show lineOf pre ≠ 0
      unfold lineOf; omega
    · cases hk : (tokL l).ok
      · rw [toksL_bad _ _ _ hl hk] at h; cases h
      · rw [toksL_step _ _ _ hl hk _ rfl] at h
        cases hx : toksL f (pre ++ l.take ((tokL l).size + blankL l.length (l.drop (tokL l).size))) (l.drop ((tokL l).size + blankL l.length (l.drop (tokL l).size))) with
        | error n => rw [hx] at h; cases h
        | ok us =>
          rw [hx] at h
          cases h
          obtain ⟨h1, h2⟩ := ih _ _ us hx
          refine ⟨⟨by simp, ?_, fun p hp => ?_⟩, by simp; omega⟩
          · have := h1.some_
            show (tk (_ :: us) ((_ :: us).length - 1)).sort = 101
            rw [List.length_cons, show us.length + 1 - 1 = (us.length - 1) + 1 by omega, tk_cons_succ]
            exact h1.last
          · cases p with
            | zero => show lineOf pre ≠ 0; unfold lineOf; omega
            | succ p =>
              show (tk (_ :: us) (p + 1)).line ≠ 0
              rw [tk_cons_succ]
              exact h1.line p (by simpa using hp)
theorem TsAll.ok {ts : List Tok} (h : TsAll ts) : TsOk ts :=
  ⟨fun p hp hs => by
    by_cases e : p = ts.length - 1
    · subst e; exact absurd h.last hs
    · omega, h.line⟩
theorem tokens_all {l : List UInt8} {ts : List Tok} (h : tokens l = .ok ts) : TsAll ts ∧ ts.length ≤ l.length + 1 := toksL_all _ _ _ _ h
def parsedL (l : List UInt8) : Except (Nat × Nat) (List Ast) :=
  if 2000 < l.length then .error (1, 0)
  else match spoilAt l.length l 0 with
    | some k => .error (2, lineOf (l.take k))
    | none =>
      match tokens l with
      | .error n => .error (3, n)
      | .ok ts =>
        match progP ts with
        | .error n => .error (4, n)
        | .ok (ks, _) => .ok ks
end Go.Proofs.YtblbkfdhjfppkaaGreatDoor.Hs

/- What is wrong with names: plain functions on trees. -/
namespace Go.Proofs.YtblbkfdhjfppkaaGreatDoor.Hs
structure Chk where
  seen : List (List UInt8)
  kind : Nat
  line : Nat
def Chk.found (s : Chk) (line kind : Nat) : Chk := if s.kind = 0 then { s with kind := kind, line := line } else s
def givenB (x : List UInt8) : Bool := x == [108, 101, 110] || x == [114, 101, 97, 100]
def declaresL (s : Chk) (n : Ast) : Chk := if givenB n.text || s.seen.contains n.text then s.found n.line 6 else s
def funcL (fs : List Ast) (name : List UInt8) : Option Ast := fs.find? fun f => f.text == name
def wantL (fs : List Ast) (alone : Bool) (name : List UInt8) : Int :=
  if name == [108, 101, 110] then 1
  else if name == [114, 101, 97, 100] && !alone then 0
  else match funcL fs name with
    | some f => (f.kids.length : Int) - 1
    | none => -1
def callsL (fs : List Ast) (alone : Bool) (s : Chk) (n : Ast) : Chk :=
  if wantL fs alone n.text < 0 then s.found n.line 6
  else if wantL fs alone n.text ≠ (n.kids.length : Int) then s.found n.line 7
  else s
def lookL (fs : List Ast) (alone : Bool) (s : Chk) (n : Ast) : Chk :=
  if n.op == [115, 101, 116] || n.op == [110, 97, 109, 101] then (if s.seen.contains n.text then s else s.found n.line 6)
  else if n.op == [99, 97, 108, 108] then callsL fs alone s n
  else s
def walkL (fs : List Ast) (alone : Bool) : Nat → Ast → Chk → Chk
  | 0, _, s => s
  | d + 1, n, s =>
    if n.op == [118, 97, 114] then
      match n.kids with
      | t :: v :: _ => let s1 := walkL fs alone d v (declaresL s t); { s1 with seen := s1.seen ++ [t.text] }
      | _ => s
    else
      let s1 := n.kids.foldl (fun s k => walkL fs alone d k s) (lookL fs alone s n)
      if n.op == [98, 108, 111, 99, 107] then { s1 with seen := s1.seen.take s.seen.length } else s1
end Go.Proofs.YtblbkfdhjfppkaaGreatDoor.Hs

/- How many nodes a tree has that was read: no more than it has tokens; a declaration has two parts. -/
namespace Go.Proofs.YtblbkfdhjfppkaaGreatDoor.Hs
def wt : Nat → Ast → Nat
  | 0, _ => 0
  | d + 1, n => 1 + (n.kids.map (wt d)).sum
def wf : Nat → Ast → Prop
  | 0, _ => True
  | d + 1, n => (n.op = [118, 97, 114] → 2 ≤ n.kids.length) ∧ ∀ k ∈ n.kids, wf d k
def FineA (m : Nat) (a : Ast) : Prop := ∀ d, wt d a ≤ m ∧ wf d a
def FineL (m : Nat) (l : List Ast) : Prop := ∀ d, (l.map (wt d)).sum ≤ m ∧ ∀ k ∈ l, wf d k
theorem FineA.le {m n : Nat} {a : Ast} (h : FineA m a) (hn : m ≤ n) : FineA n a := fun d => ⟨Nat.le_trans (h d).1 hn, (h d).2⟩
theorem FineL.le {m n : Nat} {a : List Ast} (h : FineL m a) (hn : m ≤ n) : FineL n a := fun d => ⟨Nat.le_trans (h d).1 hn, (h d).2⟩
theorem FineL.nil : FineL 0 [] := fun _ => ⟨Nat.le_refl _, fun _ h => by cases h⟩
theorem FineL.snoc {m n : Nat} {l : List Ast} {a : Ast} (h : FineL m l) (ha : FineA n a) : FineL (m + n) (l ++ [a]) := fun d => by
  refine ⟨?_, fun k hk => ?_⟩
  · rw [List.map_append, List.sum_append]
    have h1 := (h d).1
    have h2 := (ha d).1
    simp; omega
  · rcases List.mem_append.1 hk with hk | hk
    · exact (h d).2 k hk
    · rw [List.mem_singleton.1 hk]; exact (ha d).2
theorem FineL.one {n : Nat} {a : Ast} (ha : FineA n a) : FineL n [a] := fun d => by
  refine ⟨?_, fun k hk => ?_⟩
  · have h2 := (ha d).1
    simp; omega
  · rw [List.mem_singleton.1 hk]; exact (ha d).2
theorem FineL.two {m n : Nat} {a b : Ast} (ha : FineA m a) (hb : FineA n b) : FineL (m + n) [a, b] := (FineL.one ha).snoc hb
theorem FineL.three {m n k : Nat} {a b c : Ast} (ha : FineA m a) (hb : FineA n b) (hc : FineA k c) : FineL (m + n + k) [a, b, c] := (FineL.two ha hb).snoc hc
theorem FineA.node {m : Nat} {l : List Ast} {op text : List UInt8} {line : Nat} (h : FineL m l) (ho : op = [118, 97, 114] → 2 ≤ l.length) : FineA (m + 1) (node op line text l) := fun d => by
  cases d with
  | zero => exact ⟨Nat.zero_le _, trivial⟩
  | succ d =>
    refine ⟨?_, ho, (h d).2⟩
    have := (h d).1
    show 1 + (l.map (wt d)).sum ≤ m + 1
    omega
def Sz {α : Type} (P : Nat → α → Prop) (p : Nat) (r : R α) : Prop := ∀ a q, r = .ok (a, q) → ∃ m, p + m ≤ q ∧ P m a
theorem Sz.bad {α : Type} {P : Nat → α → Prop} {p p' : Nat} {ts : List Tok} : Sz P p (bad ts p') := fun a q h => by cases h
theorem Sz.err {α : Type} {P : Nat → α → Prop} {p n : Nat} : Sz P p (.error n) := fun a q h => by cases h
theorem Sz.of_ok {α : Type} {P : Nat → α → Prop} {p m q : Nat} {a : α} (hm : p + m ≤ q) (h : P m a) : Sz P p (.ok (a, q)) := fun a' q' e => by cases e; exact ⟨m, hm, h⟩
theorem Sz.take {α : Type} {P : Nat → α → Prop} {p : Nat} {ts : List Tok} {x : List UInt8} {r : R α} (h : Sz P p r) : Sz P p (thenTake ts x r) := by
  cases r with
  | error l => exact Sz.err
  | ok aq =>
    obtain ⟨a, q⟩ := aq
    obtain ⟨m, h1, h2⟩ := h a q rfl
    unfold thenTake
    simp only
    split
    · exact Sz.of_ok (by omega) h2
    · exact Sz.bad
theorem Sz.map {α β : Type} {P : Nat → α → Prop} {Q : Nat → β → Prop} {p p' k : Nat} {r : R α} {f : α → β} (h : Sz P p r) (hp : p' + k ≤ p) (hf : ∀ m a, P m a → Q (m + k) (f a)) : Sz Q p' (mapR f r) := by
  cases r with
  | error l => exact Sz.err
  | ok aq =>
    obtain ⟨a, q⟩ := aq
    obtain ⟨m, h1, h2⟩ := h a q rfl
    exact Sz.of_ok (m := m + k) (by omega) (hf m a h2)
theorem Sz.bind {α β : Type} {P : Nat → α → Prop} {Q : Nat → β → Prop} {p p' : Nat} {r : R α} {f : α → Nat → R β} (h : Sz P p r) (hf : ∀ m a q, P m a → p + m ≤ q → Sz Q p' (f a q)) : Sz Q p' (bindR r f) := by
  cases r with
  | error l => exact Sz.err
  | ok aq =>
    obtain ⟨a, q⟩ := aq
    obtain ⟨m, h1, h2⟩ := h a q rfl
    exact hf m a q h2 h1
theorem Sz.low {α : Type} {P : Nat → α → Prop} {p p' : Nat} {r : R α} (h : Sz P p r) (hp : p' ≤ p) : Sz P p' r := fun a q e => by
  obtain ⟨m, h1, h2⟩ := h a q e
  exact ⟨m, by omega, h2⟩
section
variable {ts : List Tok} {E : Nat → R Ast}
theorem sz_listLoop (HE : ∀ q, Sz FineA q (E q)) : ∀ (g p : Nat) (acc : List Ast) (m0 p0 : Nat), FineL m0 acc → p0 + m0 ≤ p → Sz FineL p0 (listLoop E ts g p acc)
  | 0, p, acc, _, _, _, _ => Sz.err
  | g + 1, p, acc, m0, p0, h0, hp => by
    rw [Hs.listLoop]
    cases hx : E p with
    | error l => exact Sz.err
    | ok aq =>
      obtain ⟨a, q⟩ := aq
      obtain ⟨m, h1, h2⟩ := HE p a q hx
      simp only
      split
      · exact sz_listLoop HE g (q + 1) _ (m0 + m) p0 (h0.snoc h2) (by omega)
      · exact Sz.of_ok (m := m0 + m) (by omega) (h0.snoc h2)
theorem sz_listP (HE : ∀ q, Sz FineA q (E q)) (p : Nat) (x y : List UInt8) : Sz FineL (p + 1) (listP E ts p x y) := by
  unfold Hs.listP
  split
  · refine Sz.take ?_
    unfold listIn
    split
    · exact Sz.of_ok (m := 0) (by omega) FineL.nil
    · exact sz_listLoop HE _ _ _ 0 _ FineL.nil (by omega)
  · exact Sz.bad
theorem sz_leaf {op text : List UInt8} {line : Nat} (ho : op ≠ [118, 97, 114]) : FineA 1 (node op line text []) := FineA.node (m := 0) FineL.nil fun h => absurd h ho
theorem sz_primary (HE : ∀ q, Sz FineA q (E q)) (p : Nat) : Sz FineA p (primaryP E ts p) := by
  unfold primaryP
  split
  · exact Sz.of_ok (m := 1) (by omega) (sz_leaf (by simp))
  split
  · exact Sz.of_ok (m := 1) (by omega) (sz_leaf (by simp))
  split
  · exact ((HE (p + 1)).take).low (by omega)
  split
  · exact Sz.map (k := 1) (sz_listP HE p _ _) (by omega) fun m a h => FineA.node h (by simp)
  split
  · split
    · exact Sz.map (k := 1) (sz_listP HE (p + 1) _ _) (by omega) fun m a h => FineA.node h (by simp)
    · exact Sz.of_ok (m := 1) (by omega) (sz_leaf (by simp))
  · exact Sz.bad
theorem sz_index (HE : ∀ q, Sz FineA q (E q)) : ∀ (g : Nat) (n : Ast) (p m0 p0 : Nat), FineA m0 n → p0 + m0 ≤ p → Sz FineA p0 (indexLoop E ts g n p)
  | 0, n, p, _, _, _, _ => Sz.err
  | g + 1, n, p, m0, p0, h0, hp => by
    rw [Hs.indexLoop]
    split
    · have hE := (HE (p + 1)).take (ts := ts) (x := [93])
      cases hx : thenTake ts [93] (E (p + 1)) with
      | error l => exact Sz.err
      | ok iq =>
        obtain ⟨i, q⟩ := iq
        obtain ⟨m, h1, h2⟩ := hE i q hx
        exact sz_index HE g _ q (m0 + m + 1) p0 (FineA.node (FineL.two h0 h2) (by simp)) (by omega)
    · exact Sz.of_ok hp h0
theorem sz_unary (HE : ∀ q, Sz FineA q (E q)) : ∀ (g p : Nat), Sz FineA p (unaryP E ts g p)
  | 0, p => Sz.err
  | g + 1, p => by
    rw [Hs.unaryP]
    split
    · exact Sz.map (k := 1) (sz_unary HE g (p + 1)) (by omega) fun m a h => FineA.node (FineL.one h) (by simp)
    split
    · exact Sz.map (k := 1) (sz_unary HE g (p + 1)) (by omega) fun m a h => FineA.node (FineL.one h) (by simp)
    · exact Sz.bind (sz_primary HE p) fun m a q h1 h2 => sz_index HE _ a q m p h1 h2
theorem sz_levelLoop {L : Nat → R Ast} {k : Nat} (HL : ∀ q, Sz FineA q (L q)) : ∀ (g : Nat) (n : Ast) (q m0 p0 : Nat), FineA m0 n → p0 + m0 ≤ q → Sz FineA p0 (levelLoop L ts k g n q)
  | 0, n, q, _, _, _, _ => Sz.err
  | g + 1, n, q, m0, p0, h0, hp => by
    rw [Hs.levelLoop]
    split
    · cases hx : L (q + 1) with
      | error l => exact Sz.err
      | ok rq =>
        obtain ⟨r, q2⟩ := rq
        obtain ⟨m, h1, h2⟩ := HL _ r q2 hx
        have hn : ∀ op line, FineA (m0 + m + 1) (node op line [] [n, r]) := fun op line => FineA.node (FineL.two h0 h2) (by simp)
        simp only
        split
        · exact Sz.of_ok (m := m0 + m + 1) (by omega) (hn _ _)
        · exact sz_levelLoop HL g _ q2 (m0 + m + 1) p0 (hn _ _) (by omega)
    · exact Sz.of_ok hp h0
theorem sz_level (HE : ∀ q, Sz FineA q (E q)) : ∀ (j p : Nat), Sz FineA p (levelP E ts j p)
  | 0, p => sz_unary HE _ p
  | j + 1, p => by
    rw [Hs.levelP]
    exact Sz.bind (sz_level HE j p) fun m a q h1 h2 => sz_levelLoop (fun q => sz_level HE j q) _ a q m p h1 h2
theorem sz_expr (ts : List Tok) : ∀ (f p : Nat), Sz FineA p (exprP ts f p)
  | 0, p => Sz.err
  | f + 1, p => by
    rw [Hs.exprP]
    exact sz_level (fun q => sz_expr ts f q) 5 p
theorem sz_setLoop (HE : ∀ q, Sz FineA q (E q)) : ∀ (g p : Nat) (acc : List Ast) (m0 p0 : Nat), FineL m0 acc → p0 + m0 ≤ p → Sz FineL p0 (setLoop E ts g p acc)
  | 0, p, acc, _, _, _, _ => Sz.err
  | g + 1, p, acc, m0, p0, h0, hp => by
    rw [Hs.setLoop]
    split
    · have hE := (HE (p + 1)).take (ts := ts) (x := [93])
      cases hx : thenTake ts [93] (E (p + 1)) with
      | error l => exact Sz.err
      | ok iq =>
        obtain ⟨i, q⟩ := iq
        obtain ⟨m, h1, h2⟩ := hE i q hx
        exact sz_setLoop HE g q _ (m0 + m) p0 (h0.snoc h2) (by omega)
    · exact Sz.of_ok hp h0
theorem sz_simple (HE : ∀ q, Sz FineA q (E q)) (p : Nat) : Sz FineA p (simpleP E ts p) := by
  unfold simpleP
  split
  · split
    · exact Sz.take (Sz.map (k := 2) (sz_listP HE (p + 1) _ _) (by omega) fun m a h => FineA.node (FineL.one (FineA.node h (by simp))) (by simp))
    · refine Sz.bind ((sz_setLoop HE _ (p + 1) [] 0 (p + 1) FineL.nil (by omega)).take) fun m l q h1 h2 => ?_
      exact Sz.take (Sz.map (k := m + 1) (HE q) (by omega) fun m2 v hv => FineA.le (FineA.node (h1.snoc hv) (by simp)) (by omega))
  · exact Sz.bad
theorem sz_stmt {B : Nat → R Ast} (HE : ∀ q, Sz FineA q (E q)) (HB : ∀ q, Sz FineA q (B q)) (p : Nat) : Sz FineA p (stmtP E B ts p) := by
  unfold stmtP
  split
  · unfold varP
    split
    · split
      · exact Sz.take (Sz.map (k := 2) (HE (p + 3)) (by omega) fun m v hv => FineA.le (FineA.node (FineL.two (sz_leaf (by simp)) hv) (by simp)) (by omega))
      · exact Sz.bad
    · exact Sz.bad
  split
  · unfold ifP
    refine Sz.bind (HE (p + 1)) fun m c q h1 h2 => Sz.bind (HB q) fun m2 b q2 h3 h4 => ?_
    split
    · exact Sz.map (k := m + m2 + 1) (HB (q2 + 1)) (by omega) fun m3 d hd => FineA.le (FineA.node (FineL.three h1 h3 hd) (by simp)) (by omega)
    · exact Sz.of_ok (m := m + m2 + 1) (by omega) (FineA.node (FineL.two h1 h3) (by simp))
  split
  · unfold whileP
    exact Sz.bind (HE (p + 1)) fun m c q h1 h2 => Sz.map (k := m + 1) (HB q) (by omega) fun m2 b hb => FineA.le (FineA.node (FineL.two h1 hb) (by simp)) (by omega)
  split
  · unfold returnP
    split
    · exact Sz.of_ok (m := 1) (by omega) (sz_leaf (by simp))
    · exact Sz.take (Sz.map (k := 1) (HE (p + 1)) (by omega) fun m v hv => FineA.node (FineL.one hv) (by simp))
  split
  · unfold printP
    exact Sz.take (Sz.map (k := 1) (HE (p + 1)) (by omega) fun m v hv => FineA.node (FineL.one hv) (by simp))
  · exact sz_simple HE p
theorem sz_blockLoop {S : Nat → R Ast} (HS : ∀ q, Sz FineA q (S q)) : ∀ (g p : Nat) (acc : List Ast) (m0 p0 : Nat), FineL m0 acc → p0 + m0 ≤ p → Sz FineL p0 (blockLoop S ts g p acc)
  | 0, p, acc, _, _, _, _ => Sz.err
  | g + 1, p, acc, m0, p0, h0, hp => by
    rw [Hs.blockLoop]
    split
    · exact Sz.of_ok hp h0
    · cases hx : S p with
      | error l => exact Sz.err
      | ok sq =>
        obtain ⟨s, q⟩ := sq
        obtain ⟨m, h1, h2⟩ := HS p s q hx
        exact sz_blockLoop HS g q _ (m0 + m) p0 (h0.snoc h2) (by omega)
theorem sz_block (HE : ∀ q, Sz FineA q (E q)) : ∀ (f p : Nat), Sz FineA p (blockP E ts f p)
  | 0, p => Sz.err
  | f + 1, p => by
    rw [Hs.blockP]
    split
    · exact Sz.map (k := 1) (Sz.take (sz_blockLoop (fun q => sz_stmt HE (fun q => sz_block HE f q) q) _ (p + 1) [] 0 (p + 1) FineL.nil (by omega))) (by omega) fun m l h => FineA.node h (by simp)
    · exact Sz.bad
theorem sz_paramLoop : ∀ (g p : Nat) (acc : List Ast) (m0 p0 : Nat), FineL m0 acc → p0 + m0 ≤ p → Sz FineL p0 (paramLoop ts g p acc)
  | 0, p, acc, _, _, _, _ => Sz.err
  | g + 1, p, acc, m0, p0, h0, hp => by
    have hl : FineL (m0 + 1) (acc ++ [node [112, 97, 114, 97, 109] (tk ts p).line (tk ts p).text []]) := h0.snoc (sz_leaf (by simp))
    rw [Hs.paramLoop]
    split
    · split
      · exact sz_paramLoop g (p + 2) _ (m0 + 1) p0 hl (by omega)
      · exact Sz.of_ok (m := m0 + 1) (by omega) hl
    · exact Sz.bad
theorem sz_func {B : Nat → R Ast} (HB : ∀ q, Sz FineA q (B q)) (p : Nat) : Sz FineA p (funcP B ts p) := by
  unfold funcP
  split
  · split
    · split
      · have hpar : Sz FineL (p + 3) (paramsP ts (p + 3)) := by
          unfold paramsP
          refine Sz.take ?_
          split
          · exact Sz.of_ok (m := 0) (by omega) FineL.nil
          · exact sz_paramLoop _ (p + 3) [] 0 (p + 3) FineL.nil (by omega)
        exact Sz.bind hpar fun m l q h1 h2 => Sz.map (k := m + 1) (HB q) (by omega) fun m2 b hb => FineA.le (FineA.node (h1.snoc hb) (by simp)) (by omega)
      · exact Sz.bad
    · exact Sz.bad
  · exact Sz.bad
theorem sz_progLoop {F : Nat → R Ast} (HF : ∀ q, Sz FineA q (F q)) : ∀ (g p : Nat) (acc : List Ast) (m0 p0 : Nat), FineL m0 acc → p0 + m0 ≤ p → Sz FineL p0 (progLoop F ts g p acc)
  | 0, p, acc, _, _, _, _ => Sz.err
  | g + 1, p, acc, m0, p0, h0, hp => by
    rw [Hs.progLoop]
    split
    · exact Sz.of_ok hp h0
    · cases hx : F p with
      | error l => exact Sz.err
      | ok sq =>
        obtain ⟨s, q⟩ := sq
        obtain ⟨m, h1, h2⟩ := HF p s q hx
        exact sz_progLoop HF g q _ (m0 + m) p0 (h0.snoc h2) (by omega)
end
theorem sz_prog (ts : List Tok) (T : TsOk ts) (h0 : 0 < ts.length) (ks : List Ast) (q : Nat) (h : progP ts = .ok (ks, q)) : FineL ts.length ks := by
  obtain ⟨m, h1, h2⟩ := sz_progLoop (fun q => sz_func (fun q' => sz_block (fun q => sz_expr ts _ q) _ q') q) (ts.length + 1) 0 [] 0 0 FineL.nil (by omega) ks q h
  have := (T.progLoop (fun q hq => T.func (fun q' hq' => T.block (fun q hq => T.exprs q hq) _ q' hq' (by omega)) hq) _ 0 [] h0 (by omega)).ok ks q h
  exact h2.le (by omega)
theorem sz_parsed {l : List UInt8} {ks : List Ast} (h : parsedL l = .ok ks) : FineL 2001 ks := by
  unfold parsedL at h
  split at h
  · cases h
  rename_i hl
  split at h
  · cases h
  split at h
  · cases h
  rename_i ts ht
  obtain ⟨h1, h2⟩ := tokens_all ht
  split at h
  · cases h
  rename_i q hp
  cases h
  exact (sz_prog ts h1.ok h1.some_ _ _ hp).le (by omega)
end Go.Proofs.YtblbkfdhjfppkaaGreatDoor.Hs

/- What is wrong with a source: the whole of it. -/
namespace Go.Proofs.YtblbkfdhjfppkaaGreatDoor.Hs
def dp : Nat → Ast → Prop
  | 0, _ => False
  | d + 1, n => ∀ k ∈ n.kids, dp d k
theorem dp_of_fine : ∀ (m : Nat) (a : Ast), FineA m a → dp m a
  | 0, a, h => by
    have := (h 1).1
    simp only [wt] at this
    omega
  | m + 1, a, h => fun k hk => dp_of_fine m k fun d => by
    have h1 := (h (d + 1)).1
    have h2 := (h (d + 1)).2.2 k hk
    refine ⟨?_, h2⟩
    have : wt d k ≤ (a.kids.map (wt d)).sum := by
      have : ∀ l : List Ast, k ∈ l → wt d k ≤ (l.map (wt d)).sum := by
        intro l
        induction l with
        | nil => intro h; cases h
        | cons x l ih =>
          intro h
          simp only [List.map_cons, List.sum_cons]
          rcases List.mem_cons.1 h with rfl | h
          · omega
          · have := ih h; omega
      exact this _ hk
    simp only [wt] at h1
    omega
def partL (fs : List Ast) (d : Nat) (s : Chk) (k : Ast) : Chk :=
  if k.op == [112, 97, 114, 97, 109] then { declaresL s k with seen := (declaresL s k).seen ++ [k.text] } else walkL fs false d k s
def doesL (fs : List Ast) (d : Nat) (s : Chk) (n : Ast) (first : Bool) : Chk :=
  n.kids.foldl (partL fs d) { (if givenB n.text || !first then s.found n.line 6 else s) with seen := [] }
def allL (fs : List Ast) (d : Nat) : List Ast → List Ast → Chk → Chk
  | _, [], s => s
  | pre, n :: rest, s => allL fs d (pre ++ [n]) rest (doesL fs d s n (funcL pre n.text).isNone)
def namesL (d : Nat) (ks : List Ast) : Nat × Nat :=
  match funcL ks [109, 97, 105, 110] with
  | none => (5, 0)
  | some m => if 1 < m.kids.length then (5, 0) else ((allL ks d [] ks ⟨[], 0, 0⟩).kind, (allL ks d [] ks ⟨[], 0, 0⟩).line)
def readL (l : List UInt8) : Nat × Nat :=
  match parsedL l with
  | .error f => f
  | .ok ks => namesL 2001 ks
end Go.Proofs.YtblbkfdhjfppkaaGreatDoor.Hs

/- What the sorts of a source's tokens are. -/
namespace Go.Proofs.YtblbkfdhjfppkaaGreatDoor.Hs
def okTok (t : Tok) : Prop := t.sort = 112 ∨ (t.sort = 107 ∧ kwords.contains t.text = true) ∨ t.sort = 110 ∨ (t.sort = 48 ∧ (wholeL 0 t.text).isSome = true) ∨ t.sort = 115 ∨ t.sort = 101
def TsK (ts : List Tok) : Prop := ∀ t ∈ ts, okTok t
theorem tokL_okTok (l : List UInt8) (line : Nat) (h : (tokL l).ok = true) : okTok { sort := (tokL l).sort, text := (tokL l).text, line := line } := by
  cases l with
  | nil => simp [tokL] at h
  | cons c r =>
    rw [tokL] at h ⊢
    split
    · rename_i hd
      rw [if_pos hd] at h
      unfold wordL at h ⊢
      split
      · by_cases hk : kwords.contains ((c :: r).take (spanL (wordP (letterB c)) (c :: r))) = true
        · rw [if_pos hk]; exact Or.inr (Or.inl ⟨rfl, hk⟩)
        · rw [if_neg hk]; exact Or.inr (Or.inr (Or.inl rfl))
      · rename_i hl
        rw [if_neg hl] at h
        exact Or.inr (Or.inr (Or.inr (Or.inl ⟨rfl, h⟩)))
    · rename_i hd
      rw [if_neg hd] at h
      split
      · exact Or.inr (Or.inr (Or.inr (Or.inr (Or.inl rfl))))
      · rename_i h34
        rw [if_neg h34] at h
        unfold otherL at h ⊢
        cases ho : others.find? (fun o => startsB (c :: r) o) with
        | none => rw [ho] at h; simp at h
        | some o => exact Or.inl rfl
theorem toksL_k (f : Nat) : ∀ (pre l : List UInt8) (ts : List Tok), toksL f pre l = .ok ts → TsK ts := by
  induction f with
  | zero => intro pre l ts h; cases h
  | succ f ih =>
    intro pre l ts h
    by_cases hl : l.length = 0
    · rw [toksL_end _ _ _ hl] at h
      cases h
      intro t ht
      rw [List.mem_singleton.1 ht]
      exact Or.inr (Or.inr (Or.inr (Or.inr (Or.inr rfl))))
    · cases hk : (tokL l).ok
      · rw [toksL_bad _ _ _ hl hk] at h; cases h
      · rw [toksL_step _ _ _ hl hk _ rfl] at h
        cases hx : toksL f (pre ++ l.take ((tokL l).size + blankL l.length (l.drop (tokL l).size))) (l.drop ((tokL l).size + blankL l.length (l.drop (tokL l).size))) with
        | error n => rw [hx] at h; cases h
        | ok us =>
          rw [hx] at h
          cases h
          intro t ht
          rcases List.mem_cons.1 ht with rfl | ht
          · exact tokL_okTok l _ hk
          · exact ih _ _ us hx t ht
theorem tokens_k {l : List UInt8} {ts : List Tok} (h : tokens l = .ok ts) : TsK ts := toksL_k _ _ _ _ h
theorem TsK.tk {ts : List Tok} (h : TsK ts) (p : Nat) (hp : p < ts.length) : okTok (Hs.tk ts p) := by
  have : Hs.tk ts p = ts[p] := by unfold Hs.tk; rw [List.getElem?_eq_getElem hp]; rfl
  rw [this]
  exact h _ (List.getElem_mem hp)
end Go.Proofs.YtblbkfdhjfppkaaGreatDoor.Hs

/- Contracts of the document's answer, the first part: lines, characters. -/
namespace Go.Proofs.YtblbkfdhjfppkaaGreatDoor
open Go.RowKit
theorem take_snoc (s : ByteArray) (k : Nat) (h : k < s.size) : s.data.toList.take (k + 1) = s.data.toList.take k ++ [s[k]] := by
  rw [List.take_succ_eq_append_getElem (by simpa using h)]; rfl
theorem ret_int {k : IntKind} {a b : Int} (h : a = b) : Ending.returned (.int k a) = .returned (.int k b) := by rw [h]
theorem ret_bool {a b : Bool} (h : a = b) : Ending.returned (.bool a) = .returned (.bool b) := by rw [h]
theorem u8_eq (c d : UInt8) : (c = d) ↔ ((c.toNat : Int) = (d.toNat : Int)) := by
  rw [← UInt8.toNat_inj]; omega
theorem byte_le (c : UInt8) : (c.toNat : Int) ≤ 255 := by have := c.toNat_lt; omega
theorem getElem?_toList (s : ByteArray) (k : Nat) (h : k < s.size) : s.data.toList[k]? = some s[k] := by
  simp [h]; rfl
theorem getElem?_drop (s : ByteArray) (n i : Nat) (h : n + i < s.size) : (s.data.toList.drop n)[i]? = some s[n + i] := by
  rw [List.getElem?_drop]; exact getElem?_toList s _ h
end Go.Proofs.YtblbkfdhjfppkaaGreatDoor

/- Contracts of the document's answer: the first byte that is no part of a character; blanks; beginnings. -/
namespace Go.Proofs.YtblbkfdhjfppkaaGreatDoor
open Go.RowKit
theorem inR_lt {l : List UInt8} {i lo hi : Nat} (h : Hs.inR l i lo hi = true) : i < l.length := by
  unfold Hs.inR at h
  by_cases hi' : i < l.length
  · exact hi'
  · rw [List.getElem?_eq_none (by omega)] at h; cases h
theorem charL_len (l : List UInt8) : Hs.charL l ≤ l.length := by
  unfold Hs.charL
  split
  · omega
  · rename_i b hb
    have h0 : 0 < l.length := by
      by_cases h : 0 < l.length
      · exact h
      · rw [List.getElem?_eq_none (by omega)] at hb; cases hb
    repeat' split
    all_goals first
      | omega
      | (have := inR_lt ‹Hs.inR l 1 _ _ = true›; omega)
      | (have h := ‹(Hs.inR l 1 _ _ && Hs.inR l 2 _ _) = true›
         simp only [Bool.and_eq_true] at h
         have := inR_lt h.2; omega)
      | (have h := ‹(Hs.inR l 1 _ _ && Hs.inR l 2 _ _ && Hs.inR l 3 _ _) = true›
         simp only [Bool.and_eq_true] at h
         have := inR_lt h.2; omega)
theorem spoilAt_step (l : List UInt8) (p f : Nat) (h : 0 < l.length) (hc : Hs.charL l ≠ 0) : Hs.spoilAt (f + 1) l p = Hs.spoilAt f (l.drop (Hs.charL l)) (p + Hs.charL l) := by
  rw [Hs.spoilAt, if_neg (by omega), if_neg hc]
theorem spoilAt_hit (l : List UInt8) (p f : Nat) (h : 0 < l.length) (hc : Hs.charL l = 0) : Hs.spoilAt (f + 1) l p = some p := by
  rw [Hs.spoilAt, if_neg (by omega), if_pos hc]
theorem spoilAt_nil (l : List UInt8) (p f : Nat) (h : l.length = 0) : Hs.spoilAt f l p = none := by
  cases f with
  | zero => rfl
  | succ f => rw [Hs.spoilAt, if_pos h]
end Go.Proofs.YtblbkfdhjfppkaaGreatDoor

/- Contracts of the document's answer: digits, letters, beginnings, blanks. -/
namespace Go.Proofs.YtblbkfdhjfppkaaGreatDoor
open Go.RowKit
theorem isPrefixOf_take (x l : List UInt8) (h : x.length ≤ l.length) : x.isPrefixOf l = (l.take x.length == x) := by
  induction x generalizing l with
  | nil => simp
  | cons a x ih =>
    cases l with
    | nil => simp at h
    | cons b l =>
      simp only [List.isPrefixOf, List.length_cons, List.take_succ_cons, List.cons_beq_cons]
      rw [ih l (by simpa using h), show (a == b) = (b == a) from Bool.beq_comm]
theorem isPrefixOf_long (x l : List UInt8) (h : l.length < x.length) : x.isPrefixOf l = false := by
  rw [Bool.eq_false_iff]; intro hh
  have := (List.isPrefixOf_iff_prefix.1 hh).length_le; omega
theorem drop_cons (s : ByteArray) (k : Nat) (h : k < s.size) : s.data.toList.drop k = s[k] :: s.data.toList.drop (k + 1) := by
  rw [List.drop_eq_getElem_cons (by simpa using h)]; rfl
theorem blankL_nil (f : Nat) : Hs.blankL f [] = 0 := by cases f <;> rfl
theorem blankL_white (f : Nat) (c : UInt8) (r : List UInt8) (h : c.toNat = 32 ∨ c.toNat = 9 ∨ c.toNat = 10) : Hs.blankL (f + 1) (c :: r) = Hs.blankL f r + 1 := by
  rw [Hs.blankL, if_pos h]
theorem blankL_remark (f : Nat) (c : UInt8) (r : List UInt8) (h : ¬ (c.toNat = 32 ∨ c.toNat = 9 ∨ c.toNat = 10)) (h2 : Hs.startsB (c :: r) [47, 47] = true) :
    Hs.blankL (f + 1) (c :: r) = Hs.spanL Hs.notNl (c :: r) + Hs.blankL f ((c :: r).drop (Hs.spanL Hs.notNl (c :: r))) := by
  rw [Hs.blankL, if_neg h, if_pos h2]
theorem blankL_else (f : Nat) (c : UInt8) (r : List UInt8) (h : ¬ (c.toNat = 32 ∨ c.toNat = 9 ∨ c.toNat = 10)) (h2 : Hs.startsB (c :: r) [47, 47] = false) :
    Hs.blankL (f + 1) (c :: r) = 0 := by
  rw [Hs.blankL, if_neg h, if_neg (by rw [h2]; simp)]
theorem spanL_yes (p : UInt8 → Bool) (c : UInt8) (r : List UInt8) (h : p c = true) : Hs.spanL p (c :: r) = Hs.spanL p r + 1 := by rw [Hs.spanL, if_pos h]
theorem spanL_no (p : UInt8 → Bool) (c : UInt8) (r : List UInt8) (h : p c = false) : Hs.spanL p (c :: r) = 0 := by rw [Hs.spanL, if_neg (by rw [h]; simp)]
theorem notNl_int (b : UInt8) : Hs.notNl b = ((b.toNat : Int) != 10) := by
  unfold Hs.notNl; rw [Bool.eq_iff_iff]; simp; omega
end Go.Proofs.YtblbkfdhjfppkaaGreatDoor

/- Contracts of the document's answer: a word. -/
namespace Go.Proofs.YtblbkfdhjfppkaaGreatDoor
open Go.RowKit
def bs (l : List UInt8) : ByteArray := ⟨l.toArray⟩
theorem bs_data (l : List UInt8) : (bs l).data.toList = l := by simp [bs]
theorem bs_size (l : List UInt8) : (bs l).size = l.length := by simp [bs, ByteArray.size]
theorem bs_inj {a b : ByteArray} (h : a.data.toList = b.data.toList) : a = b := by
  cases a; cases b; simp only at h; congr 1; exact Array.toList_inj.1 h
theorem extract_bs (s : ByteArray) (a b : Nat) : s.extract a b = bs ((s.data.toList.drop a).take (b - a)) :=
  bs_inj (by rw [Lib.extract_data, bs_data])
theorem bs_toList (l : List UInt8) : (bs l).toList = l := by rw [Lib.toList_data, bs_data]
theorem spanL_all (p : UInt8 → Bool) (l : List UInt8) : ∀ c ∈ l.take (Hs.spanL p l), p c = true := by
  induction l with
  | nil => simp
  | cons a r ih =>
    intro c hc
    by_cases h : p a = true
    · rw [spanL_yes _ _ _ h, List.take_succ_cons] at hc
      rcases List.mem_cons.1 hc with rfl | hc
      · exact h
      · exact ih c hc
    · rw [spanL_no _ _ _ (by simpa using h)] at hc; simp at hc
end Go.Proofs.YtblbkfdhjfppkaaGreatDoor

/- Contracts of the document's answer: the next token. -/
namespace Go.Proofs.YtblbkfdhjfppkaaGreatDoor
open Go.RowKit
theorem bcell {W w1 : World} (hb : Below W.heap.size W w1) : (∀ b o, b < W.heap.size → w1.cell? ⟨b, o, none⟩ = W.cell? ⟨b, o, none⟩) ∧ (∀ b o, b < W.heap.size → w1.frozen? ⟨b, o, none⟩ = W.frozen? ⟨b, o, none⟩) :=
  ⟨fun b o h => hb.cell (p := ⟨b, o, none⟩) h, fun b o h => hb.frozen (p := ⟨b, o, none⟩) h⟩
end Go.Proofs.YtblbkfdhjfppkaaGreatDoor

/- Contracts of the document's answer: the next token where it is no word and no string; any next token. -/
namespace Go.Proofs.YtblbkfdhjfppkaaGreatDoor
open Go.RowKit
theorem others_short : ∀ k (h : k < 21), (Hs.others[k]'(by simpa [Hs.others] using h)).length ≤ 2 := by decide
def noneTo (l : List UInt8) (k : Nat) : Prop := ∀ o ∈ Hs.others.take k, Hs.startsB l o = false
theorem noneTo_succ {l : List UInt8} {k : Nat} (h : k < 21) (hn : noneTo l k) (hk : Hs.startsB l (Hs.others[k]'(by simpa [Hs.others] using h)) = false) : noneTo l (k + 1) := by
  intro o ho
  rw [List.take_succ_eq_append_getElem (by simpa [Hs.others] using h)] at ho
  rcases List.mem_append.1 ho with ho | ho
  · exact hn o ho
  · rw [List.mem_singleton.1 ho]; exact hk
theorem otherL_hit {l : List UInt8} {k : Nat} (h : k < 21) (hn : noneTo l k) (q : List UInt8) (hq : q = Hs.others[k]'(by simpa [Hs.others] using h)) (hk : Hs.startsB l q = true) :
    Hs.otherL l = { sort := 112, text := q, size := q.length, ok := true } := by
  have e : Hs.others.find? (fun o => Hs.startsB l o) = some q := by
    rw [List.find?_eq_some_iff_getElem]
    refine ⟨hk, k, by simpa [Hs.others] using h, hq.symm, fun j hj => ?_⟩
    have := hn (Hs.others[j]'(by have : Hs.others.length = 21 := rfl; omega)) (by
      rw [List.mem_take_iff_getElem]
      exact ⟨j, by have : Hs.others.length = 21 := rfl; omega, rfl⟩)
    simp [this]
  unfold Hs.otherL; rw [e]
theorem otherL_none {l : List UInt8} (hn : noneTo l 21) : Hs.otherL l = { sort := 0, text := [], size := 0, ok := false } := by
  have e : Hs.others.find? (fun o => Hs.startsB l o) = none := by
    rw [List.find?_eq_none]
    intro o ho
    rw [hn o (by rw [List.take_of_length_le (by decide)]; exact ho)]; simp
  unfold Hs.otherL; rw [e]
end Go.Proofs.YtblbkfdhjfppkaaGreatDoor

/- Contracts of the document's answer: all tokens. -/
namespace Go.Proofs.YtblbkfdhjfppkaaGreatDoor
open Go.RowKit
theorem toksL_at (s : ByteArray) (k f : Nat) (hk : k < s.size) (hok : (Hs.tokL (s.data.toList.drop k)).ok = true) (m : Nat)
    (hm : m = k + (Hs.tokL (s.data.toList.drop k)).size + Hs.blankL s.size (s.data.toList.drop (k + (Hs.tokL (s.data.toList.drop k)).size))) :
    Hs.toksL (f + 1) (s.data.toList.take k) (s.data.toList.drop k) =
      Hs.prepend [{ sort := (Hs.tokL (s.data.toList.drop k)).sort, text := (Hs.tokL (s.data.toList.drop k)).text, line := Hs.lineOf (s.data.toList.take k) }] (Hs.toksL f (s.data.toList.take m) (s.data.toList.drop m)) := by
  have hl : (s.data.toList.drop k).length = s.size - k := by simp
  have hsz := Hs.tokL_size _ hok
  rw [Hs.toksL_step f _ _ (by omega) hok (m - k) (by
    rw [hl, List.drop_drop, hm, Hs.blankL_fuel s.size (s.size - k) _ (by simp) (by simp; omega)]; omega)]
  rw [List.drop_drop, show k + (m - k) = m by omega, ← List.take_add, show k + (m - k) = m by omega]
theorem ownsRow_below {w w1 : World} {b : Nat} {e : TypeId} {size : Nat} {v : Value} {n : Nat} {xs : List Value} (h : w.ownsRow b e size v n xs) (hb : Below w.heap.size w w1) : w1.ownsRow b e size v n xs := by
  refine ⟨h.1, ?_⟩
  rcases h.2 with h2 | ⟨g, cap, cur, h1, h2, h3, h4⟩
  · exact Or.inl h2
  · refine Or.inr ⟨g, cap, cur, h1, h2, ?_, h4⟩
    rw [hb.block g ?_]; exact h3
    by_cases hx : g < w.heap.size
    · exact hx
    · rw [Array.getElem?_eq_none (by omega)] at h3; cases h3
theorem own_block_ge {w : World} {b : Nat} {e : TypeId} {size : Nat} {v : Value} {n : Nat} {xs : List Value} (h : w.ownsRow b e size v n xs) : ∀ k, v.ownBlock = some k → b ≤ k := by
  intro k hk
  rcases h.2 with ⟨rfl, _⟩ | ⟨g, cap, cur, rfl, h2, _⟩
  · cases hk
  · have : g = k := Option.some.inj hk
    omega
end Go.Proofs.YtblbkfdhjfppkaaGreatDoor

/- Contracts of the document's answer: the parser's small steps. -/
namespace Go.Proofs.YtblbkfdhjfppkaaGreatDoor
open Go.RowKit
theorem mkHid {p : Prop} (h : p) : Hid p := h
structure Ctx where
  pb : Nat
  g : Nat
  cap : Nat
  ts : List Hs.Tok
structure Fr (pb : Nat) (w w' : World) : Prop where
  os : w'.os = w.os
  tape : w'.tape = w.tape
  output : w'.output = w.output
  size : w.heap.size ≤ w'.heap.size
  block : ∀ k, k < w.heap.size → k ≠ pb → w'.heap[k]? = w.heap[k]?
theorem Fr.refl (pb : Nat) (w : World) : Fr pb w w := ⟨rfl, rfl, rfl, Nat.le_refl _, fun _ _ _ => rfl⟩
theorem Fr.trans {pb : Nat} {a b c : World} (h : Fr pb a b) (k : Fr pb b c) : Fr pb a c :=
  ⟨k.os.trans h.os, k.tape.trans h.tape, k.output.trans h.output, Nat.le_trans h.size k.size, fun i hi hn => (k.block i (Nat.lt_of_lt_of_le hi h.size) hn).trans (h.block i hi hn)⟩
theorem Fr.below {pb : Nat} {w w' : World} (h : Below w.heap.size w w') : Fr pb w w' := ⟨h.os, h.tape, h.output, h.size, fun k hk _ => h.block k hk⟩
theorem Fr.drew {pb : Nat} {a w : World} (h : Fr pb a w) : Fr pb a w.drew := ⟨h.os, h.tape, h.output, h.size, h.block⟩
theorem Fr.drewN {pb : Nat} {a w : World} (h : Fr pb a w) (n : Nat) : Fr pb a (w.drewN n) := ⟨h.os, h.tape, h.output, h.size, h.block⟩
theorem Fr.alloc {pb : Nat} {a w : World} (h : Fr pb a w) (o : Obj) : Fr pb a (w.alloc o) := h.trans (Fr.below ((Below.refl _ _).alloc (Nat.le_refl _) _))
theorem Fr.setCell {pb : Nat} {a w : World} (h : Fr pb a w) {p : Addr} (hp : p.block = pb ∨ a.heap.size ≤ p.block) (u : Value) : Fr pb a (w.setCell p u) :=
  ⟨h.os, h.tape, h.output, by have := h.size; simpa [World.setCell] using this, fun k hk hn => by rw [Below.heap_setCell _ _ _ _ (by omega)]; exact h.block k hk hn⟩
theorem lt_of_block {w : World} {b : Nat} {o : Obj} (h : w.heap[b]? = some o) : b < w.heap.size := by
  by_cases hx : b < w.heap.size
  · exact hx
  · rw [Array.getElem?_eq_none (by omega)] at h; cases h
theorem cell_of_block {w : World} {b i : Nat} {c : Array Value} {e : TypeId} (h : w.heap[b]? = some (.cells c e (0, 0))) {v : Value} (hv : c[i]? = some v) : w.cell? ⟨b, i, none⟩ = some v := by
  simp [World.cell?, h, hv]
theorem frozen_of_block {w : World} {b i : Nat} {c : Array Value} {e : TypeId} (h : w.heap[b]? = some (.cells c e (0, 0))) : w.frozen? ⟨b, i, none⟩ = false := by
  simp [World.frozen?, h]
theorem heap_setCell_at {w : World} {b i : Nat} {c : Array Value} {e : TypeId} {f : Nat × Nat} (h : w.heap[b]? = some (.cells c e f)) {u : Value} : (w.setCell ⟨b, i, none⟩ u).heap[b]? = some (.cells (c.setIfInBounds i u) e f) := by
  simp [World.setCell, Array.getElem?_modify, h]
end Go.Proofs.YtblbkfdhjfppkaaGreatDoor

/- How a tree of the document's answer lies in memory. -/
namespace Go.Proofs.YtblbkfdhjfppkaaGreatDoor
open Go.RowKit
def All2 (R : Value → Hs.Ast → Prop) : List Value → List Hs.Ast → Prop
  | [], [] => True
  | v :: vs, a :: ks => R v a ∧ All2 R vs ks
  | _, _ => False
theorem All2.mono {R S : Value → Hs.Ast → Prop} (h : ∀ v a, R v a → S v a) : ∀ {vs ks}, All2 R vs ks → All2 S vs ks
  | [], [], _ => trivial
  | _ :: _, _ :: _, ⟨h1, h2⟩ => ⟨h _ _ h1, All2.mono h h2⟩
  | [], _ :: _, h => h.elim
  | _ :: _, [], h => h.elim
theorem All2.snoc {R : Value → Hs.Ast → Prop} : ∀ {vs ks} {v a}, All2 R vs ks → R v a → All2 R (vs ++ [v]) (ks ++ [a])
  | [], [], _, _, _, h => ⟨h, trivial⟩
  | _ :: _, _ :: _, _, _, ⟨h1, h2⟩, h => ⟨h1, All2.snoc h2 h⟩
  | [], _ :: _, _, _, h, _ => h.elim
  | _ :: _, [], _, _, h, _ => h.elim
def Btw (lo hi : Nat) (b : Nat) : Prop := lo ≤ b ∧ b < hi
end Go.Proofs.YtblbkfdhjfppkaaGreatDoor

/- A list of nodes that is being gathered. -/
namespace Go.Proofs.YtblbkfdhjfppkaaGreatDoor
open Go.RowKit
theorem ownsRow_keep {w w1 : World} {b : Nat} {e : TypeId} {size : Nat} {v : Value} {n : Nat} {xs : List Value} (h : w.ownsRow b e size v n xs) (hb : ∀ k, v.ownBlock = some k → w1.heap[k]? = w.heap[k]?) : w1.ownsRow b e size v n xs := by
  refine ⟨h.1, ?_⟩
  rcases h.2 with h2 | ⟨g, cap, cur, h1, h2, h3, h4⟩
  · exact Or.inl h2
  · refine Or.inr ⟨g, cap, cur, h1, h2, ?_, h4⟩
    rw [hb g (by rw [h1]; rfl)]; exact h3
theorem own_block_lt {w : World} {b : Nat} {e : TypeId} {size : Nat} {v : Value} {n : Nat} {xs : List Value} (h : w.ownsRow b e size v n xs) : ∀ k, v.ownBlock = some k → k < w.heap.size := by
  intro k hk
  rcases h.2 with ⟨rfl, _⟩ | ⟨g, cap, cur, rfl, h2, h3, _⟩
  · cases hk
  · have : g = k := Option.some.inj hk
    subst this; exact lt_of_block h3
theorem Fr.grown {pb : Nat} {a w w' : World} {row : Option Nat} (h : Fr pb a w) (hg : w.grownBy w' row) (hr : ∀ k, row = some k → a.heap.size ≤ k) : Fr pb a w' :=
  ⟨hg.os.trans h.os, hg.tape.trans h.tape, hg.output.trans h.output, Nat.le_trans h.size hg.size, fun k hk hn => by
    rw [hg.block k (Nat.lt_of_lt_of_le hk h.size) (fun e => by have := hr k e.symm; omega)]; exact h.block k hk hn⟩
end Go.Proofs.YtblbkfdhjfppkaaGreatDoor

/- Contracts of the document's answer: a primary, where it is a number, a string, true or false, or nothing. -/
namespace Go.Proofs.YtblbkfdhjfppkaaGreatDoor
open Go.RowKit
theorem heap_first (X : World) (n : Nat) (hn : n = X.heap.size) (o1 : Obj) : (X.alloc o1).heap[n]? = some o1 := by
  subst hn
  show (X.heap.push o1)[X.heap.size]? = _
  rw [Array.getElem?_push, if_pos rfl]
theorem heap_later (X : World) (n : Nat) (hn : n < X.heap.size) (o : Obj) {b : Option Obj} (h : X.heap[n]? = b) : (X.alloc o).heap[n]? = b := by
  rw [Below.heap_alloc _ _ _ hn]; exact h
theorem cell_keep {w w' : World} {b i : Nat} (h : w'.heap[b]? = w.heap[b]?) : w'.cell? ⟨b, i, none⟩ = w.cell? ⟨b, i, none⟩ := by simp [World.cell?, h]
end Go.Proofs.YtblbkfdhjfppkaaGreatDoor

/- Contracts of the document's answer: names: the small steps. -/
namespace Go.Proofs.YtblbkfdhjfppkaaGreatDoor
open Go.RowKit
def strsV (l : List (List UInt8)) : List Value := l.map fun x => .string (bs x)
theorem infoStr : (Tryz.prog.info? 9).map (fun i => (i.zero, i.size, i.bytes)) = some (some (.string (bs [])), 1, 16) := by kernel_rfl
end Go.Proofs.YtblbkfdhjfppkaaGreatDoor
