/- What the row's condition on package-level variables gives the contracts: their tables. -/
import Derived.Test.YtblbkfdhjfppkaaGreatDoorRows
import Derived.Test.YtblbkfdhjfppkaaGreatDoorPart01
import Derived.PinnedBridge
import Derived.Lib.LaidU8T
import Derived.OpenShut
import Derived.LaidMore
namespace Go.Proofs.YtblbkfdhjfppkaaGreatDoor
open Go.RowKit Go.Lib

theorem strs_of_array {H : Type} {enc : TypeId × Value → H} {P : Program} {w : World} {base : Nat} {sp : Nat → Bool} {held : Bool} {fuel : Nat} {t e : TypeId} {n : Nat} {cs : List Value} {bss : List (List UInt8)} {p : List MemPlace}
    (ht : P.underlying t = some (.array n e)) (he : P.underlying e = some .string) (hce : P.cellsOf e = 1) (hct : P.cellsOf t = n) (hl : bss.length = n)
    (h : DataW.trod enc P w base sp held fuel t cs = some (.agg (bss.map fun b => .lit (.string b)), p)) : cs = bss.map fun b => Value.string (bs b) := by
  obtain ⟨xs, m, rfl, hx, hlen, hxl, hel⟩ := DataW.trod_array ht h
  rw [hct] at hlen
  refine List.ext_getElem? fun i => ?_
  by_cases hi : i < n
  · have h1 := hel i hi
    rw [hce, Nat.mul_one, List.getElem?_eq_getElem (by omega)] at h1
    obtain ⟨s, e1, e2, _⟩ := DataW.trod_string he h1
    have e3 : xs.map (·.1) = bss.map fun b => (DataW.lit (.string b) : DataW H) := (DataW.agg.inj (Prod.mk.inj hx).1).symm
    have e4 : (xs.map (·.1))[i]? = (bss.map fun b => (DataW.lit (.string b) : DataW H))[i]? := by rw [e3]
    rw [List.getElem?_map, List.getElem?_map, List.getElem?_eq_getElem (by omega : i < xs.length), List.getElem?_eq_getElem (by omega : i < bss.length), e2] at e4
    simp only [Option.map_some, Option.some.injEq, DataW.lit.injEq, Lit.string.injEq] at e4
    rw [List.getElem?_map, List.getElem?_eq_getElem (by omega : i < bss.length)]
    have h0 : ((cs.drop i).take 1)[0]? = some (.string s) := by rw [e1]; rfl
    have h2 : cs[i]? = some (.string s) := by simpa using h0
    rw [h2]
    simp only [Option.map_some, Option.some.injEq, Value.string.injEq]
    rw [← e4]
    rfl
  · rw [List.getElem?_eq_none (by omega), List.getElem?_eq_none (by simp; omega)]

theorem block_of_var {P : Program} {w : World} {n : String} {g : Nat} {cs : Array Value} (hg : P.globalNamed n = some g) (h : w.var? P n = some cs) : ∃ t fr, w.heap[g]? = some (.cells cs t fr) := by
  simp only [World.var?, hg, Option.bind_some] at h
  split at h
  · next cs' t fr hb => cases h; exact ⟨t, fr, hb⟩
  · cases h

/-- The cells of a table of texts. -/
theorem strs_reads {w : World} {nm : String} {g t n : Nat} {bss : List (List UInt8)} (hg : Tryz.prog.globalNamed nm = some g) (ht : (Tryz.prog.globals[g]?).map (·.type) = some t) (hu : Tryz.prog.underlying t = some (.array n 9)) (hct : Tryz.prog.cellsOf t = n) (hl : bss.length = n)
    (h : VarReads Tryz.prog w nm (.agg (bss.map fun b => .lit (.string b)))) : ∃ ty fr, w.heap[g]? = some (.cells (bss.map fun b => Value.string (bs b)).toArray ty fr) := by
  obtain ⟨g0, t0, cs, fuel, p, hg0, ht0, hv, hd⟩ := h
  obtain rfl := Option.some.inj (hg.symm.trans hg0)
  obtain rfl := Option.some.inj (ht.symm.trans ht0)
  obtain ⟨ty, fr, hb⟩ := block_of_var hg hv
  have := strs_of_array hu Tryz.underlying9 (by kernel_rfl) hct hl hd
  obtain ⟨l⟩ := cs
  have e : l = bss.map fun b => Value.string (bs b) := this
  subst e
  exact ⟨ty, fr, hb⟩

theorem row_at_block {w : World} {g : Nat} {l : List Value} {ty : TypeId} {fr : Nat × Nat} (h : w.heap[g]? = some (.cells l.toArray ty fr)) {i : Nat} {v : Value} (hv : l[i]? = some v) : w.cell? ⟨g, i, none⟩ = some v := by
  simp [World.cell?, h, hv]

theorem g_others : Tryz.prog.globalNamed "hindsight/hindsightref.others" = some 0 := by kernel_rfl
theorem g_keywords : Tryz.prog.globalNamed "hindsight/hindsightref.keywords" = some 2 := by kernel_rfl
theorem g_marks : Tryz.prog.globalNamed "hindsight/syntax.marks" = some 6 := by kernel_rfl
theorem g_range : Tryz.prog.globalNamed "strconv.ErrRange" = some 10 := by kernel_rfl
theorem g_de64 : Tryz.prog.globalNamed "math/bits.deBruijn64tab" = some 8 := by kernel_rfl
theorem t_others : (Tryz.prog.globals[(0 : Nat)]?).map (·.type) = some 300 := by kernel_rfl
theorem t_keywords : (Tryz.prog.globals[(2 : Nat)]?).map (·.type) = some 376 := by kernel_rfl
theorem t_marks : (Tryz.prog.globals[(6 : Nat)]?).map (·.type) = some 300 := by kernel_rfl
theorem t_range : (Tryz.prog.globals[(10 : Nat)]?).map (·.type) = some 414 := by kernel_rfl
theorem c_21 : Tryz.prog.cellsOf 300 = 21 := by kernel_rfl
theorem c_9 : Tryz.prog.cellsOf 376 = 9 := by kernel_rfl

theorem d_keywords : (Rows.laid_hindsight_hindsightref_keywords : DataW Unit) = .agg (Hs.kwords.map fun b => .lit (.string b)) := rfl
theorem d_others : (Rows.laid_hindsight_hindsightref_others : DataW Unit) = .agg (Hs.others.map fun b => .lit (.string b)) := rfl
theorem d_marks : (Rows.laid_hindsight_syntax_marks : DataW Unit) = .agg (Hs.others.map fun b => .lit (.string b)) := rfl
theorem d_accept : (Rows.laid_unicode_utf8_acceptRanges : DataW Unit) = acceptData := by kernel_rfl
theorem d_first : Rows.laid_unicode_utf8_first = firstData := Pinned.utf8First_eq

/-- How the shelf's numbers of types and variables are named here. -/
def u8ren : Shelf.Ren := ⟨fun x => x, fun n => if n = 5 then 5 else if n = 119 then 409 else if n = 138 then 411 else 412, fun n => if n = 3 then 4 else 5⟩
theorem u8types : U8Types Tryz.prog u8ren := ⟨Tryz.underlying5, Tryz.underlying409, Tryz.underlying411, Tryz.underlying412⟩
theorem u8extra : U8Extra Tryz.prog u8ren := ⟨by kernel_rfl, by kernel_rfl, by kernel_rfl, by kernel_rfl, by kernel_rfl, by kernel_rfl, by kernel_rfl⟩

/-- What the row lists. -/
def Listed (w : World) : Prop := laidMet Tryz.prog Rows.checksRow.laid w

theorem Listed.big {w : World} (h : Listed w) : 11 ≤ w.heap.size := by
  obtain ⟨g, t, cs, fuel, p, hg, ht, hv, hd⟩ := Lib.laidMet.reads h (n := "math/bits.deBruijn64tab") (d := Rows.laid_math_bits_deBruijn64tab) (by simp [Rows.checksRow])
  obtain ⟨ty, fr, hb⟩ := block_of_var g_de64 hv
  obtain ⟨g', t', cs', fuel', p', hg', ht', hv', hd'⟩ := Lib.laidMet.reads h (n := "strconv.ErrRange") (d := Rows.laid_strconv_ErrRange) (by simp [Rows.checksRow])
  obtain ⟨ty', fr', hb'⟩ := block_of_var g_range hv'
  rcases Nat.lt_or_ge (8 : Nat) w.heap.size with h1 | h1
  · rcases Nat.lt_or_ge (10 : Nat) w.heap.size with h2 | h2
    · omega
    · rw [Array.getElem?_eq_none h2] at hb'; cases hb'
  · rw [Array.getElem?_eq_none h1] at hb; cases hb

theorem Listed.others {w : World} (h : Listed w) : ∃ ty fr, w.heap[(0 : Nat)]? = some (.cells (Hs.others.map fun b => Value.string (bs b)).toArray ty fr) :=
  strs_reads g_others t_others Tryz.underlying300 c_21 rfl (d_others ▸ Lib.laidMet.reads h (n := "hindsight/hindsightref.others") (by simp [Rows.checksRow]))
theorem Listed.keywords {w : World} (h : Listed w) : ∃ ty fr, w.heap[(2 : Nat)]? = some (.cells (Hs.kwords.map fun b => Value.string (bs b)).toArray ty fr) :=
  strs_reads g_keywords t_keywords Tryz.underlying376 c_9 rfl (d_keywords ▸ Lib.laidMet.reads h (n := "hindsight/hindsightref.keywords") (by simp [Rows.checksRow]))
theorem Listed.marks {w : World} (h : Listed w) : ∃ ty fr, w.heap[(6 : Nat)]? = some (.cells (Hs.others.map fun b => Value.string (bs b)).toArray ty fr) :=
  strs_reads g_marks t_marks Tryz.underlying300 c_21 rfl (d_marks ▸ Lib.laidMet.reads h (n := "hindsight/syntax.marks") (by simp [Rows.checksRow]))
theorem Listed.range {w : World} (h : Listed w) : ∃ te pe, w.cell? ⟨10, 0, none⟩ = some (.iface te pe) := by
  obtain ⟨g, t, cs, fuel, p, hg, ht, hv, hd⟩ := Lib.laidMet.reads h (n := "strconv.ErrRange") (d := Rows.laid_strconv_ErrRange) (by simp [Rows.checksRow])
  obtain rfl := Option.some.inj (g_range.symm.trans hg)
  obtain rfl := Option.some.inj (t_range.symm.trans ht)
  obtain ⟨f1, u, v, e, hn, h1⟩ := iface_of_trod Tryz.underlying414 hd
  obtain ⟨l⟩ := cs
  obtain rfl : l = _ := e
  exact ⟨u, v, by simpa using World.var?_cell hg hv 0⟩
theorem Listed.utf8 {w : World} (h : Listed w) : Lib.Utf8Tabs 4 5 w :=
  utf8Tabs_of_readsT u8types u8extra (d_first ▸ Lib.laidMet.reads h (n := "unicode/utf8.first") (by simp [Rows.checksRow])) (d_accept ▸ Lib.laidMet.reads h (n := "unicode/utf8.acceptRanges") (by simp [Rows.checksRow]))

theorem Listed.ref {w : World} (h : Listed w) : RefTabs w := by
  obtain ⟨t1, f1, h1⟩ := h.keywords
  obtain ⟨t2, f2, h2⟩ := h.others
  exact ⟨fun i hi => row_at_block h1 (by rw [List.getElem?_map, List.getElem?_eq_getElem (by simpa [Hs.kwords] using hi)]; rfl), fun i hi => row_at_block h2 (by rw [List.getElem?_map, List.getElem?_eq_getElem (by simpa [Hs.others] using hi)]; rfl), h.big⟩

end Go.Proofs.YtblbkfdhjfppkaaGreatDoor
