/- What the condition of Sums' row on package-level variables gives the contracts: their tables. -/
import Derived.Test.YtblbkfdhjfppkaaGreatDoorPart24
import Derived.Test.YtblbkfdhjfppkaaGreatDoorPart14
import Derived.Test.YtblbkfdhjfppkaaGreatDoorPart09
namespace Go.Proofs.YtblbkfdhjfppkaaGreatDoor
open Go.RowKit Go.Lib
theorem g_pow : Tryz.prog.globalNamed "internal/strconv.uint64pow10" = some 1 := by kernel_rfl
theorem t_pow : (Tryz.prog.globals[(1 : Nat)]?).map (·.type) = some 370 := by kernel_rfl
theorem d_pow : (Rows.laid_internal_strconv_uint64pow10 : DataW Unit) = Lib.tabData .u64 Lib.pow10Tab := by kernel_rfl
def ListedS (w : World) : Prop := laidMet Tryz.prog Rows.sumsRow.laid w
theorem ListedS.big {w : World} (h : ListedS w) : 11 ≤ w.heap.size := by
  obtain ⟨g, t, cs, fuel, p, hg, ht, hv, hd⟩ := Lib.laidMet.reads h (n := "math/bits.deBruijn64tab") (d := Rows.laid_math_bits_deBruijn64tab) (by simp [Rows.sumsRow])
  obtain ⟨ty, fr, hb⟩ := block_of_var g_de64 hv
  obtain ⟨g', t', cs', fuel', p', hg', ht', hv', hd'⟩ := Lib.laidMet.reads h (n := "strconv.ErrRange") (d := Rows.laid_strconv_ErrRange) (by simp [Rows.sumsRow])
  obtain ⟨ty', fr', hb'⟩ := block_of_var g_range hv'
  rcases Nat.lt_or_ge (8 : Nat) w.heap.size with h1 | h1
  · rcases Nat.lt_or_ge (10 : Nat) w.heap.size with h2 | h2
    · omega
    · rw [Array.getElem?_eq_none h2] at hb'; cases hb'
  · rw [Array.getElem?_eq_none h1] at hb; cases hb
theorem ListedS.marks {w : World} (h : ListedS w) : ∃ ty fr, w.heap[(6 : Nat)]? = some (.cells (Hs.others.map fun b => Value.string (bs b)).toArray ty fr) :=
  strs_reads g_marks t_marks Tryz.underlying300 c_21 rfl (d_marks ▸ Lib.laidMet.reads h (n := "hindsight/syntax.marks") (by simp [Rows.sumsRow]))
theorem ListedS.range {w : World} (h : ListedS w) : ∃ te pe, w.cell? ⟨10, 0, none⟩ = some (.iface te pe) := by
  obtain ⟨g, t, cs, fuel, p, hg, ht, hv, hd⟩ := Lib.laidMet.reads h (n := "strconv.ErrRange") (d := Rows.laid_strconv_ErrRange) (by simp [Rows.sumsRow])
  obtain rfl := Option.some.inj (g_range.symm.trans hg)
  obtain rfl := Option.some.inj (t_range.symm.trans ht)
  obtain ⟨f1, u, v, e, hn, h1⟩ := iface_of_trod Tryz.underlying414 hd
  obtain ⟨l⟩ := cs
  obtain rfl : l = _ := e
  exact ⟨u, v, by simpa using World.var?_cell hg hv 0⟩
theorem ListedS.utf8 {w : World} (h : ListedS w) : Lib.Utf8Tabs 4 5 w :=
  utf8Tabs_of_readsT u8types u8extra (d_first ▸ Lib.laidMet.reads h (n := "unicode/utf8.first") (by simp [Rows.sumsRow])) (d_accept ▸ Lib.laidMet.reads h (n := "unicode/utf8.acceptRanges") (by simp [Rows.sumsRow]))
theorem ListedS.all {w : World} (h : ListedS w) : AllTabs w := by
  obtain ⟨ty, fr, h1⟩ := h.marks
  exact ⟨⟨h.range, h.big⟩, ⟨⟨ty, fr, h1⟩, h.big⟩, h.utf8⟩
theorem ListedS.pow {w : World} (h : ListedS w) : PowT w := by
  obtain ⟨g, t, cs, fuel, p, hg, ht, hv, hd⟩ := Lib.laidMet.reads h (n := "internal/strconv.uint64pow10") (d := Rows.laid_internal_strconv_uint64pow10) (by simp [Rows.sumsRow])
  obtain rfl := Option.some.inj (g_pow.symm.trans hg)
  obtain rfl := Option.some.inj (t_pow.symm.trans ht)
  rw [d_pow] at hd
  have e := Lib.cells_of_tab Tryz.underlying370 Tryz.underlying282 (by kernel_rfl) (by kernel_rfl) hd
  unfold PowT Lib.TabIs
  rw [hv, ← e]
end Go.Proofs.YtblbkfdhjfppkaaGreatDoor
