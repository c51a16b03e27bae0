/- Contracts: the law Checks out of the two readings. -/
import Derived.Test.YtblbkfdhjfppkaaGreatDoorPart07
import Derived.Test.YtblbkfdhjfppkaaGreatDoorPart04
namespace Go.Proofs.YtblbkfdhjfppkaaGreatDoor
open Go.RowKit

/-- The program's Check is the document's. -/
theorem check_any (src : ByteArray) (w : World) (hT : AllTabs w) (hs : src.size ≤ maxLen) :
    Calls Tryz.prog 15 #[.string src] w fun e w' => Below w.heap.size w w' ∧ ((Hs.readL src.data.toList).1 = 0 → Hs.readL src.data.toList = (0, 0)) ∧ e = .returned (.tuple #[.int .i64 (Hs.readL src.data.toList).1, .int .i64 (Hs.readL src.data.toList).2]) :=
  check_of (Hs.readL src.data.toList) src w fun w1 hb hc hl => (check1_any src w.heap.size w1 (hT.below hb) hs hc hl).mono fun _ _ h => h

set_option maxRecDepth 100000 in
set_option maxHeartbeats 1000000 in
theorem law_any (src : ByteArray) (w : World) (hT : AllTabs w) (hg : RefTabs w) (hs : src.size ≤ maxLen) :
    Calls Tryz.prog 3 #[.string src] w fun e w' => e = .returned (.bool true) ∧ Below w.heap.size w w' := by
  have HC := mkHid (check_any src w hT hs)
  have HR : ∀ w1, ((Hs.readL src.data.toList).1 = 0 → Hs.readL src.data.toList = (0, 0)) → Below w.heap.size w w1 → Calls Tryz.prog 16 #[.string src] w1 fun e w' => Below w1.heap.size w1 w' ∧ ∃ p, e = .returned (.tuple #[.pointer p, .agg #[.int .i64 (Hs.readL src.data.toList).1, .int .i64 (Hs.readL src.data.toList).2]]) := fun w1 hz hb => (read_any src w1 (hg.below hb) hs).mono fun e w' h => by
    refine ⟨h.1, ?_⟩
    have h2 := h.2
    split at h2
    · next h0 =>
      obtain ⟨b, ks, h3, -⟩ := h2
      rw [hz h0]
      exact ⟨_, h3⟩
    · exact ⟨_, h2⟩
  have HR := mkHid HR
  clear hT hg hs
  generalize Hs.readL src.data.toList = rd at *
  obtain ⟨k, n⟩ := rd
  go_enter Tryz.func3, Tryz.ntmps3
  go_wp2_with fail
  refine HC.out.mono ?_
  rintro e w1 ⟨hb, hz, rfl⟩
  have HB := mkHid hb
  have H2 := mkHid (HR.out w1 hz hb)
  clear hb hz HR HC
  go_wp2_with fail
  refine H2.out.mono ?_
  rintro e w2 ⟨hb2, p, rfl⟩
  have HB2 := mkHid hb2
  clear hb2 H2
  go_wp2_with fail
  go_ret
  exact ⟨rfl, (HB.out.trans (HB2.out.mono HB.out.size)).trans (((Below.refl _ _).alloc (Nat.le_refl _) _).mono (Nat.le_trans HB.out.size HB2.out.size))⟩

end Go.Proofs.YtblbkfdhjfppkaaGreatDoor
