/-
  DERIVED. GIVEN WITH THE SEED: THE CARDS: each row of YtmjbnmpamlainaaGreatDoorRows.lean that lists a variable, with what it lists TIED to the program's text (the seventh form; the later family's looks); each row that meets fmt, with fmt's text TOLD by the authors' own Lean function (tested against real Go, not proved from fmt's source: count such statements apart). THE CARD IS WHAT COUNTS. Prove the row's statement (the work); the ties are given (YtmjbnmpamlainaaGreatDoorTie.lean); close each card by the builder's one call (the guide's Derived/Test/ToyasCard.lean, 'card_holds'). Laid BY PROGRAM, IN A SANDBOX (cutbox-door.mjs). By AI agents, Wed Nov 11 2026. No macro, syntax, notation, axiom, sorry.
-/
import Derived.Test.YtmjbnmpamlainaaGreatDoorRows
import GoSem.ClaimSeven
namespace Go.Proofs.YtmjbnmpamlainaaGreatDoor
namespace Rows

/-- THE TIED CARD OF 'hindsightkeep.Lasting'. -/
def lastingCard : Claim7 := { stood := { row := lastingRow, standIns := [], harness := (true, "997d4102d6cbfae40517238b6e1b798977e9f64d5529f4850256659d0dcafd05"), looks := true }, kinds := [], alts := [], laidByText := true, laidKinds := [.data, .data, .data, .data, .sentinel, .sentinel, .data, .pinned], laidTests := true, laidLooks := .later }
def LastingCardSaid : Prop := Claim7.holds Tryz.pinned (.plain (OpenSpec.ofChange lastingSpec)) lastingCard

/-- THE SECOND FORM's CARD OF 'hindsightkeep.Lasting'. -/
def lastingUptoCard : Claim7 := { stood := { row := lastingUptoRow, standIns := [], harness := (true, "997d4102d6cbfae40517238b6e1b798977e9f64d5529f4850256659d0dcafd05"), looks := true }, kinds := [], alts := [], laidByText := true, laidKinds := [.data, .data, .data, .data, .sentinel, .sentinel, .data, .pinned], laidTests := true, laidLooks := .later }
def LastingUptoCardSaid : Prop := Claim7.holds Tryz.pinned (.plain (OpenSpec.upto lastingSpec)) lastingUptoCard
end Rows
end Go.Proofs.YtmjbnmpamlainaaGreatDoor
