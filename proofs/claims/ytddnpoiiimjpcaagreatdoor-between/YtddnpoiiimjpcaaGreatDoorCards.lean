/-
  DERIVED. GIVEN WITH THE SEED: THE CARDS: each row of YtddnpoiiimjpcaaGreatDoorRows.lean that lists a variable, with what it lists TIED to the program's text (the seventh form; the later family's looks); each row that meets fmt, with fmt's text TOLD by the authors' own Lean function (tested against real Go, not proved from fmt's source: count such statements apart). THE CARD IS WHAT COUNTS. Prove the row's statement (the work); the ties are given (YtddnpoiiimjpcaaGreatDoorTie.lean); close each card by the builder's one call (the guide's Derived/Test/ToyasCard.lean, 'card_holds'). Laid BY PROGRAM, IN A SANDBOX (cutbox-door.mjs). By AI agents, Wed Nov 11 2026. No macro, syntax, notation, axiom, sorry.
-/
import Derived.Test.YtddnpoiiimjpcaaGreatDoorRows
import GoSem.ClaimSeven
namespace Go.Proofs.YtddnpoiiimjpcaaGreatDoor
namespace Rows

/-- THE TIED CARD OF 'hindsightkeep.Turned'. -/
def turnedCard : Claim7 := { stood := { row := turnedRow, standIns := [], harness := (true, "3836e6641aa95d787c64d1e3fa7a2496463bf2ccc3c36594519be8d2756b6057"), looks := true }, kinds := [], alts := [], laidByText := true, laidKinds := [.data, .data, .data, .data, .sentinel, .sentinel, .data, .pinned], laidTests := true, laidLooks := .later }
def TurnedCardSaid : Prop := Claim7.holds Tryz.pinned (.plain (OpenSpec.ofChange turnedSpec)) turnedCard

/-- THE TIED CARD OF 'hindsightkeep.Gauss'. -/
def gaussCard : Claim7 := { stood := { row := gaussRow, standIns := [], harness := (true, "3836e6641aa95d787c64d1e3fa7a2496463bf2ccc3c36594519be8d2756b6057"), looks := true }, kinds := [], alts := [], laidByText := true, laidKinds := [.data, .data, .data, .data, .sentinel, .sentinel, .data, .pinned], laidTests := true, laidLooks := .later }
def GaussCardSaid : Prop := Claim7.holds Tryz.pinned (.plain (OpenSpec.ofChange gaussSpec)) gaussCard

/-- THE TIED CARD OF 'hindsightkeep.Between'. -/
def betweenCard : Claim7 := { stood := { row := betweenRow, standIns := [], harness := (true, "3836e6641aa95d787c64d1e3fa7a2496463bf2ccc3c36594519be8d2756b6057"), looks := true }, kinds := [], alts := [], laidByText := true, laidKinds := [.data, .data, .data, .data, .sentinel, .sentinel, .data, .pinned], laidTests := true, laidLooks := .later }
def BetweenCardSaid : Prop := Claim7.holds Tryz.pinned (.plain (OpenSpec.ofChange betweenSpec)) betweenCard

/-- THE SECOND FORM's CARD OF 'hindsightkeep.Turned'. -/
def turnedUptoCard : Claim7 := { stood := { row := turnedUptoRow, standIns := [], harness := (true, "3836e6641aa95d787c64d1e3fa7a2496463bf2ccc3c36594519be8d2756b6057"), looks := true }, kinds := [], alts := [], laidByText := true, laidKinds := [.data, .data, .data, .data, .sentinel, .sentinel, .data, .pinned], laidTests := true, laidLooks := .later }
def TurnedUptoCardSaid : Prop := Claim7.holds Tryz.pinned (.plain (OpenSpec.upto turnedSpec)) turnedUptoCard

/-- THE SECOND FORM's CARD OF 'hindsightkeep.Gauss'. -/
def gaussUptoCard : Claim7 := { stood := { row := gaussUptoRow, standIns := [], harness := (true, "3836e6641aa95d787c64d1e3fa7a2496463bf2ccc3c36594519be8d2756b6057"), looks := true }, kinds := [], alts := [], laidByText := true, laidKinds := [.data, .data, .data, .data, .sentinel, .sentinel, .data, .pinned], laidTests := true, laidLooks := .later }
def GaussUptoCardSaid : Prop := Claim7.holds Tryz.pinned (.plain (OpenSpec.upto gaussSpec)) gaussUptoCard

/-- THE SECOND FORM's CARD OF 'hindsightkeep.Between'. -/
def betweenUptoCard : Claim7 := { stood := { row := betweenUptoRow, standIns := [], harness := (true, "3836e6641aa95d787c64d1e3fa7a2496463bf2ccc3c36594519be8d2756b6057"), looks := true }, kinds := [], alts := [], laidByText := true, laidKinds := [.data, .data, .data, .data, .sentinel, .sentinel, .data, .pinned], laidTests := true, laidLooks := .later }
def BetweenUptoCardSaid : Prop := Claim7.holds Tryz.pinned (.plain (OpenSpec.upto betweenSpec)) betweenUptoCard
end Rows
end Go.Proofs.YtddnpoiiimjpcaaGreatDoor
