/- Closed facts of the program, one by one. -/
import Derived.Test.YtblbkfdhjfppkaaGreatDoorTie
import Derived.Test.YtblbkfdhjfppkaaGreatDoorCards
import Derived.Test.YtblbkfdhjfppkaaGreatDoorPart24
import Derived.ProofKit
import Derived.OpenShut
import Derived.LaidMore
import Derived.Lay
import Derived.SevenTiedAt
import Derived.Stop.Joined
namespace Go.Proofs.YtblbkfdhjfppkaaGreatDoor
open Go.RowKit
set_option maxRecDepth 100000
theorem cf_laid : laidOutB Tryz.prog = true := by kernel_rfl
theorem cf_maps : mapsRowed Tryz.prog = true := by kernel_rfl
theorem cf_heard : Tryz.prog.stopsHeard = true := by kernel_rfl
theorem cf_enter : Tryz.prog.mayEnter = true := by kernel_rfl
end Go.Proofs.YtblbkfdhjfppkaaGreatDoor
