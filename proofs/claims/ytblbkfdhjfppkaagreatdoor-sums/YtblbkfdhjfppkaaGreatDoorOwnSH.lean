/- Closed facts of the program, one by one. -/
import Derived.Test.YtblbkfdhjfppkaaGreatDoorTie
import Derived.Test.YtblbkfdhjfppkaaGreatDoorCards
import Derived.Test.YtblbkfdhjfppkaaGreatDoorTabsS
import Derived.ProofKit
import Derived.OpenShut
import Derived.LaidMore
import Derived.Lay
import Derived.SevenTiedAt
import Derived.Stop.Joined
namespace Go.Proofs.YtblbkfdhjfppkaaGreatDoor
open Go.RowKit
set_option maxRecDepth 100000
theorem sf_lifts : (Rows.sumsRow.lifted == Tryz.prog.liftsFinal) = true := by kernel_rfl
theorem sf_keys : (Rows.sumsRow.plainKeys == Tryz.prog.plainKeys) = true := by kernel_rfl
theorem sf_looks : true = Tryz.prog.looks [] := by kernel_rfl
theorem sf_goes : false = Rows.sumsRow.goesBy Tryz.prog := by kernel_rfl
theorem sf_func : Tryz.prog.funcNamed "hindsight/hindsightkeep.Sums" = some 11 := by kernel_rfl
end Go.Proofs.YtblbkfdhjfppkaaGreatDoor
