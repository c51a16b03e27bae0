/- Closed facts of the program, one by one. -/
import Derived.Test.YtblbkfdhjfppkaaGreatDoorTie
import Derived.Test.YtblbkfdhjfppkaaGreatDoorCards
import Derived.Test.YtblbkfdhjfppkaaGreatDoorTabs
import Derived.ProofKit
import Derived.OpenShut
import Derived.LaidMore
import Derived.Lay
import Derived.SevenTiedAt
import Derived.Stop.Joined
namespace Go.Proofs.YtblbkfdhjfppkaaGreatDoor
open Go.RowKit

set_option maxRecDepth 100000
theorem cf_lifts : (Rows.checksRow.lifted == Tryz.prog.liftsFinal) = true := by kernel_rfl
theorem cf_keys : (Rows.checksRow.plainKeys == Tryz.prog.plainKeys) = true := by kernel_rfl
theorem cf_looks : true = Tryz.prog.looks [] := by kernel_rfl
theorem cf_goes : false = Rows.checksRow.goesBy Tryz.prog := by kernel_rfl
theorem cf_func : Tryz.prog.funcNamed "hindsight/hindsightlaw.Checks" = some 3 := by kernel_rfl

end Go.Proofs.YtblbkfdhjfppkaaGreatDoor
