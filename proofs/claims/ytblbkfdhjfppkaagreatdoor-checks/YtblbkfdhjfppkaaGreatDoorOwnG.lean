/- Closed facts of the program, one by one. -/
import Derived.Test.YtblbkfdhjfppkaaGreatDoorTie
import Derived.Test.YtblbkfdhjfppkaaGreatDoorCards
import Derived.Test.YtblbkfdhjfppkaaGreatDoorTabs
import Derived.ProofKit
import Derived.OpenShut
import Derived.LaidMore
import Derived.Lay
import Derived.SevenTiedAt
import Derived.Stop.Joined
namespace Go.Proofs.YtblbkfdhjfppkaaGreatDoor
open Go.RowKit

set_option maxRecDepth 100000
theorem cf_inPlace : (Rows.checksRow.inPlace == Tryz.prog.inPlace 3) = true := by kernel_rfl
theorem cf_unfol : (Rows.checksRow.unfollowed == Tryz.prog.unfollowed 3) = true := by kernel_rfl
theorem cf_rec : (Rows.checksRow.recurses == Tryz.prog.recurses 3) = true := by kernel_rfl
theorem cf_named : (Rows.checksRow.named == Tryz.prog.varsNamed 3) = true := by kernel_rfl

end Go.Proofs.YtblbkfdhjfppkaaGreatDoor
