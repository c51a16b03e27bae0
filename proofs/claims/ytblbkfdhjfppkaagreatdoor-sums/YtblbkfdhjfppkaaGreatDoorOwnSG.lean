/- Closed facts of the program, one by one. -/
import Derived.Test.YtblbkfdhjfppkaaGreatDoorTie
import Derived.Test.YtblbkfdhjfppkaaGreatDoorCards
import Derived.Test.YtblbkfdhjfppkaaGreatDoorTabsS
import Derived.ProofKit
import Derived.OpenShut
import Derived.LaidMore
import Derived.Lay
import Derived.SevenTiedAt
import Derived.Stop.Joined
namespace Go.Proofs.YtblbkfdhjfppkaaGreatDoor
open Go.RowKit
set_option maxRecDepth 100000
theorem sf_inPlace : (Rows.sumsRow.inPlace == Tryz.prog.inPlace 11) = true := by kernel_rfl
theorem sf_unfol : (Rows.sumsRow.unfollowed == Tryz.prog.unfollowed 11) = true := by kernel_rfl
theorem sf_rec : (Rows.sumsRow.recurses == Tryz.prog.recurses 11) = true := by kernel_rfl
theorem sf_named : (Rows.sumsRow.named == Tryz.prog.varsNamed 11) = true := by kernel_rfl
end Go.Proofs.YtblbkfdhjfppkaaGreatDoor
