/- Closed facts of the program, one by one. -/
import Derived.Test.YtblbkfdhjfppkaaGreatDoorB09
import Derived.Test.YtblbkfdhjfppkaaGreatDoorP24
set_option maxRecDepth 100000
namespace Go.Proofs.YtblbkfdhjfppkaaGreatDoor
open _root_.Go.Proofs.Tryz(prog)
open Go.RowKit
theorem SW:(Rows.copiesRow.inPlace==prog.inPlace 13)=true:=by kernel_rfl
theorem G5:(Rows.copiesRow.unfollowed==prog.unfollowed 13)=true:=by kernel_rfl
theorem Y4:(Rows.copiesRow.recurses==prog.recurses 13)=true:=by kernel_rfl
theorem G6:(Rows.copiesRow.named==prog.varsNamed 13)=true:=by kernel_rfl
end Go.Proofs.YtblbkfdhjfppkaaGreatDoor
