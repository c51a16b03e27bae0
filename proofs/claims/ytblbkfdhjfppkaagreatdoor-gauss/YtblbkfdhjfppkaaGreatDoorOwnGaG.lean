/- Closed facts of the program, one by one. -/
import Derived.Test.YtblbkfdhjfppkaaGreatDoorB08
import Derived.Test.YtblbkfdhjfppkaaGreatDoorP33
set_option maxRecDepth 100000
namespace Go.Proofs.YtblbkfdhjfppkaaGreatDoor
open Go.RowKit
theorem RR:(Rows.gaussRow.inPlace==Tryz.prog.inPlace 12)=true:=by kernel_rfl
theorem C8:(Rows.gaussRow.unfollowed==Tryz.prog.unfollowed 12)=true:=by kernel_rfl
theorem P7:(Rows.gaussRow.recurses==Tryz.prog.recurses 12)=true:=by kernel_rfl
theorem C9:(Rows.gaussRow.named==Tryz.prog.varsNamed 12)=true:=by kernel_rfl
end Go.Proofs.YtblbkfdhjfppkaaGreatDoor
