/- Closed facts of the program, one by one. -/
import Derived.Test.YtblbkfdhjfppkaaGreatDoorB02
import Derived.Test.YtblbkfdhjfppkaaGreatDoorP33
set_option maxRecDepth 100000
namespace Go.Proofs.YtblbkfdhjfppkaaGreatDoor
open Go.RowKit
theorem N4:laidOutB Tryz.prog=true:=by kernel_rfl
theorem N3:mapsRowed Tryz.prog=true:=by kernel_rfl
theorem E4:Tryz.prog.stopsHeard=true:=by kernel_rfl
theorem E5:Tryz.prog.mayEnter=true:=by kernel_rfl
end Go.Proofs.YtblbkfdhjfppkaaGreatDoor
