/- Closed facts of the program, one by one. -/
import Derived.Test.YtblbkfdhjfppkaaGreatDoorB04
import Derived.Test.YtblbkfdhjfppkaaGreatDoorP24
set_option maxRecDepth 100000
namespace Go.Proofs.YtblbkfdhjfppkaaGreatDoor
open _root_.Go.Proofs.Tryz(prog)
open Go.RowKit
theorem W4:laidOutB prog=true:=by kernel_rfl
theorem V9:mapsRowed prog=true:=by kernel_rfl
theorem L7:prog.stopsHeard=true:=by kernel_rfl
theorem L8:prog.mayEnter=true:=by kernel_rfl
end Go.Proofs.YtblbkfdhjfppkaaGreatDoor
