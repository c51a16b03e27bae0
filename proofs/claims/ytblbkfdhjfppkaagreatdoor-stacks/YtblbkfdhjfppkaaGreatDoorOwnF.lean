/- Closed facts of the program, one by one. -/
import Derived.Test.YtblbkfdhjfppkaaGreatDoorB03
import Derived.Test.YtblbkfdhjfppkaaGreatDoorP27
set_option linter.defProp false
set_option maxRecDepth 100000
namespace Go.Proofs.YtblbkfdhjfppkaaGreatDoor
open _root_.Go.Proofs.Tryz
open Go.RowKit
def b9:laidOutB prog=true:=by kernel_rfl
def b8:mapsRowed prog=true:=by kernel_rfl
def P3:prog.stopsHeard=true:=by kernel_rfl
def P4:prog.mayEnter=true:=by kernel_rfl
end Go.Proofs.YtblbkfdhjfppkaaGreatDoor
