/- Closed facts of the program, one by one. -/
import Derived.Test.YtddnpoiiimjpcaaGreatDoorB01
import Derived.Test.YtddnpoiiimjpcaaGreatDoorP00
set_option linter.defProp false
set_option maxRecDepth 100000
namespace Go.Proofs.YtddnpoiiimjpcaaGreatDoor
open _root_.Go.Proofs.Tryz
open Go.RowKit
def P6:laidOutB prog=true:=by kernel_rfl
def P5:mapsRowed prog=true:=by kernel_rfl
def G6:prog.stopsHeard=true:=by kernel_rfl
def G7:prog.mayEnter=true:=by kernel_rfl
end Go.Proofs.YtddnpoiiimjpcaaGreatDoor
