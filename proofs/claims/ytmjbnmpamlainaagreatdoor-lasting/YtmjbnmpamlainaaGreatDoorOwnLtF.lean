/- Closed facts of the program, one by one. -/
import Derived.Test.YtmjbnmpamlainaaGreatDoorB01
import Derived.Test.YtmjbnmpamlainaaGreatDoorP00
set_option linter.defProp false
set_option maxRecDepth 100000
namespace Go.Proofs.YtmjbnmpamlainaaGreatDoor
open _root_.Go.Proofs.Tryz
open Go.RowKit
def ZL:laidOutB prog=true:=by kernel_rfl
def a1_:mapsRowed prog=true:=by kernel_rfl
def j7:prog.stopsHeard=true:=by kernel_rfl
def j8:prog.mayEnter=true:=by kernel_rfl
end Go.Proofs.YtmjbnmpamlainaaGreatDoor
