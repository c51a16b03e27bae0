/- Closed facts of the program, one by one. -/
import Derived.Test.YtddnpoiiimjpcaaGreatDoorB01
import Derived.Test.YtddnpoiiimjpcaaGreatDoorP00
set_option linter.defProp false
set_option maxRecDepth 100000
namespace Go.Proofs.YtddnpoiiimjpcaaGreatDoor
open _root_.Go.Proofs.Tryz
open Go.RowKit
def B7:laidOutB prog=true:=k_
def bs_:mapsRowed prog=true:=k_
def y6:prog.stopsHeard=true:=k_
def y7:prog.mayEnter=true:=k_
end Go.Proofs.YtddnpoiiimjpcaaGreatDoor
