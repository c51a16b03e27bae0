/- Closed facts of the program, one by one. -/
import Derived.Test.YthnhjhlinlhflaaGreatDoorB02
import Derived.Test.YthnhjhlinlhflaaGreatDoorP06
set_option linter.all false
set_option maxRecDepth 100000
namespace Go.Proofs.YthnhjhlinlhflaaGreatDoor
open _root_.Go.Proofs.Tryz
open Go.RowKit
def o7:laidOutB prog=true:=k_
def Mr:mapsRowed prog=true:=k_
def Sh:prog.stopsHeard=true:=k_
def Qr:prog.mayEnter=true:=k_
