/- Closed facts of the program, one by one. -/
import Derived.Test.YtjhbbdpfkccohaaGreatDoorB03
import Derived.Test.YtjhbbdpfkccohaaGreatDoorP07
set_option linter.all false
set_option maxRecDepth 100000
namespace Go.Proofs.YtjhbbdpfkccohaaGreatDoor
open _root_.Go.Proofs.Tryz
open Go.RowKit
def X7:laidOutB prog=true:=k_
def Ho:mapsRowed prog=true:=k_
def Gp:prog.stopsHeard=true:=k_
def Rg:prog.mayEnter=true:=k_
