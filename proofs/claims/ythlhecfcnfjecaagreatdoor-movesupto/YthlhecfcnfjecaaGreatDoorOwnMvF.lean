/- Closed facts of the program, one by one. -/
import Derived.Test.YthlhecfcnfjecaaGreatDoorB03
import Derived.Test.YthlhecfcnfjecaaGreatDoorP07
set_option linter.all false
set_option maxRecDepth 100000
namespace Go.Proofs.YthlhecfcnfjecaaGreatDoor
open _root_.Go.Proofs.Tryz
open Go.RowKit
def m8:laidOutB prog=true:=k_
def Uu:mapsRowed prog=true:=k_
def Ol:prog.stopsHeard=true:=k_
def Hg:prog.mayEnter=true:=k_
