/- Closed facts of the program, one by one. -/
import Derived.Test.YthbffcmfmjpncaaGreatDoorP09k
set_option linter.defProp false
set_option maxRecDepth 100000
namespace Go.Proofs.YthbffcmfmjpncaaGreatDoor
open _root_.Go.Proofs.Tryz
open Go.RowKit
def GW:laidOutB prog=true:=k_
def GV:mapsRowed prog=true:=k_
def ET:prog.stopsHeard=true:=k_
def EU:prog.mayEnter=true:=k_
end Go.Proofs.YthbffcmfmjpncaaGreatDoor
