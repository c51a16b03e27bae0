/- Closed facts of the program, one by one. -/
import Derived.Test.YthbffcmfmjpncaaGreatDoorB03c
import Derived.Test.YthbffcmfmjpncaaGreatDoorP18c
set_option linter.defProp false
set_option maxRecDepth 100000
namespace Go.Proofs.YthbffcmfmjpncaaGreatDoor
open _root_.Go.Proofs.Tryz
open Go.RowKit
def e7:laidOutB prog=true:=k_
def d9:mapsRowed prog=true:=k_
def Q7:prog.stopsHeard=true:=k_
def Q8:prog.mayEnter=true:=k_
end Go.Proofs.YthbffcmfmjpncaaGreatDoor
