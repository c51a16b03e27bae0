/- Closed facts of the program, one by one. -/
import Derived.Test.YthbffcmfmjpncaaGreatDoorB02s
import Derived.Test.YthbffcmfmjpncaaGreatDoorP16s
set_option linter.defProp false
set_option maxRecDepth 100000
namespace Go.Proofs.YthbffcmfmjpncaaGreatDoor
open _root_.Go.Proofs.Tryz
open Go.RowKit
def ZM:laidOutB prog=true:=k_
def ZL:mapsRowed prog=true:=k_
def XI:prog.stopsHeard=true:=k_
def XJ:prog.mayEnter=true:=k_
end Go.Proofs.YthbffcmfmjpncaaGreatDoor
