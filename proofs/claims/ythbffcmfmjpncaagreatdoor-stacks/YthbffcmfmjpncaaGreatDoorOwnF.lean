/- Closed facts of the program, one by one. -/
import Derived.Test.YthbffcmfmjpncaaGreatDoorP20
set_option linter.defProp false
set_option maxRecDepth 100000
namespace Go.Proofs.YthbffcmfmjpncaaGreatDoor
open _root_.Go.Proofs.Tryz
open Go.RowKit
def x6:laidOutB prog=true:=k_
def v8:mapsRowed prog=true:=k_
def V9:prog.stopsHeard=true:=k_
def W4:prog.mayEnter=true:=k_
end Go.Proofs.YthbffcmfmjpncaaGreatDoor
