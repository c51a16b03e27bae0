/- Closed facts of the program, one by one. -/
import Derived.Test.YtlflgmdcghfngaaGreatDoorB01
import Derived.Test.YtlflgmdcghfngaaGreatDoorP00
set_option linter.defProp false
set_option maxRecDepth 100000
namespace Go.Proofs.YtlflgmdcghfngaaGreatDoor
open _root_.Go.Proofs.Tryz
open Go.RowKit
def G5:laidOutB prog=true:=k_
def cj_:mapsRowed prog=true:=k_
def aR_:prog.stopsHeard=true:=k_
def aS_:prog.mayEnter=true:=k_
end Go.Proofs.YtlflgmdcghfngaaGreatDoor
