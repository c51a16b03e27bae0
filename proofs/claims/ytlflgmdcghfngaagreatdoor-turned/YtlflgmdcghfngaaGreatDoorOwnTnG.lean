/- Closed facts of the program, one by one. -/
import Derived.Test.YtlflgmdcghfngaaGreatDoorB01
import Derived.Test.YtlflgmdcghfngaaGreatDoorP00
set_option linter.defProp false
set_option maxRecDepth 100000
namespace Go.Proofs.YtlflgmdcghfngaaGreatDoor
open _root_.Go.Proofs.Tryz
open Go.RowKit
def ZA:(Rows.turnedRow.inPlace==prog.inPlace 3)=true:=k_
def aw_:(Rows.turnedRow.unfollowed==prog.unfollowed 3)=true:=k_
def cO_:(Rows.turnedRow.recurses==prog.recurses 3)=true:=k_
def ax_:(Rows.turnedRow.named==prog.varsNamed 3)=true:=k_
end Go.Proofs.YtlflgmdcghfngaaGreatDoor
