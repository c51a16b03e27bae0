/- Closed facts of the program, one by one. -/
import Derived.Test.YtddnpoiiimjpcaaGreatDoorB01
import Derived.Test.YtddnpoiiimjpcaaGreatDoorP00
set_option linter.defProp false
set_option maxRecDepth 100000
namespace Go.Proofs.YtddnpoiiimjpcaaGreatDoor
open _root_.Go.Proofs.Tryz
open Go.RowKit
def SJ:(Rows.gaussRow.inPlace==prog.inPlace 4)=true:=by kernel_rfl
def F1:(Rows.gaussRow.unfollowed==prog.unfollowed 4)=true:=by kernel_rfl
def U0:(Rows.gaussRow.recurses==prog.recurses 4)=true:=by kernel_rfl
def F2:(Rows.gaussRow.named==prog.varsNamed 4)=true:=by kernel_rfl
end Go.Proofs.YtddnpoiiimjpcaaGreatDoor
