/- Closed facts of the program, one by one. -/
import Derived.Test.YtmjbnmpamlainaaGreatDoorB01
import Derived.Test.YtmjbnmpamlainaaGreatDoorP00
set_option linter.defProp false
set_option maxRecDepth 100000
namespace Go.Proofs.YtmjbnmpamlainaaGreatDoor
open _root_.Go.Proofs.Tryz
open Go.RowKit
def WW:(Rows.lastingRow.inPlace==prog.inPlace 3)=true:=by kernel_rfl
def Y6:(Rows.lastingRow.unfollowed==prog.unfollowed 3)=true:=by kernel_rfl
def bx_:(Rows.lastingRow.recurses==prog.recurses 3)=true:=by kernel_rfl
def Y7:(Rows.lastingRow.named==prog.varsNamed 3)=true:=by kernel_rfl
end Go.Proofs.YtmjbnmpamlainaaGreatDoor
