/- Closed facts of the program, one by one. -/
import Derived.Test.YtblbkfdhjfppkaaGreatDoorP27
set_option linter.defProp false
set_option maxRecDepth 100000
namespace Go.Proofs.YtblbkfdhjfppkaaGreatDoor
open _root_.Go.Proofs.Tryz
open Go.RowKit
def UM:(Rows.stacksRow.inPlace==prog.inPlace 10)=true:=by kernel_rfl
def N2:(Rows.stacksRow.unfollowed==prog.unfollowed 10)=true:=by kernel_rfl
def m8:(Rows.stacksRow.recurses==prog.recurses 10)=true:=by kernel_rfl
def N3:(Rows.stacksRow.named==prog.varsNamed 10)=true:=by kernel_rfl
end Go.Proofs.YtblbkfdhjfppkaaGreatDoor
