/- Closed facts of the program, one by one. -/
import Derived.Test.YtblbkfdhjfppkaaGreatDoorP27
set_option linter.defProp false
set_option maxRecDepth 100000
namespace Go.Proofs.YtblbkfdhjfppkaaGreatDoor
open _root_.Go.Proofs.Tryz
open Go.RowKit
def N5:(Rows.stacksRow.lifted==prog.liftsFinal)=true:=by kernel_rfl
def X4:(Rows.stacksRow.plainKeys==prog.plainKeys)=true:=by kernel_rfl
def N4:true=prog.looks []:=by kernel_rfl
def X5:false=Rows.stacksRow.goesBy prog:=by kernel_rfl
def X6:prog.funcNamed "hindsight/hindsightkeep.Stacks"=some 10:=by kernel_rfl
end Go.Proofs.YtblbkfdhjfppkaaGreatDoor
