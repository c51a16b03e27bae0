/- Closed facts of the program, one by one. -/
import Derived.Test.YtmjbnmpamlainaaGreatDoorB01
import Derived.Test.YtmjbnmpamlainaaGreatDoorP00
set_option linter.defProp false
set_option maxRecDepth 100000
namespace Go.Proofs.YtmjbnmpamlainaaGreatDoor
open _root_.Go.Proofs.Tryz
open Go.RowKit
def Y9:(Rows.lastingRow.lifted==prog.liftsFinal)=true:=by kernel_rfl
def aB_:(Rows.lastingRow.plainKeys==prog.plainKeys)=true:=by kernel_rfl
def Y8:true=prog.looks []:=by kernel_rfl
def aC_:false=Rows.lastingRow.goesBy prog:=by kernel_rfl
def aD_:prog.funcNamed "hindsight/hindsightkeep.Lasting"=some 3:=by kernel_rfl
end Go.Proofs.YtmjbnmpamlainaaGreatDoor
