/- Closed facts of the program, one by one. -/
import Derived.Test.YtddnpoiiimjpcaaGreatDoorB01
import Derived.Test.YtddnpoiiimjpcaaGreatDoorP00
set_option linter.defProp false
set_option maxRecDepth 100000
namespace Go.Proofs.YtddnpoiiimjpcaaGreatDoor
open _root_.Go.Proofs.Tryz
open Go.RowKit
def F4:(Rows.gaussRow.lifted==prog.liftsFinal)=true:=by kernel_rfl
def N8:(Rows.gaussRow.plainKeys==prog.plainKeys)=true:=by kernel_rfl
def F3:true=prog.looks []:=by kernel_rfl
def N9:false=Rows.gaussRow.goesBy prog:=by kernel_rfl
def O0:prog.funcNamed "hindsight/hindsightkeep.Gauss"=some 4:=by kernel_rfl
end Go.Proofs.YtddnpoiiimjpcaaGreatDoor
