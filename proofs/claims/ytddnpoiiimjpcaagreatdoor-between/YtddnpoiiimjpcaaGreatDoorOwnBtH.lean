/- Closed facts of the program, one by one. -/
import Derived.Test.YtddnpoiiimjpcaaGreatDoorB01
import Derived.Test.YtddnpoiiimjpcaaGreatDoorP00
set_option linter.defProp false
set_option maxRecDepth 100000
namespace Go.Proofs.YtddnpoiiimjpcaaGreatDoor
open _root_.Go.Proofs.Tryz
open Go.RowKit
def m8:(Rows.betweenRow.lifted==prog.liftsFinal)=true:=k_
def a0_:(Rows.betweenRow.plainKeys==prog.plainKeys)=true:=k_
def m7:true=prog.looks []:=k_
def a1_:false=Rows.betweenRow.goesBy prog:=k_
def a2_:prog.funcNamed "hindsight/hindsightkeep.Between"=some 5:=k_
end Go.Proofs.YtddnpoiiimjpcaaGreatDoor
