/- Closed facts of the program, one by one. -/
import Derived.Test.YtlflgmdcghfngaaGreatDoorB01
import Derived.Test.YtlflgmdcghfngaaGreatDoorP00
set_option linter.defProp false
set_option maxRecDepth 100000
namespace Go.Proofs.YtlflgmdcghfngaaGreatDoor
open _root_.Go.Proofs.Tryz
open Go.RowKit
def az_:(Rows.turnedRow.lifted==prog.liftsFinal)=true:=k_
def bS_:(Rows.turnedRow.plainKeys==prog.plainKeys)=true:=k_
def ay_:true=prog.looks []:=k_
def bT_:false=Rows.turnedRow.goesBy prog:=k_
def bU_:prog.funcNamed "hindsight/hindsightkeep.Turned"=some 3:=k_
end Go.Proofs.YtlflgmdcghfngaaGreatDoor
