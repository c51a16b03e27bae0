/- Closed facts of the program, one by one. -/
import Derived.Test.YthbffcmfmjpncaaGreatDoorB05
import Derived.Test.YthbffcmfmjpncaaGreatDoorP00
set_option linter.defProp false
set_option maxRecDepth 100000
namespace Go.Proofs.YthbffcmfmjpncaaGreatDoor
open _root_.Go.Proofs.Tryz
open Go.RowKit
def S8:(Rows.stacksRow.lifted==prog.liftsFinal)=true:=k_
def k9:(Rows.stacksRow.plainKeys==prog.plainKeys)=true:=k_
def S7:true=prog.looks []:=k_
def l6:false=Rows.stacksRow.goesBy prog:=k_
def l7:prog.funcNamed "hindsight/hindsightkeep.Stacks"=some 4:=k_
end Go.Proofs.YthbffcmfmjpncaaGreatDoor
