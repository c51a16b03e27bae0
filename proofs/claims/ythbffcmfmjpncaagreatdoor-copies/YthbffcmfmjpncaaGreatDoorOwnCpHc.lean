/- Closed facts of the program, one by one. -/
import Derived.Test.YthbffcmfmjpncaaGreatDoorB06c
import Derived.Test.YthbffcmfmjpncaaGreatDoorP00c
set_option linter.defProp false
set_option maxRecDepth 100000
namespace Go.Proofs.YthbffcmfmjpncaaGreatDoor
open _root_.Go.Proofs.Tryz
open Go.RowKit
def L9:(Rows.copiesRow.lifted==prog.liftsFinal)=true:=k_
def W4:(Rows.copiesRow.plainKeys==prog.plainKeys)=true:=k_
def L8:true=prog.looks []:=k_
def W5:false=Rows.copiesRow.goesBy prog:=k_
def W7:prog.funcNamed "hindsight/hindsightkeep.Copies"=some 6:=k_
end Go.Proofs.YthbffcmfmjpncaaGreatDoor
