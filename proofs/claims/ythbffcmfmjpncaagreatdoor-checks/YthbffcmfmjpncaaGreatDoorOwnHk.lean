/- Closed facts of the program, one by one. -/
import Derived.Test.YthbffcmfmjpncaaGreatDoorP09k
set_option linter.defProp false
set_option maxRecDepth 100000
namespace Go.Proofs.YthbffcmfmjpncaaGreatDoor
open _root_.Go.Proofs.Tryz
open Go.RowKit
def ES:(Rows.checksRow.lifted==prog.liftsFinal)=true:=k_
def GX:(Rows.checksRow.plainKeys==prog.plainKeys)=true:=k_
def EQ:true=prog.looks []:=k_
def GY:false=Rows.checksRow.goesBy prog:=k_
def GZ:prog.funcNamed "hindsight/hindsightlaw.Checks"=some 3:=k_
end Go.Proofs.YthbffcmfmjpncaaGreatDoor
