/- Closed facts of the program, one by one. -/
import Derived.Test.YthbffcmfmjpncaaGreatDoorB05s
import Derived.Test.YthbffcmfmjpncaaGreatDoorP00s
set_option linter.defProp false
set_option maxRecDepth 100000
namespace Go.Proofs.YthbffcmfmjpncaaGreatDoor
open _root_.Go.Proofs.Tryz
open Go.RowKit
def VK:(Rows.sumsRow.lifted==prog.liftsFinal)=true:=k_
def YI:(Rows.sumsRow.plainKeys==prog.plainKeys)=true:=k_
def VJ:true=prog.looks []:=k_
def YJ:false=Rows.sumsRow.goesBy prog:=k_
def YK:prog.funcNamed "hindsight/hindsightkeep.Sums"=some 5:=k_
end Go.Proofs.YthbffcmfmjpncaaGreatDoor
