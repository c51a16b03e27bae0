/- Closed facts of the program, one by one. -/
import Derived.Test.YthlhecfcnfjecaaGreatDoorB03
import Derived.Test.YthlhecfcnfjecaaGreatDoorP07
set_option linter.all false
set_option maxRecDepth 100000
namespace Go.Proofs.YthlhecfcnfjecaaGreatDoor
open _root_.Go.Proofs.Tryz
open Go.RowKit
def Pa:(Rows.movesUptoRow.lifted==prog.liftsFinal)=true:=k_
def Ta:(Rows.movesUptoRow.plainKeys==prog.plainKeys)=true:=k_
def Qr:true=prog.looks []:=k_
def Nh:false=Rows.movesUptoRow.goesBy prog:=k_
def Wh:prog.funcNamed "hindsight/hindsightlaw.Moves"=some 3:=k_
