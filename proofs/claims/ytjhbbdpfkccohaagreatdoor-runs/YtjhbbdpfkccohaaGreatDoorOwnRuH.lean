/- Closed facts of the program, one by one. -/
import Derived.Test.YtjhbbdpfkccohaaGreatDoorB03
import Derived.Test.YtjhbbdpfkccohaaGreatDoorP07
set_option linter.all false
set_option maxRecDepth 100000
namespace Go.Proofs.YtjhbbdpfkccohaaGreatDoor
open _root_.Go.Proofs.Tryz
open Go.RowKit
def Po:(Rows.runsRow.lifted==prog.liftsFinal)=true:=k_
def Pz:(Rows.runsRow.plainKeys==prog.plainKeys)=true:=k_
def Kq:true=prog.looks []:=k_
def Hd:false=Rows.runsRow.goesBy prog:=k_
def Fk:prog.funcNamed "hindsight/hindsightlaw.Runs"=some 3:=k_
