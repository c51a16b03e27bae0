/- Closed facts of the program, one by one. -/
import Derived.Test.YthnhjhlinlhflaaGreatDoorB02
import Derived.Test.YthnhjhlinlhflaaGreatDoorP06
set_option linter.all false
set_option maxRecDepth 100000
namespace Go.Proofs.YthnhjhlinlhflaaGreatDoor
open _root_.Go.Proofs.Tryz
open Go.RowKit
def Qd:(Rows.evalsRow.lifted==prog.liftsFinal)=true:=k_
def Ln:(Rows.evalsRow.plainKeys==prog.plainKeys)=true:=k_
def Oj:true=prog.looks []:=k_
def Qn:false=Rows.evalsRow.goesBy prog:=k_
def Vu:prog.funcNamed "hindsight/hindsightlaw.Evals"=some 3:=k_
