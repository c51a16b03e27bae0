/- Closed facts of the program, one by one. -/
import Derived.Test.YthlhecfcnfjecaaGreatDoorB03
import Derived.Test.YthlhecfcnfjecaaGreatDoorP07
set_option linter.all false
set_option maxRecDepth 100000
namespace Go.Proofs.YthlhecfcnfjecaaGreatDoor
open _root_.Go.Proofs.Tryz
open Go.RowKit
def P4:(Rows.movesUptoRow.inPlace==prog.inPlace 3)=true:=k_
def Uj:(Rows.movesUptoRow.unfollowed==prog.unfollowed 3)=true:=k_
def Qe:(Rows.movesUptoRow.recurses==prog.recurses 3)=true:=k_
def Ml:(Rows.movesUptoRow.named==prog.varsNamed 3)=true:=k_
