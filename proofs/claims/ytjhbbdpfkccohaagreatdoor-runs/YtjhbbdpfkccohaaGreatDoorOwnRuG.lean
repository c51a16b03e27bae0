/- Closed facts of the program, one by one. -/
import Derived.Test.YtjhbbdpfkccohaaGreatDoorB03
import Derived.Test.YtjhbbdpfkccohaaGreatDoorP07
set_option linter.all false
set_option maxRecDepth 100000
namespace Go.Proofs.YtjhbbdpfkccohaaGreatDoor
open _root_.Go.Proofs.Tryz
open Go.RowKit
def L9:(Rows.runsRow.inPlace==prog.inPlace 3)=true:=k_
def Oy:(Rows.runsRow.unfollowed==prog.unfollowed 3)=true:=k_
def Ik:(Rows.runsRow.recurses==prog.recurses 3)=true:=k_
def Pq:(Rows.runsRow.named==prog.varsNamed 3)=true:=k_
