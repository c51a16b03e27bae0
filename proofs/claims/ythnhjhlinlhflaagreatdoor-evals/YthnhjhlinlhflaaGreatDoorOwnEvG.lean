/- Closed facts of the program, one by one. -/
import Derived.Test.YthnhjhlinlhflaaGreatDoorB02
import Derived.Test.YthnhjhlinlhflaaGreatDoorP06
set_option linter.all false
set_option maxRecDepth 100000
namespace Go.Proofs.YthnhjhlinlhflaaGreatDoor
open _root_.Go.Proofs.Tryz
open Go.RowKit
def P9:(Rows.evalsRow.inPlace==prog.inPlace 3)=true:=k_
def V_:(Rows.evalsRow.unfollowed==prog.unfollowed 3)=true:=k_
def GV:(Rows.evalsRow.recurses==prog.recurses 3)=true:=k_
def Ke:(Rows.evalsRow.named==prog.varsNamed 3)=true:=k_
