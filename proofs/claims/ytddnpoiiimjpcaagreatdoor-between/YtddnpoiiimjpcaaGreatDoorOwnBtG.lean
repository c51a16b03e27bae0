/- Closed facts of the program, one by one. -/
import Derived.Test.YtddnpoiiimjpcaaGreatDoorB01
import Derived.Test.YtddnpoiiimjpcaaGreatDoorP00
set_option linter.defProp false
set_option maxRecDepth 100000
namespace Go.Proofs.YtddnpoiiimjpcaaGreatDoor
open _root_.Go.Proofs.Tryz
open Go.RowKit
def XT:(Rows.betweenRow.inPlace==prog.inPlace 5)=true:=k_
def l9:(Rows.betweenRow.unfollowed==prog.unfollowed 5)=true:=k_
def bW_:(Rows.betweenRow.recurses==prog.recurses 5)=true:=k_
def m6:(Rows.betweenRow.named==prog.varsNamed 5)=true:=k_
end Go.Proofs.YtddnpoiiimjpcaaGreatDoor
