/- Closed facts of the program, one by one. -/
import Derived.Test.YthbffcmfmjpncaaGreatDoorB05
import Derived.Test.YthbffcmfmjpncaaGreatDoorP00
set_option linter.defProp false
set_option maxRecDepth 100000
namespace Go.Proofs.YthbffcmfmjpncaaGreatDoor
open _root_.Go.Proofs.Tryz
open Go.RowKit
def VW:(Rows.stacksRow.inPlace==prog.inPlace 4)=true:=k_
def S5:(Rows.stacksRow.unfollowed==prog.unfollowed 4)=true:=k_
def aw_:(Rows.stacksRow.recurses==prog.recurses 4)=true:=k_
def S6:(Rows.stacksRow.named==prog.varsNamed 4)=true:=k_
end Go.Proofs.YthbffcmfmjpncaaGreatDoor
