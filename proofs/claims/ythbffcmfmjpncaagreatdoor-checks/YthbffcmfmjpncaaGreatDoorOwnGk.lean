/- Closed facts of the program, one by one. -/
import Derived.Test.YthbffcmfmjpncaaGreatDoorP09k
set_option linter.defProp false
set_option maxRecDepth 100000
namespace Go.Proofs.YthbffcmfmjpncaaGreatDoor
open _root_.Go.Proofs.Tryz
open Go.RowKit
def zD:(Rows.checksRow.inPlace==prog.inPlace 3)=true:=k_
def EO:(Rows.checksRow.unfollowed==prog.unfollowed 3)=true:=k_
def JB:(Rows.checksRow.recurses==prog.recurses 3)=true:=k_
def EP:(Rows.checksRow.named==prog.varsNamed 3)=true:=k_
end Go.Proofs.YthbffcmfmjpncaaGreatDoor
