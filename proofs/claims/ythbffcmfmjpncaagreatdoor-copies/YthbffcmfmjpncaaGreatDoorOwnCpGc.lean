/- Closed facts of the program, one by one. -/
import Derived.Test.YthbffcmfmjpncaaGreatDoorB06c
import Derived.Test.YthbffcmfmjpncaaGreatDoorP00c
set_option linter.defProp false
set_option maxRecDepth 100000
namespace Go.Proofs.YthbffcmfmjpncaaGreatDoor
open _root_.Go.Proofs.Tryz
open Go.RowKit
def UF:(Rows.copiesRow.inPlace==prog.inPlace 6)=true:=k_
def L6:(Rows.copiesRow.unfollowed==prog.unfollowed 6)=true:=k_
def m9:(Rows.copiesRow.recurses==prog.recurses 6)=true:=k_
def L7:(Rows.copiesRow.named==prog.varsNamed 6)=true:=k_
end Go.Proofs.YthbffcmfmjpncaaGreatDoor
