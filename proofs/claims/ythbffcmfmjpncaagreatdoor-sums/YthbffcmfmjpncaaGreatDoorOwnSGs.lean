/- Closed facts of the program, one by one. -/
import Derived.Test.YthbffcmfmjpncaaGreatDoorB05s
import Derived.Test.YthbffcmfmjpncaaGreatDoorP00s
set_option linter.defProp false
set_option maxRecDepth 100000
namespace Go.Proofs.YthbffcmfmjpncaaGreatDoor
open _root_.Go.Proofs.Tryz
open Go.RowKit
def MD:(Rows.sumsRow.inPlace==prog.inPlace 5)=true:=k_
def VH:(Rows.sumsRow.unfollowed==prog.unfollowed 5)=true:=k_
def B1:(Rows.sumsRow.recurses==prog.recurses 5)=true:=k_
def VI:(Rows.sumsRow.named==prog.varsNamed 5)=true:=k_
end Go.Proofs.YthbffcmfmjpncaaGreatDoor
