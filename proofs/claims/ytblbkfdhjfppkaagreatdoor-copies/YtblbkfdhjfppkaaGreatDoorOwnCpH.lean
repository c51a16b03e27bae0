/- Closed facts of the program, one by one. -/
import Derived.Test.YtblbkfdhjfppkaaGreatDoorB09
import Derived.Test.YtblbkfdhjfppkaaGreatDoorP24
set_option maxRecDepth 100000
namespace Go.Proofs.YtblbkfdhjfppkaaGreatDoor
open _root_.Go.Proofs.Tryz(prog)
open Go.RowKit
theorem G8:(Rows.copiesRow.lifted==prog.liftsFinal)=true:=by kernel_rfl
theorem P6:(Rows.copiesRow.plainKeys==prog.plainKeys)=true:=by kernel_rfl
theorem G7:true=prog.looks []:=by kernel_rfl
theorem P7:false=Rows.copiesRow.goesBy prog:=by kernel_rfl
theorem P8:prog.funcNamed "hindsight/hindsightkeep.Copies"=some 13:=by kernel_rfl
end Go.Proofs.YtblbkfdhjfppkaaGreatDoor
