/- Closed facts of the program, one by one. -/
import Derived.Test.YtblbkfdhjfppkaaGreatDoorB08
import Derived.Test.YtblbkfdhjfppkaaGreatDoorP33
set_option maxRecDepth 100000
namespace Go.Proofs.YtblbkfdhjfppkaaGreatDoor
open Go.RowKit
theorem D3:(Rows.gaussRow.lifted==Tryz.prog.liftsFinal)=true:=by kernel_rfl
theorem L7:(Rows.gaussRow.plainKeys==Tryz.prog.plainKeys)=true:=by kernel_rfl
theorem D0:true=Tryz.prog.looks []:=by kernel_rfl
theorem L8:false=Rows.gaussRow.goesBy Tryz.prog:=by kernel_rfl
theorem L9:Tryz.prog.funcNamed "hindsight/hindsightkeep.Gauss"=some 12:=by kernel_rfl
end Go.Proofs.YtblbkfdhjfppkaaGreatDoor
