/- Contracts of the program: which sort a value is of. -/
import Derived.Test.YtddnpoiiimjpcaaGreatDoorP00
set_option linter.defProp false
set_option maxRecDepth 100000
namespace Go.Proofs.YtddnpoiiimjpcaaGreatDoor
open _root_.Go.Proofs.Tryz
open Instr(typeAssert)
open Go.RowKit
def lG(v:aQ)(w:aH):(typeAssert (.iface 195 v) 142 195 true).run prog w=.ok (.tuple #[v,.bool true]) w:=by kernel_rfl
def KZ(v:aQ)(w:aH):(typeAssert (.iface 195 v) 142 196 true).run prog w=.ok (.tuple #[.bool false,.bool false]) w:=by kernel_rfl
def mL(v:aQ)(w:aH):(typeAssert (.iface 195 v) 142 198 true).run prog w=.ok (.tuple #[.string ⟨#[]⟩,.bool false]) w:=by kernel_rfl
def iY(v:aQ)(w:aH):(typeAssert (.iface 195 v) 142 199 true).run prog w=.ok (.tuple #[bV,.bool false]) w:=by kernel_rfl
def kI(v:aQ)(w:aH):(typeAssert (.iface 196 v) 142 195 true).run prog w=.ok (.tuple #[Iv0 0,.bool false]) w:=by kernel_rfl
def tH(v:aQ)(w:aH):(typeAssert (.iface 196 v) 142 196 true).run prog w=.ok (.tuple #[v,.bool true]) w:=by kernel_rfl
def kH(v:aQ)(w:aH):(typeAssert (.iface 196 v) 142 198 true).run prog w=.ok (.tuple #[.string ⟨#[]⟩,.bool false]) w:=by kernel_rfl
def gS(v:aQ)(w:aH):(typeAssert (.iface 196 v) 142 199 true).run prog w=.ok (.tuple #[bV,.bool false]) w:=by kernel_rfl
def lF(v:aQ)(w:aH):(typeAssert (.iface 198 v) 142 195 true).run prog w=.ok (.tuple #[Iv0 0,.bool false]) w:=by kernel_rfl
def wI(v:aQ)(w:aH):(typeAssert (.iface 198 v) 142 196 true).run prog w=.ok (.tuple #[.bool false,.bool false]) w:=by kernel_rfl
def kC(v:aQ)(w:aH):(typeAssert (.iface 198 v) 142 198 true).run prog w=.ok (.tuple #[v,.bool true]) w:=by kernel_rfl
def kF(v:aQ)(w:aH):(typeAssert (.iface 198 v) 142 199 true).run prog w=.ok (.tuple #[bV,.bool false]) w:=by kernel_rfl
def kG(v:aQ)(w:aH):(typeAssert (.iface 199 v) 142 195 true).run prog w=.ok (.tuple #[Iv0 0,.bool false]) w:=by kernel_rfl
def tG(v:aQ)(w:aH):(typeAssert (.iface 199 v) 142 196 true).run prog w=.ok (.tuple #[.bool false,.bool false]) w:=by kernel_rfl
def lQ(v:aQ)(w:aH):(typeAssert (.iface 199 v) 142 198 true).run prog w=.ok (.tuple #[.string ⟨#[]⟩,.bool false]) w:=by kernel_rfl
def gR(v:aQ)(w:aH):(typeAssert (.iface 199 v) 142 199 true).run prog w=.ok (.tuple #[v,.bool true]) w:=by kernel_rfl
end Go.Proofs.YtddnpoiiimjpcaaGreatDoor
