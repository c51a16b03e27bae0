/- Contracts of the program: which sort a value is of. -/
import Derived.Test.YtblbkfdhjfppkaaGreatDoorB00
import Derived.Test.YtblbkfdhjfppkaaGreatDoorP00
set_option maxRecDepth 100000
namespace Go.Proofs.YtblbkfdhjfppkaaGreatDoor
open Hs
open Go.RowKit
theorem kN(v:Value)(w:World):(Instr.typeAssert (.iface 315 v) 256 315 true).run Tryz.prog w=.ok (.tuple #[v,.bool true]) w:=by kernel_rfl
theorem KJ(v:Value)(w:World):(Instr.typeAssert (.iface 315 v) 256 316 true).run Tryz.prog w=.ok (.tuple #[.bool false,.bool false]) w:=by kernel_rfl
theorem lU(v:Value)(w:World):(Instr.typeAssert (.iface 315 v) 256 318 true).run Tryz.prog w=.ok (.tuple #[.string ⟨#[]⟩,.bool false]) w:=by kernel_rfl
theorem iG(v:Value)(w:World):(Instr.typeAssert (.iface 315 v) 256 319 true).run Tryz.prog w=.ok (.tuple #[.slice none 0 0,.bool false]) w:=by kernel_rfl
theorem jQ(v:Value)(w:World):(Instr.typeAssert (.iface 316 v) 256 315 true).run Tryz.prog w=.ok (.tuple #[.int .i64 0,.bool false]) w:=by kernel_rfl
theorem sR(v:Value)(w:World):(Instr.typeAssert (.iface 316 v) 256 316 true).run Tryz.prog w=.ok (.tuple #[v,.bool true]) w:=by kernel_rfl
theorem jP(v:Value)(w:World):(Instr.typeAssert (.iface 316 v) 256 318 true).run Tryz.prog w=.ok (.tuple #[.string ⟨#[]⟩,.bool false]) w:=by kernel_rfl
theorem gE(v:Value)(w:World):(Instr.typeAssert (.iface 316 v) 256 319 true).run Tryz.prog w=.ok (.tuple #[.slice none 0 0,.bool false]) w:=by kernel_rfl
theorem kM(v:Value)(w:World):(Instr.typeAssert (.iface 318 v) 256 315 true).run Tryz.prog w=.ok (.tuple #[.int .i64 0,.bool false]) w:=by kernel_rfl
theorem vR(v:Value)(w:World):(Instr.typeAssert (.iface 318 v) 256 316 true).run Tryz.prog w=.ok (.tuple #[.bool false,.bool false]) w:=by kernel_rfl
theorem jK(v:Value)(w:World):(Instr.typeAssert (.iface 318 v) 256 318 true).run Tryz.prog w=.ok (.tuple #[v,.bool true]) w:=by kernel_rfl
theorem jN(v:Value)(w:World):(Instr.typeAssert (.iface 318 v) 256 319 true).run Tryz.prog w=.ok (.tuple #[.slice none 0 0,.bool false]) w:=by kernel_rfl
theorem jO(v:Value)(w:World):(Instr.typeAssert (.iface 319 v) 256 315 true).run Tryz.prog w=.ok (.tuple #[.int .i64 0,.bool false]) w:=by kernel_rfl
theorem sQ(v:Value)(w:World):(Instr.typeAssert (.iface 319 v) 256 316 true).run Tryz.prog w=.ok (.tuple #[.bool false,.bool false]) w:=by kernel_rfl
theorem kY(v:Value)(w:World):(Instr.typeAssert (.iface 319 v) 256 318 true).run Tryz.prog w=.ok (.tuple #[.string ⟨#[]⟩,.bool false]) w:=by kernel_rfl
theorem gD(v:Value)(w:World):(Instr.typeAssert (.iface 319 v) 256 319 true).run Tryz.prog w=.ok (.tuple #[v,.bool true]) w:=by kernel_rfl
theorem sA(v:Value)(w:World):(Instr.typeAssert (.iface 329 v) 122 329 true).run Tryz.prog w=.ok (.tuple #[v,.bool true]) w:=by kernel_rfl
theorem tD(v:Value)(w:World):(Instr.typeAssert (.iface 332 v) 122 329 true).run Tryz.prog w=.ok (.tuple #[.agg #[.int .i64 0,.int .i64 0,.string ⟨#[]⟩,.nilIface],.bool false]) w:=by kernel_rfl
theorem uQ(v:Value)(w:World):(Instr.typeAssert (.iface 332 v) 122 332 true).run Tryz.prog w=.ok (.tuple #[v,.bool true]) w:=by kernel_rfl
theorem qW(v:Value)(w:World):(Instr.typeAssert (.iface 334 v) 122 329 true).run Tryz.prog w=.ok (.tuple #[.agg #[.int .i64 0,.int .i64 0,.string ⟨#[]⟩,.nilIface],.bool false]) w:=by kernel_rfl
theorem tB(v:Value)(w:World):(Instr.typeAssert (.iface 334 v) 122 332 true).run Tryz.prog w=.ok (.tuple #[.agg #[.int .i64 0,.string ⟨#[]⟩,.slice none 0 0,.nilIface],.bool false]) w:=by kernel_rfl
theorem KR(v:Value)(w:World):(Instr.typeAssert (.iface 334 v) 122 334 true).run Tryz.prog w=.ok (.tuple #[v,.bool true]) w:=by kernel_rfl
theorem uA(v:Value)(w:World):(Instr.typeAssert (.iface 336 v) 122 329 true).run Tryz.prog w=.ok (.tuple #[.agg #[.int .i64 0,.int .i64 0,.string ⟨#[]⟩,.nilIface],.bool false]) w:=by kernel_rfl
theorem wS(v:Value)(w:World):(Instr.typeAssert (.iface 336 v) 122 332 true).run Tryz.prog w=.ok (.tuple #[.agg #[.int .i64 0,.string ⟨#[]⟩,.slice none 0 0,.nilIface],.bool false]) w:=by kernel_rfl
theorem KN(v:Value)(w:World):(Instr.typeAssert (.iface 336 v) 122 334 true).run Tryz.prog w=.ok (.tuple #[.agg #[.int .i64 0,.nilIface,.slice none 0 0,.slice none 0 0],.bool false]) w:=by kernel_rfl
theorem yV(v:Value)(w:World):(Instr.typeAssert (.iface 336 v) 122 336 true).run Tryz.prog w=.ok (.tuple #[v,.bool true]) w:=by kernel_rfl
theorem mM(v:Value)(w:World):(Instr.typeAssert (.iface 338 v) 122 329 true).run Tryz.prog w=.ok (.tuple #[.agg #[.int .i64 0,.int .i64 0,.string ⟨#[]⟩,.nilIface],.bool false]) w:=by kernel_rfl
theorem nC(v:Value)(w:World):(Instr.typeAssert (.iface 338 v) 122 332 true).run Tryz.prog w=.ok (.tuple #[.agg #[.int .i64 0,.string ⟨#[]⟩,.slice none 0 0,.nilIface],.bool false]) w:=by kernel_rfl
theorem sY(v:Value)(w:World):(Instr.typeAssert (.iface 338 v) 122 334 true).run Tryz.prog w=.ok (.tuple #[.agg #[.int .i64 0,.nilIface,.slice none 0 0,.slice none 0 0],.bool false]) w:=by kernel_rfl
theorem oG(v:Value)(w:World):(Instr.typeAssert (.iface 338 v) 122 336 true).run Tryz.prog w=.ok (.tuple #[.agg #[.int .i64 0,.nilIface,.slice none 0 0],.bool false]) w:=by kernel_rfl
theorem nB(v:Value)(w:World):(Instr.typeAssert (.iface 338 v) 122 338 true).run Tryz.prog w=.ok (.tuple #[v,.bool true]) w:=by kernel_rfl
theorem uG(v:Value)(w:World):(Instr.typeAssert (.iface 339 v) 122 329 true).run Tryz.prog w=.ok (.tuple #[.agg #[.int .i64 0,.int .i64 0,.string ⟨#[]⟩,.nilIface],.bool false]) w:=by kernel_rfl
theorem xA(v:Value)(w:World):(Instr.typeAssert (.iface 339 v) 122 332 true).run Tryz.prog w=.ok (.tuple #[.agg #[.int .i64 0,.string ⟨#[]⟩,.slice none 0 0,.nilIface],.bool false]) w:=by kernel_rfl
theorem KP(v:Value)(w:World):(Instr.typeAssert (.iface 339 v) 122 334 true).run Tryz.prog w=.ok (.tuple #[.agg #[.int .i64 0,.nilIface,.slice none 0 0,.slice none 0 0],.bool false]) w:=by kernel_rfl
theorem zD(v:Value)(w:World):(Instr.typeAssert (.iface 339 v) 122 336 true).run Tryz.prog w=.ok (.tuple #[.agg #[.int .i64 0,.nilIface,.slice none 0 0],.bool false]) w:=by kernel_rfl
theorem wZ(v:Value)(w:World):(Instr.typeAssert (.iface 339 v) 122 338 true).run Tryz.prog w=.ok (.tuple #[.agg #[.int .i64 0,.nilIface],.bool false]) w:=by kernel_rfl
theorem zE(v:Value)(w:World):(Instr.typeAssert (.iface 339 v) 122 339 true).run Tryz.prog w=.ok (.tuple #[v,.bool true]) w:=by kernel_rfl
theorem xI(v:Value)(w:World):(Instr.typeAssert (.iface 341 v) 122 329 true).run Tryz.prog w=.ok (.tuple #[.agg #[.int .i64 0,.int .i64 0,.string ⟨#[]⟩,.nilIface],.bool false]) w:=by kernel_rfl
theorem zN(v:Value)(w:World):(Instr.typeAssert (.iface 341 v) 122 332 true).run Tryz.prog w=.ok (.tuple #[.agg #[.int .i64 0,.string ⟨#[]⟩,.slice none 0 0,.nilIface],.bool false]) w:=by kernel_rfl
theorem PG(v:Value)(w:World):(Instr.typeAssert (.iface 341 v) 122 334 true).run Tryz.prog w=.ok (.tuple #[.agg #[.int .i64 0,.nilIface,.slice none 0 0,.slice none 0 0],.bool false]) w:=by kernel_rfl
theorem CT(v:Value)(w:World):(Instr.typeAssert (.iface 341 v) 122 336 true).run Tryz.prog w=.ok (.tuple #[.agg #[.int .i64 0,.nilIface,.slice none 0 0],.bool false]) w:=by kernel_rfl
theorem zM(v:Value)(w:World):(Instr.typeAssert (.iface 341 v) 122 338 true).run Tryz.prog w=.ok (.tuple #[.agg #[.int .i64 0,.nilIface],.bool false]) w:=by kernel_rfl
theorem CU(v:Value)(w:World):(Instr.typeAssert (.iface 341 v) 122 339 true).run Tryz.prog w=.ok (.tuple #[.agg #[.int .i64 0,.nilIface],.bool false]) w:=by kernel_rfl
theorem GL(v:Value)(w:World):(Instr.typeAssert (.iface 341 v) 122 341 true).run Tryz.prog w=.ok (.tuple #[v,.bool true]) w:=by kernel_rfl
theorem qT(v:Value)(w:World):(Instr.typeAssert (.iface 344 v) 122 329 true).run Tryz.prog w=.ok (.tuple #[.agg #[.int .i64 0,.int .i64 0,.string ⟨#[]⟩,.nilIface],.bool false]) w:=by kernel_rfl
theorem rX(v:Value)(w:World):(Instr.typeAssert (.iface 344 v) 122 332 true).run Tryz.prog w=.ok (.tuple #[.agg #[.int .i64 0,.string ⟨#[]⟩,.slice none 0 0,.nilIface],.bool false]) w:=by kernel_rfl
theorem yW(v:Value)(w:World):(Instr.typeAssert (.iface 344 v) 122 334 true).run Tryz.prog w=.ok (.tuple #[.agg #[.int .i64 0,.nilIface,.slice none 0 0,.slice none 0 0],.bool false]) w:=by kernel_rfl
theorem sU(v:Value)(w:World):(Instr.typeAssert (.iface 344 v) 122 336 true).run Tryz.prog w=.ok (.tuple #[.agg #[.int .i64 0,.nilIface,.slice none 0 0],.bool false]) w:=by kernel_rfl
theorem rW(v:Value)(w:World):(Instr.typeAssert (.iface 344 v) 122 338 true).run Tryz.prog w=.ok (.tuple #[.agg #[.int .i64 0,.nilIface],.bool false]) w:=by kernel_rfl
theorem sV(v:Value)(w:World):(Instr.typeAssert (.iface 344 v) 122 339 true).run Tryz.prog w=.ok (.tuple #[.agg #[.int .i64 0,.nilIface],.bool false]) w:=by kernel_rfl
theorem uB(v:Value)(w:World):(Instr.typeAssert (.iface 344 v) 122 341 true).run Tryz.prog w=.ok (.tuple #[.agg #[.int .i64 0,.string ⟨#[]⟩,.slice none 0 0],.bool false]) w:=by kernel_rfl
theorem oT(v:Value)(w:World):(Instr.typeAssert (.iface 344 v) 122 344 true).run Tryz.prog w=.ok (.tuple #[v,.bool true]) w:=by kernel_rfl
theorem xF(v:Value)(w:World):(Instr.typeAssert (.iface 346 v) 122 329 true).run Tryz.prog w=.ok (.tuple #[.agg #[.int .i64 0,.int .i64 0,.string ⟨#[]⟩,.nilIface],.bool false]) w:=by kernel_rfl
theorem zI(v:Value)(w:World):(Instr.typeAssert (.iface 346 v) 122 332 true).run Tryz.prog w=.ok (.tuple #[.agg #[.int .i64 0,.string ⟨#[]⟩,.slice none 0 0,.nilIface],.bool false]) w:=by kernel_rfl
theorem PF(v:Value)(w:World):(Instr.typeAssert (.iface 346 v) 122 334 true).run Tryz.prog w=.ok (.tuple #[.agg #[.int .i64 0,.nilIface,.slice none 0 0,.slice none 0 0],.bool false]) w:=by kernel_rfl
theorem CN(v:Value)(w:World):(Instr.typeAssert (.iface 346 v) 122 336 true).run Tryz.prog w=.ok (.tuple #[.agg #[.int .i64 0,.nilIface,.slice none 0 0],.bool false]) w:=by kernel_rfl
theorem zH(v:Value)(w:World):(Instr.typeAssert (.iface 346 v) 122 338 true).run Tryz.prog w=.ok (.tuple #[.agg #[.int .i64 0,.nilIface],.bool false]) w:=by kernel_rfl
theorem CO(v:Value)(w:World):(Instr.typeAssert (.iface 346 v) 122 339 true).run Tryz.prog w=.ok (.tuple #[.agg #[.int .i64 0,.nilIface],.bool false]) w:=by kernel_rfl
theorem GK(v:Value)(w:World):(Instr.typeAssert (.iface 346 v) 122 341 true).run Tryz.prog w=.ok (.tuple #[.agg #[.int .i64 0,.string ⟨#[]⟩,.slice none 0 0],.bool false]) w:=by kernel_rfl
theorem uK(v:Value)(w:World):(Instr.typeAssert (.iface 346 v) 122 344 true).run Tryz.prog w=.ok (.tuple #[.agg #[.int .i64 0,.string ⟨#[]⟩],.bool false]) w:=by kernel_rfl
theorem GJ(v:Value)(w:World):(Instr.typeAssert (.iface 346 v) 122 346 true).run Tryz.prog w=.ok (.tuple #[v,.bool true]) w:=by kernel_rfl
theorem uL(v:Value)(w:World):(Instr.typeAssert (.iface 348 v) 122 329 true).run Tryz.prog w=.ok (.tuple #[.agg #[.int .i64 0,.int .i64 0,.string ⟨#[]⟩,.nilIface],.bool false]) w:=by kernel_rfl
theorem xH(v:Value)(w:World):(Instr.typeAssert (.iface 348 v) 122 332 true).run Tryz.prog w=.ok (.tuple #[.agg #[.int .i64 0,.string ⟨#[]⟩,.slice none 0 0,.nilIface],.bool false]) w:=by kernel_rfl
theorem KQ(v:Value)(w:World):(Instr.typeAssert (.iface 348 v) 122 334 true).run Tryz.prog w=.ok (.tuple #[.agg #[.int .i64 0,.nilIface,.slice none 0 0,.slice none 0 0],.bool false]) w:=by kernel_rfl
theorem zJ(v:Value)(w:World):(Instr.typeAssert (.iface 348 v) 122 336 true).run Tryz.prog w=.ok (.tuple #[.agg #[.int .i64 0,.nilIface,.slice none 0 0],.bool false]) w:=by kernel_rfl
theorem xG(v:Value)(w:World):(Instr.typeAssert (.iface 348 v) 122 338 true).run Tryz.prog w=.ok (.tuple #[.agg #[.int .i64 0,.nilIface],.bool false]) w:=by kernel_rfl
theorem zK(v:Value)(w:World):(Instr.typeAssert (.iface 348 v) 122 339 true).run Tryz.prog w=.ok (.tuple #[.agg #[.int .i64 0,.nilIface],.bool false]) w:=by kernel_rfl
theorem CS(v:Value)(w:World):(Instr.typeAssert (.iface 348 v) 122 341 true).run Tryz.prog w=.ok (.tuple #[.agg #[.int .i64 0,.string ⟨#[]⟩,.slice none 0 0],.bool false]) w:=by kernel_rfl
theorem tA(v:Value)(w:World):(Instr.typeAssert (.iface 348 v) 122 344 true).run Tryz.prog w=.ok (.tuple #[.agg #[.int .i64 0,.string ⟨#[]⟩],.bool false]) w:=by kernel_rfl
theorem CR(v:Value)(w:World):(Instr.typeAssert (.iface 348 v) 122 346 true).run Tryz.prog w=.ok (.tuple #[.agg #[.int .i64 0,.slice none 0 0],.bool false]) w:=by kernel_rfl
theorem zL(v:Value)(w:World):(Instr.typeAssert (.iface 348 v) 122 348 true).run Tryz.prog w=.ok (.tuple #[v,.bool true]) w:=by kernel_rfl
theorem uC(v:Value)(w:World):(Instr.typeAssert (.iface 350 v) 122 329 true).run Tryz.prog w=.ok (.tuple #[.agg #[.int .i64 0,.int .i64 0,.string ⟨#[]⟩,.nilIface],.bool false]) w:=by kernel_rfl
theorem wU(v:Value)(w:World):(Instr.typeAssert (.iface 350 v) 122 332 true).run Tryz.prog w=.ok (.tuple #[.agg #[.int .i64 0,.string ⟨#[]⟩,.slice none 0 0,.nilIface],.bool false]) w:=by kernel_rfl
theorem KO(v:Value)(w:World):(Instr.typeAssert (.iface 350 v) 122 334 true).run Tryz.prog w=.ok (.tuple #[.agg #[.int .i64 0,.nilIface,.slice none 0 0,.slice none 0 0],.bool false]) w:=by kernel_rfl
theorem yX(v:Value)(w:World):(Instr.typeAssert (.iface 350 v) 122 336 true).run Tryz.prog w=.ok (.tuple #[.agg #[.int .i64 0,.nilIface,.slice none 0 0],.bool false]) w:=by kernel_rfl
theorem wT(v:Value)(w:World):(Instr.typeAssert (.iface 350 v) 122 338 true).run Tryz.prog w=.ok (.tuple #[.agg #[.int .i64 0,.nilIface],.bool false]) w:=by kernel_rfl
theorem yZ(v:Value)(w:World):(Instr.typeAssert (.iface 350 v) 122 339 true).run Tryz.prog w=.ok (.tuple #[.agg #[.int .i64 0,.nilIface],.bool false]) w:=by kernel_rfl
theorem CM(v:Value)(w:World):(Instr.typeAssert (.iface 350 v) 122 341 true).run Tryz.prog w=.ok (.tuple #[.agg #[.int .i64 0,.string ⟨#[]⟩,.slice none 0 0],.bool false]) w:=by kernel_rfl
theorem sW(v:Value)(w:World):(Instr.typeAssert (.iface 350 v) 122 344 true).run Tryz.prog w=.ok (.tuple #[.agg #[.int .i64 0,.string ⟨#[]⟩],.bool false]) w:=by kernel_rfl
theorem CL(v:Value)(w:World):(Instr.typeAssert (.iface 350 v) 122 346 true).run Tryz.prog w=.ok (.tuple #[.agg #[.int .i64 0,.slice none 0 0],.bool false]) w:=by kernel_rfl
theorem zA(v:Value)(w:World):(Instr.typeAssert (.iface 350 v) 122 348 true).run Tryz.prog w=.ok (.tuple #[.agg #[.int .i64 0,.nilIface,.nilIface],.bool false]) w:=by kernel_rfl
theorem yY(v:Value)(w:World):(Instr.typeAssert (.iface 350 v) 122 350 true).run Tryz.prog w=.ok (.tuple #[v,.bool true]) w:=by kernel_rfl
theorem tC(v:Value)(w:World):(Instr.typeAssert (.iface 352 v) 122 329 true).run Tryz.prog w=.ok (.tuple #[.agg #[.int .i64 0,.int .i64 0,.string ⟨#[]⟩,.nilIface],.bool false]) w:=by kernel_rfl
theorem uP(v:Value)(w:World):(Instr.typeAssert (.iface 352 v) 122 332 true).run Tryz.prog w=.ok (.tuple #[.agg #[.int .i64 0,.string ⟨#[]⟩,.slice none 0 0,.nilIface],.bool false]) w:=by kernel_rfl
theorem GO(v:Value)(w:World):(Instr.typeAssert (.iface 352 v) 122 334 true).run Tryz.prog w=.ok (.tuple #[.agg #[.int .i64 0,.nilIface,.slice none 0 0,.slice none 0 0],.bool false]) w:=by kernel_rfl
theorem xK(v:Value)(w:World):(Instr.typeAssert (.iface 352 v) 122 336 true).run Tryz.prog w=.ok (.tuple #[.agg #[.int .i64 0,.nilIface,.slice none 0 0],.bool false]) w:=by kernel_rfl
theorem uN(v:Value)(w:World):(Instr.typeAssert (.iface 352 v) 122 338 true).run Tryz.prog w=.ok (.tuple #[.agg #[.int .i64 0,.nilIface],.bool false]) w:=by kernel_rfl
theorem xM(v:Value)(w:World):(Instr.typeAssert (.iface 352 v) 122 339 true).run Tryz.prog w=.ok (.tuple #[.agg #[.int .i64 0,.nilIface],.bool false]) w:=by kernel_rfl
theorem zS(v:Value)(w:World):(Instr.typeAssert (.iface 352 v) 122 341 true).run Tryz.prog w=.ok (.tuple #[.agg #[.int .i64 0,.string ⟨#[]⟩,.slice none 0 0],.bool false]) w:=by kernel_rfl
theorem sB(v:Value)(w:World):(Instr.typeAssert (.iface 352 v) 122 344 true).run Tryz.prog w=.ok (.tuple #[.agg #[.int .i64 0,.string ⟨#[]⟩],.bool false]) w:=by kernel_rfl
theorem zR(v:Value)(w:World):(Instr.typeAssert (.iface 352 v) 122 346 true).run Tryz.prog w=.ok (.tuple #[.agg #[.int .i64 0,.slice none 0 0],.bool false]) w:=by kernel_rfl
theorem xN(v:Value)(w:World):(Instr.typeAssert (.iface 352 v) 122 348 true).run Tryz.prog w=.ok (.tuple #[.agg #[.int .i64 0,.nilIface,.nilIface],.bool false]) w:=by kernel_rfl
theorem xL(v:Value)(w:World):(Instr.typeAssert (.iface 352 v) 122 350 true).run Tryz.prog w=.ok (.tuple #[.agg #[.int .i64 0,.string ⟨#[]⟩,.nilIface],.bool false]) w:=by kernel_rfl
theorem uO(v:Value)(w:World):(Instr.typeAssert (.iface 352 v) 122 352 true).run Tryz.prog w=.ok (.tuple #[v,.bool true]) w:=by kernel_rfl
theorem sZ(v:Value)(w:World):(Instr.typeAssert (.iface 397 v) 122 329 true).run Tryz.prog w=.ok (.tuple #[.agg #[.int .i64 0,.int .i64 0,.string ⟨#[]⟩,.nilIface],.bool false]) w:=by kernel_rfl
theorem uJ(v:Value)(w:World):(Instr.typeAssert (.iface 397 v) 122 332 true).run Tryz.prog w=.ok (.tuple #[.agg #[.int .i64 0,.string ⟨#[]⟩,.slice none 0 0,.nilIface],.bool false]) w:=by kernel_rfl
theorem GI(v:Value)(w:World):(Instr.typeAssert (.iface 397 v) 122 334 true).run Tryz.prog w=.ok (.tuple #[.agg #[.int .i64 0,.nilIface,.slice none 0 0,.slice none 0 0],.bool false]) w:=by kernel_rfl
theorem xB(v:Value)(w:World):(Instr.typeAssert (.iface 397 v) 122 336 true).run Tryz.prog w=.ok (.tuple #[.agg #[.int .i64 0,.nilIface,.slice none 0 0],.bool false]) w:=by kernel_rfl
theorem uH(v:Value)(w:World):(Instr.typeAssert (.iface 397 v) 122 338 true).run Tryz.prog w=.ok (.tuple #[.agg #[.int .i64 0,.nilIface],.bool false]) w:=by kernel_rfl
theorem xD(v:Value)(w:World):(Instr.typeAssert (.iface 397 v) 122 339 true).run Tryz.prog w=.ok (.tuple #[.agg #[.int .i64 0,.nilIface],.bool false]) w:=by kernel_rfl
theorem zG(v:Value)(w:World):(Instr.typeAssert (.iface 397 v) 122 341 true).run Tryz.prog w=.ok (.tuple #[.agg #[.int .i64 0,.string ⟨#[]⟩,.slice none 0 0],.bool false]) w:=by kernel_rfl
theorem rZ(v:Value)(w:World):(Instr.typeAssert (.iface 397 v) 122 344 true).run Tryz.prog w=.ok (.tuple #[.agg #[.int .i64 0,.string ⟨#[]⟩],.bool false]) w:=by kernel_rfl
theorem zF(v:Value)(w:World):(Instr.typeAssert (.iface 397 v) 122 346 true).run Tryz.prog w=.ok (.tuple #[.agg #[.int .i64 0,.slice none 0 0],.bool false]) w:=by kernel_rfl
theorem xE(v:Value)(w:World):(Instr.typeAssert (.iface 397 v) 122 348 true).run Tryz.prog w=.ok (.tuple #[.agg #[.int .i64 0,.nilIface,.nilIface],.bool false]) w:=by kernel_rfl
theorem xC(v:Value)(w:World):(Instr.typeAssert (.iface 397 v) 122 350 true).run Tryz.prog w=.ok (.tuple #[.agg #[.int .i64 0,.string ⟨#[]⟩,.nilIface],.bool false]) w:=by kernel_rfl
theorem uI(v:Value)(w:World):(Instr.typeAssert (.iface 397 v) 122 352 true).run Tryz.prog w=.ok (.tuple #[.agg #[.int .i64 0,.string ⟨#[]⟩,.nilIface,.nilIface],.bool false]) w:=by kernel_rfl
theorem sX(v:Value)(w:World):(Instr.typeAssert (.iface 398 v) 122 329 true).run Tryz.prog w=.ok (.tuple #[.agg #[.int .i64 0,.int .i64 0,.string ⟨#[]⟩,.nilIface],.bool false]) w:=by kernel_rfl
theorem uF(v:Value)(w:World):(Instr.typeAssert (.iface 398 v) 122 332 true).run Tryz.prog w=.ok (.tuple #[.agg #[.int .i64 0,.string ⟨#[]⟩,.slice none 0 0,.nilIface],.bool false]) w:=by kernel_rfl
theorem GH(v:Value)(w:World):(Instr.typeAssert (.iface 398 v) 122 334 true).run Tryz.prog w=.ok (.tuple #[.agg #[.int .i64 0,.nilIface,.slice none 0 0,.slice none 0 0],.bool false]) w:=by kernel_rfl
theorem wV(v:Value)(w:World):(Instr.typeAssert (.iface 398 v) 122 336 true).run Tryz.prog w=.ok (.tuple #[.agg #[.int .i64 0,.nilIface,.slice none 0 0],.bool false]) w:=by kernel_rfl
theorem uD(v:Value)(w:World):(Instr.typeAssert (.iface 398 v) 122 338 true).run Tryz.prog w=.ok (.tuple #[.agg #[.int .i64 0,.nilIface],.bool false]) w:=by kernel_rfl
theorem wX(v:Value)(w:World):(Instr.typeAssert (.iface 398 v) 122 339 true).run Tryz.prog w=.ok (.tuple #[.agg #[.int .i64 0,.nilIface],.bool false]) w:=by kernel_rfl
theorem zC(v:Value)(w:World):(Instr.typeAssert (.iface 398 v) 122 341 true).run Tryz.prog w=.ok (.tuple #[.agg #[.int .i64 0,.string ⟨#[]⟩,.slice none 0 0],.bool false]) w:=by kernel_rfl
theorem rY(v:Value)(w:World):(Instr.typeAssert (.iface 398 v) 122 344 true).run Tryz.prog w=.ok (.tuple #[.agg #[.int .i64 0,.string ⟨#[]⟩],.bool false]) w:=by kernel_rfl
theorem zB(v:Value)(w:World):(Instr.typeAssert (.iface 398 v) 122 346 true).run Tryz.prog w=.ok (.tuple #[.agg #[.int .i64 0,.slice none 0 0],.bool false]) w:=by kernel_rfl
theorem wY(v:Value)(w:World):(Instr.typeAssert (.iface 398 v) 122 348 true).run Tryz.prog w=.ok (.tuple #[.agg #[.int .i64 0,.nilIface,.nilIface],.bool false]) w:=by kernel_rfl
theorem wW(v:Value)(w:World):(Instr.typeAssert (.iface 398 v) 122 350 true).run Tryz.prog w=.ok (.tuple #[.agg #[.int .i64 0,.string ⟨#[]⟩,.nilIface],.bool false]) w:=by kernel_rfl
theorem uE(v:Value)(w:World):(Instr.typeAssert (.iface 398 v) 122 352 true).run Tryz.prog w=.ok (.tuple #[.agg #[.int .i64 0,.string ⟨#[]⟩,.nilIface,.nilIface],.bool false]) w:=by kernel_rfl
theorem xJ(v:Value)(w:World):(Instr.typeAssert (.iface 400 v) 122 329 true).run Tryz.prog w=.ok (.tuple #[.agg #[.int .i64 0,.int .i64 0,.string ⟨#[]⟩,.nilIface],.bool false]) w:=by kernel_rfl
theorem zQ(v:Value)(w:World):(Instr.typeAssert (.iface 400 v) 122 332 true).run Tryz.prog w=.ok (.tuple #[.agg #[.int .i64 0,.string ⟨#[]⟩,.slice none 0 0,.nilIface],.bool false]) w:=by kernel_rfl
theorem PH(v:Value)(w:World):(Instr.typeAssert (.iface 400 v) 122 334 true).run Tryz.prog w=.ok (.tuple #[.agg #[.int .i64 0,.nilIface,.slice none 0 0,.slice none 0 0],.bool false]) w:=by kernel_rfl
theorem CV(v:Value)(w:World):(Instr.typeAssert (.iface 400 v) 122 336 true).run Tryz.prog w=.ok (.tuple #[.agg #[.int .i64 0,.nilIface,.slice none 0 0],.bool false]) w:=by kernel_rfl
theorem zO(v:Value)(w:World):(Instr.typeAssert (.iface 400 v) 122 338 true).run Tryz.prog w=.ok (.tuple #[.agg #[.int .i64 0,.nilIface],.bool false]) w:=by kernel_rfl
theorem CX(v:Value)(w:World):(Instr.typeAssert (.iface 400 v) 122 339 true).run Tryz.prog w=.ok (.tuple #[.agg #[.int .i64 0,.nilIface],.bool false]) w:=by kernel_rfl
theorem GN(v:Value)(w:World):(Instr.typeAssert (.iface 400 v) 122 341 true).run Tryz.prog w=.ok (.tuple #[.agg #[.int .i64 0,.string ⟨#[]⟩,.slice none 0 0],.bool false]) w:=by kernel_rfl
theorem uM(v:Value)(w:World):(Instr.typeAssert (.iface 400 v) 122 344 true).run Tryz.prog w=.ok (.tuple #[.agg #[.int .i64 0,.string ⟨#[]⟩],.bool false]) w:=by kernel_rfl
theorem GM(v:Value)(w:World):(Instr.typeAssert (.iface 400 v) 122 346 true).run Tryz.prog w=.ok (.tuple #[.agg #[.int .i64 0,.slice none 0 0],.bool false]) w:=by kernel_rfl
theorem CY(v:Value)(w:World):(Instr.typeAssert (.iface 400 v) 122 348 true).run Tryz.prog w=.ok (.tuple #[.agg #[.int .i64 0,.nilIface,.nilIface],.bool false]) w:=by kernel_rfl
theorem CW(v:Value)(w:World):(Instr.typeAssert (.iface 400 v) 122 350 true).run Tryz.prog w=.ok (.tuple #[.agg #[.int .i64 0,.string ⟨#[]⟩,.nilIface],.bool false]) w:=by kernel_rfl
theorem zP(v:Value)(w:World):(Instr.typeAssert (.iface 400 v) 122 352 true).run Tryz.prog w=.ok (.tuple #[.agg #[.int .i64 0,.string ⟨#[]⟩,.nilIface,.nilIface],.bool false]) w:=by kernel_rfl
theorem BU{c:UInt8}(h:dW c=true):48≤c.toNat∧c.toNat≤57:=by
 unfold dW at h;simpa using h
theorem OW(n:Nat)(c:UInt8)(r:List UInt8)(h:48≤c.toNat∧c.toNat≤57):dA n (c::r)=if 9223372036854775807<n*10+(c.toNat-48) then none else dA (n*10+(c.toNat-48)) r:=by
 rw[dA];unfold IN;have e:((9223372036854775807-(c.toNat-48))/10<n)↔(9223372036854775807<n*10+(c.toNat-48)):=by omega
 rw[Nat.mul_comm 10 n];by_cases h1:9223372036854775807<n*10+(c.toNat-48)
 ·rw[if_pos (e.2 h1),if_pos h1]
 ·rw[if_neg (fun x=>h1 (e.1 x)),if_neg h1]
theorem YV:∀(l:List UInt8) (acc:Nat),(∀c∈l,dW c=true)→9223372036854775807<acc→Lib.parseUintM (2 ^ 64-1) acc l=.range∨∃u,Lib.parseUintM (2 ^ 64-1) acc l=.ok u∧9223372036854775808≤u
 |[],acc,_,h=>Or.inr ⟨acc,rfl,by omega⟩
 |c::r,acc,hd,h=>by
  have hc:=BU (hd c (List.mem_cons_self ..));rw[Lib.parseUintM,if_pos hc];by_cases h1:1844674407370955162≤acc
  ·rw[if_pos h1];exact Or.inl rfl
  ·omega
theorem yS:∀(l:List UInt8) (acc:Nat),(∀c∈l,dW c=true)→acc≤9223372036854775807→
 (∃v,dA acc l=some v∧Lib.parseUintM (2 ^ 64-1) acc l=.ok v∧v≤9223372036854775807)∨(dA acc l=none∧(Lib.parseUintM (2 ^ 64-1) acc l=.range∨∃u,Lib.parseUintM (2 ^ 64-1) acc l=.ok u∧9223372036854775808≤u))
 |[],acc,_,h=>Or.inl ⟨acc,rfl,rfl,h⟩
 |c::r,acc,hd,h=>by
  have hc:=BU (hd c (List.mem_cons_self ..));have hr:∀x∈r,dW x=true:=fun x hx=>hd x (List.mem_cons_of_mem _ hx)
  rw[OW acc c r hc,Lib.parseUintM,if_pos hc];by_cases h1:9223372036854775807<acc*10+(c.toNat-48)
  ·refine Or.inr ⟨if_pos h1,?_⟩;by_cases h2:1844674407370955162≤acc
   ·rw[if_pos h2];exact Or.inl rfl
   ·rw[if_neg h2];by_cases h3:2 ^ 64-1<acc*10+(c.toNat-48)
    ·rw[if_pos h3];exact Or.inl rfl
    ·rw[if_neg h3];exact YV r _ hr h1
  ·rw[if_neg h1,if_neg (by omega),if_neg (by omega)]
   exact yS r _ hr (by omega)
theorem WZ(l:List UInt8)(hd:∀c∈l,dW c=true)(hne:l≠[]):(∃v,dA 0 l=some v∧Lib.parseIntB 64 l=.ok (v:Int))∨(dA 0 l=none∧Lib.parseIntB 64 l=.range):=by
 cases l with
 |nil=>exact absurd rfl hne
 |cons c r=>
  have hc:=BU (hd c (List.mem_cons_self ..));have hs:¬(c.toNat=43∨c.toNat=45):=by omega
  have hn:¬c.toNat=45:=by omega
  unfold Lib.parseIntB;simp only[if_neg hs];unfold Lib.parseUintB;rw[if_neg (by simp)]
  rcases yS (c::r) 0 hd (by omega) with ⟨v,h1,h2,h3⟩|⟨h1,h2|⟨u,h2,h3⟩⟩
  ·refine Or.inl ⟨v,h1,?_⟩;rw[h2];simp only[hn];rw[if_neg (by omega)]
   simp
  ·exact Or.inr ⟨h1,by rw[h2]⟩
  ·refine Or.inr ⟨h1,?_⟩;rw[h2];simp only[hn];rw[if_pos ⟨by simp,by omega⟩]
end Go.Proofs.YtblbkfdhjfppkaaGreatDoor
