/- Contracts of the program: which sort a node is of. -/
import Derived.Test.YtblbkfdhjfppkaaGreatDoorB00
import Derived.Test.YtblbkfdhjfppkaaGreatDoorP00
set_option maxRecDepth 100000
namespace Go.Proofs.YtblbkfdhjfppkaaGreatDoor
open Hs
open Tryz(prog)
open Go.RowKit
theorem tD(v:Value)(w:World):(Instr.typeAssert (.iface 329 v) 122 329 true).run prog w=.ok (.tuple #[v,.bool true]) w:=by kernel_rfl
theorem uI(v:Value)(w:World):(Instr.typeAssert (.iface 332 v) 122 329 true).run prog w=.ok (.tuple #[.agg #[.int .i64 0,.int .i64 0,.string ⟨#[]⟩,.nilIface],.bool false]) w:=by kernel_rfl
theorem vY(v:Value)(w:World):(Instr.typeAssert (.iface 332 v) 122 332 true).run prog w=.ok (.tuple #[v,.bool true]) w:=by kernel_rfl
theorem sB(v:Value)(w:World):(Instr.typeAssert (.iface 334 v) 122 329 true).run prog w=.ok (.tuple #[.agg #[.int .i64 0,.int .i64 0,.string ⟨#[]⟩,.nilIface],.bool false]) w:=by kernel_rfl
theorem uG(v:Value)(w:World):(Instr.typeAssert (.iface 334 v) 122 332 true).run prog w=.ok (.tuple #[.agg #[.int .i64 0,.string ⟨#[]⟩,.slice none 0 0,.nilIface],.bool false]) w:=by kernel_rfl
theorem MZ(v:Value)(w:World):(Instr.typeAssert (.iface 334 v) 122 334 true).run prog w=.ok (.tuple #[v,.bool true]) w:=by kernel_rfl
theorem vI(v:Value)(w:World):(Instr.typeAssert (.iface 336 v) 122 329 true).run prog w=.ok (.tuple #[.agg #[.int .i64 0,.int .i64 0,.string ⟨#[]⟩,.nilIface],.bool false]) w:=by kernel_rfl
theorem yH(v:Value)(w:World):(Instr.typeAssert (.iface 336 v) 122 332 true).run prog w=.ok (.tuple #[.agg #[.int .i64 0,.string ⟨#[]⟩,.slice none 0 0,.nilIface],.bool false]) w:=by kernel_rfl
theorem MV(v:Value)(w:World):(Instr.typeAssert (.iface 336 v) 122 334 true).run prog w=.ok (.tuple #[.agg #[.int .i64 0,.nilIface,.slice none 0 0,.slice none 0 0],.bool false]) w:=by kernel_rfl
theorem AN(v:Value)(w:World):(Instr.typeAssert (.iface 336 v) 122 336 true).run prog w=.ok (.tuple #[v,.bool true]) w:=by kernel_rfl
theorem nB(v:Value)(w:World):(Instr.typeAssert (.iface 338 v) 122 329 true).run prog w=.ok (.tuple #[.agg #[.int .i64 0,.int .i64 0,.string ⟨#[]⟩,.nilIface],.bool false]) w:=by kernel_rfl
theorem nV(v:Value)(w:World):(Instr.typeAssert (.iface 338 v) 122 332 true).run prog w=.ok (.tuple #[.agg #[.int .i64 0,.string ⟨#[]⟩,.slice none 0 0,.nilIface],.bool false]) w:=by kernel_rfl
theorem uD(v:Value)(w:World):(Instr.typeAssert (.iface 338 v) 122 334 true).run prog w=.ok (.tuple #[.agg #[.int .i64 0,.nilIface,.slice none 0 0,.slice none 0 0],.bool false]) w:=by kernel_rfl
theorem pD(v:Value)(w:World):(Instr.typeAssert (.iface 338 v) 122 336 true).run prog w=.ok (.tuple #[.agg #[.int .i64 0,.nilIface,.slice none 0 0],.bool false]) w:=by kernel_rfl
theorem nU(v:Value)(w:World):(Instr.typeAssert (.iface 338 v) 122 338 true).run prog w=.ok (.tuple #[v,.bool true]) w:=by kernel_rfl
theorem vO(v:Value)(w:World):(Instr.typeAssert (.iface 339 v) 122 329 true).run prog w=.ok (.tuple #[.agg #[.int .i64 0,.int .i64 0,.string ⟨#[]⟩,.nilIface],.bool false]) w:=by kernel_rfl
theorem yP(v:Value)(w:World):(Instr.typeAssert (.iface 339 v) 122 332 true).run prog w=.ok (.tuple #[.agg #[.int .i64 0,.string ⟨#[]⟩,.slice none 0 0,.nilIface],.bool false]) w:=by kernel_rfl
theorem MX(v:Value)(w:World):(Instr.typeAssert (.iface 339 v) 122 334 true).run prog w=.ok (.tuple #[.agg #[.int .i64 0,.nilIface,.slice none 0 0,.slice none 0 0],.bool false]) w:=by kernel_rfl
theorem AV(v:Value)(w:World):(Instr.typeAssert (.iface 339 v) 122 336 true).run prog w=.ok (.tuple #[.agg #[.int .i64 0,.nilIface,.slice none 0 0],.bool false]) w:=by kernel_rfl
theorem yO(v:Value)(w:World):(Instr.typeAssert (.iface 339 v) 122 338 true).run prog w=.ok (.tuple #[.agg #[.int .i64 0,.nilIface],.bool false]) w:=by kernel_rfl
theorem AW(v:Value)(w:World):(Instr.typeAssert (.iface 339 v) 122 339 true).run prog w=.ok (.tuple #[v,.bool true]) w:=by kernel_rfl
theorem yX(v:Value)(w:World):(Instr.typeAssert (.iface 341 v) 122 329 true).run prog w=.ok (.tuple #[.agg #[.int .i64 0,.int .i64 0,.string ⟨#[]⟩,.nilIface],.bool false]) w:=by kernel_rfl
theorem BF(v:Value)(w:World):(Instr.typeAssert (.iface 341 v) 122 332 true).run prog w=.ok (.tuple #[.agg #[.int .i64 0,.string ⟨#[]⟩,.slice none 0 0,.nilIface],.bool false]) w:=by kernel_rfl
theorem RV(v:Value)(w:World):(Instr.typeAssert (.iface 341 v) 122 334 true).run prog w=.ok (.tuple #[.agg #[.int .i64 0,.nilIface,.slice none 0 0,.slice none 0 0],.bool false]) w:=by kernel_rfl
theorem EQ(v:Value)(w:World):(Instr.typeAssert (.iface 341 v) 122 336 true).run prog w=.ok (.tuple #[.agg #[.int .i64 0,.nilIface,.slice none 0 0],.bool false]) w:=by kernel_rfl
theorem BE(v:Value)(w:World):(Instr.typeAssert (.iface 341 v) 122 338 true).run prog w=.ok (.tuple #[.agg #[.int .i64 0,.nilIface],.bool false]) w:=by kernel_rfl
theorem ER(v:Value)(w:World):(Instr.typeAssert (.iface 341 v) 122 339 true).run prog w=.ok (.tuple #[.agg #[.int .i64 0,.nilIface],.bool false]) w:=by kernel_rfl
theorem JO(v:Value)(w:World):(Instr.typeAssert (.iface 341 v) 122 341 true).run prog w=.ok (.tuple #[v,.bool true]) w:=by kernel_rfl
theorem rY(v:Value)(w:World):(Instr.typeAssert (.iface 344 v) 122 329 true).run prog w=.ok (.tuple #[.agg #[.int .i64 0,.int .i64 0,.string ⟨#[]⟩,.nilIface],.bool false]) w:=by kernel_rfl
theorem tA(v:Value)(w:World):(Instr.typeAssert (.iface 344 v) 122 332 true).run prog w=.ok (.tuple #[.agg #[.int .i64 0,.string ⟨#[]⟩,.slice none 0 0,.nilIface],.bool false]) w:=by kernel_rfl
theorem AO(v:Value)(w:World):(Instr.typeAssert (.iface 344 v) 122 334 true).run prog w=.ok (.tuple #[.agg #[.int .i64 0,.nilIface,.slice none 0 0,.slice none 0 0],.bool false]) w:=by kernel_rfl
theorem tZ(v:Value)(w:World):(Instr.typeAssert (.iface 344 v) 122 336 true).run prog w=.ok (.tuple #[.agg #[.int .i64 0,.nilIface,.slice none 0 0],.bool false]) w:=by kernel_rfl
theorem sZ(v:Value)(w:World):(Instr.typeAssert (.iface 344 v) 122 338 true).run prog w=.ok (.tuple #[.agg #[.int .i64 0,.nilIface],.bool false]) w:=by kernel_rfl
theorem uA(v:Value)(w:World):(Instr.typeAssert (.iface 344 v) 122 339 true).run prog w=.ok (.tuple #[.agg #[.int .i64 0,.nilIface],.bool false]) w:=by kernel_rfl
theorem vJ(v:Value)(w:World):(Instr.typeAssert (.iface 344 v) 122 341 true).run prog w=.ok (.tuple #[.agg #[.int .i64 0,.string ⟨#[]⟩,.slice none 0 0],.bool false]) w:=by kernel_rfl
theorem pQ(v:Value)(w:World):(Instr.typeAssert (.iface 344 v) 122 344 true).run prog w=.ok (.tuple #[v,.bool true]) w:=by kernel_rfl
theorem yU(v:Value)(w:World):(Instr.typeAssert (.iface 346 v) 122 329 true).run prog w=.ok (.tuple #[.agg #[.int .i64 0,.int .i64 0,.string ⟨#[]⟩,.nilIface],.bool false]) w:=by kernel_rfl
theorem BA(v:Value)(w:World):(Instr.typeAssert (.iface 346 v) 122 332 true).run prog w=.ok (.tuple #[.agg #[.int .i64 0,.string ⟨#[]⟩,.slice none 0 0,.nilIface],.bool false]) w:=by kernel_rfl
theorem RU(v:Value)(w:World):(Instr.typeAssert (.iface 346 v) 122 334 true).run prog w=.ok (.tuple #[.agg #[.int .i64 0,.nilIface,.slice none 0 0,.slice none 0 0],.bool false]) w:=by kernel_rfl
theorem EM(v:Value)(w:World):(Instr.typeAssert (.iface 346 v) 122 336 true).run prog w=.ok (.tuple #[.agg #[.int .i64 0,.nilIface,.slice none 0 0],.bool false]) w:=by kernel_rfl
theorem AZ(v:Value)(w:World):(Instr.typeAssert (.iface 346 v) 122 338 true).run prog w=.ok (.tuple #[.agg #[.int .i64 0,.nilIface],.bool false]) w:=by kernel_rfl
theorem EN(v:Value)(w:World):(Instr.typeAssert (.iface 346 v) 122 339 true).run prog w=.ok (.tuple #[.agg #[.int .i64 0,.nilIface],.bool false]) w:=by kernel_rfl
theorem JN(v:Value)(w:World):(Instr.typeAssert (.iface 346 v) 122 341 true).run prog w=.ok (.tuple #[.agg #[.int .i64 0,.string ⟨#[]⟩,.slice none 0 0],.bool false]) w:=by kernel_rfl
theorem vS(v:Value)(w:World):(Instr.typeAssert (.iface 346 v) 122 344 true).run prog w=.ok (.tuple #[.agg #[.int .i64 0,.string ⟨#[]⟩],.bool false]) w:=by kernel_rfl
theorem JM(v:Value)(w:World):(Instr.typeAssert (.iface 346 v) 122 346 true).run prog w=.ok (.tuple #[v,.bool true]) w:=by kernel_rfl
theorem vT(v:Value)(w:World):(Instr.typeAssert (.iface 348 v) 122 329 true).run prog w=.ok (.tuple #[.agg #[.int .i64 0,.int .i64 0,.string ⟨#[]⟩,.nilIface],.bool false]) w:=by kernel_rfl
theorem yW(v:Value)(w:World):(Instr.typeAssert (.iface 348 v) 122 332 true).run prog w=.ok (.tuple #[.agg #[.int .i64 0,.string ⟨#[]⟩,.slice none 0 0,.nilIface],.bool false]) w:=by kernel_rfl
theorem MY(v:Value)(w:World):(Instr.typeAssert (.iface 348 v) 122 334 true).run prog w=.ok (.tuple #[.agg #[.int .i64 0,.nilIface,.slice none 0 0,.slice none 0 0],.bool false]) w:=by kernel_rfl
theorem BB(v:Value)(w:World):(Instr.typeAssert (.iface 348 v) 122 336 true).run prog w=.ok (.tuple #[.agg #[.int .i64 0,.nilIface,.slice none 0 0],.bool false]) w:=by kernel_rfl
theorem yV(v:Value)(w:World):(Instr.typeAssert (.iface 348 v) 122 338 true).run prog w=.ok (.tuple #[.agg #[.int .i64 0,.nilIface],.bool false]) w:=by kernel_rfl
theorem BC(v:Value)(w:World):(Instr.typeAssert (.iface 348 v) 122 339 true).run prog w=.ok (.tuple #[.agg #[.int .i64 0,.nilIface],.bool false]) w:=by kernel_rfl
theorem EP(v:Value)(w:World):(Instr.typeAssert (.iface 348 v) 122 341 true).run prog w=.ok (.tuple #[.agg #[.int .i64 0,.string ⟨#[]⟩,.slice none 0 0],.bool false]) w:=by kernel_rfl
theorem uF(v:Value)(w:World):(Instr.typeAssert (.iface 348 v) 122 344 true).run prog w=.ok (.tuple #[.agg #[.int .i64 0,.string ⟨#[]⟩],.bool false]) w:=by kernel_rfl
theorem EO(v:Value)(w:World):(Instr.typeAssert (.iface 348 v) 122 346 true).run prog w=.ok (.tuple #[.agg #[.int .i64 0,.slice none 0 0],.bool false]) w:=by kernel_rfl
theorem BD(v:Value)(w:World):(Instr.typeAssert (.iface 348 v) 122 348 true).run prog w=.ok (.tuple #[v,.bool true]) w:=by kernel_rfl
theorem vK(v:Value)(w:World):(Instr.typeAssert (.iface 350 v) 122 329 true).run prog w=.ok (.tuple #[.agg #[.int .i64 0,.int .i64 0,.string ⟨#[]⟩,.nilIface],.bool false]) w:=by kernel_rfl
theorem yJ(v:Value)(w:World):(Instr.typeAssert (.iface 350 v) 122 332 true).run prog w=.ok (.tuple #[.agg #[.int .i64 0,.string ⟨#[]⟩,.slice none 0 0,.nilIface],.bool false]) w:=by kernel_rfl
theorem MW(v:Value)(w:World):(Instr.typeAssert (.iface 350 v) 122 334 true).run prog w=.ok (.tuple #[.agg #[.int .i64 0,.nilIface,.slice none 0 0,.slice none 0 0],.bool false]) w:=by kernel_rfl
theorem AP(v:Value)(w:World):(Instr.typeAssert (.iface 350 v) 122 336 true).run prog w=.ok (.tuple #[.agg #[.int .i64 0,.nilIface,.slice none 0 0],.bool false]) w:=by kernel_rfl
theorem yI(v:Value)(w:World):(Instr.typeAssert (.iface 350 v) 122 338 true).run prog w=.ok (.tuple #[.agg #[.int .i64 0,.nilIface],.bool false]) w:=by kernel_rfl
theorem AR(v:Value)(w:World):(Instr.typeAssert (.iface 350 v) 122 339 true).run prog w=.ok (.tuple #[.agg #[.int .i64 0,.nilIface],.bool false]) w:=by kernel_rfl
theorem EL(v:Value)(w:World):(Instr.typeAssert (.iface 350 v) 122 341 true).run prog w=.ok (.tuple #[.agg #[.int .i64 0,.string ⟨#[]⟩,.slice none 0 0],.bool false]) w:=by kernel_rfl
theorem uB(v:Value)(w:World):(Instr.typeAssert (.iface 350 v) 122 344 true).run prog w=.ok (.tuple #[.agg #[.int .i64 0,.string ⟨#[]⟩],.bool false]) w:=by kernel_rfl
theorem EK(v:Value)(w:World):(Instr.typeAssert (.iface 350 v) 122 346 true).run prog w=.ok (.tuple #[.agg #[.int .i64 0,.slice none 0 0],.bool false]) w:=by kernel_rfl
theorem AS(v:Value)(w:World):(Instr.typeAssert (.iface 350 v) 122 348 true).run prog w=.ok (.tuple #[.agg #[.int .i64 0,.nilIface,.nilIface],.bool false]) w:=by kernel_rfl
theorem AQ(v:Value)(w:World):(Instr.typeAssert (.iface 350 v) 122 350 true).run prog w=.ok (.tuple #[v,.bool true]) w:=by kernel_rfl
theorem uH(v:Value)(w:World):(Instr.typeAssert (.iface 352 v) 122 329 true).run prog w=.ok (.tuple #[.agg #[.int .i64 0,.int .i64 0,.string ⟨#[]⟩,.nilIface],.bool false]) w:=by kernel_rfl
theorem vX(v:Value)(w:World):(Instr.typeAssert (.iface 352 v) 122 332 true).run prog w=.ok (.tuple #[.agg #[.int .i64 0,.string ⟨#[]⟩,.slice none 0 0,.nilIface],.bool false]) w:=by kernel_rfl
theorem JR(v:Value)(w:World):(Instr.typeAssert (.iface 352 v) 122 334 true).run prog w=.ok (.tuple #[.agg #[.int .i64 0,.nilIface,.slice none 0 0,.slice none 0 0],.bool false]) w:=by kernel_rfl
theorem yZ(v:Value)(w:World):(Instr.typeAssert (.iface 352 v) 122 336 true).run prog w=.ok (.tuple #[.agg #[.int .i64 0,.nilIface,.slice none 0 0],.bool false]) w:=by kernel_rfl
theorem vV(v:Value)(w:World):(Instr.typeAssert (.iface 352 v) 122 338 true).run prog w=.ok (.tuple #[.agg #[.int .i64 0,.nilIface],.bool false]) w:=by kernel_rfl
theorem zB(v:Value)(w:World):(Instr.typeAssert (.iface 352 v) 122 339 true).run prog w=.ok (.tuple #[.agg #[.int .i64 0,.nilIface],.bool false]) w:=by kernel_rfl
theorem BK(v:Value)(w:World):(Instr.typeAssert (.iface 352 v) 122 341 true).run prog w=.ok (.tuple #[.agg #[.int .i64 0,.string ⟨#[]⟩,.slice none 0 0],.bool false]) w:=by kernel_rfl
theorem tE(v:Value)(w:World):(Instr.typeAssert (.iface 352 v) 122 344 true).run prog w=.ok (.tuple #[.agg #[.int .i64 0,.string ⟨#[]⟩],.bool false]) w:=by kernel_rfl
theorem BJ(v:Value)(w:World):(Instr.typeAssert (.iface 352 v) 122 346 true).run prog w=.ok (.tuple #[.agg #[.int .i64 0,.slice none 0 0],.bool false]) w:=by kernel_rfl
theorem zC(v:Value)(w:World):(Instr.typeAssert (.iface 352 v) 122 348 true).run prog w=.ok (.tuple #[.agg #[.int .i64 0,.nilIface,.nilIface],.bool false]) w:=by kernel_rfl
theorem zA(v:Value)(w:World):(Instr.typeAssert (.iface 352 v) 122 350 true).run prog w=.ok (.tuple #[.agg #[.int .i64 0,.string ⟨#[]⟩,.nilIface],.bool false]) w:=by kernel_rfl
theorem vW(v:Value)(w:World):(Instr.typeAssert (.iface 352 v) 122 352 true).run prog w=.ok (.tuple #[v,.bool true]) w:=by kernel_rfl
theorem uE(v:Value)(w:World):(Instr.typeAssert (.iface 397 v) 122 329 true).run prog w=.ok (.tuple #[.agg #[.int .i64 0,.int .i64 0,.string ⟨#[]⟩,.nilIface],.bool false]) w:=by kernel_rfl
theorem vR(v:Value)(w:World):(Instr.typeAssert (.iface 397 v) 122 332 true).run prog w=.ok (.tuple #[.agg #[.int .i64 0,.string ⟨#[]⟩,.slice none 0 0,.nilIface],.bool false]) w:=by kernel_rfl
theorem JL(v:Value)(w:World):(Instr.typeAssert (.iface 397 v) 122 334 true).run prog w=.ok (.tuple #[.agg #[.int .i64 0,.nilIface,.slice none 0 0,.slice none 0 0],.bool false]) w:=by kernel_rfl
theorem yQ(v:Value)(w:World):(Instr.typeAssert (.iface 397 v) 122 336 true).run prog w=.ok (.tuple #[.agg #[.int .i64 0,.nilIface,.slice none 0 0],.bool false]) w:=by kernel_rfl
theorem vP(v:Value)(w:World):(Instr.typeAssert (.iface 397 v) 122 338 true).run prog w=.ok (.tuple #[.agg #[.int .i64 0,.nilIface],.bool false]) w:=by kernel_rfl
theorem yS(v:Value)(w:World):(Instr.typeAssert (.iface 397 v) 122 339 true).run prog w=.ok (.tuple #[.agg #[.int .i64 0,.nilIface],.bool false]) w:=by kernel_rfl
theorem AY(v:Value)(w:World):(Instr.typeAssert (.iface 397 v) 122 341 true).run prog w=.ok (.tuple #[.agg #[.int .i64 0,.string ⟨#[]⟩,.slice none 0 0],.bool false]) w:=by kernel_rfl
theorem tC(v:Value)(w:World):(Instr.typeAssert (.iface 397 v) 122 344 true).run prog w=.ok (.tuple #[.agg #[.int .i64 0,.string ⟨#[]⟩],.bool false]) w:=by kernel_rfl
theorem AX(v:Value)(w:World):(Instr.typeAssert (.iface 397 v) 122 346 true).run prog w=.ok (.tuple #[.agg #[.int .i64 0,.slice none 0 0],.bool false]) w:=by kernel_rfl
theorem yT(v:Value)(w:World):(Instr.typeAssert (.iface 397 v) 122 348 true).run prog w=.ok (.tuple #[.agg #[.int .i64 0,.nilIface,.nilIface],.bool false]) w:=by kernel_rfl
theorem yR(v:Value)(w:World):(Instr.typeAssert (.iface 397 v) 122 350 true).run prog w=.ok (.tuple #[.agg #[.int .i64 0,.string ⟨#[]⟩,.nilIface],.bool false]) w:=by kernel_rfl
theorem vQ(v:Value)(w:World):(Instr.typeAssert (.iface 397 v) 122 352 true).run prog w=.ok (.tuple #[.agg #[.int .i64 0,.string ⟨#[]⟩,.nilIface,.nilIface],.bool false]) w:=by kernel_rfl
theorem uC(v:Value)(w:World):(Instr.typeAssert (.iface 398 v) 122 329 true).run prog w=.ok (.tuple #[.agg #[.int .i64 0,.int .i64 0,.string ⟨#[]⟩,.nilIface],.bool false]) w:=by kernel_rfl
theorem vN(v:Value)(w:World):(Instr.typeAssert (.iface 398 v) 122 332 true).run prog w=.ok (.tuple #[.agg #[.int .i64 0,.string ⟨#[]⟩,.slice none 0 0,.nilIface],.bool false]) w:=by kernel_rfl
theorem JK(v:Value)(w:World):(Instr.typeAssert (.iface 398 v) 122 334 true).run prog w=.ok (.tuple #[.agg #[.int .i64 0,.nilIface,.slice none 0 0,.slice none 0 0],.bool false]) w:=by kernel_rfl
theorem yK(v:Value)(w:World):(Instr.typeAssert (.iface 398 v) 122 336 true).run prog w=.ok (.tuple #[.agg #[.int .i64 0,.nilIface,.slice none 0 0],.bool false]) w:=by kernel_rfl
theorem vL(v:Value)(w:World):(Instr.typeAssert (.iface 398 v) 122 338 true).run prog w=.ok (.tuple #[.agg #[.int .i64 0,.nilIface],.bool false]) w:=by kernel_rfl
theorem yM(v:Value)(w:World):(Instr.typeAssert (.iface 398 v) 122 339 true).run prog w=.ok (.tuple #[.agg #[.int .i64 0,.nilIface],.bool false]) w:=by kernel_rfl
theorem AU(v:Value)(w:World):(Instr.typeAssert (.iface 398 v) 122 341 true).run prog w=.ok (.tuple #[.agg #[.int .i64 0,.string ⟨#[]⟩,.slice none 0 0],.bool false]) w:=by kernel_rfl
theorem tB(v:Value)(w:World):(Instr.typeAssert (.iface 398 v) 122 344 true).run prog w=.ok (.tuple #[.agg #[.int .i64 0,.string ⟨#[]⟩],.bool false]) w:=by kernel_rfl
theorem AT(v:Value)(w:World):(Instr.typeAssert (.iface 398 v) 122 346 true).run prog w=.ok (.tuple #[.agg #[.int .i64 0,.slice none 0 0],.bool false]) w:=by kernel_rfl
theorem yN(v:Value)(w:World):(Instr.typeAssert (.iface 398 v) 122 348 true).run prog w=.ok (.tuple #[.agg #[.int .i64 0,.nilIface,.nilIface],.bool false]) w:=by kernel_rfl
theorem yL(v:Value)(w:World):(Instr.typeAssert (.iface 398 v) 122 350 true).run prog w=.ok (.tuple #[.agg #[.int .i64 0,.string ⟨#[]⟩,.nilIface],.bool false]) w:=by kernel_rfl
theorem vM(v:Value)(w:World):(Instr.typeAssert (.iface 398 v) 122 352 true).run prog w=.ok (.tuple #[.agg #[.int .i64 0,.string ⟨#[]⟩,.nilIface,.nilIface],.bool false]) w:=by kernel_rfl
theorem yY(v:Value)(w:World):(Instr.typeAssert (.iface 400 v) 122 329 true).run prog w=.ok (.tuple #[.agg #[.int .i64 0,.int .i64 0,.string ⟨#[]⟩,.nilIface],.bool false]) w:=by kernel_rfl
theorem BI(v:Value)(w:World):(Instr.typeAssert (.iface 400 v) 122 332 true).run prog w=.ok (.tuple #[.agg #[.int .i64 0,.string ⟨#[]⟩,.slice none 0 0,.nilIface],.bool false]) w:=by kernel_rfl
theorem RW(v:Value)(w:World):(Instr.typeAssert (.iface 400 v) 122 334 true).run prog w=.ok (.tuple #[.agg #[.int .i64 0,.nilIface,.slice none 0 0,.slice none 0 0],.bool false]) w:=by kernel_rfl
theorem ES(v:Value)(w:World):(Instr.typeAssert (.iface 400 v) 122 336 true).run prog w=.ok (.tuple #[.agg #[.int .i64 0,.nilIface,.slice none 0 0],.bool false]) w:=by kernel_rfl
theorem BG(v:Value)(w:World):(Instr.typeAssert (.iface 400 v) 122 338 true).run prog w=.ok (.tuple #[.agg #[.int .i64 0,.nilIface],.bool false]) w:=by kernel_rfl
theorem EU(v:Value)(w:World):(Instr.typeAssert (.iface 400 v) 122 339 true).run prog w=.ok (.tuple #[.agg #[.int .i64 0,.nilIface],.bool false]) w:=by kernel_rfl
theorem JQ(v:Value)(w:World):(Instr.typeAssert (.iface 400 v) 122 341 true).run prog w=.ok (.tuple #[.agg #[.int .i64 0,.string ⟨#[]⟩,.slice none 0 0],.bool false]) w:=by kernel_rfl
theorem vU(v:Value)(w:World):(Instr.typeAssert (.iface 400 v) 122 344 true).run prog w=.ok (.tuple #[.agg #[.int .i64 0,.string ⟨#[]⟩],.bool false]) w:=by kernel_rfl
theorem JP(v:Value)(w:World):(Instr.typeAssert (.iface 400 v) 122 346 true).run prog w=.ok (.tuple #[.agg #[.int .i64 0,.slice none 0 0],.bool false]) w:=by kernel_rfl
theorem EV(v:Value)(w:World):(Instr.typeAssert (.iface 400 v) 122 348 true).run prog w=.ok (.tuple #[.agg #[.int .i64 0,.nilIface,.nilIface],.bool false]) w:=by kernel_rfl
theorem ET(v:Value)(w:World):(Instr.typeAssert (.iface 400 v) 122 350 true).run prog w=.ok (.tuple #[.agg #[.int .i64 0,.string ⟨#[]⟩,.nilIface],.bool false]) w:=by kernel_rfl
theorem BH(v:Value)(w:World):(Instr.typeAssert (.iface 400 v) 122 352 true).run prog w=.ok (.tuple #[.agg #[.int .i64 0,.string ⟨#[]⟩,.nilIface,.nilIface],.bool false]) w:=by kernel_rfl
theorem DS{c:UInt8}(h:bY c=true):48<=c.toNat/\c.toNat<=57:=by
 unfold bY at h;simpa using h
theorem RJ(n:Nat)(c:UInt8)(r:List UInt8)(h:48<=c.toNat/\c.toNat<=57):cA n (c::r)=if 9223372036854775807<n*10+(c.toNat-48) then none else cA (n*10+(c.toNat-48)) r:=by
 rw[cA];unfold hJ;have e:((9223372036854775807-(c.toNat-48))/10<n)↔(9223372036854775807<n*10+(c.toNat-48)):=by omega
 rw[Nat.mul_comm 10 n];by_cases h1:9223372036854775807<n*10+(c.toNat-48)
 ·rw[if_pos (e.2 h1),if_pos h1]
 ·rw[if_neg (fun x=>h1 (e.1 x)),if_neg h1]
theorem D3:∀(l:List UInt8) (acc:Nat),(∀c∈l,bY c=true)->9223372036854775807<acc->Lib.parseUintM (2 ^ 64-1) acc l=.range\/∃u,Lib.parseUintM (2 ^ 64-1) acc l=.ok u/\9223372036854775808<=u
 |[],acc,_,h=>Or.inr ⟨acc,rfl,by omega⟩
 |c::r,acc,hd,h=>by
  have hc:=DS (hd c (x9 ..));rw[Lib.parseUintM,if_pos hc];by_cases h1:1844674407370955162<=acc
  ·rw[if_pos h1];exact Or.inl rfl
  ·omega
theorem AJ:∀(l:List UInt8) (acc:Nat),(∀c∈l,bY c=true)->acc<=9223372036854775807->
 (∃v,cA acc l=some v/\Lib.parseUintM (2 ^ 64-1) acc l=.ok v/\v<=9223372036854775807)\/(cA acc l=none/\(Lib.parseUintM (2 ^ 64-1) acc l=.range\/∃u,Lib.parseUintM (2 ^ 64-1) acc l=.ok u/\9223372036854775808<=u))
 |[],acc,_,h=>Or.inl ⟨acc,rfl,rfl,h⟩
 |c::r,acc,hd,h=>by
  have hc:=DS (hd c (x9 ..));have hr:∀x∈r,bY x=true:=fun x hx=>hd x (r9 _ hx)
  rw[RJ acc c r hc,Lib.parseUintM,if_pos hc];by_cases h1:9223372036854775807<acc*10+(c.toNat-48)
  ·refine Or.inr ⟨if_pos h1,?_⟩;by_cases h2:1844674407370955162<=acc
   ·rw[if_pos h2];exact Or.inl rfl
   ·rw[if_neg h2];by_cases h3:2 ^ 64-1<acc*10+(c.toNat-48)
    ·rw[if_pos h3];exact Or.inl rfl
    ·rw[if_neg h3];exact D3 r _ hr h1
  ·rw[if_neg h1,if_neg (by omega),if_neg (by omega)]
   exact AJ r _ hr (by omega)
theorem ZI(l:List UInt8)(hd:∀c∈l,bY c=true)(hne:l≠[]):(∃v,cA 0 l=some v/\Lib.parseIntB 64 l=.ok (v:Int))\/(cA 0 l=none/\Lib.parseIntB 64 l=.range):=by
 cases l with
 |nil=>exact absurd rfl hne
 |cons c r=>
  have hc:=DS (hd c (x9 ..));have hs:¬(c.toNat=43\/c.toNat=45):=by omega
  have hn:¬c.toNat=45:=by omega
  unfold Lib.parseIntB;simp only[if_neg hs];unfold Lib.parseUintB;rw[if_neg (by simp)]
  rcases AJ (c::r) 0 hd (by omega) with ⟨v,h1,h2,h3⟩|⟨h1,h2|⟨u,h2,h3⟩⟩
  ·refine Or.inl ⟨v,h1,?_⟩;rw[h2];simp only[hn];rw[if_neg (by omega)]
   simp
  ·exact Or.inr ⟨h1,by rw[h2]⟩
  ·refine Or.inr ⟨h1,?_⟩;rw[h2];simp only[hn];rw[if_pos ⟨by simp,by omega⟩]
end Go.Proofs.YtblbkfdhjfppkaaGreatDoor
