/- Contracts of the program: which sort a node is of. -/
import Derived.Test.YtblbkfdhjfppkaaGreatDoorB00
import Derived.Test.YtblbkfdhjfppkaaGreatDoorP00
set_option linter.defProp false
set_option maxRecDepth 100000
namespace Go.Proofs.YtblbkfdhjfppkaaGreatDoor
open Hs
open _root_.Go.Proofs.Tryz
open Instr(typeAssert)
open Go.RowKit
def tK(v:Value)(w:World):(typeAssert (.iface 329 v) 122 329 true).run prog w=.ok (.tuple #[v,.bool true]) w:=by kernel_rfl
def uR(v:Value)(w:World):(typeAssert (.iface 332 v) 122 329 true).run prog w=.ok (.tuple #[.agg #[.int .i64 0,.int .i64 0,.string ⟨#[]⟩,.nilIface],.bool false]) w:=by kernel_rfl
def wF(v:Value)(w:World):(typeAssert (.iface 332 v) 122 332 true).run prog w=.ok (.tuple #[v,.bool true]) w:=by kernel_rfl
def sM(v:Value)(w:World):(typeAssert (.iface 334 v) 122 329 true).run prog w=.ok (.tuple #[.agg #[.int .i64 0,.int .i64 0,.string ⟨#[]⟩,.nilIface],.bool false]) w:=by kernel_rfl
def uP(v:Value)(w:World):(typeAssert (.iface 334 v) 122 332 true).run prog w=.ok (.tuple #[.agg #[.int .i64 0,.string ⟨#[]⟩,.slice none 0 0,.nilIface],.bool false]) w:=by kernel_rfl
def NB(v:Value)(w:World):(typeAssert (.iface 334 v) 122 334 true).run prog w=.ok (.tuple #[v,.bool true]) w:=by kernel_rfl
def vP(v:Value)(w:World):(typeAssert (.iface 336 v) 122 329 true).run prog w=.ok (.tuple #[.agg #[.int .i64 0,.int .i64 0,.string ⟨#[]⟩,.nilIface],.bool false]) w:=by kernel_rfl
def yN(v:Value)(w:World):(typeAssert (.iface 336 v) 122 332 true).run prog w=.ok (.tuple #[.agg #[.int .i64 0,.string ⟨#[]⟩,.slice none 0 0,.nilIface],.bool false]) w:=by kernel_rfl
def MX(v:Value)(w:World):(typeAssert (.iface 336 v) 122 334 true).run prog w=.ok (.tuple #[.agg #[.int .i64 0,.nilIface,.slice none 0 0,.slice none 0 0],.bool false]) w:=by kernel_rfl
def AN(v:Value)(w:World):(typeAssert (.iface 336 v) 122 336 true).run prog w=.ok (.tuple #[v,.bool true]) w:=by kernel_rfl
def nI(v:Value)(w:World):(typeAssert (.iface 338 v) 122 329 true).run prog w=.ok (.tuple #[.agg #[.int .i64 0,.int .i64 0,.string ⟨#[]⟩,.nilIface],.bool false]) w:=by kernel_rfl
def oC(v:Value)(w:World):(typeAssert (.iface 338 v) 122 332 true).run prog w=.ok (.tuple #[.agg #[.int .i64 0,.string ⟨#[]⟩,.slice none 0 0,.nilIface],.bool false]) w:=by kernel_rfl
def uM(v:Value)(w:World):(typeAssert (.iface 338 v) 122 334 true).run prog w=.ok (.tuple #[.agg #[.int .i64 0,.nilIface,.slice none 0 0,.slice none 0 0],.bool false]) w:=by kernel_rfl
def pH(v:Value)(w:World):(typeAssert (.iface 338 v) 122 336 true).run prog w=.ok (.tuple #[.agg #[.int .i64 0,.nilIface,.slice none 0 0],.bool false]) w:=by kernel_rfl
def oB(v:Value)(w:World):(typeAssert (.iface 338 v) 122 338 true).run prog w=.ok (.tuple #[v,.bool true]) w:=by kernel_rfl
def vV(v:Value)(w:World):(typeAssert (.iface 339 v) 122 329 true).run prog w=.ok (.tuple #[.agg #[.int .i64 0,.int .i64 0,.string ⟨#[]⟩,.nilIface],.bool false]) w:=by kernel_rfl
def yV(v:Value)(w:World):(typeAssert (.iface 339 v) 122 332 true).run prog w=.ok (.tuple #[.agg #[.int .i64 0,.string ⟨#[]⟩,.slice none 0 0,.nilIface],.bool false]) w:=by kernel_rfl
def MZ(v:Value)(w:World):(typeAssert (.iface 339 v) 122 334 true).run prog w=.ok (.tuple #[.agg #[.int .i64 0,.nilIface,.slice none 0 0,.slice none 0 0],.bool false]) w:=by kernel_rfl
def AV(v:Value)(w:World):(typeAssert (.iface 339 v) 122 336 true).run prog w=.ok (.tuple #[.agg #[.int .i64 0,.nilIface,.slice none 0 0],.bool false]) w:=by kernel_rfl
def yU(v:Value)(w:World):(typeAssert (.iface 339 v) 122 338 true).run prog w=.ok (.tuple #[.agg #[.int .i64 0,.nilIface],.bool false]) w:=by kernel_rfl
def AW(v:Value)(w:World):(typeAssert (.iface 339 v) 122 339 true).run prog w=.ok (.tuple #[v,.bool true]) w:=by kernel_rfl
def zD(v:Value)(w:World):(typeAssert (.iface 341 v) 122 329 true).run prog w=.ok (.tuple #[.agg #[.int .i64 0,.int .i64 0,.string ⟨#[]⟩,.nilIface],.bool false]) w:=by kernel_rfl
def BF(v:Value)(w:World):(typeAssert (.iface 341 v) 122 332 true).run prog w=.ok (.tuple #[.agg #[.int .i64 0,.string ⟨#[]⟩,.slice none 0 0,.nilIface],.bool false]) w:=by kernel_rfl
def SF(v:Value)(w:World):(typeAssert (.iface 341 v) 122 334 true).run prog w=.ok (.tuple #[.agg #[.int .i64 0,.nilIface,.slice none 0 0,.slice none 0 0],.bool false]) w:=by kernel_rfl
def ER(v:Value)(w:World):(typeAssert (.iface 341 v) 122 336 true).run prog w=.ok (.tuple #[.agg #[.int .i64 0,.nilIface,.slice none 0 0],.bool false]) w:=by kernel_rfl
def BE(v:Value)(w:World):(typeAssert (.iface 341 v) 122 338 true).run prog w=.ok (.tuple #[.agg #[.int .i64 0,.nilIface],.bool false]) w:=by kernel_rfl
def ES(v:Value)(w:World):(typeAssert (.iface 341 v) 122 339 true).run prog w=.ok (.tuple #[.agg #[.int .i64 0,.nilIface],.bool false]) w:=by kernel_rfl
def JQ(v:Value)(w:World):(typeAssert (.iface 341 v) 122 341 true).run prog w=.ok (.tuple #[v,.bool true]) w:=by kernel_rfl
def sI(v:Value)(w:World):(typeAssert (.iface 344 v) 122 329 true).run prog w=.ok (.tuple #[.agg #[.int .i64 0,.int .i64 0,.string ⟨#[]⟩,.nilIface],.bool false]) w:=by kernel_rfl
def tH(v:Value)(w:World):(typeAssert (.iface 344 v) 122 332 true).run prog w=.ok (.tuple #[.agg #[.int .i64 0,.string ⟨#[]⟩,.slice none 0 0,.nilIface],.bool false]) w:=by kernel_rfl
def AO(v:Value)(w:World):(typeAssert (.iface 344 v) 122 334 true).run prog w=.ok (.tuple #[.agg #[.int .i64 0,.nilIface,.slice none 0 0,.slice none 0 0],.bool false]) w:=by kernel_rfl
def uI(v:Value)(w:World):(typeAssert (.iface 344 v) 122 336 true).run prog w=.ok (.tuple #[.agg #[.int .i64 0,.nilIface,.slice none 0 0],.bool false]) w:=by kernel_rfl
def tG(v:Value)(w:World):(typeAssert (.iface 344 v) 122 338 true).run prog w=.ok (.tuple #[.agg #[.int .i64 0,.nilIface],.bool false]) w:=by kernel_rfl
def uJ(v:Value)(w:World):(typeAssert (.iface 344 v) 122 339 true).run prog w=.ok (.tuple #[.agg #[.int .i64 0,.nilIface],.bool false]) w:=by kernel_rfl
def vQ(v:Value)(w:World):(typeAssert (.iface 344 v) 122 341 true).run prog w=.ok (.tuple #[.agg #[.int .i64 0,.string ⟨#[]⟩,.slice none 0 0],.bool false]) w:=by kernel_rfl
def pW(v:Value)(w:World):(typeAssert (.iface 344 v) 122 344 true).run prog w=.ok (.tuple #[v,.bool true]) w:=by kernel_rfl
def zA(v:Value)(w:World):(typeAssert (.iface 346 v) 122 329 true).run prog w=.ok (.tuple #[.agg #[.int .i64 0,.int .i64 0,.string ⟨#[]⟩,.nilIface],.bool false]) w:=by kernel_rfl
def BA(v:Value)(w:World):(typeAssert (.iface 346 v) 122 332 true).run prog w=.ok (.tuple #[.agg #[.int .i64 0,.string ⟨#[]⟩,.slice none 0 0,.nilIface],.bool false]) w:=by kernel_rfl
def SE(v:Value)(w:World):(typeAssert (.iface 346 v) 122 334 true).run prog w=.ok (.tuple #[.agg #[.int .i64 0,.nilIface,.slice none 0 0,.slice none 0 0],.bool false]) w:=by kernel_rfl
def EN(v:Value)(w:World):(typeAssert (.iface 346 v) 122 336 true).run prog w=.ok (.tuple #[.agg #[.int .i64 0,.nilIface,.slice none 0 0],.bool false]) w:=by kernel_rfl
def AZ(v:Value)(w:World):(typeAssert (.iface 346 v) 122 338 true).run prog w=.ok (.tuple #[.agg #[.int .i64 0,.nilIface],.bool false]) w:=by kernel_rfl
def EO(v:Value)(w:World):(typeAssert (.iface 346 v) 122 339 true).run prog w=.ok (.tuple #[.agg #[.int .i64 0,.nilIface],.bool false]) w:=by kernel_rfl
def JP(v:Value)(w:World):(typeAssert (.iface 346 v) 122 341 true).run prog w=.ok (.tuple #[.agg #[.int .i64 0,.string ⟨#[]⟩,.slice none 0 0],.bool false]) w:=by kernel_rfl
def vZ(v:Value)(w:World):(typeAssert (.iface 346 v) 122 344 true).run prog w=.ok (.tuple #[.agg #[.int .i64 0,.string ⟨#[]⟩],.bool false]) w:=by kernel_rfl
def JO(v:Value)(w:World):(typeAssert (.iface 346 v) 122 346 true).run prog w=.ok (.tuple #[v,.bool true]) w:=by kernel_rfl
def wA(v:Value)(w:World):(typeAssert (.iface 348 v) 122 329 true).run prog w=.ok (.tuple #[.agg #[.int .i64 0,.int .i64 0,.string ⟨#[]⟩,.nilIface],.bool false]) w:=by kernel_rfl
def zC(v:Value)(w:World):(typeAssert (.iface 348 v) 122 332 true).run prog w=.ok (.tuple #[.agg #[.int .i64 0,.string ⟨#[]⟩,.slice none 0 0,.nilIface],.bool false]) w:=by kernel_rfl
def NA(v:Value)(w:World):(typeAssert (.iface 348 v) 122 334 true).run prog w=.ok (.tuple #[.agg #[.int .i64 0,.nilIface,.slice none 0 0,.slice none 0 0],.bool false]) w:=by kernel_rfl
def BB(v:Value)(w:World):(typeAssert (.iface 348 v) 122 336 true).run prog w=.ok (.tuple #[.agg #[.int .i64 0,.nilIface,.slice none 0 0],.bool false]) w:=by kernel_rfl
def zB(v:Value)(w:World):(typeAssert (.iface 348 v) 122 338 true).run prog w=.ok (.tuple #[.agg #[.int .i64 0,.nilIface],.bool false]) w:=by kernel_rfl
def BC(v:Value)(w:World):(typeAssert (.iface 348 v) 122 339 true).run prog w=.ok (.tuple #[.agg #[.int .i64 0,.nilIface],.bool false]) w:=by kernel_rfl
def EQ(v:Value)(w:World):(typeAssert (.iface 348 v) 122 341 true).run prog w=.ok (.tuple #[.agg #[.int .i64 0,.string ⟨#[]⟩,.slice none 0 0],.bool false]) w:=by kernel_rfl
def uO(v:Value)(w:World):(typeAssert (.iface 348 v) 122 344 true).run prog w=.ok (.tuple #[.agg #[.int .i64 0,.string ⟨#[]⟩],.bool false]) w:=by kernel_rfl
def EP(v:Value)(w:World):(typeAssert (.iface 348 v) 122 346 true).run prog w=.ok (.tuple #[.agg #[.int .i64 0,.slice none 0 0],.bool false]) w:=by kernel_rfl
def BD(v:Value)(w:World):(typeAssert (.iface 348 v) 122 348 true).run prog w=.ok (.tuple #[v,.bool true]) w:=by kernel_rfl
def vR(v:Value)(w:World):(typeAssert (.iface 350 v) 122 329 true).run prog w=.ok (.tuple #[.agg #[.int .i64 0,.int .i64 0,.string ⟨#[]⟩,.nilIface],.bool false]) w:=by kernel_rfl
def yP(v:Value)(w:World):(typeAssert (.iface 350 v) 122 332 true).run prog w=.ok (.tuple #[.agg #[.int .i64 0,.string ⟨#[]⟩,.slice none 0 0,.nilIface],.bool false]) w:=by kernel_rfl
def MY(v:Value)(w:World):(typeAssert (.iface 350 v) 122 334 true).run prog w=.ok (.tuple #[.agg #[.int .i64 0,.nilIface,.slice none 0 0,.slice none 0 0],.bool false]) w:=by kernel_rfl
def AP(v:Value)(w:World):(typeAssert (.iface 350 v) 122 336 true).run prog w=.ok (.tuple #[.agg #[.int .i64 0,.nilIface,.slice none 0 0],.bool false]) w:=by kernel_rfl
def yO(v:Value)(w:World):(typeAssert (.iface 350 v) 122 338 true).run prog w=.ok (.tuple #[.agg #[.int .i64 0,.nilIface],.bool false]) w:=by kernel_rfl
def AR(v:Value)(w:World):(typeAssert (.iface 350 v) 122 339 true).run prog w=.ok (.tuple #[.agg #[.int .i64 0,.nilIface],.bool false]) w:=by kernel_rfl
def EM(v:Value)(w:World):(typeAssert (.iface 350 v) 122 341 true).run prog w=.ok (.tuple #[.agg #[.int .i64 0,.string ⟨#[]⟩,.slice none 0 0],.bool false]) w:=by kernel_rfl
def uK(v:Value)(w:World):(typeAssert (.iface 350 v) 122 344 true).run prog w=.ok (.tuple #[.agg #[.int .i64 0,.string ⟨#[]⟩],.bool false]) w:=by kernel_rfl
def EL(v:Value)(w:World):(typeAssert (.iface 350 v) 122 346 true).run prog w=.ok (.tuple #[.agg #[.int .i64 0,.slice none 0 0],.bool false]) w:=by kernel_rfl
def AS(v:Value)(w:World):(typeAssert (.iface 350 v) 122 348 true).run prog w=.ok (.tuple #[.agg #[.int .i64 0,.nilIface,.nilIface],.bool false]) w:=by kernel_rfl
def AQ(v:Value)(w:World):(typeAssert (.iface 350 v) 122 350 true).run prog w=.ok (.tuple #[v,.bool true]) w:=by kernel_rfl
def uQ(v:Value)(w:World):(typeAssert (.iface 352 v) 122 329 true).run prog w=.ok (.tuple #[.agg #[.int .i64 0,.int .i64 0,.string ⟨#[]⟩,.nilIface],.bool false]) w:=by kernel_rfl
def wE(v:Value)(w:World):(typeAssert (.iface 352 v) 122 332 true).run prog w=.ok (.tuple #[.agg #[.int .i64 0,.string ⟨#[]⟩,.slice none 0 0,.nilIface],.bool false]) w:=by kernel_rfl
def JT(v:Value)(w:World):(typeAssert (.iface 352 v) 122 334 true).run prog w=.ok (.tuple #[.agg #[.int .i64 0,.nilIface,.slice none 0 0,.slice none 0 0],.bool false]) w:=by kernel_rfl
def zF(v:Value)(w:World):(typeAssert (.iface 352 v) 122 336 true).run prog w=.ok (.tuple #[.agg #[.int .i64 0,.nilIface,.slice none 0 0],.bool false]) w:=by kernel_rfl
def wC(v:Value)(w:World):(typeAssert (.iface 352 v) 122 338 true).run prog w=.ok (.tuple #[.agg #[.int .i64 0,.nilIface],.bool false]) w:=by kernel_rfl
def zH(v:Value)(w:World):(typeAssert (.iface 352 v) 122 339 true).run prog w=.ok (.tuple #[.agg #[.int .i64 0,.nilIface],.bool false]) w:=by kernel_rfl
def BK(v:Value)(w:World):(typeAssert (.iface 352 v) 122 341 true).run prog w=.ok (.tuple #[.agg #[.int .i64 0,.string ⟨#[]⟩,.slice none 0 0],.bool false]) w:=by kernel_rfl
def tL(v:Value)(w:World):(typeAssert (.iface 352 v) 122 344 true).run prog w=.ok (.tuple #[.agg #[.int .i64 0,.string ⟨#[]⟩],.bool false]) w:=by kernel_rfl
def BJ(v:Value)(w:World):(typeAssert (.iface 352 v) 122 346 true).run prog w=.ok (.tuple #[.agg #[.int .i64 0,.slice none 0 0],.bool false]) w:=by kernel_rfl
def zI(v:Value)(w:World):(typeAssert (.iface 352 v) 122 348 true).run prog w=.ok (.tuple #[.agg #[.int .i64 0,.nilIface,.nilIface],.bool false]) w:=by kernel_rfl
def zG(v:Value)(w:World):(typeAssert (.iface 352 v) 122 350 true).run prog w=.ok (.tuple #[.agg #[.int .i64 0,.string ⟨#[]⟩,.nilIface],.bool false]) w:=by kernel_rfl
def wD(v:Value)(w:World):(typeAssert (.iface 352 v) 122 352 true).run prog w=.ok (.tuple #[v,.bool true]) w:=by kernel_rfl
def uN(v:Value)(w:World):(typeAssert (.iface 397 v) 122 329 true).run prog w=.ok (.tuple #[.agg #[.int .i64 0,.int .i64 0,.string ⟨#[]⟩,.nilIface],.bool false]) w:=by kernel_rfl
def vY(v:Value)(w:World):(typeAssert (.iface 397 v) 122 332 true).run prog w=.ok (.tuple #[.agg #[.int .i64 0,.string ⟨#[]⟩,.slice none 0 0,.nilIface],.bool false]) w:=by kernel_rfl
def JN(v:Value)(w:World):(typeAssert (.iface 397 v) 122 334 true).run prog w=.ok (.tuple #[.agg #[.int .i64 0,.nilIface,.slice none 0 0,.slice none 0 0],.bool false]) w:=by kernel_rfl
def yW(v:Value)(w:World):(typeAssert (.iface 397 v) 122 336 true).run prog w=.ok (.tuple #[.agg #[.int .i64 0,.nilIface,.slice none 0 0],.bool false]) w:=by kernel_rfl
def vW(v:Value)(w:World):(typeAssert (.iface 397 v) 122 338 true).run prog w=.ok (.tuple #[.agg #[.int .i64 0,.nilIface],.bool false]) w:=by kernel_rfl
def yY(v:Value)(w:World):(typeAssert (.iface 397 v) 122 339 true).run prog w=.ok (.tuple #[.agg #[.int .i64 0,.nilIface],.bool false]) w:=by kernel_rfl
def AY(v:Value)(w:World):(typeAssert (.iface 397 v) 122 341 true).run prog w=.ok (.tuple #[.agg #[.int .i64 0,.string ⟨#[]⟩,.slice none 0 0],.bool false]) w:=by kernel_rfl
def tJ(v:Value)(w:World):(typeAssert (.iface 397 v) 122 344 true).run prog w=.ok (.tuple #[.agg #[.int .i64 0,.string ⟨#[]⟩],.bool false]) w:=by kernel_rfl
def AX(v:Value)(w:World):(typeAssert (.iface 397 v) 122 346 true).run prog w=.ok (.tuple #[.agg #[.int .i64 0,.slice none 0 0],.bool false]) w:=by kernel_rfl
def yZ(v:Value)(w:World):(typeAssert (.iface 397 v) 122 348 true).run prog w=.ok (.tuple #[.agg #[.int .i64 0,.nilIface,.nilIface],.bool false]) w:=by kernel_rfl
def yX(v:Value)(w:World):(typeAssert (.iface 397 v) 122 350 true).run prog w=.ok (.tuple #[.agg #[.int .i64 0,.string ⟨#[]⟩,.nilIface],.bool false]) w:=by kernel_rfl
def vX(v:Value)(w:World):(typeAssert (.iface 397 v) 122 352 true).run prog w=.ok (.tuple #[.agg #[.int .i64 0,.string ⟨#[]⟩,.nilIface,.nilIface],.bool false]) w:=by kernel_rfl
def uL(v:Value)(w:World):(typeAssert (.iface 398 v) 122 329 true).run prog w=.ok (.tuple #[.agg #[.int .i64 0,.int .i64 0,.string ⟨#[]⟩,.nilIface],.bool false]) w:=by kernel_rfl
def vU(v:Value)(w:World):(typeAssert (.iface 398 v) 122 332 true).run prog w=.ok (.tuple #[.agg #[.int .i64 0,.string ⟨#[]⟩,.slice none 0 0,.nilIface],.bool false]) w:=by kernel_rfl
def JM(v:Value)(w:World):(typeAssert (.iface 398 v) 122 334 true).run prog w=.ok (.tuple #[.agg #[.int .i64 0,.nilIface,.slice none 0 0,.slice none 0 0],.bool false]) w:=by kernel_rfl
def yQ(v:Value)(w:World):(typeAssert (.iface 398 v) 122 336 true).run prog w=.ok (.tuple #[.agg #[.int .i64 0,.nilIface,.slice none 0 0],.bool false]) w:=by kernel_rfl
def vS(v:Value)(w:World):(typeAssert (.iface 398 v) 122 338 true).run prog w=.ok (.tuple #[.agg #[.int .i64 0,.nilIface],.bool false]) w:=by kernel_rfl
def yS(v:Value)(w:World):(typeAssert (.iface 398 v) 122 339 true).run prog w=.ok (.tuple #[.agg #[.int .i64 0,.nilIface],.bool false]) w:=by kernel_rfl
def AU(v:Value)(w:World):(typeAssert (.iface 398 v) 122 341 true).run prog w=.ok (.tuple #[.agg #[.int .i64 0,.string ⟨#[]⟩,.slice none 0 0],.bool false]) w:=by kernel_rfl
def tI(v:Value)(w:World):(typeAssert (.iface 398 v) 122 344 true).run prog w=.ok (.tuple #[.agg #[.int .i64 0,.string ⟨#[]⟩],.bool false]) w:=by kernel_rfl
def AT(v:Value)(w:World):(typeAssert (.iface 398 v) 122 346 true).run prog w=.ok (.tuple #[.agg #[.int .i64 0,.slice none 0 0],.bool false]) w:=by kernel_rfl
def yT(v:Value)(w:World):(typeAssert (.iface 398 v) 122 348 true).run prog w=.ok (.tuple #[.agg #[.int .i64 0,.nilIface,.nilIface],.bool false]) w:=by kernel_rfl
def yR(v:Value)(w:World):(typeAssert (.iface 398 v) 122 350 true).run prog w=.ok (.tuple #[.agg #[.int .i64 0,.string ⟨#[]⟩,.nilIface],.bool false]) w:=by kernel_rfl
def vT(v:Value)(w:World):(typeAssert (.iface 398 v) 122 352 true).run prog w=.ok (.tuple #[.agg #[.int .i64 0,.string ⟨#[]⟩,.nilIface,.nilIface],.bool false]) w:=by kernel_rfl
def zE(v:Value)(w:World):(typeAssert (.iface 400 v) 122 329 true).run prog w=.ok (.tuple #[.agg #[.int .i64 0,.int .i64 0,.string ⟨#[]⟩,.nilIface],.bool false]) w:=by kernel_rfl
def BI(v:Value)(w:World):(typeAssert (.iface 400 v) 122 332 true).run prog w=.ok (.tuple #[.agg #[.int .i64 0,.string ⟨#[]⟩,.slice none 0 0,.nilIface],.bool false]) w:=by kernel_rfl
def SG(v:Value)(w:World):(typeAssert (.iface 400 v) 122 334 true).run prog w=.ok (.tuple #[.agg #[.int .i64 0,.nilIface,.slice none 0 0,.slice none 0 0],.bool false]) w:=by kernel_rfl
def ET(v:Value)(w:World):(typeAssert (.iface 400 v) 122 336 true).run prog w=.ok (.tuple #[.agg #[.int .i64 0,.nilIface,.slice none 0 0],.bool false]) w:=by kernel_rfl
def BG(v:Value)(w:World):(typeAssert (.iface 400 v) 122 338 true).run prog w=.ok (.tuple #[.agg #[.int .i64 0,.nilIface],.bool false]) w:=by kernel_rfl
def EV(v:Value)(w:World):(typeAssert (.iface 400 v) 122 339 true).run prog w=.ok (.tuple #[.agg #[.int .i64 0,.nilIface],.bool false]) w:=by kernel_rfl
def JS(v:Value)(w:World):(typeAssert (.iface 400 v) 122 341 true).run prog w=.ok (.tuple #[.agg #[.int .i64 0,.string ⟨#[]⟩,.slice none 0 0],.bool false]) w:=by kernel_rfl
def wB(v:Value)(w:World):(typeAssert (.iface 400 v) 122 344 true).run prog w=.ok (.tuple #[.agg #[.int .i64 0,.string ⟨#[]⟩],.bool false]) w:=by kernel_rfl
def JR(v:Value)(w:World):(typeAssert (.iface 400 v) 122 346 true).run prog w=.ok (.tuple #[.agg #[.int .i64 0,.slice none 0 0],.bool false]) w:=by kernel_rfl
def EW(v:Value)(w:World):(typeAssert (.iface 400 v) 122 348 true).run prog w=.ok (.tuple #[.agg #[.int .i64 0,.nilIface,.nilIface],.bool false]) w:=by kernel_rfl
def EU(v:Value)(w:World):(typeAssert (.iface 400 v) 122 350 true).run prog w=.ok (.tuple #[.agg #[.int .i64 0,.string ⟨#[]⟩,.nilIface],.bool false]) w:=by kernel_rfl
def BH(v:Value)(w:World):(typeAssert (.iface 400 v) 122 352 true).run prog w=.ok (.tuple #[.agg #[.int .i64 0,.string ⟨#[]⟩,.nilIface,.nilIface],.bool false]) w:=by kernel_rfl
def DU{c:UInt8}(h:eA c=true):48<=c.toNat/\c.toNat<=57:=by
 unfold eA at h;simpa using h
def RT(n:Nat)(c:UInt8)(r:List UInt8)(h:48<=c.toNat/\c.toNat<=57):dG n (c::r)=if 9223372036854775807<n*10+(c.toNat-48) then none else dG (n*10+(c.toNat-48)) r:=by
 rw[dG];unfold KV;have e:((9223372036854775807-(c.toNat-48))/10<n)↔(9223372036854775807<n*10+(c.toNat-48)):=by omega
 rw[Nat.mul_comm 10 n];by_cases a:9223372036854775807<n*10+(c.toNat-48)
 ·rw[if_pos (e.2 a),if_pos a]
 ·rw[if_neg (fun x=>a (e.1 x)),if_neg a]
def G7:∀(l:List UInt8) (acc:Nat),(∀c∈l,eA c=true)->9223372036854775807<acc->Lib.parseUintM (2 ^ 64-1) acc l=.range\/∃u,Lib.parseUintM (2 ^ 64-1) acc l=.ok u/\9223372036854775808<=u
 |[],acc,_,h=>as_ ⟨acc,rfl,by omega⟩
 |c::r,acc,a,h=>by
  have d:=DU (a c (aS_ ..));rw[Lib.parseUintM,if_pos d];by_cases b:1844674407370955162<=acc
  ·rw[if_pos b];exact av_ rfl
  ·omega
def AL:∀(l:List UInt8) (acc:Nat),(∀c∈l,eA c=true)->acc<=9223372036854775807->
 (∃v,dG acc l=some v/\Lib.parseUintM (2 ^ 64-1) acc l=.ok v/\v<=9223372036854775807)\/(dG acc l=none/\(Lib.parseUintM (2 ^ 64-1) acc l=.range\/∃u,Lib.parseUintM (2 ^ 64-1) acc l=.ok u/\9223372036854775808<=u))
 |[],acc,_,h=>av_ ⟨acc,rfl,rfl,h⟩
 |c::r,acc,b,h=>by
  have g:=DU (b c (aS_ ..));have e:∀x∈r,eA x=true:=fun x i=>b x (aJ_ _ i)
  rw[RT acc c r g,Lib.parseUintM,if_pos g];by_cases a:9223372036854775807<acc*10+(c.toNat-48)
  ·refine as_ ⟨if_pos a,?_⟩;by_cases d:1844674407370955162<=acc
   ·rw[if_pos d];exact av_ rfl
   ·rw[if_neg d];by_cases f:2 ^ 64-1<acc*10+(c.toNat-48)
    ·rw[if_pos f];exact av_ rfl
    ·rw[if_neg f];exact G7 r _ e a
  ·rw[if_neg a,if_neg (by omega),if_neg (by omega)]
   exact AL r _ e (by omega)
def B0(l:List UInt8)(e:∀c∈l,eA c=true)(d:l≠[]):(∃v,dG 0 l=some v/\Lib.parseIntB 64 l=.ok (v:Int))\/(dG 0 l=none/\Lib.parseIntB 64 l=.range):=by
 cases l with
 |nil=>exact absurd rfl d
 |cons c r=>
  have i:=DU (e c (aS_ ..));have h:¬(c.toNat=43\/c.toNat=45):=by omega
  have f:¬c.toNat=45:=by omega
  unfold Lib.parseIntB;simp only[if_neg h];unfold Lib.parseUintB;rw[if_neg (by simp)]
  rcases AL (c::r) 0 e (by omega) with ⟨v,b,a,g⟩|⟨b,a|⟨u,a,g⟩⟩
  ·refine av_ ⟨v,b,?_⟩;rw[a];simp only[f];rw[if_neg (by omega)]
   simp
  ·exact as_ ⟨b,by rw[a]⟩
  ·refine as_ ⟨b,?_⟩;rw[a];simp only[f];rw[if_pos ⟨by simp,by omega⟩]
end Go.Proofs.YtblbkfdhjfppkaaGreatDoor
