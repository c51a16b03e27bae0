/- Contracts of the program: which sort a value is of. -/
import Derived.Test.YthbffcmfmjpncaaGreatDoorB00s
import Derived.Test.YthbffcmfmjpncaaGreatDoorP00s
set_option linter.defProp false
set_option maxRecDepth 100000
set_option maxHeartbeats 4000000
namespace Go.Proofs.YthbffcmfmjpncaaGreatDoor
open Hs
open _root_.Go.Proofs.Tryz
open Instr(typeAssert)
open Go.RowKit
section
variable(v:Value)(w:World)
def kP:(typeAssert (.iface 229 v) 180 229 true).run prog w=.ok (.tuple #[v,.bool true]) w:=k_
def GW:(typeAssert (.iface 229 v) 180 230 true).run prog w=.ok (.tuple #[.bool false,.bool false]) w:=k_
def xJ:(typeAssert (.iface 229 v) 180 232 true).run prog w=.ok (.tuple #[.string ⟨#[]⟩,.bool false]) w:=k_
def lH:(typeAssert (.iface 229 v) 180 233 true).run prog w=.ok (.tuple #[.slice none 0 0,.bool false]) w:=k_
def jO:(typeAssert (.iface 230 v) 180 229 true).run prog w=.ok (.tuple #[.int .i64 0,.bool false]) w:=k_
def sB:(typeAssert (.iface 230 v) 180 230 true).run prog w=.ok (.tuple #[v,.bool true]) w:=k_
def oO:(typeAssert (.iface 230 v) 180 232 true).run prog w=.ok (.tuple #[.string ⟨#[]⟩,.bool false]) w:=k_
def iN:(typeAssert (.iface 230 v) 180 233 true).run prog w=.ok (.tuple #[.slice none 0 0,.bool false]) w:=k_
def kO:(typeAssert (.iface 232 v) 180 229 true).run prog w=.ok (.tuple #[.int .i64 0,.bool false]) w:=k_
def vB:(typeAssert (.iface 232 v) 180 230 true).run prog w=.ok (.tuple #[.bool false,.bool false]) w:=k_
def nB:(typeAssert (.iface 232 v) 180 232 true).run prog w=.ok (.tuple #[v,.bool true]) w:=k_
def oN:(typeAssert (.iface 232 v) 180 233 true).run prog w=.ok (.tuple #[.slice none 0 0,.bool false]) w:=k_
def jN:(typeAssert (.iface 233 v) 180 229 true).run prog w=.ok (.tuple #[.int .i64 0,.bool false]) w:=k_
def sA:(typeAssert (.iface 233 v) 180 230 true).run prog w=.ok (.tuple #[.bool false,.bool false]) w:=k_
def lG:(typeAssert (.iface 233 v) 180 232 true).run prog w=.ok (.tuple #[.string ⟨#[]⟩,.bool false]) w:=k_
def iM:(typeAssert (.iface 233 v) 180 233 true).run prog w=.ok (.tuple #[v,.bool true]) w:=k_
end
def AG(n b0 b1 b2 b3:Nat):Nat:=
 if b0<128 then 1
 else if 194<=b0/\b0<=223 then (if 1<n/\128<=b1/\b1<=191 then 2 else 0)
 else if 224<=b0/\b0<=239 then
  (if (1<n/\(if b0=224 then 160 else 128)<=b1/\b1<=(if b0=237 then 159 else 191))/\(2<n/\128<=b2/\b2<=191) then 3 else 0)
 else if 240<=b0/\b0<=244 then
  (if ((1<n/\(if b0=240 then 144 else 128)<=b1/\b1<=(if b0=244 then 143 else 191))/\(2<n/\128<=b2/\b2<=191))/\(3<n/\128<=b3/\b3<=191) then 4 else 0)
 else 0
def XH(n a b d c:Nat)(o:a<256)(p:b<256)(m:d<256)(q:c<256):
 (AG n a b d c=0->Lib.decodeN n a b d c=(65533,1))/\(AG n a b d c≠0->(Lib.decodeN n a b d c).2=AG n a b d c/\¬((Lib.decodeN n a b d c).1=65533/\AG n a b d c=1)/\((Lib.decodeN n a b d c).1=10↔a=10)):=by
 have i:b/64=2↔128<=b/\b<=191:=o_
 have f:d/64=2↔128<=d/\d<=191:=o_
 have g:c/64=2↔128<=c/\c<=191:=o_
 have k:a/32=6↔192<=a/\a<=223:=o_
 have l:a/16=14↔224<=a/\a<=239:=o_
 have j:a/8=30↔240<=a/\a<=247:=o_
 unfold AG Lib.decodeN;simp only[i,f,g,k,l,j];by_cases e:a<128
 ·simp only[if_pos e];exact⟨λh=>absurd h o_,λ_=>⟨trivial,o_,trivial⟩⟩
 ·simp only[if_neg e];repeat' split
  all_goals first
   |(refine⟨λ_=>rfl,λh=>absurd rfl h⟩)
   |(refine⟨λh=>absurd h o_,λ_=>⟨rfl,?_,?_⟩⟩<;>(simp only;omega))
   |(exfalso;omega)
def zL(s:ByteArray)(i:Nat)(h:i<s.size):s.get! i=s[i]:=by
 show s.data[i]! =s.data[i]
 rw[getElem!_pos s.data i (by simpa using h)]
def YY(s:ByteArray)(i lo a:Nat):cQ s.data.toList i lo a=decide (i<s.size/\lo<=(s.get! i).toNat/\(s.get! i).toNat<=a):=by
 unfold cQ;by_cases h:i<s.size
 ·have e:s.data.toList[i]?=some s[i]:=by simp[h];rfl
  rw[e,zL s i h];simp[h]
 ·have e:s.data.toList[i]?=none:=J0 (by simpa using (by omega:s.size<=i))
  rw[e];simp[h]
def ZK(s:ByteArray)(h:0<s.size):bD s.data.toList=AG s.size (s.get! 0).toNat (s.get! 1).toNat (s.get! 2).toNat (s.get! 3).toNat:=by
 unfold bD AG;have e:s.data.toList[0]?=some s[0]:=by simp[h];rfl
 rw[e,<-zL s 0 h];simp only[YY,I7,decide_eq_true_eq]
section
variable(v:Value)(w:World)
def rK:(typeAssert (.iface 259 v) 92 259 true).run prog w=.ok (.tuple #[v,.bool true]) w:=k_
def sN:(typeAssert (.iface 262 v) 92 259 true).run prog w=.ok (.tuple #[.agg #[.int .i64 0,.int .i64 0,.string ⟨#[]⟩,.nilIface],.bool false]) w:=k_
def uA:(typeAssert (.iface 262 v) 92 262 true).run prog w=.ok (.tuple #[v,.bool true]) w:=k_
def qT:(typeAssert (.iface 264 v) 92 259 true).run prog w=.ok (.tuple #[.agg #[.int .i64 0,.int .i64 0,.string ⟨#[]⟩,.nilIface],.bool false]) w:=k_
def sL:(typeAssert (.iface 264 v) 92 262 true).run prog w=.ok (.tuple #[.agg #[.int .i64 0,.string ⟨#[]⟩,.slice none 0 0,.nilIface],.bool false]) w:=k_
def IE:(typeAssert (.iface 264 v) 92 264 true).run prog w=.ok (.tuple #[v,.bool true]) w:=k_
def tR:(typeAssert (.iface 266 v) 92 259 true).run prog w=.ok (.tuple #[.agg #[.int .i64 0,.int .i64 0,.string ⟨#[]⟩,.nilIface],.bool false]) w:=k_
def vZ:(typeAssert (.iface 266 v) 92 262 true).run prog w=.ok (.tuple #[.agg #[.int .i64 0,.string ⟨#[]⟩,.slice none 0 0,.nilIface],.bool false]) w:=k_
def IB:(typeAssert (.iface 266 v) 92 264 true).run prog w=.ok (.tuple #[.agg #[.int .i64 0,.nilIface,.slice none 0 0,.slice none 0 0],.bool false]) w:=k_
def xT:(typeAssert (.iface 266 v) 92 266 true).run prog w=.ok (.tuple #[v,.bool true]) w:=k_
def lJ:(typeAssert (.iface 268 v) 92 259 true).run prog w=.ok (.tuple #[.agg #[.int .i64 0,.int .i64 0,.string ⟨#[]⟩,.nilIface],.bool false]) w:=k_
def mK:(typeAssert (.iface 268 v) 92 262 true).run prog w=.ok (.tuple #[.agg #[.int .i64 0,.string ⟨#[]⟩,.slice none 0 0,.nilIface],.bool false]) w:=k_
def sI:(typeAssert (.iface 268 v) 92 264 true).run prog w=.ok (.tuple #[.agg #[.int .i64 0,.nilIface,.slice none 0 0,.slice none 0 0],.bool false]) w:=k_
def nW:(typeAssert (.iface 268 v) 92 266 true).run prog w=.ok (.tuple #[.agg #[.int .i64 0,.nilIface,.slice none 0 0],.bool false]) w:=k_
def mJ:(typeAssert (.iface 268 v) 92 268 true).run prog w=.ok (.tuple #[v,.bool true]) w:=k_
def tW:(typeAssert (.iface 269 v) 92 259 true).run prog w=.ok (.tuple #[.agg #[.int .i64 0,.int .i64 0,.string ⟨#[]⟩,.nilIface],.bool false]) w:=k_
def wF:(typeAssert (.iface 269 v) 92 262 true).run prog w=.ok (.tuple #[.agg #[.int .i64 0,.string ⟨#[]⟩,.slice none 0 0,.nilIface],.bool false]) w:=k_
def IC:(typeAssert (.iface 269 v) 92 264 true).run prog w=.ok (.tuple #[.agg #[.int .i64 0,.nilIface,.slice none 0 0,.slice none 0 0],.bool false]) w:=k_
def xX:(typeAssert (.iface 269 v) 92 266 true).run prog w=.ok (.tuple #[.agg #[.int .i64 0,.nilIface,.slice none 0 0],.bool false]) w:=k_
def wE:(typeAssert (.iface 269 v) 92 268 true).run prog w=.ok (.tuple #[.agg #[.int .i64 0,.nilIface],.bool false]) w:=k_
def xY:(typeAssert (.iface 269 v) 92 269 true).run prog w=.ok (.tuple #[v,.bool true]) w:=k_
def wJ:(typeAssert (.iface 271 v) 92 259 true).run prog w=.ok (.tuple #[.agg #[.int .i64 0,.int .i64 0,.string ⟨#[]⟩,.nilIface],.bool false]) w:=k_
def yF:(typeAssert (.iface 271 v) 92 262 true).run prog w=.ok (.tuple #[.agg #[.int .i64 0,.string ⟨#[]⟩,.slice none 0 0,.nilIface],.bool false]) w:=k_
def LP:(typeAssert (.iface 271 v) 92 264 true).run prog w=.ok (.tuple #[.agg #[.int .i64 0,.nilIface,.slice none 0 0,.slice none 0 0],.bool false]) w:=k_
def AW:(typeAssert (.iface 271 v) 92 266 true).run prog w=.ok (.tuple #[.agg #[.int .i64 0,.nilIface,.slice none 0 0],.bool false]) w:=k_
def yE:(typeAssert (.iface 271 v) 92 268 true).run prog w=.ok (.tuple #[.agg #[.int .i64 0,.nilIface],.bool false]) w:=k_
def AX:(typeAssert (.iface 271 v) 92 269 true).run prog w=.ok (.tuple #[.agg #[.int .i64 0,.nilIface],.bool false]) w:=k_
def ES:(typeAssert (.iface 271 v) 92 271 true).run prog w=.ok (.tuple #[v,.bool true]) w:=k_
def qP:(typeAssert (.iface 274 v) 92 259 true).run prog w=.ok (.tuple #[.agg #[.int .i64 0,.int .i64 0,.string ⟨#[]⟩,.nilIface],.bool false]) w:=k_
def rI:(typeAssert (.iface 274 v) 92 262 true).run prog w=.ok (.tuple #[.agg #[.int .i64 0,.string ⟨#[]⟩,.slice none 0 0,.nilIface],.bool false]) w:=k_
def xU:(typeAssert (.iface 274 v) 92 264 true).run prog w=.ok (.tuple #[.agg #[.int .i64 0,.nilIface,.slice none 0 0,.slice none 0 0],.bool false]) w:=k_
def sF:(typeAssert (.iface 274 v) 92 266 true).run prog w=.ok (.tuple #[.agg #[.int .i64 0,.nilIface,.slice none 0 0],.bool false]) w:=k_
def rH:(typeAssert (.iface 274 v) 92 268 true).run prog w=.ok (.tuple #[.agg #[.int .i64 0,.nilIface],.bool false]) w:=k_
def sG:(typeAssert (.iface 274 v) 92 269 true).run prog w=.ok (.tuple #[.agg #[.int .i64 0,.nilIface],.bool false]) w:=k_
def tS:(typeAssert (.iface 274 v) 92 271 true).run prog w=.ok (.tuple #[.agg #[.int .i64 0,.string ⟨#[]⟩,.slice none 0 0],.bool false]) w:=k_
def oP:(typeAssert (.iface 274 v) 92 274 true).run prog w=.ok (.tuple #[v,.bool true]) w:=k_
def wG:(typeAssert (.iface 276 v) 92 259 true).run prog w=.ok (.tuple #[.agg #[.int .i64 0,.int .i64 0,.string ⟨#[]⟩,.nilIface],.bool false]) w:=k_
def yA:(typeAssert (.iface 276 v) 92 262 true).run prog w=.ok (.tuple #[.agg #[.int .i64 0,.string ⟨#[]⟩,.slice none 0 0,.nilIface],.bool false]) w:=k_
def LO:(typeAssert (.iface 276 v) 92 264 true).run prog w=.ok (.tuple #[.agg #[.int .i64 0,.nilIface,.slice none 0 0,.slice none 0 0],.bool false]) w:=k_
def AS:(typeAssert (.iface 276 v) 92 266 true).run prog w=.ok (.tuple #[.agg #[.int .i64 0,.nilIface,.slice none 0 0],.bool false]) w:=k_
def xZ:(typeAssert (.iface 276 v) 92 268 true).run prog w=.ok (.tuple #[.agg #[.int .i64 0,.nilIface],.bool false]) w:=k_
def AT:(typeAssert (.iface 276 v) 92 269 true).run prog w=.ok (.tuple #[.agg #[.int .i64 0,.nilIface],.bool false]) w:=k_
def ER:(typeAssert (.iface 276 v) 92 271 true).run prog w=.ok (.tuple #[.agg #[.int .i64 0,.string ⟨#[]⟩,.slice none 0 0],.bool false]) w:=k_
def tX:(typeAssert (.iface 276 v) 92 274 true).run prog w=.ok (.tuple #[.agg #[.int .i64 0,.string ⟨#[]⟩],.bool false]) w:=k_
def EQ:(typeAssert (.iface 276 v) 92 276 true).run prog w=.ok (.tuple #[v,.bool true]) w:=k_
def tY:(typeAssert (.iface 278 v) 92 259 true).run prog w=.ok (.tuple #[.agg #[.int .i64 0,.int .i64 0,.string ⟨#[]⟩,.nilIface],.bool false]) w:=k_
def wI:(typeAssert (.iface 278 v) 92 262 true).run prog w=.ok (.tuple #[.agg #[.int .i64 0,.string ⟨#[]⟩,.slice none 0 0,.nilIface],.bool false]) w:=k_
def ID:(typeAssert (.iface 278 v) 92 264 true).run prog w=.ok (.tuple #[.agg #[.int .i64 0,.nilIface,.slice none 0 0,.slice none 0 0],.bool false]) w:=k_
def yB:(typeAssert (.iface 278 v) 92 266 true).run prog w=.ok (.tuple #[.agg #[.int .i64 0,.nilIface,.slice none 0 0],.bool false]) w:=k_
def wH:(typeAssert (.iface 278 v) 92 268 true).run prog w=.ok (.tuple #[.agg #[.int .i64 0,.nilIface],.bool false]) w:=k_
def yC:(typeAssert (.iface 278 v) 92 269 true).run prog w=.ok (.tuple #[.agg #[.int .i64 0,.nilIface],.bool false]) w:=k_
def AV:(typeAssert (.iface 278 v) 92 271 true).run prog w=.ok (.tuple #[.agg #[.int .i64 0,.string ⟨#[]⟩,.slice none 0 0],.bool false]) w:=k_
def sK:(typeAssert (.iface 278 v) 92 274 true).run prog w=.ok (.tuple #[.agg #[.int .i64 0,.string ⟨#[]⟩],.bool false]) w:=k_
def AU:(typeAssert (.iface 278 v) 92 276 true).run prog w=.ok (.tuple #[.agg #[.int .i64 0,.slice none 0 0],.bool false]) w:=k_
def yD:(typeAssert (.iface 278 v) 92 278 true).run prog w=.ok (.tuple #[v,.bool true]) w:=k_
def mI:(typeAssert (.iface 280 v) 92 259 true).run prog w=.ok (.tuple #[.agg #[.int .i64 0,.int .i64 0,.string ⟨#[]⟩,.nilIface],.bool false]) w:=k_
def nV:(typeAssert (.iface 280 v) 92 262 true).run prog w=.ok (.tuple #[.agg #[.int .i64 0,.string ⟨#[]⟩,.slice none 0 0,.nilIface],.bool false]) w:=k_
def vF:(typeAssert (.iface 280 v) 92 264 true).run prog w=.ok (.tuple #[.agg #[.int .i64 0,.nilIface,.slice none 0 0,.slice none 0 0],.bool false]) w:=k_
def oQ:(typeAssert (.iface 280 v) 92 266 true).run prog w=.ok (.tuple #[.agg #[.int .i64 0,.nilIface,.slice none 0 0],.bool false]) w:=k_
def nU:(typeAssert (.iface 280 v) 92 268 true).run prog w=.ok (.tuple #[.agg #[.int .i64 0,.nilIface],.bool false]) w:=k_
def oS:(typeAssert (.iface 280 v) 92 269 true).run prog w=.ok (.tuple #[.agg #[.int .i64 0,.nilIface],.bool false]) w:=k_
def qS:(typeAssert (.iface 280 v) 92 271 true).run prog w=.ok (.tuple #[.agg #[.int .i64 0,.string ⟨#[]⟩,.slice none 0 0],.bool false]) w:=k_
def lI:(typeAssert (.iface 280 v) 92 274 true).run prog w=.ok (.tuple #[.agg #[.int .i64 0,.string ⟨#[]⟩],.bool false]) w:=k_
def qR:(typeAssert (.iface 280 v) 92 276 true).run prog w=.ok (.tuple #[.agg #[.int .i64 0,.slice none 0 0],.bool false]) w:=k_
def oT:(typeAssert (.iface 280 v) 92 278 true).run prog w=.ok (.tuple #[.agg #[.int .i64 0,.nilIface,.nilIface],.bool false]) w:=k_
def oR:(typeAssert (.iface 280 v) 92 280 true).run prog w=.ok (.tuple #[v,.bool true]) w:=k_
def lL:(typeAssert (.iface 282 v) 92 259 true).run prog w=.ok (.tuple #[.agg #[.int .i64 0,.int .i64 0,.string ⟨#[]⟩,.nilIface],.bool false]) w:=k_
def mQ:(typeAssert (.iface 282 v) 92 262 true).run prog w=.ok (.tuple #[.agg #[.int .i64 0,.string ⟨#[]⟩,.slice none 0 0,.nilIface],.bool false]) w:=k_
def sM:(typeAssert (.iface 282 v) 92 264 true).run prog w=.ok (.tuple #[.agg #[.int .i64 0,.nilIface,.slice none 0 0,.slice none 0 0],.bool false]) w:=k_
def oB:(typeAssert (.iface 282 v) 92 266 true).run prog w=.ok (.tuple #[.agg #[.int .i64 0,.nilIface,.slice none 0 0],.bool false]) w:=k_
def mO:(typeAssert (.iface 282 v) 92 268 true).run prog w=.ok (.tuple #[.agg #[.int .i64 0,.nilIface],.bool false]) w:=k_
def oD:(typeAssert (.iface 282 v) 92 269 true).run prog w=.ok (.tuple #[.agg #[.int .i64 0,.nilIface],.bool false]) w:=k_
def oX:(typeAssert (.iface 282 v) 92 271 true).run prog w=.ok (.tuple #[.agg #[.int .i64 0,.string ⟨#[]⟩,.slice none 0 0],.bool false]) w:=k_
def kR:(typeAssert (.iface 282 v) 92 274 true).run prog w=.ok (.tuple #[.agg #[.int .i64 0,.string ⟨#[]⟩],.bool false]) w:=k_
def oW:(typeAssert (.iface 282 v) 92 276 true).run prog w=.ok (.tuple #[.agg #[.int .i64 0,.slice none 0 0],.bool false]) w:=k_
def oE:(typeAssert (.iface 282 v) 92 278 true).run prog w=.ok (.tuple #[.agg #[.int .i64 0,.nilIface,.nilIface],.bool false]) w:=k_
def oC:(typeAssert (.iface 282 v) 92 280 true).run prog w=.ok (.tuple #[.agg #[.int .i64 0,.string ⟨#[]⟩,.nilIface],.bool false]) w:=k_
def mP:(typeAssert (.iface 282 v) 92 282 true).run prog w=.ok (.tuple #[v,.bool true]) w:=k_
def lK:(typeAssert (.iface 307 v) 92 259 true).run prog w=.ok (.tuple #[.agg #[.int .i64 0,.int .i64 0,.string ⟨#[]⟩,.nilIface],.bool false]) w:=k_
def mN:(typeAssert (.iface 307 v) 92 262 true).run prog w=.ok (.tuple #[.agg #[.int .i64 0,.string ⟨#[]⟩,.slice none 0 0,.nilIface],.bool false]) w:=k_
def sJ:(typeAssert (.iface 307 v) 92 264 true).run prog w=.ok (.tuple #[.agg #[.int .i64 0,.nilIface,.slice none 0 0,.slice none 0 0],.bool false]) w:=k_
def nX:(typeAssert (.iface 307 v) 92 266 true).run prog w=.ok (.tuple #[.agg #[.int .i64 0,.nilIface,.slice none 0 0],.bool false]) w:=k_
def mL:(typeAssert (.iface 307 v) 92 268 true).run prog w=.ok (.tuple #[.agg #[.int .i64 0,.nilIface],.bool false]) w:=k_
def nZ:(typeAssert (.iface 307 v) 92 269 true).run prog w=.ok (.tuple #[.agg #[.int .i64 0,.nilIface],.bool false]) w:=k_
def oV:(typeAssert (.iface 307 v) 92 271 true).run prog w=.ok (.tuple #[.agg #[.int .i64 0,.string ⟨#[]⟩,.slice none 0 0],.bool false]) w:=k_
def kQ:(typeAssert (.iface 307 v) 92 274 true).run prog w=.ok (.tuple #[.agg #[.int .i64 0,.string ⟨#[]⟩],.bool false]) w:=k_
def oU:(typeAssert (.iface 307 v) 92 276 true).run prog w=.ok (.tuple #[.agg #[.int .i64 0,.slice none 0 0],.bool false]) w:=k_
def oA:(typeAssert (.iface 307 v) 92 278 true).run prog w=.ok (.tuple #[.agg #[.int .i64 0,.nilIface,.nilIface],.bool false]) w:=k_
def nY:(typeAssert (.iface 307 v) 92 280 true).run prog w=.ok (.tuple #[.agg #[.int .i64 0,.string ⟨#[]⟩,.nilIface],.bool false]) w:=k_
def mM:(typeAssert (.iface 307 v) 92 282 true).run prog w=.ok (.tuple #[.agg #[.int .i64 0,.string ⟨#[]⟩,.nilIface,.nilIface],.bool false]) w:=k_
def sH:(typeAssert (.iface 308 v) 92 259 true).run prog w=.ok (.tuple #[.agg #[.int .i64 0,.int .i64 0,.string ⟨#[]⟩,.nilIface],.bool false]) w:=k_
def tV:(typeAssert (.iface 308 v) 92 262 true).run prog w=.ok (.tuple #[.agg #[.int .i64 0,.string ⟨#[]⟩,.slice none 0 0,.nilIface],.bool false]) w:=k_
def EP:(typeAssert (.iface 308 v) 92 264 true).run prog w=.ok (.tuple #[.agg #[.int .i64 0,.nilIface,.slice none 0 0,.slice none 0 0],.bool false]) w:=k_
def wA:(typeAssert (.iface 308 v) 92 266 true).run prog w=.ok (.tuple #[.agg #[.int .i64 0,.nilIface,.slice none 0 0],.bool false]) w:=k_
def tT:(typeAssert (.iface 308 v) 92 268 true).run prog w=.ok (.tuple #[.agg #[.int .i64 0,.nilIface],.bool false]) w:=k_
def wC:(typeAssert (.iface 308 v) 92 269 true).run prog w=.ok (.tuple #[.agg #[.int .i64 0,.nilIface],.bool false]) w:=k_
def xW:(typeAssert (.iface 308 v) 92 271 true).run prog w=.ok (.tuple #[.agg #[.int .i64 0,.string ⟨#[]⟩,.slice none 0 0],.bool false]) w:=k_
def rJ:(typeAssert (.iface 308 v) 92 274 true).run prog w=.ok (.tuple #[.agg #[.int .i64 0,.string ⟨#[]⟩],.bool false]) w:=k_
def xV:(typeAssert (.iface 308 v) 92 276 true).run prog w=.ok (.tuple #[.agg #[.int .i64 0,.slice none 0 0],.bool false]) w:=k_
def wD:(typeAssert (.iface 308 v) 92 278 true).run prog w=.ok (.tuple #[.agg #[.int .i64 0,.nilIface,.nilIface],.bool false]) w:=k_
def wB:(typeAssert (.iface 308 v) 92 280 true).run prog w=.ok (.tuple #[.agg #[.int .i64 0,.string ⟨#[]⟩,.nilIface],.bool false]) w:=k_
def tU:(typeAssert (.iface 308 v) 92 282 true).run prog w=.ok (.tuple #[.agg #[.int .i64 0,.string ⟨#[]⟩,.nilIface,.nilIface],.bool false]) w:=k_
def wK:(typeAssert (.iface 310 v) 92 259 true).run prog w=.ok (.tuple #[.agg #[.int .i64 0,.int .i64 0,.string ⟨#[]⟩,.nilIface],.bool false]) w:=k_
def yI:(typeAssert (.iface 310 v) 92 262 true).run prog w=.ok (.tuple #[.agg #[.int .i64 0,.string ⟨#[]⟩,.slice none 0 0,.nilIface],.bool false]) w:=k_
def LQ:(typeAssert (.iface 310 v) 92 264 true).run prog w=.ok (.tuple #[.agg #[.int .i64 0,.nilIface,.slice none 0 0,.slice none 0 0],.bool false]) w:=k_
def AY:(typeAssert (.iface 310 v) 92 266 true).run prog w=.ok (.tuple #[.agg #[.int .i64 0,.nilIface,.slice none 0 0],.bool false]) w:=k_
def yG:(typeAssert (.iface 310 v) 92 268 true).run prog w=.ok (.tuple #[.agg #[.int .i64 0,.nilIface],.bool false]) w:=k_
def BA:(typeAssert (.iface 310 v) 92 269 true).run prog w=.ok (.tuple #[.agg #[.int .i64 0,.nilIface],.bool false]) w:=k_
def EU:(typeAssert (.iface 310 v) 92 271 true).run prog w=.ok (.tuple #[.agg #[.int .i64 0,.string ⟨#[]⟩,.slice none 0 0],.bool false]) w:=k_
def tZ:(typeAssert (.iface 310 v) 92 274 true).run prog w=.ok (.tuple #[.agg #[.int .i64 0,.string ⟨#[]⟩],.bool false]) w:=k_
def ET:(typeAssert (.iface 310 v) 92 276 true).run prog w=.ok (.tuple #[.agg #[.int .i64 0,.slice none 0 0],.bool false]) w:=k_
def BB:(typeAssert (.iface 310 v) 92 278 true).run prog w=.ok (.tuple #[.agg #[.int .i64 0,.nilIface,.nilIface],.bool false]) w:=k_
def AZ:(typeAssert (.iface 310 v) 92 280 true).run prog w=.ok (.tuple #[.agg #[.int .i64 0,.string ⟨#[]⟩,.nilIface],.bool false]) w:=k_
def yH:(typeAssert (.iface 310 v) 92 282 true).run prog w=.ok (.tuple #[.agg #[.int .i64 0,.string ⟨#[]⟩,.nilIface,.nilIface],.bool false]) w:=k_
end
def AD{c:UInt8}(h:bS c=true):48<=c.toNat/\c.toNat<=57:=by
 unfold bS at h;simpa using h
def LD(n:Nat)(c:UInt8)(r:List UInt8)(h:48<=c.toNat/\c.toNat<=57):bW n (c::r)=if 9223372036854775807<n*10+(c.toNat-48) then none else bW (n*10+(c.toNat-48)) r:=by
 rw[bW];unfold fP;have e:((9223372036854775807-(c.toNat-48))/10<n)↔(9223372036854775807<n*10+(c.toNat-48)):=o_
 rw[Nat.mul_comm 10 n];by_cases a:9223372036854775807<n*10+(c.toNat-48)
 ·rw[if_pos (e.2 a),if_pos a]
 ·rw[if_neg (λx=>a (e.1 x)),if_neg a]
def UN:∀(l:List UInt8) (acc:Nat),(∀c∈l,bS c=true)->9223372036854775807<acc->Lib.parseUintM (2 ^ 64-1) acc l=.range\/∃u,Lib.parseUintM (2 ^ 64-1) acc l=.ok u/\9223372036854775808<=u
 |[],acc,_,h=>F5 ⟨acc,rfl,o_⟩
 |c::r,acc,a,h=>by
  have d:=AD (a c (K8 ..));rw[Lib.parseUintM,if_pos d];by_cases b:1844674407370955162<=acc
  ·rw[if_pos b];exact F7 rfl
  ·omega
def xM:∀(l:List UInt8) (acc:Nat),(∀c∈l,bS c=true)->acc<=9223372036854775807->
 (∃v,bW acc l=some v/\Lib.parseUintM (2 ^ 64-1) acc l=.ok v/\v<=9223372036854775807)\/(bW acc l=none/\(Lib.parseUintM (2 ^ 64-1) acc l=.range\/∃u,Lib.parseUintM (2 ^ 64-1) acc l=.ok u/\9223372036854775808<=u))
 |[],acc,_,h=>F7 ⟨acc,rfl,rfl,h⟩
 |c::r,acc,b,h=>by
  have g:=AD (b c (K8 ..));have e:∀x∈r,bS x=true:=λx i=>b x (L6 _ i)
  rw[LD acc c r g,Lib.parseUintM,if_pos g];by_cases a:9223372036854775807<acc*10+(c.toNat-48)
  ·refine F5 ⟨if_pos a,?_⟩;by_cases d:1844674407370955162<=acc
   ·rw[if_pos d];exact F7 rfl
   ·rw[if_neg d];by_cases f:2 ^ 64-1<acc*10+(c.toNat-48)
    ·rw[if_pos f];exact F7 rfl
    ·rw[if_neg f];exact UN r _ e a
  ·rw[if_neg a,if_neg o_,if_neg o_]
   exact xM r _ e o_
def TI(l:List UInt8)(e:∀c∈l,bS c=true)(d:l≠[]):(∃v,bW 0 l=some v/\Lib.parseIntB 64 l=.ok (v:Int))\/(bW 0 l=none/\Lib.parseIntB 64 l=.range):=by
 cases l with
 |nil=>exact absurd rfl d
 |cons c r=>
  have i:=AD (e c (K8 ..));have h:¬(c.toNat=43\/c.toNat=45):=o_
  have f:¬c.toNat=45:=o_
  unfold Lib.parseIntB;simp only[if_neg h];unfold Lib.parseUintB;rw[if_neg s_]
  rcases xM (c::r) 0 e o_ with ⟨v,b,a,g⟩|⟨b,a|⟨u,a,g⟩⟩
  ·refine F7 ⟨v,b,?_⟩;rw[a];simp only[f];rw[if_neg o_]
   simp
  ·exact F5 ⟨b,by rw[a]⟩
  ·refine F5 ⟨b,?_⟩;rw[a];simp only[f];rw[if_pos ⟨s_,o_⟩]
end Go.Proofs.YthbffcmfmjpncaaGreatDoor
