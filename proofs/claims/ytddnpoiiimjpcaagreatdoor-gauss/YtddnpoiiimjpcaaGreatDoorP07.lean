/- Plain facts: a character by its bytes, and as the library decodes it. -/
import Derived.Test.YtddnpoiiimjpcaaGreatDoorP00
set_option linter.defProp false
set_option maxRecDepth 100000
set_option maxHeartbeats 4000000
namespace Go.Proofs.YtddnpoiiimjpcaaGreatDoor
open Hs
def mX(n b0 b1 b2 b3:Nat):Nat:=
 if b0<128 then 1
 else if 194<=b0/\b0<=223 then (if 1<n/\128<=b1/\b1<=191 then 2 else 0)
 else if 224<=b0/\b0<=239 then
  (if (1<n/\(if b0=224 then 160 else 128)<=b1/\b1<=(if b0=237 then 159 else 191))/\(2<n/\128<=b2/\b2<=191) then 3 else 0)
 else if 240<=b0/\b0<=244 then
  (if ((1<n/\(if b0=240 then 144 else 128)<=b1/\b1<=(if b0=244 then 143 else 191))/\(2<n/\128<=b2/\b2<=191))/\(3<n/\128<=b3/\b3<=191) then 4 else 0)
 else 0
def G5(n a b d c:Nat)(o:a<256)(p:b<256)(m:d<256)(q:c<256):
 (mX n a b d c=0->Lib.decodeN n a b d c=(65533,1))/\(mX n a b d c≠0->(Lib.decodeN n a b d c).2=mX n a b d c/\¬((Lib.decodeN n a b d c).1=65533/\mX n a b d c=1)/\((Lib.decodeN n a b d c).1=10↔a=10)):=by
 have i:b/64=2↔128<=b/\b<=191:=by omega
 have f:d/64=2↔128<=d/\d<=191:=by omega
 have g:c/64=2↔128<=c/\c<=191:=by omega
 have k:a/32=6↔192<=a/\a<=223:=by omega
 have l:a/16=14↔224<=a/\a<=239:=by omega
 have j:a/8=30↔240<=a/\a<=247:=by omega
 unfold mX Lib.decodeN;simp only[i,f,g,k,l,j];by_cases e:a<128
 ·simp only[if_pos e];exact⟨fun h=>absurd h (by omega),fun _=>⟨trivial,by omega,trivial⟩⟩
 ·simp only[if_neg e];repeat' split
  all_goals first
   |(refine⟨fun _=>rfl,fun h=>absurd rfl h⟩)
   |(refine⟨fun h=>absurd h (by omega),fun _=>⟨rfl,?_,?_⟩⟩<;>(simp only;omega))
   |(exfalso;omega)
def nX(s:ByteArray)(i:Nat)(h:i<s.size):s.get! i=s[i]:=by
 show s.data[i]! =s.data[i]
 rw[getElem!_pos s.data i (by simpa using h)]
def N5(s:ByteArray)(i lo a:Nat):dI s.data.toList i lo a=decide (i<s.size/\lo<=(s.get! i).toNat/\(s.get! i).toNat<=a):=by
 unfold dI;by_cases h:i<s.size
 ·have e:s.data.toList[i]?=some s[i]:=by simp[h];rfl
  rw[e,nX s i h];simp[h]
 ·have e:s.data.toList[i]?=none:=j8 (by simpa using (by omega:s.size<=i))
  rw[e];simp[h]
def P4(s:ByteArray)(h:0<s.size):bG s.data.toList=mX s.size (s.get! 0).toNat (s.get! 1).toNat (s.get! 2).toNat (s.get! 3).toNat:=by
 unfold bG mX;have e:s.data.toList[0]?=some s[0]:=by simp[h];rfl
 rw[e,<-nX s 0 h];simp only[N5,j3,decide_eq_true_eq]
end Go.Proofs.YtddnpoiiimjpcaaGreatDoor
