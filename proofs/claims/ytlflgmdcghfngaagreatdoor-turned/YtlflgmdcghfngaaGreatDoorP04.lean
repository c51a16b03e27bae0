/- Contracts of the program: a frame for an expression where there is none: the walk. -/
import Derived.Test.YtlflgmdcghfngaaGreatDoorB02
import Derived.Test.YtlflgmdcghfngaaGreatDoorP03
set_option linter.defProp false
set_option maxRecDepth 100000
set_option maxHeartbeats 4000000
namespace Go.Proofs.YtlflgmdcghfngaaGreatDoor
open Hs
open _root_.Go.Proofs.Tryz
open Instr(typeAssert)
open Go.RowKit
def LM(w:aG)(a q:Nat)(g d h:Option Addr)(c1 i b j f:Nat):
 Calls prog 72 #[.agg #[I_ a,.slice g 0 c1,.slice d i b,.slice h j f,I_ q]] w λe c=>e=aX (.pointer none)/\Below w.heap.size w c:=by
 go_in
 go_wp2
 go_ret;exact⟨rfl,(eh _ _).alloc cL _⟩
def GB(w:aG)(a q:Nat)(F L H:Option Addr)(c1 M A I B:Nat)(t:TypeId)(z:aQ)(P:Value->World->Prop)
 (S:Hid (∀W,Below w.heap.size w W->w.heap.size+1<W.heap.size->Calls prog 118 #[aZ W.heap.size,.iface t z] (W.alloc (.cells #[bG,bG,.pointer none] 177)) λe g=>e=aX (.tuple #[])/\∃x n c,g.cell? (aH W.heap.size 1)=some (.slice x n c)/\W.heap.size<g.heap.size/\Below W.heap.size W g/\
   ∀N,Fr (w.heap.size+1) g N->N.heap[g.heap.size]?=some (.cells #[.string (bs []),.slice x n c] 130 (0,0))->P (.agg #[aZ g.heap.size,I_ 0,I_ 0,.pointer none,bG,bG]) N)):
 Calls prog 84 #[.agg #[I_ a,.slice F 0 c1,.slice L M A,.slice H I B,I_ q],.iface t z] w λe g=>∃v,e=aX v/\P v g:=by
 have Q:=aB λW=>LM W a q F L H c1 M A I B
 go_in
 go_wp2_with fail;refine(Q _).mono ?_;rintro e D ⟨rfl,E⟩;have C:Below w.heap.size w D:=(((eh _ w).alloc cL _).alloc s_ _).trans (E.mono t_)
 have s:D.heap[w.heap.size]?=some (.cells #[I_ a,.slice F 0 c1,.slice L M A,.slice H I B,I_ q] 53 (0,0)):=by rw[E.block _ t_];exact eB _ _ s_ _ (aN _ _ rfl _)
 have h:D.heap[w.heap.size+1]?=some (.cells #[.pointer none,I_ 0,I_ 0,.pointer none,bG,bG] 118 (0,0)):=by rw[E.block _ s_];exact aN _ _ s_ _
 have o:=aC h;have r:=aB (S D C o);clear E C Q S;go_wp2_with fail;refine r.mono ?_;rintro e d ⟨rfl,x,n,c,k1,k2,j,O⟩;have f:d.heap[w.heap.size]?=_:=(j.block _ o_).trans s
 have b:d.heap[w.heap.size+1]?=_:=(j.block _ o).trans h;have e1:=aA (i:=1) f rfl;have r0:=aA (i:=0) b rfl;have r1:=aA (i:=1) b rfl;have r2:=aA (i:=2) b rfl;have r3:=aA (i:=3) b rfl;have r4:=aA (i:=4) b rfl;have r5:=aA (i:=5) b rfl;have f0:=aD (i:=0) b;have f1:=aD (i:=1) b;have f2:=aD (i:=2) b;have f3:=aD (i:=3) b;have f4:=aD (i:=4) b;have f5:=aD (i:=5) b;have aa:=aC f;have T:=aC b;have Z:=aB O;have J:=aB b;clear O r s h f b j;go_wp2_with fail;have s5:=aK (aK (aK (aK (aK (aK J (i:=0) (u:=aZ d.heap.size)) (i:=1) (u:=I_ 0)) (i:=2) (u:=I_ 0)) (i:=3) (u:=.pointer none)) (i:=4) (u:=bG)) (i:=5) (u:=bG);have G:Fr (w.heap.size+1) d _:=((((((Fr.refl (w.heap.size+1) d).setCell (p:=(aH (w.heap.size+1) 0)) (d7 rfl) (aZ d.heap.size)).setCell (p:=(aH (w.heap.size+1) 1)) (d7 rfl) (I_ 0)).setCell (p:=(aH (w.heap.size+1) 2)) (d7 rfl) (I_ 0)).setCell (p:=(aH (w.heap.size+1) 3)) (d7 rfl) (.pointer none)).setCell (p:=(aH (w.heap.size+1) 4)) (d7 rfl) (bG)).setCell (p:=(aH (w.heap.size+1) 5)) (d7 rfl) (bG);have K:d.heap.size=(((((((d.setCell (aH (w.heap.size+1) 0) (aZ d.heap.size)).setCell (aH (w.heap.size+1) 1) (I_ 0)).setCell (aH (w.heap.size+1) 2) (I_ 0)).setCell (aH (w.heap.size+1) 3) (.pointer none)).setCell (aH (w.heap.size+1) 4) (bG)).setCell (aH (w.heap.size+1) 5) (bG))).heap.size:=s_
 generalize (((((((d.setCell (aH (w.heap.size+1) 0) (aZ d.heap.size)).setCell (aH (w.heap.size+1) 1) (I_ 0)).setCell (aH (w.heap.size+1) 2) (I_ 0)).setCell (aH (w.heap.size+1) 3) (.pointer none)).setCell (aH (w.heap.size+1) 4) (bG)).setCell (aH (w.heap.size+1) 5) (bG)))=l at*;have k:=eB _ _ t_ (.cells #[aZ d.heap.size,I_ 0,I_ 0,.pointer none,bG,bG] 118) (eB l (w.heap.size+1) o_ (.cells #[.string ⟨#[]⟩,.slice x n c] 130) s5)
 have U:((l.alloc (.cells #[.string ⟨#[]⟩,.slice x n c] 130)).alloc (.cells #[aZ d.heap.size,I_ 0,I_ 0,.pointer none,bG,bG] 118)).heap[d.heap.size]?=some (.cells #[.string (bs []),.slice x n c] 130 (0,0)):=eB _ _ t_ _ (aN _ _ K _)
 have y:=(G.trans (Fr.below ((eh l.heap.size l).alloc cL (.cells #[.string ⟨#[]⟩,.slice x n c] 130)))).trans (Fr.below ((eh _ (l.alloc (.cells #[.string ⟨#[]⟩,.slice x n c] 130))).alloc cL (.cells #[aZ d.heap.size,I_ 0,I_ 0,.pointer none,bG,bG] 118)));generalize ((l.alloc (.cells #[.string ⟨#[]⟩,.slice x n c] 130)).alloc (.cells #[aZ d.heap.size,I_ 0,I_ 0,.pointer none,bG,bG] 118))=m at*;have V:=aA (i:=0) k rfl;have c1:=aA (i:=1) k rfl;have A:=aA (i:=2) k rfl;have B:=aA (i:=3) k rfl;have X:=aA (i:=4) k rfl;have Y:=aA (i:=5) k rfl;exact bodyPost_ret (v:=.agg #[aZ d.heap.size,I_ 0,I_ 0,.pointer none,bG,bG]) (by simp[results,results84,go_sem,V,c1,A,B,X,Y]) rfl ⟨_,rfl,Z _ y U⟩
section
variable(v:aQ)(w:aG)
def mF:(typeAssert (.iface 183 v) 136 183 true).run prog w=.ok (.tuple #[v,.bool true]) w:=k_
def QS:(typeAssert (.iface 183 v) 136 185 true).run prog w=.ok (.tuple #[.bool false,.bool false]) w:=k_
def oB:(typeAssert (.iface 183 v) 136 187 true).run prog w=.ok (.tuple #[.string ⟨#[]⟩,.bool false]) w:=k_
def jT:(typeAssert (.iface 183 v) 136 188 true).run prog w=.ok (.tuple #[bG,.bool false]) w:=k_
def lE:(typeAssert (.iface 185 v) 136 183 true).run prog w=.ok (.tuple #[I_ 0,.bool false]) w:=k_
def wJ:(typeAssert (.iface 185 v) 136 185 true).run prog w=.ok (.tuple #[v,.bool true]) w:=k_
def lD:(typeAssert (.iface 185 v) 136 187 true).run prog w=.ok (.tuple #[.string ⟨#[]⟩,.bool false]) w:=k_
def iJ:(typeAssert (.iface 185 v) 136 188 true).run prog w=.ok (.tuple #[bG,.bool false]) w:=k_
def mE:(typeAssert (.iface 187 v) 136 183 true).run prog w=.ok (.tuple #[I_ 0,.bool false]) w:=k_
def AA:(typeAssert (.iface 187 v) 136 185 true).run prog w=.ok (.tuple #[.bool false,.bool false]) w:=k_
def kX:(typeAssert (.iface 187 v) 136 187 true).run prog w=.ok (.tuple #[v,.bool true]) w:=k_
def lB:(typeAssert (.iface 187 v) 136 188 true).run prog w=.ok (.tuple #[bG,.bool false]) w:=k_
def lC:(typeAssert (.iface 188 v) 136 183 true).run prog w=.ok (.tuple #[I_ 0,.bool false]) w:=k_
def wI:(typeAssert (.iface 188 v) 136 185 true).run prog w=.ok (.tuple #[.bool false,.bool false]) w:=k_
def mX:(typeAssert (.iface 188 v) 136 187 true).run prog w=.ok (.tuple #[.string ⟨#[]⟩,.bool false]) w:=k_
def iI:(typeAssert (.iface 188 v) 136 188 true).run prog w=.ok (.tuple #[v,.bool true]) w:=k_
end
def oM(n b0 b1 b2 b3:Nat):Nat:=
 if b0<128 then 1
 else if 194<=b0/\b0<=223 then (if 1<n/\128<=b1/\b1<=191 then 2 else 0)
 else if 224<=b0/\b0<=239 then
  (if (1<n/\(if b0=224 then 160 else 128)<=b1/\b1<=(if b0=237 then 159 else 191))/\(2<n/\128<=b2/\b2<=191) then 3 else 0)
 else if 240<=b0/\b0<=244 then
  (if ((1<n/\(if b0=240 then 144 else 128)<=b1/\b1<=(if b0=244 then 143 else 191))/\(2<n/\128<=b2/\b2<=191))/\(3<n/\128<=b3/\b3<=191) then 4 else 0)
 else 0
def aQ_(n a b d c:Nat)(o:a<256)(p:b<256)(m:d<256)(q:c<256):
 (oM n a b d c=0->Lib.decodeN n a b d c=(65533,1))/\(oM n a b d c≠0->(Lib.decodeN n a b d c).2=oM n a b d c/\¬((Lib.decodeN n a b d c).1=65533/\oM n a b d c=1)/\((Lib.decodeN n a b d c).1=10↔a=10)):=by
 have i:b/64=2↔128<=b/\b<=191:=o_
 have f:d/64=2↔128<=d/\d<=191:=o_
 have g:c/64=2↔128<=c/\c<=191:=o_
 have k:a/32=6↔192<=a/\a<=223:=o_
 have l:a/16=14↔224<=a/\a<=239:=o_
 have j:a/8=30↔240<=a/\a<=247:=o_
 unfold oM Lib.decodeN;simp only[i,f,g,k,l,j];by_cases e:a<128
 ·simp only[if_pos e];exact⟨λh=>absurd h o_,λ_=>⟨trivial,o_,trivial⟩⟩
 ·simp only[if_neg e];repeat' split
  all_goals first
   |(refine⟨λ_=>rfl,λh=>absurd rfl h⟩)
   |(refine⟨λh=>absurd h o_,λ_=>⟨rfl,?_,?_⟩⟩<;>(simp only;omega))
   |(exfalso;omega)
def qB(s:ByteArray)(i:Nat)(h:i<s.size):s.get! i=s[i]:=by
 show s.data[i]! =s.data[i]
 rw[getElem!_pos s.data i (by simpa using h)]
def b3_(s:ByteArray)(i lo hi:Nat):dN s.data.toList i lo hi=decide (i<s.size/\lo<=(s.get! i).toNat/\(s.get! i).toNat<=hi):=by
 unfold dN;by_cases h:i<s.size
 ·have e:s.data.toList[i]?=some s[i]:=by simp[h];rfl
  rw[e,qB s i h];simp[h]
 ·have e:s.data.toList[i]?=none:=gp (by simpa using (by omega:s.size<=i))
  rw[e];simp[h]
def ci_(s:ByteArray)(h:0<s.size):bK s.data.toList=oM s.size (s.get! 0).toNat (s.get! 1).toNat (s.get! 2).toNat (s.get! 3).toNat:=by
 unfold bK oM;have e:s.data.toList[0]?=some s[0]:=by simp[h];rfl
 rw[e,<-qB s 0 h];simp only[b3_,fy,decide_eq_true_eq]
end Go.Proofs.YtlflgmdcghfngaaGreatDoor
