/- Contracts of the program: a frame for an expression where there is none: the walk. -/
import Derived.Test.YtmjbnmpamlainaaGreatDoorP01
set_option linter.defProp false
set_option maxRecDepth 100000
set_option maxHeartbeats 4000000
namespace Go.Proofs.YtmjbnmpamlainaaGreatDoor
open Hs
open _root_.Go.Proofs.Tryz
open Go.RowKit
def KK(w:aG)(a q:Nat)(g d h:Option Addr)(c1 i b j f:Nat):
 Calls prog 59 #[.agg #[Iv0 a,.slice g 0 c1,.slice d i b,.slice h j f,Iv0 q]] w fun e c=>e=aZ (.pointer none)/\Below w.heap.size w c:=by
 go_in
 go_wp2
 go_ret;exact⟨rfl,(co_ _ _).alloc cL _⟩
def EZ(w:aG)(a q:Nat)(F L H:Option Addr)(c1 M A I B:Nat)(t:TypeId)(z:aQ)(P:Value->World->Prop)
 (S:Hid (∀W,Below w.heap.size w W->w.heap.size+1<W.heap.size->Calls prog 96 #[bH W.heap.size,.iface t z] (W.alloc (.cells #[bF,bF,.pointer none] 167)) fun e g=>e=aZ (.tuple #[])/\∃x n c,g.cell? (aH W.heap.size 1)=some (.slice x n c)/\W.heap.size<g.heap.size/\Below W.heap.size W g/\
   ∀N,Fr (w.heap.size+1) g N->N.heap[g.heap.size]?=some (.cells #[.string (bs []),.slice x n c] 136 (0,0))->P (.agg #[bH g.heap.size,Iv0 0,Iv0 0,.pointer none,bF,bF]) N)):
 Calls prog 60 #[.agg #[Iv0 a,.slice F 0 c1,.slice L M A,.slice H I B,Iv0 q],.iface t z] w fun e g=>∃v,e=aZ v/\P v g:=by
 have Q:=aB fun W=>KK W a q F L H c1 M A I B
 go_in
 go_wp2_with fail;refine(Q _).mono ?_;rintro e D ⟨rfl,E⟩;have C:Below w.heap.size w D:=(((co_ _ w).alloc cL _).alloc (by simp) _).trans (E.mono (by simp;omega))
 have s:D.heap[w.heap.size]?=some (.cells #[Iv0 a,.slice F 0 c1,.slice L M A,.slice H I B,Iv0 q] 49 (0,0)):=by rw[E.block _ (by simp;omega)];exact eA _ _ (by simp) _ (aO _ _ rfl _)
 have h:D.heap[w.heap.size+1]?=some (.cells #[.pointer none,Iv0 0,Iv0 0,.pointer none,bF,bF] 108 (0,0)):=by rw[E.block _ (by simp)];exact aO _ _ (by simp) _
 have o:=aC h;have r:=aB (S D C o);clear E C Q S;go_wp2_with fail;refine r.mono ?_;rintro e d ⟨rfl,x,n,c,k1,k2,j,O⟩;have f:d.heap[w.heap.size]?=_:=(j.block _ (by omega)).trans s
 have b:d.heap[w.heap.size+1]?=_:=(j.block _ o).trans h;have e1:d.cell? (aH w.heap.size 1)=some (.slice F 0 c1):=aA f rfl;have r0:d.cell? (aH (w.heap.size+1) 0)=some (.pointer none):=aA b rfl;have r1:d.cell? (aH (w.heap.size+1) 1)=some (Iv0 0):=aA b rfl;have r2:d.cell? (aH (w.heap.size+1) 2)=some (Iv0 0):=aA b rfl;have r3:d.cell? (aH (w.heap.size+1) 3)=some (.pointer none):=aA b rfl;have r4:d.cell? (aH (w.heap.size+1) 4)=some (bF):=aA b rfl;have r5:d.cell? (aH (w.heap.size+1) 5)=some (bF):=aA b rfl;have f0:=aD (i:=0) b;have f1:=aD (i:=1) b;have f2:=aD (i:=2) b;have f3:=aD (i:=3) b;have f4:=aD (i:=4) b;have f5:=aD (i:=5) b;have aa:=aC f;have T:=aC b;have Z:=aB O;have J:=aB b;clear O r s h f b j;go_wp2_with fail;have s5:=aK (aK (aK (aK (aK (aK J (i:=0) (u:=bH d.heap.size)) (i:=1) (u:=Iv0 0)) (i:=2) (u:=Iv0 0)) (i:=3) (u:=.pointer none)) (i:=4) (u:=bF)) (i:=5) (u:=bF);have G:Fr (w.heap.size+1) d _:=((((((Fr.refl (w.heap.size+1) d).setCell (p:=(aH (w.heap.size+1) 0)) (cl_ rfl) (bH d.heap.size)).setCell (p:=(aH (w.heap.size+1) 1)) (cl_ rfl) (Iv0 0)).setCell (p:=(aH (w.heap.size+1) 2)) (cl_ rfl) (Iv0 0)).setCell (p:=(aH (w.heap.size+1) 3)) (cl_ rfl) (.pointer none)).setCell (p:=(aH (w.heap.size+1) 4)) (cl_ rfl) (bF)).setCell (p:=(aH (w.heap.size+1) 5)) (cl_ rfl) (bF);have K:d.heap.size=(((((((d.setCell (aH (w.heap.size+1) 0) (bH d.heap.size)).setCell (aH (w.heap.size+1) 1) (Iv0 0)).setCell (aH (w.heap.size+1) 2) (Iv0 0)).setCell (aH (w.heap.size+1) 3) (.pointer none)).setCell (aH (w.heap.size+1) 4) (bF)).setCell (aH (w.heap.size+1) 5) (bF))).heap.size:=by simp
 generalize (((((((d.setCell (aH (w.heap.size+1) 0) (bH d.heap.size)).setCell (aH (w.heap.size+1) 1) (Iv0 0)).setCell (aH (w.heap.size+1) 2) (Iv0 0)).setCell (aH (w.heap.size+1) 3) (.pointer none)).setCell (aH (w.heap.size+1) 4) (bF)).setCell (aH (w.heap.size+1) 5) (bF)))=l at*;have k:=eA _ _ (by simp;omega) (.cells #[bH d.heap.size,Iv0 0,Iv0 0,.pointer none,bF,bF] 108) (eA l (w.heap.size+1) (by omega) (.cells #[.string ⟨#[]⟩,.slice x n c] 136) s5)
 have U:((l.alloc (.cells #[.string ⟨#[]⟩,.slice x n c] 136)).alloc (.cells #[bH d.heap.size,Iv0 0,Iv0 0,.pointer none,bF,bF] 108)).heap[d.heap.size]?=some (.cells #[.string (bs []),.slice x n c] 136 (0,0)):=eA _ _ (by simp;omega) _ (aO _ _ K _)
 have y:=(G.trans (Fr.below ((co_ l.heap.size l).alloc cL (.cells #[.string ⟨#[]⟩,.slice x n c] 136)))).trans (Fr.below ((co_ _ (l.alloc (.cells #[.string ⟨#[]⟩,.slice x n c] 136))).alloc cL (.cells #[bH d.heap.size,Iv0 0,Iv0 0,.pointer none,bF,bF] 108)));generalize ((l.alloc (.cells #[.string ⟨#[]⟩,.slice x n c] 136)).alloc (.cells #[bH d.heap.size,Iv0 0,Iv0 0,.pointer none,bF,bF] 108))=m at*;have V:m.cell? (aH (w.heap.size+1) 0)=some (bH d.heap.size):=aA k rfl;have c1:m.cell? (aH (w.heap.size+1) 1)=some (Iv0 0):=aA k rfl;have A:m.cell? (aH (w.heap.size+1) 2)=some (Iv0 0):=aA k rfl;have B:m.cell? (aH (w.heap.size+1) 3)=some (.pointer none):=aA k rfl;have X:m.cell? (aH (w.heap.size+1) 4)=some (bF):=aA k rfl;have Y:m.cell? (aH (w.heap.size+1) 5)=some (bF):=aA k rfl;exact bodyPost_ret (v:=.agg #[bH d.heap.size,Iv0 0,Iv0 0,.pointer none,bF,bF]) (by simp[results,results60,go_sem,V,c1,A,B,X,Y]) rfl ⟨_,rfl,Z _ y U⟩
end Go.Proofs.YtmjbnmpamlainaaGreatDoor
