/- Stacks: a session begins: the walk. -/
import Derived.Test.YtlflgmdcghfngaaGreatDoorB07
import Derived.Test.YtlflgmdcghfngaaGreatDoorP03
set_option linter.defProp false
set_option maxRecDepth 100000
set_option maxHeartbeats 4000000
namespace Go.Proofs.YtlflgmdcghfngaaGreatDoor
open _root_.Go.Proofs.Tryz
open Go.RowKit
def aF_:(prog.info? 3).map (λi=>(i.zero,i.size,i.bytes))=some (some (I_ 0),1,8):=k_
def C5(w:aG)(x:ByteArray)(tx:Option Addr)(c:Nat)(cs:List Value)(hn:cs.length<=17592186044416)(h1:∀v∈cs,v.oneCell'=true)(A:World->Prop)(S:Option Addr->Nat->Nat->World->Prop)(R:Option Addr->World->Prop)
 (O:Hid (Calls prog 10 #[] w λe r=>e=aX (.bool true)/\A r))
 (Y:Hid (∀W,A W->Below w.heap.size w W/\(0<cs.length->∃d,tx=some d/\d.block<w.heap.size/\∀j v,cs[j]?=some v->w.cell? (d.add j)=some v)))
 (U:Hid (∀W V g,A W->Below W.heap.size W V->V.heap[g]?=some (.cells cs.toArray 3 (0,0))->W.heap.size<=g->Calls prog 11 #[.string x,.slice (some (aH g 0)) cs.length cs.length] V λe r=>∃(p:Option Addr) (k l:Nat),e=aX (.tuple #[.pointer p,I_ k,I_ l])/\S p k l r))
 (Q:Hid (∀(p:Option Addr) (k l:Nat) W,S p k l W->(p=none↔k≠0)/\Calls prog 12 #[.string x] W λe r=>e=aX (.tuple #[I_ k,I_ l])/\R p r)):
 Calls prog 4 #[.string x,.slice tx cs.length c] w λe r=>∃p,e=aX (.tuple #[.pointer p,.bool true])/\R p r:=by
 go_in
 go_wp2_with fail;refine O.mono ?_;rintro e b ⟨rfl,D⟩;have T:=aB D;clear D O
 have E:(Instr.makeSlice 22 (I_ (cs.length:Int)) (I_ (cs.length:Int))).run prog b=.ok (.slice (some (aH b.heap.size 0)) cs.length cs.length) (b.alloc (.cells (madeCells #[I_ 0] cs.length) 3)):=by
  obtain⟨i0,hi,I,J,K⟩:=info_parts aF_;have:=run_make (P:=prog) b 22 3 i0 _ underlying22 hi I .i64 .i64 cs.length cs.length o_ (Int.le_refl _) (by rw[K];omega) o_
  rw[J,jo] at this;exact this
 obtain⟨a,m,u⟩:∃a:List Value,madeCells #[Value.int .i64 0] cs.length=a.toArray/\a.length=cs.length:=⟨(madeCells #[Value.int .i64 0] cs.length).toList,s_,by simp[size_madeCells]⟩
 rw[m] at E;obtain⟨t,o⟩:=Y _ T;have s:Below b.heap.size b (b.alloc (.cells a.toArray 3)):=(eh _ _).alloc cL _;have h:(b.alloc (.cells a.toArray 3)).heap[b.heap.size]?=some (.cells a.toArray 3 (0,0)):=aN _ _ rfl _
 have i:0<cs.length->(some ⟨b.heap.size,0,none⟩:Option Addr)=some (aH b.heap.size 0)/\∃d,tx=some d/\∀j v,cs[j]?=some v->(b.alloc (.cells a.toArray 3)).cell? (d.add j)=some v:=λhp=>by
  obtain⟨d,q1,q2,q3⟩:=o hp;refine⟨rfl,d,q1,λj v hv=>?_⟩
  have y:(d.add j).block=d.block:=by unfold Addr.add;split<;>rfl
  rw[World.cell?_of_block (w:=b) (ek _ _ _ (by rw[y];have:=t.size;omega)),World.cell?_of_block (w:=w) (t.block _ (by rw[y];exact q2))]
  exact q3 j v hv
 have n:(prog.info? 3).map (·.size)=some 1:=k_
 obtain⟨H,Z,z,F⟩:∃H:aG,(Builtin.copy_ #[22,22] 3 #[.slice (some (aH b.heap.size 0)) cs.length cs.length,.slice tx cs.length c]).run prog (b.alloc (.cells a.toArray 3))=.ok (goInt cs.length) H/\H.heap[b.heap.size]?=some (.cells cs.toArray 3 (0,0))/\Below b.heap.size b H:=by
  by_cases h0:cs.length=0
  ·obtain rfl:cs=[]:=gg h0;obtain rfl:a=[]:=gg u;exact⟨_,run_copy_none (P:=prog) _ 22 22 3 3 _ tx 0 0 0 c underlying22 n rfl,h,s⟩
  ·obtain⟨_,d,rfl,hs⟩:=i o_
   refine⟨_,run_copy_row (P:=prog) (b.alloc (.cells a.toArray 3)) 22 22 3 3 b.heap.size 0 cs.length cs.length d cs.length c a.toArray 3 cs underlying22 n h (Nat.min_self _).symm hs t_ h1,?_,below_setRow s cL _⟩
   have:=setRow_heap (b.alloc (.cells a.toArray 3)) b.heap.size a.toArray (a.take 0++cs++a.drop (0+cs.length)).toArray 3 _ h;simp only[List.take_zero,ij,ge,ic (jl u),jj] at this ⊢
   simpa [ic (jl u)] using this
 clear t o m i s h Y;go_wp2_with fail;have C:=aB (U _ _ _ T F z cL);clear z F E U;go_wp2_with fail;refine C.mono ?_;rintro e w3 ⟨p,k,l,rfl,X⟩;obtain⟨f,G⟩:=Q _ _ _ _ X;have B:=aB G;clear X G Q C;go_wp2_with fail;refine B.mono ?_;rintro e w4 ⟨rfl,N⟩;have L:=aB N;clear N B;by_cases M:k=0
 ·subst M
  obtain⟨q,rfl⟩:∃q,p=some q:=by
   cases p with
   |none=>exact absurd rfl (f.1 rfl)
   |some q=>exact⟨q,rfl⟩
  clear f;go_wp2
  go_ret2
  exact⟨_,rfl,L⟩
 ·obtain rfl:=f.2 M;have e0:((k:Int) != 0)=true:=t_
  clear f;go_wp2
  go_ret2
  exact⟨_,rfl,L⟩
end Go.Proofs.YtlflgmdcghfngaaGreatDoor
