/- For every source and every tape: from moment to moment of the run outputs grow, frames below stay, one call at most is begun; Back and Step lead to and fro; the last moment alone has a stop; variables are told in order (the law Stacks is true, and its arguments read as before); condition: the listed package-level variables hold what the text of the program lays (tied). -/
import Derived.Test.YtblbkfdhjfppkaaGreatDoorB10
import Derived.Test.YtblbkfdhjfppkaaGreatDoorP26
import Derived.Test.YtblbkfdhjfppkaaGreatDoorOwnSkH
import Derived.Test.YtblbkfdhjfppkaaGreatDoorOwnSkG
import Derived.Test.YtblbkfdhjfppkaaGreatDoorOwnF
set_option linter.defProp false
set_option maxRecDepth 100000
set_option maxHeartbeats 4000000
namespace Go.Proofs.YtblbkfdhjfppkaaGreatDoor
open _root_.Go.Proofs.Tryz(prog)
open Go.ChangeShapes Go.WideShapes Go.ChangeAt Go.RowKit Go.Lib
open Go.ChangeMaps (open_string shut_string)
def own:ownKnob prog.godebug=none:=by kernel_rfl
def l8{n:Int}(h:(Lit.int .i64 n).wf=true): -9223372036854775808<=n/\n<=9223372036854775807:=by
 simp[Lit.wf] at h;exact h
def lifted(os:Os)(m:os.Started)(H:Type)(enc:TypeId × Value->H):
 ReturnsInHanded {} Tryz.checked os 10 .any (fun w d=>(Rows.stacksSpec.pre enc prog Tryz.f10 [] false w d/\laidMetH prog Rows.stacksRow.laid w)/\sizedMet enc prog Tryz.f10 (OpenSpec.ofChange Rows.stacksSpec) false w d)
  (Rows.stacksSpec.post enc prog Tryz.f10 false true false false):=by
 refine returnsInHanded_of_change_and (C:=Tryz.checked) (X:=fun w _=>laidMetH prog Rows.stacksRow.laid w) (fun _ _ _ hh h=>h.of_heap hh) own m (by kernel_rfl) Tryz.func10
  (ChangeSpec.witness_shaped (enc:=enc) (C:=Tryz.checked) (os:=os) (X:=fun w _=>laidMetH prog Rows.stacksRow.laid w) false (World.laidAll prog os Rows.stacksRow.laid) #[.string ⟨#[]⟩,.slice none 0 0] 8 (World.laidAll_os _ _ _)
    (World.shaped_of_ZipB (by kernel_rfl) (by kernel_rfl)) (by kernel_rfl) (by kernel_rfl) (by kernel_rfl)
    (by rw[MakeChecks.laidMetH_plain _ _ _ (by kernel_rfl)];exact laidMet_laidAll _ (by kernel_rfl) (by kernel_rfl))) ?_
 intro W G d ds gs M s hW _ J hL _;have l:∀(j:Nat) t v,Tryz.f10.params[j]?=some t->d[j]?=some v->Value.okWide prog W .any G t v:=s;have r:=hW;obtain⟨p,q,T,hV,rfl,_,_⟩:=hW;have Y:DataW.TrodAll enc prog W 0 (fun _=>true) true Tryz.f10.params.toList d.toList ds p:=T
 rw[Tryz.params10] at Y l J;obtain⟨v0,v1,d0,d1,p0,p1,rfl,rfl,rfl,h0,h1⟩:=trodAll_two Y;obtain⟨rfl,rfl⟩:=trodVars_none hV;obtain⟨x,rfl,rfl,rfl,Z⟩:=open_string Tryz.underlying9 (l 0 9 v0 rfl rfl) h0;obtain⟨y,n,c,rfl⟩:=okWide_slice Tryz.underlying31 (l 1 31 v1 rfl rfl);obtain⟨fuel,hf⟩:=h1;simp only[bY_] at r J;rw[MakeChecks.laidMetH_plain _ _ _ (by kernel_rfl)] at hL
 have u:iB W:=hL;have hx:x=bs x.data.toList:=rfl
 have F:x.data.toList.length<=140737488355328:=by
  have:=sized_string J (j:=0) (t:=9) (bytes:=x.data.toList) rfl rfl;have h2:=reachBytes_lt;omega
 have D:prog.cellsOf 3=1:=by kernel_rfl
 have N:Tryz.checked.prog.bytesOf 3=8:=by kernel_rfl
 rcases open_ints Tryz.underlying31 Tryz.underlying3 D hf with ⟨I,e2⟩|⟨a,ab,aa,k,I,_,e3,e4,e5,e6,U,e8⟩
 ·simp[Value.cells] at I;obtain⟨rfl,rfl,rfl⟩:=I;cases e2;rw[hx];refine(BN W x.data.toList none 0 [] u.all u.pow u.big F (by simp) (by simp) (fun h=>by simp at h)).mono fun e W' ⟨O,L⟩=>?_
  subst O;exact⟨_,rfl,_,_,_,[],[],[],r,trodAll_mk1 (shut_bool Tryz.underlying4 _),trodAll_mk2 (shut_string Tryz.underlying9 Z) (shut_slice_nil Tryz.underlying31),rfl,L.frame _,fun h=>by cases h⟩
 ·simp[Value.cells] at I;obtain⟨rfl,rfl,rfl⟩:=I;cases e6;have Q:k.length=c:=by simpa using e5
  have g:(k.take n).length=n:=by rw[bc_];omega
  have E:=sized_slice J (j:=1) (t:=31) (e:=3) rfl rfl Tryz.underlying31;rw[N] at E;simp only[lits,bR_,bc_,bf_] at E;have ac:=reachBytes_lt
  have f:∀i,i<k.length->a.block<W.heap.size:=fun i K=>by
   rcases a6_ a.block W.heap.size with h|h
   ·exact h
   ·have h7:=U i K;simp[World.cell?,block_add,bj_ h] at h7
  have P:k.length=if (fun b=>decide (b<W.heap.size)) a.block then c else n:=by
   by_cases V:a.block<W.heap.size
   ·simp[V];exact Q
   ·have:k.length=0:=by
     rcases bS_ k.length with h|h
     ·exact h
     ·exact absurd (f 0 h) V
    simp[V];omega
  rw[hx];have A:=BN W x.data.toList (some a) c (k.take n) u.all u.pow u.big F (by rw[g];omega) (fun z o=>l8 (e8 z (bJ_ o))) (fun h=>⟨a,rfl,f 0 (by rw[g] at h;omega),fun j v B=>?_⟩)
  ·rw[g] at A;refine A.mono fun e W' ⟨O,L⟩=>?_
   subst O;have S:DataW.Trod enc prog W' 0 (fun b=>decide (b<W.heap.size)) true 31 (.slice (some a) n c) (.slice (lits .i64 (k.take n)) (lits .i64 (k.drop n))) (MemPlace.row a k.length):=⟨2,shut_ints 0 Tryz.underlying31 Tryz.underlying3 D (a9_ _) e3 e4 P (fun i K=>by rw[L.cell (p:=a.add i) (by rw[block_add];exact f i K)];exact U i K) e8⟩
   exact⟨_,rfl,_,_,_,_,_,_,r,trodAll_mk1 (shut_bool Tryz.underlying4 _),trodAll_mk2 (shut_string Tryz.underlying9 Z) S,rfl,L.frame _,fun h=>by cases h⟩
  ·rw[bw_] at B;cases o:(k.take n)[j]? with
   |none=>rw[o] at B;cases B
   |some z=>
    rw[o] at B;cases B
    have hj:j<k.length:=by
     have:=(aZ_.1 o).1;rw[g] at this;omega
    rw[U j hj];congr 2
    rw[aU_] at o;split at o
    ·rw[List.getD,o];rfl
    ·cases o
def JX:joinedFacts prog 10 Tryz.f10 Rows.stacksSpec Rows.stacksRow=true:=by
 unfold joinedFacts;simp only[aX_];repeat' apply aW_
 all_goals first
  |with_reducible exact b9
  |with_reducible exact b8
  |with_reducible exact P3
  |with_reducible exact P4
  |with_reducible exact UM
  |with_reducible exact N2
  |with_reducible exact m8
  |with_reducible exact N3
  |with_reducible exact N5
  |with_reducible exact X4
  |kernel_rfl
def JW:Rows.StacksSaid:=
 OpenClaim.holds_of_wide 10 Tryz.f10 rfl rfl rfl rfl rfl rfl rfl ⟨rfl,rfl,rfl,rfl,rfl⟩ rfl rfl rfl rfl rfl (by kernel_rfl) Tryz.func10 JX
  (of_decide_eq_true (by kernel_rfl)) (by unfold Func.isWrapper;first|(rw[if_pos (by decide+kernel)];kernel_rfl)|(rw[if_neg (by decide+kernel)];exact⟨rfl,rfl⟩))
  (fun c a H b _=>lifted c a H b)
theorem stacksCard_holds:Rows.StacksCardSaid:=
 Claim7.holds_tied_plain_at .later [] [.data,.data,.data,.data,.sentinel,.sentinel,.data,.pinned] true _ true JW (fun _ h=>by cases h) (by kernel_rfl) (fun _ h=>by cases h) stacks_row_tie rfl ⟨rfl,rfl⟩ (by kernel_rfl) rfl
  (fun f d g b=>by
    obtain rfl:f=10:=Option.some.inj (X6.symm.trans g) |>.symm
    obtain rfl:d=Tryz.f10:=(Option.some.inj (Tryz.func10.symm.trans b)).symm
    exact⟨N4,fun j t c=>by
     rw[Tryz.params10] at c;have e:t∈[9,31]:=by simpa using Array.mem_of_getElem? c
     have a:([9,31].all fun u=> !prog.wantsStandIn u)=true:=by kernel_rfl
     exact(show prog.wantsStandIn t=false by simpa using List.all_eq_true.1 a t e)⟩)
  X5
#print axioms stacksCard_holds
end Go.Proofs.YtblbkfdhjfppkaaGreatDoor
