/- For every source and every tape: from moment to moment of the run outputs grow, frames below stay, one call at most is begun; Back and Step lead to and fro; the last moment alone has a stop; variables are told in order (the law Stacks is true, and its arguments read as before); condition: the listed package-level variables hold what the text of the program lays (tied). -/
import Derived.Test.YtblbkfdhjfppkaaGreatDoorB10
import Derived.Test.YtblbkfdhjfppkaaGreatDoorP26
import Derived.Test.YtblbkfdhjfppkaaGreatDoorOwnSkH
import Derived.Test.YtblbkfdhjfppkaaGreatDoorOwnSkG
import Derived.Test.YtblbkfdhjfppkaaGreatDoorOwnF
set_option linter.defProp false
set_option maxRecDepth 100000
set_option maxHeartbeats 4000000
namespace Go.Proofs.YtblbkfdhjfppkaaGreatDoor
open _root_.Go.Proofs.Tryz
open Go.ChangeShapes Go.WideShapes Go.ChangeAt Go.RowKit Go.Lib
open Go.ChangeMaps (open_string shut_string)
def own:ownKnob prog.godebug=none:=by kernel_rfl
def l8{n:Int}(h:(Lit.int .i64 n).wf=true): -9223372036854775808<=n/\n<=9223372036854775807:=by
 simp[Lit.wf] at h;exact h
def lifted(os:Os)(l:os.Started)(H:Type)(enc:TypeId × Value->H):
 ReturnsInHanded {} checked os 10 .any (fun w d=>(Rows.stacksSpec.pre enc prog Tryz.f10 [] false w d/\laidMetH prog Rows.stacksRow.laid w)/\sizedMet enc prog Tryz.f10 (OpenSpec.ofChange Rows.stacksSpec) false w d)
  (Rows.stacksSpec.post enc prog Tryz.f10 false true false false):=by
 refine returnsInHanded_of_change_and (C:=checked) (X:=fun w _=>laidMetH prog Rows.stacksRow.laid w) (fun _ _ _ hh h=>h.of_heap hh) own l (by kernel_rfl) func10
  (ChangeSpec.witness_shaped (enc:=enc) (C:=checked) (os:=os) (X:=fun w _=>laidMetH prog Rows.stacksRow.laid w) false (World.laidAll prog os Rows.stacksRow.laid) #[.string ⟨#[]⟩,.slice none 0 0] 8 (World.laidAll_os _ _ _)
    (World.shaped_of_ZipB (by kernel_rfl) (by kernel_rfl)) (by kernel_rfl) (by kernel_rfl) (by kernel_rfl)
    (by rw[MakeChecks.laidMetH_plain _ _ _ (by kernel_rfl)];exact laidMet_laidAll _ (by kernel_rfl) (by kernel_rfl))) ?_
 intro W E d ds gs K s hW _ M hL _;have m:∀(j:Nat) t v,Tryz.f10.params[j]?=some t->d[j]?=some v->Value.okWide prog W .any E t v:=s;have r:=hW;obtain⟨p,q,Q,hV,rfl,_,_⟩:=hW;have hA:DataW.TrodAll enc prog W 0 (fun _=>true) true Tryz.f10.params.toList d.toList ds p:=Q
 rw[params10] at hA m M;obtain⟨v0,v1,d0,d1,p0,p1,rfl,rfl,rfl,h0,h1⟩:=trodAll_two hA;obtain⟨rfl,rfl⟩:=trodVars_none hV;obtain⟨x,rfl,rfl,rfl,Y⟩:=open_string underlying9 (m 0 9 v0 rfl rfl) h0;obtain⟨y,n,c,rfl⟩:=okWide_slice underlying31 (m 1 31 v1 rfl rfl);obtain⟨fuel,hf⟩:=h1;simp only[bY_] at r M;rw[MakeChecks.laidMetH_plain _ _ _ (by kernel_rfl)] at hL
 have u:iB W:=hL;have Z:x=bs x.data.toList:=rfl
 have D:x.data.toList.length<=140737488355328:=by
  have:=sized_string M (j:=0) (t:=9) (bytes:=x.data.toList) rfl rfl;have h2:=reachBytes_lt;omega
 have I:prog.cellsOf 3=1:=by kernel_rfl
 have O:checked.prog.bytesOf 3=8:=by kernel_rfl
 rcases open_ints underlying31 underlying3 I hf with ⟨B,e2⟩|⟨a,aa,ab,k,B,_,e3,e4,e5,e6,P,e8⟩
 ·simp[Value.cells] at B;obtain⟨rfl,rfl,rfl⟩:=B;cases e2;rw[Z];refine(BN W x.data.toList none 0 [] u.all u.pow u.big D (by simp) (by simp) (fun h=>by simp at h)).mono fun e W' ⟨T,J⟩=>?_
  subst T;exact⟨_,rfl,_,_,_,[],[],[],r,trodAll_mk1 (shut_bool underlying4 _),trodAll_mk2 (shut_string underlying9 Y) (shut_slice_nil underlying31),rfl,J.frame _,fun h=>by cases h⟩
 ·simp[Value.cells] at B;obtain⟨rfl,rfl,rfl⟩:=B;cases e6;have S:k.length=c:=by simpa using e5
  have g:(k.take n).length=n:=by rw[bc_];omega
  have A:=sized_slice M (j:=1) (t:=31) (e:=3) rfl rfl underlying31;rw[O] at A;simp only[lits,bR_,bc_,bf_] at A;have ac:=reachBytes_lt
  have f:∀i,i<k.length->a.block<W.heap.size:=fun i L=>by
   rcases a6_ a.block W.heap.size with h|h
   ·exact h
   ·have h7:=P i L;simp[World.cell?,block_add,bj_ h] at h7
  have N:k.length=if (fun b=>decide (b<W.heap.size)) a.block then c else n:=by
   by_cases U:a.block<W.heap.size
   ·simp[U];exact S
   ·have:k.length=0:=by
     rcases bS_ k.length with h|h
     ·exact h
     ·exact absurd (f 0 h) U
    simp[U];omega
  rw[Z];have G:=BN W x.data.toList (some a) c (k.take n) u.all u.pow u.big D (by rw[g];omega) (fun z o=>l8 (e8 z (bJ_ o))) (fun h=>⟨a,rfl,f 0 (by rw[g] at h;omega),fun j v F=>?_⟩)
  ·rw[g] at G;refine G.mono fun e W' ⟨T,J⟩=>?_
   subst T;have V:DataW.Trod enc prog W' 0 (fun b=>decide (b<W.heap.size)) true 31 (.slice (some a) n c) (.slice (lits .i64 (k.take n)) (lits .i64 (k.drop n))) (MemPlace.row a k.length):=⟨2,shut_ints 0 underlying31 underlying3 I (a9_ _) e3 e4 N (fun i L=>by rw[J.cell (p:=a.add i) (by rw[block_add];exact f i L)];exact P i L) e8⟩
   exact⟨_,rfl,_,_,_,_,_,_,r,trodAll_mk1 (shut_bool underlying4 _),trodAll_mk2 (shut_string underlying9 Y) V,rfl,J.frame _,fun h=>by cases h⟩
  ·rw[bw_] at F;cases o:(k.take n)[j]? with
   |none=>rw[o] at F;cases F
   |some z=>
    rw[o] at F;cases F
    have hj:j<k.length:=by
     have:=(aZ_.1 o).1;rw[g] at this;omega
    rw[P j hj];congr 2
    rw[aU_] at o;split at o
    ·rw[List.getD,o];rfl
    ·cases o
def JX:joinedFacts prog 10 Tryz.f10 Rows.stacksSpec Rows.stacksRow=true:=by
 unfold joinedFacts;simp only[aX_];repeat' apply aW_
 all_goals first
  |with_reducible exact b9
  |with_reducible exact b8
  |with_reducible exact P3
  |with_reducible exact P4
  |with_reducible exact UM
  |with_reducible exact N2
  |with_reducible exact m8
  |with_reducible exact N3
  |with_reducible exact N5
  |with_reducible exact X4
  |kernel_rfl
def JW:Rows.StacksSaid:=
 OpenClaim.holds_of_wide 10 Tryz.f10 rfl rfl rfl rfl rfl rfl rfl ⟨rfl,rfl,rfl,rfl,rfl⟩ rfl rfl rfl rfl rfl (by kernel_rfl) func10 JX
  (of_decide_eq_true (by kernel_rfl)) (by unfold Func.isWrapper;first|(rw[if_pos (by decide+kernel)];kernel_rfl)|(rw[if_neg (by decide+kernel)];exact⟨rfl,rfl⟩))
  (fun c a H b _=>lifted c a H b)
theorem stacksCard_holds:Rows.StacksCardSaid:=
 Claim7.holds_tied_plain_at .later [] [.data,.data,.data,.data,.sentinel,.sentinel,.data,.pinned] true _ true JW (fun _ h=>by cases h) (by kernel_rfl) (fun _ h=>by cases h) stacks_row_tie rfl ⟨rfl,rfl⟩ (by kernel_rfl) rfl
  (fun f g e b=>by
    obtain rfl:f=10:=Option.some.inj (X6.symm.trans e) |>.symm
    obtain rfl:g=Tryz.f10:=(Option.some.inj (func10.symm.trans b)).symm
    exact⟨N4,fun j t c=>by
     rw[params10] at c;have d:t∈[9,31]:=by simpa using Array.mem_of_getElem? c
     have a:([9,31].all fun u=> !prog.wantsStandIn u)=true:=by kernel_rfl
     exact(show prog.wantsStandIn t=false by simpa using List.all_eq_true.1 a t d)⟩)
  X5
#print axioms stacksCard_holds
end Go.Proofs.YtblbkfdhjfppkaaGreatDoor
