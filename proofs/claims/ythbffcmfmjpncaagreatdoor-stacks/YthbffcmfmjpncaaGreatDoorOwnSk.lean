/- For every source and every tape: from moment to moment of the run outputs grow, frames below stay, one call at most is begun; Back and Step lead to and fro; the last moment alone has a stop; variables are told in order (the law Stacks is true, and its arguments read as before); condition: the listed package-level variables hold what the text of the program lays (tied). -/
import Derived.Test.YthbffcmfmjpncaaGreatDoorOwnF
import Derived.Test.YthbffcmfmjpncaaGreatDoorOwnSkG
import Derived.Test.YthbffcmfmjpncaaGreatDoorOwnSkH
import Derived.Test.YthbffcmfmjpncaaGreatDoorP19
set_option linter.defProp false
set_option maxRecDepth 100000
set_option maxHeartbeats 4000000
namespace Go.Proofs.YthbffcmfmjpncaaGreatDoor
open _root_.Go.Proofs.Tryz
open Go.ChangeShapes Go.WideShapes Go.ChangeAt Go.RowKit Go.Lib
open Go.ChangeMaps (open_string shut_string)
def own:ownKnob prog.godebug=none:=k_
def aq_{n:Int}(h:(Lit.int .i64 n).wf=true): -9223372036854775808<=n/\n<=9223372036854775807:=by
 simp[Lit.wf] at h;exact h
def lifted(os:Os)(l:os.Started)(H:Type)(enc:TypeId × Value->H):
 ReturnsInHanded {} checked os 4 .any (λw d=>(Rows.stacksSpec.pre enc prog Tryz.f4 [] false w d/\laidMetH prog Rows.stacksRow.laid w)/\sizedMet enc prog Tryz.f4 (OpenSpec.ofChange Rows.stacksSpec) false w d)
  (Rows.stacksSpec.post enc prog Tryz.f4 false true false false):=by
 refine returnsInHanded_of_change_and (C:=checked) (X:=λw _=>laidMetH prog Rows.stacksRow.laid w) (λ_ _ _ hh h=>h.of_heap hh) own l k_ func4
  (ChangeSpec.witness_shaped (enc:=enc) (C:=checked) (os:=os) (X:=λw _=>laidMetH prog Rows.stacksRow.laid w) false (World.laidAll prog os Rows.stacksRow.laid) #[.string ⟨#[]⟩,.slice none 0 0] 8 (World.laidAll_os _ _ _)
    (World.shaped_of_ZipB k_ k_) k_ k_ k_
    (by rw[MakeChecks.laidMetH_plain _ _ _ k_];exact laidMet_laidAll _ k_ k_)) ?_
 intro W E d ds gs K s hW _ M hL _;have m:∀(j:Nat) t v,Tryz.f4.params[j]?=some t->d[j]?=some v->Value.okWide prog W .any E t v:=s;have r:=hW;obtain⟨p,q,Q,hV,rfl,_,_⟩:=hW;have hA:DataW.TrodAll enc prog W 0 (λ_=>true) true Tryz.f4.params.toList d.toList ds p:=Q
 rw[params4] at hA m M;obtain⟨v0,v1,d0,d1,p0,p1,rfl,rfl,rfl,h0,h1⟩:=trodAll_two hA;obtain⟨rfl,rfl⟩:=trodVars_none hV;obtain⟨x,rfl,rfl,rfl,Y⟩:=open_string underlying9 (m 0 9 v0 rfl rfl) h0;obtain⟨y,n,c,rfl⟩:=okWide_slice underlying31 (m 1 31 v1 rfl rfl);obtain⟨fuel,hf⟩:=h1;simp only[jx] at r M;rw[MakeChecks.laidMetH_plain _ _ _ k_] at hL
 have u:iH W:=hL;have Z:x=bs x.data.toList:=rfl
 have D:x.data.toList.length<=140737488355328:=by
  have:=sized_string M (j:=0) (t:=9) (bytes:=x.data.toList) rfl rfl;have h2:=reachBytes_lt;omega
 have I:prog.cellsOf 3=1:=k_
 have O:checked.prog.bytesOf 3=8:=k_
 rcases open_ints underlying31 underlying3 I hf with ⟨B,e2⟩|⟨a,aa,ab,k,B,_,e3,e4,e5,e6,P,e8⟩
 ·simp[Value.cells] at B;obtain⟨rfl,rfl,rfl⟩:=B;cases e2;rw[Z];refine(CL W x.data.toList none 0 [] u.all u.pow u.big D s_ s_ (λh=>by simp at h)).mono λe W' ⟨T,J⟩=>?_
  subst T;exact⟨_,rfl,_,_,_,[],[],[],r,trodAll_mk1 (shut_bool underlying4 _),trodAll_mk2 (shut_string underlying9 Y) (shut_slice_nil underlying31),rfl,J.frame _,λh=>by cases h⟩
 ·simp[Value.cells] at B;obtain⟨rfl,rfl,rfl⟩:=B;cases e6;have S:k.length=c:=by simpa using e5
  have g:(k.take n).length=n:=by rw[gr];omega
  have A:=sized_slice M (j:=1) (t:=31) (e:=3) rfl rfl underlying31;rw[O] at A;simp only[lits,ji,gr,gt] at A;have ac:=reachBytes_lt
  have f:∀i,i<k.length->a.block<W.heap.size:=λi L=>by
   rcases fo a.block W.heap.size with h|h
   ·exact h
   ·have h7:=P i L;simp[World.cell?,block_add,hP h] at h7
  have N:k.length=if (λb=>decide (b<W.heap.size)) a.block then c else n:=by
   by_cases U:a.block<W.heap.size
   ·simp[U];exact S
   ·have:k.length=0:=by
     rcases jo k.length with h|h
     ·exact h
     ·exact absurd (f 0 h) U
    simp[U];omega
  rw[Z];have G:=CL W x.data.toList (some a) c (k.take n) u.all u.pow u.big D (by rw[g];omega) (λz o=>aq_ (e8 z (jq o))) (λh=>⟨a,rfl,f 0 (by rw[g] at h;omega),λj v F=>?_⟩)
  ·rw[g] at G;refine G.mono λe W' ⟨T,J⟩=>?_
   subst T;have V:DataW.Trod enc prog W' 0 (λb=>decide (b<W.heap.size)) true 31 (.slice (some a) n c) (.slice (lits .i64 (k.take n)) (lits .i64 (k.drop n))) (MemPlace.row a k.length):=⟨2,shut_ints 0 underlying31 underlying3 I (fy _) e3 e4 N (λi L=>by rw[J.cell (p:=a.add i) (by rw[block_add];exact f i L)];exact P i L) e8⟩
   exact⟨_,rfl,_,_,_,_,_,_,r,trodAll_mk1 (shut_bool underlying4 _),trodAll_mk2 (shut_string underlying9 Y) V,rfl,J.frame _,λh=>by cases h⟩
  ·rw[iw] at F;cases o:(k.take n)[j]? with
   |none=>rw[o] at F;cases F
   |some z=>
    rw[o] at F;cases F
    have hj:j<k.length:=by
     have:=(gv.1 o).1;rw[g] at this;omega
    rw[P j hj];congr 2
    rw[fu] at o;split at o
    ·rw[List.getD,o];rfl
    ·cases o
def LA:joinedFacts prog 4 Tryz.f4 Rows.stacksSpec Rows.stacksRow=true:=by
 unfold joinedFacts;simp only[gd];repeat' apply fh
 all_goals first
  |with_reducible exact x6
  |with_reducible exact v8
  |with_reducible exact V9
  |with_reducible exact W4
  |with_reducible exact VW
  |with_reducible exact S5
  |with_reducible exact aw_
  |with_reducible exact S6
  |with_reducible exact S8
  |with_reducible exact k9
  |kernel_rfl
def KZ:Rows.StacksSaid:=
 OpenClaim.holds_of_wide 4 Tryz.f4 rfl rfl rfl rfl rfl rfl rfl ⟨rfl,rfl,rfl,rfl,rfl⟩ rfl rfl rfl rfl rfl k_ func4 LA
  (of_decide_eq_true k_) (by unfold Func.isWrapper;first|(rw[if_pos (by decide+kernel)];kernel_rfl)|(rw[if_neg (by decide+kernel)];exact⟨rfl,rfl⟩))
  (λc a H b _=>lifted c a H b)
theorem stacksCard_holds:Rows.StacksCardSaid:=
 Claim7.holds_tied_plain_at .later [] [.data,.data,.data,.data,.sentinel,.sentinel,.data,.pinned] true _ true KZ (λ_ h=>by cases h) k_ (λ_ h=>by cases h) stacks_row_tie rfl ⟨rfl,rfl⟩ k_ rfl
  (λf g e b=>by
    obtain rfl:f=4:=Option.some.inj (l7.symm.trans e) |>.symm
    obtain rfl:g=Tryz.f4:=(Option.some.inj (func4.symm.trans b)).symm
    exact⟨S7,λj t c=>by
     rw[params4] at c;have d:t∈[9,31]:=by simpa using Array.mem_of_getElem? c
     have a:([9,31].all λu=> !prog.wantsStandIn u)=true:=k_
     exact(show prog.wantsStandIn t=false by simpa using List.all_eq_true.1 a t d)⟩)
  l6
#print axioms stacksCard_holds
end Go.Proofs.YthbffcmfmjpncaaGreatDoor
