/- For every Int n: a program that sums the numbers up to n modulo 40 by a while, and one that sums those up to n modulo 15 by calls within calls, print those sums, and their runs have as many moments as they must (the law Gauss is true, and its argument reads as before); condition: the listed package-level variables hold what the text of the program lays (tied). -/
import Derived.Test.YtblbkfdhjfppkaaGreatDoorB12
import Derived.Test.YtblbkfdhjfppkaaGreatDoorOwnF
import Derived.Test.YtblbkfdhjfppkaaGreatDoorOwnGaG
import Derived.Test.YtblbkfdhjfppkaaGreatDoorOwnGaH
set_option maxRecDepth 100000
set_option maxHeartbeats 4000000
namespace Go.Proofs.YtblbkfdhjfppkaaGreatDoor
open Go.ChangeShapes Go.WideShapes Go.ChangeAt Go.RowKit Go.Lib
theorem own:ownKnob Tryz.prog.godebug=none:=by kernel_rfl
theorem YQ{n:Int}(h:(Lit.int .i64 n).wf=true): -9223372036854775808≤n∧n≤9223372036854775807:=by
 simp[Lit.wf] at h;exact h
theorem lifted(os:Os)(started:os.Started)(H:Type)(enc:TypeId × Value→H):
 ReturnsInHanded {} Tryz.checked os 12 .any (fun w args=>(Rows.gaussSpec.pre enc Tryz.prog Tryz.f12 [] false w args∧laidMetH Tryz.prog Rows.gaussRow.laid w)∧sizedMet enc Tryz.prog Tryz.f12 (OpenSpec.ofChange Rows.gaussSpec) false w args)
  (Rows.gaussSpec.post enc Tryz.prog Tryz.f12 false true false false):=by
 refine returnsInHanded_of_change_and (C:=Tryz.checked) (X:=fun w _=>laidMetH Tryz.prog Rows.gaussRow.laid w) (fun _ _ _ hh h=>h.of_heap hh) own started (by kernel_rfl) Tryz.func12
  (ChangeSpec.witness_shaped (enc:=enc) (C:=Tryz.checked) (os:=os) (X:=fun w _=>laidMetH Tryz.prog Rows.gaussRow.laid w) false (World.laidAll Tryz.prog os Rows.gaussRow.laid) #[.int .i64 0] 8 (World.laidAll_os _ _ _)
    (World.shaped_of_ZipB (by kernel_rfl) (by kernel_rfl)) (by kernel_rfl) (by kernel_rfl) (by kernel_rfl)
    (by rw[MakeChecks.laidMetH_plain _ _ _ (by kernel_rfl)];exact laidMet_laidAll _ (by kernel_rfl) (by kernel_rfl))) ?_
 intro W base args ds gs before hval0 hW _ _ hL _;have hval:∀(j:Nat) t v,Tryz.f12.params[j]?=some t→args[j]?=some v→Value.okWide Tryz.prog W .any base t v:=hval0;have hW':=hW;obtain⟨p,q,hA0,hV,rfl,_,_⟩:=hW;have hA:DataW.TrodAll enc Tryz.prog W 0 (fun _=>true) true Tryz.f12.params.toList args.toList ds p:=hA0
 rw[Tryz.params12] at hA hval;obtain⟨v0,d0,rfl,rfl,h0⟩:=trodAll_one hA;obtain⟨rfl,rfl⟩:=trodVars_none hV;obtain⟨x,rfl,rfl,rfl,wx⟩:=open_int Tryz.underlying3 (hval 0 3 v0 rfl rfl) h0;simp only[List.append_nil] at hW';rw[MakeChecks.laidMetH_plain _ _ _ (by kernel_rfl)] at hL
 have hT:gR W:=hL;refine(XE x (YQ wx).1 (YQ wx).2 W hT.all hT.pow hT.big).mono fun e W' ⟨he,hb⟩=>?_
 subst he;exact⟨_,rfl,_,_,_,[],[],[],hW',trodAll_mk1 (shut_bool Tryz.underlying4 _),trodAll_mk1 (shut_int Tryz.underlying3 wx),rfl,hb.frame _,fun h=>by cases h⟩
theorem MZ:joinedFacts Tryz.prog 12 Tryz.f12 Rows.gaussSpec Rows.gaussRow=true:=by
 unfold joinedFacts;simp only[Bool.and_eq_true];repeat' apply And.intro
 all_goals first
  |with_reducible exact N4
  |with_reducible exact N3
  |with_reducible exact E4
  |with_reducible exact E5
  |with_reducible exact RR
  |with_reducible exact C8
  |with_reducible exact P7
  |with_reducible exact C9
  |with_reducible exact D3
  |with_reducible exact L7
  |kernel_rfl
theorem MY:Rows.GaussSaid:=
 OpenClaim.holds_of_wide 12 Tryz.f12 rfl rfl rfl rfl rfl rfl rfl ⟨rfl,rfl,rfl,rfl,rfl⟩ rfl rfl rfl rfl rfl (by kernel_rfl) Tryz.func12 MZ
  (of_decide_eq_true (by kernel_rfl)) (by unfold Func.isWrapper;first|(rw[if_pos (by decide+kernel)];kernel_rfl)|(rw[if_neg (by decide+kernel)];exact⟨rfl,rfl⟩))
  (fun os started H enc _=>lifted os started H enc)
theorem gaussCard_holds:Rows.GaussCardSaid:=
 Claim7.holds_tied_plain_at .later [] [.data,.data,.data,.data,.sentinel,.sentinel,.data,.pinned] true _ true MY (fun _ h=>by cases h) (by kernel_rfl) (fun _ h=>by cases h) gauss_row_tie rfl ⟨rfl,rfl⟩ (by kernel_rfl) rfl
  (fun f fn hf hfn=>by
    obtain rfl:f=12:=Option.some.inj (L9.symm.trans hf) |>.symm
    obtain rfl:fn=Tryz.f12:=(Option.some.inj (Tryz.func12.symm.trans hfn)).symm
    exact⟨D0,fun j t ht=>by
     rw[Tryz.params12] at ht;have hm:t∈[3]:=by simpa using Array.mem_of_getElem? ht
     have hall:([3].all fun u=> !Tryz.prog.wantsStandIn u)=true:=by kernel_rfl
     exact(show Tryz.prog.wantsStandIn t=false by simpa using List.all_eq_true.1 hall t hm)⟩)
  L8
#print axioms gaussCard_holds
end Go.Proofs.YtblbkfdhjfppkaaGreatDoor
