/- For all Ints x and y: the program that puts a list with x in it into a variable, into another list and into a call, and y into one of the copies, prints four lists, each changed in its own place alone (the law Copies is true, and its arguments read as before); condition: the listed package-level variables hold what the text of the program lays (tied). -/
import Derived.Test.YtblbkfdhjfppkaaGreatDoorOwnCpG
import Derived.Test.YtblbkfdhjfppkaaGreatDoorOwnCpH
import Derived.Test.YtblbkfdhjfppkaaGreatDoorOwnF
set_option maxRecDepth 100000
set_option maxHeartbeats 4000000
namespace Go.Proofs.YtblbkfdhjfppkaaGreatDoor
open _root_.Go.Proofs.Tryz(prog)
open Go.ChangeShapes Go.WideShapes Go.ChangeAt Go.RowKit Go.Lib
theorem own:ownKnob prog.godebug=none:=by kernel_rfl
theorem JC{n:Int}(h:(Lit.int .i64 n).wf=true): -9223372036854775808<=n/\n<=9223372036854775807:=by
 simp[Lit.wf] at h;exact h
theorem lifted(os:Os)(started:os.Started)(H:Type)(enc:TypeId × Value->H):
 ReturnsInHanded {} Tryz.checked os 13 .any (fun w args=>(Rows.copiesSpec.pre enc prog Tryz.f13 [] false w args/\laidMetH prog Rows.copiesRow.laid w)/\sizedMet enc prog Tryz.f13 (OpenSpec.ofChange Rows.copiesSpec) false w args)
  (Rows.copiesSpec.post enc prog Tryz.f13 false true false false):=by
 refine returnsInHanded_of_change_and (C:=Tryz.checked) (X:=fun w _=>laidMetH prog Rows.copiesRow.laid w) (fun _ _ _ hh h=>h.of_heap hh) own started (by kernel_rfl) Tryz.func13
  (ChangeSpec.witness_shaped (enc:=enc) (C:=Tryz.checked) (os:=os) (X:=fun w _=>laidMetH prog Rows.copiesRow.laid w) false (World.laidAll prog os Rows.copiesRow.laid) #[.int .i64 0,.int .i64 0] 8 (World.laidAll_os _ _ _)
    (World.shaped_of_ZipB (by kernel_rfl) (by kernel_rfl)) (by kernel_rfl) (by kernel_rfl) (by kernel_rfl)
    (by rw[MakeChecks.laidMetH_plain _ _ _ (by kernel_rfl)];exact laidMet_laidAll _ (by kernel_rfl) (by kernel_rfl))) ?_
 intro W base args ds gs before hval0 hW _ _ hL _;have hval:∀(j:Nat) t v,Tryz.f13.params[j]?=some t->args[j]?=some v->Value.okWide prog W .any base t v:=hval0;have hW':=hW;obtain⟨p,q,hA0,hV,rfl,_,_⟩:=hW;have hA:DataW.TrodAll enc prog W 0 (fun _=>true) true Tryz.f13.params.toList args.toList ds p:=hA0
 rw[Tryz.params13] at hA hval;obtain⟨v0,v1,d0,d1,p0,p1,rfl,rfl,rfl,h0,h1⟩:=trodAll_two hA;obtain⟨rfl,rfl⟩:=trodVars_none hV;obtain⟨x,rfl,rfl,rfl,wx⟩:=open_int Tryz.underlying3 (hval 0 3 v0 rfl rfl) h0;obtain⟨y,rfl,rfl,rfl,wy⟩:=open_int Tryz.underlying3 (hval 1 3 v1 rfl rfl) h1;simp only[List.append_nil] at hW';rw[MakeChecks.laidMetH_plain _ _ _ (by kernel_rfl)] at hL
 have hT:iE W:=hL;refine(UX x y (JC wx).1 (JC wx).2 (JC wy).1 (JC wy).2 W hT.all hT.pow hT.big).mono fun e W' ⟨he,hb⟩=>?_
 subst he;exact⟨_,rfl,_,_,_,[],[],[],hW',trodAll_mk1 (shut_bool Tryz.underlying4 _),trodAll_mk2 (shut_int Tryz.underlying3 wx) (shut_int Tryz.underlying3 wy),rfl,hb.frame _,fun h=>by cases h⟩
theorem LT:joinedFacts prog 13 Tryz.f13 Rows.copiesSpec Rows.copiesRow=true:=by
 unfold joinedFacts;simp only[y6];repeat' apply And.intro
 all_goals first
  |with_reducible exact W4
  |with_reducible exact V9
  |with_reducible exact L7
  |with_reducible exact L8
  |with_reducible exact SW
  |with_reducible exact G5
  |with_reducible exact Y4
  |with_reducible exact G6
  |with_reducible exact G8
  |with_reducible exact P6
  |kernel_rfl
theorem LS:Rows.CopiesSaid:=
 OpenClaim.holds_of_wide 13 Tryz.f13 rfl rfl rfl rfl rfl rfl rfl ⟨rfl,rfl,rfl,rfl,rfl⟩ rfl rfl rfl rfl rfl (by kernel_rfl) Tryz.func13 LT
  (of_decide_eq_true (by kernel_rfl)) (by unfold Func.isWrapper;first|(rw[if_pos (by decide+kernel)];kernel_rfl)|(rw[if_neg (by decide+kernel)];exact⟨rfl,rfl⟩))
  (fun os started H enc _=>lifted os started H enc)
theorem copiesCard_holds:Rows.CopiesCardSaid:=
 Claim7.holds_tied_plain_at .later [] [.data,.data,.data,.data,.sentinel,.sentinel,.data,.pinned] true _ true LS (fun _ h=>by cases h) (by kernel_rfl) (fun _ h=>by cases h) copies_row_tie rfl ⟨rfl,rfl⟩ (by kernel_rfl) rfl
  (fun f fn hf hfn=>by
    obtain rfl:f=13:=Option.some.inj (P8.symm.trans hf) |>.symm
    obtain rfl:fn=Tryz.f13:=(Option.some.inj (Tryz.func13.symm.trans hfn)).symm
    exact⟨G7,fun j t ht=>by
     rw[Tryz.params13] at ht;have hm:t∈[3,3]:=by simpa using Array.mem_of_getElem? ht
     have hall:([3,3].all fun u=> !prog.wantsStandIn u)=true:=by kernel_rfl
     exact(show prog.wantsStandIn t=false by simpa using List.all_eq_true.1 hall t hm)⟩)
  P7
#print axioms copiesCard_holds
end Go.Proofs.YtblbkfdhjfppkaaGreatDoor
