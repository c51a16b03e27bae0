/- For every Int n: a program that sums the numbers up to n modulo 40 by a while, and one that sums those up to n modulo 15 by calls within calls, print those sums, and their runs have as many moments as they must (the law Gauss is true, and its argument reads as before); condition: the listed package-level variables hold what the text of the program lays (tied). -/
import Derived.Test.YtddnpoiiimjpcaaGreatDoorB08
import Derived.Test.YtddnpoiiimjpcaaGreatDoorP36
import Derived.Test.YtddnpoiiimjpcaaGreatDoorOwnLtF
import Derived.Test.YtddnpoiiimjpcaaGreatDoorOwnGaH
import Derived.Test.YtddnpoiiimjpcaaGreatDoorP37
import Derived.Test.YtddnpoiiimjpcaaGreatDoorOwnGaG
set_option linter.defProp false
set_option maxRecDepth 100000
set_option maxHeartbeats 4000000
namespace Go.Proofs.YtddnpoiiimjpcaaGreatDoor
open _root_.Go.Proofs.Tryz
open Go.ChangeShapes Go.WideShapes Go.ChangeAt Go.RowKit Go.Lib
def own:ownKnob prog.godebug=none:=by kernel_rfl
def ZJ{n:Int}(h:(Lit.int .i64 n).wf=true): -9223372036854775808<=n/\n<=9223372036854775807:=by
 simp[Lit.wf] at h;exact h
def lifted(os:Os)(b:os.Started)(H:Type)(enc:TypeId × Value->H):
 ReturnsInHanded {} checked os 4 .any (fun w a=>(Rows.gaussSpec.pre enc prog Tryz.f4 [] false w a/\laidMetH prog Rows.gaussRow.laid w)/\sizedMet enc prog Tryz.f4 (OpenSpec.ofChange Rows.gaussSpec) false w a)
  (Rows.gaussSpec.post enc prog Tryz.f4 false true false false):=by
 refine returnsInHanded_of_change_and (C:=checked) (X:=fun w _=>laidMetH prog Rows.gaussRow.laid w) (fun _ _ _ z h=>h.of_heap z) own b (by kernel_rfl) func4
  (ChangeSpec.witness_shaped (enc:=enc) (C:=checked) (os:=os) (X:=fun w _=>laidMetH prog Rows.gaussRow.laid w) false (World.laidAll prog os Rows.gaussRow.laid) #[Iv0 0] 8 (World.laidAll_os _ _ _)
    (World.shaped_of_ZipB (by kernel_rfl) (by kernel_rfl)) (by kernel_rfl) (by kernel_rfl) (by kernel_rfl)
    (by rw[MakeChecks.laidMetH_plain _ _ _ (by kernel_rfl)];exact laidMet_laidAll _ (by kernel_rfl) (by kernel_rfl))) ?_
 intro W f a y E i d n _ _ o _;have c:∀(j:Nat) t v,Tryz.f4.params[j]?=some t->a[j]?=some v->Value.okWide prog W .any f t v:=d;have g:=n;obtain⟨p,q,k,D,rfl,_,_⟩:=n;have r:DataW.TrodAll enc prog W 0 (fun _=>true) true Tryz.f4.params.toList a.toList y p:=k
 rw[params4] at r c;obtain⟨B,F,rfl,rfl,s⟩:=trodAll_one r;obtain⟨rfl,rfl⟩:=trodVars_none D;obtain⟨x,rfl,rfl,rfl,m⟩:=open_int underlying3 (c 0 3 B rfl rfl) s;simp only[List.append_nil] at g;rw[MakeChecks.laidMetH_plain _ _ _ (by kernel_rfl)] at o
 have l:iF W:=o;refine(XV x (ZJ m).1 (ZJ m).2 W l.all l.pow l.big).mono fun e G ⟨A,u⟩=>?_
 subst A;exact⟨_,rfl,_,_,_,[],[],[],g,trodAll_mk1 (shut_bool underlying4 _),trodAll_mk1 (shut_int underlying3 m),rfl,u.frame _,fun h=>by cases h⟩
def NP:joinedFacts prog 4 Tryz.f4 Rows.gaussSpec Rows.gaussRow=true:=by
 unfold joinedFacts;simp only[j3];repeat' apply j6
 all_goals first
  |with_reducible exact P6
  |with_reducible exact P5
  |with_reducible exact G6
  |with_reducible exact G7
  |with_reducible exact SJ
  |with_reducible exact F1
  |with_reducible exact U0
  |with_reducible exact F2
  |with_reducible exact F4
  |with_reducible exact N8
  |kernel_rfl
def NO:Rows.GaussSaid:=
 OpenClaim.holds_of_wide 4 Tryz.f4 rfl rfl rfl rfl rfl rfl rfl ⟨rfl,rfl,rfl,rfl,rfl⟩ rfl rfl rfl rfl rfl (by kernel_rfl) func4 NP
  (of_decide_eq_true (by kernel_rfl)) (by unfold Func.isWrapper;first|(rw[if_pos (by decide+kernel)];kernel_rfl)|(rw[if_neg (by decide+kernel)];exact⟨rfl,rfl⟩))
  (fun c a H b _=>lifted c a H b)
theorem gaussCard_holds:Rows.GaussCardSaid:=
 Claim7.holds_tied_plain_at .later [] [.data,.data,.data,.data,.sentinel,.sentinel,.data,.pinned] true _ true NO (fun _ h=>by cases h) (by kernel_rfl) (fun _ h=>by cases h) gauss_row_tie rfl ⟨rfl,rfl⟩ (by kernel_rfl) rfl
  (fun f g e b=>by
    obtain rfl:f=4:=Option.some.inj (O0.symm.trans e) |>.symm
    obtain rfl:g=Tryz.f4:=(Option.some.inj (func4.symm.trans b)).symm
    exact⟨F3,fun j t c=>by
     rw[params4] at c;have d:t∈[3]:=by simpa using Array.mem_of_getElem? c
     have a:([3].all fun u=> !prog.wantsStandIn u)=true:=by kernel_rfl
     exact(show prog.wantsStandIn t=false by simpa using List.all_eq_true.1 a t d)⟩)
  N9
#print axioms gaussCard_holds
end Go.Proofs.YtddnpoiiimjpcaaGreatDoor
