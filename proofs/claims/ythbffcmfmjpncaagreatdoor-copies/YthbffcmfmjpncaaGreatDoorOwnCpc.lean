/- For all Ints x and y: the program that puts a list with x in it into a variable, into another list and into a call, and y into one of the copies, prints four lists, each changed in its own place alone (the law Copies is true, and its arguments read as before); condition: the listed package-level variables hold what the text of the program lays (tied). -/
import Derived.Test.YthbffcmfmjpncaaGreatDoorOwnCpGc
import Derived.Test.YthbffcmfmjpncaaGreatDoorOwnCpHc
import Derived.Test.YthbffcmfmjpncaaGreatDoorOwnFc
set_option linter.defProp false
set_option maxRecDepth 100000
set_option maxHeartbeats 4000000
namespace Go.Proofs.YthbffcmfmjpncaaGreatDoor
open _root_.Go.Proofs.Tryz
open Go.ChangeShapes Go.WideShapes Go.ChangeAt Go.RowKit Go.Lib
def own:ownKnob prog.godebug=none:=k_
def JX{n:Int}(h:(Lit.int .i64 n).wf=true): -9223372036854775808<=n/\n<=9223372036854775807:=by
 simp[Lit.wf] at h;exact h
def lifted(os:Os)(b:os.Started)(H:Type)(enc:TypeId × Value->H):
 ReturnsInHanded {} checked os 6 .any (λw a=>(Rows.copiesSpec.pre enc prog Tryz.f6 [] false w a/\laidMetH prog Rows.copiesRow.laid w)/\sizedMet enc prog Tryz.f6 (OpenSpec.ofChange Rows.copiesSpec) false w a)
  (Rows.copiesSpec.post enc prog Tryz.f6 false true false false):=by
 refine returnsInHanded_of_change_and (C:=checked) (X:=λw _=>laidMetH prog Rows.copiesRow.laid w) (λ_ _ _ E h=>h.of_heap E) own b k_ func6
  (ChangeSpec.witness_shaped (enc:=enc) (C:=checked) (os:=os) (X:=λw _=>laidMetH prog Rows.copiesRow.laid w) false (World.laidAll prog os Rows.copiesRow.laid) #[.int .i64 0,.int .i64 0] 8 (World.laidAll_os _ _ _)
    (World.shaped_of_ZipB k_ k_) k_ k_ k_
    (by rw[MakeChecks.laidMetH_plain _ _ _ k_];exact laidMet_laidAll _ k_ k_)) ?_
 intro W f a D J i d o _ _ r _;have c:∀(j:Nat) t v,Tryz.f6.params[j]?=some t->a[j]?=some v->Value.okWide prog W .any f t v:=d;have g:=o;obtain⟨p,q,l,I,rfl,_,_⟩:=o;have s:DataW.TrodAll enc prog W 0 (λ_=>true) true Tryz.f6.params.toList a.toList D p:=l
 rw[params6] at s c;obtain⟨G,A,L,K,N,M,rfl,rfl,rfl,u,B⟩:=trodAll_two s;obtain⟨rfl,rfl⟩:=trodVars_none I;obtain⟨x,rfl,rfl,rfl,n⟩:=open_int underlying3 (c 0 3 G rfl rfl) u;obtain⟨y,rfl,rfl,rfl,k⟩:=open_int underlying3 (c 1 3 A rfl rfl) B;simp only[List.append_nil] at g;rw[MakeChecks.laidMetH_plain _ _ _ k_] at r
 have m:iL W:=r;refine(WH x y (JX n).1 (JX n).2 (JX k).1 (JX k).2 W m.all m.pow m.big).mono λe O ⟨F,z⟩=>?_
 subst F;exact⟨_,rfl,_,_,_,[],[],[],g,trodAll_mk1 (shut_bool underlying4 _),trodAll_mk2 (shut_int underlying3 n) (shut_int underlying3 k),rfl,z.frame _,λh=>by cases h⟩
def MX:joinedFacts prog 6 Tryz.f6 Rows.copiesSpec Rows.copiesRow=true:=by
 unfold joinedFacts;simp only[fq];repeat' apply ez
 all_goals first
  |with_reducible exact e7
  |with_reducible exact d9
  |with_reducible exact Q7
  |with_reducible exact Q8
  |with_reducible exact UF
  |with_reducible exact L6
  |with_reducible exact m9
  |with_reducible exact L7
  |with_reducible exact L9
  |with_reducible exact W4
  |kernel_rfl
def MW:Rows.CopiesSaid:=
 OpenClaim.holds_of_wide 6 Tryz.f6 rfl rfl rfl rfl rfl rfl rfl ⟨rfl,rfl,rfl,rfl,rfl⟩ rfl rfl rfl rfl rfl k_ func6 MX
  (of_decide_eq_true k_) (by unfold Func.isWrapper;first|(rw[if_pos (by decide+kernel)];kernel_rfl)|(rw[if_neg (by decide+kernel)];exact⟨rfl,rfl⟩))
  (λc a H b _=>lifted c a H b)
theorem copiesCard_holds:Rows.CopiesCardSaid:=
 Claim7.holds_tied_plain_at .later [] [.data,.data,.data,.data,.sentinel,.sentinel,.data,.pinned] true _ true MW (λ_ h=>by cases h) k_ (λ_ h=>by cases h) copies_row_tie rfl ⟨rfl,rfl⟩ k_ rfl
  (λf g e b=>by
    obtain rfl:f=6:=Option.some.inj (W7.symm.trans e) |>.symm
    obtain rfl:g=Tryz.f6:=(Option.some.inj (func6.symm.trans b)).symm
    exact⟨L8,λj t c=>by
     rw[params6] at c;have d:t∈[3,3]:=by simpa using Array.mem_of_getElem? c
     have a:([3,3].all λu=> !prog.wantsStandIn u)=true:=k_
     exact(show prog.wantsStandIn t=false by simpa using List.all_eq_true.1 a t d)⟩)
  W5
#print axioms copiesCard_holds
end Go.Proofs.YthbffcmfmjpncaaGreatDoor
