/- For all Ints x, y and c: the value that a session of the smallest program works out for x and y with one of the operations + - * / % is the one of a machine's words, and the rest or quotient by 0 stops (the law Sums is true, and its arguments read as before); condition: the listed package-level variables hold what the program's text lays (tied). -/
import Derived.Test.YthbffcmfmjpncaaGreatDoorOwnFs
import Derived.Test.YthbffcmfmjpncaaGreatDoorOwnSGs
import Derived.Test.YthbffcmfmjpncaaGreatDoorOwnSHs
set_option linter.defProp false
set_option maxRecDepth 100000
set_option maxHeartbeats 4000000
namespace Go.Proofs.YthbffcmfmjpncaaGreatDoor
open _root_.Go.Proofs.Tryz
open Go.ChangeShapes Go.WideShapes Go.ChangeAt Go.RowKit Go.Lib
def own:ownKnob prog.godebug=none:=k_
def tQ{n:Int}(h:(Lit.int .i64 n).wf=true): -9223372036854775808<=n/\n<=9223372036854775807:=by
 simp[Lit.wf] at h;exact h
def lifted(os:Os)(c:os.Started)(H:Type)(enc:TypeId × Value->H):
 ReturnsInHanded {} checked os 5 .any (λw a=>(Rows.sumsSpec.pre enc prog Tryz.f5 [] false w a/\laidMetH prog Rows.sumsRow.laid w)/\sizedMet enc prog Tryz.f5 (OpenSpec.ofChange Rows.sumsSpec) false w a)
  (Rows.sumsSpec.post enc prog Tryz.f5 false true false false):=by
 refine returnsInHanded_of_change_and (C:=checked) (X:=λw _=>laidMetH prog Rows.sumsRow.laid w) (λ_ _ _ I h=>h.of_heap I) own c k_ func5
  (ChangeSpec.witness_shaped (enc:=enc) (C:=checked) (os:=os) (X:=λw _=>laidMetH prog Rows.sumsRow.laid w) false (World.laidAll prog os Rows.sumsRow.laid) #[.int .i64 0,.int .i64 0,.int .i64 0] 8 (World.laidAll_os _ _ _)
    (World.shaped_of_ZipB k_ k_) k_ k_ k_
    (by rw[MakeChecks.laidMetH_plain _ _ _ k_];exact laidMet_laidAll _ k_ k_)) ?_
 intro W f a G P i d o _ _ s _;have b:∀(j:Nat) t v,Tryz.f5.params[j]?=some t->a[j]?=some v->Value.okWide prog W .any f t v:=d;have g:=o;obtain⟨p,q,l,M,rfl,_,_⟩:=o;have u:DataW.TrodAll enc prog W 0 (λ_=>true) true Tryz.f5.params.toList a.toList G p:=l
 rw[params5] at u b;obtain⟨L,E,J,S,Q,N,U,T,O,rfl,rfl,rfl,B,F,A⟩:=trodAll_three u;obtain⟨rfl,rfl⟩:=trodVars_none M;obtain⟨x,rfl,rfl,rfl,n⟩:=open_int underlying3 (b 0 3 L rfl rfl) B;obtain⟨y,rfl,rfl,rfl,k⟩:=open_int underlying3 (b 1 3 E rfl rfl) F;obtain⟨z,rfl,rfl,rfl,m⟩:=open_int underlying3 (b 2 3 J rfl rfl) A;simp only[List.append_nil] at g;rw[MakeChecks.laidMetH_plain _ _ _ k_] at s
 have r:gU W:=s;refine(UZ x y z (tQ n).1 (tQ n).2 (tQ k).1 (tQ k).2 (tQ m).1 (tQ m).2 W r.all r.pow).mono λe V ⟨K,D⟩=>?_
 subst K;exact⟨_,rfl,_,_,_,[],[],[],g,trodAll_mk1 (shut_bool underlying4 _),trodAll_mk3 (shut_int underlying3 n) (shut_int underlying3 k) (shut_int underlying3 m),rfl,D.frame _,λh=>by cases h⟩
def LW:joinedFacts prog 5 Tryz.f5 Rows.sumsSpec Rows.sumsRow=true:=by
 unfold joinedFacts;simp only[I7];repeat' apply I8
 all_goals first
  |with_reducible exact ZM
  |with_reducible exact ZL
  |with_reducible exact XI
  |with_reducible exact XJ
  |with_reducible exact MD
  |with_reducible exact VH
  |with_reducible exact B1
  |with_reducible exact VI
  |with_reducible exact VK
  |with_reducible exact YI
  |kernel_rfl
def LV:Rows.SumsSaid:=
 OpenClaim.holds_of_wide 5 Tryz.f5 rfl rfl rfl rfl rfl rfl rfl ⟨rfl,rfl,rfl,rfl,rfl⟩ rfl rfl rfl rfl rfl k_ func5 LW
  (of_decide_eq_true k_) (by unfold Func.isWrapper;first|(rw[if_pos (by decide+kernel)];kernel_rfl)|(rw[if_neg (by decide+kernel)];exact⟨rfl,rfl⟩))
  (λc a H b _=>lifted c a H b)
theorem sumsCard_holds:Rows.SumsCardSaid:=
 Claim7.holds_tied_plain_at .later [] [.data,.data,.data,.data,.sentinel,.sentinel,.data,.pinned] true _ true LV (λ_ h=>by cases h) k_ (λ_ h=>by cases h) sums_row_tie rfl ⟨rfl,rfl⟩ k_ rfl
  (λf g e b=>by
    obtain rfl:f=5:=Option.some.inj (YK.symm.trans e) |>.symm
    obtain rfl:g=Tryz.f5:=(Option.some.inj (func5.symm.trans b)).symm
    exact⟨VJ,λj t c=>by
     rw[params5] at c;have d:t∈[3,3,3]:=by simpa using Array.mem_of_getElem? c
     have a:([3,3,3].all λu=> !prog.wantsStandIn u)=true:=k_
     exact(show prog.wantsStandIn t=false by simpa using List.all_eq_true.1 a t d)⟩)
  YJ
#print axioms sumsCard_holds
end Go.Proofs.YthbffcmfmjpncaaGreatDoor
