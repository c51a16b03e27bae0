/- For every text the program's Check answers the kind and the line of the document's answer (the law Checks is true, and its argument reads as before); condition: the listed package-level variables hold what the program's text lays (tied). -/
import Derived.Test.YthbffcmfmjpncaaGreatDoorOwnFk
import Derived.Test.YthbffcmfmjpncaaGreatDoorOwnGk
import Derived.Test.YthbffcmfmjpncaaGreatDoorOwnHk
set_option linter.defProp false
set_option maxRecDepth 100000
set_option maxHeartbeats 4000000
namespace Go.Proofs.YthbffcmfmjpncaaGreatDoor
open _root_.Go.Proofs.Tryz
open Go.ChangeShapes Go.WideShapes Go.ChangeAt Go.RowKit Go.Lib
open Go.ChangeMaps (open_string shut_string)
def own:ownKnob prog.godebug=none:=k_
def Listed.all{w:World}(h:Listed w):gO w:=by
 obtain⟨b,c,a⟩:=h.marks;exact⟨⟨h.range,h.big⟩,⟨⟨b,c,a⟩,h.big⟩,h.utf8⟩
def lifted(os:Os)(b:os.Started)(H:Type)(enc:TypeId × Value->H):
 ReturnsInHanded {} checked os 3 .any (λw a=>(Rows.checksSpec.pre enc prog Tryz.f3 [] false w a/\laidMetH prog Rows.checksRow.laid w)/\sizedMet enc prog Tryz.f3 (OpenSpec.ofChange Rows.checksSpec) false w a)
  (Rows.checksSpec.post enc prog Tryz.f3 false true false false):=by
 refine returnsInHanded_of_change_and (C:=checked) (X:=λw _=>laidMetH prog Rows.checksRow.laid w) (λ_ _ _ z h=>h.of_heap z) own b k_ func3
  (ChangeSpec.witness_shaped (enc:=enc) (C:=checked) (os:=os) (X:=λw _=>laidMetH prog Rows.checksRow.laid w) false (World.laidAll prog os Rows.checksRow.laid) #[.string ⟨#[]⟩] 8 (World.laidAll_os _ _ _)
    (World.shaped_of_ZipB k_ k_) k_ k_ k_
    (by rw[MakeChecks.laidMetH_plain _ _ _ k_];exact laidMet_laidAll _ k_ k_)) ?_
 intro W f a y E i d l _ _ n _;have c:∀(j:Nat) t v,Tryz.f3.params[j]?=some t->a[j]?=some v->Value.okWide prog W .any f t v:=d;have g:=l;obtain⟨p,q,k,D,rfl,_,_⟩:=l;have r:DataW.TrodAll enc prog W 0 (λ_=>true) true Tryz.f3.params.toList a.toList y p:=k
 rw[params3] at r c;obtain⟨B,F,rfl,rfl,u⟩:=trodAll_one r;obtain⟨rfl,rfl⟩:=trodVars_none D;obtain⟨s,rfl,rfl,rfl,o⟩:=open_string underlying9 (c 0 9 B rfl rfl) u;simp only[List.append_nil] at g;rw[MakeChecks.laidMetH_plain _ _ _ k_] at n
 have m:Listed W:=n;refine(GC s W m.all m.ref o).mono λe G ⟨A,x⟩=>?_
 subst A;exact⟨_,rfl,_,_,_,[],[],[],g,trodAll_mk1 (shut_bool underlying4 _),trodAll_mk1 (shut_string underlying9 o),rfl,x.frame _,λh=>by cases h⟩
def uN:joinedFacts prog 3 Tryz.f3 Rows.checksSpec Rows.checksRow=true:=by
 unfold joinedFacts;simp only[KQ];repeat' apply JV
 all_goals first
  |with_reducible exact GW
  |with_reducible exact GV
  |with_reducible exact ET
  |with_reducible exact EU
  |with_reducible exact zD
  |with_reducible exact EO
  |with_reducible exact JB
  |with_reducible exact EP
  |with_reducible exact ES
  |with_reducible exact GX
  |kernel_rfl
def uM:Rows.ChecksSaid:=
 OpenClaim.holds_of_wide 3 Tryz.f3 rfl rfl rfl rfl rfl rfl rfl ⟨rfl,rfl,rfl,rfl,rfl⟩ rfl rfl rfl rfl rfl k_ func3 uN
  (of_decide_eq_true k_) (by unfold Func.isWrapper;first|(rw[if_pos (by decide+kernel)];kernel_rfl)|(rw[if_neg (by decide+kernel)];exact⟨rfl,rfl⟩))
  (λc a H b _=>lifted c a H b)
theorem checksCard_holds:Rows.ChecksCardSaid:=
 Claim7.holds_tied_plain_at .later [] [.data,.data,.data,.data,.data,.data,.sentinel,.sentinel,.data,.pinned] true _ true uM (λ_ h=>by cases h) k_ (λ_ h=>by cases h) checks_row_tie rfl ⟨rfl,rfl⟩ k_ rfl
  (λf g e b=>by
    obtain rfl:f=3:=Option.some.inj (GZ.symm.trans e) |>.symm
    obtain rfl:g=Tryz.f3:=(Option.some.inj (func3.symm.trans b)).symm
    exact⟨EQ,λj t c=>by
     rw[params3] at c;have d:t∈[9]:=by simpa using Array.mem_of_getElem? c
     have a:([9].all λu=> !prog.wantsStandIn u)=true:=k_
     exact(show prog.wantsStandIn t=false by simpa using List.all_eq_true.1 a t d)⟩)
  GY
#print axioms checksCard_holds
end Go.Proofs.YthbffcmfmjpncaaGreatDoor
