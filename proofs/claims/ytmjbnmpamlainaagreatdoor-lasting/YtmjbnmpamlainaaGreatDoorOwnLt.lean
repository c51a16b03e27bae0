/- For every source, every tape, every number and every expression: from the moment that Since tells, up to the one that the session is at, the expression comes to the same at every moment, and at the one ahead of it to something else; the session stays where it is (the law Lasting is true, and its arguments read as before); condition: the listed package-level variables hold what the text of the program lays (tied). -/
import Derived.Test.YtmjbnmpamlainaaGreatDoorB11
import Derived.Test.YtmjbnmpamlainaaGreatDoorP32
import Derived.Test.YtmjbnmpamlainaaGreatDoorOwnLtG
import Derived.Test.YtmjbnmpamlainaaGreatDoorP31
import Derived.Test.YtmjbnmpamlainaaGreatDoorOwnLtH
import Derived.Test.YtmjbnmpamlainaaGreatDoorOwnLtF
set_option linter.defProp false
set_option maxRecDepth 100000
set_option maxHeartbeats 4000000
namespace Go.Proofs.YtmjbnmpamlainaaGreatDoor
open _root_.Go.Proofs.Tryz
open Go.ChangeShapes Go.WideShapes Go.ChangeAt Go.RowKit Go.Lib
open Go.ChangeMaps (open_string shut_string)
def own:ownKnob prog.godebug=none:=by kernel_rfl
def lifted(os:Os)(i:os.Started)(H:Type)(enc:TypeId × Value->H):
 ReturnsInHanded {} checked os 3 .any (fun w a=>(Rows.lastingSpec.pre enc prog Tryz.f3 [] false w a/\laidMetH prog Rows.lastingRow.laid w)/\sizedMet enc prog Tryz.f3 (OpenSpec.ofChange Rows.lastingSpec) false w a)
  (Rows.lastingSpec.post enc prog Tryz.f3 false true false false):=by
 refine returnsInHanded_of_change_and (C:=checked) (X:=fun w _=>laidMetH prog Rows.lastingRow.laid w) (fun _ _ _ hh h=>h.of_heap hh) own i (by kernel_rfl) func3
  (ChangeSpec.witness_shaped (enc:=enc) (C:=checked) (os:=os) (X:=fun w _=>laidMetH prog Rows.lastingRow.laid w) false (World.laidAll prog os Rows.lastingRow.laid) #[.string ⟨#[]⟩,bF,Iv0 0,.string ⟨#[]⟩] 8 (World.laidAll_os _ _ _)
    (World.shaped_of_ZipB (by kernel_rfl) (by kernel_rfl)) (by kernel_rfl) (by kernel_rfl) (by kernel_rfl)
    (by rw[MakeChecks.laidMetH_plain _ _ _ (by kernel_rfl)];exact laidMet_laidAll _ (by kernel_rfl) (by kernel_rfl))) ?_
 intro W u a ds gs B o Q _ A N _;have f:∀(j:Nat) t v,Tryz.f3.params[j]?=some t->a[j]?=some v->Value.okWide prog W .any u t v:=o;have m:=Q;obtain⟨p,q,G,hV,rfl,_,_⟩:=Q;have L:DataW.TrodAll enc prog W 0 (fun _=>true) true Tryz.f3.params.toList a.toList ds p:=G
 rw[params3] at L f A;obtain⟨Y,V,v2,Z,d0,d1,d2,d3,p0,p1,U,T,rfl,rfl,rfl,P,S,M,K⟩:=trodAll_four L;obtain⟨rfl,rfl⟩:=trodVars_none hV;have lt:∀z∈p0++p1++U++T,z.block<W.heap.size:=fun z k=>by simpa using m.lt z (by simpa using k)
 have g0:=P;have g1:=S;have g2:=M;have g3:=K;obtain⟨x,rfl,rfl,rfl,wx⟩:=open_string underlying9 (f 0 9 Y rfl rfl) P;obtain⟨y,n,c,rfl⟩:=okWide_slice underlying22 (f 1 22 V rfl rfl);obtain⟨l,rfl,rfl,rfl,O⟩:=open_int underlying3 (f 2 3 v2 rfl rfl) M;have r: -9223372036854775808<=l/\l<=9223372036854775807:=by simp[Lit.wf] at O;exact O
 obtain⟨z,rfl,rfl,rfl,wz⟩:=open_string underlying9 (f 3 9 Z rfl rfl) K;obtain⟨fuel,hf⟩:=S;simp only[dz_] at m A;rw[MakeChecks.laidMetH_plain _ _ _ (by kernel_rfl)] at N
 have I:iU W:=N;have aa:=reachBytes_lt
 have F:x.data.toList.length<=140737488355328:=by
  have:=sized_string A (j:=0) (t:=9) (bytes:=x.data.toList) rfl rfl;omega
 have E:z.data.toList.length<=140737488355328:=by
  have:=sized_string A (j:=3) (t:=9) (bytes:=z.data.toList) rfl rfl;omega
 obtain⟨s,rfl,t1,t2,t3⟩:=F2 hf A (j:=1) rfl rfl;refine(RJ W x.data.toList z.data.toList y c l s I.all I.pow I.big F E r.1 r.2 t1 t2 t3).mono fun e W' ⟨he,J⟩=>?_
 subst he;have g:∀{t:TypeId} {v:aQ} {d:DataW H} {D:List MemPlace},prog.readableRec t=true->t<prog.types.size->DataW.Trod enc prog W 0 (fun _=>true) true t v d D->(∀z∈D,z.block<W.heap.size)->DataW.Trod enc prog W' 0 (fun b=>decide (b<W.heap.size)) true t v d D:=fun hr hs h hl=>Below.trod ZL hr hs h J hl
 exact⟨_,rfl,_,_,_,[],_,[],m,trodAll_mk1 (shut_bool underlying4 _),trodAll_mk4 (g (by kernel_rfl) (of_decide_eq_true (by kernel_rfl)) g0 fun z k=>by cases k) (g (by kernel_rfl) (of_decide_eq_true (by kernel_rfl)) g1 fun z k=>lt z (by simp[k])) (g (by kernel_rfl) (of_decide_eq_true (by kernel_rfl)) g2 fun z k=>by cases k) (g (by kernel_rfl) (of_decide_eq_true (by kernel_rfl)) g3 fun z k=>by cases k),rfl,J.frame _,fun h=>by cases h⟩
def IR:joinedFacts prog 3 Tryz.f3 Rows.lastingSpec Rows.lastingRow=true:=by
 unfold joinedFacts;simp only[cO_];repeat' apply cL_
 all_goals first
  |with_reducible exact ZL
  |with_reducible exact a1_
  |with_reducible exact j7
  |with_reducible exact j8
  |with_reducible exact WW
  |with_reducible exact Y6
  |with_reducible exact bx_
  |with_reducible exact Y7
  |with_reducible exact Y9
  |with_reducible exact aB_
  |kernel_rfl
def IQ:Rows.LastingSaid:=
 OpenClaim.holds_of_wide 3 Tryz.f3 rfl rfl rfl rfl rfl rfl rfl ⟨rfl,rfl,rfl,rfl,rfl⟩ rfl rfl rfl rfl rfl (by kernel_rfl) func3 IR
  (of_decide_eq_true (by kernel_rfl)) (by unfold Func.isWrapper;first|(rw[if_pos (by decide+kernel)];kernel_rfl)|(rw[if_neg (by decide+kernel)];exact⟨rfl,rfl⟩))
  (fun c a H b _=>lifted c a H b)
theorem lastingCard_holds:Rows.LastingCardSaid:=
 Claim7.holds_tied_plain_at .later [] [.data,.data,.data,.data,.sentinel,.sentinel,.data,.pinned] true _ true IQ (fun _ h=>by cases h) (by kernel_rfl) (fun _ h=>by cases h) lasting_row_tie rfl ⟨rfl,rfl⟩ (by kernel_rfl) rfl
  (fun f g e b=>by
    obtain rfl:f=3:=Option.some.inj (aD_.symm.trans e) |>.symm
    obtain rfl:g=Tryz.f3:=(Option.some.inj (func3.symm.trans b)).symm
    exact⟨Y8,fun j t c=>by
     rw[params3] at c;have d:t∈[9,22,3,9]:=by simpa using Array.mem_of_getElem? c
     have a:([9,22,3,9].all fun u=> !prog.wantsStandIn u)=true:=by kernel_rfl
     exact(show prog.wantsStandIn t=false by simpa using List.all_eq_true.1 a t d)⟩)
  aC_
#print axioms lastingCard_holds
end Go.Proofs.YtmjbnmpamlainaaGreatDoor
