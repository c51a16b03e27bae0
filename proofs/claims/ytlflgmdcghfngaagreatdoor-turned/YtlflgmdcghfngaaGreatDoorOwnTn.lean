/- For every source, every tape, every script and every expression: behind the moves of the script, forwards and backwards, over calls and to breakpoints, the session tells what a fresh one tells that Seek has brought to that moment, and evaluates the expression to the same (the law Turned is true, and its arguments read as before); condition: the listed package-level variables hold what the text of the program lays (tied). -/
import Derived.Test.YtlflgmdcghfngaaGreatDoorP32
import Derived.Test.YtlflgmdcghfngaaGreatDoorOwnLtF
import Derived.Test.YtlflgmdcghfngaaGreatDoorP31
import Derived.Test.YtlflgmdcghfngaaGreatDoorOwnTnH
import Derived.Test.YtlflgmdcghfngaaGreatDoorOwnTnG
set_option linter.defProp false
set_option maxRecDepth 100000
set_option maxHeartbeats 4000000
namespace Go.Proofs.YtlflgmdcghfngaaGreatDoor
open _root_.Go.Proofs.Tryz
open Go.ChangeShapes Go.WideShapes Go.ChangeAt Go.RowKit Go.Lib
open Go.ChangeMaps (open_string shut_string)
def own:ownKnob prog.godebug=none:=k_
def lifted(os:Os)(i:os.Started)(H:Type)(enc:TypeId × Value->H):
 ReturnsInHanded {} checked os 3 .any (λw a=>(Rows.turnedSpec.pre enc prog Tryz.f3 [] false w a/\laidMetH prog Rows.turnedRow.laid w)/\sizedMet enc prog Tryz.f3 (OpenSpec.ofChange Rows.turnedSpec) false w a)
  (Rows.turnedSpec.post enc prog Tryz.f3 false true false false):=by
 refine returnsInHanded_of_change_and (C:=checked) (X:=λw _=>laidMetH prog Rows.turnedRow.laid w) (λ_ _ _ hh h=>h.of_heap hh) own i k_ func3
  (ChangeSpec.witness_shaped (enc:=enc) (C:=checked) (os:=os) (X:=λw _=>laidMetH prog Rows.turnedRow.laid w) false (World.laidAll prog os Rows.turnedRow.laid) #[.string ⟨#[]⟩,bG,bG,.string ⟨#[]⟩] 8 (World.laidAll_os _ _ _)
    (World.shaped_of_ZipB k_ k_) k_ k_ k_
    (by rw[MakeChecks.laidMetH_plain _ _ _ k_];exact laidMet_laidAll _ k_ k_)) ?_
 intro W s a ds gs u m S _ o P _;have f:∀(j:Nat) t v,Tryz.f3.params[j]?=some t->a[j]?=some v->Value.okWide prog W .any s t v:=m;have l:=S;obtain⟨p,q,E,hV,rfl,_,_⟩:=S;have N:DataW.TrodAll enc prog W 0 (λ_=>true) true Tryz.f3.params.toList a.toList ds p:=E
 rw[params3] at N f o;obtain⟨v0,Y,v2,v3,d0,d1,d2,d3,p0,p1,V,U,rfl,rfl,rfl,Q,T,O,L⟩:=trodAll_four N;obtain⟨rfl,rfl⟩:=trodVars_none hV;have M:∀z∈p0++p1++V++U,z.block<W.heap.size:=λz k=>by simpa using l.lt z (by simpa using k)
 have g0:=Q;have g1:=T;have g2:=O;have g3:=L;obtain⟨x,rfl,rfl,rfl,wx⟩:=open_string underlying9 (f 0 9 v0 rfl rfl) Q;obtain⟨y,n,c,rfl⟩:=okWide_slice underlying22 (f 1 22 Y rfl rfl);obtain⟨y2,n2,Z,rfl⟩:=okWide_slice underlying23 (f 2 23 v2 rfl rfl);obtain⟨z,rfl,rfl,rfl,wz⟩:=open_string underlying9 (f 3 9 v3 rfl rfl) L;obtain⟨fuel,hf⟩:=T;obtain⟨I,G⟩:=O;simp only[jj] at l o;rw[MakeChecks.laidMetH_plain _ _ _ k_] at P
 have F:iV W:=P;have aa:=reachBytes_lt
 have D:x.data.toList.length<=140737488355328:=by
  have:=sized_string o (j:=0) (t:=9) (bytes:=x.data.toList) rfl rfl;omega
 have B:z.data.toList.length<=140737488355328:=by
  have:=sized_string o (j:=3) (t:=9) (bytes:=z.data.toList) rfl rfl;omega
 obtain⟨r,rfl,t1,t2,t3⟩:=N9 hf o (j:=1) rfl rfl;obtain⟨J,rfl,o1,o2,o3⟩:=ac_ G o (j:=2) rfl rfl;refine(WG W x.data.toList z.data.toList y y2 c Z r J F.all F.pow F.big D B t1 t2 t3 o1 o2 o3).mono λe W' ⟨he,K⟩=>?_
 subst he;have g:∀{t:TypeId} {v:aQ} {d:DataW H} {A:List MemPlace},prog.readableRec t=true->t<prog.types.size->DataW.Trod enc prog W 0 (λ_=>true) true t v d A->(∀z∈A,z.block<W.heap.size)->DataW.Trod enc prog W' 0 (λb=>decide (b<W.heap.size)) true t v d A:=λhr hs h hl=>Below.trod G5 hr hs h K hl
 exact⟨_,rfl,_,_,_,[],_,[],l,trodAll_mk1 (shut_bool underlying4 _),trodAll_mk4 (g k_ (of_decide_eq_true k_) g0 λz k=>by cases k) (g k_ (of_decide_eq_true k_) g1 λz k=>M z (by simp[k])) (g k_ (of_decide_eq_true k_) g2 λz k=>M z (by simp[k])) (g k_ (of_decide_eq_true k_) g3 λz k=>by cases k),rfl,K.frame _,λh=>by cases h⟩
def MY:joinedFacts prog 3 Tryz.f3 Rows.turnedSpec Rows.turnedRow=true:=by
 unfold joinedFacts;simp only[fy];repeat' apply ff
 all_goals first
  |with_reducible exact G5
  |with_reducible exact cj_
  |with_reducible exact aR_
  |with_reducible exact aS_
  |with_reducible exact ZA
  |with_reducible exact aw_
  |with_reducible exact cO_
  |with_reducible exact ax_
  |with_reducible exact az_
  |with_reducible exact bS_
  |kernel_rfl
def MX:Rows.TurnedSaid:=
 OpenClaim.holds_of_wide 3 Tryz.f3 rfl rfl rfl rfl rfl rfl rfl ⟨rfl,rfl,rfl,rfl,rfl⟩ rfl rfl rfl rfl rfl k_ func3 MY
  (of_decide_eq_true k_) (by unfold Func.isWrapper;first|(rw[if_pos (by decide+kernel)];kernel_rfl)|(rw[if_neg (by decide+kernel)];exact⟨rfl,rfl⟩))
  (λc a H b _=>lifted c a H b)
theorem turnedCard_holds:Rows.TurnedCardSaid:=
 Claim7.holds_tied_plain_at .later [] [.data,.data,.data,.data,.sentinel,.sentinel,.data,.pinned] true _ true MX (λ_ h=>by cases h) k_ (λ_ h=>by cases h) turned_row_tie rfl ⟨rfl,rfl⟩ k_ rfl
  (λf g e b=>by
    obtain rfl:f=3:=Option.some.inj (bU_.symm.trans e) |>.symm
    obtain rfl:g=Tryz.f3:=(Option.some.inj (func3.symm.trans b)).symm
    exact⟨ay_,λj t c=>by
     rw[params3] at c;have d:t∈[9,22,23,9]:=by simpa using Array.mem_of_getElem? c
     have a:([9,22,23,9].all λu=> !prog.wantsStandIn u)=true:=k_
     exact(show prog.wantsStandIn t=false by simpa using List.all_eq_true.1 a t d)⟩)
  bT_
#print axioms turnedCard_holds
end Go.Proofs.YtlflgmdcghfngaaGreatDoor
