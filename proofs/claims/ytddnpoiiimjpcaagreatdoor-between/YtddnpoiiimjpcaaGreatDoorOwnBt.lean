/- For every source, every tape, every line, every condition and every number: from any moment Go comes to a later one that hits the breakpoint, or to the last, and GoBack to an earlier one that hits, or to moment 0; and none between them hits (the law Between is true, and its arguments read as before); condition: the listed package-level variables hold what the text of the program lays (tied). -/
import Derived.Test.YtddnpoiiimjpcaaGreatDoorB08
import Derived.Test.YtddnpoiiimjpcaaGreatDoorOwnBtG
import Derived.Test.YtddnpoiiimjpcaaGreatDoorOwnLtF
import Derived.Test.YtddnpoiiimjpcaaGreatDoorP30
import Derived.Test.YtddnpoiiimjpcaaGreatDoorP29
import Derived.Test.YtddnpoiiimjpcaaGreatDoorOwnBtH
set_option linter.defProp false
set_option maxRecDepth 100000
set_option maxHeartbeats 4000000
namespace Go.Proofs.YtddnpoiiimjpcaaGreatDoor
open _root_.Go.Proofs.Tryz
open Go.ChangeShapes Go.WideShapes Go.ChangeAt Go.RowKit Go.Lib
open Go.ChangeMaps (open_string shut_string)
section
variable {H:Type} {enc:TypeId × Value->H} {P:Program} {w:aG} {b_:Nat} {spare:Nat->Bool} {held:Bool}
def ME{C D y z A:TypeId}{args:Array Value}{B:List (DataW H)}{ps:List MemPlace}(h:DataW.TrodAll enc P w b_ spare held [C,D,y,z,A] args.toList B ps):
 ∃q j m g n k i c d o p l f b e,args= #[q,j,m,g,n]/\B=[k,i,c,d,o]/\ps=p++(l++(f++(b++e)))/\DataW.Trod enc P w b_ spare held C q k p/\DataW.Trod enc P w b_ spare held D j i l/\DataW.Trod enc P w b_ spare held y m c f/\DataW.Trod enc P w b_ spare held z g d b/\DataW.Trod enc P w b_ spare held A n o e:=by
 obtain⟨q,Q,k,G,p,O,t,rfl,rfl,x,a⟩:=trodAll_cons h;obtain⟨j,F,i,L,l,S,rfl,rfl,rfl,u,a⟩:=trodAll_cons a;obtain⟨m,K,c,N,f,V,rfl,rfl,rfl,r,a⟩:=trodAll_cons a;obtain⟨g,J,d,E,b,T,rfl,rfl,rfl,s,a⟩:=trodAll_cons a;obtain⟨n,I,o,M,e,U,rfl,rfl,rfl,v,a⟩:=trodAll_cons a;obtain⟨rfl,rfl,rfl⟩:=trodAll_nil a;exact⟨q,j,m,g,n,k,i,c,d,o,p,l,f,b,e,by cases args;simp_all,rfl,s_,x,u,r,s,v⟩
def PQ{l n e f j:TypeId}{q v1 v2 i o:aQ}{m k g h p:DataW H}{p0 d c a b:List MemPlace}(s:DataW.Trod enc P w b_ spare held l q m p0)(u:DataW.Trod enc P w b_ spare held n v1 k d)(r:DataW.Trod enc P w b_ spare held e v2 g c)(v:DataW.Trod enc P w b_ spare held f i h a)(t:DataW.Trod enc P w b_ spare held j o p b):DataW.TrodAll enc P w b_ spare held [l,n,e,f,j] [q,v1,v2,i,o] [m,k,g,h,p] (p0++(d++(c++(a++b)))):=⟨p0,d++(c++(a++b)),s,trodAll_mk4 u r v t,rfl⟩
end
def own:ownKnob prog.godebug=none:=k_
def lifted(os:Os)(i:os.Started)(H:Type)(enc:TypeId × Value->H):
 ReturnsInHanded {} checked os 5 .any (λw f=>(Rows.betweenSpec.pre enc prog Tryz.f5 [] false w f/\laidMetH prog Rows.betweenRow.laid w)/\sizedMet enc prog Tryz.f5 (OpenSpec.ofChange Rows.betweenSpec) false w f)
  (Rows.betweenSpec.post enc prog Tryz.f5 false true false false):=by
 refine returnsInHanded_of_change_and (C:=checked) (X:=λw _=>laidMetH prog Rows.betweenRow.laid w) (λ_ _ _ hh h=>h.of_heap hh) own i k_ func5
  (ChangeSpec.witness_shaped (enc:=enc) (C:=checked) (os:=os) (X:=λw _=>laidMetH prog Rows.betweenRow.laid w) false (World.laidAll prog os Rows.betweenRow.laid) #[.string ⟨#[]⟩,bG,I_ 0,.string ⟨#[]⟩,I_ 0] 8 (World.laidAll_os _ _ _)
    (World.shaped_of_ZipB k_ k_) k_ k_ k_
    (by rw[MakeChecks.laidMetH_plain _ _ _ k_];exact laidMet_laidAll _ k_ k_)) ?_
 intro W u f ds gs B o S _ A O _;have a:∀(j:Nat) t v,Tryz.f5.params[j]?=some t->f[j]?=some v->Value.okWide prog W .any u t v:=o;have m:=S;obtain⟨p,q,G,hV,rfl,_,_⟩:=S;have L:DataW.TrodAll enc prog W 0 (λ_=>true) true Tryz.f5.params.toList f.toList ds p:=G
 rw[params5] at L a A;obtain⟨Z,Y,v2,v3,v4,d0,d1,d2,d3,d4,p0,p1,V,U,p4,rfl,rfl,rfl,Q,T,M,K,N⟩:=ME L;obtain⟨rfl,rfl⟩:=trodVars_none hV;have lt:∀z∈p0++(p1++(V++(U++p4))),z.block<W.heap.size:=λz k=>by simpa using m.lt z (by simpa using k)
 have g0:=Q;have g1:=T;have g2:=M;have g3:=K;have g4:=N;obtain⟨x,rfl,rfl,rfl,wx⟩:=open_string underlying9 (a 0 9 Z rfl rfl) Q;obtain⟨y,n,c,rfl⟩:=okWide_slice underlying22 (a 1 22 Y rfl rfl);obtain⟨ln,rfl,rfl,rfl,_⟩:=open_int underlying3 (a 2 3 v2 rfl rfl) M;obtain⟨z,rfl,rfl,rfl,wz⟩:=open_string underlying9 (a 3 9 v3 rfl rfl) K;obtain⟨l,rfl,rfl,rfl,P⟩:=open_int underlying3 (a 4 3 v4 rfl rfl) N;have r: -9223372036854775808<=l/\l<=9223372036854775807:=by simp[Lit.wf] at P;exact P
 obtain⟨fuel,hf⟩:=T;simp only[ix] at m A;rw[MakeChecks.laidMetH_plain _ _ _ k_] at O
 have I:iS W:=O;have aa:=reachBytes_lt
 have F:x.data.toList.length<=140737488355328:=by
  have:=sized_string A (j:=0) (t:=9) (bytes:=x.data.toList) rfl rfl;omega
 have E:z.data.toList.length<=140737488355328:=by
  have:=sized_string A (j:=3) (t:=9) (bytes:=z.data.toList) rfl rfl;omega
 obtain⟨s,rfl,t1,t2,t3⟩:=J2 hf A (j:=1) rfl rfl;refine(UO W x.data.toList z.data.toList y c ln l s I.all I.pow I.big F E r.1 r.2 t1 t2 t3).mono λe W' ⟨he,J⟩=>?_
 subst he;have g:∀{t:TypeId} {v:aQ} {d:DataW H} {D:List MemPlace},prog.readableRec t=true->t<prog.types.size->DataW.Trod enc prog W 0 (λ_=>true) true t v d D->(∀z∈D,z.block<W.heap.size)->DataW.Trod enc prog W' 0 (λb=>decide (b<W.heap.size)) true t v d D:=λhr hs h hl=>Below.trod B7 hr hs h J hl
 exact⟨_,rfl,_,_,_,[],_,[],m,trodAll_mk1 (shut_bool underlying4 _),PQ (g k_ (of_decide_eq_true k_) g0 λz k=>by cases k) (g k_ (of_decide_eq_true k_) g1 λz k=>lt z (by simp[k])) (g k_ (of_decide_eq_true k_) g2 λz k=>by cases k) (g k_ (of_decide_eq_true k_) g3 λz k=>by cases k) (g k_ (of_decide_eq_true k_) g4 λz k=>by cases k),rfl,J.frame _,λh=>by cases h⟩
def JV:joinedFacts prog 5 Tryz.f5 Rows.betweenSpec Rows.betweenRow=true:=by
 unfold joinedFacts;simp only[fw];repeat' apply fe
 all_goals first
  |with_reducible exact B7
  |with_reducible exact bs_
  |with_reducible exact y6
  |with_reducible exact y7
  |with_reducible exact XT
  |with_reducible exact l9
  |with_reducible exact bW_
  |with_reducible exact m6
  |with_reducible exact m8
  |with_reducible exact a0_
  |kernel_rfl
def JU:Rows.BetweenSaid:=
 OpenClaim.holds_of_wide 5 Tryz.f5 rfl rfl rfl rfl rfl rfl rfl ⟨rfl,rfl,rfl,rfl,rfl⟩ rfl rfl rfl rfl rfl k_ func5 JV
  (of_decide_eq_true k_) (by unfold Func.isWrapper;first|(rw[if_pos (by decide+kernel)];kernel_rfl)|(rw[if_neg (by decide+kernel)];exact⟨rfl,rfl⟩))
  (λc a H b _=>lifted c a H b)
theorem betweenCard_holds:Rows.BetweenCardSaid:=
 Claim7.holds_tied_plain_at .later [] [.data,.data,.data,.data,.sentinel,.sentinel,.data,.pinned] true _ true JU (λ_ h=>by cases h) k_ (λ_ h=>by cases h) between_row_tie rfl ⟨rfl,rfl⟩ k_ rfl
  (λf g e b=>by
    obtain rfl:f=5:=Option.some.inj (a2_.symm.trans e) |>.symm
    obtain rfl:g=Tryz.f5:=(Option.some.inj (func5.symm.trans b)).symm
    exact⟨m7,λj t c=>by
     rw[params5] at c;have d:t∈[9,22,3,9,3]:=by simpa using Array.mem_of_getElem? c
     have a:([9,22,3,9,3].all λu=> !prog.wantsStandIn u)=true:=k_
     exact(show prog.wantsStandIn t=false by simpa using List.all_eq_true.1 a t d)⟩)
  a1_
#print axioms betweenCard_holds
end Go.Proofs.YtddnpoiiimjpcaaGreatDoor
