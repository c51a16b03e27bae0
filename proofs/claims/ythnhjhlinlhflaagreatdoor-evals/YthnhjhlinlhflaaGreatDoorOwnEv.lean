/- For every source, every tape and every script: a session is given just where the document gives one, with the same fault else; each Seek, Step, Back of the script answers as the document's, and each Eval, wherever these have brought the session, answers with the document's text, stop, fault and line (the law Evals is true, and its arguments read as before); condition: the listed package-level variables hold what the text of the program lays (tied). -/
import Derived.Test.YthnhjhlinlhflaaGreatDoorP29
import Derived.Test.YthnhjhlinlhflaaGreatDoorOwnEvF
import Derived.Test.YthnhjhlinlhflaaGreatDoorOwnEvG
import Derived.Test.YthnhjhlinlhflaaGreatDoorOwnEvH
set_option linter.all false
set_option maxRecDepth 100000
set_option maxHeartbeats 4000000
namespace Go.Proofs.YthnhjhlinlhflaaGreatDoor
open _root_.Go.Proofs.Tryz
open Go.ChangeShapes Go.WideShapes Go.ChangeAt Go.RowKit Go.Lib
open Go.ChangeMaps (open_string shut_string)
def L8{H:Type}{p:TypeId × Value->H}{W:World}{e fuel n c:Nat}{d:Nat->Bool}{f:Bool}{y:Option Addr}{x:DataW H × List MemPlace}{v:List TypeId}{t:List (DataW H)}{j:Nat}(h:DataW.trod p prog W e d f fuel 22 [.slice y n c]=some x)(J:(DataW.weightsEach prog v t).all (·<=reachBytes)=true)(B:v[j]?=some 22)(w:t[j]?=some x.1):
 ∃b:List Int,b.length=n/\b.length<=17592186044416/\mR (·<W.heap.size) W (.slice y n c) b:=by
 obtain⟨b,rfl,A,I,C⟩:=Wb h J B w;refine⟨b,rfl,A,?_⟩;by_cases s:0<b.length
 .obtain⟨⟨g,o,l⟩,rfl,E,L⟩:=C s
  have G:b.length<=c:=by
   rcases Deep.open_slice1 underlying22 TZ h with ⟨r, -⟩|⟨a,K,F,m,k,V,D,Pl,r, -,M, -⟩
   .simp at r
   .simp at r;omega
  have u:∀i (h:i<b.length),W.cell? ((⟨g,o,l⟩:Addr).add i)=some (.int .i64 b[i]):=λi q=>L i _ ri
  obtain rfl:l=none:=by
   have:=u 0 s;cases l with
   |none=>rfl
   |some z=>simp[Addr.add,World.cell?]at this;split at this<;>simp at this
  refine .inr ⟨g,o,c,rfl,G,E,λi q=>⟨?_,I _ (ga _)⟩⟩
  have:=u i q;rwa [show (⟨g,o,none⟩:Addr).add i=⟨g,o+i,none⟩ by unfold Addr.add;split<;>simp_all]at this
 .obtain rfl:b=[]:=jp o_
  exact .inl ⟨rfl,y,c,rfl⟩
def own:ownKnob prog.godebug=none:=k_
def lifted(r:Os)(i:r.Started)(H:Type)(f:TypeId × Value->H):
 ReturnsInHanded {} checked r 3 .any (λw a=>(Rows.evalsSpec.pre f prog Tryz.f3 [] false w a/\laidMetH prog Rows.evalsRow.laid w)/\sizedMet f prog Tryz.f3 (OpenSpec.ofChange Rows.evalsSpec) false w a)
  (Rows.evalsSpec.post f prog Tryz.f3 false true false false):=by
 refine returnsInHanded_of_change_and (C:=checked) (X:=λw _=>laidMetH prog Rows.evalsRow.laid w) (λ_ _ _ hh h=>h.of_heap hh) own i k_ func3
  (ChangeSpec.witness_shaped (enc:=f) (C:=checked) (os:=r) (X:=λw _=>laidMetH prog Rows.evalsRow.laid w) false (World.laidAll prog r Rows.evalsRow.laid) #[.string ⟨#[]⟩,.slice none 0 0,.slice none 0 0] 8 (World.laidAll_os _ _ _)
    (World.shaped_of_ZipB k_ k_) k_ k_ k_
    (by rw[MakeChecks.laidMetH_plain _ _ _ k_];exact laidMet_laidAll _ k_ k_)) ?_
 intro W s a ds gs B o S _ u P _;have g:∀(j:Nat) t v,Tryz.f3.params[j]?=some t->a[j]?=some v->Value.okWide prog W .any s t v:=o;have m:=S;obtain⟨p,q,F,hV,rfl,_,_⟩:=S;have L:DataW.TrodAll f prog W 0 (λ_=>true) true Tryz.f3.params.toList a.toList ds p:=F
 rw[params3]at L g u;obtain⟨v0,V,v2,d0,d1,d2,p0,p1,U,rfl,rfl,rfl,Q,T,N⟩:=trodAll_three L;obtain⟨rfl,rfl⟩:=trodVars_none hV;have K:∀z∈p0++p1++U,z.block<W.heap.size:=λz l=>by simpa using m.lt z (by simpa using l)
 have g0:=Q;have g1:=T;have g2:=N;obtain⟨x,rfl,rfl,rfl,wx⟩:=open_string underlying9 (g 0 9 v0 rfl rfl) Q;obtain⟨y,n,c,rfl⟩:=okWide_slice underlying22 (g 1 22 V rfl rfl);obtain⟨y2,n2,c2,rfl⟩:=okWide_slice underlying23 (g 2 23 v2 rfl rfl);obtain⟨fuel,hf⟩:=T;obtain⟨I,G⟩:=N;simp only[List.append_nil]at m u;rw[MakeChecks.laidMetH_plain _ _ _ k_]at P
 have A:ua W:=P;have aa:=reachBytes_lt
 have E:x.data.toList.length<=140737488355328:=by have:=sized_string u (j:=0) (t:=9) (bytes:=x.data.toList) rfl rfl;omega
 obtain⟨M,rfl,t1,t2⟩:=L8 hf u (j:=1) rfl rfl;obtain⟨ab,rfl,o1,o2,o3⟩:=Vt G u (j:=2) rfl rfl;refine(Lp (src:=x.data.toList) A.all A.ref A.pow A.yh E t1 t2 o3 o1 o2).mono λe W' ⟨he,J⟩=>?_
 subst he;have k:∀{t:TypeId} {v:Value} {d:DataW H} {D:List MemPlace},prog.readableRec t=true->t<prog.types.size->DataW.Trod f prog W 0 (λ_=>true) true t v d D->(∀z∈D,z.block<W.heap.size)->DataW.Trod f prog W' 0 (λb=>decide (b<W.heap.size)) true t v d D:=λhr hs h hl=>Below.trod o7 hr hs h J hl
 exact⟨_,rfl,_,_,_,[],_,[],m,trodAll_mk1 (shut_bool underlying4 _),trodAll_mk3 (k k_ (of_decide_eq_true k_) g0 λz l=>by cases l) (k k_ (of_decide_eq_true k_) g1 λz l=>K z me) (k k_ (of_decide_eq_true k_) g2 λz l=>K z me),rfl,J.frame _,λh=>by cases h⟩
def ZC:joinedFacts prog 3 Tryz.f3 Rows.evalsSpec Rows.evalsRow=true:=by
 unfold joinedFacts;simp only[Bool.and_eq_true];repeat' apply du
 all_goals first
  |with_reducible exact o7
  |with_reducible exact Mr
  |with_reducible exact Sh
  |with_reducible exact Qr
  |with_reducible exact P9
  |with_reducible exact V_
  |with_reducible exact GV
  |with_reducible exact Ke
  |with_reducible exact Qd
  |with_reducible exact Ln
  |kernel_rfl
def ZA:Rows.EvalsSaid:=
 OpenClaim.holds_of_wide 3 Tryz.f3 rfl rfl rfl rfl rfl rfl rfl ⟨rfl,rfl,rfl,rfl,rfl⟩ rfl rfl rfl rfl rfl k_ func3 ZC
  (of_decide_eq_true k_) (by unfold Func.isWrapper;first|(rw[ec (by decide+kernel)];kernel_rfl)|(rw[dy (by decide+kernel)];exact⟨rfl,rfl⟩))
  (λc a H b _=>lifted c a H b)
theorem evalsCard_holds:Rows.EvalsCardSaid:=
 Claim7.holds_tied_plain_at .later [] [.data,.data,.data,.data,.data,.data,.sentinel,.sentinel,.data,.pinned] true _ true ZA (λ_ h=>by cases h) k_ (λ_ h=>by cases h) evals_row_tie rfl ⟨rfl,rfl⟩ k_ rfl
  (λf g e b=>by
    obtain rfl:f=3:=fm (Vu.symm.trans e) |>.symm
    obtain rfl:g=Tryz.f3:=(fm (func3.symm.trans b)).symm
    exact⟨Oj,λj t c=>by
     rw[params3]at c;have d:t∈[9,22,23]:=by simpa using Array.mem_of_getElem? c
     have a:([9,22,23].all λu=> !prog.wantsStandIn u)=true:=k_
     exact(show prog.wantsStandIn t=false by simpa using List.all_eq_true.1 a t d)⟩)
  Qn
#print axioms evalsCard_holds
