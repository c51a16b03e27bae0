/- For every source and every tape: Start gives a session just where the document gives one, with the same fault else; every moment of the run is told as the document tells it, one after the other; there is none ahead of the first or behind the last (the law Runs is true, and its arguments read as before); condition: the listed package-level variables hold what the text of the program lays (tied). -/
import Derived.Test.YtjhbbdpfkccohaaGreatDoorOwnRuF
import Derived.Test.YtjhbbdpfkccohaaGreatDoorOwnRuG
import Derived.Test.YtjhbbdpfkccohaaGreatDoorOwnRuH
import Derived.Test.YtjhbbdpfkccohaaGreatDoorP25
import Derived.Test.YtjhbbdpfkccohaaGreatDoorP26
set_option linter.all false
set_option maxRecDepth 100000
set_option maxHeartbeats 4000000
namespace Go.Proofs.YtjhbbdpfkccohaaGreatDoor
open _root_.Go.Proofs.Tryz
open Go.ChangeShapes Go.WideShapes Go.ChangeAt Go.RowKit Go.Lib
open Go.ChangeMaps (open_string shut_string)
def G5{H:Type}{p:TypeId × Value->H}{W:aN}{e fuel n c:Nat}{d:Nat->Bool}{f:Bool}{y:Option Addr}{x:DataW H × List MemPlace}{v:List TypeId}{t:List (DataW H)}{j:Nat}(h:DataW.trod p prog W e d f fuel 22 [P_ y n c]=some x)(J:(DataW.weightsEach prog v t).all (·<=reachBytes)=true)(B:v[j]?=some 22)(w:t[j]?=some x.1):
 ∃b:List Int,b.length=n/\b.length<=17592186044416/\mK (·<H_ W) W (P_ y n c) b:=by
 obtain⟨b,rfl,A,I,C⟩:=Hb h J B w;refine⟨b,aJ,A,?_⟩;by_cases s:0<b.length
 .obtain⟨⟨g,o,l⟩,rfl,E,L⟩:=C s
  have G:b.length<=c:=by
   rcases Deep.open_slice1 underlying22 X8 h with ⟨r, -⟩|⟨a,K,F,m,k,V,D,Pl,r, -,M, -⟩
   .simp at r
   simp at r;exact aD
  have u:∀i (h:i<b.length),W.cell? ((⟨g,o,l⟩:Addr).add i)=some (I_ b[i]):=λi q=>L i _ qy
  obtain rfl:l=none:=by
   have:=u 0 s;cases l with
   |none=>rfl
   |some z=>simp[Addr.add,World.cell?]at this;split at this<;>simp at this
  refine .inr ⟨g,o,c,aJ,G,E,λi q=>⟨?_,I _ (ge _)⟩⟩
  have:=u i q;rwa [show (⟨g,o,none⟩:Addr).add i=(aL g (o+i)) by unfold Addr.add;split<;>simp_all]at this
 obtain rfl:b=[]:=jt aD;exact .inl ⟨aJ,y,c,aJ⟩
def own:ownKnob prog.godebug=none:=k_
def lifted(r:Os)(g:r.Started)(H:Type)(f:TypeId × Value->H):
 ReturnsInHanded {} checked r 3 .any (λw a=>(Rows.runsSpec.pre f prog Tryz.f3 [] false w a/\laidMetH prog Rows.runsRow.laid w)/\sizedMet f prog Tryz.f3 (OpenSpec.ofChange Rows.runsSpec) false w a)
  (Rows.runsSpec.post f prog Tryz.f3 false true false false):=by
 refine returnsInHanded_of_change_and (C:=checked) (X:=λw _=>laidMetH prog Rows.runsRow.laid w) (λ_ _ _ hh h=>h.of_heap hh) own g k_ func3
  (ChangeSpec.witness_shaped (enc:=f) (C:=checked) (os:=r) (X:=λw _=>laidMetH prog Rows.runsRow.laid w) false (World.laidAll prog r Rows.runsRow.laid) #[Q_ ⟨#[]⟩,bO] 8 (World.laidAll_os _ _ _)
    (World.shaped_of_ZipB k_ k_) k_ k_ k_
    (by rw[MakeChecks.laidMetH_plain _ _ _ k_];exact laidMet_laidAll _ k_ k_)) ?_
 intro W o a T gs A m J _ B L _;have i:∀(j:Nat) t v,Tryz.f3.params[j]?=some t->a[j]?=some v->Value.okWide prog W .any o t v:=m;have l:=J;obtain⟨p,q,F,hV,rfl,_,_⟩:=J;have M:DataW.TrodAll f prog W 0 (λ_=>true) true Tryz.f3.params.toList a.toList T p:=F
 rw[params3]at M i B;obtain⟨v0,Q,d0,d1,p0,V,rfl,rfl,rfl,G,K⟩:=trodAll_two M;obtain⟨rfl,rfl⟩:=trodVars_none hV;have S:∀z∈p0++V,z.block<H_ W:=λz s=>by simpa using l.lt z (by simpa using s)
 have P:=G;have g1:=K;obtain⟨x,rfl,rfl,rfl,wx⟩:=open_string underlying9 (i 0 9 v0 rfl rfl) G;obtain⟨y,n,c,rfl⟩:=okWide_slice underlying22 (i 1 22 Q rfl rfl);obtain⟨fuel,Y⟩:=K;simp only[List.append_nil]at l B;rw[MakeChecks.laidMetH_plain _ _ _ k_]at L
 have u:so W:=L;have U:=reachBytes_lt
 have D:(dY x).length<=140737488355328:=by have:=sized_string B (j:=0) (t:=9) (bytes:=dY x) aJ aJ;exact aD
 obtain⟨N,rfl,Z,O⟩:=G5 Y B (j:=1) rfl rfl;refine(Ss (src:=dY x) u.all u.ref u.pow u.wv D Z O).mono λe W' ⟨he,I⟩=>?_
 subst he;have k:∀{t:TypeId} {v:aW} {d:DataW H} {E:List MemPlace},prog.readableRec t=true->t<prog.types.size->DataW.Trod f prog W 0 (λ_=>true) true t v d E->(∀z∈E,z.block<H_ W)->DataW.Trod f prog W' 0 (λb=>decide (b<H_ W)) true t v d E:=λhr hs h hl=>Below.trod X7 hr hs h I hl
 exact⟨_,aJ,_,_,_,[],_,[],l,trodAll_mk1 (shut_bool underlying4 _),trodAll_mk2 (k k_ (of_decide_eq_true k_) P λz s=>by cases s) (k k_ (of_decide_eq_true k_) g1 λz s=>S z (by simp[s])),rfl,I.frame _,λh=>by cases h⟩
def E3:joinedFacts prog 3 Tryz.f3 Rows.runsSpec Rows.runsRow=true:=by
 unfold joinedFacts;simp only[Bool.and_eq_true];repeat' apply dy
 all_goals first
  |with_reducible exact X7
  |with_reducible exact Ho
  |with_reducible exact Gp
  |with_reducible exact Rg
  |with_reducible exact L9
  |with_reducible exact Oy
  |with_reducible exact Ik
  |with_reducible exact Pq
  |with_reducible exact Po
  |with_reducible exact Pz
  |kernel_rfl
def E1:Rows.RunsSaid:=
 OpenClaim.holds_of_wide 3 Tryz.f3 rfl rfl rfl rfl rfl rfl rfl ⟨rfl,rfl,rfl,rfl,rfl⟩ rfl rfl rfl rfl rfl k_ func3 E3
  (of_decide_eq_true k_) (by unfold Func.isWrapper;first|(rw[ef (by decide+kernel)];kernel_rfl)|(rw[ea (by decide+kernel)];exact⟨aJ,aJ⟩))
  (λc a H b _=>lifted c a H b)
theorem runsCard_holds:Rows.RunsCardSaid:=
 Claim7.holds_tied_plain_at .later [] [.data,.data,.data,.data,.data,.data,.sentinel,.sentinel,.data,.pinned] true _ true E1 (λ_ h=>by cases h) k_ (λ_ h=>by cases h) runs_row_tie rfl ⟨rfl,rfl⟩ k_ rfl
  (λf g e b=>by
    obtain rfl:f=3:=ft (Fk.symm.trans e) |>.symm
    obtain rfl:g=Tryz.f3:=(ft (func3.symm.trans b)).symm
    exact⟨Kq,λj t c=>by
     rw[params3]at c;have d:t∈[9,22]:=by simpa using Array.mem_of_getElem? c
     have a:([9,22].all λu=> !prog.wantsStandIn u)=true:=k_
     exact(show prog.wantsStandIn t=false by simpa using List.all_eq_true.1 a t d)⟩)
  Hd
#print axioms runsCard_holds
