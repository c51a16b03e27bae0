/- For every source, every tape and every script: a session is given just where the document gives one, with the same fault else; each Seek, Step, Back, Over, Out, BackOver of the script answers as the document's, and each Now tells the document's moment (the law Moves is true, and its arguments read as before); conditions: what comes in is of bulk at most 1048576 (the second form), and the listed package-level variables hold what the text of the program lays (tied). -/
import Derived.Test.YthlhecfcnfjecaaGreatDoorP29
import Derived.Test.YthlhecfcnfjecaaGreatDoorOwnMvF
import Derived.Test.YthlhecfcnfjecaaGreatDoorOwnMvG
import Derived.Test.YthlhecfcnfjecaaGreatDoorOwnMvH
set_option linter.all false
set_option maxRecDepth 100000
set_option maxHeartbeats 4000000
open Go.Value renaming slice->Xl,string->Xm
namespace Go.Proofs.YthlhecfcnfjecaaGreatDoor
open _root_.Go.Proofs.Tryz
open Go.ChangeShapes Go.WideShapes Go.ChangeAt Go.RowKit Go.Lib
open Go.ChangeMaps (open_string shut_string)
variable{H:Type}
def K8{p:TypeId × Value->H}{W:World}{e fuel n c:Nat}{d:Nat->Bool}{f:Bool}{y:Option Addr}{x:DataW H × List MemPlace}{v:List TypeId}{t:List (DataW H)}{j:Nat}(h:DataW.trod p prog W e d f fuel 22 [Xl y n c]=some x)(J:(DataW.weightsEach prog v t).all (·<=reachBytes)=true)(B:v[j]?=some 22)(w:t[j]?=some x.1):
 ∃b:List Int,b.length=n/\b.length<=17592186044416/\mK (·<W.heap.size) W (Xl y n c) b:=by
 obtain⟨b,rfl,A,I,C⟩:=Hm h J B w;refine⟨b,rfl,A,?_⟩;by_cases s:0<b.length
 .obtain⟨⟨g,o,l⟩,rfl,E,L⟩:=C s
  have G:b.length<=c:=by
   rcases Deep.open_slice1 underlying22 TG h with ⟨r, -⟩|⟨a,K,F,m,k,V,D,Pl,r, -,M, -⟩
   .simp at r
   .simp at r;omega
  have u:∀i (h:i<b.length),W.cell? ((⟨g,o,l⟩:Addr).add i)=some (.int .i64 b[i]):=λi q=>L i _ qo
  obtain rfl:l=none:=by
   have:=u 0 s;cases l with
   |none=>rfl
   |some z=>simp[Addr.add,World.cell?]at this;split at this<;>simp at this
  refine .inr ⟨g,o,c,rfl,G,E,λi q=>⟨?_,I _ (ga _)⟩⟩
  have:=u i q;rwa [show (⟨g,o,none⟩:Addr).add i=⟨g,o+i,none⟩ by unfold Addr.add;split<;>simp_all]at this
 .obtain rfl:b=[]:=kf o_
  exact .inl ⟨rfl,y,c,rfl⟩
def own:ownKnob prog.godebug=none:=k_
noncomputable abbrev wW(os:Os):World:=(World.laidAll prog os Rows.movesUptoRow.laid).forCall (λ_ _=>0) ⟨#[],#[Xm ⟨#[]⟩,Xl none 0 0,Xl none 0 0],[]⟩
def Nk(a:Os):(wW a).Shaped prog:=World.shaped_of_ZipB k_ k_
def Pz(a:Os):Input.okWide prog (wW a) .any (World.laidAll prog a Rows.movesUptoRow.laid).heap.size 3 ⟨#[],#[Xm ⟨#[]⟩,Xl none 0 0,Xl none 0 0],[]⟩:=(Input.okWide_of_okWideB k_).2
def Uw(b:Os)(a:TypeId × Value->H):DataW.whole a prog (wW b).memory Tryz.f3.params.toList (Rows.OpenSpec.upto Rows.movesSpec).vars false [Xm ⟨#[]⟩,Xl none 0 0,Xl none 0 0] 8=some ([.lit (.string []),.nil,.nil],[],[]):=k_
def Pb(H:Type):Rows.uptoSmall H [.lit (.string []),.nil,.nil]=true:=io (by simp[Rows.uptoBulkAll,Rows.uptoBulk])
def Vv(b:Os)(a:TypeId × Value->H):(Rows.OpenSpec.upto Rows.movesSpec).bare.sizedB a prog Tryz.f3 false (wW b).memory #[Xm ⟨#[]⟩,Xl none 0 0,Xl none 0 0] 8=true:=k_
def Lr(a:Os):laidMetH prog Rows.movesUptoRow.laid (wW a).memory:=by rw[MakeChecks.laidMetH_plain _ _ _ k_];exact laidMet_laidAll _ k_ k_
def lifted(m:Os)(g:m.Started)(H:Type)(a:TypeId × Value->H)(F:Stop.Interp):
 ReturnsInHanded {} checked m 3 .any ((Rows.OpenSpec.upto Rows.movesSpec).preRow a prog Tryz.f3 Rows.movesUptoRow.domain false Rows.movesUptoRow.laid) (((Rows.OpenSpec.upto Rows.movesSpec).at F).post a prog Tryz.f3 false true false false):=by
 refine returnsInHanded_of_row (C:=checked) (s:=Rows.OpenSpec.upto Rows.movesSpec) own g k_ func3
  ⟨World.laidAll prog m Rows.movesUptoRow.laid,λ_ _=>0,⟨#[],#[Xm ⟨#[]⟩,Xl none 0 0,Xl none 0 0],[]⟩,World.laidAll_os _ _ _,Nk m,rfl,Pz m,OpenSpec.preRow_of_cond 8 (Uw m a) rfl (λk G=>by cases G;exact Pb H) (Vv m a) (Lr m),by simp only[Assume.holds];exact⟨s_,s_,λ_=>Modest.zero,s_,s_⟩⟩ ?_
 intro W A l ds gs D w hW _ r M hL _ _;have f:∀(j:Nat) t v,Tryz.f3.params[j]?=some t->l[j]?=some v->Value.okWide prog W .any A t v:=w;have u:=hW;obtain⟨p,q,I,hV,rfl,_,_⟩:=hW;have S:DataW.TrodAll a prog W 0 (λ_=>true) true Tryz.f3.params.toList l.toList ds p:=I
 rw[params3]at S f M;obtain⟨v0,v1,v2,d0,d1,N,p0,p1,p2,rfl,rfl,rfl,h0,h1,X⟩:=trodAll_three S;obtain⟨rfl,rfl⟩:=trodVars_none hV;have Q:∀z∈p0++p1++p2,z.block<W.heap.size:=λz o=>by simpa using u.lt z (by simpa using o)
 have g0:=h0;have g1:=h1;have g2:=X;obtain⟨x,rfl,rfl,rfl,wx⟩:=open_string underlying9 (f 0 9 v0 rfl rfl) h0;obtain⟨y,n,c,rfl⟩:=okWide_slice underlying22 (f 1 22 v1 rfl rfl);obtain⟨y2,n2,c2,rfl⟩:=okWide_slice underlying23 (f 2 23 v2 rfl rfl);obtain⟨fuel,hf⟩:=h1;obtain⟨K,J⟩:=X;simp only[List.append_nil]at u M;have G:Rows.uptoBulkAll [.lit (.string x.data.toList),d1,N]<=1048576:=of_decide_eq_true (r _ rfl);simp only[Rows.uptoBulkAll,Rows.uptoBulk]at G;rw[MakeChecks.laidMetH_plain _ _ _ k_]at hL
 have B:ug W:=hL;obtain⟨V,rfl,t1,t2⟩:=K8 hf M (j:=1) rfl rfl;obtain⟨L,rfl,T,o2⟩:=Wi J;have T:4*L.length<=Rows.uptoBulk N:=T;refine(Iy (src:=x.data.toList) B.all B.ref B.pow B.ym o_ t1 t2 o2 o_).mono λe W' ⟨he,P⟩=>?_
 subst he;have i:∀{t:TypeId} {v:Value} {d:DataW H} {E:List MemPlace},prog.readableRec t=true->t<prog.types.size->DataW.Trod a prog W 0 (λ_=>true) true t v d E->(∀z∈E,z.block<W.heap.size)->DataW.Trod a prog W' 0 (λb=>decide (b<W.heap.size)) true t v d E:=λhr hs h hl=>Below.trod m8 hr hs h P hl
 exact⟨_,rfl,_,_,_,[],_,[],u,trodAll_mk1 (shut_bool underlying4 _),trodAll_mk3 (i k_ (of_decide_eq_true k_) g0 λz o=>by cases o) (i k_ (of_decide_eq_true k_) g1 λz o=>Q z rE) (i k_ (of_decide_eq_true k_) g2 λz o=>Q z rE),rfl,P.frame _,λh=>by cases h⟩
def WZ:joinedFacts prog 3 Tryz.f3 (Rows.OpenSpec.upto Rows.movesSpec).bare Rows.movesUptoRow=true:=by
 unfold joinedFacts;simp only[Bool.and_eq_true];repeat' apply du
 all_goals first
  |with_reducible exact m8
  |with_reducible exact Uu
  |with_reducible exact Ol
  |with_reducible exact Hg
  |with_reducible exact P4
  |with_reducible exact Uj
  |with_reducible exact Qe
  |with_reducible exact Ml
  |with_reducible exact Pa
  |with_reducible exact Ta
  |kernel_rfl
def GE:Rows.MovesUptoSaid:=
 OpenClaim.holds_of_cond 3 Tryz.f3 rfl rfl rfl rfl rfl rfl rfl ⟨rfl,rfl,rfl,rfl,rfl⟩ rfl rfl rfl rfl rfl k_ func3 WZ
  (of_decide_eq_true k_) (by unfold Func.isWrapper;first|(rw[ec (by decide+kernel)];kernel_rfl)|(rw[dy (by decide+kernel)];exact⟨rfl,rfl⟩))
  (λc a H b _ F=>by rw[OpenClaim.pre_eq_preRow];exact lifted c a H b F)
theorem movesUptoCard_holds:Rows.MovesUptoCardSaid:=
 Claim7.holds_tied_plain_at .later [] [.data,.data,.data,.data,.data,.data,.sentinel,.sentinel,.data,.pinned] true _ true GE (λ_ h=>by cases h) k_ (λ_ h=>by cases h) movesUpto_row_tie rfl ⟨rfl,rfl⟩ k_ rfl
  (λf g e b=>by
    obtain rfl:f=3:=fo (Wh.symm.trans e) |>.symm
    obtain rfl:g=Tryz.f3:=(fo (func3.symm.trans b)).symm
    exact⟨Qr,λj t c=>by
     rw[params3]at c;have d:t∈[9,22,23]:=by simpa using Array.mem_of_getElem? c
     have a:([9,22,23].all λu=> !prog.wantsStandIn u)=true:=k_
     exact(show prog.wantsStandIn t=false by simpa using List.all_eq_true.1 a t d)⟩)
  Nh
#print axioms movesUptoCard_holds
