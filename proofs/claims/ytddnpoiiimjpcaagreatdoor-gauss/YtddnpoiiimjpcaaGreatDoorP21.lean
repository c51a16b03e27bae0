/- Contracts of the program: on to the first state that fits: the walk. -/
import Derived.Test.YtddnpoiiimjpcaaGreatDoorP20
set_option linter.defProp false
set_option maxRecDepth 100000
set_option maxHeartbeats 4000000
namespace Go.Proofs.YtddnpoiiimjpcaaGreatDoor
open _root_.Go.Proofs.Tryz
open Go.RowKit
attribute [local go_sem] Oper.semAt_some
def SV.val_inj{a b:SV}(h:a.val=b.val):a=b:=by
 cases a;cases b;simp only[SV.val,Value.agg.injEq] at h;simp at h;obtain⟨d,⟨rfl,rfl,rfl⟩,⟨rfl,rfl,rfl⟩,⟨rfl,rfl,rfl⟩,c⟩:=h;obtain rfl:=Int.ofNat.inj d;obtain rfl:=Int.ofNat.inj c;rfl
def J2{τ:Type}(P:Program)(gf:Nat)(lb:Array Value)(w:aH)(A B:τ->SV->World->Prop)(E:τ->World->Prop):Prop:=
 ∀(R0:Loop) (Rdy:World->Prop) (Don:World->Prop),(∀W W',Rdy W->W'.heap[w.heap.size]?=W.heap[w.heap.size]?->W'.heap[w.heap.size+1]?=W.heap[w.heap.size+1]?->Rdy W')->(∀W,Rdy W->w.heap.size+1<W.heap.size)->(∀W W',Don W->W'.heap[w.heap.size]?=W.heap[w.heap.size]?->W'.heap[w.heap.size+1]?=W.heap[w.heap.size+1]?->Don W')->
  Rdy ((w.alloc (.deferred (some []))).alloc (.loop R0))->
  (∀t s W,A t s W->Rdy W->YieldAt Fence.wide 0 P (w.heap.size+1) #[s.val] W fun e W'=>(e=bE (.bool true)/\B t s W'/\Rdy W')\/(e=bE (.bool false)/\E t W'/\Don W'))->
  Calls P gf (#[.func (.yield (w.heap.size+1)) #[] #[]]++lb) ((w.alloc (.deferred (some []))).alloc (.loop R0)) fun e W'=>(∃v,e=bE v)/\∃t,E t W'/\(Rdy W'\/Don W')
def XS{τ:Type}(w:aH)(sb gf H:Nat)(lb Q O:Array Value)(s:SV)(R:Bool->World->Prop)(A B:τ->SV->World->Prop)(S:τ->SV->Nat->World->Prop)(E:τ->World->Prop)
 (af:sb<w.heap.size)
 (k0:w.cell? (aL sb 0)=some (Iv0 s.t)) (k1:w.cell? (aL sb 1)=some (.slice s.x1 s.n1 s.c1)) (k2:w.cell? (aL sb 2)=some (.slice s.x2 s.n2 s.c2)) (k3:w.cell? (aL sb 3)=some (.slice s.x3 s.n3 s.c3)) (k4:w.cell? (aL sb 4)=some (Iv0 s.q))
 (ac:∀l W,(callFunc gf l).run prog W=.ok (.enter gf l) W) (ae:∀l W,(callFunc H l).run prog W=.ok (.enter H l) W)
 (q:Hid (∀t d b W r,S t d b W->S t d b (W.putObj (w.heap.size+4) (.loop r)))) (D:Hid (∀t d W r,B t d W->B t d (W.putObj (w.heap.size+4) (.loop r)))) (p:Hid (∀t W r,E t W->E t (W.putObj (w.heap.size+4) (.loop r))))
 (HA:Hid (∀t d W,A t d W->S t d W.heap.size (W.alloc (.cells d.cells 60))/\w.heap.size+4<W.heap.size))
 (y:Hid (∀t d b W,S t d b W->W.heap[b]?=some (.cells d.cells 60 (0,0))/\W.heap[w.heap.size]?=some (.cells #[.func (.func H) Q O] 89 (0,0))/\(∃c,W.heap[w.heap.size+1]?=some (.cells c 60 (0,0))/\5<=c.size)/\(∃v,W.heap[w.heap.size+1+1]?=some (.cells #[v] 4 (0,0)))/\b≠w.heap.size/\b≠w.heap.size+1/\b≠w.heap.size+1+1/\
   Calls prog H (Q++ #[d.val]++O) ((fG W (w.heap.size+1) d).setCell (aL (w.heap.size+1+1) 0) (.bool true)) fun e J=>∃r,e=bE (.bool r)/\(J.heap[w.heap.size+3]?=W.heap[w.heap.size+3]?/\J.heap[w.heap.size+3+1]?=W.heap[w.heap.size+3+1]?)/\(r=true->E t J)/\(r=false->B t d J)))
 (X:Hid (∀t W,E t W->∃a fd,W.heap[w.heap.size+1]?=some (.cells (SV.cells a) 60 (0,0))/\W.heap[w.heap.size+1+1]?=some (.cells #[.bool fd] 4 (0,0))/\(∃c T,W.heap[sb]?=some (.cells c T (0,0))/\5<=c.size)/\R fd ((fG W sb a).putObj (w.heap.size+3) (.deferred none))))
 (HI:Hid (∀N,N=((w.alloc (.cells #[.func (.func H) Q O] 89)).alloc (.cells s.cells 60)).alloc (.cells #[.bool false] 4)->J2 prog gf lb N A B E)):
 Calls prog 36 #[bO sb,.func (.func gf) #[] lb,.func (.func H) Q O] w fun e w'=>∃b,e=bE (.bool b)/\R b w':=by
 refine(callsIn_wide (n:=0)).1 (callsIn_of_wp_marks func36 rfl trivial ?_ rfl);simp only[ntmps36,List.size_toArray,Y9,Z5,Nat.reduceAdd,Nat.reduceSub,Array.replicate_succ,Array.replicate_zero,List.push_toArray,List.append_toArray,ai_,l9];refine wpIn_wide.2 ?_;go_wp2_with fail;have F:=HI _ rfl;unfold SV.cells at F;obtain⟨N,I⟩:∃N,((w.alloc (.cells #[.func (.func H) Q O] 89)).alloc (.cells #[Iv0 s.t,.slice s.x1 s.n1 s.c1,.slice s.x2 s.n2 s.c2,.slice s.x3 s.n3 s.c3,Iv0 s.q] 60)).alloc (.cells #[.bool false] 4)=N:=⟨_,rfl⟩;have k:N.heap.size=w.heap.size+3:=by rw[<-I];simp
 rw[I] at F ⊢
 clear I HI;have z:=aB F;clear F
 refine wpIn_wide.1 (QT (P:=prog) (gf:=gf) (lb:=lb) rfl ac (fun t x W=>∃d,x= #[SV.val d]/\A t d W) (fun t x W=>∃d,x= #[SV.val d]/\B t d W)
  (fun t x a' W=>∃d b,x= #[SV.val d]/\a'={ tmps:= #[bO sb,.func (.func gf) #[] lb,.func (.func H) Q O,undef,undef,bO w.heap.size,.bool false,bO (w.heap.size+1),bO (w.heap.size+1+1),bO b,bO sb,bO sb,bO sb,s.val,.func (.func gf) #[] lb,SV.val d,undef,undef,undef,undef,undef,undef,undef,undef,undef],defers:=[] }/\S t d b W)
  (fun t c x W=>c=.exit 0/\E t W) (fun W=>∃t,E t W) ?hps ?hAx ?hB ?hBx ?hZ ?hassign ?hbody ?hseq ?hdone ?hstop)
 case hps=>rintro t x W ⟨d,rfl,_⟩;rfl
 case hAx=>rintro t x a' W r ⟨d,b,rfl,rfl,h⟩;rw[k];exact⟨d,b,rfl,rfl,q _ _ _ _ _ h⟩
 case hB=>rintro t x W r ⟨d,rfl,h⟩;rw[k];exact⟨d,rfl,D _ _ _ _ h⟩
 case hBx=>rintro t c x W r ⟨rfl,h⟩;rw[k];exact⟨rfl,p _ _ _ h⟩
 case hZ=>rintro W r ⟨t,h⟩;rw[k];exact⟨t,p _ _ _ h⟩
 case hassign=>
  rintro t x W K ⟨d,rfl,h⟩ hK;obtain⟨q1,q2⟩:=HA _ _ _ h;have aa:=aB (hK _ _ (Z3 _ _ _ (by rw[k];omega)) (Z3 _ _ _ (by rw[k];omega)) ⟨d,_,rfl,rfl,q1⟩)
  unfold SV.val SV.cells at aa;clear hK q1 h;unfold SV.val;gi_wp2
  exact aa
 case hbody=>
  rintro t x a' W ⟨d,b,rfl,rfl,h⟩ C;obtain⟨g,m,⟨c,f,V⟩,⟨v,e4⟩,n1,n2,n3,hF⟩:=y _ _ _ _ h;rw[k];have HF:=aB hF;unfold fG SV.val at HF;unfold SV.val;unfold SV.cells at g;have d0:=aA (i:=0) g rfl;have d1:=aA (i:=1) g rfl;have d2:=aA (i:=2) g rfl;have d3:=aA (i:=3) g rfl;have d4:=aA (i:=4) g rfl;have c0:=aA (i:=0) m rfl;have g0:=aA (i:=0) f (Z0 (by omega))
  have g1:=aA (i:=1) f (Z0 (by omega))
  have g2:=aA (i:=2) f (Z0 (by omega))
  have g3:=aA (i:=3) f (Z0 (by omega))
  have g4:=aA (i:=4) f (Z0 (by omega))
  have f0:=aE (i:=0) f;have f1:=aE (i:=1) f;have f2:=aE (i:=2) f;have f3:=aE (i:=3) f;have f4:=aE (i:=4) f;have o0:=aA (i:=0) e4 rfl;have o1:=aE (i:=0) e4;have l1:=aD g;have l2:=aD m;have l3:=aD f;have l4:=aD e4;clear h hF g m f e4 HA y X q D p z k0 k1 k2 k3 k4;gi_wp2
  refine⟨trivial,rfl,(CallsIn.inRound _ (callsIn_wide.2 HF)).mono ?_⟩;rintro e J ⟨r,rfl,hq,G,hB⟩;cases r
  ·have HB:=aB (hB rfl);clear hB G HF d0 d1 d2 d3 d4 c0 g0 g1 g2 g3 g4 f0 f1 f2 f3 f4 o0 o1;gi_wp2
   exact⟨hq,d,rfl,HB⟩
  ·have ad:=aB (G rfl);clear hB G HF d0 d1 d2 d3 d4 c0 g0 g1 g2 g3 g4 f0 f1 f2 f3 f4 o0 o1;gi_wp2
   exact⟨hq,rfl,ad⟩
 case hseq=>
  intro R0 Rdy Don h1 h2 h3 h4 h5 hY;refine callsIn_wide.2 ((z R0 Rdy (Don (Code.exit 0)) h1 h2 (h3 _) h5 ?_).mono ?_)
  ·intro t d W hA M;obtain⟨fn,tmps,u,Z,hy,hr⟩:=hY t #[SV.val d] W ⟨d,rfl,hA⟩ M;refine⟨fn,tmps,u,Z,hy,hr.mono ?_⟩;rintro e J (⟨rfl,⟨s2,m,hB⟩,ab⟩|⟨rfl,c,⟨rfl,G⟩,o⟩)
   ·obtain rfl:s2=d:=SV.val_inj (by simpa using m.symm)
    exact Y4 ⟨rfl,hB,ab⟩
   ·exact Y3 ⟨rfl,G,o⟩
  ·rintro e J ⟨hv,t,G,hr|o⟩
   ·exact⟨hv,Y4 ⟨⟨t,G⟩,hr⟩⟩
   ·exact⟨hv,Y3 ⟨t,_,#[],⟨rfl,G⟩,o⟩⟩
 case hdone=>
  rintro W ⟨t,U⟩ o C;rw[k] at o C ⊢
  obtain⟨a,fd,g,m,⟨c,T,f,V⟩,M⟩:=X _ _ U;have HR:=aB M;unfold fG at HR;unfold SV.cells at g;have d0:=aA (i:=0) g rfl;have d1:=aA (i:=1) g rfl;have d2:=aA (i:=2) g rfl;have d3:=aA (i:=3) g rfl;have d4:=aA (i:=4) g rfl;have o0:=aA (i:=0) m rfl;have g0:=aA (i:=0) f (Z0 (by omega))
  have g1:=aA (i:=1) f (Z0 (by omega))
  have g2:=aA (i:=2) f (Z0 (by omega))
  have g3:=aA (i:=3) f (Z0 (by omega))
  have g4:=aA (i:=4) f (Z0 (by omega))
  have f0:=aE (i:=0) f;have f1:=aE (i:=1) f;have f2:=aE (i:=2) f;have f3:=aE (i:=3) f;have f4:=aE (i:=4) f;have l1:=aD g;have l2:=aD m;have l3:=aD f;have n1:w.heap.size+1≠sb:=by omega
  have n2:w.heap.size+1+1≠sb:=by omega
  have Y:(((((W.setCell (aL sb 0) (Iv0 a.t)).setCell (aL sb 1) (.slice a.x1 a.n1 a.c1)).setCell (aL sb 2) (.slice a.x2 a.n2 a.c2)).setCell (aL sb 3) (.slice a.x3 a.n3 a.c3)).setCell (aL sb 4) (Iv0 a.q)).heap[w.heap.size+3]?=some (.deferred (some [])):=by
   have j:w.heap.size+3≠sb:=by omega
   rw[Y6 _ _ _ _ j,Y6 _ _ _ _ j,Y6 _ _ _ _ j,Y6 _ _ _ _ j,Y6 _ _ _ _ j];exact o
  have L:=aB Y;clear M g m f X HA y q D p z U o Y k0 k1 k2 k3 k4;go_wp2_with fail;refine⟨by simp,.inl ⟨_,_,rfl,run_takeDeferred L,?_⟩⟩
  exact⟨_,results_tmp rfl _ _ _,_,rfl,HR⟩
 case hstop=>
  rintro t c x W ⟨rfl,U⟩ o C;rw[k] at o C ⊢
  obtain⟨a,fd,g,m,⟨c,T,f,V⟩,M⟩:=X _ _ U;have HR:=aB M;unfold fG at HR;unfold SV.cells at g;have d0:=aA (i:=0) g rfl;have d1:=aA (i:=1) g rfl;have d2:=aA (i:=2) g rfl;have d3:=aA (i:=3) g rfl;have d4:=aA (i:=4) g rfl;have o0:=aA (i:=0) m rfl;have g0:=aA (i:=0) f (Z0 (by omega))
  have g1:=aA (i:=1) f (Z0 (by omega))
  have g2:=aA (i:=2) f (Z0 (by omega))
  have g3:=aA (i:=3) f (Z0 (by omega))
  have g4:=aA (i:=4) f (Z0 (by omega))
  have f0:=aE (i:=0) f;have f1:=aE (i:=1) f;have f2:=aE (i:=2) f;have f3:=aE (i:=3) f;have f4:=aE (i:=4) f;have l1:=aD g;have l2:=aD m;have l3:=aD f;have n1:w.heap.size+1≠sb:=by omega
  have n2:w.heap.size+1+1≠sb:=by omega
  have Y:(((((W.setCell (aL sb 0) (Iv0 a.t)).setCell (aL sb 1) (.slice a.x1 a.n1 a.c1)).setCell (aL sb 2) (.slice a.x2 a.n2 a.c2)).setCell (aL sb 3) (.slice a.x3 a.n3 a.c3)).setCell (aL sb 4) (Iv0 a.q)).heap[w.heap.size+3]?=some (.deferred (some [])):=by
   have j:w.heap.size+3≠sb:=by omega
   rw[Y6 _ _ _ _ j,Y6 _ _ _ _ j,Y6 _ _ _ _ j,Y6 _ _ _ _ j,Y6 _ _ _ _ j];exact o
  have L:=aB Y;clear M g m f X HA y q D p z U o Y k0 k1 k2 k3 k4;refine wpIn_wide.2 ?_;go_wp2_with fail;refine⟨by simp,.inl ⟨_,_,rfl,run_takeDeferred L,?_⟩⟩
  exact⟨_,results_tmp rfl _ _ _,_,rfl,HR⟩
def AQ(w:aH)(sb:Nat)(s:SV)(P N:SV->Bool->World->Prop)
 (r:Hid (Calls prog 87 #[s.val] ((w.alloc (.cells s.cells 60)).alloc (.cells #[Iv0 0,bV,bV,bV,Iv0 0] 60)) fun e g=>∃a ok,e=bE (.tuple #[SV.val a,.bool ok])/\N a ok g))
 (t:Hid (∀a W,N a false W->(∃c,W.heap[w.heap.size+1]?=some (.cells c 60 (0,0))/\5<=c.size)/\P a false ((fG W (w.heap.size+1) a).alloc (.cells a.cells 60))))
 (H:Hid (∀a W,N a true W->Calls prog 45 #[bO sb,a.val] (W.alloc (.cells a.cells 60)) fun e g=>e=bE (.tuple #[])/\g.heap[W.heap.size]?=some (.cells a.cells 60 (0,0))/\(∃c,g.heap[w.heap.size+1]?=some (.cells c 60 (0,0))/\5<=c.size)/\w.heap.size+1<W.heap.size/\P a true (fG g (w.heap.size+1) a))):
 Calls prog 55 #[bO sb,s.val] w fun e g=>∃a ok,e=bE (.tuple #[SV.val a,.bool ok])/\P a ok g:=by
 unfold SV.val SV.cells at r;unfold SV.val;go_in
 go_wp2_with fail;refine r.mono ?_;rintro e n ⟨a,ok,rfl,q⟩;cases ok
 ·obtain⟨⟨c,b,l⟩,o⟩:=t _ _ q;have m:=aB o;unfold fG SV.cells at m;have z:=aA (i:=0) b (Z0 (by omega))
  have F:=aA (i:=1) b (Z0 (by omega))
  have x:=aA (i:=2) b (Z0 (by omega))
  have L:=aA (i:=3) b (Z0 (by omega))
  have E:=aA (i:=4) b (Z0 (by omega))
  have u:=aE (i:=0) b;have y:=aE (i:=1) b;have I:=aE (i:=2) b;have K:=aE (i:=3) b;have J:=aE (i:=4) b;have M:=aD b;have Z:n.heap.size≠w.heap.size+1:=by omega
  have p:=oF (W:=n) (V:=(fG n (w.heap.size+1) a).alloc (.cells a.cells 60)) (s:=a) b l (Z3 _ _ _ (by rw[(iJ _ _ _).1];exact M))
  have j:=aB p;unfold fG SV.cells at j;clear o q r t H b p;go_wp2_with fail;have d:=j;have f:=m;clear j m z F x L E u y I K J;generalize (((((n.setCell (aL (w.heap.size+1) 0) (Iv0 a.t)).setCell (aL (w.heap.size+1) 1) (.slice a.x1 a.n1 a.c1)).setCell (aL (w.heap.size+1) 2) (.slice a.x2 a.n2 a.c2)).setCell (aL (w.heap.size+1) 3) (.slice a.x3 a.n3 a.c3)).setCell (aL (w.heap.size+1) 4) (Iv0 a.q)).alloc (.cells #[Iv0 a.t,.slice a.x1 a.n1 a.c1,.slice a.x2 a.n2 a.c2,.slice a.x3 a.n3 a.c3,Iv0 a.q] 60)=X at d f ⊢
  obtain⟨A,B,D,G,C⟩:=d;exact bodyPost_ret (v:=.tuple #[.agg #[Iv0 a.t,.slice a.x1 a.n1 a.c1,.slice a.x2 a.n2 a.c2,.slice a.x3 a.n3 a.c3,Iv0 a.q],.bool false]) (by simp[results,results55,go_sem,A,B,D,G,C]) rfl ⟨a,false,rfl,f⟩
 ·have h:=aB (H _ _ q);unfold SV.val SV.cells at h;clear q r t H;go_wp2_with fail;refine h.mono ?_;rintro e O ⟨rfl,k,⟨c,b,l⟩,l1,o⟩;have m:=aB o;unfold fG at m;have U:=aA (i:=0) k rfl;have T:=aA (i:=1) k rfl;have Q:=aA (i:=2) k rfl;have S:=aA (i:=3) k rfl;have Y:=aA (i:=4) k rfl;have z:=aA (i:=0) b (Z0 (by omega))
  have F:=aA (i:=1) b (Z0 (by omega))
  have x:=aA (i:=2) b (Z0 (by omega))
  have L:=aA (i:=3) b (Z0 (by omega))
  have E:=aA (i:=4) b (Z0 (by omega))
  have u:=aE (i:=0) b;have y:=aE (i:=1) b;have I:=aE (i:=2) b;have K:=aE (i:=3) b;have J:=aE (i:=4) b;have M:=aD b;have l4:=aD k;have Z:n.heap.size≠w.heap.size+1:=by omega
  have p:=oF (W:=O) (s:=a) b l rfl;have j:=aB p;unfold fG at j;clear o h k b p;go_wp2_with fail;have d:=j;have f:=m;clear j m z F x L E u y I K J U T Q S Y;generalize ((((O.setCell (aL (w.heap.size+1) 0) (Iv0 a.t)).setCell (aL (w.heap.size+1) 1) (.slice a.x1 a.n1 a.c1)).setCell (aL (w.heap.size+1) 2) (.slice a.x2 a.n2 a.c2)).setCell (aL (w.heap.size+1) 3) (.slice a.x3 a.n3 a.c3)).setCell (aL (w.heap.size+1) 4) (Iv0 a.q)=X at d f ⊢
  obtain⟨A,B,D,G,C⟩:=d;exact bodyPost_ret (v:=.tuple #[.agg #[Iv0 a.t,.slice a.x1 a.n1 a.c1,.slice a.x2 a.n2 a.c2,.slice a.x3 a.n3 a.c3,Iv0 a.q],.bool true]) (by simp[results,results55,go_sem,A,B,D,G,C]) rfl ⟨a,true,rfl,f⟩
end Go.Proofs.YtddnpoiiimjpcaaGreatDoor
