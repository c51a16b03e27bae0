/- Contracts of the program: since when an expression has come to the same: the walk. -/
import Derived.Test.YtmjbnmpamlainaaGreatDoorP27
import Derived.Test.YtmjbnmpamlainaaGreatDoorP29
set_option linter.defProp false
set_option maxRecDepth 100000
set_option maxHeartbeats 4000000
namespace Go.Proofs.YtmjbnmpamlainaaGreatDoor
open _root_.Go.Proofs.Tryz
open Go.RowKit
attribute [local go_sem] Oper.semAt_some
abbrev P4(r:(cD × Nat) × Nat × Nat):Array Value:= #[.string (bs r.1.1),Iv0 r.1.2,Iv0 r.2.1,Iv0 r.2.2]
def DZ(W:aG)(b:Nat)(r:(cD × Nat) × Nat × Nat):aG:=(((W.setCell (aH b 0) (.string (bs r.1.1))).setCell (aH b 1) (Iv0 r.1.2)).setCell (aH b 2) (Iv0 r.2.1)).setCell (aH b 3) (Iv0 r.2.2)
def OM(b:Nat)(W:aG):Prop:=(∃v,W.heap[b]?=some (.cells #[v] 3 (0,0)))/\(∃v,W.heap[b+1]?=some (.cells #[v] 30 (0,0)))/\∃v,W.heap[b+1+1]?=some (.cells #[v] 3 (0,0))
def gF(W:aG)(b n k l:Nat):aG:=((W.setCell (aH b 0) (Iv0 n)).setCell (aH (b+1) 0) (Iv0 k)).setCell (aH (b+1+1) 0) (Iv0 l)
def wE(W:aG)(b n k l x:Nat)(a:b+1+1<x):(gF W b n k l).heap[x]?=W.heap[x]?:=by
 unfold gF;rw[cm_ _ _ _ _ (by show x≠b+1+1;omega),cm_ _ _ _ _ (by show x≠b+1;omega),cm_ _ _ _ _ (by show x≠b;omega)]
structure bX_{τ:Type}(w:aG)(nb hb:Nat)(t:TypeId)(z:aQ)(r:(cD × Nat) × Nat × Nat)(R:Nat->Nat->Nat->World->Prop)(bb:Nat)(W0:aG)(A B:τ->SV->World->Prop)(A1:τ->SV->Nat->World->Prop)(E Z:τ->World->Prop):Prop where
 wz:w.heap.size+1+1<W0.heap.size
 p1:∀q s' b W o,A1 q s' b W->A1 q s' b (W.putObj (W0.heap.size+1) (.loop o))
 pB:∀q s' W o,B q s' W->B q s' (W.putObj (W0.heap.size+1) (.loop o))
 pE:∀q W o,E q W->E q (W.putObj (W0.heap.size+1) (.loop o))
 pZ:∀q W o,Z q W->Z q (W.putObj (W0.heap.size+1) (.loop o))
 a:∀q s' W,A q s' W->A1 q s' W.heap.size (W.alloc (.cells s'.cells 49))/\W0.heap.size+1<W.heap.size
 a1:∀q s' b W,A1 q s' b W->W.heap[b]?=some (.cells s'.cells 49 (0,0))/\W.heap[nb]?=some (.cells #[.iface t z] 59 (0,0))/\W.heap[hb]?=some (.cells (P4 r) 63 (0,0))/\OM w.heap.size W/\W0.heap.size+1<W.heap.size/\w.heap.size+1+1<W0.heap.size/\s'.t<=1000/\
  ∃r2,Calls prog 16 #[s'.val,.iface t z] W.drew fun e W'=>e=aZ (YN r2)/\Below W.heap.size W W'/\(r2=r->B q s' W')/\(r2≠r->E q ((gF W' w.heap.size (s'.t+1) 0 0).alloc (.cells s'.cells 49)))
 e:∀q W,E q W->∃n,W.heap[w.heap.size]?=some (.cells #[Iv0 (n:Nat)] 3 (0,0))/\W.heap[w.heap.size+1]?=some (.cells #[Iv0 0] 30 (0,0))/\W.heap[w.heap.size+1+1]?=some (.cells #[Iv0 0] 3 (0,0))/\R n 0 0 (W.putObj W0.heap.size (.deferred none))
 z:∀q W,Z q W->OM w.heap.size W/\R 0 0 0 ((gF W w.heap.size 0 0 0).putObj W0.heap.size (.deferred none))
 it:bq_ prog 36 #[bH bb] W0 A B E Z
def UY{τ:Type}(w:aG)(sb:Nat)(ad:ByteArray)(s:SV)(R:Nat->Nat->Nat->World->Prop)(Pf:Nat->Nat->World->Prop)(A0:TypeId->Value->World->Prop)(H:TypeId->Value->World->(cD × Nat) × Nat × Nat->Nat->World->Prop)
 (HR:Hid (Calls prog 15 #[.string ad] (((w.alloc (.cells #[Iv0 0] 3)).alloc (.cells #[Iv0 0] 30)).alloc (.cells #[Iv0 0] 3)) fun e w'=>(∃k l:Nat,k≠0/\e=aZ (.tuple #[.nilIface,Iv0 k,Iv0 l])/\Pf k l w')\/∃t z,e=aZ (.tuple #[.iface t z,Iv0 0,Iv0 0])/\A0 t z w'))
 (U:Hid (∀k l W,Pf k l W->OM w.heap.size W/\R 0 k l ((gF W w.heap.size 0 k l).alloc (.cells #[.nilIface] 59))))
 (HN:Hid (∀t z W,A0 t z W->sb<W.heap.size/\W.cell? (aH sb 0)=some (Iv0 s.t)/\W.cell? (aH sb 1)=some (.slice s.x1 s.n1 s.c1)/\W.cell? (aH sb 2)=some (.slice s.x2 s.n2 s.c2)/\W.cell? (aH sb 3)=some (.slice s.x3 s.n3 s.c3)/\W.cell? (aH sb 4)=some (Iv0 s.q)/\
   Calls prog 16 #[s.val,.iface t z] (W.alloc (.cells #[.iface t z] 59)).drew (fun e w2=>∃r,e=aZ (YN r)/\H t z W r w2.heap.size (w2.alloc (.cells (P4 r) 63)))/\
   ∀c,c.size=4->Calls prog 16 #[s.val,.iface t z] ((W.alloc (.cells #[.iface t z] 59)).drew.alloc (.cells c 63)) fun e w2=>∃r,e=aZ (YN r)/\w2.heap[W.heap.size+1]?=some (.cells c 63 (0,0))/\H t z W r (W.heap.size+1) (DZ w2 (W.heap.size+1) r)))
 (HH:Hid (∀t z W r j V,H t z W r j V->V.heap[j]?=some (.cells (P4 r) 63 (0,0))/\OM w.heap.size V/\(r.2.1≠0->R 0 r.2.1 r.2.2 (gF V w.heap.size 0 r.2.1 r.2.2).drew)/\(r.2.1=0->∃(A B:τ->SV->World->Prop) (A1:τ->SV->Nat->World->Prop) (E Z:τ->World->Prop),bX_ w W.heap.size j t z r R V.heap.size (V.alloc (.cells #[bH sb] 23)) A B A1 E Z)))
 :Calls prog 9 #[bH sb,.string ad] w fun e w'=>∃n k l:Nat,e=aZ (.tuple #[Iv0 n,Iv0 k,Iv0 l])/\R n k l w':=by
 refine(callsIn_wide (n:=0)).1 (callsIn_of_wp_marks func9 rfl trivial ?_ rfl);simp only[ntmps9,dV_,ct_,cA_,Nat.reduceAdd,Nat.reduceSub,Array.replicate_succ,Array.replicate_zero,List.push_toArray,List.append_toArray,dk_,cP_];refine wpIn_wide.2 ?_;go_wp2_with fail;refine HR.mono ?_;rintro e w1 (⟨k,l,hk,rfl,K⟩|⟨t,z,rfl,K⟩)
 ·obtain⟨⟨⟨v0,p⟩,⟨v1,u⟩,v2,m⟩,X⟩:=U _ _ _ K;have x:=aB X;unfold gF at x;have ae:¬(k:Int)=0:=by omega
  have c0:=aA (i:=0) p rfl;have c1:=aA (i:=0) u rfl;have c2:=aA (i:=0) m rfl;have f0:=aD (i:=0) p;have f1:=aD (i:=0) u;have f2:=aD (i:=0) m;have l0:=aC p;have l1:=aC u;have l2:=aC m;clear K X U HR HN p u m;go_wp2_with fail;refine⟨.tuple #[Iv0 0,Iv0 k,Iv0 l],?_,0,k,l,rfl,x⟩;simp[results,results9,go_sem,c0,c1,c2,l0,l1,l2]
 ·obtain⟨ls,i0,i1,i2,i3,i4,hA,an⟩:=HN _ _ _ K;have Y:=aB hA;have M:=aB an;unfold SV.val at Y M;unfold DZ at M;clear K hA an U HR HN;go_upto_region 4 with fail
  go_cut [10] from 22 (fun bc V=>∃b r,bc=bH b/\H t z w1 r b V)
  case first=>
   refine wp_mono (Q:=Exit.then _ fun _ _ _=>False) ?_ (fun e a w q=>by cases e<;>first|exact q|exact q.elim)
   go_region_law (go_simp;go_at_call 16;first|(refine(M _ rfl).mono ?_;rintro e w2 ⟨r,rfl,C,J⟩;have d0:=aA (i:=0) C rfl;have d1:=aA (i:=1) C rfl;have d2:=aA (i:=2) C rfl;have d3:=aA (i:=3) C rfl;have f0:=aD (i:=0) C;have f1:=aD (i:=1) C;have f2:=aD (i:=2) C;have f3:=aD (i:=3) C;have l3:=aC C;clear C)|(refine Y.mono ?_;rintro e w2 ⟨r,rfl,J⟩))
   all_goals (try clear d0 d1 d2 d3 f0 f1 f2 f3)
   all_goals (have H1:=aB J;clear J i0 i1 i2 i3 i4 Y M)
   all_goals (go_simp;go_step;go_meet)
   all_goals exact⟨_,_,rfl,H1⟩
  case rest=>
   obtain⟨j,r,rfl,J⟩:=hcut;clear Y M i0 i1 i2 i3 i4;obtain⟨a1,⟨⟨v0,p⟩,⟨v1,u⟩,v2,m⟩,hz,hs⟩:=HH _ _ _ _ _ _ J;have d2:=aA (i:=2) a1 rfl;have d3:=aA (i:=3) a1 rfl;have l3:=aC a1;by_cases hk:r.2.1=0
   ·have ae:(r.2.1:Int)=0:=by omega
    have ao:=aB (SQ sb wc);obtain⟨A,B,A1,E,Z,hC⟩:=hs hk;have G:=aB hC;clear hz hs hC a1 p u m d3;go_wp2_with fail;refine ao.mono ?_;rintro e w3 ⟨rfl,rfl⟩;clear ao;go_wp2_with fail;have af:=G.wz;generalize bf:wc.alloc (.cells #[bH sb] 23)=v at G af ⊢
    clear bf
    refine wpIn_wide.1 (uY (τ:=τ) (P:=prog) (gf:=36) (lb:= #[bH wc.heap.size]) rfl bF_ (fun q y V=>∃g,y= #[SV.val g]/\A q g V) (fun q y V=>∃g,y= #[SV.val g]/\B q g V)
     (fun q y a' V=>∃g b,y= #[SV.val g]/\a'={ tmps:= #[bH sb,.string ad,undef,undef,bH w.heap.size,bH (w.heap.size+1),bH (w.heap.size+1+1),bH w1.heap.size,Iv0 0,Iv0 0,bH j,bH b,.tuple #[.iface t z,Iv0 0,Iv0 0],.string ad,.tuple #[.iface t z,Iv0 0,Iv0 0],.iface t z,Iv0 0,Iv0 0,Iv0 0,.bool false,undef,undef,u22,u23,u24,u25,u26,u27,.pointer (some (aH j 2)),Iv0 0,.bool false,u31,u32,u33,u34,bH sb,.func (.func 36) #[] #[bH wc.heap.size],SV.val g,u38,u39,u40,u41,u42,u43,u44,u45],defers:=[] }/\A1 q g b V)
     (fun q c _ V=>c=.ret/\E q V) (fun V=>∃q,Z q V) ?hps ?hAx ?hB ?hBx ?hZ ?hassign ?hbody ?hseq ?hdone ?hstop)
    case hps=>rintro q y V ⟨g,rfl,_⟩;rfl
    case hAx=>rintro q y a' V o ⟨g,b,I,e2,h5⟩;exact⟨g,b,I,e2,G.p1 _ _ _ _ _ h5⟩
    case hB=>rintro q y V o ⟨g,I,h⟩;exact⟨g,I,G.pB _ _ _ _ h⟩
    case hBx=>rintro q c y V o ⟨rfl,h⟩;exact⟨rfl,G.pE _ _ _ h⟩
    case hZ=>rintro V o ⟨q,h⟩;exact⟨q,G.pZ _ _ _ h⟩
    case hassign=>
     rintro q y V K' ⟨g,rfl,h⟩ ay;obtain⟨q1,q2⟩:=G.a _ _ _ h;have ba:=aB (ay _ _ (cq_ _ _ _ (by omega)) (cq_ _ _ _ (by omega)) ⟨g,_,rfl,rfl,q1⟩)
     unfold SV.val SV.cells at ba;clear ay q1 h;unfold SV.val;gi_wp2
     exact ba
    case hbody=>
     rintro q y a' V ⟨g,b,rfl,rfl,h⟩ ar;obtain⟨I,e2,e3,⟨⟨v0,p⟩,⟨v1,u⟩,v2,m⟩,n1,n2,n3,D,hF⟩:=G.a1 _ _ _ _ h;have U:=aB hF;unfold SV.val YN at U;unfold SV.val;unfold SV.cells at I;have d0:=aA (i:=0) I rfl;have d1:=aA (i:=1) I rfl;have d2:=aA (i:=2) I rfl;have d3:=aA (i:=3) I rfl;have d4:=aA (i:=4) I rfl;have l1:=aC I;have m0:=aA (i:=0) e2 rfl;have l2:=aC e2;have T:=aC e3;have h0:=aA (i:=0) e3 rfl;have K:=aA (i:=1) e3 rfl;have J:=aA (i:=2) e3 rfl;have C:=aA (i:=3) e3 rfl;have E1:=aB I;have E3:=aB e3;have B0:=aB p;have B1:=aB u;have B2:=aB m;have bj:=aC p;have bk:=aC u;have bl:=aC m;clear h hF G I e2 e3 p u m hk ae;gi_wp2
     have bi:prog.follows Departure.mixedOrders=true:=by kernel_rfl
     have am:((D.1.1==r.1.1) && (((D.1.2:Int)==(r.1.2:Int)) && (((D.2.1:Int)==(r.2.1:Int)) && ((D.2.2:Int)==(r.2.2:Int)))))=decide (D=r):=by
      obtain⟨⟨a2,m⟩,c2,d2⟩:=D;obtain⟨⟨a,b⟩,c,d⟩:=r;rw[dA_];simp only[Prod.mk.injEq,cO_,beq_iff_eq,decide_eq_true_eq,Int.natCast_inj];constructor
      ·rintro⟨K,J,C,h4⟩;exact⟨⟨K,J⟩,C,h4⟩
      ·rintro⟨⟨K,J⟩,C,h4⟩;exact⟨K,J,C,h4⟩
     have N:∀V:aG,(binOp .neq 63 (.agg #[.string (bs D.1.1),Iv0 D.1.2,Iv0 D.2.1,Iv0 D.2.2]) (.agg #[.string (bs r.1.1),Iv0 r.1.2,Iv0 r.2.1,Iv0 r.2.2])).run prog V=.ok (.bool (!decide (D=r))) V:=fun V=>by rw[bc_,am]
     have L:∀V:aG,(binOp .eql 63 (.agg #[.string (bs D.1.1),Iv0 D.1.2,Iv0 D.2.1,Iv0 D.2.2]) (.agg #[.string (bs r.1.1),Iv0 r.1.2,Iv0 r.2.1,Iv0 r.2.2])).run prog V=.ok (.bool (decide (D=r))) V:=fun V=>by rw[bI_,am]
     clear am;by_cases hr:D=r
     ·rw[hr] at U;clear N L;gi_region_with_o (refine⟨trivial,rfl,(CallsIn.inRound _ (callsIn_wide.2 U)).mono ?_⟩;rintro e F ⟨rfl,f,ab,ac⟩;have ai:F.cell? (aH j 0)=some (.string (bs r.1.1)):=aA ((f.block j T).trans E3) rfl;have al:F.cell? (aH j 1)=some (Iv0 r.1.2):=aA ((f.block j T).trans E3) rfl;have ag:F.cell? (aH j 2)=some (Iv0 r.2.1):=aA ((f.block j T).trans E3) rfl;have ah:F.cell? (aH j 3)=some (Iv0 r.2.2):=aA ((f.block j T).trans E3) rfl;have bg:j<F.heap.size:=cn_ T f.size)
      all_goals
       have S:=f.block v.heap.size (by omega)
       have O:=f.block (v.heap.size+1) (by omega)
       have az:=aB (cL_ (cL_ S O) (ab (by simp)))
       clear ab ac U d0 d1 d2 d3 d4 m0 h0 K J C S O;try clear ai al ag ah
       dsimp only[Exit.then]
       gi_wp2
       exact⟨az.1,g,rfl,az.2⟩
     ·have HT:=aB fun (V:aG)=>nV g.t g.q g.x1 g.x2 g.x3 g.n1 g.n2 g.n3 g.c1 g.c2 g.c3 V
      simp only[hr,decide_false,Bool.not_false] at N L;have x:=aB hr;clear hr;gi_region_with_o (refine⟨trivial,rfl,(CallsIn.inRound _ (callsIn_wide.2 U)).mono ?_⟩;rintro e F ⟨rfl,f,ab,ac⟩;have ai:F.cell? (aH j 0)=some (.string (bs r.1.1)):=aA ((f.block j T).trans E3) rfl;have al:F.cell? (aH j 1)=some (Iv0 r.1.2):=aA ((f.block j T).trans E3) rfl;have ag:F.cell? (aH j 2)=some (Iv0 r.2.1):=aA ((f.block j T).trans E3) rfl;have ah:F.cell? (aH j 3)=some (Iv0 r.2.2):=aA ((f.block j T).trans E3) rfl;have bg:j<F.heap.size:=cn_ T f.size)
      all_goals
       have S:=f.block v.heap.size (by omega)
       have O:=f.block (v.heap.size+1) (by omega)
       have p0:=(f.block w.heap.size (by omega)).trans B0
       have p1:=(f.block (w.heap.size+1) (by omega)).trans B1
       have p2:=(f.block (w.heap.size+1+1) (by omega)).trans B2
       have p3:=(f.block b l1).trans E1;have aw:=ac x;have bd:(gF F w.heap.size (g.t+1) 0 0).heap.size=F.heap.size:=by unfold gF;simp
       have av:=f.size;have ap:((gF F w.heap.size (g.t+1) 0 0).alloc (.cells g.cells 49)).heap[v.heap.size]?=V.heap[v.heap.size]?:=by rw[cq_ _ _ _ (by omega),wE _ _ _ _ _ _ (by omega)];exact S
       have aq:((gF F w.heap.size (g.t+1) 0 0).alloc (.cells g.cells 49)).heap[v.heap.size+1]?=V.heap[v.heap.size+1]?:=by rw[cq_ _ _ _ (by omega),wE _ _ _ _ _ _ (by omega)];exact O
       have aj:=aB (cL_ (cL_ ap aq) aw);unfold gF SV.cells at aj;have c0:=aA (i:=0) p0 rfl;have c1:=aA (i:=0) p1 rfl;have c2:=aA (i:=0) p2 rfl;have f0:=aD (i:=0) p0;have f1:=aD (i:=0) p1;have f2:=aD (i:=0) p2;have z0:=aC p0;have z1:=aC p1;have z2:=aC p2;have z3:=aC p3;have k0:=aA (i:=0) p3 rfl;have k1:=aA (i:=1) p3 rfl;have k2:=aA (i:=2) p3 rfl;have k3:=aA (i:=3) p3 rfl;have k4:=aA (i:=4) p3 rfl;have bh:(g.t:Int)+1<=9223372036854775807:=by omega
       clear ab ac aw U d0 d1 d2 d3 d4 m0 h0 K J C S O ap aq bd av p0 p1 p2 p3 N L;try clear ai al ag ah
       dsimp only[Exit.then]
       gi_wp2
       refine⟨trivial,rfl,(CallsIn.inRound _ (callsIn_wide.2 (HT _))).mono ?_⟩;rintro e V3 ⟨rfl,rfl⟩;clear k0 k1 k2 k3 k4;gi_wp2
       exact⟨aj.1,rfl,aj.2⟩
    case hseq=>
     intro R0 Rdy Don g1 g2 g3 g4 g5 hY;refine callsIn_wide.2 ((G.it R0 Rdy (Don Code.ret) g1 g2 (g3 _) g5 ?_).mono ?_)
     ·intro q g V hA X;obtain⟨fn,tmps,aa,au,hy,hr⟩:=hY q #[SV.val g] V ⟨g,rfl,hA⟩ X;refine⟨fn,tmps,aa,au,hy,hr.mono ?_⟩;rintro e V' (⟨rfl,⟨s2,e2,hB⟩,bb⟩|⟨rfl,c,⟨rfl,hE⟩,hD⟩)
      ·obtain rfl:s2=g:=SV.val_inj (by simpa using e2.symm)
       exact cl_ ⟨rfl,hB,bb⟩
      ·exact ck_ ⟨rfl,hE,hD⟩
     ·rintro e V' ⟨hv,⟨q,hZ,hr⟩|⟨q,hE,hD⟩⟩
      ·exact⟨hv,cl_ ⟨⟨q,hZ⟩,hr⟩⟩
      ·exact⟨hv,ck_ ⟨q,_,#[],⟨rfl,hE⟩,hD⟩⟩
    case hdone=>
     rintro V ⟨q,hz⟩ hD ar;obtain⟨⟨⟨v0,p⟩,⟨v1,u⟩,v2,m⟩,X⟩:=G.z _ _ hz;have x:=aB X;unfold gF at x;have be:w.heap.size+1+1<v.heap.size:=af;have c0:=aA (i:=0) p rfl;have c1:=aA (i:=0) u rfl;have c2:=aA (i:=0) m rfl;have f0:=aD (i:=0) p;have f1:=aD (i:=0) u;have f2:=aD (i:=0) m;have l0:=aC p;have l1:=aC u;have l2:=aC m
     have ak:Hid ((((V.setCell (aH w.heap.size 0) (Iv0 0)).setCell (aH (w.heap.size+1) 0) (Iv0 0)).setCell (aH (w.heap.size+1+1) 0) (Iv0 0)).heap[v.heap.size]?=some (.deferred (some []))):=by
      show _=_
      rw[cm_ _ _ _ _ (by show v.heap.size≠w.heap.size+1+1;omega),cm_ _ _ _ _ (by show v.heap.size≠w.heap.size+1;omega),cm_ _ _ _ _ (by show v.heap.size≠w.heap.size;omega)];exact hD
     have B0:=aB p;have B1:=aB u;have B2:=aB m;clear hz hD X G p u m
     have g0:(((V.setCell (aH w.heap.size 0) (Iv0 0)).setCell (aH (w.heap.size+1) 0) (Iv0 0)).setCell (aH (w.heap.size+1+1) 0) (Iv0 0)).heap[w.heap.size]?=some (.cells #[Iv0 0] 3 (0,0)):=by
      rw[cm_ _ _ _ _ (by show w.heap.size≠w.heap.size+1+1;omega),cm_ _ _ _ _ (by show w.heap.size≠w.heap.size+1;omega)];exact aK B0
     have g1:(((V.setCell (aH w.heap.size 0) (Iv0 0)).setCell (aH (w.heap.size+1) 0) (Iv0 0)).setCell (aH (w.heap.size+1+1) 0) (Iv0 0)).heap[w.heap.size+1]?=some (.cells #[Iv0 0] 30 (0,0)):=by
      rw[cm_ _ _ _ _ (by show w.heap.size+1≠w.heap.size+1+1;omega)];exact aK ((cm_ _ _ _ _ (by show w.heap.size+1≠w.heap.size;omega)).trans B1)
     have g2:(((V.setCell (aH w.heap.size 0) (Iv0 0)).setCell (aH (w.heap.size+1) 0) (Iv0 0)).setCell (aH (w.heap.size+1+1) 0) (Iv0 0)).heap[w.heap.size+1+1]?=some (.cells #[Iv0 0] 3 (0,0)):=aK ((cm_ _ _ _ _ (by show w.heap.size+1+1≠w.heap.size+1;omega)).trans ((cm_ _ _ _ _ (by show w.heap.size+1+1≠w.heap.size;omega)).trans B2))
     have y0:((((V.setCell (aH w.heap.size 0) (Iv0 0)).setCell (aH (w.heap.size+1) 0) (Iv0 0)).setCell (aH (w.heap.size+1+1) 0) (Iv0 0)).putObj v.heap.size (.deferred none)).cell? (aH w.heap.size 0)=some (Iv0 0):=aA ((World.putObj_heap_other (by omega)).trans g0) rfl
     have y1:((((V.setCell (aH w.heap.size 0) (Iv0 0)).setCell (aH (w.heap.size+1) 0) (Iv0 0)).setCell (aH (w.heap.size+1+1) 0) (Iv0 0)).putObj v.heap.size (.deferred none)).cell? (aH (w.heap.size+1) 0)=some (Iv0 0):=aA ((World.putObj_heap_other (by omega)).trans g1) rfl
     have y2:((((V.setCell (aH w.heap.size 0) (Iv0 0)).setCell (aH (w.heap.size+1) 0) (Iv0 0)).setCell (aH (w.heap.size+1+1) 0) (Iv0 0)).putObj v.heap.size (.deferred none)).cell? (aH (w.heap.size+1+1) 0)=some (Iv0 0):=aA ((World.putObj_heap_other (by omega)).trans g2) rfl
     clear g0 g1 g2;have HY:=aB (cL_ y0 (cL_ y1 y2));clear y0 y1 y2;dsimp only[Exit.inBlock,Exit.then]
     go_wp2_with fail;obtain⟨y0,y1,y2⟩:=HY;refine⟨by simp,.inl ⟨_,_,rfl,run_takeDeferred ak,?_⟩⟩
     refine⟨.tuple #[Iv0 0,Iv0 0,Iv0 0],?_,0,0,0,rfl,x⟩;simp[results,results9,go_sem,y0,y1,y2]
    case hstop=>
     rintro q c y V ⟨rfl,hz⟩ hD ar;obtain⟨n,p,u,m,X⟩:=G.e _ _ hz;have x:=aB X;have ak:=aB hD;have be:w.heap.size+1+1<v.heap.size:=af;have y0:(V.putObj v.heap.size (.deferred none)).cell? (aH w.heap.size 0)=some (Iv0 (n:Nat)):=aA ((World.putObj_heap_other (by omega)).trans p) rfl
     have y1:(V.putObj v.heap.size (.deferred none)).cell? (aH (w.heap.size+1) 0)=some (Iv0 0):=aA ((World.putObj_heap_other (by omega)).trans u) rfl
     have y2:(V.putObj v.heap.size (.deferred none)).cell? (aH (w.heap.size+1+1) 0)=some (Iv0 0):=aA ((World.putObj_heap_other (by omega)).trans m) rfl
     clear hz hD X G p u m;refine wpIn_wide.2 ?_;go_wp2_with fail;refine⟨by simp,.inl ⟨_,_,rfl,run_takeDeferred ak,?_⟩⟩
     refine⟨.tuple #[Iv0 (n:Nat),Iv0 0,Iv0 0],?_,n,0,0,rfl,x⟩;simp[results,results9,go_sem,y0,y1,y2]
   ·have ae:¬(r.2.1:Int)=0:=by omega
    have ax:=aB (hz hk);unfold gF at ax;have c0:=aA (i:=0) p rfl;have c1:=aA (i:=0) u rfl;have c2:=aA (i:=0) m rfl;have f0:=aD (i:=0) p;have f1:=aD (i:=0) u;have f2:=aD (i:=0) m;have l0:=aC p;have l1:=aC u;have l2:=aC m;clear hz hs a1 p u m;go_upto_region 6 with fail
    refine wp_mono (Q:=Exit.then _ fun _ _ _=>False) ?_ (fun e a w q=>by cases e<;>first|exact q|exact q.elim)
    go_region
    dsimp only[Exit.then]
    go_wp2_with fail;refine⟨.tuple #[Iv0 0,Iv0 r.2.1,Iv0 r.2.2],?_,0,r.2.1,r.2.2,rfl,ax⟩;simp[results,results9,go_sem,c0,c1,c2]
end Go.Proofs.YtmjbnmpamlainaaGreatDoor
