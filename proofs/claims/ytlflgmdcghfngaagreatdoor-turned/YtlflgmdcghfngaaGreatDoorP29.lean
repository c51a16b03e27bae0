/- Contracts of the program: since when an expression has come to the same: the walk. -/
import Derived.Test.YtlflgmdcghfngaaGreatDoorP25
import Derived.Test.YtlflgmdcghfngaaGreatDoorP28
set_option linter.defProp false
set_option maxRecDepth 100000
set_option maxHeartbeats 4000000
namespace Go.Proofs.YtlflgmdcghfngaaGreatDoor
open Hs
open _root_.Go.Proofs.Tryz
open Go.RowKit
variable{b lo:Nat}{W w:aG}
attribute [local go_sem] Oper.semAt_some
abbrev Z2(r:(cC × Nat) × Nat × Nat):Array Value:= #[.string (bs r.1.1),I_ r.1.2,I_ r.2.1,I_ r.2.2]
def EW(W:aG)(b:Nat)(r:(cC × Nat) × Nat × Nat):aG:=(((W.setCell (aH b 0) (.string (bs r.1.1))).setCell (aH b 1) (I_ r.1.2)).setCell (aH b 2) (I_ r.2.1)).setCell (aH b 3) (I_ r.2.2)
def QD(b:Nat)(W:aG):Prop:=(∃v,W.heap[b]?=some (.cells #[v] 3 (0,0)))/\(∃v,W.heap[b+1]?=some (.cells #[v] 39 (0,0)))/\∃v,W.heap[b+1+1]?=some (.cells #[v] 3 (0,0))
def gF(W:aG)(b n k l:Nat):aG:=((W.setCell (aH b 0) (I_ n)).setCell (aH (b+1) 0) (I_ k)).setCell (aH (b+1+1) 0) (I_ l)
def wX(W:aG)(b n k l x:Nat)(a:b+1+1<x):(gF W b n k l).heap[x]?=W.heap[x]?:=by
 unfold gF;rw[ei _ _ _ _ (by show x≠b+1+1;omega),ei _ _ _ _ (by show x≠b+1;omega),ei _ _ _ _ (by show x≠b;omega)]
structure df_{τ:Type}(w:aG)(nb hb:Nat)(t:TypeId)(z:aQ)(r:(cC × Nat) × Nat × Nat)(R:Nat->Nat->Nat->World->Prop)(bb:Nat)(W0:aG)(A B:τ->SV->World->Prop)(A1:τ->SV->Nat->World->Prop)(E Z:τ->World->Prop):Prop where
 wz:w.heap.size+1+1<W0.heap.size
 p1:∀q s' b W o,A1 q s' b W->A1 q s' b (W.putObj (W0.heap.size+1) (.loop o))
 pB:∀q s' W o,B q s' W->B q s' (W.putObj (W0.heap.size+1) (.loop o))
 pE:∀q W o,E q W->E q (W.putObj (W0.heap.size+1) (.loop o))
 pZ:∀q W o,Z q W->Z q (W.putObj (W0.heap.size+1) (.loop o))
 a:∀q s' W,A q s' W->A1 q s' W.heap.size (W.alloc (.cells s'.cells 53))/\W0.heap.size+1<W.heap.size
 a1:∀q s' b W,A1 q s' b W->W.heap[b]?=some (.cells s'.cells 53 (0,0))/\W.heap[nb]?=some (.cells #[.iface t z] 67 (0,0))/\W.heap[hb]?=some (.cells (Z2 r) 71 (0,0))/\QD w.heap.size W/\W0.heap.size+1<W.heap.size/\w.heap.size+1+1<W0.heap.size/\s'.t<=1000/\
  ∃r2,Calls prog 26 #[s'.val,.iface t z] W.drew λe W'=>e=aX (D3 r2)/\Below W.heap.size W W'/\(r2=r->B q s' W')/\(r2≠r->E q ((gF W' w.heap.size (s'.t+1) 0 0).alloc (.cells s'.cells 53)))
 e:∀q W,E q W->∃n,W.heap[w.heap.size]?=some (.cells #[I_ (n:Nat)] 3 (0,0))/\W.heap[w.heap.size+1]?=some (.cells #[I_ 0] 39 (0,0))/\W.heap[w.heap.size+1+1]?=some (.cells #[I_ 0] 3 (0,0))/\R n 0 0 (W.putObj W0.heap.size (.deferred none))
 z:∀q W,Z q W->QD w.heap.size W/\R 0 0 0 ((gF W w.heap.size 0 0 0).putObj W0.heap.size (.deferred none))
 it:VT prog 66 #[aZ bb] W0 A B E Z
def XA{τ:Type}(w:aG)(sb:Nat)(ad:ByteArray)(s:SV)(R:Nat->Nat->Nat->World->Prop)(Pf:Nat->Nat->World->Prop)(A0:TypeId->Value->World->Prop)(H:TypeId->Value->World->(cC × Nat) × Nat × Nat->Nat->World->Prop)
 (HR:Hid (Calls prog 25 #[.string ad] (((w.alloc (.cells #[I_ 0] 3)).alloc (.cells #[I_ 0] 39)).alloc (.cells #[I_ 0] 3)) λe w'=>(∃k l:Nat,k≠0/\e=aX (.tuple #[.nilIface,I_ k,I_ l])/\Pf k l w')\/∃t z,e=aX (.tuple #[.iface t z,I_ 0,I_ 0])/\A0 t z w'))
 (U:Hid (∀k l W,Pf k l W->QD w.heap.size W/\R 0 k l ((gF W w.heap.size 0 k l).alloc (.cells #[.nilIface] 67))))
 (HN:Hid (∀t z W,A0 t z W->sb<W.heap.size/\W.cell? (aH sb 0)=some (I_ s.t)/\W.cell? (aH sb 1)=some (.slice s.x1 s.n1 s.c1)/\W.cell? (aH sb 2)=some (.slice s.x2 s.n2 s.c2)/\W.cell? (aH sb 3)=some (.slice s.x3 s.n3 s.c3)/\W.cell? (aH sb 4)=some (I_ s.q)/\
   Calls prog 26 #[s.val,.iface t z] (W.alloc (.cells #[.iface t z] 67)).drew (λe w2=>∃r,e=aX (D3 r)/\H t z W r w2.heap.size (w2.alloc (.cells (Z2 r) 71)))/\
   ∀c,c.size=4->Calls prog 26 #[s.val,.iface t z] ((W.alloc (.cells #[.iface t z] 67)).drew.alloc (.cells c 71)) λe w2=>∃r,e=aX (D3 r)/\w2.heap[W.heap.size+1]?=some (.cells c 71 (0,0))/\H t z W r (W.heap.size+1) (EW w2 (W.heap.size+1) r)))
 (HH:Hid (∀t z W r j V,H t z W r j V->V.heap[j]?=some (.cells (Z2 r) 71 (0,0))/\QD w.heap.size V/\(r.2.1≠0->R 0 r.2.1 r.2.2 (gF V w.heap.size 0 r.2.1 r.2.2).drew)/\(r.2.1=0->∃(A B:τ->SV->World->Prop) (A1:τ->SV->Nat->World->Prop) (E Z:τ->World->Prop),df_ w W.heap.size j t z r R V.heap.size (V.alloc (.cells #[aZ sb] 24)) A B A1 E Z)))
 :Calls prog 22 #[aZ sb,.string ad] w λe w'=>∃n k l:Nat,e=aX (.tuple #[I_ n,I_ k,I_ l])/\R n k l w':=by
 refine(callsIn_wide (n:=0)).1 (callsIn_of_wp_marks func22 rfl trivial ?_ rfl);simp only[ntmps22,kj,ep,ey,Nat.reduceAdd,Nat.reduceSub,Array.replicate_succ,Array.replicate_zero,List.push_toArray,List.append_toArray,ij,gb];refine wpIn_wide.2 ?_;go_wp2_with fail;refine HR.mono ?_;rintro e w1 (⟨k,l,hk,rfl,K⟩|⟨t,z,rfl,K⟩)
 ·obtain⟨⟨⟨v0,p⟩,⟨v1,u⟩,v2,m⟩,X⟩:=U _ _ _ K;have x:=aB X;unfold gF at x;have ae:¬(k:Int)=0:=o_
  have c0:=aA (i:=0) p rfl;have c1:=aA (i:=0) u rfl;have c2:=aA (i:=0) m rfl;have f0:=aD (i:=0) p;have f1:=aD (i:=0) u;have f2:=aD (i:=0) m;have l0:=aC p;have l1:=aC u;have l2:=aC m;clear K X U HR HN p u m;go_wp2_with fail;refine⟨.tuple #[I_ 0,I_ k,I_ l],?_,0,k,l,rfl,x⟩;simp[results,results22,go_sem,c0,c1,c2,l0,l1,l2]
 ·obtain⟨ls,i0,i1,i2,i3,i4,hA,an⟩:=HN _ _ _ K;have Y:=aB hA;have M:=aB an;unfold SV.val at Y M;unfold EW at M;clear K hA an U HR HN;go_upto_region 4 with fail
  go_cut [10] from 22 (λbc V=>∃b r,bc=aZ b/\H t z w1 r b V)
  case first=>
   refine wp_mono (Q:=Exit.then _ λ_ _ _=>False) ?_ (λe a w q=>by cases e<;>first|exact q|exact q.elim)
   go_region_law (go_simp;go_at_call 26;first|(refine(M _ rfl).mono ?_;rintro e w2 ⟨r,rfl,C,J⟩;have d0:=aA (i:=0) C rfl;have d1:=aA (i:=1) C rfl;have d2:=aA (i:=2) C rfl;have d3:=aA (i:=3) C rfl;have f0:=aD (i:=0) C;have f1:=aD (i:=1) C;have f2:=aD (i:=2) C;have f3:=aD (i:=3) C;have l3:=aC C;clear C)|(refine Y.mono ?_;rintro e w2 ⟨r,rfl,J⟩))
   all_goals (try clear d0 d1 d2 d3 f0 f1 f2 f3)
   all_goals (have H1:=aB J;clear J i0 i1 i2 i3 i4 Y M)
   all_goals (go_simp;go_step;go_meet)
   all_goals exact⟨_,_,rfl,H1⟩
  case rest=>
   obtain⟨j,r,rfl,J⟩:=hcut;clear Y M i0 i1 i2 i3 i4;obtain⟨a1,⟨⟨v0,p⟩,⟨v1,u⟩,v2,m⟩,hz,hs⟩:=HH _ _ _ _ _ _ J;have d2:=aA (i:=2) a1 rfl;have d3:=aA (i:=3) a1 rfl;have l3:=aC a1;by_cases hk:r.2.1=0
   ·have ae:(r.2.1:Int)=0:=o_
    have ao:=aB (pF sb wc);obtain⟨A,B,A1,E,Z,hC⟩:=hs hk;have G:=aB hC;clear hz hs hC a1 p u m d3;go_wp2_with fail;refine ao.mono ?_;rintro e w3 ⟨rfl,rfl⟩;clear ao;go_wp2_with fail;have af:=G.wz;generalize bf:wc.alloc (.cells #[aZ sb] 24)=v at G af ⊢
    clear bf
    refine wpIn_wide.1 (vT (τ:=τ) (P:=prog) (gf:=66) (lb:= #[aZ wc.heap.size]) rfl aU_ (λq y V=>∃g,y= #[SV.val g]/\A q g V) (λq y V=>∃g,y= #[SV.val g]/\B q g V)
     (λq y a' V=>∃g b,y= #[SV.val g]/\a'={ tmps:= #[aZ sb,.string ad,undef,undef,aZ w.heap.size,aZ (w.heap.size+1),aZ (w.heap.size+1+1),aZ w1.heap.size,I_ 0,I_ 0,aZ j,aZ b,.tuple #[.iface t z,I_ 0,I_ 0],.string ad,.tuple #[.iface t z,I_ 0,I_ 0],.iface t z,I_ 0,I_ 0,I_ 0,.bool false,undef,undef,u22,u23,u24,u25,u26,u27,.pointer (some (aH j 2)),I_ 0,.bool false,u31,u32,u33,u34,aZ sb,.func (.func 66) #[] #[aZ wc.heap.size],SV.val g,u38,u39,u40,u41,u42,u43,u44,u45],defers:=[] }/\A1 q g b V)
     (λq c _ V=>c=.ret/\E q V) (λV=>∃q,Z q V) ?hps ?hAx ?hB ?hBx ?hZ ?hassign ?hbody ?hseq ?hdone ?hstop)
    case hps=>rintro q y V ⟨g,rfl,_⟩;rfl
    case hAx=>rintro q y a' V o ⟨g,b,I,e2,h5⟩;exact⟨g,b,I,e2,G.p1 _ _ _ _ _ h5⟩
    case hB=>rintro q y V o ⟨g,I,h⟩;exact⟨g,I,G.pB _ _ _ _ h⟩
    case hBx=>rintro q c y V o ⟨rfl,h⟩;exact⟨rfl,G.pE _ _ _ h⟩
    case hZ=>rintro V o ⟨q,h⟩;exact⟨q,G.pZ _ _ _ h⟩
    case hassign=>
     rintro q y V K' ⟨g,rfl,h⟩ ay;obtain⟨q1,q2⟩:=G.a _ _ _ h;have ba:=aB (ay _ _ (ek _ _ _ o_) (ek _ _ _ o_) ⟨g,_,rfl,rfl,q1⟩)
     unfold SV.val SV.cells at ba;clear ay q1 h;unfold SV.val;gi_wp2
     exact ba
    case hbody=>
     rintro q y a' V ⟨g,b,rfl,rfl,h⟩ ar;obtain⟨I,e2,e3,⟨⟨v0,p⟩,⟨v1,u⟩,v2,m⟩,n1,n2,n3,D,hF⟩:=G.a1 _ _ _ _ h;have U:=aB hF;unfold SV.val D3 at U;unfold SV.val;unfold SV.cells at I;have d0:=aA (i:=0) I rfl;have d1:=aA (i:=1) I rfl;have d2:=aA (i:=2) I rfl;have d3:=aA (i:=3) I rfl;have d4:=aA (i:=4) I rfl;have l1:=aC I;have m0:=aA (i:=0) e2 rfl;have l2:=aC e2;have T:=aC e3;have h0:=aA (i:=0) e3 rfl;have K:=aA (i:=1) e3 rfl;have J:=aA (i:=2) e3 rfl;have C:=aA (i:=3) e3 rfl;have E1:=aB I;have E3:=aB e3;have B0:=aB p;have B1:=aB u;have B2:=aB m;have bj:=aC p;have bk:=aC u;have bl:=aC m;clear h hF G I e2 e3 p u m hk ae;gi_wp2
     have bi:prog.follows Departure.mixedOrders=true:=k_
     have am:((D.1.1==r.1.1) && (((D.1.2:Int)==(r.1.2:Int)) && (((D.2.1:Int)==(r.2.1:Int)) && ((D.2.2:Int)==(r.2.2:Int)))))=decide (D=r):=by
      obtain⟨⟨a2,m⟩,c2,d2⟩:=D;obtain⟨⟨a,b⟩,c,d⟩:=r;rw[iw];simp only[Prod.mk.injEq,fy,beq_iff_eq,decide_eq_true_eq,Int.natCast_inj];constructor
      ·rintro⟨K,J,C,h4⟩;exact⟨⟨K,J⟩,C,h4⟩
      ·rintro⟨⟨K,J⟩,C,h4⟩;exact⟨K,J,C,h4⟩
     have N:∀V:aG,(binOp .neq 71 (.agg #[.string (bs D.1.1),I_ D.1.2,I_ D.2.1,I_ D.2.2]) (.agg #[.string (bs r.1.1),I_ r.1.2,I_ r.2.1,I_ r.2.2])).run prog V=.ok (.bool (!decide (D=r))) V:=λV=>by rw[cu_,am]
     have L:∀V:aG,(binOp .eql 71 (.agg #[.string (bs D.1.1),I_ D.1.2,I_ D.2.1,I_ D.2.2]) (.agg #[.string (bs r.1.1),I_ r.1.2,I_ r.2.1,I_ r.2.2])).run prog V=.ok (.bool (decide (D=r))) V:=λV=>by rw[aY_,am]
     clear am;by_cases hr:D=r
     ·rw[hr] at U;clear N L;gi_region_with_o (refine⟨trivial,rfl,(CallsIn.inRound _ (callsIn_wide.2 U)).mono ?_⟩;rintro e F ⟨rfl,f,ab,ac⟩;have ai:F.cell? (aH j 0)=some (.string (bs r.1.1)):=aA ((f.block j T).trans E3) rfl;have al:F.cell? (aH j 1)=some (I_ r.1.2):=aA ((f.block j T).trans E3) rfl;have ag:F.cell? (aH j 2)=some (I_ r.2.1):=aA ((f.block j T).trans E3) rfl;have ah:F.cell? (aH j 3)=some (I_ r.2.2):=aA ((f.block j T).trans E3) rfl;have bg:j<F.heap.size:=ej T f.size)
      all_goals
       have S:=f.block v.heap.size o_
       have O:=f.block (v.heap.size+1) o_
       have az:=aB (ff (ff S O) (ab s_))
       clear ab ac U d0 d1 d2 d3 d4 m0 h0 K J C S O;try clear ai al ag ah
       dsimp only[Exit.then]
       gi_wp2
       exact⟨az.1,g,rfl,az.2⟩
     ·have HT:=aB λ(V:aG)=>oC g.t g.q g.x1 g.x2 g.x3 g.n1 g.n2 g.n3 g.c1 g.c2 g.c3 V
      simp only[hr,decide_false,Bool.not_false] at N L;have x:=aB hr;clear hr;gi_region_with_o (refine⟨trivial,rfl,(CallsIn.inRound _ (callsIn_wide.2 U)).mono ?_⟩;rintro e F ⟨rfl,f,ab,ac⟩;have ai:F.cell? (aH j 0)=some (.string (bs r.1.1)):=aA ((f.block j T).trans E3) rfl;have al:F.cell? (aH j 1)=some (I_ r.1.2):=aA ((f.block j T).trans E3) rfl;have ag:F.cell? (aH j 2)=some (I_ r.2.1):=aA ((f.block j T).trans E3) rfl;have ah:F.cell? (aH j 3)=some (I_ r.2.2):=aA ((f.block j T).trans E3) rfl;have bg:j<F.heap.size:=ej T f.size)
      all_goals
       have S:=f.block v.heap.size o_
       have O:=f.block (v.heap.size+1) o_
       have p0:=(f.block w.heap.size o_).trans B0
       have p1:=(f.block (w.heap.size+1) o_).trans B1
       have p2:=(f.block (w.heap.size+1+1) o_).trans B2
       have p3:=(f.block b l1).trans E1;have aw:=ac x;have bd:(gF F w.heap.size (g.t+1) 0 0).heap.size=F.heap.size:=by unfold gF;simp
       have av:=f.size;have ap:((gF F w.heap.size (g.t+1) 0 0).alloc (.cells g.cells 53)).heap[v.heap.size]?=V.heap[v.heap.size]?:=by rw[ek _ _ _ o_,wX _ _ _ _ _ _ o_];exact S
       have aq:((gF F w.heap.size (g.t+1) 0 0).alloc (.cells g.cells 53)).heap[v.heap.size+1]?=V.heap[v.heap.size+1]?:=by rw[ek _ _ _ o_,wX _ _ _ _ _ _ o_];exact O
       have aj:=aB (ff (ff ap aq) aw);unfold gF SV.cells at aj;have c0:=aA (i:=0) p0 rfl;have c1:=aA (i:=0) p1 rfl;have c2:=aA (i:=0) p2 rfl;have f0:=aD (i:=0) p0;have f1:=aD (i:=0) p1;have f2:=aD (i:=0) p2;have z0:=aC p0;have z1:=aC p1;have z2:=aC p2;have z3:=aC p3;have k0:=aA (i:=0) p3 rfl;have k1:=aA (i:=1) p3 rfl;have k2:=aA (i:=2) p3 rfl;have k3:=aA (i:=3) p3 rfl;have k4:=aA (i:=4) p3 rfl;have bh:(g.t:Int)+1<=9223372036854775807:=o_
       clear ab ac aw U d0 d1 d2 d3 d4 m0 h0 K J C S O ap aq bd av p0 p1 p2 p3 N L;try clear ai al ag ah
       dsimp only[Exit.then]
       gi_wp2
       refine⟨trivial,rfl,(CallsIn.inRound _ (callsIn_wide.2 (HT _))).mono ?_⟩;rintro e V3 ⟨rfl,rfl⟩;clear k0 k1 k2 k3 k4;gi_wp2
       exact⟨aj.1,rfl,aj.2⟩
    case hseq=>
     intro R0 Rdy Don g1 g2 g3 g4 g5 hY;refine callsIn_wide.2 ((G.it R0 Rdy (Don Code.ret) g1 g2 (g3 _) g5 ?_).mono ?_)
     ·intro q g V hA X;obtain⟨fn,tmps,aa,au,hy,hr⟩:=hY q #[SV.val g] V ⟨g,rfl,hA⟩ X;refine⟨fn,tmps,aa,au,hy,hr.mono ?_⟩;rintro e V' (⟨rfl,⟨s2,e2,hB⟩,bb⟩|⟨rfl,c,⟨rfl,hE⟩,hD⟩)
      ·obtain rfl:s2=g:=SV.val_inj (by simpa using e2.symm)
       exact d7 ⟨rfl,hB,bb⟩
      ·exact d6 ⟨rfl,hE,hD⟩
     ·rintro e V' ⟨hv,⟨q,hZ,hr⟩|⟨q,hE,hD⟩⟩
      ·exact⟨hv,d7 ⟨⟨q,hZ⟩,hr⟩⟩
      ·exact⟨hv,d6 ⟨q,_,#[],⟨rfl,hE⟩,hD⟩⟩
    case hdone=>
     rintro V ⟨q,hz⟩ hD ar;obtain⟨⟨⟨v0,p⟩,⟨v1,u⟩,v2,m⟩,X⟩:=G.z _ _ hz;have x:=aB X;unfold gF at x;have be:w.heap.size+1+1<v.heap.size:=af;have c0:=aA (i:=0) p rfl;have c1:=aA (i:=0) u rfl;have c2:=aA (i:=0) m rfl;have f0:=aD (i:=0) p;have f1:=aD (i:=0) u;have f2:=aD (i:=0) m;have l0:=aC p;have l1:=aC u;have l2:=aC m
     have ak:Hid ((((V.setCell (aH w.heap.size 0) (I_ 0)).setCell (aH (w.heap.size+1) 0) (I_ 0)).setCell (aH (w.heap.size+1+1) 0) (I_ 0)).heap[v.heap.size]?=some (.deferred (some []))):=by
      show _=_
      rw[ei _ _ _ _ (by show v.heap.size≠w.heap.size+1+1;omega),ei _ _ _ _ (by show v.heap.size≠w.heap.size+1;omega),ei _ _ _ _ (by show v.heap.size≠w.heap.size;omega)];exact hD
     have B0:=aB p;have B1:=aB u;have B2:=aB m;clear hz hD X G p u m
     have g0:(((V.setCell (aH w.heap.size 0) (I_ 0)).setCell (aH (w.heap.size+1) 0) (I_ 0)).setCell (aH (w.heap.size+1+1) 0) (I_ 0)).heap[w.heap.size]?=some (.cells #[I_ 0] 3 (0,0)):=by
      rw[ei _ _ _ _ (by show w.heap.size≠w.heap.size+1+1;omega),ei _ _ _ _ (by show w.heap.size≠w.heap.size+1;omega)];exact aK B0
     have g1:(((V.setCell (aH w.heap.size 0) (I_ 0)).setCell (aH (w.heap.size+1) 0) (I_ 0)).setCell (aH (w.heap.size+1+1) 0) (I_ 0)).heap[w.heap.size+1]?=some (.cells #[I_ 0] 39 (0,0)):=by
      rw[ei _ _ _ _ (by show w.heap.size+1≠w.heap.size+1+1;omega)];exact aK ((ei _ _ _ _ (by show w.heap.size+1≠w.heap.size;omega)).trans B1)
     have g2:(((V.setCell (aH w.heap.size 0) (I_ 0)).setCell (aH (w.heap.size+1) 0) (I_ 0)).setCell (aH (w.heap.size+1+1) 0) (I_ 0)).heap[w.heap.size+1+1]?=some (.cells #[I_ 0] 3 (0,0)):=aK ((ei _ _ _ _ (by show w.heap.size+1+1≠w.heap.size+1;omega)).trans ((ei _ _ _ _ (by show w.heap.size+1+1≠w.heap.size;omega)).trans B2))
     have y0:((((V.setCell (aH w.heap.size 0) (I_ 0)).setCell (aH (w.heap.size+1) 0) (I_ 0)).setCell (aH (w.heap.size+1+1) 0) (I_ 0)).putObj v.heap.size (.deferred none)).cell? (aH w.heap.size 0)=some (I_ 0):=aA ((World.putObj_heap_other o_).trans g0) rfl
     have y1:((((V.setCell (aH w.heap.size 0) (I_ 0)).setCell (aH (w.heap.size+1) 0) (I_ 0)).setCell (aH (w.heap.size+1+1) 0) (I_ 0)).putObj v.heap.size (.deferred none)).cell? (aH (w.heap.size+1) 0)=some (I_ 0):=aA ((World.putObj_heap_other o_).trans g1) rfl
     have y2:((((V.setCell (aH w.heap.size 0) (I_ 0)).setCell (aH (w.heap.size+1) 0) (I_ 0)).setCell (aH (w.heap.size+1+1) 0) (I_ 0)).putObj v.heap.size (.deferred none)).cell? (aH (w.heap.size+1+1) 0)=some (I_ 0):=aA ((World.putObj_heap_other o_).trans g2) rfl
     clear g0 g1 g2;have HY:=aB (ff y0 (ff y1 y2));clear y0 y1 y2;dsimp only[Exit.inBlock,Exit.then]
     go_wp2_with fail;obtain⟨y0,y1,y2⟩:=HY;refine⟨s_,.inl ⟨_,_,rfl,run_takeDeferred ak,?_⟩⟩
     refine⟨.tuple #[I_ 0,I_ 0,I_ 0],?_,0,0,0,rfl,x⟩;simp[results,results22,go_sem,y0,y1,y2]
    case hstop=>
     rintro q c y V ⟨rfl,hz⟩ hD ar;obtain⟨n,p,u,m,X⟩:=G.e _ _ hz;have x:=aB X;have ak:=aB hD;have be:w.heap.size+1+1<v.heap.size:=af;have y0:(V.putObj v.heap.size (.deferred none)).cell? (aH w.heap.size 0)=some (I_ (n:Nat)):=aA ((World.putObj_heap_other o_).trans p) rfl
     have y1:(V.putObj v.heap.size (.deferred none)).cell? (aH (w.heap.size+1) 0)=some (I_ 0):=aA ((World.putObj_heap_other o_).trans u) rfl
     have y2:(V.putObj v.heap.size (.deferred none)).cell? (aH (w.heap.size+1+1) 0)=some (I_ 0):=aA ((World.putObj_heap_other o_).trans m) rfl
     clear hz hD X G p u m;refine wpIn_wide.2 ?_;go_wp2_with fail;refine⟨s_,.inl ⟨_,_,rfl,run_takeDeferred ak,?_⟩⟩
     refine⟨.tuple #[I_ (n:Nat),I_ 0,I_ 0],?_,n,0,0,rfl,x⟩;simp[results,results22,go_sem,y0,y1,y2]
   ·have ae:¬(r.2.1:Int)=0:=o_
    have ax:=aB (hz hk);unfold gF at ax;have c0:=aA (i:=0) p rfl;have c1:=aA (i:=0) u rfl;have c2:=aA (i:=0) m rfl;have f0:=aD (i:=0) p;have f1:=aD (i:=0) u;have f2:=aD (i:=0) m;have l0:=aC p;have l1:=aC u;have l2:=aC m;clear hz hs a1 p u m;go_upto_region 6 with fail
    refine wp_mono (Q:=Exit.then _ λ_ _ _=>False) ?_ (λe a w q=>by cases e<;>first|exact q|exact q.elim)
    go_region
    dsimp only[Exit.then]
    go_wp2_with fail;refine⟨.tuple #[I_ 0,I_ r.2.1,I_ r.2.2],?_,0,r.2.1,r.2.2,rfl,ax⟩;simp[results,results22,go_sem,c0,c1,c2]
def Z4(st:Nat->Option aW)(p:aW->Bool)(s τ:aW)(fd:Bool):Prop:=
 (fd=false/\τ=s/\s.m_=0)\/(fd=true/\τ.m_<s.m_/\st τ.m_=some τ/\(∀t x,τ.m_<t->t<s.m_->st t=some x->p x=false)/\(p τ=true\/τ.m_=0))
def dh_(C:MCtx)(k:Nat):Prop:=∀t x,k<=t->t<C.s.m_->C.st t=some x->C.p x=false
def MCtx.e(C:MCtx):ECx where
 fp:=C.fp
 sb:=C.sb
 mb:=C.mb
 mo:=C.mo
 ks:=C.ks
 tape:=C.tape
 s:=C.s
 bb:=C.bb
 bd:=C.w.heap.size+3+1
 All:=C.all
 Q:=λk L F n W=>∃fd,Mvg C L F n k fd W/\dh_ C k
 X:=λL F n W=>∃k fd τ,Mvg C L F n k fd W/\C.st k=some τ/\Z4 C.st C.p C.s τ fd
def MCtx.e_ok(C:MCtx):C.e.Ok where
 live:=by rintro k L F n W ⟨a,h,_⟩;exact⟨h.live,h.mem⟩
 cb:=by rintro k L F n W ⟨a,h,_⟩;exact h.cb.1
 but:=by rintro k L g F n W p ⟨a,h,e⟩ i d;exact⟨a,h.but i λb c=>⟨(d b c).1,by have:C.w.heap.size+3+1<b:=(d b c).2;simp only[MCtx.bo];omega⟩,e⟩
 more:=by rintro k L g F n W ⟨a,h,e⟩ l c;exact⟨a,h.more l c,e⟩
 fs:=by rintro k L F G n s W p ⟨a,h,e⟩ q l r o;exact⟨a,h.fs q l r o,e⟩
 xbut:=by rintro L g F n W p ⟨k,a,m,h,j,f⟩ i d;exact⟨k,a,m,h.but i λb c=>⟨(d b c).1,by have:C.w.heap.size+3+1<b:=(d b c).2;simp only[MCtx.bo];omega⟩,j,f⟩
 xmore:=by rintro L g F n W ⟨k,a,m,h,j,f⟩ d c;exact⟨k,a,m,h.more (h.live.drop d) c,j,f⟩
def VT.at{τ:Type}{P:Program}{gf:Nat}{lb:Array Value}{A B:τ->SV->World->Prop}{E Z:τ->World->Prop}(h:VT P gf lb w A B E Z)(m:∀t W,Z t W->∃a,E a W):C8 P gf lb w A B E:=by
 intro n Rdy Don i f l g k;refine(h n Rdy Don i f l g k).mono ?_;rintro e o ⟨d,⟨t,b,c⟩|⟨t,b,c⟩⟩
 ·obtain⟨a,j⟩:=m _ _ b;exact⟨d,a,j,d7 c⟩
 ·exact⟨d,t,b,d6 c⟩
def ECx.S.put{C:ECx}{t:Tg}(h:C.S t W){d:Nat}(f:d<=C.bd)(c:¬t.F d)(o:Obj):C.S t (W.putObj d o):=
 ⟨λb a=>⟨by rw[World.putObj_heap_other (by have:=(h.1 b a).2;omega)];exact(h.1 b a).1,(h.1 b a).2⟩,λb a=>by rw[World.putObj_heap_other (show b≠d from λe=>c (e▸a))];exact h.2 b a⟩
def Eb1(C:MCtx)(t:Tg)(s':SV)(b:Nat)(W:aG):Prop:=(∃σ fd,Mvg C (b::(t.L++C.all)) t.F t.n (σ.m_+1) fd W/\dh_ C (σ.m_+1)/\jC C.fp t.F W s'.val σ/\C.st σ.m_=some σ/\σ.m_<C.s.m_/\σ.m_/20<t.n/\C.e.S t W)/\W.heap[b]?=some (.cells s'.cells 53 (0,0))/\C.w.heap.size+3+1<b
section
variable {fp:eK} {F:bY} {w:aG} {sb mb n:Nat} {mo:Obj} {ks:List aE} {tape:List Int} {s:aW} {L:List Nat}
def pO(hg:Good ks)(bj:tape.length<=17592186044416)(h:Live fp F w sb mb mo ks tape s n L)(bb:Nat)(bh:bb∈L)(al:w.heap[bb]?=some (.cells #[aZ sb] 24 (0,0)))
 (p:aW->Bool) (Y:Nat) (rf lf:Array Value) (av:∀Z W,(callFunc Y Z).run prog W=.ok (.enter Y Z) W) (ap:I4 fp sb mb mo ks tape s L w p Y rf lf):
 Calls prog 35 #[aZ sb,.func (.func 66) #[] #[aZ bb],.func (.func Y) rf lf] w λe w'=>∃b,e=aX (.bool b)/\nB fp sb mb mo ks tape L (Z4 (bT ks tape) p s) w b w':=by
 obtain⟨s0,bd,k0,k1,k2,k3,k4,_⟩:=h.ses.cells;have Q:=h.ses.lt;have az:=h;obtain⟨C,y⟩:∃C:MCtx,C=⟨fp,sb,mb,mo,ks,tape,s,p,bb,.func (.func Y) rf lf,w,L,bwd s⟩:=⟨_,rfl⟩;have ag:Good C.ks:=by rw[y];exact hg
 have d:C.w=w:=by rw[y]
 have aw:C.s=s:=by rw[y]
 have ak:C.p=p:=by rw[y]
 have H:C.st=bT ks tape:=by rw[y];rfl
 have aa:C.le=bwd C.s:=by rw[y]
 have af:∀{L F n k i W},Mvg C L F n k i W->C.w.heap.size+3+1<W.heap.size/\¬F (C.w.heap.size+3+1):=λ{L F n k i W} h=>⟨h.lt,(h.live.loc _ (h.mem _ (by simp[MCtx.all]))).2.2.1⟩
 refine MD (τ:=Tg) w sb 66 Y #[aZ bb] rf lf s0 (λb w'=>nB fp sb mb mo ks tape L (Z4 (bT ks tape) p s) w b w')
  C.e.A C.e.B (Eb1 C) C.e.E Q k0 k1 k2 k3 k4 aU_ av
  (λt J b W r h=>?_) (λt J W r h=>?_) (λt W r h=>?_) (λt J W h=>?_) (λt J b W h=>?_) (λt W hE=>?_) (λN z=>?_)
 ·obtain⟨⟨D,i,a,v,o,T,h5,h6,X⟩,h8,h9⟩:=h;rw[<-d];exact⟨⟨D,i,a.put _,v,a.putS o _,T,h5,h6,X.put cL (af a).2 _⟩,by rw[World.putObj_heap_other o_];exact h8,h9⟩
 ·obtain⟨⟨i,a,v⟩,o⟩:=h;rw[<-d];exact⟨⟨i,a.put _,v⟩,o.put cL (af a).2 _⟩
 ·obtain⟨⟨k,i,τ,a,v⟩,o⟩:=h;rw[<-d];exact⟨⟨k,i,τ,a.put _,v⟩,o.put cL (af a).2 _⟩
 ·obtain⟨D,⟨i,a,v⟩,o,T,h5,h6,X⟩:=h;have hl:=a.lt;rw[<-d];refine⟨⟨⟨D,i,a.alloc _,v,o.but a.live (But.alloc _ _ []) nY,T,h5,h6,λb f=>⟨?_,(X.1 b f).2⟩,λb f=>?_⟩,aN _ _ rfl _,hl⟩,hl⟩
  ·rw[ek _ _ _ (a.live.loc b (fk _ f)).2.1];exact(X.1 b f).1
  ·rw[ek _ _ _ (a.live.ses.fix b f).1];exact X.2 b f
 ·obtain⟨⟨D,i,a,v,o,T,h5,h6,X⟩,h8,h9⟩:=h;have hl:=a.lt;have ad:=a.cf;have E:=a.co;obtain⟨s2,τ,a1,a2,K,a4⟩:=a.ct;have u:=a.set o T h6 (by rw[aa];exact⟨o_,t_⟩)
  have M:C.bt=w.heap.size+1:=by rw[<-d];rfl
  have I:C.bo=w.heap.size+1+1:=by rw[<-d];rfl
  have ba:C.bf=w.heap.size:=by rw[<-d];rfl
  rw[d] at hl h9;rw[ba] at ad;rw[I] at E;rw[M] at a1;have bk:C.fv=.func (.func Y) rf lf:=by rw[y]
  rw[bk] at ad;refine⟨h8,ad,⟨_,a1,by simp[SV.cells]⟩,⟨_,E⟩,o_,o_,o_,?_⟩
  have O:But ([C.bt]++[C.bo]) W ((dW W C.bt J).setCell (aH C.bo 0) (.bool true)):=(But.set5 W C.bt J).trans (But.set _ _ _);have ao:∀x∈[C.bt]++[C.bo],x∈b::(t.L++C.all):=λx hm=>a.mem x (by simp at hm;rcases hm with rfl|rfl<;>simp[MCtx.all])
  have ah:=o.but a.live O ao;have S:∀x,w.heap.size+1+1<x->x<W.heap.size->((dW W C.bt J).setCell (aH C.bo 0) (.bool true)).heap[x]?=W.heap[x]?:=λx l bf=>O.blk x bf (by simp[M,I];omega)
  have an:∀x,t.F x->((dW W C.bt J).setCell (aH C.bo 0) (.bool true)).heap[x]?=W.heap[x]?:=λx l=>O.blk x (a.live.ses.fix x l).1 λhm=>(a.live.loc x (ao x hm)).2.2.1 l
  rw[<-I,<-M];have ax:W.heap.size<=((dW W C.bt J).setCell (aH C.bo 0) (.bool true)).heap.size:=O.size;generalize (dW W C.bt J).setCell (aH C.bo 0) (.bool true)=V at u ah S an ax ⊢
  have B:=u.live;have aq:=T;have A:=u.fr.1;rw[H] at aq;rw[y] at B ah A;refine(ap t.F t.n _ V J D A.size (λb f=>az.blk A f) B ah aq).mono ?_
  rintro e W' ⟨rfl,f⟩;have hm:=u.but (L':=[]) (But.below f []) nY;have am:Mvg C (t.L++C.all) t.F t.n D.m_ true W':=hm.more (hm.live.drop λx l=>fe _ l) (λx l=>fq _ l)
  have hS:C.e.S t W':=⟨λx l=>by
   have q1:=(X.1 x l).2;have U:=(a.live.loc x (by simp[l])).2.1
   have P:w.heap.size+3+1<x:=by rw[<-d];exact q1
   exact⟨by rw[f.block _ o_,S x o_ U];exact(X.1 x l).1,q1⟩,λx l=>by
   have U:=(a.live.ses.fix x l).1;rw[f.block _ o_,an x l];exact X.2 x l⟩
  have bi:J.t=D.m_:=by
   obtain⟨s2,e1,e2,_⟩:=o.sv;obtain rfl:=SV.val_inj e1;exact e2
  refine⟨p D,rfl,⟨by rw[f.block _ o_];exact S _ o_ o_,by rw[f.block _ o_];exact S _ o_ o_⟩,λhp=>?_,λhp=>?_⟩
  ·exact⟨⟨D.m_,true,D,am,T,d6 ⟨rfl,h5,T,λt x q1 U P=>v t x q1 U P,d7 (by rw[ak];exact hp)⟩⟩,hS⟩
  ·refine⟨⟨true,by rw[bi];exact am,λt x q1 U P=>?_⟩,hS⟩
   rcases fu D.m_ t with q|q
   ·exact v t x q U P
   ·obtain rfl:t=D.m_:=o_
    rw[T] at P;cases P;rw[ak];exact hp
 ·obtain⟨⟨k,i,τ,a,v,o⟩, -⟩:=hE;replace a:Mvg C C.all t.F t.n k i W:=a.more (a.live.drop λb f=>fq _ f) dP
  obtain⟨s2,ar,a1,a2,K,a4⟩:=a.ct;obtain rfl:ar=τ:=by rw[v] at K;cases K;rfl
  have g:=(ag.sta K).2.1;have E:=a.co;have hl:=a.lt;have B:=a.live;have A:=a.fr.1;have ai:=a.fr.2.2;have M:C.bt=w.heap.size+1:=by rw[<-d];rfl
  have I:C.bo=w.heap.size+1+1:=by rw[<-d];rfl
  rw[M] at a1;rw[I] at E;rw[d] at hl;rw[y] at B A ai;rw[H] at K;rw[y] at a2;obtain⟨_,_,_,_,_,_,_,c,bl,be⟩:=B.ses.cells;refine⟨s2,i,a1,E,⟨c,_,bl,be⟩,?_⟩;obtain⟨g1,g2⟩:=B.go a2 (by rw[g];exact K) (by rw[g];exact a4)
  have au:∀b∈[w.heap.size+3],b∈C.all:=λb f=>by
   obtain rfl:=ew.1 f;simp[MCtx.all,d]
  rw[H,aw,ak] at o;rw[y] at au;refine⟨t.F,t.n,ar,(g1.but (But.put _ (w.heap.size+3) _) au).drop λb f=>by simp[MCtx.all,f],o,(A.trans g2).but (But.put _ (w.heap.size+3) _) (λb f=>?_) Q⟩
  obtain rfl:=ew.1 f;show w.heap.size<=w.heap.size+3
  omega
 ·have ab:N.heap.size=w.heap.size+3:=by rw[z];simp
  have ay:∀b,F b->b<w.heap.size:=λb f=>(h.ses.fix b f).1
  have G:∀j,Below w.heap.size w ((N.alloc (.deferred (some []))).alloc (.loop j)):=λj=>by
   rw[z];exact(((((eh _ w).alloc cL _).alloc (by simp only[World.size_alloc];omega) _).alloc (by simp only[World.size_alloc];omega) _).alloc (by simp only[World.size_alloc];omega) _).alloc (by simp only[World.size_alloc];omega) _
  have bc:∀j,jC fp F ((N.alloc (.deferred (some []))).alloc (.loop j)) s0.val s:=λj=>bd.keep (λb f=>(G j).block b (ay b f)) dP
  have aj:∀j k,k<N.heap.size->((N.alloc (.deferred (some []))).alloc (.loop j)).heap[k]?=N.heap[k]?:=λj k hk=>by rw[ek _ _ _ (by simp only[World.size_alloc];omega),ek _ _ _ hk]
  have ac:C.bb=bb:=by rw[y]
  rw[<-ac];refine VT.at (uQ (C:=C.e) (F:=F) (n:=n) C.e_ok ag (by rw[y];exact bj) N (by rw[ab,<-d];rfl) (by rw[ab,<-d];exact⟨by simp[MCtx.e,MCtx.all],by simp[MCtx.e,MCtx.all]⟩) (λj=>?_)) (λt W hz=>?_)
  ·clear ac;have m:=((((h.alloc (.cells #[.func (.func Y) rf lf] 86)).alloc (.cells s0.cells 53)).alloc (.cells #[.bool false] 4)).alloc (.deferred (some []))).alloc (.loop j);simp only[World.size_alloc] at m;rw[<-z] at m;have ai:∀b∈L,b<w.heap.size:=λb f=>(h.loc b f).2.1
   have c1:N.heap[w.heap.size]?=some (.cells #[.func (.func Y) rf lf] 86 (0,0)):=by
    rw[z,ek _ _ _ (by simp only[World.size_alloc];omega),ek _ _ _ (by simp only[World.size_alloc];omega)];exact aN _ _ rfl _
   have c2:N.heap[w.heap.size+1]?=some (.cells s0.cells 53 (0,0)):=by
    rw[z,ek _ _ _ (by simp only[World.size_alloc];omega)];exact aN _ _ (by simp only[World.size_alloc]) _
   have c3:N.heap[w.heap.size+1+1]?=some (.cells #[.bool false] 4 (0,0)):=by
    rw[z];exact aN _ _ (by simp only[World.size_alloc]) _
   refine⟨false,?_,λt x q1 U P=>by have:C.s.m_<=t:=q1;omega⟩
   show Mvg C C.all F n C.s.m_ false _
   rw[y];exact⟨m,λ_ h=>h,by rw[aj j _ (by simp only[MCtx.bf];omega)];exact c1,⟨by rw[(G j).block _ (aC al)];exact al,bh⟩,⟨s0,s,by rw[aj j _ (by simp only[MCtx.bt];omega)];exact c2,bc j,h.ses.now,h.hn⟩,by rw[aj j _ (by simp only[MCtx.bo];omega)];exact c3,⟨en _,s_⟩,FS.of_below (G j) Q,Q,ai⟩
  ·obtain⟨i,a,v⟩:=hz;have hq:Mvg C C.all t.F t.n 0 i W:=a.more (a.live.drop λb f=>fq _ f) dP
   obtain⟨s2,τ,a1,a2,K,a4⟩:=hq.ct;have g:=(ag.sta K).2.1;have ae:=hq.le;rw[aa] at ae;refine⟨⟨[],t.F,t.n,W⟩,⟨0,i,τ,hq,K,?_⟩,nY,λ_ _=>rfl⟩
   cases i with
   |false=>
    have h0:¬0<C.s.m_:=λhq=>by have:=ae.2.2 hq;cases this
    have h9:=a.live.ses.now;have e0:C.s.m_=0:=o_
    rw[e0] at h9;have bg:bT C.ks C.tape 0=some τ:=K;rw[bg] at h9;cases h9;exact d7 ⟨rfl,rfl,e0⟩
   |true=>exact d6 ⟨rfl,by rw[g];exact ae.2.1 rfl,by rw[g];exact K,λt x q1 U P=>v t x (ft _) U P,d6 g⟩
end
structure a3_(fp:eK)(sb mb:Nat)(mo:Obj)(ks:List aE)(tape:List Int)(s:aW)(L:List Nat)(src:cC)(w:aG)(m k l:Nat)(w':aG):Prop where
 kind:(k,l)=(kM s src).2
 bad:k≠0->m=0
 le:m<=s.m_
 same:k=0->∀j τ,m<=j->j<=s.m_->bT ks tape j=some τ->kM τ src=kM s src
 other:k=0->0<m->∀τ,bT ks tape (m-1)=some τ->kM τ src≠kM s src
 live:∃G n',Live fp G w' sb mb mo ks tape s n' L
 fs:FS sb w w'
structure SCx where
 fp:Nat->Value
 sb:Nat
 mb:Nat
 mo:Obj
 ks:List aE
 tape:List Int
 s:aW
 L:List Nat
 w:aG
 V0:aG
 A:aE
 bb:Nat
def SCx.new(C:SCx):List Nat:=List.range' C.w.heap.size (C.V0.heap.size+2-C.w.heap.size)
def SCx.since(C:SCx)(k:Nat):Prop:=∀j τ,k<=j->j<C.s.m_->bT C.ks C.tape j=some τ->eQ τ C.A=eQ C.s C.A
structure SCx.Q(C:SCx)(k:Nat)(L:List Nat)(F:bY)(n:Nat)(W:aG):Prop where
 live:Live C.fp F W C.sb C.mb C.mo C.ks C.tape C.s n L
 mem:∀b∈C.new++C.L,b∈L
 keep:∀b,C.w.heap.size<=b->b<C.V0.heap.size->W.heap[b]?=C.V0.heap[b]?
 fs:FS C.sb C.w W/\C.sb<C.w.heap.size/\C.w.heap.size<=C.V0.heap.size
 sin:C.since k
structure SCx.X(C:SCx)(L:List Nat)(F:bY)(n:Nat)(W:aG):Prop where
 live:Live C.fp F W C.sb C.mb C.mo C.ks C.tape C.s n L
 mem:∀b∈C.new++C.L,b∈L
 fs:FS C.sb C.w W/\C.sb<C.w.heap.size/\C.w.heap.size+1+1<C.V0.heap.size
 res:∃m:Nat,W.heap[C.w.heap.size]?=some (.cells #[I_ (m:Nat)] 3 (0,0))/\W.heap[C.w.heap.size+1]?=some (.cells #[I_ 0] 39 (0,0))/\W.heap[C.w.heap.size+1+1]?=some (.cells #[I_ 0] 3 (0,0))/\m<=C.s.m_/\C.since m/\0<m/\∀τ,bT C.ks C.tape (m-1)=some τ->eQ τ C.A≠eQ C.s C.A
def SCx.e(C:SCx):ECx where
 fp:=C.fp
 sb:=C.sb
 mb:=C.mb
 mo:=C.mo
 ks:=C.ks
 tape:=C.tape
 s:=C.s
 bb:=C.bb
 bd:=C.V0.heap.size+1
 All:=C.new++C.L
 Q:=C.Q
 X:=C.X
def SCx.mem_new{C:SCx}:b∈C.new↔C.w.heap.size<=b/\b<C.V0.heap.size+2:=by
 unfold SCx.new;rw[js];omega
def SCx.e_ok{C:SCx}(g:C.V0.heap[C.bb]?=some (.cells #[aZ C.sb] 24 (0,0)))(l:C.w.heap.size<=C.bb):C.e.Ok where
 live:=λh=>⟨h.live,h.mem⟩
 cb:=λh=>(h.keep _ l (aC g)).trans g
 but:=by
  intro k L u F n W s h d c;refine⟨h.live.but d λb a=>(c b a).1,h.mem,λb e f=>?_,⟨h.fs.1.but d (λb a=>?_) h.fs.2.1,h.fs.2⟩,h.sin⟩
  ·rw[d.blk b (h.live.loc b (h.mem b (fk _ (SCx.mem_new.2 ⟨e,o_⟩)))).2.1 λa=>?_]
   ·exact h.keep b e f
   ·have:C.V0.heap.size+1<b:=(c b a).2;omega
  ·have:C.V0.heap.size+1<b:=(c b a).2;have:=h.fs.2.2;omega
 more:=λh j a=>⟨j,a,h.keep,h.fs,h.sin⟩
 fs:=λh q j w x=>⟨j,h.mem,λb e f=>(h.live.blk q (h.mem b (fk _ (SCx.mem_new.2 ⟨e,o_⟩)))).trans (h.keep b e f),⟨h.fs.1.trans q,h.fs.2⟩,h.sin⟩
 xbut:=by
  intro L u F n W s h d c;obtain⟨m,p,o,r,t⟩:=h.res;have v:=h.fs.2.2
  have i:∀b,b<=C.w.heap.size+1+1->b<W.heap.size->s.heap[b]?=W.heap[b]?:=λb e f=>d.blk b f λa=>by
   have:C.V0.heap.size+1<b:=(c b a).2;omega
  refine⟨h.live.but d λb a=>(c b a).1,h.mem,⟨h.fs.1.but d (λb a=>?_) h.fs.2.1,h.fs.2⟩,m,by rw[i _ o_ (aC p)];exact p,by rw[i _ o_ (aC o)];exact o,by rw[i _ o_ (aC r)];exact r,t⟩
  have:C.V0.heap.size+1<b:=(c b a).2;omega
 xmore:=λh c a=>⟨h.live.drop c,a,h.fs,h.res⟩
def Sn1(C:SCx)(t:Tg)(s':SV)(b:Nat)(W:aG):Prop:=(∃σ,C.Q (σ.m_+1) (b::(t.L++(C.new++C.L))) t.F t.n W/\jC C.fp t.F W s'.val σ/\bT C.ks C.tape σ.m_=some σ/\σ.m_<C.s.m_/\σ.m_/20<t.n/\C.e.S t W)/\W.heap[b]?=some (.cells s'.cells 53 (0,0))/\C.V0.heap.size+1<b
section
variable {C:SCx} {L:List Nat} {F:bY} {n k:Nat} {W:aG} {t:Tg}
def SCx.Q.lt(h:C.Q k L F n W){b:Nat}(a:C.w.heap.size<=b)(c:b<C.V0.heap.size+2):b<W.heap.size/\¬F b:=by
 have:=h.live.loc b (h.mem b (fk _ (SCx.mem_new.2 ⟨a,c⟩)));exact⟨this.2.1,this.2.2.1⟩
def SCx.X.lt(h:C.X L F n W){b:Nat}(a:C.w.heap.size<=b)(c:b<C.V0.heap.size+2):b<W.heap.size/\¬F b:=by
 have:=h.live.loc b (h.mem b (fk _ (SCx.mem_new.2 ⟨a,c⟩)));exact⟨this.2.1,this.2.2.1⟩
def SCx.Q.put(h:C.Q k L F n W)(o:Obj):C.Q k L F n (W.putObj (C.V0.heap.size+1) o):=by
 have g:=h.fs.2.2;have d:C.V0.heap.size+1∈L:=h.mem _ (fk _ (SCx.mem_new.2 ⟨o_,o_⟩))
 have a:But [C.V0.heap.size+1] W (W.putObj (C.V0.heap.size+1) o):=But.put _ _ _;exact⟨h.live.but a λb c=>by rw[ew.1 c];exact d,h.mem,λb f e=>by rw[World.putObj_heap_other o_];exact h.keep b f e,⟨h.fs.1.but a (λb c=>by rw[ew.1 c];omega) h.fs.2.1,h.fs.2⟩,h.sin⟩
def SCx.Q.putS{v:aQ}{a:aW}(h:C.Q k L F n W)(c:jC C.fp F W v a)(o:Obj):jC C.fp F (W.putObj (C.V0.heap.size+1) o) v a:=
 c.but h.live (But.put _ _ _) λb d=>by rw[ew.1 d];exact h.mem _ (fk _ (SCx.mem_new.2 ⟨by have:=h.fs.2.2;omega,o_⟩))
def SCx.X.put(h:C.X L F n W)(o:Obj):C.X L F n (W.putObj (C.V0.heap.size+1) o):=by
 have j:=h.fs.2.2;have e:C.V0.heap.size+1∈L:=h.mem _ (fk _ (SCx.mem_new.2 ⟨o_,o_⟩))
 have a:But [C.V0.heap.size+1] W (W.putObj (C.V0.heap.size+1) o):=But.put _ _ _;obtain⟨m,i,g,d,f⟩:=h.res;exact⟨h.live.but a λb c=>by rw[ew.1 c];exact e,h.mem,⟨h.fs.1.but a (λb c=>by rw[ew.1 c];omega) h.fs.2.1,h.fs.2⟩,m,by rw[World.putObj_heap_other o_];exact i,by rw[World.putObj_heap_other o_];exact g,by rw[World.putObj_heap_other o_];exact d,f⟩
end
def EV(W:aG)(b n k l:Nat):But [b,b+1,b+1+1] W (gF W b n k l):=by
 have:=((But.set W b (I_ n)).trans (But.set _ (b+1) (I_ k))).trans (But.set _ (b+1+1) (I_ l));exact this
def XC(h:QD b W)(n k l:Nat):(gF W b n k l).heap[b]?=some (.cells #[I_ n] 3 (0,0))/\(gF W b n k l).heap[b+1]?=some (.cells #[I_ k] 39 (0,0))/\(gF W b n k l).heap[b+1+1]?=some (.cells #[I_ l] 3 (0,0)):=by
 obtain⟨⟨g,d⟩,⟨f,c⟩,e,a⟩:=h;unfold gF;refine⟨?_,?_,?_⟩
 ·rw[ei _ _ _ _ (by show b≠b+1+1;omega),ei _ _ _ _ (by show b≠b+1;omega)]
  exact aK d
 ·rw[ei _ _ _ _ (by show b+1≠b+1+1;omega)]
  exact aK ((ei _ _ _ _ (by show b+1≠b;omega)).trans c)
 ·exact aK ((ei _ _ _ _ (by show b+1+1≠b+1;omega)).trans ((ei _ _ _ _ (by show b+1+1≠b;omega)).trans a))
def XD{r:(cC × Nat) × Nat × Nat}{c:Array Value}{T:TypeId}{z:Nat × Nat}(h:W.heap[b]?=some (.cells c T z))(d:c.size=4):(EW W b r).heap[b]?=some (.cells (Z2 r) T z):=by
 have a:(EW W b r).heap[b]?=some (.cells ((((c.setIfInBounds 0 (.string (bs r.1.1))).setIfInBounds 1 (I_ r.1.2)).setIfInBounds 2 (I_ r.2.1)).setIfInBounds 3 (I_ r.2.2)) T z):=aK (aK (aK (aK h)));rw[a];obtain⟨l⟩:=c;match l,d with
 |[e,f,g,i],_=>rfl
def NV(h:Below lo w W)(a:lo<=b)(r:(cC × Nat) × Nat × Nat):Below lo w (EW W b r):=
 (((h.setCell (by show lo<=b;exact a) _).setCell (by show lo<=b;exact a) _).setCell (by show lo<=b;exact a) _).setCell (by show lo<=b;exact a) _
def wY(h:Below lo w W)(a:lo<=b)(n k l:Nat):Below lo w (gF W b n k l):=
 ((h.setCell (by show lo<=b;exact a) _).setCell (by show lo<=b+1;omega) _).setCell (by show lo<=b+1+1;omega) _
def qD{s:aW}{l:cC}{A:aE}(h:iQ l=.ok A):kM s l=eQ s A:=by unfold kM;rw[h]
def QC{s:aW}{A:aE}(h:(eQ s A).2.1=0):(eQ s A).2=(0,0):=by
 unfold eQ at h ⊢
 split
 ·rfl
 ·rename_i a;rw[if_neg a] at h;exact absurd h a
def cM_{C:SCx}(hg:Good C.ks)(ag:C.tape.length<=17592186044416){F:bY}{n nb f hi:Nat}{t:TypeId}{z:aQ}{R:Nat->Nat->Nat->World->Prop}(I:Live C.fp F C.w C.sb C.mb C.mo C.ks C.tape C.s n C.L)(X:Below C.w.heap.size C.w C.V0)
 (ac:C.V0.heap[C.bb]?=some (.cells #[aZ C.sb] 24 (0,0))) (ah:C.w.heap.size<=C.bb)
 (aa:C.V0.heap[nb]?=some (.cells #[.iface t z] 67 (0,0))) (af:C.w.heap.size<=nb)
 (S:C.V0.heap[f]?=some (.cells (Z2 (eQ C.s C.A)) 71 (0,0))) (ae:C.w.heap.size<=f)
 (H:QD C.w.heap.size C.V0) (ad:PN (Btw lo hi) C.V0 (.iface t z) C.A) (aj:C.w.heap.size<=lo) (ak:hi<=C.V0.heap.size) (hA:qF C.A)
 (hR:∀(m:Nat) (G:bY) (n':Nat) (W:aG),Live C.fp G W C.sb C.mb C.mo C.ks C.tape C.s n' C.L->FS C.sb C.w W->m<=C.s.m_->C.since m->(0<m->∀Q,bT C.ks C.tape (m-1)=some Q->eQ Q C.A≠eQ C.s C.A)->R m 0 0 W):
 df_ C.w nb f t z (eQ C.s C.A) R C.bb C.V0 C.e.A C.e.B (Sn1 C) C.e.E C.e.Z:=by
 have K:C.w.heap.size+1+1<C.V0.heap.size:=by
  obtain⟨_,_,_,h⟩:=H;exact aC h
 have A:=SCx.e_ok ac ah;have u:=I.ses.lt
 have s:∀{k L F n W},C.Q k L F n W->QD C.w.heap.size W:=λ{k L F n W} h=>by
  obtain⟨⟨v0,a0⟩,⟨v1,a1⟩,v2,a2⟩:=H;exact⟨⟨v0,(h.keep _ o_ o_).trans a0⟩,⟨v1,(h.keep _ o_ o_).trans a1⟩,v2,(h.keep _ o_ o_).trans a2⟩
 refine⟨K,λq y b W o h=>?_,λq y W o h=>?_,λq W o h=>?_,λq W o h=>h.put _,λq y W h=>?_,λq y b W h=>?_,λq W h=>?_,λq W h=>?_,?_⟩
 ·obtain⟨⟨B,i,h2,E,h4,h5,P⟩,O,h8⟩:=h;exact⟨⟨B,i.put _,i.putS h2 _,E,h4,h5,P.put (d:=C.V0.heap.size+1) cL (i.lt o_ o_).2 _⟩,by rw[World.putObj_heap_other o_];exact O,h8⟩
 ·exact⟨h.1.put _,h.2.put (d:=C.V0.heap.size+1) cL (h.1.lt o_ o_).2 _⟩
 ·exact⟨h.1.put _,h.2.put (d:=C.V0.heap.size+1) cL (h.1.lt o_ o_).2 _⟩
 ·obtain⟨B,i,E,h4,h5,P,O⟩:=h;have hl:=(i.lt (b:=C.V0.heap.size+1) o_ o_).1
  refine⟨⟨⟨B,A.more (A.but i (But.alloc _ _ []) nY) (i.live.alloc _) (λb f=>fe _ (i.mem b f)),E.but i.live (But.alloc _ _ []) nY,h4,h5,P,λb f=>⟨?_,(O.1 b f).2⟩,λb f=>?_⟩,aN _ _ rfl _,hl⟩,hl⟩
  ·rw[ek _ _ _ (i.live.loc b (fk _ f)).2.1];exact(O.1 b f).1
  ·rw[ek _ _ _ (i.live.ses.fix b f).1];exact O.2 b f
 ·obtain⟨⟨B,i,h2,E,h4,h5,P⟩,O,h8⟩:=h;have hl:=(i.lt (b:=C.V0.heap.size+1) o_ o_).1
  have Z:y.t=B.m_:=by
   obtain⟨s2,e1,e2,_⟩:=h2.sv;obtain rfl:=SV.val_inj e1;exact e2
  have ai:=(hg.sta E).1.m_;refine⟨O,(i.keep _ af (aC aa)).trans aa,(i.keep _ ae (aC S)).trans S,s i,hl,K,o_,eQ B C.A,?_⟩
  refine(nQ (w:=W.drew) (h2.keep (λb _=>rfl) dP) (λb v=>(i.live.ses.fix b v).1) (IM.of hg E) hA (PN.grow (hi':=W.drew.heap.size) ad (λk a b=>i.keep k o_ o_) cL (by show hi<=W.heap.size;omega)) (i.live.pow.low λ_ _=>rfl)).mono ?_
  rintro e N ⟨rfl,v⟩;have D:Below W.heap.size W N:=⟨v.os,v.tape,v.output,v.size,v.block⟩
  have l:C.Q (B.m_+1) (q.L++(C.new++C.L)) q.F q.n N:=by
   have hq:=A.but (L':=[]) i (But.below D []) nY;exact A.more hq (hq.live.drop λx p=>fe _ p) (λx p=>fq _ p)
  have hS:C.e.S q N:=⟨λx p=>⟨by rw[D.block _ (i.live.loc x (by simp[p])).2.1];exact(P.1 x p).1,(P.1 x p).2⟩,λx p=>by rw[D.block _ (i.live.ses.fix x p).1];exact P.2 x p⟩
  refine⟨rfl,D,λhr=>⟨⟨l.live,l.mem,l.keep,l.fs,λj Q j1 j2 j3=>?_⟩,hS⟩,λhr=>?_⟩
  ·rcases fu B.m_ j with hj|hj
   ·exact l.sin j Q hj j2 j3
   ·obtain rfl:j=B.m_:=o_
    rw[E] at j3;cases j3;exact hr
  ·have g:=(EV N C.w.heap.size (y.t+1) 0 0).trans (But.alloc (gF N C.w.heap.size (y.t+1) 0 0) (.cells y.cells 53) []);rw[jj] at g
   have r:∀b∈[C.w.heap.size,C.w.heap.size+1,C.w.heap.size+1+1],C.w.heap.size<=b/\b<C.V0.heap.size:=λb f=>by
    simp only[eo,fi,or_false] at f;omega
   have V:∀b∈[C.w.heap.size,C.w.heap.size+1,C.w.heap.size+1+1],b∈q.L++(C.new++C.L):=λb f=>l.mem b (fk _ (SCx.mem_new.2 ⟨(r b f).1,by have:=(r b f).2;omega⟩))
   obtain⟨r0,r1,r2⟩:=XC (s l) (y.t+1) 0 0;have J:∀b c,(gF N C.w.heap.size (y.t+1) 0 0).heap[b]?=some c->((gF N C.w.heap.size (y.t+1) 0 0).alloc (.cells y.cells 53)).heap[b]?=some c:=λb c hc=>(ek _ _ _ (ie.1 hc).1).trans hc
   refine⟨⟨l.live.but g V,l.mem,⟨l.fs.1.but g (λb f=>(r b f).1) u,u,K⟩,y.t+1,J _ _ r0,J _ _ r1,J _ _ r2,o_,by rw[Z];exact l.sin,o_,λQ Y=>?_⟩,λx p=>⟨?_,(hS.1 x p).2⟩,λx p=>?_⟩
   ·rw[Z,Nat.add_sub_cancel,E] at Y;cases Y;exact hr
   ·have q1:C.V0.heap.size+1<x:=(hS.1 x p).2;rw[g.blk x (l.live.loc x (by simp[p])).2.1 λhm=>by have:=(r x hm).2;omega]
    exact(hS.1 x p).1
   ·rw[g.blk x (l.live.ses.fix x p).1 λhm=>(l.live.loc x (V x hm)).2.2.1 p]
    exact hS.2 x p
 ·obtain⟨T, -⟩:=h;obtain⟨m,r0,r1,r2,r3,r4,r5,r6⟩:=T.res;have g:But [C.V0.heap.size] W (W.putObj C.V0.heap.size (.deferred none)):=But.put _ _ _;exact⟨m,r0,r1,r2,hR m _ _ _ ((T.live.but g λb f=>by rw[ew.1 f];exact T.mem _ (fk _ (SCx.mem_new.2 ⟨o_,o_⟩))).drop λb f=>T.mem b (fq _ f)) (T.fs.1.but g (λb f=>by rw[ew.1 f];omega) u) r3 r4 λ_=>r6⟩
 ·have l:C.Q 0 (q.L++(C.new++C.L)) q.F q.n W:=h;have g:=(EV W C.w.heap.size 0 0 0).trans (But.put (gF W C.w.heap.size 0 0 0) C.V0.heap.size (.deferred none))
  have r:∀b∈[C.w.heap.size,C.w.heap.size+1,C.w.heap.size+1+1]++[C.V0.heap.size],C.w.heap.size<=b/\b<=C.V0.heap.size:=λb f=>by
   simp only[gb,ij,eo,fi,or_false] at f;omega
  exact⟨s l,hR 0 _ _ _ ((l.live.but g λb f=>l.mem _ (fk _ (SCx.mem_new.2 ⟨(r b f).1,by have:=(r b f).2;omega⟩))).drop λb f=>l.mem b (fq _ f)) (l.fs.1.but g (λb f=>(r b f).1) u) (ft _) l.sin λh=>absurd h (Nat.lt_irrefl 0)⟩
 ·refine uQ (C:=C.e) (F:=F) (n:=n) A hg ag C.V0 rfl ⟨fk _ (SCx.mem_new.2 ⟨o_,o_⟩),fk _ (SCx.mem_new.2 ⟨o_,o_⟩)⟩ (λR0=>?_)
  have U:Below C.V0.heap.size C.V0 ((C.V0.alloc (.deferred (some []))).alloc (.loop R0)):=qW _ _ _;have M:Below C.w.heap.size C.w ((C.V0.alloc (.deferred (some []))).alloc (.loop R0)):=X.trans (U.mono X.size);have ab:((C.V0.alloc (.deferred (some []))).alloc (.loop R0)).heap.size=C.V0.heap.size+2:=s_
  exact⟨I.freshL (I.but (But.below M []) nY) (M.block _ u) _ λb f=>⟨(SCx.mem_new.1 f).1,by rw[ab];exact(SCx.mem_new.1 f).2⟩,λ_ h=>h,λb _ f=>U.block b f,⟨FS.of_below M u,u,o_⟩,λj Q j1 j2 _=>by have:C.s.m_<=j:=j1;omega⟩
section
variable {fp:eK} {F:bY} {w:aG} {sb mb n:Nat} {mo:Obj} {ks:List aE} {tape:List Int} {s:aW} {L:List Nat}
def L6(hg:Good ks)(am:tape.length<=17592186044416)(h:Live fp F w sb mb mo ks tape s n L)(hT:fX w)(i:ByteArray)(hl:i.size<=maxLen):
 Calls prog 22 #[aZ sb,.string i] w λe w'=>∃m k l:Nat,e=aX (.tuple #[I_ m,I_ k,I_ l])/\a3_ fp sb mb mo ks tape s L i.data.toList w m k l w':=by
 obtain⟨s1,aj,k0,k1,k2,k3,k4,_⟩:=h.ses.cells;have M:=h.ses.lt;have Z:∀b,F b->b<w.heap.size:=λb q=>(h.ses.fix b q).1
 have aa:IM s:=IM.of hg h.ses.now;generalize H:((w.alloc (.cells #[I_ 0] 3)).alloc (.cells #[I_ 0] 39)).alloc (.cells #[I_ 0] 3)=p;have y:Below w.heap.size w p:=by rw[<-H];exact(((eh _ w).alloc cL _).alloc s_ _).alloc (by simp only[World.size_alloc];omega) _
 have ao:p.heap.size=w.heap.size+3:=by rw[<-H];simp
 have ah:QD w.heap.size p:=by
  rw[<-H];refine⟨⟨I_ 0,?_⟩,⟨I_ 0,?_⟩,⟨I_ 0,?_⟩⟩
  ·rw[ek _ _ _ (by simp only[World.size_alloc];omega),ek _ _ _ (by simp only[World.size_alloc];omega)];exact aN _ _ rfl _
  ·rw[ek _ _ _ (by simp only[World.size_alloc];omega)];exact aN _ _ (by simp only[World.size_alloc]) _
  ·exact aN _ _ (by simp only[World.size_alloc]) _
 have J:∀W,Below w.heap.size w W->Live fp F W sb mb mo ks tape s n L/\FS sb w W:=λW q=>⟨h.but (But.below q []) nY,FS.of_below q M⟩
 have Q:∀W,Below p.heap.size p W->QD w.heap.size W:=λW q=>by
  obtain⟨⟨v0,a0⟩,⟨v1,a1⟩,v2,a2⟩:=ah;exact⟨⟨v0,(q.block _ o_).trans a0⟩,⟨v1,(q.block _ o_).trans a1⟩,v2,(q.block _ o_).trans a2⟩
 refine XA (τ:=Tg) w sb i s1 (a3_ fp sb mb mo ks tape s L i.data.toList w)
  (λk l W=>iQ i.data.toList=.error (k,l)/\k≠0/\Below p.heap.size p W)
  (λt z W=>∃A,iQ i.data.toList=.ok A/\Below p.heap.size p W/\PN (Btw p.heap.size W.heap.size) W (.iface t z) A)
  (λt z W r q V=>∃A,iQ i.data.toList=.ok A/\r=eQ s A/\Below p.heap.size p W/\PN (Btw p.heap.size W.heap.size) W (.iface t z) A/\Below (W.heap.size+1) (W.alloc (.cells #[.iface t z] 67)) V/\V.heap[q]?=some (.cells (Z2 r) 71 (0,0))/\W.heap.size+1<=q)
  ?_ (λk l W hP=>?_) (λt z W hA=>?_) (λt z W r q V hH=>?_)
 ·show Calls _ _ _ _ _
  rw[H];refine(qJ i p (hT.below y) hl).mono ?_;rintro e w' ⟨q,⟨f,T,I,rfl⟩|⟨A,t,z,T,rfl,I⟩⟩
  ·exact d7 ⟨f.1,f.2,I,rfl,T,I,q⟩
  ·exact d6 ⟨t,z,rfl,A,T,q,I⟩
 ·obtain⟨T,I,q3⟩:=hP;have d:Below w.heap.size w W:=y.trans (q3.mono o_)
  have x:Below w.heap.size w ((gF W w.heap.size 0 k l).alloc (.cells #[.nilIface] 67)):=by
   have:=wY d cL 0 k l;exact this.alloc this.size _
  refine⟨Q W q3,?_,λ_=>rfl,ft _,λe=>absurd e I,λe=>absurd e I,⟨F,n,(J _ x).1⟩,(J _ x).2⟩
  unfold kM;rw[T]
 ·obtain⟨A,a,o,B⟩:=hA;have d:Below w.heap.size w W:=y.trans (o.mono o_)
  have cw:∀j v,w.cell? (aH sb j)=some v->W.cell? (aH sb j)=some v:=λj v hv=>(World.cell?_of_block (d.block sb M)).trans hv
  have ac:=o.size
  have ae:∀U,Below W.heap.size W U->Calls prog 26 #[s1.val,.iface t z] U λe Y=>e=aX (D3 (eQ s A))/\Below U.heap.size U Y:=λU N=>by
   have S:Below w.heap.size w U:=d.trans (N.mono d.size);exact nQ (aj.keep (λb O=>S.block b (Z b O)) dP) (λb O=>ej (Z b O) S.size) aa (uA a) (PN.grow B (λk _ hk=>N.block k hk) cL N.size) (h.pow.below S)
  refine⟨ej M d.size,cw _ _ k0,cw _ _ k1,cw _ _ k2,cw _ _ k3,cw _ _ k4,?_,λc hc=>?_⟩
  ·have N:Below W.heap.size W (W.alloc (.cells #[.iface t z] 67)).drew:=by
    have:=(eh W.heap.size W).alloc cL (.cells #[.iface t z] 67);exact⟨this.os,this.tape,this.output,this.size,this.block⟩
   refine(ae _ N).mono ?_;rintro e Y ⟨rfl,g⟩
   have u:Below (W.heap.size+1) (W.alloc (.cells #[.iface t z] 67)) Y:=by
    have:(W.alloc (.cells #[.iface t z] 67)).drew.heap.size=W.heap.size+1:=by
     show (W.alloc (.cells #[.iface t z] 67)).heap.size=_
     simp
    rw[this] at g;exact⟨g.os,g.tape,g.output,g.size,g.block⟩
   have K:=u.size;rw[World.size_alloc] at K;exact⟨_,rfl,A,a,rfl,o,B,u.alloc K _,aN _ _ rfl _,K⟩
  ·have N:Below W.heap.size W ((W.alloc (.cells #[.iface t z] 67)).drew.alloc (.cells c 71)):=by
    have:=qW W (.cells #[.iface t z] 67) (.cells c 71);exact⟨this.os,this.tape,this.output,this.size,this.block⟩
   refine(ae _ N).mono ?_;rintro e Y ⟨rfl,g⟩
   have ak:((W.alloc (.cells #[.iface t z] 67)).drew.alloc (.cells c 71)).heap.size=W.heap.size+2:=by
    show ((W.alloc (.cells #[.iface t z] 67)).alloc (.cells c 71)).heap.size=_
    simp
   have ag:((W.alloc (.cells #[.iface t z] 67)).drew.alloc (.cells c 71)).heap[W.heap.size+1]?=some (.cells c 71 (0,0)):=fR _ _ _;rw[ak] at g;have ab:Y.heap[W.heap.size+1]?=some (.cells c 71 (0,0)):=(g.block _ o_).trans ag
   have u:Below (W.heap.size+1) (W.alloc (.cells #[.iface t z] 67)) Y:=by
    have h1:Below (W.heap.size+1) (W.alloc (.cells #[.iface t z] 67)) ((W.alloc (.cells #[.iface t z] 67)).drew.alloc (.cells c 71)):=by
     have:=(eh (W.heap.size+1) (W.alloc (.cells #[.iface t z] 67))).alloc s_ (.cells c 71)
     exact⟨this.os,this.tape,this.output,this.size,this.block⟩
    exact h1.trans (g.mono o_)
   exact⟨_,rfl,ab,A,a,rfl,o,B,NV u cL _,XD ab hc,cL⟩
 ·obtain⟨A,a,rfl,o,B,hV,ad,aq⟩:=hH;have d:Below w.heap.size w W:=y.trans (o.mono o_)
  have ac:=o.size;have P:Below W.heap.size W V:=((eh W.heap.size W).alloc cL (.cells #[.iface t z] 67)).trans (hV.mono o_)
  have ai:=hV.size;rw[World.size_alloc] at ai;have E:Below w.heap.size w V:=d.trans (P.mono d.size);have af:Below p.heap.size p V:=o.trans (P.mono ac);have an:V.heap[W.heap.size]?=some (.cells #[.iface t z] 67 (0,0)):=(hV.block _ o_).trans (aN _ _ rfl _)
  refine⟨ad,Q V af,λhr=>?_,λhr=>?_⟩
  ·have x:Below w.heap.size w (gF V w.heap.size 0 (eQ s A).2.1 (eQ s A).2.2).drew:=by
    have:=wY E cL 0 (eQ s A).2.1 (eQ s A).2.2;exact⟨this.os,this.tape,this.output,this.size,this.block⟩
   exact⟨by rw[qD a],λ_=>rfl,ft _,λe=>absurd e hr,λe=>absurd e hr,⟨F,n,(J _ x).1⟩,(J _ x).2⟩
  ·have ap:V.heap.size<(V.alloc (.cells #[aZ sb] 24)).heap.size:=s_
   have X:Below V.heap.size V (V.alloc (.cells #[aZ sb] 24)):=(eh _ V).alloc cL _;have D:∀b c,V.heap[b]?=some c->(V.alloc (.cells #[aZ sb] 24)).heap[b]?=some c:=λb c hc=>(X.block b (ie.1 hc).1).trans hc
   refine⟨_,_,_,_,_,cM_ (C:=⟨fp,sb,mb,mo,ks,tape,s,L,w,V.alloc (.cells #[aZ sb] 24),A,V.heap.size⟩) (lo:=p.heap.size) (hi:=W.heap.size) hg am h (E.trans (X.mono E.size)) (aN _ _ rfl _) E.size (D _ _ an) d.size (D _ _ ad) (by show w.heap.size<=q;have:=d.size;omega) ?_ ?_ y.size (by show W.heap.size<=(V.alloc _).heap.size;rw[World.size_alloc];omega) (uA a) ?_⟩
   ·obtain⟨⟨v0,a0⟩,⟨v1,a1⟩,v2,a2⟩:=Q V af;exact⟨⟨v0,D _ _ a0⟩,⟨v1,D _ _ a1⟩,v2,D _ _ a2⟩
   ·exact PN.grow B (λk _ hk=>(X.block k o_).trans (P.block k hk)) cL cL
   ·intro m G n' W' T I q3 q4 q5;refine⟨by rw[qD a];exact(QC hr).symm,λe=>absurd rfl e,q3,λ_ j τ j1 j2 j3=>?_,λ_ hm τ al=>?_,⟨G,n',T⟩,I⟩
    ·rw[qD a,qD a];rcases fu j s.m_ with hj|hj
     ·exact q4 j τ j1 hj j3
     ·obtain rfl:j=s.m_:=o_
      rw[h.ses.now] at j3;cases j3;rfl
    ·rw[qD a,qD a];exact q5 hm τ al
end
end Go.Proofs.YtlflgmdcghfngaaGreatDoor
