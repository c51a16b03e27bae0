/- Contracts of the program: the moment is told: the walks. -/
import Derived.Test.YtblbkfdhjfppkaaGreatDoorB10
import Derived.Test.YtblbkfdhjfppkaaGreatDoorP17
set_option maxRecDepth 100000
set_option maxHeartbeats 4000000
namespace Go.Proofs.YtblbkfdhjfppkaaGreatDoor
open Hs
open Tryz(prog)
open Go.RowKit
theorem LZ{W:World}{b:Nat}{s:SV}{T:TypeId}(h:W.heap[b]?=some (.cells s.cells T (0,0))):W.cell? ⟨b,0,none⟩=some (.int .i64 s.t)/\W.cell? ⟨b,1,none⟩=some (.slice s.x1 s.n1 s.c1)/\W.cell? ⟨b,2,none⟩=some (.slice s.x2 s.n2 s.c2)/\W.cell? ⟨b,3,none⟩=some (.slice s.x3 s.n3 s.c3)/\W.cell? ⟨b,4,none⟩=some (.int .i64 s.q):=
 ⟨aA h rfl,aA h rfl,aA h rfl,aA h rfl,aA h rfl⟩
theorem OP(w:World)(s:SV)(P A3:SV->World->Prop)(A1:Option Addr->Nat->Nat->World->Prop)(A2:Option Addr->Nat->Nat->Option Addr->Nat->Nat->World->Prop)
 (HS:Hid (∀W,aY ((w.alloc (.cells s.cells 108)).alloc (.cells #[.int .i64 0,.slice none 0 0,.slice none 0 0,.slice none 0 0,.int .i64 0] 63)) W->Calls prog 107 #[s.val] W fun e w'=>∃x n c,e=.returned (.slice x n c)/\A1 x n c w'))
 (HV:Hid (∀x n c W,A1 x n c W->W.heap[w.heap.size]?=some (.cells s.cells 108 (0,0))/\Calls prog 108 #[s.val] W fun e w'=>∃x2 n2 c2,e=.returned (.slice x2 n2 c2)/\A2 x n c x2 n2 c2 w'))
 (HC:Hid (∀x n c x2 n2 c2 W,A2 x n c x2 n2 c2 W->W.heap[w.heap.size]?=some (.cells s.cells 108 (0,0))/\Calls prog 109 #[.slice s.x3 s.n3 s.c3] W fun e w'=>∃x3 n3 c3,e=.returned (.slice x3 n3 c3)/\A3 ⟨s.t,x,x2,x3,n,n2,n3,c,c2,c3,s.q⟩ w'))
 (HP:Hid (∀m W,A3 m W->W.heap[w.heap.size]?=some (.cells s.cells 108 (0,0))/\(∃c,W.heap[w.heap.size+1]?=some (.cells c 63 (0,0))/\c.size=5)/\P m (fA W (w.heap.size+1) m))):
 Calls prog 60 #[s.val] w fun e w'=>∃m:SV,e=.returned m.val/\P m w':=by
 unfold SV.val SV.cells at HS;have HV':=HV;unfold SV.val at HV';unfold SV.val;go_enter Tryz.func60,Tryz.ntmps60;go_wp2_with fail;have HH:=aB (aY.drew ((w.alloc (.cells #[.int .i64 s.t,.slice s.x1 s.n1 s.c1,.slice s.x2 s.n2 s.c2,.slice s.x3 s.n3 s.c3,.int .i64 s.q] 108)).alloc (.cells #[.int .i64 0,.slice none 0 0,.slice none 0 0,.slice none 0 0,.int .i64 0] 63)));have hb0:((w.alloc (.cells #[.int .i64 s.t,.slice s.x1 s.n1 s.c1,.slice s.x2 s.n2 s.c2,.slice s.x3 s.n3 s.c3,.int .i64 s.q] 108)).alloc (.cells #[.int .i64 0,.slice none 0 0,.slice none 0 0,.slice none 0 0,.int .i64 0] 63)).drew.heap[w.heap.size]?=some (.cells (SV.cells s) 108 (0,0)):=(o9 _ _ _ (by simp)).trans (aT _ _ rfl _)
 have c2:=LZ hb0;clear hb0;refine wp_region_held_drew (S:=fun W=>W.cell? ⟨w.heap.size,0,none⟩=some (.int .i64 s.t)/\W.cell? ⟨w.heap.size,1,none⟩=some (.slice s.x1 s.n1 s.c1)/\W.cell? ⟨w.heap.size,2,none⟩=some (.slice s.x2 s.n2 s.c2)/\W.cell? ⟨w.heap.size,3,none⟩=some (.slice s.x3 s.n3 s.c3)/\W.cell? ⟨w.heap.size,4,none⟩=some (.int .i64 s.q)) (by kernel_rfl) c2 (fun hHeld=>?_)
 clear c2;(refine wpAnyH_take (i:=0) (v:=?_) rfl (by kernel_rfl) (by kernel_rfl) (by kernel_rfl) (fun _ _ _ h=>h) (Or.inl ⟨by rfl,?_⟩) hHeld ?_;rotate_left;(rintro w ⟨q0,q1,q2,q3,q4⟩;go_simp<;>with_reducible rfl))
 (refine wpAnyH_take (i:=1) (v:=?_) rfl (by kernel_rfl) (by kernel_rfl) (by kernel_rfl) (fun _ _ _ h=>h) (Or.inl ⟨by rfl,?_⟩) hHeld ?_;rotate_left;(rintro w ⟨q0,q1,q2,q3,q4⟩;go_simp<;>with_reducible rfl))
 (refine wpAnyH_take (i:=2) (v:=?_) rfl (by kernel_rfl) (by kernel_rfl) (by kernel_rfl) (fun _ _ _ h=>h) (Or.inl ⟨by rfl,?_⟩) hHeld ?_;rotate_left;(rintro w ⟨q0,q1,q2,q3,q4⟩;go_simp<;>with_reducible rfl))
 (refine wpAnyH_take (i:=4) (v:=?_) rfl (by kernel_rfl) (by kernel_rfl) (by kernel_rfl) (fun _ _ _ h=>h) (Or.inl ⟨by rfl,?_⟩) hHeld ?_;rotate_left;(rintro w ⟨q0,q1,q2,q3,q4⟩;go_simp<;>with_reducible rfl))
 (refine wpAnyH_take (i:=6) (v:=?_) rfl (by kernel_rfl) (by kernel_rfl) (by kernel_rfl) (fun _ _ _ h=>h) (Or.inl ⟨by rfl,?_⟩) hHeld ?_;rotate_left;(rintro w ⟨q0,q1,q2,q3,q4⟩;go_simp<;>with_reducible rfl))
 (refine wpAnyH_take (i:=7) (v:=?_) rfl (by kernel_rfl) (by kernel_rfl) (by kernel_rfl) (fun _ _ _ h=>h) (Or.inl ⟨by rfl,?_⟩) hHeld ?_;rotate_left;(rintro w ⟨q0,q1,q2,q3,q4⟩;go_simp<;>with_reducible rfl))
 (refine wpAnyH_take (i:=9) (v:=?_) rfl (by kernel_rfl) (by kernel_rfl) (by kernel_rfl) (fun _ _ _ h=>h) (Or.inl ⟨by rfl,?_⟩) hHeld ?_;rotate_left;(rintro w ⟨q0,q1,q2,q3,q4⟩;go_simp<;>with_reducible rfl))
 (refine wpAnyH_take (i:=10) (v:=?_) rfl (by kernel_rfl) (by kernel_rfl) (by kernel_rfl) (fun _ _ _ h=>h) (Or.inl ⟨by rfl,?_⟩) hHeld ?_;rotate_left;(rintro w ⟨q0,q1,q2,q3,q4⟩;go_simp<;>with_reducible rfl))
 refine wpAnyH_ready (rs:=[3]) (by kernel_rfl) (by simp) ?_
 refine AllReadyH.cons rfl (fun K hK=>?_) AllReadyH.nil
 go_simp;go_at_call 107
 refine(HS.out _ HH.out).mono ?_;rintro e w3 ⟨x1,n1,c1,rfl,h3⟩;obtain⟨hb3,hv3⟩:=HV'.out _ _ _ _ h3;have HV3:=aB hv3;have cw3:=LZ hb3;clear h3 hb3 hv3 HS HV HV' HH;go_wp2_with fail;refine hK.out _ _ cw3 (fun hHeld=>?_)
 clear hK K cw3;refine wpAnyH_ready (rs:=[5]) (by kernel_rfl) (by simp) ?_
 refine AllReadyH.cons rfl (fun K hK=>?_) AllReadyH.nil
 go_simp;go_at_call 108
 refine HV3.out.mono ?_;rintro e w4 ⟨x2,n2,c2,rfl,h4⟩;obtain⟨hb4,hv4⟩:=HC.out _ _ _ _ _ _ _ h4;have HC4:=aB hv4;have cw4:=LZ hb4;clear h4 hb4 hv4 HC HV3;go_wp2_with fail;refine hK.out _ _ cw4 (fun hHeld=>?_)
 clear hK K cw4;refine wpAnyH_ready (rs:=[8]) (by kernel_rfl) (by simp) ?_
 refine AllReadyH.cons rfl (fun K hK=>?_) AllReadyH.nil
 go_simp;go_at_call 109
 refine HC4.out.mono ?_;rintro e w5 ⟨x3,n3,c3,rfl,h5⟩;obtain⟨hb5,⟨c,hm5,hc5⟩,hp5⟩:=HP.out _ _ h5;have cw5:=LZ hb5;have HP5:=aB hp5;have HM5:=aB hm5;clear h5 hb5 hp5 HP HC4;go_wp2_with fail;refine hK.out _ _ cw5 (fun hHeld=>?_)
 clear hK K;(refine wpAnyH_take (i:=11) (v:=?_) rfl (by kernel_rfl) (by kernel_rfl) (by kernel_rfl) (fun _ _ _ h=>h) (Or.inl ⟨by rfl,?_⟩) hHeld ?_;rotate_left;(rintro w ⟨q0,q1,q2,q3,q4⟩;go_simp<;>with_reducible rfl))
 refine wpAnyH_ready (rs:=[12]) (by kernel_rfl) (by simp) ?_
 refine AllReadyH.cons rfl (fun K hK=>?_) AllReadyH.nil
 have g0:=aA (i:=0) HM5.out (n9 (by omega))
 have g1:=aA (i:=1) HM5.out (n9 (by omega))
 have g2:=aA (i:=2) HM5.out (n9 (by omega))
 have g3:=aA (i:=3) HM5.out (n9 (by omega))
 have g4:=aA (i:=4) HM5.out (n9 (by omega))
 have f0:=aE (i:=0) HM5.out;have f1:=aE (i:=1) HM5.out;have f2:=aE (i:=2) HM5.out;have f3:=aE (i:=3) HM5.out;have f4:=aE (i:=4) HM5.out;have l5:=aD HM5.out;have hs:=oI (W:=w5) (s:=⟨s.t,x1,x2,x3,n1,n2,n3,c1,c2,c3,s.q⟩) HM5.out (by omega) rfl
 have hk5:∀i,(fA w5 (w.heap.size+1) ⟨s.t,x1,x2,x3,n1,n2,n3,c1,c2,c3,s.q⟩).cell? ⟨w.heap.size,i,none⟩=w5.cell? ⟨w.heap.size,i,none⟩:=fun i=>World.cell?_of_block (dY _ _ _ _ (show w.heap.size≠w.heap.size+1 by omega))
 have HC5:=aB hs;have HK5:=aB hk5;clear hm5 hs hk5;unfold fA at HC5 HP5 HK5;go_simp;refine hK.out _ _ ⟨(HK5.out 0).trans cw5.1,(HK5.out 1).trans cw5.2.1,(HK5.out 2).trans cw5.2.2.1,(HK5.out 3).trans cw5.2.2.2.1,(HK5.out 4).trans cw5.2.2.2.2⟩ (fun hHeld=>?_)
 refine wpAnyH_done (by kernel_rfl) ?_ _
 have HC5':=HC5.out;have HP5':=HP5.out;clear HC5 HP5 HM5 HK5 g0 g1 g2 g3 g4 f0 f1 f2 f3 f4 hHeld hK cw5;generalize ((((w5.setCell ⟨w.heap.size+1,0,none⟩ (.int .i64 s.t)).setCell ⟨w.heap.size+1,1,none⟩ (.slice x1 n1 c1)).setCell ⟨w.heap.size+1,2,none⟩ (.slice x2 n2 c2)).setCell ⟨w.heap.size+1,3,none⟩ (.slice x3 n3 c3)).setCell ⟨w.heap.size+1,4,none⟩ (.int .i64 s.q)=W6 at HC5' HP5' ⊢
 obtain⟨r0,r1,r2,r3,r4⟩:=HC5';have HPP:=aB HP5';clear HP5';go_wp2_with fail;exact bodyPost_ret (v:=.agg #[.int .i64 s.t,.slice x1 n1 c1,.slice x2 n2 c2,.slice x3 n3 c3,.int .i64 s.q]) (by simp[results,Tryz.results60,go_sem,r0,r1,r2,r3,r4]) rfl ⟨_,rfl,HPP.out⟩
theorem QT:∀(n:Nat) (l:List UInt8),l.length<=n->∀c∈dV l,c.length<=l.length:=by
 intro n;induction n with
 |zero=>
  intro l hl c hc;rw[dQ (Or.inl (ay_.1 (by omega)))] at hc
  cases hc
 |succ n ih=>
  intro l hl c hc;by_cases h1:l=[]
  ·rw[dQ (Or.inl h1)] at hc;cases hc
  by_cases h2:bC l=0
  ·rw[dQ (Or.inr h2)] at hc;cases hc
  rw[iB h1 h2] at hc;rcases p8.1 hc with rfl|hc
  ·rw[an_];omega
  ·have:=ih _ (by rw[al_];omega) c hc
   rw[al_] at this;omega
theorem PB(a b:aI)(h:aJ a<=200):aJ (dB a b).1<=200:=by
 unfold dB;split
 ·exact jD
 split
 ·exact jD
 have hp:∀x∈jF a,aJ x<=200:=fun x hx=>by
  unfold jF at hx;rw[eU] at h;split at hx
  ·obtain⟨c,hc,rfl⟩:=aO_.1 hx;have:=QT _ _ (l9 _) c hc;rw[kM];omega
  ·have:=lJ hx;omega
 show aJ ((jF a).getD b.n.toNat bL)<=200
 rw[List.getD_eq_getElem?_getD];cases hk:(jF a)[b.n.toNat]? with
 |none=>exact jD
 |some x=>exact hp x (aq_ hk)
theorem KU(a:aI):aJ (eC a).1<=200:=by
 unfold eC;repeat' split
 all_goals first|(show aJ (aV _)<=200;rw[kA];omega)|exact jD
section
variable {fp:Nat->Value} {F:Nat->Prop} {base:Nat} {w:World} {sb gf cap:Nat} {t0 tv outv s0:Value} {fvs:List FVal} {below:List aK} {f:aK} {tape:List Int} {out:List (List UInt8)}
theorem K7(h:cT fp F base w sb gf cap t0 tv outv s0 fvs ⟨below++[f],tape,out⟩)(hbel:below.length<=15)(hbase:base<=w.heap.size)(hops:f.ops.length<=99000)(hne:∃vs a b,f.ops=vs++[a,b]/\bN a):
 Calls prog 380 #[.agg #[],.pointer (some ⟨sb,0,none⟩)] w (nS fp F base sb t0 s0 (aF sb gf outv fvs) w below tape out (aN .index f)):=by
 obtain⟨vs,a,b,hf,hut⟩:=hne;have hf:f.ops=(vs++[a])++[b]:=by rw[hf];simp
 have hM:=h.mid hbase (.cells #[] 405);have hf2:f.pop.ops=vs++[a]:=lY hf;have hlen:=hops;rw[hf,m6,m6] at hlen;have hl1:f.pop.ops.length<=100000:=by rw[hf2,m6];omega
 have hl2:f.pop.pop.ops.length<=100000:=by rw[lY hf2];omega
 have hr:aN .index f=if (dB a b).2=0 then (f.pop.pop.push (dB a b).1,0) else (f.pop.pop,(dB a b).2):=by simp[aN,iU hf,iU hf2]
 have hcl:aJ a<=200->aJ (dB a b).1<=200:=PB a b;have hbi:∀(W:World) (u v:Value),PV F W u a->PV F W v b->(∀k,F k->k<W.heap.size)->aJ a<=200->aJ b<=200->Calls prog 381 #[u,v] W (eN F W (dB a b)):=fun W u v h1 h2 h3 h4 h5=>Q0 F u v a b W h1 h2 hut (by omega) h3
 generalize dB a b=r at hbi hr hcl;rw[hr]
 refine(KZ w _ sb gf (below.length*6) r.2 (fun w'=>r.2=0/\Done fp F base sb t0 s0 (aF sb gf outv fvs) w ⟨below++[f.pop.pop.push r.1],tape,out⟩ w') (fun w'=>r.2≠0/\Done fp F base sb t0 s0 (aF sb gf outv fvs) w ⟨below++[f.pop.pop],tape,out⟩ w')
  (fun t z W=>PV F W (.iface t z) b/\aJ b<=200/\Mid fp base sb gf below.length t0 s0 (aF sb gf outv fvs) (w.alloc (.cells #[] 405)) F ⟨below++[f.pop],tape,out⟩ W)
  (fun t z t' z' W=>PV F W (.iface t z) b/\aJ b<=200/\PV F W (.iface t' z') a/\aJ a<=200/\Mid fp base sb gf below.length t0 s0 (aF sb gf outv fvs) (w.alloc (.cells #[] 405)) F ⟨below++[f.pop.pop],tape,out⟩ W)
  (fun t z W=>(r.2=0/\aJ r.1<=200)/\∃G,Ext F G w.heap.size/\PV G W (.iface t z) r.1/\Mid fp base sb gf below.length t0 s0 (aF sb gf outv fvs) (w.alloc (.cells #[] 405)) G ⟨below++[f.pop.pop],tape,out⟩ W) rfl (hM.topS hbel) (fun W hS=>?_) (fun W t z hq=>?_) (fun W t z t' z' hq=>?_) (fun W t z hq=>?_)).mono ?_
 ·refine((hM.same hS).pop hf (by omega)).mono ?_
  rintro e w' ⟨t,z,he,h1,h2,h3⟩;exact⟨t,z,he,h1,h2,h3⟩
 ·obtain⟨h1,h2,h3⟩:=hq;refine(h3.popK hf2 hl1).mono ?_;rintro e w' ⟨t',z',he,k1,k2,k3,k4⟩;exact⟨t',z',he,h1.keep k4,h2,k1,k2,k3⟩
 ·obtain⟨h1,h2,h3,h4,h5⟩:=hq;refine(hbi W _ _ h3 h1 (fun k hk=>(h5.apart k hk).1) h4 h2).mono ?_
  rintro e w' ⟨hb,⟨hz,u,rfl,hu⟩|⟨hz,rfl⟩⟩
  ·obtain⟨t1,z1,rfl⟩:=hu.form;exact Or.inl ⟨t1,z1,rfl,⟨hz,hcl h4⟩,Grow F W w',⟨fun _=>Or.inl,fun k hk=>hk.imp_right fun h1=>p7 (p7 (by simp) h5.1.size) h1.1⟩,hu,h5.grow hb (fun _=>Or.inl) fun _ h=>h⟩
  ·exact Or.inr ⟨rfl,hz,(h5.grow hb (fun _ h=>h) fun _=>Or.inl).done (Ext.refl _ _)⟩
 ·obtain⟨⟨hz,hcr⟩,G,hG,h1,h2⟩:=hq;refine(h2.push h1 hcr hl2).mono ?_;rintro e w' ⟨he,h4⟩;exact⟨he,hz,h4.done hG⟩
 ·rintro e w' (⟨rfl,h1,h2⟩|⟨rfl,h1,h2⟩)
  ·exact nS.ok (if_pos h1) h2
  ·exact nS.stop (if_neg h1) h1 h2
theorem ZE(h:cT fp F base w sb gf cap t0 tv outv s0 fvs ⟨below++[f],tape,out⟩)(hbel:below.length<=15)(hbase:base<=w.heap.size)(hops:f.ops.length<=99000)(hne:∃vs a,f.ops=vs++[a]/\bN a):
 Calls prog 398 #[.agg #[],.pointer (some ⟨sb,0,none⟩)] w (nS fp F base sb t0 s0 (aF sb gf outv fvs) w below tape out (aN .length f)):=by
 obtain⟨vs,a,hf,hut⟩:=hne;have hM:=h.mid hbase (.cells #[] 439);have hl:f.pop.ops.length<=100000:=by rw[lY hf];rw[hf,m6] at hops;omega
 have hr:aN .length f=if (eC a).2=0 then (f.pop.push (eC a).1,0) else (f.pop,(eC a).2):=by simp[aN,iU hf]
 have hcl:=KU a;have hbi:∀(W:World) (u:Value),PV F W u a->aJ a<=200->Calls prog 399 #[u] W (eN F W (eC a)):=fun W u h1 h4=>G4 F u a W h1 hut (by omega)
 generalize eC a=r at hbi hr hcl;rw[hr]
 refine(FJ w _ sb gf (below.length*6) r.2 (fun w'=>r.2=0/\Done fp F base sb t0 s0 (aF sb gf outv fvs) w ⟨below++[f.pop.push r.1],tape,out⟩ w') (fun w'=>r.2≠0/\Done fp F base sb t0 s0 (aF sb gf outv fvs) w ⟨below++[f.pop],tape,out⟩ w')
  (fun t z W=>PV F W (.iface t z) a/\aJ a<=200/\Mid fp base sb gf below.length t0 s0 (aF sb gf outv fvs) (w.alloc (.cells #[] 439)) F ⟨below++[f.pop],tape,out⟩ W)
  (fun t z W=>r.2=0/\∃G,Ext F G w.heap.size/\PV G W (.iface t z) r.1/\Mid fp base sb gf below.length t0 s0 (aF sb gf outv fvs) (w.alloc (.cells #[] 439)) G ⟨below++[f.pop],tape,out⟩ W) rfl (hM.topS hbel) (fun W hS=>?_) (fun W t z hq=>?_) (fun W t z hq=>?_)).mono ?_
 ·refine((hM.same hS).pop hf (by omega)).mono ?_
  rintro e w' ⟨t,z,he,h1,h2,h3⟩;exact⟨t,z,he,h1,h2,h3⟩
 ·obtain⟨h1,h2,h5⟩:=hq;refine(hbi W _ h1 h2).mono ?_;rintro e w' ⟨hb,⟨hz,u,rfl,hu⟩|⟨hz,rfl⟩⟩
  ·obtain⟨t1,z1,rfl⟩:=hu.form;exact Or.inl ⟨t1,z1,rfl,hz,Grow F W w',⟨fun _=>Or.inl,fun k hk=>hk.imp_right fun h1=>p7 (p7 (by simp) h5.1.size) h1.1⟩,hu,h5.grow hb (fun _=>Or.inl) fun _ h=>h⟩
  ·exact Or.inr ⟨rfl,hz,(h5.grow hb (fun _ h=>h) fun _=>Or.inl).done (Ext.refl _ _)⟩
 ·obtain⟨hz,G,hG,h1,h2⟩:=hq;refine(h2.push h1 hcl hl).mono ?_;rintro e w' ⟨he,h4⟩;exact⟨he,hz,h4.done hG⟩
 ·rintro e w' (⟨rfl,h1,h2⟩|⟨rfl,h1,h2⟩)
  ·exact nS.ok (if_pos h1) h2
  ·exact nS.stop (if_neg h1) h1 h2
end
def Disp(t:TypeId)(f:Nat):Prop:=(∀recv w,(Go.method 616 t recv "hindsight/machine.do").run prog w=.ok (f,recv) w)/\∀a b w,(callFunc f #[a,b]).run prog w=.ok (.enter f #[a,b]) w
def fE(t:TypeId):Prop:=∀v w,(Instr.typeAssert (.iface t v) 355 365 true).run prog w=.ok (.tuple #[.agg #[.int .i64 0,.pointer none],.bool false]) w
theorem K2(v:Value)(w:World):(Instr.typeAssert (.iface 365 v) 355 365 true).run prog w=.ok (.tuple #[v,.bool true]) w:=by kernel_rfl
theorem UV:Disp 365 373:=⟨fun _ _=>by kernel_rfl,fun _ _ _=>by kernel_rfl⟩
theorem ZX:Disp 361 370:=⟨fun _ _=>by kernel_rfl,fun _ _ _=>by kernel_rfl⟩
theorem ZY:Disp 402 374:=⟨fun _ _=>by kernel_rfl,fun _ _ _=>by kernel_rfl⟩
theorem LQ:Disp 443 403:=⟨fun _ _=>by kernel_rfl,fun _ _ _=>by kernel_rfl⟩
theorem QH:Disp 445 404:=⟨fun _ _=>by kernel_rfl,fun _ _ _=>by kernel_rfl⟩
theorem A0:Disp 462 412:=⟨fun _ _=>by kernel_rfl,fun _ _ _=>by kernel_rfl⟩
theorem QE:Disp 461 411:=⟨fun _ _=>by kernel_rfl,fun _ _ _=>by kernel_rfl⟩
theorem FW:Disp 438 397:=⟨fun _ _=>by kernel_rfl,fun _ _ _=>by kernel_rfl⟩
theorem UT:Disp 436 396:=⟨fun _ _=>by kernel_rfl,fun _ _ _=>by kernel_rfl⟩
theorem US:Disp 407 383:=⟨fun _ _=>by kernel_rfl,fun _ _ _=>by kernel_rfl⟩
theorem QG:Disp 435 387:=⟨fun _ _=>by kernel_rfl,fun _ _ _=>by kernel_rfl⟩
theorem UU:Disp 405 380:=⟨fun _ _=>by kernel_rfl,fun _ _ _=>by kernel_rfl⟩
theorem ZZ:Disp 404 375:=⟨fun _ _=>by kernel_rfl,fun _ _ _=>by kernel_rfl⟩
theorem QF:Disp 439 398:=⟨fun _ _=>by kernel_rfl,fun _ _ _=>by kernel_rfl⟩
theorem ZW:Disp 440 401:=⟨fun _ _=>by kernel_rfl,fun _ _ _=>by kernel_rfl⟩
theorem A6:Disp 442 402:=⟨fun _ _=>by kernel_rfl,fun _ _ _=>by kernel_rfl⟩
theorem A4:Disp 363 372:=⟨fun _ _=>by kernel_rfl,fun _ _ _=>by kernel_rfl⟩
theorem A5:Disp 449 410:=⟨fun _ _=>by kernel_rfl,fun _ _ _=>by kernel_rfl⟩
theorem FX:Disp 448 408:=⟨fun _ _=>by kernel_rfl,fun _ _ _=>by kernel_rfl⟩
theorem R3:fE 361:=fun _ _=>by kernel_rfl
theorem R5:fE 402:=fun _ _=>by kernel_rfl
theorem TJ:fE 443:=fun _ _=>by kernel_rfl
theorem YS:fE 445:=fun _ _=>by kernel_rfl
theorem R7:fE 462:=fun _ _=>by kernel_rfl
theorem YP:fE 461:=fun _ _=>by kernel_rfl
theorem ON:fE 438:=fun _ _=>by kernel_rfl
theorem J3:fE 436:=fun _ _=>by kernel_rfl
theorem J2:fE 407:=fun _ _=>by kernel_rfl
theorem YR:fE 435:=fun _ _=>by kernel_rfl
theorem J4:fE 405:=fun _ _=>by kernel_rfl
theorem R6:fE 404:=fun _ _=>by kernel_rfl
theorem YQ:fE 439:=fun _ _=>by kernel_rfl
theorem R1:fE 440:=fun _ _=>by kernel_rfl
theorem S2:fE 442:=fun _ _=>by kernel_rfl
theorem R8:fE 363:=fun _ _=>by kernel_rfl
theorem R9:fE 449:=fun _ _=>by kernel_rfl
theorem OO:fE 448:=fun _ _=>by kernel_rfl
def Y1(t:TypeId)(z:Value)(b:Bool):Prop:=(t=365/\(∃l p,z=.agg #[.int .i64 l,.pointer p])/\b=true)\/(fE t/\b=false)
theorem D9(w:World)(sb:Nat)(L:Nat->World->Prop)(P:World->Prop)(S:Nat->World->Prop)(M:Nat->Nat->Nat->World->Prop)(N:Nat->TypeId->Value->Nat->Bool->World->Prop)(K0:Nat)(h0:L K0 w)
 (HL:Hid (∀k W,L k W->∃x n c,W.cell? ⟨sb,1,none⟩=some (.slice x n c)/\sb<W.heap.size/\n<=16/\(n=0->S 1 W)/\(n≠0->∃j,k=j+1/\∃fa fj,M j fa fj W)))
 (HM:Hid (∀j fa fj W,M j fa fj W->Calls prog 158 #[.pointer (some ⟨sb,0,none⟩)] W fun e w'=>e=.returned (.pointer (some ⟨fa,fj,none⟩))/\M j fa fj w'))
 (HF:Hid (∀j fa fj W,M j fa fj W->Calls prog 235 #[.pointer (some ⟨fa,fj,none⟩)] W fun e w'=>∃t z fno b,e=.returned (.iface t z)/\Disp t fno/\Y1 t z b/\N j t z fno b w'))
 (HN:Hid (∀j t z fno b W,N j t z fno b W->Calls prog fno #[z,.pointer (some ⟨sb,0,none⟩)] W fun e w'=>(e=.returned (.tuple #[])/\(b=true->∀ob,P (w'.alloc ob))/\(b=false->∀ob,L j (w'.alloc ob)))\/(∃q,e=fK q/\S q w'))):
 Calls prog 175 #[.pointer (some ⟨sb,0,none⟩)] w fun e w'=>(e=.returned (.tuple #[])/\P w')\/(∃q,e=fK q/\S q w'):=by
 have H0:=aB h0;clear h0;go_enter Tryz.func175,Tryz.ntmps175;go_wp2_with fail;go_loopg [2,3,4] K0 (fun gk _ _ _ wr=>L gk wr)
 case atStart=>exact H0.out
 case round=>
  obtain⟨x,n,c,c1,hl,hn,hz,hs⟩:=HL.out _ _ hrel;by_cases h0:n=0
  ·subst h0;have HZ:=aB (hz rfl);clear hrel hz hs;go_wp2_with fail;exact⟨rfl,Or.inr ⟨1,rfl,HZ.out⟩⟩
  ·obtain⟨j,rfl,fa,fj,hm⟩:=hs h0;have HMM:=aB (HM.out _ _ _ _ hm);have hpos:(0:Int)<(n:Int):=by omega
   clear hrel hz hs hm;go_wp2_with fail;refine HMM.out.mono ?_;rintro e w1 ⟨rfl,h1⟩;have HFF:=aB (HF.out _ _ _ _ h1);clear h1;go_wp2_with fail;refine HFF.out.mono ?_;rintro e w2 ⟨t,z,fno,b,rfl,hd,hb,h2⟩;have HNN:=aB (HN.out _ _ _ _ _ _ h2);have hd1:=hd.1 z w2;have hd2:=hd.2 z (.pointer (some ⟨sb,0,none⟩)) w2;clear h2 hd;go_wp2_with fail;refine HNN.out.mono ?_;rintro e w3 (⟨rfl,h3,h4⟩|⟨q,rfl,h3⟩)
   ·rcases hb with ⟨rfl,⟨l,p,rfl⟩,rfl⟩|⟨hnb,rfl⟩
    ·have hib:=K2 (.agg #[.int .i64 l,.pointer p]) w3;have HP:=aB (h3 rfl);clear h3 h4 hd1 hd2;go_wp2_with fail;exact⟨rfl,_,results_none (by rfl) _ _ _,Or.inl ⟨rfl,HP.out _⟩⟩
    ·have hib:=hnb z w3;have HP:=aB (h4 rfl);clear h3 h4 hd1 hd2 hnb;go_wp2_with fail;go_roundg j
     case measure=>omega
     case rel=>exact HP.out _
   ·go_wp2_with fail;exact⟨rfl,Or.inr ⟨q,rfl,h3⟩⟩
theorem nN{α:Type}{l:List α}(h:1<=l.length):∃vs a,l=vs++[a]:=by
 rcases aH_ l with e|⟨b,x,e⟩
 ·subst e;simp at h
 ·exact⟨b,x,by rw[e,aI_]⟩
theorem KA{α:Type}{l:List α}{n:Nat}(h:n<=l.length):∃vs us,l=vs++us/\us.length=n:=
 ⟨l.take (l.length-n),l.drop (l.length-n),(ae_ _ _).symm,by simp;omega⟩
theorem F1{α:Type}{l:List α}(h:2<=l.length):∃vs a b,l=vs++[a,b]:=by
 obtain⟨vs,us,e,hu⟩:=KA h;match us,hu with
 |[a,b],_=>exact⟨vs,a,b,e⟩
section
variable {fp:Nat->Value} {F:Nat->Prop} {base:Nat} {w:World} {sb gf cap:Nat} {t0 tv outv s0:Value} {fvs:List FVal} {below:List aK} {f0 f:aK} {tape:List Int} {out:List (List UInt8)}
theorem Y7{ar:Nat->Option Nat}{tab:List eP}{i:aH}{v:Value}(ht:jU ar tab)(hA:fH ar ⟨below++[f0],tape,out⟩)(hfe:f0.fetch=some (i,f))(hU:fR ⟨below++[f0],tape,out⟩)
 (h:cT fp F base w sb gf cap t0 tv outv s0 fvs ⟨below++[f],tape,out⟩) (hT:kX fp F w tab) (hp:zW (aF sb gf outv fvs) w) (hbase:base<=w.heap.size) (hol:out.length<=50) (htl:tape.length<=1000000000) (hI:lA fp F w v i):
 ∃t z fno b,v=.iface t z/\Disp t fno/\Y1 t z b/\b=i.isBegin/\Calls prog fno #[z,.pointer (some ⟨sb,0,none⟩)] w (Z7 fp F base sb t0 s0 (aF sb gf outv fvs) w (cD tab i below f tape out)):=by
 have hlow:∀x∈below,cG ar x 1:=by have:=hA.ok.low;simpa only[fX] using this
 have htop:cG ar f0 0:=hA.ok.top f0 (fC _ _);have hbel:below.length<=15:=by have:=hA.ok.deep;simp at this;omega
 have hu0:dK f0:=hU f0 (by simp)
 obtain⟨⟨T,hc,hh,hv,he⟩,hnx,hs,hm⟩:=htop
 obtain⟨rfl,hi⟩:f={ f0 with next:=f0.next+1 }/\f0.fn.code[f0.next]?=some i:=by
  unfold aK.fetch at hfe;cases hx:f0.fn.code[f0.next]? with
  |none=>rw[hx] at hfe;cases hfe
  |some j=>rw[hx] at hfe;simp at hfe;exact⟨hfe.2.symm,by rw[hfe.1]⟩
 obtain⟨hb0,hhp,hio⟩:=hc.ins _ _ hi;clear hb0;have hlc:=hc.len;have hops:f0.ops.length<=99000:=by omega
 have hgo:∀g∈below,g.ops.length<=99000:=fun g hg=>by
  obtain⟨⟨T',hc',hh',_⟩,hn',_⟩:=hlow g hg;have h1:=(hc'.ins _ _ (p9 hn')).2.1;have h2:=hc'.len;omega
 have hmem:i∈f0.fn.code:=aq_ hi;cases i
 case begin l s=>
  obtain⟨sp,rfl,hsp⟩:=hI;obtain⟨p,rfl⟩:=hsp.form;exact⟨_,_,_,true,rfl,UV,Or.inl ⟨rfl,⟨_,_,rfl⟩,rfl⟩,rfl,M1 l _ s h hbel hbase hsp⟩
 case push a=>
  obtain⟨u,rfl,hu,hca⟩:=hI;refine⟨_,_,_,false,rfl,ZX,Or.inr ⟨R3,rfl⟩,rfl,(SR fp F base w sb gf cap t0 tv outv s0 fvs below _ tape out u a h hu hca (by show f0.ops.length<=100000;omega) hbel hbase).mono ?_⟩
  rintro e w' ⟨rfl,hd⟩;exact⟨Or.inl ⟨rfl,rfl⟩,hd⟩
 case load k=>
  obtain rfl:=hI;exact⟨_,_,_,false,rfl,ZY,Or.inr ⟨R5,rfl⟩,rfl,S3 k h hbel hbase hops (by have:=hio.1;show k<f0.vars.length;omega)⟩
 case declare k=>
  obtain rfl:=hI;exact⟨_,_,_,false,rfl,LQ,Or.inr ⟨TJ,rfl⟩,rfl,UW k h hbel hbase hops (nN (by have:=hio.1;show 1<=f0.ops.length;omega)) (by have:=hio.2.1;show k<=f0.vars.length;omega) hm⟩
 case assign k n=>
  obtain rfl:=hI;obtain⟨vs,us,e1,e2⟩:=KA (l:=f0.ops) (n:=n+1) (by have:=hio.1;omega)
  obtain⟨us',b,rfl⟩:=nN (l:=us) (by omega)
  have e3:us'.length=n:=by simpa using e2
  subst e3;exact⟨_,_,_,false,rfl,QH,Or.inr ⟨YS,rfl⟩,rfl,C2 k vs us' b h hbel hbase hops (by show f0.ops=_;rw[e1];simp) (by have:=hio.2.1;show k<f0.vars.length;omega)⟩
 case jump q=>
  obtain rfl:=hI;exact⟨_,_,_,false,rfl,A0,Or.inr ⟨R7,rfl⟩,rfl,S6 q h hbel hbase⟩
 case skip q=>
  obtain rfl:=hI;exact⟨_,_,_,false,rfl,QE,Or.inr ⟨YP,rfl⟩,rfl,WR q h hbel hbase hops (nN (by have:=hio.1;show 1<=f0.ops.length;omega))⟩
 case shortcut wh q=>
  obtain rfl:=hI;exact⟨_,_,_,false,rfl,FW,Or.inr ⟨ON,rfl⟩,rfl,NM wh q h hbel hbase hops (nN (by have:=hio.1;show 1<=f0.ops.length;omega))⟩
 case truth=>
  obtain rfl:=hI;exact⟨_,_,_,false,rfl,UT,Or.inr ⟨J3,rfl⟩,rfl,D6 h hbel hbase hops (nN (by have:=hio.1;show 1<=f0.ops.length;omega))⟩
 case unary op=>
  obtain rfl:=hI;exact⟨_,_,_,false,rfl,US,Or.inr ⟨J2,rfl⟩,rfl,D0 op (hu0.fn.2 op hmem) h hbel hbase hops (nN (by have:=hio.1;show 1<=f0.ops.length;omega))⟩
 case binary op=>
  obtain rfl:=hI;exact⟨_,_,_,false,rfl,QG,Or.inr ⟨YR,rfl⟩,rfl,C1 op h hbel hbase hops (F1 (by have:=hio.1;show 2<=f0.ops.length;omega))⟩
 case index=>
  obtain rfl:=hI;obtain⟨vs,a,b,e⟩:=F1 (l:=f0.ops) (by have:=hio.1;omega)
  exact⟨_,_,_,false,rfl,UU,Or.inr ⟨J4,rfl⟩,rfl,K7 h hbel hbase hops ⟨vs,a,b,e,hu0.ops a (by rw[e];simp)⟩⟩
 case list n=>
  obtain rfl:=hI;obtain⟨vs,us,e1,rfl⟩:=KA (l:=f0.ops) (n:=n) (by have:=hio.1;omega)
  exact⟨_,_,_,false,rfl,ZZ,Or.inr ⟨R6,rfl⟩,rfl,S4 vs us h hbel hbase hops e1⟩
 case length=>
  obtain rfl:=hI;obtain⟨vs,a,e⟩:=nN (l:=f0.ops) (by have:=hio.1;omega)
  exact⟨_,_,_,false,rfl,QF,Or.inr ⟨YQ,rfl⟩,rfl,ZE h hbel hbase hops ⟨vs,a,e,hu0.ops a (by rw[e];simp)⟩⟩
 case read=>
  obtain rfl:=hI;exact⟨_,_,_,false,rfl,ZW,Or.inr ⟨R1,rfl⟩,rfl,P5 tab h hbel hbase hops htl⟩
 case call k n=>
  obtain rfl:=hI;obtain⟨vs,us,e1,rfl⟩:=KA (l:=f0.ops) (n:=n) (by have:=hio.1;omega)
  obtain⟨fn,_,hfn,_⟩:=ht.fn k _ hio.2.1;exact⟨_,_,_,false,rfl,A6,Or.inr ⟨S2,rfl⟩,rfl,W5 tab k fn vs us h hbel hbase hops e1 hT hfn⟩
 case give=>
  obtain rfl:=hI;exact⟨_,_,_,false,rfl,A4,Or.inr ⟨R8,rfl⟩,rfl,U0 tab h hbel hbase hops (nN (by have:=hio;show 1<=f0.ops.length;omega)) hgo⟩
 case drop=>
  obtain rfl:=hI;exact⟨_,_,_,false,rfl,A5,Or.inr ⟨R9,rfl⟩,rfl,U7 h hbel hbase hops (nN (by have:=hio.1;show 1<=f0.ops.length;omega))⟩
 case print=>
  obtain rfl:=hI;obtain⟨vs,a,e⟩:=nN (l:=f0.ops) (by have:=hio.1;omega)
  exact⟨_,_,_,false,rfl,FX,Or.inr ⟨OO,rfl⟩,rfl,G3 tab h hp hbel hbase hops e hol⟩
end
theorem E0{tab:List eP}{j:Nat}{below:List aK}{f0 f:aK}{t:List Int}{o:List (List UInt8)}{i:aH}{r:cP × Nat}(h:dU tab (j+1) ⟨below++[f0],t,o⟩=some r)(hf:f0.fetch=some (i,f)):
 ((cD tab i below f t o).2≠0->r=cD tab i below f t o)/\((cD tab i below f t o).2=0->i.isBegin=true->r=cD tab i below f t o)/\((cD tab i below f t o).2=0->i.isBegin=false->dU tab j (cD tab i below f t o).1=some r):=by
 rw[dU] at h;simp only[fC,hf,fX] at h;refine⟨fun h1=>?_,fun h1 h2=>?_,fun h1 h2=>?_⟩
 ·rw[if_pos h1] at h;cases h;rfl
 ·rw[if_neg (by rw[h1];simp),if_pos h2] at h;cases h;rfl
 ·rw[if_neg (by rw[h1];simp),h2] at h;exact h
theorem WG{tab:List eP}{i:aH}{below:List aK}{f:aK}{t:List Int}{o:List (List UInt8)}(ho:o.length<=50):(cD tab i below f t o).1.out.length<=50:=by
 cases i<;>simp only[cD]<;>(repeat' split)<;>first|exact ho|(simp;omega)
theorem QD{tab:List eP}{i:aH}{below:List aK}{f:aK}{t:List Int}{o:List (List UInt8)}:(cD tab i below f t o).1.tape.length<=t.length:=by
 cases i<;>simp only[cD]<;>(repeat' split)<;>first|exact l9 _|simp
section
variable {fp:Nat->Value} {F:Nat->Prop} {base:Nat} {w:World} {sb gf cap:Nat} {t0 tv outv s0:Value} {fvs:List FVal} {below:List aK} {f0 f:aK} {tape:List Int} {out:List (List UInt8)}
theorem cT.fetched{i:aH}(h:cT fp F base w sb gf cap t0 tv outv s0 fvs ⟨below++[f0],tape,out⟩)(hf:f0.fetch=some (i,f))(hl:f0.fn.code.length<=1000000):
 Calls prog 235 #[.pointer (some ⟨gf,below.length*6,none⟩)] w fun e w'=>∃v fvs',e=.returned v/\lA fp F w' v i/\cT fp F base w' sb gf cap t0 tv outv s0 fvs' ⟨below++[f],tape,out⟩/\Kept (aF sb gf outv fvs) w w'/\aF sb gf outv fvs'=aF sb gf outv fvs:=by
 obtain⟨fb,v,cur,rfl,hfl,hv,hblk,hcur,hcap,k0,k1,k2,k3,k4,k5⟩:=h.top;rw[<-hfl]
 obtain⟨hi,rfl⟩:f0.fn.code[f0.next]?=some i/\f={ f0 with next:=f0.next+1 }:=by
  unfold aK.fetch at hf;cases hx:f0.fn.code[f0.next]? with
  |none=>rw[hx] at hf;cases hf
  |some j=>rw[hx] at hf;simp at hf;exact⟨by rw[hf.1],hf.2.symm⟩
 obtain⟨hnl,hie⟩:=z6.1 hi;obtain⟨fbk,gc,cp,row,e1,e2,e3,e4,e5,e6⟩:=hv.fn;obtain⟨u,u1,u2⟩:=e6 f0.next hnl
 rw[hie] at u2;rw[e1] at k0;rw[hv.nx] at k1;refine(ZP gf (fb.length*6) fbk gc f0.fn.code.length cp f0.next cur _ u w hcur k0 k1 e3 (aA e5 u1) u2.form hnl hl).mono ?_
 rintro e w' ⟨he,q,rfl⟩;have hS:=aY.drewN w q;have hR1:=h.grow hS.below (fun _ h=>h) (fun _ h=>Or.inl h)
 have hv1:MH fp F base (w.drewN q) v f0:=hv.keep (fun b _=>by rw[hS.heap]) (fun _ h=>h) fun k _=>by rw[hS.heap]
 have hv2:MH fp F base (w.drewN q) { v with nx:=.int .i64 ((f0.next+1:Nat):Int) } { f0 with next:=f0.next+1 }:=⟨hv1.fn,rfl,hv1.ln,hv1.sp,hv1.vars,hv1.ops⟩
 obtain⟨q1,q2⟩:=hR1.setTop (j:=1) (x:=.int .i64 ((f0.next+1:Nat):Int)) (v':={ v with nx:=.int .i64 ((f0.next+1:Nat):Int) }) (by omega) rfl rfl hv2
 refine⟨u,_,he,u2.keep (fun b hb=>?_) (fun _ h=>h),q1,(Kept.of_below hS.below).trans q2 fun _ h=>Or.inl h,by simp[aF,aW,FVal.owns]⟩
 rw[m7 _ _ _ _ fun e=>(h.apart b hb).2 (by simp[aF,e]),hS.heap]
def j0(fp:Nat->Value)(F0:Nat->Prop)(base sb:Nat)(t0 s0:Value)(own0:List Nat)(w0:World)(ar:Nat->Option Nat)(tab:List eP)(m:cP)(W:World):Prop:=
 ∃F gf cap tv outv fvs,Ext F0 F w0.heap.size/\cT fp F base W sb gf cap t0 tv outv s0 fvs m/\kX fp F W tab/\Kept own0 w0 W/\(∀x∈aF sb gf outv fvs,x∈own0\/w0.heap.size<=x)/\fH ar m/\fR m/\m.out.length<=50/\m.tape.length<=1000000000
theorem yG{ar:Nat->Option Nat}{tab:List eP}{m:cP}{k:Nat}{r:cP × Nat}(ht:jU ar tab)(htu:jM tab)(h:cT fp F base w sb gf cap t0 tv outv s0 fvs m)(hT:kX fp F w tab)(hp:zW (aF sb gf outv fvs) w)(hbase:base<=w.heap.size)
 (hA:fH ar m) (hU:fR m) (hol:m.out.length<=50) (htl:m.tape.length<=1000000000) (hk:dU tab k m=some r):
 Calls prog 175 #[.pointer (some ⟨sb,0,none⟩)] w (Z7 fp F base sb t0 s0 (aF sb gf outv fvs) w r):=by
 generalize hown:aF sb gf outv fvs=own0 at hp
 refine(D9 w sb (fun k W=>∃m,j0 fp F base sb t0 s0 own0 w ar tab m W/\dU tab k m=some r)
  (fun W=>r.2=0/\Done fp F base sb t0 s0 own0 w r.1 W) (fun q W=>q=r.2/\r.2≠0/\Done fp F base sb t0 s0 own0 w r.1 W)
  (fun j fa fj W=>∃F' gf cap tv outv fvs below f0 tape out,fa=gf/\fj=below.length*6/\(Ext F F' w.heap.size/\cT fp F' base W sb gf cap t0 tv outv s0 fvs ⟨below++[f0],tape,out⟩/\kX fp F' W tab/\Kept own0 w W/\(∀x∈aF sb gf outv fvs,x∈own0\/w.heap.size<=x))/\(fH ar ⟨below++[f0],tape,out⟩/\fR ⟨below++[f0],tape,out⟩/\out.length<=50/\tape.length<=1000000000)/\dU tab (j+1) ⟨below++[f0],tape,out⟩=some r)
  (fun j t z fno b W=>∃F' gf cap tv outv fvs below f0 f i tape out,(Ext F F' w.heap.size/\cT fp F' base W sb gf cap t0 tv outv s0 fvs ⟨below++[f],tape,out⟩/\kX fp F' W tab/\Kept own0 w W/\(∀x∈aF sb gf outv fvs,x∈own0\/w.heap.size<=x))/\(fH ar ⟨below++[f0],tape,out⟩/\fR ⟨below++[f0],tape,out⟩/\out.length<=50/\tape.length<=1000000000)/\dU tab (j+1) ⟨below++[f0],tape,out⟩=some r/\f0.fetch=some (i,f)/\b=i.isBegin/\
    Calls prog fno #[z,.pointer (some ⟨sb,0,none⟩)] W (Z7 fp F' base sb t0 s0 (aF sb gf outv fvs) W (cD tab i below f tape out)))
  k ⟨m,⟨F,gf,cap,tv,outv,fvs,Ext.refl _ _,h,hT,Kept.refl _ _,fun x hx=>Or.inl (by rw[<-hown];exact hx),hA,hU,hol,htl⟩,hk⟩ (fun k W hL=>?_) (fun j fa fj W hM=>?_) (fun j fa fj W hM=>?_) (fun j t z fno b W hN=>?_)).mono ?_
 ·obtain⟨m,⟨F',gf,cap,tv,outv,fvs,g1,g2,g3,g4,g5,g6,g7,g8,g9⟩,hk⟩:=hL;have hc:=g2.count;have hd:=g6.ok.deep;refine⟨_,_,_,aA g2.blk rfl,aD g2.blk,by omega,fun h0=>?_,fun h0=>?_⟩
  ·have hm:m.frames=[]:=v8 (by omega)
   cases k with
   |zero=>rw[dU] at hk;cases hk
   |succ j=>
    rw[dU,hm] at hk;simp only[List.getLast?_nil] at hk;cases hk;exact⟨rfl,Nat.one_ne_zero,g4,F',gf,cap,tv,outv,fvs,g1,g2,g5⟩
  ·obtain⟨b,f,e⟩:=mQ (l:=m.frames) (fun e=>h0 (by rw[hc,e];rfl))
   obtain⟨fr,t,o⟩:=m;simp only at e;subst e;cases k with
   |zero=>rw[dU] at hk;cases hk
   |succ j=>exact⟨j,rfl,gf,b.length*6,F',gf,cap,tv,outv,fvs,b,f,t,o,rfl,rfl,⟨g1,g2,g3,g4,g5⟩,⟨g6,g7,g8,g9⟩,hk⟩
 ·obtain⟨F',gf,cap,tv,outv,fvs,b,f,t,o,rfl,rfl,⟨g1,g2,g3,g4,g5⟩,⟨g6,g7,g8,g9⟩,hk⟩:=hM;have hc:=g2.count;have hd:=g6.ok.deep;have hblk:=g2.blk;rw[hc,m6,ax_] at hblk;simp at hd;refine(JG sb fa b.length cap W (aA hblk rfl) (by omega)).mono ?_
  rintro e w' ⟨he,q,rfl⟩;have hS:=aY.drewN W q;exact⟨he,F',fa,cap,tv,outv,fvs,b,f,t,o,rfl,rfl,⟨g1,g2.grow hS.below (fun _ h=>h) (fun _ h=>Or.inl h),g3.keep (fun b _=>by rw[hS.heap]) (fun _ h=>h),g4.trans (Kept.of_below (own:=[]) hS.below) (fun x hx=>by simp at hx),g5⟩,⟨g6,g7,g8,g9⟩,hk⟩
 ·obtain⟨F',gf,cap,tv,outv,fvs,b,f0,t,o,rfl,rfl,⟨g1,g2,g3,g4,g5⟩,⟨g6,g7,g8,g9⟩,hk⟩:=hM;have htop:cG ar f0 0:=g6.ok.top f0 (fC _ _);have hf:=xZ htop.next
  obtain⟨T,hc, -⟩:=htop.code;have hcl:=hc.len;generalize f0.fn.code[f0.next]'htop.next=i at hf
  refine(g2.fetched hf (by omega)).mono ?_
  rintro e w' ⟨v,fvs',he,q1,q2,q3,q4⟩;have g3':kX fp F' w' tab:=g3.keep (fun x hx=>q3.block x (g2.apart x hx).1 (g2.apart x hx).2) fun _ h=>h
  have hk':Kept own0 w w':=g4.trans q3 g5;have hp':zW (aF sb fa outv fvs') w':=hp.step hk' (fun x hx=>g5 x (by rw[<-q4];exact hx))
  obtain⟨t',z,fno,bb,e1,e2,e3,e4,e5⟩:=Y7 ht g6 hf g7 q2 g3' hp' (p7 hbase hk'.size) g8 g9 q1;exact⟨t',z,fno,bb,by rw[he,e1],e2,e3,F',fa,cap,tv,outv,fvs',b,f0,_,i,t,o,⟨g1,q2,g3',hk',fun x hx=>g5 x (by rw[<-q4];exact hx)⟩,⟨g6,g7,g8,g9⟩,hk,hf,e4,e5⟩
 ·obtain⟨F',gf,cap,tv,outv,fvs,below,f0,f,i,tp,o,⟨g1,g2,g3,g4,g5⟩,⟨g6,g7,g8,g9⟩,hk,hf,hb,hc⟩:=hN;obtain⟨s1,s2,s3⟩:=E0 hk hf;refine hc.mono ?_;rintro e w' ⟨he,hd1,G,gf',cap',tv',outv',fvs',d1,d2,d3⟩;have hk':Kept own0 w w':=g4.trans hd1 g5
  have hsub:∀x∈aF sb gf' outv' fvs',x∈own0\/w.heap.size<=x:=fun x hx=>by
   rcases d3 x hx with h1|h1
   ·exact g5 x h1
   ·exact Or.inr (p7 g4.size h1)
  have hTab:kX fp G w' tab:=g3.keep (fun x hx=>hd1.block x (g2.apart x hx).1 (g2.apart x hx).2) d1.sub
  have hal:∀ob,Below w'.heap.size w' (w'.alloc ob):=fun ob=>(m8 _ w').alloc (l9 _) ob
  rcases he with ⟨hz,rfl⟩|⟨hz,rfl⟩
  ·refine Or.inl ⟨rfl,fun hbt ob=>?_,fun hbf ob=>?_⟩
   ·have hr:=s2 hz (by rw[<-hb];exact hbt)
    rw[hr];exact⟨hz,hk'.trans (Kept.of_below (own:=[]) (hal ob)) (fun x hx=>by simp at hx),G,gf',cap',tv',outv',fvs',g1.trans d1 g4.size,d2.grow (hal ob) (fun _ h=>h) (fun _ h=>Or.inl h),hsub⟩
   ·refine⟨_,⟨G,gf',cap',tv',outv',fvs',g1.trans d1 g4.size,d2.grow (hal ob) (fun _ h=>h) (fun _ h=>Or.inl h),hTab.keep (fun x hx=>(hal ob).block x (d2.apart x hx).1) (fun _ h=>h),hk'.trans (Kept.of_below (own:=[]) (hal ob)) (fun x hx=>by simp at hx),hsub,(wV ht g6 hf).2.2 hz,DR htu g7 hf,WG g8,p7 QD g9⟩,s3 hz (by rw[<-hb];exact hbf)⟩
  ·refine Or.inr ⟨_,rfl,?_⟩;have hr:=s1 hz;rw[hr];exact⟨rfl,hz,hk',G,gf',cap',tv',outv',fvs',g1.trans d1 g4.size,d2,hsub⟩
 ·rintro e w' (⟨rfl,h1,h2⟩|⟨q,rfl,rfl,h1,h2⟩)
  ·exact⟨Or.inl ⟨h1,rfl⟩,h2⟩
  ·exact⟨Or.inr ⟨h1,rfl⟩,h2⟩
end
theorem Y6(v:Value)(w:World):(Instr.typeAssert (.iface 353 v) 20 353 true).run prog w=.ok (.tuple #[v,.bool true]) w:=by kernel_rfl
theorem VZ(fn:Fn)(first cap:Array Value)(w:World):(Instr.makeFunc fn first cap).run prog w=.ok (.func fn first cap) w:=rfl
theorem VD(p k:Nat)(older:List PanicEntry)(w:World)(hp:w.heap[p]?=some (.cells #[.int .i64 0] 61 (0,0))):
 CallsD prog 234 #[.pointer (some ⟨p,0,none⟩)] (.panicking ({ v:=.iface 353 (.int .i64 k),recovered:=false }::older)) w fun e u' w'=>
  e=.returned (.tuple #[])/\u'=.panicking ({ v:=.iface 353 (.int .i64 k),recovered:=true }::older)/\w'=w.setCell ⟨p,0,none⟩ (.int .i64 k):=by
 have c0:w.cell? ⟨p,0,none⟩=some (.int .i64 0):=aA hp rfl;have f0:=aE (i:=0) hp;have l0:=aD hp;have hft:=Y6;refine callsD_of_wpS Tryz.func234 rfl fun c₀ cs hu=>?_
 apply wpS_seq
 apply wpS_region
 simp[wpOpsS,go_sem,recoverD,hu,Tryz.ntmps234,Exit.thenS];refine wpS_of_wp ?_;clear hp;go_wp2_with fail;exact⟨rfl,_,rfl,.tuple #[],by simp[results,Tryz.results234],rfl,rfl,rfl⟩
theorem VE(p:Addr)(w:World):
 CallsD prog 234 #[.pointer (some p)] .returning w fun e u' w'=>e=.returned (.tuple #[])/\u'=.returning/\w'=w:=by
 refine callsD_of_wpS Tryz.func234 rfl fun c₀ cs hu=>?_
 apply wpS_seq
 apply wpS_region
 simp[wpOpsS,go_sem,recoverD,hu,Tryz.ntmps234,Exit.thenS];refine wpS_of_wp ?_;go_wp2_with fail;exact⟨rfl,c₀.mode,rfl,.tuple #[],by simp[results,Tryz.results234],rfl,hu,rfl⟩
theorem SB(fno:Nat)(p:Addr)(w:World)(R:Nat->World->Prop)(hent:∀a W,(callFunc fno #[a]).run prog W=.ok (.enter fno #[a]) W)
 (hC:Calls prog fno #[.pointer (some p)] (w.alloc (.cells #[.int .i64 0] 61)) fun e w'=>∃k,Z6 k e/\R k w'/\w'.heap[w.heap.size]?=some (.cells #[.int .i64 0] 61 (0,0))):
 Calls prog 169 #[.func (.func fno) #[.pointer (some p)] #[]] w fun e w'=>∃(k:Nat) (w1:World),e=.returned (.int .i64 k)/\R k w1/\w'=w1.setCell ⟨w.heap.size,0,none⟩ (.int .i64 k):=by
 have hmf:=VZ;have hen:=hent (.pointer (some p)) (w.alloc (.cells #[.int .i64 0] 61));have HC:=aB hC;clear hC hent;go_enter_defers Tryz.func169,Tryz.ntmps169
 go_wp2_with fail;refine HC.out.mono ?_;rintro e w1 ⟨k,hr,hR,hp⟩;have HR:=aB hR;have c0:w1.cell? ⟨w.heap.size,0,none⟩=some (.int .i64 0):=aA hp rfl;have f0:=aE (i:=0) hp;have l0:=aD hp;clear hR HC;rcases hr with ⟨rfl,rfl⟩|⟨hr,rfl⟩
 ·go_wp2_with fail;refine leaves_cons (f:=234) (args:= #[.pointer (some ⟨w.heap.size,0,none⟩)]) (by simp) (by simp[go_sem]) ?_
  refine(VE ⟨w.heap.size,0,none⟩ _).mono ?_;rintro e u' w'' ⟨rfl,rfl,rfl⟩;simp[Leaves,settle,results,Tryz.results169,go_sem,c0];exact⟨0,rfl,w1,HR.out,rfl⟩
 ·go_wp2_with fail;refine leaves_cons (f:=234) (args:= #[.pointer (some ⟨w.heap.size,0,none⟩)]) (by simp) (by simp[go_sem]) ?_
  refine(VD w.heap.size k [] _ hp).mono ?_;rintro e u' w2 ⟨rfl,rfl,rfl⟩;simp[Leaves,settle,results,Tryz.results169,go_sem,c0];exact⟨k,rfl,w1,HR.out,rfl⟩
theorem K4:(prog.info? 3).map (fun i=>(i.zero,i.size,i.bytes))=some (some (.int .i64 0),1,8):=by kernel_rfl
theorem sO(g off n c:Nat)(news:List Value)(w:World)(hl:news.length=n*1)(hn:n<=1000000)(hc:∀j u,news[j]?=some u->w.cell? ⟨g,off+j,none⟩=some u)(h1:∀u∈news,u.oneCell'=true):
 Calls prog 109 #[.slice (some ⟨g,off,none⟩) n c] w fun e w'=>∃v',e=.returned v'/\w'.ownsRow w.heap.size 9 1 v' n news/\Below w.heap.size w w':=by
 obtain⟨i0,hi,hz0,hz1,hz2⟩:=info_parts CU;have HC:=aB hc;clear hc;have q22:∀(w:World) (a:Option Addr) (n c n' c':Nat),(binOp .eql 60 (.slice a n c) (.slice none n' c')).run prog w=.ok (.bool a.isNone) w:=fun w a n c n' c'=>Lib.run_eql_slice_nil w _ _ a n c n' c' Tryz.underlying60
 go_enter Tryz.func109,Tryz.ntmps109;go_wp2_with (at_builtin;refine wpList_append_own _ (by rfl) _ _ 60 (by rfl) w.heap.size 9 i0 _ 1 16 Tryz.underlying60 hi hz0 hz1 hz2 rfl (by decide) (.slice (some ⟨w.heap.size,0,none⟩) 0 0) 0 [] (by rfl) (World.ownsRow_made w #[] 0 (l9 _) (aj_ _) (by simp)) ⟨g,off,none⟩ n c news (by rfl) hl (fun j u hj=>by rw[Addr.add_lit];exact iL _ (HC.out j u hj)) h1 (by unfold maxLen;omega) (by omega) (by simp) ?_)
 intro v' w1 hown hgrow _;have HO:=aB hown;have HG:=aB hgrow;obtain⟨x',c',rfl⟩:=cV hown;clear hown hgrow;go_wp2_with fail;go_ret;refine⟨_,rfl,by simpa using HO.out,?_⟩
 exact((m8 _ w).alloc (l9 _) _).grown HG.out (by simp) (by intro k hk;simp[Value.ownBlock] at hk;omega)
theorem sN(w:World):
 Calls prog 109 #[.slice none 0 0] w fun e w'=>e=.returned (.slice none 0 0)/\w'=w:=by
 have q22:∀(w:World) (a:Option Addr) (n c n' c':Nat),(binOp .eql 60 (.slice a n c) (.slice none n' c')).run prog w=.ok (.bool a.isNone) w:=fun w a n c n' c'=>Lib.run_eql_slice_nil w _ _ a n c n' c' Tryz.underlying60
 go_enter Tryz.func109,Tryz.ntmps109;go_wp2_with fail;go_ret;exact⟨rfl,rfl⟩
theorem GD(g off n c:Nat)(news:List Value)(w:World)(hl:news.length=n*1)(hn:n<=1000000)(hc:∀j u,news[j]?=some u->w.cell? ⟨g,off+j,none⟩=some u)(h1:∀u∈news,u.oneCell'=true):
 Calls prog 124 #[.slice (some ⟨g,off,none⟩) n c] w fun e w'=>∃v',e=.returned v'/\w'.ownsRow w.heap.size 3 1 v' n news/\Below w.heap.size w w':=by
 obtain⟨i0,hi,hz0,hz1,hz2⟩:=info_parts K4;have HC:=aB hc;clear hc;have q22:∀(w:World) (a:Option Addr) (n c n' c':Nat),(binOp .eql 31 (.slice a n c) (.slice none n' c')).run prog w=.ok (.bool a.isNone) w:=fun w a n c n' c'=>Lib.run_eql_slice_nil w _ _ a n c n' c' Tryz.underlying31
 go_enter Tryz.func124,Tryz.ntmps124;go_wp2_with (at_builtin;refine wpList_append_own _ (by rfl) _ _ 31 (by rfl) w.heap.size 3 i0 _ 1 8 Tryz.underlying31 hi hz0 hz1 hz2 rfl (by decide) (.slice (some ⟨w.heap.size,0,none⟩) 0 0) 0 [] (by rfl) (World.ownsRow_made w #[] 0 (l9 _) (aj_ _) (by simp)) ⟨g,off,none⟩ n c news (by rfl) hl (fun j u hj=>by rw[Addr.add_lit];exact iL _ (HC.out j u hj)) h1 (by unfold maxLen;omega) (by omega) (by simp) ?_)
 intro v' w1 hown hgrow _;have HO:=aB hown;have HG:=aB hgrow;obtain⟨x',c',rfl⟩:=cV hown;clear hown hgrow;go_wp2_with fail;go_ret;refine⟨_,rfl,by simpa using HO.out,?_⟩
 exact((m8 _ w).alloc (l9 _) _).grown HG.out (by simp) (by intro k hk;simp[Value.ownBlock] at hk;omega)
theorem GC(w:World):
 Calls prog 124 #[.slice none 0 0] w fun e w'=>e=.returned (.slice none 0 0)/\w'=w:=by
 have q22:∀(w:World) (a:Option Addr) (n c n' c':Nat),(binOp .eql 31 (.slice a n c) (.slice none n' c')).run prog w=.ok (.bool a.isNone) w:=fun w a n c n' c'=>Lib.run_eql_slice_nil w _ _ a n c n' c' Tryz.underlying31
 go_enter Tryz.func124,Tryz.ntmps124;go_wp2_with fail;go_ret;exact⟨rfl,rfl⟩
theorem GE(g off n c:Nat)(news:List Value)(w:World)(hl:news.length=n*6)(hn:n<=1000000)(hc:∀j u,news[j]?=some u->w.cell? ⟨g,off+j,none⟩=some u)(h1:∀u∈news,u.oneCell'=true):
 Calls prog 281 #[.slice (some ⟨g,off,none⟩) n c] w fun e w'=>∃v',e=.returned v'/\w'.ownsRow w.heap.size 195 6 v' n news/\Below w.heap.size w w':=by
 obtain⟨i0,hi,hz0,hz1,hz2⟩:=info_parts IJ;have HC:=aB hc;clear hc;have q22:∀(w:World) (a:Option Addr) (n c n' c':Nat),(binOp .eql 106 (.slice a n c) (.slice none n' c')).run prog w=.ok (.bool a.isNone) w:=fun w a n c n' c'=>Lib.run_eql_slice_nil w _ _ a n c n' c' Tryz.underlying106
 go_enter Tryz.func281,Tryz.ntmps281;go_wp2_with (at_builtin;refine wpList_append_own _ (by rfl) _ _ 106 (by rfl) w.heap.size 195 i0 _ 6 80 Tryz.underlying106 hi hz0 hz1 hz2 rfl (by decide) (.slice (some ⟨w.heap.size,0,none⟩) 0 0) 0 [] (by rfl) (World.ownsRow_made w #[] 0 (l9 _) (aj_ _) (by simp)) ⟨g,off,none⟩ n c news (by rfl) hl (fun j u hj=>by rw[Addr.add_lit];exact iL _ (HC.out j u hj)) h1 (by unfold maxLen;omega) (by omega) (by simp) ?_)
 intro v' w1 hown hgrow _;have HO:=aB hown;have HG:=aB hgrow;obtain⟨x',c',rfl⟩:=cV hown;clear hown hgrow;go_wp2_with fail;go_ret;refine⟨_,rfl,by simpa using HO.out,?_⟩
 exact((m8 _ w).alloc (l9 _) _).grown HG.out (by simp) (by intro k hk;simp[Value.ownBlock] at hk;omega)
theorem ZM(w:World)(sb time:Nat)(R:Nat->World->Prop)(P:World->Prop)(ht:time<=1000000)
 (HS:Hid (Calls prog 169 #[.func (.func 175) #[.pointer (some ⟨sb,0,none⟩)] #[]] w fun e w'=>∃k:Nat,k<=1000/\e=.returned (.int .i64 k)/\R k w'))
 (HR:Hid (∀k W,R k W->(∃u,W.cell? ⟨sb,4,none⟩=some u)/\W.frozen? ⟨sb,4,none⟩=false/\sb<W.heap.size/\W.cell? ⟨sb,0,none⟩=some (.int .i64 time)))
 (HN:Hid (∀k W,R k W->¬(k=0/\time=500)->P (W.setCell ⟨sb,4,none⟩ (.int .i64 k))))
 (HE:Hid (∀W,R 0 W->time=500->P ((W.setCell ⟨sb,4,none⟩ (.int .i64 0)).setCell ⟨sb,4,none⟩ (.int .i64 9)))):
 Calls prog 125 #[.pointer (some ⟨sb,0,none⟩)] w fun e w'=>e=.returned (.tuple #[])/\P w':=by
 have hmf:=VZ;go_enter Tryz.func125,Tryz.ntmps125;go_wp2_with fail;refine HS.out.mono ?_;rintro e w1 ⟨k,hk,rfl,h1⟩;obtain⟨⟨u,c1⟩,f1,l1,c0⟩:=HR.out _ _ h1;by_cases h0:k=0
 ·subst h0;by_cases h5:time=500
  ·subst h5;have HP:=aB (HE.out _ h1 rfl);clear h1;go_wp2_with fail;go_end0;exact⟨rfl,HP.out⟩
  ·have HP:=aB (HN.out _ _ h1 (fun h=>h5 h.2))
   have e1:¬(time:Int)=500:=by omega
   clear h1;go_wp2_with fail;go_end0;exact⟨rfl,HP.out⟩
 ·have HP:=aB (HN.out _ _ h1 (fun h=>h0 h.1))
  have e1:¬(k:Int)=0:=by omega
  clear h1;go_wp2_with fail;go_end0;exact⟨rfl,HP.out⟩
section
variable {fp:Nat->Value} {F:Nat->Prop} {base:Nat} {w:World} {sb gf cap:Nat} {t0 tv outv s0:Value} {fvs:List FVal}
theorem cT.setStop{m:cP}(h:cT fp F base w sb gf cap t0 tv outv s0 fvs m)(x:Value):cT fp F base (w.setCell ⟨sb,4,none⟩ x) sb gf cap t0 tv outv x fvs m/\Kept (aF sb gf outv fvs) w (w.setCell ⟨sb,4,none⟩ x):=by
 obtain⟨n1,n2⟩:=r8.1 h.nodup;have hk:∀k,k≠sb->(w.setCell ⟨sb,4,none⟩ x).heap[k]?=w.heap[k]?:=fun k hk=>m7 _ _ _ _ hk
 have hFk:∀b,F b->(w.setCell ⟨sb,4,none⟩ x).heap[b]?=w.heap[b]?:=fun b hb=>hk b fun e=>(h.apart b hb).2 (by simp[aF,e])
 refine⟨⟨aS h.blk,bA h.row fun k e=>hk k ?_,h.frs.keep hFk (fun _ h=>h) fun v hv k hkm=>hk k ?_,h.tape.keep hFk (fun _ h=>h),bA h.out fun k e=>hk k ?_,h.nodup,fun k hk=>by simpa using h.lt k hk,fun k hk=>by simpa using h.apart k hk⟩,⟨rfl,rfl,rfl,by simp,fun k _ hn=>hk k fun e=>hn (by simp[aF,e])⟩⟩
 ·cases e;exact fun e=>n1 (by simp[<-e])
 ·have hm:k∈aW fvs:=aA_.2 ⟨v,hv,hkm⟩;exact fun e=>n1 (by simp[<-e,hm])
 ·exact fun e2=>n1 (by simp[<-e2,e])
theorem W7(a:Value)(W:World):(callFunc 175 #[a]).run prog W=.ok (.enter 175 #[a]) W:=by kernel_rfl
theorem PE{ar:Nat->Option Nat}{tab:List eP}{m:cP}{k time:Nat}{r:cP × Nat}(ht:jU ar tab)(htu:jM tab)(h:cT fp F base w sb gf cap (.int .i64 time) tv outv s0 fvs m)(hT:kX fp F w tab)(hp:zW (aF sb gf outv fvs) w)(hbase:base<=w.heap.size)
 (hA:fH ar m) (hU:fR m) (hol:m.out.length<=50) (htl:m.tape.length<=1000000000) (hk:dU tab k m=some r) (htm:time<=1000000) (hr9:r.2<=1000):
 Calls prog 125 #[.pointer (some ⟨sb,0,none⟩)] w fun e w'=>e=.returned (.tuple #[])/\Done fp F base sb (.int .i64 time) (.int .i64 (bR time r.2)) (aF sb gf outv fvs) w r.1 w':=by
 have hal:Below w.heap.size w (w.alloc (.cells #[.int .i64 0] 61)):=(m8 _ w).alloc (l9 _) _;have h0:=h.grow hal (fun _ h=>h) (fun _ h=>Or.inl h)
 have hT0:kX fp F (w.alloc (.cells #[.int .i64 0] 61)) tab:=hT.keep (fun x hx=>hal.block x (h.apart x hx).1) fun _ h=>h
 have hK0:Kept (aF sb gf outv fvs) w (w.alloc (.cells #[.int .i64 0] 61)):=Kept.of_below hal;have hX:=yG ht htu h0 hT0 (hp.step hK0 fun _ h=>Or.inl h) (p7 hbase hK0.size) hA hU hol htl hk
 have hfirst:(w.alloc (.cells #[.int .i64 0] 61)).heap[w.heap.size]?=some (.cells #[.int .i64 0] 61 (0,0)):=aT _ _ rfl _;have hnew:w.heap.size∉aF sb gf outv fvs:=fun hm=>by have:=h.lt _ hm;omega
 have hS:=SB 175 ⟨sb,0,none⟩ w (fun k W=>k=r.2/\Done fp F base sb (.int .i64 time) s0 (aF sb gf outv fvs) (w.alloc (.cells #[.int .i64 0] 61)) r.1 W) W7 (hX.mono fun e w' hd=>by
  obtain⟨he,hd⟩:=hd;refine⟨r.2,he,⟨rfl,hd⟩,?_⟩;rw[hd.1.block _ (by simp) hnew];exact hfirst)
 generalize hw0:w.alloc (.cells #[.int .i64 0] 61)=w0 at*
 have hD:∀W x,Done fp F base sb (.int .i64 time) s0 (aF sb gf outv fvs) w0 r.1 W->Done fp F base sb (.int .i64 time) s0 (aF sb gf outv fvs) w r.1 (W.setCell ⟨w.heap.size,0,none⟩ x):=fun W x hd=>by
  obtain⟨d1,G,gf',cap',tv',outv',fvs',d2,d3,d4⟩:=hd;have hsz:w.heap.size<w0.heap.size:=by rw[<-hw0];simp
  have hnG:¬F w.heap.size:=fun hF=>by have:=(h.apart _ hF).1;omega
  have hno:w.heap.size∉aF sb gf' outv' fvs':=fun hm=>by
   rcases d4 _ hm with h1|h1
   ·exact hnew h1
   ·omega
  have hnG2:∀b,G b->b≠w.heap.size:=fun b hb e=>by
   subst e;rcases d2.new _ hb with h1|h1
   ·exact hnG h1
   ·omega
  have hk:∀k,k≠w.heap.size->(W.setCell ⟨w.heap.size,0,none⟩ x).heap[k]?=W.heap[k]?:=fun k hk=>m7 _ _ _ _ hk
  have hko:∀k∈aF sb gf' outv' fvs',(W.setCell ⟨w.heap.size,0,none⟩ x).heap[k]?=W.heap[k]?:=fun k hm=>hk k fun e=>hno (by rw[<-e];exact hm)
  have hFk:∀b,G b->(W.setCell ⟨w.heap.size,0,none⟩ x).heap[b]?=W.heap[b]?:=fun b hb=>hk b (hnG2 b hb)
  refine⟨⟨d1.os.trans hK0.os,d1.tape.trans hK0.tape,d1.output.trans hK0.output,p7 hK0.size (by simpa using d1.size),fun k h1 h2=>?_⟩,G,gf',cap',tv',outv',fvs',d2.le (aX_ hsz),⟨by rw[hko sb (by simp[aF])];exact d3.blk,bA d3.row fun k e=>?_,d3.frs.keep hFk (fun _ h=>h) fun v hv k hkm=>hko k ?_,d3.tape.keep hFk (fun _ h=>h),bA d3.out fun k e=>hko k (by simp[aF,e]),d3.nodup,fun k hk=>by simpa using d3.lt k hk,fun k hk=>by simpa using d3.apart k hk⟩,fun k hm=>(d4 k hm).imp_right (p7 (aX_ hsz))⟩
  ·rw[hk k (by omega),d1.block k (by omega) h2,hK0.block k h1 h2]
  ·cases e;exact hko gf' (by simp[aF])
  ·have hm:k∈aW fvs':=aA_.2 ⟨v,hv,hkm⟩;simp[aF,hm]
 refine(ZM w sb time (fun k W=>k=r.2/\Done fp F base sb (.int .i64 time) s0 (aF sb gf outv fvs) w r.1 W) (fun w'=>Done fp F base sb (.int .i64 time) (.int .i64 (bR time r.2)) (aF sb gf outv fvs) w r.1 w') htm (hS.mono ?_) (fun k W hq=>?_) (fun k W hq hn=>?_) (fun W hq hn=>?_))
 ·rintro e w' ⟨k,w1,rfl,⟨rfl,hd⟩,rfl⟩;exact⟨r.2,hr9,rfl,rfl,hD _ _ hd⟩
 ·obtain⟨_,_,G,gf',cap',tv',outv',fvs',_,d3,_⟩:=hq;exact⟨⟨_,aA d3.blk rfl⟩,aE d3.blk,aD d3.blk,aA d3.blk rfl⟩
 ·obtain⟨rfl,d1,G,gf',cap',tv',outv',fvs',d2,d3,d4⟩:=hq;obtain⟨q1,q2⟩:=d3.setStop (.int .i64 r.2);have e:bR time r.2=r.2:=if_neg hn;rw[e];exact⟨d1.trans q2 d4,G,gf',cap',tv',outv',fvs',d2,q1,d4⟩
 ·obtain⟨hz,d1,G,gf',cap',tv',outv',fvs',d2,d3,d4⟩:=hq;obtain⟨q1,q2⟩:=d3.setStop (.int .i64 0);obtain⟨q3,q4⟩:=q1.setStop (.int .i64 9);have e:bR time r.2=9:=if_pos ⟨hz.symm,hn⟩;rw[e];exact⟨(d1.trans q2 d4).trans q4 d4,G,gf',cap',tv',outv',fvs',d2,q3,d4⟩
end
structure b8(fp:Nat->Value)(F:Nat->Prop)(w:World)(v:FVal)(f:aK):Prop where
 fn:C4 fp F w v.fp f.fn
 nx:v.nx=.int .i64 f.next
 ln:v.ln=.int .i64 f.line
 sp:eV F w v.sp f.seen
 vars:PVs F w v.vv f.vars
 varsB:∀a∈f.vars,aJ a<=200
 ops:PVs F w v.ov f.ops
 opsB:∀a∈f.ops,aJ a<=200
theorem b8.keep{fp:Nat->Value}{F G:Nat->Prop}{w w':World}{v:FVal}{f:aK}(h:b8 fp F w v f)(hk:∀b,F b->w'.heap[b]?=w.heap[b]?)(hF:∀b,F b->G b):b8 fp G w' v f:=
 ⟨h.fn.keep hk hF,h.nx,h.ln,eV.keep hk hF h.sp,(h.vars.keep hk).mono hF,h.varsB,(h.ops.keep hk).mono hF,h.opsB⟩
def vF(fp:Nat->Value)(F:Nat->Prop)(w:World):List FVal->List aK->Prop
 |[],[]=>True
 |v::vs,f::fs=>b8 fp F w v f/\vF fp F w vs fs
 |_,_=>False
theorem vF.keep{fp:Nat->Value}{F G:Nat->Prop}{w w':World}(hk:∀b,F b->w'.heap[b]?=w.heap[b]?)(hF:∀b,F b->G b):∀{vs:List FVal} {fs:List aK},vF fp F w vs fs->vF fp G w' vs fs
 |[],[],_=>trivial
 |_::_,_::_,⟨h1,h2⟩=>⟨h1.keep hk hF,vF.keep hk hF h2⟩
 |[],_::_,h=>h.elim
 |_::_,[],h=>h.elim
theorem vF.length{fp:Nat->Value}{F:Nat->Prop}{w:World}:∀{vs:List FVal} {fs:List aK},vF fp F w vs fs->vs.length=fs.length
 |[],[],_=>rfl
 |_::_,_::_,⟨_,h⟩=>by simp[vF.length h]
 |[],_::_,h=>h.elim
 |_::_,[],h=>h.elim
theorem vF.get{fp:Nat->Value}{F:Nat->Prop}{w:World}:∀{vs:List FVal} {fs:List aK},vF fp F w vs fs->∀(i:Nat) v f,vs[i]?=some v->fs[i]?=some f->b8 fp F w v f
 |[],[],_,i,v,f,h1,_=>by simp at h1
 |_::_,_::_,⟨h,_⟩,0,v,f,h1,h2=>by simp at h1 h2;subst h1;subst h2;exact h
 |_::_,_::_,⟨_,h⟩,i+1,v,f,h1,h2=>vF.get h i v f (by simpa using h1) (by simpa using h2)
 |[],_::_,h,_,_,_,_,_=>h.elim
 |_::_,[],h,_,_,_,_,_=>h.elim
def WL(F:Nat->Prop)(w:World)(v:Value)(fvs:List FVal):Prop:=
 (fvs=[]/\∃x c,v=.slice x 0 c)\/∃g c cur,v=.slice (some ⟨g,0,none⟩) fvs.length c/\F g/\w.heap[g]?=some (.cells cur 195 (0,0))/\fvs.length<=c/\cur.toList.take (fvs.length*6)=fZ fvs
theorem WL.keep{F G:Nat->Prop}{w w':World}{v:Value}{fvs:List FVal}(h:WL F w v fvs)(hk:∀b,F b->w'.heap[b]?=w.heap[b]?)(hF:∀b,F b->G b):WL G w' v fvs:=by
 rcases h with h|⟨g,c,cur,h1,h2,h3,h4⟩
 ·exact Or.inl h
 ·exact Or.inr ⟨g,c,cur,h1,hF g h2,by rw[hk g h2];exact h3,h4⟩
def JA(F:Nat->Prop)(w:World)(v:Value)(l:List (List UInt8)):Prop:=
 (l=[]/\v=.slice none 0 0)\/∃g c cur,v=.slice (some ⟨g,0,none⟩) l.length c/\F g/\w.heap[g]?=some (.cells cur 9 (0,0))/\l.length<=c/\cur.toList.take l.length=lR l
theorem JA.keep{F G:Nat->Prop}{w w':World}{v:Value}{l:List (List UInt8)}(h:JA F w v l)(hk:∀b,F b->w'.heap[b]?=w.heap[b]?)(hF:∀b,F b->G b):JA G w' v l:=by
 rcases h with h|⟨g,c,cur,h1,h2,h3,h4⟩
 ·exact Or.inl h
 ·exact Or.inr ⟨g,c,cur,h1,hF g h2,by rw[hk g h2];exact h3,h4⟩
def nQ(fp:Nat->Value)(F:Nat->Prop)(w:World)(v:Value)(s:bW):Prop:=
 ∃fv tv outv fvs,v=.agg #[.int .i64 s.time,fv,tv,outv,.int .i64 s.stop]/\WL F w fv fvs/\vF fp F w fvs s.m.frames/\rA F w tv s.m.tape/\JA F w outv s.m.out
theorem nQ.keep{fp:Nat->Value}{F G:Nat->Prop}{w w':World}{v:Value}{s:bW}(h:nQ fp F w v s)(hk:∀b,F b->w'.heap[b]?=w.heap[b]?)(hF:∀b,F b->G b):nQ fp G w' v s:=by
 obtain⟨fv,tv,outv,fvs,h1,h2,h3,h4,h5⟩:=h;exact⟨fv,tv,outv,fvs,h1,h2.keep hk hF,h3.keep hk hF,h4.keep hk hF,h5.keep hk hF⟩
theorem iT.kept{fp:Nat->Value}{F G:Nat->Prop}{base:Nat}{w:World}(hF:∀k,F k->G k):∀{vs:List FVal} {fs:List aK},iT fp F base w vs fs->(∀v∈vs,∀k∈v.owns,G k)->vF fp G w vs fs
 |[],[],_,_=>trivial
 |v::_,_::_,⟨h1,h2⟩,ho=>by
  have hv:=ho v (x9 ..);obtain⟨⟨xs,a1,a2⟩,a3⟩:=h1.vars;obtain⟨⟨ys,b1,b2⟩,b3⟩:=h1.ops;exact⟨⟨h1.fn.keep (fun _ _=>rfl) hF,h1.nx,h1.ln,eV.keep (fun _ _=>rfl) hF h1.sp,PVs.ofRow a1 (a2.mono hF) fun k e=>hv k (by simp[FVal.owns,e]),a3,PVs.ofRow b1 (b2.mono hF) fun k e=>hv k (by simp[FVal.owns,e]),b3⟩,iT.kept hF h2 fun u hu=>ho u (r9 _ hu)⟩
 |[],_::_,h,_=>h.elim
 |_::_,[],h,_=>h.elim
theorem cT.kept{fp:Nat->Value}{F G:Nat->Prop}{base:Nat}{w:World}{sb gf cap time stop:Nat}{tv outv:Value}{fvs:List FVal}{m:cP}(h:cT fp F base w sb gf cap (.int .i64 time) tv outv (.int .i64 stop) fvs m)(hF:∀k,F k->G k)(hG:∀k∈aF sb gf outv fvs,k≠sb->G k):
 nQ fp G w (.agg #[.int .i64 time,.slice (some ⟨gf,0,none⟩) fvs.length cap,tv,outv,.int .i64 stop]) ⟨time,m,stop⟩:=by
 obtain⟨n1,n2⟩:=r8.1 h.nodup;have hne:∀k,k∈gf::(outv.ownBlock.toList++aW fvs)->k≠sb:=fun k hk e=>n1 (by rw[<-e];exact hk)
 have hg:∀k,k∈gf::(outv.ownBlock.toList++aW fvs)->G k:=fun k hk=>hG k (r9 _ hk) (hne k hk)
 refine⟨_,tv,outv,fvs,rfl,?_,iT.kept hF h.frs fun v hv k hk=>hg k ?_,h.tape.keep (fun _ _=>rfl) hF,?_⟩
 ·rcases h.row.2 with ⟨r1,_⟩|⟨g',cap',cur,r1,r2,r3,r4,r5,r6,r7⟩
  ·cases r1
  ·cases r1;exact Or.inr ⟨gf,cap,cur,rfl,hg gf (by simp),r3,r4,r7⟩
 ·have hm:k∈aW fvs:=aA_.2 ⟨v,hv,hk⟩;simp[hm]
 ·rcases h.out.2 with ⟨r1,r2⟩|⟨g',cap',cur,r1,r2,r3,r4,r5,r6,r7⟩
  ·exact Or.inl ⟨v8 r2,r1⟩
  ·exact Or.inr ⟨g',cap',cur,r1,hg g' (by rw[r1];simp[Value.ownBlock]),r3,r4,by simpa using r7⟩
theorem Kept.setCell{own:List Nat}{w W:World}(h:Kept own w W)(p:Addr)(x:Value)(hp:p.block∈own):Kept own w (W.setCell p x):=
 ⟨h.os,h.tape,h.output,by simpa using h.size,fun k hk hn=>by rw[m7 _ _ _ _ fun e=>hn (by rw[e];exact hp),h.block k hk hn]⟩
theorem QO(w w2:World)(time stop x0 n c0:Nat)(fv tv xo:Value)(P:Value->World->Prop)(A:Nat->Nat->World->Prop)(C E:Nat->Nat->Nat->World->Prop)(D1 D2:Nat->Nat->Nat->Option Addr->Nat->Nat->World->Prop)(O:Nat->Nat->Option Addr->Nat->Nat->World->Prop)(hn:n<=100)
 (hfv:fv=.slice (some ⟨x0,0,none⟩) n c0) (hxo:∃xa xl xc,xo=.slice xa xl xc) (htv:∃ta tl tc,tv=.slice ta tl tc)
 (hW:(w.alloc (.cells #[.int .i64 time,fv,tv,xo,.int .i64 stop] 108)).alloc (.cells #[.int .i64 0,.slice none 0 0,.slice none 0 0,.slice none 0 0,.int .i64 0] 108)=w2)
 (HC:Hid (Calls prog 281 #[fv] w2 fun e w'=>∃g cap,e=.returned (.slice (some ⟨g,0,none⟩) n cap)/\A g cap w'))
 (HA:Hid (∀g cap W,A g cap W->(∃u,W.cell? ⟨w.heap.size,1,none⟩=some u)/\W.frozen? ⟨w.heap.size,1,none⟩=false/\w.heap.size<W.heap.size/\C g cap 0 (W.setCell ⟨w.heap.size,1,none⟩ (.slice (some ⟨g,0,none⟩) n cap))))
 (HR:Hid (∀g cap j W,C g cap j W->W.cell? ⟨w.heap.size,1,none⟩=some (.slice (some ⟨g,0,none⟩) n cap)/\w.heap.size<W.heap.size/\g<W.heap.size))
 (HV:Hid (∀g cap j W,C g cap j W->j<n->∃x l c,W.cell? ⟨g,j*6+4,none⟩=some (.slice x l c)/\Calls prog 282 #[.slice x l c] W fun e w'=>∃x' c',e=.returned (.slice x' l c')/\D1 g cap j x' l c' w'))
 (HD1:Hid (∀g cap j x l c W,D1 g cap j x l c W->(∃u,W.cell? ⟨g,j*6+4,none⟩=some u)/\W.frozen? ⟨g,j*6+4,none⟩=false/\g<W.heap.size/\E g cap j (W.setCell ⟨g,j*6+4,none⟩ (.slice x l c))))
 (HE:Hid (∀g cap j W,E g cap j W->∃x l c,W.cell? ⟨g,j*6+5,none⟩=some (.slice x l c)/\g<W.heap.size/\Calls prog 282 #[.slice x l c] W fun e w'=>∃x' c',e=.returned (.slice x' l c')/\D2 g cap j x' l c' w'))
 (HD2:Hid (∀g cap j x l c W,D2 g cap j x l c W->(∃u,W.cell? ⟨g,j*6+5,none⟩=some u)/\W.frozen? ⟨g,j*6+5,none⟩=false/\g<W.heap.size/\C g cap (j+1) (W.setCell ⟨g,j*6+5,none⟩ (.slice x l c))))
 (HO:Hid (∀g cap W,C g cap n W->W.cell? ⟨w.heap.size,3,none⟩=some xo/\Calls prog 109 #[xo] W fun e w'=>∃x' l' c',e=.returned (.slice x' l' c')/\O g cap x' l' c' w'))
 (HF:Hid (∀g cap x l c W,O g cap x l c W->(W.cell? ⟨w.heap.size,0,none⟩=some (.int .i64 time)/\W.cell? ⟨w.heap.size,1,none⟩=some (.slice (some ⟨g,0,none⟩) n cap)/\W.cell? ⟨w.heap.size,2,none⟩=some tv/\(∃u,W.cell? ⟨w.heap.size,3,none⟩=some u)/\W.cell? ⟨w.heap.size,4,none⟩=some (.int .i64 stop)/\W.frozen? ⟨w.heap.size,3,none⟩=false/\w.heap.size+1<W.heap.size)/\
   (W.heap[w.heap.size+1]?=some (.cells #[.int .i64 0,.slice none 0 0,.slice none 0 0,.slice none 0 0,.int .i64 0] 108 (0,0)))))
 (HP:Hid (∀g cap x l c W W',O g cap x l c W->Kept [w.heap.size,w.heap.size+1] W W'->W'.heap.size=W.heap.size->P (.agg #[.int .i64 time,.slice (some ⟨g,0,none⟩) n cap,tv,.slice x l c,.int .i64 stop]) W')):
 Calls prog 226 #[.agg #[.int .i64 time,fv,tv,xo,.int .i64 stop]] w fun e w'=>∃v,e=.returned v/\P v w':=by
 obtain⟨xa,xl,xc,rfl⟩:=hxo;obtain⟨ta,tl,tc,rfl⟩:=htv;subst hfv;have HW:=aB hW;clear hW;go_enter Tryz.func226,Tryz.ntmps226;go_wp2_with fail;rw[HW.out];refine HC.out.mono ?_;rintro e w3 ⟨g,cap,rfl,h3⟩;obtain⟨⟨u3,a1⟩,a2,a3,h4⟩:=HA.out _ _ _ h3;obtain⟨b1,b2,b3⟩:=HR.out _ _ _ _ h4;have H4:=aB h4;clear h3 h4;generalize hW4:w3.setCell ⟨w.heap.size,1,none⟩ (.slice (some ⟨g,0,none⟩) n cap)=w4 at H4 b1 b2 b3;have HW4:=aB hW4;clear hW4;go_wp2_with fail;rw[HW4.out];go_wp2_with fail;go_loopg [3,4,12] n (fun gk _ _ i wr=>∃j:Nat,j+gk=n/\i=.int .i64 j/\C g cap j wr)
 case atStart=>exact⟨0,by omega,rfl,H4.out⟩
 case round=>
  obtain⟨j,hj,rfl,hC⟩:=hrel;obtain⟨b1,b2,b3⟩:=HR.out _ _ _ _ hC;by_cases hlt:j<n
  ·obtain⟨m,rfl⟩:∃m,gk=m+1:=⟨gk-1,by omega⟩
   obtain⟨x,l,c,c1,hcl⟩:=HV.out _ _ _ _ hC hlt;have HCL:=aB hcl;have e1:(0:Int)<=(j:Int):=by omega
   have e2:(j:Int)<(n:Int):=by omega
   clear hC hcl;go_wp2_with fail;refine HCL.out.mono ?_;rintro e w5 ⟨x',c',rfl,h5⟩;obtain⟨⟨u5,d1⟩,d2,d3,h6⟩:=HD1.out _ _ _ _ _ _ _ h5;obtain⟨y,l2,c2,y1,y2,hcl2⟩:=HE.out _ _ _ _ h6;have HCL2:=aB hcl2;have y1':w5.cell? ⟨g,j*6+5,none⟩=some (.slice y l2 c2):=by simpa [go_sem] using y1
   clear h5 h6 hcl2 y1 y2;go_wp2_with fail;refine HCL2.out.mono ?_;rintro e w7 ⟨y',d',rfl,h7⟩;obtain⟨⟨u7,f1⟩,f2,f3,h8⟩:=HD2.out _ _ _ _ _ _ _ h7;have H8:=aB h8;clear h7 h8;go_wp2_with fail;go_roundg m
   case measure=>omega
   case rel=>exact⟨j+1,by omega,by go_num,H8.out⟩
  ·have hjn:j=n:=by omega
   subst hjn;obtain⟨o1,hcl⟩:=HO.out _ _ _ hC;have HCL:=aB hcl;clear hC hcl;go_wp2_with fail;refine HCL.out.mono ?_;rintro e w5 ⟨x',l',c',rfl,h5⟩;obtain⟨⟨p0,p1,p2,⟨u3,p3⟩,p4,pf,pl⟩,pb⟩:=HF.out _ _ _ _ _ _ h5;have hb0:w5.cell? ⟨w.heap.size+1,0,none⟩=some (.int .i64 0):=aA pb rfl;have hb1:w5.cell? ⟨w.heap.size+1,1,none⟩=some (.slice none 0 0):=aA pb rfl;have hb2:w5.cell? ⟨w.heap.size+1,2,none⟩=some (.slice none 0 0):=aA pb rfl;have hb3:w5.cell? ⟨w.heap.size+1,3,none⟩=some (.slice none 0 0):=aA pb rfl;have hb4:w5.cell? ⟨w.heap.size+1,4,none⟩=some (.int .i64 0):=aA pb rfl;have hf0:=aE (i:=0) pb;have hf1:=aE (i:=1) pb;have hf2:=aE (i:=2) pb;have hf3:=aE (i:=3) pb;have hf4:=aE (i:=4) pb;have H5:=aB h5;clear h5 pb;have hl0:w.heap.size<w5.heap.size:=by omega
   go_wp2_with fail;refine⟨rfl,.agg #[.int .i64 time,.slice (some ⟨g,0,none⟩) j cap,.slice ta tl tc,.slice x' l' c',.int .i64 stop],?_,_,rfl,HP.out _ _ _ _ _ _ _ H5.out ?_ (by simp)⟩
   ·simp[results,Tryz.results226,go_sem,hb0,hb1,hb2,hb3,hb4]
   ·exact((((((Kept.refl _ _).setCell _ _ (by simp)).setCell _ _ (by simp)).setCell _ _ (by simp)).setCell _ _ (by simp)).setCell _ _ (by simp)).setCell _ _ (by simp)
theorem K9(a b:List FVal)(v:FVal)(i:Nat)(hi:i<6):(fZ (a++v::b))[a.length*6+i]?=v.cells[i]?:=by
 rw[jK,y8 (by rw[eE];omega),eE,az_]
 show (v.cells++fZ b)[i]?=_
 rw[ad_ (by exact hi)]
theorem ZO(a b:List FVal)(v v':FVal)(i:Nat)(x:Value)(hi:i<6)(hv:v'.cells=v.cells.set i x):(fZ (a++v::b)).set (a.length*6+i) x=fZ (a++v'::b):=by
 rw[jK,jK,List.set_append_right _ _ (by rw[eE];omega),eE,az_]
 show fZ a++(v.cells++fZ b).set i x=fZ a++(v'.cells++fZ b)
 rw[List.set_append_left _ _ (by exact hi),hv]
structure CI(w:World)(time stop n g cap:Nat)(tv xo:Value)(fvs':List FVal)(own:List Nat)(W:World):Prop where
 row:W.ownsRow (w.heap.size+2) 195 6 (.slice (some ⟨g,0,none⟩) n cap) n (fZ fvs')
 nodup:(g::own).Nodup
 rng:∀k∈g::own,w.heap.size+2<=k/\k<W.heap.size
 bel:Below w.heap.size w W
 b1:W.heap[w.heap.size]?=some (.cells #[.int .i64 time,.slice (some ⟨g,0,none⟩) n cap,tv,xo,.int .i64 stop] 108 (0,0))
 b2:W.heap[w.heap.size+1]?=some (.cells #[.int .i64 0,.slice none 0 0,.slice none 0 0,.slice none 0 0,.int .i64 0] 108 (0,0))
section
variable {w:World} {time stop n g cap:Nat} {tv xo:Value} {own:List Nat} {W W':World} {a b:List FVal} {v v':FVal}
theorem CI.cell(h:CI w time stop n g cap tv xo (a++v::b) own W)(i:Nat)(hi:i<6):W.cell? ⟨g,a.length*6+i,none⟩=v.cells[i]?/\W.frozen? ⟨g,a.length*6+i,none⟩=false/\g<W.heap.size:=by
 refine⟨?_,h.row.frozenAt _,(h.rng g (by simp)).2⟩
 have hl:=h.row.1;rw[eE,m6,n8] at hl;rw[h.row.cellAt (a.length*6+i) (by omega),K9 a b v i hi]
theorem CI.grow{fvs':List FVal}(h:CI w time stop n g cap tv xo fvs' own W)(hb:Below W.heap.size W W')(o:Option Nat)(ho:∀k,o=some k->W.heap.size<=k/\k<W'.heap.size):CI w time stop n g cap tv xo fvs' (own++o.toList) W':=by
 have hw:=h.bel.size;have h1:=aD h.b1;have h2:=aD h.b2;refine⟨iP h.row hb,?_,fun k hk=>?_,h.bel.trans (hb.mono hw),by rw[hb.block _ h1];exact h.b1,by rw[hb.block _ h2];exact h.b2⟩
 ·rw[<-s9];refine ai_.2 ⟨h.nodup,by cases o<;>simp,fun x hx y hy e=>?_⟩
  subst e;have hy':o=some x:=by simpa using hy
  have:=(h.rng x hx).2;have:=(ho x hy').1;omega
 ·rw[<-s9] at hk;rcases o7.1 hk with hk|hk
  ·exact⟨(h.rng k hk).1,m9 (h.rng k hk).2 hb.size⟩
  ·have hk':o=some k:=by simpa using hk
   have:=(ho k hk').1;exact⟨by omega,(ho k hk').2⟩
theorem CI.set(h:CI w time stop n g cap tv xo (a++v::b) own W)(i:Nat)(hi:i<6)(x:Value)(hv:v'.cells=v.cells.set i x):CI w time stop n g cap tv xo (a++v'::b) own (W.setCell ⟨g,a.length*6+i,none⟩ x):=by
 have hg:=(h.rng g (by simp)).1
 have hk:∀k,k≠g->(W.setCell ⟨g,a.length*6+i,none⟩ x).heap[k]?=W.heap[k]?:=fun k hk=>m7 _ _ _ _ hk
 refine⟨?_,h.nodup,fun k hk=>⟨(h.rng k hk).1,by simpa using (h.rng k hk).2⟩,h.bel.setCell (by show w.heap.size<=g;omega) _,by rw[hk _ (by omega)];exact h.b1,by rw[hk _ (by omega)];exact h.b2⟩
 rw[<-ZO a b v v' i x hi hv];exact(h.row.stored _ _).1
theorem CI.keep{fvs':List FVal}(h:CI w time stop n g cap tv xo fvs' own W):w.heap.size<W.heap.size/\w.heap.size+1<W.heap.size:=⟨aD h.b1,aD h.b2⟩
end
structure RH(fp:Nat->Value)(F:Nat->Prop)(base:Nat)(w:World)(gf cap:Nat)(tv outv:Value)(fvs:List FVal)(m:cP):Prop where
 row:w.ownsRow base 195 6 (.slice (some ⟨gf,0,none⟩) fvs.length cap) fvs.length (fZ fvs)
 frs:iT fp F base w fvs m.frames
 tape:rA F w tv m.tape
 out:w.ownsRow base 9 1 outv m.out.length (lR m.out)
 nodup:(gf::(outv.ownBlock.toList++aW fvs)).Nodup
 rng:∀k∈gf::(outv.ownBlock.toList++aW fvs),base<=k/\k<w.heap.size
theorem PVs.cells{F:Nat->Prop}{w:World}{v:Value}{l:List aI}(h:PVs F w v l)(hl:l.length<=1000000):
 ∃x c,v=.slice x l.length c/\Calls prog 282 #[.slice x l.length c] w fun e w'=>∃x' c' ys,e=.returned (.slice x' l.length c')/\w'.ownsRow w.heap.size 256 1 (.slice x' l.length c') l.length ys/\fY F w ys l/\Below w.heap.size w w':=by
 rcases h.row with ⟨rfl,rfl⟩|⟨g,cap,xs,rfl,hg,hgl,hr,hc⟩
 ·refine⟨none,0,rfl,(sL w).mono ?_⟩;rintro e w' ⟨rfl,rfl⟩;exact⟨none,0,[],rfl,World.ownsRow_nil _ _ _ _,fY.nil _ _,m8 _ _⟩
 ·refine⟨_,_,rfl,(sM g 0 l.length cap xs w (by rw[hr.1];omega) hl (fun j u hj=>by rw[aD_];exact hc j u hj) (oA hr)).mono ?_⟩
  rintro e w' ⟨v',rfl,ho,hb⟩;obtain⟨x',c',rfl⟩:=cV ho;exact⟨x',c',xs,rfl,ho,hr,hb⟩
theorem lH{fp:Nat->Value}{F:Nat->Prop}{base:Nat}{w w':World}{vs:List FVal}{fs:List aK}(h:iT fp F base w vs fs)(hF:∀b,F b->w'.heap[b]?=w.heap[b]?)(ho:∀k∈aW vs,w'.heap[k]?=w.heap[k]?):iT fp F base w' vs fs:=
 h.keep hF (fun _ h=>h) fun v hv k hk=>ho k (aA_.2 ⟨v,hv,hk⟩)
theorem KQ(us:List FVal)(v:FVal):aW (us++[v])=aW us++v.owns:=by simp[aW]
theorem iH{w:World}{base base':Nat}{e:TypeId}{size:Nat}{v:Value}{n:Nat}{xs:List Value}(h:w.ownsRow base e size v n xs)(hb:base'<=base):w.ownsRow base' e size v n xs:=by
 refine⟨h.1,?_⟩;rcases h.2 with h|⟨g,cap,cur,h1,h2,h3⟩
 ·exact Or.inl h
 ·exact Or.inr ⟨g,cap,cur,h1,p7 hb h2,h3⟩
def l7(fp:Nat->Value)(F:Nat->Prop)(w:World)(time stop n:Nat)(tv xo:Value)(fvs:List FVal)(frames:List aK)(g cap j:Nat)(W:World):Prop:=
 ∃us:List FVal,us.length=j/\CI w time stop n g cap tv xo (us++fvs.drop j) (aW us) W/\iT fp F (w.heap.size+2) W us (frames.take j)
def l8(fp:Nat->Value)(F:Nat->Prop)(w:World)(time stop n:Nat)(tv xo:Value)(fvs:List FVal)(frames:List aK)(g cap j:Nat)(W:World):Prop:=
 ∃(us:List FVal) (v:FVal) (f:aK) (x:Value),us.length=j/\fvs[j]?=some v/\frames[j]?=some f/\CI w time stop n g cap tv xo (us++{ v with vv:=x }::fvs.drop (j+1)) (aW us++x.ownBlock.toList) W/\iT fp F (w.heap.size+2) W us (frames.take j)/\lV F (w.heap.size+2) W x f.vars
theorem UY{fp:Nat->Value}{F:Nat->Prop}{w:World}{v:Value}{s:bW}(h:nQ fp F w v s)(hF:∀k,F k->k<w.heap.size)(hne:s.m.frames≠[])(hfr:s.m.frames.length<=16)(hb:∀f∈s.m.frames,f.vars.length<=90001/\f.ops.length<=99000)(hol:s.m.out.length<=50):
 Calls prog 226 #[v] w fun e w'=>∃v',e=.returned v'/\∃gf cap tv outv fvs,v'=.agg #[.int .i64 s.time,.slice (some ⟨gf,0,none⟩) fvs.length cap,tv,outv,.int .i64 s.stop]/\Below w.heap.size w w'/\RH fp F w.heap.size w' gf cap tv outv fvs s.m:=by
 obtain⟨fv,tv,xo,fvs,rfl,hrow,hfs,htp,hst⟩:=h;have hlen:=hfs.length
 have hnpos:0<fvs.length:=by
  rw[hlen];exact aB_.2 hne
 rcases hrow with ⟨e,_⟩|⟨x0,c0,cur,rfl,hFx,hcur,hcap,htk⟩
 ·rw[e] at hnpos;simp at hnpos
 have htvf:∃ta tl tc,tv=.slice ta tl tc:=by
  rcases htp with ⟨_,x,c,e⟩|⟨g,o,c,e,_⟩
  ·exact⟨_,_,_,e⟩
  ·exact⟨_,_,_,e⟩
 have hxof:∃xa xl xc,xo=.slice xa xl xc:=by
  rcases hst with ⟨_,e⟩|⟨g,c,cu,e,_⟩
  ·exact⟨_,_,_,e⟩
  ·exact⟨_,_,_,e⟩
 generalize hW2:(w.alloc (.cells #[.int .i64 s.time,.slice (some ⟨x0,0,none⟩) fvs.length c0,tv,xo,.int .i64 s.stop] 108)).alloc (.cells #[.int .i64 0,.slice none 0 0,.slice none 0 0,.slice none 0 0,.int .i64 0] 108)=w2;have hb2:Below w.heap.size w w2:=by rw[<-hW2];exact((m8 _ w).alloc (l9 _) _).alloc (by simp) _
 have hs2:w2.heap.size=w.heap.size+2:=by rw[<-hW2];simp
 have hB1:w2.heap[w.heap.size]?=some (.cells #[.int .i64 s.time,.slice (some ⟨x0,0,none⟩) fvs.length c0,tv,xo,.int .i64 s.stop] 108 (0,0)):=by
  rw[<-hW2,o9 _ _ _ (by simp)];exact aT _ _ rfl _
 have hB2:w2.heap[w.heap.size+1]?=some (.cells #[.int .i64 0,.slice none 0 0,.slice none 0 0,.slice none 0 0,.int .i64 0] 108 (0,0)):=by
  rw[<-hW2];exact aT _ _ (by simp) _
 have hFk2:∀b,F b->w2.heap[b]?=w.heap[b]?:=fun b hb=>hb2.block b (hF b hb)
 have hkF:∀{W:World},Below w.heap.size w W->∀b,F b->W.heap[b]?=w.heap[b]?:=fun hb b hb'=>hb.block b (hF b hb')
 have honeAll:∀u∈fZ fvs,u.oneCell'=true:=by
  have hgen:∀(vs:List FVal) (fs:List aK),vF fp F w vs fs->∀u∈fZ vs,u.oneCell'=true:=by
   intro vs;induction vs with
   |nil=>intro fs _ u hu;cases hu
   |cons v vs ih=>
    intro fs hfs u hu;cases fs with
    |nil=>exact hfs.elim
    |cons f fs=>
     obtain⟨h1,h2⟩:=hfs;rcases o7.1 hu with hu|hu
     ·obtain⟨fbk,gc,cp,row,e1,_⟩:=h1.fn;obtain⟨p,hp⟩:=h1.sp.form
      have hvv:∃x n c,v.vv=.slice x n c:=by
       rcases h1.vars.row with ⟨_,e⟩|⟨g,c,xs,e,_⟩<;>exact⟨_,_,_,e⟩
      have hov:∃x n c,v.ov=.slice x n c:=by
       rcases h1.ops.row with ⟨_,e⟩|⟨g,c,xs,e,_⟩<;>exact⟨_,_,_,e⟩
      obtain⟨x1,n1,c1,e2⟩:=hvv;obtain⟨x2,n2,c2,e3⟩:=hov;simp only[FVal.cells,e1,h1.nx,h1.ln,hp,e2,e3,p8,s7,or_false] at hu;rcases hu with rfl|rfl|rfl|rfl|rfl|rfl<;>rfl
     ·exact ih fs h2 u hu
  exact hgen fvs s.m.frames hfs
 have hfget:∀j (hj:j<fvs.length),∃v f,fvs[j]?=some v/\s.m.frames[j]?=some f/\b8 fp F w v f/\f∈s.m.frames/\fvs.drop j=v::fvs.drop (j+1)/\s.m.frames.take (j+1)=s.m.frames.take j++[f]:=fun j hj=>by
  have hj':j<s.m.frames.length:=by omega
  refine⟨fvs[j],s.m.frames[j],p9 hj,p9 hj',hfs.get j _ _ (p9 hj) (p9 hj'),u_9 hj',a0_ hj,v7 hj'⟩
 have hR:∀g cap j W,l7 fp F w s.time s.stop fvs.length tv xo fvs s.m.frames g cap j W->W.cell? ⟨w.heap.size,1,none⟩=some (.slice (some ⟨g,0,none⟩) fvs.length cap)/\w.heap.size<W.heap.size/\g<W.heap.size:=fun g cap j W hq=>by
  obtain⟨us,_,hc,_⟩:=hq;exact⟨aA hc.b1 rfl,aD hc.b1,(hc.rng g (by simp)).2⟩
 refine(QO w w2 s.time s.stop x0 fvs.length c0 (.slice (some ⟨x0,0,none⟩) fvs.length c0) tv xo
  (fun v' w'=>∃gf cap tv outv fvs,v'=.agg #[.int .i64 s.time,.slice (some ⟨gf,0,none⟩) fvs.length cap,tv,outv,.int .i64 s.stop]/\Below w.heap.size w w'/\RH fp F w.heap.size w' gf cap tv outv fvs s.m)
  (fun g cap W=>W.ownsRow (w.heap.size+2) 195 6 (.slice (some ⟨g,0,none⟩) fvs.length cap) fvs.length (fZ fvs)/\Below w2.heap.size w2 W)
  (l7 fp F w s.time s.stop fvs.length tv xo fvs s.m.frames) (l8 fp F w s.time s.stop fvs.length tv xo fvs s.m.frames)
  (fun g cap j x l c W=>∃us v f,us.length=j/\fvs[j]?=some v/\s.m.frames[j]?=some f/\CI w s.time s.stop fvs.length g cap tv xo (us++v::fvs.drop (j+1)) (aW us++(Value.slice x l c).ownBlock.toList) W/\iT fp F (w.heap.size+2) W us (s.m.frames.take j)/\lV F (w.heap.size+2) W (.slice x l c) f.vars)
  (fun g cap j x l c W=>∃us v f y,us.length=j/\fvs[j]?=some v/\s.m.frames[j]?=some f/\CI w s.time s.stop fvs.length g cap tv xo (us++{ v with vv:=y }::fvs.drop (j+1)) (aW us++y.ownBlock.toList++(Value.slice x l c).ownBlock.toList) W/\iT fp F (w.heap.size+2) W us (s.m.frames.take j)/\lV F (w.heap.size+2) W y f.vars/\lV F (w.heap.size+2) W (.slice x l c) f.ops)
  (fun g cap x l c W=>∃us,us.length=fvs.length/\CI w s.time s.stop fvs.length g cap tv xo us (aW us++(Value.slice x l c).ownBlock.toList) W/\iT fp F (w.heap.size+2) W us s.m.frames/\W.ownsRow (w.heap.size+2) 9 1 (.slice x l c) s.m.out.length (lR s.m.out))
  (by omega) rfl hxof htvf hW2 ?_ (fun g cap W hq=>?_) hR (fun g cap j W hq hj=>?_) (fun g cap j x l c W hq=>?_) (fun g cap j W hq=>?_) (fun g cap j x l c W hq=>?_) (fun g cap W hq=>?_) (fun g cap x l c W hq=>?_) (fun g cap x l c W W' hq hk hsz=>?_))
 ·refine(GE x0 0 fvs.length c0 (fZ fvs) w2 (by rw[eE]) (by omega) (fun j u hj=>?_) honeAll).mono ?_
  ·rw[aD_];rw[<-htk,x6] at hj;split at hj
   ·exact aA ((hFk2 x0 hFx).trans hcur) (by simpa using hj)
   ·cases hj
  ·rintro e w' ⟨v',rfl,ho,hbw⟩;rw[hs2] at ho;rcases ho.2 with ⟨r1,r2⟩|⟨g,cp,cu,r1,_⟩
   ·omega
   ·rw[r1] at ho ⊢
    exact⟨g,cp,rfl,ho,hbw⟩
 ·obtain⟨ho,hbw⟩:=hq;have hg:=ho.lt g rfl;have hb1:W.heap[w.heap.size]?=_:=(hbw.block _ (by omega)).trans hB1
  have hb2':W.heap[w.heap.size+1]?=_:=(hbw.block _ (by omega)).trans hB2
  refine⟨⟨_,aA hb1 rfl⟩,aE hb1,aD hb1,[],rfl,⟨?_,by simp[aW],fun k hk=>?_,?_,aS hb1,?_⟩,trivial⟩
  ·exact bA ho fun k e=>m7 _ _ _ _ (by cases e;show g≠w.heap.size;omega)
  ·simp[aW] at hk;subst hk;exact⟨hg.1,by simpa using hg.2⟩
  ·exact(hb2.trans (hbw.mono (by omega))).setCell (l9 _) _
  ·rw[m7 _ _ _ _ (by show w.heap.size+1≠w.heap.size;omega)];exact hb2'
 ·obtain⟨us,rfl,hc,hus⟩:=hq;obtain⟨v,f,e1,e2,hv,hfm,e3,e4⟩:=hfget us.length hj;rw[e3] at hc;obtain⟨c1,c2,c3⟩:=hc.cell 4 (by omega)
  have hvk:=hv.keep (hkF hc.bel) fun _ h=>h
  obtain⟨x,c,e5,hcl⟩:=hvk.vars.cells (by have:=(hb f hfm).1;omega)
  refine⟨x,f.vars.length,c,c1.trans (by rw[<-e5];rfl),hcl.mono ?_⟩
  rintro e w' ⟨x',c',ys,he,ho,hr,hbw⟩;have hobl:∀k,(Value.slice x' f.vars.length c').ownBlock=some k->W.heap.size<=k/\k<w'.heap.size:=fun k hk=>ho.lt k hk
  have hsz:=hc.keep;refine⟨x',c',he,us,v,f,rfl,e1,e2,hc.grow hbw _ hobl,lH hus (fun b hb'=>hbw.block b (m9 (hF b hb') hc.bel.size)) (fun k hk=>hbw.block k (hc.rng k (r9 _ hk)).2),⟨ys,iH ho (by omega),hr.keep fun b hb'=>hbw.block b (m9 (hF b hb') hc.bel.size)⟩,hv.varsB⟩
 ·obtain⟨us,v,f,rfl,e1,e2,hc,hus,hvr⟩:=hq;obtain⟨c1,c2,c3⟩:=hc.cell 4 (by omega)
  have hgne:∀k∈aW us++(Value.slice x l c).ownBlock.toList,k≠g:=fun k hk e=>(r8.1 hc.nodup).1 (by rw[<-e];exact hk)
  have hset:∀k,k≠g->(W.setCell ⟨g,us.length*6+4,none⟩ (.slice x l c)).heap[k]?=W.heap[k]?:=fun k hk=>m7 _ _ _ _ hk
  have hgF:∀b,F b->b≠g:=fun b hb' e=>by have h1:=hF b hb';have h2:=(hc.rng g (by simp)).1;omega
  refine⟨⟨_,c1⟩,c2,c3,us,v,f,_,rfl,e1,e2,hc.set 4 (by omega) _ rfl,lH hus (fun b hb'=>hset b (hgF b hb')) (fun k hk=>hset k (hgne k (y9 _ hk))),hvr.keep (fun b hb'=>hset b (hgF b hb')) (fun _ h=>h) fun k hk=>hset k (hgne k (by simp[hk]))⟩
 ·obtain⟨us,v,f,x,rfl,e1,e2,hc,hus,hvr⟩:=hq;obtain⟨c1,c2,c3⟩:=hc.cell 5 (by omega)
  have hj:us.length<fvs.length:=(z6.1 e1).1;obtain⟨v',f',e1',e2',hv,hfm,e3,e4⟩:=hfget us.length hj;rw[e1] at e1';cases e1';rw[e2] at e2';cases e2';have hvk:=hv.keep (hkF hc.bel) fun _ h=>h
  obtain⟨y,d,e5,hcl⟩:=hvk.ops.cells (by have:=(hb f hfm).2;omega)
  refine⟨y,f.ops.length,d,c1.trans (by rw[<-e5];rfl),c3,hcl.mono ?_⟩
  rintro e w' ⟨y',d',ys,he,ho,hr,hbw⟩;have hobl:∀k,(Value.slice y' f.ops.length d').ownBlock=some k->W.heap.size<=k/\k<w'.heap.size:=fun k hk=>ho.lt k hk
  have hsz:=hc.keep;have hFw:∀b,F b->w'.heap[b]?=W.heap[b]?:=fun b hb'=>hbw.block b (m9 (hF b hb') hc.bel.size)
  refine⟨y',d',he,us,v,f,x,rfl,e1,e2,hc.grow hbw _ hobl,lH hus hFw (fun k hk=>hbw.block k (hc.rng k (r9 _ (y9 _ hk))).2),hvr.keep hFw (fun _ h=>h) fun k hk=>hbw.block k (hc.rng k (by simp[hk])).2,⟨ys,iH ho (by omega),hr.keep hFw⟩,hv.opsB⟩
 ·obtain⟨us,v,f,y,rfl,e1,e2,hc,hus,hvr,hor⟩:=hq;obtain⟨c1,c2,c3⟩:=hc.cell 5 (by omega)
  have hj:us.length<fvs.length:=(z6.1 e1).1;obtain⟨v',f',e1',e2',hv,hfm,e3,e4⟩:=hfget us.length hj;rw[e1] at e1';cases e1';rw[e2] at e2';cases e2';have hgne:∀k∈aW us++y.ownBlock.toList++(Value.slice x l c).ownBlock.toList,k≠g:=fun k hk e=>(r8.1 hc.nodup).1 (by rw[<-e];exact hk)
  have hset:∀k,k≠g->(W.setCell ⟨g,us.length*6+5,none⟩ (.slice x l c)).heap[k]?=W.heap[k]?:=fun k hk=>m7 _ _ _ _ hk
  have hgF:∀b,F b->b≠g:=fun b hb' e=>by have h1:=hF b hb';have h2:=(hc.rng g (by simp)).1;omega
  have hFs:∀b,F b->(W.setCell ⟨g,us.length*6+5,none⟩ (.slice x l c)).heap[b]?=W.heap[b]?:=fun b hb'=>hset b (hgF b hb')
  have hset5:=hc.set (v':={ v with vv:=y,ov:=.slice x l c }) 5 (by omega) (.slice x l c) rfl
  have hvS:=hv.keep (hkF (hset5.bel)) fun _ h=>h
  refine⟨⟨_,c1⟩,c2,c3,us++[{ v with vv:=y,ov:=.slice x l c }],by simp,?_,?_⟩
  ·have e5:aW (us++[{ v with vv:=y,ov:=.slice x l c }])=aW us++y.ownBlock.toList++(Value.slice x l c).ownBlock.toList:=by
    rw[KQ,y7];rfl
   have e6:us++[{ v with vv:=y,ov:=.slice x l c }]++fvs.drop (us.length+1)=us++{ v with vv:=y,ov:=.slice x l c }::fvs.drop (us.length+1):=by simp
   rw[e5,e6];exact hset5
  ·rw[e4];refine(lH hus hFs (fun k hk=>hset k (hgne k (by simp[hk])))).snoc ⟨hvS.fn,hvS.nx,hvS.ln,hvS.sp,hvr.keep hFs (fun _ h=>h) fun k hk=>hset k (hgne k (by simp[hk])),hor.keep hFs (fun _ h=>h) fun k hk=>hset k (hgne k (by simp[hk]))⟩
 ·obtain⟨us,hul,hc,hus⟩:=hq;rw[List.drop_of_length_le (l9 _),List.append_nil] at hc;rw[hlen,z8 (l9 _)] at hus;have hsz:=hc.keep;have hst':=hst.keep (hkF hc.bel) fun _ h=>h
  refine⟨aA hc.b1 rfl,?_⟩
  have hfin:∀x' l' c' (w':World),w'.ownsRow W.heap.size 9 1 (.slice x' l' c') s.m.out.length (lR s.m.out)->Below W.heap.size W w'->∃us,us.length=fvs.length/\CI w s.time s.stop fvs.length g cap tv xo us (aW us++(Value.slice x' l' c').ownBlock.toList) w'/\iT fp F (w.heap.size+2) w' us s.m.frames/\w'.ownsRow (w.heap.size+2) 9 1 (.slice x' l' c') s.m.out.length (lR s.m.out):=fun x' l' c' w' ho hbw=>
   ⟨us,hul,hc.grow hbw _ fun k hk=>ho.lt k hk,lH hus (fun b hb'=>hbw.block b (m9 (hF b hb') hc.bel.size)) (fun k hk=>hbw.block k (hc.rng k (r9 _ hk)).2),iH ho (by omega)⟩
  rcases hst' with ⟨e1,rfl⟩|⟨go,co,cu,rfl,h1,h2,h3,h4⟩
  ·refine(sN W).mono ?_;rintro e w' ⟨rfl,rfl⟩;exact⟨none,0,0,rfl,hfin _ _ _ _ (by rw[e1];exact World.ownsRow_nil _ _ _ _) (m8 _ _)⟩
  ·refine(sO go 0 s.m.out.length co (lR s.m.out) W (by simp[lR]) (by omega) (fun j u hj=>?_) (fun u hu=>?_)).mono ?_
   ·rw[aD_];rw[<-h4,x6] at hj;split at hj
    ·exact aA h2 (by simpa using hj)
    ·cases hj
   ·obtain⟨y,_,rfl⟩:=aO_.1 hu;rfl
   ·rintro e w' ⟨v',rfl,ho,hbw⟩;obtain⟨x',c',rfl⟩:=cV ho;exact⟨x',_,c',rfl,hfin _ _ _ _ ho hbw⟩
 ·obtain⟨us,hul,hc,hus,ho⟩:=hq;exact⟨⟨aA hc.b1 rfl,aA hc.b1 rfl,aA hc.b1 rfl,⟨_,aA hc.b1 rfl⟩,aA hc.b1 rfl,aE hc.b1,aD hc.b2⟩,hc.b2⟩
 ·obtain⟨us,hul,hc,hus,ho⟩:=hq
  have hne2:∀k∈g::(aW us++(Value.slice x l c).ownBlock.toList),k∉[w.heap.size,w.heap.size+1]:=fun k hk hm=>by
   have:=(hc.rng k hk).1;simp at hm;omega
  have hkk:∀k∈g::(aW us++(Value.slice x l c).ownBlock.toList),W'.heap[k]?=W.heap[k]?:=fun k hk'=>hk.block k (hc.rng k hk').2 (hne2 k hk')
  have hFW:∀b,F b->W'.heap[b]?=W.heap[b]?:=fun b hb'=>hk.block b (m9 (hF b hb') hc.bel.size) (by have:=hF b hb';simp;omega)
  have hbW:Below w.heap.size w W':=⟨hk.os.trans hc.bel.os,hk.tape.trans hc.bel.tape,hk.output.trans hc.bel.output,by rw[hsz];exact hc.bel.size,fun k hk'=>by
   rw[hk.block k (m9 hk' hc.bel.size) (by simp;omega),hc.bel.block k hk']⟩
  have hperm:∀k,k∈g::((Value.slice x l c).ownBlock.toList++aW us)↔k∈g::(aW us++(Value.slice x l c).ownBlock.toList):=fun k=>by simp[or_comm]
  have hkeepN:∀(u:List FVal) (fs:List aK),iT fp F (w.heap.size+2) W' u fs->iT fp F w.heap.size W' u fs:=by
   intro u;induction u with
   |nil=>intro fs h;cases fs with
    |nil=>trivial
    |cons=>exact h.elim
   |cons v vs ih=>intro fs h;cases fs with
    |nil=>exact h.elim
    |cons f fs=>
     obtain⟨h1,h2⟩:=h;obtain⟨⟨xs,a1,a2⟩,a3⟩:=h1.vars;obtain⟨⟨ys,b1,b2⟩,b3⟩:=h1.ops;exact⟨⟨h1.fn,h1.nx,h1.ln,h1.sp,⟨⟨xs,iH a1 (by omega),a2⟩,a3⟩,⟨⟨ys,iH b1 (by omega),b2⟩,b3⟩⟩,ih fs h2⟩
  refine⟨g,cap,tv,.slice x l c,us,by rw[hul],hbW,⟨?_,hkeepN _ _ (lH hus hFW fun k hk'=>hkk k (by simp[hk'])),htp.keep (fun b hb'=>by rw[hbW.block b (hF b hb')]) (fun _ h=>h),?_,?_,fun k hk'=>?_⟩⟩
  ·rw[hul];exact iH (bA hc.row fun k e=>by cases e;exact hkk g (by simp)) (by omega)
  ·exact iH (bA ho fun k e=>hkk k (by simp[e])) (by omega)
  ·have:=hc.nodup;rw[r8] at this ⊢
   refine⟨fun hm=>this.1 (by simpa [or_comm] using hm),?_⟩
   exact(List.perm_append_comm.nodup_iff).1 this.2
  ·have:=hc.rng k ((hperm k).1 hk');exact⟨by omega,by rw[hsz];exact this.2⟩
theorem YJ(w:World)(time stop:Nat)(fv tv xo:Value)(hs:stop≠0)(hfv:∃x l c,fv=.slice x l c)(htv:∃x l c,tv=.slice x l c)(hxo:∃x l c,xo=.slice x l c):
 Calls prog 163 #[.agg #[.int .i64 time,fv,tv,xo,.int .i64 stop]] w fun e w'=>e=.returned (.tuple #[.agg #[.int .i64 0,.slice none 0 0,.slice none 0 0,.slice none 0 0,.int .i64 0],.bool false])/\Below w.heap.size w w':=by
 obtain⟨x1,l1,c1,rfl⟩:=hfv;obtain⟨x2,l2,c2,rfl⟩:=htv;obtain⟨x3,l3,c3,rfl⟩:=hxo;have e1:¬(stop:Int)=0:=by omega
 go_enter Tryz.func163,Tryz.ntmps163;go_wp2_with fail;refine⟨rfl,.tuple #[.agg #[.int .i64 0,.slice none 0 0,.slice none 0 0,.slice none 0 0,.int .i64 0],.bool false],?_,rfl,((m8 _ w).alloc (l9 _) _).alloc (by simp) _⟩
 simp[results,Tryz.results163,go_sem]
theorem YI(w w2:World)(time:Nat)(fv tv xo:Value)(P:Value->World->Prop)(A:Nat->Nat->Nat->Value->Value->World->Prop)(B:Nat->World->Prop)(ht:time<=1000000)(hfv:∃x l c,fv=.slice x l c)(htv:∃x l c,tv=.slice x l c)(hxo:∃x l c,xo=.slice x l c)
 (hW:(w.alloc (.cells #[.int .i64 time,fv,tv,xo,.int .i64 0] 108)).alloc (.cells #[.int .i64 0,.slice none 0 0,.slice none 0 0,.slice none 0 0,.int .i64 0] 108)=w2)
 (HC:Hid (Calls prog 226 #[.agg #[.int .i64 time,fv,tv,xo,.int .i64 0]] w2 fun e w'=>∃gf n cap tv' xo',e=.returned (.agg #[.int .i64 time,.slice (some ⟨gf,0,none⟩) n cap,tv',xo',.int .i64 0])/\(∃x l c,tv'=.slice x l c)/\(∃x l c,xo'=.slice x l c)/\A gf n cap tv' xo' w'))
 (HG:Hid (∀gf n cap tv' xo' W,A gf n cap tv' xo' W->Calls prog 125 #[.pointer (some ⟨W.heap.size,0,none⟩)] (W.alloc (.cells #[.int .i64 ((time+1:Nat):Int),.slice (some ⟨gf,0,none⟩) n cap,tv',xo',.int .i64 0] 108)) fun e w'=>e=.returned (.tuple #[])/\B W.heap.size w'))
 (HB:Hid (∀b W,B b W->∃(q:Nat) (f t o:Value) (st:Nat),W.heap[b]?=some (.cells #[.int .i64 q,f,t,o,.int .i64 st] 108 (0,0))/\(∃x l c,f=.slice x l c)/\(∃x l c,t=.slice x l c)/\(∃x l c,o=.slice x l c)/\W.heap[w.heap.size+1]?=some (.cells #[.int .i64 0,.slice none 0 0,.slice none 0 0,.slice none 0 0,.int .i64 0] 108 (0,0))/\b≠w.heap.size+1/\
   ∀W',Kept [w.heap.size+1] W W'->W'.heap.size=W.heap.size->P (.agg #[.int .i64 q,f,t,o,.int .i64 st]) W')):
 Calls prog 163 #[.agg #[.int .i64 time,fv,tv,xo,.int .i64 0]] w fun e w'=>∃v',e=.returned (.tuple #[v',.bool true])/\P v' w':=by
 obtain⟨x1,l1,c1,rfl⟩:=hfv;obtain⟨x2,l2,c2,rfl⟩:=htv;obtain⟨x3,l3,c3,rfl⟩:=hxo;have HW:=aB hW;clear hW;go_enter Tryz.func163,Tryz.ntmps163;go_wp2_with fail;rw[HW.out];refine HC.out.mono ?_;rintro e w3 ⟨gf,n,cap,tv',xo',rfl,⟨y2,m2,d2,rfl⟩,⟨y3,m3,d3,rfl⟩,h3⟩;have HGG:=aB (HG.out _ _ _ _ _ _ h3);generalize hb:w3.heap.size=b at HGG;clear h3;rw[show ((time+1:Nat):Int)=(time:Int)+1 by omega] at HGG
 go_wp2_with fail;refine HGG.out.mono ?_;rintro e w4 ⟨rfl,h4⟩;obtain⟨q,f,t,o,st,q1,⟨z1,r1,s1,rfl⟩,⟨z2,r2,s2,rfl⟩,⟨z3,r3,s3,rfl⟩,q2,q3,q4⟩:=HB.out _ _ h4;have HQ:=aB q4;have hc0:w4.cell? ⟨b,0,none⟩=some (.int .i64 q):=aA q1 rfl;have hc1:w4.cell? ⟨b,1,none⟩=some (.slice z1 r1 s1):=aA q1 rfl;have hc2:w4.cell? ⟨b,2,none⟩=some (.slice z2 r2 s2):=aA q1 rfl;have hc3:w4.cell? ⟨b,3,none⟩=some (.slice z3 r3 s3):=aA q1 rfl;have hc4:w4.cell? ⟨b,4,none⟩=some (.int .i64 st):=aA q1 rfl;have hb0:w4.cell? ⟨w.heap.size+1,0,none⟩=some (.int .i64 0):=aA q2 rfl;have hb1:w4.cell? ⟨w.heap.size+1,1,none⟩=some (.slice none 0 0):=aA q2 rfl;have hb2:w4.cell? ⟨w.heap.size+1,2,none⟩=some (.slice none 0 0):=aA q2 rfl;have hb3:w4.cell? ⟨w.heap.size+1,3,none⟩=some (.slice none 0 0):=aA q2 rfl;have hb4:w4.cell? ⟨w.heap.size+1,4,none⟩=some (.int .i64 0):=aA q2 rfl;have hf0:=aE (i:=0) q2;have hf1:=aE (i:=1) q2;have hf2:=aE (i:=2) q2;have hf3:=aE (i:=3) q2;have hf4:=aE (i:=4) q2;have hl1:=aD q1;have hl2:=aD q2;clear h4 q4 q1 q2;go_wp2_with fail;refine⟨rfl,.tuple #[.agg #[.int .i64 q,.slice z1 r1 s1,.slice z2 r2 s2,.slice z3 r3 s3,.int .i64 st],.bool true],?_,_,rfl,HQ.out _ ?_ (by simp)⟩
 ·simp[results,Tryz.results163,go_sem,hb0,hb1,hb2,hb3,hb4]
 ·exact(((((Kept.refl _ _).setCell _ _ (by simp)).setCell _ _ (by simp)).setCell _ _ (by simp)).setCell _ _ (by simp)).setCell _ _ (by simp)
theorem tK{w:World}{base n k:Nat}{t:TypeId}{v:Value}{ys:List Value}(h:w.ownsRow base t k v n ys):∃x l c,v=.slice x l c:=by
 obtain⟨x,c,e⟩:=cV h;exact⟨x,n,c,e⟩
theorem zW.of{w w':World}{own:List Nat}(h:kY w)(hb:Below w.heap.size w w')(ho:∀k∈own,w.heap.size<=k):zW own w':=fun W hW=>by
 cases hg:prog.globalNamed "internal/strconv.uint64pow10" with
 |none=>unfold kY Lib.TabIs World.var? at h;rw[hg] at h;cases h
 |some g=>
  have hgl:g<w.heap.size:=by
   unfold kY Lib.TabIs World.var? at h;rw[hg] at h;simp only[Option.bind_some] at h;rcases ag_ g w.heap.size with h1|h1
   ·exact h1
   ·rw[au_ (by exact h1)] at h
    cases h
  refine h.keep hg ?_;rw[hW.block g (m9 hgl hb.size) (fun hm=>by have:=ho g hm;omega),hb.block g hgl]
theorem nQ.form{fp:Nat->Value}{F:Nat->Prop}{w:World}{v:Value}{s:bW}(h:nQ fp F w v s):∃fv tv xo,v=.agg #[.int .i64 s.time,fv,tv,xo,.int .i64 s.stop]/\(∃x l c,fv=.slice x l c)/\(∃x l c,tv=.slice x l c)/\(∃x l c,xo=.slice x l c):=by
 obtain⟨fv,tv,xo,fvs,rfl,hrow,hfs,htp,hst⟩:=h;refine⟨fv,tv,xo,rfl,?_,?_,?_⟩
 ·rcases hrow with ⟨_,x,c,e⟩|⟨g,c,cur,e,_⟩<;>exact⟨_,_,_,e⟩
 ·rcases htp with ⟨_,x,c,e⟩|⟨g,o,c,e,_⟩<;>exact⟨_,_,_,e⟩
 ·rcases hst with ⟨_,e⟩|⟨g,c,cu,e,_⟩<;>exact⟨_,_,_,e⟩
theorem RH.run{fp:Nat->Value}{F:Nat->Prop}{base:Nat}{w:World}{gf cap:Nat}{tv outv:Value}{fvs:List FVal}{m:cP}(h:RH fp F base w gf cap tv outv fvs m)(hF:∀b,F b->b<base)(hbase:base<=w.heap.size)(t0 s0:Value):
 cT fp F base (w.alloc (.cells #[t0,.slice (some ⟨gf,0,none⟩) fvs.length cap,tv,outv,s0] 108)) w.heap.size gf cap t0 tv outv s0 fvs m/\∀k∈aF w.heap.size gf outv fvs,base<=k:=by
 generalize hW:w.alloc (.cells #[t0,.slice (some ⟨gf,0,none⟩) fvs.length cap,tv,outv,s0] 108)=W;have hb:Below w.heap.size w W:=by rw[<-hW];exact(m8 _ w).alloc (l9 _) _
 have hsz:W.heap.size=w.heap.size+1:=by rw[<-hW];simp
 have hblk:W.heap[w.heap.size]?=some (.cells #[t0,.slice (some ⟨gf,0,none⟩) fvs.length cap,tv,outv,s0] 108 (0,0)):=by rw[<-hW];exact aT _ _ rfl _
 have hFk:∀b,F b->W.heap[b]?=w.heap[b]?:=fun b hb'=>hb.block b (m9 (hF b hb') hbase)
 have hin:∀k∈gf::(outv.ownBlock.toList++aW fvs),W.heap[k]?=w.heap[k]?:=fun k hk=>hb.block k (h.rng k hk).2
 refine⟨⟨hblk,bA h.row fun k e=>by cases e;exact hin gf (by simp),lH h.frs hFk fun k hk=>hin k (by simp[hk]),h.tape.keep hFk (fun _ h=>h),bA h.out fun k e=>hin k (by simp[e]),?_,fun k hk=>?_,fun k hk=>?_⟩,fun k hk=>?_⟩
 ·exact r8.2 ⟨fun hm=>by have:=(h.rng _ hm).2;omega,h.nodup⟩
 ·rcases p8.1 hk with rfl|hk
  ·omega
  ·have:=(h.rng k hk).2;omega
 ·have h1:=hF k hk;refine⟨by omega,fun hm=>?_⟩
  rcases p8.1 hm with rfl|hm
  ·omega
  ·have:=(h.rng k hm).1;omega
 ·rcases p8.1 hk with rfl|hk
  ·exact hbase
  ·exact(h.rng k hk).1
theorem SG{fp:Nat->Value}{F:Nat->Prop}{w:World}{v:Value}{s:bW}{ar:Nat->Option Nat}{tab:List eP}{k:Nat}{r:cP × Nat}(ht:jU ar tab)(htu:jM tab)(h:nQ fp F w v s)(hF:∀b,F b->b<w.heap.size)(hT:kX fp F w tab)(hp:kY w)(hs:s.stop=0)
 (hA:fH ar s.m) (hne:s.m.frames≠[]) (hU:fR s.m) (hol:s.m.out.length<=50) (htl:s.m.tape.length<=1000000000) (hk:dU tab k s.m=some r) (htm:s.time+1<=1000000) (hr:r.2<=1000):
 Calls prog 163 #[v] w fun e w'=>∃v',e=.returned (.tuple #[v',.bool true])/\Below w.heap.size w w'/\∃G,Ext F G w.heap.size/\(∀b,G b->b<w'.heap.size)/\nQ fp G w' v' ⟨s.time+1,r.1,bR (s.time+1) r.2⟩:=by
 obtain⟨fv,tv,xo,rfl,f1,f2,f3⟩:=h.form
 have hops:∀f∈s.m.frames,f.vars.length<=90001/\f.ops.length<=99000:=fun f hf=>by
  have hq:∃more,cG ar f more:=by
   obtain⟨b,g,e⟩:=mQ hne;rw[e] at hf;have hlow:=hA.ok.low;have htop:=hA.ok.top;rw[e,fX] at hlow;rw[e,fC] at htop;rcases o7.1 hf with h1|h1
   ·exact⟨1,hlow f h1⟩
   ·rw[o8.1 h1];exact⟨0,htop g rfl⟩
  obtain⟨more,⟨T,hc,hh,_⟩,hn,_,hv⟩:=hq;have h1:=(hc.ins _ _ (p9 hn)).2.1;have h2:=hc.len;exact⟨hv,by omega⟩
 rw[hs] at h ⊢
 generalize hW2:(w.alloc (.cells #[.int .i64 s.time,fv,tv,xo,.int .i64 (0:Nat)] 108)).alloc (.cells #[.int .i64 0,.slice none 0 0,.slice none 0 0,.slice none 0 0,.int .i64 0] 108)=w2;have hb2:Below w.heap.size w w2:=by rw[<-hW2];exact((m8 _ w).alloc (l9 _) _).alloc (by simp) _
 have hs2:w2.heap.size=w.heap.size+2:=by rw[<-hW2];simp
 have hB2:w2.heap[w.heap.size+1]?=some (.cells #[.int .i64 0,.slice none 0 0,.slice none 0 0,.slice none 0 0,.int .i64 0] 108 (0,0)):=by
  rw[<-hW2];exact aT _ _ (by simp) _
 have hF2:∀b,F b->b<w2.heap.size:=fun b hb=>m9 (hF b hb) hb2.size
 have h2:nQ fp F w2 (.agg #[.int .i64 s.time,fv,tv,xo,.int .i64 (0:Nat)]) s:=by
  have:=h.keep (fun b hb=>hb2.block b (hF b hb)) (fun _ h=>h)
  exact this
 refine(YI w w2 s.time fv tv xo (fun v' w'=>Below w.heap.size w w'/\∃G,Ext F G w.heap.size/\(∀b,G b->b<w'.heap.size)/\nQ fp G w' v' ⟨s.time+1,r.1,bR (s.time+1) r.2⟩)
  (fun gf n cap tv' xo' W=>∃fvs,n=fvs.length/\Below w2.heap.size w2 W/\RH fp F w2.heap.size W gf cap tv' xo' fvs s.m)
  (fun b W=>∃W0 gf cap tv' outv fvs G,(Below w2.heap.size w2 W/\w2.heap.size<=b)/\(w2.heap.size<=W0/\Ext F G W0)/\cT fp G w2.heap.size W b gf cap (.int .i64 ((s.time+1:Nat):Int)) tv' outv (.int .i64 (bR (s.time+1) r.2)) fvs r.1/\∀k∈aF b gf outv fvs,w2.heap.size<=k)
  (by omega) f1 f2 f3 hW2 ?_ (fun gf n cap tv' xo' W hq=>?_) (fun b W hq=>?_))
 ·refine(UY h2 hF2 hne hA.ok.deep hops hol).mono ?_;rintro e w' ⟨v',rfl,gf,cap,tv',outv,fvs,rfl,hbw,hc⟩;rw[hs];refine⟨gf,fvs.length,cap,tv',outv,rfl,?_,tK hc.out,fvs,rfl,hbw,hc⟩;rcases hc.tape with ⟨_,x,c,e⟩|⟨g,o,c,e,_⟩<;>exact⟨_,_,_,e⟩
 ·obtain⟨fvs,rfl,hbw,hc⟩:=hq;obtain⟨hrun,hown⟩:=hc.run hF2 hbw.size (.int .i64 ((s.time+1:Nat):Int)) (.int .i64 0);generalize hW':W.alloc (.cells #[.int .i64 ((s.time+1:Nat):Int),.slice (some ⟨gf,0,none⟩) fvs.length cap,tv',xo',.int .i64 0] 108)=W' at hrun;have hbW:Below W.heap.size W W':=by rw[<-hW'];exact(m8 _ W).alloc (l9 _) _
  have hbw':Below w2.heap.size w2 W':=hbw.trans (hbW.mono hbw.size);have hbw0:Below w.heap.size w W':=hb2.trans (hbw'.mono hb2.size);have hTW:kX fp F W' tab:=hT.keep (fun b hb=>hbw0.block b (hF b hb)) fun _ h=>h
  refine(PE ht htu hrun hTW (zW.of hp hbw0 fun k hk=>p7 hb2.size (hown k hk)) hbw'.size hA hU hol htl hk (by omega) hr).mono ?_
  rintro e w' ⟨he,hd1,G,gf',cap',tv'',outv',fvs',d1,d2,d3⟩
  have hsub:∀x∈aF W.heap.size gf' outv' fvs',w2.heap.size<=x:=fun x hx=>by
   rcases d3 x hx with h1|h1
   ·exact hown x h1
   ·exact p7 hbw'.size h1
  refine⟨he,W'.heap.size,gf',cap',tv'',outv',fvs',G,⟨⟨hd1.os.trans hbw'.os,hd1.tape.trans hbw'.tape,hd1.output.trans hbw'.output,p7 hbw'.size hd1.size,fun k hk'=>?_⟩,hbw.size⟩,⟨hbw'.size,d1⟩,d2,hsub⟩
  rw[hd1.block k (m9 hk' hbw'.size) (fun hm=>by have:=hown k hm;omega),hbw'.block k hk']
 ·obtain⟨W0,gf,cap,tv',outv,fvs,G,⟨g1,g2⟩,⟨g3,g4⟩,g5,g6⟩:=hq;have hblk:=g5.blk;refine⟨_,_,_,_,_,hblk,⟨_,_,_,rfl⟩,?_,tK g5.out,by rw[g1.block _ (by omega)];exact hB2,by omega,fun W' hkp hsz=>?_⟩
  ·rcases g5.tape with ⟨_,x,c,e⟩|⟨g,o,c,e,_⟩<;>exact⟨_,_,_,e⟩
  ·have hb0:Below w.heap.size w W:=hb2.trans (g1.mono hb2.size);have hS:=g5.kept (G:=fun k=>G k\/(k∈aF b gf outv fvs/\k≠b)) (fun _ h=>Or.inl h) (fun k hk' hn=>Or.inr ⟨hk',hn⟩)
   have hne1:∀k,(G k\/(k∈aF b gf outv fvs/\k≠b))->k≠w.heap.size+1/\k<W.heap.size:=fun k hk'=>by
    rcases hk' with h1|⟨h1,_⟩
    ·refine⟨?_,(g5.apart k h1).1⟩;rcases g4.new k h1 with h3|h3
     ·have:=hF k h3;omega
     ·omega
    ·have:=g6 k h1;exact⟨by omega,g5.lt k h1⟩
   refine⟨⟨hkp.os.trans hb0.os,hkp.tape.trans hb0.tape,hkp.output.trans hb0.output,by rw[hsz];exact hb0.size,fun k hk'=>?_⟩,fun k=>G k\/(k∈aF b gf outv fvs/\k≠b),⟨fun k hk'=>Or.inl (g4.sub k hk'),fun k hk'=>?_⟩,fun k hk'=>by rw[hsz];exact(hne1 k hk').2,hS.keep (fun k hk'=>hkp.block k (hne1 k hk').2 (by simpa using (hne1 k hk').1)) fun _ h=>h⟩
   ·rw[hkp.block k (m9 hk' hb0.size) (by simp;omega),hb0.block k hk']
   ·rcases hk' with h1|⟨h1,_⟩
    ·rcases g4.new k h1 with h3|h3
     ·exact Or.inl h3
     ·exact Or.inr (by omega)
    ·exact Or.inr (by have:=g6 k h1;omega)
end Go.Proofs.YtblbkfdhjfppkaaGreatDoor
