/- Contracts of the program: the moment is told: the walks. -/
import Derived.Test.YtblbkfdhjfppkaaGreatDoorB09
import Derived.Test.YtblbkfdhjfppkaaGreatDoorP19
set_option maxRecDepth 100000
set_option maxHeartbeats 4000000
namespace Go.Proofs.YtblbkfdhjfppkaaGreatDoor
open Hs
open Go.RowKit
theorem JS{W:World}{b:Nat}{s:SV}{T:TypeId}(h:W.heap[b]?=some (.cells s.cells T (0,0))):W.cell? ⟨b,0,none⟩=some (.int .i64 s.t)∧W.cell? ⟨b,1,none⟩=some (.slice s.x1 s.n1 s.c1)∧W.cell? ⟨b,2,none⟩=some (.slice s.x2 s.n2 s.c2)∧W.cell? ⟨b,3,none⟩=some (.slice s.x3 s.n3 s.c3)∧W.cell? ⟨b,4,none⟩=some (.int .i64 s.q):=
 ⟨aA h rfl,aA h rfl,aA h rfl,aA h rfl,aA h rfl⟩
theorem MF(w:World)(s:SV)(P A3:SV→World→Prop)(A1:Option Addr→Nat→Nat→World→Prop)(A2:Option Addr→Nat→Nat→Option Addr→Nat→Nat→World→Prop)
 (HS:Hid (∀W,aW ((w.alloc (.cells s.cells 108)).alloc (.cells #[.int .i64 0,.slice none 0 0,.slice none 0 0,.slice none 0 0,.int .i64 0] 63)) W→Calls Tryz.prog 107 #[s.val] W fun e w'=>∃x n c,e=.returned (.slice x n c)∧A1 x n c w'))
 (HV:Hid (∀x n c W,A1 x n c W→W.heap[w.heap.size]?=some (.cells s.cells 108 (0,0))∧Calls Tryz.prog 108 #[s.val] W fun e w'=>∃x2 n2 c2,e=.returned (.slice x2 n2 c2)∧A2 x n c x2 n2 c2 w'))
 (HC:Hid (∀x n c x2 n2 c2 W,A2 x n c x2 n2 c2 W→W.heap[w.heap.size]?=some (.cells s.cells 108 (0,0))∧Calls Tryz.prog 109 #[.slice s.x3 s.n3 s.c3] W fun e w'=>∃x3 n3 c3,e=.returned (.slice x3 n3 c3)∧A3 ⟨s.t,x,x2,x3,n,n2,n3,c,c2,c3,s.q⟩ w'))
 (HP:Hid (∀m W,A3 m W→W.heap[w.heap.size]?=some (.cells s.cells 108 (0,0))∧(∃c,W.heap[w.heap.size+1]?=some (.cells c 63 (0,0))∧c.size=5)∧P m (eT W (w.heap.size+1) m))):
 Calls Tryz.prog 60 #[s.val] w fun e w'=>∃m:SV,e=.returned m.val∧P m w':=by
 unfold SV.val SV.cells at HS;have HV':=HV;unfold SV.val at HV';unfold SV.val;go_enter Tryz.func60,Tryz.ntmps60;go_wp2_with fail;have HH:=aB (aW.drew ((w.alloc (.cells #[.int .i64 s.t,.slice s.x1 s.n1 s.c1,.slice s.x2 s.n2 s.c2,.slice s.x3 s.n3 s.c3,.int .i64 s.q] 108)).alloc (.cells #[.int .i64 0,.slice none 0 0,.slice none 0 0,.slice none 0 0,.int .i64 0] 63)));have hb0:((w.alloc (.cells #[.int .i64 s.t,.slice s.x1 s.n1 s.c1,.slice s.x2 s.n2 s.c2,.slice s.x3 s.n3 s.c3,.int .i64 s.q] 108)).alloc (.cells #[.int .i64 0,.slice none 0 0,.slice none 0 0,.slice none 0 0,.int .i64 0] 63)).drew.heap[w.heap.size]?=some (.cells (SV.cells s) 108 (0,0)):=(Below.heap_alloc _ _ _ (by simp)).trans (aR _ _ rfl _)
 have c2:=JS hb0;clear hb0;refine wp_region_held_drew (S:=fun W=>W.cell? ⟨w.heap.size,0,none⟩=some (.int .i64 s.t)∧W.cell? ⟨w.heap.size,1,none⟩=some (.slice s.x1 s.n1 s.c1)∧W.cell? ⟨w.heap.size,2,none⟩=some (.slice s.x2 s.n2 s.c2)∧W.cell? ⟨w.heap.size,3,none⟩=some (.slice s.x3 s.n3 s.c3)∧W.cell? ⟨w.heap.size,4,none⟩=some (.int .i64 s.q)) (by kernel_rfl) c2 (fun hHeld=>?_)
 clear c2;(refine wpAnyH_take (i:=0) (v:=?_) rfl (by kernel_rfl) (by kernel_rfl) (by kernel_rfl) (fun _ _ _ h=>h) (Or.inl ⟨by rfl,?_⟩) hHeld ?_;rotate_left;(rintro w ⟨q0,q1,q2,q3,q4⟩;go_simp<;>with_reducible rfl))
 (refine wpAnyH_take (i:=1) (v:=?_) rfl (by kernel_rfl) (by kernel_rfl) (by kernel_rfl) (fun _ _ _ h=>h) (Or.inl ⟨by rfl,?_⟩) hHeld ?_;rotate_left;(rintro w ⟨q0,q1,q2,q3,q4⟩;go_simp<;>with_reducible rfl))
 (refine wpAnyH_take (i:=2) (v:=?_) rfl (by kernel_rfl) (by kernel_rfl) (by kernel_rfl) (fun _ _ _ h=>h) (Or.inl ⟨by rfl,?_⟩) hHeld ?_;rotate_left;(rintro w ⟨q0,q1,q2,q3,q4⟩;go_simp<;>with_reducible rfl))
 (refine wpAnyH_take (i:=4) (v:=?_) rfl (by kernel_rfl) (by kernel_rfl) (by kernel_rfl) (fun _ _ _ h=>h) (Or.inl ⟨by rfl,?_⟩) hHeld ?_;rotate_left;(rintro w ⟨q0,q1,q2,q3,q4⟩;go_simp<;>with_reducible rfl))
 (refine wpAnyH_take (i:=6) (v:=?_) rfl (by kernel_rfl) (by kernel_rfl) (by kernel_rfl) (fun _ _ _ h=>h) (Or.inl ⟨by rfl,?_⟩) hHeld ?_;rotate_left;(rintro w ⟨q0,q1,q2,q3,q4⟩;go_simp<;>with_reducible rfl))
 (refine wpAnyH_take (i:=7) (v:=?_) rfl (by kernel_rfl) (by kernel_rfl) (by kernel_rfl) (fun _ _ _ h=>h) (Or.inl ⟨by rfl,?_⟩) hHeld ?_;rotate_left;(rintro w ⟨q0,q1,q2,q3,q4⟩;go_simp<;>with_reducible rfl))
 (refine wpAnyH_take (i:=9) (v:=?_) rfl (by kernel_rfl) (by kernel_rfl) (by kernel_rfl) (fun _ _ _ h=>h) (Or.inl ⟨by rfl,?_⟩) hHeld ?_;rotate_left;(rintro w ⟨q0,q1,q2,q3,q4⟩;go_simp<;>with_reducible rfl))
 (refine wpAnyH_take (i:=10) (v:=?_) rfl (by kernel_rfl) (by kernel_rfl) (by kernel_rfl) (fun _ _ _ h=>h) (Or.inl ⟨by rfl,?_⟩) hHeld ?_;rotate_left;(rintro w ⟨q0,q1,q2,q3,q4⟩;go_simp<;>with_reducible rfl))
 refine wpAnyH_ready (rs:=[3]) (by kernel_rfl) (by simp) ?_
 refine AllReadyH.cons rfl (fun K hK=>?_) AllReadyH.nil
 go_simp;go_at_call 107
 refine(HS.out _ HH.out).mono ?_;rintro e w3 ⟨x1,n1,c1,rfl,h3⟩;obtain⟨hb3,hv3⟩:=HV'.out _ _ _ _ h3;have HV3:=aB hv3;have cw3:=JS hb3;clear h3 hb3 hv3 HS HV HV' HH;go_wp2_with fail;refine hK.out _ _ cw3 (fun hHeld=>?_)
 clear hK K cw3;refine wpAnyH_ready (rs:=[5]) (by kernel_rfl) (by simp) ?_
 refine AllReadyH.cons rfl (fun K hK=>?_) AllReadyH.nil
 go_simp;go_at_call 108
 refine HV3.out.mono ?_;rintro e w4 ⟨x2,n2,c2,rfl,h4⟩;obtain⟨hb4,hv4⟩:=HC.out _ _ _ _ _ _ _ h4;have HC4:=aB hv4;have cw4:=JS hb4;clear h4 hb4 hv4 HC HV3;go_wp2_with fail;refine hK.out _ _ cw4 (fun hHeld=>?_)
 clear hK K cw4;refine wpAnyH_ready (rs:=[8]) (by kernel_rfl) (by simp) ?_
 refine AllReadyH.cons rfl (fun K hK=>?_) AllReadyH.nil
 go_simp;go_at_call 109
 refine HC4.out.mono ?_;rintro e w5 ⟨x3,n3,c3,rfl,h5⟩;obtain⟨hb5,⟨c,hm5,hc5⟩,hp5⟩:=HP.out _ _ h5;have cw5:=JS hb5;have HP5:=aB hp5;have HM5:=aB hm5;clear h5 hb5 hp5 HP HC4;go_wp2_with fail;refine hK.out _ _ cw5 (fun hHeld=>?_)
 clear hK K;(refine wpAnyH_take (i:=11) (v:=?_) rfl (by kernel_rfl) (by kernel_rfl) (by kernel_rfl) (fun _ _ _ h=>h) (Or.inl ⟨by rfl,?_⟩) hHeld ?_;rotate_left;(rintro w ⟨q0,q1,q2,q3,q4⟩;go_simp<;>with_reducible rfl))
 refine wpAnyH_ready (rs:=[12]) (by kernel_rfl) (by simp) ?_
 refine AllReadyH.cons rfl (fun K hK=>?_) AllReadyH.nil
 have g0:=aA (i:=0) HM5.out (Array.getElem?_eq_getElem (by omega))
 have g1:=aA (i:=1) HM5.out (Array.getElem?_eq_getElem (by omega))
 have g2:=aA (i:=2) HM5.out (Array.getElem?_eq_getElem (by omega))
 have g3:=aA (i:=3) HM5.out (Array.getElem?_eq_getElem (by omega))
 have g4:=aA (i:=4) HM5.out (Array.getElem?_eq_getElem (by omega))
 have f0:=aE (i:=0) HM5.out;have f1:=aE (i:=1) HM5.out;have f2:=aE (i:=2) HM5.out;have f3:=aE (i:=3) HM5.out;have f4:=aE (i:=4) HM5.out;have l5:=aD HM5.out;have hs:=nP (W:=w5) (s:=⟨s.t,x1,x2,x3,n1,n2,n3,c1,c2,c3,s.q⟩) HM5.out (by omega) rfl
 have hk5:∀i,(eT w5 (w.heap.size+1) ⟨s.t,x1,x2,x3,n1,n2,n3,c1,c2,c3,s.q⟩).cell? ⟨w.heap.size,i,none⟩=w5.cell? ⟨w.heap.size,i,none⟩:=fun i=>World.cell?_of_block (dR _ _ _ _ (show w.heap.size≠w.heap.size+1 by omega))
 have HC5:=aB hs;have HK5:=aB hk5;clear hm5 hs hk5;unfold eT at HC5 HP5 HK5;go_simp;refine hK.out _ _ ⟨(HK5.out 0).trans cw5.1,(HK5.out 1).trans cw5.2.1,(HK5.out 2).trans cw5.2.2.1,(HK5.out 3).trans cw5.2.2.2.1,(HK5.out 4).trans cw5.2.2.2.2⟩ (fun hHeld=>?_)
 refine wpAnyH_done (by kernel_rfl) ?_ _
 have HC5':=HC5.out;have HP5':=HP5.out;clear HC5 HP5 HM5 HK5 g0 g1 g2 g3 g4 f0 f1 f2 f3 f4 hHeld hK cw5;generalize ((((w5.setCell ⟨w.heap.size+1,0,none⟩ (.int .i64 s.t)).setCell ⟨w.heap.size+1,1,none⟩ (.slice x1 n1 c1)).setCell ⟨w.heap.size+1,2,none⟩ (.slice x2 n2 c2)).setCell ⟨w.heap.size+1,3,none⟩ (.slice x3 n3 c3)).setCell ⟨w.heap.size+1,4,none⟩ (.int .i64 s.q)=W6 at HC5' HP5' ⊢
 obtain⟨r0,r1,r2,r3,r4⟩:=HC5';have HPP:=aB HP5';clear HP5';go_wp2_with fail;exact bodyPost_ret (v:=.agg #[.int .i64 s.t,.slice x1 n1 c1,.slice x2 n2 c2,.slice x3 n3 c3,.int .i64 s.q]) (by simp[results,Tryz.results60,go_sem,r0,r1,r2,r3,r4]) rfl ⟨_,rfl,HPP.out⟩
theorem OG:∀(n:Nat) (l:List UInt8),l.length≤n→∀c∈dO l,c.length≤l.length:=by
 intro n;induction n with
 |zero=>
  intro l hl c hc;rw[dL (Or.inl (List.length_eq_zero_iff.1 (by omega)))] at hc
  cases hc
 |succ n ih=>
  intro l hl c hc;by_cases h1:l=[]
  ·rw[dL (Or.inl h1)] at hc;cases hc
  by_cases h2:bD l=0
  ·rw[dL (Or.inr h2)] at hc;cases hc
  rw[gP h1 h2] at hc;rcases List.mem_cons.1 hc with rfl|hc
  ·rw[List.length_take];omega
  ·have:=ih _ (by rw[List.length_drop];omega) c hc
   rw[List.length_drop] at this;omega
theorem MR(a b:aI)(h:aJ a≤200):aJ (cV a b).1≤200:=by
 unfold cV;split
 ·exact iN
 split
 ·exact iN
 have hp:∀x∈iP a,aJ x≤200:=fun x hx=>by
  unfold iP at hx;rw[eN] at h;split at hx
  ·obtain⟨c,hc,rfl⟩:=List.mem_map.1 hx;have:=OG _ _ (Nat.le_refl _) c hc;rw[jX];omega
  ·have:=kU hx;omega
 show aJ ((iP a).getD b.n.toNat bK)≤200
 rw[List.getD_eq_getElem?_getD];cases hk:(iP a)[b.n.toNat]? with
 |none=>exact iN
 |some x=>exact hp x (List.mem_of_getElem? hk)
theorem IQ(a:aI):aJ (dT a).1≤200:=by
 unfold dT;repeat' split
 all_goals first|(show aJ (bB _)≤200;rw[jL];omega)|exact iN
section
variable {fp:Nat→Value} {F:Nat→Prop} {base:Nat} {w:World} {sb gf cap:Nat} {t0 tv outv s0:Value} {fvs:List FVal} {below:List aK} {f:aK} {tape:List Int} {out:List (List UInt8)}
theorem C7(h:cO fp F base w sb gf cap t0 tv outv s0 fvs ⟨below++[f],tape,out⟩)(hbel:below.length≤15)(hbase:base≤w.heap.size)(hops:f.ops.length≤99000)(hne:∃vs a b,f.ops=vs++[a,b]∧bM a):
 Calls Tryz.prog 380 #[.agg #[],.pointer (some ⟨sb,0,none⟩)] w (mZ fp F base sb t0 s0 (aF sb gf outv fvs) w below tape out (aN .index f)):=by
 obtain⟨vs,a,b,hf,hut⟩:=hne;have hf:f.ops=(vs++[a])++[b]:=by rw[hf];simp
 have hM:=h.mid hbase (.cells #[] 405);have hf2:f.pop.ops=vs++[a]:=lK hf;have hlen:=hops;rw[hf,List.length_append,List.length_append] at hlen;have hl1:f.pop.ops.length≤100000:=by rw[hf2,List.length_append];omega
 have hl2:f.pop.pop.ops.length≤100000:=by rw[lK hf2];omega
 have hr:aN .index f=if (cV a b).2=0 then (f.pop.pop.push (cV a b).1,0) else (f.pop.pop,(cV a b).2):=by simp[aN,iF hf,iF hf2]
 have hcl:aJ a≤200→aJ (cV a b).1≤200:=MR a b;have hbi:∀(W:World) (u v:Value),PV F W u a→PV F W v b→(∀k,F k→k<W.heap.size)→aJ a≤200→aJ b≤200→Calls Tryz.prog 381 #[u,v] W (eH F W (cV a b)):=fun W u v h1 h2 h3 h4 h5=>J3 F u v a b W h1 h2 hut (by omega) h3
 generalize cV a b=r at hbi hr hcl;rw[hr]
 refine(IV w _ sb gf (below.length*6) r.2 (fun w'=>r.2=0∧Done fp F base sb t0 s0 (aF sb gf outv fvs) w ⟨below++[f.pop.pop.push r.1],tape,out⟩ w') (fun w'=>r.2≠0∧Done fp F base sb t0 s0 (aF sb gf outv fvs) w ⟨below++[f.pop.pop],tape,out⟩ w')
  (fun t z W=>PV F W (.iface t z) b∧aJ b≤200∧Mid fp base sb gf below.length t0 s0 (aF sb gf outv fvs) (w.alloc (.cells #[] 405)) F ⟨below++[f.pop],tape,out⟩ W)
  (fun t z t' z' W=>PV F W (.iface t z) b∧aJ b≤200∧PV F W (.iface t' z') a∧aJ a≤200∧Mid fp base sb gf below.length t0 s0 (aF sb gf outv fvs) (w.alloc (.cells #[] 405)) F ⟨below++[f.pop.pop],tape,out⟩ W)
  (fun t z W=>(r.2=0∧aJ r.1≤200)∧∃G,Ext F G w.heap.size∧PV G W (.iface t z) r.1∧Mid fp base sb gf below.length t0 s0 (aF sb gf outv fvs) (w.alloc (.cells #[] 405)) G ⟨below++[f.pop.pop],tape,out⟩ W) rfl (hM.topS hbel) (fun W hS=>?_) (fun W t z hq=>?_) (fun W t z t' z' hq=>?_) (fun W t z hq=>?_)).mono ?_
 ·refine((hM.same hS).pop hf (by omega)).mono ?_
  rintro e w' ⟨t,z,he,h1,h2,h3⟩;exact⟨t,z,he,h1,h2,h3⟩
 ·obtain⟨h1,h2,h3⟩:=hq;refine(h3.popK hf2 hl1).mono ?_;rintro e w' ⟨t',z',he,k1,k2,k3,k4⟩;exact⟨t',z',he,h1.keep k4,h2,k1,k2,k3⟩
 ·obtain⟨h1,h2,h3,h4,h5⟩:=hq;refine(hbi W _ _ h3 h1 (fun k hk=>(h5.apart k hk).1) h4 h2).mono ?_
  rintro e w' ⟨hb,⟨hz,u,rfl,hu⟩|⟨hz,rfl⟩⟩
  ·obtain⟨t1,z1,rfl⟩:=hu.form;exact Or.inl ⟨t1,z1,rfl,⟨hz,hcl h4⟩,Grow F W w',⟨fun _=>Or.inl,fun k hk=>hk.imp_right fun h1=>Nat.le_trans (Nat.le_trans (by simp) h5.1.size) h1.1⟩,hu,h5.grow hb (fun _=>Or.inl) fun _ h=>h⟩
  ·exact Or.inr ⟨rfl,hz,(h5.grow hb (fun _ h=>h) fun _=>Or.inl).done (Ext.refl _ _)⟩
 ·obtain⟨⟨hz,hcr⟩,G,hG,h1,h2⟩:=hq;refine(h2.push h1 hcr hl2).mono ?_;rintro e w' ⟨he,h4⟩;exact⟨he,hz,h4.done hG⟩
 ·rintro e w' (⟨rfl,h1,h2⟩|⟨rfl,h1,h2⟩)
  ·exact mZ.ok (if_pos h1) h2
  ·exact mZ.stop (if_neg h1) h1 h2
theorem WV(h:cO fp F base w sb gf cap t0 tv outv s0 fvs ⟨below++[f],tape,out⟩)(hbel:below.length≤15)(hbase:base≤w.heap.size)(hops:f.ops.length≤99000)(hne:∃vs a,f.ops=vs++[a]∧bM a):
 Calls Tryz.prog 398 #[.agg #[],.pointer (some ⟨sb,0,none⟩)] w (mZ fp F base sb t0 s0 (aF sb gf outv fvs) w below tape out (aN .length f)):=by
 obtain⟨vs,a,hf,hut⟩:=hne;have hM:=h.mid hbase (.cells #[] 439);have hl:f.pop.ops.length≤100000:=by rw[lK hf];rw[hf,List.length_append] at hops;omega
 have hr:aN .length f=if (dT a).2=0 then (f.pop.push (dT a).1,0) else (f.pop,(dT a).2):=by simp[aN,iF hf]
 have hcl:=IQ a;have hbi:∀(W:World) (u:Value),PV F W u a→aJ a≤200→Calls Tryz.prog 399 #[u] W (eH F W (dT a)):=fun W u h1 h4=>ZU F u a W h1 hut (by omega)
 generalize dT a=r at hbi hr hcl;rw[hr]
 refine(DJ w _ sb gf (below.length*6) r.2 (fun w'=>r.2=0∧Done fp F base sb t0 s0 (aF sb gf outv fvs) w ⟨below++[f.pop.push r.1],tape,out⟩ w') (fun w'=>r.2≠0∧Done fp F base sb t0 s0 (aF sb gf outv fvs) w ⟨below++[f.pop],tape,out⟩ w')
  (fun t z W=>PV F W (.iface t z) a∧aJ a≤200∧Mid fp base sb gf below.length t0 s0 (aF sb gf outv fvs) (w.alloc (.cells #[] 439)) F ⟨below++[f.pop],tape,out⟩ W)
  (fun t z W=>r.2=0∧∃G,Ext F G w.heap.size∧PV G W (.iface t z) r.1∧Mid fp base sb gf below.length t0 s0 (aF sb gf outv fvs) (w.alloc (.cells #[] 439)) G ⟨below++[f.pop],tape,out⟩ W) rfl (hM.topS hbel) (fun W hS=>?_) (fun W t z hq=>?_) (fun W t z hq=>?_)).mono ?_
 ·refine((hM.same hS).pop hf (by omega)).mono ?_
  rintro e w' ⟨t,z,he,h1,h2,h3⟩;exact⟨t,z,he,h1,h2,h3⟩
 ·obtain⟨h1,h2,h5⟩:=hq;refine(hbi W _ h1 h2).mono ?_;rintro e w' ⟨hb,⟨hz,u,rfl,hu⟩|⟨hz,rfl⟩⟩
  ·obtain⟨t1,z1,rfl⟩:=hu.form;exact Or.inl ⟨t1,z1,rfl,hz,Grow F W w',⟨fun _=>Or.inl,fun k hk=>hk.imp_right fun h1=>Nat.le_trans (Nat.le_trans (by simp) h5.1.size) h1.1⟩,hu,h5.grow hb (fun _=>Or.inl) fun _ h=>h⟩
  ·exact Or.inr ⟨rfl,hz,(h5.grow hb (fun _ h=>h) fun _=>Or.inl).done (Ext.refl _ _)⟩
 ·obtain⟨hz,G,hG,h1,h2⟩:=hq;refine(h2.push h1 hcl hl).mono ?_;rintro e w' ⟨he,h4⟩;exact⟨he,hz,h4.done hG⟩
 ·rintro e w' (⟨rfl,h1,h2⟩|⟨rfl,h1,h2⟩)
  ·exact mZ.ok (if_pos h1) h2
  ·exact mZ.stop (if_neg h1) h1 h2
end
def Disp(t:TypeId)(f:Nat):Prop:=(∀recv w,(Go.method 616 t recv "hindsight/machine.do").run Tryz.prog w=.ok (f,recv) w)∧∀a b w,(callFunc f #[a,b]).run Tryz.prog w=.ok (.enter f #[a,b]) w
def eY(t:TypeId):Prop:=∀v w,(Instr.typeAssert (.iface t v) 355 365 true).run Tryz.prog w=.ok (.tuple #[.agg #[.int .i64 0,.pointer none],.bool false]) w
theorem C2(v:Value)(w:World):(Instr.typeAssert (.iface 365 v) 355 365 true).run Tryz.prog w=.ok (.tuple #[v,.bool true]) w:=by kernel_rfl
theorem SG:Disp 365 373:=⟨fun _ _=>by kernel_rfl,fun _ _ _=>by kernel_rfl⟩
theorem XP:Disp 361 370:=⟨fun _ _=>by kernel_rfl,fun _ _ _=>by kernel_rfl⟩
theorem XQ:Disp 402 374:=⟨fun _ _=>by kernel_rfl,fun _ _ _=>by kernel_rfl⟩
theorem JL:Disp 443 403:=⟨fun _ _=>by kernel_rfl,fun _ _ _=>by kernel_rfl⟩
theorem NW:Disp 445 404:=⟨fun _ _=>by kernel_rfl,fun _ _ _=>by kernel_rfl⟩
theorem XS:Disp 462 412:=⟨fun _ _=>by kernel_rfl,fun _ _ _=>by kernel_rfl⟩
theorem NT:Disp 461 411:=⟨fun _ _=>by kernel_rfl,fun _ _ _=>by kernel_rfl⟩
theorem DU:Disp 438 397:=⟨fun _ _=>by kernel_rfl,fun _ _ _=>by kernel_rfl⟩
theorem SE:Disp 436 396:=⟨fun _ _=>by kernel_rfl,fun _ _ _=>by kernel_rfl⟩
theorem SD:Disp 407 383:=⟨fun _ _=>by kernel_rfl,fun _ _ _=>by kernel_rfl⟩
theorem NV:Disp 435 387:=⟨fun _ _=>by kernel_rfl,fun _ _ _=>by kernel_rfl⟩
theorem SF:Disp 405 380:=⟨fun _ _=>by kernel_rfl,fun _ _ _=>by kernel_rfl⟩
theorem XR:Disp 404 375:=⟨fun _ _=>by kernel_rfl,fun _ _ _=>by kernel_rfl⟩
theorem NU:Disp 439 398:=⟨fun _ _=>by kernel_rfl,fun _ _ _=>by kernel_rfl⟩
theorem XO:Disp 440 401:=⟨fun _ _=>by kernel_rfl,fun _ _ _=>by kernel_rfl⟩
theorem XV:Disp 442 402:=⟨fun _ _=>by kernel_rfl,fun _ _ _=>by kernel_rfl⟩
theorem XT:Disp 363 372:=⟨fun _ _=>by kernel_rfl,fun _ _ _=>by kernel_rfl⟩
theorem XU:Disp 449 410:=⟨fun _ _=>by kernel_rfl,fun _ _ _=>by kernel_rfl⟩
theorem DV:Disp 448 408:=⟨fun _ _=>by kernel_rfl,fun _ _ _=>by kernel_rfl⟩
theorem J8:eY 361:=fun _ _=>by kernel_rfl
theorem J9:eY 402:=fun _ _=>by kernel_rfl
theorem QT:eY 443:=fun _ _=>by kernel_rfl
theorem WJ:eY 445:=fun _ _=>by kernel_rfl
theorem K2:eY 462:=fun _ _=>by kernel_rfl
theorem WG:eY 461:=fun _ _=>by kernel_rfl
theorem MD:eY 438:=fun _ _=>by kernel_rfl
theorem B3:eY 436:=fun _ _=>by kernel_rfl
theorem B2:eY 407:=fun _ _=>by kernel_rfl
theorem WI:eY 435:=fun _ _=>by kernel_rfl
theorem B4:eY 405:=fun _ _=>by kernel_rfl
theorem K1:eY 404:=fun _ _=>by kernel_rfl
theorem WH:eY 439:=fun _ _=>by kernel_rfl
theorem J7:eY 440:=fun _ _=>by kernel_rfl
theorem K5:eY 442:=fun _ _=>by kernel_rfl
theorem K3:eY 363:=fun _ _=>by kernel_rfl
theorem K4:eY 449:=fun _ _=>by kernel_rfl
theorem ME:eY 448:=fun _ _=>by kernel_rfl
def P0(t:TypeId)(z:Value)(b:Bool):Prop:=(t=365∧(∃l p,z=.agg #[.int .i64 l,.pointer p])∧b=true)∨(eY t∧b=false)
theorem ZB(w:World)(sb:Nat)(L:Nat→World→Prop)(P:World→Prop)(S:Nat→World→Prop)(M:Nat→Nat→Nat→World→Prop)(N:Nat→TypeId→Value→Nat→Bool→World→Prop)(K0:Nat)(h0:L K0 w)
 (HL:Hid (∀k W,L k W→∃x n c,W.cell? ⟨sb,1,none⟩=some (.slice x n c)∧sb<W.heap.size∧n≤16∧(n=0→S 1 W)∧(n≠0→∃j,k=j+1∧∃fa fj,M j fa fj W)))
 (HM:Hid (∀j fa fj W,M j fa fj W→Calls Tryz.prog 158 #[.pointer (some ⟨sb,0,none⟩)] W fun e w'=>e=.returned (.pointer (some ⟨fa,fj,none⟩))∧M j fa fj w'))
 (HF:Hid (∀j fa fj W,M j fa fj W→Calls Tryz.prog 235 #[.pointer (some ⟨fa,fj,none⟩)] W fun e w'=>∃t z fno b,e=.returned (.iface t z)∧Disp t fno∧P0 t z b∧N j t z fno b w'))
 (HN:Hid (∀j t z fno b W,N j t z fno b W→Calls Tryz.prog fno #[z,.pointer (some ⟨sb,0,none⟩)] W fun e w'=>(e=.returned (.tuple #[])∧(b=true→∀ob,P (w'.alloc ob))∧(b=false→∀ob,L j (w'.alloc ob)))∨(∃q,e=fE q∧S q w'))):
 Calls Tryz.prog 175 #[.pointer (some ⟨sb,0,none⟩)] w fun e w'=>(e=.returned (.tuple #[])∧P w')∨(∃q,e=fE q∧S q w'):=by
 have H0:=aB h0;clear h0;go_enter Tryz.func175,Tryz.ntmps175;go_wp2_with fail;go_loopg [2,3,4] K0 (fun gk _ _ _ wr=>L gk wr)
 case atStart=>exact H0.out
 case round=>
  obtain⟨x,n,c,c1,hl,hn,hz,hs⟩:=HL.out _ _ hrel;by_cases h0:n=0
  ·subst h0;have HZ:=aB (hz rfl);clear hrel hz hs;go_wp2_with fail;exact⟨rfl,Or.inr ⟨1,rfl,HZ.out⟩⟩
  ·obtain⟨j,rfl,fa,fj,hm⟩:=hs h0;have HMM:=aB (HM.out _ _ _ _ hm);have hpos:(0:Int)<(n:Int):=by omega
   clear hrel hz hs hm;go_wp2_with fail;refine HMM.out.mono ?_;rintro e w1 ⟨rfl,h1⟩;have HFF:=aB (HF.out _ _ _ _ h1);clear h1;go_wp2_with fail;refine HFF.out.mono ?_;rintro e w2 ⟨t,z,fno,b,rfl,hd,hb,h2⟩;have HNN:=aB (HN.out _ _ _ _ _ _ h2);have hd1:=hd.1 z w2;have hd2:=hd.2 z (.pointer (some ⟨sb,0,none⟩)) w2;clear h2 hd;go_wp2_with fail;refine HNN.out.mono ?_;rintro e w3 (⟨rfl,h3,h4⟩|⟨q,rfl,h3⟩)
   ·rcases hb with ⟨rfl,⟨l,p,rfl⟩,rfl⟩|⟨hnb,rfl⟩
    ·have hib:=C2 (.agg #[.int .i64 l,.pointer p]) w3;have HP:=aB (h3 rfl);clear h3 h4 hd1 hd2;go_wp2_with fail;exact⟨rfl,_,results_none (by rfl) _ _ _,Or.inl ⟨rfl,HP.out _⟩⟩
    ·have hib:=hnb z w3;have HP:=aB (h4 rfl);clear h3 h4 hd1 hd2 hnb;go_wp2_with fail;go_roundg j
     case measure=>omega
     case rel=>exact HP.out _
   ·go_wp2_with fail;exact⟨rfl,Or.inr ⟨q,rfl,h3⟩⟩
theorem mU{α:Type}{l:List α}(h:1≤l.length):∃vs a,l=vs++[a]:=by
 rcases List.eq_nil_or_concat l with e|⟨b,x,e⟩
 ·subst e;simp at h
 ·exact⟨b,x,by rw[e,List.concat_eq_append]⟩
theorem GU{α:Type}{l:List α}{n:Nat}(h:n≤l.length):∃vs us,l=vs++us∧us.length=n:=
 ⟨l.take (l.length-n),l.drop (l.length-n),(List.take_append_drop _ _).symm,by simp;omega⟩
theorem ZL{α:Type}{l:List α}(h:2≤l.length):∃vs a b,l=vs++[a,b]:=by
 obtain⟨vs,us,e,hu⟩:=GU h;match us,hu with
 |[a,b],_=>exact⟨vs,a,b,e⟩
section
variable {fp:Nat→Value} {F:Nat→Prop} {base:Nat} {w:World} {sb gf cap:Nat} {t0 tv outv s0:Value} {fvs:List FVal} {below:List aK} {f0 f:aK} {tape:List Int} {out:List (List UInt8)}
theorem P6{ar:Nat→Option Nat}{tab:List eJ}{i:aH}{v:Value}(ht:jF ar tab)(hA:fC ar ⟨below++[f0],tape,out⟩)(hfe:f0.fetch=some (i,f))(hU:fL ⟨below++[f0],tape,out⟩)
 (h:cO fp F base w sb gf cap t0 tv outv s0 fvs ⟨below++[f],tape,out⟩) (hT:kH fp F w tab) (hp:yG (aF sb gf outv fvs) w) (hbase:base≤w.heap.size) (hol:out.length≤50) (htl:tape.length≤1000000000) (hI:kL fp F w v i):
 ∃t z fno b,v=.iface t z∧Disp t fno∧P0 t z b∧b=i.isBegin∧Calls Tryz.prog fno #[z,.pointer (some ⟨sb,0,none⟩)] w (R6 fp F base sb t0 s0 (aF sb gf outv fvs) w (cC tab i below f tape out)):=by
 have hlow:∀x∈below,cE ar x 1:=by have:=hA.ok.low;simpa only[fQ] using this
 have htop:cE ar f0 0:=hA.ok.top f0 (eW _ _);have hbel:below.length≤15:=by have:=hA.ok.deep;simp at this;omega
 have hu0:dE f0:=hU f0 (by simp)
 obtain⟨⟨T,hc,hh,hv,he⟩,hnx,hs,hm⟩:=htop
 obtain⟨rfl,hi⟩:f={ f0 with next:=f0.next+1 }∧f0.fn.code[f0.next]?=some i:=by
  unfold aK.fetch at hfe;cases hx:f0.fn.code[f0.next]? with
  |none=>rw[hx] at hfe;cases hfe
  |some j=>rw[hx] at hfe;simp at hfe;exact⟨hfe.2.symm,by rw[hfe.1]⟩
 obtain⟨hb0,hhp,hio⟩:=hc.ins _ _ hi;clear hb0;have hlc:=hc.len;have hops:f0.ops.length≤99000:=by omega
 have hgo:∀g∈below,g.ops.length≤99000:=fun g hg=>by
  obtain⟨⟨T',hc',hh',_⟩,hn',_⟩:=hlow g hg;have h1:=(hc'.ins _ _ (List.getElem?_eq_getElem hn')).2.1;have h2:=hc'.len;omega
 have hmem:i∈f0.fn.code:=List.mem_of_getElem? hi;cases i
 case begin l s=>
  obtain⟨sp,rfl,hsp⟩:=hI;obtain⟨p,rfl⟩:=hsp.form;exact⟨_,_,_,true,rfl,SG,Or.inl ⟨rfl,⟨_,_,rfl⟩,rfl⟩,rfl,E8 l _ s h hbel hbase hsp⟩
 case push a=>
  obtain⟨u,rfl,hu,hca⟩:=hI;refine⟨_,_,_,false,rfl,XP,Or.inr ⟨J8,rfl⟩,rfl,(QE fp F base w sb gf cap t0 tv outv s0 fvs below _ tape out u a h hu hca (by show f0.ops.length≤100000;omega) hbel hbase).mono ?_⟩
  rintro e w' ⟨rfl,hd⟩;exact⟨Or.inl ⟨rfl,rfl⟩,hd⟩
 case load k=>
  obtain rfl:=hI;exact⟨_,_,_,false,rfl,XQ,Or.inr ⟨J9,rfl⟩,rfl,K6 k h hbel hbase hops (by have:=hio.1;show k<f0.vars.length;omega)⟩
 case declare k=>
  obtain rfl:=hI;exact⟨_,_,_,false,rfl,JL,Or.inr ⟨QT,rfl⟩,rfl,SH k h hbel hbase hops (mU (by have:=hio.1;show 1≤f0.ops.length;omega)) (by have:=hio.2.1;show k≤f0.vars.length;omega) hm⟩
 case assign k n=>
  obtain rfl:=hI;obtain⟨vs,us,e1,e2⟩:=GU (l:=f0.ops) (n:=n+1) (by have:=hio.1;omega)
  obtain⟨us',b,rfl⟩:=mU (l:=us) (by omega)
  have e3:us'.length=n:=by simpa using e2
  subst e3;exact⟨_,_,_,false,rfl,NW,Or.inr ⟨WJ,rfl⟩,rfl,YL k vs us' b h hbel hbase hops (by show f0.ops=_;rw[e1];simp) (by have:=hio.2.1;show k<f0.vars.length;omega)⟩
 case jump q=>
  obtain rfl:=hI;exact⟨_,_,_,false,rfl,XS,Or.inr ⟨K2,rfl⟩,rfl,K9 q h hbel hbase⟩
 case skip q=>
  obtain rfl:=hI;exact⟨_,_,_,false,rfl,NT,Or.inr ⟨WG,rfl⟩,rfl,UF q h hbel hbase hops (mU (by have:=hio.1;show 1≤f0.ops.length;omega))⟩
 case shortcut wh q=>
  obtain rfl:=hI;exact⟨_,_,_,false,rfl,DU,Or.inr ⟨MD,rfl⟩,rfl,LC wh q h hbel hbase hops (mU (by have:=hio.1;show 1≤f0.ops.length;omega))⟩
 case truth=>
  obtain rfl:=hI;exact⟨_,_,_,false,rfl,SE,Or.inr ⟨B3,rfl⟩,rfl,YY h hbel hbase hops (mU (by have:=hio.1;show 1≤f0.ops.length;omega))⟩
 case unary op=>
  obtain rfl:=hI;exact⟨_,_,_,false,rfl,SD,Or.inr ⟨B2,rfl⟩,rfl,YU op (hu0.fn.2 op hmem) h hbel hbase hops (mU (by have:=hio.1;show 1≤f0.ops.length;omega))⟩
 case binary op=>
  obtain rfl:=hI;exact⟨_,_,_,false,rfl,NV,Or.inr ⟨WI,rfl⟩,rfl,YK op h hbel hbase hops (ZL (by have:=hio.1;show 2≤f0.ops.length;omega))⟩
 case index=>
  obtain rfl:=hI;obtain⟨vs,a,b,e⟩:=ZL (l:=f0.ops) (by have:=hio.1;omega)
  exact⟨_,_,_,false,rfl,SF,Or.inr ⟨B4,rfl⟩,rfl,C7 h hbel hbase hops ⟨vs,a,b,e,hu0.ops a (by rw[e];simp)⟩⟩
 case list n=>
  obtain rfl:=hI;obtain⟨vs,us,e1,rfl⟩:=GU (l:=f0.ops) (n:=n) (by have:=hio.1;omega)
  exact⟨_,_,_,false,rfl,XR,Or.inr ⟨K1,rfl⟩,rfl,K7 vs us h hbel hbase hops e1⟩
 case length=>
  obtain rfl:=hI;obtain⟨vs,a,e⟩:=mU (l:=f0.ops) (by have:=hio.1;omega)
  exact⟨_,_,_,false,rfl,NU,Or.inr ⟨WH,rfl⟩,rfl,WV h hbel hbase hops ⟨vs,a,e,hu0.ops a (by rw[e];simp)⟩⟩
 case read=>
  obtain rfl:=hI;exact⟨_,_,_,false,rfl,XO,Or.inr ⟨J7,rfl⟩,rfl,J1 tab h hbel hbase hops htl⟩
 case call k n=>
  obtain rfl:=hI;obtain⟨vs,us,e1,rfl⟩:=GU (l:=f0.ops) (n:=n) (by have:=hio.1;omega)
  obtain⟨fn,_,hfn,_⟩:=ht.fn k _ hio.2.1;exact⟨_,_,_,false,rfl,XV,Or.inr ⟨K5,rfl⟩,rfl,N5 tab k fn vs us h hbel hbase hops e1 hT hfn⟩
 case give=>
  obtain rfl:=hI;exact⟨_,_,_,false,rfl,XT,Or.inr ⟨K3,rfl⟩,rfl,L6 tab h hbel hbase hops (mU (by have:=hio;show 1≤f0.ops.length;omega)) hgo⟩
 case drop=>
  obtain rfl:=hI;exact⟨_,_,_,false,rfl,XU,Or.inr ⟨K4,rfl⟩,rfl,M6 h hbel hbase hops (mU (by have:=hio.1;show 1≤f0.ops.length;omega))⟩
 case print=>
  obtain rfl:=hI;obtain⟨vs,a,e⟩:=mU (l:=f0.ops) (by have:=hio.1;omega)
  exact⟨_,_,_,false,rfl,DV,Or.inr ⟨ME,rfl⟩,rfl,ZT tab h hp hbel hbase hops e hol⟩
end
theorem ZC{tab:List eJ}{j:Nat}{below:List aK}{f0 f:aK}{t:List Int}{o:List (List UInt8)}{i:aH}{r:cM × Nat}(h:dN tab (j+1) ⟨below++[f0],t,o⟩=some r)(hf:f0.fetch=some (i,f)):
 ((cC tab i below f t o).2≠0→r=cC tab i below f t o)∧((cC tab i below f t o).2=0→i.isBegin=true→r=cC tab i below f t o)∧((cC tab i below f t o).2=0→i.isBegin=false→dN tab j (cC tab i below f t o).1=some r):=by
 rw[dN] at h;simp only[eW,hf,fQ] at h;refine⟨fun h1=>?_,fun h1 h2=>?_,fun h1 h2=>?_⟩
 ·rw[if_pos h1] at h;cases h;rfl
 ·rw[if_neg (by rw[h1];simp),if_pos h2] at h;cases h;rfl
 ·rw[if_neg (by rw[h1];simp),h2] at h;exact h
theorem TT{tab:List eJ}{i:aH}{below:List aK}{f:aK}{t:List Int}{o:List (List UInt8)}(ho:o.length≤50):(cC tab i below f t o).1.out.length≤50:=by
 cases i<;>simp only[cC]<;>(repeat' split)<;>first|exact ho|(simp;omega)
theorem NS{tab:List eJ}{i:aH}{below:List aK}{f:aK}{t:List Int}{o:List (List UInt8)}:(cC tab i below f t o).1.tape.length≤t.length:=by
 cases i<;>simp only[cC]<;>(repeat' split)<;>first|exact Nat.le_refl _|simp
section
variable {fp:Nat→Value} {F:Nat→Prop} {base:Nat} {w:World} {sb gf cap:Nat} {t0 tv outv s0:Value} {fvs:List FVal} {below:List aK} {f0 f:aK} {tape:List Int} {out:List (List UInt8)}
theorem cO.fetched{i:aH}(h:cO fp F base w sb gf cap t0 tv outv s0 fvs ⟨below++[f0],tape,out⟩)(hf:f0.fetch=some (i,f))(hl:f0.fn.code.length≤1000000):
 Calls Tryz.prog 235 #[.pointer (some ⟨gf,below.length*6,none⟩)] w fun e w'=>∃v fvs',e=.returned v∧kL fp F w' v i∧cO fp F base w' sb gf cap t0 tv outv s0 fvs' ⟨below++[f],tape,out⟩∧Kept (aF sb gf outv fvs) w w'∧aF sb gf outv fvs'=aF sb gf outv fvs:=by
 obtain⟨fb,v,cur,rfl,hfl,hv,hblk,hcur,hcap,k0,k1,k2,k3,k4,k5⟩:=h.top;rw[←hfl]
 obtain⟨hi,rfl⟩:f0.fn.code[f0.next]?=some i∧f={ f0 with next:=f0.next+1 }:=by
  unfold aK.fetch at hf;cases hx:f0.fn.code[f0.next]? with
  |none=>rw[hx] at hf;cases hf
  |some j=>rw[hx] at hf;simp at hf;exact⟨by rw[hf.1],hf.2.symm⟩
 obtain⟨hnl,hie⟩:=List.getElem?_eq_some_iff.1 hi;obtain⟨fbk,gc,cp,row,e1,e2,e3,e4,e5,e6⟩:=hv.fn;obtain⟨u,u1,u2⟩:=e6 f0.next hnl
 rw[hie] at u2;rw[e1] at k0;rw[hv.nx] at k1;refine(XH gf (fb.length*6) fbk gc f0.fn.code.length cp f0.next cur _ u w hcur k0 k1 e3 (aA e5 u1) u2.form hnl hl).mono ?_
 rintro e w' ⟨he,q,rfl⟩;have hS:=aW.drewN w q;have hR1:=h.grow hS.below (fun _ h=>h) (fun _ h=>Or.inl h)
 have hv1:KA fp F base (w.drewN q) v f0:=hv.keep (fun b _=>by rw[hS.heap]) (fun _ h=>h) fun k _=>by rw[hS.heap]
 have hv2:KA fp F base (w.drewN q) { v with nx:=.int .i64 ((f0.next+1:Nat):Int) } { f0 with next:=f0.next+1 }:=⟨hv1.fn,rfl,hv1.ln,hv1.sp,hv1.vars,hv1.ops⟩
 obtain⟨q1,q2⟩:=hR1.setTop (j:=1) (x:=.int .i64 ((f0.next+1:Nat):Int)) (v':={ v with nx:=.int .i64 ((f0.next+1:Nat):Int) }) (by omega) rfl rfl hv2
 refine⟨u,_,he,u2.keep (fun b hb=>?_) (fun _ h=>h),q1,(Kept.of_below hS.below).trans q2 fun _ h=>Or.inl h,by simp[aF,aS,FVal.owns]⟩
 rw[Below.heap_setCell _ _ _ _ fun e=>(h.apart b hb).2 (by simp[aF,e]),hS.heap]
def S9(fp:Nat→Value)(F0:Nat→Prop)(base sb:Nat)(t0 s0:Value)(own0:List Nat)(w0:World)(ar:Nat→Option Nat)(tab:List eJ)(m:cM)(W:World):Prop:=
 ∃F gf cap tv outv fvs,Ext F0 F w0.heap.size∧cO fp F base W sb gf cap t0 tv outv s0 fvs m∧kH fp F W tab∧Kept own0 w0 W∧(∀x∈aF sb gf outv fvs,x∈own0∨w0.heap.size≤x)∧fC ar m∧fL m∧m.out.length≤50∧m.tape.length≤1000000000
theorem wR{ar:Nat→Option Nat}{tab:List eJ}{m:cM}{k:Nat}{r:cM × Nat}(ht:jF ar tab)(htu:iW tab)(h:cO fp F base w sb gf cap t0 tv outv s0 fvs m)(hT:kH fp F w tab)(hp:yG (aF sb gf outv fvs) w)(hbase:base≤w.heap.size)
 (hA:fC ar m) (hU:fL m) (hol:m.out.length≤50) (htl:m.tape.length≤1000000000) (hk:dN tab k m=some r):
 Calls Tryz.prog 175 #[.pointer (some ⟨sb,0,none⟩)] w (R6 fp F base sb t0 s0 (aF sb gf outv fvs) w r):=by
 generalize hown:aF sb gf outv fvs=own0 at hp
 refine(ZB w sb (fun k W=>∃m,S9 fp F base sb t0 s0 own0 w ar tab m W∧dN tab k m=some r)
  (fun W=>r.2=0∧Done fp F base sb t0 s0 own0 w r.1 W) (fun q W=>q=r.2∧r.2≠0∧Done fp F base sb t0 s0 own0 w r.1 W)
  (fun j fa fj W=>∃F' gf cap tv outv fvs below f0 tape out,fa=gf∧fj=below.length*6∧(Ext F F' w.heap.size∧cO fp F' base W sb gf cap t0 tv outv s0 fvs ⟨below++[f0],tape,out⟩∧kH fp F' W tab∧Kept own0 w W∧(∀x∈aF sb gf outv fvs,x∈own0∨w.heap.size≤x))∧(fC ar ⟨below++[f0],tape,out⟩∧fL ⟨below++[f0],tape,out⟩∧out.length≤50∧tape.length≤1000000000)∧dN tab (j+1) ⟨below++[f0],tape,out⟩=some r)
  (fun j t z fno b W=>∃F' gf cap tv outv fvs below f0 f i tape out,(Ext F F' w.heap.size∧cO fp F' base W sb gf cap t0 tv outv s0 fvs ⟨below++[f],tape,out⟩∧kH fp F' W tab∧Kept own0 w W∧(∀x∈aF sb gf outv fvs,x∈own0∨w.heap.size≤x))∧(fC ar ⟨below++[f0],tape,out⟩∧fL ⟨below++[f0],tape,out⟩∧out.length≤50∧tape.length≤1000000000)∧dN tab (j+1) ⟨below++[f0],tape,out⟩=some r∧f0.fetch=some (i,f)∧b=i.isBegin∧
    Calls Tryz.prog fno #[z,.pointer (some ⟨sb,0,none⟩)] W (R6 fp F' base sb t0 s0 (aF sb gf outv fvs) W (cC tab i below f tape out)))
  k ⟨m,⟨F,gf,cap,tv,outv,fvs,Ext.refl _ _,h,hT,Kept.refl _ _,fun x hx=>Or.inl (by rw[←hown];exact hx),hA,hU,hol,htl⟩,hk⟩ (fun k W hL=>?_) (fun j fa fj W hM=>?_) (fun j fa fj W hM=>?_) (fun j t z fno b W hN=>?_)).mono ?_
 ·obtain⟨m,⟨F',gf,cap,tv,outv,fvs,g1,g2,g3,g4,g5,g6,g7,g8,g9⟩,hk⟩:=hL;have hc:=g2.count;have hd:=g6.ok.deep;refine⟨_,_,_,aA g2.blk rfl,aD g2.blk,by omega,fun h0=>?_,fun h0=>?_⟩
  ·have hm:m.frames=[]:=List.eq_nil_of_length_eq_zero (by omega)
   cases k with
   |zero=>rw[dN] at hk;cases hk
   |succ j=>
    rw[dN,hm] at hk;simp only[List.getLast?_nil] at hk;cases hk;exact⟨rfl,Nat.one_ne_zero,g4,F',gf,cap,tv,outv,fvs,g1,g2,g5⟩
  ·obtain⟨b,f,e⟩:=mB (l:=m.frames) (fun e=>h0 (by rw[hc,e];rfl))
   obtain⟨fr,t,o⟩:=m;simp only at e;subst e;cases k with
   |zero=>rw[dN] at hk;cases hk
   |succ j=>exact⟨j,rfl,gf,b.length*6,F',gf,cap,tv,outv,fvs,b,f,t,o,rfl,rfl,⟨g1,g2,g3,g4,g5⟩,⟨g6,g7,g8,g9⟩,hk⟩
 ·obtain⟨F',gf,cap,tv,outv,fvs,b,f,t,o,rfl,rfl,⟨g1,g2,g3,g4,g5⟩,⟨g6,g7,g8,g9⟩,hk⟩:=hM;have hc:=g2.count;have hd:=g6.ok.deep;have hblk:=g2.blk;rw[hc,List.length_append,List.length_singleton] at hblk;simp at hd;refine(GF sb fa b.length cap W (aA hblk rfl) (by omega)).mono ?_
  rintro e w' ⟨he,q,rfl⟩;have hS:=aW.drewN W q;exact⟨he,F',fa,cap,tv,outv,fvs,b,f,t,o,rfl,rfl,⟨g1,g2.grow hS.below (fun _ h=>h) (fun _ h=>Or.inl h),g3.keep (fun b _=>by rw[hS.heap]) (fun _ h=>h),g4.trans (Kept.of_below (own:=[]) hS.below) (fun x hx=>by simp at hx),g5⟩,⟨g6,g7,g8,g9⟩,hk⟩
 ·obtain⟨F',gf,cap,tv,outv,fvs,b,f0,t,o,rfl,rfl,⟨g1,g2,g3,g4,g5⟩,⟨g6,g7,g8,g9⟩,hk⟩:=hM;have htop:cE ar f0 0:=g6.ok.top f0 (eW _ _);have hf:=wK htop.next
  obtain⟨T,hc, -⟩:=htop.code;have hcl:=hc.len;generalize f0.fn.code[f0.next]'htop.next=i at hf
  refine(g2.fetched hf (by omega)).mono ?_
  rintro e w' ⟨v,fvs',he,q1,q2,q3,q4⟩;have g3':kH fp F' w' tab:=g3.keep (fun x hx=>q3.block x (g2.apart x hx).1 (g2.apart x hx).2) fun _ h=>h
  have hk':Kept own0 w w':=g4.trans q3 g5;have hp':yG (aF sb fa outv fvs') w':=hp.step hk' (fun x hx=>g5 x (by rw[←q4];exact hx))
  obtain⟨t',z,fno,bb,e1,e2,e3,e4,e5⟩:=P6 ht g6 hf g7 q2 g3' hp' (Nat.le_trans hbase hk'.size) g8 g9 q1;exact⟨t',z,fno,bb,by rw[he,e1],e2,e3,F',fa,cap,tv,outv,fvs',b,f0,_,i,t,o,⟨g1,q2,g3',hk',fun x hx=>g5 x (by rw[←q4];exact hx)⟩,⟨g6,g7,g8,g9⟩,hk,hf,e4,e5⟩
 ·obtain⟨F',gf,cap,tv,outv,fvs,below,f0,f,i,tp,o,⟨g1,g2,g3,g4,g5⟩,⟨g6,g7,g8,g9⟩,hk,hf,hb,hc⟩:=hN;obtain⟨s1,s2,s3⟩:=ZC hk hf;refine hc.mono ?_;rintro e w' ⟨he,hd1,G,gf',cap',tv',outv',fvs',d1,d2,d3⟩;have hk':Kept own0 w w':=g4.trans hd1 g5
  have hsub:∀x∈aF sb gf' outv' fvs',x∈own0∨w.heap.size≤x:=fun x hx=>by
   rcases d3 x hx with h1|h1
   ·exact g5 x h1
   ·exact Or.inr (Nat.le_trans g4.size h1)
  have hTab:kH fp G w' tab:=g3.keep (fun x hx=>hd1.block x (g2.apart x hx).1 (g2.apart x hx).2) d1.sub
  have hal:∀ob,Below w'.heap.size w' (w'.alloc ob):=fun ob=>(Below.refl _ w').alloc (Nat.le_refl _) ob
  rcases he with ⟨hz,rfl⟩|⟨hz,rfl⟩
  ·refine Or.inl ⟨rfl,fun hbt ob=>?_,fun hbf ob=>?_⟩
   ·have hr:=s2 hz (by rw[←hb];exact hbt)
    rw[hr];exact⟨hz,hk'.trans (Kept.of_below (own:=[]) (hal ob)) (fun x hx=>by simp at hx),G,gf',cap',tv',outv',fvs',g1.trans d1 g4.size,d2.grow (hal ob) (fun _ h=>h) (fun _ h=>Or.inl h),hsub⟩
   ·refine⟨_,⟨G,gf',cap',tv',outv',fvs',g1.trans d1 g4.size,d2.grow (hal ob) (fun _ h=>h) (fun _ h=>Or.inl h),hTab.keep (fun x hx=>(hal ob).block x (d2.apart x hx).1) (fun _ h=>h),hk'.trans (Kept.of_below (own:=[]) (hal ob)) (fun x hx=>by simp at hx),hsub,(vM ht g6 hf).2.2 hz,BT htu g7 hf,TT g8,Nat.le_trans NS g9⟩,s3 hz (by rw[←hb];exact hbf)⟩
  ·refine Or.inr ⟨_,rfl,?_⟩;have hr:=s1 hz;rw[hr];exact⟨rfl,hz,hk',G,gf',cap',tv',outv',fvs',g1.trans d1 g4.size,d2,hsub⟩
 ·rintro e w' (⟨rfl,h1,h2⟩|⟨q,rfl,rfl,h1,h2⟩)
  ·exact⟨Or.inl ⟨h1,rfl⟩,h2⟩
  ·exact⟨Or.inr ⟨h1,rfl⟩,h2⟩
end
end Go.Proofs.YtblbkfdhjfppkaaGreatDoor
