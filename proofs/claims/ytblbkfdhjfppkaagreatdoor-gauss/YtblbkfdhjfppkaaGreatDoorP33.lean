/- Gauss: the walk. -/
import Derived.Test.YtblbkfdhjfppkaaGreatDoorP32
set_option maxRecDepth 100000
set_option maxHeartbeats 4000000
namespace Go.Proofs.YtblbkfdhjfppkaaGreatDoor
open Hs
open Go.RowKit
theorem EV(c:Int)(N:Nat)(hN:0<N)(hN2:N≤1000)(h1: -9223372036854775808≤c)(h2:c≤9223372036854775807):
 ∃k:Nat,k<N∧∀w,Calls Tryz.prog 31 #[.int .i64 c,.int .i64 N] w fun e w'=>e=.returned (.int .i64 k)∧w'=w:=by
 have hz:¬(N:Int)=0:=by omega
 by_cases hc:c<0
 ·have e1:wrap64 (c+1)=c+1:=by unfold wrap64;omega
  have e2:wrap64 (-(c+1))= -(c+1):=by unfold wrap64;omega
  obtain⟨m,hm⟩:∃m:Nat, -(c+1)=(m:Int):=⟨(-(c+1)).toNat,by omega⟩
  have e3:(-(c+1)).tmod N=((m%N:Nat):Int):=by rw[hm];rfl
  refine⟨m%N,Nat.mod_lt _ hN,fun w=>?_⟩
  go_enter Tryz.func31,Tryz.ntmps31;go_wp2_with fail;refine bodyPost_ret (v:=.int .i64 ((m%N:Nat):Int)) ?_ rfl ⟨rfl,rfl⟩;have e4:(c+1).tmod N= -((m%N:Nat):Int):=by rw[show c+1= -(m:Int) by omega,Int.neg_tmod];rfl
  simp[results,Tryz.results31,go_sem]
 ·obtain⟨m,rfl⟩:∃m:Nat,c=(m:Int):=⟨c.toNat,by omega⟩
  refine⟨m%N,Nat.mod_lt _ hN,fun w=>?_⟩
  go_enter Tryz.func31,Tryz.ntmps31;go_wp2_with fail;refine bodyPost_ret (v:=.int .i64 ((m%N:Nat):Int)) (by simp[results,Tryz.results31,go_sem]) rfl ⟨rfl,rfl⟩
theorem RS(w:World)(n:Int)(k d:Nat)(dk dd sk sd:List UInt8)(S0:World→Prop)(S1:Nat→World→Prop)(S2:Nat→Nat→World→Prop)
 (hk:k<40) (hd:d<15) (hlk:dk.length≤50) (hld:dd.length≤50)
 (h0:S0 w)
 (HP:Hid (∀W,Calls Tryz.prog 31 #[.int .i64 n,.int .i64 40] W fun e w'=>e=.returned (.int .i64 k)∧w'=W))
 (HQ:Hid (∀W,Calls Tryz.prog 31 #[.int .i64 n,.int .i64 15] W fun e w'=>e=.returned (.int .i64 d)∧w'=W))
 (HI0:Hid (∀W,S0 W→Calls Tryz.prog 34 #[.int .i64 k] W fun e w'=>e=.returned (.string (bs dk))∧S0 w'))
 (HA:Hid (∀W,S0 W→Calls Tryz.prog 35 #[.string (⟨#[102,117,110,99,32,109,97,105,110,40,41,32,123,32,118,97,114,32,105,32,61,32,48,59,32,118,97,114,32,115,32,61,32,48,59,32,119,104,105,108,101,32,105,32,60,32]⟩++bs dk++⟨#[32,123,32,105,32,61,32,105,32,43,32,49,59,32,115,32,61,32,115,32,43,32,105,59,32,125,32,112,114,105,110,116,32,115,59,32,125]⟩)] W fun e w'=>∃g c,e=.returned (.tuple #[.slice (some ⟨g,0,none⟩) 1 c,.int .i64 ((4+3*k:Nat):Int),.bool true])∧S1 g w'))
 (HI1:Hid (∀g W,S1 g W→Calls Tryz.prog 34 #[.int .i64 d] W fun e w'=>e=.returned (.string (bs dd))∧S1 g w'))
 (HB:Hid (∀g W,S1 g W→Calls Tryz.prog 35 #[.string (⟨#[102,117,110,99,32,102,40,110,41,32,123,32,105,102,32,110,32,61,61,32,48,32,123,32,114,101,116,117,114,110,32,48,59,32,125,32,114,101,116,117,114,110,32,110,32,43,32,102,40,110,32,45,32,49,41,59,32,125,32,102,117,110,99,32,109,97,105,110,40,41,32,123,32,112,114,105,110,116,32,102,40]⟩++bs dd++⟨#[41,59,32,125]⟩)] W fun e w'=>∃g2 c,e=.returned (.tuple #[.slice (some ⟨g2,0,none⟩) 1 c,.int .i64 ((3+2*d:Nat):Int),.bool true])∧S2 g g2 w'))
 (HD:Hid (∀g g2 W,S2 g g2 W→S2 g g2 W.drew))
 (HC:Hid (∀g g2 W,S2 g g2 W→W.cell? ⟨g,0,none⟩=some (.string (bs sk))∧W.cell? ⟨g2,0,none⟩=some (.string (bs sd))∧g<W.heap.size∧g2<W.heap.size))
 (HI2:Hid (∀g g2 W,S2 g g2 W→Calls Tryz.prog 34 #[.int .i64 ((k*(k+1)/2:Nat):Int)] W fun e w'=>e=.returned (.string (bs sk))∧S2 g g2 w'))
 (HI3:Hid (∀g g2 W,S2 g g2 W→Calls Tryz.prog 34 #[.int .i64 ((d*(d+1)/2:Nat):Int)] W fun e w'=>e=.returned (.string (bs sd))∧S2 g g2 w'))
 (HW:Hid (∀g g2 W,S2 g g2 W→Below w.heap.size w W)):
 Calls Tryz.prog 12 #[.int .i64 n] w fun e w'=>e=.returned (.bool true)∧Below w.heap.size w w':=by
 have H0:=aB h0;have hsx:(bs dk).size=dk.length:=gX dk;have hsy:(bs dd).size=dd.length:=gX dd;have z1:(⟨#[102,117,110,99,32,109,97,105,110,40,41,32,123,32,118,97,114,32,105,32,61,32,48,59,32,118,97,114,32,115,32,61,32,48,59,32,119,104,105,108,101,32,105,32,60,32]⟩:ByteArray).size=46:=rfl;clear h0;go_enter Tryz.func12,Tryz.ntmps12;go_wp2_with fail;refine(HP.out _).mono ?_;rintro e w1 ⟨rfl,rfl⟩;clear HP;go_wp2_with fail;refine(HQ.out _).mono ?_;rintro e w2 ⟨rfl,rfl⟩;clear HQ;go_wp2_with fail;refine(HI0.out _ H0.out).mono ?_;rintro e w3 ⟨rfl,h3⟩;have HAA:=aB (HA.out _ h3);clear h3 HI0 HA H0;go_wp2_with fail;refine HAA.out.mono ?_;rintro e w4 ⟨g,c1,rfl,h4⟩;have HII:=aB (HI1.out _ _ h4);clear h4 HI1 HAA;go_wp2_with fail;refine HII.out.mono ?_;rintro e w5 ⟨rfl,h5⟩;have HBB:=aB (HB.out _ _ h5);clear h5 HB HII;go_wp2_with fail;refine HBB.out.mono ?_;rintro e w6 ⟨g2,c2,rfl,h6⟩;have H6:=aB (HD.out _ _ _ h6);have c6:=HC.out _ _ _ (HD.out _ _ _ h6);clear h6 HBB HD;go_wp2_with fail
 have wid:∀x:Nat,x≤100000→IntKind.i64.wrap (x:Int)=(x:Int):=fun x hx=>by
  rw[IntKind.wrap_i64];omega
 have bk:k*(k+1)≤40*40:=Nat.mul_le_mul (by omega) (by omega)
 have bd:d*(d+1)≤15*15:=Nat.mul_le_mul (by omega) (by omega)
 have vk:IntKind.i64.wrap ((IntKind.i64.wrap ((k:Int)*IntKind.i64.wrap ((k:Int)+1))).tdiv 2)=((k*(k+1)/2:Nat):Int):=by
  rw[show (k:Int)+1=((k+1:Nat):Int) by simp,wid (k+1) (by omega),show (k:Int)*((k+1:Nat):Int)=((k*(k+1):Nat):Int) by simp,wid _ (by omega),show (((k*(k+1):Nat):Int)).tdiv 2=((k*(k+1)/2:Nat):Int) from rfl,wid _ (by omega)]
 have vd:IntKind.i64.wrap ((IntKind.i64.wrap ((d:Int)*IntKind.i64.wrap ((d:Int)+1))).tdiv 2)=((d*(d+1)/2:Nat):Int):=by
  rw[show (d:Int)+1=((d+1:Nat):Int) by simp,wid (d+1) (by omega),show (d:Int)*((d+1:Nat):Int)=((d*(d+1):Nat):Int) by simp,wid _ (by omega),show (((d*(d+1):Nat):Int)).tdiv 2=((d*(d+1)/2:Nat):Int) from rfl,wid _ (by omega)]
 have uk:IntKind.i64.wrap (4+IntKind.i64.wrap (3*(k:Int)))=4+3*(k:Int):=by
  rw[show 3*(k:Int)=((3*k:Nat):Int) by simp,wid _ (by omega),show 4+((3*k:Nat):Int)=((4+3*k:Nat):Int) by simp,wid _ (by omega)]
 have ud:IntKind.i64.wrap (3+IntKind.i64.wrap (2*(d:Int)))=3+2*(d:Int):=by
  rw[show 2*(d:Int)=((2*d:Nat):Int) by simp,wid _ (by omega),show 3+((2*d:Nat):Int)=((3+2*d:Nat):Int) by simp,wid _ (by omega)]
 have VK:=aB vk;have VD:=aB vd;have UK:=aB uk;have UD:=aB ud;clear vk vd uk ud bk bd wid;clear hsx hsy z1;refine wp_region_held_drew (S:=fun W=>W.cell? ⟨g,0,none⟩=some (.string (bs sk))∧W.cell? ⟨g2,0,none⟩=some (.string (bs sd))∧g<W.heap.size∧g2<W.heap.size) (by kernel_rfl) c6 (fun hHeld=>?_)
 clear c6;(refine wpAnyH_take (i:=0) (v:=?_) rfl (by kernel_rfl) (by kernel_rfl) (by kernel_rfl) (fun _ _ _ h=>h) (Or.inl ⟨by kernel_rfl,?_⟩) hHeld ?_;rotate_left;(rintro w ⟨q0,q1,q2,q3⟩;go_simp<;>with_reducible rfl))
 (refine wpAnyH_take (i:=1) (v:=?_) rfl (by kernel_rfl) (by kernel_rfl) (by kernel_rfl) (fun _ _ _ h=>h) (Or.inl ⟨by kernel_rfl,?_⟩) hHeld ?_;rotate_left;(rintro w ⟨q0,q1,q2,q3⟩;go_simp<;>with_reducible rfl))
 (refine wpAnyH_take (i:=2) (v:=?_) rfl (by kernel_rfl) (by kernel_rfl) (by kernel_rfl) (fun _ _ _ h=>h) (Or.inl ⟨by kernel_rfl,?_⟩) hHeld ?_;rotate_left;(rintro w ⟨q0,q1,q2,q3⟩;go_simp<;>with_reducible rfl))
 (refine wpAnyH_take (i:=3) (v:=?_) rfl (by kernel_rfl) (by kernel_rfl) (by kernel_rfl) (fun _ _ _ h=>h) (Or.inl ⟨by kernel_rfl,?_⟩) hHeld ?_;rotate_left;(rintro w ⟨q0,q1,q2,q3⟩;go_simp<;>with_reducible rfl))
 (refine wpAnyH_take (i:=4) (v:=?_) rfl (by kernel_rfl) (by kernel_rfl) (by kernel_rfl) (fun _ _ _ h=>h) (Or.inl ⟨by kernel_rfl,?_⟩) hHeld ?_;rotate_left;(rintro w ⟨q0,q1,q2,q3⟩;go_simp<;>with_reducible rfl))
 (refine wpAnyH_take (i:=5) (v:=?_) rfl (by kernel_rfl) (by kernel_rfl) (by kernel_rfl) (fun _ _ _ h=>h) (Or.inl ⟨by kernel_rfl,?_⟩) hHeld ?_;rotate_left;(rintro w ⟨q0,q1,q2,q3⟩;go_simp<;>with_reducible rfl))
 (refine wpAnyH_take (i:=6) (v:=?_) rfl (by kernel_rfl) (by kernel_rfl) (by kernel_rfl) (fun _ _ _ h=>h) (Or.inl ⟨by kernel_rfl,?_⟩) hHeld ?_;rotate_left;(rintro w ⟨q0,q1,q2,q3⟩;go_simp<;>with_reducible rfl))
 (refine wpAnyH_take (i:=7) (v:=?_) rfl (by kernel_rfl) (by kernel_rfl) (by kernel_rfl) (fun _ _ _ h=>h) (Or.inl ⟨by kernel_rfl,?_⟩) hHeld ?_;rotate_left;(rintro w ⟨q0,q1,q2,q3⟩;go_simp<;>with_reducible rfl))
 refine wpAnyH_ready (rs:=[8]) (by kernel_rfl) (by simp) ?_
 refine AllReadyH.cons rfl (fun K hK=>?_) AllReadyH.nil
 go_simp;rw[VK.out];go_at_call 34
 refine(HI2.out _ _ _ H6.out).mono ?_;rintro e w7 ⟨rfl,h7⟩;have H7:=aB h7;have c7:=HC.out _ _ _ h7;clear h7;go_wp2_with fail;refine hK.out _ _ c7 (fun hHeld=>?_)
 clear hK K;(refine wpAnyH_take (i:=9) (v:=?_) rfl (by kernel_rfl) (by kernel_rfl) (by kernel_rfl) (fun _ _ _ h=>h) (Or.inl ⟨by kernel_rfl,?_⟩) hHeld ?_;rotate_left;(rintro w ⟨q0,q1,q2,q3⟩;go_simp<;>with_reducible rfl))
 (refine wpAnyH_take (i:=10) (v:=?_) rfl (by kernel_rfl) (by kernel_rfl) (by kernel_rfl) (fun _ _ _ h=>h) (Or.inl ⟨by kernel_rfl,?_⟩) hHeld ?_;rotate_left;(rintro w ⟨q0,q1,q2,q3⟩;go_simp<;>with_reducible rfl))
 (refine wpAnyH_take (i:=11) (v:=?_) rfl (by kernel_rfl) (by kernel_rfl) (by kernel_rfl) (fun _ _ _ h=>h) (Or.inl ⟨by kernel_rfl,?_⟩) hHeld ?_;rotate_left;(rintro w ⟨q0,q1,q2,q3⟩;go_simp<;>with_reducible rfl))
 (refine wpAnyH_take (i:=12) (v:=?_) rfl (by kernel_rfl) (by kernel_rfl) (by kernel_rfl) (fun _ _ _ h=>h) (Or.inl ⟨by kernel_rfl,?_⟩) hHeld ?_;rotate_left;(rintro w ⟨q0,q1,q2,q3⟩;go_simp<;>with_reducible rfl))
 have uk:=UK.out;(refine wpAnyH_take (i:=13) (v:=?_) rfl (by kernel_rfl) (by kernel_rfl) (by kernel_rfl) (fun _ _ _ h=>h) (Or.inl ⟨by kernel_rfl,?_⟩) hHeld ?_;rotate_left;(rintro w ⟨q0,q1,q2,q3⟩;go_simp<;>with_reducible rfl))
 (refine wpAnyH_take (i:=14) (v:=?_) rfl (by kernel_rfl) (by kernel_rfl) (by kernel_rfl) (fun _ _ _ h=>h) (Or.inl ⟨by kernel_rfl,?_⟩) hHeld ?_;rotate_left;(rintro w ⟨q0,q1,q2,q3⟩;go_simp<;>with_reducible rfl))
 (refine wpAnyH_take (i:=15) (v:=?_) rfl (by kernel_rfl) (by kernel_rfl) (by kernel_rfl) (fun _ _ _ h=>h) (Or.inl ⟨by kernel_rfl,?_⟩) hHeld ?_;rotate_left;(rintro w ⟨q0,q1,q2,q3⟩;go_simp<;>with_reducible rfl))
 clear uk UK;(refine wpAnyH_take (i:=16) (v:=?_) rfl (by kernel_rfl) (by kernel_rfl) (by kernel_rfl) (fun _ _ _ h=>h) (Or.inl ⟨by kernel_rfl,?_⟩) hHeld ?_;rotate_left;(rintro w ⟨q0,q1,q2,q3⟩;go_simp<;>with_reducible rfl))
 (refine wpAnyH_take (i:=17) (v:=?_) rfl (by kernel_rfl) (by kernel_rfl) (by kernel_rfl) (fun _ _ _ h=>h) (Or.inl ⟨by kernel_rfl,?_⟩) hHeld ?_;rotate_left;(rintro w ⟨q0,q1,q2,q3⟩;go_simp<;>with_reducible rfl))
 (refine wpAnyH_take (i:=18) (v:=?_) rfl (by kernel_rfl) (by kernel_rfl) (by kernel_rfl) (fun _ _ _ h=>h) (Or.inl ⟨by kernel_rfl,?_⟩) hHeld ?_;rotate_left;(rintro w ⟨q0,q1,q2,q3⟩;go_simp<;>with_reducible rfl))
 (refine wpAnyH_take (i:=19) (v:=?_) rfl (by kernel_rfl) (by kernel_rfl) (by kernel_rfl) (fun _ _ _ h=>h) (Or.inl ⟨by kernel_rfl,?_⟩) hHeld ?_;rotate_left;(rintro w ⟨q0,q1,q2,q3⟩;go_simp<;>with_reducible rfl))
 (refine wpAnyH_take (i:=20) (v:=?_) rfl (by kernel_rfl) (by kernel_rfl) (by kernel_rfl) (fun _ _ _ h=>h) (Or.inl ⟨by kernel_rfl,?_⟩) hHeld ?_;rotate_left;(rintro w ⟨q0,q1,q2,q3⟩;go_simp<;>with_reducible rfl))
 (refine wpAnyH_take (i:=21) (v:=?_) rfl (by kernel_rfl) (by kernel_rfl) (by kernel_rfl) (fun _ _ _ h=>h) (Or.inl ⟨by kernel_rfl,?_⟩) hHeld ?_;rotate_left;(rintro w ⟨q0,q1,q2,q3⟩;go_simp<;>with_reducible rfl))
 (refine wpAnyH_take (i:=22) (v:=?_) rfl (by kernel_rfl) (by kernel_rfl) (by kernel_rfl) (fun _ _ _ h=>h) (Or.inl ⟨by kernel_rfl,?_⟩) hHeld ?_;rotate_left;(rintro w ⟨q0,q1,q2,q3⟩;go_simp<;>with_reducible rfl))
 (refine wpAnyH_take (i:=23) (v:=?_) rfl (by kernel_rfl) (by kernel_rfl) (by kernel_rfl) (fun _ _ _ h=>h) (Or.inl ⟨by kernel_rfl,?_⟩) hHeld ?_;rotate_left;(rintro w ⟨q0,q1,q2,q3⟩;go_simp<;>with_reducible rfl))
 (refine wpAnyH_take (i:=24) (v:=?_) rfl (by kernel_rfl) (by kernel_rfl) (by kernel_rfl) (fun _ _ _ h=>h) (Or.inl ⟨by kernel_rfl,?_⟩) hHeld ?_;rotate_left;(rintro w ⟨q0,q1,q2,q3⟩;go_simp<;>with_reducible rfl))
 (refine wpAnyH_take (i:=25) (v:=?_) rfl (by kernel_rfl) (by kernel_rfl) (by kernel_rfl) (fun _ _ _ h=>h) (Or.inl ⟨by kernel_rfl,?_⟩) hHeld ?_;rotate_left;(rintro w ⟨q0,q1,q2,q3⟩;go_simp<;>with_reducible rfl))
 refine wpAnyH_ready (rs:=[26]) (by kernel_rfl) (by simp) ?_
 refine AllReadyH.cons rfl (fun K hK=>?_) AllReadyH.nil
 go_simp;rw[VD.out];go_at_call 34
 refine(HI3.out _ _ _ H7.out).mono ?_;rintro e w8 ⟨rfl,h8⟩;have H8:=aB h8;have c8:=HC.out _ _ _ h8;clear h8;go_wp2_with fail;refine hK.out _ _ c8 (fun hHeld=>?_)
 clear hK K;(refine wpAnyH_take (i:=27) (v:=?_) rfl (by kernel_rfl) (by kernel_rfl) (by kernel_rfl) (fun _ _ _ h=>h) (Or.inl ⟨by kernel_rfl,?_⟩) hHeld ?_;rotate_left;(rintro w ⟨q0,q1,q2,q3⟩;go_simp<;>with_reducible rfl))
 (refine wpAnyH_take (i:=28) (v:=?_) rfl (by kernel_rfl) (by kernel_rfl) (by kernel_rfl) (fun _ _ _ h=>h) (Or.inl ⟨by kernel_rfl,?_⟩) hHeld ?_;rotate_left;(rintro w ⟨q0,q1,q2,q3⟩;go_simp<;>with_reducible rfl))
 (refine wpAnyH_take (i:=29) (v:=?_) rfl (by kernel_rfl) (by kernel_rfl) (by kernel_rfl) (fun _ _ _ h=>h) (Or.inl ⟨by kernel_rfl,?_⟩) hHeld ?_;rotate_left;(rintro w ⟨q0,q1,q2,q3⟩;go_simp<;>with_reducible rfl))
 (refine wpAnyH_take (i:=30) (v:=?_) rfl (by kernel_rfl) (by kernel_rfl) (by kernel_rfl) (fun _ _ _ h=>h) (Or.inl ⟨by kernel_rfl,?_⟩) hHeld ?_;rotate_left;(rintro w ⟨q0,q1,q2,q3⟩;go_simp<;>with_reducible rfl))
 have ud:=UD.out;(refine wpAnyH_take (i:=31) (v:=?_) rfl (by kernel_rfl) (by kernel_rfl) (by kernel_rfl) (fun _ _ _ h=>h) (Or.inl ⟨by kernel_rfl,?_⟩) hHeld ?_;rotate_left;(rintro w ⟨q0,q1,q2,q3⟩;go_simp<;>with_reducible rfl))
 (refine wpAnyH_take (i:=32) (v:=?_) rfl (by kernel_rfl) (by kernel_rfl) (by kernel_rfl) (fun _ _ _ h=>h) (Or.inl ⟨by kernel_rfl,?_⟩) hHeld ?_;rotate_left;(rintro w ⟨q0,q1,q2,q3⟩;go_simp<;>with_reducible rfl))
 (refine wpAnyH_take (i:=33) (v:=?_) rfl (by kernel_rfl) (by kernel_rfl) (by kernel_rfl) (fun _ _ _ h=>h) (Or.inl ⟨by kernel_rfl,?_⟩) hHeld ?_;rotate_left;(rintro w ⟨q0,q1,q2,q3⟩;go_simp<;>with_reducible rfl))
 (refine wpAnyH_take (i:=34) (v:=?_) rfl (by kernel_rfl) (by kernel_rfl) (by kernel_rfl) (fun _ _ _ h=>h) (Or.inl ⟨by kernel_rfl,?_⟩) hHeld ?_;rotate_left;(rintro w ⟨q0,q1,q2,q3⟩;go_simp<;>with_reducible rfl))
 (refine wpAnyH_take (i:=35) (v:=?_) rfl (by kernel_rfl) (by kernel_rfl) (by kernel_rfl) (fun _ _ _ h=>h) (Or.inl ⟨by kernel_rfl,?_⟩) hHeld ?_;rotate_left;(rintro w ⟨q0,q1,q2,q3⟩;go_simp<;>with_reducible rfl))
 (refine wpAnyH_take (i:=36) (v:=?_) rfl (by kernel_rfl) (by kernel_rfl) (by kernel_rfl) (fun _ _ _ h=>h) (Or.inl ⟨by kernel_rfl,?_⟩) hHeld ?_;rotate_left;(rintro w ⟨q0,q1,q2,q3⟩;go_simp<;>with_reducible rfl))
 clear ud UD;refine wpAnyH_done (by kernel_rfl) ?_ _
 have HB8:=aB (HW.out _ _ _ H8.out);clear HC HI2 HI3 HW H6 H7 H8 c7 c8 VK VD;go_wp2_with fail;refine bodyPost_ret (v:=.bool true) (by simp[results,Tryz.results12,go_sem]) rfl ⟨rfl,HB8.out⟩
def SU(w W:World)(g:Nat)(l:List UInt8):Prop:=W.cell? ⟨g,0,none⟩=some (.string (bs l))∧w.heap.size≤g∧g<W.heap.size
theorem SU.below{w W W':World}{g:Nat}{l:List UInt8}(h:SU w W g l)(hb:Below W.heap.size W W'):SU w W' g l:=⟨(hb.cell (p:=⟨g,0,none⟩) h.2.2).trans h.1,h.2.1,Nat.lt_of_lt_of_le h.2.2 hb.size⟩
theorem TI(w W:World)(hw:Below w.heap.size w W)(src:List UInt8)(T:Nat)(l:List UInt8)(hE:nL src T [l])(hT:kJ w)(hp:kI w)(hbig:11≤w.heap.size):
 Calls Tryz.prog 35 #[.string (bs src)] W fun e w'=>∃g c,e=.returned (.tuple #[.slice (some ⟨g,0,none⟩) 1 c,.int .i64 T,.bool true])∧SU w w' g l∧Below W.heap.size W w':=by
 refine(LM W src T [l] hE (hT.below hw) (hp.below hw) (Nat.le_trans hbig hw.size)).mono ?_;rintro e w' ⟨x,n,c,rfl,⟨x',c',h1,h2⟩,hb⟩;obtain⟨g,rfl,h3,h4,h5⟩:=h2 0 (by simp)
 simp only[Value.slice.injEq] at h1;obtain⟨rfl,rfl,rfl⟩:=h1;exact⟨g,_,rfl,⟨h3,Nat.le_trans hw.size h4,h5⟩,hb⟩
theorem TU(k:Nat):(cA k).length≤50:=by
 unfold cA;have:=Hs.digitsF_len 20 ((k:Int).natAbs) [];simp only[List.length_nil] at this;rw[List.length_append];have:(if (k:Int)<0 then ([45]:List UInt8) else []).length≤1:=by split<;>simp
 omega
theorem XE(n:Int)(h1: -9223372036854775808≤n)(h2:n≤9223372036854775807)(w:World)(hT:kJ w)(hp:kI w)(hbig:11≤w.heap.size):
 Calls Tryz.prog 12 #[.int .i64 n] w fun e w'=>e=.returned (.bool true)∧Below w.heap.size w w':=by
 obtain⟨k,hk,HP⟩:=EV n 40 (by omega) (by omega) h1 h2
 obtain⟨d,hd,HQ⟩:=EV n 15 (by omega) (by omega) h1 h2
 have bk:k*(k+1)≤40*40:=Nat.mul_le_mul (by omega) (by omega)
 have bd:d*(d+1)≤15*15:=Nat.mul_le_mul (by omega) (by omega)
 have hit:∀(m:Nat) W,m≤100000→Below w.heap.size w W→Calls Tryz.prog 34 #[.int .i64 m] W fun e w'=>e=.returned (.string (bs (cA m)))∧Below W.heap.size W w':=fun m W hm hW=>C1 m (by omega) (by omega) W (hp.below hW)
 refine RS w n k d (cA k) (cA d) (cA ((k*(k+1)/2:Nat):Int)) (cA ((d*(d+1)/2:Nat):Int)) (fun W=>Below w.heap.size w W) (fun g W=>Below w.heap.size w W∧SU w W g (cA ((k*(k+1)/2:Nat):Int)))
  (fun g g2 W=>Below w.heap.size w W∧SU w W g (cA ((k*(k+1)/2:Nat):Int))∧SU w W g2 (cA ((d*(d+1)/2:Nat):Int)))
  hk hd (TU k) (TU d) (Below.refl _ _) HP HQ (fun W hW=>?_) (fun W hW=>?_) (fun g W hW=>?_) (fun g W hW=>?_) (fun g g2 W hW=>?_) (fun g g2 W hW=>?_) (fun g g2 W hW=>?_) (fun g g2 W hW=>?_) (fun g g2 W hW=>hW.1)
 ·refine(hit k W (by omega) hW).mono ?_
  rintro e w' ⟨he,hb⟩;exact⟨he,hW.trans (hb.mono hW.size)⟩
 ·have hq:=TI w W hW (yI k) (4+3*k) _ (IP k hk) hT hp hbig;unfold yI at hq;rw[←jY,←jY] at hq;refine hq.mono ?_;rintro e w' ⟨g,c,he,ho,hb⟩;exact⟨g,c,he,hW.trans (hb.mono hW.size),ho⟩
 ·refine(hit d W (by omega) hW.1).mono ?_
  rintro e w' ⟨he,hb⟩;exact⟨he,hW.1.trans (hb.mono hW.1.size),hW.2.below hb⟩
 ·have hq:=TI w W hW.1 (yJ d) (3+2*d) _ (EC d hd) hT hp hbig;unfold yJ at hq;rw[←jY,←jY] at hq;refine hq.mono ?_;rintro e w' ⟨g,c,he,ho,hb⟩;exact⟨g,c,he,hW.1.trans (hb.mono hW.1.size),hW.2.below hb,ho⟩
 ·obtain⟨q1,q2,q3⟩:=hW;have hb:Below W.heap.size W W.drew:=⟨rfl,rfl,rfl,Nat.le_refl _,fun _ _=>rfl⟩
  exact⟨q1.trans (hb.mono q1.size),q2.below hb,q3.below hb⟩
 ·exact⟨hW.2.1.1,hW.2.2.1,hW.2.1.2.2,hW.2.2.2.2⟩
 ·refine(hit (k*(k+1)/2) W (by omega) hW.1).mono ?_
  rintro e w' ⟨he,hb⟩;exact⟨he,hW.1.trans (hb.mono hW.1.size),hW.2.1.below hb,hW.2.2.below hb⟩
 ·refine(hit (d*(d+1)/2) W (by omega) hW.1).mono ?_
  rintro e w' ⟨he,hb⟩;exact⟨he,hW.1.trans (hb.mono hW.1.size),hW.2.1.below hb,hW.2.2.below hb⟩
open Go.RowKit Go.Lib
theorem DA{H:Type}{enc:TypeId × Value→H}{P:Program}{w:World}{base:Nat}{sp:Nat→Bool}{held:Bool}{fuel:Nat}{t e:TypeId}{n:Nat}{cs:List Value}{bss:List (List UInt8)}{p:List MemPlace}
 (ht:P.underlying t=some (.array n e)) (he:P.underlying e=some .string) (hce:P.cellsOf e=1) (hct:P.cellsOf t=n) (hl:bss.length=n)
 (h:DataW.trod enc P w base sp held fuel t cs=some (.agg (bss.map fun b=>.lit (.string b)),p)):cs=bss.map fun b=>Value.string (bs b):=by
 obtain⟨xs,m,rfl,hx,hlen,hxl,hel⟩:=DataW.trod_array ht h;rw[hct] at hlen;refine List.ext_getElem? fun i=>?_
 by_cases hi:i<n
 ·have h1:=hel i hi;rw[hce,Nat.mul_one,List.getElem?_eq_getElem (by omega)] at h1
  obtain⟨s,e1,e2,_⟩:=DataW.trod_string he h1;have e3:xs.map (·.1)=bss.map fun b=>(DataW.lit (.string b):DataW H):=(DataW.agg.inj (Prod.mk.inj hx).1).symm
  have e4:(xs.map (·.1))[i]?=(bss.map fun b=>(DataW.lit (.string b):DataW H))[i]?:=by rw[e3]
  rw[List.getElem?_map,List.getElem?_map,List.getElem?_eq_getElem (by omega:i<xs.length),List.getElem?_eq_getElem (by omega:i<bss.length),e2] at e4
  simp only[Option.map_some,Option.some.injEq,DataW.lit.injEq,Lit.string.injEq] at e4;rw[List.getElem?_map,List.getElem?_eq_getElem (by omega:i<bss.length)]
  have h0:((cs.drop i).take 1)[0]?=some (.string s):=by rw[e1];rfl
  have h2:cs[i]?=some (.string s):=by simpa using h0
  rw[h2];simp only[Option.map_some,Option.some.injEq,Value.string.injEq];rw[←e4];rfl
 ·rw[List.getElem?_eq_none (by omega),List.getElem?_eq_none (by simp;omega)]
theorem oB{P:Program}{w:World}{n:String}{g:Nat}{cs:Array Value}(hg:P.globalNamed n=some g)(h:w.var? P n=some cs):∃t fr,w.heap[g]?=some (.cells cs t fr):=by
 simp only[World.var?,hg,Option.bind_some] at h;split at h
 ·next cs' t fr hb=>cases h;exact⟨t,fr,hb⟩
 ·cases h
theorem PL{w:World}{nm:String}{g t n:Nat}{bss:List (List UInt8)}(hg:Tryz.prog.globalNamed nm=some g)(ht:(Tryz.prog.globals[g]?).map (·.type)=some t)(hu:Tryz.prog.underlying t=some (.array n 9))(hct:Tryz.prog.cellsOf t=n)(hl:bss.length=n)
 (h:VarReads Tryz.prog w nm (.agg (bss.map fun b=>.lit (.string b)))):∃ty fr,w.heap[g]?=some (.cells (bss.map fun b=>Value.string (bs b)).toArray ty fr):=by
 obtain⟨g0,t0,cs,fuel,p,hg0,ht0,hv,hd⟩:=h;obtain rfl:=Option.some.inj (hg.symm.trans hg0);obtain rfl:=Option.some.inj (ht.symm.trans ht0);obtain⟨ty,fr,hb⟩:=oB hg hv;have:=DA hu Tryz.underlying9 (by kernel_rfl) hct hl hd
 obtain⟨l⟩:=cs;have e:l=bss.map fun b=>Value.string (bs b):=this
 subst e;exact⟨ty,fr,hb⟩
theorem M0:Tryz.prog.globalNamed "hindsight/syntax.marks"=some 6:=by kernel_rfl
theorem TQ:Tryz.prog.globalNamed "strconv.ErrRange"=some 10:=by kernel_rfl
theorem P9:Tryz.prog.globalNamed "math/bits.deBruijn64tab"=some 8:=by kernel_rfl
theorem I0:(Tryz.prog.globals[(6:Nat)]?).map (·.type)=some 300:=by kernel_rfl
theorem H9:(Tryz.prog.globals[(10:Nat)]?).map (·.type)=some 414:=by kernel_rfl
theorem c_21:Tryz.prog.cellsOf 300=21:=by kernel_rfl
theorem M9:(Rows.laid_hindsight_syntax_marks:DataW Unit)=.agg (cI.map fun b=>.lit (.string b)):=rfl
theorem E0:(Rows.laid_unicode_utf8_acceptRanges:DataW Unit)=acceptData:=by kernel_rfl
theorem N0:Rows.laid_unicode_utf8_first=firstData:=Pinned.utf8First_eq
def O4:Shelf.Ren:=⟨fun x=>x,fun n=>if n=5 then 5 else if n=119 then 409 else if n=138 then 411 else 412,fun n=>if n=3 then 4 else 5⟩
theorem G8:U8Types Tryz.prog O4:=⟨Tryz.underlying5,Tryz.underlying409,Tryz.underlying411,Tryz.underlying412⟩
theorem G9:U8Extra Tryz.prog O4:=⟨by kernel_rfl,by kernel_rfl,by kernel_rfl,by kernel_rfl,by kernel_rfl,by kernel_rfl,by kernel_rfl⟩
theorem S6:Tryz.prog.globalNamed "internal/strconv.uint64pow10"=some 1:=by kernel_rfl
theorem R9:(Tryz.prog.globals[(1:Nat)]?).map (·.type)=some 370:=by kernel_rfl
theorem S7:(Rows.laid_internal_strconv_uint64pow10:DataW Unit)=Lib.tabData .u64 Lib.pow10Tab:=by kernel_rfl
def gR(w:World):Prop:=laidMet Tryz.prog Rows.gaussRow.laid w
theorem gR.big{w:World}(h:gR w):11≤w.heap.size:=by
 obtain⟨g,t,cs,fuel,p,hg,ht,hv,hd⟩:=Lib.laidMet.reads h (n:= "math/bits.deBruijn64tab") (d:=Rows.laid_math_bits_deBruijn64tab) (by simp[Rows.gaussRow])
 obtain⟨ty,fr,hb⟩:=oB P9 hv;obtain⟨g',t',cs',fuel',p',hg',ht',hv',hd'⟩:=Lib.laidMet.reads h (n:= "strconv.ErrRange") (d:=Rows.laid_strconv_ErrRange) (by simp[Rows.gaussRow])
 obtain⟨ty',fr',hb'⟩:=oB TQ hv';rcases Nat.lt_or_ge (8:Nat) w.heap.size with h1|h1
 ·rcases Nat.lt_or_ge (10:Nat) w.heap.size with h2|h2
  ·omega
  ·rw[Array.getElem?_eq_none h2] at hb';cases hb'
 ·rw[Array.getElem?_eq_none h1] at hb;cases hb
theorem gR.marks{w:World}(h:gR w):∃ty fr,w.heap[(6:Nat)]?=some (.cells (cI.map fun b=>Value.string (bs b)).toArray ty fr):=
 PL M0 I0 Tryz.underlying300 c_21 rfl (M9▸Lib.laidMet.reads h (n:= "hindsight/syntax.marks") (by simp[Rows.gaussRow]))
theorem gR.range{w:World}(h:gR w):∃te pe,w.cell? ⟨10,0,none⟩=some (.iface te pe):=by
 obtain⟨g,t,cs,fuel,p,hg,ht,hv,hd⟩:=Lib.laidMet.reads h (n:= "strconv.ErrRange") (d:=Rows.laid_strconv_ErrRange) (by simp[Rows.gaussRow])
 obtain rfl:=Option.some.inj (TQ.symm.trans hg);obtain rfl:=Option.some.inj (H9.symm.trans ht);obtain⟨f1,u,v,e,hn,h1⟩:=iface_of_trod Tryz.underlying414 hd;obtain⟨l⟩:=cs;obtain rfl:l=_:=e;exact⟨u,v,by simpa using World.var?_cell hg hv 0⟩
theorem gR.utf8{w:World}(h:gR w):Lib.Utf8Tabs 4 5 w:=
 utf8Tabs_of_readsT G8 G9 (N0▸Lib.laidMet.reads h (n:= "unicode/utf8.first") (by simp[Rows.gaussRow])) (E0▸Lib.laidMet.reads h (n:= "unicode/utf8.acceptRanges") (by simp[Rows.gaussRow]))
theorem gR.all{w:World}(h:gR w):kJ w:=by
 obtain⟨ty,fr,h1⟩:=h.marks;exact⟨⟨h.range,h.big⟩,⟨⟨ty,fr,h1⟩,h.big⟩,h.utf8⟩
theorem gR.pow{w:World}(h:gR w):kI w:=by
 obtain⟨g,t,cs,fuel,p,hg,ht,hv,hd⟩:=Lib.laidMet.reads h (n:= "internal/strconv.uint64pow10") (d:=Rows.laid_internal_strconv_uint64pow10) (by simp[Rows.gaussRow])
 obtain rfl:=Option.some.inj (S6.symm.trans hg);obtain rfl:=Option.some.inj (R9.symm.trans ht);rw[S7] at hd;have e:=Lib.cells_of_tab Tryz.underlying370 Tryz.underlying282 (by kernel_rfl) (by kernel_rfl) hd
 unfold kI Lib.TabIs;rw[hv,←e]
end Go.Proofs.YtblbkfdhjfppkaaGreatDoor
