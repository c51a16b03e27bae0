/- Plain: an Int as an expression is read back: its tokens. -/
import Derived.Test.YtblbkfdhjfppkaaGreatDoorPart12
import Derived.Test.YtblbkfdhjfppkaaGreatDoorShelf
import Derived.Test.YtblbkfdhjfppkaaGreatDoorPart10
import Derived.KernelRfl
import Derived.Test.YtblbkfdhjfppkaaGreatDoorPart08
import Derived.Deep.RegionHeld
import Derived.Test.YtblbkfdhjfppkaaGreatDoorPart00
import Derived.Test.YtblbkfdhjfppkaaGreatDoorPart09
import Derived.Test.YtblbkfdhjfppkaaGreatDoorPart16
set_option maxRecDepth 100000
set_option maxHeartbeats 4000000
namespace Go.Proofs.YtblbkfdhjfppkaaGreatDoor.Hs
theorem digitsF_len(f:Nat):∀(n:Nat) (t:List UInt8),(digitsF f n t).length≤f+t.length:=by
 induction f with
 |zero=>intro n t;simp[digitsF]
 |succ f ih=>
  intro n t;simp only[digitsF];split
  ·simp;omega
  ·have:=ih (n/10) (UInt8.ofNat (48+n%10)::t);rw[List.length_cons] at this;omega
end Go.Proofs.YtblbkfdhjfppkaaGreatDoor.Hs
namespace Go.Proofs.YtblbkfdhjfppkaaGreatDoor
open Hs
open Go.RowKit
theorem C1(n:Int)(h1: -9223372036854775808≤n)(h2:n≤9223372036854775807)(w:World)(hp:kI w):
 Calls Tryz.prog 34 #[.int .i64 n] w fun e w'=>e=.returned (.string (bs (cA n)))∧Below w.heap.size w w':=by
 refine(Tryz.strconv_Itoa n h1 h2 w hp).mono ?_;rintro e w1 ⟨rfl,k1,os,hw1⟩;exact⟨by rw[rA n h1 h2];rfl,AZ hw1⟩
theorem EV(c:Int)(N:Nat)(hN:0<N)(hN2:N≤1000)(h1: -9223372036854775808≤c)(h2:c≤9223372036854775807):
 ∃k:Nat,k<N∧∀w,Calls Tryz.prog 31 #[.int .i64 c,.int .i64 N] w fun e w'=>e=.returned (.int .i64 k)∧w'=w:=by
 have hz:¬(N:Int)=0:=by omega
 by_cases hc:c<0
 ·have e1:wrap64 (c+1)=c+1:=by unfold wrap64;omega
  have e2:wrap64 (-(c+1))= -(c+1):=by unfold wrap64;omega
  obtain⟨m,hm⟩:∃m:Nat, -(c+1)=(m:Int):=⟨(-(c+1)).toNat,by omega⟩
  have e3:(-(c+1)).tmod N=((m%N:Nat):Int):=by rw[hm];rfl
  refine⟨m%N,Nat.mod_lt _ hN,fun w=>?_⟩
  go_enter Tryz.func31,Tryz.ntmps31;go_wp2_with fail;refine bodyPost_ret (v:=.int .i64 ((m%N:Nat):Int)) ?_ rfl ⟨rfl,rfl⟩;have e4:(c+1).tmod N= -((m%N:Nat):Int):=by rw[show c+1= -(m:Int) by omega,Int.neg_tmod];rfl
  simp[results,Tryz.results31,go_sem]
 ·obtain⟨m,rfl⟩:∃m:Nat,c=(m:Int):=⟨c.toNat,by omega⟩
  refine⟨m%N,Nat.mod_lt _ hN,fun w=>?_⟩
  go_enter Tryz.func31,Tryz.ntmps31;go_wp2_with fail;refine bodyPost_ret (v:=.int .i64 ((m%N:Nat):Int)) (by simp[results,Tryz.results31,go_sem]) rfl ⟨rfl,rfl⟩
theorem RS(w:World)(n:Int)(k d:Nat)(dk dd sk sd:List UInt8)(S0:World→Prop)(S1:Nat→World→Prop)(S2:Nat→Nat→World→Prop)
 (hk:k<40) (hd:d<15) (hlk:dk.length≤50) (hld:dd.length≤50)
 (h0:S0 w)
 (HP:Hid (∀W,Calls Tryz.prog 31 #[.int .i64 n,.int .i64 40] W fun e w'=>e=.returned (.int .i64 k)∧w'=W))
 (HQ:Hid (∀W,Calls Tryz.prog 31 #[.int .i64 n,.int .i64 15] W fun e w'=>e=.returned (.int .i64 d)∧w'=W))
 (HI0:Hid (∀W,S0 W→Calls Tryz.prog 34 #[.int .i64 k] W fun e w'=>e=.returned (.string (bs dk))∧S0 w'))
 (HA:Hid (∀W,S0 W→Calls Tryz.prog 35 #[.string (⟨#[102,117,110,99,32,109,97,105,110,40,41,32,123,32,118,97,114,32,105,32,61,32,48,59,32,118,97,114,32,115,32,61,32,48,59,32,119,104,105,108,101,32,105,32,60,32]⟩++bs dk++⟨#[32,123,32,105,32,61,32,105,32,43,32,49,59,32,115,32,61,32,115,32,43,32,105,59,32,125,32,112,114,105,110,116,32,115,59,32,125]⟩)] W fun e w'=>∃g c,e=.returned (.tuple #[.slice (some ⟨g,0,none⟩) 1 c,.int .i64 ((4+3*k:Nat):Int),.bool true])∧S1 g w'))
 (HI1:Hid (∀g W,S1 g W→Calls Tryz.prog 34 #[.int .i64 d] W fun e w'=>e=.returned (.string (bs dd))∧S1 g w'))
 (HB:Hid (∀g W,S1 g W→Calls Tryz.prog 35 #[.string (⟨#[102,117,110,99,32,102,40,110,41,32,123,32,105,102,32,110,32,61,61,32,48,32,123,32,114,101,116,117,114,110,32,48,59,32,125,32,114,101,116,117,114,110,32,110,32,43,32,102,40,110,32,45,32,49,41,59,32,125,32,102,117,110,99,32,109,97,105,110,40,41,32,123,32,112,114,105,110,116,32,102,40]⟩++bs dd++⟨#[41,59,32,125]⟩)] W fun e w'=>∃g2 c,e=.returned (.tuple #[.slice (some ⟨g2,0,none⟩) 1 c,.int .i64 ((3+2*d:Nat):Int),.bool true])∧S2 g g2 w'))
 (HD:Hid (∀g g2 W,S2 g g2 W→S2 g g2 W.drew))
 (HC:Hid (∀g g2 W,S2 g g2 W→W.cell? ⟨g,0,none⟩=some (.string (bs sk))∧W.cell? ⟨g2,0,none⟩=some (.string (bs sd))∧g<W.heap.size∧g2<W.heap.size))
 (HI2:Hid (∀g g2 W,S2 g g2 W→Calls Tryz.prog 34 #[.int .i64 ((k*(k+1)/2:Nat):Int)] W fun e w'=>e=.returned (.string (bs sk))∧S2 g g2 w'))
 (HI3:Hid (∀g g2 W,S2 g g2 W→Calls Tryz.prog 34 #[.int .i64 ((d*(d+1)/2:Nat):Int)] W fun e w'=>e=.returned (.string (bs sd))∧S2 g g2 w'))
 (HW:Hid (∀g g2 W,S2 g g2 W→Below w.heap.size w W)):
 Calls Tryz.prog 12 #[.int .i64 n] w fun e w'=>e=.returned (.bool true)∧Below w.heap.size w w':=by
 have H0:=aB h0;have hsx:(bs dk).size=dk.length:=gX dk;have hsy:(bs dd).size=dd.length:=gX dd;have z1:(⟨#[102,117,110,99,32,109,97,105,110,40,41,32,123,32,118,97,114,32,105,32,61,32,48,59,32,118,97,114,32,115,32,61,32,48,59,32,119,104,105,108,101,32,105,32,60,32]⟩:ByteArray).size=46:=rfl;clear h0;go_enter Tryz.func12,Tryz.ntmps12;go_wp2_with fail;refine(HP.out _).mono ?_;rintro e w1 ⟨rfl,rfl⟩;clear HP;go_wp2_with fail;refine(HQ.out _).mono ?_;rintro e w2 ⟨rfl,rfl⟩;clear HQ;go_wp2_with fail;refine(HI0.out _ H0.out).mono ?_;rintro e w3 ⟨rfl,h3⟩;have HAA:=aB (HA.out _ h3);clear h3 HI0 HA H0;go_wp2_with fail;refine HAA.out.mono ?_;rintro e w4 ⟨g,c1,rfl,h4⟩;have HII:=aB (HI1.out _ _ h4);clear h4 HI1 HAA;go_wp2_with fail;refine HII.out.mono ?_;rintro e w5 ⟨rfl,h5⟩;have HBB:=aB (HB.out _ _ h5);clear h5 HB HII;go_wp2_with fail;refine HBB.out.mono ?_;rintro e w6 ⟨g2,c2,rfl,h6⟩;have H6:=aB (HD.out _ _ _ h6);have c6:=HC.out _ _ _ (HD.out _ _ _ h6);clear h6 HBB HD;go_wp2_with fail
 have wid:∀x:Nat,x≤100000→IntKind.i64.wrap (x:Int)=(x:Int):=fun x hx=>by
  rw[IntKind.wrap_i64];omega
 have bk:k*(k+1)≤40*40:=Nat.mul_le_mul (by omega) (by omega)
 have bd:d*(d+1)≤15*15:=Nat.mul_le_mul (by omega) (by omega)
 have vk:IntKind.i64.wrap ((IntKind.i64.wrap ((k:Int)*IntKind.i64.wrap ((k:Int)+1))).tdiv 2)=((k*(k+1)/2:Nat):Int):=by
  rw[show (k:Int)+1=((k+1:Nat):Int) by simp,wid (k+1) (by omega),show (k:Int)*((k+1:Nat):Int)=((k*(k+1):Nat):Int) by simp,wid _ (by omega),show (((k*(k+1):Nat):Int)).tdiv 2=((k*(k+1)/2:Nat):Int) from rfl,wid _ (by omega)]
 have vd:IntKind.i64.wrap ((IntKind.i64.wrap ((d:Int)*IntKind.i64.wrap ((d:Int)+1))).tdiv 2)=((d*(d+1)/2:Nat):Int):=by
  rw[show (d:Int)+1=((d+1:Nat):Int) by simp,wid (d+1) (by omega),show (d:Int)*((d+1:Nat):Int)=((d*(d+1):Nat):Int) by simp,wid _ (by omega),show (((d*(d+1):Nat):Int)).tdiv 2=((d*(d+1)/2:Nat):Int) from rfl,wid _ (by omega)]
 have uk:IntKind.i64.wrap (4+IntKind.i64.wrap (3*(k:Int)))=4+3*(k:Int):=by
  rw[show 3*(k:Int)=((3*k:Nat):Int) by simp,wid _ (by omega),show 4+((3*k:Nat):Int)=((4+3*k:Nat):Int) by simp,wid _ (by omega)]
 have ud:IntKind.i64.wrap (3+IntKind.i64.wrap (2*(d:Int)))=3+2*(d:Int):=by
  rw[show 2*(d:Int)=((2*d:Nat):Int) by simp,wid _ (by omega),show 3+((2*d:Nat):Int)=((3+2*d:Nat):Int) by simp,wid _ (by omega)]
 have VK:=aB vk;have VD:=aB vd;have UK:=aB uk;have UD:=aB ud;clear vk vd uk ud bk bd wid;clear hsx hsy z1;refine wp_region_held_drew (S:=fun W=>W.cell? ⟨g,0,none⟩=some (.string (bs sk))∧W.cell? ⟨g2,0,none⟩=some (.string (bs sd))∧g<W.heap.size∧g2<W.heap.size) (by kernel_rfl) c6 (fun hHeld=>?_)
 clear c6;(refine wpAnyH_take (i:=0) (v:=?_) rfl (by kernel_rfl) (by kernel_rfl) (by kernel_rfl) (fun _ _ _ h=>h) (Or.inl ⟨by kernel_rfl,?_⟩) hHeld ?_;rotate_left;(rintro w ⟨q0,q1,q2,q3⟩;go_simp<;>with_reducible rfl))
 (refine wpAnyH_take (i:=1) (v:=?_) rfl (by kernel_rfl) (by kernel_rfl) (by kernel_rfl) (fun _ _ _ h=>h) (Or.inl ⟨by kernel_rfl,?_⟩) hHeld ?_;rotate_left;(rintro w ⟨q0,q1,q2,q3⟩;go_simp<;>with_reducible rfl))
 (refine wpAnyH_take (i:=2) (v:=?_) rfl (by kernel_rfl) (by kernel_rfl) (by kernel_rfl) (fun _ _ _ h=>h) (Or.inl ⟨by kernel_rfl,?_⟩) hHeld ?_;rotate_left;(rintro w ⟨q0,q1,q2,q3⟩;go_simp<;>with_reducible rfl))
 (refine wpAnyH_take (i:=3) (v:=?_) rfl (by kernel_rfl) (by kernel_rfl) (by kernel_rfl) (fun _ _ _ h=>h) (Or.inl ⟨by kernel_rfl,?_⟩) hHeld ?_;rotate_left;(rintro w ⟨q0,q1,q2,q3⟩;go_simp<;>with_reducible rfl))
 (refine wpAnyH_take (i:=4) (v:=?_) rfl (by kernel_rfl) (by kernel_rfl) (by kernel_rfl) (fun _ _ _ h=>h) (Or.inl ⟨by kernel_rfl,?_⟩) hHeld ?_;rotate_left;(rintro w ⟨q0,q1,q2,q3⟩;go_simp<;>with_reducible rfl))
 (refine wpAnyH_take (i:=5) (v:=?_) rfl (by kernel_rfl) (by kernel_rfl) (by kernel_rfl) (fun _ _ _ h=>h) (Or.inl ⟨by kernel_rfl,?_⟩) hHeld ?_;rotate_left;(rintro w ⟨q0,q1,q2,q3⟩;go_simp<;>with_reducible rfl))
 (refine wpAnyH_take (i:=6) (v:=?_) rfl (by kernel_rfl) (by kernel_rfl) (by kernel_rfl) (fun _ _ _ h=>h) (Or.inl ⟨by kernel_rfl,?_⟩) hHeld ?_;rotate_left;(rintro w ⟨q0,q1,q2,q3⟩;go_simp<;>with_reducible rfl))
 (refine wpAnyH_take (i:=7) (v:=?_) rfl (by kernel_rfl) (by kernel_rfl) (by kernel_rfl) (fun _ _ _ h=>h) (Or.inl ⟨by kernel_rfl,?_⟩) hHeld ?_;rotate_left;(rintro w ⟨q0,q1,q2,q3⟩;go_simp<;>with_reducible rfl))
 refine wpAnyH_ready (rs:=[8]) (by kernel_rfl) (by simp) ?_
 refine AllReadyH.cons rfl (fun K hK=>?_) AllReadyH.nil
 go_simp;rw[VK.out];go_at_call 34
 refine(HI2.out _ _ _ H6.out).mono ?_;rintro e w7 ⟨rfl,h7⟩;have H7:=aB h7;have c7:=HC.out _ _ _ h7;clear h7;go_wp2_with fail;refine hK.out _ _ c7 (fun hHeld=>?_)
 clear hK K;(refine wpAnyH_take (i:=9) (v:=?_) rfl (by kernel_rfl) (by kernel_rfl) (by kernel_rfl) (fun _ _ _ h=>h) (Or.inl ⟨by kernel_rfl,?_⟩) hHeld ?_;rotate_left;(rintro w ⟨q0,q1,q2,q3⟩;go_simp<;>with_reducible rfl))
 (refine wpAnyH_take (i:=10) (v:=?_) rfl (by kernel_rfl) (by kernel_rfl) (by kernel_rfl) (fun _ _ _ h=>h) (Or.inl ⟨by kernel_rfl,?_⟩) hHeld ?_;rotate_left;(rintro w ⟨q0,q1,q2,q3⟩;go_simp<;>with_reducible rfl))
 (refine wpAnyH_take (i:=11) (v:=?_) rfl (by kernel_rfl) (by kernel_rfl) (by kernel_rfl) (fun _ _ _ h=>h) (Or.inl ⟨by kernel_rfl,?_⟩) hHeld ?_;rotate_left;(rintro w ⟨q0,q1,q2,q3⟩;go_simp<;>with_reducible rfl))
 (refine wpAnyH_take (i:=12) (v:=?_) rfl (by kernel_rfl) (by kernel_rfl) (by kernel_rfl) (fun _ _ _ h=>h) (Or.inl ⟨by kernel_rfl,?_⟩) hHeld ?_;rotate_left;(rintro w ⟨q0,q1,q2,q3⟩;go_simp<;>with_reducible rfl))
 have uk:=UK.out;(refine wpAnyH_take (i:=13) (v:=?_) rfl (by kernel_rfl) (by kernel_rfl) (by kernel_rfl) (fun _ _ _ h=>h) (Or.inl ⟨by kernel_rfl,?_⟩) hHeld ?_;rotate_left;(rintro w ⟨q0,q1,q2,q3⟩;go_simp<;>with_reducible rfl))
 (refine wpAnyH_take (i:=14) (v:=?_) rfl (by kernel_rfl) (by kernel_rfl) (by kernel_rfl) (fun _ _ _ h=>h) (Or.inl ⟨by kernel_rfl,?_⟩) hHeld ?_;rotate_left;(rintro w ⟨q0,q1,q2,q3⟩;go_simp<;>with_reducible rfl))
 (refine wpAnyH_take (i:=15) (v:=?_) rfl (by kernel_rfl) (by kernel_rfl) (by kernel_rfl) (fun _ _ _ h=>h) (Or.inl ⟨by kernel_rfl,?_⟩) hHeld ?_;rotate_left;(rintro w ⟨q0,q1,q2,q3⟩;go_simp<;>with_reducible rfl))
 clear uk UK;(refine wpAnyH_take (i:=16) (v:=?_) rfl (by kernel_rfl) (by kernel_rfl) (by kernel_rfl) (fun _ _ _ h=>h) (Or.inl ⟨by kernel_rfl,?_⟩) hHeld ?_;rotate_left;(rintro w ⟨q0,q1,q2,q3⟩;go_simp<;>with_reducible rfl))
 (refine wpAnyH_take (i:=17) (v:=?_) rfl (by kernel_rfl) (by kernel_rfl) (by kernel_rfl) (fun _ _ _ h=>h) (Or.inl ⟨by kernel_rfl,?_⟩) hHeld ?_;rotate_left;(rintro w ⟨q0,q1,q2,q3⟩;go_simp<;>with_reducible rfl))
 (refine wpAnyH_take (i:=18) (v:=?_) rfl (by kernel_rfl) (by kernel_rfl) (by kernel_rfl) (fun _ _ _ h=>h) (Or.inl ⟨by kernel_rfl,?_⟩) hHeld ?_;rotate_left;(rintro w ⟨q0,q1,q2,q3⟩;go_simp<;>with_reducible rfl))
 (refine wpAnyH_take (i:=19) (v:=?_) rfl (by kernel_rfl) (by kernel_rfl) (by kernel_rfl) (fun _ _ _ h=>h) (Or.inl ⟨by kernel_rfl,?_⟩) hHeld ?_;rotate_left;(rintro w ⟨q0,q1,q2,q3⟩;go_simp<;>with_reducible rfl))
 (refine wpAnyH_take (i:=20) (v:=?_) rfl (by kernel_rfl) (by kernel_rfl) (by kernel_rfl) (fun _ _ _ h=>h) (Or.inl ⟨by kernel_rfl,?_⟩) hHeld ?_;rotate_left;(rintro w ⟨q0,q1,q2,q3⟩;go_simp<;>with_reducible rfl))
 (refine wpAnyH_take (i:=21) (v:=?_) rfl (by kernel_rfl) (by kernel_rfl) (by kernel_rfl) (fun _ _ _ h=>h) (Or.inl ⟨by kernel_rfl,?_⟩) hHeld ?_;rotate_left;(rintro w ⟨q0,q1,q2,q3⟩;go_simp<;>with_reducible rfl))
 (refine wpAnyH_take (i:=22) (v:=?_) rfl (by kernel_rfl) (by kernel_rfl) (by kernel_rfl) (fun _ _ _ h=>h) (Or.inl ⟨by kernel_rfl,?_⟩) hHeld ?_;rotate_left;(rintro w ⟨q0,q1,q2,q3⟩;go_simp<;>with_reducible rfl))
 (refine wpAnyH_take (i:=23) (v:=?_) rfl (by kernel_rfl) (by kernel_rfl) (by kernel_rfl) (fun _ _ _ h=>h) (Or.inl ⟨by kernel_rfl,?_⟩) hHeld ?_;rotate_left;(rintro w ⟨q0,q1,q2,q3⟩;go_simp<;>with_reducible rfl))
 (refine wpAnyH_take (i:=24) (v:=?_) rfl (by kernel_rfl) (by kernel_rfl) (by kernel_rfl) (fun _ _ _ h=>h) (Or.inl ⟨by kernel_rfl,?_⟩) hHeld ?_;rotate_left;(rintro w ⟨q0,q1,q2,q3⟩;go_simp<;>with_reducible rfl))
 (refine wpAnyH_take (i:=25) (v:=?_) rfl (by kernel_rfl) (by kernel_rfl) (by kernel_rfl) (fun _ _ _ h=>h) (Or.inl ⟨by kernel_rfl,?_⟩) hHeld ?_;rotate_left;(rintro w ⟨q0,q1,q2,q3⟩;go_simp<;>with_reducible rfl))
 refine wpAnyH_ready (rs:=[26]) (by kernel_rfl) (by simp) ?_
 refine AllReadyH.cons rfl (fun K hK=>?_) AllReadyH.nil
 go_simp;rw[VD.out];go_at_call 34
 refine(HI3.out _ _ _ H7.out).mono ?_;rintro e w8 ⟨rfl,h8⟩;have H8:=aB h8;have c8:=HC.out _ _ _ h8;clear h8;go_wp2_with fail;refine hK.out _ _ c8 (fun hHeld=>?_)
 clear hK K;(refine wpAnyH_take (i:=27) (v:=?_) rfl (by kernel_rfl) (by kernel_rfl) (by kernel_rfl) (fun _ _ _ h=>h) (Or.inl ⟨by kernel_rfl,?_⟩) hHeld ?_;rotate_left;(rintro w ⟨q0,q1,q2,q3⟩;go_simp<;>with_reducible rfl))
 (refine wpAnyH_take (i:=28) (v:=?_) rfl (by kernel_rfl) (by kernel_rfl) (by kernel_rfl) (fun _ _ _ h=>h) (Or.inl ⟨by kernel_rfl,?_⟩) hHeld ?_;rotate_left;(rintro w ⟨q0,q1,q2,q3⟩;go_simp<;>with_reducible rfl))
 (refine wpAnyH_take (i:=29) (v:=?_) rfl (by kernel_rfl) (by kernel_rfl) (by kernel_rfl) (fun _ _ _ h=>h) (Or.inl ⟨by kernel_rfl,?_⟩) hHeld ?_;rotate_left;(rintro w ⟨q0,q1,q2,q3⟩;go_simp<;>with_reducible rfl))
 (refine wpAnyH_take (i:=30) (v:=?_) rfl (by kernel_rfl) (by kernel_rfl) (by kernel_rfl) (fun _ _ _ h=>h) (Or.inl ⟨by kernel_rfl,?_⟩) hHeld ?_;rotate_left;(rintro w ⟨q0,q1,q2,q3⟩;go_simp<;>with_reducible rfl))
 have ud:=UD.out;(refine wpAnyH_take (i:=31) (v:=?_) rfl (by kernel_rfl) (by kernel_rfl) (by kernel_rfl) (fun _ _ _ h=>h) (Or.inl ⟨by kernel_rfl,?_⟩) hHeld ?_;rotate_left;(rintro w ⟨q0,q1,q2,q3⟩;go_simp<;>with_reducible rfl))
 (refine wpAnyH_take (i:=32) (v:=?_) rfl (by kernel_rfl) (by kernel_rfl) (by kernel_rfl) (fun _ _ _ h=>h) (Or.inl ⟨by kernel_rfl,?_⟩) hHeld ?_;rotate_left;(rintro w ⟨q0,q1,q2,q3⟩;go_simp<;>with_reducible rfl))
 (refine wpAnyH_take (i:=33) (v:=?_) rfl (by kernel_rfl) (by kernel_rfl) (by kernel_rfl) (fun _ _ _ h=>h) (Or.inl ⟨by kernel_rfl,?_⟩) hHeld ?_;rotate_left;(rintro w ⟨q0,q1,q2,q3⟩;go_simp<;>with_reducible rfl))
 (refine wpAnyH_take (i:=34) (v:=?_) rfl (by kernel_rfl) (by kernel_rfl) (by kernel_rfl) (fun _ _ _ h=>h) (Or.inl ⟨by kernel_rfl,?_⟩) hHeld ?_;rotate_left;(rintro w ⟨q0,q1,q2,q3⟩;go_simp<;>with_reducible rfl))
 (refine wpAnyH_take (i:=35) (v:=?_) rfl (by kernel_rfl) (by kernel_rfl) (by kernel_rfl) (fun _ _ _ h=>h) (Or.inl ⟨by kernel_rfl,?_⟩) hHeld ?_;rotate_left;(rintro w ⟨q0,q1,q2,q3⟩;go_simp<;>with_reducible rfl))
 (refine wpAnyH_take (i:=36) (v:=?_) rfl (by kernel_rfl) (by kernel_rfl) (by kernel_rfl) (fun _ _ _ h=>h) (Or.inl ⟨by kernel_rfl,?_⟩) hHeld ?_;rotate_left;(rintro w ⟨q0,q1,q2,q3⟩;go_simp<;>with_reducible rfl))
 clear ud UD;refine wpAnyH_done (by kernel_rfl) ?_ _
 have HB8:=aB (HW.out _ _ _ H8.out);clear HC HI2 HI3 HW H6 H7 H8 c7 c8 VK VD;go_wp2_with fail;refine bodyPost_ret (v:=.bool true) (by simp[results,Tryz.results12,go_sem]) rfl ⟨rfl,HB8.out⟩
end Go.Proofs.YtblbkfdhjfppkaaGreatDoor
namespace Go.Proofs.YtblbkfdhjfppkaaGreatDoor.Hs
theorem FineL.len{m:Nat}{l:List aC}(h:FineL m l):l.length≤m:=by
 have h1:=(h 1).1
 have:∀l:List aC,l.length≤(l.map (bS 1)).sum:=by
  intro l;induction l with
  |nil=>simp
  |cons x l ih=>simp only[List.map_cons,List.sum_cons,List.length_cons];have:1≤bS 1 x:=by simp[bS]
                omega
 exact Nat.le_trans (this l) h1
theorem FineA.kids{m:Nat}{a:aC}(h:FineA m a):FineL m a.kids:=fun e=>by
 have h1:=(h (e+1)).1;simp only[bS] at h1;exact⟨by omega,(h (e+1)).2.2⟩
theorem wH{a:aC}(h:a.op≠[115])(hk:a.kids=[]):∀d,oQ d a
 |0=>trivial
 |d+1=>⟨fun e=>absurd e h,by simp[hk],fun k h=>by simp[hk] at h⟩
theorem iQ{m:Nat}(hm:m≤1000000):∀(d:Nat) (a:aC),FineA m a→cX a→oQ d a
 |0,_,_,_=>trivial
 |d+1,a,hf,he=>by
  refine⟨fun e=>?_,Nat.le_trans hf.kids.len hm,fun k hk=>iQ hm d k (hf.kids.mem hk) ?_⟩
  ·cases he with
   |leaf _ h hk ht=>exact ht e
   |many _ h hk=>rw[e] at h;exact absurd h (by decide)
   |one _ l h hk hl=>rw[e] at h;exact absurd h (by decide)
   |two _ l r h hk hl hr=>rw[e] at h;exact absurd h (by decide)
  ·cases he with
   |leaf _ h hk' ht=>rw[hk'] at hk;cases hk
   |many _ h hk'=>exact hk' k hk
   |one _ l h hk' hl=>rw[hk',List.mem_singleton] at hk;rw[hk];exact hl
   |two _ l r h hk' hl hr=>
    rw[hk'] at hk;rcases List.mem_cons.1 hk with rfl|hk
    ·exact hl
    ·rw[List.mem_singleton.1 hk];exact hr
theorem FF{m:Nat}(hm:m≤1000000):∀(d:Nat),(∀a,FineA m a→fW a→oQ d a)∧∀t,FineA m t→t.op=[98,108,111,99,107]→(∀k∈t.kids,fW k)→oQ d t
 |0=>⟨fun _ _ _=>trivial,fun _ _ _ _=>trivial⟩
 |d+1=>by
  obtain⟨h1,h2⟩:=FF hm d;refine⟨fun a hf hs=>⟨fun e=>?_,Nat.le_trans hf.kids.len hm,fun k hk=>?_⟩,fun t hf ho hk=>⟨fun e=>?_,Nat.le_trans hf.kids.len hm,fun k hk'=>h1 k (hf.kids.mem hk') (hk k hk')⟩⟩
  ·cases hs<;>rename_i h _<;>simp_all
  ·have hfk:=hf.kids.mem hk;cases hs with
   |var _ t v h hk' hv ht=>
    rw[hk'] at hk;rcases List.mem_cons.1 hk with rfl|hk
    ·exact wH (by rw[ht.1];decide) ht.2 d
    ·obtain rfl:=List.mem_singleton.1 hk;exact iQ hm d _ hfk hv
   |set _ h hn hk'=>exact iQ hm d k hfk (hk' k hk)
   |if2 _ c t h hk' hc ht htk=>
    rw[hk'] at hk;rcases List.mem_cons.1 hk with rfl|hk
    ·exact iQ hm d _ hfk hc
    ·obtain rfl:=List.mem_singleton.1 hk;exact h2 _ hfk ht htk
   |if3 _ c t x h hk' hc ht htk hx hxk=>
    rw[hk'] at hk;rcases List.mem_cons.1 hk with rfl|hk
    ·exact iQ hm d _ hfk hc
    rcases List.mem_cons.1 hk with rfl|hk
    ·exact h2 _ hfk ht htk
    ·obtain rfl:=List.mem_singleton.1 hk;exact h2 _ hfk hx hxk
   |whl _ c t h hk' hc ht htk=>
    rw[hk'] at hk;rcases List.mem_cons.1 hk with rfl|hk
    ·exact iQ hm d _ hfk hc
    ·obtain rfl:=List.mem_singleton.1 hk;exact h2 _ hfk ht htk
   |ret0 _ h hk'=>rw[hk'] at hk;cases hk
   |ret1 _ v h hk' hv=>rw[hk',List.mem_singleton] at hk;subst hk;exact iQ hm d _ hfk hv
   |print _ v h hk' hv=>rw[hk',List.mem_singleton] at hk;subst hk;exact iQ hm d _ hfk hv
   |call _ c h hk' hc ho=>rw[hk',List.mem_singleton] at hk;subst hk;exact iQ hm d _ hfk hc
  ·rw[ho] at e;cases e
theorem DH{l:List UInt8}{ks:List aC}(hp:cR l=.ok ks):∀f∈ks,∀k∈f.kids,lO k:=fun f hf k hk d=>by
 have hfk:FineA 2001 k:=((kC hp).mem hf).kids.mem hk;obtain⟨ps,b,e,h1,h2,h3⟩:=(tK hp f hf).kids;rw[e] at hk;rcases List.mem_append.1 hk with hk|hk
 ·exact wH (by rw[h1 k hk];decide) (h3 k hk) d
 ·obtain rfl:=List.mem_singleton.1 hk;exact(FF (by omega) d).2 _ hfk h2.op h2.kids
def mS(i:aH):Prop:=(∀v,i=.push v→bM v)∧∀op,i=.unary op→op=[45]∨op=[33]
theorem pF{P:aH→Prop}{c:aC→Nat→List aH}:∀(l:List aC) (p:Nat),(∀a∈l,∀q,∀i∈c a q,P i)→∀i∈bO c l p,P i
 |[],_,_,i,hi=>by cases hi
 |a::l,p,h,i,hi=>by
  rcases List.mem_append.1 hi with hi|hi
  ·exact h a (List.mem_cons_self ..) p i hi
  ·exact pF l _ (fun b hb=>h b (List.mem_cons_of_mem _ hb)) i hi
theorem gL{P:aH→Prop}{c:Prop}[Decidable c]{l m:List aH}(h1:c→∀i∈l,P i)(h2:∀i∈m,P i):∀i∈(if c then l else m),P i:=by
 split
 ·exact h1 ‹_›
 ·exact h2
theorem gF{P:aH→Prop}{l:List aH}{x:aH}(h1:∀i∈l,P i)(h2:P x):∀i∈l++[x],P i:=fun i h=>by
 rcases List.mem_append.1 h with h|h
 ·exact h1 i h
 ·rw[List.mem_singleton.1 h];exact h2
theorem nS{P:aH→Prop}{x:aH}(h:P x):∀i∈[x],P i:=gF (l:=[]) (fun _ h=>by cases h) h
theorem mD(fs:List aC)(seen:List (List UInt8)):∀(d:Nat) (a:aC) (p:Nat),lO a→∀i∈aG fs seen d a p,mS i
 |0,_,_,_=>fun i hi=>by cases hi
 |d+1,a,p,hl=>by
  have hk:∀i∈bO (aG fs seen d) a.kids p,mS i:=pF _ _ fun k hk q=>mD fs seen d k q (hl.kid hk)
  have hn:∀x:aH,(∀v,x≠.push v)→(∀op,x≠.unary op)→mS x:=fun x h1 h2=>⟨fun v e=>absurd e (h1 v),fun op e=>absurd e (h2 op)⟩
  have hs:a.op=[115]→cL a.text:=fun h=>((hl 1).1 h).2
  rw[aG];simp only;refine gL (fun _=>nS ⟨fun v e=>by cases e;exact bM.num _,fun op e=>by cases e⟩) ?_
  refine gL (fun h=>nS ⟨fun v e=>by cases e;exact bM.str (hs (by simpa using h)),fun op e=>by cases e⟩) ?_
  refine gL (fun _=>nS ⟨fun v e=>by cases e;exact bM.tru _,fun op e=>by cases e⟩) ?_
  refine gL (fun _=>nS (hn _ (by simp) (by simp))) ?_
  refine gL (fun _=>gF hk (hn _ (by simp) (by simp))) ?_
  refine gL (fun _=>gF hk (hn _ (by simp) (by simp))) ?_
  refine gL (fun _=>gF hk ⟨fun v e=>by (cases e),fun op e=>by cases e;exact Or.inl rfl⟩) ?_
  refine gL (fun _=>gF hk ⟨fun v e=>by (cases e),fun op e=>by cases e;exact Or.inr rfl⟩) ?_
  refine gL (fun _=>gF hk ?_) ?_
  ·repeat' split
   all_goals exact hn _ (by simp) (by simp)
  refine gL (fun _=>?_) (gF hk (hn _ (by simp) (by simp)))
  split
  ·rename_i l r e;refine gF (fun i hi=>?_) (hn _ (by simp) (by simp))
   rcases List.mem_append.1 hi with hi|hi
   ·exact gF (mD fs seen d l _ (hl.kid (by rw[e];simp))) (hn _ (by simp) (by simp)) i hi
   ·exact mD fs seen d r _ (hl.kid (by rw[e];simp)) i hi
  ·intro i hi;cases hi
theorem pB{P:aH→Prop}{c:List (List UInt8)→aC→Nat→List aH × List (List UInt8)}:∀(l:List aC) (seen:List (List UInt8)) (p:Nat),(∀a∈l,∀s q,∀i∈(c s a q).1,P i)→∀i∈bF c seen l p,P i
 |[],_,_,_,i,hi=>by cases hi
 |a::l,seen,p,h,i,hi=>by
  rcases List.mem_append.1 hi with hi|hi
  ·exact h a (List.mem_cons_self ..) seen p i hi
  ·exact pB l _ _ (fun b hb=>h b (List.mem_cons_of_mem _ hb)) i hi
theorem KU(fs:List aC):∀(d:Nat) (seen:List (List UInt8)) (a:aC) (p:Nat),lO a→∀i∈(bA fs d seen a p).1,mS i
 |0,_,_,_,_,i,hi=>by cases hi
 |d+1,seen,a,p,hl,i,hi=>by
  have hx:∀{k:aC} {q:Nat},k∈a.kids→i∈aG fs seen d k q→mS i:=fun hk h=>mD fs seen d _ _ (hl.kid hk) i h
  have hb:∀{k:aC} {q:Nat},k∈a.kids→i∈bF (bA fs d) seen k.kids q→mS i:=fun hk h=>pB _ _ _ (fun x hx s q=>KU fs d s x q ((hl.kid hk).kid hx)) i h
  have hn:∀{x:aH},(∀v,x≠.push v)→(∀op,x≠.unary op)→i=x→mS i:=fun h1 h2 e=>⟨fun v hv=>absurd (e▸hv) (h1 v),fun op ho=>absurd (e▸ho) (h2 op)⟩
  rw[bA] at hi;dsimp only at hi;split at hi
  ·split at hi
   ·rename_i t v e;simp only[List.mem_append,List.mem_cons,List.not_mem_nil,or_false,List.cons_append] at hi;rcases hi with h|h|h
    ·exact hn (by simp) (by simp) h
    ·exact hx (by rw[e];simp) h
    ·exact hn (by simp) (by simp) h
   ·cases hi
  split at hi
  ·simp only[List.mem_append,List.mem_cons,List.not_mem_nil,or_false,List.cons_append] at hi;rcases hi with h|h|h
   ·exact hn (by simp) (by simp) h
   ·exact pF _ _ (fun k hk q=>mD fs seen d k q (hl.kid hk)) i h
   ·exact hn (by simp) (by simp) h
  split at hi
  ·split at hi
   ·rename_i c t e he;simp only[List.mem_append,List.mem_cons,List.not_mem_nil,or_false,List.cons_append] at hi;rcases hi with h|(((h|h)|h)|h)|h
    ·exact hn (by simp) (by simp) h
    ·exact hx (by rw[he];simp) h
    ·exact hn (by simp) (by simp) h
    ·exact hb (by rw[he];simp) h
    ·exact hn (by simp) (by simp) h
    ·split at h
     ·exact hb (by rw[he];simp) h
     ·cases h
   ·cases hi
  split at hi
  ·split at hi
   ·rename_i c b e;simp only[List.mem_append,List.mem_cons,List.not_mem_nil,or_false,List.cons_append] at hi;rcases hi with h|((h|h)|h)|h
    ·exact hn (by simp) (by simp) h
    ·exact hx (by rw[e];simp) h
    ·exact hn (by simp) (by simp) h
    ·exact hb (by rw[e];simp) h
    ·exact hn (by simp) (by simp) h
   ·cases hi
  split at hi
  ·split at hi
   ·rename_i v e;simp only[List.mem_append,List.mem_cons,List.not_mem_nil,or_false,List.cons_append] at hi;rcases hi with h|h|h
    ·exact hn (by simp) (by simp) h
    ·exact hx (by rw[e];simp) h
    ·exact hn (by simp) (by simp) h
   ·simp only[List.mem_cons,List.not_mem_nil,or_false] at hi;rcases hi with h|h|h
    ·exact hn (by simp) (by simp) h
    ·rw[h];exact⟨fun v e=>by cases e;exact bM.num _,fun op e=>by cases e⟩
    ·exact hn (by simp) (by simp) h
  split at hi
  ·split at hi
   ·rename_i v e;simp only[List.mem_append,List.mem_cons,List.not_mem_nil,or_false,List.cons_append] at hi;rcases hi with h|h|h
    ·exact hn (by simp) (by simp) h
    ·exact hx (by rw[e];simp) h
    ·exact hn (by simp) (by simp) h
   ·cases hi
  ·split at hi
   ·rename_i c e;simp only[List.mem_append,List.mem_cons,List.not_mem_nil,or_false,List.cons_append] at hi;rcases hi with h|h|h
    ·exact hn (by simp) (by simp) h
    ·exact hx (by rw[e];simp) h
    ·exact hn (by simp) (by simp) h
   ·cases hi
theorem PE{ks:List aC}{d:Nat}(h:∀f∈ks,∀k∈f.kids,lO k):iW (dK ks d):=fun g hg=>by
 obtain⟨f,hf,rfl⟩:=List.mem_map.1 hg
 have hall:∀i∈(fD ks d f).code,mS i:=fun i hi=>by
  simp only[fD,List.mem_append,List.mem_cons,List.not_mem_nil,or_false] at hi;rcases hi with hi|rfl|rfl
  ·cases hb:f.kids.getLast? with
   |none=>rw[hb] at hi;cases hi
   |some b=>
    rw[hb] at hi;exact pB _ _ _ (fun k hk s q=>KU ks d s k q ((h f hf b (List.mem_of_getLast? hb)).kid hk)) i hi
  ·exact⟨fun v e=>by cases e;exact bM.num _,fun op e=>by cases e⟩
  ·exact⟨fun v e=>by (cases e),fun op e=>by cases e⟩
 exact⟨fun v hv=>(hall _ hv).1 v rfl,fun op ho=>(hall _ ho).2 op rfl⟩
theorem stC_seen{fs:List aC}{d:Nat}{seen:List (List UInt8)}{a:aC}{p:Nat}(h:dI fs d seen a):(bA fs d seen a p).2=cK seen a:=
 (lV fs d seen a (fun _ _=>False) p h ⟨fun _ _ _ h=>h.elim,fun _ _ h=>h.elim⟩).2.1
theorem FZ:∃k:Nat,16*320000+2≤k:=⟨_,Nat.le_refl _⟩
noncomputable def iZ:Nat:=Classical.choose FZ
theorem FY:16*320000+2≤iZ:=Classical.choose_spec FZ
noncomputable def fG(tab:List eJ)(m0:cM):Nat→Option bW
 |0=>(dN tab iZ m0).map fun r=>⟨0,r.1,bQ 0 r.2⟩
 |t+1=>
  match fG tab m0 t with
  |none=>none
  |some s=>if s.stop=0 then (dN tab iZ s.m).map fun r=>⟨t+1,r.1,bQ (t+1) r.2⟩ else none
structure OP(ar:Nat→Option Nat)(s:bW):Prop where
 told:∀x∈s.m.frames,x.seen.length≤x.vars.length
 deep:s.m.frames.length≤16
 ok:s.stop=0→fC ar s.m∧s.m.frames≠[]
 time:s.time≤500
theorem OX{ar:Nat→Option Nat}{m:cM}(h:fC ar m):∃k,wgts m.frames≤m.frames.length*k∧k=320000:=by
 have hone:∀f∈m.frames,iY f≤320000:=fun f hf=>by
  have hc:f.fn.code.length≤80000:=by
   rcases List.eq_nil_or_concat m.frames with h'|⟨b,x,h'⟩
   ·rw[h'] at hf;cases hf
   ·rw[List.concat_eq_append] at h';have h1:=h.ok.low;have h2:=h.ok.top x (by rw[h'];exact eW _ _)
    rw[h',fQ] at h1;rw[h'] at hf;rcases List.mem_append.1 hf with hf|hf
    ·obtain⟨T,hT,_⟩:=(h1 f hf).code;exact hT.len
    ·obtain⟨T,hT,_⟩:=h2.code;rw[List.mem_singleton.1 hf];exact hT.len
  unfold iY;split
  ·omega
  ·split<;>omega
 have:∀l:List aK,(∀f∈l,iY f≤320000)→wgts l≤l.length*320000:=by
  intro l;induction l with
  |nil=>intro _;simp[wgts]
  |cons x l ih=>
   intro h;have h1:=h x (List.mem_cons_self ..);have h2:=ih fun f hf=>h f (List.mem_cons_of_mem _ hf)
   unfold wgts at h2 ⊢
   simp only[List.map_cons,List.sum_cons,List.length_cons,Nat.succ_mul];omega
 exact⟨320000,this m.frames hone,rfl⟩
theorem nO{ar:Nat→Option Nat}{tab:List eJ}(ht:jF ar tab){m:cM}(h:fC ar m):∃r,dN tab iZ m=some r∧KE ar r:=
 kO ht iZ m h (by
  obtain⟨k,h1,h2⟩:=OX h;have h3:=Nat.mul_le_mul_right k h.ok.deep;have:=FY;omega)
theorem zX{ar:Nat→Option Nat}{tab:List eJ}(ht:jF ar tab){m0:cM}(h0:fC ar m0):∀(t:Nat) (s:bW),fG tab m0 t=some s→OP ar s∧s.time=t
 |0,s,h=>by
  obtain⟨r,hr,hc⟩:=nO ht h0;simp only[fG,hr,Option.map_some,Option.some.injEq] at h;subst h
  exact⟨⟨hc.told,hc.deep,fun hz=>hc.ok (by simp only[bQ] at hz;split at hz;·simp at hz
                                           ·exact hz),by simp⟩,rfl⟩
 |t+1,s,h=>by
  rw[fG] at h;cases hs:fG tab m0 t with
  |none=>rw[hs] at h;cases h
  |some s0=>
   rw[hs] at h;simp only at h;obtain⟨k1,k2⟩:=zX ht h0 t s0 hs;split at h
   ·rename_i hz;obtain⟨r,hr,hc⟩:=nO ht (k1.ok hz).1;rw[hr] at h;simp only[Option.map_some,Option.some.injEq] at h;subst h
    refine⟨⟨hc.told,hc.deep,fun hz'=>hc.ok (by simp only[bQ] at hz';split at hz';·simp at hz'
                                               ·exact hz'),?_⟩,rfl⟩
    show t+1≤500
    have ht5:t≠500:=by
     intro e;cases t with
     |zero=>simp at e
     |succ u=>
      rw[fG] at hs;cases hu:fG tab m0 u with
      |none=>rw[hu] at hs;cases hs
      |some su=>
       rw[hu] at hs;simp only at hs;split at hs
       ·cases hru:dN tab iZ su.m with
        |none=>rw[hru] at hs;cases hs
        |some ru=>
         rw[hru] at hs;simp only[Option.map_some,Option.some.injEq] at hs;subst hs;simp only[bQ] at hz;split at hz
         ·simp at hz
         ·rename_i hno;exact hno ⟨hz,e⟩
       ·cases hs
    have:=k1.time;omega
   ·cases h
theorem vU{tab:List eJ}{r:cM × Nat}(j:Nat):∀(k:Nat) (m:cM),dN tab k m=some r→dN tab (k+j) m=some r
 |0,_,h=>by cases h
 |k+1,m,h=>by
  rw[show k+1+j=(k+j)+1 by omega]
  rw[dN] at h ⊢
  cases hl:m.frames.getLast? with
  |none=>rw[hl] at h;exact h
  |some f=>
   rw[hl] at h;simp only at h ⊢
   cases hf:f.fetch with
   |none=>rw[hf] at h;cases h
   |some ig=>
    rw[hf] at h;simp only at h ⊢
    split at h
    ·rename_i h1;rw[if_pos h1];exact h
    rename_i h1;rw[if_neg h1];split at h
    ·rename_i h2;rw[if_pos h2];exact h
    rename_i h2;rw[if_neg h2];exact vU j k _ h
noncomputable def tH(tab:List eJ)(k:Nat):Nat→Nat→cM→Option bW
 |0,_,_=>none
 |n+1,t,m=>
  match dN tab k m with
  |none=>none
  |some r=>if r.2=0∧t≠500 then tH tab k n (t+1) r.1 else some ⟨t,r.1,bQ t r.2⟩
theorem AH{tab:List eJ}{m0:cM}{k:Nat}(hk:k≤iZ){z:bW}:∀(n t:Nat) (m:cM),tH tab k n t m=some z→(∀r,dN tab iZ m=some r→fG tab m0 t=some ⟨t,r.1,bQ t r.2⟩)→fG tab m0 z.time=some z
 |0,_,_,h,_=>by cases h
 |n+1,t,m,h,hs=>by
  rw[tH] at h;cases hr:dN tab k m with
  |none=>rw[hr] at h;cases h
  |some r=>
   rw[hr] at h;simp only at h
   have hb:dN tab iZ m=some r:=by
    have:=vU (iZ-k) k m hr;rwa [show k+(iZ-k)=iZ by omega] at this
   have h0:=hs r hb;split at h
   ·rename_i hc;refine AH hk n (t+1) r.1 h fun r' hr'=>?_
    have hz:bQ t r.2=0:=by unfold bQ;rw[if_neg (by omega)];exact hc.1
    rw[fG,h0];simp only[hz,if_true,hr',Option.map_some]
   ·cases h;exact h0
def nL(src:List UInt8)(t:Nat)(out:List (List UInt8)):Prop:=∃ks tp,cR src=.ok ks∧dF src=(0,0)∧fG (dK ks 2001) (gG ks 2001 []) t=some ⟨t,⟨[],tp,out⟩,1⟩
noncomputable def tP(src:List UInt8)(t:Nat)(out:List (List UInt8)):Bool:=
 match cR src with
 |.error _=>false
 |.ok ks=>
  decide (jU 2001 ks=(0,0)) && match tH (dK ks 2001) 100 200 0 (gG ks 2001 []) with
   |none=>false
   |some z=>z.time==t && (z.stop==1 && (z.m.frames.isEmpty && z.m.out==out))
theorem BF{src:List UInt8}{t:Nat}{out:List (List UInt8)}(h:tP src t out=true):nL src t out:=by
 unfold tP at h;cases hp:cR src with
 |error e=>rw[hp] at h;cases h
 |ok ks=>
  rw[hp] at h;simp only[Bool.and_eq_true,decide_eq_true_eq] at h;obtain⟨h1,h2⟩:=h;cases hz:tH (dK ks 2001) 100 200 0 (gG ks 2001 []) with
  |none=>rw[hz] at h2;cases h2
  |some z=>
   rw[hz] at h2;simp only[Bool.and_eq_true,beq_iff_eq,List.isEmpty_iff] at h2;have:=AH (m0:=gG ks 2001 []) (by have:=FY;omega) 200 0 _ hz fun r hr=>by rw[fG,hr];rfl
   obtain⟨zt,⟨zf,ztp,zo⟩,zs⟩:=z;simp only at h2 this;obtain⟨rfl,rfl,rfl,rfl⟩:=h2;exact⟨ks,ztp,hp,by unfold dF;rw[hp];exact h1,this⟩
def yI(k:Nat):List UInt8:=[102,117,110,99,32,109,97,105,110,40,41,32,123,32,118,97,114,32,105,32,61,32,48,59,32,118,97,114,32,115,32,61,32,48,59,32,119,104,105,108,101,32,105,32,60,32]++cA k++[32,123,32,105,32,61,32,105,32,43,32,49,59,32,115,32,61,32,115,32,43,32,105,59,32,125,32,112,114,105,110,116,32,115,59,32,125]
def yJ(k:Nat):List UInt8:=[102,117,110,99,32,102,40,110,41,32,123,32,105,102,32,110,32,61,61,32,48,32,123,32,114,101,116,117,114,110,32,48,59,32,125,32,114,101,116,117,114,110,32,110,32,43,32,102,40,110,32,45,32,49,41,59,32,125,32,102,117,110,99,32,109,97,105,110,40,41,32,123,32,112,114,105,110,116,32,102,40]++cA k++[41,59,32,125]
theorem IP:∀k,k<40→nL (yI k) (4+3*k) [cA ((k*(k+1)/2:Nat):Int)]:=by
 have h:((List.range 40).all fun k=>tP (yI k) (4+3*k) [cA ((k*(k+1)/2:Nat):Int)])=true:=by decide+kernel
 exact fun k hk=>BF (List.all_eq_true.1 h k (List.mem_range.2 hk))
theorem EC:∀k,k<15→nL (yJ k) (3+2*k) [cA ((k*(k+1)/2:Nat):Int)]:=by
 have h:((List.range 15).all fun k=>tP (yJ k) (3+2*k) [cA ((k*(k+1)/2:Nat):Int)])=true:=by decide+kernel
 exact fun k hk=>BF (List.all_eq_true.1 h k (List.mem_range.2 hk))
end Go.Proofs.YtblbkfdhjfppkaaGreatDoor.Hs
namespace Go.Proofs.YtblbkfdhjfppkaaGreatDoor
open Hs
open Go.RowKit
theorem rN:∀(l:List aI) (a v:aI),(cF l a v).2≤9
 |[],_,_=>by simp[cF]
 |i::l,a,v=>by
  unfold cF;have:=rN l (a.l.getD i.n.toNat bK) v;repeat' split
  all_goals first|(simp;done)|exact this
theorem wI{r:aI × Nat}(h:r.2≤9):(gO r).2≤9:=by
 unfold gO;split
 ·split
  ·simp
  ·exact h
 ·exact h
theorem UJ(op:List UInt8)(a b:aI):(eG op a b).2≤9:=by
 unfold eG iL iK;repeat' split
 all_goals first|(simp;done)|(simp only[];split<;>simp)
theorem VV(op:List UInt8)(a:aI):(fB op a).2≤9:=by
 unfold fB;repeat' split
 all_goals simp
theorem MS(a b:aI):(cV a b).2≤9:=by
 unfold cV;repeat' split
 all_goals simp
theorem IR(a:aI):(dT a).2≤9:=by
 unfold dT;repeat' split
 all_goals simp
theorem IX(i:aH)(f:aK):(aN i f).2≤9:=by
 cases i<;>simp only[aN]
 case assign k n=>
  have:=wI (rN (f.pop.many n) (f.vars[k]?.getD bK) f.last);split
  ·simp
  ·exact this
 case unary op=>
  have:=VV (op++[120]) f.last;split
  ·simp
  ·exact this
 case binary op=>
  have:=UJ op f.pop.last f.last;split
  ·simp
  ·exact this
 case index=>
  have:=MS f.pop.last f.last;split
  ·simp
  ·exact this
 case list n=>
  have:=wI (r:=(aU (f.many n),0)) (by simp)
  split
  ·simp
  ·exact this
 case length=>
  have:=IR f.last;split
  ·simp
  ·exact this
 all_goals (repeat' split)<;>simp
theorem D9(tab:List eJ)(i:aH)(below:List aK)(f:aK)(t:List Int)(o:List (List UInt8)):(cC tab i below f t o).2≤9:=by
 cases i<;>simp only[cC]<;>first|exact IX _ _|skip
 case read=>cases t<;>simp
 case call=>split<;>simp
 case give=>simp
 case print=>split<;>simp
structure Rest(n:Nat)(m:cM):Prop where
 utf:fL m
 out:m.out.length≤50
 tape:m.tape.length≤n
theorem oS{tab:List eJ}(ht:iW tab){n:Nat}:∀(k:Nat) (m:cM) (r:cM × Nat),Rest n m→dN tab k m=some r→Rest n r.1∧r.2≤9
 |0,_,_,_,h=>by cases h
 |k+1,m,r,hm,h=>by
  rw[dN] at h;cases hl:m.frames.getLast? with
  |none=>
   rw[hl] at h;simp only[Option.some.injEq] at h;subst h;exact⟨hm,by simp⟩
  |some f=>
   rw[hl] at h;simp only at h;cases hf:f.fetch with
   |none=>rw[hf] at h;cases h
   |some ig=>
    obtain⟨i,g⟩:=ig;rw[hf] at h;simp only at h
    have hfr:m.frames=m.frames.dropLast++[f]:=by
     obtain⟨ys,hy⟩:=List.getLast?_eq_some_iff.1 hl;rw[hy];simp
    have hutf:fL ⟨m.frames.dropLast++[f],m.tape,m.out⟩:=by
     have:=hm.utf;unfold fL at this ⊢
     rw[←hfr];exact this
    have hr:Rest n (cC tab i m.frames.dropLast g m.tape m.out).1:=⟨BT ht hutf hf,TT hm.out,Nat.le_trans NS hm.tape⟩;have hs:=D9 tab i m.frames.dropLast g m.tape m.out;split at h
    ·simp only[Option.some.injEq] at h;subst h;exact⟨hr,hs⟩
    ·split at h
     ·simp only[Option.some.injEq] at h;subst h;exact⟨hr,hs⟩
     ·exact oS ht k _ _ hr h
theorem ER{tab:List eJ}(ht:iW tab){n:Nat}{m0:cM}(h0:Rest n m0):∀(t:Nat) (s:bW),fG tab m0 t=some s→Rest n s.m∧s.stop≤9
 |0,s,h=>by
  rw[fG] at h;cases hr:dN tab iZ m0 with
  |none=>rw[hr] at h;cases h
  |some r=>
   rw[hr] at h;simp only[Option.map_some,Option.some.injEq] at h;subst h;obtain⟨h1,h2⟩:=oS ht _ _ _ h0 hr;exact⟨h1,by simp only[bQ];split<;>omega⟩
 |t+1,s,h=>by
  rw[fG] at h;cases hs:fG tab m0 t with
  |none=>rw[hs] at h;cases h
  |some s0=>
   rw[hs] at h;simp only at h;split at h
   ·cases hr:dN tab iZ s0.m with
    |none=>rw[hr] at h;cases h
    |some r=>
     rw[hr] at h;simp only[Option.map_some,Option.some.injEq] at h;subst h;obtain⟨h1,h2⟩:=oS ht _ _ _ (ER ht h0 t s0 hs).1 hr;exact⟨h1,by simp only[bQ];split<;>omega⟩
   ·cases h
theorem PU(w:World)(sb:Nat)(a:Nat)(e:Int)(x1 x2 x3:Option Addr)(n1 n2 n3 c1 c2 c3:Nat)(P:World→Prop)(hm:a%20=0)(ha:a≤1000000)
 (HK:Hid (∀W',Below w.heap.size w W'→Calls Tryz.prog 126 #[.pointer (some ⟨sb,5,none⟩),.int .i64 a,.agg #[.int .i64 a,.slice x1 n1 c1,.slice x2 n2 c2,.slice x3 n3 c3,.int .i64 e]] W' fun en w'=>en=.returned (.tuple #[])∧P w')):
 Calls Tryz.prog 71 #[.pointer (some ⟨sb,0,none⟩),.agg #[.int .i64 a,.slice x1 n1 c1,.slice x2 n2 c2,.slice x3 n3 c3,.int .i64 e]] w fun en w'=>en=.returned (.tuple #[])∧P w':=by
 have em:(a:Int)%20=0:=by omega
 have em2:(a:Int).tmod 20=0:=by rw[Int.tmod_eq_emod_of_nonneg (by omega)];exact em
 go_enter Tryz.func71,Tryz.ntmps71;go_wp2_with fail;refine(yT a e x1 x2 x3 n1 n2 n3 c1 c2 c3 _).mono ?_;rintro en w1 ⟨rfl,rfl⟩;go_wp2_with fail;go_region_law (go_simp;first|(go_at_call 106;refine(yT a e x1 x2 x3 n1 n2 n3 c1 c2 c3 _).mono ?_;rintro en w2 ⟨rfl,rfl⟩)|(go_at_call 126;refine(HK.out _ ((((Below.refl _ w).alloc (Nat.le_refl _) _).alloc (by simp) _).alloc (by simp;omega) _).drew).mono ?_;rintro en w3 ⟨rfl,h3⟩;have H3:=aB h3;clear h3))
 all_goals
  go_wp2_with fail;go_end0;exact⟨rfl,H3.out⟩
theorem UX(w:World)(sb:Nat)(a:Nat)(e:Int)(x1 x2 x3:Option Addr)(n1 n2 n3 c1 c2 c3:Nat)(hm:a%20≠0)(ha:a≤1000000):
 Calls Tryz.prog 71 #[.pointer (some ⟨sb,0,none⟩),.agg #[.int .i64 a,.slice x1 n1 c1,.slice x2 n2 c2,.slice x3 n3 c3,.int .i64 e]] w fun en w'=>en=.returned (.tuple #[])∧Below w.heap.size w w':=by
 have em:¬(a:Int)%20=0:=by omega
 have em2:¬(a:Int).tmod 20=0:=by rw[Int.tmod_eq_emod_of_nonneg (by omega)];exact em
 go_enter Tryz.func71,Tryz.ntmps71;go_wp2_with fail;refine(yT a e x1 x2 x3 n1 n2 n3 c1 c2 c3 _).mono ?_;rintro en w1 ⟨rfl,rfl⟩;go_wp2_with fail;go_end0;exact⟨rfl,((Below.refl _ w).alloc (Nat.le_refl _) _).alloc (by simp) _⟩
theorem IZ(l m:List Ent):iM (l++m)=iM l++iM m:=by
 induction l with
 |nil=>rfl
 |cons x l ih=>simp[iM,ih]
theorem IY(l:List Ent):(iM l).length=l.length*6:=by
 induction l with
 |nil=>rfl
 |cons x l ih=>simp[iM,ih,Ent.cells];omega
theorem FN:∀(l:List Ent) (i j:Nat) (h:i<l.length),j<6→(iM l)[i*6+j]?=(l[i].cells)[j]?
 |x::l,0,j,h,hj=>by
  simp only[iM,Nat.zero_mul,Nat.zero_add,List.getElem_cons_zero];rw[List.getElem?_append_left (by simpa [Ent.cells] using hj)]
 |x::l,i+1,j,h,hj=>by
  have:=FN l i j (by simpa using h) hj
  simp only[iM,List.getElem_cons_succ];rw[List.getElem?_append_right (by simp[Ent.cells];omega),←this]
  congr 1
  simp[Ent.cells];omega
theorem FM:∀(l:List Ent) (i:Nat) (x:Ent) (h:i<l.length),x.k=l[i].k→iM (l.set i x)=(((((iM l).set (i*6+1) (.int .i64 x.a)).set (i*6+2) x.b).set (i*6+3) x.c).set (i*6+4) x.d).set (i*6+5) (.int .i64 x.e)
 |y::l,0,x,h,hk=>by
  simp only[List.getElem_cons_zero] at hk;simp[iM,Ent.cells,hk]
 |y::l,i+1,x,h,hk=>by
  have ih:=FM l i x (by simpa using h) (by simpa using hk)
  have e:∀j,(i+1)*6+j=i*6+j+6:=fun j=>by omega
  simp only[List.set_cons_succ,iM,e,Ent.cells,List.cons_append,List.nil_append];rw[ih]
def YO(fp:Nat→Value)(F:Nat→Prop)(w:World)(st:Nat→Option bW)(i:Nat)(x:Ent):Prop:=
 x.k=((20*i:Nat):Int)∧∃s,st (20*i)=some s∧mX fp F w (.agg #[.int .i64 x.a,x.b,x.c,x.d,.int .i64 x.e]) s
theorem YO.keep{fp:Nat→Value}{F G:Nat→Prop}{w w':World}{st:Nat→Option bW}{i:Nat}{x:Ent}(h:YO fp F w st i x)(hk:∀b,F b→w'.heap[b]?=w.heap[b]?)(hF:∀b,F b→G b):YO fp G w' st i x:=by
 obtain⟨h1,s,h2,h3⟩:=h;exact⟨h1,s,h2,h3.keep hk hF⟩
theorem YO.ok{fp:Nat→Value}{F:Nat→Prop}{w:World}{st:Nat→Option bW}{i:Nat}{x:Ent}(h:YO fp F w st i x):x.Ok:=by
 obtain⟨_,s,_,h3⟩:=h;obtain⟨fv,tv,xo,e,f1,f2,f3⟩:=h3.form;simp only[Value.agg.injEq] at e;have e1:=congrArg (fun z=>z[1]?) e
 have e2:=congrArg (fun z=>z[2]?) e
 have e3:=congrArg (fun z=>z[3]?) e
 simp at e1 e2 e3;subst e1 e2 e3;exact⟨f1,f2,f3⟩
structure kA(fp:Nat→Value)(F:Nat→Prop)(w:World)(sb mb:Nat)(mo:Obj)(st:Nat→Option bW)(s:bW)(n:Nat):Prop where
 blk:∃fv tv ov ev es,w.heap[sb]?=some (.cells #[.int .i64 s.time,fv,tv,ov,.int .i64 s.stop,ev,.map (some mb)] 114 (0,0))∧mX fp F w (.agg #[.int .i64 s.time,fv,tv,ov,.int .i64 s.stop]) s∧
  w.ownsRow (sb+1) 265 6 ev n (iM es)∧es.length=n∧(∀i (h:i<es.length),YO fp F w st i es[i])∧(∀k,F k→ev.ownBlock≠some k)∧ev.ownBlock≠some mb
 now:st s.time=some s
 fix:∀k,F k→k<w.heap.size∧k≠sb∧k≠mb
 map:w.heap[mb]?=some mo∧mb≠sb
def lD(sb:Nat)(w:World):Option Nat:=match w.heap[sb]? with|some (.cells c _ _)=>(c[5]?).bind Value.ownBlock|_=>none
theorem nQ{sb:Nat}{w w':World}(h:w'.heap[sb]?=w.heap[sb]?):lD sb w'=lD sb w:=by unfold lD;rw[h]
theorem lJ{sb:Nat}{w:World}{c:Array Value}{T:TypeId}{z:Nat × Nat}{v:Value}(h:w.heap[sb]?=some (.cells c T z))(hv:c[5]?=some v):lD sb w=v.ownBlock:=by unfold lD;rw[h];simp[hv]
structure FS(sb:Nat)(w w':World):Prop where
 os:w'.os=w.os
 tape:w'.tape=w.tape
 output:w'.output=w.output
 size:w.heap.size≤w'.heap.size
 blk:∀k,k<w.heap.size→k≠sb→lD sb w≠some k→w'.heap[k]?=w.heap[k]?
 row:∀k,lD sb w'=some k→lD sb w=some k∨w.heap.size≤k
theorem FS.trans{sb:Nat}{a b c:World}(h:FS sb a b)(k:FS sb b c):FS sb a c:=by
 refine⟨k.os.trans h.os,k.tape.trans h.tape,k.output.trans h.output,Nat.le_trans h.size k.size,fun i hi hc hr=>?_,fun i hi=>?_⟩
 ·rw[k.blk i (Nat.lt_of_lt_of_le hi h.size) hc (fun e=>?_),h.blk i hi hc hr]
  rcases h.row i e with h1|h1
  ·exact hr h1
  ·omega
 ·rcases k.row i hi with h1|h1
  ·exact h.row i h1
  ·exact Or.inr (Nat.le_trans h.size h1)
theorem FS.of_below{sb:Nat}{w w':World}(h:Below w.heap.size w w')(hs:sb<w.heap.size):FS sb w w':=
 ⟨h.os,h.tape,h.output,h.size,fun k hk _ _=>h.block k hk,fun k hk=>Or.inl (by rw[←nQ (h.block sb hs)];exact hk)⟩
section
variable {fp:Nat→Value} {F G:Nat→Prop} {w w':World} {sb mb n:Nat} {mo:Obj} {st:Nat→Option bW} {s:bW}
theorem kA.lt(h:kA fp F w sb mb mo st s n):sb<w.heap.size:=by
 obtain⟨_,_,_,_,_,h1,_⟩:=h.blk;exact aD h1
theorem kA.row(h:kA fp F w sb mb mo st s n):∀k,lD sb w=some k→sb<k∧k<w.heap.size∧¬F k∧k≠mb:=by
 obtain⟨_,_,_,ev,_,h1,_,h3,_,_,h6,h7⟩:=h.blk;intro k hk;rw[lJ h1 rfl] at hk;have:=h3.lt k hk;exact⟨by omega,this.2,fun hF=>h6 k hF hk,fun e=>h7 (by rw[←e];exact hk)⟩
theorem kA.grow(h:kA fp F w sb mb mo st s n)(hb:Below w.heap.size w w')(hF:∀k,F k→G k)(hG:∀k,G k→F k∨(w.heap.size≤k∧k<w'.heap.size)):kA fp G w' sb mb mo st s n:=by
 have hlt:=h.lt;obtain⟨fv,tv,ov,ev,es,h1,h2,h3,h4,h5,h6,h7⟩:=h.blk;have hk:∀b,F b→w'.heap[b]?=w.heap[b]?:=fun b hb'=>hb.block b (h.fix b hb').1
 refine⟨⟨fv,tv,ov,ev,es,by rw[hb.block _ hlt];exact h1,h2.keep hk hF,iA h3 hb,h4,fun i hi=>(h5 i hi).keep hk hF,fun k hk'=>?_,h7⟩,h.now,fun k hk'=>?_,by rw[hb.block _ (aD h.map.1)];exact h.map⟩
 ·rcases hG k hk' with h8|h8
  ·exact h6 k h8
  ·intro e;have:=(h3.lt k e).2;omega
 ·rcases hG k hk' with h8|h8
  ·have:=h.fix k h8;exact⟨Nat.lt_of_lt_of_le this.1 hb.size,this.2⟩
  ·have:=aD h.map.1;exact⟨h8.2,by omega,by omega⟩
theorem M2{es:List Ent}{base g cap:Nat}(h:w.ownsRow base 265 6 (.slice (some ⟨g,0,none⟩) es.length cap) es.length (iM es))(hok:∀i (h:i<es.length),es[i].Ok):G3 w g es:=fun i hi=>by
 have c:∀j u,j<6→(es[i].cells)[j]?=some u→w.cell? ⟨g,i*6+j,none⟩=some u:=fun j u hj hu=>by
  have:=h.cells (g:=g) rfl (i*6+j) u (by rw[FN es i j hi hj];exact hu)
  rw[yL] at this;exact this
 exact⟨hok i hi,c 0 _ (by omega) rfl,c 1 _ (by omega) rfl,c 2 _ (by omega) rfl,c 3 _ (by omega) rfl,c 4 _ (by omega) rfl,c 5 _ (by omega) rfl⟩
theorem TD{es:List Ent}{base g cap i:Nat}{W:World}{a e:Int}{b c d:Value}(h:w.ownsRow base 265 6 (.slice (some ⟨g,0,none⟩) es.length cap) es.length (iM es))(hi:i<es.length)
 (hW:W.heap=(((((w.setCell ⟨g,i*6+1,none⟩ (.int .i64 a)).setCell ⟨g,i*6+2,none⟩ b).setCell ⟨g,i*6+3,none⟩ c).setCell ⟨g,i*6+4,none⟩ d).setCell ⟨g,i*6+5,none⟩ (.int .i64 e)).heap):
 W.ownsRow base 265 6 (.slice (some ⟨g,0,none⟩) es.length cap) es.length (iM (es.set i ⟨es[i].k,a,b,c,d,e⟩)):=by
 rcases h.2 with ⟨r1,_⟩|⟨g',cap',cur,r1,r2,r3,r4,r5,r6,r7⟩
 ·cases r1
 cases r1;refine⟨by simp[IY],Or.inr ⟨g,cap,_,rfl,r2,by rw[hW];exact aQ (aQ (aQ (aQ (aQ r3)))),r4,r5,by simpa using r6,?_⟩⟩
 rw[FM es i ⟨es[i].k,a,b,c,d,e⟩ hi rfl,←r7];simp only[Array.toList_setIfInBounds,List.take_set]
end
structure U6(n:Nat)(key:Int)(at_:Nat)(fd:Bool):Prop where
 le:at_≤n
 lo:∀i,i<at_→((20*i:Nat):Int)<key
 hi:∀i,i<n→at_≤i→key≤((20*i:Nat):Int)
 fnd:fd=true↔at_<n∧((20*at_:Nat):Int)=key
section
variable {fp:Nat→Value} {F G:Nat→Prop} {w w':World} {sb mb n:Nat} {mo:Obj} {st:Nat→Option bW} {s:bW}
theorem ET(h:kA fp F w sb mb mo st s n)(key:Int)(hn:n≤1000):
 Calls Tryz.prog 162 #[.pointer (some ⟨sb,5,none⟩),.int .i64 key] w fun e w'=>∃(at_:Nat) (fd:Bool),e=.returned (.tuple #[.int .i64 at_,.bool fd])∧Below w.heap.size w w'∧U6 n key at_ fd:=by
 obtain⟨fv,tv,ov,ev,es,h1,h2,h3,h4,h5,h6,h7⟩:=h.blk;have hk:∀i (h:i<es.length),es[i].k=((20*i:Nat):Int):=fun i hi=>(h5 i hi).1
 have c5:w.cell? ⟨sb,5,none⟩=some ev:=aA h1 rfl;subst h4;rcases h3.2 with ⟨r1,r2⟩|⟨g,cap,cur,r1,r2,r3,r4,r5⟩
 ·subst r1;refine(FP w sb none 0 0 key (fun a f w'=>a=0∧f=false∧w'=w) c5 ((PY key w).mono ?_)).mono ?_
  ·rintro e w' ⟨rfl,rfl⟩;exact⟨0,false,rfl,rfl,rfl,rfl⟩
  ·rintro e w' ⟨a,f,rfl,rfl,rfl,rfl⟩;exact⟨0,false,rfl,Below.refl _ _,Nat.zero_le _,fun i hi=>by omega,fun i hi _=>by omega,by simp;omega⟩
 ·subst r1;refine(FP w sb (some ⟨g,0,none⟩) es.length cap key (fun a f w'=>∃at_:Nat,a=at_∧Below w.heap.size w w'∧Found es key at_ f) c5 ((PZ g cap es key w (by omega) (aD r3) (M2 h3 fun i hi=>(h5 i hi).ok) (fun i j hi hj hij=>by rw[hk i hi,hk j hj];omega)).mono ?_)).mono ?_
  ·rintro e w' ⟨a,f,rfl,hb,hf⟩;exact⟨_,f,rfl,a,rfl,hb,hf⟩
  ·rintro e w' ⟨_,f,rfl,a,rfl,hb,hf⟩;refine⟨a,f,rfl,hb,hf.le,fun i hi=>?_,fun i hi hi'=>?_,?_⟩
   ·have:=hf.lo i (by have:=hf.le;omega) hi
    rw[hk i (by have:=hf.le;omega)] at this;exact this
   ·have:=hf.hi i hi hi';rw[hk i hi] at this;exact this
   ·rw[hf.fnd];constructor
    ·rintro⟨q1,q2⟩;rw[hk _ q1] at q2;exact⟨q1,q2⟩
    ·rintro⟨q1,q2⟩;exact⟨q1,by rw[hk _ q1];exact q2⟩
theorem FJ(W:World)(g a b c d e:Nat)(u v x y z:Value)(k:Nat)(hk:k≠g):(((((W.setCell ⟨g,a,none⟩ u).setCell ⟨g,b,none⟩ v).setCell ⟨g,c,none⟩ x).setCell ⟨g,d,none⟩ y).setCell ⟨g,e,none⟩ z).heap[k]?=W.heap[k]?:=by
 rw[Below.heap_setCell _ _ _ _ hk,Below.heap_setCell _ _ _ _ hk,Below.heap_setCell _ _ _ _ hk,Below.heap_setCell _ _ _ _ hk,Below.heap_setCell _ _ _ _ hk]
theorem TB(W:World)(p q r t o:Addr)(u v x y z:Value):(((((W.setCell p u).setCell q v).setCell r x).setCell t y).setCell o z).os=W.os∧(((((W.setCell p u).setCell q v).setCell r x).setCell t y).setCell o z).tape=W.tape∧(((((W.setCell p u).setCell q v).setCell r x).setCell t y).setCell o z).output=W.output∧(((((W.setCell p u).setCell q v).setCell r x).setCell t y).setCell o z).heap.size=W.heap.size:=by
 have one:∀(W:World) (p:Addr) (u:Value),(W.setCell p u).os=W.os∧(W.setCell p u).tape=W.tape∧(W.setCell p u).output=W.output∧(W.setCell p u).heap.size=W.heap.size:=fun W p u=>⟨rfl,rfl,rfl,by simp⟩
 simp[one]
theorem WY(h:kA fp F w sb mb mo st s n)(v:Value)(s':bW)(hv:mX fp F w v s')(hs:st s'.time=some s')(hm:s'.time%20=0)(hq:s'.time/20<n)(hn:n≤1000)(ht:s'.time≤1000000):
 Calls Tryz.prog 126 #[.pointer (some ⟨sb,5,none⟩),.int .i64 s'.time,v] w fun e w'=>e=.returned (.tuple #[])∧FS sb w w'∧kA fp F w' sb mb mo st s n:=by
 obtain⟨f',t',o',rfl,⟨x1,n1,c1,rfl⟩,⟨x2,n2,c2,rfl⟩,⟨x3,n3,c3,rfl⟩⟩:=hv.form;obtain⟨fv,tv,ov,ev,es,h1,h2,h3,h4,h5,h6,h7⟩:=h.blk;subst h4;have h3':=h3;rcases h3.2 with ⟨r1,r2⟩|⟨g,cap,cur,r1,r2,r3,r4,r5,r6,r7⟩
 ·omega
 subst r1;obtain⟨w1,hw1⟩:∃w1,w1=w.alloc (.cells #[.int .i64 s'.time,.slice x1 n1 c1,.slice x2 n2 c2,.slice x3 n3 c3,.int .i64 s'.stop] 108):=⟨_,rfl⟩;have hb1:Below w.heap.size w w1:=by rw[hw1];exact(Below.refl _ _).alloc (Nat.le_refl _) _
 have hB1:w1.heap[w.heap.size]?=some (.cells #[.int .i64 s'.time,.slice x1 n1 c1,.slice x2 n2 c2,.slice x3 n3 c3,.int .i64 s'.stop] 108 (0,0)):=by rw[hw1];exact aR _ _ rfl _
 have hs1:w1.heap.size=w.heap.size+1:=by rw[hw1];simp
 refine(AV w sb g es.length cap (s'.time/20) s'.time s'.time s'.stop x1 x2 x3 n1 n2 n3 c1 c2 c3 (fun w'=>FS sb w w'∧kA fp F w' sb mb mo st s es.length) (fun W=>Below w1.heap.size w1 W) hq ?_ (fun W hW=>?_))
 ·show Calls _ _ _ _ _
  rw[←hw1];refine(ET (h.grow hb1 (fun _ h=>h) (fun _ h=>Or.inl h)) s'.time hn).mono ?_
  rintro e w' ⟨a,fd,rfl,hb,hf⟩
  have e1:a=s'.time/20:=by
   refine Nat.le_antisymm ?_ ?_
   ·cases a with
    |zero=>omega
    |succ a=>have:=hf.lo a (by omega);omega
   ·rcases Nat.lt_or_ge a (s'.time/20) with h8|h8
    ·have:=hf.hi a (by omega) (Nat.le_refl _);omega
    ·exact h8
  have e2:fd=true:=hf.fnd.2 ⟨by omega,by omega⟩
  exact⟨by rw[e1,e2],hb⟩
 ·have hbw:Below w.heap.size w W:=hb1.trans (hW.mono (by omega))
  have hlt:=h.lt;have hSW:=h.grow hbw (fun _ h=>h) (fun _ h=>Or.inl h)
  have hgl:=aD r3;have r3W:W.heap[g]?=some (.cells cur 265 (0,0)):=by rw[hbw.block _ hgl];exact r3
  have hcs:s'.time/20*6+5<cur.size:=by rw[r6];have:=Nat.mul_le_mul_right 6 r4;omega
  refine⟨hSW.lt,aA (by rw[hbw.block _ hlt];exact h1) rfl,aD r3W,⟨cur,r3W,hcs⟩,by rw[hW.block _ (by omega)];exact hB1,fun W' hS=>?_⟩
  have hgsb:g≠sb:=by have:=(h3'.lt g rfl).1;omega
  have hk:∀k,k≠g→W'.heap[k]?=W.heap[k]?:=fun k hk=>by rw[hS.heap];exact FJ W g _ _ _ _ _ _ _ _ _ _ k hk
  have hrow:lD sb W=some g:=lJ (by rw[hbw.block _ hlt];exact h1) rfl
  have hFg:∀k,F k→k≠g:=fun k hk e=>h6 k hk (by rw[e];rfl)
  have hWW:FS sb W W':=by
   obtain⟨a1,a2,a3,a4⟩:=TB W ⟨g,s'.time/20*6+1,none⟩ ⟨g,s'.time/20*6+2,none⟩ ⟨g,s'.time/20*6+3,none⟩ ⟨g,s'.time/20*6+4,none⟩ ⟨g,s'.time/20*6+5,none⟩ (.int .i64 s'.time) (.slice x1 n1 c1) (.slice x2 n2 c2) (.slice x3 n3 c3) (.int .i64 s'.stop);refine⟨hS.os.trans a1,hS.tape.trans a2,hS.output.trans a3,by rw[hS.heap,a4];exact Nat.le_refl _,fun k hk' hc hr=>hk k fun e=>hr (by rw[e];exact hrow),fun k hk'=>Or.inl ?_⟩
   rw[←nQ (hk sb (fun e=>hgsb e.symm))];exact hk'
  refine⟨(FS.of_below hbw hlt).trans hWW,⟨fv,tv,ov,.slice (some ⟨g,0,none⟩) es.length cap,es.set (s'.time/20) ⟨es[s'.time/20].k,s'.time,.slice x1 n1 c1,.slice x2 n2 c2,.slice x3 n3 c3,s'.stop⟩,?_,?_,?_,by simp,fun i hi=>?_,h6,h7⟩,h.now,fun k hk'=>?_,?_⟩
  ·rw[hk sb (fun e=>hgsb e.symm),hbw.block _ hlt];exact h1
  ·exact h2.keep (fun k hk'=>by rw[hk k (hFg k hk'),hbw.block k (h.fix k hk').1]) fun _ h=>h
  ·exact TD (iA h3' hbw) hq hS.heap
  ·have hi':i<es.length:=by simpa using hi
   have hkeep:∀k,F k→W'.heap[k]?=w.heap[k]?:=fun k hk'=>by rw[hk k (hFg k hk'),hbw.block k (h.fix k hk').1]
   by_cases hie:i=s'.time/20
   ·subst hie;rw[List.getElem_set_self];refine⟨(h5 _ hi').1,s',?_,hv.keep hkeep fun _ h=>h⟩
    rw[show 20*(s'.time/20)=s'.time by omega];exact hs
   ·rw[List.getElem_set_ne (fun e=>hie e.symm)]
    exact(h5 i hi').keep hkeep fun _ h=>h
  ·have:=h.fix k hk';exact⟨by rw[hS.heap];simpa using Nat.lt_of_lt_of_le this.1 hbw.size,this.2⟩
  ·refine⟨?_,h.map.2⟩;rw[hk mb (fun e=>h7 (by rw[e];rfl)),hbw.block _ (aD h.map.1)];exact h.map.1
end
section
variable {fp:Nat→Value} {F G:Nat→Prop} {w w':World} {sb mb n:Nat} {mo:Obj} {st:Nat→Option bW} {s:bW}
theorem ZS{es:List Ent}{base g cap i m:Nat}{W:World}{k0 a e:Int}{b c d:Value}(hm:es.length=m)(h:w.ownsRow base 265 6 (.slice (some ⟨g,0,none⟩) m cap) m (iM es))(hi:i<es.length)(hk:es[i].k=k0)
 (hW:W.heap=(((((w.setCell ⟨g,i*6+1,none⟩ (.int .i64 a)).setCell ⟨g,i*6+2,none⟩ b).setCell ⟨g,i*6+3,none⟩ c).setCell ⟨g,i*6+4,none⟩ d).setCell ⟨g,i*6+5,none⟩ (.int .i64 e)).heap):
 W.ownsRow base 265 6 (.slice (some ⟨g,0,none⟩) m cap) m (iM (es.set i ⟨k0,a,b,c,d,e⟩)):=by
 subst hm hk;exact TD h hi hW
theorem WX(h:kA fp F w sb mb mo st s n)(v:Value)(s':bW)(hv:mX fp F w v s')(hs:st s'.time=some s')(hm:s'.time%20=0)(hq:s'.time/20=n)(hn:n≤1000):
 Calls Tryz.prog 126 #[.pointer (some ⟨sb,5,none⟩),.int .i64 s'.time,v] w fun e w'=>e=.returned (.tuple #[])∧FS sb w w'∧kA fp F w' sb mb mo st s (n+1):=by
 obtain⟨f',t',o',rfl,⟨x1,n1,c1,rfl⟩,⟨x2,n2,c2,rfl⟩,⟨x3,n3,c3,rfl⟩⟩:=hv.form;obtain⟨fv,tv,ov,ev,es,h1,h2,h3,h4,h5,h6,h7⟩:=h.blk;have hlt:=h.lt;have h3':=h3;obtain⟨x,c,rfl⟩:=cP h3;obtain⟨w1,hw1⟩:∃w1,w1=w.alloc (.cells #[.int .i64 s'.time,.slice x1 n1 c1,.slice x2 n2 c2,.slice x3 n3 c3,.int .i64 s'.stop] 108):=⟨_,rfl⟩;have hb1:Below w.heap.size w w1:=by rw[hw1];exact(Below.refl _ _).alloc (Nat.le_refl _) _
 have hB1:w1.heap[w.heap.size]?=some (.cells #[.int .i64 s'.time,.slice x1 n1 c1,.slice x2 n2 c2,.slice x3 n3 c3,.int .i64 s'.stop] 108 (0,0)):=by rw[hw1];exact aR _ _ rfl _
 have hs1:w1.heap.size=w.heap.size+1:=by rw[hw1];simp
 have hno:∀k,(Value.slice x n c).ownBlock=some k→sb<k∧k<w.heap.size:=fun k hk=>by have:=h3'.lt k hk;exact⟨by omega,this.2⟩
 refine(IS w sb n x c s'.time s'.time s'.stop x1 x2 x3 n1 n2 n3 c1 c2 c3 (fun w'=>FS sb w w'∧kA fp F w' sb mb mo st s (n+1)) (fun W=>Below w1.heap.size w1 W)
  (fun g cap W=>(∀k,k<w1.heap.size→some k≠(Value.slice x n c).ownBlock→W.heap[k]?=w1.heap[k]?)∧W.os=w.os∧W.tape=w.tape∧W.output=w.output∧w1.heap.size≤W.heap.size∧((Value.slice x n c).ownBlock=some g∨w1.heap.size≤g)∧W.ownsRow (sb+1) 265 6 (.slice (some ⟨g,0,none⟩) (n+1) cap) (n+1) (iM es++[.int .i64 s'.time,.int .i64 0,.slice none 0 0,.slice none 0 0,.slice none 0 0,.int .i64 0])) (by omega) ?_ (fun W hW=>?_) (fun g cap W hW=>?_))
 ·show Calls _ _ _ _ _
  rw[←hw1];refine(ET (h.grow hb1 (fun _ h=>h) (fun _ h=>Or.inl h)) s'.time hn).mono ?_
  rintro e w' ⟨a,fd,rfl,hb,hf⟩
  have e1:a=n:=by
   refine Nat.le_antisymm hf.le ?_;rcases Nat.lt_or_ge a n with h8|h8
   ·have:=hf.hi a h8 (Nat.le_refl _);omega
   ·exact h8
  have e2:fd=false:=by
   cases fd with
   |false=>rfl
   |true=>have:=(hf.fnd.1 rfl).1;omega
  exact⟨by rw[e1,e2],hb⟩
 ·have hbw:Below w.heap.size w W:=hb1.trans (hW.mono (by omega))
  have hrW:=iA h3' hbw;refine⟨Nat.lt_of_lt_of_le hlt hbw.size,aA (by rw[hbw.block _ hlt];exact h1) rfl,?_⟩
  refine(RL _ (sb+1) W.heap.size n (.slice x n c) (iM es) s'.time (hrW.alloc _) (aR _ _ rfl _) (by omega) (by have:=hbw.size;simp;omega)).mono ?_
  rintro e w' ⟨g,cap,rfl,q1,q2,q3⟩;have hWs:=hW.size;have q2s:=q2.size;simp only[World.size_alloc] at q2s;refine⟨g,cap,rfl,fun k hk hne=>?_,?_,?_,?_,by omega,?_,q1⟩
  ·rw[q2.block k (by simp;omega) hne,Below.heap_alloc _ _ _ (by omega),hW.block k hk]
  ·exact q2.os.trans hbw.os
  ·exact q2.tape.trans hbw.tape
  ·exact q2.output.trans hbw.output
  ·rcases q3 with q3|q3
   ·exact Or.inl q3
   ·exact Or.inr (by rw[q3];simp;omega)
 ·obtain⟨b1,b2,b3,b4,b5,b6,b7⟩:=hW;have hb7:=b7;have hgsb:g≠sb:=by have:=(b7.lt g rfl).1;omega
  have hgw:g≠w.heap.size:=by
   rcases b6 with h8|h8
   ·have:=hno g h8;omega
   ·omega
  rcases b7.2 with ⟨r1,_⟩|⟨g',cap',cur,r1,r2,r3,r4,r5,r6,r7⟩
  ·cases r1
  cases r1
  have hsbW:W.heap[sb]?=some (.cells #[.int .i64 s.time,fv,tv,ov,.int .i64 s.stop,.slice x n c,.map (some mb)] 114 (0,0)):=by
   rw[b1 sb (by omega) (fun e=>by have:=hno sb e.symm;omega),hb1.block _ hlt];exact h1
  have hcs:n*6+5<cur.size:=by rw[r6];omega
  refine⟨by omega,hgsb,hgw,by omega,⟨_,aA hsbW rfl⟩,aE hsbW,aD r3,⟨cur,r3,hcs⟩,by rw[b1 _ (by omega) (fun e=>by have:=hno _ e.symm;omega)];exact hB1,fun W' hS=>?_⟩
  generalize hW1:W.setCell ⟨sb,5,none⟩ (.slice (some ⟨g,0,none⟩) (n+1) cap)=W1 at hS;have hk1:∀k,k≠sb→W1.heap[k]?=W.heap[k]?:=fun k hk=>by rw[←hW1];exact Below.heap_setCell _ _ _ _ hk
  have hsb1:W1.heap[sb]?=some (.cells #[.int .i64 s.time,fv,tv,ov,.int .i64 s.stop,.slice (some ⟨g,0,none⟩) (n+1) cap,.map (some mb)] 114 (0,0)):=by rw[←hW1];exact aQ hsbW
  have hos1:W1.os=W.os∧W1.tape=W.tape∧W1.output=W.output∧W1.heap.size=W.heap.size:=by rw[←hW1];exact⟨rfl,rfl,rfl,by simp⟩
  have hk2:∀k,k≠g→W'.heap[k]?=W1.heap[k]?:=fun k hk=>by rw[hS.heap];exact FJ W1 g _ _ _ _ _ _ _ _ _ _ k hk
  obtain⟨a1,a2,a3,a4⟩:=TB W1 ⟨g,n*6+1,none⟩ ⟨g,n*6+2,none⟩ ⟨g,n*6+3,none⟩ ⟨g,n*6+4,none⟩ ⟨g,n*6+5,none⟩ (.int .i64 s'.time) (.slice x1 n1 c1) (.slice x2 n2 c2) (.slice x3 n3 c3) (.int .i64 s'.stop);have hsz:W'.heap.size=W.heap.size:=by rw[hS.heap,a4,hos1.2.2.2]
  have hkk:∀k,k<w.heap.size→k≠sb→some k≠(Value.slice x n c).ownBlock→W'.heap[k]?=w.heap[k]?:=fun k hk hne hr=>by
   have hkg:k≠g:=fun e=>by
    rcases b6 with h8|h8
    ·exact hr (by rw[e];exact h8.symm)
    ·omega
   rw[hk2 k hkg,hk1 k hne,b1 k (by omega) hr,hb1.block k hk]
  have hFk:∀k,F k→W'.heap[k]?=w.heap[k]?:=fun k hk=>hkk k (h.fix k hk).1 (h.fix k hk).2.1 fun e=>h6 k hk e.symm
  have hmb:=aD h.map.1;have hrow0:lD sb w=(Value.slice x n c).ownBlock:=lJ h1 rfl;have hsb':W'.heap[sb]?=some (.cells #[.int .i64 s.time,fv,tv,ov,.int .i64 s.stop,.slice (some ⟨g,0,none⟩) (n+1) cap,.map (some mb)] 114 (0,0)):=by rw[hk2 sb (fun e=>hgsb e.symm)];exact hsb1
  obtain⟨z,hz⟩:∃z:Ent,z=⟨s'.time,0,.slice none 0 0,.slice none 0 0,.slice none 0 0,0⟩:=⟨_,rfl⟩
  have hown1:W1.ownsRow (sb+1) 265 6 (.slice (some ⟨g,0,none⟩) (n+1) cap) (n+1) (iM (es++[z])):=by
   rw[IZ,hz];exact aY hb7 fun k e=>hk1 k (by cases e;exact hgsb)
  have hel:(es++[z]).length=n+1:=by simp[h4]
  have hzk:(es++[z])[n]'(by rw[hel];omega)=z:=by rw[List.getElem_append_right (by omega)];simp
  have hrow:=ZS (W:=W') (i:=n) (k0:=s'.time) (a:=s'.time) (b:=.slice x1 n1 c1) (c:=.slice x2 n2 c2) (d:=.slice x3 n3 c3) (e:=s'.stop) hel hown1 (by rw[hel];omega) (by rw[hzk,hz]) hS.heap
  refine⟨⟨hS.os.trans (a1.trans (hos1.1.trans b2)),hS.tape.trans (a2.trans (hos1.2.1.trans b3)),hS.output.trans (a3.trans (hos1.2.2.1.trans b4)),by rw[hsz];omega,fun k hk hne hr=>hkk k hk hne (fun e=>hr (by rw[hrow0];exact e.symm)),fun k hk=>?_⟩,⟨fv,tv,ov,.slice (some ⟨g,0,none⟩) (n+1) cap,(es++[z]).set n ⟨s'.time,s'.time,.slice x1 n1 c1,.slice x2 n2 c2,.slice x3 n3 c3,s'.stop⟩,hsb',h2.keep hFk fun _ h=>h,?_,by simp[h4],fun i hi=>?_,fun k hk e=>?_,fun e=>?_⟩,h.now,fun k hk=>?_,?_⟩
  ·rw[lJ hsb' rfl] at hk;cases hk;rcases b6 with h8|h8
   ·exact Or.inl (by rw[hrow0];exact h8)
   ·exact Or.inr (by show w.heap.size≤g;omega)
  ·exact hrow
  ·have hi':i<n+1:=by simpa [h4] using hi
   by_cases hin:i=n
   ·subst hin;rw[List.getElem_set_self];refine⟨by show (s'.time:Int)=_;omega,s',?_,hv.keep hFk fun _ h=>h⟩
    rw[show 20*i=s'.time by omega];exact hs
   ·rw[List.getElem_set_ne (fun e=>hin e.symm),List.getElem_append_left (by omega)]
    exact(h5 i (by omega)).keep hFk fun _ h=>h
  ·have e':g=k:=by simpa [Value.ownBlock] using e
   rcases b6 with h8|h8
   ·exact h6 k hk (by rw[←e'];exact h8)
   ·have:=(h.fix _ hk).1;omega
  ·have e':g=mb:=by simpa [Value.ownBlock] using e
   rcases b6 with h8|h8
   ·exact h7 (by rw[←e'];exact h8)
   ·omega
  ·have:=h.fix k hk;exact⟨by rw[hsz];omega,this.2⟩
  ·exact⟨by rw[hkk mb hmb h.map.2 (fun e=>h7 e.symm)];exact h.map.1,h.map.2⟩
theorem ES(h:kA fp F w sb mb mo st s n)(v:Value)(s':bW)(hv:mX fp F w v s')(hs:st s'.time=some s')(hg:s'.time%20=0→s'.time/20≤n)(hn:n≤1000)(ht:s'.time≤1000000):
 Calls Tryz.prog 71 #[.pointer (some ⟨sb,0,none⟩),v] w fun e w'=>e=.returned (.tuple #[])∧FS sb w w'∧kA fp F w' sb mb mo st s (if s'.time%20=0∧s'.time/20=n then n+1 else n):=by
 obtain⟨f',t',o',rfl,⟨x1,n1,c1,rfl⟩,⟨x2,n2,c2,rfl⟩,⟨x3,n3,c3,rfl⟩⟩:=hv.form;by_cases hm:s'.time%20=0
 ·refine PU w sb s'.time s'.stop x1 x2 x3 n1 n2 n3 c1 c2 c3 _ hm ht fun W hW=>?_
  have hgr:=h.grow hW (fun _ h=>h) (fun _ h=>Or.inl h)
  have hvW:=hv.keep (fun k hk=>hW.block k (h.fix k hk).1) fun _ h=>h
  rcases Nat.eq_or_lt_of_le (hg hm) with e|e
  ·rw[if_pos ⟨hm,e⟩];refine(WX hgr _ s' hvW hs hm e hn).mono ?_;rintro e w' ⟨he,q1,q2⟩;exact⟨he,(FS.of_below hW h.lt).trans q1,q2⟩
  ·rw[if_neg (by omega)]
   refine(WY hgr _ s' hvW hs hm e hn ht).mono ?_;rintro e w' ⟨he,q1,q2⟩;exact⟨he,(FS.of_below hW h.lt).trans q1,q2⟩
 ·rw[if_neg (fun e=>hm e.1)]
  refine(UX w sb s'.time s'.stop x1 x2 x3 n1 n2 n3 c1 c2 c3 hm ht).mono ?_;rintro e w' ⟨he,hb⟩;exact⟨he,FS.of_below hb h.lt,h.grow hb (fun _ h=>h) (fun _ h=>Or.inl h)⟩
end
theorem XY(s:ByteArray)(w:World)(hs:s.size≤281474976710656):Calls Tryz.prog 69 #[.string s] w fun e w'=>e=.returned (.string s)∧Below w.heap.size w w':=by
 have HC:=aB (Tryz.stringslite_Clone s w hs);go_enter Tryz.func69,Tryz.ntmps69;go_wp2_with fail;refine HC.out.mono ?_;rintro e w1 ⟨rfl,hb⟩;have HB:=aB hb;clear hb;go_wp2_with fail;go_ret;exact⟨rfl,HB.out⟩
theorem PP(src:ByteArray)(b p:Nat)(w:World)(hT:kJ w)(hs:src.size≤281474976710656)(hb:w.cell? ⟨b,0,none⟩=some (.string src))(hp:w.heap[p]?=some (.cells #[.slice none 0 0] 86 (0,0))):
 Calls Tryz.prog 68 #[.pointer (some ⟨b,0,none⟩),.pointer (some ⟨p,0,none⟩)] w fun e w'=>
  (dF src.data.toList=(0,0)∧e=.returned (.tuple #[])∧∃w1 v ks,Below w.heap.size w w1∧cR src.data.toList=.ok ks∧FSl (Btw w.heap.size w1.heap.size) w1 v ks∧w'=w1.setCell ⟨p,0,none⟩ v)∨
  ((dF src.data.toList).1≠0∧e=cW (dF src.data.toList).1 (dF src.data.toList).2∧Below w.heap.size w w'):=by
 have HC:=aB (XY src w hs);have HR:Hid (∀W,Below w.heap.size w W→Calls Tryz.prog 44 #[.string src] W (EU src.data.toList W)):=fun W hW=>VJ src W (hT.below hW) (by unfold maxLen;omega)
 have HP:=aB hp;have hl:=aD hp;clear hT hp;go_enter Tryz.func68,Tryz.ntmps68;go_wp2_with fail;refine HC.out.mono ?_;rintro e w1 ⟨rfl,hb1⟩;have HRR:=aB (HR.out w1 hb1);have HB1:=aB hb1;clear HR HC hb1;go_wp2_with fail;refine HRR.out.mono ?_;rintro e w2 ⟨hb2,⟨h0,v,ks,rfl,h1,h2⟩|⟨h0,rfl⟩⟩
 ·have hbb:=HB1.out.trans (hb2.mono HB1.out.size);have HP2:w2.heap[p]?=some (.cells #[.slice none 0 0] 86 (0,0)):=by rw[hbb.block _ hl];exact HP.out
  have c0:=aA HP2 (i:=0) rfl;have f0:=aE HP2 (i:=0);have l0:=aD HP2
  obtain⟨x,c,rfl⟩:∃x c,v=.slice x ks.length c:=by
   rcases h2 with ⟨rfl,rfl⟩|⟨g,cap,cur,us,rfl,_⟩
   ·exact⟨none,0,rfl⟩
   ·exact⟨_,_,rfl⟩
  have HF:=aB (And.intro h0 (And.intro h1 (And.intro hbb (h2.grow (G:=Btw w.heap.size w2.heap.size) (fun _ _=>rfl) (fun k hk=>⟨Nat.le_trans HB1.out.size hk.1,hk.2⟩)))))
  clear h0 h1 h2 hb2 hbb HP2 HRR HB1 HP;go_wp2_with fail;go_end0;exact Or.inl ⟨HF.out.1,rfl,w2,_,ks,HF.out.2.2.1,HF.out.2.1,HF.out.2.2.2,rfl⟩
 ·have HF:=aB (And.intro h0 (HB1.out.trans (hb2.mono HB1.out.size)));clear h0 hb2 HRR HB1 HP;go_wp2_with fail;exact⟨rfl,Or.inr ⟨HF.out.1,rfl,HF.out.2⟩⟩
end Go.Proofs.YtblbkfdhjfppkaaGreatDoor
