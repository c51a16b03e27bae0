/- Contracts of the program: instructions that are done within the last frame (2): the walks. -/
import Derived.Test.YtblbkfdhjfppkaaGreatDoorPart10
set_option maxRecDepth 100000
set_option maxHeartbeats 4000000
namespace Go.Proofs.YtblbkfdhjfppkaaGreatDoor
open Hs
open Go.RowKit
theorem xP(w w0:World)(sb fa fj tg:Nat)(wh:Bool)(P S:World→Prop)(Q1:TypeId→Value→World→Prop)(Q2 Q3:Bool→World→Prop)(hW:w.alloc (.cells #[.bool wh,.int .i64 tg] 438)=w0)
 (HT:Hid (∀W,aW w0 W→Calls Tryz.prog 158 #[.pointer (some ⟨sb,0,none⟩)] W fun e w'=>e=.returned (.pointer (some ⟨fa,fj,none⟩))∧aW w0 w'))
 (HP:Hid (∀W,aW w0 W→Calls Tryz.prog 171 #[.pointer (some ⟨fa,fj,none⟩)] W fun e w'=>∃t z,e=.returned (.iface t z)∧Q1 t z w'))
 (HV:Hid (∀W t z,Q1 t z W→Calls Tryz.prog 385 #[.iface t z] W fun e w'=>(∃b,e=.returned (.bool b)∧Q2 b w')∨(e=fE 2∧S w')))
 (HU:Hid (∀W b,Q2 b W→Calls Tryz.prog 371 #[.pointer (some ⟨fa,fj,none⟩),.iface 316 (.bool b)] W fun e w'=>e=.returned (.tuple #[])∧Q3 b w'))
 (HQ:Hid (∀W b,Q2 b W→b≠wh→P W)) (HN:Hid (∀W b,Q3 b W→b=wh→P (W.setCell ⟨fa,fj+1,none⟩ (.int .i64 tg))))
 (HB2:Hid (∀W b,Q2 b W→W.cell? ⟨w.heap.size,0,none⟩=some (.bool wh)∧w.heap.size<W.heap.size))
 (HB:Hid (∀W b,Q3 b W→W.cell? ⟨w.heap.size,1,none⟩=some (.int .i64 tg)∧w.heap.size<W.heap.size∧(∃u,W.cell? ⟨fa,fj+1,none⟩=some u)∧W.frozen? ⟨fa,fj+1,none⟩=false∧fa<W.heap.size)):
 Calls Tryz.prog 397 #[.agg #[.bool wh,.int .i64 tg],.pointer (some ⟨sb,0,none⟩)] w fun e w'=>(e=.returned (.tuple #[])∧P w')∨(e=fE 2∧S w'):=by
 have HW:=aB hW;clear hW;go_enter Tryz.func397,Tryz.ntmps397;go_wp2_with fail;rw[HW.out];refine(HT.out _ (aW.refl _)).mono ?_;rintro e w1 ⟨rfl,hs1⟩;go_wp2_with fail;refine(HP.out _ hs1).mono ?_;rintro e w2 ⟨t,z,rfl,h2⟩;have h3:=aB (HV.out _ t z h2);clear h2;go_wp2_with fail;refine h3.out.mono ?_;rintro e w3 (⟨b,rfl,h3⟩|⟨rfl,h3⟩)
 ·obtain⟨c1,c2⟩:=HB2.out _ b h3;by_cases hb:b=wh
  ·subst hb;have h4:=aB (HU.out _ b h3);clear h3;cases b with
   |true=>
    go_wp2_with fail;refine h4.out.mono ?_;rintro e w4 ⟨rfl,h4⟩;obtain⟨d1,d2,⟨u,d3⟩,d4,d5⟩:=HB.out _ _ h4;have h5:=aB (HN.out _ _ h4 rfl);clear h4;go_wp2_with fail;go_end0;exact Or.inl ⟨rfl,h5.out⟩
   |false=>
    go_wp2_with fail;refine h4.out.mono ?_;rintro e w4 ⟨rfl,h4⟩;obtain⟨d1,d2,⟨u,d3⟩,d4,d5⟩:=HB.out _ _ h4;have h5:=aB (HN.out _ _ h4 rfl);clear h4;go_wp2_with fail;go_end0;exact Or.inl ⟨rfl,h5.out⟩
  ·have h4:=aB (HQ.out _ b h3 hb);clear h3;cases b<;>cases wh<;>first|exact absurd rfl hb|(clear hb;go_wp2_with fail;go_end0;exact Or.inl ⟨rfl,h4.out⟩)
 ·go_wp2_with fail;exact⟨rfl,Or.inr ⟨rfl,h3⟩⟩
theorem EE(w w0:World)(sb fa fj:Nat)(op:List UInt8)(k:Nat)(P S:World→Prop)(Q1:TypeId→Value→World→Prop)(Q2:TypeId→Value→TypeId→Value→World→Prop)(Q3:TypeId→Value→World→Prop)(hW:w.alloc (.cells #[.string (bs op)] 435)=w0)
 (HT:Hid (∀W,aW w0 W→Calls Tryz.prog 158 #[.pointer (some ⟨sb,0,none⟩)] W fun e w'=>e=.returned (.pointer (some ⟨fa,fj,none⟩))∧aW w0 w'))
 (HP:Hid (∀W,aW w0 W→Calls Tryz.prog 171 #[.pointer (some ⟨fa,fj,none⟩)] W fun e w'=>∃t z,e=.returned (.iface t z)∧Q1 t z w'))
 (HP2:Hid (∀W t z,Q1 t z W→Calls Tryz.prog 171 #[.pointer (some ⟨fa,fj,none⟩)] W fun e w'=>∃t' z',e=.returned (.iface t' z')∧Q2 t z t' z' w'))
 (HB:Hid (∀W t z t' z',Q2 t z t' z' W→W.cell? ⟨w.heap.size,0,none⟩=some (.string (bs op))∧w.heap.size<W.heap.size))
 (HV:Hid (∀W t z t' z',Q2 t z t' z' W→Calls Tryz.prog 388 #[.string (bs op),.iface t' z',.iface t z] W fun e w'=>(∃t1 z1,e=.returned (.iface t1 z1)∧Q3 t1 z1 w')∨(e=fE k∧S w')))
 (HU:Hid (∀W t z,Q3 t z W→Calls Tryz.prog 371 #[.pointer (some ⟨fa,fj,none⟩),.iface t z] W fun e w'=>e=.returned (.tuple #[])∧P w')):
 Calls Tryz.prog 387 #[.agg #[.string (bs op)],.pointer (some ⟨sb,0,none⟩)] w fun e w'=>(e=.returned (.tuple #[])∧P w')∨(e=fE k∧S w'):=by
 have HW:=aB hW;clear hW;go_enter Tryz.func387,Tryz.ntmps387;go_wp2_with fail;rw[HW.out];refine(HT.out _ (aW.refl _)).mono ?_;rintro e w1 ⟨rfl,hs1⟩;go_wp2_with fail;refine(HP.out _ hs1).mono ?_;rintro e w2 ⟨t,z,rfl,h2⟩;have h3:=aB (HP2.out _ t z h2);clear h2;go_wp2_with fail;refine h3.out.mono ?_;rintro e w3 ⟨t',z',rfl,h4⟩;obtain⟨c1,c2⟩:=HB.out _ _ _ _ _ h4;have h5:=aB (HV.out _ _ _ _ _ h4);clear h4;go_wp2_with fail;refine h5.out.mono ?_;rintro e w4 (⟨t1,z1,rfl,h6⟩|⟨rfl,h6⟩)
 ·have h7:=aB (HU.out _ _ _ h6);clear h6;go_wp2_with fail;refine h7.out.mono ?_;rintro e w5 ⟨rfl,h8⟩;go_wp2_with fail;go_end0;exact Or.inl ⟨rfl,h8⟩
 ·go_wp2_with fail;exact⟨rfl,Or.inr ⟨rfl,h6⟩⟩
theorem IV(w w0:World)(sb fa fj:Nat)(k:Nat)(P S:World→Prop)(Q1:TypeId→Value→World→Prop)(Q2:TypeId→Value→TypeId→Value→World→Prop)(Q3:TypeId→Value→World→Prop)(hW:w.alloc (.cells #[] 405)=w0)
 (HT:Hid (∀W,aW w0 W→Calls Tryz.prog 158 #[.pointer (some ⟨sb,0,none⟩)] W fun e w'=>e=.returned (.pointer (some ⟨fa,fj,none⟩))∧aW w0 w'))
 (HP:Hid (∀W,aW w0 W→Calls Tryz.prog 171 #[.pointer (some ⟨fa,fj,none⟩)] W fun e w'=>∃t z,e=.returned (.iface t z)∧Q1 t z w'))
 (HP2:Hid (∀W t z,Q1 t z W→Calls Tryz.prog 171 #[.pointer (some ⟨fa,fj,none⟩)] W fun e w'=>∃t' z',e=.returned (.iface t' z')∧Q2 t z t' z' w'))
 (HV:Hid (∀W t z t' z',Q2 t z t' z' W→Calls Tryz.prog 381 #[.iface t' z',.iface t z] W fun e w'=>(∃t1 z1,e=.returned (.iface t1 z1)∧Q3 t1 z1 w')∨(e=fE k∧S w')))
 (HU:Hid (∀W t z,Q3 t z W→Calls Tryz.prog 371 #[.pointer (some ⟨fa,fj,none⟩),.iface t z] W fun e w'=>e=.returned (.tuple #[])∧P w')):
 Calls Tryz.prog 380 #[.agg #[],.pointer (some ⟨sb,0,none⟩)] w fun e w'=>(e=.returned (.tuple #[])∧P w')∨(e=fE k∧S w'):=by
 have HW:=aB hW;clear hW;go_enter Tryz.func380,Tryz.ntmps380;go_wp2_with fail;rw[HW.out];refine(HT.out _ (aW.refl _)).mono ?_;rintro e w1 ⟨rfl,hs1⟩;go_wp2_with fail;refine(HP.out _ hs1).mono ?_;rintro e w2 ⟨t,z,rfl,h2⟩;have h3:=aB (HP2.out _ t z h2);clear h2;go_wp2_with fail;refine h3.out.mono ?_;rintro e w3 ⟨t',z',rfl,h4⟩;have h5:=aB (HV.out _ _ _ _ _ h4);clear h4;go_wp2_with fail;refine h5.out.mono ?_;rintro e w4 (⟨t1,z1,rfl,h6⟩|⟨rfl,h6⟩)
 ·have h7:=aB (HU.out _ _ _ h6);clear h6;go_wp2_with fail;refine h7.out.mono ?_;rintro e w5 ⟨rfl,h8⟩;go_wp2_with fail;go_end0;exact Or.inl ⟨rfl,h8⟩
 ·go_wp2_with fail;exact⟨rfl,Or.inr ⟨rfl,h6⟩⟩
theorem DJ(w w0:World)(sb fa fj:Nat)(k:Nat)(P S:World→Prop)(Q1 Q3:TypeId→Value→World→Prop)(hW:w.alloc (.cells #[] 439)=w0)
 (HT:Hid (∀W,aW w0 W→Calls Tryz.prog 158 #[.pointer (some ⟨sb,0,none⟩)] W fun e w'=>e=.returned (.pointer (some ⟨fa,fj,none⟩))∧aW w0 w'))
 (HP:Hid (∀W,aW w0 W→Calls Tryz.prog 171 #[.pointer (some ⟨fa,fj,none⟩)] W fun e w'=>∃t z,e=.returned (.iface t z)∧Q1 t z w'))
 (HV:Hid (∀W t z,Q1 t z W→Calls Tryz.prog 399 #[.iface t z] W fun e w'=>(∃t1 z1,e=.returned (.iface t1 z1)∧Q3 t1 z1 w')∨(e=fE k∧S w')))
 (HU:Hid (∀W t z,Q3 t z W→Calls Tryz.prog 371 #[.pointer (some ⟨fa,fj,none⟩),.iface t z] W fun e w'=>e=.returned (.tuple #[])∧P w')):
 Calls Tryz.prog 398 #[.agg #[],.pointer (some ⟨sb,0,none⟩)] w fun e w'=>(e=.returned (.tuple #[])∧P w')∨(e=fE k∧S w'):=by
 have HW:=aB hW;clear hW;go_enter Tryz.func398,Tryz.ntmps398;go_wp2_with fail;rw[HW.out];refine(HT.out _ (aW.refl _)).mono ?_;rintro e w1 ⟨rfl,hs1⟩;go_wp2_with fail;refine(HP.out _ hs1).mono ?_;rintro e w2 ⟨t,z,rfl,h2⟩;have h5:=aB (HV.out _ t z h2);clear h2;go_wp2_with fail;refine h5.out.mono ?_;rintro e w4 (⟨t1,z1,rfl,h6⟩|⟨rfl,h6⟩)
 ·have h7:=aB (HU.out _ _ _ h6);clear h6;go_wp2_with fail;refine h7.out.mono ?_;rintro e w5 ⟨rfl,h8⟩;go_wp2_with fail;go_end0;exact Or.inl ⟨rfl,h8⟩
 ·go_wp2_with fail;exact⟨rfl,Or.inr ⟨rfl,h6⟩⟩
theorem MJ(w w0:World)(sb fa fj c:Nat)(k:Nat)(P S:World→Prop)(Q1:Option Addr→Nat→World→Prop)(Q3:TypeId→Value→World→Prop)(hW:w.alloc (.cells #[.int .i64 c] 404)=w0)
 (HT:Hid (∀W,aW w0 W→Calls Tryz.prog 158 #[.pointer (some ⟨sb,0,none⟩)] W fun e w'=>e=.returned (.pointer (some ⟨fa,fj,none⟩))∧aW w0 w'))
 (HP:Hid (∀W,aW w0 W→Calls Tryz.prog 377 #[.pointer (some ⟨fa,fj,none⟩),.int .i64 c] W fun e w'=>∃x d,e=.returned (.slice x c d)∧Q1 x d w'))
 (HV:Hid (∀W x d,Q1 x d W→Calls Tryz.prog 376 #[.slice x c d] W fun e w'=>(∃t1 z1,e=.returned (.iface t1 z1)∧Q3 t1 z1 w')∨(e=fE k∧S w')))
 (HU:Hid (∀W t z,Q3 t z W→Calls Tryz.prog 371 #[.pointer (some ⟨fa,fj,none⟩),.iface t z] W fun e w'=>e=.returned (.tuple #[])∧P w')):
 Calls Tryz.prog 375 #[.agg #[.int .i64 c],.pointer (some ⟨sb,0,none⟩)] w fun e w'=>(e=.returned (.tuple #[])∧P w')∨(e=fE k∧S w'):=by
 have hbox:(w.alloc (.cells #[.int .i64 c] 404)).heap[w.heap.size]?=some (.cells #[.int .i64 c] 404 (0,0)):=aR _ _ rfl _;rw[hW] at hbox;have HW:=aB hW;have HC0:=aB (aA (i:=0) hbox rfl);have hlt:=aD hbox;clear hW hbox;go_enter Tryz.func375,Tryz.ntmps375;go_wp2_with fail;rw[HW.out];refine(HT.out _ (aW.refl _)).mono ?_;rintro e w1 ⟨rfl,hs1⟩;have c1:=cQ hs1.heap HC0.out;have hl1:=jI hs1.heap hlt;go_wp2_with fail;refine(HP.out _ hs1).mono ?_;rintro e w2 ⟨x,d,rfl,h2⟩;have h5:=aB (HV.out _ x d h2);clear h2;go_wp2_with fail;refine h5.out.mono ?_;rintro e w4 (⟨t1,z1,rfl,h6⟩|⟨rfl,h6⟩)
 ·have h7:=aB (HU.out _ _ _ h6);clear h6;go_wp2_with fail;refine h7.out.mono ?_;rintro e w5 ⟨rfl,h8⟩;go_wp2_with fail;go_end0;exact Or.inl ⟨rfl,h8⟩
 ·go_wp2_with fail;exact⟨rfl,Or.inr ⟨rfl,h6⟩⟩
theorem TA{P:Program}{ops:Array Oper}{o:Oper}{a:Act}{w:World}{K:Act→World→Prop}{Q:Exit→Act→World→Prop}{E:Prop}(v0:Value)
 (h:if Region.wanted o (yielded ops a.tmps)=true then Oper.wp P o a w K Q else E) (_d:Hid False→K (a.put o.dst v0) w):
 if Region.wanted o (yielded ops a.tmps)=true then Oper.wp P o a w K Q else E:=h
theorem PA(w w0:World)(sb fa fj:Nat)(op:List UInt8)(P:World→Prop)(Q1 Q3:TypeId→Value→World→Prop)(hW:w.alloc (.cells #[.string (bs op)] 407)=w0)
 (HT:Hid (∀W,aW w0 W→Calls Tryz.prog 158 #[.pointer (some ⟨sb,0,none⟩)] W fun e w'=>e=.returned (.pointer (some ⟨fa,fj,none⟩))∧aW w0 w'))
 (HP:Hid (∀W,aW w0 W→Calls Tryz.prog 171 #[.pointer (some ⟨fa,fj,none⟩)] W fun e w'=>∃t z,e=.returned (.iface t z)∧Q1 t z w'))
 (HB:Hid (∀W t z,Q1 t z W→W.cell? ⟨w.heap.size,0,none⟩=some (.string (bs op))∧w.heap.size<W.heap.size))
 (HV:Hid (∀W t z,Q1 t z W→Calls Tryz.prog 384 #[.string (bs op),.iface t z] W fun e w'=>∃t1 z1,e=.returned (.iface t1 z1)∧Q3 t1 z1 w'))
 (HU:Hid (∀W t z,Q3 t z W→Calls Tryz.prog 371 #[.pointer (some ⟨fa,fj,none⟩),.iface t z] W fun e w'=>e=.returned (.tuple #[])∧P w')):
 Calls Tryz.prog 383 #[.agg #[.string (bs op)],.pointer (some ⟨sb,0,none⟩)] w fun e w'=>e=.returned (.tuple #[])∧P w':=by
 have hbox:(w.alloc (.cells #[.string (bs op)] 407)).heap[w.heap.size]?=some (.cells #[.string (bs op)] 407 (0,0)):=aR _ _ rfl _;rw[hW] at hbox;have HW:=aB hW;have HC0:=aB (aA (i:=0) hbox rfl);have hlt:=aD hbox;clear hW hbox;go_enter Tryz.func383,Tryz.ntmps383;go_wp2_with fail;rw[HW.out];refine(HT.out _ (aW.refl _)).mono ?_;rintro e w1 ⟨rfl,hs1⟩;have c1:=cQ hs1.heap HC0.out;have hl1:=jI hs1.heap hlt;go_wp2_with fail;go_region_law (go_simp;first|(go_at_call 171;refine(HP.out _ (hs1.trans (aW.drew _))).mono ?_;rintro e w2 ⟨t,z,rfl,h2⟩;have hb2:=HB.out _ _ _ h2;have b1:=hb2.1;have b2:=hb2.2;clear hb2)|(go_at_call 384;refine(HV.out _ _ _ h2).mono ?_;rintro e w3 ⟨t1,z1,rfl,h3⟩)|(go_at_call 371;refine(HU.out _ _ _ h3).mono ?_;rintro e w4 ⟨rfl,h4⟩))
 all_goals
  go_wp2_with fail;go_end0;exact⟨rfl,h4⟩
theorem GC(w w0:World)(sb fa fj:Nat)(op:List UInt8)(k:Nat)(S:World→Prop)(Q1:TypeId→Value→World→Prop)(hW:w.alloc (.cells #[.string (bs op)] 407)=w0)
 (HT:Hid (∀W,aW w0 W→Calls Tryz.prog 158 #[.pointer (some ⟨sb,0,none⟩)] W fun e w'=>e=.returned (.pointer (some ⟨fa,fj,none⟩))∧aW w0 w'))
 (HP:Hid (∀W,aW w0 W→Calls Tryz.prog 171 #[.pointer (some ⟨fa,fj,none⟩)] W fun e w'=>∃t z,e=.returned (.iface t z)∧Q1 t z w'))
 (HB:Hid (∀W t z,Q1 t z W→W.cell? ⟨w.heap.size,0,none⟩=some (.string (bs op))∧w.heap.size<W.heap.size))
 (HV:Hid (∀W t z,Q1 t z W→Calls Tryz.prog 384 #[.string (bs op),.iface t z] W fun e w'=>e=fE k∧S w')):
 Calls Tryz.prog 383 #[.agg #[.string (bs op)],.pointer (some ⟨sb,0,none⟩)] w fun e w'=>e=fE k∧S w':=by
 have hbox:(w.alloc (.cells #[.string (bs op)] 407)).heap[w.heap.size]?=some (.cells #[.string (bs op)] 407 (0,0)):=aR _ _ rfl _;rw[hW] at hbox;have HW:=aB hW;have HC0:=aB (aA (i:=0) hbox rfl);have hlt:=aD hbox;clear hW hbox;go_enter Tryz.func383,Tryz.ntmps383;go_wp2_with fail;rw[HW.out];refine(HT.out _ (aW.refl _)).mono ?_;rintro e w1 ⟨rfl,hs1⟩;have c1:=cQ hs1.heap HC0.out;have hl1:=jI hs1.heap hlt;go_wp2_with fail;go_region_law (first|(go_simp;go_at_call 171;refine(HP.out _ (hs1.trans (aW.drew _))).mono ?_;rintro e w2 ⟨t,z,rfl,h2⟩;have hb2:=HB.out _ _ _ h2;have b1:=hb2.1;have b2:=hb2.2;clear hb2)|(refine TA (.iface 316 (.bool true)) ?_ ?_;(focus go_simp;go_at_call 384;refine(HV.out _ _ _ h2).mono ?_;rintro e w3 ⟨rfl,h3⟩;exact⟨rfl,rfl,h3⟩);intro hfalse)|(refine TA (.tuple #[]) hfalse.out.elim ?_;intro hfalse2))
 all_goals exact hfalse.out.elim
theorem MI(w w0:World)(sb fa fj sl g n cap:Nat)(t:TypeId)(z:Value)(P:World→Prop)(hW:w.alloc (.cells #[.int .i64 sl] 402)=w0)
 (HT:Hid (∀W,aW w0 W→Calls Tryz.prog 158 #[.pointer (some ⟨sb,0,none⟩)] W fun e w'=>e=.returned (.pointer (some ⟨fa,fj,none⟩))∧aW w0 w'))
 (hv:w0.cell? ⟨fa,fj+4,none⟩=some (.slice (some ⟨g,0,none⟩) n cap)) (hx:w0.cell? ⟨g,sl,none⟩=some (.iface t z)) (hsl:sl<n)
 (HU:Hid (∀W,aW w0 W→Calls Tryz.prog 371 #[.pointer (some ⟨fa,fj,none⟩),.iface t z] W fun e w'=>e=.returned (.tuple #[])∧P w')):
 Calls Tryz.prog 374 #[.agg #[.int .i64 sl],.pointer (some ⟨sb,0,none⟩)] w fun e w'=>e=.returned (.tuple #[])∧P w':=by
 have hbox:(w.alloc (.cells #[.int .i64 sl] 402)).heap[w.heap.size]?=some (.cells #[.int .i64 sl] 402 (0,0)):=aR _ _ rfl _;rw[hW] at hbox;have HW:=aB hW;have HC0:=aB (aA (i:=0) hbox rfl);have hlt:=aD hbox;have HC1:=aB hv;have HC2:=aB hx;have e1:(0:Int)≤(sl:Int):=by omega
 have e2:(sl:Int)<(n:Int):=by omega
 clear hW hbox hv hx;go_enter Tryz.func374,Tryz.ntmps374;go_wp2_with fail;rw[HW.out];have c0:=HC0.out;go_region_law (go_simp;first|(go_at_call 158;refine(HT.out _ (by first|assumption|exact aW.drew _)).mono ?_;rintro e w1 ⟨rfl,hs1⟩;have c1:=cQ hs1.heap HC0.out;have hl1:=jI hs1.heap hlt;have c2:=cQ hs1.heap HC1.out;have c3:=cQ hs1.heap HC2.out)|(go_at_call 371;refine(HU.out _ hs1).mono ?_;rintro e w4 ⟨rfl,h4⟩))
 all_goals
  go_wp2_with fail;go_end0;exact⟨rfl,h4⟩
theorem JW(w w0:World)(sb fa fj ln:Nat)(sp:Option Addr)(P:World→Prop)(hW:w.alloc (.cells #[.int .i64 ln,.pointer sp] 365)=w0)
 (HT:Hid (∀W,aW w0 W→Calls Tryz.prog 158 #[.pointer (some ⟨sb,0,none⟩)] W fun e w'=>e=.returned (.pointer (some ⟨fa,fj,none⟩))∧aW w0 w'))
 (hc2:∃u,w0.cell? ⟨fa,fj+2,none⟩=some u) (hc3:∃u,w0.cell? ⟨fa,fj+3,none⟩=some u) (hf2:w0.frozen? ⟨fa,fj+2,none⟩=false) (hf3:w0.frozen? ⟨fa,fj+3,none⟩=false) (hl:fa<w0.heap.size)
 (HN:Hid (∀W,aW w0 W→P ((W.setCell ⟨fa,fj+2,none⟩ (.int .i64 ln)).setCell ⟨fa,fj+3,none⟩ (.pointer sp)))):
 Calls Tryz.prog 373 #[.agg #[.int .i64 ln,.pointer sp],.pointer (some ⟨sb,0,none⟩)] w fun e w'=>e=.returned (.tuple #[])∧P w':=by
 have hbox:(w.alloc (.cells #[.int .i64 ln,.pointer sp] 365)).heap[w.heap.size]?=some (.cells #[.int .i64 ln,.pointer sp] 365 (0,0)):=aR _ _ rfl _;rw[hW] at hbox;have HW:=aB hW;have HC0:=aB (aA (i:=0) hbox rfl);have HC1:=aB (aA (i:=1) hbox rfl);have hlt:=aD hbox;obtain⟨u2,hc2⟩:=hc2;obtain⟨u3,hc3⟩:=hc3;have HC2:=aB hc2;have HC3:=aB hc3;have HF2:=aB hf2;have HF3:=aB hf3;have c0:=HC0.out;have c1:=HC1.out;clear hW hbox hc2 hc3 hf2 hf3;go_enter Tryz.func373,Tryz.ntmps373;go_wp2_with fail;rw[HW.out];go_region_law (go_simp;go_at_call 158;refine(HT.out _ (aW.drew _)).mono ?_;rintro e w1 ⟨rfl,hs1⟩;have d0:=cQ hs1.heap HC0.out;have d1:=cQ hs1.heap HC1.out;have d2:=cQ hs1.heap HC2.out;have d3:=cQ hs1.heap HC3.out;have d4:=pS hs1.heap HF2.out;have d5:=pS hs1.heap HF3.out;have hl1:=jI hs1.heap hlt;have hl2:=jI hs1.heap hl)
 all_goals
  go_wp2_with fail;go_end0;exact⟨rfl,HN.out _ hs1⟩
theorem jL(n:Int):aJ (bB n)=1:=by rw[eN];rfl
theorem kT(b:Bool):aJ (bL b)=1:=by rw[eN];rfl
theorem iN:aJ bK≤200:=by rw[eN];decide
theorem VU(op:List UInt8)(a:aI):aJ (fB op a).1≤200:=by
 unfold fB;repeat' split
 all_goals first|(show aJ (bB _)≤200;rw[jL];omega)|(show aJ (bL _)≤200;rw[kT];omega)|exact iN
theorem RK(op:List UInt8)(x y:Int):aJ (iL op x y).1≤200:=by
 unfold iL;repeat' split
 all_goals first|(show aJ (bB _)≤200;rw[jL];omega)|(show aJ (bL _)≤200;rw[kT];omega)|exact iN
theorem IT(a b:aI):aJ (iK a b).1≤200:=by
 unfold iK;dsimp only;by_cases h:200<aJ (if a.sort=3 then aU (a.l++b.l) else bH (a.s++b.s))
 ·rw[if_pos h];exact iN
 ·rw[if_neg h];exact Nat.le_of_not_lt h
theorem UI(op:List UInt8)(a b:aI):aJ (eG op a b).1≤200:=by
 unfold eG;repeat' split
 all_goals first|exact RK _ _ _|exact IT _ _|(show aJ (bL _)≤200;rw[kT];omega)|exact iN
theorem ML(r:aI × Nat)(h:(gO r).2=0):aJ (gO r).1≤200:=by
 unfold gO at h ⊢
 by_cases h1:r.2=0
 ·rw[if_pos h1] at h ⊢
  by_cases h2:200<aJ r.1
  ·rw[if_pos h2] at h;cases h
  ·rw[if_neg h2];omega
 ·rw[if_neg h1] at h;exact absurd h h1
theorem PV.bool{F:Nat→Prop}{w:World}{v:Value}{a:aI}(h:PV F w v a)(hs:a.sort=1):a=bL (decide (a.n=1)):=by
 rcases h.cases with ⟨n,_,rfl,_⟩|⟨b,_,rfl⟩|⟨s,_,rfl⟩|⟨x,c,l,_,rfl,_⟩
 ·simp[bB] at hs
 ·cases b<;>rfl
 ·simp[bH] at hs
 ·simp[aU] at hs
theorem iF{f:aK}{vs:List aI}{a:aI}(h:f.ops=vs++[a]):f.last=a:=by simp[aK.last,h]
theorem lK{f:aK}{vs:List aI}{a:aI}(h:f.ops=vs++[a]):f.pop.ops=vs:=by simp[aK.pop,h]
def mZ(fp:Nat→Value)(F:Nat→Prop)(base sb:Nat)(t0 s0:Value)(own:List Nat)(w:World)(below:List aK)(tape:List Int)(out:List (List UInt8))(r:aK × Nat)(e:Ending)(w':World):Prop:=
 R5 r.2 e∧Done fp F base sb t0 s0 own w ⟨below++[r.1],tape,out⟩ w'
section
variable {fp:Nat→Value} {F:Nat→Prop} {base:Nat} {w:World} {sb gf cap:Nat} {t0 tv outv s0:Value} {fvs:List FVal} {below:List aK} {f:aK} {tape:List Int} {out:List (List UInt8)}
theorem mZ.ok{own:List Nat}{r:aK × Nat}{g:aK}{w':World}(hr:r=(g,0))(h:Done fp F base sb t0 s0 own w ⟨below++[g],tape,out⟩ w'):mZ fp F base sb t0 s0 own w below tape out r (.returned (.tuple #[])) w':=by
 subst hr;exact⟨Or.inl ⟨rfl,rfl⟩,h⟩
theorem mZ.stop{own:List Nat}{r:aK × Nat}{g:aK}{k:Nat}{w':World}(hr:r=(g,k))(hk:k≠0)(h:Done fp F base sb t0 s0 own w ⟨below++[g],tape,out⟩ w'):mZ fp F base sb t0 s0 own w below tape out r (fE k) w':=by
 subst hr;exact⟨Or.inr ⟨hk,rfl⟩,h⟩
theorem cO.count{m:cM}(h:cO fp F base w sb gf cap t0 tv outv s0 fvs m):fvs.length=m.frames.length:=h.frs.length
theorem cO.mid(h:cO fp F base w sb gf cap t0 tv outv s0 fvs ⟨below++[f],tape,out⟩)(hb:base≤w.heap.size)(ob:Obj):Mid fp base sb gf below.length t0 s0 (aF sb gf outv fvs) (w.alloc ob) F ⟨below++[f],tape,out⟩ (w.alloc ob):=
 Mid.init h (by rw[h.count];simp) hb ob
theorem Mid.topS{own:List Nat}{w0:World}{G:Nat→Prop}{n:Nat}{m:cM}(h:Mid fp base sb gf n t0 s0 own w0 G m w0)(hn:n≤15):Hid (∀W,aW w0 W→Calls Tryz.prog 158 #[.pointer (some ⟨sb,0,none⟩)] W fun e w'=>e=.returned (.pointer (some ⟨gf,n*6,none⟩))∧aW w0 w'):=fun W hS=>by
 refine((h.same hS).top hn).mono ?_;rintro e w' ⟨he,hs⟩;exact⟨he,hS.trans hs⟩
theorem Mid.box{n:Nat}{G:Nat→Prop}{m:cM}{cs:Array Value}{ty:TypeId}{W:World}(h:cO fp F base w sb gf cap t0 tv outv s0 fvs ⟨below++[f],tape,out⟩)(hM:Mid fp base sb gf n t0 s0 (aF sb gf outv fvs) (w.alloc (.cells cs ty)) G m W):W.heap[w.heap.size]?=some (.cells cs ty (0,0)):=by
 rw[hM.old (by simp) (fun hm=>Nat.lt_irrefl _ (h.lt _ hm))]
 exact aR _ _ rfl _
theorem M6(h:cO fp F base w sb gf cap t0 tv outv s0 fvs ⟨below++[f],tape,out⟩)(hbel:below.length≤15)(hbase:base≤w.heap.size)(hops:f.ops.length≤99000)(hne:∃vs a,f.ops=vs++[a]):
 Calls Tryz.prog 410 #[.agg #[],.pointer (some ⟨sb,0,none⟩)] w (mZ fp F base sb t0 s0 (aF sb gf outv fvs) w below tape out (aN .drop f)):=by
 obtain⟨vs,a,hf⟩:=hne;have hM:=h.mid hbase (.cells #[] 449);refine(NQ w _ sb gf (below.length*6) (fun w'=>Done fp F base sb t0 s0 (aF sb gf outv fvs) w ⟨below++[f.pop],tape,out⟩ w') rfl (hM.topS hbel) fun W hS=>?_).mono ?_
 ·refine((hM.same hS).pop hf (by omega)).mono ?_
  rintro e w' ⟨t,z,he,_,_,h2⟩;exact⟨t,z,he,h2.done (Ext.refl _ _)⟩
 ·rintro e w' ⟨rfl,h2⟩;exact mZ.ok rfl h2
theorem YY(h:cO fp F base w sb gf cap t0 tv outv s0 fvs ⟨below++[f],tape,out⟩)(hbel:below.length≤15)(hbase:base≤w.heap.size)(hops:f.ops.length≤99000)(hne:∃vs a,f.ops=vs++[a]):
 Calls Tryz.prog 396 #[.agg #[],.pointer (some ⟨sb,0,none⟩)] w (mZ fp F base sb t0 s0 (aF sb gf outv fvs) w below tape out (aN .truth f)):=by
 obtain⟨vs,a,hf⟩:=hne;have hM:=h.mid hbase (.cells #[] 436);have hl:f.pop.ops.length≤100000:=by rw[lK hf];rw[hf,List.length_append] at hops;omega
 refine(GE w _ sb gf (below.length*6) (fun w'=>a.sort=1∧Done fp F base sb t0 s0 (aF sb gf outv fvs) w ⟨below++[f.pop.push a],tape,out⟩ w') (fun w'=>a.sort≠1∧Done fp F base sb t0 s0 (aF sb gf outv fvs) w ⟨below++[f.pop],tape,out⟩ w')
  (fun t z W=>PV F W (.iface t z) a∧aJ a≤200∧Mid fp base sb gf below.length t0 s0 (aF sb gf outv fvs) (w.alloc (.cells #[] 436)) F ⟨below++[f.pop],tape,out⟩ W)
  (fun b W=>a.sort=1∧a=bL b∧Mid fp base sb gf below.length t0 s0 (aF sb gf outv fvs) (w.alloc (.cells #[] 436)) F ⟨below++[f.pop],tape,out⟩ W) rfl (hM.topS hbel) (fun W hS=>?_) (fun W t z hq=>?_) (fun W b hq=>?_)).mono ?_
 ·refine((hM.same hS).pop hf (by omega)).mono ?_
  rintro e w' ⟨t,z,he,h1,h2,h3⟩;exact⟨t,z,he,h1,h2,h3⟩
 ·obtain⟨h1,h2,h3⟩:=hq;refine(nR F _ a W h1).mono ?_;rintro e w' ⟨rfl,⟨hs,rfl⟩|⟨hs,rfl⟩⟩
  ·exact Or.inl ⟨_,rfl,hs,h1.bool hs,h3⟩
  ·exact Or.inr ⟨rfl,hs,h3.done (Ext.refl _ _)⟩
 ·obtain⟨h1,h2,h3⟩:=hq;rw[h2] at h1 ⊢
  refine(h3.push (PV.tru F W b) (by rw[kT];omega) hl).mono ?_
  rintro e w' ⟨he,h4⟩;exact⟨he,h1,h4.done (Ext.refl _ _)⟩
 ·have hr:aN .truth f=if a.sort=1 then (f.pop.push a,0) else (f.pop,2):=by simp[aN,iF hf]
  rw[hr];rintro e w' (⟨rfl,h1,h2⟩|⟨rfl,h1,h2⟩)
  ·exact mZ.ok (if_pos h1) h2
  ·exact mZ.stop (if_neg h1) (by decide) h2
end
section
variable {fp:Nat→Value} {F:Nat→Prop} {base:Nat} {w:World} {sb gf cap:Nat} {t0 tv outv s0:Value} {fvs:List FVal} {below:List aK} {f:aK} {tape:List Int} {out:List (List UInt8)}
theorem Mid.next{own:List Nat}{w0:World}{G:Nat→Prop}{n:Nat}(h:Mid fp base sb gf n t0 s0 own w0 G ⟨below++[f],tape,out⟩ w)(tg:Nat):Mid fp base sb gf n t0 s0 own w0 G ⟨below++[{ f with next:=tg }],tape,out⟩ (w.setCell ⟨gf,n*6+1,none⟩ (.int .i64 tg)):=
 h.set 1 (.int .i64 tg) (by omega) (fun v=>{ v with nx:=.int .i64 tg }) (fun _=>rfl) (fun _ _=>rfl) fun _ hv=>⟨hv.fn,rfl,hv.ln,hv.sp,hv.vars,hv.ops⟩
theorem Mid.cell{own:List Nat}{w0:World}{G:Nat→Prop}{n:Nat}(h:Mid fp base sb gf n t0 s0 own w0 G ⟨below++[f],tape,out⟩ w)(j:Nat)(hj:j<6):(∃u,w.cell? ⟨gf,n*6+j,none⟩=some u)∧w.frozen? ⟨gf,n*6+j,none⟩=false∧gf<w.heap.size:=by
 obtain⟨v,hv,hl,hc⟩:=h.cells;obtain⟨h1,h2⟩:=hc j (v.cells[j]'(by simpa [FVal.cells] using hj)) (List.getElem?_eq_getElem _)
 exact⟨⟨_,h1⟩,h2,hl⟩
theorem K9(tg:Nat)(h:cO fp F base w sb gf cap t0 tv outv s0 fvs ⟨below++[f],tape,out⟩)(hbel:below.length≤15)(hbase:base≤w.heap.size):
 Calls Tryz.prog 412 #[.agg #[.int .i64 tg],.pointer (some ⟨sb,0,none⟩)] w (mZ fp F base sb t0 s0 (aF sb gf outv fvs) w below tape out (aN (.jump tg) f)):=by
 have hM:=h.mid hbase (.cells #[.int .i64 tg] 462);obtain⟨h1,h2,h3⟩:=hM.cell 1 (by omega)
 refine(MP w _ sb gf (below.length*6) tg (fun w'=>Done fp F base sb t0 s0 (aF sb gf outv fvs) w ⟨below++[{ f with next:=tg }],tape,out⟩ w') rfl (hM.topS hbel) h1 h2 h3 fun W hS=>?_).mono ?_
 ·exact((hM.same hS).next tg).done (Ext.refl _ _)
 ·rintro e w' ⟨rfl,h2⟩;exact mZ.ok rfl h2
theorem UF(tg:Nat)(h:cO fp F base w sb gf cap t0 tv outv s0 fvs ⟨below++[f],tape,out⟩)(hbel:below.length≤15)(hbase:base≤w.heap.size)(hops:f.ops.length≤99000)(hne:∃vs a,f.ops=vs++[a]):
 Calls Tryz.prog 411 #[.agg #[.int .i64 tg],.pointer (some ⟨sb,0,none⟩)] w (mZ fp F base sb t0 s0 (aF sb gf outv fvs) w below tape out (aN (.skip tg) f)):=by
 obtain⟨vs,a,hf⟩:=hne;have hM:=h.mid hbase (.cells #[.int .i64 tg] 461)
 refine(CF w _ sb gf (below.length*6) tg (fun w'=>a.sort=1∧Done fp F base sb t0 s0 (aF sb gf outv fvs) w ⟨below++[if a.n=1 then f.pop else { f.pop with next:=tg }],tape,out⟩ w') (fun w'=>a.sort≠1∧Done fp F base sb t0 s0 (aF sb gf outv fvs) w ⟨below++[f.pop],tape,out⟩ w')
  (fun t z W=>PV F W (.iface t z) a∧aJ a≤200∧Mid fp base sb gf below.length t0 s0 (aF sb gf outv fvs) (w.alloc (.cells #[.int .i64 tg] 461)) F ⟨below++[f.pop],tape,out⟩ W)
  (fun b W=>a.sort=1∧b=decide (a.n=1)∧Mid fp base sb gf below.length t0 s0 (aF sb gf outv fvs) (w.alloc (.cells #[.int .i64 tg] 461)) F ⟨below++[f.pop],tape,out⟩ W) rfl (hM.topS hbel) (fun W hS=>?_) (fun W t z hq=>?_) (fun W hq=>?_) (fun W hq=>?_) (fun W b hq=>?_)).mono ?_
 ·refine((hM.same hS).pop hf (by omega)).mono ?_
  rintro e w' ⟨t,z,he,h1,h2,h3⟩;exact⟨t,z,he,h1,h2,h3⟩
 ·obtain⟨h1,h2,h3⟩:=hq;refine(nR F _ a W h1).mono ?_;rintro e w' ⟨rfl,⟨hs,rfl⟩|⟨hs,rfl⟩⟩
  ·exact Or.inl ⟨_,rfl,hs,rfl,h3⟩
  ·exact Or.inr ⟨rfl,hs,h3.done (Ext.refl _ _)⟩
 ·obtain⟨h1,h2,h3⟩:=hq;refine⟨h1,?_⟩;rw[if_pos (of_decide_eq_true h2.symm)];exact h3.done (Ext.refl _ _)
 ·obtain⟨h1,h2,h3⟩:=hq;refine⟨h1,?_⟩;rw[if_neg (of_decide_eq_false h2.symm)];exact(h3.next tg).done (Ext.refl _ _)
 ·obtain⟨h1,h2,h3⟩:=hq;have hb:=Mid.box h h3;obtain⟨k1,k2,k3⟩:=h3.cell 1 (by omega)
  exact⟨aA hb rfl,aD hb,k1,k2,k3⟩
 ·have hr:aN (.skip tg) f=if a.sort=1 then (if a.n=1 then f.pop else { f.pop with next:=tg },0) else (f.pop,2):=by simp[aN,iF hf]
  rw[hr];rintro e w' (⟨rfl,h1,h2⟩|⟨rfl,h1,h2⟩)
  ·exact mZ.ok (if_pos h1) h2
  ·exact mZ.stop (if_neg h1) (by decide) h2
theorem LC(wh:Bool)(tg:Nat)(h:cO fp F base w sb gf cap t0 tv outv s0 fvs ⟨below++[f],tape,out⟩)(hbel:below.length≤15)(hbase:base≤w.heap.size)(hops:f.ops.length≤99000)(hne:∃vs a,f.ops=vs++[a]):
 Calls Tryz.prog 397 #[.agg #[.bool wh,.int .i64 tg],.pointer (some ⟨sb,0,none⟩)] w (mZ fp F base sb t0 s0 (aF sb gf outv fvs) w below tape out (aN (.shortcut wh tg) f)):=by
 obtain⟨vs,a,hf⟩:=hne;have hM:=h.mid hbase (.cells #[.bool wh,.int .i64 tg] 438);have hl:f.pop.ops.length≤100000:=by rw[lK hf];rw[hf,List.length_append] at hops;omega
 refine(xP w _ sb gf (below.length*6) tg wh (fun w'=>a.sort=1∧Done fp F base sb t0 s0 (aF sb gf outv fvs) w ⟨below++[if decide (a.n=1)=wh then { f.pop.push a with next:=tg } else f.pop],tape,out⟩ w') (fun w'=>a.sort≠1∧Done fp F base sb t0 s0 (aF sb gf outv fvs) w ⟨below++[f.pop],tape,out⟩ w')
  (fun t z W=>PV F W (.iface t z) a∧aJ a≤200∧Mid fp base sb gf below.length t0 s0 (aF sb gf outv fvs) (w.alloc (.cells #[.bool wh,.int .i64 tg] 438)) F ⟨below++[f.pop],tape,out⟩ W)
  (fun b W=>a.sort=1∧b=decide (a.n=1)∧a=bL b∧Mid fp base sb gf below.length t0 s0 (aF sb gf outv fvs) (w.alloc (.cells #[.bool wh,.int .i64 tg] 438)) F ⟨below++[f.pop],tape,out⟩ W)
  (fun b W=>a.sort=1∧b=decide (a.n=1)∧Mid fp base sb gf below.length t0 s0 (aF sb gf outv fvs) (w.alloc (.cells #[.bool wh,.int .i64 tg] 438)) F ⟨below++[f.pop.push a],tape,out⟩ W) rfl (hM.topS hbel) (fun W hS=>?_) (fun W t z hq=>?_) (fun W b hq=>?_) (fun W b hq hne=>?_) (fun W b hq he=>?_) (fun W b hq=>?_) (fun W b hq=>?_)).mono ?_
 ·refine((hM.same hS).pop hf (by omega)).mono ?_
  rintro e w' ⟨t,z,he,h1,h2,h3⟩;exact⟨t,z,he,h1,h2,h3⟩
 ·obtain⟨h1,h2,h3⟩:=hq;refine(nR F _ a W h1).mono ?_;rintro e w' ⟨rfl,⟨hs,rfl⟩|⟨hs,rfl⟩⟩
  ·exact Or.inl ⟨_,rfl,hs,rfl,h1.bool hs,h3⟩
  ·exact Or.inr ⟨rfl,hs,h3.done (Ext.refl _ _)⟩
 ·obtain⟨h1,h2,h3,h4⟩:=hq;refine(h4.push (a:=a) (by rw[h3];exact PV.tru F W b) (by rw[h3,kT];omega) hl).mono ?_
  rintro e w' ⟨he,h5⟩;exact⟨he,h1,h2,h5⟩
 ·obtain⟨h1,h2,h3,h4⟩:=hq;refine⟨h1,?_⟩;rw[if_neg (by rw[←h2];exact hne)]
  exact h4.done (Ext.refl _ _)
 ·obtain⟨h1,h2,h3⟩:=hq;refine⟨h1,?_⟩;rw[if_pos (by rw[←h2];exact he)]
  exact(h3.next tg).done (Ext.refl _ _)
 ·obtain⟨h1,h2,h3,h4⟩:=hq;have hb:=Mid.box h h4;exact⟨aA hb rfl,aD hb⟩
 ·obtain⟨h1,h2,h3⟩:=hq;have hb:=Mid.box h h3;obtain⟨k1,k2,k3⟩:=h3.cell 1 (by omega)
  exact⟨aA hb rfl,aD hb,k1,k2,k3⟩
 ·have hr:aN (.shortcut wh tg) f=if a.sort=1 then (if decide (a.n=1)=wh then { f.pop.push a with next:=tg } else f.pop,0) else (f.pop,2):=by simp[aN,iF hf]
  rw[hr];rintro e w' (⟨rfl,h1,h2⟩|⟨rfl,h1,h2⟩)
  ·exact mZ.ok (if_pos h1) h2
  ·exact mZ.stop (if_neg h1) (by decide) h2
end
section
variable {fp:Nat→Value} {F:Nat→Prop} {base:Nat} {w:World} {sb gf cap:Nat} {t0 tv outv s0:Value} {fvs:List FVal} {below:List aK} {f:aK} {tape:List Int} {out:List (List UInt8)}
theorem Mid.apart{own:List Nat}{w0:World}{G:Nat→Prop}{n:Nat}{m:cM}(h:Mid fp base sb gf n t0 s0 own w0 G m w):∀k,G k→k<w.heap.size∧k≠gf:=by
 obtain⟨h1,h2,cap,tv,outv,fvs,h3,h4,h5⟩:=h;exact fun k hk=>⟨(h4.apart k hk).1,fun e=>(h4.apart k hk).2 (by simp[aF,e])⟩
theorem lF.cell{G:Nat→Prop}{v:Value}{l:List aI}{k:Nat}(h:lF G base w v l)(hk:k<l.length):∃g cap t z,v=.slice (some ⟨g,0,none⟩) l.length cap∧w.cell? ⟨g,k,none⟩=some (.iface t z)∧PV G w (.iface t z) l[k]∧aJ l[k]≤200:=by
 obtain⟨⟨xs,h1,h2,h3⟩,h4⟩:=h;obtain⟨u,e1,e2⟩:=h3 k hk;obtain⟨t,z,rfl⟩:=e2.form;rcases h1.2 with ⟨r1,r2⟩|⟨g,c,row,rfl,hg1,hrow,hcap,hcm,hcs,htk⟩
 ·omega
 refine⟨g,c,t,z,rfl,aA hrow ?_,e2,h4 _ (List.getElem_mem _)⟩;rw[←htk,List.getElem?_take] at e1;split at e1
 ·simpa using e1
 ·cases e1
theorem K6(k:Nat)(h:cO fp F base w sb gf cap t0 tv outv s0 fvs ⟨below++[f],tape,out⟩)(hbel:below.length≤15)(hbase:base≤w.heap.size)(hops:f.ops.length≤99000)(hk:k<f.vars.length):
 Calls Tryz.prog 374 #[.agg #[.int .i64 k],.pointer (some ⟨sb,0,none⟩)] w (mZ fp F base sb t0 s0 (aF sb gf outv fvs) w below tape out (aN (.load k) f)):=by
 have hM:=h.mid hbase (.cells #[.int .i64 k] 402);obtain⟨v,hv,hl,hc⟩:=hM.cells;obtain⟨g,c,t,z,e1,e2,e3,e4⟩:=hv.vars.cell hk;have h4:=(hc 4 v.vv rfl).1;rw[e1] at h4;refine(MI w _ sb gf (below.length*6) k g f.vars.length c t z (fun w'=>Done fp F base sb t0 s0 (aF sb gf outv fvs) w ⟨below++[f.push f.vars[k]],tape,out⟩ w') rfl (hM.topS hbel) h4 e2 hk fun W hS=>?_).mono ?_
 ·refine((hM.same hS).push (e3.keep fun b _=>by rw[hS.heap]) e4 (by omega)).mono ?_
  rintro e w' ⟨he,h2⟩;exact⟨he,h2.done (Ext.refl _ _)⟩
 ·rintro e w' ⟨rfl,h2⟩;refine mZ.ok ?_ h2;simp[aN,List.getElem?_eq_getElem hk]
theorem E8(l:Nat)(sp:Value)(s:List (List UInt8))(h:cO fp F base w sb gf cap t0 tv outv s0 fvs ⟨below++[f],tape,out⟩)(hbel:below.length≤15)(hbase:base≤w.heap.size)(hs:eO F w sp s):
 Calls Tryz.prog 373 #[.agg #[.int .i64 l,sp],.pointer (some ⟨sb,0,none⟩)] w (mZ fp F base sb t0 s0 (aF sb gf outv fvs) w below tape out (aN (.begin l s) f)):=by
 obtain⟨sp,rfl⟩:=hs.form;have hM:=h.mid hbase (.cells #[.int .i64 l,.pointer sp] 365);obtain⟨h1,h2,h3⟩:=hM.cell 2 (by omega)
 obtain⟨k1,k2,k3⟩:=hM.cell 3 (by omega)
 refine(JW w _ sb gf (below.length*6) l sp (fun w'=>Done fp F base sb t0 s0 (aF sb gf outv fvs) w ⟨below++[{ f with line:=l,seen:=s }],tape,out⟩ w') rfl (hM.topS hbel) h1 k1 h2 k2 h3 fun W hS=>?_).mono ?_
 ·have hW:=hM.same hS
  have hs0:eO F W (.pointer sp) s:=eO.keep (fun b hb=>by
   rw[hS.heap];exact Below.heap_alloc _ _ _ (h.apart b hb).1) (fun _ h=>h) hs
  have h5:Mid fp base sb gf below.length t0 s0 (aF sb gf outv fvs) _ F ⟨below++[{ f with line:=l }],tape,out⟩ _:=hW.set 2 (.int .i64 l) (by omega) (fun v=>{ v with ln:=.int .i64 l }) (fun _=>rfl) (fun _ _=>rfl) fun _ hv=>⟨hv.fn,hv.nx,rfl,hv.sp,hv.vars,hv.ops⟩
  have hs1:eO F (W.setCell ⟨gf,below.length*6+2,none⟩ (.int .i64 l)) (.pointer sp) s:=eO.keep (fun b hb=>Below.heap_setCell _ _ _ _ (hW.apart b hb).2) (fun _ h=>h) hs0
  have h6:Mid fp base sb gf below.length t0 s0 (aF sb gf outv fvs) _ F ⟨below++[{ f with line:=l,seen:=s }],tape,out⟩ _:=h5.set 3 (.pointer sp) (by omega) (fun v=>{ v with sp:=.pointer sp }) (fun _=>rfl) (fun _ _=>rfl) fun _ hv=>⟨hv.fn,hv.nx,hv.ln,hs1,hv.vars,hv.ops⟩
  exact h6.done (Ext.refl _ _)
 ·rintro e w' ⟨rfl,h2⟩;exact mZ.ok rfl h2
theorem YU(op:List UInt8)(ho:op=[45]∨op=[33])(h:cO fp F base w sb gf cap t0 tv outv s0 fvs ⟨below++[f],tape,out⟩)(hbel:below.length≤15)(hbase:base≤w.heap.size)(hops:f.ops.length≤99000)(hne:∃vs a,f.ops=vs++[a]):
 Calls Tryz.prog 383 #[.agg #[.string (bs op)],.pointer (some ⟨sb,0,none⟩)] w (mZ fp F base sb t0 s0 (aF sb gf outv fvs) w below tape out (aN (.unary op) f)):=by
 obtain⟨vs,a,hf⟩:=hne;have hM:=h.mid hbase (.cells #[.string (bs op)] 407);have hl:f.pop.ops.length≤100000:=by rw[lK hf];rw[hf,List.length_append] at hops;omega
 have hun:∀(W:World) (v:Value),PV F W v a→Calls Tryz.prog 384 #[.string (bs op),v] W (kK F W (fB (op++[120]) a)):=fun W v hv=>by
  rcases ho with rfl|rfl
  ·exact AI 45 (Or.inl rfl) F v a W hv
  ·exact AI 33 (Or.inr rfl) F v a W hv
 have hr:aN (.unary op) f=if (fB (op++[120]) a).2=0 then (f.pop.push (fB (op++[120]) a).1,0) else (f.pop,(fB (op++[120]) a).2):=by simp[aN,iF hf]
 have hcl:=VU (op++[120]) a;generalize fB (op++[120]) a=r at hun hr hcl;rw[hr]
 have HP:Hid (∀W,aW (w.alloc (.cells #[.string (bs op)] 407)) W→Calls Tryz.prog 171 #[.pointer (some ⟨gf,below.length*6,none⟩)] W fun e w'=>∃t z,e=.returned (.iface t z)∧PV F w' (.iface t z) a∧Mid fp base sb gf below.length t0 s0 (aF sb gf outv fvs) (w.alloc (.cells #[.string (bs op)] 407)) F ⟨below++[f.pop],tape,out⟩ w'):=fun W hS=>by
  refine((hM.same hS).pop hf (by omega)).mono ?_
  rintro e w' ⟨t,z,he,h1,h2,h3⟩;exact⟨t,z,he,h1,h3⟩
 by_cases hz:r.2=0
 ·rw[if_pos hz];refine(PA w _ sb gf (below.length*6) op (fun w'=>Done fp F base sb t0 s0 (aF sb gf outv fvs) w ⟨below++[f.pop.push r.1],tape,out⟩ w') (fun t z W=>PV F W (.iface t z) a∧Mid fp base sb gf below.length t0 s0 (aF sb gf outv fvs) (w.alloc (.cells #[.string (bs op)] 407)) F ⟨below++[f.pop],tape,out⟩ W) (fun t z W=>PV F W (.iface t z) r.1∧Mid fp base sb gf below.length t0 s0 (aF sb gf outv fvs) (w.alloc (.cells #[.string (bs op)] 407)) F ⟨below++[f.pop],tape,out⟩ W) rfl (hM.topS hbel) HP (fun W t z hq=>?_) (fun W t z hq=>?_) (fun W t z hq=>?_)).mono ?_
  ·have hb:=Mid.box h hq.2;exact⟨aA hb rfl,aD hb⟩
  ·refine(hun W _ hq.1).mono ?_;rintro e w' ⟨rfl,⟨_,u,rfl,hu⟩|⟨hk,_⟩⟩
   ·obtain⟨t1,z1,rfl⟩:=hu.form;exact⟨t1,z1,rfl,hu,hq.2⟩
   ·exact absurd hz hk
  ·refine(hq.2.push hq.1 hcl hl).mono ?_;rintro e w' ⟨he,h4⟩;exact⟨he,h4.done (Ext.refl _ _)⟩
  ·rintro e w' ⟨rfl,h2⟩;exact mZ.ok rfl h2
 ·rw[if_neg hz];refine(GC w _ sb gf (below.length*6) op r.2 (fun w'=>Done fp F base sb t0 s0 (aF sb gf outv fvs) w ⟨below++[f.pop],tape,out⟩ w') (fun t z W=>PV F W (.iface t z) a∧Mid fp base sb gf below.length t0 s0 (aF sb gf outv fvs) (w.alloc (.cells #[.string (bs op)] 407)) F ⟨below++[f.pop],tape,out⟩ W) rfl (hM.topS hbel) HP (fun W t z hq=>?_) (fun W t z hq=>?_)).mono ?_
  ·have hb:=Mid.box h hq.2;exact⟨aA hb rfl,aD hb⟩
  ·refine(hun W _ hq.1).mono ?_;rintro e w' ⟨rfl,⟨hk,_⟩|⟨hk,rfl⟩⟩
   ·exact absurd hk hz
   ·exact⟨rfl,hq.2.done (Ext.refl _ _)⟩
  ·rintro e w' ⟨rfl,h2⟩;exact mZ.stop rfl hz h2
theorem YK(op:List UInt8)(h:cO fp F base w sb gf cap t0 tv outv s0 fvs ⟨below++[f],tape,out⟩)(hbel:below.length≤15)(hbase:base≤w.heap.size)(hops:f.ops.length≤99000)(hne:∃vs a b,f.ops=vs++[a,b]):
 Calls Tryz.prog 387 #[.agg #[.string (bs op)],.pointer (some ⟨sb,0,none⟩)] w (mZ fp F base sb t0 s0 (aF sb gf outv fvs) w below tape out (aN (.binary op) f)):=by
 obtain⟨vs,a,b,hf⟩:=hne;have hf:f.ops=(vs++[a])++[b]:=by rw[hf];simp
 have hM:=h.mid hbase (.cells #[.string (bs op)] 435);have hf2:f.pop.ops=vs++[a]:=lK hf;have hlen:=hops;rw[hf,List.length_append,List.length_append] at hlen;have hl1:f.pop.ops.length≤100000:=by rw[hf2,List.length_append];omega
 have hl2:f.pop.pop.ops.length≤100000:=by rw[lK hf2];omega
 have hr:aN (.binary op) f=if (eG op a b).2=0 then (f.pop.pop.push (eG op a b).1,0) else (f.pop.pop,(eG op a b).2):=by simp[aN,iF hf,iF hf2]
 have hcl:=UI op a b;have hbi:∀(W:World) (u v:Value),PV F W u a→PV F W v b→(∀k,F k→k<W.heap.size)→aJ a≤200→aJ b≤200→Calls Tryz.prog 388 #[.string (bs op),u,v] W (eH F W (eG op a b)):=fun W u v h1 h2 h3 h4 h5=>LT op F u v a b W h1 h2 h3 (by omega) (by omega)
 generalize eG op a b=r at hbi hr hcl;rw[hr]
 refine(EE w _ sb gf (below.length*6) op r.2 (fun w'=>r.2=0∧Done fp F base sb t0 s0 (aF sb gf outv fvs) w ⟨below++[f.pop.pop.push r.1],tape,out⟩ w') (fun w'=>r.2≠0∧Done fp F base sb t0 s0 (aF sb gf outv fvs) w ⟨below++[f.pop.pop],tape,out⟩ w')
  (fun t z W=>PV F W (.iface t z) b∧aJ b≤200∧Mid fp base sb gf below.length t0 s0 (aF sb gf outv fvs) (w.alloc (.cells #[.string (bs op)] 435)) F ⟨below++[f.pop],tape,out⟩ W)
  (fun t z t' z' W=>PV F W (.iface t z) b∧aJ b≤200∧PV F W (.iface t' z') a∧aJ a≤200∧Mid fp base sb gf below.length t0 s0 (aF sb gf outv fvs) (w.alloc (.cells #[.string (bs op)] 435)) F ⟨below++[f.pop.pop],tape,out⟩ W)
  (fun t z W=>r.2=0∧∃G,Ext F G w.heap.size∧PV G W (.iface t z) r.1∧Mid fp base sb gf below.length t0 s0 (aF sb gf outv fvs) (w.alloc (.cells #[.string (bs op)] 435)) G ⟨below++[f.pop.pop],tape,out⟩ W) rfl (hM.topS hbel) (fun W hS=>?_) (fun W t z hq=>?_) (fun W t z t' z' hq=>?_) (fun W t z t' z' hq=>?_) (fun W t z hq=>?_)).mono ?_
 ·refine((hM.same hS).pop hf (by omega)).mono ?_
  rintro e w' ⟨t,z,he,h1,h2,h3⟩;exact⟨t,z,he,h1,h2,h3⟩
 ·obtain⟨h1,h2,h3⟩:=hq;refine(h3.popK hf2 hl1).mono ?_;rintro e w' ⟨t',z',he,k1,k2,k3,k4⟩;exact⟨t',z',he,h1.keep k4,h2,k1,k2,k3⟩
 ·have hb:=Mid.box h hq.2.2.2.2;exact⟨aA hb rfl,aD hb⟩
 ·obtain⟨h1,h2,h3,h4,h5⟩:=hq;refine(hbi W _ _ h3 h1 (fun k hk=>(h5.apart k hk).1) h4 h2).mono ?_
  rintro e w' ⟨hb,⟨hz,u,rfl,hu⟩|⟨hz,rfl⟩⟩
  ·obtain⟨t1,z1,rfl⟩:=hu.form;exact Or.inl ⟨t1,z1,rfl,hz,Grow F W w',⟨fun _=>Or.inl,fun k hk=>hk.imp_right fun h1=>Nat.le_trans (Nat.le_trans (by simp) h5.1.size) h1.1⟩,hu,h5.grow hb (fun _=>Or.inl) fun _ h=>h⟩
  ·exact Or.inr ⟨rfl,hz,(h5.grow hb (fun _ h=>h) fun _=>Or.inl).done (Ext.refl _ _)⟩
 ·obtain⟨hz,G,hG,h1,h2⟩:=hq;refine(h2.push h1 hcl hl2).mono ?_;rintro e w' ⟨he,h4⟩;exact⟨he,hz,h4.done hG⟩
 ·rintro e w' (⟨rfl,h1,h2⟩|⟨rfl,h1,h2⟩)
  ·exact mZ.ok (if_pos h1) h2
  ·exact mZ.stop (if_neg h1) h1 h2
end
section
variable {fp:Nat→Value} {F G G':Nat→Prop} {base:Nat} {w:World} {sb gf cap:Nat} {t0 tv outv s0:Value} {fvs:List FVal} {below:List aK} {f:aK} {tape:List Int} {out:List (List UInt8)}
theorem cO.more{m:cM}(h:cO fp G base w sb gf cap t0 tv outv s0 fvs m)(hF:∀k,G k→G' k)(hG:∀k,G' k→G k∨(k<w.heap.size∧k∉aF sb gf outv fvs)):cO fp G' base w sb gf cap t0 tv outv s0 fvs m:=
 ⟨h.blk,h.row,h.frs.keep (fun _ _=>rfl) hF fun _ _ _ _=>rfl,h.tape.keep (fun _ _=>rfl) hF,h.out,h.nodup,h.lt,fun k hk=>by
   rcases hG k hk with h1|h1
   ·exact h.apart k h1
   ·exact h1⟩
theorem cO.popMany{vs us:List aI}(h:cO fp G base w sb gf cap t0 tv outv s0 fvs ⟨below++[f],tape,out⟩)(hf:f.ops=vs++us)(hops:f.ops.length≤100000):
 Calls Tryz.prog 377 #[.pointer (some ⟨gf,below.length*6,none⟩),.int .i64 us.length] w fun e w'=>∃v' ys fvs',e=.returned v'∧Kept (aF sb gf outv fvs) w w'∧aF sb gf outv fvs'=aF sb gf outv fvs∧fvs'.length=fvs.length∧cO fp G base w' sb gf cap t0 tv outv s0 fvs' ⟨below++[f.popMany us.length],tape,out⟩∧
  w'.ownsRow w.heap.size 256 1 v' us.length ys∧fR G w' ys us∧(∀a∈us,aJ a≤200)∧∀k,G k→w'.heap[k]?=w.heap[k]?:=by
 obtain⟨fb,v,cur,rfl,hfl,hv,hblk,hcur,hcap,k0,k1,k2,k3,k4,k5⟩:=h.top;rw[←hfl];obtain⟨⟨xs,hown,hxs⟩,hc200⟩:=hv.ops;rw[hf] at hown hxs hc200;obtain⟨xs',ys,rfl,hl1,hl2,hx1,hx2⟩:=hxs.split;rw[hf,List.length_append] at hops;rw[List.length_append] at hown;refine(tO base gf (fb.length*6) vs.length us.length cur v.ov xs' ys w hcur k5 hown hl1 hl2 (nG hx2) (by omega)).mono ?_
 rintro e w' ⟨v',ov',w1,he,hb,p1,rfl,p2,p3⟩;have hpop:(f.popMany us.length).ops=vs:=by simp[aK.popMany,hf]
 have hR1:=h.grow hb (fun _ h=>h) (fun _ h=>Or.inl h)
 have hv1:KA fp G base w1 { v with ov:=ov' } (f.popMany us.length):=by
  have hk:∀b,G b→w1.heap[b]?=w.heap[b]?:=fun b hb'=>hb.block b (h.apart b hb').1
  have hvm:∀k∈v.owns,k<w.heap.size:=fun k hk=>h.lt k (by simp[aF,aS,hk])
  have hv':=hv.keep hk (fun _ h=>h) fun k hm=>hb.block k (hvm k hm)
  refine⟨hv'.fn,hv'.nx,hv'.ln,hv'.sp,hv'.vars,⟨xs',?_,?_⟩,fun b hb'=>hc200 b (List.mem_append_left _ (by rw[hpop] at hb';exact hb'))⟩
  ·rw[hpop];exact aY p2 fun k e=>hb.block k (hvm k (by rw[p3] at e;simp[FVal.owns,e]))
  ·rw[hpop];exact hx1.keep hk
 obtain⟨q1,q2⟩:=hR1.setTop (j:=5) (x:=ov') (v':={ v with ov:=ov' }) (by omega) rfl (by simp[FVal.owns,p3]) hv1
 have hgf:gf<w.heap.size:=aD hcur
 have hkG:∀k,G k→(w1.setCell ⟨gf,fb.length*6+5,none⟩ ov').heap[k]?=w.heap[k]?:=fun k hk=>by
  rw[Below.heap_setCell _ _ _ _ fun e=>(h.apart k hk).2 (by simp[aF,e]),hb.block k (h.apart k hk).1]
 refine⟨v',ys,_,he,(Kept.of_below hb).trans q2 fun x hx=>Or.inl hx,by simp[aF,aS,FVal.owns,p3],by simp,q1,aY p1 fun k hk=>Below.heap_setCell _ _ _ _ ?_,hx2.keep hkG,fun a ha=>hc200 a (List.mem_append_right _ ha),hkG⟩
 have:=bX p1 k hk;show k≠gf
 omega
theorem Mid.popMany{own:List Nat}{w0:World}{n:Nat}{vs us:List aI}(h:Mid fp base sb gf n t0 s0 own w0 G ⟨below++[f],tape,out⟩ w)(hn:n=below.length)(hf:f.ops=vs++us)(hops:f.ops.length≤100000):
 Calls Tryz.prog 377 #[.pointer (some ⟨gf,n*6,none⟩),.int .i64 us.length] w fun e w'=>∃x d,e=.returned (.slice x us.length d)∧∃G',Ext G G' w.heap.size∧PVs G' w' (.slice x us.length d) us∧(∀a∈us,aJ a≤200)∧Mid fp base sb gf n t0 s0 own w0 G' ⟨below++[f.popMany us.length],tape,out⟩ w'∧∀k,G k→w'.heap[k]?=w.heap[k]?:=by
 obtain⟨h1,h2,cap,tv,outv,fvs,h3,h4,h5⟩:=h;subst hn;refine(h4.popMany hf hops).mono ?_;rintro e w' ⟨v',ys,fvs',he,k1,k2,k3,k4,k5,k6,k7,k8⟩;obtain⟨x,d,rfl⟩:=cP k5;refine⟨x,d,he,fun k=>G k∨(Value.slice x us.length d).ownBlock=some k,⟨fun _=>Or.inl,fun k hk=>hk.imp_right fun e=>bX k5 k e⟩,PVs.ofRow k5 (k6.mono fun _=>Or.inl) fun _=>Or.inr,k7,⟨h1.trans k1 h5,Nat.le_trans h2 k1.size,cap,tv,outv,fvs',by rw[k3,h3],k4.more (fun _=>Or.inl) fun k hk=>?_,by rw[k2];exact h5⟩,k8⟩
 rcases hk with hk|hk
 ·exact Or.inl hk
 ·refine Or.inr ⟨cG k5 k hk,fun hm=>?_⟩
  rw[k2] at hm;have:=h4.lt k hm;have:=bX k5 k hk;omega
theorem K7(vs us:List aI)(h:cO fp F base w sb gf cap t0 tv outv s0 fvs ⟨below++[f],tape,out⟩)(hbel:below.length≤15)(hbase:base≤w.heap.size)(hops:f.ops.length≤99000)(hf:f.ops=vs++us):
 Calls Tryz.prog 375 #[.agg #[.int .i64 us.length],.pointer (some ⟨sb,0,none⟩)] w (mZ fp F base sb t0 s0 (aF sb gf outv fvs) w below tape out (aN (.list us.length) f)):=by
 have hM:=h.mid hbase (.cells #[.int .i64 us.length] 404);have hm:f.many us.length=us:=by simp[aK.many,hf]
 have hpop:(f.popMany us.length).ops=vs:=by simp[aK.popMany,hf]
 have hl:(f.popMany us.length).ops.length≤100000:=by rw[hpop];rw[hf,List.length_append] at hops;omega
 have hlu:us.length≤99000:=by rw[hf,List.length_append] at hops;omega
 have hr:aN (.list us.length) f=if aJ (aU us)≤200 then ((f.popMany us.length).push (aU us),0) else (f.popMany us.length,6):=by
  simp only[aN,hm,gO,if_true];by_cases hc:200<aJ (aU us)
  ·rw[if_pos hc];exact(if_neg (by omega)).symm
  ·rw[if_neg hc];exact(if_pos (by omega)).symm
 rw[hr]
 refine(MJ w _ sb gf (below.length*6) us.length 6 (fun w'=>aJ (aU us)≤200∧Done fp F base sb t0 s0 (aF sb gf outv fvs) w ⟨below++[(f.popMany us.length).push (aU us)],tape,out⟩ w') (fun w'=>¬aJ (aU us)≤200∧Done fp F base sb t0 s0 (aF sb gf outv fvs) w ⟨below++[f.popMany us.length],tape,out⟩ w')
  (fun x d W=>∃G,Ext F G w.heap.size∧PVs G W (.slice x us.length d) us∧(∀a∈us,aJ a≤200)∧Mid fp base sb gf below.length t0 s0 (aF sb gf outv fvs) (w.alloc (.cells #[.int .i64 us.length] 404)) G ⟨below++[f.popMany us.length],tape,out⟩ W)
  (fun t z W=>aJ (aU us)≤200∧∃G,Ext F G w.heap.size∧PV G W (.iface t z) (aU us)∧Mid fp base sb gf below.length t0 s0 (aF sb gf outv fvs) (w.alloc (.cells #[.int .i64 us.length] 404)) G ⟨below++[f.popMany us.length],tape,out⟩ W) rfl (hM.topS hbel) (fun W hS=>?_) (fun W x d hq=>?_) (fun W t z hq=>?_)).mono ?_
 ·refine((hM.same hS).popMany rfl hf (by omega)).mono ?_
  rintro e w' ⟨x,d,he,G,h1,h2,h3,h4,_⟩;exact⟨x,d,he,G,h1.le (by rw[hS.heap];simp),h2,h3,h4⟩
 ·obtain⟨G,h1,h2,h3,h4⟩:=hq
  have hsum:∀l:List aI,(∀a∈l,aJ a≤200)→(l.map aJ).sum≤200*l.length:=fun l=>by
   induction l with
   |nil=>simp
   |cons a l ih=>intro hh;have e1:=hh a (by simp);have e2:=ih fun b hb=>hh b (by simp[hb]);simp;omega
  have hcc:aJ (aU us)≤1000000000:=by
   have:=hsum us h3;rw[eN];simp[aU];omega
  refine(IF G x d us W h2 hcc).mono ?_;rintro e w' ⟨rfl,⟨hz,rfl⟩|⟨hz,rfl⟩⟩
  ·exact Or.inl ⟨_,_,rfl,hz,G,h1,PV.lst h2,h4⟩
  ·exact Or.inr ⟨rfl,by omega,h4.done h1⟩
 ·obtain⟨hz,G,hG,h1,h2⟩:=hq;refine(h2.push h1 hz hl).mono ?_;rintro e w' ⟨he,h4⟩;exact⟨he,hz,h4.done hG⟩
 ·rintro e w' (⟨rfl,h1,h2⟩|⟨rfl,h1,h2⟩)
  ·exact mZ.ok (if_pos h1) h2
  ·exact mZ.stop (if_neg h1) (by decide) h2
end
theorem cO.declared{fp:Nat→Value}{F:Nat→Prop}{base:Nat}{w w':World}{sb gf cap:Nat}{t0 tv outv s0:Value}{fb:List FVal}{v:FVal}{below:List aK}{f:aK}{tape:List Int}{out:List (List UInt8)}{cur:Array Value}{vv' u:Value}{a:aI}{xs:List Value}{d:Nat}
 (h:cO fp F base w sb gf cap t0 tv outv s0 (fb++[v]) ⟨below++[f],tape,out⟩) (hcur:w.heap[gf]?=some (.cells cur 195 (0,0)))
 (hxs:fR F w xs (f.vars.take d)) (hd:d≤f.vars.length) (hu:PV F w u a) (hca:aJ a≤200)
 (p1:w'.heap[gf]?=some (.cells (cur.setIfInBounds (fb.length*6+4) vv') 195 (0,0))) (p2:w'.ownsRow base 256 1 vv' (d+1) (xs++[u])) (p3:∀k,vv'.ownBlock=some k→v.vv.ownBlock=some k∨w.heap.size≤k) (p4:Chg gf v.vv.ownBlock w w'):
 cO fp F base w' sb gf cap t0 tv outv s0 (fb++[{ v with vv:=vv' }]) ⟨below++[{ f with vars:=f.vars.take d++[a] }],tape,out⟩∧Kept (aF sb gf outv (fb++[v])) w w':=by
 obtain⟨vs',v0,e,hfb,hv⟩:=iE.unsnoc h.frs;obtain⟨rfl,e2⟩:=List.append_inj' e rfl;cases e2;have hrow:=h.row;rw[show (fb++[v]).length=fb.length+1 by simp] at hrow
 obtain⟨cur',c1,_,c3⟩:=tI (j:=4) (x:=vv') hrow (by omega)
 obtain rfl:cur'=cur:=by rw[hcur] at c1;cases c1;rfl
 have hvm:∀k∈v.owns,k∈aF sb gf outv (fb++[v]):=fun k hk=>by simp[aF,aS,hk]
 have hgv:gf∉v.owns:=fun hm=>by
  have:=(List.nodup_cons.1 (List.nodup_cons.1 h.nodup).2).1;exact this (by simp[aS,hm])
 have hnv:v.owns.Nodup:=by
  have h1:=h.nodup;have:aF sb gf outv (fb++[v])=(sb::gf::(outv.ownBlock.toList++aS fb))++v.owns:=by simp[aF,aS]
  rw[this] at h1;exact(List.nodup_append.1 h1).2.1
 have hFk:∀b,F b→w'.heap[b]?=w.heap[b]?:=fun b hb=>by
  obtain⟨h1,h2⟩:=h.apart b hb;exact p4.block b h1 (fun e=>h2 (by simp[aF,e])) (fun e=>h2 (hvm b (by simp[FVal.owns,←e])))
 have hchg:∀k,k<w.heap.size→k≠gf→k∉v.owns→w'.heap[k]?=w.heap[k]?:=fun k h1 h2 h3=>p4.block k h1 h2 fun e=>h3 (by simp[FVal.owns,←e])
 have hvvo:∀k,v.ov.ownBlock=some k→k<w.heap.size∧k≠gf∧v.vv.ownBlock≠some k:=fun k hk=>by
  have hm:k∈v.owns:=by simp[FVal.owns,hk]
  refine⟨h.lt k (hvm k hm),fun e=>hgv (by rw[←e];exact hm),fun e=>?_⟩
  unfold FVal.owns at hnv;rw[hk,e] at hnv;simp at hnv
 refine⟨h.step (G:=F) p4.size hchg (c3 w' p1 _ rfl) ?_ ?_ ?_ (fun _ h=>h) (fun _ h=>Or.inl h),?_⟩
 ·refine⟨hv.fn.keep hFk fun _ h=>h,hv.nx,hv.ln,eO.keep hFk (fun _ h=>h) hv.sp,⟨⟨xs++[u],?_,?_⟩,?_⟩,hv.ops.keep hFk (fun _ h=>h) fun k hk=>?_⟩
  ·show w'.ownsRow base 256 1 vv' (f.vars.take d++[a]).length _
   rw[List.length_append,List.length_take,Nat.min_eq_left hd];exact p2
  ·exact(hxs.keep hFk).append ⟨rfl,fun i hi=>by
    obtain rfl:i=0:=by simpa using hi
    exact⟨u,rfl,hu.keep hFk⟩⟩
  ·intro b hb;rcases List.mem_append.1 hb with hb|hb
   ·exact hv.vars.2 b (List.mem_of_mem_take hb)
   ·rw[List.mem_singleton.1 hb];exact hca
  ·obtain⟨h1,h2,h3⟩:=hvvo k hk;exact p4.block k h1 h2 (fun e=>h3 e.symm)
 ·intro k hk;rcases List.mem_append.1 hk with hk|hk
  ·have hk':vv'.ownBlock=some k:=by simpa using hk
   refine⟨cG p2 k hk',?_⟩;rcases p3 k hk' with h1|h1
   ·exact Or.inl (by simp[FVal.owns,h1])
   ·exact Or.inr h1
  ·have hk':v.ov.ownBlock=some k:=by simpa using hk
   exact⟨Nat.lt_of_lt_of_le (hvvo k hk').1 p4.size,Or.inl (by simp[FVal.owns,hk'])⟩
 ·show (vv'.ownBlock.toList++v.ov.ownBlock.toList).Nodup
  refine List.nodup_append.2 ⟨by cases vv'.ownBlock<;>simp,by cases v.ov.ownBlock<;>simp,fun x hx y hy e=>?_⟩
  subst e;have h1:vv'.ownBlock=some x:=by simpa using hx
  have h2:v.ov.ownBlock=some x:=by simpa using hy
  obtain⟨h3,_,h4⟩:=hvvo x h2;rcases p3 x h1 with h5|h5
  ·exact h4 h5
  ·omega
 ·exact⟨p4.os,p4.tape,p4.output,p4.size,fun k hk hn=>hchg k hk (fun e=>hn (by simp[aF,e])) fun hm=>hn (hvm k hm)⟩
theorem DW(w w0:World)(sb fa fj base d:Nat)(g n c:Nat)(hdn:d≤n)(hnc:n≤c)(_hn:n≤100001)(P:World→Prop)(Q:TypeId→Value→World→Prop)(xs:List Value)(hW:w.alloc (.cells #[.int .i64 d] 443)=w0)(hd:d≤100000)
 (HT:Hid (∀W,aW w0 W→Calls Tryz.prog 158 #[.pointer (some ⟨sb,0,none⟩)] W fun e w'=>e=.returned (.pointer (some ⟨fa,fj,none⟩))∧aW w0 w'))
 (hv:w0.cell? ⟨fa,fj+4,none⟩=some (.slice (some ⟨g,0,none⟩) n c))
 (HP:Hid (∀W,aW w0 W→Calls Tryz.prog 171 #[.pointer (some ⟨fa,fj,none⟩)] W fun e w'=>∃t z,e=.returned (.iface t z)∧Q t z w'))
 (HQ:Hid (∀W t z,Q t z W→W.cell? ⟨w.heap.size,0,none⟩=some (.int .i64 d)∧w.heap.size<W.heap.size∧W.cell? ⟨fa,fj+4,none⟩=some (.slice (some ⟨g,0,none⟩) n c)∧fa<W.heap.size∧base≤W.heap.size))
 (HO:Hid (∀W t z,Q t z W→W.ownsRow base 256 1 (.slice (some ⟨g,0,none⟩) d c) d xs))
 (HG:Hid (∀W t z,Q t z W→∀w5:World,(W.alloc (.cells #[.iface t z] 256)).grownBy w5 (some g)→(∃u,w5.cell? ⟨fa,fj+4,none⟩=some u)∧w5.frozen? ⟨fa,fj+4,none⟩=false∧fa<w5.heap.size))
 (HN:Hid (∀W t z,Q t z W→∀g5 cap5 (w5:World),w5.ownsRow base 256 1 (.slice (some ⟨g5,0,none⟩) (d+1) cap5) (d+1) (xs++[.iface t z])→(W.alloc (.cells #[.iface t z] 256)).grownBy w5 (some g)→((some g)=some g5∨W.heap.size+1≤g5)→P (w5.setCell ⟨fa,fj+4,none⟩ (.slice (some ⟨g5,0,none⟩) (d+1) cap5)))):
 Calls Tryz.prog 403 #[.agg #[.int .i64 d],.pointer (some ⟨sb,0,none⟩)] w fun e w'=>e=.returned (.tuple #[])∧P w':=by
 obtain⟨i0,hi,hz0,hz1,hz2⟩:=info_parts mA;have hbox:(w.alloc (.cells #[.int .i64 d] 443)).heap[w.heap.size]?=some (.cells #[.int .i64 d] 443 (0,0)):=aR _ _ rfl _;rw[hW] at hbox;have HW:=aB hW;have HC0:=aB (aA (i:=0) hbox rfl);have hlt:=aD hbox;have HC1:=aB hv;have e1:(0:Int)≤(d:Int):=by omega
 have e2:(d:Int)≤(n:Int):=by omega
 have e3:(d:Int)≤(c:Int):=by omega
 clear hW hbox hv;go_enter Tryz.func403,Tryz.ntmps403;go_wp2_with fail;rw[HW.out];refine(HT.out _ (aW.refl _)).mono ?_;rintro e w1 ⟨rfl,hs1⟩;have c0:=cQ hs1.heap HC0.out;have hl1:=jI hs1.heap hlt;have c1:=cQ hs1.heap HC1.out;go_wp2_with fail;go_region_law (first|(go_simp;go_at_call 171;refine(HP.out _ (hs1.trans (aW.drew _))).mono ?_;rintro e w2 ⟨t,z,rfl,h2⟩;have hq:=HQ.out _ _ _ h2;have b1:=hq.1;have b2:=hq.2.1;have b3:=hq.2.2.1;have b4:=hq.2.2.2.1;have b5:=hq.2.2.2.2;clear hq)|(refine step_append_lies _ (by rfl) _ _ 193 (by rfl) base 256 i0 _ 1 16 Tryz.underlying193 hi hz0 hz1 hz2 rfl (by decide) (.slice (some ⟨g,0,none⟩) d c) d xs (by rfl) ((HO.out _ _ _ h2).alloc _) ⟨w2.heap.size,0,none⟩ 1 1 [.iface t z] (by rfl) (by rfl) (AT w2 _) (uY t z) (by decide) (by unfold maxLen;omega) (by omega) (by simp;omega) (w2.heap.size+1) (by simp) ?_;intro g5 cap5 w5 hown5 hgrow5 hat5 hg5;have hz:=HG.out _ _ _ h2 w5 hgrow5;obtain⟨⟨u5,y1⟩,y2,y3⟩:=hz))
 all_goals
  go_wp2_with fail;go_end0;exact⟨rfl,HN.out _ _ _ h2 _ _ _ hown5 hgrow5 (hat5.imp_right fun e=>Nat.le_of_eq e.symm)⟩
theorem DX(w w0:World)(sb fa fj base:Nat)(P:World→Prop)(Q:TypeId→Value→World→Prop)(xs:List Value)(hW:w.alloc (.cells #[.int .i64 0] 443)=w0)
 (HT:Hid (∀W,aW w0 W→Calls Tryz.prog 158 #[.pointer (some ⟨sb,0,none⟩)] W fun e w'=>e=.returned (.pointer (some ⟨fa,fj,none⟩))∧aW w0 w'))
 (hv:w0.cell? ⟨fa,fj+4,none⟩=some (.slice none 0 0))
 (HP:Hid (∀W,aW w0 W→Calls Tryz.prog 171 #[.pointer (some ⟨fa,fj,none⟩)] W fun e w'=>∃t z,e=.returned (.iface t z)∧Q t z w'))
 (HQ:Hid (∀W t z,Q t z W→W.cell? ⟨w.heap.size,0,none⟩=some (.int .i64 0)∧w.heap.size<W.heap.size∧W.cell? ⟨fa,fj+4,none⟩=some (.slice none 0 0)∧fa<W.heap.size∧base≤W.heap.size))
 (HO:Hid (∀W t z,Q t z W→W.ownsRow base 256 1 (.slice none 0 0) 0 xs))
 (HG:Hid (∀W t z,Q t z W→∀w5:World,(W.alloc (.cells #[.iface t z] 256)).grownBy w5 none→(∃u,w5.cell? ⟨fa,fj+4,none⟩=some u)∧w5.frozen? ⟨fa,fj+4,none⟩=false∧fa<w5.heap.size))
 (HN:Hid (∀W t z,Q t z W→∀g5 cap5 (w5:World),w5.ownsRow base 256 1 (.slice (some ⟨g5,0,none⟩) 1 cap5) 1 (xs++[.iface t z])→(W.alloc (.cells #[.iface t z] 256)).grownBy w5 none→(none=some g5∨W.heap.size+1≤g5)→P (w5.setCell ⟨fa,fj+4,none⟩ (.slice (some ⟨g5,0,none⟩) 1 cap5)))):
 Calls Tryz.prog 403 #[.agg #[.int .i64 0],.pointer (some ⟨sb,0,none⟩)] w fun e w'=>e=.returned (.tuple #[])∧P w':=by
 obtain⟨i0,hi,hz0,hz1,hz2⟩:=info_parts mA;have hbox:(w.alloc (.cells #[.int .i64 0] 443)).heap[w.heap.size]?=some (.cells #[.int .i64 0] 443 (0,0)):=aR _ _ rfl _;rw[hW] at hbox;have HW:=aB hW;have HC0:=aB (aA (i:=0) hbox rfl);have hlt:=aD hbox;have HC1:=aB hv;clear hW hbox hv;go_enter Tryz.func403,Tryz.ntmps403;go_wp2_with fail;rw[HW.out];refine(HT.out _ (aW.refl _)).mono ?_;rintro e w1 ⟨rfl,hs1⟩;have c0:=cQ hs1.heap HC0.out;have hl1:=jI hs1.heap hlt;have c1:=cQ hs1.heap HC1.out;go_wp2_with fail;go_region_law (first|(go_simp;go_at_call 171;refine(HP.out _ (hs1.trans (aW.drew _))).mono ?_;rintro e w2 ⟨t,z,rfl,h2⟩;have hq:=HQ.out _ _ _ h2;have b1:=hq.1;have b2:=hq.2.1;have b3:=hq.2.2.1;have b4:=hq.2.2.2.1;have b5:=hq.2.2.2.2;clear hq)|(refine step_append_lies _ (by rfl) _ _ 193 (by rfl) base 256 i0 _ 1 16 Tryz.underlying193 hi hz0 hz1 hz2 rfl (by decide) (.slice none 0 0) 0 xs (by rfl) ((HO.out _ _ _ h2).alloc _) ⟨w2.heap.size,0,none⟩ 1 1 [.iface t z] (by rfl) (by rfl) (AT w2 _) (uY t z) (by decide) (by unfold maxLen;omega) (by omega) (by simp;omega) (w2.heap.size+1) (by simp) ?_;intro g5 cap5 w5 hown5 hgrow5 hat5 hg5;have hz:=HG.out _ _ _ h2 w5 hgrow5;obtain⟨⟨u5,y1⟩,y2,y3⟩:=hz))
 all_goals
  go_wp2_with fail;go_end0;exact⟨rfl,HN.out _ _ _ h2 _ _ _ hown5 hgrow5 (hat5.imp_right fun e=>Nat.le_of_eq e.symm)⟩
section
variable {fp:Nat→Value} {F:Nat→Prop} {base:Nat} {w:World} {sb gf cap:Nat} {t0 tv outv s0:Value} {fvs:List FVal} {below:List aK} {f:aK} {tape:List Int} {out:List (List UInt8)}
theorem cO.popR{fb:List FVal}{v:FVal}{vs:List aI}{a:aI}(h:cO fp F base w sb gf cap t0 tv outv s0 (fb++[v]) ⟨below++[f],tape,out⟩)(hf:f.ops=vs++[a])(hops:f.ops.length≤100000):
 Calls Tryz.prog 171 #[.pointer (some ⟨gf,fb.length*6,none⟩)] w fun e w'=>∃t z ov',e=.returned (.iface t z)∧PV F w' (.iface t z) a∧aJ a≤200∧ov'.ownBlock=v.ov.ownBlock∧cO fp F base w' sb gf cap t0 tv outv s0 (fb++[{ v with ov:=ov' }]) ⟨below++[f.pop],tape,out⟩∧Kept (aF sb gf outv (fb++[v])) w w'∧∀k,k≠gf→w'.heap[k]?=w.heap[k]?:=by
 obtain⟨fb',v0,cur,e,hfl,hv,hblk,hcur,hcap,k0,k1,k2,k3,k4,k5⟩:=h.top;obtain⟨rfl,e2⟩:=List.append_inj' e rfl;cases e2;obtain⟨⟨xs,hown,hxs⟩,hc200⟩:=hv.ops;rw[hf] at hown hxs hc200 hops;obtain⟨xs',u,rfl,hl,hxs',hu⟩:=fR.unsnoc hxs;obtain⟨t,z,rfl⟩:=hu.form;rw[List.length_append] at hown hops;refine(NC base gf (fb.length*6) vs.length cur v.ov xs' _ w hcur k5 hown hl ⟨t,z,rfl⟩ (by omega)).mono ?_
 rintro e w' ⟨rfl,ov',rfl,p2,p3⟩;have hpop:f.pop.ops=vs:=by simp[aK.pop,hf]
 have hfr:KA fp F base w { v with ov:=ov' } f.pop:=⟨hv.fn,hv.nx,hv.ln,hv.sp,hv.vars,⟨xs',by rw[hpop];exact p2,by rw[hpop];exact hxs'⟩,fun b hb=>hc200 b (List.mem_append_left _ (by rw[hpop] at hb;exact hb))⟩
 obtain⟨q1,q2⟩:=h.setTop (j:=5) (x:=ov') (v':={ v with ov:=ov' }) (by omega) rfl (by simp[FVal.owns,p3]) hfr
 have hgf:∀k,F k→(w.setCell ⟨gf,fb.length*6+5,none⟩ ov').heap[k]?=w.heap[k]?:=fun k hk=>Below.heap_setCell _ _ _ _ fun e=>(h.apart k hk).2 (by simp[aF,e])
 exact⟨t,z,ov',rfl,hu.keep hgf,hc200 a (by simp),p3,q1,q2,fun k hk=>Below.heap_setCell _ _ _ _ hk⟩
theorem cO.declaredC{fb:List FVal}{v:FVal}{d:Nat}{xs:List Value}{a:aI}{t:TypeId}{z:Value}{g5 cap5:Nat}{w5:World}{ob:Option Nat}(h:cO fp F base w sb gf cap t0 tv outv s0 (fb++[v]) ⟨below++[f],tape,out⟩)(hu:PV F w (.iface t z) a)(hca:aJ a≤200)(hxs:fR F w xs (f.vars.take d))(hd:d≤f.vars.length)(hob:ob=v.vv.ownBlock)
 (p2:w5.ownsRow base 256 1 (.slice (some ⟨g5,0,none⟩) (d+1) cap5) (d+1) (xs++[.iface t z])) (hg:(w.alloc (.cells #[.iface t z] 256)).grownBy w5 ob) (hat:ob=some g5∨w.heap.size+1≤g5):
 cO fp F base (w5.setCell ⟨gf,fb.length*6+4,none⟩ (.slice (some ⟨g5,0,none⟩) (d+1) cap5)) sb gf cap t0 tv outv s0 (fb++[{ v with vv:=.slice (some ⟨g5,0,none⟩) (d+1) cap5 }]) ⟨below++[{ f with vars:=f.vars.take d++[a] }],tape,out⟩∧Kept (aF sb gf outv (fb++[v])) w (w5.setCell ⟨gf,fb.length*6+4,none⟩ (.slice (some ⟨g5,0,none⟩) (d+1) cap5)):=by
 obtain⟨fb',v0,cur,e,hfl,hv,hblk,hcur,hcap,k0,k1,k2,k3,k4,k5⟩:=h.top;obtain⟨rfl,e2⟩:=List.append_inj' e rfl;cases e2;have hgl:=aD hcur
 have hgv:v.vv.ownBlock≠some gf:=fun e=>by
  have:=(List.nodup_cons.1 (List.nodup_cons.1 h.nodup).2).1;exact this (by simp[aS,FVal.owns,e])
 have hg5:g5≠gf:=by
  rcases hat with e|e
  ·intro e3;rw[hob] at e;exact hgv (by rw[e,e3])
  ·omega
 have hk:∀k,k<w.heap.size→some k≠v.vv.ownBlock→w5.heap[k]?=w.heap[k]?:=fun k h1 h2=>by
  rw[hg.block k (by simp;omega) (by rw[hob];exact h2),Below.heap_alloc _ _ _ h1]
 have hgf5:w5.heap[gf]?=some (.cells cur 195 (0,0)):=by rw[hk gf hgl (fun e=>hgv e.symm)];exact hcur
 refine h.declared (a:=a) (u:=.iface t z) (xs:=xs) hcur hxs hd hu hca (aQ hgf5) (aY p2 fun k hk'=>Below.heap_setCell _ _ _ _ (by cases hk';exact hg5)) (fun k hk'=>?_) ⟨hg.os.trans rfl,hg.tape.trans rfl,hg.output.trans rfl,Nat.le_trans (by simp) (Nat.le_trans hg.size (by simp)),fun k h1 h2 h3=>?_⟩
 ·cases hk';rcases hat with e|e
  ·exact Or.inl (by rw[←hob];exact e)
  ·exact Or.inr (by show w.heap.size≤g5;omega)
 ·rw[Below.heap_setCell _ _ _ _ h2,hk k h1 h3]
def vP(fp:Nat→Value)(F:Nat→Prop)(base sb gf cap:Nat)(t0 tv outv s0:Value)(fb:List FVal)(v:FVal)(below:List aK)(f:aK)(tape:List Int)(out:List (List UInt8))(w0:World)(a:aI)(t:TypeId)(z:Value)(W:World):Prop:=
 ∃ov',ov'.ownBlock=v.ov.ownBlock∧PV F W (.iface t z) a∧aJ a≤200∧cO fp F base W sb gf cap t0 tv outv s0 (fb++[{ v with ov:=ov' }]) ⟨below++[f.pop],tape,out⟩∧Kept (aF sb gf outv (fb++[v])) w0 W∧∀k,k≠gf→W.heap[k]?=w0.heap[k]?
theorem vP.fin{fb:List FVal}{v:FVal}{w0 W:World}{a:aI}{t:TypeId}{z:Value}{d:Nat}{xs:List Value}{ob:Obj}(h:cO fp F base w sb gf cap t0 tv outv s0 (fb++[v]) ⟨below++[f],tape,out⟩)(hw0:w0=w.alloc ob)(hq:vP fp F base sb gf cap t0 tv outv s0 fb v below f tape out w0 a t z W)(hd:d≤f.vars.length)(hxs:fR F w0 xs (f.vars.take d))(hla:f.last=a)
 (g5 cap5:Nat) (w5:World) (ob5:Option Nat) (hob:ob5=v.vv.ownBlock) (p2:w5.ownsRow base 256 1 (.slice (some ⟨g5,0,none⟩) (d+1) cap5) (d+1) (xs++[.iface t z])) (hg:(W.alloc (.cells #[.iface t z] 256)).grownBy w5 ob5) (hat:ob5=some g5∨W.heap.size+1≤g5):
 Done fp F base sb t0 s0 (aF sb gf outv (fb++[v])) w ⟨below++[(aN (.declare d) f).1],tape,out⟩ (w5.setCell ⟨gf,fb.length*6+4,none⟩ (.slice (some ⟨g5,0,none⟩) (d+1) cap5)):=by
 subst hw0;obtain⟨ov',h1,h2,h3,h4,h5,h6⟩:=hq;have hgk:∀k,F k→k≠gf:=fun k hk e=>(h.apart k hk).2 (by simp[aF,e])
 obtain⟨q1,q2⟩:=h4.declaredC (d:=d) (xs:=xs) h2 h3 (hxs.keep fun b hb=>h6 b (hgk b hb)) hd hob p2 hg hat
 have hown:aF sb gf outv (fb++[{ v with ov:=ov' }])=aF sb gf outv (fb++[v]):=by simp[aF,aS,FVal.owns,h1]
 rw[hown] at q2;have hK:=((Kept.of_below (own:=aF sb gf outv (fb++[v])) ((Below.refl _ w).alloc (Nat.le_refl _) ob)).trans h5 fun _ h=>Or.inl h).trans q2 fun _ h=>Or.inl h
 refine⟨hK,F,gf,cap,tv,outv,fb++[{ v with ov:=ov',vv:=.slice (some ⟨g5,0,none⟩) (d+1) cap5 }],Ext.refl _ _,?_,fun k hk=>?_⟩
 ·have e:(aN (.declare d) f).1={ f.pop with vars:=f.pop.vars.take d++[a] }:=by simp[aN,hla,aK.pop]
  rw[e];exact q1
 ·have e1:aF sb gf outv (fb++[{ v with ov:=ov',vv:=.slice (some ⟨g5,0,none⟩) (d+1) cap5 }])=(sb::gf::(outv.ownBlock.toList++aS fb))++(g5::v.ov.ownBlock.toList):=by
   have e0:(Value.slice (some ⟨g5,0,none⟩) (d+1) cap5).ownBlock=some g5:=rfl;simp[aF,aS,FVal.owns,h1,e0]
  have e2:aF sb gf outv (fb++[v])=(sb::gf::(outv.ownBlock.toList++aS fb))++v.owns:=by simp[aF,aS]
  have hk2:k∈(sb::gf::(outv.ownBlock.toList++aS fb))++(g5::v.ov.ownBlock.toList):=by rw[←e1];exact hk
  rw[e2];rcases List.mem_append.1 hk2 with h7|h7
  ·exact Or.inl (List.mem_append_left _ h7)
  ·rcases List.mem_cons.1 h7 with rfl|h7
   ·rcases hat with e|e
    ·exact Or.inl (List.mem_append_right _ (by rw[hob] at e;simp[FVal.owns,e]))
    ·have:=h5.size;exact Or.inr (by simp at this;omega)
   ·exact Or.inl (List.mem_append_right _ (List.mem_append_right _ h7))
theorem vP.reads{fb:List FVal}{v:FVal}{W:World}{a:aI}{t:TypeId}{z:Value}{cs:Array Value}{ty:TypeId}(h:cO fp F base w sb gf cap t0 tv outv s0 (fb++[v]) ⟨below++[f],tape,out⟩)(hb:base≤w.heap.size)(hq:vP fp F base sb gf cap t0 tv outv s0 fb v below f tape out (w.alloc (.cells cs ty)) a t z W):
 W.heap[w.heap.size]?=some (.cells cs ty (0,0))∧W.cell? ⟨gf,fb.length*6+4,none⟩=some v.vv∧gf<W.heap.size∧base≤W.heap.size∧
  ∀w5:World,(W.alloc (.cells #[.iface t z] 256)).grownBy w5 v.vv.ownBlock→(∃u,w5.cell? ⟨gf,fb.length*6+4,none⟩=some u)∧w5.frozen? ⟨gf,fb.length*6+4,none⟩=false∧gf<w5.heap.size:=by
 obtain⟨ov',h1,h2,h3,h4,h5,h6⟩:=hq;obtain⟨fb',v0,cur,e,hfl,hv,hblk,hcur,hcap,k0,k1,k2,k3,k4,k5⟩:=h4.top;obtain⟨rfl,e2⟩:=List.append_inj' e rfl;have e3:v0={ v with ov:=ov' }:=by simpa using e2.symm
 subst e3;have hgl:=aD hcur;have hgw:gf<w.heap.size:=h.lt gf (by simp[aF])
 have hgv:v.vv.ownBlock≠some gf:=fun e=>by
  have:=(List.nodup_cons.1 (List.nodup_cons.1 h.nodup).2).1;exact this (by simp[aS,FVal.owns,e])
 refine⟨by rw[h6 _ (by omega)];exact aR _ _ rfl _,aA hcur k4,hgl,Nat.le_trans hb (Nat.le_trans (by simp) h5.size),fun w5 hg=>?_⟩
 have hgf5:w5.heap[gf]?=some (.cells cur 195 (0,0)):=by
  rw[hg.block gf (by simp;omega) (fun e=>hgv e.symm),Below.heap_alloc _ _ _ hgl];exact hcur
 exact⟨⟨_,aA hgf5 k4⟩,aE hgf5,aD hgf5⟩
theorem SH(d:Nat)(h:cO fp F base w sb gf cap t0 tv outv s0 fvs ⟨below++[f],tape,out⟩)(hbel:below.length≤15)(hbase:base≤w.heap.size)(hops:f.ops.length≤99000)(hne:∃vs a,f.ops=vs++[a])(hd:d≤f.vars.length)(hvl:f.vars.length≤90001):
 Calls Tryz.prog 403 #[.agg #[.int .i64 d],.pointer (some ⟨sb,0,none⟩)] w (mZ fp F base sb t0 s0 (aF sb gf outv fvs) w below tape out (aN (.declare d) f)):=by
 obtain⟨vs,a,hf⟩:=hne;have hM:=h.mid hbase (.cells #[.int .i64 d] 443);obtain⟨fb,v,cur,rfl,hfl, -⟩:=h.top;have h0:=h.grow ((Below.refl _ w).alloc (Nat.le_refl _) (.cells #[.int .i64 d] 443)) (fun _ h=>h) (fun _ h=>Or.inl h)
 have hT:=hM.topS hbel;rw[←hfl] at hT;obtain⟨fb',v0,cur,e, -,hv,hblk,hcur,hcap,k0,k1,k2,k3,k4,k5⟩:=h0.top;obtain⟨rfl,e2⟩:=List.append_inj' e rfl;cases e2
 have HP:Hid (∀W,aW (w.alloc (.cells #[.int .i64 d] 443)) W→Calls Tryz.prog 171 #[.pointer (some ⟨gf,fb.length*6,none⟩)] W fun e w'=>∃t z,e=.returned (.iface t z)∧vP fp F base sb gf cap t0 tv outv s0 fb v below f tape out (w.alloc (.cells #[.int .i64 d] 443)) a t z w'):=fun W hS=>by
  refine((h0.grow hS.below (fun _ h=>h) (fun _ h=>Or.inl h)).popR hf (by omega)).mono ?_
  rintro e w' ⟨t,z,ov',he,h1,h2,h3,h4,h5,h6⟩;exact⟨t,z,he,ov',h3,h1,h2,h4,(Kept.of_below (own:=aF sb gf outv (fb++[v])) hS.below).trans h5 fun _ h=>Or.inl h,fun k hk=>by rw[h6 k hk,hS.heap]⟩
 obtain⟨⟨xs,hown,hxs⟩,hc200⟩:=hv.vars
 have hgv:v.vv.ownBlock≠some gf:=fun e=>by
  have:=(List.nodup_cons.1 (List.nodup_cons.1 h.nodup).2).1;exact this (by simp[aS,FVal.owns,e])
 have hxs':fR F (w.alloc (.cells #[.int .i64 d] 443)) (xs.take d) (f.vars.take d):=by
  have hh:=hxs;rw[←List.take_append_drop d f.vars] at hh;obtain⟨ys,zs,rfl,l1,l2,r1,r2⟩:=hh.split;rw[List.length_take,Nat.min_eq_left hd] at l1;rw[←l1,List.take_left,l1];exact r1
 rcases hown.2 with ⟨r1,r2⟩|⟨g,c,row,r1,hg1,hrow,hcp,hcm,hcs,htk⟩
 ·obtain rfl:d=0:=by omega
  refine(DX w _ sb gf (fb.length*6) base (fun w'=>Done fp F base sb t0 s0 (aF sb gf outv (fb++[v])) w ⟨below++[(aN (.declare 0) f).1],tape,out⟩ w') (vP fp F base sb gf cap t0 tv outv s0 fb v below f tape out (w.alloc (.cells #[.int .i64 0] 443)) a) [] rfl hT (by rw[←r1];exact aA hcur k4) HP (fun W t z hq=>?_) (fun W t z hq=>World.ownsRow_nil _ _ _ _) (fun W t z hq=>?_) (fun W t z hq=>?_)).mono ?_
  ·obtain⟨q1,q2,q3,q4,q5⟩:=vP.reads h hbase hq;exact⟨aA q1 rfl,aD q1,by rw[q2,r1],q3,q4⟩
  ·have:=(vP.reads h hbase hq).2.2.2.2;rw[r1] at this;exact this
  ·intro g5 cap5 w5 p2 hg hat;exact vP.fin h rfl hq hd (by simpa using hxs') (iF hf) g5 cap5 w5 none (by rw[r1];rfl) p2 hg hat
  ·rintro e w' ⟨rfl,h2⟩;exact mZ.ok rfl h2
 ·refine(DW w _ sb gf (fb.length*6) base d g f.vars.length c hd hcp (by omega) (fun w'=>Done fp F base sb t0 s0 (aF sb gf outv (fb++[v])) w ⟨below++[(aN (.declare d) f).1],tape,out⟩ w') (vP fp F base sb gf cap t0 tv outv s0 fb v below f tape out (w.alloc (.cells #[.int .i64 d] 443)) a) (xs.take d) rfl (by omega) hT (by rw[←r1];exact aA hcur k4) HP (fun W t z hq=>?_) (fun W t z hq=>?_) (fun W t z hq=>?_) (fun W t z hq=>?_)).mono ?_
  ·obtain⟨q1,q2,q3,q4,q5⟩:=vP.reads h hbase hq;exact⟨aA q1 rfl,aD q1,by rw[q2,r1],q3,q4⟩
  ·obtain⟨ov',_,_,_,_,_,h6⟩:=hq;have hrow':W.heap[g]?=_:=(h6 g (fun e=>hgv (by rw[r1,e];rfl))).trans hrow
   have hxl:xs.length=f.vars.length:=hxs.1;refine⟨by rw[List.length_take];omega,Or.inr ⟨g,c,row,rfl,hg1,hrow',by omega,hcm,hcs,?_⟩⟩
   have:=congrArg (List.take d) htk;rw[List.take_take,show min d (f.vars.length*1)=d by omega] at this
   rw[Nat.mul_one];exact this
  ·have:=(vP.reads h hbase hq).2.2.2.2;rw[r1] at this;exact this
  ·intro g5 cap5 w5 p2 hg hat;exact vP.fin h rfl hq hd hxs' (iF hf) g5 cap5 w5 (some g) (by rw[r1];rfl) p2 hg hat
  ·rintro e w' ⟨rfl,h2⟩;exact mZ.ok rfl h2
end
theorem LI(w w0:World)(sb:Nat)(x:Option Addr)(c:Nat)(hW:w.alloc (.cells #[] 440)=w0)(hv:w0.cell? ⟨sb,2,none⟩=some (.slice x 0 c)):
 Calls Tryz.prog 401 #[.agg #[],.pointer (some ⟨sb,0,none⟩)] w fun e w'=>e=fE 7∧w'=w0:=by
 go_enter Tryz.func401,Tryz.ntmps401;go_wp2_with fail;exact⟨rfl,rfl,rfl⟩
theorem LH(w w0:World)(sb fa fj g o n c:Nat)(i:Int)(P P1:World→Prop)(hW:w.alloc (.cells #[] 440)=w0)(hn:n+1≤c)(_hnn:n≤1000000000)
 (HT:Hid (∀W,aW w0 W→Calls Tryz.prog 158 #[.pointer (some ⟨sb,0,none⟩)] W fun e w'=>e=.returned (.pointer (some ⟨fa,fj,none⟩))∧aW w0 w'))
 (hv:w0.cell? ⟨sb,2,none⟩=some (.slice (some ⟨g,o,none⟩) (n+1) c)) (hx:w0.cell? ⟨g,o,none⟩=some (.int .i64 i))
 (HU:Hid (∀W,aW w0 W→Calls Tryz.prog 371 #[.pointer (some ⟨fa,fj,none⟩),.iface 315 (.int .i64 i)] W fun e w'=>e=.returned (.tuple #[])∧P1 w'))
 (HB:Hid (∀W,P1 W→W.cell? ⟨sb,2,none⟩=some (.slice (some ⟨g,o,none⟩) (n+1) c)∧W.frozen? ⟨sb,2,none⟩=false∧sb<W.heap.size))
 (HN:Hid (∀W off c',P1 W→(n=0∨(off=o+1∧c'=c-1))→P (W.setCell ⟨sb,2,none⟩ (.slice (some ⟨g,off,none⟩) n c')))):
 Calls Tryz.prog 401 #[.agg #[],.pointer (some ⟨sb,0,none⟩)] w fun e w'=>e=.returned (.tuple #[])∧P w':=by
 have HC1:=aB hv;have HC2:=aB hx;have c1:=hv;have c2:=hx;have e0:((n:Int)+1=0)=False:=by simp;omega
 have e1:(1:Int)≤(n:Int)+1:=by omega
 have e2:(n:Int)+1≤(c:Int):=by omega
 have e3:(0:Int)<(n:Int)+1:=by omega
 clear hv hx;go_enter Tryz.func401,Tryz.ntmps401;go_wp2_with fail;go_region_law (first|(go_simp;go_at_call 158;refine(HT.out _ (by first|assumption|exact aW.drew _)).mono ?_;rintro e w1 ⟨rfl,hs1⟩;have d1:=cQ hs1.heap HC1.out;have d2:=cQ hs1.heap HC2.out)|(go_simp;go_at_call 371;refine(HU.out _ hs1).mono ?_;rintro e w4 ⟨rfl,h4⟩;have hq:=HB.out _ h4;obtain⟨y1,y2,y3⟩:=hq))
 all_goals
  go_wp2_with fail
  all_goals
   go_end0;first|exact⟨rfl,HN.out _ _ _ h4 (Or.inr ⟨rfl,rfl⟩)⟩|exact⟨rfl,HN.out _ _ _ h4 (Or.inl (by omega))⟩
section
variable {fp:Nat→Value} {F:Nat→Prop} {base:Nat} {w:World} {sb gf cap:Nat} {t0 tv outv s0:Value} {fvs:List FVal} {below:List aK} {f:aK} {tape:List Int} {out:List (List UInt8)}
theorem cO.setTape{m:cM}{tv':Value}{tape':List Int}(h:cO fp F base w sb gf cap t0 tv outv s0 fvs m)(ht:qA F w tv' tape'):
 cO fp F base (w.setCell ⟨sb,2,none⟩ tv') sb gf cap t0 tv' outv s0 fvs ⟨m.frames,tape',m.out⟩∧Kept (aF sb gf outv fvs) w (w.setCell ⟨sb,2,none⟩ tv'):=by
 have hk:∀k,k≠sb→(w.setCell ⟨sb,2,none⟩ tv').heap[k]?=w.heap[k]?:=fun k hk=>Below.heap_setCell _ _ _ _ hk
 have hns:=(List.nodup_cons.1 h.nodup).1;have hFk:∀b,F b→(w.setCell ⟨sb,2,none⟩ tv').heap[b]?=w.heap[b]?:=fun b hb=>hk b fun e=>(h.apart b hb).2 (by simp[aF,e])
 have hin:∀k,k∈gf::(outv.ownBlock.toList++aS fvs)→(w.setCell ⟨sb,2,none⟩ tv').heap[k]?=w.heap[k]?:=fun k hm=>hk k fun e=>hns (by rw[←e];exact hm)
 refine⟨⟨?_,aY h.row fun k hk'=>?_,h.frs.keep hFk (fun _ h=>h) fun v hv k hk'=>hin k ?_,ht.keep hFk fun _ h=>h,aY h.out fun k hk'=>hin k (by simp[hk']),h.nodup,fun k hk'=>Nat.lt_of_lt_of_le (h.lt k hk') (by simp),fun k hk'=>⟨Nat.lt_of_lt_of_le (h.apart k hk').1 (by simp),(h.apart k hk').2⟩⟩,⟨rfl,rfl,rfl,by simp,fun k _ hn=>hk k fun e=>hn (by simp[aF,e])⟩⟩
 ·rw[aQ h.blk];rfl
 ·cases hk';exact hin gf (by simp)
 ·have:k∈aS fvs:=List.mem_flatMap.2 ⟨v,hv,hk'⟩;simp[this]
def R6(fp:Nat→Value)(F:Nat→Prop)(base sb:Nat)(t0 s0:Value)(own:List Nat)(w:World)(r:cM × Nat)(e:Ending)(w':World):Prop:=
 R5 r.2 e∧Done fp F base sb t0 s0 own w r.1 w'
theorem Mid.tapes{own:List Nat}{w0:World}{G:Nat→Prop}{n:Nat}{m:cM}(h:Mid fp base sb gf n t0 s0 own w0 G m w):∃tv,qA G w tv m.tape∧w.cell? ⟨sb,2,none⟩=some tv∧w.frozen? ⟨sb,2,none⟩=false∧sb<w.heap.size∧
 ∀tv' tape',qA G w tv' tape'→Mid fp base sb gf n t0 s0 own w0 G ⟨m.frames,tape',m.out⟩ (w.setCell ⟨sb,2,none⟩ tv'):=by
 obtain⟨h1,h2,cap,tv,outv,fvs,h3,h4,h5⟩:=h;refine⟨tv,h4.tape,aA h4.blk rfl,aE h4.blk,aD h4.blk,fun tv' tape' ht=>?_⟩
 obtain⟨q1,q2⟩:=h4.setTape ht;exact⟨h1.trans q2 h5,Nat.le_trans h2 q2.size,cap,tv',outv,fvs,h3,q1,h5⟩
theorem Mid.pushK{own:List Nat}{w0:World}{G:Nat→Prop}{n:Nat}(h:Mid fp base sb gf n t0 s0 own w0 G ⟨below++[f],tape,out⟩ w){t:TypeId}{z:Value}{a:aI}(hu:PV G w (.iface t z) a)(hca:aJ a≤200)(hops:f.ops.length≤100000):Calls Tryz.prog 371 #[.pointer (some ⟨gf,n*6,none⟩),.iface t z] w fun e w'=>e=.returned (.tuple #[])∧Mid fp base sb gf n t0 s0 own w0 G ⟨below++[f.push a],tape,out⟩ w'∧w'.heap[sb]?=w.heap[sb]?∧∀k,G k→w'.heap[k]?=w.heap[k]?:=by
 obtain⟨h1,h2,cap,tv,outv,fvs,h3,h4,h5⟩:=h;obtain⟨fb,v,cur,rfl,hfl,hv,hblk,hcur,hcap,k0,k1,k2,k3,k4,k5⟩:=h4.top;have hfn:fb.length=n:=by simpa using h3
 subst hfn;obtain⟨⟨xs,hown,hxs⟩,hc200⟩:=hv.ops;have hn2:=List.nodup_cons.1 (List.nodup_cons.1 h4.nodup).2;have hgv:v.ov.ownBlock≠some gf:=fun e=>hn2.1 (by simp[aS,FVal.owns,e])
 have hsv:v.ov.ownBlock≠some sb:=fun e=>(List.nodup_cons.1 h4.nodup).1 (by simp[aS,FVal.owns,e])
 have hsg:sb≠gf:=fun e=>(List.nodup_cons.1 h4.nodup).1 (by simp[e])
 refine(vC base gf (fb.length*6) f.ops.length cur v.ov xs t z w hcur k5 hown hgv h2 (by omega)).mono ?_
 rintro e w' ⟨he,ov',p1,p2,p3,p4⟩;obtain⟨q1,q2⟩:=h4.pushed (cur:=cur) hcur hxs hu hca p1 p2 p3 p4;refine⟨he,⟨h1.trans q2 h5,Nat.le_trans h2 q2.size,cap,tv,outv,_,by simp,q1,fun k hk'=>?_⟩,p4.block sb (aD hblk) hsg (fun e=>hsv e.symm),fun k hk=>p4.block k (h4.apart k hk).1 (fun e=>(h4.apart k hk).2 (by simp[aF,e])) fun e=>(h4.apart k hk).2 (by simp[aF,aS,FVal.owns,←e])⟩
 have e1:aF sb gf outv (fb++[{ v with ov:=ov' }])=(sb::gf::(outv.ownBlock.toList++aS fb))++({ v with ov:=ov' }:FVal).owns:=by simp[aF,aS]
 have e2:aF sb gf outv (fb++[v])=(sb::gf::(outv.ownBlock.toList++aS fb))++v.owns:=by simp[aF,aS]
 rw[e1] at hk';rw[e2] at h5;rcases List.mem_append.1 hk' with h3|h3
 ·exact h5 k (List.mem_append_left _ h3)
 ·rcases List.mem_append.1 h3 with h3|h3
  ·exact h5 k (List.mem_append_right _ (List.mem_append_left _ h3))
  ·have h4:ov'.ownBlock=some k:=by simpa using h3
   rcases p3 k h4 with h6|h6
   ·exact h5 k (List.mem_append_right _ (by simp[FVal.owns,h6]))
   ·exact Or.inr (Nat.le_trans h1.size h6)
theorem J1(tab:List eJ)(h:cO fp F base w sb gf cap t0 tv outv s0 fvs ⟨below++[f],tape,out⟩)(hbel:below.length≤15)(hbase:base≤w.heap.size)(hops:f.ops.length≤99000)(htl:tape.length≤1000000000):
 Calls Tryz.prog 401 #[.agg #[],.pointer (some ⟨sb,0,none⟩)] w (R6 fp F base sb t0 s0 (aF sb gf outv fvs) w (cC tab .read below f tape out)):=by
 have hM:=h.mid hbase (.cells #[] 440);obtain⟨tv1,ht,hc,hfz,hlt,hset⟩:=hM.tapes;cases tape with
 |nil=>
  have hx:∃x c,tv1=.slice x 0 c:=by
   rcases ht with ⟨_,h1⟩|⟨g,o,c,h1,_⟩
   ·exact h1
   ·exact⟨_,_,h1⟩
  obtain⟨x,c,rfl⟩:=hx;refine(LI w _ sb x c rfl hc).mono ?_;rintro e w' ⟨rfl,rfl⟩;exact⟨Or.inr ⟨show (7:Nat)≠0 by decide,rfl⟩,hM.done (Ext.refl _ _)⟩
 |cons i l=>
  rcases ht with ⟨h0,_⟩|⟨g,o,c,rfl,hn,hFg,hcell⟩
  ·cases h0
  have hi:=hcell 0 (by simp)
  simp only[List.length_cons] at hc hn htl
  refine(LH w _ sb gf (below.length*6) g o l.length c i (fun w'=>Done fp F base sb t0 s0 (aF sb gf outv fvs) w ⟨below++[f.push (bB i)],l,out⟩ w')
   (fun W=>Mid fp base sb gf below.length t0 s0 (aF sb gf outv fvs) (w.alloc (.cells #[] 440)) F ⟨below++[f.push (bB i)],i::l,out⟩ W∧W.cell? ⟨sb,2,none⟩=some (.slice (some ⟨g,o,none⟩) (l.length+1) c)∧∀k,F k→W.heap[k]?=(w.alloc (.cells #[] 440)).heap[k]?) rfl hn (by omega) (hM.topS hbel) hc hi.1 (fun W hS=>?_) (fun W hq=>?_) (fun W off c' hq ho=>?_)).mono ?_
  ·refine((hM.same hS).pushK (PV.num F W i hi.2.1 hi.2.2) (by rw[jL];omega) (by omega)).mono ?_
   rintro e w' ⟨he,h1,h2,h3⟩;refine⟨he,h1,?_,fun k hk=>by rw[h3 k hk,hS.heap]⟩
   have e1:w'.cell? ⟨sb,2,none⟩=W.cell? ⟨sb,2,none⟩:=World.cell?_of_block h2;rw[e1];exact cQ hS.heap hc
  ·obtain⟨tv2,_,q2,q3,q4,_⟩:=hq.1.tapes;exact⟨hq.2.1,q3,q4⟩
  ·obtain⟨h1,h2,h3⟩:=hq;obtain⟨tv2,_,_,_,_,q5⟩:=h1.tapes;refine(q5 _ l ?_).done (Ext.refl _ _);by_cases hl:l=[]
   ·subst hl;exact Or.inl ⟨rfl,_,_,rfl⟩
   ·have hl0:l.length≠0:=fun e=>hl (List.eq_nil_of_length_eq_zero e)
    rcases ho with ho|⟨rfl,rfl⟩
    ·exact absurd ho hl0
    ·refine Or.inr ⟨g,o+1,c-1,rfl,by omega,hFg,fun j hj=>?_⟩
     have hj2:=hcell (j+1) (by simp;omega)
     simp only[List.getElem_cons_succ] at hj2;refine⟨?_,hj2.2⟩;have e1:W.cell? ⟨g,o+1+j,none⟩=(w.alloc (.cells #[] 440)).cell? ⟨g,o+1+j,none⟩:=World.cell?_of_block (h3 g hFg);rw[e1,show o+1+j=o+(j+1) by omega];exact hj2.1
  ·rintro e w' ⟨rfl,h2⟩;exact⟨Or.inl ⟨rfl,rfl⟩,h2⟩
end
theorem MX(w w0:World)(sb fa fj gf cap:Nat)(P:World→Prop)(Q:TypeId→Value→World→Prop)(hW:w.alloc (.cells #[] 363)=w0)(hcap:1≤cap)
 (HT:Hid (∀W,aW w0 W→Calls Tryz.prog 158 #[.pointer (some ⟨sb,0,none⟩)] W fun e w'=>e=.returned (.pointer (some ⟨fa,fj,none⟩))∧aW w0 w'))
 (HP:Hid (∀W,aW w0 W→Calls Tryz.prog 171 #[.pointer (some ⟨fa,fj,none⟩)] W fun e w'=>∃t z,e=.returned (.iface t z)∧Q t z w'))
 (HB:Hid (∀W t z,Q t z W→W.cell? ⟨sb,1,none⟩=some (.slice (some ⟨gf,0,none⟩) 1 cap)∧W.frozen? ⟨sb,1,none⟩=false∧sb<W.heap.size))
 (HN:Hid (∀W t z,Q t z W→P (W.drew.setCell ⟨sb,1,none⟩ (.slice (some ⟨gf,0,none⟩) 0 cap)))):
 Calls Tryz.prog 372 #[.agg #[],.pointer (some ⟨sb,0,none⟩)] w fun e w'=>e=.returned (.tuple #[])∧P w':=by
 have HW:=aB hW;have e2:(0:Int)≤(cap:Int):=by omega
 clear hW;go_enter Tryz.func372,Tryz.ntmps372;go_wp2_with fail;rw[HW.out];refine(HT.out _ (aW.refl _)).mono ?_;rintro e w1 ⟨rfl,hs1⟩;go_wp2_with fail;refine(HP.out _ hs1).mono ?_;rintro e w2 ⟨t,z,rfl,h2⟩;obtain⟨b1,b2,b3⟩:=HB.out _ _ _ h2;have h3:=aB (HN.out _ _ _ h2);clear h2;go_wp2_with fail;go_region
 all_goals
  go_wp2_with fail;go_end0;exact⟨rfl,h3.out⟩
theorem MW(w w0:World)(sb fa fj gf cap n ga gj:Nat)(P:World→Prop)(Q Q2:TypeId→Value→World→Prop)(hW:w.alloc (.cells #[] 363)=w0)(hcap:n+2≤cap)(hn:n≤1000)
 (HT:Hid (∀W,aW w0 W→Calls Tryz.prog 158 #[.pointer (some ⟨sb,0,none⟩)] W fun e w'=>e=.returned (.pointer (some ⟨fa,fj,none⟩))∧aW w0 w'))
 (HP:Hid (∀W,aW w0 W→Calls Tryz.prog 171 #[.pointer (some ⟨fa,fj,none⟩)] W fun e w'=>∃t z,e=.returned (.iface t z)∧Q t z w'))
 (HB:Hid (∀W t z,Q t z W→W.cell? ⟨sb,1,none⟩=some (.slice (some ⟨gf,0,none⟩) (n+2) cap)∧W.frozen? ⟨sb,1,none⟩=false∧sb<W.heap.size))
 (HT2:Hid (∀W t z,Q t z W→Calls Tryz.prog 158 #[.pointer (some ⟨sb,0,none⟩)] (W.drew.setCell ⟨sb,1,none⟩ (.slice (some ⟨gf,0,none⟩) (n+1) cap)) fun e w'=>e=.returned (.pointer (some ⟨ga,gj,none⟩))∧Q2 t z w'))
 (HU:Hid (∀W t z,Q2 t z W→Calls Tryz.prog 371 #[.pointer (some ⟨ga,gj,none⟩),.iface t z] W fun e w'=>e=.returned (.tuple #[])∧P w')):
 Calls Tryz.prog 372 #[.agg #[],.pointer (some ⟨sb,0,none⟩)] w fun e w'=>e=.returned (.tuple #[])∧P w':=by
 have HW:=aB hW;have e1:(0:Int)≤(n:Int)+1:=by omega
 have e2:(n:Int)+1≤(cap:Int):=by omega
 have e3:(0:Int)<(n:Int)+1:=by omega
 have e4:(n:Int)+2-1=(n:Int)+1:=by omega
 clear hW;go_enter Tryz.func372,Tryz.ntmps372;go_wp2_with fail;rw[HW.out];refine(HT.out _ (aW.refl _)).mono ?_;rintro e w1 ⟨rfl,hs1⟩;go_wp2_with fail;refine(HP.out _ hs1).mono ?_;rintro e w2 ⟨t,z,rfl,h2⟩;obtain⟨b1,b2,b3⟩:=HB.out _ _ _ h2;have h3:=aB (HT2.out _ _ _ h2);clear h2;go_wp2_with fail;go_region
 all_goals
  go_wp2_with fail;refine h3.out.mono ?_;rintro e w3 ⟨rfl,h4⟩;go_wp2_with fail;refine(HU.out _ _ _ h4).mono ?_;rintro e w4 ⟨rfl,h5⟩;go_wp2_with fail;go_end0;exact⟨rfl,h5⟩
section
variable {fp:Nat→Value} {F:Nat→Prop} {base:Nat} {w:World} {sb gf cap:Nat} {t0 tv outv s0:Value} {fvs:List FVal} {below:List aK} {f:aK} {tape:List Int} {out:List (List UInt8)}
theorem cO.dropTop{fb:List FVal}{v:FVal}(h:cO fp F base w sb gf cap t0 tv outv s0 (fb++[v]) ⟨below++[f],tape,out⟩):
 cO fp F base (w.setCell ⟨sb,1,none⟩ (.slice (some ⟨gf,0,none⟩) fb.length cap)) sb gf cap t0 tv outv s0 fb ⟨below,tape,out⟩∧Kept (aF sb gf outv (fb++[v])) w (w.setCell ⟨sb,1,none⟩ (.slice (some ⟨gf,0,none⟩) fb.length cap)):=by
 generalize hV:Value.slice (some ⟨gf,0,none⟩) fb.length cap=V;have hk:∀k,k≠sb→(w.setCell ⟨sb,1,none⟩ V).heap[k]?=w.heap[k]?:=fun k hk=>Below.heap_setCell _ _ _ _ hk
 have hns:=(List.nodup_cons.1 h.nodup).1;have hall:aS (fb++[v])=aS fb++v.owns:=by simp[aS]
 have hmem:∀k,k∈aF sb gf outv fb→k∈aF sb gf outv (fb++[v]):=fun k hm=>by
  unfold aF at hm ⊢
  rw[hall];simp only[List.mem_cons,List.mem_append] at hm ⊢
  rcases hm with h1|h1|h1|h1
  ·exact Or.inl h1
  ·exact Or.inr (Or.inl h1)
  ·exact Or.inr (Or.inr (Or.inl h1))
  ·exact Or.inr (Or.inr (Or.inr (Or.inl h1)))
 have hFk:∀b,F b→(w.setCell ⟨sb,1,none⟩ V).heap[b]?=w.heap[b]?:=fun b hb=>hk b fun e=>(h.apart b hb).2 (by simp[aF,e])
 have hin:∀k,k∈gf::(outv.ownBlock.toList++aS (fb++[v]))→(w.setCell ⟨sb,1,none⟩ V).heap[k]?=w.heap[k]?:=fun k hm=>hk k fun e=>hns (by rw[←e];exact hm)
 obtain⟨vs',v0,e,hfb,hv⟩:=iE.unsnoc h.frs;obtain⟨rfl,e2⟩:=List.append_inj' e rfl;refine⟨⟨?_,?_,hfb.keep hFk (fun _ h=>h) fun u hu k hk'=>hin k ?_,h.tape.keep hFk fun _ h=>h,aY h.out fun k hk'=>hin k (by simp[hk']),?_,fun k hk'=>Nat.lt_of_lt_of_le (h.lt k (hmem k hk')) (by simp),fun k hk'=>⟨Nat.lt_of_lt_of_le (h.apart k hk').1 (by simp),fun hm=>(h.apart k hk').2 (hmem k hm)⟩⟩,⟨rfl,rfl,rfl,by simp,fun k _ hn=>hk k fun e=>hn (by simp[aF,e])⟩⟩
 ·rw[aQ h.blk,←hV];rfl
 ·rcases h.row.2 with ⟨r1,_⟩|⟨g',c',cur,r1,r2,r3,r4,r5,r6,r7⟩
  ·cases r1
  ·cases r1;rw[List.length_append] at r4 r7;refine⟨by rw[dV],Or.inr ⟨gf,cap,cur,rfl,r2,?_,by omega,r5,r6,?_⟩⟩
   ·rw[hin gf (by simp)];exact r3
   ·have:=congrArg (List.take (fb.length*6)) r7;rw[List.take_take,show min (fb.length*6) ((fb.length+[v].length)*6)=fb.length*6 by simp,iU] at this
    rw[this,List.take_left' (by rw[dV])]
 ·have:k∈aS fb:=List.mem_flatMap.2 ⟨u,hu,hk'⟩;rw[hall];simp[this]
 ·have e1:aF sb gf outv (fb++[v])=aF sb gf outv fb++v.owns:=by simp[aF,hall]
  have:=h.nodup;rw[e1] at this;exact(List.nodup_append.1 this).1
theorem wE(sb gf:Nat)(outv:Value)(fb:List FVal)(v:FVal):∀k,k∈aF sb gf outv fb→k∈aF sb gf outv (fb++[v]):=fun k hm=>by
 have e1:aF sb gf outv (fb++[v])=aF sb gf outv fb++v.owns:=by simp[aF,aS]
 rw[e1];exact List.mem_append_left _ hm
def O3(fp:Nat→Value)(F:Nat→Prop)(base sb gf cap:Nat)(t0 tv outv s0:Value)(fb:List FVal)(v:FVal)(below:List aK)(f:aK)(tape:List Int)(out:List (List UInt8))(w0:World)(a:aI)(t:TypeId)(z:Value)(W:World):Prop:=
 PV F W (.iface t z) a∧aJ a≤200∧∃v',v'.owns=v.owns∧cO fp F base W sb gf cap t0 tv outv s0 (fb++[v']) ⟨below++[f.pop],tape,out⟩∧Kept (aF sb gf outv (fb++[v])) w0 W
theorem O3.gone{fb:List FVal}{v:FVal}{w0 W:World}{a:aI}{t:TypeId}{z:Value}(hq:O3 fp F base sb gf cap t0 tv outv s0 fb v below f tape out w0 a t z W):
 PV F (W.drew.setCell ⟨sb,1,none⟩ (.slice (some ⟨gf,0,none⟩) fb.length cap)) (.iface t z) a∧cO fp F base (W.drew.setCell ⟨sb,1,none⟩ (.slice (some ⟨gf,0,none⟩) fb.length cap)) sb gf cap t0 tv outv s0 fb ⟨below,tape,out⟩∧Kept (aF sb gf outv (fb++[v])) w0 (W.drew.setCell ⟨sb,1,none⟩ (.slice (some ⟨gf,0,none⟩) fb.length cap)):=by
 obtain⟨h1,h2,v',h3,h4,h5⟩:=hq;have hd:=h4.grow (aW.drew W).below (fun _ h=>h) (fun _ h=>Or.inl h)
 obtain⟨q1,q2⟩:=hd.dropTop;have e:aF sb gf outv (fb++[v'])=aF sb gf outv (fb++[v]):=by simp[aF,aS,h3]
 rw[e] at q2;refine⟨(h1.keep (w':=W.drew) fun _ _=>rfl).keep fun k hk=>Below.heap_setCell _ _ _ _ fun e=>(h4.apart k hk).2 (by simp[aF,e]),q1,(h5.trans (Kept.of_below (own:=[]) (aW.drew W).below) (fun x hx=>by simp at hx)).trans q2 fun _ h=>Or.inl h⟩
theorem L6(tab:List eJ)(h:cO fp F base w sb gf cap t0 tv outv s0 fvs ⟨below++[f],tape,out⟩)(hbel:below.length≤15)(hbase:base≤w.heap.size)(hops:f.ops.length≤99000)(hne:∃vs a,f.ops=vs++[a])(hgo:∀g∈below,g.ops.length≤99000):
 Calls Tryz.prog 372 #[.agg #[],.pointer (some ⟨sb,0,none⟩)] w (R6 fp F base sb t0 s0 (aF sb gf outv fvs) w (cC tab .give below f tape out)):=by
 obtain⟨vs,a,hf⟩:=hne;have hM:=h.mid hbase (.cells #[] 363);obtain⟨fb,v,cur,rfl,hfl, -, -, -,hcap, -⟩:=h.top;have hb0:Below w.heap.size w (w.alloc (.cells #[] 363)):=(Below.refl _ w).alloc (Nat.le_refl _) _;have h0:=h.grow hb0 (fun _ h=>h) (fun _ h=>Or.inl h)
 have hT:=hM.topS hbel;rw[←hfl] at hT
 have HP:Hid (∀W,aW (w.alloc (.cells #[] 363)) W→Calls Tryz.prog 171 #[.pointer (some ⟨gf,fb.length*6,none⟩)] W fun e w'=>∃t z,e=.returned (.iface t z)∧O3 fp F base sb gf cap t0 tv outv s0 fb v below f tape out (w.alloc (.cells #[] 363)) a t z w'):=fun W hS=>by
  refine((h0.grow hS.below (fun _ h=>h) (fun _ h=>Or.inl h)).popR hf (by omega)).mono ?_
  rintro e w' ⟨t,z,ov',he,h1,h2,h3,h4,h5,h6⟩;exact⟨t,z,he,h1,h2,_,by simp[FVal.owns,h3],h4,(Kept.of_below (own:=aF sb gf outv (fb++[v])) hS.below).trans h5 fun _ h=>Or.inl h⟩
 have HB:∀W t z,O3 fp F base sb gf cap t0 tv outv s0 fb v below f tape out (w.alloc (.cells #[] 363)) a t z W→W.cell? ⟨sb,1,none⟩=some (.slice (some ⟨gf,0,none⟩) (fb.length+1) cap)∧W.frozen? ⟨sb,1,none⟩=false∧sb<W.heap.size:=fun W t z hq=>by
  obtain⟨_,_,v',_,h4,_⟩:=hq;have hblk:=h4.blk;rw[show (fb++[v']).length=fb.length+1 by simp] at hblk
  exact⟨aA hblk rfl,aE hblk,aD hblk⟩
 rcases List.eq_nil_or_concat below with rfl|⟨b',g,hbg⟩
 ·obtain rfl:fb=[]:=List.eq_nil_of_length_eq_zero hfl;refine(MX w _ sb gf 0 gf cap (fun w'=>Done fp F base sb t0 s0 (aF sb gf outv ([]++[v])) w ⟨[],tape,out⟩ w') _ rfl (by simpa using hcap) hT HP HB fun W t z hq=>?_).mono ?_
  ·obtain⟨_,q2,q3⟩:=hq.gone;exact⟨(Kept.of_below hb0).trans q3 fun _ h=>Or.inl h,F,gf,cap,tv,outv,[],Ext.refl _ _,q2,fun k hk=>Or.inl (wE sb gf outv [] v k hk)⟩
  ·rintro e w' ⟨rfl,h2⟩;exact⟨Or.inl ⟨rfl,rfl⟩,h2⟩
 ·rw[List.concat_eq_append] at hbg;subst hbg;have hfl2:fb.length=b'.length+1:=by simpa using hfl
  have hbl:b'.length≤14:=by simp at hbel;omega
  rw[hfl2] at hcap;have hr:cC tab .give (b'++[g]) f tape out=(⟨b'++[g.push a],tape,out⟩,0):=by simp[cC,iF hf]
  rw[hr];refine(MW w _ sb gf (fb.length*6) gf cap b'.length gf (b'.length*6) (fun w'=>Done fp F base sb t0 s0 (aF sb gf outv (fb++[v])) w ⟨b'++[g.push a],tape,out⟩ w') _ (fun t z W=>PV F W (.iface t z) a∧aJ a≤200∧Mid fp base sb gf b'.length t0 s0 (aF sb gf outv (fb++[v])) (w.alloc (.cells #[] 363)) F ⟨b'++[g],tape,out⟩ W) rfl (by omega) (by omega) hT HP (fun W t z hq=>?_) (fun W t z hq=>?_) (fun W t z hq=>?_)).mono ?_
  ·have:=HB W t z hq;rw[hfl2] at this;exact this
  ·obtain⟨q1,q2,q3⟩:=hq.gone;rw[hfl2] at q1 q2 q3;have hmid:Mid fp base sb gf b'.length t0 s0 (aF sb gf outv (fb++[v])) (w.alloc (.cells #[] 363)) F ⟨b'++[g],tape,out⟩ _:=⟨q3,Nat.le_trans hbase (Nat.le_trans hb0.size q3.size),cap,tv,outv,fb,hfl2,q2,fun k hk=>Or.inl (wE sb gf outv fb v k hk)⟩
   refine(hmid.top (by omega)).mono ?_
   rintro e w' ⟨he,hs⟩;exact⟨he,q1.keep (fun _ _=>by rw[hs.heap]),hq.2.1,hmid.same hs⟩
  ·refine(hq.2.2.push hq.1 hq.2.1 (by have:=hgo g (by simp);omega)).mono ?_
   rintro e w' ⟨he,h4⟩;exact⟨he,h4.done (Ext.refl _ _)⟩
  ·rintro e w' ⟨rfl,h2⟩;exact⟨Or.inl ⟨rfl,rfl⟩,h2⟩
end
theorem OM(w w0:World)(sb fa fj gf cap cn:Nat)(fpv:Option Addr)(S:World→Prop)(Q:Option Addr→Nat→World→Prop)(hW:w.alloc (.cells #[.pointer fpv,.int .i64 cn] 442)=w0)
 (HT:Hid (∀W,aW w0 W→Calls Tryz.prog 158 #[.pointer (some ⟨sb,0,none⟩)] W fun e w'=>e=.returned (.pointer (some ⟨fa,fj,none⟩))∧aW w0 w'))
 (HP:Hid (∀W,aW w0 W→Calls Tryz.prog 377 #[.pointer (some ⟨fa,fj,none⟩),.int .i64 cn] W fun e w'=>∃x d,e=.returned (.slice x cn d)∧Q x d w'))
 (HB:Hid (∀W x d,Q x d W→W.cell? ⟨sb,1,none⟩=some (.slice (some ⟨gf,0,none⟩) 16 cap)∧S W)):
 Calls Tryz.prog 402 #[.agg #[.pointer fpv,.int .i64 cn],.pointer (some ⟨sb,0,none⟩)] w fun e w'=>e=fE 5∧S w':=by
 have hbox:(w.alloc (.cells #[.pointer fpv,.int .i64 cn] 442)).heap[w.heap.size]?=some (.cells #[.pointer fpv,.int .i64 cn] 442 (0,0)):=aR _ _ rfl _;rw[hW] at hbox;have HW:=aB hW;have HC0:=aB (aA (i:=1) hbox rfl);have c0:=HC0.out;have hlt:=aD hbox;clear hW hbox;go_enter Tryz.func402,Tryz.ntmps402;go_wp2_with fail;rw[HW.out];go_region_law (go_simp;first|(go_at_call 158;refine(HT.out _ (aW.drew _)).mono ?_;rintro e w1 ⟨rfl,hs1⟩;have d1:=cQ hs1.heap HC0.out;have d2:=jI hs1.heap hlt)|(go_at_call 377;refine(HP.out _ hs1).mono ?_;rintro e w2 ⟨x,d,rfl,h2⟩;have hq:=HB.out _ _ _ h2;obtain⟨y1,y2⟩:=hq))
 all_goals
  go_wp2_with fail;exact⟨rfl,rfl,y2⟩
end Go.Proofs.YtblbkfdhjfppkaaGreatDoor
