/- Contracts of the program: a variable is declared. -/
import Derived.Test.YtblbkfdhjfppkaaGreatDoorP15
set_option maxRecDepth 100000
set_option maxHeartbeats 4000000
namespace Go.Proofs.YtblbkfdhjfppkaaGreatDoor
open Hs
open Go.RowKit
theorem cO.declared{fp:Nat→Value}{F:Nat→Prop}{base:Nat}{w w':World}{sb gf cap:Nat}{t0 tv outv s0:Value}{fb:List FVal}{v:FVal}{below:List aK}{f:aK}{tape:List Int}{out:List (List UInt8)}{cur:Array Value}{vv' u:Value}{a:aI}{xs:List Value}{d:Nat}
 (h:cO fp F base w sb gf cap t0 tv outv s0 (fb++[v]) ⟨below++[f],tape,out⟩) (hcur:w.heap[gf]?=some (.cells cur 195 (0,0)))
 (hxs:fR F w xs (f.vars.take d)) (hd:d≤f.vars.length) (hu:PV F w u a) (hca:aJ a≤200)
 (p1:w'.heap[gf]?=some (.cells (cur.setIfInBounds (fb.length*6+4) vv') 195 (0,0))) (p2:w'.ownsRow base 256 1 vv' (d+1) (xs++[u])) (p3:∀k,vv'.ownBlock=some k→v.vv.ownBlock=some k∨w.heap.size≤k) (p4:Chg gf v.vv.ownBlock w w'):
 cO fp F base w' sb gf cap t0 tv outv s0 (fb++[{ v with vv:=vv' }]) ⟨below++[{ f with vars:=f.vars.take d++[a] }],tape,out⟩∧Kept (aF sb gf outv (fb++[v])) w w':=by
 obtain⟨vs',v0,e,hfb,hv⟩:=iE.unsnoc h.frs;obtain⟨rfl,e2⟩:=List.append_inj' e rfl;cases e2;have hrow:=h.row;rw[show (fb++[v]).length=fb.length+1 by simp] at hrow
 obtain⟨cur',c1,_,c3⟩:=tI (j:=4) (x:=vv') hrow (by omega)
 obtain rfl:cur'=cur:=by rw[hcur] at c1;cases c1;rfl
 have hvm:∀k∈v.owns,k∈aF sb gf outv (fb++[v]):=fun k hk=>by simp[aF,aS,hk]
 have hgv:gf∉v.owns:=fun hm=>by
  have:=(List.nodup_cons.1 (List.nodup_cons.1 h.nodup).2).1;exact this (by simp[aS,hm])
 have hnv:v.owns.Nodup:=by
  have h1:=h.nodup;have:aF sb gf outv (fb++[v])=(sb::gf::(outv.ownBlock.toList++aS fb))++v.owns:=by simp[aF,aS]
  rw[this] at h1;exact(List.nodup_append.1 h1).2.1
 have hFk:∀b,F b→w'.heap[b]?=w.heap[b]?:=fun b hb=>by
  obtain⟨h1,h2⟩:=h.apart b hb;exact p4.block b h1 (fun e=>h2 (by simp[aF,e])) (fun e=>h2 (hvm b (by simp[FVal.owns,←e])))
 have hchg:∀k,k<w.heap.size→k≠gf→k∉v.owns→w'.heap[k]?=w.heap[k]?:=fun k h1 h2 h3=>p4.block k h1 h2 fun e=>h3 (by simp[FVal.owns,←e])
 have hvvo:∀k,v.ov.ownBlock=some k→k<w.heap.size∧k≠gf∧v.vv.ownBlock≠some k:=fun k hk=>by
  have hm:k∈v.owns:=by simp[FVal.owns,hk]
  refine⟨h.lt k (hvm k hm),fun e=>hgv (by rw[←e];exact hm),fun e=>?_⟩
  unfold FVal.owns at hnv;rw[hk,e] at hnv;simp at hnv
 refine⟨h.step (G:=F) p4.size hchg (c3 w' p1 _ rfl) ?_ ?_ ?_ (fun _ h=>h) (fun _ h=>Or.inl h),?_⟩
 ·refine⟨hv.fn.keep hFk fun _ h=>h,hv.nx,hv.ln,eO.keep hFk (fun _ h=>h) hv.sp,⟨⟨xs++[u],?_,?_⟩,?_⟩,hv.ops.keep hFk (fun _ h=>h) fun k hk=>?_⟩
  ·show w'.ownsRow base 256 1 vv' (f.vars.take d++[a]).length _
   rw[List.length_append,List.length_take,Nat.min_eq_left hd];exact p2
  ·exact(hxs.keep hFk).append ⟨rfl,fun i hi=>by
    obtain rfl:i=0:=by simpa using hi
    exact⟨u,rfl,hu.keep hFk⟩⟩
  ·intro b hb;rcases List.mem_append.1 hb with hb|hb
   ·exact hv.vars.2 b (List.mem_of_mem_take hb)
   ·rw[List.mem_singleton.1 hb];exact hca
  ·obtain⟨h1,h2,h3⟩:=hvvo k hk;exact p4.block k h1 h2 (fun e=>h3 e.symm)
 ·intro k hk;rcases List.mem_append.1 hk with hk|hk
  ·have hk':vv'.ownBlock=some k:=by simpa using hk
   refine⟨cG p2 k hk',?_⟩;rcases p3 k hk' with h1|h1
   ·exact Or.inl (by simp[FVal.owns,h1])
   ·exact Or.inr h1
  ·have hk':v.ov.ownBlock=some k:=by simpa using hk
   exact⟨Nat.lt_of_lt_of_le (hvvo k hk').1 p4.size,Or.inl (by simp[FVal.owns,hk'])⟩
 ·show (vv'.ownBlock.toList++v.ov.ownBlock.toList).Nodup
  refine List.nodup_append.2 ⟨by cases vv'.ownBlock<;>simp,by cases v.ov.ownBlock<;>simp,fun x hx y hy e=>?_⟩
  subst e;have h1:vv'.ownBlock=some x:=by simpa using hx
  have h2:v.ov.ownBlock=some x:=by simpa using hy
  obtain⟨h3,_,h4⟩:=hvvo x h2;rcases p3 x h1 with h5|h5
  ·exact h4 h5
  ·omega
 ·exact⟨p4.os,p4.tape,p4.output,p4.size,fun k hk hn=>hchg k hk (fun e=>hn (by simp[aF,e])) fun hm=>hn (hvm k hm)⟩
theorem DW(w w0:World)(sb fa fj base d:Nat)(g n c:Nat)(hdn:d≤n)(hnc:n≤c)(_hn:n≤100001)(P:World→Prop)(Q:TypeId→Value→World→Prop)(xs:List Value)(hW:w.alloc (.cells #[.int .i64 d] 443)=w0)(hd:d≤100000)
 (HT:Hid (∀W,aW w0 W→Calls Tryz.prog 158 #[.pointer (some ⟨sb,0,none⟩)] W fun e w'=>e=.returned (.pointer (some ⟨fa,fj,none⟩))∧aW w0 w'))
 (hv:w0.cell? ⟨fa,fj+4,none⟩=some (.slice (some ⟨g,0,none⟩) n c))
 (HP:Hid (∀W,aW w0 W→Calls Tryz.prog 171 #[.pointer (some ⟨fa,fj,none⟩)] W fun e w'=>∃t z,e=.returned (.iface t z)∧Q t z w'))
 (HQ:Hid (∀W t z,Q t z W→W.cell? ⟨w.heap.size,0,none⟩=some (.int .i64 d)∧w.heap.size<W.heap.size∧W.cell? ⟨fa,fj+4,none⟩=some (.slice (some ⟨g,0,none⟩) n c)∧fa<W.heap.size∧base≤W.heap.size))
 (HO:Hid (∀W t z,Q t z W→W.ownsRow base 256 1 (.slice (some ⟨g,0,none⟩) d c) d xs))
 (HG:Hid (∀W t z,Q t z W→∀w5:World,(W.alloc (.cells #[.iface t z] 256)).grownBy w5 (some g)→(∃u,w5.cell? ⟨fa,fj+4,none⟩=some u)∧w5.frozen? ⟨fa,fj+4,none⟩=false∧fa<w5.heap.size))
 (HN:Hid (∀W t z,Q t z W→∀g5 cap5 (w5:World),w5.ownsRow base 256 1 (.slice (some ⟨g5,0,none⟩) (d+1) cap5) (d+1) (xs++[.iface t z])→(W.alloc (.cells #[.iface t z] 256)).grownBy w5 (some g)→((some g)=some g5∨W.heap.size+1≤g5)→P (w5.setCell ⟨fa,fj+4,none⟩ (.slice (some ⟨g5,0,none⟩) (d+1) cap5)))):
 Calls Tryz.prog 403 #[.agg #[.int .i64 d],.pointer (some ⟨sb,0,none⟩)] w fun e w'=>e=.returned (.tuple #[])∧P w':=by
 obtain⟨i0,hi,hz0,hz1,hz2⟩:=info_parts mA;have hbox:(w.alloc (.cells #[.int .i64 d] 443)).heap[w.heap.size]?=some (.cells #[.int .i64 d] 443 (0,0)):=aR _ _ rfl _;rw[hW] at hbox;have HW:=aB hW;have HC0:=aB (aA (i:=0) hbox rfl);have hlt:=aD hbox;have HC1:=aB hv;have e1:(0:Int)≤(d:Int):=by omega
 have e2:(d:Int)≤(n:Int):=by omega
 have e3:(d:Int)≤(c:Int):=by omega
 clear hW hbox hv;go_enter Tryz.func403,Tryz.ntmps403;go_wp2_with fail;rw[HW.out];refine(HT.out _ (aW.refl _)).mono ?_;rintro e w1 ⟨rfl,hs1⟩;have c0:=cQ hs1.heap HC0.out;have hl1:=jI hs1.heap hlt;have c1:=cQ hs1.heap HC1.out;go_wp2_with fail;go_region_law (first|(go_simp;go_at_call 171;refine(HP.out _ (hs1.trans (aW.drew _))).mono ?_;rintro e w2 ⟨t,z,rfl,h2⟩;have hq:=HQ.out _ _ _ h2;have b1:=hq.1;have b2:=hq.2.1;have b3:=hq.2.2.1;have b4:=hq.2.2.2.1;have b5:=hq.2.2.2.2;clear hq)|(refine step_append_lies _ (by rfl) _ _ 193 (by rfl) base 256 i0 _ 1 16 Tryz.underlying193 hi hz0 hz1 hz2 rfl (by decide) (.slice (some ⟨g,0,none⟩) d c) d xs (by rfl) ((HO.out _ _ _ h2).alloc _) ⟨w2.heap.size,0,none⟩ 1 1 [.iface t z] (by rfl) (by rfl) (AT w2 _) (uY t z) (by decide) (by unfold maxLen;omega) (by omega) (by simp;omega) (w2.heap.size+1) (by simp) ?_;intro g5 cap5 w5 hown5 hgrow5 hat5 hg5;have hz:=HG.out _ _ _ h2 w5 hgrow5;obtain⟨⟨u5,y1⟩,y2,y3⟩:=hz))
 all_goals
  go_wp2_with fail;go_end0;exact⟨rfl,HN.out _ _ _ h2 _ _ _ hown5 hgrow5 (hat5.imp_right fun e=>Nat.le_of_eq e.symm)⟩
theorem DX(w w0:World)(sb fa fj base:Nat)(P:World→Prop)(Q:TypeId→Value→World→Prop)(xs:List Value)(hW:w.alloc (.cells #[.int .i64 0] 443)=w0)
 (HT:Hid (∀W,aW w0 W→Calls Tryz.prog 158 #[.pointer (some ⟨sb,0,none⟩)] W fun e w'=>e=.returned (.pointer (some ⟨fa,fj,none⟩))∧aW w0 w'))
 (hv:w0.cell? ⟨fa,fj+4,none⟩=some (.slice none 0 0))
 (HP:Hid (∀W,aW w0 W→Calls Tryz.prog 171 #[.pointer (some ⟨fa,fj,none⟩)] W fun e w'=>∃t z,e=.returned (.iface t z)∧Q t z w'))
 (HQ:Hid (∀W t z,Q t z W→W.cell? ⟨w.heap.size,0,none⟩=some (.int .i64 0)∧w.heap.size<W.heap.size∧W.cell? ⟨fa,fj+4,none⟩=some (.slice none 0 0)∧fa<W.heap.size∧base≤W.heap.size))
 (HO:Hid (∀W t z,Q t z W→W.ownsRow base 256 1 (.slice none 0 0) 0 xs))
 (HG:Hid (∀W t z,Q t z W→∀w5:World,(W.alloc (.cells #[.iface t z] 256)).grownBy w5 none→(∃u,w5.cell? ⟨fa,fj+4,none⟩=some u)∧w5.frozen? ⟨fa,fj+4,none⟩=false∧fa<w5.heap.size))
 (HN:Hid (∀W t z,Q t z W→∀g5 cap5 (w5:World),w5.ownsRow base 256 1 (.slice (some ⟨g5,0,none⟩) 1 cap5) 1 (xs++[.iface t z])→(W.alloc (.cells #[.iface t z] 256)).grownBy w5 none→(none=some g5∨W.heap.size+1≤g5)→P (w5.setCell ⟨fa,fj+4,none⟩ (.slice (some ⟨g5,0,none⟩) 1 cap5)))):
 Calls Tryz.prog 403 #[.agg #[.int .i64 0],.pointer (some ⟨sb,0,none⟩)] w fun e w'=>e=.returned (.tuple #[])∧P w':=by
 obtain⟨i0,hi,hz0,hz1,hz2⟩:=info_parts mA;have hbox:(w.alloc (.cells #[.int .i64 0] 443)).heap[w.heap.size]?=some (.cells #[.int .i64 0] 443 (0,0)):=aR _ _ rfl _;rw[hW] at hbox;have HW:=aB hW;have HC0:=aB (aA (i:=0) hbox rfl);have hlt:=aD hbox;have HC1:=aB hv;clear hW hbox hv;go_enter Tryz.func403,Tryz.ntmps403;go_wp2_with fail;rw[HW.out];refine(HT.out _ (aW.refl _)).mono ?_;rintro e w1 ⟨rfl,hs1⟩;have c0:=cQ hs1.heap HC0.out;have hl1:=jI hs1.heap hlt;have c1:=cQ hs1.heap HC1.out;go_wp2_with fail;go_region_law (first|(go_simp;go_at_call 171;refine(HP.out _ (hs1.trans (aW.drew _))).mono ?_;rintro e w2 ⟨t,z,rfl,h2⟩;have hq:=HQ.out _ _ _ h2;have b1:=hq.1;have b2:=hq.2.1;have b3:=hq.2.2.1;have b4:=hq.2.2.2.1;have b5:=hq.2.2.2.2;clear hq)|(refine step_append_lies _ (by rfl) _ _ 193 (by rfl) base 256 i0 _ 1 16 Tryz.underlying193 hi hz0 hz1 hz2 rfl (by decide) (.slice none 0 0) 0 xs (by rfl) ((HO.out _ _ _ h2).alloc _) ⟨w2.heap.size,0,none⟩ 1 1 [.iface t z] (by rfl) (by rfl) (AT w2 _) (uY t z) (by decide) (by unfold maxLen;omega) (by omega) (by simp;omega) (w2.heap.size+1) (by simp) ?_;intro g5 cap5 w5 hown5 hgrow5 hat5 hg5;have hz:=HG.out _ _ _ h2 w5 hgrow5;obtain⟨⟨u5,y1⟩,y2,y3⟩:=hz))
 all_goals
  go_wp2_with fail;go_end0;exact⟨rfl,HN.out _ _ _ h2 _ _ _ hown5 hgrow5 (hat5.imp_right fun e=>Nat.le_of_eq e.symm)⟩
end Go.Proofs.YtblbkfdhjfppkaaGreatDoor
