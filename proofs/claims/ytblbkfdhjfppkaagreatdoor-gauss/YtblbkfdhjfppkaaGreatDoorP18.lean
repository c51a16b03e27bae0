/- Contracts of the program: a variable is declared: what it does. -/
import Derived.Test.YtblbkfdhjfppkaaGreatDoorP17
import Derived.Test.YtblbkfdhjfppkaaGreatDoorP16
set_option maxRecDepth 100000
set_option maxHeartbeats 4000000
namespace Go.Proofs.YtblbkfdhjfppkaaGreatDoor
open Hs
open Go.RowKit
section
variable {fp:Nat→Value} {F:Nat→Prop} {base:Nat} {w:World} {sb gf cap:Nat} {t0 tv outv s0:Value} {fvs:List FVal} {below:List aK} {f:aK} {tape:List Int} {out:List (List UInt8)}
theorem cO.popR{fb:List FVal}{v:FVal}{vs:List aI}{a:aI}(h:cO fp F base w sb gf cap t0 tv outv s0 (fb++[v]) ⟨below++[f],tape,out⟩)(hf:f.ops=vs++[a])(hops:f.ops.length≤100000):
 Calls Tryz.prog 171 #[.pointer (some ⟨gf,fb.length*6,none⟩)] w fun e w'=>∃t z ov',e=.returned (.iface t z)∧PV F w' (.iface t z) a∧aJ a≤200∧ov'.ownBlock=v.ov.ownBlock∧cO fp F base w' sb gf cap t0 tv outv s0 (fb++[{ v with ov:=ov' }]) ⟨below++[f.pop],tape,out⟩∧Kept (aF sb gf outv (fb++[v])) w w'∧∀k,k≠gf→w'.heap[k]?=w.heap[k]?:=by
 obtain⟨fb',v0,cur,e,hfl,hv,hblk,hcur,hcap,k0,k1,k2,k3,k4,k5⟩:=h.top;obtain⟨rfl,e2⟩:=List.append_inj' e rfl;cases e2;obtain⟨⟨xs,hown,hxs⟩,hc200⟩:=hv.ops;rw[hf] at hown hxs hc200 hops;obtain⟨xs',u,rfl,hl,hxs',hu⟩:=fR.unsnoc hxs;obtain⟨t,z,rfl⟩:=hu.form;rw[List.length_append] at hown hops;refine(NC base gf (fb.length*6) vs.length cur v.ov xs' _ w hcur k5 hown hl ⟨t,z,rfl⟩ (by omega)).mono ?_
 rintro e w' ⟨rfl,ov',rfl,p2,p3⟩;have hpop:f.pop.ops=vs:=by simp[aK.pop,hf]
 have hfr:KA fp F base w { v with ov:=ov' } f.pop:=⟨hv.fn,hv.nx,hv.ln,hv.sp,hv.vars,⟨xs',by rw[hpop];exact p2,by rw[hpop];exact hxs'⟩,fun b hb=>hc200 b (List.mem_append_left _ (by rw[hpop] at hb;exact hb))⟩
 obtain⟨q1,q2⟩:=h.setTop (j:=5) (x:=ov') (v':={ v with ov:=ov' }) (by omega) rfl (by simp[FVal.owns,p3]) hfr
 have hgf:∀k,F k→(w.setCell ⟨gf,fb.length*6+5,none⟩ ov').heap[k]?=w.heap[k]?:=fun k hk=>Below.heap_setCell _ _ _ _ fun e=>(h.apart k hk).2 (by simp[aF,e])
 exact⟨t,z,ov',rfl,hu.keep hgf,hc200 a (by simp),p3,q1,q2,fun k hk=>Below.heap_setCell _ _ _ _ hk⟩
theorem cO.declaredC{fb:List FVal}{v:FVal}{d:Nat}{xs:List Value}{a:aI}{t:TypeId}{z:Value}{g5 cap5:Nat}{w5:World}{ob:Option Nat}(h:cO fp F base w sb gf cap t0 tv outv s0 (fb++[v]) ⟨below++[f],tape,out⟩)(hu:PV F w (.iface t z) a)(hca:aJ a≤200)(hxs:fR F w xs (f.vars.take d))(hd:d≤f.vars.length)(hob:ob=v.vv.ownBlock)
 (p2:w5.ownsRow base 256 1 (.slice (some ⟨g5,0,none⟩) (d+1) cap5) (d+1) (xs++[.iface t z])) (hg:(w.alloc (.cells #[.iface t z] 256)).grownBy w5 ob) (hat:ob=some g5∨w.heap.size+1≤g5):
 cO fp F base (w5.setCell ⟨gf,fb.length*6+4,none⟩ (.slice (some ⟨g5,0,none⟩) (d+1) cap5)) sb gf cap t0 tv outv s0 (fb++[{ v with vv:=.slice (some ⟨g5,0,none⟩) (d+1) cap5 }]) ⟨below++[{ f with vars:=f.vars.take d++[a] }],tape,out⟩∧Kept (aF sb gf outv (fb++[v])) w (w5.setCell ⟨gf,fb.length*6+4,none⟩ (.slice (some ⟨g5,0,none⟩) (d+1) cap5)):=by
 obtain⟨fb',v0,cur,e,hfl,hv,hblk,hcur,hcap,k0,k1,k2,k3,k4,k5⟩:=h.top;obtain⟨rfl,e2⟩:=List.append_inj' e rfl;cases e2;have hgl:=aD hcur
 have hgv:v.vv.ownBlock≠some gf:=fun e=>by
  have:=(List.nodup_cons.1 (List.nodup_cons.1 h.nodup).2).1;exact this (by simp[aS,FVal.owns,e])
 have hg5:g5≠gf:=by
  rcases hat with e|e
  ·intro e3;rw[hob] at e;exact hgv (by rw[e,e3])
  ·omega
 have hk:∀k,k<w.heap.size→some k≠v.vv.ownBlock→w5.heap[k]?=w.heap[k]?:=fun k h1 h2=>by
  rw[hg.block k (by simp;omega) (by rw[hob];exact h2),Below.heap_alloc _ _ _ h1]
 have hgf5:w5.heap[gf]?=some (.cells cur 195 (0,0)):=by rw[hk gf hgl (fun e=>hgv e.symm)];exact hcur
 refine h.declared (a:=a) (u:=.iface t z) (xs:=xs) hcur hxs hd hu hca (aQ hgf5) (aY p2 fun k hk'=>Below.heap_setCell _ _ _ _ (by cases hk';exact hg5)) (fun k hk'=>?_) ⟨hg.os.trans rfl,hg.tape.trans rfl,hg.output.trans rfl,Nat.le_trans (by simp) (Nat.le_trans hg.size (by simp)),fun k h1 h2 h3=>?_⟩
 ·cases hk';rcases hat with e|e
  ·exact Or.inl (by rw[←hob];exact e)
  ·exact Or.inr (by show w.heap.size≤g5;omega)
 ·rw[Below.heap_setCell _ _ _ _ h2,hk k h1 h3]
def vP(fp:Nat→Value)(F:Nat→Prop)(base sb gf cap:Nat)(t0 tv outv s0:Value)(fb:List FVal)(v:FVal)(below:List aK)(f:aK)(tape:List Int)(out:List (List UInt8))(w0:World)(a:aI)(t:TypeId)(z:Value)(W:World):Prop:=
 ∃ov',ov'.ownBlock=v.ov.ownBlock∧PV F W (.iface t z) a∧aJ a≤200∧cO fp F base W sb gf cap t0 tv outv s0 (fb++[{ v with ov:=ov' }]) ⟨below++[f.pop],tape,out⟩∧Kept (aF sb gf outv (fb++[v])) w0 W∧∀k,k≠gf→W.heap[k]?=w0.heap[k]?
theorem vP.fin{fb:List FVal}{v:FVal}{w0 W:World}{a:aI}{t:TypeId}{z:Value}{d:Nat}{xs:List Value}{ob:Obj}(h:cO fp F base w sb gf cap t0 tv outv s0 (fb++[v]) ⟨below++[f],tape,out⟩)(hw0:w0=w.alloc ob)(hq:vP fp F base sb gf cap t0 tv outv s0 fb v below f tape out w0 a t z W)(hd:d≤f.vars.length)(hxs:fR F w0 xs (f.vars.take d))(hla:f.last=a)
 (g5 cap5:Nat) (w5:World) (ob5:Option Nat) (hob:ob5=v.vv.ownBlock) (p2:w5.ownsRow base 256 1 (.slice (some ⟨g5,0,none⟩) (d+1) cap5) (d+1) (xs++[.iface t z])) (hg:(W.alloc (.cells #[.iface t z] 256)).grownBy w5 ob5) (hat:ob5=some g5∨W.heap.size+1≤g5):
 Done fp F base sb t0 s0 (aF sb gf outv (fb++[v])) w ⟨below++[(aN (.declare d) f).1],tape,out⟩ (w5.setCell ⟨gf,fb.length*6+4,none⟩ (.slice (some ⟨g5,0,none⟩) (d+1) cap5)):=by
 subst hw0;obtain⟨ov',h1,h2,h3,h4,h5,h6⟩:=hq;have hgk:∀k,F k→k≠gf:=fun k hk e=>(h.apart k hk).2 (by simp[aF,e])
 obtain⟨q1,q2⟩:=h4.declaredC (d:=d) (xs:=xs) h2 h3 (hxs.keep fun b hb=>h6 b (hgk b hb)) hd hob p2 hg hat
 have hown:aF sb gf outv (fb++[{ v with ov:=ov' }])=aF sb gf outv (fb++[v]):=by simp[aF,aS,FVal.owns,h1]
 rw[hown] at q2;have hK:=((Kept.of_below (own:=aF sb gf outv (fb++[v])) ((Below.refl _ w).alloc (Nat.le_refl _) ob)).trans h5 fun _ h=>Or.inl h).trans q2 fun _ h=>Or.inl h
 refine⟨hK,F,gf,cap,tv,outv,fb++[{ v with ov:=ov',vv:=.slice (some ⟨g5,0,none⟩) (d+1) cap5 }],Ext.refl _ _,?_,fun k hk=>?_⟩
 ·have e:(aN (.declare d) f).1={ f.pop with vars:=f.pop.vars.take d++[a] }:=by simp[aN,hla,aK.pop]
  rw[e];exact q1
 ·have e1:aF sb gf outv (fb++[{ v with ov:=ov',vv:=.slice (some ⟨g5,0,none⟩) (d+1) cap5 }])=(sb::gf::(outv.ownBlock.toList++aS fb))++(g5::v.ov.ownBlock.toList):=by
   have e0:(Value.slice (some ⟨g5,0,none⟩) (d+1) cap5).ownBlock=some g5:=rfl;simp[aF,aS,FVal.owns,h1,e0]
  have e2:aF sb gf outv (fb++[v])=(sb::gf::(outv.ownBlock.toList++aS fb))++v.owns:=by simp[aF,aS]
  have hk2:k∈(sb::gf::(outv.ownBlock.toList++aS fb))++(g5::v.ov.ownBlock.toList):=by rw[←e1];exact hk
  rw[e2];rcases List.mem_append.1 hk2 with h7|h7
  ·exact Or.inl (List.mem_append_left _ h7)
  ·rcases List.mem_cons.1 h7 with rfl|h7
   ·rcases hat with e|e
    ·exact Or.inl (List.mem_append_right _ (by rw[hob] at e;simp[FVal.owns,e]))
    ·have:=h5.size;exact Or.inr (by simp at this;omega)
   ·exact Or.inl (List.mem_append_right _ (List.mem_append_right _ h7))
theorem vP.reads{fb:List FVal}{v:FVal}{W:World}{a:aI}{t:TypeId}{z:Value}{cs:Array Value}{ty:TypeId}(h:cO fp F base w sb gf cap t0 tv outv s0 (fb++[v]) ⟨below++[f],tape,out⟩)(hb:base≤w.heap.size)(hq:vP fp F base sb gf cap t0 tv outv s0 fb v below f tape out (w.alloc (.cells cs ty)) a t z W):
 W.heap[w.heap.size]?=some (.cells cs ty (0,0))∧W.cell? ⟨gf,fb.length*6+4,none⟩=some v.vv∧gf<W.heap.size∧base≤W.heap.size∧
  ∀w5:World,(W.alloc (.cells #[.iface t z] 256)).grownBy w5 v.vv.ownBlock→(∃u,w5.cell? ⟨gf,fb.length*6+4,none⟩=some u)∧w5.frozen? ⟨gf,fb.length*6+4,none⟩=false∧gf<w5.heap.size:=by
 obtain⟨ov',h1,h2,h3,h4,h5,h6⟩:=hq;obtain⟨fb',v0,cur,e,hfl,hv,hblk,hcur,hcap,k0,k1,k2,k3,k4,k5⟩:=h4.top;obtain⟨rfl,e2⟩:=List.append_inj' e rfl;have e3:v0={ v with ov:=ov' }:=by simpa using e2.symm
 subst e3;have hgl:=aD hcur;have hgw:gf<w.heap.size:=h.lt gf (by simp[aF])
 have hgv:v.vv.ownBlock≠some gf:=fun e=>by
  have:=(List.nodup_cons.1 (List.nodup_cons.1 h.nodup).2).1;exact this (by simp[aS,FVal.owns,e])
 refine⟨by rw[h6 _ (by omega)];exact aR _ _ rfl _,aA hcur k4,hgl,Nat.le_trans hb (Nat.le_trans (by simp) h5.size),fun w5 hg=>?_⟩
 have hgf5:w5.heap[gf]?=some (.cells cur 195 (0,0)):=by
  rw[hg.block gf (by simp;omega) (fun e=>hgv e.symm),Below.heap_alloc _ _ _ hgl];exact hcur
 exact⟨⟨_,aA hgf5 k4⟩,aE hgf5,aD hgf5⟩
theorem SH(d:Nat)(h:cO fp F base w sb gf cap t0 tv outv s0 fvs ⟨below++[f],tape,out⟩)(hbel:below.length≤15)(hbase:base≤w.heap.size)(hops:f.ops.length≤99000)(hne:∃vs a,f.ops=vs++[a])(hd:d≤f.vars.length)(hvl:f.vars.length≤90001):
 Calls Tryz.prog 403 #[.agg #[.int .i64 d],.pointer (some ⟨sb,0,none⟩)] w (mZ fp F base sb t0 s0 (aF sb gf outv fvs) w below tape out (aN (.declare d) f)):=by
 obtain⟨vs,a,hf⟩:=hne;have hM:=h.mid hbase (.cells #[.int .i64 d] 443);obtain⟨fb,v,cur,rfl,hfl, -⟩:=h.top;have h0:=h.grow ((Below.refl _ w).alloc (Nat.le_refl _) (.cells #[.int .i64 d] 443)) (fun _ h=>h) (fun _ h=>Or.inl h)
 have hT:=hM.topS hbel;rw[←hfl] at hT;obtain⟨fb',v0,cur,e, -,hv,hblk,hcur,hcap,k0,k1,k2,k3,k4,k5⟩:=h0.top;obtain⟨rfl,e2⟩:=List.append_inj' e rfl;cases e2
 have HP:Hid (∀W,aW (w.alloc (.cells #[.int .i64 d] 443)) W→Calls Tryz.prog 171 #[.pointer (some ⟨gf,fb.length*6,none⟩)] W fun e w'=>∃t z,e=.returned (.iface t z)∧vP fp F base sb gf cap t0 tv outv s0 fb v below f tape out (w.alloc (.cells #[.int .i64 d] 443)) a t z w'):=fun W hS=>by
  refine((h0.grow hS.below (fun _ h=>h) (fun _ h=>Or.inl h)).popR hf (by omega)).mono ?_
  rintro e w' ⟨t,z,ov',he,h1,h2,h3,h4,h5,h6⟩;exact⟨t,z,he,ov',h3,h1,h2,h4,(Kept.of_below (own:=aF sb gf outv (fb++[v])) hS.below).trans h5 fun _ h=>Or.inl h,fun k hk=>by rw[h6 k hk,hS.heap]⟩
 obtain⟨⟨xs,hown,hxs⟩,hc200⟩:=hv.vars
 have hgv:v.vv.ownBlock≠some gf:=fun e=>by
  have:=(List.nodup_cons.1 (List.nodup_cons.1 h.nodup).2).1;exact this (by simp[aS,FVal.owns,e])
 have hxs':fR F (w.alloc (.cells #[.int .i64 d] 443)) (xs.take d) (f.vars.take d):=by
  have hh:=hxs;rw[←List.take_append_drop d f.vars] at hh;obtain⟨ys,zs,rfl,l1,l2,r1,r2⟩:=hh.split;rw[List.length_take,Nat.min_eq_left hd] at l1;rw[←l1,List.take_left,l1];exact r1
 rcases hown.2 with ⟨r1,r2⟩|⟨g,c,row,r1,hg1,hrow,hcp,hcm,hcs,htk⟩
 ·obtain rfl:d=0:=by omega
  refine(DX w _ sb gf (fb.length*6) base (fun w'=>Done fp F base sb t0 s0 (aF sb gf outv (fb++[v])) w ⟨below++[(aN (.declare 0) f).1],tape,out⟩ w') (vP fp F base sb gf cap t0 tv outv s0 fb v below f tape out (w.alloc (.cells #[.int .i64 0] 443)) a) [] rfl hT (by rw[←r1];exact aA hcur k4) HP (fun W t z hq=>?_) (fun W t z hq=>World.ownsRow_nil _ _ _ _) (fun W t z hq=>?_) (fun W t z hq=>?_)).mono ?_
  ·obtain⟨q1,q2,q3,q4,q5⟩:=vP.reads h hbase hq;exact⟨aA q1 rfl,aD q1,by rw[q2,r1],q3,q4⟩
  ·have:=(vP.reads h hbase hq).2.2.2.2;rw[r1] at this;exact this
  ·intro g5 cap5 w5 p2 hg hat;exact vP.fin h rfl hq hd (by simpa using hxs') (iF hf) g5 cap5 w5 none (by rw[r1];rfl) p2 hg hat
  ·rintro e w' ⟨rfl,h2⟩;exact mZ.ok rfl h2
 ·refine(DW w _ sb gf (fb.length*6) base d g f.vars.length c hd hcp (by omega) (fun w'=>Done fp F base sb t0 s0 (aF sb gf outv (fb++[v])) w ⟨below++[(aN (.declare d) f).1],tape,out⟩ w') (vP fp F base sb gf cap t0 tv outv s0 fb v below f tape out (w.alloc (.cells #[.int .i64 d] 443)) a) (xs.take d) rfl (by omega) hT (by rw[←r1];exact aA hcur k4) HP (fun W t z hq=>?_) (fun W t z hq=>?_) (fun W t z hq=>?_) (fun W t z hq=>?_)).mono ?_
  ·obtain⟨q1,q2,q3,q4,q5⟩:=vP.reads h hbase hq;exact⟨aA q1 rfl,aD q1,by rw[q2,r1],q3,q4⟩
  ·obtain⟨ov',_,_,_,_,_,h6⟩:=hq;have hrow':W.heap[g]?=_:=(h6 g (fun e=>hgv (by rw[r1,e];rfl))).trans hrow
   have hxl:xs.length=f.vars.length:=hxs.1;refine⟨by rw[List.length_take];omega,Or.inr ⟨g,c,row,rfl,hg1,hrow',by omega,hcm,hcs,?_⟩⟩
   have:=congrArg (List.take d) htk;rw[List.take_take,show min d (f.vars.length*1)=d by omega] at this
   rw[Nat.mul_one];exact this
  ·have:=(vP.reads h hbase hq).2.2.2.2;rw[r1] at this;exact this
  ·intro g5 cap5 w5 p2 hg hat;exact vP.fin h rfl hq hd hxs' (iF hf) g5 cap5 w5 (some g) (by rw[r1];rfl) p2 hg hat
  ·rintro e w' ⟨rfl,h2⟩;exact mZ.ok rfl h2
end
theorem LI(w w0:World)(sb:Nat)(x:Option Addr)(c:Nat)(hW:w.alloc (.cells #[] 440)=w0)(hv:w0.cell? ⟨sb,2,none⟩=some (.slice x 0 c)):
 Calls Tryz.prog 401 #[.agg #[],.pointer (some ⟨sb,0,none⟩)] w fun e w'=>e=fE 7∧w'=w0:=by
 go_enter Tryz.func401,Tryz.ntmps401;go_wp2_with fail;exact⟨rfl,rfl,rfl⟩
theorem LH(w w0:World)(sb fa fj g o n c:Nat)(i:Int)(P P1:World→Prop)(hW:w.alloc (.cells #[] 440)=w0)(hn:n+1≤c)(_hnn:n≤1000000000)
 (HT:Hid (∀W,aW w0 W→Calls Tryz.prog 158 #[.pointer (some ⟨sb,0,none⟩)] W fun e w'=>e=.returned (.pointer (some ⟨fa,fj,none⟩))∧aW w0 w'))
 (hv:w0.cell? ⟨sb,2,none⟩=some (.slice (some ⟨g,o,none⟩) (n+1) c)) (hx:w0.cell? ⟨g,o,none⟩=some (.int .i64 i))
 (HU:Hid (∀W,aW w0 W→Calls Tryz.prog 371 #[.pointer (some ⟨fa,fj,none⟩),.iface 315 (.int .i64 i)] W fun e w'=>e=.returned (.tuple #[])∧P1 w'))
 (HB:Hid (∀W,P1 W→W.cell? ⟨sb,2,none⟩=some (.slice (some ⟨g,o,none⟩) (n+1) c)∧W.frozen? ⟨sb,2,none⟩=false∧sb<W.heap.size))
 (HN:Hid (∀W off c',P1 W→(n=0∨(off=o+1∧c'=c-1))→P (W.setCell ⟨sb,2,none⟩ (.slice (some ⟨g,off,none⟩) n c')))):
 Calls Tryz.prog 401 #[.agg #[],.pointer (some ⟨sb,0,none⟩)] w fun e w'=>e=.returned (.tuple #[])∧P w':=by
 have HC1:=aB hv;have HC2:=aB hx;have c1:=hv;have c2:=hx;have e0:((n:Int)+1=0)=False:=by simp;omega
 have e1:(1:Int)≤(n:Int)+1:=by omega
 have e2:(n:Int)+1≤(c:Int):=by omega
 have e3:(0:Int)<(n:Int)+1:=by omega
 clear hv hx;go_enter Tryz.func401,Tryz.ntmps401;go_wp2_with fail;go_region_law (first|(go_simp;go_at_call 158;refine(HT.out _ (by first|assumption|exact aW.drew _)).mono ?_;rintro e w1 ⟨rfl,hs1⟩;have d1:=cQ hs1.heap HC1.out;have d2:=cQ hs1.heap HC2.out)|(go_simp;go_at_call 371;refine(HU.out _ hs1).mono ?_;rintro e w4 ⟨rfl,h4⟩;have hq:=HB.out _ h4;obtain⟨y1,y2,y3⟩:=hq))
 all_goals
  go_wp2_with fail
  all_goals
   go_end0;first|exact⟨rfl,HN.out _ _ _ h4 (Or.inr ⟨rfl,rfl⟩)⟩|exact⟨rfl,HN.out _ _ _ h4 (Or.inl (by omega))⟩
section
variable {fp:Nat→Value} {F:Nat→Prop} {base:Nat} {w:World} {sb gf cap:Nat} {t0 tv outv s0:Value} {fvs:List FVal} {below:List aK} {f:aK} {tape:List Int} {out:List (List UInt8)}
theorem cO.setTape{m:cM}{tv':Value}{tape':List Int}(h:cO fp F base w sb gf cap t0 tv outv s0 fvs m)(ht:qA F w tv' tape'):
 cO fp F base (w.setCell ⟨sb,2,none⟩ tv') sb gf cap t0 tv' outv s0 fvs ⟨m.frames,tape',m.out⟩∧Kept (aF sb gf outv fvs) w (w.setCell ⟨sb,2,none⟩ tv'):=by
 have hk:∀k,k≠sb→(w.setCell ⟨sb,2,none⟩ tv').heap[k]?=w.heap[k]?:=fun k hk=>Below.heap_setCell _ _ _ _ hk
 have hns:=(List.nodup_cons.1 h.nodup).1;have hFk:∀b,F b→(w.setCell ⟨sb,2,none⟩ tv').heap[b]?=w.heap[b]?:=fun b hb=>hk b fun e=>(h.apart b hb).2 (by simp[aF,e])
 have hin:∀k,k∈gf::(outv.ownBlock.toList++aS fvs)→(w.setCell ⟨sb,2,none⟩ tv').heap[k]?=w.heap[k]?:=fun k hm=>hk k fun e=>hns (by rw[←e];exact hm)
 refine⟨⟨?_,aY h.row fun k hk'=>?_,h.frs.keep hFk (fun _ h=>h) fun v hv k hk'=>hin k ?_,ht.keep hFk fun _ h=>h,aY h.out fun k hk'=>hin k (by simp[hk']),h.nodup,fun k hk'=>Nat.lt_of_lt_of_le (h.lt k hk') (by simp),fun k hk'=>⟨Nat.lt_of_lt_of_le (h.apart k hk').1 (by simp),(h.apart k hk').2⟩⟩,⟨rfl,rfl,rfl,by simp,fun k _ hn=>hk k fun e=>hn (by simp[aF,e])⟩⟩
 ·rw[aQ h.blk];rfl
 ·cases hk';exact hin gf (by simp)
 ·have:k∈aS fvs:=List.mem_flatMap.2 ⟨v,hv,hk'⟩;simp[this]
def R6(fp:Nat→Value)(F:Nat→Prop)(base sb:Nat)(t0 s0:Value)(own:List Nat)(w:World)(r:cM × Nat)(e:Ending)(w':World):Prop:=
 R5 r.2 e∧Done fp F base sb t0 s0 own w r.1 w'
theorem Mid.tapes{own:List Nat}{w0:World}{G:Nat→Prop}{n:Nat}{m:cM}(h:Mid fp base sb gf n t0 s0 own w0 G m w):∃tv,qA G w tv m.tape∧w.cell? ⟨sb,2,none⟩=some tv∧w.frozen? ⟨sb,2,none⟩=false∧sb<w.heap.size∧
 ∀tv' tape',qA G w tv' tape'→Mid fp base sb gf n t0 s0 own w0 G ⟨m.frames,tape',m.out⟩ (w.setCell ⟨sb,2,none⟩ tv'):=by
 obtain⟨h1,h2,cap,tv,outv,fvs,h3,h4,h5⟩:=h;refine⟨tv,h4.tape,aA h4.blk rfl,aE h4.blk,aD h4.blk,fun tv' tape' ht=>?_⟩
 obtain⟨q1,q2⟩:=h4.setTape ht;exact⟨h1.trans q2 h5,Nat.le_trans h2 q2.size,cap,tv',outv,fvs,h3,q1,h5⟩
theorem Mid.pushK{own:List Nat}{w0:World}{G:Nat→Prop}{n:Nat}(h:Mid fp base sb gf n t0 s0 own w0 G ⟨below++[f],tape,out⟩ w){t:TypeId}{z:Value}{a:aI}(hu:PV G w (.iface t z) a)(hca:aJ a≤200)(hops:f.ops.length≤100000):Calls Tryz.prog 371 #[.pointer (some ⟨gf,n*6,none⟩),.iface t z] w fun e w'=>e=.returned (.tuple #[])∧Mid fp base sb gf n t0 s0 own w0 G ⟨below++[f.push a],tape,out⟩ w'∧w'.heap[sb]?=w.heap[sb]?∧∀k,G k→w'.heap[k]?=w.heap[k]?:=by
 obtain⟨h1,h2,cap,tv,outv,fvs,h3,h4,h5⟩:=h;obtain⟨fb,v,cur,rfl,hfl,hv,hblk,hcur,hcap,k0,k1,k2,k3,k4,k5⟩:=h4.top;have hfn:fb.length=n:=by simpa using h3
 subst hfn;obtain⟨⟨xs,hown,hxs⟩,hc200⟩:=hv.ops;have hn2:=List.nodup_cons.1 (List.nodup_cons.1 h4.nodup).2;have hgv:v.ov.ownBlock≠some gf:=fun e=>hn2.1 (by simp[aS,FVal.owns,e])
 have hsv:v.ov.ownBlock≠some sb:=fun e=>(List.nodup_cons.1 h4.nodup).1 (by simp[aS,FVal.owns,e])
 have hsg:sb≠gf:=fun e=>(List.nodup_cons.1 h4.nodup).1 (by simp[e])
 refine(vC base gf (fb.length*6) f.ops.length cur v.ov xs t z w hcur k5 hown hgv h2 (by omega)).mono ?_
 rintro e w' ⟨he,ov',p1,p2,p3,p4⟩;obtain⟨q1,q2⟩:=h4.pushed (cur:=cur) hcur hxs hu hca p1 p2 p3 p4;refine⟨he,⟨h1.trans q2 h5,Nat.le_trans h2 q2.size,cap,tv,outv,_,by simp,q1,fun k hk'=>?_⟩,p4.block sb (aD hblk) hsg (fun e=>hsv e.symm),fun k hk=>p4.block k (h4.apart k hk).1 (fun e=>(h4.apart k hk).2 (by simp[aF,e])) fun e=>(h4.apart k hk).2 (by simp[aF,aS,FVal.owns,←e])⟩
 have e1:aF sb gf outv (fb++[{ v with ov:=ov' }])=(sb::gf::(outv.ownBlock.toList++aS fb))++({ v with ov:=ov' }:FVal).owns:=by simp[aF,aS]
 have e2:aF sb gf outv (fb++[v])=(sb::gf::(outv.ownBlock.toList++aS fb))++v.owns:=by simp[aF,aS]
 rw[e1] at hk';rw[e2] at h5;rcases List.mem_append.1 hk' with h3|h3
 ·exact h5 k (List.mem_append_left _ h3)
 ·rcases List.mem_append.1 h3 with h3|h3
  ·exact h5 k (List.mem_append_right _ (List.mem_append_left _ h3))
  ·have h4:ov'.ownBlock=some k:=by simpa using h3
   rcases p3 k h4 with h6|h6
   ·exact h5 k (List.mem_append_right _ (by simp[FVal.owns,h6]))
   ·exact Or.inr (Nat.le_trans h1.size h6)
theorem J1(tab:List eJ)(h:cO fp F base w sb gf cap t0 tv outv s0 fvs ⟨below++[f],tape,out⟩)(hbel:below.length≤15)(hbase:base≤w.heap.size)(hops:f.ops.length≤99000)(htl:tape.length≤1000000000):
 Calls Tryz.prog 401 #[.agg #[],.pointer (some ⟨sb,0,none⟩)] w (R6 fp F base sb t0 s0 (aF sb gf outv fvs) w (cC tab .read below f tape out)):=by
 have hM:=h.mid hbase (.cells #[] 440);obtain⟨tv1,ht,hc,hfz,hlt,hset⟩:=hM.tapes;cases tape with
 |nil=>
  have hx:∃x c,tv1=.slice x 0 c:=by
   rcases ht with ⟨_,h1⟩|⟨g,o,c,h1,_⟩
   ·exact h1
   ·exact⟨_,_,h1⟩
  obtain⟨x,c,rfl⟩:=hx;refine(LI w _ sb x c rfl hc).mono ?_;rintro e w' ⟨rfl,rfl⟩;exact⟨Or.inr ⟨show (7:Nat)≠0 by decide,rfl⟩,hM.done (Ext.refl _ _)⟩
 |cons i l=>
  rcases ht with ⟨h0,_⟩|⟨g,o,c,rfl,hn,hFg,hcell⟩
  ·cases h0
  have hi:=hcell 0 (by simp)
  simp only[List.length_cons] at hc hn htl
  refine(LH w _ sb gf (below.length*6) g o l.length c i (fun w'=>Done fp F base sb t0 s0 (aF sb gf outv fvs) w ⟨below++[f.push (bB i)],l,out⟩ w')
   (fun W=>Mid fp base sb gf below.length t0 s0 (aF sb gf outv fvs) (w.alloc (.cells #[] 440)) F ⟨below++[f.push (bB i)],i::l,out⟩ W∧W.cell? ⟨sb,2,none⟩=some (.slice (some ⟨g,o,none⟩) (l.length+1) c)∧∀k,F k→W.heap[k]?=(w.alloc (.cells #[] 440)).heap[k]?) rfl hn (by omega) (hM.topS hbel) hc hi.1 (fun W hS=>?_) (fun W hq=>?_) (fun W off c' hq ho=>?_)).mono ?_
  ·refine((hM.same hS).pushK (PV.num F W i hi.2.1 hi.2.2) (by rw[jL];omega) (by omega)).mono ?_
   rintro e w' ⟨he,h1,h2,h3⟩;refine⟨he,h1,?_,fun k hk=>by rw[h3 k hk,hS.heap]⟩
   have e1:w'.cell? ⟨sb,2,none⟩=W.cell? ⟨sb,2,none⟩:=World.cell?_of_block h2;rw[e1];exact cQ hS.heap hc
  ·obtain⟨tv2,_,q2,q3,q4,_⟩:=hq.1.tapes;exact⟨hq.2.1,q3,q4⟩
  ·obtain⟨h1,h2,h3⟩:=hq;obtain⟨tv2,_,_,_,_,q5⟩:=h1.tapes;refine(q5 _ l ?_).done (Ext.refl _ _);by_cases hl:l=[]
   ·subst hl;exact Or.inl ⟨rfl,_,_,rfl⟩
   ·have hl0:l.length≠0:=fun e=>hl (List.eq_nil_of_length_eq_zero e)
    rcases ho with ho|⟨rfl,rfl⟩
    ·exact absurd ho hl0
    ·refine Or.inr ⟨g,o+1,c-1,rfl,by omega,hFg,fun j hj=>?_⟩
     have hj2:=hcell (j+1) (by simp;omega)
     simp only[List.getElem_cons_succ] at hj2;refine⟨?_,hj2.2⟩;have e1:W.cell? ⟨g,o+1+j,none⟩=(w.alloc (.cells #[] 440)).cell? ⟨g,o+1+j,none⟩:=World.cell?_of_block (h3 g hFg);rw[e1,show o+1+j=o+(j+1) by omega];exact hj2.1
  ·rintro e w' ⟨rfl,h2⟩;exact⟨Or.inl ⟨rfl,rfl⟩,h2⟩
end
theorem MX(w w0:World)(sb fa fj gf cap:Nat)(P:World→Prop)(Q:TypeId→Value→World→Prop)(hW:w.alloc (.cells #[] 363)=w0)(hcap:1≤cap)
 (HT:Hid (∀W,aW w0 W→Calls Tryz.prog 158 #[.pointer (some ⟨sb,0,none⟩)] W fun e w'=>e=.returned (.pointer (some ⟨fa,fj,none⟩))∧aW w0 w'))
 (HP:Hid (∀W,aW w0 W→Calls Tryz.prog 171 #[.pointer (some ⟨fa,fj,none⟩)] W fun e w'=>∃t z,e=.returned (.iface t z)∧Q t z w'))
 (HB:Hid (∀W t z,Q t z W→W.cell? ⟨sb,1,none⟩=some (.slice (some ⟨gf,0,none⟩) 1 cap)∧W.frozen? ⟨sb,1,none⟩=false∧sb<W.heap.size))
 (HN:Hid (∀W t z,Q t z W→P (W.drew.setCell ⟨sb,1,none⟩ (.slice (some ⟨gf,0,none⟩) 0 cap)))):
 Calls Tryz.prog 372 #[.agg #[],.pointer (some ⟨sb,0,none⟩)] w fun e w'=>e=.returned (.tuple #[])∧P w':=by
 have HW:=aB hW;have e2:(0:Int)≤(cap:Int):=by omega
 clear hW;go_enter Tryz.func372,Tryz.ntmps372;go_wp2_with fail;rw[HW.out];refine(HT.out _ (aW.refl _)).mono ?_;rintro e w1 ⟨rfl,hs1⟩;go_wp2_with fail;refine(HP.out _ hs1).mono ?_;rintro e w2 ⟨t,z,rfl,h2⟩;obtain⟨b1,b2,b3⟩:=HB.out _ _ _ h2;have h3:=aB (HN.out _ _ _ h2);clear h2;go_wp2_with fail;go_region
 all_goals
  go_wp2_with fail;go_end0;exact⟨rfl,h3.out⟩
theorem MW(w w0:World)(sb fa fj gf cap n ga gj:Nat)(P:World→Prop)(Q Q2:TypeId→Value→World→Prop)(hW:w.alloc (.cells #[] 363)=w0)(hcap:n+2≤cap)(hn:n≤1000)
 (HT:Hid (∀W,aW w0 W→Calls Tryz.prog 158 #[.pointer (some ⟨sb,0,none⟩)] W fun e w'=>e=.returned (.pointer (some ⟨fa,fj,none⟩))∧aW w0 w'))
 (HP:Hid (∀W,aW w0 W→Calls Tryz.prog 171 #[.pointer (some ⟨fa,fj,none⟩)] W fun e w'=>∃t z,e=.returned (.iface t z)∧Q t z w'))
 (HB:Hid (∀W t z,Q t z W→W.cell? ⟨sb,1,none⟩=some (.slice (some ⟨gf,0,none⟩) (n+2) cap)∧W.frozen? ⟨sb,1,none⟩=false∧sb<W.heap.size))
 (HT2:Hid (∀W t z,Q t z W→Calls Tryz.prog 158 #[.pointer (some ⟨sb,0,none⟩)] (W.drew.setCell ⟨sb,1,none⟩ (.slice (some ⟨gf,0,none⟩) (n+1) cap)) fun e w'=>e=.returned (.pointer (some ⟨ga,gj,none⟩))∧Q2 t z w'))
 (HU:Hid (∀W t z,Q2 t z W→Calls Tryz.prog 371 #[.pointer (some ⟨ga,gj,none⟩),.iface t z] W fun e w'=>e=.returned (.tuple #[])∧P w')):
 Calls Tryz.prog 372 #[.agg #[],.pointer (some ⟨sb,0,none⟩)] w fun e w'=>e=.returned (.tuple #[])∧P w':=by
 have HW:=aB hW;have e1:(0:Int)≤(n:Int)+1:=by omega
 have e2:(n:Int)+1≤(cap:Int):=by omega
 have e3:(0:Int)<(n:Int)+1:=by omega
 have e4:(n:Int)+2-1=(n:Int)+1:=by omega
 clear hW;go_enter Tryz.func372,Tryz.ntmps372;go_wp2_with fail;rw[HW.out];refine(HT.out _ (aW.refl _)).mono ?_;rintro e w1 ⟨rfl,hs1⟩;go_wp2_with fail;refine(HP.out _ hs1).mono ?_;rintro e w2 ⟨t,z,rfl,h2⟩;obtain⟨b1,b2,b3⟩:=HB.out _ _ _ h2;have h3:=aB (HT2.out _ _ _ h2);clear h2;go_wp2_with fail;go_region
 all_goals
  go_wp2_with fail;refine h3.out.mono ?_;rintro e w3 ⟨rfl,h4⟩;go_wp2_with fail;refine(HU.out _ _ _ h4).mono ?_;rintro e w4 ⟨rfl,h5⟩;go_wp2_with fail;go_end0;exact⟨rfl,h5⟩
section
variable {fp:Nat→Value} {F:Nat→Prop} {base:Nat} {w:World} {sb gf cap:Nat} {t0 tv outv s0:Value} {fvs:List FVal} {below:List aK} {f:aK} {tape:List Int} {out:List (List UInt8)}
theorem cO.dropTop{fb:List FVal}{v:FVal}(h:cO fp F base w sb gf cap t0 tv outv s0 (fb++[v]) ⟨below++[f],tape,out⟩):
 cO fp F base (w.setCell ⟨sb,1,none⟩ (.slice (some ⟨gf,0,none⟩) fb.length cap)) sb gf cap t0 tv outv s0 fb ⟨below,tape,out⟩∧Kept (aF sb gf outv (fb++[v])) w (w.setCell ⟨sb,1,none⟩ (.slice (some ⟨gf,0,none⟩) fb.length cap)):=by
 generalize hV:Value.slice (some ⟨gf,0,none⟩) fb.length cap=V;have hk:∀k,k≠sb→(w.setCell ⟨sb,1,none⟩ V).heap[k]?=w.heap[k]?:=fun k hk=>Below.heap_setCell _ _ _ _ hk
 have hns:=(List.nodup_cons.1 h.nodup).1;have hall:aS (fb++[v])=aS fb++v.owns:=by simp[aS]
 have hmem:∀k,k∈aF sb gf outv fb→k∈aF sb gf outv (fb++[v]):=fun k hm=>by
  unfold aF at hm ⊢
  rw[hall];simp only[List.mem_cons,List.mem_append] at hm ⊢
  rcases hm with h1|h1|h1|h1
  ·exact Or.inl h1
  ·exact Or.inr (Or.inl h1)
  ·exact Or.inr (Or.inr (Or.inl h1))
  ·exact Or.inr (Or.inr (Or.inr (Or.inl h1)))
 have hFk:∀b,F b→(w.setCell ⟨sb,1,none⟩ V).heap[b]?=w.heap[b]?:=fun b hb=>hk b fun e=>(h.apart b hb).2 (by simp[aF,e])
 have hin:∀k,k∈gf::(outv.ownBlock.toList++aS (fb++[v]))→(w.setCell ⟨sb,1,none⟩ V).heap[k]?=w.heap[k]?:=fun k hm=>hk k fun e=>hns (by rw[←e];exact hm)
 obtain⟨vs',v0,e,hfb,hv⟩:=iE.unsnoc h.frs;obtain⟨rfl,e2⟩:=List.append_inj' e rfl;refine⟨⟨?_,?_,hfb.keep hFk (fun _ h=>h) fun u hu k hk'=>hin k ?_,h.tape.keep hFk fun _ h=>h,aY h.out fun k hk'=>hin k (by simp[hk']),?_,fun k hk'=>Nat.lt_of_lt_of_le (h.lt k (hmem k hk')) (by simp),fun k hk'=>⟨Nat.lt_of_lt_of_le (h.apart k hk').1 (by simp),fun hm=>(h.apart k hk').2 (hmem k hm)⟩⟩,⟨rfl,rfl,rfl,by simp,fun k _ hn=>hk k fun e=>hn (by simp[aF,e])⟩⟩
 ·rw[aQ h.blk,←hV];rfl
 ·rcases h.row.2 with ⟨r1,_⟩|⟨g',c',cur,r1,r2,r3,r4,r5,r6,r7⟩
  ·cases r1
  ·cases r1;rw[List.length_append] at r4 r7;refine⟨by rw[dV],Or.inr ⟨gf,cap,cur,rfl,r2,?_,by omega,r5,r6,?_⟩⟩
   ·rw[hin gf (by simp)];exact r3
   ·have:=congrArg (List.take (fb.length*6)) r7;rw[List.take_take,show min (fb.length*6) ((fb.length+[v].length)*6)=fb.length*6 by simp,iU] at this
    rw[this,List.take_left' (by rw[dV])]
 ·have:k∈aS fb:=List.mem_flatMap.2 ⟨u,hu,hk'⟩;rw[hall];simp[this]
 ·have e1:aF sb gf outv (fb++[v])=aF sb gf outv fb++v.owns:=by simp[aF,hall]
  have:=h.nodup;rw[e1] at this;exact(List.nodup_append.1 this).1
theorem wE(sb gf:Nat)(outv:Value)(fb:List FVal)(v:FVal):∀k,k∈aF sb gf outv fb→k∈aF sb gf outv (fb++[v]):=fun k hm=>by
 have e1:aF sb gf outv (fb++[v])=aF sb gf outv fb++v.owns:=by simp[aF,aS]
 rw[e1];exact List.mem_append_left _ hm
def O3(fp:Nat→Value)(F:Nat→Prop)(base sb gf cap:Nat)(t0 tv outv s0:Value)(fb:List FVal)(v:FVal)(below:List aK)(f:aK)(tape:List Int)(out:List (List UInt8))(w0:World)(a:aI)(t:TypeId)(z:Value)(W:World):Prop:=
 PV F W (.iface t z) a∧aJ a≤200∧∃v',v'.owns=v.owns∧cO fp F base W sb gf cap t0 tv outv s0 (fb++[v']) ⟨below++[f.pop],tape,out⟩∧Kept (aF sb gf outv (fb++[v])) w0 W
theorem O3.gone{fb:List FVal}{v:FVal}{w0 W:World}{a:aI}{t:TypeId}{z:Value}(hq:O3 fp F base sb gf cap t0 tv outv s0 fb v below f tape out w0 a t z W):
 PV F (W.drew.setCell ⟨sb,1,none⟩ (.slice (some ⟨gf,0,none⟩) fb.length cap)) (.iface t z) a∧cO fp F base (W.drew.setCell ⟨sb,1,none⟩ (.slice (some ⟨gf,0,none⟩) fb.length cap)) sb gf cap t0 tv outv s0 fb ⟨below,tape,out⟩∧Kept (aF sb gf outv (fb++[v])) w0 (W.drew.setCell ⟨sb,1,none⟩ (.slice (some ⟨gf,0,none⟩) fb.length cap)):=by
 obtain⟨h1,h2,v',h3,h4,h5⟩:=hq;have hd:=h4.grow (aW.drew W).below (fun _ h=>h) (fun _ h=>Or.inl h)
 obtain⟨q1,q2⟩:=hd.dropTop;have e:aF sb gf outv (fb++[v'])=aF sb gf outv (fb++[v]):=by simp[aF,aS,h3]
 rw[e] at q2;refine⟨(h1.keep (w':=W.drew) fun _ _=>rfl).keep fun k hk=>Below.heap_setCell _ _ _ _ fun e=>(h4.apart k hk).2 (by simp[aF,e]),q1,(h5.trans (Kept.of_below (own:=[]) (aW.drew W).below) (fun x hx=>by simp at hx)).trans q2 fun _ h=>Or.inl h⟩
theorem L6(tab:List eJ)(h:cO fp F base w sb gf cap t0 tv outv s0 fvs ⟨below++[f],tape,out⟩)(hbel:below.length≤15)(hbase:base≤w.heap.size)(hops:f.ops.length≤99000)(hne:∃vs a,f.ops=vs++[a])(hgo:∀g∈below,g.ops.length≤99000):
 Calls Tryz.prog 372 #[.agg #[],.pointer (some ⟨sb,0,none⟩)] w (R6 fp F base sb t0 s0 (aF sb gf outv fvs) w (cC tab .give below f tape out)):=by
 obtain⟨vs,a,hf⟩:=hne;have hM:=h.mid hbase (.cells #[] 363);obtain⟨fb,v,cur,rfl,hfl, -, -, -,hcap, -⟩:=h.top;have hb0:Below w.heap.size w (w.alloc (.cells #[] 363)):=(Below.refl _ w).alloc (Nat.le_refl _) _;have h0:=h.grow hb0 (fun _ h=>h) (fun _ h=>Or.inl h)
 have hT:=hM.topS hbel;rw[←hfl] at hT
 have HP:Hid (∀W,aW (w.alloc (.cells #[] 363)) W→Calls Tryz.prog 171 #[.pointer (some ⟨gf,fb.length*6,none⟩)] W fun e w'=>∃t z,e=.returned (.iface t z)∧O3 fp F base sb gf cap t0 tv outv s0 fb v below f tape out (w.alloc (.cells #[] 363)) a t z w'):=fun W hS=>by
  refine((h0.grow hS.below (fun _ h=>h) (fun _ h=>Or.inl h)).popR hf (by omega)).mono ?_
  rintro e w' ⟨t,z,ov',he,h1,h2,h3,h4,h5,h6⟩;exact⟨t,z,he,h1,h2,_,by simp[FVal.owns,h3],h4,(Kept.of_below (own:=aF sb gf outv (fb++[v])) hS.below).trans h5 fun _ h=>Or.inl h⟩
 have HB:∀W t z,O3 fp F base sb gf cap t0 tv outv s0 fb v below f tape out (w.alloc (.cells #[] 363)) a t z W→W.cell? ⟨sb,1,none⟩=some (.slice (some ⟨gf,0,none⟩) (fb.length+1) cap)∧W.frozen? ⟨sb,1,none⟩=false∧sb<W.heap.size:=fun W t z hq=>by
  obtain⟨_,_,v',_,h4,_⟩:=hq;have hblk:=h4.blk;rw[show (fb++[v']).length=fb.length+1 by simp] at hblk
  exact⟨aA hblk rfl,aE hblk,aD hblk⟩
 rcases List.eq_nil_or_concat below with rfl|⟨b',g,hbg⟩
 ·obtain rfl:fb=[]:=List.eq_nil_of_length_eq_zero hfl;refine(MX w _ sb gf 0 gf cap (fun w'=>Done fp F base sb t0 s0 (aF sb gf outv ([]++[v])) w ⟨[],tape,out⟩ w') _ rfl (by simpa using hcap) hT HP HB fun W t z hq=>?_).mono ?_
  ·obtain⟨_,q2,q3⟩:=hq.gone;exact⟨(Kept.of_below hb0).trans q3 fun _ h=>Or.inl h,F,gf,cap,tv,outv,[],Ext.refl _ _,q2,fun k hk=>Or.inl (wE sb gf outv [] v k hk)⟩
  ·rintro e w' ⟨rfl,h2⟩;exact⟨Or.inl ⟨rfl,rfl⟩,h2⟩
 ·rw[List.concat_eq_append] at hbg;subst hbg;have hfl2:fb.length=b'.length+1:=by simpa using hfl
  have hbl:b'.length≤14:=by simp at hbel;omega
  rw[hfl2] at hcap;have hr:cC tab .give (b'++[g]) f tape out=(⟨b'++[g.push a],tape,out⟩,0):=by simp[cC,iF hf]
  rw[hr];refine(MW w _ sb gf (fb.length*6) gf cap b'.length gf (b'.length*6) (fun w'=>Done fp F base sb t0 s0 (aF sb gf outv (fb++[v])) w ⟨b'++[g.push a],tape,out⟩ w') _ (fun t z W=>PV F W (.iface t z) a∧aJ a≤200∧Mid fp base sb gf b'.length t0 s0 (aF sb gf outv (fb++[v])) (w.alloc (.cells #[] 363)) F ⟨b'++[g],tape,out⟩ W) rfl (by omega) (by omega) hT HP (fun W t z hq=>?_) (fun W t z hq=>?_) (fun W t z hq=>?_)).mono ?_
  ·have:=HB W t z hq;rw[hfl2] at this;exact this
  ·obtain⟨q1,q2,q3⟩:=hq.gone;rw[hfl2] at q1 q2 q3;have hmid:Mid fp base sb gf b'.length t0 s0 (aF sb gf outv (fb++[v])) (w.alloc (.cells #[] 363)) F ⟨b'++[g],tape,out⟩ _:=⟨q3,Nat.le_trans hbase (Nat.le_trans hb0.size q3.size),cap,tv,outv,fb,hfl2,q2,fun k hk=>Or.inl (wE sb gf outv fb v k hk)⟩
   refine(hmid.top (by omega)).mono ?_
   rintro e w' ⟨he,hs⟩;exact⟨he,q1.keep (fun _ _=>by rw[hs.heap]),hq.2.1,hmid.same hs⟩
  ·refine(hq.2.2.push hq.1 hq.2.1 (by have:=hgo g (by simp);omega)).mono ?_
   rintro e w' ⟨he,h4⟩;exact⟨he,h4.done (Ext.refl _ _)⟩
  ·rintro e w' ⟨rfl,h2⟩;exact⟨Or.inl ⟨rfl,rfl⟩,h2⟩
end
theorem OM(w w0:World)(sb fa fj gf cap cn:Nat)(fpv:Option Addr)(S:World→Prop)(Q:Option Addr→Nat→World→Prop)(hW:w.alloc (.cells #[.pointer fpv,.int .i64 cn] 442)=w0)
 (HT:Hid (∀W,aW w0 W→Calls Tryz.prog 158 #[.pointer (some ⟨sb,0,none⟩)] W fun e w'=>e=.returned (.pointer (some ⟨fa,fj,none⟩))∧aW w0 w'))
 (HP:Hid (∀W,aW w0 W→Calls Tryz.prog 377 #[.pointer (some ⟨fa,fj,none⟩),.int .i64 cn] W fun e w'=>∃x d,e=.returned (.slice x cn d)∧Q x d w'))
 (HB:Hid (∀W x d,Q x d W→W.cell? ⟨sb,1,none⟩=some (.slice (some ⟨gf,0,none⟩) 16 cap)∧S W)):
 Calls Tryz.prog 402 #[.agg #[.pointer fpv,.int .i64 cn],.pointer (some ⟨sb,0,none⟩)] w fun e w'=>e=fE 5∧S w':=by
 have hbox:(w.alloc (.cells #[.pointer fpv,.int .i64 cn] 442)).heap[w.heap.size]?=some (.cells #[.pointer fpv,.int .i64 cn] 442 (0,0)):=aR _ _ rfl _;rw[hW] at hbox;have HW:=aB hW;have HC0:=aB (aA (i:=1) hbox rfl);have c0:=HC0.out;have hlt:=aD hbox;clear hW hbox;go_enter Tryz.func402,Tryz.ntmps402;go_wp2_with fail;rw[HW.out];go_region_law (go_simp;first|(go_at_call 158;refine(HT.out _ (aW.drew _)).mono ?_;rintro e w1 ⟨rfl,hs1⟩;have d1:=cQ hs1.heap HC0.out;have d2:=jI hs1.heap hlt)|(go_at_call 377;refine(HP.out _ hs1).mono ?_;rintro e w2 ⟨x,d,rfl,h2⟩;have hq:=HB.out _ _ _ h2;obtain⟨y1,y2⟩:=hq))
 all_goals
  go_wp2_with fail;exact⟨rfl,rfl,y2⟩
theorem FI:(Tryz.prog.info? 195).map (fun i=>(i.zero,i.size,i.bytes))=some (some (.agg #[.pointer none,.int .i64 0,.int .i64 0,.pointer none,.slice none 0 0,.slice none 0 0]),6,80):=by kernel_rfl
theorem QQ(w:World)(a0 a1 a2 a3 a4 a5:Value):∀j u,([a0,a1,a2,a3,a4,a5]:List Value)[j]?=some u→(w.alloc (.cells #[a0,a1,a2,a3,a4,a5] 195)).cell? ((⟨w.heap.size,0,none⟩:Addr).add j)=some u:=by
 intro j u hj;exact World.news_of_block (cs:= #[a0,a1,a2,a3,a4,a5]) (aR _ _ rfl _) j u hj
theorem VT(x y:Option Addr)(c d:Nat):∀u∈([.pointer x,.int .i64 0,.int .i64 0,.pointer none,.slice y c d,.slice none 0 0]:List Value),u.oneCell'=true:=by
 intro u hu;simp at hu;rcases hu with rfl|rfl|rfl|rfl|rfl<;>rfl
theorem OL(w w0:World)(sb fa fj gf cap cn base n:Nat)(fpv:Option Addr)(P:World→Prop)(Q:Option Addr→Nat→List Value→World→Prop)(hW:w.alloc (.cells #[.pointer fpv,.int .i64 cn] 442)=w0)(hn:n≤15)
 (HT:Hid (∀W,aW w0 W→Calls Tryz.prog 158 #[.pointer (some ⟨sb,0,none⟩)] W fun e w'=>e=.returned (.pointer (some ⟨fa,fj,none⟩))∧aW w0 w'))
 (HP:Hid (∀W,aW w0 W→Calls Tryz.prog 377 #[.pointer (some ⟨fa,fj,none⟩),.int .i64 cn] W fun e w'=>∃x d xs,e=.returned (.slice x cn d)∧Q x d xs w'))
 (HB:Hid (∀W x d xs,Q x d xs W→W.cell? ⟨sb,1,none⟩=some (.slice (some ⟨gf,0,none⟩) n cap)∧W.cell? ⟨w.heap.size,0,none⟩=some (.pointer fpv)∧w.heap.size<W.heap.size∧sb<W.heap.size∧base≤W.heap.size))
 (HO:Hid (∀W x d xs,Q x d xs W→W.drew.ownsRow base 195 6 (.slice (some ⟨gf,0,none⟩) n cap) n xs))
 (HG:Hid (∀W x d xs,Q x d xs W→∀w5:World,(W.drew.alloc (.cells #[.pointer fpv,.int .i64 0,.int .i64 0,.pointer none,.slice x cn d,.slice none 0 0] 195)).grownBy w5 (some gf)→(∃u,w5.cell? ⟨sb,1,none⟩=some u)∧w5.frozen? ⟨sb,1,none⟩=false∧sb<w5.heap.size))
 (HN:Hid (∀W x d xs,Q x d xs W→∀g5 cap5 (w5:World),w5.ownsRow base 195 6 (.slice (some ⟨g5,0,none⟩) (n+1) cap5) (n+1) (xs++[.pointer fpv,.int .i64 0,.int .i64 0,.pointer none,.slice x cn d,.slice none 0 0])→(W.drew.alloc (.cells #[.pointer fpv,.int .i64 0,.int .i64 0,.pointer none,.slice x cn d,.slice none 0 0] 195)).grownBy w5 (some gf)→(some gf=some g5∨g5=W.heap.size+1)→P (w5.setCell ⟨sb,1,none⟩ (.slice (some ⟨g5,0,none⟩) (n+1) cap5)))):
 Calls Tryz.prog 402 #[.agg #[.pointer fpv,.int .i64 cn],.pointer (some ⟨sb,0,none⟩)] w fun e w'=>e=.returned (.tuple #[])∧P w':=by
 obtain⟨i0,hi,hz0,hz1,hz2⟩:=info_parts FI;have hbox:(w.alloc (.cells #[.pointer fpv,.int .i64 cn] 442)).heap[w.heap.size]?=some (.cells #[.pointer fpv,.int .i64 cn] 442 (0,0)):=aR _ _ rfl _;rw[hW] at hbox;have HW:=aB hW;have HC0:=aB (aA (i:=1) hbox rfl);have c0:=HC0.out;have hlt:=aD hbox;have e0:((n:Int)==16)=false:=by simp;omega
 clear hW hbox;go_enter Tryz.func402,Tryz.ntmps402;go_wp2_with fail;rw[HW.out];go_region_law (go_simp;first|(go_at_call 158;refine(HT.out _ (aW.drew _)).mono ?_;rintro e w1 ⟨rfl,hs1⟩;have d1:=cQ hs1.heap HC0.out;have d2:=jI hs1.heap hlt)|(go_at_call 377;refine(HP.out _ hs1).mono ?_;rintro e w2 ⟨x,d,xs,rfl,h2⟩;have hq:=HB.out _ _ _ _ h2;obtain⟨y1,y2,y3,y4,y5⟩:=hq))
 all_goals
  go_wp2_with fail;go_region_law (refine step_append_lies _ (by rfl) _ _ 106 (by rfl) base 195 i0 _ 6 80 Tryz.underlying106 hi hz0 hz1 hz2 rfl (by decide) (.slice (some ⟨gf,0,none⟩) n cap) n xs (by rfl) ((HO.out _ _ _ _ h2).alloc _) ⟨w2.heap.size,0,none⟩ 1 1 [.pointer fpv,.int .i64 0,.int .i64 0,.pointer none,.slice x cn d,.slice none 0 0] (by rfl) (by rfl) (QQ w2.drew _ _ _ _ _ _) (VT _ _ _ _) (by decide) (by unfold maxLen;omega) (by omega) (by simp;omega) (w2.heap.size+1) (by simp) ?_;intro g5 cap5 w5 hown5 hgrow5 hat5 hg5;have hz:=HG.out _ _ _ _ h2 w5 hgrow5;obtain⟨⟨u5,z1⟩,z2,z3⟩:=hz)
  all_goals
   go_wp2_with fail;go_end0;exact⟨rfl,HN.out _ _ _ _ h2 _ _ _ hown5 hgrow5 hat5⟩
theorem IJ{w:World}{b b':Nat}{e:TypeId}{size:Nat}{v:Value}{n:Nat}{xs:List Value}(h:w.ownsRow b' e size v n xs)(hb:b≤b'):w.ownsRow b e size v n xs:=by
 rcases h with ⟨h1,h2|⟨g,c,row,r1,r2,r3⟩⟩
 ·exact⟨h1,Or.inl h2⟩
 ·exact⟨h1,Or.inr ⟨g,c,row,r1,Nat.le_trans hb r2,r3⟩⟩
section
variable {fp:Nat→Value} {F:Nat→Prop} {base:Nat} {w:World} {sb gf cap:Nat} {t0 tv outv s0:Value} {fvs:List FVal} {below:List aK} {f:aK} {tape:List Int} {out:List (List UInt8)}
theorem cO.called{m:cM}{fn:eJ}{us:List aI}{ys:List Value}{x fpv:Option Addr}{d g5 cap5 B:Nat}{w5:World}(h:cO fp F base w sb gf cap t0 tv outv s0 fvs m)(hfn:YN fp F w (.pointer fpv) fn)(hB:base≤B)(hBown:∀k∈aF sb gf outv fvs,k<B)(hBF:∀k,F k→k<B)
 (hys:w.ownsRow B 256 1 (.slice x us.length d) us.length ys) (hru:fR F w ys us) (hcu:∀a∈us,aJ a≤200)
 (hown5:w5.ownsRow base 195 6 (.slice (some ⟨g5,0,none⟩) (fvs.length+1) cap5) (fvs.length+1) (fS fvs++[.pointer fpv,.int .i64 0,.int .i64 0,.pointer none,.slice x us.length d,.slice none 0 0]))
 (hg:(w.drew.alloc (.cells #[.pointer fpv,.int .i64 0,.int .i64 0,.pointer none,.slice x us.length d,.slice none 0 0] 195)).grownBy w5 (some gf)) (hat:some gf=some g5∨g5=w.heap.size+1):
 cO fp F base (w5.setCell ⟨sb,1,none⟩ (.slice (some ⟨g5,0,none⟩) (fvs.length+1) cap5)) sb g5 cap5 t0 tv outv s0 (fvs++[⟨.pointer fpv,.int .i64 0,.int .i64 0,.pointer none,.slice x us.length d,.slice none 0 0⟩]) ⟨m.frames++[⟨fn,0,0,[],us,[]⟩],m.tape,m.out⟩∧
  Kept (aF sb gf outv fvs) w (w5.setCell ⟨sb,1,none⟩ (.slice (some ⟨g5,0,none⟩) (fvs.length+1) cap5)):=by
 generalize hV:Value.slice (some ⟨g5,0,none⟩) (fvs.length+1) cap5=V at*;have hn1:=List.nodup_cons.1 h.nodup;have hn2:=List.nodup_cons.1 hn1.2;have hsg:sb≠gf:=fun e=>hn1.1 (by simp[e])
 have hsl:=aD h.blk
 have hg5:g5≠sb:=by
  rcases hat with e|e
  ·cases e;exact fun e=>hsg e.symm
  ·omega
 have hgl5:g5<w5.heap.size:=by
  subst hV;exact cG hown5 g5 rfl
 have hk5:∀k,k<w.heap.size→k≠gf→w5.heap[k]?=w.heap[k]?:=fun k h1 h2=>by
  rw[hg.block k (by simp;omega) (fun e=>h2 (by cases e;rfl)),Below.heap_alloc _ _ _ (by exact h1)];rfl
 have hk:∀k,k<w.heap.size→k≠gf→k≠sb→(w5.setCell ⟨sb,1,none⟩ V).heap[k]?=w.heap[k]?:=fun k h1 h2 h3=>by
  rw[Below.heap_setCell _ _ _ _ h3,hk5 k h1 h2]
 have hFk:∀b,F b→(w5.setCell ⟨sb,1,none⟩ V).heap[b]?=w.heap[b]?:=fun b hb=>hk b (h.apart b hb).1 (fun e=>(h.apart b hb).2 (by simp[aF,e])) (fun e=>(h.apart b hb).2 (by simp[aF,e]))
 have hin:∀k,k∈outv.ownBlock.toList++aS fvs→(w5.setCell ⟨sb,1,none⟩ V).heap[k]?=w.heap[k]?:=fun k hm=>hk k (h.lt k (by unfold aF;exact List.mem_cons_of_mem _ (List.mem_cons_of_mem _ hm))) (fun e=>hn2.1 (by rw[←e];exact hm)) (fun e=>hn1.1 (by rw[←e];exact List.mem_cons_of_mem _ hm))
 have hsz:w.heap.size≤(w5.setCell ⟨sb,1,none⟩ V).heap.size:=Nat.le_trans (by simp) (Nat.le_trans hg.size (by simp))
 have hxk:∀k,(Value.slice x us.length d).ownBlock=some k→B≤k∧k<w.heap.size:=fun k e=>⟨bX hys k e,cG hys k e⟩
 have hxne:∀k,(Value.slice x us.length d).ownBlock=some k→k≠gf∧k≠sb:=fun k e=>by
  have h1:=hBown gf (by simp[aF])
  have h2:=hBown sb (by simp[aF])
  have:=(hxk k e).1;omega
 have hownv:(⟨.pointer fpv,.int .i64 0,.int .i64 0,.pointer none,.slice x us.length d,.slice none 0 0⟩:FVal).owns=(Value.slice x us.length d).ownBlock.toList:=by simp[FVal.owns,show (Value.slice none 0 0).ownBlock=none from rfl]
 have hall:aF sb g5 outv (fvs++[⟨.pointer fpv,.int .i64 0,.int .i64 0,.pointer none,.slice x us.length d,.slice none 0 0⟩])=sb::g5::((outv.ownBlock.toList++aS fvs)++(Value.slice x us.length d).ownBlock.toList):=by simp[aF,aS,hownv]
 have hlen:(fvs++[(⟨.pointer fpv,.int .i64 0,.int .i64 0,.pointer none,.slice x us.length d,.slice none 0 0⟩:FVal)]).length=fvs.length+1:=by simp
 refine⟨⟨?_,?_,?_,h.tape.keep hFk fun _ h=>h,aY h.out fun k hk'=>hin k (by simp[hk']),?_,?_,?_⟩,?_⟩
 ·rw[hlen,aQ (show w5.heap[sb]?=_ from (hk5 sb hsl hsg).trans h.blk),hV];rfl
 ·rw[hlen,iU,hV];subst hV;exact aY hown5 fun k hk'=>Below.heap_setCell _ _ _ _ (by cases hk';exact hg5)
 ·refine(h.frs.keep hFk (fun _ h=>h) fun v hv k hk'=>hin k (List.mem_append_right _ (List.mem_flatMap.2 ⟨v,hv,hk'⟩))).snoc ⟨hfn.keep hFk fun _ h=>h,rfl,rfl,rfl,⟨⟨ys,?_,hru.keep hFk⟩,hcu⟩,⟨⟨[],World.ownsRow_nil _ _ _ _,fR.nil _ _⟩,fun _ h=>by simp at h⟩⟩
  exact aY (IJ hys hB) fun k e=>hk k (hxk k e).2 (hxne k e).1 (hxne k e).2
 ·rw[hall];refine List.nodup_cons.2 ⟨?_,List.nodup_cons.2 ⟨?_,List.nodup_append.2 ⟨hn2.2,by cases (Value.slice x us.length d).ownBlock<;>simp,?_⟩⟩⟩
  ·intro hm;simp only[List.mem_cons,List.mem_append] at hm;rcases hm with e|(e|e)|e
   ·exact hg5 e.symm
   ·exact hn1.1 (by simp[e])
   ·exact hn1.1 (by simp[e])
   ·exact(hxne sb (by simpa using e)).2 rfl
  ·intro hm;rcases hat with e|e
   ·cases e;rcases List.mem_append.1 hm with hm|hm
    ·exact hn2.1 hm
    ·exact(hxne gf (by simpa using hm)).1 rfl
   ·rcases List.mem_append.1 hm with hm|hm
    ·have:=h.lt g5 (by unfold aF;exact List.mem_cons_of_mem _ (List.mem_cons_of_mem _ hm));omega
    ·have:=(hxk g5 (by simpa using hm)).2;omega
  ·intro a ha b hb e;subst e;have h1:=hBown a (by unfold aF;exact List.mem_cons_of_mem _ (List.mem_cons_of_mem _ ha))
   have h2:=(hxk a (by simpa using hb)).1
   omega
 ·intro k hm;rw[hall] at hm;have h5:w5.heap.size≤(w5.setCell ⟨sb,1,none⟩ V).heap.size:=by simp
  simp only[List.mem_cons,List.mem_append] at hm;rcases hm with e|e|(e|e)|e
  ·rw[e];omega
  ·rw[e];omega
  ·have:=h.lt k (by simp[aF,e]);omega
  ·have:=h.lt k (by simp[aF,e]);omega
  ·have:=(hxk k (by simpa using e)).2;omega
 ·intro k hk';obtain⟨a1,a2⟩:=h.apart k hk';refine⟨by omega,fun hm=>?_⟩
  rw[hall] at hm;simp only[List.mem_cons,List.mem_append] at hm;rcases hm with e|e|(e|e)|e
  ·exact a2 (by simp[aF,e])
  ·rcases hat with e2|e2
   ·cases e2;exact a2 (by simp[aF,e])
   ·omega
  ·exact a2 (by simp[aF,e])
  ·exact a2 (by simp[aF,e])
  ·have:=(hxk k (by simpa using e)).1;have:=hBF k hk';omega
 ·exact⟨hg.os.trans rfl,hg.tape.trans rfl,hg.output.trans rfl,hsz,fun k h1 hn=>hk k h1 (fun e=>hn (by simp[aF,e])) (fun e=>hn (by simp[aF,e]))⟩
def U5(fp:Nat→Value)(F:Nat→Prop)(base sb gf cap:Nat)(t0 tv outv s0:Value)(fvs:List FVal)(below:List aK)(f:aK)(tape:List Int)(out:List (List UInt8))(w0:World)(us:List aI)(x:Option Addr)(d:Nat)(xs:List Value)(W:World):Prop:=
 ∃fvs' ys,xs=fS fvs'∧Kept (aF sb gf outv fvs) w0 W∧aF sb gf outv fvs'=aF sb gf outv fvs∧fvs'.length=fvs.length∧cO fp F base W sb gf cap t0 tv outv s0 fvs' ⟨below++[f.popMany us.length],tape,out⟩∧
  W.ownsRow w0.heap.size 256 1 (.slice x us.length d) us.length ys∧fR F W ys us∧(∀a∈us,aJ a≤200)∧∀k,F k→W.heap[k]?=w0.heap[k]?
theorem N5(tab:List eJ)(k:Nat)(fn:eJ)(vs us:List aI)(h:cO fp F base w sb gf cap t0 tv outv s0 fvs ⟨below++[f],tape,out⟩)(hbel:below.length≤15)(hbase:base≤w.heap.size)(hops:f.ops.length≤99000)(hf:f.ops=vs++us)(htab:kH fp F w tab)(hk:tab[k]?=some fn):
 Calls Tryz.prog 402 #[.agg #[fp k,.int .i64 us.length],.pointer (some ⟨sb,0,none⟩)] w (R6 fp F base sb t0 s0 (aF sb gf outv fvs) w (cC tab (.call k us.length) below f tape out)):=by
 have hfn:=htab k fn hk;have hfp:∃q,fp k=.pointer q:=by obtain⟨fb,gc,cp,cur,e,_⟩:=hfn;exact⟨_,e⟩
 obtain⟨fpv,hfp⟩:=hfp;rw[hfp] at hfn ⊢
 have hM:=h.mid hbase (.cells #[.pointer fpv,.int .i64 us.length] 442);have hb0:Below w.heap.size w (w.alloc (.cells #[.pointer fpv,.int .i64 us.length] 442)):=(Below.refl _ w).alloc (Nat.le_refl _) _;have h0:=h.grow hb0 (fun _ h=>h) (fun _ h=>Or.inl h)
 have hcnt:fvs.length=below.length+1:=by rw[h.count];simp
 have hbox:(w.alloc (.cells #[.pointer fpv,.int .i64 us.length] 442)).heap[w.heap.size]?=some (.cells #[.pointer fpv,.int .i64 us.length] 442 (0,0)):=aR _ _ rfl _;have hm:f.many us.length=us:=by simp[aK.many,hf]
 have hr:cC tab (.call k us.length) below f tape out=if below.length+1=16 then (⟨below++[f.popMany us.length],tape,out⟩,5) else (⟨(below++[f.popMany us.length])++[⟨fn,0,0,[],us,[]⟩],tape,out⟩,0):=by
  simp[cC,hm,hk]
 rw[hr];have hwsz:w.heap.size<(w.alloc (.cells #[.pointer fpv,.int .i64 us.length] 442)).heap.size:=aD hbox;generalize hw0:w.alloc (.cells #[.pointer fpv,.int .i64 us.length] 442)=w0 at*
 have HP:∀W,aW w0 W→Calls Tryz.prog 377 #[.pointer (some ⟨gf,below.length*6,none⟩),.int .i64 us.length] W fun e w'=>∃x d xs,e=.returned (.slice x us.length d)∧U5 fp F base sb gf cap t0 tv outv s0 fvs below f tape out w0 us x d xs w':=fun W hS=>by
  refine((h0.grow hS.below (fun _ h=>h) (fun _ h=>Or.inl h)).popMany hf (by omega)).mono ?_
  rintro e w' ⟨v',ys,fvs',he,k1,k2,k3,k4,k5,k6,k7,k8⟩;rw[hS.heap] at k5;obtain⟨x,d,rfl⟩:=cP k5;exact⟨x,d,_,he,fvs',ys,rfl,(Kept.of_below (own:=aF sb gf outv fvs) hS.below).trans k1 fun _ h=>Or.inl h,k2,k3,k4,k5,k6,k7,fun j hj=>by rw[k8 j hj,hS.heap]⟩
 have HK:∀{W W'},Kept (aF sb gf outv fvs) w0 W→Kept (aF sb gf outv fvs) W W'→Kept (aF sb gf outv fvs) w W':=fun a b=>((Kept.of_below (own:=aF sb gf outv fvs) hb0).trans a fun _ h=>Or.inl h).trans b fun _ h=>Or.inl h
 by_cases hd16:below.length+1=16
 ·rw[if_pos hd16];refine(OM w w0 sb gf (below.length*6) gf cap us.length fpv (fun w'=>Done fp F base sb t0 s0 (aF sb gf outv fvs) w ⟨below++[f.popMany us.length],tape,out⟩ w') (fun x d W=>∃xs,U5 fp F base sb gf cap t0 tv outv s0 fvs below f tape out w0 us x d xs W) hw0 (hM.topS hbel) (fun W hS=>?_) (fun W x d hq=>?_)).mono ?_
  ·refine(HP W hS).mono ?_;rintro e w' ⟨x,d,xs,he,hq⟩;exact⟨x,d,he,xs,hq⟩
  ·obtain⟨xs,fvs',ys,_,k1,k2,k3,k4,_⟩:=hq;have hblk:=k4.blk;rw[k3,hcnt,hd16] at hblk;exact⟨aA hblk rfl,HK k1 (Kept.refl _ _),F,gf,cap,tv,outv,fvs',Ext.refl _ _,k4,fun j hj=>Or.inl (by rw[←k2];exact hj)⟩
  ·rintro e w' ⟨rfl,h2⟩;exact⟨Or.inr ⟨show (5:Nat)≠0 by decide,rfl⟩,h2⟩
 ·rw[if_neg hd16];refine(OL w w0 sb gf (below.length*6) gf cap us.length base fvs.length fpv (fun w'=>Done fp F base sb t0 s0 (aF sb gf outv fvs) w ⟨(below++[f.popMany us.length])++[⟨fn,0,0,[],us,[]⟩],tape,out⟩ w') (U5 fp F base sb gf cap t0 tv outv s0 fvs below f tape out w0 us) hw0 (by omega) (hM.topS hbel) HP (fun W x d xs hq=>?_) (fun W x d xs hq=>?_) (fun W x d xs hq=>?_) (fun W x d xs hq=>?_)).mono ?_
  ·obtain⟨fvs',ys,_,k1,k2,k3,k4,k5,k6,k7,k8⟩:=hq;have hblk:=k4.blk;rw[k3] at hblk;have hb2:W.heap[w.heap.size]?=_:=(k1.block w.heap.size hwsz (fun hm=>Nat.lt_irrefl _ (h.lt _ hm))).trans hbox
   exact⟨aA hblk rfl,aA hb2 rfl,aD hb2,aD hblk,by have:=k1.size;omega⟩
  ·obtain⟨fvs',ys,rfl,k1,k2,k3,k4,k5,k6,k7,k8⟩:=hq;have:=k4.row;rw[k3] at this;exact aY this fun _ _=>rfl
  ·obtain⟨fvs',ys,_,k1,k2,k3,k4,k5,k6,k7,k8⟩:=hq;intro w5 hg;have hsl:=aD k4.blk;have hsg:sb≠gf:=fun e=>(List.nodup_cons.1 k4.nodup).1 (by simp[e])
   have hb5:w5.heap[sb]?=_:=(hg.block sb (by simp;omega) (fun e=>hsg (by cases e;rfl))).trans ((Below.heap_alloc _ _ _ (by exact hsl)).trans k4.blk)
   exact⟨⟨_,aA hb5 rfl⟩,aE hb5,aD hb5⟩
  ·obtain⟨fvs',ys,rfl,k1,k2,k3,k4,k5,k6,k7,k8⟩:=hq;intro g5 cap5 w5 hown5 hg hat;rw[←k3] at hown5 ⊢
   have hFn:YN fp F W (.pointer fpv) fn:=hfn.keep (fun b hb=>by rw[k8 b hb];exact hb0.block b (h.apart b hb).1) fun _ h=>h
   obtain⟨q1,q2⟩:=k4.called (B:=w0.heap.size) hFn (by omega) (fun j hj=>by rw[k2] at hj;exact h0.lt j hj) (fun j hj=>(h0.apart j hj).1) k5 k6 k7 hown5 hg hat
   rw[k2] at q2;refine⟨HK k1 q2,F,g5,cap5,tv,outv,_,Ext.refl _ _,q1,fun j hj=>?_⟩
   have hall:aF sb g5 outv (fvs'++[⟨.pointer fpv,.int .i64 0,.int .i64 0,.pointer none,.slice x us.length d,.slice none 0 0⟩])=sb::g5::((outv.ownBlock.toList++aS fvs')++(Value.slice x us.length d).ownBlock.toList):=by simp[aF,aS,FVal.owns,show (Value.slice none 0 0).ownBlock=none from rfl]
   rw[hall] at hj;rw[←k2];have hsz:=k1.size;simp only[List.mem_cons,List.mem_append] at hj;rcases hj with e|e|(e|e)|e
   ·exact Or.inl (by simp[aF,e])
   ·rcases hat with e2|e2
    ·cases e2;exact Or.inl (by simp[aF,e])
    ·exact Or.inr (by omega)
   ·exact Or.inl (by simp[aF,e])
   ·exact Or.inl (by simp[aF,e])
   ·have:=bX k5 j (by simpa using e)
    exact Or.inr (by omega)
  ·rintro e w' ⟨rfl,h2⟩;exact⟨Or.inl ⟨rfl,rfl⟩,h2⟩
end
def EJ(w:World)(fa fj d m g n c:Nat)(W:World):Prop:=
 W.cell? ⟨w.heap.size,0,none⟩=some (.int .i64 d)∧W.cell? ⟨w.heap.size,1,none⟩=some (.int .i64 m)∧W.cell? ⟨fa,fj+4,none⟩=some (.slice (some ⟨g,0,none⟩) n c)
theorem EJ.same{w W W':World}{fa fj d m g n c:Nat}(h:EJ w fa fj d m g n c W)(hs:aW W W'):EJ w fa fj d m g n c W':=
 ⟨cQ hs.heap h.1,cQ hs.heap h.2.1,cQ hs.heap h.2.2⟩
theorem EF(w w0:World)(sb fa fj d m g n c k:Nat)(ta:TypeId)(za:Value)(hdn:d<n)(P S:World→Prop)(Q:TypeId→Value→World→Prop)(R:TypeId→Value→Option Addr→Nat→World→Prop)(U:TypeId→Value→World→Prop)(hW:w.alloc (.cells #[.int .i64 d,.int .i64 m] 445)=w0)
 (HT:Hid (∀W,aW w0 W→Calls Tryz.prog 158 #[.pointer (some ⟨sb,0,none⟩)] W fun e w'=>e=.returned (.pointer (some ⟨fa,fj,none⟩))∧aW w0 w'))
 (HP:Hid (∀W,aW w0 W→Calls Tryz.prog 171 #[.pointer (some ⟨fa,fj,none⟩)] W fun e w'=>∃t z,e=.returned (.iface t z)∧Q t z w'))
 (HQ:Hid (∀W t z,Q t z W→EJ w fa fj d m g n c W∧W.cell? ⟨g,d,none⟩=some (.iface ta za)))
 (HM:Hid (∀W W' t z,Q t z W→aW W W'→Calls Tryz.prog 377 #[.pointer (some ⟨fa,fj,none⟩),.int .i64 m] W' fun e w'=>∃x y,e=.returned (.slice x m y)∧R t z x y w'))
 (HR:Hid (∀W t z x y,R t z x y W→EJ w fa fj d m g n c W∧W.cell? ⟨g,d,none⟩=some (.iface ta za)))
 (HV:Hid (∀W t z x y,R t z x y W→Calls Tryz.prog 405 #[.iface ta za,.slice x m y,.iface t z] W fun e w'=>(∃t1 z1,e=.returned (.iface t1 z1)∧U t1 z1 w')∨(e=fE k∧S w')))
 (HU:Hid (∀W t z,U t z W→EJ w fa fj d m g n c W∧(∃u,W.cell? ⟨g,d,none⟩=some u)∧W.frozen? ⟨g,d,none⟩=false∧g<W.heap.size∧EJ w fa fj d m g n c (W.setCell ⟨g,d,none⟩ (.iface t z))))
 (HN:Hid (∀W t z,U t z W→P (W.setCell ⟨g,d,none⟩ (.iface t z)))):
 Calls Tryz.prog 404 #[.agg #[.int .i64 d,.int .i64 m],.pointer (some ⟨sb,0,none⟩)] w fun e w'=>(e=.returned (.tuple #[])∧P w')∨(e=fE k∧S w'):=by
 have HW:=aB hW;have e1:(0:Int)≤(d:Int):=by omega
 have e2:(d:Int)<(n:Int):=by omega
 clear hW;go_enter Tryz.func404,Tryz.ntmps404;go_wp2_with fail;rw[HW.out];refine(HT.out _ (aW.refl _)).mono ?_;rintro e w1 ⟨rfl,hs1⟩;go_wp2_with fail;refine(HP.out _ hs1).mono ?_;rintro e w2 ⟨t,z,rfl,h2⟩;have HH2:=aB h2;have hq:=HQ.out _ _ _ h2;have hk0:=hq.1.same (aW.drew w2);have hc0:=cQ (aW.drew w2).heap hq.2;clear hq h2;go_wp2_with fail;refine wp_region_held_drew (S:=fun W=>W.cell? ⟨w.heap.size,0,none⟩=some (.int .i64 d)∧W.cell? ⟨w.heap.size,1,none⟩=some (.int .i64 m)∧W.cell? ⟨fa,fj+4,none⟩=some (.slice (some ⟨g,0,none⟩) n c)) (by kernel_rfl) hk0 (fun hHeld=>?_)
 (refine wpAnyH_take (i:=0) (v:=?_) rfl (by kernel_rfl) (by kernel_rfl) (by kernel_rfl) (fun _ _ _ h=>h) (Or.inl ⟨by rfl,?_⟩) hHeld ?_;rotate_left;(intro w hSw;(try dsimp only at hSw);go_simp<;>with_reducible rfl))
 (refine wpAnyH_take (i:=1) (v:=?_) rfl (by kernel_rfl) (by kernel_rfl) (by kernel_rfl) (fun _ _ _ h=>h) (Or.inl ⟨by rfl,?_⟩) hHeld ?_;rotate_left;(intro w hSw;(try dsimp only at hSw);go_simp<;>with_reducible rfl))
 (refine wpAnyH_take (i:=2) (v:=?_) rfl (by kernel_rfl) (by kernel_rfl) (by kernel_rfl) (fun _ _ _ h=>h) (Or.inl ⟨by rfl,?_⟩) hHeld ?_;rotate_left;(intro w hSw;(try dsimp only at hSw);go_simp<;>with_reducible rfl))
 (refine wpAnyH_take (i:=4) (v:=?_) rfl (by kernel_rfl) (by kernel_rfl) (by kernel_rfl) (fun _ _ _ h=>h) (Or.inl ⟨by rfl,?_⟩) hHeld ?_;rotate_left;(intro w hSw;(try dsimp only at hSw);go_simp<;>with_reducible rfl))
 (refine wpAnyH_take (i:=6) (v:=?_) rfl (by kernel_rfl) (by kernel_rfl) (by kernel_rfl) (fun _ _ _ h=>h) (Or.inl ⟨by rfl,?_⟩) hHeld ?_;rotate_left;(intro w hSw;(try dsimp only at hSw);go_simp<;>with_reducible rfl))
 (refine wpAnyH_take (i:=7) (v:=?_) rfl (by kernel_rfl) (by kernel_rfl) (by kernel_rfl) (fun _ _ _ h=>h) (Or.inl ⟨by rfl,?_⟩) hHeld ?_;rotate_left;(intro w hSw;(try dsimp only at hSw);go_simp<;>with_reducible rfl))
 (refine wpAnyH_take (i:=8) (v:=?_) rfl (by kernel_rfl) (by kernel_rfl) (by kernel_rfl) (fun _ _ _ h=>h) (Or.inl ⟨by rfl,?_⟩) hHeld ?_;rotate_left;(intro w hSw;(try dsimp only at hSw);go_simp<;>with_reducible rfl))
 (refine wpAnyH_take (i:=10) (v:=?_) rfl (by kernel_rfl) (by kernel_rfl) (by kernel_rfl) (fun _ _ _ h=>h) (Or.inl ⟨by rfl,?_⟩) hHeld ?_;rotate_left;(intro w hSw;(try dsimp only at hSw);go_simp<;>with_reducible rfl))
 (refine wpAnyH_take (i:=14) (v:=?_) rfl (by kernel_rfl) (by kernel_rfl) (by kernel_rfl) (fun _ _ _ h=>h) (Or.inl ⟨by rfl,?_⟩) hHeld ?_;rotate_left;(intro w hSw;(try dsimp only at hSw);go_simp<;>with_reducible rfl))
 (refine wpAnyH_take (i:=15) (v:=?_) rfl (by kernel_rfl) (by kernel_rfl) (by kernel_rfl) (fun _ _ _ h=>h) (Or.inl ⟨by rfl,?_⟩) hHeld ?_;rotate_left;(intro w hSw;(try dsimp only at hSw);go_simp<;>with_reducible rfl))
 (refine wpAnyH_take (i:=18) (v:=?_) rfl (by kernel_rfl) (by kernel_rfl) (by kernel_rfl) (fun _ _ _ h=>h) (Or.inl ⟨by rfl,?_⟩) hHeld ?_;rotate_left;(intro w hSw;(try dsimp only at hSw);go_simp<;>with_reducible rfl))
 (refine wpAnyH_take (i:=3) (v:=?_) rfl (by kernel_rfl) (by kernel_rfl) (by kernel_rfl) (fun _ _ _ h=>h) (Or.inl ⟨by rfl,?_⟩) hHeld ?_;rotate_left;(intro w hSw;(try dsimp only at hSw);go_simp<;>with_reducible rfl))
 (refine wpAnyH_take (i:=5) (v:=?_) rfl (by kernel_rfl) (by kernel_rfl) (by kernel_rfl) (fun _ _ _ h=>h) (Or.inl ⟨by rfl,?_⟩) hHeld ?_;rotate_left;(intro w hSw;(try dsimp only at hSw);go_simp<;>with_reducible rfl))
 (refine wpAnyH_take (i:=9) (v:=?_) rfl (by kernel_rfl) (by kernel_rfl) (by kernel_rfl) (fun _ _ _ h=>h) (Or.inl ⟨by rfl,?_⟩) hHeld ?_;rotate_left;(intro w hSw;(try dsimp only at hSw);go_simp<;>with_reducible rfl))
 (refine wpAnyH_take (i:=11) (v:=?_) rfl (by kernel_rfl) (by kernel_rfl) (by kernel_rfl) (fun _ _ _ h=>h) (Or.inl ⟨by rfl,?_⟩) hHeld ?_;rotate_left;(intro w hSw;(try dsimp only at hSw);go_simp<;>with_reducible rfl))
 (refine wpAnyH_take (i:=12) (v:=?_) rfl (by kernel_rfl) (by kernel_rfl) (by kernel_rfl) (fun _ _ _ h=>h) (Or.inl ⟨by rfl,?_⟩) hHeld ?_;rotate_left;(intro w hSw;(try dsimp only at hSw);go_simp<;>with_reducible rfl))
 (refine wpAnyH_take (i:=16) (v:=?_) rfl (by kernel_rfl) (by kernel_rfl) (by kernel_rfl) (fun _ _ _ h=>h) (Or.inl ⟨by rfl,?_⟩) hHeld ?_;rotate_left;(intro w hSw;(try dsimp only at hSw);go_simp<;>with_reducible rfl))
 refine wpAnyH_ready (rs:=[13,17]) (by kernel_rfl) (by simp) ?_
 refine AllReadyH.cons rfl (fun K hK=>?_) (AllReadyH.cons rfl (fun K hK=>?_) AllReadyH.nil)
 ·go_simp;refine hK.out _ _ hk0 (fun hHeld=>?_)
  clear hK K;refine wpAnyH_ready (rs:=[17]) (by kernel_rfl) (by simp) ?_
  refine AllReadyH.cons rfl (fun K hK=>?_) AllReadyH.nil
  go_simp;go_at_call 377
  refine(HM.out _ _ _ _ HH2.out (aW.drew w2)).mono ?_;rintro e w3 ⟨x,y,rfl,h3⟩;have HH3:=aB h3;have hq3:=HR.out _ _ _ _ _ h3;have hk3:=hq3.1;have hc3:=hq3.2;clear hq3 h3;go_wp2_with fail;refine hK.out _ _ hk3 (fun hHeld=>?_)
  clear hK K;refine wpAnyH_ready (rs:=[19]) (by kernel_rfl) (by simp) ?_
  refine AllReadyH.cons rfl (fun K hK=>?_) AllReadyH.nil
  go_simp;go_at_call 405
  refine(HV.out _ _ _ _ _ HH3.out).mono ?_;rintro e w4 (⟨t1,z1,rfl,h4⟩|⟨rfl,h4⟩)
  rotate_left
  exact⟨rfl,Or.inr ⟨rfl,h4⟩⟩;have HH4:=aB h4;have hq4:=HU.out _ _ _ h4;have hk4:=hq4.1;obtain⟨u4,hc4⟩:=hq4.2.1;have hf4:=hq4.2.2.1;have hl4:=hq4.2.2.2.1;have hk5:=hq4.2.2.2.2;clear hq4 h4;go_wp2_with fail;refine hK.out _ _ hk4 (fun hHeld=>?_)
  clear hK K;refine wpAnyH_take (i:=20) (v:=?_) rfl (by kernel_rfl) (by kernel_rfl) (by kernel_rfl) (fun _ _ _ h=>h) (Or.inl ⟨by rfl,?_⟩) hHeld ?_
  rotate_left
  ·intro w hSw;(try dsimp only at hSw);go_simp<;>with_reducible rfl
  refine wpAnyH_ready (rs:=[21]) (by kernel_rfl) (by simp) ?_
  refine AllReadyH.cons rfl (fun K hK=>?_) AllReadyH.nil
  go_simp;refine hK.out _ _ hk5 (fun hHeld=>?_)
  clear hK K;refine wpAnyH_done (by kernel_rfl) ?_ _
  go_wp2_with fail;go_end0;exact Or.inl ⟨rfl,HN.out _ _ _ HH4.out⟩
 ·go_simp;go_at_call 377
  refine(HM.out _ _ _ _ HH2.out (aW.drew w2)).mono ?_;rintro e w3 ⟨x,y,rfl,h3⟩;have HH3:=aB h3;have hq3:=HR.out _ _ _ _ _ h3;have hk3:=hq3.1;have hc3:=hq3.2;clear hq3 h3;go_wp2_with fail;refine hK.out _ _ hk3 (fun hHeld=>?_)
  clear hK K;refine wpAnyH_ready (rs:=[13]) (by kernel_rfl) (by simp) ?_
  refine AllReadyH.cons rfl (fun K hK=>?_) AllReadyH.nil
  go_simp;refine hK.out _ _ hk3 (fun hHeld=>?_)
  clear hK K;refine wpAnyH_ready (rs:=[19]) (by kernel_rfl) (by simp) ?_
  refine AllReadyH.cons rfl (fun K hK=>?_) AllReadyH.nil
  go_simp;go_at_call 405
  refine(HV.out _ _ _ _ _ HH3.out).mono ?_;rintro e w4 (⟨t1,z1,rfl,h4⟩|⟨rfl,h4⟩)
  rotate_left
  exact⟨rfl,Or.inr ⟨rfl,h4⟩⟩;have HH4:=aB h4;have hq4:=HU.out _ _ _ h4;have hk4:=hq4.1;obtain⟨u4,hc4⟩:=hq4.2.1;have hf4:=hq4.2.2.1;have hl4:=hq4.2.2.2.1;have hk5:=hq4.2.2.2.2;clear hq4 h4;go_wp2_with fail;refine hK.out _ _ hk4 (fun hHeld=>?_)
  clear hK K;refine wpAnyH_take (i:=20) (v:=?_) rfl (by kernel_rfl) (by kernel_rfl) (by kernel_rfl) (fun _ _ _ h=>h) (Or.inl ⟨by rfl,?_⟩) hHeld ?_
  rotate_left
  ·intro w hSw;(try dsimp only at hSw);go_simp<;>with_reducible rfl
  refine wpAnyH_ready (rs:=[21]) (by kernel_rfl) (by simp) ?_
  refine AllReadyH.cons rfl (fun K hK=>?_) AllReadyH.nil
  go_simp;refine hK.out _ _ hk5 (fun hHeld=>?_)
  clear hK K;refine wpAnyH_done (by kernel_rfl) ?_ _
  go_wp2_with fail;go_end0;exact Or.inl ⟨rfl,HN.out _ _ _ HH4.out⟩
end Go.Proofs.YtblbkfdhjfppkaaGreatDoor
