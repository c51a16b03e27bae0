/- Contracts of the program: instructions that are done within the last frame: what they do (3). -/
import Derived.Test.YtblbkfdhjfppkaaGreatDoorP15
import Derived.Test.YtblbkfdhjfppkaaGreatDoorP14
set_option maxRecDepth 100000
namespace Go.Proofs.YtblbkfdhjfppkaaGreatDoor
open Hs
open Go.RowKit
section
variable {fp:Nat→Value} {F:Nat→Prop} {base:Nat} {w:World} {sb gf cap:Nat} {t0 tv outv s0:Value} {fvs:List FVal} {below:List aK} {f:aK} {tape:List Int} {out:List (List UInt8)}
theorem Mid.apart{own:List Nat}{w0:World}{G:Nat→Prop}{n:Nat}{m:cM}(h:Mid fp base sb gf n t0 s0 own w0 G m w):∀k,G k→k<w.heap.size∧k≠gf:=by
 obtain⟨h1,h2,cap,tv,outv,fvs,h3,h4,h5⟩:=h;exact fun k hk=>⟨(h4.apart k hk).1,fun e=>(h4.apart k hk).2 (by simp[aF,e])⟩
theorem lF.cell{G:Nat→Prop}{v:Value}{l:List aI}{k:Nat}(h:lF G base w v l)(hk:k<l.length):∃g cap t z,v=.slice (some ⟨g,0,none⟩) l.length cap∧w.cell? ⟨g,k,none⟩=some (.iface t z)∧PV G w (.iface t z) l[k]∧aJ l[k]≤200:=by
 obtain⟨⟨xs,h1,h2,h3⟩,h4⟩:=h;obtain⟨u,e1,e2⟩:=h3 k hk;obtain⟨t,z,rfl⟩:=e2.form;rcases h1.2 with ⟨r1,r2⟩|⟨g,c,row,rfl,hg1,hrow,hcap,hcm,hcs,htk⟩
 ·omega
 refine⟨g,c,t,z,rfl,aA hrow ?_,e2,h4 _ (List.getElem_mem _)⟩;rw[←htk,List.getElem?_take] at e1;split at e1
 ·simpa using e1
 ·cases e1
theorem K6(k:Nat)(h:cO fp F base w sb gf cap t0 tv outv s0 fvs ⟨below++[f],tape,out⟩)(hbel:below.length≤15)(hbase:base≤w.heap.size)(hops:f.ops.length≤99000)(hk:k<f.vars.length):
 Calls Tryz.prog 374 #[.agg #[.int .i64 k],.pointer (some ⟨sb,0,none⟩)] w (mZ fp F base sb t0 s0 (aF sb gf outv fvs) w below tape out (aN (.load k) f)):=by
 have hM:=h.mid hbase (.cells #[.int .i64 k] 402);obtain⟨v,hv,hl,hc⟩:=hM.cells;obtain⟨g,c,t,z,e1,e2,e3,e4⟩:=hv.vars.cell hk;have h4:=(hc 4 v.vv rfl).1;rw[e1] at h4;refine(MI w _ sb gf (below.length*6) k g f.vars.length c t z (fun w'=>Done fp F base sb t0 s0 (aF sb gf outv fvs) w ⟨below++[f.push f.vars[k]],tape,out⟩ w') rfl (hM.topS hbel) h4 e2 hk fun W hS=>?_).mono ?_
 ·refine((hM.same hS).push (e3.keep fun b _=>by rw[hS.heap]) e4 (by omega)).mono ?_
  rintro e w' ⟨he,h2⟩;exact⟨he,h2.done (Ext.refl _ _)⟩
 ·rintro e w' ⟨rfl,h2⟩;refine mZ.ok ?_ h2;simp[aN,List.getElem?_eq_getElem hk]
theorem E8(l:Nat)(sp:Value)(s:List (List UInt8))(h:cO fp F base w sb gf cap t0 tv outv s0 fvs ⟨below++[f],tape,out⟩)(hbel:below.length≤15)(hbase:base≤w.heap.size)(hs:eO F w sp s):
 Calls Tryz.prog 373 #[.agg #[.int .i64 l,sp],.pointer (some ⟨sb,0,none⟩)] w (mZ fp F base sb t0 s0 (aF sb gf outv fvs) w below tape out (aN (.begin l s) f)):=by
 obtain⟨sp,rfl⟩:=hs.form;have hM:=h.mid hbase (.cells #[.int .i64 l,.pointer sp] 365);obtain⟨h1,h2,h3⟩:=hM.cell 2 (by omega)
 obtain⟨k1,k2,k3⟩:=hM.cell 3 (by omega)
 refine(JW w _ sb gf (below.length*6) l sp (fun w'=>Done fp F base sb t0 s0 (aF sb gf outv fvs) w ⟨below++[{ f with line:=l,seen:=s }],tape,out⟩ w') rfl (hM.topS hbel) h1 k1 h2 k2 h3 fun W hS=>?_).mono ?_
 ·have hW:=hM.same hS
  have hs0:eO F W (.pointer sp) s:=eO.keep (fun b hb=>by
   rw[hS.heap];exact Below.heap_alloc _ _ _ (h.apart b hb).1) (fun _ h=>h) hs
  have h5:Mid fp base sb gf below.length t0 s0 (aF sb gf outv fvs) _ F ⟨below++[{ f with line:=l }],tape,out⟩ _:=hW.set 2 (.int .i64 l) (by omega) (fun v=>{ v with ln:=.int .i64 l }) (fun _=>rfl) (fun _ _=>rfl) fun _ hv=>⟨hv.fn,hv.nx,rfl,hv.sp,hv.vars,hv.ops⟩
  have hs1:eO F (W.setCell ⟨gf,below.length*6+2,none⟩ (.int .i64 l)) (.pointer sp) s:=eO.keep (fun b hb=>Below.heap_setCell _ _ _ _ (hW.apart b hb).2) (fun _ h=>h) hs0
  have h6:Mid fp base sb gf below.length t0 s0 (aF sb gf outv fvs) _ F ⟨below++[{ f with line:=l,seen:=s }],tape,out⟩ _:=h5.set 3 (.pointer sp) (by omega) (fun v=>{ v with sp:=.pointer sp }) (fun _=>rfl) (fun _ _=>rfl) fun _ hv=>⟨hv.fn,hv.nx,hv.ln,hs1,hv.vars,hv.ops⟩
  exact h6.done (Ext.refl _ _)
 ·rintro e w' ⟨rfl,h2⟩;exact mZ.ok rfl h2
theorem YU(op:List UInt8)(ho:op=[45]∨op=[33])(h:cO fp F base w sb gf cap t0 tv outv s0 fvs ⟨below++[f],tape,out⟩)(hbel:below.length≤15)(hbase:base≤w.heap.size)(hops:f.ops.length≤99000)(hne:∃vs a,f.ops=vs++[a]):
 Calls Tryz.prog 383 #[.agg #[.string (bs op)],.pointer (some ⟨sb,0,none⟩)] w (mZ fp F base sb t0 s0 (aF sb gf outv fvs) w below tape out (aN (.unary op) f)):=by
 obtain⟨vs,a,hf⟩:=hne;have hM:=h.mid hbase (.cells #[.string (bs op)] 407);have hl:f.pop.ops.length≤100000:=by rw[lK hf];rw[hf,List.length_append] at hops;omega
 have hun:∀(W:World) (v:Value),PV F W v a→Calls Tryz.prog 384 #[.string (bs op),v] W (kK F W (fB (op++[120]) a)):=fun W v hv=>by
  rcases ho with rfl|rfl
  ·exact AI 45 (Or.inl rfl) F v a W hv
  ·exact AI 33 (Or.inr rfl) F v a W hv
 have hr:aN (.unary op) f=if (fB (op++[120]) a).2=0 then (f.pop.push (fB (op++[120]) a).1,0) else (f.pop,(fB (op++[120]) a).2):=by simp[aN,iF hf]
 have hcl:=VU (op++[120]) a;generalize fB (op++[120]) a=r at hun hr hcl;rw[hr]
 have HP:Hid (∀W,aW (w.alloc (.cells #[.string (bs op)] 407)) W→Calls Tryz.prog 171 #[.pointer (some ⟨gf,below.length*6,none⟩)] W fun e w'=>∃t z,e=.returned (.iface t z)∧PV F w' (.iface t z) a∧Mid fp base sb gf below.length t0 s0 (aF sb gf outv fvs) (w.alloc (.cells #[.string (bs op)] 407)) F ⟨below++[f.pop],tape,out⟩ w'):=fun W hS=>by
  refine((hM.same hS).pop hf (by omega)).mono ?_
  rintro e w' ⟨t,z,he,h1,h2,h3⟩;exact⟨t,z,he,h1,h3⟩
 by_cases hz:r.2=0
 ·rw[if_pos hz];refine(PA w _ sb gf (below.length*6) op (fun w'=>Done fp F base sb t0 s0 (aF sb gf outv fvs) w ⟨below++[f.pop.push r.1],tape,out⟩ w') (fun t z W=>PV F W (.iface t z) a∧Mid fp base sb gf below.length t0 s0 (aF sb gf outv fvs) (w.alloc (.cells #[.string (bs op)] 407)) F ⟨below++[f.pop],tape,out⟩ W) (fun t z W=>PV F W (.iface t z) r.1∧Mid fp base sb gf below.length t0 s0 (aF sb gf outv fvs) (w.alloc (.cells #[.string (bs op)] 407)) F ⟨below++[f.pop],tape,out⟩ W) rfl (hM.topS hbel) HP (fun W t z hq=>?_) (fun W t z hq=>?_) (fun W t z hq=>?_)).mono ?_
  ·have hb:=Mid.box h hq.2;exact⟨aA hb rfl,aD hb⟩
  ·refine(hun W _ hq.1).mono ?_;rintro e w' ⟨rfl,⟨_,u,rfl,hu⟩|⟨hk,_⟩⟩
   ·obtain⟨t1,z1,rfl⟩:=hu.form;exact⟨t1,z1,rfl,hu,hq.2⟩
   ·exact absurd hz hk
  ·refine(hq.2.push hq.1 hcl hl).mono ?_;rintro e w' ⟨he,h4⟩;exact⟨he,h4.done (Ext.refl _ _)⟩
  ·rintro e w' ⟨rfl,h2⟩;exact mZ.ok rfl h2
 ·rw[if_neg hz];refine(GC w _ sb gf (below.length*6) op r.2 (fun w'=>Done fp F base sb t0 s0 (aF sb gf outv fvs) w ⟨below++[f.pop],tape,out⟩ w') (fun t z W=>PV F W (.iface t z) a∧Mid fp base sb gf below.length t0 s0 (aF sb gf outv fvs) (w.alloc (.cells #[.string (bs op)] 407)) F ⟨below++[f.pop],tape,out⟩ W) rfl (hM.topS hbel) HP (fun W t z hq=>?_) (fun W t z hq=>?_)).mono ?_
  ·have hb:=Mid.box h hq.2;exact⟨aA hb rfl,aD hb⟩
  ·refine(hun W _ hq.1).mono ?_;rintro e w' ⟨rfl,⟨hk,_⟩|⟨hk,rfl⟩⟩
   ·exact absurd hk hz
   ·exact⟨rfl,hq.2.done (Ext.refl _ _)⟩
  ·rintro e w' ⟨rfl,h2⟩;exact mZ.stop rfl hz h2
theorem YK(op:List UInt8)(h:cO fp F base w sb gf cap t0 tv outv s0 fvs ⟨below++[f],tape,out⟩)(hbel:below.length≤15)(hbase:base≤w.heap.size)(hops:f.ops.length≤99000)(hne:∃vs a b,f.ops=vs++[a,b]):
 Calls Tryz.prog 387 #[.agg #[.string (bs op)],.pointer (some ⟨sb,0,none⟩)] w (mZ fp F base sb t0 s0 (aF sb gf outv fvs) w below tape out (aN (.binary op) f)):=by
 obtain⟨vs,a,b,hf⟩:=hne;have hf:f.ops=(vs++[a])++[b]:=by rw[hf];simp
 have hM:=h.mid hbase (.cells #[.string (bs op)] 435);have hf2:f.pop.ops=vs++[a]:=lK hf;have hlen:=hops;rw[hf,List.length_append,List.length_append] at hlen;have hl1:f.pop.ops.length≤100000:=by rw[hf2,List.length_append];omega
 have hl2:f.pop.pop.ops.length≤100000:=by rw[lK hf2];omega
 have hr:aN (.binary op) f=if (eG op a b).2=0 then (f.pop.pop.push (eG op a b).1,0) else (f.pop.pop,(eG op a b).2):=by simp[aN,iF hf,iF hf2]
 have hcl:=UI op a b;have hbi:∀(W:World) (u v:Value),PV F W u a→PV F W v b→(∀k,F k→k<W.heap.size)→aJ a≤200→aJ b≤200→Calls Tryz.prog 388 #[.string (bs op),u,v] W (eH F W (eG op a b)):=fun W u v h1 h2 h3 h4 h5=>LT op F u v a b W h1 h2 h3 (by omega) (by omega)
 generalize eG op a b=r at hbi hr hcl;rw[hr]
 refine(EE w _ sb gf (below.length*6) op r.2 (fun w'=>r.2=0∧Done fp F base sb t0 s0 (aF sb gf outv fvs) w ⟨below++[f.pop.pop.push r.1],tape,out⟩ w') (fun w'=>r.2≠0∧Done fp F base sb t0 s0 (aF sb gf outv fvs) w ⟨below++[f.pop.pop],tape,out⟩ w')
  (fun t z W=>PV F W (.iface t z) b∧aJ b≤200∧Mid fp base sb gf below.length t0 s0 (aF sb gf outv fvs) (w.alloc (.cells #[.string (bs op)] 435)) F ⟨below++[f.pop],tape,out⟩ W)
  (fun t z t' z' W=>PV F W (.iface t z) b∧aJ b≤200∧PV F W (.iface t' z') a∧aJ a≤200∧Mid fp base sb gf below.length t0 s0 (aF sb gf outv fvs) (w.alloc (.cells #[.string (bs op)] 435)) F ⟨below++[f.pop.pop],tape,out⟩ W)
  (fun t z W=>r.2=0∧∃G,Ext F G w.heap.size∧PV G W (.iface t z) r.1∧Mid fp base sb gf below.length t0 s0 (aF sb gf outv fvs) (w.alloc (.cells #[.string (bs op)] 435)) G ⟨below++[f.pop.pop],tape,out⟩ W) rfl (hM.topS hbel) (fun W hS=>?_) (fun W t z hq=>?_) (fun W t z t' z' hq=>?_) (fun W t z t' z' hq=>?_) (fun W t z hq=>?_)).mono ?_
 ·refine((hM.same hS).pop hf (by omega)).mono ?_
  rintro e w' ⟨t,z,he,h1,h2,h3⟩;exact⟨t,z,he,h1,h2,h3⟩
 ·obtain⟨h1,h2,h3⟩:=hq;refine(h3.popK hf2 hl1).mono ?_;rintro e w' ⟨t',z',he,k1,k2,k3,k4⟩;exact⟨t',z',he,h1.keep k4,h2,k1,k2,k3⟩
 ·have hb:=Mid.box h hq.2.2.2.2;exact⟨aA hb rfl,aD hb⟩
 ·obtain⟨h1,h2,h3,h4,h5⟩:=hq;refine(hbi W _ _ h3 h1 (fun k hk=>(h5.apart k hk).1) h4 h2).mono ?_
  rintro e w' ⟨hb,⟨hz,u,rfl,hu⟩|⟨hz,rfl⟩⟩
  ·obtain⟨t1,z1,rfl⟩:=hu.form;exact Or.inl ⟨t1,z1,rfl,hz,Grow F W w',⟨fun _=>Or.inl,fun k hk=>hk.imp_right fun h1=>Nat.le_trans (Nat.le_trans (by simp) h5.1.size) h1.1⟩,hu,h5.grow hb (fun _=>Or.inl) fun _ h=>h⟩
  ·exact Or.inr ⟨rfl,hz,(h5.grow hb (fun _ h=>h) fun _=>Or.inl).done (Ext.refl _ _)⟩
 ·obtain⟨hz,G,hG,h1,h2⟩:=hq;refine(h2.push h1 hcl hl2).mono ?_;rintro e w' ⟨he,h4⟩;exact⟨he,hz,h4.done hG⟩
 ·rintro e w' (⟨rfl,h1,h2⟩|⟨rfl,h1,h2⟩)
  ·exact mZ.ok (if_pos h1) h2
  ·exact mZ.stop (if_neg h1) h1 h2
end
section
variable {fp:Nat→Value} {F G G':Nat→Prop} {base:Nat} {w:World} {sb gf cap:Nat} {t0 tv outv s0:Value} {fvs:List FVal} {below:List aK} {f:aK} {tape:List Int} {out:List (List UInt8)}
theorem cO.more{m:cM}(h:cO fp G base w sb gf cap t0 tv outv s0 fvs m)(hF:∀k,G k→G' k)(hG:∀k,G' k→G k∨(k<w.heap.size∧k∉aF sb gf outv fvs)):cO fp G' base w sb gf cap t0 tv outv s0 fvs m:=
 ⟨h.blk,h.row,h.frs.keep (fun _ _=>rfl) hF fun _ _ _ _=>rfl,h.tape.keep (fun _ _=>rfl) hF,h.out,h.nodup,h.lt,fun k hk=>by
   rcases hG k hk with h1|h1
   ·exact h.apart k h1
   ·exact h1⟩
theorem cO.popMany{vs us:List aI}(h:cO fp G base w sb gf cap t0 tv outv s0 fvs ⟨below++[f],tape,out⟩)(hf:f.ops=vs++us)(hops:f.ops.length≤100000):
 Calls Tryz.prog 377 #[.pointer (some ⟨gf,below.length*6,none⟩),.int .i64 us.length] w fun e w'=>∃v' ys fvs',e=.returned v'∧Kept (aF sb gf outv fvs) w w'∧aF sb gf outv fvs'=aF sb gf outv fvs∧fvs'.length=fvs.length∧cO fp G base w' sb gf cap t0 tv outv s0 fvs' ⟨below++[f.popMany us.length],tape,out⟩∧
  w'.ownsRow w.heap.size 256 1 v' us.length ys∧fR G w' ys us∧(∀a∈us,aJ a≤200)∧∀k,G k→w'.heap[k]?=w.heap[k]?:=by
 obtain⟨fb,v,cur,rfl,hfl,hv,hblk,hcur,hcap,k0,k1,k2,k3,k4,k5⟩:=h.top;rw[←hfl];obtain⟨⟨xs,hown,hxs⟩,hc200⟩:=hv.ops;rw[hf] at hown hxs hc200;obtain⟨xs',ys,rfl,hl1,hl2,hx1,hx2⟩:=hxs.split;rw[hf,List.length_append] at hops;rw[List.length_append] at hown;refine(tO base gf (fb.length*6) vs.length us.length cur v.ov xs' ys w hcur k5 hown hl1 hl2 (nG hx2) (by omega)).mono ?_
 rintro e w' ⟨v',ov',w1,he,hb,p1,rfl,p2,p3⟩;have hpop:(f.popMany us.length).ops=vs:=by simp[aK.popMany,hf]
 have hR1:=h.grow hb (fun _ h=>h) (fun _ h=>Or.inl h)
 have hv1:KA fp G base w1 { v with ov:=ov' } (f.popMany us.length):=by
  have hk:∀b,G b→w1.heap[b]?=w.heap[b]?:=fun b hb'=>hb.block b (h.apart b hb').1
  have hvm:∀k∈v.owns,k<w.heap.size:=fun k hk=>h.lt k (by simp[aF,aS,hk])
  have hv':=hv.keep hk (fun _ h=>h) fun k hm=>hb.block k (hvm k hm)
  refine⟨hv'.fn,hv'.nx,hv'.ln,hv'.sp,hv'.vars,⟨xs',?_,?_⟩,fun b hb'=>hc200 b (List.mem_append_left _ (by rw[hpop] at hb';exact hb'))⟩
  ·rw[hpop];exact aY p2 fun k e=>hb.block k (hvm k (by rw[p3] at e;simp[FVal.owns,e]))
  ·rw[hpop];exact hx1.keep hk
 obtain⟨q1,q2⟩:=hR1.setTop (j:=5) (x:=ov') (v':={ v with ov:=ov' }) (by omega) rfl (by simp[FVal.owns,p3]) hv1
 have hgf:gf<w.heap.size:=aD hcur
 have hkG:∀k,G k→(w1.setCell ⟨gf,fb.length*6+5,none⟩ ov').heap[k]?=w.heap[k]?:=fun k hk=>by
  rw[Below.heap_setCell _ _ _ _ fun e=>(h.apart k hk).2 (by simp[aF,e]),hb.block k (h.apart k hk).1]
 refine⟨v',ys,_,he,(Kept.of_below hb).trans q2 fun x hx=>Or.inl hx,by simp[aF,aS,FVal.owns,p3],by simp,q1,aY p1 fun k hk=>Below.heap_setCell _ _ _ _ ?_,hx2.keep hkG,fun a ha=>hc200 a (List.mem_append_right _ ha),hkG⟩
 have:=bX p1 k hk;show k≠gf
 omega
theorem Mid.popMany{own:List Nat}{w0:World}{n:Nat}{vs us:List aI}(h:Mid fp base sb gf n t0 s0 own w0 G ⟨below++[f],tape,out⟩ w)(hn:n=below.length)(hf:f.ops=vs++us)(hops:f.ops.length≤100000):
 Calls Tryz.prog 377 #[.pointer (some ⟨gf,n*6,none⟩),.int .i64 us.length] w fun e w'=>∃x d,e=.returned (.slice x us.length d)∧∃G',Ext G G' w.heap.size∧PVs G' w' (.slice x us.length d) us∧(∀a∈us,aJ a≤200)∧Mid fp base sb gf n t0 s0 own w0 G' ⟨below++[f.popMany us.length],tape,out⟩ w'∧∀k,G k→w'.heap[k]?=w.heap[k]?:=by
 obtain⟨h1,h2,cap,tv,outv,fvs,h3,h4,h5⟩:=h;subst hn;refine(h4.popMany hf hops).mono ?_;rintro e w' ⟨v',ys,fvs',he,k1,k2,k3,k4,k5,k6,k7,k8⟩;obtain⟨x,d,rfl⟩:=cP k5;refine⟨x,d,he,fun k=>G k∨(Value.slice x us.length d).ownBlock=some k,⟨fun _=>Or.inl,fun k hk=>hk.imp_right fun e=>bX k5 k e⟩,PVs.ofRow k5 (k6.mono fun _=>Or.inl) fun _=>Or.inr,k7,⟨h1.trans k1 h5,Nat.le_trans h2 k1.size,cap,tv,outv,fvs',by rw[k3,h3],k4.more (fun _=>Or.inl) fun k hk=>?_,by rw[k2];exact h5⟩,k8⟩
 rcases hk with hk|hk
 ·exact Or.inl hk
 ·refine Or.inr ⟨cG k5 k hk,fun hm=>?_⟩
  rw[k2] at hm;have:=h4.lt k hm;have:=bX k5 k hk;omega
theorem K7(vs us:List aI)(h:cO fp F base w sb gf cap t0 tv outv s0 fvs ⟨below++[f],tape,out⟩)(hbel:below.length≤15)(hbase:base≤w.heap.size)(hops:f.ops.length≤99000)(hf:f.ops=vs++us):
 Calls Tryz.prog 375 #[.agg #[.int .i64 us.length],.pointer (some ⟨sb,0,none⟩)] w (mZ fp F base sb t0 s0 (aF sb gf outv fvs) w below tape out (aN (.list us.length) f)):=by
 have hM:=h.mid hbase (.cells #[.int .i64 us.length] 404);have hm:f.many us.length=us:=by simp[aK.many,hf]
 have hpop:(f.popMany us.length).ops=vs:=by simp[aK.popMany,hf]
 have hl:(f.popMany us.length).ops.length≤100000:=by rw[hpop];rw[hf,List.length_append] at hops;omega
 have hlu:us.length≤99000:=by rw[hf,List.length_append] at hops;omega
 have hr:aN (.list us.length) f=if aJ (aU us)≤200 then ((f.popMany us.length).push (aU us),0) else (f.popMany us.length,6):=by
  simp only[aN,hm,gO,if_true];by_cases hc:200<aJ (aU us)
  ·rw[if_pos hc];exact(if_neg (by omega)).symm
  ·rw[if_neg hc];exact(if_pos (by omega)).symm
 rw[hr]
 refine(MJ w _ sb gf (below.length*6) us.length 6 (fun w'=>aJ (aU us)≤200∧Done fp F base sb t0 s0 (aF sb gf outv fvs) w ⟨below++[(f.popMany us.length).push (aU us)],tape,out⟩ w') (fun w'=>¬aJ (aU us)≤200∧Done fp F base sb t0 s0 (aF sb gf outv fvs) w ⟨below++[f.popMany us.length],tape,out⟩ w')
  (fun x d W=>∃G,Ext F G w.heap.size∧PVs G W (.slice x us.length d) us∧(∀a∈us,aJ a≤200)∧Mid fp base sb gf below.length t0 s0 (aF sb gf outv fvs) (w.alloc (.cells #[.int .i64 us.length] 404)) G ⟨below++[f.popMany us.length],tape,out⟩ W)
  (fun t z W=>aJ (aU us)≤200∧∃G,Ext F G w.heap.size∧PV G W (.iface t z) (aU us)∧Mid fp base sb gf below.length t0 s0 (aF sb gf outv fvs) (w.alloc (.cells #[.int .i64 us.length] 404)) G ⟨below++[f.popMany us.length],tape,out⟩ W) rfl (hM.topS hbel) (fun W hS=>?_) (fun W x d hq=>?_) (fun W t z hq=>?_)).mono ?_
 ·refine((hM.same hS).popMany rfl hf (by omega)).mono ?_
  rintro e w' ⟨x,d,he,G,h1,h2,h3,h4,_⟩;exact⟨x,d,he,G,h1.le (by rw[hS.heap];simp),h2,h3,h4⟩
 ·obtain⟨G,h1,h2,h3,h4⟩:=hq
  have hsum:∀l:List aI,(∀a∈l,aJ a≤200)→(l.map aJ).sum≤200*l.length:=fun l=>by
   induction l with
   |nil=>simp
   |cons a l ih=>intro hh;have e1:=hh a (by simp);have e2:=ih fun b hb=>hh b (by simp[hb]);simp;omega
  have hcc:aJ (aU us)≤1000000000:=by
   have:=hsum us h3;rw[eN];simp[aU];omega
  refine(IF G x d us W h2 hcc).mono ?_;rintro e w' ⟨rfl,⟨hz,rfl⟩|⟨hz,rfl⟩⟩
  ·exact Or.inl ⟨_,_,rfl,hz,G,h1,PV.lst h2,h4⟩
  ·exact Or.inr ⟨rfl,by omega,h4.done h1⟩
 ·obtain⟨hz,G,hG,h1,h2⟩:=hq;refine(h2.push h1 hz hl).mono ?_;rintro e w' ⟨he,h4⟩;exact⟨he,hz,h4.done hG⟩
 ·rintro e w' (⟨rfl,h1,h2⟩|⟨rfl,h1,h2⟩)
  ·exact mZ.ok (if_pos h1) h2
  ·exact mZ.stop (if_neg h1) (by decide) h2
end
end Go.Proofs.YtblbkfdhjfppkaaGreatDoor
