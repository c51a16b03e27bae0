/- Contracts of the program: a variable is changed: what it does. -/
import Derived.Test.YtblbkfdhjfppkaaGreatDoorP18
set_option maxRecDepth 100000
set_option maxHeartbeats 4000000
namespace Go.Proofs.YtblbkfdhjfppkaaGreatDoor
open Hs
open Go.RowKit
theorem O7.ofRow{F:Nat→Prop}{w:World}{base:Nat}{v:Value}{xs:List Value}{l:List aI}(h:w.ownsRow base 256 1 v l.length xs)(hr:fR F w xs l):O7 F w v l:=by
 rcases h.2 with ⟨r1,r2⟩|⟨g,c,cur,r1,r2,r3,r4,r5,r6,r7⟩
 ·exact Or.inl ⟨List.length_eq_zero_iff.1 r2,none,0,by rw[r1]⟩
 ·refine Or.inr ⟨g,0,c,r1,r4,aD r3,fun i hi=>?_⟩
  obtain⟨u,e1,e2⟩:=hr.2 i hi;refine⟨u,aA r3 ?_,e2⟩;rw[←r7,List.getElem?_take,if_pos (by omega)] at e1
  simpa using e1
section
variable {fp:Nat→Value} {F:Nat→Prop} {base:Nat} {w:World} {sb gf cap:Nat} {t0 tv outv s0:Value} {fvs:List FVal} {below:List aK} {f:aK} {tape:List Int} {out:List (List UInt8)}
theorem cO.popManyR{fb:List FVal}{v:FVal}{vs us:List aI}(h:cO fp F base w sb gf cap t0 tv outv s0 (fb++[v]) ⟨below++[f],tape,out⟩)(hf:f.ops=vs++us)(hops:f.ops.length≤100000):
 Calls Tryz.prog 377 #[.pointer (some ⟨gf,fb.length*6,none⟩),.int .i64 us.length] w fun e w'=>∃x y ov',e=.returned (.slice x us.length y)∧ov'.ownBlock=v.ov.ownBlock∧O7 F w' (.slice x us.length y) us∧(∀a∈us,aJ a≤200)∧
  cO fp F base w' sb gf cap t0 tv outv s0 (fb++[{ v with ov:=ov' }]) ⟨below++[f.popMany us.length],tape,out⟩∧Kept (aF sb gf outv (fb++[v])) w w'∧∀k,k<w.heap.size→k≠gf→w'.heap[k]?=w.heap[k]?:=by
 obtain⟨fb',v0,cur,e,hfl,hv,hblk,hcur,hcap,k0,k1,k2,k3,k4,k5⟩:=h.top;obtain⟨rfl,e2⟩:=List.append_inj' e rfl;cases e2;obtain⟨⟨xs,hown,hxs⟩,hc200⟩:=hv.ops;rw[hf] at hown hxs hc200;obtain⟨xs',ys,rfl,hl1,hl2,hx1,hx2⟩:=hxs.split;rw[hf,List.length_append] at hops;rw[List.length_append] at hown;refine(tO base gf (fb.length*6) vs.length us.length cur v.ov xs' ys w hcur k5 hown hl1 hl2 (nG hx2) (by omega)).mono ?_
 rintro e w' ⟨v',ov',w1,he,hb,p1,rfl,p2,p3⟩;have hpop:(f.popMany us.length).ops=vs:=by simp[aK.popMany,hf]
 have hR1:=h.grow hb (fun _ h=>h) (fun _ h=>Or.inl h)
 have hv1:KA fp F base w1 { v with ov:=ov' } (f.popMany us.length):=by
  have hk:∀b,F b→w1.heap[b]?=w.heap[b]?:=fun b hb'=>hb.block b (h.apart b hb').1
  have hvm:∀k∈v.owns,k<w.heap.size:=fun k hk=>h.lt k (by simp[aF,aS,hk])
  have hv':=hv.keep hk (fun _ h=>h) fun k hm=>hb.block k (hvm k hm)
  refine⟨hv'.fn,hv'.nx,hv'.ln,hv'.sp,hv'.vars,⟨xs',?_,?_⟩,fun b hb'=>hc200 b (List.mem_append_left _ (by rw[hpop] at hb';exact hb'))⟩
  ·rw[hpop];exact aY p2 fun k e=>hb.block k (hvm k (by rw[p3] at e;simp[FVal.owns,e]))
  ·rw[hpop];exact hx1.keep hk
 obtain⟨q1,q2⟩:=hR1.setTop (j:=5) (x:=ov') (v':={ v with ov:=ov' }) (by omega) rfl (by simp[FVal.owns,p3]) hv1
 have hgf:gf<w.heap.size:=aD hcur
 have hkG:∀k,F k→(w1.setCell ⟨gf,fb.length*6+5,none⟩ ov').heap[k]?=w.heap[k]?:=fun k hk=>by
  rw[Below.heap_setCell _ _ _ _ fun e=>(h.apart k hk).2 (by simp[aF,e]),hb.block k (h.apart k hk).1]
 obtain⟨x,d,rfl⟩:=cP p1;refine⟨x,d,ov',he,p3,O7.ofRow (base:=w.heap.size) (xs:=ys) (aY p1 fun k hk=>Below.heap_setCell _ _ _ _ ?_) (hx2.keep hkG),fun a ha=>hc200 a (List.mem_append_right _ ha),q1,(Kept.of_below hb).trans q2 fun x hx=>Or.inl hx,fun k hk hn=>by rw[Below.heap_setCell _ _ _ _ hn,hb.block k hk]⟩
 have:=bX p1 k hk;show k≠gf
 omega
theorem cO.assigned{fb:List FVal}{v:FVal}{g n c d:Nat}{u:Value}{a:aI}(h:cO fp F base w sb gf cap t0 tv outv s0 (fb++[v]) ⟨below++[f],tape,out⟩)(hvv:v.vv=.slice (some ⟨g,0,none⟩) n c)(hu:PV F w u a)(hca:aJ a≤200):
 cO fp F base (w.setCell ⟨g,d,none⟩ u) sb gf cap t0 tv outv s0 (fb++[v]) ⟨below++[{ f with vars:=f.vars.set d a }],tape,out⟩∧Kept (aF sb gf outv (fb++[v])) w (w.setCell ⟨g,d,none⟩ u):=by
 obtain⟨fb',v0,cur,e,hfl,hv,hblk,hcur,hcap,k0,k1,k2,k3,k4,k5⟩:=h.top;obtain⟨rfl,e2⟩:=List.append_inj' e rfl;cases e2;have hgo:v.vv.ownBlock=some g:=by rw[hvv];rfl
 have hgm:g∈v.owns:=by simp[FVal.owns,hgo]
 have hvm:∀k∈v.owns,k∈aF sb gf outv (fb++[v]):=fun k hk=>by simp[aF,aS,hk]
 have hgv:gf∉v.owns:=fun hm=>by
  have:=(List.nodup_cons.1 (List.nodup_cons.1 h.nodup).2).1;exact this (by simp[aS,hm])
 have hnv:v.owns.Nodup:=by
  have h1:=h.nodup;have:aF sb gf outv (fb++[v])=(sb::gf::(outv.ownBlock.toList++aS fb))++v.owns:=by simp[aF,aS]
  rw[this] at h1;exact(List.nodup_append.1 h1).2.1
 have hk:∀k,k≠g→(w.setCell ⟨g,d,none⟩ u).heap[k]?=w.heap[k]?:=fun k hk=>Below.heap_setCell _ _ _ _ hk
 have hFk:∀b,F b→(w.setCell ⟨g,d,none⟩ u).heap[b]?=w.heap[b]?:=fun b hb=>hk b fun e=>(h.apart b hb).2 (hvm b (by rw[e];exact hgm))
 have hovg:∀k,v.ov.ownBlock=some k→k≠g:=fun k hk e=>by
  unfold FVal.owns at hnv;rw[hk,hgo,e] at hnv;simp at hnv
 have hrow:=h.row;rw[show (fb++[v]).length=fb.length+1 by simp] at hrow
 obtain⟨⟨xs,hown,hxs⟩,hc200⟩:=hv.vars;refine⟨h.step (G:=F) (by simp) (fun k _ _ h3=>hk k fun e=>h3 (by rw[e];exact hgm)) (aY hrow fun k e=>hk k ?_) ?_ (fun k hm=>⟨Nat.lt_of_lt_of_le (h.lt k (hvm k hm)) (by simp),Or.inl hm⟩) hnv (fun _ h=>h) (fun _ h=>Or.inl h),⟨rfl,rfl,rfl,by simp,fun k _ hn=>hk k fun e=>hn (hvm k (by rw[e];exact hgm))⟩⟩
 ·cases e;exact fun e=>hgv (by have e':gf=g:=e;rw[e'];exact hgm)
 ·refine⟨hv.fn.keep hFk fun _ h=>h,hv.nx,hv.ln,eO.keep hFk (fun _ h=>h) hv.sp,⟨⟨xs.set d u,?_,(fR.set hxs d hu).keep hFk⟩,fun b hb=>?_⟩,hv.ops.keep hFk (fun _ h=>h) fun k e=>hk k (hovg k e)⟩
  ·rcases hown.2 with ⟨r1,r2⟩|⟨g',c',row,r1,r2,r3,r4,r5,r6,r7⟩
   ·rw[r1] at hvv;cases hvv
   ·rw[hvv] at r1;cases r1;refine⟨by simp[hown.1],Or.inr ⟨g,c,_,?_,r2,aQ r3,by simpa using r4,r5,by simpa using r6,?_⟩⟩
    ·show v.vv=_
     rw[hvv];simp
    ·show List.take ((f.vars.set d a).length*1) _=_
     rw[Array.toList_setIfInBounds,List.take_set,List.length_set,r7]
  ·rcases List.mem_or_eq_of_mem_set hb with h1|h1
   ·exact hc200 b h1
   ·rw[h1];exact hca
def qD(fp:Nat→Value)(F:Nat→Prop)(base sb gf cap:Nat)(t0 tv outv s0:Value)(fb:List FVal)(v:FVal)(below:List aK)(f:aK)(tape:List Int)(out:List (List UInt8))(w0:World)(W:World):Prop:=
 ∃ov',ov'.ownBlock=v.ov.ownBlock∧cO fp F base W sb gf cap t0 tv outv s0 (fb++[{ v with ov:=ov' }]) ⟨below++[f],tape,out⟩∧Kept (aF sb gf outv (fb++[v])) w0 W∧∀k,k<w0.heap.size→k≠gf→W.heap[k]?=w0.heap[k]?
theorem qD.grow{G:Nat→Prop}{fb:List FVal}{v:FVal}{w0 W W':World}(h:qD fp F base sb gf cap t0 tv outv s0 fb v below f tape out w0 W)(hb:Below W.heap.size W W')(hF:∀k,F k→G k)(hG:∀k,G k→F k∨(W.heap.size≤k∧k<W'.heap.size)):qD fp G base sb gf cap t0 tv outv s0 fb v below f tape out w0 W':=by
 obtain⟨ov',h1,h2,h3,h4⟩:=h;exact⟨ov',h1,h2.grow hb hF hG,h3.trans (Kept.of_below (own:=[]) hb) (fun x hx=>by simp at hx),fun k hk hn=>by rw[hb.block k (Nat.lt_of_lt_of_le hk h3.size),h4 k hk hn]⟩
theorem qD.reads{fb:List FVal}{v:FVal}{w0 W:World}{g n c d m:Nat}{x:Value}(h:qD fp F base sb gf cap t0 tv outv s0 fb v below f tape out w0 W)(hgw:gf<w.heap.size)(hw0:w0=w.alloc (.cells #[.int .i64 d,.int .i64 m] 445))(hvv:v.vv=.slice (some ⟨g,0,none⟩) n c)(hg:g<w.heap.size)(hgg:g≠gf)(hx:w0.cell? ⟨g,d,none⟩=some x):
 EJ w gf (fb.length*6) d m g n c W∧W.cell? ⟨g,d,none⟩=some x∧∀u,EJ w gf (fb.length*6) d m g n c (W.setCell ⟨g,d,none⟩ u):=by
 obtain⟨ov',h1,h2,h3,h4⟩:=h;obtain⟨fb',v0,cur,e,hfl,hv,hblk,hcur,hcap,k0,k1,k2,k3,k4,k5⟩:=h2.top;obtain⟨rfl,e2⟩:=List.append_inj' e rfl;have e3:v0={ v with ov:=ov' }:=by simpa using e2.symm
 subst e3
 have hbox:W.heap[w.heap.size]?=some (.cells #[.int .i64 d,.int .i64 m] 445 (0,0)):=by
  rw[h4 _ (by rw[hw0];simp) (by omega),hw0];exact aR _ _ rfl _
 have hgl:W.heap[g]?=w0.heap[g]?:=h4 g (by rw[hw0];simp;omega) hgg
 have hS:∀W':World,W'.heap[w.heap.size]?=W.heap[w.heap.size]?→W'.heap[gf]?=W.heap[gf]?→EJ w gf (fb.length*6) d m g n c W':=fun W' e1 e2=>by
  refine⟨aA (e1.trans hbox) rfl,aA (e1.trans hbox) rfl,aA (e2.trans hcur) ?_⟩;rw[k4,←hvv]
 exact⟨hS W rfl rfl,by rw[World.cell?_of_block hgl];exact hx,fun u=>hS _ (Below.heap_setCell _ _ _ _ (by show w.heap.size≠g;omega)) (Below.heap_setCell _ _ _ _ (fun e=>hgg e.symm))⟩
theorem qD.done{G:Nat→Prop}{fb:List FVal}{v:FVal}{W:World}{ob:Obj}{f':aK}(h:qD fp G base sb gf cap t0 tv outv s0 fb v below f' tape out (w.alloc ob) W)(hF:Ext F G w.heap.size):Done fp F base sb t0 s0 (aF sb gf outv (fb++[v])) w ⟨below++[f'],tape,out⟩ W:=by
 obtain⟨ov',h1,h2,h3,h4⟩:=h;exact⟨(Kept.of_below (own:=aF sb gf outv (fb++[v])) ((Below.refl _ w).alloc (Nat.le_refl _) ob)).trans h3 fun _ h=>Or.inl h,G,gf,cap,tv,outv,_,hF,h2,fun k hk=>Or.inl (by simpa [aF,aS,FVal.owns,h1] using hk)⟩
theorem YL(d:Nat)(vs us:List aI)(b:aI)(h:cO fp F base w sb gf cap t0 tv outv s0 fvs ⟨below++[f],tape,out⟩)(hbel:below.length≤15)(hbase:base≤w.heap.size)(hops:f.ops.length≤99000)(hf:f.ops=vs++us++[b])(hd:d<f.vars.length):
 Calls Tryz.prog 404 #[.agg #[.int .i64 d,.int .i64 us.length],.pointer (some ⟨sb,0,none⟩)] w (mZ fp F base sb t0 s0 (aF sb gf outv fvs) w below tape out (aN (.assign d us.length) f)):=by
 have hM:=h.mid hbase (.cells #[.int .i64 d,.int .i64 us.length] 445);obtain⟨fb,v,cur,rfl,hfl, -⟩:=h.top;have hgw:gf<w.heap.size:=h.lt gf (by simp[aF])
 have h0:=h.grow ((Below.refl _ w).alloc (Nat.le_refl _) (.cells #[.int .i64 d,.int .i64 us.length] 445)) (fun _ h=>h) (fun _ h=>Or.inl h)
 have hT:=hM.topS hbel;rw[←hfl] at hT;obtain⟨fb',v0,cur,e, -,hv,hblk,hcur,hcap,k0,k1,k2,k3,k4,k5⟩:=h0.top;obtain⟨rfl,e2⟩:=List.append_inj' e rfl;cases e2;generalize hw0:w.alloc (.cells #[.int .i64 d,.int .i64 us.length] 445)=w0 at h0 hT hv hblk hcur;obtain⟨⟨xs,hown,hxs⟩,hc200⟩:=hv.vars
 have hgv:v.vv.ownBlock≠some gf:=fun e=>by
  have:=(List.nodup_cons.1 (List.nodup_cons.1 h.nodup).2).1;exact this (by simp[aS,FVal.owns,e])
 obtain⟨u,hu1,hu2⟩:=hxs.2 d hd;obtain⟨ta,za,rfl⟩:=hu2.form;have hpo:f.pop.ops=vs++us:=lK (by rw[hf])
 have hmany:f.pop.many us.length=us:=by simp[aK.many,hpo]
 have hlast:f.last=b:=iF (by rw[hf])
 have hlen:vs.length+us.length+1≤99000:=by rw[hf] at hops;simp at hops;omega
 have hgd:f.vars[d]?.getD bK=f.vars[d]:=by rw[List.getElem?_eq_getElem hd];rfl
 obtain⟨r,hr⟩:∃r,r=mI f.vars[d] us b:=⟨_,rfl⟩
 have hres:aN (.assign d us.length) f=if r.2=0 then ({ f.pop.popMany us.length with vars:=f.vars.set d r.1 },0) else (f.pop.popMany us.length,r.2):=by
  simp only[aN,hmany,hlast,hgd,←hr]
 have hrc:r.2=0→aJ r.1≤200:=fun h1=>by rw[hr] at h1 ⊢;exact ML _ h1
 rw[hres];rcases hown.2 with ⟨r1,r2⟩|⟨g,c,row,r1,hg1,hrow,hcp,hcm,hcs,htk⟩
 ·omega
 have hgo:v.vv.ownBlock=some g:=by rw[r1];rfl
 have hgg:g≠gf:=fun e=>hgv (by rw[hgo,e])
 have hgl:g<w.heap.size:=h.lt g (by simp[aF,aS,FVal.owns,hgo])
 have hrd:row[d]?=some (.iface ta za):=by
  rw[←htk,List.getElem?_take,if_pos (by omega)] at hu1
  simpa using hu1
 have hx:w0.cell? ⟨g,d,none⟩=some (.iface ta za):=aA hrow hrd
 have hFlt:∀{W:World} {f':aK},qD fp F base sb gf cap t0 tv outv s0 fb v below f' tape out w0 W→∀k,F k→k<W.heap.size:=fun hq k hk=>by
  obtain⟨_,_,h2,_⟩:=hq;exact(h2.apart k hk).1
 have hold:∀{W:World} {f':aK},qD fp F base sb gf cap t0 tv outv s0 fb v below f' tape out w0 W→PV F W (.iface ta za) f.vars[d]:=fun hq=>by
  obtain⟨_,_,_,h3,h4⟩:=hq;exact hu2.keep fun k hk=>h4 k (by rw[←hw0];exact Nat.lt_of_lt_of_le (h.apart k hk).1 (by simp)) fun e=>(h.apart k hk).2 (by simp[aF,e])
 refine(EF w w0 sb gf (fb.length*6) d us.length g f.vars.length c r.2 ta za hd
  (fun w'=>r.2=0∧Done fp F base sb t0 s0 (aF sb gf outv (fb++[v])) w ⟨below++[{ f.pop.popMany us.length with vars:=f.vars.set d r.1 }],tape,out⟩ w')
  (fun w'=>r.2≠0∧Done fp F base sb t0 s0 (aF sb gf outv (fb++[v])) w ⟨below++[f.pop.popMany us.length],tape,out⟩ w')
  (fun t z W=>(PV F W (.iface t z) b∧aJ b≤200)∧qD fp F base sb gf cap t0 tv outv s0 fb v below f.pop tape out w0 W)
  (fun t z x y W=>((PV F W (.iface t z) b∧aJ b≤200)∧O7 F W (.slice x us.length y) us)∧qD fp F base sb gf cap t0 tv outv s0 fb v below (f.pop.popMany us.length) tape out w0 W)
  (fun t z W=>r.2=0∧∃G,Ext F G w.heap.size∧PV G W (.iface t z) r.1∧qD fp G base sb gf cap t0 tv outv s0 fb v below (f.pop.popMany us.length) tape out w0 W)
  hw0 hT (fun W hS=>?_) (fun W t z hq=>?_) (fun W W' t z hq hS=>?_) (fun W t z x y hq=>?_) (fun W t z x y hq=>?_) (fun W t z hq=>?_) (fun W t z hq=>?_)).mono ?_
 ·refine((h0.grow hS.below (fun _ h=>h) (fun _ h=>Or.inl h)).popR (vs:=vs++us) (a:=b) (by rw[hf]) (by omega)).mono ?_
  rintro e w' ⟨t,z,ov',he,h1,h2,h3,h4,h5,h6⟩;exact⟨t,z,he,⟨h1,h2⟩,ov',h3,h4,(Kept.of_below (own:=aF sb gf outv (fb++[v])) hS.below).trans h5 fun _ h=>Or.inl h,fun k _ hk=>by rw[h6 k hk,hS.heap]⟩
 ·obtain⟨_,hq⟩:=hq;obtain⟨q1,q2,_⟩:=hq.reads hgw hw0.symm r1 hgl hgg hx;exact⟨q1,q2⟩
 ·obtain⟨⟨p1,p2⟩,ov',h1,h2,h3,h4⟩:=hq;refine((h2.grow hS.below (fun _ h=>h) (fun _ h=>Or.inl h)).popManyR (vs:=vs) (us:=us) hpo (by rw[hpo,List.length_append];omega)).mono ?_
  rintro e w' ⟨x,y,ov2,he,q1,q2,q3,q4,q5,q6⟩;have hown2:aF sb gf outv (fb++[{ v with ov:=ov' }])=aF sb gf outv (fb++[v]):=by simp[aF,aS,FVal.owns,h1]
  rw[hown2] at q5;have hsz:W.heap.size=W'.heap.size:=by rw[hS.heap]
  refine⟨x,y,he,⟨⟨p1.keep fun k hk=>?_,p2⟩,q2⟩,ov2,by rw[q1,h1],q4,(h3.trans (Kept.of_below (own:=[]) hS.below) (fun x hx=>by simp at hx)).trans q5 fun _ h=>Or.inl h,fun k hk hn=>by rw[q6 k (by rw[←hsz];exact Nat.lt_of_lt_of_le hk h3.size) hn,hS.heap,h4 k hk hn]⟩
  rw[q6 k (by rw[←hsz];exact(h2.apart k hk).1) (fun e=>(h2.apart k hk).2 (by simp[aF,e])),hS.heap]
 ·obtain⟨_,hq⟩:=hq;obtain⟨q1,q2,_⟩:=hq.reads hgw hw0.symm r1 hgl hgg hx;exact⟨q1,q2⟩
 ·obtain⟨⟨⟨p1,p2⟩,p3⟩,hq⟩:=hq;refine(LR F us _ _ _ f.vars[d] b W p3 (hold hq) p1 (hFlt hq) (Nat.le_trans (hc200 _ (List.getElem_mem hd)) (by omega)) (by omega) (by omega)).mono ?_
  rintro e w' ⟨hb,⟨e1,u,rfl,e3⟩|⟨e1,e2⟩⟩
  ·rw[←hr] at e1 e3;obtain⟨t1,z1,rfl⟩:=e3.form;exact Or.inl ⟨t1,z1,rfl,e1,Grow F W w',⟨fun k hk=>Or.inl hk,fun k hk=>hk.imp_right fun h1=>Nat.le_trans (by obtain⟨_,_,_,h3,_⟩:=hq;rw[←hw0] at h3;exact Nat.le_trans (by simp) h3.size) h1.1⟩,e3,hq.grow hb (fun k hk=>Or.inl hk) (fun k hk=>hk)⟩
  ·rw[←hr] at e1 e2;subst hw0;exact Or.inr ⟨e2,e1,(hq.grow hb (fun _ h=>h) (fun _ h=>Or.inl h)).done (Ext.refl _ _)⟩
 ·obtain⟨_,G,hG,_,hq⟩:=hq;obtain⟨q1,q2,q3⟩:=hq.reads hgw hw0.symm r1 hgl hgg hx;obtain⟨_,_,_,_,h4⟩:=hq;have hgl':W.heap[g]?=some (.cells row 256 (0,0)):=by rw[h4 g (by rw[←hw0];simp;omega) hgg];exact hrow
  exact⟨q1,⟨_,q2⟩,aE hgl',aD hgl',q3 _⟩
 ·obtain⟨hz,G,hG,p1,ov',h1,h2,h3,h4⟩:=hq;obtain⟨q1,q2⟩:=h2.assigned (d:=d) (a:=r.1) (u:=.iface t z) r1 p1 (hrc hz);have hown2:aF sb gf outv (fb++[{ v with ov:=ov' }])=aF sb gf outv (fb++[v]):=by simp[aF,aS,FVal.owns,h1]
  rw[hown2] at q2;subst hw0;refine⟨hz,((Kept.of_below (own:=aF sb gf outv (fb++[v])) ((Below.refl _ w).alloc (Nat.le_refl _) _)).trans h3 fun _ h=>Or.inl h).trans q2 fun _ h=>Or.inl h,G,gf,cap,tv,outv,_,hG,q1,fun k hk=>Or.inl (by rw[hown2] at hk;exact hk)⟩
 ·rintro e w' (⟨rfl,h1,h2⟩|⟨rfl,h1,h2⟩)
  ·exact mZ.ok (if_pos h1) h2
  ·exact mZ.stop (if_neg h1) h1 h2
end
theorem ID(w w0:World)(sb fa fj base n c:Nat)(x:Option Addr)(tx:List UInt8)(hn:n<50)(P:World→Prop)(Q:TypeId→Value→World→Prop)(R:World→Prop)(xs:List Value)(hW:w.alloc (.cells #[] 448)=w0)
 (HT:Hid (∀W,aW w0 W→Calls Tryz.prog 158 #[.pointer (some ⟨sb,0,none⟩)] W fun e w'=>e=.returned (.pointer (some ⟨fa,fj,none⟩))∧aW w0 w'))
 (HP:Hid (∀W,aW w0 W→Calls Tryz.prog 171 #[.pointer (some ⟨fa,fj,none⟩)] W fun e w'=>∃t z,e=.returned (.iface t z)∧Q t z w'))
 (HQ:Hid (∀W t z,Q t z W→W.cell? ⟨sb,3,none⟩=some (.slice x n c)∧sb<W.heap.size))
 (HV:Hid (∀W W' t z,Q t z W→aW W W'→Calls Tryz.prog 409 #[.iface t z] W' fun e w'=>e=.returned (.string (bs tx))∧R w'))
 (HR:Hid (∀W,R W→W.cell? ⟨sb,3,none⟩=some (.slice x n c)∧sb<W.heap.size∧base≤W.heap.size))
 (HO:Hid (∀W,R W→W.ownsRow base 9 1 (.slice x n c) n xs))
 (HG:Hid (∀W,R W→∀w5:World,(W.alloc (.cells #[.string (bs tx)] 9)).grownBy w5 (Value.slice x n c).ownBlock→(∃u,w5.cell? ⟨sb,3,none⟩=some u)∧w5.frozen? ⟨sb,3,none⟩=false∧sb<w5.heap.size))
 (HN:Hid (∀W,R W→∀g5 cap5 (w5:World),w5.ownsRow base 9 1 (.slice (some ⟨g5,0,none⟩) (n+1) cap5) (n+1) (xs++[.string (bs tx)])→(W.alloc (.cells #[.string (bs tx)] 9)).grownBy w5 (Value.slice x n c).ownBlock→((Value.slice x n c).ownBlock=some g5∨W.heap.size+1≤g5)→P (w5.setCell ⟨sb,3,none⟩ (.slice (some ⟨g5,0,none⟩) (n+1) cap5)))):
 Calls Tryz.prog 408 #[.agg #[],.pointer (some ⟨sb,0,none⟩)] w fun e w'=>e=.returned (.tuple #[])∧P w':=by
 obtain⟨i0,hi,hz0,hz1,hz2⟩:=info_parts AW;have HW:=aB hW;have hne:¬(n:Int)=50:=by omega
 clear hW;go_enter Tryz.func408,Tryz.ntmps408;go_wp2_with fail;rw[HW.out];refine(HT.out _ (aW.refl _)).mono ?_;rintro e w1 ⟨rfl,hs1⟩;go_wp2_with fail;refine(HP.out _ hs1).mono ?_;rintro e w2 ⟨t,z,rfl,h2⟩;obtain⟨c1,l1⟩:=HQ.out _ _ _ h2;have HH2:=aB h2;clear h2;go_wp2_with fail;go_region_law (first|(go_simp;go_at_call 409;refine(HV.out _ _ _ _ HH2.out (aW.drew _)).mono ?_;rintro e w3 ⟨rfl,h3⟩;have HH3:=aB h3;have hq:=HR.out _ h3;have b1:=hq.1;have b2:=hq.2.1;have b3:=hq.2.2;clear hq h3)|(refine step_append_lies _ (by rfl) _ _ 60 (by rfl) base 9 i0 _ 1 16 Tryz.underlying60 hi hz0 hz1 hz2 rfl (by decide) (.slice x n c) n xs (by rfl) ((HO.out _ HH3.out).alloc _) ⟨w3.heap.size,0,none⟩ 1 1 [.string (bs tx)] (by rfl) (by rfl) (EY w3 _) (LW _) (by decide) (by unfold maxLen;omega) (by omega) (by simp;omega) (w3.heap.size+1) (by simp) ?_;intro g5 cap5 w5 hown5 hgrow5 hat5 hg5;have hz:=HG.out _ HH3.out w5 hgrow5;obtain⟨⟨u5,y1⟩,y2,y3⟩:=hz))
 all_goals
  go_wp2_with fail;go_end0;exact⟨rfl,HN.out _ HH3.out _ _ _ hown5 hgrow5 (hat5.imp_right fun e=>Nat.le_of_eq e.symm)⟩
theorem IE(w w0:World)(sb fa fj c:Nat)(x:Option Addr)(P:World→Prop)(Q:TypeId→Value→World→Prop)(hW:w.alloc (.cells #[] 448)=w0)
 (HT:Hid (∀W,aW w0 W→Calls Tryz.prog 158 #[.pointer (some ⟨sb,0,none⟩)] W fun e w'=>e=.returned (.pointer (some ⟨fa,fj,none⟩))∧aW w0 w'))
 (HP:Hid (∀W,aW w0 W→Calls Tryz.prog 171 #[.pointer (some ⟨fa,fj,none⟩)] W fun e w'=>∃t z,e=.returned (.iface t z)∧Q t z w'))
 (HQ:Hid (∀W t z,Q t z W→W.cell? ⟨sb,3,none⟩=some (.slice x 50 c)∧sb<W.heap.size))
 (HN:Hid (∀W t z,Q t z W→P W)):
 Calls Tryz.prog 408 #[.agg #[],.pointer (some ⟨sb,0,none⟩)] w fun e w'=>e=fE 8∧P w':=by
 have HW:=aB hW;clear hW;go_enter Tryz.func408,Tryz.ntmps408;go_wp2_with fail;rw[HW.out];refine(HT.out _ (aW.refl _)).mono ?_;rintro e w1 ⟨rfl,hs1⟩;go_wp2_with fail;refine(HP.out _ hs1).mono ?_;rintro e w2 ⟨t,z,rfl,h2⟩;obtain⟨c1,l1⟩:=HQ.out _ _ _ h2;have HH2:=aB h2;clear h2;go_wp2_with fail;exact⟨rfl,rfl,HN.out _ _ _ HH2.out⟩
def yG(own:List Nat)(w:World):Prop:=∀W,Kept own w W→kI W
theorem yG.step{own own':List Nat}{w w':World}(h:yG own w)(hk:Kept own w w')(ho:∀x∈own',x∈own∨w.heap.size≤x):yG own' w':=fun W hW=>h W (hk.trans hW ho)
section
variable {fp:Nat→Value} {F:Nat→Prop} {base:Nat} {w:World} {sb gf cap:Nat} {t0 tv outv s0:Value} {fvs:List FVal} {below:List aK} {f:aK} {tape:List Int} {out:List (List UInt8)}
theorem cO.printed{m:cM}{w5:World}{ob:Obj}{g5 cap5:Nat}{tx:List UInt8}(h:cO fp F base w sb gf cap t0 tv outv s0 fvs m)
 (p2:w5.ownsRow base 9 1 (.slice (some ⟨g5,0,none⟩) (m.out.length+1) cap5) (m.out.length+1) (lA m.out++[.string (bs tx)])) (hg:(w.alloc ob).grownBy w5 outv.ownBlock) (hat:outv.ownBlock=some g5∨w.heap.size+1≤g5):
 cO fp F base (w5.setCell ⟨sb,3,none⟩ (.slice (some ⟨g5,0,none⟩) (m.out.length+1) cap5)) sb gf cap t0 tv (.slice (some ⟨g5,0,none⟩) (m.out.length+1) cap5) s0 fvs ⟨m.frames,m.tape,m.out++[tx]⟩∧Kept (aF sb gf outv fvs) w (w5.setCell ⟨sb,3,none⟩ (.slice (some ⟨g5,0,none⟩) (m.out.length+1) cap5))∧
  ∀k∈aF sb gf (.slice (some ⟨g5,0,none⟩) (m.out.length+1) cap5) fvs,k∈aF sb gf outv fvs∨w.heap.size≤k:=by
 obtain⟨n1,n2⟩:=List.nodup_cons.1 h.nodup;obtain⟨n3,n4⟩:=List.nodup_cons.1 n2;obtain⟨n5,n6,n7⟩:=List.nodup_append.1 n4
 have hk:∀k,k<w.heap.size→some k≠outv.ownBlock→w5.heap[k]?=w.heap[k]?:=fun k h1 h2=>by
  rw[hg.block k (by simp;omega) h2,Below.heap_alloc _ _ _ h1]
 have hk2:∀k,k<w.heap.size→some k≠outv.ownBlock→k≠sb→(w5.setCell ⟨sb,3,none⟩ (.slice (some ⟨g5,0,none⟩) (m.out.length+1) cap5)).heap[k]?=w.heap[k]?:=fun k h1 h2 h3=>by
  rw[Below.heap_setCell _ _ _ _ h3,hk k h1 h2]
 have hsbl:sb<w.heap.size:=h.lt sb (by simp[aF])
 have hsbo:some sb≠outv.ownBlock:=fun e=>n1 (by simp[←e])
 have hgfo:some gf≠outv.ownBlock:=fun e=>n3 (by simp[←e])
 have hgs:gf≠sb:=fun e=>n1 (by simp[e])
 have hblk:w5.heap[sb]?=_:=(hk sb hsbl hsbo).trans h.blk
 have hown:∀k∈aS fvs,k<w.heap.size∧some k≠outv.ownBlock∧k≠sb∧k≠gf:=fun k hm=>
  ⟨h.lt k (by simp[aF,hm]),fun e=>n7 k (by simp[←e]) k hm rfl,fun e=>n1 (by simp[←e,hm]),fun e=>n3 (by simp[←e,hm])⟩
 have hg5:g5≠sb∧g5≠gf∧g5∉aS fvs:=by
  rcases hat with e|e
  ·exact⟨fun e2=>hsbo (by rw[e,e2]),fun e2=>hgfo (by rw[e,e2]),fun hm=>(hown g5 hm).2.1 e.symm⟩
  ·have hgl:gf<w.heap.size:=h.lt gf (by simp[aF])
   exact⟨by omega,by omega,fun hm=>by have:=(hown g5 hm).1;omega⟩
 have hFk:∀b,F b→(w5.setCell ⟨sb,3,none⟩ (.slice (some ⟨g5,0,none⟩) (m.out.length+1) cap5)).heap[b]?=w.heap[b]?:=fun b hb=>
  hk2 b (h.apart b hb).1 (fun e=>(h.apart b hb).2 (by simp[aF,←e])) fun e=>(h.apart b hb).2 (by simp[aF,e])
 have hsz:w.heap.size≤w5.heap.size:=Nat.le_trans (by simp) hg.size
 have hob:(Value.slice (some ⟨g5,0,none⟩) (m.out.length+1) cap5).ownBlock=some g5:=rfl;have hg5l:g5<w5.heap.size:=(p2.lt g5 hob).2;refine⟨⟨aQ hblk,aY h.row fun k e=>?_,h.frs.keep hFk (fun _ h=>h) fun v hv k hkm=>?_,h.tape.keep hFk (fun _ h=>h),?_,?_,fun k hkm=>?_,fun k hkF=>?_⟩,⟨hg.os.trans rfl,hg.tape.trans rfl,hg.output.trans rfl,by simpa using hsz,fun k h1 h2=>?_⟩,fun k hkm=>?_⟩
 ·cases e;exact hk2 gf (h.lt gf (by simp[aF])) hgfo hgs
 ·have hm:k∈aS fvs:=List.mem_flatMap.2 ⟨v,hv,hkm⟩;obtain⟨q1,q2,q3,_⟩:=hown k hm;exact hk2 k q1 q2 q3
 ·rw[List.length_append];have e:lA (m.out++[tx])=lA m.out++[.string (bs tx)]:=by simp[lA]
  rw[e];exact aY p2 fun k hk'=>Below.heap_setCell _ _ _ _ (by cases hk';exact hg5.1)
 ·unfold aF;rw[hob];refine List.nodup_cons.2 ⟨fun hm=>?_,List.nodup_cons.2 ⟨fun hm=>?_,List.nodup_append.2 ⟨by simp,n6,fun a ha b hb e=>?_⟩⟩⟩
  ·rcases List.mem_cons.1 hm with e|hm
   ·exact hgs e.symm
   ·rcases List.mem_append.1 hm with hm|hm
    ·simp at hm;exact hg5.1 hm.symm
    ·exact(hown sb hm).2.2.1 rfl
  ·rcases List.mem_append.1 hm with hm|hm
   ·simp at hm;exact hg5.2.1 hm.symm
   ·exact(hown gf hm).2.2.2 rfl
  ·simp at ha;subst e;exact hg5.2.2 (by rw[←ha];exact hb)
 ·have:(w5.setCell ⟨sb,3,none⟩ (.slice (some ⟨g5,0,none⟩) (m.out.length+1) cap5)).heap.size=w5.heap.size:=by simp
  rw[this];unfold aF at hkm;rw[hob] at hkm;simp only[Option.toList_some,List.mem_cons,List.mem_append,List.not_mem_nil,or_false] at hkm;rcases hkm with rfl|rfl|rfl|hm
  ·exact Nat.lt_of_lt_of_le hsbl hsz
  ·exact Nat.lt_of_lt_of_le (h.lt _ (by simp[aF])) hsz
  ·exact hg5l
  ·exact Nat.lt_of_lt_of_le (hown k hm).1 hsz
 ·obtain⟨h1,h2⟩:=h.apart k hkF;refine⟨Nat.lt_of_lt_of_le h1 (by simpa using hsz),fun hm=>?_⟩
  unfold aF at hm;rw[hob] at hm;simp only[Option.toList_some,List.mem_cons,List.mem_append,List.not_mem_nil,or_false] at hm;rcases hm with rfl|rfl|rfl|hm
  ·exact h2 (by simp[aF])
  ·exact h2 (by simp[aF])
  ·rcases hat with e|e
   ·exact h2 (by simp[aF,e])
   ·omega
  ·exact h2 (by simp[aF,hm])
 ·exact hk2 k h1 (fun e=>h2 (by simp[aF,←e])) fun e=>h2 (by simp[aF,e])
 ·unfold aF at hkm;rw[hob] at hkm;simp only[Option.toList_some,List.mem_cons,List.mem_append,List.not_mem_nil,or_false] at hkm;rcases hkm with rfl|rfl|rfl|hm
  ·exact Or.inl (by simp[aF])
  ·exact Or.inl (by simp[aF])
  ·rcases hat with e|e
   ·exact Or.inl (by simp[aF,e])
   ·exact Or.inr (by omega)
  ·exact Or.inl (by simp[aF,hm])
theorem ZT(tab:List eJ){vs:List aI}{b:aI}(h:cO fp F base w sb gf cap t0 tv outv s0 fvs ⟨below++[f],tape,out⟩)(hp:yG (aF sb gf outv fvs) w)(hbel:below.length≤15)(hbase:base≤w.heap.size)(hops:f.ops.length≤99000)(hf:f.ops=vs++[b])(hol:out.length≤50):
 Calls Tryz.prog 408 #[.agg #[],.pointer (some ⟨sb,0,none⟩)] w (R6 fp F base sb t0 s0 (aF sb gf outv fvs) w (cC tab .print below f tape out)):=by
 have hM:=h.mid hbase (.cells #[] 448);obtain⟨fb,v,cur,rfl,hfl, -⟩:=h.top;have h0:=h.grow ((Below.refl _ w).alloc (Nat.le_refl _) (.cells #[] 448)) (fun _ h=>h) (fun _ h=>Or.inl h)
 have hT:=hM.topS hbel;rw[←hfl] at hT;have hK0:Kept (aF sb gf outv (fb++[v])) w (w.alloc (.cells #[] 448)):=Kept.of_below ((Below.refl _ w).alloc (Nat.le_refl _) _);generalize hw0:w.alloc (.cells #[] 448)=w0 at h0 hT hK0;obtain⟨x,c,rfl⟩:=cP h.out;have hlast:f.last=b:=iF hf
 have HP:Hid (∀W,aW w0 W→Calls Tryz.prog 171 #[.pointer (some ⟨gf,fb.length*6,none⟩)] W fun e w'=>∃t z,e=.returned (.iface t z)∧(PV F w' (.iface t z) b∧aJ b≤200∧qD fp F base sb gf cap t0 tv (.slice x out.length c) s0 fb v below f.pop tape out w0 w')):=fun W hS=>by
  refine((h0.grow hS.below (fun _ h=>h) (fun _ h=>Or.inl h)).popR hf (by omega)).mono ?_
  rintro e w' ⟨t,z,ov',he,h1,h2,h3,h4,h5,h6⟩;exact⟨t,z,he,h1,h2,ov',h3,h4,(Kept.of_below (own:=aF sb gf (.slice x out.length c) (fb++[v])) hS.below).trans h5 fun _ h=>Or.inl h,fun k _ hk=>by rw[h6 k hk,hS.heap]⟩
 have hrd:∀{W:World} {f':aK},qD fp F base sb gf cap t0 tv (.slice x out.length c) s0 fb v below f' tape out w0 W→W.cell? ⟨sb,3,none⟩=some (.slice x out.length c)∧sb<W.heap.size∧base≤W.heap.size∧Kept (aF sb gf (.slice x out.length c) (fb++[v])) w W:=fun hq=>by
  obtain⟨ov',_,h2,h3,_⟩:=hq;exact⟨aA h2.blk rfl,aD h2.blk,Nat.le_trans hbase (Nat.le_trans hK0.size h3.size),hK0.trans h3 fun _ h=>Or.inl h⟩
 by_cases h50:out.length=50
 ·rw[h50] at hrd HP;refine(IE w w0 sb gf (fb.length*6) c x (fun w'=>Done fp F base sb t0 s0 (aF sb gf (.slice x out.length c) (fb++[v])) w ⟨below++[f.pop],tape,out⟩ w') (fun t z W=>PV F W (.iface t z) b∧aJ b≤200∧qD fp F base sb gf cap t0 tv (.slice x 50 c) s0 fb v below f.pop tape out w0 W) hw0 hT HP (fun W t z hq=>?_) (fun W t z hq=>?_)).mono ?_
  ·obtain⟨q1,q2,_⟩:=hrd hq.2.2;exact⟨q1,q2⟩
  ·subst hw0;rw[h50];exact hq.2.2.done (Ext.refl _ _)
  ·rintro e w' ⟨rfl,h2⟩;have e1:cC tab .print below f tape out=(⟨below++[f.pop],tape,out⟩,8):=by simp[cC,h50]
   rw[e1];exact⟨Or.inr ⟨show (8:Nat)≠0 by decide,rfl⟩,h2⟩
 ·refine(ID w w0 sb gf (fb.length*6) base out.length c x (jC b) (by omega) (fun w'=>Done fp F base sb t0 s0 (aF sb gf (.slice x out.length c) (fb++[v])) w ⟨below++[f.pop],tape,out++[jC b]⟩ w') (fun t z W=>PV F W (.iface t z) b∧aJ b≤200∧qD fp F base sb gf cap t0 tv (.slice x out.length c) s0 fb v below f.pop tape out w0 W) (fun W=>qD fp F base sb gf cap t0 tv (.slice x out.length c) s0 fb v below f.pop tape out w0 W) (lA out) hw0 hT HP (fun W t z hq=>?_) (fun W W' t z hq hS=>?_) (fun W hq=>?_) (fun W hq=>?_) (fun W hq=>?_) (fun W hq=>?_)).mono ?_
  ·obtain⟨q1,q2,_⟩:=hrd hq.2.2;exact⟨q1,q2⟩
  ·obtain⟨p1,p2,hq⟩:=hq;have hq':=hq.grow hS.below (fun _ h=>h) (fun _ h=>Or.inl h)
   have hFlt:∀k,F k→k<W'.heap.size:=fun k hk=>by obtain⟨_,_,h2,_⟩:=hq';exact(h2.apart k hk).1
   refine(VF F _ b W' (p1.keep fun k _=>by rw[hS.heap]) hFlt (hp W' (hrd hq').2.2.2) (by omega)).mono ?_
   rintro e w' ⟨he,hb⟩;exact⟨he,hq'.grow hb (fun _ h=>h) (fun _ h=>Or.inl h)⟩
  ·obtain⟨q1,q2,q3,_⟩:=hrd hq;exact⟨q1,q2,q3⟩
  ·obtain⟨_,_,h2,_⟩:=hq;exact h2.out
  ·intro w5 hg;obtain⟨ov',_,h2,_⟩:=hq;have hsl:=aD h2.blk;have hsbo:some sb≠(Value.slice x out.length c).ownBlock:=fun e=>(List.nodup_cons.1 h2.nodup).1 (by simp[←e])
   have e5:w5.heap[sb]?=_:=(hg.block sb (by simp;omega) hsbo).trans ((Below.heap_alloc _ _ _ hsl).trans h2.blk)
   exact⟨⟨_,aA e5 rfl⟩,aE e5,aD e5⟩
  ·intro g5 cap5 w5 p2 hg hat;obtain⟨ov',h1,h2,h3,h4⟩:=hq;obtain⟨q1,q2,q3⟩:=h2.printed (tx:=jC b) p2 hg hat;have hown2:aF sb gf (.slice x out.length c) (fb++[{ v with ov:=ov' }])=aF sb gf (.slice x out.length c) (fb++[v]):=by simp[aF,aS,FVal.owns,h1]
   rw[hown2] at q2 q3;have hk3:=hK0.trans h3 fun _ h=>Or.inl h
   exact⟨hk3.trans q2 fun _ h=>Or.inl h,F,gf,cap,tv,_,_,Ext.refl _ _,q1,fun k hk=>(q3 k hk).imp_right fun h=>Nat.le_trans hk3.size h⟩
  ·rintro e w' ⟨rfl,h2⟩;have e1:cC tab .print below f tape out=(⟨below++[f.pop],tape,out++[jC b]⟩,0):=by simp[cC,h50,hlast]
   rw[e1];exact⟨Or.inl ⟨rfl,rfl⟩,h2⟩
end
end Go.Proofs.YtblbkfdhjfppkaaGreatDoor
