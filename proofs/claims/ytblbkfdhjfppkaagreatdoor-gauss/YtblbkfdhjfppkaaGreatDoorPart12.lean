/- Contracts of the program: a call begins: the walk. -/
import Derived.Test.YtblbkfdhjfppkaaGreatDoorPart11
import Derived.Deep.RegionHeld
import Derived.Test.YtblbkfdhjfppkaaGreatDoorPart10
import Derived.Test.YtblbkfdhjfppkaaGreatDoorShelf
import Derived.Test.YtblbkfdhjfppkaaGreatDoorPart08
set_option maxRecDepth 100000
set_option maxHeartbeats 4000000
namespace Go.Proofs.YtblbkfdhjfppkaaGreatDoor
open Hs
open Go.RowKit
theorem FI:(Tryz.prog.info? 195).map (fun i=>(i.zero,i.size,i.bytes))=some (some (.agg #[.pointer none,.int .i64 0,.int .i64 0,.pointer none,.slice none 0 0,.slice none 0 0]),6,80):=by kernel_rfl
theorem QQ(w:World)(a0 a1 a2 a3 a4 a5:Value):∀j u,([a0,a1,a2,a3,a4,a5]:List Value)[j]?=some u→(w.alloc (.cells #[a0,a1,a2,a3,a4,a5] 195)).cell? ((⟨w.heap.size,0,none⟩:Addr).add j)=some u:=by
 intro j u hj;exact World.news_of_block (cs:= #[a0,a1,a2,a3,a4,a5]) (aR _ _ rfl _) j u hj
theorem VT(x y:Option Addr)(c d:Nat):∀u∈([.pointer x,.int .i64 0,.int .i64 0,.pointer none,.slice y c d,.slice none 0 0]:List Value),u.oneCell'=true:=by
 intro u hu;simp at hu;rcases hu with rfl|rfl|rfl|rfl|rfl<;>rfl
theorem OL(w w0:World)(sb fa fj gf cap cn base n:Nat)(fpv:Option Addr)(P:World→Prop)(Q:Option Addr→Nat→List Value→World→Prop)(hW:w.alloc (.cells #[.pointer fpv,.int .i64 cn] 442)=w0)(hn:n≤15)
 (HT:Hid (∀W,aW w0 W→Calls Tryz.prog 158 #[.pointer (some ⟨sb,0,none⟩)] W fun e w'=>e=.returned (.pointer (some ⟨fa,fj,none⟩))∧aW w0 w'))
 (HP:Hid (∀W,aW w0 W→Calls Tryz.prog 377 #[.pointer (some ⟨fa,fj,none⟩),.int .i64 cn] W fun e w'=>∃x d xs,e=.returned (.slice x cn d)∧Q x d xs w'))
 (HB:Hid (∀W x d xs,Q x d xs W→W.cell? ⟨sb,1,none⟩=some (.slice (some ⟨gf,0,none⟩) n cap)∧W.cell? ⟨w.heap.size,0,none⟩=some (.pointer fpv)∧w.heap.size<W.heap.size∧sb<W.heap.size∧base≤W.heap.size))
 (HO:Hid (∀W x d xs,Q x d xs W→W.drew.ownsRow base 195 6 (.slice (some ⟨gf,0,none⟩) n cap) n xs))
 (HG:Hid (∀W x d xs,Q x d xs W→∀w5:World,(W.drew.alloc (.cells #[.pointer fpv,.int .i64 0,.int .i64 0,.pointer none,.slice x cn d,.slice none 0 0] 195)).grownBy w5 (some gf)→(∃u,w5.cell? ⟨sb,1,none⟩=some u)∧w5.frozen? ⟨sb,1,none⟩=false∧sb<w5.heap.size))
 (HN:Hid (∀W x d xs,Q x d xs W→∀g5 cap5 (w5:World),w5.ownsRow base 195 6 (.slice (some ⟨g5,0,none⟩) (n+1) cap5) (n+1) (xs++[.pointer fpv,.int .i64 0,.int .i64 0,.pointer none,.slice x cn d,.slice none 0 0])→(W.drew.alloc (.cells #[.pointer fpv,.int .i64 0,.int .i64 0,.pointer none,.slice x cn d,.slice none 0 0] 195)).grownBy w5 (some gf)→(some gf=some g5∨g5=W.heap.size+1)→P (w5.setCell ⟨sb,1,none⟩ (.slice (some ⟨g5,0,none⟩) (n+1) cap5)))):
 Calls Tryz.prog 402 #[.agg #[.pointer fpv,.int .i64 cn],.pointer (some ⟨sb,0,none⟩)] w fun e w'=>e=.returned (.tuple #[])∧P w':=by
 obtain⟨i0,hi,hz0,hz1,hz2⟩:=info_parts FI;have hbox:(w.alloc (.cells #[.pointer fpv,.int .i64 cn] 442)).heap[w.heap.size]?=some (.cells #[.pointer fpv,.int .i64 cn] 442 (0,0)):=aR _ _ rfl _;rw[hW] at hbox;have HW:=aB hW;have HC0:=aB (aA (i:=1) hbox rfl);have c0:=HC0.out;have hlt:=aD hbox;have e0:((n:Int)==16)=false:=by simp;omega
 clear hW hbox;go_enter Tryz.func402,Tryz.ntmps402;go_wp2_with fail;rw[HW.out];go_region_law (go_simp;first|(go_at_call 158;refine(HT.out _ (aW.drew _)).mono ?_;rintro e w1 ⟨rfl,hs1⟩;have d1:=cQ hs1.heap HC0.out;have d2:=jI hs1.heap hlt)|(go_at_call 377;refine(HP.out _ hs1).mono ?_;rintro e w2 ⟨x,d,xs,rfl,h2⟩;have hq:=HB.out _ _ _ _ h2;obtain⟨y1,y2,y3,y4,y5⟩:=hq))
 all_goals
  go_wp2_with fail;go_region_law (refine step_append_lies _ (by rfl) _ _ 106 (by rfl) base 195 i0 _ 6 80 Tryz.underlying106 hi hz0 hz1 hz2 rfl (by decide) (.slice (some ⟨gf,0,none⟩) n cap) n xs (by rfl) ((HO.out _ _ _ _ h2).alloc _) ⟨w2.heap.size,0,none⟩ 1 1 [.pointer fpv,.int .i64 0,.int .i64 0,.pointer none,.slice x cn d,.slice none 0 0] (by rfl) (by rfl) (QQ w2.drew _ _ _ _ _ _) (VT _ _ _ _) (by decide) (by unfold maxLen;omega) (by omega) (by simp;omega) (w2.heap.size+1) (by simp) ?_;intro g5 cap5 w5 hown5 hgrow5 hat5 hg5;have hz:=HG.out _ _ _ _ h2 w5 hgrow5;obtain⟨⟨u5,z1⟩,z2,z3⟩:=hz)
  all_goals
   go_wp2_with fail;go_end0;exact⟨rfl,HN.out _ _ _ _ h2 _ _ _ hown5 hgrow5 hat5⟩
theorem IJ{w:World}{b b':Nat}{e:TypeId}{size:Nat}{v:Value}{n:Nat}{xs:List Value}(h:w.ownsRow b' e size v n xs)(hb:b≤b'):w.ownsRow b e size v n xs:=by
 rcases h with ⟨h1,h2|⟨g,c,row,r1,r2,r3⟩⟩
 ·exact⟨h1,Or.inl h2⟩
 ·exact⟨h1,Or.inr ⟨g,c,row,r1,Nat.le_trans hb r2,r3⟩⟩
section
variable {fp:Nat→Value} {F:Nat→Prop} {base:Nat} {w:World} {sb gf cap:Nat} {t0 tv outv s0:Value} {fvs:List FVal} {below:List aK} {f:aK} {tape:List Int} {out:List (List UInt8)}
theorem cO.called{m:cM}{fn:eJ}{us:List aI}{ys:List Value}{x fpv:Option Addr}{d g5 cap5 B:Nat}{w5:World}(h:cO fp F base w sb gf cap t0 tv outv s0 fvs m)(hfn:YN fp F w (.pointer fpv) fn)(hB:base≤B)(hBown:∀k∈aF sb gf outv fvs,k<B)(hBF:∀k,F k→k<B)
 (hys:w.ownsRow B 256 1 (.slice x us.length d) us.length ys) (hru:fR F w ys us) (hcu:∀a∈us,aJ a≤200)
 (hown5:w5.ownsRow base 195 6 (.slice (some ⟨g5,0,none⟩) (fvs.length+1) cap5) (fvs.length+1) (fS fvs++[.pointer fpv,.int .i64 0,.int .i64 0,.pointer none,.slice x us.length d,.slice none 0 0]))
 (hg:(w.drew.alloc (.cells #[.pointer fpv,.int .i64 0,.int .i64 0,.pointer none,.slice x us.length d,.slice none 0 0] 195)).grownBy w5 (some gf)) (hat:some gf=some g5∨g5=w.heap.size+1):
 cO fp F base (w5.setCell ⟨sb,1,none⟩ (.slice (some ⟨g5,0,none⟩) (fvs.length+1) cap5)) sb g5 cap5 t0 tv outv s0 (fvs++[⟨.pointer fpv,.int .i64 0,.int .i64 0,.pointer none,.slice x us.length d,.slice none 0 0⟩]) ⟨m.frames++[⟨fn,0,0,[],us,[]⟩],m.tape,m.out⟩∧
  Kept (aF sb gf outv fvs) w (w5.setCell ⟨sb,1,none⟩ (.slice (some ⟨g5,0,none⟩) (fvs.length+1) cap5)):=by
 generalize hV:Value.slice (some ⟨g5,0,none⟩) (fvs.length+1) cap5=V at*;have hn1:=List.nodup_cons.1 h.nodup;have hn2:=List.nodup_cons.1 hn1.2;have hsg:sb≠gf:=fun e=>hn1.1 (by simp[e])
 have hsl:=aD h.blk
 have hg5:g5≠sb:=by
  rcases hat with e|e
  ·cases e;exact fun e=>hsg e.symm
  ·omega
 have hgl5:g5<w5.heap.size:=by
  subst hV;exact cG hown5 g5 rfl
 have hk5:∀k,k<w.heap.size→k≠gf→w5.heap[k]?=w.heap[k]?:=fun k h1 h2=>by
  rw[hg.block k (by simp;omega) (fun e=>h2 (by cases e;rfl)),Below.heap_alloc _ _ _ (by exact h1)];rfl
 have hk:∀k,k<w.heap.size→k≠gf→k≠sb→(w5.setCell ⟨sb,1,none⟩ V).heap[k]?=w.heap[k]?:=fun k h1 h2 h3=>by
  rw[Below.heap_setCell _ _ _ _ h3,hk5 k h1 h2]
 have hFk:∀b,F b→(w5.setCell ⟨sb,1,none⟩ V).heap[b]?=w.heap[b]?:=fun b hb=>hk b (h.apart b hb).1 (fun e=>(h.apart b hb).2 (by simp[aF,e])) (fun e=>(h.apart b hb).2 (by simp[aF,e]))
 have hin:∀k,k∈outv.ownBlock.toList++aS fvs→(w5.setCell ⟨sb,1,none⟩ V).heap[k]?=w.heap[k]?:=fun k hm=>hk k (h.lt k (by unfold aF;exact List.mem_cons_of_mem _ (List.mem_cons_of_mem _ hm))) (fun e=>hn2.1 (by rw[←e];exact hm)) (fun e=>hn1.1 (by rw[←e];exact List.mem_cons_of_mem _ hm))
 have hsz:w.heap.size≤(w5.setCell ⟨sb,1,none⟩ V).heap.size:=Nat.le_trans (by simp) (Nat.le_trans hg.size (by simp))
 have hxk:∀k,(Value.slice x us.length d).ownBlock=some k→B≤k∧k<w.heap.size:=fun k e=>⟨bX hys k e,cG hys k e⟩
 have hxne:∀k,(Value.slice x us.length d).ownBlock=some k→k≠gf∧k≠sb:=fun k e=>by
  have h1:=hBown gf (by simp[aF])
  have h2:=hBown sb (by simp[aF])
  have:=(hxk k e).1;omega
 have hownv:(⟨.pointer fpv,.int .i64 0,.int .i64 0,.pointer none,.slice x us.length d,.slice none 0 0⟩:FVal).owns=(Value.slice x us.length d).ownBlock.toList:=by simp[FVal.owns,show (Value.slice none 0 0).ownBlock=none from rfl]
 have hall:aF sb g5 outv (fvs++[⟨.pointer fpv,.int .i64 0,.int .i64 0,.pointer none,.slice x us.length d,.slice none 0 0⟩])=sb::g5::((outv.ownBlock.toList++aS fvs)++(Value.slice x us.length d).ownBlock.toList):=by simp[aF,aS,hownv]
 have hlen:(fvs++[(⟨.pointer fpv,.int .i64 0,.int .i64 0,.pointer none,.slice x us.length d,.slice none 0 0⟩:FVal)]).length=fvs.length+1:=by simp
 refine⟨⟨?_,?_,?_,h.tape.keep hFk fun _ h=>h,aY h.out fun k hk'=>hin k (by simp[hk']),?_,?_,?_⟩,?_⟩
 ·rw[hlen,aQ (show w5.heap[sb]?=_ from (hk5 sb hsl hsg).trans h.blk),hV];rfl
 ·rw[hlen,iU,hV];subst hV;exact aY hown5 fun k hk'=>Below.heap_setCell _ _ _ _ (by cases hk';exact hg5)
 ·refine(h.frs.keep hFk (fun _ h=>h) fun v hv k hk'=>hin k (List.mem_append_right _ (List.mem_flatMap.2 ⟨v,hv,hk'⟩))).snoc ⟨hfn.keep hFk fun _ h=>h,rfl,rfl,rfl,⟨⟨ys,?_,hru.keep hFk⟩,hcu⟩,⟨⟨[],World.ownsRow_nil _ _ _ _,fR.nil _ _⟩,fun _ h=>by simp at h⟩⟩
  exact aY (IJ hys hB) fun k e=>hk k (hxk k e).2 (hxne k e).1 (hxne k e).2
 ·rw[hall];refine List.nodup_cons.2 ⟨?_,List.nodup_cons.2 ⟨?_,List.nodup_append.2 ⟨hn2.2,by cases (Value.slice x us.length d).ownBlock<;>simp,?_⟩⟩⟩
  ·intro hm;simp only[List.mem_cons,List.mem_append] at hm;rcases hm with e|(e|e)|e
   ·exact hg5 e.symm
   ·exact hn1.1 (by simp[e])
   ·exact hn1.1 (by simp[e])
   ·exact(hxne sb (by simpa using e)).2 rfl
  ·intro hm;rcases hat with e|e
   ·cases e;rcases List.mem_append.1 hm with hm|hm
    ·exact hn2.1 hm
    ·exact(hxne gf (by simpa using hm)).1 rfl
   ·rcases List.mem_append.1 hm with hm|hm
    ·have:=h.lt g5 (by unfold aF;exact List.mem_cons_of_mem _ (List.mem_cons_of_mem _ hm));omega
    ·have:=(hxk g5 (by simpa using hm)).2;omega
  ·intro a ha b hb e;subst e;have h1:=hBown a (by unfold aF;exact List.mem_cons_of_mem _ (List.mem_cons_of_mem _ ha))
   have h2:=(hxk a (by simpa using hb)).1
   omega
 ·intro k hm;rw[hall] at hm;have h5:w5.heap.size≤(w5.setCell ⟨sb,1,none⟩ V).heap.size:=by simp
  simp only[List.mem_cons,List.mem_append] at hm;rcases hm with e|e|(e|e)|e
  ·rw[e];omega
  ·rw[e];omega
  ·have:=h.lt k (by simp[aF,e]);omega
  ·have:=h.lt k (by simp[aF,e]);omega
  ·have:=(hxk k (by simpa using e)).2;omega
 ·intro k hk';obtain⟨a1,a2⟩:=h.apart k hk';refine⟨by omega,fun hm=>?_⟩
  rw[hall] at hm;simp only[List.mem_cons,List.mem_append] at hm;rcases hm with e|e|(e|e)|e
  ·exact a2 (by simp[aF,e])
  ·rcases hat with e2|e2
   ·cases e2;exact a2 (by simp[aF,e])
   ·omega
  ·exact a2 (by simp[aF,e])
  ·exact a2 (by simp[aF,e])
  ·have:=(hxk k (by simpa using e)).1;have:=hBF k hk';omega
 ·exact⟨hg.os.trans rfl,hg.tape.trans rfl,hg.output.trans rfl,hsz,fun k h1 hn=>hk k h1 (fun e=>hn (by simp[aF,e])) (fun e=>hn (by simp[aF,e]))⟩
def U5(fp:Nat→Value)(F:Nat→Prop)(base sb gf cap:Nat)(t0 tv outv s0:Value)(fvs:List FVal)(below:List aK)(f:aK)(tape:List Int)(out:List (List UInt8))(w0:World)(us:List aI)(x:Option Addr)(d:Nat)(xs:List Value)(W:World):Prop:=
 ∃fvs' ys,xs=fS fvs'∧Kept (aF sb gf outv fvs) w0 W∧aF sb gf outv fvs'=aF sb gf outv fvs∧fvs'.length=fvs.length∧cO fp F base W sb gf cap t0 tv outv s0 fvs' ⟨below++[f.popMany us.length],tape,out⟩∧
  W.ownsRow w0.heap.size 256 1 (.slice x us.length d) us.length ys∧fR F W ys us∧(∀a∈us,aJ a≤200)∧∀k,F k→W.heap[k]?=w0.heap[k]?
theorem N5(tab:List eJ)(k:Nat)(fn:eJ)(vs us:List aI)(h:cO fp F base w sb gf cap t0 tv outv s0 fvs ⟨below++[f],tape,out⟩)(hbel:below.length≤15)(hbase:base≤w.heap.size)(hops:f.ops.length≤99000)(hf:f.ops=vs++us)(htab:kH fp F w tab)(hk:tab[k]?=some fn):
 Calls Tryz.prog 402 #[.agg #[fp k,.int .i64 us.length],.pointer (some ⟨sb,0,none⟩)] w (R6 fp F base sb t0 s0 (aF sb gf outv fvs) w (cC tab (.call k us.length) below f tape out)):=by
 have hfn:=htab k fn hk;have hfp:∃q,fp k=.pointer q:=by obtain⟨fb,gc,cp,cur,e,_⟩:=hfn;exact⟨_,e⟩
 obtain⟨fpv,hfp⟩:=hfp;rw[hfp] at hfn ⊢
 have hM:=h.mid hbase (.cells #[.pointer fpv,.int .i64 us.length] 442);have hb0:Below w.heap.size w (w.alloc (.cells #[.pointer fpv,.int .i64 us.length] 442)):=(Below.refl _ w).alloc (Nat.le_refl _) _;have h0:=h.grow hb0 (fun _ h=>h) (fun _ h=>Or.inl h)
 have hcnt:fvs.length=below.length+1:=by rw[h.count];simp
 have hbox:(w.alloc (.cells #[.pointer fpv,.int .i64 us.length] 442)).heap[w.heap.size]?=some (.cells #[.pointer fpv,.int .i64 us.length] 442 (0,0)):=aR _ _ rfl _;have hm:f.many us.length=us:=by simp[aK.many,hf]
 have hr:cC tab (.call k us.length) below f tape out=if below.length+1=16 then (⟨below++[f.popMany us.length],tape,out⟩,5) else (⟨(below++[f.popMany us.length])++[⟨fn,0,0,[],us,[]⟩],tape,out⟩,0):=by
  simp[cC,hm,hk]
 rw[hr];have hwsz:w.heap.size<(w.alloc (.cells #[.pointer fpv,.int .i64 us.length] 442)).heap.size:=aD hbox;generalize hw0:w.alloc (.cells #[.pointer fpv,.int .i64 us.length] 442)=w0 at*
 have HP:∀W,aW w0 W→Calls Tryz.prog 377 #[.pointer (some ⟨gf,below.length*6,none⟩),.int .i64 us.length] W fun e w'=>∃x d xs,e=.returned (.slice x us.length d)∧U5 fp F base sb gf cap t0 tv outv s0 fvs below f tape out w0 us x d xs w':=fun W hS=>by
  refine((h0.grow hS.below (fun _ h=>h) (fun _ h=>Or.inl h)).popMany hf (by omega)).mono ?_
  rintro e w' ⟨v',ys,fvs',he,k1,k2,k3,k4,k5,k6,k7,k8⟩;rw[hS.heap] at k5;obtain⟨x,d,rfl⟩:=cP k5;exact⟨x,d,_,he,fvs',ys,rfl,(Kept.of_below (own:=aF sb gf outv fvs) hS.below).trans k1 fun _ h=>Or.inl h,k2,k3,k4,k5,k6,k7,fun j hj=>by rw[k8 j hj,hS.heap]⟩
 have HK:∀{W W'},Kept (aF sb gf outv fvs) w0 W→Kept (aF sb gf outv fvs) W W'→Kept (aF sb gf outv fvs) w W':=fun a b=>((Kept.of_below (own:=aF sb gf outv fvs) hb0).trans a fun _ h=>Or.inl h).trans b fun _ h=>Or.inl h
 by_cases hd16:below.length+1=16
 ·rw[if_pos hd16];refine(OM w w0 sb gf (below.length*6) gf cap us.length fpv (fun w'=>Done fp F base sb t0 s0 (aF sb gf outv fvs) w ⟨below++[f.popMany us.length],tape,out⟩ w') (fun x d W=>∃xs,U5 fp F base sb gf cap t0 tv outv s0 fvs below f tape out w0 us x d xs W) hw0 (hM.topS hbel) (fun W hS=>?_) (fun W x d hq=>?_)).mono ?_
  ·refine(HP W hS).mono ?_;rintro e w' ⟨x,d,xs,he,hq⟩;exact⟨x,d,he,xs,hq⟩
  ·obtain⟨xs,fvs',ys,_,k1,k2,k3,k4,_⟩:=hq;have hblk:=k4.blk;rw[k3,hcnt,hd16] at hblk;exact⟨aA hblk rfl,HK k1 (Kept.refl _ _),F,gf,cap,tv,outv,fvs',Ext.refl _ _,k4,fun j hj=>Or.inl (by rw[←k2];exact hj)⟩
  ·rintro e w' ⟨rfl,h2⟩;exact⟨Or.inr ⟨show (5:Nat)≠0 by decide,rfl⟩,h2⟩
 ·rw[if_neg hd16];refine(OL w w0 sb gf (below.length*6) gf cap us.length base fvs.length fpv (fun w'=>Done fp F base sb t0 s0 (aF sb gf outv fvs) w ⟨(below++[f.popMany us.length])++[⟨fn,0,0,[],us,[]⟩],tape,out⟩ w') (U5 fp F base sb gf cap t0 tv outv s0 fvs below f tape out w0 us) hw0 (by omega) (hM.topS hbel) HP (fun W x d xs hq=>?_) (fun W x d xs hq=>?_) (fun W x d xs hq=>?_) (fun W x d xs hq=>?_)).mono ?_
  ·obtain⟨fvs',ys,_,k1,k2,k3,k4,k5,k6,k7,k8⟩:=hq;have hblk:=k4.blk;rw[k3] at hblk;have hb2:W.heap[w.heap.size]?=_:=(k1.block w.heap.size hwsz (fun hm=>Nat.lt_irrefl _ (h.lt _ hm))).trans hbox
   exact⟨aA hblk rfl,aA hb2 rfl,aD hb2,aD hblk,by have:=k1.size;omega⟩
  ·obtain⟨fvs',ys,rfl,k1,k2,k3,k4,k5,k6,k7,k8⟩:=hq;have:=k4.row;rw[k3] at this;exact aY this fun _ _=>rfl
  ·obtain⟨fvs',ys,_,k1,k2,k3,k4,k5,k6,k7,k8⟩:=hq;intro w5 hg;have hsl:=aD k4.blk;have hsg:sb≠gf:=fun e=>(List.nodup_cons.1 k4.nodup).1 (by simp[e])
   have hb5:w5.heap[sb]?=_:=(hg.block sb (by simp;omega) (fun e=>hsg (by cases e;rfl))).trans ((Below.heap_alloc _ _ _ (by exact hsl)).trans k4.blk)
   exact⟨⟨_,aA hb5 rfl⟩,aE hb5,aD hb5⟩
  ·obtain⟨fvs',ys,rfl,k1,k2,k3,k4,k5,k6,k7,k8⟩:=hq;intro g5 cap5 w5 hown5 hg hat;rw[←k3] at hown5 ⊢
   have hFn:YN fp F W (.pointer fpv) fn:=hfn.keep (fun b hb=>by rw[k8 b hb];exact hb0.block b (h.apart b hb).1) fun _ h=>h
   obtain⟨q1,q2⟩:=k4.called (B:=w0.heap.size) hFn (by omega) (fun j hj=>by rw[k2] at hj;exact h0.lt j hj) (fun j hj=>(h0.apart j hj).1) k5 k6 k7 hown5 hg hat
   rw[k2] at q2;refine⟨HK k1 q2,F,g5,cap5,tv,outv,_,Ext.refl _ _,q1,fun j hj=>?_⟩
   have hall:aF sb g5 outv (fvs'++[⟨.pointer fpv,.int .i64 0,.int .i64 0,.pointer none,.slice x us.length d,.slice none 0 0⟩])=sb::g5::((outv.ownBlock.toList++aS fvs')++(Value.slice x us.length d).ownBlock.toList):=by simp[aF,aS,FVal.owns,show (Value.slice none 0 0).ownBlock=none from rfl]
   rw[hall] at hj;rw[←k2];have hsz:=k1.size;simp only[List.mem_cons,List.mem_append] at hj;rcases hj with e|e|(e|e)|e
   ·exact Or.inl (by simp[aF,e])
   ·rcases hat with e2|e2
    ·cases e2;exact Or.inl (by simp[aF,e])
    ·exact Or.inr (by omega)
   ·exact Or.inl (by simp[aF,e])
   ·exact Or.inl (by simp[aF,e])
   ·have:=bX k5 j (by simpa using e)
    exact Or.inr (by omega)
  ·rintro e w' ⟨rfl,h2⟩;exact⟨Or.inl ⟨rfl,rfl⟩,h2⟩
end
def EJ(w:World)(fa fj d m g n c:Nat)(W:World):Prop:=
 W.cell? ⟨w.heap.size,0,none⟩=some (.int .i64 d)∧W.cell? ⟨w.heap.size,1,none⟩=some (.int .i64 m)∧W.cell? ⟨fa,fj+4,none⟩=some (.slice (some ⟨g,0,none⟩) n c)
theorem EJ.same{w W W':World}{fa fj d m g n c:Nat}(h:EJ w fa fj d m g n c W)(hs:aW W W'):EJ w fa fj d m g n c W':=
 ⟨cQ hs.heap h.1,cQ hs.heap h.2.1,cQ hs.heap h.2.2⟩
theorem EF(w w0:World)(sb fa fj d m g n c k:Nat)(ta:TypeId)(za:Value)(hdn:d<n)(P S:World→Prop)(Q:TypeId→Value→World→Prop)(R:TypeId→Value→Option Addr→Nat→World→Prop)(U:TypeId→Value→World→Prop)(hW:w.alloc (.cells #[.int .i64 d,.int .i64 m] 445)=w0)
 (HT:Hid (∀W,aW w0 W→Calls Tryz.prog 158 #[.pointer (some ⟨sb,0,none⟩)] W fun e w'=>e=.returned (.pointer (some ⟨fa,fj,none⟩))∧aW w0 w'))
 (HP:Hid (∀W,aW w0 W→Calls Tryz.prog 171 #[.pointer (some ⟨fa,fj,none⟩)] W fun e w'=>∃t z,e=.returned (.iface t z)∧Q t z w'))
 (HQ:Hid (∀W t z,Q t z W→EJ w fa fj d m g n c W∧W.cell? ⟨g,d,none⟩=some (.iface ta za)))
 (HM:Hid (∀W W' t z,Q t z W→aW W W'→Calls Tryz.prog 377 #[.pointer (some ⟨fa,fj,none⟩),.int .i64 m] W' fun e w'=>∃x y,e=.returned (.slice x m y)∧R t z x y w'))
 (HR:Hid (∀W t z x y,R t z x y W→EJ w fa fj d m g n c W∧W.cell? ⟨g,d,none⟩=some (.iface ta za)))
 (HV:Hid (∀W t z x y,R t z x y W→Calls Tryz.prog 405 #[.iface ta za,.slice x m y,.iface t z] W fun e w'=>(∃t1 z1,e=.returned (.iface t1 z1)∧U t1 z1 w')∨(e=fE k∧S w')))
 (HU:Hid (∀W t z,U t z W→EJ w fa fj d m g n c W∧(∃u,W.cell? ⟨g,d,none⟩=some u)∧W.frozen? ⟨g,d,none⟩=false∧g<W.heap.size∧EJ w fa fj d m g n c (W.setCell ⟨g,d,none⟩ (.iface t z))))
 (HN:Hid (∀W t z,U t z W→P (W.setCell ⟨g,d,none⟩ (.iface t z)))):
 Calls Tryz.prog 404 #[.agg #[.int .i64 d,.int .i64 m],.pointer (some ⟨sb,0,none⟩)] w fun e w'=>(e=.returned (.tuple #[])∧P w')∨(e=fE k∧S w'):=by
 have HW:=aB hW;have e1:(0:Int)≤(d:Int):=by omega
 have e2:(d:Int)<(n:Int):=by omega
 clear hW;go_enter Tryz.func404,Tryz.ntmps404;go_wp2_with fail;rw[HW.out];refine(HT.out _ (aW.refl _)).mono ?_;rintro e w1 ⟨rfl,hs1⟩;go_wp2_with fail;refine(HP.out _ hs1).mono ?_;rintro e w2 ⟨t,z,rfl,h2⟩;have HH2:=aB h2;have hq:=HQ.out _ _ _ h2;have hk0:=hq.1.same (aW.drew w2);have hc0:=cQ (aW.drew w2).heap hq.2;clear hq h2;go_wp2_with fail;refine wp_region_held_drew (S:=fun W=>W.cell? ⟨w.heap.size,0,none⟩=some (.int .i64 d)∧W.cell? ⟨w.heap.size,1,none⟩=some (.int .i64 m)∧W.cell? ⟨fa,fj+4,none⟩=some (.slice (some ⟨g,0,none⟩) n c)) (by kernel_rfl) hk0 (fun hHeld=>?_)
 (refine wpAnyH_take (i:=0) (v:=?_) rfl (by kernel_rfl) (by kernel_rfl) (by kernel_rfl) (fun _ _ _ h=>h) (Or.inl ⟨by rfl,?_⟩) hHeld ?_;rotate_left;(intro w hSw;(try dsimp only at hSw);go_simp<;>with_reducible rfl))
 (refine wpAnyH_take (i:=1) (v:=?_) rfl (by kernel_rfl) (by kernel_rfl) (by kernel_rfl) (fun _ _ _ h=>h) (Or.inl ⟨by rfl,?_⟩) hHeld ?_;rotate_left;(intro w hSw;(try dsimp only at hSw);go_simp<;>with_reducible rfl))
 (refine wpAnyH_take (i:=2) (v:=?_) rfl (by kernel_rfl) (by kernel_rfl) (by kernel_rfl) (fun _ _ _ h=>h) (Or.inl ⟨by rfl,?_⟩) hHeld ?_;rotate_left;(intro w hSw;(try dsimp only at hSw);go_simp<;>with_reducible rfl))
 (refine wpAnyH_take (i:=4) (v:=?_) rfl (by kernel_rfl) (by kernel_rfl) (by kernel_rfl) (fun _ _ _ h=>h) (Or.inl ⟨by rfl,?_⟩) hHeld ?_;rotate_left;(intro w hSw;(try dsimp only at hSw);go_simp<;>with_reducible rfl))
 (refine wpAnyH_take (i:=6) (v:=?_) rfl (by kernel_rfl) (by kernel_rfl) (by kernel_rfl) (fun _ _ _ h=>h) (Or.inl ⟨by rfl,?_⟩) hHeld ?_;rotate_left;(intro w hSw;(try dsimp only at hSw);go_simp<;>with_reducible rfl))
 (refine wpAnyH_take (i:=7) (v:=?_) rfl (by kernel_rfl) (by kernel_rfl) (by kernel_rfl) (fun _ _ _ h=>h) (Or.inl ⟨by rfl,?_⟩) hHeld ?_;rotate_left;(intro w hSw;(try dsimp only at hSw);go_simp<;>with_reducible rfl))
 (refine wpAnyH_take (i:=8) (v:=?_) rfl (by kernel_rfl) (by kernel_rfl) (by kernel_rfl) (fun _ _ _ h=>h) (Or.inl ⟨by rfl,?_⟩) hHeld ?_;rotate_left;(intro w hSw;(try dsimp only at hSw);go_simp<;>with_reducible rfl))
 (refine wpAnyH_take (i:=10) (v:=?_) rfl (by kernel_rfl) (by kernel_rfl) (by kernel_rfl) (fun _ _ _ h=>h) (Or.inl ⟨by rfl,?_⟩) hHeld ?_;rotate_left;(intro w hSw;(try dsimp only at hSw);go_simp<;>with_reducible rfl))
 (refine wpAnyH_take (i:=14) (v:=?_) rfl (by kernel_rfl) (by kernel_rfl) (by kernel_rfl) (fun _ _ _ h=>h) (Or.inl ⟨by rfl,?_⟩) hHeld ?_;rotate_left;(intro w hSw;(try dsimp only at hSw);go_simp<;>with_reducible rfl))
 (refine wpAnyH_take (i:=15) (v:=?_) rfl (by kernel_rfl) (by kernel_rfl) (by kernel_rfl) (fun _ _ _ h=>h) (Or.inl ⟨by rfl,?_⟩) hHeld ?_;rotate_left;(intro w hSw;(try dsimp only at hSw);go_simp<;>with_reducible rfl))
 (refine wpAnyH_take (i:=18) (v:=?_) rfl (by kernel_rfl) (by kernel_rfl) (by kernel_rfl) (fun _ _ _ h=>h) (Or.inl ⟨by rfl,?_⟩) hHeld ?_;rotate_left;(intro w hSw;(try dsimp only at hSw);go_simp<;>with_reducible rfl))
 (refine wpAnyH_take (i:=3) (v:=?_) rfl (by kernel_rfl) (by kernel_rfl) (by kernel_rfl) (fun _ _ _ h=>h) (Or.inl ⟨by rfl,?_⟩) hHeld ?_;rotate_left;(intro w hSw;(try dsimp only at hSw);go_simp<;>with_reducible rfl))
 (refine wpAnyH_take (i:=5) (v:=?_) rfl (by kernel_rfl) (by kernel_rfl) (by kernel_rfl) (fun _ _ _ h=>h) (Or.inl ⟨by rfl,?_⟩) hHeld ?_;rotate_left;(intro w hSw;(try dsimp only at hSw);go_simp<;>with_reducible rfl))
 (refine wpAnyH_take (i:=9) (v:=?_) rfl (by kernel_rfl) (by kernel_rfl) (by kernel_rfl) (fun _ _ _ h=>h) (Or.inl ⟨by rfl,?_⟩) hHeld ?_;rotate_left;(intro w hSw;(try dsimp only at hSw);go_simp<;>with_reducible rfl))
 (refine wpAnyH_take (i:=11) (v:=?_) rfl (by kernel_rfl) (by kernel_rfl) (by kernel_rfl) (fun _ _ _ h=>h) (Or.inl ⟨by rfl,?_⟩) hHeld ?_;rotate_left;(intro w hSw;(try dsimp only at hSw);go_simp<;>with_reducible rfl))
 (refine wpAnyH_take (i:=12) (v:=?_) rfl (by kernel_rfl) (by kernel_rfl) (by kernel_rfl) (fun _ _ _ h=>h) (Or.inl ⟨by rfl,?_⟩) hHeld ?_;rotate_left;(intro w hSw;(try dsimp only at hSw);go_simp<;>with_reducible rfl))
 (refine wpAnyH_take (i:=16) (v:=?_) rfl (by kernel_rfl) (by kernel_rfl) (by kernel_rfl) (fun _ _ _ h=>h) (Or.inl ⟨by rfl,?_⟩) hHeld ?_;rotate_left;(intro w hSw;(try dsimp only at hSw);go_simp<;>with_reducible rfl))
 refine wpAnyH_ready (rs:=[13,17]) (by kernel_rfl) (by simp) ?_
 refine AllReadyH.cons rfl (fun K hK=>?_) (AllReadyH.cons rfl (fun K hK=>?_) AllReadyH.nil)
 ·go_simp;refine hK.out _ _ hk0 (fun hHeld=>?_)
  clear hK K;refine wpAnyH_ready (rs:=[17]) (by kernel_rfl) (by simp) ?_
  refine AllReadyH.cons rfl (fun K hK=>?_) AllReadyH.nil
  go_simp;go_at_call 377
  refine(HM.out _ _ _ _ HH2.out (aW.drew w2)).mono ?_;rintro e w3 ⟨x,y,rfl,h3⟩;have HH3:=aB h3;have hq3:=HR.out _ _ _ _ _ h3;have hk3:=hq3.1;have hc3:=hq3.2;clear hq3 h3;go_wp2_with fail;refine hK.out _ _ hk3 (fun hHeld=>?_)
  clear hK K;refine wpAnyH_ready (rs:=[19]) (by kernel_rfl) (by simp) ?_
  refine AllReadyH.cons rfl (fun K hK=>?_) AllReadyH.nil
  go_simp;go_at_call 405
  refine(HV.out _ _ _ _ _ HH3.out).mono ?_;rintro e w4 (⟨t1,z1,rfl,h4⟩|⟨rfl,h4⟩)
  rotate_left
  exact⟨rfl,Or.inr ⟨rfl,h4⟩⟩;have HH4:=aB h4;have hq4:=HU.out _ _ _ h4;have hk4:=hq4.1;obtain⟨u4,hc4⟩:=hq4.2.1;have hf4:=hq4.2.2.1;have hl4:=hq4.2.2.2.1;have hk5:=hq4.2.2.2.2;clear hq4 h4;go_wp2_with fail;refine hK.out _ _ hk4 (fun hHeld=>?_)
  clear hK K;refine wpAnyH_take (i:=20) (v:=?_) rfl (by kernel_rfl) (by kernel_rfl) (by kernel_rfl) (fun _ _ _ h=>h) (Or.inl ⟨by rfl,?_⟩) hHeld ?_
  rotate_left
  ·intro w hSw;(try dsimp only at hSw);go_simp<;>with_reducible rfl
  refine wpAnyH_ready (rs:=[21]) (by kernel_rfl) (by simp) ?_
  refine AllReadyH.cons rfl (fun K hK=>?_) AllReadyH.nil
  go_simp;refine hK.out _ _ hk5 (fun hHeld=>?_)
  clear hK K;refine wpAnyH_done (by kernel_rfl) ?_ _
  go_wp2_with fail;go_end0;exact Or.inl ⟨rfl,HN.out _ _ _ HH4.out⟩
 ·go_simp;go_at_call 377
  refine(HM.out _ _ _ _ HH2.out (aW.drew w2)).mono ?_;rintro e w3 ⟨x,y,rfl,h3⟩;have HH3:=aB h3;have hq3:=HR.out _ _ _ _ _ h3;have hk3:=hq3.1;have hc3:=hq3.2;clear hq3 h3;go_wp2_with fail;refine hK.out _ _ hk3 (fun hHeld=>?_)
  clear hK K;refine wpAnyH_ready (rs:=[13]) (by kernel_rfl) (by simp) ?_
  refine AllReadyH.cons rfl (fun K hK=>?_) AllReadyH.nil
  go_simp;refine hK.out _ _ hk3 (fun hHeld=>?_)
  clear hK K;refine wpAnyH_ready (rs:=[19]) (by kernel_rfl) (by simp) ?_
  refine AllReadyH.cons rfl (fun K hK=>?_) AllReadyH.nil
  go_simp;go_at_call 405
  refine(HV.out _ _ _ _ _ HH3.out).mono ?_;rintro e w4 (⟨t1,z1,rfl,h4⟩|⟨rfl,h4⟩)
  rotate_left
  exact⟨rfl,Or.inr ⟨rfl,h4⟩⟩;have HH4:=aB h4;have hq4:=HU.out _ _ _ h4;have hk4:=hq4.1;obtain⟨u4,hc4⟩:=hq4.2.1;have hf4:=hq4.2.2.1;have hl4:=hq4.2.2.2.1;have hk5:=hq4.2.2.2.2;clear hq4 h4;go_wp2_with fail;refine hK.out _ _ hk4 (fun hHeld=>?_)
  clear hK K;refine wpAnyH_take (i:=20) (v:=?_) rfl (by kernel_rfl) (by kernel_rfl) (by kernel_rfl) (fun _ _ _ h=>h) (Or.inl ⟨by rfl,?_⟩) hHeld ?_
  rotate_left
  ·intro w hSw;(try dsimp only at hSw);go_simp<;>with_reducible rfl
  refine wpAnyH_ready (rs:=[21]) (by kernel_rfl) (by simp) ?_
  refine AllReadyH.cons rfl (fun K hK=>?_) AllReadyH.nil
  go_simp;refine hK.out _ _ hk5 (fun hHeld=>?_)
  clear hK K;refine wpAnyH_done (by kernel_rfl) ?_ _
  go_wp2_with fail;go_end0;exact Or.inl ⟨rfl,HN.out _ _ _ HH4.out⟩
theorem O7.ofRow{F:Nat→Prop}{w:World}{base:Nat}{v:Value}{xs:List Value}{l:List aI}(h:w.ownsRow base 256 1 v l.length xs)(hr:fR F w xs l):O7 F w v l:=by
 rcases h.2 with ⟨r1,r2⟩|⟨g,c,cur,r1,r2,r3,r4,r5,r6,r7⟩
 ·exact Or.inl ⟨List.length_eq_zero_iff.1 r2,none,0,by rw[r1]⟩
 ·refine Or.inr ⟨g,0,c,r1,r4,aD r3,fun i hi=>?_⟩
  obtain⟨u,e1,e2⟩:=hr.2 i hi;refine⟨u,aA r3 ?_,e2⟩;rw[←r7,List.getElem?_take,if_pos (by omega)] at e1
  simpa using e1
section
variable {fp:Nat→Value} {F:Nat→Prop} {base:Nat} {w:World} {sb gf cap:Nat} {t0 tv outv s0:Value} {fvs:List FVal} {below:List aK} {f:aK} {tape:List Int} {out:List (List UInt8)}
theorem cO.popManyR{fb:List FVal}{v:FVal}{vs us:List aI}(h:cO fp F base w sb gf cap t0 tv outv s0 (fb++[v]) ⟨below++[f],tape,out⟩)(hf:f.ops=vs++us)(hops:f.ops.length≤100000):
 Calls Tryz.prog 377 #[.pointer (some ⟨gf,fb.length*6,none⟩),.int .i64 us.length] w fun e w'=>∃x y ov',e=.returned (.slice x us.length y)∧ov'.ownBlock=v.ov.ownBlock∧O7 F w' (.slice x us.length y) us∧(∀a∈us,aJ a≤200)∧
  cO fp F base w' sb gf cap t0 tv outv s0 (fb++[{ v with ov:=ov' }]) ⟨below++[f.popMany us.length],tape,out⟩∧Kept (aF sb gf outv (fb++[v])) w w'∧∀k,k<w.heap.size→k≠gf→w'.heap[k]?=w.heap[k]?:=by
 obtain⟨fb',v0,cur,e,hfl,hv,hblk,hcur,hcap,k0,k1,k2,k3,k4,k5⟩:=h.top;obtain⟨rfl,e2⟩:=List.append_inj' e rfl;cases e2;obtain⟨⟨xs,hown,hxs⟩,hc200⟩:=hv.ops;rw[hf] at hown hxs hc200;obtain⟨xs',ys,rfl,hl1,hl2,hx1,hx2⟩:=hxs.split;rw[hf,List.length_append] at hops;rw[List.length_append] at hown;refine(tO base gf (fb.length*6) vs.length us.length cur v.ov xs' ys w hcur k5 hown hl1 hl2 (nG hx2) (by omega)).mono ?_
 rintro e w' ⟨v',ov',w1,he,hb,p1,rfl,p2,p3⟩;have hpop:(f.popMany us.length).ops=vs:=by simp[aK.popMany,hf]
 have hR1:=h.grow hb (fun _ h=>h) (fun _ h=>Or.inl h)
 have hv1:KA fp F base w1 { v with ov:=ov' } (f.popMany us.length):=by
  have hk:∀b,F b→w1.heap[b]?=w.heap[b]?:=fun b hb'=>hb.block b (h.apart b hb').1
  have hvm:∀k∈v.owns,k<w.heap.size:=fun k hk=>h.lt k (by simp[aF,aS,hk])
  have hv':=hv.keep hk (fun _ h=>h) fun k hm=>hb.block k (hvm k hm)
  refine⟨hv'.fn,hv'.nx,hv'.ln,hv'.sp,hv'.vars,⟨xs',?_,?_⟩,fun b hb'=>hc200 b (List.mem_append_left _ (by rw[hpop] at hb';exact hb'))⟩
  ·rw[hpop];exact aY p2 fun k e=>hb.block k (hvm k (by rw[p3] at e;simp[FVal.owns,e]))
  ·rw[hpop];exact hx1.keep hk
 obtain⟨q1,q2⟩:=hR1.setTop (j:=5) (x:=ov') (v':={ v with ov:=ov' }) (by omega) rfl (by simp[FVal.owns,p3]) hv1
 have hgf:gf<w.heap.size:=aD hcur
 have hkG:∀k,F k→(w1.setCell ⟨gf,fb.length*6+5,none⟩ ov').heap[k]?=w.heap[k]?:=fun k hk=>by
  rw[Below.heap_setCell _ _ _ _ fun e=>(h.apart k hk).2 (by simp[aF,e]),hb.block k (h.apart k hk).1]
 obtain⟨x,d,rfl⟩:=cP p1;refine⟨x,d,ov',he,p3,O7.ofRow (base:=w.heap.size) (xs:=ys) (aY p1 fun k hk=>Below.heap_setCell _ _ _ _ ?_) (hx2.keep hkG),fun a ha=>hc200 a (List.mem_append_right _ ha),q1,(Kept.of_below hb).trans q2 fun x hx=>Or.inl hx,fun k hk hn=>by rw[Below.heap_setCell _ _ _ _ hn,hb.block k hk]⟩
 have:=bX p1 k hk;show k≠gf
 omega
theorem cO.assigned{fb:List FVal}{v:FVal}{g n c d:Nat}{u:Value}{a:aI}(h:cO fp F base w sb gf cap t0 tv outv s0 (fb++[v]) ⟨below++[f],tape,out⟩)(hvv:v.vv=.slice (some ⟨g,0,none⟩) n c)(hu:PV F w u a)(hca:aJ a≤200):
 cO fp F base (w.setCell ⟨g,d,none⟩ u) sb gf cap t0 tv outv s0 (fb++[v]) ⟨below++[{ f with vars:=f.vars.set d a }],tape,out⟩∧Kept (aF sb gf outv (fb++[v])) w (w.setCell ⟨g,d,none⟩ u):=by
 obtain⟨fb',v0,cur,e,hfl,hv,hblk,hcur,hcap,k0,k1,k2,k3,k4,k5⟩:=h.top;obtain⟨rfl,e2⟩:=List.append_inj' e rfl;cases e2;have hgo:v.vv.ownBlock=some g:=by rw[hvv];rfl
 have hgm:g∈v.owns:=by simp[FVal.owns,hgo]
 have hvm:∀k∈v.owns,k∈aF sb gf outv (fb++[v]):=fun k hk=>by simp[aF,aS,hk]
 have hgv:gf∉v.owns:=fun hm=>by
  have:=(List.nodup_cons.1 (List.nodup_cons.1 h.nodup).2).1;exact this (by simp[aS,hm])
 have hnv:v.owns.Nodup:=by
  have h1:=h.nodup;have:aF sb gf outv (fb++[v])=(sb::gf::(outv.ownBlock.toList++aS fb))++v.owns:=by simp[aF,aS]
  rw[this] at h1;exact(List.nodup_append.1 h1).2.1
 have hk:∀k,k≠g→(w.setCell ⟨g,d,none⟩ u).heap[k]?=w.heap[k]?:=fun k hk=>Below.heap_setCell _ _ _ _ hk
 have hFk:∀b,F b→(w.setCell ⟨g,d,none⟩ u).heap[b]?=w.heap[b]?:=fun b hb=>hk b fun e=>(h.apart b hb).2 (hvm b (by rw[e];exact hgm))
 have hovg:∀k,v.ov.ownBlock=some k→k≠g:=fun k hk e=>by
  unfold FVal.owns at hnv;rw[hk,hgo,e] at hnv;simp at hnv
 have hrow:=h.row;rw[show (fb++[v]).length=fb.length+1 by simp] at hrow
 obtain⟨⟨xs,hown,hxs⟩,hc200⟩:=hv.vars;refine⟨h.step (G:=F) (by simp) (fun k _ _ h3=>hk k fun e=>h3 (by rw[e];exact hgm)) (aY hrow fun k e=>hk k ?_) ?_ (fun k hm=>⟨Nat.lt_of_lt_of_le (h.lt k (hvm k hm)) (by simp),Or.inl hm⟩) hnv (fun _ h=>h) (fun _ h=>Or.inl h),⟨rfl,rfl,rfl,by simp,fun k _ hn=>hk k fun e=>hn (hvm k (by rw[e];exact hgm))⟩⟩
 ·cases e;exact fun e=>hgv (by have e':gf=g:=e;rw[e'];exact hgm)
 ·refine⟨hv.fn.keep hFk fun _ h=>h,hv.nx,hv.ln,eO.keep hFk (fun _ h=>h) hv.sp,⟨⟨xs.set d u,?_,(fR.set hxs d hu).keep hFk⟩,fun b hb=>?_⟩,hv.ops.keep hFk (fun _ h=>h) fun k e=>hk k (hovg k e)⟩
  ·rcases hown.2 with ⟨r1,r2⟩|⟨g',c',row,r1,r2,r3,r4,r5,r6,r7⟩
   ·rw[r1] at hvv;cases hvv
   ·rw[hvv] at r1;cases r1;refine⟨by simp[hown.1],Or.inr ⟨g,c,_,?_,r2,aQ r3,by simpa using r4,r5,by simpa using r6,?_⟩⟩
    ·show v.vv=_
     rw[hvv];simp
    ·show List.take ((f.vars.set d a).length*1) _=_
     rw[Array.toList_setIfInBounds,List.take_set,List.length_set,r7]
  ·rcases List.mem_or_eq_of_mem_set hb with h1|h1
   ·exact hc200 b h1
   ·rw[h1];exact hca
def qD(fp:Nat→Value)(F:Nat→Prop)(base sb gf cap:Nat)(t0 tv outv s0:Value)(fb:List FVal)(v:FVal)(below:List aK)(f:aK)(tape:List Int)(out:List (List UInt8))(w0:World)(W:World):Prop:=
 ∃ov',ov'.ownBlock=v.ov.ownBlock∧cO fp F base W sb gf cap t0 tv outv s0 (fb++[{ v with ov:=ov' }]) ⟨below++[f],tape,out⟩∧Kept (aF sb gf outv (fb++[v])) w0 W∧∀k,k<w0.heap.size→k≠gf→W.heap[k]?=w0.heap[k]?
theorem qD.grow{G:Nat→Prop}{fb:List FVal}{v:FVal}{w0 W W':World}(h:qD fp F base sb gf cap t0 tv outv s0 fb v below f tape out w0 W)(hb:Below W.heap.size W W')(hF:∀k,F k→G k)(hG:∀k,G k→F k∨(W.heap.size≤k∧k<W'.heap.size)):qD fp G base sb gf cap t0 tv outv s0 fb v below f tape out w0 W':=by
 obtain⟨ov',h1,h2,h3,h4⟩:=h;exact⟨ov',h1,h2.grow hb hF hG,h3.trans (Kept.of_below (own:=[]) hb) (fun x hx=>by simp at hx),fun k hk hn=>by rw[hb.block k (Nat.lt_of_lt_of_le hk h3.size),h4 k hk hn]⟩
theorem qD.reads{fb:List FVal}{v:FVal}{w0 W:World}{g n c d m:Nat}{x:Value}(h:qD fp F base sb gf cap t0 tv outv s0 fb v below f tape out w0 W)(hgw:gf<w.heap.size)(hw0:w0=w.alloc (.cells #[.int .i64 d,.int .i64 m] 445))(hvv:v.vv=.slice (some ⟨g,0,none⟩) n c)(hg:g<w.heap.size)(hgg:g≠gf)(hx:w0.cell? ⟨g,d,none⟩=some x):
 EJ w gf (fb.length*6) d m g n c W∧W.cell? ⟨g,d,none⟩=some x∧∀u,EJ w gf (fb.length*6) d m g n c (W.setCell ⟨g,d,none⟩ u):=by
 obtain⟨ov',h1,h2,h3,h4⟩:=h;obtain⟨fb',v0,cur,e,hfl,hv,hblk,hcur,hcap,k0,k1,k2,k3,k4,k5⟩:=h2.top;obtain⟨rfl,e2⟩:=List.append_inj' e rfl;have e3:v0={ v with ov:=ov' }:=by simpa using e2.symm
 subst e3
 have hbox:W.heap[w.heap.size]?=some (.cells #[.int .i64 d,.int .i64 m] 445 (0,0)):=by
  rw[h4 _ (by rw[hw0];simp) (by omega),hw0];exact aR _ _ rfl _
 have hgl:W.heap[g]?=w0.heap[g]?:=h4 g (by rw[hw0];simp;omega) hgg
 have hS:∀W':World,W'.heap[w.heap.size]?=W.heap[w.heap.size]?→W'.heap[gf]?=W.heap[gf]?→EJ w gf (fb.length*6) d m g n c W':=fun W' e1 e2=>by
  refine⟨aA (e1.trans hbox) rfl,aA (e1.trans hbox) rfl,aA (e2.trans hcur) ?_⟩;rw[k4,←hvv]
 exact⟨hS W rfl rfl,by rw[World.cell?_of_block hgl];exact hx,fun u=>hS _ (Below.heap_setCell _ _ _ _ (by show w.heap.size≠g;omega)) (Below.heap_setCell _ _ _ _ (fun e=>hgg e.symm))⟩
theorem qD.done{G:Nat→Prop}{fb:List FVal}{v:FVal}{W:World}{ob:Obj}{f':aK}(h:qD fp G base sb gf cap t0 tv outv s0 fb v below f' tape out (w.alloc ob) W)(hF:Ext F G w.heap.size):Done fp F base sb t0 s0 (aF sb gf outv (fb++[v])) w ⟨below++[f'],tape,out⟩ W:=by
 obtain⟨ov',h1,h2,h3,h4⟩:=h;exact⟨(Kept.of_below (own:=aF sb gf outv (fb++[v])) ((Below.refl _ w).alloc (Nat.le_refl _) ob)).trans h3 fun _ h=>Or.inl h,G,gf,cap,tv,outv,_,hF,h2,fun k hk=>Or.inl (by simpa [aF,aS,FVal.owns,h1] using hk)⟩
theorem YL(d:Nat)(vs us:List aI)(b:aI)(h:cO fp F base w sb gf cap t0 tv outv s0 fvs ⟨below++[f],tape,out⟩)(hbel:below.length≤15)(hbase:base≤w.heap.size)(hops:f.ops.length≤99000)(hf:f.ops=vs++us++[b])(hd:d<f.vars.length):
 Calls Tryz.prog 404 #[.agg #[.int .i64 d,.int .i64 us.length],.pointer (some ⟨sb,0,none⟩)] w (mZ fp F base sb t0 s0 (aF sb gf outv fvs) w below tape out (aN (.assign d us.length) f)):=by
 have hM:=h.mid hbase (.cells #[.int .i64 d,.int .i64 us.length] 445);obtain⟨fb,v,cur,rfl,hfl, -⟩:=h.top;have hgw:gf<w.heap.size:=h.lt gf (by simp[aF])
 have h0:=h.grow ((Below.refl _ w).alloc (Nat.le_refl _) (.cells #[.int .i64 d,.int .i64 us.length] 445)) (fun _ h=>h) (fun _ h=>Or.inl h)
 have hT:=hM.topS hbel;rw[←hfl] at hT;obtain⟨fb',v0,cur,e, -,hv,hblk,hcur,hcap,k0,k1,k2,k3,k4,k5⟩:=h0.top;obtain⟨rfl,e2⟩:=List.append_inj' e rfl;cases e2;generalize hw0:w.alloc (.cells #[.int .i64 d,.int .i64 us.length] 445)=w0 at h0 hT hv hblk hcur;obtain⟨⟨xs,hown,hxs⟩,hc200⟩:=hv.vars
 have hgv:v.vv.ownBlock≠some gf:=fun e=>by
  have:=(List.nodup_cons.1 (List.nodup_cons.1 h.nodup).2).1;exact this (by simp[aS,FVal.owns,e])
 obtain⟨u,hu1,hu2⟩:=hxs.2 d hd;obtain⟨ta,za,rfl⟩:=hu2.form;have hpo:f.pop.ops=vs++us:=lK (by rw[hf])
 have hmany:f.pop.many us.length=us:=by simp[aK.many,hpo]
 have hlast:f.last=b:=iF (by rw[hf])
 have hlen:vs.length+us.length+1≤99000:=by rw[hf] at hops;simp at hops;omega
 have hgd:f.vars[d]?.getD bK=f.vars[d]:=by rw[List.getElem?_eq_getElem hd];rfl
 obtain⟨r,hr⟩:∃r,r=mI f.vars[d] us b:=⟨_,rfl⟩
 have hres:aN (.assign d us.length) f=if r.2=0 then ({ f.pop.popMany us.length with vars:=f.vars.set d r.1 },0) else (f.pop.popMany us.length,r.2):=by
  simp only[aN,hmany,hlast,hgd,←hr]
 have hrc:r.2=0→aJ r.1≤200:=fun h1=>by rw[hr] at h1 ⊢;exact ML _ h1
 rw[hres];rcases hown.2 with ⟨r1,r2⟩|⟨g,c,row,r1,hg1,hrow,hcp,hcm,hcs,htk⟩
 ·omega
 have hgo:v.vv.ownBlock=some g:=by rw[r1];rfl
 have hgg:g≠gf:=fun e=>hgv (by rw[hgo,e])
 have hgl:g<w.heap.size:=h.lt g (by simp[aF,aS,FVal.owns,hgo])
 have hrd:row[d]?=some (.iface ta za):=by
  rw[←htk,List.getElem?_take,if_pos (by omega)] at hu1
  simpa using hu1
 have hx:w0.cell? ⟨g,d,none⟩=some (.iface ta za):=aA hrow hrd
 have hFlt:∀{W:World} {f':aK},qD fp F base sb gf cap t0 tv outv s0 fb v below f' tape out w0 W→∀k,F k→k<W.heap.size:=fun hq k hk=>by
  obtain⟨_,_,h2,_⟩:=hq;exact(h2.apart k hk).1
 have hold:∀{W:World} {f':aK},qD fp F base sb gf cap t0 tv outv s0 fb v below f' tape out w0 W→PV F W (.iface ta za) f.vars[d]:=fun hq=>by
  obtain⟨_,_,_,h3,h4⟩:=hq;exact hu2.keep fun k hk=>h4 k (by rw[←hw0];exact Nat.lt_of_lt_of_le (h.apart k hk).1 (by simp)) fun e=>(h.apart k hk).2 (by simp[aF,e])
 refine(EF w w0 sb gf (fb.length*6) d us.length g f.vars.length c r.2 ta za hd
  (fun w'=>r.2=0∧Done fp F base sb t0 s0 (aF sb gf outv (fb++[v])) w ⟨below++[{ f.pop.popMany us.length with vars:=f.vars.set d r.1 }],tape,out⟩ w')
  (fun w'=>r.2≠0∧Done fp F base sb t0 s0 (aF sb gf outv (fb++[v])) w ⟨below++[f.pop.popMany us.length],tape,out⟩ w')
  (fun t z W=>(PV F W (.iface t z) b∧aJ b≤200)∧qD fp F base sb gf cap t0 tv outv s0 fb v below f.pop tape out w0 W)
  (fun t z x y W=>((PV F W (.iface t z) b∧aJ b≤200)∧O7 F W (.slice x us.length y) us)∧qD fp F base sb gf cap t0 tv outv s0 fb v below (f.pop.popMany us.length) tape out w0 W)
  (fun t z W=>r.2=0∧∃G,Ext F G w.heap.size∧PV G W (.iface t z) r.1∧qD fp G base sb gf cap t0 tv outv s0 fb v below (f.pop.popMany us.length) tape out w0 W)
  hw0 hT (fun W hS=>?_) (fun W t z hq=>?_) (fun W W' t z hq hS=>?_) (fun W t z x y hq=>?_) (fun W t z x y hq=>?_) (fun W t z hq=>?_) (fun W t z hq=>?_)).mono ?_
 ·refine((h0.grow hS.below (fun _ h=>h) (fun _ h=>Or.inl h)).popR (vs:=vs++us) (a:=b) (by rw[hf]) (by omega)).mono ?_
  rintro e w' ⟨t,z,ov',he,h1,h2,h3,h4,h5,h6⟩;exact⟨t,z,he,⟨h1,h2⟩,ov',h3,h4,(Kept.of_below (own:=aF sb gf outv (fb++[v])) hS.below).trans h5 fun _ h=>Or.inl h,fun k _ hk=>by rw[h6 k hk,hS.heap]⟩
 ·obtain⟨_,hq⟩:=hq;obtain⟨q1,q2,_⟩:=hq.reads hgw hw0.symm r1 hgl hgg hx;exact⟨q1,q2⟩
 ·obtain⟨⟨p1,p2⟩,ov',h1,h2,h3,h4⟩:=hq;refine((h2.grow hS.below (fun _ h=>h) (fun _ h=>Or.inl h)).popManyR (vs:=vs) (us:=us) hpo (by rw[hpo,List.length_append];omega)).mono ?_
  rintro e w' ⟨x,y,ov2,he,q1,q2,q3,q4,q5,q6⟩;have hown2:aF sb gf outv (fb++[{ v with ov:=ov' }])=aF sb gf outv (fb++[v]):=by simp[aF,aS,FVal.owns,h1]
  rw[hown2] at q5;have hsz:W.heap.size=W'.heap.size:=by rw[hS.heap]
  refine⟨x,y,he,⟨⟨p1.keep fun k hk=>?_,p2⟩,q2⟩,ov2,by rw[q1,h1],q4,(h3.trans (Kept.of_below (own:=[]) hS.below) (fun x hx=>by simp at hx)).trans q5 fun _ h=>Or.inl h,fun k hk hn=>by rw[q6 k (by rw[←hsz];exact Nat.lt_of_lt_of_le hk h3.size) hn,hS.heap,h4 k hk hn]⟩
  rw[q6 k (by rw[←hsz];exact(h2.apart k hk).1) (fun e=>(h2.apart k hk).2 (by simp[aF,e])),hS.heap]
 ·obtain⟨_,hq⟩:=hq;obtain⟨q1,q2,_⟩:=hq.reads hgw hw0.symm r1 hgl hgg hx;exact⟨q1,q2⟩
 ·obtain⟨⟨⟨p1,p2⟩,p3⟩,hq⟩:=hq;refine(LR F us _ _ _ f.vars[d] b W p3 (hold hq) p1 (hFlt hq) (Nat.le_trans (hc200 _ (List.getElem_mem hd)) (by omega)) (by omega) (by omega)).mono ?_
  rintro e w' ⟨hb,⟨e1,u,rfl,e3⟩|⟨e1,e2⟩⟩
  ·rw[←hr] at e1 e3;obtain⟨t1,z1,rfl⟩:=e3.form;exact Or.inl ⟨t1,z1,rfl,e1,Grow F W w',⟨fun k hk=>Or.inl hk,fun k hk=>hk.imp_right fun h1=>Nat.le_trans (by obtain⟨_,_,_,h3,_⟩:=hq;rw[←hw0] at h3;exact Nat.le_trans (by simp) h3.size) h1.1⟩,e3,hq.grow hb (fun k hk=>Or.inl hk) (fun k hk=>hk)⟩
  ·rw[←hr] at e1 e2;subst hw0;exact Or.inr ⟨e2,e1,(hq.grow hb (fun _ h=>h) (fun _ h=>Or.inl h)).done (Ext.refl _ _)⟩
 ·obtain⟨_,G,hG,_,hq⟩:=hq;obtain⟨q1,q2,q3⟩:=hq.reads hgw hw0.symm r1 hgl hgg hx;obtain⟨_,_,_,_,h4⟩:=hq;have hgl':W.heap[g]?=some (.cells row 256 (0,0)):=by rw[h4 g (by rw[←hw0];simp;omega) hgg];exact hrow
  exact⟨q1,⟨_,q2⟩,aE hgl',aD hgl',q3 _⟩
 ·obtain⟨hz,G,hG,p1,ov',h1,h2,h3,h4⟩:=hq;obtain⟨q1,q2⟩:=h2.assigned (d:=d) (a:=r.1) (u:=.iface t z) r1 p1 (hrc hz);have hown2:aF sb gf outv (fb++[{ v with ov:=ov' }])=aF sb gf outv (fb++[v]):=by simp[aF,aS,FVal.owns,h1]
  rw[hown2] at q2;subst hw0;refine⟨hz,((Kept.of_below (own:=aF sb gf outv (fb++[v])) ((Below.refl _ w).alloc (Nat.le_refl _) _)).trans h3 fun _ h=>Or.inl h).trans q2 fun _ h=>Or.inl h,G,gf,cap,tv,outv,_,hG,q1,fun k hk=>Or.inl (by rw[hown2] at hk;exact hk)⟩
 ·rintro e w' (⟨rfl,h1,h2⟩|⟨rfl,h1,h2⟩)
  ·exact mZ.ok (if_pos h1) h2
  ·exact mZ.stop (if_neg h1) h1 h2
end
theorem ID(w w0:World)(sb fa fj base n c:Nat)(x:Option Addr)(tx:List UInt8)(hn:n<50)(P:World→Prop)(Q:TypeId→Value→World→Prop)(R:World→Prop)(xs:List Value)(hW:w.alloc (.cells #[] 448)=w0)
 (HT:Hid (∀W,aW w0 W→Calls Tryz.prog 158 #[.pointer (some ⟨sb,0,none⟩)] W fun e w'=>e=.returned (.pointer (some ⟨fa,fj,none⟩))∧aW w0 w'))
 (HP:Hid (∀W,aW w0 W→Calls Tryz.prog 171 #[.pointer (some ⟨fa,fj,none⟩)] W fun e w'=>∃t z,e=.returned (.iface t z)∧Q t z w'))
 (HQ:Hid (∀W t z,Q t z W→W.cell? ⟨sb,3,none⟩=some (.slice x n c)∧sb<W.heap.size))
 (HV:Hid (∀W W' t z,Q t z W→aW W W'→Calls Tryz.prog 409 #[.iface t z] W' fun e w'=>e=.returned (.string (bs tx))∧R w'))
 (HR:Hid (∀W,R W→W.cell? ⟨sb,3,none⟩=some (.slice x n c)∧sb<W.heap.size∧base≤W.heap.size))
 (HO:Hid (∀W,R W→W.ownsRow base 9 1 (.slice x n c) n xs))
 (HG:Hid (∀W,R W→∀w5:World,(W.alloc (.cells #[.string (bs tx)] 9)).grownBy w5 (Value.slice x n c).ownBlock→(∃u,w5.cell? ⟨sb,3,none⟩=some u)∧w5.frozen? ⟨sb,3,none⟩=false∧sb<w5.heap.size))
 (HN:Hid (∀W,R W→∀g5 cap5 (w5:World),w5.ownsRow base 9 1 (.slice (some ⟨g5,0,none⟩) (n+1) cap5) (n+1) (xs++[.string (bs tx)])→(W.alloc (.cells #[.string (bs tx)] 9)).grownBy w5 (Value.slice x n c).ownBlock→((Value.slice x n c).ownBlock=some g5∨W.heap.size+1≤g5)→P (w5.setCell ⟨sb,3,none⟩ (.slice (some ⟨g5,0,none⟩) (n+1) cap5)))):
 Calls Tryz.prog 408 #[.agg #[],.pointer (some ⟨sb,0,none⟩)] w fun e w'=>e=.returned (.tuple #[])∧P w':=by
 obtain⟨i0,hi,hz0,hz1,hz2⟩:=info_parts AW;have HW:=aB hW;have hne:¬(n:Int)=50:=by omega
 clear hW;go_enter Tryz.func408,Tryz.ntmps408;go_wp2_with fail;rw[HW.out];refine(HT.out _ (aW.refl _)).mono ?_;rintro e w1 ⟨rfl,hs1⟩;go_wp2_with fail;refine(HP.out _ hs1).mono ?_;rintro e w2 ⟨t,z,rfl,h2⟩;obtain⟨c1,l1⟩:=HQ.out _ _ _ h2;have HH2:=aB h2;clear h2;go_wp2_with fail;go_region_law (first|(go_simp;go_at_call 409;refine(HV.out _ _ _ _ HH2.out (aW.drew _)).mono ?_;rintro e w3 ⟨rfl,h3⟩;have HH3:=aB h3;have hq:=HR.out _ h3;have b1:=hq.1;have b2:=hq.2.1;have b3:=hq.2.2;clear hq h3)|(refine step_append_lies _ (by rfl) _ _ 60 (by rfl) base 9 i0 _ 1 16 Tryz.underlying60 hi hz0 hz1 hz2 rfl (by decide) (.slice x n c) n xs (by rfl) ((HO.out _ HH3.out).alloc _) ⟨w3.heap.size,0,none⟩ 1 1 [.string (bs tx)] (by rfl) (by rfl) (EY w3 _) (LW _) (by decide) (by unfold maxLen;omega) (by omega) (by simp;omega) (w3.heap.size+1) (by simp) ?_;intro g5 cap5 w5 hown5 hgrow5 hat5 hg5;have hz:=HG.out _ HH3.out w5 hgrow5;obtain⟨⟨u5,y1⟩,y2,y3⟩:=hz))
 all_goals
  go_wp2_with fail;go_end0;exact⟨rfl,HN.out _ HH3.out _ _ _ hown5 hgrow5 (hat5.imp_right fun e=>Nat.le_of_eq e.symm)⟩
theorem IE(w w0:World)(sb fa fj c:Nat)(x:Option Addr)(P:World→Prop)(Q:TypeId→Value→World→Prop)(hW:w.alloc (.cells #[] 448)=w0)
 (HT:Hid (∀W,aW w0 W→Calls Tryz.prog 158 #[.pointer (some ⟨sb,0,none⟩)] W fun e w'=>e=.returned (.pointer (some ⟨fa,fj,none⟩))∧aW w0 w'))
 (HP:Hid (∀W,aW w0 W→Calls Tryz.prog 171 #[.pointer (some ⟨fa,fj,none⟩)] W fun e w'=>∃t z,e=.returned (.iface t z)∧Q t z w'))
 (HQ:Hid (∀W t z,Q t z W→W.cell? ⟨sb,3,none⟩=some (.slice x 50 c)∧sb<W.heap.size))
 (HN:Hid (∀W t z,Q t z W→P W)):
 Calls Tryz.prog 408 #[.agg #[],.pointer (some ⟨sb,0,none⟩)] w fun e w'=>e=fE 8∧P w':=by
 have HW:=aB hW;clear hW;go_enter Tryz.func408,Tryz.ntmps408;go_wp2_with fail;rw[HW.out];refine(HT.out _ (aW.refl _)).mono ?_;rintro e w1 ⟨rfl,hs1⟩;go_wp2_with fail;refine(HP.out _ hs1).mono ?_;rintro e w2 ⟨t,z,rfl,h2⟩;obtain⟨c1,l1⟩:=HQ.out _ _ _ h2;have HH2:=aB h2;clear h2;go_wp2_with fail;exact⟨rfl,rfl,HN.out _ _ _ HH2.out⟩
def yG(own:List Nat)(w:World):Prop:=∀W,Kept own w W→kI W
theorem yG.step{own own':List Nat}{w w':World}(h:yG own w)(hk:Kept own w w')(ho:∀x∈own',x∈own∨w.heap.size≤x):yG own' w':=fun W hW=>h W (hk.trans hW ho)
section
variable {fp:Nat→Value} {F:Nat→Prop} {base:Nat} {w:World} {sb gf cap:Nat} {t0 tv outv s0:Value} {fvs:List FVal} {below:List aK} {f:aK} {tape:List Int} {out:List (List UInt8)}
theorem cO.printed{m:cM}{w5:World}{ob:Obj}{g5 cap5:Nat}{tx:List UInt8}(h:cO fp F base w sb gf cap t0 tv outv s0 fvs m)
 (p2:w5.ownsRow base 9 1 (.slice (some ⟨g5,0,none⟩) (m.out.length+1) cap5) (m.out.length+1) (lA m.out++[.string (bs tx)])) (hg:(w.alloc ob).grownBy w5 outv.ownBlock) (hat:outv.ownBlock=some g5∨w.heap.size+1≤g5):
 cO fp F base (w5.setCell ⟨sb,3,none⟩ (.slice (some ⟨g5,0,none⟩) (m.out.length+1) cap5)) sb gf cap t0 tv (.slice (some ⟨g5,0,none⟩) (m.out.length+1) cap5) s0 fvs ⟨m.frames,m.tape,m.out++[tx]⟩∧Kept (aF sb gf outv fvs) w (w5.setCell ⟨sb,3,none⟩ (.slice (some ⟨g5,0,none⟩) (m.out.length+1) cap5))∧
  ∀k∈aF sb gf (.slice (some ⟨g5,0,none⟩) (m.out.length+1) cap5) fvs,k∈aF sb gf outv fvs∨w.heap.size≤k:=by
 obtain⟨n1,n2⟩:=List.nodup_cons.1 h.nodup;obtain⟨n3,n4⟩:=List.nodup_cons.1 n2;obtain⟨n5,n6,n7⟩:=List.nodup_append.1 n4
 have hk:∀k,k<w.heap.size→some k≠outv.ownBlock→w5.heap[k]?=w.heap[k]?:=fun k h1 h2=>by
  rw[hg.block k (by simp;omega) h2,Below.heap_alloc _ _ _ h1]
 have hk2:∀k,k<w.heap.size→some k≠outv.ownBlock→k≠sb→(w5.setCell ⟨sb,3,none⟩ (.slice (some ⟨g5,0,none⟩) (m.out.length+1) cap5)).heap[k]?=w.heap[k]?:=fun k h1 h2 h3=>by
  rw[Below.heap_setCell _ _ _ _ h3,hk k h1 h2]
 have hsbl:sb<w.heap.size:=h.lt sb (by simp[aF])
 have hsbo:some sb≠outv.ownBlock:=fun e=>n1 (by simp[←e])
 have hgfo:some gf≠outv.ownBlock:=fun e=>n3 (by simp[←e])
 have hgs:gf≠sb:=fun e=>n1 (by simp[e])
 have hblk:w5.heap[sb]?=_:=(hk sb hsbl hsbo).trans h.blk
 have hown:∀k∈aS fvs,k<w.heap.size∧some k≠outv.ownBlock∧k≠sb∧k≠gf:=fun k hm=>
  ⟨h.lt k (by simp[aF,hm]),fun e=>n7 k (by simp[←e]) k hm rfl,fun e=>n1 (by simp[←e,hm]),fun e=>n3 (by simp[←e,hm])⟩
 have hg5:g5≠sb∧g5≠gf∧g5∉aS fvs:=by
  rcases hat with e|e
  ·exact⟨fun e2=>hsbo (by rw[e,e2]),fun e2=>hgfo (by rw[e,e2]),fun hm=>(hown g5 hm).2.1 e.symm⟩
  ·have hgl:gf<w.heap.size:=h.lt gf (by simp[aF])
   exact⟨by omega,by omega,fun hm=>by have:=(hown g5 hm).1;omega⟩
 have hFk:∀b,F b→(w5.setCell ⟨sb,3,none⟩ (.slice (some ⟨g5,0,none⟩) (m.out.length+1) cap5)).heap[b]?=w.heap[b]?:=fun b hb=>
  hk2 b (h.apart b hb).1 (fun e=>(h.apart b hb).2 (by simp[aF,←e])) fun e=>(h.apart b hb).2 (by simp[aF,e])
 have hsz:w.heap.size≤w5.heap.size:=Nat.le_trans (by simp) hg.size
 have hob:(Value.slice (some ⟨g5,0,none⟩) (m.out.length+1) cap5).ownBlock=some g5:=rfl;have hg5l:g5<w5.heap.size:=(p2.lt g5 hob).2;refine⟨⟨aQ hblk,aY h.row fun k e=>?_,h.frs.keep hFk (fun _ h=>h) fun v hv k hkm=>?_,h.tape.keep hFk (fun _ h=>h),?_,?_,fun k hkm=>?_,fun k hkF=>?_⟩,⟨hg.os.trans rfl,hg.tape.trans rfl,hg.output.trans rfl,by simpa using hsz,fun k h1 h2=>?_⟩,fun k hkm=>?_⟩
 ·cases e;exact hk2 gf (h.lt gf (by simp[aF])) hgfo hgs
 ·have hm:k∈aS fvs:=List.mem_flatMap.2 ⟨v,hv,hkm⟩;obtain⟨q1,q2,q3,_⟩:=hown k hm;exact hk2 k q1 q2 q3
 ·rw[List.length_append];have e:lA (m.out++[tx])=lA m.out++[.string (bs tx)]:=by simp[lA]
  rw[e];exact aY p2 fun k hk'=>Below.heap_setCell _ _ _ _ (by cases hk';exact hg5.1)
 ·unfold aF;rw[hob];refine List.nodup_cons.2 ⟨fun hm=>?_,List.nodup_cons.2 ⟨fun hm=>?_,List.nodup_append.2 ⟨by simp,n6,fun a ha b hb e=>?_⟩⟩⟩
  ·rcases List.mem_cons.1 hm with e|hm
   ·exact hgs e.symm
   ·rcases List.mem_append.1 hm with hm|hm
    ·simp at hm;exact hg5.1 hm.symm
    ·exact(hown sb hm).2.2.1 rfl
  ·rcases List.mem_append.1 hm with hm|hm
   ·simp at hm;exact hg5.2.1 hm.symm
   ·exact(hown gf hm).2.2.2 rfl
  ·simp at ha;subst e;exact hg5.2.2 (by rw[←ha];exact hb)
 ·have:(w5.setCell ⟨sb,3,none⟩ (.slice (some ⟨g5,0,none⟩) (m.out.length+1) cap5)).heap.size=w5.heap.size:=by simp
  rw[this];unfold aF at hkm;rw[hob] at hkm;simp only[Option.toList_some,List.mem_cons,List.mem_append,List.not_mem_nil,or_false] at hkm;rcases hkm with rfl|rfl|rfl|hm
  ·exact Nat.lt_of_lt_of_le hsbl hsz
  ·exact Nat.lt_of_lt_of_le (h.lt _ (by simp[aF])) hsz
  ·exact hg5l
  ·exact Nat.lt_of_lt_of_le (hown k hm).1 hsz
 ·obtain⟨h1,h2⟩:=h.apart k hkF;refine⟨Nat.lt_of_lt_of_le h1 (by simpa using hsz),fun hm=>?_⟩
  unfold aF at hm;rw[hob] at hm;simp only[Option.toList_some,List.mem_cons,List.mem_append,List.not_mem_nil,or_false] at hm;rcases hm with rfl|rfl|rfl|hm
  ·exact h2 (by simp[aF])
  ·exact h2 (by simp[aF])
  ·rcases hat with e|e
   ·exact h2 (by simp[aF,e])
   ·omega
  ·exact h2 (by simp[aF,hm])
 ·exact hk2 k h1 (fun e=>h2 (by simp[aF,←e])) fun e=>h2 (by simp[aF,e])
 ·unfold aF at hkm;rw[hob] at hkm;simp only[Option.toList_some,List.mem_cons,List.mem_append,List.not_mem_nil,or_false] at hkm;rcases hkm with rfl|rfl|rfl|hm
  ·exact Or.inl (by simp[aF])
  ·exact Or.inl (by simp[aF])
  ·rcases hat with e|e
   ·exact Or.inl (by simp[aF,e])
   ·exact Or.inr (by omega)
  ·exact Or.inl (by simp[aF,hm])
theorem ZT(tab:List eJ){vs:List aI}{b:aI}(h:cO fp F base w sb gf cap t0 tv outv s0 fvs ⟨below++[f],tape,out⟩)(hp:yG (aF sb gf outv fvs) w)(hbel:below.length≤15)(hbase:base≤w.heap.size)(hops:f.ops.length≤99000)(hf:f.ops=vs++[b])(hol:out.length≤50):
 Calls Tryz.prog 408 #[.agg #[],.pointer (some ⟨sb,0,none⟩)] w (R6 fp F base sb t0 s0 (aF sb gf outv fvs) w (cC tab .print below f tape out)):=by
 have hM:=h.mid hbase (.cells #[] 448);obtain⟨fb,v,cur,rfl,hfl, -⟩:=h.top;have h0:=h.grow ((Below.refl _ w).alloc (Nat.le_refl _) (.cells #[] 448)) (fun _ h=>h) (fun _ h=>Or.inl h)
 have hT:=hM.topS hbel;rw[←hfl] at hT;have hK0:Kept (aF sb gf outv (fb++[v])) w (w.alloc (.cells #[] 448)):=Kept.of_below ((Below.refl _ w).alloc (Nat.le_refl _) _);generalize hw0:w.alloc (.cells #[] 448)=w0 at h0 hT hK0;obtain⟨x,c,rfl⟩:=cP h.out;have hlast:f.last=b:=iF hf
 have HP:Hid (∀W,aW w0 W→Calls Tryz.prog 171 #[.pointer (some ⟨gf,fb.length*6,none⟩)] W fun e w'=>∃t z,e=.returned (.iface t z)∧(PV F w' (.iface t z) b∧aJ b≤200∧qD fp F base sb gf cap t0 tv (.slice x out.length c) s0 fb v below f.pop tape out w0 w')):=fun W hS=>by
  refine((h0.grow hS.below (fun _ h=>h) (fun _ h=>Or.inl h)).popR hf (by omega)).mono ?_
  rintro e w' ⟨t,z,ov',he,h1,h2,h3,h4,h5,h6⟩;exact⟨t,z,he,h1,h2,ov',h3,h4,(Kept.of_below (own:=aF sb gf (.slice x out.length c) (fb++[v])) hS.below).trans h5 fun _ h=>Or.inl h,fun k _ hk=>by rw[h6 k hk,hS.heap]⟩
 have hrd:∀{W:World} {f':aK},qD fp F base sb gf cap t0 tv (.slice x out.length c) s0 fb v below f' tape out w0 W→W.cell? ⟨sb,3,none⟩=some (.slice x out.length c)∧sb<W.heap.size∧base≤W.heap.size∧Kept (aF sb gf (.slice x out.length c) (fb++[v])) w W:=fun hq=>by
  obtain⟨ov',_,h2,h3,_⟩:=hq;exact⟨aA h2.blk rfl,aD h2.blk,Nat.le_trans hbase (Nat.le_trans hK0.size h3.size),hK0.trans h3 fun _ h=>Or.inl h⟩
 by_cases h50:out.length=50
 ·rw[h50] at hrd HP;refine(IE w w0 sb gf (fb.length*6) c x (fun w'=>Done fp F base sb t0 s0 (aF sb gf (.slice x out.length c) (fb++[v])) w ⟨below++[f.pop],tape,out⟩ w') (fun t z W=>PV F W (.iface t z) b∧aJ b≤200∧qD fp F base sb gf cap t0 tv (.slice x 50 c) s0 fb v below f.pop tape out w0 W) hw0 hT HP (fun W t z hq=>?_) (fun W t z hq=>?_)).mono ?_
  ·obtain⟨q1,q2,_⟩:=hrd hq.2.2;exact⟨q1,q2⟩
  ·subst hw0;rw[h50];exact hq.2.2.done (Ext.refl _ _)
  ·rintro e w' ⟨rfl,h2⟩;have e1:cC tab .print below f tape out=(⟨below++[f.pop],tape,out⟩,8):=by simp[cC,h50]
   rw[e1];exact⟨Or.inr ⟨show (8:Nat)≠0 by decide,rfl⟩,h2⟩
 ·refine(ID w w0 sb gf (fb.length*6) base out.length c x (jC b) (by omega) (fun w'=>Done fp F base sb t0 s0 (aF sb gf (.slice x out.length c) (fb++[v])) w ⟨below++[f.pop],tape,out++[jC b]⟩ w') (fun t z W=>PV F W (.iface t z) b∧aJ b≤200∧qD fp F base sb gf cap t0 tv (.slice x out.length c) s0 fb v below f.pop tape out w0 W) (fun W=>qD fp F base sb gf cap t0 tv (.slice x out.length c) s0 fb v below f.pop tape out w0 W) (lA out) hw0 hT HP (fun W t z hq=>?_) (fun W W' t z hq hS=>?_) (fun W hq=>?_) (fun W hq=>?_) (fun W hq=>?_) (fun W hq=>?_)).mono ?_
  ·obtain⟨q1,q2,_⟩:=hrd hq.2.2;exact⟨q1,q2⟩
  ·obtain⟨p1,p2,hq⟩:=hq;have hq':=hq.grow hS.below (fun _ h=>h) (fun _ h=>Or.inl h)
   have hFlt:∀k,F k→k<W'.heap.size:=fun k hk=>by obtain⟨_,_,h2,_⟩:=hq';exact(h2.apart k hk).1
   refine(VF F _ b W' (p1.keep fun k _=>by rw[hS.heap]) hFlt (hp W' (hrd hq').2.2.2) (by omega)).mono ?_
   rintro e w' ⟨he,hb⟩;exact⟨he,hq'.grow hb (fun _ h=>h) (fun _ h=>Or.inl h)⟩
  ·obtain⟨q1,q2,q3,_⟩:=hrd hq;exact⟨q1,q2,q3⟩
  ·obtain⟨_,_,h2,_⟩:=hq;exact h2.out
  ·intro w5 hg;obtain⟨ov',_,h2,_⟩:=hq;have hsl:=aD h2.blk;have hsbo:some sb≠(Value.slice x out.length c).ownBlock:=fun e=>(List.nodup_cons.1 h2.nodup).1 (by simp[←e])
   have e5:w5.heap[sb]?=_:=(hg.block sb (by simp;omega) hsbo).trans ((Below.heap_alloc _ _ _ hsl).trans h2.blk)
   exact⟨⟨_,aA e5 rfl⟩,aE e5,aD e5⟩
  ·intro g5 cap5 w5 p2 hg hat;obtain⟨ov',h1,h2,h3,h4⟩:=hq;obtain⟨q1,q2,q3⟩:=h2.printed (tx:=jC b) p2 hg hat;have hown2:aF sb gf (.slice x out.length c) (fb++[{ v with ov:=ov' }])=aF sb gf (.slice x out.length c) (fb++[v]):=by simp[aF,aS,FVal.owns,h1]
   rw[hown2] at q2 q3;have hk3:=hK0.trans h3 fun _ h=>Or.inl h
   exact⟨hk3.trans q2 fun _ h=>Or.inl h,F,gf,cap,tv,_,_,Ext.refl _ _,q1,fun k hk=>(q3 k hk).imp_right fun h=>Nat.le_trans hk3.size h⟩
  ·rintro e w' ⟨rfl,h2⟩;have e1:cC tab .print below f tape out=(⟨below++[f.pop],tape,out++[jC b]⟩,0):=by simp[cC,h50,hlast]
   rw[e1];exact⟨Or.inl ⟨rfl,rfl⟩,h2⟩
end
theorem JS{W:World}{b:Nat}{s:SV}{T:TypeId}(h:W.heap[b]?=some (.cells s.cells T (0,0))):W.cell? ⟨b,0,none⟩=some (.int .i64 s.t)∧W.cell? ⟨b,1,none⟩=some (.slice s.x1 s.n1 s.c1)∧W.cell? ⟨b,2,none⟩=some (.slice s.x2 s.n2 s.c2)∧W.cell? ⟨b,3,none⟩=some (.slice s.x3 s.n3 s.c3)∧W.cell? ⟨b,4,none⟩=some (.int .i64 s.q):=
 ⟨aA h rfl,aA h rfl,aA h rfl,aA h rfl,aA h rfl⟩
theorem MF(w:World)(s:SV)(P A3:SV→World→Prop)(A1:Option Addr→Nat→Nat→World→Prop)(A2:Option Addr→Nat→Nat→Option Addr→Nat→Nat→World→Prop)
 (HS:Hid (∀W,aW ((w.alloc (.cells s.cells 108)).alloc (.cells #[.int .i64 0,.slice none 0 0,.slice none 0 0,.slice none 0 0,.int .i64 0] 63)) W→Calls Tryz.prog 107 #[s.val] W fun e w'=>∃x n c,e=.returned (.slice x n c)∧A1 x n c w'))
 (HV:Hid (∀x n c W,A1 x n c W→W.heap[w.heap.size]?=some (.cells s.cells 108 (0,0))∧Calls Tryz.prog 108 #[s.val] W fun e w'=>∃x2 n2 c2,e=.returned (.slice x2 n2 c2)∧A2 x n c x2 n2 c2 w'))
 (HC:Hid (∀x n c x2 n2 c2 W,A2 x n c x2 n2 c2 W→W.heap[w.heap.size]?=some (.cells s.cells 108 (0,0))∧Calls Tryz.prog 109 #[.slice s.x3 s.n3 s.c3] W fun e w'=>∃x3 n3 c3,e=.returned (.slice x3 n3 c3)∧A3 ⟨s.t,x,x2,x3,n,n2,n3,c,c2,c3,s.q⟩ w'))
 (HP:Hid (∀m W,A3 m W→W.heap[w.heap.size]?=some (.cells s.cells 108 (0,0))∧(∃c,W.heap[w.heap.size+1]?=some (.cells c 63 (0,0))∧c.size=5)∧P m (eT W (w.heap.size+1) m))):
 Calls Tryz.prog 60 #[s.val] w fun e w'=>∃m:SV,e=.returned m.val∧P m w':=by
 unfold SV.val SV.cells at HS;have HV':=HV;unfold SV.val at HV';unfold SV.val;go_enter Tryz.func60,Tryz.ntmps60;go_wp2_with fail;have HH:=aB (aW.drew ((w.alloc (.cells #[.int .i64 s.t,.slice s.x1 s.n1 s.c1,.slice s.x2 s.n2 s.c2,.slice s.x3 s.n3 s.c3,.int .i64 s.q] 108)).alloc (.cells #[.int .i64 0,.slice none 0 0,.slice none 0 0,.slice none 0 0,.int .i64 0] 63)));have hb0:((w.alloc (.cells #[.int .i64 s.t,.slice s.x1 s.n1 s.c1,.slice s.x2 s.n2 s.c2,.slice s.x3 s.n3 s.c3,.int .i64 s.q] 108)).alloc (.cells #[.int .i64 0,.slice none 0 0,.slice none 0 0,.slice none 0 0,.int .i64 0] 63)).drew.heap[w.heap.size]?=some (.cells (SV.cells s) 108 (0,0)):=(Below.heap_alloc _ _ _ (by simp)).trans (aR _ _ rfl _)
 have c2:=JS hb0;clear hb0;refine wp_region_held_drew (S:=fun W=>W.cell? ⟨w.heap.size,0,none⟩=some (.int .i64 s.t)∧W.cell? ⟨w.heap.size,1,none⟩=some (.slice s.x1 s.n1 s.c1)∧W.cell? ⟨w.heap.size,2,none⟩=some (.slice s.x2 s.n2 s.c2)∧W.cell? ⟨w.heap.size,3,none⟩=some (.slice s.x3 s.n3 s.c3)∧W.cell? ⟨w.heap.size,4,none⟩=some (.int .i64 s.q)) (by kernel_rfl) c2 (fun hHeld=>?_)
 clear c2;(refine wpAnyH_take (i:=0) (v:=?_) rfl (by kernel_rfl) (by kernel_rfl) (by kernel_rfl) (fun _ _ _ h=>h) (Or.inl ⟨by rfl,?_⟩) hHeld ?_;rotate_left;(rintro w ⟨q0,q1,q2,q3,q4⟩;go_simp<;>with_reducible rfl))
 (refine wpAnyH_take (i:=1) (v:=?_) rfl (by kernel_rfl) (by kernel_rfl) (by kernel_rfl) (fun _ _ _ h=>h) (Or.inl ⟨by rfl,?_⟩) hHeld ?_;rotate_left;(rintro w ⟨q0,q1,q2,q3,q4⟩;go_simp<;>with_reducible rfl))
 (refine wpAnyH_take (i:=2) (v:=?_) rfl (by kernel_rfl) (by kernel_rfl) (by kernel_rfl) (fun _ _ _ h=>h) (Or.inl ⟨by rfl,?_⟩) hHeld ?_;rotate_left;(rintro w ⟨q0,q1,q2,q3,q4⟩;go_simp<;>with_reducible rfl))
 (refine wpAnyH_take (i:=4) (v:=?_) rfl (by kernel_rfl) (by kernel_rfl) (by kernel_rfl) (fun _ _ _ h=>h) (Or.inl ⟨by rfl,?_⟩) hHeld ?_;rotate_left;(rintro w ⟨q0,q1,q2,q3,q4⟩;go_simp<;>with_reducible rfl))
 (refine wpAnyH_take (i:=6) (v:=?_) rfl (by kernel_rfl) (by kernel_rfl) (by kernel_rfl) (fun _ _ _ h=>h) (Or.inl ⟨by rfl,?_⟩) hHeld ?_;rotate_left;(rintro w ⟨q0,q1,q2,q3,q4⟩;go_simp<;>with_reducible rfl))
 (refine wpAnyH_take (i:=7) (v:=?_) rfl (by kernel_rfl) (by kernel_rfl) (by kernel_rfl) (fun _ _ _ h=>h) (Or.inl ⟨by rfl,?_⟩) hHeld ?_;rotate_left;(rintro w ⟨q0,q1,q2,q3,q4⟩;go_simp<;>with_reducible rfl))
 (refine wpAnyH_take (i:=9) (v:=?_) rfl (by kernel_rfl) (by kernel_rfl) (by kernel_rfl) (fun _ _ _ h=>h) (Or.inl ⟨by rfl,?_⟩) hHeld ?_;rotate_left;(rintro w ⟨q0,q1,q2,q3,q4⟩;go_simp<;>with_reducible rfl))
 (refine wpAnyH_take (i:=10) (v:=?_) rfl (by kernel_rfl) (by kernel_rfl) (by kernel_rfl) (fun _ _ _ h=>h) (Or.inl ⟨by rfl,?_⟩) hHeld ?_;rotate_left;(rintro w ⟨q0,q1,q2,q3,q4⟩;go_simp<;>with_reducible rfl))
 refine wpAnyH_ready (rs:=[3]) (by kernel_rfl) (by simp) ?_
 refine AllReadyH.cons rfl (fun K hK=>?_) AllReadyH.nil
 go_simp;go_at_call 107
 refine(HS.out _ HH.out).mono ?_;rintro e w3 ⟨x1,n1,c1,rfl,h3⟩;obtain⟨hb3,hv3⟩:=HV'.out _ _ _ _ h3;have HV3:=aB hv3;have cw3:=JS hb3;clear h3 hb3 hv3 HS HV HV' HH;go_wp2_with fail;refine hK.out _ _ cw3 (fun hHeld=>?_)
 clear hK K cw3;refine wpAnyH_ready (rs:=[5]) (by kernel_rfl) (by simp) ?_
 refine AllReadyH.cons rfl (fun K hK=>?_) AllReadyH.nil
 go_simp;go_at_call 108
 refine HV3.out.mono ?_;rintro e w4 ⟨x2,n2,c2,rfl,h4⟩;obtain⟨hb4,hv4⟩:=HC.out _ _ _ _ _ _ _ h4;have HC4:=aB hv4;have cw4:=JS hb4;clear h4 hb4 hv4 HC HV3;go_wp2_with fail;refine hK.out _ _ cw4 (fun hHeld=>?_)
 clear hK K cw4;refine wpAnyH_ready (rs:=[8]) (by kernel_rfl) (by simp) ?_
 refine AllReadyH.cons rfl (fun K hK=>?_) AllReadyH.nil
 go_simp;go_at_call 109
 refine HC4.out.mono ?_;rintro e w5 ⟨x3,n3,c3,rfl,h5⟩;obtain⟨hb5,⟨c,hm5,hc5⟩,hp5⟩:=HP.out _ _ h5;have cw5:=JS hb5;have HP5:=aB hp5;have HM5:=aB hm5;clear h5 hb5 hp5 HP HC4;go_wp2_with fail;refine hK.out _ _ cw5 (fun hHeld=>?_)
 clear hK K;(refine wpAnyH_take (i:=11) (v:=?_) rfl (by kernel_rfl) (by kernel_rfl) (by kernel_rfl) (fun _ _ _ h=>h) (Or.inl ⟨by rfl,?_⟩) hHeld ?_;rotate_left;(rintro w ⟨q0,q1,q2,q3,q4⟩;go_simp<;>with_reducible rfl))
 refine wpAnyH_ready (rs:=[12]) (by kernel_rfl) (by simp) ?_
 refine AllReadyH.cons rfl (fun K hK=>?_) AllReadyH.nil
 have g0:=aA (i:=0) HM5.out (Array.getElem?_eq_getElem (by omega))
 have g1:=aA (i:=1) HM5.out (Array.getElem?_eq_getElem (by omega))
 have g2:=aA (i:=2) HM5.out (Array.getElem?_eq_getElem (by omega))
 have g3:=aA (i:=3) HM5.out (Array.getElem?_eq_getElem (by omega))
 have g4:=aA (i:=4) HM5.out (Array.getElem?_eq_getElem (by omega))
 have f0:=aE (i:=0) HM5.out;have f1:=aE (i:=1) HM5.out;have f2:=aE (i:=2) HM5.out;have f3:=aE (i:=3) HM5.out;have f4:=aE (i:=4) HM5.out;have l5:=aD HM5.out;have hs:=nP (W:=w5) (s:=⟨s.t,x1,x2,x3,n1,n2,n3,c1,c2,c3,s.q⟩) HM5.out (by omega) rfl
 have hk5:∀i,(eT w5 (w.heap.size+1) ⟨s.t,x1,x2,x3,n1,n2,n3,c1,c2,c3,s.q⟩).cell? ⟨w.heap.size,i,none⟩=w5.cell? ⟨w.heap.size,i,none⟩:=fun i=>World.cell?_of_block (dR _ _ _ _ (show w.heap.size≠w.heap.size+1 by omega))
 have HC5:=aB hs;have HK5:=aB hk5;clear hm5 hs hk5;unfold eT at HC5 HP5 HK5;go_simp;refine hK.out _ _ ⟨(HK5.out 0).trans cw5.1,(HK5.out 1).trans cw5.2.1,(HK5.out 2).trans cw5.2.2.1,(HK5.out 3).trans cw5.2.2.2.1,(HK5.out 4).trans cw5.2.2.2.2⟩ (fun hHeld=>?_)
 refine wpAnyH_done (by kernel_rfl) ?_ _
 have HC5':=HC5.out;have HP5':=HP5.out;clear HC5 HP5 HM5 HK5 g0 g1 g2 g3 g4 f0 f1 f2 f3 f4 hHeld hK cw5;generalize ((((w5.setCell ⟨w.heap.size+1,0,none⟩ (.int .i64 s.t)).setCell ⟨w.heap.size+1,1,none⟩ (.slice x1 n1 c1)).setCell ⟨w.heap.size+1,2,none⟩ (.slice x2 n2 c2)).setCell ⟨w.heap.size+1,3,none⟩ (.slice x3 n3 c3)).setCell ⟨w.heap.size+1,4,none⟩ (.int .i64 s.q)=W6 at HC5' HP5' ⊢
 obtain⟨r0,r1,r2,r3,r4⟩:=HC5';have HPP:=aB HP5';clear HP5';go_wp2_with fail;exact bodyPost_ret (v:=.agg #[.int .i64 s.t,.slice x1 n1 c1,.slice x2 n2 c2,.slice x3 n3 c3,.int .i64 s.q]) (by simp[results,Tryz.results60,go_sem,r0,r1,r2,r3,r4]) rfl ⟨_,rfl,HPP.out⟩
end Go.Proofs.YtblbkfdhjfppkaaGreatDoor
namespace Go.Proofs.YtblbkfdhjfppkaaGreatDoor.Hs
structure fC(ar:Nat→Option Nat)(m:cM):Prop where
 ok:mK ar m
 start:∀f∈m.frames,gY f.fn.code
theorem cE.pushed{ar:Nat→Option Nat}{f:aK}(h:cE ar f 1)(v:aI):cE ar (f.push v) 0:=by
 obtain⟨⟨T,h1,h2,h3,h4⟩,h5,h6,h7⟩:=h;exact⟨⟨T,h1,by show (T f.next).h=(f.ops++[v]).length+0;simp;omega,h3,h4⟩,h5,h6,h7⟩
theorem FT{tab:List eJ}{i:aH}{below:List aK}{f:aK}{t:List Int}{o:List (List UInt8)}(hn:i≠.give)(hr:i≠.read)(hp:i≠.print)(hk:∀k n,i≠.call k n):cC tab i below f t o=(⟨below++[(aN i f).1],t,o⟩,(aN i f).2):=by
 cases i<;>first|rfl|exact absurd rfl hn|exact absurd rfl hr|exact absurd rfl hp|exact absurd rfl (hk _ _)
theorem rC(i:aH)(f:aK):(aN i f).1.fn=f.fn:=by
 cases i<;>simp only[aN]<;>(repeat' split)<;>rfl
theorem vM{ar:Nat→Option Nat}{tab:List eJ}(ht:jF ar tab){below:List aK}{f:aK}{t:List Int}{o:List (List UInt8)}(h:fC ar ⟨below++[f],t,o⟩){i:aH}{g:aK}(hf:f.fetch=some (i,g)):
 (∀x∈(cC tab i below g t o).1.frames,x.seen.length≤x.vars.length)∧(cC tab i below g t o).1.frames.length≤16∧((cC tab i below g t o).2=0→fC ar (cC tab i below g t o).1):=by
 have hlow:∀x∈below,cE ar x 1:=by have:=h.ok.low;simpa only[fQ] using this
 have htop:cE ar f 0:=h.ok.top f (eW _ _);have hdeep:below.length+1≤16:=by have:=h.ok.deep;simpa using this
 have hst1:∀x∈below,gY x.fn.code:=fun x hx=>h.start x (by simp[hx])
 have hst2:gY f.fn.code:=h.start f (by simp)
 obtain⟨⟨T,hc,hh,hv,he⟩,hnx,hs,hm⟩:=htop
 obtain⟨rfl,hi⟩:g={ f with next:=f.next+1 }∧f.fn.code[f.next]?=some i:=by
  unfold aK.fetch at hf;cases hx:f.fn.code[f.next]? with
  |none=>rw[hx] at hf;cases hf
  |some j=>rw[hx] at hf;simp at hf;exact⟨hf.2.symm,by rw[hf.1]⟩
 have hio:=hc.ins _ _ hi;have hls:∀x∈below,x.seen.length≤x.vars.length:=fun x hx=>(hlow x hx).seen
 by_cases hn:i=.give
 ·subst hn;rcases List.eq_nil_or_concat below with rfl|⟨b,x,rfl⟩
  ·refine⟨by simp[cC],by simp[cC],fun _=>⟨⟨by simp[cC],by simp[cC],by simp[cC]⟩,by simp[cC]⟩⟩
  ·rw[List.concat_eq_append] at*;have e:cC tab .give (b++[x]) { f with next:=f.next+1 } t o=(⟨b++[x.push (aK.last { f with next:=f.next+1 })],t,o⟩,0):=by simp[cC]
   rw[e];refine⟨fun y hy=>?_,by simp at hdeep ⊢;omega,fun _=>⟨mK.snoc (fun y hy=>hlow y (by simp[hy])) ((hlow x (by simp)).pushed _) (by simp at hdeep;omega),fun y hy=>?_⟩⟩
   ·rcases List.mem_append.1 hy with hy|hy
    ·exact hls y (by simp[hy])
    ·rw[List.mem_singleton.1 hy];exact hls x (by simp)
   ·rcases List.mem_append.1 hy with hy|hy
    ·exact hst1 y (by simp[hy])
    ·rw[List.mem_singleton.1 hy];exact hst1 x (by simp)
 have hone:∀y:aK,y.seen.length≤y.vars.length→∀x∈below++[y],x.seen.length≤x.vars.length:=fun y hy x hx=>by
  rcases List.mem_append.1 hx with hx|hx
  ·exact hls x hx
  ·rw[List.mem_singleton.1 hx];exact hy
 have hall:∀y:aK,cE ar y 0→y.fn=f.fn→∀t o,fC ar ⟨below++[y],t,o⟩:=fun y hy hfn t o=>⟨mK.snoc hlow hy hdeep,fun x hx=>by
  rcases List.mem_append.1 hx with hx|hx
  ·exact hst1 x hx
  ·rw[List.mem_singleton.1 hx,hfn];exact hst2⟩
 by_cases hr:i=.read
 ·subst hr;cases t with
  |nil=>exact⟨hone _ hs,by simp[cC];omega,fun hz=>by simp[cC] at hz⟩
  |cons a r=>exact⟨hone _ hs,by simp[cC];omega,fun _=>hall (aK.push { f with next:=f.next+1 } (bB a)) (cE.flow (f:=f) hc hio.2.2 rfl (by rw[aK.push_len];simp only;omega) hv he hs hm) rfl _ _⟩
 by_cases hp:i=.print
 ·subst hp;simp only[cC];split
  ·exact⟨hone _ hs,by simp;omega,fun hz=>by simp at hz⟩
  ·exact⟨hone _ hs,by simp;omega,fun _=>hall (aK.pop { f with next:=f.next+1 }) (cE.flow (f:=f) hc hio.2.2.2 rfl (by rw[aK.pop_len];simp only;omega) hv he hs hm) rfl _ _⟩
 by_cases hk:∃k n,i=.call k n
 ·obtain⟨k,n,rfl⟩:=hk;simp only[cC];split
  ·exact⟨hone _ hs,by simp;omega,fun hz=>by simp at hz⟩
  ·rename_i hd;obtain⟨_,_,hio1,hio2,hio3⟩:=hio;obtain⟨c,U,c1,c2,c3,c4,c5,c6⟩:=ht.fn k n hio2;have hlen:(aK.many { f with next:=f.next+1 } n).length=n:=by simp[aK.many];omega
   rw[c1]
   have hnew:cE ar ⟨c,0,0,[],aK.many { f with next:=f.next+1 } n,[]⟩ 0:=by
    refine⟨⟨U,c2,by simp[c3],by simp only[hlen];exact c4,Or.inl c5⟩,?_,by simp,by simp only[hlen];have:=c2.len;have:=hc.len;have:=(hc.ins _ _ hi).2.1;omega⟩
    rcases c6 with ⟨l,s,r,e⟩|⟨v,e⟩<;>simp[e]
   have hold:cE ar (aK.popMany { f with next:=f.next+1 } n) 1:=by
    obtain⟨f1,f2,f3,f4⟩:=hio3;refine⟨⟨T,hc,?_,Nat.le_trans f3 hv,?_⟩,f1,hs,hm⟩
    ·rw[aK.popMany_len];show (T (f.next+1)).h=_;simp only;omega
    ·rcases f4 with f4|f4
     ·exact Or.inl f4
     ·show (T (f.next+1)).e=none∨(T (f.next+1)).e=_;rw[f4];exact he
   have e1:below++[aK.popMany { f with next:=f.next+1 } n,(⟨c,0,0,[],aK.many { f with next:=f.next+1 } n,[]⟩:aK)]=(below++[aK.popMany { f with next:=f.next+1 } n])++[(⟨c,0,0,[],aK.many { f with next:=f.next+1 } n,[]⟩:aK)]:=by simp
   simp only[Option.getD_some];rw[e1];refine⟨fun x hx=>?_,by simp;omega,fun _=>⟨mK.snoc (fun x hx=>?_) hnew (by simp;omega),fun x hx=>?_⟩⟩
   ·rcases List.mem_append.1 hx with hx|hx
    ·exact hone _ hold.seen x hx
    ·rw[List.mem_singleton.1 hx];exact hnew.seen
   ·rcases List.mem_append.1 hx with hx|hx
    ·exact hlow x hx
    ·rw[List.mem_singleton.1 hx];exact hold
   ·rcases List.mem_append.1 hx with hx|hx
    ·rcases List.mem_append.1 hx with hx|hx
     ·exact hst1 x hx
     ·rw[List.mem_singleton.1 hx];exact hst2
    ·rw[List.mem_singleton.1 hx];exact c6
 have hk':∀k n,i≠.call k n:=fun k n e=>hk ⟨k,n,e⟩
 rw[FT hn hr hp hk'];have hin:=DL hc hio hh hv he hs hm hn hr hp hk' _ rfl;exact⟨hone _ hin.1,by simp;omega,fun hz=>hall _ (hin.2 hz) (rC _ _) _ _⟩
def iY(f:aK):Nat:=if f.next=0 then 2 else if f.fn.code.length=2 then 1 else 4*(f.fn.code.length-f.next)
def wgts(l:List aK):Nat:=(l.map iY).sum
theorem xX{ar:Nat→Option Nat}{T:Nat→dU}{f:aK}{i:aH}(hi:hJ ar (fun q=>q<f.fn.code.length) T f.next i)
 (hb:i.isBegin=false) (hn:i≠.give) (hr:i≠.read) (hp:i≠.print) (hk:∀k n,i≠.call k n):
 (aN i { f with next:=f.next+1 }).2=0→(f.next<(aN i { f with next:=f.next+1 }).1.next∧(aN i { f with next:=f.next+1 }).1.next<f.fn.code.length)∨(T (aN i { f with next:=f.next+1 }).1.next).b=true∧(aN i { f with next:=f.next+1 }).1.next<f.fn.code.length:=by
 obtain⟨_,_,hi⟩:=hi;intro hz;cases i with
 |give=>exact absurd rfl hn
 |read=>exact absurd rfl hr
 |print=>exact absurd rfl hp
 |call k n=>exact absurd rfl (hk k n)
 |begin l s=>simp[aH.isBegin] at hb
 |jump q=>
  simp only at hi;obtain⟨h1|h1,h2⟩:=hi
  ·exact Or.inl ⟨h1,h2.1⟩
  ·exact Or.inr ⟨h1,h2.1⟩
 |skip q=>
  simp only[aN] at hi hz ⊢
  split
  ·simp only;split
   ·exact Or.inl ⟨Nat.lt_succ_self _,hi.2.2.2.1⟩
   ·exact Or.inl ⟨hi.2.1,hi.2.2.1.1⟩
  ·rename_i h;rw[if_neg h] at hz;simp at hz
 |shortcut w q=>
  simp only[aN] at hi hz ⊢
  split
  ·simp only;split
   ·exact Or.inl ⟨hi.2.1,hi.2.2.1.1⟩
   ·exact Or.inl ⟨Nat.lt_succ_self _,hi.2.2.2.1⟩
  ·rename_i h;rw[if_neg h] at hz;simp at hz
 |assign k n=>
  simp only[aN] at hi hz ⊢
  split<;>exact Or.inl ⟨Nat.lt_succ_self _,hi.2.2.1⟩
 |declare k=>exact Or.inl ⟨Nat.lt_succ_self _,hi.2.2.2.2.1⟩
 |push v=>exact Or.inl ⟨Nat.lt_succ_self _,hi.1⟩
 |load k=>exact Or.inl ⟨Nat.lt_succ_self _,hi.2.1⟩
 |drop=>exact Or.inl ⟨Nat.lt_succ_self _,hi.2.1⟩
 |truth=>simp only[aN] at hi ⊢;split<;>exact Or.inl ⟨Nat.lt_succ_self _,hi.2.1⟩
 |unary op=>simp only[aN] at hi ⊢;split<;>exact Or.inl ⟨Nat.lt_succ_self _,hi.2.1⟩
 |length=>simp only[aN] at hi ⊢;split<;>exact Or.inl ⟨Nat.lt_succ_self _,hi.2.1⟩
 |binary op=>simp only[aN] at hi ⊢;split<;>exact Or.inl ⟨Nat.lt_succ_self _,hi.2.1⟩
 |index=>simp only[aN] at hi ⊢;split<;>exact Or.inl ⟨Nat.lt_succ_self _,hi.2.1⟩
 |list n=>simp only[aN] at hi ⊢;split<;>exact Or.inl ⟨Nat.lt_succ_self _,hi.2.1⟩
theorem gC(l:List aK)(f:aK):wgts (l++[f])=wgts l+iY f:=by simp[wgts]
theorem yO{f:aK}(h:f.next<f.fn.code.length):1≤iY f:=by unfold iY;repeat' split
                                                       all_goals omega
theorem KG(f:aK)(v:aI):iY (f.push v)=iY f:=rfl
theorem tZ{f g:aK}{i:aH}(hs:gY f.fn.code)(hi:f.fn.code[f.next]?=some i)(hb:i.isBegin=false)(h1:g.fn=f.fn)(h2:f.next<g.next)(h3:g.next<f.fn.code.length):iY g<iY f:=by
 unfold iY;rw[h1];rcases hs with ⟨l,s,r,e⟩|⟨v,e⟩
 ·have h0:f.next≠0:=fun h=>by rw[e,h] at hi;simp at hi;rw[←hi] at hb;simp[aH.isBegin] at hb
  rw[if_neg (show g.next≠0 by omega),if_neg h0]
  split<;>omega
 ·have hl:f.fn.code.length=2:=by rw[e];rfl
  rw[hl] at h3;rw[if_neg (show g.next≠0 by omega),if_pos hl,if_pos (show f.next=0 by omega)]
  omega
theorem KH{f g:aK}{k n:Nat}(hs:gY f.fn.code)(hi:f.fn.code[f.next]?=some (.call k n))(h1:g.fn=f.fn)(h2:f.next<g.next)(h3:g.next<f.fn.code.length):iY g+2<iY f:=by
 unfold iY;rw[h1]
 have h0:f.next≠0:=fun h=>by
  rcases hs with ⟨l,s,r,e⟩|⟨v,e⟩<;>rw[e,h] at hi<;>simp at hi
 have hl:f.fn.code.length≠2:=by omega
 rw[if_neg (show g.next≠0 by omega),if_neg h0,if_neg hl]
 split
 ·omega
 ·omega
structure KE(ar:Nat→Option Nat)(r:cM × Nat):Prop where
 told:∀x∈r.1.frames,x.seen.length≤x.vars.length
 deep:r.1.frames.length≤16
 ok:r.2=0→fC ar r.1∧r.1.frames≠[]
theorem mB{l:List aK}(h:l≠[]):∃b f,l=b++[f]:=by
 rcases List.eq_nil_or_concat l with h'|⟨b,f,h'⟩
 ·exact absurd h' h
 ·exact⟨b,f,by rw[h',List.concat_eq_append]⟩
theorem wK{f:aK}(h:f.next<f.fn.code.length):f.fetch=some (f.fn.code[f.next],{ f with next:=f.next+1 }):=by
 unfold aK.fetch;rw[List.getElem?_eq_getElem h];rfl
theorem sT{ar:Nat→Option Nat}{tab:List eJ}(ht:jF ar tab){k:Nat}{b:List aK}{f:aK}{t:List Int}{o:List (List UInt8)}(h:fC ar ⟨b++[f],t,o⟩){l:Nat}{s:List (List UInt8)}(hi:f.fn.code[f.next]?=some (.begin l s)):
 ∃r,dN tab (k+1) ⟨b++[f],t,o⟩=some r∧KE ar r:=by
 have hf:f.fetch=some (.begin l s,{ f with next:=f.next+1 }):=by unfold aK.fetch;rw[hi];rfl
 obtain⟨h1,h2,h3⟩:=vM ht h hf;refine⟨cC tab (.begin l s) b { f with next:=f.next+1 } t o,?_,h1,h2,fun hz=>⟨h3 hz,by simp[cC]⟩⟩
 rw[dN];simp only[eW,hf,fQ];have hz:(cC tab (.begin l s) b { f with next:=f.next+1 } t o).2=0:=rfl
 rw[if_neg (by rw[hz];simp),if_pos (show (aH.begin l s).isBegin=true from rfl)]
theorem kO{ar:Nat→Option Nat}{tab:List eJ}(ht:jF ar tab):∀(k:Nat) (m:cM),fC ar m→wgts m.frames+2≤k→∃r,dN tab k m=some r∧KE ar r
 |0,_,_,hk=>by omega
 |k+1,⟨fr,t,o⟩,h,hk=>by
  by_cases hfr:fr=[]
  ·subst hfr;exact⟨(⟨[],t,o⟩,1),rfl,by simp,by simp,fun hz=>by simp at hz⟩
  obtain⟨b,f,rfl⟩:=mB hfr;have htop:cE ar f 0:=h.ok.top f (eW _ _);have hst:gY f.fn.code:=h.start f (by simp)
  have hf:=wK htop.next
  have hi:f.fn.code[f.next]?=some (f.fn.code[f.next]'htop.next):=List.getElem?_eq_getElem htop.next
  generalize f.fn.code[f.next]'htop.next=i at hf hi
  obtain⟨h1,h2,h3⟩:=vM ht h hf;by_cases hz:(cC tab i b { f with next:=f.next+1 } t o).2=0
  rotate_left
  ·refine⟨_,?_,h1,h2,fun h'=>absurd h' hz⟩
   rw[dN];simp only[eW,hf,fQ];rw[if_pos hz]
  cases hb:i.isBegin;rotate_left
  ·cases i<;>simp[aH.isBegin] at hb
   exact sT ht h hi
  have e:dN tab (k+1) ⟨b++[f],t,o⟩=dN tab k (cC tab i b { f with next:=f.next+1 } t o).1:=by
   rw[dN];simp only[eW,hf,fQ];rw[if_neg (by rw[hz];simp),hb]
   rfl
  rw[e];have ha:=h3 hz;simp only at hk;rw[gC] at hk;obtain⟨⟨T,hc,hh,hv,he⟩,hnx,hs,hm⟩:=htop;have hio:=hc.ins _ _ hi;by_cases hn:i=.give
  ·subst hn;refine kO ht k _ ha ?_;have hw:=yO hnx;rcases List.eq_nil_or_concat b with rfl|⟨b',x,rfl⟩
   ·simp[cC,wgts] at hk ⊢;omega
   ·rw[List.concat_eq_append] at*;have e2:(cC tab .give (b'++[x]) { f with next:=f.next+1 } t o).1.frames=b'++[x.push (aK.last { f with next:=f.next+1 })]:=by simp[cC]
    rw[e2,gC,KG];rw[gC] at hk;omega
  by_cases hr:i=.read
  ·subst hr;cases t with
   |nil=>simp[cC] at hz
   |cons a r=>
    refine kO ht k _ ha ?_;have hw:=tZ (g:=aK.push { f with next:=f.next+1 } (bB a)) hst hi rfl rfl (Nat.lt_succ_self _) hio.2.2.1
    show wgts (b++[_])+2≤k
    rw[gC];omega
  by_cases hp:i=.print
  ·subst hp;refine kO ht k _ ha ?_;have hw:=tZ (g:=aK.pop { f with next:=f.next+1 }) hst hi rfl rfl (Nat.lt_succ_self _) hio.2.2.2.1
   simp only[cC] at hz ⊢
   split at hz
   ·simp at hz
   ·rw[if_neg (by assumption)]
    show wgts (b++[_])+2≤k
    rw[gC];omega
  by_cases hkk:∃c n,i=.call c n
  ·obtain⟨c,n,rfl⟩:=hkk;refine kO ht k _ ha ?_;have hw:=KH (g:=aK.popMany { f with next:=f.next+1 } n) hst hi rfl (Nat.lt_succ_self _) hio.2.2.2.2.1
   simp only[cC] at hz ⊢
   split at hz
   ·simp at hz
   ·rw[if_neg (by assumption)]
    have e1:∀y z:aK,b++[y,z]=(b++[y])++[z]:=by simp
    simp only;rw[e1,gC,gC];have:∀c v,iY ⟨c,0,0,[],v,[]⟩=2:=fun c v=>rfl
    rw[this];omega
  have hk':∀k n,i≠.call k n:=fun k n e=>hkk ⟨k,n,e⟩
  rw[FT hn hr hp hk'] at hz ha ⊢
  have hnext:=xX hio hb hn hr hp hk' hz;have hfn:(aN i { f with next:=f.next+1 }).1.fn=f.fn:=rC _ _
  generalize aN i { f with next:=f.next+1 }=y at hz ha hnext hfn ⊢
  rcases hnext with ⟨h4,h5⟩|⟨h4,h5⟩
  ·refine kO ht k _ ha ?_;have hw:=tZ (g:=y.1) hst hi hb hfn h4 h5;simp only;rw[gC];omega
  ·have hcy:y.1.fn.code[y.1.next]?=some (f.fn.code[y.1.next]):=by rw[hfn];exact List.getElem?_eq_getElem h5
   have hby:=(hc.ins _ _ (List.getElem?_eq_getElem h5)).1;rw[h4] at hby;have hw:=yO hnx;obtain⟨j,rfl⟩:∃j,k=j+1:=⟨k-1,by omega⟩
   generalize f.fn.code[y.1.next]=i' at hcy hby
   cases i'<;>simp[aH.isBegin] at hby
   exact sT ht ha hcy
theorem bE.then{ar:Nat→Option Nat}{L:Nat→dU→Prop}{p:Nat}{c c':List aH}{h v h1 v1 h2 v2:Nat}{e e1 e2:Option Nat}(a:bE ar L p c h v e h1 v1 e1)(b:bE ar L (p+c.length) c' h1 v1 e1 h2 v2 e2)
 (hL:∀q y,L q y→q≤p∨p+c.length+c'.length≤q):bE ar L p (c++c') h v e h2 v2 e2:=by
 by_cases hc:c=[]
 ·subst hc;obtain⟨T,t1,t2,t3,t4,t5,t6,t7,t8⟩:=a;obtain⟨U,u1,u2,u3,u4,u5,u6,u7,u8⟩:=b;simp only[List.length_nil,Nat.add_zero] at t5 t6 t7 u2 u3 u4 u5 u6 u7 u8;refine⟨U,u1,by omega,by omega,?_,u5,u6,u7,u8⟩
  rcases u4 with u4|u4
  ·exact Or.inl u4
  ·rw[u4,←t7];exact t4
 ·exact a.append b hL hc
theorem bE.one{ar:Nat→Option Nat}{L:Nat→dU→Prop}{p:Nat}{i:aH}{h v h' v':Nat}{e e':Option Nat}(hu:∀q y z,L q y→L q z→y=z)(h0:∀y,L p y→y=⟨h,v,e,i.isBegin⟩)(h1:∀y,L (p+1) y→y.h=h'∧y.v=v'∧y.e=e')
 (hi:∀T:Nat→dU,T p=⟨h,v,e,i.isBegin⟩→(T (p+1)).h=h'→(T (p+1)).v=v'→(T (p+1)).e=e'→(∀q y,L q y→T q=y)→hJ ar (KB L p (p+1)) T p i):bE ar L p [i] h v e h' v' e':=by
 classical
 let T:Nat→dU:=fun q=>if hq:∃y,L q y then hq.choose else if q=p then ⟨h,v,e,i.isBegin⟩ else ⟨h',v',e',false⟩
 have t1:∀q y,L q y→T q=y:=fun q y hy=>by
  have hex:∃y,L q y:=⟨y,hy⟩;simp only[T,dif_pos hex];exact hu q _ _ hex.choose_spec hy
 have t2:T p=⟨h,v,e,i.isBegin⟩:=by
  by_cases hex:∃y,L p y
  ·obtain⟨y,hy⟩:=hex;rw[t1 p y hy];exact h0 y hy
  ·simp only[T,dif_neg hex];rfl
 have t3:(T (p+1)).h=h'∧(T (p+1)).v=v'∧(T (p+1)).e=e':=by
  by_cases hex:∃y,L (p+1) y
  ·obtain⟨y,hy⟩:=hex;rw[t1 _ y hy];exact h1 y hy
  ·have e:T (p+1)=⟨h',v',e',false⟩:=by simp only[T,dif_neg hex,if_neg (show ¬p+1=p by omega)]
   rw[e];exact⟨rfl,rfl,rfl⟩
 refine⟨T,t1,by rw[t2],by rw[t2];exact Nat.le_refl _,by rw[t2];exact Or.inr rfl,t3.1,t3.2.1,t3.2.2,fun j x hj=>?_⟩
 match j,hj with
 |0,hj=>
  simp at hj;subst hj;exact hi T t2 t3.1 t3.2.1 t3.2.2 t1
 |j+1,hj=>simp at hj
structure eA(L:Nat→dU→Prop)(lo hi:Nat):Prop where
 uniq:∀q y z,L q y→L q z→y=z
 out:∀q y,L q y→q<lo∨hi<q
theorem eA.sub{L:Nat→dU→Prop}{lo hi lo' hi':Nat}(h:eA L lo hi)(h1:lo≤lo')(h2:hi'≤hi):eA L lo' hi':=⟨h.uniq,fun q y hy=>by have:=h.out q y hy;omega⟩
def eQ(L:Nat→dU→Prop)(q:Nat)(y:dU):Nat→dU→Prop:=fun r z=>L r z∨(r=q∧z=y)
theorem eQ.ok{L:Nat→dU→Prop}{lo hi lo' hi' q:Nat}{y:dU}(h:eA L lo hi)(h1:lo≤q)(h2:q≤hi)(h3:lo≤lo')(h4:hi'≤hi)(h5:q<lo'∨hi'<q):eA (eQ L q y) lo' hi':=by
 refine⟨fun r x z hx hz=>?_,fun r x hx=>?_⟩
 ·rcases hx with hx|⟨rfl,rfl⟩<;>rcases hz with hz|⟨hz1,rfl⟩
  ·exact h.uniq _ _ _ hx hz
  ·have:=h.out _ _ hx;omega
  ·have:=h.out _ _ hz;omega
  ·rfl
 ·rcases hx with hx|⟨rfl,rfl⟩
  ·have:=h.out _ _ hx;omega
  ·exact h5
theorem bE.close{ar:Nat→Option Nat}{L:Nat→dU→Prop}{p:Nat}{c:List aH}{h v h' v' q:Nat}{e e':Option Nat}{y:dU}(s:bE ar (eQ L q y) p c h v e h' v' e')(h1:p≤q)(h2:q≤p+c.length):bE ar L p c h v e h' v' e':=by
 obtain⟨T,t1,t2,t3,t4,t5,t6,t7,t8⟩:=s;refine⟨T,fun q y hq=>t1 q y (Or.inl hq),t2,t3,t4,t5,t6,t7,fun j i hj=>(t8 j i hj).same rfl (fun r hr=>⟨?_,rfl,Nat.le_refl _,Or.inr rfl⟩) (fun _ _ _ hb=>hb)⟩
 rcases hr with hr|⟨z,hz|⟨rfl,rfl⟩⟩
 ·exact Or.inl hr
 ·exact Or.inr ⟨z,hz⟩
 ·exact Or.inl ⟨h1,h2⟩
theorem gS{L:Nat→dU→Prop}{p:Nat}:KB L p (p+1) (p+1):=Or.inl ⟨by omega,by omega⟩
theorem bE.plain{ar:Nat→Option Nat}{L:Nat→dU→Prop}{p:Nat}{i:aH}{h v h':Nat}{e:Option Nat}(hl:eA L p (p+1))(hb:i.isBegin=false)(hp:h≤p)
 (hi:∀(D:Nat→Prop) (T:Nat→dU),(T p).h=h→(T p).v=v→eB D T (p+1) h' (T p).v (T p).e→(T p).b=false→(T p).h≤p→hJ ar D T p i):bE ar L p [i] h v e h' v e:=
 bE.one hl.uniq (fun y hy=>absurd (hl.out _ _ hy) (by omega)) (fun y hy=>absurd (hl.out _ _ hy) (by omega)) fun T t0 t1 t2 t3 _=>
  hi _ T (by rw[t0]) (by rw[t0]) ⟨gS,t1,by rw[t2,t0];exact Nat.le_refl _,by rw[t3,t0];exact Or.inr rfl⟩ (by rw[t0];exact hb) (by rw[t0];exact hp)
def fI(fs:List aC)(k:Nat):Option Nat:=fs[k]?.map fun f=>f.kids.length-1
def ExOk(fs:List aC)(alone:Bool)(seen:List (List UInt8)):Nat→aC→Prop
 |0,_=>False
 |d+1,a=>
  ((a.op=[48]∨a.op=[115]∨a.op=[98,111,111,108])∧a.kids=[])∨
  (a.op=[110,97,109,101]∧a.kids=[]∧a.text∈seen)∨
  (a.op=[108,105,115,116]∧∀k∈a.kids,ExOk fs alone seen d k)∨
  (a.op=[105,110,100,101,120]∧∃l r,a.kids=[l,r]∧ExOk fs alone seen d l∧ExOk fs alone seen d r)∨
  ((a.op=[45,120]∨a.op=[33,120])∧∃l,a.kids=[l]∧ExOk fs alone seen d l)∨
  (a.op=[99,97,108,108]∧(∀k∈a.kids,ExOk fs alone seen d k)∧
    ((a.text=[108,101,110]∧a.kids.length=1)∨(a.text=[114,101,97,100]∧alone=false∧a.kids.length=0)∨
     (a.text≠[108,101,110]∧a.text≠[114,101,97,100]∧alone=false∧fI fs (cU fs a.text)=some a.kids.length)))∨
  (bV a.op≠9∧∃l r,a.kids=[l,r]∧ExOk fs alone seen d l∧ExOk fs alone seen d r)
theorem pC:∀{seen:List (List UInt8)} {x:List UInt8},x∈seen→dS seen x<seen.length
 |y::l,x,h=>by
  unfold dS;split
  ·simp
  ·rename_i hne;rcases List.mem_cons.1 h with rfl|h
   ·exact absurd rfl hne
   ·have:=pC h;simp;omega
theorem lZ{op:List UInt8}(h:bV op≠9):op=[124,124]∨op=[38,38]∨op=[61,61]∨op=[33,61]∨op=[60]∨op=[60,61]∨op=[43]∨op=[45]∨op=[42]∨op=[47]∨op=[37]:=by
 unfold bV at h;repeat' split at h
 all_goals simp_all
 all_goals grind
def OT(fs:List aC)(alone:Bool)(seen:List (List UInt8))(d:Nat):Prop:=
 ∀(a:aC) (L:Nat→dU→Prop) (p h v:Nat) (e:Option Nat),ExOk fs alone seen d a→seen.length≤v→h≤p→eA L p (p+(aG fs seen d a p).length)→
  bE (fI fs) L p (aG fs seen d a p) h v e (h+1) v e∧1≤(aG fs seen d a p).length
theorem pD{fs:List aC}{alone:Bool}{seen:List (List UInt8)}{d:Nat}(IH:OT fs alone seen d):∀(l:List aC) (L:Nat→dU→Prop) (p h v:Nat) (e:Option Nat),(∀a∈l,ExOk fs alone seen d a)→seen.length≤v→h≤p→eA L p (p+(bO (aG fs seen d) l p).length)→
 bE (fI fs) L p (bO (aG fs seen d) l p) h v e (h+l.length) v e∧l.length≤(bO (aG fs seen d) l p).length
 |[],L,p,h,v,e,_,_,_,hL=>⟨bE.nil _ _ _ _ _ _ (fun q y hq hqp=>absurd (hL.out q y hq) (by simp[bO];omega)) hL.uniq,by simp⟩
 |a::l,L,p,h,v,e,ha,hv,hp,hL=>by
  simp only[bO,List.length_append] at hL ⊢
  obtain⟨h1,h1l⟩:=IH a L p h v e (ha a (List.mem_cons_self ..)) hv hp (hL.sub (Nat.le_refl _) (by omega))
  obtain⟨h2,h2l⟩:=pD IH l L (p+(aG fs seen d a p).length) (h+1) v e (fun x hx=>ha x (List.mem_cons_of_mem _ hx)) hv (by omega) (hL.sub (by omega) (by omega))
  refine⟨?_,by simp only[List.length_cons];omega⟩
  have e1:h+(a::l).length=h+1+l.length:=by simp only[List.length_cons];omega
  rw[e1];exact h1.then h2 fun q y hq=>by have:=hL.out q y hq;omega
theorem bE.snoc{ar:Nat→Option Nat}{L:Nat→dU→Prop}{p:Nat}{c:List aH}{i:aH}{h v h1 h2 v2:Nat}{e e2:Option Nat}(a:bE ar L p c h v e h1 v e)(hL:eA L p (p+(c++[i]).length))(b:eA L (p+c.length) (p+c.length+1)→bE ar L (p+c.length) [i] h1 v e h2 v2 e2):bE ar L p (c++[i]) h v e h2 v2 e2:=by
 have hl:(c++[i]).length=c.length+1:=by simp
 refine a.then (b (hL.sub (by omega) (by omega))) fun q y hq=>?_
 have:=hL.out q y hq;simp only[List.length_cons,List.length_nil];omega
theorem nZ(fs:List aC)(alone:Bool)(seen:List (List UInt8)):∀d,OT fs alone seen d
 |0,_,_,_,_,_,_,h,_,_,_=>h.elim
 |d+1,a,L,p,h,v,e,ha,hv,hp,hL=>by
  have IH:=nZ fs alone seen d
  have two:∀l r:aC,a.kids=[l,r]→ExOk fs alone seen d l→ExOk fs alone seen d r→∀k∈a.kids,ExOk fs alone seen d k:=fun l r hk h1 h2 k hk'=>by
   rw[hk] at hk';rcases List.mem_cons.1 hk' with rfl|hk'
   ·exact h1
   ·rw[List.mem_singleton.1 hk'];exact h2
  have kids:∀i:aH,i.isBegin=false→aG fs seen (d+1) a p=bO (aG fs seen d) a.kids p++[i]→(∀k∈a.kids,ExOk fs alone seen d k)→
   (∀(p':Nat) (D:Nat→Prop) (T:Nat→dU),(T p').h=h+a.kids.length→(T p').v=v→eB D T (p'+1) (h+1) (T p').v (T p').e→(T p').b=false→(T p').h≤p'→hJ (fI fs) D T p' i)→
   bE (fI fs) L p (aG fs seen (d+1) a p) h v e (h+1) v e∧1≤(aG fs seen (d+1) a p).length:=fun i hb hc hk hi=>by
   rw[hc] at hL ⊢
   obtain⟨h1,h2⟩:=pD IH a.kids L p h v e hk hv hp (hL.sub (Nat.le_refl _) (by simp))
   exact⟨bE.snoc h1 hL fun hl=>bE.plain hl hb (by omega) (hi _),by simp⟩
  rcases ha with ⟨h0|h0|h0,hk⟩|⟨h0,hk,hx⟩|⟨h0,hk⟩|⟨h0,l,r,hk,hl,hr⟩|⟨h0|h0,l,hk,hl⟩|⟨h0,hk,hc⟩|⟨h0,l,r,hk,hl,hr⟩
  ·have hc:aG fs seen (d+1) a p=[.push (bB (((dA 0 a.text).getD 0:Nat):Int))]:=by rw[aG];simp[h0]
   rw[hc] at hL ⊢
   exact⟨bE.plain hL rfl hp fun D T t1 t2 f b hp=>⟨b,hp,by rw[t1];exact f⟩,by simp⟩
  ·have hc:aG fs seen (d+1) a p=[.push (bH a.text)]:=by rw[aG];simp[h0]
   rw[hc] at hL ⊢
   exact⟨bE.plain hL rfl hp fun D T t1 t2 f b hp=>⟨b,hp,by rw[t1];exact f⟩,by simp⟩
  ·have hc:aG fs seen (d+1) a p=[.push (bL (a.text==[116,114,117,101]))]:=by rw[aG];simp[h0]
   rw[hc] at hL ⊢
   exact⟨bE.plain hL rfl hp fun D T t1 t2 f b hp=>⟨b,hp,by rw[t1];exact f⟩,by simp⟩
  ·have hc:aG fs seen (d+1) a p=[.load (dS seen a.text)]:=by rw[aG];simp[h0]
   rw[hc] at hL ⊢
   exact⟨bE.plain hL rfl hp fun D T t1 t2 f b hp=>⟨b,hp,by rw[t2];have:=pC hx;omega,by rw[t1];exact f⟩,by simp⟩
  ·refine kids (.list a.kids.length) rfl (by rw[aG];simp[h0]) hk fun p' D T t1 t2 f b hp=>⟨b,hp,by omega,?_⟩
   have:(T p').h-a.kids.length+1=h+1:=by omega
   rw[this];exact f
  ·refine kids .index rfl (by rw[aG];simp[h0]) (two l r hk hl hr) fun p' D T t1 t2 f b hp=>?_
   rw[hk] at t1;simp only[List.length_cons,List.length_nil] at t1;refine⟨b,hp,by omega,?_⟩
   have:(T p').h-1=h+1:=by omega
   rw[this];exact f
  ·refine kids (.unary [45]) rfl (by rw[aG];simp[h0]) (by rw[hk];simpa using hl) fun p' D T t1 t2 f b hp=>?_
   rw[hk] at t1;simp only[List.length_cons,List.length_nil] at t1;exact⟨b,hp,by omega,by rw[t1];exact f⟩
  ·refine kids (.unary [33]) rfl (by rw[aG];simp[h0]) (by rw[hk];simpa using hl) fun p' D T t1 t2 f b hp=>?_
   rw[hk] at t1;simp only[List.length_cons,List.length_nil] at t1;exact⟨b,hp,by omega,by rw[t1];exact f⟩
  ·rcases hc with ⟨ht,hn⟩|⟨ht,_,hn⟩|⟨ht1,ht2,_,hn⟩
   ·refine kids .length rfl (by rw[aG];simp[h0,ht]) hk fun p' D T t1 t2 f b hp=>⟨b,hp,by omega,?_⟩
    rw[t1,hn];exact f
   ·refine kids .read rfl (by rw[aG];simp[h0,ht]) hk fun p' D T t1 t2 f b hp=>⟨b,hp,?_⟩
    rw[t1,hn];exact f
   ·refine kids (.call (cU fs a.text) a.kids.length) rfl (by rw[aG];simp[h0,ht1,ht2]) hk fun p' D T t1 t2 f b hp=>⟨b,hp,by omega,hn,?_⟩
    have:(T p').h-a.kids.length+1=h+1:=by omega
    rw[this];exact f
  ·by_cases hlo:a.op=[38,38]∨a.op=[124,124]
   rotate_left
   ·have hnl:aG fs seen (d+1) a p=bO (aG fs seen d) a.kids p++[.binary a.op]:=by
     rw[aG];rcases lZ h0 with h|h|h|h|h|h|h|h|h|h|h<;>simp[h] at hlo ⊢
    refine kids (.binary a.op) rfl hnl (two l r hk hl hr) fun p' D T t1 t2 f b hp=>?_
    rw[hk] at t1;simp only[List.length_cons,List.length_nil] at t1;refine⟨b,hp,by omega,?_⟩
    have:(T p').h-1=h+1:=by omega
    rw[this];exact f
   ·have hc:aG fs seen (d+1) a p=aG fs seen d l p++[.shortcut (a.op==[124,124]) (p+(aG fs seen d l p).length+1+(aG fs seen d r (p+(aG fs seen d l p).length+1)).length+1)]++aG fs seen d r (p+(aG fs seen d l p).length+1)++[.truth]:=by
     rw[aG];rcases hlo with h|h<;>simp[h,hk]
    generalize hcl:aG fs seen d l p=cl at hc;generalize hcr:aG fs seen d r (p+cl.length+1)=cr at hc;rw[hc] at hL ⊢
    have hlen:(cl++[aH.shortcut (a.op==[124,124]) (p+cl.length+1+cr.length+1)]++cr++[aH.truth]).length=cl.length+1+cr.length+1:=by simp only[List.length_append,List.length_cons,List.length_nil]
    rw[hlen] at hL;refine⟨bE.close (q:=p+cl.length+1+cr.length+1) (y:=⟨h+1,v,e,false⟩) ?_ (by omega) (by rw[hlen];omega),by omega⟩
    have hL1:eA (eQ L (p+cl.length+1+cr.length+1) ⟨h+1,v,e,false⟩) p (p+cl.length+1+cr.length):=eQ.ok hL (by omega) (by omega) (Nat.le_refl _) (by omega) (by omega)
    obtain⟨s1,l1⟩:=IH l (eQ L (p+cl.length+1+cr.length+1) ⟨h+1,v,e,false⟩) p h v e hl hv hp (by rw[hcl];exact hL1.sub (Nat.le_refl _) (by omega))
    rw[hcl] at s1 l1;obtain⟨s3,l3⟩:=IH r (eQ L (p+cl.length+1+cr.length+1) ⟨h+1,v,e,false⟩) (p+cl.length+1) h v e hr hv (by omega) (by rw[hcr];exact hL1.sub (by omega) (by omega))
    rw[hcr] at s3 l3
    have s2:bE (fI fs) (eQ L (p+cl.length+1+cr.length+1) ⟨h+1,v,e,false⟩) (p+cl.length) [.shortcut (a.op==[124,124]) (p+cl.length+1+cr.length+1)] (h+1) v e h v e:=by
     refine bE.one hL1.uniq (fun y hy=>absurd (hL1.out _ _ hy) (by omega)) (fun y hy=>absurd (hL1.out _ _ hy) (by omega)) fun T t0 t1 t2 t3 t4=>?_
     refine⟨by rw[t0],by rw[t0];show h+1≤_;omega,by rw[t0];show 1≤h+1;omega,by omega,?_,gS,by rw[t1,t0];rfl,by rw[t2,t0];exact Nat.le_refl _,by rw[t3,t0];exact Or.inr rfl⟩
     have:=t4 (p+cl.length+1+cr.length+1) ⟨h+1,v,e,false⟩ (Or.inr ⟨rfl,rfl⟩);exact⟨Or.inr ⟨_,Or.inr ⟨rfl,rfl⟩⟩,by rw[this,t0],by rw[this,t0];exact Nat.le_refl _,by rw[this,t0];exact Or.inr rfl⟩
    have s4:bE (fI fs) (eQ L (p+cl.length+1+cr.length+1) ⟨h+1,v,e,false⟩) (p+cl.length+1+cr.length) [.truth] (h+1) v e (h+1) v e:=by
     refine bE.one hL1.uniq (fun y hy=>absurd (hL1.out _ _ hy) (by omega)) (fun y hy=>?_) fun T t0 t1 t2 t3 t4=>⟨by rw[t0],by rw[t0];show h+1≤_;omega,by rw[t0];show 1≤h+1;omega,gS,by rw[t1,t0],by rw[t2,t0];exact Nat.le_refl _,by rw[t3,t0];exact Or.inr rfl⟩
     rcases hy with hy|⟨_,rfl⟩
     ·exact absurd (hL.out _ _ hy) (by omega)
     ·exact⟨rfl,rfl,rfl⟩
    have hout:∀q y,eQ L (p+cl.length+1+cr.length+1) ⟨h+1,v,e,false⟩ q y→q≤p∨p+cl.length+1+cr.length+1≤q:=fun q y hq=>by have:=hL1.out q y hq;omega
    have s12:=s1.then s2 fun q y hq=>by have:=hout q y hq;simp only[List.length_cons,List.length_nil];omega
    have s123:=s12.then (c':=cr) (by rw[List.length_append];exact s3) fun q y hq=>by have:=hout q y hq;simp only[List.length_append,List.length_cons,List.length_nil];omega
    exact s123.then (c':=[.truth]) (by rw[show p+(cl++[aH.shortcut (a.op==[124,124]) (p+cl.length+1+cr.length+1)]++cr).length=p+cl.length+1+cr.length by simp only[List.length_append,List.length_cons,List.length_nil];omega];exact s4) fun q y hq=>by have:=hout q y hq;simp only[List.length_append,List.length_cons,List.length_nil];omega
theorem bE.entry{ar:Nat→Option Nat}{L:Nat→dU→Prop}{p:Nat}{c:List aH}{h v v0 h' v':Nat}{e e':Option Nat}(s:bE ar L p c h v none h' v' e')(hv:v≤v0):bE ar L p c h v0 e h' v' e':=by
 obtain⟨T,t1,t2,t3,t4,t5⟩:=s;exact⟨T,t1,t2,by omega,Or.inl (by rcases t4 with t4|t4<;>exact t4),t5⟩
theorem bE.exit{ar:Nat→Option Nat}{L:Nat→dU→Prop}{p:Nat}{c:List aH}{h v h' v' v'':Nat}{e e':Option Nat}(s:bE ar L p c h v e h' v' e')(hv:v''≤v')(b:Bool)(hn:∀y,¬L (p+c.length) y):bE ar (eQ L (p+c.length) ⟨h',v'',none,b⟩) p c h v e h' v'' none:=by
 obtain⟨T,t1,t2,t3,t4,t5,t6,t7,t8⟩:=s;refine⟨fun q=>if q=p+c.length then ⟨h',v'',none,b⟩ else T q,fun q y hq=>?_,?_,?_,?_,by simp only[if_pos],by simp only[if_pos],by simp only[if_pos],fun j i hj=>?_⟩
 ·rcases hq with hq|⟨rfl,rfl⟩
  ·have hne:q≠p+c.length:=fun e=>hn y (by rw[←e];exact hq)
   simp only[if_neg hne];exact t1 q y hq
  ·simp only[if_pos]
 ·simp only;split
  ·rename_i hp;rw[←hp] at t5;simp only;omega
  ·exact t2
 ·simp only;split
  ·rename_i hp;rw[←hp] at t6;simp only;omega
  ·exact t3
 ·simp only;split
  ·exact Or.inl rfl
  ·exact t4
 ·have hjl:j<c.length:=(List.getElem?_eq_some_iff.1 hj).1;refine(t8 j i hj).same (by rw[if_neg (by omega)]) (fun q hq=>?_) (fun q hq hqp hb=>by rw[if_neg (by omega)];exact hb)
  have hd:KB (eQ L (p+c.length) ⟨h',v'',none,b⟩) p (p+c.length) q:=hq.imp id fun ⟨y,hy⟩=>⟨y,Or.inl hy⟩
  refine⟨hd,?_⟩;split
  ·rename_i hqe;rw[hqe];exact⟨t5.symm,by simp only;omega,Or.inl rfl⟩
  ·exact⟨rfl,Nat.le_refl _,Or.inr rfl⟩
def cK(seen:List (List UInt8))(a:aC):List (List UInt8):=if a.op=[118,97,114] then (a.kids.head?.map (·.text)).toList++seen else seen
def StsOk(S:List (List UInt8)→aC→Prop):List (List UInt8)→List aC→Prop
 |_,[]=>True
 |seen,a::l=>S seen a∧StsOk S (cK seen a) l
def dI(fs:List aC):Nat→List (List UInt8)→aC→Prop
 |0,_,_=>False
 |d+1,seen,a=>
  (a.op=[118,97,114]∧seen.length≤90000∧∃t v,a.kids=[t,v]∧ExOk fs false seen d v∧t.text∉seen)∨
  (a.op=[115,101,116]∧a.text∈seen∧a.kids≠[]∧∀k∈a.kids,ExOk fs false seen d k)∨
  (a.op=[105,102]∧∃c t,(a.kids=[c,t]∨∃x,a.kids=[c,t,x]∧StsOk (dI fs d) seen x.kids)∧ExOk fs false seen d c∧StsOk (dI fs d) seen t.kids)∨
  (a.op=[119,104,105,108,101]∧∃c b,a.kids=[c,b]∧ExOk fs false seen d c∧StsOk (dI fs d) seen b.kids)∨
  (a.op=[114,101,116,117,114,110]∧(a.kids=[]∨∃v,a.kids=[v]∧ExOk fs false seen d v))∨
  (a.op=[112,114,105,110,116]∧∃v,a.kids=[v]∧ExOk fs false seen d v)∨
  (a.op=[100,111]∧∃c,a.kids=[c]∧ExOk fs false seen d c)
def OQ(fs:List aC)(d:Nat):Prop:=
 ∀(seen:List (List UInt8)) (a:aC) (L:Nat→dU→Prop) (p:Nat),dI fs d seen a→eA L p (p+(bA fs d seen a p).1.length)→
  bE (fI fs) L p (bA fs d seen a p).1 0 seen.length none 0 (cK seen a).length none∧(bA fs d seen a p).2=cK seen a∧∃r,(bA fs d seen a p).1=.begin a.line seen::r
theorem LE(seen:List (List UInt8))(a:aC):seen.length≤(cK seen a).length:=by unfold cK;split<;>simp
def dM:List (List UInt8)→List aC→List (List UInt8)
 |seen,[]=>seen
 |seen,a::l=>dM (cK seen a) l
theorem kW:∀(l:List aC) (seen:List (List UInt8)),seen.length≤(dM seen l).length
 |[],_=>Nat.le_refl _
 |a::l,seen=>Nat.le_trans (LE seen a) (kW l _)
theorem kZ{fs:List aC}{d:Nat}(IH:OQ fs d):∀(l:List aC) (seen:List (List UInt8)) (L:Nat→dU→Prop) (p:Nat),StsOk (dI fs d) seen l→eA L p (p+(bF (bA fs d) seen l p).length)→
 bE (fI fs) L p (bF (bA fs d) seen l p) 0 seen.length none 0 (dM seen l).length none
 |[],seen,L,p,_,hL=>bE.nil _ _ _ _ _ _ (fun q y hq hqp=>absurd (hL.out q y hq) (by simp[bF];omega)) hL.uniq
 |a::l,seen,L,p,h,hL=>by
  simp only[bF,List.length_append] at hL ⊢
  obtain⟨h1,h2,_⟩:=IH seen a L p h.1 (hL.sub (Nat.le_refl _) (by omega))
  rw[h2] at hL ⊢
  have h3:=kZ IH l (cK seen a) L (p+(bA fs d seen a p).1.length) h.2 (hL.sub (by omega) (by omega))
  exact h1.then h3 fun q y hq=>by have:=hL.out q y hq;omega
theorem bE.begins{ar:Nat→Option Nat}{L:Nat→dU→Prop}{p l:Nat}{seen:List (List UInt8)}(hu:∀q y z,L q y→L q z→y=z)(h0:∀y,L p y→y=⟨0,seen.length,none,true⟩)(h1:∀y,¬L (p+1) y):bE ar L p [.begin l seen] 0 seen.length none 0 seen.length (some seen.length):=
 bE.one hu h0 (fun y hy=>absurd hy (h1 y)) fun T t0 t1 t2 t3 _=>⟨by rw[t0],by rw[t0];exact Nat.zero_le _,by rw[t0];exact Nat.le_refl _,gS,by rw[t1,t0],by rw[t2,t0];exact Nat.le_refl _,by rw[t3];exact Or.inr rfl⟩
theorem nV(i j:aH)(c:List aH):(i::c++[j]).length=c.length+2:=by simp
theorem bE.stmt{ar:Nat→Option Nat}{L:Nat→dU→Prop}{p l n v':Nat}{seen:List (List UInt8)}{c:List aH}{i:aH}(hL:eA L p (p+(aH.begin l seen::c++[i]).length))
 (hc:bE ar L (p+1) c 0 seen.length (some seen.length) n seen.length (some seen.length)) (hi:eA L (p+1+c.length) (p+1+c.length+1)→bE ar L (p+1+c.length) [i] n seen.length (some seen.length) 0 v' none):
 bE ar L p (aH.begin l seen::c++[i]) 0 seen.length none 0 v' none:=by
 rw[nV] at hL;have s1:bE ar L p [.begin l seen] 0 seen.length none 0 seen.length (some seen.length):=bE.begins hL.uniq (fun y hy=>absurd (hL.out _ _ hy) (by omega)) (fun y hy=>absurd (hL.out _ _ hy) (by omega))
 have s2:=s1.then (c':=c) hc fun q y hq=>by have:=hL.out q y hq;simp only[List.length_cons,List.length_nil];omega
 have s3:=s2.then (c':=[i]) (by rw[show p+([aH.begin l seen]++c).length=p+1+c.length by simp only[List.length_append,List.length_cons,List.length_nil];omega];exact hi (hL.sub (by omega) (by omega))) fun q y hq=>by have:=hL.out q y hq;simp only[List.length_append,List.length_cons,List.length_nil];omega
 exact s3
theorem bE.last{ar:Nat→Option Nat}{L:Nat→dU→Prop}{p n v v':Nat}{e:Option Nat}{i:aH}(hl:eA L p (p+1))(hb:i.isBegin=false)(hp:n≤p)
 (hi:∀(D:Nat→Prop) (T:Nat→dU),T p=⟨n,v,e,false⟩→D (p+1)→(T (p+1)).h=0→(T (p+1)).v=v'→(T (p+1)).e=none→(T p).h≤p→hJ ar D T p i):bE ar L p [i] n v e 0 v' none:=
 bE.one hl.uniq (fun y hy=>absurd (hl.out _ _ hy) (by omega)) (fun y hy=>absurd (hl.out _ _ hy) (by omega)) fun T t0 t1 t2 t3 _=>hi _ T (by rw[t0,hb]) gS t1 t2 t3 (by rw[t0];exact hp)
theorem jV{fs:List aC}{seen:List (List UInt8)}{d:Nat}{a:aC}{L:Nat→dU→Prop}{p:Nat}{e:Option Nat}(ha:ExOk fs false seen d a)(hp:0<p)(hL:eA L p (p+(aG fs seen d a p).length)):
 bE (fI fs) L p (aG fs seen d a p) 0 seen.length e 1 seen.length e∧1≤(aG fs seen d a p).length:=nZ fs false seen d a L p 0 seen.length e ha (Nat.le_refl _) (by omega) hL
theorem eA.none{L:Nat→dU→Prop}{lo hi q:Nat}(h:eA L lo hi)(h1:lo≤q)(h2:q≤hi)(y:dU):¬L q y:=fun hy=>by have:=h.out q y hy;omega
theorem bE.ifs{ar:Nat→Option Nat}{L:Nat→dU→Prop}{p l v1 v2:Nat}{seen:List (List UInt8)}{cc ct ce:List aH}
 (hL:eA L p (p+1+cc.length+1+ct.length+1+ce.length))
 (hc:∀L',eA L' (p+1) (p+1+cc.length)→bE ar L' (p+1) cc 0 seen.length (some seen.length) 1 seen.length (some seen.length))
 (ht:∀L',eA L' (p+1+cc.length+1) (p+1+cc.length+1+ct.length)→bE ar L' (p+1+cc.length+1) ct 0 seen.length none 0 v1 none) (h1:seen.length≤v1)
 (he:∀L',eA L' (p+1+cc.length+1+ct.length+1) (p+1+cc.length+1+ct.length+1+ce.length)→bE ar L' (p+1+cc.length+1+ct.length+1) ce 0 seen.length none 0 v2 none) (h2:seen.length≤v2):
 bE ar L p (aH.begin l seen::cc++[.skip (p+1+cc.length+1+ct.length+1)]++ct++[.jump (p+1+cc.length+1+ct.length+1+ce.length)]++ce) 0 seen.length none 0 seen.length none:=by
 generalize hq:p+1+cc.length+1+ct.length+1=q at*;generalize hr:q+ce.length=r at*;have hL1:eA (eQ L r ⟨0,seen.length,none,false⟩) p (r-1):=eQ.ok hL (by omega) (Nat.le_refl _) (Nat.le_refl _) (by omega) (by omega)
 have part1:bE ar (eQ L r ⟨0,seen.length,none,false⟩) p (aH.begin l seen::cc++[aH.skip q]++ct++[aH.jump r]) 0 seen.length none 0 seen.length none:=by
  have hlen:p+(aH.begin l seen::cc++[aH.skip q]++ct++[aH.jump r]).length=q:=by simp only[List.length_append,List.length_cons,List.length_nil];omega
  rcases Nat.eq_or_lt_of_le (show q≤r by omega) with hqr|hqr
  ·-- there is no else:one label
   subst hqr;have hN:eA (eQ L q ⟨0,seen.length,none,false⟩) p (q-1):=hL1;have s1:=bE.begins (ar:=ar) (l:=l) (p:=p) (seen:=seen) hN.uniq (fun y hy=>absurd (hN.out _ _ hy) (by omega)) (fun y hy=>absurd (hN.out _ _ hy) (by omega))
   have s2:=s1.then (c':=cc) (hc _ (hN.sub (by omega) (by omega))) fun x y hx=>by have:=hN.out x y hx;simp only[List.length_cons,List.length_nil];omega
   have e2:p+([aH.begin l seen]++cc).length=p+1+cc.length:=by simp only[List.length_append,List.length_cons,List.length_nil];omega
   have s3:=s2.then (c':=[aH.skip q]) (by
    rw[e2];refine bE.one (h':=0) (v':=seen.length) (e':=some seen.length) hN.uniq (fun y hy=>absurd (hN.out _ _ hy) (by omega)) (fun y hy=>absurd (hN.out _ _ hy) (by omega)) fun T t0 t1 t2 t3 t4=>?_
    have hy:=t4 q ⟨0,seen.length,none,false⟩ (Or.inr ⟨rfl,rfl⟩);exact⟨by rw[t0],by rw[t0];show 1≤_;omega,by rw[t0];exact Nat.le_refl _,by omega,⟨Or.inr ⟨_,Or.inr ⟨rfl,rfl⟩⟩,by rw[hy,t0];rfl,by rw[hy,t0];exact Nat.le_refl _,by rw[hy];exact Or.inl rfl⟩,gS,by rw[t1,t0];rfl,by rw[t2,t0];exact Nat.le_refl _,by rw[t3,t0];exact Or.inr rfl⟩)
    fun x y hx=>by have:=hN.out x y hx;simp only[List.length_append,List.length_cons,List.length_nil];omega
   have e3:p+([aH.begin l seen]++cc++[aH.skip q]).length=p+1+cc.length+1:=by simp only[List.length_append,List.length_cons,List.length_nil];omega
   have s4:=s3.then (c':=ct) (by rw[e3];exact(ht _ (hN.sub (by omega) (by omega))).entry (Nat.le_refl _)) fun x y hx=>by have:=hN.out x y hx;simp only[List.length_append,List.length_cons,List.length_nil];omega
   have e4:p+([aH.begin l seen]++cc++[aH.skip q]++ct).length=p+1+cc.length+1+ct.length:=by simp only[List.length_append,List.length_cons,List.length_nil];omega
   exact s4.then (c':=[aH.jump q]) (by
    rw[e4];refine bE.one hN.uniq (fun y hy=>absurd (hN.out _ _ hy) (by omega)) (fun y hy=>?_) fun T t0 t1 t2 t3 t4=>?_
    ·rw[show p+1+cc.length+1+ct.length+1=q from hq] at hy
     rcases hy with hy|⟨_,rfl⟩
     ·exact absurd hy (hL.none (by omega) (by omega) y)
     ·exact⟨rfl,rfl,rfl⟩
    ·have hy:=t4 q ⟨0,seen.length,none,false⟩ (Or.inr ⟨rfl,rfl⟩);exact⟨by rw[t0],by rw[t0];exact Nat.zero_le _,Or.inl (by omega),Or.inr ⟨_,Or.inr ⟨rfl,rfl⟩⟩,by rw[hy,t0],by rw[hy,t0];exact h1,by rw[hy];exact Or.inl rfl⟩)
    fun x y hx=>by have:=hN.out x y hx;simp only[List.length_append,List.length_cons,List.length_nil];omega
  ·refine bE.close (q:=q) (y:=⟨0,seen.length,none,false⟩) ?_ (by omega) (by omega)
   have hN:eA (eQ (eQ L r ⟨0,seen.length,none,false⟩) q ⟨0,seen.length,none,false⟩) p (q-1):=eQ.ok hL1 (by omega) (by omega) (Nat.le_refl _) (by omega) (by omega)
   have s1:=bE.begins (ar:=ar) (l:=l) (p:=p) (seen:=seen) hN.uniq (fun y hy=>absurd (hN.out _ _ hy) (by omega)) (fun y hy=>absurd (hN.out _ _ hy) (by omega))
   have s2:=s1.then (c':=cc) (hc _ (hN.sub (by omega) (by omega))) fun x y hx=>by have:=hN.out x y hx;simp only[List.length_cons,List.length_nil];omega
   have e2:p+([aH.begin l seen]++cc).length=p+1+cc.length:=by simp only[List.length_append,List.length_cons,List.length_nil];omega
   have s3:=s2.then (c':=[aH.skip q]) (by
    rw[e2];refine bE.one (h':=0) (v':=seen.length) (e':=some seen.length) hN.uniq (fun y hy=>absurd (hN.out _ _ hy) (by omega)) (fun y hy=>absurd (hN.out _ _ hy) (by omega)) fun T t0 t1 t2 t3 t4=>?_
    have hy:=t4 q ⟨0,seen.length,none,false⟩ (Or.inr ⟨rfl,rfl⟩);exact⟨by rw[t0],by rw[t0];show 1≤_;omega,by rw[t0];exact Nat.le_refl _,by omega,⟨Or.inr ⟨_,Or.inr ⟨rfl,rfl⟩⟩,by rw[hy,t0];rfl,by rw[hy,t0];exact Nat.le_refl _,by rw[hy];exact Or.inl rfl⟩,gS,by rw[t1,t0];rfl,by rw[t2,t0];exact Nat.le_refl _,by rw[t3,t0];exact Or.inr rfl⟩)
    fun x y hx=>by have:=hN.out x y hx;simp only[List.length_append,List.length_cons,List.length_nil];omega
   have e3:p+([aH.begin l seen]++cc++[aH.skip q]).length=p+1+cc.length+1:=by simp only[List.length_append,List.length_cons,List.length_nil];omega
   have s4:=s3.then (c':=ct) (by rw[e3];exact(ht _ (hN.sub (by omega) (by omega))).entry (Nat.le_refl _)) fun x y hx=>by have:=hN.out x y hx;simp only[List.length_append,List.length_cons,List.length_nil];omega
   have e4:p+([aH.begin l seen]++cc++[aH.skip q]++ct).length=p+1+cc.length+1+ct.length:=by simp only[List.length_append,List.length_cons,List.length_nil];omega
   exact s4.then (c':=[aH.jump r]) (by
    rw[e4];refine bE.one hN.uniq (fun y hy=>absurd (hN.out _ _ hy) (by omega)) (fun y hy=>?_) fun T t0 t1 t2 t3 t4=>?_
    ·rw[show p+1+cc.length+1+ct.length+1=q from hq] at hy
     rcases hy with (hy|⟨hy,_⟩)|⟨_,rfl⟩
     ·exact absurd hy (hL.none (by omega) (by omega) y)
     ·omega
     ·exact⟨rfl,rfl,rfl⟩
    ·have hy:=t4 r ⟨0,seen.length,none,false⟩ (Or.inl (Or.inr ⟨rfl,rfl⟩));exact⟨by rw[t0],by rw[t0];exact Nat.zero_le _,Or.inl (by omega),Or.inr ⟨_,Or.inl (Or.inr ⟨rfl,rfl⟩)⟩,by rw[hy,t0],by rw[hy,t0];exact h1,by rw[hy];exact Or.inl rfl⟩)
    fun x y hx=>by have:=hN.out x y hx;simp only[List.length_append,List.length_cons,List.length_nil];omega
 have hlen:p+(aH.begin l seen::cc++[aH.skip q]++ct++[aH.jump r]).length=q:=by simp only[List.length_append,List.length_cons,List.length_nil];omega
 refine bE.close (q:=r) (y:=⟨0,seen.length,none,false⟩) ?_ (by omega) (by rw[List.length_append];omega)
 refine part1.then (c':=ce) ?_ fun x y hx=>by have:=hL1.out x y hx;omega
 rw[hlen];have:=(he L (hL.sub (by omega) (by omega))).exit h2 false (by rw[hr];exact hL.none (by omega) (Nat.le_refl _))
 rw[hr] at this;exact this
theorem bE.whiles{ar:Nat→Option Nat}{L:Nat→dU→Prop}{p l v1:Nat}{seen:List (List UInt8)}{cc cb:List aH}
 (hL:eA L p (p+1+cc.length+1+cb.length+1))
 (hc:∀L',eA L' (p+1) (p+1+cc.length)→bE ar L' (p+1) cc 0 seen.length (some seen.length) 1 seen.length (some seen.length))
 (hb:∀L',eA L' (p+1+cc.length+1) (p+1+cc.length+1+cb.length)→bE ar L' (p+1+cc.length+1) cb 0 seen.length none 0 v1 none) (h1:seen.length≤v1):
 bE ar L p (aH.begin l seen::cc++[.skip (p+1+cc.length+1+cb.length+1)]++cb++[aH.jump p]) 0 seen.length none 0 seen.length none:=by
 generalize hq:p+1+cc.length+1+cb.length+1=q at*;have hlen:p+(aH.begin l seen::cc++[aH.skip q]++cb++[aH.jump p]).length=q:=by simp only[List.length_append,List.length_cons,List.length_nil];omega
 refine bE.close (q:=p) (y:=⟨0,seen.length,none,true⟩) (bE.close (q:=q) (y:=⟨0,seen.length,none,false⟩) ?_ (by omega) (by omega)) (by omega) (by omega)
 have hL1:eA (eQ L p ⟨0,seen.length,none,true⟩) (p+1) q:=eQ.ok hL (Nat.le_refl _) (by omega) (by omega) (Nat.le_refl _) (by omega)
 have hN:eA (eQ (eQ L p ⟨0,seen.length,none,true⟩) q ⟨0,seen.length,none,false⟩) (p+1) (q-1):=eQ.ok hL1 (by omega) (Nat.le_refl _) (Nat.le_refl _) (by omega) (by omega)
 have s1:=bE.begins (ar:=ar) (l:=l) (p:=p) (seen:=seen) hN.uniq (fun y hy=>by
  rcases hy with (hy|⟨_,rfl⟩)|⟨hy,_⟩
  ·exact absurd hy (hL.none (by omega) (by omega) y)
  ·rfl
  ·omega) (fun y hy=>absurd (hN.out _ _ hy) (by omega))
 have s2:=s1.then (c':=cc) (hc _ (hN.sub (by omega) (by omega))) fun x y hx=>by have:=hN.out x y hx;simp only[List.length_cons,List.length_nil];omega
 have e2:p+([aH.begin l seen]++cc).length=p+1+cc.length:=by simp only[List.length_append,List.length_cons,List.length_nil];omega
 have s3:=s2.then (c':=[aH.skip q]) (by
  rw[e2];refine bE.one (h':=0) (v':=seen.length) (e':=some seen.length) hN.uniq (fun y hy=>absurd (hN.out _ _ hy) (by omega)) (fun y hy=>absurd (hN.out _ _ hy) (by omega)) fun T t0 t1 t2 t3 t4=>?_
  have hy:=t4 q ⟨0,seen.length,none,false⟩ (Or.inr ⟨rfl,rfl⟩);exact⟨by rw[t0],by rw[t0];show 1≤_;omega,by rw[t0];exact Nat.le_refl _,by omega,⟨Or.inr ⟨_,Or.inr ⟨rfl,rfl⟩⟩,by rw[hy,t0];rfl,by rw[hy,t0];exact Nat.le_refl _,by rw[hy];exact Or.inl rfl⟩,gS,by rw[t1,t0];rfl,by rw[t2,t0];exact Nat.le_refl _,by rw[t3,t0];exact Or.inr rfl⟩)
  fun x y hx=>by have:=hN.out x y hx;simp only[List.length_append,List.length_cons,List.length_nil];omega
 have e3:p+([aH.begin l seen]++cc++[aH.skip q]).length=p+1+cc.length+1:=by simp only[List.length_append,List.length_cons,List.length_nil];omega
 have s4:=s3.then (c':=cb) (by rw[e3];exact(hb _ (hN.sub (by omega) (by omega))).entry (Nat.le_refl _)) fun x y hx=>by have:=hN.out x y hx;simp only[List.length_append,List.length_cons,List.length_nil];omega
 have e4:p+([aH.begin l seen]++cc++[aH.skip q]++cb).length=p+1+cc.length+1+cb.length:=by simp only[List.length_append,List.length_cons,List.length_nil];omega
 exact s4.then (c':=[aH.jump p]) (by
  rw[e4];refine bE.one hN.uniq (fun y hy=>absurd (hN.out _ _ hy) (by omega)) (fun y hy=>?_) fun T t0 t1 t2 t3 t4=>?_
  ·rw[show p+1+cc.length+1+cb.length+1=q from hq] at hy
   rcases hy with (hy|⟨hy,_⟩)|⟨_,rfl⟩
   ·exact absurd hy (hL.none (by omega) (by omega) y)
   ·omega
   ·exact⟨rfl,rfl,rfl⟩
  ·have hy:=t4 p ⟨0,seen.length,none,true⟩ (Or.inl (Or.inr ⟨rfl,rfl⟩));exact⟨by rw[t0],by rw[t0];exact Nat.zero_le _,Or.inr (by rw[hy]),Or.inr ⟨_,Or.inl (Or.inr ⟨rfl,rfl⟩)⟩,by rw[hy,t0],by rw[hy,t0];exact h1,by rw[hy];exact Or.inl rfl⟩)
  fun x y hx=>by have:=hN.out x y hx;simp only[List.length_append,List.length_cons,List.length_nil];omega
theorem lV(fs:List aC):∀d,OQ fs d
 |0,_,_,_,_,h,_=>h.elim
 |d+1,seen,a,L,p,ha,hL=>by
  have IH:=lV fs d;rcases ha with ⟨h0,hb,t,v,hk,hv,_⟩|⟨h0,hx,hne,hk⟩|⟨h0,c,t,hk,hc,ht⟩|⟨h0,c,b,hk,hc,hb⟩|⟨h0,hk|⟨v,hk,hv⟩⟩|⟨h0,v,hk,hv⟩|⟨h0,v,hk,hv⟩
  ·have hs:bA fs (d+1) seen a p=(aH.begin a.line seen::aG fs seen d v (p+1)++[aH.declare seen.length],t.text::seen):=by rw[bA];simp[h0,hk]
   have hn:cK seen a=t.text::seen:=by unfold cK;rw[if_pos h0,hk];rfl
   rw[hs] at hL ⊢
   rw[hn];simp only at hL ⊢
   obtain⟨s1,l1⟩:=jV (L:=L) (p:=p+1) (e:=some seen.length) hv (by omega) (hL.sub (by omega) (by rw[nV];omega))
   refine⟨bE.stmt hL s1 fun hl=>bE.last hl rfl (by omega) fun D T t0 d1 t1 t2 t3 tp=>⟨by rw[t0];rfl,tp,?_⟩,trivial,_,rfl⟩
   rw[t0];exact⟨Nat.le_refl _,Nat.le_refl _,hb,rfl,d1,t1,by rw[t2];exact Nat.le_refl _,Or.inl t3⟩
  ·have hs:bA fs (d+1) seen a p=(aH.begin a.line seen::bO (aG fs seen d) a.kids (p+1)++[aH.assign (dS seen a.text) (a.kids.length-1)],seen):=by rw[bA];simp[h0]
   have hn:cK seen a=seen:=by unfold cK;rw[if_neg (by rw[h0];decide)]
   rw[hs] at hL ⊢
   rw[hn];simp only at hL ⊢
   obtain⟨s1,l1⟩:=pD (nZ fs false seen d) a.kids L (p+1) 0 seen.length (some seen.length) hk (Nat.le_refl _) (by omega) (hL.sub (by omega) (by rw[nV];omega))
   rw[Nat.zero_add] at s1;have hpos:0<a.kids.length:=List.length_pos_iff.2 hne;refine⟨bE.stmt hL s1 fun hl=>bE.last hl rfl (by omega) fun D T t0 d1 t1 t2 t3 tp=>⟨by rw[t0];rfl,tp,?_⟩,trivial,_,rfl⟩
   rw[t0];refine⟨?_,pC hx,d1,?_,by rw[t2];exact Nat.le_refl _,Or.inl t3⟩
   ·show a.kids.length-1+1≤a.kids.length;omega
   ·rw[t1];show 0=a.kids.length-(a.kids.length-1+1);omega
  ·have hn:cK seen a=seen:=by unfold cK;rw[if_neg (by rw[h0];decide)]
   rw[hn]
   obtain⟨ce,hs,he⟩:∃ce,bA fs (d+1) seen a p=(aH.begin a.line seen::aG fs seen d c (p+1)++[aH.skip (p+1+(aG fs seen d c (p+1)).length+1+(bF (bA fs d) seen t.kids (p+1+(aG fs seen d c (p+1)).length+1)).length+1)]++bF (bA fs d) seen t.kids (p+1+(aG fs seen d c (p+1)).length+1)++
    [aH.jump (p+1+(aG fs seen d c (p+1)).length+1+(bF (bA fs d) seen t.kids (p+1+(aG fs seen d c (p+1)).length+1)).length+1+ce.length)]++ce,seen)∧
    ∃v2,seen.length≤v2∧∀L',eA L' (p+1+(aG fs seen d c (p+1)).length+1+(bF (bA fs d) seen t.kids (p+1+(aG fs seen d c (p+1)).length+1)).length+1) (p+1+(aG fs seen d c (p+1)).length+1+(bF (bA fs d) seen t.kids (p+1+(aG fs seen d c (p+1)).length+1)).length+1+ce.length)→bE (fI fs) L' (p+1+(aG fs seen d c (p+1)).length+1+(bF (bA fs d) seen t.kids (p+1+(aG fs seen d c (p+1)).length+1)).length+1) ce 0 seen.length none 0 v2 none:=by
    rcases hk with hk|⟨x,hk,hx⟩
    ·refine⟨[],by rw[bA];simp[h0,hk],seen.length,Nat.le_refl _,fun L' hL'=>bE.nil _ _ _ _ _ _ (fun q y hq hqp=>absurd (hL'.out q y hq) (by simp;omega)) hL'.uniq⟩
    ·exact⟨_,by rw[bA];simp[h0,hk],_,kW x.kids seen,fun L' hL'=>kZ IH x.kids seen L' _ hx hL'⟩
   obtain⟨v2,hv2,he⟩:=he;rw[hs] at hL ⊢
   simp only at hL ⊢
   refine⟨bE.ifs (v1:=(dM seen t.kids).length) (v2:=v2) ?_ (fun L' hL'=>(jV hc (by omega) hL').1) (fun L' hL'=>kZ IH t.kids seen L' _ ht hL') (kW _ _) he hv2,trivial,_,rfl⟩
   refine hL.sub (Nat.le_refl _) ?_;simp only[List.length_append,List.length_cons,List.length_nil];omega
  ·have hs:bA fs (d+1) seen a p=(aH.begin a.line seen::aG fs seen d c (p+1)++[aH.skip (p+1+(aG fs seen d c (p+1)).length+1+(bF (bA fs d) seen b.kids (p+1+(aG fs seen d c (p+1)).length+1)).length+1)]++bF (bA fs d) seen b.kids (p+1+(aG fs seen d c (p+1)).length+1)++[aH.jump p],seen):=by rw[bA];simp[h0,hk]
   have hn:cK seen a=seen:=by unfold cK;rw[if_neg (by rw[h0];decide)]
   rw[hs] at hL ⊢
   rw[hn];simp only at hL ⊢
   refine⟨bE.whiles (v1:=(dM seen b.kids).length) ?_ (fun L' hL'=>(jV hc (by omega) hL').1) (fun L' hL'=>kZ IH b.kids seen L' _ hb hL') (kW _ _),trivial,_,rfl⟩
   refine hL.sub (Nat.le_refl _) ?_;simp only[List.length_append,List.length_cons,List.length_nil];omega
  ·have hs:bA fs (d+1) seen a p=(aH.begin a.line seen::[aH.push (bB 0)]++[aH.give],seen):=by rw[bA];simp[h0,hk]
   have hn:cK seen a=seen:=by unfold cK;rw[if_neg (by rw[h0];decide)]
   rw[hs] at hL ⊢
   rw[hn];simp only at hL ⊢
   have hl':eA L (p+1) (p+2):=hL.sub (by omega) (by rw[nV];simp)
   refine⟨bE.stmt (n:=1) hL (bE.plain hl' rfl (by omega) fun D T t1 t2 f b hp=>⟨b,hp,by rw[t1];exact f⟩) fun hl=>bE.last hl rfl (by omega) fun D T t0 d1 t1 t2 t3 tp=>⟨by rw[t0];rfl,tp,by rw[t0];exact Nat.le_refl _⟩,trivial,_,rfl⟩
  ·have hs:bA fs (d+1) seen a p=(aH.begin a.line seen::aG fs seen d v (p+1)++[aH.give],seen):=by rw[bA];simp[h0,hk]
   have hn:cK seen a=seen:=by unfold cK;rw[if_neg (by rw[h0];decide)]
   rw[hs] at hL ⊢
   rw[hn];simp only at hL ⊢
   obtain⟨s1,l1⟩:=jV (L:=L) (p:=p+1) (e:=some seen.length) hv (by omega) (hL.sub (by omega) (by rw[nV];omega))
   exact⟨bE.stmt hL s1 fun hl=>bE.last hl rfl (by omega) fun D T t0 d1 t1 t2 t3 tp=>⟨by rw[t0];rfl,tp,by rw[t0];exact Nat.le_refl _⟩,trivial,_,rfl⟩
  ·have hs:bA fs (d+1) seen a p=(aH.begin a.line seen::aG fs seen d v (p+1)++[aH.print],seen):=by rw[bA];simp[h0,hk]
   have hn:cK seen a=seen:=by unfold cK;rw[if_neg (by rw[h0];decide)]
   rw[hs] at hL ⊢
   rw[hn];simp only at hL ⊢
   obtain⟨s1,l1⟩:=jV (L:=L) (p:=p+1) (e:=some seen.length) hv (by omega) (hL.sub (by omega) (by rw[nV];omega))
   refine⟨bE.stmt hL s1 fun hl=>bE.last hl rfl (by omega) fun D T t0 d1 t1 t2 t3 tp=>⟨by rw[t0];rfl,tp,?_⟩,trivial,_,rfl⟩
   rw[t0];exact⟨Nat.le_refl _,d1,t1,by rw[t2];exact Nat.le_refl _,Or.inl t3⟩
  ·have hs:bA fs (d+1) seen a p=(aH.begin a.line seen::aG fs seen d v (p+1)++[aH.drop],seen):=by rw[bA];simp[h0,hk]
   have hn:cK seen a=seen:=by unfold cK;rw[if_neg (by rw[h0];decide)]
   rw[hs] at hL ⊢
   rw[hn];simp only at hL ⊢
   obtain⟨s1,l1⟩:=jV (L:=L) (p:=p+1) (e:=some seen.length) hv (by omega) (hL.sub (by omega) (by rw[nV];omega))
   refine⟨bE.stmt hL s1 fun hl=>bE.last hl rfl (by omega) fun D T t0 d1 t1 t2 t3 tp=>⟨by rw[t0];rfl,tp,?_⟩,trivial,_,rfl⟩
   rw[t0];exact⟨Nat.le_refl _,d1,t1,by rw[t2];exact Nat.le_refl _,Or.inl t3⟩
structure jG(fs:List aC)(d:Nat)(f:aC):Prop where
 kids:∃ps b,f.kids=ps++[b]∧StsOk (dI fs d) (ps.map (·.text)).reverse b.kids∧(ps.map (·.text)).Nodup
 len:(fD fs d f).code.length≤80000
theorem XF{fs:List aC}{d:Nat}{f:aC}(h:jG fs d f):∃T,nM (fI fs) (fD fs d f).code T∧(T 0).h=0∧(T 0).v≤f.kids.length-1∧(T 0).e=none∧gY (fD fs d f).code:=by
 obtain⟨⟨ps,b,hk,hb,_⟩,hl⟩:=h;have hcode:(fD fs d f).code=bF (bA fs d) (ps.map (·.text)).reverse b.kids 0++[.push (bB 0),.give]:=by simp[fD,hk]
 have hn:f.kids.length-1=(ps.map (·.text)).reverse.length:=by simp[hk]
 rw[hn];generalize hseen:(ps.map (·.text)).reverse=seen at*
 have hs:=kZ (lV fs d) b.kids seen (fun _ _=>False) 0 hb ⟨fun _ _ _ h=>h.elim,fun _ _ h=>h.elim⟩
 have hst:gY (fD fs d f).code:=by
  rw[hcode];cases hbk:b.kids with
  |nil=>exact Or.inr ⟨_,rfl⟩
  |cons a l=>
   rw[hbk] at hb;obtain⟨r,hr⟩:=(lV fs d seen a (fun _ _=>False) 0 hb.1 ⟨fun _ _ _ h=>h.elim,fun _ _ h=>h.elim⟩).2.2
   exact Or.inl ⟨a.line,seen,r++bF (bA fs d) (bA fs d seen a 0).2 l (0+(bA fs d seen a 0).1.length)++[.push (bB 0),.give],by rw[bF,hr];simp⟩
 generalize hc:bF (bA fs d) seen b.kids 0=c at*;obtain⟨T,t1,t2,t3,t4,t5,t6,t7,t8⟩:=hs;rw[Nat.zero_add] at t5 t6 t7;have hlen:(fD fs d f).code.length=c.length+2:=by rw[hcode];simp
 let U:Nat→dU:=fun q=>if q=c.length then ⟨0,(T q).v,none,false⟩ else if q=c.length+1 then ⟨1,(T c.length).v,none,false⟩ else T q
 have u0:U c.length=⟨0,(T c.length).v,none,false⟩:=by simp[U]
 have u1:U (c.length+1)=⟨1,(T c.length).v,none,false⟩:=by simp[U]
 have u2:∀q,q<c.length→U q=T q:=fun q hq=>by simp[U];rw[if_neg (by omega),if_neg (by omega)]
 have he0:(T 0).e=none:=by rcases t4 with t4|t4<;>exact t4
 have hU0:(U 0).h=0∧(U 0).v≤seen.length∧(U 0).e=none:=by
  rcases Nat.eq_zero_or_pos c.length with h0|h0
  ·rw[h0] at u0;rw[u0];exact⟨rfl,t3,rfl⟩
  ·rw[u2 0 h0];exact⟨t2,t3,he0⟩
 refine⟨U,⟨fun j i hj=>?_,hl⟩,hU0.1,hU0.2.1,hU0.2.2,hst⟩
 rw[hlen];rw[hcode] at hj;rcases Nat.lt_or_ge j c.length with hjl|hjl
 ·rw[List.getElem?_append_left hjl] at hj;have:=t8 j i hj;simp only[Nat.zero_add] at this;refine this.same (T':=U) (u2 j hjl) (fun q hq=>?_) (fun q hq hqp hb=>by rw[u2 q (by omega)];exact hb)
  rcases hq with hq|⟨y,hy⟩
  ·refine⟨by omega,?_⟩
   rcases Nat.lt_or_ge q c.length with h|h
   ·rw[u2 q h];exact⟨rfl,Nat.le_refl _,Or.inr rfl⟩
   ·obtain rfl:q=c.length:=by omega
    rw[u0];exact⟨t5.symm,Nat.le_refl _,Or.inl rfl⟩
  ·exact hy.elim
 ·rw[List.getElem?_append_right hjl] at hj;obtain⟨k,rfl⟩:∃k,j=c.length+k:=⟨j-c.length,by omega⟩
  rw[Nat.add_sub_cancel_left] at hj;match k,hj with
  |0,hj=>
   simp at hj;subst hj;show hJ _ _ U c.length _
   exact⟨by rw[u0];rfl,by rw[u0];exact Nat.zero_le _,by omega,by rw[u1,u0],by rw[u1,u0];exact Nat.le_refl _,by rw[u1];exact Or.inl rfl⟩
  |1,hj=>
   simp at hj;subst hj;exact⟨by rw[u1];rfl,by rw[u1];show 1≤_;omega,by rw[u1];exact Nat.le_refl _⟩
  |k+2,hj=>simp at hj
theorem kP{fs:List aC}{d:Nat}(h:∀f∈fs,jG fs d f):jF (fI fs) (dK fs d):=by
 refine⟨fun k n hk=>?_⟩
 unfold fI at hk;cases hf:fs[k]? with
 |none=>rw[hf] at hk;cases hk
 |some f=>
  rw[hf] at hk;simp at hk;subst hk;obtain⟨T,h1,h2,h3,h4,h5⟩:=XF (h f (List.mem_of_getElem? hf));exact⟨fD fs d f,T,by simp[dK,hf],h1,h2,h3,h4,h5⟩
theorem sI{fs:List aC}{d:Nat}(h:∀f∈fs,jG fs d f)(hm:fI fs (cU fs [109,97,105,110])=some 0)(tape:List Int):fC (fI fs) (gG fs d tape):=by
 obtain⟨f,T,h1,h2,h3,h4,h5,h6⟩:=(kP h).fn _ _ hm;have e:gG fs d tape=⟨[]++[⟨f,0,0,[],[],[]⟩],tape,[]⟩:=by unfold gG;rw[h1];rfl
 rw[e];refine⟨mK.snoc (fun g hg=>by cases hg) ⟨⟨T,h2,h3,h4,Or.inl h5⟩,?_,by simp,by simp⟩ (by simp),fun g hg=>by simp at hg;rw[hg];exact h6⟩
 rcases h6 with ⟨l,s,r,e⟩|⟨v,e⟩<;>simp[e]
theorem nY(s:aX)(l k:Nat)(h:s.kind≠0):(s.found l k).kind≠0:=by unfold aX.found;rw[if_neg h];exact h
theorem oN(s:aX)(n:aC)(h:s.kind≠0):(declaresL s n).kind≠0:=by
 unfold declaresL;split
 ·exact nY _ _ _ h
 ·exact h
theorem MH(fs:List aC)(alone:Bool)(s:aX)(n:aC)(h:s.kind≠0):(bY fs alone s n).kind≠0:=by
 unfold bY dX;repeat' split
 all_goals first|exact nY _ _ _ h|exact h
theorem gH{f:aX→aC→aX}(hf:∀s k,s.kind≠0→(f s k).kind≠0):∀(l:List aC) (s:aX),s.kind≠0→(l.foldl f s).kind≠0
 |[],_,h=>h
 |k::l,s,h=>gH hf l _ (hf s k h)
theorem fA(fs:List aC)(alone:Bool):∀(d:Nat) (n:aC) (s:aX),s.kind≠0→(aM fs alone d n s).kind≠0
 |0,_,_,h=>h
 |d+1,n,s,h=>by
  rw[aM];split
  ·split
   ·exact fA fs alone d _ _ (oN s _ h)
   ·exact h
  ·have h1:(n.kids.foldl (fun s k=>aM fs alone d k s) (bY fs alone s n)).kind≠0:=gH (fun s k hs=>fA fs alone d k s hs) _ _ (MH fs alone s n h)
   simp only;split<;>exact h1
theorem ExOk.up{fs:List aC}{alone:Bool}{seen:List (List UInt8)}:∀{d e:Nat} {a:aC},ExOk fs alone seen d a→d≤e→ExOk fs alone seen e a
 |0,_,_,h,_=>h.elim
 |d+1,0,_,_,h=>by omega
 |d+1,e+1,a,h,hde=>by
  have up:∀k,ExOk fs alone seen d k→ExOk fs alone seen e k:=fun k hk=>ExOk.up hk (by omega)
  rcases h with h|h|⟨h0,hk⟩|⟨h0,l,r,hk,hl,hr⟩|⟨h0,l,hk,hl⟩|⟨h0,hk,hc⟩|⟨h0,l,r,hk,hl,hr⟩
  ·exact Or.inl h
  ·exact Or.inr (Or.inl h)
  ·exact Or.inr (Or.inr (Or.inl ⟨h0,fun k h=>up k (hk k h)⟩))
  ·exact Or.inr (Or.inr (Or.inr (Or.inl ⟨h0,l,r,hk,up l hl,up r hr⟩)))
  ·exact Or.inr (Or.inr (Or.inr (Or.inr (Or.inl ⟨h0,l,hk,up l hl⟩))))
  ·exact Or.inr (Or.inr (Or.inr (Or.inr (Or.inr (Or.inl ⟨h0,fun k h=>up k (hk k h),hc⟩)))))
  ·exact Or.inr (Or.inr (Or.inr (Or.inr (Or.inr (Or.inr ⟨h0,l,r,hk,up l hl,up r hr⟩)))))
theorem StsOk.up{S S':List (List UInt8)→aC→Prop}(h:∀s a,S s a→S' s a):∀{l:List aC} {seen:List (List UInt8)},StsOk S seen l→StsOk S' seen l
 |[],_,_=>trivial
 |_::_,_,h'=>⟨h _ _ h'.1,StsOk.up h h'.2⟩
theorem dI.up{fs:List aC}:∀{d e:Nat} {seen:List (List UInt8)} {a:aC},dI fs d seen a→d≤e→dI fs e seen a
 |0,_,_,_,h,_=>h.elim
 |d+1,0,_,_,_,h=>by omega
 |d+1,e+1,seen,a,h,hde=>by
  have up:∀k,ExOk fs false seen d k→ExOk fs false seen e k:=fun k hk=>hk.up (by omega)
  have ups:∀l,StsOk (dI fs d) seen l→StsOk (dI fs e) seen l:=fun l hl=>hl.up fun s a h=>dI.up h (by omega)
  rcases h with ⟨h0,hb,t,v,hk,hv,hx⟩|⟨h0,hx,hne,hk⟩|⟨h0,c,t,hk,hc,ht⟩|⟨h0,c,b,hk,hc,hb⟩|⟨h0,hk|⟨v,hk,hv⟩⟩|⟨h0,v,hk,hv⟩|⟨h0,v,hk,hv⟩
  ·exact Or.inl ⟨h0,hb,t,v,hk,up v hv,hx⟩
  ·exact Or.inr (Or.inl ⟨h0,hx,hne,fun k h=>up k (hk k h)⟩)
  ·exact Or.inr (Or.inr (Or.inl ⟨h0,c,t,hk.imp id fun ⟨x,h1,h2⟩=>⟨x,h1,ups _ h2⟩,up c hc,ups _ ht⟩))
  ·exact Or.inr (Or.inr (Or.inr (Or.inl ⟨h0,c,b,hk,up c hc,ups _ hb⟩)))
  ·exact Or.inr (Or.inr (Or.inr (Or.inr (Or.inl ⟨h0,Or.inl hk⟩))))
  ·exact Or.inr (Or.inr (Or.inr (Or.inr (Or.inl ⟨h0,Or.inr ⟨v,hk,up v hv⟩⟩))))
  ·exact Or.inr (Or.inr (Or.inr (Or.inr (Or.inr (Or.inl ⟨h0,v,hk,up v hv⟩)))))
  ·exact Or.inr (Or.inr (Or.inr (Or.inr (Or.inr (Or.inr ⟨h0,v,hk,up v hv⟩)))))
theorem gM{s:aX}{l k:Nat}(hk:k≠0)(h:(s.found l k).kind=0):False:=by
 unfold aX.found at h;split at h
 ·exact hk h
 ·rename_i h0;exact h0 h
theorem sJ{f:aC}{name:List UInt8}:∀{fs:List aC},dG fs name=some f→fs[cU fs name]?=some f
 |[],h=>by simp[dG] at h
 |x::l,h=>by
  unfold dG cU at*;rw[List.find?_cons] at h;rw[List.findIdx_cons];cases hx:(x.text==name) with
  |true=>rw[hx] at h;simp at h;simp[h]
  |false=>
   rw[hx] at h;simp only[cond_false,List.getElem?_cons_succ];exact sJ (fs:=l) h
def lT(fs:List aC)(alone:Bool)(d:Nat)(a:aC):Prop:=
 ∀sn,(aM fs alone d a ⟨sn,0,0⟩).kind=0→aM fs alone d a ⟨sn,0,0⟩=⟨sn,0,0⟩∧ExOk fs alone sn.reverse d a
theorem iT{fs:List aC}{alone:Bool}{d:Nat}:∀(l:List aC) (sn:List (List UInt8)),(∀k∈l,lT fs alone d k)→(l.foldl (fun s k=>aM fs alone d k s) ⟨sn,0,0⟩).kind=0→
 l.foldl (fun s k=>aM fs alone d k s) ⟨sn,0,0⟩=⟨sn,0,0⟩∧∀k∈l,ExOk fs alone sn.reverse d k
 |[],sn,_,_=>⟨rfl,fun k hk=>by cases hk⟩
 |a::l,sn,h,hz=>by
  rw[List.foldl_cons] at hz ⊢
  have h0:(aM fs alone d a ⟨sn,0,0⟩).kind=0:=Decidable.byContradiction fun hne=>gH (fun s k hs=>fA fs alone d k s hs) l _ hne hz
  obtain⟨h1,h2⟩:=h a (List.mem_cons_self ..) sn h0;rw[h1] at hz ⊢
  obtain⟨h3,h4⟩:=iT l sn (fun k hk=>h k (List.mem_cons_of_mem _ hk)) hz
  refine⟨h3,fun k hk=>?_⟩
  rcases List.mem_cons.1 hk with rfl|hk
  ·exact h2
  ·exact h4 k hk
theorem fF{fs:List aC}{alone:Bool}{d:Nat}{n:aC}{s:aX}(h1:n.op≠[118,97,114])(h2:n.op≠[98,108,111,99,107]):aM fs alone (d+1) n s=n.kids.foldl (fun s k=>aM fs alone d k s) (bY fs alone s n):=by
 rw[aM];rw[if_neg (by simpa using h1)]
 simp only;rw[if_neg (by simpa using h2)]
theorem look_plain{fs:List aC}{alone:Bool}{n:aC}{s:aX}(h1:n.op≠[115,101,116])(h2:n.op≠[110,97,109,101])(h3:n.op≠[99,97,108,108]):bY fs alone s n=s:=by
 unfold bY;rw[if_neg (by simp[h1,h2]),if_neg (by simpa using h3)]
theorem nK{fs:List aC}{alone:Bool}(hfs:∀f∈fs,f.kids≠[])(hal:alone=true→fs=[]):∀(d:Nat) (a:aC),cX a→eS d a→lT fs alone d a
 |0,_,_,h=>h.elim
 |d+1,a,ha,hd=>by
  intro sn hz
  have two:∀(l r:aC),a.kids=[l,r]→cX l→cX r→∀k∈a.kids,lT fs alone d k:=fun l r hk hl hr k hk'=>by
   have hdk:=hd k hk';rw[hk] at hk';rcases List.mem_cons.1 hk' with rfl|hk'
   ·exact nK hfs hal d _ hl hdk
   ·obtain rfl:=List.mem_singleton.1 hk';exact nK hfs hal d _ hr hdk
  have hbl:a.op≠[118,97,114]∧a.op≠[98,108,111,99,107]:=by
   cases ha with
   |leaf _ h=>rcases h with h|h|h|h<;>rw[h]<;>decide
   |many _ h=>rcases h with h|h<;>rw[h]<;>decide
   |one _ l h=>rcases h with h|h<;>rw[h]<;>decide
   |two _ l r h=>
    rcases h with h|h
    ·rw[h];decide
    ·exact⟨fun e=>by rw[e] at h;exact h (by decide),fun e=>by rw[e] at h;exact h (by decide)⟩
  rw[fF hbl.1 hbl.2] at hz ⊢
  have hl0:(bY fs alone ⟨sn,0,0⟩ a).kind=0:=Decidable.byContradiction fun hne=>gH (fun s k hs=>fA fs alone d k s hs) a.kids _ hne hz
  cases ha with
  |leaf _ h hk=>
   rw[hk] at hz ⊢
   simp only[List.foldl_nil] at hz ⊢
   rcases h with h|h|h|h
   ·exact⟨look_plain (by rw[h];decide) (by rw[h];decide) (by rw[h];decide),Or.inl ⟨Or.inl h,hk⟩⟩
   ·exact⟨look_plain (by rw[h];decide) (by rw[h];decide) (by rw[h];decide),Or.inl ⟨Or.inr (Or.inl h),hk⟩⟩
   ·exact⟨look_plain (by rw[h];decide) (by rw[h];decide) (by rw[h];decide),Or.inl ⟨Or.inr (Or.inr h),hk⟩⟩
   ·unfold bY at hl0 ⊢
    rw[if_pos (by simp[h])] at hl0 ⊢
    split at hl0
    ·rename_i hc;rw[if_pos hc];exact⟨rfl,Or.inr (Or.inl ⟨h,hk,by simpa using hc⟩)⟩
    ·exact(gM (by decide) hl0).elim
  |many _ h hk=>
   have hg:∀k∈a.kids,lT fs alone d k:=fun k hk'=>nK hfs hal d k (hk k hk') (hd k hk')
   rcases h with h|h
   ·rw[look_plain (by rw[h];decide) (by rw[h];decide) (by rw[h];decide)] at hz ⊢
    obtain⟨h1,h2⟩:=iT a.kids sn hg hz;exact⟨h1,Or.inr (Or.inr (Or.inl ⟨h,h2⟩))⟩
   ·have e:bY fs alone ⟨sn,0,0⟩ a=dX fs alone ⟨sn,0,0⟩ a:=by unfold bY;rw[if_neg (by simp[h]),if_pos (by simp[h])]
    rw[e] at hz hl0 ⊢
    unfold dX at hz hl0 ⊢
    split at hl0
    ·exact(gM (by decide) hl0).elim
    rename_i hw;rw[if_neg hw] at hz ⊢
    split at hl0
    ·exact(gM (by decide) hl0).elim
    rename_i hw2;rw[if_neg hw2] at hz ⊢
    obtain⟨h1,h2⟩:=iT a.kids sn hg hz;refine⟨h1,Or.inr (Or.inr (Or.inr (Or.inr (Or.inr (Or.inl ⟨h,h2,?_⟩)))))⟩;simp only[ne_eq,Decidable.not_not] at hw2;unfold kX at hw hw2;by_cases hlen:a.text=[108,101,110]
    ·rw[if_pos (by simp[hlen])] at hw2
     exact Or.inl ⟨hlen,by omega⟩
    rw[if_neg (by simp[hlen])] at hw hw2
    by_cases hread:a.text=[114,101,97,100]∧alone=false
    ·rw[if_pos (by simp[hread])] at hw2
     exact Or.inr (Or.inl ⟨hread.1,hread.2,by omega⟩)
    have hread':¬((a.text==[114,101,97,100] && !alone)=true):=by
     intro hh;simp at hh;exact hread hh
    rw[if_neg hread'] at hw hw2;cases hf:dG fs a.text with
    |none=>rw[hf] at hw;simp at hw
    |some f=>
     rw[hf] at hw hw2;simp only at hw hw2;have hmem:f∈fs:=List.mem_of_find?_eq_some hf;have hne:=hfs f hmem;have hpos:0<f.kids.length:=List.length_pos_iff.2 hne
     have hal':alone=false:=by
      cases alone with
      |false=>rfl
      |true=>rw[hal rfl] at hmem;cases hmem
     refine Or.inr (Or.inr ⟨hlen,fun hr=>hread ⟨hr,hal'⟩,hal',?_⟩)
     unfold fI;rw[sJ hf];simp;omega
  |one _ l h hk hl=>
   have hg:∀k∈a.kids,lT fs alone d k:=fun k hk'=>by
    have hdk:=hd k hk';rw[hk] at hk';obtain rfl:=List.mem_singleton.1 hk';exact nK hfs hal d _ hl hdk
   rw[look_plain (by rcases h with h|h<;>rw[h]<;>decide) (by rcases h with h|h<;>rw[h]<;>decide) (by rcases h with h|h<;>rw[h]<;>decide)] at hz ⊢
   obtain⟨h1,h2⟩:=iT a.kids sn hg hz;exact⟨h1,Or.inr (Or.inr (Or.inr (Or.inr (Or.inl ⟨h,l,hk,h2 l (by rw[hk];simp)⟩))))⟩
  |two _ l r h hk hl hr=>
   have hp:bY fs alone ⟨sn,0,0⟩ a=⟨sn,0,0⟩:=by
    rcases h with h|h
    ·exact look_plain (by rw[h];decide) (by rw[h];decide) (by rw[h];decide)
    ·exact look_plain (fun e=>by rw[e] at h;exact h (by decide)) (fun e=>by rw[e] at h;exact h (by decide)) (fun e=>by rw[e] at h;exact h (by decide))
   rw[hp] at hz ⊢
   obtain⟨h1,h2⟩:=iT a.kids sn (two l r hk hl hr) hz;refine⟨h1,?_⟩;rcases h with h|h
   ·exact Or.inr (Or.inr (Or.inr (Or.inl ⟨h,l,r,hk,h2 l (by rw[hk];simp),h2 r (by rw[hk];simp)⟩)))
   ·exact Or.inr (Or.inr (Or.inr (Or.inr (Or.inr (Or.inr ⟨h,l,r,hk,h2 l (by rw[hk];simp),h2 r (by rw[hk];simp)⟩)))))
def qO(fs:List aC)(d:Nat)(a:aC):Prop:=
 ∀sn,sn.length+bS d a≤90000→(aM fs false d a ⟨sn,0,0⟩).kind=0→∃sn',aM fs false d a ⟨sn,0,0⟩=⟨sn',0,0⟩∧sn'.reverse=cK sn.reverse a∧dI fs d sn.reverse a∧sn'.length≤sn.length+bS d a∧sn=sn'.take sn.length
theorem vX{fs:List aC}{d:Nat}:∀(l:List aC) (sn:List (List UInt8)),(∀k∈l,qO fs d k)→sn.length+(l.map (bS d)).sum≤90000→(l.foldl (fun s k=>aM fs false d k s) ⟨sn,0,0⟩).kind=0→
 ∃sn',l.foldl (fun s k=>aM fs false d k s) ⟨sn,0,0⟩=⟨sn',0,0⟩∧StsOk (dI fs d) sn.reverse l∧sn'.length≤sn.length+(l.map (bS d)).sum∧sn=sn'.take sn.length
 |[],sn,_,_,_=>⟨sn,rfl,trivial,by simp,by simp⟩
 |a::l,sn,h,hw,hz=>by
  rw[List.foldl_cons] at hz ⊢
  simp only[List.map_cons,List.sum_cons] at hw ⊢
  have h0:(aM fs false d a ⟨sn,0,0⟩).kind=0:=Decidable.byContradiction fun hne=>gH (fun s k hs=>fA fs false d k s hs) l _ hne hz
  obtain⟨s1,h1,h2,h3,h4,h5⟩:=h a (List.mem_cons_self ..) sn (by omega) h0
  rw[h1] at hz ⊢
  obtain⟨s2,h6,h7,h8,h9⟩:=vX l s1 (fun k hk=>h k (List.mem_cons_of_mem _ hk)) (by omega) hz
  refine⟨s2,h6,⟨h3,by rw[←h2];exact h7⟩,by omega,?_⟩
  have hle:sn.length≤s1.length:=by have:=congrArg List.length h5;simp only[List.length_take] at this;omega
  have e:s1.take sn.length=s2.take sn.length:=by
   conv=>lhs;rw[h9]
   rw[List.take_take];congr 1;omega
  rw[←e];exact h5
theorem CE{fs:List aC}{d:Nat}{b:aC}{sn sn':List (List UInt8)}(hb:b.op=[98,108,111,99,107])(h:b.kids.foldl (fun s k=>aM fs false d k s) ⟨sn,0,0⟩=⟨sn',0,0⟩)(hs:sn=sn'.take sn.length):aM fs false (d+1) b ⟨sn,0,0⟩=⟨sn,0,0⟩:=by
 rw[aM,if_neg (by simp[hb])]
 have:bY fs false ⟨sn,0,0⟩ b=⟨sn,0,0⟩:=look_plain (by rw[hb];decide) (by rw[hb];decide) (by rw[hb];decide)
 simp only[this,h];rw[if_pos (by simp[hb])]
 congr 1
 exact hs.symm
theorem rT{fs:List aC}{d:Nat}{b:aC}{sn:List (List UInt8)}(hb:b.op=[98,108,111,99,107])(h:(aM fs false (d+1) b ⟨sn,0,0⟩).kind=0):(b.kids.foldl (fun s k=>aM fs false d k s) ⟨sn,0,0⟩).kind=0:=by
 rw[aM,if_neg (by simp[hb])] at h
 have:bY fs false ⟨sn,0,0⟩ b=⟨sn,0,0⟩:=look_plain (by rw[hb];decide) (by rw[hb];decide) (by rw[hb];decide)
 simp only[this] at h;rw[if_pos (by simp[hb])] at h
 exact h
theorem jE{fs:List aC}{d:Nat}{b:aC}{sn:List (List UInt8)}(hb:b.op=[98,108,111,99,107])(hg:∀k∈b.kids,qO fs d k)(hw:sn.length+bS (d+1) b≤90000)(h:(aM fs false (d+1) b ⟨sn,0,0⟩).kind=0):
 aM fs false (d+1) b ⟨sn,0,0⟩=⟨sn,0,0⟩∧StsOk (dI fs d) sn.reverse b.kids:=by
 rw[bS] at hw;obtain⟨s',h1,h2,h3,h4⟩:=vX b.kids sn hg (by omega) (rT hb h)
 exact⟨CE hb h1 h4,h2⟩
theorem KI{fs:List aC}{d:Nat}{a x y:aC}{s:aX}(hk:a.kids=[x,y])(h1:a.op≠[118,97,114])(h2:a.op≠[98,108,111,99,107])(hl:bY fs false s a=s):aM fs false (d+1) a s=aM fs false d y (aM fs false d x s):=by
 rw[fF h1 h2,hl,hk];rfl
theorem YS{fs:List aC}{d:Nat}{a x y z:aC}{s:aX}(hk:a.kids=[x,y,z])(h1:a.op≠[118,97,114])(h2:a.op≠[98,108,111,99,107])(hl:bY fs false s a=s):aM fs false (d+1) a s=aM fs false d z (aM fs false d y (aM fs false d x s)):=by
 rw[fF h1 h2,hl,hk];rfl
theorem EL{d:Nat}{a k:aC}(h:k∈a.kids):bS d k+1≤bS (d+1) a:=by
 rw[bS]
 have:∀l:List aC,k∈l→bS d k≤(l.map (bS d)).sum:=by
  intro l;induction l with
  |nil=>intro h;cases h
  |cons x l ih=>
   intro h;simp only[List.map_cons,List.sum_cons];rcases List.mem_cons.1 h with rfl|h
   ·omega
   ·have:=ih h;omega
 have:=this _ h;omega
theorem EQ{fs:List aC}(hfs:∀f∈fs,f.kids≠[]):∀(d:Nat) (a:aC),fW a→eS d a→qO fs d a
 |0,_,_,h=>h.elim
 |1,a,ha,hd=>by
  have hno:∀k∈a.kids,False:=fun k hk=>hd k hk
  intro sn hw hz;cases ha with
  |var _ t v h hk hv=>exact(hno t (by rw[hk];simp)).elim
  |set _ h hn hk=>cases hkk:a.kids with|nil=>exact(hn hkk).elim|cons x l=>exact(hno x (by rw[hkk];simp)).elim
  |if2 _ c t h hk=>exact(hno c (by rw[hk];simp)).elim
  |if3 _ c t x h hk=>exact(hno c (by rw[hk];simp)).elim
  |whl _ c t h hk=>exact(hno c (by rw[hk];simp)).elim
  |ret1 _ v h hk=>exact(hno v (by rw[hk];simp)).elim
  |print _ v h hk=>exact(hno v (by rw[hk];simp)).elim
  |call _ c h hk=>exact(hno c (by rw[hk];simp)).elim
  |ret0 _ h hk=>
   have hl:bY fs false ⟨sn,0,0⟩ a=⟨sn,0,0⟩:=look_plain (by rw[h];decide) (by rw[h];decide) (by rw[h];decide)
   refine⟨sn,by rw[fF (by rw[h];decide) (by rw[h];decide),hl,hk];rfl,by unfold cK;rw[if_neg (by rw[h];decide)],?_,by omega,by simp⟩
   exact Or.inr (Or.inr (Or.inr (Or.inr (Or.inl ⟨h,Or.inl hk⟩))))
 |d+2,a,ha,hd=>by
  intro sn hw hz;have hex:∀k,k∈a.kids→cX k→lT fs false (d+1) k:=fun k hk he=>nK hfs (fun h=>by cases h) (d+1) k he (hd k hk)
  have hbk:∀k,k∈a.kids→(∀x∈k.kids,fW x)→∀x∈k.kids,qO fs d x:=fun k hk hs x hx=>EQ hfs d x (hs x hx) (hd k hk x hx)
  have hwk:∀k,k∈a.kids→sn.length+bS (d+1) k≤90000:=fun k hk=>by have:bS (d+1) k+1≤bS (d+2) a:=EL (d:=d+1) hk;omega
  have noseen:a.op≠[118,97,114]→sn.reverse=cK sn.reverse a:=fun h=>by unfold cK;rw[if_neg h]
  cases ha with
  |var _ t v h hk hv=>
   have e:aM fs false (d+2) a ⟨sn,0,0⟩={ aM fs false (d+1) v (declaresL ⟨sn,0,0⟩ t) with seen:=(aM fs false (d+1) v (declaresL ⟨sn,0,0⟩ t)).seen++[t.text] }:=by
    rw[aM,if_pos (by simp[h]),hk]
   rw[e] at hz ⊢
   have hd0:(declaresL ⟨sn,0,0⟩ t).kind=0:=Decidable.byContradiction fun hne=>fA fs false (d+1) v _ hne hz
   obtain⟨hd1,hns⟩:declaresL ⟨sn,0,0⟩ t=⟨sn,0,0⟩∧t.text∉sn:=by
    unfold declaresL at hd0 ⊢
    split at hd0
    ·exact(gM (by decide) hd0).elim
    ·rename_i hh;rw[if_neg hh];simp at hh;exact⟨rfl,hh.2⟩
   rw[hd1] at hz ⊢
   obtain⟨h1,h2⟩:=hex v (by rw[hk];simp) hv sn hz
   rw[h1];have hwa:bS (d+1) v+1≤bS (d+2) a:=EL (d:=d+1) (a:=a) (k:=v) (by rw[hk];simp)
   refine⟨sn++[t.text],rfl,?_,Or.inl ⟨h,by simp;omega,t,v,hk,h2,by simpa using hns⟩,by simp;omega,by simp⟩
   unfold cK;rw[if_pos h,hk];simp
  |set _ h hn hk=>
   rw[fF (by rw[h];decide) (by rw[h];decide)] at hz ⊢
   have hl0:(bY fs false ⟨sn,0,0⟩ a).kind=0:=Decidable.byContradiction fun hne=>gH (fun s k hs=>fA fs false (d+1) k s hs) a.kids _ hne hz
   have hl:bY fs false ⟨sn,0,0⟩ a=⟨sn,0,0⟩∧a.text∈sn:=by
    unfold bY at hl0 ⊢
    rw[if_pos (by simp[h])] at hl0 ⊢
    split at hl0
    ·rename_i hc;rw[if_pos hc];exact⟨rfl,by simpa using hc⟩
    ·exact(gM (by decide) hl0).elim
   rw[hl.1] at hz ⊢
   obtain⟨h1,h2⟩:=iT a.kids sn (fun k hk'=>hex k hk' (hk k hk')) hz
   exact⟨sn,h1,noseen (by rw[h];decide),Or.inr (Or.inl ⟨h,by simpa using hl.2,hn,h2⟩),by omega,by simp⟩
  |if2 _ c t h hk hc ht htk=>
   have hl:bY fs false ⟨sn,0,0⟩ a=⟨sn,0,0⟩:=look_plain (by rw[h];decide) (by rw[h];decide) (by rw[h];decide)
   rw[KI hk (by rw[h];decide) (by rw[h];decide) hl] at hz ⊢
   have h0:(aM fs false (d+1) c ⟨sn,0,0⟩).kind=0:=Decidable.byContradiction fun hne=>fA fs false (d+1) t _ hne hz
   obtain⟨h1,h2⟩:=hex c (by rw[hk];simp) hc sn h0
   rw[h1] at hz ⊢
   obtain⟨h3,h4⟩:=jE ht (hbk t (by rw[hk];simp) htk) (hwk t (by rw[hk];simp)) hz
   exact⟨sn,h3,noseen (by rw[h];decide),Or.inr (Or.inr (Or.inl ⟨h,c,t,Or.inl hk,h2,h4.up fun s a h=>h.up (by omega)⟩)),by omega,by simp⟩
  |if3 _ c t x h hk hc ht htk hx hxk=>
   have hl:bY fs false ⟨sn,0,0⟩ a=⟨sn,0,0⟩:=look_plain (by rw[h];decide) (by rw[h];decide) (by rw[h];decide)
   rw[YS hk (by rw[h];decide) (by rw[h];decide) hl] at hz ⊢
   have h00:(aM fs false (d+1) t (aM fs false (d+1) c ⟨sn,0,0⟩)).kind=0:=Decidable.byContradiction fun hne=>fA fs false (d+1) x _ hne hz
   have h0:(aM fs false (d+1) c ⟨sn,0,0⟩).kind=0:=Decidable.byContradiction fun hne=>fA fs false (d+1) t _ hne h00
   obtain⟨h1,h2⟩:=hex c (by rw[hk];simp) hc sn h0
   rw[h1] at hz h00 ⊢
   obtain⟨h3,h4⟩:=jE ht (hbk t (by rw[hk];simp) htk) (hwk t (by rw[hk];simp)) h00
   rw[h3] at hz ⊢
   obtain⟨h5,h6⟩:=jE hx (hbk x (by rw[hk];simp) hxk) (hwk x (by rw[hk];simp)) hz
   exact⟨sn,h5,noseen (by rw[h];decide),Or.inr (Or.inr (Or.inl ⟨h,c,t,Or.inr ⟨x,hk,h6.up fun s a h=>h.up (by omega)⟩,h2,h4.up fun s a h=>h.up (by omega)⟩)),by omega,by simp⟩
  |whl _ c t h hk hc ht htk=>
   have hl:bY fs false ⟨sn,0,0⟩ a=⟨sn,0,0⟩:=look_plain (by rw[h];decide) (by rw[h];decide) (by rw[h];decide)
   rw[KI hk (by rw[h];decide) (by rw[h];decide) hl] at hz ⊢
   have h0:(aM fs false (d+1) c ⟨sn,0,0⟩).kind=0:=Decidable.byContradiction fun hne=>fA fs false (d+1) t _ hne hz
   obtain⟨h1,h2⟩:=hex c (by rw[hk];simp) hc sn h0
   rw[h1] at hz ⊢
   obtain⟨h3,h4⟩:=jE ht (hbk t (by rw[hk];simp) htk) (hwk t (by rw[hk];simp)) hz
   exact⟨sn,h3,noseen (by rw[h];decide),Or.inr (Or.inr (Or.inr (Or.inl ⟨h,c,t,hk,h2,h4.up fun s a h=>h.up (by omega)⟩))),by omega,by simp⟩
  |ret0 _ h hk=>
   have hl:bY fs false ⟨sn,0,0⟩ a=⟨sn,0,0⟩:=look_plain (by rw[h];decide) (by rw[h];decide) (by rw[h];decide)
   refine⟨sn,by rw[fF (by rw[h];decide) (by rw[h];decide),hl,hk];rfl,noseen (by rw[h];decide),?_,by omega,by simp⟩
   exact Or.inr (Or.inr (Or.inr (Or.inr (Or.inl ⟨h,Or.inl hk⟩))))
  |ret1 _ v h hk hv=>
   have hl:bY fs false ⟨sn,0,0⟩ a=⟨sn,0,0⟩:=look_plain (by rw[h];decide) (by rw[h];decide) (by rw[h];decide)
   rw[fF (by rw[h];decide) (by rw[h];decide),hl,hk] at hz ⊢
   simp only[List.foldl_cons,List.foldl_nil] at hz ⊢
   obtain⟨h1,h2⟩:=hex v (by rw[hk];simp) hv sn hz
   exact⟨sn,h1,noseen (by rw[h];decide),Or.inr (Or.inr (Or.inr (Or.inr (Or.inl ⟨h,Or.inr ⟨v,hk,h2⟩⟩)))),by omega,by simp⟩
  |print _ v h hk hv=>
   have hl:bY fs false ⟨sn,0,0⟩ a=⟨sn,0,0⟩:=look_plain (by rw[h];decide) (by rw[h];decide) (by rw[h];decide)
   rw[fF (by rw[h];decide) (by rw[h];decide),hl,hk] at hz ⊢
   simp only[List.foldl_cons,List.foldl_nil] at hz ⊢
   obtain⟨h1,h2⟩:=hex v (by rw[hk];simp) hv sn hz
   exact⟨sn,h1,noseen (by rw[h];decide),Or.inr (Or.inr (Or.inr (Or.inr (Or.inr (Or.inl ⟨h,v,hk,h2⟩))))),by omega,by simp⟩
  |call _ v h hk hv=>
   have hl:bY fs false ⟨sn,0,0⟩ a=⟨sn,0,0⟩:=look_plain (by rw[h];decide) (by rw[h];decide) (by rw[h];decide)
   rw[fF (by rw[h];decide) (by rw[h];decide),hl,hk] at hz ⊢
   simp only[List.foldl_cons,List.foldl_nil] at hz ⊢
   obtain⟨h1,h2⟩:=hex v (by rw[hk];simp) hv sn hz
   exact⟨sn,h1,noseen (by rw[h];decide),Or.inr (Or.inr (Or.inr (Or.inr (Or.inr (Or.inr ⟨h,v,hk,h2⟩))))),by omega,by simp⟩
def fO:aC→Nat
 |⟨_,_,_,kids⟩=>1+(kids.attach.map fun ⟨k,_⟩=>fO k).sum
theorem jT(a:aC):fO a=1+(a.kids.map fO).sum:=by
 obtain⟨op,line,text,kids⟩:=a;rw[fO];congr 2
 simp
theorem wG:∀(d:Nat) (a:aC),eS d a→fO a≤bS d a
 |0,_,h=>h.elim
 |d+1,a,h=>by
  rw[jT,bS]
  have:∀l:List aC,(∀k∈l,fO k≤bS d k)→(l.map fO).sum≤(l.map (bS d)).sum:=by
   intro l;induction l with
   |nil=>intro _;simp
   |cons x l ih=>
    intro h;simp only[List.map_cons,List.sum_cons];have h1:=h x (List.mem_cons_self ..);have h2:=ih fun k hk=>h k (List.mem_cons_of_mem _ hk)
    omega
  have:=this a.kids fun k hk=>wG d k (h k hk)
  omega
theorem pE{c:aC→Nat→List aH}{m:Nat}(h:∀a p,(c a p).length≤m*fO a):∀(l:List aC) (p:Nat),(bO c l p).length≤m*(l.map fO).sum
 |[],_=>by simp[bO]
 |a::l,p=>by
  simp only[bO,List.length_append,List.map_cons,List.sum_cons,Nat.mul_add];have h1:=h a p;have h2:=pE h l (p+(c a p).length);omega
theorem lM(fs:List aC)(seen:List (List UInt8)):∀(d:Nat) (a:aC) (p:Nat),(aG fs seen d a p).length≤2*fO a
 |0,_,_=>by simp[aG]
 |d+1,a,p=>by
  have hk:=pE (m:=2) (fun a p=>lM fs seen d a p) a.kids p
  have hn:=jT a;have h1:=fun l q=>lM fs seen d l q
  rw[aG];simp only;generalize bO (aG fs seen d) a.kids p=ks at hk ⊢
  generalize (if (a.text==[108,101,110])=true then aH.length else if (a.text==[114,101,97,100])=true then aH.read else aH.call (cU fs a.text) a.kids.length)=last
  generalize aG fs seen d=E at*;have one:∀i:aH,(ks++[i]).length≤2*fO a:=fun i=>by simp only[List.length_append,List.length_cons,List.length_nil];omega
  have lone:∀i:aH,([i]:List aH).length≤2*fO a:=fun i=>by simp only[List.length_cons,List.length_nil];omega
  by_cases c1:(a.op==[48])=true
  ·rw[if_pos c1];exact lone _
  rw[if_neg c1];by_cases c2:(a.op==[115])=true
  ·rw[if_pos c2];exact lone _
  rw[if_neg c2];by_cases c3:(a.op==[98,111,111,108])=true
  ·rw[if_pos c3];exact lone _
  rw[if_neg c3];by_cases c4:(a.op==[110,97,109,101])=true
  ·rw[if_pos c4];exact lone _
  rw[if_neg c4];by_cases c5:(a.op==[108,105,115,116])=true
  ·rw[if_pos c5];exact one _
  rw[if_neg c5];by_cases c6:(a.op==[105,110,100,101,120])=true
  ·rw[if_pos c6];exact one _
  rw[if_neg c6];by_cases c7:(a.op==[45,120])=true
  ·rw[if_pos c7];exact one _
  rw[if_neg c7];by_cases c8:(a.op==[33,120])=true
  ·rw[if_pos c8];exact one _
  rw[if_neg c8];by_cases c9:(a.op==[99,97,108,108])=true
  ·rw[if_pos c9];exact one _
  rw[if_neg c9];by_cases c10:(a.op==[38,38] || a.op==[124,124])=true
  ·rw[if_pos c10];split
   ·rename_i l r hkk;have h2:=h1 l p;have h3:=h1 r (p+(E l p).length+1);rw[hkk] at hn;simp only[List.map_cons,List.map_nil,List.sum_cons,List.sum_nil] at hn;simp only[List.length_append,List.length_cons,List.length_nil];omega
   ·simp
  ·rw[if_neg c10];exact one _
theorem oZ{c:List (List UInt8)→aC→Nat→List aH × List (List UInt8)}{m:Nat}(h:∀s a p,(c s a p).1.length≤m*fO a):∀(l:List aC) (s:List (List UInt8)) (p:Nat),(bF c s l p).length≤m*(l.map fO).sum
 |[],_,_=>by simp[bF]
 |a::l,s,p=>by
  simp only[bF,List.length_append,List.map_cons,List.sum_cons,Nat.mul_add];have h1:=h s a p;have h2:=oZ h l (c s a p).2 (p+(c s a p).1.length);omega
theorem zW(fs:List aC):∀(d:Nat) (seen:List (List UInt8)) (a:aC) (p:Nat),(bA fs d seen a p).1.length≤3*fO a
 |0,_,_,_=>by simp[bA]
 |d+1,seen,a,p=>by
  have hn:=jT a;have hs:=fun (b:aC) q=>oZ (m:=3) (fun s a p=>zW fs d s a p) b.kids seen q
  have he:=fun (x:aC) q=>lM fs seen d x q
  have hb:=fun (b:aC)=>jT b
  rw[bA];simp only;repeat' split
  all_goals try simp only[List.length_append,List.length_cons,List.length_nil]
  all_goals try omega
  ·rename_i t v hkk;have h1:=he v (p+1);rw[hkk] at hn;simp only[List.map_cons,List.map_nil,List.sum_cons,List.sum_nil] at hn;omega
  ·have h1:=pE (m:=2) (fun a p=>lM fs seen d a p) a.kids (p+1)
   omega
  ·rename_i c t _ x hkk;have h1:=he c (p+1);have h2:=hs t (p+1+(aG fs seen d c (p+1)).length+1);have h3:=hb t;have h4:=hb x;have h5:=hs x (p+1+(aG fs seen d c (p+1)).length+1+(bF (bA fs d) seen t.kids (p+1+(aG fs seen d c (p+1)).length+1)).length+1);rw[hkk] at hn;simp only[List.map_cons,List.map_nil,List.sum_cons,List.sum_nil] at hn;omega
  ·rename_i c t _ hkk _ _;have h1:=he c (p+1);have h2:=hs t (p+1+(aG fs seen d c (p+1)).length+1);have h3:=hb t;rw[hkk] at hn;simp only[List.map_cons,List.sum_cons] at hn;omega
  ·rename_i c t hkk;have h1:=he c (p+1);have h2:=hs t (p+1+(aG fs seen d c (p+1)).length+1);have h3:=hb t;rw[hkk] at hn;simp only[List.map_cons,List.map_nil,List.sum_cons,List.sum_nil] at hn;omega
  all_goals
   rename_i v hkk;have h1:=he v (p+1);rw[hkk] at hn;simp only[List.map_cons,List.map_nil,List.sum_cons,List.sum_nil] at hn;omega
theorem mP(fs:List aC)(d:Nat)(s:aX)(k:aC)(h:s.kind≠0):(eE fs d s k).kind≠0:=by
 unfold eE;split
 ·exact oN s k h
 ·exact fA fs false d k s h
theorem NR(fs:List aC)(d:Nat)(s:aX)(n:aC)(first:Bool)(h:s.kind≠0):(fP fs d s n first).kind≠0:=by
 unfold fP;refine gH (fun s k hs=>mP fs d s k hs) _ _ ?_
 show (if _ then _ else _:aX).kind≠0
 split
 ·exact nY _ _ _ h
 ·exact h
theorem CA(fs:List aC)(d:Nat):∀(rest pre:List aC) (s:aX),s.kind≠0→(eP fs d pre rest s).kind≠0
 |[],_,_,h=>h
 |n::rest,pre,s,h=>CA fs d rest (pre++[n]) _ (NR fs d s n _ h)
theorem pM{fs:List aC}{d:Nat}:∀(ps:List aC) (sn:List (List UInt8)),(∀x∈ps,x.op=[112,97,114,97,109])→(ps.foldl (eE fs d) ⟨sn,0,0⟩).kind=0→ps.foldl (eE fs d) ⟨sn,0,0⟩=⟨sn++ps.map (·.text),0,0⟩∧(sn.Nodup→(sn++ps.map (·.text)).Nodup)
 |[],sn,_,_=>by simp
 |a::l,sn,h,hz=>by
  rw[List.foldl_cons] at hz ⊢
  have hp:eE fs d ⟨sn,0,0⟩ a={ declaresL ⟨sn,0,0⟩ a with seen:=(declaresL ⟨sn,0,0⟩ a).seen++[a.text] }:=by unfold eE;rw[if_pos (by simp[h a (List.mem_cons_self ..)])]
  have h0:(eE fs d ⟨sn,0,0⟩ a).kind=0:=Decidable.byContradiction fun hne=>gH (fun s k hs=>mP fs d s k hs) l _ hne hz
  have hd0:(declaresL ⟨sn,0,0⟩ a).kind=0:=by rw[hp] at h0;exact h0
  obtain⟨hd1,hns⟩:declaresL ⟨sn,0,0⟩ a=⟨sn,0,0⟩∧a.text∉sn:=by
   unfold declaresL at hd0 ⊢
   split at hd0
   ·exact(gM (by decide) hd0).elim
   ·rename_i hh;rw[if_neg hh];simp at hh;exact⟨rfl,hh.2⟩
  rw[hp,hd1] at hz ⊢
  obtain⟨g1,g2⟩:=pM l (sn++[a.text]) (fun x hx=>h x (List.mem_cons_of_mem _ hx)) hz
  rw[g1];have e:sn++[a.text]++l.map (·.text)=sn++(a::l).map (·.text):=by simp
  rw[e] at g2 ⊢
  refine⟨rfl,fun hn=>g2 ?_⟩
  rw[List.nodup_append];exact⟨hn,by simp,fun x hx y hy=>by rw[List.mem_singleton.1 hy];exact fun e=>hns (e▸hx)⟩
theorem NA{fs:List aC}(hfs:∀f∈fs,qC f){d:Nat}{f:aC}(hf:qC f)(hd:eS (d+3) f)(hw:∀e,bS e f≤2001){sn:List (List UInt8)}{first:Bool}(hz:(fP fs (d+2) ⟨sn,0,0⟩ f first).kind=0):jG fs (d+2) f∧∃s',fP fs (d+2) ⟨sn,0,0⟩ f first=⟨s',0,0⟩:=by
 obtain⟨ps,b,hk,hps,hb,_⟩:=hf.kids;have hne:∀f∈fs,f.kids≠[]:=fun f hf=>by obtain⟨ps,b,hk,_⟩:=(hfs f hf).kids;rw[hk];simp
 unfold fP at hz ⊢
 have h0:({ (if fK f.text || !first then aX.found ⟨sn,0,0⟩ f.line 6 else ⟨sn,0,0⟩) with seen:=[] }:aX).kind=0:=Decidable.byContradiction fun hne=>gH (fun s k hs=>mP fs (d+2) s k hs) f.kids _ hne hz
 have hs0:({ (if fK f.text || !first then aX.found ⟨sn,0,0⟩ f.line 6 else ⟨sn,0,0⟩) with seen:=[] }:aX)=⟨[],0,0⟩:=by
  split at h0
  ·exact(gM (by decide) h0).elim
  ·rename_i hh;rw[if_neg hh]
 rw[hs0,hk,List.foldl_append,List.foldl_cons,List.foldl_nil] at hz ⊢
 have hp0:(ps.foldl (eE fs (d+2)) ⟨[],0,0⟩).kind=0:=Decidable.byContradiction fun hne=>mP fs (d+2) _ b hne hz
 obtain⟨hpg,hnd⟩:=pM ps [] hps hp0;have hnd:=hnd List.nodup_nil;rw[List.nil_append] at hpg hnd;rw[hpg] at hz ⊢
 have hpb:eE fs (d+2) ⟨ps.map (·.text),0,0⟩ b=aM fs false (d+2) b ⟨ps.map (·.text),0,0⟩:=by unfold eE;rw[if_neg (by simp[hb.op])]
 rw[hpb] at hz ⊢
 have hbd:eS (d+2) b:=hd b (by rw[hk];simp)
 have hwf:=hw (d+3);rw[bS,hk] at hwf
 have hpl:∀l:List aC,l.length≤(l.map (bS (d+2))).sum:=by
  intro l;induction l with
  |nil=>simp
  |cons x l ih=>simp only[List.map_cons,List.sum_cons,List.length_cons,bS];simp only[bS] at ih;omega
 have:=hpl ps;simp only[List.map_append,List.sum_append,List.map_cons,List.map_nil,List.sum_cons,List.sum_nil] at hwf;obtain⟨h1,h2⟩:=jE hb.op (fun k hk'=>EQ hne (d+1) k (hb.kids k hk') (hbd k hk')) (by show (ps.map (·.text)).length+bS (d+2) b≤_;simp only[List.length_map];omega) hz
 refine⟨⟨⟨ps,b,hk,h2.up fun s a h=>h.up (by omega),hnd⟩,?_⟩,_,h1⟩
 have hn:=wG _ _ hd;have hw3:=hw (d+3);have hl:(bF (bA fs (d+2)) (ps.map (·.text)).reverse b.kids 0).length≤3*(b.kids.map fO).sum:=oZ (m:=3) (fun s a p=>zW fs (d+2) s a p) b.kids (ps.map (·.text)).reverse 0
 have hnf:=jT f;rw[hk] at hnf;have hnb:=jT b;simp only[List.map_append,List.sum_append,List.map_cons,List.map_nil,List.sum_cons,List.sum_nil] at hnf;have hc:(fD fs (d+2) f).code.length=(bF (bA fs (d+2)) (ps.map (·.text)).reverse b.kids 0).length+2:=by simp[fD,hk]
 omega
theorem wQ{fs:List aC}(hfs:∀f∈fs,qC f){d:Nat}:∀(rest pre:List aC) (sn:List (List UInt8)),(∀f∈rest,f∈fs∧eS (d+3) f∧∀e,bS e f≤2001)→(eP fs (d+2) pre rest ⟨sn,0,0⟩).kind=0→∀f∈rest,jG fs (d+2) f
 |[],_,_,_,_,f,hf=>by cases hf
 |n::rest,pre,sn,h,hz,f,hf=>by
  rw[eP] at hz;have h0:(fP fs (d+2) ⟨sn,0,0⟩ n (dG pre n.text).isNone).kind=0:=Decidable.byContradiction fun hne=>CA fs (d+2) rest _ _ hne hz
  obtain⟨h1,h2,h3⟩:=h n (List.mem_cons_self ..);obtain⟨g1,s',g2⟩:=NA hfs (hfs n h1) h2 h3 h0;rw[g2] at hz;rcases List.mem_cons.1 hf with rfl|hf
  ·exact g1
  ·exact wQ hfs rest (pre++[n]) s' (fun f hf=>h f (List.mem_cons_of_mem _ hf)) hz f hf
theorem EK{e:Nat}{f:aC}:∀{l:List aC},f∈l→bS e f≤(l.map (bS e)).sum
 |x::l,h=>by
  simp only[List.map_cons,List.sum_cons];rcases List.mem_cons.1 h with rfl|h
  ·omega
  ·have:=EK (e:=e) h;omega
theorem FineL.mem{m:Nat}{l:List aC}{f:aC}(h:FineL m l)(hf:f∈l):FineA m f:=fun e=>⟨Nat.le_trans (EK hf) (h e).1,(h e).2 f hf⟩
theorem GZ{l:List UInt8}{ks:List aC}(hp:cR l=.ok ks)(hr:dF l=(0,0)):(∀f∈ks,jG ks 2001 f)∧fI ks (cU ks [109,97,105,110])=some 0:=by
 unfold dF at hr;rw[hp] at hr;simp only at hr;unfold jU at hr;have hS:=tK hp;have hF:=kC hp;have hone:∀f∈ks,FineA 2001 f:=fun f hf=>hF.mem hf
 split at hr
 ·cases hr
 rename_i m hm;split at hr
 ·cases hr
 rename_i hmk;have hz:(eP ks 2001 [] ks ⟨[],0,0⟩).kind=0:=by simp only[Prod.mk.injEq] at hr;exact hr.1
 refine⟨fun f hf=>wQ (d:=1999) hS ks [] [] (fun f hf=>⟨hf,?_,fun e=>((hone f hf) e).1⟩) hz f hf,?_⟩
 ·have:=mW 2002 f ((hone f hf).le (by omega))
  exact this
 ·unfold fI;rw[sJ hm];obtain⟨ps,b,hk,_⟩:=(hS m (List.mem_of_find?_eq_some hm)).kids;have:m.kids.length=ps.length+1:=by rw[hk];simp
  simp;omega
theorem oP{a b:List UInt8}(h:bD a≠0):bD (a++b)=bD a:=
 mH h fun _ hi=>List.getElem?_append_left (Nat.lt_of_lt_of_le hi jJ)
theorem rL{l:List UInt8}(h:bD l≠0):bD (l.take (bD l))=bD l:=
 mH h fun i hi=>by rw[List.getElem?_take,if_pos hi]
theorem cL.append{a b:List UInt8}(ha:cL a)(hb:cL b):cL (a++b):=by
 induction ha with
 |nil=>exact hb
 |@cons l h1 _ ih=>
  refine cL.cons (by rw[oP h1];exact h1) ?_
  rw[oP h1,List.drop_append_of_le_length jJ];exact ih
theorem cL.one{l:List UInt8}(h:bD l≠0):cL (l.take (bD l)):=
 cL.cons (by rw[rL h];exact h) (by rw[rL h,List.drop_take];simp;exact cL.nil)
theorem cL.ne{l:List UInt8}(h:cL l)(hl:l≠[]):bD l≠0∧cL (l.drop (bD l)):=by
 cases h with
 |nil=>exact absurd rfl hl
 |cons h1 h2=>exact⟨h1,h2⟩
theorem OH:∀(n:Nat) (l:List UInt8),l.length≤n→∀c∈dO l,cL c:=by
 intro n;induction n with
 |zero=>
  intro l hl c hc;rw[dL (Or.inl (List.length_eq_zero_iff.1 (by omega)))] at hc
  cases hc
 |succ n ih=>
  intro l hl c hc;by_cases h1:l=[]
  ·rw[dL (Or.inl h1)] at hc;cases hc
  by_cases h2:bD l=0
  ·rw[dL (Or.inr h2)] at hc;cases hc
  rw[gP h1 h2] at hc;rcases List.mem_cons.1 hc with rfl|hc
  ·exact cL.one h2
  ·exact ih _ (by rw[List.length_drop];omega) c hc
def SY:Nat→aI→Prop
 |0,_=>True
 |d+1,v=>cL v.s∧∀x∈v.l,SY d x
structure bM(v:aI):Prop where
 all:∀d,SY d v
theorem bM.txt{v:aI}(h:bM v):cL v.s:=(h.all 1).1
theorem bM.kid{v x:aI}(h:bM v)(hx:x∈v.l):bM x:=⟨fun d=>(h.all (d+1)).2 x hx⟩
theorem bM.mk'{v:aI}(h1:cL v.s)(h3:∀x∈v.l,bM x):bM v:=
 ⟨fun d=>by
   cases d with
   |zero=>trivial
   |succ d=>exact⟨h1,fun x hx=>(h3 x hx).all d⟩⟩
theorem bM.num(n:Int):bM (bB n):=.mk' .nil fun x hx=>by cases hx
theorem bM.tru(b:Bool):bM (bL b):=.mk' .nil fun x hx=>by cases hx
theorem bM.nil:bM bK:=.mk' .nil fun x hx=>by cases hx
theorem bM.str{s:List UInt8}(h:cL s):bM (bH s):=.mk' h fun x hx=>by cases hx
theorem bM.lst{l:List aI}(h:∀x∈l,bM x):bM (aU l):=.mk' .nil h
theorem vS{l:List aI}(h:∀x∈l,bM x)(k:Nat):bM (l.getD k bK):=by
 rw[List.getD_eq_getElem?_getD];cases hk:l[k]? with
 |none=>exact bM.nil
 |some x=>exact h x (List.mem_of_getElem? hk)
theorem yQ{l:List aI}(h:∀x∈l,bM x)(k:Nat):bM (l[k]?.getD bK):=by
 cases hk:l[k]? with
 |none=>exact bM.nil
 |some x=>exact h x (List.mem_of_getElem? hk)
theorem QM(op:List UInt8)(a:aI):bM (fB op a).1:=by
 unfold fB;repeat' split
 all_goals first|exact bM.num _|exact bM.tru _|exact bM.nil
theorem MQ(op:List UInt8)(x y:Int):bM (iL op x y).1:=by
 unfold iL;repeat' split
 all_goals first|exact bM.num _|exact bM.tru _|exact bM.nil
theorem DK{a b:aI}(ha:bM a)(hb:bM b):bM (iK a b).1:=by
 unfold iK;dsimp only;generalize he:(if a.sort=3 then aU (a.l++b.l) else bH (a.s++b.s))=v
 have hv:bM v:=by
  rw[←he];split
  ·refine bM.lst fun x hx=>?_
   rcases List.mem_append.1 hx with h|h
   ·exact ha.kid h
   ·exact hb.kid h
  ·exact bM.str (ha.txt.append hb.txt)
 split
 ·exact bM.nil
 ·exact hv
theorem PB(op:List UInt8){a b:aI}(ha:bM a)(hb:bM b):bM (eG op a b).1:=by
 unfold eG;repeat' split
 all_goals first|exact bM.tru _|exact bM.nil|exact MQ _ _ _|exact DK ha hb
theorem DI(a:aI):bM (dT a).1:=by
 unfold dT;repeat' split
 all_goals first|exact bM.num _|exact bM.nil
theorem IU{a:aI}(b:aI)(ha:bM a):bM (cV a b).1:=by
 unfold cV;split
 ·exact bM.nil
 split
 ·exact bM.nil
 refine vS (fun x hx=>?_) _
 unfold iP at hx;split at hx
 ·obtain⟨c,hc,rfl⟩:=List.mem_map.1 hx;exact bM.str (OH _ _ (Nat.le_refl _) c hc)
 ·exact ha.kid hx
theorem pY:∀(l:List aI) (a b:aI),bM a→bM b→bM (cF l a b).1
 |[],_,_,_,hb=>hb
 |i::l,a,b,ha,hb=>by
  unfold cF;have ih:=pY l (a.l.getD i.n.toNat bK) b (vS (fun x hx=>ha.kid hx) _) hb
  split
  ·exact bM.nil
  split
  ·exact bM.nil
  split
  ·exact bM.nil
  ·refine bM.lst fun x hx=>?_
   rcases List.mem_or_eq_of_mem_set hx with h|h
   ·exact ha.kid h
   ·rw[h];exact ih
theorem tM{r:aI × Nat}(h:bM r.1):bM (gO r).1:=by
 unfold gO;repeat' split
 all_goals first|exact bM.nil|exact h
def tY(f:eJ):Prop:=(∀v,aH.push v∈f.code→bM v)∧∀op,aH.unary op∈f.code→op=[45]∨op=[33]
structure dE(f:aK):Prop where
 fn:tY f.fn
 vars:∀v∈f.vars,bM v
 ops:∀v∈f.ops,bM v
def fL(m:cM):Prop:=∀f∈m.frames,dE f
def iW(tab:List eJ):Prop:=∀f∈tab,tY f
theorem dE.last{f:aK}(h:dE f):bM f.last:=by
 unfold aK.last;cases hk:f.ops.getLast? with
 |none=>exact bM.nil
 |some x=>exact h.ops x (List.mem_of_getLast? hk)
theorem dE.pop{f:aK}(h:dE f):dE f.pop:=⟨h.fn,h.vars,fun v hv=>h.ops v (List.dropLast_subset _ hv)⟩
theorem dE.popMany{f:aK}(h:dE f)(n:Nat):dE (f.popMany n):=⟨h.fn,h.vars,fun v hv=>h.ops v (List.mem_of_mem_take hv)⟩
theorem dE.push{f:aK}(h:dE f){a:aI}(ha:bM a):dE (f.push a):=⟨h.fn,h.vars,fun v hv=>by
 rcases List.mem_append.1 hv with h1|h1
 ·exact h.ops v h1
 ·rw[List.mem_singleton.1 h1];exact ha⟩
theorem dE.next{f:aK}(h:dE f)(n:Nat):dE { f with next:=n }:=⟨h.fn,h.vars,h.ops⟩
theorem dE.many{f:aK}(h:dE f)(n:Nat):∀v∈f.many n,bM v:=fun v hv=>h.ops v (List.mem_of_mem_drop hv)
theorem AY{i:aH}{f:aK}(h:dE f)(hi:∀v,i=.push v→bM v):dE (aN i f).1:=by
 cases i<;>simp only[aN]
 case begin l s=>exact⟨h.fn,h.vars,h.ops⟩
 case push v=>exact h.push (hi v rfl)
 case load k=>exact h.push (yQ h.vars k)
 case declare k=>
  refine⟨h.fn,fun v hv=>?_,h.pop.ops⟩
  rcases List.mem_append.1 hv with h1|h1
  ·exact h.vars v (List.mem_of_mem_take h1)
  ·rw[List.mem_singleton.1 h1];exact h.last
 case assign k n=>
  have hg:=h.pop.popMany n;split
  ·refine⟨hg.fn,fun v hv=>?_,hg.ops⟩
   rcases List.mem_or_eq_of_mem_set hv with h1|h1
   ·exact h.vars v h1
   ·rw[h1];exact tM (pY _ _ _ (yQ h.vars k) h.last)
  ·exact hg
 case jump t=>exact h.next t
 case skip t=>
  repeat' split
  ·exact h.pop
  ·exact h.pop.next t
  ·exact h.pop
 case shortcut w t=>
  repeat' split
  ·exact(h.pop.push h.last).next t
  ·exact h.pop
  ·exact h.pop
 case truth=>
  repeat' split
  ·exact h.pop.push h.last
  ·exact h.pop
 case unary op=>
  repeat' split
  ·exact h.pop.push (QM _ _)
  ·exact h.pop
 case binary op=>
  repeat' split
  ·exact h.pop.pop.push (PB _ h.pop.last h.last)
  ·exact h.pop.pop
 case index=>
  repeat' split
  ·exact h.pop.pop.push (IU _ h.pop.last)
  ·exact h.pop.pop
 case list n=>
  repeat' split
  ·exact(h.popMany n).push (tM (bM.lst (h.many n)))
  ·exact h.popMany n
 case length=>
  repeat' split
  ·exact h.pop.push (DI _)
  ·exact h.pop
 case drop=>exact h.pop
 all_goals exact h
theorem BT{tab:List eJ}(ht:iW tab){below:List aK}{f g:aK}{t:List Int}{o:List (List UInt8)}{i:aH}(h:fL ⟨below++[f],t,o⟩)(hf:f.fetch=some (i,g)):fL (cC tab i below g t o).1:=by
 have hb:∀x∈below,dE x:=fun x hx=>h x (by simp[hx])
 have hf0:dE f:=h f (by simp)
 obtain⟨rfl,hi⟩:g={ f with next:=f.next+1 }∧f.fn.code[f.next]?=some i:=by
  unfold aK.fetch at hf;cases hx:f.fn.code[f.next]? with
  |none=>rw[hx] at hf;cases hf
  |some j=>rw[hx] at hf;simp at hf;exact⟨hf.2.symm,by rw[hf.1]⟩
 have hg:dE { f with next:=f.next+1 }:=hf0.next _
 generalize { f with next:=f.next+1 }=g at hg
 have hpu:∀v,i=.push v→bM v:=fun v e=>hf0.fn.1 v (by rw[←e];exact List.mem_of_getElem? hi)
 have one:∀y,dE y→∀t o,fL ⟨below++[y],t,o⟩:=fun y hy t o x hx=>by
  rcases List.mem_append.1 hx with h1|h1
  ·exact hb x h1
  ·rw[List.mem_singleton.1 h1];exact hy
 cases i
 case read=>
  cases t with
  |nil=>exact one _ hg _ _
  |cons a r=>exact one _ (hg.push (bM.num _)) _ _
 case call k n=>
  simp only[cC];split
  ·exact one _ (hg.popMany n) _ _
  ·intro x hx;simp only[List.mem_append,List.mem_cons,List.not_mem_nil,or_false] at hx;rcases hx with h1|rfl|rfl
   ·exact hb x h1
   ·exact hg.popMany n
   ·refine⟨?_,hg.many n,fun v hv=>by cases hv⟩
    show tY (tab[k]?.getD ⟨[],[]⟩)
    cases hk:tab[k]? with
    |none=>exact And.intro (fun v hv=>absurd hv (by simp)) (fun v hv=>absurd hv (by simp))
    |some y=>exact ht y (List.mem_of_getElem? hk)
 case give=>
  simp only[cC];intro x hx;rcases List.mem_append.1 hx with h1|h1
  ·exact hb x (List.dropLast_subset _ h1)
  ·cases hk:below.getLast? with
   |none=>rw[hk] at h1;cases h1
   |some y=>
    rw[hk] at h1;simp at h1;rw[h1];exact(hb y (List.mem_of_getLast? hk)).push hg.last
 case print=>
  simp only[cC];split<;>exact one _ hg.pop _ _
 all_goals exact one _ (AY hg hpu) _ _
end Go.Proofs.YtblbkfdhjfppkaaGreatDoor.Hs
