/- Contracts of the program: a variable is declared: what it does. -/
import Derived.Test.YtblbkfdhjfppkaaGreatDoorP16
set_option maxRecDepth 100000
set_option maxHeartbeats 4000000
namespace Go.Proofs.YtblbkfdhjfppkaaGreatDoor
open Hs
open Tryz(prog)
open Go.RowKit
section
variable {fp:Nat->Value} {F:Nat->Prop} {base:Nat} {w:World} {sb gf cap:Nat} {t0 tv outv s0:Value} {fvs:List FVal} {below:List aK} {f:aK} {tape:List Int} {out:List (List UInt8)}
theorem cT.popR{fb:List FVal}{v:FVal}{vs:List aI}{a:aI}(h:cT fp F base w sb gf cap t0 tv outv s0 (fb++[v]) ⟨below++[f],tape,out⟩)(hf:f.ops=vs++[a])(hops:f.ops.length<=100000):
 Calls prog 171 #[.pointer (some ⟨gf,fb.length*6,none⟩)] w fun e w'=>∃t z ov',e=.returned (.iface t z)/\PV F w' (.iface t z) a/\aJ a<=200/\ov'.ownBlock=v.ov.ownBlock/\cT fp F base w' sb gf cap t0 tv outv s0 (fb++[{ v with ov:=ov' }]) ⟨below++[f.pop],tape,out⟩/\Kept (aF sb gf outv (fb++[v])) w w'/\∀k,k≠gf->w'.heap[k]?=w.heap[k]?:=by
 obtain⟨fb',v0,cur,e,hfl,hv,hblk,hcur,hcap,k0,k1,k2,k3,k4,k5⟩:=h.top;obtain⟨rfl,e2⟩:=ap_ e rfl;cases e2;obtain⟨⟨xs,hown,hxs⟩,hc200⟩:=hv.ops;rw[hf] at hown hxs hc200 hops;obtain⟨xs',u,rfl,hl,hxs',hu⟩:=fY.unsnoc hxs;obtain⟨t,z,rfl⟩:=hu.form;rw[m6] at hown hops;refine(PK base gf (fb.length*6) vs.length cur v.ov xs' _ w hcur k5 hown hl ⟨t,z,rfl⟩ (by omega)).mono ?_
 rintro e w' ⟨rfl,ov',rfl,p2,p3⟩;have hpop:f.pop.ops=vs:=by simp[aK.pop,hf]
 have hfr:MH fp F base w { v with ov:=ov' } f.pop:=⟨hv.fn,hv.nx,hv.ln,hv.sp,hv.vars,⟨xs',by rw[hpop];exact p2,by rw[hpop];exact hxs'⟩,fun b hb=>hc200 b (y9 _ (by rw[hpop] at hb;exact hb))⟩
 obtain⟨q1,q2⟩:=h.setTop (j:=5) (x:=ov') (v':={ v with ov:=ov' }) (by omega) rfl (by simp[FVal.owns,p3]) hfr
 have hgf:∀k,F k->(w.setCell ⟨gf,fb.length*6+5,none⟩ ov').heap[k]?=w.heap[k]?:=fun k hk=>m7 _ _ _ _ fun e=>(h.apart k hk).2 (by simp[aF,e])
 exact⟨t,z,ov',rfl,hu.keep hgf,hc200 a (by simp),p3,q1,q2,fun k hk=>m7 _ _ _ _ hk⟩
theorem cT.declaredC{fb:List FVal}{v:FVal}{d:Nat}{xs:List Value}{a:aI}{t:TypeId}{z:Value}{g5 cap5:Nat}{w5:World}{ob:Option Nat}(h:cT fp F base w sb gf cap t0 tv outv s0 (fb++[v]) ⟨below++[f],tape,out⟩)(hu:PV F w (.iface t z) a)(hca:aJ a<=200)(hxs:fY F w xs (f.vars.take d))(hd:d<=f.vars.length)(hob:ob=v.vv.ownBlock)
 (p2:w5.ownsRow base 256 1 (.slice (some ⟨g5,0,none⟩) (d+1) cap5) (d+1) (xs++[.iface t z])) (hg:(w.alloc (.cells #[.iface t z] 256)).grownBy w5 ob) (hat:ob=some g5\/w.heap.size+1<=g5):
 cT fp F base (w5.setCell ⟨gf,fb.length*6+4,none⟩ (.slice (some ⟨g5,0,none⟩) (d+1) cap5)) sb gf cap t0 tv outv s0 (fb++[{ v with vv:=.slice (some ⟨g5,0,none⟩) (d+1) cap5 }]) ⟨below++[{ f with vars:=f.vars.take d++[a] }],tape,out⟩/\Kept (aF sb gf outv (fb++[v])) w (w5.setCell ⟨gf,fb.length*6+4,none⟩ (.slice (some ⟨g5,0,none⟩) (d+1) cap5)):=by
 obtain⟨fb',v0,cur,e,hfl,hv,hblk,hcur,hcap,k0,k1,k2,k3,k4,k5⟩:=h.top;obtain⟨rfl,e2⟩:=ap_ e rfl;cases e2;have hgl:=aD hcur
 have hgv:v.vv.ownBlock≠some gf:=fun e=>by
  have:=(r8.1 (r8.1 h.nodup).2).1;exact this (by simp[aW,FVal.owns,e])
 have hg5:g5≠gf:=by
  rcases hat with e|e
  ·intro e3;rw[hob] at e;exact hgv (by rw[e,e3])
  ·omega
 have hk:∀k,k<w.heap.size->some k≠v.vv.ownBlock->w5.heap[k]?=w.heap[k]?:=fun k h1 h2=>by
  rw[hg.block k (by simp;omega) (by rw[hob];exact h2),o9 _ _ _ h1]
 have hgf5:w5.heap[gf]?=some (.cells cur 195 (0,0)):=by rw[hk gf hgl (fun e=>hgv e.symm)];exact hcur
 refine h.declared (a:=a) (u:=.iface t z) (xs:=xs) hcur hxs hd hu hca (aS hgf5) (bA p2 fun k hk'=>m7 _ _ _ _ (by cases hk';exact hg5)) (fun k hk'=>?_) ⟨hg.os.trans rfl,hg.tape.trans rfl,hg.output.trans rfl,p7 (by simp) (p7 hg.size (by simp)),fun k h1 h2 h3=>?_⟩
 ·cases hk';rcases hat with e|e
  ·exact Or.inl (by rw[<-hob];exact e)
  ·exact Or.inr (by show w.heap.size<=g5;omega)
 ·rw[m7 _ _ _ _ h2,hk k h1 h3]
def xB(fp:Nat->Value)(F:Nat->Prop)(base sb gf cap:Nat)(t0 tv outv s0:Value)(fb:List FVal)(v:FVal)(below:List aK)(f:aK)(tape:List Int)(out:List (List UInt8))(w0:World)(a:aI)(t:TypeId)(z:Value)(W:World):Prop:=
 ∃ov',ov'.ownBlock=v.ov.ownBlock/\PV F W (.iface t z) a/\aJ a<=200/\cT fp F base W sb gf cap t0 tv outv s0 (fb++[{ v with ov:=ov' }]) ⟨below++[f.pop],tape,out⟩/\Kept (aF sb gf outv (fb++[v])) w0 W/\∀k,k≠gf->W.heap[k]?=w0.heap[k]?
theorem xB.fin{fb:List FVal}{v:FVal}{w0 W:World}{a:aI}{t:TypeId}{z:Value}{d:Nat}{xs:List Value}{ob:Obj}(h:cT fp F base w sb gf cap t0 tv outv s0 (fb++[v]) ⟨below++[f],tape,out⟩)(hw0:w0=w.alloc ob)(hq:xB fp F base sb gf cap t0 tv outv s0 fb v below f tape out w0 a t z W)(hd:d<=f.vars.length)(hxs:fY F w0 xs (f.vars.take d))(hla:f.last=a)
 (g5 cap5:Nat) (w5:World) (ob5:Option Nat) (hob:ob5=v.vv.ownBlock) (p2:w5.ownsRow base 256 1 (.slice (some ⟨g5,0,none⟩) (d+1) cap5) (d+1) (xs++[.iface t z])) (hg:(W.alloc (.cells #[.iface t z] 256)).grownBy w5 ob5) (hat:ob5=some g5\/W.heap.size+1<=g5):
 Done fp F base sb t0 s0 (aF sb gf outv (fb++[v])) w ⟨below++[(aN (.declare d) f).1],tape,out⟩ (w5.setCell ⟨gf,fb.length*6+4,none⟩ (.slice (some ⟨g5,0,none⟩) (d+1) cap5)):=by
 subst hw0;obtain⟨ov',h1,h2,h3,h4,h5,h6⟩:=hq;have hgk:∀k,F k->k≠gf:=fun k hk e=>(h.apart k hk).2 (by simp[aF,e])
 obtain⟨q1,q2⟩:=h4.declaredC (d:=d) (xs:=xs) h2 h3 (hxs.keep fun b hb=>h6 b (hgk b hb)) hd hob p2 hg hat
 have hown:aF sb gf outv (fb++[{ v with ov:=ov' }])=aF sb gf outv (fb++[v]):=by simp[aF,aW,FVal.owns,h1]
 rw[hown] at q2;have hK:=((Kept.of_below (own:=aF sb gf outv (fb++[v])) ((m8 _ w).alloc (l9 _) ob)).trans h5 fun _ h=>Or.inl h).trans q2 fun _ h=>Or.inl h
 refine⟨hK,F,gf,cap,tv,outv,fb++[{ v with ov:=ov',vv:=.slice (some ⟨g5,0,none⟩) (d+1) cap5 }],Ext.refl _ _,?_,fun k hk=>?_⟩
 ·have e:(aN (.declare d) f).1={ f.pop with vars:=f.pop.vars.take d++[a] }:=by simp[aN,hla,aK.pop]
  rw[e];exact q1
 ·have e1:aF sb gf outv (fb++[{ v with ov:=ov',vv:=.slice (some ⟨g5,0,none⟩) (d+1) cap5 }])=(sb::gf::(outv.ownBlock.toList++aW fb))++(g5::v.ov.ownBlock.toList):=by
   have e0:(Value.slice (some ⟨g5,0,none⟩) (d+1) cap5).ownBlock=some g5:=rfl;simp[aF,aW,FVal.owns,h1,e0]
  have e2:aF sb gf outv (fb++[v])=(sb::gf::(outv.ownBlock.toList++aW fb))++v.owns:=by simp[aF,aW]
  have hk2:k∈(sb::gf::(outv.ownBlock.toList++aW fb))++(g5::v.ov.ownBlock.toList):=by rw[<-e1];exact hk
  rw[e2];rcases o7.1 hk2 with h7|h7
  ·exact Or.inl (y9 _ h7)
  ·rcases p8.1 h7 with rfl|h7
   ·rcases hat with e|e
    ·exact Or.inl (ab_ _ (by rw[hob] at e;simp[FVal.owns,e]))
    ·have:=h5.size;exact Or.inr (by simp at this;omega)
   ·exact Or.inl (ab_ _ (ab_ _ h7))
theorem xB.reads{fb:List FVal}{v:FVal}{W:World}{a:aI}{t:TypeId}{z:Value}{cs:Array Value}{ty:TypeId}(h:cT fp F base w sb gf cap t0 tv outv s0 (fb++[v]) ⟨below++[f],tape,out⟩)(hb:base<=w.heap.size)(hq:xB fp F base sb gf cap t0 tv outv s0 fb v below f tape out (w.alloc (.cells cs ty)) a t z W):
 W.heap[w.heap.size]?=some (.cells cs ty (0,0))/\W.cell? ⟨gf,fb.length*6+4,none⟩=some v.vv/\gf<W.heap.size/\base<=W.heap.size/\
  ∀w5:World,(W.alloc (.cells #[.iface t z] 256)).grownBy w5 v.vv.ownBlock->(∃u,w5.cell? ⟨gf,fb.length*6+4,none⟩=some u)/\w5.frozen? ⟨gf,fb.length*6+4,none⟩=false/\gf<w5.heap.size:=by
 obtain⟨ov',h1,h2,h3,h4,h5,h6⟩:=hq;obtain⟨fb',v0,cur,e,hfl,hv,hblk,hcur,hcap,k0,k1,k2,k3,k4,k5⟩:=h4.top;obtain⟨rfl,e2⟩:=ap_ e rfl;have e3:v0={ v with ov:=ov' }:=by simpa using e2.symm
 subst e3;have hgl:=aD hcur;have hgw:gf<w.heap.size:=h.lt gf (by simp[aF])
 have hgv:v.vv.ownBlock≠some gf:=fun e=>by
  have:=(r8.1 (r8.1 h.nodup).2).1;exact this (by simp[aW,FVal.owns,e])
 refine⟨by rw[h6 _ (by omega)];exact aT _ _ rfl _,aA hcur k4,hgl,p7 hb (p7 (by simp) h5.size),fun w5 hg=>?_⟩
 have hgf5:w5.heap[gf]?=some (.cells cur 195 (0,0)):=by
  rw[hg.block gf (by simp;omega) (fun e=>hgv e.symm),o9 _ _ _ hgl];exact hcur
 exact⟨⟨_,aA hgf5 k4⟩,aE hgf5,aD hgf5⟩
theorem UW(d:Nat)(h:cT fp F base w sb gf cap t0 tv outv s0 fvs ⟨below++[f],tape,out⟩)(hbel:below.length<=15)(hbase:base<=w.heap.size)(hops:f.ops.length<=99000)(hne:∃vs a,f.ops=vs++[a])(hd:d<=f.vars.length)(hvl:f.vars.length<=90001):
 Calls prog 403 #[.agg #[.int .i64 d],.pointer (some ⟨sb,0,none⟩)] w (nS fp F base sb t0 s0 (aF sb gf outv fvs) w below tape out (aN (.declare d) f)):=by
 obtain⟨vs,a,hf⟩:=hne;have hM:=h.mid hbase (.cells #[.int .i64 d] 443);obtain⟨fb,v,cur,rfl,hfl, -⟩:=h.top;have h0:=h.grow ((m8 _ w).alloc (l9 _) (.cells #[.int .i64 d] 443)) (fun _ h=>h) (fun _ h=>Or.inl h)
 have hT:=hM.topS hbel;rw[<-hfl] at hT;obtain⟨fb',v0,cur,e, -,hv,hblk,hcur,hcap,k0,k1,k2,k3,k4,k5⟩:=h0.top;obtain⟨rfl,e2⟩:=ap_ e rfl;cases e2
 have HP:Hid (∀W,aY (w.alloc (.cells #[.int .i64 d] 443)) W->Calls prog 171 #[.pointer (some ⟨gf,fb.length*6,none⟩)] W fun e w'=>∃t z,e=.returned (.iface t z)/\xB fp F base sb gf cap t0 tv outv s0 fb v below f tape out (w.alloc (.cells #[.int .i64 d] 443)) a t z w'):=fun W hS=>by
  refine((h0.grow hS.below (fun _ h=>h) (fun _ h=>Or.inl h)).popR hf (by omega)).mono ?_
  rintro e w' ⟨t,z,ov',he,h1,h2,h3,h4,h5,h6⟩;exact⟨t,z,he,ov',h3,h1,h2,h4,(Kept.of_below (own:=aF sb gf outv (fb++[v])) hS.below).trans h5 fun _ h=>Or.inl h,fun k hk=>by rw[h6 k hk,hS.heap]⟩
 obtain⟨⟨xs,hown,hxs⟩,hc200⟩:=hv.vars
 have hgv:v.vv.ownBlock≠some gf:=fun e=>by
  have:=(r8.1 (r8.1 h.nodup).2).1;exact this (by simp[aW,FVal.owns,e])
 have hxs':fY F (w.alloc (.cells #[.int .i64 d] 443)) (xs.take d) (f.vars.take d):=by
  have hh:=hxs;rw[<-ae_ d f.vars] at hh;obtain⟨ys,zs,rfl,l1,l2,r1,r2⟩:=hh.split;rw[an_,Nat.min_eq_left hd] at l1;rw[<-l1,List.take_left,l1];exact r1
 rcases hown.2 with ⟨r1,r2⟩|⟨g,c,row,r1,hg1,hrow,hcp,hcm,hcs,htk⟩
 ·obtain rfl:d=0:=by omega
  refine(GA w _ sb gf (fb.length*6) base (fun w'=>Done fp F base sb t0 s0 (aF sb gf outv (fb++[v])) w ⟨below++[(aN (.declare 0) f).1],tape,out⟩ w') (xB fp F base sb gf cap t0 tv outv s0 fb v below f tape out (w.alloc (.cells #[.int .i64 0] 443)) a) [] rfl hT (by rw[<-r1];exact aA hcur k4) HP (fun W t z hq=>?_) (fun W t z hq=>World.ownsRow_nil _ _ _ _) (fun W t z hq=>?_) (fun W t z hq=>?_)).mono ?_
  ·obtain⟨q1,q2,q3,q4,q5⟩:=xB.reads h hbase hq;exact⟨aA q1 rfl,aD q1,by rw[q2,r1],q3,q4⟩
  ·have:=(xB.reads h hbase hq).2.2.2.2;rw[r1] at this;exact this
  ·intro g5 cap5 w5 p2 hg hat;exact xB.fin h rfl hq hd (by simpa using hxs') (iU hf) g5 cap5 w5 none (by rw[r1];rfl) p2 hg hat
  ·rintro e w' ⟨rfl,h2⟩;exact nS.ok rfl h2
 ·refine(FZ w _ sb gf (fb.length*6) base d g f.vars.length c hd hcp (by omega) (fun w'=>Done fp F base sb t0 s0 (aF sb gf outv (fb++[v])) w ⟨below++[(aN (.declare d) f).1],tape,out⟩ w') (xB fp F base sb gf cap t0 tv outv s0 fb v below f tape out (w.alloc (.cells #[.int .i64 d] 443)) a) (xs.take d) rfl (by omega) hT (by rw[<-r1];exact aA hcur k4) HP (fun W t z hq=>?_) (fun W t z hq=>?_) (fun W t z hq=>?_) (fun W t z hq=>?_)).mono ?_
  ·obtain⟨q1,q2,q3,q4,q5⟩:=xB.reads h hbase hq;exact⟨aA q1 rfl,aD q1,by rw[q2,r1],q3,q4⟩
  ·obtain⟨ov',_,_,_,_,_,h6⟩:=hq;have hrow':W.heap[g]?=_:=(h6 g (fun e=>hgv (by rw[r1,e];rfl))).trans hrow
   have hxl:xs.length=f.vars.length:=hxs.1;refine⟨by rw[an_];omega,Or.inr ⟨g,c,row,rfl,hg1,hrow',by omega,hcm,hcs,?_⟩⟩
   have:=congrArg (List.take d) htk;rw[aS_,show min d (f.vars.length*1)=d by omega] at this
   rw[Nat.mul_one];exact this
  ·have:=(xB.reads h hbase hq).2.2.2.2;rw[r1] at this;exact this
  ·intro g5 cap5 w5 p2 hg hat;exact xB.fin h rfl hq hd hxs' (iU hf) g5 cap5 w5 (some g) (by rw[r1];rfl) p2 hg hat
  ·rintro e w' ⟨rfl,h2⟩;exact nS.ok rfl h2
end
theorem NS(w w0:World)(sb:Nat)(x:Option Addr)(c:Nat)(hW:w.alloc (.cells #[] 440)=w0)(hv:w0.cell? ⟨sb,2,none⟩=some (.slice x 0 c)):
 Calls prog 401 #[.agg #[],.pointer (some ⟨sb,0,none⟩)] w fun e w'=>e=fK 7/\w'=w0:=by
 go_enter Tryz.func401,Tryz.ntmps401;go_wp2_with fail;exact⟨rfl,rfl,rfl⟩
theorem NR(w w0:World)(sb fa fj g o n c:Nat)(i:Int)(P P1:World->Prop)(hW:w.alloc (.cells #[] 440)=w0)(hn:n+1<=c)(_hnn:n<=1000000000)
 (HT:Hid (∀W,aY w0 W->Calls prog 158 #[.pointer (some ⟨sb,0,none⟩)] W fun e w'=>e=.returned (.pointer (some ⟨fa,fj,none⟩))/\aY w0 w'))
 (hv:w0.cell? ⟨sb,2,none⟩=some (.slice (some ⟨g,o,none⟩) (n+1) c)) (hx:w0.cell? ⟨g,o,none⟩=some (.int .i64 i))
 (HU:Hid (∀W,aY w0 W->Calls prog 371 #[.pointer (some ⟨fa,fj,none⟩),.iface 315 (.int .i64 i)] W fun e w'=>e=.returned (.tuple #[])/\P1 w'))
 (HB:Hid (∀W,P1 W->W.cell? ⟨sb,2,none⟩=some (.slice (some ⟨g,o,none⟩) (n+1) c)/\W.frozen? ⟨sb,2,none⟩=false/\sb<W.heap.size))
 (HN:Hid (∀W off c',P1 W->(n=0\/(off=o+1/\c'=c-1))->P (W.setCell ⟨sb,2,none⟩ (.slice (some ⟨g,off,none⟩) n c')))):
 Calls prog 401 #[.agg #[],.pointer (some ⟨sb,0,none⟩)] w fun e w'=>e=.returned (.tuple #[])/\P w':=by
 have HC1:=aB hv;have HC2:=aB hx;have c1:=hv;have c2:=hx;have e0:((n:Int)+1=0)=False:=by simp;omega
 have e1:(1:Int)<=(n:Int)+1:=by omega
 have e2:(n:Int)+1<=(c:Int):=by omega
 have e3:(0:Int)<(n:Int)+1:=by omega
 clear hv hx;go_enter Tryz.func401,Tryz.ntmps401;go_wp2_with fail;go_region_law (first|(go_simp;go_at_call 158;refine(HT.out _ (by first|assumption|exact aY.drew _)).mono ?_;rintro e w1 ⟨rfl,hs1⟩;have d1:=cW hs1.heap HC1.out;have d2:=cW hs1.heap HC2.out)|(go_simp;go_at_call 371;refine(HU.out _ hs1).mono ?_;rintro e w4 ⟨rfl,h4⟩;have hq:=HB.out _ h4;obtain⟨y1,y2,y3⟩:=hq))
 all_goals
  go_wp2_with fail
  all_goals
   go_end0;first|exact⟨rfl,HN.out _ _ _ h4 (Or.inr ⟨rfl,rfl⟩)⟩|exact⟨rfl,HN.out _ _ _ h4 (Or.inl (by omega))⟩
section
variable {fp:Nat->Value} {F:Nat->Prop} {base:Nat} {w:World} {sb gf cap:Nat} {t0 tv outv s0:Value} {fvs:List FVal} {below:List aK} {f:aK} {tape:List Int} {out:List (List UInt8)}
theorem cT.setTape{m:cP}{tv':Value}{tape':List Int}(h:cT fp F base w sb gf cap t0 tv outv s0 fvs m)(ht:rA F w tv' tape'):
 cT fp F base (w.setCell ⟨sb,2,none⟩ tv') sb gf cap t0 tv' outv s0 fvs ⟨m.frames,tape',m.out⟩/\Kept (aF sb gf outv fvs) w (w.setCell ⟨sb,2,none⟩ tv'):=by
 have hk:∀k,k≠sb->(w.setCell ⟨sb,2,none⟩ tv').heap[k]?=w.heap[k]?:=fun k hk=>m7 _ _ _ _ hk
 have hns:=(r8.1 h.nodup).1;have hFk:∀b,F b->(w.setCell ⟨sb,2,none⟩ tv').heap[b]?=w.heap[b]?:=fun b hb=>hk b fun e=>(h.apart b hb).2 (by simp[aF,e])
 have hin:∀k,k∈gf::(outv.ownBlock.toList++aW fvs)->(w.setCell ⟨sb,2,none⟩ tv').heap[k]?=w.heap[k]?:=fun k hm=>hk k fun e=>hns (by rw[<-e];exact hm)
 refine⟨⟨?_,bA h.row fun k hk'=>?_,h.frs.keep hFk (fun _ h=>h) fun v hv k hk'=>hin k ?_,ht.keep hFk fun _ h=>h,bA h.out fun k hk'=>hin k (by simp[hk']),h.nodup,fun k hk'=>m9 (h.lt k hk') (by simp),fun k hk'=>⟨m9 (h.apart k hk').1 (by simp),(h.apart k hk').2⟩⟩,⟨rfl,rfl,rfl,by simp,fun k _ hn=>hk k fun e=>hn (by simp[aF,e])⟩⟩
 ·rw[aS h.blk];rfl
 ·cases hk';exact hin gf (by simp)
 ·have:k∈aW fvs:=aA_.2 ⟨v,hv,hk'⟩;simp[this]
def Z7(fp:Nat->Value)(F:Nat->Prop)(base sb:Nat)(t0 s0:Value)(own:List Nat)(w:World)(r:cP × Nat)(e:Ending)(w':World):Prop:=
 Z6 r.2 e/\Done fp F base sb t0 s0 own w r.1 w'
theorem Mid.tapes{own:List Nat}{w0:World}{G:Nat->Prop}{n:Nat}{m:cP}(h:Mid fp base sb gf n t0 s0 own w0 G m w):∃tv,rA G w tv m.tape/\w.cell? ⟨sb,2,none⟩=some tv/\w.frozen? ⟨sb,2,none⟩=false/\sb<w.heap.size/\
 ∀tv' tape',rA G w tv' tape'->Mid fp base sb gf n t0 s0 own w0 G ⟨m.frames,tape',m.out⟩ (w.setCell ⟨sb,2,none⟩ tv'):=by
 obtain⟨h1,h2,cap,tv,outv,fvs,h3,h4,h5⟩:=h;refine⟨tv,h4.tape,aA h4.blk rfl,aE h4.blk,aD h4.blk,fun tv' tape' ht=>?_⟩
 obtain⟨q1,q2⟩:=h4.setTape ht;exact⟨h1.trans q2 h5,p7 h2 q2.size,cap,tv',outv,fvs,h3,q1,h5⟩
theorem Mid.pushK{own:List Nat}{w0:World}{G:Nat->Prop}{n:Nat}(h:Mid fp base sb gf n t0 s0 own w0 G ⟨below++[f],tape,out⟩ w){t:TypeId}{z:Value}{a:aI}(hu:PV G w (.iface t z) a)(hca:aJ a<=200)(hops:f.ops.length<=100000):Calls prog 371 #[.pointer (some ⟨gf,n*6,none⟩),.iface t z] w fun e w'=>e=.returned (.tuple #[])/\Mid fp base sb gf n t0 s0 own w0 G ⟨below++[f.push a],tape,out⟩ w'/\w'.heap[sb]?=w.heap[sb]?/\∀k,G k->w'.heap[k]?=w.heap[k]?:=by
 obtain⟨h1,h2,cap,tv,outv,fvs,h3,h4,h5⟩:=h;obtain⟨fb,v,cur,rfl,hfl,hv,hblk,hcur,hcap,k0,k1,k2,k3,k4,k5⟩:=h4.top;have hfn:fb.length=n:=by simpa using h3
 subst hfn;obtain⟨⟨xs,hown,hxs⟩,hc200⟩:=hv.ops;have hn2:=r8.1 (r8.1 h4.nodup).2;have hgv:v.ov.ownBlock≠some gf:=fun e=>hn2.1 (by simp[aW,FVal.owns,e])
 have hsv:v.ov.ownBlock≠some sb:=fun e=>(r8.1 h4.nodup).1 (by simp[aW,FVal.owns,e])
 have hsg:sb≠gf:=fun e=>(r8.1 h4.nodup).1 (by simp[e])
 refine(wL base gf (fb.length*6) f.ops.length cur v.ov xs t z w hcur k5 hown hgv h2 (by omega)).mono ?_
 rintro e w' ⟨he,ov',p1,p2,p3,p4⟩;obtain⟨q1,q2⟩:=h4.pushed (cur:=cur) hcur hxs hu hca p1 p2 p3 p4;refine⟨he,⟨h1.trans q2 h5,p7 h2 q2.size,cap,tv,outv,_,by simp,q1,fun k hk'=>?_⟩,p4.block sb (aD hblk) hsg (fun e=>hsv e.symm),fun k hk=>p4.block k (h4.apart k hk).1 (fun e=>(h4.apart k hk).2 (by simp[aF,e])) fun e=>(h4.apart k hk).2 (by simp[aF,aW,FVal.owns,<-e])⟩
 have e1:aF sb gf outv (fb++[{ v with ov:=ov' }])=(sb::gf::(outv.ownBlock.toList++aW fb))++({ v with ov:=ov' }:FVal).owns:=by simp[aF,aW]
 have e2:aF sb gf outv (fb++[v])=(sb::gf::(outv.ownBlock.toList++aW fb))++v.owns:=by simp[aF,aW]
 rw[e1] at hk';rw[e2] at h5;rcases o7.1 hk' with h3|h3
 ·exact h5 k (y9 _ h3)
 ·rcases o7.1 h3 with h3|h3
  ·exact h5 k (ab_ _ (y9 _ h3))
  ·have h4:ov'.ownBlock=some k:=by simpa using h3
   rcases p3 k h4 with h6|h6
   ·exact h5 k (ab_ _ (by simp[FVal.owns,h6]))
   ·exact Or.inr (p7 h1.size h6)
theorem P5(tab:List eP)(h:cT fp F base w sb gf cap t0 tv outv s0 fvs ⟨below++[f],tape,out⟩)(hbel:below.length<=15)(hbase:base<=w.heap.size)(hops:f.ops.length<=99000)(htl:tape.length<=1000000000):
 Calls prog 401 #[.agg #[],.pointer (some ⟨sb,0,none⟩)] w (Z7 fp F base sb t0 s0 (aF sb gf outv fvs) w (cD tab .read below f tape out)):=by
 have hM:=h.mid hbase (.cells #[] 440);obtain⟨tv1,ht,hc,hfz,hlt,hset⟩:=hM.tapes;cases tape with
 |nil=>
  have hx:∃x c,tv1=.slice x 0 c:=by
   rcases ht with ⟨_,h1⟩|⟨g,o,c,h1,_⟩
   ·exact h1
   ·exact⟨_,_,h1⟩
  obtain⟨x,c,rfl⟩:=hx;refine(NS w _ sb x c rfl hc).mono ?_;rintro e w' ⟨rfl,rfl⟩;exact⟨Or.inr ⟨show (7:Nat)≠0 by decide,rfl⟩,hM.done (Ext.refl _ _)⟩
 |cons i l=>
  rcases ht with ⟨h0,_⟩|⟨g,o,c,rfl,hn,hFg,hcell⟩
  ·cases h0
  have hi:=hcell 0 (by simp)
  simp only[n8] at hc hn htl
  refine(NR w _ sb gf (below.length*6) g o l.length c i (fun w'=>Done fp F base sb t0 s0 (aF sb gf outv fvs) w ⟨below++[f.push (aV i)],l,out⟩ w')
   (fun W=>Mid fp base sb gf below.length t0 s0 (aF sb gf outv fvs) (w.alloc (.cells #[] 440)) F ⟨below++[f.push (aV i)],i::l,out⟩ W/\W.cell? ⟨sb,2,none⟩=some (.slice (some ⟨g,o,none⟩) (l.length+1) c)/\∀k,F k->W.heap[k]?=(w.alloc (.cells #[] 440)).heap[k]?) rfl hn (by omega) (hM.topS hbel) hc hi.1 (fun W hS=>?_) (fun W hq=>?_) (fun W off c' hq ho=>?_)).mono ?_
  ·refine((hM.same hS).pushK (PV.num F W i hi.2.1 hi.2.2) (by rw[kA];omega) (by omega)).mono ?_
   rintro e w' ⟨he,h1,h2,h3⟩;refine⟨he,h1,?_,fun k hk=>by rw[h3 k hk,hS.heap]⟩
   have e1:w'.cell? ⟨sb,2,none⟩=W.cell? ⟨sb,2,none⟩:=World.cell?_of_block h2;rw[e1];exact cW hS.heap hc
  ·obtain⟨tv2,_,q2,q3,q4,_⟩:=hq.1.tapes;exact⟨hq.2.1,q3,q4⟩
  ·obtain⟨h1,h2,h3⟩:=hq;obtain⟨tv2,_,_,_,_,q5⟩:=h1.tapes;refine(q5 _ l ?_).done (Ext.refl _ _);by_cases hl:l=[]
   ·subst hl;exact Or.inl ⟨rfl,_,_,rfl⟩
   ·have hl0:l.length≠0:=fun e=>hl (v8 e)
    rcases ho with ho|⟨rfl,rfl⟩
    ·exact absurd ho hl0
    ·refine Or.inr ⟨g,o+1,c-1,rfl,by omega,hFg,fun j hj=>?_⟩
     have hj2:=hcell (j+1) (by simp;omega)
     simp only[List.getElem_cons_succ] at hj2;refine⟨?_,hj2.2⟩;have e1:W.cell? ⟨g,o+1+j,none⟩=(w.alloc (.cells #[] 440)).cell? ⟨g,o+1+j,none⟩:=World.cell?_of_block (h3 g hFg);rw[e1,show o+1+j=o+(j+1) by omega];exact hj2.1
  ·rintro e w' ⟨rfl,h2⟩;exact⟨Or.inl ⟨rfl,rfl⟩,h2⟩
end
theorem PH(w w0:World)(sb fa fj gf cap:Nat)(P:World->Prop)(Q:TypeId->Value->World->Prop)(hW:w.alloc (.cells #[] 363)=w0)(hcap:1<=cap)
 (HT:Hid (∀W,aY w0 W->Calls prog 158 #[.pointer (some ⟨sb,0,none⟩)] W fun e w'=>e=.returned (.pointer (some ⟨fa,fj,none⟩))/\aY w0 w'))
 (HP:Hid (∀W,aY w0 W->Calls prog 171 #[.pointer (some ⟨fa,fj,none⟩)] W fun e w'=>∃t z,e=.returned (.iface t z)/\Q t z w'))
 (HB:Hid (∀W t z,Q t z W->W.cell? ⟨sb,1,none⟩=some (.slice (some ⟨gf,0,none⟩) 1 cap)/\W.frozen? ⟨sb,1,none⟩=false/\sb<W.heap.size))
 (HN:Hid (∀W t z,Q t z W->P (W.drew.setCell ⟨sb,1,none⟩ (.slice (some ⟨gf,0,none⟩) 0 cap)))):
 Calls prog 372 #[.agg #[],.pointer (some ⟨sb,0,none⟩)] w fun e w'=>e=.returned (.tuple #[])/\P w':=by
 have HW:=aB hW;have e2:(0:Int)<=(cap:Int):=by omega
 clear hW;go_enter Tryz.func372,Tryz.ntmps372;go_wp2_with fail;rw[HW.out];refine(HT.out _ (aY.refl _)).mono ?_;rintro e w1 ⟨rfl,hs1⟩;go_wp2_with fail;refine(HP.out _ hs1).mono ?_;rintro e w2 ⟨t,z,rfl,h2⟩;obtain⟨b1,b2,b3⟩:=HB.out _ _ _ h2;have h3:=aB (HN.out _ _ _ h2);clear h2;go_wp2_with fail;go_region
 all_goals
  go_wp2_with fail;go_end0;exact⟨rfl,h3.out⟩
theorem PG(w w0:World)(sb fa fj gf cap n ga gj:Nat)(P:World->Prop)(Q Q2:TypeId->Value->World->Prop)(hW:w.alloc (.cells #[] 363)=w0)(hcap:n+2<=cap)(hn:n<=1000)
 (HT:Hid (∀W,aY w0 W->Calls prog 158 #[.pointer (some ⟨sb,0,none⟩)] W fun e w'=>e=.returned (.pointer (some ⟨fa,fj,none⟩))/\aY w0 w'))
 (HP:Hid (∀W,aY w0 W->Calls prog 171 #[.pointer (some ⟨fa,fj,none⟩)] W fun e w'=>∃t z,e=.returned (.iface t z)/\Q t z w'))
 (HB:Hid (∀W t z,Q t z W->W.cell? ⟨sb,1,none⟩=some (.slice (some ⟨gf,0,none⟩) (n+2) cap)/\W.frozen? ⟨sb,1,none⟩=false/\sb<W.heap.size))
 (HT2:Hid (∀W t z,Q t z W->Calls prog 158 #[.pointer (some ⟨sb,0,none⟩)] (W.drew.setCell ⟨sb,1,none⟩ (.slice (some ⟨gf,0,none⟩) (n+1) cap)) fun e w'=>e=.returned (.pointer (some ⟨ga,gj,none⟩))/\Q2 t z w'))
 (HU:Hid (∀W t z,Q2 t z W->Calls prog 371 #[.pointer (some ⟨ga,gj,none⟩),.iface t z] W fun e w'=>e=.returned (.tuple #[])/\P w')):
 Calls prog 372 #[.agg #[],.pointer (some ⟨sb,0,none⟩)] w fun e w'=>e=.returned (.tuple #[])/\P w':=by
 have HW:=aB hW;have e1:(0:Int)<=(n:Int)+1:=by omega
 have e2:(n:Int)+1<=(cap:Int):=by omega
 have e3:(0:Int)<(n:Int)+1:=by omega
 have e4:(n:Int)+2-1=(n:Int)+1:=by omega
 clear hW;go_enter Tryz.func372,Tryz.ntmps372;go_wp2_with fail;rw[HW.out];refine(HT.out _ (aY.refl _)).mono ?_;rintro e w1 ⟨rfl,hs1⟩;go_wp2_with fail;refine(HP.out _ hs1).mono ?_;rintro e w2 ⟨t,z,rfl,h2⟩;obtain⟨b1,b2,b3⟩:=HB.out _ _ _ h2;have h3:=aB (HT2.out _ _ _ h2);clear h2;go_wp2_with fail;go_region
 all_goals
  go_wp2_with fail;refine h3.out.mono ?_;rintro e w3 ⟨rfl,h4⟩;go_wp2_with fail;refine(HU.out _ _ _ h4).mono ?_;rintro e w4 ⟨rfl,h5⟩;go_wp2_with fail;go_end0;exact⟨rfl,h5⟩
section
variable {fp:Nat->Value} {F:Nat->Prop} {base:Nat} {w:World} {sb gf cap:Nat} {t0 tv outv s0:Value} {fvs:List FVal} {below:List aK} {f:aK} {tape:List Int} {out:List (List UInt8)}
theorem cT.dropTop{fb:List FVal}{v:FVal}(h:cT fp F base w sb gf cap t0 tv outv s0 (fb++[v]) ⟨below++[f],tape,out⟩):
 cT fp F base (w.setCell ⟨sb,1,none⟩ (.slice (some ⟨gf,0,none⟩) fb.length cap)) sb gf cap t0 tv outv s0 fb ⟨below,tape,out⟩/\Kept (aF sb gf outv (fb++[v])) w (w.setCell ⟨sb,1,none⟩ (.slice (some ⟨gf,0,none⟩) fb.length cap)):=by
 generalize hV:Value.slice (some ⟨gf,0,none⟩) fb.length cap=V;have hk:∀k,k≠sb->(w.setCell ⟨sb,1,none⟩ V).heap[k]?=w.heap[k]?:=fun k hk=>m7 _ _ _ _ hk
 have hns:=(r8.1 h.nodup).1;have hall:aW (fb++[v])=aW fb++v.owns:=by simp[aW]
 have hmem:∀k,k∈aF sb gf outv fb->k∈aF sb gf outv (fb++[v]):=fun k hm=>by
  unfold aF at hm ⊢
  rw[hall];simp only[p8,o7] at hm ⊢
  rcases hm with h1|h1|h1|h1
  ·exact Or.inl h1
  ·exact Or.inr (Or.inl h1)
  ·exact Or.inr (Or.inr (Or.inl h1))
  ·exact Or.inr (Or.inr (Or.inr (Or.inl h1)))
 have hFk:∀b,F b->(w.setCell ⟨sb,1,none⟩ V).heap[b]?=w.heap[b]?:=fun b hb=>hk b fun e=>(h.apart b hb).2 (by simp[aF,e])
 have hin:∀k,k∈gf::(outv.ownBlock.toList++aW (fb++[v]))->(w.setCell ⟨sb,1,none⟩ V).heap[k]?=w.heap[k]?:=fun k hm=>hk k fun e=>hns (by rw[<-e];exact hm)
 obtain⟨vs',v0,e,hfb,hv⟩:=iT.unsnoc h.frs;obtain⟨rfl,e2⟩:=ap_ e rfl;refine⟨⟨?_,?_,hfb.keep hFk (fun _ h=>h) fun u hu k hk'=>hin k ?_,h.tape.keep hFk fun _ h=>h,bA h.out fun k hk'=>hin k (by simp[hk']),?_,fun k hk'=>m9 (h.lt k (hmem k hk')) (by simp),fun k hk'=>⟨m9 (h.apart k hk').1 (by simp),fun hm=>(h.apart k hk').2 (hmem k hm)⟩⟩,⟨rfl,rfl,rfl,by simp,fun k _ hn=>hk k fun e=>hn (by simp[aF,e])⟩⟩
 ·rw[aS h.blk,<-hV];rfl
 ·rcases h.row.2 with ⟨r1,_⟩|⟨g',c',cur,r1,r2,r3,r4,r5,r6,r7⟩
  ·cases r1
  ·cases r1;rw[m6] at r4 r7;refine⟨by rw[eE],Or.inr ⟨gf,cap,cur,rfl,r2,?_,by omega,r5,r6,?_⟩⟩
   ·rw[hin gf (by simp)];exact r3
   ·have:=congrArg (List.take (fb.length*6)) r7;rw[aS_,show min (fb.length*6) ((fb.length+[v].length)*6)=fb.length*6 by simp,jK] at this
    rw[this,List.take_left' (by rw[eE])]
 ·have:k∈aW fb:=aA_.2 ⟨u,hu,hk'⟩;rw[hall];simp[this]
 ·have e1:aF sb gf outv (fb++[v])=aF sb gf outv fb++v.owns:=by simp[aF,hall]
  have:=h.nodup;rw[e1] at this;exact(ai_.1 this).1
theorem xR(sb gf:Nat)(outv:Value)(fb:List FVal)(v:FVal):∀k,k∈aF sb gf outv fb->k∈aF sb gf outv (fb++[v]):=fun k hm=>by
 have e1:aF sb gf outv (fb++[v])=aF sb gf outv fb++v.owns:=by simp[aF,aW]
 rw[e1];exact y9 _ hm
def X4(fp:Nat->Value)(F:Nat->Prop)(base sb gf cap:Nat)(t0 tv outv s0:Value)(fb:List FVal)(v:FVal)(below:List aK)(f:aK)(tape:List Int)(out:List (List UInt8))(w0:World)(a:aI)(t:TypeId)(z:Value)(W:World):Prop:=
 PV F W (.iface t z) a/\aJ a<=200/\∃v',v'.owns=v.owns/\cT fp F base W sb gf cap t0 tv outv s0 (fb++[v']) ⟨below++[f.pop],tape,out⟩/\Kept (aF sb gf outv (fb++[v])) w0 W
theorem X4.gone{fb:List FVal}{v:FVal}{w0 W:World}{a:aI}{t:TypeId}{z:Value}(hq:X4 fp F base sb gf cap t0 tv outv s0 fb v below f tape out w0 a t z W):
 PV F (W.drew.setCell ⟨sb,1,none⟩ (.slice (some ⟨gf,0,none⟩) fb.length cap)) (.iface t z) a/\cT fp F base (W.drew.setCell ⟨sb,1,none⟩ (.slice (some ⟨gf,0,none⟩) fb.length cap)) sb gf cap t0 tv outv s0 fb ⟨below,tape,out⟩/\Kept (aF sb gf outv (fb++[v])) w0 (W.drew.setCell ⟨sb,1,none⟩ (.slice (some ⟨gf,0,none⟩) fb.length cap)):=by
 obtain⟨h1,h2,v',h3,h4,h5⟩:=hq;have hd:=h4.grow (aY.drew W).below (fun _ h=>h) (fun _ h=>Or.inl h)
 obtain⟨q1,q2⟩:=hd.dropTop;have e:aF sb gf outv (fb++[v'])=aF sb gf outv (fb++[v]):=by simp[aF,aW,h3]
 rw[e] at q2;refine⟨(h1.keep (w':=W.drew) fun _ _=>rfl).keep fun k hk=>m7 _ _ _ _ fun e=>(h4.apart k hk).2 (by simp[aF,e]),q1,(h5.trans (Kept.of_below (own:=[]) (aY.drew W).below) (fun x hx=>by simp at hx)).trans q2 fun _ h=>Or.inl h⟩
theorem U0(tab:List eP)(h:cT fp F base w sb gf cap t0 tv outv s0 fvs ⟨below++[f],tape,out⟩)(hbel:below.length<=15)(hbase:base<=w.heap.size)(hops:f.ops.length<=99000)(hne:∃vs a,f.ops=vs++[a])(hgo:∀g∈below,g.ops.length<=99000):
 Calls prog 372 #[.agg #[],.pointer (some ⟨sb,0,none⟩)] w (Z7 fp F base sb t0 s0 (aF sb gf outv fvs) w (cD tab .give below f tape out)):=by
 obtain⟨vs,a,hf⟩:=hne;have hM:=h.mid hbase (.cells #[] 363);obtain⟨fb,v,cur,rfl,hfl, -, -, -,hcap, -⟩:=h.top;have hb0:Below w.heap.size w (w.alloc (.cells #[] 363)):=(m8 _ w).alloc (l9 _) _;have h0:=h.grow hb0 (fun _ h=>h) (fun _ h=>Or.inl h)
 have hT:=hM.topS hbel;rw[<-hfl] at hT
 have HP:Hid (∀W,aY (w.alloc (.cells #[] 363)) W->Calls prog 171 #[.pointer (some ⟨gf,fb.length*6,none⟩)] W fun e w'=>∃t z,e=.returned (.iface t z)/\X4 fp F base sb gf cap t0 tv outv s0 fb v below f tape out (w.alloc (.cells #[] 363)) a t z w'):=fun W hS=>by
  refine((h0.grow hS.below (fun _ h=>h) (fun _ h=>Or.inl h)).popR hf (by omega)).mono ?_
  rintro e w' ⟨t,z,ov',he,h1,h2,h3,h4,h5,h6⟩;exact⟨t,z,he,h1,h2,_,by simp[FVal.owns,h3],h4,(Kept.of_below (own:=aF sb gf outv (fb++[v])) hS.below).trans h5 fun _ h=>Or.inl h⟩
 have HB:∀W t z,X4 fp F base sb gf cap t0 tv outv s0 fb v below f tape out (w.alloc (.cells #[] 363)) a t z W->W.cell? ⟨sb,1,none⟩=some (.slice (some ⟨gf,0,none⟩) (fb.length+1) cap)/\W.frozen? ⟨sb,1,none⟩=false/\sb<W.heap.size:=fun W t z hq=>by
  obtain⟨_,_,v',_,h4,_⟩:=hq;have hblk:=h4.blk;rw[show (fb++[v']).length=fb.length+1 by simp] at hblk
  exact⟨aA hblk rfl,aE hblk,aD hblk⟩
 rcases aH_ below with rfl|⟨b',g,hbg⟩
 ·obtain rfl:fb=[]:=v8 hfl;refine(PH w _ sb gf 0 gf cap (fun w'=>Done fp F base sb t0 s0 (aF sb gf outv ([]++[v])) w ⟨[],tape,out⟩ w') _ rfl (by simpa using hcap) hT HP HB fun W t z hq=>?_).mono ?_
  ·obtain⟨_,q2,q3⟩:=hq.gone;exact⟨(Kept.of_below hb0).trans q3 fun _ h=>Or.inl h,F,gf,cap,tv,outv,[],Ext.refl _ _,q2,fun k hk=>Or.inl (xR sb gf outv [] v k hk)⟩
  ·rintro e w' ⟨rfl,h2⟩;exact⟨Or.inl ⟨rfl,rfl⟩,h2⟩
 ·rw[aI_] at hbg;subst hbg;have hfl2:fb.length=b'.length+1:=by simpa using hfl
  have hbl:b'.length<=14:=by simp at hbel;omega
  rw[hfl2] at hcap;have hr:cD tab .give (b'++[g]) f tape out=(⟨b'++[g.push a],tape,out⟩,0):=by simp[cD,iU hf]
  rw[hr];refine(PG w _ sb gf (fb.length*6) gf cap b'.length gf (b'.length*6) (fun w'=>Done fp F base sb t0 s0 (aF sb gf outv (fb++[v])) w ⟨b'++[g.push a],tape,out⟩ w') _ (fun t z W=>PV F W (.iface t z) a/\aJ a<=200/\Mid fp base sb gf b'.length t0 s0 (aF sb gf outv (fb++[v])) (w.alloc (.cells #[] 363)) F ⟨b'++[g],tape,out⟩ W) rfl (by omega) (by omega) hT HP (fun W t z hq=>?_) (fun W t z hq=>?_) (fun W t z hq=>?_)).mono ?_
  ·have:=HB W t z hq;rw[hfl2] at this;exact this
  ·obtain⟨q1,q2,q3⟩:=hq.gone;rw[hfl2] at q1 q2 q3;have hmid:Mid fp base sb gf b'.length t0 s0 (aF sb gf outv (fb++[v])) (w.alloc (.cells #[] 363)) F ⟨b'++[g],tape,out⟩ _:=⟨q3,p7 hbase (p7 hb0.size q3.size),cap,tv,outv,fb,hfl2,q2,fun k hk=>Or.inl (xR sb gf outv fb v k hk)⟩
   refine(hmid.top (by omega)).mono ?_
   rintro e w' ⟨he,hs⟩;exact⟨he,q1.keep (fun _ _=>by rw[hs.heap]),hq.2.1,hmid.same hs⟩
  ·refine(hq.2.2.push hq.1 hq.2.1 (by have:=hgo g (by simp);omega)).mono ?_
   rintro e w' ⟨he,h4⟩;exact⟨he,h4.done (Ext.refl _ _)⟩
  ·rintro e w' ⟨rfl,h2⟩;exact⟨Or.inl ⟨rfl,rfl⟩,h2⟩
end
theorem QZ(w w0:World)(sb fa fj gf cap cn:Nat)(fpv:Option Addr)(S:World->Prop)(Q:Option Addr->Nat->World->Prop)(hW:w.alloc (.cells #[.pointer fpv,.int .i64 cn] 442)=w0)
 (HT:Hid (∀W,aY w0 W->Calls prog 158 #[.pointer (some ⟨sb,0,none⟩)] W fun e w'=>e=.returned (.pointer (some ⟨fa,fj,none⟩))/\aY w0 w'))
 (HP:Hid (∀W,aY w0 W->Calls prog 377 #[.pointer (some ⟨fa,fj,none⟩),.int .i64 cn] W fun e w'=>∃x d,e=.returned (.slice x cn d)/\Q x d w'))
 (HB:Hid (∀W x d,Q x d W->W.cell? ⟨sb,1,none⟩=some (.slice (some ⟨gf,0,none⟩) 16 cap)/\S W)):
 Calls prog 402 #[.agg #[.pointer fpv,.int .i64 cn],.pointer (some ⟨sb,0,none⟩)] w fun e w'=>e=fK 5/\S w':=by
 have hbox:(w.alloc (.cells #[.pointer fpv,.int .i64 cn] 442)).heap[w.heap.size]?=some (.cells #[.pointer fpv,.int .i64 cn] 442 (0,0)):=aT _ _ rfl _;rw[hW] at hbox;have HW:=aB hW;have HC0:=aB (aA (i:=1) hbox rfl);have c0:=HC0.out;have hlt:=aD hbox;clear hW hbox;go_enter Tryz.func402,Tryz.ntmps402;go_wp2_with fail;rw[HW.out];go_region_law (go_simp;first|(go_at_call 158;refine(HT.out _ (aY.drew _)).mono ?_;rintro e w1 ⟨rfl,hs1⟩;have d1:=cW hs1.heap HC0.out;have d2:=jX hs1.heap hlt)|(go_at_call 377;refine(HP.out _ hs1).mono ?_;rintro e w2 ⟨x,d,rfl,h2⟩;have hq:=HB.out _ _ _ h2;obtain⟨y1,y2⟩:=hq))
 all_goals
  go_wp2_with fail;exact⟨rfl,rfl,y2⟩
theorem IJ:(prog.info? 195).map (fun i=>(i.zero,i.size,i.bytes))=some (some (.agg #[.pointer none,.int .i64 0,.int .i64 0,.pointer none,.slice none 0 0,.slice none 0 0]),6,80):=by kernel_rfl
theorem TG(w:World)(a0 a1 a2 a3 a4 a5:Value):∀j u,([a0,a1,a2,a3,a4,a5]:List Value)[j]?=some u->(w.alloc (.cells #[a0,a1,a2,a3,a4,a5] 195)).cell? ((⟨w.heap.size,0,none⟩:Addr).add j)=some u:=by
 intro j u hj;exact World.news_of_block (cs:= #[a0,a1,a2,a3,a4,a5]) (aT _ _ rfl _) j u hj
theorem YB(x y:Option Addr)(c d:Nat):∀u∈([.pointer x,.int .i64 0,.int .i64 0,.pointer none,.slice y c d,.slice none 0 0]:List Value),u.oneCell'=true:=by
 intro u hu;simp at hu;rcases hu with rfl|rfl|rfl|rfl|rfl<;>rfl
theorem QY(w w0:World)(sb fa fj gf cap cn base n:Nat)(fpv:Option Addr)(P:World->Prop)(Q:Option Addr->Nat->List Value->World->Prop)(hW:w.alloc (.cells #[.pointer fpv,.int .i64 cn] 442)=w0)(hn:n<=15)
 (HT:Hid (∀W,aY w0 W->Calls prog 158 #[.pointer (some ⟨sb,0,none⟩)] W fun e w'=>e=.returned (.pointer (some ⟨fa,fj,none⟩))/\aY w0 w'))
 (HP:Hid (∀W,aY w0 W->Calls prog 377 #[.pointer (some ⟨fa,fj,none⟩),.int .i64 cn] W fun e w'=>∃x d xs,e=.returned (.slice x cn d)/\Q x d xs w'))
 (HB:Hid (∀W x d xs,Q x d xs W->W.cell? ⟨sb,1,none⟩=some (.slice (some ⟨gf,0,none⟩) n cap)/\W.cell? ⟨w.heap.size,0,none⟩=some (.pointer fpv)/\w.heap.size<W.heap.size/\sb<W.heap.size/\base<=W.heap.size))
 (HO:Hid (∀W x d xs,Q x d xs W->W.drew.ownsRow base 195 6 (.slice (some ⟨gf,0,none⟩) n cap) n xs))
 (HG:Hid (∀W x d xs,Q x d xs W->∀w5:World,(W.drew.alloc (.cells #[.pointer fpv,.int .i64 0,.int .i64 0,.pointer none,.slice x cn d,.slice none 0 0] 195)).grownBy w5 (some gf)->(∃u,w5.cell? ⟨sb,1,none⟩=some u)/\w5.frozen? ⟨sb,1,none⟩=false/\sb<w5.heap.size))
 (HN:Hid (∀W x d xs,Q x d xs W->∀g5 cap5 (w5:World),w5.ownsRow base 195 6 (.slice (some ⟨g5,0,none⟩) (n+1) cap5) (n+1) (xs++[.pointer fpv,.int .i64 0,.int .i64 0,.pointer none,.slice x cn d,.slice none 0 0])->(W.drew.alloc (.cells #[.pointer fpv,.int .i64 0,.int .i64 0,.pointer none,.slice x cn d,.slice none 0 0] 195)).grownBy w5 (some gf)->(some gf=some g5\/g5=W.heap.size+1)->P (w5.setCell ⟨sb,1,none⟩ (.slice (some ⟨g5,0,none⟩) (n+1) cap5)))):
 Calls prog 402 #[.agg #[.pointer fpv,.int .i64 cn],.pointer (some ⟨sb,0,none⟩)] w fun e w'=>e=.returned (.tuple #[])/\P w':=by
 obtain⟨i0,hi,hz0,hz1,hz2⟩:=info_parts IJ;have hbox:(w.alloc (.cells #[.pointer fpv,.int .i64 cn] 442)).heap[w.heap.size]?=some (.cells #[.pointer fpv,.int .i64 cn] 442 (0,0)):=aT _ _ rfl _;rw[hW] at hbox;have HW:=aB hW;have HC0:=aB (aA (i:=1) hbox rfl);have c0:=HC0.out;have hlt:=aD hbox;have e0:((n:Int)==16)=false:=by simp;omega
 clear hW hbox;go_enter Tryz.func402,Tryz.ntmps402;go_wp2_with fail;rw[HW.out];go_region_law (go_simp;first|(go_at_call 158;refine(HT.out _ (aY.drew _)).mono ?_;rintro e w1 ⟨rfl,hs1⟩;have d1:=cW hs1.heap HC0.out;have d2:=jX hs1.heap hlt)|(go_at_call 377;refine(HP.out _ hs1).mono ?_;rintro e w2 ⟨x,d,xs,rfl,h2⟩;have hq:=HB.out _ _ _ _ h2;obtain⟨y1,y2,y3,y4,y5⟩:=hq))
 all_goals
  go_wp2_with fail;go_region_law (refine step_append_lies _ (by rfl) _ _ 106 (by rfl) base 195 i0 _ 6 80 Tryz.underlying106 hi hz0 hz1 hz2 rfl (by decide) (.slice (some ⟨gf,0,none⟩) n cap) n xs (by rfl) ((HO.out _ _ _ _ h2).alloc _) ⟨w2.heap.size,0,none⟩ 1 1 [.pointer fpv,.int .i64 0,.int .i64 0,.pointer none,.slice x cn d,.slice none 0 0] (by rfl) (by rfl) (TG w2.drew _ _ _ _ _ _) (YB _ _ _ _) (by decide) (by unfold maxLen;omega) (by omega) (by simp;omega) (w2.heap.size+1) (by simp) ?_;intro g5 cap5 w5 hown5 hgrow5 hat5 hg5;have hz:=HG.out _ _ _ _ h2 w5 hgrow5;obtain⟨⟨u5,z1⟩,z2,z3⟩:=hz)
  all_goals
   go_wp2_with fail;go_end0;exact⟨rfl,HN.out _ _ _ _ h2 _ _ _ hown5 hgrow5 hat5⟩
theorem KP{w:World}{b b':Nat}{e:TypeId}{size:Nat}{v:Value}{n:Nat}{xs:List Value}(h:w.ownsRow b' e size v n xs)(hb:b<=b'):w.ownsRow b e size v n xs:=by
 rcases h with ⟨h1,h2|⟨g,c,row,r1,r2,r3⟩⟩
 ·exact⟨h1,Or.inl h2⟩
 ·exact⟨h1,Or.inr ⟨g,c,row,r1,p7 hb r2,r3⟩⟩
section
variable {fp:Nat->Value} {F:Nat->Prop} {base:Nat} {w:World} {sb gf cap:Nat} {t0 tv outv s0:Value} {fvs:List FVal} {below:List aK} {f:aK} {tape:List Int} {out:List (List UInt8)}
theorem cT.called{m:cP}{fn:eP}{us:List aI}{ys:List Value}{x fpv:Option Addr}{d g5 cap5 B:Nat}{w5:World}(h:cT fp F base w sb gf cap t0 tv outv s0 fvs m)(hfn:C4 fp F w (.pointer fpv) fn)(hB:base<=B)(hBown:∀k∈aF sb gf outv fvs,k<B)(hBF:∀k,F k->k<B)
 (hys:w.ownsRow B 256 1 (.slice x us.length d) us.length ys) (hru:fY F w ys us) (hcu:∀a∈us,aJ a<=200)
 (hown5:w5.ownsRow base 195 6 (.slice (some ⟨g5,0,none⟩) (fvs.length+1) cap5) (fvs.length+1) (fZ fvs++[.pointer fpv,.int .i64 0,.int .i64 0,.pointer none,.slice x us.length d,.slice none 0 0]))
 (hg:(w.drew.alloc (.cells #[.pointer fpv,.int .i64 0,.int .i64 0,.pointer none,.slice x us.length d,.slice none 0 0] 195)).grownBy w5 (some gf)) (hat:some gf=some g5\/g5=w.heap.size+1):
 cT fp F base (w5.setCell ⟨sb,1,none⟩ (.slice (some ⟨g5,0,none⟩) (fvs.length+1) cap5)) sb g5 cap5 t0 tv outv s0 (fvs++[⟨.pointer fpv,.int .i64 0,.int .i64 0,.pointer none,.slice x us.length d,.slice none 0 0⟩]) ⟨m.frames++[⟨fn,0,0,[],us,[]⟩],m.tape,m.out⟩/\
  Kept (aF sb gf outv fvs) w (w5.setCell ⟨sb,1,none⟩ (.slice (some ⟨g5,0,none⟩) (fvs.length+1) cap5)):=by
 generalize hV:Value.slice (some ⟨g5,0,none⟩) (fvs.length+1) cap5=V at*;have hn1:=r8.1 h.nodup;have hn2:=r8.1 hn1.2;have hsg:sb≠gf:=fun e=>hn1.1 (by simp[e])
 have hsl:=aD h.blk
 have hg5:g5≠sb:=by
  rcases hat with e|e
  ·cases e;exact fun e=>hsg e.symm
  ·omega
 have hgl5:g5<w5.heap.size:=by
  subst hV;exact cK hown5 g5 rfl
 have hk5:∀k,k<w.heap.size->k≠gf->w5.heap[k]?=w.heap[k]?:=fun k h1 h2=>by
  rw[hg.block k (by simp;omega) (fun e=>h2 (by cases e;rfl)),o9 _ _ _ (by exact h1)];rfl
 have hk:∀k,k<w.heap.size->k≠gf->k≠sb->(w5.setCell ⟨sb,1,none⟩ V).heap[k]?=w.heap[k]?:=fun k h1 h2 h3=>by
  rw[m7 _ _ _ _ h3,hk5 k h1 h2]
 have hFk:∀b,F b->(w5.setCell ⟨sb,1,none⟩ V).heap[b]?=w.heap[b]?:=fun b hb=>hk b (h.apart b hb).1 (fun e=>(h.apart b hb).2 (by simp[aF,e])) (fun e=>(h.apart b hb).2 (by simp[aF,e]))
 have hin:∀k,k∈outv.ownBlock.toList++aW fvs->(w5.setCell ⟨sb,1,none⟩ V).heap[k]?=w.heap[k]?:=fun k hm=>hk k (h.lt k (by unfold aF;exact r9 _ (r9 _ hm))) (fun e=>hn2.1 (by rw[<-e];exact hm)) (fun e=>hn1.1 (by rw[<-e];exact r9 _ hm))
 have hsz:w.heap.size<=(w5.setCell ⟨sb,1,none⟩ V).heap.size:=p7 (by simp) (p7 hg.size (by simp))
 have hxk:∀k,(Value.slice x us.length d).ownBlock=some k->B<=k/\k<w.heap.size:=fun k e=>⟨bX hys k e,cK hys k e⟩
 have hxne:∀k,(Value.slice x us.length d).ownBlock=some k->k≠gf/\k≠sb:=fun k e=>by
  have h1:=hBown gf (by simp[aF])
  have h2:=hBown sb (by simp[aF])
  have:=(hxk k e).1;omega
 have hownv:(⟨.pointer fpv,.int .i64 0,.int .i64 0,.pointer none,.slice x us.length d,.slice none 0 0⟩:FVal).owns=(Value.slice x us.length d).ownBlock.toList:=by simp[FVal.owns,show (Value.slice none 0 0).ownBlock=none from rfl]
 have hall:aF sb g5 outv (fvs++[⟨.pointer fpv,.int .i64 0,.int .i64 0,.pointer none,.slice x us.length d,.slice none 0 0⟩])=sb::g5::((outv.ownBlock.toList++aW fvs)++(Value.slice x us.length d).ownBlock.toList):=by simp[aF,aW,hownv]
 have hlen:(fvs++[(⟨.pointer fpv,.int .i64 0,.int .i64 0,.pointer none,.slice x us.length d,.slice none 0 0⟩:FVal)]).length=fvs.length+1:=by simp
 refine⟨⟨?_,?_,?_,h.tape.keep hFk fun _ h=>h,bA h.out fun k hk'=>hin k (by simp[hk']),?_,?_,?_⟩,?_⟩
 ·rw[hlen,aS (show w5.heap[sb]?=_ from (hk5 sb hsl hsg).trans h.blk),hV];rfl
 ·rw[hlen,jK,hV];subst hV;exact bA hown5 fun k hk'=>m7 _ _ _ _ (by cases hk';exact hg5)
 ·refine(h.frs.keep hFk (fun _ h=>h) fun v hv k hk'=>hin k (ab_ _ (aA_.2 ⟨v,hv,hk'⟩))).snoc ⟨hfn.keep hFk fun _ h=>h,rfl,rfl,rfl,⟨⟨ys,?_,hru.keep hFk⟩,hcu⟩,⟨⟨[],World.ownsRow_nil _ _ _ _,fY.nil _ _⟩,fun _ h=>by simp at h⟩⟩
  exact bA (KP hys hB) fun k e=>hk k (hxk k e).2 (hxne k e).1 (hxne k e).2
 ·rw[hall];refine r8.2 ⟨?_,r8.2 ⟨?_,ai_.2 ⟨hn2.2,by cases (Value.slice x us.length d).ownBlock<;>simp,?_⟩⟩⟩
  ·intro hm;simp only[p8,o7] at hm;rcases hm with e|(e|e)|e
   ·exact hg5 e.symm
   ·exact hn1.1 (by simp[e])
   ·exact hn1.1 (by simp[e])
   ·exact(hxne sb (by simpa using e)).2 rfl
  ·intro hm;rcases hat with e|e
   ·cases e;rcases o7.1 hm with hm|hm
    ·exact hn2.1 hm
    ·exact(hxne gf (by simpa using hm)).1 rfl
   ·rcases o7.1 hm with hm|hm
    ·have:=h.lt g5 (by unfold aF;exact r9 _ (r9 _ hm));omega
    ·have:=(hxk g5 (by simpa using hm)).2;omega
  ·intro a ha b hb e;subst e;have h1:=hBown a (by unfold aF;exact r9 _ (r9 _ ha))
   have h2:=(hxk a (by simpa using hb)).1
   omega
 ·intro k hm;rw[hall] at hm;have h5:w5.heap.size<=(w5.setCell ⟨sb,1,none⟩ V).heap.size:=by simp
  simp only[p8,o7] at hm;rcases hm with e|e|(e|e)|e
  ·rw[e];omega
  ·rw[e];omega
  ·have:=h.lt k (by simp[aF,e]);omega
  ·have:=h.lt k (by simp[aF,e]);omega
  ·have:=(hxk k (by simpa using e)).2;omega
 ·intro k hk';obtain⟨a1,a2⟩:=h.apart k hk';refine⟨by omega,fun hm=>?_⟩
  rw[hall] at hm;simp only[p8,o7] at hm;rcases hm with e|e|(e|e)|e
  ·exact a2 (by simp[aF,e])
  ·rcases hat with e2|e2
   ·cases e2;exact a2 (by simp[aF,e])
   ·omega
  ·exact a2 (by simp[aF,e])
  ·exact a2 (by simp[aF,e])
  ·have:=(hxk k (by simpa using e)).1;have:=hBF k hk';omega
 ·exact⟨hg.os.trans rfl,hg.tape.trans rfl,hg.output.trans rfl,hsz,fun k h1 hn=>hk k h1 (fun e=>hn (by simp[aF,e])) (fun e=>hn (by simp[aF,e]))⟩
def k9(fp:Nat->Value)(F:Nat->Prop)(base sb gf cap:Nat)(t0 tv outv s0:Value)(fvs:List FVal)(below:List aK)(f:aK)(tape:List Int)(out:List (List UInt8))(w0:World)(us:List aI)(x:Option Addr)(d:Nat)(xs:List Value)(W:World):Prop:=
 ∃fvs' ys,xs=fZ fvs'/\Kept (aF sb gf outv fvs) w0 W/\aF sb gf outv fvs'=aF sb gf outv fvs/\fvs'.length=fvs.length/\cT fp F base W sb gf cap t0 tv outv s0 fvs' ⟨below++[f.popMany us.length],tape,out⟩/\
  W.ownsRow w0.heap.size 256 1 (.slice x us.length d) us.length ys/\fY F W ys us/\(∀a∈us,aJ a<=200)/\∀k,F k->W.heap[k]?=w0.heap[k]?
theorem W5(tab:List eP)(k:Nat)(fn:eP)(vs us:List aI)(h:cT fp F base w sb gf cap t0 tv outv s0 fvs ⟨below++[f],tape,out⟩)(hbel:below.length<=15)(hbase:base<=w.heap.size)(hops:f.ops.length<=99000)(hf:f.ops=vs++us)(htab:kX fp F w tab)(hk:tab[k]?=some fn):
 Calls prog 402 #[.agg #[fp k,.int .i64 us.length],.pointer (some ⟨sb,0,none⟩)] w (Z7 fp F base sb t0 s0 (aF sb gf outv fvs) w (cD tab (.call k us.length) below f tape out)):=by
 have hfn:=htab k fn hk;have hfp:∃q,fp k=.pointer q:=by obtain⟨fb,gc,cp,cur,e,_⟩:=hfn;exact⟨_,e⟩
 obtain⟨fpv,hfp⟩:=hfp;rw[hfp] at hfn ⊢
 have hM:=h.mid hbase (.cells #[.pointer fpv,.int .i64 us.length] 442);have hb0:Below w.heap.size w (w.alloc (.cells #[.pointer fpv,.int .i64 us.length] 442)):=(m8 _ w).alloc (l9 _) _;have h0:=h.grow hb0 (fun _ h=>h) (fun _ h=>Or.inl h)
 have hcnt:fvs.length=below.length+1:=by rw[h.count];simp
 have hbox:(w.alloc (.cells #[.pointer fpv,.int .i64 us.length] 442)).heap[w.heap.size]?=some (.cells #[.pointer fpv,.int .i64 us.length] 442 (0,0)):=aT _ _ rfl _;have hm:f.many us.length=us:=by simp[aK.many,hf]
 have hr:cD tab (.call k us.length) below f tape out=if below.length+1=16 then (⟨below++[f.popMany us.length],tape,out⟩,5) else (⟨(below++[f.popMany us.length])++[⟨fn,0,0,[],us,[]⟩],tape,out⟩,0):=by
  simp[cD,hm,hk]
 rw[hr];have hwsz:w.heap.size<(w.alloc (.cells #[.pointer fpv,.int .i64 us.length] 442)).heap.size:=aD hbox;generalize hw0:w.alloc (.cells #[.pointer fpv,.int .i64 us.length] 442)=w0 at*
 have HP:∀W,aY w0 W->Calls prog 377 #[.pointer (some ⟨gf,below.length*6,none⟩),.int .i64 us.length] W fun e w'=>∃x d xs,e=.returned (.slice x us.length d)/\k9 fp F base sb gf cap t0 tv outv s0 fvs below f tape out w0 us x d xs w':=fun W hS=>by
  refine((h0.grow hS.below (fun _ h=>h) (fun _ h=>Or.inl h)).popMany hf (by omega)).mono ?_
  rintro e w' ⟨v',ys,fvs',he,k1,k2,k3,k4,k5,k6,k7,k8⟩;rw[hS.heap] at k5;obtain⟨x,d,rfl⟩:=cV k5;exact⟨x,d,_,he,fvs',ys,rfl,(Kept.of_below (own:=aF sb gf outv fvs) hS.below).trans k1 fun _ h=>Or.inl h,k2,k3,k4,k5,k6,k7,fun j hj=>by rw[k8 j hj,hS.heap]⟩
 have HK:∀{W W'},Kept (aF sb gf outv fvs) w0 W->Kept (aF sb gf outv fvs) W W'->Kept (aF sb gf outv fvs) w W':=fun a b=>((Kept.of_below (own:=aF sb gf outv fvs) hb0).trans a fun _ h=>Or.inl h).trans b fun _ h=>Or.inl h
 by_cases hd16:below.length+1=16
 ·rw[if_pos hd16];refine(QZ w w0 sb gf (below.length*6) gf cap us.length fpv (fun w'=>Done fp F base sb t0 s0 (aF sb gf outv fvs) w ⟨below++[f.popMany us.length],tape,out⟩ w') (fun x d W=>∃xs,k9 fp F base sb gf cap t0 tv outv s0 fvs below f tape out w0 us x d xs W) hw0 (hM.topS hbel) (fun W hS=>?_) (fun W x d hq=>?_)).mono ?_
  ·refine(HP W hS).mono ?_;rintro e w' ⟨x,d,xs,he,hq⟩;exact⟨x,d,he,xs,hq⟩
  ·obtain⟨xs,fvs',ys,_,k1,k2,k3,k4,_⟩:=hq;have hblk:=k4.blk;rw[k3,hcnt,hd16] at hblk;exact⟨aA hblk rfl,HK k1 (Kept.refl _ _),F,gf,cap,tv,outv,fvs',Ext.refl _ _,k4,fun j hj=>Or.inl (by rw[<-k2];exact hj)⟩
  ·rintro e w' ⟨rfl,h2⟩;exact⟨Or.inr ⟨show (5:Nat)≠0 by decide,rfl⟩,h2⟩
 ·rw[if_neg hd16];refine(QY w w0 sb gf (below.length*6) gf cap us.length base fvs.length fpv (fun w'=>Done fp F base sb t0 s0 (aF sb gf outv fvs) w ⟨(below++[f.popMany us.length])++[⟨fn,0,0,[],us,[]⟩],tape,out⟩ w') (k9 fp F base sb gf cap t0 tv outv s0 fvs below f tape out w0 us) hw0 (by omega) (hM.topS hbel) HP (fun W x d xs hq=>?_) (fun W x d xs hq=>?_) (fun W x d xs hq=>?_) (fun W x d xs hq=>?_)).mono ?_
  ·obtain⟨fvs',ys,_,k1,k2,k3,k4,k5,k6,k7,k8⟩:=hq;have hblk:=k4.blk;rw[k3] at hblk;have hb2:W.heap[w.heap.size]?=_:=(k1.block w.heap.size hwsz (fun hm=>Nat.lt_irrefl _ (h.lt _ hm))).trans hbox
   exact⟨aA hblk rfl,aA hb2 rfl,aD hb2,aD hblk,by have:=k1.size;omega⟩
  ·obtain⟨fvs',ys,rfl,k1,k2,k3,k4,k5,k6,k7,k8⟩:=hq;have:=k4.row;rw[k3] at this;exact bA this fun _ _=>rfl
  ·obtain⟨fvs',ys,_,k1,k2,k3,k4,k5,k6,k7,k8⟩:=hq;intro w5 hg;have hsl:=aD k4.blk;have hsg:sb≠gf:=fun e=>(r8.1 k4.nodup).1 (by simp[e])
   have hb5:w5.heap[sb]?=_:=(hg.block sb (by simp;omega) (fun e=>hsg (by cases e;rfl))).trans ((o9 _ _ _ (by exact hsl)).trans k4.blk)
   exact⟨⟨_,aA hb5 rfl⟩,aE hb5,aD hb5⟩
  ·obtain⟨fvs',ys,rfl,k1,k2,k3,k4,k5,k6,k7,k8⟩:=hq;intro g5 cap5 w5 hown5 hg hat;rw[<-k3] at hown5 ⊢
   have hFn:C4 fp F W (.pointer fpv) fn:=hfn.keep (fun b hb=>by rw[k8 b hb];exact hb0.block b (h.apart b hb).1) fun _ h=>h
   obtain⟨q1,q2⟩:=k4.called (B:=w0.heap.size) hFn (by omega) (fun j hj=>by rw[k2] at hj;exact h0.lt j hj) (fun j hj=>(h0.apart j hj).1) k5 k6 k7 hown5 hg hat
   rw[k2] at q2;refine⟨HK k1 q2,F,g5,cap5,tv,outv,_,Ext.refl _ _,q1,fun j hj=>?_⟩
   have hall:aF sb g5 outv (fvs'++[⟨.pointer fpv,.int .i64 0,.int .i64 0,.pointer none,.slice x us.length d,.slice none 0 0⟩])=sb::g5::((outv.ownBlock.toList++aW fvs')++(Value.slice x us.length d).ownBlock.toList):=by simp[aF,aW,FVal.owns,show (Value.slice none 0 0).ownBlock=none from rfl]
   rw[hall] at hj;rw[<-k2];have hsz:=k1.size;simp only[p8,o7] at hj;rcases hj with e|e|(e|e)|e
   ·exact Or.inl (by simp[aF,e])
   ·rcases hat with e2|e2
    ·cases e2;exact Or.inl (by simp[aF,e])
    ·exact Or.inr (by omega)
   ·exact Or.inl (by simp[aF,e])
   ·exact Or.inl (by simp[aF,e])
   ·have:=bX k5 j (by simpa using e)
    exact Or.inr (by omega)
  ·rintro e w' ⟨rfl,h2⟩;exact⟨Or.inl ⟨rfl,rfl⟩,h2⟩
end
def GL(w:World)(fa fj d m g n c:Nat)(W:World):Prop:=
 W.cell? ⟨w.heap.size,0,none⟩=some (.int .i64 d)/\W.cell? ⟨w.heap.size,1,none⟩=some (.int .i64 m)/\W.cell? ⟨fa,fj+4,none⟩=some (.slice (some ⟨g,0,none⟩) n c)
theorem GL.same{w W W':World}{fa fj d m g n c:Nat}(h:GL w fa fj d m g n c W)(hs:aY W W'):GL w fa fj d m g n c W':=
 ⟨cW hs.heap h.1,cW hs.heap h.2.1,cW hs.heap h.2.2⟩
theorem GH(w w0:World)(sb fa fj d m g n c k:Nat)(ta:TypeId)(za:Value)(hdn:d<n)(P S:World->Prop)(Q:TypeId->Value->World->Prop)(R:TypeId->Value->Option Addr->Nat->World->Prop)(U:TypeId->Value->World->Prop)(hW:w.alloc (.cells #[.int .i64 d,.int .i64 m] 445)=w0)
 (HT:Hid (∀W,aY w0 W->Calls prog 158 #[.pointer (some ⟨sb,0,none⟩)] W fun e w'=>e=.returned (.pointer (some ⟨fa,fj,none⟩))/\aY w0 w'))
 (HP:Hid (∀W,aY w0 W->Calls prog 171 #[.pointer (some ⟨fa,fj,none⟩)] W fun e w'=>∃t z,e=.returned (.iface t z)/\Q t z w'))
 (HQ:Hid (∀W t z,Q t z W->GL w fa fj d m g n c W/\W.cell? ⟨g,d,none⟩=some (.iface ta za)))
 (HM:Hid (∀W W' t z,Q t z W->aY W W'->Calls prog 377 #[.pointer (some ⟨fa,fj,none⟩),.int .i64 m] W' fun e w'=>∃x y,e=.returned (.slice x m y)/\R t z x y w'))
 (HR:Hid (∀W t z x y,R t z x y W->GL w fa fj d m g n c W/\W.cell? ⟨g,d,none⟩=some (.iface ta za)))
 (HV:Hid (∀W t z x y,R t z x y W->Calls prog 405 #[.iface ta za,.slice x m y,.iface t z] W fun e w'=>(∃t1 z1,e=.returned (.iface t1 z1)/\U t1 z1 w')\/(e=fK k/\S w')))
 (HU:Hid (∀W t z,U t z W->GL w fa fj d m g n c W/\(∃u,W.cell? ⟨g,d,none⟩=some u)/\W.frozen? ⟨g,d,none⟩=false/\g<W.heap.size/\GL w fa fj d m g n c (W.setCell ⟨g,d,none⟩ (.iface t z))))
 (HN:Hid (∀W t z,U t z W->P (W.setCell ⟨g,d,none⟩ (.iface t z)))):
 Calls prog 404 #[.agg #[.int .i64 d,.int .i64 m],.pointer (some ⟨sb,0,none⟩)] w fun e w'=>(e=.returned (.tuple #[])/\P w')\/(e=fK k/\S w'):=by
 have HW:=aB hW;have e1:(0:Int)<=(d:Int):=by omega
 have e2:(d:Int)<(n:Int):=by omega
 clear hW;go_enter Tryz.func404,Tryz.ntmps404;go_wp2_with fail;rw[HW.out];refine(HT.out _ (aY.refl _)).mono ?_;rintro e w1 ⟨rfl,hs1⟩;go_wp2_with fail;refine(HP.out _ hs1).mono ?_;rintro e w2 ⟨t,z,rfl,h2⟩;have HH2:=aB h2;have hq:=HQ.out _ _ _ h2;have hk0:=hq.1.same (aY.drew w2);have hc0:=cW (aY.drew w2).heap hq.2;clear hq h2;go_wp2_with fail;refine wp_region_held_drew (S:=fun W=>W.cell? ⟨w.heap.size,0,none⟩=some (.int .i64 d)/\W.cell? ⟨w.heap.size,1,none⟩=some (.int .i64 m)/\W.cell? ⟨fa,fj+4,none⟩=some (.slice (some ⟨g,0,none⟩) n c)) (by kernel_rfl) hk0 (fun hHeld=>?_)
 (refine wpAnyH_take (i:=0) (v:=?_) rfl (by kernel_rfl) (by kernel_rfl) (by kernel_rfl) (fun _ _ _ h=>h) (Or.inl ⟨by rfl,?_⟩) hHeld ?_;rotate_left;(intro w hSw;(try dsimp only at hSw);go_simp<;>with_reducible rfl))
 (refine wpAnyH_take (i:=1) (v:=?_) rfl (by kernel_rfl) (by kernel_rfl) (by kernel_rfl) (fun _ _ _ h=>h) (Or.inl ⟨by rfl,?_⟩) hHeld ?_;rotate_left;(intro w hSw;(try dsimp only at hSw);go_simp<;>with_reducible rfl))
 (refine wpAnyH_take (i:=2) (v:=?_) rfl (by kernel_rfl) (by kernel_rfl) (by kernel_rfl) (fun _ _ _ h=>h) (Or.inl ⟨by rfl,?_⟩) hHeld ?_;rotate_left;(intro w hSw;(try dsimp only at hSw);go_simp<;>with_reducible rfl))
 (refine wpAnyH_take (i:=4) (v:=?_) rfl (by kernel_rfl) (by kernel_rfl) (by kernel_rfl) (fun _ _ _ h=>h) (Or.inl ⟨by rfl,?_⟩) hHeld ?_;rotate_left;(intro w hSw;(try dsimp only at hSw);go_simp<;>with_reducible rfl))
 (refine wpAnyH_take (i:=6) (v:=?_) rfl (by kernel_rfl) (by kernel_rfl) (by kernel_rfl) (fun _ _ _ h=>h) (Or.inl ⟨by rfl,?_⟩) hHeld ?_;rotate_left;(intro w hSw;(try dsimp only at hSw);go_simp<;>with_reducible rfl))
 (refine wpAnyH_take (i:=7) (v:=?_) rfl (by kernel_rfl) (by kernel_rfl) (by kernel_rfl) (fun _ _ _ h=>h) (Or.inl ⟨by rfl,?_⟩) hHeld ?_;rotate_left;(intro w hSw;(try dsimp only at hSw);go_simp<;>with_reducible rfl))
 (refine wpAnyH_take (i:=8) (v:=?_) rfl (by kernel_rfl) (by kernel_rfl) (by kernel_rfl) (fun _ _ _ h=>h) (Or.inl ⟨by rfl,?_⟩) hHeld ?_;rotate_left;(intro w hSw;(try dsimp only at hSw);go_simp<;>with_reducible rfl))
 (refine wpAnyH_take (i:=10) (v:=?_) rfl (by kernel_rfl) (by kernel_rfl) (by kernel_rfl) (fun _ _ _ h=>h) (Or.inl ⟨by rfl,?_⟩) hHeld ?_;rotate_left;(intro w hSw;(try dsimp only at hSw);go_simp<;>with_reducible rfl))
 (refine wpAnyH_take (i:=14) (v:=?_) rfl (by kernel_rfl) (by kernel_rfl) (by kernel_rfl) (fun _ _ _ h=>h) (Or.inl ⟨by rfl,?_⟩) hHeld ?_;rotate_left;(intro w hSw;(try dsimp only at hSw);go_simp<;>with_reducible rfl))
 (refine wpAnyH_take (i:=15) (v:=?_) rfl (by kernel_rfl) (by kernel_rfl) (by kernel_rfl) (fun _ _ _ h=>h) (Or.inl ⟨by rfl,?_⟩) hHeld ?_;rotate_left;(intro w hSw;(try dsimp only at hSw);go_simp<;>with_reducible rfl))
 (refine wpAnyH_take (i:=18) (v:=?_) rfl (by kernel_rfl) (by kernel_rfl) (by kernel_rfl) (fun _ _ _ h=>h) (Or.inl ⟨by rfl,?_⟩) hHeld ?_;rotate_left;(intro w hSw;(try dsimp only at hSw);go_simp<;>with_reducible rfl))
 (refine wpAnyH_take (i:=3) (v:=?_) rfl (by kernel_rfl) (by kernel_rfl) (by kernel_rfl) (fun _ _ _ h=>h) (Or.inl ⟨by rfl,?_⟩) hHeld ?_;rotate_left;(intro w hSw;(try dsimp only at hSw);go_simp<;>with_reducible rfl))
 (refine wpAnyH_take (i:=5) (v:=?_) rfl (by kernel_rfl) (by kernel_rfl) (by kernel_rfl) (fun _ _ _ h=>h) (Or.inl ⟨by rfl,?_⟩) hHeld ?_;rotate_left;(intro w hSw;(try dsimp only at hSw);go_simp<;>with_reducible rfl))
 (refine wpAnyH_take (i:=9) (v:=?_) rfl (by kernel_rfl) (by kernel_rfl) (by kernel_rfl) (fun _ _ _ h=>h) (Or.inl ⟨by rfl,?_⟩) hHeld ?_;rotate_left;(intro w hSw;(try dsimp only at hSw);go_simp<;>with_reducible rfl))
 (refine wpAnyH_take (i:=11) (v:=?_) rfl (by kernel_rfl) (by kernel_rfl) (by kernel_rfl) (fun _ _ _ h=>h) (Or.inl ⟨by rfl,?_⟩) hHeld ?_;rotate_left;(intro w hSw;(try dsimp only at hSw);go_simp<;>with_reducible rfl))
 (refine wpAnyH_take (i:=12) (v:=?_) rfl (by kernel_rfl) (by kernel_rfl) (by kernel_rfl) (fun _ _ _ h=>h) (Or.inl ⟨by rfl,?_⟩) hHeld ?_;rotate_left;(intro w hSw;(try dsimp only at hSw);go_simp<;>with_reducible rfl))
 (refine wpAnyH_take (i:=16) (v:=?_) rfl (by kernel_rfl) (by kernel_rfl) (by kernel_rfl) (fun _ _ _ h=>h) (Or.inl ⟨by rfl,?_⟩) hHeld ?_;rotate_left;(intro w hSw;(try dsimp only at hSw);go_simp<;>with_reducible rfl))
 refine wpAnyH_ready (rs:=[13,17]) (by kernel_rfl) (by simp) ?_
 refine AllReadyH.cons rfl (fun K hK=>?_) (AllReadyH.cons rfl (fun K hK=>?_) AllReadyH.nil)
 ·go_simp;refine hK.out _ _ hk0 (fun hHeld=>?_)
  clear hK K;refine wpAnyH_ready (rs:=[17]) (by kernel_rfl) (by simp) ?_
  refine AllReadyH.cons rfl (fun K hK=>?_) AllReadyH.nil
  go_simp;go_at_call 377
  refine(HM.out _ _ _ _ HH2.out (aY.drew w2)).mono ?_;rintro e w3 ⟨x,y,rfl,h3⟩;have HH3:=aB h3;have hq3:=HR.out _ _ _ _ _ h3;have hk3:=hq3.1;have hc3:=hq3.2;clear hq3 h3;go_wp2_with fail;refine hK.out _ _ hk3 (fun hHeld=>?_)
  clear hK K;refine wpAnyH_ready (rs:=[19]) (by kernel_rfl) (by simp) ?_
  refine AllReadyH.cons rfl (fun K hK=>?_) AllReadyH.nil
  go_simp;go_at_call 405
  refine(HV.out _ _ _ _ _ HH3.out).mono ?_;rintro e w4 (⟨t1,z1,rfl,h4⟩|⟨rfl,h4⟩)
  rotate_left
  exact⟨rfl,Or.inr ⟨rfl,h4⟩⟩;have HH4:=aB h4;have hq4:=HU.out _ _ _ h4;have hk4:=hq4.1;obtain⟨u4,hc4⟩:=hq4.2.1;have hf4:=hq4.2.2.1;have hl4:=hq4.2.2.2.1;have hk5:=hq4.2.2.2.2;clear hq4 h4;go_wp2_with fail;refine hK.out _ _ hk4 (fun hHeld=>?_)
  clear hK K;refine wpAnyH_take (i:=20) (v:=?_) rfl (by kernel_rfl) (by kernel_rfl) (by kernel_rfl) (fun _ _ _ h=>h) (Or.inl ⟨by rfl,?_⟩) hHeld ?_
  rotate_left
  ·intro w hSw;(try dsimp only at hSw);go_simp<;>with_reducible rfl
  refine wpAnyH_ready (rs:=[21]) (by kernel_rfl) (by simp) ?_
  refine AllReadyH.cons rfl (fun K hK=>?_) AllReadyH.nil
  go_simp;refine hK.out _ _ hk5 (fun hHeld=>?_)
  clear hK K;refine wpAnyH_done (by kernel_rfl) ?_ _
  go_wp2_with fail;go_end0;exact Or.inl ⟨rfl,HN.out _ _ _ HH4.out⟩
 ·go_simp;go_at_call 377
  refine(HM.out _ _ _ _ HH2.out (aY.drew w2)).mono ?_;rintro e w3 ⟨x,y,rfl,h3⟩;have HH3:=aB h3;have hq3:=HR.out _ _ _ _ _ h3;have hk3:=hq3.1;have hc3:=hq3.2;clear hq3 h3;go_wp2_with fail;refine hK.out _ _ hk3 (fun hHeld=>?_)
  clear hK K;refine wpAnyH_ready (rs:=[13]) (by kernel_rfl) (by simp) ?_
  refine AllReadyH.cons rfl (fun K hK=>?_) AllReadyH.nil
  go_simp;refine hK.out _ _ hk3 (fun hHeld=>?_)
  clear hK K;refine wpAnyH_ready (rs:=[19]) (by kernel_rfl) (by simp) ?_
  refine AllReadyH.cons rfl (fun K hK=>?_) AllReadyH.nil
  go_simp;go_at_call 405
  refine(HV.out _ _ _ _ _ HH3.out).mono ?_;rintro e w4 (⟨t1,z1,rfl,h4⟩|⟨rfl,h4⟩)
  rotate_left
  exact⟨rfl,Or.inr ⟨rfl,h4⟩⟩;have HH4:=aB h4;have hq4:=HU.out _ _ _ h4;have hk4:=hq4.1;obtain⟨u4,hc4⟩:=hq4.2.1;have hf4:=hq4.2.2.1;have hl4:=hq4.2.2.2.1;have hk5:=hq4.2.2.2.2;clear hq4 h4;go_wp2_with fail;refine hK.out _ _ hk4 (fun hHeld=>?_)
  clear hK K;refine wpAnyH_take (i:=20) (v:=?_) rfl (by kernel_rfl) (by kernel_rfl) (by kernel_rfl) (fun _ _ _ h=>h) (Or.inl ⟨by rfl,?_⟩) hHeld ?_
  rotate_left
  ·intro w hSw;(try dsimp only at hSw);go_simp<;>with_reducible rfl
  refine wpAnyH_ready (rs:=[21]) (by kernel_rfl) (by simp) ?_
  refine AllReadyH.cons rfl (fun K hK=>?_) AllReadyH.nil
  go_simp;refine hK.out _ _ hk5 (fun hHeld=>?_)
  clear hK K;refine wpAnyH_done (by kernel_rfl) ?_ _
  go_wp2_with fail;go_end0;exact Or.inl ⟨rfl,HN.out _ _ _ HH4.out⟩
theorem X8.ofRow{F:Nat->Prop}{w:World}{base:Nat}{v:Value}{xs:List Value}{l:List aI}(h:w.ownsRow base 256 1 v l.length xs)(hr:fY F w xs l):X8 F w v l:=by
 rcases h.2 with ⟨r1,r2⟩|⟨g,c,cur,r1,r2,r3,r4,r5,r6,r7⟩
 ·exact Or.inl ⟨ay_.1 r2,none,0,by rw[r1]⟩
 ·refine Or.inr ⟨g,0,c,r1,r4,aD r3,fun i hi=>?_⟩
  obtain⟨u,e1,e2⟩:=hr.2 i hi;refine⟨u,aA r3 ?_,e2⟩;rw[<-r7,x6,if_pos (by omega)] at e1
  simpa using e1
section
variable {fp:Nat->Value} {F:Nat->Prop} {base:Nat} {w:World} {sb gf cap:Nat} {t0 tv outv s0:Value} {fvs:List FVal} {below:List aK} {f:aK} {tape:List Int} {out:List (List UInt8)}
theorem cT.popManyR{fb:List FVal}{v:FVal}{vs us:List aI}(h:cT fp F base w sb gf cap t0 tv outv s0 (fb++[v]) ⟨below++[f],tape,out⟩)(hf:f.ops=vs++us)(hops:f.ops.length<=100000):
 Calls prog 377 #[.pointer (some ⟨gf,fb.length*6,none⟩),.int .i64 us.length] w fun e w'=>∃x y ov',e=.returned (.slice x us.length y)/\ov'.ownBlock=v.ov.ownBlock/\X8 F w' (.slice x us.length y) us/\(∀a∈us,aJ a<=200)/\
  cT fp F base w' sb gf cap t0 tv outv s0 (fb++[{ v with ov:=ov' }]) ⟨below++[f.popMany us.length],tape,out⟩/\Kept (aF sb gf outv (fb++[v])) w w'/\∀k,k<w.heap.size->k≠gf->w'.heap[k]?=w.heap[k]?:=by
 obtain⟨fb',v0,cur,e,hfl,hv,hblk,hcur,hcap,k0,k1,k2,k3,k4,k5⟩:=h.top;obtain⟨rfl,e2⟩:=ap_ e rfl;cases e2;obtain⟨⟨xs,hown,hxs⟩,hc200⟩:=hv.ops;rw[hf] at hown hxs hc200;obtain⟨xs',ys,rfl,hl1,hl2,hx1,hx2⟩:=hxs.split;rw[hf,m6] at hops;rw[m6] at hown;refine(uU base gf (fb.length*6) vs.length us.length cur v.ov xs' ys w hcur k5 hown hl1 hl2 (oA hx2) (by omega)).mono ?_
 rintro e w' ⟨v',ov',w1,he,hb,p1,rfl,p2,p3⟩;have hpop:(f.popMany us.length).ops=vs:=by simp[aK.popMany,hf]
 have hR1:=h.grow hb (fun _ h=>h) (fun _ h=>Or.inl h)
 have hv1:MH fp F base w1 { v with ov:=ov' } (f.popMany us.length):=by
  have hk:∀b,F b->w1.heap[b]?=w.heap[b]?:=fun b hb'=>hb.block b (h.apart b hb').1
  have hvm:∀k∈v.owns,k<w.heap.size:=fun k hk=>h.lt k (by simp[aF,aW,hk])
  have hv':=hv.keep hk (fun _ h=>h) fun k hm=>hb.block k (hvm k hm)
  refine⟨hv'.fn,hv'.nx,hv'.ln,hv'.sp,hv'.vars,⟨xs',?_,?_⟩,fun b hb'=>hc200 b (y9 _ (by rw[hpop] at hb';exact hb'))⟩
  ·rw[hpop];exact bA p2 fun k e=>hb.block k (hvm k (by rw[p3] at e;simp[FVal.owns,e]))
  ·rw[hpop];exact hx1.keep hk
 obtain⟨q1,q2⟩:=hR1.setTop (j:=5) (x:=ov') (v':={ v with ov:=ov' }) (by omega) rfl (by simp[FVal.owns,p3]) hv1
 have hgf:gf<w.heap.size:=aD hcur
 have hkG:∀k,F k->(w1.setCell ⟨gf,fb.length*6+5,none⟩ ov').heap[k]?=w.heap[k]?:=fun k hk=>by
  rw[m7 _ _ _ _ fun e=>(h.apart k hk).2 (by simp[aF,e]),hb.block k (h.apart k hk).1]
 obtain⟨x,d,rfl⟩:=cV p1;refine⟨x,d,ov',he,p3,X8.ofRow (base:=w.heap.size) (xs:=ys) (bA p1 fun k hk=>m7 _ _ _ _ ?_) (hx2.keep hkG),fun a ha=>hc200 a (ab_ _ ha),q1,(Kept.of_below hb).trans q2 fun x hx=>Or.inl hx,fun k hk hn=>by rw[m7 _ _ _ _ hn,hb.block k hk]⟩
 have:=bX p1 k hk;show k≠gf
 omega
theorem cT.assigned{fb:List FVal}{v:FVal}{g n c d:Nat}{u:Value}{a:aI}(h:cT fp F base w sb gf cap t0 tv outv s0 (fb++[v]) ⟨below++[f],tape,out⟩)(hvv:v.vv=.slice (some ⟨g,0,none⟩) n c)(hu:PV F w u a)(hca:aJ a<=200):
 cT fp F base (w.setCell ⟨g,d,none⟩ u) sb gf cap t0 tv outv s0 (fb++[v]) ⟨below++[{ f with vars:=f.vars.set d a }],tape,out⟩/\Kept (aF sb gf outv (fb++[v])) w (w.setCell ⟨g,d,none⟩ u):=by
 obtain⟨fb',v0,cur,e,hfl,hv,hblk,hcur,hcap,k0,k1,k2,k3,k4,k5⟩:=h.top;obtain⟨rfl,e2⟩:=ap_ e rfl;cases e2;have hgo:v.vv.ownBlock=some g:=by rw[hvv];rfl
 have hgm:g∈v.owns:=by simp[FVal.owns,hgo]
 have hvm:∀k∈v.owns,k∈aF sb gf outv (fb++[v]):=fun k hk=>by simp[aF,aW,hk]
 have hgv:gf∉v.owns:=fun hm=>by
  have:=(r8.1 (r8.1 h.nodup).2).1;exact this (by simp[aW,hm])
 have hnv:v.owns.Nodup:=by
  have h1:=h.nodup;have:aF sb gf outv (fb++[v])=(sb::gf::(outv.ownBlock.toList++aW fb))++v.owns:=by simp[aF,aW]
  rw[this] at h1;exact(ai_.1 h1).2.1
 have hk:∀k,k≠g->(w.setCell ⟨g,d,none⟩ u).heap[k]?=w.heap[k]?:=fun k hk=>m7 _ _ _ _ hk
 have hFk:∀b,F b->(w.setCell ⟨g,d,none⟩ u).heap[b]?=w.heap[b]?:=fun b hb=>hk b fun e=>(h.apart b hb).2 (hvm b (by rw[e];exact hgm))
 have hovg:∀k,v.ov.ownBlock=some k->k≠g:=fun k hk e=>by
  unfold FVal.owns at hnv;rw[hk,hgo,e] at hnv;simp at hnv
 have hrow:=h.row;rw[show (fb++[v]).length=fb.length+1 by simp] at hrow
 obtain⟨⟨xs,hown,hxs⟩,hc200⟩:=hv.vars;refine⟨h.step (G:=F) (by simp) (fun k _ _ h3=>hk k fun e=>h3 (by rw[e];exact hgm)) (bA hrow fun k e=>hk k ?_) ?_ (fun k hm=>⟨m9 (h.lt k (hvm k hm)) (by simp),Or.inl hm⟩) hnv (fun _ h=>h) (fun _ h=>Or.inl h),⟨rfl,rfl,rfl,by simp,fun k _ hn=>hk k fun e=>hn (hvm k (by rw[e];exact hgm))⟩⟩
 ·cases e;exact fun e=>hgv (by have e':gf=g:=e;rw[e'];exact hgm)
 ·refine⟨hv.fn.keep hFk fun _ h=>h,hv.nx,hv.ln,eV.keep hFk (fun _ h=>h) hv.sp,⟨⟨xs.set d u,?_,(fY.set hxs d hu).keep hFk⟩,fun b hb=>?_⟩,hv.ops.keep hFk (fun _ h=>h) fun k e=>hk k (hovg k e)⟩
  ·rcases hown.2 with ⟨r1,r2⟩|⟨g',c',row,r1,r2,r3,r4,r5,r6,r7⟩
   ·rw[r1] at hvv;cases hvv
   ·rw[hvv] at r1;cases r1;refine⟨by simp[hown.1],Or.inr ⟨g,c,_,?_,r2,aS r3,by simpa using r4,r5,by simpa using r6,?_⟩⟩
    ·show v.vv=_
     rw[hvv];simp
    ·show List.take ((f.vars.set d a).length*1) _=_
     rw[aG_,bd_,aC_,r7]
  ·rcases aZ_ hb with h1|h1
   ·exact hc200 b h1
   ·rw[h1];exact hca
def rF(fp:Nat->Value)(F:Nat->Prop)(base sb gf cap:Nat)(t0 tv outv s0:Value)(fb:List FVal)(v:FVal)(below:List aK)(f:aK)(tape:List Int)(out:List (List UInt8))(w0:World)(W:World):Prop:=
 ∃ov',ov'.ownBlock=v.ov.ownBlock/\cT fp F base W sb gf cap t0 tv outv s0 (fb++[{ v with ov:=ov' }]) ⟨below++[f],tape,out⟩/\Kept (aF sb gf outv (fb++[v])) w0 W/\∀k,k<w0.heap.size->k≠gf->W.heap[k]?=w0.heap[k]?
theorem rF.grow{G:Nat->Prop}{fb:List FVal}{v:FVal}{w0 W W':World}(h:rF fp F base sb gf cap t0 tv outv s0 fb v below f tape out w0 W)(hb:Below W.heap.size W W')(hF:∀k,F k->G k)(hG:∀k,G k->F k\/(W.heap.size<=k/\k<W'.heap.size)):rF fp G base sb gf cap t0 tv outv s0 fb v below f tape out w0 W':=by
 obtain⟨ov',h1,h2,h3,h4⟩:=h;exact⟨ov',h1,h2.grow hb hF hG,h3.trans (Kept.of_below (own:=[]) hb) (fun x hx=>by simp at hx),fun k hk hn=>by rw[hb.block k (m9 hk h3.size),h4 k hk hn]⟩
theorem rF.reads{fb:List FVal}{v:FVal}{w0 W:World}{g n c d m:Nat}{x:Value}(h:rF fp F base sb gf cap t0 tv outv s0 fb v below f tape out w0 W)(hgw:gf<w.heap.size)(hw0:w0=w.alloc (.cells #[.int .i64 d,.int .i64 m] 445))(hvv:v.vv=.slice (some ⟨g,0,none⟩) n c)(hg:g<w.heap.size)(hgg:g≠gf)(hx:w0.cell? ⟨g,d,none⟩=some x):
 GL w gf (fb.length*6) d m g n c W/\W.cell? ⟨g,d,none⟩=some x/\∀u,GL w gf (fb.length*6) d m g n c (W.setCell ⟨g,d,none⟩ u):=by
 obtain⟨ov',h1,h2,h3,h4⟩:=h;obtain⟨fb',v0,cur,e,hfl,hv,hblk,hcur,hcap,k0,k1,k2,k3,k4,k5⟩:=h2.top;obtain⟨rfl,e2⟩:=ap_ e rfl;have e3:v0={ v with ov:=ov' }:=by simpa using e2.symm
 subst e3
 have hbox:W.heap[w.heap.size]?=some (.cells #[.int .i64 d,.int .i64 m] 445 (0,0)):=by
  rw[h4 _ (by rw[hw0];simp) (by omega),hw0];exact aT _ _ rfl _
 have hgl:W.heap[g]?=w0.heap[g]?:=h4 g (by rw[hw0];simp;omega) hgg
 have hS:∀W':World,W'.heap[w.heap.size]?=W.heap[w.heap.size]?->W'.heap[gf]?=W.heap[gf]?->GL w gf (fb.length*6) d m g n c W':=fun W' e1 e2=>by
  refine⟨aA (e1.trans hbox) rfl,aA (e1.trans hbox) rfl,aA (e2.trans hcur) ?_⟩;rw[k4,<-hvv]
 exact⟨hS W rfl rfl,by rw[World.cell?_of_block hgl];exact hx,fun u=>hS _ (m7 _ _ _ _ (by show w.heap.size≠g;omega)) (m7 _ _ _ _ (fun e=>hgg e.symm))⟩
theorem rF.done{G:Nat->Prop}{fb:List FVal}{v:FVal}{W:World}{ob:Obj}{f':aK}(h:rF fp G base sb gf cap t0 tv outv s0 fb v below f' tape out (w.alloc ob) W)(hF:Ext F G w.heap.size):Done fp F base sb t0 s0 (aF sb gf outv (fb++[v])) w ⟨below++[f'],tape,out⟩ W:=by
 obtain⟨ov',h1,h2,h3,h4⟩:=h;exact⟨(Kept.of_below (own:=aF sb gf outv (fb++[v])) ((m8 _ w).alloc (l9 _) ob)).trans h3 fun _ h=>Or.inl h,G,gf,cap,tv,outv,_,hF,h2,fun k hk=>Or.inl (by simpa [aF,aW,FVal.owns,h1] using hk)⟩
theorem C2(d:Nat)(vs us:List aI)(b:aI)(h:cT fp F base w sb gf cap t0 tv outv s0 fvs ⟨below++[f],tape,out⟩)(hbel:below.length<=15)(hbase:base<=w.heap.size)(hops:f.ops.length<=99000)(hf:f.ops=vs++us++[b])(hd:d<f.vars.length):
 Calls prog 404 #[.agg #[.int .i64 d,.int .i64 us.length],.pointer (some ⟨sb,0,none⟩)] w (nS fp F base sb t0 s0 (aF sb gf outv fvs) w below tape out (aN (.assign d us.length) f)):=by
 have hM:=h.mid hbase (.cells #[.int .i64 d,.int .i64 us.length] 445);obtain⟨fb,v,cur,rfl,hfl, -⟩:=h.top;have hgw:gf<w.heap.size:=h.lt gf (by simp[aF])
 have h0:=h.grow ((m8 _ w).alloc (l9 _) (.cells #[.int .i64 d,.int .i64 us.length] 445)) (fun _ h=>h) (fun _ h=>Or.inl h)
 have hT:=hM.topS hbel;rw[<-hfl] at hT;obtain⟨fb',v0,cur,e, -,hv,hblk,hcur,hcap,k0,k1,k2,k3,k4,k5⟩:=h0.top;obtain⟨rfl,e2⟩:=ap_ e rfl;cases e2;generalize hw0:w.alloc (.cells #[.int .i64 d,.int .i64 us.length] 445)=w0 at h0 hT hv hblk hcur;obtain⟨⟨xs,hown,hxs⟩,hc200⟩:=hv.vars
 have hgv:v.vv.ownBlock≠some gf:=fun e=>by
  have:=(r8.1 (r8.1 h.nodup).2).1;exact this (by simp[aW,FVal.owns,e])
 obtain⟨u,hu1,hu2⟩:=hxs.2 d hd;obtain⟨ta,za,rfl⟩:=hu2.form;have hpo:f.pop.ops=vs++us:=lY (by rw[hf])
 have hmany:f.pop.many us.length=us:=by simp[aK.many,hpo]
 have hlast:f.last=b:=iU (by rw[hf])
 have hlen:vs.length+us.length+1<=99000:=by rw[hf] at hops;simp at hops;omega
 have hgd:f.vars[d]?.getD bL=f.vars[d]:=by rw[p9 hd];rfl
 obtain⟨r,hr⟩:∃r,r=mY f.vars[d] us b:=⟨_,rfl⟩
 have hres:aN (.assign d us.length) f=if r.2=0 then ({ f.pop.popMany us.length with vars:=f.vars.set d r.1 },0) else (f.pop.popMany us.length,r.2):=by
  simp only[aN,hmany,hlast,hgd,<-hr]
 have hrc:r.2=0->aJ r.1<=200:=fun h1=>by rw[hr] at h1 ⊢;exact OV _ h1
 rw[hres];rcases hown.2 with ⟨r1,r2⟩|⟨g,c,row,r1,hg1,hrow,hcp,hcm,hcs,htk⟩
 ·omega
 have hgo:v.vv.ownBlock=some g:=by rw[r1];rfl
 have hgg:g≠gf:=fun e=>hgv (by rw[hgo,e])
 have hgl:g<w.heap.size:=h.lt g (by simp[aF,aW,FVal.owns,hgo])
 have hrd:row[d]?=some (.iface ta za):=by
  rw[<-htk,x6,if_pos (by omega)] at hu1
  simpa using hu1
 have hx:w0.cell? ⟨g,d,none⟩=some (.iface ta za):=aA hrow hrd
 have hFlt:∀{W:World} {f':aK},rF fp F base sb gf cap t0 tv outv s0 fb v below f' tape out w0 W->∀k,F k->k<W.heap.size:=fun hq k hk=>by
  obtain⟨_,_,h2,_⟩:=hq;exact(h2.apart k hk).1
 have hold:∀{W:World} {f':aK},rF fp F base sb gf cap t0 tv outv s0 fb v below f' tape out w0 W->PV F W (.iface ta za) f.vars[d]:=fun hq=>by
  obtain⟨_,_,_,h3,h4⟩:=hq;exact hu2.keep fun k hk=>h4 k (by rw[<-hw0];exact m9 (h.apart k hk).1 (by simp)) fun e=>(h.apart k hk).2 (by simp[aF,e])
 refine(GH w w0 sb gf (fb.length*6) d us.length g f.vars.length c r.2 ta za hd
  (fun w'=>r.2=0/\Done fp F base sb t0 s0 (aF sb gf outv (fb++[v])) w ⟨below++[{ f.pop.popMany us.length with vars:=f.vars.set d r.1 }],tape,out⟩ w')
  (fun w'=>r.2≠0/\Done fp F base sb t0 s0 (aF sb gf outv (fb++[v])) w ⟨below++[f.pop.popMany us.length],tape,out⟩ w')
  (fun t z W=>(PV F W (.iface t z) b/\aJ b<=200)/\rF fp F base sb gf cap t0 tv outv s0 fb v below f.pop tape out w0 W)
  (fun t z x y W=>((PV F W (.iface t z) b/\aJ b<=200)/\X8 F W (.slice x us.length y) us)/\rF fp F base sb gf cap t0 tv outv s0 fb v below (f.pop.popMany us.length) tape out w0 W)
  (fun t z W=>r.2=0/\∃G,Ext F G w.heap.size/\PV G W (.iface t z) r.1/\rF fp G base sb gf cap t0 tv outv s0 fb v below (f.pop.popMany us.length) tape out w0 W)
  hw0 hT (fun W hS=>?_) (fun W t z hq=>?_) (fun W W' t z hq hS=>?_) (fun W t z x y hq=>?_) (fun W t z x y hq=>?_) (fun W t z hq=>?_) (fun W t z hq=>?_)).mono ?_
 ·refine((h0.grow hS.below (fun _ h=>h) (fun _ h=>Or.inl h)).popR (vs:=vs++us) (a:=b) (by rw[hf]) (by omega)).mono ?_
  rintro e w' ⟨t,z,ov',he,h1,h2,h3,h4,h5,h6⟩;exact⟨t,z,he,⟨h1,h2⟩,ov',h3,h4,(Kept.of_below (own:=aF sb gf outv (fb++[v])) hS.below).trans h5 fun _ h=>Or.inl h,fun k _ hk=>by rw[h6 k hk,hS.heap]⟩
 ·obtain⟨_,hq⟩:=hq;obtain⟨q1,q2,_⟩:=hq.reads hgw hw0.symm r1 hgl hgg hx;exact⟨q1,q2⟩
 ·obtain⟨⟨p1,p2⟩,ov',h1,h2,h3,h4⟩:=hq;refine((h2.grow hS.below (fun _ h=>h) (fun _ h=>Or.inl h)).popManyR (vs:=vs) (us:=us) hpo (by rw[hpo,m6];omega)).mono ?_
  rintro e w' ⟨x,y,ov2,he,q1,q2,q3,q4,q5,q6⟩;have hown2:aF sb gf outv (fb++[{ v with ov:=ov' }])=aF sb gf outv (fb++[v]):=by simp[aF,aW,FVal.owns,h1]
  rw[hown2] at q5;have hsz:W.heap.size=W'.heap.size:=by rw[hS.heap]
  refine⟨x,y,he,⟨⟨p1.keep fun k hk=>?_,p2⟩,q2⟩,ov2,by rw[q1,h1],q4,(h3.trans (Kept.of_below (own:=[]) hS.below) (fun x hx=>by simp at hx)).trans q5 fun _ h=>Or.inl h,fun k hk hn=>by rw[q6 k (by rw[<-hsz];exact m9 hk h3.size) hn,hS.heap,h4 k hk hn]⟩
  rw[q6 k (by rw[<-hsz];exact(h2.apart k hk).1) (fun e=>(h2.apart k hk).2 (by simp[aF,e])),hS.heap]
 ·obtain⟨_,hq⟩:=hq;obtain⟨q1,q2,_⟩:=hq.reads hgw hw0.symm r1 hgl hgg hx;exact⟨q1,q2⟩
 ·obtain⟨⟨⟨p1,p2⟩,p3⟩,hq⟩:=hq;refine(OB F us _ _ _ f.vars[d] b W p3 (hold hq) p1 (hFlt hq) (p7 (hc200 _ (u_9 hd)) (by omega)) (by omega) (by omega)).mono ?_
  rintro e w' ⟨hb,⟨e1,u,rfl,e3⟩|⟨e1,e2⟩⟩
  ·rw[<-hr] at e1 e3;obtain⟨t1,z1,rfl⟩:=e3.form;exact Or.inl ⟨t1,z1,rfl,e1,Grow F W w',⟨fun k hk=>Or.inl hk,fun k hk=>hk.imp_right fun h1=>p7 (by obtain⟨_,_,_,h3,_⟩:=hq;rw[<-hw0] at h3;exact p7 (by simp) h3.size) h1.1⟩,e3,hq.grow hb (fun k hk=>Or.inl hk) (fun k hk=>hk)⟩
  ·rw[<-hr] at e1 e2;subst hw0;exact Or.inr ⟨e2,e1,(hq.grow hb (fun _ h=>h) (fun _ h=>Or.inl h)).done (Ext.refl _ _)⟩
 ·obtain⟨_,G,hG,_,hq⟩:=hq;obtain⟨q1,q2,q3⟩:=hq.reads hgw hw0.symm r1 hgl hgg hx;obtain⟨_,_,_,_,h4⟩:=hq;have hgl':W.heap[g]?=some (.cells row 256 (0,0)):=by rw[h4 g (by rw[<-hw0];simp;omega) hgg];exact hrow
  exact⟨q1,⟨_,q2⟩,aE hgl',aD hgl',q3 _⟩
 ·obtain⟨hz,G,hG,p1,ov',h1,h2,h3,h4⟩:=hq;obtain⟨q1,q2⟩:=h2.assigned (d:=d) (a:=r.1) (u:=.iface t z) r1 p1 (hrc hz);have hown2:aF sb gf outv (fb++[{ v with ov:=ov' }])=aF sb gf outv (fb++[v]):=by simp[aF,aW,FVal.owns,h1]
  rw[hown2] at q2;subst hw0;refine⟨hz,((Kept.of_below (own:=aF sb gf outv (fb++[v])) ((m8 _ w).alloc (l9 _) _)).trans h3 fun _ h=>Or.inl h).trans q2 fun _ h=>Or.inl h,G,gf,cap,tv,outv,_,hG,q1,fun k hk=>Or.inl (by rw[hown2] at hk;exact hk)⟩
 ·rintro e w' (⟨rfl,h1,h2⟩|⟨rfl,h1,h2⟩)
  ·exact nS.ok (if_pos h1) h2
  ·exact nS.stop (if_neg h1) h1 h2
end
theorem KK(w w0:World)(sb fa fj base n c:Nat)(x:Option Addr)(tx:List UInt8)(hn:n<50)(P:World->Prop)(Q:TypeId->Value->World->Prop)(R:World->Prop)(xs:List Value)(hW:w.alloc (.cells #[] 448)=w0)
 (HT:Hid (∀W,aY w0 W->Calls prog 158 #[.pointer (some ⟨sb,0,none⟩)] W fun e w'=>e=.returned (.pointer (some ⟨fa,fj,none⟩))/\aY w0 w'))
 (HP:Hid (∀W,aY w0 W->Calls prog 171 #[.pointer (some ⟨fa,fj,none⟩)] W fun e w'=>∃t z,e=.returned (.iface t z)/\Q t z w'))
 (HQ:Hid (∀W t z,Q t z W->W.cell? ⟨sb,3,none⟩=some (.slice x n c)/\sb<W.heap.size))
 (HV:Hid (∀W W' t z,Q t z W->aY W W'->Calls prog 409 #[.iface t z] W' fun e w'=>e=.returned (.string (bs tx))/\R w'))
 (HR:Hid (∀W,R W->W.cell? ⟨sb,3,none⟩=some (.slice x n c)/\sb<W.heap.size/\base<=W.heap.size))
 (HO:Hid (∀W,R W->W.ownsRow base 9 1 (.slice x n c) n xs))
 (HG:Hid (∀W,R W->∀w5:World,(W.alloc (.cells #[.string (bs tx)] 9)).grownBy w5 (Value.slice x n c).ownBlock->(∃u,w5.cell? ⟨sb,3,none⟩=some u)/\w5.frozen? ⟨sb,3,none⟩=false/\sb<w5.heap.size))
 (HN:Hid (∀W,R W->∀g5 cap5 (w5:World),w5.ownsRow base 9 1 (.slice (some ⟨g5,0,none⟩) (n+1) cap5) (n+1) (xs++[.string (bs tx)])->(W.alloc (.cells #[.string (bs tx)] 9)).grownBy w5 (Value.slice x n c).ownBlock->((Value.slice x n c).ownBlock=some g5\/W.heap.size+1<=g5)->P (w5.setCell ⟨sb,3,none⟩ (.slice (some ⟨g5,0,none⟩) (n+1) cap5)))):
 Calls prog 408 #[.agg #[],.pointer (some ⟨sb,0,none⟩)] w fun e w'=>e=.returned (.tuple #[])/\P w':=by
 obtain⟨i0,hi,hz0,hz1,hz2⟩:=info_parts CU;have HW:=aB hW;have hne:¬(n:Int)=50:=by omega
 clear hW;go_enter Tryz.func408,Tryz.ntmps408;go_wp2_with fail;rw[HW.out];refine(HT.out _ (aY.refl _)).mono ?_;rintro e w1 ⟨rfl,hs1⟩;go_wp2_with fail;refine(HP.out _ hs1).mono ?_;rintro e w2 ⟨t,z,rfl,h2⟩;obtain⟨c1,l1⟩:=HQ.out _ _ _ h2;have HH2:=aB h2;clear h2;go_wp2_with fail;go_region_law (first|(go_simp;go_at_call 409;refine(HV.out _ _ _ _ HH2.out (aY.drew _)).mono ?_;rintro e w3 ⟨rfl,h3⟩;have HH3:=aB h3;have hq:=HR.out _ h3;have b1:=hq.1;have b2:=hq.2.1;have b3:=hq.2.2;clear hq h3)|(refine step_append_lies _ (by rfl) _ _ 60 (by rfl) base 9 i0 _ 1 16 Tryz.underlying60 hi hz0 hz1 hz2 rfl (by decide) (.slice x n c) n xs (by rfl) ((HO.out _ HH3.out).alloc _) ⟨w3.heap.size,0,none⟩ 1 1 [.string (bs tx)] (by rfl) (by rfl) (GZ w3 _) (OG _) (by decide) (by unfold maxLen;omega) (by omega) (by simp;omega) (w3.heap.size+1) (by simp) ?_;intro g5 cap5 w5 hown5 hgrow5 hat5 hg5;have hz:=HG.out _ HH3.out w5 hgrow5;obtain⟨⟨u5,y1⟩,y2,y3⟩:=hz))
 all_goals
  go_wp2_with fail;go_end0;exact⟨rfl,HN.out _ HH3.out _ _ _ hown5 hgrow5 (hat5.imp_right fun e=>Nat.le_of_eq e.symm)⟩
theorem KL(w w0:World)(sb fa fj c:Nat)(x:Option Addr)(P:World->Prop)(Q:TypeId->Value->World->Prop)(hW:w.alloc (.cells #[] 448)=w0)
 (HT:Hid (∀W,aY w0 W->Calls prog 158 #[.pointer (some ⟨sb,0,none⟩)] W fun e w'=>e=.returned (.pointer (some ⟨fa,fj,none⟩))/\aY w0 w'))
 (HP:Hid (∀W,aY w0 W->Calls prog 171 #[.pointer (some ⟨fa,fj,none⟩)] W fun e w'=>∃t z,e=.returned (.iface t z)/\Q t z w'))
 (HQ:Hid (∀W t z,Q t z W->W.cell? ⟨sb,3,none⟩=some (.slice x 50 c)/\sb<W.heap.size))
 (HN:Hid (∀W t z,Q t z W->P W)):
 Calls prog 408 #[.agg #[],.pointer (some ⟨sb,0,none⟩)] w fun e w'=>e=fK 8/\P w':=by
 have HW:=aB hW;clear hW;go_enter Tryz.func408,Tryz.ntmps408;go_wp2_with fail;rw[HW.out];refine(HT.out _ (aY.refl _)).mono ?_;rintro e w1 ⟨rfl,hs1⟩;go_wp2_with fail;refine(HP.out _ hs1).mono ?_;rintro e w2 ⟨t,z,rfl,h2⟩;obtain⟨c1,l1⟩:=HQ.out _ _ _ h2;have HH2:=aB h2;clear h2;go_wp2_with fail;exact⟨rfl,rfl,HN.out _ _ _ HH2.out⟩
def zW(own:List Nat)(w:World):Prop:=∀W,Kept own w W->kY W
theorem zW.step{own own':List Nat}{w w':World}(h:zW own w)(hk:Kept own w w')(ho:∀x∈own',x∈own\/w.heap.size<=x):zW own' w':=fun W hW=>h W (hk.trans hW ho)
section
variable {fp:Nat->Value} {F:Nat->Prop} {base:Nat} {w:World} {sb gf cap:Nat} {t0 tv outv s0:Value} {fvs:List FVal} {below:List aK} {f:aK} {tape:List Int} {out:List (List UInt8)}
theorem cT.printed{m:cP}{w5:World}{ob:Obj}{g5 cap5:Nat}{tx:List UInt8}(h:cT fp F base w sb gf cap t0 tv outv s0 fvs m)
 (p2:w5.ownsRow base 9 1 (.slice (some ⟨g5,0,none⟩) (m.out.length+1) cap5) (m.out.length+1) (lR m.out++[.string (bs tx)])) (hg:(w.alloc ob).grownBy w5 outv.ownBlock) (hat:outv.ownBlock=some g5\/w.heap.size+1<=g5):
 cT fp F base (w5.setCell ⟨sb,3,none⟩ (.slice (some ⟨g5,0,none⟩) (m.out.length+1) cap5)) sb gf cap t0 tv (.slice (some ⟨g5,0,none⟩) (m.out.length+1) cap5) s0 fvs ⟨m.frames,m.tape,m.out++[tx]⟩/\Kept (aF sb gf outv fvs) w (w5.setCell ⟨sb,3,none⟩ (.slice (some ⟨g5,0,none⟩) (m.out.length+1) cap5))/\
  ∀k∈aF sb gf (.slice (some ⟨g5,0,none⟩) (m.out.length+1) cap5) fvs,k∈aF sb gf outv fvs\/w.heap.size<=k:=by
 obtain⟨n1,n2⟩:=r8.1 h.nodup;obtain⟨n3,n4⟩:=r8.1 n2;obtain⟨n5,n6,n7⟩:=ai_.1 n4
 have hk:∀k,k<w.heap.size->some k≠outv.ownBlock->w5.heap[k]?=w.heap[k]?:=fun k h1 h2=>by
  rw[hg.block k (by simp;omega) h2,o9 _ _ _ h1]
 have hk2:∀k,k<w.heap.size->some k≠outv.ownBlock->k≠sb->(w5.setCell ⟨sb,3,none⟩ (.slice (some ⟨g5,0,none⟩) (m.out.length+1) cap5)).heap[k]?=w.heap[k]?:=fun k h1 h2 h3=>by
  rw[m7 _ _ _ _ h3,hk k h1 h2]
 have hsbl:sb<w.heap.size:=h.lt sb (by simp[aF])
 have hsbo:some sb≠outv.ownBlock:=fun e=>n1 (by simp[<-e])
 have hgfo:some gf≠outv.ownBlock:=fun e=>n3 (by simp[<-e])
 have hgs:gf≠sb:=fun e=>n1 (by simp[e])
 have hblk:w5.heap[sb]?=_:=(hk sb hsbl hsbo).trans h.blk
 have hown:∀k∈aW fvs,k<w.heap.size/\some k≠outv.ownBlock/\k≠sb/\k≠gf:=fun k hm=>
  ⟨h.lt k (by simp[aF,hm]),fun e=>n7 k (by simp[<-e]) k hm rfl,fun e=>n1 (by simp[<-e,hm]),fun e=>n3 (by simp[<-e,hm])⟩
 have hg5:g5≠sb/\g5≠gf/\g5∉aW fvs:=by
  rcases hat with e|e
  ·exact⟨fun e2=>hsbo (by rw[e,e2]),fun e2=>hgfo (by rw[e,e2]),fun hm=>(hown g5 hm).2.1 e.symm⟩
  ·have hgl:gf<w.heap.size:=h.lt gf (by simp[aF])
   exact⟨by omega,by omega,fun hm=>by have:=(hown g5 hm).1;omega⟩
 have hFk:∀b,F b->(w5.setCell ⟨sb,3,none⟩ (.slice (some ⟨g5,0,none⟩) (m.out.length+1) cap5)).heap[b]?=w.heap[b]?:=fun b hb=>
  hk2 b (h.apart b hb).1 (fun e=>(h.apart b hb).2 (by simp[aF,<-e])) fun e=>(h.apart b hb).2 (by simp[aF,e])
 have hsz:w.heap.size<=w5.heap.size:=p7 (by simp) hg.size
 have hob:(Value.slice (some ⟨g5,0,none⟩) (m.out.length+1) cap5).ownBlock=some g5:=rfl;have hg5l:g5<w5.heap.size:=(p2.lt g5 hob).2;refine⟨⟨aS hblk,bA h.row fun k e=>?_,h.frs.keep hFk (fun _ h=>h) fun v hv k hkm=>?_,h.tape.keep hFk (fun _ h=>h),?_,?_,fun k hkm=>?_,fun k hkF=>?_⟩,⟨hg.os.trans rfl,hg.tape.trans rfl,hg.output.trans rfl,by simpa using hsz,fun k h1 h2=>?_⟩,fun k hkm=>?_⟩
 ·cases e;exact hk2 gf (h.lt gf (by simp[aF])) hgfo hgs
 ·have hm:k∈aW fvs:=aA_.2 ⟨v,hv,hkm⟩;obtain⟨q1,q2,q3,_⟩:=hown k hm;exact hk2 k q1 q2 q3
 ·rw[m6];have e:lR (m.out++[tx])=lR m.out++[.string (bs tx)]:=by simp[lR]
  rw[e];exact bA p2 fun k hk'=>m7 _ _ _ _ (by cases hk';exact hg5.1)
 ·unfold aF;rw[hob];refine r8.2 ⟨fun hm=>?_,r8.2 ⟨fun hm=>?_,ai_.2 ⟨by simp,n6,fun a ha b hb e=>?_⟩⟩⟩
  ·rcases p8.1 hm with e|hm
   ·exact hgs e.symm
   ·rcases o7.1 hm with hm|hm
    ·simp at hm;exact hg5.1 hm.symm
    ·exact(hown sb hm).2.2.1 rfl
  ·rcases o7.1 hm with hm|hm
   ·simp at hm;exact hg5.2.1 hm.symm
   ·exact(hown gf hm).2.2.2 rfl
  ·simp at ha;subst e;exact hg5.2.2 (by rw[<-ha];exact hb)
 ·have:(w5.setCell ⟨sb,3,none⟩ (.slice (some ⟨g5,0,none⟩) (m.out.length+1) cap5)).heap.size=w5.heap.size:=by simp
  rw[this];unfold aF at hkm;rw[hob] at hkm;simp only[Option.toList_some,p8,o7,s7,or_false] at hkm;rcases hkm with rfl|rfl|rfl|hm
  ·exact m9 hsbl hsz
  ·exact m9 (h.lt _ (by simp[aF])) hsz
  ·exact hg5l
  ·exact m9 (hown k hm).1 hsz
 ·obtain⟨h1,h2⟩:=h.apart k hkF;refine⟨m9 h1 (by simpa using hsz),fun hm=>?_⟩
  unfold aF at hm;rw[hob] at hm;simp only[Option.toList_some,p8,o7,s7,or_false] at hm;rcases hm with rfl|rfl|rfl|hm
  ·exact h2 (by simp[aF])
  ·exact h2 (by simp[aF])
  ·rcases hat with e|e
   ·exact h2 (by simp[aF,e])
   ·omega
  ·exact h2 (by simp[aF,hm])
 ·exact hk2 k h1 (fun e=>h2 (by simp[aF,<-e])) fun e=>h2 (by simp[aF,e])
 ·unfold aF at hkm;rw[hob] at hkm;simp only[Option.toList_some,p8,o7,s7,or_false] at hkm;rcases hkm with rfl|rfl|rfl|hm
  ·exact Or.inl (by simp[aF])
  ·exact Or.inl (by simp[aF])
  ·rcases hat with e|e
   ·exact Or.inl (by simp[aF,e])
   ·exact Or.inr (by omega)
  ·exact Or.inl (by simp[aF,hm])
theorem G3(tab:List eP){vs:List aI}{b:aI}(h:cT fp F base w sb gf cap t0 tv outv s0 fvs ⟨below++[f],tape,out⟩)(hp:zW (aF sb gf outv fvs) w)(hbel:below.length<=15)(hbase:base<=w.heap.size)(hops:f.ops.length<=99000)(hf:f.ops=vs++[b])(hol:out.length<=50):
 Calls prog 408 #[.agg #[],.pointer (some ⟨sb,0,none⟩)] w (Z7 fp F base sb t0 s0 (aF sb gf outv fvs) w (cD tab .print below f tape out)):=by
 have hM:=h.mid hbase (.cells #[] 448);obtain⟨fb,v,cur,rfl,hfl, -⟩:=h.top;have h0:=h.grow ((m8 _ w).alloc (l9 _) (.cells #[] 448)) (fun _ h=>h) (fun _ h=>Or.inl h)
 have hT:=hM.topS hbel;rw[<-hfl] at hT;have hK0:Kept (aF sb gf outv (fb++[v])) w (w.alloc (.cells #[] 448)):=Kept.of_below ((m8 _ w).alloc (l9 _) _);generalize hw0:w.alloc (.cells #[] 448)=w0 at h0 hT hK0;obtain⟨x,c,rfl⟩:=cV h.out;have hlast:f.last=b:=iU hf
 have HP:Hid (∀W,aY w0 W->Calls prog 171 #[.pointer (some ⟨gf,fb.length*6,none⟩)] W fun e w'=>∃t z,e=.returned (.iface t z)/\(PV F w' (.iface t z) b/\aJ b<=200/\rF fp F base sb gf cap t0 tv (.slice x out.length c) s0 fb v below f.pop tape out w0 w')):=fun W hS=>by
  refine((h0.grow hS.below (fun _ h=>h) (fun _ h=>Or.inl h)).popR hf (by omega)).mono ?_
  rintro e w' ⟨t,z,ov',he,h1,h2,h3,h4,h5,h6⟩;exact⟨t,z,he,h1,h2,ov',h3,h4,(Kept.of_below (own:=aF sb gf (.slice x out.length c) (fb++[v])) hS.below).trans h5 fun _ h=>Or.inl h,fun k _ hk=>by rw[h6 k hk,hS.heap]⟩
 have hrd:∀{W:World} {f':aK},rF fp F base sb gf cap t0 tv (.slice x out.length c) s0 fb v below f' tape out w0 W->W.cell? ⟨sb,3,none⟩=some (.slice x out.length c)/\sb<W.heap.size/\base<=W.heap.size/\Kept (aF sb gf (.slice x out.length c) (fb++[v])) w W:=fun hq=>by
  obtain⟨ov',_,h2,h3,_⟩:=hq;exact⟨aA h2.blk rfl,aD h2.blk,p7 hbase (p7 hK0.size h3.size),hK0.trans h3 fun _ h=>Or.inl h⟩
 by_cases h50:out.length=50
 ·rw[h50] at hrd HP;refine(KL w w0 sb gf (fb.length*6) c x (fun w'=>Done fp F base sb t0 s0 (aF sb gf (.slice x out.length c) (fb++[v])) w ⟨below++[f.pop],tape,out⟩ w') (fun t z W=>PV F W (.iface t z) b/\aJ b<=200/\rF fp F base sb gf cap t0 tv (.slice x 50 c) s0 fb v below f.pop tape out w0 W) hw0 hT HP (fun W t z hq=>?_) (fun W t z hq=>?_)).mono ?_
  ·obtain⟨q1,q2,_⟩:=hrd hq.2.2;exact⟨q1,q2⟩
  ·subst hw0;rw[h50];exact hq.2.2.done (Ext.refl _ _)
  ·rintro e w' ⟨rfl,h2⟩;have e1:cD tab .print below f tape out=(⟨below++[f.pop],tape,out⟩,8):=by simp[cD,h50]
   rw[e1];exact⟨Or.inr ⟨show (8:Nat)≠0 by decide,rfl⟩,h2⟩
 ·refine(KK w w0 sb gf (fb.length*6) base out.length c x (gE b) (by omega) (fun w'=>Done fp F base sb t0 s0 (aF sb gf (.slice x out.length c) (fb++[v])) w ⟨below++[f.pop],tape,out++[gE b]⟩ w') (fun t z W=>PV F W (.iface t z) b/\aJ b<=200/\rF fp F base sb gf cap t0 tv (.slice x out.length c) s0 fb v below f.pop tape out w0 W) (fun W=>rF fp F base sb gf cap t0 tv (.slice x out.length c) s0 fb v below f.pop tape out w0 W) (lR out) hw0 hT HP (fun W t z hq=>?_) (fun W W' t z hq hS=>?_) (fun W hq=>?_) (fun W hq=>?_) (fun W hq=>?_) (fun W hq=>?_)).mono ?_
  ·obtain⟨q1,q2,_⟩:=hrd hq.2.2;exact⟨q1,q2⟩
  ·obtain⟨p1,p2,hq⟩:=hq;have hq':=hq.grow hS.below (fun _ h=>h) (fun _ h=>Or.inl h)
   have hFlt:∀k,F k->k<W'.heap.size:=fun k hk=>by obtain⟨_,_,h2,_⟩:=hq';exact(h2.apart k hk).1
   refine(XP F _ b W' (p1.keep fun k _=>by rw[hS.heap]) hFlt (hp W' (hrd hq').2.2.2) (by omega)).mono ?_
   rintro e w' ⟨he,hb⟩;exact⟨he,hq'.grow hb (fun _ h=>h) (fun _ h=>Or.inl h)⟩
  ·obtain⟨q1,q2,q3,_⟩:=hrd hq;exact⟨q1,q2,q3⟩
  ·obtain⟨_,_,h2,_⟩:=hq;exact h2.out
  ·intro w5 hg;obtain⟨ov',_,h2,_⟩:=hq;have hsl:=aD h2.blk;have hsbo:some sb≠(Value.slice x out.length c).ownBlock:=fun e=>(r8.1 h2.nodup).1 (by simp[<-e])
   have e5:w5.heap[sb]?=_:=(hg.block sb (by simp;omega) hsbo).trans ((o9 _ _ _ hsl).trans h2.blk)
   exact⟨⟨_,aA e5 rfl⟩,aE e5,aD e5⟩
  ·intro g5 cap5 w5 p2 hg hat;obtain⟨ov',h1,h2,h3,h4⟩:=hq;obtain⟨q1,q2,q3⟩:=h2.printed (tx:=gE b) p2 hg hat;have hown2:aF sb gf (.slice x out.length c) (fb++[{ v with ov:=ov' }])=aF sb gf (.slice x out.length c) (fb++[v]):=by simp[aF,aW,FVal.owns,h1]
   rw[hown2] at q2 q3;have hk3:=hK0.trans h3 fun _ h=>Or.inl h
   exact⟨hk3.trans q2 fun _ h=>Or.inl h,F,gf,cap,tv,_,_,Ext.refl _ _,q1,fun k hk=>(q3 k hk).imp_right fun h=>p7 hk3.size h⟩
  ·rintro e w' ⟨rfl,h2⟩;have e1:cD tab .print below f tape out=(⟨below++[f.pop],tape,out++[gE b]⟩,0):=by simp[cD,h50,hlast]
   rw[e1];exact⟨Or.inl ⟨rfl,rfl⟩,h2⟩
end
end Go.Proofs.YtblbkfdhjfppkaaGreatDoor
