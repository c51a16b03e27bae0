/- Contracts of the program: values in memory; what asks for their sort. -/
import Derived.Test.YtblbkfdhjfppkaaGreatDoorB04
import Derived.Test.YtblbkfdhjfppkaaGreatDoorP04
import Derived.Test.YtblbkfdhjfppkaaGreatDoorP12
import Derived.Test.YtblbkfdhjfppkaaGreatDoorP03
set_option maxRecDepth 100000
set_option maxHeartbeats 4000000
namespace Go.Proofs.YtblbkfdhjfppkaaGreatDoor
open Hs
open Go.RowKit
abbrev fE(k:Nat):Ending:=.panicked [{ v:=.iface 353 (.int .i64 k),recovered:=false }]
def VLr(R:Value→aI→Prop)(F:Nat→Prop)(w:World)(sv:Value)(l:List aI):Prop:=
 (l=[]∧sv=.slice none 0 0)∨
 ∃g cap cur,sv=.slice (some ⟨g,0,none⟩) l.length cap∧F g∧w.heap[g]?=some (.cells cur 256 (0,0))∧l.length≤cap∧∀i (h:i<l.length),∃u,cur[i]?=some u∧R u l[i]
def VR:Nat→(Nat→Prop)→World→Value→aI→Prop
 |0,_,_,_,_=>False
 |d+1,F,w,v,a=>
  (∃n,v=.iface 315 (.int .i64 n)∧a=bB n∧ -9223372036854775808≤n∧n≤9223372036854775807)∨
  (∃b,v=.iface 316 (.bool b)∧a=bL b)∨
  (∃s,v=.iface 318 (.string (bs s))∧a=bH s)∨
  (∃sv l,v=.iface 319 sv∧a=aU l∧VLr (VR d F w) F w sv l)
theorem VLr.mono{R S:Value→aI→Prop}{F G:Nat→Prop}{w:World}{sv:Value}{l:List aI}(h:VLr R F w sv l)(hR:∀v a,R v a→S v a)(hF:∀b,F b→G b):VLr S G w sv l:=by
 rcases h with h|⟨g,cap,cur,h1,h2,h3,h4,h5⟩
 ·exact Or.inl h
 ·refine Or.inr ⟨g,cap,cur,h1,hF _ h2,h3,h4,fun i hi=>?_⟩
  obtain⟨u,k1,k2⟩:=h5 i hi;exact⟨u,k1,hR _ _ k2⟩
theorem VLr.keep{R:Value→aI→Prop}{F:Nat→Prop}{w w':World}{sv:Value}{l:List aI}(h:VLr R F w sv l)(hk:∀b,F b→w'.heap[b]?=w.heap[b]?):VLr R F w' sv l:=by
 rcases h with h|⟨g,cap,cur,h1,h2,h3,h4,h5⟩
 ·exact Or.inl h
 ·exact Or.inr ⟨g,cap,cur,h1,h2,by rw[hk g h2];exact h3,h4,h5⟩
theorem VR.mono{F G:Nat→Prop}{w:World}(hF:∀b,F b→G b):∀{d e:Nat} {v:Value} {a:aI},VR d F w v a→d≤e→VR e G w v a
 |0,_,_,_,h,_=>h.elim
 |d+1,0,_,_,_,h=>by omega
 |d+1,e+1,v,a,h,hde=>by
  rcases h with h|h|h|⟨sv,l,h1,h2,h3⟩
  ·exact Or.inl h
  ·exact Or.inr (Or.inl h)
  ·exact Or.inr (Or.inr (Or.inl h))
  ·exact Or.inr (Or.inr (Or.inr ⟨sv,l,h1,h2,h3.mono (fun _ _ h=>VR.mono hF h (by omega)) hF⟩))
theorem VR.keep{F:Nat→Prop}{w w':World}(hk:∀b,F b→w'.heap[b]?=w.heap[b]?):∀{d:Nat} {v:Value} {a:aI},VR d F w v a→VR d F w' v a
 |0,_,_,h=>h.elim
 |d+1,v,a,h=>by
  rcases h with h|h|h|⟨sv,l,h1,h2,h3⟩
  ·exact Or.inl h
  ·exact Or.inr (Or.inl h)
  ·exact Or.inr (Or.inr (Or.inl h))
  ·exact Or.inr (Or.inr (Or.inr ⟨sv,l,h1,h2,(h3.mono (fun _ _ h=>VR.keep hk h) (fun _ h=>h)).keep hk⟩))
def PV(F:Nat→Prop)(w:World)(v:Value)(a:aI):Prop:=∃d,VR d F w v a
theorem PV.mono{F G:Nat→Prop}{w:World}{v:Value}{a:aI}(h:PV F w v a)(hF:∀b,F b→G b):PV G w v a:=by
 obtain⟨d,h⟩:=h;exact⟨d,h.mono hF (Nat.le_refl _)⟩
theorem PV.keep{F:Nat→Prop}{w w':World}{v:Value}{a:aI}(h:PV F w v a)(hk:∀b,F b→w'.heap[b]?=w.heap[b]?):PV F w' v a:=by
 obtain⟨d,h⟩:=h;exact⟨d,h.keep hk⟩
theorem PV.num(F:Nat→Prop)(w:World)(n:Int)(h1: -9223372036854775808≤n)(h2:n≤9223372036854775807):PV F w (.iface 315 (.int .i64 n)) (bB n):=⟨1,Or.inl ⟨n,rfl,rfl,h1,h2⟩⟩
theorem PV.tru(F:Nat→Prop)(w:World)(b:Bool):PV F w (.iface 316 (.bool b)) (bL b):=⟨1,Or.inr (Or.inl ⟨b,rfl,rfl⟩)⟩
theorem PV.str(F:Nat→Prop)(w:World)(s:List UInt8):PV F w (.iface 318 (.string (bs s))) (bH s):=⟨1,Or.inr (Or.inr (Or.inl ⟨s,rfl,rfl⟩))⟩
def PVs(F:Nat→Prop)(w:World)(sv:Value)(l:List aI):Prop:=VLr (PV F w) F w sv l
theorem NX{F:Nat→Prop}{w:World}{cur:Array Value}:∀(l:List aI) (o:Nat),(∀i (h:i<l.length),∃u,cur[o+i]?=some u∧PV F w u l[i])→∃d,∀i (h:i<l.length),∃u,cur[o+i]?=some u∧VR d F w u l[i]
 |[],_,_=>⟨0,fun i h=>by simp at h⟩
 |a::l,o,h=>by
  obtain⟨u,hu,d,hd⟩:=h 0 (by simp)
  obtain⟨e,he⟩:=NX (F:=F) (w:=w) (cur:=cur) l (o+1) fun i hi=>by
   have:=h (i+1) (by simpa using hi)
   rw[show o+1+i=o+(i+1) by omega]
   simpa using this
  refine⟨max d e,fun i hi=>?_⟩
  cases i with
  |zero=>exact⟨u,hu,hd.mono (fun _ h=>h) (Nat.le_max_left _ _)⟩
  |succ i=>
   obtain⟨u',h1,h2⟩:=he i (by simpa using hi)
   rw[show o+1+i=o+(i+1) by omega] at h1
   exact⟨u',h1,h2.mono (fun _ h=>h) (Nat.le_max_right _ _)⟩
theorem PV.lst{F:Nat→Prop}{w:World}{sv:Value}{l:List aI}(h:PVs F w sv l):PV F w (.iface 319 sv) (aU l):=by
 rcases h with h|⟨g,cap,cur,h1,h2,h3,h4,h5⟩
 ·exact⟨1,Or.inr (Or.inr (Or.inr ⟨sv,l,rfl,rfl,Or.inl h⟩))⟩
 ·obtain⟨d,hd⟩:=NX (cur:=cur) l 0 (by simpa using h5)
  exact⟨d+1,Or.inr (Or.inr (Or.inr ⟨sv,l,rfl,rfl,Or.inr ⟨g,cap,cur,h1,h2,h3,h4,by simpa using hd⟩⟩))⟩
theorem PV.cases{F:Nat→Prop}{w:World}{v:Value}{a:aI}(h:PV F w v a):
 (∃n,v=.iface 315 (.int .i64 n)∧a=bB n∧ -9223372036854775808≤n∧n≤9223372036854775807)∨
 (∃b,v=.iface 316 (.bool b)∧a=bL b)∨
 (∃s,v=.iface 318 (.string (bs s))∧a=bH s)∨
 (∃x c l,v=.iface 319 (.slice x l.length c)∧a=aU l∧PVs F w (.slice x l.length c) l):=by
 obtain⟨d,h⟩:=h;cases d with
 |zero=>exact h.elim
 |succ d=>
  rcases h with h|h|h|⟨sv,l,h1,h2,h3⟩
  ·exact Or.inl h
  ·exact Or.inr (Or.inl h)
  ·exact Or.inr (Or.inr (Or.inl h))
  ·refine Or.inr (Or.inr (Or.inr ?_));have h4:PVs F w sv l:=h3.mono (fun _ _ h=>⟨d,h⟩) (fun _ h=>h)
   rcases h3 with ⟨rfl,rfl⟩|⟨g,cap,cur,rfl,_⟩
   ·exact⟨none,0,[],h1,h2,h4⟩
   ·exact⟨_,_,l,h1,h2,h4⟩
theorem nR(F:Nat→Prop)(v:Value)(a:aI)(w:World)(h:PV F w v a):
 Calls Tryz.prog 385 #[v] w fun e w'=>w'=w∧((a.sort=1∧e=.returned (.bool (decide (a.n=1))))∨(a.sort≠1∧e=fE 2)):=by
 rcases h.cases with ⟨n,rfl,rfl,_,_⟩|⟨b,rfl,rfl⟩|⟨s,rfl,rfl⟩|⟨x,c,l,rfl,rfl,_⟩
 ·clear h;have q:=KJ;go_enter Tryz.func385,Tryz.ntmps385;go_wp2_with fail;exact⟨rfl,rfl,Or.inr ⟨by simp[bB],rfl⟩⟩
 ·clear h;have q:=sR;go_enter Tryz.func385,Tryz.ntmps385;go_wp2_with fail;go_ret;exact⟨rfl,Or.inl ⟨rfl,by cases b<;>rfl⟩⟩
 ·clear h;have q:=vR;go_enter Tryz.func385,Tryz.ntmps385;go_wp2_with fail;exact⟨rfl,rfl,Or.inr ⟨by simp[bH],rfl⟩⟩
 ·clear h;have q:=sQ;go_enter Tryz.func385,Tryz.ntmps385;go_wp2_with fail;exact⟨rfl,rfl,Or.inr ⟨by simp[aU],rfl⟩⟩
def kK(F:Nat→Prop)(w:World)(r:aI × Nat)(e:Ending)(w':World):Prop:=w'=w∧((r.2=0∧∃u,e=.returned u∧PV F w u r.1)∨(r.2≠0∧e=fE r.2))
theorem kK.ok{F:Nat→Prop}{w:World}{r:aI × Nat}{u:Value}{a:aI}(hr:r=(a,0))(h:PV F w u a):kK F w r (.returned u) w:=by subst hr;exact⟨rfl,Or.inl ⟨rfl,u,rfl,h⟩⟩
theorem kK.stop{F:Nat→Prop}{w:World}{r:aI × Nat}{a:aI}{k:Nat}(hr:r=(a,k))(hk:k≠0):kK F w r (fE k) w:=by subst hr;exact⟨rfl,Or.inr ⟨hk,rfl⟩⟩
theorem SX(n:Int): -9223372036854775808≤kB n∧kB n≤9223372036854775807:=by unfold kB;omega
theorem PV.wrap(F:Nat→Prop)(w:World)(n:Int):PV F w (.iface 315 (.int .i64 (wrap64 n))) (bB (kB n)):=by
 rw[←OY];exact PV.num F w _ (SX n).1 (SX n).2
theorem VM(op:List UInt8)(F:Nat→Prop)(x y:Int)(w:World)(hx1: -9223372036854775808≤x)(hx2:x≤9223372036854775807)(hy1: -9223372036854775808≤y)(hy2:y≤9223372036854775807):
 Calls Tryz.prog 390 #[.string (bs op),.int .i64 x,.int .i64 y] w (kK F w (iL op x y)):=by
 have hbt:=bZ op;obtain⟨r,hr⟩:∃r,r=iL op x y:=⟨_,rfl⟩;rw[←hr];unfold iL at hr;by_cases o0:op=[43]
 ·rw[if_pos o0] at hr;have e_lt:((bs op).toList==[60])=false:=by rw[hbt,o0];rfl
  have e_le:((bs op).toList==[60,61])=false:=by rw[hbt,o0];rfl
  have e_add:((bs op).toList==[43])=true:=by rw[hbt,o0];rfl
  have e_sub:((bs op).toList==[45])=false:=by rw[hbt,o0];rfl
  have e_mul:((bs op).toList==[42])=false:=by rw[hbt,o0];rfl
  have HP:=aB hr;clear hbt hr o0;go_enter Tryz.func390,Tryz.ntmps390;go_wp2_with fail;go_ret;exact kK.ok HP.out (PV.wrap F w (x+y))
 rw[if_neg o0] at hr;have e_add:((bs op).toList==[43])=false:=by rw[hbt];simpa using o0
 clear o0;by_cases o1:op=[45]
 ·rw[if_pos o1] at hr;have e_lt:((bs op).toList==[60])=false:=by rw[hbt,o1];rfl
  have e_le:((bs op).toList==[60,61])=false:=by rw[hbt,o1];rfl
  have e_add:((bs op).toList==[43])=false:=by rw[hbt,o1];rfl
  have e_sub:((bs op).toList==[45])=true:=by rw[hbt,o1];rfl
  have e_mul:((bs op).toList==[42])=false:=by rw[hbt,o1];rfl
  have HP:=aB hr;clear hbt hr o1;go_enter Tryz.func390,Tryz.ntmps390;go_wp2_with fail;go_ret;exact kK.ok HP.out (PV.wrap F w (x-y))
 rw[if_neg o1] at hr;have e_sub:((bs op).toList==[45])=false:=by rw[hbt];simpa using o1
 clear o1;by_cases o2:op=[42]
 ·rw[if_pos o2] at hr;have e_lt:((bs op).toList==[60])=false:=by rw[hbt,o2];rfl
  have e_le:((bs op).toList==[60,61])=false:=by rw[hbt,o2];rfl
  have e_add:((bs op).toList==[43])=false:=by rw[hbt,o2];rfl
  have e_sub:((bs op).toList==[45])=false:=by rw[hbt,o2];rfl
  have e_mul:((bs op).toList==[42])=true:=by rw[hbt,o2];rfl
  have HP:=aB hr;clear hbt hr o2;go_enter Tryz.func390,Tryz.ntmps390;go_wp2_with fail;go_ret;exact kK.ok HP.out (PV.wrap F w (x*y))
 rw[if_neg o2] at hr;have e_mul:((bs op).toList==[42])=false:=by rw[hbt];simpa using o2
 clear o2;by_cases o3:op=[60]
 ·rw[if_pos o3] at hr;have e_lt:((bs op).toList==[60])=true:=by rw[hbt,o3];rfl
  have e_le:((bs op).toList==[60,61])=false:=by rw[hbt,o3];rfl
  have e_add:((bs op).toList==[43])=false:=by rw[hbt,o3];rfl
  have e_sub:((bs op).toList==[45])=false:=by rw[hbt,o3];rfl
  have e_mul:((bs op).toList==[42])=false:=by rw[hbt,o3];rfl
  have HP:=aB hr;clear hbt hr o3;go_enter Tryz.func390,Tryz.ntmps390;go_wp2_with fail;go_ret;exact kK.ok HP.out (PV.tru F w (decide (x<y)))
 rw[if_neg o3] at hr;have e_lt:((bs op).toList==[60])=false:=by rw[hbt];simpa using o3
 clear o3;by_cases o4:op=[60,61]
 ·rw[if_pos o4] at hr;have e_lt:((bs op).toList==[60])=false:=by rw[hbt,o4];rfl
  have e_le:((bs op).toList==[60,61])=true:=by rw[hbt,o4];rfl
  have e_add:((bs op).toList==[43])=false:=by rw[hbt,o4];rfl
  have e_sub:((bs op).toList==[45])=false:=by rw[hbt,o4];rfl
  have e_mul:((bs op).toList==[42])=false:=by rw[hbt,o4];rfl
  have HP:=aB hr;clear hbt hr o4;go_enter Tryz.func390,Tryz.ntmps390;go_wp2_with fail;go_ret;exact kK.ok HP.out (PV.tru F w (decide (x≤y)))
 rw[if_neg o4] at hr;have e_le:((bs op).toList==[60,61])=false:=by rw[hbt];simpa using o4
 clear o4;by_cases hz:y=0
 ·rw[if_pos hz] at hr;subst hz;have HP:=aB hr;clear hbt hr;go_enter Tryz.func390,Tryz.ntmps390;go_wp2_with fail;exact⟨rfl,kK.stop HP.out (by decide)⟩
 rw[if_neg hz] at hr;have ez:(y==0)=false:=by simpa using hz
 by_cases o5:op=[47]
 ·rw[if_pos o5] at hr;have e5:((bs op).toList==[47])=true:=by rw[hbt,o5];rfl
  have HP:=aB hr;clear hbt hr o5;go_enter Tryz.func390,Tryz.ntmps390;go_wp2_with fail;go_ret;exact kK.ok HP.out (PV.wrap F w (x.tdiv y))
 ·rw[if_neg o5] at hr;have e5:((bs op).toList==[47])=false:=by rw[hbt];simpa using o5
  have hm:=ZD x y hx1 hx2;rw[UB _ hm.1 hm.2] at hr;have HP:=aB hr;have HM:=aB hm;clear hbt hr o5 hm;go_enter Tryz.func390,Tryz.ntmps390;go_wp2_with fail;go_ret;exact kK.ok HP.out (PV.num F w (x.tmod y) HM.out.1 HM.out.2)
theorem AI(o:UInt8)(ho:o=45∨o=33)(F:Nat→Prop)(v:Value)(a:aI)(w:World)(h:PV F w v a):
 Calls Tryz.prog 384 #[.string (bs [o]),v] w (kK F w (fB [o,120] a)):=by
 rcases ho with rfl|rfl
 ·have e1:((bs [45]).toList==[33])=false:=by rw[bZ];rfl
  rcases h.cases with ⟨n,rfl,rfl,h1,h2⟩|⟨b,rfl,rfl⟩|⟨s,rfl,rfl⟩|⟨x,c,l,rfl,rfl,_⟩
  ·have HP:=aB (Hs.oneL_neg (op:=[45,120]) (a:=bB n) rfl rfl);have q:=kN;clear h;generalize fB [45,120] (bB n)=r at*;go_enter Tryz.func384,Tryz.ntmps384;go_wp2_with fail;go_ret;exact kK.ok HP.out (by have hh:=PV.wrap F w (-n);rw[OY] at hh;exact hh)
  ·have q:=jQ;clear h;go_enter Tryz.func384,Tryz.ntmps384;go_wp2_with fail;exact⟨rfl,kK.stop (a:=bK) (by unfold fB;simp[bL]) (by decide)⟩
  ·have q:=kM;clear h;go_enter Tryz.func384,Tryz.ntmps384;go_wp2_with fail;exact⟨rfl,kK.stop (a:=bK) (by unfold fB;simp[bH]) (by decide)⟩
  ·have q:=jO;clear h;go_enter Tryz.func384,Tryz.ntmps384;go_wp2_with fail;exact⟨rfl,kK.stop (a:=bK) (by unfold fB;simp[aU]) (by decide)⟩
 ·have e1:((bs [33]).toList==[33])=true:=by rw[bZ];rfl
  have HT:=aB (nR F v a w h);obtain⟨r,hr⟩:∃r,r=fB [33,120] a:=⟨_,rfl⟩;rw[←hr];have HR:=aB hr
  have hform:∃t u,v=.iface t u:=by
   rcases h.cases with ⟨n,rfl,_⟩|⟨b,rfl,_⟩|⟨s,rfl,_⟩|⟨x,c,l,rfl,_⟩<;>exact⟨_,_,rfl⟩
  obtain⟨t,u,rfl⟩:=hform;have HC:=aB h.cases;clear h hr;go_enter Tryz.func384,Tryz.ntmps384;go_wp2_with fail;refine HT.out.mono ?_;rintro e w1 ⟨rfl,⟨hs,rfl⟩|⟨hs,rfl⟩⟩
  ·have HS:=aB hs;clear hs;go_wp2_with fail;go_ret;refine kK.ok (a:=bL (!decide (a.n=1))) ?_ (PV.tru F w1 (!decide (a.n=1)));rw[HR.out];unfold fB;rw[if_neg (by simp),if_pos ⟨rfl,HS.out⟩]
   rcases HC.out with ⟨n,_,rfl,_⟩|⟨b,_,rfl⟩|⟨s,_,rfl⟩|⟨x,c,l,_,rfl,_⟩
   ·have:=HS.out;simp[bB] at this
   ·cases b<;>rfl
   ·have:=HS.out;simp[bH] at this
   ·have:=HS.out;simp[aU] at this
  ·have HS:=aB hs;clear hs;go_wp2_with fail;exact⟨rfl,kK.stop (a:=bK) (by rw[HR.out];unfold fB;rw[if_neg (by simp),if_neg (fun hh=>HS.out hh.2)]) (by decide)⟩
theorem PVs.get{F:Nat→Prop}{w:World}{x:Option Addr}{n c:Nat}{l:List aI}(h:PVs F w (.slice x n c) l)(i:Nat)(hi:i<l.length):∃g u,x=some ⟨g,0,none⟩∧n=l.length∧F g∧g<w.heap.size∧l.length≤c∧w.cell? ⟨g,i,none⟩=some u∧PV F w u l[i]:=by
 rcases h with ⟨rfl,_⟩|⟨g,cap,cur,h1,h2,h3,h4,h5⟩
 ·simp at hi
 ·cases h1;obtain⟨u,k1,k2⟩:=h5 i hi;exact⟨g,u,rfl,rfl,h2,aD h3,h4,aA h3 k1,k2⟩
theorem PV.form{F:Nat→Prop}{w:World}{v:Value}{a:aI}(h:PV F w v a):∃t u,v=.iface t u:=by
 rcases h.cases with ⟨n,rfl,_⟩|⟨b,rfl,_⟩|⟨s,rfl,_⟩|⟨x,c,l,rfl,_⟩<;>exact⟨_,_,rfl⟩
theorem PVs.keep{F:Nat→Prop}{w w':World}{sv:Value}{l:List aI}(h:PVs F w sv l)(hk:∀b,F b→w'.heap[b]?=w.heap[b]?):PVs F w' sv l:=(VLr.mono h (fun _ _ h=>h.keep hk) (fun _ h=>h)).keep hk
theorem PVs.mono{F G:Nat→Prop}{w:World}{sv:Value}{l:List aI}(h:PVs F w sv l)(hF:∀b,F b→G b):PVs G w sv l:=VLr.mono h (fun _ _ h=>h.mono hF) hF
theorem YF(n:Int):aJ (bB n)=1:=by rw[eN];simp[bB]
theorem YD(b:Bool):aJ (bL b)=1:=by rw[eN];simp[bL]
theorem jX(s:List UInt8):aJ (bH s)=1+s.length:=by rw[eN];simp[bH]
theorem iC(l:List aI):aJ (aU l)=1+(l.map aJ).sum:=by rw[eN];simp[aU]
theorem kU{l:List aI}{a:aI}(h:a∈l):aJ a≤(l.map aJ).sum:=by
 induction l with
 |nil=>cases h
 |cons x l ih=>
  simp only[List.map_cons,List.sum_cons];rcases List.mem_cons.1 h with rfl|h
  ·omega
  ·have:=ih h;omega
theorem qM(a:aI):1≤aJ a:=by rw[eN];omega
theorem iS(l:List aI):l.length≤(l.map aJ).sum:=by
 induction l with
 |nil=>simp
 |cons x l ih=>simp only[List.map_cons,List.sum_cons,List.length_cons];have:=qM x;omega
def KD(F:Nat→Prop)(k:Nat):Prop:=∀(v:Value) (a:aI) (w:World),PV F w v a→aJ a≤k→k≤1000000000→Calls Tryz.prog 379 #[v] w fun e w'=>w'=w∧e=.returned (.int .i64 (aJ a:Nat))
theorem LS(F:Nat→Prop)(k:Nat)(IH:KD F k):KD F (k+1):=by
 intro v a w h hc hk;rcases h.cases with ⟨n,rfl,rfl,h1,h2⟩|⟨b,rfl,rfl⟩|⟨s,rfl,rfl⟩|⟨x,c,l,rfl,rfl,hl⟩
 ·have q:=lU;have q':=iG;rw[YF];clear h IH hc;go_enter Tryz.func379,Tryz.ntmps379;go_wp2_with fail;go_ret;exact⟨rfl,rfl⟩
 ·have q:=jP;have q':=gE;rw[YD];clear h IH hc;go_enter Tryz.func379,Tryz.ntmps379;go_wp2_with fail;go_ret;exact⟨rfl,rfl⟩
 ·have q:=jK;have hs:(bs s).size=s.length:=gX s;rw[jX] at hc ⊢
  clear h IH;go_enter Tryz.func379,Tryz.ntmps379;go_wp2_with fail;go_ret;exact⟨rfl,by go_num⟩
 ·have q:=kY;have q':=gD;have hlen:=iS l;rw[iC] at hc ⊢
  have HIH:=aB IH;have HL:=aB hl;clear h IH hl;go_enter Tryz.func379,Tryz.ntmps379;go_wp2_with fail;go_loopg [5,7,20] l.length (fun gk s _ i wr=>∃j:Nat,j+gk=l.length∧i=.int .i64 j∧s=.int .i64 ((1+((l.map aJ).take j).sum:Nat):Int)∧wr=w)
  case atStart=>exact⟨0,by omega,rfl,rfl,rfl⟩
  case round=>
   obtain⟨j,hj,rfl,rfl,rfl⟩:=hrel;by_cases hlt:j<l.length
   ·obtain⟨m,rfl⟩:∃m,gk=m+1:=⟨gk-1,by omega⟩
    obtain⟨g,u,rfl,hn,hF,hg,hcap,hcell,hu⟩:=HL.out.get j hlt;have hmem:l[j]∈l:=List.getElem_mem hlt;have hcm:=kU hmem;have HX:=aB (HIH.out u l[j] wr hu (by omega) (by omega))
    obtain⟨t,u',rfl⟩:=hu.form
    have htk:((l.map aJ).take (j+1)).sum=((l.map aJ).take j).sum+aJ l[j]:=by
     rw[List.take_succ_eq_append_getElem (by simpa using hlt),List.sum_append];simp only[List.getElem_map,List.sum_cons,List.sum_nil,Nat.add_zero]
    have htl:((l.map aJ).take (j+1)).sum≤(l.map aJ).sum:=by
     have e:(l.map aJ).sum=((l.map aJ).take (j+1)++(l.map aJ).drop (j+1)).sum:=by rw[List.take_append_drop]
     rw[e,List.sum_append];omega
    generalize aJ l[j]=cj at*;clear hu;go_wp2_with fail;refine HX.out.mono ?_;rintro e w1 ⟨rfl,rfl⟩;go_wp2_with fail;go_roundg m
    case measure=>omega
    case rel=>exact⟨j+1,by omega,by go_num,by rw[htk];go_num,rfl⟩
   ·have hjl:j=l.length:=by omega
    subst hjl;go_wp2_with fail;go_ret;exact⟨rfl,by rw[List.take_of_length_le (by simp)];rfl⟩
theorem AO(F:Nat→Prop):∀k,KD F k
 |0=>fun v a w _ h=>by have:=qM a;omega
 |k+1=>LS F k (AO F k)
theorem lL(F:Nat→Prop)(v:Value)(a:aI)(w:World)(h:PV F w v a)(hc:aJ a≤1000000000):
 Calls Tryz.prog 378 #[v] w fun e w'=>w'=w∧((aJ a≤200∧e=.returned v)∨(200<aJ a∧e=fE 6)):=by
 have HX:=aB (AO F 1000000000 v a w h hc (Nat.le_refl _));obtain⟨t,u,rfl⟩:=h.form;clear h;generalize aJ a=n at*;by_cases h2:n≤200
 ·have e:decide ((200:Int)<(n:Int))=false:=decide_eq_false (by omega)
  go_enter Tryz.func378,Tryz.ntmps378;go_wp2_with fail;refine HX.out.mono ?_;rintro e w1 ⟨rfl,rfl⟩;go_wp2_with fail;go_ret;exact⟨rfl,Or.inl ⟨h2,rfl⟩⟩
 ·have e:decide ((200:Int)<(n:Int))=true:=decide_eq_true (by omega)
  go_enter Tryz.func378,Tryz.ntmps378;go_wp2_with fail;refine HX.out.mono ?_;rintro e w1 ⟨rfl,rfl⟩;go_wp2_with fail;exact⟨rfl,rfl,Or.inr ⟨by omega,rfl⟩⟩
theorem sE(F:Nat→Prop)(v:Value)(a:aI)(n:Nat)(w:World)(h:PV F w v a)(_hn:n≤1000000000):
 Calls Tryz.prog 382 #[v,.int .i64 n] w fun e w'=>w'=w∧((a.sort≠0∧e=fE 2)∨(a.sort=0∧(a.n<0∨(n:Int)≤a.n)∧e=fE 4)∨(a.sort=0∧∃k:Nat,k<n∧a.n=k∧e=.returned (.int .i64 k))):=by
 rcases h.cases with ⟨m,rfl,rfl,h1,h2⟩|⟨b,rfl,rfl⟩|⟨s,rfl,rfl⟩|⟨x,c,l,rfl,rfl,_⟩
 ·have q:=kN;clear h;by_cases hm:m<0
  ·have e1:decide (m<0)=true:=decide_eq_true hm;go_enter Tryz.func382,Tryz.ntmps382;go_wp2_with fail;exact⟨rfl,rfl,Or.inr (Or.inl ⟨rfl,Or.inl hm,rfl⟩)⟩
  have e1:decide (m<0)=false:=decide_eq_false hm;by_cases hm2:(n:Int)≤m
  ·have e2:decide ((n:Int)≤m)=true:=decide_eq_true hm2;go_enter Tryz.func382,Tryz.ntmps382;go_wp2_with fail;exact⟨rfl,rfl,Or.inr (Or.inl ⟨rfl,Or.inr hm2,rfl⟩)⟩
  ·have e2:decide ((n:Int)≤m)=false:=decide_eq_false hm2;go_enter Tryz.func382,Tryz.ntmps382;go_wp2_with fail;go_ret;exact⟨rfl,Or.inr (Or.inr ⟨rfl,m.toNat,by omega,by show m=_;omega,by rw[Int.toNat_of_nonneg (by omega)];rfl⟩)⟩
 ·have q:=jQ;clear h;go_enter Tryz.func382,Tryz.ntmps382;go_wp2_with fail;exact⟨rfl,rfl,Or.inl ⟨by simp[bL],rfl⟩⟩
 ·have q:=kM;clear h;go_enter Tryz.func382,Tryz.ntmps382;go_wp2_with fail;exact⟨rfl,rfl,Or.inl ⟨by simp[bH],rfl⟩⟩
 ·have q:=jO;clear h;go_enter Tryz.func382,Tryz.ntmps382;go_wp2_with fail;exact⟨rfl,rfl,Or.inl ⟨by simp[aU],rfl⟩⟩
theorem IF(F:Nat→Prop)(x:Option Addr)(c:Nat)(l:List aI)(w:World)(h:PVs F w (.slice x l.length c) l)(hc:aJ (aU l)≤1000000000):
 Calls Tryz.prog 376 #[.slice x l.length c] w fun e w'=>w'=w∧((aJ (aU l)≤200∧e=.returned (.iface 319 (.slice x l.length c)))∨(200<aJ (aU l)∧e=fE 6)):=by
 have HX:=aB (lL F _ _ w (PV.lst h) hc);clear h;generalize aJ (aU l)=n at*;go_enter Tryz.func376,Tryz.ntmps376;go_wp2_with fail;refine HX.out.mono ?_;rintro e w1 ⟨rfl,⟨h2,rfl⟩|⟨h2,rfl⟩⟩
 ·go_wp2_with fail;go_ret;exact⟨rfl,Or.inl ⟨h2,rfl⟩⟩
 ·go_wp2_with fail;exact⟨rfl,rfl,Or.inr ⟨h2,rfl⟩⟩
noncomputable def EO(op:List UInt8)(a b:List UInt8):aI × Nat:=
 if op=[60] then (bL (fV a b),0)
 else if op=[60,61] then (bL (!fV b a),0)
 else if op=[43] then (if 200<aJ (bH (a++b)) then (bK,6) else (bH (a++b),0))
 else (bK,2)
theorem VG(op:List UInt8)(F:Nat→Prop)(a b:List UInt8)(w:World)(hab:a.length+b.length≤1000000):
 Calls Tryz.prog 391 #[.string (bs op),.string (bs a),.string (bs b)] w (kK F w (EO op a b)):=by
 have hbt:=bZ op;obtain⟨r,hr⟩:∃r,r=EO op a b:=⟨_,rfl⟩;rw[←hr];unfold EO at hr;by_cases o0:op=[60]
 ·rw[if_pos o0] at hr;have e0:((bs op).toList==[60])=true:=by rw[hbt,o0];rfl
  have HLE:Hid (Op.bytesLess (bs a).toList (bs b).toList=fV a b):=by show _=_;rw[bZ,bZ,sP]
  have HP:=aB hr;clear hbt hr o0;generalize fV a b=sl at*;go_enter Tryz.func391,Tryz.ntmps391;go_wp2_with fail;go_ret;exact kK.ok HP.out (by rw[←HLE.out];exact PV.tru F w _)
 rw[if_neg o0] at hr;have e0:((bs op).toList==[60])=false:=by rw[hbt];simpa using o0
 by_cases o1:op=[60,61]
 ·rw[if_pos o1] at hr;have e1:((bs op).toList==[60,61])=true:=by rw[hbt,o1];rfl
  have HLE:Hid ((Op.bytesLess (bs a).toList (bs b).toList || (bs a).toList==(bs b).toList)= !fV b a):=by show _=_;rw[bZ,bZ,sP,FW]
  have HP:=aB hr;clear hbt hr o0 o1;generalize fV b a=sl at*;go_enter Tryz.func391,Tryz.ntmps391;go_wp2_with fail;go_ret;exact kK.ok HP.out (by rw[←HLE.out];exact PV.tru F w _)
 rw[if_neg o1] at hr;have e1:((bs op).toList==[60,61])=false:=by rw[hbt];simpa using o1
 by_cases o2:op=[43]
 ·rw[if_pos o2] at hr;have e2:((bs op).toList==[43])=true:=by rw[hbt,o2];rfl
  have hcl:=jX (a++b);have HX:=aB (lL F (.iface 318 (.string (bs (a++b)))) _ w (PV.str F w (a++b)) (by rw[hcl,List.length_append];omega))
  have HP:=aB hr;have hbz:=gX;clear hbt hr o0 o1 o2 hcl;go_enter Tryz.func391,Tryz.ntmps391;go_wp2_with fail;refine HX.out.mono ?_;rintro e w1 ⟨rfl,⟨h2,rfl⟩|⟨h2,rfl⟩⟩
  ·have HQ:Hid (r=(bH (a++b),0)):=by show _=_;rw[HP.out,if_neg (by omega)]
   clear h2 HP;go_wp2_with fail;go_ret;exact kK.ok HQ.out (PV.str F w1 (a++b))
  ·have HQ:Hid (r=(bK,6)):=by show _=_;rw[HP.out,if_pos h2]
   clear h2 HP;go_wp2_with fail;exact⟨rfl,kK.stop HQ.out (by decide)⟩
 ·rw[if_neg o2] at hr;have e2:((bs op).toList==[43])=false:=by rw[hbt];simpa using o2
  have HP:=aB hr;clear hbt hr o0 o1 o2;go_enter Tryz.func391,Tryz.ntmps391;go_wp2_with fail;exact⟨rfl,kK.stop HP.out (by decide)⟩
theorem mA:(Tryz.prog.info? 256).map (fun i=>(i.zero,i.size,i.bytes))=some (some .nilIface,1,16):=by kernel_rfl
theorem uX{P:Program}(w:World)(t u ty e:TypeId)(i:TypeInfo)(z:Value)(ht:P.underlying t=some (.slice e))(hu:P.underlying u=some (.int .i64))(hi:P.info? e=some i)(hz:i.zero=some z)(h1:i.size=1)
 (n:Nat) (h0:0<n) (hn:n≤1000000000) (hb:i.bytes≤64):
 (Builtin.append_ #[t,u] ty #[.slice none 0 0,.int .i64 n]).run P w=
   .ok (.slice (some ⟨w.heap.size,0,none⟩) n (grownCap w n 0 e)) (w.drew.alloc (.cells (Builtin.zeroCells z.cells n++Builtin.zeroCells z.cells (grownCap w n 0 e-n)) e)):=by
 have hn0:n≠0:=by omega
 have hmul:n*i.bytes≤1000000000*64:=Nat.mul_le_mul hn hb;have h48:¬(281474976710656<Builtin.nextslicecap n 0*i.bytes):=by rw[nextslicecap_zero h0];omega
 have h63:¬(9223372036854775807<(n:Int)):=by omega
 have hw:IntKind.i64.wrap (n:Int)=n:=by
  rw[IntKind.wrap_i64];omega
 have h48':¬(281474976710656<(n:Int)*(i.bytes:Int)):=by
  have:((n*i.bytes:Nat):Int)≤64000000000:=by omega
  rw[Int.natCast_mul] at this;omega
 have hlt0:¬((n:Int)<0):=by omega
 have hmax:max (n:Int) 0=n:=by omega
 simp[Builtin.append_,run_underlying ht,run_underlying hu,sizeOf,typeInfo,zeroValue,hi,hz,h1,hw,asInt,asIntOf,hlt0,hmax,hn0,h63,h48,h48',Question.forced,run_firstCells_none,newRow,grownCap]
theorem qR{P:Program}{w:World}{ops:Array Oper}{rest:List Oper}{o:Oper}{a:Act}{Q:Exit→Act→World→Prop}(hgd:o.guard=none)(s x:Operand)(t u:TypeId)
 (ho:o.op=.call { callee:=.builtin .append,args:= #[s,x],argTypes:= #[t,u] })
 (e:TypeId) (i:TypeInfo) (z:Value) (ht:P.underlying t=some (.slice e)) (hu:P.underlying u=some (.int .i64)) (hi:P.info? e=some i) (hz:i.zero=some z) (h1:i.size=1)
 (n:Nat) (h0:0<n) (hn:n≤1000000000) (hb:i.bytes≤64) (hs:a.eval s=.slice none 0 0) (hx:a.eval x=.int .i64 n)
 (h:wpList P ops Q rest (a.put o.dst (.slice (some ⟨w.heap.size,0,none⟩) n (grownCap w n 0 e))) (w.drew.alloc (.cells (Builtin.zeroCells z.cells n++Builtin.zeroCells z.cells (grownCap w n 0 e-n)) e))):wpList P ops Q (o::rest) a w:=by
 refine wpList_plain hgd fun K hK=>?_
 have hrun:=uX (P:=P) w t u o.type e i z ht hu hi hz h1 n h0 hn hb;unfold Oper.wp;simp[execOp,ho,resolve,invoke,builtin,hs,hx,hrun,Result.andThen];exact hK _ _ h
theorem VN(n:Nat)(hn:n≤1000000)(w:World):
 Calls Tryz.prog 395 #[.slice none 0 0,.int .i64 n] w fun e w'=>∃v,e=.returned v∧w'.ownsRow w.heap.size 256 1 v 0 []∧Below w.heap.size w w':=by
 obtain⟨i0,hi,hz0,hz1,hz2⟩:=info_parts mA;rcases Nat.eq_zero_or_pos n with rfl|hp
 ·go_enter Tryz.func395,Tryz.ntmps395;go_wp2_with fail;go_ret;exact⟨_,rfl,World.ownsRow_nil _ _ _ _,Below.refl _ _⟩
 ·have e1:decide ((n:Int)<0)=false:=decide_eq_false (by omega)
  have e2:decide ((0:Int)<(n:Int))=true:=decide_eq_true (by omega)
  have hcap:=grownCap_ge w n 0 256;have hcm:=grownCap_le_maxLen w n 0 256 (by unfold maxLen;omega)
  generalize hgc:grownCap w n 0 256=cap at hcap hcm;have HGC:=aB hgc;clear hgc;go_enter Tryz.func395,Tryz.ntmps395;go_wp2_with (at_builtin;refine qR (by rfl) _ _ 319 3 (by rfl) 256 i0 .nilIface Tryz.underlying319 Tryz.underlying3 hi hz0 hz1 n hp (by omega) (by omega) (by rfl) (by rfl) ?_;rw[HGC.out])
  go_ret;refine⟨_,rfl,⟨rfl,Or.inr ⟨w.heap.size,cap,_,rfl,Nat.le_refl _,aR _ _ rfl _,Nat.zero_le _,hcm,?_,rfl⟩⟩,?_⟩
  ·rw[Array.size_append,size_zeroCells,size_zeroCells];simp;omega
  ·exact((Below.refl _ _).drew).alloc (by simp) _
def fR(F:Nat→Prop)(w:World)(xs:List Value)(l:List aI):Prop:=xs.length=l.length∧∀i (h:i<l.length),∃u,xs[i]?=some u∧PV F w u l[i]
theorem fR.nil(F:Nat→Prop)(w:World):fR F w [] []:=⟨rfl,fun i h=>by simp at h⟩
theorem fR.keep{F:Nat→Prop}{w w':World}{xs:List Value}{l:List aI}(h:fR F w xs l)(hk:∀b,F b→w'.heap[b]?=w.heap[b]?):fR F w' xs l:=
 ⟨h.1,fun i hi=>by obtain⟨u,h1,h2⟩:=h.2 i hi;exact⟨u,h1,h2.keep hk⟩⟩
theorem fR.mono{F G:Nat→Prop}{w:World}{xs:List Value}{l:List aI}(h:fR F w xs l)(hF:∀b,F b→G b):fR G w xs l:=
 ⟨h.1,fun i hi=>by obtain⟨u,h1,h2⟩:=h.2 i hi;exact⟨u,h1,h2.mono hF⟩⟩
theorem fR.append{F:Nat→Prop}{w:World}{xs ys:List Value}{l m:List aI}(h:fR F w xs l)(k:fR F w ys m):fR F w (xs++ys) (l++m):=by
 refine⟨by simp[h.1,k.1],fun i hi=>?_⟩
 rcases Nat.lt_or_ge i l.length with h1|h1
 ·obtain⟨u,e1,e2⟩:=h.2 i h1;exact⟨u,by rw[List.getElem?_append_left (by rw[h.1];exact h1)];exact e1,by rw[List.getElem_append_left h1];exact e2⟩
 ·have h2:i-l.length<m.length:=by simp at hi;omega
  obtain⟨u,e1,e2⟩:=k.2 _ h2;exact⟨u,by rw[List.getElem?_append_right (by rw[h.1];exact h1),h.1];exact e1,by rw[List.getElem_append_right h1];exact e2⟩
theorem PVs.row{F:Nat→Prop}{w:World}{sv:Value}{l:List aI}(h:PVs F w sv l):(l=[]∧sv=.slice none 0 0)∨∃g cap xs,sv=.slice (some ⟨g,0,none⟩) l.length cap∧F g∧g<w.heap.size∧fR F w xs l∧∀j u,xs[j]?=some u→w.cell? ⟨g,j,none⟩=some u:=by
 rcases h with h|⟨g,cap,cur,h1,h2,h3,h4,h5⟩
 ·exact Or.inl h
 ·have hsz:l.length≤cur.size:=by
   rcases Nat.eq_zero_or_pos l.length with h0|h0
   ·omega
   ·obtain⟨u,e1,_⟩:=h5 (l.length-1) (by omega)
    have:=(Array.getElem?_eq_some_iff.1 e1).1;omega
  refine Or.inr ⟨g,cap,cur.toList.take l.length,h1,h2,aD h3,⟨by simp;omega,fun i hi=>?_⟩,fun j u hj=>?_⟩
  ·obtain⟨u,e1,e2⟩:=h5 i hi;exact⟨u,by rw[List.getElem?_take,if_pos hi];simpa using e1,e2⟩
  ·rw[List.getElem?_take] at hj;split at hj
   ·exact aA h3 (by simpa using hj)
   ·cases hj
theorem PVs.ofRow{F:Nat→Prop}{w:World}{base:Nat}{v:Value}{xs:List Value}{l:List aI}(h:w.ownsRow base 256 1 v l.length xs)(hr:fR F w xs l)(hF:∀k,v.ownBlock=some k→F k):PVs F w v l:=by
 rcases h.2 with ⟨r1,r2⟩|⟨g,cap,cur,r1,r2,r3,r4,r5,r6,r7⟩
 ·exact Or.inl ⟨List.eq_nil_of_length_eq_zero r2,r1⟩
 ·refine Or.inr ⟨g,cap,cur,r1,hF g (by rw[r1];rfl),r3,r4,fun i hi=>?_⟩
  obtain⟨u,e1,e2⟩:=hr.2 i hi;refine⟨u,?_,e2⟩;rw[←r7,List.getElem?_take,if_pos (by omega)] at e1
  simpa using e1
theorem nG{F:Nat→Prop}{w:World}{xs:List Value}{l:List aI}(h:fR F w xs l):∀u∈xs,u.oneCell'=true:=by
 intro u hu;obtain⟨j,hj,rfl⟩:=List.mem_iff_getElem.1 hu;obtain⟨u',e1,e2⟩:=h.2 j (by rw[←h.1];exact hj)
 rw[List.getElem?_eq_getElem hj] at e1;cases e1;obtain⟨t,z,e⟩:=e2.form;rw[e];rfl
theorem BZ{ops:Array Oper}{rest:List Oper}{o:Oper}{a:Act}{Q:Exit→Act→World→Prop}{w:World}(hgd:o.guard=none)(s x:Operand)(t:TypeId)(ht:Tryz.prog.underlying t=some (.slice 256))
 (ho:o.op=.call { callee:=.builtin .append,args:= #[s,x],argTypes:= #[t,t] })
 (base:Nat) (v:Value) (l m:List aI) (xs:List Value) (F:Nat→Prop) (hs:a.eval s=v) (hown:w.ownsRow base 256 1 v l.length xs) (hr:fR F w xs l)
 (sv:Value) (hx:a.eval x=sv) (hm:PVs F w sv m) (hF:∀b,F b→b<w.heap.size∧v.ownBlock≠some b) (hlen:l.length+m.length≤1000000000) (hbase:base≤w.heap.size)
 (h:∀v' w' ys,w'.ownsRow base 256 1 v' (l++m).length ys→fR F w' ys (l++m)→w.grownBy w' v.ownBlock→wpList Tryz.prog ops Q rest (a.put o.dst v') w'):
 wpList Tryz.prog ops Q (o::rest) a w:=by
 obtain⟨i0,hi,hz0,hz1,hz2⟩:=info_parts mA;rcases hm.row with ⟨rfl,rfl⟩|⟨g,cap,ys,rfl,hg,hgl,hrow,hcell⟩
 ·refine wpList_append_own_none hgd s x t ho base 256 i0 1 ht hi v l.length xs hs hown hx ?_;exact h v w xs (by simpa using hown) (by simpa using hr) ⟨rfl,rfl,rfl,Nat.le_refl _,fun _ _ _=>rfl⟩
 ·refine wpList_append_own _ hgd s x t ho base 256 i0 _ 1 16 ht hi hz0 hz1 hz2 rfl (by decide) v l.length xs hs hown ⟨g,0,none⟩ m.length cap ys hx (by rw[hrow.1];omega) (fun j u hj=>by rw[Addr.add_lit,Nat.zero_add];exact hcell j u hj) (nG hrow) (by unfold maxLen;omega) (by omega) hbase ?_
  intro v' w' hown' hgrow _;have hk:∀b,F b→w'.heap[b]?=w.heap[b]?:=fun b hb=>hgrow.block b (hF b hb).1 (fun e=>(hF b hb).2 e.symm)
  exact h v' w' (xs++ys) (by rw[List.length_append];exact hown') ((hr.keep hk).append (hrow.keep hk)) hgrow
def mY(F:Nat→Prop)(w:World)(ls:List aI)(v:Value)(wr:World):Prop:=
 ∃ys,wr.ownsRow w.heap.size 256 1 v ls.length ys∧fR F wr ys ls∧Below w.heap.size w wr
theorem mY.step{F:Nat→Prop}{w wr w':World}{ls m:List aI}{v v':Value}{ys:List Value}(h:mY F w ls v wr)(ho:w'.ownsRow w.heap.size 256 1 v' (ls++m).length ys)(hr:fR F w' ys (ls++m))(hg:wr.grownBy w' v.ownBlock):mY F w (ls++m) v' w':=by
 obtain⟨zs,h1,h2,h3⟩:=h;refine⟨ys,ho,hr,h3.grown hg h3.size fun k hk=>?_⟩
 exact bX h1 k hk
theorem cP{w:World}{base n k:Nat}{t:TypeId}{v:Value}{ys:List Value}(h:w.ownsRow base t k v n ys):∃x c,v=.slice x n c:=by
 rcases h.2 with ⟨r1,r2⟩|⟨g,cap,cur,r1,_⟩
 ·exact⟨none,0,by rw[r1,r2]⟩
 ·exact⟨_,_,r1⟩
theorem LQ(F:Nat→Prop)(b:Nat)(x y:Option Addr)(c d:Nat)(l m:List aI)(w:World)(hb:w.heap[b]?=some (.cells #[.slice x l.length c,.slice y m.length d] 319 (0,0)))(hl:PVs F w (.slice x l.length c) l)(hm:PVs F w (.slice y m.length d) m)(hF:∀k,F k→k<w.heap.size)(hlm:l.length+m.length≤1000000):
 Calls Tryz.prog 394 #[.slice (some ⟨b,0,none⟩) 2 2] w fun e w'=>∃v',e=.returned v'∧mY F w (l++m) v' w':=by
 have hbl:=aD hb;have c0:=aA hb (i:=0) rfl;have c1:=aA hb (i:=1) rfl;have HL:=aB hl;have HM:=aB hm;have HF:=aB hF;have HG:=aB (VN (l.length+m.length) (by omega) w)
 have HB:=aB hb;clear hl hm hF hb;go_enter Tryz.func394,Tryz.ntmps394;go_wp2_with fail;go_loopg [3,5,11] 2 (fun gk s _ i wr=>wr=w∧((gk=2∧i=.int .i64 0∧s=.int .i64 0)∨(gk=1∧i=.int .i64 1∧s=.int .i64 (l.length:Nat))∨(gk=0∧i=.int .i64 2∧s=.int .i64 ((l.length+m.length:Nat):Int))))
 case atStart=>exact⟨rfl,Or.inl ⟨rfl,rfl,rfl⟩⟩
 case round=>
  obtain⟨hw,hrel⟩:=hrel;obtain rfl:=hw.symm;rcases hrel with ⟨rfl,rfl,rfl⟩|⟨rfl,rfl,rfl⟩|⟨rfl,rfl,rfl⟩
  ·have e:decide ((l.length:Int)<0)=false:=decide_eq_false (by omega)
   go_wp2_with fail;go_roundg 1
   case measure=>omega
   case rel=>exact⟨rfl,Or.inr (Or.inl ⟨rfl,rfl,rfl⟩)⟩
  ·have e:decide ((l.length:Int)+(m.length:Int)<0)=false:=decide_eq_false (by omega)
   go_wp2_with fail;go_roundg 0
   case measure=>omega
   case rel=>exact⟨rfl,Or.inr (Or.inr ⟨rfl,rfl,by simp⟩)⟩
  ·go_wp2_with fail;refine HG.out.mono ?_;rintro e w1 ⟨v1,rfl,hown1,hb1⟩
   obtain⟨x1,c1',rfl⟩:∃x c,v1=.slice x 0 c:=by
    rcases hown1.2 with ⟨r1,_⟩|⟨g,cap,cur,r1,_⟩
    ·exact⟨none,0,r1⟩
    ·exact⟨_,_,r1⟩
   have HI:Hid (mY F w [] (.slice x1 0 c1') w1):=⟨[],hown1,fR.nil _ _,hb1⟩;clear hown1 hb1 HG c0 c1;go_wp2_with fail;go_loopg [6,8,27] 2 (fun gk s _ i wq=>(gk=2∧i=.int .i64 0∧mY F w [] s wq)∨(gk=1∧i=.int .i64 1∧mY F w l s wq)∨(gk=0∧i=.int .i64 2∧mY F w (l++m) s wq))
   case atStart=>exact Or.inl ⟨rfl,rfl,HI.out⟩
   case round=>
    rcases hrel with ⟨rfl,rfl,hc⟩|⟨rfl,rfl,hc⟩|⟨rfl,rfl,hc⟩
    ·have hcs:=hc;obtain⟨ys,ho,hr,hbw⟩:=hc;obtain⟨sx,sc,rfl⟩:=cP ho;have c0:wr.cell? ⟨b,0,none⟩=some (.slice x l.length c):=aA ((hbw.block b hbl).trans HB.out) rfl;have c1:wr.cell? ⟨b,1,none⟩=some (.slice y m.length d):=aA ((hbw.block b hbl).trans HB.out) rfl;have hblr:b<wr.heap.size:=Nat.lt_of_lt_of_le hbl hbw.size;have HO:=aB ho;have HR:=aB hr;have HBW:=aB hbw;have HCS:=aB hcs;have HMM:=aB (HL.out.keep (w':=wr) fun k hk=>hbw.block k (HF.out k hk))
     have HFF:Hid (∀k,F k→k<wr.heap.size∧(Value.slice sx ([]:List aI).length sc).ownBlock≠some k):=fun k hk=>⟨Nat.lt_of_lt_of_le (HF.out k hk) hbw.size,fun e=>by have:=bX ho k e;have:=HF.out k hk;omega⟩
     clear ho hr hbw hcs HI;go_wp2_with (at_builtin;refine BZ (by rfl) _ _ 319 Tryz.underlying319 (by rfl) w.heap.size (.slice sx ([]:List aI).length sc) ([]:List aI) l ys F (by rfl) HO.out HR.out _ (by rfl) HMM.out HFF.out (by first|omega|(simp;omega)) HBW.out.size ?_)
     intro v' w' ys' ho' hr' hg';have HI2:Hid (mY F w (([]:List aI)++l) v' w'):=HCS.out.step (by first|exact ho'|(rw[List.length_append];exact ho')) hr' hg'
     obtain⟨x',c',rfl⟩:=cP ho';clear ho' hr' hg' HO HR HMM HFF HBW HCS;go_wp2_with fail;go_roundg 1
     case measure=>omega
     case rel=>exact Or.inr (Or.inl ⟨rfl,rfl,by simpa using HI2.out⟩)
    ·have hcs:=hc;obtain⟨ys,ho,hr,hbw⟩:=hc;obtain⟨sx,sc,rfl⟩:=cP ho;have c0:wr.cell? ⟨b,0,none⟩=some (.slice x l.length c):=aA ((hbw.block b hbl).trans HB.out) rfl;have c1:wr.cell? ⟨b,1,none⟩=some (.slice y m.length d):=aA ((hbw.block b hbl).trans HB.out) rfl;have hblr:b<wr.heap.size:=Nat.lt_of_lt_of_le hbl hbw.size;have HO:=aB ho;have HR:=aB hr;have HBW:=aB hbw;have HCS:=aB hcs;have HMM:=aB (HM.out.keep (w':=wr) fun k hk=>hbw.block k (HF.out k hk))
     have HFF:Hid (∀k,F k→k<wr.heap.size∧(Value.slice sx (l).length sc).ownBlock≠some k):=fun k hk=>⟨Nat.lt_of_lt_of_le (HF.out k hk) hbw.size,fun e=>by have:=bX ho k e;have:=HF.out k hk;omega⟩
     clear ho hr hbw hcs HI;go_wp2_with (at_builtin;refine BZ (by rfl) _ _ 319 Tryz.underlying319 (by rfl) w.heap.size (.slice sx (l).length sc) (l) m ys F (by rfl) HO.out HR.out _ (by rfl) HMM.out HFF.out (by first|omega|(simp;omega)) HBW.out.size ?_)
     intro v' w' ys' ho' hr' hg';have HI2:Hid (mY F w (l++m) v' w'):=HCS.out.step (by first|exact ho'|(rw[List.length_append];exact ho')) hr' hg'
     obtain⟨x',c',rfl⟩:=cP ho';clear ho' hr' hg' HO HR HMM HFF HBW HCS;go_wp2_with fail;go_roundg 0
     case measure=>omega
     case rel=>exact Or.inr (Or.inr ⟨rfl,rfl,HI2.out⟩)
    ·have HC:=aB hc;obtain⟨ys,ho,_⟩:=hc;obtain⟨sx,sc,rfl⟩:=cP ho;clear ho HI;go_wp2_with fail;go_ret;exact⟨_,rfl,HC.out⟩
def eH(F:Nat→Prop)(w:World)(r:aI × Nat)(e:Ending)(w':World):Prop:=Below w.heap.size w w'∧((r.2=0∧∃u,e=.returned u∧PV (Grow F w w') w' u r.1)∨(r.2≠0∧e=fE r.2))
theorem eH.ok{F:Nat→Prop}{w w':World}{r:aI × Nat}{u:Value}{a:aI}(hb:Below w.heap.size w w')(hr:r=(a,0))(h:PV (Grow F w w') w' u a):eH F w r (.returned u) w':=by subst hr;exact⟨hb,Or.inl ⟨rfl,u,rfl,h⟩⟩
theorem eH.stop{F:Nat→Prop}{w w':World}{r:aI × Nat}{a:aI}{k:Nat}(hb:Below w.heap.size w w')(hr:r=(a,k))(hk:k≠0):eH F w r (fE k) w':=by subst hr;exact⟨hb,Or.inr ⟨hk,rfl⟩⟩
noncomputable def vA(op:List UInt8)(l m:List aI):aI × Nat:=if op=[43] then (if 200<aJ (aU (l++m)) then (bK,6) else (aU (l++m),0)) else (bK,2)
theorem QH(op:List UInt8)(F:Nat→Prop)(x y:Option Addr)(c d:Nat)(l m:List aI)(w:World)(hl:PVs F w (.slice x l.length c) l)(hm:PVs F w (.slice y m.length d) m)(hF:∀k,F k→k<w.heap.size)(hc:aJ (aU l)+aJ (aU m)≤1000000):
 Calls Tryz.prog 392 #[.string (bs op),.slice x l.length c,.slice y m.length d] w (eH F w (vA op l m)):=by
 have hbt:=bZ op;obtain⟨r,hr⟩:∃r,r=vA op l m:=⟨_,rfl⟩;rw[←hr];unfold vA at hr;by_cases o0:op=[43]
 ·rw[if_pos o0] at hr;have e0:((bs op).toList==[43])=true:=by rw[hbt,o0];rfl
  have e0':((bs op).toList != [43])=false:=by rw[hbt,o0];rfl
  have hll:=iS l;have hlm:=iS m;rw[iC,iC] at hc;have hcl:aJ (aU (l++m))=1+((l.map aJ).sum+(m.map aJ).sum):=by rw[iC,List.map_append,List.sum_append]
  have hb0:Below w.heap.size w (w.alloc (.cells #[.slice x l.length c,.slice y m.length d] 319)):=(Below.refl _ _).alloc (Nat.le_refl _) _;have HX:=aB (LQ F w.heap.size x y c d l m (w.alloc (.cells #[.slice x l.length c,.slice y m.length d] 319)) (aR _ _ rfl _) (hl.keep fun k hk=>hb0.block k (hF k hk)) (hm.keep fun k hk=>hb0.block k (hF k hk)) (fun k hk=>Nat.lt_of_lt_of_le (hF k hk) hb0.size) (by omega))
  have HB0:=aB hb0;have HP:=aB hr;clear hbt hr o0 hl hm hF hb0;go_enter Tryz.func392,Tryz.ntmps392;go_wp2_with fail;refine HX.out.mono ?_;rintro e w1 ⟨v1,rfl,ys,ho,hrw,hb1⟩;obtain⟨x1,c1,rfl⟩:=cP ho;have hb01:=HB0.out.trans (hb1.mono HB0.out.size);have hpv:PVs (Grow F w w1) w1 (.slice x1 (l++m).length c1) (l++m):=PVs.ofRow ho (hrw.mono fun k hk=>Or.inl hk) fun k hk=>Or.inr ⟨by have:=bX ho k hk;have:=HB0.out.size;omega,cG ho k hk⟩
  have HY:=aB (lL (Grow F w w1) _ _ w1 (PV.lst hpv) (by omega))
  have HPV:=aB hpv;have HB1:=aB hb01;clear ho hrw hb1 hb01 hpv HX;generalize (l++m).length=n at*;go_wp2_with fail;refine HY.out.mono ?_;rintro e w2 ⟨rfl,⟨h2,rfl⟩|⟨h2,rfl⟩⟩
  ·have HQ:Hid (r=(aU (l++m),0)):=by show _=_;rw[HP.out,if_neg (by omega)]
   clear h2 HP;go_wp2_with fail;go_ret;exact eH.ok HB1.out HQ.out (PV.lst HPV.out)
  ·have HQ:Hid (r=(bK,6)):=by show _=_;rw[HP.out,if_pos h2]
   clear h2 HP;go_wp2_with fail;exact⟨rfl,eH.stop HB1.out HQ.out (by decide)⟩
 ·rw[if_neg o0] at hr;have e0:((bs op).toList==[43])=false:=by rw[hbt];simpa using o0
  have e0':((bs op).toList != [43])=true:=by rw[hbt];simpa using o0
  have HP:=aB hr;clear hbt hr o0 hl hm hF;go_enter Tryz.func392,Tryz.ntmps392;go_wp2_with fail;exact⟨rfl,eH.stop (Below.refl _ _) HP.out (by decide)⟩
theorem gZ{w:World}{a:Addr}{v:Value}(o:Obj)(h:w.cell? a=some v):(w.alloc o).cell? a=some v:=by
 have hlt:=World.block_lt_of_cell? w a h;rw[←h];exact World.cell?_of_block (Below.heap_alloc _ _ _ hlt)
theorem DY(g off n c:Nat)(news:List Value)(w:World)(hl:news.length=n*1)(hn:n≤1000000)(hc:∀j u,news[j]?=some u→w.cell? ⟨g,off+j,none⟩=some u)(h1:∀u∈news,u.oneCell'=true):
 Calls Tryz.prog 407 #[.slice (some ⟨g,off,none⟩) n c] w fun e w'=>∃v',e=.returned v'∧w'.ownsRow w.heap.size 256 1 v' n news∧Below w.heap.size w w':=by
 obtain⟨i0,hi,hz0,hz1,hz2⟩:=info_parts mA;have HC:=aB hc;clear hc;have q22:∀(w:World) (a:Option Addr) (n c n' c':Nat),(binOp .eql 319 (.slice a n c) (.slice none n' c')).run Tryz.prog w=.ok (.bool a.isNone) w:=fun w a n c n' c'=>Lib.run_eql_slice_nil w _ _ a n c n' c' Tryz.underlying319
 go_enter Tryz.func407,Tryz.ntmps407;go_wp2_with (at_builtin;refine wpList_append_own _ (by rfl) _ _ 319 (by rfl) w.heap.size 256 i0 _ 1 16 Tryz.underlying319 hi hz0 hz1 hz2 rfl (by decide) (.slice (some ⟨w.heap.size,0,none⟩) 0 0) 0 [] (by rfl) (World.ownsRow_made w #[] 0 (Nat.le_refl _) (Nat.zero_le _) (by simp)) ⟨g,off,none⟩ n c news (by rfl) hl (fun j u hj=>by rw[Addr.add_lit];exact gZ _ (HC.out j u hj)) h1 (by unfold maxLen;omega) (by omega) (by simp) ?_)
 intro v' w1 hown hgrow _;have HO:=aB hown;have HG:=aB hgrow;obtain⟨x',c',rfl⟩:=cP hown;clear hown hgrow;go_wp2_with fail;go_ret;refine⟨_,rfl,by simpa using HO.out,?_⟩
 exact((Below.refl _ w).alloc (Nat.le_refl _) _).grown HG.out (by simp) (by intro k hk;simp[Value.ownBlock] at hk;omega)
theorem rH(g off n c:Nat)(news:List Value)(w:World)(hl:news.length=n*1)(hn:n≤1000000)(hc:∀j u,news[j]?=some u→w.cell? ⟨g,off+j,none⟩=some u)(h1:∀u∈news,u.oneCell'=true):
 Calls Tryz.prog 282 #[.slice (some ⟨g,off,none⟩) n c] w fun e w'=>∃v',e=.returned v'∧w'.ownsRow w.heap.size 256 1 v' n news∧Below w.heap.size w w':=by
 obtain⟨i0,hi,hz0,hz1,hz2⟩:=info_parts mA;have HC:=aB hc;clear hc;have q22:∀(w:World) (a:Option Addr) (n c n' c':Nat),(binOp .eql 193 (.slice a n c) (.slice none n' c')).run Tryz.prog w=.ok (.bool a.isNone) w:=fun w a n c n' c'=>Lib.run_eql_slice_nil w _ _ a n c n' c' Tryz.underlying193
 go_enter Tryz.func282,Tryz.ntmps282;go_wp2_with (at_builtin;refine wpList_append_own _ (by rfl) _ _ 193 (by rfl) w.heap.size 256 i0 _ 1 16 Tryz.underlying193 hi hz0 hz1 hz2 rfl (by decide) (.slice (some ⟨w.heap.size,0,none⟩) 0 0) 0 [] (by rfl) (World.ownsRow_made w #[] 0 (Nat.le_refl _) (Nat.zero_le _) (by simp)) ⟨g,off,none⟩ n c news (by rfl) hl (fun j u hj=>by rw[Addr.add_lit];exact gZ _ (HC.out j u hj)) h1 (by unfold maxLen;omega) (by omega) (by simp) ?_)
 intro v' w1 hown hgrow _;have HO:=aB hown;have HG:=aB hgrow;obtain⟨x',c',rfl⟩:=cP hown;clear hown hgrow;go_wp2_with fail;go_ret;refine⟨_,rfl,by simpa using HO.out,?_⟩
 exact((Below.refl _ w).alloc (Nat.le_refl _) _).grown HG.out (by simp) (by intro k hk;simp[Value.ownBlock] at hk;omega)
theorem rG(w:World):
 Calls Tryz.prog 282 #[.slice none 0 0] w fun e w'=>e=.returned (.slice none 0 0)∧w'=w:=by
 have q22:∀(w:World) (a:Option Addr) (n c n' c':Nat),(binOp .eql 193 (.slice a n c) (.slice none n' c')).run Tryz.prog w=.ok (.bool a.isNone) w:=fun w a n c n' c'=>Lib.run_eql_slice_nil w _ _ a n c n' c' Tryz.underlying193
 go_enter Tryz.func282,Tryz.ntmps282;go_wp2_with fail;go_ret;exact⟨rfl,rfl⟩
def O7(F:Nat→Prop)(w:World)(sv:Value)(l:List aI):Prop:=
 (l=[]∧∃x c,sv=.slice x 0 c)∨∃g o c,sv=.slice (some ⟨g,o,none⟩) l.length c∧l.length≤c∧g<w.heap.size∧∀i (h:i<l.length),∃u,w.cell? ⟨g,o+i,none⟩=some u∧PV F w u l[i]
theorem tU{i:aI}{at':List aI}{a b:aI}:cF (i::at') a b=if a.sort≠3∨i.sort≠0 then (bK,2) else if i.n<0∨(a.l.length:Int)≤i.n then (bK,4) else if (cF at' (a.l.getD i.n.toNat bK) b).2≠0 then (bK,(cF at' (a.l.getD i.n.toNat bK) b).2) else (aU (a.l.set i.n.toNat (cF at' (a.l.getD i.n.toNat bK) b).1),0):=by
 rw[cF]
theorem J4{w:World}{base n g cap k:Nat}{t:TypeId}{ys:List Value}{u:Value}(h:w.ownsRow base t 1 (.slice (some ⟨g,0,none⟩) n cap) n ys)(_hk:k<n):
 (w.setCell ⟨g,k,none⟩ u).ownsRow base t 1 (.slice (some ⟨g,0,none⟩) n cap) n (ys.set k u):=by
 rcases h.2 with ⟨r1,_⟩|⟨g',cap',cur,r1,r2,r3,r4,r5,r6,r7⟩
 ·cases r1
 ·cases r1;refine⟨by rw[List.length_set];exact h.1,Or.inr ⟨g,cap,cur.setIfInBounds k u,rfl,r2,?_,r4,r5,by simpa using r6,?_⟩⟩
  ·rw[aQ r3]
  ·rw[←r7,Array.toList_setIfInBounds,List.take_set]
theorem fR.set{F:Nat→Prop}{w:World}{xs:List Value}{l:List aI}{u:Value}{a:aI}(h:fR F w xs l)(k:Nat)(hu:PV F w u a):fR F w (xs.set k u) (l.set k a):=by
 refine⟨by simp[h.1],fun i hi=>?_⟩
 rw[List.length_set] at hi;by_cases hk:k=i
 ·subst hk;exact⟨u,by rw[List.getElem?_set_self (by rw[h.1];exact hi)],by rw[List.getElem_set_self];exact hu⟩
 ·obtain⟨v,e1,e2⟩:=h.2 i hi;exact⟨v,by rw[List.getElem?_set_ne hk];exact e1,by rw[List.getElem_set_ne hk];exact e2⟩
theorem ZN{F:Nat→Prop}{w w1 w2:World}{g1 c1 k:Nat}{xs:List Value}{m:List aI}{t2:TypeId}{u2:Value}{rk:aI}{r:aI × Nat}(hb1:Below w.heap.size w w1)(hb2:Below w1.heap.size w1.drew w2)
 (hown:w1.ownsRow w.heap.size 256 1 (.slice (some ⟨g1,0,none⟩) m.length c1) m.length xs) (hr:fR F w xs m) (hp:PV (Grow F w1.drew w2) w2 (.iface t2 u2) rk) (hq:r=(aU (m.set k rk),0)) (hF:∀q,F q→q<w.heap.size) (hk:k<m.length):
 eH F w r (.returned (.iface 319 (.slice (some ⟨g1,0,none⟩) m.length c1))) (w2.setCell ⟨g1,k,none⟩ (.iface t2 u2)):=by
 have hg1:w.heap.size≤g1:=bX hown g1 rfl;have hg1l:g1<w1.heap.size:=cG hown g1 rfl;have hb2':Below w1.heap.size w1 w2:=((Below.refl _ w1).drew).trans hb2;have h12:w1.heap.size≤w2.heap.size:=hb2'.size;have h01:w.heap.size≤w1.heap.size:=hb1.size;have hb:Below w.heap.size w w2:=hb1.trans (hb2'.mono hb1.size);have hb3:Below w.heap.size w (w2.setCell ⟨g1,k,none⟩ (.iface t2 u2)):=hb.setCell hg1 _;have ho2:w2.ownsRow w.heap.size 256 1 (.slice (some ⟨g1,0,none⟩) m.length c1) m.length xs:=aY hown fun q hq=>hb2'.block q (cG hown q hq)
 have ho3:=J4 (u:=.iface t2 u2) ho2 hk;have hsz:(w2.setCell ⟨g1,k,none⟩ (.iface t2 u2)).heap.size=w2.heap.size:=by simp
 refine eH.ok hb3 hq (PV.lst ?_);have hlen:(m.set k rk).length=m.length:=List.length_set;have:=PVs.ofRow (F:=Grow F w (w2.setCell ⟨g1,k,none⟩ (.iface t2 u2))) (l:=m.set k rk) (by rw[hlen];exact ho3) ?_ ?_
 ·exact this
 ·refine fR.set ((hr.keep fun q hq=>hb3.block q (hF q hq)).mono fun q hq=>Or.inl hq) k ?_
  refine(hp.keep fun q hq=>?_).mono fun q hq=>?_
  ·refine Below.heap_setCell _ _ _ _ ?_;show q≠g1
   rcases hq with hq|⟨hq,_⟩
   ·have:=hF q hq;omega
   ·have:w1.heap.size≤q:=hq;omega
  ·rcases hq with hq|⟨hq,hq'⟩
   ·exact Or.inl hq
   ·refine Or.inr ⟨?_,by rw[hsz];exact hq'⟩
    have:w1.heap.size≤q:=hq;omega
 ·intro q hq;obtain rfl:g1=q:=Option.some.inj hq;exact Or.inr ⟨hg1,by rw[hsz];omega⟩
def qP(F:Nat→Prop)(l:List aI):Prop:=∀(sv u v:Value) (a b:aI) (w:World),O7 F w sv l→PV F w u a→PV F w v b→(∀k,F k→k<w.heap.size)→aJ a≤400000→l.length≤1000000→
 Calls Tryz.prog 406 #[u,sv,v] w (eH F w (cF l a b))
theorem JP(F:Nat→Prop):qP F []:=by
 intro sv u v a b w hi hu hv hF hc hl
 obtain⟨x,c,rfl⟩:∃x c,sv=.slice x 0 c:=by
  rcases hi with ⟨_,x,c,h⟩|⟨g,o,c,h,_⟩
  ·exact⟨x,c,h⟩
  ·exact⟨_,_,h⟩
 have HV:=aB hv;obtain⟨t,z,rfl⟩:=hu.form;obtain⟨t',z',rfl⟩:=hv.form;clear hi hu hv hF;go_enter Tryz.func406,Tryz.ntmps406;go_wp2_with fail;go_ret;exact eH.ok (Below.refl _ _) rfl (HV.out.mono fun _ hb=>Or.inl hb)
theorem JQ(F:Nat→Prop)(i:aI)(l:List aI)(IH:∀F,qP F l):qP F (i::l):=by
 intro sv u v a b w hi hu hv hF hc hl;simp only[List.length_cons] at hl
 obtain⟨g,o,c,rfl,hcap,hg,hcell⟩:∃g o c,sv=.slice (some ⟨g,o,none⟩) (l.length+1) c∧l.length+1≤c∧g<w.heap.size∧∀j (h:j<(i::l).length),∃u,w.cell? ⟨g,o+j,none⟩=some u∧PV F w u (i::l)[j]:=by
  rcases hi with ⟨h,_⟩|⟨g,o,c,h1,h2,h3,h4⟩
  ·cases h
  ·exact⟨g,o,c,h1,h2,h3,h4⟩
 obtain⟨ui,ci,hpi⟩:=hcell 0 (by simp)
 simp only[Nat.add_zero,List.getElem_cons_zero] at ci hpi;have hne:(((l.length+1:Nat):Int)==0)=false:=by simp;omega
 obtain⟨r,hr⟩:∃r,r=cF (i::l) a b:=⟨_,rfl⟩;rw[←hr];rw[tU] at hr;obtain⟨t',z',rfl⟩:=hv.form;obtain⟨ti,zi,rfl⟩:=hpi.form;have stopT:a.sort≠3→Hid (r=(bK,2)):=fun h=>by show _=_;rw[hr,if_pos (Or.inl h)]
 rcases hu.cases with ⟨n,rfl,rfl,_,_⟩|⟨s,rfl,rfl⟩|⟨s,rfl,rfl⟩|⟨x,cx,m,rfl,rfl,hm⟩
 ·have HP:=stopT (by simp[bB])
  have q:=iG;clear hu hv hi hF hcell hpi hr stopT IH;go_enter Tryz.func406,Tryz.ntmps406;go_wp2_with fail;exact⟨rfl,eH.stop (Below.refl _ _) HP.out (by decide)⟩
 ·have HP:=stopT (by simp[bL])
  have q:=gE;clear hu hv hi hF hcell hpi hr stopT IH;go_enter Tryz.func406,Tryz.ntmps406;go_wp2_with fail;exact⟨rfl,eH.stop (Below.refl _ _) HP.out (by decide)⟩
 ·have HP:=stopT (by simp[bH])
  have q:=jN;clear hu hv hi hF hcell hpi hr stopT IH;go_enter Tryz.func406,Tryz.ntmps406;go_wp2_with fail;exact⟨rfl,eH.stop (Below.refl _ _) HP.out (by decide)⟩
 ·have q:=gD;have hml:=iS m;rw[iC] at hc;have HPL:=aB (sE F _ i m.length w hpi (by omega))
  have HR:=aB hr;have HM:=aB hm;have HV:=aB hv;have HF:=aB hF;have HCE:=aB hcell;have HIH:=aB IH;clear hu hv hi hF hcell hpi hr stopT IH hm;go_enter Tryz.func406,Tryz.ntmps406;go_wp2_with fail;refine HPL.out.mono ?_;rintro e w1 ⟨hw,⟨h2,rfl⟩|⟨h2,h3,rfl⟩|⟨h2,k,hk,hkn,rfl⟩⟩
  ·obtain rfl:=hw.symm;have HP:Hid (r=(bK,2)):=by show _=_;rw[HR.out,if_pos (Or.inr h2)]
   clear h2 hw;go_wp2_with fail;exact⟨rfl,eH.stop (Below.refl _ _) HP.out (by decide)⟩
  ·obtain rfl:=hw.symm;have HP:Hid (r=(bK,4)):=by show _=_;rw[HR.out,if_neg (by simp[aU,h2]),if_pos (show i.n<0∨((aU m).l.length:Int)≤i.n from h3)]
   clear h2 h3 hw;go_wp2_with fail;exact⟨rfl,eH.stop (Below.refl _ _) HP.out (by decide)⟩
  ·obtain rfl:=hw.symm;obtain⟨gm,uk0,hx0,_⟩:=HM.out.get k hk;rcases HM.out.row with ⟨rfl,_⟩|⟨gm',cm',xs,hxe,hgF,hgl,hrow,hcellm⟩
   ·simp at hk
   cases hxe;obtain⟨uk,hxk,hpk⟩:=hrow.2 k hk;have HCL:=aB (DY gm' 0 m.length cx xs w (by rw[hrow.1];omega) (by omega) (fun j u hj=>by rw[Nat.zero_add];exact hcellm j u hj) (nG hrow))
   have hck:aJ m[k]≤400000:=by have:=kU (List.getElem_mem hk);omega
   have HRK:Hid (r=if (cF l m[k] b).2≠0 then (bK,(cF l m[k] b).2) else (aU (m.set k (cF l m[k] b).1),0)):=by
    show _=_
    have hkt:i.n.toNat=k:=by rw[hkn];rfl
    have hgd:(aU m).l.getD i.n.toNat bK=m[k]:=by rw[hkt];show m.getD k bK=_;show (m[k]?).getD bK=_;rw[List.getElem?_eq_getElem hk];rfl
    rw[HR.out,if_neg (by simp[aU,h2]),if_neg (by show ¬(i.n<0∨((aU m).l.length:Int)≤i.n);rw[hkn];show ¬((k:Int)<0∨(m.length:Int)≤k);omega),hgd,hkt]
    rfl
   obtain⟨tk,zk,rfl⟩:=hpk.form;have HRW:=aB hrow;have HPK:=aB hpk;have HXK:=aB hxk;clear hw h2 hkn HR HPL hcellm hrow hpk hxk hgF hx0;go_wp2_with fail;refine HCL.out.mono ?_;rintro e w1 ⟨v1,rfl,hown,hb1⟩;rcases hown.2 with ⟨r1,r2⟩|⟨g1,c1,cur,rfl,hg1,hblk1,hmc,hcm,hcs,htk⟩
   ·omega
   have hcur:cur[k]?=some (.iface tk zk):=by
    have:=HXK.out;rw[←htk,List.getElem?_take,if_pos (by omega)] at this
    simpa using this
   have d0:w1.cell? ⟨g1,k,none⟩=some (.iface tk zk):=aA hblk1 hcur;have hg1l:=aD hblk1;have HF1:Hid (∀q,F q→q<w1.drew.heap.size):=fun q hq=>Nat.lt_of_lt_of_le (HF.out q hq) hb1.size
   have hb1d:Below w.heap.size w w1.drew:=hb1.drew;obtain⟨ad,had⟩:∃ad:Option Addr,(if c=1 then some (⟨g,o,none⟩:Addr) else some ⟨g,o+1,none⟩)=ad:=⟨_,rfl⟩
   have hix:O7 F w1.drew (.slice ad l.length (c-1)) l:=by
    by_cases h1:c=1
    ·have ht:l=[]:=List.length_eq_zero_iff.1 (by omega)
     exact Or.inl ⟨ht,_,_,by rw[ht];rfl⟩
    ·rw[if_neg h1] at had;subst had;refine Or.inr ⟨g,o+1,c-1,rfl,by omega,Nat.lt_of_lt_of_le hg hb1d.size,fun j hj=>?_⟩
     obtain⟨u,e1,e2⟩:=HCE.out (j+1) (by simp;omega)
     rw[show o+(j+1)=o+1+j by omega] at e1
     exact⟨u,by rw[hb1d.cell (p:=⟨g,o+1+j,none⟩) hg];exact e1,e2.keep fun k hk=>hb1d.block k (HF.out k hk)⟩
   have hs1:(1:Int)≤(l.length:Int)+1:=by omega
   have hs2:(l.length:Int)+1≤(c:Int):=by omega
   have HX:=aB (HIH.out F (.slice ad l.length (c-1)) (.iface tk zk) (.iface t' z') m[k] b w1.drew hix (HPK.out.keep fun k hk=>hb1d.block k (HF.out k hk)) (HV.out.keep fun k hk=>hb1d.block k (HF.out k hk)) HF1.out hck (by omega))
   generalize cF l m[k] b=rk at HX HRK;have HOWN:=aB hown;have HBLK:=aB hblk1;have HB1:=aB hb1;clear hown hblk1 hb1 hb1d hix HCL HIH HCE HPK hcs htk hmc hcm HXK;by_cases hz:rk.2=0
   ·have HX1:Hid (Calls Tryz.prog 406 #[.iface tk zk,.slice ad l.length (c-1),.iface t' z'] w1.drew fun e w'=>Below w1.heap.size w1.drew w'∧∃t2 u2,e=.returned (.iface t2 u2)∧PV (Grow F w1.drew w') w' (.iface t2 u2) rk.1):=by
     refine HX.out.mono ?_;rintro e w2 ⟨hb2,⟨_,u2,rfl,hp2⟩|⟨hk2,rfl⟩⟩
     ·obtain⟨t2,z2,rfl⟩:=hp2.form;exact⟨hb2,t2,z2,rfl,hp2⟩
     ·exact absurd hz hk2
    have HQ:Hid (r=(aU (m.set k rk.1),0)):=by show _=_;rw[HRK.out,if_neg (by simp[hz])]
    clear HX HRK hz;go_wp2_with fail;go_region_law (go_simp;go_at_call 406;refine HX1.out.mono ?_;rintro e w2 ⟨hb2,t2,u2,rfl,hp2⟩;have hblk2:=(hb2.block g1 hg1l).trans HBLK.out;have d2:=aA hblk2 hcur;have fz2:=aE hblk2 (i:=k);have hg2l:=aD hblk2;have HP2:=aB hp2;have HB2:=aB hb2;have HBLK2:=aB hblk2;clear hp2 hb2 hblk2)
    all_goals
     go_wp2_with fail;go_ret;exact ZN HB1.out HB2.out HOWN.out HRW.out HP2.out HQ.out HF.out hk
   ·have HX1:Hid (Calls Tryz.prog 406 #[.iface tk zk,.slice ad l.length (c-1),.iface t' z'] w1.drew fun e w'=>Below w1.heap.size w1.drew w'∧e=fE rk.2):=by
     refine HX.out.mono ?_;rintro e w2 ⟨hb2,⟨hk2,_⟩|⟨_,rfl⟩⟩
     ·exact absurd hk2 hz
     ·exact⟨hb2,rfl⟩
    have HQ:Hid (r=(bK,rk.2)):=by show _=_;rw[HRK.out,if_pos hz]
    have HS:Hid (∀w2,Below w1.heap.size w1.drew w2→eH F w r (fE rk.2) w2):=fun w2 h=>eH.stop (HB1.out.drew.trans (h.mono HB1.out.size)) HQ.out hz
    clear HX HRK hz;go_wp2_with fail;go_region_dies
    all_goals (refine HX1.out.mono ?_;rintro e w2 ⟨hb2,rfl⟩;exact⟨rfl,HS.out _ hb2⟩)
theorem wO:∀(l:List aI) (F:Nat→Prop),qP F l
 |[],F=>JP F
 |i::l,F=>JQ F i l (wO l)
theorem YE(l:List aI)(k:Nat)(x:aI):((l.set k x).map aJ).sum≤(l.map aJ).sum+aJ x:=by
 induction l generalizing k with
 |nil=>simp
 |cons a l ih=>
  cases k with
  |zero=>simp only[List.set_cons_zero,List.map_cons,List.sum_cons];omega
  |succ k=>simp only[List.set_cons_succ,List.map_cons,List.sum_cons];have:=ih k;omega
theorem rM:∀(l:List aI) (a b:aI),aJ (cF l a b).1≤(l.length+1)*(aJ a+aJ b+1)
 |[],a,b=>by rw[cF];simp;omega
 |i::l,a,b=>by
  rw[tU];have hnil:aJ bK=1:=by rw[eN];simp[bK]
  have hpos:1≤((i::l).length+1)*(aJ a+aJ b+1):=Nat.mul_pos (by simp) (by omega)
  repeat' split
  ·rw[hnil];exact hpos
  ·rw[hnil];exact hpos
  ·rw[hnil];exact hpos
  ·rename_i h1 h2 h3;have hl:i.n.toNat<a.l.length:=by omega
   have hg:a.l.getD i.n.toNat bK=a.l[i.n.toNat]:=by show (a.l[i.n.toNat]?).getD bK=_;rw[List.getElem?_eq_getElem hl];rfl
   have ih:=rM l (a.l.getD i.n.toNat bK) b;have hmem:=kU (List.getElem_mem hl);have hca:=eN a;rw[iC];have hset:=YE a.l i.n.toNat (cF l (a.l.getD i.n.toNat bK) b).1;rw[hg] at ih hset ⊢
   have hm:(l.length+1)*(aJ a.l[i.n.toNat]+aJ b+1)≤(l.length+1)*(aJ a+aJ b+1):=Nat.mul_le_mul_left _ (by omega)
   have he:((i::l).length+1)*(aJ a+aJ b+1)=(l.length+1)*(aJ a+aJ b+1)+(aJ a+aJ b+1):=by simp only[List.length_cons];rw[Nat.succ_mul]
   omega
theorem LR(F:Nat→Prop)(l:List aI)(sv u v:Value)(a b:aI)(w:World)(hi:O7 F w sv l)(hu:PV F w u a)(hv:PV F w v b)(hF:∀k,F k→k<w.heap.size)(hca:aJ a≤400)(hcb:aJ b≤400)(hl:l.length≤100000):
 Calls Tryz.prog 405 #[u,sv,v] w (eH F w (mI a l b)):=by
 have hcc:=rM l a b;have hcm:(l.length+1)*(aJ a+aJ b+1)≤100001*801:=Nat.mul_le_mul (by omega) (by omega)
 have HX:=aB (wO l F sv u v a b w hi hu hv hF (by omega) (by omega))
 obtain⟨r,hr⟩:∃r,r=mI a l b:=⟨_,rfl⟩;rw[←hr];unfold mI gO at hr;have HR:=aB hr
 obtain⟨x,c,rfl⟩:∃x c,sv=.slice x l.length c:=by
  rcases hi with ⟨rfl,x,c,h⟩|⟨g,o,c,h,_⟩
  ·exact⟨x,c,h⟩
  ·exact⟨_,_,h⟩
 obtain⟨t,z,rfl⟩:=hu.form;obtain⟨t',z',rfl⟩:=hv.form;generalize cF l a b=rk at HX HR hcc;clear hi hu hv hF hr;go_enter Tryz.func405,Tryz.ntmps405;go_wp2_with fail;refine HX.out.mono ?_;rintro e w1 ⟨hb1,⟨hk,u1,rfl,hp⟩|⟨hk,rfl⟩⟩
 ·have HY:=aB (lL (Grow F w w1) u1 rk.1 w1 hp (by omega))
  obtain⟨t1,z1,rfl⟩:=hp.form;have HP:=aB hp;have HB:=aB hb1;have HK:=aB hk;clear hp hb1 hk HX;go_wp2_with fail;refine HY.out.mono ?_;rintro e w2 ⟨rfl,⟨h2,rfl⟩|⟨h2,rfl⟩⟩
  ·have HQ:Hid (r=(rk.1,0)):=by show _=_;rw[HR.out,if_pos HK.out,if_neg (by omega)];rw[←HK.out]
   clear h2;go_wp2_with fail;go_ret;exact eH.ok HB.out HQ.out HP.out
  ·have HQ:Hid (r=(bK,6)):=by show _=_;rw[HR.out,if_pos HK.out,if_pos h2]
   clear h2;go_wp2_with fail;exact⟨rfl,eH.stop HB.out HQ.out (by decide)⟩
 ·have HQ:Hid (r=(rk.1,rk.2)):=by show _=_;rw[HR.out,if_neg hk]
  have HK:=aB hk;have HB:=aB hb1;clear hk hb1 HX;go_wp2_with fail;exact⟨rfl,eH.stop HB.out HQ.out HK.out⟩
end Go.Proofs.YtblbkfdhjfppkaaGreatDoor
