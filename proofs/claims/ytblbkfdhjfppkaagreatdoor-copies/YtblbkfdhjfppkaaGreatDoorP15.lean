/- Contracts of the program: values in memory; what asks for their sort. -/
import Derived.Test.YtblbkfdhjfppkaaGreatDoorB08
import Derived.Test.YtblbkfdhjfppkaaGreatDoorP03
import Derived.Test.YtblbkfdhjfppkaaGreatDoorP14
set_option maxRecDepth 100000
set_option maxHeartbeats 4000000
namespace Go.Proofs.YtblbkfdhjfppkaaGreatDoor
open Hs
open Tryz(prog)
open Go.RowKit
abbrev fK(k:Nat):Ending:=.panicked [{ v:=.iface 353 (.int .i64 k),recovered:=false }]
def VLr(R:Value->aI->Prop)(F:Nat->Prop)(w:World)(sv:Value)(l:List aI):Prop:=
 (l=[]/\sv=.slice none 0 0)\/
 ∃g cap cur,sv=.slice (some ⟨g,0,none⟩) l.length cap/\F g/\w.heap[g]?=some (.cells cur 256 (0,0))/\l.length<=cap/\∀i (h:i<l.length),∃u,cur[i]?=some u/\R u l[i]
def VR:Nat->(Nat->Prop)->World->Value->aI->Prop
 |0,_,_,_,_=>False
 |d+1,F,w,v,a=>
  (∃n,v=.iface 315 (.int .i64 n)/\a=aV n/\ -9223372036854775808<=n/\n<=9223372036854775807)\/
  (∃b,v=.iface 316 (.bool b)/\a=bM b)\/
  (∃s,v=.iface 318 (.string (bs s))/\a=bI s)\/
  (∃sv l,v=.iface 319 sv/\a=aR l/\VLr (VR d F w) F w sv l)
theorem VLr.mono{R S:Value->aI->Prop}{F G:Nat->Prop}{w:World}{sv:Value}{l:List aI}(h:VLr R F w sv l)(hR:∀v a,R v a->S v a)(hF:∀b,F b->G b):VLr S G w sv l:=by
 rcases h with h|⟨g,cap,cur,h1,h2,h3,h4,h5⟩
 ·exact Or.inl h
 ·refine Or.inr ⟨g,cap,cur,h1,hF _ h2,h3,h4,fun i hi=>?_⟩
  obtain⟨u,k1,k2⟩:=h5 i hi;exact⟨u,k1,hR _ _ k2⟩
theorem VLr.keep{R:Value->aI->Prop}{F:Nat->Prop}{w w':World}{sv:Value}{l:List aI}(h:VLr R F w sv l)(hk:∀b,F b->w'.heap[b]?=w.heap[b]?):VLr R F w' sv l:=by
 rcases h with h|⟨g,cap,cur,h1,h2,h3,h4,h5⟩
 ·exact Or.inl h
 ·exact Or.inr ⟨g,cap,cur,h1,h2,by rw[hk g h2];exact h3,h4,h5⟩
theorem VR.mono{F G:Nat->Prop}{w:World}(hF:∀b,F b->G b):∀{d e:Nat} {v:Value} {a:aI},VR d F w v a->d<=e->VR e G w v a
 |0,_,_,_,h,_=>h.elim
 |d+1,0,_,_,_,h=>by omega
 |d+1,e+1,v,a,h,hde=>by
  rcases h with h|h|h|⟨sv,l,h1,h2,h3⟩
  ·exact Or.inl h
  ·exact Or.inr (Or.inl h)
  ·exact Or.inr (Or.inr (Or.inl h))
  ·exact Or.inr (Or.inr (Or.inr ⟨sv,l,h1,h2,h3.mono (fun _ _ h=>VR.mono hF h (by omega)) hF⟩))
theorem VR.keep{F:Nat->Prop}{w w':World}(hk:∀b,F b->w'.heap[b]?=w.heap[b]?):∀{d:Nat} {v:Value} {a:aI},VR d F w v a->VR d F w' v a
 |0,_,_,h=>h.elim
 |d+1,v,a,h=>by
  rcases h with h|h|h|⟨sv,l,h1,h2,h3⟩
  ·exact Or.inl h
  ·exact Or.inr (Or.inl h)
  ·exact Or.inr (Or.inr (Or.inl h))
  ·exact Or.inr (Or.inr (Or.inr ⟨sv,l,h1,h2,(h3.mono (fun _ _ h=>VR.keep hk h) (fun _ h=>h)).keep hk⟩))
def PV(F:Nat->Prop)(w:World)(v:Value)(a:aI):Prop:=∃d,VR d F w v a
theorem PV.mono{F G:Nat->Prop}{w:World}{v:Value}{a:aI}(h:PV F w v a)(hF:∀b,F b->G b):PV G w v a:=by
 obtain⟨d,h⟩:=h;exact⟨d,h.mono hF (l9 _)⟩
theorem PV.keep{F:Nat->Prop}{w w':World}{v:Value}{a:aI}(h:PV F w v a)(hk:∀b,F b->w'.heap[b]?=w.heap[b]?):PV F w' v a:=by
 obtain⟨d,h⟩:=h;exact⟨d,h.keep hk⟩
theorem PV.num(F:Nat->Prop)(w:World)(n:Int)(h1: -9223372036854775808<=n)(h2:n<=9223372036854775807):PV F w (.iface 315 (.int .i64 n)) (aV n):=⟨1,Or.inl ⟨n,rfl,rfl,h1,h2⟩⟩
theorem PV.tru(F:Nat->Prop)(w:World)(b:Bool):PV F w (.iface 316 (.bool b)) (bM b):=⟨1,Or.inr (Or.inl ⟨b,rfl,rfl⟩)⟩
theorem PV.str(F:Nat->Prop)(w:World)(s:List UInt8):PV F w (.iface 318 (.string (bs s))) (bI s):=⟨1,Or.inr (Or.inr (Or.inl ⟨s,rfl,rfl⟩))⟩
def PVs(F:Nat->Prop)(w:World)(sv:Value)(l:List aI):Prop:=VLr (PV F w) F w sv l
theorem QI{F:Nat->Prop}{w:World}{cur:Array Value}:∀(l:List aI) (o:Nat),(∀i (h:i<l.length),∃u,cur[o+i]?=some u/\PV F w u l[i])->∃d,∀i (h:i<l.length),∃u,cur[o+i]?=some u/\VR d F w u l[i]
 |[],_,_=>⟨0,fun i h=>by simp at h⟩
 |a::l,o,h=>by
  obtain⟨u,hu,d,hd⟩:=h 0 (by simp)
  obtain⟨e,he⟩:=QI (F:=F) (w:=w) (cur:=cur) l (o+1) fun i hi=>by
   have:=h (i+1) (by simpa using hi)
   rw[show o+1+i=o+(i+1) by omega]
   simpa using this
  refine⟨max d e,fun i hi=>?_⟩
  cases i with
  |zero=>exact⟨u,hu,hd.mono (fun _ h=>h) (Nat.le_max_left _ _)⟩
  |succ i=>
   obtain⟨u',h1,h2⟩:=he i (by simpa using hi)
   rw[show o+1+i=o+(i+1) by omega] at h1
   exact⟨u',h1,h2.mono (fun _ h=>h) (Nat.le_max_right _ _)⟩
theorem PV.lst{F:Nat->Prop}{w:World}{sv:Value}{l:List aI}(h:PVs F w sv l):PV F w (.iface 319 sv) (aR l):=by
 rcases h with h|⟨g,cap,cur,h1,h2,h3,h4,h5⟩
 ·exact⟨1,Or.inr (Or.inr (Or.inr ⟨sv,l,rfl,rfl,Or.inl h⟩))⟩
 ·obtain⟨d,hd⟩:=QI (cur:=cur) l 0 (by simpa using h5)
  exact⟨d+1,Or.inr (Or.inr (Or.inr ⟨sv,l,rfl,rfl,Or.inr ⟨g,cap,cur,h1,h2,h3,h4,by simpa using hd⟩⟩))⟩
theorem PV.cases{F:Nat->Prop}{w:World}{v:Value}{a:aI}(h:PV F w v a):
 (∃n,v=.iface 315 (.int .i64 n)/\a=aV n/\ -9223372036854775808<=n/\n<=9223372036854775807)\/
 (∃b,v=.iface 316 (.bool b)/\a=bM b)\/
 (∃s,v=.iface 318 (.string (bs s))/\a=bI s)\/
 (∃x c l,v=.iface 319 (.slice x l.length c)/\a=aR l/\PVs F w (.slice x l.length c) l):=by
 obtain⟨d,h⟩:=h;cases d with
 |zero=>exact h.elim
 |succ d=>
  rcases h with h|h|h|⟨sv,l,h1,h2,h3⟩
  ·exact Or.inl h
  ·exact Or.inr (Or.inl h)
  ·exact Or.inr (Or.inr (Or.inl h))
  ·refine Or.inr (Or.inr (Or.inr ?_));have h4:PVs F w sv l:=h3.mono (fun _ _ h=>⟨d,h⟩) (fun _ h=>h)
   rcases h3 with ⟨rfl,rfl⟩|⟨g,cap,cur,rfl,_⟩
   ·exact⟨none,0,[],h1,h2,h4⟩
   ·exact⟨_,_,l,h1,h2,h4⟩
theorem oK(F:Nat->Prop)(v:Value)(a:aI)(w:World)(h:PV F w v a):
 Calls prog 385 #[v] w fun e w'=>w'=w/\((a.sort=1/\e=.returned (.bool (decide (a.n=1))))\/(a.sort≠1/\e=fK 2)):=by
 rcases h.cases with ⟨n,rfl,rfl,_,_⟩|⟨b,rfl,rfl⟩|⟨s,rfl,rfl⟩|⟨x,c,l,rfl,rfl,_⟩
 ·clear h;have q:=MQ;go_enter Tryz.func385,Tryz.ntmps385;go_wp2_with fail;exact⟨rfl,rfl,Or.inr ⟨by simp[aV],rfl⟩⟩
 ·clear h;have q:=tV;go_enter Tryz.func385,Tryz.ntmps385;go_wp2_with fail;go_ret;exact⟨rfl,Or.inl ⟨rfl,by cases b<;>rfl⟩⟩
 ·clear h;have q:=xD;go_enter Tryz.func385,Tryz.ntmps385;go_wp2_with fail;exact⟨rfl,rfl,Or.inr ⟨by simp[bI],rfl⟩⟩
 ·clear h;have q:=tU;go_enter Tryz.func385,Tryz.ntmps385;go_wp2_with fail;exact⟨rfl,rfl,Or.inr ⟨by simp[aR],rfl⟩⟩
def kZ(F:Nat->Prop)(w:World)(r:aI × Nat)(e:Ending)(w':World):Prop:=w'=w/\((r.2=0/\∃u,e=.returned u/\PV F w u r.1)\/(r.2≠0/\e=fK r.2))
theorem kZ.ok{F:Nat->Prop}{w:World}{r:aI × Nat}{u:Value}{a:aI}(hr:r=(a,0))(h:PV F w u a):kZ F w r (.returned u) w:=by subst hr;exact⟨rfl,Or.inl ⟨rfl,u,rfl,h⟩⟩
theorem kZ.stop{F:Nat->Prop}{w:World}{r:aI × Nat}{a:aI}{k:Nat}(hr:r=(a,k))(hk:k≠0):kZ F w r (fK k) w:=by subst hr;exact⟨rfl,Or.inr ⟨hk,rfl⟩⟩
theorem VL(n:Int): -9223372036854775808<=iV n/\iV n<=9223372036854775807:=by unfold iV;omega
theorem PV.wrap(F:Nat->Prop)(w:World)(n:Int):PV F w (.iface 315 (.int .i64 (wrap64 n))) (aV (iV n)):=by
 rw[<-RL];exact PV.num F w _ (VL n).1 (VL n).2
theorem XV(op:List UInt8)(F:Nat->Prop)(x y:Int)(w:World)(hx1: -9223372036854775808<=x)(hx2:x<=9223372036854775807)(hy1: -9223372036854775808<=y)(hy2:y<=9223372036854775807):
 Calls prog 390 #[.string (bs op),.int .i64 x,.int .i64 y] w (kZ F w (jB op x y)):=by
 have hbt:=cB op;obtain⟨r,hr⟩:∃r,r=jB op x y:=⟨_,rfl⟩;rw[<-hr];unfold jB at hr;by_cases o0:op=[43]
 ·rw[if_pos o0] at hr;have e_lt:((bs op).toList==[60])=false:=by rw[hbt,o0];rfl
  have e_le:((bs op).toList==[60,61])=false:=by rw[hbt,o0];rfl
  have e_add:((bs op).toList==[43])=true:=by rw[hbt,o0];rfl
  have e_sub:((bs op).toList==[45])=false:=by rw[hbt,o0];rfl
  have e_mul:((bs op).toList==[42])=false:=by rw[hbt,o0];rfl
  have HP:=aB hr;clear hbt hr o0;go_enter Tryz.func390,Tryz.ntmps390;go_wp2_with fail;go_ret;exact kZ.ok HP.out (PV.wrap F w (x+y))
 rw[if_neg o0] at hr;have e_add:((bs op).toList==[43])=false:=by rw[hbt];simpa using o0
 clear o0;by_cases o1:op=[45]
 ·rw[if_pos o1] at hr;have e_lt:((bs op).toList==[60])=false:=by rw[hbt,o1];rfl
  have e_le:((bs op).toList==[60,61])=false:=by rw[hbt,o1];rfl
  have e_add:((bs op).toList==[43])=false:=by rw[hbt,o1];rfl
  have e_sub:((bs op).toList==[45])=true:=by rw[hbt,o1];rfl
  have e_mul:((bs op).toList==[42])=false:=by rw[hbt,o1];rfl
  have HP:=aB hr;clear hbt hr o1;go_enter Tryz.func390,Tryz.ntmps390;go_wp2_with fail;go_ret;exact kZ.ok HP.out (PV.wrap F w (x-y))
 rw[if_neg o1] at hr;have e_sub:((bs op).toList==[45])=false:=by rw[hbt];simpa using o1
 clear o1;by_cases o2:op=[42]
 ·rw[if_pos o2] at hr;have e_lt:((bs op).toList==[60])=false:=by rw[hbt,o2];rfl
  have e_le:((bs op).toList==[60,61])=false:=by rw[hbt,o2];rfl
  have e_add:((bs op).toList==[43])=false:=by rw[hbt,o2];rfl
  have e_sub:((bs op).toList==[45])=false:=by rw[hbt,o2];rfl
  have e_mul:((bs op).toList==[42])=true:=by rw[hbt,o2];rfl
  have HP:=aB hr;clear hbt hr o2;go_enter Tryz.func390,Tryz.ntmps390;go_wp2_with fail;go_ret;exact kZ.ok HP.out (PV.wrap F w (x*y))
 rw[if_neg o2] at hr;have e_mul:((bs op).toList==[42])=false:=by rw[hbt];simpa using o2
 clear o2;by_cases o3:op=[60]
 ·rw[if_pos o3] at hr;have e_lt:((bs op).toList==[60])=true:=by rw[hbt,o3];rfl
  have e_le:((bs op).toList==[60,61])=false:=by rw[hbt,o3];rfl
  have e_add:((bs op).toList==[43])=false:=by rw[hbt,o3];rfl
  have e_sub:((bs op).toList==[45])=false:=by rw[hbt,o3];rfl
  have e_mul:((bs op).toList==[42])=false:=by rw[hbt,o3];rfl
  have HP:=aB hr;clear hbt hr o3;go_enter Tryz.func390,Tryz.ntmps390;go_wp2_with fail;go_ret;exact kZ.ok HP.out (PV.tru F w (decide (x<y)))
 rw[if_neg o3] at hr;have e_lt:((bs op).toList==[60])=false:=by rw[hbt];simpa using o3
 clear o3;by_cases o4:op=[60,61]
 ·rw[if_pos o4] at hr;have e_lt:((bs op).toList==[60])=false:=by rw[hbt,o4];rfl
  have e_le:((bs op).toList==[60,61])=true:=by rw[hbt,o4];rfl
  have e_add:((bs op).toList==[43])=false:=by rw[hbt,o4];rfl
  have e_sub:((bs op).toList==[45])=false:=by rw[hbt,o4];rfl
  have e_mul:((bs op).toList==[42])=false:=by rw[hbt,o4];rfl
  have HP:=aB hr;clear hbt hr o4;go_enter Tryz.func390,Tryz.ntmps390;go_wp2_with fail;go_ret;exact kZ.ok HP.out (PV.tru F w (decide (x<=y)))
 rw[if_neg o4] at hr;have e_le:((bs op).toList==[60,61])=false:=by rw[hbt];simpa using o4
 clear o4;by_cases hz:y=0
 ·rw[if_pos hz] at hr;subst hz;have HP:=aB hr;clear hbt hr;go_enter Tryz.func390,Tryz.ntmps390;go_wp2_with fail;exact⟨rfl,kZ.stop HP.out (by decide)⟩
 rw[if_neg hz] at hr;have ez:(y==0)=false:=by simpa using hz
 by_cases o5:op=[47]
 ·rw[if_pos o5] at hr;have e5:((bs op).toList==[47])=true:=by rw[hbt,o5];rfl
  have HP:=aB hr;clear hbt hr o5;go_enter Tryz.func390,Tryz.ntmps390;go_wp2_with fail;go_ret;exact kZ.ok HP.out (PV.wrap F w (x.tdiv y))
 ·rw[if_neg o5] at hr;have e5:((bs op).toList==[47])=false:=by rw[hbt];simpa using o5
  have hm:=E1 x y hx1 hx2;rw[WO _ hm.1 hm.2] at hr;have HP:=aB hr;have HM:=aB hm;clear hbt hr o5 hm;go_enter Tryz.func390,Tryz.ntmps390;go_wp2_with fail;go_ret;exact kZ.ok HP.out (PV.num F w (x.tmod y) HM.out.1 HM.out.2)
theorem CC(o:UInt8)(ho:o=45\/o=33)(F:Nat->Prop)(v:Value)(a:aI)(w:World)(h:PV F w v a):
 Calls prog 384 #[.string (bs [o]),v] w (kZ F w (fG [o,120] a)):=by
 rcases ho with rfl|rfl
 ·have e1:((bs [45]).toList==[33])=false:=by rw[cB];rfl
  rcases h.cases with ⟨n,rfl,rfl,h1,h2⟩|⟨b,rfl,rfl⟩|⟨s,rfl,rfl⟩|⟨x,c,l,rfl,rfl,_⟩
  ·have HP:=aB (Hs.oneL_neg (op:=[45,120]) (a:=aV n) rfl rfl);have q:=lC;clear h;generalize fG [45,120] (aV n)=r at*;go_enter Tryz.func384,Tryz.ntmps384;go_wp2_with fail;go_ret;exact kZ.ok HP.out (by have hh:=PV.wrap F w (-n);rw[RL] at hh;exact hh)
  ·have q:=kF;clear h;go_enter Tryz.func384,Tryz.ntmps384;go_wp2_with fail;exact⟨rfl,kZ.stop (a:=bL) (by unfold fG;simp[bM]) (by decide)⟩
  ·have q:=lB;clear h;go_enter Tryz.func384,Tryz.ntmps384;go_wp2_with fail;exact⟨rfl,kZ.stop (a:=bL) (by unfold fG;simp[bI]) (by decide)⟩
  ·have q:=kD;clear h;go_enter Tryz.func384,Tryz.ntmps384;go_wp2_with fail;exact⟨rfl,kZ.stop (a:=bL) (by unfold fG;simp[aR]) (by decide)⟩
 ·have e1:((bs [33]).toList==[33])=true:=by rw[cB];rfl
  have HT:=aB (oK F v a w h);obtain⟨r,hr⟩:∃r,r=fG [33,120] a:=⟨_,rfl⟩;rw[<-hr];have HR:=aB hr
  have hform:∃t u,v=.iface t u:=by
   rcases h.cases with ⟨n,rfl,_⟩|⟨b,rfl,_⟩|⟨s,rfl,_⟩|⟨x,c,l,rfl,_⟩<;>exact⟨_,_,rfl⟩
  obtain⟨t,u,rfl⟩:=hform;have HC:=aB h.cases;clear h hr;go_enter Tryz.func384,Tryz.ntmps384;go_wp2_with fail;refine HT.out.mono ?_;rintro e w1 ⟨rfl,⟨hs,rfl⟩|⟨hs,rfl⟩⟩
  ·have HS:=aB hs;clear hs;go_wp2_with fail;go_ret;refine kZ.ok (a:=bM (!decide (a.n=1))) ?_ (PV.tru F w1 (!decide (a.n=1)));rw[HR.out];unfold fG;rw[if_neg (by simp),if_pos ⟨rfl,HS.out⟩]
   rcases HC.out with ⟨n,_,rfl,_⟩|⟨b,_,rfl⟩|⟨s,_,rfl⟩|⟨x,c,l,_,rfl,_⟩
   ·have:=HS.out;simp[aV] at this
   ·cases b<;>rfl
   ·have:=HS.out;simp[bI] at this
   ·have:=HS.out;simp[aR] at this
  ·have HS:=aB hs;clear hs;go_wp2_with fail;exact⟨rfl,kZ.stop (a:=bL) (by rw[HR.out];unfold fG;rw[if_neg (by simp),if_neg (fun hh=>HS.out hh.2)]) (by decide)⟩
theorem PVs.get{F:Nat->Prop}{w:World}{x:Option Addr}{n c:Nat}{l:List aI}(h:PVs F w (.slice x n c) l)(i:Nat)(hi:i<l.length):∃g u,x=some ⟨g,0,none⟩/\n=l.length/\F g/\g<w.heap.size/\l.length<=c/\w.cell? ⟨g,i,none⟩=some u/\PV F w u l[i]:=by
 rcases h with ⟨rfl,_⟩|⟨g,cap,cur,h1,h2,h3,h4,h5⟩
 ·simp at hi
 ·cases h1;obtain⟨u,k1,k2⟩:=h5 i hi;exact⟨g,u,rfl,rfl,h2,aD h3,h4,aA h3 k1,k2⟩
theorem PV.form{F:Nat->Prop}{w:World}{v:Value}{a:aI}(h:PV F w v a):∃t u,v=.iface t u:=by
 rcases h.cases with ⟨n,rfl,_⟩|⟨b,rfl,_⟩|⟨s,rfl,_⟩|⟨x,c,l,rfl,_⟩<;>exact⟨_,_,rfl⟩
theorem PVs.keep{F:Nat->Prop}{w w':World}{sv:Value}{l:List aI}(h:PVs F w sv l)(hk:∀b,F b->w'.heap[b]?=w.heap[b]?):PVs F w' sv l:=(VLr.mono h (fun _ _ h=>h.keep hk) (fun _ h=>h)).keep hk
theorem PVs.mono{F G:Nat->Prop}{w:World}{sv:Value}{l:List aI}(h:PVs F w sv l)(hF:∀b,F b->G b):PVs G w sv l:=VLr.mono h (fun _ _ h=>h.mono hF) hF
theorem B6(n:Int):aJ (aV n)=1:=by rw[eU];simp[aV]
theorem B4(b:Bool):aJ (bM b)=1:=by rw[eU];simp[bM]
theorem kM(s:List UInt8):aJ (bI s)=1+s.length:=by rw[eU];simp[bI]
theorem iR(l:List aI):aJ (aR l)=1+(l.map aJ).sum:=by rw[eU];simp[aR]
theorem lJ{l:List aI}{a:aI}(h:a∈l):aJ a<=(l.map aJ).sum:=by
 induction l with
 |nil=>cases h
 |cons x l ih=>
  simp only[s5,s6];rcases p8.1 h with rfl|h
  ·omega
  ·have:=ih h;omega
theorem rQ(a:aI):1<=aJ a:=by rw[eU];omega
theorem jI(l:List aI):l.length<=(l.map aJ).sum:=by
 induction l with
 |nil=>simp
 |cons x l ih=>simp only[s5,s6,n8];have:=rQ x;omega
def MK(F:Nat->Prop)(k:Nat):Prop:=∀(v:Value) (a:aI) (w:World),PV F w v a->aJ a<=k->k<=1000000000->Calls prog 379 #[v] w fun e w'=>w'=w/\e=.returned (.int .i64 (aJ a:Nat))
theorem OC(F:Nat->Prop)(k:Nat)(IH:MK F k):MK F (k+1):=by
 intro v a w h hc hk;rcases h.cases with ⟨n,rfl,rfl,h1,h2⟩|⟨b,rfl,rfl⟩|⟨s,rfl,rfl⟩|⟨x,c,l,rfl,rfl,hl⟩
 ·have q:=mJ;have q':=iW;rw[B6];clear h IH hc;go_enter Tryz.func379,Tryz.ntmps379;go_wp2_with fail;go_ret;exact⟨rfl,rfl⟩
 ·have q:=kE;have q':=gO;rw[B4];clear h IH hc;go_enter Tryz.func379,Tryz.ntmps379;go_wp2_with fail;go_ret;exact⟨rfl,rfl⟩
 ·have q:=jZ;have hs:(bs s).size=s.length:=gI s;rw[kM] at hc ⊢
  clear h IH;go_enter Tryz.func379,Tryz.ntmps379;go_wp2_with fail;go_ret;exact⟨rfl,by go_num⟩
 ·have q:=lP;have q':=gN;have hlen:=jI l;rw[iR] at hc ⊢
  have HIH:=aB IH;have HL:=aB hl;clear h IH hl;go_enter Tryz.func379,Tryz.ntmps379;go_wp2_with fail;go_loopg [5,7,20] l.length (fun gk s _ i wr=>∃j:Nat,j+gk=l.length/\i=.int .i64 j/\s=.int .i64 ((1+((l.map aJ).take j).sum:Nat):Int)/\wr=w)
  case atStart=>exact⟨0,by omega,rfl,rfl,rfl⟩
  case round=>
   obtain⟨j,hj,rfl,rfl,rfl⟩:=hrel;by_cases hlt:j<l.length
   ·obtain⟨m,rfl⟩:∃m,gk=m+1:=⟨gk-1,by omega⟩
    obtain⟨g,u,rfl,hn,hF,hg,hcap,hcell,hu⟩:=HL.out.get j hlt;have hmem:l[j]∈l:=u_9 hlt;have hcm:=lJ hmem;have HX:=aB (HIH.out u l[j] wr hu (by omega) (by omega))
    obtain⟨t,u',rfl⟩:=hu.form
    have htk:((l.map aJ).take (j+1)).sum=((l.map aJ).take j).sum+aJ l[j]:=by
     rw[v7 (by simpa using hlt),aJ_];simp only[List.getElem_map,s6,ak_,a3_]
    have htl:((l.map aJ).take (j+1)).sum<=(l.map aJ).sum:=by
     have e:(l.map aJ).sum=((l.map aJ).take (j+1)++(l.map aJ).drop (j+1)).sum:=by rw[ae_]
     rw[e,aJ_];omega
    generalize aJ l[j]=cj at*;clear hu;go_wp2_with fail;refine HX.out.mono ?_;rintro e w1 ⟨rfl,rfl⟩;go_wp2_with fail;go_roundg m
    case measure=>omega
    case rel=>exact⟨j+1,by omega,by go_num,by rw[htk];go_num,rfl⟩
   ·have hjl:j=l.length:=by omega
    subst hjl;go_wp2_with fail;go_ret;exact⟨rfl,by rw[z8 (by simp)];rfl⟩
theorem CH(F:Nat->Prop):∀k,MK F k
 |0=>fun v a w _ h=>by have:=rQ a;omega
 |k+1=>OC F k (CH F k)
theorem lZ(F:Nat->Prop)(v:Value)(a:aI)(w:World)(h:PV F w v a)(hc:aJ a<=1000000000):
 Calls prog 378 #[v] w fun e w'=>w'=w/\((aJ a<=200/\e=.returned v)\/(200<aJ a/\e=fK 6)):=by
 have HX:=aB (CH F 1000000000 v a w h hc (l9 _));obtain⟨t,u,rfl⟩:=h.form;clear h;generalize aJ a=n at*;by_cases h2:n<=200
 ·have e:decide ((200:Int)<(n:Int))=false:=decide_eq_false (by omega)
  go_enter Tryz.func378,Tryz.ntmps378;go_wp2_with fail;refine HX.out.mono ?_;rintro e w1 ⟨rfl,rfl⟩;go_wp2_with fail;go_ret;exact⟨rfl,Or.inl ⟨h2,rfl⟩⟩
 ·have e:decide ((200:Int)<(n:Int))=true:=decide_eq_true (by omega)
  go_enter Tryz.func378,Tryz.ntmps378;go_wp2_with fail;refine HX.out.mono ?_;rintro e w1 ⟨rfl,rfl⟩;go_wp2_with fail;exact⟨rfl,rfl,Or.inr ⟨by omega,rfl⟩⟩
theorem tH(F:Nat->Prop)(v:Value)(a:aI)(n:Nat)(w:World)(h:PV F w v a)(_hn:n<=1000000000):
 Calls prog 382 #[v,.int .i64 n] w fun e w'=>w'=w/\((a.sort≠0/\e=fK 2)\/(a.sort=0/\(a.n<0\/(n:Int)<=a.n)/\e=fK 4)\/(a.sort=0/\∃k:Nat,k<n/\a.n=k/\e=.returned (.int .i64 k))):=by
 rcases h.cases with ⟨m,rfl,rfl,h1,h2⟩|⟨b,rfl,rfl⟩|⟨s,rfl,rfl⟩|⟨x,c,l,rfl,rfl,_⟩
 ·have q:=lC;clear h;by_cases hm:m<0
  ·have e1:decide (m<0)=true:=decide_eq_true hm;go_enter Tryz.func382,Tryz.ntmps382;go_wp2_with fail;exact⟨rfl,rfl,Or.inr (Or.inl ⟨rfl,Or.inl hm,rfl⟩)⟩
  have e1:decide (m<0)=false:=decide_eq_false hm;by_cases hm2:(n:Int)<=m
  ·have e2:decide ((n:Int)<=m)=true:=decide_eq_true hm2;go_enter Tryz.func382,Tryz.ntmps382;go_wp2_with fail;exact⟨rfl,rfl,Or.inr (Or.inl ⟨rfl,Or.inr hm2,rfl⟩)⟩
  ·have e2:decide ((n:Int)<=m)=false:=decide_eq_false hm2;go_enter Tryz.func382,Tryz.ntmps382;go_wp2_with fail;go_ret;exact⟨rfl,Or.inr (Or.inr ⟨rfl,m.toNat,by omega,by show m=_;omega,by rw[Int.toNat_of_nonneg (by omega)];rfl⟩)⟩
 ·have q:=kF;clear h;go_enter Tryz.func382,Tryz.ntmps382;go_wp2_with fail;exact⟨rfl,rfl,Or.inl ⟨by simp[bM],rfl⟩⟩
 ·have q:=lB;clear h;go_enter Tryz.func382,Tryz.ntmps382;go_wp2_with fail;exact⟨rfl,rfl,Or.inl ⟨by simp[bI],rfl⟩⟩
 ·have q:=kD;clear h;go_enter Tryz.func382,Tryz.ntmps382;go_wp2_with fail;exact⟨rfl,rfl,Or.inl ⟨by simp[aR],rfl⟩⟩
theorem KM(F:Nat->Prop)(x:Option Addr)(c:Nat)(l:List aI)(w:World)(h:PVs F w (.slice x l.length c) l)(hc:aJ (aR l)<=1000000000):
 Calls prog 376 #[.slice x l.length c] w fun e w'=>w'=w/\((aJ (aR l)<=200/\e=.returned (.iface 319 (.slice x l.length c)))\/(200<aJ (aR l)/\e=fK 6)):=by
 have HX:=aB (lZ F _ _ w (PV.lst h) hc);clear h;generalize aJ (aR l)=n at*;go_enter Tryz.func376,Tryz.ntmps376;go_wp2_with fail;refine HX.out.mono ?_;rintro e w1 ⟨rfl,⟨h2,rfl⟩|⟨h2,rfl⟩⟩
 ·go_wp2_with fail;go_ret;exact⟨rfl,Or.inl ⟨h2,rfl⟩⟩
 ·go_wp2_with fail;exact⟨rfl,rfl,Or.inr ⟨h2,rfl⟩⟩
noncomputable def GQ(op:List UInt8)(a b:List UInt8):aI × Nat:=
 if op=[60] then (bM (gF a b),0)
 else if op=[60,61] then (bM (!gF b a),0)
 else if op=[43] then (if 200<aJ (bI (a++b)) then (bL,6) else (bI (a++b),0))
 else (bL,2)
theorem XQ(op:List UInt8)(F:Nat->Prop)(a b:List UInt8)(w:World)(hab:a.length+b.length<=1000000):
 Calls prog 391 #[.string (bs op),.string (bs a),.string (bs b)] w (kZ F w (GQ op a b)):=by
 have hbt:=cB op;obtain⟨r,hr⟩:∃r,r=GQ op a b:=⟨_,rfl⟩;rw[<-hr];unfold GQ at hr;by_cases o0:op=[60]
 ·rw[if_pos o0] at hr;have e0:((bs op).toList==[60])=true:=by rw[hbt,o0];rfl
  have HLE:Hid (Op.bytesLess (bs a).toList (bs b).toList=gF a b):=by show _=_;rw[cB,cB,tT]
  have HP:=aB hr;clear hbt hr o0;generalize gF a b=sl at*;go_enter Tryz.func391,Tryz.ntmps391;go_wp2_with fail;go_ret;exact kZ.ok HP.out (by rw[<-HLE.out];exact PV.tru F w _)
 rw[if_neg o0] at hr;have e0:((bs op).toList==[60])=false:=by rw[hbt];simpa using o0
 by_cases o1:op=[60,61]
 ·rw[if_pos o1] at hr;have e1:((bs op).toList==[60,61])=true:=by rw[hbt,o1];rfl
  have HLE:Hid ((Op.bytesLess (bs a).toList (bs b).toList || (bs a).toList==(bs b).toList)= !gF b a):=by show _=_;rw[cB,cB,tT,IW]
  have HP:=aB hr;clear hbt hr o0 o1;generalize gF b a=sl at*;go_enter Tryz.func391,Tryz.ntmps391;go_wp2_with fail;go_ret;exact kZ.ok HP.out (by rw[<-HLE.out];exact PV.tru F w _)
 rw[if_neg o1] at hr;have e1:((bs op).toList==[60,61])=false:=by rw[hbt];simpa using o1
 by_cases o2:op=[43]
 ·rw[if_pos o2] at hr;have e2:((bs op).toList==[43])=true:=by rw[hbt,o2];rfl
  have hcl:=kM (a++b);have HX:=aB (lZ F (.iface 318 (.string (bs (a++b)))) _ w (PV.str F w (a++b)) (by rw[hcl,m6];omega))
  have HP:=aB hr;have hbz:=gI;clear hbt hr o0 o1 o2 hcl;go_enter Tryz.func391,Tryz.ntmps391;go_wp2_with fail;refine HX.out.mono ?_;rintro e w1 ⟨rfl,⟨h2,rfl⟩|⟨h2,rfl⟩⟩
  ·have HQ:Hid (r=(bI (a++b),0)):=by show _=_;rw[HP.out,if_neg (by omega)]
   clear h2 HP;go_wp2_with fail;go_ret;exact kZ.ok HQ.out (PV.str F w1 (a++b))
  ·have HQ:Hid (r=(bL,6)):=by show _=_;rw[HP.out,if_pos h2]
   clear h2 HP;go_wp2_with fail;exact⟨rfl,kZ.stop HQ.out (by decide)⟩
 ·rw[if_neg o2] at hr;have e2:((bs op).toList==[43])=false:=by rw[hbt];simpa using o2
  have HP:=aB hr;clear hbt hr o0 o1 o2;go_enter Tryz.func391,Tryz.ntmps391;go_wp2_with fail;exact⟨rfl,kZ.stop HP.out (by decide)⟩
theorem mP:(prog.info? 256).map (fun i=>(i.zero,i.size,i.bytes))=some (some .nilIface,1,16):=by kernel_rfl
theorem wG{P:Program}(w:World)(t u ty e:TypeId)(i:TypeInfo)(z:Value)(ht:P.underlying t=some (.slice e))(hu:P.underlying u=some (.int .i64))(hi:P.info? e=some i)(hz:i.zero=some z)(h1:i.size=1)
 (n:Nat) (h0:0<n) (hn:n<=1000000000) (hb:i.bytes<=64):
 (Builtin.append_ #[t,u] ty #[.slice none 0 0,.int .i64 n]).run P w=
   .ok (.slice (some ⟨w.heap.size,0,none⟩) n (grownCap w n 0 e)) (w.drew.alloc (.cells (Builtin.zeroCells z.cells n++Builtin.zeroCells z.cells (grownCap w n 0 e-n)) e)):=by
 have hn0:n≠0:=by omega
 have hmul:n*i.bytes<=1000000000*64:=Nat.mul_le_mul hn hb;have h48:¬(281474976710656<Builtin.nextslicecap n 0*i.bytes):=by rw[nextslicecap_zero h0];omega
 have h63:¬(9223372036854775807<(n:Int)):=by omega
 have hw:IntKind.i64.wrap (n:Int)=n:=by
  rw[IntKind.wrap_i64];omega
 have h48':¬(281474976710656<(n:Int)*(i.bytes:Int)):=by
  have:((n*i.bytes:Nat):Int)<=64000000000:=by omega
  rw[Int.natCast_mul] at this;omega
 have hlt0:¬((n:Int)<0):=by omega
 have hmax:max (n:Int) 0=n:=by omega
 simp[Builtin.append_,run_underlying ht,run_underlying hu,sizeOf,typeInfo,zeroValue,hi,hz,h1,hw,asInt,asIntOf,hlt0,hmax,hn0,h63,h48,h48',Question.forced,run_firstCells_none,newRow,grownCap]
theorem rW{P:Program}{w:World}{ops:Array Oper}{rest:List Oper}{o:Oper}{a:Act}{Q:Exit->Act->World->Prop}(hgd:o.guard=none)(s x:Operand)(t u:TypeId)
 (ho:o.op=.call { callee:=.builtin .append,args:= #[s,x],argTypes:= #[t,u] })
 (e:TypeId) (i:TypeInfo) (z:Value) (ht:P.underlying t=some (.slice e)) (hu:P.underlying u=some (.int .i64)) (hi:P.info? e=some i) (hz:i.zero=some z) (h1:i.size=1)
 (n:Nat) (h0:0<n) (hn:n<=1000000000) (hb:i.bytes<=64) (hs:a.eval s=.slice none 0 0) (hx:a.eval x=.int .i64 n)
 (h:wpList P ops Q rest (a.put o.dst (.slice (some ⟨w.heap.size,0,none⟩) n (grownCap w n 0 e))) (w.drew.alloc (.cells (Builtin.zeroCells z.cells n++Builtin.zeroCells z.cells (grownCap w n 0 e-n)) e))):wpList P ops Q (o::rest) a w:=by
 refine wpList_plain hgd fun K hK=>?_
 have hrun:=wG (P:=P) w t u o.type e i z ht hu hi hz h1 n h0 hn hb;unfold Oper.wp;simp[execOp,ho,resolve,invoke,builtin,hs,hx,hrun,Result.andThen];exact hK _ _ h
theorem XW(n:Nat)(hn:n<=1000000)(w:World):
 Calls prog 395 #[.slice none 0 0,.int .i64 n] w fun e w'=>∃v,e=.returned v/\w'.ownsRow w.heap.size 256 1 v 0 []/\Below w.heap.size w w':=by
 obtain⟨i0,hi,hz0,hz1,hz2⟩:=info_parts mP;rcases a4_ n with rfl|hp
 ·go_enter Tryz.func395,Tryz.ntmps395;go_wp2_with fail;go_ret;exact⟨_,rfl,World.ownsRow_nil _ _ _ _,m8 _ _⟩
 ·have e1:decide ((n:Int)<0)=false:=decide_eq_false (by omega)
  have e2:decide ((0:Int)<(n:Int))=true:=decide_eq_true (by omega)
  have hcap:=grownCap_ge w n 0 256;have hcm:=grownCap_le_maxLen w n 0 256 (by unfold maxLen;omega)
  generalize hgc:grownCap w n 0 256=cap at hcap hcm;have HGC:=aB hgc;clear hgc;go_enter Tryz.func395,Tryz.ntmps395;go_wp2_with (at_builtin;refine rW (by rfl) _ _ 319 3 (by rfl) 256 i0 .nilIface Tryz.underlying319 Tryz.underlying3 hi hz0 hz1 n hp (by omega) (by omega) (by rfl) (by rfl) ?_;rw[HGC.out])
  go_ret;refine⟨_,rfl,⟨rfl,Or.inr ⟨w.heap.size,cap,_,rfl,l9 _,aT _ _ rfl _,aj_ _,hcm,?_,rfl⟩⟩,?_⟩
  ·rw[Array.size_append,size_zeroCells,size_zeroCells];simp;omega
  ·exact((m8 _ _).drew).alloc (by simp) _
def fY(F:Nat->Prop)(w:World)(xs:List Value)(l:List aI):Prop:=xs.length=l.length/\∀i (h:i<l.length),∃u,xs[i]?=some u/\PV F w u l[i]
theorem fY.nil(F:Nat->Prop)(w:World):fY F w [] []:=⟨rfl,fun i h=>by simp at h⟩
theorem fY.keep{F:Nat->Prop}{w w':World}{xs:List Value}{l:List aI}(h:fY F w xs l)(hk:∀b,F b->w'.heap[b]?=w.heap[b]?):fY F w' xs l:=
 ⟨h.1,fun i hi=>by obtain⟨u,h1,h2⟩:=h.2 i hi;exact⟨u,h1,h2.keep hk⟩⟩
theorem fY.mono{F G:Nat->Prop}{w:World}{xs:List Value}{l:List aI}(h:fY F w xs l)(hF:∀b,F b->G b):fY G w xs l:=
 ⟨h.1,fun i hi=>by obtain⟨u,h1,h2⟩:=h.2 i hi;exact⟨u,h1,h2.mono hF⟩⟩
theorem fY.append{F:Nat->Prop}{w:World}{xs ys:List Value}{l m:List aI}(h:fY F w xs l)(k:fY F w ys m):fY F w (xs++ys) (l++m):=by
 refine⟨by simp[h.1,k.1],fun i hi=>?_⟩
 rcases ag_ i l.length with h1|h1
 ·obtain⟨u,e1,e2⟩:=h.2 i h1;exact⟨u,by rw[ad_ (by rw[h.1];exact h1)];exact e1,by rw[a7_ h1];exact e2⟩
 ·have h2:i-l.length<m.length:=by simp at hi;omega
  obtain⟨u,e1,e2⟩:=k.2 _ h2;exact⟨u,by rw[y8 (by rw[h.1];exact h1),h.1];exact e1,by rw[a2_ h1];exact e2⟩
theorem PVs.row{F:Nat->Prop}{w:World}{sv:Value}{l:List aI}(h:PVs F w sv l):(l=[]/\sv=.slice none 0 0)\/∃g cap xs,sv=.slice (some ⟨g,0,none⟩) l.length cap/\F g/\g<w.heap.size/\fY F w xs l/\∀j u,xs[j]?=some u->w.cell? ⟨g,j,none⟩=some u:=by
 rcases h with h|⟨g,cap,cur,h1,h2,h3,h4,h5⟩
 ·exact Or.inl h
 ·have hsz:l.length<=cur.size:=by
   rcases a4_ l.length with h0|h0
   ·omega
   ·obtain⟨u,e1,_⟩:=h5 (l.length-1) (by omega)
    have:=(ao_.1 e1).1;omega
  refine Or.inr ⟨g,cap,cur.toList.take l.length,h1,h2,aD h3,⟨by simp;omega,fun i hi=>?_⟩,fun j u hj=>?_⟩
  ·obtain⟨u,e1,e2⟩:=h5 i hi;exact⟨u,by rw[x6,if_pos hi];simpa using e1,e2⟩
  ·rw[x6] at hj;split at hj
   ·exact aA h3 (by simpa using hj)
   ·cases hj
theorem PVs.ofRow{F:Nat->Prop}{w:World}{base:Nat}{v:Value}{xs:List Value}{l:List aI}(h:w.ownsRow base 256 1 v l.length xs)(hr:fY F w xs l)(hF:∀k,v.ownBlock=some k->F k):PVs F w v l:=by
 rcases h.2 with ⟨r1,r2⟩|⟨g,cap,cur,r1,r2,r3,r4,r5,r6,r7⟩
 ·exact Or.inl ⟨v8 r2,r1⟩
 ·refine Or.inr ⟨g,cap,cur,r1,hF g (by rw[r1];rfl),r3,r4,fun i hi=>?_⟩
  obtain⟨u,e1,e2⟩:=hr.2 i hi;refine⟨u,?_,e2⟩;rw[<-r7,x6,if_pos (by omega)] at e1
  simpa using e1
theorem oA{F:Nat->Prop}{w:World}{xs:List Value}{l:List aI}(h:fY F w xs l):∀u∈xs,u.oneCell'=true:=by
 intro u hu;obtain⟨j,hj,rfl⟩:=List.mem_iff_getElem.1 hu;obtain⟨u',e1,e2⟩:=h.2 j (by rw[<-h.1];exact hj)
 rw[p9 hj] at e1;cases e1;obtain⟨t,z,e⟩:=e2.form;rw[e];rfl
theorem DY{ops:Array Oper}{rest:List Oper}{o:Oper}{a:Act}{Q:Exit->Act->World->Prop}{w:World}(hgd:o.guard=none)(s x:Operand)(t:TypeId)(ht:prog.underlying t=some (.slice 256))
 (ho:o.op=.call { callee:=.builtin .append,args:= #[s,x],argTypes:= #[t,t] })
 (base:Nat) (v:Value) (l m:List aI) (xs:List Value) (F:Nat->Prop) (hs:a.eval s=v) (hown:w.ownsRow base 256 1 v l.length xs) (hr:fY F w xs l)
 (sv:Value) (hx:a.eval x=sv) (hm:PVs F w sv m) (hF:∀b,F b->b<w.heap.size/\v.ownBlock≠some b) (hlen:l.length+m.length<=1000000000) (hbase:base<=w.heap.size)
 (h:∀v' w' ys,w'.ownsRow base 256 1 v' (l++m).length ys->fY F w' ys (l++m)->w.grownBy w' v.ownBlock->wpList prog ops Q rest (a.put o.dst v') w'):
 wpList prog ops Q (o::rest) a w:=by
 obtain⟨i0,hi,hz0,hz1,hz2⟩:=info_parts mP;rcases hm.row with ⟨rfl,rfl⟩|⟨g,cap,ys,rfl,hg,hgl,hrow,hcell⟩
 ·refine wpList_append_own_none hgd s x t ho base 256 i0 1 ht hi v l.length xs hs hown hx ?_;exact h v w xs (by simpa using hown) (by simpa using hr) ⟨rfl,rfl,rfl,l9 _,fun _ _ _=>rfl⟩
 ·refine wpList_append_own _ hgd s x t ho base 256 i0 _ 1 16 ht hi hz0 hz1 hz2 rfl (by decide) v l.length xs hs hown ⟨g,0,none⟩ m.length cap ys hx (by rw[hrow.1];omega) (fun j u hj=>by rw[Addr.add_lit,aD_];exact hcell j u hj) (oA hrow) (by unfold maxLen;omega) (by omega) hbase ?_
  intro v' w' hown' hgrow _;have hk:∀b,F b->w'.heap[b]?=w.heap[b]?:=fun b hb=>hgrow.block b (hF b hb).1 (fun e=>(hF b hb).2 e.symm)
  exact h v' w' (xs++ys) (by rw[m6];exact hown') ((hr.keep hk).append (hrow.keep hk)) hgrow
def nR(F:Nat->Prop)(w:World)(ls:List aI)(v:Value)(wr:World):Prop:=
 ∃ys,wr.ownsRow w.heap.size 256 1 v ls.length ys/\fY F wr ys ls/\Below w.heap.size w wr
theorem nR.step{F:Nat->Prop}{w wr w':World}{ls m:List aI}{v v':Value}{ys:List Value}(h:nR F w ls v wr)(ho:w'.ownsRow w.heap.size 256 1 v' (ls++m).length ys)(hr:fY F w' ys (ls++m))(hg:wr.grownBy w' v.ownBlock):nR F w (ls++m) v' w':=by
 obtain⟨zs,h1,h2,h3⟩:=h;refine⟨ys,ho,hr,h3.grown hg h3.size fun k hk=>?_⟩
 exact bX h1 k hk
theorem cV{w:World}{base n k:Nat}{t:TypeId}{v:Value}{ys:List Value}(h:w.ownsRow base t k v n ys):∃x c,v=.slice x n c:=by
 rcases h.2 with ⟨r1,r2⟩|⟨g,cap,cur,r1,_⟩
 ·exact⟨none,0,by rw[r1,r2]⟩
 ·exact⟨_,_,r1⟩
theorem OA(F:Nat->Prop)(b:Nat)(x y:Option Addr)(c d:Nat)(l m:List aI)(w:World)(hb:w.heap[b]?=some (.cells #[.slice x l.length c,.slice y m.length d] 319 (0,0)))(hl:PVs F w (.slice x l.length c) l)(hm:PVs F w (.slice y m.length d) m)(hF:∀k,F k->k<w.heap.size)(hlm:l.length+m.length<=1000000):
 Calls prog 394 #[.slice (some ⟨b,0,none⟩) 2 2] w fun e w'=>∃v',e=.returned v'/\nR F w (l++m) v' w':=by
 have hbl:=aD hb;have c0:=aA hb (i:=0) rfl;have c1:=aA hb (i:=1) rfl;have HL:=aB hl;have HM:=aB hm;have HF:=aB hF;have HG:=aB (XW (l.length+m.length) (by omega) w)
 have HB:=aB hb;clear hl hm hF hb;go_enter Tryz.func394,Tryz.ntmps394;go_wp2_with fail;go_loopg [3,5,11] 2 (fun gk s _ i wr=>wr=w/\((gk=2/\i=.int .i64 0/\s=.int .i64 0)\/(gk=1/\i=.int .i64 1/\s=.int .i64 (l.length:Nat))\/(gk=0/\i=.int .i64 2/\s=.int .i64 ((l.length+m.length:Nat):Int))))
 case atStart=>exact⟨rfl,Or.inl ⟨rfl,rfl,rfl⟩⟩
 case round=>
  obtain⟨hw,hrel⟩:=hrel;obtain rfl:=hw.symm;rcases hrel with ⟨rfl,rfl,rfl⟩|⟨rfl,rfl,rfl⟩|⟨rfl,rfl,rfl⟩
  ·have e:decide ((l.length:Int)<0)=false:=decide_eq_false (by omega)
   go_wp2_with fail;go_roundg 1
   case measure=>omega
   case rel=>exact⟨rfl,Or.inr (Or.inl ⟨rfl,rfl,rfl⟩)⟩
  ·have e:decide ((l.length:Int)+(m.length:Int)<0)=false:=decide_eq_false (by omega)
   go_wp2_with fail;go_roundg 0
   case measure=>omega
   case rel=>exact⟨rfl,Or.inr (Or.inr ⟨rfl,rfl,by simp⟩)⟩
  ·go_wp2_with fail;refine HG.out.mono ?_;rintro e w1 ⟨v1,rfl,hown1,hb1⟩
   obtain⟨x1,c1',rfl⟩:∃x c,v1=.slice x 0 c:=by
    rcases hown1.2 with ⟨r1,_⟩|⟨g,cap,cur,r1,_⟩
    ·exact⟨none,0,r1⟩
    ·exact⟨_,_,r1⟩
   have HI:Hid (nR F w [] (.slice x1 0 c1') w1):=⟨[],hown1,fY.nil _ _,hb1⟩;clear hown1 hb1 HG c0 c1;go_wp2_with fail;go_loopg [6,8,27] 2 (fun gk s _ i wq=>(gk=2/\i=.int .i64 0/\nR F w [] s wq)\/(gk=1/\i=.int .i64 1/\nR F w l s wq)\/(gk=0/\i=.int .i64 2/\nR F w (l++m) s wq))
   case atStart=>exact Or.inl ⟨rfl,rfl,HI.out⟩
   case round=>
    rcases hrel with ⟨rfl,rfl,hc⟩|⟨rfl,rfl,hc⟩|⟨rfl,rfl,hc⟩
    ·have hcs:=hc;obtain⟨ys,ho,hr,hbw⟩:=hc;obtain⟨sx,sc,rfl⟩:=cV ho;have c0:wr.cell? ⟨b,0,none⟩=some (.slice x l.length c):=aA ((hbw.block b hbl).trans HB.out) rfl;have c1:wr.cell? ⟨b,1,none⟩=some (.slice y m.length d):=aA ((hbw.block b hbl).trans HB.out) rfl;have hblr:b<wr.heap.size:=m9 hbl hbw.size;have HO:=aB ho;have HR:=aB hr;have HBW:=aB hbw;have HCS:=aB hcs;have HMM:=aB (HL.out.keep (w':=wr) fun k hk=>hbw.block k (HF.out k hk))
     have HFF:Hid (∀k,F k->k<wr.heap.size/\(Value.slice sx ([]:List aI).length sc).ownBlock≠some k):=fun k hk=>⟨m9 (HF.out k hk) hbw.size,fun e=>by have:=bX ho k e;have:=HF.out k hk;omega⟩
     clear ho hr hbw hcs HI;go_wp2_with (at_builtin;refine DY (by rfl) _ _ 319 Tryz.underlying319 (by rfl) w.heap.size (.slice sx ([]:List aI).length sc) ([]:List aI) l ys F (by rfl) HO.out HR.out _ (by rfl) HMM.out HFF.out (by first|omega|(simp;omega)) HBW.out.size ?_)
     intro v' w' ys' ho' hr' hg';have HI2:Hid (nR F w (([]:List aI)++l) v' w'):=HCS.out.step (by first|exact ho'|(rw[m6];exact ho')) hr' hg'
     obtain⟨x',c',rfl⟩:=cV ho';clear ho' hr' hg' HO HR HMM HFF HBW HCS;go_wp2_with fail;go_roundg 1
     case measure=>omega
     case rel=>exact Or.inr (Or.inl ⟨rfl,rfl,by simpa using HI2.out⟩)
    ·have hcs:=hc;obtain⟨ys,ho,hr,hbw⟩:=hc;obtain⟨sx,sc,rfl⟩:=cV ho;have c0:wr.cell? ⟨b,0,none⟩=some (.slice x l.length c):=aA ((hbw.block b hbl).trans HB.out) rfl;have c1:wr.cell? ⟨b,1,none⟩=some (.slice y m.length d):=aA ((hbw.block b hbl).trans HB.out) rfl;have hblr:b<wr.heap.size:=m9 hbl hbw.size;have HO:=aB ho;have HR:=aB hr;have HBW:=aB hbw;have HCS:=aB hcs;have HMM:=aB (HM.out.keep (w':=wr) fun k hk=>hbw.block k (HF.out k hk))
     have HFF:Hid (∀k,F k->k<wr.heap.size/\(Value.slice sx (l).length sc).ownBlock≠some k):=fun k hk=>⟨m9 (HF.out k hk) hbw.size,fun e=>by have:=bX ho k e;have:=HF.out k hk;omega⟩
     clear ho hr hbw hcs HI;go_wp2_with (at_builtin;refine DY (by rfl) _ _ 319 Tryz.underlying319 (by rfl) w.heap.size (.slice sx (l).length sc) (l) m ys F (by rfl) HO.out HR.out _ (by rfl) HMM.out HFF.out (by first|omega|(simp;omega)) HBW.out.size ?_)
     intro v' w' ys' ho' hr' hg';have HI2:Hid (nR F w (l++m) v' w'):=HCS.out.step (by first|exact ho'|(rw[m6];exact ho')) hr' hg'
     obtain⟨x',c',rfl⟩:=cV ho';clear ho' hr' hg' HO HR HMM HFF HBW HCS;go_wp2_with fail;go_roundg 0
     case measure=>omega
     case rel=>exact Or.inr (Or.inr ⟨rfl,rfl,HI2.out⟩)
    ·have HC:=aB hc;obtain⟨ys,ho,_⟩:=hc;obtain⟨sx,sc,rfl⟩:=cV ho;clear ho HI;go_wp2_with fail;go_ret;exact⟨_,rfl,HC.out⟩
def eN(F:Nat->Prop)(w:World)(r:aI × Nat)(e:Ending)(w':World):Prop:=Below w.heap.size w w'/\((r.2=0/\∃u,e=.returned u/\PV (Grow F w w') w' u r.1)\/(r.2≠0/\e=fK r.2))
theorem eN.ok{F:Nat->Prop}{w w':World}{r:aI × Nat}{u:Value}{a:aI}(hb:Below w.heap.size w w')(hr:r=(a,0))(h:PV (Grow F w w') w' u a):eN F w r (.returned u) w':=by subst hr;exact⟨hb,Or.inl ⟨rfl,u,rfl,h⟩⟩
theorem eN.stop{F:Nat->Prop}{w w':World}{r:aI × Nat}{a:aI}{k:Nat}(hb:Below w.heap.size w w')(hr:r=(a,k))(hk:k≠0):eN F w r (fK k) w':=by subst hr;exact⟨hb,Or.inr ⟨hk,rfl⟩⟩
noncomputable def wJ(op:List UInt8)(l m:List aI):aI × Nat:=if op=[43] then (if 200<aJ (aR (l++m)) then (bL,6) else (aR (l++m),0)) else (bL,2)
theorem SU(op:List UInt8)(F:Nat->Prop)(x y:Option Addr)(c d:Nat)(l m:List aI)(w:World)(hl:PVs F w (.slice x l.length c) l)(hm:PVs F w (.slice y m.length d) m)(hF:∀k,F k->k<w.heap.size)(hc:aJ (aR l)+aJ (aR m)<=1000000):
 Calls prog 392 #[.string (bs op),.slice x l.length c,.slice y m.length d] w (eN F w (wJ op l m)):=by
 have hbt:=cB op;obtain⟨r,hr⟩:∃r,r=wJ op l m:=⟨_,rfl⟩;rw[<-hr];unfold wJ at hr;by_cases o0:op=[43]
 ·rw[if_pos o0] at hr;have e0:((bs op).toList==[43])=true:=by rw[hbt,o0];rfl
  have e0':((bs op).toList != [43])=false:=by rw[hbt,o0];rfl
  have hll:=jI l;have hlm:=jI m;rw[iR,iR] at hc;have hcl:aJ (aR (l++m))=1+((l.map aJ).sum+(m.map aJ).sum):=by rw[iR,af_,aJ_]
  have hb0:Below w.heap.size w (w.alloc (.cells #[.slice x l.length c,.slice y m.length d] 319)):=(m8 _ _).alloc (l9 _) _;have HX:=aB (OA F w.heap.size x y c d l m (w.alloc (.cells #[.slice x l.length c,.slice y m.length d] 319)) (aT _ _ rfl _) (hl.keep fun k hk=>hb0.block k (hF k hk)) (hm.keep fun k hk=>hb0.block k (hF k hk)) (fun k hk=>m9 (hF k hk) hb0.size) (by omega))
  have HB0:=aB hb0;have HP:=aB hr;clear hbt hr o0 hl hm hF hb0;go_enter Tryz.func392,Tryz.ntmps392;go_wp2_with fail;refine HX.out.mono ?_;rintro e w1 ⟨v1,rfl,ys,ho,hrw,hb1⟩;obtain⟨x1,c1,rfl⟩:=cV ho;have hb01:=HB0.out.trans (hb1.mono HB0.out.size);have hpv:PVs (Grow F w w1) w1 (.slice x1 (l++m).length c1) (l++m):=PVs.ofRow ho (hrw.mono fun k hk=>Or.inl hk) fun k hk=>Or.inr ⟨by have:=bX ho k hk;have:=HB0.out.size;omega,cK ho k hk⟩
  have HY:=aB (lZ (Grow F w w1) _ _ w1 (PV.lst hpv) (by omega))
  have HPV:=aB hpv;have HB1:=aB hb01;clear ho hrw hb1 hb01 hpv HX;generalize (l++m).length=n at*;go_wp2_with fail;refine HY.out.mono ?_;rintro e w2 ⟨rfl,⟨h2,rfl⟩|⟨h2,rfl⟩⟩
  ·have HQ:Hid (r=(aR (l++m),0)):=by show _=_;rw[HP.out,if_neg (by omega)]
   clear h2 HP;go_wp2_with fail;go_ret;exact eN.ok HB1.out HQ.out (PV.lst HPV.out)
  ·have HQ:Hid (r=(bL,6)):=by show _=_;rw[HP.out,if_pos h2]
   clear h2 HP;go_wp2_with fail;exact⟨rfl,eN.stop HB1.out HQ.out (by decide)⟩
 ·rw[if_neg o0] at hr;have e0:((bs op).toList==[43])=false:=by rw[hbt];simpa using o0
  have e0':((bs op).toList != [43])=true:=by rw[hbt];simpa using o0
  have HP:=aB hr;clear hbt hr o0 hl hm hF;go_enter Tryz.func392,Tryz.ntmps392;go_wp2_with fail;exact⟨rfl,eN.stop (m8 _ _) HP.out (by decide)⟩
theorem iL{w:World}{a:Addr}{v:Value}(o:Obj)(h:w.cell? a=some v):(w.alloc o).cell? a=some v:=by
 have hlt:=World.block_lt_of_cell? w a h;rw[<-h];exact World.cell?_of_block (o9 _ _ _ hlt)
theorem GB(g off n c:Nat)(news:List Value)(w:World)(hl:news.length=n*1)(hn:n<=1000000)(hc:∀j u,news[j]?=some u->w.cell? ⟨g,off+j,none⟩=some u)(h1:∀u∈news,u.oneCell'=true):
 Calls prog 407 #[.slice (some ⟨g,off,none⟩) n c] w fun e w'=>∃v',e=.returned v'/\w'.ownsRow w.heap.size 256 1 v' n news/\Below w.heap.size w w':=by
 obtain⟨i0,hi,hz0,hz1,hz2⟩:=info_parts mP;have HC:=aB hc;clear hc;have q22:∀(w:World) (a:Option Addr) (n c n' c':Nat),(binOp .eql 319 (.slice a n c) (.slice none n' c')).run prog w=.ok (.bool a.isNone) w:=fun w a n c n' c'=>Lib.run_eql_slice_nil w _ _ a n c n' c' Tryz.underlying319
 go_enter Tryz.func407,Tryz.ntmps407;go_wp2_with (at_builtin;refine wpList_append_own _ (by rfl) _ _ 319 (by rfl) w.heap.size 256 i0 _ 1 16 Tryz.underlying319 hi hz0 hz1 hz2 rfl (by decide) (.slice (some ⟨w.heap.size,0,none⟩) 0 0) 0 [] (by rfl) (World.ownsRow_made w #[] 0 (l9 _) (aj_ _) (by simp)) ⟨g,off,none⟩ n c news (by rfl) hl (fun j u hj=>by rw[Addr.add_lit];exact iL _ (HC.out j u hj)) h1 (by unfold maxLen;omega) (by omega) (by simp) ?_)
 intro v' w1 hown hgrow _;have HO:=aB hown;have HG:=aB hgrow;obtain⟨x',c',rfl⟩:=cV hown;clear hown hgrow;go_wp2_with fail;go_ret;refine⟨_,rfl,by simpa using HO.out,?_⟩
 exact((m8 _ w).alloc (l9 _) _).grown HG.out (by simp) (by intro k hk;simp[Value.ownBlock] at hk;omega)
theorem sM(g off n c:Nat)(news:List Value)(w:World)(hl:news.length=n*1)(hn:n<=1000000)(hc:∀j u,news[j]?=some u->w.cell? ⟨g,off+j,none⟩=some u)(h1:∀u∈news,u.oneCell'=true):
 Calls prog 282 #[.slice (some ⟨g,off,none⟩) n c] w fun e w'=>∃v',e=.returned v'/\w'.ownsRow w.heap.size 256 1 v' n news/\Below w.heap.size w w':=by
 obtain⟨i0,hi,hz0,hz1,hz2⟩:=info_parts mP;have HC:=aB hc;clear hc;have q22:∀(w:World) (a:Option Addr) (n c n' c':Nat),(binOp .eql 193 (.slice a n c) (.slice none n' c')).run prog w=.ok (.bool a.isNone) w:=fun w a n c n' c'=>Lib.run_eql_slice_nil w _ _ a n c n' c' Tryz.underlying193
 go_enter Tryz.func282,Tryz.ntmps282;go_wp2_with (at_builtin;refine wpList_append_own _ (by rfl) _ _ 193 (by rfl) w.heap.size 256 i0 _ 1 16 Tryz.underlying193 hi hz0 hz1 hz2 rfl (by decide) (.slice (some ⟨w.heap.size,0,none⟩) 0 0) 0 [] (by rfl) (World.ownsRow_made w #[] 0 (l9 _) (aj_ _) (by simp)) ⟨g,off,none⟩ n c news (by rfl) hl (fun j u hj=>by rw[Addr.add_lit];exact iL _ (HC.out j u hj)) h1 (by unfold maxLen;omega) (by omega) (by simp) ?_)
 intro v' w1 hown hgrow _;have HO:=aB hown;have HG:=aB hgrow;obtain⟨x',c',rfl⟩:=cV hown;clear hown hgrow;go_wp2_with fail;go_ret;refine⟨_,rfl,by simpa using HO.out,?_⟩
 exact((m8 _ w).alloc (l9 _) _).grown HG.out (by simp) (by intro k hk;simp[Value.ownBlock] at hk;omega)
theorem sL(w:World):
 Calls prog 282 #[.slice none 0 0] w fun e w'=>e=.returned (.slice none 0 0)/\w'=w:=by
 have q22:∀(w:World) (a:Option Addr) (n c n' c':Nat),(binOp .eql 193 (.slice a n c) (.slice none n' c')).run prog w=.ok (.bool a.isNone) w:=fun w a n c n' c'=>Lib.run_eql_slice_nil w _ _ a n c n' c' Tryz.underlying193
 go_enter Tryz.func282,Tryz.ntmps282;go_wp2_with fail;go_ret;exact⟨rfl,rfl⟩
def X8(F:Nat->Prop)(w:World)(sv:Value)(l:List aI):Prop:=
 (l=[]/\∃x c,sv=.slice x 0 c)\/∃g o c,sv=.slice (some ⟨g,o,none⟩) l.length c/\l.length<=c/\g<w.heap.size/\∀i (h:i<l.length),∃u,w.cell? ⟨g,o+i,none⟩=some u/\PV F w u l[i]
theorem vB{i:aI}{at':List aI}{a b:aI}:cI (i::at') a b=if a.sort≠3\/i.sort≠0 then (bL,2) else if i.n<0\/(a.l.length:Int)<=i.n then (bL,4) else if (cI at' (a.l.getD i.n.toNat bL) b).2≠0 then (bL,(cI at' (a.l.getD i.n.toNat bL) b).2) else (aR (a.l.set i.n.toNat (cI at' (a.l.getD i.n.toNat bL) b).1),0):=by
 rw[cI]
theorem Q7{w:World}{base n g cap k:Nat}{t:TypeId}{ys:List Value}{u:Value}(h:w.ownsRow base t 1 (.slice (some ⟨g,0,none⟩) n cap) n ys)(_hk:k<n):
 (w.setCell ⟨g,k,none⟩ u).ownsRow base t 1 (.slice (some ⟨g,0,none⟩) n cap) n (ys.set k u):=by
 rcases h.2 with ⟨r1,_⟩|⟨g',cap',cur,r1,r2,r3,r4,r5,r6,r7⟩
 ·cases r1
 ·cases r1;refine⟨by rw[aC_];exact h.1,Or.inr ⟨g,cap,cur.setIfInBounds k u,rfl,r2,?_,r4,r5,by simpa using r6,?_⟩⟩
  ·rw[aS r3]
  ·rw[<-r7,aG_,bd_]
theorem fY.set{F:Nat->Prop}{w:World}{xs:List Value}{l:List aI}{u:Value}{a:aI}(h:fY F w xs l)(k:Nat)(hu:PV F w u a):fY F w (xs.set k u) (l.set k a):=by
 refine⟨by simp[h.1],fun i hi=>?_⟩
 rw[aC_] at hi;by_cases hk:k=i
 ·subst hk;exact⟨u,by rw[List.getElem?_set_self (by rw[h.1];exact hi)],by rw[List.getElem_set_self];exact hu⟩
 ·obtain⟨v,e1,e2⟩:=h.2 i hi;exact⟨v,by rw[List.getElem?_set_ne hk];exact e1,by rw[List.getElem_set_ne hk];exact e2⟩
theorem F3{F:Nat->Prop}{w w1 w2:World}{g1 c1 k:Nat}{xs:List Value}{m:List aI}{t2:TypeId}{u2:Value}{rk:aI}{r:aI × Nat}(hb1:Below w.heap.size w w1)(hb2:Below w1.heap.size w1.drew w2)
 (hown:w1.ownsRow w.heap.size 256 1 (.slice (some ⟨g1,0,none⟩) m.length c1) m.length xs) (hr:fY F w xs m) (hp:PV (Grow F w1.drew w2) w2 (.iface t2 u2) rk) (hq:r=(aR (m.set k rk),0)) (hF:∀q,F q->q<w.heap.size) (hk:k<m.length):
 eN F w r (.returned (.iface 319 (.slice (some ⟨g1,0,none⟩) m.length c1))) (w2.setCell ⟨g1,k,none⟩ (.iface t2 u2)):=by
 have hg1:w.heap.size<=g1:=bX hown g1 rfl;have hg1l:g1<w1.heap.size:=cK hown g1 rfl;have hb2':Below w1.heap.size w1 w2:=((m8 _ w1).drew).trans hb2;have h12:w1.heap.size<=w2.heap.size:=hb2'.size;have h01:w.heap.size<=w1.heap.size:=hb1.size;have hb:Below w.heap.size w w2:=hb1.trans (hb2'.mono hb1.size);have hb3:Below w.heap.size w (w2.setCell ⟨g1,k,none⟩ (.iface t2 u2)):=hb.setCell hg1 _;have ho2:w2.ownsRow w.heap.size 256 1 (.slice (some ⟨g1,0,none⟩) m.length c1) m.length xs:=bA hown fun q hq=>hb2'.block q (cK hown q hq)
 have ho3:=Q7 (u:=.iface t2 u2) ho2 hk;have hsz:(w2.setCell ⟨g1,k,none⟩ (.iface t2 u2)).heap.size=w2.heap.size:=by simp
 refine eN.ok hb3 hq (PV.lst ?_);have hlen:(m.set k rk).length=m.length:=aC_;have:=PVs.ofRow (F:=Grow F w (w2.setCell ⟨g1,k,none⟩ (.iface t2 u2))) (l:=m.set k rk) (by rw[hlen];exact ho3) ?_ ?_
 ·exact this
 ·refine fY.set ((hr.keep fun q hq=>hb3.block q (hF q hq)).mono fun q hq=>Or.inl hq) k ?_
  refine(hp.keep fun q hq=>?_).mono fun q hq=>?_
  ·refine m7 _ _ _ _ ?_;show q≠g1
   rcases hq with hq|⟨hq,_⟩
   ·have:=hF q hq;omega
   ·have:w1.heap.size<=q:=hq;omega
  ·rcases hq with hq|⟨hq,hq'⟩
   ·exact Or.inl hq
   ·refine Or.inr ⟨?_,by rw[hsz];exact hq'⟩
    have:w1.heap.size<=q:=hq;omega
 ·intro q hq;obtain rfl:g1=q:=Option.some.inj hq;exact Or.inr ⟨hg1,by rw[hsz];omega⟩
def rT(F:Nat->Prop)(l:List aI):Prop:=∀(sv u v:Value) (a b:aI) (w:World),X8 F w sv l->PV F w u a->PV F w v b->(∀k,F k->k<w.heap.size)->aJ a<=400000->l.length<=1000000->
 Calls prog 406 #[u,sv,v] w (eN F w (cI l a b))
theorem LW(F:Nat->Prop):rT F []:=by
 intro sv u v a b w hi hu hv hF hc hl
 obtain⟨x,c,rfl⟩:∃x c,sv=.slice x 0 c:=by
  rcases hi with ⟨_,x,c,h⟩|⟨g,o,c,h,_⟩
  ·exact⟨x,c,h⟩
  ·exact⟨_,_,h⟩
 have HV:=aB hv;obtain⟨t,z,rfl⟩:=hu.form;obtain⟨t',z',rfl⟩:=hv.form;clear hi hu hv hF;go_enter Tryz.func406,Tryz.ntmps406;go_wp2_with fail;go_ret;exact eN.ok (m8 _ _) rfl (HV.out.mono fun _ hb=>Or.inl hb)
theorem LX(F:Nat->Prop)(i:aI)(l:List aI)(IH:∀F,rT F l):rT F (i::l):=by
 intro sv u v a b w hi hu hv hF hc hl;simp only[n8] at hl
 obtain⟨g,o,c,rfl,hcap,hg,hcell⟩:∃g o c,sv=.slice (some ⟨g,o,none⟩) (l.length+1) c/\l.length+1<=c/\g<w.heap.size/\∀j (h:j<(i::l).length),∃u,w.cell? ⟨g,o+j,none⟩=some u/\PV F w u (i::l)[j]:=by
  rcases hi with ⟨h,_⟩|⟨g,o,c,h1,h2,h3,h4⟩
  ·cases h
  ·exact⟨g,o,c,h1,h2,h3,h4⟩
 obtain⟨ui,ci,hpi⟩:=hcell 0 (by simp)
 simp only[a3_,aW_] at ci hpi;have hne:(((l.length+1:Nat):Int)==0)=false:=by simp;omega
 obtain⟨r,hr⟩:∃r,r=cI (i::l) a b:=⟨_,rfl⟩;rw[<-hr];rw[vB] at hr;obtain⟨t',z',rfl⟩:=hv.form;obtain⟨ti,zi,rfl⟩:=hpi.form;have stopT:a.sort≠3->Hid (r=(bL,2)):=fun h=>by show _=_;rw[hr,if_pos (Or.inl h)]
 rcases hu.cases with ⟨n,rfl,rfl,_,_⟩|⟨s,rfl,rfl⟩|⟨s,rfl,rfl⟩|⟨x,cx,m,rfl,rfl,hm⟩
 ·have HP:=stopT (by simp[aV])
  have q:=iW;clear hu hv hi hF hcell hpi hr stopT IH;go_enter Tryz.func406,Tryz.ntmps406;go_wp2_with fail;exact⟨rfl,eN.stop (m8 _ _) HP.out (by decide)⟩
 ·have HP:=stopT (by simp[bM])
  have q:=gO;clear hu hv hi hF hcell hpi hr stopT IH;go_enter Tryz.func406,Tryz.ntmps406;go_wp2_with fail;exact⟨rfl,eN.stop (m8 _ _) HP.out (by decide)⟩
 ·have HP:=stopT (by simp[bI])
  have q:=kC;clear hu hv hi hF hcell hpi hr stopT IH;go_enter Tryz.func406,Tryz.ntmps406;go_wp2_with fail;exact⟨rfl,eN.stop (m8 _ _) HP.out (by decide)⟩
 ·have q:=gN;have hml:=jI m;rw[iR] at hc;have HPL:=aB (tH F _ i m.length w hpi (by omega))
  have HR:=aB hr;have HM:=aB hm;have HV:=aB hv;have HF:=aB hF;have HCE:=aB hcell;have HIH:=aB IH;clear hu hv hi hF hcell hpi hr stopT IH hm;go_enter Tryz.func406,Tryz.ntmps406;go_wp2_with fail;refine HPL.out.mono ?_;rintro e w1 ⟨hw,⟨h2,rfl⟩|⟨h2,h3,rfl⟩|⟨h2,k,hk,hkn,rfl⟩⟩
  ·obtain rfl:=hw.symm;have HP:Hid (r=(bL,2)):=by show _=_;rw[HR.out,if_pos (Or.inr h2)]
   clear h2 hw;go_wp2_with fail;exact⟨rfl,eN.stop (m8 _ _) HP.out (by decide)⟩
  ·obtain rfl:=hw.symm;have HP:Hid (r=(bL,4)):=by show _=_;rw[HR.out,if_neg (by simp[aR,h2]),if_pos (show i.n<0\/((aR m).l.length:Int)<=i.n from h3)]
   clear h2 h3 hw;go_wp2_with fail;exact⟨rfl,eN.stop (m8 _ _) HP.out (by decide)⟩
  ·obtain rfl:=hw.symm;obtain⟨gm,uk0,hx0,_⟩:=HM.out.get k hk;rcases HM.out.row with ⟨rfl,_⟩|⟨gm',cm',xs,hxe,hgF,hgl,hrow,hcellm⟩
   ·simp at hk
   cases hxe;obtain⟨uk,hxk,hpk⟩:=hrow.2 k hk;have HCL:=aB (GB gm' 0 m.length cx xs w (by rw[hrow.1];omega) (by omega) (fun j u hj=>by rw[aD_];exact hcellm j u hj) (oA hrow))
   have hck:aJ m[k]<=400000:=by have:=lJ (u_9 hk);omega
   have HRK:Hid (r=if (cI l m[k] b).2≠0 then (bL,(cI l m[k] b).2) else (aR (m.set k (cI l m[k] b).1),0)):=by
    show _=_
    have hkt:i.n.toNat=k:=by rw[hkn];rfl
    have hgd:(aR m).l.getD i.n.toNat bL=m[k]:=by rw[hkt];show m.getD k bL=_;show (m[k]?).getD bL=_;rw[p9 hk];rfl
    rw[HR.out,if_neg (by simp[aR,h2]),if_neg (by show ¬(i.n<0\/((aR m).l.length:Int)<=i.n);rw[hkn];show ¬((k:Int)<0\/(m.length:Int)<=k);omega),hgd,hkt]
    rfl
   obtain⟨tk,zk,rfl⟩:=hpk.form;have HRW:=aB hrow;have HPK:=aB hpk;have HXK:=aB hxk;clear hw h2 hkn HR HPL hcellm hrow hpk hxk hgF hx0;go_wp2_with fail;refine HCL.out.mono ?_;rintro e w1 ⟨v1,rfl,hown,hb1⟩;rcases hown.2 with ⟨r1,r2⟩|⟨g1,c1,cur,rfl,hg1,hblk1,hmc,hcm,hcs,htk⟩
   ·omega
   have hcur:cur[k]?=some (.iface tk zk):=by
    have:=HXK.out;rw[<-htk,x6,if_pos (by omega)] at this
    simpa using this
   have d0:w1.cell? ⟨g1,k,none⟩=some (.iface tk zk):=aA hblk1 hcur;have hg1l:=aD hblk1;have HF1:Hid (∀q,F q->q<w1.drew.heap.size):=fun q hq=>m9 (HF.out q hq) hb1.size
   have hb1d:Below w.heap.size w w1.drew:=hb1.drew;obtain⟨ad,had⟩:∃ad:Option Addr,(if c=1 then some (⟨g,o,none⟩:Addr) else some ⟨g,o+1,none⟩)=ad:=⟨_,rfl⟩
   have hix:X8 F w1.drew (.slice ad l.length (c-1)) l:=by
    by_cases h1:c=1
    ·have ht:l=[]:=ay_.1 (by omega)
     exact Or.inl ⟨ht,_,_,by rw[ht];rfl⟩
    ·rw[if_neg h1] at had;subst had;refine Or.inr ⟨g,o+1,c-1,rfl,by omega,m9 hg hb1d.size,fun j hj=>?_⟩
     obtain⟨u,e1,e2⟩:=HCE.out (j+1) (by simp;omega)
     rw[show o+(j+1)=o+1+j by omega] at e1
     exact⟨u,by rw[hb1d.cell (p:=⟨g,o+1+j,none⟩) hg];exact e1,e2.keep fun k hk=>hb1d.block k (HF.out k hk)⟩
   have hs1:(1:Int)<=(l.length:Int)+1:=by omega
   have hs2:(l.length:Int)+1<=(c:Int):=by omega
   have HX:=aB (HIH.out F (.slice ad l.length (c-1)) (.iface tk zk) (.iface t' z') m[k] b w1.drew hix (HPK.out.keep fun k hk=>hb1d.block k (HF.out k hk)) (HV.out.keep fun k hk=>hb1d.block k (HF.out k hk)) HF1.out hck (by omega))
   generalize cI l m[k] b=rk at HX HRK;have HOWN:=aB hown;have HBLK:=aB hblk1;have HB1:=aB hb1;clear hown hblk1 hb1 hb1d hix HCL HIH HCE HPK hcs htk hmc hcm HXK;by_cases hz:rk.2=0
   ·have HX1:Hid (Calls prog 406 #[.iface tk zk,.slice ad l.length (c-1),.iface t' z'] w1.drew fun e w'=>Below w1.heap.size w1.drew w'/\∃t2 u2,e=.returned (.iface t2 u2)/\PV (Grow F w1.drew w') w' (.iface t2 u2) rk.1):=by
     refine HX.out.mono ?_;rintro e w2 ⟨hb2,⟨_,u2,rfl,hp2⟩|⟨hk2,rfl⟩⟩
     ·obtain⟨t2,z2,rfl⟩:=hp2.form;exact⟨hb2,t2,z2,rfl,hp2⟩
     ·exact absurd hz hk2
    have HQ:Hid (r=(aR (m.set k rk.1),0)):=by show _=_;rw[HRK.out,if_neg (by simp[hz])]
    clear HX HRK hz;go_wp2_with fail;go_region_law (go_simp;go_at_call 406;refine HX1.out.mono ?_;rintro e w2 ⟨hb2,t2,u2,rfl,hp2⟩;have hblk2:=(hb2.block g1 hg1l).trans HBLK.out;have d2:=aA hblk2 hcur;have fz2:=aE hblk2 (i:=k);have hg2l:=aD hblk2;have HP2:=aB hp2;have HB2:=aB hb2;have HBLK2:=aB hblk2;clear hp2 hb2 hblk2)
    all_goals
     go_wp2_with fail;go_ret;exact F3 HB1.out HB2.out HOWN.out HRW.out HP2.out HQ.out HF.out hk
   ·have HX1:Hid (Calls prog 406 #[.iface tk zk,.slice ad l.length (c-1),.iface t' z'] w1.drew fun e w'=>Below w1.heap.size w1.drew w'/\e=fK rk.2):=by
     refine HX.out.mono ?_;rintro e w2 ⟨hb2,⟨hk2,_⟩|⟨_,rfl⟩⟩
     ·exact absurd hk2 hz
     ·exact⟨hb2,rfl⟩
    have HQ:Hid (r=(bL,rk.2)):=by show _=_;rw[HRK.out,if_pos hz]
    have HS:Hid (∀w2,Below w1.heap.size w1.drew w2->eN F w r (fK rk.2) w2):=fun w2 h=>eN.stop (HB1.out.drew.trans (h.mono HB1.out.size)) HQ.out hz
    clear HX HRK hz;go_wp2_with fail;go_region_dies
    all_goals (refine HX1.out.mono ?_;rintro e w2 ⟨hb2,rfl⟩;exact⟨rfl,HS.out _ hb2⟩)
theorem yD:∀(l:List aI) (F:Nat->Prop),rT F l
 |[],F=>LW F
 |i::l,F=>LX F i l (yD l)
theorem B5(l:List aI)(k:Nat)(x:aI):((l.set k x).map aJ).sum<=(l.map aJ).sum+aJ x:=by
 induction l generalizing k with
 |nil=>simp
 |cons a l ih=>
  cases k with
  |zero=>simp only[List.set_cons_zero,s5,s6];omega
  |succ k=>simp only[a6_,s5,s6];have:=ih k;omega
theorem sR:∀(l:List aI) (a b:aI),aJ (cI l a b).1<=(l.length+1)*(aJ a+aJ b+1)
 |[],a,b=>by rw[cI];simp;omega
 |i::l,a,b=>by
  rw[vB];have hnil:aJ bL=1:=by rw[eU];simp[bL]
  have hpos:1<=((i::l).length+1)*(aJ a+aJ b+1):=Nat.mul_pos (by simp) (by omega)
  repeat' split
  ·rw[hnil];exact hpos
  ·rw[hnil];exact hpos
  ·rw[hnil];exact hpos
  ·rename_i h1 h2 h3;have hl:i.n.toNat<a.l.length:=by omega
   have hg:a.l.getD i.n.toNat bL=a.l[i.n.toNat]:=by show (a.l[i.n.toNat]?).getD bL=_;rw[p9 hl];rfl
   have ih:=sR l (a.l.getD i.n.toNat bL) b;have hmem:=lJ (u_9 hl);have hca:=eU a;rw[iR];have hset:=B5 a.l i.n.toNat (cI l (a.l.getD i.n.toNat bL) b).1;rw[hg] at ih hset ⊢
   have hm:(l.length+1)*(aJ a.l[i.n.toNat]+aJ b+1)<=(l.length+1)*(aJ a+aJ b+1):=Nat.mul_le_mul_left _ (by omega)
   have he:((i::l).length+1)*(aJ a+aJ b+1)=(l.length+1)*(aJ a+aJ b+1)+(aJ a+aJ b+1):=by simp only[n8];rw[Nat.succ_mul]
   omega
theorem OB(F:Nat->Prop)(l:List aI)(sv u v:Value)(a b:aI)(w:World)(hi:X8 F w sv l)(hu:PV F w u a)(hv:PV F w v b)(hF:∀k,F k->k<w.heap.size)(hca:aJ a<=400)(hcb:aJ b<=400)(hl:l.length<=100000):
 Calls prog 405 #[u,sv,v] w (eN F w (mY a l b)):=by
 have hcc:=sR l a b;have hcm:(l.length+1)*(aJ a+aJ b+1)<=100001*801:=Nat.mul_le_mul (by omega) (by omega)
 have HX:=aB (yD l F sv u v a b w hi hu hv hF (by omega) (by omega))
 obtain⟨r,hr⟩:∃r,r=mY a l b:=⟨_,rfl⟩;rw[<-hr];unfold mY iA at hr;have HR:=aB hr
 obtain⟨x,c,rfl⟩:∃x c,sv=.slice x l.length c:=by
  rcases hi with ⟨rfl,x,c,h⟩|⟨g,o,c,h,_⟩
  ·exact⟨x,c,h⟩
  ·exact⟨_,_,h⟩
 obtain⟨t,z,rfl⟩:=hu.form;obtain⟨t',z',rfl⟩:=hv.form;generalize cI l a b=rk at HX HR hcc;clear hi hu hv hF hr;go_enter Tryz.func405,Tryz.ntmps405;go_wp2_with fail;refine HX.out.mono ?_;rintro e w1 ⟨hb1,⟨hk,u1,rfl,hp⟩|⟨hk,rfl⟩⟩
 ·have HY:=aB (lZ (Grow F w w1) u1 rk.1 w1 hp (by omega))
  obtain⟨t1,z1,rfl⟩:=hp.form;have HP:=aB hp;have HB:=aB hb1;have HK:=aB hk;clear hp hb1 hk HX;go_wp2_with fail;refine HY.out.mono ?_;rintro e w2 ⟨rfl,⟨h2,rfl⟩|⟨h2,rfl⟩⟩
  ·have HQ:Hid (r=(rk.1,0)):=by show _=_;rw[HR.out,if_pos HK.out,if_neg (by omega)];rw[<-HK.out]
   clear h2;go_wp2_with fail;go_ret;exact eN.ok HB.out HQ.out HP.out
  ·have HQ:Hid (r=(bL,6)):=by show _=_;rw[HR.out,if_pos HK.out,if_pos h2]
   clear h2;go_wp2_with fail;exact⟨rfl,eN.stop HB.out HQ.out (by decide)⟩
 ·have HQ:Hid (r=(rk.1,rk.2)):=by show _=_;rw[HR.out,if_neg hk]
  have HK:=aB hk;have HB:=aB hb1;clear hk hb1 HX;go_wp2_with fail;exact⟨rfl,eN.stop HB.out HQ.out HK.out⟩
def kY(w:World):Prop:=Lib.TabIs prog w "internal/strconv.uint64pow10" .u64 Lib.pow10Tab
theorem kY.keep{w w':World}{g:Nat}(h:kY w)(hg:prog.globalNamed "internal/strconv.uint64pow10"=some g)(hk:w'.heap[g]?=w.heap[g]?):kY w':=by
 unfold kY Lib.TabIs World.var? at h ⊢
 rw[hg] at h ⊢
 simp only[Option.bind_some] at h ⊢
 rw[hk];exact h
theorem kY.below{w w':World}(h:kY w)(hb:Below w.heap.size w w'):kY w':=by
 cases hg:prog.globalNamed "internal/strconv.uint64pow10" with
 |none=>unfold kY Lib.TabIs World.var? at h;rw[hg] at h;cases h
 |some g=>
  refine h.keep hg (hb.block g ?_);unfold kY Lib.TabIs World.var? at h;rw[hg] at h;simp only[Option.bind_some] at h;rcases ag_ g w.heap.size with h1|h1
  ·exact h1
  ·rw[au_ (by exact h1)] at h
   cases h
theorem yA:∀(f n:Nat) (t:List UInt8),n<10 ^ (f+1)->Hs.digitsF (f+1) n t=Lib.decDigits n++t
 |0,n,t,h=>by
  have h1:n<10:=by simpa using h
  rw[Hs.digitsF,Lib.decDigits,if_pos h1,dif_pos h1];rfl
 |f+1,n,t,h=>by
  rw[Hs.digitsF,Lib.decDigits];by_cases h1:n<10
  ·rw[if_pos h1,dif_pos h1];rfl
  ·rw[if_neg h1,dif_neg h1,yA f (n/10) _ (by rw[Nat.pow_succ] at h;omega)]
   simp
theorem sG(n:Int)(h1: -9223372036854775808<=n)(h2:n<=9223372036854775807):Lib.itoa n=cH n:=by
 unfold Lib.itoa cH;rw[yA 19 n.natAbs [] (by omega),List.append_nil]
 by_cases h:n<0
 ·rw[if_pos h,if_pos h];rfl
 ·rw[if_neg h,if_neg h,ar_,show n.toNat=n.natAbs by omega]
theorem xY:∀l:List (List UInt8),Lib.join l [44,32]=eT l
 |[]=>rfl
 |[x]=>by simp[Lib.join,List.intercalate,eT]
 |x::y::l=>by
  have ih:=xY (y::l);unfold Lib.join List.intercalate at ih ⊢
  rw[List.intersperse_cons_cons,List.flatten_cons,List.flatten_cons,ih];simp[eT]
theorem WB(l:List (List UInt8)):Lib.join ((l.map bs).map fun x=>x.data.toList) (bs [44,32]).data.toList=eT l:=by
 rw[<-xY,List.map_map];have e:((fun x:ByteArray=>x.data.toList) ∘ bs)=id:=funext fun x=>by simp[jL]
 rw[e,List.map_id];simp[jL]
theorem GZ(w:World)(x:List UInt8):∀j u,([.string (bs x)]:List Value)[j]?=some u->(w.alloc (.cells #[.string (bs x)] 9)).cell? ((⟨w.heap.size,0,none⟩:Addr).add j)=some u:=by
 intro j v hj;match j,hj with
 |0,hj=>simp at hj;subst hj;simp[Addr.add,go_sem]
 |j+1,hj=>simp at hj
theorem OG(x:List UInt8):∀u∈([.string (bs x)]:List Value),u.oneCell'=true:=by
 intro u hu;simp at hu;rw[hu];rfl
theorem CU:(prog.info? 9).map (fun i=>(i.zero,i.size,i.bytes))=some (some (.string ⟨#[]⟩),1,16):=by kernel_rfl
def GP(l:List (List UInt8)):List Value:=l.map fun x=>Value.string (bs x)
def rR(F:Nat->Prop)(k:Nat):Prop:=∀(v:Value) (a:aI) (w:World),PV F w v a->(∀b,F b->b<w.heap.size)->kY w->aJ a<=k->k<=1000000->Calls prog 157 #[v] w fun e w'=>e=.returned (.string (bs (cC a)))/\Below w.heap.size w w'
theorem KN(F:Nat->Prop)(k:Nat)(IH:rR F k)(x:Option Addr)(c:Nat)(l:List aI)(w:World)(hl:PVs F w (.slice x l.length c) l)(hF:∀b,F b->b<w.heap.size)(hp:kY w)(hc:(l.map aJ).sum<=k)(hk:k<=1000000):
 Calls prog 219 #[.slice x l.length c] w fun e w'=>e=.returned (.string (bs (eT (l.map cC))))/\Below w.heap.size w w':=by
 obtain⟨i0,hi,hz0,hz1,hz2⟩:=info_parts CU;have hlen:=jI l;have HIH:=aB IH;have HL:=aB hl;have HF:=aB hF;have HP:=aB hp;clear IH hl hF hp;go_enter Tryz.func219,Tryz.ntmps219;go_wp2_with fail;go_loopg [3,5,8] l.length (fun gk s _ i wr=>∃j:Nat,j+gk=l.length/\i=.int .i64 j/\(∃y d,s=.slice y j d)/\wr.ownsRow w.heap.size 9 1 s j (GP ((l.map cC).take j))/\Below w.heap.size w wr)
 case atStart=>exact⟨0,by omega,rfl,⟨none,0,rfl⟩,World.ownsRow_nil _ _ _ _,m8 _ _⟩
 case round=>
  obtain⟨j,hj,rfl,⟨y,d,rfl⟩,hown,hbel⟩:=hrel;by_cases hlt:j<l.length
  ·obtain⟨m,rfl⟩:∃m,gk=m+1:=⟨gk-1,by omega⟩
   have hl':=HL.out.keep fun b hb=>hbel.block b (HF.out b hb)
   obtain⟨g,u,rfl,hn,hFg,hg,hcap,hcell,hu⟩:=hl'.get j hlt;have hmem:l[j]∈l:=u_9 hlt;have hcm:=lJ hmem;have HX:=aB (HIH.out u l[j] wr hu (fun b hb=>m9 (HF.out b hb) hbel.size) (HP.out.below hbel) (by omega) (by omega))
   obtain⟨t,u',rfl⟩:=hu.form;have hsz:=hbel.size;have HO:=aB hown;have HB:=aB hbel
   have htk:GP ((l.map cC).take (j+1))=GP ((l.map cC).take j)++[.string (bs (cC l[j]))]:=by
    rw[v7 (by simpa using hlt)];simp[GP]
   have HTK:=aB htk;clear hu hown hbel htk hl';go_wp2_with fail;refine HX.out.mono ?_;rintro e w1 ⟨rfl,hb1⟩;have hsz1:=hb1.size;have hown1:=iP HO.out hb1;have HO1:=aB hown1;clear hown1;generalize cC l[j]=tx at*;go_wp2_with (at_builtin;refine wpList_append_lies _ (by rfl) _ _ 60 (by rfl) w.heap.size 9 i0 _ 1 16 Tryz.underlying60 hi hz0 hz1 hz2 rfl (by decide) (.slice y j d) j _ (by rfl) (HO1.out.alloc _) ⟨w1.heap.size,0,none⟩ 1 1 [.string (bs tx)] (by rfl) (by rfl) (GZ w1 _) (OG _) (by decide) (by unfold maxLen;omega) (by omega) (by simp;omega) (w1.heap.size+1) (by simp) ?_)
   intro g4 cap4 w4 hown4 hgrow4 hat4 hg4;have HO4:=aB hown4;have HG4:=aB hgrow4;clear hown4 hgrow4 hat4;go_wp2_with fail;go_roundg m
   case measure=>omega
   case rel=>
    refine⟨j+1,by omega,by go_num,⟨_,_,rfl⟩,by rw[HTK.out];exact HO4.out,?_⟩
    exact((HB.out.trans (hb1.mono (by omega))).alloc (by omega) _).grown HG4.out (by simp;omega) fun k hk=>(HO1.out.lt k hk).1
  ·have hjl:j=l.length:=by omega
   subst hjl;have hsz:=hbel.size;rw[z8 (by simp)] at hown
   have HB:=aB hbel;have hwl:=tS l fun a _=>xC a
   rcases hown.2 with ⟨r1,r2⟩|⟨g,cp,cur,r1,r2,r3,r4,r5,r6,r7⟩
   ·have e1:l=[]:=v8 r2;subst e1;cases r1;clear hown hbel HL HIH;go_wp2_with fail;refine(Tryz.strings_Join_none _ _ _ _).mono ?_;rintro e w1 ⟨rfl,rfl⟩;go_wp2_with fail;go_ret;exact⟨rfl,HB.out⟩
   ·cases r1
    have HJ:=aB (Tryz.strings_Join g 0 d ((l.map cC).map bs) (bs [44,32]) wr (fun i x hx=>by
     refine aA r3 ?_
     have e2:(GP (l.map cC))[i]?=some (.string x):=by
      unfold GP;rw[aM_] at hx ⊢
      obtain⟨y,hy,rfl⟩:=Option.map_eq_some_iff.1 hx;rw[hy];rfl
     have hil:i<l.length:=by
      have:=(z6.1 hx).1;simpa using this
     rw[<-r7,x6,if_pos (by omega)] at e2
     simpa using e2) (aD r3) (by simp;omega) (by simpa using r4) (by rw[WB];omega))
    have hln:((l.map cC).map bs).length=l.length:=by simp
    rw[hln,WB] at HJ;clear hown hbel HL HIH r3 r6 r7;go_wp2_with fail;refine HJ.out.mono ?_;rintro e w1 ⟨rfl,hb1⟩;go_wp2_with fail;go_ret;exact⟨rfl,HB.out.trans (hb1.mono (by omega))⟩
theorem CX{w w':World}{k:Nat}{os:Array Obj}(h:w'=Sort.grow (w.drewN k) os):Below w.heap.size w w':=by
 subst h;refine⟨rfl,rfl,rfl,?_,fun i hi=>?_⟩
 ·show w.heap.size<=(w.heap++os).size
  rw[Array.size_append];omega
 ·show (w.heap++os)[i]?=w.heap[i]?
  rw[Array.getElem?_append_left hi]
theorem ZQ:(⟨(Lib.formatBool false).toArray⟩:ByteArray)=bs [102,97,108,115,101]:=by kernel_rfl
theorem D7:(⟨(Lib.formatBool true).toArray⟩:ByteArray)=bs [116,114,117,101]:=by kernel_rfl
theorem FE(F:Nat->Prop)(k:Nat)(IH:rR F k):rR F (k+1):=by
 intro v a w h hF hp hc hk;rcases h.cases with ⟨n,rfl,rfl,h1,h2⟩|⟨b,rfl,rfl⟩|⟨s,rfl,rfl⟩|⟨x,c,l,rfl,rfl,hl⟩
 ·have q:=lC;have hw:cC (aV n)=cH n:=by rw[iN];rfl
  have HX:=aB (Tryz.strconv_FormatInt_10 n h1 h2 w hp);rw[hw];clear h IH hc hp;go_enter Tryz.func157,Tryz.ntmps157;go_wp2_with fail;refine HX.out.mono ?_;rintro e w1 ⟨rfl,k1,os,hw1⟩;have hb:=CX hw1;clear hw1;go_wp2_with fail;go_ret;exact⟨by rw[sG n h1 h2];rfl,hb⟩
 ·have q:=kF;have q':=tV;have hw:cC (bM b)=if b then [116,114,117,101] else [102,97,108,115,101]:=by rw[iN];cases b<;>rfl
  rw[hw];clear h IH hc hp;cases b
  all_goals
   go_enter Tryz.func157,Tryz.ntmps157;go_wp2_with fail;refine(Tryz.strconv_FormatBool _ _).mono ?_;rintro e w1 ⟨rfl,rfl⟩;go_wp2_with fail;go_ret;exact⟨by first|(rw[ZQ];rfl)|(rw[D7];rfl),m8 _ _⟩
 ·have q:=lB;have q':=xD;have q'':=jZ;have hw:cC (bI s)=[34]++s++[34]:=by rw[iN];rfl
  have hs:(bs s).size=s.length:=gI s;rw[kM] at hc;rw[hw];clear h IH hp;go_enter Tryz.func157,Tryz.ntmps157;go_wp2_with fail;go_ret;refine⟨?_,m8 _ _⟩;show Ending.returned (.string ((⟨#[34]⟩:ByteArray)++bs s++(⟨#[34]⟩:ByteArray)))=_
  rw[XL,XM];rfl
 ·have q:=kD;have q':=tU;have q'':=lP;have q''':=gN;have hw:cC (aR l)=[91]++eT (l.map cC)++[93]:=by rw[iN];rfl
  have hwl:=tS l fun a _=>xC a
  rw[iR] at hc;have HX:=aB (KN F k IH x c l w hl hF hp (by omega) (by omega))
  have hs:(bs (eT (l.map cC))).size=(eT (l.map cC)).length:=gI _;rw[hw];generalize eT (l.map cC)=tx at*;clear h IH hp hl hF;go_enter Tryz.func157,Tryz.ntmps157;go_wp2_with fail;refine HX.out.mono ?_;rintro e w1 ⟨rfl,hb⟩;go_wp2_with fail;go_ret;refine⟨?_,hb⟩;show Ending.returned (.string (bs [91]++bs tx++bs [93]))=_
  rw[iD,iD];rfl
theorem uN(F:Nat->Prop):∀k,rR F k
 |0=>fun v a w _ _ _ h=>by have:=rQ a;omega
 |k+1=>FE F k (uN F k)
theorem XP(F:Nat->Prop)(v:Value)(a:aI)(w:World)(h:PV F w v a)(hF:∀b,F b->b<w.heap.size)(hp:kY w)(hc:aJ a<=100000):
 Calls prog 409 #[v] w fun e w'=>e=.returned (.string (bs (gE a)))/\Below w.heap.size w w':=by
 have HX:=aB (uN F 100000 v a w h hF hp hc (by omega))
 rcases h.cases with ⟨n,rfl,rfl,h1,h2⟩|⟨b,rfl,rfl⟩|⟨s,rfl,rfl⟩|⟨x,c,l,rfl,rfl,hl⟩
 ·have q:=mJ;have hw:gE (aV n)=cC (aV n):=rfl;rw[hw];generalize cC (aV n)=tx at*;clear h hF hp hc;go_enter Tryz.func409,Tryz.ntmps409;go_wp2_with fail;refine HX.out.mono ?_;rintro e w1 ⟨rfl,hb⟩;go_wp2_with fail;go_ret;exact⟨rfl,hb⟩
 ·have q:=kE;have hw:gE (bM b)=cC (bM b):=rfl;rw[hw];generalize cC (bM b)=tx at*;clear h hF hp hc;go_enter Tryz.func409,Tryz.ntmps409;go_wp2_with fail;refine HX.out.mono ?_;rintro e w1 ⟨rfl,hb⟩;go_wp2_with fail;go_ret;exact⟨rfl,hb⟩
 ·have q:=jZ;have hw:gE (bI s)=s:=rfl;rw[hw];clear h hF hp hc HX;go_enter Tryz.func409,Tryz.ntmps409;go_wp2_with fail;go_ret;exact⟨rfl,m8 _ _⟩
 ·have q:=lP;have hw:gE (aR l)=cC (aR l):=rfl;rw[hw];generalize cC (aR l)=tx at*;clear h hF hp hc hl;go_enter Tryz.func409,Tryz.ntmps409;go_wp2_with fail;refine HX.out.mono ?_;rintro e w1 ⟨rfl,hb⟩;go_wp2_with fail;go_ret;exact⟨rfl,hb⟩
theorem G4(F:Nat->Prop)(v:Value)(a:aI)(w:World)(h:PV F w v a)(hu:bN a)(hc:aJ a<=1000000):Calls prog 399 #[v] w (eN F w (eC a)):=by
 rcases h.cases with ⟨m,rfl,rfl,h1,h2⟩|⟨b,rfl,rfl⟩|⟨s,rfl,rfl⟩|⟨x,c,l,rfl,rfl,hl⟩
 ·have q:=iW;have q':=mJ;have hr:eC (aV m)=(bL,2):=rfl;rw[hr];clear h hu hc;go_enter Tryz.func399,Tryz.ntmps399;go_wp2_with fail;exact⟨rfl,eN.stop (m8 _ _) rfl (by decide)⟩
 ·have q:=gO;have q':=kE;have hr:eC (bM b)=(bL,2):=rfl;rw[hr];clear h hu hc;go_enter Tryz.func399,Tryz.ntmps399;go_wp2_with fail;exact⟨rfl,eN.stop (m8 _ _) rfl (by decide)⟩
 ·have q:=kC;have q':=jZ;have ht:cO s:=hu.txt;have hr:eC (bI s)=(aV (dV s).length,0):=rfl;have hs:(bs s).size=s.length:=gI s;rw[kM] at hc;have hlen:=sP s
  have hcn:Lib.runeCount (bs s)=(dV s).length:=by
   unfold Lib.runeCount;have hd:(bs s).data.toList=s:=by simp[jL]
   rw[yB (bs s) (bs s).size 0 (by omega) (by rw[hd];exact ht),hd];rfl
  have HX:=aB (Tryz.utf8_RuneCountInString (bs s) w (by omega))
  rw[hcn] at HX;rw[hr];clear h hu hcn;go_enter Tryz.func399,Tryz.ntmps399;go_wp2_with fail;refine HX.out.mono ?_;rintro e w1 ⟨rfl,pos,hw1⟩;have hb:Below w.heap.size w w1:=by rw[hw1];exact(m8 _ w).alloc (l9 _) _
  clear hw1;go_wp2_with fail;go_ret;exact eN.ok hb rfl (PV.num _ _ _ (by omega) (by omega))
 ·have q:=gN;have hr:eC (aR l)=(aV l.length,0):=rfl;have hlen:=jI l;rw[iR] at hc;rw[hr];clear h hu hl;go_enter Tryz.func399,Tryz.ntmps399;go_wp2_with fail;go_ret;exact eN.ok (m8 _ _) rfl (PV.num _ _ _ (by omega) (by omega))
theorem G9(F:Nat->Prop)(x:Option Addr)(c:Nat)(l:List aI)(v:Value)(b:aI)(w:World)(hl:PVs F w (.slice x l.length c) l)(hv:PV F w v b)(hc:l.length<=1000000):Calls prog 381 #[.iface 319 (.slice x l.length c),v] w (eN F w (dB (aR l) b)):=by
 have q:=gN;have HX:=aB (tH F v b l.length w hv (by omega))
 obtain⟨t,z,rfl⟩:=hv.form;have HL:=aB hl
 have hr:dB (aR l) b=if b.sort≠0 then (bL,2) else if b.n<0\/(l.length:Int)<=b.n then (bL,4) else (l.getD b.n.toNat bL,0):=by
  simp[dB,jF,aR]
 have HR:=aB hr;generalize dB (aR l) b=r at HR;clear hv hl hr;go_enter Tryz.func381,Tryz.ntmps381;go_wp2_with fail;refine HX.out.mono ?_;rintro e w1 ⟨rfl,⟨h1,rfl⟩|⟨h1,h2,rfl⟩|⟨h1,k,h2,h3,rfl⟩⟩
 ·go_wp2_with fail;exact⟨rfl,eN.stop (m8 _ _) (HR.out.trans (if_pos h1)) (by decide)⟩
 ·go_wp2_with fail;exact⟨rfl,eN.stop (m8 _ _) (HR.out.trans ((if_neg (fun h=>h h1)).trans (if_pos h2))) (by decide)⟩
 ·obtain⟨g,u,rfl,_,hF,hg,hcap,hcell,hu⟩:=HL.out.get k h2;obtain⟨t',z',rfl⟩:=hu.form;have HU:=aB hu;have hget:l.getD b.n.toNat bL=l[k]:=by rw[h3];simp[h2]
  have hres:r=(l[k],0):=by rw[HR.out,if_neg (fun h=>h h1),if_neg (by omega),hget]
  have HRes:=aB hres;have e1:(0:Int)<=(k:Int):=by omega
  have e2:(k:Int)<(l.length:Int):=by omega
  clear hu hget hres HL HX;go_wp2_with fail;go_ret;exact eN.ok (m8 _ _) HRes.out (HU.out.mono fun k hk=>Or.inl hk)
theorem A7(r:Nat)(W:World):(convert 21 318 (.int .i32 (r:Int))).run prog W=.ok (.string (bs (DE r))) W:=by
 have henc:Utf8.encode (Int.ofNat r)=bs (DE r):=by
  have:∀x:ByteArray,x=bs x.data.toList:=fun x=>by cases x;simp[bs]
  exact this _
 rw[Int.ofNat_eq_natCast] at henc;simp[convert,run_underlying Tryz.underlying21,run_underlying Tryz.underlying318,Conv.intToString,henc]
theorem P9(F:Nat->Prop)(s:List UInt8)(v:Value)(b:aI)(w:World)(hv:PV F w v b)(ht:cO s)(hc:s.length<=1000000)(hF:∀k,F k->k<w.heap.size):Calls prog 381 #[.iface 318 (.string (bs s)),v] w (eN F w (dB (bI s) b)):=by
 have q:=kC;have q':=jZ;have hs:(bs s).size=s.length:=gI s;have hd:(bs s).data.toList=s:=by simp[jL]
 obtain⟨rs,r1,r2,r3,r4⟩:=xN (bs s) (bs s).size 0 #[] (by omega) (by rw[hd];exact ht)
 rw[ba_,hd] at r2 r4;have hsz:(Conv.runesFrom (bs s) (bs s).size 0 #[]).size=rs.length:=by rw[r1];simp
 have hcl:=sP s;have hconv:=run_runes_of_string (P:=prog) w 318 498 21 (bs s) Tryz.underlying318 Tryz.underlying498 Tryz.underlying21 (by rw[hsz];omega)
 rw[hsz,r1] at hconv;generalize grownCap w rs.length 0 21=cp at hconv;generalize hob:(Obj.cells ((#[]++(rs.map fun r=>Value.int .i32 (Int.ofNat r)).toArray)++Array.replicate (cp-rs.length) (.int .i32 0)) 21)=ob at hconv
 have hcell:∀k (h:k<rs.length),(w.drew.alloc ob).cell? ⟨w.heap.size,k,none⟩=some (.int .i32 ((rs[k]:Nat):Int)):=fun k h=>by
  rw[<-hob];refine aA (aT _ _ rfl _) ?_;rw[Array.getElem?_append_left (by simpa using h)]
  simp[h]
 have hb:Below w.heap.size w (w.drew.alloc ob):=((m8 _ w).drew).alloc (l9 _) _;have HX:=aB (tH F v b rs.length (w.drew.alloc ob) (hv.keep fun k hk=>hb.block k (hF k hk)) (by omega))
 obtain⟨t,z,rfl⟩:=hv.form
 have hr:dB (bI s) b=if b.sort≠0 then (bL,2) else if b.n<0\/(rs.length:Int)<=b.n then (bL,4) else (((dV s).map bI).getD b.n.toNat bL,0):=by
  rw[r2];simp[dB,jF,bI]
 have HR:=aB hr;have hrn:rs.length<=1000000:=by omega
 have R2:=aB r2;have R4:=aB r4;have HC:=aB hcell;have HB:=aB hb;generalize dB (bI s) b=r at HR;generalize hw1:w.drew.alloc ob=w1 at hconv HX HC HB;have hcl1:w.heap.size<w1.heap.size:=by rw[<-hw1];simp
 clear hv hr hcell hb hw1 hob r1 hsz hd r2 r4 hcl;go_enter Tryz.func381,Tryz.ntmps381;go_wp2_with fail;refine HX.out.mono ?_;rintro e w2 ⟨rfl,⟨h1,rfl⟩|⟨h1,h2,rfl⟩|⟨h1,k,h2,h3,rfl⟩⟩
 ·go_wp2_with fail;exact⟨rfl,eN.stop HB.out (HR.out.trans (if_pos h1)) (by decide)⟩
 ·go_wp2_with fail;exact⟨rfl,eN.stop HB.out (HR.out.trans ((if_neg (fun h=>h h1)).trans (if_pos h2))) (by decide)⟩
 ·have hce:=HC.out k h2;have r2:=R2.out;have r4:=R4.out
  have hre:DE rs[k]=(dV s)[k]'(by omega):=by
   have:(rs.map DE)[k]?=(dV s)[k]?:=by rw[r4]
   rw[aM_,p9 h2,p9 (by omega)] at this
   simpa using this
  have hget:((dV s).map bI).getD b.n.toNat bL=bI (DE rs[k]):=by
   rw[hre,h3];have hk':k<(dV s).length:=by omega
   simp[hk']
  have hres:r=(bI (DE rs[k]),0):=by rw[HR.out,if_neg (fun h=>h h1),if_neg (by omega),hget]
  have hcv:=A7 rs[k] w2;have HRes:=aB hres;have e1:(0:Int)<=(k:Int):=by omega
  have e2:(k:Int)<(rs.length:Int):=by omega
  clear hget hres hre HX HC r2 r4;generalize rs[k]=rk at*;go_wp2_with fail;go_ret;exact eN.ok HB.out HRes.out (PV.str _ _ _)
theorem Q0(F:Nat->Prop)(u v:Value)(a b:aI)(w:World)(hu:PV F w u a)(hv:PV F w v b)(ht:bN a)(hc:aJ a<=1000000)(hF:∀k,F k->k<w.heap.size):Calls prog 381 #[u,v] w (eN F w (dB a b)):=by
 rcases hu.cases with ⟨m,rfl,rfl,h1,h2⟩|⟨x,rfl,rfl⟩|⟨s,rfl,rfl⟩|⟨x,c,l,rfl,rfl,hl⟩
 ·have q:=iW;have q':=mJ;have hr:dB (aV m) b=(bL,2):=by simp[dB,aV]
  rw[hr];obtain⟨t,z,rfl⟩:=hv.form;clear hu hv ht hc hF hr;go_enter Tryz.func381,Tryz.ntmps381;go_wp2_with fail;exact⟨rfl,eN.stop (m8 _ _) rfl (by decide)⟩
 ·have q:=gO;have q':=kE;have hr:dB (bM x) b=(bL,2):=by simp[dB,bM]
  rw[hr];obtain⟨t,z,rfl⟩:=hv.form;clear hu hv ht hc hF hr;go_enter Tryz.func381,Tryz.ntmps381;go_wp2_with fail;exact⟨rfl,eN.stop (m8 _ _) rfl (by decide)⟩
 ·rw[kM] at hc;exact P9 F s v b w hv ht.txt (by omega) hF
 ·rw[iR] at hc;have:=jI l;exact G9 F x c l v b w hl hv (by omega)
theorem UQ(n m:Int)(w:World):(binOp .eql 256 (.iface 315 (.int .i64 n)) (.iface 315 (.int .i64 m))).run prog w=.ok (.bool (n==m)) w:=by kernel_rfl
theorem LI(n m:Bool)(w:World):(binOp .eql 256 (.iface 316 (.bool n)) (.iface 316 (.bool m))).run prog w=.ok (.bool (n==m)) w:=by kernel_rfl
theorem PT(n m:ByteArray)(w:World):(binOp .eql 256 (.iface 318 (.string n)) (.iface 318 (.string m))).run prog w=.ok (.bool (n==m)) w:=by kernel_rfl
theorem UN(a b:List UInt8)(w:World):(binOp .eql 256 (.iface 318 (.string (bs a))) (.iface 318 (.string (bs b)))).run prog w=.ok (.bool (a==b)) w:=by
 rw[PT];have h:(bs a==bs b)=((bs a).data==(bs b).data):=rfl;rw[h];simp[bs]
theorem PY(u v:Value)(w:World):(binOp .eql 256 (.iface 315 u) (.iface 316 v)).run prog w=.ok (.bool false) w:=by kernel_rfl
theorem UP(u v:Value)(w:World):(binOp .eql 256 (.iface 315 u) (.iface 318 v)).run prog w=.ok (.bool false) w:=by kernel_rfl
theorem PX(u v:Value)(w:World):(binOp .eql 256 (.iface 315 u) (.iface 319 v)).run prog w=.ok (.bool false) w:=by kernel_rfl
theorem QA(u v:Value)(w:World):(binOp .eql 256 (.iface 316 u) (.iface 315 v)).run prog w=.ok (.bool false) w:=by kernel_rfl
theorem PZ(u v:Value)(w:World):(binOp .eql 256 (.iface 316 u) (.iface 318 v)).run prog w=.ok (.bool false) w:=by kernel_rfl
theorem LH(u v:Value)(w:World):(binOp .eql 256 (.iface 316 u) (.iface 319 v)).run prog w=.ok (.bool false) w:=by kernel_rfl
theorem UO(u v:Value)(w:World):(binOp .eql 256 (.iface 318 u) (.iface 315 v)).run prog w=.ok (.bool false) w:=by kernel_rfl
theorem PW(u v:Value)(w:World):(binOp .eql 256 (.iface 318 u) (.iface 316 v)).run prog w=.ok (.bool false) w:=by kernel_rfl
theorem PU(u v:Value)(w:World):(binOp .eql 256 (.iface 318 u) (.iface 319 v)).run prog w=.ok (.bool false) w:=by kernel_rfl
theorem mN{a b:aI}(h:a=b):cE a b=true:=(xM a b).2 h
theorem dN{a b:aI}(h:a≠b):cE a b=false:=by
 cases hs:cE a b
 ·rfl
 ·exact absurd ((xM a b).1 hs) h
theorem AG{l m:List aI}:aR l=aR m↔l=m:=by simp[aR]
def AC(F:Nat->Prop)(k:Nat):Prop:=∀(u v:Value) (a b:aI) (w:World),PV F w u a->PV F w v b->aJ a<=k->k<=1000000000->aJ b<=1000000000->
 Calls prog 389 #[u,v] w fun e w'=>w'=w/\e=.returned (.bool (cE a b))
theorem CG(F:Nat->Prop)(k:Nat)(IH:AC F k)(x y:Option Addr)(c d:Nat)(l m:List aI)(w:World)(hl:PVs F w (.slice x l.length c) l)(hm:PVs F w (.slice y m.length d) m)(hc:aJ (aR l)<=k+1)(hk:k<=1000000000)(hd:aJ (aR m)<=1000000000):
 Calls prog 393 #[.slice x l.length c,.slice y m.length d,.func (.func 389) #[] #[]] w fun e w'=>w'=w/\e=.returned (.bool (cE (aR l) (aR m))):=by
 have h1:=jI l;have h2:=jI m;rw[iR] at hc hd;by_cases hlen:l.length=m.length
 ·have hne:((l.length:Int) != (l.length:Int))=false:=by simp
  rw[<-hlen] at hm ⊢
  have HL:=aB hl;have HM:=aB hm;have HIH:=aB IH;have HLN:=aB hlen;clear hl hm IH hlen;go_enter Tryz.func393,Tryz.ntmps393;go_wp2_with fail;go_loopg [6,7,8,9,17] l.length (fun gk _ _ _ _ i wr=>∃j:Nat,j+gk=l.length/\i=.int .i64 j/\wr=w/\Hid (l.take j=m.take j))
  case atStart=>exact⟨0,by omega,rfl,rfl,by simp[Hid]⟩
  case round=>
   obtain⟨j,hj,rfl,rfl,HT⟩:=hrel;by_cases hlt:j<l.length
   ·obtain⟨q,rfl⟩:∃q,gk=q+1:=⟨gk-1,by omega⟩
    obtain⟨g,u,rfl,hn,hF,hg,hcap,hcell,hu⟩:=HL.out.get j hlt;obtain⟨g',u',rfl,hn',hF',hg',hcap',hcell',hu'⟩:=HM.out.get j (by rw[<-HLN.out];exact hlt)
    have hcm:=lJ (u_9 hlt);have hjm:j<m.length:=by rw[<-HLN.out];exact hlt
    have hcm':=lJ (u_9 hjm);have HX:=aB (HIH.out u u' l[j] (m[j]'hjm) wr hu hu' (by omega) hk (by omega))
    obtain⟨t,z,rfl⟩:=hu.form;obtain⟨t',z',rfl⟩:=hu'.form;have htk:l.take (j+1)=l.take j++[l[j]]:=v7 hlt;have htk':m.take (j+1)=m.take j++[m[j]'hjm]:=v7 hjm;have hgl:l[j]?=some l[j]:=p9 hlt;have hgm:m[j]?=some (m[j]'hjm):=p9 hjm;generalize l[j]=a at*;generalize m[j]'hjm=b at*;clear hu hu' hcm hcm' hn hn';by_cases hab:a=b
    ·rw[mN hab] at HX;have HT2:Hid (l.take (j+1)=m.take (j+1)):=by show _=_;rw[htk,htk',HT.out,hab]
     clear htk htk' hgl hgm HT hab;go_wp2_with fail;refine HX.out.mono ?_;rintro e w1 ⟨rfl,rfl⟩;go_wp2_with fail;go_roundg q
     case measure=>omega
     case rel=>exact⟨j+1,by omega,by go_num,rfl,HT2⟩
    ·rw[dN hab] at HX;have HN:Hid (l≠m):=by show _≠_;intro e;rw[e,hgm] at hgl;cases hgl;exact hab rfl
     clear htk htk' hgl hgm HT hab;go_wp2_with fail;refine HX.out.mono ?_;rintro e w1 ⟨rfl,rfl⟩;go_wp2_with fail;go_ret;exact⟨rfl,by rw[dN fun e=>HN.out (AG.1 e)];rfl⟩
   ·have HE:Hid (l=m):=by
     show _=_
     have:=HT.out;rw[z8 (by omega),z8 (by rw[<-HLN.out];omega)] at this
     exact this
    go_wp2_with fail;go_ret;exact⟨rfl,by rw[mN (AG.2 HE.out)];rfl⟩
 ·have hne:((l.length:Int) != (m.length:Int))=true:=by simp;omega
  have HN:Hid (l≠m):=by show _≠_;intro e;exact hlen (by rw[e])
  clear hl hm IH;go_enter Tryz.func393,Tryz.ntmps393;go_wp2_with fail;go_ret;exact⟨rfl,by rw[dN fun e=>HN.out (AG.1 e)];rfl⟩
theorem NZ(F:Nat->Prop)(k:Nat)(IH:AC F k):AC F (k+1):=by
 intro u v a b w hu hv hc hk hd;rcases hu.cases with ⟨n,rfl,rfl,h1,h2⟩|⟨s,rfl,rfl⟩|⟨s,rfl,rfl⟩|⟨x,c,l,rfl,rfl,hl⟩
 ·have q:=iW;rcases hv.cases with ⟨n',rfl,rfl,_,_⟩|⟨s',rfl,rfl⟩|⟨s',rfl,rfl⟩|⟨x',c',l',rfl,rfl,_⟩
  ·have q2:=UQ
   have HS:Hid (cE (aV n) (aV n')=(n==n')):=by
    show _=_
    by_cases e:n=n'
    ·rw[mN (by rw[e]),e,beq_self_eq_true]
    ·rw[dN (by simp[aV,e]),beq_eq_false_iff_ne.2 e]
   clear hu hv IH hc hd;generalize cE (aV n) (aV n')=r at*;go_enter Tryz.func389,Tryz.ntmps389;go_wp2_with fail;go_ret;exact⟨rfl,by rw[HS.out];rfl⟩
  ·have q2:=PY;have HS:Hid (cE (aV n) (bM s')=false):=dN (by simp[aV,bM])
   clear hu hv IH hc hd;generalize cE (aV n) (bM s')=r at*;go_enter Tryz.func389,Tryz.ntmps389;go_wp2_with fail;go_ret;exact⟨rfl,by rw[HS.out];rfl⟩
  ·have q2:=UP;have HS:Hid (cE (aV n) (bI s')=false):=dN (by simp[aV,bI])
   clear hu hv IH hc hd;generalize cE (aV n) (bI s')=r at*;go_enter Tryz.func389,Tryz.ntmps389;go_wp2_with fail;go_ret;exact⟨rfl,by rw[HS.out];rfl⟩
  ·have q2:=PX;have HS:Hid (cE (aV n) (aR l')=false):=dN (by simp[aV,aR])
   clear hu hv IH hc hd;generalize cE (aV n) (aR l')=r at*;go_enter Tryz.func389,Tryz.ntmps389;go_wp2_with fail;go_ret;exact⟨rfl,by rw[HS.out];rfl⟩
 ·have q:=gO;rcases hv.cases with ⟨n',rfl,rfl,_,_⟩|⟨s',rfl,rfl⟩|⟨s',rfl,rfl⟩|⟨x',c',l',rfl,rfl,_⟩
  ·have q2:=QA;have HS:Hid (cE (bM s) (aV n')=false):=dN (by simp[bM,aV])
   clear hu hv IH hc hd;generalize cE (bM s) (aV n')=r at*;go_enter Tryz.func389,Tryz.ntmps389;go_wp2_with fail;go_ret;exact⟨rfl,by rw[HS.out];rfl⟩
  ·have q2:=LI
   have HS:Hid (cE (bM s) (bM s')=(s==s')):=by
    show _=_
    cases s<;>cases s'<;>first|exact mN rfl|exact dN (by simp[bM])
   clear hu hv IH hc hd;generalize cE (bM s) (bM s')=r at*;go_enter Tryz.func389,Tryz.ntmps389;go_wp2_with fail;go_ret;exact⟨rfl,by rw[HS.out];rfl⟩
  ·have q2:=PZ;have HS:Hid (cE (bM s) (bI s')=false):=dN (by simp[bM,bI])
   clear hu hv IH hc hd;generalize cE (bM s) (bI s')=r at*;go_enter Tryz.func389,Tryz.ntmps389;go_wp2_with fail;go_ret;exact⟨rfl,by rw[HS.out];rfl⟩
  ·have q2:=LH;have HS:Hid (cE (bM s) (aR l')=false):=dN (by simp[bM,aR])
   clear hu hv IH hc hd;generalize cE (bM s) (aR l')=r at*;go_enter Tryz.func389,Tryz.ntmps389;go_wp2_with fail;go_ret;exact⟨rfl,by rw[HS.out];rfl⟩
 ·have q:=kC;rcases hv.cases with ⟨n',rfl,rfl,_,_⟩|⟨s',rfl,rfl⟩|⟨s',rfl,rfl⟩|⟨x',c',l',rfl,rfl,_⟩
  ·have q2:=UO;have HS:Hid (cE (bI s) (aV n')=false):=dN (by simp[bI,aV])
   clear hu hv IH hc hd;generalize cE (bI s) (aV n')=r at*;go_enter Tryz.func389,Tryz.ntmps389;go_wp2_with fail;go_ret;exact⟨rfl,by rw[HS.out];rfl⟩
  ·have q2:=PW;have HS:Hid (cE (bI s) (bM s')=false):=dN (by simp[bI,bM])
   clear hu hv IH hc hd;generalize cE (bI s) (bM s')=r at*;go_enter Tryz.func389,Tryz.ntmps389;go_wp2_with fail;go_ret;exact⟨rfl,by rw[HS.out];rfl⟩
  ·have q2:=UN
   have HS:Hid (cE (bI s) (bI s')=(s==s')):=by
    show _=_
    by_cases e:s=s'
    ·rw[mN (by rw[e]),e,beq_self_eq_true]
    ·rw[dN (by simp[bI,e]),beq_eq_false_iff_ne.2 e]
   clear hu hv IH hc hd;generalize cE (bI s) (bI s')=r at*;go_enter Tryz.func389,Tryz.ntmps389;go_wp2_with fail;go_ret;exact⟨rfl,by rw[HS.out];rfl⟩
  ·have q2:=PU;have HS:Hid (cE (bI s) (aR l')=false):=dN (by simp[bI,aR])
   clear hu hv IH hc hd;generalize cE (bI s) (aR l')=r at*;go_enter Tryz.func389,Tryz.ntmps389;go_wp2_with fail;go_ret;exact⟨rfl,by rw[HS.out];rfl⟩
 ·have q:=gN;rcases hv.cases with ⟨n',rfl,rfl,_,_⟩|⟨s',rfl,rfl⟩|⟨s',rfl,rfl⟩|⟨x',c',l',rfl,rfl,hl'⟩
  ·have q2:=iW;have HS:Hid (cE (aR l) (aV n')=false):=dN (by simp[aR,aV])
   clear hu hv hl IH hc hd;generalize cE (aR l) (aV n')=r at*;go_enter Tryz.func389,Tryz.ntmps389;go_wp2_with fail;go_ret;exact⟨rfl,by rw[HS.out];rfl⟩
  ·have q2:=gO;have HS:Hid (cE (aR l) (bM s')=false):=dN (by simp[aR,bM])
   clear hu hv hl IH hc hd;generalize cE (aR l) (bM s')=r at*;go_enter Tryz.func389,Tryz.ntmps389;go_wp2_with fail;go_ret;exact⟨rfl,by rw[HS.out];rfl⟩
  ·have q2:=kC;have HS:Hid (cE (aR l) (bI s')=false):=dN (by simp[aR,bI])
   clear hu hv hl IH hc hd;generalize cE (aR l) (bI s')=r at*;go_enter Tryz.func389,Tryz.ntmps389;go_wp2_with fail;go_ret;exact⟨rfl,by rw[HS.out];rfl⟩
  ·have HX:=aB (CG F k IH x x' c c' l l' w hl hl' hc (by omega) hd)
   clear hu hv hl hl' IH hc hd;generalize cE (aR l) (aR l')=r at*;go_enter Tryz.func389,Tryz.ntmps389;go_wp2_with fail;refine HX.out.mono ?_;rintro e w1 ⟨rfl,rfl⟩;go_wp2_with fail;go_ret;exact⟨rfl,rfl⟩
theorem tI(F:Nat->Prop):∀k,AC F k
 |0=>fun u v a b w _ _ h=>by have:=rQ a;omega
 |k+1=>NZ F k (tI F k)
theorem eN.ofQ{F:Nat->Prop}{w w':World}{r:aI × Nat}{e:Ending}(h:kZ F w r e w'):eN F w r e w':=by
 obtain⟨rfl,⟨h1,u,h2,h3⟩|⟨h1,h2⟩⟩:=h
 ·exact⟨m8 _ _,Or.inl ⟨h1,u,h2,h3.mono fun _ hb=>Or.inl hb⟩⟩
 ·exact⟨m8 _ _,Or.inr ⟨h1,h2⟩⟩
theorem D5{op:List UInt8}(h1:op≠[61,61])(h2:op≠[33,61])(n m:Int):eM op (aV n) (aV m)=jB op n m:=by
 unfold eM;rw[if_neg h1,if_neg h2,if_neg (by simp[aV]),if_pos (by simp[aV])];rfl
theorem D4{op:List UInt8}(h1:op≠[61,61])(h2:op≠[33,61])(a b:List UInt8):eM op (bI a) (bI b)=GQ op a b:=by
 unfold eM GQ jA;rw[if_neg h1,if_neg h2,if_neg (by simp[bI]),if_neg (by simp[bI])]
 by_cases o0:op=[60]
 ·rw[if_neg (by rw[o0];decide),if_pos ⟨rfl,o0⟩,if_pos o0];rfl
 by_cases o1:op=[60,61]
 ·rw[if_neg (by rw[o1];decide),if_neg (fun h=>o0 h.2),if_pos ⟨rfl,o1⟩,if_neg o0,if_pos o1];rfl
 by_cases o2:op=[43]
 ·rw[if_pos o2,if_neg o0,if_neg o1,if_pos o2];have e:(if (bI a).sort=3 then aR ((bI a).l++(bI b).l) else bI ((bI a).s++(bI b).s))=bI (a++b):=rfl
  simp only[e]
 ·rw[if_neg o2,if_neg (fun h=>o0 h.2),if_neg (fun h=>o1 h.2),if_neg o0,if_neg o1,if_neg o2]
theorem WT{op:List UInt8}(h1:op≠[61,61])(h2:op≠[33,61])(a b:List aI):eM op (aR a) (aR b)=wJ op a b:=by
 unfold eM wJ jA;rw[if_neg h1,if_neg h2,if_neg (by simp[aR]),if_neg (by simp[aR])]
 by_cases o2:op=[43]
 ·rw[if_pos o2,if_pos o2];have e:(if (aR a).sort=3 then aR ((aR a).l++(aR b).l) else bI ((aR a).s++(aR b).s))=aR (a++b):=rfl
  simp only[e]
 ·rw[if_neg o2,if_neg o2,if_neg (by simp[aR]),if_neg (by simp[aR])]
theorem gA{op:List UInt8}(h1:op≠[61,61])(h2:op≠[33,61]){a b:aI}(h:a.sort≠b.sort\/a.sort=1):eM op a b=(bL,2):=by
 unfold eM;rw[if_neg h1,if_neg h2,if_pos h]
theorem OD(op:List UInt8)(F:Nat->Prop)(u v:Value)(a b:aI)(w:World)(hu:PV F w u a)(hv:PV F w v b)(hF:∀k,F k->k<w.heap.size)(hca:aJ a<=400000)(hcb:aJ b<=400000):
 Calls prog 388 #[.string (bs op),u,v] w (eN F w (eM op a b)):=by
 have hbt:=cB op;by_cases o0:op=[61,61]
 ·have e0:((bs op).toList==[61,61])=true:=by rw[hbt,o0];rfl
  have HP:Hid (eM op a b=(bM (cE a b),0)):=by show _=_;unfold eM;rw[if_pos o0]
  have HX:=aB (tI F 400000 u v a b w hu hv hca (by omega) (by omega))
  obtain⟨t,z,rfl⟩:=hu.form;obtain⟨t',z',rfl⟩:=hv.form;clear hu hv hbt o0;rw[HP.out];generalize cE a b=s at*;go_enter Tryz.func388,Tryz.ntmps388;go_wp2_with fail;refine HX.out.mono ?_;rintro e w1 ⟨rfl,rfl⟩;go_wp2_with fail;go_ret;exact eN.ok (m8 _ _) rfl (PV.tru _ _ s)
 have e0:((bs op).toList==[61,61])=false:=by rw[hbt];simpa using o0
 by_cases o1:op=[33,61]
 ·have e1:((bs op).toList==[33,61])=true:=by rw[hbt,o1];rfl
  have HP:Hid (eM op a b=(bM (!cE a b),0)):=by show _=_;unfold eM;rw[if_neg o0,if_pos o1]
  have HX:=aB (tI F 400000 u v a b w hu hv hca (by omega) (by omega))
  obtain⟨t,z,rfl⟩:=hu.form;obtain⟨t',z',rfl⟩:=hv.form;clear hu hv hbt o0 o1;rw[HP.out];generalize cE a b=s at*;go_enter Tryz.func388,Tryz.ntmps388;go_wp2_with fail;refine HX.out.mono ?_;rintro e w1 ⟨rfl,rfl⟩;go_wp2_with fail;go_ret;exact eN.ok (m8 _ _) rfl (PV.tru _ _ (!s))
 have e1:((bs op).toList==[33,61])=false:=by rw[hbt];simpa using o1
 clear hbt;rcases hu.cases with ⟨n,rfl,rfl,h1,h2⟩|⟨s,rfl,rfl⟩|⟨s,rfl,rfl⟩|⟨x,c,l,rfl,rfl,hl⟩
 ·have qa:=lC;rcases hv.cases with ⟨n',rfl,rfl,h1',h2'⟩|⟨s',rfl,rfl⟩|⟨s',rfl,rfl⟩|⟨x',c',l',rfl,rfl,hl'⟩
  ·have qb:=lC;rw[D5 o0 o1];have HX:=aB (XV op F n n' w h1 h2 h1' h2');generalize jB op n n'=r at*;clear hu hv hF o0 o1 hca hcb;go_enter Tryz.func388,Tryz.ntmps388;go_wp2_with fail;refine HX.out.mono ?_;rintro e w1 ⟨rfl,⟨hk,u1,rfl,hp⟩|⟨hk,rfl⟩⟩
   ·have HP:=aB hp;have HK:=aB hk;obtain⟨t1,z1,rfl⟩:=hp.form;clear hp hk;go_wp2_with fail;go_ret;exact eN.ofQ ⟨rfl,Or.inl ⟨HK.out,_,rfl,HP.out⟩⟩
   ·have HK:=aB hk;clear hk;go_wp2_with fail;exact⟨rfl,eN.ofQ ⟨rfl,Or.inr ⟨HK.out,rfl⟩⟩⟩
  ·have qb:=kF;rw[gA o0 o1 (by simp[aV,bM])]
   clear hu hv hF o0 o1 hca hcb;go_enter Tryz.func388,Tryz.ntmps388;go_wp2_with fail;exact⟨rfl,eN.stop (m8 _ _) rfl (by decide)⟩
  ·have qb:=lB;rw[gA o0 o1 (by simp[aV,bI])]
   clear hu hv hF o0 o1 hca hcb;go_enter Tryz.func388,Tryz.ntmps388;go_wp2_with fail;exact⟨rfl,eN.stop (m8 _ _) rfl (by decide)⟩
  ·have qb:=kD;rw[gA o0 o1 (by simp[aV,aR])]
   clear hu hv hF o0 o1 hca hcb;go_enter Tryz.func388,Tryz.ntmps388;go_wp2_with fail;exact⟨rfl,eN.stop (m8 _ _) rfl (by decide)⟩
 ·have qa:=kF;have qa_Str:=kE;have qa_List:=gO;rcases hv.cases with ⟨n',rfl,rfl,h1',h2'⟩|⟨s',rfl,rfl⟩|⟨s',rfl,rfl⟩|⟨x',c',l',rfl,rfl,hl'⟩
  ·have qb:=lC;rw[gA o0 o1 (by simp[bM,aV])]
   clear hu hv hF o0 o1 hca hcb;go_enter Tryz.func388,Tryz.ntmps388;go_wp2_with fail;exact⟨rfl,eN.stop (m8 _ _) rfl (by decide)⟩
  ·have qb:=kF;rw[gA o0 o1 (by simp[bM])]
   clear hu hv hF o0 o1 hca hcb;go_enter Tryz.func388,Tryz.ntmps388;go_wp2_with fail;exact⟨rfl,eN.stop (m8 _ _) rfl (by decide)⟩
  ·have qb:=lB;rw[gA o0 o1 (by simp[bM,bI])]
   clear hu hv hF o0 o1 hca hcb;go_enter Tryz.func388,Tryz.ntmps388;go_wp2_with fail;exact⟨rfl,eN.stop (m8 _ _) rfl (by decide)⟩
  ·have qb:=kD;rw[gA o0 o1 (by simp[bM,aR])]
   clear hu hv hF o0 o1 hca hcb;go_enter Tryz.func388,Tryz.ntmps388;go_wp2_with fail;exact⟨rfl,eN.stop (m8 _ _) rfl (by decide)⟩
 ·have qa:=lB;have qa_Str:=jZ;rcases hv.cases with ⟨n',rfl,rfl,h1',h2'⟩|⟨s',rfl,rfl⟩|⟨s',rfl,rfl⟩|⟨x',c',l',rfl,rfl,hl'⟩
  ·have qb:=mJ;rw[gA o0 o1 (by simp[bI,aV])]
   clear hu hv hF o0 o1 hca hcb;go_enter Tryz.func388,Tryz.ntmps388;go_wp2_with fail;exact⟨rfl,eN.stop (m8 _ _) rfl (by decide)⟩
  ·have qb:=kE;rw[gA o0 o1 (by simp[bI,bM])]
   clear hu hv hF o0 o1 hca hcb;go_enter Tryz.func388,Tryz.ntmps388;go_wp2_with fail;exact⟨rfl,eN.stop (m8 _ _) rfl (by decide)⟩
  ·have qb:=jZ;rw[D4 o0 o1];rw[kM] at hca hcb;have HX:=aB (XQ op F s s' w (by omega))
   generalize GQ op s s'=r at*;clear hu hv hF o0 o1 hca hcb;go_enter Tryz.func388,Tryz.ntmps388;go_wp2_with fail;refine HX.out.mono ?_;rintro e w1 ⟨rfl,⟨hk,u1,rfl,hp⟩|⟨hk,rfl⟩⟩
   ·have HP:=aB hp;have HK:=aB hk;obtain⟨t1,z1,rfl⟩:=hp.form;clear hp hk;go_wp2_with fail;go_ret;exact eN.ofQ ⟨rfl,Or.inl ⟨HK.out,_,rfl,HP.out⟩⟩
   ·have HK:=aB hk;clear hk;go_wp2_with fail;exact⟨rfl,eN.ofQ ⟨rfl,Or.inr ⟨HK.out,rfl⟩⟩⟩
  ·have qb:=lP;rw[gA o0 o1 (by simp[bI,aR])]
   clear hu hv hF o0 o1 hca hcb;go_enter Tryz.func388,Tryz.ntmps388;go_wp2_with fail;exact⟨rfl,eN.stop (m8 _ _) rfl (by decide)⟩
 ·have qa:=kD;have qa_Str:=lP;have qa_List:=gN;rcases hv.cases with ⟨n',rfl,rfl,h1',h2'⟩|⟨s',rfl,rfl⟩|⟨s',rfl,rfl⟩|⟨x',c',l',rfl,rfl,hl'⟩
  ·have qb:=iW;rw[gA o0 o1 (by simp[aR,aV])]
   clear hu hv hF o0 o1 hca hcb;go_enter Tryz.func388,Tryz.ntmps388;go_wp2_with fail;exact⟨rfl,eN.stop (m8 _ _) rfl (by decide)⟩
  ·have qb:=gO;rw[gA o0 o1 (by simp[aR,bM])]
   clear hu hv hF o0 o1 hca hcb;go_enter Tryz.func388,Tryz.ntmps388;go_wp2_with fail;exact⟨rfl,eN.stop (m8 _ _) rfl (by decide)⟩
  ·have qb:=kC;rw[gA o0 o1 (by simp[aR,bI])]
   clear hu hv hF o0 o1 hca hcb;go_enter Tryz.func388,Tryz.ntmps388;go_wp2_with fail;exact⟨rfl,eN.stop (m8 _ _) rfl (by decide)⟩
  ·have qb:=gN;rw[WT o0 o1];have HX:=aB (SU op F x x' c c' l l' w hl hl' hF (by omega))
   generalize wJ op l l'=r at*;clear hu hv hF o0 o1 hca hcb hl hl';go_enter Tryz.func388,Tryz.ntmps388;go_wp2_with fail;refine HX.out.mono ?_;rintro e w1 ⟨hb1,⟨hk,u1,rfl,hp⟩|⟨hk,rfl⟩⟩
   ·have HP:=aB hp;have HK:=aB hk;have HB:=aB hb1;obtain⟨t1,z1,rfl⟩:=hp.form;clear hp hk hb1;go_wp2_with fail;go_ret;exact⟨HB.out,Or.inl ⟨HK.out,_,rfl,HP.out⟩⟩
   ·have HK:=aB hk;have HB:=aB hb1;clear hk hb1;go_wp2_with fail;exact⟨rfl,HB.out,Or.inr ⟨HK.out,rfl⟩⟩
end Go.Proofs.YtblbkfdhjfppkaaGreatDoor
