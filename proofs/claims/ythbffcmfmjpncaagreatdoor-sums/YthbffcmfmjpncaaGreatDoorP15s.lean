/- Instructions that leave the frames where they lie: what they come to. -/
import Derived.Test.YthbffcmfmjpncaaGreatDoorP12s
import Derived.Test.YthbffcmfmjpncaaGreatDoorP15as
set_option linter.defProp false
set_option maxRecDepth 100000
set_option maxHeartbeats 4000000
namespace Go.Proofs.YthbffcmfmjpncaaGreatDoor
open Hs
open _root_.Go.Proofs.Tryz
open Go.RowKit
variable{k:Nat}{x:aF}
def jA(fp:Nat->Value)(F:Nat->Prop)(b_ sb gf:Nat)(t0 s0:Value)(own:List Nat)(w:World)(m:bO)(w':World):Prop:=
 Kept own w w'/\∃G cap tv u_ v_,Ext F G w.heap.size/\dI fp G b_ w' sb gf cap t0 tv u_ s0 v_ m/\∀k∈aI sb gf u_ v_,k∈own\/w.heap.size<=k
def uZ(fp:Nat->Value)(F:Nat->Prop)(b_ sb gf:Nat)(t0 s0:Value)(own:List Nat)(w:World)(w_:List aF)(tape:List Int)(out:List (List UInt8))(r:aF × Nat)(e:Ending)(w':World):Prop:=
 XX r.2 e/\jA fp F b_ sb gf t0 s0 own w ⟨w_++[r.1],tape,out⟩ w'
section
variable {fp:Nat->Value} {F:Nat->Prop} {b_:Nat} {w:World} {sb gf cap:Nat} {t0 tv u_ s0:Value} {v_:List FVal} {w_:List aF} {f:aF} {tape:List Int} {out:List (List UInt8)}
def uZ.ok{own:List Nat}{r:aF × Nat}{g:aF}{w':World}(a:r=(g,0))(h:jA fp F b_ sb gf t0 s0 own w ⟨w_++[g],tape,out⟩ w'):uZ fp F b_ sb gf t0 s0 own w w_ tape out r (.returned (.tuple #[])) w':=by
 subst a;exact⟨F7 ⟨rfl,rfl⟩,h⟩
def uZ.stop{own:List Nat}{r:aF × Nat}{g:aF}{k:Nat}{w':World}(b:r=(g,k))(a:k≠0)(h:jA fp F b_ sb gf t0 s0 own w ⟨w_++[g],tape,out⟩ w'):uZ fp F b_ sb gf t0 s0 own w w_ tape out r (jQ k) w':=by
 subst b;exact⟨F5 ⟨a,rfl⟩,h⟩
def Mid.doneG{n:Nat}{own:List Nat}{m:bO}{w':World}{G:Nat->Prop}{d:Obj}(h:Mid fp b_ sb gf n t0 s0 own (w.alloc d) G m w')(l:Ext F G w.heap.size):jA fp F b_ sb gf t0 s0 own w m w':=by
 obtain⟨i,p,b,e,a,c,q,g,j⟩:=h
 exact⟨(Kept.of_below (own:=own) ((F9 _ w).alloc (F6 _) d)).trans i (λx o=>F7 o),G,b,e,a,c,l,g,λk f=>by
  rcases j k f with h|h
  ·exact F7 h
  ·exact F5 (G6 s_ h)⟩
def IS(fp:Nat->Value)(F:Nat->Prop)(b_:Nat)(w:World)(sb d C:Nat)(M U b O:Value)(E:List FVal)(c:List aF)(f:aF)(j:List Int)(B:List (List UInt8))(u:Value)(a:aH)
 (h:dI fp F b_ w sb d C M U b O E ⟨c++[f],j,B⟩) (hu:PV F w u a) (L:aT a<=200) (Z:f.ops.length<=100000) (X:c.length<=15) (y:b_<=w.heap.size):
 Calls prog 280 #[.agg #[u],.pointer (some ⟨sb,0,none⟩)] w λe n=>e=.returned (.tuple #[])/\jA fp F b_ sb d M O (aI sb d b E) w ⟨c++[f.push a],j,B⟩ n:=by
 obtain⟨t,z,rfl⟩:=hu.form;have g:Below w.heap.size w (w.alloc (.cells #[.iface t z] 242)):=(F9 _ _).alloc (F6 _) _;have aa:(w.alloc (.cells #[.iface t z] 242)).heap[w.heap.size]?=some (.cells #[.iface t z] 242 (0,0)):=aU _ _ rfl _;have S:=h.grow g (λ_ h=>h) (λ_ h=>F7 h)
 have P:PV F (w.alloc (.cells #[.iface t z] 242)) (.iface t z) a:=hu.keep λk N=>g.block k (h.apart k N).1
 generalize hW:w.alloc (.cells #[.iface t z] 242)=K at*;have HW:=aB hW;obtain⟨i,v,p,rfl,ac,hv,G,o,V,k0,k1,k2,k3,k4,k5⟩:=S.top;obtain⟨⟨xs,m,I⟩,A⟩:=hv.ops
 have H:v.ov.ownBlock≠some d:=λe=>by
  have:=(I5.1 (I5.1 S.nodup).2).1;exact this (by simp[bJ,FVal.owns,e])
 have HT:Hid (∀W,bV K W->Calls prog 95 #[.pointer (some ⟨sb,0,none⟩)] W λe n=>e=.returned (.pointer (some ⟨d,i.length*6,none⟩))/\bV K n):=λW l=>by
  refine(pZ sb d i.length C W (iJ l.heap (aA G rfl)) o_).mono ?_
  rintro e n ⟨Q,q,rfl⟩;exact⟨Q,l.trans (bV.drewN _ _)⟩
 have HP:Hid (∀W,bV K W->Calls prog 281 #[.pointer (some ⟨d,i.length*6,none⟩),.iface t z] W λe n=>e=.returned (.tuple #[])/\jA fp F b_ sb d M O (aI sb d b (i++[v])) w ⟨c++[f.push a],j,B⟩ n):=λW l=>by
  have J:=l.below;have hR:=S.grow J (λ_ h=>h) (λ_ h=>F7 h)
  refine(uI b_ d (i.length*6) f.ops.length p v.ov xs t z W (by rw[l.heap];exact o) k5 (bB m λk _=>by rw[l.heap]) H (by rw[l.heap];exact G6 y g.size) o_).mono ?_
  rintro e n ⟨Q,s,p1,p2,T,p4⟩;obtain⟨q1,q2⟩:=hR.pushed (cur:=p) (by rw[l.heap];exact o) (I.keep λk _=>by rw[l.heap]) (P.keep λk _=>by rw[l.heap]) L p1 p2 T p4
  have N:Kept (aI sb d b (i++[v])) w n:=(Kept.of_below (own:=aI sb d b (i++[v])) (g.trans (J.mono g.size))).trans q2 λx hx=>F7 hx
  refine⟨Q,N,F,C,U,b,_,Ext.refl _ _,q1,λk D=>?_⟩
  have ab:W.heap.size=K.heap.size:=by rw[l.heap]
  have h1:aI sb d b (i++[{ v with ov:=s }])=(sb::d::(b.ownBlock.toList++bJ i))++({ v with ov:=s }:FVal).owns:=by simp[aI,bJ]
  have h2:aI sb d b (i++[v])=(sb::d::(b.ownBlock.toList++bJ i))++v.owns:=by simp[aI,bJ]
  rw[h1] at D;rw[h2];rcases G8.1 D with r|r
  ·exact F7 (J6 _ r)
  ·rcases G8.1 r with r|r
   ·exact F7 (J9 _ (J6 _ r))
   ·have h4:s.ownBlock=some k:=by simpa using r
    rcases T k h4 with Y|Y
    ·exact F7 (J9 _ (by simp[FVal.owns,Y]))
    ·exact F5 (by have:=g.size;omega)
 clear m I A H;exact vL w K sb d (i.length*6) t z _ HW.out HT HP
def QM(op:List UInt8)(I:op=[45]\/op=[33])(h:dI fp F b_ w sb gf cap t0 tv u_ s0 v_ ⟨w_++[f],tape,out⟩)(d:w_.length<=15)(g:b_<=w.heap.size)(j:f.ops.length<=99000)(q:∃y a,f.ops=y++[a]):
 Calls prog 293 #[.agg #[.string (bs op)],.pointer (some ⟨sb,0,none⟩)] w (uZ fp F b_ sb gf t0 s0 (aI sb gf u_ v_) w w_ tape out (aP (.unary op) f)):=by
 obtain⟨y,a,p⟩:=q;have s:=h.mid g (.cells #[.string (bs op)] 317);have K:f.pop.ops.length<=100000:=by rw[FD p];rw[p,F8] at j;omega
 have i:∀(W:World) (v:Value),PV F W v a->Calls prog 294 #[.string (bs op),v] W (iZ F W (eE (op++[120]) a)):=λW v C=>by
  rcases I with rfl|rfl
  ·exact yR 45 (F7 rfl) F v a W C
  ·exact yR 33 (F5 rfl) F v a W C
 have A:aP (.unary op) f=if (eE (op++[120]) a).2=0 then (f.pop.push (eE (op++[120]) a).1,0) else (f.pop,(eE (op++[120]) a).2):=by simp[aP,xB p]
 have m:=SF (op++[120]) a;generalize eE (op++[120]) a=r at i A m;rw[A]
 have D:Hid (∀W,bV (w.alloc (.cells #[.string (bs op)] 317)) W->Calls prog 114 #[.pointer (some ⟨gf,w_.length*6,none⟩)] W λe b=>∃t z,e=.returned (.iface t z)/\PV F b (.iface t z) a/\Mid fp b_ sb gf w_.length t0 s0 (aI sb gf u_ v_) (w.alloc (.cells #[.string (bs op)] 317)) F ⟨w_++[f.pop],tape,out⟩ b):=λW M=>by
  refine((s.same M).pop p o_).mono ?_
  rintro e b ⟨t,z,x,H,n,L⟩;exact⟨t,z,x,H,L⟩
 by_cases l:r.2=0
 ·rw[if_pos l];refine(LH w _ sb gf (w_.length*6) op (λb=>jA fp F b_ sb gf t0 s0 (aI sb gf u_ v_) w ⟨w_++[f.pop.push r.1],tape,out⟩ b) (λt z W=>PV F W (.iface t z) a/\Mid fp b_ sb gf w_.length t0 s0 (aI sb gf u_ v_) (w.alloc (.cells #[.string (bs op)] 317)) F ⟨w_++[f.pop],tape,out⟩ W) (λt z W=>PV F W (.iface t z) r.1/\Mid fp b_ sb gf w_.length t0 s0 (aI sb gf u_ v_) (w.alloc (.cells #[.string (bs op)] 317)) F ⟨w_++[f.pop],tape,out⟩ W) rfl (s.topS d) D (λW t z c=>?_) (λW t z c=>?_) (λW t z c=>?_)).mono ?_
  ·have k:=Mid.box h c.2;exact⟨aA k rfl,aD k⟩
  ·refine(i W _ c.1).mono ?_;rintro e b ⟨rfl,⟨_,u,rfl,B⟩|⟨o,_⟩⟩
   ·obtain⟨J,G,rfl⟩:=B.form;exact⟨J,G,rfl,B,c.2⟩
   ·exact absurd l o
  ·refine(c.2.push c.1 m K).mono ?_;rintro e b ⟨x,E⟩;exact⟨x,E.doneG (Ext.refl _ _)⟩
  ·rintro e b ⟨rfl,n⟩;exact uZ.ok rfl n
 ·rw[if_neg l];refine(EJ w _ sb gf (w_.length*6) op r.2 (λb=>jA fp F b_ sb gf t0 s0 (aI sb gf u_ v_) w ⟨w_++[f.pop],tape,out⟩ b) (λt z W=>PV F W (.iface t z) a/\Mid fp b_ sb gf w_.length t0 s0 (aI sb gf u_ v_) (w.alloc (.cells #[.string (bs op)] 317)) F ⟨w_++[f.pop],tape,out⟩ W) rfl (s.topS d) D (λW t z c=>?_) (λW t z c=>?_)).mono ?_
  ·have k:=Mid.box h c.2;exact⟨aA k rfl,aD k⟩
  ·refine(i W _ c.1).mono ?_;rintro e b ⟨rfl,⟨o,_⟩|⟨o,rfl⟩⟩
   ·exact absurd o l
   ·exact⟨rfl,c.2.doneG (Ext.refl _ _)⟩
  ·rintro e b ⟨rfl,n⟩;exact uZ.stop rfl l n
def OU(op:List UInt8)(h:dI fp F b_ w sb gf cap t0 tv u_ s0 v_ ⟨w_++[f],tape,out⟩)(C:w_.length<=15)(j:b_<=w.heap.size)(p:f.ops.length<=99000)(J:∃H a b,f.ops=H++[a,b]):
 Calls prog 305 #[.agg #[.string (bs op)],.pointer (some ⟨sb,0,none⟩)] w (uZ fp F b_ sb gf t0 s0 (aI sb gf u_ v_) w w_ tape out (aP (.binary op) f)):=by
 obtain⟨H,a,b,n⟩:=J;have n:f.ops=(H++[a])++[b]:=by rw[n];simp
 have N:=h.mid j (.cells #[.string (bs op)] 350);have i:f.pop.ops=H++[a]:=FD n;have A:=p;rw[n,F8,F8] at A;have M:f.pop.ops.length<=100000:=by rw[i,F8];omega
 have L:f.pop.pop.ops.length<=100000:=by rw[FD i];omega
 have O:aP (.binary op) f=if (cD op a b).2=0 then (f.pop.pop.push (cD op a b).1,0) else (f.pop.pop,(cD op a b).2):=by simp[aP,xB n,xB i]
 have E:=QP op a b;have x:∀(W:World) (u v:Value),PV F W u a->PV F W v b->(∀k,F k->k<W.heap.size)->aT a<=200->aT b<=200->Calls prog 306 #[.string (bs op),u,v] W (iE F W (cD op a b)):=λW u v c d m I y=>JA op F u v a b W c d m o_ o_
 generalize cD op a b=r at x O E;rw[O]
 refine(CE w _ sb gf (w_.length*6) op r.2 (λg=>r.2=0/\jA fp F b_ sb gf t0 s0 (aI sb gf u_ v_) w ⟨w_++[f.pop.pop.push r.1],tape,out⟩ g) (λg=>r.2≠0/\jA fp F b_ sb gf t0 s0 (aI sb gf u_ v_) w ⟨w_++[f.pop.pop],tape,out⟩ g)
  (λt z W=>PV F W (.iface t z) b/\aT b<=200/\Mid fp b_ sb gf w_.length t0 s0 (aI sb gf u_ v_) (w.alloc (.cells #[.string (bs op)] 350)) F ⟨w_++[f.pop],tape,out⟩ W)
  (λt z o s W=>PV F W (.iface t z) b/\aT b<=200/\PV F W (.iface o s) a/\aT a<=200/\Mid fp b_ sb gf w_.length t0 s0 (aI sb gf u_ v_) (w.alloc (.cells #[.string (bs op)] 350)) F ⟨w_++[f.pop.pop],tape,out⟩ W)
  (λt z W=>r.2=0/\∃G,Ext F G w.heap.size/\PV G W (.iface t z) r.1/\Mid fp b_ sb gf w_.length t0 s0 (aI sb gf u_ v_) (w.alloc (.cells #[.string (bs op)] 350)) G ⟨w_++[f.pop.pop],tape,out⟩ W) rfl (N.topS C) (λW Y=>?_) (λW t z l=>?_) (λW t z o s l=>?_) (λW t z o s l=>?_) (λW t z l=>?_)).mono ?_
 ·refine((N.same Y).pop n o_).mono ?_
  rintro e g ⟨t,z,D,c,d,m⟩;exact⟨t,z,D,c,d,m⟩
 ·obtain⟨c,d,m⟩:=l;refine(m.popK i M).mono ?_;rintro e g ⟨o,s,D,Q,X,S,Z⟩;exact⟨o,s,D,c.keep Z,d,Q,X,S⟩
 ·have q:=Mid.box h l.2.2.2.2;exact⟨aA q rfl,aD q⟩
 ·obtain⟨c,d,m,I,y⟩:=l;refine(x W _ _ m c (λk K=>(y.apart k K).1) I d).mono ?_
  rintro e g ⟨q,⟨B,u,rfl,P⟩|⟨B,rfl⟩⟩
  ·obtain⟨U,T,rfl⟩:=P.form;exact F7 ⟨U,T,rfl,B,Grow F W g,⟨λ_=>F7,λk K=>K.imp_right λc=>G6 (G6 s_ y.1.size) c.1⟩,P,y.grow q (λ_=>F7) λ_ h=>h⟩
  ·exact F5 ⟨rfl,B,(y.grow q (λ_ h=>h) λ_=>F7).doneG (Ext.refl _ _)⟩
 ·obtain⟨B,G,V,c,d⟩:=l;refine(d.push c E L).mono ?_;rintro e g ⟨D,I⟩;exact⟨D,B,I.doneG V⟩
 ·rintro e g (⟨rfl,c,d⟩|⟨rfl,c,d⟩)
  ·exact uZ.ok (if_pos c) d
  ·exact uZ.stop (if_neg c) c d
end
def BG(w:World)(b:ByteArray)(P:Value->World->Prop)
 (c:Hid (Calls prog 22 #[.func (.func 70) #[] #[.pointer (some ⟨w.heap.size,0,none⟩),.pointer (some ⟨w.heap.size+1,0,none⟩)]] ((w.alloc (.cells #[.string b] 9)).alloc (.cells #[.nilIface] 92)) λe a=>∃(k l:Nat) (u:Value),e=.returned (.tuple #[.int .i64 k,.int .i64 l])/\(u=.nilIface\/∃t z,u=.iface t z)/\a.cell? ⟨w.heap.size+1,0,none⟩=some u/\a.frozen? ⟨w.heap.size+1,0,none⟩=false/\w.heap.size+1<a.heap.size/\P (.tuple #[u,.int .i64 k,.int .i64 l]) (a.setCell ⟨w.heap.size+1,0,none⟩ u))):
 Calls prog 38 #[.string b] w λe a=>∃v,e=.returned v/\P v a:=by
 have f:=zB;go_enter func38,ntmps38;go_wp2_with fail;refine c.out.mono ?_;rintro e m ⟨k,l,u,rfl,j,g,o,n,d⟩;have i:=aB d;clear d c;rcases j with rfl|⟨t,z,rfl⟩
 all_goals
  go_wp2_with fail;refine bodyPost_ret (by simp[results,results38,go_sem,g];rfl) rfl ?_
  exact⟨_,rfl,i.out⟩
def NL(w:World)(a q:Nat)(o l g:Option Addr)(m c1 r j i k:Nat)(t:TypeId)(z:Value)(P:Value->World->Prop)(A:Value->World->Prop)(B:Nat->Nat->World->Prop)
 (y:Hid (Calls prog 112 #[.agg #[.int .i64 a,.slice o m c1,.slice l r j,.slice g i k,.int .i64 q],.iface t z] (w.alloc (.cells #[.int .i64 a,.slice o m c1,.slice l r j,.slice g i k,.int .i64 q] 72)) λe c=>∃p,e=.returned (.agg #[.pointer p,.int .i64 0,.int .i64 0,.pointer none,.slice none 0 0,.slice none 0 0])/\A (.pointer p) c))
 (I:Hid (∀p W,A (.pointer p) W->Calls prog 104 #[.func (.func 113) #[.pointer (some ⟨W.heap.size+1,0,none⟩)] #[]] ((W.alloc (.cells #[.pointer p,.int .i64 0,.int .i64 0,.pointer none,.slice none 0 0,.slice none 0 0] 136)).alloc (.cells #[.int .i64 0,.slice (some ⟨W.heap.size,0,none⟩) 1 1,.slice none 0 0,.slice none 0 0,.int .i64 0] 72)) λe c=>∃s:Nat,e=.returned (.int .i64 s)/\B s W.heap.size c))
 (n:Hid (∀s gf W,s≠0->B s gf W->P (.tuple #[.string (bs []),.int .i64 s]) W))
 (u:Hid (∀gf W,B 0 gf W->Calls prog 95 #[.pointer (some ⟨gf+1,0,none⟩)] W λe c=>e=.returned (.pointer (some ⟨gf,0,none⟩))/\Calls prog 114 #[.pointer (some ⟨gf,0,none⟩)] c λe K=>∃t z,e=.returned (.iface t z)/\Calls prog 94 #[.iface t z] K λe x=>∃s,e=.returned (.string s)/\P (.tuple #[.string s,.int .i64 0]) x)):
 Calls prog 75 #[.agg #[.int .i64 a,.slice o m c1,.slice l r j,.slice g i k,.int .i64 q],.iface t z] w λe c=>∃v,e=.returned v/\P v c:=by
 have O:=zB;go_enter func75,ntmps75;go_wp2_with fail;refine y.out.mono ?_;rintro e L ⟨p,rfl,F⟩;have b:=aB (I.out _ _ F);generalize N:L.heap.size=gf at b;clear F y I;go_wp2_with fail;refine b.out.mono ?_;rintro e K ⟨s,rfl,f⟩;by_cases J:s=0
 ·subst J;have d:=aB (u.out _ _ f);clear f b u n;go_wp2_with fail;refine d.out.mono ?_;rintro e x ⟨rfl,H⟩;have C:=aB H;clear H d;go_wp2_with fail;refine C.out.mono ?_;rintro e T ⟨U,V,rfl,E⟩;have D:=aB E;clear E C;go_wp2_with fail;refine D.out.mono ?_;rintro e X ⟨Y,rfl,G⟩;have Q:=aB G;clear G D;go_wp2_with fail;go_ret2
  exact⟨_,rfl,Q.out⟩
 ·have S:=aB (n.out _ _ _ J f);have M:¬(s:Int)=0:=o_
  clear f b u n;go_wp2_with fail;go_ret2
  exact⟨_,rfl,S.out⟩
def CF(w:World)(a q:Nat)(L C J:Option Addr)(H c1 I B K F:Nat)(t:TypeId)(z:Value)(R:Value->World->Prop)(A:Nat->Nat->World->Prop)
 (HF:Hid (∀W,Below w.heap.size w W->W.heap[w.heap.size]?=some (.cells #[.int .i64 a,.slice L H c1,.slice C I B,.slice J K F,.int .i64 q] 72 (0,0))->W.heap[w.heap.size+1]?=some (.cells #[.iface t z] 92 (0,0))->W.heap.size=w.heap.size+4->Calls prog 22 #[.func (.func 72) #[] #[.pointer (some ⟨w.heap.size+1,0,none⟩),.pointer (some ⟨w.heap.size,0,none⟩)]] W λe N=>∃k l:Nat,e=.returned (.tuple #[.int .i64 k,.int .i64 l])/\Below W.heap.size W N/\A k l N))
 (HN:Hid (∀k l W r,k≠0->A k l W->Below w.heap.size W r->R (.agg #[.string (bs []),.int .i64 0,.int .i64 k,.int .i64 l]) r))
 (HE:Hid (∀l W r,A 0 l W->Fr (w.heap.size+3) W r->Calls prog 75 #[.agg #[.int .i64 a,.slice L H c1,.slice C I B,.slice J K F,.int .i64 q],.iface t z] r λe N=>∃(s:ByteArray) (O:Nat),e=.returned (.tuple #[.string s,.int .i64 O])/\Below r.heap.size r N/\∀S,Below w.heap.size N S->R (.agg #[.string s,.int .i64 O,.int .i64 0,.int .i64 l]) S)):
 Calls prog 39 #[.agg #[.int .i64 a,.slice L H c1,.slice C I B,.slice J K F,.int .i64 q],.iface t z] w λe N=>∃v,e=.returned v/\R v N:=by
 have ag:=zB;obtain⟨n,c⟩:=E_ ((((w.alloc (.cells #[.int .i64 a,.slice L H c1,.slice C I B,.slice J K F,.int .i64 q] 72)).alloc (.cells #[.iface t z] 92)).alloc (.cells #[.string ⟨#[]⟩,.int .i64 0,.int .i64 0,.int .i64 0] 96)).alloc (.cells #[.string ⟨#[]⟩,.int .i64 0,.int .i64 0,.int .i64 0] 96));have E:Below w.heap.size w n:=by rw[c];exact((((F9 _ w).alloc (F6 _) _).alloc s_ _).alloc t_ _).alloc t_ _
 have k0:n.heap[w.heap.size]?=some (.cells #[.int .i64 a,.slice L H c1,.slice C I B,.slice J K F,.int .i64 q] 72 (0,0)):=by rw[c];exact cV _ _ t_ _ (cV _ _ t_ _ (cV _ _ s_ _ (aU _ _ rfl _)))
 have k1:n.heap[w.heap.size+1]?=some (.cells #[.iface t z] 92 (0,0)):=by rw[c];exact cV _ _ s_ _ (cV _ _ s_ _ (aU _ _ s_ _))
 have k2:n.heap[w.heap.size+2]?=some (.cells #[.string ⟨#[]⟩,.int .i64 0,.int .i64 0,.int .i64 0] 96 (0,0)):=by rw[c];exact cV _ _ s_ _ (aU _ _ s_ _)
 have k3:n.heap[w.heap.size+3]?=some (.cells #[.string ⟨#[]⟩,.int .i64 0,.int .i64 0,.int .i64 0] 96 (0,0)):=by rw[c];exact aU _ _ s_ _
 have U:n.heap.size=w.heap.size+4:=by rw[c];simp
 have D:=aB (HF.out n E k0 k1 U);have Q:=aB E;have Y:=aB k0;have K1:=aB k1;have K2:=aB k2;have Z:=aB k3;have HZ:=aB U;have HW:=aB c;clear E k0 k1 k2 k3 U c HF;go_enter func39,ntmps39;go_wp2_with fail;rw[show (((w.alloc (.cells #[.int .i64 a,.slice L H c1,.slice C I B,.slice J K F,.int .i64 q] 72)).alloc (.cells #[.iface t z] 92)).alloc (.cells #[.string ⟨#[]⟩,.int .i64 0,.int .i64 0,.int .i64 0] 96)).alloc (.cells #[.string ⟨#[]⟩,.int .i64 0,.int .i64 0,.int .i64 0] 96)=n from HW.out.symm]
 refine D.out.mono ?_;rintro e b ⟨k,l,rfl,d,X⟩;have U:=HZ.out;have y:b.heap[w.heap.size]?=_:=(d.block _ o_).trans Y.out
 have V:b.heap[w.heap.size+1]?=_:=(d.block _ o_).trans K1.out
 have g:b.heap[w.heap.size+2]?=_:=(d.block _ o_).trans K2.out
 have f:b.heap[w.heap.size+3]?=_:=(d.block _ o_).trans Z.out
 have ae:=aD f;have d0:b.cell? ⟨w.heap.size+3,0,none⟩=some (.string ⟨#[]⟩):=aA f rfl;have d1:b.cell? ⟨w.heap.size+3,1,none⟩=some (.int .i64 0):=aA f rfl;have d2:b.cell? ⟨w.heap.size+3,2,none⟩=some (.int .i64 0):=aA f rfl;have d3:b.cell? ⟨w.heap.size+3,3,none⟩=some (.int .i64 0):=aA f rfl;have f0:=aE (i:=0) f;have f1:=aE (i:=1) f;have f2:=aE (i:=2) f;have f3:=aE (i:=3) f;have e0:b.cell? ⟨w.heap.size+2,0,none⟩=some (.string ⟨#[]⟩):=aA g rfl;have e1:b.cell? ⟨w.heap.size+2,1,none⟩=some (.int .i64 0):=aA g rfl;have e2:b.cell? ⟨w.heap.size+2,2,none⟩=some (.int .i64 0):=aA g rfl;have e3:b.cell? ⟨w.heap.size+2,3,none⟩=some (.int .i64 0):=aA g rfl;have g0:=aE (i:=0) g;have g1:=aE (i:=1) g;have g2:=aE (i:=2) g;have g3:=aE (i:=3) g;have af:=aD g
 have H2b:Hid (∀u v:Value,((b.setCell ⟨w.heap.size+1+1+1,2,none⟩ u).setCell ⟨w.heap.size+1+1+1,3,none⟩ v).heap[w.heap.size+1+1]?=some (.cells #[.string ⟨#[]⟩,.int .i64 0,.int .i64 0,.int .i64 0] 96 (0,0))):=λu v=>by
  rw[G0 _ _ _ _ (by show w.heap.size+1+1≠w.heap.size+1+1+1;omega),G0 _ _ _ _ (by show w.heap.size+1+1≠w.heap.size+1+1+1;omega)];exact g
 by_cases hk:k=0
 ·subst hk;have M:Fr (w.heap.size+3) b ((b.setCell ⟨w.heap.size+1+1+1,2,none⟩ (.int .i64 0)).setCell ⟨w.heap.size+1+1+1,3,none⟩ (.int .i64 l)):=((Fr.refl _ _).setCell (p:=⟨w.heap.size+1+1+1,2,none⟩) (F7 rfl) _).setCell (p:=⟨w.heap.size+1+1+1,3,none⟩) (F7 rfl) _;have T:=aB (HE.out l b _ X M);have S3:=aB (aO (aO f (i:=2) (u:=.int .i64 0)) (i:=3) (u:=.int .i64 l));have P:=aB M;have i0:b.cell? ⟨w.heap.size,0,none⟩=some (.int .i64 a):=aA y rfl;have i1:b.cell? ⟨w.heap.size,1,none⟩=some (.slice L H c1):=aA y rfl;have i2:b.cell? ⟨w.heap.size,2,none⟩=some (.slice C I B):=aA y rfl;have i3:b.cell? ⟨w.heap.size,3,none⟩=some (.slice J K F):=aA y rfl;have i4:b.cell? ⟨w.heap.size,4,none⟩=some (.int .i64 q):=aA y rfl;have i5:b.cell? ⟨w.heap.size+1,0,none⟩=some (.iface t z):=aA V rfl;have aa:=aD y;have ad:=aD V;clear y V g f X D HE HN Q Y K1 K2 Z HW HZ M d e0 e1 e2 e3 g0 g1 g2 g3 f0 f1;go_wp2_with fail;refine T.out.mono ?_;rintro e m ⟨s,O,rfl,G,h2⟩;have ac:=P.out.size;have x:m.heap[w.heap.size+1+1+1]?=_:=(G.block _ o_).trans S3.out
  have j:m.heap[w.heap.size+1+1]?=_:=(G.block _ o_).trans (H2b.out _ _)
  have b0:m.cell? ⟨w.heap.size+1+1+1,0,none⟩=some (.string ⟨#[]⟩):=aA x rfl;have b1:m.cell? ⟨w.heap.size+1+1+1,1,none⟩=some (.int .i64 0):=aA x rfl;have b2:m.cell? ⟨w.heap.size+1+1+1,2,none⟩=some (.int .i64 0):=aA x rfl;have b3:m.cell? ⟨w.heap.size+1+1+1,3,none⟩=some (.int .i64 l):=aA x rfl;have j0:=aE (i:=0) x;have j1:=aE (i:=1) x;have e0:m.cell? ⟨w.heap.size+1+1,0,none⟩=some (.string ⟨#[]⟩):=aA j rfl;have e1:m.cell? ⟨w.heap.size+1+1,1,none⟩=some (.int .i64 0):=aA j rfl;have e2:m.cell? ⟨w.heap.size+1+1,2,none⟩=some (.int .i64 0):=aA j rfl;have e3:m.cell? ⟨w.heap.size+1+1,3,none⟩=some (.int .i64 0):=aA j rfl;have g0:=aE (i:=0) j;have g1:=aE (i:=1) j;have g2:=aE (i:=2) j;have g3:=aE (i:=3) j;have m2:=aD j;have m3:=aD x;have H2:=aB h2
  have T2:Hid (((m.setCell ⟨w.heap.size+1+1+1,0,none⟩ (.string s)).setCell ⟨w.heap.size+1+1+1,1,none⟩ (.int .i64 O)).heap[w.heap.size+1+1]?=some (.cells #[.string ⟨#[]⟩,.int .i64 0,.int .i64 0,.int .i64 0] 96 (0,0))):=by
   show _=_
   rw[G0 _ _ _ _ (by show w.heap.size+1+1≠w.heap.size+1+1+1;omega),G0 _ _ _ _ (by show w.heap.size+1+1≠w.heap.size+1+1+1;omega)];exact j
  clear h2 G j x T P S3 H2b i0 i1 i2 i3 i4 i5 d0 d1 d2 d3 f2 f3;go_wp2_with fail;have o:=aO (aO (aO (aO T2.out (i:=0) (u:=.string s)) (i:=1) (u:=.int .i64 O)) (i:=2) (u:=.int .i64 0)) (i:=3) (u:=.int .i64 l);refine bodyPost_ret (v:=.agg #[.string s,.int .i64 O,.int .i64 0,.int .i64 l]) (by simp[results,results39,go_sem,aA o (i:=0) rfl,aA o (i:=1) rfl,aA o (i:=2) rfl,aA o (i:=3) rfl]) rfl ⟨_,rfl,H2.out _ ?_⟩
  exact((((((F9 _ _).setCell (by show _<=w.heap.size+1+1+1;omega) _).setCell (by show _<=w.heap.size+1+1+1;omega) _).setCell (by show _<=w.heap.size+1+1;omega) _).setCell (by show _<=w.heap.size+1+1;omega) _).setCell (by show _<=w.heap.size+1+1;omega) _).setCell (by show _<=w.heap.size+1+1;omega) _
 ·have ab:¬(k:Int)=0:=o_
  have H1:=aB λr=>HN.out k l b r hk X
  clear y V g f X D HE HN Q Y K1 K2 Z HW HZ d;go_wp2_with fail;have o:=aO (aO (aO (aO (H2b.out (.int .i64 k) (.int .i64 l)) (i:=0) (u:=.string ⟨#[]⟩)) (i:=1) (u:=.int .i64 0)) (i:=2) (u:=.int .i64 k)) (i:=3) (u:=.int .i64 l);refine bodyPost_ret (v:=.agg #[.string ⟨#[]⟩,.int .i64 0,.int .i64 k,.int .i64 l]) (by simp[results,results39,go_sem,aA o (i:=0) rfl,aA o (i:=1) rfl,aA o (i:=2) rfl,aA o (i:=3) rfl]) rfl ⟨_,rfl,H1.out _ ?_⟩
  exact((((((F9 _ _).setCell (by show _<=w.heap.size+1+1+1;omega) _).setCell (by show _<=w.heap.size+1+1+1;omega) _).setCell (by show _<=w.heap.size+1+1;omega) _).setCell (by show _<=w.heap.size+1+1;omega) _).setCell (by show _<=w.heap.size+1+1;omega) _).setCell (by show _<=w.heap.size+1+1;omega) _
def AK(w:World)(p b:Nat)(a q:Nat)(v s k:Option Addr)(u c1 y m l o:Nat)(t:TypeId)(z:Value)(R:World->Prop)
 (j:w.heap[p]?=some (.cells #[.iface t z] 92 (0,0))) (d:w.heap[b]?=some (.cells #[.int .i64 a,.slice v u c1,.slice s y m,.slice k l o,.int .i64 q] 72 (0,0)))
 (I:Hid (∀W,bV w W->Calls prog 74 #[.agg #[.int .i64 a,.slice v u c1,.slice s y m,.slice k l o,.int .i64 q]] W λe i=>∃x n c,e=.returned (.slice x n c)/\Below w.heap.size w i/\Calls prog 73 #[.iface t z,.slice x n c] i λe r=>e=.returned (.tuple #[])/\R r)):
 Calls prog 72 #[.pointer (some ⟨p,0,none⟩),.pointer (some ⟨b,0,none⟩)] w λe i=>e=.returned (.tuple #[])/\R i:=by
 have N:w.cell? ⟨b,0,none⟩=some (.int .i64 a):=aA d rfl;have F:w.cell? ⟨b,1,none⟩=some (.slice v u c1):=aA d rfl;have G:w.cell? ⟨b,2,none⟩=some (.slice s y m):=aA d rfl;have J:w.cell? ⟨b,3,none⟩=some (.slice k l o):=aA d rfl;have D:w.cell? ⟨b,4,none⟩=some (.int .i64 q):=aA d rfl;have O:w.cell? ⟨p,0,none⟩=some (.iface t z):=aA j rfl;have L:=aD d;have g:=aD j;have K:=aB j;clear d j;go_enter func72,ntmps72;go_wp2_with fail;go_region_law (go_simp;first|(go_at_call 74;refine(I.out _ (bV.drew _)).mono ?_;rintro e A ⟨x,n,c,rfl,f,B⟩;have H:=aB B;have M:A.cell? ⟨p,0,none⟩=some (.iface t z):=(aA ((f.block p g).trans K.out) rfl);have C:p<A.heap.size:=G3 g f.size;clear B f)|(go_at_call 73;refine H.out.mono ?_;rintro e P ⟨rfl,E⟩))
 all_goals
  go_wp2_with fail;go_end0;exact⟨rfl,E⟩
def MH(w:World)(sb:Nat)(d:ByteArray)(a q:Nat)(B u m:Option Addr)(y c1 C o n p:Nat)(P:Value->World->Prop)(A:TypeId->Value->World->Prop)
 (g:Hid (Calls prog 38 #[.string d] w λe b=>(∃k l:Nat,k≠0/\e=.returned (.tuple #[.nilIface,.int .i64 k,.int .i64 l])/\P (.tuple #[.string (bs []),.int .i64 0,.int .i64 k,.int .i64 l]) b)\/∃t z,e=.returned (.tuple #[.iface t z,.int .i64 0,.int .i64 0])/\A t z b))
 (f:Hid (∀t z W,A t z W->W.cell? ⟨sb,0,none⟩=some (.int .i64 a)/\W.cell? ⟨sb,1,none⟩=some (.slice B y c1)/\W.cell? ⟨sb,2,none⟩=some (.slice u C o)/\W.cell? ⟨sb,3,none⟩=some (.slice m n p)/\W.cell? ⟨sb,4,none⟩=some (.int .i64 q)/\sb<W.heap.size/\
   Calls prog 39 #[.agg #[.int .i64 a,.slice B y c1,.slice u C o,.slice m n p,.int .i64 q],.iface t z] W λe b=>∃(s:ByteArray) (i k l:Nat),e=.returned (.agg #[.string s,.int .i64 i,.int .i64 k,.int .i64 l])/\∀D,Below b.heap.size b D->P (.tuple #[.string s,.int .i64 i,.int .i64 k,.int .i64 l]) D)):
 Calls prog 18 #[.pointer (some ⟨sb,0,none⟩),.string d] w λe b=>∃v,e=.returned v/\P v b:=by
 go_enter func18,ntmps18;go_wp2_with fail;refine g.out.mono ?_;rintro e M (⟨k,l,N,rfl,c⟩|⟨t,z,rfl,c⟩)
 ·have I:=aB c;have G:¬(k:Int)=0:=o_
  clear c g f;go_wp2_with fail;refine bodyPost_ret (by simp[results,results18,go_sem];rfl) rfl ?_
  exact⟨_,rfl,I.out⟩
 ·obtain⟨H,L,E,J,K,O,j⟩:=f.out _ _ _ c;have x:=aB j;clear c j g f;go_wp2_with fail;refine x.out.mono ?_;rintro e Q ⟨s,i,k,l,rfl,r⟩;have F:=aB r;clear r x H L E J K;go_wp2_with fail;go_quiet (fail)
  go_wp2_with fail;refine bodyPost_ret (by simp[results,results18,go_sem];rfl) rfl ?_
  exact⟨_,rfl,F.out _ (((F9 _ _).alloc (F6 _) _).trans ((bV.drewN _ _).below.mono s_))⟩
def LM(w:World)(sb g:Nat)(L:Nat->World->Prop)(P:World->Prop)(S:Nat->World->Prop)(N:Nat->TypeId->Value->Nat->World->Prop)(y:Nat)
 (D:Hid (Calls prog 95 #[.pointer (some ⟨sb,0,none⟩)] w λe b=>e=.returned (.pointer (some ⟨g,0,none⟩))/\L y b))
 (H:Hid (∀k W,L k W->∃(f:Nat) (fb:Nat) (B:Option Addr) (n c:Nat),W.cell? ⟨g,1,none⟩=some (.int .i64 f)/\W.cell? ⟨g,0,none⟩=some (.pointer (some ⟨fb,0,none⟩))/\W.cell? ⟨fb,1,none⟩=some (.slice B n c)/\g<W.heap.size/\fb<W.heap.size/\(n<=f->∀q,P (W.drewN q))/\(f<n->∃j,k=j+1/\∀q,Calls prog 152 #[.pointer (some ⟨g,0,none⟩)] (W.drewN q) λe b=>∃t z a,e=.returned (.iface t z)/\Disp t a/\N j t z a b)))
 (G:Hid (∀j t z a W,N j t z a W->Calls prog a #[z,.pointer (some ⟨sb,0,none⟩)] W λe b=>(e=.returned (.tuple #[])/\L j b)\/(∃q,e=jQ q/\S q b))):
 Calls prog 113 #[.pointer (some ⟨sb,0,none⟩)] w λe b=>(e=.returned (.tuple #[])/\P b)\/(∃q,e=jQ q/\S q b):=by
 go_enter func113,ntmps113;go_wp2_with fail;refine D.out.mono ?_;rintro e T ⟨rfl,l⟩;have E:=aB l;clear l D;go_wp2_with fail;go_loopg [] y (λgk wr=>L gk wr)
 case atStart=>exact E.out
 case round=>
  have d:=hrel;clear hrel;obtain⟨f,fb,B,n,c,Q,O,M,U,V,r,u⟩:=H.out _ _ d;by_cases l:n<=f
  ·have J:=aB (r l);have I:¬(f:Int)<(n:Int):=o_
   clear d r u;go_wp2_with fail;go_quiet (fail)
   go_wp2_with fail;exact⟨rfl,_,results_none r_ _ _ _,F7 ⟨rfl,J.out _⟩⟩
  ·obtain⟨j,rfl,A⟩:=u o_
   have i:=aB A;have I:(f:Int)<(n:Int):=o_
   clear d r u A;go_wp2_with fail;go_quiet (fail)
   go_wp2_with fail;refine(i.out _).mono ?_;rintro e C ⟨t,z,a,rfl,o,x⟩;have v:=aB (G.out _ _ _ _ _ x);have s:=o.1 z C;have p:=o.2 z (.pointer (some ⟨sb,0,none⟩)) C;clear x o i;go_wp2_with fail;refine v.out.mono ?_;rintro e K (⟨rfl,m⟩|⟨q,rfl,m⟩)
   ·have F:=aB m;clear m s p;go_wp2_with fail;go_roundg j
    case measure=>omega
    case rel=>exact F.out
   ·go_wp2_with fail;exact⟨rfl,F5 ⟨q,rfl,m⟩⟩
def inFrame_fn(i:aJ)(f:aF):(aP i f).1.fn=f.fn:=by
 cases i<;>simp only[aP]<;>(repeat' split)<;>rfl
def ArRun.ended{f:aF}{c:Nat}(h:Hs.ArRun k f x c)(d:f.fn.code.length<=f.next):x=f/\c=0:=by
 have b:f.fetch=none:=by unfold aF.fetch;rw[J0 d];rfl
 cases h with
 |done _=>exact⟨rfl,rfl⟩
 |stop a=>rw[b] at a;cases a
 |go a=>rw[b] at a;cases a
def ArRun.next{f:aF}{e:Nat}(h:Hs.ArRun k f x e)(l:f.next<f.fn.code.length):∃j i g,k=j+1/\f.fetch=some (i,g)/\xF i g/\(((aP i g).2≠0/\x=(aP i g).1/\e=(aP i g).2)\/((aP i g).2=0/\Hs.ArRun j (aP i g).1 x e)):=by
 cases h with
 |done h=>omega
 |stop d b a c=>exact⟨_,_,_,rfl,d,b,F7 ⟨by rw[a];exact c,by rw[a],by rw[a]⟩⟩
 |go d b a c=>exact⟨_,_,_,rfl,d,b,F5 ⟨by rw[a],by rw[a];exact c⟩⟩
section
variable {fp:Nat->Value} {F:Nat->Prop} {b_:Nat} {w:World} {sb gf cap:Nat} {t0 tv u_ s0:Value} {v_:List FVal} {f:aF} {tape:List Int} {out:List (List UInt8)}
def C9{i:aJ}{v:Value}(h:dI fp F b_ w sb gf cap t0 tv u_ s0 v_ ⟨[]++[f],tape,out⟩)(b:b_<=w.heap.size)(d:iX fp F w v i)(o:xF i f):
 ∃t z c,v=.iface t z/\Disp t c/\Calls prog c #[z,.pointer (some ⟨sb,0,none⟩)] w (uZ fp F b_ sb gf t0 s0 (aI sb gf u_ v_) w [] tape out (aP i f)):=by
 obtain⟨j,⟨a,rfl⟩|⟨rfl,g⟩|⟨⟨n,rfl⟩,g⟩⟩:=o
 ·obtain⟨u,rfl,l,k⟩:=d;refine⟨_,_,_,rfl,EA,(IS fp F b_ w sb gf cap t0 tv u_ s0 v_ [] f tape out u a h l k o_ s_ b).mono ?_⟩
  rintro e p ⟨rfl,m⟩;exact uZ.ok rfl m
 ·obtain rfl:v=_:=d;exact⟨_,_,_,rfl,OH,QM [45] (F7 rfl) h s_ b j g⟩
 ·obtain rfl:v=_:=d;exact⟨_,_,_,rfl,KL,OU n h s_ b j g⟩
def OW(fp:Nat->Value)(F0:Nat->Prop)(b_ sb gf:Nat)(t0 s0:Value)(own0:List Nat)(w0:World)(tape:List Int)(out:List (List UInt8))(f:aF)(W:World):Prop:=
 ∃F cap tv u_ v_,Ext F0 F w0.heap.size/\dI fp F b_ W sb gf cap t0 tv u_ s0 v_ ⟨[]++[f],tape,out⟩/\Kept own0 w0 W/\(∀x∈aI sb gf u_ v_,x∈own0\/w0.heap.size<=x)
def OW.same{a:List Nat}{W e:World}(h:OW fp F b_ sb gf t0 s0 a w tape out f W)(hS:bV W e):OW fp F b_ sb gf t0 s0 a w tape out f e:=by
 obtain⟨k,c,g,b,d,l,i,m,j⟩:=h;exact⟨k,c,g,b,d,l,i.grow hS.below (λ_ h=>h) (λ_ h=>F7 h),m.trans (Kept.of_below (own:=[]) hS.below) (λx n=>by simp at n),j⟩
def UV{k:Nat}{x:aF}{p:Nat}(h:dI fp F b_ w sb gf cap t0 tv u_ s0 v_ ⟨[]++[f],tape,out⟩)(A:b_<=w.heap.size)(Q:f.fn.code.length<=1000000)(P:Hs.ArRun k f x p):
 Calls prog 113 #[.pointer (some ⟨sb,0,none⟩)] w λe D=>XX p e/\jA fp F b_ sb gf t0 s0 (aI sb gf u_ v_) w ⟨[]++[x],tape,out⟩ D:=by
 generalize M:aI sb gf u_ v_=a
 have o:∀W,OW fp F b_ sb gf t0 s0 a w tape out x W->jA fp F b_ sb gf t0 s0 a w ⟨[]++[x],tape,out⟩ W:=λW B=>by
  obtain⟨E,cap,tv,u_,v_,N,r,I,H⟩:=B;exact⟨I,E,cap,tv,u_,v_,N,r,H⟩
 have h0:OW fp F b_ sb gf t0 s0 a w tape out f w:=⟨F,cap,tv,u_,v_,Ext.refl _ _,h,Kept.refl _ _,λy hy=>F7 (by rw[<-M];exact hy)⟩
 refine(LM w sb gf (λk W=>∃f,OW fp F b_ sb gf t0 s0 a w tape out f W/\f.fn.code.length<=1000000/\Hs.ArRun k f x p)
  (λW=>p=0/\jA fp F b_ sb gf t0 s0 a w ⟨[]++[x],tape,out⟩ W) (λq W=>q=p/\p≠0/\jA fp F b_ sb gf t0 s0 a w ⟨[]++[x],tape,out⟩ W)
  (λj t z m W=>∃(E:Nat->Prop) (u_:Value) (v_:List FVal) (g:aF) (i:aJ),(Ext F E w.heap.size/\Kept a w W/\(∀x∈aI sb gf u_ v_,x∈a\/w.heap.size<=x)/\g.fn.code.length<=1000000)/\(((aP i g).2≠0/\x=(aP i g).1/\p=(aP i g).2)\/((aP i g).2=0/\Hs.ArRun j (aP i g).1 x p))/\
    Calls prog m #[z,.pointer (some ⟨sb,0,none⟩)] W (uZ fp E b_ sb gf t0 s0 (aI sb gf u_ v_) W [] tape out (aP i g)))
  k ?_ (λk W hL=>?_) (λj t z m W hN=>?_)).mono ?_
 ·have U:=h.count;have d:=h.blk;rw[U] at d;refine(pZ sb gf 0 cap w (aA d rfl) o_).mono ?_
  rintro e D ⟨L,q,rfl⟩;exact⟨L,f,h0.same (bV.drewN _ _),Q,P⟩
 ·obtain⟨f,B,Q,P⟩:=hL;have ac:=B;obtain⟨E,cap,tv,u_,v_,N,r,I,H⟩:=B;obtain⟨fb,v,ah,rfl,aa,hv,d,l,ag,k0,k1, -, -, -, -⟩:=r.top;obtain rfl:fb=[]:=I4 aa;obtain⟨X,gc,cp,ai,e1,e2,e3,e4,e5,e6⟩:=hv.fn;rw[e1] at k0;rw[hv.nx] at k1;refine⟨f.next,X,some ⟨gc,0,none⟩,f.fn.code.length,cp,aA l k1,aA l k0,aA e3 rfl,aD l,aD e3,λhn q=>?_,λhn=>?_⟩
  ·obtain⟨rfl,rfl⟩:=ArRun.ended P hn;exact⟨rfl,o _ (ac.same (bV.drewN _ _))⟩
  ·obtain⟨j,i,g,rfl,C,ha,S⟩:=ArRun.next P hn
   refine⟨j,rfl,λq=>?_⟩
   have hS:=bV.drewN W q;have Z:=r.grow hS.below (λ_ h=>h) (λ_ h=>F7 h)
   have ae:Kept a w (W.drewN q):=I.trans (Kept.of_below (own:=[]) hS.below) (λx n=>by simp at n)
   refine(Z.fetched C Q).mono ?_;rintro e D ⟨u,c,L,q1,q2,q3,q4⟩;have J:Kept a w D:=ae.trans q3 H;obtain⟨t',z,m,Y,T,V⟩:=C9 q2 (G6 A J.size) q1 ha
   have af:g.fn=f.fn:=by
    unfold aF.fetch at C;cases n:f.fn.code[f.next]? with
    |none=>rw[n] at C;cases C
    |some y=>rw[n] at C;simp at C;rw[<-C.2]
   exact⟨t',z,m,by rw[L,Y],T,E,u_,c,g,i,⟨N,J,λx n=>H x (by rw[<-q4];exact n),by rw[af];exact Q⟩,S,V⟩
 ·obtain⟨E,u_,v_,g,i,⟨N,r,I,H⟩,S,U⟩:=hN;refine U.mono ?_;rintro e D ⟨L,ad,G,K,ab,s,c,Y,T,V⟩
  have B:OW fp F b_ sb gf t0 s0 a w tape out (aP i g).1 D:=⟨G,K,ab,s,c,N.trans Y r.size,T,r.trans ad I,λx n=>by
   rcases V x n with b|b
   ·exact I x b
   ·exact F5 (G6 r.size b)⟩
  rcases L with ⟨O,rfl⟩|⟨O,rfl⟩
  ·rcases S with ⟨b,_⟩|⟨_,b⟩
   ·exact absurd O b
   ·exact F7 ⟨rfl,_,B,by rw[inFrame_fn];exact H,b⟩
  ·rcases S with ⟨_,rfl,rfl⟩|⟨b,_⟩
   ·exact F5 ⟨_,rfl,rfl,O,o _ B⟩
   ·exact absurd b O
 ·rintro e D (⟨rfl,b,h2⟩|⟨q,rfl,rfl,b,h2⟩)
  ·exact⟨F7 ⟨b,rfl⟩,h2⟩
  ·exact⟨F5 ⟨b,rfl⟩,h2⟩
end
def Kept.belowE{own:List Nat}{w w':World}{n:Nat}(h:Kept own w w')(d:n<=w.heap.size)(b:∀k∈own,n<=k):Below n w w':=
 ⟨h.os,h.tape,h.output,h.size,λk c=>h.block k o_ λa=>by have:=b k a;omega⟩
section
variable {fp:Nat->Value} {F:Nat->Prop} {b_:Nat} {w:World} {sb gf:Nat} {t0 s0:Value} {m:bO}
def jA.box{own:List Nat}{W:World}{s:Obj}(x:Value)(h:jA fp F b_ sb gf t0 s0 own (w.alloc s) m W)(D:∀k,F k->k<w.heap.size)(E:∀k∈own,k<w.heap.size):jA fp F b_ sb gf t0 s0 own w m (W.setCell ⟨w.heap.size,0,none⟩ x):=by
 obtain⟨o,G,n,z,a,c,A,i,C⟩:=h;have p:w.heap.size<(w.alloc s).heap.size:=s_
 have d:Kept own w (w.alloc s):=Kept.of_below ((F9 _ w).alloc (F6 _) s)
 have t:w.heap.size∉aI sb gf a c:=λl=>by
  rcases C _ l with j|j
  ·have:=E _ j;omega
  ·omega
 have q:∀b,G b->b≠w.heap.size:=λb y e=>by
  subst e;rcases A.new _ y with j|j
  ·have:=D _ j;omega
  ·omega
 have f:∀k,k≠w.heap.size->(W.setCell ⟨w.heap.size,0,none⟩ x).heap[k]?=W.heap[k]?:=λk f=>G0 _ _ _ _ f
 have g:∀k∈aI sb gf a c,(W.setCell ⟨w.heap.size,0,none⟩ x).heap[k]?=W.heap[k]?:=λk l=>f k λe=>t (by rw[<-e];exact l)
 have r:∀b,G b->(W.setCell ⟨w.heap.size,0,none⟩ x).heap[b]?=W.heap[b]?:=λb y=>f b (q b y)
 refine⟨⟨o.os.trans d.os,o.tape.trans d.tape,o.output.trans d.output,G6 d.size (by simpa using o.size),λk j B=>?_⟩,G,n,z,a,c,A.le (M6 p),⟨by rw[g sb (by simp[aI])];exact i.blk,bB i.row λk e=>?_,i.frs.keep r (λ_ h=>h) λv H k u=>g k ?_,i.tape.keep r (λ_ h=>h),bB i.out λk e=>g k (by simp[aI,e]),i.nodup,λk f=>by simpa using i.lt k f,λk f=>by simpa using i.apart k f⟩,λk l=>(C k l).imp_right (G6 (M6 p))⟩
 ·rw[f k o_,o.block k o_ B,d.block k j B]
 ·cases e;exact g gf (by simp[aI])
 ·have l:k∈bJ c:=M2.2 ⟨v,H,u⟩;simp[aI,l]
end
def ZO(a:Value)(W:World):(callFunc 113 #[a]).run prog W=.ok (.enter 113 #[a]) W:=k_
def A4:Nat->Value:=λ_=>.pointer none
def F2(w:World)(st:Nat)(val:aH)(s gf:Nat)(W:World):Prop:=
 s=st/\Below w.heap.size w W/\w.heap.size<=gf/\∃(G:Nat->Prop) (cap:Nat) (tv u_:Value) (v_:List FVal) (x:aF),dI A4 G gf W (gf+1) gf cap (.int .i64 0) tv u_ (.int .i64 0) v_ ⟨[]++[x],[],[]⟩/\(st=0->x.ops=[val])/\∀k∈aI (gf+1) gf u_ v_,gf<=k
def OA{u:Nat}{q:aH}{c:List aJ}{G:Nat->Prop}{p:Option Addr}(w W:World)(z:Below w.heap.size w W)(N:UI A4 G W (.pointer p) ⟨[],c⟩)(D:∀k,G k->k<W.heap.size)(O:c.length<=1000000)(f:Hs.ArRun k ⟨⟨[],c⟩,0,0,[],[],[]⟩ x u)(S:u=0->x.ops=[q]):
 Calls prog 104 #[.func (.func 113) #[.pointer (some ⟨W.heap.size+1,0,none⟩)] #[]] ((W.alloc (.cells #[.pointer p,.int .i64 0,.int .i64 0,.pointer none,.slice none 0 0,.slice none 0 0] 136)).alloc (.cells #[.int .i64 0,.slice (some ⟨W.heap.size,0,none⟩) 1 1,.slice none 0 0,.slice none 0 0,.int .i64 0] 72)) λe v=>∃s:Nat,e=.returned (.int .i64 s)/\F2 w u q s W.heap.size v:=by
 generalize g:((W.alloc (.cells #[.pointer p,.int .i64 0,.int .i64 0,.pointer none,.slice none 0 0,.slice none 0 0] 136)).alloc (.cells #[.int .i64 0,.slice (some ⟨W.heap.size,0,none⟩) 1 1,.slice none 0 0,.slice none 0 0,.int .i64 0] 72))=d;have t:Below W.heap.size W d:=by rw[<-g];exact((F9 _ _).alloc (F6 _) _).alloc s_ _
 have Q:d.heap.size=W.heap.size+2:=by rw[<-g];simp
 have L:d.heap[W.heap.size]?=some (.cells #[.pointer p,.int .i64 0,.int .i64 0,.pointer none,.slice none 0 0,.slice none 0 0] 136 (0,0)):=by rw[<-g];exact cV _ _ s_ _ (aU _ _ rfl _)
 have B:d.heap[W.heap.size+1]?=some (.cells #[.int .i64 0,.slice (some ⟨W.heap.size,0,none⟩) 1 1,.slice none 0 0,.slice none 0 0,.int .i64 0] 72 (0,0)):=by rw[<-g];exact aU _ _ s_ _
 have b:aI (W.heap.size+1) W.heap.size (.slice none 0 0) [⟨.pointer p,.int .i64 0,.int .i64 0,.pointer none,.slice none 0 0,.slice none 0 0⟩]=[W.heap.size+1,W.heap.size]:=rfl;have j:nP G W.heap.size d (.slice none 0 0) []:=⟨⟨[],World.ownsRow_nil _ _ _ _,fO.nil _ _⟩,λa V=>by simp at V⟩
 have r:dI A4 G W.heap.size d (W.heap.size+1) W.heap.size 1 (.int .i64 0) (.slice none 0 0) (.slice none 0 0) (.int .i64 0) [⟨.pointer p,.int .i64 0,.int .i64 0,.pointer none,.slice none 0 0,.slice none 0 0⟩] ⟨[]++[⟨⟨[],c⟩,0,0,[],[],[]⟩],[],[]⟩:=by
  refine⟨B,⟨rfl,F5 ⟨W.heap.size,1,_,rfl,F6 _,L,F6 _,by unfold maxLen;omega,rfl,rfl⟩⟩,⟨⟨N.keep (λk f=>t.block k (D k f)) λ_ h=>h,rfl,rfl,rfl,j,j⟩,trivial⟩,F7 ⟨rfl,_,_,rfl⟩,World.ownsRow_nil _ _ _ _,?_,?_,λk f=>?_⟩
  ·rw[b];simp
  ·rw[b];simp;omega
  ·rw[b];have:=D k f;simp;omega
 have E:Below d.heap.size d (d.alloc (.cells #[.int .i64 0] 38)):=(F9 _ _).alloc (F6 _) _;have K:=r.grow E (λ_ h=>h) (λ_ h=>F7 h)
 have F:=UV K t_ O f
 rw[b] at F;have i:(d.alloc (.cells #[.int .i64 0] 38)).heap[d.heap.size]?=some (.cells #[.int .i64 0] 38 (0,0)):=aU _ _ rfl _;refine(yK 113 ⟨W.heap.size+1,0,none⟩ d (λk X=>k=u/\jA A4 G W.heap.size (W.heap.size+1) W.heap.size (.int .i64 0) (.int .i64 0) [W.heap.size+1,W.heap.size] (d.alloc (.cells #[.int .i64 0] 38)) ⟨[]++[x],[],[]⟩ X) ZO (F.mono λe v m=>?_)).mono ?_
 ·obtain⟨U,m⟩:=m;refine⟨u,U,⟨rfl,m⟩,?_⟩;rw[m.1.block _ s_ t_];exact i
 ·rintro e v ⟨k,Y,rfl,⟨rfl,m⟩,rfl⟩;obtain⟨M,J,o,C,l,n,Z,I,T⟩:=m.box (.int .i64 k) (λk f=>by have:=D k f;omega) (λk f=>by simp at f;omega)
  have A:Below W.heap.size W _:=t.trans ((M.belowE (M6 o_) (λk f=>by simp at f;omega)))
  exact⟨k,rfl,rfl,z.trans (A.mono z.size),z.size,J,o,C,l,n,x,I,S,λy P=>by
   rcases T y P with H|H
   ·simp at H;omega
   ·omega⟩
def E8(w:World)(code:List aJ)(p:Value)(W:World):Prop:=
 ∃G:Nat->Prop,Below w.heap.size w W/\UI A4 G W p ⟨[],code⟩/\∀k,G k->k<W.heap.size
def KC{d lo:Nat}{a_:Bool}{A:aC}(w:World)(a q:Nat)(Z X P:Option Addr)(c1 n2 U Q V:Nat)(t:TypeId)(z:Value)(hn:PN (Btw lo w.heap.size) w (.iface t z) A)(M:Hs.ExOk [] a_ [] d A)(N:jV d A)(hl:(aG [] [] d A 0).length<=1000000)(H:aG [] [] d A 0≠[]):
 Calls prog 112 #[.agg #[.int .i64 a,.slice Z 0 c1,.slice X n2 U,.slice P Q V,.int .i64 q],.iface t z] w λe r=>∃p,e=.returned (.agg #[.pointer p,.int .i64 0,.int .i64 0,.pointer none,.slice none 0 0,.slice none 0 0])/\E8 w (aG [] [] d A 0) (.pointer p) r:=by
 refine(zM w a q Z X P c1 n2 U Q V t z (λv W=>∃p,v=.agg #[.pointer p,.int .i64 0,.int .i64 0,.pointer none,.slice none 0 0,.slice none 0 0]/\E8 w (aG [] [] d A 0) (.pointer p) W) (λW m aa=>?_)).mono ?_
 ·have D:Below W.heap.size W (W.alloc (.cells #[.slice none 0 0,.slice none 0 0,.pointer none] 193)):=(F9 _ _).alloc (F6 _) _;have E:(W.alloc (.cells #[.slice none 0 0,.slice none 0 0,.pointer none] 193)).heap[W.heap.size]?=some (.cells #[.slice none 0 0,.slice none 0 0,.pointer none] 193 (0,0)):=aU _ _ rfl _
  have G:CP A4 (λ_=>0) (([]:List aC).map (·.x_)) W.heap.size (λ_=>False) (W.alloc (.cells #[.slice none 0 0,.slice none 0 0,.pointer none] 193)) [] []:=
   ⟨⟨_,_,_,E,⟨[],World.ownsRow_nil _ _ _ _,rfl,λi o h=>by simp at h⟩,rfl,F7 ⟨rfl,rfl⟩⟩,λk n=>n.elim⟩
  have L:PN (Btw lo W.heap.size) (W.alloc (.cells #[.slice none 0 0,.slice none 0 0,.pointer none] 193)) (.iface t z) A:=PN.grow hn (λk _ n=>((m.trans (D.mono m.size)).block k n)) (F6 _) m.size
  refine(EB (fp:=A4) (fb:=λ_=>0) (fs:=[]) (cb:=W.heap.size) (lo:=lo) (F:=λ_=>False) (a_:=a_) (e_:=[]) s_ s_ (λk n=>by simp at n) d (.iface t z) A [] _ G L M N (by simpa using hl)).mono ?_
  rintro e r ⟨rfl,y,I⟩;obtain⟨fv,cv,sp,O,⟨xs,Y,k3⟩, -, -⟩:=y.blk;have x:([]++(aG [] [] d A ([]:List (Option aJ)).length).map some).length=(aG [] [] d A 0).length:=s_
  have T:0<(aG [] [] d A 0).length:=M7.2 H;rw[x] at Y
  obtain⟨g,j,l,rfl,K,s,S,r5,r6,J⟩:∃g j l,cv=.slice (some ⟨g,0,none⟩) (aG [] [] d A 0).length j/\W.heap.size+1<=g/\r.heap[g]?=some (.cells l 247 (0,0))/\(aG [] [] d A 0).length<=j/\True/\True/\l.toList.take ((aG [] [] d A 0).length*1)=xs:=by
   rcases Y.2 with ⟨_,K⟩|⟨g,j,l,r1,K,s,S,r5,r6,J⟩
   ·omega
   ·exact⟨g,j,l,r1,K,s,S,trivial,trivial,J⟩
  have f:Below W.heap.size W r:=D.trans I.bel;refine⟨rfl,_,_,_,aA O rfl,aD O,f,λW' c C=>⟨_,rfl,λk=>k=r.heap.size\/k=g,?_,?_,λk n=>?_⟩⟩
  ·have ab:=m.size;have ad:=f.size;refine⟨c.os.trans (f.os.trans m.os),c.tape.trans (f.tape.trans m.tape),c.output.trans (f.output.trans m.output),by have:=c.size;omega,λk n=>?_⟩
   rw[c.block k o_ o_,f.block k o_,m.block k n]
  ·have B:=aD s;refine⟨r.heap.size,g,j,l,rfl,F7 rfl,C,F5 rfl,by rw[c.block g B o_];exact s,λi hi=>?_⟩
   obtain⟨u,u1,u2⟩:=k3.2 i (some (aG [] [] d A 0)[i]) (by simp[H7 hi])
   rw[<-J] at u1;refine⟨u,?_,iX.keep (F:=λ_=>False) u2 (λb m=>m.elim) (λb m=>m.elim)⟩
   rw[I9] at u1;split at u1
   ·simpa using u1
   ·cases u1
  ·have ac:r.heap.size<W'.heap.size:=aD C;have B:=aD s;rcases n with rfl|rfl<;>omega
 ·rintro e r ⟨v,rfl,p,rfl,h⟩;exact⟨p,rfl,h⟩
def WJ{d lo u:Nat}{a_:Bool}{A:aC}{c:aH}(w:World)(a q:Nat)(N I L:Option Addr)(c1 K H M J:Nat)(t:TypeId)(z:Value)(hn:PN (Btw lo w.heap.size) w (.iface t z) A)(S:Hs.ExOk [] a_ [] d A)(aa:jV d A)(hl:(aG [] [] d A 0).length<=1000000)(O:aG [] [] d A 0≠[])
 (C:Hs.ArRun k ⟨⟨[],aG [] [] d A 0⟩,0,0,[],[],[]⟩ x u) (hx:u=0->x.ops=[c]) (hp:mD w):
 Calls prog 75 #[.agg #[.int .i64 a,.slice N 0 c1,.slice I K H,.slice L M J,.int .i64 q],.iface t z] w λe w'=>e=.returned (.tuple #[.string (bs (if u=0 then bY c else [])),.int .i64 u])/\Below w.heap.size w w':=by
 have g:Below w.heap.size w (w.alloc (.cells #[.int .i64 a,.slice N 0 c1,.slice I K H,.slice L M J,.int .i64 q] 72)):=(F9 _ _).alloc (F6 _) _
 refine(NL w a q N I L 0 c1 K H M J t z (λv W=>v=.tuple #[.string (bs (if u=0 then bY c else [])),.int .i64 u]/\Below w.heap.size w W)
  (λp W=>E8 w (aG [] [] d A 0) p W) (F2 w u c) ?_ (λp W hq=>?_) (λs f W hs V=>?_) (λf W V=>?_)).mono ?_
 ·refine(KC (a_:=a_) _ a q N I L c1 K H M J t z (PN.grow hn (λk _ C=>g.block k C) (F6 lo) g.size) S aa hl O).mono ?_
  rintro e w' ⟨p,he,G,i,Z,Q⟩;exact⟨p,he,G,g.trans (i.mono g.size),Z,Q⟩
 ·obtain⟨G,i,Z,Q⟩:=hq;exact OA w W i Z Q hl C hx
 ·obtain⟨rfl,i,_⟩:=V;exact⟨by rw[if_neg hs],i⟩
 ·obtain⟨B,i,P,G,D,tv,o,y,x,hR,hv,ho⟩:=V;have m:=hv B.symm;have hc:=hR.count;have l:=hR.blk;rw[hc] at l;refine(pZ (f+1) f 0 D W (aA l rfl) o_).mono ?_
  rintro e w1 ⟨he,j,rfl⟩;have hS:=bV.drewN W j;have F:=hR.grow hS.below (λ_ h=>h) (λ_ h=>F7 h)
  have T:f<=(W.drewN j).heap.size:=by have:=F.lt f (by simp[aI]);omega
  have hM:Mid A4 f (f+1) f 0 (.int .i64 0) (.int .i64 0) (aI (f+1) f o y) (W.drewN j) G ⟨[]++[x],[],[]⟩ (W.drewN j):=⟨Kept.refl _ _,T,D,tv,o,y,by simpa using hc,F,λ_ h=>F7 h⟩
  refine⟨by simpa using he,?_⟩
  refine(hM.pop (vs:=[]) (a:=c) m (by rw[m];simp)).mono ?_
  rintro e w2 ⟨t2,z2,rfl,ab,U,E⟩;have r:Below w.heap.size w w2:=(i.trans (hS.below.mono i.size)).trans ((E.1.belowE (n:=w.heap.size) (G6 i.size hS.below.size) λk C=>G6 P (ho k C)))
  refine⟨t2,z2,rfl,(sS G 200 (.iface t2 z2) c w2 ab (λb hb=>?_) (hp.below r) U o_).mono ?_⟩
  ·obtain⟨_,_,_,_,_,_,_,Y,_⟩:=E;exact(Y.apart b hb).1
  rintro e w3 ⟨rfl,X⟩;exact⟨_,rfl,by rw[<-B,if_pos rfl];rfl,r.trans (X.mono r.size)⟩
 ·rintro e w' ⟨v,rfl,rfl,h⟩;exact⟨rfl,h⟩
end Go.Proofs.YthbffcmfmjpncaaGreatDoor
