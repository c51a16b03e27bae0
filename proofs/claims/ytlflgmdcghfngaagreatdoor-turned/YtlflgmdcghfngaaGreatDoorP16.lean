/- Contracts of the program: the moment is told: the walks. -/
import Derived.Test.YtlflgmdcghfngaaGreatDoorP15
set_option linter.defProp false
set_option maxRecDepth 100000
set_option maxHeartbeats 4000000
namespace Go.Proofs.YtlflgmdcghfngaaGreatDoor
open Hs
open _root_.Go.Proofs.Tryz
open Instr(typeAssert)
open Go.RowKit
variable{t:List Int}{a:List aJ}{b:List eV}{b_ n:Nat}{w w':aG}{i:aI}{f:aJ}{v:aQ}{s:aW}{F G:bY}{o:cN}{fp:eK}
def PR{W:aG}{b:Nat}{s:SV}{T:TypeId}(h:W.heap[b]?=some (.cells s.cells T (0,0))):W.cell? (aH b 0)=some (I_ s.t)/\W.cell? (aH b 1)=some (.slice s.x1 s.n1 s.c1)/\W.cell? (aH b 2)=some (.slice s.x2 s.n2 s.c2)/\W.cell? (aH b 3)=some (.slice s.x3 s.n3 s.c3)/\W.cell? (aH b 4)=some (I_ s.q):=
 ⟨aA h rfl,aA h rfl,aA h rfl,aA h rfl,aA h rfl⟩
def AQ(w:aG)(s:SV)(P A3:SV->World->Prop)(A1:Option Addr->Nat->Nat->World->Prop)(A2:Option Addr->Nat->Nat->Option Addr->Nat->Nat->World->Prop)
 (HS:Hid (∀W,aU ((w.alloc (.cells s.cells 53)).alloc (.cells #[I_ 0,bG,bG,bG,I_ 0] 35)) W->Calls prog 44 #[s.val] W λe F=>∃x n c,e=aX (.slice x n c)/\A1 x n c F))
 (HV:Hid (∀x n c W,A1 x n c W->W.heap[w.heap.size]?=some (.cells s.cells 53 (0,0))/\Calls prog 45 #[s.val] W λe F=>∃l o g,e=aX (.slice l o g)/\A2 x n c l o g F))
 (HC:Hid (∀x n c l o g W,A2 x n c l o g W->W.heap[w.heap.size]?=some (.cells s.cells 53 (0,0))/\Calls prog 46 #[.slice s.x3 s.n3 s.c3] W λe F=>∃B C A,e=aX (.slice B C A)/\A3 ⟨s.t,x,l,B,n,o,C,c,g,A,s.q⟩ F))
 (HP:Hid (∀m W,A3 m W->W.heap[w.heap.size]?=some (.cells s.cells 53 (0,0))/\(∃c,W.heap[w.heap.size+1]?=some (.cells c 35 (0,0))/\c.size=5)/\P m (dW W (w.heap.size+1) m))):
 Calls prog 23 #[s.val] w λe F=>∃m:SV,e=aX m.val/\P m F:=by
 unfold SV.val SV.cells at HS;have z:=HV;unfold SV.val at z;unfold SV.val;go_in
 go_wp2_with fail;have HH:=aB (aU.drew ((w.alloc (.cells #[I_ s.t,.slice s.x1 s.n1 s.c1,.slice s.x2 s.n2 s.c2,.slice s.x3 s.n3 s.c3,I_ s.q] 53)).alloc (.cells #[I_ 0,bG,bG,bG,I_ 0] 35)));have M:((w.alloc (.cells #[I_ s.t,.slice s.x1 s.n1 s.c1,.slice s.x2 s.n2 s.c2,.slice s.x3 s.n3 s.c3,I_ s.q] 53)).alloc (.cells #[I_ 0,bG,bG,bG,I_ 0] 35)).drew.heap[w.heap.size]?=some (.cells (SV.cells s) 53 (0,0)):=(ek _ _ _ s_).trans (aN _ _ rfl _)
 have g:=PR M;clear M;refine wp_region_held_drew (S:=λW=>W.cell? (aH w.heap.size 0)=some (I_ s.t)/\W.cell? (aH w.heap.size 1)=some (.slice s.x1 s.n1 s.c1)/\W.cell? (aH w.heap.size 2)=some (.slice s.x2 s.n2 s.c2)/\W.cell? (aH w.heap.size 3)=some (.slice s.x3 s.n3 s.c3)/\W.cell? (aH w.heap.size 4)=some (I_ s.q)) k_ g (λa=>?_)
 clear g;(refine wpAnyH_take (i:=0) (v:=?_) rfl k_ k_ k_ (λ_ _ _ h=>h) (d7 ⟨r_,?_⟩) a ?_;rotate_left;(rintro w ⟨t,u,r,p,y⟩;go_simp<;>with_reducible rfl))
 (refine wpAnyH_take (i:=1) (v:=?_) rfl k_ k_ k_ (λ_ _ _ h=>h) (d7 ⟨r_,?_⟩) a ?_;rotate_left;(rintro w ⟨t,u,r,p,y⟩;go_simp<;>with_reducible rfl))
 (refine wpAnyH_take (i:=2) (v:=?_) rfl k_ k_ k_ (λ_ _ _ h=>h) (d7 ⟨r_,?_⟩) a ?_;rotate_left;(rintro w ⟨t,u,r,p,y⟩;go_simp<;>with_reducible rfl))
 (refine wpAnyH_take (i:=4) (v:=?_) rfl k_ k_ k_ (λ_ _ _ h=>h) (d7 ⟨r_,?_⟩) a ?_;rotate_left;(rintro w ⟨t,u,r,p,y⟩;go_simp<;>with_reducible rfl))
 (refine wpAnyH_take (i:=6) (v:=?_) rfl k_ k_ k_ (λ_ _ _ h=>h) (d7 ⟨r_,?_⟩) a ?_;rotate_left;(rintro w ⟨t,u,r,p,y⟩;go_simp<;>with_reducible rfl))
 (refine wpAnyH_take (i:=7) (v:=?_) rfl k_ k_ k_ (λ_ _ _ h=>h) (d7 ⟨r_,?_⟩) a ?_;rotate_left;(rintro w ⟨t,u,r,p,y⟩;go_simp<;>with_reducible rfl))
 (refine wpAnyH_take (i:=9) (v:=?_) rfl k_ k_ k_ (λ_ _ _ h=>h) (d7 ⟨r_,?_⟩) a ?_;rotate_left;(rintro w ⟨t,u,r,p,y⟩;go_simp<;>with_reducible rfl))
 (refine wpAnyH_take (i:=10) (v:=?_) rfl k_ k_ k_ (λ_ _ _ h=>h) (d7 ⟨r_,?_⟩) a ?_;rotate_left;(rintro w ⟨t,u,r,p,y⟩;go_simp<;>with_reducible rfl))
 refine wpAnyH_ready (rs:=[3]) k_ s_ ?_
 refine AllReadyH.cons rfl (λK k=>?_) AllReadyH.nil
 go_simp;go_at_call 44
 refine(HS _ HH).mono ?_;rintro e w3 ⟨x1,Z,Y,rfl,h3⟩;obtain⟨N,Q⟩:=z.out _ _ _ _ h3;have G:=aB Q;have V:=PR N;clear h3 N Q HS HV z HH;go_wp2_with fail;refine k.out _ _ V (λa=>?_)
 clear k K V;refine wpAnyH_ready (rs:=[5]) k_ s_ ?_
 refine AllReadyH.cons rfl (λK k=>?_) AllReadyH.nil
 go_simp;go_at_call 45
 refine G.mono ?_;rintro e w4 ⟨l,o,g,rfl,h4⟩;obtain⟨X,L⟩:=HC _ _ _ _ _ _ _ h4;have J:=aB L;have I:=PR X;clear h4 X L HC G;go_wp2_with fail;refine k.out _ _ I (λa=>?_)
 clear k K I;refine wpAnyH_ready (rs:=[8]) k_ s_ ?_
 refine AllReadyH.cons rfl (λK k=>?_) AllReadyH.nil
 go_simp;go_at_call 46
 refine J.mono ?_;rintro e w5 ⟨B,C,A,rfl,h5⟩;obtain⟨U,⟨c,H,ab⟩,T⟩:=HP _ _ h5;have d:=PR U;have E:=aB T;have b:=aB H;clear h5 U T HP J;go_wp2_with fail;refine k.out _ _ d (λa=>?_)
 clear k K;(refine wpAnyH_take (i:=11) (v:=?_) rfl k_ k_ k_ (λ_ _ _ h=>h) (d7 ⟨r_,?_⟩) a ?_;rotate_left;(rintro w ⟨t,u,r,p,y⟩;go_simp<;>with_reducible rfl))
 refine wpAnyH_ready (rs:=[12]) k_ s_ ?_
 refine AllReadyH.cons rfl (λK k=>?_) AllReadyH.nil
 have g0:=aA (i:=0) b (ez o_)
 have g1:=aA (i:=1) b (ez o_)
 have g2:=aA (i:=2) b (ez o_)
 have g3:=aA (i:=3) b (ez o_)
 have g4:=aA (i:=4) b (ez o_)
 have f0:=aD (i:=0) b;have f1:=aD (i:=1) b;have f2:=aD (i:=2) b;have f3:=aD (i:=3) b;have f4:=aD (i:=4) b;have l5:=aC b;have hs:=jV (W:=w5) (s:=⟨s.t,x1,l,B,Z,o,C,Y,g,A,s.q⟩) b o_ rfl
 have O:∀i,(dW w5 (w.heap.size+1) ⟨s.t,x1,l,B,Z,o,C,Y,g,A,s.q⟩).cell? (aH w.heap.size i)=w5.cell? ⟨w.heap.size,i,none⟩:=λi=>World.cell?_of_block (dH _ _ _ _ (show w.heap.size≠w.heap.size+1 by omega))
 have D:=aB hs;have f:=aB O;clear H hs O;unfold dW at D E f;go_simp;refine k.out _ _ ⟨(f 0).trans d.1,(f 1).trans d.2.1,(f 2).trans d.2.2.1,(f 3).trans d.2.2.2.1,(f 4).trans d.2.2.2.2⟩ (λa=>?_)
 refine wpAnyH_done k_ ?_ _
 have q:=D;have j:=E;clear D E b f g0 g1 g2 g3 g4 f0 f1 f2 f3 f4 a k d;generalize ((((w5.setCell (aH (w.heap.size+1) 0) (I_ s.t)).setCell (aH (w.heap.size+1) 1) (.slice x1 Z Y)).setCell (aH (w.heap.size+1) 2) (.slice l o g)).setCell (aH (w.heap.size+1) 3) (.slice B C A)).setCell (aH (w.heap.size+1) 4) (I_ s.q)=W6 at q j ⊢
 obtain⟨r0,r1,r2,r3,r4⟩:=q;have aa:=aB j;clear j;go_wp2
 exact bodyPost_ret (v:=.agg #[I_ s.t,.slice x1 Z Y,.slice l o g,.slice B C A,I_ s.q]) (by simp[results,results23,go_sem,r0,r1,r2,r3,r4]) rfl ⟨_,rfl,aa⟩
def VH:∀(n:Nat) (l:cC),l.length<=n->∀c∈eG l,c.length<=l.length:=by
 intro n;induction n with
 |zero=>
  intro l f c a;rw[eC (d7 (ja.1 o_))] at a
  cases a
 |succ n e=>
  intro l f c a;by_cases d:l=[]
  ·rw[eC (d7 d)] at a;cases a
  by_cases b:bK l=0
  ·rw[eC (d6 b)] at a;cases a
  rw[iT d b] at a;rcases eo.1 a with rfl|a
  ·rw[g8];omega
  ·have:=e _ (by rw[gw];omega) c a
   rw[gw] at this;omega
def TK(a b:aM)(h:aO a<=200):aO (dL a b).1<=200:=by
 unfold dL;split
 ·exact kC
 split
 ·exact kC
 have e:∀x∈kF a,aO x<=200:=λx d=>by
  unfold kF at d;rw[fJ] at h;split at d
  ·obtain⟨c,g,rfl⟩:=gz.1 d;have:=VH _ _ cL c g;rw[lL];omega
  ·have:=mQ d;omega
 show aO ((kF a).getD b.n.toNat bS)<=200
 rw[List.getD_eq_getElem?_getD];cases f:(kF a)[b.n.toNat]? with
 |none=>exact kC
 |some x=>exact e x (gy f)
def ON(a:aM):aO (eL a).1<=200:=by
 unfold eL;repeat' split
 all_goals first|(show aO (bH _)<=200;rw[kZ];omega)|exact kC
section
variable {sh:Bool} {fp:eK} {F:bY} {b_:Nat} {w:aG} {sb gf cap:Nat} {t0 tv u_ s0:aQ} {v_:List FVal} {w_:List aJ} {f:aJ} {tape:List Int} {out:cN}
def aH_(h:dA sh fp F b_ w sb gf cap t0 tv u_ s0 v_ ⟨w_++[f],tape,out⟩)(A:w_.length<=15)(j:b_<=w.heap.size)(n:f.ops.length<=99000)(I:∃H a b,f.ops=H++[a,b]/\bU a):
 Calls prog 260 #[.agg #[],aZ sb] w (iW sh fp F b_ sb gf t0 s0 (aR sh sb gf u_ v_) w w_ tape out (aL .index f)):=by
 obtain⟨H,a,b,m,K⟩:=I;have m:f.ops=(H++[a])++[b]:=by rw[m];simp
 have O:=h.mid j (.cells #[] 276);have i:f.pop.ops=H++[a]:=nN m;have x:=n;rw[m,el,el] at x;have N:f.pop.ops.length<=100000:=by rw[i,el];omega
 have L:f.pop.pop.ops.length<=100000:=by rw[nN i];omega
 have Q:aL .index f=if (dL a b).2=0 then (f.pop.pop.push (dL a b).1,0) else (f.pop.pop,(dL a b).2):=by simp[aL,jS m,jS i]
 have C:aO a<=200->aO (dL a b).1<=200:=TK a b;have q:∀(W:aG) (u v:aQ),PV F W u a->PV F W v b->(∀k,F k->k<W.heap.size)->aO a<=200->aO b<=200->Calls prog 261 #[u,v] W (fD F W (dL a b)):=λW u v c d l p s=>by_ F u v a b W c d K o_ l
 generalize dL a b=r at q Q C;rw[Q]
 refine(OT w _ sb gf (w_.length*6) r.2 (λg=>r.2=0/\gB sh fp F b_ sb gf t0 s0 (aR sh sb gf u_ v_) w ⟨w_++[f.pop.pop.push r.1],tape,out⟩ g) (λg=>r.2≠0/\gB sh fp F b_ sb gf t0 s0 (aR sh sb gf u_ v_) w ⟨w_++[f.pop.pop],tape,out⟩ g)
  (λt z W=>PV F W (.iface t z) b/\aO b<=200/\dX sh fp b_ sb gf w_.length t0 s0 (aR sh sb gf u_ v_) (w.alloc (.cells #[] 276)) F ⟨w_++[f.pop],tape,out⟩ W)
  (λt z D E W=>PV F W (.iface t z) b/\aO b<=200/\PV F W (.iface D E) a/\aO a<=200/\dX sh fp b_ sb gf w_.length t0 s0 (aR sh sb gf u_ v_) (w.alloc (.cells #[] 276)) F ⟨w_++[f.pop.pop],tape,out⟩ W)
  (λt z W=>(r.2=0/\aO r.1<=200)/\∃G,Ext F G w.heap.size/\PV G W (.iface t z) r.1/\dX sh fp b_ sb gf w_.length t0 s0 (aR sh sb gf u_ v_) (w.alloc (.cells #[] 276)) G ⟨w_++[f.pop.pop],tape,out⟩ W) rfl (O.topS A) (λW hS=>?_) (λW t z o=>?_) (λW t z D E o=>?_) (λW t z o=>?_)).mono ?_
 ·refine((O.same hS).pop m o_).mono ?_
  rintro e g ⟨t,z,B,c,d,l⟩;exact⟨t,z,B,c,d,l⟩
 ·obtain⟨c,d,l⟩:=o;refine(l.popK i N).mono ?_;rintro e g ⟨D,E,B,T,Z,U,k4⟩;exact⟨D,E,B,c.keep k4,d,T,Z,U⟩
 ·obtain⟨c,d,l,p,s⟩:=o;refine(q W _ _ l c (λk J=>(s.apart k J).1) p d).mono ?_
  rintro e g ⟨P,⟨y,u,rfl,S⟩|⟨y,rfl⟩⟩
  ·obtain⟨X,V,rfl⟩:=S.form;exact d7 ⟨X,V,rfl,⟨y,C p⟩,Grow F W g,⟨λ_=>d7,λk J=>J.imp_right λc=>em (em s_ s.1.size) c.1⟩,S,s.grow P (λ_=>d7) dP⟩
  ·exact d6 ⟨rfl,y,(s.grow P dP λ_=>d7).doneX (Ext.refl _ _)⟩
 ·obtain⟨⟨y,M⟩,G,Y,c,d⟩:=o;refine(d.push c M L).mono ?_;rintro e g ⟨B,p⟩;exact⟨B,y,p.doneX Y⟩
 ·rintro e g (⟨rfl,c,d⟩|⟨rfl,c,d⟩)
  ·exact iW.ok (if_pos c) d
  ·exact iW.stop (if_neg c) c d
def S1(h:dA sh fp F b_ w sb gf cap t0 tv u_ s0 v_ ⟨w_++[f],tape,out⟩)(m:w_.length<=15)(g:b_<=w.heap.size)(i:f.ops.length<=99000)(p:∃B a,f.ops=B++[a]/\bU a):
 Calls prog 278 #[.agg #[],aZ sb] w (iW sh fp F b_ sb gf t0 s0 (aR sh sb gf u_ v_) w w_ tape out (aL .length f)):=by
 obtain⟨B,a,o,q⟩:=p;have y:=h.mid g (.cells #[] 310);have K:f.pop.ops.length<=100000:=by rw[nN o];rw[o,el] at i;omega
 have D:aL .length f=if (eL a).2=0 then (f.pop.push (eL a).1,0) else (f.pop,(eL a).2):=by simp[aL,jS o]
 have n:=ON a;have j:∀(W:aG) (u:aQ),PV F W u a->aO a<=200->Calls prog 279 #[u] W (fD F W (eL a)):=λW u b C=>x6 F u a W b q o_
 generalize eL a=r at j D n;rw[D]
 refine(JR w _ sb gf (w_.length*6) r.2 (λd=>r.2=0/\gB sh fp F b_ sb gf t0 s0 (aR sh sb gf u_ v_) w ⟨w_++[f.pop.push r.1],tape,out⟩ d) (λd=>r.2≠0/\gB sh fp F b_ sb gf t0 s0 (aR sh sb gf u_ v_) w ⟨w_++[f.pop],tape,out⟩ d)
  (λt z W=>PV F W (.iface t z) a/\aO a<=200/\dX sh fp b_ sb gf w_.length t0 s0 (aR sh sb gf u_ v_) (w.alloc (.cells #[] 310)) F ⟨w_++[f.pop],tape,out⟩ W)
  (λt z W=>r.2=0/\∃G,Ext F G w.heap.size/\PV G W (.iface t z) r.1/\dX sh fp b_ sb gf w_.length t0 s0 (aR sh sb gf u_ v_) (w.alloc (.cells #[] 310)) G ⟨w_++[f.pop],tape,out⟩ W) rfl (y.topS m) (λW N=>?_) (λW t z s=>?_) (λW t z s=>?_)).mono ?_
 ·refine((y.same N).pop o o_).mono ?_
  rintro e d ⟨t,z,x,b,c,L⟩;exact⟨t,z,x,b,c,L⟩
 ·obtain⟨b,c,v⟩:=s;refine(j W _ b c).mono ?_;rintro e d ⟨A,⟨l,u,rfl,E⟩|⟨l,rfl⟩⟩
  ·obtain⟨J,I,rfl⟩:=E.form;exact d7 ⟨J,I,rfl,l,Grow F W d,⟨λ_=>d7,λk H=>H.imp_right λb=>em (em s_ v.1.size) b.1⟩,E,v.grow A (λ_=>d7) dP⟩
  ·exact d6 ⟨rfl,l,(v.grow A dP λ_=>d7).doneX (Ext.refl _ _)⟩
 ·obtain⟨l,G,M,b,c⟩:=s;refine(c.push b n K).mono ?_;rintro e d ⟨x,C⟩;exact⟨x,l,C.doneX M⟩
 ·rintro e d (⟨rfl,b,c⟩|⟨rfl,b,c⟩)
  ·exact iW.ok (if_pos b) c
  ·exact iW.stop (if_neg b) b c
end
def Disp(t:TypeId)(f:Nat):Prop:=(∀recv w,(Go.method 496 t recv "hindsight/machine.do").run prog w=.ok (f,recv) w)/\∀a b w,(callFunc f #[a,b]).run prog w=.ok (.enter f #[a,b]) w
def fK(t:TypeId):Prop:=∀v w,(typeAssert (.iface t v) 228 245 true).run prog w=.ok (.tuple #[.agg #[I_ 0,.pointer none],.bool false]) w
def aA_(v:aQ)(w:aG):(typeAssert (.iface 245 v) 228 245 true).run prog w=.ok (.tuple #[v,.bool true]) w:=k_
def A6:Disp 245 253:=⟨λ_ _=>by kernel_rfl,λ_ _ _=>by kernel_rfl⟩
def U9:Disp 241 250:=⟨λ_ _=>by kernel_rfl,λ_ _ _=>by kernel_rfl⟩
def V6:Disp 273 254:=⟨λ_ _=>by kernel_rfl,λ_ _ _=>by kernel_rfl⟩
def PK:Disp 321 283:=⟨λ_ _=>by kernel_rfl,λ_ _ _=>by kernel_rfl⟩
def UW:Disp 323 284:=⟨λ_ _=>by kernel_rfl,λ_ _ _=>by kernel_rfl⟩
def V8:Disp 340 292:=⟨λ_ _=>by kernel_rfl,λ_ _ _=>by kernel_rfl⟩
def UT:Disp 339 291:=⟨λ_ _=>by kernel_rfl,λ_ _ _=>by kernel_rfl⟩
def KF:Disp 309 277:=⟨λ_ _=>by kernel_rfl,λ_ _ _=>by kernel_rfl⟩
def ZY:Disp 307 276:=⟨λ_ _=>by kernel_rfl,λ_ _ _=>by kernel_rfl⟩
def ZX:Disp 278 263:=⟨λ_ _=>by kernel_rfl,λ_ _ _=>by kernel_rfl⟩
def UV:Disp 306 267:=⟨λ_ _=>by kernel_rfl,λ_ _ _=>by kernel_rfl⟩
def ZZ:Disp 276 260:=⟨λ_ _=>by kernel_rfl,λ_ _ _=>by kernel_rfl⟩
def V7:Disp 275 255:=⟨λ_ _=>by kernel_rfl,λ_ _ _=>by kernel_rfl⟩
def UU:Disp 310 278:=⟨λ_ _=>by kernel_rfl,λ_ _ _=>by kernel_rfl⟩
def U8:Disp 311 281:=⟨λ_ _=>by kernel_rfl,λ_ _ _=>by kernel_rfl⟩
def W8:Disp 313 282:=⟨λ_ _=>by kernel_rfl,λ_ _ _=>by kernel_rfl⟩
def V9:Disp 243 252:=⟨λ_ _=>by kernel_rfl,λ_ _ _=>by kernel_rfl⟩
def W7:Disp 327 290:=⟨λ_ _=>by kernel_rfl,λ_ _ _=>by kernel_rfl⟩
def KG:Disp 326 288:=⟨λ_ _=>by kernel_rfl,λ_ _ _=>by kernel_rfl⟩
def bH_:fK 241:=λ_ _=>by kernel_rfl
def bI_:fK 273:=λ_ _=>by kernel_rfl
def YE:fK 321:=λ_ _=>by kernel_rfl
def P7:fK 323:=λ_ _=>by kernel_rfl
def bK_:fK 340:=λ_ _=>by kernel_rfl
def P4:fK 339:=λ_ _=>by kernel_rfl
def SX:fK 309:=λ_ _=>by kernel_rfl
def ao_:fK 307:=λ_ _=>by kernel_rfl
def an_:fK 278:=λ_ _=>by kernel_rfl
def P6:fK 306:=λ_ _=>by kernel_rfl
def ap_:fK 276:=λ_ _=>by kernel_rfl
def bJ_:fK 275:=λ_ _=>by kernel_rfl
def P5:fK 310:=λ_ _=>by kernel_rfl
def bG_:fK 311:=λ_ _=>by kernel_rfl
def bN_:fK 313:=λ_ _=>by kernel_rfl
def bL_:fK 243:=λ_ _=>by kernel_rfl
def bM_:fK 327:=λ_ _=>by kernel_rfl
def SY:fK 326:=λ_ _=>by kernel_rfl
def cK_(t:TypeId)(z:aQ)(b:Bool):Prop:=(t=245/\(∃l p,z=.agg #[I_ l,.pointer p])/\b=true)\/(fK t/\b=false)
def j8(w:aG)(sb:Nat)(L:Nat->World->Prop)(P:World->Prop)(S:Nat->World->Prop)(M:Nat->Nat->Nat->World->Prop)(N:Nat->TypeId->Value->Nat->Bool->World->Prop)(I:Nat)(i:L I w)
 (Z:Hid (∀k W,L k W->∃x n c,W.cell? (aH sb 1)=some (.slice x n c)/\sb<W.heap.size/\n<=16/\(n=0->S 1 W)/\(n≠0->∃j,k=j+1/\∃f g,M j f g W)))
 (U:Hid (∀j f g W,M j f g W->Calls prog 74 #[aZ sb] W λe d=>e=aX (.pointer (some (aH f g)))/\M j f g d))
 (X:Hid (∀j f g W,M j f g W->Calls prog 120 #[.pointer (some (aH f g))] W λe d=>∃t z a b,e=aX (.iface t z)/\Disp t a/\cK_ t z b/\N j t z a b d))
 (Y:Hid (∀j t z a b W,N j t z a b W->Calls prog a #[z,aZ sb] W λe d=>(e=aX (.tuple #[])/\(b=true->∀A,P (d.alloc A))/\(b=false->∀A,L j (d.alloc A)))\/(∃q,e=fQ q/\S q d))):
 Calls prog 98 #[aZ sb] w λe d=>(e=aX (.tuple #[])/\P d)\/(∃q,e=fQ q/\S q d):=by
 have T:=aB i;clear i;go_in
 go_wp2_with fail;go_loopg [2,3,4] I (λgk _ _ _ wr=>L gk wr)
 case atStart=>exact T
 case round=>
  obtain⟨x,n,c,c1,hl,hn,B,D⟩:=Z _ _ hrel;by_cases i:n=0
  ·subst i;have HZ:=aB (B rfl);clear hrel B D;go_wp2_with fail;exact⟨rfl,d6 ⟨1,rfl,HZ⟩⟩
  ·obtain⟨j,rfl,f,g,O⟩:=D i;have C:=aB (U _ _ _ _ O);have K:(0:Int)<(n:Int):=o_
   clear hrel B D O;go_wp2_with fail;refine C.mono ?_;rintro e w1 ⟨rfl,J⟩;have E:=aB (X _ _ _ _ J);clear J;go_wp2_with fail;refine E.mono ?_;rintro e Q ⟨t,z,a,b,rfl,s,V,G⟩;have F:=aB (Y _ _ _ _ _ _ G);have m:=s.1 z Q;have h:=s.2 z (aZ sb) Q;clear G s;go_wp2_with fail;refine F.mono ?_;rintro e H (⟨rfl,o,u⟩|⟨q,rfl,o⟩)
   ·rcases V with ⟨rfl,⟨l,p,rfl⟩,rfl⟩|⟨r,rfl⟩
    ·have v:=aA_ (.agg #[I_ l,.pointer p]) H;have y:=aB (o rfl);clear o u m h;go_wp2_with fail;exact⟨rfl,_,results_none r_ _ _ _,d7 ⟨rfl,y _⟩⟩
    ·have v:=r z H;have y:=aB (u rfl);clear o u m h r;go_wp2
     go_roundg j
     case measure=>omega
     case rel=>exact y _
   ·go_wp2_with fail;exact⟨rfl,d6 ⟨q,rfl,o⟩⟩
def pM{d:Type}{l:List d}(h:1<=l.length):∃c a,l=c++[a]:=by
 rcases jb l with e|⟨b,x,e⟩
 ·subst e;simp at h
 ·exact⟨b,x,by rw[e,jc]⟩
def NU{c:Type}{l:List c}(h:n<=l.length):∃b a,l=b++a/\a.length=n:=
 ⟨l.take (l.length-n),l.drop (l.length-n),(g9 _ _).symm,t_⟩
def m9{f:Type}{l:List f}(h:2<=l.length):∃c a b,l=c++[a,b]:=by
 obtain⟨c,d,e,g⟩:=NU h;match d,g with
 |[a,b],_=>exact⟨c,a,b,e⟩
section
variable {fp:eK} {F:bY} {b_:Nat} {w:aG} {sb gf cap:Nat} {t0 tv u_ s0:aQ} {v_:List FVal} {w_:List aJ} {f0 f:aJ} {tape:List Int} {out:cN}
def aB_{x:Bool}{i:aI}{v:aQ}(E:bb_ i f)(h:dA x fp F b_ w sb gf cap t0 tv u_ s0 v_ ⟨w_++[f],tape,out⟩)(d:w_.length<=15)(c:b_<=w.heap.size)(m:lN fp F w v i):
 ∃t z o,v=.iface t z/\Disp t o/\fK t/\Calls prog o #[z,aZ sb] w (iW x fp F b_ sb gf t0 s0 (aR x sb gf u_ v_) w w_ tape out (aL i f)):=by
 obtain⟨I,g,y,s,K,D,T,p,⟨-, -,j⟩,L,M⟩:=E;cases i<;>first|(cases I;done)|skip
 case push a=>
  obtain⟨u,rfl,C,B⟩:=m;refine⟨_,_,_,rfl,U9,bH_,(XM fp F b_ w sb gf cap t0 tv u_ s0 v_ w_ _ tape out u a h C B o_ d c).mono ?_⟩
  rintro e J ⟨rfl,A⟩;exact iW.ok rfl A
 case load k=>
  obtain rfl:=m;exact⟨_,_,_,rfl,V6,bI_,bP_ k h d c g (by have:=j.1;omega)⟩
 case shortcut wh q=>
  obtain rfl:=m;exact⟨_,_,_,rfl,KF,SX,RP wh q h d c g (pM (by have:=j.1;omega))⟩
 case truth=>
  obtain rfl:=m;exact⟨_,_,_,rfl,ZY,ao_,j5 h d c g (pM (by have:=j.1;omega))⟩
 case unary op=>
  obtain rfl:=m;exact⟨_,_,_,rfl,ZX,an_,d9 op (y.fn.2 op s) h d c g (pM (by have:=j.1;omega))⟩
 case binary op=>
  obtain rfl:=m;exact⟨_,_,_,rfl,UV,P6,Y6 op h d c g (m9 (by have:=j.1;omega))⟩
 case index=>
  obtain rfl:=m;obtain⟨r,a,b,e⟩:=m9 (l:=f.ops) (by have:=j.1;omega)
  exact⟨_,_,_,rfl,ZZ,ap_,aH_ h d c g ⟨r,a,b,e,y.ops a (by rw[e];simp)⟩⟩
 case list n=>
  obtain rfl:=m;obtain⟨r,G,H,rfl⟩:=NU (l:=f.ops) (n:=n) (by have:=j.1;omega)
  exact⟨_,_,_,rfl,V7,bJ_,bQ_ r G h d c g H⟩
 case length=>
  obtain rfl:=m;obtain⟨r,a,e⟩:=pM (l:=f.ops) (by have:=j.1;omega)
  exact⟨_,_,_,rfl,UU,P5,S1 h d c g ⟨r,a,e,y.ops a (by rw[e];simp)⟩⟩
def cQ_{ar:Nat->Option Nat}{r:List eV}{i:aI}{v:aQ}(ht:kU ar r)(O:fY ar ⟨w_++[f0],tape,out⟩)(y:f0.fetch=some (i,f))(hU:gK ⟨w_++[f0],tape,out⟩)
 (h:dA false fp F b_ w sb gf cap t0 tv u_ s0 v_ ⟨w_++[f],tape,out⟩) (hT:lZ fp F w r) (hp:DC (aR false sb gf u_ v_) w) (c:b_<=w.heap.size) (M:out.length<=50) (N:tape.length<=17592186044416) (A:lN fp F w v i):
 ∃t z B b,v=.iface t z/\Disp t B/\cK_ t z b/\b=i.isBegin/\Calls prog B #[z,aZ sb] w (DoM fp F b_ sb t0 s0 (aR false sb gf u_ v_) w (Hs.doI r i w_ f tape out)):=by
 have C:∀x∈w_,cR ar x 1:=by have:=O.ok.low;simpa only[gE] using this
 have K:cR ar f0 0:=O.ok.top f0 (fC _ _);have d:w_.length<=15:=by have:=O.ok.deep;simp at this;omega
 have U:dF f0:=hU f0 s_
 obtain⟨⟨T,hc,hh,hv,he⟩,aa,hs,hm⟩:=K
 obtain⟨rfl,Z⟩:f={ f0 with next:=f0.next+1 }/\f0.fn.code[f0.next]?=some i:=by
  unfold aJ.fetch at y;cases hx:f0.fn.code[f0.next]? with
  |none=>rw[hx] at y;cases y
  |some j=>rw[hx] at y;simp at y;exact⟨y.2.symm,by rw[y.1]⟩
 obtain⟨I,V,o⟩:=hc.ins _ _ Z;have ab:=hc.len;have m:f0.ops.length<=99000:=o_
 have S:∀g∈w_,g.ops.length<=99000:=λg hg=>by
  obtain⟨⟨T',G,ac,_⟩,Q,_⟩:=C g hg;have h1:=(G.ins _ _ (fh Q)).2.1;have h2:=G.len;omega
 have E:i∈f0.fn.code:=gy Z;by_cases u:i.isEx=true
 ·obtain⟨t,z,B,J,P,X,e4⟩:=aB_ (f:={ f0 with next:=f0.next+1 }) ⟨u,m,U.next _,E,ar,_,T,_,⟨I,V,o⟩,hh,hv⟩ h d c A
  refine⟨t,z,B,false,J,P,d6 ⟨X,rfl⟩,(by cases i<;>first|rfl|(cases u;done)),e4.mono λ_ _ h=>?_⟩
  rw[uB (by rintro rfl;cases u) (by rintro rfl;cases u) (by rintro rfl;cases u) (by rintro k n rfl;cases u)]
  exact h.toP
 clear I;cases i<;>first|(exact absurd rfl u;done)|skip
 case begin l s=>
  obtain⟨sp,rfl,H⟩:=A;obtain⟨p,rfl⟩:=H.form;exact⟨_,_,_,true,rfl,A6,d7 ⟨rfl,⟨_,_,rfl⟩,rfl⟩,rfl,(aX_ l _ s h d c H).mono λ_ _ h=>h.toP⟩
 case declare k=>
  obtain rfl:=A;exact⟨_,_,_,false,rfl,PK,d6 ⟨YE,rfl⟩,rfl,A7 k h d c m (pM (by have:=o.1;show 1<=f0.ops.length;omega)) (by have:=o.2.1;show k<=f0.g_.length;omega) hm⟩
 case assign k n=>
  obtain rfl:=A;obtain⟨L,W,J,P⟩:=NU (l:=f0.ops) (n:=n+1) (by have:=o.1;omega)
  obtain⟨D,b,rfl⟩:=pM (l:=W) o_
  have X:D.length=n:=by simpa using P
  subst X;exact⟨_,_,_,false,rfl,UW,d6 ⟨P7,rfl⟩,rfl,Z1 k L D b h d c m (by show f0.ops=_;rw[J];simp) (by have:=o.2.1;show k<f0.g_.length;omega)⟩
 case jump q=>
  obtain rfl:=A;exact⟨_,_,_,false,rfl,V8,d6 ⟨bK_,rfl⟩,rfl,(bV_ q h d c).mono λ_ _ h=>h.toP⟩
 case skip q=>
  obtain rfl:=A;exact⟨_,_,_,false,rfl,UT,d6 ⟨P4,rfl⟩,rfl,(J1 q h d c m (pM (by have:=o.1;show 1<=f0.ops.length;omega))).mono λ_ _ h=>h.toP⟩
 case read=>
  obtain rfl:=A;exact⟨_,_,_,false,rfl,U8,d6 ⟨bG_,rfl⟩,rfl,bw_ r h d c m N⟩
 case call k n=>
  obtain rfl:=A;obtain⟨L,W,J,rfl⟩:=NU (l:=f0.ops) (n:=n) (by have:=o.1;omega)
  obtain⟨fn,_,Y,_⟩:=ht.fn k _ o.2.1;exact⟨_,_,_,false,rfl,W8,d6 ⟨bN_,rfl⟩,rfl,cm_ r k fn L W h d c m J hT Y⟩
 case give=>
  obtain rfl:=A;exact⟨_,_,_,false,rfl,V9,d6 ⟨bL_,rfl⟩,rfl,b6_ r h d c m (pM (by have:=o;show 1<=f0.ops.length;omega)) S⟩
 case drop=>
  obtain rfl:=A;exact⟨_,_,_,false,rfl,W7,d6 ⟨bM_,rfl⟩,rfl,(cc_ h d c m (pM (by have:=o.1;show 1<=f0.ops.length;omega))).mono λ_ _ h=>h.toP⟩
 case print=>
  obtain rfl:=A;obtain⟨L,a,e⟩:=pM (l:=f0.ops) (by have:=o.1;omega)
  exact⟨_,_,_,false,rfl,KG,d6 ⟨SY,rfl⟩,rfl,v8 r h hp d c m e M⟩
end
def j9{j:Nat}{e:aJ}{r:cS × Nat}(h:dR b (j+1) ⟨a++[e],t,o⟩=some r)(g:e.fetch=some (i,f)):
 ((Hs.doI b i a f t o).2≠0->r=Hs.doI b i a f t o)/\((Hs.doI b i a f t o).2=0->i.isBegin=true->r=Hs.doI b i a f t o)/\((Hs.doI b i a f t o).2=0->i.isBegin=false->dR b j (Hs.doI b i a f t o).1=some r):=by
 rw[dR] at h;simp only[fC,g,gE] at h;refine⟨λc=>?_,λc d=>?_,λc d=>?_⟩
 ·rw[if_pos c] at h;cases h;rfl
 ·rw[if_neg (by rw[c];simp),if_pos d] at h;cases h;rfl
 ·rw[if_neg (by rw[c];simp),d] at h;exact h
def G3(c:o.length<=50):(Hs.doI b i a f t o).1.out.length<=50:=by
 cases i<;>simp only[Hs.doI]<;>(repeat' split)<;>first|exact c|(simp;omega)
def US:(Hs.doI b i a f t o).1.tape.length<=t.length:=by
 cases i<;>simp only[Hs.doI]<;>(repeat' split)<;>first|exact en _|simp
section
variable {fp:eK} {F:bY} {b_:Nat} {w:aG} {sb gf cap:Nat} {t0 tv u_ s0:aQ} {v_:List FVal} {w_:List aJ} {f0 f:aJ} {tape:List Int} {out:cN}
def dA.fetched{d:Bool}{i:aI}(h:dA d fp F b_ w sb gf cap t0 tv u_ s0 v_ ⟨w_++[f0],tape,out⟩)(g:f0.fetch=some (i,f))(L:f0.fn.code.length<=1000000):
 Calls prog 120 #[.pointer (some (aH gf (w_.length*6)))] w λe o=>∃v c,e=aX v/\lN fp F o v i/\dA d fp F b_ o sb gf cap t0 tv u_ s0 c ⟨w_++[f],tape,out⟩/\Kept (aR d sb gf u_ v_) w o/\aR d sb gf u_ c=aR d sb gf u_ v_:=by
 obtain⟨N,v,s,rfl,t,y,G,l,D,C,B,Z,W,k4,X⟩:=h.top;rw[<-t]
 obtain⟨O,rfl⟩:f0.fn.code[f0.next]?=some i/\f={ f0 with next:=f0.next+1 }:=by
  unfold aJ.fetch at g;cases E:f0.fn.code[f0.next]? with
  |none=>rw[E] at g;cases g
  |some j=>rw[E] at g;simp at g;exact⟨by rw[g.1],g.2.symm⟩
 obtain⟨m,z⟩:=gq.1 O;obtain⟨p,M,U,T,P,Y,Q,e4,H,J⟩:=y.fn;obtain⟨u,u1,u2⟩:=J f0.next m
 rw[z] at u2;rw[P] at C;rw[y.nx] at B;refine(T8 gf (N.length*6) p M f0.fn.code.length U f0.next s _ u w l C B Q (aA H u1) u2.form m L).mono ?_
 rintro e o ⟨S,q,rfl⟩;have n:=aU.drewN w q;have A:=h.grow n.below dP (λ_ h=>d7 h)
 have a:QH d fp F b_ (w.drewN q) v f0:=y.keep (λb _=>by rw[n.heap]) dP λk _=>by rw[n.heap]
 have r:QH d fp F b_ (w.drewN q) { v with nx:=I_ ((f0.next+1:Nat):Int) } { f0 with next:=f0.next+1 }:=⟨a.fn,rfl,a.ln,a.sp,a.g_,a.ops⟩
 obtain⟨K,V⟩:=A.setTop (j:=1) (x:=I_ ((f0.next+1:Nat):Int)) (v':={ v with nx:=I_ ((f0.next+1:Nat):Int) }) o_ rfl rfl r
 refine⟨u,_,S,u2.keep (λb I=>?_) dP,K,(Kept.of_below n.below).trans V λ_ h=>d7 h,by simp[aR,cB,FVal.ownX]⟩
 rw[ei _ _ _ _ λe=>(h.apart b I).2 (by simp[aR,e]),n.heap]
def di_(fp:eK)(F0:bY)(b_ sb:Nat)(t0 s0:aQ)(own0:List Nat)(w0:aG)(ar:Nat->Option Nat)(tab:List eV)(m:cS)(W:aG):Prop:=
 ∃F gf cap tv u_ v_,Ext F0 F w0.heap.size/\dA false fp F b_ W sb gf cap t0 tv u_ s0 v_ m/\lZ fp F W tab/\Kept own0 w0 W/\(∀x∈aR false sb gf u_ v_,x∈own0\/w0.heap.size<=x)/\fY ar m/\gK m/\m.out.length<=50/\m.tape.length<=17592186044416
def BF{ar:Nat->Option Nat}{g:List eV}{m:cS}{k:Nat}{r:cS × Nat}(ht:kU ar g)(ak:kK g)(h:dA false fp F b_ w sb gf cap t0 tv u_ s0 v_ m)(hT:lZ fp F w g)(hp:DC (aR false sb gf u_ v_) w)(aa:b_<=w.heap.size)
 (hA:fY ar m) (hU:gK m) (aj:m.out.length<=50) (al:m.tape.length<=17592186044416) (A:dR g k m=some r):
 Calls prog 98 #[aZ sb] w (DoM fp F b_ sb t0 s0 (aR false sb gf u_ v_) w r):=by
 generalize ae:aR false sb gf u_ v_=d at hp
 refine(j8 w sb (λk W=>∃m,di_ fp F b_ sb t0 s0 d w ar g m W/\dR g k m=some r)
  (λW=>r.2=0/\Done fp F b_ sb t0 s0 d w r.1 W) (λq W=>q=r.2/\r.2≠0/\Done fp F b_ sb t0 s0 d w r.1 W)
  (λj fa fj W=>∃y gf cap tv u_ v_ a B c n,fa=gf/\fj=a.length*6/\(Ext F y w.heap.size/\dA false fp y b_ W sb gf cap t0 tv u_ s0 v_ ⟨a++[B],c,n⟩/\lZ fp y W g/\Kept d w W/\(∀x∈aR false sb gf u_ v_,x∈d\/w.heap.size<=x))/\(fY ar ⟨a++[B],c,n⟩/\gK ⟨a++[B],c,n⟩/\n.length<=50/\c.length<=17592186044416)/\dR g (j+1) ⟨a++[B],c,n⟩=some r)
  (λj t z Q b W=>∃y gf cap tv u_ v_ a B f i c n,(Ext F y w.heap.size/\dA false fp y b_ W sb gf cap t0 tv u_ s0 v_ ⟨a++[f],c,n⟩/\lZ fp y W g/\Kept d w W/\(∀x∈aR false sb gf u_ v_,x∈d\/w.heap.size<=x))/\(fY ar ⟨a++[B],c,n⟩/\gK ⟨a++[B],c,n⟩/\n.length<=50/\c.length<=17592186044416)/\dR g (j+1) ⟨a++[B],c,n⟩=some r/\B.fetch=some (i,f)/\b=i.isBegin/\
    Calls prog Q #[z,aZ sb] W (DoM fp y b_ sb t0 s0 (aR false sb gf u_ v_) W (Hs.doI g i a f c n)))
  k ⟨m,⟨F,gf,cap,tv,u_,v_,Ext.refl _ _,h,hT,Kept.refl _ _,λx s=>d7 (by rw[<-ae];exact s),hA,hU,aj,al⟩,A⟩ (λk W hL=>?_) (λj fa fj W hM=>?_) (λj fa fj W hM=>?_) (λj t z Q b W hN=>?_)).mono ?_
 ·obtain⟨m,⟨y,gf,cap,tv,u_,v_,P,C,g3,E,L,J,U,Z,Y⟩,A⟩:=hL;have hc:=C.count;have hd:=J.ok.deep;refine⟨_,_,_,aA C.blk rfl,aC C.blk,o_,λh0=>?_,λh0=>?_⟩
  ·have hm:m.f_=[]:=gg o_
   cases k with
   |zero=>rw[dR] at A;cases A
   |succ j=>
    rw[dR,hm] at A;simp only[List.getLast?_nil] at A;cases A;exact⟨rfl,Nat.one_ne_zero,E,y,gf,cap,tv,u_,v_,P,C,L⟩
  ·obtain⟨b,f,e⟩:=lV (l:=m.f_) (λe=>h0 (by rw[hc,e];rfl))
   obtain⟨fr,t,o⟩:=m;simp only at e;subst e;cases k with
   |zero=>rw[dR] at A;cases A
   |succ j=>exact⟨j,rfl,gf,b.length*6,y,gf,cap,tv,u_,v_,b,f,t,o,rfl,rfl,⟨P,C,g3,E,L⟩,⟨J,U,Z,Y⟩,A⟩
 ·obtain⟨y,gf,cap,tv,u_,v_,b,f,t,o,rfl,rfl,⟨P,C,g3,E,L⟩,⟨J,U,Z,Y⟩,A⟩:=hM;have hc:=C.count;have hd:=J.ok.deep;have X:=C.blk;rw[hc,el,iy] at X;simp at hd;refine(nG sb fa b.length cap W (aA X rfl) o_).mono ?_
  rintro e H ⟨he,q,rfl⟩;have hS:=aU.drewN W q;exact⟨he,y,fa,cap,tv,u_,v_,b,f,t,o,rfl,rfl,⟨P,C.grow hS.below dP (λ_ h=>d7 h),g3.keep (λb _=>by rw[hS.heap]) dP,E.trans (Kept.of_below (own:=[]) hS.below) (λx s=>by simp at s),L⟩,⟨J,U,Z,Y⟩,A⟩
 ·obtain⟨y,gf,cap,tv,u_,v_,b,B,t,o,rfl,rfl,⟨P,C,g3,E,L⟩,⟨J,U,Z,Y⟩,A⟩:=hM;have N:cR ar B 0:=J.ok.top B (fC _ _);have V:=AW N.next
  obtain⟨T,hc, -⟩:=N.code;have am:=hc.len;generalize B.fn.code[B.next]'N.next=i at V
  refine(C.fetched V o_).mono ?_
  rintro e H ⟨v,p,he,q1,q2,q3,q4⟩;have ac:lZ fp y H g:=g3.keep (λx s=>q3.block x (C.apart x s).1 (C.apart x s).2) dP
  have D:Kept d w H:=E.trans q3 L;have ag:DC (aR false sb fa u_ p) H:=hp.step D (λx s=>L x (by rw[<-q4];exact s))
  obtain⟨t',z,Q,bb,e1,e2,e3,e4,e5⟩:=cQ_ ht J V U q2 ac ag (em aa D.size) Z Y q1;exact⟨t',z,Q,bb,by rw[he,e1],e2,e3,y,fa,cap,tv,u_,p,b,B,_,i,t,o,⟨P,q2,ac,D,λx s=>L x (by rw[<-q4];exact s)⟩,⟨J,U,Z,Y⟩,A,V,e4,e5⟩
 ·obtain⟨y,gf,cap,tv,u_,v_,a,B,f,i,tp,o,⟨P,C,g3,E,L⟩,⟨J,U,Z,Y⟩,A,V,hb,hc⟩:=hN;obtain⟨s1,s2,s3⟩:=j9 A V;refine hc.mono ?_;rintro e H ⟨he,ad,G,S,K,ab,u,p,d1,d2,d3⟩;have D:Kept d w H:=E.trans ad L
  have M:∀x∈aR false sb S u p,x∈d\/w.heap.size<=x:=λx s=>by
   rcases d3 x s with h1|h1
   ·exact L x h1
   ·exact d6 (em E.size h1)
  have af:lZ fp G H g:=g3.keep (λx s=>ad.block x (C.apart x s).1 (C.apart x s).2) d1.sub
  have I:∀O,Below H.heap.size H (H.alloc O):=λO=>(eh _ H).alloc cL O
  rcases he with ⟨hz,rfl⟩|⟨hz,rfl⟩
  ·refine d7 ⟨rfl,λah O=>?_,λai O=>?_⟩
   ·have hr:=s2 hz (by rw[<-hb];exact ah)
    rw[hr];exact⟨hz,D.trans (Kept.of_below (own:=[]) (I O)) (λx s=>by simp at s),G,S,K,ab,u,p,P.trans d1 E.size,d2.grow (I O) dP (λ_ h=>d7 h),M⟩
   ·refine⟨_,⟨G,S,K,ab,u,p,P.trans d1 E.size,d2.grow (I O) dP (λ_ h=>d7 h),af.keep (λx s=>(I O).block x (d2.apart x s).1) dP,D.trans (Kept.of_below (own:=[]) (I O)) (λx s=>by simp at s),M,(zR ht J V).2.2 hz,GW ak U V,G3 Z,em US Y⟩,s3 hz (by rw[<-hb];exact ai)⟩
  ·refine d6 ⟨_,rfl,?_⟩;have hr:=s1 hz;rw[hr];exact⟨rfl,hz,D,G,S,K,ab,u,p,P.trans d1 E.size,d2,M⟩
 ·rintro e H (⟨rfl,h1,h2⟩|⟨q,rfl,rfl,h1,h2⟩)
  ·exact⟨d7 ⟨h1,rfl⟩,h2⟩
  ·exact⟨d6 ⟨h1,rfl⟩,h2⟩
end
def cP_(v:aQ)(w:aG):(typeAssert (.iface 226 v) 20 226 true).run prog w=.ok (.tuple #[v,.bool true]) w:=k_
def F4(fn:Fn)(first a:Array Value)(w:aG):(Instr.makeFunc fn first a).run prog w=.ok (.func fn first a) w:=rfl
def B8(p k:Nat)(a:List PanicEntry)(w:aG)(b:w.heap[p]?=some (.cells #[I_ 0] 33 (0,0))):
 CallsD prog 119 #[aZ p] (.panicking ({ v:=.iface 226 (I_ k),recovered:=false }::a)) w λe h d=>
  e=aX (.tuple #[])/\h=.panicking ({ v:=.iface 226 (I_ k),recovered:=true }::a)/\d=w.setCell (aH p 0) (I_ k):=by
 have m:=aA (i:=0) b rfl;have n:=aD (i:=0) b;have j:=aC b;have f:=cP_;refine callsD_of_wpS func119 rfl λc l g=>?_
 apply wpS_seq
 apply wpS_region
 simp[wpOpsS,go_sem,recoverD,g,ntmps119,Exit.thenS];refine wpS_of_wp ?_;clear b;go_wp2_with fail;exact⟨rfl,_,rfl,.tuple #[],by simp[results,results119],rfl,rfl,rfl⟩
def B9(p:Addr)(w:aG):
 CallsD prog 119 #[.pointer (some p)] .returning w λe d c=>e=aX (.tuple #[])/\d=.returning/\c=w:=by
 refine callsD_of_wpS func119 rfl λa f b=>?_
 apply wpS_seq
 apply wpS_region
 simp[wpOpsS,go_sem,recoverD,b,ntmps119,Exit.thenS];refine wpS_of_wp ?_;go_wp2_with fail;exact⟨rfl,a.mode,rfl,.tuple #[],by simp[results,results119],rfl,b,rfl⟩
def EM(b:Nat)(p:Addr)(w:aG)(R:Nat->World->Prop)(c:∀a W,(callFunc b #[a]).run prog W=.ok (.enter b #[a]) W)
 (h:Calls prog b #[.pointer (some p)] (w.alloc (.cells #[I_ 0] 33)) λe d=>∃k,bd_ k e/\R k d/\d.heap[w.heap.size]?=some (.cells #[I_ 0] 33 (0,0))):
 Calls prog 85 #[.func (.func b) #[.pointer (some p)] #[]] w λe d=>∃(k:Nat) (w1:aG),e=aX (I_ k)/\R k w1/\d=w1.setCell (aH w.heap.size 0) (I_ k):=by
 have q:=F4;have r:=c (.pointer (some p)) (w.alloc (.cells #[I_ 0] 33));have l:=aB h;clear h c;go_enter_defers func85,ntmps85
 go_wp2_with fail;refine l.mono ?_;rintro e w1 ⟨k,n,o,g⟩;have m:=aB o;have j:=aA (i:=0) g rfl;have u:=aD (i:=0) g;have v:=aC g;clear o l;rcases n with ⟨rfl,rfl⟩|⟨n,rfl⟩
 ·go_wp2_with fail;refine leaves_cons (f:=119) (args:= #[aZ w.heap.size]) s_ (by simp[go_sem]) ?_
  refine(B9 (aH w.heap.size 0) _).mono ?_;rintro e s t ⟨rfl,rfl,rfl⟩;simp[Leaves,settle,results,results85,go_sem,j];exact⟨0,rfl,w1,m,rfl⟩
 ·go_wp2_with fail;refine leaves_cons (f:=119) (args:= #[aZ w.heap.size]) s_ (by simp[go_sem]) ?_
  refine(B8 w.heap.size k [] _ g).mono ?_;rintro e s x ⟨rfl,rfl,rfl⟩;simp[Leaves,settle,results,results85,go_sem,j];exact⟨k,rfl,w1,m,rfl⟩
def aD_:(prog.info? 3).map (λi=>(i.zero,i.size,i.bytes))=some (some (I_ 0),1,8):=k_
def uX(g h n c:Nat)(b:List Value)(w:World)(B:b.length=n*1)(G:n<=1000000)(r:∀j u,b[j]?=some u->w.cell? ⟨g,h+j,none⟩=some u)(x:∀u∈b,u.oneCell'=true):
 Calls prog 46 #[.slice (some ⟨g,h,none⟩) n c] w λe q=>∃v',e=.returned v'/\q.ownsRow w.heap.size 9 1 v' n b/\Below w.heap.size w q:=by
 obtain⟨z,C,m,o,p⟩:=info_parts xI;have y:=aB r;clear r;have v:∀(w:World) (a:Option Addr) (n c l i:Nat),(binOp .eql 32 (.slice a n c) (.slice none l i)).run prog w=.ok (.bool a.isNone) w:=λw a n c l i=>Lib.run_eql_slice_nil w _ _ a n c l i underlying32
 go_enter func46,ntmps46;go_wp2_with (at_builtin;refine wpList_append_own _ r_ _ _ 32 r_ w.heap.size 9 z _ 1 16 underlying32 C m o p rfl d_ (.slice (some ⟨w.heap.size,0,none⟩) 0 0) 0 [] r_ (World.ownsRow_made w #[] 0 (en _) (ft _) s_) ⟨g,h,none⟩ n c b r_ B (λj u D=>by rw[Addr.add_lit];exact jH _ (y.out j u D)) x (by unfold maxLen;omega) o_ s_ ?_)
 intro v' E d f _;have A:=aB d;have t:=aB f;obtain⟨F,i,rfl⟩:=dE d;clear d f;go_wp2_with fail;go_ret;refine⟨_,rfl,by simpa using A.out,?_⟩
 exact((eh _ w).alloc (en _) _).grown t.out s_ (by intro k s;simp[Value.ownBlock] at s;omega)
def uW(w:aG):
 Calls prog 46 #[bG] w λe f=>e=aX (bG)/\f=w:=by
 have g:∀(w:aG) (a:Option Addr) (n c b d:Nat),(binOp .eql 32 (.slice a n c) (.slice none b d)).run prog w=.ok (.bool a.isNone) w:=λw a n c b d=>Lib.run_eql_slice_nil w _ _ a n c b d underlying32
 go_in
 go_wp2
 go_ret;exact⟨rfl,rfl⟩
def KM(g h n c:Nat)(b:List Value)(w:World)(B:b.length=n*1)(G:n<=17592186044416)(r:∀j u,b[j]?=some u->w.cell? ⟨g,h+j,none⟩=some u)(x:∀u∈b,u.oneCell'=true):
 Calls prog 62 #[.slice (some ⟨g,h,none⟩) n c] w λe q=>∃v',e=.returned v'/\q.ownsRow w.heap.size 3 1 v' n b/\Below w.heap.size w q:=by
 obtain⟨z,C,m,o,p⟩:=info_parts aD_;have y:=aB r;clear r;have v:∀(w:World) (a:Option Addr) (n c l i:Nat),(binOp .eql 22 (.slice a n c) (.slice none l i)).run prog w=.ok (.bool a.isNone) w:=λw a n c l i=>Lib.run_eql_slice_nil w _ _ a n c l i underlying22
 go_enter func62,ntmps62;go_wp2_with (at_builtin;refine wpList_append_own _ r_ _ _ 22 r_ w.heap.size 3 z _ 1 8 underlying22 C m o p rfl d_ (.slice (some ⟨w.heap.size,0,none⟩) 0 0) 0 [] r_ (World.ownsRow_made w #[] 0 (en _) (ft _) s_) ⟨g,h,none⟩ n c b r_ B (λj u D=>by rw[Addr.add_lit];exact jH _ (y.out j u D)) x (by unfold maxLen;omega) o_ s_ ?_)
 intro v' E d f _;have A:=aB d;have t:=aB f;obtain⟨F,i,rfl⟩:=dE d;clear d f;go_wp2_with fail;go_ret;refine⟨_,rfl,by simpa using A.out,?_⟩
 exact((eh _ w).alloc (en _) _).grown t.out s_ (by intro k s;simp[Value.ownBlock] at s;omega)
def KL(w:aG):
 Calls prog 62 #[bG] w λe f=>e=aX (bG)/\f=w:=by
 have g:∀(w:aG) (a:Option Addr) (n c b d:Nat),(binOp .eql 22 (.slice a n c) (.slice none b d)).run prog w=.ok (.bool a.isNone) w:=λw a n c b d=>Lib.run_eql_slice_nil w _ _ a n c b d underlying22
 go_in
 go_wp2
 go_ret;exact⟨rfl,rfl⟩
def KN(g h n c:Nat)(b:List Value)(w:World)(B:b.length=n*6)(G:n<=1000000)(r:∀j u,b[j]?=some u->w.cell? ⟨g,h+j,none⟩=some u)(x:∀u∈b,u.oneCell'=true):
 Calls prog 150 #[.slice (some ⟨g,h,none⟩) n c] w λe q=>∃v',e=.returned v'/\q.ownsRow w.heap.size 118 6 v' n b/\Below w.heap.size w q:=by
 obtain⟨z,C,m,o,p⟩:=info_parts LZ;have y:=aB r;clear r;have v:∀(w:World) (a:Option Addr) (n c l i:Nat),(binOp .eql 51 (.slice a n c) (.slice none l i)).run prog w=.ok (.bool a.isNone) w:=λw a n c l i=>Lib.run_eql_slice_nil w _ _ a n c l i underlying51
 go_enter func150,ntmps150;go_wp2_with (at_builtin;refine wpList_append_own _ r_ _ _ 51 r_ w.heap.size 118 z _ 6 80 underlying51 C m o p rfl d_ (.slice (some ⟨w.heap.size,0,none⟩) 0 0) 0 [] r_ (World.ownsRow_made w #[] 0 (en _) (ft _) s_) ⟨g,h,none⟩ n c b r_ B (λj u D=>by rw[Addr.add_lit];exact jH _ (y.out j u D)) x (by unfold maxLen;omega) o_ s_ ?_)
 intro v' E d f _;have A:=aB d;have t:=aB f;obtain⟨F,i,rfl⟩:=dE d;clear d f;go_wp2_with fail;go_ret;refine⟨_,rfl,by simpa using A.out,?_⟩
 exact((eh _ w).alloc (en _) _).grown t.out s_ (by intro k s;simp[Value.ownBlock] at s;omega)
def S8(w:aG)(sb a:Nat)(R:Nat->World->Prop)(P:World->Prop)(q:a<=1000000)
 (m:Hid (Calls prog 85 #[.func (.func 98) #[aZ sb] #[]] w λe d=>∃k:Nat,k<=1000/\e=aX (I_ k)/\R k d))
 (l:Hid (∀k W,R k W->(∃u,W.cell? (aH sb 4)=some u)/\W.frozen? (aH sb 4)=false/\sb<W.heap.size/\W.cell? (aH sb 0)=some (I_ a)))
 (i:Hid (∀k W,R k W->¬(k=0/\a=500)->P (W.setCell (aH sb 4) (I_ k))))
 (o:Hid (∀W,R 0 W->a=500->P ((W.setCell (aH sb 4) (I_ 0)).setCell (aH sb 4) (I_ 9)))):
 Calls prog 63 #[aZ sb] w λe d=>e=aX (.tuple #[])/\P d:=by
 have j:=F4;go_in
 go_wp2_with fail;refine m.mono ?_;rintro e p ⟨k,r,rfl,b⟩;obtain⟨⟨u,v⟩,s,x,t⟩:=l _ _ b;by_cases f:k=0
 ·subst f;by_cases g:a=500
  ·subst g;have c:=aB (o _ b rfl);clear b;go_wp2
   go_end0;exact⟨rfl,c⟩
  ·have c:=aB (i _ _ b (λh=>g h.2))
   have n:¬(a:Int)=500:=o_
   clear b;go_wp2
   go_end0;exact⟨rfl,c⟩
 ·have c:=aB (i _ _ b (λh=>f h.1))
  have n:¬(k:Int)=0:=o_
  clear b;go_wp2
  go_end0;exact⟨rfl,c⟩
section
variable {fp:eK} {F:bY} {b_:Nat} {w:aG} {sb gf cap:Nat} {t0 tv u_ s0:aQ} {v_:List FVal}
def dA.setStop{m:cS}(h:dA false fp F b_ w sb gf cap t0 tv u_ s0 v_ m)(x:aQ):dA false fp F b_ (w.setCell (aH sb 4) x) sb gf cap t0 tv u_ x v_ m/\Kept (aR false sb gf u_ v_) w (w.setCell (aH sb 4) x):=by
 obtain⟨d,o⟩:=e7.1 h.nodup;have a:∀k,k≠sb->(w.setCell (aH sb 4) x).heap[k]?=w.heap[k]?:=λk a=>ei _ _ _ _ a
 have c:∀b,F b->(w.setCell (aH sb 4) x).heap[b]?=w.heap[b]?:=λb j=>a b λe=>(h.apart b j).2 (by simp[aR,e])
 refine⟨⟨aK h.blk,aY h.row λk e=>a k ?_,h.frs.keep c dP λv i k f=>a k ?_,h.tape.keep c dP,aY h.out λk e=>a k ?_,h.nodup,λk a=>by simpa using h.lt k a,λk a=>by simpa using h.apart k a⟩,⟨rfl,rfl,rfl,s_,λk _ n=>a k λe=>n (by simp[aR,e])⟩⟩
 ·cases e;exact λe=>d (by simp[<-e])
 ·have g:k∈cB false v_:=ig.2 ⟨v,i,f⟩;exact λe=>d (by simp[<-e,g])
 ·exact λl=>d (by simp[<-l,e])
def cn_(a:aQ)(W:aG):(callFunc 98 #[a]).run prog W=.ok (.enter 98 #[a]) W:=k_
def TP{ar:Nat->Option Nat}{n:List eV}{m:cS}{k a:Nat}{r:cS × Nat}(ht:kU ar n)(T:kK n)(h:dA false fp F b_ w sb gf cap (I_ a) tv u_ s0 v_ m)(hT:lZ fp F w n)(hp:DC (aR false sb gf u_ v_) w)(A:b_<=w.heap.size)
 (hA:fY ar m) (hU:gK m) (N:m.out.length<=50) (Q:m.tape.length<=17592186044416) (o:dR n k m=some r) (Z:a<=1000000) (U:r.2<=1000):
 Calls prog 63 #[aZ sb] w λe E=>e=aX (.tuple #[])/\Done fp F b_ sb (I_ a) (I_ (cA a r.2)) (aR false sb gf u_ v_) w r.1 E:=by
 have C:Below w.heap.size w (w.alloc (.cells #[I_ 0] 33)):=(eh _ w).alloc cL _;have h0:=h.grow C dP (λ_ h=>d7 h)
 have X:lZ fp F (w.alloc (.cells #[I_ 0] 33)) n:=hT.keep (λx hx=>C.block x (h.apart x hx).1) dP
 have j:Kept (aR false sb gf u_ v_) w (w.alloc (.cells #[I_ 0] 33)):=Kept.of_below C;have hX:=BF ht T h0 X (hp.step j λ_ h=>d7 h) (em A j.size) hA hU N Q o
 have u:(w.alloc (.cells #[I_ 0] 33)).heap[w.heap.size]?=some (.cells #[I_ 0] 33 (0,0)):=aN _ _ rfl _;have z:w.heap.size∉aR false sb gf u_ v_:=λt=>by have:=h.lt _ t;omega
 have hS:=EM 98 (aH sb 0) w (λk W=>k=r.2/\Done fp F b_ sb (I_ a) s0 (aR false sb gf u_ v_) (w.alloc (.cells #[I_ 0] 33)) r.1 W) cn_ (hX.mono λe E y=>by
  obtain⟨he,y⟩:=y;refine⟨r.2,he,⟨rfl,y⟩,?_⟩;rw[y.1.block _ s_ z];exact u)
 generalize Y:w.alloc (.cells #[I_ 0] 33)=w0 at*
 have hD:∀W x,Done fp F b_ sb (I_ a) s0 (aR false sb gf u_ v_) w0 r.1 W->Done fp F b_ sb (I_ a) s0 (aR false sb gf u_ v_) w r.1 (W.setCell (aH w.heap.size 0) x):=λW x y=>by
  obtain⟨p,G,g,f,l,c,d,D,i,s⟩:=y;have I:w.heap.size<w0.heap.size:=by rw[<-Y];simp
  have P:¬F w.heap.size:=λhF=>by have:=(h.apart _ hF).1;omega
  have L:w.heap.size∉aR false sb g c d:=λt=>by
   rcases s _ t with B|B
   ·exact z B
   ·omega
  have J:∀b,G b->b≠w.heap.size:=λb O e=>by
   subst e;rcases D.new _ O with B|B
   ·exact P B
   ·omega
  have o:∀k,k≠w.heap.size->(W.setCell (aH w.heap.size 0) x).heap[k]?=W.heap[k]?:=λk o=>ei _ _ _ _ o
  have q:∀k∈aR false sb g c d,(W.setCell (aH w.heap.size 0) x).heap[k]?=W.heap[k]?:=λk t=>o k λe=>L (by rw[<-e];exact t)
  have K:∀b,G b->(W.setCell (aH w.heap.size 0) x).heap[b]?=W.heap[b]?:=λb O=>o b (J b O)
  refine⟨⟨p.os.trans j.os,p.tape.trans j.tape,p.output.trans j.output,em j.size (by simpa using p.size),λk B h2=>?_⟩,G,g,f,l,c,d,D.le (il I),⟨by rw[q sb (by simp[aR])];exact i.blk,aY i.row λk e=>?_,i.frs.keep K dP λv hv k M=>q k ?_,i.tape.keep K dP,aY i.out λk e=>q k (by simp[aR,e]),i.nodup,λk o=>by simpa using i.lt k o,λk o=>by simpa using i.apart k o⟩,λk t=>(s k t).imp_right (em (il I))⟩
  ·rw[o k o_,p.block k o_ h2,j.block k B h2]
  ·cases e;exact q g (by simp[aR])
  ·have t:k∈cB false d:=ig.2 ⟨v,hv,M⟩;simp[aR,t]
 refine(S8 w sb a (λk W=>k=r.2/\Done fp F b_ sb (I_ a) s0 (aR false sb gf u_ v_) w r.1 W) (λE=>Done fp F b_ sb (I_ a) (I_ (cA a r.2)) (aR false sb gf u_ v_) w r.1 E) Z (hS.mono ?_) (λk W H=>?_) (λk W H V=>?_) (λW H V=>?_))
 ·rintro e E ⟨k,w1,rfl,⟨rfl,y⟩,rfl⟩;exact⟨r.2,U,rfl,rfl,hD _ _ y⟩
 ·obtain⟨_,_,G,g,f,l,c,d,_,i,_⟩:=H;exact⟨⟨_,aA i.blk rfl⟩,aD i.blk,aC i.blk,aA i.blk rfl⟩
 ·obtain⟨rfl,p,G,g,f,l,c,d,D,i,s⟩:=H;obtain⟨S,q2⟩:=i.setStop (I_ r.2);have e:cA a r.2=r.2:=if_neg V;rw[e];exact⟨p.trans q2 s,G,g,f,l,c,d,D,S,s⟩
 ·obtain⟨hz,p,G,g,f,l,c,d,D,i,s⟩:=H;obtain⟨S,q2⟩:=i.setStop (I_ 0);obtain⟨q3,q4⟩:=S.setStop (I_ 9);have e:cA a r.2=9:=if_pos ⟨hz.symm,V⟩;rw[e];exact⟨(p.trans q2 s).trans q4 s,G,g,f,l,c,d,D,q3,s⟩
end
structure FrS(fp:eK)(F:bY)(w:aG)(v:FVal)(f:aJ):Prop where
 fn:C9 fp F w v.fp f.fn
 nx:v.nx=I_ f.next
 ln:v.ln=I_ f.l_
 sp:eF F w v.sp f.e_
 g_:PVs F w v.vv f.g_
 varsB:∀a∈f.g_,aO a<=200
 ops:PVs F w v.ov f.ops
 opsB:∀a∈f.ops,aO a<=200
def FrS.keep{v:FVal}(h:FrS fp F w v f)(a:∀b,F b->w'.heap[b]?=w.heap[b]?)(c:∀b,F b->G b):FrS fp G w' v f:=
 ⟨h.fn.keep a c,h.nx,h.ln,eF.keep a c h.sp,(h.g_.keep a).mono c,h.varsB,(h.ops.keep a).mono c,h.opsB⟩
def wH(fp:eK)(F:bY)(w:aG):List FVal->List aJ->Prop
 |[],[]=>True
 |v::vs,f::fs=>FrS fp F w v f/\wH fp F w vs fs
 |_,_=>False
def wH.keep(a:∀b,F b->w'.heap[b]?=w.heap[b]?)(c:∀b,F b->G b):∀{vs:List FVal} {fs:List aJ},wH fp F w vs fs->wH fp G w' vs fs
 |[],[],_=>trivial
 |_::_,_::_,⟨e,d⟩=>⟨e.keep a c,wH.keep a c d⟩
 |[],_::_,h=>h.elim
 |_::_,[],h=>h.elim
def wH.length:∀{vs:List FVal} {fs:List aJ},wH fp F w vs fs->vs.length=fs.length
 |[],[],_=>rfl
 |_::_,_::_,⟨_,h⟩=>by simp[wH.length h]
 |[],_::_,h=>h.elim
 |_::_,[],h=>h.elim
def wH.get:∀{vs:List FVal} {fs:List aJ},wH fp F w vs fs->∀(i:Nat) v f,vs[i]?=some v->fs[i]?=some f->FrS fp F w v f
 |[],[],_,i,v,f,a,_=>by simp at a
 |_::_,_::_,⟨h,_⟩,0,v,f,a,b=>by simp at a b;subst a;subst b;exact h
 |_::_,_::_,⟨_,h⟩,i+1,v,f,a,b=>wH.get h i v f (by simpa using a) (by simpa using b)
 |[],_::_,h,_,_,_,_,_=>h.elim
 |_::_,[],h,_,_,_,_,_=>h.elim
def IK(F:bY)(w:aG)(v:aQ)(v_:List FVal):Prop:=
 (v_=[]/\∃x c,v=.slice x 0 c)\/∃g c cur,v=.slice (some (aH g 0)) v_.length c/\F g/\w.heap[g]?=some (.cells cur 118 (0,0))/\v_.length<=c/\cur.toList.take (v_.length*6)=gU v_
def IK.keep{a:List FVal}(h:IK F w v a)(f:∀b,F b->w'.heap[b]?=w.heap[b]?)(l:∀b,F b->G b):IK G w' v a:=by
 rcases h with h|⟨g,c,d,j,e,k,i⟩
 ·exact d7 h
 ·exact d6 ⟨g,c,d,j,l g e,by rw[f g e];exact k,i⟩
def II(F:bY)(w:aG)(v:aQ)(l:cN):Prop:=
 (l=[]/\v=bG)\/∃g c cur,v=.slice (some (aH g 0)) l.length c/\F g/\w.heap[g]?=some (.cells cur 9 (0,0))/\l.length<=c/\cur.toList.take l.length=mZ l
def II.keep{l:cN}(h:II F w v l)(e:∀b,F b->w'.heap[b]?=w.heap[b]?)(k:∀b,F b->G b):II G w' v l:=by
 rcases h with h|⟨g,c,a,i,d,j,f⟩
 ·exact d7 h
 ·exact d6 ⟨g,c,a,i,k g d,by rw[e g d];exact j,f⟩
def jC(fp:eK)(F:bY)(w:aG)(v:aQ)(s:aW):Prop:=
 ∃fv tv u_ v_,v=.agg #[I_ s.m_,fv,tv,u_,I_ s.stop]/\IK F w fv v_/\wH fp F w v_ s.m.f_/\tK F w tv s.m.tape/\II F w u_ s.m.out
def jC.keep(h:jC fp F w v s)(c:∀b,F b->w'.heap[b]?=w.heap[b]?)(d:∀b,F b->G b):jC fp G w' v s:=by
 obtain⟨m,g,a,e,j,f,l,i,k⟩:=h;exact⟨m,g,a,e,j,f.keep c d,l.keep c d,i.keep c d,k.keep c d⟩
def jQ.kept(b:∀k,F k->G k):∀{vs:List FVal} {fs:List aJ},jQ false fp F b_ w vs fs->(∀v∈vs,∀k∈(v.ownX false),G k)->wH fp G w vs fs
 |[],[],_,_=>trivial
 |v::_,_::_,⟨a,g⟩,c=>by
  have d:=c v (fw ..);obtain⟨⟨p,n,o⟩,j⟩:=a.g_;obtain⟨⟨q,f,m⟩,i⟩:=a.ops;exact⟨⟨a.fn.keep (λ_ _=>rfl) b,a.nx,a.ln,eF.keep (λ_ _=>rfl) b a.sp,PVs.ofRow n (o.mono b) λk e=>d k (by simp[FVal.ownX,e]),j,PVs.ofRow f (m.mono b) λk e=>d k (by simp[FVal.ownX,e]),i⟩,jQ.kept b g λu l=>c u (fe _ l)⟩
 |[],_::_,h,_=>h.elim
 |_::_,[],h,_=>h.elim
def dA.kept{sb gf i d c:Nat}{r a:aQ}{b:List FVal}{m:cS}(h:dA false fp F b_ w sb gf i (I_ d) r a (I_ c) b m)(x:∀k,F k->G k)(A:∀k∈aR false sb gf a b,k≠sb->G k):
 jC fp G w (.agg #[I_ d,.slice (some (aH gf 0)) b.length i,r,a,I_ c]) ⟨d,m,c⟩:=by
 obtain⟨D,E⟩:=e7.1 h.nodup;have o:∀k,k∈gf::(a.ownBlock.toList++cB false b)->k≠sb:=λk l e=>D (by rw[<-e];exact l)
 have p:∀k,k∈gf::(a.ownBlock.toList++cB false b)->G k:=λk l=>A k (fe _ l) (o k l)
 refine⟨_,r,a,b,rfl,?_,jQ.kept x h.frs λv C k l=>p k ?_,h.tape.keep (λ_ _=>rfl) x,?_⟩
 ·rcases h.row.2 with ⟨f,_⟩|⟨t,g,j,f,u,n,q,z,y,s⟩
  ·cases f
  ·cases f;exact d6 ⟨gf,i,j,rfl,p gf s_,n,q,s⟩
 ·have B:k∈cB false b:=ig.2 ⟨v,C,l⟩;simp[B]
 ·rcases h.out.2 with ⟨f,u⟩|⟨t,g,j,f,u,n,q,z,y,s⟩
  ·exact d7 ⟨gg u,f⟩
  ·exact d6 ⟨t,g,j,f,p t (by rw[f];simp[Value.ownBlock]),n,q,by simpa using s⟩
def Kept.setCell{own:List Nat}{W:aG}(h:Kept own w W)(p:Addr)(x:aQ)(b:p.block∈own):Kept own w (W.setCell p x):=
 ⟨h.os,h.tape,h.output,by simpa using h.size,λk c a=>by rw[ei _ _ _ _ λe=>a (by rw[e];exact b),h.block k c a]⟩
def VC(w w2:aG)(b a x0 n c0:Nat)(H t z:aQ)(P:Value->World->Prop)(A:Nat->Nat->World->Prop)(C E:Nat->Nat->Nat->World->Prop)(D1 D2:Nat->Nat->Nat->Option Addr->Nat->Nat->World->Prop)(O:Nat->Nat->Option Addr->Nat->Nat->World->Prop)(hn:n<=100)
 (aa:H=.slice (some (aH x0 0)) n c0) (T:∃xa xl xc,z=.slice xa xl xc) (Z:∃N Y J,t=.slice N Y J)
 (hW:(w.alloc (.cells #[I_ b,H,t,z,I_ a] 53)).alloc (.cells #[I_ 0,bG,bG,bG,I_ 0] 53)=w2)
 (HC:Hid (Calls prog 150 #[H] w2 λe o=>∃g cap,e=aX (.slice (some (aH g 0)) n cap)/\A g cap o))
 (HA:Hid (∀g cap W,A g cap W->(∃u,W.cell? (aH w.heap.size 1)=some u)/\W.frozen? (aH w.heap.size 1)=false/\w.heap.size<W.heap.size/\C g cap 0 (W.setCell (aH w.heap.size 1) (.slice (some (aH g 0)) n cap))))
 (HR:Hid (∀g cap j W,C g cap j W->W.cell? (aH w.heap.size 1)=some (.slice (some (aH g 0)) n cap)/\w.heap.size<W.heap.size/\g<W.heap.size))
 (HV:Hid (∀g cap j W,C g cap j W->j<n->∃x l c,W.cell? (aH g (j*6+4))=some (.slice x l c)/\Calls prog 151 #[.slice x l c] W λe o=>∃h f,e=aX (.slice h l f)/\D1 g cap j h l f o))
 (U:Hid (∀g cap j x l c W,D1 g cap j x l c W->(∃u,W.cell? (aH g (j*6+4))=some u)/\W.frozen? (aH g (j*6+4))=false/\g<W.heap.size/\E g cap j (W.setCell (aH g (j*6+4)) (.slice x l c))))
 (HE:Hid (∀g cap j W,E g cap j W->∃x l c,W.cell? (aH g (j*6+5))=some (.slice x l c)/\g<W.heap.size/\Calls prog 151 #[.slice x l c] W λe o=>∃h f,e=aX (.slice h l f)/\D2 g cap j h l f o))
 (I:Hid (∀g cap j x l c W,D2 g cap j x l c W->(∃u,W.cell? (aH g (j*6+5))=some u)/\W.frozen? (aH g (j*6+5))=false/\g<W.heap.size/\C g cap (j+1) (W.setCell (aH g (j*6+5)) (.slice x l c))))
 (HO:Hid (∀g cap W,C g cap n W->W.cell? (aH w.heap.size 3)=some z/\Calls prog 46 #[z] W λe o=>∃h G f,e=aX (.slice h G f)/\O g cap h G f o))
 (HF:Hid (∀g cap x l c W,O g cap x l c W->(W.cell? (aH w.heap.size 0)=some (I_ b)/\W.cell? (aH w.heap.size 1)=some (.slice (some (aH g 0)) n cap)/\W.cell? (aH w.heap.size 2)=some t/\(∃u,W.cell? (aH w.heap.size 3)=some u)/\W.cell? (aH w.heap.size 4)=some (I_ a)/\W.frozen? (aH w.heap.size 3)=false/\w.heap.size+1<W.heap.size)/\
   (W.heap[w.heap.size+1]?=some (.cells #[I_ 0,bG,bG,bG,I_ 0] 53 (0,0)))))
 (HP:Hid (∀g cap x l c W W',O g cap x l c W->Kept [w.heap.size,w.heap.size+1] W W'->W'.heap.size=W.heap.size->P (.agg #[I_ b,.slice (some (aH g 0)) n cap,t,.slice x l c,I_ a]) W')):
 Calls prog 110 #[.agg #[I_ b,H,t,z,I_ a]] w λe o=>∃v,e=aX v/\P v o:=by
 obtain⟨xa,xl,xc,rfl⟩:=T;obtain⟨N,Y,J,rfl⟩:=Z;subst aa;have HW:=aB hW;clear hW;go_in
 go_wp2_with fail;rw[HW.out];refine HC.mono ?_;rintro e w3 ⟨g,cap,rfl,h3⟩;obtain⟨⟨u3,a1⟩,a2,a3,X⟩:=HA _ _ _ h3;obtain⟨b1,b2,b3⟩:=HR _ _ _ _ X;have H4:=aB X;clear h3 X;generalize B:w3.setCell (aH w.heap.size 1) (.slice (some (aH g 0)) n cap)=w4 at H4 b1 b2 b3;have L:=aB B;clear B;go_wp2_with fail;rw[L.out];go_wp2_with fail;go_loopg [3,4,12] n (λgk _ _ i wr=>∃j:Nat,j+gk=n/\i=I_ j/\C g cap j wr)
 case atStart=>exact⟨0,o_,rfl,H4⟩
 case round=>
  obtain⟨j,hj,rfl,F⟩:=hrel;obtain⟨b1,b2,b3⟩:=HR _ _ _ _ F;by_cases M:j<n
  ·obtain⟨m,rfl⟩:∃m,gk=m+1:=⟨gk-1,o_⟩
   obtain⟨x,l,c,c1,k⟩:=HV _ _ _ _ F M;have r:=aB k;have e1:(0:Int)<=(j:Int):=o_
   have e2:(j:Int)<(n:Int):=o_
   clear F k;go_wp2_with fail;refine r.mono ?_;rintro e q ⟨h,f,rfl,s⟩;obtain⟨⟨u5,d1⟩,d2,d3,h6⟩:=U _ _ _ _ _ _ _ s;obtain⟨y,l2,c2,y1,y2,p⟩:=HE _ _ _ _ h6;have D:=aB p;have ai:q.cell? (aH g (j*6+5))=some (.slice y l2 c2):=by simpa [go_sem] using y1
   clear s h6 p y1 y2;go_wp2_with fail;refine D.mono ?_;rintro e w7 ⟨y',d',rfl,h7⟩;obtain⟨⟨u7,f1⟩,f2,f3,h8⟩:=I _ _ _ _ _ _ _ h7;have H8:=aB h8;clear h7 h8;go_wp2
   go_roundg m
   case measure=>omega
   case rel=>exact⟨j+1,o_,by go_num,H8⟩
  ·have K:j=n:=o_
   subst K;obtain⟨o1,k⟩:=HO _ _ _ F;have r:=aB k;clear F k;go_wp2_with fail;refine r.mono ?_;rintro e q ⟨h,G,f,rfl,s⟩;obtain⟨⟨p0,p1,p2,⟨u3,p3⟩,p4,pf,pl⟩,d⟩:=HF _ _ _ _ _ _ s;have Q:=aA (i:=0) d rfl;have ac:=aA (i:=1) d rfl;have S:=aA (i:=2) d rfl;have V:=aA (i:=3) d rfl;have ab:=aA (i:=4) d rfl;have ah:=aD (i:=0) d;have aj:=aD (i:=1) d;have ag:=aD (i:=2) d;have ae:=aD (i:=3) d;have af:=aD (i:=4) d;have H5:=aB s;clear s d;have ad:w.heap.size<q.heap.size:=o_
   go_wp2_with fail;refine⟨rfl,.agg #[I_ b,.slice (some (aH g 0)) j cap,.slice N Y J,.slice h G f,I_ a],?_,_,rfl,HP _ _ _ _ _ _ _ H5 ?_ s_⟩
   ·simp[results,results110,go_sem,Q,ac,S,V,ab]
   ·exact((((((Kept.refl _ _).setCell _ _ s_).setCell _ _ s_).setCell _ _ s_).setCell _ _ s_).setCell _ _ s_).setCell _ _ s_
def TY(a b:List FVal)(v:FVal)(i:Nat)(hi:i<6):(gU (a++v::b))[a.length*6+i]?=v.cells[i]?:=by
 rw[kJ,gl (by rw[eN];omega),eN,jd]
 show (v.cells++gU b)[i]?=_
 rw[hQ (by exact hi)]
def T7(a b:List FVal)(v v':FVal)(i:Nat)(x:aQ)(hi:i<6)(c:v'.cells=v.cells.set i x):(gU (a++v::b)).set (a.length*6+i) x=gU (a++v'::b):=by
 rw[kJ,kJ,List.set_append_right _ _ (by rw[eN];omega),eN,jd]
 show gU a++(v.cells++gU b).set i x=gU a++(v'.cells++gU b)
 rw[List.set_append_left _ _ (by exact hi),c]
structure CI(w:aG)(m_ stop n g cap:Nat)(tv xo:aQ)(fvs':List FVal)(own:List Nat)(W:aG):Prop where
 row:W.ownsRow (w.heap.size+2) 118 6 (.slice (some (aH g 0)) n cap) n (gU fvs')
 nodup:(g::own).Nodup
 rng:∀k∈g::own,w.heap.size+2<=k/\k<W.heap.size
 bel:Below w.heap.size w W
 b1:W.heap[w.heap.size]?=some (.cells #[I_ m_,.slice (some (aH g 0)) n cap,tv,xo,I_ stop] 53 (0,0))
 b2:W.heap[w.heap.size+1]?=some (.cells #[I_ 0,bG,bG,bG,I_ 0] 53 (0,0))
section
variable {w:aG} {m_ stop n g cap:Nat} {tv xo:aQ} {own:List Nat} {W W':aG} {a b:List FVal} {v v':FVal}
def CI.cell(h:CI w m_ stop n g cap tv xo (a++v::b) own W)(i:Nat)(hi:i<6):W.cell? (aH g (a.length*6+i))=v.cells[i]?/\W.frozen? (aH g (a.length*6+i))=false/\g<W.heap.size:=by
 refine⟨?_,h.row.frozenAt _,(h.rng g s_).2⟩
 have c:=h.row.1;rw[eN,el,ep] at c;rw[h.row.cellAt (a.length*6+i) o_,TY a b v i hi]
def CI.grow{a:List FVal}(h:CI w m_ stop n g cap tv xo a own W)(d:Below W.heap.size W W')(o:Option Nat)(i:∀k,o=some k->W.heap.size<=k/\k<W'.heap.size):CI w m_ stop n g cap tv xo a (own++o.toList) W':=by
 have j:=h.bel.size;have p:=aC h.b1;have l:=aC h.b2;refine⟨iO h.row d,?_,λk b=>?_,h.bel.trans (d.mono j),by rw[d.block _ p];exact h.b1,by rw[d.block _ l];exact h.b2⟩
 ·rw[<-gb];refine gt.2 ⟨h.nodup,by cases o<;>simp,λx q y m e=>?_⟩
  subst e;have f:o=some x:=by simpa using m
  have:=(h.rng x q).2;have:=(i x f).1;omega
 ·rw[<-gb] at b;rcases eu.1 b with b|b
  ·exact⟨(h.rng k b).1,ej (h.rng k b).2 d.size⟩
  ·have c:o=some k:=by simpa using b
   have:=(i k c).1;exact⟨o_,(i k c).2⟩
def CI.set(h:CI w m_ stop n g cap tv xo (a++v::b) own W)(i:Nat)(hi:i<6)(x:aQ)(d:v'.cells=v.cells.set i x):CI w m_ stop n g cap tv xo (a++v'::b) own (W.setCell (aH g (a.length*6+i)) x):=by
 have e:=(h.rng g s_).1
 have c:∀k,k≠g->(W.setCell (aH g (a.length*6+i)) x).heap[k]?=W.heap[k]?:=λk c=>ei _ _ _ _ c
 refine⟨?_,h.nodup,λk c=>⟨(h.rng k c).1,by simpa using (h.rng k c).2⟩,h.bel.setCell (by show w.heap.size<=g;omega) _,by rw[c _ o_];exact h.b1,by rw[c _ o_];exact h.b2⟩
 rw[<-T7 a b v v' i x hi d];exact(h.row.stored _ _).1
def CI.keep{a:List FVal}(h:CI w m_ stop n g cap tv xo a own W):w.heap.size<W.heap.size/\w.heap.size+1<W.heap.size:=⟨aC h.b1,aC h.b2⟩
end
structure VW(fp:eK)(F:bY)(b_:Nat)(w:aG)(gf cap:Nat)(tv u_:aQ)(v_:List FVal)(m:cS):Prop where
 row:w.ownsRow b_ 118 6 (.slice (some (aH gf 0)) v_.length cap) v_.length (gU v_)
 frs:jQ false fp F b_ w v_ m.f_
 tape:tK F w tv m.tape
 out:w.ownsRow b_ 9 1 u_ m.out.length (mZ m.out)
 nodup:(gf::(u_.ownBlock.toList++cB false v_)).Nodup
 rng:∀k∈gf::(u_.ownBlock.toList++cB false v_),b_<=k/\k<w.heap.size
def PVs.cells{l:List aM}(h:PVs F w v l)(p:l.length<=1000000):
 ∃x c,v=.slice x l.length c/\Calls prog 151 #[.slice x l.length c] w λe a=>∃d b n,e=aX (.slice d l.length b)/\a.ownsRow w.heap.size 136 1 (.slice d l.length b) l.length n/\gP F w n l/\Below w.heap.size w a:=by
 rcases h.row with ⟨rfl,rfl⟩|⟨g,f,m,rfl,y,r,i,s⟩
 ·refine⟨none,0,rfl,(uU w).mono ?_⟩;rintro e a ⟨rfl,rfl⟩;exact⟨none,0,[],rfl,World.ownsRow_nil _ _ _ _,gP.nil _ _,eh _ _⟩
 ·refine⟨_,_,rfl,(uV g 0 l.length f m w (by rw[i.1];omega) p (λj u q=>by rw[ge];exact s j u q) (qA i)).mono ?_⟩
  rintro e a ⟨t,rfl,k,o⟩;obtain⟨d,b,rfl⟩:=dE k;exact⟨d,b,m,rfl,k,i,o⟩
def mM{vs:List FVal}{fs:List aJ}(h:jQ false fp F b_ w vs fs)(e:∀b,F b->w'.heap[b]?=w.heap[b]?)(c:∀k∈cB false vs,w'.heap[k]?=w.heap[k]?):jQ false fp F b_ w' vs fs:=
 h.keep e dP λv d k a=>c k (ig.2 ⟨v,d,a⟩)
def OJ(us:List FVal)(v:FVal):cB false (us++[v])=cB false us++(v.ownX false):=by simp[cB]
def iZ{a:Nat}{e:TypeId}{b:Nat}{xs:List Value}(h:w.ownsRow b_ e b v n xs)(j:a<=b_):w.ownsRow a e b v n xs:=by
 refine⟨h.1,?_⟩;rcases h.2 with h|⟨g,d,c,i,f,k⟩
 ·exact d7 h
 ·exact d6 ⟨g,d,c,i,em j f,k⟩
def CpC(fp:eK)(F:bY)(w:aG)(m_ stop n:Nat)(tv xo:aQ)(v_:List FVal)(f_:List aJ)(g cap j:Nat)(W:aG):Prop:=
 ∃us:List FVal,us.length=j/\CI w m_ stop n g cap tv xo (us++v_.drop j) (cB false us) W/\jQ false fp F (w.heap.size+2) W us (f_.take j)
def CpE(fp:eK)(F:bY)(w:aG)(m_ stop n:Nat)(tv xo:aQ)(v_:List FVal)(f_:List aJ)(g cap j:Nat)(W:aG):Prop:=
 ∃(us:List FVal) (v:FVal) (f:aJ) (x:aQ),us.length=j/\v_[j]?=some v/\f_[j]?=some f/\CI w m_ stop n g cap tv xo (us++{ v with vv:=x }::v_.drop (j+1)) (cB false us++x.ownBlock.toList) W/\jQ false fp F (w.heap.size+2) W us (f_.take j)/\lA F (w.heap.size+2) W x f.g_
def A8(h:jC fp F w v s)(S:∀k,F k->k<w.heap.size)(be:s.m.f_≠[])(bu:s.m.f_.length<=16)(hb:∀f∈s.m.f_,f.g_.length<=90001/\f.ops.length<=99000)(br:s.m.out.length<=50):
 Calls prog 110 #[v] w λe D=>∃v',e=aX v'/\∃gf cap tv u_ v_,v'=.agg #[I_ s.m_,.slice (some (aH gf 0)) v_.length cap,tv,u_,I_ s.stop]/\Below w.heap.size w D/\VW fp F w.heap.size D gf cap tv u_ v_ s.m:=by
 obtain⟨fv,tv,P,v_,rfl,az,L,ax,av⟩:=h;have ah:=L.length
 have U:0<v_.length:=by
  rw[ah];exact gx.2 be
 rcases az with ⟨e,_⟩|⟨x0,c0,bp,rfl,bm,bc,bo,bk⟩
 ·rw[e] at U;simp at U
 have aq:∃ta tl tc,tv=.slice ta tl tc:=by
  rcases ax with ⟨_,x,c,e⟩|⟨g,o,c,e,_⟩
  ·exact⟨_,_,_,e⟩
  ·exact⟨_,_,_,e⟩
 have ay:∃xa xl xc,P=.slice xa xl xc:=by
  rcases av with ⟨_,e⟩|⟨g,c,cu,e,_⟩
  ·exact⟨_,_,_,e⟩
  ·exact⟨_,_,_,e⟩
 generalize T:(w.alloc (.cells #[I_ s.m_,.slice (some (aH x0 0)) v_.length c0,tv,P,I_ s.stop] 53)).alloc (.cells #[I_ 0,bG,bG,bG,I_ 0] 53)=w2;have aw:Below w.heap.size w w2:=by rw[<-T];exact((eh _ w).alloc cL _).alloc s_ _
 have bg:w2.heap.size=w.heap.size+2:=by rw[<-T];simp
 have bf:w2.heap[w.heap.size]?=some (.cells #[I_ s.m_,.slice (some (aH x0 0)) v_.length c0,tv,P,I_ s.stop] 53 (0,0)):=by
  rw[<-T,ek _ _ _ s_];exact aN _ _ rfl _
 have bi:w2.heap[w.heap.size+1]?=some (.cells #[I_ 0,bG,bG,bG,I_ 0] 53 (0,0)):=by
  rw[<-T];exact aN _ _ s_ _
 have bb:∀b,F b->w2.heap[b]?=w.heap[b]?:=λb hb=>aw.block b (S b hb)
 have aa:∀{W:aG},Below w.heap.size w W->∀b,F b->W.heap[b]?=w.heap[b]?:=λhb b m=>hb.block b (S b m)
 have X:∀u∈gU v_,u.oneCell'=true:=by
  have ap:∀(vs:List FVal) (I:List aJ),wH fp F w vs I->∀u∈gU vs,u.oneCell'=true:=by
   intro vs;induction vs with
   |nil=>intro I _ u hu;cases hu
   |cons v vs ih=>
    intro I L u hu;cases I with
    |nil=>exact L.elim
    |cons f I=>
     obtain⟨H,h2⟩:=L;rcases eu.1 hu with hu|hu
     ·obtain⟨bt,gc,cp,bq,K,_⟩:=H.fn;obtain⟨p,hp⟩:=H.sp.form
      have bn:∃x n c,v.vv=.slice x n c:=by
       rcases H.g_.row with ⟨_,e⟩|⟨g,c,xs,e,_⟩<;>exact⟨_,_,_,e⟩
      have bh:∃x n c,v.ov=.slice x n c:=by
       rcases H.ops.row with ⟨_,e⟩|⟨g,c,xs,e,_⟩<;>exact⟨_,_,_,e⟩
      obtain⟨x1,n1,c1,e2⟩:=bn;obtain⟨x2,n2,c2,e3⟩:=bh;simp only[FVal.cells,K,H.nx,H.ln,hp,e2,e3,eo,fi,or_false] at hu;rcases hu with rfl|rfl|rfl|rfl|rfl|rfl<;>rfl
     ·exact ih I h2 u hu
  exact ap v_ s.m.f_ L
 have J:∀j (B:j<v_.length),∃v f,v_[j]?=some v/\s.m.f_[j]?=some f/\FrS fp F w v f/\f∈s.m.f_/\v_.drop j=v::v_.drop (j+1)/\s.m.f_.take (j+1)=s.m.f_.take j++[f]:=λj B=>by
  have af:j<s.m.f_.length:=o_
  refine⟨v_[j],s.m.f_[j],fh B,fh af,L.get j _ _ (fh B) (fh af),fo af,kh B,gu af⟩
 have hR:∀g cap j W,CpC fp F w s.m_ s.stop v_.length tv P v_ s.m.f_ g cap j W->W.cell? (aH w.heap.size 1)=some (.slice (some (aH g 0)) v_.length cap)/\w.heap.size<W.heap.size/\g<W.heap.size:=λg cap j W G=>by
  obtain⟨i,_,a,_⟩:=G;exact⟨aA a.b1 rfl,aC a.b1,(a.rng g s_).2⟩
 refine(VC w w2 s.m_ s.stop x0 v_.length c0 (.slice (some (aH x0 0)) v_.length c0) tv P
  (λv' D=>∃gf cap tv u_ v_,v'=.agg #[I_ s.m_,.slice (some (aH gf 0)) v_.length cap,tv,u_,I_ s.stop]/\Below w.heap.size w D/\VW fp F w.heap.size D gf cap tv u_ v_ s.m)
  (λg cap W=>W.ownsRow (w.heap.size+2) 118 6 (.slice (some (aH g 0)) v_.length cap) v_.length (gU v_)/\Below w2.heap.size w2 W)
  (CpC fp F w s.m_ s.stop v_.length tv P v_ s.m.f_) (CpE fp F w s.m_ s.stop v_.length tv P v_ s.m.f_)
  (λg cap j x l c W=>∃i v f,i.length=j/\v_[j]?=some v/\s.m.f_[j]?=some f/\CI w s.m_ s.stop v_.length g cap tv P (i++v::v_.drop (j+1)) (cB false i++(Value.slice x l c).ownBlock.toList) W/\jQ false fp F (w.heap.size+2) W i (s.m.f_.take j)/\lA F (w.heap.size+2) W (.slice x l c) f.g_)
  (λg cap j x l c W=>∃i v f y,i.length=j/\v_[j]?=some v/\s.m.f_[j]?=some f/\CI w s.m_ s.stop v_.length g cap tv P (i++{ v with vv:=y }::v_.drop (j+1)) (cB false i++y.ownBlock.toList++(Value.slice x l c).ownBlock.toList) W/\jQ false fp F (w.heap.size+2) W i (s.m.f_.take j)/\lA F (w.heap.size+2) W y f.g_/\lA F (w.heap.size+2) W (.slice x l c) f.ops)
  (λg cap x l c W=>∃i,i.length=v_.length/\CI w s.m_ s.stop v_.length g cap tv P i (cB false i++(Value.slice x l c).ownBlock.toList) W/\jQ false fp F (w.heap.size+2) W i s.m.f_/\W.ownsRow (w.heap.size+2) 9 1 (.slice x l c) s.m.out.length (mZ s.m.out))
  (by omega) rfl ay aq T ?_ (λg cap W G=>?_) hR (λg cap j W G B=>?_) (λg cap j x l c W G=>?_) (λg cap j W G=>?_) (λg cap j x l c W G=>?_) (λg cap W G=>?_) (λg cap x l c W G=>?_) (λg cap x l c W W' G q N=>?_))
 ·refine(KN x0 0 v_.length c0 (gU v_) w2 (by rw[eN]) o_ (λj u B=>?_) X).mono ?_
  ·rw[ge];rw[<-bk,ga] at B;split at B
   ·exact aA ((bb x0 bm).trans bc) (by simpa using B)
   ·cases B
  ·rintro e D ⟨v',rfl,A,r⟩;rw[bg] at A;rcases A.2 with ⟨r1,r2⟩|⟨g,cp,cu,r1,_⟩
   ·omega
   ·rw[r1] at A ⊢
    exact⟨g,cp,rfl,A,r⟩
 ·obtain⟨A,r⟩:=G;have hg:=A.lt g rfl;have ag:W.heap[w.heap.size]?=_:=(r.block _ o_).trans bf
  have au:W.heap[w.heap.size+1]?=_:=(r.block _ o_).trans bi
  refine⟨⟨_,aA ag rfl⟩,aD ag,aC ag,[],rfl,⟨?_,by simp[cB],λk q=>?_,?_,aK ag,?_⟩,trivial⟩
  ·exact aY A λk e=>ei _ _ _ _ (by cases e;show g≠w.heap.size;omega)
  ·simp[cB] at q;subst q;exact⟨hg.1,by simpa using hg.2⟩
  ·exact(aw.trans (r.mono o_)).setCell cL _
  ·rw[ei _ _ _ _ (by show w.heap.size+1≠w.heap.size;omega)];exact au
 ·obtain⟨i,rfl,a,z⟩:=G;obtain⟨v,f,K,e2,hv,ac,e3,e4⟩:=J i.length B;rw[e3] at a;obtain⟨c1,c2,c3⟩:=a.cell 4 o_
  have an:=hv.keep (aa a.bel) dP;obtain⟨x,c,e5,ao⟩:=an.g_.cells (by have:=(hb f ac).1;omega)
  refine⟨x,f.g_.length,c,c1.trans (by rw[<-e5];rfl),ao.mono ?_⟩
  rintro e D ⟨x',c',ys,he,A,hr,r⟩;have O:∀k,(Value.slice x' f.g_.length c').ownBlock=some k->W.heap.size<=k/\k<D.heap.size:=λk q=>A.lt k q
  have N:=a.keep;refine⟨x',c',he,i,v,f,rfl,K,e2,a.grow r _ O,mM z (λb m=>r.block b (ej (S b m) a.bel.size)) (λk q=>r.block k (a.rng k (fe _ q)).2),⟨ys,iZ A o_,hr.keep λb m=>r.block b (ej (S b m) a.bel.size)⟩,hv.varsB⟩
 ·obtain⟨i,v,f,rfl,K,e2,a,z,Q⟩:=G;obtain⟨c1,c2,c3⟩:=a.cell 4 o_
  have C:∀k∈cB false i++(Value.slice x l c).ownBlock.toList,k≠g:=λk q e=>(e7.1 a.nodup).1 (by rw[<-e];exact q)
  have t:∀k,k≠g->(W.setCell (aH g (i.length*6+4)) (.slice x l c)).heap[k]?=W.heap[k]?:=λk q=>ei _ _ _ _ q
  have ad:∀b,F b->b≠g:=λb m e=>by have H:=S b m;have h2:=(a.rng g s_).1;omega
  refine⟨⟨_,c1⟩,c2,c3,i,v,f,_,rfl,K,e2,a.set 4 o_ _ rfl,mM z (λb m=>t b (ad b m)) (λk q=>t k (C k (fk _ q))),Q.keep (λb m=>t b (ad b m)) dP λk q=>t k (C k (by simp[q]))⟩
 ·obtain⟨i,v,f,x,rfl,K,e2,a,z,Q⟩:=G;obtain⟨c1,c2,c3⟩:=a.cell 5 o_
  have B:i.length<v_.length:=(gq.1 K).1;obtain⟨v',f',Z,M,hv,ac,e3,e4⟩:=J i.length B;rw[K] at Z;cases Z;rw[e2] at M;cases M;have an:=hv.keep (aa a.bel) dP;obtain⟨y,d,e5,ao⟩:=an.ops.cells (by have:=(hb f ac).2;omega)
  refine⟨y,f.ops.length,d,c1.trans (by rw[<-e5];rfl),c3,ao.mono ?_⟩
  rintro e D ⟨y',d',ys,he,A,hr,r⟩;have O:∀k,(Value.slice y' f.ops.length d').ownBlock=some k->W.heap.size<=k/\k<D.heap.size:=λk q=>A.lt k q
  have N:=a.keep;have al:∀b,F b->D.heap[b]?=W.heap[b]?:=λb m=>r.block b (ej (S b m) a.bel.size)
  refine⟨y',d',he,i,v,f,x,rfl,K,e2,a.grow r _ O,mM z al (λk q=>r.block k (a.rng k (fe _ (fk _ q))).2),Q.keep al dP λk q=>r.block k (a.rng k (by simp[q])).2,⟨ys,iZ A o_,hr.keep al⟩,hv.opsB⟩
 ·obtain⟨i,v,f,y,rfl,K,e2,a,z,Q,bj⟩:=G;obtain⟨c1,c2,c3⟩:=a.cell 5 o_
  have B:i.length<v_.length:=(gq.1 K).1;obtain⟨v',f',Z,M,hv,ac,e3,e4⟩:=J i.length B;rw[K] at Z;cases Z;rw[e2] at M;cases M;have C:∀k∈cB false i++y.ownBlock.toList++(Value.slice x l c).ownBlock.toList,k≠g:=λk q e=>(e7.1 a.nodup).1 (by rw[<-e];exact q)
  have t:∀k,k≠g->(W.setCell (aH g (i.length*6+5)) (.slice x l c)).heap[k]?=W.heap[k]?:=λk q=>ei _ _ _ _ q
  have ad:∀b,F b->b≠g:=λb m e=>by have H:=S b m;have h2:=(a.rng g s_).1;omega
  have am:∀b,F b->(W.setCell (aH g (i.length*6+5)) (.slice x l c)).heap[b]?=W.heap[b]?:=λb m=>t b (ad b m)
  have Y:=a.set (v':={ v with vv:=y,ov:=.slice x l c }) 5 o_ (.slice x l c) rfl
  have ae:=hv.keep (aa (Y.bel)) dP;refine⟨⟨_,c1⟩,c2,c3,i++[{ v with vv:=y,ov:=.slice x l c }],s_,?_,?_⟩
  ·have e5:cB false (i++[{ v with vv:=y,ov:=.slice x l c }])=cB false i++y.ownBlock.toList++(Value.slice x l c).ownBlock.toList:=by
    rw[OJ,gr];rfl
   have e6:i++[{ v with vv:=y,ov:=.slice x l c }]++v_.drop (i.length+1)=i++{ v with vv:=y,ov:=.slice x l c }::v_.drop (i.length+1):=s_
   rw[e5,e6];exact Y
  ·rw[e4];refine(mM z am (λk q=>t k (C k (by simp[q])))).snoc ⟨ae.fn,ae.nx,ae.ln,ae.sp,Q.keep am dP λk q=>t k (C k (by simp[q])),bj.keep am dP λk q=>t k (C k (by simp[q]))⟩
 ·obtain⟨i,V,a,z⟩:=G;rw[List.drop_of_length_le cL,jj] at a;rw[ah,gv cL] at z;have N:=a.keep;have ar:=av.keep (aa a.bel) dP;refine⟨aA a.b1 rfl,?_⟩
  have ai:∀x' l' c' (D:aG),D.ownsRow W.heap.size 9 1 (.slice x' l' c') s.m.out.length (mZ s.m.out)->Below W.heap.size W D->∃i,i.length=v_.length/\CI w s.m_ s.stop v_.length g cap tv P i (cB false i++(Value.slice x' l' c').ownBlock.toList) D/\jQ false fp F (w.heap.size+2) D i s.m.f_/\D.ownsRow (w.heap.size+2) 9 1 (.slice x' l' c') s.m.out.length (mZ s.m.out):=λx' l' c' D A r=>
   ⟨i,V,a.grow r _ λk q=>A.lt k q,mM z (λb m=>r.block b (ej (S b m) a.bel.size)) (λk q=>r.block k (a.rng k (fe _ q)).2),iZ A o_⟩
  rcases ar with ⟨K,rfl⟩|⟨go,co,cu,rfl,H,h2,h3,h4⟩
  ·refine(uW W).mono ?_;rintro e D ⟨rfl,rfl⟩;exact⟨none,0,0,rfl,ai _ _ _ _ (by rw[K];exact World.ownsRow_nil _ _ _ _) (eh _ _)⟩
  ·refine(uX go 0 s.m.out.length co (mZ s.m.out) W (by simp[mZ]) o_ (λj u B=>?_) (λu hu=>?_)).mono ?_
   ·rw[ge];rw[<-h4,ga] at B;split at B
    ·exact aA h2 (by simpa using B)
    ·cases B
   ·obtain⟨y,_,rfl⟩:=gz.1 hu;rfl
   ·rintro e D ⟨v',rfl,A,r⟩;obtain⟨x',c',rfl⟩:=dE A;exact⟨x',_,c',rfl,ai _ _ _ _ A r⟩
 ·obtain⟨i,V,a,z,A⟩:=G;exact⟨⟨aA a.b1 rfl,aA a.b1 rfl,aA a.b1 rfl,⟨_,aA a.b1 rfl⟩,aA a.b1 rfl,aD a.b1,aC a.b2⟩,a.b2⟩
 ·obtain⟨i,V,a,z,A⟩:=G
  have bd:∀k∈g::(cB false i++(Value.slice x l c).ownBlock.toList),k∉[w.heap.size,w.heap.size+1]:=λk q hm=>by
   have:=(a.rng k q).1;simp at hm;omega
  have aj:∀k∈g::(cB false i++(Value.slice x l c).ownBlock.toList),W'.heap[k]?=W.heap[k]?:=λk E=>q.block k (a.rng k E).2 (bd k E)
  have bl:∀b,F b->W'.heap[b]?=W.heap[b]?:=λb m=>q.block b (ej (S b m) a.bel.size) (by have:=S b m;simp;omega)
  have ba:Below w.heap.size w W':=⟨q.os.trans a.bel.os,q.tape.trans a.bel.tape,q.output.trans a.bel.output,by rw[N];exact a.bel.size,λk E=>by
   rw[q.block k (ej E a.bel.size) t_,a.bel.block k E]⟩
  have ak:∀k,k∈g::((Value.slice x l c).ownBlock.toList++cB false i)↔k∈g::(cB false i++(Value.slice x l c).ownBlock.toList):=λk=>by simp[or_comm]
  have ab:∀(u:List FVal) (I:List aJ),jQ false fp F (w.heap.size+2) W' u I->jQ false fp F w.heap.size W' u I:=by
   intro u;induction u with
   |nil=>intro I h;cases I with
    |nil=>trivial
    |cons=>exact h.elim
   |cons v vs ih=>intro I h;cases I with
    |nil=>exact h.elim
    |cons f I=>
     obtain⟨H,h2⟩:=h;obtain⟨⟨xs,a1,a2⟩,a3⟩:=H.g_;obtain⟨⟨ys,b1,b2⟩,b3⟩:=H.ops;exact⟨⟨H.fn,H.nx,H.ln,H.sp,⟨⟨xs,iZ a1 o_,a2⟩,a3⟩,⟨⟨ys,iZ b1 o_,b2⟩,b3⟩⟩,ih I h2⟩
  refine⟨g,cap,tv,.slice x l c,i,by rw[V],ba,⟨?_,ab _ _ (mM z bl λk E=>aj k (by simp[E])),ax.keep (λb m=>by rw[ba.block b (S b m)]) dP,?_,?_,λk E=>?_⟩⟩
  ·rw[V];exact iZ (aY a.row λk e=>by cases e;exact aj g s_) o_
  ·exact iZ (aY A λk e=>aj k (by simp[e])) o_
  ·have:=a.nodup;rw[e7] at this ⊢
   refine⟨λhm=>this.1 (by simpa [or_comm] using hm),?_⟩
   exact(List.perm_append_comm.nodup_iff).1 this.2
  ·have:=a.rng k ((ak k).1 E);exact⟨o_,by rw[N];exact this.2⟩
def O7(w:aG)(b a:Nat)(j h i:aQ)(r:a≠0)(f:∃x l c,j=.slice x l c)(d:∃x l c,h=.slice x l c)(g:∃x l c,i=.slice x l c):
 Calls prog 79 #[.agg #[I_ b,j,h,i,I_ a]] w λe k=>e=aX (.tuple #[.agg #[I_ 0,bG,bG,bG,I_ 0],.bool false])/\Below w.heap.size w k:=by
 obtain⟨y,u,n,rfl⟩:=f;obtain⟨s,v,p,rfl⟩:=d;obtain⟨m,o,q,rfl⟩:=g;have t:¬(a:Int)=0:=o_
 go_in
 go_wp2_with fail;refine⟨rfl,.tuple #[.agg #[I_ 0,bG,bG,bG,I_ 0],.bool false],?_,rfl,((eh _ w).alloc cL _).alloc s_ _⟩
 simp[results,results79,go_sem]
def O6(w Y:aG)(a:Nat)(v s u:aQ)(P:Value->World->Prop)(A:Nat->Nat->Nat->Value->Value->World->Prop)(B:Nat->World->Prop)(ht:a<=1000000)(F:∃x l c,v=.slice x l c)(E:∃x l c,s=.slice x l c)(C:∃x l c,u=.slice x l c)
 (S:(w.alloc (.cells #[I_ a,v,s,u,I_ 0] 53)).alloc (.cells #[I_ 0,bG,bG,bG,I_ 0] 53)=Y)
 (HC:Hid (Calls prog 110 #[.agg #[I_ a,v,s,u,I_ 0]] Y λe r=>∃gf n cap d g,e=aX (.agg #[I_ a,.slice (some (aH gf 0)) n cap,d,g,I_ 0])/\(∃x l c,d=.slice x l c)/\(∃x l c,g=.slice x l c)/\A gf n cap d g r))
 (HG:Hid (∀gf n cap d g W,A gf n cap d g W->Calls prog 63 #[aZ W.heap.size] (W.alloc (.cells #[I_ ((a+1:Nat):Int),.slice (some (aH gf 0)) n cap,d,g,I_ 0] 53)) λe r=>e=aX (.tuple #[])/\B W.heap.size r))
 (HB:Hid (∀b W,B b W->∃(q:Nat) (f t o:aQ) (p:Nat),W.heap[b]?=some (.cells #[I_ q,f,t,o,I_ p] 53 (0,0))/\(∃x l c,f=.slice x l c)/\(∃x l c,t=.slice x l c)/\(∃x l c,o=.slice x l c)/\W.heap[w.heap.size+1]?=some (.cells #[I_ 0,bG,bG,bG,I_ 0] 53 (0,0))/\b≠w.heap.size+1/\
   ∀W',Kept [w.heap.size+1] W W'->W'.heap.size=W.heap.size->P (.agg #[I_ q,f,t,o,I_ p]) W')):
 Calls prog 79 #[.agg #[I_ a,v,s,u,I_ 0]] w λe r=>∃v',e=aX (.tuple #[v',.bool true])/\P v' r:=by
 obtain⟨x1,l1,c1,rfl⟩:=F;obtain⟨x2,l2,c2,rfl⟩:=E;obtain⟨x3,l3,c3,rfl⟩:=C;have HW:=aB S;clear S;go_in
 go_wp2_with fail;rw[HW.out];refine HC.mono ?_;rintro e w3 ⟨gf,n,cap,d,g,rfl,⟨y2,m2,d2,rfl⟩,⟨y3,m3,d3,rfl⟩,I⟩;have k:=aB (HG _ _ _ _ _ _ I);generalize hb:w3.heap.size=b at k;clear I;rw[show ((a+1:Nat):Int)=(a:Int)+1 by omega] at k
 go_wp2_with fail;refine k.mono ?_;rintro e j ⟨rfl,L⟩;obtain⟨q,f,t,o,p,m,⟨M,Q,N,rfl⟩,⟨T,X,U,rfl⟩,⟨J,K,O,rfl⟩,h,q3,V⟩:=HB _ _ L;have Z:=aB V;have ah:=aA (i:=0) m rfl;have al:=aA (i:=1) m rfl;have ae:=aA (i:=2) m rfl;have ag:=aA (i:=3) m rfl;have ac:=aA (i:=4) m rfl;have y:=aA (i:=0) h rfl;have H:=aA (i:=1) h rfl;have z:=aA (i:=2) h rfl;have D:=aA (i:=3) h rfl;have G:=aA (i:=4) h rfl;have aj:=aD (i:=0) h;have ak:=aD (i:=1) h;have af:=aD (i:=2) h;have ab:=aD (i:=3) h;have ad:=aD (i:=4) h;have aa:=aC m;have ai:=aC h;clear L V m h;go_wp2_with fail;refine⟨rfl,.tuple #[.agg #[I_ q,.slice M Q N,.slice T X U,.slice J K O,I_ p],.bool true],?_,_,rfl,Z _ ?_ s_⟩
 ·simp[results,results79,go_sem,y,H,z,D,G]
 ·exact(((((Kept.refl _ _).setCell _ _ s_).setCell _ _ s_).setCell _ _ s_).setCell _ _ s_).setCell _ _ s_
def vX{k:Nat}{t:TypeId}{a:List Value}(h:w.ownsRow b_ t k v n a):∃x l c,v=.slice x l c:=by
 obtain⟨x,c,e⟩:=dE h;exact⟨x,n,c,e⟩
def DC.of{own:List Nat}(h:kE w)(d:Below w.heap.size w w')(i:∀k∈own,w.heap.size<=k):DC own w':=λW f=>by
 cases c:prog.globalNamed "internal/strconv.uint64pow10" with
 |none=>unfold kE Lib.TabIs World.var? at h;rw[c] at h;cases h
 |some g=>
  have a:g<w.heap.size:=by
   unfold kE Lib.TabIs World.var? at h;rw[c] at h;simp only[Option.bind_some] at h;rcases fu g w.heap.size with b|b
   ·exact b
   ·rw[ik (by exact b)] at h
    cases h
  refine h.keep c ?_;rw[f.block g (ej a d.size) (λe=>by have:=i g e;omega),d.block g a]
def jC.form(h:jC fp F w v s):∃b tv xo,v=.agg #[I_ s.m_,b,tv,xo,I_ s.stop]/\(∃x l c,b=.slice x l c)/\(∃x l c,tv=.slice x l c)/\(∃x l c,xo=.slice x l c):=by
 obtain⟨b,tv,xo,k,rfl,a,i,f,d⟩:=h;refine⟨b,tv,xo,rfl,?_,?_,?_⟩
 ·rcases a with ⟨_,x,c,e⟩|⟨g,c,j,e,_⟩<;>exact⟨_,_,_,e⟩
 ·rcases f with ⟨_,x,c,e⟩|⟨g,o,c,e,_⟩<;>exact⟨_,_,_,e⟩
 ·rcases d with ⟨_,e⟩|⟨g,c,m,e,_⟩<;>exact⟨_,_,_,e⟩
def VW.run{gf g:Nat}{j a:aQ}{c:List FVal}{m:cS}(h:VW fp F b_ w gf g j a c m)(u:∀b,F b->b<b_)(f:b_<=w.heap.size)(q p:aQ):
 dA false fp F b_ (w.alloc (.cells #[q,.slice (some (aH gf 0)) c.length g,j,a,p] 53)) w.heap.size gf g q j a p c m/\∀k∈aR false w.heap.size gf a c,b_<=k:=by
 generalize r:w.alloc (.cells #[q,.slice (some (aH gf 0)) c.length g,j,a,p] 53)=W;have t:Below w.heap.size w W:=by rw[<-r];exact(eh _ w).alloc cL _
 have v:W.heap.size=w.heap.size+1:=by rw[<-r];simp
 have n:W.heap[w.heap.size]?=some (.cells #[q,.slice (some (aH gf 0)) c.length g,j,a,p] 53 (0,0)):=by rw[<-r];exact aN _ _ rfl _
 have o:∀b,F b->W.heap[b]?=w.heap[b]?:=λb s=>t.block b (ej (u b s) f)
 have i:∀k∈gf::(a.ownBlock.toList++cB false c),W.heap[k]?=w.heap[k]?:=λk d=>t.block k (h.rng k d).2
 refine⟨⟨n,aY h.row λk e=>by cases e;exact i gf s_,mM h.frs o λk d=>i k (by simp[d]),h.tape.keep o dP,aY h.out λk e=>i k (by simp[e]),?_,λk d=>?_,λk d=>?_⟩,λk d=>?_⟩
 ·exact e7.2 ⟨λl=>by have:=(h.rng _ l).2;omega,h.nodup⟩
 ·rcases eo.1 d with rfl|d
  ·omega
  ·have:=(h.rng k d).2;omega
 ·have x:=u k d;refine⟨o_,λl=>?_⟩
  rcases eo.1 l with rfl|l
  ·omega
  ·have:=(h.rng k l).1;omega
 ·rcases eo.1 d with rfl|d
  ·exact f
  ·exact(h.rng k d).1
def WV{ar:Nat->Option Nat}{C:List eV}{k:Nat}{r:cS × Nat}(ht:kU ar C)(aj:kK C)(h:jC fp F w v s)(hF:∀b,F b->b<w.heap.size)(hT:lZ fp F w C)(hp:kE w)(hs:s.stop=0)
 (hA:fY ar s.m) (X:s.m.f_≠[]) (hU:gK s.m) (aa:s.m.out.length<=50) (am:s.m.tape.length<=17592186044416) (hk:dR C k s.m=some r) (ap:s.m_+1<=1000000) (hr:r.2<=1000):
 Calls prog 79 #[v] w λe J=>∃v',e=aX (.tuple #[v',.bool true])/\Below w.heap.size w J/\∃G,Ext F G w.heap.size/\(∀b,G b->b<J.heap.size)/\jC fp G J v' ⟨s.m_+1,r.1,cA (s.m_+1) r.2⟩:=by
 obtain⟨fv,tv,xo,rfl,f1,f2,f3⟩:=h.form
 have ad:∀f∈s.m.f_,f.g_.length<=90001/\f.ops.length<=99000:=λf hf=>by
  have hq:∃N,cR ar f N:=by
   obtain⟨b,g,e⟩:=lV X;rw[e] at hf;have K:=hA.ok.low;have Q:=hA.ok.top;rw[e,gE] at K;rw[e,fC] at Q;rcases eu.1 hf with l|l
   ·exact⟨1,K f l⟩
   ·rw[ew.1 l];exact⟨0,Q g rfl⟩
  obtain⟨N,⟨T,L,hh,_⟩,hn,_,hv⟩:=hq;have l:=(L.ins _ _ (fh hn)).2.1;have h2:=L.len;exact⟨hv,o_⟩
 rw[hs] at h ⊢
 generalize I:(w.alloc (.cells #[I_ s.m_,fv,tv,xo,I_ (0:Nat)] 53)).alloc (.cells #[I_ 0,bG,bG,bG,I_ 0] 53)=m;have t:Below w.heap.size w m:=by rw[<-I];exact((eh _ w).alloc cL _).alloc s_ _
 have ao:m.heap.size=w.heap.size+2:=by rw[<-I];simp
 have ai:m.heap[w.heap.size+1]?=some (.cells #[I_ 0,bG,bG,bG,I_ 0] 53 (0,0)):=by
  rw[<-I];exact aN _ _ s_ _
 have ah:∀b,F b->b<m.heap.size:=λb Y=>ej (hF b Y) t.size
 have h2:jC fp F m (.agg #[I_ s.m_,fv,tv,xo,I_ (0:Nat)]) s:=by
  have:=h.keep (λb Y=>t.block b (hF b Y)) dP
  exact this
 refine(O6 w m s.m_ fv tv xo (λv' J=>Below w.heap.size w J/\∃G,Ext F G w.heap.size/\(∀b,G b->b<J.heap.size)/\jC fp G J v' ⟨s.m_+1,r.1,cA (s.m_+1) r.2⟩)
  (λz n q p S W=>∃i,n=i.length/\Below m.heap.size m W/\VW fp F m.heap.size W z q p S i s.m)
  (λb W=>∃W0 z q p j i G,(Below m.heap.size m W/\m.heap.size<=b)/\(m.heap.size<=W0/\Ext F G W0)/\dA false fp G m.heap.size W b z q (I_ ((s.m_+1:Nat):Int)) p j (I_ (cA (s.m_+1) r.2)) i r.1/\∀k∈aR false b z j i,m.heap.size<=k)
  (by omega) f1 f2 f3 I ?_ (λz n q p S W hq=>?_) (λb W hq=>?_))
 ·refine(A8 h2 ah X hA.ok.deep ad aa).mono ?_;rintro e J ⟨v',rfl,z,q,p,j,i,rfl,y,L⟩;rw[hs];refine⟨z,i.length,q,p,j,rfl,?_,vX L.out,i,rfl,y,L⟩;rcases L.tape with ⟨_,x,c,e⟩|⟨g,o,c,e,_⟩<;>exact⟨_,_,_,e⟩
 ·obtain⟨i,rfl,y,L⟩:=hq;obtain⟨P,E⟩:=L.run ah y.size (I_ ((s.m_+1:Nat):Int)) (I_ 0);generalize ak:W.alloc (.cells #[I_ ((s.m_+1:Nat):Int),.slice (some (aH z 0)) i.length q,p,S,I_ 0] 53)=V at P;have an:Below W.heap.size W V:=by rw[<-ak];exact(eh _ W).alloc cL _
  have d:Below m.heap.size m V:=y.trans (an.mono y.size);have O:Below w.heap.size w V:=t.trans (d.mono t.size);have al:lZ fp F V C:=hT.keep (λb Y=>O.block b (hF b Y)) dP
  refine(TP ht aj P al (DC.of hp O λk hk=>em t.size (E k hk)) d.size hA hU aa am hk o_ hr).mono ?_
  rintro e J ⟨he,D,G,ag,ab,af,A,M,d1,d2,d3⟩
  have ae:∀x∈aR false W.heap.size ag A M,m.heap.size<=x:=λx hx=>by
   rcases d3 x hx with l|l
   ·exact E x l
   ·exact em d.size l
  refine⟨he,V.heap.size,ag,ab,af,A,M,G,⟨⟨D.os.trans d.os,D.tape.trans d.tape,D.output.trans d.output,em d.size D.size,λk a=>?_⟩,y.size⟩,⟨d.size,d1⟩,d2,ae⟩
  rw[D.block k (ej a d.size) (λhm=>by have:=E k hm;omega),d.block k a]
 ·obtain⟨W0,z,q,p,j,i,G,⟨g1,g2⟩,⟨g3,g4⟩,U,g6⟩:=hq;have ac:=U.blk;refine⟨_,_,_,_,_,ac,⟨_,_,_,rfl⟩,?_,vX U.out,by rw[g1.block _ o_];exact ai,o_,λV B Z=>?_⟩
  ·rcases U.tape with ⟨_,x,c,e⟩|⟨g,o,c,e,_⟩<;>exact⟨_,_,_,e⟩
  ·have u:Below w.heap.size w W:=t.trans (g1.mono t.size);have hS:=U.kept (G:=λk=>G k\/(k∈aR false b z j i/\k≠b)) (λ_ h=>d7 h) (λk a hn=>d6 ⟨a,hn⟩)
   have H:∀k,(G k\/(k∈aR false b z j i/\k≠b))->k≠w.heap.size+1/\k<W.heap.size:=λk a=>by
    rcases a with l|⟨l,_⟩
    ·refine⟨?_,(U.apart k l).1⟩;rcases g4.new k l with h3|h3
     ·have:=hF k h3;omega
     ·omega
    ·have:=g6 k l;exact⟨o_,U.lt k l⟩
   refine⟨⟨B.os.trans u.os,B.tape.trans u.tape,B.output.trans u.output,by rw[Z];exact u.size,λk a=>?_⟩,λk=>G k\/(k∈aR false b z j i/\k≠b),⟨λk a=>d7 (g4.sub k a),λk a=>?_⟩,λk a=>by rw[Z];exact(H k a).2,hS.keep (λk a=>B.block k (H k a).2 (by simpa using (H k a).1)) dP⟩
   ·rw[B.block k (ej a u.size) t_,u.block k a]
   ·rcases a with l|⟨l,_⟩
    ·rcases g4.new k l with h3|h3
     ·exact d7 h3
     ·exact d6 o_
    ·exact d6 (by have:=g6 k l;omega)
end Go.Proofs.YtlflgmdcghfngaaGreatDoor
