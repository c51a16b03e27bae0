/- Contracts of the program: the moment is told: the walks. -/
import Derived.Test.YtddnpoiiimjpcaaGreatDoorP15
set_option linter.defProp false
set_option maxRecDepth 100000
set_option maxHeartbeats 4000000
namespace Go.Proofs.YtddnpoiiimjpcaaGreatDoor
open Hs
open _root_.Go.Proofs.Tryz
open Instr(typeAssert)
open Go.RowKit
variable{t:List Int}{a:List aJ}{b:List eU}{b_ n:Nat}{w w':aG}{i:aH}{f:aJ}{v:aQ}{s:aU}{F G:bX}{o:cN}{fp:eK}
def OR{W:aG}{b:Nat}{s:SV}{T:TypeId}(h:W.heap[b]?=some (.cells s.cells T (0,0))):W.cell? (aI b 0)=some (I_ s.t)/\W.cell? (aI b 1)=some (.slice s.x1 s.n1 s.c1)/\W.cell? (aI b 2)=some (.slice s.x2 s.n2 s.c2)/\W.cell? (aI b 3)=some (.slice s.x3 s.n3 s.c3)/\W.cell? (aI b 4)=some (I_ s.q):=
 ⟨aA h rfl,aA h rfl,aA h rfl,aA h rfl,aA h rfl⟩
def zW(w:aG)(s:SV)(P A3:SV->World->Prop)(A1:Option Addr->Nat->Nat->World->Prop)(A2:Option Addr->Nat->Nat->Option Addr->Nat->Nat->World->Prop)
 (HS:Hid (∀W,aW ((w.alloc (.cells s.cells 60)).alloc (.cells #[I_ 0,bG,bG,bG,I_ 0] 35)) W->Calls prog 51 #[s.val] W λe F=>∃x n c,e=aX (.slice x n c)/\A1 x n c F))
 (HV:Hid (∀x n c W,A1 x n c W->W.heap[w.heap.size]?=some (.cells s.cells 60 (0,0))/\Calls prog 52 #[s.val] W λe F=>∃l o g,e=aX (.slice l o g)/\A2 x n c l o g F))
 (HC:Hid (∀x n c l o g W,A2 x n c l o g W->W.heap[w.heap.size]?=some (.cells s.cells 60 (0,0))/\Calls prog 53 #[.slice s.x3 s.n3 s.c3] W λe F=>∃B C A,e=aX (.slice B C A)/\A3 ⟨s.t,x,l,B,n,o,C,c,g,A,s.q⟩ F))
 (HP:Hid (∀m W,A3 m W->W.heap[w.heap.size]?=some (.cells s.cells 60 (0,0))/\(∃c,W.heap[w.heap.size+1]?=some (.cells c 35 (0,0))/\c.size=5)/\P m (dS W (w.heap.size+1) m))):
 Calls prog 30 #[s.val] w λe F=>∃m:SV,e=aX m.val/\P m F:=by
 unfold SV.val SV.cells at HS;have z:=HV;unfold SV.val at z;unfold SV.val;go_in
 go_wp2_with fail;have HH:=aB (aW.drew ((w.alloc (.cells #[I_ s.t,.slice s.x1 s.n1 s.c1,.slice s.x2 s.n2 s.c2,.slice s.x3 s.n3 s.c3,I_ s.q] 60)).alloc (.cells #[I_ 0,bG,bG,bG,I_ 0] 35)));have M:((w.alloc (.cells #[I_ s.t,.slice s.x1 s.n1 s.c1,.slice s.x2 s.n2 s.c2,.slice s.x3 s.n3 s.c3,I_ s.q] 60)).alloc (.cells #[I_ 0,bG,bG,bG,I_ 0] 35)).drew.heap[w.heap.size]?=some (.cells (SV.cells s) 60 (0,0)):=(em _ _ _ s_).trans (aN _ _ rfl _)
 have g:=OR M;clear M;refine wp_region_held_drew (S:=λW=>W.cell? (aI w.heap.size 0)=some (I_ s.t)/\W.cell? (aI w.heap.size 1)=some (.slice s.x1 s.n1 s.c1)/\W.cell? (aI w.heap.size 2)=some (.slice s.x2 s.n2 s.c2)/\W.cell? (aI w.heap.size 3)=some (.slice s.x3 s.n3 s.c3)/\W.cell? (aI w.heap.size 4)=some (I_ s.q)) k_ g (λa=>?_)
 clear g;(refine wpAnyH_take (i:=0) (v:=?_) rfl k_ k_ k_ (λ_ _ _ h=>h) (d7 ⟨r_,?_⟩) a ?_;rotate_left;(rintro w ⟨t,u,r,p,y⟩;go_simp<;>with_reducible rfl))
 (refine wpAnyH_take (i:=1) (v:=?_) rfl k_ k_ k_ (λ_ _ _ h=>h) (d7 ⟨r_,?_⟩) a ?_;rotate_left;(rintro w ⟨t,u,r,p,y⟩;go_simp<;>with_reducible rfl))
 (refine wpAnyH_take (i:=2) (v:=?_) rfl k_ k_ k_ (λ_ _ _ h=>h) (d7 ⟨r_,?_⟩) a ?_;rotate_left;(rintro w ⟨t,u,r,p,y⟩;go_simp<;>with_reducible rfl))
 (refine wpAnyH_take (i:=4) (v:=?_) rfl k_ k_ k_ (λ_ _ _ h=>h) (d7 ⟨r_,?_⟩) a ?_;rotate_left;(rintro w ⟨t,u,r,p,y⟩;go_simp<;>with_reducible rfl))
 (refine wpAnyH_take (i:=6) (v:=?_) rfl k_ k_ k_ (λ_ _ _ h=>h) (d7 ⟨r_,?_⟩) a ?_;rotate_left;(rintro w ⟨t,u,r,p,y⟩;go_simp<;>with_reducible rfl))
 (refine wpAnyH_take (i:=7) (v:=?_) rfl k_ k_ k_ (λ_ _ _ h=>h) (d7 ⟨r_,?_⟩) a ?_;rotate_left;(rintro w ⟨t,u,r,p,y⟩;go_simp<;>with_reducible rfl))
 (refine wpAnyH_take (i:=9) (v:=?_) rfl k_ k_ k_ (λ_ _ _ h=>h) (d7 ⟨r_,?_⟩) a ?_;rotate_left;(rintro w ⟨t,u,r,p,y⟩;go_simp<;>with_reducible rfl))
 (refine wpAnyH_take (i:=10) (v:=?_) rfl k_ k_ k_ (λ_ _ _ h=>h) (d7 ⟨r_,?_⟩) a ?_;rotate_left;(rintro w ⟨t,u,r,p,y⟩;go_simp<;>with_reducible rfl))
 refine wpAnyH_ready (rs:=[3]) k_ s_ ?_
 refine AllReadyH.cons rfl (λK k=>?_) AllReadyH.nil
 go_simp;go_at_call 51
 refine(HS _ HH).mono ?_;rintro e w3 ⟨x1,Z,Y,rfl,h3⟩;obtain⟨N,Q⟩:=z.out _ _ _ _ h3;have G:=aB Q;have V:=OR N;clear h3 N Q HS HV z HH;go_wp2_with fail;refine k.out _ _ V (λa=>?_)
 clear k K V;refine wpAnyH_ready (rs:=[5]) k_ s_ ?_
 refine AllReadyH.cons rfl (λK k=>?_) AllReadyH.nil
 go_simp;go_at_call 52
 refine G.mono ?_;rintro e w4 ⟨l,o,g,rfl,h4⟩;obtain⟨X,L⟩:=HC _ _ _ _ _ _ _ h4;have J:=aB L;have I:=OR X;clear h4 X L HC G;go_wp2_with fail;refine k.out _ _ I (λa=>?_)
 clear k K I;refine wpAnyH_ready (rs:=[8]) k_ s_ ?_
 refine AllReadyH.cons rfl (λK k=>?_) AllReadyH.nil
 go_simp;go_at_call 53
 refine J.mono ?_;rintro e w5 ⟨B,C,A,rfl,h5⟩;obtain⟨U,⟨c,H,ab⟩,T⟩:=HP _ _ h5;have d:=OR U;have E:=aB T;have b:=aB H;clear h5 U T HP J;go_wp2_with fail;refine k.out _ _ d (λa=>?_)
 clear k K;(refine wpAnyH_take (i:=11) (v:=?_) rfl k_ k_ k_ (λ_ _ _ h=>h) (d7 ⟨r_,?_⟩) a ?_;rotate_left;(rintro w ⟨t,u,r,p,y⟩;go_simp<;>with_reducible rfl))
 refine wpAnyH_ready (rs:=[12]) k_ s_ ?_
 refine AllReadyH.cons rfl (λK k=>?_) AllReadyH.nil
 have g0:=aA (i:=0) b (eu o_)
 have g1:=aA (i:=1) b (eu o_)
 have g2:=aA (i:=2) b (eu o_)
 have g3:=aA (i:=3) b (eu o_)
 have g4:=aA (i:=4) b (eu o_)
 have f0:=aE (i:=0) b;have f1:=aE (i:=1) b;have f2:=aE (i:=2) b;have f3:=aE (i:=3) b;have f4:=aE (i:=4) b;have l5:=aD b;have hs:=jT (W:=w5) (s:=⟨s.t,x1,l,B,Z,o,C,Y,g,A,s.q⟩) b o_ rfl
 have O:∀i,(dS w5 (w.heap.size+1) ⟨s.t,x1,l,B,Z,o,C,Y,g,A,s.q⟩).cell? (aI w.heap.size i)=w5.cell? ⟨w.heap.size,i,none⟩:=λi=>World.cell?_of_block (dH _ _ _ _ (show w.heap.size≠w.heap.size+1 by omega))
 have D:=aB hs;have f:=aB O;clear H hs O;unfold dS at D E f;go_simp;refine k.out _ _ ⟨(f 0).trans d.1,(f 1).trans d.2.1,(f 2).trans d.2.2.1,(f 3).trans d.2.2.2.1,(f 4).trans d.2.2.2.2⟩ (λa=>?_)
 refine wpAnyH_done k_ ?_ _
 have q:=D;have j:=E;clear D E b f g0 g1 g2 g3 g4 f0 f1 f2 f3 f4 a k d;generalize ((((w5.setCell (aI (w.heap.size+1) 0) (I_ s.t)).setCell (aI (w.heap.size+1) 1) (.slice x1 Z Y)).setCell (aI (w.heap.size+1) 2) (.slice l o g)).setCell (aI (w.heap.size+1) 3) (.slice B C A)).setCell (aI (w.heap.size+1) 4) (I_ s.q)=W6 at q j ⊢
 obtain⟨r0,r1,r2,r3,r4⟩:=q;have aa:=aB j;clear j;go_wp2
 exact bodyPost_ret (v:=.agg #[I_ s.t,.slice x1 Z Y,.slice l o g,.slice B C A,I_ s.q]) (by simp[results,results30,go_sem,r0,r1,r2,r3,r4]) rfl ⟨_,rfl,aa⟩
def UG:∀(n:Nat) (l:cE),l.length<=n->∀c∈eG l,c.length<=l.length:=by
 intro n;induction n with
 |zero=>
  intro l f c a;rw[eC (d7 (ja.1 o_))] at a
  cases a
 |succ n e=>
  intro l f c a;by_cases d:l=[]
  ·rw[eC (d7 d)] at a;cases a
  by_cases b:bL l=0
  ·rw[eC (d6 b)] at a;cases a
  rw[iQ d b] at a;rcases eo.1 a with rfl|a
  ·rw[gw];omega
  ·have:=e _ (by rw[gt];omega) c a
   rw[gt] at this;omega
def SF(a b:aL)(h:aM a<=200):aM (dL a b).1<=200:=by
 unfold dL;split
 ·exact kA
 split
 ·exact kA
 have e:∀x∈kC a,aM x<=200:=λx d=>by
  unfold kC at d;rw[fI] at h;split at d
  ·obtain⟨c,g,rfl⟩:=hQ.1 d;have:=UG _ _ cK c g;rw[lM];omega
  ·have:=mR d;omega
 show aM ((kC a).getD b.n.toNat bS)<=200
 rw[List.getD_eq_getElem?_getD];cases f:(kC a)[b.n.toNat]? with
 |none=>exact kA
 |some x=>exact e x (gv f)
def NO(a:aL):aM (eL a).1<=200:=by
 unfold eL;repeat' split
 all_goals first|(show aM (bH _)<=200;rw[lA];omega)|exact kA
section
variable {sh:Bool} {fp:eK} {F:bX} {b_:Nat} {w:aG} {sb gf cap:Nat} {t0 tv u_ s0:aQ} {v_:List FVal} {w_:List aJ} {f:aJ} {tape:List Int} {out:cN}
def p7(h:dA sh fp F b_ w sb gf cap t0 tv u_ s0 v_ ⟨w_++[f],tape,out⟩)(A:w_.length<=15)(j:b_<=w.heap.size)(n:f.ops.length<=99000)(I:∃H a b,f.ops=H++[a,b]/\bT a):
 Calls prog 265 #[.agg #[],bE sb] w (iT sh fp F b_ sb gf t0 s0 (aR sh sb gf u_ v_) w w_ tape out (aK .index f)):=by
 obtain⟨H,a,b,m,K⟩:=I;have m:f.ops=(H++[a])++[b]:=by rw[m];simp
 have O:=h.mid j (.cells #[] 288);have i:f.pop.ops=H++[a]:=nL m;have x:=n;rw[m,ek,ek] at x;have N:f.pop.ops.length<=100000:=by rw[i,ek];omega
 have L:f.pop.pop.ops.length<=100000:=by rw[nL i];omega
 have Q:aK .index f=if (dL a b).2=0 then (f.pop.pop.push (dL a b).1,0) else (f.pop.pop,(dL a b).2):=by simp[aK,jP m,jP i]
 have C:aM a<=200->aM (dL a b).1<=200:=SF a b;have q:∀(W:aG) (u v:aQ),PV F W u a->PV F W v b->(∀k,F k->k<W.heap.size)->aM a<=200->aM b<=200->Calls prog 266 #[u,v] W (fC F W (dL a b)):=λW u v c d l p s=>aH_ F u v a b W c d K o_ l
 generalize dL a b=r at q Q C;rw[Q]
 refine(NU w _ sb gf (w_.length*6) r.2 (λg=>r.2=0/\fZ sh fp F b_ sb gf t0 s0 (aR sh sb gf u_ v_) w ⟨w_++[f.pop.pop.push r.1],tape,out⟩ g) (λg=>r.2≠0/\fZ sh fp F b_ sb gf t0 s0 (aR sh sb gf u_ v_) w ⟨w_++[f.pop.pop],tape,out⟩ g)
  (λt z W=>PV F W (.iface t z) b/\aM b<=200/\dX sh fp b_ sb gf w_.length t0 s0 (aR sh sb gf u_ v_) (w.alloc (.cells #[] 288)) F ⟨w_++[f.pop],tape,out⟩ W)
  (λt z D E W=>PV F W (.iface t z) b/\aM b<=200/\PV F W (.iface D E) a/\aM a<=200/\dX sh fp b_ sb gf w_.length t0 s0 (aR sh sb gf u_ v_) (w.alloc (.cells #[] 288)) F ⟨w_++[f.pop.pop],tape,out⟩ W)
  (λt z W=>(r.2=0/\aM r.1<=200)/\∃G,Ext F G w.heap.size/\PV G W (.iface t z) r.1/\dX sh fp b_ sb gf w_.length t0 s0 (aR sh sb gf u_ v_) (w.alloc (.cells #[] 288)) G ⟨w_++[f.pop.pop],tape,out⟩ W) rfl (O.topS A) (λW hS=>?_) (λW t z o=>?_) (λW t z D E o=>?_) (λW t z o=>?_)).mono ?_
 ·refine((O.same hS).pop m o_).mono ?_
  rintro e g ⟨t,z,B,c,d,l⟩;exact⟨t,z,B,c,d,l⟩
 ·obtain⟨c,d,l⟩:=o;refine(l.popK i N).mono ?_;rintro e g ⟨D,E,B,T,Z,U,k4⟩;exact⟨D,E,B,c.keep k4,d,T,Z,U⟩
 ·obtain⟨c,d,l,p,s⟩:=o;refine(q W _ _ l c (λk J=>(s.apart k J).1) p d).mono ?_
  rintro e g ⟨P,⟨y,u,rfl,S⟩|⟨y,rfl⟩⟩
  ·obtain⟨X,V,rfl⟩:=S.form;exact d7 ⟨X,V,rfl,⟨y,C p⟩,Grow F W g,⟨λ_=>d7,λk J=>J.imp_right λc=>el (el s_ s.1.size) c.1⟩,S,s.grow P (λ_=>d7) dP⟩
  ·exact d6 ⟨rfl,y,(s.grow P dP λ_=>d7).doneX (Ext.refl _ _)⟩
 ·obtain⟨⟨y,M⟩,G,Y,c,d⟩:=o;refine(d.push c M L).mono ?_;rintro e g ⟨B,p⟩;exact⟨B,y,p.doneX Y⟩
 ·rintro e g (⟨rfl,c,d⟩|⟨rfl,c,d⟩)
  ·exact iT.ok (if_pos c) d
  ·exact iT.stop (if_neg c) c d
def M8(h:dA sh fp F b_ w sb gf cap t0 tv u_ s0 v_ ⟨w_++[f],tape,out⟩)(m:w_.length<=15)(g:b_<=w.heap.size)(i:f.ops.length<=99000)(p:∃B a,f.ops=B++[a]/\bT a):
 Calls prog 283 #[.agg #[],bE sb] w (iT sh fp F b_ sb gf t0 s0 (aR sh sb gf u_ v_) w w_ tape out (aK .length f)):=by
 obtain⟨B,a,o,q⟩:=p;have y:=h.mid g (.cells #[] 317);have K:f.pop.ops.length<=100000:=by rw[nL o];rw[o,ek] at i;omega
 have D:aK .length f=if (eL a).2=0 then (f.pop.push (eL a).1,0) else (f.pop,(eL a).2):=by simp[aK,jP o]
 have n:=NO a;have j:∀(W:aG) (u:aQ),PV F W u a->aM a<=200->Calls prog 284 #[u] W (fC F W (eL a)):=λW u b C=>Y6 F u a W b q o_
 generalize eL a=r at j D n;rw[D]
 refine(IS w _ sb gf (w_.length*6) r.2 (λd=>r.2=0/\fZ sh fp F b_ sb gf t0 s0 (aR sh sb gf u_ v_) w ⟨w_++[f.pop.push r.1],tape,out⟩ d) (λd=>r.2≠0/\fZ sh fp F b_ sb gf t0 s0 (aR sh sb gf u_ v_) w ⟨w_++[f.pop],tape,out⟩ d)
  (λt z W=>PV F W (.iface t z) a/\aM a<=200/\dX sh fp b_ sb gf w_.length t0 s0 (aR sh sb gf u_ v_) (w.alloc (.cells #[] 317)) F ⟨w_++[f.pop],tape,out⟩ W)
  (λt z W=>r.2=0/\∃G,Ext F G w.heap.size/\PV G W (.iface t z) r.1/\dX sh fp b_ sb gf w_.length t0 s0 (aR sh sb gf u_ v_) (w.alloc (.cells #[] 317)) G ⟨w_++[f.pop],tape,out⟩ W) rfl (y.topS m) (λW N=>?_) (λW t z s=>?_) (λW t z s=>?_)).mono ?_
 ·refine((y.same N).pop o o_).mono ?_
  rintro e d ⟨t,z,x,b,c,L⟩;exact⟨t,z,x,b,c,L⟩
 ·obtain⟨b,c,v⟩:=s;refine(j W _ b c).mono ?_;rintro e d ⟨A,⟨l,u,rfl,E⟩|⟨l,rfl⟩⟩
  ·obtain⟨J,I,rfl⟩:=E.form;exact d7 ⟨J,I,rfl,l,Grow F W d,⟨λ_=>d7,λk H=>H.imp_right λb=>el (el s_ v.1.size) b.1⟩,E,v.grow A (λ_=>d7) dP⟩
  ·exact d6 ⟨rfl,l,(v.grow A dP λ_=>d7).doneX (Ext.refl _ _)⟩
 ·obtain⟨l,G,M,b,c⟩:=s;refine(c.push b n K).mono ?_;rintro e d ⟨x,C⟩;exact⟨x,l,C.doneX M⟩
 ·rintro e d (⟨rfl,b,c⟩|⟨rfl,b,c⟩)
  ·exact iT.ok (if_pos b) c
  ·exact iT.stop (if_neg b) b c
end
def Disp(t:TypeId)(f:Nat):Prop:=(∀recv w,(Go.method 499 t recv "hindsight/machine.do").run prog w=.ok (f,recv) w)/\∀a b w,(callFunc f #[a,b]).run prog w=.ok (.enter f #[a,b]) w
def fJ(t:TypeId):Prop:=∀v w,(typeAssert (.iface t v) 238 260 true).run prog w=.ok (.tuple #[.agg #[I_ 0,.pointer none],.bool false]) w
def m9(v:aQ)(w:aG):(typeAssert (.iface 260 v) 238 260 true).run prog w=.ok (.tuple #[v,.bool true]) w:=k_
def YT:Disp 260 258:=⟨λ_ _=>by kernel_rfl,λ_ _ _=>by kernel_rfl⟩
def P2:Disp 256 255:=⟨λ_ _=>by kernel_rfl,λ_ _ _=>by kernel_rfl⟩
def P3:Disp 285 259:=⟨λ_ _=>by kernel_rfl,λ_ _ _=>by kernel_rfl⟩
def OL:Disp 330 288:=⟨λ_ _=>by kernel_rfl,λ_ _ _=>by kernel_rfl⟩
def TV:Disp 332 289:=⟨λ_ _=>by kernel_rfl,λ_ _ _=>by kernel_rfl⟩
def P5:Disp 345 297:=⟨λ_ _=>by kernel_rfl,λ_ _ _=>by kernel_rfl⟩
def TR:Disp 344 296:=⟨λ_ _=>by kernel_rfl,λ_ _ _=>by kernel_rfl⟩
def JI:Disp 316 282:=⟨λ_ _=>by kernel_rfl,λ_ _ _=>by kernel_rfl⟩
def YR:Disp 314 281:=⟨λ_ _=>by kernel_rfl,λ_ _ _=>by kernel_rfl⟩
def YQ:Disp 290 268:=⟨λ_ _=>by kernel_rfl,λ_ _ _=>by kernel_rfl⟩
def TU:Disp 313 272:=⟨λ_ _=>by kernel_rfl,λ_ _ _=>by kernel_rfl⟩
def YS:Disp 288 265:=⟨λ_ _=>by kernel_rfl,λ_ _ _=>by kernel_rfl⟩
def P4:Disp 287 260:=⟨λ_ _=>by kernel_rfl,λ_ _ _=>by kernel_rfl⟩
def TT:Disp 317 283:=⟨λ_ _=>by kernel_rfl,λ_ _ _=>by kernel_rfl⟩
def P0:Disp 318 286:=⟨λ_ _=>by kernel_rfl,λ_ _ _=>by kernel_rfl⟩
def P8:Disp 320 287:=⟨λ_ _=>by kernel_rfl,λ_ _ _=>by kernel_rfl⟩
def P6:Disp 258 257:=⟨λ_ _=>by kernel_rfl,λ_ _ _=>by kernel_rfl⟩
def P7:Disp 336 295:=⟨λ_ _=>by kernel_rfl,λ_ _ _=>by kernel_rfl⟩
def JJ:Disp 335 293:=⟨λ_ _=>by kernel_rfl,λ_ _ _=>by kernel_rfl⟩
def aP_:fJ 256:=λ_ _=>by kernel_rfl
def aQ_:fJ 285:=λ_ _=>by kernel_rfl
def WX:fJ 330:=λ_ _=>by kernel_rfl
def L4:fJ 332:=λ_ _=>by kernel_rfl
def aS_:fJ 345:=λ_ _=>by kernel_rfl
def L1:fJ 344:=λ_ _=>by kernel_rfl
def RR:fJ 316:=λ_ _=>by kernel_rfl
def j6:fJ 314:=λ_ _=>by kernel_rfl
def j5:fJ 290:=λ_ _=>by kernel_rfl
def L3:fJ 313:=λ_ _=>by kernel_rfl
def j7:fJ 288:=λ_ _=>by kernel_rfl
def aR_:fJ 287:=λ_ _=>by kernel_rfl
def L2:fJ 317:=λ_ _=>by kernel_rfl
def aO_:fJ 318:=λ_ _=>by kernel_rfl
def aV_:fJ 320:=λ_ _=>by kernel_rfl
def aT_:fJ 258:=λ_ _=>by kernel_rfl
def aU_:fJ 336:=λ_ _=>by kernel_rfl
def RS:fJ 335:=λ_ _=>by kernel_rfl
def bT_(t:TypeId)(z:aQ)(b:Bool):Prop:=(t=260/\(∃l p,z=.agg #[I_ l,.pointer p])/\b=true)\/(fJ t/\b=false)
def V7(w:aG)(sb:Nat)(L:Nat->World->Prop)(P:World->Prop)(S:Nat->World->Prop)(M:Nat->Nat->Nat->World->Prop)(N:Nat->TypeId->Value->Nat->Bool->World->Prop)(I:Nat)(i:L I w)
 (Z:Hid (∀k W,L k W->∃x n c,W.cell? (aI sb 1)=some (.slice x n c)/\sb<W.heap.size/\n<=16/\(n=0->S 1 W)/\(n≠0->∃j,k=j+1/\∃f g,M j f g W)))
 (U:Hid (∀j f g W,M j f g W->Calls prog 82 #[bE sb] W λe d=>e=aX (.pointer (some (aI f g)))/\M j f g d))
 (X:Hid (∀j f g W,M j f g W->Calls prog 132 #[.pointer (some (aI f g))] W λe d=>∃t z a b,e=aX (.iface t z)/\Disp t a/\bT_ t z b/\N j t z a b d))
 (Y:Hid (∀j t z a b W,N j t z a b W->Calls prog a #[z,bE sb] W λe d=>(e=aX (.tuple #[])/\(b=true->∀A,P (d.alloc A))/\(b=false->∀A,L j (d.alloc A)))\/(∃q,e=fP q/\S q d))):
 Calls prog 111 #[bE sb] w λe d=>(e=aX (.tuple #[])/\P d)\/(∃q,e=fP q/\S q d):=by
 have T:=aB i;clear i;go_in
 go_wp2_with fail;go_loopg [2,3,4] I (λgk _ _ _ wr=>L gk wr)
 case atStart=>exact T
 case round=>
  obtain⟨x,n,c,c1,hl,hn,B,D⟩:=Z _ _ hrel;by_cases i:n=0
  ·subst i;have HZ:=aB (B rfl);clear hrel B D;go_wp2_with fail;exact⟨rfl,d6 ⟨1,rfl,HZ⟩⟩
  ·obtain⟨j,rfl,f,g,O⟩:=D i;have C:=aB (U _ _ _ _ O);have K:(0:Int)<(n:Int):=o_
   clear hrel B D O;go_wp2_with fail;refine C.mono ?_;rintro e w1 ⟨rfl,J⟩;have E:=aB (X _ _ _ _ J);clear J;go_wp2_with fail;refine E.mono ?_;rintro e Q ⟨t,z,a,b,rfl,s,V,G⟩;have F:=aB (Y _ _ _ _ _ _ G);have m:=s.1 z Q;have h:=s.2 z (bE sb) Q;clear G s;go_wp2_with fail;refine F.mono ?_;rintro e H (⟨rfl,o,u⟩|⟨q,rfl,o⟩)
   ·rcases V with ⟨rfl,⟨l,p,rfl⟩,rfl⟩|⟨r,rfl⟩
    ·have v:=m9 (.agg #[I_ l,.pointer p]) H;have y:=aB (o rfl);clear o u m h;go_wp2_with fail;exact⟨rfl,_,results_none r_ _ _ _,d7 ⟨rfl,y _⟩⟩
    ·have v:=r z H;have y:=aB (u rfl);clear o u m h r;go_wp2
     go_roundg j
     case measure=>omega
     case rel=>exact y _
   ·go_wp2_with fail;exact⟨rfl,d6 ⟨q,rfl,o⟩⟩
def pD{d:Type}{l:List d}(h:1<=l.length):∃c a,l=c++[a]:=by
 rcases il l with e|⟨b,x,e⟩
 ·subst e;simp at h
 ·exact⟨b,x,by rw[e,im]⟩
def MW{c:Type}{l:List c}(h:n<=l.length):∃b a,l=b++a/\a.length=n:=
 ⟨l.take (l.length-n),l.drop (l.length-n),(gx _ _).symm,t_⟩
def X4{f:Type}{l:List f}(h:2<=l.length):∃c a b,l=c++[a,b]:=by
 obtain⟨c,d,e,g⟩:=MW h;match d,g with
 |[a,b],_=>exact⟨c,a,b,e⟩
section
variable {fp:eK} {F:bX} {b_:Nat} {w:aG} {sb gf cap:Nat} {t0 tv u_ s0:aQ} {v_:List FVal} {w_:List aJ} {f0 f:aJ} {tape:List Int} {out:cN}
def n8{x:Bool}{i:aH}{v:aQ}(E:aj_ i f)(h:dA x fp F b_ w sb gf cap t0 tv u_ s0 v_ ⟨w_++[f],tape,out⟩)(d:w_.length<=15)(c:b_<=w.heap.size)(m:lO fp F w v i):
 ∃t z o,v=.iface t z/\Disp t o/\fJ t/\Calls prog o #[z,bE sb] w (iT x fp F b_ sb gf t0 s0 (aR x sb gf u_ v_) w w_ tape out (aK i f)):=by
 obtain⟨I,g,y,s,K,D,T,p,⟨-, -,j⟩,L,M⟩:=E;cases i<;>first|(cases I;done)|skip
 case push a=>
  obtain⟨u,rfl,C,B⟩:=m;refine⟨_,_,_,rfl,P2,aP_,(WG fp F b_ w sb gf cap t0 tv u_ s0 v_ w_ _ tape out u a h C B o_ d c).mono ?_⟩
  rintro e J ⟨rfl,A⟩;exact iT.ok rfl A
 case load k=>
  obtain rfl:=m;exact⟨_,_,_,rfl,P3,aQ_,aX_ k h d c g (by have:=j.1;omega)⟩
 case shortcut wh q=>
  obtain rfl:=m;exact⟨_,_,_,rfl,JI,RR,QM wh q h d c g (pD (by have:=j.1;omega))⟩
 case truth=>
  obtain rfl:=m;exact⟨_,_,_,rfl,YR,j6,U8 h d c g (pD (by have:=j.1;omega))⟩
 case unary op=>
  obtain rfl:=m;exact⟨_,_,_,rfl,YQ,j5,U4 op (y.fn.2 op s) h d c g (pD (by have:=j.1;omega))⟩
 case binary op=>
  obtain rfl:=m;exact⟨_,_,_,rfl,TU,L3,S6 op h d c g (X4 (by have:=j.1;omega))⟩
 case index=>
  obtain rfl:=m;obtain⟨r,a,b,e⟩:=X4 (l:=f.ops) (by have:=j.1;omega)
  exact⟨_,_,_,rfl,YS,j7,p7 h d c g ⟨r,a,b,e,y.ops a (by rw[e];simp)⟩⟩
 case list n=>
  obtain rfl:=m;obtain⟨r,G,H,rfl⟩:=MW (l:=f.ops) (n:=n) (by have:=j.1;omega)
  exact⟨_,_,_,rfl,P4,aR_,aY_ r G h d c g H⟩
 case length=>
  obtain rfl:=m;obtain⟨r,a,e⟩:=pD (l:=f.ops) (by have:=j.1;omega)
  exact⟨_,_,_,rfl,TT,L2,M8 h d c g ⟨r,a,e,y.ops a (by rw[e];simp)⟩⟩
def bY_{ar:Nat->Option Nat}{r:List eU}{i:aH}{v:aQ}(ht:kT ar r)(O:fW ar ⟨w_++[f0],tape,out⟩)(y:f0.fetch=some (i,f))(hU:gK ⟨w_++[f0],tape,out⟩)
 (h:dA false fp F b_ w sb gf cap t0 tv u_ s0 v_ ⟨w_++[f],tape,out⟩) (hT:mA fp F w r) (hp:CB (aR false sb gf u_ v_) w) (c:b_<=w.heap.size) (M:out.length<=50) (N:tape.length<=17592186044416) (A:lO fp F w v i):
 ∃t z B b,v=.iface t z/\Disp t B/\bT_ t z b/\b=i.isBegin/\Calls prog B #[z,bE sb] w (DoM fp F b_ sb t0 s0 (aR false sb gf u_ v_) w (Hs.doI r i w_ f tape out)):=by
 have C:∀x∈w_,cQ ar x 1:=by have:=O.ok.low;simpa only[gC] using this
 have K:cQ ar f0 0:=O.ok.top f0 (fB _ _);have d:w_.length<=15:=by have:=O.ok.deep;simp at this;omega
 have U:dF f0:=hU f0 s_
 obtain⟨⟨T,hc,hh,hv,he⟩,aa,hs,hm⟩:=K
 obtain⟨rfl,Z⟩:f={ f0 with next:=f0.next+1 }/\f0.fn.code[f0.next]?=some i:=by
  unfold aJ.fetch at y;cases hx:f0.fn.code[f0.next]? with
  |none=>rw[hx] at y;cases y
  |some j=>rw[hx] at y;simp at y;exact⟨y.2.symm,by rw[y.1]⟩
 obtain⟨I,V,o⟩:=hc.ins _ _ Z;have ab:=hc.len;have m:f0.ops.length<=99000:=o_
 have S:∀g∈w_,g.ops.length<=99000:=λg hg=>by
  obtain⟨⟨T',G,ac,_⟩,Q,_⟩:=C g hg;have h1:=(G.ins _ _ (ff Q)).2.1;have h2:=G.len;omega
 have E:i∈f0.fn.code:=gv Z;by_cases u:i.isEx=true
 ·obtain⟨t,z,B,J,P,X,e4⟩:=n8 (f:={ f0 with next:=f0.next+1 }) ⟨u,m,U.next _,E,ar,_,T,_,⟨I,V,o⟩,hh,hv⟩ h d c A
  refine⟨t,z,B,false,J,P,d6 ⟨X,rfl⟩,(by cases i<;>first|rfl|(cases u;done)),e4.mono λ_ _ h=>?_⟩
  rw[tJ (by rintro rfl;cases u) (by rintro rfl;cases u) (by rintro rfl;cases u) (by rintro k n rfl;cases u)]
  exact h.toP
 clear I;cases i<;>first|(exact absurd rfl u;done)|skip
 case begin l s=>
  obtain⟨sp,rfl,H⟩:=A;obtain⟨p,rfl⟩:=H.form;exact⟨_,_,_,true,rfl,YT,d7 ⟨rfl,⟨_,_,rfl⟩,rfl⟩,rfl,(z7 l _ s h d c H).mono λ_ _ h=>h.toP⟩
 case declare k=>
  obtain rfl:=A;exact⟨_,_,_,false,rfl,OL,d6 ⟨WX,rfl⟩,rfl,YU k h d c m (pD (by have:=o.1;show 1<=f0.ops.length;omega)) (by have:=o.2.1;show k<=f0.g_.length;omega) hm⟩
 case assign k n=>
  obtain rfl:=A;obtain⟨L,W,J,P⟩:=MW (l:=f0.ops) (n:=n+1) (by have:=o.1;omega)
  obtain⟨D,b,rfl⟩:=pD (l:=W) o_
  have X:D.length=n:=by simpa using P
  subst X;exact⟨_,_,_,false,rfl,TV,d6 ⟨L4,rfl⟩,rfl,S8 k L D b h d c m (by show f0.ops=_;rw[J];simp) (by have:=o.2.1;show k<f0.g_.length;omega)⟩
 case jump q=>
  obtain rfl:=A;exact⟨_,_,_,false,rfl,P5,d6 ⟨aS_,rfl⟩,rfl,(a3_ q h d c).mono λ_ _ h=>h.toP⟩
 case skip q=>
  obtain rfl:=A;exact⟨_,_,_,false,rfl,TR,d6 ⟨L1,rfl⟩,rfl,(D4 q h d c m (pD (by have:=o.1;show 1<=f0.ops.length;omega))).mono λ_ _ h=>h.toP⟩
 case read=>
  obtain rfl:=A;exact⟨_,_,_,false,rfl,P0,d6 ⟨aO_,rfl⟩,rfl,aF_ r h d c m N⟩
 case call k n=>
  obtain rfl:=A;obtain⟨L,W,J,rfl⟩:=MW (l:=f0.ops) (n:=n) (by have:=o.1;omega)
  obtain⟨fn,_,Y,_⟩:=ht.fn k _ o.2.1;exact⟨_,_,_,false,rfl,P8,d6 ⟨aV_,rfl⟩,rfl,bu_ r k fn L W h d c m J hT Y⟩
 case give=>
  obtain rfl:=A;exact⟨_,_,_,false,rfl,P6,d6 ⟨aT_,rfl⟩,rfl,bf_ r h d c m (pD (by have:=o;show 1<=f0.ops.length;omega)) S⟩
 case drop=>
  obtain rfl:=A;exact⟨_,_,_,false,rfl,P7,d6 ⟨aU_,rfl⟩,rfl,(bl_ h d c m (pD (by have:=o.1;show 1<=f0.ops.length;omega))).mono λ_ _ h=>h.toP⟩
 case print=>
  obtain rfl:=A;obtain⟨L,a,e⟩:=pD (l:=f0.ops) (by have:=o.1;omega)
  exact⟨_,_,_,false,rfl,JJ,d6 ⟨RS,rfl⟩,rfl,Y5 r h hp d c m e M⟩
end
def V8{j:Nat}{e:aJ}{r:cR × Nat}(h:dR b (j+1) ⟨a++[e],t,o⟩=some r)(g:e.fetch=some (i,f)):
 ((Hs.doI b i a f t o).2≠0->r=Hs.doI b i a f t o)/\((Hs.doI b i a f t o).2=0->i.isBegin=true->r=Hs.doI b i a f t o)/\((Hs.doI b i a f t o).2=0->i.isBegin=false->dR b j (Hs.doI b i a f t o).1=some r):=by
 rw[dR] at h;simp only[fB,g,gC] at h;refine⟨λc=>?_,λc d=>?_,λc d=>?_⟩
 ·rw[if_pos c] at h;cases h;rfl
 ·rw[if_neg (by rw[c];simp),if_pos d] at h;cases h;rfl
 ·rw[if_neg (by rw[c];simp),d] at h;exact h
def B5(c:o.length<=50):(Hs.doI b i a f t o).1.out.length<=50:=by
 cases i<;>simp only[Hs.doI]<;>(repeat' split)<;>first|exact c|(simp;omega)
def TQ:(Hs.doI b i a f t o).1.tape.length<=t.length:=by
 cases i<;>simp only[Hs.doI]<;>(repeat' split)<;>first|exact en _|simp
section
variable {fp:eK} {F:bX} {b_:Nat} {w:aG} {sb gf cap:Nat} {t0 tv u_ s0:aQ} {v_:List FVal} {w_:List aJ} {f0 f:aJ} {tape:List Int} {out:cN}
def dA.fetched{d:Bool}{i:aH}(h:dA d fp F b_ w sb gf cap t0 tv u_ s0 v_ ⟨w_++[f0],tape,out⟩)(g:f0.fetch=some (i,f))(L:f0.fn.code.length<=1000000):
 Calls prog 132 #[.pointer (some (aI gf (w_.length*6)))] w λe o=>∃v c,e=aX v/\lO fp F o v i/\dA d fp F b_ o sb gf cap t0 tv u_ s0 c ⟨w_++[f],tape,out⟩/\Kept (aR d sb gf u_ v_) w o/\aR d sb gf u_ c=aR d sb gf u_ v_:=by
 obtain⟨N,v,s,rfl,t,y,G,l,D,C,B,Z,W,k4,X⟩:=h.top;rw[<-t]
 obtain⟨O,rfl⟩:f0.fn.code[f0.next]?=some i/\f={ f0 with next:=f0.next+1 }:=by
  unfold aJ.fetch at g;cases E:f0.fn.code[f0.next]? with
  |none=>rw[E] at g;cases g
  |some j=>rw[E] at g;simp at g;exact⟨by rw[g.1],g.2.symm⟩
 obtain⟨m,z⟩:=gu.1 O;obtain⟨p,M,U,T,P,Y,Q,e4,H,J⟩:=y.fn;obtain⟨u,u1,u2⟩:=J f0.next m
 rw[z] at u2;rw[P] at C;rw[y.nx] at B;refine(O1 gf (N.length*6) p M f0.fn.code.length U f0.next s _ u w l C B Q (aA H u1) u2.form m L).mono ?_
 rintro e o ⟨S,q,rfl⟩;have n:=aW.drewN w q;have A:=h.grow n.below dP (λ_ h=>d7 h)
 have a:PE d fp F b_ (w.drewN q) v f0:=y.keep (λb _=>by rw[n.heap]) dP λk _=>by rw[n.heap]
 have r:PE d fp F b_ (w.drewN q) { v with nx:=I_ ((f0.next+1:Nat):Int) } { f0 with next:=f0.next+1 }:=⟨a.fn,rfl,a.ln,a.sp,a.g_,a.ops⟩
 obtain⟨K,V⟩:=A.setTop (j:=1) (x:=I_ ((f0.next+1:Nat):Int)) (v':={ v with nx:=I_ ((f0.next+1:Nat):Int) }) o_ rfl rfl r
 refine⟨u,_,S,u2.keep (λb I=>?_) dP,K,(Kept.of_below n.below).trans V λ_ h=>d7 h,by simp[aR,cA,FVal.ownX]⟩
 rw[ei _ _ _ _ λe=>(h.apart b I).2 (by simp[aR,e]),n.heap]
def cp_(fp:eK)(F0:bX)(b_ sb:Nat)(t0 s0:aQ)(own0:List Nat)(w0:aG)(ar:Nat->Option Nat)(tab:List eU)(m:cR)(W:aG):Prop:=
 ∃F gf cap tv u_ v_,Ext F0 F w0.heap.size/\dA false fp F b_ W sb gf cap t0 tv u_ s0 v_ m/\mA fp F W tab/\Kept own0 w0 W/\(∀x∈aR false sb gf u_ v_,x∈own0\/w0.heap.size<=x)/\fW ar m/\gK m/\m.out.length<=50/\m.tape.length<=17592186044416
def AL{ar:Nat->Option Nat}{g:List eU}{m:cR}{k:Nat}{r:cR × Nat}(ht:kT ar g)(ak:kI g)(h:dA false fp F b_ w sb gf cap t0 tv u_ s0 v_ m)(hT:mA fp F w g)(hp:CB (aR false sb gf u_ v_) w)(aa:b_<=w.heap.size)
 (hA:fW ar m) (hU:gK m) (aj:m.out.length<=50) (al:m.tape.length<=17592186044416) (A:dR g k m=some r):
 Calls prog 111 #[bE sb] w (DoM fp F b_ sb t0 s0 (aR false sb gf u_ v_) w r):=by
 generalize ae:aR false sb gf u_ v_=d at hp
 refine(V7 w sb (λk W=>∃m,cp_ fp F b_ sb t0 s0 d w ar g m W/\dR g k m=some r)
  (λW=>r.2=0/\Done fp F b_ sb t0 s0 d w r.1 W) (λq W=>q=r.2/\r.2≠0/\Done fp F b_ sb t0 s0 d w r.1 W)
  (λj fa fj W=>∃y gf cap tv u_ v_ a B c n,fa=gf/\fj=a.length*6/\(Ext F y w.heap.size/\dA false fp y b_ W sb gf cap t0 tv u_ s0 v_ ⟨a++[B],c,n⟩/\mA fp y W g/\Kept d w W/\(∀x∈aR false sb gf u_ v_,x∈d\/w.heap.size<=x))/\(fW ar ⟨a++[B],c,n⟩/\gK ⟨a++[B],c,n⟩/\n.length<=50/\c.length<=17592186044416)/\dR g (j+1) ⟨a++[B],c,n⟩=some r)
  (λj t z Q b W=>∃y gf cap tv u_ v_ a B f i c n,(Ext F y w.heap.size/\dA false fp y b_ W sb gf cap t0 tv u_ s0 v_ ⟨a++[f],c,n⟩/\mA fp y W g/\Kept d w W/\(∀x∈aR false sb gf u_ v_,x∈d\/w.heap.size<=x))/\(fW ar ⟨a++[B],c,n⟩/\gK ⟨a++[B],c,n⟩/\n.length<=50/\c.length<=17592186044416)/\dR g (j+1) ⟨a++[B],c,n⟩=some r/\B.fetch=some (i,f)/\b=i.isBegin/\
    Calls prog Q #[z,bE sb] W (DoM fp y b_ sb t0 s0 (aR false sb gf u_ v_) W (Hs.doI g i a f c n)))
  k ⟨m,⟨F,gf,cap,tv,u_,v_,Ext.refl _ _,h,hT,Kept.refl _ _,λx s=>d7 (by rw[<-ae];exact s),hA,hU,aj,al⟩,A⟩ (λk W hL=>?_) (λj fa fj W hM=>?_) (λj fa fj W hM=>?_) (λj t z Q b W hN=>?_)).mono ?_
 ·obtain⟨m,⟨y,gf,cap,tv,u_,v_,P,C,g3,E,L,J,U,Z,Y⟩,A⟩:=hL;have hc:=C.count;have hd:=J.ok.deep;refine⟨_,_,_,aA C.blk rfl,aD C.blk,o_,λh0=>?_,λh0=>?_⟩
  ·have hm:m.f_=[]:=gd o_
   cases k with
   |zero=>rw[dR] at A;cases A
   |succ j=>
    rw[dR,hm] at A;simp only[List.getLast?_nil] at A;cases A;exact⟨rfl,Nat.one_ne_zero,E,y,gf,cap,tv,u_,v_,P,C,L⟩
  ·obtain⟨b,f,e⟩:=lW (l:=m.f_) (λe=>h0 (by rw[hc,e];rfl))
   obtain⟨fr,t,o⟩:=m;simp only at e;subst e;cases k with
   |zero=>rw[dR] at A;cases A
   |succ j=>exact⟨j,rfl,gf,b.length*6,y,gf,cap,tv,u_,v_,b,f,t,o,rfl,rfl,⟨P,C,g3,E,L⟩,⟨J,U,Z,Y⟩,A⟩
 ·obtain⟨y,gf,cap,tv,u_,v_,b,f,t,o,rfl,rfl,⟨P,C,g3,E,L⟩,⟨J,U,Z,Y⟩,A⟩:=hM;have hc:=C.count;have hd:=J.ok.deep;have X:=C.blk;rw[hc,ek,iy] at X;simp at hd;refine(nG sb fa b.length cap W (aA X rfl) o_).mono ?_
  rintro e H ⟨he,q,rfl⟩;have hS:=aW.drewN W q;exact⟨he,y,fa,cap,tv,u_,v_,b,f,t,o,rfl,rfl,⟨P,C.grow hS.below dP (λ_ h=>d7 h),g3.keep (λb _=>by rw[hS.heap]) dP,E.trans (Kept.of_below (own:=[]) hS.below) (λx s=>by simp at s),L⟩,⟨J,U,Z,Y⟩,A⟩
 ·obtain⟨y,gf,cap,tv,u_,v_,b,B,t,o,rfl,rfl,⟨P,C,g3,E,L⟩,⟨J,U,Z,Y⟩,A⟩:=hM;have N:cQ ar B 0:=J.ok.top B (fB _ _);have V:=AC N.next
  obtain⟨T,hc, -⟩:=N.code;have am:=hc.len;generalize B.fn.code[B.next]'N.next=i at V
  refine(C.fetched V o_).mono ?_
  rintro e H ⟨v,p,he,q1,q2,q3,q4⟩;have ac:mA fp y H g:=g3.keep (λx s=>q3.block x (C.apart x s).1 (C.apart x s).2) dP
  have D:Kept d w H:=E.trans q3 L;have ag:CB (aR false sb fa u_ p) H:=hp.step D (λx s=>L x (by rw[<-q4];exact s))
  obtain⟨t',z,Q,bb,e1,e2,e3,e4,e5⟩:=bY_ ht J V U q2 ac ag (el aa D.size) Z Y q1;exact⟨t',z,Q,bb,by rw[he,e1],e2,e3,y,fa,cap,tv,u_,p,b,B,_,i,t,o,⟨P,q2,ac,D,λx s=>L x (by rw[<-q4];exact s)⟩,⟨J,U,Z,Y⟩,A,V,e4,e5⟩
 ·obtain⟨y,gf,cap,tv,u_,v_,a,B,f,i,tp,o,⟨P,C,g3,E,L⟩,⟨J,U,Z,Y⟩,A,V,hb,hc⟩:=hN;obtain⟨s1,s2,s3⟩:=V8 A V;refine hc.mono ?_;rintro e H ⟨he,ad,G,S,K,ab,u,p,d1,d2,d3⟩;have D:Kept d w H:=E.trans ad L
  have M:∀x∈aR false sb S u p,x∈d\/w.heap.size<=x:=λx s=>by
   rcases d3 x s with h1|h1
   ·exact L x h1
   ·exact d6 (el E.size h1)
  have af:mA fp G H g:=g3.keep (λx s=>ad.block x (C.apart x s).1 (C.apart x s).2) d1.sub
  have I:∀O,Below H.heap.size H (H.alloc O):=λO=>(eh _ H).alloc cK O
  rcases he with ⟨hz,rfl⟩|⟨hz,rfl⟩
  ·refine d7 ⟨rfl,λah O=>?_,λai O=>?_⟩
   ·have hr:=s2 hz (by rw[<-hb];exact ah)
    rw[hr];exact⟨hz,D.trans (Kept.of_below (own:=[]) (I O)) (λx s=>by simp at s),G,S,K,ab,u,p,P.trans d1 E.size,d2.grow (I O) dP (λ_ h=>d7 h),M⟩
   ·refine⟨_,⟨G,S,K,ab,u,p,P.trans d1 E.size,d2.grow (I O) dP (λ_ h=>d7 h),af.keep (λx s=>(I O).block x (d2.apart x s).1) dP,D.trans (Kept.of_below (own:=[]) (I O)) (λx s=>by simp at s),M,(yZ ht J V).2.2 hz,FY ak U V,B5 Z,el TQ Y⟩,s3 hz (by rw[<-hb];exact ai)⟩
  ·refine d6 ⟨_,rfl,?_⟩;have hr:=s1 hz;rw[hr];exact⟨rfl,hz,D,G,S,K,ab,u,p,P.trans d1 E.size,d2,M⟩
 ·rintro e H (⟨rfl,h1,h2⟩|⟨q,rfl,rfl,h1,h2⟩)
  ·exact⟨d7 ⟨h1,rfl⟩,h2⟩
  ·exact⟨d6 ⟨h1,rfl⟩,h2⟩
end
def bX_(v:aQ)(w:aG):(typeAssert (.iface 236 v) 20 236 true).run prog w=.ok (.tuple #[v,.bool true]) w:=k_
def A9(fn:Fn)(first a:Array Value)(w:aG):(Instr.makeFunc fn first a).run prog w=.ok (.func fn first a) w:=rfl
def ZC(p k:Nat)(a:List PanicEntry)(w:aG)(b:w.heap[p]?=some (.cells #[I_ 0] 33 (0,0))):
 CallsD prog 131 #[bE p] (.panicking ({ v:=.iface 236 (I_ k),recovered:=false }::a)) w λe h d=>
  e=aX (.tuple #[])/\h=.panicking ({ v:=.iface 236 (I_ k),recovered:=true }::a)/\d=w.setCell (aI p 0) (I_ k):=by
 have m:=aA (i:=0) b rfl;have n:=aE (i:=0) b;have j:=aD b;have f:=bX_;refine callsD_of_wpS func131 rfl λc l g=>?_
 apply wpS_seq
 apply wpS_region
 simp[wpOpsS,go_sem,recoverD,g,ntmps131,Exit.thenS];refine wpS_of_wp ?_;clear b;go_wp2_with fail;exact⟨rfl,_,rfl,.tuple #[],by simp[results,results131],rfl,rfl,rfl⟩
def ZD(p:Addr)(w:aG):
 CallsD prog 131 #[.pointer (some p)] .returning w λe d c=>e=aX (.tuple #[])/\d=.returning/\c=w:=by
 refine callsD_of_wpS func131 rfl λa f b=>?_
 apply wpS_seq
 apply wpS_region
 simp[wpOpsS,go_sem,recoverD,b,ntmps131,Exit.thenS];refine wpS_of_wp ?_;go_wp2_with fail;exact⟨rfl,a.mode,rfl,.tuple #[],by simp[results,results131],rfl,b,rfl⟩
def DQ(b:Nat)(p:Addr)(w:aG)(R:Nat->World->Prop)(c:∀a W,(callFunc b #[a]).run prog W=.ok (.enter b #[a]) W)
 (h:Calls prog b #[.pointer (some p)] (w.alloc (.cells #[I_ 0] 33)) λe d=>∃k,al_ k e/\R k d/\d.heap[w.heap.size]?=some (.cells #[I_ 0] 33 (0,0))):
 Calls prog 93 #[.func (.func b) #[.pointer (some p)] #[]] w λe d=>∃(k:Nat) (w1:aG),e=aX (I_ k)/\R k w1/\d=w1.setCell (aI w.heap.size 0) (I_ k):=by
 have q:=A9;have r:=c (.pointer (some p)) (w.alloc (.cells #[I_ 0] 33));have l:=aB h;clear h c;go_enter_defers func93,ntmps93
 go_wp2_with fail;refine l.mono ?_;rintro e w1 ⟨k,n,o,g⟩;have m:=aB o;have j:=aA (i:=0) g rfl;have u:=aE (i:=0) g;have v:=aD g;clear o l;rcases n with ⟨rfl,rfl⟩|⟨n,rfl⟩
 ·go_wp2_with fail;refine leaves_cons (f:=131) (args:= #[bE w.heap.size]) s_ (by simp[go_sem]) ?_
  refine(ZD (aI w.heap.size 0) _).mono ?_;rintro e s t ⟨rfl,rfl,rfl⟩;simp[Leaves,settle,results,results93,go_sem,j];exact⟨0,rfl,w1,m,rfl⟩
 ·go_wp2_with fail;refine leaves_cons (f:=131) (args:= #[bE w.heap.size]) s_ (by simp[go_sem]) ?_
  refine(ZC w.heap.size k [] _ g).mono ?_;rintro e s x ⟨rfl,rfl,rfl⟩;simp[Leaves,settle,results,results93,go_sem,j];exact⟨k,rfl,w1,m,rfl⟩
def o7:(prog.info? 3).map (λi=>(i.zero,i.size,i.bytes))=some (some (I_ 0),1,8):=k_
def uF(g h n c:Nat)(b:List Value)(w:World)(B:b.length=n*1)(G:n<=1000000)(r:∀j u,b[j]?=some u->w.cell? ⟨g,h+j,none⟩=some u)(x:∀u∈b,u.oneCell'=true):
 Calls prog 53 #[.slice (some ⟨g,h,none⟩) n c] w λe q=>∃v',e=.returned v'/\q.ownsRow w.heap.size 9 1 v' n b/\Below w.heap.size w q:=by
 obtain⟨z,C,m,o,p⟩:=info_parts wQ;have y:=aB r;clear r;have v:∀(w:World) (a:Option Addr) (n c l i:Nat),(binOp .eql 32 (.slice a n c) (.slice none l i)).run prog w=.ok (.bool a.isNone) w:=λw a n c l i=>Lib.run_eql_slice_nil w _ _ a n c l i underlying32
 go_enter func53,ntmps53;go_wp2_with (at_builtin;refine wpList_append_own _ r_ _ _ 32 r_ w.heap.size 9 z _ 1 16 underlying32 C m o p rfl d_ (.slice (some ⟨w.heap.size,0,none⟩) 0 0) 0 [] r_ (World.ownsRow_made w #[] 0 (en _) (ft _) s_) ⟨g,h,none⟩ n c b r_ B (λj u D=>by rw[Addr.add_lit];exact jE _ (y.out j u D)) x (by unfold maxLen;omega) o_ s_ ?_)
 intro v' E d f _;have A:=aB d;have t:=aB f;obtain⟨F,i,rfl⟩:=dE d;clear d f;go_wp2_with fail;go_ret;refine⟨_,rfl,by simpa using A.out,?_⟩
 exact((eh _ w).alloc (en _) _).grown t.out s_ (by intro k s;simp[Value.ownBlock] at s;omega)
def uE(w:aG):
 Calls prog 53 #[bG] w λe f=>e=aX (bG)/\f=w:=by
 have g:∀(w:aG) (a:Option Addr) (n c b d:Nat),(binOp .eql 32 (.slice a n c) (.slice none b d)).run prog w=.ok (.bool a.isNone) w:=λw a n c b d=>Lib.run_eql_slice_nil w _ _ a n c b d underlying32
 go_in
 go_wp2
 go_ret;exact⟨rfl,rfl⟩
def JP(g h n c:Nat)(b:List Value)(w:World)(B:b.length=n*1)(G:n<=17592186044416)(r:∀j u,b[j]?=some u->w.cell? ⟨g,h+j,none⟩=some u)(x:∀u∈b,u.oneCell'=true):
 Calls prog 76 #[.slice (some ⟨g,h,none⟩) n c] w λe q=>∃v',e=.returned v'/\q.ownsRow w.heap.size 3 1 v' n b/\Below w.heap.size w q:=by
 obtain⟨z,C,m,o,p⟩:=info_parts o7;have y:=aB r;clear r;have v:∀(w:World) (a:Option Addr) (n c l i:Nat),(binOp .eql 22 (.slice a n c) (.slice none l i)).run prog w=.ok (.bool a.isNone) w:=λw a n c l i=>Lib.run_eql_slice_nil w _ _ a n c l i underlying22
 go_enter func76,ntmps76;go_wp2_with (at_builtin;refine wpList_append_own _ r_ _ _ 22 r_ w.heap.size 3 z _ 1 8 underlying22 C m o p rfl d_ (.slice (some ⟨w.heap.size,0,none⟩) 0 0) 0 [] r_ (World.ownsRow_made w #[] 0 (en _) (ft _) s_) ⟨g,h,none⟩ n c b r_ B (λj u D=>by rw[Addr.add_lit];exact jE _ (y.out j u D)) x (by unfold maxLen;omega) o_ s_ ?_)
 intro v' E d f _;have A:=aB d;have t:=aB f;obtain⟨F,i,rfl⟩:=dE d;clear d f;go_wp2_with fail;go_ret;refine⟨_,rfl,by simpa using A.out,?_⟩
 exact((eh _ w).alloc (en _) _).grown t.out s_ (by intro k s;simp[Value.ownBlock] at s;omega)
def JO(w:aG):
 Calls prog 76 #[bG] w λe f=>e=aX (bG)/\f=w:=by
 have g:∀(w:aG) (a:Option Addr) (n c b d:Nat),(binOp .eql 22 (.slice a n c) (.slice none b d)).run prog w=.ok (.bool a.isNone) w:=λw a n c b d=>Lib.run_eql_slice_nil w _ _ a n c b d underlying22
 go_in
 go_wp2
 go_ret;exact⟨rfl,rfl⟩
def JQ(g h n c:Nat)(b:List Value)(w:World)(B:b.length=n*6)(G:n<=1000000)(r:∀j u,b[j]?=some u->w.cell? ⟨g,h+j,none⟩=some u)(x:∀u∈b,u.oneCell'=true):
 Calls prog 165 #[.slice (some ⟨g,h,none⟩) n c] w λe q=>∃v',e=.returned v'/\q.ownsRow w.heap.size 131 6 v' n b/\Below w.heap.size w q:=by
 obtain⟨z,C,m,o,p⟩:=info_parts LF;have y:=aB r;clear r;have v:∀(w:World) (a:Option Addr) (n c l i:Nat),(binOp .eql 58 (.slice a n c) (.slice none l i)).run prog w=.ok (.bool a.isNone) w:=λw a n c l i=>Lib.run_eql_slice_nil w _ _ a n c l i underlying58
 go_enter func165,ntmps165;go_wp2_with (at_builtin;refine wpList_append_own _ r_ _ _ 58 r_ w.heap.size 131 z _ 6 80 underlying58 C m o p rfl d_ (.slice (some ⟨w.heap.size,0,none⟩) 0 0) 0 [] r_ (World.ownsRow_made w #[] 0 (en _) (ft _) s_) ⟨g,h,none⟩ n c b r_ B (λj u D=>by rw[Addr.add_lit];exact jE _ (y.out j u D)) x (by unfold maxLen;omega) o_ s_ ?_)
 intro v' E d f _;have A:=aB d;have t:=aB f;obtain⟨F,i,rfl⟩:=dE d;clear d f;go_wp2_with fail;go_ret;refine⟨_,rfl,by simpa using A.out,?_⟩
 exact((eh _ w).alloc (en _) _).grown t.out s_ (by intro k s;simp[Value.ownBlock] at s;omega)
def N7(w:aG)(sb a:Nat)(R:Nat->World->Prop)(P:World->Prop)(q:a<=1000000)
 (m:Hid (Calls prog 93 #[.func (.func 111) #[bE sb] #[]] w λe d=>∃k:Nat,k<=1000/\e=aX (I_ k)/\R k d))
 (l:Hid (∀k W,R k W->(∃u,W.cell? (aI sb 4)=some u)/\W.frozen? (aI sb 4)=false/\sb<W.heap.size/\W.cell? (aI sb 0)=some (I_ a)))
 (i:Hid (∀k W,R k W->¬(k=0/\a=500)->P (W.setCell (aI sb 4) (I_ k))))
 (o:Hid (∀W,R 0 W->a=500->P ((W.setCell (aI sb 4) (I_ 0)).setCell (aI sb 4) (I_ 9)))):
 Calls prog 77 #[bE sb] w λe d=>e=aX (.tuple #[])/\P d:=by
 have j:=A9;go_in
 go_wp2_with fail;refine m.mono ?_;rintro e p ⟨k,r,rfl,b⟩;obtain⟨⟨u,v⟩,s,x,t⟩:=l _ _ b;by_cases f:k=0
 ·subst f;by_cases g:a=500
  ·subst g;have c:=aB (o _ b rfl);clear b;go_wp2
   go_end0;exact⟨rfl,c⟩
  ·have c:=aB (i _ _ b (λh=>g h.2))
   have n:¬(a:Int)=500:=o_
   clear b;go_wp2
   go_end0;exact⟨rfl,c⟩
 ·have c:=aB (i _ _ b (λh=>f h.1))
  have n:¬(k:Int)=0:=o_
  clear b;go_wp2
  go_end0;exact⟨rfl,c⟩
section
variable {fp:eK} {F:bX} {b_:Nat} {w:aG} {sb gf cap:Nat} {t0 tv u_ s0:aQ} {v_:List FVal}
def dA.setStop{m:cR}(h:dA false fp F b_ w sb gf cap t0 tv u_ s0 v_ m)(x:aQ):dA false fp F b_ (w.setCell (aI sb 4) x) sb gf cap t0 tv u_ x v_ m/\Kept (aR false sb gf u_ v_) w (w.setCell (aI sb 4) x):=by
 obtain⟨d,o⟩:=ez.1 h.nodup;have a:∀k,k≠sb->(w.setCell (aI sb 4) x).heap[k]?=w.heap[k]?:=λk a=>ei _ _ _ _ a
 have c:∀b,F b->(w.setCell (aI sb 4) x).heap[b]?=w.heap[b]?:=λb j=>a b λe=>(h.apart b j).2 (by simp[aR,e])
 refine⟨⟨aO h.blk,aY h.row λk e=>a k ?_,h.frs.keep c dP λv i k f=>a k ?_,h.tape.keep c dP,aY h.out λk e=>a k ?_,h.nodup,λk a=>by simpa using h.lt k a,λk a=>by simpa using h.apart k a⟩,⟨rfl,rfl,rfl,s_,λk _ n=>a k λe=>n (by simp[aR,e])⟩⟩
 ·cases e;exact λe=>d (by simp[<-e])
 ·have g:k∈cA false v_:=ib.2 ⟨v,i,f⟩;exact λe=>d (by simp[<-e,g])
 ·exact λl=>d (by simp[<-l,e])
def bv_(a:aQ)(W:aG):(callFunc 111 #[a]).run prog W=.ok (.enter 111 #[a]) W:=k_
def SL{ar:Nat->Option Nat}{n:List eU}{m:cR}{k a:Nat}{r:cR × Nat}(ht:kT ar n)(T:kI n)(h:dA false fp F b_ w sb gf cap (I_ a) tv u_ s0 v_ m)(hT:mA fp F w n)(hp:CB (aR false sb gf u_ v_) w)(A:b_<=w.heap.size)
 (hA:fW ar m) (hU:gK m) (N:m.out.length<=50) (Q:m.tape.length<=17592186044416) (o:dR n k m=some r) (Z:a<=1000000) (U:r.2<=1000):
 Calls prog 77 #[bE sb] w λe E=>e=aX (.tuple #[])/\Done fp F b_ sb (I_ a) (I_ (bZ a r.2)) (aR false sb gf u_ v_) w r.1 E:=by
 have C:Below w.heap.size w (w.alloc (.cells #[I_ 0] 33)):=(eh _ w).alloc cK _;have h0:=h.grow C dP (λ_ h=>d7 h)
 have X:mA fp F (w.alloc (.cells #[I_ 0] 33)) n:=hT.keep (λx hx=>C.block x (h.apart x hx).1) dP
 have j:Kept (aR false sb gf u_ v_) w (w.alloc (.cells #[I_ 0] 33)):=Kept.of_below C;have hX:=AL ht T h0 X (hp.step j λ_ h=>d7 h) (el A j.size) hA hU N Q o
 have u:(w.alloc (.cells #[I_ 0] 33)).heap[w.heap.size]?=some (.cells #[I_ 0] 33 (0,0)):=aN _ _ rfl _;have z:w.heap.size∉aR false sb gf u_ v_:=λt=>by have:=h.lt _ t;omega
 have hS:=DQ 111 (aI sb 0) w (λk W=>k=r.2/\Done fp F b_ sb (I_ a) s0 (aR false sb gf u_ v_) (w.alloc (.cells #[I_ 0] 33)) r.1 W) bv_ (hX.mono λe E y=>by
  obtain⟨he,y⟩:=y;refine⟨r.2,he,⟨rfl,y⟩,?_⟩;rw[y.1.block _ s_ z];exact u)
 generalize Y:w.alloc (.cells #[I_ 0] 33)=w0 at*
 have hD:∀W x,Done fp F b_ sb (I_ a) s0 (aR false sb gf u_ v_) w0 r.1 W->Done fp F b_ sb (I_ a) s0 (aR false sb gf u_ v_) w r.1 (W.setCell (aI w.heap.size 0) x):=λW x y=>by
  obtain⟨p,G,g,f,l,c,d,D,i,s⟩:=y;have I:w.heap.size<w0.heap.size:=by rw[<-Y];simp
  have P:¬F w.heap.size:=λhF=>by have:=(h.apart _ hF).1;omega
  have L:w.heap.size∉aR false sb g c d:=λt=>by
   rcases s _ t with B|B
   ·exact z B
   ·omega
  have J:∀b,G b->b≠w.heap.size:=λb O e=>by
   subst e;rcases D.new _ O with B|B
   ·exact P B
   ·omega
  have o:∀k,k≠w.heap.size->(W.setCell (aI w.heap.size 0) x).heap[k]?=W.heap[k]?:=λk o=>ei _ _ _ _ o
  have q:∀k∈aR false sb g c d,(W.setCell (aI w.heap.size 0) x).heap[k]?=W.heap[k]?:=λk t=>o k λe=>L (by rw[<-e];exact t)
  have K:∀b,G b->(W.setCell (aI w.heap.size 0) x).heap[b]?=W.heap[b]?:=λb O=>o b (J b O)
  refine⟨⟨p.os.trans j.os,p.tape.trans j.tape,p.output.trans j.output,el j.size (by simpa using p.size),λk B h2=>?_⟩,G,g,f,l,c,d,D.le (ie I),⟨by rw[q sb (by simp[aR])];exact i.blk,aY i.row λk e=>?_,i.frs.keep K dP λv hv k M=>q k ?_,i.tape.keep K dP,aY i.out λk e=>q k (by simp[aR,e]),i.nodup,λk o=>by simpa using i.lt k o,λk o=>by simpa using i.apart k o⟩,λk t=>(s k t).imp_right (el (ie I))⟩
  ·rw[o k o_,p.block k o_ h2,j.block k B h2]
  ·cases e;exact q g (by simp[aR])
  ·have t:k∈cA false d:=ib.2 ⟨v,hv,M⟩;simp[aR,t]
 refine(N7 w sb a (λk W=>k=r.2/\Done fp F b_ sb (I_ a) s0 (aR false sb gf u_ v_) w r.1 W) (λE=>Done fp F b_ sb (I_ a) (I_ (bZ a r.2)) (aR false sb gf u_ v_) w r.1 E) Z (hS.mono ?_) (λk W H=>?_) (λk W H V=>?_) (λW H V=>?_))
 ·rintro e E ⟨k,w1,rfl,⟨rfl,y⟩,rfl⟩;exact⟨r.2,U,rfl,rfl,hD _ _ y⟩
 ·obtain⟨_,_,G,g,f,l,c,d,_,i,_⟩:=H;exact⟨⟨_,aA i.blk rfl⟩,aE i.blk,aD i.blk,aA i.blk rfl⟩
 ·obtain⟨rfl,p,G,g,f,l,c,d,D,i,s⟩:=H;obtain⟨S,q2⟩:=i.setStop (I_ r.2);have e:bZ a r.2=r.2:=if_neg V;rw[e];exact⟨p.trans q2 s,G,g,f,l,c,d,D,S,s⟩
 ·obtain⟨hz,p,G,g,f,l,c,d,D,i,s⟩:=H;obtain⟨S,q2⟩:=i.setStop (I_ 0);obtain⟨q3,q4⟩:=S.setStop (I_ 9);have e:bZ a r.2=9:=if_pos ⟨hz.symm,V⟩;rw[e];exact⟨(p.trans q2 s).trans q4 s,G,g,f,l,c,d,D,q3,s⟩
end
structure FrS(fp:eK)(F:bX)(w:aG)(v:FVal)(f:aJ):Prop where
 fn:ZO fp F w v.fp f.fn
 nx:v.nx=I_ f.next
 ln:v.ln=I_ f.l_
 sp:eF F w v.sp f.e_
 g_:PVs F w v.vv f.g_
 varsB:∀a∈f.g_,aM a<=200
 ops:PVs F w v.ov f.ops
 opsB:∀a∈f.ops,aM a<=200
def FrS.keep{v:FVal}(h:FrS fp F w v f)(a:∀b,F b->w'.heap[b]?=w.heap[b]?)(c:∀b,F b->G b):FrS fp G w' v f:=
 ⟨h.fn.keep a c,h.nx,h.ln,eF.keep a c h.sp,(h.g_.keep a).mono c,h.varsB,(h.ops.keep a).mono c,h.opsB⟩
def vP(fp:eK)(F:bX)(w:aG):List FVal->List aJ->Prop
 |[],[]=>True
 |v::vs,f::fs=>FrS fp F w v f/\vP fp F w vs fs
 |_,_=>False
def vP.keep(a:∀b,F b->w'.heap[b]?=w.heap[b]?)(c:∀b,F b->G b):∀{vs:List FVal} {fs:List aJ},vP fp F w vs fs->vP fp G w' vs fs
 |[],[],_=>trivial
 |_::_,_::_,⟨e,d⟩=>⟨e.keep a c,vP.keep a c d⟩
 |[],_::_,h=>h.elim
 |_::_,[],h=>h.elim
def vP.length:∀{vs:List FVal} {fs:List aJ},vP fp F w vs fs->vs.length=fs.length
 |[],[],_=>rfl
 |_::_,_::_,⟨_,h⟩=>by simp[vP.length h]
 |[],_::_,h=>h.elim
 |_::_,[],h=>h.elim
def vP.get:∀{vs:List FVal} {fs:List aJ},vP fp F w vs fs->∀(i:Nat) v f,vs[i]?=some v->fs[i]?=some f->FrS fp F w v f
 |[],[],_,i,v,f,a,_=>by simp at a
 |_::_,_::_,⟨h,_⟩,0,v,f,a,b=>by simp at a b;subst a;subst b;exact h
 |_::_,_::_,⟨_,h⟩,i+1,v,f,a,b=>vP.get h i v f (by simpa using a) (by simpa using b)
 |[],_::_,h,_,_,_,_,_=>h.elim
 |_::_,[],h,_,_,_,_,_=>h.elim
def GM(F:bX)(w:aG)(v:aQ)(v_:List FVal):Prop:=
 (v_=[]/\∃x c,v=.slice x 0 c)\/∃g c cur,v=.slice (some (aI g 0)) v_.length c/\F g/\w.heap[g]?=some (.cells cur 131 (0,0))/\v_.length<=c/\cur.toList.take (v_.length*6)=gQ v_
def GM.keep{a:List FVal}(h:GM F w v a)(f:∀b,F b->w'.heap[b]?=w.heap[b]?)(l:∀b,F b->G b):GM G w' v a:=by
 rcases h with h|⟨g,c,d,j,e,k,i⟩
 ·exact d7 h
 ·exact d6 ⟨g,c,d,j,l g e,by rw[f g e];exact k,i⟩
def GK(F:bX)(w:aG)(v:aQ)(l:cN):Prop:=
 (l=[]/\v=bG)\/∃g c cur,v=.slice (some (aI g 0)) l.length c/\F g/\w.heap[g]?=some (.cells cur 9 (0,0))/\l.length<=c/\cur.toList.take l.length=nB l
def GK.keep{l:cN}(h:GK F w v l)(e:∀b,F b->w'.heap[b]?=w.heap[b]?)(k:∀b,F b->G b):GK G w' v l:=by
 rcases h with h|⟨g,c,a,i,d,j,f⟩
 ·exact d7 h
 ·exact d6 ⟨g,c,a,i,k g d,by rw[e g d];exact j,f⟩
def jQ(fp:eK)(F:bX)(w:aG)(v:aQ)(s:aU):Prop:=
 ∃fv tv u_ v_,v=.agg #[I_ s.m_,fv,tv,u_,I_ s.stop]/\GM F w fv v_/\vP fp F w v_ s.m.f_/\sV F w tv s.m.tape/\GK F w u_ s.m.out
def jQ.keep(h:jQ fp F w v s)(c:∀b,F b->w'.heap[b]?=w.heap[b]?)(d:∀b,F b->G b):jQ fp G w' v s:=by
 obtain⟨m,g,a,e,j,f,l,i,k⟩:=h;exact⟨m,g,a,e,j,f.keep c d,l.keep c d,i.keep c d,k.keep c d⟩
def jO.kept(b:∀k,F k->G k):∀{vs:List FVal} {fs:List aJ},jO false fp F b_ w vs fs->(∀v∈vs,∀k∈(v.ownX false),G k)->vP fp G w vs fs
 |[],[],_,_=>trivial
 |v::_,_::_,⟨a,g⟩,c=>by
  have d:=c v (fk ..);obtain⟨⟨p,n,o⟩,j⟩:=a.g_;obtain⟨⟨q,f,m⟩,i⟩:=a.ops;exact⟨⟨a.fn.keep (λ_ _=>rfl) b,a.nx,a.ln,eF.keep (λ_ _=>rfl) b a.sp,PVs.ofRow n (o.mono b) λk e=>d k (by simp[FVal.ownX,e]),j,PVs.ofRow f (m.mono b) λk e=>d k (by simp[FVal.ownX,e]),i⟩,jO.kept b g λu l=>c u (ey _ l)⟩
 |[],_::_,h,_=>h.elim
 |_::_,[],h,_=>h.elim
def dA.kept{sb gf i d c:Nat}{r a:aQ}{b:List FVal}{m:cR}(h:dA false fp F b_ w sb gf i (I_ d) r a (I_ c) b m)(x:∀k,F k->G k)(A:∀k∈aR false sb gf a b,k≠sb->G k):
 jQ fp G w (.agg #[I_ d,.slice (some (aI gf 0)) b.length i,r,a,I_ c]) ⟨d,m,c⟩:=by
 obtain⟨D,E⟩:=ez.1 h.nodup;have o:∀k,k∈gf::(a.ownBlock.toList++cA false b)->k≠sb:=λk l e=>D (by rw[<-e];exact l)
 have p:∀k,k∈gf::(a.ownBlock.toList++cA false b)->G k:=λk l=>A k (ey _ l) (o k l)
 refine⟨_,r,a,b,rfl,?_,jO.kept x h.frs λv C k l=>p k ?_,h.tape.keep (λ_ _=>rfl) x,?_⟩
 ·rcases h.row.2 with ⟨f,_⟩|⟨t,g,j,f,u,n,q,z,y,s⟩
  ·cases f
  ·cases f;exact d6 ⟨gf,i,j,rfl,p gf s_,n,q,s⟩
 ·have B:k∈cA false b:=ib.2 ⟨v,C,l⟩;simp[B]
 ·rcases h.out.2 with ⟨f,u⟩|⟨t,g,j,f,u,n,q,z,y,s⟩
  ·exact d7 ⟨gd u,f⟩
  ·exact d6 ⟨t,g,j,f,p t (by rw[f];simp[Value.ownBlock]),n,q,by simpa using s⟩
def Kept.setCell{own:List Nat}{W:aG}(h:Kept own w W)(p:Addr)(x:aQ)(b:p.block∈own):Kept own w (W.setCell p x):=
 ⟨h.os,h.tape,h.output,by simpa using h.size,λk c a=>by rw[ei _ _ _ _ λe=>a (by rw[e];exact b),h.block k c a]⟩
def UB(w w2:aG)(b a x0 n c0:Nat)(H t z:aQ)(P:Value->World->Prop)(A:Nat->Nat->World->Prop)(C E:Nat->Nat->Nat->World->Prop)(D1 D2:Nat->Nat->Nat->Option Addr->Nat->Nat->World->Prop)(O:Nat->Nat->Option Addr->Nat->Nat->World->Prop)(hn:n<=100)
 (aa:H=.slice (some (aI x0 0)) n c0) (T:∃xa xl xc,z=.slice xa xl xc) (Z:∃N Y J,t=.slice N Y J)
 (hW:(w.alloc (.cells #[I_ b,H,t,z,I_ a] 60)).alloc (.cells #[I_ 0,bG,bG,bG,I_ 0] 60)=w2)
 (HC:Hid (Calls prog 165 #[H] w2 λe o=>∃g cap,e=aX (.slice (some (aI g 0)) n cap)/\A g cap o))
 (HA:Hid (∀g cap W,A g cap W->(∃u,W.cell? (aI w.heap.size 1)=some u)/\W.frozen? (aI w.heap.size 1)=false/\w.heap.size<W.heap.size/\C g cap 0 (W.setCell (aI w.heap.size 1) (.slice (some (aI g 0)) n cap))))
 (HR:Hid (∀g cap j W,C g cap j W->W.cell? (aI w.heap.size 1)=some (.slice (some (aI g 0)) n cap)/\w.heap.size<W.heap.size/\g<W.heap.size))
 (HV:Hid (∀g cap j W,C g cap j W->j<n->∃x l c,W.cell? (aI g (j*6+4))=some (.slice x l c)/\Calls prog 166 #[.slice x l c] W λe o=>∃h f,e=aX (.slice h l f)/\D1 g cap j h l f o))
 (U:Hid (∀g cap j x l c W,D1 g cap j x l c W->(∃u,W.cell? (aI g (j*6+4))=some u)/\W.frozen? (aI g (j*6+4))=false/\g<W.heap.size/\E g cap j (W.setCell (aI g (j*6+4)) (.slice x l c))))
 (HE:Hid (∀g cap j W,E g cap j W->∃x l c,W.cell? (aI g (j*6+5))=some (.slice x l c)/\g<W.heap.size/\Calls prog 166 #[.slice x l c] W λe o=>∃h f,e=aX (.slice h l f)/\D2 g cap j h l f o))
 (I:Hid (∀g cap j x l c W,D2 g cap j x l c W->(∃u,W.cell? (aI g (j*6+5))=some u)/\W.frozen? (aI g (j*6+5))=false/\g<W.heap.size/\C g cap (j+1) (W.setCell (aI g (j*6+5)) (.slice x l c))))
 (HO:Hid (∀g cap W,C g cap n W->W.cell? (aI w.heap.size 3)=some z/\Calls prog 53 #[z] W λe o=>∃h G f,e=aX (.slice h G f)/\O g cap h G f o))
 (HF:Hid (∀g cap x l c W,O g cap x l c W->(W.cell? (aI w.heap.size 0)=some (I_ b)/\W.cell? (aI w.heap.size 1)=some (.slice (some (aI g 0)) n cap)/\W.cell? (aI w.heap.size 2)=some t/\(∃u,W.cell? (aI w.heap.size 3)=some u)/\W.cell? (aI w.heap.size 4)=some (I_ a)/\W.frozen? (aI w.heap.size 3)=false/\w.heap.size+1<W.heap.size)/\
   (W.heap[w.heap.size+1]?=some (.cells #[I_ 0,bG,bG,bG,I_ 0] 60 (0,0)))))
 (HP:Hid (∀g cap x l c W W',O g cap x l c W->Kept [w.heap.size,w.heap.size+1] W W'->W'.heap.size=W.heap.size->P (.agg #[I_ b,.slice (some (aI g 0)) n cap,t,.slice x l c,I_ a]) W')):
 Calls prog 122 #[.agg #[I_ b,H,t,z,I_ a]] w λe o=>∃v,e=aX v/\P v o:=by
 obtain⟨xa,xl,xc,rfl⟩:=T;obtain⟨N,Y,J,rfl⟩:=Z;subst aa;have HW:=aB hW;clear hW;go_in
 go_wp2_with fail;rw[HW.out];refine HC.mono ?_;rintro e w3 ⟨g,cap,rfl,h3⟩;obtain⟨⟨u3,a1⟩,a2,a3,X⟩:=HA _ _ _ h3;obtain⟨b1,b2,b3⟩:=HR _ _ _ _ X;have H4:=aB X;clear h3 X;generalize B:w3.setCell (aI w.heap.size 1) (.slice (some (aI g 0)) n cap)=w4 at H4 b1 b2 b3;have L:=aB B;clear B;go_wp2_with fail;rw[L.out];go_wp2_with fail;go_loopg [3,4,12] n (λgk _ _ i wr=>∃j:Nat,j+gk=n/\i=I_ j/\C g cap j wr)
 case atStart=>exact⟨0,o_,rfl,H4⟩
 case round=>
  obtain⟨j,hj,rfl,F⟩:=hrel;obtain⟨b1,b2,b3⟩:=HR _ _ _ _ F;by_cases M:j<n
  ·obtain⟨m,rfl⟩:∃m,gk=m+1:=⟨gk-1,o_⟩
   obtain⟨x,l,c,c1,k⟩:=HV _ _ _ _ F M;have r:=aB k;have e1:(0:Int)<=(j:Int):=o_
   have e2:(j:Int)<(n:Int):=o_
   clear F k;go_wp2_with fail;refine r.mono ?_;rintro e q ⟨h,f,rfl,s⟩;obtain⟨⟨u5,d1⟩,d2,d3,h6⟩:=U _ _ _ _ _ _ _ s;obtain⟨y,l2,c2,y1,y2,p⟩:=HE _ _ _ _ h6;have D:=aB p;have ai:q.cell? (aI g (j*6+5))=some (.slice y l2 c2):=by simpa [go_sem] using y1
   clear s h6 p y1 y2;go_wp2_with fail;refine D.mono ?_;rintro e w7 ⟨y',d',rfl,h7⟩;obtain⟨⟨u7,f1⟩,f2,f3,h8⟩:=I _ _ _ _ _ _ _ h7;have H8:=aB h8;clear h7 h8;go_wp2
   go_roundg m
   case measure=>omega
   case rel=>exact⟨j+1,o_,by go_num,H8⟩
  ·have K:j=n:=o_
   subst K;obtain⟨o1,k⟩:=HO _ _ _ F;have r:=aB k;clear F k;go_wp2_with fail;refine r.mono ?_;rintro e q ⟨h,G,f,rfl,s⟩;obtain⟨⟨p0,p1,p2,⟨u3,p3⟩,p4,pf,pl⟩,d⟩:=HF _ _ _ _ _ _ s;have Q:=aA (i:=0) d rfl;have ac:=aA (i:=1) d rfl;have S:=aA (i:=2) d rfl;have V:=aA (i:=3) d rfl;have ab:=aA (i:=4) d rfl;have ah:=aE (i:=0) d;have aj:=aE (i:=1) d;have ag:=aE (i:=2) d;have ae:=aE (i:=3) d;have af:=aE (i:=4) d;have H5:=aB s;clear s d;have ad:w.heap.size<q.heap.size:=o_
   go_wp2_with fail;refine⟨rfl,.agg #[I_ b,.slice (some (aI g 0)) j cap,.slice N Y J,.slice h G f,I_ a],?_,_,rfl,HP _ _ _ _ _ _ _ H5 ?_ s_⟩
   ·simp[results,results122,go_sem,Q,ac,S,V,ab]
   ·exact((((((Kept.refl _ _).setCell _ _ s_).setCell _ _ s_).setCell _ _ s_).setCell _ _ s_).setCell _ _ s_).setCell _ _ s_
def ST(a b:List FVal)(v:FVal)(i:Nat)(c:i<6):(gQ (a++v::b))[a.length*6+i]?=v.cells[i]?:=by
 rw[kG,gj (by rw[eN];omega),eN,jc]
 show (v.cells++gQ b)[i]?=_
 rw[hP (by exact c)]
def O0(a b:List FVal)(v v':FVal)(i:Nat)(x:aQ)(d:i<6)(c:v'.cells=v.cells.set i x):(gQ (a++v::b)).set (a.length*6+i) x=gQ (a++v'::b):=by
 rw[kG,kG,List.set_append_right _ _ (by rw[eN];omega),eN,jc]
 show gQ a++(v.cells++gQ b).set i x=gQ a++(v'.cells++gQ b)
 rw[List.set_append_left _ _ (by exact d),c]
structure CI(w:aG)(m_ stop n g cap:Nat)(tv xo:aQ)(fvs':List FVal)(own:List Nat)(W:aG):Prop where
 row:W.ownsRow (w.heap.size+2) 131 6 (.slice (some (aI g 0)) n cap) n (gQ fvs')
 nodup:(g::own).Nodup
 rng:∀k∈g::own,w.heap.size+2<=k/\k<W.heap.size
 bel:Below w.heap.size w W
 b1:W.heap[w.heap.size]?=some (.cells #[I_ m_,.slice (some (aI g 0)) n cap,tv,xo,I_ stop] 60 (0,0))
 b2:W.heap[w.heap.size+1]?=some (.cells #[I_ 0,bG,bG,bG,I_ 0] 60 (0,0))
section
variable {w:aG} {m_ stop n g cap:Nat} {tv xo:aQ} {own:List Nat} {W W':aG} {a b:List FVal} {v v':FVal}
def CI.cell(h:CI w m_ stop n g cap tv xo (a++v::b) own W)(i:Nat)(d:i<6):W.cell? (aI g (a.length*6+i))=v.cells[i]?/\W.frozen? (aI g (a.length*6+i))=false/\g<W.heap.size:=by
 refine⟨?_,h.row.frozenAt _,(h.rng g s_).2⟩
 have c:=h.row.1;rw[eN,ek,ep] at c;rw[h.row.cellAt (a.length*6+i) o_,ST a b v i d]
def CI.grow{a:List FVal}(h:CI w m_ stop n g cap tv xo a own W)(d:Below W.heap.size W W')(o:Option Nat)(i:∀k,o=some k->W.heap.size<=k/\k<W'.heap.size):CI w m_ stop n g cap tv xo a (own++o.toList) W':=by
 have j:=h.bel.size;have p:=aD h.b1;have l:=aD h.b2;refine⟨iM h.row d,?_,λk b=>?_,h.bel.trans (d.mono j),by rw[d.block _ p];exact h.b1,by rw[d.block _ l];exact h.b2⟩
 ·rw[<-ga];refine gp.2 ⟨h.nodup,by cases o<;>simp,λx q y m e=>?_⟩
  subst e;have f:o=some x:=by simpa using m
  have:=(h.rng x q).2;have:=(i x f).1;omega
 ·rw[<-ga] at b;rcases eq.1 b with b|b
  ·exact⟨(h.rng k b).1,ej (h.rng k b).2 d.size⟩
  ·have c:o=some k:=by simpa using b
   have:=(i k c).1;exact⟨o_,(i k c).2⟩
def CI.set(h:CI w m_ stop n g cap tv xo (a++v::b) own W)(i:Nat)(e:i<6)(x:aQ)(d:v'.cells=v.cells.set i x):CI w m_ stop n g cap tv xo (a++v'::b) own (W.setCell (aI g (a.length*6+i)) x):=by
 have f:=(h.rng g s_).1
 have c:∀k,k≠g->(W.setCell (aI g (a.length*6+i)) x).heap[k]?=W.heap[k]?:=λk c=>ei _ _ _ _ c
 refine⟨?_,h.nodup,λk c=>⟨(h.rng k c).1,by simpa using (h.rng k c).2⟩,h.bel.setCell (by show w.heap.size<=g;omega) _,by rw[c _ o_];exact h.b1,by rw[c _ o_];exact h.b2⟩
 rw[<-O0 a b v v' i x e d];exact(h.row.stored _ _).1
def CI.keep{a:List FVal}(h:CI w m_ stop n g cap tv xo a own W):w.heap.size<W.heap.size/\w.heap.size+1<W.heap.size:=⟨aD h.b1,aD h.b2⟩
end
structure UU(fp:eK)(F:bX)(b_:Nat)(w:aG)(gf cap:Nat)(tv u_:aQ)(v_:List FVal)(m:cR):Prop where
 row:w.ownsRow b_ 131 6 (.slice (some (aI gf 0)) v_.length cap) v_.length (gQ v_)
 frs:jO false fp F b_ w v_ m.f_
 tape:sV F w tv m.tape
 out:w.ownsRow b_ 9 1 u_ m.out.length (nB m.out)
 nodup:(gf::(u_.ownBlock.toList++cA false v_)).Nodup
 rng:∀k∈gf::(u_.ownBlock.toList++cA false v_),b_<=k/\k<w.heap.size
def PVs.cells{l:List aL}(h:PVs F w v l)(p:l.length<=1000000):
 ∃x c,v=.slice x l.length c/\Calls prog 166 #[.slice x l.length c] w λe a=>∃d b n,e=aX (.slice d l.length b)/\a.ownsRow w.heap.size 142 1 (.slice d l.length b) l.length n/\gP F w n l/\Below w.heap.size w a:=by
 rcases h.row with ⟨rfl,rfl⟩|⟨g,f,m,rfl,y,r,i,s⟩
 ·refine⟨none,0,rfl,(uC w).mono ?_⟩;rintro e a ⟨rfl,rfl⟩;exact⟨none,0,[],rfl,World.ownsRow_nil _ _ _ _,gP.nil _ _,eh _ _⟩
 ·refine⟨_,_,rfl,(uD g 0 l.length f m w (by rw[i.1];omega) p (λj u q=>by rw[gb];exact s j u q) (pR i)).mono ?_⟩
  rintro e a ⟨t,rfl,k,o⟩;obtain⟨d,b,rfl⟩:=dE k;exact⟨d,b,m,rfl,k,i,o⟩
def mN{vs:List FVal}{fs:List aJ}(h:jO false fp F b_ w vs fs)(e:∀b,F b->w'.heap[b]?=w.heap[b]?)(c:∀k∈cA false vs,w'.heap[k]?=w.heap[k]?):jO false fp F b_ w' vs fs:=
 h.keep e dP λv d k a=>c k (ib.2 ⟨v,d,a⟩)
def NK(us:List FVal)(v:FVal):cA false (us++[v])=cA false us++(v.ownX false):=by simp[cA]
def iW{a:Nat}{e:TypeId}{b:Nat}{xs:List Value}(h:w.ownsRow b_ e b v n xs)(j:a<=b_):w.ownsRow a e b v n xs:=by
 refine⟨h.1,?_⟩;rcases h.2 with h|⟨g,d,c,i,f,k⟩
 ·exact d7 h
 ·exact d6 ⟨g,d,c,i,el j f,k⟩
def CpC(fp:eK)(F:bX)(w:aG)(m_ stop n:Nat)(tv xo:aQ)(v_:List FVal)(f_:List aJ)(g cap j:Nat)(W:aG):Prop:=
 ∃us:List FVal,us.length=j/\CI w m_ stop n g cap tv xo (us++v_.drop j) (cA false us) W/\jO false fp F (w.heap.size+2) W us (f_.take j)
def CpE(fp:eK)(F:bX)(w:aG)(m_ stop n:Nat)(tv xo:aQ)(v_:List FVal)(f_:List aJ)(g cap j:Nat)(W:aG):Prop:=
 ∃(us:List FVal) (v:FVal) (f:aJ) (x:aQ),us.length=j/\v_[j]?=some v/\f_[j]?=some f/\CI w m_ stop n g cap tv xo (us++{ v with vv:=x }::v_.drop (j+1)) (cA false us++x.ownBlock.toList) W/\jO false fp F (w.heap.size+2) W us (f_.take j)/\lB F (w.heap.size+2) W x f.g_
def YV(h:jQ fp F w v s)(S:∀k,F k->k<w.heap.size)(be:s.m.f_≠[])(bu:s.m.f_.length<=16)(hb:∀f∈s.m.f_,f.g_.length<=90001/\f.ops.length<=99000)(br:s.m.out.length<=50):
 Calls prog 122 #[v] w λe D=>∃v',e=aX v'/\∃gf cap tv u_ v_,v'=.agg #[I_ s.m_,.slice (some (aI gf 0)) v_.length cap,tv,u_,I_ s.stop]/\Below w.heap.size w D/\UU fp F w.heap.size D gf cap tv u_ v_ s.m:=by
 obtain⟨fv,tv,P,v_,rfl,az,L,ax,av⟩:=h;have ah:=L.length
 have U:0<v_.length:=by
  rw[ah];exact gy.2 be
 rcases az with ⟨e,_⟩|⟨x0,c0,bp,rfl,bm,bc,bo,bk⟩
 ·rw[e] at U;simp at U
 have aq:∃ta tl tc,tv=.slice ta tl tc:=by
  rcases ax with ⟨_,x,c,e⟩|⟨g,o,c,e,_⟩
  ·exact⟨_,_,_,e⟩
  ·exact⟨_,_,_,e⟩
 have ay:∃xa xl xc,P=.slice xa xl xc:=by
  rcases av with ⟨_,e⟩|⟨g,c,cu,e,_⟩
  ·exact⟨_,_,_,e⟩
  ·exact⟨_,_,_,e⟩
 generalize T:(w.alloc (.cells #[I_ s.m_,.slice (some (aI x0 0)) v_.length c0,tv,P,I_ s.stop] 60)).alloc (.cells #[I_ 0,bG,bG,bG,I_ 0] 60)=w2;have aw:Below w.heap.size w w2:=by rw[<-T];exact((eh _ w).alloc cK _).alloc s_ _
 have bg:w2.heap.size=w.heap.size+2:=by rw[<-T];simp
 have bf:w2.heap[w.heap.size]?=some (.cells #[I_ s.m_,.slice (some (aI x0 0)) v_.length c0,tv,P,I_ s.stop] 60 (0,0)):=by
  rw[<-T,em _ _ _ s_];exact aN _ _ rfl _
 have bi:w2.heap[w.heap.size+1]?=some (.cells #[I_ 0,bG,bG,bG,I_ 0] 60 (0,0)):=by
  rw[<-T];exact aN _ _ s_ _
 have bb:∀b,F b->w2.heap[b]?=w.heap[b]?:=λb hb=>aw.block b (S b hb)
 have aa:∀{W:aG},Below w.heap.size w W->∀b,F b->W.heap[b]?=w.heap[b]?:=λhb b m=>hb.block b (S b m)
 have X:∀u∈gQ v_,u.oneCell'=true:=by
  have ap:∀(vs:List FVal) (I:List aJ),vP fp F w vs I->∀u∈gQ vs,u.oneCell'=true:=by
   intro vs;induction vs with
   |nil=>intro I _ u hu;cases hu
   |cons v vs ih=>
    intro I L u hu;cases I with
    |nil=>exact L.elim
    |cons f I=>
     obtain⟨H,h2⟩:=L;rcases eq.1 hu with hu|hu
     ·obtain⟨bt,gc,cp,bq,K,_⟩:=H.fn;obtain⟨p,hp⟩:=H.sp.form
      have bn:∃x n c,v.vv=.slice x n c:=by
       rcases H.g_.row with ⟨_,e⟩|⟨g,c,xs,e,_⟩<;>exact⟨_,_,_,e⟩
      have bh:∃x n c,v.ov=.slice x n c:=by
       rcases H.ops.row with ⟨_,e⟩|⟨g,c,xs,e,_⟩<;>exact⟨_,_,_,e⟩
      obtain⟨x1,n1,c1,e2⟩:=bn;obtain⟨x2,n2,c2,e3⟩:=bh;simp only[FVal.cells,K,H.nx,H.ln,hp,e2,e3,eo,fh,or_false] at hu;rcases hu with rfl|rfl|rfl|rfl|rfl|rfl<;>rfl
     ·exact ih I h2 u hu
  exact ap v_ s.m.f_ L
 have J:∀j (B:j<v_.length),∃v f,v_[j]?=some v/\s.m.f_[j]?=some f/\FrS fp F w v f/\f∈s.m.f_/\v_.drop j=v::v_.drop (j+1)/\s.m.f_.take (j+1)=s.m.f_.take j++[f]:=λj B=>by
  have af:j<s.m.f_.length:=o_
  refine⟨v_[j],s.m.f_[j],ff B,ff af,L.get j _ _ (ff B) (ff af),fi af,jz B,gq af⟩
 have hR:∀g cap j W,CpC fp F w s.m_ s.stop v_.length tv P v_ s.m.f_ g cap j W->W.cell? (aI w.heap.size 1)=some (.slice (some (aI g 0)) v_.length cap)/\w.heap.size<W.heap.size/\g<W.heap.size:=λg cap j W G=>by
  obtain⟨i,_,a,_⟩:=G;exact⟨aA a.b1 rfl,aD a.b1,(a.rng g s_).2⟩
 refine(UB w w2 s.m_ s.stop x0 v_.length c0 (.slice (some (aI x0 0)) v_.length c0) tv P
  (λv' D=>∃gf cap tv u_ v_,v'=.agg #[I_ s.m_,.slice (some (aI gf 0)) v_.length cap,tv,u_,I_ s.stop]/\Below w.heap.size w D/\UU fp F w.heap.size D gf cap tv u_ v_ s.m)
  (λg cap W=>W.ownsRow (w.heap.size+2) 131 6 (.slice (some (aI g 0)) v_.length cap) v_.length (gQ v_)/\Below w2.heap.size w2 W)
  (CpC fp F w s.m_ s.stop v_.length tv P v_ s.m.f_) (CpE fp F w s.m_ s.stop v_.length tv P v_ s.m.f_)
  (λg cap j x l c W=>∃i v f,i.length=j/\v_[j]?=some v/\s.m.f_[j]?=some f/\CI w s.m_ s.stop v_.length g cap tv P (i++v::v_.drop (j+1)) (cA false i++(Value.slice x l c).ownBlock.toList) W/\jO false fp F (w.heap.size+2) W i (s.m.f_.take j)/\lB F (w.heap.size+2) W (.slice x l c) f.g_)
  (λg cap j x l c W=>∃i v f y,i.length=j/\v_[j]?=some v/\s.m.f_[j]?=some f/\CI w s.m_ s.stop v_.length g cap tv P (i++{ v with vv:=y }::v_.drop (j+1)) (cA false i++y.ownBlock.toList++(Value.slice x l c).ownBlock.toList) W/\jO false fp F (w.heap.size+2) W i (s.m.f_.take j)/\lB F (w.heap.size+2) W y f.g_/\lB F (w.heap.size+2) W (.slice x l c) f.ops)
  (λg cap x l c W=>∃i,i.length=v_.length/\CI w s.m_ s.stop v_.length g cap tv P i (cA false i++(Value.slice x l c).ownBlock.toList) W/\jO false fp F (w.heap.size+2) W i s.m.f_/\W.ownsRow (w.heap.size+2) 9 1 (.slice x l c) s.m.out.length (nB s.m.out))
  (by omega) rfl ay aq T ?_ (λg cap W G=>?_) hR (λg cap j W G B=>?_) (λg cap j x l c W G=>?_) (λg cap j W G=>?_) (λg cap j x l c W G=>?_) (λg cap W G=>?_) (λg cap x l c W G=>?_) (λg cap x l c W W' G q N=>?_))
 ·refine(JQ x0 0 v_.length c0 (gQ v_) w2 (by rw[eN]) o_ (λj u B=>?_) X).mono ?_
  ·rw[gb];rw[<-bk,fu] at B;split at B
   ·exact aA ((bb x0 bm).trans bc) (by simpa using B)
   ·cases B
  ·rintro e D ⟨v',rfl,A,r⟩;rw[bg] at A;rcases A.2 with ⟨r1,r2⟩|⟨g,cp,cu,r1,_⟩
   ·omega
   ·rw[r1] at A ⊢
    exact⟨g,cp,rfl,A,r⟩
 ·obtain⟨A,r⟩:=G;have hg:=A.lt g rfl;have ag:W.heap[w.heap.size]?=_:=(r.block _ o_).trans bf
  have au:W.heap[w.heap.size+1]?=_:=(r.block _ o_).trans bi
  refine⟨⟨_,aA ag rfl⟩,aE ag,aD ag,[],rfl,⟨?_,by simp[cA],λk q=>?_,?_,aO ag,?_⟩,trivial⟩
  ·exact aY A λk e=>ei _ _ _ _ (by cases e;show g≠w.heap.size;omega)
  ·simp[cA] at q;subst q;exact⟨hg.1,by simpa using hg.2⟩
  ·exact(aw.trans (r.mono o_)).setCell cK _
  ·rw[ei _ _ _ _ (by show w.heap.size+1≠w.heap.size;omega)];exact au
 ·obtain⟨i,rfl,a,z⟩:=G;obtain⟨v,f,K,e2,hv,ac,e3,e4⟩:=J i.length B;rw[e3] at a;obtain⟨c1,c2,c3⟩:=a.cell 4 o_
  have an:=hv.keep (aa a.bel) dP;obtain⟨x,c,e5,ao⟩:=an.g_.cells (by have:=(hb f ac).1;omega)
  refine⟨x,f.g_.length,c,c1.trans (by rw[<-e5];rfl),ao.mono ?_⟩
  rintro e D ⟨x',c',ys,he,A,hr,r⟩;have O:∀k,(Value.slice x' f.g_.length c').ownBlock=some k->W.heap.size<=k/\k<D.heap.size:=λk q=>A.lt k q
  have N:=a.keep;refine⟨x',c',he,i,v,f,rfl,K,e2,a.grow r _ O,mN z (λb m=>r.block b (ej (S b m) a.bel.size)) (λk q=>r.block k (a.rng k (ey _ q)).2),⟨ys,iW A o_,hr.keep λb m=>r.block b (ej (S b m) a.bel.size)⟩,hv.varsB⟩
 ·obtain⟨i,v,f,rfl,K,e2,a,z,Q⟩:=G;obtain⟨c1,c2,c3⟩:=a.cell 4 o_
  have C:∀k∈cA false i++(Value.slice x l c).ownBlock.toList,k≠g:=λk q e=>(ez.1 a.nodup).1 (by rw[<-e];exact q)
  have t:∀k,k≠g->(W.setCell (aI g (i.length*6+4)) (.slice x l c)).heap[k]?=W.heap[k]?:=λk q=>ei _ _ _ _ q
  have ad:∀b,F b->b≠g:=λb m e=>by have H:=S b m;have h2:=(a.rng g s_).1;omega
  refine⟨⟨_,c1⟩,c2,c3,i,v,f,_,rfl,K,e2,a.set 4 o_ _ rfl,mN z (λb m=>t b (ad b m)) (λk q=>t k (C k (fm _ q))),Q.keep (λb m=>t b (ad b m)) dP λk q=>t k (C k (by simp[q]))⟩
 ·obtain⟨i,v,f,x,rfl,K,e2,a,z,Q⟩:=G;obtain⟨c1,c2,c3⟩:=a.cell 5 o_
  have B:i.length<v_.length:=(gu.1 K).1;obtain⟨v',f',Z,M,hv,ac,e3,e4⟩:=J i.length B;rw[K] at Z;cases Z;rw[e2] at M;cases M;have an:=hv.keep (aa a.bel) dP;obtain⟨y,d,e5,ao⟩:=an.ops.cells (by have:=(hb f ac).2;omega)
  refine⟨y,f.ops.length,d,c1.trans (by rw[<-e5];rfl),c3,ao.mono ?_⟩
  rintro e D ⟨y',d',ys,he,A,hr,r⟩;have O:∀k,(Value.slice y' f.ops.length d').ownBlock=some k->W.heap.size<=k/\k<D.heap.size:=λk q=>A.lt k q
  have N:=a.keep;have al:∀b,F b->D.heap[b]?=W.heap[b]?:=λb m=>r.block b (ej (S b m) a.bel.size)
  refine⟨y',d',he,i,v,f,x,rfl,K,e2,a.grow r _ O,mN z al (λk q=>r.block k (a.rng k (ey _ (fm _ q))).2),Q.keep al dP λk q=>r.block k (a.rng k (by simp[q])).2,⟨ys,iW A o_,hr.keep al⟩,hv.opsB⟩
 ·obtain⟨i,v,f,y,rfl,K,e2,a,z,Q,bj⟩:=G;obtain⟨c1,c2,c3⟩:=a.cell 5 o_
  have B:i.length<v_.length:=(gu.1 K).1;obtain⟨v',f',Z,M,hv,ac,e3,e4⟩:=J i.length B;rw[K] at Z;cases Z;rw[e2] at M;cases M;have C:∀k∈cA false i++y.ownBlock.toList++(Value.slice x l c).ownBlock.toList,k≠g:=λk q e=>(ez.1 a.nodup).1 (by rw[<-e];exact q)
  have t:∀k,k≠g->(W.setCell (aI g (i.length*6+5)) (.slice x l c)).heap[k]?=W.heap[k]?:=λk q=>ei _ _ _ _ q
  have ad:∀b,F b->b≠g:=λb m e=>by have H:=S b m;have h2:=(a.rng g s_).1;omega
  have am:∀b,F b->(W.setCell (aI g (i.length*6+5)) (.slice x l c)).heap[b]?=W.heap[b]?:=λb m=>t b (ad b m)
  have Y:=a.set (v':={ v with vv:=y,ov:=.slice x l c }) 5 o_ (.slice x l c) rfl
  have ae:=hv.keep (aa (Y.bel)) dP;refine⟨⟨_,c1⟩,c2,c3,i++[{ v with vv:=y,ov:=.slice x l c }],s_,?_,?_⟩
  ·have e5:cA false (i++[{ v with vv:=y,ov:=.slice x l c }])=cA false i++y.ownBlock.toList++(Value.slice x l c).ownBlock.toList:=by
    rw[NK,gl];rfl
   have e6:i++[{ v with vv:=y,ov:=.slice x l c }]++v_.drop (i.length+1)=i++{ v with vv:=y,ov:=.slice x l c }::v_.drop (i.length+1):=s_
   rw[e5,e6];exact Y
  ·rw[e4];refine(mN z am (λk q=>t k (C k (by simp[q])))).snoc ⟨ae.fn,ae.nx,ae.ln,ae.sp,Q.keep am dP λk q=>t k (C k (by simp[q])),bj.keep am dP λk q=>t k (C k (by simp[q]))⟩
 ·obtain⟨i,V,a,z⟩:=G;rw[List.drop_of_length_le cK,ix] at a;rw[ah,gr cK] at z;have N:=a.keep;have ar:=av.keep (aa a.bel) dP;refine⟨aA a.b1 rfl,?_⟩
  have ai:∀x' l' c' (D:aG),D.ownsRow W.heap.size 9 1 (.slice x' l' c') s.m.out.length (nB s.m.out)->Below W.heap.size W D->∃i,i.length=v_.length/\CI w s.m_ s.stop v_.length g cap tv P i (cA false i++(Value.slice x' l' c').ownBlock.toList) D/\jO false fp F (w.heap.size+2) D i s.m.f_/\D.ownsRow (w.heap.size+2) 9 1 (.slice x' l' c') s.m.out.length (nB s.m.out):=λx' l' c' D A r=>
   ⟨i,V,a.grow r _ λk q=>A.lt k q,mN z (λb m=>r.block b (ej (S b m) a.bel.size)) (λk q=>r.block k (a.rng k (ey _ q)).2),iW A o_⟩
  rcases ar with ⟨K,rfl⟩|⟨go,co,cu,rfl,H,h2,h3,h4⟩
  ·refine(uE W).mono ?_;rintro e D ⟨rfl,rfl⟩;exact⟨none,0,0,rfl,ai _ _ _ _ (by rw[K];exact World.ownsRow_nil _ _ _ _) (eh _ _)⟩
  ·refine(uF go 0 s.m.out.length co (nB s.m.out) W (by simp[nB]) o_ (λj u B=>?_) (λu hu=>?_)).mono ?_
   ·rw[gb];rw[<-h4,fu] at B;split at B
    ·exact aA h2 (by simpa using B)
    ·cases B
   ·obtain⟨y,_,rfl⟩:=hQ.1 hu;rfl
   ·rintro e D ⟨v',rfl,A,r⟩;obtain⟨x',c',rfl⟩:=dE A;exact⟨x',_,c',rfl,ai _ _ _ _ A r⟩
 ·obtain⟨i,V,a,z,A⟩:=G;exact⟨⟨aA a.b1 rfl,aA a.b1 rfl,aA a.b1 rfl,⟨_,aA a.b1 rfl⟩,aA a.b1 rfl,aE a.b1,aD a.b2⟩,a.b2⟩
 ·obtain⟨i,V,a,z,A⟩:=G
  have bd:∀k∈g::(cA false i++(Value.slice x l c).ownBlock.toList),k∉[w.heap.size,w.heap.size+1]:=λk q hm=>by
   have:=(a.rng k q).1;simp at hm;omega
  have aj:∀k∈g::(cA false i++(Value.slice x l c).ownBlock.toList),W'.heap[k]?=W.heap[k]?:=λk E=>q.block k (a.rng k E).2 (bd k E)
  have bl:∀b,F b->W'.heap[b]?=W.heap[b]?:=λb m=>q.block b (ej (S b m) a.bel.size) (by have:=S b m;simp;omega)
  have ba:Below w.heap.size w W':=⟨q.os.trans a.bel.os,q.tape.trans a.bel.tape,q.output.trans a.bel.output,by rw[N];exact a.bel.size,λk E=>by
   rw[q.block k (ej E a.bel.size) t_,a.bel.block k E]⟩
  have ak:∀k,k∈g::((Value.slice x l c).ownBlock.toList++cA false i)↔k∈g::(cA false i++(Value.slice x l c).ownBlock.toList):=λk=>by simp[or_comm]
  have ab:∀(u:List FVal) (I:List aJ),jO false fp F (w.heap.size+2) W' u I->jO false fp F w.heap.size W' u I:=by
   intro u;induction u with
   |nil=>intro I h;cases I with
    |nil=>trivial
    |cons=>exact h.elim
   |cons v vs ih=>intro I h;cases I with
    |nil=>exact h.elim
    |cons f I=>
     obtain⟨H,h2⟩:=h;obtain⟨⟨xs,a1,a2⟩,a3⟩:=H.g_;obtain⟨⟨ys,b1,b2⟩,b3⟩:=H.ops;exact⟨⟨H.fn,H.nx,H.ln,H.sp,⟨⟨xs,iW a1 o_,a2⟩,a3⟩,⟨⟨ys,iW b1 o_,b2⟩,b3⟩⟩,ih I h2⟩
  refine⟨g,cap,tv,.slice x l c,i,by rw[V],ba,⟨?_,ab _ _ (mN z bl λk E=>aj k (by simp[E])),ax.keep (λb m=>by rw[ba.block b (S b m)]) dP,?_,?_,λk E=>?_⟩⟩
  ·rw[V];exact iW (aY a.row λk e=>by cases e;exact aj g s_) o_
  ·exact iW (aY A λk e=>aj k (by simp[e])) o_
  ·have:=a.nodup;rw[ez] at this ⊢
   refine⟨λhm=>this.1 (by simpa [or_comm] using hm),?_⟩
   exact(List.perm_append_comm.nodup_iff).1 this.2
  ·have:=a.rng k ((ak k).1 E);exact⟨o_,by rw[N];exact this.2⟩
def K4(w:aG)(b a:Nat)(j h i:aQ)(r:a≠0)(f:∃x l c,j=.slice x l c)(d:∃x l c,h=.slice x l c)(g:∃x l c,i=.slice x l c):
 Calls prog 87 #[.agg #[I_ b,j,h,i,I_ a]] w λe k=>e=aX (.tuple #[.agg #[I_ 0,bG,bG,bG,I_ 0],.bool false])/\Below w.heap.size w k:=by
 obtain⟨y,u,n,rfl⟩:=f;obtain⟨s,v,p,rfl⟩:=d;obtain⟨m,o,q,rfl⟩:=g;have t:¬(a:Int)=0:=o_
 go_in
 go_wp2_with fail;refine⟨rfl,.tuple #[.agg #[I_ 0,bG,bG,bG,I_ 0],.bool false],?_,rfl,((eh _ w).alloc cK _).alloc s_ _⟩
 simp[results,results87,go_sem]
def J9(w Y:aG)(a:Nat)(v s u:aQ)(P:Value->World->Prop)(A:Nat->Nat->Nat->Value->Value->World->Prop)(B:Nat->World->Prop)(ht:a<=1000000)(F:∃x l c,v=.slice x l c)(E:∃x l c,s=.slice x l c)(C:∃x l c,u=.slice x l c)
 (S:(w.alloc (.cells #[I_ a,v,s,u,I_ 0] 60)).alloc (.cells #[I_ 0,bG,bG,bG,I_ 0] 60)=Y)
 (HC:Hid (Calls prog 122 #[.agg #[I_ a,v,s,u,I_ 0]] Y λe r=>∃gf n cap d g,e=aX (.agg #[I_ a,.slice (some (aI gf 0)) n cap,d,g,I_ 0])/\(∃x l c,d=.slice x l c)/\(∃x l c,g=.slice x l c)/\A gf n cap d g r))
 (HG:Hid (∀gf n cap d g W,A gf n cap d g W->Calls prog 77 #[bE W.heap.size] (W.alloc (.cells #[I_ ((a+1:Nat):Int),.slice (some (aI gf 0)) n cap,d,g,I_ 0] 60)) λe r=>e=aX (.tuple #[])/\B W.heap.size r))
 (HB:Hid (∀b W,B b W->∃(q:Nat) (f t o:aQ) (p:Nat),W.heap[b]?=some (.cells #[I_ q,f,t,o,I_ p] 60 (0,0))/\(∃x l c,f=.slice x l c)/\(∃x l c,t=.slice x l c)/\(∃x l c,o=.slice x l c)/\W.heap[w.heap.size+1]?=some (.cells #[I_ 0,bG,bG,bG,I_ 0] 60 (0,0))/\b≠w.heap.size+1/\
   ∀W',Kept [w.heap.size+1] W W'->W'.heap.size=W.heap.size->P (.agg #[I_ q,f,t,o,I_ p]) W')):
 Calls prog 87 #[.agg #[I_ a,v,s,u,I_ 0]] w λe r=>∃v',e=aX (.tuple #[v',.bool true])/\P v' r:=by
 obtain⟨x1,l1,c1,rfl⟩:=F;obtain⟨x2,l2,c2,rfl⟩:=E;obtain⟨x3,l3,c3,rfl⟩:=C;have HW:=aB S;clear S;go_in
 go_wp2_with fail;rw[HW.out];refine HC.mono ?_;rintro e w3 ⟨gf,n,cap,d,g,rfl,⟨y2,m2,d2,rfl⟩,⟨y3,m3,d3,rfl⟩,I⟩;have k:=aB (HG _ _ _ _ _ _ I);generalize hb:w3.heap.size=b at k;clear I;rw[show ((a+1:Nat):Int)=(a:Int)+1 by omega] at k
 go_wp2_with fail;refine k.mono ?_;rintro e j ⟨rfl,L⟩;obtain⟨q,f,t,o,p,m,⟨M,Q,N,rfl⟩,⟨T,X,U,rfl⟩,⟨J,K,O,rfl⟩,h,q3,V⟩:=HB _ _ L;have Z:=aB V;have ah:=aA (i:=0) m rfl;have al:=aA (i:=1) m rfl;have ae:=aA (i:=2) m rfl;have ag:=aA (i:=3) m rfl;have ac:=aA (i:=4) m rfl;have y:=aA (i:=0) h rfl;have H:=aA (i:=1) h rfl;have z:=aA (i:=2) h rfl;have D:=aA (i:=3) h rfl;have G:=aA (i:=4) h rfl;have aj:=aE (i:=0) h;have ak:=aE (i:=1) h;have af:=aE (i:=2) h;have ab:=aE (i:=3) h;have ad:=aE (i:=4) h;have aa:=aD m;have ai:=aD h;clear L V m h;go_wp2_with fail;refine⟨rfl,.tuple #[.agg #[I_ q,.slice M Q N,.slice T X U,.slice J K O,I_ p],.bool true],?_,_,rfl,Z _ ?_ s_⟩
 ·simp[results,results87,go_sem,y,H,z,D,G]
 ·exact(((((Kept.refl _ _).setCell _ _ s_).setCell _ _ s_).setCell _ _ s_).setCell _ _ s_).setCell _ _ s_
def vF{k:Nat}{t:TypeId}{a:List Value}(h:w.ownsRow b_ t k v n a):∃x l c,v=.slice x l c:=by
 obtain⟨x,c,e⟩:=dE h;exact⟨x,n,c,e⟩
def CB.of{own:List Nat}(h:kJ w)(d:Below w.heap.size w w')(i:∀k∈own,w.heap.size<=k):CB own w':=λW f=>by
 cases c:prog.globalNamed "internal/strconv.uint64pow10" with
 |none=>unfold kJ Lib.TabIs World.var? at h;rw[c] at h;cases h
 |some g=>
  have a:g<w.heap.size:=by
   unfold kJ Lib.TabIs World.var? at h;rw[c] at h;simp only[Option.bind_some] at h;rcases fq g w.heap.size with b|b
   ·exact b
   ·rw[ij (by exact b)] at h
    cases h
  refine h.keep c ?_;rw[f.block g (ej a d.size) (λe=>by have:=i g e;omega),d.block g a]
def jQ.form(h:jQ fp F w v s):∃b tv xo,v=.agg #[I_ s.m_,b,tv,xo,I_ s.stop]/\(∃x l c,b=.slice x l c)/\(∃x l c,tv=.slice x l c)/\(∃x l c,xo=.slice x l c):=by
 obtain⟨b,tv,xo,k,rfl,a,i,f,d⟩:=h;refine⟨b,tv,xo,rfl,?_,?_,?_⟩
 ·rcases a with ⟨_,x,c,e⟩|⟨g,c,j,e,_⟩<;>exact⟨_,_,_,e⟩
 ·rcases f with ⟨_,x,c,e⟩|⟨g,o,c,e,_⟩<;>exact⟨_,_,_,e⟩
 ·rcases d with ⟨_,e⟩|⟨g,c,m,e,_⟩<;>exact⟨_,_,_,e⟩
def UU.run{gf g:Nat}{j a:aQ}{c:List FVal}{m:cR}(h:UU fp F b_ w gf g j a c m)(u:∀b,F b->b<b_)(f:b_<=w.heap.size)(q p:aQ):
 dA false fp F b_ (w.alloc (.cells #[q,.slice (some (aI gf 0)) c.length g,j,a,p] 60)) w.heap.size gf g q j a p c m/\∀k∈aR false w.heap.size gf a c,b_<=k:=by
 generalize r:w.alloc (.cells #[q,.slice (some (aI gf 0)) c.length g,j,a,p] 60)=W;have t:Below w.heap.size w W:=by rw[<-r];exact(eh _ w).alloc cK _
 have v:W.heap.size=w.heap.size+1:=by rw[<-r];simp
 have n:W.heap[w.heap.size]?=some (.cells #[q,.slice (some (aI gf 0)) c.length g,j,a,p] 60 (0,0)):=by rw[<-r];exact aN _ _ rfl _
 have o:∀b,F b->W.heap[b]?=w.heap[b]?:=λb s=>t.block b (ej (u b s) f)
 have i:∀k∈gf::(a.ownBlock.toList++cA false c),W.heap[k]?=w.heap[k]?:=λk d=>t.block k (h.rng k d).2
 refine⟨⟨n,aY h.row λk e=>by cases e;exact i gf s_,mN h.frs o λk d=>i k (by simp[d]),h.tape.keep o dP,aY h.out λk e=>i k (by simp[e]),?_,λk d=>?_,λk d=>?_⟩,λk d=>?_⟩
 ·exact ez.2 ⟨λl=>by have:=(h.rng _ l).2;omega,h.nodup⟩
 ·rcases eo.1 d with rfl|d
  ·omega
  ·have:=(h.rng k d).2;omega
 ·have x:=u k d;refine⟨o_,λl=>?_⟩
  rcases eo.1 l with rfl|l
  ·omega
  ·have:=(h.rng k l).1;omega
 ·rcases eo.1 d with rfl|d
  ·exact f
  ·exact(h.rng k d).1
def VT{ar:Nat->Option Nat}{C:List eU}{k:Nat}{r:cR × Nat}(ht:kT ar C)(aj:kI C)(h:jQ fp F w v s)(hF:∀b,F b->b<w.heap.size)(hT:mA fp F w C)(hp:kJ w)(hs:s.stop=0)
 (hA:fW ar s.m) (X:s.m.f_≠[]) (hU:gK s.m) (aa:s.m.out.length<=50) (am:s.m.tape.length<=17592186044416) (hk:dR C k s.m=some r) (ap:s.m_+1<=1000000) (hr:r.2<=1000):
 Calls prog 87 #[v] w λe J=>∃v',e=aX (.tuple #[v',.bool true])/\Below w.heap.size w J/\∃G,Ext F G w.heap.size/\(∀b,G b->b<J.heap.size)/\jQ fp G J v' ⟨s.m_+1,r.1,bZ (s.m_+1) r.2⟩:=by
 obtain⟨fv,tv,xo,rfl,f1,f2,f3⟩:=h.form
 have ad:∀f∈s.m.f_,f.g_.length<=90001/\f.ops.length<=99000:=λf hf=>by
  have hq:∃N,cQ ar f N:=by
   obtain⟨b,g,e⟩:=lW X;rw[e] at hf;have K:=hA.ok.low;have Q:=hA.ok.top;rw[e,gC] at K;rw[e,fB] at Q;rcases eq.1 hf with l|l
   ·exact⟨1,K f l⟩
   ·rw[et.1 l];exact⟨0,Q g rfl⟩
  obtain⟨N,⟨T,L,hh,_⟩,hn,_,hv⟩:=hq;have l:=(L.ins _ _ (ff hn)).2.1;have h2:=L.len;exact⟨hv,o_⟩
 rw[hs] at h ⊢
 generalize I:(w.alloc (.cells #[I_ s.m_,fv,tv,xo,I_ (0:Nat)] 60)).alloc (.cells #[I_ 0,bG,bG,bG,I_ 0] 60)=m;have t:Below w.heap.size w m:=by rw[<-I];exact((eh _ w).alloc cK _).alloc s_ _
 have ao:m.heap.size=w.heap.size+2:=by rw[<-I];simp
 have ai:m.heap[w.heap.size+1]?=some (.cells #[I_ 0,bG,bG,bG,I_ 0] 60 (0,0)):=by
  rw[<-I];exact aN _ _ s_ _
 have ah:∀b,F b->b<m.heap.size:=λb Y=>ej (hF b Y) t.size
 have h2:jQ fp F m (.agg #[I_ s.m_,fv,tv,xo,I_ (0:Nat)]) s:=by
  have:=h.keep (λb Y=>t.block b (hF b Y)) dP
  exact this
 refine(J9 w m s.m_ fv tv xo (λv' J=>Below w.heap.size w J/\∃G,Ext F G w.heap.size/\(∀b,G b->b<J.heap.size)/\jQ fp G J v' ⟨s.m_+1,r.1,bZ (s.m_+1) r.2⟩)
  (λz n q p S W=>∃i,n=i.length/\Below m.heap.size m W/\UU fp F m.heap.size W z q p S i s.m)
  (λb W=>∃W0 z q p j i G,(Below m.heap.size m W/\m.heap.size<=b)/\(m.heap.size<=W0/\Ext F G W0)/\dA false fp G m.heap.size W b z q (I_ ((s.m_+1:Nat):Int)) p j (I_ (bZ (s.m_+1) r.2)) i r.1/\∀k∈aR false b z j i,m.heap.size<=k)
  (by omega) f1 f2 f3 I ?_ (λz n q p S W hq=>?_) (λb W hq=>?_))
 ·refine(YV h2 ah X hA.ok.deep ad aa).mono ?_;rintro e J ⟨v',rfl,z,q,p,j,i,rfl,y,L⟩;rw[hs];refine⟨z,i.length,q,p,j,rfl,?_,vF L.out,i,rfl,y,L⟩;rcases L.tape with ⟨_,x,c,e⟩|⟨g,o,c,e,_⟩<;>exact⟨_,_,_,e⟩
 ·obtain⟨i,rfl,y,L⟩:=hq;obtain⟨P,E⟩:=L.run ah y.size (I_ ((s.m_+1:Nat):Int)) (I_ 0);generalize ak:W.alloc (.cells #[I_ ((s.m_+1:Nat):Int),.slice (some (aI z 0)) i.length q,p,S,I_ 0] 60)=V at P;have an:Below W.heap.size W V:=by rw[<-ak];exact(eh _ W).alloc cK _
  have d:Below m.heap.size m V:=y.trans (an.mono y.size);have O:Below w.heap.size w V:=t.trans (d.mono t.size);have al:mA fp F V C:=hT.keep (λb Y=>O.block b (hF b Y)) dP
  refine(SL ht aj P al (CB.of hp O λk hk=>el t.size (E k hk)) d.size hA hU aa am hk o_ hr).mono ?_
  rintro e J ⟨he,D,G,ag,ab,af,A,M,d1,d2,d3⟩
  have ae:∀x∈aR false W.heap.size ag A M,m.heap.size<=x:=λx hx=>by
   rcases d3 x hx with l|l
   ·exact E x l
   ·exact el d.size l
  refine⟨he,V.heap.size,ag,ab,af,A,M,G,⟨⟨D.os.trans d.os,D.tape.trans d.tape,D.output.trans d.output,el d.size D.size,λk a=>?_⟩,y.size⟩,⟨d.size,d1⟩,d2,ae⟩
  rw[D.block k (ej a d.size) (λhm=>by have:=E k hm;omega),d.block k a]
 ·obtain⟨W0,z,q,p,j,i,G,⟨g1,g2⟩,⟨g3,g4⟩,U,g6⟩:=hq;have ac:=U.blk;refine⟨_,_,_,_,_,ac,⟨_,_,_,rfl⟩,?_,vF U.out,by rw[g1.block _ o_];exact ai,o_,λV B Z=>?_⟩
  ·rcases U.tape with ⟨_,x,c,e⟩|⟨g,o,c,e,_⟩<;>exact⟨_,_,_,e⟩
  ·have u:Below w.heap.size w W:=t.trans (g1.mono t.size);have hS:=U.kept (G:=λk=>G k\/(k∈aR false b z j i/\k≠b)) (λ_ h=>d7 h) (λk a hn=>d6 ⟨a,hn⟩)
   have H:∀k,(G k\/(k∈aR false b z j i/\k≠b))->k≠w.heap.size+1/\k<W.heap.size:=λk a=>by
    rcases a with l|⟨l,_⟩
    ·refine⟨?_,(U.apart k l).1⟩;rcases g4.new k l with h3|h3
     ·have:=hF k h3;omega
     ·omega
    ·have:=g6 k l;exact⟨o_,U.lt k l⟩
   refine⟨⟨B.os.trans u.os,B.tape.trans u.tape,B.output.trans u.output,by rw[Z];exact u.size,λk a=>?_⟩,λk=>G k\/(k∈aR false b z j i/\k≠b),⟨λk a=>d7 (g4.sub k a),λk a=>?_⟩,λk a=>by rw[Z];exact(H k a).2,hS.keep (λk a=>B.block k (H k a).2 (by simpa using (H k a).1)) dP⟩
   ·rw[B.block k (ej a u.size) t_,u.block k a]
   ·rcases a with l|⟨l,_⟩
    ·rcases g4.new k l with h3|h3
     ·exact d7 h3
     ·exact d6 o_
    ·exact d6 (by have:=g6 k l;omega)
end Go.Proofs.YtddnpoiiimjpcaaGreatDoor
