/- Contracts of the program: the moment is told: the walks. -/
import Derived.Test.YthbffcmfmjpncaaGreatDoorP12c
set_option linter.defProp false
set_option maxRecDepth 100000
set_option maxHeartbeats 4000000
namespace Go.Proofs.YthbffcmfmjpncaaGreatDoor
open Hs
open _root_.Go.Proofs.Tryz
open Instr(typeAssert)
open Go.RowKit
variable{o:List (List UInt8)}{t:List Int}{a:List aI}{b:List dQ}{b_ n:Nat}{F G:Nat->Prop}{c:Nat->Value}{v:Value}{w w':World}{i:aH}{f:aI}{s:bZ}
def ND{W:World}{b:Nat}{s:SV}{T:TypeId}(h:W.heap[b]?=some (.cells s.cells T (0,0))):W.cell? ⟨b,0,none⟩=some (.int .i64 s.t)/\W.cell? ⟨b,1,none⟩=some (.slice s.x1 s.n1 s.c1)/\W.cell? ⟨b,2,none⟩=some (.slice s.x2 s.n2 s.c2)/\W.cell? ⟨b,3,none⟩=some (.slice s.x3 s.n3 s.c3)/\W.cell? ⟨b,4,none⟩=some (.int .i64 s.q):=
 ⟨aA h rfl,aA h rfl,aA h rfl,aA h rfl,aA h rfl⟩
def PY(w:World)(s:SV)(P A3:SV->World->Prop)(A1:Option Addr->Nat->Nat->World->Prop)(A2:Option Addr->Nat->Nat->Option Addr->Nat->Nat->World->Prop)
 (HS:Hid (∀W,aZ ((w.alloc (.cells s.cells 72)).alloc (.cells #[.int .i64 0,.slice none 0 0,.slice none 0 0,.slice none 0 0,.int .i64 0] 40)) W->Calls prog 56 #[s.val] W λe F=>∃x n c,e=.returned (.slice x n c)/\A1 x n c F))
 (HV:Hid (∀x n c W,A1 x n c W->W.heap[w.heap.size]?=some (.cells s.cells 72 (0,0))/\Calls prog 57 #[s.val] W λe F=>∃l o g,e=.returned (.slice l o g)/\A2 x n c l o g F))
 (HC:Hid (∀x n c l o g W,A2 x n c l o g W->W.heap[w.heap.size]?=some (.cells s.cells 72 (0,0))/\Calls prog 58 #[.slice s.x3 s.n3 s.c3] W λe F=>∃B C A,e=.returned (.slice B C A)/\A3 ⟨s.t,x,l,B,n,o,C,c,g,A,s.q⟩ F))
 (HP:Hid (∀m W,A3 m W->W.heap[w.heap.size]?=some (.cells s.cells 72 (0,0))/\(∃c,W.heap[w.heap.size+1]?=some (.cells c 40 (0,0))/\c.size=5)/\P m (fA W (w.heap.size+1) m))):
 Calls prog 29 #[s.val] w λe F=>∃m:SV,e=.returned m.val/\P m F:=by
 unfold SV.val SV.cells at HS;have z:=HV;unfold SV.val at z;unfold SV.val;go_enter func29,ntmps29;go_wp2_with fail;have HH:=aB (aZ.drew ((w.alloc (.cells #[.int .i64 s.t,.slice s.x1 s.n1 s.c1,.slice s.x2 s.n2 s.c2,.slice s.x3 s.n3 s.c3,.int .i64 s.q] 72)).alloc (.cells #[.int .i64 0,.slice none 0 0,.slice none 0 0,.slice none 0 0,.int .i64 0] 40)));have M:((w.alloc (.cells #[.int .i64 s.t,.slice s.x1 s.n1 s.c1,.slice s.x2 s.n2 s.c2,.slice s.x3 s.n3 s.c3,.int .i64 s.q] 72)).alloc (.cells #[.int .i64 0,.slice none 0 0,.slice none 0 0,.slice none 0 0,.int .i64 0] 40)).drew.heap[w.heap.size]?=some (.cells (SV.cells s) 72 (0,0)):=(eq _ _ _ s_).trans (aS _ _ rfl _)
 have g:=ND M;clear M;refine wp_region_held_drew (S:=λW=>W.cell? ⟨w.heap.size,0,none⟩=some (.int .i64 s.t)/\W.cell? ⟨w.heap.size,1,none⟩=some (.slice s.x1 s.n1 s.c1)/\W.cell? ⟨w.heap.size,2,none⟩=some (.slice s.x2 s.n2 s.c2)/\W.cell? ⟨w.heap.size,3,none⟩=some (.slice s.x3 s.n3 s.c3)/\W.cell? ⟨w.heap.size,4,none⟩=some (.int .i64 s.q)) k_ g (λa=>?_)
 clear g;(refine wpAnyH_take (i:=0) (v:=?_) rfl k_ k_ k_ (λ_ _ _ h=>h) (d6 ⟨r_,?_⟩) a ?_;rotate_left;(rintro w ⟨t,u,r,p,y⟩;go_simp<;>with_reducible rfl))
 (refine wpAnyH_take (i:=1) (v:=?_) rfl k_ k_ k_ (λ_ _ _ h=>h) (d6 ⟨r_,?_⟩) a ?_;rotate_left;(rintro w ⟨t,u,r,p,y⟩;go_simp<;>with_reducible rfl))
 (refine wpAnyH_take (i:=2) (v:=?_) rfl k_ k_ k_ (λ_ _ _ h=>h) (d6 ⟨r_,?_⟩) a ?_;rotate_left;(rintro w ⟨t,u,r,p,y⟩;go_simp<;>with_reducible rfl))
 (refine wpAnyH_take (i:=4) (v:=?_) rfl k_ k_ k_ (λ_ _ _ h=>h) (d6 ⟨r_,?_⟩) a ?_;rotate_left;(rintro w ⟨t,u,r,p,y⟩;go_simp<;>with_reducible rfl))
 (refine wpAnyH_take (i:=6) (v:=?_) rfl k_ k_ k_ (λ_ _ _ h=>h) (d6 ⟨r_,?_⟩) a ?_;rotate_left;(rintro w ⟨t,u,r,p,y⟩;go_simp<;>with_reducible rfl))
 (refine wpAnyH_take (i:=7) (v:=?_) rfl k_ k_ k_ (λ_ _ _ h=>h) (d6 ⟨r_,?_⟩) a ?_;rotate_left;(rintro w ⟨t,u,r,p,y⟩;go_simp<;>with_reducible rfl))
 (refine wpAnyH_take (i:=9) (v:=?_) rfl k_ k_ k_ (λ_ _ _ h=>h) (d6 ⟨r_,?_⟩) a ?_;rotate_left;(rintro w ⟨t,u,r,p,y⟩;go_simp<;>with_reducible rfl))
 (refine wpAnyH_take (i:=10) (v:=?_) rfl k_ k_ k_ (λ_ _ _ h=>h) (d6 ⟨r_,?_⟩) a ?_;rotate_left;(rintro w ⟨t,u,r,p,y⟩;go_simp<;>with_reducible rfl))
 refine wpAnyH_ready (rs:=[3]) k_ s_ ?_
 refine AllReadyH.cons rfl (λK k=>?_) AllReadyH.nil
 go_simp;go_at_call 56
 refine(HS.out _ HH.out).mono ?_;rintro e w3 ⟨x1,Z,Y,rfl,h3⟩;obtain⟨N,Q⟩:=z.out _ _ _ _ h3;have G:=aB Q;have V:=ND N;clear h3 N Q HS HV z HH;go_wp2_with fail;refine k.out _ _ V (λa=>?_)
 clear k K V;refine wpAnyH_ready (rs:=[5]) k_ s_ ?_
 refine AllReadyH.cons rfl (λK k=>?_) AllReadyH.nil
 go_simp;go_at_call 57
 refine G.out.mono ?_;rintro e w4 ⟨l,o,g,rfl,h4⟩;obtain⟨X,L⟩:=HC.out _ _ _ _ _ _ _ h4;have J:=aB L;have I:=ND X;clear h4 X L HC G;go_wp2_with fail;refine k.out _ _ I (λa=>?_)
 clear k K I;refine wpAnyH_ready (rs:=[8]) k_ s_ ?_
 refine AllReadyH.cons rfl (λK k=>?_) AllReadyH.nil
 go_simp;go_at_call 58
 refine J.out.mono ?_;rintro e w5 ⟨B,C,A,rfl,h5⟩;obtain⟨U,⟨c,H,ab⟩,T⟩:=HP.out _ _ h5;have d:=ND U;have E:=aB T;have b:=aB H;clear h5 U T HP J;go_wp2_with fail;refine k.out _ _ d (λa=>?_)
 clear k K;(refine wpAnyH_take (i:=11) (v:=?_) rfl k_ k_ k_ (λ_ _ _ h=>h) (d6 ⟨r_,?_⟩) a ?_;rotate_left;(rintro w ⟨t,u,r,p,y⟩;go_simp<;>with_reducible rfl))
 refine wpAnyH_ready (rs:=[12]) k_ s_ ?_
 refine AllReadyH.cons rfl (λK k=>?_) AllReadyH.nil
 have g0:=aA (i:=0) b.out (ex o_)
 have g1:=aA (i:=1) b.out (ex o_)
 have g2:=aA (i:=2) b.out (ex o_)
 have g3:=aA (i:=3) b.out (ex o_)
 have g4:=aA (i:=4) b.out (ex o_)
 have f0:=aE (i:=0) b.out;have f1:=aE (i:=1) b.out;have f2:=aE (i:=2) b.out;have f3:=aE (i:=3) b.out;have f4:=aE (i:=4) b.out;have l5:=aD b.out;have hs:=oU (W:=w5) (s:=⟨s.t,x1,l,B,Z,o,C,Y,g,A,s.q⟩) b.out o_ rfl
 have O:∀i,(fA w5 (w.heap.size+1) ⟨s.t,x1,l,B,Z,o,C,Y,g,A,s.q⟩).cell? ⟨w.heap.size,i,none⟩=w5.cell? ⟨w.heap.size,i,none⟩:=λi=>World.cell?_of_block (dZ _ _ _ _ (show w.heap.size≠w.heap.size+1 by omega))
 have D:=aB hs;have f:=aB O;clear H hs O;unfold fA at D E f;go_simp;refine k.out _ _ ⟨(f.out 0).trans d.1,(f.out 1).trans d.2.1,(f.out 2).trans d.2.2.1,(f.out 3).trans d.2.2.2.1,(f.out 4).trans d.2.2.2.2⟩ (λa=>?_)
 refine wpAnyH_done k_ ?_ _
 have q:=D.out;have j:=E.out;clear D E b f g0 g1 g2 g3 g4 f0 f1 f2 f3 f4 a k d;generalize ((((w5.setCell ⟨w.heap.size+1,0,none⟩ (.int .i64 s.t)).setCell ⟨w.heap.size+1,1,none⟩ (.slice x1 Z Y)).setCell ⟨w.heap.size+1,2,none⟩ (.slice l o g)).setCell ⟨w.heap.size+1,3,none⟩ (.slice B C A)).setCell ⟨w.heap.size+1,4,none⟩ (.int .i64 s.q)=W6 at q j ⊢
 obtain⟨r0,r1,r2,r3,r4⟩:=q;have aa:=aB j;clear j;go_wp2_with fail;exact bodyPost_ret (v:=.agg #[.int .i64 s.t,.slice x1 Z Y,.slice l o g,.slice B C A,.int .i64 s.q]) (by simp[results,results29,go_sem,r0,r1,r2,r3,r4]) rfl ⟨_,rfl,aa.out⟩
def SA:∀(n:Nat) (l:List UInt8),l.length<=n->∀c∈dW l,c.length<=l.length:=by
 intro n;induction n with
 |zero=>
  intro l f c a;rw[dR (d6 (io.1 o_))] at a
  cases a
 |succ n e=>
  intro l f c a;by_cases d:l=[]
  ·rw[dR (d6 d)] at a;cases a
  by_cases b:bC l=0
  ·rw[dR (d5 b)] at a;cases a
  rw[iI d b] at a;rcases en.1 a with rfl|a
  ·rw[gs];omega
  ·have:=e _ (by rw[gj];omega) c a
   rw[gj] at this;omega
def QK(a b:aJ)(h:aK a<=200):aK (dB a b).1<=200:=by
 unfold dB;split
 ·exact jJ
 split
 ·exact jJ
 have e:∀x∈jL a,aK x<=200:=λx d=>by
  unfold jL at d;rw[eV] at h;split at d
  ·obtain⟨c,g,rfl⟩:=ia.1 d;have:=SA _ _ (d7 _) c g;rw[kT];omega
  ·have:=lS d;omega
 show aK ((jL a).getD b.n.toNat bL)<=200
 rw[List.getD_eq_getElem?_getD];cases f:(jL a)[b.n.toNat]? with
 |none=>exact jJ
 |some x=>exact e x (g9 f)
def LV(a:aJ):aK (eD a).1<=200:=by
 unfold eD;repeat' split
 all_goals first|(show aK (aW _)<=200;rw[kH];omega)|exact jJ
section
variable {fp:Nat->Value} {F:Nat->Prop} {b_:Nat} {w:World} {sb gf cap:Nat} {t0 tv u_ s0:Value} {v_:List FVal} {w_:List aI} {f:aI} {tape:List Int} {out:List (List UInt8)}
def O8(h:cT fp F b_ w sb gf cap t0 tv u_ s0 v_ ⟨w_++[f],tape,out⟩)(A:w_.length<=15)(j:b_<=w.heap.size)(n:f.ops.length<=99000)(I:∃H a b,f.ops=H++[a,b]/\bN a):
 Calls prog 290 #[.agg #[],.pointer (some ⟨sb,0,none⟩)] w (oC fp F b_ sb t0 s0 (aF sb gf u_ v_) w w_ tape out (aO .index f)):=by
 obtain⟨H,a,b,m,K⟩:=I;have m:f.ops=(H++[a])++[b]:=by rw[m];simp
 have O:=h.mid j (.cells #[] 315);have i:f.pop.ops=H++[a]:=mG m;have x:=n;rw[m,ei,ei] at x;have N:f.pop.ops.length<=100000:=by rw[i,ei];omega
 have L:f.pop.pop.ops.length<=100000:=by rw[mG i];omega
 have Q:aO .index f=if (dB a b).2=0 then (f.pop.pop.push (dB a b).1,0) else (f.pop.pop,(dB a b).2):=by simp[aO,jA m,jA i]
 have C:aK a<=200->aK (dB a b).1<=200:=QK a b;have q:∀(W:World) (u v:Value),PV F W u a->PV F W v b->(∀k,F k->k<W.heap.size)->aK a<=200->aK b<=200->Calls prog 291 #[u,v] W (eO F W (dB a b)):=λW u v c d l p s=>W9 F u v a b W c d K o_ l
 generalize dB a b=r at q Q C;rw[Q]
 refine(MA w _ sb gf (w_.length*6) r.2 (λg=>r.2=0/\Done fp F b_ sb t0 s0 (aF sb gf u_ v_) w ⟨w_++[f.pop.pop.push r.1],tape,out⟩ g) (λg=>r.2≠0/\Done fp F b_ sb t0 s0 (aF sb gf u_ v_) w ⟨w_++[f.pop.pop],tape,out⟩ g)
  (λt z W=>PV F W (.iface t z) b/\aK b<=200/\Mid fp b_ sb gf w_.length t0 s0 (aF sb gf u_ v_) (w.alloc (.cells #[] 315)) F ⟨w_++[f.pop],tape,out⟩ W)
  (λt z D E W=>PV F W (.iface t z) b/\aK b<=200/\PV F W (.iface D E) a/\aK a<=200/\Mid fp b_ sb gf w_.length t0 s0 (aF sb gf u_ v_) (w.alloc (.cells #[] 315)) F ⟨w_++[f.pop.pop],tape,out⟩ W)
  (λt z W=>(r.2=0/\aK r.1<=200)/\∃G,Ext F G w.heap.size/\PV G W (.iface t z) r.1/\Mid fp b_ sb gf w_.length t0 s0 (aF sb gf u_ v_) (w.alloc (.cells #[] 315)) G ⟨w_++[f.pop.pop],tape,out⟩ W) rfl (O.topS A) (λW hS=>?_) (λW t z o=>?_) (λW t z D E o=>?_) (λW t z o=>?_)).mono ?_
 ·refine((O.same hS).pop m o_).mono ?_
  rintro e g ⟨t,z,B,c,d,l⟩;exact⟨t,z,B,c,d,l⟩
 ·obtain⟨c,d,l⟩:=o;refine(l.popK i N).mono ?_;rintro e g ⟨D,E,B,T,Z,U,k4⟩;exact⟨D,E,B,c.keep k4,d,T,Z,U⟩
 ·obtain⟨c,d,l,p,s⟩:=o;refine(q W _ _ l c (λk J=>(s.apart k J).1) p d).mono ?_
  rintro e g ⟨P,⟨y,u,rfl,S⟩|⟨y,rfl⟩⟩
  ·obtain⟨X,V,rfl⟩:=S.form;exact d6 ⟨X,V,rfl,⟨y,C p⟩,Grow F W g,⟨λ_=>d6,λk J=>J.imp_right λc=>em (em s_ s.1.size) c.1⟩,S,s.grow P (λ_=>d6) λ_ h=>h⟩
  ·exact d5 ⟨rfl,y,(s.grow P (λ_ h=>h) λ_=>d6).done (Ext.refl _ _)⟩
 ·obtain⟨⟨y,M⟩,G,Y,c,d⟩:=o;refine(d.push c M L).mono ?_;rintro e g ⟨B,p⟩;exact⟨B,y,p.done Y⟩
 ·rintro e g (⟨rfl,c,d⟩|⟨rfl,c,d⟩)
  ·exact oC.ok (if_pos c) d
  ·exact oC.stop (if_neg c) c d
def B9(h:cT fp F b_ w sb gf cap t0 tv u_ s0 v_ ⟨w_++[f],tape,out⟩)(m:w_.length<=15)(g:b_<=w.heap.size)(i:f.ops.length<=99000)(p:∃B a,f.ops=B++[a]/\bN a):
 Calls prog 316 #[.agg #[],.pointer (some ⟨sb,0,none⟩)] w (oC fp F b_ sb t0 s0 (aF sb gf u_ v_) w w_ tape out (aO .length f)):=by
 obtain⟨B,a,o,q⟩:=p;have y:=h.mid g (.cells #[] 354);have K:f.pop.ops.length<=100000:=by rw[mG o];rw[o,ei] at i;omega
 have D:aO .length f=if (eD a).2=0 then (f.pop.push (eD a).1,0) else (f.pop,(eD a).2):=by simp[aO,jA o]
 have n:=LV a;have j:∀(W:World) (u:Value),PV F W u a->aK a<=200->Calls prog 317 #[u] W (eO F W (eD a)):=λW u b C=>L5 F u a W b q o_
 generalize eD a=r at j D n;rw[D]
 refine(GF w _ sb gf (w_.length*6) r.2 (λd=>r.2=0/\Done fp F b_ sb t0 s0 (aF sb gf u_ v_) w ⟨w_++[f.pop.push r.1],tape,out⟩ d) (λd=>r.2≠0/\Done fp F b_ sb t0 s0 (aF sb gf u_ v_) w ⟨w_++[f.pop],tape,out⟩ d)
  (λt z W=>PV F W (.iface t z) a/\aK a<=200/\Mid fp b_ sb gf w_.length t0 s0 (aF sb gf u_ v_) (w.alloc (.cells #[] 354)) F ⟨w_++[f.pop],tape,out⟩ W)
  (λt z W=>r.2=0/\∃G,Ext F G w.heap.size/\PV G W (.iface t z) r.1/\Mid fp b_ sb gf w_.length t0 s0 (aF sb gf u_ v_) (w.alloc (.cells #[] 354)) G ⟨w_++[f.pop],tape,out⟩ W) rfl (y.topS m) (λW N=>?_) (λW t z s=>?_) (λW t z s=>?_)).mono ?_
 ·refine((y.same N).pop o o_).mono ?_
  rintro e d ⟨t,z,x,b,c,L⟩;exact⟨t,z,x,b,c,L⟩
 ·obtain⟨b,c,v⟩:=s;refine(j W _ b c).mono ?_;rintro e d ⟨A,⟨l,u,rfl,E⟩|⟨l,rfl⟩⟩
  ·obtain⟨J,I,rfl⟩:=E.form;exact d6 ⟨J,I,rfl,l,Grow F W d,⟨λ_=>d6,λk H=>H.imp_right λb=>em (em s_ v.1.size) b.1⟩,E,v.grow A (λ_=>d6) λ_ h=>h⟩
  ·exact d5 ⟨rfl,l,(v.grow A (λ_ h=>h) λ_=>d6).done (Ext.refl _ _)⟩
 ·obtain⟨l,G,M,b,c⟩:=s;refine(c.push b n K).mono ?_;rintro e d ⟨x,C⟩;exact⟨x,l,C.done M⟩
 ·rintro e d (⟨rfl,b,c⟩|⟨rfl,b,c⟩)
  ·exact oC.ok (if_pos b) c
  ·exact oC.stop (if_neg b) b c
end
def Disp(t:TypeId)(f:Nat):Prop:=(∀recv w,(Go.method 524 t recv "hindsight/machine.do").run prog w=.ok (f,recv) w)/\∀a b w,(callFunc f #[a,b]).run prog w=.ok (.enter f #[a,b]) w
def fE(t:TypeId):Prop:=∀v w,(typeAssert (.iface t v) 247 251 true).run prog w=.ok (.tuple #[.agg #[.int .i64 0,.pointer none],.bool false]) w
def O3(v:Value)(w:World):(typeAssert (.iface 251 v) 247 251 true).run prog w=.ok (.tuple #[v,.bool true]) w:=k_
def WF:Disp 251 283:=⟨λ_ _=>by kernel_rfl,λ_ _ _=>by kernel_rfl⟩
def E0:Disp 242 280:=⟨λ_ _=>by kernel_rfl,λ_ _ _=>by kernel_rfl⟩
def E1:Disp 312 284:=⟨λ_ _=>by kernel_rfl,λ_ _ _=>by kernel_rfl⟩
def MS:Disp 342 297:=⟨λ_ _=>by kernel_rfl,λ_ _ _=>by kernel_rfl⟩
def RO:Disp 344 298:=⟨λ_ _=>by kernel_rfl,λ_ _ _=>by kernel_rfl⟩
def E4:Disp 367 322:=⟨λ_ _=>by kernel_rfl,λ_ _ _=>by kernel_rfl⟩
def RL:Disp 366 321:=⟨λ_ _=>by kernel_rfl,λ_ _ _=>by kernel_rfl⟩
def GQ:Disp 353 315:=⟨λ_ _=>by kernel_rfl,λ_ _ _=>by kernel_rfl⟩
def WD:Disp 351 314:=⟨λ_ _=>by kernel_rfl,λ_ _ _=>by kernel_rfl⟩
def WC:Disp 317 293:=⟨λ_ _=>by kernel_rfl,λ_ _ _=>by kernel_rfl⟩
def RN:Disp 350 305:=⟨λ_ _=>by kernel_rfl,λ_ _ _=>by kernel_rfl⟩
def WE:Disp 315 290:=⟨λ_ _=>by kernel_rfl,λ_ _ _=>by kernel_rfl⟩
def E3:Disp 314 285:=⟨λ_ _=>by kernel_rfl,λ_ _ _=>by kernel_rfl⟩
def RM:Disp 354 316:=⟨λ_ _=>by kernel_rfl,λ_ _ _=>by kernel_rfl⟩
def D9:Disp 355 319:=⟨λ_ _=>by kernel_rfl,λ_ _ _=>by kernel_rfl⟩
def E7:Disp 357 320:=⟨λ_ _=>by kernel_rfl,λ_ _ _=>by kernel_rfl⟩
def E5:Disp 244 282:=⟨λ_ _=>by kernel_rfl,λ_ _ _=>by kernel_rfl⟩
def E6:Disp 348 304:=⟨λ_ _=>by kernel_rfl,λ_ _ _=>by kernel_rfl⟩
def GR:Disp 347 302:=⟨λ_ _=>by kernel_rfl,λ_ _ _=>by kernel_rfl⟩
def X4:fE 242:=λ_ _=>by kernel_rfl
def X5:fE 312:=λ_ _=>by kernel_rfl
def US:fE 342:=λ_ _=>by kernel_rfl
def A7:fE 344:=λ_ _=>by kernel_rfl
def X7:fE 367:=λ_ _=>by kernel_rfl
def A4:fE 366:=λ_ _=>by kernel_rfl
def PW:fE 353:=λ_ _=>by kernel_rfl
def N5:fE 351:=λ_ _=>by kernel_rfl
def N4:fE 317:=λ_ _=>by kernel_rfl
def A6:fE 350:=λ_ _=>by kernel_rfl
def N6:fE 315:=λ_ _=>by kernel_rfl
def X6:fE 314:=λ_ _=>by kernel_rfl
def A5:fE 354:=λ_ _=>by kernel_rfl
def X3:fE 355:=λ_ _=>by kernel_rfl
def Y0:fE 357:=λ_ _=>by kernel_rfl
def X8:fE 244:=λ_ _=>by kernel_rfl
def X9:fE 348:=λ_ _=>by kernel_rfl
def PX:fE 347:=λ_ _=>by kernel_rfl
def l9(t:TypeId)(z:Value)(b:Bool):Prop:=(t=251/\(∃l p,z=.agg #[.int .i64 l,.pointer p])/\b=true)\/(fE t/\b=false)
def J1(w:World)(sb:Nat)(L:Nat->World->Prop)(P:World->Prop)(S:Nat->World->Prop)(M:Nat->Nat->Nat->World->Prop)(N:Nat->TypeId->Value->Nat->Bool->World->Prop)(J:Nat)(m:L J w)
 (HL:Hid (∀k W,L k W->∃x n c,W.cell? ⟨sb,1,none⟩=some (.slice x n c)/\sb<W.heap.size/\n<=16/\(n=0->S 1 W)/\(n≠0->∃j,k=j+1/\∃f g,M j f g W)))
 (V:Hid (∀j f g W,M j f g W->Calls prog 95 #[.pointer (some ⟨sb,0,none⟩)] W λe d=>e=.returned (.pointer (some ⟨f,g,none⟩))/\M j f g d))
 (Y:Hid (∀j f g W,M j f g W->Calls prog 152 #[.pointer (some ⟨f,g,none⟩)] W λe d=>∃t z a b,e=.returned (.iface t z)/\Disp t a/\l9 t z b/\N j t z a b d))
 (Z:Hid (∀j t z a b W,N j t z a b W->Calls prog a #[z,.pointer (some ⟨sb,0,none⟩)] W λe d=>(e=.returned (.tuple #[])/\(b=true->∀B,P (d.alloc B))/\(b=false->∀B,L j (d.alloc B)))\/(∃q,e=fL q/\S q d))):
 Calls prog 105 #[.pointer (some ⟨sb,0,none⟩)] w λe d=>(e=.returned (.tuple #[])/\P d)\/(∃q,e=fL q/\S q d):=by
 have U:=aB m;clear m;go_enter func105,ntmps105;go_wp2_with fail;go_loopg [2,3,4] J (λgk _ _ _ wr=>L gk wr)
 case atStart=>exact U.out
 case round=>
  obtain⟨x,n,c,c1,hl,hn,C,E⟩:=HL.out _ _ hrel;by_cases m:n=0
  ·subst m;have HZ:=aB (C rfl);clear hrel C E;go_wp2_with fail;exact⟨rfl,d5 ⟨1,rfl,HZ.out⟩⟩
  ·obtain⟨j,rfl,f,g,Q⟩:=E m;have D:=aB (V.out _ _ _ _ Q);have O:(0:Int)<(n:Int):=o_
   clear hrel C E Q;go_wp2_with fail;refine D.out.mono ?_;rintro e w1 ⟨rfl,K⟩;have F:=aB (Y.out _ _ _ _ K);clear K;go_wp2_with fail;refine F.out.mono ?_;rintro e T ⟨t,z,a,b,rfl,u,X,H⟩;have G:=aB (Z.out _ _ _ _ _ _ H);have o:=u.1 z T;have i:=u.2 z (.pointer (some ⟨sb,0,none⟩)) T;clear H u;go_wp2_with fail;refine G.out.mono ?_;rintro e I (⟨rfl,r,v⟩|⟨q,rfl,r⟩)
   ·rcases X with ⟨rfl,⟨l,p,rfl⟩,rfl⟩|⟨s,rfl⟩
    ·have y:=O3 (.agg #[.int .i64 l,.pointer p]) I;have A:=aB (r rfl);clear r v o i;go_wp2_with fail;exact⟨rfl,_,results_none r_ _ _ _,d6 ⟨rfl,A.out _⟩⟩
    ·have y:=s z I;have A:=aB (v rfl);clear r v o i s;go_wp2_with fail;go_roundg j
     case measure=>omega
     case rel=>exact A.out _
   ·go_wp2_with fail;exact⟨rfl,d5 ⟨q,rfl,r⟩⟩
def nW{d:Type}{l:List d}(h:1<=l.length):∃c a,l=c++[a]:=by
 rcases ja l with e|⟨b,x,e⟩
 ·subst e;simp at h
 ·exact⟨b,x,by rw[e,jb]⟩
def LB{c:Type}{l:List c}(h:n<=l.length):∃b a,l=b++a/\a.length=n:=
 ⟨l.take (l.length-n),l.drop (l.length-n),(gt _ _).symm,t_⟩
def K4{f:Type}{l:List f}(h:2<=l.length):∃c a b,l=c++[a,b]:=by
 obtain⟨c,d,e,g⟩:=LB h;match d,g with
 |[a,b],_=>exact⟨c,a,b,e⟩
section
variable {fp:Nat->Value} {F:Nat->Prop} {b_:Nat} {w:World} {sb gf cap:Nat} {t0 tv u_ s0:Value} {v_:List FVal} {w_:List aI} {f0 f:aI} {tape:List Int} {out:List (List UInt8)}
def o7{ar:Nat->Option Nat}{y:List dQ}{i:aH}{v:Value}(ht:kA ar y)(Q:fI ar ⟨w_++[f0],tape,out⟩)(A:f0.fetch=some (i,f))(hU:fS ⟨w_++[f0],tape,out⟩)
 (h:cT fp F b_ w sb gf cap t0 tv u_ s0 v_ ⟨w_++[f],tape,out⟩) (hT:lE fp F w y) (hp:AL (aF sb gf u_ v_) w) (c:b_<=w.heap.size) (O:out.length<=50) (P:tape.length<=17592186044416) (r:lI fp F w v i):
 ∃t z E b,v=.iface t z/\Disp t E/\l9 t z b/\b=i.isBegin/\Calls prog E #[z,.pointer (some ⟨sb,0,none⟩)] w (s6 fp F b_ sb t0 s0 (aF sb gf u_ v_) w (bY y i w_ f tape out)):=by
 have D:∀x∈w_,cJ ar x 1:=by have:=Q.ok.low;simpa only[fY] using this
 have M:cJ ar f0 0:=Q.ok.top f0 (fC _ _);have d:w_.length<=15:=by have:=Q.ok.deep;simp at this;omega
 have C:dK f0:=hU f0 s_
 obtain⟨⟨T,Z,hh,hv,he⟩,aa,hs,hm⟩:=M
 obtain⟨rfl,X⟩:f={ f0 with next:=f0.next+1 }/\f0.fn.code[f0.next]?=some i:=by
  unfold aI.fetch at A;cases Y:f0.fn.code[f0.next]? with
  |none=>rw[Y] at A;cases A
  |some j=>rw[Y] at A;simp at A;exact⟨A.2.symm,by rw[A.1]⟩
 obtain⟨S,ab,o⟩:=Z.ins _ _ X;clear S;have ac:=Z.len;have m:f0.ops.length<=99000:=o_
 have V:∀g∈w_,g.ops.length<=99000:=λg hg=>by
  obtain⟨⟨T',H,ad,_⟩,U,_⟩:=D g hg;have h1:=(H.ins _ _ (fg U)).2.1;have h2:=H.len;omega
 have L:i∈f0.fn.code:=g9 X;cases i
 case begin l s=>
  obtain⟨sp,rfl,J⟩:=r;obtain⟨p,rfl⟩:=J.form;exact⟨_,_,_,true,rfl,WF,d6 ⟨rfl,⟨_,_,rfl⟩,rfl⟩,rfl,R3 l _ s h d c J⟩
 case push a=>
  obtain⟨u,rfl,hu,N⟩:=r;refine⟨_,_,_,false,rfl,E0,d5 ⟨X4,rfl⟩,rfl,(UB fp F b_ w sb gf cap t0 tv u_ s0 v_ w_ _ tape out u a h hu N (by show f0.ops.length<=100000;omega) d c).mono ?_⟩
  rintro e w' ⟨rfl,hd⟩;exact⟨d6 ⟨rfl,rfl⟩,hd⟩
 case load k=>
  obtain rfl:=r;exact⟨_,_,_,false,rfl,E1,d5 ⟨X5,rfl⟩,rfl,Y1 k h d c m (by have:=o.1;show k<f0.g_.length;omega)⟩
 case declare k=>
  obtain rfl:=r;exact⟨_,_,_,false,rfl,MS,d5 ⟨US,rfl⟩,rfl,WG k h d c m (nW (by have:=o.1;show 1<=f0.ops.length;omega)) (by have:=o.2.1;show k<=f0.g_.length;omega) hm⟩
 case assign k n=>
  obtain rfl:=r;obtain⟨B,I,K,e2⟩:=LB (l:=f0.ops) (n:=n+1) (by have:=o.1;omega)
  obtain⟨G,b,rfl⟩:=nW (l:=I) o_
  have e3:G.length=n:=by simpa using e2
  subst e3;exact⟨_,_,_,false,rfl,RO,d5 ⟨A7,rfl⟩,rfl,G6 k B G b h d c m (by show f0.ops=_;rw[K];simp) (by have:=o.2.1;show k<f0.g_.length;omega)⟩
 case jump q=>
  obtain rfl:=r;exact⟨_,_,_,false,rfl,E4,d5 ⟨X7,rfl⟩,rfl,Y4 q h d c⟩
 case skip q=>
  obtain rfl:=r;exact⟨_,_,_,false,rfl,RL,d5 ⟨A4,rfl⟩,rfl,YB q h d c m (nW (by have:=o.1;show 1<=f0.ops.length;omega))⟩
 case shortcut wh q=>
  obtain rfl:=r;exact⟨_,_,_,false,rfl,GQ,d5 ⟨PW,rfl⟩,rfl,OS wh q h d c m (nW (by have:=o.1;show 1<=f0.ops.length;omega))⟩
 case truth=>
  obtain rfl:=r;exact⟨_,_,_,false,rfl,WD,d5 ⟨N5,rfl⟩,rfl,I7 h d c m (nW (by have:=o.1;show 1<=f0.ops.length;omega))⟩
 case unary op=>
  obtain rfl:=r;exact⟨_,_,_,false,rfl,WC,d5 ⟨N4,rfl⟩,rfl,I3 op (C.fn.2 op L) h d c m (nW (by have:=o.1;show 1<=f0.ops.length;omega))⟩
 case binary op=>
  obtain rfl:=r;exact⟨_,_,_,false,rfl,RN,d5 ⟨A6,rfl⟩,rfl,G5 op h d c m (K4 (by have:=o.1;show 2<=f0.ops.length;omega))⟩
 case index=>
  obtain rfl:=r;obtain⟨B,a,b,e⟩:=K4 (l:=f0.ops) (by have:=o.1;omega)
  exact⟨_,_,_,false,rfl,WE,d5 ⟨N6,rfl⟩,rfl,O8 h d c m ⟨B,a,b,e,C.ops a (by rw[e];simp)⟩⟩
 case list n=>
  obtain rfl:=r;obtain⟨B,I,K,rfl⟩:=LB (l:=f0.ops) (n:=n) (by have:=o.1;omega)
  exact⟨_,_,_,false,rfl,E3,d5 ⟨X6,rfl⟩,rfl,Y2 B I h d c m K⟩
 case length=>
  obtain rfl:=r;obtain⟨B,a,e⟩:=nW (l:=f0.ops) (by have:=o.1;omega)
  exact⟨_,_,_,false,rfl,RM,d5 ⟨A5,rfl⟩,rfl,B9 h d c m ⟨B,a,e,C.ops a (by rw[e];simp)⟩⟩
 case read=>
  obtain rfl:=r;exact⟨_,_,_,false,rfl,D9,d5 ⟨X3,rfl⟩,rfl,V9 y h d c m P⟩
 case call k n=>
  obtain rfl:=r;obtain⟨B,I,K,rfl⟩:=LB (l:=f0.ops) (n:=n) (by have:=o.1;omega)
  obtain⟨fn,_,W,_⟩:=ht.fn k _ o.2.1;exact⟨_,_,_,false,rfl,E7,d5 ⟨Y0,rfl⟩,rfl,e8 y k fn B I h d c m K hT W⟩
 case give=>
  obtain rfl:=r;exact⟨_,_,_,false,rfl,E5,d5 ⟨X8,rfl⟩,rfl,Z1 y h d c m (nW (by have:=o;show 1<=f0.ops.length;omega)) V⟩
 case drop=>
  obtain rfl:=r;exact⟨_,_,_,false,rfl,E6,d5 ⟨X9,rfl⟩,rfl,Z7 h d c m (nW (by have:=o.1;show 1<=f0.ops.length;omega))⟩
 case print=>
  obtain rfl:=r;obtain⟨B,a,e⟩:=nW (l:=f0.ops) (by have:=o.1;omega)
  exact⟨_,_,_,false,rfl,GR,d5 ⟨PX,rfl⟩,rfl,L4 y h hp d c m e O⟩
end
def J2{j:Nat}{e:aI}{r:bX × Nat}(h:dV b (j+1) ⟨a++[e],t,o⟩=some r)(g:e.fetch=some (i,f)):
 ((bY b i a f t o).2≠0->r=bY b i a f t o)/\((bY b i a f t o).2=0->i.isBegin=true->r=bY b i a f t o)/\((bY b i a f t o).2=0->i.isBegin=false->dV b j (bY b i a f t o).1=some r):=by
 rw[dV] at h;simp only[fC,g,fY] at h;refine⟨λc=>?_,λc d=>?_,λc d=>?_⟩
 ·rw[if_pos c] at h;cases h;rfl
 ·rw[if_neg (by rw[c];simp),if_pos d] at h;cases h;rfl
 ·rw[if_neg (by rw[c];simp),d] at h;exact h
def XQ(c:o.length<=50):(bY b i a f t o).1.out.length<=50:=by
 cases i<;>simp only[bY]<;>(repeat' split)<;>first|exact c|(simp;omega)
def RK:(bY b i a f t o).1.tape.length<=t.length:=by
 cases i<;>simp only[bY]<;>(repeat' split)<;>first|exact d7 _|simp
section
variable {fp:Nat->Value} {F:Nat->Prop} {b_:Nat} {w:World} {sb gf cap:Nat} {t0 tv u_ s0:Value} {v_:List FVal} {w_:List aI} {f0 f:aI} {tape:List Int} {out:List (List UInt8)}
def cT.fetched{i:aH}(h:cT fp F b_ w sb gf cap t0 tv u_ s0 v_ ⟨w_++[f0],tape,out⟩)(d:f0.fetch=some (i,f))(K:f0.fn.code.length<=1000000):
 Calls prog 152 #[.pointer (some ⟨gf,w_.length*6,none⟩)] w λe n=>∃v c,e=.returned v/\lI fp F n v i/\cT fp F b_ n sb gf cap t0 tv u_ s0 c ⟨w_++[f],tape,out⟩/\Kept (aF sb gf u_ v_) w n/\aF sb gf u_ c=aF sb gf u_ v_:=by
 obtain⟨M,v,r,rfl,s,t,E,g,C,B,A,Y,V,k4,W⟩:=h.top;rw[<-s]
 obtain⟨N,rfl⟩:f0.fn.code[f0.next]?=some i/\f={ f0 with next:=f0.next+1 }:=by
  unfold aI.fetch at d;cases D:f0.fn.code[f0.next]? with
  |none=>rw[D] at d;cases d
  |some j=>rw[D] at d;simp at d;exact⟨by rw[d.1],d.2.symm⟩
 obtain⟨l,y⟩:=gr.1 N;obtain⟨o,L,T,S,O,X,P,Z,G,I⟩:=t.fn;obtain⟨u,u1,u2⟩:=I f0.next l
 rw[y] at u2;rw[O] at B;rw[t.nx] at A;refine(D0 gf (M.length*6) o L f0.fn.code.length T f0.next r _ u w g B A P (aA G u1) u2.form l K).mono ?_
 rintro e n ⟨Q,q,rfl⟩;have m:=aZ.drewN w q;have z:=h.grow m.below (λ_ h=>h) (λ_ h=>d6 h)
 have a:NL fp F b_ (w.drewN q) v f0:=t.keep (λb _=>by rw[m.heap]) (λ_ h=>h) λk _=>by rw[m.heap]
 have p:NL fp F b_ (w.drewN q) { v with nx:=.int .i64 ((f0.next+1:Nat):Int) } { f0 with next:=f0.next+1 }:=⟨a.fn,rfl,a.ln,a.sp,a.g_,a.ops⟩
 obtain⟨J,U⟩:=z.setTop (j:=1) (x:=.int .i64 ((f0.next+1:Nat):Int)) (v':={ v with nx:=.int .i64 ((f0.next+1:Nat):Int) }) o_ rfl rfl p
 refine⟨u,_,Q,u2.keep (λb H=>?_) (λ_ h=>h),J,(Kept.of_below m.below).trans U λ_ h=>d6 h,by simp[aF,aY,FVal.owns]⟩
 rw[ej _ _ _ _ λe=>(h.apart b H).2 (by simp[aF,e]),m.heap]
def y6(fp:Nat->Value)(F0:Nat->Prop)(b_ sb:Nat)(t0 s0:Value)(own0:List Nat)(w0:World)(ar:Nat->Option Nat)(tab:List dQ)(m:bX)(W:World):Prop:=
 ∃F gf cap tv u_ v_,Ext F0 F w0.heap.size/\cT fp F b_ W sb gf cap t0 tv u_ s0 v_ m/\lE fp F W tab/\Kept own0 w0 W/\(∀x∈aF sb gf u_ v_,x∈own0\/w0.heap.size<=x)/\fI ar m/\fS m/\m.out.length<=50/\m.tape.length<=17592186044416
def yV{ar:Nat->Option Nat}{g:List dQ}{m:bX}{k:Nat}{r:bX × Nat}(ht:kA ar g)(ak:jS g)(h:cT fp F b_ w sb gf cap t0 tv u_ s0 v_ m)(hT:lE fp F w g)(hp:AL (aF sb gf u_ v_) w)(aa:b_<=w.heap.size)
 (hA:fI ar m) (hU:fS m) (aj:m.out.length<=50) (al:m.tape.length<=17592186044416) (A:dV g k m=some r):
 Calls prog 105 #[.pointer (some ⟨sb,0,none⟩)] w (s6 fp F b_ sb t0 s0 (aF sb gf u_ v_) w r):=by
 generalize ae:aF sb gf u_ v_=d at hp
 refine(J1 w sb (λk W=>∃m,y6 fp F b_ sb t0 s0 d w ar g m W/\dV g k m=some r)
  (λW=>r.2=0/\Done fp F b_ sb t0 s0 d w r.1 W) (λq W=>q=r.2/\r.2≠0/\Done fp F b_ sb t0 s0 d w r.1 W)
  (λj fa fj W=>∃y gf cap tv u_ v_ a B c n,fa=gf/\fj=a.length*6/\(Ext F y w.heap.size/\cT fp y b_ W sb gf cap t0 tv u_ s0 v_ ⟨a++[B],c,n⟩/\lE fp y W g/\Kept d w W/\(∀x∈aF sb gf u_ v_,x∈d\/w.heap.size<=x))/\(fI ar ⟨a++[B],c,n⟩/\fS ⟨a++[B],c,n⟩/\n.length<=50/\c.length<=17592186044416)/\dV g (j+1) ⟨a++[B],c,n⟩=some r)
  (λj t z Q b W=>∃y gf cap tv u_ v_ a B f i c n,(Ext F y w.heap.size/\cT fp y b_ W sb gf cap t0 tv u_ s0 v_ ⟨a++[f],c,n⟩/\lE fp y W g/\Kept d w W/\(∀x∈aF sb gf u_ v_,x∈d\/w.heap.size<=x))/\(fI ar ⟨a++[B],c,n⟩/\fS ⟨a++[B],c,n⟩/\n.length<=50/\c.length<=17592186044416)/\dV g (j+1) ⟨a++[B],c,n⟩=some r/\B.fetch=some (i,f)/\b=i.isBegin/\
    Calls prog Q #[z,.pointer (some ⟨sb,0,none⟩)] W (s6 fp y b_ sb t0 s0 (aF sb gf u_ v_) W (bY g i a f c n)))
  k ⟨m,⟨F,gf,cap,tv,u_,v_,Ext.refl _ _,h,hT,Kept.refl _ _,λx s=>d6 (by rw[<-ae];exact s),hA,hU,aj,al⟩,A⟩ (λk W hL=>?_) (λj fa fj W hM=>?_) (λj fa fj W hM=>?_) (λj t z Q b W hN=>?_)).mono ?_
 ·obtain⟨m,⟨y,gf,cap,tv,u_,v_,P,C,g3,E,L,J,U,Z,Y⟩,A⟩:=hL;have hc:=C.count;have hd:=J.ok.deep;refine⟨_,_,_,aA C.blk rfl,aD C.blk,o_,λh0=>?_,λh0=>?_⟩
  ·have hm:m.f_=[]:=ge o_
   cases k with
   |zero=>rw[dV] at A;cases A
   |succ j=>
    rw[dV,hm] at A;simp only[List.getLast?_nil] at A;cases A;exact⟨rfl,Nat.one_ne_zero,E,y,gf,cap,tv,u_,v_,P,C,L⟩
  ·obtain⟨b,f,e⟩:=mZ (l:=m.f_) (λe=>h0 (by rw[hc,e];rfl))
   obtain⟨fr,t,o⟩:=m;simp only at e;subst e;cases k with
   |zero=>rw[dV] at A;cases A
   |succ j=>exact⟨j,rfl,gf,b.length*6,y,gf,cap,tv,u_,v_,b,f,t,o,rfl,rfl,⟨P,C,g3,E,L⟩,⟨J,U,Z,Y⟩,A⟩
 ·obtain⟨y,gf,cap,tv,u_,v_,b,f,t,o,rfl,rfl,⟨P,C,g3,E,L⟩,⟨J,U,Z,Y⟩,A⟩:=hM;have hc:=C.count;have hd:=J.ok.deep;have X:=C.blk;rw[hc,ei,il] at X;simp at hd;refine(KD sb fa b.length cap W (aA X rfl) o_).mono ?_
  rintro e H ⟨he,q,rfl⟩;have hS:=aZ.drewN W q;exact⟨he,y,fa,cap,tv,u_,v_,b,f,t,o,rfl,rfl,⟨P,C.grow hS.below (λ_ h=>h) (λ_ h=>d6 h),g3.keep (λb _=>by rw[hS.heap]) (λ_ h=>h),E.trans (Kept.of_below (own:=[]) hS.below) (λx s=>by simp at s),L⟩,⟨J,U,Z,Y⟩,A⟩
 ·obtain⟨y,gf,cap,tv,u_,v_,b,B,t,o,rfl,rfl,⟨P,C,g3,E,L⟩,⟨J,U,Z,Y⟩,A⟩:=hM;have N:cJ ar B 0:=J.ok.top B (fC _ _);have V:=yO N.next
  obtain⟨T,hc, -⟩:=N.code;have am:=hc.len;generalize B.fn.code[B.next]'N.next=i at V
  refine(C.fetched V o_).mono ?_
  rintro e H ⟨v,p,he,q1,q2,q3,q4⟩;have ac:lE fp y H g:=g3.keep (λx s=>q3.block x (C.apart x s).1 (C.apart x s).2) λ_ h=>h
  have D:Kept d w H:=E.trans q3 L;have ag:AL (aF sb fa u_ p) H:=hp.step D (λx s=>L x (by rw[<-q4];exact s))
  obtain⟨t',z,Q,bb,e1,e2,e3,e4,e5⟩:=o7 ht J V U q2 ac ag (em aa D.size) Z Y q1;exact⟨t',z,Q,bb,by rw[he,e1],e2,e3,y,fa,cap,tv,u_,p,b,B,_,i,t,o,⟨P,q2,ac,D,λx s=>L x (by rw[<-q4];exact s)⟩,⟨J,U,Z,Y⟩,A,V,e4,e5⟩
 ·obtain⟨y,gf,cap,tv,u_,v_,a,B,f,i,tp,o,⟨P,C,g3,E,L⟩,⟨J,U,Z,Y⟩,A,V,hb,hc⟩:=hN;obtain⟨s1,s2,s3⟩:=J2 A V;refine hc.mono ?_;rintro e H ⟨he,ad,G,S,K,ab,u,p,d1,d2,d3⟩;have D:Kept d w H:=E.trans ad L
  have M:∀x∈aF sb S u p,x∈d\/w.heap.size<=x:=λx s=>by
   rcases d3 x s with h1|h1
   ·exact L x h1
   ·exact d5 (em E.size h1)
  have af:lE fp G H g:=g3.keep (λx s=>ad.block x (C.apart x s).1 (C.apart x s).2) d1.sub
  have I:∀O,Below H.heap.size H (H.alloc O):=λO=>(eh _ H).alloc (d7 _) O
  rcases he with ⟨hz,rfl⟩|⟨hz,rfl⟩
  ·refine d6 ⟨rfl,λah O=>?_,λai O=>?_⟩
   ·have hr:=s2 hz (by rw[<-hb];exact ah)
    rw[hr];exact⟨hz,D.trans (Kept.of_below (own:=[]) (I O)) (λx s=>by simp at s),G,S,K,ab,u,p,P.trans d1 E.size,d2.grow (I O) (λ_ h=>h) (λ_ h=>d6 h),M⟩
   ·refine⟨_,⟨G,S,K,ab,u,p,P.trans d1 E.size,d2.grow (I O) (λ_ h=>h) (λ_ h=>d6 h),af.keep (λx s=>(I O).block x (d2.apart x s).1) (λ_ h=>h),D.trans (Kept.of_below (own:=[]) (I O)) (λx s=>by simp at s),M,(xJ ht J V).2.2 hz,EJ ak U V,XQ Z,em RK Y⟩,s3 hz (by rw[<-hb];exact ai)⟩
  ·refine d5 ⟨_,rfl,?_⟩;have hr:=s1 hz;rw[hr];exact⟨rfl,hz,D,G,S,K,ab,u,p,P.trans d1 E.size,d2,M⟩
 ·rintro e H (⟨rfl,h1,h2⟩|⟨q,rfl,rfl,h1,h2⟩)
  ·exact⟨d6 ⟨h1,rfl⟩,h2⟩
  ·exact⟨d5 ⟨h1,rfl⟩,h2⟩
end
def n9(v:Value)(w:World):(typeAssert (.iface 245 v) 20 245 true).run prog w=.ok (.tuple #[v,.bool true]) w:=k_
def XJ(b:Fn)(first a:Array Value)(w:World):(Instr.makeFunc b first a).run prog w=.ok (.func b first a) w:=rfl
def WN(p k:Nat)(a:List PanicEntry)(w:World)(b:w.heap[p]?=some (.cells #[.int .i64 0] 38 (0,0))):
 CallsD prog 151 #[.pointer (some ⟨p,0,none⟩)] (.panicking ({ v:=.iface 245 (.int .i64 k),recovered:=false }::a)) w λe j d=>
  e=.returned (.tuple #[])/\j=.panicking ({ v:=.iface 245 (.int .i64 k),recovered:=true }::a)/\d=w.setCell ⟨p,0,none⟩ (.int .i64 k):=by
 have n:w.cell? ⟨p,0,none⟩=some (.int .i64 0):=aA b rfl;have o:=aE (i:=0) b;have l:=aD b;have f:=n9;refine callsD_of_wpS func151 rfl λc m g=>?_
 apply wpS_seq
 apply wpS_region
 simp[wpOpsS,go_sem,recoverD,g,ntmps151,Exit.thenS];refine wpS_of_wp ?_;clear b;go_wp2_with fail;exact⟨rfl,_,rfl,.tuple #[],by simp[results,results151],rfl,rfl,rfl⟩
def WO(p:Addr)(w:World):
 CallsD prog 151 #[.pointer (some p)] .returning w λe d c=>e=.returned (.tuple #[])/\d=.returning/\c=w:=by
 refine callsD_of_wpS func151 rfl λa f b=>?_
 apply wpS_seq
 apply wpS_region
 simp[wpOpsS,go_sem,recoverD,b,ntmps151,Exit.thenS];refine wpS_of_wp ?_;go_wp2_with fail;exact⟨rfl,a.mode,rfl,.tuple #[],by simp[results,results151],rfl,b,rfl⟩
def TL(b:Nat)(p:Addr)(w:World)(R:Nat->World->Prop)(c:∀a W,(callFunc b #[a]).run prog W=.ok (.enter b #[a]) W)
 (j:Calls prog b #[.pointer (some p)] (w.alloc (.cells #[.int .i64 0] 38)) λe d=>∃k,s5 k e/\R k d/\d.heap[w.heap.size]?=some (.cells #[.int .i64 0] 38 (0,0))):
 Calls prog 104 #[.func (.func b) #[.pointer (some p)] #[]] w λe d=>∃(k:Nat) (w1:World),e=.returned (.int .i64 k)/\R k w1/\d=w1.setCell ⟨w.heap.size,0,none⟩ (.int .i64 k):=by
 have r:=XJ;have s:=c (.pointer (some p)) (w.alloc (.cells #[.int .i64 0] 38));have m:=aB j;clear j c;go_enter_defers func104,ntmps104
 go_wp2_with fail;refine m.out.mono ?_;rintro e w1 ⟨k,o,q,g⟩;have n:=aB q;have l:w1.cell? ⟨w.heap.size,0,none⟩=some (.int .i64 0):=aA g rfl;have v:=aE (i:=0) g;have x:=aD g;clear q m;rcases o with ⟨rfl,rfl⟩|⟨o,rfl⟩
 ·go_wp2_with fail;refine leaves_cons (f:=151) (args:= #[.pointer (some ⟨w.heap.size,0,none⟩)]) s_ (by simp[go_sem]) ?_
  refine(WO ⟨w.heap.size,0,none⟩ _).mono ?_;rintro e t u ⟨rfl,rfl,rfl⟩;simp[Leaves,settle,results,results104,go_sem,l];exact⟨0,rfl,w1,n.out,rfl⟩
 ·go_wp2_with fail;refine leaves_cons (f:=151) (args:= #[.pointer (some ⟨w.heap.size,0,none⟩)]) s_ (by simp[go_sem]) ?_
  refine(WN w.heap.size k [] _ g).mono ?_;rintro e t y ⟨rfl,rfl,rfl⟩;simp[Leaves,settle,results,results104,go_sem,l];exact⟨k,rfl,w1,n.out,rfl⟩
def O5:(prog.info? 3).map (λi=>(i.zero,i.size,i.bytes))=some (some (.int .i64 0),1,8):=k_
def tA(g i n c:Nat)(b:List Value)(w:World)(C:b.length=n*1)(H:n<=1000000)(s:∀j u,b[j]?=some u->w.cell? ⟨g,i+j,none⟩=some u)(y:∀u∈b,u.oneCell'=true):
 Calls prog 58 #[.slice (some ⟨g,i,none⟩) n c] w λe r=>∃v',e=.returned v'/\r.ownsRow w.heap.size 9 1 v' n b/\Below w.heap.size w r:=by
 obtain⟨A,D,o,p,q⟩:=info_parts DM;have z:=aB s;clear s;have x:∀(w:World) (a:Option Addr) (n c m l:Nat),(binOp .eql 37 (.slice a n c) (.slice none m l)).run prog w=.ok (.bool a.isNone) w:=λw a n c m l=>Lib.run_eql_slice_nil w _ _ a n c m l underlying37
 go_enter func58,ntmps58;go_wp2_with (at_builtin;refine wpList_append_own _ r_ _ _ 37 r_ w.heap.size 9 A _ 1 16 underlying37 D o p q rfl d_ (.slice (some ⟨w.heap.size,0,none⟩) 0 0) 0 [] r_ (World.ownsRow_made w #[] 0 (d7 _) (ft _) s_) ⟨g,i,none⟩ n c b r_ C (λj u E=>by rw[Addr.add_lit];exact iS _ (z.out j u E)) y (by unfold maxLen;omega) o_ s_ ?_)
 intro v' F d f _;have B:=aB d;have v:=aB f;obtain⟨G,l,rfl⟩:=cV d;clear d f;go_wp2_with fail;go_ret;refine⟨_,rfl,by simpa using B.out,?_⟩
 exact((eh _ w).alloc (d7 _) _).grown v.out s_ (by intro k t;simp[Value.ownBlock] at t;omega)
def sZ(w:World):
 Calls prog 58 #[.slice none 0 0] w λe f=>e=.returned (.slice none 0 0)/\f=w:=by
 have g:∀(w:World) (a:Option Addr) (n c b d:Nat),(binOp .eql 37 (.slice a n c) (.slice none b d)).run prog w=.ok (.bool a.isNone) w:=λw a n c b d=>Lib.run_eql_slice_nil w _ _ a n c b d underlying37
 go_enter func58,ntmps58;go_wp2_with fail;go_ret;exact⟨rfl,rfl⟩
def GX(g i n c:Nat)(b:List Value)(w:World)(C:b.length=n*1)(H:n<=17592186044416)(s:∀j u,b[j]?=some u->w.cell? ⟨g,i+j,none⟩=some u)(y:∀u∈b,u.oneCell'=true):
 Calls prog 67 #[.slice (some ⟨g,i,none⟩) n c] w λe r=>∃v',e=.returned v'/\r.ownsRow w.heap.size 3 1 v' n b/\Below w.heap.size w r:=by
 obtain⟨A,D,o,p,q⟩:=info_parts O5;have z:=aB s;clear s;have x:∀(w:World) (a:Option Addr) (n c m l:Nat),(binOp .eql 31 (.slice a n c) (.slice none m l)).run prog w=.ok (.bool a.isNone) w:=λw a n c m l=>Lib.run_eql_slice_nil w _ _ a n c m l underlying31
 go_enter func67,ntmps67;go_wp2_with (at_builtin;refine wpList_append_own _ r_ _ _ 31 r_ w.heap.size 3 A _ 1 8 underlying31 D o p q rfl d_ (.slice (some ⟨w.heap.size,0,none⟩) 0 0) 0 [] r_ (World.ownsRow_made w #[] 0 (d7 _) (ft _) s_) ⟨g,i,none⟩ n c b r_ C (λj u E=>by rw[Addr.add_lit];exact iS _ (z.out j u E)) y (by unfold maxLen;omega) o_ s_ ?_)
 intro v' F d f _;have B:=aB d;have v:=aB f;obtain⟨G,l,rfl⟩:=cV d;clear d f;go_wp2_with fail;go_ret;refine⟨_,rfl,by simpa using B.out,?_⟩
 exact((eh _ w).alloc (d7 _) _).grown v.out s_ (by intro k t;simp[Value.ownBlock] at t;omega)
def GW(w:World):
 Calls prog 67 #[.slice none 0 0] w λe f=>e=.returned (.slice none 0 0)/\f=w:=by
 have g:∀(w:World) (a:Option Addr) (n c b d:Nat),(binOp .eql 31 (.slice a n c) (.slice none b d)).run prog w=.ok (.bool a.isNone) w:=λw a n c b d=>Lib.run_eql_slice_nil w _ _ a n c b d underlying31
 go_enter func67,ntmps67;go_wp2_with fail;go_ret;exact⟨rfl,rfl⟩
def GY(g i n c:Nat)(b:List Value)(w:World)(C:b.length=n*6)(H:n<=1000000)(s:∀j u,b[j]?=some u->w.cell? ⟨g,i+j,none⟩=some u)(y:∀u∈b,u.oneCell'=true):
 Calls prog 198 #[.slice (some ⟨g,i,none⟩) n c] w λe r=>∃v',e=.returned v'/\r.ownsRow w.heap.size 136 6 v' n b/\Below w.heap.size w r:=by
 obtain⟨A,D,o,p,q⟩:=info_parts JE;have z:=aB s;clear s;have x:∀(w:World) (a:Option Addr) (n c m l:Nat),(binOp .eql 70 (.slice a n c) (.slice none m l)).run prog w=.ok (.bool a.isNone) w:=λw a n c m l=>Lib.run_eql_slice_nil w _ _ a n c m l underlying70
 go_enter func198,ntmps198;go_wp2_with (at_builtin;refine wpList_append_own _ r_ _ _ 70 r_ w.heap.size 136 A _ 6 80 underlying70 D o p q rfl d_ (.slice (some ⟨w.heap.size,0,none⟩) 0 0) 0 [] r_ (World.ownsRow_made w #[] 0 (d7 _) (ft _) s_) ⟨g,i,none⟩ n c b r_ C (λj u E=>by rw[Addr.add_lit];exact iS _ (z.out j u E)) y (by unfold maxLen;omega) o_ s_ ?_)
 intro v' F d f _;have B:=aB d;have v:=aB f;obtain⟨G,l,rfl⟩:=cV d;clear d f;go_wp2_with fail;go_ret;refine⟨_,rfl,by simpa using B.out,?_⟩
 exact((eh _ w).alloc (d7 _) _).grown v.out s_ (by intro k t;simp[Value.ownBlock] at t;omega)
def C7(w:World)(sb a:Nat)(R:Nat->World->Prop)(P:World->Prop)(q:a<=1000000)
 (m:Hid (Calls prog 104 #[.func (.func 105) #[.pointer (some ⟨sb,0,none⟩)] #[]] w λe d=>∃k:Nat,k<=1000/\e=.returned (.int .i64 k)/\R k d))
 (l:Hid (∀k W,R k W->(∃u,W.cell? ⟨sb,4,none⟩=some u)/\W.frozen? ⟨sb,4,none⟩=false/\sb<W.heap.size/\W.cell? ⟨sb,0,none⟩=some (.int .i64 a)))
 (i:Hid (∀k W,R k W->¬(k=0/\a=500)->P (W.setCell ⟨sb,4,none⟩ (.int .i64 k))))
 (o:Hid (∀W,R 0 W->a=500->P ((W.setCell ⟨sb,4,none⟩ (.int .i64 0)).setCell ⟨sb,4,none⟩ (.int .i64 9)))):
 Calls prog 68 #[.pointer (some ⟨sb,0,none⟩)] w λe d=>e=.returned (.tuple #[])/\P d:=by
 have j:=XJ;go_enter func68,ntmps68;go_wp2_with fail;refine m.out.mono ?_;rintro e p ⟨k,r,rfl,b⟩;obtain⟨⟨u,v⟩,s,x,t⟩:=l.out _ _ b;by_cases f:k=0
 ·subst f;by_cases g:a=500
  ·subst g;have c:=aB (o.out _ b rfl);clear b;go_wp2_with fail;go_end0;exact⟨rfl,c.out⟩
  ·have c:=aB (i.out _ _ b (λh=>g h.2))
   have n:¬(a:Int)=500:=o_
   clear b;go_wp2_with fail;go_end0;exact⟨rfl,c.out⟩
 ·have c:=aB (i.out _ _ b (λh=>f h.1))
  have n:¬(k:Int)=0:=o_
  clear b;go_wp2_with fail;go_end0;exact⟨rfl,c.out⟩
section
variable {fp:Nat->Value} {F:Nat->Prop} {b_:Nat} {w:World} {sb gf cap:Nat} {t0 tv u_ s0:Value} {v_:List FVal}
def cT.setStop{m:bX}(h:cT fp F b_ w sb gf cap t0 tv u_ s0 v_ m)(x:Value):cT fp F b_ (w.setCell ⟨sb,4,none⟩ x) sb gf cap t0 tv u_ x v_ m/\Kept (aF sb gf u_ v_) w (w.setCell ⟨sb,4,none⟩ x):=by
 obtain⟨d,o⟩:=eu.1 h.nodup;have a:∀k,k≠sb->(w.setCell ⟨sb,4,none⟩ x).heap[k]?=w.heap[k]?:=λk a=>ej _ _ _ _ a
 have c:∀b,F b->(w.setCell ⟨sb,4,none⟩ x).heap[b]?=w.heap[b]?:=λb j=>a b λe=>(h.apart b j).2 (by simp[aF,e])
 refine⟨⟨aQ h.blk,aX h.row λk e=>a k ?_,h.frs.keep c (λ_ h=>h) λv i k f=>a k ?_,h.tape.keep c (λ_ h=>h),aX h.out λk e=>a k ?_,h.nodup,λk a=>by simpa using h.lt k a,λk a=>by simpa using h.apart k a⟩,⟨rfl,rfl,rfl,s_,λk _ n=>a k λe=>n (by simp[aF,e])⟩⟩
 ·cases e;exact λe=>d (by simp[<-e])
 ·have g:k∈aY v_:=hH.2 ⟨v,i,f⟩;exact λe=>d (by simp[<-e,g])
 ·exact λl=>d (by simp[<-l,e])
def i6(a:Value)(W:World):(callFunc 105 #[a]).run prog W=.ok (.enter 105 #[a]) W:=k_
def QN{ar:Nat->Option Nat}{n:List dQ}{m:bX}{k a:Nat}{r:bX × Nat}(ht:kA ar n)(T:jS n)(h:cT fp F b_ w sb gf cap (.int .i64 a) tv u_ s0 v_ m)(hT:lE fp F w n)(hp:AL (aF sb gf u_ v_) w)(A:b_<=w.heap.size)
 (hA:fI ar m) (hU:fS m) (N:m.out.length<=50) (Q:m.tape.length<=17592186044416) (o:dV n k m=some r) (Z:a<=1000000) (U:r.2<=1000):
 Calls prog 68 #[.pointer (some ⟨sb,0,none⟩)] w λe E=>e=.returned (.tuple #[])/\Done fp F b_ sb (.int .i64 a) (.int .i64 (bS a r.2)) (aF sb gf u_ v_) w r.1 E:=by
 have C:Below w.heap.size w (w.alloc (.cells #[.int .i64 0] 38)):=(eh _ w).alloc (d7 _) _;have h0:=h.grow C (λ_ h=>h) (λ_ h=>d6 h)
 have X:lE fp F (w.alloc (.cells #[.int .i64 0] 38)) n:=hT.keep (λx hx=>C.block x (h.apart x hx).1) λ_ h=>h
 have j:Kept (aF sb gf u_ v_) w (w.alloc (.cells #[.int .i64 0] 38)):=Kept.of_below C;have hX:=yV ht T h0 X (hp.step j λ_ h=>d6 h) (em A j.size) hA hU N Q o
 have u:(w.alloc (.cells #[.int .i64 0] 38)).heap[w.heap.size]?=some (.cells #[.int .i64 0] 38 (0,0)):=aS _ _ rfl _;have z:w.heap.size∉aF sb gf u_ v_:=λt=>by have:=h.lt _ t;omega
 have hS:=TL 105 ⟨sb,0,none⟩ w (λk W=>k=r.2/\Done fp F b_ sb (.int .i64 a) s0 (aF sb gf u_ v_) (w.alloc (.cells #[.int .i64 0] 38)) r.1 W) i6 (hX.mono λe E y=>by
  obtain⟨he,y⟩:=y;refine⟨r.2,he,⟨rfl,y⟩,?_⟩;rw[y.1.block _ s_ z];exact u)
 generalize Y:w.alloc (.cells #[.int .i64 0] 38)=w0 at*
 have hD:∀W x,Done fp F b_ sb (.int .i64 a) s0 (aF sb gf u_ v_) w0 r.1 W->Done fp F b_ sb (.int .i64 a) s0 (aF sb gf u_ v_) w r.1 (W.setCell ⟨w.heap.size,0,none⟩ x):=λW x y=>by
  obtain⟨p,G,g,f,l,c,d,D,i,s⟩:=y;have I:w.heap.size<w0.heap.size:=by rw[<-Y];simp
  have P:¬F w.heap.size:=λhF=>by have:=(h.apart _ hF).1;omega
  have L:w.heap.size∉aF sb g c d:=λt=>by
   rcases s _ t with B|B
   ·exact z B
   ·omega
  have J:∀b,G b->b≠w.heap.size:=λb O e=>by
   subst e;rcases D.new _ O with B|B
   ·exact P B
   ·omega
  have o:∀k,k≠w.heap.size->(W.setCell ⟨w.heap.size,0,none⟩ x).heap[k]?=W.heap[k]?:=λk o=>ej _ _ _ _ o
  have q:∀k∈aF sb g c d,(W.setCell ⟨w.heap.size,0,none⟩ x).heap[k]?=W.heap[k]?:=λk t=>o k λe=>L (by rw[<-e];exact t)
  have K:∀b,G b->(W.setCell ⟨w.heap.size,0,none⟩ x).heap[b]?=W.heap[b]?:=λb O=>o b (J b O)
  refine⟨⟨p.os.trans j.os,p.tape.trans j.tape,p.output.trans j.output,em j.size (by simpa using p.size),λk B h2=>?_⟩,G,g,f,l,c,d,D.le (iy I),⟨by rw[q sb (by simp[aF])];exact i.blk,aX i.row λk e=>?_,i.frs.keep K (λ_ h=>h) λv hv k M=>q k ?_,i.tape.keep K (λ_ h=>h),aX i.out λk e=>q k (by simp[aF,e]),i.nodup,λk o=>by simpa using i.lt k o,λk o=>by simpa using i.apart k o⟩,λk t=>(s k t).imp_right (em (iy I))⟩
  ·rw[o k o_,p.block k o_ h2,j.block k B h2]
  ·cases e;exact q g (by simp[aF])
  ·have t:k∈aY d:=hH.2 ⟨v,hv,M⟩;simp[aF,t]
 refine(C7 w sb a (λk W=>k=r.2/\Done fp F b_ sb (.int .i64 a) s0 (aF sb gf u_ v_) w r.1 W) (λE=>Done fp F b_ sb (.int .i64 a) (.int .i64 (bS a r.2)) (aF sb gf u_ v_) w r.1 E) Z (hS.mono ?_) (λk W H=>?_) (λk W H V=>?_) (λW H V=>?_))
 ·rintro e E ⟨k,w1,rfl,⟨rfl,y⟩,rfl⟩;exact⟨r.2,U,rfl,rfl,hD _ _ y⟩
 ·obtain⟨_,_,G,g,f,l,c,d,_,i,_⟩:=H;exact⟨⟨_,aA i.blk rfl⟩,aE i.blk,aD i.blk,aA i.blk rfl⟩
 ·obtain⟨rfl,p,G,g,f,l,c,d,D,i,s⟩:=H;obtain⟨S,q2⟩:=i.setStop (.int .i64 r.2);have e:bS a r.2=r.2:=if_neg V;rw[e];exact⟨p.trans q2 s,G,g,f,l,c,d,D,S,s⟩
 ·obtain⟨hz,p,G,g,f,l,c,d,D,i,s⟩:=H;obtain⟨S,q2⟩:=i.setStop (.int .i64 0);obtain⟨q3,q4⟩:=S.setStop (.int .i64 9);have e:bS a r.2=9:=if_pos ⟨hz.symm,V⟩;rw[e];exact⟨(p.trans q2 s).trans q4 s,G,g,f,l,c,d,D,q3,s⟩
end
structure s9(fp:Nat->Value)(F:Nat->Prop)(w:World)(v:FVal)(f:aI):Prop where
 fn:G8 fp F w v.fp f.fn
 nx:v.nx=.int .i64 f.next
 ln:v.ln=.int .i64 f.l_
 sp:eW F w v.sp f.e_
 g_:PVs F w v.vv f.g_
 varsB:∀a∈f.g_,aK a<=200
 ops:PVs F w v.ov f.ops
 opsB:∀a∈f.ops,aK a<=200
def s9.keep{d:Nat->Value}{v:FVal}(h:s9 d F w v f)(a:∀b,F b->w'.heap[b]?=w.heap[b]?)(c:∀b,F b->G b):s9 d G w' v f:=
 ⟨h.fn.keep a c,h.nx,h.ln,eW.keep a c h.sp,(h.g_.keep a).mono c,h.varsB,(h.ops.keep a).mono c,h.opsB⟩
def vR(fp:Nat->Value)(F:Nat->Prop)(w:World):List FVal->List aI->Prop
 |[],[]=>True
 |v::vs,f::fs=>s9 fp F w v f/\vR fp F w vs fs
 |_,_=>False
def vR.keep(a:∀b,F b->w'.heap[b]?=w.heap[b]?)(d:∀b,F b->G b):∀{vs:List FVal} {fs:List aI},vR c F w vs fs->vR c G w' vs fs
 |[],[],_=>trivial
 |_::_,_::_,⟨f,e⟩=>⟨f.keep a d,vR.keep a d e⟩
 |[],_::_,h=>h.elim
 |_::_,[],h=>h.elim
def vR.length{a:Nat->Value}:∀{vs:List FVal} {fs:List aI},vR a F w vs fs->vs.length=fs.length
 |[],[],_=>rfl
 |_::_,_::_,⟨_,h⟩=>by simp[vR.length h]
 |[],_::_,h=>h.elim
 |_::_,[],h=>h.elim
def vR.get:∀{vs:List FVal} {fs:List aI},vR c F w vs fs->∀(i:Nat) v f,vs[i]?=some v->fs[i]?=some f->s9 c F w v f
 |[],[],_,i,v,f,a,_=>by simp at a
 |_::_,_::_,⟨h,_⟩,0,v,f,a,b=>by simp at a b;subst a;subst b;exact h
 |_::_,_::_,⟨_,h⟩,i+1,v,f,a,b=>vR.get h i v f (by simpa using a) (by simpa using b)
 |[],_::_,h,_,_,_,_,_=>h.elim
 |_::_,[],h,_,_,_,_,_=>h.elim
def XV(F:Nat->Prop)(w:World)(v:Value)(v_:List FVal):Prop:=
 (v_=[]/\∃x c,v=.slice x 0 c)\/∃g c cur,v=.slice (some ⟨g,0,none⟩) v_.length c/\F g/\w.heap[g]?=some (.cells cur 136 (0,0))/\v_.length<=c/\cur.toList.take (v_.length*6)=gA v_
def XV.keep{a:List FVal}(h:XV F w v a)(f:∀b,F b->w'.heap[b]?=w.heap[b]?)(l:∀b,F b->G b):XV G w' v a:=by
 rcases h with h|⟨g,c,d,j,e,k,i⟩
 ·exact d6 h
 ·exact d5 ⟨g,c,d,j,l g e,by rw[f g e];exact k,i⟩
def JU(F:Nat->Prop)(w:World)(v:Value)(l:List (List UInt8)):Prop:=
 (l=[]/\v=.slice none 0 0)\/∃g c cur,v=.slice (some ⟨g,0,none⟩) l.length c/\F g/\w.heap[g]?=some (.cells cur 9 (0,0))/\l.length<=c/\cur.toList.take l.length=lZ l
def JU.keep{l:List (List UInt8)}(h:JU F w v l)(e:∀b,F b->w'.heap[b]?=w.heap[b]?)(k:∀b,F b->G b):JU G w' v l:=by
 rcases h with h|⟨g,c,a,i,d,j,f⟩
 ·exact d6 h
 ·exact d5 ⟨g,c,a,i,k g d,by rw[e g d];exact j,f⟩
def oA(fp:Nat->Value)(F:Nat->Prop)(w:World)(v:Value)(s:bZ):Prop:=
 ∃fv tv u_ v_,v=.agg #[.int .i64 s.m_,fv,tv,u_,.int .i64 s.stop]/\XV F w fv v_/\vR fp F w v_ s.m.f_/\rL F w tv s.m.tape/\JU F w u_ s.m.out
def oA.keep{f:Nat->Value}(h:oA f F w v s)(c:∀b,F b->w'.heap[b]?=w.heap[b]?)(d:∀b,F b->G b):oA f G w' v s:=by
 obtain⟨n,i,a,e,k,g,m,j,l⟩:=h;exact⟨n,i,a,e,k,g.keep c d,m.keep c d,j.keep c d,l.keep c d⟩
def iZ.kept(b:∀k,F k->G k):∀{vs:List FVal} {fs:List aI},iZ c F b_ w vs fs->(∀v∈vs,∀k∈v.owns,G k)->vR c G w vs fs
 |[],[],_,_=>trivial
 |v::_,_::_,⟨a,i⟩,d=>by
  have f:=d v (fu ..);obtain⟨⟨q,o,p⟩,l⟩:=a.g_;obtain⟨⟨r,g,n⟩,j⟩:=a.ops;exact⟨⟨a.fn.keep (λ_ _=>rfl) b,a.nx,a.ln,eW.keep (λ_ _=>rfl) b a.sp,PVs.ofRow o (p.mono b) λk e=>f k (by simp[FVal.owns,e]),l,PVs.ofRow g (n.mono b) λk e=>f k (by simp[FVal.owns,e]),j⟩,iZ.kept b i λu m=>d u (fe _ m)⟩
 |[],_::_,h,_=>h.elim
 |_::_,[],h,_=>h.elim
def cT.kept{x:Nat->Value}{sb gf i d c:Nat}{r a:Value}{b:List FVal}{m:bX}(h:cT x F b_ w sb gf i (.int .i64 d) r a (.int .i64 c) b m)(y:∀k,F k->G k)(B:∀k∈aF sb gf a b,k≠sb->G k):
 oA x G w (.agg #[.int .i64 d,.slice (some ⟨gf,0,none⟩) b.length i,r,a,.int .i64 c]) ⟨d,m,c⟩:=by
 obtain⟨E,H⟩:=eu.1 h.nodup;have o:∀k,k∈gf::(a.ownBlock.toList++aY b)->k≠sb:=λk l e=>E (by rw[<-e];exact l)
 have p:∀k,k∈gf::(a.ownBlock.toList++aY b)->G k:=λk l=>B k (fe _ l) (o k l)
 refine⟨_,r,a,b,rfl,?_,iZ.kept y h.frs λv D k l=>p k ?_,h.tape.keep (λ_ _=>rfl) y,?_⟩
 ·rcases h.row.2 with ⟨f,_⟩|⟨t,g,j,f,u,n,q,A,z,s⟩
  ·cases f
  ·cases f;exact d5 ⟨gf,i,j,rfl,p gf s_,n,q,s⟩
 ·have C:k∈aY b:=hH.2 ⟨v,D,l⟩;simp[C]
 ·rcases h.out.2 with ⟨f,u⟩|⟨t,g,j,f,u,n,q,A,z,s⟩
  ·exact d6 ⟨ge u,f⟩
  ·exact d5 ⟨t,g,j,f,p t (by rw[f];simp[Value.ownBlock]),n,q,by simpa using s⟩
def Kept.setCell{own:List Nat}{W:World}(h:Kept own w W)(p:Addr)(x:Value)(b:p.block∈own):Kept own w (W.setCell p x):=
 ⟨h.os,h.tape,h.output,by simpa using h.size,λk c a=>by rw[ej _ _ _ _ λe=>a (by rw[e];exact b),h.block k c a]⟩
def RV(w w2:World)(b a x0 n c0:Nat)(I z B:Value)(P:Value->World->Prop)(A:Nat->Nat->World->Prop)(C E:Nat->Nat->Nat->World->Prop)(D1 D2:Nat->Nat->Nat->Option Addr->Nat->Nat->World->Prop)(O:Nat->Nat->Option Addr->Nat->Nat->World->Prop)(hn:n<=100)
 (ab:I=.slice (some ⟨x0,0,none⟩) n c0) (U:∃xa xl xc,B=.slice xa xl xc) (aa:∃Q Z K,z=.slice Q Z K)
 (hW:(w.alloc (.cells #[.int .i64 b,I,z,B,.int .i64 a] 72)).alloc (.cells #[.int .i64 0,.slice none 0 0,.slice none 0 0,.slice none 0 0,.int .i64 0] 72)=w2)
 (HC:Hid (Calls prog 198 #[I] w2 λe p=>∃g cap,e=.returned (.slice (some ⟨g,0,none⟩) n cap)/\A g cap p))
 (HA:Hid (∀g cap W,A g cap W->(∃u,W.cell? ⟨w.heap.size,1,none⟩=some u)/\W.frozen? ⟨w.heap.size,1,none⟩=false/\w.heap.size<W.heap.size/\C g cap 0 (W.setCell ⟨w.heap.size,1,none⟩ (.slice (some ⟨g,0,none⟩) n cap))))
 (HR:Hid (∀g cap j W,C g cap j W->W.cell? ⟨w.heap.size,1,none⟩=some (.slice (some ⟨g,0,none⟩) n cap)/\w.heap.size<W.heap.size/\g<W.heap.size))
 (HV:Hid (∀g cap j W,C g cap j W->j<n->∃x l c,W.cell? ⟨g,j*6+4,none⟩=some (.slice x l c)/\Calls prog 199 #[.slice x l c] W λe p=>∃k f,e=.returned (.slice k l f)/\D1 g cap j k l f p))
 (V:Hid (∀g cap j x l c W,D1 g cap j x l c W->(∃u,W.cell? ⟨g,j*6+4,none⟩=some u)/\W.frozen? ⟨g,j*6+4,none⟩=false/\g<W.heap.size/\E g cap j (W.setCell ⟨g,j*6+4,none⟩ (.slice x l c))))
 (HE:Hid (∀g cap j W,E g cap j W->∃x l c,W.cell? ⟨g,j*6+5,none⟩=some (.slice x l c)/\g<W.heap.size/\Calls prog 199 #[.slice x l c] W λe p=>∃k f,e=.returned (.slice k l f)/\D2 g cap j k l f p))
 (J:Hid (∀g cap j x l c W,D2 g cap j x l c W->(∃u,W.cell? ⟨g,j*6+5,none⟩=some u)/\W.frozen? ⟨g,j*6+5,none⟩=false/\g<W.heap.size/\C g cap (j+1) (W.setCell ⟨g,j*6+5,none⟩ (.slice x l c))))
 (HO:Hid (∀g cap W,C g cap n W->W.cell? ⟨w.heap.size,3,none⟩=some B/\Calls prog 58 #[B] W λe p=>∃k H f,e=.returned (.slice k H f)/\O g cap k H f p))
 (HF:Hid (∀g cap x l c W,O g cap x l c W->(W.cell? ⟨w.heap.size,0,none⟩=some (.int .i64 b)/\W.cell? ⟨w.heap.size,1,none⟩=some (.slice (some ⟨g,0,none⟩) n cap)/\W.cell? ⟨w.heap.size,2,none⟩=some z/\(∃u,W.cell? ⟨w.heap.size,3,none⟩=some u)/\W.cell? ⟨w.heap.size,4,none⟩=some (.int .i64 a)/\W.frozen? ⟨w.heap.size,3,none⟩=false/\w.heap.size+1<W.heap.size)/\
   (W.heap[w.heap.size+1]?=some (.cells #[.int .i64 0,.slice none 0 0,.slice none 0 0,.slice none 0 0,.int .i64 0] 72 (0,0)))))
 (HP:Hid (∀g cap x l c W W',O g cap x l c W->Kept [w.heap.size,w.heap.size+1] W W'->W'.heap.size=W.heap.size->P (.agg #[.int .i64 b,.slice (some ⟨g,0,none⟩) n cap,z,.slice x l c,.int .i64 a]) W')):
 Calls prog 147 #[.agg #[.int .i64 b,I,z,B,.int .i64 a]] w λe p=>∃v,e=.returned v/\P v p:=by
 obtain⟨xa,xl,xc,rfl⟩:=U;obtain⟨Q,Z,K,rfl⟩:=aa;subst ab;have HW:=aB hW;clear hW;go_enter func147,ntmps147;go_wp2_with fail;rw[HW.out];refine HC.out.mono ?_;rintro e w3 ⟨g,cap,rfl,h3⟩;obtain⟨⟨u3,a1⟩,a2,a3,Y⟩:=HA.out _ _ _ h3;obtain⟨b1,b2,b3⟩:=HR.out _ _ _ _ Y;have H4:=aB Y;clear h3 Y;generalize D:w3.setCell ⟨w.heap.size,1,none⟩ (.slice (some ⟨g,0,none⟩) n cap)=w4 at H4 b1 b2 b3;have M:=aB D;clear D;go_wp2_with fail;rw[M.out];go_wp2_with fail;go_loopg [3,4,12] n (λgk _ _ i wr=>∃j:Nat,j+gk=n/\i=.int .i64 j/\C g cap j wr)
 case atStart=>exact⟨0,o_,rfl,H4.out⟩
 case round=>
  obtain⟨j,hj,rfl,G⟩:=hrel;obtain⟨b1,b2,b3⟩:=HR.out _ _ _ _ G;by_cases N:j<n
  ·obtain⟨m,rfl⟩:∃m,gk=m+1:=⟨gk-1,o_⟩
   obtain⟨x,l,c,c1,o⟩:=HV.out _ _ _ _ G N;have s:=aB o;have e1:(0:Int)<=(j:Int):=o_
   have e2:(j:Int)<(n:Int):=o_
   clear G o;go_wp2_with fail;refine s.out.mono ?_;rintro e r ⟨k,f,rfl,t⟩;obtain⟨⟨u5,d1⟩,d2,d3,h6⟩:=V.out _ _ _ _ _ _ _ t;obtain⟨y,l2,c2,y1,y2,q⟩:=HE.out _ _ _ _ h6;have F:=aB q;have aj:r.cell? ⟨g,j*6+5,none⟩=some (.slice y l2 c2):=by simpa [go_sem] using y1
   clear t h6 q y1 y2;go_wp2_with fail;refine F.out.mono ?_;rintro e w7 ⟨y',d',rfl,h7⟩;obtain⟨⟨u7,f1⟩,f2,f3,h8⟩:=J.out _ _ _ _ _ _ _ h7;have H8:=aB h8;clear h7 h8;go_wp2_with fail;go_roundg m
   case measure=>omega
   case rel=>exact⟨j+1,o_,by go_num,H8.out⟩
  ·have L:j=n:=o_
   subst L;obtain⟨o1,o⟩:=HO.out _ _ _ G;have s:=aB o;clear G o;go_wp2_with fail;refine s.out.mono ?_;rintro e r ⟨k,H,f,rfl,t⟩;obtain⟨⟨p0,p1,p2,⟨u3,p3⟩,p4,pf,pl⟩,d⟩:=HF.out _ _ _ _ _ _ t;have S:r.cell? ⟨w.heap.size+1,0,none⟩=some (.int .i64 0):=aA d rfl;have ad:r.cell? ⟨w.heap.size+1,1,none⟩=some (.slice none 0 0):=aA d rfl;have T:r.cell? ⟨w.heap.size+1,2,none⟩=some (.slice none 0 0):=aA d rfl;have X:r.cell? ⟨w.heap.size+1,3,none⟩=some (.slice none 0 0):=aA d rfl;have ac:r.cell? ⟨w.heap.size+1,4,none⟩=some (.int .i64 0):=aA d rfl;have ai:=aE (i:=0) d;have ak:=aE (i:=1) d;have ah:=aE (i:=2) d;have af:=aE (i:=3) d;have ag:=aE (i:=4) d;have H5:=aB t;clear t d;have ae:w.heap.size<r.heap.size:=o_
   go_wp2_with fail;refine⟨rfl,.agg #[.int .i64 b,.slice (some ⟨g,0,none⟩) j cap,.slice Q Z K,.slice k H f,.int .i64 a],?_,_,rfl,HP.out _ _ _ _ _ _ _ H5.out ?_ s_⟩
   ·simp[results,results147,go_sem,S,ad,T,X,ac]
   ·exact((((((Kept.refl _ _).setCell _ _ s_).setCell _ _ s_).setCell _ _ s_).setCell _ _ s_).setCell _ _ s_).setCell _ _ s_
def P2(a b:List FVal)(v:FVal)(i:Nat)(c:i<6):(gA (a++v::b))[a.length*6+i]?=v.cells[i]?:=by
 rw[jQ,gh (by rw[eF];omega),eF,ip]
 show (v.cells++gA b)[i]?=_
 rw[gy (by exact c)]
def C9(a b:List FVal)(v v':FVal)(i:Nat)(x:Value)(d:i<6)(c:v'.cells=v.cells.set i x):(gA (a++v::b)).set (a.length*6+i) x=gA (a++v'::b):=by
 rw[jQ,jQ,List.set_append_right _ _ (by rw[eF];omega),eF,ip]
 show gA a++(v.cells++gA b).set i x=gA a++(v'.cells++gA b)
 rw[List.set_append_left _ _ (by exact d),c]
structure CI(w:World)(m_ stop n g cap:Nat)(tv xo:Value)(fvs':List FVal)(own:List Nat)(W:World):Prop where
 row:W.ownsRow (w.heap.size+2) 136 6 (.slice (some ⟨g,0,none⟩) n cap) n (gA fvs')
 nodup:(g::own).Nodup
 rng:∀k∈g::own,w.heap.size+2<=k/\k<W.heap.size
 bel:Below w.heap.size w W
 b1:W.heap[w.heap.size]?=some (.cells #[.int .i64 m_,.slice (some ⟨g,0,none⟩) n cap,tv,xo,.int .i64 stop] 72 (0,0))
 b2:W.heap[w.heap.size+1]?=some (.cells #[.int .i64 0,.slice none 0 0,.slice none 0 0,.slice none 0 0,.int .i64 0] 72 (0,0))
section
variable {w:World} {m_ stop n g cap:Nat} {tv xo:Value} {own:List Nat} {W W':World} {a b:List FVal} {v v':FVal}
def CI.cell(h:CI w m_ stop n g cap tv xo (a++v::b) own W)(i:Nat)(d:i<6):W.cell? ⟨g,a.length*6+i,none⟩=v.cells[i]?/\W.frozen? ⟨g,a.length*6+i,none⟩=false/\g<W.heap.size:=by
 refine⟨?_,h.row.frozenAt _,(h.rng g s_).2⟩
 have c:=h.row.1;rw[eF,ei,ek] at c;rw[h.row.cellAt (a.length*6+i) o_,P2 a b v i d]
def CI.grow{a:List FVal}(h:CI w m_ stop n g cap tv xo a own W)(d:Below W.heap.size W W')(o:Option Nat)(i:∀k,o=some k->W.heap.size<=k/\k<W'.heap.size):CI w m_ stop n g cap tv xo a (own++o.toList) W':=by
 have j:=h.bel.size;have p:=aD h.b1;have l:=aD h.b2;refine⟨iW h.row d,?_,λk b=>?_,h.bel.trans (d.mono j),by rw[d.block _ p];exact h.b1,by rw[d.block _ l];exact h.b2⟩
 ·rw[<-fh];refine gi.2 ⟨h.nodup,by cases o<;>simp,λx q y m e=>?_⟩
  subst e;have f:o=some x:=by simpa using m
  have:=(h.rng x q).2;have:=(i x f).1;omega
 ·rw[<-fh] at b;rcases eo.1 b with b|b
  ·exact⟨(h.rng k b).1,el (h.rng k b).2 d.size⟩
  ·have c:o=some k:=by simpa using b
   have:=(i k c).1;exact⟨o_,(i k c).2⟩
def CI.set(h:CI w m_ stop n g cap tv xo (a++v::b) own W)(i:Nat)(e:i<6)(x:Value)(d:v'.cells=v.cells.set i x):CI w m_ stop n g cap tv xo (a++v'::b) own (W.setCell ⟨g,a.length*6+i,none⟩ x):=by
 have f:=(h.rng g s_).1
 have c:∀k,k≠g->(W.setCell ⟨g,a.length*6+i,none⟩ x).heap[k]?=W.heap[k]?:=λk c=>ej _ _ _ _ c
 refine⟨?_,h.nodup,λk c=>⟨(h.rng k c).1,by simpa using (h.rng k c).2⟩,h.bel.setCell (by show w.heap.size<=g;omega) _,by rw[c _ o_];exact h.b1,by rw[c _ o_];exact h.b2⟩
 rw[<-C9 a b v v' i x e d];exact(h.row.stored _ _).1
def CI.keep{a:List FVal}(h:CI w m_ stop n g cap tv xo a own W):w.heap.size<W.heap.size/\w.heap.size+1<W.heap.size:=⟨aD h.b1,aD h.b2⟩
end
structure SP(fp:Nat->Value)(F:Nat->Prop)(b_:Nat)(w:World)(gf cap:Nat)(tv u_:Value)(v_:List FVal)(m:bX):Prop where
 row:w.ownsRow b_ 136 6 (.slice (some ⟨gf,0,none⟩) v_.length cap) v_.length (gA v_)
 frs:iZ fp F b_ w v_ m.f_
 tape:rL F w tv m.tape
 out:w.ownsRow b_ 9 1 u_ m.out.length (lZ m.out)
 nodup:(gf::(u_.ownBlock.toList++aY v_)).Nodup
 rng:∀k∈gf::(u_.ownBlock.toList++aY v_),b_<=k/\k<w.heap.size
def PVs.cells{l:List aJ}(h:PVs F w v l)(p:l.length<=1000000):
 ∃x c,v=.slice x l.length c/\Calls prog 199 #[.slice x l.length c] w λe a=>∃d b n,e=.returned (.slice d l.length b)/\a.ownsRow w.heap.size 180 1 (.slice d l.length b) l.length n/\fZ F w n l/\Below w.heap.size w a:=by
 rcases h.row with ⟨rfl,rfl⟩|⟨g,f,m,rfl,y,r,i,s⟩
 ·refine⟨none,0,rfl,(sX w).mono ?_⟩;rintro e a ⟨rfl,rfl⟩;exact⟨none,0,[],rfl,World.ownsRow_nil _ _ _ _,fZ.nil _ _,eh _ _⟩
 ·refine⟨_,_,rfl,(sY g 0 l.length f m w (by rw[i.1];omega) p (λj u q=>by rw[gz];exact s j u q) (oK i)).mono ?_⟩
  rintro e a ⟨t,rfl,k,o⟩;obtain⟨d,b,rfl⟩:=cV k;exact⟨d,b,m,rfl,k,i,o⟩
def lQ{a:Nat->Value}{vs:List FVal}{fs:List aI}(h:iZ a F b_ w vs fs)(f:∀b,F b->w'.heap[b]?=w.heap[b]?)(d:∀k∈aY vs,w'.heap[k]?=w.heap[k]?):iZ a F b_ w' vs fs:=
 h.keep f (λ_ h=>h) λv e k c=>d k (hH.2 ⟨v,e,c⟩)
def LR(us:List FVal)(v:FVal):aY (us++[v])=aY us++v.owns:=by simp[aY]
def iO{a:Nat}{e:TypeId}{b:Nat}{xs:List Value}(h:w.ownsRow b_ e b v n xs)(j:a<=b_):w.ownsRow a e b v n xs:=by
 refine⟨h.1,?_⟩;rcases h.2 with h|⟨g,d,c,i,f,k⟩
 ·exact d6 h
 ·exact d5 ⟨g,d,c,i,em j f,k⟩
def CpC(fp:Nat->Value)(F:Nat->Prop)(w:World)(m_ stop n:Nat)(tv xo:Value)(v_:List FVal)(f_:List aI)(g cap j:Nat)(W:World):Prop:=
 ∃us:List FVal,us.length=j/\CI w m_ stop n g cap tv xo (us++v_.drop j) (aY us) W/\iZ fp F (w.heap.size+2) W us (f_.take j)
def CpE(fp:Nat->Value)(F:Nat->Prop)(w:World)(m_ stop n:Nat)(tv xo:Value)(v_:List FVal)(f_:List aI)(g cap j:Nat)(W:World):Prop:=
 ∃(us:List FVal) (v:FVal) (f:aI) (x:Value),us.length=j/\v_[j]?=some v/\f_[j]?=some f/\CI w m_ stop n g cap tv xo (us++{ v with vv:=x }::v_.drop (j+1)) (aY us++x.ownBlock.toList) W/\iZ fp F (w.heap.size+2) W us (f_.take j)/\mD F (w.heap.size+2) W x f.g_
def WI{L:Nat->Value}(h:oA L F w v s)(T:∀k,F k->k<w.heap.size)(bf:s.m.f_≠[])(bv:s.m.f_.length<=16)(hb:∀f∈s.m.f_,f.g_.length<=90001/\f.ops.length<=99000)(bt:s.m.out.length<=50):
 Calls prog 147 #[v] w λe D=>∃v',e=.returned v'/\∃gf cap tv u_ v_,v'=.agg #[.int .i64 s.m_,.slice (some ⟨gf,0,none⟩) v_.length cap,tv,u_,.int .i64 s.stop]/\Below w.heap.size w D/\SP L F w.heap.size D gf cap tv u_ v_ s.m:=by
 obtain⟨fv,tv,Q,v_,rfl,ba,M,ay,aw⟩:=h;have ai:=M.length
 have V:0<v_.length:=by
  rw[ai];exact ie.2 bf
 rcases ba with ⟨e,_⟩|⟨x0,c0,bq,rfl,bn,bd,bp,bl⟩
 ·rw[e] at V;simp at V
 have ar:∃ta tl tc,tv=.slice ta tl tc:=by
  rcases ay with ⟨_,x,c,e⟩|⟨g,o,c,e,_⟩
  ·exact⟨_,_,_,e⟩
  ·exact⟨_,_,_,e⟩
 have az:∃xa xl xc,Q=.slice xa xl xc:=by
  rcases aw with ⟨_,e⟩|⟨g,c,cu,e,_⟩
  ·exact⟨_,_,_,e⟩
  ·exact⟨_,_,_,e⟩
 generalize U:(w.alloc (.cells #[.int .i64 s.m_,.slice (some ⟨x0,0,none⟩) v_.length c0,tv,Q,.int .i64 s.stop] 72)).alloc (.cells #[.int .i64 0,.slice none 0 0,.slice none 0 0,.slice none 0 0,.int .i64 0] 72)=w2;have ax:Below w.heap.size w w2:=by rw[<-U];exact((eh _ w).alloc (d7 _) _).alloc s_ _
 have bh:w2.heap.size=w.heap.size+2:=by rw[<-U];simp
 have bg:w2.heap[w.heap.size]?=some (.cells #[.int .i64 s.m_,.slice (some ⟨x0,0,none⟩) v_.length c0,tv,Q,.int .i64 s.stop] 72 (0,0)):=by
  rw[<-U,eq _ _ _ s_];exact aS _ _ rfl _
 have bj:w2.heap[w.heap.size+1]?=some (.cells #[.int .i64 0,.slice none 0 0,.slice none 0 0,.slice none 0 0,.int .i64 0] 72 (0,0)):=by
  rw[<-U];exact aS _ _ s_ _
 have bc:∀b,F b->w2.heap[b]?=w.heap[b]?:=λb hb=>ax.block b (T b hb)
 have ab:∀{W:World},Below w.heap.size w W->∀b,F b->W.heap[b]?=w.heap[b]?:=λhb b m=>hb.block b (T b m)
 have Y:∀u∈gA v_,u.oneCell'=true:=by
  have aq:∀(vs:List FVal) (I:List aI),vR L F w vs I->∀u∈gA vs,u.oneCell'=true:=by
   intro vs;induction vs with
   |nil=>intro I _ u hu;cases hu
   |cons v vs ih=>
    intro I M u hu;cases I with
    |nil=>exact M.elim
    |cons f I=>
     obtain⟨H,h2⟩:=M;rcases eo.1 hu with hu|hu
     ·obtain⟨bu,gc,cp,br,K,_⟩:=H.fn;obtain⟨p,hp⟩:=H.sp.form
      have bo:∃x n c,v.vv=.slice x n c:=by
       rcases H.g_.row with ⟨_,e⟩|⟨g,c,xs,e,_⟩<;>exact⟨_,_,_,e⟩
      have bi:∃x n c,v.ov=.slice x n c:=by
       rcases H.ops.row with ⟨_,e⟩|⟨g,c,xs,e,_⟩<;>exact⟨_,_,_,e⟩
      obtain⟨x1,n1,c1,e2⟩:=bo;obtain⟨x2,n2,c2,e3⟩:=bi;simp only[FVal.cells,K,H.nx,H.ln,hp,e2,e3,en,ff,or_false] at hu;rcases hu with rfl|rfl|rfl|rfl|rfl|rfl<;>rfl
     ·exact ih I h2 u hu
  exact aq v_ s.m.f_ M
 have J:∀j (B:j<v_.length),∃v f,v_[j]?=some v/\s.m.f_[j]?=some f/\s9 L F w v f/\f∈s.m.f_/\v_.drop j=v::v_.drop (j+1)/\s.m.f_.take (j+1)=s.m.f_.take j++[f]:=λj B=>by
  have ag:j<s.m.f_.length:=o_
  refine⟨v_[j],s.m.f_[j],fg B,fg ag,M.get j _ _ (fg B) (fg ag),fi ag,jz B,gl ag⟩
 have hR:∀g cap j W,CpC L F w s.m_ s.stop v_.length tv Q v_ s.m.f_ g cap j W->W.cell? ⟨w.heap.size,1,none⟩=some (.slice (some ⟨g,0,none⟩) v_.length cap)/\w.heap.size<W.heap.size/\g<W.heap.size:=λg cap j W G=>by
  obtain⟨i,_,a,_⟩:=G;exact⟨aA a.b1 rfl,aD a.b1,(a.rng g s_).2⟩
 refine(RV w w2 s.m_ s.stop x0 v_.length c0 (.slice (some ⟨x0,0,none⟩) v_.length c0) tv Q
  (λv' D=>∃gf cap tv u_ v_,v'=.agg #[.int .i64 s.m_,.slice (some ⟨gf,0,none⟩) v_.length cap,tv,u_,.int .i64 s.stop]/\Below w.heap.size w D/\SP L F w.heap.size D gf cap tv u_ v_ s.m)
  (λg cap W=>W.ownsRow (w.heap.size+2) 136 6 (.slice (some ⟨g,0,none⟩) v_.length cap) v_.length (gA v_)/\Below w2.heap.size w2 W)
  (CpC L F w s.m_ s.stop v_.length tv Q v_ s.m.f_) (CpE L F w s.m_ s.stop v_.length tv Q v_ s.m.f_)
  (λg cap j x l c W=>∃i v f,i.length=j/\v_[j]?=some v/\s.m.f_[j]?=some f/\CI w s.m_ s.stop v_.length g cap tv Q (i++v::v_.drop (j+1)) (aY i++(Value.slice x l c).ownBlock.toList) W/\iZ L F (w.heap.size+2) W i (s.m.f_.take j)/\mD F (w.heap.size+2) W (.slice x l c) f.g_)
  (λg cap j x l c W=>∃i v f y,i.length=j/\v_[j]?=some v/\s.m.f_[j]?=some f/\CI w s.m_ s.stop v_.length g cap tv Q (i++{ v with vv:=y }::v_.drop (j+1)) (aY i++y.ownBlock.toList++(Value.slice x l c).ownBlock.toList) W/\iZ L F (w.heap.size+2) W i (s.m.f_.take j)/\mD F (w.heap.size+2) W y f.g_/\mD F (w.heap.size+2) W (.slice x l c) f.ops)
  (λg cap x l c W=>∃i,i.length=v_.length/\CI w s.m_ s.stop v_.length g cap tv Q i (aY i++(Value.slice x l c).ownBlock.toList) W/\iZ L F (w.heap.size+2) W i s.m.f_/\W.ownsRow (w.heap.size+2) 9 1 (.slice x l c) s.m.out.length (lZ s.m.out))
  (by omega) rfl az ar U ?_ (λg cap W G=>?_) hR (λg cap j W G B=>?_) (λg cap j x l c W G=>?_) (λg cap j W G=>?_) (λg cap j x l c W G=>?_) (λg cap W G=>?_) (λg cap x l c W G=>?_) (λg cap x l c W W' G q O=>?_))
 ·refine(GY x0 0 v_.length c0 (gA v_) w2 (by rw[eF]) o_ (λj u B=>?_) Y).mono ?_
  ·rw[gz];rw[<-bl,fm] at B;split at B
   ·exact aA ((bc x0 bn).trans bd) (by simpa using B)
   ·cases B
  ·rintro e D ⟨v',rfl,A,r⟩;rw[bh] at A;rcases A.2 with ⟨r1,r2⟩|⟨g,cp,cu,r1,_⟩
   ·omega
   ·rw[r1] at A ⊢
    exact⟨g,cp,rfl,A,r⟩
 ·obtain⟨A,r⟩:=G;have hg:=A.lt g rfl;have ah:W.heap[w.heap.size]?=_:=(r.block _ o_).trans bg
  have av:W.heap[w.heap.size+1]?=_:=(r.block _ o_).trans bj
  refine⟨⟨_,aA ah rfl⟩,aE ah,aD ah,[],rfl,⟨?_,by simp[aY],λk q=>?_,?_,aQ ah,?_⟩,trivial⟩
  ·exact aX A λk e=>ej _ _ _ _ (by cases e;show g≠w.heap.size;omega)
  ·simp[aY] at q;subst q;exact⟨hg.1,by simpa using hg.2⟩
  ·exact(ax.trans (r.mono o_)).setCell (d7 _) _
  ·rw[ej _ _ _ _ (by show w.heap.size+1≠w.heap.size;omega)];exact av
 ·obtain⟨i,rfl,a,z⟩:=G;obtain⟨v,f,K,e2,hv,ad,e3,e4⟩:=J i.length B;rw[e3] at a;obtain⟨c1,c2,c3⟩:=a.cell 4 o_
  have ao:=hv.keep (ab a.bel) λ_ h=>h
  obtain⟨x,c,e5,ap⟩:=ao.g_.cells (by have:=(hb f ad).1;omega)
  refine⟨x,f.g_.length,c,c1.trans (by rw[<-e5];rfl),ap.mono ?_⟩
  rintro e D ⟨x',c',ys,he,A,hr,r⟩;have P:∀k,(Value.slice x' f.g_.length c').ownBlock=some k->W.heap.size<=k/\k<D.heap.size:=λk q=>A.lt k q
  have O:=a.keep;refine⟨x',c',he,i,v,f,rfl,K,e2,a.grow r _ P,lQ z (λb m=>r.block b (el (T b m) a.bel.size)) (λk q=>r.block k (a.rng k (fe _ q)).2),⟨ys,iO A o_,hr.keep λb m=>r.block b (el (T b m) a.bel.size)⟩,hv.varsB⟩
 ·obtain⟨i,v,f,rfl,K,e2,a,z,S⟩:=G;obtain⟨c1,c2,c3⟩:=a.cell 4 o_
  have C:∀k∈aY i++(Value.slice x l c).ownBlock.toList,k≠g:=λk q e=>(eu.1 a.nodup).1 (by rw[<-e];exact q)
  have t:∀k,k≠g->(W.setCell ⟨g,i.length*6+4,none⟩ (.slice x l c)).heap[k]?=W.heap[k]?:=λk q=>ej _ _ _ _ q
  have ae:∀b,F b->b≠g:=λb m e=>by have H:=T b m;have h2:=(a.rng g s_).1;omega
  refine⟨⟨_,c1⟩,c2,c3,i,v,f,_,rfl,K,e2,a.set 4 o_ _ rfl,lQ z (λb m=>t b (ae b m)) (λk q=>t k (C k (gd _ q))),S.keep (λb m=>t b (ae b m)) (λ_ h=>h) λk q=>t k (C k (by simp[q]))⟩
 ·obtain⟨i,v,f,x,rfl,K,e2,a,z,S⟩:=G;obtain⟨c1,c2,c3⟩:=a.cell 5 o_
  have B:i.length<v_.length:=(gr.1 K).1;obtain⟨v',f',aa,N,hv,ad,e3,e4⟩:=J i.length B;rw[K] at aa;cases aa;rw[e2] at N;cases N;have ao:=hv.keep (ab a.bel) λ_ h=>h
  obtain⟨y,d,e5,ap⟩:=ao.ops.cells (by have:=(hb f ad).2;omega)
  refine⟨y,f.ops.length,d,c1.trans (by rw[<-e5];rfl),c3,ap.mono ?_⟩
  rintro e D ⟨y',d',ys,he,A,hr,r⟩;have P:∀k,(Value.slice y' f.ops.length d').ownBlock=some k->W.heap.size<=k/\k<D.heap.size:=λk q=>A.lt k q
  have O:=a.keep;have am:∀b,F b->D.heap[b]?=W.heap[b]?:=λb m=>r.block b (el (T b m) a.bel.size)
  refine⟨y',d',he,i,v,f,x,rfl,K,e2,a.grow r _ P,lQ z am (λk q=>r.block k (a.rng k (fe _ (gd _ q))).2),S.keep am (λ_ h=>h) λk q=>r.block k (a.rng k (by simp[q])).2,⟨ys,iO A o_,hr.keep am⟩,hv.opsB⟩
 ·obtain⟨i,v,f,y,rfl,K,e2,a,z,S,bk⟩:=G;obtain⟨c1,c2,c3⟩:=a.cell 5 o_
  have B:i.length<v_.length:=(gr.1 K).1;obtain⟨v',f',aa,N,hv,ad,e3,e4⟩:=J i.length B;rw[K] at aa;cases aa;rw[e2] at N;cases N;have C:∀k∈aY i++y.ownBlock.toList++(Value.slice x l c).ownBlock.toList,k≠g:=λk q e=>(eu.1 a.nodup).1 (by rw[<-e];exact q)
  have t:∀k,k≠g->(W.setCell ⟨g,i.length*6+5,none⟩ (.slice x l c)).heap[k]?=W.heap[k]?:=λk q=>ej _ _ _ _ q
  have ae:∀b,F b->b≠g:=λb m e=>by have H:=T b m;have h2:=(a.rng g s_).1;omega
  have an:∀b,F b->(W.setCell ⟨g,i.length*6+5,none⟩ (.slice x l c)).heap[b]?=W.heap[b]?:=λb m=>t b (ae b m)
  have Z:=a.set (v':={ v with vv:=y,ov:=.slice x l c }) 5 o_ (.slice x l c) rfl
  have af:=hv.keep (ab (Z.bel)) λ_ h=>h
  refine⟨⟨_,c1⟩,c2,c3,i++[{ v with vv:=y,ov:=.slice x l c }],s_,?_,?_⟩
  ·have e5:aY (i++[{ v with vv:=y,ov:=.slice x l c }])=aY i++y.ownBlock.toList++(Value.slice x l c).ownBlock.toList:=by
    rw[LR,fo];rfl
   have e6:i++[{ v with vv:=y,ov:=.slice x l c }]++v_.drop (i.length+1)=i++{ v with vv:=y,ov:=.slice x l c }::v_.drop (i.length+1):=s_
   rw[e5,e6];exact Z
  ·rw[e4];refine(lQ z an (λk q=>t k (C k (by simp[q])))).snoc ⟨af.fn,af.nx,af.ln,af.sp,S.keep an (λ_ h=>h) λk q=>t k (C k (by simp[q])),bk.keep an (λ_ h=>h) λk q=>t k (C k (by simp[q]))⟩
 ·obtain⟨i,X,a,z⟩:=G;rw[List.drop_of_length_le (d7 _),List.append_nil] at a;rw[ai,gp (d7 _)] at z;have O:=a.keep;have au:=aw.keep (ab a.bel) λ_ h=>h
  refine⟨aA a.b1 rfl,?_⟩
  have aj:∀x' l' c' (D:World),D.ownsRow W.heap.size 9 1 (.slice x' l' c') s.m.out.length (lZ s.m.out)->Below W.heap.size W D->∃i,i.length=v_.length/\CI w s.m_ s.stop v_.length g cap tv Q i (aY i++(Value.slice x' l' c').ownBlock.toList) D/\iZ L F (w.heap.size+2) D i s.m.f_/\D.ownsRow (w.heap.size+2) 9 1 (.slice x' l' c') s.m.out.length (lZ s.m.out):=λx' l' c' D A r=>
   ⟨i,X,a.grow r _ λk q=>A.lt k q,lQ z (λb m=>r.block b (el (T b m) a.bel.size)) (λk q=>r.block k (a.rng k (fe _ q)).2),iO A o_⟩
  rcases au with ⟨K,rfl⟩|⟨go,co,cu,rfl,H,h2,h3,h4⟩
  ·refine(sZ W).mono ?_;rintro e D ⟨rfl,rfl⟩;exact⟨none,0,0,rfl,aj _ _ _ _ (by rw[K];exact World.ownsRow_nil _ _ _ _) (eh _ _)⟩
  ·refine(tA go 0 s.m.out.length co (lZ s.m.out) W (by simp[lZ]) o_ (λj u B=>?_) (λu hu=>?_)).mono ?_
   ·rw[gz];rw[<-h4,fm] at B;split at B
    ·exact aA h2 (by simpa using B)
    ·cases B
   ·obtain⟨y,_,rfl⟩:=ia.1 hu;rfl
   ·rintro e D ⟨v',rfl,A,r⟩;obtain⟨x',c',rfl⟩:=cV A;exact⟨x',_,c',rfl,aj _ _ _ _ A r⟩
 ·obtain⟨i,X,a,z,A⟩:=G;exact⟨⟨aA a.b1 rfl,aA a.b1 rfl,aA a.b1 rfl,⟨_,aA a.b1 rfl⟩,aA a.b1 rfl,aE a.b1,aD a.b2⟩,a.b2⟩
 ·obtain⟨i,X,a,z,A⟩:=G
  have be:∀k∈g::(aY i++(Value.slice x l c).ownBlock.toList),k∉[w.heap.size,w.heap.size+1]:=λk q hm=>by
   have:=(a.rng k q).1;simp at hm;omega
  have ak:∀k∈g::(aY i++(Value.slice x l c).ownBlock.toList),W'.heap[k]?=W.heap[k]?:=λk E=>q.block k (a.rng k E).2 (be k E)
  have bm:∀b,F b->W'.heap[b]?=W.heap[b]?:=λb m=>q.block b (el (T b m) a.bel.size) (by have:=T b m;simp;omega)
  have bb:Below w.heap.size w W':=⟨q.os.trans a.bel.os,q.tape.trans a.bel.tape,q.output.trans a.bel.output,by rw[O];exact a.bel.size,λk E=>by
   rw[q.block k (el E a.bel.size) t_,a.bel.block k E]⟩
  have al:∀k,k∈g::((Value.slice x l c).ownBlock.toList++aY i)↔k∈g::(aY i++(Value.slice x l c).ownBlock.toList):=λk=>by simp[or_comm]
  have ac:∀(u:List FVal) (I:List aI),iZ L F (w.heap.size+2) W' u I->iZ L F w.heap.size W' u I:=by
   intro u;induction u with
   |nil=>intro I h;cases I with
    |nil=>trivial
    |cons=>exact h.elim
   |cons v vs ih=>intro I h;cases I with
    |nil=>exact h.elim
    |cons f I=>
     obtain⟨H,h2⟩:=h;obtain⟨⟨xs,a1,a2⟩,a3⟩:=H.g_;obtain⟨⟨ys,b1,b2⟩,b3⟩:=H.ops;exact⟨⟨H.fn,H.nx,H.ln,H.sp,⟨⟨xs,iO a1 o_,a2⟩,a3⟩,⟨⟨ys,iO b1 o_,b2⟩,b3⟩⟩,ih I h2⟩
  refine⟨g,cap,tv,.slice x l c,i,by rw[X],bb,⟨?_,ac _ _ (lQ z bm λk E=>ak k (by simp[E])),ay.keep (λb m=>by rw[bb.block b (T b m)]) (λ_ h=>h),?_,?_,λk E=>?_⟩⟩
  ·rw[X];exact iO (aX a.row λk e=>by cases e;exact ak g s_) o_
  ·exact iO (aX A λk e=>ak k (by simp[e])) o_
  ·have:=a.nodup;rw[eu] at this ⊢
   refine⟨λhm=>this.1 (by simpa [or_comm] using hm),?_⟩
   exact(List.perm_append_comm.nodup_iff).1 this.2
  ·have:=a.rng k ((al k).1 E);exact⟨o_,by rw[O];exact this.2⟩
def ZV(w:World)(b a:Nat)(k i j:Value)(s:a≠0)(f:∃x l c,k=.slice x l c)(d:∃x l c,i=.slice x l c)(g:∃x l c,j=.slice x l c):
 Calls prog 99 #[.agg #[.int .i64 b,k,i,j,.int .i64 a]] w λe m=>e=.returned (.tuple #[.agg #[.int .i64 0,.slice none 0 0,.slice none 0 0,.slice none 0 0,.int .i64 0],.bool false])/\Below w.heap.size w m:=by
 obtain⟨z,v,o,rfl⟩:=f;obtain⟨t,y,q,rfl⟩:=d;obtain⟨n,p,r,rfl⟩:=g;have u:¬(a:Int)=0:=o_
 go_enter func99,ntmps99;go_wp2_with fail;refine⟨rfl,.tuple #[.agg #[.int .i64 0,.slice none 0 0,.slice none 0 0,.slice none 0 0,.int .i64 0],.bool false],?_,rfl,((eh _ w).alloc (d7 _) _).alloc s_ _⟩
 simp[results,results99,go_sem]
def ZU(w Z:World)(a:Nat)(y u v:Value)(P:Value->World->Prop)(A:Nat->Nat->Nat->Value->Value->World->Prop)(B:Nat->World->Prop)(ht:a<=1000000)(G:∃x l c,y=.slice x l c)(F:∃x l c,u=.slice x l c)(D:∃x l c,v=.slice x l c)
 (T:(w.alloc (.cells #[.int .i64 a,y,u,v,.int .i64 0] 72)).alloc (.cells #[.int .i64 0,.slice none 0 0,.slice none 0 0,.slice none 0 0,.int .i64 0] 72)=Z)
 (HC:Hid (Calls prog 147 #[.agg #[.int .i64 a,y,u,v,.int .i64 0]] Z λe s=>∃gf n cap d g,e=.returned (.agg #[.int .i64 a,.slice (some ⟨gf,0,none⟩) n cap,d,g,.int .i64 0])/\(∃x l c,d=.slice x l c)/\(∃x l c,g=.slice x l c)/\A gf n cap d g s))
 (HG:Hid (∀gf n cap d g W,A gf n cap d g W->Calls prog 68 #[.pointer (some ⟨W.heap.size,0,none⟩)] (W.alloc (.cells #[.int .i64 ((a+1:Nat):Int),.slice (some ⟨gf,0,none⟩) n cap,d,g,.int .i64 0] 72)) λe s=>e=.returned (.tuple #[])/\B W.heap.size s))
 (HB:Hid (∀b W,B b W->∃(q:Nat) (f t o:Value) (r:Nat),W.heap[b]?=some (.cells #[.int .i64 q,f,t,o,.int .i64 r] 72 (0,0))/\(∃x l c,f=.slice x l c)/\(∃x l c,t=.slice x l c)/\(∃x l c,o=.slice x l c)/\W.heap[w.heap.size+1]?=some (.cells #[.int .i64 0,.slice none 0 0,.slice none 0 0,.slice none 0 0,.int .i64 0] 72 (0,0))/\b≠w.heap.size+1/\
   ∀W',Kept [w.heap.size+1] W W'->W'.heap.size=W.heap.size->P (.agg #[.int .i64 q,f,t,o,.int .i64 r]) W')):
 Calls prog 99 #[.agg #[.int .i64 a,y,u,v,.int .i64 0]] w λe s=>∃v',e=.returned (.tuple #[v',.bool true])/\P v' s:=by
 obtain⟨x1,l1,c1,rfl⟩:=G;obtain⟨x2,l2,c2,rfl⟩:=F;obtain⟨x3,l3,c3,rfl⟩:=D;have HW:=aB T;clear T;go_enter func99,ntmps99;go_wp2_with fail;rw[HW.out];refine HC.out.mono ?_;rintro e w3 ⟨gf,n,cap,d,g,rfl,⟨y2,m2,d2,rfl⟩,⟨y3,m3,d3,rfl⟩,J⟩;have m:=aB (HG.out _ _ _ _ _ _ J);generalize hb:w3.heap.size=b at m;clear J;rw[show ((a+1:Nat):Int)=(a:Int)+1 by omega] at m
 go_wp2_with fail;refine m.out.mono ?_;rintro e k ⟨rfl,M⟩;obtain⟨q,f,t,o,r,p,⟨N,S,O,rfl⟩,⟨U,Y,V,rfl⟩,⟨K,L,Q,rfl⟩,j,q3,X⟩:=HB.out _ _ M;have HQ:=aB X;have ah:k.cell? ⟨b,0,none⟩=some (.int .i64 q):=aA p rfl;have al:k.cell? ⟨b,1,none⟩=some (.slice N S O):=aA p rfl;have ae:k.cell? ⟨b,2,none⟩=some (.slice U Y V):=aA p rfl;have ag:k.cell? ⟨b,3,none⟩=some (.slice K L Q):=aA p rfl;have ac:k.cell? ⟨b,4,none⟩=some (.int .i64 r):=aA p rfl;have z:k.cell? ⟨w.heap.size+1,0,none⟩=some (.int .i64 0):=aA j rfl;have I:k.cell? ⟨w.heap.size+1,1,none⟩=some (.slice none 0 0):=aA j rfl;have C:k.cell? ⟨w.heap.size+1,2,none⟩=some (.slice none 0 0):=aA j rfl;have E:k.cell? ⟨w.heap.size+1,3,none⟩=some (.slice none 0 0):=aA j rfl;have H:k.cell? ⟨w.heap.size+1,4,none⟩=some (.int .i64 0):=aA j rfl;have aj:=aE (i:=0) j;have ak:=aE (i:=1) j;have af:=aE (i:=2) j;have ab:=aE (i:=3) j;have ad:=aE (i:=4) j;have aa:=aD p;have ai:=aD j;clear M X p j;go_wp2_with fail;refine⟨rfl,.tuple #[.agg #[.int .i64 q,.slice N S O,.slice U Y V,.slice K L Q,.int .i64 r],.bool true],?_,_,rfl,HQ.out _ ?_ s_⟩
 ·simp[results,results99,go_sem,z,I,C,E,H]
 ·exact(((((Kept.refl _ _).setCell _ _ s_).setCell _ _ s_).setCell _ _ s_).setCell _ _ s_).setCell _ _ s_
def tW{k:Nat}{t:TypeId}{a:List Value}(h:w.ownsRow b_ t k v n a):∃x l c,v=.slice x l c:=by
 obtain⟨x,c,e⟩:=cV h;exact⟨x,n,c,e⟩
def AL.of{own:List Nat}(h:kI w)(d:Below w.heap.size w w')(i:∀k∈own,w.heap.size<=k):AL own w':=λW f=>by
 cases c:prog.globalNamed "internal/strconv.uint64pow10" with
 |none=>unfold kI Lib.TabIs World.var? at h;rw[c] at h;cases h
 |some g=>
  have a:g<w.heap.size:=by
   unfold kI Lib.TabIs World.var? at h;rw[c] at h;simp only[Option.bind_some] at h;rcases fk g w.heap.size with b|b
   ·exact b
   ·rw[gx (by exact b)] at h
    cases h
  refine h.keep c ?_;rw[f.block g (el a d.size) (λe=>by have:=i g e;omega),d.block g a]
def oA.form{i:Nat->Value}(h:oA i F w v s):∃b tv xo,v=.agg #[.int .i64 s.m_,b,tv,xo,.int .i64 s.stop]/\(∃x l c,b=.slice x l c)/\(∃x l c,tv=.slice x l c)/\(∃x l c,xo=.slice x l c):=by
 obtain⟨b,tv,xo,m,rfl,a,j,f,d⟩:=h;refine⟨b,tv,xo,rfl,?_,?_,?_⟩
 ·rcases a with ⟨_,x,c,e⟩|⟨g,c,k,e,_⟩<;>exact⟨_,_,_,e⟩
 ·rcases f with ⟨_,x,c,e⟩|⟨g,o,c,e,_⟩<;>exact⟨_,_,_,e⟩
 ·rcases d with ⟨_,e⟩|⟨g,c,n,e,_⟩<;>exact⟨_,_,_,e⟩
def SP.run{t:Nat->Value}{gf g:Nat}{j a:Value}{c:List FVal}{m:bX}(h:SP t F b_ w gf g j a c m)(v:∀b,F b->b<b_)(f:b_<=w.heap.size)(q p:Value):
 cT t F b_ (w.alloc (.cells #[q,.slice (some ⟨gf,0,none⟩) c.length g,j,a,p] 72)) w.heap.size gf g q j a p c m/\∀k∈aF w.heap.size gf a c,b_<=k:=by
 generalize r:w.alloc (.cells #[q,.slice (some ⟨gf,0,none⟩) c.length g,j,a,p] 72)=W;have u:Below w.heap.size w W:=by rw[<-r];exact(eh _ w).alloc (d7 _) _
 have x:W.heap.size=w.heap.size+1:=by rw[<-r];simp
 have n:W.heap[w.heap.size]?=some (.cells #[q,.slice (some ⟨gf,0,none⟩) c.length g,j,a,p] 72 (0,0)):=by rw[<-r];exact aS _ _ rfl _
 have o:∀b,F b->W.heap[b]?=w.heap[b]?:=λb s=>u.block b (el (v b s) f)
 have i:∀k∈gf::(a.ownBlock.toList++aY c),W.heap[k]?=w.heap[k]?:=λk d=>u.block k (h.rng k d).2
 refine⟨⟨n,aX h.row λk e=>by cases e;exact i gf s_,lQ h.frs o λk d=>i k (by simp[d]),h.tape.keep o (λ_ h=>h),aX h.out λk e=>i k (by simp[e]),?_,λk d=>?_,λk d=>?_⟩,λk d=>?_⟩
 ·exact eu.2 ⟨λl=>by have:=(h.rng _ l).2;omega,h.nodup⟩
 ·rcases en.1 d with rfl|d
  ·omega
  ·have:=(h.rng k d).2;omega
 ·have y:=v k d;refine⟨o_,λl=>?_⟩
  rcases en.1 l with rfl|l
  ·omega
  ·have:=(h.rng k l).1;omega
 ·rcases en.1 d with rfl|d
  ·exact f
  ·exact(h.rng k d).1
def TP{N:Nat->Value}{ar:Nat->Option Nat}{C:List dQ}{k:Nat}{r:bX × Nat}(ht:kA ar C)(ak:jS C)(h:oA N F w v s)(hF:∀b,F b->b<w.heap.size)(hT:lE N F w C)(hp:kI w)(hs:s.stop=0)
 (hA:fI ar s.m) (Y:s.m.f_≠[]) (hU:fS s.m) (ab:s.m.out.length<=50) (an:s.m.tape.length<=17592186044416) (hk:dV C k s.m=some r) (aq:s.m_+1<=1000000) (hr:r.2<=1000):
 Calls prog 99 #[v] w λe J=>∃v',e=.returned (.tuple #[v',.bool true])/\Below w.heap.size w J/\∃G,Ext F G w.heap.size/\(∀b,G b->b<J.heap.size)/\oA N G J v' ⟨s.m_+1,r.1,bS (s.m_+1) r.2⟩:=by
 obtain⟨fv,tv,xo,rfl,f1,f2,f3⟩:=h.form
 have ae:∀f∈s.m.f_,f.g_.length<=90001/\f.ops.length<=99000:=λf hf=>by
  have hq:∃O,cJ ar f O:=by
   obtain⟨b,g,e⟩:=mZ Y;rw[e] at hf;have K:=hA.ok.low;have S:=hA.ok.top;rw[e,fY] at K;rw[e,fC] at S;rcases eo.1 hf with l|l
   ·exact⟨1,K f l⟩
   ·rw[et.1 l];exact⟨0,S g rfl⟩
  obtain⟨O,⟨T,L,hh,_⟩,hn,_,hv⟩:=hq;have l:=(L.ins _ _ (fg hn)).2.1;have h2:=L.len;exact⟨hv,o_⟩
 rw[hs] at h ⊢
 generalize I:(w.alloc (.cells #[.int .i64 s.m_,fv,tv,xo,.int .i64 (0:Nat)] 72)).alloc (.cells #[.int .i64 0,.slice none 0 0,.slice none 0 0,.slice none 0 0,.int .i64 0] 72)=m;have t:Below w.heap.size w m:=by rw[<-I];exact((eh _ w).alloc (d7 _) _).alloc s_ _
 have ap:m.heap.size=w.heap.size+2:=by rw[<-I];simp
 have aj:m.heap[w.heap.size+1]?=some (.cells #[.int .i64 0,.slice none 0 0,.slice none 0 0,.slice none 0 0,.int .i64 0] 72 (0,0)):=by
  rw[<-I];exact aS _ _ s_ _
 have ai:∀b,F b->b<m.heap.size:=λb Z=>el (hF b Z) t.size
 have h2:oA N F m (.agg #[.int .i64 s.m_,fv,tv,xo,.int .i64 (0:Nat)]) s:=by
  have:=h.keep (λb Z=>t.block b (hF b Z)) (λ_ h=>h)
  exact this
 refine(ZU w m s.m_ fv tv xo (λv' J=>Below w.heap.size w J/\∃G,Ext F G w.heap.size/\(∀b,G b->b<J.heap.size)/\oA N G J v' ⟨s.m_+1,r.1,bS (s.m_+1) r.2⟩)
  (λz n q p U W=>∃i,n=i.length/\Below m.heap.size m W/\SP N F m.heap.size W z q p U i s.m)
  (λb W=>∃W0 z q p j i G,(Below m.heap.size m W/\m.heap.size<=b)/\(m.heap.size<=W0/\Ext F G W0)/\cT N G m.heap.size W b z q (.int .i64 ((s.m_+1:Nat):Int)) p j (.int .i64 (bS (s.m_+1) r.2)) i r.1/\∀k∈aF b z j i,m.heap.size<=k)
  (by omega) f1 f2 f3 I ?_ (λz n q p U W hq=>?_) (λb W hq=>?_))
 ·refine(WI h2 ai Y hA.ok.deep ae ab).mono ?_;rintro e J ⟨v',rfl,z,q,p,j,i,rfl,y,L⟩;rw[hs];refine⟨z,i.length,q,p,j,rfl,?_,tW L.out,i,rfl,y,L⟩;rcases L.tape with ⟨_,x,c,e⟩|⟨g,o,c,e,_⟩<;>exact⟨_,_,_,e⟩
 ·obtain⟨i,rfl,y,L⟩:=hq;obtain⟨Q,E⟩:=L.run ai y.size (.int .i64 ((s.m_+1:Nat):Int)) (.int .i64 0);generalize al:W.alloc (.cells #[.int .i64 ((s.m_+1:Nat):Int),.slice (some ⟨z,0,none⟩) i.length q,p,U,.int .i64 0] 72)=X at Q;have ao:Below W.heap.size W X:=by rw[<-al];exact(eh _ W).alloc (d7 _) _
  have d:Below m.heap.size m X:=y.trans (ao.mono y.size);have P:Below w.heap.size w X:=t.trans (d.mono t.size);have am:lE N F X C:=hT.keep (λb Z=>P.block b (hF b Z)) λ_ h=>h
  refine(QN ht ak Q am (AL.of hp P λk hk=>em t.size (E k hk)) d.size hA hU ab an hk o_ hr).mono ?_
  rintro e J ⟨he,D,G,ah,ac,ag,A,M,d1,d2,d3⟩
  have af:∀x∈aF W.heap.size ah A M,m.heap.size<=x:=λx hx=>by
   rcases d3 x hx with l|l
   ·exact E x l
   ·exact em d.size l
  refine⟨he,X.heap.size,ah,ac,ag,A,M,G,⟨⟨D.os.trans d.os,D.tape.trans d.tape,D.output.trans d.output,em d.size D.size,λk a=>?_⟩,y.size⟩,⟨d.size,d1⟩,d2,af⟩
  rw[D.block k (el a d.size) (λhm=>by have:=E k hm;omega),d.block k a]
 ·obtain⟨W0,z,q,p,j,i,G,⟨g1,g2⟩,⟨g3,g4⟩,V,g6⟩:=hq;have ad:=V.blk;refine⟨_,_,_,_,_,ad,⟨_,_,_,rfl⟩,?_,tW V.out,by rw[g1.block _ o_];exact aj,o_,λX B aa=>?_⟩
  ·rcases V.tape with ⟨_,x,c,e⟩|⟨g,o,c,e,_⟩<;>exact⟨_,_,_,e⟩
  ·have u:Below w.heap.size w W:=t.trans (g1.mono t.size);have hS:=V.kept (G:=λk=>G k\/(k∈aF b z j i/\k≠b)) (λ_ h=>d6 h) (λk a hn=>d5 ⟨a,hn⟩)
   have H:∀k,(G k\/(k∈aF b z j i/\k≠b))->k≠w.heap.size+1/\k<W.heap.size:=λk a=>by
    rcases a with l|⟨l,_⟩
    ·refine⟨?_,(V.apart k l).1⟩;rcases g4.new k l with h3|h3
     ·have:=hF k h3;omega
     ·omega
    ·have:=g6 k l;exact⟨o_,V.lt k l⟩
   refine⟨⟨B.os.trans u.os,B.tape.trans u.tape,B.output.trans u.output,by rw[aa];exact u.size,λk a=>?_⟩,λk=>G k\/(k∈aF b z j i/\k≠b),⟨λk a=>d6 (g4.sub k a),λk a=>?_⟩,λk a=>by rw[aa];exact(H k a).2,hS.keep (λk a=>B.block k (H k a).2 (by simpa using (H k a).1)) λ_ h=>h⟩
   ·rw[B.block k (el a u.size) t_,u.block k a]
   ·rcases a with l|⟨l,_⟩
    ·rcases g4.new k l with h3|h3
     ·exact d6 h3
     ·exact d5 o_
    ·exact d5 (by have:=g6 k l;omega)
end Go.Proofs.YthbffcmfmjpncaaGreatDoor
