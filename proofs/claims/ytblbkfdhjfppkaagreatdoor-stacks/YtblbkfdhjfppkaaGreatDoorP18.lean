/- Contracts of the program: the moment is told: the walks. -/
import Derived.Test.YtblbkfdhjfppkaaGreatDoorB09
import Derived.Test.YtblbkfdhjfppkaaGreatDoorP17
set_option linter.defProp false
set_option maxRecDepth 100000
set_option maxHeartbeats 4000000
namespace Go.Proofs.YtblbkfdhjfppkaaGreatDoor
open Hs
open _root_.Go.Proofs.Tryz
open Instr(typeAssert)
open Go.RowKit
def MA{W:World}{b:Nat}{s:SV}{T:TypeId}(h:W.heap[b]?=some (.cells s.cells T (0,0))):W.cell? ⟨b,0,none⟩=some (.int .i64 s.t)/\W.cell? ⟨b,1,none⟩=some (.slice s.x1 s.n1 s.c1)/\W.cell? ⟨b,2,none⟩=some (.slice s.x2 s.n2 s.c2)/\W.cell? ⟨b,3,none⟩=some (.slice s.x3 s.n3 s.c3)/\W.cell? ⟨b,4,none⟩=some (.int .i64 s.q):=
 ⟨aA h rfl,aA h rfl,aA h rfl,aA h rfl,aA h rfl⟩
def yA(w:World)(s:SV)(P A3:SV->World->Prop)(A1:Option Addr->Nat->Nat->World->Prop)(A2:Option Addr->Nat->Nat->Option Addr->Nat->Nat->World->Prop)
 (HS:Hid (∀W,aQ ((w.alloc (.cells s.cells 108)).alloc (.cells #[.int .i64 0,.slice none 0 0,.slice none 0 0,.slice none 0 0,.int .i64 0] 63)) W->Calls prog 107 #[s.val] W fun e F=>∃x n c,e=.returned (.slice x n c)/\A1 x n c F))
 (HV:Hid (∀x n c W,A1 x n c W->W.heap[w.heap.size]?=some (.cells s.cells 108 (0,0))/\Calls prog 108 #[s.val] W fun e F=>∃l o g,e=.returned (.slice l o g)/\A2 x n c l o g F))
 (HC:Hid (∀x n c l o g W,A2 x n c l o g W->W.heap[w.heap.size]?=some (.cells s.cells 108 (0,0))/\Calls prog 109 #[.slice s.x3 s.n3 s.c3] W fun e F=>∃B C A,e=.returned (.slice B C A)/\A3 ⟨s.t,x,l,B,n,o,C,c,g,A,s.q⟩ F))
 (HP:Hid (∀m W,A3 m W->W.heap[w.heap.size]?=some (.cells s.cells 108 (0,0))/\(∃c,W.heap[w.heap.size+1]?=some (.cells c 63 (0,0))/\c.size=5)/\P m (dR W (w.heap.size+1) m))):
 Calls prog 60 #[s.val] w fun e F=>∃m:SV,e=.returned m.val/\P m F:=by
 unfold SV.val SV.cells at HS;have z:=HV;unfold SV.val at z;unfold SV.val;go_enter func60,ntmps60;go_wp2_with fail;have HH:=aB (aQ.drew ((w.alloc (.cells #[.int .i64 s.t,.slice s.x1 s.n1 s.c1,.slice s.x2 s.n2 s.c2,.slice s.x3 s.n3 s.c3,.int .i64 s.q] 108)).alloc (.cells #[.int .i64 0,.slice none 0 0,.slice none 0 0,.slice none 0 0,.int .i64 0] 63)));have M:((w.alloc (.cells #[.int .i64 s.t,.slice s.x1 s.n1 s.c1,.slice s.x2 s.n2 s.c2,.slice s.x3 s.n3 s.c3,.int .i64 s.q] 108)).alloc (.cells #[.int .i64 0,.slice none 0 0,.slice none 0 0,.slice none 0 0,.int .i64 0] 63)).drew.heap[w.heap.size]?=some (.cells (SV.cells s) 108 (0,0)):=(aA_ _ _ _ (by simp)).trans (aM _ _ rfl _)
 have g:=MA M;clear M;refine wp_region_held_drew (S:=fun W=>W.cell? ⟨w.heap.size,0,none⟩=some (.int .i64 s.t)/\W.cell? ⟨w.heap.size,1,none⟩=some (.slice s.x1 s.n1 s.c1)/\W.cell? ⟨w.heap.size,2,none⟩=some (.slice s.x2 s.n2 s.c2)/\W.cell? ⟨w.heap.size,3,none⟩=some (.slice s.x3 s.n3 s.c3)/\W.cell? ⟨w.heap.size,4,none⟩=some (.int .i64 s.q)) (by kernel_rfl) g (fun a=>?_)
 clear g;(refine wpAnyH_take (i:=0) (v:=?_) rfl (by kernel_rfl) (by kernel_rfl) (by kernel_rfl) (fun _ _ _ h=>h) (av_ ⟨by rfl,?_⟩) a ?_;rotate_left;(rintro w ⟨t,u,r,p,y⟩;go_simp<;>with_reducible rfl))
 (refine wpAnyH_take (i:=1) (v:=?_) rfl (by kernel_rfl) (by kernel_rfl) (by kernel_rfl) (fun _ _ _ h=>h) (av_ ⟨by rfl,?_⟩) a ?_;rotate_left;(rintro w ⟨t,u,r,p,y⟩;go_simp<;>with_reducible rfl))
 (refine wpAnyH_take (i:=2) (v:=?_) rfl (by kernel_rfl) (by kernel_rfl) (by kernel_rfl) (fun _ _ _ h=>h) (av_ ⟨by rfl,?_⟩) a ?_;rotate_left;(rintro w ⟨t,u,r,p,y⟩;go_simp<;>with_reducible rfl))
 (refine wpAnyH_take (i:=4) (v:=?_) rfl (by kernel_rfl) (by kernel_rfl) (by kernel_rfl) (fun _ _ _ h=>h) (av_ ⟨by rfl,?_⟩) a ?_;rotate_left;(rintro w ⟨t,u,r,p,y⟩;go_simp<;>with_reducible rfl))
 (refine wpAnyH_take (i:=6) (v:=?_) rfl (by kernel_rfl) (by kernel_rfl) (by kernel_rfl) (fun _ _ _ h=>h) (av_ ⟨by rfl,?_⟩) a ?_;rotate_left;(rintro w ⟨t,u,r,p,y⟩;go_simp<;>with_reducible rfl))
 (refine wpAnyH_take (i:=7) (v:=?_) rfl (by kernel_rfl) (by kernel_rfl) (by kernel_rfl) (fun _ _ _ h=>h) (av_ ⟨by rfl,?_⟩) a ?_;rotate_left;(rintro w ⟨t,u,r,p,y⟩;go_simp<;>with_reducible rfl))
 (refine wpAnyH_take (i:=9) (v:=?_) rfl (by kernel_rfl) (by kernel_rfl) (by kernel_rfl) (fun _ _ _ h=>h) (av_ ⟨by rfl,?_⟩) a ?_;rotate_left;(rintro w ⟨t,u,r,p,y⟩;go_simp<;>with_reducible rfl))
 (refine wpAnyH_take (i:=10) (v:=?_) rfl (by kernel_rfl) (by kernel_rfl) (by kernel_rfl) (fun _ _ _ h=>h) (av_ ⟨by rfl,?_⟩) a ?_;rotate_left;(rintro w ⟨t,u,r,p,y⟩;go_simp<;>with_reducible rfl))
 refine wpAnyH_ready (rs:=[3]) (by kernel_rfl) (by simp) ?_
 refine AllReadyH.cons rfl (fun K k=>?_) AllReadyH.nil
 go_simp;go_at_call 107
 refine(HS.out _ HH.out).mono ?_;rintro e w3 ⟨x1,Z,Y,rfl,h3⟩;obtain⟨N,Q⟩:=z.out _ _ _ _ h3;have G:=aB Q;have V:=MA N;clear h3 N Q HS HV z HH;go_wp2_with fail;refine k.out _ _ V (fun a=>?_)
 clear k K V;refine wpAnyH_ready (rs:=[5]) (by kernel_rfl) (by simp) ?_
 refine AllReadyH.cons rfl (fun K k=>?_) AllReadyH.nil
 go_simp;go_at_call 108
 refine G.out.mono ?_;rintro e w4 ⟨l,o,g,rfl,h4⟩;obtain⟨X,L⟩:=HC.out _ _ _ _ _ _ _ h4;have J:=aB L;have I:=MA X;clear h4 X L HC G;go_wp2_with fail;refine k.out _ _ I (fun a=>?_)
 clear k K I;refine wpAnyH_ready (rs:=[8]) (by kernel_rfl) (by simp) ?_
 refine AllReadyH.cons rfl (fun K k=>?_) AllReadyH.nil
 go_simp;go_at_call 109
 refine J.out.mono ?_;rintro e w5 ⟨B,C,A,rfl,h5⟩;obtain⟨U,⟨c,H,ab⟩,T⟩:=HP.out _ _ h5;have d:=MA U;have E:=aB T;have b:=aB H;clear h5 U T HP J;go_wp2_with fail;refine k.out _ _ d (fun a=>?_)
 clear k K;(refine wpAnyH_take (i:=11) (v:=?_) rfl (by kernel_rfl) (by kernel_rfl) (by kernel_rfl) (fun _ _ _ h=>h) (av_ ⟨by rfl,?_⟩) a ?_;rotate_left;(rintro w ⟨t,u,r,p,y⟩;go_simp<;>with_reducible rfl))
 refine wpAnyH_ready (rs:=[12]) (by kernel_rfl) (by simp) ?_
 refine AllReadyH.cons rfl (fun K k=>?_) AllReadyH.nil
 have g0:=aA (i:=0) b.out (aC_ (by omega))
 have g1:=aA (i:=1) b.out (aC_ (by omega))
 have g2:=aA (i:=2) b.out (aC_ (by omega))
 have g3:=aA (i:=3) b.out (aC_ (by omega))
 have g4:=aA (i:=4) b.out (aC_ (by omega))
 have f0:=aE (i:=0) b.out;have f1:=aE (i:=1) b.out;have f2:=aE (i:=2) b.out;have f3:=aE (i:=3) b.out;have f4:=aE (i:=4) b.out;have l5:=aD b.out;have hs:=mR (W:=w5) (s:=⟨s.t,x1,l,B,Z,o,C,Y,g,A,s.q⟩) b.out (by omega) rfl
 have O:∀i,(dR w5 (w.heap.size+1) ⟨s.t,x1,l,B,Z,o,C,Y,g,A,s.q⟩).cell? ⟨w.heap.size,i,none⟩=w5.cell? ⟨w.heap.size,i,none⟩:=fun i=>World.cell?_of_block (cV _ _ _ _ (show w.heap.size≠w.heap.size+1 by omega))
 have D:=aB hs;have f:=aB O;clear H hs O;unfold dR at D E f;go_simp;refine k.out _ _ ⟨(f.out 0).trans d.1,(f.out 1).trans d.2.1,(f.out 2).trans d.2.2.1,(f.out 3).trans d.2.2.2.1,(f.out 4).trans d.2.2.2.2⟩ (fun a=>?_)
 refine wpAnyH_done (by kernel_rfl) ?_ _
 have q:=D.out;have j:=E.out;clear D E b f g0 g1 g2 g3 g4 f0 f1 f2 f3 f4 a k d;generalize ((((w5.setCell ⟨w.heap.size+1,0,none⟩ (.int .i64 s.t)).setCell ⟨w.heap.size+1,1,none⟩ (.slice x1 Z Y)).setCell ⟨w.heap.size+1,2,none⟩ (.slice l o g)).setCell ⟨w.heap.size+1,3,none⟩ (.slice B C A)).setCell ⟨w.heap.size+1,4,none⟩ (.int .i64 s.q)=W6 at q j ⊢
 obtain⟨r0,r1,r2,r3,r4⟩:=q;have aa:=aB j;clear j;go_wp2_with fail;exact bodyPost_ret (v:=.agg #[.int .i64 s.t,.slice x1 Z Y,.slice l o g,.slice B C A,.int .i64 s.q]) (by simp[results,results60,go_sem,r0,r1,r2,r3,r4]) rfl ⟨_,rfl,aa.out⟩
def RD:∀(n:Nat) (l:List UInt8),l.length<=n->∀c∈dS l,c.length<=l.length:=by
 intro n;induction n with
 |zero=>
  intro l f c a;rw[dO (av_ (br_.1 (by omega)))] at a
  cases a
 |succ n e=>
  intro l f c a;by_cases d:l=[]
  ·rw[dO (av_ d)] at a;cases a
  by_cases b:bF l=0
  ·rw[dO (as_ b)] at a;cases a
  rw[gZ d b] at a;rcases aG_.1 a with rfl|a
  ·rw[bc_];omega
  ·have:=e _ (by rw[bf_];omega) c a
   rw[bf_] at this;omega
def PH(a b:aJ)(h:aK a<=200):aK (dB a b).1<=200:=by
 unfold dB;split
 ·exact jE
 split
 ·exact jE
 have e:∀x∈jG a,aK x<=200:=fun x d=>by
  unfold jG at d;rw[eR] at h;split at d
  ·obtain⟨c,g,rfl⟩:=bz_.1 d;have:=RD _ _ (au_ _) c g;rw[kP];omega
  ·have:=lN d;omega
 show aK ((jG a).getD b.n.toNat bN)<=200
 rw[List.getD_eq_getElem?_getD];cases f:(jG a)[b.n.toNat]? with
 |none=>exact jE
 |some x=>exact e x (bb_ f)
def KX(a:aJ):aK (dW a).1<=200:=by
 unfold dW;repeat' split
 all_goals first|(show aK (bC _)<=200;rw[kA];omega)|exact jE
section
variable {fp:Nat->Value} {F:Nat->Prop} {base:Nat} {w:World} {sb gf cap:Nat} {t0 tv outv s0:Value} {fvs:List FVal} {below:List aI} {f:aI} {tape:List Int} {out:List (List UInt8)}
def O2(h:cT fp F base w sb gf cap t0 tv outv s0 fvs ⟨below++[f],tape,out⟩)(A:below.length<=15)(j:base<=w.heap.size)(n:f.ops.length<=99000)(I:∃H a b,f.ops=H++[a,b]/\bQ a):
 Calls prog 380 #[.agg #[],.pointer (some ⟨sb,0,none⟩)] w (nY fp F base sb t0 s0 (aF sb gf outv fvs) w below tape out (aL .index f)):=by
 obtain⟨H,a,b,m,K⟩:=I;have m:f.ops=(H++[a])++[b]:=by rw[m];simp
 have O:=h.mid j (.cells #[] 405);have i:f.pop.ops=H++[a]:=mF m;have x:=n;rw[m,aw_,aw_] at x;have N:f.pop.ops.length<=100000:=by rw[i,aw_];omega
 have L:f.pop.pop.ops.length<=100000:=by rw[mF i];omega
 have Q:aL .index f=if (dB a b).2=0 then (f.pop.pop.push (dB a b).1,0) else (f.pop.pop,(dB a b).2):=by simp[aL,iS m,iS i]
 have C:aK a<=200->aK (dB a b).1<=200:=PH a b;have q:∀(W:World) (u v:Value),PV F W u a->PV F W v b->(∀k,F k->k<W.heap.size)->aK a<=200->aK b<=200->Calls prog 381 #[u,v] W (eM F W (dB a b)):=fun W u v c d l p s=>U4 F u v a b W c d K (by omega) l
 generalize dB a b=r at q Q C;rw[Q]
 refine(LD w _ sb gf (below.length*6) r.2 (fun g=>r.2=0/\Done fp F base sb t0 s0 (aF sb gf outv fvs) w ⟨below++[f.pop.pop.push r.1],tape,out⟩ g) (fun g=>r.2≠0/\Done fp F base sb t0 s0 (aF sb gf outv fvs) w ⟨below++[f.pop.pop],tape,out⟩ g)
  (fun t z W=>PV F W (.iface t z) b/\aK b<=200/\Mid fp base sb gf below.length t0 s0 (aF sb gf outv fvs) (w.alloc (.cells #[] 405)) F ⟨below++[f.pop],tape,out⟩ W)
  (fun t z D E W=>PV F W (.iface t z) b/\aK b<=200/\PV F W (.iface D E) a/\aK a<=200/\Mid fp base sb gf below.length t0 s0 (aF sb gf outv fvs) (w.alloc (.cells #[] 405)) F ⟨below++[f.pop.pop],tape,out⟩ W)
  (fun t z W=>(r.2=0/\aK r.1<=200)/\∃G,Ext F G w.heap.size/\PV G W (.iface t z) r.1/\Mid fp base sb gf below.length t0 s0 (aF sb gf outv fvs) (w.alloc (.cells #[] 405)) G ⟨below++[f.pop.pop],tape,out⟩ W) rfl (O.topS A) (fun W hS=>?_) (fun W t z o=>?_) (fun W t z D E o=>?_) (fun W t z o=>?_)).mono ?_
 ·refine((O.same hS).pop m (by omega)).mono ?_
  rintro e g ⟨t,z,B,c,d,l⟩;exact⟨t,z,B,c,d,l⟩
 ·obtain⟨c,d,l⟩:=o;refine(l.popK i N).mono ?_;rintro e g ⟨D,E,B,T,Z,U,k4⟩;exact⟨D,E,B,c.keep k4,d,T,Z,U⟩
 ·obtain⟨c,d,l,p,s⟩:=o;refine(q W _ _ l c (fun k J=>(s.apart k J).1) p d).mono ?_
  rintro e g ⟨P,⟨y,u,rfl,S⟩|⟨y,rfl⟩⟩
  ·obtain⟨X,V,rfl⟩:=S.form;exact av_ ⟨X,V,rfl,⟨y,C p⟩,Grow F W g,⟨fun _=>av_,fun k J=>J.imp_right fun c=>aF_ (aF_ (by simp) s.1.size) c.1⟩,S,s.grow P (fun _=>av_) fun _ h=>h⟩
  ·exact as_ ⟨rfl,y,(s.grow P (fun _ h=>h) fun _=>av_).done (Ext.refl _ _)⟩
 ·obtain⟨⟨y,M⟩,G,Y,c,d⟩:=o;refine(d.push c M L).mono ?_;rintro e g ⟨B,p⟩;exact⟨B,y,p.done Y⟩
 ·rintro e g (⟨rfl,c,d⟩|⟨rfl,c,d⟩)
  ·exact nY.ok (if_pos c) d
  ·exact nY.stop (if_neg c) c d
def A6(h:cT fp F base w sb gf cap t0 tv outv s0 fvs ⟨below++[f],tape,out⟩)(m:below.length<=15)(g:base<=w.heap.size)(i:f.ops.length<=99000)(p:∃B a,f.ops=B++[a]/\bQ a):
 Calls prog 398 #[.agg #[],.pointer (some ⟨sb,0,none⟩)] w (nY fp F base sb t0 s0 (aF sb gf outv fvs) w below tape out (aL .length f)):=by
 obtain⟨B,a,o,q⟩:=p;have y:=h.mid g (.cells #[] 439);have K:f.pop.ops.length<=100000:=by rw[mF o];rw[o,aw_] at i;omega
 have D:aL .length f=if (dW a).2=0 then (f.pop.push (dW a).1,0) else (f.pop,(dW a).2):=by simp[aL,iS o]
 have n:=KX a;have j:∀(W:World) (u:Value),PV F W u a->aK a<=200->Calls prog 399 #[u] W (eM F W (dW a)):=fun W u b C=>K7 F u a W b q (by omega)
 generalize dW a=r at j D n;rw[D]
 refine(FI w _ sb gf (below.length*6) r.2 (fun d=>r.2=0/\Done fp F base sb t0 s0 (aF sb gf outv fvs) w ⟨below++[f.pop.push r.1],tape,out⟩ d) (fun d=>r.2≠0/\Done fp F base sb t0 s0 (aF sb gf outv fvs) w ⟨below++[f.pop],tape,out⟩ d)
  (fun t z W=>PV F W (.iface t z) a/\aK a<=200/\Mid fp base sb gf below.length t0 s0 (aF sb gf outv fvs) (w.alloc (.cells #[] 439)) F ⟨below++[f.pop],tape,out⟩ W)
  (fun t z W=>r.2=0/\∃G,Ext F G w.heap.size/\PV G W (.iface t z) r.1/\Mid fp base sb gf below.length t0 s0 (aF sb gf outv fvs) (w.alloc (.cells #[] 439)) G ⟨below++[f.pop],tape,out⟩ W) rfl (y.topS m) (fun W N=>?_) (fun W t z s=>?_) (fun W t z s=>?_)).mono ?_
 ·refine((y.same N).pop o (by omega)).mono ?_
  rintro e d ⟨t,z,x,b,c,L⟩;exact⟨t,z,x,b,c,L⟩
 ·obtain⟨b,c,v⟩:=s;refine(j W _ b c).mono ?_;rintro e d ⟨A,⟨l,u,rfl,E⟩|⟨l,rfl⟩⟩
  ·obtain⟨J,I,rfl⟩:=E.form;exact av_ ⟨J,I,rfl,l,Grow F W d,⟨fun _=>av_,fun k H=>H.imp_right fun b=>aF_ (aF_ (by simp) v.1.size) b.1⟩,E,v.grow A (fun _=>av_) fun _ h=>h⟩
  ·exact as_ ⟨rfl,l,(v.grow A (fun _ h=>h) fun _=>av_).done (Ext.refl _ _)⟩
 ·obtain⟨l,G,M,b,c⟩:=s;refine(c.push b n K).mono ?_;rintro e d ⟨x,C⟩;exact⟨x,l,C.done M⟩
 ·rintro e d (⟨rfl,b,c⟩|⟨rfl,b,c⟩)
  ·exact nY.ok (if_pos b) c
  ·exact nY.stop (if_neg b) b c
end
def Disp(t:TypeId)(f:Nat):Prop:=(∀recv w,(Go.method 616 t recv "hindsight/machine.do").run prog w=.ok (f,recv) w)/\∀a b w,(callFunc f #[a,b]).run prog w=.ok (.enter f #[a,b]) w
def fC(t:TypeId):Prop:=∀v w,(typeAssert (.iface t v) 355 365 true).run prog w=.ok (.tuple #[.agg #[.int .i64 0,.pointer none],.bool false]) w
def N6(v:Value)(w:World):(typeAssert (.iface 365 v) 355 365 true).run prog w=.ok (.tuple #[v,.bool true]) w:=by kernel_rfl
def VK:Disp 365 373:=⟨fun _ _=>by kernel_rfl,fun _ _ _=>by kernel_rfl⟩
def C5:Disp 361 370:=⟨fun _ _=>by kernel_rfl,fun _ _ _=>by kernel_rfl⟩
def C6:Disp 402 374:=⟨fun _ _=>by kernel_rfl,fun _ _ _=>by kernel_rfl⟩
def LU:Disp 443 403:=⟨fun _ _=>by kernel_rfl,fun _ _ _=>by kernel_rfl⟩
def QS:Disp 445 404:=⟨fun _ _=>by kernel_rfl,fun _ _ _=>by kernel_rfl⟩
def C8:Disp 462 412:=⟨fun _ _=>by kernel_rfl,fun _ _ _=>by kernel_rfl⟩
def QP:Disp 461 411:=⟨fun _ _=>by kernel_rfl,fun _ _ _=>by kernel_rfl⟩
def FZ:Disp 438 397:=⟨fun _ _=>by kernel_rfl,fun _ _ _=>by kernel_rfl⟩
def VI:Disp 436 396:=⟨fun _ _=>by kernel_rfl,fun _ _ _=>by kernel_rfl⟩
def VH:Disp 407 383:=⟨fun _ _=>by kernel_rfl,fun _ _ _=>by kernel_rfl⟩
def QR:Disp 435 387:=⟨fun _ _=>by kernel_rfl,fun _ _ _=>by kernel_rfl⟩
def VJ:Disp 405 380:=⟨fun _ _=>by kernel_rfl,fun _ _ _=>by kernel_rfl⟩
def C7:Disp 404 375:=⟨fun _ _=>by kernel_rfl,fun _ _ _=>by kernel_rfl⟩
def QQ:Disp 439 398:=⟨fun _ _=>by kernel_rfl,fun _ _ _=>by kernel_rfl⟩
def C4:Disp 440 401:=⟨fun _ _=>by kernel_rfl,fun _ _ _=>by kernel_rfl⟩
def D3:Disp 442 402:=⟨fun _ _=>by kernel_rfl,fun _ _ _=>by kernel_rfl⟩
def C9:Disp 363 372:=⟨fun _ _=>by kernel_rfl,fun _ _ _=>by kernel_rfl⟩
def D0:Disp 449 410:=⟨fun _ _=>by kernel_rfl,fun _ _ _=>by kernel_rfl⟩
def GA:Disp 448 408:=⟨fun _ _=>by kernel_rfl,fun _ _ _=>by kernel_rfl⟩
def V8:fC 361:=fun _ _=>by kernel_rfl
def V9:fC 402:=fun _ _=>by kernel_rfl
def TU:fC 443:=fun _ _=>by kernel_rfl
def ZR:fC 445:=fun _ _=>by kernel_rfl
def W5:fC 462:=fun _ _=>by kernel_rfl
def ZO:fC 461:=fun _ _=>by kernel_rfl
def OT:fC 438:=fun _ _=>by kernel_rfl
def M5:fC 436:=fun _ _=>by kernel_rfl
def M4:fC 407:=fun _ _=>by kernel_rfl
def ZQ:fC 435:=fun _ _=>by kernel_rfl
def M6:fC 405:=fun _ _=>by kernel_rfl
def W4:fC 404:=fun _ _=>by kernel_rfl
def ZP:fC 439:=fun _ _=>by kernel_rfl
def V7:fC 440:=fun _ _=>by kernel_rfl
def W9:fC 442:=fun _ _=>by kernel_rfl
def W7:fC 363:=fun _ _=>by kernel_rfl
def W8:fC 449:=fun _ _=>by kernel_rfl
def OU:fC 448:=fun _ _=>by kernel_rfl
def l7(t:TypeId)(z:Value)(b:Bool):Prop:=(t=365/\(∃l p,z=.agg #[.int .i64 l,.pointer p])/\b=true)\/(fC t/\b=false)
def I3(w:World)(sb:Nat)(L:Nat->World->Prop)(P:World->Prop)(S:Nat->World->Prop)(M:Nat->Nat->Nat->World->Prop)(N:Nat->TypeId->Value->Nat->Bool->World->Prop)(I:Nat)(i:L I w)
 (Z:Hid (∀k W,L k W->∃x n c,W.cell? ⟨sb,1,none⟩=some (.slice x n c)/\sb<W.heap.size/\n<=16/\(n=0->S 1 W)/\(n≠0->∃j,k=j+1/\∃f g,M j f g W)))
 (U:Hid (∀j f g W,M j f g W->Calls prog 158 #[.pointer (some ⟨sb,0,none⟩)] W fun e d=>e=.returned (.pointer (some ⟨f,g,none⟩))/\M j f g d))
 (X:Hid (∀j f g W,M j f g W->Calls prog 235 #[.pointer (some ⟨f,g,none⟩)] W fun e d=>∃t z a b,e=.returned (.iface t z)/\Disp t a/\l7 t z b/\N j t z a b d))
 (Y:Hid (∀j t z a b W,N j t z a b W->Calls prog a #[z,.pointer (some ⟨sb,0,none⟩)] W fun e d=>(e=.returned (.tuple #[])/\(b=true->∀A,P (d.alloc A))/\(b=false->∀A,L j (d.alloc A)))\/(∃q,e=fH q/\S q d))):
 Calls prog 175 #[.pointer (some ⟨sb,0,none⟩)] w fun e d=>(e=.returned (.tuple #[])/\P d)\/(∃q,e=fH q/\S q d):=by
 have T:=aB i;clear i;go_enter func175,ntmps175;go_wp2_with fail;go_loopg [2,3,4] I (fun gk _ _ _ wr=>L gk wr)
 case atStart=>exact T.out
 case round=>
  obtain⟨x,n,c,c1,hl,hn,B,D⟩:=Z.out _ _ hrel;by_cases i:n=0
  ·subst i;have HZ:=aB (B rfl);clear hrel B D;go_wp2_with fail;exact⟨rfl,as_ ⟨1,rfl,HZ.out⟩⟩
  ·obtain⟨j,rfl,f,g,O⟩:=D i;have C:=aB (U.out _ _ _ _ O);have K:(0:Int)<(n:Int):=by omega
   clear hrel B D O;go_wp2_with fail;refine C.out.mono ?_;rintro e w1 ⟨rfl,J⟩;have E:=aB (X.out _ _ _ _ J);clear J;go_wp2_with fail;refine E.out.mono ?_;rintro e Q ⟨t,z,a,b,rfl,s,V,G⟩;have F:=aB (Y.out _ _ _ _ _ _ G);have m:=s.1 z Q;have h:=s.2 z (.pointer (some ⟨sb,0,none⟩)) Q;clear G s;go_wp2_with fail;refine F.out.mono ?_;rintro e H (⟨rfl,o,u⟩|⟨q,rfl,o⟩)
   ·rcases V with ⟨rfl,⟨l,p,rfl⟩,rfl⟩|⟨r,rfl⟩
    ·have v:=N6 (.agg #[.int .i64 l,.pointer p]) H;have y:=aB (o rfl);clear o u m h;go_wp2_with fail;exact⟨rfl,_,results_none (by rfl) _ _ _,av_ ⟨rfl,y.out _⟩⟩
    ·have v:=r z H;have y:=aB (u rfl);clear o u m h r;go_wp2_with fail;go_roundg j
     case measure=>omega
     case rel=>exact y.out _
   ·go_wp2_with fail;exact⟨rfl,as_ ⟨q,rfl,o⟩⟩
def nT{d:Type}{l:List d}(h:1<=l.length):∃c a,l=c++[a]:=by
 rcases bo_ l with e|⟨b,x,e⟩
 ·subst e;simp at h
 ·exact⟨b,x,by rw[e,bp_]⟩
def KD{c:Type}{l:List c}{n:Nat}(h:n<=l.length):∃b a,l=b++a/\a.length=n:=
 ⟨l.take (l.length-n),l.drop (l.length-n),(a5_ _ _).symm,by simp;omega⟩
def J3{f:Type}{l:List f}(h:2<=l.length):∃c a b,l=c++[a,b]:=by
 obtain⟨c,d,e,g⟩:=KD h;match d,g with
 |[a,b],_=>exact⟨c,a,b,e⟩
section
variable {fp:Nat->Value} {F:Nat->Prop} {base:Nat} {w:World} {sb gf cap:Nat} {t0 tv outv s0:Value} {fvs:List FVal} {below:List aI} {f0 f:aI} {tape:List Int} {out:List (List UInt8)}
def n8{ar:Nat->Option Nat}{y:List dY}{i:aH}{v:Value}(ht:iK ar y)(Q:eS ar ⟨below++[f0],tape,out⟩)(A:f0.fetch=some (i,f))(hU:fM ⟨below++[f0],tape,out⟩)
 (h:cT fp F base w sb gf cap t0 tv outv s0 fvs ⟨below++[f],tape,out⟩) (hT:lA fp F w y) (hp:AB (aF sb gf outv fvs) w) (c:base<=w.heap.size) (O:out.length<=50) (P:tape.length<=17592186044416) (r:lC fp F w v i):
 ∃t z E b,v=.iface t z/\Disp t E/\l7 t z b/\b=i.isBegin/\Calls prog E #[z,.pointer (some ⟨sb,0,none⟩)] w (v8 fp F base sb t0 s0 (aF sb gf outv fvs) w (Hs.doI y i below f tape out)):=by
 have D:∀x∈below,cH ar x 1:=by have:=Q.ok.low;simpa only[dA] using this
 have M:cH ar f0 0:=Q.ok.top f0 (dV _ _);have d:below.length<=15:=by have:=Q.ok.deep;simp at this;omega
 have C:dJ f0:=hU f0 (by simp)
 obtain⟨⟨T,Z,hh,hv,he⟩,aa,hs,hm⟩:=M
 obtain⟨rfl,X⟩:f={ f0 with next:=f0.next+1 }/\f0.fn.code[f0.next]?=some i:=by
  unfold aI.fetch at A;cases Y:f0.fn.code[f0.next]? with
  |none=>rw[Y] at A;cases A
  |some j=>rw[Y] at A;simp at A;exact⟨A.2.symm,by rw[A.1]⟩
 obtain⟨S,ab,o⟩:=Z.ins _ _ X;clear S;have ac:=Z.len;have m:f0.ops.length<=99000:=by omega
 have V:∀g∈below,g.ops.length<=99000:=fun g hg=>by
  obtain⟨⟨T',H,ad,_⟩,U,_⟩:=D g hg;have h1:=(H.ins _ _ (aH_ U)).2.1;have h2:=H.len;omega
 have L:i∈f0.fn.code:=bb_ X;cases i
 case begin l s=>
  obtain⟨sp,rfl,J⟩:=r;obtain⟨p,rfl⟩:=J.form;exact⟨_,_,_,true,rfl,VK,av_ ⟨rfl,⟨_,_,rfl⟩,rfl⟩,rfl,P7 l _ s h d c J⟩
 case push a=>
  obtain⟨u,rfl,hu,N⟩:=r;refine⟨_,_,_,false,rfl,C5,as_ ⟨V8,rfl⟩,rfl,(TD fp F base w sb gf cap t0 tv outv s0 fvs below _ tape out u a h hu N (by show f0.ops.length<=100000;omega) d c).mono ?_⟩
  rintro e w' ⟨rfl,hd⟩;exact⟨av_ ⟨rfl,rfl⟩,hd⟩
 case load k=>
  obtain rfl:=r;exact⟨_,_,_,false,rfl,C6,as_ ⟨V9,rfl⟩,rfl,X1 k h d c m (by have:=o.1;show k<f0.vars.length;omega)⟩
 case declare k=>
  obtain rfl:=r;exact⟨_,_,_,false,rfl,LU,as_ ⟨TU,rfl⟩,rfl,VL k h d c m (nT (by have:=o.1;show 1<=f0.ops.length;omega)) (by have:=o.2.1;show k<=f0.vars.length;omega) hm⟩
 case assign k n=>
  obtain rfl:=r;obtain⟨B,I,K,e2⟩:=KD (l:=f0.ops) (n:=n+1) (by have:=o.1;omega)
  obtain⟨G,b,rfl⟩:=nT (l:=I) (by omega)
  have e3:G.length=n:=by simpa using e2
  subst e3;exact⟨_,_,_,false,rfl,QS,as_ ⟨ZR,rfl⟩,rfl,F4 k B G b h d c m (by show f0.ops=_;rw[K];simp) (by have:=o.2.1;show k<f0.vars.length;omega)⟩
 case jump q=>
  obtain rfl:=r;exact⟨_,_,_,false,rfl,C8,as_ ⟨W5,rfl⟩,rfl,X7 q h d c⟩
 case skip q=>
  obtain rfl:=r;exact⟨_,_,_,false,rfl,QP,as_ ⟨ZO,rfl⟩,rfl,XP q h d c m (nT (by have:=o.1;show 1<=f0.ops.length;omega))⟩
 case shortcut wh q=>
  obtain rfl:=r;exact⟨_,_,_,false,rfl,FZ,as_ ⟨OT,rfl⟩,rfl,NQ wh q h d c m (nT (by have:=o.1;show 1<=f0.ops.length;omega))⟩
 case truth=>
  obtain rfl:=r;exact⟨_,_,_,false,rfl,VI,as_ ⟨M5,rfl⟩,rfl,H7 h d c m (nT (by have:=o.1;show 1<=f0.ops.length;omega))⟩
 case unary op=>
  obtain rfl:=r;exact⟨_,_,_,false,rfl,VH,as_ ⟨M4,rfl⟩,rfl,G6 op (C.fn.2 op L) h d c m (nT (by have:=o.1;show 1<=f0.ops.length;omega))⟩
 case binary op=>
  obtain rfl:=r;exact⟨_,_,_,false,rfl,QR,as_ ⟨ZQ,rfl⟩,rfl,E9 op h d c m (J3 (by have:=o.1;show 2<=f0.ops.length;omega))⟩
 case index=>
  obtain rfl:=r;obtain⟨B,a,b,e⟩:=J3 (l:=f0.ops) (by have:=o.1;omega)
  exact⟨_,_,_,false,rfl,VJ,as_ ⟨M6,rfl⟩,rfl,O2 h d c m ⟨B,a,b,e,C.ops a (by rw[e];simp)⟩⟩
 case list n=>
  obtain rfl:=r;obtain⟨B,I,K,rfl⟩:=KD (l:=f0.ops) (n:=n) (by have:=o.1;omega)
  exact⟨_,_,_,false,rfl,C7,as_ ⟨W4,rfl⟩,rfl,X2 B I h d c m K⟩
 case length=>
  obtain rfl:=r;obtain⟨B,a,e⟩:=nT (l:=f0.ops) (by have:=o.1;omega)
  exact⟨_,_,_,false,rfl,QQ,as_ ⟨ZP,rfl⟩,rfl,A6 h d c m ⟨B,a,e,C.ops a (by rw[e];simp)⟩⟩
 case read=>
  obtain rfl:=r;exact⟨_,_,_,false,rfl,C4,as_ ⟨V7,rfl⟩,rfl,U2 y h d c m P⟩
 case call k n=>
  obtain rfl:=r;obtain⟨B,I,K,rfl⟩:=KD (l:=f0.ops) (n:=n) (by have:=o.1;omega)
  obtain⟨fn,_,W,_⟩:=ht.fn k _ o.2.1;exact⟨_,_,_,false,rfl,D3,as_ ⟨W9,rfl⟩,rfl,d9 y k fn B I h d c m K hT W⟩
 case give=>
  obtain rfl:=r;exact⟨_,_,_,false,rfl,C9,as_ ⟨W7,rfl⟩,rfl,Y7 y h d c m (nT (by have:=o;show 1<=f0.ops.length;omega)) V⟩
 case drop=>
  obtain rfl:=r;exact⟨_,_,_,false,rfl,D0,as_ ⟨W8,rfl⟩,rfl,Z3 h d c m (nT (by have:=o.1;show 1<=f0.ops.length;omega))⟩
 case print=>
  obtain rfl:=r;obtain⟨B,a,e⟩:=nT (l:=f0.ops) (by have:=o.1;omega)
  exact⟨_,_,_,false,rfl,GA,as_ ⟨OU,rfl⟩,rfl,K6 y h hp d c m e O⟩
end
def I4{b:List dY}{j:Nat}{a:List aI}{e f:aI}{t:List Int}{o:List (List UInt8)}{i:aH}{r:cF × Nat}(h:cJ b (j+1) ⟨a++[e],t,o⟩=some r)(g:e.fetch=some (i,f)):
 ((Hs.doI b i a f t o).2≠0->r=Hs.doI b i a f t o)/\((Hs.doI b i a f t o).2=0->i.isBegin=true->r=Hs.doI b i a f t o)/\((Hs.doI b i a f t o).2=0->i.isBegin=false->cJ b j (Hs.doI b i a f t o).1=some r):=by
 rw[cJ] at h;simp only[dV,g,dA] at h;refine⟨fun c=>?_,fun c d=>?_,fun c d=>?_⟩
 ·rw[if_pos c] at h;cases h;rfl
 ·rw[if_neg (by rw[c];simp),if_pos d] at h;cases h;rfl
 ·rw[if_neg (by rw[c];simp),d] at h;exact h
def XC{b:List dY}{i:aH}{a:List aI}{f:aI}{t:List Int}{o:List (List UInt8)}(c:o.length<=50):(Hs.doI b i a f t o).1.out.length<=50:=by
 cases i<;>simp only[Hs.doI]<;>(repeat' split)<;>first|exact c|(simp;omega)
def QO{b:List dY}{i:aH}{a:List aI}{f:aI}{t:List Int}{o:List (List UInt8)}:(Hs.doI b i a f t o).1.tape.length<=t.length:=by
 cases i<;>simp only[Hs.doI]<;>(repeat' split)<;>first|exact au_ _|simp
section
variable {fp:Nat->Value} {F:Nat->Prop} {base:Nat} {w:World} {sb gf cap:Nat} {t0 tv outv s0:Value} {fvs:List FVal} {below:List aI} {f0 f:aI} {tape:List Int} {out:List (List UInt8)}
def cT.fetched{i:aH}(h:cT fp F base w sb gf cap t0 tv outv s0 fvs ⟨below++[f0],tape,out⟩)(d:f0.fetch=some (i,f))(K:f0.fn.code.length<=1000000):
 Calls prog 235 #[.pointer (some ⟨gf,below.length*6,none⟩)] w fun e n=>∃v c,e=.returned v/\lC fp F n v i/\cT fp F base n sb gf cap t0 tv outv s0 c ⟨below++[f],tape,out⟩/\Kept (aF sb gf outv fvs) w n/\aF sb gf outv c=aF sb gf outv fvs:=by
 obtain⟨M,v,r,rfl,s,t,E,g,C,B,A,Y,V,k4,W⟩:=h.top;rw[<-s]
 obtain⟨N,rfl⟩:f0.fn.code[f0.next]?=some i/\f={ f0 with next:=f0.next+1 }:=by
  unfold aI.fetch at d;cases D:f0.fn.code[f0.next]? with
  |none=>rw[D] at d;cases d
  |some j=>rw[D] at d;simp at d;exact⟨by rw[d.1],d.2.symm⟩
 obtain⟨l,y⟩:=aZ_.1 N;obtain⟨o,L,T,S,O,X,P,Z,G,I⟩:=t.fn;obtain⟨u,u1,u2⟩:=I f0.next l
 rw[y] at u2;rw[O] at B;rw[t.nx] at A;refine(B6 gf (M.length*6) o L f0.fn.code.length T f0.next r _ u w g B A P (aA G u1) u2.form l K).mono ?_
 rintro e n ⟨Q,q,rfl⟩;have m:=aQ.drewN w q;have z:=h.grow m.below (fun _ h=>h) (fun _ h=>av_ h)
 have a:MI fp F base (w.drewN q) v f0:=t.keep (fun b _=>by rw[m.heap]) (fun _ h=>h) fun k _=>by rw[m.heap]
 have p:MI fp F base (w.drewN q) { v with nx:=.int .i64 ((f0.next+1:Nat):Int) } { f0 with next:=f0.next+1 }:=⟨a.fn,rfl,a.ln,a.sp,a.vars,a.ops⟩
 obtain⟨J,U⟩:=z.setTop (j:=1) (x:=.int .i64 ((f0.next+1:Nat):Int)) (v':={ v with nx:=.int .i64 ((f0.next+1:Nat):Int) }) (by omega) rfl rfl p
 refine⟨u,_,Q,u2.keep (fun b H=>?_) (fun _ h=>h),J,(Kept.of_below m.below).trans U fun _ h=>av_ h,by simp[aF,aT,FVal.owns]⟩
 rw[ax_ _ _ _ _ fun e=>(h.apart b H).2 (by simp[aF,e]),m.heap]
def ad_(fp:Nat->Value)(F0:Nat->Prop)(base sb:Nat)(t0 s0:Value)(own0:List Nat)(w0:World)(ar:Nat->Option Nat)(tab:List dY)(m:cF)(W:World):Prop:=
 ∃F gf cap tv outv fvs,Ext F0 F w0.heap.size/\cT fp F base W sb gf cap t0 tv outv s0 fvs m/\lA fp F W tab/\Kept own0 w0 W/\(∀x∈aF sb gf outv fvs,x∈own0\/w0.heap.size<=x)/\eS ar m/\fM m/\m.out.length<=50/\m.tape.length<=17592186044416
def yM{ar:Nat->Option Nat}{g:List dY}{m:cF}{k:Nat}{r:cF × Nat}(ht:iK ar g)(ak:jN g)(h:cT fp F base w sb gf cap t0 tv outv s0 fvs m)(hT:lA fp F w g)(hp:AB (aF sb gf outv fvs) w)(aa:base<=w.heap.size)
 (hA:eS ar m) (hU:fM m) (aj:m.out.length<=50) (al:m.tape.length<=17592186044416) (A:cJ g k m=some r):
 Calls prog 175 #[.pointer (some ⟨sb,0,none⟩)] w (v8 fp F base sb t0 s0 (aF sb gf outv fvs) w r):=by
 generalize ae:aF sb gf outv fvs=d at hp
 refine(I3 w sb (fun k W=>∃m,ad_ fp F base sb t0 s0 d w ar g m W/\cJ g k m=some r)
  (fun W=>r.2=0/\Done fp F base sb t0 s0 d w r.1 W) (fun q W=>q=r.2/\r.2≠0/\Done fp F base sb t0 s0 d w r.1 W)
  (fun j fa fj W=>∃y gf cap tv outv fvs a B c n,fa=gf/\fj=a.length*6/\(Ext F y w.heap.size/\cT fp y base W sb gf cap t0 tv outv s0 fvs ⟨a++[B],c,n⟩/\lA fp y W g/\Kept d w W/\(∀x∈aF sb gf outv fvs,x∈d\/w.heap.size<=x))/\(eS ar ⟨a++[B],c,n⟩/\fM ⟨a++[B],c,n⟩/\n.length<=50/\c.length<=17592186044416)/\cJ g (j+1) ⟨a++[B],c,n⟩=some r)
  (fun j t z Q b W=>∃y gf cap tv outv fvs a B f i c n,(Ext F y w.heap.size/\cT fp y base W sb gf cap t0 tv outv s0 fvs ⟨a++[f],c,n⟩/\lA fp y W g/\Kept d w W/\(∀x∈aF sb gf outv fvs,x∈d\/w.heap.size<=x))/\(eS ar ⟨a++[B],c,n⟩/\fM ⟨a++[B],c,n⟩/\n.length<=50/\c.length<=17592186044416)/\cJ g (j+1) ⟨a++[B],c,n⟩=some r/\B.fetch=some (i,f)/\b=i.isBegin/\
    Calls prog Q #[z,.pointer (some ⟨sb,0,none⟩)] W (v8 fp y base sb t0 s0 (aF sb gf outv fvs) W (Hs.doI g i a f c n)))
  k ⟨m,⟨F,gf,cap,tv,outv,fvs,Ext.refl _ _,h,hT,Kept.refl _ _,fun x s=>av_ (by rw[<-ae];exact s),hA,hU,aj,al⟩,A⟩ (fun k W hL=>?_) (fun j fa fj W hM=>?_) (fun j fa fj W hM=>?_) (fun j t z Q b W hN=>?_)).mono ?_
 ·obtain⟨m,⟨y,gf,cap,tv,outv,fvs,P,C,g3,E,L,J,U,Z,Y⟩,A⟩:=hL;have hc:=C.count;have hd:=J.ok.deep;refine⟨_,_,_,aA C.blk rfl,aD C.blk,by omega,fun h0=>?_,fun h0=>?_⟩
  ·have hm:m.frames=[]:=aN_ (by omega)
   cases k with
   |zero=>rw[cJ] at A;cases A
   |succ j=>
    rw[cJ,hm] at A;simp only[List.getLast?_nil] at A;cases A;exact⟨rfl,Nat.one_ne_zero,E,y,gf,cap,tv,outv,fvs,P,C,L⟩
  ·obtain⟨b,f,e⟩:=jB (l:=m.frames) (fun e=>h0 (by rw[hc,e];rfl))
   obtain⟨fr,t,o⟩:=m;simp only at e;subst e;cases k with
   |zero=>rw[cJ] at A;cases A
   |succ j=>exact⟨j,rfl,gf,b.length*6,y,gf,cap,tv,outv,fvs,b,f,t,o,rfl,rfl,⟨P,C,g3,E,L⟩,⟨J,U,Z,Y⟩,A⟩
 ·obtain⟨y,gf,cap,tv,outv,fvs,b,f,t,o,rfl,rfl,⟨P,C,g3,E,L⟩,⟨J,U,Z,Y⟩,A⟩:=hM;have hc:=C.count;have hd:=J.ok.deep;have X:=C.blk;rw[hc,aw_,bq_] at X;simp at hd;refine(uF sb fa b.length cap W (aA X rfl) (by omega)).mono ?_
  rintro e H ⟨he,q,rfl⟩;have hS:=aQ.drewN W q;exact⟨he,y,fa,cap,tv,outv,fvs,b,f,t,o,rfl,rfl,⟨P,C.grow hS.below (fun _ h=>h) (fun _ h=>av_ h),g3.keep (fun b _=>by rw[hS.heap]) (fun _ h=>h),E.trans (Kept.of_below (own:=[]) hS.below) (fun x s=>by simp at s),L⟩,⟨J,U,Z,Y⟩,A⟩
 ·obtain⟨y,gf,cap,tv,outv,fvs,b,B,t,o,rfl,rfl,⟨P,C,g3,E,L⟩,⟨J,U,Z,Y⟩,A⟩:=hM;have N:cH ar B 0:=J.ok.top B (dV _ _);have V:=qW N.next
  obtain⟨T,hc, -⟩:=N.code;have am:=hc.len;generalize B.fn.code[B.next]'N.next=i at V
  refine(C.fetched V (by omega)).mono ?_
  rintro e H ⟨v,p,he,q1,q2,q3,q4⟩;have ac:lA fp y H g:=g3.keep (fun x s=>q3.block x (C.apart x s).1 (C.apart x s).2) fun _ h=>h
  have D:Kept d w H:=E.trans q3 L;have ag:AB (aF sb fa outv p) H:=hp.step D (fun x s=>L x (by rw[<-q4];exact s))
  obtain⟨t',z,Q,bb,e1,e2,e3,e4,e5⟩:=n8 ht J V U q2 ac ag (aF_ aa D.size) Z Y q1;exact⟨t',z,Q,bb,by rw[he,e1],e2,e3,y,fa,cap,tv,outv,p,b,B,_,i,t,o,⟨P,q2,ac,D,fun x s=>L x (by rw[<-q4];exact s)⟩,⟨J,U,Z,Y⟩,A,V,e4,e5⟩
 ·obtain⟨y,gf,cap,tv,outv,fvs,a,B,f,i,tp,o,⟨P,C,g3,E,L⟩,⟨J,U,Z,Y⟩,A,V,hb,hc⟩:=hN;obtain⟨s1,s2,s3⟩:=I4 A V;refine hc.mono ?_;rintro e H ⟨he,ad,G,S,K,ab,u,p,d1,d2,d3⟩;have D:Kept d w H:=E.trans ad L
  have M:∀x∈aF sb S u p,x∈d\/w.heap.size<=x:=fun x s=>by
   rcases d3 x s with h1|h1
   ·exact L x h1
   ·exact as_ (aF_ E.size h1)
  have af:lA fp G H g:=g3.keep (fun x s=>ad.block x (C.apart x s).1 (C.apart x s).2) d1.sub
  have I:∀O,Below H.heap.size H (H.alloc O):=fun O=>(ay_ _ H).alloc (au_ _) O
  rcases he with ⟨hz,rfl⟩|⟨hz,rfl⟩
  ·refine av_ ⟨rfl,fun ah O=>?_,fun ai O=>?_⟩
   ·have hr:=s2 hz (by rw[<-hb];exact ah)
    rw[hr];exact⟨hz,D.trans (Kept.of_below (own:=[]) (I O)) (fun x s=>by simp at s),G,S,K,ab,u,p,P.trans d1 E.size,d2.grow (I O) (fun _ h=>h) (fun _ h=>av_ h),M⟩
   ·refine⟨_,⟨G,S,K,ab,u,p,P.trans d1 E.size,d2.grow (I O) (fun _ h=>h) (fun _ h=>av_ h),af.keep (fun x s=>(I O).block x (d2.apart x s).1) (fun _ h=>h),D.trans (Kept.of_below (own:=[]) (I O)) (fun x s=>by simp at s),M,(rW ht J V).2.2 hz,DT ak U V,XC Z,aF_ QO Y⟩,s3 hz (by rw[<-hb];exact ai)⟩
  ·refine as_ ⟨_,rfl,?_⟩;have hr:=s1 hz;rw[hr];exact⟨rfl,hz,D,G,S,K,ab,u,p,P.trans d1 E.size,d2,M⟩
 ·rintro e H (⟨rfl,h1,h2⟩|⟨q,rfl,rfl,h1,h2⟩)
  ·exact⟨av_ ⟨h1,rfl⟩,h2⟩
  ·exact⟨as_ ⟨h1,rfl⟩,h2⟩
end
def m9(v:Value)(w:World):(typeAssert (.iface 353 v) 20 353 true).run prog w=.ok (.tuple #[v,.bool true]) w:=by kernel_rfl
def WU(b:Fn)(first a:Array Value)(w:World):(Instr.makeFunc b first a).run prog w=.ok (.func b first a) w:=rfl
def VT(p k:Nat)(a:List PanicEntry)(w:World)(b:w.heap[p]?=some (.cells #[.int .i64 0] 61 (0,0))):
 CallsD prog 234 #[.pointer (some ⟨p,0,none⟩)] (.panicking ({ v:=.iface 353 (.int .i64 k),recovered:=false }::a)) w fun e h d=>
  e=.returned (.tuple #[])/\h=.panicking ({ v:=.iface 353 (.int .i64 k),recovered:=true }::a)/\d=w.setCell ⟨p,0,none⟩ (.int .i64 k):=by
 have m:w.cell? ⟨p,0,none⟩=some (.int .i64 0):=aA b rfl;have n:=aE (i:=0) b;have j:=aD b;have f:=m9;refine callsD_of_wpS func234 rfl fun c l g=>?_
 apply wpS_seq
 apply wpS_region
 simp[wpOpsS,go_sem,recoverD,g,ntmps234,Exit.thenS];refine wpS_of_wp ?_;clear b;go_wp2_with fail;exact⟨rfl,_,rfl,.tuple #[],by simp[results,results234],rfl,rfl,rfl⟩
def VU(p:Addr)(w:World):
 CallsD prog 234 #[.pointer (some p)] .returning w fun e d c=>e=.returned (.tuple #[])/\d=.returning/\c=w:=by
 refine callsD_of_wpS func234 rfl fun a f b=>?_
 apply wpS_seq
 apply wpS_region
 simp[wpOpsS,go_sem,recoverD,b,ntmps234,Exit.thenS];refine wpS_of_wp ?_;go_wp2_with fail;exact⟨rfl,a.mode,rfl,.tuple #[],by simp[results,results234],rfl,b,rfl⟩
def SL(b:Nat)(p:Addr)(w:World)(R:Nat->World->Prop)(c:∀a W,(callFunc b #[a]).run prog W=.ok (.enter b #[a]) W)
 (h:Calls prog b #[.pointer (some p)] (w.alloc (.cells #[.int .i64 0] 61)) fun e d=>∃k,v7 k e/\R k d/\d.heap[w.heap.size]?=some (.cells #[.int .i64 0] 61 (0,0))):
 Calls prog 169 #[.func (.func b) #[.pointer (some p)] #[]] w fun e d=>∃(k:Nat) (w1:World),e=.returned (.int .i64 k)/\R k w1/\d=w1.setCell ⟨w.heap.size,0,none⟩ (.int .i64 k):=by
 have q:=WU;have r:=c (.pointer (some p)) (w.alloc (.cells #[.int .i64 0] 61));have l:=aB h;clear h c;go_enter_defers func169,ntmps169
 go_wp2_with fail;refine l.out.mono ?_;rintro e w1 ⟨k,n,o,g⟩;have m:=aB o;have j:w1.cell? ⟨w.heap.size,0,none⟩=some (.int .i64 0):=aA g rfl;have u:=aE (i:=0) g;have v:=aD g;clear o l;rcases n with ⟨rfl,rfl⟩|⟨n,rfl⟩
 ·go_wp2_with fail;refine leaves_cons (f:=234) (args:= #[.pointer (some ⟨w.heap.size,0,none⟩)]) (by simp) (by simp[go_sem]) ?_
  refine(VU ⟨w.heap.size,0,none⟩ _).mono ?_;rintro e s t ⟨rfl,rfl,rfl⟩;simp[Leaves,settle,results,results169,go_sem,j];exact⟨0,rfl,w1,m.out,rfl⟩
 ·go_wp2_with fail;refine leaves_cons (f:=234) (args:= #[.pointer (some ⟨w.heap.size,0,none⟩)]) (by simp) (by simp[go_sem]) ?_
  refine(VT w.heap.size k [] _ g).mono ?_;rintro e s x ⟨rfl,rfl,rfl⟩;simp[Leaves,settle,results,results169,go_sem,j];exact⟨k,rfl,w1,m.out,rfl⟩
def N8:(prog.info? 3).map (fun i=>(i.zero,i.size,i.bytes))=some (some (.int .i64 0),1,8):=by kernel_rfl
def sW(g h n c:Nat)(b:List Value)(w:World)(B:b.length=n*1)(G:n<=1000000)(r:∀j u,b[j]?=some u->w.cell? ⟨g,h+j,none⟩=some u)(x:∀u∈b,u.oneCell'=true):
 Calls prog 109 #[.slice (some ⟨g,h,none⟩) n c] w fun e q=>∃v',e=.returned v'/\q.ownsRow w.heap.size 9 1 v' n b/\Below w.heap.size w q:=by
 obtain⟨z,C,m,o,p⟩:=info_parts CW;have y:=aB r;clear r;have v:∀(w:World) (a:Option Addr) (n c l i:Nat),(binOp .eql 60 (.slice a n c) (.slice none l i)).run prog w=.ok (.bool a.isNone) w:=fun w a n c l i=>Lib.run_eql_slice_nil w _ _ a n c l i underlying60
 go_enter func109,ntmps109;go_wp2_with (at_builtin;refine wpList_append_own _ (by rfl) _ _ 60 (by rfl) w.heap.size 9 z _ 1 16 underlying60 C m o p rfl (by decide) (.slice (some ⟨w.heap.size,0,none⟩) 0 0) 0 [] (by rfl) (World.ownsRow_made w #[] 0 (au_ _) (a9_ _) (by simp)) ⟨g,h,none⟩ n c b (by rfl) B (fun j u D=>by rw[Addr.add_lit];exact iJ _ (y.out j u D)) x (by unfold maxLen;omega) (by omega) (by simp) ?_)
 intro v' E d f _;have A:=aB d;have t:=aB f;obtain⟨F,i,rfl⟩:=cU d;clear d f;go_wp2_with fail;go_ret;refine⟨_,rfl,by simpa using A.out,?_⟩
 exact((ay_ _ w).alloc (au_ _) _).grown t.out (by simp) (by intro k s;simp[Value.ownBlock] at s;omega)
def sV(w:World):
 Calls prog 109 #[.slice none 0 0] w fun e f=>e=.returned (.slice none 0 0)/\f=w:=by
 have g:∀(w:World) (a:Option Addr) (n c b d:Nat),(binOp .eql 60 (.slice a n c) (.slice none b d)).run prog w=.ok (.bool a.isNone) w:=fun w a n c b d=>Lib.run_eql_slice_nil w _ _ a n c b d underlying60
 go_enter func109,ntmps109;go_wp2_with fail;go_ret;exact⟨rfl,rfl⟩
def GF(g h n c:Nat)(b:List Value)(w:World)(B:b.length=n*1)(G:n<=17592186044416)(r:∀j u,b[j]?=some u->w.cell? ⟨g,h+j,none⟩=some u)(x:∀u∈b,u.oneCell'=true):
 Calls prog 124 #[.slice (some ⟨g,h,none⟩) n c] w fun e q=>∃v',e=.returned v'/\q.ownsRow w.heap.size 3 1 v' n b/\Below w.heap.size w q:=by
 obtain⟨z,C,m,o,p⟩:=info_parts N8;have y:=aB r;clear r;have v:∀(w:World) (a:Option Addr) (n c l i:Nat),(binOp .eql 31 (.slice a n c) (.slice none l i)).run prog w=.ok (.bool a.isNone) w:=fun w a n c l i=>Lib.run_eql_slice_nil w _ _ a n c l i underlying31
 go_enter func124,ntmps124;go_wp2_with (at_builtin;refine wpList_append_own _ (by rfl) _ _ 31 (by rfl) w.heap.size 3 z _ 1 8 underlying31 C m o p rfl (by decide) (.slice (some ⟨w.heap.size,0,none⟩) 0 0) 0 [] (by rfl) (World.ownsRow_made w #[] 0 (au_ _) (a9_ _) (by simp)) ⟨g,h,none⟩ n c b (by rfl) B (fun j u D=>by rw[Addr.add_lit];exact iJ _ (y.out j u D)) x (by unfold maxLen;omega) (by omega) (by simp) ?_)
 intro v' E d f _;have A:=aB d;have t:=aB f;obtain⟨F,i,rfl⟩:=cU d;clear d f;go_wp2_with fail;go_ret;refine⟨_,rfl,by simpa using A.out,?_⟩
 exact((ay_ _ w).alloc (au_ _) _).grown t.out (by simp) (by intro k s;simp[Value.ownBlock] at s;omega)
def GE(w:World):
 Calls prog 124 #[.slice none 0 0] w fun e f=>e=.returned (.slice none 0 0)/\f=w:=by
 have g:∀(w:World) (a:Option Addr) (n c b d:Nat),(binOp .eql 31 (.slice a n c) (.slice none b d)).run prog w=.ok (.bool a.isNone) w:=fun w a n c b d=>Lib.run_eql_slice_nil w _ _ a n c b d underlying31
 go_enter func124,ntmps124;go_wp2_with fail;go_ret;exact⟨rfl,rfl⟩
def GG(g h n c:Nat)(b:List Value)(w:World)(B:b.length=n*6)(G:n<=1000000)(r:∀j u,b[j]?=some u->w.cell? ⟨g,h+j,none⟩=some u)(x:∀u∈b,u.oneCell'=true):
 Calls prog 281 #[.slice (some ⟨g,h,none⟩) n c] w fun e q=>∃v',e=.returned v'/\q.ownsRow w.heap.size 195 6 v' n b/\Below w.heap.size w q:=by
 obtain⟨z,C,m,o,p⟩:=info_parts IN;have y:=aB r;clear r;have v:∀(w:World) (a:Option Addr) (n c l i:Nat),(binOp .eql 106 (.slice a n c) (.slice none l i)).run prog w=.ok (.bool a.isNone) w:=fun w a n c l i=>Lib.run_eql_slice_nil w _ _ a n c l i underlying106
 go_enter func281,ntmps281;go_wp2_with (at_builtin;refine wpList_append_own _ (by rfl) _ _ 106 (by rfl) w.heap.size 195 z _ 6 80 underlying106 C m o p rfl (by decide) (.slice (some ⟨w.heap.size,0,none⟩) 0 0) 0 [] (by rfl) (World.ownsRow_made w #[] 0 (au_ _) (a9_ _) (by simp)) ⟨g,h,none⟩ n c b (by rfl) B (fun j u D=>by rw[Addr.add_lit];exact iJ _ (y.out j u D)) x (by unfold maxLen;omega) (by omega) (by simp) ?_)
 intro v' E d f _;have A:=aB d;have t:=aB f;obtain⟨F,i,rfl⟩:=cU d;clear d f;go_wp2_with fail;go_ret;refine⟨_,rfl,by simpa using A.out,?_⟩
 exact((ay_ _ w).alloc (au_ _) _).grown t.out (by simp) (by intro k s;simp[Value.ownBlock] at s;omega)
def B2(w:World)(sb a:Nat)(R:Nat->World->Prop)(P:World->Prop)(q:a<=1000000)
 (m:Hid (Calls prog 169 #[.func (.func 175) #[.pointer (some ⟨sb,0,none⟩)] #[]] w fun e d=>∃k:Nat,k<=1000/\e=.returned (.int .i64 k)/\R k d))
 (l:Hid (∀k W,R k W->(∃u,W.cell? ⟨sb,4,none⟩=some u)/\W.frozen? ⟨sb,4,none⟩=false/\sb<W.heap.size/\W.cell? ⟨sb,0,none⟩=some (.int .i64 a)))
 (i:Hid (∀k W,R k W->¬(k=0/\a=500)->P (W.setCell ⟨sb,4,none⟩ (.int .i64 k))))
 (o:Hid (∀W,R 0 W->a=500->P ((W.setCell ⟨sb,4,none⟩ (.int .i64 0)).setCell ⟨sb,4,none⟩ (.int .i64 9)))):
 Calls prog 125 #[.pointer (some ⟨sb,0,none⟩)] w fun e d=>e=.returned (.tuple #[])/\P d:=by
 have j:=WU;go_enter func125,ntmps125;go_wp2_with fail;refine m.out.mono ?_;rintro e p ⟨k,r,rfl,b⟩;obtain⟨⟨u,v⟩,s,x,t⟩:=l.out _ _ b;by_cases f:k=0
 ·subst f;by_cases g:a=500
  ·subst g;have c:=aB (o.out _ b rfl);clear b;go_wp2_with fail;go_end0;exact⟨rfl,c.out⟩
  ·have c:=aB (i.out _ _ b (fun h=>g h.2))
   have n:¬(a:Int)=500:=by omega
   clear b;go_wp2_with fail;go_end0;exact⟨rfl,c.out⟩
 ·have c:=aB (i.out _ _ b (fun h=>f h.1))
  have n:¬(k:Int)=0:=by omega
  clear b;go_wp2_with fail;go_end0;exact⟨rfl,c.out⟩
section
variable {fp:Nat->Value} {F:Nat->Prop} {base:Nat} {w:World} {sb gf cap:Nat} {t0 tv outv s0:Value} {fvs:List FVal}
def cT.setStop{m:cF}(h:cT fp F base w sb gf cap t0 tv outv s0 fvs m)(x:Value):cT fp F base (w.setCell ⟨sb,4,none⟩ x) sb gf cap t0 tv outv x fvs m/\Kept (aF sb gf outv fvs) w (w.setCell ⟨sb,4,none⟩ x):=by
 obtain⟨d,o⟩:=aK_.1 h.nodup;have a:∀k,k≠sb->(w.setCell ⟨sb,4,none⟩ x).heap[k]?=w.heap[k]?:=fun k a=>ax_ _ _ _ _ a
 have c:∀b,F b->(w.setCell ⟨sb,4,none⟩ x).heap[b]?=w.heap[b]?:=fun b j=>a b fun e=>(h.apart b j).2 (by simp[aF,e])
 refine⟨⟨aS h.blk,aY h.row fun k e=>a k ?_,h.frs.keep c (fun _ h=>h) fun v i k f=>a k ?_,h.tape.keep c (fun _ h=>h),aY h.out fun k e=>a k ?_,h.nodup,fun k a=>by simpa using h.lt k a,fun k a=>by simpa using h.apart k a⟩,⟨rfl,rfl,rfl,by simp,fun k _ n=>a k fun e=>n (by simp[aF,e])⟩⟩
 ·cases e;exact fun e=>d (by simp[<-e])
 ·have g:k∈aT fvs:=bt_.2 ⟨v,i,f⟩;exact fun e=>d (by simp[<-e,g])
 ·exact fun l=>d (by simp[<-l,e])
def i6(a:Value)(W:World):(callFunc 175 #[a]).run prog W=.ok (.enter 175 #[a]) W:=by kernel_rfl
def PK{ar:Nat->Option Nat}{n:List dY}{m:cF}{k a:Nat}{r:cF × Nat}(ht:iK ar n)(T:jN n)(h:cT fp F base w sb gf cap (.int .i64 a) tv outv s0 fvs m)(hT:lA fp F w n)(hp:AB (aF sb gf outv fvs) w)(A:base<=w.heap.size)
 (hA:eS ar m) (hU:fM m) (N:m.out.length<=50) (Q:m.tape.length<=17592186044416) (o:cJ n k m=some r) (Z:a<=1000000) (U:r.2<=1000):
 Calls prog 125 #[.pointer (some ⟨sb,0,none⟩)] w fun e E=>e=.returned (.tuple #[])/\Done fp F base sb (.int .i64 a) (.int .i64 (bT a r.2)) (aF sb gf outv fvs) w r.1 E:=by
 have C:Below w.heap.size w (w.alloc (.cells #[.int .i64 0] 61)):=(ay_ _ w).alloc (au_ _) _;have h0:=h.grow C (fun _ h=>h) (fun _ h=>av_ h)
 have X:lA fp F (w.alloc (.cells #[.int .i64 0] 61)) n:=hT.keep (fun x hx=>C.block x (h.apart x hx).1) fun _ h=>h
 have j:Kept (aF sb gf outv fvs) w (w.alloc (.cells #[.int .i64 0] 61)):=Kept.of_below C;have hX:=yM ht T h0 X (hp.step j fun _ h=>av_ h) (aF_ A j.size) hA hU N Q o
 have u:(w.alloc (.cells #[.int .i64 0] 61)).heap[w.heap.size]?=some (.cells #[.int .i64 0] 61 (0,0)):=aM _ _ rfl _;have z:w.heap.size∉aF sb gf outv fvs:=fun t=>by have:=h.lt _ t;omega
 have hS:=SL 175 ⟨sb,0,none⟩ w (fun k W=>k=r.2/\Done fp F base sb (.int .i64 a) s0 (aF sb gf outv fvs) (w.alloc (.cells #[.int .i64 0] 61)) r.1 W) i6 (hX.mono fun e E y=>by
  obtain⟨he,y⟩:=y;refine⟨r.2,he,⟨rfl,y⟩,?_⟩;rw[y.1.block _ (by simp) z];exact u)
 generalize Y:w.alloc (.cells #[.int .i64 0] 61)=w0 at*
 have hD:∀W x,Done fp F base sb (.int .i64 a) s0 (aF sb gf outv fvs) w0 r.1 W->Done fp F base sb (.int .i64 a) s0 (aF sb gf outv fvs) w r.1 (W.setCell ⟨w.heap.size,0,none⟩ x):=fun W x y=>by
  obtain⟨p,G,g,f,l,c,d,D,i,s⟩:=y;have I:w.heap.size<w0.heap.size:=by rw[<-Y];simp
  have P:¬F w.heap.size:=fun hF=>by have:=(h.apart _ hF).1;omega
  have L:w.heap.size∉aF sb g c d:=fun t=>by
   rcases s _ t with B|B
   ·exact z B
   ·omega
  have J:∀b,G b->b≠w.heap.size:=fun b O e=>by
   subst e;rcases D.new _ O with B|B
   ·exact P B
   ·omega
  have o:∀k,k≠w.heap.size->(W.setCell ⟨w.heap.size,0,none⟩ x).heap[k]?=W.heap[k]?:=fun k o=>ax_ _ _ _ _ o
  have q:∀k∈aF sb g c d,(W.setCell ⟨w.heap.size,0,none⟩ x).heap[k]?=W.heap[k]?:=fun k t=>o k fun e=>L (by rw[<-e];exact t)
  have K:∀b,G b->(W.setCell ⟨w.heap.size,0,none⟩ x).heap[b]?=W.heap[b]?:=fun b O=>o b (J b O)
  refine⟨⟨p.os.trans j.os,p.tape.trans j.tape,p.output.trans j.output,aF_ j.size (by simpa using p.size),fun k B h2=>?_⟩,G,g,f,l,c,d,D.le (bW_ I),⟨by rw[q sb (by simp[aF])];exact i.blk,aY i.row fun k e=>?_,i.frs.keep K (fun _ h=>h) fun v hv k M=>q k ?_,i.tape.keep K (fun _ h=>h),aY i.out fun k e=>q k (by simp[aF,e]),i.nodup,fun k o=>by simpa using i.lt k o,fun k o=>by simpa using i.apart k o⟩,fun k t=>(s k t).imp_right (aF_ (bW_ I))⟩
  ·rw[o k (by omega),p.block k (by omega) h2,j.block k B h2]
  ·cases e;exact q g (by simp[aF])
  ·have t:k∈aT d:=bt_.2 ⟨v,hv,M⟩;simp[aF,t]
 refine(B2 w sb a (fun k W=>k=r.2/\Done fp F base sb (.int .i64 a) s0 (aF sb gf outv fvs) w r.1 W) (fun E=>Done fp F base sb (.int .i64 a) (.int .i64 (bT a r.2)) (aF sb gf outv fvs) w r.1 E) Z (hS.mono ?_) (fun k W H=>?_) (fun k W H V=>?_) (fun W H V=>?_))
 ·rintro e E ⟨k,w1,rfl,⟨rfl,y⟩,rfl⟩;exact⟨r.2,U,rfl,rfl,hD _ _ y⟩
 ·obtain⟨_,_,G,g,f,l,c,d,_,i,_⟩:=H;exact⟨⟨_,aA i.blk rfl⟩,aE i.blk,aD i.blk,aA i.blk rfl⟩
 ·obtain⟨rfl,p,G,g,f,l,c,d,D,i,s⟩:=H;obtain⟨S,q2⟩:=i.setStop (.int .i64 r.2);have e:bT a r.2=r.2:=if_neg V;rw[e];exact⟨p.trans q2 s,G,g,f,l,c,d,D,S,s⟩
 ·obtain⟨hz,p,G,g,f,l,c,d,D,i,s⟩:=H;obtain⟨S,q2⟩:=i.setStop (.int .i64 0);obtain⟨q3,q4⟩:=S.setStop (.int .i64 9);have e:bT a r.2=9:=if_pos ⟨hz.symm,V⟩;rw[e];exact⟨(p.trans q2 s).trans q4 s,G,g,f,l,c,d,D,q3,s⟩
end
structure s9(fp:Nat->Value)(F:Nat->Prop)(w:World)(v:FVal)(f:aI):Prop where
 fn:F6 fp F w v.fp f.fn
 nx:v.nx=.int .i64 f.next
 ln:v.ln=.int .i64 f.line
 sp:eE F w v.sp f.seen
 vars:PVs F w v.vv f.vars
 varsB:∀a∈f.vars,aK a<=200
 ops:PVs F w v.ov f.ops
 opsB:∀a∈f.ops,aK a<=200
def s9.keep{d:Nat->Value}{F G:Nat->Prop}{w w':World}{v:FVal}{f:aI}(h:s9 d F w v f)(a:∀b,F b->w'.heap[b]?=w.heap[b]?)(c:∀b,F b->G b):s9 d G w' v f:=
 ⟨h.fn.keep a c,h.nx,h.ln,eE.keep a c h.sp,(h.vars.keep a).mono c,h.varsB,(h.ops.keep a).mono c,h.opsB⟩
def uC(fp:Nat->Value)(F:Nat->Prop)(w:World):List FVal->List aI->Prop
 |[],[]=>True
 |v::vs,f::fs=>s9 fp F w v f/\uC fp F w vs fs
 |_,_=>False
def uC.keep{c:Nat->Value}{F G:Nat->Prop}{w w':World}(a:∀b,F b->w'.heap[b]?=w.heap[b]?)(d:∀b,F b->G b):∀{vs:List FVal} {fs:List aI},uC c F w vs fs->uC c G w' vs fs
 |[],[],_=>trivial
 |_::_,_::_,⟨f,e⟩=>⟨f.keep a d,uC.keep a d e⟩
 |[],_::_,h=>h.elim
 |_::_,[],h=>h.elim
def uC.length{a:Nat->Value}{F:Nat->Prop}{w:World}:∀{vs:List FVal} {fs:List aI},uC a F w vs fs->vs.length=fs.length
 |[],[],_=>rfl
 |_::_,_::_,⟨_,h⟩=>by simp[uC.length h]
 |[],_::_,h=>h.elim
 |_::_,[],h=>h.elim
def uC.get{c:Nat->Value}{F:Nat->Prop}{w:World}:∀{vs:List FVal} {fs:List aI},uC c F w vs fs->∀(i:Nat) v f,vs[i]?=some v->fs[i]?=some f->s9 c F w v f
 |[],[],_,i,v,f,a,_=>by simp at a
 |_::_,_::_,⟨h,_⟩,0,v,f,a,b=>by simp at a b;subst a;subst b;exact h
 |_::_,_::_,⟨_,h⟩,i+1,v,f,a,b=>uC.get h i v f (by simpa using a) (by simpa using b)
 |[],_::_,h,_,_,_,_,_=>h.elim
 |_::_,[],h,_,_,_,_,_=>h.elim
def EE(F:Nat->Prop)(w:World)(v:Value)(fvs:List FVal):Prop:=
 (fvs=[]/\∃x c,v=.slice x 0 c)\/∃g c cur,v=.slice (some ⟨g,0,none⟩) fvs.length c/\F g/\w.heap[g]?=some (.cells cur 195 (0,0))/\fvs.length<=c/\cur.toList.take (fvs.length*6)=fV fvs
def EE.keep{F G:Nat->Prop}{w w':World}{v:Value}{a:List FVal}(h:EE F w v a)(f:∀b,F b->w'.heap[b]?=w.heap[b]?)(l:∀b,F b->G b):EE G w' v a:=by
 rcases h with h|⟨g,c,d,j,e,k,i⟩
 ·exact av_ h
 ·exact as_ ⟨g,c,d,j,l g e,by rw[f g e];exact k,i⟩
def EC(F:Nat->Prop)(w:World)(v:Value)(l:List (List UInt8)):Prop:=
 (l=[]/\v=.slice none 0 0)\/∃g c cur,v=.slice (some ⟨g,0,none⟩) l.length c/\F g/\w.heap[g]?=some (.cells cur 9 (0,0))/\l.length<=c/\cur.toList.take l.length=lV l
def EC.keep{F G:Nat->Prop}{w w':World}{v:Value}{l:List (List UInt8)}(h:EC F w v l)(e:∀b,F b->w'.heap[b]?=w.heap[b]?)(k:∀b,F b->G b):EC G w' v l:=by
 rcases h with h|⟨g,c,a,i,d,j,f⟩
 ·exact av_ h
 ·exact as_ ⟨g,c,a,i,k g d,by rw[e g d];exact j,f⟩
def kR(fp:Nat->Value)(F:Nat->Prop)(w:World)(v:Value)(s:bI):Prop:=
 ∃fv tv outv fvs,v=.agg #[.int .i64 s.time,fv,tv,outv,.int .i64 s.stop]/\EE F w fv fvs/\uC fp F w fvs s.m.frames/\rH F w tv s.m.tape/\EC F w outv s.m.out
def kR.keep{f:Nat->Value}{F G:Nat->Prop}{w w':World}{v:Value}{s:bI}(h:kR f F w v s)(c:∀b,F b->w'.heap[b]?=w.heap[b]?)(d:∀b,F b->G b):kR f G w' v s:=by
 obtain⟨n,i,a,e,k,g,m,j,l⟩:=h;exact⟨n,i,a,e,k,g.keep c d,m.keep c d,j.keep c d,l.keep c d⟩
def iR.kept{c:Nat->Value}{F G:Nat->Prop}{base:Nat}{w:World}(b:∀k,F k->G k):∀{vs:List FVal} {fs:List aI},iR c F base w vs fs->(∀v∈vs,∀k∈v.owns,G k)->uC c G w vs fs
 |[],[],_,_=>trivial
 |v::_,_::_,⟨a,i⟩,d=>by
  have f:=d v (aS_ ..);obtain⟨⟨q,o,p⟩,l⟩:=a.vars;obtain⟨⟨r,g,n⟩,j⟩:=a.ops;exact⟨⟨a.fn.keep (fun _ _=>rfl) b,a.nx,a.ln,eE.keep (fun _ _=>rfl) b a.sp,PVs.ofRow o (p.mono b) fun k e=>f k (by simp[FVal.owns,e]),l,PVs.ofRow g (n.mono b) fun k e=>f k (by simp[FVal.owns,e]),j⟩,iR.kept b i fun u m=>d u (aJ_ _ m)⟩
 |[],_::_,h,_=>h.elim
 |_::_,[],h,_=>h.elim
def cT.kept{x:Nat->Value}{F G:Nat->Prop}{base:Nat}{w:World}{sb gf i d c:Nat}{r a:Value}{b:List FVal}{m:cF}(h:cT x F base w sb gf i (.int .i64 d) r a (.int .i64 c) b m)(y:∀k,F k->G k)(B:∀k∈aF sb gf a b,k≠sb->G k):
 kR x G w (.agg #[.int .i64 d,.slice (some ⟨gf,0,none⟩) b.length i,r,a,.int .i64 c]) ⟨d,m,c⟩:=by
 obtain⟨E,H⟩:=aK_.1 h.nodup;have o:∀k,k∈gf::(a.ownBlock.toList++aT b)->k≠sb:=fun k l e=>E (by rw[<-e];exact l)
 have p:∀k,k∈gf::(a.ownBlock.toList++aT b)->G k:=fun k l=>B k (aJ_ _ l) (o k l)
 refine⟨_,r,a,b,rfl,?_,iR.kept y h.frs fun v D k l=>p k ?_,h.tape.keep (fun _ _=>rfl) y,?_⟩
 ·rcases h.row.2 with ⟨f,_⟩|⟨t,g,j,f,u,n,q,A,z,s⟩
  ·cases f
  ·cases f;exact as_ ⟨gf,i,j,rfl,p gf (by simp),n,q,s⟩
 ·have C:k∈aT b:=bt_.2 ⟨v,D,l⟩;simp[C]
 ·rcases h.out.2 with ⟨f,u⟩|⟨t,g,j,f,u,n,q,A,z,s⟩
  ·exact av_ ⟨aN_ u,f⟩
  ·exact as_ ⟨t,g,j,f,p t (by rw[f];simp[Value.ownBlock]),n,q,by simpa using s⟩
def Kept.setCell{own:List Nat}{w W:World}(h:Kept own w W)(p:Addr)(x:Value)(b:p.block∈own):Kept own w (W.setCell p x):=
 ⟨h.os,h.tape,h.output,by simpa using h.size,fun k c a=>by rw[ax_ _ _ _ _ fun e=>a (by rw[e];exact b),h.block k c a]⟩
def QY(w w2:World)(b a x0 n c0:Nat)(H t z:Value)(P:Value->World->Prop)(A:Nat->Nat->World->Prop)(C E:Nat->Nat->Nat->World->Prop)(D1 D2:Nat->Nat->Nat->Option Addr->Nat->Nat->World->Prop)(O:Nat->Nat->Option Addr->Nat->Nat->World->Prop)(hn:n<=100)
 (aa:H=.slice (some ⟨x0,0,none⟩) n c0) (T:∃xa xl xc,z=.slice xa xl xc) (Z:∃N Y J,t=.slice N Y J)
 (hW:(w.alloc (.cells #[.int .i64 b,H,t,z,.int .i64 a] 108)).alloc (.cells #[.int .i64 0,.slice none 0 0,.slice none 0 0,.slice none 0 0,.int .i64 0] 108)=w2)
 (HC:Hid (Calls prog 281 #[H] w2 fun e o=>∃g cap,e=.returned (.slice (some ⟨g,0,none⟩) n cap)/\A g cap o))
 (HA:Hid (∀g cap W,A g cap W->(∃u,W.cell? ⟨w.heap.size,1,none⟩=some u)/\W.frozen? ⟨w.heap.size,1,none⟩=false/\w.heap.size<W.heap.size/\C g cap 0 (W.setCell ⟨w.heap.size,1,none⟩ (.slice (some ⟨g,0,none⟩) n cap))))
 (HR:Hid (∀g cap j W,C g cap j W->W.cell? ⟨w.heap.size,1,none⟩=some (.slice (some ⟨g,0,none⟩) n cap)/\w.heap.size<W.heap.size/\g<W.heap.size))
 (HV:Hid (∀g cap j W,C g cap j W->j<n->∃x l c,W.cell? ⟨g,j*6+4,none⟩=some (.slice x l c)/\Calls prog 282 #[.slice x l c] W fun e o=>∃h f,e=.returned (.slice h l f)/\D1 g cap j h l f o))
 (U:Hid (∀g cap j x l c W,D1 g cap j x l c W->(∃u,W.cell? ⟨g,j*6+4,none⟩=some u)/\W.frozen? ⟨g,j*6+4,none⟩=false/\g<W.heap.size/\E g cap j (W.setCell ⟨g,j*6+4,none⟩ (.slice x l c))))
 (HE:Hid (∀g cap j W,E g cap j W->∃x l c,W.cell? ⟨g,j*6+5,none⟩=some (.slice x l c)/\g<W.heap.size/\Calls prog 282 #[.slice x l c] W fun e o=>∃h f,e=.returned (.slice h l f)/\D2 g cap j h l f o))
 (I:Hid (∀g cap j x l c W,D2 g cap j x l c W->(∃u,W.cell? ⟨g,j*6+5,none⟩=some u)/\W.frozen? ⟨g,j*6+5,none⟩=false/\g<W.heap.size/\C g cap (j+1) (W.setCell ⟨g,j*6+5,none⟩ (.slice x l c))))
 (HO:Hid (∀g cap W,C g cap n W->W.cell? ⟨w.heap.size,3,none⟩=some z/\Calls prog 109 #[z] W fun e o=>∃h G f,e=.returned (.slice h G f)/\O g cap h G f o))
 (HF:Hid (∀g cap x l c W,O g cap x l c W->(W.cell? ⟨w.heap.size,0,none⟩=some (.int .i64 b)/\W.cell? ⟨w.heap.size,1,none⟩=some (.slice (some ⟨g,0,none⟩) n cap)/\W.cell? ⟨w.heap.size,2,none⟩=some t/\(∃u,W.cell? ⟨w.heap.size,3,none⟩=some u)/\W.cell? ⟨w.heap.size,4,none⟩=some (.int .i64 a)/\W.frozen? ⟨w.heap.size,3,none⟩=false/\w.heap.size+1<W.heap.size)/\
   (W.heap[w.heap.size+1]?=some (.cells #[.int .i64 0,.slice none 0 0,.slice none 0 0,.slice none 0 0,.int .i64 0] 108 (0,0)))))
 (HP:Hid (∀g cap x l c W W',O g cap x l c W->Kept [w.heap.size,w.heap.size+1] W W'->W'.heap.size=W.heap.size->P (.agg #[.int .i64 b,.slice (some ⟨g,0,none⟩) n cap,t,.slice x l c,.int .i64 a]) W')):
 Calls prog 226 #[.agg #[.int .i64 b,H,t,z,.int .i64 a]] w fun e o=>∃v,e=.returned v/\P v o:=by
 obtain⟨xa,xl,xc,rfl⟩:=T;obtain⟨N,Y,J,rfl⟩:=Z;subst aa;have HW:=aB hW;clear hW;go_enter func226,ntmps226;go_wp2_with fail;rw[HW.out];refine HC.out.mono ?_;rintro e w3 ⟨g,cap,rfl,h3⟩;obtain⟨⟨u3,a1⟩,a2,a3,X⟩:=HA.out _ _ _ h3;obtain⟨b1,b2,b3⟩:=HR.out _ _ _ _ X;have H4:=aB X;clear h3 X;generalize B:w3.setCell ⟨w.heap.size,1,none⟩ (.slice (some ⟨g,0,none⟩) n cap)=w4 at H4 b1 b2 b3;have L:=aB B;clear B;go_wp2_with fail;rw[L.out];go_wp2_with fail;go_loopg [3,4,12] n (fun gk _ _ i wr=>∃j:Nat,j+gk=n/\i=.int .i64 j/\C g cap j wr)
 case atStart=>exact⟨0,by omega,rfl,H4.out⟩
 case round=>
  obtain⟨j,hj,rfl,F⟩:=hrel;obtain⟨b1,b2,b3⟩:=HR.out _ _ _ _ F;by_cases M:j<n
  ·obtain⟨m,rfl⟩:∃m,gk=m+1:=⟨gk-1,by omega⟩
   obtain⟨x,l,c,c1,k⟩:=HV.out _ _ _ _ F M;have r:=aB k;have e1:(0:Int)<=(j:Int):=by omega
   have e2:(j:Int)<(n:Int):=by omega
   clear F k;go_wp2_with fail;refine r.out.mono ?_;rintro e q ⟨h,f,rfl,s⟩;obtain⟨⟨u5,d1⟩,d2,d3,h6⟩:=U.out _ _ _ _ _ _ _ s;obtain⟨y,l2,c2,y1,y2,p⟩:=HE.out _ _ _ _ h6;have D:=aB p;have ai:q.cell? ⟨g,j*6+5,none⟩=some (.slice y l2 c2):=by simpa [go_sem] using y1
   clear s h6 p y1 y2;go_wp2_with fail;refine D.out.mono ?_;rintro e w7 ⟨y',d',rfl,h7⟩;obtain⟨⟨u7,f1⟩,f2,f3,h8⟩:=I.out _ _ _ _ _ _ _ h7;have H8:=aB h8;clear h7 h8;go_wp2_with fail;go_roundg m
   case measure=>omega
   case rel=>exact⟨j+1,by omega,by go_num,H8.out⟩
  ·have K:j=n:=by omega
   subst K;obtain⟨o1,k⟩:=HO.out _ _ _ F;have r:=aB k;clear F k;go_wp2_with fail;refine r.out.mono ?_;rintro e q ⟨h,G,f,rfl,s⟩;obtain⟨⟨p0,p1,p2,⟨u3,p3⟩,p4,pf,pl⟩,d⟩:=HF.out _ _ _ _ _ _ s;have Q:q.cell? ⟨w.heap.size+1,0,none⟩=some (.int .i64 0):=aA d rfl;have ac:q.cell? ⟨w.heap.size+1,1,none⟩=some (.slice none 0 0):=aA d rfl;have S:q.cell? ⟨w.heap.size+1,2,none⟩=some (.slice none 0 0):=aA d rfl;have V:q.cell? ⟨w.heap.size+1,3,none⟩=some (.slice none 0 0):=aA d rfl;have ab:q.cell? ⟨w.heap.size+1,4,none⟩=some (.int .i64 0):=aA d rfl;have ah:=aE (i:=0) d;have aj:=aE (i:=1) d;have ag:=aE (i:=2) d;have ae:=aE (i:=3) d;have af:=aE (i:=4) d;have H5:=aB s;clear s d;have ad:w.heap.size<q.heap.size:=by omega
   go_wp2_with fail;refine⟨rfl,.agg #[.int .i64 b,.slice (some ⟨g,0,none⟩) j cap,.slice N Y J,.slice h G f,.int .i64 a],?_,_,rfl,HP.out _ _ _ _ _ _ _ H5.out ?_ (by simp)⟩
   ·simp[results,results226,go_sem,Q,ac,S,V,ab]
   ·exact((((((Kept.refl _ _).setCell _ _ (by simp)).setCell _ _ (by simp)).setCell _ _ (by simp)).setCell _ _ (by simp)).setCell _ _ (by simp)).setCell _ _ (by simp)
def PU(a b:List FVal)(v:FVal)(i:Nat)(c:i<6):(fV (a++v::b))[a.length*6+i]?=v.cells[i]?:=by
 rw[jL,aV_ (by rw[dZ];omega),dZ,bs_]
 show (v.cells++fV b)[i]?=_
 rw[a3_ (by exact c)]
def B5(a b:List FVal)(v v':FVal)(i:Nat)(x:Value)(d:i<6)(c:v'.cells=v.cells.set i x):(fV (a++v::b)).set (a.length*6+i) x=fV (a++v'::b):=by
 rw[jL,jL,List.set_append_right _ _ (by rw[dZ];omega),dZ,bs_]
 show fV a++(v.cells++fV b).set i x=fV a++(v'.cells++fV b)
 rw[List.set_append_left _ _ (by exact d),c]
structure CI(w:World)(time stop n g cap:Nat)(tv xo:Value)(fvs':List FVal)(own:List Nat)(W:World):Prop where
 row:W.ownsRow (w.heap.size+2) 195 6 (.slice (some ⟨g,0,none⟩) n cap) n (fV fvs')
 nodup:(g::own).Nodup
 rng:∀k∈g::own,w.heap.size+2<=k/\k<W.heap.size
 bel:Below w.heap.size w W
 b1:W.heap[w.heap.size]?=some (.cells #[.int .i64 time,.slice (some ⟨g,0,none⟩) n cap,tv,xo,.int .i64 stop] 108 (0,0))
 b2:W.heap[w.heap.size+1]?=some (.cells #[.int .i64 0,.slice none 0 0,.slice none 0 0,.slice none 0 0,.int .i64 0] 108 (0,0))
section
variable {w:World} {time stop n g cap:Nat} {tv xo:Value} {own:List Nat} {W W':World} {a b:List FVal} {v v':FVal}
def CI.cell(h:CI w time stop n g cap tv xo (a++v::b) own W)(i:Nat)(d:i<6):W.cell? ⟨g,a.length*6+i,none⟩=v.cells[i]?/\W.frozen? ⟨g,a.length*6+i,none⟩=false/\g<W.heap.size:=by
 refine⟨?_,h.row.frozenAt _,(h.rng g (by simp)).2⟩
 have c:=h.row.1;rw[dZ,aw_,aB_] at c;rw[h.row.cellAt (a.length*6+i) (by omega),PU a b v i d]
def CI.grow{a:List FVal}(h:CI w time stop n g cap tv xo a own W)(d:Below W.heap.size W W')(o:Option Nat)(i:∀k,o=some k->W.heap.size<=k/\k<W'.heap.size):CI w time stop n g cap tv xo a (own++o.toList) W':=by
 have j:=h.bel.size;have p:=aD h.b1;have l:=aD h.b2;refine⟨gS h.row d,?_,fun k b=>?_,h.bel.trans (d.mono j),by rw[d.block _ p];exact h.b1,by rw[d.block _ l];exact h.b2⟩
 ·rw[<-aY_];refine be_.2 ⟨h.nodup,by cases o<;>simp,fun x q y m e=>?_⟩
  subst e;have f:o=some x:=by simpa using m
  have:=(h.rng x q).2;have:=(i x f).1;omega
 ·rw[<-aY_] at b;rcases aE_.1 b with b|b
  ·exact⟨(h.rng k b).1,az_ (h.rng k b).2 d.size⟩
  ·have c:o=some k:=by simpa using b
   have:=(i k c).1;exact⟨by omega,(i k c).2⟩
def CI.set(h:CI w time stop n g cap tv xo (a++v::b) own W)(i:Nat)(e:i<6)(x:Value)(d:v'.cells=v.cells.set i x):CI w time stop n g cap tv xo (a++v'::b) own (W.setCell ⟨g,a.length*6+i,none⟩ x):=by
 have f:=(h.rng g (by simp)).1
 have c:∀k,k≠g->(W.setCell ⟨g,a.length*6+i,none⟩ x).heap[k]?=W.heap[k]?:=fun k c=>ax_ _ _ _ _ c
 refine⟨?_,h.nodup,fun k c=>⟨(h.rng k c).1,by simpa using (h.rng k c).2⟩,h.bel.setCell (by show w.heap.size<=g;omega) _,by rw[c _ (by omega)];exact h.b1,by rw[c _ (by omega)];exact h.b2⟩
 rw[<-B5 a b v v' i x e d];exact(h.row.stored _ _).1
def CI.keep{a:List FVal}(h:CI w time stop n g cap tv xo a own W):w.heap.size<W.heap.size/\w.heap.size+1<W.heap.size:=⟨aD h.b1,aD h.b2⟩
end
structure RR(fp:Nat->Value)(F:Nat->Prop)(base:Nat)(w:World)(gf cap:Nat)(tv outv:Value)(fvs:List FVal)(m:cF):Prop where
 row:w.ownsRow base 195 6 (.slice (some ⟨gf,0,none⟩) fvs.length cap) fvs.length (fV fvs)
 frs:iR fp F base w fvs m.frames
 tape:rH F w tv m.tape
 out:w.ownsRow base 9 1 outv m.out.length (lV m.out)
 nodup:(gf::(outv.ownBlock.toList++aT fvs)).Nodup
 rng:∀k∈gf::(outv.ownBlock.toList++aT fvs),base<=k/\k<w.heap.size
def PVs.cells{F:Nat->Prop}{w:World}{v:Value}{l:List aJ}(h:PVs F w v l)(p:l.length<=1000000):
 ∃x c,v=.slice x l.length c/\Calls prog 282 #[.slice x l.length c] w fun e a=>∃d b n,e=.returned (.slice d l.length b)/\a.ownsRow w.heap.size 256 1 (.slice d l.length b) l.length n/\fT F w n l/\Below w.heap.size w a:=by
 rcases h.row with ⟨rfl,rfl⟩|⟨g,f,m,rfl,y,r,i,s⟩
 ·refine⟨none,0,rfl,(sT w).mono ?_⟩;rintro e a ⟨rfl,rfl⟩;exact⟨none,0,[],rfl,World.ownsRow_nil _ _ _ _,fT.nil _ _,ay_ _ _⟩
 ·refine⟨_,_,rfl,(sU g 0 l.length f m w (by rw[i.1];omega) p (fun j u q=>by rw[bk_];exact s j u q) (oG i)).mono ?_⟩
  rintro e a ⟨t,rfl,k,o⟩;obtain⟨d,b,rfl⟩:=cU k;exact⟨d,b,m,rfl,k,i,o⟩
def lK{a:Nat->Value}{F:Nat->Prop}{base:Nat}{w w':World}{vs:List FVal}{fs:List aI}(h:iR a F base w vs fs)(f:∀b,F b->w'.heap[b]?=w.heap[b]?)(d:∀k∈aT vs,w'.heap[k]?=w.heap[k]?):iR a F base w' vs fs:=
 h.keep f (fun _ h=>h) fun v e k c=>d k (bt_.2 ⟨v,e,c⟩)
def KS(us:List FVal)(v:FVal):aT (us++[v])=aT us++v.owns:=by simp[aT]
def iH{w:World}{base a:Nat}{e:TypeId}{b:Nat}{v:Value}{n:Nat}{xs:List Value}(h:w.ownsRow base e b v n xs)(j:a<=base):w.ownsRow a e b v n xs:=by
 refine⟨h.1,?_⟩;rcases h.2 with h|⟨g,d,c,i,f,k⟩
 ·exact av_ h
 ·exact as_ ⟨g,d,c,i,aF_ j f,k⟩
def CpC(fp:Nat->Value)(F:Nat->Prop)(w:World)(time stop n:Nat)(tv xo:Value)(fvs:List FVal)(frames:List aI)(g cap j:Nat)(W:World):Prop:=
 ∃us:List FVal,us.length=j/\CI w time stop n g cap tv xo (us++fvs.drop j) (aT us) W/\iR fp F (w.heap.size+2) W us (frames.take j)
def CpE(fp:Nat->Value)(F:Nat->Prop)(w:World)(time stop n:Nat)(tv xo:Value)(fvs:List FVal)(frames:List aI)(g cap j:Nat)(W:World):Prop:=
 ∃(us:List FVal) (v:FVal) (f:aI) (x:Value),us.length=j/\fvs[j]?=some v/\frames[j]?=some f/\CI w time stop n g cap tv xo (us++{ v with vv:=x }::fvs.drop (j+1)) (aT us++x.ownBlock.toList) W/\iR fp F (w.heap.size+2) W us (frames.take j)/\lZ F (w.heap.size+2) W x f.vars
def VM{L:Nat->Value}{F:Nat->Prop}{w:World}{v:Value}{s:bI}(h:kR L F w v s)(T:∀k,F k->k<w.heap.size)(bf:s.m.frames≠[])(bv:s.m.frames.length<=16)(hb:∀f∈s.m.frames,f.vars.length<=90001/\f.ops.length<=99000)(bt:s.m.out.length<=50):
 Calls prog 226 #[v] w fun e D=>∃v',e=.returned v'/\∃gf cap tv outv fvs,v'=.agg #[.int .i64 s.time,.slice (some ⟨gf,0,none⟩) fvs.length cap,tv,outv,.int .i64 s.stop]/\Below w.heap.size w D/\RR L F w.heap.size D gf cap tv outv fvs s.m:=by
 obtain⟨fv,tv,Q,fvs,rfl,ba,M,ay,aw⟩:=h;have ai:=M.length
 have V:0<fvs.length:=by
  rw[ai];exact bl_.2 bf
 rcases ba with ⟨e,_⟩|⟨x0,c0,bq,rfl,bn,bd,bp,bl⟩
 ·rw[e] at V;simp at V
 have ar:∃ta tl tc,tv=.slice ta tl tc:=by
  rcases ay with ⟨_,x,c,e⟩|⟨g,o,c,e,_⟩
  ·exact⟨_,_,_,e⟩
  ·exact⟨_,_,_,e⟩
 have az:∃xa xl xc,Q=.slice xa xl xc:=by
  rcases aw with ⟨_,e⟩|⟨g,c,cu,e,_⟩
  ·exact⟨_,_,_,e⟩
  ·exact⟨_,_,_,e⟩
 generalize U:(w.alloc (.cells #[.int .i64 s.time,.slice (some ⟨x0,0,none⟩) fvs.length c0,tv,Q,.int .i64 s.stop] 108)).alloc (.cells #[.int .i64 0,.slice none 0 0,.slice none 0 0,.slice none 0 0,.int .i64 0] 108)=w2;have ax:Below w.heap.size w w2:=by rw[<-U];exact((ay_ _ w).alloc (au_ _) _).alloc (by simp) _
 have bh:w2.heap.size=w.heap.size+2:=by rw[<-U];simp
 have bg:w2.heap[w.heap.size]?=some (.cells #[.int .i64 s.time,.slice (some ⟨x0,0,none⟩) fvs.length c0,tv,Q,.int .i64 s.stop] 108 (0,0)):=by
  rw[<-U,aA_ _ _ _ (by simp)];exact aM _ _ rfl _
 have bj:w2.heap[w.heap.size+1]?=some (.cells #[.int .i64 0,.slice none 0 0,.slice none 0 0,.slice none 0 0,.int .i64 0] 108 (0,0)):=by
  rw[<-U];exact aM _ _ (by simp) _
 have bc:∀b,F b->w2.heap[b]?=w.heap[b]?:=fun b hb=>ax.block b (T b hb)
 have ab:∀{W:World},Below w.heap.size w W->∀b,F b->W.heap[b]?=w.heap[b]?:=fun hb b m=>hb.block b (T b m)
 have Y:∀u∈fV fvs,u.oneCell'=true:=by
  have aq:∀(vs:List FVal) (I:List aI),uC L F w vs I->∀u∈fV vs,u.oneCell'=true:=by
   intro vs;induction vs with
   |nil=>intro I _ u hu;cases hu
   |cons v vs ih=>
    intro I M u hu;cases I with
    |nil=>exact M.elim
    |cons f I=>
     obtain⟨H,h2⟩:=M;rcases aE_.1 hu with hu|hu
     ·obtain⟨bu,gc,cp,br,K,_⟩:=H.fn;obtain⟨p,hp⟩:=H.sp.form
      have bo:∃x n c,v.vv=.slice x n c:=by
       rcases H.vars.row with ⟨_,e⟩|⟨g,c,xs,e,_⟩<;>exact⟨_,_,_,e⟩
      have bi:∃x n c,v.ov=.slice x n c:=by
       rcases H.ops.row with ⟨_,e⟩|⟨g,c,xs,e,_⟩<;>exact⟨_,_,_,e⟩
      obtain⟨x1,n1,c1,e2⟩:=bo;obtain⟨x2,n2,c2,e3⟩:=bi;simp only[FVal.cells,K,H.nx,H.ln,hp,e2,e3,aG_,aQ_,or_false] at hu;rcases hu with rfl|rfl|rfl|rfl|rfl|rfl<;>rfl
     ·exact ih I h2 u hu
  exact aq fvs s.m.frames M
 have J:∀j (B:j<fvs.length),∃v f,fvs[j]?=some v/\s.m.frames[j]?=some f/\s9 L F w v f/\f∈s.m.frames/\fvs.drop j=v::fvs.drop (j+1)/\s.m.frames.take (j+1)=s.m.frames.take j++[f]:=fun j B=>by
  have ag:j<s.m.frames.length:=by omega
  refine⟨fvs[j],s.m.frames[j],aH_ B,aH_ ag,M.get j _ _ (aH_ B) (aH_ ag),aR_ ag,bL_ B,aT_ ag⟩
 have hR:∀g cap j W,CpC L F w s.time s.stop fvs.length tv Q fvs s.m.frames g cap j W->W.cell? ⟨w.heap.size,1,none⟩=some (.slice (some ⟨g,0,none⟩) fvs.length cap)/\w.heap.size<W.heap.size/\g<W.heap.size:=fun g cap j W G=>by
  obtain⟨i,_,a,_⟩:=G;exact⟨aA a.b1 rfl,aD a.b1,(a.rng g (by simp)).2⟩
 refine(QY w w2 s.time s.stop x0 fvs.length c0 (.slice (some ⟨x0,0,none⟩) fvs.length c0) tv Q
  (fun v' D=>∃gf cap tv outv fvs,v'=.agg #[.int .i64 s.time,.slice (some ⟨gf,0,none⟩) fvs.length cap,tv,outv,.int .i64 s.stop]/\Below w.heap.size w D/\RR L F w.heap.size D gf cap tv outv fvs s.m)
  (fun g cap W=>W.ownsRow (w.heap.size+2) 195 6 (.slice (some ⟨g,0,none⟩) fvs.length cap) fvs.length (fV fvs)/\Below w2.heap.size w2 W)
  (CpC L F w s.time s.stop fvs.length tv Q fvs s.m.frames) (CpE L F w s.time s.stop fvs.length tv Q fvs s.m.frames)
  (fun g cap j x l c W=>∃i v f,i.length=j/\fvs[j]?=some v/\s.m.frames[j]?=some f/\CI w s.time s.stop fvs.length g cap tv Q (i++v::fvs.drop (j+1)) (aT i++(Value.slice x l c).ownBlock.toList) W/\iR L F (w.heap.size+2) W i (s.m.frames.take j)/\lZ F (w.heap.size+2) W (.slice x l c) f.vars)
  (fun g cap j x l c W=>∃i v f y,i.length=j/\fvs[j]?=some v/\s.m.frames[j]?=some f/\CI w s.time s.stop fvs.length g cap tv Q (i++{ v with vv:=y }::fvs.drop (j+1)) (aT i++y.ownBlock.toList++(Value.slice x l c).ownBlock.toList) W/\iR L F (w.heap.size+2) W i (s.m.frames.take j)/\lZ F (w.heap.size+2) W y f.vars/\lZ F (w.heap.size+2) W (.slice x l c) f.ops)
  (fun g cap x l c W=>∃i,i.length=fvs.length/\CI w s.time s.stop fvs.length g cap tv Q i (aT i++(Value.slice x l c).ownBlock.toList) W/\iR L F (w.heap.size+2) W i s.m.frames/\W.ownsRow (w.heap.size+2) 9 1 (.slice x l c) s.m.out.length (lV s.m.out))
  (by omega) rfl az ar U ?_ (fun g cap W G=>?_) hR (fun g cap j W G B=>?_) (fun g cap j x l c W G=>?_) (fun g cap j W G=>?_) (fun g cap j x l c W G=>?_) (fun g cap W G=>?_) (fun g cap x l c W G=>?_) (fun g cap x l c W W' G q O=>?_))
 ·refine(GG x0 0 fvs.length c0 (fV fvs) w2 (by rw[dZ]) (by omega) (fun j u B=>?_) Y).mono ?_
  ·rw[bk_];rw[<-bl,aU_] at B;split at B
   ·exact aA ((bc x0 bn).trans bd) (by simpa using B)
   ·cases B
  ·rintro e D ⟨v',rfl,A,r⟩;rw[bh] at A;rcases A.2 with ⟨r1,r2⟩|⟨g,cp,cu,r1,_⟩
   ·omega
   ·rw[r1] at A ⊢
    exact⟨g,cp,rfl,A,r⟩
 ·obtain⟨A,r⟩:=G;have hg:=A.lt g rfl;have ah:W.heap[w.heap.size]?=_:=(r.block _ (by omega)).trans bg
  have av:W.heap[w.heap.size+1]?=_:=(r.block _ (by omega)).trans bj
  refine⟨⟨_,aA ah rfl⟩,aE ah,aD ah,[],rfl,⟨?_,by simp[aT],fun k q=>?_,?_,aS ah,?_⟩,trivial⟩
  ·exact aY A fun k e=>ax_ _ _ _ _ (by cases e;show g≠w.heap.size;omega)
  ·simp[aT] at q;subst q;exact⟨hg.1,by simpa using hg.2⟩
  ·exact(ax.trans (r.mono (by omega))).setCell (au_ _) _
  ·rw[ax_ _ _ _ _ (by show w.heap.size+1≠w.heap.size;omega)];exact av
 ·obtain⟨i,rfl,a,z⟩:=G;obtain⟨v,f,K,e2,hv,ad,e3,e4⟩:=J i.length B;rw[e3] at a;obtain⟨c1,c2,c3⟩:=a.cell 4 (by omega)
  have ao:=hv.keep (ab a.bel) fun _ h=>h
  obtain⟨x,c,e5,ap⟩:=ao.vars.cells (by have:=(hb f ad).1;omega)
  refine⟨x,f.vars.length,c,c1.trans (by rw[<-e5];rfl),ap.mono ?_⟩
  rintro e D ⟨x',c',ys,he,A,hr,r⟩;have P:∀k,(Value.slice x' f.vars.length c').ownBlock=some k->W.heap.size<=k/\k<D.heap.size:=fun k q=>A.lt k q
  have O:=a.keep;refine⟨x',c',he,i,v,f,rfl,K,e2,a.grow r _ P,lK z (fun b m=>r.block b (az_ (T b m) a.bel.size)) (fun k q=>r.block k (a.rng k (aJ_ _ q)).2),⟨ys,iH A (by omega),hr.keep fun b m=>r.block b (az_ (T b m) a.bel.size)⟩,hv.varsB⟩
 ·obtain⟨i,v,f,rfl,K,e2,a,z,S⟩:=G;obtain⟨c1,c2,c3⟩:=a.cell 4 (by omega)
  have C:∀k∈aT i++(Value.slice x l c).ownBlock.toList,k≠g:=fun k q e=>(aK_.1 a.nodup).1 (by rw[<-e];exact q)
  have t:∀k,k≠g->(W.setCell ⟨g,i.length*6+4,none⟩ (.slice x l c)).heap[k]?=W.heap[k]?:=fun k q=>ax_ _ _ _ _ q
  have ae:∀b,F b->b≠g:=fun b m e=>by have H:=T b m;have h2:=(a.rng g (by simp)).1;omega
  refine⟨⟨_,c1⟩,c2,c3,i,v,f,_,rfl,K,e2,a.set 4 (by omega) _ rfl,lK z (fun b m=>t b (ae b m)) (fun k q=>t k (C k (aP_ _ q))),S.keep (fun b m=>t b (ae b m)) (fun _ h=>h) fun k q=>t k (C k (by simp[q]))⟩
 ·obtain⟨i,v,f,x,rfl,K,e2,a,z,S⟩:=G;obtain⟨c1,c2,c3⟩:=a.cell 5 (by omega)
  have B:i.length<fvs.length:=(aZ_.1 K).1;obtain⟨v',f',aa,N,hv,ad,e3,e4⟩:=J i.length B;rw[K] at aa;cases aa;rw[e2] at N;cases N;have ao:=hv.keep (ab a.bel) fun _ h=>h
  obtain⟨y,d,e5,ap⟩:=ao.ops.cells (by have:=(hb f ad).2;omega)
  refine⟨y,f.ops.length,d,c1.trans (by rw[<-e5];rfl),c3,ap.mono ?_⟩
  rintro e D ⟨y',d',ys,he,A,hr,r⟩;have P:∀k,(Value.slice y' f.ops.length d').ownBlock=some k->W.heap.size<=k/\k<D.heap.size:=fun k q=>A.lt k q
  have O:=a.keep;have am:∀b,F b->D.heap[b]?=W.heap[b]?:=fun b m=>r.block b (az_ (T b m) a.bel.size)
  refine⟨y',d',he,i,v,f,x,rfl,K,e2,a.grow r _ P,lK z am (fun k q=>r.block k (a.rng k (aJ_ _ (aP_ _ q))).2),S.keep am (fun _ h=>h) fun k q=>r.block k (a.rng k (by simp[q])).2,⟨ys,iH A (by omega),hr.keep am⟩,hv.opsB⟩
 ·obtain⟨i,v,f,y,rfl,K,e2,a,z,S,bk⟩:=G;obtain⟨c1,c2,c3⟩:=a.cell 5 (by omega)
  have B:i.length<fvs.length:=(aZ_.1 K).1;obtain⟨v',f',aa,N,hv,ad,e3,e4⟩:=J i.length B;rw[K] at aa;cases aa;rw[e2] at N;cases N;have C:∀k∈aT i++y.ownBlock.toList++(Value.slice x l c).ownBlock.toList,k≠g:=fun k q e=>(aK_.1 a.nodup).1 (by rw[<-e];exact q)
  have t:∀k,k≠g->(W.setCell ⟨g,i.length*6+5,none⟩ (.slice x l c)).heap[k]?=W.heap[k]?:=fun k q=>ax_ _ _ _ _ q
  have ae:∀b,F b->b≠g:=fun b m e=>by have H:=T b m;have h2:=(a.rng g (by simp)).1;omega
  have an:∀b,F b->(W.setCell ⟨g,i.length*6+5,none⟩ (.slice x l c)).heap[b]?=W.heap[b]?:=fun b m=>t b (ae b m)
  have Z:=a.set (v':={ v with vv:=y,ov:=.slice x l c }) 5 (by omega) (.slice x l c) rfl
  have af:=hv.keep (ab (Z.bel)) fun _ h=>h
  refine⟨⟨_,c1⟩,c2,c3,i++[{ v with vv:=y,ov:=.slice x l c }],by simp,?_,?_⟩
  ·have e5:aT (i++[{ v with vv:=y,ov:=.slice x l c }])=aT i++y.ownBlock.toList++(Value.slice x l c).ownBlock.toList:=by
    rw[KS,bd_];rfl
   have e6:i++[{ v with vv:=y,ov:=.slice x l c }]++fvs.drop (i.length+1)=i++{ v with vv:=y,ov:=.slice x l c }::fvs.drop (i.length+1):=by simp
   rw[e5,e6];exact Z
  ·rw[e4];refine(lK z an (fun k q=>t k (C k (by simp[q])))).snoc ⟨af.fn,af.nx,af.ln,af.sp,S.keep an (fun _ h=>h) fun k q=>t k (C k (by simp[q])),bk.keep an (fun _ h=>h) fun k q=>t k (C k (by simp[q]))⟩
 ·obtain⟨i,X,a,z⟩:=G;rw[List.drop_of_length_le (au_ _),bY_] at a;rw[ai,a0_ (au_ _)] at z;have O:=a.keep;have au:=aw.keep (ab a.bel) fun _ h=>h
  refine⟨aA a.b1 rfl,?_⟩
  have aj:∀x' l' c' (D:World),D.ownsRow W.heap.size 9 1 (.slice x' l' c') s.m.out.length (lV s.m.out)->Below W.heap.size W D->∃i,i.length=fvs.length/\CI w s.time s.stop fvs.length g cap tv Q i (aT i++(Value.slice x' l' c').ownBlock.toList) D/\iR L F (w.heap.size+2) D i s.m.frames/\D.ownsRow (w.heap.size+2) 9 1 (.slice x' l' c') s.m.out.length (lV s.m.out):=fun x' l' c' D A r=>
   ⟨i,X,a.grow r _ fun k q=>A.lt k q,lK z (fun b m=>r.block b (az_ (T b m) a.bel.size)) (fun k q=>r.block k (a.rng k (aJ_ _ q)).2),iH A (by omega)⟩
  rcases au with ⟨K,rfl⟩|⟨go,co,cu,rfl,H,h2,h3,h4⟩
  ·refine(sV W).mono ?_;rintro e D ⟨rfl,rfl⟩;exact⟨none,0,0,rfl,aj _ _ _ _ (by rw[K];exact World.ownsRow_nil _ _ _ _) (ay_ _ _)⟩
  ·refine(sW go 0 s.m.out.length co (lV s.m.out) W (by simp[lV]) (by omega) (fun j u B=>?_) (fun u hu=>?_)).mono ?_
   ·rw[bk_];rw[<-h4,aU_] at B;split at B
    ·exact aA h2 (by simpa using B)
    ·cases B
   ·obtain⟨y,_,rfl⟩:=bz_.1 hu;rfl
   ·rintro e D ⟨v',rfl,A,r⟩;obtain⟨x',c',rfl⟩:=cU A;exact⟨x',_,c',rfl,aj _ _ _ _ A r⟩
 ·obtain⟨i,X,a,z,A⟩:=G;exact⟨⟨aA a.b1 rfl,aA a.b1 rfl,aA a.b1 rfl,⟨_,aA a.b1 rfl⟩,aA a.b1 rfl,aE a.b1,aD a.b2⟩,a.b2⟩
 ·obtain⟨i,X,a,z,A⟩:=G
  have be:∀k∈g::(aT i++(Value.slice x l c).ownBlock.toList),k∉[w.heap.size,w.heap.size+1]:=fun k q hm=>by
   have:=(a.rng k q).1;simp at hm;omega
  have ak:∀k∈g::(aT i++(Value.slice x l c).ownBlock.toList),W'.heap[k]?=W.heap[k]?:=fun k E=>q.block k (a.rng k E).2 (be k E)
  have bm:∀b,F b->W'.heap[b]?=W.heap[b]?:=fun b m=>q.block b (az_ (T b m) a.bel.size) (by have:=T b m;simp;omega)
  have bb:Below w.heap.size w W':=⟨q.os.trans a.bel.os,q.tape.trans a.bel.tape,q.output.trans a.bel.output,by rw[O];exact a.bel.size,fun k E=>by
   rw[q.block k (az_ E a.bel.size) (by simp;omega),a.bel.block k E]⟩
  have al:∀k,k∈g::((Value.slice x l c).ownBlock.toList++aT i)↔k∈g::(aT i++(Value.slice x l c).ownBlock.toList):=fun k=>by simp[or_comm]
  have ac:∀(u:List FVal) (I:List aI),iR L F (w.heap.size+2) W' u I->iR L F w.heap.size W' u I:=by
   intro u;induction u with
   |nil=>intro I h;cases I with
    |nil=>trivial
    |cons=>exact h.elim
   |cons v vs ih=>intro I h;cases I with
    |nil=>exact h.elim
    |cons f I=>
     obtain⟨H,h2⟩:=h;obtain⟨⟨xs,a1,a2⟩,a3⟩:=H.vars;obtain⟨⟨ys,b1,b2⟩,b3⟩:=H.ops;exact⟨⟨H.fn,H.nx,H.ln,H.sp,⟨⟨xs,iH a1 (by omega),a2⟩,a3⟩,⟨⟨ys,iH b1 (by omega),b2⟩,b3⟩⟩,ih I h2⟩
  refine⟨g,cap,tv,.slice x l c,i,by rw[X],bb,⟨?_,ac _ _ (lK z bm fun k E=>ak k (by simp[E])),ay.keep (fun b m=>by rw[bb.block b (T b m)]) (fun _ h=>h),?_,?_,fun k E=>?_⟩⟩
  ·rw[X];exact iH (aY a.row fun k e=>by cases e;exact ak g (by simp)) (by omega)
  ·exact iH (aY A fun k e=>ak k (by simp[e])) (by omega)
  ·have:=a.nodup;rw[aK_] at this ⊢
   refine⟨fun hm=>this.1 (by simpa [or_comm] using hm),?_⟩
   exact(List.perm_append_comm.nodup_iff).1 this.2
  ·have:=a.rng k ((al k).1 E);exact⟨by omega,by rw[O];exact this.2⟩
def ZI(w:World)(b a:Nat)(j h i:Value)(r:a≠0)(f:∃x l c,j=.slice x l c)(d:∃x l c,h=.slice x l c)(g:∃x l c,i=.slice x l c):
 Calls prog 163 #[.agg #[.int .i64 b,j,h,i,.int .i64 a]] w fun e k=>e=.returned (.tuple #[.agg #[.int .i64 0,.slice none 0 0,.slice none 0 0,.slice none 0 0,.int .i64 0],.bool false])/\Below w.heap.size w k:=by
 obtain⟨y,u,n,rfl⟩:=f;obtain⟨s,v,p,rfl⟩:=d;obtain⟨m,o,q,rfl⟩:=g;have t:¬(a:Int)=0:=by omega
 go_enter func163,ntmps163;go_wp2_with fail;refine⟨rfl,.tuple #[.agg #[.int .i64 0,.slice none 0 0,.slice none 0 0,.slice none 0 0,.int .i64 0],.bool false],?_,rfl,((ay_ _ w).alloc (au_ _) _).alloc (by simp) _⟩
 simp[results,results163,go_sem]
def ZH(w Y:World)(a:Nat)(v s u:Value)(P:Value->World->Prop)(A:Nat->Nat->Nat->Value->Value->World->Prop)(B:Nat->World->Prop)(ht:a<=1000000)(F:∃x l c,v=.slice x l c)(E:∃x l c,s=.slice x l c)(C:∃x l c,u=.slice x l c)
 (S:(w.alloc (.cells #[.int .i64 a,v,s,u,.int .i64 0] 108)).alloc (.cells #[.int .i64 0,.slice none 0 0,.slice none 0 0,.slice none 0 0,.int .i64 0] 108)=Y)
 (HC:Hid (Calls prog 226 #[.agg #[.int .i64 a,v,s,u,.int .i64 0]] Y fun e r=>∃gf n cap d g,e=.returned (.agg #[.int .i64 a,.slice (some ⟨gf,0,none⟩) n cap,d,g,.int .i64 0])/\(∃x l c,d=.slice x l c)/\(∃x l c,g=.slice x l c)/\A gf n cap d g r))
 (HG:Hid (∀gf n cap d g W,A gf n cap d g W->Calls prog 125 #[.pointer (some ⟨W.heap.size,0,none⟩)] (W.alloc (.cells #[.int .i64 ((a+1:Nat):Int),.slice (some ⟨gf,0,none⟩) n cap,d,g,.int .i64 0] 108)) fun e r=>e=.returned (.tuple #[])/\B W.heap.size r))
 (HB:Hid (∀b W,B b W->∃(q:Nat) (f t o:Value) (p:Nat),W.heap[b]?=some (.cells #[.int .i64 q,f,t,o,.int .i64 p] 108 (0,0))/\(∃x l c,f=.slice x l c)/\(∃x l c,t=.slice x l c)/\(∃x l c,o=.slice x l c)/\W.heap[w.heap.size+1]?=some (.cells #[.int .i64 0,.slice none 0 0,.slice none 0 0,.slice none 0 0,.int .i64 0] 108 (0,0))/\b≠w.heap.size+1/\
   ∀W',Kept [w.heap.size+1] W W'->W'.heap.size=W.heap.size->P (.agg #[.int .i64 q,f,t,o,.int .i64 p]) W')):
 Calls prog 163 #[.agg #[.int .i64 a,v,s,u,.int .i64 0]] w fun e r=>∃v',e=.returned (.tuple #[v',.bool true])/\P v' r:=by
 obtain⟨x1,l1,c1,rfl⟩:=F;obtain⟨x2,l2,c2,rfl⟩:=E;obtain⟨x3,l3,c3,rfl⟩:=C;have HW:=aB S;clear S;go_enter func163,ntmps163;go_wp2_with fail;rw[HW.out];refine HC.out.mono ?_;rintro e w3 ⟨gf,n,cap,d,g,rfl,⟨y2,m2,d2,rfl⟩,⟨y3,m3,d3,rfl⟩,I⟩;have k:=aB (HG.out _ _ _ _ _ _ I);generalize hb:w3.heap.size=b at k;clear I;rw[show ((a+1:Nat):Int)=(a:Int)+1 by omega] at k
 go_wp2_with fail;refine k.out.mono ?_;rintro e j ⟨rfl,L⟩;obtain⟨q,f,t,o,p,m,⟨M,Q,N,rfl⟩,⟨T,X,U,rfl⟩,⟨J,K,O,rfl⟩,h,q3,V⟩:=HB.out _ _ L;have Z:=aB V;have ah:j.cell? ⟨b,0,none⟩=some (.int .i64 q):=aA m rfl;have al:j.cell? ⟨b,1,none⟩=some (.slice M Q N):=aA m rfl;have ae:j.cell? ⟨b,2,none⟩=some (.slice T X U):=aA m rfl;have ag:j.cell? ⟨b,3,none⟩=some (.slice J K O):=aA m rfl;have ac:j.cell? ⟨b,4,none⟩=some (.int .i64 p):=aA m rfl;have y:j.cell? ⟨w.heap.size+1,0,none⟩=some (.int .i64 0):=aA h rfl;have H:j.cell? ⟨w.heap.size+1,1,none⟩=some (.slice none 0 0):=aA h rfl;have z:j.cell? ⟨w.heap.size+1,2,none⟩=some (.slice none 0 0):=aA h rfl;have D:j.cell? ⟨w.heap.size+1,3,none⟩=some (.slice none 0 0):=aA h rfl;have G:j.cell? ⟨w.heap.size+1,4,none⟩=some (.int .i64 0):=aA h rfl;have aj:=aE (i:=0) h;have ak:=aE (i:=1) h;have af:=aE (i:=2) h;have ab:=aE (i:=3) h;have ad:=aE (i:=4) h;have aa:=aD m;have ai:=aD h;clear L V m h;go_wp2_with fail;refine⟨rfl,.tuple #[.agg #[.int .i64 q,.slice M Q N,.slice T X U,.slice J K O,.int .i64 p],.bool true],?_,_,rfl,Z.out _ ?_ (by simp)⟩
 ·simp[results,results163,go_sem,y,H,z,D,G]
 ·exact(((((Kept.refl _ _).setCell _ _ (by simp)).setCell _ _ (by simp)).setCell _ _ (by simp)).setCell _ _ (by simp)).setCell _ _ (by simp)
def tU{w:World}{base n k:Nat}{t:TypeId}{v:Value}{a:List Value}(h:w.ownsRow base t k v n a):∃x l c,v=.slice x l c:=by
 obtain⟨x,c,e⟩:=cU h;exact⟨x,n,c,e⟩
def AB.of{w w':World}{own:List Nat}(h:kC w)(d:Below w.heap.size w w')(i:∀k∈own,w.heap.size<=k):AB own w':=fun W f=>by
 cases c:prog.globalNamed "internal/strconv.uint64pow10" with
 |none=>unfold kC Lib.TabIs World.var? at h;rw[c] at h;cases h
 |some g=>
  have a:g<w.heap.size:=by
   unfold kC Lib.TabIs World.var? at h;rw[c] at h;simp only[Option.bind_some] at h;rcases a6_ g w.heap.size with b|b
   ·exact b
   ·rw[bj_ (by exact b)] at h
    cases h
  refine h.keep c ?_;rw[f.block g (az_ a d.size) (fun e=>by have:=i g e;omega),d.block g a]
def kR.form{i:Nat->Value}{F:Nat->Prop}{w:World}{v:Value}{s:bI}(h:kR i F w v s):∃b tv xo,v=.agg #[.int .i64 s.time,b,tv,xo,.int .i64 s.stop]/\(∃x l c,b=.slice x l c)/\(∃x l c,tv=.slice x l c)/\(∃x l c,xo=.slice x l c):=by
 obtain⟨b,tv,xo,m,rfl,a,j,f,d⟩:=h;refine⟨b,tv,xo,rfl,?_,?_,?_⟩
 ·rcases a with ⟨_,x,c,e⟩|⟨g,c,k,e,_⟩<;>exact⟨_,_,_,e⟩
 ·rcases f with ⟨_,x,c,e⟩|⟨g,o,c,e,_⟩<;>exact⟨_,_,_,e⟩
 ·rcases d with ⟨_,e⟩|⟨g,c,n,e,_⟩<;>exact⟨_,_,_,e⟩
def RR.run{t:Nat->Value}{F:Nat->Prop}{base:Nat}{w:World}{gf g:Nat}{j a:Value}{c:List FVal}{m:cF}(h:RR t F base w gf g j a c m)(v:∀b,F b->b<base)(f:base<=w.heap.size)(q p:Value):
 cT t F base (w.alloc (.cells #[q,.slice (some ⟨gf,0,none⟩) c.length g,j,a,p] 108)) w.heap.size gf g q j a p c m/\∀k∈aF w.heap.size gf a c,base<=k:=by
 generalize r:w.alloc (.cells #[q,.slice (some ⟨gf,0,none⟩) c.length g,j,a,p] 108)=W;have u:Below w.heap.size w W:=by rw[<-r];exact(ay_ _ w).alloc (au_ _) _
 have x:W.heap.size=w.heap.size+1:=by rw[<-r];simp
 have n:W.heap[w.heap.size]?=some (.cells #[q,.slice (some ⟨gf,0,none⟩) c.length g,j,a,p] 108 (0,0)):=by rw[<-r];exact aM _ _ rfl _
 have o:∀b,F b->W.heap[b]?=w.heap[b]?:=fun b s=>u.block b (az_ (v b s) f)
 have i:∀k∈gf::(a.ownBlock.toList++aT c),W.heap[k]?=w.heap[k]?:=fun k d=>u.block k (h.rng k d).2
 refine⟨⟨n,aY h.row fun k e=>by cases e;exact i gf (by simp),lK h.frs o fun k d=>i k (by simp[d]),h.tape.keep o (fun _ h=>h),aY h.out fun k e=>i k (by simp[e]),?_,fun k d=>?_,fun k d=>?_⟩,fun k d=>?_⟩
 ·exact aK_.2 ⟨fun l=>by have:=(h.rng _ l).2;omega,h.nodup⟩
 ·rcases aG_.1 d with rfl|d
  ·omega
  ·have:=(h.rng k d).2;omega
 ·have y:=v k d;refine⟨by omega,fun l=>?_⟩
  rcases aG_.1 l with rfl|l
  ·omega
  ·have:=(h.rng k l).1;omega
 ·rcases aG_.1 d with rfl|d
  ·exact f
  ·exact(h.rng k d).1
def SP{N:Nat->Value}{F:Nat->Prop}{w:World}{v:Value}{s:bI}{ar:Nat->Option Nat}{C:List dY}{k:Nat}{r:cF × Nat}(ht:iK ar C)(ak:jN C)(h:kR N F w v s)(hF:∀b,F b->b<w.heap.size)(hT:lA N F w C)(hp:kC w)(hs:s.stop=0)
 (hA:eS ar s.m) (Y:s.m.frames≠[]) (hU:fM s.m) (ab:s.m.out.length<=50) (an:s.m.tape.length<=17592186044416) (hk:cJ C k s.m=some r) (aq:s.time+1<=1000000) (hr:r.2<=1000):
 Calls prog 163 #[v] w fun e J=>∃v',e=.returned (.tuple #[v',.bool true])/\Below w.heap.size w J/\∃G,Ext F G w.heap.size/\(∀b,G b->b<J.heap.size)/\kR N G J v' ⟨s.time+1,r.1,bT (s.time+1) r.2⟩:=by
 obtain⟨fv,tv,xo,rfl,f1,f2,f3⟩:=h.form
 have ae:∀f∈s.m.frames,f.vars.length<=90001/\f.ops.length<=99000:=fun f hf=>by
  have hq:∃O,cH ar f O:=by
   obtain⟨b,g,e⟩:=jB Y;rw[e] at hf;have K:=hA.ok.low;have S:=hA.ok.top;rw[e,dA] at K;rw[e,dV] at S;rcases aE_.1 hf with l|l
   ·exact⟨1,K f l⟩
   ·rw[aD_.1 l];exact⟨0,S g rfl⟩
  obtain⟨O,⟨T,L,hh,_⟩,hn,_,hv⟩:=hq;have l:=(L.ins _ _ (aH_ hn)).2.1;have h2:=L.len;exact⟨hv,by omega⟩
 rw[hs] at h ⊢
 generalize I:(w.alloc (.cells #[.int .i64 s.time,fv,tv,xo,.int .i64 (0:Nat)] 108)).alloc (.cells #[.int .i64 0,.slice none 0 0,.slice none 0 0,.slice none 0 0,.int .i64 0] 108)=m;have t:Below w.heap.size w m:=by rw[<-I];exact((ay_ _ w).alloc (au_ _) _).alloc (by simp) _
 have ap:m.heap.size=w.heap.size+2:=by rw[<-I];simp
 have aj:m.heap[w.heap.size+1]?=some (.cells #[.int .i64 0,.slice none 0 0,.slice none 0 0,.slice none 0 0,.int .i64 0] 108 (0,0)):=by
  rw[<-I];exact aM _ _ (by simp) _
 have ai:∀b,F b->b<m.heap.size:=fun b Z=>az_ (hF b Z) t.size
 have h2:kR N F m (.agg #[.int .i64 s.time,fv,tv,xo,.int .i64 (0:Nat)]) s:=by
  have:=h.keep (fun b Z=>t.block b (hF b Z)) (fun _ h=>h)
  exact this
 refine(ZH w m s.time fv tv xo (fun v' J=>Below w.heap.size w J/\∃G,Ext F G w.heap.size/\(∀b,G b->b<J.heap.size)/\kR N G J v' ⟨s.time+1,r.1,bT (s.time+1) r.2⟩)
  (fun z n q p U W=>∃i,n=i.length/\Below m.heap.size m W/\RR N F m.heap.size W z q p U i s.m)
  (fun b W=>∃W0 z q p j i G,(Below m.heap.size m W/\m.heap.size<=b)/\(m.heap.size<=W0/\Ext F G W0)/\cT N G m.heap.size W b z q (.int .i64 ((s.time+1:Nat):Int)) p j (.int .i64 (bT (s.time+1) r.2)) i r.1/\∀k∈aF b z j i,m.heap.size<=k)
  (by omega) f1 f2 f3 I ?_ (fun z n q p U W hq=>?_) (fun b W hq=>?_))
 ·refine(VM h2 ai Y hA.ok.deep ae ab).mono ?_;rintro e J ⟨v',rfl,z,q,p,j,i,rfl,y,L⟩;rw[hs];refine⟨z,i.length,q,p,j,rfl,?_,tU L.out,i,rfl,y,L⟩;rcases L.tape with ⟨_,x,c,e⟩|⟨g,o,c,e,_⟩<;>exact⟨_,_,_,e⟩
 ·obtain⟨i,rfl,y,L⟩:=hq;obtain⟨Q,E⟩:=L.run ai y.size (.int .i64 ((s.time+1:Nat):Int)) (.int .i64 0);generalize al:W.alloc (.cells #[.int .i64 ((s.time+1:Nat):Int),.slice (some ⟨z,0,none⟩) i.length q,p,U,.int .i64 0] 108)=X at Q;have ao:Below W.heap.size W X:=by rw[<-al];exact(ay_ _ W).alloc (au_ _) _
  have d:Below m.heap.size m X:=y.trans (ao.mono y.size);have P:Below w.heap.size w X:=t.trans (d.mono t.size);have am:lA N F X C:=hT.keep (fun b Z=>P.block b (hF b Z)) fun _ h=>h
  refine(PK ht ak Q am (AB.of hp P fun k hk=>aF_ t.size (E k hk)) d.size hA hU ab an hk (by omega) hr).mono ?_
  rintro e J ⟨he,D,G,ah,ac,ag,A,M,d1,d2,d3⟩
  have af:∀x∈aF W.heap.size ah A M,m.heap.size<=x:=fun x hx=>by
   rcases d3 x hx with l|l
   ·exact E x l
   ·exact aF_ d.size l
  refine⟨he,X.heap.size,ah,ac,ag,A,M,G,⟨⟨D.os.trans d.os,D.tape.trans d.tape,D.output.trans d.output,aF_ d.size D.size,fun k a=>?_⟩,y.size⟩,⟨d.size,d1⟩,d2,af⟩
  rw[D.block k (az_ a d.size) (fun hm=>by have:=E k hm;omega),d.block k a]
 ·obtain⟨W0,z,q,p,j,i,G,⟨g1,g2⟩,⟨g3,g4⟩,V,g6⟩:=hq;have ad:=V.blk;refine⟨_,_,_,_,_,ad,⟨_,_,_,rfl⟩,?_,tU V.out,by rw[g1.block _ (by omega)];exact aj,by omega,fun X B aa=>?_⟩
  ·rcases V.tape with ⟨_,x,c,e⟩|⟨g,o,c,e,_⟩<;>exact⟨_,_,_,e⟩
  ·have u:Below w.heap.size w W:=t.trans (g1.mono t.size);have hS:=V.kept (G:=fun k=>G k\/(k∈aF b z j i/\k≠b)) (fun _ h=>av_ h) (fun k a hn=>as_ ⟨a,hn⟩)
   have H:∀k,(G k\/(k∈aF b z j i/\k≠b))->k≠w.heap.size+1/\k<W.heap.size:=fun k a=>by
    rcases a with l|⟨l,_⟩
    ·refine⟨?_,(V.apart k l).1⟩;rcases g4.new k l with h3|h3
     ·have:=hF k h3;omega
     ·omega
    ·have:=g6 k l;exact⟨by omega,V.lt k l⟩
   refine⟨⟨B.os.trans u.os,B.tape.trans u.tape,B.output.trans u.output,by rw[aa];exact u.size,fun k a=>?_⟩,fun k=>G k\/(k∈aF b z j i/\k≠b),⟨fun k a=>av_ (g4.sub k a),fun k a=>?_⟩,fun k a=>by rw[aa];exact(H k a).2,hS.keep (fun k a=>B.block k (H k a).2 (by simpa using (H k a).1)) fun _ h=>h⟩
   ·rw[B.block k (az_ a u.size) (by simp;omega),u.block k a]
   ·rcases a with l|⟨l,_⟩
    ·rcases g4.new k l with h3|h3
     ·exact av_ h3
     ·exact as_ (by omega)
    ·exact as_ (by have:=g6 k l;omega)
end Go.Proofs.YtblbkfdhjfppkaaGreatDoor
