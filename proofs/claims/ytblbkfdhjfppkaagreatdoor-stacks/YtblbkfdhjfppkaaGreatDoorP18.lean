/- Contracts of the program: the moment is told: the walks. -/
import Derived.Test.YtblbkfdhjfppkaaGreatDoorB09
import Derived.Test.YtblbkfdhjfppkaaGreatDoorP17
set_option linter.defProp false
set_option maxRecDepth 100000
set_option maxHeartbeats 4000000
namespace Go.Proofs.YtblbkfdhjfppkaaGreatDoor
open Hs
open _root_.Go.Proofs.Tryz(prog)
open Instr(typeAssert)
open Go.RowKit
def MA{W:World}{b:Nat}{s:SV}{T:TypeId}(h:W.heap[b]?=some (.cells s.cells T (0,0))):W.cell? ⟨b,0,none⟩=some (.int .i64 s.t)/\W.cell? ⟨b,1,none⟩=some (.slice s.x1 s.n1 s.c1)/\W.cell? ⟨b,2,none⟩=some (.slice s.x2 s.n2 s.c2)/\W.cell? ⟨b,3,none⟩=some (.slice s.x3 s.n3 s.c3)/\W.cell? ⟨b,4,none⟩=some (.int .i64 s.q):=
 ⟨aA h rfl,aA h rfl,aA h rfl,aA h rfl,aA h rfl⟩
def yA(w:World)(s:SV)(P A3:SV->World->Prop)(A1:Option Addr->Nat->Nat->World->Prop)(A2:Option Addr->Nat->Nat->Option Addr->Nat->Nat->World->Prop)
 (HS:Hid (∀W,aQ ((w.alloc (.cells s.cells 108)).alloc (.cells #[.int .i64 0,.slice none 0 0,.slice none 0 0,.slice none 0 0,.int .i64 0] 63)) W->Calls prog 107 #[s.val] W fun e E=>∃x n c,e=.returned (.slice x n c)/\A1 x n c E))
 (HV:Hid (∀x n c W,A1 x n c W->W.heap[w.heap.size]?=some (.cells s.cells 108 (0,0))/\Calls prog 108 #[s.val] W fun e E=>∃l o g,e=.returned (.slice l o g)/\A2 x n c l o g E))
 (HC:Hid (∀x n c l o g W,A2 x n c l o g W->W.heap[w.heap.size]?=some (.cells s.cells 108 (0,0))/\Calls prog 109 #[.slice s.x3 s.n3 s.c3] W fun e E=>∃C z B,e=.returned (.slice C z B)/\A3 ⟨s.t,x,l,C,n,o,z,c,g,B,s.q⟩ E))
 (HP:Hid (∀m W,A3 m W->W.heap[w.heap.size]?=some (.cells s.cells 108 (0,0))/\(∃c,W.heap[w.heap.size+1]?=some (.cells c 63 (0,0))/\c.size=5)/\P m (dR W (w.heap.size+1) m))):
 Calls prog 60 #[s.val] w fun e E=>∃m:SV,e=.returned m.val/\P m E:=by
 unfold SV.val SV.cells at HS;have F:=HV;unfold SV.val at F;unfold SV.val;go_enter Tryz.func60,Tryz.ntmps60;go_wp2_with fail;have HH:=aB (aQ.drew ((w.alloc (.cells #[.int .i64 s.t,.slice s.x1 s.n1 s.c1,.slice s.x2 s.n2 s.c2,.slice s.x3 s.n3 s.c3,.int .i64 s.q] 108)).alloc (.cells #[.int .i64 0,.slice none 0 0,.slice none 0 0,.slice none 0 0,.int .i64 0] 63)));have X:((w.alloc (.cells #[.int .i64 s.t,.slice s.x1 s.n1 s.c1,.slice s.x2 s.n2 s.c2,.slice s.x3 s.n3 s.c3,.int .i64 s.q] 108)).alloc (.cells #[.int .i64 0,.slice none 0 0,.slice none 0 0,.slice none 0 0,.int .i64 0] 63)).drew.heap[w.heap.size]?=some (.cells (SV.cells s) 108 (0,0)):=(aA_ _ _ _ (by simp)).trans (aM _ _ rfl _)
 have g:=MA X;clear X;refine wp_region_held_drew (S:=fun W=>W.cell? ⟨w.heap.size,0,none⟩=some (.int .i64 s.t)/\W.cell? ⟨w.heap.size,1,none⟩=some (.slice s.x1 s.n1 s.c1)/\W.cell? ⟨w.heap.size,2,none⟩=some (.slice s.x2 s.n2 s.c2)/\W.cell? ⟨w.heap.size,3,none⟩=some (.slice s.x3 s.n3 s.c3)/\W.cell? ⟨w.heap.size,4,none⟩=some (.int .i64 s.q)) (by kernel_rfl) g (fun a=>?_)
 clear g;(refine wpAnyH_take (i:=0) (v:=?_) rfl (by kernel_rfl) (by kernel_rfl) (by kernel_rfl) (fun _ _ _ h=>h) (av_ ⟨by rfl,?_⟩) a ?_;rotate_left;(rintro w ⟨y,q,r,p,u⟩;go_simp<;>with_reducible rfl))
 (refine wpAnyH_take (i:=1) (v:=?_) rfl (by kernel_rfl) (by kernel_rfl) (by kernel_rfl) (fun _ _ _ h=>h) (av_ ⟨by rfl,?_⟩) a ?_;rotate_left;(rintro w ⟨y,q,r,p,u⟩;go_simp<;>with_reducible rfl))
 (refine wpAnyH_take (i:=2) (v:=?_) rfl (by kernel_rfl) (by kernel_rfl) (by kernel_rfl) (fun _ _ _ h=>h) (av_ ⟨by rfl,?_⟩) a ?_;rotate_left;(rintro w ⟨y,q,r,p,u⟩;go_simp<;>with_reducible rfl))
 (refine wpAnyH_take (i:=4) (v:=?_) rfl (by kernel_rfl) (by kernel_rfl) (by kernel_rfl) (fun _ _ _ h=>h) (av_ ⟨by rfl,?_⟩) a ?_;rotate_left;(rintro w ⟨y,q,r,p,u⟩;go_simp<;>with_reducible rfl))
 (refine wpAnyH_take (i:=6) (v:=?_) rfl (by kernel_rfl) (by kernel_rfl) (by kernel_rfl) (fun _ _ _ h=>h) (av_ ⟨by rfl,?_⟩) a ?_;rotate_left;(rintro w ⟨y,q,r,p,u⟩;go_simp<;>with_reducible rfl))
 (refine wpAnyH_take (i:=7) (v:=?_) rfl (by kernel_rfl) (by kernel_rfl) (by kernel_rfl) (fun _ _ _ h=>h) (av_ ⟨by rfl,?_⟩) a ?_;rotate_left;(rintro w ⟨y,q,r,p,u⟩;go_simp<;>with_reducible rfl))
 (refine wpAnyH_take (i:=9) (v:=?_) rfl (by kernel_rfl) (by kernel_rfl) (by kernel_rfl) (fun _ _ _ h=>h) (av_ ⟨by rfl,?_⟩) a ?_;rotate_left;(rintro w ⟨y,q,r,p,u⟩;go_simp<;>with_reducible rfl))
 (refine wpAnyH_take (i:=10) (v:=?_) rfl (by kernel_rfl) (by kernel_rfl) (by kernel_rfl) (fun _ _ _ h=>h) (av_ ⟨by rfl,?_⟩) a ?_;rotate_left;(rintro w ⟨y,q,r,p,u⟩;go_simp<;>with_reducible rfl))
 refine wpAnyH_ready (rs:=[3]) (by kernel_rfl) (by simp) ?_
 refine AllReadyH.cons rfl (fun K k=>?_) AllReadyH.nil
 go_simp;go_at_call 107
 refine(HS.out _ HH.out).mono ?_;rintro e w3 ⟨x1,n1,Z,rfl,h3⟩;obtain⟨U,H⟩:=F.out _ _ _ _ h3;have N:=aB H;have G:=MA U;clear h3 U H HS HV F HH;go_wp2_with fail;refine k.out _ _ G (fun a=>?_)
 clear k K G;refine wpAnyH_ready (rs:=[5]) (by kernel_rfl) (by simp) ?_
 refine AllReadyH.cons rfl (fun K k=>?_) AllReadyH.nil
 go_simp;go_at_call 108
 refine N.out.mono ?_;rintro e w4 ⟨l,o,g,rfl,h4⟩;obtain⟨L,M⟩:=HC.out _ _ _ _ _ _ _ h4;have Q:=aB M;have O:=MA L;clear h4 L M HC N;go_wp2_with fail;refine k.out _ _ O (fun a=>?_)
 clear k K O;refine wpAnyH_ready (rs:=[8]) (by kernel_rfl) (by simp) ?_
 refine AllReadyH.cons rfl (fun K k=>?_) AllReadyH.nil
 go_simp;go_at_call 109
 refine Q.out.mono ?_;rintro e Y ⟨C,z,B,rfl,h5⟩;obtain⟨V,⟨c,T,ab⟩,I⟩:=HP.out _ _ h5;have f:=MA V;have D:=aB I;have b:=aB T;clear h5 V I HP Q;go_wp2_with fail;refine k.out _ _ f (fun a=>?_)
 clear k K;(refine wpAnyH_take (i:=11) (v:=?_) rfl (by kernel_rfl) (by kernel_rfl) (by kernel_rfl) (fun _ _ _ h=>h) (av_ ⟨by rfl,?_⟩) a ?_;rotate_left;(rintro w ⟨y,q,r,p,u⟩;go_simp<;>with_reducible rfl))
 refine wpAnyH_ready (rs:=[12]) (by kernel_rfl) (by simp) ?_
 refine AllReadyH.cons rfl (fun K k=>?_) AllReadyH.nil
 have g0:=aA (i:=0) b.out (aC_ (by omega))
 have g1:=aA (i:=1) b.out (aC_ (by omega))
 have g2:=aA (i:=2) b.out (aC_ (by omega))
 have g3:=aA (i:=3) b.out (aC_ (by omega))
 have g4:=aA (i:=4) b.out (aC_ (by omega))
 have f0:=aE (i:=0) b.out;have f1:=aE (i:=1) b.out;have f2:=aE (i:=2) b.out;have f3:=aE (i:=3) b.out;have f4:=aE (i:=4) b.out;have l5:=aD b.out;have hs:=mR (W:=Y) (s:=⟨s.t,x1,l,C,n1,o,z,Z,g,B,s.q⟩) b.out (by omega) rfl
 have J:∀i,(dR Y (w.heap.size+1) ⟨s.t,x1,l,C,n1,o,z,Z,g,B,s.q⟩).cell? ⟨w.heap.size,i,none⟩=Y.cell? ⟨w.heap.size,i,none⟩:=fun i=>World.cell?_of_block (cV _ _ _ _ (show w.heap.size≠w.heap.size+1 by omega))
 have A:=aB hs;have d:=aB J;clear T hs J;unfold dR at A D d;go_simp;refine k.out _ _ ⟨(d.out 0).trans f.1,(d.out 1).trans f.2.1,(d.out 2).trans f.2.2.1,(d.out 3).trans f.2.2.2.1,(d.out 4).trans f.2.2.2.2⟩ (fun a=>?_)
 refine wpAnyH_done (by kernel_rfl) ?_ _
 have t:=A.out;have j:=D.out;clear A D b d g0 g1 g2 g3 g4 f0 f1 f2 f3 f4 a k f;generalize ((((Y.setCell ⟨w.heap.size+1,0,none⟩ (.int .i64 s.t)).setCell ⟨w.heap.size+1,1,none⟩ (.slice x1 n1 Z)).setCell ⟨w.heap.size+1,2,none⟩ (.slice l o g)).setCell ⟨w.heap.size+1,3,none⟩ (.slice C z B)).setCell ⟨w.heap.size+1,4,none⟩ (.int .i64 s.q)=W6 at t j ⊢
 obtain⟨r0,r1,r2,r3,r4⟩:=t;have aa:=aB j;clear j;go_wp2_with fail;exact bodyPost_ret (v:=.agg #[.int .i64 s.t,.slice x1 n1 Z,.slice l o g,.slice C z B,.int .i64 s.q]) (by simp[results,Tryz.results60,go_sem,r0,r1,r2,r3,r4]) rfl ⟨_,rfl,aa.out⟩
def RD:∀(n:Nat) (l:List UInt8),l.length<=n->∀c∈dS l,c.length<=l.length:=by
 intro n;induction n with
 |zero=>
  intro l e c a;rw[dO (av_ (br_.1 (by omega)))] at a
  cases a
 |succ n f=>
  intro l e c a;by_cases b:l=[]
  ·rw[dO (av_ b)] at a;cases a
  by_cases d:bF l=0
  ·rw[dO (as_ d)] at a;cases a
  rw[gZ b d] at a;rcases aG_.1 a with rfl|a
  ·rw[bc_];omega
  ·have:=f _ (by rw[bf_];omega) c a
   rw[bf_] at this;omega
def PH(a b:aJ)(h:aK a<=200):aK (dB a b).1<=200:=by
 unfold dB;split
 ·exact jE
 split
 ·exact jE
 have f:∀x∈jG a,aK x<=200:=fun x d=>by
  unfold jG at d;rw[eR] at h;split at d
  ·obtain⟨c,e,rfl⟩:=bz_.1 d;have:=RD _ _ (au_ _) c e;rw[kP];omega
  ·have:=lN d;omega
 show aK ((jG a).getD b.n.toNat bN)<=200
 rw[List.getD_eq_getElem?_getD];cases g:(jG a)[b.n.toNat]? with
 |none=>exact jE
 |some x=>exact f x (bb_ g)
def KX(a:aJ):aK (dW a).1<=200:=by
 unfold dW;repeat' split
 all_goals first|(show aK (bC _)<=200;rw[kA];omega)|exact jE
section
variable {fp:Nat->Value} {F:Nat->Prop} {base:Nat} {w:World} {sb gf cap:Nat} {t0 tv outv s0:Value} {fvs:List FVal} {below:List aI} {f:aI} {tape:List Int} {out:List (List UInt8)}
def O2(h:cT fp F base w sb gf cap t0 tv outv s0 fvs ⟨below++[f],tape,out⟩)(q:below.length<=15)(j:base<=w.heap.size)(p:f.ops.length<=99000)(J:∃E a b,f.ops=E++[a,b]/\bQ a):
 Calls prog 380 #[.agg #[],.pointer (some ⟨sb,0,none⟩)] w (nY fp F base sb t0 s0 (aF sb gf outv fvs) w below tape out (aL .index f)):=by
 obtain⟨E,a,b,m,I⟩:=J;have m:f.ops=(E++[a])++[b]:=by rw[m];simp
 have Q:=h.mid j (.cells #[] 405);have i:f.pop.ops=E++[a]:=mF m;have y:=p;rw[m,aw_,aw_] at y;have M:f.pop.ops.length<=100000:=by rw[i,aw_];omega
 have N:f.pop.pop.ops.length<=100000:=by rw[mF i];omega
 have P:aL .index f=if (dB a b).2=0 then (f.pop.pop.push (dB a b).1,0) else (f.pop.pop,(dB a b).2):=by simp[aL,iS m,iS i]
 have s:aK a<=200->aK (dB a b).1<=200:=PH a b;have o:∀(W:World) (u v:Value),PV F W u a->PV F W v b->(∀k,F k->k<W.heap.size)->aK a<=200->aK b<=200->Calls prog 381 #[u,v] W (eM F W (dB a b)):=fun W u v c d l B n=>U4 F u v a b W c d I (by omega) l
 generalize dB a b=r at o P s;rw[P]
 refine(LD w _ sb gf (below.length*6) r.2 (fun g=>r.2=0/\Done fp F base sb t0 s0 (aF sb gf outv fvs) w ⟨below++[f.pop.pop.push r.1],tape,out⟩ g) (fun g=>r.2≠0/\Done fp F base sb t0 s0 (aF sb gf outv fvs) w ⟨below++[f.pop.pop],tape,out⟩ g)
  (fun t z W=>PV F W (.iface t z) b/\aK b<=200/\Mid fp base sb gf below.length t0 s0 (aF sb gf outv fvs) (w.alloc (.cells #[] 405)) F ⟨below++[f.pop],tape,out⟩ W)
  (fun t z H D W=>PV F W (.iface t z) b/\aK b<=200/\PV F W (.iface H D) a/\aK a<=200/\Mid fp base sb gf below.length t0 s0 (aF sb gf outv fvs) (w.alloc (.cells #[] 405)) F ⟨below++[f.pop.pop],tape,out⟩ W)
  (fun t z W=>(r.2=0/\aK r.1<=200)/\∃G,Ext F G w.heap.size/\PV G W (.iface t z) r.1/\Mid fp base sb gf below.length t0 s0 (aF sb gf outv fvs) (w.alloc (.cells #[] 405)) G ⟨below++[f.pop.pop],tape,out⟩ W) rfl (Q.topS q) (fun W T=>?_) (fun W t z x=>?_) (fun W t z H D x=>?_) (fun W t z x=>?_)).mono ?_
 ·refine((Q.same T).pop m (by omega)).mono ?_
  rintro e g ⟨t,z,A,c,d,l⟩;exact⟨t,z,A,c,d,l⟩
 ·obtain⟨c,d,l⟩:=x;refine(l.popK i M).mono ?_;rintro e g ⟨H,D,A,k1,Z,Y,U⟩;exact⟨H,D,A,c.keep U,d,k1,Z,Y⟩
 ·obtain⟨c,d,l,B,n⟩:=x;refine(o W _ _ l c (fun k L=>(n.apart k L).1) B d).mono ?_
  rintro e g ⟨O,⟨C,u,rfl,S⟩|⟨C,rfl⟩⟩
  ·obtain⟨V,X,rfl⟩:=S.form;exact av_ ⟨V,X,rfl,⟨C,s B⟩,Grow F W g,⟨fun _=>av_,fun k L=>L.imp_right fun c=>aF_ (aF_ (by simp) n.1.size) c.1⟩,S,n.grow O (fun _=>av_) fun _ h=>h⟩
  ·exact as_ ⟨rfl,C,(n.grow O (fun _ h=>h) fun _=>av_).done (Ext.refl _ _)⟩
 ·obtain⟨⟨C,K⟩,G,hG,c,d⟩:=x;refine(d.push c K N).mono ?_;rintro e g ⟨A,B⟩;exact⟨A,C,B.done hG⟩
 ·rintro e g (⟨rfl,c,d⟩|⟨rfl,c,d⟩)
  ·exact nY.ok (if_pos c) d
  ·exact nY.stop (if_neg c) c d
def A6(h:cT fp F base w sb gf cap t0 tv outv s0 fvs ⟨below++[f],tape,out⟩)(l:below.length<=15)(g:base<=w.heap.size)(j:f.ops.length<=99000)(s:∃E a,f.ops=E++[a]/\bQ a):
 Calls prog 398 #[.agg #[],.pointer (some ⟨sb,0,none⟩)] w (nY fp F base sb t0 s0 (aF sb gf outv fvs) w below tape out (aL .length f)):=by
 obtain⟨E,a,o,q⟩:=s;have B:=h.mid g (.cells #[] 439);have J:f.pop.ops.length<=100000:=by rw[mF o];rw[o,aw_] at j;omega
 have A:aL .length f=if (dW a).2=0 then (f.pop.push (dW a).1,0) else (f.pop,(dW a).2):=by simp[aL,iS o]
 have m:=KX a;have i:∀(W:World) (u:Value),PV F W u a->aK a<=200->Calls prog 399 #[u] W (eM F W (dW a)):=fun W u b D=>K7 F u a W b q (by omega)
 generalize dW a=r at i A m;rw[A]
 refine(FI w _ sb gf (below.length*6) r.2 (fun d=>r.2=0/\Done fp F base sb t0 s0 (aF sb gf outv fvs) w ⟨below++[f.pop.push r.1],tape,out⟩ d) (fun d=>r.2≠0/\Done fp F base sb t0 s0 (aF sb gf outv fvs) w ⟨below++[f.pop],tape,out⟩ d)
  (fun t z W=>PV F W (.iface t z) a/\aK a<=200/\Mid fp base sb gf below.length t0 s0 (aF sb gf outv fvs) (w.alloc (.cells #[] 439)) F ⟨below++[f.pop],tape,out⟩ W)
  (fun t z W=>r.2=0/\∃G,Ext F G w.heap.size/\PV G W (.iface t z) r.1/\Mid fp base sb gf below.length t0 s0 (aF sb gf outv fvs) (w.alloc (.cells #[] 439)) G ⟨below++[f.pop],tape,out⟩ W) rfl (B.topS l) (fun W H=>?_) (fun W t z v=>?_) (fun W t z v=>?_)).mono ?_
 ·refine((B.same H).pop o (by omega)).mono ?_
  rintro e d ⟨t,z,x,b,c,M⟩;exact⟨t,z,x,b,c,M⟩
 ·obtain⟨b,c,p⟩:=v;refine(i W _ b c).mono ?_;rintro e d ⟨y,⟨n,u,rfl,C⟩|⟨n,rfl⟩⟩
  ·obtain⟨I,K,rfl⟩:=C.form;exact av_ ⟨I,K,rfl,n,Grow F W d,⟨fun _=>av_,fun k L=>L.imp_right fun b=>aF_ (aF_ (by simp) p.1.size) b.1⟩,C,p.grow y (fun _=>av_) fun _ h=>h⟩
  ·exact as_ ⟨rfl,n,(p.grow y (fun _ h=>h) fun _=>av_).done (Ext.refl _ _)⟩
 ·obtain⟨n,G,N,b,c⟩:=v;refine(c.push b m J).mono ?_;rintro e d ⟨x,D⟩;exact⟨x,n,D.done N⟩
 ·rintro e d (⟨rfl,b,c⟩|⟨rfl,b,c⟩)
  ·exact nY.ok (if_pos b) c
  ·exact nY.stop (if_neg b) b c
end
def Disp(t:TypeId)(f:Nat):Prop:=(∀recv w,(Go.method 616 t recv "hindsight/machine.do").run prog w=.ok (f,recv) w)/\∀a b w,(callFunc f #[a,b]).run prog w=.ok (.enter f #[a,b]) w
def fC(t:TypeId):Prop:=∀v w,(typeAssert (.iface t v) 355 365 true).run prog w=.ok (.tuple #[.agg #[.int .i64 0,.pointer none],.bool false]) w
def N6(v:Value)(w:World):(typeAssert (.iface 365 v) 355 365 true).run prog w=.ok (.tuple #[v,.bool true]) w:=by kernel_rfl
def VK:Disp 365 373:=⟨fun _ _=>by kernel_rfl,fun _ _ _=>by kernel_rfl⟩
def C5:Disp 361 370:=⟨fun _ _=>by kernel_rfl,fun _ _ _=>by kernel_rfl⟩
def C6:Disp 402 374:=⟨fun _ _=>by kernel_rfl,fun _ _ _=>by kernel_rfl⟩
def LU:Disp 443 403:=⟨fun _ _=>by kernel_rfl,fun _ _ _=>by kernel_rfl⟩
def QS:Disp 445 404:=⟨fun _ _=>by kernel_rfl,fun _ _ _=>by kernel_rfl⟩
def C8:Disp 462 412:=⟨fun _ _=>by kernel_rfl,fun _ _ _=>by kernel_rfl⟩
def QP:Disp 461 411:=⟨fun _ _=>by kernel_rfl,fun _ _ _=>by kernel_rfl⟩
def FZ:Disp 438 397:=⟨fun _ _=>by kernel_rfl,fun _ _ _=>by kernel_rfl⟩
def VI:Disp 436 396:=⟨fun _ _=>by kernel_rfl,fun _ _ _=>by kernel_rfl⟩
def VH:Disp 407 383:=⟨fun _ _=>by kernel_rfl,fun _ _ _=>by kernel_rfl⟩
def QR:Disp 435 387:=⟨fun _ _=>by kernel_rfl,fun _ _ _=>by kernel_rfl⟩
def VJ:Disp 405 380:=⟨fun _ _=>by kernel_rfl,fun _ _ _=>by kernel_rfl⟩
def C7:Disp 404 375:=⟨fun _ _=>by kernel_rfl,fun _ _ _=>by kernel_rfl⟩
def QQ:Disp 439 398:=⟨fun _ _=>by kernel_rfl,fun _ _ _=>by kernel_rfl⟩
def C4:Disp 440 401:=⟨fun _ _=>by kernel_rfl,fun _ _ _=>by kernel_rfl⟩
def D3:Disp 442 402:=⟨fun _ _=>by kernel_rfl,fun _ _ _=>by kernel_rfl⟩
def C9:Disp 363 372:=⟨fun _ _=>by kernel_rfl,fun _ _ _=>by kernel_rfl⟩
def D0:Disp 449 410:=⟨fun _ _=>by kernel_rfl,fun _ _ _=>by kernel_rfl⟩
def GA:Disp 448 408:=⟨fun _ _=>by kernel_rfl,fun _ _ _=>by kernel_rfl⟩
def V8:fC 361:=fun _ _=>by kernel_rfl
def V9:fC 402:=fun _ _=>by kernel_rfl
def TU:fC 443:=fun _ _=>by kernel_rfl
def ZR:fC 445:=fun _ _=>by kernel_rfl
def W5:fC 462:=fun _ _=>by kernel_rfl
def ZO:fC 461:=fun _ _=>by kernel_rfl
def OT:fC 438:=fun _ _=>by kernel_rfl
def M5:fC 436:=fun _ _=>by kernel_rfl
def M4:fC 407:=fun _ _=>by kernel_rfl
def ZQ:fC 435:=fun _ _=>by kernel_rfl
def M6:fC 405:=fun _ _=>by kernel_rfl
def W4:fC 404:=fun _ _=>by kernel_rfl
def ZP:fC 439:=fun _ _=>by kernel_rfl
def V7:fC 440:=fun _ _=>by kernel_rfl
def W9:fC 442:=fun _ _=>by kernel_rfl
def W7:fC 363:=fun _ _=>by kernel_rfl
def W8:fC 449:=fun _ _=>by kernel_rfl
def OU:fC 448:=fun _ _=>by kernel_rfl
def l7(t:TypeId)(z:Value)(b:Bool):Prop:=(t=365/\(∃l p,z=.agg #[.int .i64 l,.pointer p])/\b=true)\/(fC t/\b=false)
def I3(w:World)(sb:Nat)(L:Nat->World->Prop)(P:World->Prop)(S:Nat->World->Prop)(M:Nat->Nat->Nat->World->Prop)(N:Nat->TypeId->Value->Nat->Bool->World->Prop)(G:Nat)(i:L G w)
 (HL:Hid (∀k W,L k W->∃x n c,W.cell? ⟨sb,1,none⟩=some (.slice x n c)/\sb<W.heap.size/\n<=16/\(n=0->S 1 W)/\(n≠0->∃j,k=j+1/\∃f g,M j f g W)))
 (Z:Hid (∀j f g W,M j f g W->Calls prog 158 #[.pointer (some ⟨sb,0,none⟩)] W fun e d=>e=.returned (.pointer (some ⟨f,g,none⟩))/\M j f g d))
 (U:Hid (∀j f g W,M j f g W->Calls prog 235 #[.pointer (some ⟨f,g,none⟩)] W fun e d=>∃t z a b,e=.returned (.iface t z)/\Disp t a/\l7 t z b/\N j t z a b d))
 (Y:Hid (∀j t z a b W,N j t z a b W->Calls prog a #[z,.pointer (some ⟨sb,0,none⟩)] W fun e d=>(e=.returned (.tuple #[])/\(b=true->∀E,P (d.alloc E))/\(b=false->∀E,L j (d.alloc E)))\/(∃q,e=fH q/\S q d))):
 Calls prog 175 #[.pointer (some ⟨sb,0,none⟩)] w fun e d=>(e=.returned (.tuple #[])/\P d)\/(∃q,e=fH q/\S q d):=by
 have X:=aB i;clear i;go_enter Tryz.func175,Tryz.ntmps175;go_wp2_with fail;go_loopg [2,3,4] G (fun gk _ _ _ wr=>L gk wr)
 case atStart=>exact X.out
 case round=>
  obtain⟨x,n,c,c1,hl,hn,F,B⟩:=HL.out _ _ hrel;by_cases i:n=0
  ·subst i;have V:=aB (F rfl);clear hrel F B;go_wp2_with fail;exact⟨rfl,as_ ⟨1,rfl,V.out⟩⟩
  ·obtain⟨j,rfl,f,g,O⟩:=B i;have v:=aB (Z.out _ _ _ _ O);have H:(0:Int)<(n:Int):=by omega
   clear hrel F B O;go_wp2_with fail;refine v.out.mono ?_;rintro e w1 ⟨rfl,Q⟩;have s:=aB (U.out _ _ _ _ Q);clear Q;go_wp2_with fail;refine s.out.mono ?_;rintro e J ⟨t,z,a,b,rfl,C,T,K⟩;have A:=aB (Y.out _ _ _ _ _ _ K);have m:=C.1 z J;have h:=C.2 z (.pointer (some ⟨sb,0,none⟩)) J;clear K C;go_wp2_with fail;refine A.out.mono ?_;rintro e I (⟨rfl,o,D⟩|⟨q,rfl,o⟩)
   ·rcases T with ⟨rfl,⟨l,p,rfl⟩,rfl⟩|⟨r,rfl⟩
    ·have u:=N6 (.agg #[.int .i64 l,.pointer p]) I;have y:=aB (o rfl);clear o D m h;go_wp2_with fail;exact⟨rfl,_,results_none (by rfl) _ _ _,av_ ⟨rfl,y.out _⟩⟩
    ·have u:=r z I;have y:=aB (D rfl);clear o D m h r;go_wp2_with fail;go_roundg j
     case measure=>omega
     case rel=>exact y.out _
   ·go_wp2_with fail;exact⟨rfl,as_ ⟨q,rfl,o⟩⟩
def nT{d:Type}{l:List d}(h:1<=l.length):∃c a,l=c++[a]:=by
 rcases bo_ l with e|⟨b,x,e⟩
 ·subst e;simp at h
 ·exact⟨b,x,by rw[e,bp_]⟩
def KD{c:Type}{l:List c}{n:Nat}(h:n<=l.length):∃b a,l=b++a/\a.length=n:=
 ⟨l.take (l.length-n),l.drop (l.length-n),(a5_ _ _).symm,by simp;omega⟩
def J3{g:Type}{l:List g}(h:2<=l.length):∃c a b,l=c++[a,b]:=by
 obtain⟨c,f,e,d⟩:=KD h;match f,d with
 |[a,b],_=>exact⟨c,a,b,e⟩
section
variable {fp:Nat->Value} {F:Nat->Prop} {base:Nat} {w:World} {sb gf cap:Nat} {t0 tv outv s0:Value} {fvs:List FVal} {below:List aI} {f0 f:aI} {tape:List Int} {out:List (List UInt8)}
def n8{ar:Nat->Option Nat}{y:List dY}{i:aH}{v:Value}(ht:iK ar y)(O:eS ar ⟨below++[f0],tape,out⟩)(A:f0.fetch=some (i,f))(hU:fM ⟨below++[f0],tape,out⟩)
 (h:cT fp F base w sb gf cap t0 tv outv s0 fvs ⟨below++[f],tape,out⟩) (hT:lA fp F w y) (hp:AB (aF sb gf outv fvs) w) (c:base<=w.heap.size) (S:out.length<=50) (U:tape.length<=17592186044416) (r:lC fp F w v i):
 ∃t z E b,v=.iface t z/\Disp t E/\l7 t z b/\b=i.isBegin/\Calls prog E #[z,.pointer (some ⟨sb,0,none⟩)] w (v8 fp F base sb t0 s0 (aF sb gf outv fvs) w (Hs.doI y i below f tape out)):=by
 have K:∀x∈below,cH ar x 1:=by have:=O.ok.low;simpa only[dA] using this
 have J:cH ar f0 0:=O.ok.top f0 (dV _ _);have d:below.length<=15:=by have:=O.ok.deep;simp at this;omega
 have C:dJ f0:=hU f0 (by simp)
 obtain⟨⟨T,X,hh,hv,he⟩,ac,hs,hm⟩:=J
 obtain⟨rfl,Y⟩:f={ f0 with next:=f0.next+1 }/\f0.fn.code[f0.next]?=some i:=by
  unfold aI.fetch at A;cases Z:f0.fn.code[f0.next]? with
  |none=>rw[Z] at A;cases A
  |some j=>rw[Z] at A;simp at A;exact⟨A.2.symm,by rw[A.1]⟩
 obtain⟨Q,ab,o⟩:=X.ins _ _ Y;clear Q;have ad:=X.len;have m:f0.ops.length<=99000:=by omega
 have W:∀g∈below,g.ops.length<=99000:=fun g hg=>by
  obtain⟨⟨T',H,aa,_⟩,N,_⟩:=K g hg;have h1:=(H.ins _ _ (aH_ N)).2.1;have h2:=H.len;omega
 have L:i∈f0.fn.code:=bb_ Y;cases i
 case begin l s=>
  obtain⟨sp,rfl,D⟩:=r;obtain⟨p,rfl⟩:=D.form;exact⟨_,_,_,true,rfl,VK,av_ ⟨rfl,⟨_,_,rfl⟩,rfl⟩,rfl,P7 l _ s h d c D⟩
 case push a=>
  obtain⟨u,rfl,hu,V⟩:=r;refine⟨_,_,_,false,rfl,C5,as_ ⟨V8,rfl⟩,rfl,(TD fp F base w sb gf cap t0 tv outv s0 fvs below _ tape out u a h hu V (by show f0.ops.length<=100000;omega) d c).mono ?_⟩
  rintro e w' ⟨rfl,hd⟩;exact⟨av_ ⟨rfl,rfl⟩,hd⟩
 case load k=>
  obtain rfl:=r;exact⟨_,_,_,false,rfl,C6,as_ ⟨V9,rfl⟩,rfl,X1 k h d c m (by have:=o.1;show k<f0.vars.length;omega)⟩
 case declare k=>
  obtain rfl:=r;exact⟨_,_,_,false,rfl,LU,as_ ⟨TU,rfl⟩,rfl,VL k h d c m (nT (by have:=o.1;show 1<=f0.ops.length;omega)) (by have:=o.2.1;show k<=f0.vars.length;omega) hm⟩
 case assign k n=>
  obtain rfl:=r;obtain⟨B,G,M,e2⟩:=KD (l:=f0.ops) (n:=n+1) (by have:=o.1;omega)
  obtain⟨I,b,rfl⟩:=nT (l:=G) (by omega)
  have e3:I.length=n:=by simpa using e2
  subst e3;exact⟨_,_,_,false,rfl,QS,as_ ⟨ZR,rfl⟩,rfl,F4 k B I b h d c m (by show f0.ops=_;rw[M];simp) (by have:=o.2.1;show k<f0.vars.length;omega)⟩
 case jump q=>
  obtain rfl:=r;exact⟨_,_,_,false,rfl,C8,as_ ⟨W5,rfl⟩,rfl,X7 q h d c⟩
 case skip q=>
  obtain rfl:=r;exact⟨_,_,_,false,rfl,QP,as_ ⟨ZO,rfl⟩,rfl,XP q h d c m (nT (by have:=o.1;show 1<=f0.ops.length;omega))⟩
 case shortcut wh q=>
  obtain rfl:=r;exact⟨_,_,_,false,rfl,FZ,as_ ⟨OT,rfl⟩,rfl,NQ wh q h d c m (nT (by have:=o.1;show 1<=f0.ops.length;omega))⟩
 case truth=>
  obtain rfl:=r;exact⟨_,_,_,false,rfl,VI,as_ ⟨M5,rfl⟩,rfl,H7 h d c m (nT (by have:=o.1;show 1<=f0.ops.length;omega))⟩
 case unary op=>
  obtain rfl:=r;exact⟨_,_,_,false,rfl,VH,as_ ⟨M4,rfl⟩,rfl,G6 op (C.fn.2 op L) h d c m (nT (by have:=o.1;show 1<=f0.ops.length;omega))⟩
 case binary op=>
  obtain rfl:=r;exact⟨_,_,_,false,rfl,QR,as_ ⟨ZQ,rfl⟩,rfl,E9 op h d c m (J3 (by have:=o.1;show 2<=f0.ops.length;omega))⟩
 case index=>
  obtain rfl:=r;obtain⟨B,a,b,e⟩:=J3 (l:=f0.ops) (by have:=o.1;omega)
  exact⟨_,_,_,false,rfl,VJ,as_ ⟨M6,rfl⟩,rfl,O2 h d c m ⟨B,a,b,e,C.ops a (by rw[e];simp)⟩⟩
 case list n=>
  obtain rfl:=r;obtain⟨B,G,M,rfl⟩:=KD (l:=f0.ops) (n:=n) (by have:=o.1;omega)
  exact⟨_,_,_,false,rfl,C7,as_ ⟨W4,rfl⟩,rfl,X2 B G h d c m M⟩
 case length=>
  obtain rfl:=r;obtain⟨B,a,e⟩:=nT (l:=f0.ops) (by have:=o.1;omega)
  exact⟨_,_,_,false,rfl,QQ,as_ ⟨ZP,rfl⟩,rfl,A6 h d c m ⟨B,a,e,C.ops a (by rw[e];simp)⟩⟩
 case read=>
  obtain rfl:=r;exact⟨_,_,_,false,rfl,C4,as_ ⟨V7,rfl⟩,rfl,U2 y h d c m U⟩
 case call k n=>
  obtain rfl:=r;obtain⟨B,G,M,rfl⟩:=KD (l:=f0.ops) (n:=n) (by have:=o.1;omega)
  obtain⟨fn,_,P,_⟩:=ht.fn k _ o.2.1;exact⟨_,_,_,false,rfl,D3,as_ ⟨W9,rfl⟩,rfl,d9 y k fn B G h d c m M hT P⟩
 case give=>
  obtain rfl:=r;exact⟨_,_,_,false,rfl,C9,as_ ⟨W7,rfl⟩,rfl,Y7 y h d c m (nT (by have:=o;show 1<=f0.ops.length;omega)) W⟩
 case drop=>
  obtain rfl:=r;exact⟨_,_,_,false,rfl,D0,as_ ⟨W8,rfl⟩,rfl,Z3 h d c m (nT (by have:=o.1;show 1<=f0.ops.length;omega))⟩
 case print=>
  obtain rfl:=r;obtain⟨B,a,e⟩:=nT (l:=f0.ops) (by have:=o.1;omega)
  exact⟨_,_,_,false,rfl,GA,as_ ⟨OU,rfl⟩,rfl,K6 y h hp d c m e S⟩
end
def I4{b:List dY}{j:Nat}{a:List aI}{e f:aI}{t:List Int}{o:List (List UInt8)}{i:aH}{r:cF × Nat}(h:cJ b (j+1) ⟨a++[e],t,o⟩=some r)(g:e.fetch=some (i,f)):
 ((Hs.doI b i a f t o).2≠0->r=Hs.doI b i a f t o)/\((Hs.doI b i a f t o).2=0->i.isBegin=true->r=Hs.doI b i a f t o)/\((Hs.doI b i a f t o).2=0->i.isBegin=false->cJ b j (Hs.doI b i a f t o).1=some r):=by
 rw[cJ] at h;simp only[dV,g,dA] at h;refine⟨fun c=>?_,fun c d=>?_,fun c d=>?_⟩
 ·rw[if_pos c] at h;cases h;rfl
 ·rw[if_neg (by rw[c];simp),if_pos d] at h;cases h;rfl
 ·rw[if_neg (by rw[c];simp),d] at h;exact h
def XC{b:List dY}{i:aH}{a:List aI}{f:aI}{t:List Int}{o:List (List UInt8)}(c:o.length<=50):(Hs.doI b i a f t o).1.out.length<=50:=by
 cases i<;>simp only[Hs.doI]<;>(repeat' split)<;>first|exact c|(simp;omega)
def QO{b:List dY}{i:aH}{a:List aI}{f:aI}{t:List Int}{o:List (List UInt8)}:(Hs.doI b i a f t o).1.tape.length<=t.length:=by
 cases i<;>simp only[Hs.doI]<;>(repeat' split)<;>first|exact au_ _|simp
section
variable {fp:Nat->Value} {F:Nat->Prop} {base:Nat} {w:World} {sb gf cap:Nat} {t0 tv outv s0:Value} {fvs:List FVal} {below:List aI} {f0 f:aI} {tape:List Int} {out:List (List UInt8)}
def cT.fetched{i:aH}(h:cT fp F base w sb gf cap t0 tv outv s0 fvs ⟨below++[f0],tape,out⟩)(d:f0.fetch=some (i,f))(K:f0.fn.code.length<=1000000):
 Calls prog 235 #[.pointer (some ⟨gf,below.length*6,none⟩)] w fun e n=>∃v c,e=.returned v/\lC fp F n v i/\cT fp F base n sb gf cap t0 tv outv s0 c ⟨below++[f],tape,out⟩/\Kept (aF sb gf outv fvs) w n/\aF sb gf outv c=aF sb gf outv fvs:=by
 obtain⟨I,v,p,rfl,t,s,E,l,A,C,D,k2,Y,V,X⟩:=h.top;rw[<-t]
 obtain⟨N,rfl⟩:f0.fn.code[f0.next]?=some i/\f={ f0 with next:=f0.next+1 }:=by
  unfold aI.fetch at d;cases B:f0.fn.code[f0.next]? with
  |none=>rw[B] at d;cases d
  |some j=>rw[B] at d;simp at d;exact⟨by rw[d.1],d.2.symm⟩
 obtain⟨m,r⟩:=aZ_.1 N;obtain⟨o,L,O,Q,U,W,J,Z,H,S⟩:=s.fn;obtain⟨u,u1,u2⟩:=S f0.next m
 rw[r] at u2;rw[U] at C;rw[s.nx] at D;refine(B6 gf (I.length*6) o L f0.fn.code.length O f0.next p _ u w l C D J (aA H u1) u2.form m K).mono ?_
 rintro e n ⟨T,q,rfl⟩;have g:=aQ.drewN w q;have y:=h.grow g.below (fun _ h=>h) (fun _ h=>av_ h)
 have a:MI fp F base (w.drewN q) v f0:=s.keep (fun b _=>by rw[g.heap]) (fun _ h=>h) fun k _=>by rw[g.heap]
 have z:MI fp F base (w.drewN q) { v with nx:=.int .i64 ((f0.next+1:Nat):Int) } { f0 with next:=f0.next+1 }:=⟨a.fn,rfl,a.ln,a.sp,a.vars,a.ops⟩
 obtain⟨P,M⟩:=y.setTop (j:=1) (x:=.int .i64 ((f0.next+1:Nat):Int)) (v':={ v with nx:=.int .i64 ((f0.next+1:Nat):Int) }) (by omega) rfl rfl z
 refine⟨u,_,T,u2.keep (fun b G=>?_) (fun _ h=>h),P,(Kept.of_below g.below).trans M fun _ h=>av_ h,by simp[aF,aT,FVal.owns]⟩
 rw[ax_ _ _ _ _ fun e=>(h.apart b G).2 (by simp[aF,e]),g.heap]
def ad_(fp:Nat->Value)(F0:Nat->Prop)(base sb:Nat)(t0 s0:Value)(own0:List Nat)(w0:World)(ar:Nat->Option Nat)(tab:List dY)(m:cF)(W:World):Prop:=
 ∃F gf cap tv outv fvs,Ext F0 F w0.heap.size/\cT fp F base W sb gf cap t0 tv outv s0 fvs m/\lA fp F W tab/\Kept own0 w0 W/\(∀x∈aF sb gf outv fvs,x∈own0\/w0.heap.size<=x)/\eS ar m/\fM m/\m.out.length<=50/\m.tape.length<=17592186044416
def yM{ar:Nat->Option Nat}{s:List dY}{m:cF}{k:Nat}{r:cF × Nat}(ht:iK ar s)(am:jN s)(h:cT fp F base w sb C p t0 K a s0 g m)(hT:lA fp F w s)(hp:AB (aF sb C a g) w)(ab:base<=w.heap.size)
 (hA:eS ar m) (hU:fM m) (al:m.out.length<=50) (ai:m.tape.length<=17592186044416) (H:cJ s k m=some r):
 Calls prog 175 #[.pointer (some ⟨sb,0,none⟩)] w (v8 fp F base sb t0 s0 (aF sb C a g) w r):=by
 generalize ad:aF sb C a g=n at hp
 refine(I3 w sb (fun k W=>∃m,ad_ fp F base sb t0 s0 n w ar s m W/\cJ s k m=some r)
  (fun W=>r.2=0/\Done fp F base sb t0 s0 n w r.1 W) (fun q W=>q=r.2/\r.2≠0/\Done fp F base sb t0 s0 n w r.1 W)
  (fun j fa fj W=>∃D C p K a g c E d u,fa=C/\fj=c.length*6/\(Ext F D w.heap.size/\cT fp D base W sb C p t0 K a s0 g ⟨c++[E],d,u⟩/\lA fp D W s/\Kept n w W/\(∀x∈aF sb C a g,x∈n\/w.heap.size<=x))/\(eS ar ⟨c++[E],d,u⟩/\fM ⟨c++[E],d,u⟩/\u.length<=50/\d.length<=17592186044416)/\cJ s (j+1) ⟨c++[E],d,u⟩=some r)
  (fun j t z Z b W=>∃D C p K a g c E f i d u,(Ext F D w.heap.size/\cT fp D base W sb C p t0 K a s0 g ⟨c++[f],d,u⟩/\lA fp D W s/\Kept n w W/\(∀x∈aF sb C a g,x∈n\/w.heap.size<=x))/\(eS ar ⟨c++[E],d,u⟩/\fM ⟨c++[E],d,u⟩/\u.length<=50/\d.length<=17592186044416)/\cJ s (j+1) ⟨c++[E],d,u⟩=some r/\E.fetch=some (i,f)/\b=i.isBegin/\
    Calls prog Z #[z,.pointer (some ⟨sb,0,none⟩)] W (v8 fp D base sb t0 s0 (aF sb C a g) W (Hs.doI s i c f d u)))
  k ⟨m,⟨F,C,p,K,a,g,Ext.refl _ _,h,hT,Kept.refl _ _,fun x A=>av_ (by rw[<-ad];exact A),hA,hU,al,ai⟩,H⟩ (fun k W hL=>?_) (fun j fa fj W hM=>?_) (fun j fa fj W hM=>?_) (fun j t z Z b W hN=>?_)).mono ?_
 ·obtain⟨m,⟨D,C,p,K,a,g,V,I,g3,L,S,O,g7,g8,g9⟩,H⟩:=hL;have hc:=I.count;have hd:=O.ok.deep;refine⟨_,_,_,aA I.blk rfl,aD I.blk,by omega,fun h0=>?_,fun h0=>?_⟩
  ·have hm:m.frames=[]:=aN_ (by omega)
   cases k with
   |zero=>rw[cJ] at H;cases H
   |succ j=>
    rw[cJ,hm] at H;simp only[List.getLast?_nil] at H;cases H;exact⟨rfl,Nat.one_ne_zero,L,D,C,p,K,a,g,V,I,S⟩
  ·obtain⟨b,f,e⟩:=jB (l:=m.frames) (fun e=>h0 (by rw[hc,e];rfl))
   obtain⟨fr,t,o⟩:=m;simp only at e;subst e;cases k with
   |zero=>rw[cJ] at H;cases H
   |succ j=>exact⟨j,rfl,C,b.length*6,D,C,p,K,a,g,b,f,t,o,rfl,rfl,⟨V,I,g3,L,S⟩,⟨O,g7,g8,g9⟩,H⟩
 ·obtain⟨D,C,p,K,a,g,b,f,t,o,rfl,rfl,⟨V,I,g3,L,S⟩,⟨O,g7,g8,g9⟩,H⟩:=hM;have hc:=I.count;have hd:=O.ok.deep;have aa:=I.blk;rw[hc,aw_,bq_] at aa;simp at hd;refine(uF sb fa b.length p W (aA aa rfl) (by omega)).mono ?_
  rintro e M ⟨he,q,rfl⟩;have hS:=aQ.drewN W q;exact⟨he,D,fa,p,K,a,g,b,f,t,o,rfl,rfl,⟨V,I.grow hS.below (fun _ h=>h) (fun _ h=>av_ h),g3.keep (fun b _=>by rw[hS.heap]) (fun _ h=>h),L.trans (Kept.of_below (own:=[]) hS.below) (fun x A=>by simp at A),S⟩,⟨O,g7,g8,g9⟩,H⟩
 ·obtain⟨D,C,p,K,a,g,b,E,t,o,rfl,rfl,⟨V,I,g3,L,S⟩,⟨O,g7,g8,g9⟩,H⟩:=hM;have U:cH ar E 0:=O.ok.top E (dV _ _);have hf:=qW U.next
  obtain⟨T,hc, -⟩:=U.code;have an:=hc.len;generalize E.fn.code[E.next]'U.next=i at hf
  refine(I.fetched hf (by omega)).mono ?_
  rintro e M ⟨v,y,he,q1,q2,q3,q4⟩;have ag:lA fp D M s:=g3.keep (fun x A=>q3.block x (I.apart x A).1 (I.apart x A).2) fun _ h=>h
  have J:Kept n w M:=L.trans q3 S;have aj:AB (aF sb fa a y) M:=hp.step J (fun x A=>S x (by rw[<-q4];exact A))
  obtain⟨t',z,Z,bb,e1,e2,e3,e4,e5⟩:=n8 ht O hf g7 q2 ag aj (aF_ ab J.size) g8 g9 q1;exact⟨t',z,Z,bb,by rw[he,e1],e2,e3,D,fa,p,K,a,y,b,E,_,i,t,o,⟨V,q2,ag,J,fun x A=>S x (by rw[<-q4];exact A)⟩,⟨O,g7,g8,g9⟩,H,hf,e4,e5⟩
 ·obtain⟨D,C,p,K,a,g,c,E,f,i,tp,o,⟨V,I,g3,L,S⟩,⟨O,g7,g8,g9⟩,H,hf,hb,hc⟩:=hN;obtain⟨s1,s2,s3⟩:=I4 H hf;refine hc.mono ?_;rintro e M ⟨he,ae,G,Y,P,ac,B,y,d1,d2,d3⟩;have J:Kept n w M:=L.trans ae S
  have Q:∀x∈aF sb Y B y,x∈n\/w.heap.size<=x:=fun x A=>by
   rcases d3 x A with h1|h1
   ·exact S x h1
   ·exact as_ (aF_ L.size h1)
  have af:lA fp G M s:=g3.keep (fun x A=>ae.block x (I.apart x A).1 (I.apart x A).2) d1.sub
  have N:∀X,Below M.heap.size M (M.alloc X):=fun X=>(ay_ _ M).alloc (au_ _) X
  rcases he with ⟨hz,rfl⟩|⟨hz,rfl⟩
  ·refine av_ ⟨rfl,fun ak X=>?_,fun ah X=>?_⟩
   ·have hr:=s2 hz (by rw[<-hb];exact ak)
    rw[hr];exact⟨hz,J.trans (Kept.of_below (own:=[]) (N X)) (fun x A=>by simp at A),G,Y,P,ac,B,y,V.trans d1 L.size,d2.grow (N X) (fun _ h=>h) (fun _ h=>av_ h),Q⟩
   ·refine⟨_,⟨G,Y,P,ac,B,y,V.trans d1 L.size,d2.grow (N X) (fun _ h=>h) (fun _ h=>av_ h),af.keep (fun x A=>(N X).block x (d2.apart x A).1) (fun _ h=>h),J.trans (Kept.of_below (own:=[]) (N X)) (fun x A=>by simp at A),Q,(rW ht O hf).2.2 hz,DT am g7 hf,XC g8,aF_ QO g9⟩,s3 hz (by rw[<-hb];exact ah)⟩
  ·refine as_ ⟨_,rfl,?_⟩;have hr:=s1 hz;rw[hr];exact⟨rfl,hz,J,G,Y,P,ac,B,y,V.trans d1 L.size,d2,Q⟩
 ·rintro e M (⟨rfl,h1,h2⟩|⟨q,rfl,rfl,h1,h2⟩)
  ·exact⟨av_ ⟨h1,rfl⟩,h2⟩
  ·exact⟨as_ ⟨h1,rfl⟩,h2⟩
end
def m9(v:Value)(w:World):(typeAssert (.iface 353 v) 20 353 true).run prog w=.ok (.tuple #[v,.bool true]) w:=by kernel_rfl
def WU(b:Fn)(first a:Array Value)(w:World):(Instr.makeFunc b first a).run prog w=.ok (.func b first a) w:=rfl
def VT(p k:Nat)(a:List PanicEntry)(w:World)(b:w.heap[p]?=some (.cells #[.int .i64 0] 61 (0,0))):
 CallsD prog 234 #[.pointer (some ⟨p,0,none⟩)] (.panicking ({ v:=.iface 353 (.int .i64 k),recovered:=false }::a)) w fun e g d=>
  e=.returned (.tuple #[])/\g=.panicking ({ v:=.iface 353 (.int .i64 k),recovered:=true }::a)/\d=w.setCell ⟨p,0,none⟩ (.int .i64 k):=by
 have l:w.cell? ⟨p,0,none⟩=some (.int .i64 0):=aA b rfl;have m:=aE (i:=0) b;have j:=aD b;have h:=m9;refine callsD_of_wpS Tryz.func234 rfl fun c n f=>?_
 apply wpS_seq
 apply wpS_region
 simp[wpOpsS,go_sem,recoverD,f,Tryz.ntmps234,Exit.thenS];refine wpS_of_wp ?_;clear b;go_wp2_with fail;exact⟨rfl,_,rfl,.tuple #[],by simp[results,Tryz.results234],rfl,rfl,rfl⟩
def VU(p:Addr)(w:World):
 CallsD prog 234 #[.pointer (some p)] .returning w fun e d c=>e=.returned (.tuple #[])/\d=.returning/\c=w:=by
 refine callsD_of_wpS Tryz.func234 rfl fun a f b=>?_
 apply wpS_seq
 apply wpS_region
 simp[wpOpsS,go_sem,recoverD,b,Tryz.ntmps234,Exit.thenS];refine wpS_of_wp ?_;go_wp2_with fail;exact⟨rfl,a.mode,rfl,.tuple #[],by simp[results,Tryz.results234],rfl,b,rfl⟩
def SL(b:Nat)(p:Addr)(w:World)(R:Nat->World->Prop)(c:∀a W,(callFunc b #[a]).run prog W=.ok (.enter b #[a]) W)
 (m:Calls prog b #[.pointer (some p)] (w.alloc (.cells #[.int .i64 0] 61)) fun e d=>∃k,v7 k e/\R k d/\d.heap[w.heap.size]?=some (.cells #[.int .i64 0] 61 (0,0))):
 Calls prog 169 #[.func (.func b) #[.pointer (some p)] #[]] w fun e d=>∃(k:Nat) (w1:World),e=.returned (.int .i64 k)/\R k w1/\d=w1.setCell ⟨w.heap.size,0,none⟩ (.int .i64 k):=by
 have s:=WU;have r:=c (.pointer (some p)) (w.alloc (.cells #[.int .i64 0] 61));have l:=aB m;clear m c;go_enter_defers Tryz.func169,Tryz.ntmps169
 go_wp2_with fail;refine l.out.mono ?_;rintro e w1 ⟨k,h,o,g⟩;have j:=aB o;have n:w1.cell? ⟨w.heap.size,0,none⟩=some (.int .i64 0):=aA g rfl;have u:=aE (i:=0) g;have x:=aD g;clear o l;rcases h with ⟨rfl,rfl⟩|⟨h,rfl⟩
 ·go_wp2_with fail;refine leaves_cons (f:=234) (args:= #[.pointer (some ⟨w.heap.size,0,none⟩)]) (by simp) (by simp[go_sem]) ?_
  refine(VU ⟨w.heap.size,0,none⟩ _).mono ?_;rintro e t q ⟨rfl,rfl,rfl⟩;simp[Leaves,settle,results,Tryz.results169,go_sem,n];exact⟨0,rfl,w1,j.out,rfl⟩
 ·go_wp2_with fail;refine leaves_cons (f:=234) (args:= #[.pointer (some ⟨w.heap.size,0,none⟩)]) (by simp) (by simp[go_sem]) ?_
  refine(VT w.heap.size k [] _ g).mono ?_;rintro e t v ⟨rfl,rfl,rfl⟩;simp[Leaves,settle,results,Tryz.results169,go_sem,n];exact⟨k,rfl,w1,j.out,rfl⟩
def N8:(prog.info? 3).map (fun i=>(i.zero,i.size,i.bytes))=some (some (.int .i64 0),1,8):=by kernel_rfl
def sW(g h n c:Nat)(b:List Value)(w:World)(v:b.length=n*1)(F:n<=1000000)(s:∀j u,b[j]?=some u->w.cell? ⟨g,h+j,none⟩=some u)(C:∀u∈b,u.oneCell'=true):
 Calls prog 109 #[.slice (some ⟨g,h,none⟩) n c] w fun e r=>∃p,e=.returned p/\r.ownsRow w.heap.size 9 1 p n b/\Below w.heap.size w r:=by
 obtain⟨E,B,l,m,q⟩:=info_parts CW;have y:=aB s;clear s;have A:∀(w:World) (a:Option Addr) (n c o i:Nat),(binOp .eql 60 (.slice a n c) (.slice none o i)).run prog w=.ok (.bool a.isNone) w:=fun w a n c o i=>Lib.run_eql_slice_nil w _ _ a n c o i Tryz.underlying60
 go_enter Tryz.func109,Tryz.ntmps109;go_wp2_with (at_builtin;refine wpList_append_own _ (by rfl) _ _ 60 (by rfl) w.heap.size 9 E _ 1 16 Tryz.underlying60 B l m q rfl (by decide) (.slice (some ⟨w.heap.size,0,none⟩) 0 0) 0 [] (by rfl) (World.ownsRow_made w #[] 0 (au_ _) (a9_ _) (by simp)) ⟨g,h,none⟩ n c b (by rfl) v (fun j u t=>by rw[Addr.add_lit];exact iJ _ (y.out j u t)) C (by unfold maxLen;omega) (by omega) (by simp) ?_)
 intro p G d f _;have D:=aB d;have x:=aB f;obtain⟨H,i,rfl⟩:=cU d;clear d f;go_wp2_with fail;go_ret;refine⟨_,rfl,by simpa using D.out,?_⟩
 exact((ay_ _ w).alloc (au_ _) _).grown x.out (by simp) (by intro k z;simp[Value.ownBlock] at z;omega)
def sV(w:World):
 Calls prog 109 #[.slice none 0 0] w fun e f=>e=.returned (.slice none 0 0)/\f=w:=by
 have g:∀(w:World) (a:Option Addr) (n c d b:Nat),(binOp .eql 60 (.slice a n c) (.slice none d b)).run prog w=.ok (.bool a.isNone) w:=fun w a n c d b=>Lib.run_eql_slice_nil w _ _ a n c d b Tryz.underlying60
 go_enter Tryz.func109,Tryz.ntmps109;go_wp2_with fail;go_ret;exact⟨rfl,rfl⟩
def GF(g h n c:Nat)(b:List Value)(w:World)(v:b.length=n*1)(F:n<=17592186044416)(s:∀j u,b[j]?=some u->w.cell? ⟨g,h+j,none⟩=some u)(C:∀u∈b,u.oneCell'=true):
 Calls prog 124 #[.slice (some ⟨g,h,none⟩) n c] w fun e r=>∃p,e=.returned p/\r.ownsRow w.heap.size 3 1 p n b/\Below w.heap.size w r:=by
 obtain⟨E,B,l,m,q⟩:=info_parts N8;have y:=aB s;clear s;have A:∀(w:World) (a:Option Addr) (n c o i:Nat),(binOp .eql 31 (.slice a n c) (.slice none o i)).run prog w=.ok (.bool a.isNone) w:=fun w a n c o i=>Lib.run_eql_slice_nil w _ _ a n c o i Tryz.underlying31
 go_enter Tryz.func124,Tryz.ntmps124;go_wp2_with (at_builtin;refine wpList_append_own _ (by rfl) _ _ 31 (by rfl) w.heap.size 3 E _ 1 8 Tryz.underlying31 B l m q rfl (by decide) (.slice (some ⟨w.heap.size,0,none⟩) 0 0) 0 [] (by rfl) (World.ownsRow_made w #[] 0 (au_ _) (a9_ _) (by simp)) ⟨g,h,none⟩ n c b (by rfl) v (fun j u t=>by rw[Addr.add_lit];exact iJ _ (y.out j u t)) C (by unfold maxLen;omega) (by omega) (by simp) ?_)
 intro p G d f _;have D:=aB d;have x:=aB f;obtain⟨H,i,rfl⟩:=cU d;clear d f;go_wp2_with fail;go_ret;refine⟨_,rfl,by simpa using D.out,?_⟩
 exact((ay_ _ w).alloc (au_ _) _).grown x.out (by simp) (by intro k z;simp[Value.ownBlock] at z;omega)
def GE(w:World):
 Calls prog 124 #[.slice none 0 0] w fun e f=>e=.returned (.slice none 0 0)/\f=w:=by
 have g:∀(w:World) (a:Option Addr) (n c d b:Nat),(binOp .eql 31 (.slice a n c) (.slice none d b)).run prog w=.ok (.bool a.isNone) w:=fun w a n c d b=>Lib.run_eql_slice_nil w _ _ a n c d b Tryz.underlying31
 go_enter Tryz.func124,Tryz.ntmps124;go_wp2_with fail;go_ret;exact⟨rfl,rfl⟩
def GG(g h n c:Nat)(b:List Value)(w:World)(v:b.length=n*6)(F:n<=1000000)(s:∀j u,b[j]?=some u->w.cell? ⟨g,h+j,none⟩=some u)(C:∀u∈b,u.oneCell'=true):
 Calls prog 281 #[.slice (some ⟨g,h,none⟩) n c] w fun e r=>∃p,e=.returned p/\r.ownsRow w.heap.size 195 6 p n b/\Below w.heap.size w r:=by
 obtain⟨E,B,l,m,q⟩:=info_parts IN;have y:=aB s;clear s;have A:∀(w:World) (a:Option Addr) (n c o i:Nat),(binOp .eql 106 (.slice a n c) (.slice none o i)).run prog w=.ok (.bool a.isNone) w:=fun w a n c o i=>Lib.run_eql_slice_nil w _ _ a n c o i Tryz.underlying106
 go_enter Tryz.func281,Tryz.ntmps281;go_wp2_with (at_builtin;refine wpList_append_own _ (by rfl) _ _ 106 (by rfl) w.heap.size 195 E _ 6 80 Tryz.underlying106 B l m q rfl (by decide) (.slice (some ⟨w.heap.size,0,none⟩) 0 0) 0 [] (by rfl) (World.ownsRow_made w #[] 0 (au_ _) (a9_ _) (by simp)) ⟨g,h,none⟩ n c b (by rfl) v (fun j u t=>by rw[Addr.add_lit];exact iJ _ (y.out j u t)) C (by unfold maxLen;omega) (by omega) (by simp) ?_)
 intro p G d f _;have D:=aB d;have x:=aB f;obtain⟨H,i,rfl⟩:=cU d;clear d f;go_wp2_with fail;go_ret;refine⟨_,rfl,by simpa using D.out,?_⟩
 exact((ay_ _ w).alloc (au_ _) _).grown x.out (by simp) (by intro k z;simp[Value.ownBlock] at z;omega)
def B2(w:World)(sb a:Nat)(R:Nat->World->Prop)(P:World->Prop)(v:a<=1000000)
 (m:Hid (Calls prog 169 #[.func (.func 175) #[.pointer (some ⟨sb,0,none⟩)] #[]] w fun e d=>∃k:Nat,k<=1000/\e=.returned (.int .i64 k)/\R k d))
 (j:Hid (∀k W,R k W->(∃u,W.cell? ⟨sb,4,none⟩=some u)/\W.frozen? ⟨sb,4,none⟩=false/\sb<W.heap.size/\W.cell? ⟨sb,0,none⟩=some (.int .i64 a)))
 (i:Hid (∀k W,R k W->¬(k=0/\a=500)->P (W.setCell ⟨sb,4,none⟩ (.int .i64 k))))
 (n:Hid (∀W,R 0 W->a=500->P ((W.setCell ⟨sb,4,none⟩ (.int .i64 0)).setCell ⟨sb,4,none⟩ (.int .i64 9)))):
 Calls prog 125 #[.pointer (some ⟨sb,0,none⟩)] w fun e d=>e=.returned (.tuple #[])/\P d:=by
 have l:=WU;go_enter Tryz.func125,Tryz.ntmps125;go_wp2_with fail;refine m.out.mono ?_;rintro e x ⟨k,s,rfl,b⟩;obtain⟨⟨u,p⟩,q,r,t⟩:=j.out _ _ b;by_cases g:k=0
 ·subst g;by_cases f:a=500
  ·subst f;have c:=aB (n.out _ b rfl);clear b;go_wp2_with fail;go_end0;exact⟨rfl,c.out⟩
  ·have c:=aB (i.out _ _ b (fun h=>f h.2))
   have o:¬(a:Int)=500:=by omega
   clear b;go_wp2_with fail;go_end0;exact⟨rfl,c.out⟩
 ·have c:=aB (i.out _ _ b (fun h=>g h.1))
  have o:¬(k:Int)=0:=by omega
  clear b;go_wp2_with fail;go_end0;exact⟨rfl,c.out⟩
section
variable {fp:Nat->Value} {F:Nat->Prop} {base:Nat} {w:World} {sb gf cap:Nat} {t0 tv outv s0:Value} {fvs:List FVal}
def cT.setStop{m:cF}(h:cT fp F base w sb gf cap t0 tv outv s0 fvs m)(x:Value):cT fp F base (w.setCell ⟨sb,4,none⟩ x) sb gf cap t0 tv outv x fvs m/\Kept (aF sb gf outv fvs) w (w.setCell ⟨sb,4,none⟩ x):=by
 obtain⟨d,o⟩:=aK_.1 h.nodup;have a:∀k,k≠sb->(w.setCell ⟨sb,4,none⟩ x).heap[k]?=w.heap[k]?:=fun k a=>ax_ _ _ _ _ a
 have c:∀b,F b->(w.setCell ⟨sb,4,none⟩ x).heap[b]?=w.heap[b]?:=fun b g=>a b fun e=>(h.apart b g).2 (by simp[aF,e])
 refine⟨⟨aS h.blk,aY h.row fun k e=>a k ?_,h.frs.keep c (fun _ h=>h) fun v j k f=>a k ?_,h.tape.keep c (fun _ h=>h),aY h.out fun k e=>a k ?_,h.nodup,fun k a=>by simpa using h.lt k a,fun k a=>by simpa using h.apart k a⟩,⟨rfl,rfl,rfl,by simp,fun k _ i=>a k fun e=>i (by simp[aF,e])⟩⟩
 ·cases e;exact fun e=>d (by simp[<-e])
 ·have l:k∈aT fvs:=bt_.2 ⟨v,j,f⟩;exact fun e=>d (by simp[<-e,l])
 ·exact fun n=>d (by simp[<-n,e])
def i6(a:Value)(W:World):(callFunc 175 #[a]).run prog W=.ok (.enter 175 #[a]) W:=by kernel_rfl
def PK{ar:Nat->Option Nat}{n:List dY}{m:cF}{k a:Nat}{r:cF × Nat}(ht:iK ar n)(aa:jN n)(h:cT fp F base w sb gf cap (.int .i64 a) tv outv s0 fvs m)(hT:lA fp F w n)(hp:AB (aF sb gf outv fvs) w)(A:base<=w.heap.size)
 (hA:eS ar m) (hU:fM m) (X:m.out.length<=50) (Y:m.tape.length<=17592186044416) (o:cJ n k m=some r) (P:a<=1000000) (Q:r.2<=1000):
 Calls prog 125 #[.pointer (some ⟨sb,0,none⟩)] w fun e E=>e=.returned (.tuple #[])/\Done fp F base sb (.int .i64 a) (.int .i64 (bT a r.2)) (aF sb gf outv fvs) w r.1 E:=by
 have B:Below w.heap.size w (w.alloc (.cells #[.int .i64 0] 61)):=(ay_ _ w).alloc (au_ _) _;have h0:=h.grow B (fun _ h=>h) (fun _ h=>av_ h)
 have S:lA fp F (w.alloc (.cells #[.int .i64 0] 61)) n:=hT.keep (fun x hx=>B.block x (h.apart x hx).1) fun _ h=>h
 have j:Kept (aF sb gf outv fvs) w (w.alloc (.cells #[.int .i64 0] 61)):=Kept.of_below B;have hX:=yM ht aa h0 S (hp.step j fun _ h=>av_ h) (aF_ A j.size) hA hU X Y o
 have p:(w.alloc (.cells #[.int .i64 0] 61)).heap[w.heap.size]?=some (.cells #[.int .i64 0] 61 (0,0)):=aM _ _ rfl _;have y:w.heap.size∉aF sb gf outv fvs:=fun q=>by have:=h.lt _ q;omega
 have hS:=SL 175 ⟨sb,0,none⟩ w (fun k W=>k=r.2/\Done fp F base sb (.int .i64 a) s0 (aF sb gf outv fvs) (w.alloc (.cells #[.int .i64 0] 61)) r.1 W) i6 (hX.mono fun e E z=>by
  obtain⟨he,z⟩:=z;refine⟨r.2,he,⟨rfl,z⟩,?_⟩;rw[z.1.block _ (by simp) y];exact p)
 generalize N:w.alloc (.cells #[.int .i64 0] 61)=w0 at*
 have hD:∀W x,Done fp F base sb (.int .i64 a) s0 (aF sb gf outv fvs) w0 r.1 W->Done fp F base sb (.int .i64 a) s0 (aF sb gf outv fvs) w r.1 (W.setCell ⟨w.heap.size,0,none⟩ x):=fun W x z=>by
  obtain⟨u,G,g,f,l,c,d,D,i,s⟩:=z;have I:w.heap.size<w0.heap.size:=by rw[<-N];simp
  have Z:¬F w.heap.size:=fun hF=>by have:=(h.apart _ hF).1;omega
  have U:w.heap.size∉aF sb g c d:=fun q=>by
   rcases s _ q with C|C
   ·exact y C
   ·omega
  have H:∀b,G b->b≠w.heap.size:=fun b L e=>by
   subst e;rcases D.new _ L with C|C
   ·exact Z C
   ·omega
  have o:∀k,k≠w.heap.size->(W.setCell ⟨w.heap.size,0,none⟩ x).heap[k]?=W.heap[k]?:=fun k o=>ax_ _ _ _ _ o
  have t:∀k∈aF sb g c d,(W.setCell ⟨w.heap.size,0,none⟩ x).heap[k]?=W.heap[k]?:=fun k q=>o k fun e=>U (by rw[<-e];exact q)
  have K:∀b,G b->(W.setCell ⟨w.heap.size,0,none⟩ x).heap[b]?=W.heap[b]?:=fun b L=>o b (H b L)
  refine⟨⟨u.os.trans j.os,u.tape.trans j.tape,u.output.trans j.output,aF_ j.size (by simpa using u.size),fun k C h2=>?_⟩,G,g,f,l,c,d,D.le (bW_ I),⟨by rw[t sb (by simp[aF])];exact i.blk,aY i.row fun k e=>?_,i.frs.keep K (fun _ h=>h) fun v hv k M=>t k ?_,i.tape.keep K (fun _ h=>h),aY i.out fun k e=>t k (by simp[aF,e]),i.nodup,fun k o=>by simpa using i.lt k o,fun k o=>by simpa using i.apart k o⟩,fun k q=>(s k q).imp_right (aF_ (bW_ I))⟩
  ·rw[o k (by omega),u.block k (by omega) h2,j.block k C h2]
  ·cases e;exact t g (by simp[aF])
  ·have q:k∈aT d:=bt_.2 ⟨v,hv,M⟩;simp[aF,q]
 refine(B2 w sb a (fun k W=>k=r.2/\Done fp F base sb (.int .i64 a) s0 (aF sb gf outv fvs) w r.1 W) (fun E=>Done fp F base sb (.int .i64 a) (.int .i64 (bT a r.2)) (aF sb gf outv fvs) w r.1 E) P (hS.mono ?_) (fun k W J=>?_) (fun k W J O=>?_) (fun W J O=>?_))
 ·rintro e E ⟨k,w1,rfl,⟨rfl,z⟩,rfl⟩;exact⟨r.2,Q,rfl,rfl,hD _ _ z⟩
 ·obtain⟨_,_,G,g,f,l,c,d,_,i,_⟩:=J;exact⟨⟨_,aA i.blk rfl⟩,aE i.blk,aD i.blk,aA i.blk rfl⟩
 ·obtain⟨rfl,u,G,g,f,l,c,d,D,i,s⟩:=J;obtain⟨V,T⟩:=i.setStop (.int .i64 r.2);have e:bT a r.2=r.2:=if_neg O;rw[e];exact⟨u.trans T s,G,g,f,l,c,d,D,V,s⟩
 ·obtain⟨hz,u,G,g,f,l,c,d,D,i,s⟩:=J;obtain⟨V,T⟩:=i.setStop (.int .i64 0);obtain⟨q3,q4⟩:=V.setStop (.int .i64 9);have e:bT a r.2=9:=if_pos ⟨hz.symm,O⟩;rw[e];exact⟨(u.trans T s).trans q4 s,G,g,f,l,c,d,D,q3,s⟩
end
structure s9(fp:Nat->Value)(F:Nat->Prop)(w:World)(v:FVal)(f:aI):Prop where
 fn:F6 fp F w v.fp f.fn
 nx:v.nx=.int .i64 f.next
 ln:v.ln=.int .i64 f.line
 sp:eE F w v.sp f.seen
 vars:PVs F w v.vv f.vars
 varsB:∀a∈f.vars,aK a<=200
 ops:PVs F w v.ov f.ops
 opsB:∀a∈f.ops,aK a<=200
def s9.keep{d:Nat->Value}{F G:Nat->Prop}{w w':World}{v:FVal}{f:aI}(h:s9 d F w v f)(c:∀b,F b->w'.heap[b]?=w.heap[b]?)(a:∀b,F b->G b):s9 d G w' v f:=
 ⟨h.fn.keep c a,h.nx,h.ln,eE.keep c a h.sp,(h.vars.keep c).mono a,h.varsB,(h.ops.keep c).mono a,h.opsB⟩
def uC(fp:Nat->Value)(F:Nat->Prop)(w:World):List FVal->List aI->Prop
 |[],[]=>True
 |v::vs,f::fs=>s9 fp F w v f/\uC fp F w vs fs
 |_,_=>False
def uC.keep{a:Nat->Value}{F G:Nat->Prop}{w w':World}(d:∀b,F b->w'.heap[b]?=w.heap[b]?)(c:∀b,F b->G b):∀{vs:List FVal} {fs:List aI},uC a F w vs fs->uC a G w' vs fs
 |[],[],_=>trivial
 |_::_,_::_,⟨e,f⟩=>⟨e.keep d c,uC.keep d c f⟩
 |[],_::_,h=>h.elim
 |_::_,[],h=>h.elim
def uC.length{a:Nat->Value}{F:Nat->Prop}{w:World}:∀{vs:List FVal} {fs:List aI},uC a F w vs fs->vs.length=fs.length
 |[],[],_=>rfl
 |_::_,_::_,⟨_,h⟩=>by simp[uC.length h]
 |[],_::_,h=>h.elim
 |_::_,[],h=>h.elim
def uC.get{c:Nat->Value}{F:Nat->Prop}{w:World}:∀{vs:List FVal} {fs:List aI},uC c F w vs fs->∀(i:Nat) v f,vs[i]?=some v->fs[i]?=some f->s9 c F w v f
 |[],[],_,i,v,f,a,_=>by simp at a
 |_::_,_::_,⟨h,_⟩,0,v,f,a,b=>by simp at a b;subst a;subst b;exact h
 |_::_,_::_,⟨_,h⟩,i+1,v,f,a,b=>uC.get h i v f (by simpa using a) (by simpa using b)
 |[],_::_,h,_,_,_,_,_=>h.elim
 |_::_,[],h,_,_,_,_,_=>h.elim
def EE(F:Nat->Prop)(w:World)(v:Value)(fvs:List FVal):Prop:=
 (fvs=[]/\∃x c,v=.slice x 0 c)\/∃g c cur,v=.slice (some ⟨g,0,none⟩) fvs.length c/\F g/\w.heap[g]?=some (.cells cur 195 (0,0))/\fvs.length<=c/\cur.toList.take (fvs.length*6)=fV fvs
def EE.keep{F G:Nat->Prop}{w w':World}{v:Value}{a:List FVal}(h:EE F w v a)(j:∀b,F b->w'.heap[b]?=w.heap[b]?)(i:∀b,F b->G b):EE G w' v a:=by
 rcases h with h|⟨g,c,d,f,e,k,l⟩
 ·exact av_ h
 ·exact as_ ⟨g,c,d,f,i g e,by rw[j g e];exact k,l⟩
def EC(F:Nat->Prop)(w:World)(v:Value)(l:List (List UInt8)):Prop:=
 (l=[]/\v=.slice none 0 0)\/∃g c cur,v=.slice (some ⟨g,0,none⟩) l.length c/\F g/\w.heap[g]?=some (.cells cur 9 (0,0))/\l.length<=c/\cur.toList.take l.length=lV l
def EC.keep{F G:Nat->Prop}{w w':World}{v:Value}{l:List (List UInt8)}(h:EC F w v l)(i:∀b,F b->w'.heap[b]?=w.heap[b]?)(f:∀b,F b->G b):EC G w' v l:=by
 rcases h with h|⟨g,c,a,e,d,j,k⟩
 ·exact av_ h
 ·exact as_ ⟨g,c,a,e,f g d,by rw[i g d];exact j,k⟩
def kR(fp:Nat->Value)(F:Nat->Prop)(w:World)(v:Value)(s:bI):Prop:=
 ∃fv tv outv fvs,v=.agg #[.int .i64 s.time,fv,tv,outv,.int .i64 s.stop]/\EE F w fv fvs/\uC fp F w fvs s.m.frames/\rH F w tv s.m.tape/\EC F w outv s.m.out
def kR.keep{f:Nat->Value}{F G:Nat->Prop}{w w':World}{v:Value}{s:bI}(h:kR f F w v s)(d:∀b,F b->w'.heap[b]?=w.heap[b]?)(c:∀b,F b->G b):kR f G w' v s:=by
 obtain⟨i,l,a,e,m,j,k,n,g⟩:=h;exact⟨i,l,a,e,m,j.keep d c,k.keep d c,n.keep d c,g.keep d c⟩
def iR.kept{d:Nat->Value}{F G:Nat->Prop}{base:Nat}{w:World}(b:∀k,F k->G k):∀{vs:List FVal} {fs:List aI},iR d F base w vs fs->(∀v∈vs,∀k∈v.owns,G k)->uC d G w vs fs
 |[],[],_,_=>trivial
 |v::_,_::_,⟨a,j⟩,c=>by
  have f:=c v (aS_ ..);obtain⟨⟨q,l,o⟩,p⟩:=a.vars;obtain⟨⟨r,i,m⟩,g⟩:=a.ops;exact⟨⟨a.fn.keep (fun _ _=>rfl) b,a.nx,a.ln,eE.keep (fun _ _=>rfl) b a.sp,PVs.ofRow l (o.mono b) fun k e=>f k (by simp[FVal.owns,e]),p,PVs.ofRow i (m.mono b) fun k e=>f k (by simp[FVal.owns,e]),g⟩,iR.kept b j fun u n=>c u (aJ_ _ n)⟩
 |[],_::_,h,_=>h.elim
 |_::_,[],h,_=>h.elim
def cT.kept{y:Nat->Value}{F G:Nat->Prop}{base:Nat}{w:World}{sb gf j c d:Nat}{o a:Value}{b:List FVal}{m:cF}(h:cT y F base w sb gf j (.int .i64 c) o a (.int .i64 d) b m)(x:∀k,F k->G k)(E:∀k∈aF sb gf a b,k≠sb->G k):
 kR y G w (.agg #[.int .i64 c,.slice (some ⟨gf,0,none⟩) b.length j,o,a,.int .i64 d]) ⟨c,m,d⟩:=by
 obtain⟨D,H⟩:=aK_.1 h.nodup;have n:∀k,k∈gf::(a.ownBlock.toList++aT b)->k≠sb:=fun k l e=>D (by rw[<-e];exact l)
 have s:∀k,k∈gf::(a.ownBlock.toList++aT b)->G k:=fun k l=>E k (aJ_ _ l) (n k l)
 refine⟨_,o,a,b,rfl,?_,iR.kept x h.frs fun v C k l=>s k ?_,h.tape.keep (fun _ _=>rfl) x,?_⟩
 ·rcases h.row.2 with ⟨f,_⟩|⟨q,g,i,f,u,p,r,A,B,t⟩
  ·cases f
  ·cases f;exact as_ ⟨gf,j,i,rfl,s gf (by simp),p,r,t⟩
 ·have z:k∈aT b:=bt_.2 ⟨v,C,l⟩;simp[z]
 ·rcases h.out.2 with ⟨f,u⟩|⟨q,g,i,f,u,p,r,A,B,t⟩
  ·exact av_ ⟨aN_ u,f⟩
  ·exact as_ ⟨q,g,i,f,s q (by rw[f];simp[Value.ownBlock]),p,r,by simpa using t⟩
def Kept.setCell{own:List Nat}{w W:World}(h:Kept own w W)(p:Addr)(x:Value)(b:p.block∈own):Kept own w (W.setCell p x):=
 ⟨h.os,h.tape,h.output,by simpa using h.size,fun k c a=>by rw[ax_ _ _ _ _ fun e=>a (by rw[e];exact b),h.block k c a]⟩
def QY(w w2:World)(b d x0 n c0:Nat)(I F B:Value)(P:Value->World->Prop)(A:Nat->Nat->World->Prop)(C E:Nat->Nat->Nat->World->Prop)(D1 D2:Nat->Nat->Nat->Option Addr->Nat->Nat->World->Prop)(O:Nat->Nat->Option Addr->Nat->Nat->World->Prop)(hn:n<=100)
 (N:I=.slice (some ⟨x0,0,none⟩) n c0) (ae:∃xa xl xc,B=.slice xa xl xc) (aa:∃J M U,F=.slice J M U)
 (hW:(w.alloc (.cells #[.int .i64 b,I,F,B,.int .i64 d] 108)).alloc (.cells #[.int .i64 0,.slice none 0 0,.slice none 0 0,.slice none 0 0,.int .i64 0] 108)=w2)
 (HC:Hid (Calls prog 281 #[I] w2 fun e p=>∃g a,e=.returned (.slice (some ⟨g,0,none⟩) n a)/\A g a p))
 (HA:Hid (∀g a W,A g a W->(∃u,W.cell? ⟨w.heap.size,1,none⟩=some u)/\W.frozen? ⟨w.heap.size,1,none⟩=false/\w.heap.size<W.heap.size/\C g a 0 (W.setCell ⟨w.heap.size,1,none⟩ (.slice (some ⟨g,0,none⟩) n a))))
 (HR:Hid (∀g a j W,C g a j W->W.cell? ⟨w.heap.size,1,none⟩=some (.slice (some ⟨g,0,none⟩) n a)/\w.heap.size<W.heap.size/\g<W.heap.size))
 (HV:Hid (∀g a j W,C g a j W->j<n->∃x l c,W.cell? ⟨g,j*6+4,none⟩=some (.slice x l c)/\Calls prog 282 #[.slice x l c] W fun e p=>∃f o,e=.returned (.slice f l o)/\D1 g a j f l o p))
 (K:Hid (∀g a j x l c W,D1 g a j x l c W->(∃u,W.cell? ⟨g,j*6+4,none⟩=some u)/\W.frozen? ⟨g,j*6+4,none⟩=false/\g<W.heap.size/\E g a j (W.setCell ⟨g,j*6+4,none⟩ (.slice x l c))))
 (HE:Hid (∀g a j W,E g a j W->∃x l c,W.cell? ⟨g,j*6+5,none⟩=some (.slice x l c)/\g<W.heap.size/\Calls prog 282 #[.slice x l c] W fun e p=>∃f o,e=.returned (.slice f l o)/\D2 g a j f l o p))
 (T:Hid (∀g a j x l c W,D2 g a j x l c W->(∃u,W.cell? ⟨g,j*6+5,none⟩=some u)/\W.frozen? ⟨g,j*6+5,none⟩=false/\g<W.heap.size/\C g a (j+1) (W.setCell ⟨g,j*6+5,none⟩ (.slice x l c))))
 (HO:Hid (∀g a W,C g a n W->W.cell? ⟨w.heap.size,3,none⟩=some B/\Calls prog 109 #[B] W fun e p=>∃f H o,e=.returned (.slice f H o)/\O g a f H o p))
 (HF:Hid (∀g a x l c W,O g a x l c W->(W.cell? ⟨w.heap.size,0,none⟩=some (.int .i64 b)/\W.cell? ⟨w.heap.size,1,none⟩=some (.slice (some ⟨g,0,none⟩) n a)/\W.cell? ⟨w.heap.size,2,none⟩=some F/\(∃u,W.cell? ⟨w.heap.size,3,none⟩=some u)/\W.cell? ⟨w.heap.size,4,none⟩=some (.int .i64 d)/\W.frozen? ⟨w.heap.size,3,none⟩=false/\w.heap.size+1<W.heap.size)/\
   (W.heap[w.heap.size+1]?=some (.cells #[.int .i64 0,.slice none 0 0,.slice none 0 0,.slice none 0 0,.int .i64 0] 108 (0,0)))))
 (HP:Hid (∀g a x l c W S,O g a x l c W->Kept [w.heap.size,w.heap.size+1] W S->S.heap.size=W.heap.size->P (.agg #[.int .i64 b,.slice (some ⟨g,0,none⟩) n a,F,.slice x l c,.int .i64 d]) S)):
 Calls prog 226 #[.agg #[.int .i64 b,I,F,B,.int .i64 d]] w fun e p=>∃v,e=.returned v/\P v p:=by
 obtain⟨xa,xl,xc,rfl⟩:=ae;obtain⟨J,M,U,rfl⟩:=aa;subst N;have HW:=aB hW;clear hW;go_enter Tryz.func226,Tryz.ntmps226;go_wp2_with fail;rw[HW.out];refine HC.out.mono ?_;rintro e w3 ⟨g,a,rfl,h3⟩;obtain⟨⟨u3,a1⟩,a2,a3,L⟩:=HA.out _ _ _ h3;obtain⟨b1,b2,b3⟩:=HR.out _ _ _ _ L;have H4:=aB L;clear h3 L;generalize G:w3.setCell ⟨w.heap.size,1,none⟩ (.slice (some ⟨g,0,none⟩) n a)=w4 at H4 b1 b2 b3;have V:=aB G;clear G;go_wp2_with fail;rw[V.out];go_wp2_with fail;go_loopg [3,4,12] n (fun gk _ _ i wr=>∃j:Nat,j+gk=n/\i=.int .i64 j/\C g a j wr)
 case atStart=>exact⟨0,by omega,rfl,H4.out⟩
 case round=>
  obtain⟨j,hj,rfl,z⟩:=hrel;obtain⟨b1,b2,b3⟩:=HR.out _ _ _ _ z;by_cases Y:j<n
  ·obtain⟨m,rfl⟩:∃m,gk=m+1:=⟨gk-1,by omega⟩
   obtain⟨x,l,c,c1,k⟩:=HV.out _ _ _ _ z Y;have s:=aB k;have e1:(0:Int)<=(j:Int):=by omega
   have e2:(j:Int)<(n:Int):=by omega
   clear z k;go_wp2_with fail;refine s.out.mono ?_;rintro e q ⟨f,o,rfl,t⟩;obtain⟨⟨u5,d1⟩,d2,d3,h6⟩:=K.out _ _ _ _ _ _ _ t;obtain⟨y,l2,c2,y1,y2,r⟩:=HE.out _ _ _ _ h6;have D:=aB r;have af:q.cell? ⟨g,j*6+5,none⟩=some (.slice y l2 c2):=by simpa [go_sem] using y1
   clear t h6 r y1 y2;go_wp2_with fail;refine D.out.mono ?_;rintro e w7 ⟨y',d',rfl,h7⟩;obtain⟨⟨u7,f1⟩,f2,f3,h8⟩:=T.out _ _ _ _ _ _ _ h7;have H8:=aB h8;clear h7 h8;go_wp2_with fail;go_roundg m
   case measure=>omega
   case rel=>exact⟨j+1,by omega,by go_num,H8.out⟩
  ·have ad:j=n:=by omega
   subst ad;obtain⟨o1,k⟩:=HO.out _ _ _ z;have s:=aB k;clear z k;go_wp2_with fail;refine s.out.mono ?_;rintro e q ⟨f,H,o,rfl,t⟩;obtain⟨⟨p0,p1,p2,⟨u3,p3⟩,p4,pf,pl⟩,h⟩:=HF.out _ _ _ _ _ _ t;have ac:q.cell? ⟨w.heap.size+1,0,none⟩=some (.int .i64 0):=aA h rfl;have ab:q.cell? ⟨w.heap.size+1,1,none⟩=some (.slice none 0 0):=aA h rfl;have X:q.cell? ⟨w.heap.size+1,2,none⟩=some (.slice none 0 0):=aA h rfl;have Z:q.cell? ⟨w.heap.size+1,3,none⟩=some (.slice none 0 0):=aA h rfl;have Q:q.cell? ⟨w.heap.size+1,4,none⟩=some (.int .i64 0):=aA h rfl;have ah:=aE (i:=0) h;have aj:=aE (i:=1) h;have al:=aE (i:=2) h;have ak:=aE (i:=3) h;have ai:=aE (i:=4) h;have H5:=aB t;clear t h;have ag:w.heap.size<q.heap.size:=by omega
   go_wp2_with fail;refine⟨rfl,.agg #[.int .i64 b,.slice (some ⟨g,0,none⟩) j a,.slice J M U,.slice f H o,.int .i64 d],?_,_,rfl,HP.out _ _ _ _ _ _ _ H5.out ?_ (by simp)⟩
   ·simp[results,Tryz.results226,go_sem,ac,ab,X,Z,Q]
   ·exact((((((Kept.refl _ _).setCell _ _ (by simp)).setCell _ _ (by simp)).setCell _ _ (by simp)).setCell _ _ (by simp)).setCell _ _ (by simp)).setCell _ _ (by simp)
def PU(a b:List FVal)(v:FVal)(i:Nat)(c:i<6):(fV (a++v::b))[a.length*6+i]?=v.cells[i]?:=by
 rw[jL,aV_ (by rw[dZ];omega),dZ,bs_]
 show (v.cells++fV b)[i]?=_
 rw[a3_ (by exact c)]
def B5(a b:List FVal)(v v':FVal)(i:Nat)(x:Value)(c:i<6)(d:v'.cells=v.cells.set i x):(fV (a++v::b)).set (a.length*6+i) x=fV (a++v'::b):=by
 rw[jL,jL,List.set_append_right _ _ (by rw[dZ];omega),dZ,bs_]
 show fV a++(v.cells++fV b).set i x=fV a++(v'.cells++fV b)
 rw[List.set_append_left _ _ (by exact c),d]
structure CI(w:World)(time stop n g cap:Nat)(tv xo:Value)(fvs':List FVal)(own:List Nat)(W:World):Prop where
 row:W.ownsRow (w.heap.size+2) 195 6 (.slice (some ⟨g,0,none⟩) n cap) n (fV fvs')
 nodup:(g::own).Nodup
 rng:∀k∈g::own,w.heap.size+2<=k/\k<W.heap.size
 bel:Below w.heap.size w W
 b1:W.heap[w.heap.size]?=some (.cells #[.int .i64 time,.slice (some ⟨g,0,none⟩) n cap,tv,xo,.int .i64 stop] 108 (0,0))
 b2:W.heap[w.heap.size+1]?=some (.cells #[.int .i64 0,.slice none 0 0,.slice none 0 0,.slice none 0 0,.int .i64 0] 108 (0,0))
section
variable {w:World} {time stop n g cap:Nat} {tv xo:Value} {own:List Nat} {W W':World} {a b:List FVal} {v v':FVal}
def CI.cell(h:CI w time stop n g cap tv xo (a++v::b) own W)(i:Nat)(c:i<6):W.cell? ⟨g,a.length*6+i,none⟩=v.cells[i]?/\W.frozen? ⟨g,a.length*6+i,none⟩=false/\g<W.heap.size:=by
 refine⟨?_,h.row.frozenAt _,(h.rng g (by simp)).2⟩
 have d:=h.row.1;rw[dZ,aw_,aB_] at d;rw[h.row.cellAt (a.length*6+i) (by omega),PU a b v i c]
def CI.grow{a:List FVal}(h:CI w time stop n g cap tv xo a own W)(c:Below W.heap.size W W')(o:Option Nat)(i:∀k,o=some k->W.heap.size<=k/\k<W'.heap.size):CI w time stop n g cap tv xo a (own++o.toList) W':=by
 have m:=h.bel.size;have p:=aD h.b1;have q:=aD h.b2;refine⟨gS h.row c,?_,fun k b=>?_,h.bel.trans (c.mono m),by rw[c.block _ p];exact h.b1,by rw[c.block _ q];exact h.b2⟩
 ·rw[<-aY_];refine be_.2 ⟨h.nodup,by cases o<;>simp,fun x l y j e=>?_⟩
  subst e;have f:o=some x:=by simpa using j
  have:=(h.rng x l).2;have:=(i x f).1;omega
 ·rw[<-aY_] at b;rcases aE_.1 b with b|b
  ·exact⟨(h.rng k b).1,az_ (h.rng k b).2 c.size⟩
  ·have d:o=some k:=by simpa using b
   have:=(i k d).1;exact⟨by omega,(i k d).2⟩
def CI.set(h:CI w time stop n g cap tv xo (a++v::b) own W)(i:Nat)(d:i<6)(x:Value)(e:v'.cells=v.cells.set i x):CI w time stop n g cap tv xo (a++v'::b) own (W.setCell ⟨g,a.length*6+i,none⟩ x):=by
 have f:=(h.rng g (by simp)).1
 have c:∀k,k≠g->(W.setCell ⟨g,a.length*6+i,none⟩ x).heap[k]?=W.heap[k]?:=fun k c=>ax_ _ _ _ _ c
 refine⟨?_,h.nodup,fun k c=>⟨(h.rng k c).1,by simpa using (h.rng k c).2⟩,h.bel.setCell (by show w.heap.size<=g;omega) _,by rw[c _ (by omega)];exact h.b1,by rw[c _ (by omega)];exact h.b2⟩
 rw[<-B5 a b v v' i x d e];exact(h.row.stored _ _).1
def CI.keep{a:List FVal}(h:CI w time stop n g cap tv xo a own W):w.heap.size<W.heap.size/\w.heap.size+1<W.heap.size:=⟨aD h.b1,aD h.b2⟩
end
structure RR(fp:Nat->Value)(F:Nat->Prop)(base:Nat)(w:World)(gf cap:Nat)(tv outv:Value)(fvs:List FVal)(m:cF):Prop where
 row:w.ownsRow base 195 6 (.slice (some ⟨gf,0,none⟩) fvs.length cap) fvs.length (fV fvs)
 frs:iR fp F base w fvs m.frames
 tape:rH F w tv m.tape
 out:w.ownsRow base 9 1 outv m.out.length (lV m.out)
 nodup:(gf::(outv.ownBlock.toList++aT fvs)).Nodup
 rng:∀k∈gf::(outv.ownBlock.toList++aT fvs),base<=k/\k<w.heap.size
def PVs.cells{F:Nat->Prop}{w:World}{v:Value}{l:List aJ}(h:PVs F w v l)(q:l.length<=1000000):
 ∃x c,v=.slice x l.length c/\Calls prog 282 #[.slice x l.length c] w fun e a=>∃b d m,e=.returned (.slice b l.length d)/\a.ownsRow w.heap.size 256 1 (.slice b l.length d) l.length m/\fT F w m l/\Below w.heap.size w a:=by
 rcases h.row with ⟨rfl,rfl⟩|⟨g,i,n,rfl,y,s,f,r⟩
 ·refine⟨none,0,rfl,(sT w).mono ?_⟩;rintro e a ⟨rfl,rfl⟩;exact⟨none,0,[],rfl,World.ownsRow_nil _ _ _ _,fT.nil _ _,ay_ _ _⟩
 ·refine⟨_,_,rfl,(sU g 0 l.length i n w (by rw[f.1];omega) q (fun j u p=>by rw[bk_];exact r j u p) (oG f)).mono ?_⟩
  rintro e a ⟨t,rfl,k,o⟩;obtain⟨b,d,rfl⟩:=cU k;exact⟨b,d,n,rfl,k,f,o⟩
def lK{a:Nat->Value}{F:Nat->Prop}{base:Nat}{w w':World}{vs:List FVal}{fs:List aI}(h:iR a F base w vs fs)(c:∀b,F b->w'.heap[b]?=w.heap[b]?)(f:∀k∈aT vs,w'.heap[k]?=w.heap[k]?):iR a F base w' vs fs:=
 h.keep c (fun _ h=>h) fun v e k d=>f k (bt_.2 ⟨v,e,d⟩)
def KS(us:List FVal)(v:FVal):aT (us++[v])=aT us++v.owns:=by simp[aT]
def iH{w:World}{base a:Nat}{e:TypeId}{b:Nat}{v:Value}{n:Nat}{xs:List Value}(h:w.ownsRow base e b v n xs)(f:a<=base):w.ownsRow a e b v n xs:=by
 refine⟨h.1,?_⟩;rcases h.2 with h|⟨g,d,c,i,j,k⟩
 ·exact av_ h
 ·exact as_ ⟨g,d,c,i,aF_ f j,k⟩
def CpC(fp:Nat->Value)(F:Nat->Prop)(w:World)(time stop n:Nat)(tv xo:Value)(fvs:List FVal)(frames:List aI)(g cap j:Nat)(W:World):Prop:=
 ∃us:List FVal,us.length=j/\CI w time stop n g cap tv xo (us++fvs.drop j) (aT us) W/\iR fp F (w.heap.size+2) W us (frames.take j)
def CpE(fp:Nat->Value)(F:Nat->Prop)(w:World)(time stop n:Nat)(tv xo:Value)(fvs:List FVal)(frames:List aI)(g cap j:Nat)(W:World):Prop:=
 ∃(us:List FVal) (v:FVal) (f:aI) (x:Value),us.length=j/\fvs[j]?=some v/\frames[j]?=some f/\CI w time stop n g cap tv xo (us++{ v with vv:=x }::fvs.drop (j+1)) (aT us++x.ownBlock.toList) W/\iR fp F (w.heap.size+2) W us (frames.take j)/\lZ F (w.heap.size+2) W x f.vars
def VM{O:Nat->Value}{F:Nat->Prop}{w:World}{v:Value}{s:bI}(h:kR O F w v s)(U:∀k,F k->k<w.heap.size)(bj:s.m.frames≠[])(bw:s.m.frames.length<=16)(hb:∀f∈s.m.frames,f.vars.length<=90001/\f.ops.length<=99000)(bz:s.m.out.length<=50):
 Calls prog 226 #[v] w fun e E=>∃v',e=.returned v'/\∃gf m I K a,v'=.agg #[.int .i64 s.time,.slice (some ⟨gf,0,none⟩) a.length m,I,K,.int .i64 s.stop]/\Below w.heap.size w E/\RR O F w.heap.size E gf m I K a s.m:=by
 obtain⟨fv,I,xo,a,rfl,bg,Q,be,ba⟩:=h;have al:=Q.length
 have T:0<a.length:=by
  rw[al];exact bl_.2 bj
 rcases bg with ⟨e,_⟩|⟨x0,c0,bu,rfl,bk,ay,bt,bq⟩
 ·rw[e] at T;simp at T
 have bb:∃ta tl tc,I=.slice ta tl tc:=by
  rcases be with ⟨_,x,c,e⟩|⟨g,o,c,e,_⟩
  ·exact⟨_,_,_,e⟩
  ·exact⟨_,_,_,e⟩
 have bc:∃xa xl xc,xo=.slice xa xl xc:=by
  rcases ba with ⟨_,e⟩|⟨g,c,cu,e,_⟩
  ·exact⟨_,_,_,e⟩
  ·exact⟨_,_,_,e⟩
 generalize Z:(w.alloc (.cells #[.int .i64 s.time,.slice (some ⟨x0,0,none⟩) a.length c0,I,xo,.int .i64 s.stop] 108)).alloc (.cells #[.int .i64 0,.slice none 0 0,.slice none 0 0,.slice none 0 0,.int .i64 0] 108)=w2;have bd:Below w.heap.size w w2:=by rw[<-Z];exact((ay_ _ w).alloc (au_ _) _).alloc (by simp) _
 have bm:w2.heap.size=w.heap.size+2:=by rw[<-Z];simp
 have bo:w2.heap[w.heap.size]?=some (.cells #[.int .i64 s.time,.slice (some ⟨x0,0,none⟩) a.length c0,I,xo,.int .i64 s.stop] 108 (0,0)):=by
  rw[<-Z,aA_ _ _ _ (by simp)];exact aM _ _ rfl _
 have bi:w2.heap[w.heap.size+1]?=some (.cells #[.int .i64 0,.slice none 0 0,.slice none 0 0,.slice none 0 0,.int .i64 0] 108 (0,0)):=by
  rw[<-Z];exact aM _ _ (by simp) _
 have av:∀b,F b->w2.heap[b]?=w.heap[b]?:=fun b hb=>bd.block b (U b hb)
 have ah:∀{W:World},Below w.heap.size w W->∀b,F b->W.heap[b]?=w.heap[b]?:=fun hb b r=>hb.block b (U b r)
 have X:∀u∈fV a,u.oneCell'=true:=by
  have bf:∀(vs:List FVal) (N:List aI),uC O F w vs N->∀u∈fV vs,u.oneCell'=true:=by
   intro vs;induction vs with
   |nil=>intro N _ u hu;cases hu
   |cons v vs ih=>
    intro N Q u hu;cases N with
    |nil=>exact Q.elim
    |cons f N=>
     obtain⟨L,h2⟩:=Q;rcases aE_.1 hu with hu|hu
     ·obtain⟨bx,gc,cp,bv,P,_⟩:=L.fn;obtain⟨p,hp⟩:=L.sp.form
      have bl:∃x n c,v.vv=.slice x n c:=by
       rcases L.vars.row with ⟨_,e⟩|⟨g,c,xs,e,_⟩<;>exact⟨_,_,_,e⟩
      have br:∃x n c,v.ov=.slice x n c:=by
       rcases L.ops.row with ⟨_,e⟩|⟨g,c,xs,e,_⟩<;>exact⟨_,_,_,e⟩
      obtain⟨x1,n1,c1,e2⟩:=bl;obtain⟨x2,n2,c2,e3⟩:=br;simp only[FVal.cells,P,L.nx,L.ln,hp,e2,e3,aG_,aQ_,or_false] at hu;rcases hu with rfl|rfl|rfl|rfl|rfl|rfl<;>rfl
     ·exact ih N h2 u hu
  exact bf a s.m.frames Q
 have M:∀j (D:j<a.length),∃v f,a[j]?=some v/\s.m.frames[j]?=some f/\s9 O F w v f/\f∈s.m.frames/\a.drop j=v::a.drop (j+1)/\s.m.frames.take (j+1)=s.m.frames.take j++[f]:=fun j D=>by
  have ak:j<s.m.frames.length:=by omega
  refine⟨a[j],s.m.frames[j],aH_ D,aH_ ak,Q.get j _ _ (aH_ D) (aH_ ak),aR_ ak,bL_ D,aT_ ak⟩
 have hR:∀g m j W,CpC O F w s.time s.stop a.length I xo a s.m.frames g m j W->W.cell? ⟨w.heap.size,1,none⟩=some (.slice (some ⟨g,0,none⟩) a.length m)/\w.heap.size<W.heap.size/\g<W.heap.size:=fun g m j W J=>by
  obtain⟨q,_,i,_⟩:=J;exact⟨aA i.b1 rfl,aD i.b1,(i.rng g (by simp)).2⟩
 refine(QY w w2 s.time s.stop x0 a.length c0 (.slice (some ⟨x0,0,none⟩) a.length c0) I xo
  (fun v' E=>∃gf m I K a,v'=.agg #[.int .i64 s.time,.slice (some ⟨gf,0,none⟩) a.length m,I,K,.int .i64 s.stop]/\Below w.heap.size w E/\RR O F w.heap.size E gf m I K a s.m)
  (fun g m W=>W.ownsRow (w.heap.size+2) 195 6 (.slice (some ⟨g,0,none⟩) a.length m) a.length (fV a)/\Below w2.heap.size w2 W)
  (CpC O F w s.time s.stop a.length I xo a s.m.frames) (CpE O F w s.time s.stop a.length I xo a s.m.frames)
  (fun g m j x l c W=>∃q v f,q.length=j/\a[j]?=some v/\s.m.frames[j]?=some f/\CI w s.time s.stop a.length g m I xo (q++v::a.drop (j+1)) (aT q++(Value.slice x l c).ownBlock.toList) W/\iR O F (w.heap.size+2) W q (s.m.frames.take j)/\lZ F (w.heap.size+2) W (.slice x l c) f.vars)
  (fun g m j x l c W=>∃q v f y,q.length=j/\a[j]?=some v/\s.m.frames[j]?=some f/\CI w s.time s.stop a.length g m I xo (q++{ v with vv:=y }::a.drop (j+1)) (aT q++y.ownBlock.toList++(Value.slice x l c).ownBlock.toList) W/\iR O F (w.heap.size+2) W q (s.m.frames.take j)/\lZ F (w.heap.size+2) W y f.vars/\lZ F (w.heap.size+2) W (.slice x l c) f.ops)
  (fun g m x l c W=>∃q,q.length=a.length/\CI w s.time s.stop a.length g m I xo q (aT q++(Value.slice x l c).ownBlock.toList) W/\iR O F (w.heap.size+2) W q s.m.frames/\W.ownsRow (w.heap.size+2) 9 1 (.slice x l c) s.m.out.length (lV s.m.out))
  (by omega) rfl bc bb Z ?_ (fun g m W J=>?_) hR (fun g m j W J D=>?_) (fun g m j x l c W J=>?_) (fun g m j W J=>?_) (fun g m j x l c W J=>?_) (fun g m W J=>?_) (fun g m x l c W J=>?_) (fun g m x l c W W' J t aa=>?_))
 ·refine(GG x0 0 a.length c0 (fV a) w2 (by rw[dZ]) (by omega) (fun j u D=>?_) X).mono ?_
  ·rw[bk_];rw[<-bq,aU_] at D;split at D
   ·exact aA ((av x0 bk).trans ay) (by simpa using D)
   ·cases D
  ·rintro e E ⟨v',rfl,C,z⟩;rw[bm] at C;rcases C.2 with ⟨r1,r2⟩|⟨g,cp,cu,r1,_⟩
   ·omega
   ·rw[r1] at C ⊢
    exact⟨g,cp,rfl,C,z⟩
 ·obtain⟨C,z⟩:=J;have hg:=C.lt g rfl;have aj:W.heap[w.heap.size]?=_:=(z.block _ (by omega)).trans bo
  have aw:W.heap[w.heap.size+1]?=_:=(z.block _ (by omega)).trans bi
  refine⟨⟨_,aA aj rfl⟩,aE aj,aD aj,[],rfl,⟨?_,by simp[aT],fun k t=>?_,?_,aS aj,?_⟩,trivial⟩
  ·exact aY C fun k e=>ax_ _ _ _ _ (by cases e;show g≠w.heap.size;omega)
  ·simp[aT] at t;subst t;exact⟨hg.1,by simpa using hg.2⟩
  ·exact(bd.trans (z.mono (by omega))).setCell (au_ _) _
  ·rw[ax_ _ _ _ _ (by show w.heap.size+1≠w.heap.size;omega)];exact aw
 ·obtain⟨q,rfl,i,B⟩:=J;obtain⟨v,f,P,e2,hv,ai,e3,e4⟩:=M q.length D;rw[e3] at i;obtain⟨c1,c2,c3⟩:=i.cell 4 (by omega)
  have ao:=hv.keep (ah i.bel) fun _ h=>h
  obtain⟨x,c,e5,ar⟩:=ao.vars.cells (by have:=(hb f ai).1;omega)
  refine⟨x,f.vars.length,c,c1.trans (by rw[<-e5];rfl),ar.mono ?_⟩
  rintro e E ⟨x',c',ys,he,C,hr,z⟩;have Y:∀k,(Value.slice x' f.vars.length c').ownBlock=some k->W.heap.size<=k/\k<E.heap.size:=fun k t=>C.lt k t
  have aa:=i.keep;refine⟨x',c',he,q,v,f,rfl,P,e2,i.grow z _ Y,lK B (fun b r=>z.block b (az_ (U b r) i.bel.size)) (fun k t=>z.block k (i.rng k (aJ_ _ t)).2),⟨ys,iH C (by omega),hr.keep fun b r=>z.block b (az_ (U b r) i.bel.size)⟩,hv.varsB⟩
 ·obtain⟨q,v,f,rfl,P,e2,i,B,S⟩:=J;obtain⟨c1,c2,c3⟩:=i.cell 4 (by omega)
  have G:∀k∈aT q++(Value.slice x l c).ownBlock.toList,k≠g:=fun k t e=>(aK_.1 i.nodup).1 (by rw[<-e];exact t)
  have A:∀k,k≠g->(W.setCell ⟨g,q.length*6+4,none⟩ (.slice x l c)).heap[k]?=W.heap[k]?:=fun k t=>ax_ _ _ _ _ t
  have ae:∀b,F b->b≠g:=fun b r e=>by have L:=U b r;have h2:=(i.rng g (by simp)).1;omega
  refine⟨⟨_,c1⟩,c2,c3,q,v,f,_,rfl,P,e2,i.set 4 (by omega) _ rfl,lK B (fun b r=>A b (ae b r)) (fun k t=>A k (G k (aP_ _ t))),S.keep (fun b r=>A b (ae b r)) (fun _ h=>h) fun k t=>A k (G k (by simp[t]))⟩
 ·obtain⟨q,v,f,x,rfl,P,e2,i,B,S⟩:=J;obtain⟨c1,c2,c3⟩:=i.cell 5 (by omega)
  have D:q.length<a.length:=(aZ_.1 P).1;obtain⟨v',f',ab,ac,hv,ai,e3,e4⟩:=M q.length D;rw[P] at ab;cases ab;rw[e2] at ac;cases ac;have ao:=hv.keep (ah i.bel) fun _ h=>h
  obtain⟨y,d,e5,ar⟩:=ao.ops.cells (by have:=(hb f ai).2;omega)
  refine⟨y,f.ops.length,d,c1.trans (by rw[<-e5];rfl),c3,ar.mono ?_⟩
  rintro e E ⟨y',d',ys,he,C,hr,z⟩;have Y:∀k,(Value.slice y' f.ops.length d').ownBlock=some k->W.heap.size<=k/\k<E.heap.size:=fun k t=>C.lt k t
  have aa:=i.keep;have au:∀b,F b->E.heap[b]?=W.heap[b]?:=fun b r=>z.block b (az_ (U b r) i.bel.size)
  refine⟨y',d',he,q,v,f,x,rfl,P,e2,i.grow z _ Y,lK B au (fun k t=>z.block k (i.rng k (aJ_ _ (aP_ _ t))).2),S.keep au (fun _ h=>h) fun k t=>z.block k (i.rng k (by simp[t])).2,⟨ys,iH C (by omega),hr.keep au⟩,hv.opsB⟩
 ·obtain⟨q,v,f,y,rfl,P,e2,i,B,S,bp⟩:=J;obtain⟨c1,c2,c3⟩:=i.cell 5 (by omega)
  have D:q.length<a.length:=(aZ_.1 P).1;obtain⟨v',f',ab,ac,hv,ai,e3,e4⟩:=M q.length D;rw[P] at ab;cases ab;rw[e2] at ac;cases ac;have G:∀k∈aT q++y.ownBlock.toList++(Value.slice x l c).ownBlock.toList,k≠g:=fun k t e=>(aK_.1 i.nodup).1 (by rw[<-e];exact t)
  have A:∀k,k≠g->(W.setCell ⟨g,q.length*6+5,none⟩ (.slice x l c)).heap[k]?=W.heap[k]?:=fun k t=>ax_ _ _ _ _ t
  have ae:∀b,F b->b≠g:=fun b r e=>by have L:=U b r;have h2:=(i.rng g (by simp)).1;omega
  have aq:∀b,F b->(W.setCell ⟨g,q.length*6+5,none⟩ (.slice x l c)).heap[b]?=W.heap[b]?:=fun b r=>A b (ae b r)
  have ad:=i.set (v':={ v with vv:=y,ov:=.slice x l c }) 5 (by omega) (.slice x l c) rfl
  have af:=hv.keep (ah (ad.bel)) fun _ h=>h
  refine⟨⟨_,c1⟩,c2,c3,q++[{ v with vv:=y,ov:=.slice x l c }],by simp,?_,?_⟩
  ·have e5:aT (q++[{ v with vv:=y,ov:=.slice x l c }])=aT q++y.ownBlock.toList++(Value.slice x l c).ownBlock.toList:=by
    rw[KS,bd_];rfl
   have e6:q++[{ v with vv:=y,ov:=.slice x l c }]++a.drop (q.length+1)=q++{ v with vv:=y,ov:=.slice x l c }::a.drop (q.length+1):=by simp
   rw[e5,e6];exact ad
  ·rw[e4];refine(lK B aq (fun k t=>A k (G k (by simp[t])))).snoc ⟨af.fn,af.nx,af.ln,af.sp,S.keep aq (fun _ h=>h) fun k t=>A k (G k (by simp[t])),bp.keep aq (fun _ h=>h) fun k t=>A k (G k (by simp[t]))⟩
 ·obtain⟨q,V,i,B⟩:=J;rw[List.drop_of_length_le (au_ _),bY_] at i;rw[al,a0_ (au_ _)] at B;have aa:=i.keep;have ax:=ba.keep (ah i.bel) fun _ h=>h
  refine⟨aA i.b1 rfl,?_⟩
  have am:∀x' l' c' (E:World),E.ownsRow W.heap.size 9 1 (.slice x' l' c') s.m.out.length (lV s.m.out)->Below W.heap.size W E->∃q,q.length=a.length/\CI w s.time s.stop a.length g m I xo q (aT q++(Value.slice x' l' c').ownBlock.toList) E/\iR O F (w.heap.size+2) E q s.m.frames/\E.ownsRow (w.heap.size+2) 9 1 (.slice x' l' c') s.m.out.length (lV s.m.out):=fun x' l' c' E C z=>
   ⟨q,V,i.grow z _ fun k t=>C.lt k t,lK B (fun b r=>z.block b (az_ (U b r) i.bel.size)) (fun k t=>z.block k (i.rng k (aJ_ _ t)).2),iH C (by omega)⟩
  rcases ax with ⟨P,rfl⟩|⟨go,co,cu,rfl,L,h2,h3,h4⟩
  ·refine(sV W).mono ?_;rintro e E ⟨rfl,rfl⟩;exact⟨none,0,0,rfl,am _ _ _ _ (by rw[P];exact World.ownsRow_nil _ _ _ _) (ay_ _ _)⟩
  ·refine(sW go 0 s.m.out.length co (lV s.m.out) W (by simp[lV]) (by omega) (fun j u D=>?_) (fun u hu=>?_)).mono ?_
   ·rw[bk_];rw[<-h4,aU_] at D;split at D
    ·exact aA h2 (by simpa using D)
    ·cases D
   ·obtain⟨y,_,rfl⟩:=bz_.1 hu;rfl
   ·rintro e E ⟨v',rfl,C,z⟩;obtain⟨x',c',rfl⟩:=cU C;exact⟨x',_,c',rfl,am _ _ _ _ C z⟩
 ·obtain⟨q,V,i,B,C⟩:=J;exact⟨⟨aA i.b1 rfl,aA i.b1 rfl,aA i.b1 rfl,⟨_,aA i.b1 rfl⟩,aA i.b1 rfl,aE i.b1,aD i.b2⟩,i.b2⟩
 ·obtain⟨q,V,i,B,C⟩:=J
  have az:∀k∈g::(aT q++(Value.slice x l c).ownBlock.toList),k∉[w.heap.size,w.heap.size+1]:=fun k t hm=>by
   have:=(i.rng k t).1;simp at hm;omega
  have ap:∀k∈g::(aT q++(Value.slice x l c).ownBlock.toList),W'.heap[k]?=W.heap[k]?:=fun k H=>t.block k (i.rng k H).2 (az k H)
  have bn:∀b,F b->W'.heap[b]?=W.heap[b]?:=fun b r=>t.block b (az_ (U b r) i.bel.size) (by have:=U b r;simp;omega)
  have bh:Below w.heap.size w W':=⟨t.os.trans i.bel.os,t.tape.trans i.bel.tape,t.output.trans i.bel.output,by rw[aa];exact i.bel.size,fun k H=>by
   rw[t.block k (az_ H i.bel.size) (by simp;omega),i.bel.block k H]⟩
  have an:∀k,k∈g::((Value.slice x l c).ownBlock.toList++aT q)↔k∈g::(aT q++(Value.slice x l c).ownBlock.toList):=fun k=>by simp[or_comm]
  have ag:∀(u:List FVal) (N:List aI),iR O F (w.heap.size+2) W' u N->iR O F w.heap.size W' u N:=by
   intro u;induction u with
   |nil=>intro N h;cases N with
    |nil=>trivial
    |cons=>exact h.elim
   |cons v vs ih=>intro N h;cases N with
    |nil=>exact h.elim
    |cons f N=>
     obtain⟨L,h2⟩:=h;obtain⟨⟨xs,a1,a2⟩,a3⟩:=L.vars;obtain⟨⟨ys,b1,b2⟩,b3⟩:=L.ops;exact⟨⟨L.fn,L.nx,L.ln,L.sp,⟨⟨xs,iH a1 (by omega),a2⟩,a3⟩,⟨⟨ys,iH b1 (by omega),b2⟩,b3⟩⟩,ih N h2⟩
  refine⟨g,m,I,.slice x l c,q,by rw[V],bh,⟨?_,ag _ _ (lK B bn fun k H=>ap k (by simp[H])),be.keep (fun b r=>by rw[bh.block b (U b r)]) (fun _ h=>h),?_,?_,fun k H=>?_⟩⟩
  ·rw[V];exact iH (aY i.row fun k e=>by cases e;exact ap g (by simp)) (by omega)
  ·exact iH (aY C fun k e=>ap k (by simp[e])) (by omega)
  ·have:=i.nodup;rw[aK_] at this ⊢
   refine⟨fun hm=>this.1 (by simpa [or_comm] using hm),?_⟩
   exact(List.perm_append_comm.nodup_iff).1 this.2
  ·have:=i.rng k ((an k).1 H);exact⟨by omega,by rw[aa];exact this.2⟩
def ZI(w:World)(b a:Nat)(h j i:Value)(t:a≠0)(d:∃x l c,h=.slice x l c)(f:∃x l c,j=.slice x l c)(g:∃x l c,i=.slice x l c):
 Calls prog 163 #[.agg #[.int .i64 b,h,j,i,.int .i64 a]] w fun e k=>e=.returned (.tuple #[.agg #[.int .i64 0,.slice none 0 0,.slice none 0 0,.slice none 0 0,.int .i64 0],.bool false])/\Below w.heap.size w k:=by
 obtain⟨s,q,p,rfl⟩:=d;obtain⟨r,m,v,rfl⟩:=f;obtain⟨n,o,y,rfl⟩:=g;have u:¬(a:Int)=0:=by omega
 go_enter Tryz.func163,Tryz.ntmps163;go_wp2_with fail;refine⟨rfl,.tuple #[.agg #[.int .i64 0,.slice none 0 0,.slice none 0 0,.slice none 0 0,.int .i64 0],.bool false],?_,rfl,((ay_ _ w).alloc (au_ _) _).alloc (by simp) _⟩
 simp[results,Tryz.results163,go_sem]
def ZH(w L:World)(a:Nat)(v z y:Value)(P:Value->World->Prop)(A:Nat->Nat->Nat->Value->Value->World->Prop)(B:Nat->World->Prop)(ht:a<=1000000)(C:∃x l c,v=.slice x l c)(H:∃x l c,z=.slice x l c)(K:∃x l c,y=.slice x l c)
 (hW:(w.alloc (.cells #[.int .i64 a,v,z,y,.int .i64 0] 108)).alloc (.cells #[.int .i64 0,.slice none 0 0,.slice none 0 0,.slice none 0 0,.int .i64 0] 108)=L)
 (HC:Hid (Calls prog 226 #[.agg #[.int .i64 a,v,z,y,.int .i64 0]] L fun e u=>∃r n h g d,e=.returned (.agg #[.int .i64 a,.slice (some ⟨r,0,none⟩) n h,g,d,.int .i64 0])/\(∃x l c,g=.slice x l c)/\(∃x l c,d=.slice x l c)/\A r n h g d u))
 (HG:Hid (∀r n h g d W,A r n h g d W->Calls prog 125 #[.pointer (some ⟨W.heap.size,0,none⟩)] (W.alloc (.cells #[.int .i64 ((a+1:Nat):Int),.slice (some ⟨r,0,none⟩) n h,g,d,.int .i64 0] 108)) fun e u=>e=.returned (.tuple #[])/\B W.heap.size u))
 (HB:Hid (∀b W,B b W->∃(q:Nat) (f t o:Value) (s:Nat),W.heap[b]?=some (.cells #[.int .i64 q,f,t,o,.int .i64 s] 108 (0,0))/\(∃x l c,f=.slice x l c)/\(∃x l c,t=.slice x l c)/\(∃x l c,o=.slice x l c)/\W.heap[w.heap.size+1]?=some (.cells #[.int .i64 0,.slice none 0 0,.slice none 0 0,.slice none 0 0,.int .i64 0] 108 (0,0))/\b≠w.heap.size+1/\
   ∀E,Kept [w.heap.size+1] W E->E.heap.size=W.heap.size->P (.agg #[.int .i64 q,f,t,o,.int .i64 s]) E)):
 Calls prog 163 #[.agg #[.int .i64 a,v,z,y,.int .i64 0]] w fun e u=>∃N,e=.returned (.tuple #[N,.bool true])/\P N u:=by
 obtain⟨x1,l1,c1,rfl⟩:=C;obtain⟨x2,l2,c2,rfl⟩:=H;obtain⟨x3,l3,c3,rfl⟩:=K;have HW:=aB hW;clear hW;go_enter Tryz.func163,Tryz.ntmps163;go_wp2_with fail;rw[HW.out];refine HC.out.mono ?_;rintro e w3 ⟨r,n,h,g,d,rfl,⟨y2,m2,d2,rfl⟩,⟨y3,m3,d3,rfl⟩,h3⟩;have p:=aB (HG.out _ _ _ _ _ _ h3);generalize hb:w3.heap.size=b at p;clear h3;rw[show ((a+1:Nat):Int)=(a:Int)+1 by omega] at p
 go_wp2_with fail;refine p.out.mono ?_;rintro e k ⟨rfl,Q⟩;obtain⟨q,f,t,o,s,m,⟨T,M,U,rfl⟩,⟨S,V,Y,rfl⟩,⟨z3,O,Z,rfl⟩,j,q3,X⟩:=HB.out _ _ Q;have HQ:=aB X;have aa:k.cell? ⟨b,0,none⟩=some (.int .i64 q):=aA m rfl;have ad:k.cell? ⟨b,1,none⟩=some (.slice T M U):=aA m rfl;have ab:k.cell? ⟨b,2,none⟩=some (.slice S V Y):=aA m rfl;have ah:k.cell? ⟨b,3,none⟩=some (.slice z3 O Z):=aA m rfl;have ag:k.cell? ⟨b,4,none⟩=some (.int .i64 s):=aA m rfl;have J:k.cell? ⟨w.heap.size+1,0,none⟩=some (.int .i64 0):=aA j rfl;have I:k.cell? ⟨w.heap.size+1,1,none⟩=some (.slice none 0 0):=aA j rfl;have F:k.cell? ⟨w.heap.size+1,2,none⟩=some (.slice none 0 0):=aA j rfl;have G:k.cell? ⟨w.heap.size+1,3,none⟩=some (.slice none 0 0):=aA j rfl;have D:k.cell? ⟨w.heap.size+1,4,none⟩=some (.int .i64 0):=aA j rfl;have ac:=aE (i:=0) j;have aj:=aE (i:=1) j;have al:=aE (i:=2) j;have ak:=aE (i:=3) j;have af:=aE (i:=4) j;have ae:=aD m;have ai:=aD j;clear Q X m j;go_wp2_with fail;refine⟨rfl,.tuple #[.agg #[.int .i64 q,.slice T M U,.slice S V Y,.slice z3 O Z,.int .i64 s],.bool true],?_,_,rfl,HQ.out _ ?_ (by simp)⟩
 ·simp[results,Tryz.results163,go_sem,J,I,F,G,D]
 ·exact(((((Kept.refl _ _).setCell _ _ (by simp)).setCell _ _ (by simp)).setCell _ _ (by simp)).setCell _ _ (by simp)).setCell _ _ (by simp)
def tU{w:World}{base n k:Nat}{t:TypeId}{v:Value}{a:List Value}(h:w.ownsRow base t k v n a):∃x l c,v=.slice x l c:=by
 obtain⟨x,c,e⟩:=cU h;exact⟨x,n,c,e⟩
def AB.of{w w':World}{own:List Nat}(h:kC w)(d:Below w.heap.size w w')(f:∀k∈own,w.heap.size<=k):AB own w':=fun W i=>by
 cases c:prog.globalNamed "internal/strconv.uint64pow10" with
 |none=>unfold kC Lib.TabIs World.var? at h;rw[c] at h;cases h
 |some g=>
  have a:g<w.heap.size:=by
   unfold kC Lib.TabIs World.var? at h;rw[c] at h;simp only[Option.bind_some] at h;rcases a6_ g w.heap.size with b|b
   ·exact b
   ·rw[bj_ (by exact b)] at h
    cases h
  refine h.keep c ?_;rw[i.block g (az_ a d.size) (fun e=>by have:=f g e;omega),d.block g a]
def kR.form{k:Nat->Value}{F:Nat->Prop}{w:World}{v:Value}{s:bI}(h:kR k F w v s):∃b f d,v=.agg #[.int .i64 s.time,b,f,d,.int .i64 s.stop]/\(∃x l c,b=.slice x l c)/\(∃x l c,f=.slice x l c)/\(∃x l c,d=.slice x l c):=by
 obtain⟨b,f,d,p,rfl,a,n,j,i⟩:=h;refine⟨b,f,d,rfl,?_,?_,?_⟩
 ·rcases a with ⟨_,x,c,e⟩|⟨g,c,m,e,_⟩<;>exact⟨_,_,_,e⟩
 ·rcases j with ⟨_,x,c,e⟩|⟨g,o,c,e,_⟩<;>exact⟨_,_,_,e⟩
 ·rcases i with ⟨_,e⟩|⟨g,c,q,e,_⟩<;>exact⟨_,_,_,e⟩
def RR.run{v:Nat->Value}{F:Nat->Prop}{base:Nat}{w:World}{gf g:Nat}{l a:Value}{c:List FVal}{m:cF}(h:RR v F base w gf g l a c m)(u:∀b,F b->b<base)(f:base<=w.heap.size)(p q:Value):
 cT v F base (w.alloc (.cells #[p,.slice (some ⟨gf,0,none⟩) c.length g,l,a,q] 108)) w.heap.size gf g p l a q c m/\∀k∈aF w.heap.size gf a c,base<=k:=by
 generalize s:w.alloc (.cells #[p,.slice (some ⟨gf,0,none⟩) c.length g,l,a,q] 108)=W;have t:Below w.heap.size w W:=by rw[<-s];exact(ay_ _ w).alloc (au_ _) _
 have x:W.heap.size=w.heap.size+1:=by rw[<-s];simp
 have o:W.heap[w.heap.size]?=some (.cells #[p,.slice (some ⟨gf,0,none⟩) c.length g,l,a,q] 108 (0,0)):=by rw[<-s];exact aM _ _ rfl _
 have n:∀b,F b->W.heap[b]?=w.heap[b]?:=fun b r=>t.block b (az_ (u b r) f)
 have i:∀k∈gf::(a.ownBlock.toList++aT c),W.heap[k]?=w.heap[k]?:=fun k d=>t.block k (h.rng k d).2
 refine⟨⟨o,aY h.row fun k e=>by cases e;exact i gf (by simp),lK h.frs n fun k d=>i k (by simp[d]),h.tape.keep n (fun _ h=>h),aY h.out fun k e=>i k (by simp[e]),?_,fun k d=>?_,fun k d=>?_⟩,fun k d=>?_⟩
 ·exact aK_.2 ⟨fun j=>by have:=(h.rng _ j).2;omega,h.nodup⟩
 ·rcases aG_.1 d with rfl|d
  ·omega
  ·have:=(h.rng k d).2;omega
 ·have y:=u k d;refine⟨by omega,fun j=>?_⟩
  rcases aG_.1 j with rfl|j
  ·omega
  ·have:=(h.rng k j).1;omega
 ·rcases aG_.1 d with rfl|d
  ·exact f
  ·exact(h.rng k d).1
def SP{L:Nat->Value}{F:Nat->Prop}{w:World}{v:Value}{s:bI}{ar:Nat->Option Nat}{D:List dY}{k:Nat}{r:cF × Nat}(ht:iK ar D)(an:jN D)(h:kR L F w v s)(hF:∀b,F b->b<w.heap.size)(hT:lA L F w D)(hp:kC w)(hs:s.stop=0)
 (hA:eS ar s.m) (Y:s.m.frames≠[]) (hU:fM s.m) (ae:s.m.out.length<=50) (ak:s.m.tape.length<=17592186044416) (hk:cJ D k s.m=some r) (ap:s.time+1<=1000000) (hr:r.2<=1000):
 Calls prog 163 #[v] w fun e I=>∃v',e=.returned (.tuple #[v',.bool true])/\Below w.heap.size w I/\∃G,Ext F G w.heap.size/\(∀b,G b->b<I.heap.size)/\kR L G I v' ⟨s.time+1,r.1,bT (s.time+1) r.2⟩:=by
 obtain⟨fv,tv,xo,rfl,f1,f2,f3⟩:=h.form
 have Z:∀f∈s.m.frames,f.vars.length<=90001/\f.ops.length<=99000:=fun f hf=>by
  have hq:∃O,cH ar f O:=by
   obtain⟨b,g,e⟩:=jB Y;rw[e] at hf;have Q:=hA.ok.low;have S:=hA.ok.top;rw[e,dA] at Q;rw[e,dV] at S;rcases aE_.1 hf with m|m
   ·exact⟨1,Q f m⟩
   ·rw[aD_.1 m];exact⟨0,S g rfl⟩
  obtain⟨O,⟨T,M,hh,_⟩,hn,_,hv⟩:=hq;have m:=(M.ins _ _ (aH_ hn)).2.1;have h2:=M.len;exact⟨hv,by omega⟩
 rw[hs] at h ⊢
 generalize J:(w.alloc (.cells #[.int .i64 s.time,fv,tv,xo,.int .i64 (0:Nat)] 108)).alloc (.cells #[.int .i64 0,.slice none 0 0,.slice none 0 0,.slice none 0 0,.int .i64 0] 108)=l;have t:Below w.heap.size w l:=by rw[<-J];exact((ay_ _ w).alloc (au_ _) _).alloc (by simp) _
 have ao:l.heap.size=w.heap.size+2:=by rw[<-J];simp
 have ai:l.heap[w.heap.size+1]?=some (.cells #[.int .i64 0,.slice none 0 0,.slice none 0 0,.slice none 0 0,.int .i64 0] 108 (0,0)):=by
  rw[<-J];exact aM _ _ (by simp) _
 have aa:∀b,F b->b<l.heap.size:=fun b hb=>az_ (hF b hb) t.size
 have h2:kR L F l (.agg #[.int .i64 s.time,fv,tv,xo,.int .i64 (0:Nat)]) s:=by
  have:=h.keep (fun b hb=>t.block b (hF b hb)) (fun _ h=>h)
  exact this
 refine(ZH w l s.time fv tv xo (fun v' I=>Below w.heap.size w I/\∃G,Ext F G w.heap.size/\(∀b,G b->b<I.heap.size)/\kR L G I v' ⟨s.time+1,r.1,bT (s.time+1) r.2⟩)
  (fun z n p q U W=>∃i,n=i.length/\Below l.heap.size l W/\RR L F l.heap.size W z p q U i s.m)
  (fun b W=>∃W0 z p q j i G,(Below l.heap.size l W/\l.heap.size<=b)/\(l.heap.size<=W0/\Ext F G W0)/\cT L G l.heap.size W b z p (.int .i64 ((s.time+1:Nat):Int)) q j (.int .i64 (bT (s.time+1) r.2)) i r.1/\∀k∈aF b z j i,l.heap.size<=k)
  (by omega) f1 f2 f3 J ?_ (fun z n p q U W hq=>?_) (fun b W hq=>?_))
 ·refine(VM h2 aa Y hA.ok.deep Z ae).mono ?_;rintro e I ⟨v',rfl,z,p,q,j,i,rfl,y,M⟩;rw[hs];refine⟨z,i.length,p,q,j,rfl,?_,tU M.out,i,rfl,y,M⟩;rcases M.tape with ⟨_,x,c,e⟩|⟨g,o,c,e,_⟩<;>exact⟨_,_,_,e⟩
 ·obtain⟨i,rfl,y,M⟩:=hq;obtain⟨K,A⟩:=M.run aa y.size (.int .i64 ((s.time+1:Nat):Int)) (.int .i64 0);generalize al:W.alloc (.cells #[.int .i64 ((s.time+1:Nat):Int),.slice (some ⟨z,0,none⟩) i.length p,q,U,.int .i64 0] 108)=V at K;have am:Below W.heap.size W V:=by rw[<-al];exact(ay_ _ W).alloc (au_ _) _
  have d:Below l.heap.size l V:=y.trans (am.mono y.size);have P:Below w.heap.size w V:=t.trans (d.mono t.size);have aj:lA L F V D:=hT.keep (fun b hb=>P.block b (hF b hb)) fun _ h=>h
  refine(PK ht an K aj (AB.of hp P fun k hk=>aF_ t.size (A k hk)) d.size hA hU ae ak hk (by omega) hr).mono ?_
  rintro e I ⟨he,B,G,ab,ac,ag,H,N,d1,d2,d3⟩
  have ad:∀x∈aF W.heap.size ab H N,l.heap.size<=x:=fun x hx=>by
   rcases d3 x hx with m|m
   ·exact A x m
   ·exact aF_ d.size m
  refine⟨he,V.heap.size,ab,ac,ag,H,N,G,⟨⟨B.os.trans d.os,B.tape.trans d.tape,B.output.trans d.output,aF_ d.size B.size,fun k a=>?_⟩,y.size⟩,⟨d.size,d1⟩,d2,ad⟩
  rw[B.block k (az_ a d.size) (fun hm=>by have:=A k hm;omega),d.block k a]
 ·obtain⟨W0,z,p,q,j,i,G,⟨g1,g2⟩,⟨g3,g4⟩,X,g6⟩:=hq;have ah:=X.blk;refine⟨_,_,_,_,_,ah,⟨_,_,_,rfl⟩,?_,tU X.out,by rw[g1.block _ (by omega)];exact ai,by omega,fun V E af=>?_⟩
  ·rcases X.tape with ⟨_,x,c,e⟩|⟨g,o,c,e,_⟩<;>exact⟨_,_,_,e⟩
  ·have u:Below w.heap.size w W:=t.trans (g1.mono t.size);have hS:=X.kept (G:=fun k=>G k\/(k∈aF b z j i/\k≠b)) (fun _ h=>av_ h) (fun k a hn=>as_ ⟨a,hn⟩)
   have C:∀k,(G k\/(k∈aF b z j i/\k≠b))->k≠w.heap.size+1/\k<W.heap.size:=fun k a=>by
    rcases a with m|⟨m,_⟩
    ·refine⟨?_,(X.apart k m).1⟩;rcases g4.new k m with h3|h3
     ·have:=hF k h3;omega
     ·omega
    ·have:=g6 k m;exact⟨by omega,X.lt k m⟩
   refine⟨⟨E.os.trans u.os,E.tape.trans u.tape,E.output.trans u.output,by rw[af];exact u.size,fun k a=>?_⟩,fun k=>G k\/(k∈aF b z j i/\k≠b),⟨fun k a=>av_ (g4.sub k a),fun k a=>?_⟩,fun k a=>by rw[af];exact(C k a).2,hS.keep (fun k a=>E.block k (C k a).2 (by simpa using (C k a).1)) fun _ h=>h⟩
   ·rw[E.block k (az_ a u.size) (by simp;omega),u.block k a]
   ·rcases a with m|⟨m,_⟩
    ·rcases g4.new k m with h3|h3
     ·exact av_ h3
     ·exact as_ (by omega)
    ·exact as_ (by have:=g6 k m;omega)
end Go.Proofs.YtblbkfdhjfppkaaGreatDoor
