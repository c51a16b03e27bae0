/- Contracts of the program: the moment is told: the walks. -/
import Derived.Test.YtddnpoiiimjpcaaGreatDoorB07
import Derived.Test.YtddnpoiiimjpcaaGreatDoorP27
set_option linter.defProp false
set_option maxRecDepth 100000
set_option maxHeartbeats 4000000
namespace Go.Proofs.YtddnpoiiimjpcaaGreatDoor
open Hs
open _root_.Go.Proofs.Tryz
open Instr(typeAssert)
open Go.RowKit
def KI{W:aH}{b:Nat}{s:SV}{T:TypeId}(h:W.heap[b]?=some (.cells s.cells T (0,0))):W.cell? (aL b 0)=some (Iv0 s.t)/\W.cell? (aL b 1)=some (.slice s.x1 s.n1 s.c1)/\W.cell? (aL b 2)=some (.slice s.x2 s.n2 s.c2)/\W.cell? (aL b 3)=some (.slice s.x3 s.n3 s.c3)/\W.cell? (aL b 4)=some (Iv0 s.q):=
 ⟨aA h rfl,aA h rfl,aA h rfl,aA h rfl,aA h rfl⟩
def MV(w:aH)(s:SV)(P A3:SV->World->Prop)(A1:Option Addr->Nat->Nat->World->Prop)(A2:Option Addr->Nat->Nat->Option Addr->Nat->Nat->World->Prop)
 (HS:Hid (∀W,aY ((w.alloc (.cells s.cells 60)).alloc (.cells #[Iv0 0,bV,bV,bV,Iv0 0] 35)) W->Calls prog 51 #[s.val] W fun e F=>∃x n c,e=bE (.slice x n c)/\A1 x n c F))
 (HV:Hid (∀x n c W,A1 x n c W->W.heap[w.heap.size]?=some (.cells s.cells 60 (0,0))/\Calls prog 52 #[s.val] W fun e F=>∃l o g,e=bE (.slice l o g)/\A2 x n c l o g F))
 (HC:Hid (∀x n c l o g W,A2 x n c l o g W->W.heap[w.heap.size]?=some (.cells s.cells 60 (0,0))/\Calls prog 53 #[.slice s.x3 s.n3 s.c3] W fun e F=>∃B C A,e=bE (.slice B C A)/\A3 ⟨s.t,x,l,B,n,o,C,c,g,A,s.q⟩ F))
 (HP:Hid (∀m W,A3 m W->W.heap[w.heap.size]?=some (.cells s.cells 60 (0,0))/\(∃c,W.heap[w.heap.size+1]?=some (.cells c 35 (0,0))/\c.size=5)/\P m (fG W (w.heap.size+1) m))):
 Calls prog 30 #[s.val] w fun e F=>∃m:SV,e=bE m.val/\P m F:=by
 unfold SV.val SV.cells at HS;have z:=HV;unfold SV.val at z;unfold SV.val;go_in
 go_wp2_with fail;have HH:=aB (aY.drew ((w.alloc (.cells #[Iv0 s.t,.slice s.x1 s.n1 s.c1,.slice s.x2 s.n2 s.c2,.slice s.x3 s.n3 s.c3,Iv0 s.q] 60)).alloc (.cells #[Iv0 0,bV,bV,bV,Iv0 0] 35)));have M:((w.alloc (.cells #[Iv0 s.t,.slice s.x1 s.n1 s.c1,.slice s.x2 s.n2 s.c2,.slice s.x3 s.n3 s.c3,Iv0 s.q] 60)).alloc (.cells #[Iv0 0,bV,bV,bV,Iv0 0] 35)).drew.heap[w.heap.size]?=some (.cells (SV.cells s) 60 (0,0)):=(Z3 _ _ _ (by simp)).trans (aU _ _ rfl _)
 have g:=KI M;clear M;refine wp_region_held_drew (S:=fun W=>W.cell? (aL w.heap.size 0)=some (Iv0 s.t)/\W.cell? (aL w.heap.size 1)=some (.slice s.x1 s.n1 s.c1)/\W.cell? (aL w.heap.size 2)=some (.slice s.x2 s.n2 s.c2)/\W.cell? (aL w.heap.size 3)=some (.slice s.x3 s.n3 s.c3)/\W.cell? (aL w.heap.size 4)=some (Iv0 s.q)) (by kernel_rfl) g (fun a=>?_)
 clear g;(refine wpAnyH_take (i:=0) (v:=?_) rfl (by kernel_rfl) (by kernel_rfl) (by kernel_rfl) (fun _ _ _ h=>h) (Y4 ⟨by rfl,?_⟩) a ?_;rotate_left;(rintro w ⟨t,u,r,p,y⟩;go_simp<;>with_reducible rfl))
 (refine wpAnyH_take (i:=1) (v:=?_) rfl (by kernel_rfl) (by kernel_rfl) (by kernel_rfl) (fun _ _ _ h=>h) (Y4 ⟨by rfl,?_⟩) a ?_;rotate_left;(rintro w ⟨t,u,r,p,y⟩;go_simp<;>with_reducible rfl))
 (refine wpAnyH_take (i:=2) (v:=?_) rfl (by kernel_rfl) (by kernel_rfl) (by kernel_rfl) (fun _ _ _ h=>h) (Y4 ⟨by rfl,?_⟩) a ?_;rotate_left;(rintro w ⟨t,u,r,p,y⟩;go_simp<;>with_reducible rfl))
 (refine wpAnyH_take (i:=4) (v:=?_) rfl (by kernel_rfl) (by kernel_rfl) (by kernel_rfl) (fun _ _ _ h=>h) (Y4 ⟨by rfl,?_⟩) a ?_;rotate_left;(rintro w ⟨t,u,r,p,y⟩;go_simp<;>with_reducible rfl))
 (refine wpAnyH_take (i:=6) (v:=?_) rfl (by kernel_rfl) (by kernel_rfl) (by kernel_rfl) (fun _ _ _ h=>h) (Y4 ⟨by rfl,?_⟩) a ?_;rotate_left;(rintro w ⟨t,u,r,p,y⟩;go_simp<;>with_reducible rfl))
 (refine wpAnyH_take (i:=7) (v:=?_) rfl (by kernel_rfl) (by kernel_rfl) (by kernel_rfl) (fun _ _ _ h=>h) (Y4 ⟨by rfl,?_⟩) a ?_;rotate_left;(rintro w ⟨t,u,r,p,y⟩;go_simp<;>with_reducible rfl))
 (refine wpAnyH_take (i:=9) (v:=?_) rfl (by kernel_rfl) (by kernel_rfl) (by kernel_rfl) (fun _ _ _ h=>h) (Y4 ⟨by rfl,?_⟩) a ?_;rotate_left;(rintro w ⟨t,u,r,p,y⟩;go_simp<;>with_reducible rfl))
 (refine wpAnyH_take (i:=10) (v:=?_) rfl (by kernel_rfl) (by kernel_rfl) (by kernel_rfl) (fun _ _ _ h=>h) (Y4 ⟨by rfl,?_⟩) a ?_;rotate_left;(rintro w ⟨t,u,r,p,y⟩;go_simp<;>with_reducible rfl))
 refine wpAnyH_ready (rs:=[3]) (by kernel_rfl) (by simp) ?_
 refine AllReadyH.cons rfl (fun K k=>?_) AllReadyH.nil
 go_simp;go_at_call 51
 refine(HS _ HH).mono ?_;rintro e w3 ⟨x1,Z,Y,rfl,h3⟩;obtain⟨N,Q⟩:=z.out _ _ _ _ h3;have G:=aB Q;have V:=KI N;clear h3 N Q HS HV z HH;go_wp2_with fail;refine k.out _ _ V (fun a=>?_)
 clear k K V;refine wpAnyH_ready (rs:=[5]) (by kernel_rfl) (by simp) ?_
 refine AllReadyH.cons rfl (fun K k=>?_) AllReadyH.nil
 go_simp;go_at_call 52
 refine G.mono ?_;rintro e w4 ⟨l,o,g,rfl,h4⟩;obtain⟨X,L⟩:=HC _ _ _ _ _ _ _ h4;have J:=aB L;have I:=KI X;clear h4 X L HC G;go_wp2_with fail;refine k.out _ _ I (fun a=>?_)
 clear k K I;refine wpAnyH_ready (rs:=[8]) (by kernel_rfl) (by simp) ?_
 refine AllReadyH.cons rfl (fun K k=>?_) AllReadyH.nil
 go_simp;go_at_call 53
 refine J.mono ?_;rintro e w5 ⟨B,C,A,rfl,h5⟩;obtain⟨U,⟨c,H,ab⟩,T⟩:=HP _ _ h5;have d:=KI U;have E:=aB T;have b:=aB H;clear h5 U T HP J;go_wp2_with fail;refine k.out _ _ d (fun a=>?_)
 clear k K;(refine wpAnyH_take (i:=11) (v:=?_) rfl (by kernel_rfl) (by kernel_rfl) (by kernel_rfl) (fun _ _ _ h=>h) (Y4 ⟨by rfl,?_⟩) a ?_;rotate_left;(rintro w ⟨t,u,r,p,y⟩;go_simp<;>with_reducible rfl))
 refine wpAnyH_ready (rs:=[12]) (by kernel_rfl) (by simp) ?_
 refine AllReadyH.cons rfl (fun K k=>?_) AllReadyH.nil
 have g0:=aA (i:=0) b (Z0 (by omega))
 have g1:=aA (i:=1) b (Z0 (by omega))
 have g2:=aA (i:=2) b (Z0 (by omega))
 have g3:=aA (i:=3) b (Z0 (by omega))
 have g4:=aA (i:=4) b (Z0 (by omega))
 have f0:=aE (i:=0) b;have f1:=aE (i:=1) b;have f2:=aE (i:=2) b;have f3:=aE (i:=3) b;have f4:=aE (i:=4) b;have l5:=aD b;have hs:=oF (W:=w5) (s:=⟨s.t,x1,l,B,Z,o,C,Y,g,A,s.q⟩) b (by omega) rfl
 have O:∀i,(fG w5 (w.heap.size+1) ⟨s.t,x1,l,B,Z,o,C,Y,g,A,s.q⟩).cell? (aL w.heap.size i)=w5.cell? ⟨w.heap.size,i,none⟩:=fun i=>World.cell?_of_block (eC _ _ _ _ (show w.heap.size≠w.heap.size+1 by omega))
 have D:=aB hs;have f:=aB O;clear H hs O;unfold fG at D E f;go_simp;refine k.out _ _ ⟨(f 0).trans d.1,(f 1).trans d.2.1,(f 2).trans d.2.2.1,(f 3).trans d.2.2.2.1,(f 4).trans d.2.2.2.2⟩ (fun a=>?_)
 refine wpAnyH_done (by kernel_rfl) ?_ _
 have q:=D;have j:=E;clear D E b f g0 g1 g2 g3 g4 f0 f1 f2 f3 f4 a k d;generalize ((((w5.setCell (aL (w.heap.size+1) 0) (Iv0 s.t)).setCell (aL (w.heap.size+1) 1) (.slice x1 Z Y)).setCell (aL (w.heap.size+1) 2) (.slice l o g)).setCell (aL (w.heap.size+1) 3) (.slice B C A)).setCell (aL (w.heap.size+1) 4) (Iv0 s.q)=W6 at q j ⊢
 obtain⟨r0,r1,r2,r3,r4⟩:=q;have aa:=aB j;clear j;go_wp2
 exact bodyPost_ret (v:=.agg #[Iv0 s.t,.slice x1 Z Y,.slice l o g,.slice B C A,Iv0 s.q]) (by simp[results,results30,go_sem,r0,r1,r2,r3,r4]) rfl ⟨_,rfl,aa⟩
def OW:∀(n:Nat) (l:cE),l.length<=n->∀c∈dZ l,c.length<=l.length:=by
 intro n;induction n with
 |zero=>
  intro l f c a;rw[dW (Y4 (s6.1 (by omega)))] at a
  cases a
 |succ n e=>
  intro l f c a;by_cases d:l=[]
  ·rw[dW (Y4 d)] at a;cases a
  by_cases b:bG l=0
  ·rw[dW (Y3 b)] at a;cases a
  rw[iD d b] at a;rcases Z6.1 a with rfl|a
  ·rw[o9];omega
  ·have:=e _ (by rw[o7];omega) c a
   rw[o7] at this;omega
def NH(a b:aI)(h:aK a<=200):aK (dE a b).1<=200:=by
 unfold dE;split
 ·exact jF
 split
 ·exact jF
 have e:∀x∈jH a,aK x<=200:=fun x d=>by
  unfold jH at d;rw[eZ] at h;split at d
  ·obtain⟨c,g,rfl⟩:=ac_.1 d;have:=OW _ _ dH c g;rw[kP];omega
  ·have:=lN d;omega
 show aK ((jH a).getD b.n.toNat bN)<=200
 rw[List.getD_eq_getElem?_getD];cases f:(jH a)[b.n.toNat]? with
 |none=>exact jF
 |some x=>exact e x (p8 f)
def JG(a:aI):aK (eG a).1<=200:=by
 unfold eG;repeat' split
 all_goals first|(show aK (bD _)<=200;rw[kD];omega)|exact jF
section
variable {sh:Bool} {fp:fN} {F:cC} {base:Nat} {w:aH} {sb gf cap:Nat} {t0 tv outv s0:aQ} {fvs:List FVal} {below:List aJ} {f:aJ} {tape:List Int} {out:cO}
def E9(h:cW sh fp F base w sb gf cap t0 tv outv s0 fvs ⟨below++[f],tape,out⟩)(A:below.length<=15)(j:base<=w.heap.size)(n:f.ops.length<=99000)(I:∃H a b,f.ops=H++[a,b]/\bQ a):
 Calls prog 265 #[.agg #[],bO sb] w (iH sh fp F base sb gf t0 s0 (aP sh sb gf outv fvs) w below tape out (aO .index f)):=by
 obtain⟨H,a,b,m,K⟩:=I;have m:f.ops=(H++[a])++[b]:=by rw[m];simp
 have O:=h.mid j (.cells #[] 288);have i:f.pop.ops=H++[a]:=mB m;have x:=n;rw[m,Y5,Y5] at x;have N:f.pop.ops.length<=100000:=by rw[i,Y5];omega
 have L:f.pop.pop.ops.length<=100000:=by rw[mB i];omega
 have Q:aO .index f=if (dE a b).2=0 then (f.pop.pop.push (dE a b).1,0) else (f.pop.pop,(dE a b).2):=by simp[aO,iX m,iX i]
 have C:aK a<=200->aK (dE a b).1<=200:=NH a b;have q:∀(W:aH) (u v:aQ),PV F W u a->PV F W v b->(∀k,F k->k<W.heap.size)->aK a<=200->aK b<=200->Calls prog 266 #[u,v] W (eT F W (dE a b)):=fun W u v c d l p s=>L5 F u v a b W c d K (by omega) l
 generalize dE a b=r at q Q C;rw[Q]
 refine(JL w _ sb gf (below.length*6) r.2 (fun g=>r.2=0/\iA sh fp F base sb gf t0 s0 (aP sh sb gf outv fvs) w ⟨below++[f.pop.pop.push r.1],tape,out⟩ g) (fun g=>r.2≠0/\iA sh fp F base sb gf t0 s0 (aP sh sb gf outv fvs) w ⟨below++[f.pop.pop],tape,out⟩ g)
  (fun t z W=>PV F W (.iface t z) b/\aK b<=200/\dT sh fp base sb gf below.length t0 s0 (aP sh sb gf outv fvs) (w.alloc (.cells #[] 288)) F ⟨below++[f.pop],tape,out⟩ W)
  (fun t z D E W=>PV F W (.iface t z) b/\aK b<=200/\PV F W (.iface D E) a/\aK a<=200/\dT sh fp base sb gf below.length t0 s0 (aP sh sb gf outv fvs) (w.alloc (.cells #[] 288)) F ⟨below++[f.pop.pop],tape,out⟩ W)
  (fun t z W=>(r.2=0/\aK r.1<=200)/\∃G,Ext F G w.heap.size/\PV G W (.iface t z) r.1/\dT sh fp base sb gf below.length t0 s0 (aP sh sb gf outv fvs) (w.alloc (.cells #[] 288)) G ⟨below++[f.pop.pop],tape,out⟩ W) rfl (O.topS A) (fun W hS=>?_) (fun W t z o=>?_) (fun W t z D E o=>?_) (fun W t z o=>?_)).mono ?_
 ·refine((O.same hS).pop m (by omega)).mono ?_
  rintro e g ⟨t,z,B,c,d,l⟩;exact⟨t,z,B,c,d,l⟩
 ·obtain⟨c,d,l⟩:=o;refine(l.popK i N).mono ?_;rintro e g ⟨D,E,B,T,Z,U,k4⟩;exact⟨D,E,B,c.keep k4,d,T,Z,U⟩
 ·obtain⟨c,d,l,p,s⟩:=o;refine(q W _ _ l c (fun k J=>(s.apart k J).1) p d).mono ?_
  rintro e g ⟨P,⟨y,u,rfl,S⟩|⟨y,rfl⟩⟩
  ·obtain⟨X,V,rfl⟩:=S.form;exact Y4 ⟨X,V,rfl,⟨y,C p⟩,Grow F W g,⟨fun _=>Y4,fun k J=>J.imp_right fun c=>Z4 (Z4 (by simp) s.1.size) c.1⟩,S,s.grow P (fun _=>Y4) eD⟩
  ·exact Y3 ⟨rfl,y,(s.grow P eD fun _=>Y4).doneX (Ext.refl _ _)⟩
 ·obtain⟨⟨y,M⟩,G,Y,c,d⟩:=o;refine(d.push c M L).mono ?_;rintro e g ⟨B,p⟩;exact⟨B,y,p.doneX Y⟩
 ·rintro e g (⟨rfl,c,d⟩|⟨rfl,c,d⟩)
  ·exact iH.ok (if_pos c) d
  ·exact iH.stop (if_neg c) c d
def XM(h:cW sh fp F base w sb gf cap t0 tv outv s0 fvs ⟨below++[f],tape,out⟩)(m:below.length<=15)(g:base<=w.heap.size)(i:f.ops.length<=99000)(p:∃B a,f.ops=B++[a]/\bQ a):
 Calls prog 283 #[.agg #[],bO sb] w (iH sh fp F base sb gf t0 s0 (aP sh sb gf outv fvs) w below tape out (aO .length f)):=by
 obtain⟨B,a,o,q⟩:=p;have y:=h.mid g (.cells #[] 317);have K:f.pop.ops.length<=100000:=by rw[mB o];rw[o,Y5] at i;omega
 have D:aO .length f=if (eG a).2=0 then (f.pop.push (eG a).1,0) else (f.pop,(eG a).2):=by simp[aO,iX o]
 have n:=JG a;have j:∀(W:aH) (u:aQ),PV F W u a->aK a<=200->Calls prog 284 #[u] W (eT F W (eG a)):=fun W u b C=>B6 F u a W b q (by omega)
 generalize eG a=r at j D n;rw[D]
 refine(EA w _ sb gf (below.length*6) r.2 (fun d=>r.2=0/\iA sh fp F base sb gf t0 s0 (aP sh sb gf outv fvs) w ⟨below++[f.pop.push r.1],tape,out⟩ d) (fun d=>r.2≠0/\iA sh fp F base sb gf t0 s0 (aP sh sb gf outv fvs) w ⟨below++[f.pop],tape,out⟩ d)
  (fun t z W=>PV F W (.iface t z) a/\aK a<=200/\dT sh fp base sb gf below.length t0 s0 (aP sh sb gf outv fvs) (w.alloc (.cells #[] 317)) F ⟨below++[f.pop],tape,out⟩ W)
  (fun t z W=>r.2=0/\∃G,Ext F G w.heap.size/\PV G W (.iface t z) r.1/\dT sh fp base sb gf below.length t0 s0 (aP sh sb gf outv fvs) (w.alloc (.cells #[] 317)) G ⟨below++[f.pop],tape,out⟩ W) rfl (y.topS m) (fun W N=>?_) (fun W t z s=>?_) (fun W t z s=>?_)).mono ?_
 ·refine((y.same N).pop o (by omega)).mono ?_
  rintro e d ⟨t,z,x,b,c,L⟩;exact⟨t,z,x,b,c,L⟩
 ·obtain⟨b,c,v⟩:=s;refine(j W _ b c).mono ?_;rintro e d ⟨A,⟨l,u,rfl,E⟩|⟨l,rfl⟩⟩
  ·obtain⟨J,I,rfl⟩:=E.form;exact Y4 ⟨J,I,rfl,l,Grow F W d,⟨fun _=>Y4,fun k H=>H.imp_right fun b=>Z4 (Z4 (by simp) v.1.size) b.1⟩,E,v.grow A (fun _=>Y4) eD⟩
  ·exact Y3 ⟨rfl,l,(v.grow A eD fun _=>Y4).doneX (Ext.refl _ _)⟩
 ·obtain⟨l,G,M,b,c⟩:=s;refine(c.push b n K).mono ?_;rintro e d ⟨x,C⟩;exact⟨x,l,C.doneX M⟩
 ·rintro e d (⟨rfl,b,c⟩|⟨rfl,b,c⟩)
  ·exact iH.ok (if_pos b) c
  ·exact iH.stop (if_neg b) b c
end
def Disp(t:TypeId)(f:Nat):Prop:=(∀recv w,(Go.method 499 t recv "hindsight/machine.do").run prog w=.ok (f,recv) w)/\∀a b w,(callFunc f #[a,b]).run prog w=.ok (.enter f #[a,b]) w
def fB(t:TypeId):Prop:=∀v w,(typeAssert (.iface t v) 238 260 true).run prog w=.ok (.tuple #[.agg #[Iv0 0,.pointer none],.bool false]) w
def E4(v:aQ)(w:aH):(typeAssert (.iface 260 v) 238 260 true).run prog w=.ok (.tuple #[v,.bool true]) w:=by kernel_rfl
def SY:Disp 260 258:=⟨fun _ _=>by kernel_rfl,fun _ _ _=>by kernel_rfl⟩
def YG:Disp 256 255:=⟨fun _ _=>by kernel_rfl,fun _ _ _=>by kernel_rfl⟩
def YH:Disp 285 259:=⟨fun _ _=>by kernel_rfl,fun _ _ _=>by kernel_rfl⟩
def KB:Disp 330 288:=⟨fun _ _=>by kernel_rfl,fun _ _ _=>by kernel_rfl⟩
def OM:Disp 332 289:=⟨fun _ _=>by kernel_rfl,fun _ _ _=>by kernel_rfl⟩
def YJ:Disp 345 297:=⟨fun _ _=>by kernel_rfl,fun _ _ _=>by kernel_rfl⟩
def OJ:Disp 344 296:=⟨fun _ _=>by kernel_rfl,fun _ _ _=>by kernel_rfl⟩
def EL:Disp 316 282:=⟨fun _ _=>by kernel_rfl,fun _ _ _=>by kernel_rfl⟩
def SW:Disp 314 281:=⟨fun _ _=>by kernel_rfl,fun _ _ _=>by kernel_rfl⟩
def SU:Disp 290 268:=⟨fun _ _=>by kernel_rfl,fun _ _ _=>by kernel_rfl⟩
def OL:Disp 313 272:=⟨fun _ _=>by kernel_rfl,fun _ _ _=>by kernel_rfl⟩
def SX:Disp 288 265:=⟨fun _ _=>by kernel_rfl,fun _ _ _=>by kernel_rfl⟩
def YI:Disp 287 260:=⟨fun _ _=>by kernel_rfl,fun _ _ _=>by kernel_rfl⟩
def OK:Disp 317 283:=⟨fun _ _=>by kernel_rfl,fun _ _ _=>by kernel_rfl⟩
def YF:Disp 318 286:=⟨fun _ _=>by kernel_rfl,fun _ _ _=>by kernel_rfl⟩
def YM:Disp 320 287:=⟨fun _ _=>by kernel_rfl,fun _ _ _=>by kernel_rfl⟩
def YK:Disp 258 257:=⟨fun _ _=>by kernel_rfl,fun _ _ _=>by kernel_rfl⟩
def YL:Disp 336 295:=⟨fun _ _=>by kernel_rfl,fun _ _ _=>by kernel_rfl⟩
def EM:Disp 335 293:=⟨fun _ _=>by kernel_rfl,fun _ _ _=>by kernel_rfl⟩
def M0:fB 256:=fun _ _=>by kernel_rfl
def M1:fB 285:=fun _ _=>by kernel_rfl
def RK:fB 330:=fun _ _=>by kernel_rfl
def XA:fB 332:=fun _ _=>by kernel_rfl
def M3:fB 345:=fun _ _=>by kernel_rfl
def WX:fB 344:=fun _ _=>by kernel_rfl
def MT:fB 316:=fun _ _=>by kernel_rfl
def D4:fB 314:=fun _ _=>by kernel_rfl
def D3:fB 290:=fun _ _=>by kernel_rfl
def WZ:fB 313:=fun _ _=>by kernel_rfl
def D5:fB 288:=fun _ _=>by kernel_rfl
def M2:fB 287:=fun _ _=>by kernel_rfl
def WY:fB 317:=fun _ _=>by kernel_rfl
def L9:fB 318:=fun _ _=>by kernel_rfl
def M6:fB 320:=fun _ _=>by kernel_rfl
def M4:fB 258:=fun _ _=>by kernel_rfl
def M5:fB 336:=fun _ _=>by kernel_rfl
def MU:fB 335:=fun _ _=>by kernel_rfl
def S6(t:TypeId)(z:aQ)(b:Bool):Prop:=(t=260/\(∃l p,z=.agg #[Iv0 l,.pointer p])/\b=true)\/(fB t/\b=false)
def ZU(w:aH)(sb:Nat)(L:Nat->World->Prop)(P:World->Prop)(S:Nat->World->Prop)(M:Nat->Nat->Nat->World->Prop)(N:Nat->TypeId->Value->Nat->Bool->World->Prop)(I:Nat)(i:L I w)
 (Z:Hid (∀k W,L k W->∃x n c,W.cell? (aL sb 1)=some (.slice x n c)/\sb<W.heap.size/\n<=16/\(n=0->S 1 W)/\(n≠0->∃j,k=j+1/\∃f g,M j f g W)))
 (U:Hid (∀j f g W,M j f g W->Calls prog 82 #[bO sb] W fun e d=>e=bE (.pointer (some (aL f g)))/\M j f g d))
 (X:Hid (∀j f g W,M j f g W->Calls prog 132 #[.pointer (some (aL f g))] W fun e d=>∃t z a b,e=bE (.iface t z)/\Disp t a/\S6 t z b/\N j t z a b d))
 (Y:Hid (∀j t z a b W,N j t z a b W->Calls prog a #[z,bO sb] W fun e d=>(e=bE (.tuple #[])/\(b=true->∀A,P (d.alloc A))/\(b=false->∀A,L j (d.alloc A)))\/(∃q,e=fP q/\S q d))):
 Calls prog 111 #[bO sb] w fun e d=>(e=bE (.tuple #[])/\P d)\/(∃q,e=fP q/\S q d):=by
 have T:=aB i;clear i;go_in
 go_wp2_with fail;go_loopg [2,3,4] I (fun gk _ _ _ wr=>L gk wr)
 case atStart=>exact T
 case round=>
  obtain⟨x,n,c,c1,hl,hn,B,D⟩:=Z _ _ hrel;by_cases i:n=0
  ·subst i;have HZ:=aB (B rfl);clear hrel B D;go_wp2_with fail;exact⟨rfl,Y3 ⟨1,rfl,HZ⟩⟩
  ·obtain⟨j,rfl,f,g,O⟩:=D i;have C:=aB (U _ _ _ _ O);have K:(0:Int)<(n:Int):=by omega
   clear hrel B D O;go_wp2_with fail;refine C.mono ?_;rintro e w1 ⟨rfl,J⟩;have E:=aB (X _ _ _ _ J);clear J;go_wp2_with fail;refine E.mono ?_;rintro e Q ⟨t,z,a,b,rfl,s,V,G⟩;have F:=aB (Y _ _ _ _ _ _ G);have m:=s.1 z Q;have h:=s.2 z (bO sb) Q;clear G s;go_wp2_with fail;refine F.mono ?_;rintro e H (⟨rfl,o,u⟩|⟨q,rfl,o⟩)
   ·rcases V with ⟨rfl,⟨l,p,rfl⟩,rfl⟩|⟨r,rfl⟩
    ·have v:=E4 (.agg #[Iv0 l,.pointer p]) H;have y:=aB (o rfl);clear o u m h;go_wp2_with fail;exact⟨rfl,_,results_none (by rfl) _ _ _,Y4 ⟨rfl,y _⟩⟩
    ·have v:=r z H;have y:=aB (u rfl);clear o u m h r;go_wp2
     go_roundg j
     case measure=>omega
     case rel=>exact y _
   ·go_wp2_with fail;exact⟨rfl,Y3 ⟨q,rfl,o⟩⟩
def nL{d:Type}{l:List d}(h:1<=l.length):∃c a,l=c++[a]:=by
 rcases y8 l with e|⟨b,x,e⟩
 ·subst e;simp at h
 ·exact⟨b,x,by rw[e,y9]⟩
def IL{c:Type}{l:List c}{n:Nat}(h:n<=l.length):∃b a,l=b++a/\a.length=n:=
 ⟨l.take (l.length-n),l.drop (l.length-n),(l8 _ _).symm,by simp;omega⟩
def A7{f:Type}{l:List f}(h:2<=l.length):∃c a b,l=c++[a,b]:=by
 obtain⟨c,d,e,g⟩:=IL h;match d,g with
 |[a,b],_=>exact⟨c,a,b,e⟩
section
variable {fp:fN} {F:cC} {base:Nat} {w:aH} {sb gf cap:Nat} {t0 tv outv s0:aQ} {fvs:List FVal} {below:List aJ} {f0 f:aJ} {tape:List Int} {out:cO}
def T7{x:Bool}{i:aG}{v:aQ}(E:U9 i f)(h:cW x fp F base w sb gf cap t0 tv outv s0 fvs ⟨below++[f],tape,out⟩)(d:below.length<=15)(c:base<=w.heap.size)(m:lC fp F w v i):
 ∃t z o,v=.iface t z/\Disp t o/\fB t/\Calls prog o #[z,bO sb] w (iH x fp F base sb gf t0 s0 (aP x sb gf outv fvs) w below tape out (aO i f)):=by
 obtain⟨I,g,y,s,K,D,T,p,⟨-, -,j⟩,L,M⟩:=E;cases i<;>first|(cases I;done)|skip
 case push a=>
  obtain⟨u,rfl,C,B⟩:=m;refine⟨_,_,_,rfl,YG,M0,(QU fp F base w sb gf cap t0 tv outv s0 fvs below _ tape out u a h C B (by omega) d c).mono ?_⟩
  rintro e J ⟨rfl,A⟩;exact iH.ok rfl A
 case load k=>
  obtain rfl:=m;exact⟨_,_,_,rfl,YH,M1,M7 k h d c g (by have:=j.1;omega)⟩
 case shortcut wh q=>
  obtain rfl:=m;exact⟨_,_,_,rfl,EL,MT,LS wh q h d c g (nL (by have:=j.1;omega))⟩
 case truth=>
  obtain rfl:=m;exact⟨_,_,_,rfl,SW,D4,ZR h d c g (nL (by have:=j.1;omega))⟩
 case unary op=>
  obtain rfl:=m;exact⟨_,_,_,rfl,SU,D3,ZN op (y.fn.2 op s) h d c g (nL (by have:=j.1;omega))⟩
 case binary op=>
  obtain rfl:=m;exact⟨_,_,_,rfl,OL,WZ,ZB op h d c g (A7 (by have:=j.1;omega))⟩
 case index=>
  obtain rfl:=m;obtain⟨r,a,b,e⟩:=A7 (l:=f.ops) (by have:=j.1;omega)
  exact⟨_,_,_,rfl,SX,D5,E9 h d c g ⟨r,a,b,e,y.ops a (by rw[e];simp)⟩⟩
 case list n=>
  obtain rfl:=m;obtain⟨r,G,H,rfl⟩:=IL (l:=f.ops) (n:=n) (by have:=j.1;omega)
  exact⟨_,_,_,rfl,YI,M2,M8 r G h d c g H⟩
 case length=>
  obtain rfl:=m;obtain⟨r,a,e⟩:=nL (l:=f.ops) (by have:=j.1;omega)
  exact⟨_,_,_,rfl,OK,WY,XM h d c g ⟨r,a,e,y.ops a (by rw[e];simp)⟩⟩
def T8{ar:Nat->Option Nat}{r:List eV}{i:aG}{v:aQ}(ht:jX ar r)(O:fQ ar ⟨below++[f0],tape,out⟩)(y:f0.fetch=some (i,f))(hU:fZ ⟨below++[f0],tape,out⟩)
 (h:cW false fp F base w sb gf cap t0 tv outv s0 fvs ⟨below++[f],tape,out⟩) (hT:lA fp F w r) (hp:yX (aP false sb gf outv fvs) w) (c:base<=w.heap.size) (M:out.length<=50) (N:tape.length<=17592186044416) (A:lC fp F w v i):
 ∃t z B b,v=.iface t z/\Disp t B/\S6 t z b/\b=i.isBegin/\Calls prog B #[z,bO sb] w (V0 fp F base sb t0 s0 (aP false sb gf outv fvs) w (cJ r i below f tape out)):=by
 have C:∀x∈below,cL ar x 1:=by have:=O.ok.low;simpa only[gE] using this
 have K:cL ar f0 0:=O.ok.top f0 (fJ _ _);have d:below.length<=15:=by have:=O.ok.deep;simp at this;omega
 have U:dL f0:=hU f0 (by simp)
 obtain⟨⟨T,hc,hh,hv,he⟩,aa,hs,hm⟩:=K
 obtain⟨rfl,Z⟩:f={ f0 with next:=f0.next+1 }/\f0.fn.code[f0.next]?=some i:=by
  unfold aJ.fetch at y;cases hx:f0.fn.code[f0.next]? with
  |none=>rw[hx] at y;cases y
  |some j=>rw[hx] at y;simp at y;exact⟨y.2.symm,by rw[y.1]⟩
 obtain⟨I,V,o⟩:=hc.ins _ _ Z;have ab:=hc.len;have m:f0.ops.length<=99000:=by omega
 have S:∀g∈below,g.ops.length<=99000:=fun g hg=>by
  obtain⟨⟨T',G,ac,_⟩,Q,_⟩:=C g hg;have h1:=(G.ins _ _ (Z8 Q)).2.1;have h2:=G.len;omega
 have E:i∈f0.fn.code:=p8 Z;by_cases u:i.isEx=true
 ·obtain⟨t,z,B,J,P,X,e4⟩:=T7 (f:={ f0 with next:=f0.next+1 }) ⟨u,m,U.next _,E,ar,_,T,_,⟨I,V,o⟩,hh,hv⟩ h d c A
  refine⟨t,z,B,false,J,P,Y3 ⟨X,rfl⟩,(by cases i<;>first|rfl|(cases u;done)),e4.mono fun _ _ h=>?_⟩
  rw[wD (by rintro rfl;cases u) (by rintro rfl;cases u) (by rintro rfl;cases u) (by rintro k n rfl;cases u)]
  exact h.toP
 clear I;cases i<;>first|(exact absurd rfl u;done)|skip
 case begin l s=>
  obtain⟨sp,rfl,H⟩:=A;obtain⟨p,rfl⟩:=H.form;exact⟨_,_,_,true,rfl,SY,Y4 ⟨rfl,⟨_,_,rfl⟩,rfl⟩,rfl,(H9 l _ s h d c H).mono fun _ _ h=>h.toP⟩
 case declare k=>
  obtain rfl:=A;exact⟨_,_,_,false,rfl,KB,Y3 ⟨RK,rfl⟩,rfl,SZ k h d c m (nL (by have:=o.1;show 1<=f0.ops.length;omega)) (by have:=o.2.1;show k<=f0.vars.length;omega) hm⟩
 case assign k n=>
  obtain rfl:=A;obtain⟨L,W,J,P⟩:=IL (l:=f0.ops) (n:=n+1) (by have:=o.1;omega)
  obtain⟨D,b,rfl⟩:=nL (l:=W) (by omega)
  have X:D.length=n:=by simpa using P
  subst X;exact⟨_,_,_,false,rfl,OM,Y3 ⟨XA,rfl⟩,rfl,ZC k L D b h d c m (by show f0.ops=_;rw[J];simp) (by have:=o.2.1;show k<f0.vars.length;omega)⟩
 case jump q=>
  obtain rfl:=A;exact⟨_,_,_,false,rfl,YJ,Y3 ⟨M3,rfl⟩,rfl,(N0 q h d c).mono fun _ _ h=>h.toP⟩
 case skip q=>
  obtain rfl:=A;exact⟨_,_,_,false,rfl,OJ,Y3 ⟨WX,rfl⟩,rfl,(UX q h d c m (nL (by have:=o.1;show 1<=f0.ops.length;omega))).mono fun _ _ h=>h.toP⟩
 case read=>
  obtain rfl:=A;exact⟨_,_,_,false,rfl,YF,Y3 ⟨L9,rfl⟩,rfl,L3 r h d c m N⟩
 case call k n=>
  obtain rfl:=A;obtain⟨L,W,J,rfl⟩:=IL (l:=f0.ops) (n:=n) (by have:=o.1;omega)
  obtain⟨fn,_,Y,_⟩:=ht.fn k _ o.2.1;exact⟨_,_,_,false,rfl,YM,Y3 ⟨M6,rfl⟩,rfl,P7 r k fn L W h d c m J hT Y⟩
 case give=>
  obtain rfl:=A;exact⟨_,_,_,false,rfl,YK,Y3 ⟨M4,rfl⟩,rfl,N7 r h d c m (nL (by have:=o;show 1<=f0.ops.length;omega)) S⟩
 case drop=>
  obtain rfl:=A;exact⟨_,_,_,false,rfl,YL,Y3 ⟨M5,rfl⟩,rfl,(O7 h d c m (nL (by have:=o.1;show 1<=f0.ops.length;omega))).mono fun _ _ h=>h.toP⟩
 case print=>
  obtain rfl:=A;obtain⟨L,a,e⟩:=nL (l:=f0.ops) (by have:=o.1;omega)
  exact⟨_,_,_,false,rfl,EM,Y3 ⟨MU,rfl⟩,rfl,B5 r h hp d c m e M⟩
end
def ZV{b:List eV}{j:Nat}{a:List aJ}{e f:aJ}{t:List Int}{o:cO}{i:aG}{r:cT × Nat}(h:dY b (j+1) ⟨a++[e],t,o⟩=some r)(g:e.fetch=some (i,f)):
 ((cJ b i a f t o).2≠0->r=cJ b i a f t o)/\((cJ b i a f t o).2=0->i.isBegin=true->r=cJ b i a f t o)/\((cJ b i a f t o).2=0->i.isBegin=false->dY b j (cJ b i a f t o).1=some r):=by
 rw[dY] at h;simp only[fJ,g,gE] at h;refine⟨fun c=>?_,fun c d=>?_,fun c d=>?_⟩
 ·rw[if_pos c] at h;cases h;rfl
 ·rw[if_neg (by rw[c];simp),if_pos d] at h;cases h;rfl
 ·rw[if_neg (by rw[c];simp),d] at h;exact h
def UM{b:List eV}{i:aG}{a:List aJ}{f:aJ}{t:List Int}{o:cO}(c:o.length<=50):(cJ b i a f t o).1.out.length<=50:=by
 cases i<;>simp only[cJ]<;>(repeat' split)<;>first|exact c|(simp;omega)
def OI{b:List eV}{i:aG}{a:List aJ}{f:aJ}{t:List Int}{o:cO}:(cJ b i a f t o).1.tape.length<=t.length:=by
 cases i<;>simp only[cJ]<;>(repeat' split)<;>first|exact Z7 _|simp
section
variable {fp:fN} {F:cC} {base:Nat} {w:aH} {sb gf cap:Nat} {t0 tv outv s0:aQ} {fvs:List FVal} {below:List aJ} {f0 f:aJ} {tape:List Int} {out:cO}
def cW.fetched{d:Bool}{i:aG}(h:cW d fp F base w sb gf cap t0 tv outv s0 fvs ⟨below++[f0],tape,out⟩)(g:f0.fetch=some (i,f))(L:f0.fn.code.length<=1000000):
 Calls prog 132 #[.pointer (some (aL gf (below.length*6)))] w fun e o=>∃v c,e=bE v/\lC fp F o v i/\cW d fp F base o sb gf cap t0 tv outv s0 c ⟨below++[f],tape,out⟩/\Kept (aP d sb gf outv fvs) w o/\aP d sb gf outv c=aP d sb gf outv fvs:=by
 obtain⟨N,v,s,rfl,t,y,G,l,D,C,B,Z,W,k4,X⟩:=h.top;rw[<-t]
 obtain⟨O,rfl⟩:f0.fn.code[f0.next]?=some i/\f={ f0 with next:=f0.next+1 }:=by
  unfold aJ.fetch at g;cases E:f0.fn.code[f0.next]? with
  |none=>rw[E] at g;cases g
  |some j=>rw[E] at g;simp at g;exact⟨by rw[g.1],g.2.symm⟩
 obtain⟨m,z⟩:=j4.1 O;obtain⟨p,M,U,T,P,Y,Q,e4,H,J⟩:=y.fn;obtain⟨u,u1,u2⟩:=J f0.next m
 rw[z] at u2;rw[P] at C;rw[y.nx] at B;refine(XY gf (N.length*6) p M f0.fn.code.length U f0.next s _ u w l C B Q (aA H u1) u2.form m L).mono ?_
 rintro e o ⟨S,q,rfl⟩;have n:=aY.drewN w q;have A:=h.grow n.below eD (fun _ h=>Y4 h)
 have a:KQ d fp F base (w.drewN q) v f0:=y.keep (fun b _=>by rw[n.heap]) eD fun k _=>by rw[n.heap]
 have r:KQ d fp F base (w.drewN q) { v with nx:=Iv0 ((f0.next+1:Nat):Int) } { f0 with next:=f0.next+1 }:=⟨a.fn,rfl,a.ln,a.sp,a.vars,a.ops⟩
 obtain⟨K,V⟩:=A.setTop (j:=1) (x:=Iv0 ((f0.next+1:Nat):Int)) (v':={ v with nx:=Iv0 ((f0.next+1:Nat):Int) }) (by omega) rfl rfl r
 refine⟨u,_,S,u2.keep (fun b I=>?_) eD,K,(Kept.of_below n.below).trans V fun _ h=>Y4 h,by simp[aP,bW,FVal.ownX]⟩
 rw[Y6 _ _ _ _ fun e=>(h.apart b I).2 (by simp[aP,e]),n.heap]
def X0(fp:fN)(F0:cC)(base sb:Nat)(t0 s0:aQ)(own0:List Nat)(w0:aH)(ar:Nat->Option Nat)(tab:List eV)(m:cT)(W:aH):Prop:=
 ∃F gf cap tv outv fvs,Ext F0 F w0.heap.size/\cW false fp F base W sb gf cap t0 tv outv s0 fvs m/\lA fp F W tab/\Kept own0 w0 W/\(∀x∈aP false sb gf outv fvs,x∈own0\/w0.heap.size<=x)/\fQ ar m/\fZ m/\m.out.length<=50/\m.tape.length<=17592186044416
def xI{ar:Nat->Option Nat}{g:List eV}{m:cT}{k:Nat}{r:cT × Nat}(ht:jX ar g)(ak:jO g)(h:cW false fp F base w sb gf cap t0 tv outv s0 fvs m)(hT:lA fp F w g)(hp:yX (aP false sb gf outv fvs) w)(aa:base<=w.heap.size)
 (hA:fQ ar m) (hU:fZ m) (aj:m.out.length<=50) (al:m.tape.length<=17592186044416) (A:dY g k m=some r):
 Calls prog 111 #[bO sb] w (V0 fp F base sb t0 s0 (aP false sb gf outv fvs) w r):=by
 generalize ae:aP false sb gf outv fvs=d at hp
 refine(ZU w sb (fun k W=>∃m,X0 fp F base sb t0 s0 d w ar g m W/\dY g k m=some r)
  (fun W=>r.2=0/\Done fp F base sb t0 s0 d w r.1 W) (fun q W=>q=r.2/\r.2≠0/\Done fp F base sb t0 s0 d w r.1 W)
  (fun j fa fj W=>∃y gf cap tv outv fvs a B c n,fa=gf/\fj=a.length*6/\(Ext F y w.heap.size/\cW false fp y base W sb gf cap t0 tv outv s0 fvs ⟨a++[B],c,n⟩/\lA fp y W g/\Kept d w W/\(∀x∈aP false sb gf outv fvs,x∈d\/w.heap.size<=x))/\(fQ ar ⟨a++[B],c,n⟩/\fZ ⟨a++[B],c,n⟩/\n.length<=50/\c.length<=17592186044416)/\dY g (j+1) ⟨a++[B],c,n⟩=some r)
  (fun j t z Q b W=>∃y gf cap tv outv fvs a B f i c n,(Ext F y w.heap.size/\cW false fp y base W sb gf cap t0 tv outv s0 fvs ⟨a++[f],c,n⟩/\lA fp y W g/\Kept d w W/\(∀x∈aP false sb gf outv fvs,x∈d\/w.heap.size<=x))/\(fQ ar ⟨a++[B],c,n⟩/\fZ ⟨a++[B],c,n⟩/\n.length<=50/\c.length<=17592186044416)/\dY g (j+1) ⟨a++[B],c,n⟩=some r/\B.fetch=some (i,f)/\b=i.isBegin/\
    Calls prog Q #[z,bO sb] W (V0 fp y base sb t0 s0 (aP false sb gf outv fvs) W (cJ g i a f c n)))
  k ⟨m,⟨F,gf,cap,tv,outv,fvs,Ext.refl _ _,h,hT,Kept.refl _ _,fun x s=>Y4 (by rw[<-ae];exact s),hA,hU,aj,al⟩,A⟩ (fun k W hL=>?_) (fun j fa fj W hM=>?_) (fun j fa fj W hM=>?_) (fun j t z Q b W hN=>?_)).mono ?_
 ·obtain⟨m,⟨y,gf,cap,tv,outv,fvs,P,C,g3,E,L,J,U,Z,Y⟩,A⟩:=hL;have hc:=C.count;have hd:=J.ok.deep;refine⟨_,_,_,aA C.blk rfl,aD C.blk,by omega,fun h0=>?_,fun h0=>?_⟩
  ·have hm:m.frames=[]:=i7 (by omega)
   cases k with
   |zero=>rw[dY] at A;cases A
   |succ j=>
    rw[dY,hm] at A;simp only[List.getLast?_nil] at A;cases A;exact⟨rfl,Nat.one_ne_zero,E,y,gf,cap,tv,outv,fvs,P,C,L⟩
  ·obtain⟨b,f,e⟩:=mS (l:=m.frames) (fun e=>h0 (by rw[hc,e];rfl))
   obtain⟨fr,t,o⟩:=m;simp only at e;subst e;cases k with
   |zero=>rw[dY] at A;cases A
   |succ j=>exact⟨j,rfl,gf,b.length*6,y,gf,cap,tv,outv,fvs,b,f,t,o,rfl,rfl,⟨P,C,g3,E,L⟩,⟨J,U,Z,Y⟩,A⟩
 ·obtain⟨y,gf,cap,tv,outv,fvs,b,f,t,o,rfl,rfl,⟨P,C,g3,E,L⟩,⟨J,U,Z,Y⟩,A⟩:=hM;have hc:=C.count;have hd:=J.ok.deep;have X:=C.blk;rw[hc,Y5,s5] at X;simp at hd;refine(GV sb fa b.length cap W (aA X rfl) (by omega)).mono ?_
  rintro e H ⟨he,q,rfl⟩;have hS:=aY.drewN W q;exact⟨he,y,fa,cap,tv,outv,fvs,b,f,t,o,rfl,rfl,⟨P,C.grow hS.below eD (fun _ h=>Y4 h),g3.keep (fun b _=>by rw[hS.heap]) eD,E.trans (Kept.of_below (own:=[]) hS.below) (fun x s=>by simp at s),L⟩,⟨J,U,Z,Y⟩,A⟩
 ·obtain⟨y,gf,cap,tv,outv,fvs,b,B,t,o,rfl,rfl,⟨P,C,g3,E,L⟩,⟨J,U,Z,Y⟩,A⟩:=hM;have N:cL ar B 0:=J.ok.top B (fJ _ _);have V:=xB N.next
  obtain⟨T,hc, -⟩:=N.code;have am:=hc.len;generalize B.fn.code[B.next]'N.next=i at V
  refine(C.fetched V (by omega)).mono ?_
  rintro e H ⟨v,p,he,q1,q2,q3,q4⟩;have ac:lA fp y H g:=g3.keep (fun x s=>q3.block x (C.apart x s).1 (C.apart x s).2) eD
  have D:Kept d w H:=E.trans q3 L;have ag:yX (aP false sb fa outv p) H:=hp.step D (fun x s=>L x (by rw[<-q4];exact s))
  obtain⟨t',z,Q,bb,e1,e2,e3,e4,e5⟩:=T8 ht J V U q2 ac ag (Z4 aa D.size) Z Y q1;exact⟨t',z,Q,bb,by rw[he,e1],e2,e3,y,fa,cap,tv,outv,p,b,B,_,i,t,o,⟨P,q2,ac,D,fun x s=>L x (by rw[<-q4];exact s)⟩,⟨J,U,Z,Y⟩,A,V,e4,e5⟩
 ·obtain⟨y,gf,cap,tv,outv,fvs,a,B,f,i,tp,o,⟨P,C,g3,E,L⟩,⟨J,U,Z,Y⟩,A,V,hb,hc⟩:=hN;obtain⟨s1,s2,s3⟩:=ZV A V;refine hc.mono ?_;rintro e H ⟨he,ad,G,S,K,ab,u,p,d1,d2,d3⟩;have D:Kept d w H:=E.trans ad L
  have M:∀x∈aP false sb S u p,x∈d\/w.heap.size<=x:=fun x s=>by
   rcases d3 x s with h1|h1
   ·exact L x h1
   ·exact Y3 (Z4 E.size h1)
  have af:lA fp G H g:=g3.keep (fun x s=>ad.block x (C.apart x s).1 (C.apart x s).2) d1.sub
  have I:∀O,Below H.heap.size H (H.alloc O):=fun O=>(Y8 _ H).alloc dH O
  rcases he with ⟨hz,rfl⟩|⟨hz,rfl⟩
  ·refine Y4 ⟨rfl,fun ah O=>?_,fun ai O=>?_⟩
   ·have hr:=s2 hz (by rw[<-hb];exact ah)
    rw[hr];exact⟨hz,D.trans (Kept.of_below (own:=[]) (I O)) (fun x s=>by simp at s),G,S,K,ab,u,p,P.trans d1 E.size,d2.grow (I O) eD (fun _ h=>Y4 h),M⟩
   ·refine⟨_,⟨G,S,K,ab,u,p,P.trans d1 E.size,d2.grow (I O) eD (fun _ h=>Y4 h),af.keep (fun x s=>(I O).block x (d2.apart x s).1) eD,D.trans (Kept.of_below (own:=[]) (I O)) (fun x s=>by simp at s),M,(wC ht J V).2.2 hz,CM ak U V,UM Z,Z4 OI Y⟩,s3 hz (by rw[<-hb];exact ai)⟩
  ·refine Y3 ⟨_,rfl,?_⟩;have hr:=s1 hz;rw[hr];exact⟨rfl,hz,D,G,S,K,ab,u,p,P.trans d1 E.size,d2,M⟩
 ·rintro e H (⟨rfl,h1,h2⟩|⟨q,rfl,rfl,h1,h2⟩)
  ·exact⟨Y4 ⟨h1,rfl⟩,h2⟩
  ·exact⟨Y3 ⟨h1,rfl⟩,h2⟩
end
def T0(v:aQ)(w:aH):(typeAssert (.iface 236 v) 20 236 true).run prog w=.ok (.tuple #[v,.bool true]) w:=by kernel_rfl
def UE(b:Fn)(first a:Array Value)(w:aH):(Instr.makeFunc b first a).run prog w=.ok (.func b first a) w:=rfl
def TF(p k:Nat)(a:List PanicEntry)(w:aH)(b:w.heap[p]?=some (.cells #[Iv0 0] 33 (0,0))):
 CallsD prog 131 #[bO p] (.panicking ({ v:=.iface 236 (Iv0 k),recovered:=false }::a)) w fun e h d=>
  e=bE (.tuple #[])/\h=.panicking ({ v:=.iface 236 (Iv0 k),recovered:=true }::a)/\d=w.setCell (aL p 0) (Iv0 k):=by
 have m:w.cell? (aL p 0)=some (Iv0 0):=aA b rfl;have n:=aE (i:=0) b;have j:=aD b;have f:=T0;refine callsD_of_wpS func131 rfl fun c l g=>?_
 apply wpS_seq
 apply wpS_region
 simp[wpOpsS,go_sem,recoverD,g,ntmps131,Exit.thenS];refine wpS_of_wp ?_;clear b;go_wp2_with fail;exact⟨rfl,_,rfl,.tuple #[],by simp[results,results131],rfl,rfl,rfl⟩
def TG(p:Addr)(w:aH):
 CallsD prog 131 #[.pointer (some p)] .returning w fun e d c=>e=bE (.tuple #[])/\d=.returning/\c=w:=by
 refine callsD_of_wpS func131 rfl fun a f b=>?_
 apply wpS_seq
 apply wpS_region
 simp[wpOpsS,go_sem,recoverD,b,ntmps131,Exit.thenS];refine wpS_of_wp ?_;go_wp2_with fail;exact⟨rfl,a.mode,rfl,.tuple #[],by simp[results,results131],rfl,b,rfl⟩
def QF(b:Nat)(p:Addr)(w:aH)(R:Nat->World->Prop)(c:∀a W,(callFunc b #[a]).run prog W=.ok (.enter b #[a]) W)
 (h:Calls prog b #[.pointer (some p)] (w.alloc (.cells #[Iv0 0] 33)) fun e d=>∃k,R3 k e/\R k d/\d.heap[w.heap.size]?=some (.cells #[Iv0 0] 33 (0,0))):
 Calls prog 93 #[.func (.func b) #[.pointer (some p)] #[]] w fun e d=>∃(k:Nat) (w1:aH),e=bE (Iv0 k)/\R k w1/\d=w1.setCell (aL w.heap.size 0) (Iv0 k):=by
 have q:=UE;have r:=c (.pointer (some p)) (w.alloc (.cells #[Iv0 0] 33));have l:=aB h;clear h c;go_enter_defers func93,ntmps93
 go_wp2_with fail;refine l.mono ?_;rintro e w1 ⟨k,n,o,g⟩;have m:=aB o;have j:w1.cell? (aL w.heap.size 0)=some (Iv0 0):=aA g rfl;have u:=aE (i:=0) g;have v:=aD g;clear o l;rcases n with ⟨rfl,rfl⟩|⟨n,rfl⟩
 ·go_wp2_with fail;refine leaves_cons (f:=131) (args:= #[bO w.heap.size]) (by simp) (by simp[go_sem]) ?_
  refine(TG (aL w.heap.size 0) _).mono ?_;rintro e s t ⟨rfl,rfl,rfl⟩;simp[Leaves,settle,results,results93,go_sem,j];exact⟨0,rfl,w1,m,rfl⟩
 ·go_wp2_with fail;refine leaves_cons (f:=131) (args:= #[bO w.heap.size]) (by simp) (by simp[go_sem]) ?_
  refine(TF w.heap.size k [] _ g).mono ?_;rintro e s x ⟨rfl,rfl,rfl⟩;simp[Leaves,settle,results,results93,go_sem,j];exact⟨k,rfl,w1,m,rfl⟩
def E6:(prog.info? 3).map (fun i=>(i.zero,i.size,i.bytes))=some (some (Iv0 0),1,8):=by kernel_rfl
def sC(g h n c:Nat)(b:List Value)(w:World)(C:b.length=n*1)(H:n<=1000000)(s:∀j u,b[j]?=some u->w.cell? ⟨g,h+j,none⟩=some u)(y:∀u∈b,u.oneCell'=true):
 Calls prog 53 #[.slice (some ⟨g,h,none⟩) n c] w fun e r=>∃m,e=.returned m/\r.ownsRow w.heap.size 9 1 m n b/\Below w.heap.size w r:=by
 obtain⟨A,D,o,p,q⟩:=info_parts BN;have z:=aB s;clear s;have x:∀(w:World) (a:Option Addr) (n c l i:Nat),(binOp .eql 32 (.slice a n c) (.slice none l i)).run prog w=.ok (.bool a.isNone) w:=fun w a n c l i=>Lib.run_eql_slice_nil w _ _ a n c l i underlying32
 go_enter func53,ntmps53;go_wp2_with (at_builtin;refine wpList_append_own _ (by rfl) _ _ 32 (by rfl) w.heap.size 9 A _ 1 16 underlying32 D o p q rfl (by decide) (.slice (some ⟨w.heap.size,0,none⟩) 0 0) 0 [] (by rfl) (World.ownsRow_made w #[] 0 (Z7 _) (n8 _) (by simp)) ⟨g,h,none⟩ n c b (by rfl) C (fun j u E=>by rw[Addr.add_lit];exact iQ _ (z.out j u E)) y (by unfold maxLen;omega) (by omega) (by simp) ?_)
 intro m F d f _;have B:=aB d;have v:=aB f;obtain⟨G,i,rfl⟩:=cY d;clear d f;go_wp2_with fail;go_ret;refine⟨_,rfl,by simpa using B.out,?_⟩
 exact((Y8 _ w).alloc (Z7 _) _).grown v.out (by simp) (by intro k t;simp[Value.ownBlock] at t;omega)
def sB(w:aH):
 Calls prog 53 #[bV] w fun e f=>e=bE (bV)/\f=w:=by
 have g:∀(w:aH) (a:Option Addr) (n c b d:Nat),(binOp .eql 32 (.slice a n c) (.slice none b d)).run prog w=.ok (.bool a.isNone) w:=fun w a n c b d=>Lib.run_eql_slice_nil w _ _ a n c b d underlying32
 go_in
 go_wp2
 go_ret;exact⟨rfl,rfl⟩
def ER(g h n c:Nat)(b:List Value)(w:World)(C:b.length=n*1)(H:n<=17592186044416)(s:∀j u,b[j]?=some u->w.cell? ⟨g,h+j,none⟩=some u)(y:∀u∈b,u.oneCell'=true):
 Calls prog 76 #[.slice (some ⟨g,h,none⟩) n c] w fun e r=>∃m,e=.returned m/\r.ownsRow w.heap.size 3 1 m n b/\Below w.heap.size w r:=by
 obtain⟨A,D,o,p,q⟩:=info_parts E6;have z:=aB s;clear s;have x:∀(w:World) (a:Option Addr) (n c l i:Nat),(binOp .eql 22 (.slice a n c) (.slice none l i)).run prog w=.ok (.bool a.isNone) w:=fun w a n c l i=>Lib.run_eql_slice_nil w _ _ a n c l i underlying22
 go_enter func76,ntmps76;go_wp2_with (at_builtin;refine wpList_append_own _ (by rfl) _ _ 22 (by rfl) w.heap.size 3 A _ 1 8 underlying22 D o p q rfl (by decide) (.slice (some ⟨w.heap.size,0,none⟩) 0 0) 0 [] (by rfl) (World.ownsRow_made w #[] 0 (Z7 _) (n8 _) (by simp)) ⟨g,h,none⟩ n c b (by rfl) C (fun j u E=>by rw[Addr.add_lit];exact iQ _ (z.out j u E)) y (by unfold maxLen;omega) (by omega) (by simp) ?_)
 intro m F d f _;have B:=aB d;have v:=aB f;obtain⟨G,i,rfl⟩:=cY d;clear d f;go_wp2_with fail;go_ret;refine⟨_,rfl,by simpa using B.out,?_⟩
 exact((Y8 _ w).alloc (Z7 _) _).grown v.out (by simp) (by intro k t;simp[Value.ownBlock] at t;omega)
def EQ(w:aH):
 Calls prog 76 #[bV] w fun e f=>e=bE (bV)/\f=w:=by
 have g:∀(w:aH) (a:Option Addr) (n c b d:Nat),(binOp .eql 22 (.slice a n c) (.slice none b d)).run prog w=.ok (.bool a.isNone) w:=fun w a n c b d=>Lib.run_eql_slice_nil w _ _ a n c b d underlying22
 go_in
 go_wp2
 go_ret;exact⟨rfl,rfl⟩
def ES(g h n c:Nat)(b:List Value)(w:World)(C:b.length=n*6)(H:n<=1000000)(s:∀j u,b[j]?=some u->w.cell? ⟨g,h+j,none⟩=some u)(y:∀u∈b,u.oneCell'=true):
 Calls prog 165 #[.slice (some ⟨g,h,none⟩) n c] w fun e r=>∃m,e=.returned m/\r.ownsRow w.heap.size 131 6 m n b/\Below w.heap.size w r:=by
 obtain⟨A,D,o,p,q⟩:=info_parts GB;have z:=aB s;clear s;have x:∀(w:World) (a:Option Addr) (n c l i:Nat),(binOp .eql 58 (.slice a n c) (.slice none l i)).run prog w=.ok (.bool a.isNone) w:=fun w a n c l i=>Lib.run_eql_slice_nil w _ _ a n c l i underlying58
 go_enter func165,ntmps165;go_wp2_with (at_builtin;refine wpList_append_own _ (by rfl) _ _ 58 (by rfl) w.heap.size 131 A _ 6 80 underlying58 D o p q rfl (by decide) (.slice (some ⟨w.heap.size,0,none⟩) 0 0) 0 [] (by rfl) (World.ownsRow_made w #[] 0 (Z7 _) (n8 _) (by simp)) ⟨g,h,none⟩ n c b (by rfl) C (fun j u E=>by rw[Addr.add_lit];exact iQ _ (z.out j u E)) y (by unfold maxLen;omega) (by omega) (by simp) ?_)
 intro m F d f _;have B:=aB d;have v:=aB f;obtain⟨G,i,rfl⟩:=cY d;clear d f;go_wp2_with fail;go_ret;refine⟨_,rfl,by simpa using B.out,?_⟩
 exact((Y8 _ w).alloc (Z7 _) _).grown v.out (by simp) (by intro k t;simp[Value.ownBlock] at t;omega)
def XU(w:aH)(sb a:Nat)(R:Nat->World->Prop)(P:World->Prop)(q:a<=1000000)
 (m:Hid (Calls prog 93 #[.func (.func 111) #[bO sb] #[]] w fun e d=>∃k:Nat,k<=1000/\e=bE (Iv0 k)/\R k d))
 (l:Hid (∀k W,R k W->(∃u,W.cell? (aL sb 4)=some u)/\W.frozen? (aL sb 4)=false/\sb<W.heap.size/\W.cell? (aL sb 0)=some (Iv0 a)))
 (i:Hid (∀k W,R k W->¬(k=0/\a=500)->P (W.setCell (aL sb 4) (Iv0 k))))
 (o:Hid (∀W,R 0 W->a=500->P ((W.setCell (aL sb 4) (Iv0 0)).setCell (aL sb 4) (Iv0 9)))):
 Calls prog 77 #[bO sb] w fun e d=>e=bE (.tuple #[])/\P d:=by
 have j:=UE;go_in
 go_wp2_with fail;refine m.mono ?_;rintro e p ⟨k,r,rfl,b⟩;obtain⟨⟨u,v⟩,s,x,t⟩:=l _ _ b;by_cases f:k=0
 ·subst f;by_cases g:a=500
  ·subst g;have c:=aB (o _ b rfl);clear b;go_wp2
   go_end0;exact⟨rfl,c⟩
  ·have c:=aB (i _ _ b (fun h=>g h.2))
   have n:¬(a:Int)=500:=by omega
   clear b;go_wp2
   go_end0;exact⟨rfl,c⟩
 ·have c:=aB (i _ _ b (fun h=>f h.1))
  have n:¬(k:Int)=0:=by omega
  clear b;go_wp2
  go_end0;exact⟨rfl,c⟩
section
variable {fp:fN} {F:cC} {base:Nat} {w:aH} {sb gf cap:Nat} {t0 tv outv s0:aQ} {fvs:List FVal}
def cW.setStop{m:cT}(h:cW false fp F base w sb gf cap t0 tv outv s0 fvs m)(x:aQ):cW false fp F base (w.setCell (aL sb 4) x) sb gf cap t0 tv outv x fvs m/\Kept (aP false sb gf outv fvs) w (w.setCell (aL sb 4) x):=by
 obtain⟨d,o⟩:=Z9.1 h.nodup;have a:∀k,k≠sb->(w.setCell (aL sb 4) x).heap[k]?=w.heap[k]?:=fun k a=>Y6 _ _ _ _ a
 have c:∀b,F b->(w.setCell (aL sb 4) x).heap[b]?=w.heap[b]?:=fun b j=>a b fun e=>(h.apart b j).2 (by simp[aP,e])
 refine⟨⟨aT h.blk,bA h.row fun k e=>a k ?_,h.frs.keep c eD fun v i k f=>a k ?_,h.tape.keep c eD,bA h.out fun k e=>a k ?_,h.nodup,fun k a=>by simpa using h.lt k a,fun k a=>by simpa using h.apart k a⟩,⟨rfl,rfl,rfl,by simp,fun k _ n=>a k fun e=>n (by simp[aP,e])⟩⟩
 ·cases e;exact fun e=>d (by simp[<-e])
 ·have g:k∈bW false fvs:=s9.2 ⟨v,i,f⟩;exact fun e=>d (by simp[<-e,g])
 ·exact fun l=>d (by simp[<-l,e])
def P8(a:aQ)(W:aH):(callFunc 111 #[a]).run prog W=.ok (.enter 111 #[a]) W:=by kernel_rfl
def NK{ar:Nat->Option Nat}{n:List eV}{m:cT}{k a:Nat}{r:cT × Nat}(ht:jX ar n)(T:jO n)(h:cW false fp F base w sb gf cap (Iv0 a) tv outv s0 fvs m)(hT:lA fp F w n)(hp:yX (aP false sb gf outv fvs) w)(A:base<=w.heap.size)
 (hA:fQ ar m) (hU:fZ m) (N:m.out.length<=50) (Q:m.tape.length<=17592186044416) (o:dY n k m=some r) (Z:a<=1000000) (U:r.2<=1000):
 Calls prog 77 #[bO sb] w fun e E=>e=bE (.tuple #[])/\Done fp F base sb (Iv0 a) (Iv0 (bU a r.2)) (aP false sb gf outv fvs) w r.1 E:=by
 have C:Below w.heap.size w (w.alloc (.cells #[Iv0 0] 33)):=(Y8 _ w).alloc dH _;have h0:=h.grow C eD (fun _ h=>Y4 h)
 have X:lA fp F (w.alloc (.cells #[Iv0 0] 33)) n:=hT.keep (fun x hx=>C.block x (h.apart x hx).1) eD
 have j:Kept (aP false sb gf outv fvs) w (w.alloc (.cells #[Iv0 0] 33)):=Kept.of_below C;have hX:=xI ht T h0 X (hp.step j fun _ h=>Y4 h) (Z4 A j.size) hA hU N Q o
 have u:(w.alloc (.cells #[Iv0 0] 33)).heap[w.heap.size]?=some (.cells #[Iv0 0] 33 (0,0)):=aU _ _ rfl _;have z:w.heap.size∉aP false sb gf outv fvs:=fun t=>by have:=h.lt _ t;omega
 have hS:=QF 111 (aL sb 0) w (fun k W=>k=r.2/\Done fp F base sb (Iv0 a) s0 (aP false sb gf outv fvs) (w.alloc (.cells #[Iv0 0] 33)) r.1 W) P8 (hX.mono fun e E y=>by
  obtain⟨he,y⟩:=y;refine⟨r.2,he,⟨rfl,y⟩,?_⟩;rw[y.1.block _ (by simp) z];exact u)
 generalize Y:w.alloc (.cells #[Iv0 0] 33)=w0 at*
 have hD:∀W x,Done fp F base sb (Iv0 a) s0 (aP false sb gf outv fvs) w0 r.1 W->Done fp F base sb (Iv0 a) s0 (aP false sb gf outv fvs) w r.1 (W.setCell (aL w.heap.size 0) x):=fun W x y=>by
  obtain⟨p,G,g,f,l,c,d,D,i,s⟩:=y;have I:w.heap.size<w0.heap.size:=by rw[<-Y];simp
  have P:¬F w.heap.size:=fun hF=>by have:=(h.apart _ hF).1;omega
  have L:w.heap.size∉aP false sb g c d:=fun t=>by
   rcases s _ t with B|B
   ·exact z B
   ·omega
  have J:∀b,G b->b≠w.heap.size:=fun b O e=>by
   subst e;rcases D.new _ O with B|B
   ·exact P B
   ·omega
  have o:∀k,k≠w.heap.size->(W.setCell (aL w.heap.size 0) x).heap[k]?=W.heap[k]?:=fun k o=>Y6 _ _ _ _ o
  have q:∀k∈aP false sb g c d,(W.setCell (aL w.heap.size 0) x).heap[k]?=W.heap[k]?:=fun k t=>o k fun e=>L (by rw[<-e];exact t)
  have K:∀b,G b->(W.setCell (aL w.heap.size 0) x).heap[b]?=W.heap[b]?:=fun b O=>o b (J b O)
  refine⟨⟨p.os.trans j.os,p.tape.trans j.tape,p.output.trans j.output,Z4 j.size (by simpa using p.size),fun k B h2=>?_⟩,G,g,f,l,c,d,D.le (al_ I),⟨by rw[q sb (by simp[aP])];exact i.blk,bA i.row fun k e=>?_,i.frs.keep K eD fun v hv k M=>q k ?_,i.tape.keep K eD,bA i.out fun k e=>q k (by simp[aP,e]),i.nodup,fun k o=>by simpa using i.lt k o,fun k o=>by simpa using i.apart k o⟩,fun k t=>(s k t).imp_right (Z4 (al_ I))⟩
  ·rw[o k (by omega),p.block k (by omega) h2,j.block k B h2]
  ·cases e;exact q g (by simp[aP])
  ·have t:k∈bW false d:=s9.2 ⟨v,hv,M⟩;simp[aP,t]
 refine(XU w sb a (fun k W=>k=r.2/\Done fp F base sb (Iv0 a) s0 (aP false sb gf outv fvs) w r.1 W) (fun E=>Done fp F base sb (Iv0 a) (Iv0 (bU a r.2)) (aP false sb gf outv fvs) w r.1 E) Z (hS.mono ?_) (fun k W H=>?_) (fun k W H V=>?_) (fun W H V=>?_))
 ·rintro e E ⟨k,w1,rfl,⟨rfl,y⟩,rfl⟩;exact⟨r.2,U,rfl,rfl,hD _ _ y⟩
 ·obtain⟨_,_,G,g,f,l,c,d,_,i,_⟩:=H;exact⟨⟨_,aA i.blk rfl⟩,aE i.blk,aD i.blk,aA i.blk rfl⟩
 ·obtain⟨rfl,p,G,g,f,l,c,d,D,i,s⟩:=H;obtain⟨S,q2⟩:=i.setStop (Iv0 r.2);have e:bU a r.2=r.2:=if_neg V;rw[e];exact⟨p.trans q2 s,G,g,f,l,c,d,D,S,s⟩
 ·obtain⟨hz,p,G,g,f,l,c,d,D,i,s⟩:=H;obtain⟨S,q2⟩:=i.setStop (Iv0 0);obtain⟨q3,q4⟩:=S.setStop (Iv0 9);have e:bU a r.2=9:=if_pos ⟨hz.symm,V⟩;rw[e];exact⟨(p.trans q2 s).trans q4 s,G,g,f,l,c,d,D,q3,s⟩
end
end Go.Proofs.YtddnpoiiimjpcaaGreatDoor
