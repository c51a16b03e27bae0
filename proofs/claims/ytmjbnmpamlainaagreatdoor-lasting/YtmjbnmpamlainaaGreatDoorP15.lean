/- Contracts of the program: the moment is told: the walks. -/
import Derived.Test.YtmjbnmpamlainaaGreatDoorP14
set_option linter.defProp false
set_option maxRecDepth 100000
set_option maxHeartbeats 4000000
namespace Go.Proofs.YtmjbnmpamlainaaGreatDoor
open Hs
open _root_.Go.Proofs.Tryz
open Instr(typeAssert)
open Go.RowKit
def OE{W:aG}{b:Nat}{s:SV}{T:TypeId}(h:W.heap[b]?=some (.cells s.cells T (0,0))):W.cell? (aH b 0)=some (Iv0 s.t)/\W.cell? (aH b 1)=some (.slice s.x1 s.n1 s.c1)/\W.cell? (aH b 2)=some (.slice s.x2 s.n2 s.c2)/\W.cell? (aH b 3)=some (.slice s.x3 s.n3 s.c3)/\W.cell? (aH b 4)=some (Iv0 s.q):=
 ⟨aA h rfl,aA h rfl,aA h rfl,aA h rfl,aA h rfl⟩
def zV(w:aG)(s:SV)(P A3:SV->World->Prop)(A1:Option Addr->Nat->Nat->World->Prop)(A2:Option Addr->Nat->Nat->Option Addr->Nat->Nat->World->Prop)
 (HS:Hid (∀W,aV ((w.alloc (.cells s.cells 49)).alloc (.cells #[Iv0 0,bF,bF,bF,Iv0 0] 39)) W->Calls prog 39 #[s.val] W fun e F=>∃x n c,e=aZ (.slice x n c)/\A1 x n c F))
 (HV:Hid (∀x n c W,A1 x n c W->W.heap[w.heap.size]?=some (.cells s.cells 49 (0,0))/\Calls prog 40 #[s.val] W fun e F=>∃l o g,e=aZ (.slice l o g)/\A2 x n c l o g F))
 (HC:Hid (∀x n c l o g W,A2 x n c l o g W->W.heap[w.heap.size]?=some (.cells s.cells 49 (0,0))/\Calls prog 41 #[.slice s.x3 s.n3 s.c3] W fun e F=>∃B C A,e=aZ (.slice B C A)/\A3 ⟨s.t,x,l,B,n,o,C,c,g,A,s.q⟩ F))
 (HP:Hid (∀m W,A3 m W->W.heap[w.heap.size]?=some (.cells s.cells 49 (0,0))/\(∃c,W.heap[w.heap.size+1]?=some (.cells c 39 (0,0))/\c.size=5)/\P m (eC W (w.heap.size+1) m))):
 Calls prog 19 #[s.val] w fun e F=>∃m:SV,e=aZ m.val/\P m F:=by
 unfold SV.val SV.cells at HS;have z:=HV;unfold SV.val at z;unfold SV.val;go_in
 go_wp2_with fail;have HH:=aB (aV.drew ((w.alloc (.cells #[Iv0 s.t,.slice s.x1 s.n1 s.c1,.slice s.x2 s.n2 s.c2,.slice s.x3 s.n3 s.c3,Iv0 s.q] 49)).alloc (.cells #[Iv0 0,bF,bF,bF,Iv0 0] 39)));have M:((w.alloc (.cells #[Iv0 s.t,.slice s.x1 s.n1 s.c1,.slice s.x2 s.n2 s.c2,.slice s.x3 s.n3 s.c3,Iv0 s.q] 49)).alloc (.cells #[Iv0 0,bF,bF,bF,Iv0 0] 39)).drew.heap[w.heap.size]?=some (.cells (SV.cells s) 49 (0,0)):=(cq_ _ _ _ (by simp)).trans (aO _ _ rfl _)
 have g:=OE M;clear M;refine wp_region_held_drew (S:=fun W=>W.cell? (aH w.heap.size 0)=some (Iv0 s.t)/\W.cell? (aH w.heap.size 1)=some (.slice s.x1 s.n1 s.c1)/\W.cell? (aH w.heap.size 2)=some (.slice s.x2 s.n2 s.c2)/\W.cell? (aH w.heap.size 3)=some (.slice s.x3 s.n3 s.c3)/\W.cell? (aH w.heap.size 4)=some (Iv0 s.q)) (by kernel_rfl) g (fun a=>?_)
 clear g;(refine wpAnyH_take (i:=0) (v:=?_) rfl (by kernel_rfl) (by kernel_rfl) (by kernel_rfl) (fun _ _ _ h=>h) (cl_ ⟨by rfl,?_⟩) a ?_;rotate_left;(rintro w ⟨t,u,r,p,y⟩;go_simp<;>with_reducible rfl))
 (refine wpAnyH_take (i:=1) (v:=?_) rfl (by kernel_rfl) (by kernel_rfl) (by kernel_rfl) (fun _ _ _ h=>h) (cl_ ⟨by rfl,?_⟩) a ?_;rotate_left;(rintro w ⟨t,u,r,p,y⟩;go_simp<;>with_reducible rfl))
 (refine wpAnyH_take (i:=2) (v:=?_) rfl (by kernel_rfl) (by kernel_rfl) (by kernel_rfl) (fun _ _ _ h=>h) (cl_ ⟨by rfl,?_⟩) a ?_;rotate_left;(rintro w ⟨t,u,r,p,y⟩;go_simp<;>with_reducible rfl))
 (refine wpAnyH_take (i:=4) (v:=?_) rfl (by kernel_rfl) (by kernel_rfl) (by kernel_rfl) (fun _ _ _ h=>h) (cl_ ⟨by rfl,?_⟩) a ?_;rotate_left;(rintro w ⟨t,u,r,p,y⟩;go_simp<;>with_reducible rfl))
 (refine wpAnyH_take (i:=6) (v:=?_) rfl (by kernel_rfl) (by kernel_rfl) (by kernel_rfl) (fun _ _ _ h=>h) (cl_ ⟨by rfl,?_⟩) a ?_;rotate_left;(rintro w ⟨t,u,r,p,y⟩;go_simp<;>with_reducible rfl))
 (refine wpAnyH_take (i:=7) (v:=?_) rfl (by kernel_rfl) (by kernel_rfl) (by kernel_rfl) (fun _ _ _ h=>h) (cl_ ⟨by rfl,?_⟩) a ?_;rotate_left;(rintro w ⟨t,u,r,p,y⟩;go_simp<;>with_reducible rfl))
 (refine wpAnyH_take (i:=9) (v:=?_) rfl (by kernel_rfl) (by kernel_rfl) (by kernel_rfl) (fun _ _ _ h=>h) (cl_ ⟨by rfl,?_⟩) a ?_;rotate_left;(rintro w ⟨t,u,r,p,y⟩;go_simp<;>with_reducible rfl))
 (refine wpAnyH_take (i:=10) (v:=?_) rfl (by kernel_rfl) (by kernel_rfl) (by kernel_rfl) (fun _ _ _ h=>h) (cl_ ⟨by rfl,?_⟩) a ?_;rotate_left;(rintro w ⟨t,u,r,p,y⟩;go_simp<;>with_reducible rfl))
 refine wpAnyH_ready (rs:=[3]) (by kernel_rfl) (by simp) ?_
 refine AllReadyH.cons rfl (fun K k=>?_) AllReadyH.nil
 go_simp;go_at_call 39
 refine(HS _ HH).mono ?_;rintro e w3 ⟨x1,Z,Y,rfl,h3⟩;obtain⟨N,Q⟩:=z.out _ _ _ _ h3;have G:=aB Q;have V:=OE N;clear h3 N Q HS HV z HH;go_wp2_with fail;refine k.out _ _ V (fun a=>?_)
 clear k K V;refine wpAnyH_ready (rs:=[5]) (by kernel_rfl) (by simp) ?_
 refine AllReadyH.cons rfl (fun K k=>?_) AllReadyH.nil
 go_simp;go_at_call 40
 refine G.mono ?_;rintro e w4 ⟨l,o,g,rfl,h4⟩;obtain⟨X,L⟩:=HC _ _ _ _ _ _ _ h4;have J:=aB L;have I:=OE X;clear h4 X L HC G;go_wp2_with fail;refine k.out _ _ I (fun a=>?_)
 clear k K I;refine wpAnyH_ready (rs:=[8]) (by kernel_rfl) (by simp) ?_
 refine AllReadyH.cons rfl (fun K k=>?_) AllReadyH.nil
 go_simp;go_at_call 41
 refine J.mono ?_;rintro e w5 ⟨B,C,A,rfl,h5⟩;obtain⟨U,⟨c,H,ab⟩,T⟩:=HP _ _ h5;have d:=OE U;have E:=aB T;have b:=aB H;clear h5 U T HP J;go_wp2_with fail;refine k.out _ _ d (fun a=>?_)
 clear k K;(refine wpAnyH_take (i:=11) (v:=?_) rfl (by kernel_rfl) (by kernel_rfl) (by kernel_rfl) (fun _ _ _ h=>h) (cl_ ⟨by rfl,?_⟩) a ?_;rotate_left;(rintro w ⟨t,u,r,p,y⟩;go_simp<;>with_reducible rfl))
 refine wpAnyH_ready (rs:=[12]) (by kernel_rfl) (by simp) ?_
 refine AllReadyH.cons rfl (fun K k=>?_) AllReadyH.nil
 have g0:=aA (i:=0) b (cr_ (by omega))
 have g1:=aA (i:=1) b (cr_ (by omega))
 have g2:=aA (i:=2) b (cr_ (by omega))
 have g3:=aA (i:=3) b (cr_ (by omega))
 have g4:=aA (i:=4) b (cr_ (by omega))
 have f0:=aD (i:=0) b;have f1:=aD (i:=1) b;have f2:=aD (i:=2) b;have f3:=aD (i:=3) b;have f4:=aD (i:=4) b;have l5:=aC b;have hs:=jW (W:=w5) (s:=⟨s.t,x1,l,B,Z,o,C,Y,g,A,s.q⟩) b (by omega) rfl
 have O:∀i,(eC w5 (w.heap.size+1) ⟨s.t,x1,l,B,Z,o,C,Y,g,A,s.q⟩).cell? (aH w.heap.size i)=w5.cell? ⟨w.heap.size,i,none⟩:=fun i=>World.cell?_of_block (dH _ _ _ _ (show w.heap.size≠w.heap.size+1 by omega))
 have D:=aB hs;have f:=aB O;clear H hs O;unfold eC at D E f;go_simp;refine k.out _ _ ⟨(f 0).trans d.1,(f 1).trans d.2.1,(f 2).trans d.2.2.1,(f 3).trans d.2.2.2.1,(f 4).trans d.2.2.2.2⟩ (fun a=>?_)
 refine wpAnyH_done (by kernel_rfl) ?_ _
 have q:=D;have j:=E;clear D E b f g0 g1 g2 g3 g4 f0 f1 f2 f3 f4 a k d;generalize ((((w5.setCell (aH (w.heap.size+1) 0) (Iv0 s.t)).setCell (aH (w.heap.size+1) 1) (.slice x1 Z Y)).setCell (aH (w.heap.size+1) 2) (.slice l o g)).setCell (aH (w.heap.size+1) 3) (.slice B C A)).setCell (aH (w.heap.size+1) 4) (Iv0 s.q)=W6 at q j ⊢
 obtain⟨r0,r1,r2,r3,r4⟩:=q;have aa:=aB j;clear j;go_wp2
 exact bodyPost_ret (v:=.agg #[Iv0 s.t,.slice x1 Z Y,.slice l o g,.slice B C A,Iv0 s.q]) (by simp[results,results19,go_sem,r0,r1,r2,r3,r4]) rfl ⟨_,rfl,aa⟩
def TJ:∀(n:Nat) (l:cD),l.length<=n->∀c∈eG l,c.length<=l.length:=by
 intro n;induction n with
 |zero=>
  intro l f c a;rw[eB (cl_ (dh_.1 (by omega)))] at a
  cases a
 |succ n e=>
  intro l f c a;by_cases d:l=[]
  ·rw[eB (cl_ d)] at a;cases a
  by_cases b:bK l=0
  ·rw[eB (ck_ b)] at a;cases a
  rw[iS d b] at a;rcases cv_.1 a with rfl|a
  ·rw[da_];omega
  ·have:=e _ (by rw[c9_];omega) c a
   rw[c9_] at this;omega
def RO(a b:aM)(h:aN a<=200):aN (dL a b).1<=200:=by
 unfold dL;split
 ·exact kD
 split
 ·exact kD
 have e:∀x∈kF a,aN x<=200:=fun x d=>by
  unfold kF at d;rw[fJ] at h;split at d
  ·obtain⟨c,g,rfl⟩:=dn_.1 d;have:=TJ _ _ cL c g;rw[lO];omega
  ·have:=mQ d;omega
 show aN ((kF a).getD b.n.toNat bR)<=200
 rw[List.getD_eq_getElem?_getD];cases f:(kF a)[b.n.toNat]? with
 |none=>exact kD
 |some x=>exact e x (c0_ f)
def NA(a:aM):aN (eK a).1<=200:=by
 unfold eK;repeat' split
 all_goals first|(show aN (bG _)<=200;rw[lB];omega)|exact kD
section
variable {sh:Bool} {fp:eQ} {F:bX} {base:Nat} {w:aG} {sb gf cap:Nat} {t0 tv outv s0:aQ} {fvs:List FVal} {below:List aJ} {f:aJ} {tape:List Int} {out:cN}
def Z7(h:dA sh fp F base w sb gf cap t0 tv outv s0 fvs ⟨below++[f],tape,out⟩)(A:below.length<=15)(j:base<=w.heap.size)(n:f.ops.length<=99000)(I:∃H a b,f.ops=H++[a,b]/\bS a):
 Calls prog 248 #[.agg #[],bH sb] w (iV sh fp F base sb gf t0 s0 (aR sh sb gf outv fvs) w below tape out (aL .index f)):=by
 obtain⟨H,a,b,m,K⟩:=I;have m:f.ops=(H++[a])++[b]:=by rw[m];simp
 have O:=h.mid j (.cells #[] 252);have i:f.pop.ops=H++[a]:=nJ m;have x:=n;rw[m,cp_,cp_] at x;have N:f.pop.ops.length<=100000:=by rw[i,cp_];omega
 have L:f.pop.pop.ops.length<=100000:=by rw[nJ i];omega
 have Q:aL .index f=if (dL a b).2=0 then (f.pop.pop.push (dL a b).1,0) else (f.pop.pop,(dL a b).2):=by simp[aL,jS m,jS i]
 have C:aN a<=200->aN (dL a b).1<=200:=RO a b;have q:∀(W:aG) (u v:aQ),PV F W u a->PV F W v b->(∀k,F k->k<W.heap.size)->aN a<=200->aN b<=200->Calls prog 249 #[u,v] W (fC F W (dL a b)):=fun W u v c d l p s=>ag_ F u v a b W c d K (by omega) l
 generalize dL a b=r at q Q C;rw[Q]
 refine(NH w _ sb gf (below.length*6) r.2 (fun g=>r.2=0/\gB sh fp F base sb gf t0 s0 (aR sh sb gf outv fvs) w ⟨below++[f.pop.pop.push r.1],tape,out⟩ g) (fun g=>r.2≠0/\gB sh fp F base sb gf t0 s0 (aR sh sb gf outv fvs) w ⟨below++[f.pop.pop],tape,out⟩ g)
  (fun t z W=>PV F W (.iface t z) b/\aN b<=200/\dV sh fp base sb gf below.length t0 s0 (aR sh sb gf outv fvs) (w.alloc (.cells #[] 252)) F ⟨below++[f.pop],tape,out⟩ W)
  (fun t z D E W=>PV F W (.iface t z) b/\aN b<=200/\PV F W (.iface D E) a/\aN a<=200/\dV sh fp base sb gf below.length t0 s0 (aR sh sb gf outv fvs) (w.alloc (.cells #[] 252)) F ⟨below++[f.pop.pop],tape,out⟩ W)
  (fun t z W=>(r.2=0/\aN r.1<=200)/\∃G,Ext F G w.heap.size/\PV G W (.iface t z) r.1/\dV sh fp base sb gf below.length t0 s0 (aR sh sb gf outv fvs) (w.alloc (.cells #[] 252)) G ⟨below++[f.pop.pop],tape,out⟩ W) rfl (O.topS A) (fun W hS=>?_) (fun W t z o=>?_) (fun W t z D E o=>?_) (fun W t z o=>?_)).mono ?_
 ·refine((O.same hS).pop m (by omega)).mono ?_
  rintro e g ⟨t,z,B,c,d,l⟩;exact⟨t,z,B,c,d,l⟩
 ·obtain⟨c,d,l⟩:=o;refine(l.popK i N).mono ?_;rintro e g ⟨D,E,B,T,Z,U,k4⟩;exact⟨D,E,B,c.keep k4,d,T,Z,U⟩
 ·obtain⟨c,d,l,p,s⟩:=o;refine(q W _ _ l c (fun k J=>(s.apart k J).1) p d).mono ?_
  rintro e g ⟨P,⟨y,u,rfl,S⟩|⟨y,rfl⟩⟩
  ·obtain⟨X,V,rfl⟩:=S.form;exact cl_ ⟨X,V,rfl,⟨y,C p⟩,Grow F W g,⟨fun _=>cl_,fun k J=>J.imp_right fun c=>cw_ (cw_ (by simp) s.1.size) c.1⟩,S,s.grow P (fun _=>cl_) dX⟩
  ·exact ck_ ⟨rfl,y,(s.grow P dX fun _=>cl_).doneX (Ext.refl _ _)⟩
 ·obtain⟨⟨y,M⟩,G,Y,c,d⟩:=o;refine(d.push c M L).mono ?_;rintro e g ⟨B,p⟩;exact⟨B,y,p.doneX Y⟩
 ·rintro e g (⟨rfl,c,d⟩|⟨rfl,c,d⟩)
  ·exact iV.ok (if_pos c) d
  ·exact iV.stop (if_neg c) c d
def J9(h:dA sh fp F base w sb gf cap t0 tv outv s0 fvs ⟨below++[f],tape,out⟩)(m:below.length<=15)(g:base<=w.heap.size)(i:f.ops.length<=99000)(p:∃B a,f.ops=B++[a]/\bS a):
 Calls prog 265 #[.agg #[],bH sb] w (iV sh fp F base sb gf t0 s0 (aR sh sb gf outv fvs) w below tape out (aL .length f)):=by
 obtain⟨B,a,o,q⟩:=p;have y:=h.mid g (.cells #[] 278);have K:f.pop.ops.length<=100000:=by rw[nJ o];rw[o,cp_] at i;omega
 have D:aL .length f=if (eK a).2=0 then (f.pop.push (eK a).1,0) else (f.pop,(eK a).2):=by simp[aL,jS o]
 have n:=NA a;have j:∀(W:aG) (u:aQ),PV F W u a->aN a<=200->Calls prog 266 #[u] W (fC F W (eK a)):=fun W u b C=>U8 F u a W b q (by omega)
 generalize eK a=r at j D n;rw[D]
 refine(IP w _ sb gf (below.length*6) r.2 (fun d=>r.2=0/\gB sh fp F base sb gf t0 s0 (aR sh sb gf outv fvs) w ⟨below++[f.pop.push r.1],tape,out⟩ d) (fun d=>r.2≠0/\gB sh fp F base sb gf t0 s0 (aR sh sb gf outv fvs) w ⟨below++[f.pop],tape,out⟩ d)
  (fun t z W=>PV F W (.iface t z) a/\aN a<=200/\dV sh fp base sb gf below.length t0 s0 (aR sh sb gf outv fvs) (w.alloc (.cells #[] 278)) F ⟨below++[f.pop],tape,out⟩ W)
  (fun t z W=>r.2=0/\∃G,Ext F G w.heap.size/\PV G W (.iface t z) r.1/\dV sh fp base sb gf below.length t0 s0 (aR sh sb gf outv fvs) (w.alloc (.cells #[] 278)) G ⟨below++[f.pop],tape,out⟩ W) rfl (y.topS m) (fun W N=>?_) (fun W t z s=>?_) (fun W t z s=>?_)).mono ?_
 ·refine((y.same N).pop o (by omega)).mono ?_
  rintro e d ⟨t,z,x,b,c,L⟩;exact⟨t,z,x,b,c,L⟩
 ·obtain⟨b,c,v⟩:=s;refine(j W _ b c).mono ?_;rintro e d ⟨A,⟨l,u,rfl,E⟩|⟨l,rfl⟩⟩
  ·obtain⟨J,I,rfl⟩:=E.form;exact cl_ ⟨J,I,rfl,l,Grow F W d,⟨fun _=>cl_,fun k H=>H.imp_right fun b=>cw_ (cw_ (by simp) v.1.size) b.1⟩,E,v.grow A (fun _=>cl_) dX⟩
  ·exact ck_ ⟨rfl,l,(v.grow A dX fun _=>cl_).doneX (Ext.refl _ _)⟩
 ·obtain⟨l,G,M,b,c⟩:=s;refine(c.push b n K).mono ?_;rintro e d ⟨x,C⟩;exact⟨x,l,C.doneX M⟩
 ·rintro e d (⟨rfl,b,c⟩|⟨rfl,b,c⟩)
  ·exact iV.ok (if_pos b) c
  ·exact iV.stop (if_neg b) b c
end
def Disp(t:TypeId)(f:Nat):Prop:=(∀recv w,(Go.method 487 t recv "hindsight/machine.do").run prog w=.ok (f,recv) w)/\∀a b w,(callFunc f #[a,b]).run prog w=.ok (.enter f #[a,b]) w
def fK(t:TypeId):Prop:=∀v w,(typeAssert (.iface t v) 206 233 true).run prog w=.ok (.tuple #[.agg #[Iv0 0,.pointer none],.bool false]) w
def Z0(v:aQ)(w:aG):(typeAssert (.iface 233 v) 206 233 true).run prog w=.ok (.tuple #[v,.bool true]) w:=by kernel_rfl
def XU:Disp 233 241:=⟨fun _ _=>by kernel_rfl,fun _ _ _=>by kernel_rfl⟩
def M8:Disp 229 238:=⟨fun _ _=>by kernel_rfl,fun _ _ _=>by kernel_rfl⟩
def M9:Disp 249 242:=⟨fun _ _=>by kernel_rfl,fun _ _ _=>by kernel_rfl⟩
def NY:Disp 309 271:=⟨fun _ _=>by kernel_rfl,fun _ _ _=>by kernel_rfl⟩
def SY:Disp 311 272:=⟨fun _ _=>by kernel_rfl,fun _ _ _=>by kernel_rfl⟩
def N1:Disp 328 280:=⟨fun _ _=>by kernel_rfl,fun _ _ _=>by kernel_rfl⟩
def SU:Disp 327 279:=⟨fun _ _=>by kernel_rfl,fun _ _ _=>by kernel_rfl⟩
def JG:Disp 277 264:=⟨fun _ _=>by kernel_rfl,fun _ _ _=>by kernel_rfl⟩
def XS:Disp 275 263:=⟨fun _ _=>by kernel_rfl,fun _ _ _=>by kernel_rfl⟩
def XR:Disp 254 251:=⟨fun _ _=>by kernel_rfl,fun _ _ _=>by kernel_rfl⟩
def SX:Disp 274 254:=⟨fun _ _=>by kernel_rfl,fun _ _ _=>by kernel_rfl⟩
def XT:Disp 252 248:=⟨fun _ _=>by kernel_rfl,fun _ _ _=>by kernel_rfl⟩
def N0:Disp 251 243:=⟨fun _ _=>by kernel_rfl,fun _ _ _=>by kernel_rfl⟩
def SW:Disp 278 265:=⟨fun _ _=>by kernel_rfl,fun _ _ _=>by kernel_rfl⟩
def M7:Disp 279 268:=⟨fun _ _=>by kernel_rfl,fun _ _ _=>by kernel_rfl⟩
def N4:Disp 281 269:=⟨fun _ _=>by kernel_rfl,fun _ _ _=>by kernel_rfl⟩
def N2:Disp 231 240:=⟨fun _ _=>by kernel_rfl,fun _ _ _=>by kernel_rfl⟩
def N3:Disp 315 278:=⟨fun _ _=>by kernel_rfl,fun _ _ _=>by kernel_rfl⟩
def JH:Disp 314 276:=⟨fun _ _=>by kernel_rfl,fun _ _ _=>by kernel_rfl⟩
def ap_:fK 229:=fun _ _=>by kernel_rfl
def aq_:fK 249:=fun _ _=>by kernel_rfl
def WB:fK 309:=fun _ _=>by kernel_rfl
def I5:fK 311:=fun _ _=>by kernel_rfl
def as_:fK 328:=fun _ _=>by kernel_rfl
def G8:fK 327:=fun _ _=>by kernel_rfl
def RA:fK 277:=fun _ _=>by kernel_rfl
def X9:fK 275:=fun _ _=>by kernel_rfl
def X8:fK 254:=fun _ _=>by kernel_rfl
def H7:fK 274:=fun _ _=>by kernel_rfl
def Y0:fK 252:=fun _ _=>by kernel_rfl
def ar_:fK 251:=fun _ _=>by kernel_rfl
def G9:fK 278:=fun _ _=>by kernel_rfl
def ao_:fK 279:=fun _ _=>by kernel_rfl
def aw_:fK 281:=fun _ _=>by kernel_rfl
def au_:fK 231:=fun _ _=>by kernel_rfl
def av_:fK 315:=fun _ _=>by kernel_rfl
def RB:fK 314:=fun _ _=>by kernel_rfl
def bt_(t:TypeId)(z:aQ)(b:Bool):Prop:=(t=233/\(∃l p,z=.agg #[Iv0 l,.pointer p])/\b=true)\/(fK t/\b=false)
def S0(w:aG)(sb:Nat)(L:Nat->World->Prop)(P:World->Prop)(S:Nat->World->Prop)(M:Nat->Nat->Nat->World->Prop)(N:Nat->TypeId->Value->Nat->Bool->World->Prop)(I:Nat)(i:L I w)
 (Z:Hid (∀k W,L k W->∃x n c,W.cell? (aH sb 1)=some (.slice x n c)/\sb<W.heap.size/\n<=16/\(n=0->S 1 W)/\(n≠0->∃j,k=j+1/\∃f g,M j f g W)))
 (U:Hid (∀j f g W,M j f g W->Calls prog 64 #[bH sb] W fun e d=>e=aZ (.pointer (some (aH f g)))/\M j f g d))
 (X:Hid (∀j f g W,M j f g W->Calls prog 98 #[.pointer (some (aH f g))] W fun e d=>∃t z a b,e=aZ (.iface t z)/\Disp t a/\bt_ t z b/\N j t z a b d))
 (Y:Hid (∀j t z a b W,N j t z a b W->Calls prog a #[z,bH sb] W fun e d=>(e=aZ (.tuple #[])/\(b=true->∀A,P (d.alloc A))/\(b=false->∀A,L j (d.alloc A)))\/(∃q,e=fR q/\S q d))):
 Calls prog 83 #[bH sb] w fun e d=>(e=aZ (.tuple #[])/\P d)\/(∃q,e=fR q/\S q d):=by
 have T:=aB i;clear i;go_in
 go_wp2_with fail;go_loopg [2,3,4] I (fun gk _ _ _ wr=>L gk wr)
 case atStart=>exact T
 case round=>
  obtain⟨x,n,c,c1,hl,hn,B,D⟩:=Z _ _ hrel;by_cases i:n=0
  ·subst i;have HZ:=aB (B rfl);clear hrel B D;go_wp2_with fail;exact⟨rfl,ck_ ⟨1,rfl,HZ⟩⟩
  ·obtain⟨j,rfl,f,g,O⟩:=D i;have C:=aB (U _ _ _ _ O);have K:(0:Int)<(n:Int):=by omega
   clear hrel B D O;go_wp2_with fail;refine C.mono ?_;rintro e w1 ⟨rfl,J⟩;have E:=aB (X _ _ _ _ J);clear J;go_wp2_with fail;refine E.mono ?_;rintro e Q ⟨t,z,a,b,rfl,s,V,G⟩;have F:=aB (Y _ _ _ _ _ _ G);have m:=s.1 z Q;have h:=s.2 z (bH sb) Q;clear G s;go_wp2_with fail;refine F.mono ?_;rintro e H (⟨rfl,o,u⟩|⟨q,rfl,o⟩)
   ·rcases V with ⟨rfl,⟨l,p,rfl⟩,rfl⟩|⟨r,rfl⟩
    ·have v:=Z0 (.agg #[Iv0 l,.pointer p]) H;have y:=aB (o rfl);clear o u m h;go_wp2_with fail;exact⟨rfl,_,results_none (by rfl) _ _ _,cl_ ⟨rfl,y _⟩⟩
    ·have v:=r z H;have y:=aB (u rfl);clear o u m h r;go_wp2
     go_roundg j
     case measure=>omega
     case rel=>exact y _
   ·go_wp2_with fail;exact⟨rfl,ck_ ⟨q,rfl,o⟩⟩
def pG{d:Type}{l:List d}(h:1<=l.length):∃c a,l=c++[a]:=by
 rcases dl_ l with e|⟨b,x,e⟩
 ·subst e;simp at h
 ·exact⟨b,x,by rw[e,dm_]⟩
def MH{c:Type}{l:List c}{n:Nat}(h:n<=l.length):∃b a,l=b++a/\a.length=n:=
 ⟨l.take (l.length-n),l.drop (l.length-n),(cY_ _ _).symm,by simp;omega⟩
def T7{f:Type}{l:List f}(h:2<=l.length):∃c a b,l=c++[a,b]:=by
 obtain⟨c,d,e,g⟩:=MH h;match d,g with
 |[a,b],_=>exact⟨c,a,b,e⟩
section
variable {fp:eQ} {F:bX} {base:Nat} {w:aG} {sb gf cap:Nat} {t0 tv outv s0:aQ} {fvs:List FVal} {below:List aJ} {f0 f:aJ} {tape:List Int} {out:cN}
def Z1{x:Bool}{i:aI}{v:aQ}(E:p7 i f)(h:dA x fp F base w sb gf cap t0 tv outv s0 fvs ⟨below++[f],tape,out⟩)(d:below.length<=15)(c:base<=w.heap.size)(m:lQ fp F w v i):
 ∃t z o,v=.iface t z/\Disp t o/\fK t/\Calls prog o #[z,bH sb] w (iV x fp F base sb gf t0 s0 (aR x sb gf outv fvs) w below tape out (aL i f)):=by
 obtain⟨I,g,y,s,K,D,T,p,⟨-, -,j⟩,L,M⟩:=E;cases i<;>first|(cases I;done)|skip
 case push a=>
  obtain⟨u,rfl,C,B⟩:=m;refine⟨_,_,_,rfl,M8,ap_,(VJ fp F base w sb gf cap t0 tv outv s0 fvs below _ tape out u a h C B (by omega) d c).mono ?_⟩
  rintro e J ⟨rfl,A⟩;exact iV.ok rfl A
 case load k=>
  obtain rfl:=m;exact⟨_,_,_,rfl,M9,aq_,ay_ k h d c g (by have:=j.1;omega)⟩
 case shortcut wh q=>
  obtain rfl:=m;exact⟨_,_,_,rfl,JG,RA,PW wh q h d c g (pG (by have:=j.1;omega))⟩
 case truth=>
  obtain rfl:=m;exact⟨_,_,_,rfl,XS,X9,R7 h d c g (pG (by have:=j.1;omega))⟩
 case unary op=>
  obtain rfl:=m;exact⟨_,_,_,rfl,XR,X8,Q9 op (y.fn.2 op s) h d c g (pG (by have:=j.1;omega))⟩
 case binary op=>
  obtain rfl:=m;exact⟨_,_,_,rfl,SX,H7,O9 op h d c g (T7 (by have:=j.1;omega))⟩
 case index=>
  obtain rfl:=m;obtain⟨r,a,b,e⟩:=T7 (l:=f.ops) (by have:=j.1;omega)
  exact⟨_,_,_,rfl,XT,Y0,Z7 h d c g ⟨r,a,b,e,y.ops a (by rw[e];simp)⟩⟩
 case list n=>
  obtain rfl:=m;obtain⟨r,G,H,rfl⟩:=MH (l:=f.ops) (n:=n) (by have:=j.1;omega)
  exact⟨_,_,_,rfl,N0,ar_,az_ r G h d c g H⟩
 case length=>
  obtain rfl:=m;obtain⟨r,a,e⟩:=pG (l:=f.ops) (by have:=j.1;omega)
  exact⟨_,_,_,rfl,SW,G9,J9 h d c g ⟨r,a,e,y.ops a (by rw[e];simp)⟩⟩
def bz_{ar:Nat->Option Nat}{r:List eU}{i:aI}{v:aQ}(ht:kV ar r)(O:fY ar ⟨below++[f0],tape,out⟩)(y:f0.fetch=some (i,f))(hU:gK ⟨below++[f0],tape,out⟩)
 (h:dA false fp F base w sb gf cap t0 tv outv s0 fvs ⟨below++[f],tape,out⟩) (hT:mC fp F w r) (hp:BZ (aR false sb gf outv fvs) w) (c:base<=w.heap.size) (M:out.length<=50) (N:tape.length<=17592186044416) (A:lQ fp F w v i):
 ∃t z B b,v=.iface t z/\Disp t B/\bt_ t z b/\b=i.isBegin/\Calls prog B #[z,bH sb] w (DoM fp F base sb t0 s0 (aR false sb gf outv fvs) w (Hs.doI r i below f tape out)):=by
 have C:∀x∈below,cQ ar x 1:=by have:=O.ok.low;simpa only[gE] using this
 have K:cQ ar f0 0:=O.ok.top f0 (fB _ _);have d:below.length<=15:=by have:=O.ok.deep;simp at this;omega
 have U:dF f0:=hU f0 (by simp)
 obtain⟨⟨T,hc,hh,hv,he⟩,aa,hs,hm⟩:=K
 obtain⟨rfl,Z⟩:f={ f0 with next:=f0.next+1 }/\f0.fn.code[f0.next]?=some i:=by
  unfold aJ.fetch at y;cases hx:f0.fn.code[f0.next]? with
  |none=>rw[hx] at y;cases y
  |some j=>rw[hx] at y;simp at y;exact⟨y.2.symm,by rw[y.1]⟩
 obtain⟨I,V,o⟩:=hc.ins _ _ Z;have ab:=hc.len;have m:f0.ops.length<=99000:=by omega
 have S:∀g∈below,g.ops.length<=99000:=fun g hg=>by
  obtain⟨⟨T',G,ac,_⟩,Q,_⟩:=C g hg;have h1:=(G.ins _ _ (cz_ Q)).2.1;have h2:=G.len;omega
 have E:i∈f0.fn.code:=c0_ Z;by_cases u:i.isEx=true
 ·obtain⟨t,z,B,J,P,X,e4⟩:=Z1 (f:={ f0 with next:=f0.next+1 }) ⟨u,m,U.next _,E,ar,_,T,_,⟨I,V,o⟩,hh,hv⟩ h d c A
  refine⟨t,z,B,false,J,P,ck_ ⟨X,rfl⟩,(by cases i<;>first|rfl|(cases u;done)),e4.mono fun _ _ h=>?_⟩
  rw[tI (by rintro rfl;cases u) (by rintro rfl;cases u) (by rintro rfl;cases u) (by rintro k n rfl;cases u)]
  exact h.toP
 clear I;cases i<;>first|(exact absurd rfl u;done)|skip
 case begin l s=>
  obtain⟨sp,rfl,H⟩:=A;obtain⟨p,rfl⟩:=H.form;exact⟨_,_,_,true,rfl,XU,cl_ ⟨rfl,⟨_,_,rfl⟩,rfl⟩,rfl,(l8 l _ s h d c H).mono fun _ _ h=>h.toP⟩
 case declare k=>
  obtain rfl:=A;exact⟨_,_,_,false,rfl,NY,ck_ ⟨WB,rfl⟩,rfl,XV k h d c m (pG (by have:=o.1;show 1<=f0.ops.length;omega)) (by have:=o.2.1;show k<=f0.vars.length;omega) hm⟩
 case assign k n=>
  obtain rfl:=A;obtain⟨L,W,J,P⟩:=MH (l:=f0.ops) (n:=n+1) (by have:=o.1;omega)
  obtain⟨D,b,rfl⟩:=pG (l:=W) (by omega)
  have X:D.length=n:=by simpa using P
  subst X;exact⟨_,_,_,false,rfl,SY,ck_ ⟨I5,rfl⟩,rfl,P3 k L D b h d c m (by show f0.ops=_;rw[J];simp) (by have:=o.2.1;show k<f0.vars.length;omega)⟩
 case jump q=>
  obtain rfl:=A;exact⟨_,_,_,false,rfl,N1,ck_ ⟨as_,rfl⟩,rfl,(aE_ q h d c).mono fun _ _ h=>h.toP⟩
 case skip q=>
  obtain rfl:=A;exact⟨_,_,_,false,rfl,SU,ck_ ⟨G8,rfl⟩,rfl,(ZY q h d c m (pG (by have:=o.1;show 1<=f0.ops.length;omega))).mono fun _ _ h=>h.toP⟩
 case read=>
  obtain rfl:=A;exact⟨_,_,_,false,rfl,M7,ck_ ⟨ao_,rfl⟩,rfl,ae_ r h d c m N⟩
 case call k n=>
  obtain rfl:=A;obtain⟨L,W,J,rfl⟩:=MH (l:=f0.ops) (n:=n) (by have:=o.1;omega)
  obtain⟨fn,_,Y,_⟩:=ht.fn k _ o.2.1;exact⟨_,_,_,false,rfl,N4,ck_ ⟨aw_,rfl⟩,rfl,a3_ r k fn L W h d c m J hT Y⟩
 case give=>
  obtain rfl:=A;exact⟨_,_,_,false,rfl,N2,ck_ ⟨au_,rfl⟩,rfl,aO_ r h d c m (pG (by have:=o;show 1<=f0.ops.length;omega)) S⟩
 case drop=>
  obtain rfl:=A;exact⟨_,_,_,false,rfl,N3,ck_ ⟨av_,rfl⟩,rfl,(aU_ h d c m (pG (by have:=o.1;show 1<=f0.ops.length;omega))).mono fun _ _ h=>h.toP⟩
 case print=>
  obtain rfl:=A;obtain⟨L,a,e⟩:=pG (l:=f0.ops) (by have:=o.1;omega)
  exact⟨_,_,_,false,rfl,JH,ck_ ⟨RB,rfl⟩,rfl,U7 r h hp d c m e M⟩
end
def S1{b:List eU}{j:Nat}{a:List aJ}{e f:aJ}{t:List Int}{o:cN}{i:aI}{r:cR × Nat}(h:dQ b (j+1) ⟨a++[e],t,o⟩=some r)(g:e.fetch=some (i,f)):
 ((Hs.doI b i a f t o).2≠0->r=Hs.doI b i a f t o)/\((Hs.doI b i a f t o).2=0->i.isBegin=true->r=Hs.doI b i a f t o)/\((Hs.doI b i a f t o).2=0->i.isBegin=false->dQ b j (Hs.doI b i a f t o).1=some r):=by
 rw[dQ] at h;simp only[fB,g,gE] at h;refine⟨fun c=>?_,fun c d=>?_,fun c d=>?_⟩
 ·rw[if_pos c] at h;cases h;rfl
 ·rw[if_neg (by rw[c];simp),if_pos d] at h;cases h;rfl
 ·rw[if_neg (by rw[c];simp),d] at h;exact h
def ZJ{b:List eU}{i:aI}{a:List aJ}{f:aJ}{t:List Int}{o:cN}(c:o.length<=50):(Hs.doI b i a f t o).1.out.length<=50:=by
 cases i<;>simp only[Hs.doI]<;>(repeat' split)<;>first|exact c|(simp;omega)
def ST{b:List eU}{i:aI}{a:List aJ}{f:aJ}{t:List Int}{o:cN}:(Hs.doI b i a f t o).1.tape.length<=t.length:=by
 cases i<;>simp only[Hs.doI]<;>(repeat' split)<;>first|exact cy_ _|simp
section
variable {fp:eQ} {F:bX} {base:Nat} {w:aG} {sb gf cap:Nat} {t0 tv outv s0:aQ} {fvs:List FVal} {below:List aJ} {f0 f:aJ} {tape:List Int} {out:cN}
def dA.fetched{d:Bool}{i:aI}(h:dA d fp F base w sb gf cap t0 tv outv s0 fvs ⟨below++[f0],tape,out⟩)(g:f0.fetch=some (i,f))(L:f0.fn.code.length<=1000000):
 Calls prog 98 #[.pointer (some (aH gf (below.length*6)))] w fun e o=>∃v c,e=aZ v/\lQ fp F o v i/\dA d fp F base o sb gf cap t0 tv outv s0 c ⟨below++[f],tape,out⟩/\Kept (aR d sb gf outv fvs) w o/\aR d sb gf outv c=aR d sb gf outv fvs:=by
 obtain⟨N,v,s,rfl,t,y,G,l,D,C,B,Z,W,k4,X⟩:=h.top;rw[<-t]
 obtain⟨O,rfl⟩:f0.fn.code[f0.next]?=some i/\f={ f0 with next:=f0.next+1 }:=by
  unfold aJ.fetch at g;cases E:f0.fn.code[f0.next]? with
  |none=>rw[E] at g;cases g
  |some j=>rw[E] at g;simp at g;exact⟨by rw[g.1],g.2.symm⟩
 obtain⟨m,z⟩:=cQ_.1 O;obtain⟨p,M,U,T,P,Y,Q,e4,H,J⟩:=y.fn;obtain⟨u,u1,u2⟩:=J f0.next m
 rw[z] at u2;rw[P] at C;rw[y.nx] at B;refine(L8 gf (N.length*6) p M f0.fn.code.length U f0.next s _ u w l C B Q (aA H u1) u2.form m L).mono ?_
 rintro e o ⟨S,q,rfl⟩;have n:=aV.drewN w q;have A:=h.grow n.below dX (fun _ h=>cl_ h)
 have a:OP d fp F base (w.drewN q) v f0:=y.keep (fun b _=>by rw[n.heap]) dX fun k _=>by rw[n.heap]
 have r:OP d fp F base (w.drewN q) { v with nx:=Iv0 ((f0.next+1:Nat):Int) } { f0 with next:=f0.next+1 }:=⟨a.fn,rfl,a.ln,a.sp,a.vars,a.ops⟩
 obtain⟨K,V⟩:=A.setTop (j:=1) (x:=Iv0 ((f0.next+1:Nat):Int)) (v':={ v with nx:=Iv0 ((f0.next+1:Nat):Int) }) (by omega) rfl rfl r
 refine⟨u,_,S,u2.keep (fun b I=>?_) dX,K,(Kept.of_below n.below).trans V fun _ h=>cl_ h,by simp[aR,cA,FVal.ownX]⟩
 rw[cm_ _ _ _ _ fun e=>(h.apart b I).2 (by simp[aR,e]),n.heap]
def bZ_(fp:eQ)(F0:bX)(base sb:Nat)(t0 s0:aQ)(own0:List Nat)(w0:aG)(ar:Nat->Option Nat)(tab:List eU)(m:cR)(W:aG):Prop:=
 ∃F gf cap tv outv fvs,Ext F0 F w0.heap.size/\dA false fp F base W sb gf cap t0 tv outv s0 fvs m/\mC fp F W tab/\Kept own0 w0 W/\(∀x∈aR false sb gf outv fvs,x∈own0\/w0.heap.size<=x)/\fY ar m/\gK m/\m.out.length<=50/\m.tape.length<=17592186044416
def AJ{ar:Nat->Option Nat}{g:List eU}{m:cR}{k:Nat}{r:cR × Nat}(ht:kV ar g)(ak:kK g)(h:dA false fp F base w sb gf cap t0 tv outv s0 fvs m)(hT:mC fp F w g)(hp:BZ (aR false sb gf outv fvs) w)(aa:base<=w.heap.size)
 (hA:fY ar m) (hU:gK m) (aj:m.out.length<=50) (al:m.tape.length<=17592186044416) (A:dQ g k m=some r):
 Calls prog 83 #[bH sb] w (DoM fp F base sb t0 s0 (aR false sb gf outv fvs) w r):=by
 generalize ae:aR false sb gf outv fvs=d at hp
 refine(S0 w sb (fun k W=>∃m,bZ_ fp F base sb t0 s0 d w ar g m W/\dQ g k m=some r)
  (fun W=>r.2=0/\Done fp F base sb t0 s0 d w r.1 W) (fun q W=>q=r.2/\r.2≠0/\Done fp F base sb t0 s0 d w r.1 W)
  (fun j fa fj W=>∃y gf cap tv outv fvs a B c n,fa=gf/\fj=a.length*6/\(Ext F y w.heap.size/\dA false fp y base W sb gf cap t0 tv outv s0 fvs ⟨a++[B],c,n⟩/\mC fp y W g/\Kept d w W/\(∀x∈aR false sb gf outv fvs,x∈d\/w.heap.size<=x))/\(fY ar ⟨a++[B],c,n⟩/\gK ⟨a++[B],c,n⟩/\n.length<=50/\c.length<=17592186044416)/\dQ g (j+1) ⟨a++[B],c,n⟩=some r)
  (fun j t z Q b W=>∃y gf cap tv outv fvs a B f i c n,(Ext F y w.heap.size/\dA false fp y base W sb gf cap t0 tv outv s0 fvs ⟨a++[f],c,n⟩/\mC fp y W g/\Kept d w W/\(∀x∈aR false sb gf outv fvs,x∈d\/w.heap.size<=x))/\(fY ar ⟨a++[B],c,n⟩/\gK ⟨a++[B],c,n⟩/\n.length<=50/\c.length<=17592186044416)/\dQ g (j+1) ⟨a++[B],c,n⟩=some r/\B.fetch=some (i,f)/\b=i.isBegin/\
    Calls prog Q #[z,bH sb] W (DoM fp y base sb t0 s0 (aR false sb gf outv fvs) W (Hs.doI g i a f c n)))
  k ⟨m,⟨F,gf,cap,tv,outv,fvs,Ext.refl _ _,h,hT,Kept.refl _ _,fun x s=>cl_ (by rw[<-ae];exact s),hA,hU,aj,al⟩,A⟩ (fun k W hL=>?_) (fun j fa fj W hM=>?_) (fun j fa fj W hM=>?_) (fun j t z Q b W hN=>?_)).mono ?_
 ·obtain⟨m,⟨y,gf,cap,tv,outv,fvs,P,C,g3,E,L,J,U,Z,Y⟩,A⟩:=hL;have hc:=C.count;have hd:=J.ok.deep;refine⟨_,_,_,aA C.blk rfl,aC C.blk,by omega,fun h0=>?_,fun h0=>?_⟩
  ·have hm:m.frames=[]:=cF_ (by omega)
   cases k with
   |zero=>rw[dQ] at A;cases A
   |succ j=>
    rw[dQ,hm] at A;simp only[List.getLast?_nil] at A;cases A;exact⟨rfl,Nat.one_ne_zero,E,y,gf,cap,tv,outv,fvs,P,C,L⟩
  ·obtain⟨b,f,e⟩:=lY (l:=m.frames) (fun e=>h0 (by rw[hc,e];rfl))
   obtain⟨fr,t,o⟩:=m;simp only at e;subst e;cases k with
   |zero=>rw[dQ] at A;cases A
   |succ j=>exact⟨j,rfl,gf,b.length*6,y,gf,cap,tv,outv,fvs,b,f,t,o,rfl,rfl,⟨P,C,g3,E,L⟩,⟨J,U,Z,Y⟩,A⟩
 ·obtain⟨y,gf,cap,tv,outv,fvs,b,f,t,o,rfl,rfl,⟨P,C,g3,E,L⟩,⟨J,U,Z,Y⟩,A⟩:=hM;have hc:=C.count;have hd:=J.ok.deep;have X:=C.blk;rw[hc,cp_,dg_] at X;simp at hd;refine(oN sb fa b.length cap W (aA X rfl) (by omega)).mono ?_
  rintro e H ⟨he,q,rfl⟩;have hS:=aV.drewN W q;exact⟨he,y,fa,cap,tv,outv,fvs,b,f,t,o,rfl,rfl,⟨P,C.grow hS.below dX (fun _ h=>cl_ h),g3.keep (fun b _=>by rw[hS.heap]) dX,E.trans (Kept.of_below (own:=[]) hS.below) (fun x s=>by simp at s),L⟩,⟨J,U,Z,Y⟩,A⟩
 ·obtain⟨y,gf,cap,tv,outv,fvs,b,B,t,o,rfl,rfl,⟨P,C,g3,E,L⟩,⟨J,U,Z,Y⟩,A⟩:=hM;have N:cQ ar B 0:=J.ok.top B (fB _ _);have V:=AA N.next
  obtain⟨T,hc, -⟩:=N.code;have am:=hc.len;generalize B.fn.code[B.next]'N.next=i at V
  refine(C.fetched V (by omega)).mono ?_
  rintro e H ⟨v,p,he,q1,q2,q3,q4⟩;have ac:mC fp y H g:=g3.keep (fun x s=>q3.block x (C.apart x s).1 (C.apart x s).2) dX
  have D:Kept d w H:=E.trans q3 L;have ag:BZ (aR false sb fa outv p) H:=hp.step D (fun x s=>L x (by rw[<-q4];exact s))
  obtain⟨t',z,Q,bb,e1,e2,e3,e4,e5⟩:=bz_ ht J V U q2 ac ag (cw_ aa D.size) Z Y q1;exact⟨t',z,Q,bb,by rw[he,e1],e2,e3,y,fa,cap,tv,outv,p,b,B,_,i,t,o,⟨P,q2,ac,D,fun x s=>L x (by rw[<-q4];exact s)⟩,⟨J,U,Z,Y⟩,A,V,e4,e5⟩
 ·obtain⟨y,gf,cap,tv,outv,fvs,a,B,f,i,tp,o,⟨P,C,g3,E,L⟩,⟨J,U,Z,Y⟩,A,V,hb,hc⟩:=hN;obtain⟨s1,s2,s3⟩:=S1 A V;refine hc.mono ?_;rintro e H ⟨he,ad,G,S,K,ab,u,p,d1,d2,d3⟩;have D:Kept d w H:=E.trans ad L
  have M:∀x∈aR false sb S u p,x∈d\/w.heap.size<=x:=fun x s=>by
   rcases d3 x s with h1|h1
   ·exact L x h1
   ·exact ck_ (cw_ E.size h1)
  have af:mC fp G H g:=g3.keep (fun x s=>ad.block x (C.apart x s).1 (C.apart x s).2) d1.sub
  have I:∀O,Below H.heap.size H (H.alloc O):=fun O=>(co_ _ H).alloc cL O
  rcases he with ⟨hz,rfl⟩|⟨hz,rfl⟩
  ·refine cl_ ⟨rfl,fun ah O=>?_,fun ai O=>?_⟩
   ·have hr:=s2 hz (by rw[<-hb];exact ah)
    rw[hr];exact⟨hz,D.trans (Kept.of_below (own:=[]) (I O)) (fun x s=>by simp at s),G,S,K,ab,u,p,P.trans d1 E.size,d2.grow (I O) dX (fun _ h=>cl_ h),M⟩
   ·refine⟨_,⟨G,S,K,ab,u,p,P.trans d1 E.size,d2.grow (I O) dX (fun _ h=>cl_ h),af.keep (fun x s=>(I O).block x (d2.apart x s).1) dX,D.trans (Kept.of_below (own:=[]) (I O)) (fun x s=>by simp at s),M,(yZ ht J V).2.2 hz,FX ak U V,ZJ Z,cw_ ST Y⟩,s3 hz (by rw[<-hb];exact ai)⟩
  ·refine ck_ ⟨_,rfl,?_⟩;have hr:=s1 hz;rw[hr];exact⟨rfl,hz,D,G,S,K,ab,u,p,P.trans d1 E.size,d2,M⟩
 ·rintro e H (⟨rfl,h1,h2⟩|⟨q,rfl,rfl,h1,h2⟩)
  ·exact⟨cl_ ⟨h1,rfl⟩,h2⟩
  ·exact⟨ck_ ⟨h1,rfl⟩,h2⟩
end
def by_(v:aQ)(w:aG):(typeAssert (.iface 204 v) 20 204 true).run prog w=.ok (.tuple #[v,.bool true]) w:=by kernel_rfl
def ZC(fn:Fn)(first a:Array Value)(w:aG):(Instr.makeFunc fn first a).run prog w=.ok (.func fn first a) w:=rfl
def YC(p k:Nat)(a:List PanicEntry)(w:aG)(b:w.heap[p]?=some (.cells #[Iv0 0] 29 (0,0))):
 CallsD prog 97 #[bH p] (.panicking ({ v:=.iface 204 (Iv0 k),recovered:=false }::a)) w fun e h d=>
  e=aZ (.tuple #[])/\h=.panicking ({ v:=.iface 204 (Iv0 k),recovered:=true }::a)/\d=w.setCell (aH p 0) (Iv0 k):=by
 have m:w.cell? (aH p 0)=some (Iv0 0):=aA b rfl;have n:=aD (i:=0) b;have j:=aC b;have f:=by_;refine callsD_of_wpS func97 rfl fun c l g=>?_
 apply wpS_seq
 apply wpS_region
 simp[wpOpsS,go_sem,recoverD,g,ntmps97,Exit.thenS];refine wpS_of_wp ?_;clear b;go_wp2_with fail;exact⟨rfl,_,rfl,.tuple #[],by simp[results,results97],rfl,rfl,rfl⟩
def YD(p:Addr)(w:aG):
 CallsD prog 97 #[.pointer (some p)] .returning w fun e d c=>e=aZ (.tuple #[])/\d=.returning/\c=w:=by
 refine callsD_of_wpS func97 rfl fun a f b=>?_
 apply wpS_seq
 apply wpS_region
 simp[wpOpsS,go_sem,recoverD,b,ntmps97,Exit.thenS];refine wpS_of_wp ?_;go_wp2_with fail;exact⟨rfl,a.mode,rfl,.tuple #[],by simp[results,results97],rfl,b,rfl⟩
def DO(b:Nat)(p:Addr)(w:aG)(R:Nat->World->Prop)(c:∀a W,(callFunc b #[a]).run prog W=.ok (.enter b #[a]) W)
 (h:Calls prog b #[.pointer (some p)] (w.alloc (.cells #[Iv0 0] 29)) fun e d=>∃k,p9 k e/\R k d/\d.heap[w.heap.size]?=some (.cells #[Iv0 0] 29 (0,0))):
 Calls prog 61 #[.func (.func b) #[.pointer (some p)] #[]] w fun e d=>∃(k:Nat) (w1:aG),e=aZ (Iv0 k)/\R k w1/\d=w1.setCell (aH w.heap.size 0) (Iv0 k):=by
 have q:=ZC;have r:=c (.pointer (some p)) (w.alloc (.cells #[Iv0 0] 29));have l:=aB h;clear h c;go_enter_defers func61,ntmps61
 go_wp2_with fail;refine l.mono ?_;rintro e w1 ⟨k,n,o,g⟩;have m:=aB o;have j:w1.cell? (aH w.heap.size 0)=some (Iv0 0):=aA g rfl;have u:=aD (i:=0) g;have v:=aC g;clear o l;rcases n with ⟨rfl,rfl⟩|⟨n,rfl⟩
 ·go_wp2_with fail;refine leaves_cons (f:=97) (args:= #[bH w.heap.size]) (by simp) (by simp[go_sem]) ?_
  refine(YD (aH w.heap.size 0) _).mono ?_;rintro e s t ⟨rfl,rfl,rfl⟩;simp[Leaves,settle,results,results61,go_sem,j];exact⟨0,rfl,w1,m,rfl⟩
 ·go_wp2_with fail;refine leaves_cons (f:=97) (args:= #[bH w.heap.size]) (by simp) (by simp[go_sem]) ?_
  refine(YC w.heap.size k [] _ g).mono ?_;rintro e s x ⟨rfl,rfl,rfl⟩;simp[Leaves,settle,results,results61,go_sem,j];exact⟨k,rfl,w1,m,rfl⟩
def Z3:(prog.info? 3).map (fun i=>(i.zero,i.size,i.bytes))=some (some (Iv0 0),1,8):=by kernel_rfl
def uC(g h n c:Nat)(b:List Value)(w:World)(B:b.length=n*1)(G:n<=1000000)(r:∀j u,b[j]?=some u->w.cell? ⟨g,h+j,none⟩=some u)(x:∀u∈b,u.oneCell'=true):
 Calls prog 41 #[.slice (some ⟨g,h,none⟩) n c] w fun e q=>∃v',e=.returned v'/\q.ownsRow w.heap.size 9 1 v' n b/\Below w.heap.size w q:=by
 obtain⟨z,C,m,o,p⟩:=info_parts wQ;have y:=aB r;clear r;have v:∀(w:World) (a:Option Addr) (n c l i:Nat),(binOp .eql 37 (.slice a n c) (.slice none l i)).run prog w=.ok (.bool a.isNone) w:=fun w a n c l i=>Lib.run_eql_slice_nil w _ _ a n c l i underlying37
 go_enter func41,ntmps41;go_wp2_with (at_builtin;refine wpList_append_own _ (by rfl) _ _ 37 (by rfl) w.heap.size 9 z _ 1 16 underlying37 C m o p rfl (by decide) (.slice (some ⟨w.heap.size,0,none⟩) 0 0) 0 [] (by rfl) (World.ownsRow_made w #[] 0 (cy_ _) (cU_ _) (by simp)) ⟨g,h,none⟩ n c b (by rfl) B (fun j u D=>by rw[Addr.add_lit];exact jF _ (y.out j u D)) x (by unfold maxLen;omega) (by omega) (by simp) ?_)
 intro v' E d f _;have A:=aB d;have t:=aB f;obtain⟨F,i,rfl⟩:=dE d;clear d f;go_wp2_with fail;go_ret;refine⟨_,rfl,by simpa using A.out,?_⟩
 exact((co_ _ w).alloc (cy_ _) _).grown t.out (by simp) (by intro k s;simp[Value.ownBlock] at s;omega)
def uB(w:aG):
 Calls prog 41 #[bF] w fun e f=>e=aZ (bF)/\f=w:=by
 have g:∀(w:aG) (a:Option Addr) (n c b d:Nat),(binOp .eql 37 (.slice a n c) (.slice none b d)).run prog w=.ok (.bool a.isNone) w:=fun w a n c b d=>Lib.run_eql_slice_nil w _ _ a n c b d underlying37
 go_in
 go_wp2
 go_ret;exact⟨rfl,rfl⟩
def JM(g h n c:Nat)(b:List Value)(w:World)(B:b.length=n*1)(G:n<=17592186044416)(r:∀j u,b[j]?=some u->w.cell? ⟨g,h+j,none⟩=some u)(x:∀u∈b,u.oneCell'=true):
 Calls prog 50 #[.slice (some ⟨g,h,none⟩) n c] w fun e q=>∃v',e=.returned v'/\q.ownsRow w.heap.size 3 1 v' n b/\Below w.heap.size w q:=by
 obtain⟨z,C,m,o,p⟩:=info_parts Z3;have y:=aB r;clear r;have v:∀(w:World) (a:Option Addr) (n c l i:Nat),(binOp .eql 22 (.slice a n c) (.slice none l i)).run prog w=.ok (.bool a.isNone) w:=fun w a n c l i=>Lib.run_eql_slice_nil w _ _ a n c l i underlying22
 go_enter func50,ntmps50;go_wp2_with (at_builtin;refine wpList_append_own _ (by rfl) _ _ 22 (by rfl) w.heap.size 3 z _ 1 8 underlying22 C m o p rfl (by decide) (.slice (some ⟨w.heap.size,0,none⟩) 0 0) 0 [] (by rfl) (World.ownsRow_made w #[] 0 (cy_ _) (cU_ _) (by simp)) ⟨g,h,none⟩ n c b (by rfl) B (fun j u D=>by rw[Addr.add_lit];exact jF _ (y.out j u D)) x (by unfold maxLen;omega) (by omega) (by simp) ?_)
 intro v' E d f _;have A:=aB d;have t:=aB f;obtain⟨F,i,rfl⟩:=dE d;clear d f;go_wp2_with fail;go_ret;refine⟨_,rfl,by simpa using A.out,?_⟩
 exact((co_ _ w).alloc (cy_ _) _).grown t.out (by simp) (by intro k s;simp[Value.ownBlock] at s;omega)
def JL(w:aG):
 Calls prog 50 #[bF] w fun e f=>e=aZ (bF)/\f=w:=by
 have g:∀(w:aG) (a:Option Addr) (n c b d:Nat),(binOp .eql 22 (.slice a n c) (.slice none b d)).run prog w=.ok (.bool a.isNone) w:=fun w a n c b d=>Lib.run_eql_slice_nil w _ _ a n c b d underlying22
 go_in
 go_wp2
 go_ret;exact⟨rfl,rfl⟩
def JN(g h n c:Nat)(b:List Value)(w:World)(B:b.length=n*6)(G:n<=1000000)(r:∀j u,b[j]?=some u->w.cell? ⟨g,h+j,none⟩=some u)(x:∀u∈b,u.oneCell'=true):
 Calls prog 121 #[.slice (some ⟨g,h,none⟩) n c] w fun e q=>∃v',e=.returned v'/\q.ownsRow w.heap.size 108 6 v' n b/\Below w.heap.size w q:=by
 obtain⟨z,C,m,o,p⟩:=info_parts KX;have y:=aB r;clear r;have v:∀(w:World) (a:Option Addr) (n c l i:Nat),(binOp .eql 47 (.slice a n c) (.slice none l i)).run prog w=.ok (.bool a.isNone) w:=fun w a n c l i=>Lib.run_eql_slice_nil w _ _ a n c l i underlying47
 go_enter func121,ntmps121;go_wp2_with (at_builtin;refine wpList_append_own _ (by rfl) _ _ 47 (by rfl) w.heap.size 108 z _ 6 80 underlying47 C m o p rfl (by decide) (.slice (some ⟨w.heap.size,0,none⟩) 0 0) 0 [] (by rfl) (World.ownsRow_made w #[] 0 (cy_ _) (cU_ _) (by simp)) ⟨g,h,none⟩ n c b (by rfl) B (fun j u D=>by rw[Addr.add_lit];exact jF _ (y.out j u D)) x (by unfold maxLen;omega) (by omega) (by simp) ?_)
 intro v' E d f _;have A:=aB d;have t:=aB f;obtain⟨F,i,rfl⟩:=dE d;clear d f;go_wp2_with fail;go_ret;refine⟨_,rfl,by simpa using A.out,?_⟩
 exact((co_ _ w).alloc (cy_ _) _).grown t.out (by simp) (by intro k s;simp[Value.ownBlock] at s;omega)
def L4(w:aG)(sb a:Nat)(R:Nat->World->Prop)(P:World->Prop)(q:a<=1000000)
 (m:Hid (Calls prog 61 #[.func (.func 83) #[bH sb] #[]] w fun e d=>∃k:Nat,k<=1000/\e=aZ (Iv0 k)/\R k d))
 (l:Hid (∀k W,R k W->(∃u,W.cell? (aH sb 4)=some u)/\W.frozen? (aH sb 4)=false/\sb<W.heap.size/\W.cell? (aH sb 0)=some (Iv0 a)))
 (i:Hid (∀k W,R k W->¬(k=0/\a=500)->P (W.setCell (aH sb 4) (Iv0 k))))
 (o:Hid (∀W,R 0 W->a=500->P ((W.setCell (aH sb 4) (Iv0 0)).setCell (aH sb 4) (Iv0 9)))):
 Calls prog 51 #[bH sb] w fun e d=>e=aZ (.tuple #[])/\P d:=by
 have j:=ZC;go_in
 go_wp2_with fail;refine m.mono ?_;rintro e p ⟨k,r,rfl,b⟩;obtain⟨⟨u,v⟩,s,x,t⟩:=l _ _ b;by_cases f:k=0
 ·subst f;by_cases g:a=500
  ·subst g;have c:=aB (o _ b rfl);clear b;go_wp2
   go_end0;exact⟨rfl,c⟩
  ·have c:=aB (i _ _ b (fun h=>g h.2))
   have n:¬(a:Int)=500:=by omega
   clear b;go_wp2
   go_end0;exact⟨rfl,c⟩
 ·have c:=aB (i _ _ b (fun h=>f h.1))
  have n:¬(k:Int)=0:=by omega
  clear b;go_wp2
  go_end0;exact⟨rfl,c⟩
section
variable {fp:eQ} {F:bX} {base:Nat} {w:aG} {sb gf cap:Nat} {t0 tv outv s0:aQ} {fvs:List FVal}
def dA.setStop{m:cR}(h:dA false fp F base w sb gf cap t0 tv outv s0 fvs m)(x:aQ):dA false fp F base (w.setCell (aH sb 4) x) sb gf cap t0 tv outv x fvs m/\Kept (aR false sb gf outv fvs) w (w.setCell (aH sb 4) x):=by
 obtain⟨d,o⟩:=cB_.1 h.nodup;have a:∀k,k≠sb->(w.setCell (aH sb 4) x).heap[k]?=w.heap[k]?:=fun k a=>cm_ _ _ _ _ a
 have c:∀b,F b->(w.setCell (aH sb 4) x).heap[b]?=w.heap[b]?:=fun b j=>a b fun e=>(h.apart b j).2 (by simp[aR,e])
 refine⟨⟨aK h.blk,aW h.row fun k e=>a k ?_,h.frs.keep c dX fun v i k f=>a k ?_,h.tape.keep c dX,aW h.out fun k e=>a k ?_,h.nodup,fun k a=>by simpa using h.lt k a,fun k a=>by simpa using h.apart k a⟩,⟨rfl,rfl,rfl,by simp,fun k _ n=>a k fun e=>n (by simp[aR,e])⟩⟩
 ·cases e;exact fun e=>d (by simp[<-e])
 ·have g:k∈cA false fvs:=de_.2 ⟨v,i,f⟩;exact fun e=>d (by simp[<-e,g])
 ·exact fun l=>d (by simp[<-l,e])
def a4_(a:aQ)(W:aG):(callFunc 83 #[a]).run prog W=.ok (.enter 83 #[a]) W:=by kernel_rfl
def RR{ar:Nat->Option Nat}{n:List eU}{m:cR}{k a:Nat}{r:cR × Nat}(ht:kV ar n)(T:kK n)(h:dA false fp F base w sb gf cap (Iv0 a) tv outv s0 fvs m)(hT:mC fp F w n)(hp:BZ (aR false sb gf outv fvs) w)(A:base<=w.heap.size)
 (hA:fY ar m) (hU:gK m) (N:m.out.length<=50) (Q:m.tape.length<=17592186044416) (o:dQ n k m=some r) (Z:a<=1000000) (U:r.2<=1000):
 Calls prog 51 #[bH sb] w fun e E=>e=aZ (.tuple #[])/\Done fp F base sb (Iv0 a) (Iv0 (bZ a r.2)) (aR false sb gf outv fvs) w r.1 E:=by
 have C:Below w.heap.size w (w.alloc (.cells #[Iv0 0] 29)):=(co_ _ w).alloc cL _;have h0:=h.grow C dX (fun _ h=>cl_ h)
 have X:mC fp F (w.alloc (.cells #[Iv0 0] 29)) n:=hT.keep (fun x hx=>C.block x (h.apart x hx).1) dX
 have j:Kept (aR false sb gf outv fvs) w (w.alloc (.cells #[Iv0 0] 29)):=Kept.of_below C;have hX:=AJ ht T h0 X (hp.step j fun _ h=>cl_ h) (cw_ A j.size) hA hU N Q o
 have u:(w.alloc (.cells #[Iv0 0] 29)).heap[w.heap.size]?=some (.cells #[Iv0 0] 29 (0,0)):=aO _ _ rfl _;have z:w.heap.size∉aR false sb gf outv fvs:=fun t=>by have:=h.lt _ t;omega
 have hS:=DO 83 (aH sb 0) w (fun k W=>k=r.2/\Done fp F base sb (Iv0 a) s0 (aR false sb gf outv fvs) (w.alloc (.cells #[Iv0 0] 29)) r.1 W) a4_ (hX.mono fun e E y=>by
  obtain⟨he,y⟩:=y;refine⟨r.2,he,⟨rfl,y⟩,?_⟩;rw[y.1.block _ (by simp) z];exact u)
 generalize Y:w.alloc (.cells #[Iv0 0] 29)=w0 at*
 have hD:∀W x,Done fp F base sb (Iv0 a) s0 (aR false sb gf outv fvs) w0 r.1 W->Done fp F base sb (Iv0 a) s0 (aR false sb gf outv fvs) w r.1 (W.setCell (aH w.heap.size 0) x):=fun W x y=>by
  obtain⟨p,G,g,f,l,c,d,D,i,s⟩:=y;have I:w.heap.size<w0.heap.size:=by rw[<-Y];simp
  have P:¬F w.heap.size:=fun hF=>by have:=(h.apart _ hF).1;omega
  have L:w.heap.size∉aR false sb g c d:=fun t=>by
   rcases s _ t with B|B
   ·exact z B
   ·omega
  have J:∀b,G b->b≠w.heap.size:=fun b O e=>by
   subst e;rcases D.new _ O with B|B
   ·exact P B
   ·omega
  have o:∀k,k≠w.heap.size->(W.setCell (aH w.heap.size 0) x).heap[k]?=W.heap[k]?:=fun k o=>cm_ _ _ _ _ o
  have q:∀k∈aR false sb g c d,(W.setCell (aH w.heap.size 0) x).heap[k]?=W.heap[k]?:=fun k t=>o k fun e=>L (by rw[<-e];exact t)
  have K:∀b,G b->(W.setCell (aH w.heap.size 0) x).heap[b]?=W.heap[b]?:=fun b O=>o b (J b O)
  refine⟨⟨p.os.trans j.os,p.tape.trans j.tape,p.output.trans j.output,cw_ j.size (by simpa using p.size),fun k B h2=>?_⟩,G,g,f,l,c,d,D.le (dv_ I),⟨by rw[q sb (by simp[aR])];exact i.blk,aW i.row fun k e=>?_,i.frs.keep K dX fun v hv k M=>q k ?_,i.tape.keep K dX,aW i.out fun k e=>q k (by simp[aR,e]),i.nodup,fun k o=>by simpa using i.lt k o,fun k o=>by simpa using i.apart k o⟩,fun k t=>(s k t).imp_right (cw_ (dv_ I))⟩
  ·rw[o k (by omega),p.block k (by omega) h2,j.block k B h2]
  ·cases e;exact q g (by simp[aR])
  ·have t:k∈cA false d:=de_.2 ⟨v,hv,M⟩;simp[aR,t]
 refine(L4 w sb a (fun k W=>k=r.2/\Done fp F base sb (Iv0 a) s0 (aR false sb gf outv fvs) w r.1 W) (fun E=>Done fp F base sb (Iv0 a) (Iv0 (bZ a r.2)) (aR false sb gf outv fvs) w r.1 E) Z (hS.mono ?_) (fun k W H=>?_) (fun k W H V=>?_) (fun W H V=>?_))
 ·rintro e E ⟨k,w1,rfl,⟨rfl,y⟩,rfl⟩;exact⟨r.2,U,rfl,rfl,hD _ _ y⟩
 ·obtain⟨_,_,G,g,f,l,c,d,_,i,_⟩:=H;exact⟨⟨_,aA i.blk rfl⟩,aD i.blk,aC i.blk,aA i.blk rfl⟩
 ·obtain⟨rfl,p,G,g,f,l,c,d,D,i,s⟩:=H;obtain⟨S,q2⟩:=i.setStop (Iv0 r.2);have e:bZ a r.2=r.2:=if_neg V;rw[e];exact⟨p.trans q2 s,G,g,f,l,c,d,D,S,s⟩
 ·obtain⟨hz,p,G,g,f,l,c,d,D,i,s⟩:=H;obtain⟨S,q2⟩:=i.setStop (Iv0 0);obtain⟨q3,q4⟩:=S.setStop (Iv0 9);have e:bZ a r.2=9:=if_pos ⟨hz.symm,V⟩;rw[e];exact⟨(p.trans q2 s).trans q4 s,G,g,f,l,c,d,D,q3,s⟩
end
structure FrS(fp:eQ)(F:bX)(w:aG)(v:FVal)(f:aJ):Prop where
 fn:YL fp F w v.fp f.fn
 nx:v.nx=Iv0 f.next
 ln:v.ln=Iv0 f.line
 sp:eF F w v.sp f.seen
 vars:PVs F w v.vv f.vars
 varsB:∀a∈f.vars,aN a<=200
 ops:PVs F w v.ov f.ops
 opsB:∀a∈f.ops,aN a<=200
def FrS.keep{fp:eQ}{F G:bX}{w w':aG}{v:FVal}{f:aJ}(h:FrS fp F w v f)(a:∀b,F b->w'.heap[b]?=w.heap[b]?)(c:∀b,F b->G b):FrS fp G w' v f:=
 ⟨h.fn.keep a c,h.nx,h.ln,eF.keep a c h.sp,(h.vars.keep a).mono c,h.varsB,(h.ops.keep a).mono c,h.opsB⟩
def vO(fp:eQ)(F:bX)(w:aG):List FVal->List aJ->Prop
 |[],[]=>True
 |v::vs,f::fs=>FrS fp F w v f/\vO fp F w vs fs
 |_,_=>False
def vO.keep{fp:eQ}{F G:bX}{w w':aG}(a:∀b,F b->w'.heap[b]?=w.heap[b]?)(c:∀b,F b->G b):∀{vs:List FVal} {fs:List aJ},vO fp F w vs fs->vO fp G w' vs fs
 |[],[],_=>trivial
 |_::_,_::_,⟨e,d⟩=>⟨e.keep a c,vO.keep a c d⟩
 |[],_::_,h=>h.elim
 |_::_,[],h=>h.elim
def vO.length{fp:eQ}{F:bX}{w:aG}:∀{vs:List FVal} {fs:List aJ},vO fp F w vs fs->vs.length=fs.length
 |[],[],_=>rfl
 |_::_,_::_,⟨_,h⟩=>by simp[vO.length h]
 |[],_::_,h=>h.elim
 |_::_,[],h=>h.elim
def vO.get{fp:eQ}{F:bX}{w:aG}:∀{vs:List FVal} {fs:List aJ},vO fp F w vs fs->∀(i:Nat) v f,vs[i]?=some v->fs[i]?=some f->FrS fp F w v f
 |[],[],_,i,v,f,a,_=>by simp at a
 |_::_,_::_,⟨h,_⟩,0,v,f,a,b=>by simp at a b;subst a;subst b;exact h
 |_::_,_::_,⟨_,h⟩,i+1,v,f,a,b=>vO.get h i v f (by simpa using a) (by simpa using b)
 |[],_::_,h,_,_,_,_,_=>h.elim
 |_::_,[],h,_,_,_,_,_=>h.elim
def GK(F:bX)(w:aG)(v:aQ)(fvs:List FVal):Prop:=
 (fvs=[]/\∃x c,v=.slice x 0 c)\/∃g c cur,v=.slice (some (aH g 0)) fvs.length c/\F g/\w.heap[g]?=some (.cells cur 108 (0,0))/\fvs.length<=c/\cur.toList.take (fvs.length*6)=gU fvs
def GK.keep{F G:bX}{w w':aG}{v:aQ}{a:List FVal}(h:GK F w v a)(f:∀b,F b->w'.heap[b]?=w.heap[b]?)(l:∀b,F b->G b):GK G w' v a:=by
 rcases h with h|⟨g,c,d,j,e,k,i⟩
 ·exact cl_ h
 ·exact ck_ ⟨g,c,d,j,l g e,by rw[f g e];exact k,i⟩
def GI(F:bX)(w:aG)(v:aQ)(l:cN):Prop:=
 (l=[]/\v=bF)\/∃g c cur,v=.slice (some (aH g 0)) l.length c/\F g/\w.heap[g]?=some (.cells cur 9 (0,0))/\l.length<=c/\cur.toList.take l.length=mZ l
def GI.keep{F G:bX}{w w':aG}{v:aQ}{l:cN}(h:GI F w v l)(e:∀b,F b->w'.heap[b]?=w.heap[b]?)(k:∀b,F b->G b):GI G w' v l:=by
 rcases h with h|⟨g,c,a,i,d,j,f⟩
 ·exact cl_ h
 ·exact ck_ ⟨g,c,a,i,k g d,by rw[e g d];exact j,f⟩
def jT(fp:eQ)(F:bX)(w:aG)(v:aQ)(s:bC):Prop:=
 ∃fv tv outv fvs,v=.agg #[Iv0 s.time,fv,tv,outv,Iv0 s.stop]/\GK F w fv fvs/\vO fp F w fvs s.m.frames/\sW F w tv s.m.tape/\GI F w outv s.m.out
def jT.keep{fp:eQ}{F G:bX}{w w':aG}{v:aQ}{s:bC}(h:jT fp F w v s)(c:∀b,F b->w'.heap[b]?=w.heap[b]?)(d:∀b,F b->G b):jT fp G w' v s:=by
 obtain⟨m,g,a,e,j,f,l,i,k⟩:=h;exact⟨m,g,a,e,j,f.keep c d,l.keep c d,i.keep c d,k.keep c d⟩
def jQ.kept{fp:eQ}{F G:bX}{base:Nat}{w:aG}(b:∀k,F k->G k):∀{vs:List FVal} {fs:List aJ},jQ false fp F base w vs fs->(∀v∈vs,∀k∈(v.ownX false),G k)->vO fp G w vs fs
 |[],[],_,_=>trivial
 |v::_,_::_,⟨a,g⟩,c=>by
  have d:=c v (cJ_ ..);obtain⟨⟨p,n,o⟩,j⟩:=a.vars;obtain⟨⟨q,f,m⟩,i⟩:=a.ops;exact⟨⟨a.fn.keep (fun _ _=>rfl) b,a.nx,a.ln,eF.keep (fun _ _=>rfl) b a.sp,PVs.ofRow n (o.mono b) fun k e=>d k (by simp[FVal.ownX,e]),j,PVs.ofRow f (m.mono b) fun k e=>d k (by simp[FVal.ownX,e]),i⟩,jQ.kept b g fun u l=>c u (cx_ _ l)⟩
 |[],_::_,h,_=>h.elim
 |_::_,[],h,_=>h.elim
def dA.kept{fp:eQ}{F G:bX}{base:Nat}{w:aG}{sb gf i d c:Nat}{r a:aQ}{b:List FVal}{m:cR}(h:dA false fp F base w sb gf i (Iv0 d) r a (Iv0 c) b m)(x:∀k,F k->G k)(A:∀k∈aR false sb gf a b,k≠sb->G k):
 jT fp G w (.agg #[Iv0 d,.slice (some (aH gf 0)) b.length i,r,a,Iv0 c]) ⟨d,m,c⟩:=by
 obtain⟨D,E⟩:=cB_.1 h.nodup;have o:∀k,k∈gf::(a.ownBlock.toList++cA false b)->k≠sb:=fun k l e=>D (by rw[<-e];exact l)
 have p:∀k,k∈gf::(a.ownBlock.toList++cA false b)->G k:=fun k l=>A k (cx_ _ l) (o k l)
 refine⟨_,r,a,b,rfl,?_,jQ.kept x h.frs fun v C k l=>p k ?_,h.tape.keep (fun _ _=>rfl) x,?_⟩
 ·rcases h.row.2 with ⟨f,_⟩|⟨t,g,j,f,u,n,q,z,y,s⟩
  ·cases f
  ·cases f;exact ck_ ⟨gf,i,j,rfl,p gf (by simp),n,q,s⟩
 ·have B:k∈cA false b:=de_.2 ⟨v,C,l⟩;simp[B]
 ·rcases h.out.2 with ⟨f,u⟩|⟨t,g,j,f,u,n,q,z,y,s⟩
  ·exact cl_ ⟨cF_ u,f⟩
  ·exact ck_ ⟨t,g,j,f,p t (by rw[f];simp[Value.ownBlock]),n,q,by simpa using s⟩
def Kept.setCell{own:List Nat}{w W:aG}(h:Kept own w W)(p:Addr)(x:aQ)(b:p.block∈own):Kept own w (W.setCell p x):=
 ⟨h.os,h.tape,h.output,by simpa using h.size,fun k c a=>by rw[cm_ _ _ _ _ fun e=>a (by rw[e];exact b),h.block k c a]⟩
def TE(w w2:aG)(b a x0 n c0:Nat)(H t z:aQ)(P:Value->World->Prop)(A:Nat->Nat->World->Prop)(C E:Nat->Nat->Nat->World->Prop)(D1 D2:Nat->Nat->Nat->Option Addr->Nat->Nat->World->Prop)(O:Nat->Nat->Option Addr->Nat->Nat->World->Prop)(hn:n<=100)
 (aa:H=.slice (some (aH x0 0)) n c0) (T:∃xa xl xc,z=.slice xa xl xc) (Z:∃N Y J,t=.slice N Y J)
 (hW:(w.alloc (.cells #[Iv0 b,H,t,z,Iv0 a] 49)).alloc (.cells #[Iv0 0,bF,bF,bF,Iv0 0] 49)=w2)
 (HC:Hid (Calls prog 121 #[H] w2 fun e o=>∃g cap,e=aZ (.slice (some (aH g 0)) n cap)/\A g cap o))
 (HA:Hid (∀g cap W,A g cap W->(∃u,W.cell? (aH w.heap.size 1)=some u)/\W.frozen? (aH w.heap.size 1)=false/\w.heap.size<W.heap.size/\C g cap 0 (W.setCell (aH w.heap.size 1) (.slice (some (aH g 0)) n cap))))
 (HR:Hid (∀g cap j W,C g cap j W->W.cell? (aH w.heap.size 1)=some (.slice (some (aH g 0)) n cap)/\w.heap.size<W.heap.size/\g<W.heap.size))
 (HV:Hid (∀g cap j W,C g cap j W->j<n->∃x l c,W.cell? (aH g (j*6+4))=some (.slice x l c)/\Calls prog 122 #[.slice x l c] W fun e o=>∃h f,e=aZ (.slice h l f)/\D1 g cap j h l f o))
 (U:Hid (∀g cap j x l c W,D1 g cap j x l c W->(∃u,W.cell? (aH g (j*6+4))=some u)/\W.frozen? (aH g (j*6+4))=false/\g<W.heap.size/\E g cap j (W.setCell (aH g (j*6+4)) (.slice x l c))))
 (HE:Hid (∀g cap j W,E g cap j W->∃x l c,W.cell? (aH g (j*6+5))=some (.slice x l c)/\g<W.heap.size/\Calls prog 122 #[.slice x l c] W fun e o=>∃h f,e=aZ (.slice h l f)/\D2 g cap j h l f o))
 (I:Hid (∀g cap j x l c W,D2 g cap j x l c W->(∃u,W.cell? (aH g (j*6+5))=some u)/\W.frozen? (aH g (j*6+5))=false/\g<W.heap.size/\C g cap (j+1) (W.setCell (aH g (j*6+5)) (.slice x l c))))
 (HO:Hid (∀g cap W,C g cap n W->W.cell? (aH w.heap.size 3)=some z/\Calls prog 41 #[z] W fun e o=>∃h G f,e=aZ (.slice h G f)/\O g cap h G f o))
 (HF:Hid (∀g cap x l c W,O g cap x l c W->(W.cell? (aH w.heap.size 0)=some (Iv0 b)/\W.cell? (aH w.heap.size 1)=some (.slice (some (aH g 0)) n cap)/\W.cell? (aH w.heap.size 2)=some t/\(∃u,W.cell? (aH w.heap.size 3)=some u)/\W.cell? (aH w.heap.size 4)=some (Iv0 a)/\W.frozen? (aH w.heap.size 3)=false/\w.heap.size+1<W.heap.size)/\
   (W.heap[w.heap.size+1]?=some (.cells #[Iv0 0,bF,bF,bF,Iv0 0] 49 (0,0)))))
 (HP:Hid (∀g cap x l c W W',O g cap x l c W->Kept [w.heap.size,w.heap.size+1] W W'->W'.heap.size=W.heap.size->P (.agg #[Iv0 b,.slice (some (aH g 0)) n cap,t,.slice x l c,Iv0 a]) W')):
 Calls prog 88 #[.agg #[Iv0 b,H,t,z,Iv0 a]] w fun e o=>∃v,e=aZ v/\P v o:=by
 obtain⟨xa,xl,xc,rfl⟩:=T;obtain⟨N,Y,J,rfl⟩:=Z;subst aa;have HW:=aB hW;clear hW;go_in
 go_wp2_with fail;rw[HW.out];refine HC.mono ?_;rintro e w3 ⟨g,cap,rfl,h3⟩;obtain⟨⟨u3,a1⟩,a2,a3,X⟩:=HA _ _ _ h3;obtain⟨b1,b2,b3⟩:=HR _ _ _ _ X;have H4:=aB X;clear h3 X;generalize B:w3.setCell (aH w.heap.size 1) (.slice (some (aH g 0)) n cap)=w4 at H4 b1 b2 b3;have L:=aB B;clear B;go_wp2_with fail;rw[L.out];go_wp2_with fail;go_loopg [3,4,12] n (fun gk _ _ i wr=>∃j:Nat,j+gk=n/\i=Iv0 j/\C g cap j wr)
 case atStart=>exact⟨0,by omega,rfl,H4⟩
 case round=>
  obtain⟨j,hj,rfl,F⟩:=hrel;obtain⟨b1,b2,b3⟩:=HR _ _ _ _ F;by_cases M:j<n
  ·obtain⟨m,rfl⟩:∃m,gk=m+1:=⟨gk-1,by omega⟩
   obtain⟨x,l,c,c1,k⟩:=HV _ _ _ _ F M;have r:=aB k;have e1:(0:Int)<=(j:Int):=by omega
   have e2:(j:Int)<(n:Int):=by omega
   clear F k;go_wp2_with fail;refine r.mono ?_;rintro e q ⟨h,f,rfl,s⟩;obtain⟨⟨u5,d1⟩,d2,d3,h6⟩:=U _ _ _ _ _ _ _ s;obtain⟨y,l2,c2,y1,y2,p⟩:=HE _ _ _ _ h6;have D:=aB p;have ai:q.cell? (aH g (j*6+5))=some (.slice y l2 c2):=by simpa [go_sem] using y1
   clear s h6 p y1 y2;go_wp2_with fail;refine D.mono ?_;rintro e w7 ⟨y',d',rfl,h7⟩;obtain⟨⟨u7,f1⟩,f2,f3,h8⟩:=I _ _ _ _ _ _ _ h7;have H8:=aB h8;clear h7 h8;go_wp2
   go_roundg m
   case measure=>omega
   case rel=>exact⟨j+1,by omega,by go_num,H8⟩
  ·have K:j=n:=by omega
   subst K;obtain⟨o1,k⟩:=HO _ _ _ F;have r:=aB k;clear F k;go_wp2_with fail;refine r.mono ?_;rintro e q ⟨h,G,f,rfl,s⟩;obtain⟨⟨p0,p1,p2,⟨u3,p3⟩,p4,pf,pl⟩,d⟩:=HF _ _ _ _ _ _ s;have Q:q.cell? (aH (w.heap.size+1) 0)=some (Iv0 0):=aA d rfl;have ac:q.cell? (aH (w.heap.size+1) 1)=some (bF):=aA d rfl;have S:q.cell? (aH (w.heap.size+1) 2)=some (bF):=aA d rfl;have V:q.cell? (aH (w.heap.size+1) 3)=some (bF):=aA d rfl;have ab:q.cell? (aH (w.heap.size+1) 4)=some (Iv0 0):=aA d rfl;have ah:=aD (i:=0) d;have aj:=aD (i:=1) d;have ag:=aD (i:=2) d;have ae:=aD (i:=3) d;have af:=aD (i:=4) d;have H5:=aB s;clear s d;have ad:w.heap.size<q.heap.size:=by omega
   go_wp2_with fail;refine⟨rfl,.agg #[Iv0 b,.slice (some (aH g 0)) j cap,.slice N Y J,.slice h G f,Iv0 a],?_,_,rfl,HP _ _ _ _ _ _ _ H5 ?_ (by simp)⟩
   ·simp[results,results88,go_sem,Q,ac,S,V,ab]
   ·exact((((((Kept.refl _ _).setCell _ _ (by simp)).setCell _ _ (by simp)).setCell _ _ (by simp)).setCell _ _ (by simp)).setCell _ _ (by simp)).setCell _ _ (by simp)
def RY(a b:List FVal)(v:FVal)(i:Nat)(hi:i<6):(gU (a++v::b))[a.length*6+i]?=v.cells[i]?:=by
 rw[kJ,cN_ (by rw[eM];omega),eM,di_]
 show (v.cells++gU b)[i]?=_
 rw[cX_ (by exact hi)]
def L7(a b:List FVal)(v v':FVal)(i:Nat)(x:aQ)(hi:i<6)(c:v'.cells=v.cells.set i x):(gU (a++v::b)).set (a.length*6+i) x=gU (a++v'::b):=by
 rw[kJ,kJ,List.set_append_right _ _ (by rw[eM];omega),eM,di_]
 show gU a++(v.cells++gU b).set i x=gU a++(v'.cells++gU b)
 rw[List.set_append_left _ _ (by exact hi),c]
structure CI(w:aG)(time stop n g cap:Nat)(tv xo:aQ)(fvs':List FVal)(own:List Nat)(W:aG):Prop where
 row:W.ownsRow (w.heap.size+2) 108 6 (.slice (some (aH g 0)) n cap) n (gU fvs')
 nodup:(g::own).Nodup
 rng:∀k∈g::own,w.heap.size+2<=k/\k<W.heap.size
 bel:Below w.heap.size w W
 b1:W.heap[w.heap.size]?=some (.cells #[Iv0 time,.slice (some (aH g 0)) n cap,tv,xo,Iv0 stop] 49 (0,0))
 b2:W.heap[w.heap.size+1]?=some (.cells #[Iv0 0,bF,bF,bF,Iv0 0] 49 (0,0))
section
variable {w:aG} {time stop n g cap:Nat} {tv xo:aQ} {own:List Nat} {W W':aG} {a b:List FVal} {v v':FVal}
def CI.cell(h:CI w time stop n g cap tv xo (a++v::b) own W)(i:Nat)(hi:i<6):W.cell? (aH g (a.length*6+i))=v.cells[i]?/\W.frozen? (aH g (a.length*6+i))=false/\g<W.heap.size:=by
 refine⟨?_,h.row.frozenAt _,(h.rng g (by simp)).2⟩
 have c:=h.row.1;rw[eM,cp_,ct_] at c;rw[h.row.cellAt (a.length*6+i) (by omega),RY a b v i hi]
def CI.grow{a:List FVal}(h:CI w time stop n g cap tv xo a own W)(d:Below W.heap.size W W')(o:Option Nat)(i:∀k,o=some k->W.heap.size<=k/\k<W'.heap.size):CI w time stop n g cap tv xo a (own++o.toList) W':=by
 have j:=h.bel.size;have p:=aC h.b1;have l:=aC h.b2;refine⟨iN h.row d,?_,fun k b=>?_,h.bel.trans (d.mono j),by rw[d.block _ p];exact h.b1,by rw[d.block _ l];exact h.b2⟩
 ·rw[<-cP_];refine c5_.2 ⟨h.nodup,by cases o<;>simp,fun x q y m e=>?_⟩
  subst e;have f:o=some x:=by simpa using m
  have:=(h.rng x q).2;have:=(i x f).1;omega
 ·rw[<-cP_] at b;rcases cu_.1 b with b|b
  ·exact⟨(h.rng k b).1,cn_ (h.rng k b).2 d.size⟩
  ·have c:o=some k:=by simpa using b
   have:=(i k c).1;exact⟨by omega,(i k c).2⟩
def CI.set(h:CI w time stop n g cap tv xo (a++v::b) own W)(i:Nat)(hi:i<6)(x:aQ)(d:v'.cells=v.cells.set i x):CI w time stop n g cap tv xo (a++v'::b) own (W.setCell (aH g (a.length*6+i)) x):=by
 have e:=(h.rng g (by simp)).1
 have c:∀k,k≠g->(W.setCell (aH g (a.length*6+i)) x).heap[k]?=W.heap[k]?:=fun k c=>cm_ _ _ _ _ c
 refine⟨?_,h.nodup,fun k c=>⟨(h.rng k c).1,by simpa using (h.rng k c).2⟩,h.bel.setCell (by show w.heap.size<=g;omega) _,by rw[c _ (by omega)];exact h.b1,by rw[c _ (by omega)];exact h.b2⟩
 rw[<-L7 a b v v' i x hi d];exact(h.row.stored _ _).1
def CI.keep{a:List FVal}(h:CI w time stop n g cap tv xo a own W):w.heap.size<W.heap.size/\w.heap.size+1<W.heap.size:=⟨aC h.b1,aC h.b2⟩
end
structure TX(fp:eQ)(F:bX)(base:Nat)(w:aG)(gf cap:Nat)(tv outv:aQ)(fvs:List FVal)(m:cR):Prop where
 row:w.ownsRow base 108 6 (.slice (some (aH gf 0)) fvs.length cap) fvs.length (gU fvs)
 frs:jQ false fp F base w fvs m.frames
 tape:sW F w tv m.tape
 out:w.ownsRow base 9 1 outv m.out.length (mZ m.out)
 nodup:(gf::(outv.ownBlock.toList++cA false fvs)).Nodup
 rng:∀k∈gf::(outv.ownBlock.toList++cA false fvs),base<=k/\k<w.heap.size
def PVs.cells{F:bX}{w:aG}{v:aQ}{l:List aM}(h:PVs F w v l)(p:l.length<=1000000):
 ∃x c,v=.slice x l.length c/\Calls prog 122 #[.slice x l.length c] w fun e a=>∃d b n,e=aZ (.slice d l.length b)/\a.ownsRow w.heap.size 129 1 (.slice d l.length b) l.length n/\gQ F w n l/\Below w.heap.size w a:=by
 rcases h.row with ⟨rfl,rfl⟩|⟨g,f,m,rfl,y,r,i,s⟩
 ·refine⟨none,0,rfl,(tZ w).mono ?_⟩;rintro e a ⟨rfl,rfl⟩;exact⟨none,0,[],rfl,World.ownsRow_nil _ _ _ _,gQ.nil _ _,co_ _ _⟩
 ·refine⟨_,_,rfl,(uA g 0 l.length f m w (by rw[i.1];omega) p (fun j u q=>by rw[c8_];exact s j u q) (pQ i)).mono ?_⟩
  rintro e a ⟨t,rfl,k,o⟩;obtain⟨d,b,rfl⟩:=dE k;exact⟨d,b,m,rfl,k,i,o⟩
def mN{fp:eQ}{F:bX}{base:Nat}{w w':aG}{vs:List FVal}{fs:List aJ}(h:jQ false fp F base w vs fs)(e:∀b,F b->w'.heap[b]?=w.heap[b]?)(c:∀k∈cA false vs,w'.heap[k]?=w.heap[k]?):jQ false fp F base w' vs fs:=
 h.keep e dX fun v d k a=>c k (de_.2 ⟨v,d,a⟩)
def MW(us:List FVal)(v:FVal):cA false (us++[v])=cA false us++(v.ownX false):=by simp[cA]
def iY{w:aG}{base a:Nat}{e:TypeId}{b:Nat}{v:aQ}{n:Nat}{xs:List Value}(h:w.ownsRow base e b v n xs)(j:a<=base):w.ownsRow a e b v n xs:=by
 refine⟨h.1,?_⟩;rcases h.2 with h|⟨g,d,c,i,f,k⟩
 ·exact cl_ h
 ·exact ck_ ⟨g,d,c,i,cw_ j f,k⟩
def CpC(fp:eQ)(F:bX)(w:aG)(time stop n:Nat)(tv xo:aQ)(fvs:List FVal)(frames:List aJ)(g cap j:Nat)(W:aG):Prop:=
 ∃us:List FVal,us.length=j/\CI w time stop n g cap tv xo (us++fvs.drop j) (cA false us) W/\jQ false fp F (w.heap.size+2) W us (frames.take j)
def CpE(fp:eQ)(F:bX)(w:aG)(time stop n:Nat)(tv xo:aQ)(fvs:List FVal)(frames:List aJ)(g cap j:Nat)(W:aG):Prop:=
 ∃(us:List FVal) (v:FVal) (f:aJ) (x:aQ),us.length=j/\fvs[j]?=some v/\frames[j]?=some f/\CI w time stop n g cap tv xo (us++{ v with vv:=x }::fvs.drop (j+1)) (cA false us++x.ownBlock.toList) W/\jQ false fp F (w.heap.size+2) W us (frames.take j)/\lC F (w.heap.size+2) W x f.vars
def XW{fp:eQ}{F:bX}{w:aG}{v:aQ}{s:bC}(h:jT fp F w v s)(S:∀k,F k->k<w.heap.size)(be:s.m.frames≠[])(bu:s.m.frames.length<=16)(hb:∀f∈s.m.frames,f.vars.length<=90001/\f.ops.length<=99000)(br:s.m.out.length<=50):
 Calls prog 88 #[v] w fun e D=>∃v',e=aZ v'/\∃gf cap tv outv fvs,v'=.agg #[Iv0 s.time,.slice (some (aH gf 0)) fvs.length cap,tv,outv,Iv0 s.stop]/\Below w.heap.size w D/\TX fp F w.heap.size D gf cap tv outv fvs s.m:=by
 obtain⟨fv,tv,P,fvs,rfl,az,L,ax,av⟩:=h;have ah:=L.length
 have U:0<fvs.length:=by
  rw[ah];exact c7_.2 be
 rcases az with ⟨e,_⟩|⟨x0,c0,bp,rfl,bm,bc,bo,bk⟩
 ·rw[e] at U;simp at U
 have aq:∃ta tl tc,tv=.slice ta tl tc:=by
  rcases ax with ⟨_,x,c,e⟩|⟨g,o,c,e,_⟩
  ·exact⟨_,_,_,e⟩
  ·exact⟨_,_,_,e⟩
 have ay:∃xa xl xc,P=.slice xa xl xc:=by
  rcases av with ⟨_,e⟩|⟨g,c,cu,e,_⟩
  ·exact⟨_,_,_,e⟩
  ·exact⟨_,_,_,e⟩
 generalize T:(w.alloc (.cells #[Iv0 s.time,.slice (some (aH x0 0)) fvs.length c0,tv,P,Iv0 s.stop] 49)).alloc (.cells #[Iv0 0,bF,bF,bF,Iv0 0] 49)=w2;have aw:Below w.heap.size w w2:=by rw[<-T];exact((co_ _ w).alloc cL _).alloc (by simp) _
 have bg:w2.heap.size=w.heap.size+2:=by rw[<-T];simp
 have bf:w2.heap[w.heap.size]?=some (.cells #[Iv0 s.time,.slice (some (aH x0 0)) fvs.length c0,tv,P,Iv0 s.stop] 49 (0,0)):=by
  rw[<-T,cq_ _ _ _ (by simp)];exact aO _ _ rfl _
 have bi:w2.heap[w.heap.size+1]?=some (.cells #[Iv0 0,bF,bF,bF,Iv0 0] 49 (0,0)):=by
  rw[<-T];exact aO _ _ (by simp) _
 have bb:∀b,F b->w2.heap[b]?=w.heap[b]?:=fun b hb=>aw.block b (S b hb)
 have aa:∀{W:aG},Below w.heap.size w W->∀b,F b->W.heap[b]?=w.heap[b]?:=fun hb b m=>hb.block b (S b m)
 have X:∀u∈gU fvs,u.oneCell'=true:=by
  have ap:∀(vs:List FVal) (I:List aJ),vO fp F w vs I->∀u∈gU vs,u.oneCell'=true:=by
   intro vs;induction vs with
   |nil=>intro I _ u hu;cases hu
   |cons v vs ih=>
    intro I L u hu;cases I with
    |nil=>exact L.elim
    |cons f I=>
     obtain⟨H,h2⟩:=L;rcases cu_.1 hu with hu|hu
     ·obtain⟨bt,gc,cp,bq,K,_⟩:=H.fn;obtain⟨p,hp⟩:=H.sp.form
      have bn:∃x n c,v.vv=.slice x n c:=by
       rcases H.vars.row with ⟨_,e⟩|⟨g,c,xs,e,_⟩<;>exact⟨_,_,_,e⟩
      have bh:∃x n c,v.ov=.slice x n c:=by
       rcases H.ops.row with ⟨_,e⟩|⟨g,c,xs,e,_⟩<;>exact⟨_,_,_,e⟩
      obtain⟨x1,n1,c1,e2⟩:=bn;obtain⟨x2,n2,c2,e3⟩:=bh;simp only[FVal.cells,K,H.nx,H.ln,hp,e2,e3,cv_,cD_,or_false] at hu;rcases hu with rfl|rfl|rfl|rfl|rfl|rfl<;>rfl
     ·exact ih I h2 u hu
  exact ap fvs s.m.frames L
 have J:∀j (B:j<fvs.length),∃v f,fvs[j]?=some v/\s.m.frames[j]?=some f/\FrS fp F w v f/\f∈s.m.frames/\fvs.drop j=v::fvs.drop (j+1)/\s.m.frames.take (j+1)=s.m.frames.take j++[f]:=fun j B=>by
  have af:j<s.m.frames.length:=by omega
  refine⟨fvs[j],s.m.frames[j],cz_ B,cz_ af,L.get j _ _ (cz_ B) (cz_ af),cG_ af,dC_ B,cK_ af⟩
 have hR:∀g cap j W,CpC fp F w s.time s.stop fvs.length tv P fvs s.m.frames g cap j W->W.cell? (aH w.heap.size 1)=some (.slice (some (aH g 0)) fvs.length cap)/\w.heap.size<W.heap.size/\g<W.heap.size:=fun g cap j W G=>by
  obtain⟨i,_,a,_⟩:=G;exact⟨aA a.b1 rfl,aC a.b1,(a.rng g (by simp)).2⟩
 refine(TE w w2 s.time s.stop x0 fvs.length c0 (.slice (some (aH x0 0)) fvs.length c0) tv P
  (fun v' D=>∃gf cap tv outv fvs,v'=.agg #[Iv0 s.time,.slice (some (aH gf 0)) fvs.length cap,tv,outv,Iv0 s.stop]/\Below w.heap.size w D/\TX fp F w.heap.size D gf cap tv outv fvs s.m)
  (fun g cap W=>W.ownsRow (w.heap.size+2) 108 6 (.slice (some (aH g 0)) fvs.length cap) fvs.length (gU fvs)/\Below w2.heap.size w2 W)
  (CpC fp F w s.time s.stop fvs.length tv P fvs s.m.frames) (CpE fp F w s.time s.stop fvs.length tv P fvs s.m.frames)
  (fun g cap j x l c W=>∃i v f,i.length=j/\fvs[j]?=some v/\s.m.frames[j]?=some f/\CI w s.time s.stop fvs.length g cap tv P (i++v::fvs.drop (j+1)) (cA false i++(Value.slice x l c).ownBlock.toList) W/\jQ false fp F (w.heap.size+2) W i (s.m.frames.take j)/\lC F (w.heap.size+2) W (.slice x l c) f.vars)
  (fun g cap j x l c W=>∃i v f y,i.length=j/\fvs[j]?=some v/\s.m.frames[j]?=some f/\CI w s.time s.stop fvs.length g cap tv P (i++{ v with vv:=y }::fvs.drop (j+1)) (cA false i++y.ownBlock.toList++(Value.slice x l c).ownBlock.toList) W/\jQ false fp F (w.heap.size+2) W i (s.m.frames.take j)/\lC F (w.heap.size+2) W y f.vars/\lC F (w.heap.size+2) W (.slice x l c) f.ops)
  (fun g cap x l c W=>∃i,i.length=fvs.length/\CI w s.time s.stop fvs.length g cap tv P i (cA false i++(Value.slice x l c).ownBlock.toList) W/\jQ false fp F (w.heap.size+2) W i s.m.frames/\W.ownsRow (w.heap.size+2) 9 1 (.slice x l c) s.m.out.length (mZ s.m.out))
  (by omega) rfl ay aq T ?_ (fun g cap W G=>?_) hR (fun g cap j W G B=>?_) (fun g cap j x l c W G=>?_) (fun g cap j W G=>?_) (fun g cap j x l c W G=>?_) (fun g cap W G=>?_) (fun g cap x l c W G=>?_) (fun g cap x l c W W' G q N=>?_))
 ·refine(JN x0 0 fvs.length c0 (gU fvs) w2 (by rw[eM]) (by omega) (fun j u B=>?_) X).mono ?_
  ·rw[c8_];rw[<-bk,cM_] at B;split at B
   ·exact aA ((bb x0 bm).trans bc) (by simpa using B)
   ·cases B
  ·rintro e D ⟨v',rfl,A,r⟩;rw[bg] at A;rcases A.2 with ⟨r1,r2⟩|⟨g,cp,cu,r1,_⟩
   ·omega
   ·rw[r1] at A ⊢
    exact⟨g,cp,rfl,A,r⟩
 ·obtain⟨A,r⟩:=G;have hg:=A.lt g rfl;have ag:W.heap[w.heap.size]?=_:=(r.block _ (by omega)).trans bf
  have au:W.heap[w.heap.size+1]?=_:=(r.block _ (by omega)).trans bi
  refine⟨⟨_,aA ag rfl⟩,aD ag,aC ag,[],rfl,⟨?_,by simp[cA],fun k q=>?_,?_,aK ag,?_⟩,trivial⟩
  ·exact aW A fun k e=>cm_ _ _ _ _ (by cases e;show g≠w.heap.size;omega)
  ·simp[cA] at q;subst q;exact⟨hg.1,by simpa using hg.2⟩
  ·exact(aw.trans (r.mono (by omega))).setCell cL _
  ·rw[cm_ _ _ _ _ (by show w.heap.size+1≠w.heap.size;omega)];exact au
 ·obtain⟨i,rfl,a,z⟩:=G;obtain⟨v,f,K,e2,hv,ac,e3,e4⟩:=J i.length B;rw[e3] at a;obtain⟨c1,c2,c3⟩:=a.cell 4 (by omega)
  have an:=hv.keep (aa a.bel) dX;obtain⟨x,c,e5,ao⟩:=an.vars.cells (by have:=(hb f ac).1;omega)
  refine⟨x,f.vars.length,c,c1.trans (by rw[<-e5];rfl),ao.mono ?_⟩
  rintro e D ⟨x',c',ys,he,A,hr,r⟩;have O:∀k,(Value.slice x' f.vars.length c').ownBlock=some k->W.heap.size<=k/\k<D.heap.size:=fun k q=>A.lt k q
  have N:=a.keep;refine⟨x',c',he,i,v,f,rfl,K,e2,a.grow r _ O,mN z (fun b m=>r.block b (cn_ (S b m) a.bel.size)) (fun k q=>r.block k (a.rng k (cx_ _ q)).2),⟨ys,iY A (by omega),hr.keep fun b m=>r.block b (cn_ (S b m) a.bel.size)⟩,hv.varsB⟩
 ·obtain⟨i,v,f,rfl,K,e2,a,z,Q⟩:=G;obtain⟨c1,c2,c3⟩:=a.cell 4 (by omega)
  have C:∀k∈cA false i++(Value.slice x l c).ownBlock.toList,k≠g:=fun k q e=>(cB_.1 a.nodup).1 (by rw[<-e];exact q)
  have t:∀k,k≠g->(W.setCell (aH g (i.length*6+4)) (.slice x l c)).heap[k]?=W.heap[k]?:=fun k q=>cm_ _ _ _ _ q
  have ad:∀b,F b->b≠g:=fun b m e=>by have H:=S b m;have h2:=(a.rng g (by simp)).1;omega
  refine⟨⟨_,c1⟩,c2,c3,i,v,f,_,rfl,K,e2,a.set 4 (by omega) _ rfl,mN z (fun b m=>t b (ad b m)) (fun k q=>t k (C k (cC_ _ q))),Q.keep (fun b m=>t b (ad b m)) dX fun k q=>t k (C k (by simp[q]))⟩
 ·obtain⟨i,v,f,x,rfl,K,e2,a,z,Q⟩:=G;obtain⟨c1,c2,c3⟩:=a.cell 5 (by omega)
  have B:i.length<fvs.length:=(cQ_.1 K).1;obtain⟨v',f',Z,M,hv,ac,e3,e4⟩:=J i.length B;rw[K] at Z;cases Z;rw[e2] at M;cases M;have an:=hv.keep (aa a.bel) dX;obtain⟨y,d,e5,ao⟩:=an.ops.cells (by have:=(hb f ac).2;omega)
  refine⟨y,f.ops.length,d,c1.trans (by rw[<-e5];rfl),c3,ao.mono ?_⟩
  rintro e D ⟨y',d',ys,he,A,hr,r⟩;have O:∀k,(Value.slice y' f.ops.length d').ownBlock=some k->W.heap.size<=k/\k<D.heap.size:=fun k q=>A.lt k q
  have N:=a.keep;have al:∀b,F b->D.heap[b]?=W.heap[b]?:=fun b m=>r.block b (cn_ (S b m) a.bel.size)
  refine⟨y',d',he,i,v,f,x,rfl,K,e2,a.grow r _ O,mN z al (fun k q=>r.block k (a.rng k (cx_ _ (cC_ _ q))).2),Q.keep al dX fun k q=>r.block k (a.rng k (by simp[q])).2,⟨ys,iY A (by omega),hr.keep al⟩,hv.opsB⟩
 ·obtain⟨i,v,f,y,rfl,K,e2,a,z,Q,bj⟩:=G;obtain⟨c1,c2,c3⟩:=a.cell 5 (by omega)
  have B:i.length<fvs.length:=(cQ_.1 K).1;obtain⟨v',f',Z,M,hv,ac,e3,e4⟩:=J i.length B;rw[K] at Z;cases Z;rw[e2] at M;cases M;have C:∀k∈cA false i++y.ownBlock.toList++(Value.slice x l c).ownBlock.toList,k≠g:=fun k q e=>(cB_.1 a.nodup).1 (by rw[<-e];exact q)
  have t:∀k,k≠g->(W.setCell (aH g (i.length*6+5)) (.slice x l c)).heap[k]?=W.heap[k]?:=fun k q=>cm_ _ _ _ _ q
  have ad:∀b,F b->b≠g:=fun b m e=>by have H:=S b m;have h2:=(a.rng g (by simp)).1;omega
  have am:∀b,F b->(W.setCell (aH g (i.length*6+5)) (.slice x l c)).heap[b]?=W.heap[b]?:=fun b m=>t b (ad b m)
  have Y:=a.set (v':={ v with vv:=y,ov:=.slice x l c }) 5 (by omega) (.slice x l c) rfl
  have ae:=hv.keep (aa (Y.bel)) dX;refine⟨⟨_,c1⟩,c2,c3,i++[{ v with vv:=y,ov:=.slice x l c }],by simp,?_,?_⟩
  ·have e5:cA false (i++[{ v with vv:=y,ov:=.slice x l c }])=cA false i++y.ownBlock.toList++(Value.slice x l c).ownBlock.toList:=by
    rw[MW,c4_];rfl
   have e6:i++[{ v with vv:=y,ov:=.slice x l c }]++fvs.drop (i.length+1)=i++{ v with vv:=y,ov:=.slice x l c }::fvs.drop (i.length+1):=by simp
   rw[e5,e6];exact Y
  ·rw[e4];refine(mN z am (fun k q=>t k (C k (by simp[q])))).snoc ⟨ae.fn,ae.nx,ae.ln,ae.sp,Q.keep am dX fun k q=>t k (C k (by simp[q])),bj.keep am dX fun k q=>t k (C k (by simp[q]))⟩
 ·obtain⟨i,V,a,z⟩:=G;rw[List.drop_of_length_le cL,dz_] at a;rw[ah,cS_ cL] at z;have N:=a.keep;have ar:=av.keep (aa a.bel) dX;refine⟨aA a.b1 rfl,?_⟩
  have ai:∀x' l' c' (D:aG),D.ownsRow W.heap.size 9 1 (.slice x' l' c') s.m.out.length (mZ s.m.out)->Below W.heap.size W D->∃i,i.length=fvs.length/\CI w s.time s.stop fvs.length g cap tv P i (cA false i++(Value.slice x' l' c').ownBlock.toList) D/\jQ false fp F (w.heap.size+2) D i s.m.frames/\D.ownsRow (w.heap.size+2) 9 1 (.slice x' l' c') s.m.out.length (mZ s.m.out):=fun x' l' c' D A r=>
   ⟨i,V,a.grow r _ fun k q=>A.lt k q,mN z (fun b m=>r.block b (cn_ (S b m) a.bel.size)) (fun k q=>r.block k (a.rng k (cx_ _ q)).2),iY A (by omega)⟩
  rcases ar with ⟨K,rfl⟩|⟨go,co,cu,rfl,H,h2,h3,h4⟩
  ·refine(uB W).mono ?_;rintro e D ⟨rfl,rfl⟩;exact⟨none,0,0,rfl,ai _ _ _ _ (by rw[K];exact World.ownsRow_nil _ _ _ _) (co_ _ _)⟩
  ·refine(uC go 0 s.m.out.length co (mZ s.m.out) W (by simp[mZ]) (by omega) (fun j u B=>?_) (fun u hu=>?_)).mono ?_
   ·rw[c8_];rw[<-h4,cM_] at B;split at B
    ·exact aA h2 (by simpa using B)
    ·cases B
   ·obtain⟨y,_,rfl⟩:=dn_.1 hu;rfl
   ·rintro e D ⟨v',rfl,A,r⟩;obtain⟨x',c',rfl⟩:=dE A;exact⟨x',_,c',rfl,ai _ _ _ _ A r⟩
 ·obtain⟨i,V,a,z,A⟩:=G;exact⟨⟨aA a.b1 rfl,aA a.b1 rfl,aA a.b1 rfl,⟨_,aA a.b1 rfl⟩,aA a.b1 rfl,aD a.b1,aC a.b2⟩,a.b2⟩
 ·obtain⟨i,V,a,z,A⟩:=G
  have bd:∀k∈g::(cA false i++(Value.slice x l c).ownBlock.toList),k∉[w.heap.size,w.heap.size+1]:=fun k q hm=>by
   have:=(a.rng k q).1;simp at hm;omega
  have aj:∀k∈g::(cA false i++(Value.slice x l c).ownBlock.toList),W'.heap[k]?=W.heap[k]?:=fun k E=>q.block k (a.rng k E).2 (bd k E)
  have bl:∀b,F b->W'.heap[b]?=W.heap[b]?:=fun b m=>q.block b (cn_ (S b m) a.bel.size) (by have:=S b m;simp;omega)
  have ba:Below w.heap.size w W':=⟨q.os.trans a.bel.os,q.tape.trans a.bel.tape,q.output.trans a.bel.output,by rw[N];exact a.bel.size,fun k E=>by
   rw[q.block k (cn_ E a.bel.size) (by simp;omega),a.bel.block k E]⟩
  have ak:∀k,k∈g::((Value.slice x l c).ownBlock.toList++cA false i)↔k∈g::(cA false i++(Value.slice x l c).ownBlock.toList):=fun k=>by simp[or_comm]
  have ab:∀(u:List FVal) (I:List aJ),jQ false fp F (w.heap.size+2) W' u I->jQ false fp F w.heap.size W' u I:=by
   intro u;induction u with
   |nil=>intro I h;cases I with
    |nil=>trivial
    |cons=>exact h.elim
   |cons v vs ih=>intro I h;cases I with
    |nil=>exact h.elim
    |cons f I=>
     obtain⟨H,h2⟩:=h;obtain⟨⟨xs,a1,a2⟩,a3⟩:=H.vars;obtain⟨⟨ys,b1,b2⟩,b3⟩:=H.ops;exact⟨⟨H.fn,H.nx,H.ln,H.sp,⟨⟨xs,iY a1 (by omega),a2⟩,a3⟩,⟨⟨ys,iY b1 (by omega),b2⟩,b3⟩⟩,ih I h2⟩
  refine⟨g,cap,tv,.slice x l c,i,by rw[V],ba,⟨?_,ab _ _ (mN z bl fun k E=>aj k (by simp[E])),ax.keep (fun b m=>by rw[ba.block b (S b m)]) dX,?_,?_,fun k E=>?_⟩⟩
  ·rw[V];exact iY (aW a.row fun k e=>by cases e;exact aj g (by simp)) (by omega)
  ·exact iY (aW A fun k e=>aj k (by simp[e])) (by omega)
  ·have:=a.nodup;rw[cB_] at this ⊢
   refine⟨fun hm=>this.1 (by simpa [or_comm] using hm),?_⟩
   exact(List.perm_append_comm.nodup_iff).1 this.2
  ·have:=a.rng k ((ak k).1 E);exact⟨by omega,by rw[N];exact this.2⟩
end Go.Proofs.YtmjbnmpamlainaaGreatDoor
