/- Contracts of the program: values in memory; what asks for their sort. -/
import Derived.Test.YtblbkfdhjfppkaaGreatDoorB07
import Derived.Test.YtblbkfdhjfppkaaGreatDoorP03
import Derived.Test.YtblbkfdhjfppkaaGreatDoorP14
set_option linter.defProp false
set_option maxRecDepth 100000
set_option maxHeartbeats 4000000
namespace Go.Proofs.YtblbkfdhjfppkaaGreatDoor
open Hs
open _root_.Go.Proofs.Tryz
open Go.RowKit
abbrev fH(k:Nat):Ending:=.panicked [{ v:=.iface 353 (.int .i64 k),recovered:=false }]
def VLr(R:Value->aJ->Prop)(F:Nat->Prop)(w:World)(sv:Value)(l:List aJ):Prop:=
 (l=[]/\sv=.slice none 0 0)\/
 ∃g cap cur,sv=.slice (some ⟨g,0,none⟩) l.length cap/\F g/\w.heap[g]?=some (.cells cur 256 (0,0))/\l.length<=cap/\∀i (h:i<l.length),∃u,cur[i]?=some u/\R u l[i]
def VR:Nat->(Nat->Prop)->World->Value->aJ->Prop
 |0,_,_,_,_=>False
 |d+1,F,w,v,a=>
  (∃n,v=.iface 315 (.int .i64 n)/\a=bC n/\ -9223372036854775808<=n/\n<=9223372036854775807)\/
  (∃b,v=.iface 316 (.bool b)/\a=bO b)\/
  (∃s,v=.iface 318 (.string (bs s))/\a=bK s)\/
  (∃sv l,v=.iface 319 sv/\a=aW l/\VLr (VR d F w) F w sv l)
def VLr.mono{R S:Value->aJ->Prop}{F G:Nat->Prop}{w:World}{e:Value}{l:List aJ}(h:VLr R F w e l)(s:∀v a,R v a->S v a)(o:∀b,F b->G b):VLr S G w e l:=by
 rcases h with h|⟨g,c,d,m,j,p,k,n⟩
 ·exact av_ h
 ·refine as_ ⟨g,c,d,m,o _ j,p,k,fun i q=>?_⟩
  obtain⟨u,f,r⟩:=n i q;exact⟨u,f,s _ _ r⟩
def VLr.keep{R:Value->aJ->Prop}{F:Nat->Prop}{w w':World}{e:Value}{l:List aJ}(h:VLr R F w e l)(f:∀b,F b->w'.heap[b]?=w.heap[b]?):VLr R F w' e l:=by
 rcases h with h|⟨g,c,a,j,d,m,i,k⟩
 ·exact av_ h
 ·exact as_ ⟨g,c,a,j,d,by rw[f g d];exact m,i,k⟩
def VR.mono{F G:Nat->Prop}{w:World}(c:∀b,F b->G b):∀{d e:Nat} {v:Value} {a:aJ},VR d F w v a->d<=e->VR e G w v a
 |0,_,_,_,h,_=>h.elim
 |d+1,0,_,_,_,h=>by omega
 |d+1,e+1,v,a,h,f=>by
  rcases h with h|h|h|⟨i,l,j,g,k⟩
  ·exact av_ h
  ·exact as_ (av_ h)
  ·exact as_ (as_ (av_ h))
  ·exact as_ (as_ (as_ ⟨i,l,j,g,k.mono (fun _ _ h=>VR.mono c h (by omega)) c⟩))
def VR.keep{F:Nat->Prop}{w w':World}(c:∀b,F b->w'.heap[b]?=w.heap[b]?):∀{d:Nat} {v:Value} {a:aJ},VR d F w v a->VR d F w' v a
 |0,_,_,h=>h.elim
 |d+1,v,a,h=>by
  rcases h with h|h|h|⟨f,l,g,e,i⟩
  ·exact av_ h
  ·exact as_ (av_ h)
  ·exact as_ (as_ (av_ h))
  ·exact as_ (as_ (as_ ⟨f,l,g,e,(i.mono (fun _ _ h=>VR.keep c h) (fun _ h=>h)).keep c⟩))
def PV(F:Nat->Prop)(w:World)(v:Value)(a:aJ):Prop:=∃d,VR d F w v a
def PV.mono{F G:Nat->Prop}{w:World}{v:Value}{a:aJ}(h:PV F w v a)(c:∀b,F b->G b):PV G w v a:=by
 obtain⟨d,h⟩:=h;exact⟨d,h.mono c (au_ _)⟩
def PV.keep{F:Nat->Prop}{w w':World}{v:Value}{a:aJ}(h:PV F w v a)(c:∀b,F b->w'.heap[b]?=w.heap[b]?):PV F w' v a:=by
 obtain⟨d,h⟩:=h;exact⟨d,h.keep c⟩
def PV.num(F:Nat->Prop)(w:World)(n:Int)(b: -9223372036854775808<=n)(a:n<=9223372036854775807):PV F w (.iface 315 (.int .i64 n)) (bC n):=⟨1,av_ ⟨n,rfl,rfl,b,a⟩⟩
def PV.tru(F:Nat->Prop)(w:World)(b:Bool):PV F w (.iface 316 (.bool b)) (bO b):=⟨1,as_ (av_ ⟨b,rfl,rfl⟩)⟩
def PV.str(F:Nat->Prop)(w:World)(s:List UInt8):PV F w (.iface 318 (.string (bs s))) (bK s):=⟨1,as_ (as_ (av_ ⟨s,rfl,rfl⟩))⟩
def PVs(F:Nat->Prop)(w:World)(sv:Value)(l:List aJ):Prop:=VLr (PV F w) F w sv l
def QU{F:Nat->Prop}{w:World}{cur:Array Value}:∀(l:List aJ) (o:Nat),(∀i (h:i<l.length),∃u,cur[o+i]?=some u/\PV F w u l[i])->∃d,∀i (h:i<l.length),∃u,cur[o+i]?=some u/\VR d F w u l[i]
 |[],_,_=>⟨0,fun i h=>by simp at h⟩
 |a::l,o,h=>by
  obtain⟨u,m,d,f⟩:=h 0 (by simp)
  obtain⟨e,g⟩:=QU (F:=F) (w:=w) (cur:=cur) l (o+1) fun i b=>by
   have:=h (i+1) (by simpa using b)
   rw[show o+1+i=o+(i+1) by omega]
   simpa using this
  refine⟨max d e,fun i b=>?_⟩
  cases i with
  |zero=>exact⟨u,m,f.mono (fun _ h=>h) (Nat.le_max_left _ _)⟩
  |succ i=>
   obtain⟨j,c,k⟩:=g i (by simpa using b)
   rw[show o+1+i=o+(i+1) by omega] at c
   exact⟨j,c,k.mono (fun _ h=>h) (Nat.le_max_right _ _)⟩
def PV.lst{F:Nat->Prop}{w:World}{b:Value}{l:List aJ}(h:PVs F w b l):PV F w (.iface 319 b) (aW l):=by
 rcases h with h|⟨g,c,a,j,f,m,i,k⟩
 ·exact⟨1,as_ (as_ (as_ ⟨b,l,rfl,rfl,av_ h⟩))⟩
 ·obtain⟨d,e⟩:=QU (cur:=a) l 0 (by simpa using k)
  exact⟨d+1,as_ (as_ (as_ ⟨b,l,rfl,rfl,as_ ⟨g,c,a,j,f,m,i,by simpa using e⟩⟩))⟩
def PV.cases{F:Nat->Prop}{w:World}{v:Value}{a:aJ}(h:PV F w v a):
 (∃n,v=.iface 315 (.int .i64 n)/\a=bC n/\ -9223372036854775808<=n/\n<=9223372036854775807)\/
 (∃b,v=.iface 316 (.bool b)/\a=bO b)\/
 (∃s,v=.iface 318 (.string (bs s))/\a=bK s)\/
 (∃x c l,v=.iface 319 (.slice x l.length c)/\a=aW l/\PVs F w (.slice x l.length c) l):=by
 obtain⟨d,h⟩:=h;cases d with
 |zero=>exact h.elim
 |succ d=>
  rcases h with h|h|h|⟨o,l,i,e,j⟩
  ·exact av_ h
  ·exact as_ (av_ h)
  ·exact as_ (as_ (av_ h))
  ·refine as_ (as_ (as_ ?_));have f:PVs F w o l:=j.mono (fun _ _ h=>⟨d,h⟩) (fun _ h=>h)
   rcases j with ⟨rfl,rfl⟩|⟨g,k,m,rfl,_⟩
   ·exact⟨none,0,[],i,e,f⟩
   ·exact⟨_,_,l,i,e,f⟩
def oP(F:Nat->Prop)(v:Value)(a:aJ)(w:World)(h:PV F w v a):
 Calls prog 385 #[v] w fun e d=>d=w/\((a.sort=1/\e=.returned (.bool (decide (a.n=1))))\/(a.sort≠1/\e=fH 2)):=by
 rcases h.cases with ⟨n,rfl,rfl,_,_⟩|⟨b,rfl,rfl⟩|⟨s,rfl,rfl⟩|⟨x,c,l,rfl,rfl,_⟩
 ·clear h;have q:=MT;go_enter func385,ntmps385;go_wp2_with fail;exact⟨rfl,rfl,as_ ⟨by simp[bC],rfl⟩⟩
 ·clear h;have q:=uE;go_enter func385,ntmps385;go_wp2_with fail;go_ret;exact⟨rfl,av_ ⟨rfl,by cases b<;>rfl⟩⟩
 ·clear h;have q:=xJ;go_enter func385,ntmps385;go_wp2_with fail;exact⟨rfl,rfl,as_ ⟨by simp[bK],rfl⟩⟩
 ·clear h;have q:=uD;go_enter func385,ntmps385;go_wp2_with fail;exact⟨rfl,rfl,as_ ⟨by simp[aW],rfl⟩⟩
def lB(F:Nat->Prop)(w:World)(r:aJ × Nat)(e:Ending)(w':World):Prop:=w'=w/\((r.2=0/\∃u,e=.returned u/\PV F w u r.1)\/(r.2≠0/\e=fH r.2))
def lB.ok{F:Nat->Prop}{w:World}{r:aJ × Nat}{u:Value}{a:aJ}(b:r=(a,0))(h:PV F w u a):lB F w r (.returned u) w:=by subst b;exact⟨rfl,av_ ⟨rfl,u,rfl,h⟩⟩
def lB.stop{F:Nat->Prop}{w:World}{r:aJ × Nat}{a:aJ}{k:Nat}(c:r=(a,k))(b:k≠0):lB F w r (fH k) w:=by subst c;exact⟨rfl,as_ ⟨b,rfl⟩⟩
def WE(n:Int): -9223372036854775808<=kS n/\kS n<=9223372036854775807:=by unfold kS;omega
def PV.wrap(F:Nat->Prop)(w:World)(n:Int):PV F w (.iface 315 (.int .i64 (wrap64 n))) (bC (kS n)):=by
 rw[<-RV];exact PV.num F w _ (WE n).1 (WE n).2
def YU(op:List UInt8)(F:Nat->Prop)(x y:Int)(w:World)(s: -9223372036854775808<=x)(q:x<=9223372036854775807)(v: -9223372036854775808<=y)(z:y<=9223372036854775807):
 Calls prog 390 #[.string (bs op),.int .i64 x,.int .i64 y] w (lB F w (jA op x y)):=by
 have a:=cA op;obtain⟨r,b⟩:∃r,r=jA op x y:=⟨_,rfl⟩;rw[<-b];unfold jA at b;by_cases m:op=[43]
 ·rw[if_pos m] at b;have f:((bs op).toList==[60])=false:=by rw[a,m];rfl
  have g:((bs op).toList==[60,61])=false:=by rw[a,m];rfl
  have e:((bs op).toList==[43])=true:=by rw[a,m];rfl
  have d:((bs op).toList==[45])=false:=by rw[a,m];rfl
  have c:((bs op).toList==[42])=false:=by rw[a,m];rfl
  have h:=aB b;clear a b m;go_enter func390,ntmps390;go_wp2_with fail;go_ret;exact lB.ok h.out (PV.wrap F w (x+y))
 rw[if_neg m] at b;have e:((bs op).toList==[43])=false:=by rw[a];simpa using m
 clear m;by_cases j:op=[45]
 ·rw[if_pos j] at b;have f:((bs op).toList==[60])=false:=by rw[a,j];rfl
  have g:((bs op).toList==[60,61])=false:=by rw[a,j];rfl
  have e:((bs op).toList==[43])=false:=by rw[a,j];rfl
  have d:((bs op).toList==[45])=true:=by rw[a,j];rfl
  have c:((bs op).toList==[42])=false:=by rw[a,j];rfl
  have h:=aB b;clear a b j;go_enter func390,ntmps390;go_wp2_with fail;go_ret;exact lB.ok h.out (PV.wrap F w (x-y))
 rw[if_neg j] at b;have d:((bs op).toList==[45])=false:=by rw[a];simpa using j
 clear j;by_cases i:op=[42]
 ·rw[if_pos i] at b;have f:((bs op).toList==[60])=false:=by rw[a,i];rfl
  have g:((bs op).toList==[60,61])=false:=by rw[a,i];rfl
  have e:((bs op).toList==[43])=false:=by rw[a,i];rfl
  have d:((bs op).toList==[45])=false:=by rw[a,i];rfl
  have c:((bs op).toList==[42])=true:=by rw[a,i];rfl
  have h:=aB b;clear a b i;go_enter func390,ntmps390;go_wp2_with fail;go_ret;exact lB.ok h.out (PV.wrap F w (x*y))
 rw[if_neg i] at b;have c:((bs op).toList==[42])=false:=by rw[a];simpa using i
 clear i;by_cases k:op=[60]
 ·rw[if_pos k] at b;have f:((bs op).toList==[60])=true:=by rw[a,k];rfl
  have g:((bs op).toList==[60,61])=false:=by rw[a,k];rfl
  have e:((bs op).toList==[43])=false:=by rw[a,k];rfl
  have d:((bs op).toList==[45])=false:=by rw[a,k];rfl
  have c:((bs op).toList==[42])=false:=by rw[a,k];rfl
  have h:=aB b;clear a b k;go_enter func390,ntmps390;go_wp2_with fail;go_ret;exact lB.ok h.out (PV.tru F w (decide (x<y)))
 rw[if_neg k] at b;have f:((bs op).toList==[60])=false:=by rw[a];simpa using k
 clear k;by_cases l:op=[60,61]
 ·rw[if_pos l] at b;have f:((bs op).toList==[60])=false:=by rw[a,l];rfl
  have g:((bs op).toList==[60,61])=true:=by rw[a,l];rfl
  have e:((bs op).toList==[43])=false:=by rw[a,l];rfl
  have d:((bs op).toList==[45])=false:=by rw[a,l];rfl
  have c:((bs op).toList==[42])=false:=by rw[a,l];rfl
  have h:=aB b;clear a b l;go_enter func390,ntmps390;go_wp2_with fail;go_ret;exact lB.ok h.out (PV.tru F w (decide (x<=y)))
 rw[if_neg l] at b;have g:((bs op).toList==[60,61])=false:=by rw[a];simpa using l
 clear l;by_cases o:y=0
 ·rw[if_pos o] at b;subst o;have h:=aB b;clear a b;go_enter func390,ntmps390;go_wp2_with fail;exact⟨rfl,lB.stop h.out (by decide)⟩
 rw[if_neg o] at b;have A:(y==0)=false:=by simpa using o
 by_cases n:op=[47]
 ·rw[if_pos n] at b;have u:((bs op).toList==[47])=true:=by rw[a,n];rfl
  have h:=aB b;clear a b n;go_enter func390,ntmps390;go_wp2_with fail;go_ret;exact lB.ok h.out (PV.wrap F w (x.tdiv y))
 ·rw[if_neg n] at b;have u:((bs op).toList==[47])=false:=by rw[a];simpa using n
  have p:=I5 x y s q;rw[XL _ p.1 p.2] at b;have h:=aB b;have t:=aB p;clear a b n p;go_enter func390,ntmps390;go_wp2_with fail;go_ret;exact lB.ok h.out (PV.num F w (x.tmod y) t.out.1 t.out.2)
def CD(o:UInt8)(z:o=45\/o=33)(F:Nat->Prop)(v:Value)(a:aJ)(w:World)(h:PV F w v a):
 Calls prog 384 #[.string (bs [o]),v] w (lB F w (fF [o,120] a)):=by
 rcases z with rfl|rfl
 ·have A:((bs [45]).toList==[33])=false:=by rw[cA];rfl
  rcases h.cases with ⟨n,rfl,rfl,D,C⟩|⟨b,rfl,rfl⟩|⟨s,rfl,rfl⟩|⟨x,c,l,rfl,rfl,_⟩
  ·have p:=aB (Hs.oneL_neg (op:=[45,120]) (a:=bC n) rfl rfl);have q:=lF;clear h;generalize fF [45,120] (bC n)=r at*;go_enter func384,ntmps384;go_wp2_with fail;go_ret;exact lB.ok p.out (by have i:=PV.wrap F w (-n);rw[RV] at i;exact i)
  ·have q:=kI;clear h;go_enter func384,ntmps384;go_wp2_with fail;exact⟨rfl,lB.stop (a:=bN) (by unfold fF;simp[bO]) (by decide)⟩
  ·have q:=lE;clear h;go_enter func384,ntmps384;go_wp2_with fail;exact⟨rfl,lB.stop (a:=bN) (by unfold fF;simp[bK]) (by decide)⟩
  ·have q:=kG;clear h;go_enter func384,ntmps384;go_wp2_with fail;exact⟨rfl,lB.stop (a:=bN) (by unfold fF;simp[aW]) (by decide)⟩
 ·have A:((bs [33]).toList==[33])=true:=by rw[cA];rfl
  have B:=aB (oP F v a w h);obtain⟨r,j⟩:∃r,r=fF [33,120] a:=⟨_,rfl⟩;rw[<-j];have k:=aB j
  have d:∃t u,v=.iface t u:=by
   rcases h.cases with ⟨n,rfl,_⟩|⟨b,rfl,_⟩|⟨s,rfl,_⟩|⟨x,c,l,rfl,_⟩<;>exact⟨_,_,rfl⟩
  obtain⟨t,u,rfl⟩:=d;have y:=aB h.cases;clear h j;go_enter func384,ntmps384;go_wp2_with fail;refine B.out.mono ?_;rintro e m ⟨rfl,⟨g,rfl⟩|⟨g,rfl⟩⟩
  ·have f:=aB g;clear g;go_wp2_with fail;go_ret;refine lB.ok (a:=bO (!decide (a.n=1))) ?_ (PV.tru F m (!decide (a.n=1)));rw[k.out];unfold fF;rw[if_neg (by simp),if_pos ⟨rfl,f.out⟩]
   rcases y.out with ⟨n,_,rfl,_⟩|⟨b,_,rfl⟩|⟨s,_,rfl⟩|⟨x,c,l,_,rfl,_⟩
   ·have:=f.out;simp[bC] at this
   ·cases b<;>rfl
   ·have:=f.out;simp[bK] at this
   ·have:=f.out;simp[aW] at this
  ·have f:=aB g;clear g;go_wp2_with fail;exact⟨rfl,lB.stop (a:=bN) (by rw[k.out];unfold fF;rw[if_neg (by simp),if_neg (fun i=>f.out i.2)]) (by decide)⟩
def PVs.get{F:Nat->Prop}{w:World}{x:Option Addr}{n c:Nat}{l:List aJ}(h:PVs F w (.slice x n c) l)(i:Nat)(b:i<l.length):∃g u,x=some ⟨g,0,none⟩/\n=l.length/\F g/\g<w.heap.size/\l.length<=c/\w.cell? ⟨g,i,none⟩=some u/\PV F w u l[i]:=by
 rcases h with ⟨rfl,_⟩|⟨g,k,o,j,e,a,f,m⟩
 ·simp at b
 ·cases j;obtain⟨u,d,p⟩:=m i b;exact⟨g,u,rfl,rfl,e,aD a,f,aA a d,p⟩
def PV.form{F:Nat->Prop}{w:World}{v:Value}{a:aJ}(h:PV F w v a):∃t u,v=.iface t u:=by
 rcases h.cases with ⟨n,rfl,_⟩|⟨b,rfl,_⟩|⟨s,rfl,_⟩|⟨x,c,l,rfl,_⟩<;>exact⟨_,_,rfl⟩
def PVs.keep{F:Nat->Prop}{w w':World}{c:Value}{l:List aJ}(h:PVs F w c l)(a:∀b,F b->w'.heap[b]?=w.heap[b]?):PVs F w' c l:=(VLr.mono h (fun _ _ h=>h.keep a) (fun _ h=>h)).keep a
def PVs.mono{F G:Nat->Prop}{w:World}{a:Value}{l:List aJ}(h:PVs F w a l)(c:∀b,F b->G b):PVs G w a l:=VLr.mono h (fun _ _ h=>h.mono c) c
def E4(n:Int):aK (bC n)=1:=by rw[eR];simp[bC]
def E1(b:Bool):aK (bO b)=1:=by rw[eR];simp[bO]
def kP(s:List UInt8):aK (bK s)=1+s.length:=by rw[eR];simp[bK]
def iP(l:List aJ):aK (aW l)=1+(l.map aK).sum:=by rw[eR];simp[aW]
def lN{l:List aJ}{a:aJ}(h:a∈l):aK a<=(l.map aK).sum:=by
 induction l with
 |nil=>cases h
 |cons x l b=>
  simp only[aM_,aO_];rcases aG_.1 h with rfl|h
  ·omega
  ·have:=b h;omega
def rZ(a:aJ):1<=aK a:=by rw[eR];omega
def jJ(l:List aJ):l.length<=(l.map aK).sum:=by
 induction l with
 |nil=>simp
 |cons x l a=>simp only[aM_,aO_,aB_];have:=rZ x;omega
def ML(F:Nat->Prop)(k:Nat):Prop:=∀(v:Value) (a:aJ) (w:World),PV F w v a->aK a<=k->k<=1000000000->Calls prog 379 #[v] w fun e w'=>w'=w/\e=.returned (.int .i64 (aK a:Nat))
def OH(F:Nat->Prop)(k:Nat)(f:ML F k):ML F (k+1):=by
 intro v a w h p O;rcases h.cases with ⟨n,rfl,rfl,P,M⟩|⟨b,rfl,rfl⟩|⟨s,rfl,rfl⟩|⟨x,c,l,rfl,rfl,E⟩
 ·have q:=mP;have G:=iU;rw[E4];clear h f p;go_enter func379,ntmps379;go_wp2_with fail;go_ret;exact⟨rfl,rfl⟩
 ·have q:=kH;have G:=gK;rw[E1];clear h f p;go_enter func379,ntmps379;go_wp2_with fail;go_ret;exact⟨rfl,rfl⟩
 ·have q:=jZ;have U:(bs s).size=s.length:=gA s;rw[kP] at p ⊢
  clear h f;go_enter func379,ntmps379;go_wp2_with fail;go_ret;exact⟨rfl,by go_num⟩
 ·have q:=lT;have G:=gJ;have D:=jJ l;rw[iP] at p ⊢
  have A:=aB f;have J:=aB E;clear h f E;go_enter func379,ntmps379;go_wp2_with fail;go_loopg [5,7,20] l.length (fun gk s _ i wr=>∃j:Nat,j+gk=l.length/\i=.int .i64 j/\s=.int .i64 ((1+((l.map aK).take j).sum:Nat):Int)/\wr=w)
  case atStart=>exact⟨0,by omega,rfl,rfl,rfl⟩
  case round=>
   obtain⟨j,W,rfl,rfl,rfl⟩:=hrel;by_cases d:j<l.length
   ·obtain⟨m,rfl⟩:∃m,gk=m+1:=⟨gk-1,by omega⟩
    obtain⟨g,u,rfl,V,T,N,C,z,B⟩:=J.out.get j d;have o:l[j]∈l:=aR_ d;have H:=lN o;have K:=aB (A.out u l[j] wr B (by omega) (by omega))
    obtain⟨t,S,rfl⟩:=B.form
    have r:((l.map aK).take (j+1)).sum=((l.map aK).take j).sum+aK l[j]:=by
     rw[aT_ (by simpa using d),bC_];simp only[List.getElem_map,aO_,bg_,Nat.add_zero]
    have I:((l.map aK).take (j+1)).sum<=(l.map aK).sum:=by
     have e:(l.map aK).sum=((l.map aK).take (j+1)++(l.map aK).drop (j+1)).sum:=by rw[a5_]
     rw[e,bC_];omega
    generalize aK l[j]=Q at*;clear B;go_wp2_with fail;refine K.out.mono ?_;rintro e L ⟨rfl,rfl⟩;go_wp2_with fail;go_roundg m
    case measure=>omega
    case rel=>exact⟨j+1,by omega,by go_num,by rw[r];go_num,rfl⟩
   ·have y:j=l.length:=by omega
    subst y;go_wp2_with fail;go_ret;exact⟨rfl,by rw[a0_ (by simp)];rfl⟩
def CM(F:Nat->Prop):∀k,ML F k
 |0=>fun v a w _ h=>by have:=rZ a;omega
 |k+1=>OH F k (CM F k)
def mG(F:Nat->Prop)(v:Value)(a:aJ)(w:World)(h:PV F w v a)(g:aK a<=1000000000):
 Calls prog 378 #[v] w fun e d=>d=w/\((aK a<=200/\e=.returned v)\/(200<aK a/\e=fH 6)):=by
 have b:=aB (CM F 1000000000 v a w h g (au_ _));obtain⟨t,u,rfl⟩:=h.form;clear h;generalize aK a=n at*;by_cases f:n<=200
 ·have e:decide ((200:Int)<(n:Int))=false:=decide_eq_false (by omega)
  go_enter func378,ntmps378;go_wp2_with fail;refine b.out.mono ?_;rintro e c ⟨rfl,rfl⟩;go_wp2_with fail;go_ret;exact⟨rfl,av_ ⟨f,rfl⟩⟩
 ·have e:decide ((200:Int)<(n:Int))=true:=decide_eq_true (by omega)
  go_enter func378,ntmps378;go_wp2_with fail;refine b.out.mono ?_;rintro e c ⟨rfl,rfl⟩;go_wp2_with fail;exact⟨rfl,rfl,as_ ⟨by omega,rfl⟩⟩
def tR(F:Nat->Prop)(v:Value)(a:aJ)(n:Nat)(w:World)(h:PV F w v a)(_hn:n<=1000000000):
 Calls prog 382 #[v,.int .i64 n] w fun e g=>g=w/\((a.sort≠0/\e=fH 2)\/(a.sort=0/\(a.n<0\/(n:Int)<=a.n)/\e=fH 4)\/(a.sort=0/\∃k:Nat,k<n/\a.n=k/\e=.returned (.int .i64 k))):=by
 rcases h.cases with ⟨m,rfl,rfl,p,o⟩|⟨b,rfl,rfl⟩|⟨s,rfl,rfl⟩|⟨x,c,l,rfl,rfl,_⟩
 ·have q:=lF;clear h;by_cases f:m<0
  ·have j:decide (m<0)=true:=decide_eq_true f;go_enter func382,ntmps382;go_wp2_with fail;exact⟨rfl,rfl,as_ (av_ ⟨rfl,av_ f,rfl⟩)⟩
  have j:decide (m<0)=false:=decide_eq_false f;by_cases d:(n:Int)<=m
  ·have i:decide ((n:Int)<=m)=true:=decide_eq_true d;go_enter func382,ntmps382;go_wp2_with fail;exact⟨rfl,rfl,as_ (av_ ⟨rfl,as_ d,rfl⟩)⟩
  ·have i:decide ((n:Int)<=m)=false:=decide_eq_false d;go_enter func382,ntmps382;go_wp2_with fail;go_ret;exact⟨rfl,as_ (as_ ⟨rfl,m.toNat,by omega,by show m=_;omega,by rw[Int.toNat_of_nonneg (by omega)];rfl⟩)⟩
 ·have q:=kI;clear h;go_enter func382,ntmps382;go_wp2_with fail;exact⟨rfl,rfl,av_ ⟨by simp[bO],rfl⟩⟩
 ·have q:=lE;clear h;go_enter func382,ntmps382;go_wp2_with fail;exact⟨rfl,rfl,av_ ⟨by simp[bK],rfl⟩⟩
 ·have q:=kG;clear h;go_enter func382,ntmps382;go_wp2_with fail;exact⟨rfl,rfl,av_ ⟨by simp[aW],rfl⟩⟩
def KO(F:Nat->Prop)(x:Option Addr)(c:Nat)(l:List aJ)(w:World)(h:PVs F w (.slice x l.length c) l)(d:aK (aW l)<=1000000000):
 Calls prog 376 #[.slice x l.length c] w fun e b=>b=w/\((aK (aW l)<=200/\e=.returned (.iface 319 (.slice x l.length c)))\/(200<aK (aW l)/\e=fH 6)):=by
 have f:=aB (mG F _ _ w (PV.lst h) d);clear h;generalize aK (aW l)=n at*;go_enter func376,ntmps376;go_wp2_with fail;refine f.out.mono ?_;rintro e g ⟨rfl,⟨a,rfl⟩|⟨a,rfl⟩⟩
 ·go_wp2_with fail;go_ret;exact⟨rfl,av_ ⟨a,rfl⟩⟩
 ·go_wp2_with fail;exact⟨rfl,rfl,as_ ⟨a,rfl⟩⟩
noncomputable def GT(op:List UInt8)(a b:List UInt8):aJ × Nat:=
 if op=[60] then (bO (fY a b),0)
 else if op=[60,61] then (bO (!fY b a),0)
 else if op=[43] then (if 200<aK (bK (a++b)) then (bN,6) else (bK (a++b),0))
 else (bN,2)
def YQ(op:List UInt8)(F:Nat->Prop)(a b:List UInt8)(w:World)(p:a.length+b.length<=1000000):
 Calls prog 391 #[.string (bs op),.string (bs a),.string (bs b)] w (lB F w (GT op a b)):=by
 have c:=cA op;obtain⟨r,d⟩:∃r,r=GT op a b:=⟨_,rfl⟩;rw[<-d];unfold GT at d;by_cases g:op=[60]
 ·rw[if_pos g] at d;have o:((bs op).toList==[60])=true:=by rw[c,g];rfl
  have h:Hid (Op.bytesLess (bs a).toList (bs b).toList=fY a b):=by show _=_;rw[cA,cA,uB]
  have f:=aB d;clear c d g;generalize fY a b=s at*;go_enter func391,ntmps391;go_wp2_with fail;go_ret;exact lB.ok f.out (by rw[<-h.out];exact PV.tru F w _)
 rw[if_neg g] at d;have o:((bs op).toList==[60])=false:=by rw[c];simpa using g
 by_cases i:op=[60,61]
 ·rw[if_pos i] at d;have u:((bs op).toList==[60,61])=true:=by rw[c,i];rfl
  have h:Hid ((Op.bytesLess (bs a).toList (bs b).toList || (bs a).toList==(bs b).toList)= !fY b a):=by show _=_;rw[cA,cA,uB,JC]
  have f:=aB d;clear c d g i;generalize fY b a=s at*;go_enter func391,ntmps391;go_wp2_with fail;go_ret;exact lB.ok f.out (by rw[<-h.out];exact PV.tru F w _)
 rw[if_neg i] at d;have u:((bs op).toList==[60,61])=false:=by rw[c];simpa using i
 by_cases j:op=[43]
 ·rw[if_pos j] at d;have t:((bs op).toList==[43])=true:=by rw[c,j];rfl
  have k:=kP (a++b);have v:=aB (mG F (.iface 318 (.string (bs (a++b)))) _ w (PV.str F w (a++b)) (by rw[k,aw_];omega))
  have f:=aB d;have q:=gA;clear c d g i j k;go_enter func391,ntmps391;go_wp2_with fail;refine v.out.mono ?_;rintro e n ⟨rfl,⟨l,rfl⟩|⟨l,rfl⟩⟩
  ·have m:Hid (r=(bK (a++b),0)):=by show _=_;rw[f.out,if_neg (by omega)]
   clear l f;go_wp2_with fail;go_ret;exact lB.ok m.out (PV.str F n (a++b))
  ·have m:Hid (r=(bN,6)):=by show _=_;rw[f.out,if_pos l]
   clear l f;go_wp2_with fail;exact⟨rfl,lB.stop m.out (by decide)⟩
 ·rw[if_neg j] at d;have t:((bs op).toList==[43])=false:=by rw[c];simpa using j
  have f:=aB d;clear c d g i j;go_enter func391,ntmps391;go_wp2_with fail;exact⟨rfl,lB.stop f.out (by decide)⟩
def mW:(prog.info? 256).map (fun i=>(i.zero,i.size,i.bytes))=some (some .nilIface,1,16):=by kernel_rfl
def wN{P:Program}(w:World)(t u r e:TypeId)(i:TypeInfo)(z:Value)(j:P.underlying t=some (.slice e))(q:P.underlying u=some (.int .i64))(s:P.info? e=some i)(o:i.zero=some z)(m:i.size=1)
 (n:Nat) (k:0<n) (v:n<=1000000000) (l:i.bytes<=64):
 (Builtin.append_ #[t,u] r #[.slice none 0 0,.int .i64 n]).run P w=
   .ok (.slice (some ⟨w.heap.size,0,none⟩) n (grownCap w n 0 e)) (w.drew.alloc (.cells (Builtin.zeroCells z.cells n++Builtin.zeroCells z.cells (grownCap w n 0 e-n)) e)):=by
 have g:n≠0:=by omega
 have h:n*i.bytes<=1000000000*64:=Nat.mul_le_mul v l;have d:¬(281474976710656<Builtin.nextslicecap n 0*i.bytes):=by rw[nextslicecap_zero k];omega
 have f:¬(9223372036854775807<(n:Int)):=by omega
 have p:IntKind.i64.wrap (n:Int)=n:=by
  rw[IntKind.wrap_i64];omega
 have c:¬(281474976710656<(n:Int)*(i.bytes:Int)):=by
  have:((n*i.bytes:Nat):Int)<=64000000000:=by omega
  rw[Int.natCast_mul] at this;omega
 have b:¬((n:Int)<0):=by omega
 have a:max (n:Int) 0=n:=by omega
 simp[Builtin.append_,run_underlying j,run_underlying q,sizeOf,typeInfo,zeroValue,s,o,m,p,asInt,asIntOf,b,a,g,f,d,c,Question.forced,run_firstCells_none,newRow,grownCap]
def sG{P:Program}{w:World}{c:Array Oper}{b:List Oper}{o:Oper}{a:Act}{Q:Exit->Act->World->Prop}(f:o.guard=none)(s x:Operand)(t u:TypeId)
 (q:o.op=.call { callee:=.builtin .append,args:= #[s,x],argTypes:= #[t,u] })
 (e:TypeId) (i:TypeInfo) (z:Value) (g:P.underlying t=some (.slice e)) (r:P.underlying u=some (.int .i64)) (y:P.info? e=some i) (p:i.zero=some z) (l:i.size=1)
 (n:Nat) (j:0<n) (B:n<=1000000000) (k:i.bytes<=64) (v:a.eval s=.slice none 0 0) (A:a.eval x=.int .i64 n)
 (h:wpList P c Q b (a.put o.dst (.slice (some ⟨w.heap.size,0,none⟩) n (grownCap w n 0 e))) (w.drew.alloc (.cells (Builtin.zeroCells z.cells n++Builtin.zeroCells z.cells (grownCap w n 0 e-n)) e))):wpList P c Q (o::b) a w:=by
 refine wpList_plain f fun K m=>?_
 have d:=wN (P:=P) w t u o.type e i z g r y p l n j B k;unfold Oper.wp;simp[execOp,q,resolve,invoke,builtin,v,A,d,Result.andThen];exact m _ _ h
def YV(n:Nat)(p:n<=1000000)(w:World):
 Calls prog 395 #[.slice none 0 0,.int .i64 n] w fun e i=>∃v,e=.returned v/\i.ownsRow w.heap.size 256 1 v 0 []/\Below w.heap.size w i:=by
 obtain⟨j,m,d,g,k⟩:=info_parts mW;rcases bS_ n with rfl|l
 ·go_enter func395,ntmps395;go_wp2_with fail;go_ret;exact⟨_,rfl,World.ownsRow_nil _ _ _ _,ay_ _ _⟩
 ·have q:decide ((n:Int)<0)=false:=decide_eq_false (by omega)
  have o:decide ((0:Int)<(n:Int))=true:=decide_eq_true (by omega)
  have b:=grownCap_ge w n 0 256;have a:=grownCap_le_maxLen w n 0 256 (by unfold maxLen;omega)
  generalize c:grownCap w n 0 256=f at b a;have h:=aB c;clear c;go_enter func395,ntmps395;go_wp2_with (at_builtin;refine sG (by rfl) _ _ 319 3 (by rfl) 256 j .nilIface underlying319 underlying3 m d g n l (by omega) (by omega) (by rfl) (by rfl) ?_;rw[h.out])
  go_ret;refine⟨_,rfl,⟨rfl,as_ ⟨w.heap.size,f,_,rfl,au_ _,aM _ _ rfl _,a9_ _,a,?_,rfl⟩⟩,?_⟩
  ·rw[Array.size_append,size_zeroCells,size_zeroCells];simp;omega
  ·exact((ay_ _ _).drew).alloc (by simp) _
def fT(F:Nat->Prop)(w:World)(xs:List Value)(l:List aJ):Prop:=xs.length=l.length/\∀i (h:i<l.length),∃u,xs[i]?=some u/\PV F w u l[i]
def fT.nil(F:Nat->Prop)(w:World):fT F w [] []:=⟨rfl,fun i h=>by simp at h⟩
def fT.keep{F:Nat->Prop}{w w':World}{xs:List Value}{l:List aJ}(h:fT F w xs l)(a:∀b,F b->w'.heap[b]?=w.heap[b]?):fT F w' xs l:=
 ⟨h.1,fun i e=>by obtain⟨u,d,c⟩:=h.2 i e;exact⟨u,d,c.keep a⟩⟩
def fT.mono{F G:Nat->Prop}{w:World}{xs:List Value}{l:List aJ}(h:fT F w xs l)(e:∀b,F b->G b):fT G w xs l:=
 ⟨h.1,fun i d=>by obtain⟨u,c,a⟩:=h.2 i d;exact⟨u,c,a.mono e⟩⟩
def fT.append{F:Nat->Prop}{w:World}{xs d:List Value}{l m:List aJ}(h:fT F w xs l)(k:fT F w d m):fT F w (xs++d) (l++m):=by
 refine⟨by simp[h.1,k.1],fun i f=>?_⟩
 rcases a6_ i l.length with a|a
 ·obtain⟨u,b,c⟩:=h.2 i a;exact⟨u,by rw[a3_ (by rw[h.1];exact a)];exact b,by rw[bv_ a];exact c⟩
 ·have e:i-l.length<m.length:=by simp at f;omega
  obtain⟨u,b,c⟩:=k.2 _ e;exact⟨u,by rw[aV_ (by rw[h.1];exact a),h.1];exact b,by rw[bM_ a];exact c⟩
def PVs.row{F:Nat->Prop}{w:World}{d:Value}{l:List aJ}(h:PVs F w d l):(l=[]/\d=.slice none 0 0)\/∃g a k,d=.slice (some ⟨g,0,none⟩) l.length a/\F g/\g<w.heap.size/\fT F w k l/\∀j u,k[j]?=some u->w.cell? ⟨g,j,none⟩=some u:=by
 rcases h with h|⟨g,a,b,q,o,m,t,f⟩
 ·exact av_ h
 ·have s:l.length<=b.size:=by
   rcases bS_ l.length with p|p
   ·omega
   ·obtain⟨u,e,_⟩:=f (l.length-1) (by omega)
    have:=(bi_.1 e).1;omega
  refine as_ ⟨g,a,b.toList.take l.length,q,o,aD m,⟨by simp;omega,fun i n=>?_⟩,fun j u c=>?_⟩
  ·obtain⟨u,e,r⟩:=f i n;exact⟨u,by rw[aU_,if_pos n];simpa using e,r⟩
  ·rw[aU_] at c;split at c
   ·exact aA m (by simpa using c)
   ·cases c
def PVs.ofRow{F:Nat->Prop}{w:World}{base:Nat}{v:Value}{xs:List Value}{l:List aJ}(h:w.ownsRow base 256 1 v l.length xs)(p:fT F w xs l)(o:∀k,v.ownBlock=some k->F k):PVs F w v l:=by
 rcases h.2 with ⟨a,d⟩|⟨g,b,c,a,d,f,j,s,r,m⟩
 ·exact av_ ⟨aN_ d,a⟩
 ·refine as_ ⟨g,b,c,a,o g (by rw[a];rfl),f,j,fun i q=>?_⟩
  obtain⟨u,e,n⟩:=p.2 i q;refine⟨u,?_,n⟩;rw[<-m,aU_,if_pos (by omega)] at e
  simpa using e
def oG{F:Nat->Prop}{w:World}{xs:List Value}{l:List aJ}(h:fT F w xs l):∀u∈xs,u.oneCell'=true:=by
 intro u c;obtain⟨j,b,rfl⟩:=List.mem_iff_getElem.1 c;obtain⟨f,a,d⟩:=h.2 j (by rw[<-h.1];exact b)
 rw[aH_ b] at a;cases a;obtain⟨t,z,e⟩:=d.form;rw[e];rfl
def DZ{y:Array Oper}{i:List Oper}{o:Oper}{a:Act}{Q:Exit->Act->World->Prop}{w:World}(r:o.guard=none)(s x:Operand)(t:TypeId)(G:prog.underlying t=some (.slice 256))
 (M:o.op=.call { callee:=.builtin .append,args:= #[s,x],argTypes:= #[t,t] })
 (base:Nat) (v:Value) (l m:List aJ) (xs:List Value) (F:Nat->Prop) (P:a.eval s=v) (c:w.ownsRow base 256 1 v l.length xs) (O:fT F w xs l)
 (N:Value) (T:a.eval x=N) (U:PVs F w N m) (K:∀b,F b->b<w.heap.size/\v.ownBlock≠some b) (J:l.length+m.length<=1000000000) (n:base<=w.heap.size)
 (h:∀A k z,k.ownsRow base 256 1 A (l++m).length z->fT F k z (l++m)->w.grownBy k v.ownBlock->wpList prog y Q i (a.put o.dst A) k):
 wpList prog y Q (o::i) a w:=by
 obtain⟨L,S,B,D,E⟩:=info_parts mW;rcases U.row with ⟨rfl,rfl⟩|⟨g,C,z,rfl,X,W,f,p⟩
 ·refine wpList_append_own_none r s x t M base 256 L 1 G S v l.length xs P c T ?_;exact h v w xs (by simpa using c) (by simpa using O) ⟨rfl,rfl,rfl,au_ _,fun _ _ _=>rfl⟩
 ·refine wpList_append_own _ r s x t M base 256 L _ 1 16 G S B D E rfl (by decide) v l.length xs P c ⟨g,0,none⟩ m.length C z T (by rw[f.1];omega) (fun j u V=>by rw[Addr.add_lit,bk_];exact p j u V) (oG f) (by unfold maxLen;omega) (by omega) n ?_
  intro A k q d _;have I:∀b,F b->k.heap[b]?=w.heap[b]?:=fun b H=>d.block b (K b H).1 (fun e=>(K b H).2 e.symm)
  exact h A k (xs++z) (by rw[aw_];exact q) ((O.keep I).append (f.keep I)) d
def nX(F:Nat->Prop)(w:World)(ls:List aJ)(v:Value)(wr:World):Prop:=
 ∃ys,wr.ownsRow w.heap.size 256 1 v ls.length ys/\fT F wr ys ls/\Below w.heap.size w wr
def nX.step{F:Nat->Prop}{w wr w':World}{a m:List aJ}{v v':Value}{b:List Value}(h:nX F w a v wr)(g:w'.ownsRow w.heap.size 256 1 v' (a++m).length b)(i:fT F w' b (a++m))(d:wr.grownBy w' v.ownBlock):nX F w (a++m) v' w':=by
 obtain⟨l,f,j,c⟩:=h;refine⟨b,g,i,c.grown d c.size fun k e=>?_⟩
 exact cC f k e
def cU{w:World}{base n k:Nat}{t:TypeId}{v:Value}{e:List Value}(h:w.ownsRow base t k v n e):∃x c,v=.slice x n c:=by
 rcases h.2 with ⟨a,b⟩|⟨g,f,d,a,_⟩
 ·exact⟨none,0,by rw[a,b]⟩
 ·exact⟨_,_,a⟩
def OF(F:Nat->Prop)(b:Nat)(x y:Option Addr)(c d:Nat)(l m:List aJ)(w:World)(I:w.heap[b]?=some (.cells #[.slice x l.length c,.slice y m.length d] 319 (0,0)))(hl:PVs F w (.slice x l.length c) l)(hm:PVs F w (.slice y m.length d) m)(Z:∀k,F k->k<w.heap.size)(ac:l.length+m.length<=1000000):
 Calls prog 394 #[.slice (some ⟨b,0,none⟩) 2 2] w fun e C=>∃D,e=.returned D/\nX F w (l++m) D C:=by
 have j:=aD I;have V:=aA I (i:=0) rfl;have W:=aA I (i:=1) rfl;have HL:=aB hl;have HM:=aB hm;have E:=aB Z;have Y:=aB (YV (l.length+m.length) (by omega) w)
 have P:=aB I;clear hl hm Z I;go_enter func394,ntmps394;go_wp2_with fail;go_loopg [3,5,11] 2 (fun gk s _ i wr=>wr=w/\((gk=2/\i=.int .i64 0/\s=.int .i64 0)\/(gk=1/\i=.int .i64 1/\s=.int .i64 (l.length:Nat))\/(gk=0/\i=.int .i64 2/\s=.int .i64 ((l.length+m.length:Nat):Int))))
 case atStart=>exact⟨rfl,av_ ⟨rfl,rfl,rfl⟩⟩
 case round=>
  obtain⟨hw,hrel⟩:=hrel;obtain rfl:=hw.symm;rcases hrel with ⟨rfl,rfl,rfl⟩|⟨rfl,rfl,rfl⟩|⟨rfl,rfl,rfl⟩
  ·have e:decide ((l.length:Int)<0)=false:=decide_eq_false (by omega)
   go_wp2_with fail;go_roundg 1
   case measure=>omega
   case rel=>exact⟨rfl,as_ (av_ ⟨rfl,rfl,rfl⟩)⟩
  ·have e:decide ((l.length:Int)+(m.length:Int)<0)=false:=decide_eq_false (by omega)
   go_wp2_with fail;go_roundg 0
   case measure=>omega
   case rel=>exact⟨rfl,as_ (as_ ⟨rfl,rfl,by simp⟩)⟩
  ·go_wp2_with fail;refine Y.out.mono ?_;rintro e w1 ⟨v1,rfl,h,N⟩
   obtain⟨x1,T,rfl⟩:∃x c,v1=.slice x 0 c:=by
    rcases h.2 with ⟨S,_⟩|⟨g,aa,ab,S,_⟩
    ·exact⟨none,0,S⟩
    ·exact⟨_,_,S⟩
   have O:Hid (nX F w [] (.slice x1 0 T) w1):=⟨[],h,fT.nil _ _,N⟩;clear h N Y V W;go_wp2_with fail;go_loopg [6,8,27] 2 (fun gk s _ i U=>(gk=2/\i=.int .i64 0/\nX F w [] s U)\/(gk=1/\i=.int .i64 1/\nX F w l s U)\/(gk=0/\i=.int .i64 2/\nX F w (l++m) s U))
   case atStart=>exact av_ ⟨rfl,rfl,O.out⟩
   case round=>
    rcases hrel with ⟨rfl,rfl,A⟩|⟨rfl,rfl,A⟩|⟨rfl,rfl,A⟩
    ·have u:=A;obtain⟨Q,n,M,a⟩:=A;obtain⟨G,H,rfl⟩:=cU n;have V:wr.cell? ⟨b,0,none⟩=some (.slice x l.length c):=aA ((a.block b j).trans P.out) rfl;have W:wr.cell? ⟨b,1,none⟩=some (.slice y m.length d):=aA ((a.block b j).trans P.out) rfl;have J:b<wr.heap.size:=az_ j a.size;have L:=aB n;have K:=aB M;have t:=aB a;have r:=aB u;have q:=aB (HL.out.keep (w':=wr) fun k z=>a.block k (E.out k z))
     have v:Hid (∀k,F k->k<wr.heap.size/\(Value.slice G ([]:List aJ).length H).ownBlock≠some k):=fun k z=>⟨az_ (E.out k z) a.size,fun e=>by have:=cC n k e;have:=E.out k z;omega⟩
     clear n M a u O;go_wp2_with (at_builtin;refine DZ (by rfl) _ _ 319 underlying319 (by rfl) w.heap.size (.slice G ([]:List aJ).length H) ([]:List aJ) l Q F (by rfl) L.out K.out _ (by rfl) q.out v.out (by first|omega|(simp;omega)) t.out.size ?_)
     intro D C X f o p;have B:Hid (nX F w (([]:List aJ)++l) D C):=r.out.step (by first|exact f|(rw[aw_];exact f)) o p
     obtain⟨x',c',rfl⟩:=cU f;clear f o p L K q v t r;go_wp2_with fail;go_roundg 1
     case measure=>omega
     case rel=>exact as_ (av_ ⟨rfl,rfl,by simpa using B.out⟩)
    ·have u:=A;obtain⟨Q,n,M,a⟩:=A;obtain⟨G,H,rfl⟩:=cU n;have V:wr.cell? ⟨b,0,none⟩=some (.slice x l.length c):=aA ((a.block b j).trans P.out) rfl;have W:wr.cell? ⟨b,1,none⟩=some (.slice y m.length d):=aA ((a.block b j).trans P.out) rfl;have J:b<wr.heap.size:=az_ j a.size;have L:=aB n;have K:=aB M;have t:=aB a;have r:=aB u;have q:=aB (HM.out.keep (w':=wr) fun k z=>a.block k (E.out k z))
     have v:Hid (∀k,F k->k<wr.heap.size/\(Value.slice G (l).length H).ownBlock≠some k):=fun k z=>⟨az_ (E.out k z) a.size,fun e=>by have:=cC n k e;have:=E.out k z;omega⟩
     clear n M a u O;go_wp2_with (at_builtin;refine DZ (by rfl) _ _ 319 underlying319 (by rfl) w.heap.size (.slice G (l).length H) (l) m Q F (by rfl) L.out K.out _ (by rfl) q.out v.out (by first|omega|(simp;omega)) t.out.size ?_)
     intro D C X f o p;have B:Hid (nX F w (l++m) D C):=r.out.step (by first|exact f|(rw[aw_];exact f)) o p
     obtain⟨x',c',rfl⟩:=cU f;clear f o p L K q v t r;go_wp2_with fail;go_roundg 0
     case measure=>omega
     case rel=>exact as_ (as_ ⟨rfl,rfl,B.out⟩)
    ·have HC:=aB A;obtain⟨Q,n,_⟩:=A;obtain⟨G,H,rfl⟩:=cU n;clear n O;go_wp2_with fail;go_ret;exact⟨_,rfl,HC.out⟩
def eM(F:Nat->Prop)(w:World)(r:aJ × Nat)(e:Ending)(w':World):Prop:=Below w.heap.size w w'/\((r.2=0/\∃u,e=.returned u/\PV (Grow F w w') w' u r.1)\/(r.2≠0/\e=fH r.2))
def eM.ok{F:Nat->Prop}{w w':World}{r:aJ × Nat}{u:Value}{a:aJ}(c:Below w.heap.size w w')(b:r=(a,0))(h:PV (Grow F w w') w' u a):eM F w r (.returned u) w':=by subst b;exact⟨c,av_ ⟨rfl,u,rfl,h⟩⟩
def eM.stop{F:Nat->Prop}{w w':World}{r:aJ × Nat}{a:aJ}{k:Nat}(d:Below w.heap.size w w')(c:r=(a,k))(b:k≠0):eM F w r (fH k) w':=by subst c;exact⟨d,as_ ⟨b,rfl⟩⟩
noncomputable def wR(op:List UInt8)(l m:List aJ):aJ × Nat:=if op=[43] then (if 200<aK (aW (l++m)) then (bN,6) else (aW (l++m),0)) else (bN,2)
def TG(op:List UInt8)(F:Nat->Prop)(x y:Option Addr)(c d:Nat)(l m:List aJ)(w:World)(E:PVs F w (.slice x l.length c) l)(G:PVs F w (.slice y m.length d) m)(s:∀k,F k->k<w.heap.size)(P:aK (aW l)+aK (aW m)<=1000000):
 Calls prog 392 #[.string (bs op),.slice x l.length c,.slice y m.length d] w (eM F w (wR op l m)):=by
 have a:=cA op;obtain⟨r,h⟩:∃r,r=wR op l m:=⟨_,rfl⟩;rw[<-h];unfold wR at h;by_cases i:op=[43]
 ·rw[if_pos i] at h;have I:((bs op).toList==[43])=true:=by rw[a,i];rfl
  have D:((bs op).toList != [43])=false:=by rw[a,i];rfl
  have J:=jJ l;have M:=jJ m;rw[iP,iP] at P;have N:aK (aW (l++m))=1+((l.map aK).sum+(m.map aK).sum):=by rw[iP,a7_,bC_]
  have b:Below w.heap.size w (w.alloc (.cells #[.slice x l.length c,.slice y m.length d] 319)):=(ay_ _ _).alloc (au_ _) _;have H:=aB (OF F w.heap.size x y c d l m (w.alloc (.cells #[.slice x l.length c,.slice y m.length d] 319)) (aM _ _ rfl _) (E.keep fun k f=>b.block k (s k f)) (G.keep fun k f=>b.block k (s k f)) (fun k f=>az_ (s k f) b.size) (by omega))
  have j:=aB b;have p:=aB h;clear a h i E G s b;go_enter func392,ntmps392;go_wp2_with fail;refine H.out.mono ?_;rintro e z ⟨Q,rfl,S,t,q,v⟩;obtain⟨O,K,rfl⟩:=cU t;have g:=j.out.trans (v.mono j.out.size);have o:PVs (Grow F w z) z (.slice O (l++m).length K) (l++m):=PVs.ofRow t (q.mono fun k f=>av_ f) fun k f=>as_ ⟨by have:=cC t k f;have:=j.out.size;omega,cK t k f⟩
  have L:=aB (mG (Grow F w z) _ _ z (PV.lst o) (by omega))
  have B:=aB o;have u:=aB g;clear t q v g o H;generalize (l++m).length=n at*;go_wp2_with fail;refine L.out.mono ?_;rintro e T ⟨rfl,⟨A,rfl⟩|⟨A,rfl⟩⟩
  ·have C:Hid (r=(aW (l++m),0)):=by show _=_;rw[p.out,if_neg (by omega)]
   clear A p;go_wp2_with fail;go_ret;exact eM.ok u.out C.out (PV.lst B.out)
  ·have C:Hid (r=(bN,6)):=by show _=_;rw[p.out,if_pos A]
   clear A p;go_wp2_with fail;exact⟨rfl,eM.stop u.out C.out (by decide)⟩
 ·rw[if_neg i] at h;have I:((bs op).toList==[43])=false:=by rw[a];simpa using i
  have D:((bs op).toList != [43])=true:=by rw[a];simpa using i
  have p:=aB h;clear a h i E G s;go_enter func392,ntmps392;go_wp2_with fail;exact⟨rfl,eM.stop (ay_ _ _) p.out (by decide)⟩
def iJ{w:World}{a:Addr}{v:Value}(o:Obj)(h:w.cell? a=some v):(w.alloc o).cell? a=some v:=by
 have b:=World.block_lt_of_cell? w a h;rw[<-h];exact World.cell?_of_block (aA_ _ _ _ b)
def GD(g h n c:Nat)(b:List Value)(w:World)(C:b.length=n*1)(H:n<=1000000)(s:∀j u,b[j]?=some u->w.cell? ⟨g,h+j,none⟩=some u)(y:∀u∈b,u.oneCell'=true):
 Calls prog 407 #[.slice (some ⟨g,h,none⟩) n c] w fun e r=>∃m,e=.returned m/\r.ownsRow w.heap.size 256 1 m n b/\Below w.heap.size w r:=by
 obtain⟨A,D,o,p,q⟩:=info_parts mW;have z:=aB s;clear s;have x:∀(w:World) (a:Option Addr) (n c l i:Nat),(binOp .eql 319 (.slice a n c) (.slice none l i)).run prog w=.ok (.bool a.isNone) w:=fun w a n c l i=>Lib.run_eql_slice_nil w _ _ a n c l i underlying319
 go_enter func407,ntmps407;go_wp2_with (at_builtin;refine wpList_append_own _ (by rfl) _ _ 319 (by rfl) w.heap.size 256 A _ 1 16 underlying319 D o p q rfl (by decide) (.slice (some ⟨w.heap.size,0,none⟩) 0 0) 0 [] (by rfl) (World.ownsRow_made w #[] 0 (au_ _) (a9_ _) (by simp)) ⟨g,h,none⟩ n c b (by rfl) C (fun j u E=>by rw[Addr.add_lit];exact iJ _ (z.out j u E)) y (by unfold maxLen;omega) (by omega) (by simp) ?_)
 intro m F d f _;have B:=aB d;have v:=aB f;obtain⟨G,i,rfl⟩:=cU d;clear d f;go_wp2_with fail;go_ret;refine⟨_,rfl,by simpa using B.out,?_⟩
 exact((ay_ _ w).alloc (au_ _) _).grown v.out (by simp) (by intro k t;simp[Value.ownBlock] at t;omega)
def sU(g h n c:Nat)(b:List Value)(w:World)(C:b.length=n*1)(H:n<=1000000)(s:∀j u,b[j]?=some u->w.cell? ⟨g,h+j,none⟩=some u)(y:∀u∈b,u.oneCell'=true):
 Calls prog 282 #[.slice (some ⟨g,h,none⟩) n c] w fun e r=>∃m,e=.returned m/\r.ownsRow w.heap.size 256 1 m n b/\Below w.heap.size w r:=by
 obtain⟨A,D,o,p,q⟩:=info_parts mW;have z:=aB s;clear s;have x:∀(w:World) (a:Option Addr) (n c l i:Nat),(binOp .eql 193 (.slice a n c) (.slice none l i)).run prog w=.ok (.bool a.isNone) w:=fun w a n c l i=>Lib.run_eql_slice_nil w _ _ a n c l i underlying193
 go_enter func282,ntmps282;go_wp2_with (at_builtin;refine wpList_append_own _ (by rfl) _ _ 193 (by rfl) w.heap.size 256 A _ 1 16 underlying193 D o p q rfl (by decide) (.slice (some ⟨w.heap.size,0,none⟩) 0 0) 0 [] (by rfl) (World.ownsRow_made w #[] 0 (au_ _) (a9_ _) (by simp)) ⟨g,h,none⟩ n c b (by rfl) C (fun j u E=>by rw[Addr.add_lit];exact iJ _ (z.out j u E)) y (by unfold maxLen;omega) (by omega) (by simp) ?_)
 intro m F d f _;have B:=aB d;have v:=aB f;obtain⟨G,i,rfl⟩:=cU d;clear d f;go_wp2_with fail;go_ret;refine⟨_,rfl,by simpa using B.out,?_⟩
 exact((ay_ _ w).alloc (au_ _) _).grown v.out (by simp) (by intro k t;simp[Value.ownBlock] at t;omega)
def sT(w:World):
 Calls prog 282 #[.slice none 0 0] w fun e f=>e=.returned (.slice none 0 0)/\f=w:=by
 have g:∀(w:World) (a:Option Addr) (n c b d:Nat),(binOp .eql 193 (.slice a n c) (.slice none b d)).run prog w=.ok (.bool a.isNone) w:=fun w a n c b d=>Lib.run_eql_slice_nil w _ _ a n c b d underlying193
 go_enter func282,ntmps282;go_wp2_with fail;go_ret;exact⟨rfl,rfl⟩
def j9(F:Nat->Prop)(w:World)(sv:Value)(l:List aJ):Prop:=
 (l=[]/\∃x c,sv=.slice x 0 c)\/∃g o c,sv=.slice (some ⟨g,o,none⟩) l.length c/\l.length<=c/\g<w.heap.size/\∀i (h:i<l.length),∃u,w.cell? ⟨g,o+i,none⟩=some u/\PV F w u l[i]
def vH{i:aJ}{c:List aJ}{a b:aJ}:cI (i::c) a b=if a.sort≠3\/i.sort≠0 then (bN,2) else if i.n<0\/(a.l.length:Int)<=i.n then (bN,4) else if (cI c (a.l.getD i.n.toNat bN) b).2≠0 then (bN,(cI c (a.l.getD i.n.toNat bN) b).2) else (aW (a.l.set i.n.toNat (cI c (a.l.getD i.n.toNat bN) b).1),0):=by
 rw[cI]
def U5{w:World}{base n g a k:Nat}{t:TypeId}{e:List Value}{u:Value}(h:w.ownsRow base t 1 (.slice (some ⟨g,0,none⟩) n a) n e)(_hk:k<n):
 (w.setCell ⟨g,k,none⟩ u).ownsRow base t 1 (.slice (some ⟨g,0,none⟩) n a) n (e.set k u):=by
 rcases h.2 with ⟨b,_⟩|⟨p,d,c,b,o,f,j,m,i,l⟩
 ·cases b
 ·cases b;refine⟨by rw[bx_];exact h.1,as_ ⟨g,a,c.setIfInBounds k u,rfl,o,?_,j,m,by simpa using i,?_⟩⟩
  ·rw[aS f]
  ·rw[<-l,bB_,b6_]
def fT.set{F:Nat->Prop}{w:World}{xs:List Value}{l:List aJ}{u:Value}{a:aJ}(h:fT F w xs l)(k:Nat)(e:PV F w u a):fT F w (xs.set k u) (l.set k a):=by
 refine⟨by simp[h.1],fun i c=>?_⟩
 rw[bx_] at c;by_cases b:k=i
 ·subst b;exact⟨u,by rw[List.getElem?_set_self (by rw[h.1];exact c)],by rw[List.getElem_set_self];exact e⟩
 ·obtain⟨v,d,f⟩:=h.2 i c;exact⟨v,by rw[List.getElem?_set_ne b];exact d,by rw[List.getElem_set_ne b];exact f⟩
def J5{F:Nat->Prop}{w w1 d:World}{c c1 k:Nat}{xs:List Value}{m:List aJ}{g:TypeId}{u2:Value}{o:aJ}{r:aJ × Nat}(f:Below w.heap.size w w1)(s:Below w1.heap.size w1.drew d)
 (b:w1.ownsRow w.heap.size 256 1 (.slice (some ⟨c,0,none⟩) m.length c1) m.length xs) (E:fT F w xs m) (C:PV (Grow F w1.drew d) d (.iface g u2) o) (a:r=(aW (m.set k o),0)) (x:∀q,F q->q<w.heap.size) (A:k<m.length):
 eM F w r (.returned (.iface 319 (.slice (some ⟨c,0,none⟩) m.length c1))) (d.setCell ⟨c,k,none⟩ (.iface g u2)):=by
 have h:w.heap.size<=c:=cC b c rfl;have y:c<w1.heap.size:=cK b c rfl;have e:Below w1.heap.size w1 d:=((ay_ _ w1).drew).trans s;have B:w1.heap.size<=d.heap.size:=e.size;have D:w.heap.size<=w1.heap.size:=f.size;have z:Below w.heap.size w d:=f.trans (e.mono f.size);have n:Below w.heap.size w (d.setCell ⟨c,k,none⟩ (.iface g u2)):=z.setCell h _;have v:d.ownsRow w.heap.size 256 1 (.slice (some ⟨c,0,none⟩) m.length c1) m.length xs:=aY b fun q a=>e.block q (cK b q a)
 have p:=U5 (u:=.iface g u2) v A;have j:(d.setCell ⟨c,k,none⟩ (.iface g u2)).heap.size=d.heap.size:=by simp
 refine eM.ok n a (PV.lst ?_);have i:(m.set k o).length=m.length:=bx_;have:=PVs.ofRow (F:=Grow F w (d.setCell ⟨c,k,none⟩ (.iface g u2))) (l:=m.set k o) (by rw[i];exact p) ?_ ?_
 ·exact this
 ·refine fT.set ((E.keep fun q a=>n.block q (x q a)).mono fun q a=>av_ a) k ?_
  refine(C.keep fun q a=>?_).mono fun q a=>?_
  ·refine ax_ _ _ _ _ ?_;show q≠c
   rcases a with a|⟨a,_⟩
   ·have:=x q a;omega
   ·have:w1.heap.size<=q:=a;omega
  ·rcases a with a|⟨a,t⟩
   ·exact av_ a
   ·refine as_ ⟨?_,by rw[j];exact t⟩
    have:w1.heap.size<=q:=a;omega
 ·intro q a;obtain rfl:c=q:=Option.some.inj a;exact as_ ⟨h,by rw[j];omega⟩
def sE(F:Nat->Prop)(l:List aJ):Prop:=∀(sv u v:Value) (a b:aJ) (w:World),j9 F w sv l->PV F w u a->PV F w v b->(∀k,F k->k<w.heap.size)->aK a<=400000->l.length<=1000000->
 Calls prog 406 #[u,sv,v] w (eM F w (cI l a b))
def LX(F:Nat->Prop):sE F []:=by
 intro k u v a b w f e d j q p
 obtain⟨x,c,rfl⟩:∃x c,k=.slice x 0 c:=by
  rcases f with ⟨_,x,c,h⟩|⟨g,o,c,h,_⟩
  ·exact⟨x,c,h⟩
  ·exact⟨_,_,h⟩
 have l:=aB d;obtain⟨t,z,rfl⟩:=e.form;obtain⟨m,n,rfl⟩:=d.form;clear f e d j;go_enter func406,ntmps406;go_wp2_with fail;go_ret;exact eM.ok (ay_ _ _) rfl (l.out.mono fun _ i=>av_ i)
def LY(F:Nat->Prop)(i:aJ)(l:List aJ)(IH:∀F,sE F l):sE F (i::l):=by
 intro sv u v a b w hi hu hv hF hc hl;simp only[aB_] at hl
 obtain⟨g,o,c,rfl,be,hg,f⟩:∃g o c,sv=.slice (some ⟨g,o,none⟩) (l.length+1) c/\l.length+1<=c/\g<w.heap.size/\∀j (h:j<(i::l).length),∃u,w.cell? ⟨g,o+j,none⟩=some u/\PV F w u (i::l)[j]:=by
  rcases hi with ⟨h,_⟩|⟨g,o,c,h1,K,h3,h4⟩
  ·cases h
  ·exact⟨g,o,c,h1,K,h3,h4⟩
 obtain⟨ui,ci,C⟩:=f 0 (by simp)
 simp only[Nat.add_zero,bV_] at ci C;have bf:(((l.length+1:Nat):Int)==0)=false:=by simp;omega
 obtain⟨r,O⟩:∃r,r=cI (i::l) a b:=⟨_,rfl⟩;rw[<-O];rw[vH] at O;obtain⟨t',z',rfl⟩:=hv.form;obtain⟨ti,zi,rfl⟩:=C.form;have d:a.sort≠3->Hid (r=(bN,2)):=fun h=>by show _=_;rw[O,if_pos (av_ h)]
 rcases hu.cases with ⟨n,rfl,rfl,_,_⟩|⟨s,rfl,rfl⟩|⟨s,rfl,rfl⟩|⟨x,cx,m,rfl,rfl,hm⟩
 ·have M:=d (by simp[bC])
  have q:=iU;clear hu hv hi hF f C O d IH;go_enter func406,ntmps406;go_wp2_with fail;exact⟨rfl,eM.stop (ay_ _ _) M.out (by decide)⟩
 ·have M:=d (by simp[bO])
  have q:=gK;clear hu hv hi hF f C O d IH;go_enter func406,ntmps406;go_wp2_with fail;exact⟨rfl,eM.stop (ay_ _ _) M.out (by decide)⟩
 ·have M:=d (by simp[bK])
  have q:=kF;clear hu hv hi hF f C O d IH;go_enter func406,ntmps406;go_wp2_with fail;exact⟨rfl,eM.stop (ay_ _ _) M.out (by decide)⟩
 ·have q:=gJ;have bk:=jJ m;rw[iP] at hc;have ai:=aB (tR F _ i m.length w C (by omega))
  have HR:=aB O;have HM:=aB hm;have HV:=aB hv;have HF:=aB hF;have af:=aB f;have ab:=aB IH;clear hu hv hi hF f C O d IH hm;go_enter func406,ntmps406;go_wp2_with fail;refine ai.out.mono ?_;rintro e D ⟨Z,⟨K,rfl⟩|⟨K,h3,rfl⟩|⟨K,k,G,P,rfl⟩⟩
  ·obtain rfl:=Z.symm;have M:Hid (r=(bN,2)):=by show _=_;rw[HR.out,if_pos (as_ K)]
   clear K Z;go_wp2_with fail;exact⟨rfl,eM.stop (ay_ _ _) M.out (by decide)⟩
  ·obtain rfl:=Z.symm;have M:Hid (r=(bN,4)):=by show _=_;rw[HR.out,if_neg (by simp[aW,K]),if_pos (show i.n<0\/((aW m).l.length:Int)<=i.n from h3)]
   clear K h3 Z;go_wp2_with fail;exact⟨rfl,eM.stop (ay_ _ _) M.out (by decide)⟩
  ·obtain rfl:=Z.symm;obtain⟨gm,bl,ar,_⟩:=HM.out.get k G;rcases HM.out.row with ⟨rfl,_⟩|⟨bc,bh,xs,aw,bb,bi,B,E⟩
   ·simp at G
   cases aw;obtain⟨uk,ac,V⟩:=B.2 k G;have am:=aB (GD bc 0 m.length cx xs w (by rw[B.1];omega) (by omega) (fun j u hj=>by rw[bk_];exact E j u hj) (oG B))
   have av:aK m[k]<=400000:=by have:=lN (aR_ G);omega
   have J:Hid (r=if (cI l m[k] b).2≠0 then (bN,(cI l m[k] b).2) else (aW (m.set k (cI l m[k] b).1),0)):=by
    show _=_
    have ag:i.n.toNat=k:=by rw[P];rfl
    have an:(aW m).l.getD i.n.toNat bN=m[k]:=by rw[ag];show m.getD k bN=_;show (m[k]?).getD bN=_;rw[aH_ G];rfl
    rw[HR.out,if_neg (by simp[aW,K]),if_neg (by show ¬(i.n<0\/((aW m).l.length:Int)<=i.n);rw[P];show ¬((k:Int)<0\/(m.length:Int)<=k);omega),an,ag]
    rfl
   obtain⟨tk,zk,rfl⟩:=V.form;have ao:=aB B;have ah:=aB V;have al:=aB ac;clear Z K P HR ai E B V ac bb ar;go_wp2_with fail;refine am.out.mono ?_;rintro e D ⟨v1,rfl,I,L⟩;rcases I.2 with ⟨r1,r2⟩|⟨g1,c1,ap,rfl,bj,z,ba,az,ax,ak⟩
   ·omega
   have N:ap[k]?=some (.iface tk zk):=by
    have:=al.out;rw[<-ak,aU_,if_pos (by omega)] at this
    simpa using this
   have d0:D.cell? ⟨g1,k,none⟩=some (.iface tk zk):=aA z N;have aj:=aD z;have au:Hid (∀q,F q->q<D.drew.heap.size):=fun q hq=>az_ (HF.out q hq) L.size
   have y:Below w.heap.size w D.drew:=L.drew;obtain⟨Y,ae⟩:∃Y:Option Addr,(if c=1 then some (⟨g,o,none⟩:Addr) else some ⟨g,o+1,none⟩)=Y:=⟨_,rfl⟩
   have aa:j9 F D.drew (.slice Y l.length (c-1)) l:=by
    by_cases h1:c=1
    ·have ht:l=[]:=br_.1 (by omega)
     exact av_ ⟨ht,_,_,by rw[ht];rfl⟩
    ·rw[if_neg h1] at ae;subst ae;refine as_ ⟨g,o+1,c-1,rfl,by omega,az_ hg y.size,fun j hj=>?_⟩
     obtain⟨u,e1,e2⟩:=af.out (j+1) (by simp;omega)
     rw[show o+(j+1)=o+1+j by omega] at e1
     exact⟨u,by rw[y.cell (p:=⟨g,o+1+j,none⟩) hg];exact e1,e2.keep fun k G=>y.block k (HF.out k G)⟩
   have bm:(1:Int)<=(l.length:Int)+1:=by omega
   have bg:(l.length:Int)+1<=(c:Int):=by omega
   have HX:=aB (ab.out F (.slice Y l.length (c-1)) (.iface tk zk) (.iface t' z') m[k] b D.drew aa (ah.out.keep fun k G=>y.block k (HF.out k G)) (HV.out.keep fun k G=>y.block k (HF.out k G)) au.out av (by omega))
   generalize cI l m[k] b=X at HX J;have HOWN:=aB I;have HBLK:=aB z;have U:=aB L;clear I z L y aa am ab af ah ax ak ba az al;by_cases Q:X.2=0
   ·have T:Hid (Calls prog 406 #[.iface tk zk,.slice Y l.length (c-1),.iface t' z'] D.drew fun e w'=>Below D.heap.size D.drew w'/\∃t2 u2,e=.returned (.iface t2 u2)/\PV (Grow F D.drew w') w' (.iface t2 u2) X.1):=by
     refine HX.out.mono ?_;rintro e W ⟨A,⟨_,u2,rfl,H⟩|⟨S,rfl⟩⟩
     ·obtain⟨t2,z2,rfl⟩:=H.form;exact⟨A,t2,z2,rfl,H⟩
     ·exact absurd Q S
    have HQ:Hid (r=(aW (m.set k X.1),0)):=by show _=_;rw[J.out,if_neg (by simp[Q])]
    clear HX J Q;go_wp2_with fail;go_region_law (go_simp;go_at_call 406;refine T.out.mono ?_;rintro e W ⟨A,t2,u2,rfl,H⟩;have t:=(A.block g1 aj).trans HBLK.out;have d2:=aA t N;have bn:=aE t (i:=k);have bd:=aD t;have aq:=aB H;have ay:=aB A;have HBLK2:=aB t;clear H A t)
    all_goals
     go_wp2_with fail;go_ret;exact J5 U.out ay.out HOWN.out ao.out aq.out HQ.out HF.out G
   ·have T:Hid (Calls prog 406 #[.iface tk zk,.slice Y l.length (c-1),.iface t' z'] D.drew fun e w'=>Below D.heap.size D.drew w'/\e=fH X.2):=by
     refine HX.out.mono ?_;rintro e W ⟨A,⟨S,_⟩|⟨_,rfl⟩⟩
     ·exact absurd S Q
     ·exact⟨A,rfl⟩
    have HQ:Hid (r=(bN,X.2)):=by show _=_;rw[J.out,if_pos Q]
    have HS:Hid (∀W,Below D.heap.size D.drew W->eM F w r (fH X.2) W):=fun W h=>eM.stop (U.out.drew.trans (h.mono U.out.size)) HQ.out Q
    clear HX J Q;go_wp2_with fail;go_region_dies
    all_goals (refine T.out.mono ?_;rintro e W ⟨A,rfl⟩;exact⟨rfl,HS.out _ A⟩)
def yH:∀(l:List aJ) (F:Nat->Prop),sE F l
 |[],F=>LX F
 |i::l,F=>LY F i l (yH l)
def E3(l:List aJ)(k:Nat)(x:aJ):((l.set k x).map aK).sum<=(l.map aK).sum+aK x:=by
 induction l generalizing k with
 |nil=>simp
 |cons a l b=>
  cases k with
  |zero=>simp only[List.set_cons_zero,aM_,aO_];omega
  |succ k=>simp only[b1_,aM_,aO_];have:=b k;omega
def sZ:∀(l:List aJ) (a b:aJ),aK (cI l a b).1<=(l.length+1)*(aK a+aK b+1)
 |[],a,b=>by rw[cI];simp;omega
 |i::l,a,b=>by
  rw[vH];have c:aK bN=1:=by rw[eR];simp[bN]
  have d:1<=((i::l).length+1)*(aK a+aK b+1):=Nat.mul_pos (by simp) (by omega)
  repeat' split
  ·rw[c];exact d
  ·rw[c];exact d
  ·rw[c];exact d
  ·rename_i p n q;have f:i.n.toNat<a.l.length:=by omega
   have k:a.l.getD i.n.toNat bN=a.l[i.n.toNat]:=by show (a.l[i.n.toNat]?).getD bN=_;rw[aH_ f];rfl
   have h:=sZ l (a.l.getD i.n.toNat bN) b;have g:=lN (aR_ f);have j:=eR a;rw[iP];have e:=E3 a.l i.n.toNat (cI l (a.l.getD i.n.toNat bN) b).1;rw[k] at h e ⊢
   have m:(l.length+1)*(aK a.l[i.n.toNat]+aK b+1)<=(l.length+1)*(aK a+aK b+1):=Nat.mul_le_mul_left _ (by omega)
   have o:((i::l).length+1)*(aK a+aK b+1)=(l.length+1)*(aK a+aK b+1)+(aK a+aK b+1):=by simp only[aB_];rw[Nat.succ_mul]
   omega
def OG(F:Nat->Prop)(l:List aJ)(y u v:Value)(a b:aJ)(w:World)(E:j9 F w y l)(D:PV F w u a)(G:PV F w v b)(I:∀k,F k->k<w.heap.size)(L:aK a<=400)(J:aK b<=400)(T:l.length<=100000):
 Calls prog 405 #[u,y,v] w (eM F w (nD a l b)):=by
 have C:=sZ l a b;have K:(l.length+1)*(aK a+aK b+1)<=100001*801:=Nat.mul_le_mul (by omega) (by omega)
 have B:=aB (yH l F y u v a b w E D G I (by omega) (by omega))
 obtain⟨r,A⟩:∃r,r=nD a l b:=⟨_,rfl⟩;rw[<-A];unfold nD gY at A;have q:=aB A
 obtain⟨x,c,rfl⟩:∃x c,y=.slice x l.length c:=by
  rcases E with ⟨rfl,x,c,h⟩|⟨g,o,c,h,_⟩
  ·exact⟨x,c,h⟩
  ·exact⟨_,_,h⟩
 obtain⟨t,z,rfl⟩:=D.form;obtain⟨O,P,rfl⟩:=G.form;generalize cI l a b=p at B q C;clear E D G I A;go_enter func405,ntmps405;go_wp2_with fail;refine B.out.mono ?_;rintro e H ⟨d,⟨f,u1,rfl,s⟩|⟨f,rfl⟩⟩
 ·have N:=aB (mG (Grow F w H) u1 p.1 H s (by omega))
  obtain⟨S,Q,rfl⟩:=s.form;have M:=aB s;have n:=aB d;have j:=aB f;clear s d f B;go_wp2_with fail;refine N.out.mono ?_;rintro e U ⟨rfl,⟨m,rfl⟩|⟨m,rfl⟩⟩
  ·have i:Hid (r=(p.1,0)):=by show _=_;rw[q.out,if_pos j.out,if_neg (by omega)];rw[<-j.out]
   clear m;go_wp2_with fail;go_ret;exact eM.ok n.out i.out M.out
  ·have i:Hid (r=(bN,6)):=by show _=_;rw[q.out,if_pos j.out,if_pos m]
   clear m;go_wp2_with fail;exact⟨rfl,eM.stop n.out i.out (by decide)⟩
 ·have i:Hid (r=(p.1,p.2)):=by show _=_;rw[q.out,if_neg f]
  have j:=aB f;have n:=aB d;clear f d B;go_wp2_with fail;exact⟨rfl,eM.stop n.out i.out j.out⟩
def kC(w:World):Prop:=Lib.TabIs prog w "internal/strconv.uint64pow10" .u64 Lib.pow10Tab
def kC.keep{w w':World}{g:Nat}(h:kC w)(b:prog.globalNamed "internal/strconv.uint64pow10"=some g)(a:w'.heap[g]?=w.heap[g]?):kC w':=by
 unfold kC Lib.TabIs World.var? at h ⊢
 rw[b] at h ⊢
 simp only[Option.bind_some] at h ⊢
 rw[a];exact h
def kC.below{w w':World}(h:kC w)(c:Below w.heap.size w w'):kC w':=by
 cases b:prog.globalNamed "internal/strconv.uint64pow10" with
 |none=>unfold kC Lib.TabIs World.var? at h;rw[b] at h;cases h
 |some g=>
  refine h.keep b (c.block g ?_);unfold kC Lib.TabIs World.var? at h;rw[b] at h;simp only[Option.bind_some] at h;rcases a6_ g w.heap.size with a|a
  ·exact a
  ·rw[bj_ (by exact a)] at h
   cases h
def yE:∀(f n:Nat) (t:List UInt8),n<10 ^ (f+1)->jD (f+1) n t=Lib.decDigits n++t
 |0,n,t,h=>by
  have a:n<10:=by simpa using h
  rw[jD,Lib.decDigits,if_pos a,dif_pos a];rfl
 |f+1,n,t,h=>by
  rw[jD,Lib.decDigits];by_cases a:n<10
  ·rw[if_pos a,dif_pos a];rfl
  ·rw[if_neg a,dif_neg a,yE f (n/10) _ (by rw[Nat.pow_succ] at h;omega)]
   simp
def FK(n:Int)(a: -9223372036854775808<=n)(b:n<=9223372036854775807):Lib.itoa n=iI n:=by
 unfold Lib.itoa iI;rw[yE 19 n.natAbs [] (by omega),bY_]
 by_cases h:n<0
 ·rw[if_pos h,if_pos h];rfl
 ·rw[if_neg h,if_neg h,by_,show n.toNat=n.natAbs by omega]
def yD:∀l:List (List UInt8),Lib.join l [44,32]=fD l
 |[]=>rfl
 |[x]=>by simp[Lib.join,List.intercalate,fD]
 |x::y::l=>by
  have a:=yD (y::l);unfold Lib.join List.intercalate at a ⊢
  rw[List.intersperse_cons_cons,List.flatten_cons,List.flatten_cons,a];simp[fD]
def WX(l:List (List UInt8)):Lib.join ((l.map bs).map fun x=>x.data.toList) (bs [44,32]).data.toList=fD l:=by
 rw[<-yD,List.map_map];have e:((fun x:ByteArray=>x.data.toList) ∘ bs)=id:=funext fun x=>by simp[fS]
 rw[e,List.map_id];simp[fS]
def ID(w:World)(x:List UInt8):∀j u,([.string (bs x)]:List Value)[j]?=some u->(w.alloc (.cells #[.string (bs x)] 9)).cell? ((⟨w.heap.size,0,none⟩:Addr).add j)=some u:=by
 intro j v a;match j,a with
 |0,a=>simp at a;subst a;simp[Addr.add,go_sem]
 |j+1,a=>simp at a
def OL(x:List UInt8):∀u∈([.string (bs x)]:List Value),u.oneCell'=true:=by
 intro u a;simp at a;rw[a];rfl
def CW:(prog.info? 9).map (fun i=>(i.zero,i.size,i.bytes))=some (some (.string ⟨#[]⟩),1,16):=by kernel_rfl
def GS(l:List (List UInt8)):List Value:=l.map fun x=>Value.string (bs x)
def sC(F:Nat->Prop)(k:Nat):Prop:=∀(v:Value) (a:aJ) (w:World),PV F w v a->(∀b,F b->b<w.heap.size)->kC w->aK a<=k->k<=1000000->Calls prog 157 #[v] w fun e w'=>e=.returned (.string (bs (cB a)))/\Below w.heap.size w w'
def KP(F:Nat->Prop)(k:Nat)(IH:sC F k)(x:Option Addr)(c:Nat)(l:List aJ)(w:World)(hl:PVs F w (.slice x l.length c) l)(hF:∀b,F b->b<w.heap.size)(hp:kC w)(hc:(l.map aK).sum<=k)(hk:k<=1000000):
 Calls prog 219 #[.slice x l.length c] w fun e w'=>e=.returned (.string (bs (fD (l.map cB))))/\Below w.heap.size w w':=by
 obtain⟨i0,hi,N,X,T⟩:=info_parts CW;have Z:=jJ l;have r:=aB IH;have V:=aB hl;have HF:=aB hF;have HP:=aB hp;clear IH hl hF hp;go_enter func219,ntmps219;go_wp2_with fail;go_loopg [3,5,8] l.length (fun gk s _ i wr=>∃j:Nat,j+gk=l.length/\i=.int .i64 j/\(∃y d,s=.slice y j d)/\wr.ownsRow w.heap.size 9 1 s j (GS ((l.map cB).take j))/\Below w.heap.size w wr)
 case atStart=>exact⟨0,by omega,rfl,⟨none,0,rfl⟩,World.ownsRow_nil _ _ _ _,ay_ _ _⟩
 case round=>
  obtain⟨j,hj,rfl,⟨y,d,rfl⟩,h,f⟩:=hrel;by_cases v:j<l.length
  ·obtain⟨m,rfl⟩:∃m,gk=m+1:=⟨gk-1,by omega⟩
   have E:=V.out.keep fun b H=>f.block b (HF.out b H)
   obtain⟨g,u,rfl,hn,ad,hg,Y,O,U⟩:=E.get j v;have B:l[j]∈l:=aR_ v;have ae:=lN B;have HX:=aB (r.out u l[j] wr U (fun b H=>az_ (HF.out b H) f.size) (HP.out.below f) (by omega) (by omega))
   obtain⟨t,u',rfl⟩:=U.form;have K:=f.size;have HO:=aB h;have G:=aB f
   have D:GS ((l.map cB).take (j+1))=GS ((l.map cB).take j)++[.string (bs (cB l[j]))]:=by
    rw[aT_ (by simpa using v)];simp[GS]
   have I:=aB D;clear U h f D E;go_wp2_with fail;refine HX.out.mono ?_;rintro e C ⟨rfl,q⟩;have aa:=q.size;have p:=gS HO.out q;have z:=aB p;clear p;generalize cB l[j]=tx at*;go_wp2_with (at_builtin;refine wpList_append_lies _ (by rfl) _ _ 60 (by rfl) w.heap.size 9 i0 _ 1 16 underlying60 hi N X T rfl (by decide) (.slice y j d) j _ (by rfl) (z.out.alloc _) ⟨C.heap.size,0,none⟩ 1 1 [.string (bs tx)] (by rfl) (by rfl) (ID C _) (OL _) (by decide) (by unfold maxLen;omega) (by omega) (by simp;omega) (C.heap.size+1) (by simp) ?_)
   intro g4 ab w4 o n A ag;have P:=aB o;have Q:=aB n;clear o n A;go_wp2_with fail;go_roundg m
   case measure=>omega
   case rel=>
    refine⟨j+1,by omega,by go_num,⟨_,_,rfl⟩,by rw[I.out];exact P.out,?_⟩
    exact((G.out.trans (q.mono (by omega))).alloc (by omega) _).grown Q.out (by simp;omega) fun k hk=>(z.out.lt k hk).1
  ·have J:j=l.length:=by omega
   subst J;have K:=f.size;rw[a0_ (by simp)] at h
   have G:=aB f;have af:=uA l fun a _=>xI a
   rcases h.2 with ⟨W,r2⟩|⟨g,cp,ac,W,r2,S,r4,r5,r6,r7⟩
   ·have e1:l=[]:=aN_ r2;subst e1;cases W;clear h f V r;go_wp2_with fail;refine(strings_Join_none _ _ _ _).mono ?_;rintro e C ⟨rfl,rfl⟩;go_wp2_with fail;go_ret;exact⟨rfl,G.out⟩
   ·cases W
    have HJ:=aB (strings_Join g 0 d ((l.map cB).map bs) (bs [44,32]) wr (fun i x M=>by
     refine aA S ?_
     have e2:(GS (l.map cB))[i]?=some (.string x):=by
      unfold GS;rw[bw_] at M ⊢
      obtain⟨y,hy,rfl⟩:=Option.map_eq_some_iff.1 M;rw[hy];rfl
     have ah:i<l.length:=by
      have:=(aZ_.1 M).1;simpa using this
     rw[<-r7,aU_,if_pos (by omega)] at e2
     simpa using e2) (aD S) (by simp;omega) (by simpa using r4) (by rw[WX];omega))
    have L:((l.map cB).map bs).length=l.length:=by simp
    rw[L,WX] at HJ;clear h f V r S r6 r7;go_wp2_with fail;refine HJ.out.mono ?_;rintro e C ⟨rfl,q⟩;go_wp2_with fail;go_ret;exact⟨rfl,G.out.trans (q.mono (by omega))⟩
def UU{w w':World}{k:Nat}{os:Array Obj}(h:w'=Sort.grow (w.drewN k) os):Below w.heap.size w w':=by
 subst h;refine⟨rfl,rfl,rfl,?_,fun i a=>?_⟩
 ·show w.heap.size<=(w.heap++os).size
  rw[Array.size_append];omega
 ·show (w.heap++os)[i]?=w.heap[i]?
  rw[Array.getElem?_append_left a]
def B7:(⟨(Lib.formatBool false).toArray⟩:ByteArray)=bs [102,97,108,115,101]:=by kernel_rfl
def H9:(⟨(Lib.formatBool true).toArray⟩:ByteArray)=bs [116,114,117,101]:=by kernel_rfl
def FE(F:Nat->Prop)(k:Nat)(g:sC F k):sC F (k+1):=by
 intro v a w h y f j H;rcases h.cases with ⟨n,rfl,rfl,u,t⟩|⟨b,rfl,rfl⟩|⟨s,rfl,rfl⟩|⟨x,c,l,rfl,rfl,z⟩
 ·have q:=lF;have d:cB (bC n)=iI n:=by rw[jR];rfl
  have p:=aB (strconv_FormatInt_10 n u t w f);rw[d];clear h g j f;go_enter func157,ntmps157;go_wp2_with fail;refine p.out.mono ?_;rintro e r ⟨rfl,G,I,i⟩;have o:=UU i;clear i;go_wp2_with fail;go_ret;exact⟨by rw[FK n u t];rfl,o⟩
 ·have q:=kI;have B:=uE;have d:cB (bO b)=if b then [116,114,117,101] else [102,97,108,115,101]:=by rw[jR];cases b<;>rfl
  rw[d];clear h g j f;cases b
  all_goals
   go_enter func157,ntmps157;go_wp2_with fail;refine(strconv_FormatBool _ _).mono ?_;rintro e r ⟨rfl,rfl⟩;go_wp2_with fail;go_ret;exact⟨by first|(rw[B7];rfl)|(rw[H9];rfl),ay_ _ _⟩
 ·have q:=lE;have B:=xJ;have m:=jZ;have d:cB (bK s)=[34]++s++[34]:=by rw[jR];rfl
  have D:(bs s).size=s.length:=gA s;rw[kP] at j;rw[d];clear h g f;go_enter func157,ntmps157;go_wp2_with fail;go_ret;refine⟨?_,ay_ _ _⟩;show Ending.returned (.string ((⟨#[34]⟩:ByteArray)++bs s++(⟨#[34]⟩:ByteArray)))=_
  rw[YL,YM];rfl
 ·have q:=kG;have B:=uD;have m:=lT;have A:=gJ;have d:cB (aW l)=[91]++fD (l.map cB)++[93]:=by rw[jR];rfl
  have C:=uA l fun a _=>xI a
  rw[iP] at j;have p:=aB (KP F k g x c l w z y f (by omega) (by omega))
  have D:(bs (fD (l.map cB))).size=(fD (l.map cB)).length:=gA _;rw[d];generalize fD (l.map cB)=E at*;clear h g f z y;go_enter func157,ntmps157;go_wp2_with fail;refine p.out.mono ?_;rintro e r ⟨rfl,o⟩;go_wp2_with fail;go_ret;refine⟨?_,o⟩;show Ending.returned (.string (bs [91]++bs E++bs [93]))=_
  rw[sB,sB];rfl
def oO(F:Nat->Prop):∀k,sC F k
 |0=>fun v a w _ _ _ h=>by have:=rZ a;omega
 |k+1=>FE F k (oO F k)
def YP(F:Nat->Prop)(v:Value)(a:aJ)(w:World)(h:PV F w v a)(g:∀b,F b->b<w.heap.size)(i:kC w)(j:aK a<=100000):
 Calls prog 409 #[v] w fun e p=>e=.returned (.string (bs (iV a)))/\Below w.heap.size w p:=by
 have k:=aB (oO F 100000 v a w h g i j (by omega))
 rcases h.cases with ⟨n,rfl,rfl,u,t⟩|⟨b,rfl,rfl⟩|⟨s,rfl,rfl⟩|⟨x,c,l,rfl,rfl,r⟩
 ·have q:=mP;have d:iV (bC n)=cB (bC n):=rfl;rw[d];generalize cB (bC n)=o at*;clear h g i j;go_enter func409,ntmps409;go_wp2_with fail;refine k.out.mono ?_;rintro e m ⟨rfl,f⟩;go_wp2_with fail;go_ret;exact⟨rfl,f⟩
 ·have q:=kH;have d:iV (bO b)=cB (bO b):=rfl;rw[d];generalize cB (bO b)=o at*;clear h g i j;go_enter func409,ntmps409;go_wp2_with fail;refine k.out.mono ?_;rintro e m ⟨rfl,f⟩;go_wp2_with fail;go_ret;exact⟨rfl,f⟩
 ·have q:=jZ;have d:iV (bK s)=s:=rfl;rw[d];clear h g i j k;go_enter func409,ntmps409;go_wp2_with fail;go_ret;exact⟨rfl,ay_ _ _⟩
 ·have q:=lT;have d:iV (aW l)=cB (aW l):=rfl;rw[d];generalize cB (aW l)=o at*;clear h g i j r;go_enter func409,ntmps409;go_wp2_with fail;refine k.out.mono ?_;rintro e m ⟨rfl,f⟩;go_wp2_with fail;go_ret;exact⟨rfl,f⟩
def K7(F:Nat->Prop)(v:Value)(a:aJ)(w:World)(h:PV F w v a)(i:bQ a)(k:aK a<=1000000):Calls prog 399 #[v] w (eM F w (dW a)):=by
 rcases h.cases with ⟨m,rfl,rfl,B,A⟩|⟨b,rfl,rfl⟩|⟨s,rfl,rfl⟩|⟨x,c,l,rfl,rfl,y⟩
 ·have q:=iU;have o:=mP;have d:dW (bC m)=(bN,2):=rfl;rw[d];clear h i k;go_enter func399,ntmps399;go_wp2_with fail;exact⟨rfl,eM.stop (ay_ _ _) rfl (by decide)⟩
 ·have q:=gK;have o:=kH;have d:dW (bO b)=(bN,2):=rfl;rw[d];clear h i k;go_enter func399,ntmps399;go_wp2_with fail;exact⟨rfl,eM.stop (ay_ _ _) rfl (by decide)⟩
 ·have q:=kF;have o:=jZ;have t:cQ s:=i.txt;have d:dW (bK s)=(bC (dS s).length,0):=rfl;have C:(bs s).size=s.length:=gA s;rw[kP] at k;have g:=sX s
  have f:Lib.runeCount (bs s)=(dS s).length:=by
   unfold Lib.runeCount;have n:(bs s).data.toList=s:=by simp[fS]
   rw[yF (bs s) (bs s).size 0 (by omega) (by rw[n];exact t),n];rfl
  have p:=aB (utf8_RuneCountInString (bs s) w (by omega))
  rw[f] at p;rw[d];clear h i f;go_enter func399,ntmps399;go_wp2_with fail;refine p.out.mono ?_;rintro e r ⟨rfl,z,j⟩;have u:Below w.heap.size w r:=by rw[j];exact(ay_ _ w).alloc (au_ _) _
  clear j;go_wp2_with fail;go_ret;exact eM.ok u rfl (PV.num _ _ _ (by omega) (by omega))
 ·have q:=gJ;have d:dW (aW l)=(bC l.length,0):=rfl;have g:=jJ l;rw[iP] at k;rw[d];clear h i y;go_enter func399,ntmps399;go_wp2_with fail;go_ret;exact eM.ok (ay_ _ _) rfl (PV.num _ _ _ (by omega) (by omega))
def K8(F:Nat->Prop)(x:Option Addr)(c:Nat)(l:List aJ)(v:Value)(b:aJ)(w:World)(s:PVs F w (.slice x l.length c) l)(o:PV F w v b)(N:l.length<=1000000):Calls prog 381 #[.iface 319 (.slice x l.length c),v] w (eM F w (dB (aW l) b)):=by
 have q:=gJ;have B:=aB (tR F v b l.length w o (by omega))
 obtain⟨t,z,rfl⟩:=o.form;have A:=aB s
 have y:dB (aW l) b=if b.sort≠0 then (bN,2) else if b.n<0\/(l.length:Int)<=b.n then (bN,4) else (l.getD b.n.toNat bN,0):=by
  simp[dB,jG,aW]
 have j:=aB y;generalize dB (aW l) b=r at j;clear o s y;go_enter func381,ntmps381;go_wp2_with fail;refine B.out.mono ?_;rintro e G ⟨rfl,⟨f,rfl⟩|⟨f,i,rfl⟩|⟨f,k,i,D,rfl⟩⟩
 ·go_wp2_with fail;exact⟨rfl,eM.stop (ay_ _ _) (j.out.trans (if_pos f)) (by decide)⟩
 ·go_wp2_with fail;exact⟨rfl,eM.stop (ay_ _ _) (j.out.trans ((if_neg (fun h=>h f)).trans (if_pos i))) (by decide)⟩
 ·obtain⟨g,u,rfl,_,L,J,p,m,n⟩:=A.out.get k i;obtain⟨H,I,rfl⟩:=n.form;have E:=aB n;have d:l.getD b.n.toNat bN=l[k]:=by rw[D];simp[i]
  have a:r=(l[k],0):=by rw[j.out,if_neg (fun h=>h f),if_neg (by omega),d]
  have HRes:=aB a;have M:(0:Int)<=(k:Int):=by omega
  have K:(k:Int)<(l.length:Int):=by omega
  clear n d a A B;go_wp2_with fail;go_ret;exact eM.ok (ay_ _ _) HRes.out (E.out.mono fun k C=>av_ C)
def D4(r:Nat)(W:World):(convert 21 318 (.int .i32 (r:Int))).run prog W=.ok (.string (bs (DG r))) W:=by
 have a:Utf8.encode (Int.ofNat r)=bs (DG r):=by
  have:∀x:ByteArray,x=bs x.data.toList:=fun x=>by cases x;simp[bs]
  exact this _
 rw[Int.ofNat_eq_natCast] at a;simp[convert,run_underlying underlying21,run_underlying underlying318,Conv.intToString,a]
def U3(F:Nat->Prop)(s:List UInt8)(v:Value)(b:aJ)(w:World)(H:PV F w v b)(O:cQ s)(hc:s.length<=1000000)(T:∀k,F k->k<w.heap.size):Calls prog 381 #[.iface 318 (.string (bs s)),v] w (eM F w (dB (bK s) b)):=by
 have q:=kF;have q':=jZ;have hs:(bs s).size=s.length:=gA s;have B:(bs s).data.toList=s:=by simp[fS]
 obtain⟨c,C,l,r3,j⟩:=xS (bs s) (bs s).size 0 #[] (by omega) (by rw[B];exact O)
 rw[List.drop_zero,B] at l j;have i:(Conv.runesFrom (bs s) (bs s).size 0 #[]).size=c.length:=by rw[C];simp
 have I:=sX s;have a:=run_runes_of_string (P:=prog) w 318 498 21 (bs s) underlying318 underlying498 underlying21 (by rw[i];omega)
 rw[i,C] at a;generalize grownCap w c.length 0 21=Y at a;generalize n:(Obj.cells ((#[]++(c.map fun r=>Value.int .i32 (Int.ofNat r)).toArray)++Array.replicate (Y-c.length) (.int .i32 0)) 21)=y at a
 have d:∀k (h:k<c.length),(w.drew.alloc y).cell? ⟨w.heap.size,k,none⟩=some (.int .i32 ((c[k]:Nat):Int)):=fun k h=>by
  rw[<-n];refine aA (aM _ _ rfl _) ?_;rw[Array.getElem?_append_left (by simpa using h)]
  simp[h]
 have D:Below w.heap.size w (w.drew.alloc y):=((ay_ _ w).drew).alloc (au_ _) _;have J:=aB (tR F v b c.length (w.drew.alloc y) (H.keep fun k S=>D.block k (T k S)) (by omega))
 obtain⟨t,z,rfl⟩:=H.form
 have L:dB (bK s) b=if b.sort≠0 then (bN,2) else if b.n<0\/(c.length:Int)<=b.n then (bN,4) else (((dS s).map bK).getD b.n.toNat bN,0):=by
  rw[l];simp[dB,jG,bK]
 have A:=aB L;have M:c.length<=1000000:=by omega
 have Q:=aB l;have W:=aB j;have G:=aB d;have x:=aB D;generalize dB (bK s) b=r at A;generalize p:w.drew.alloc y=N at a J G x;have K:w.heap.size<N.heap.size:=by rw[<-p];simp
 clear H L d D p n C i B l j I;go_enter func381,ntmps381;go_wp2_with fail;refine J.out.mono ?_;rintro e Z ⟨rfl,⟨o,rfl⟩|⟨o,u,rfl⟩|⟨o,k,u,V,rfl⟩⟩
 ·go_wp2_with fail;exact⟨rfl,eM.stop x.out (A.out.trans (if_pos o)) (by decide)⟩
 ·go_wp2_with fail;exact⟨rfl,eM.stop x.out (A.out.trans ((if_neg (fun h=>h o)).trans (if_pos u))) (by decide)⟩
 ·have U:=G.out k u;have l:=Q.out;have j:=W.out
  have m:DG c[k]=(dS s)[k]'(by omega):=by
   have:(c.map DG)[k]?=(dS s)[k]?:=by rw[j]
   rw[bw_,aH_ u,aH_ (by omega)] at this
   simpa using this
  have g:((dS s).map bK).getD b.n.toNat bN=bK (DG c[k]):=by
   rw[m,V];have E:k<(dS s).length:=by omega
   simp[E]
  have f:r=(bK (DG c[k]),0):=by rw[A.out,if_neg (fun h=>h o),if_neg (by omega),g]
  have X:=D4 c[k] Z;have HRes:=aB f;have e1:(0:Int)<=(k:Int):=by omega
  have e2:(k:Int)<(c.length:Int):=by omega
  clear g f m J G l j;generalize c[k]=rk at*;go_wp2_with fail;go_ret;exact eM.ok x.out HRes.out (PV.str _ _ _)
def U4(F:Nat->Prop)(u v:Value)(a b:aJ)(w:World)(i:PV F w u a)(d:PV F w v b)(g:bQ a)(f:aK a<=1000000)(h:∀k,F k->k<w.heap.size):Calls prog 381 #[u,v] w (eM F w (dB a b)):=by
 rcases i.cases with ⟨m,rfl,rfl,p,o⟩|⟨x,rfl,rfl⟩|⟨s,rfl,rfl⟩|⟨x,c,l,rfl,rfl,j⟩
 ·have q:=iU;have n:=mP;have e:dB (bC m) b=(bN,2):=by simp[dB,bC]
  rw[e];obtain⟨t,z,rfl⟩:=d.form;clear i d g f h e;go_enter func381,ntmps381;go_wp2_with fail;exact⟨rfl,eM.stop (ay_ _ _) rfl (by decide)⟩
 ·have q:=gK;have n:=kH;have e:dB (bO x) b=(bN,2):=by simp[dB,bO]
  rw[e];obtain⟨t,z,rfl⟩:=d.form;clear i d g f h e;go_enter func381,ntmps381;go_wp2_with fail;exact⟨rfl,eM.stop (ay_ _ _) rfl (by decide)⟩
 ·rw[kP] at f;exact U3 F s v b w d g.txt (by omega) h
 ·rw[iP] at f;have:=jJ l;exact K8 F x c l v b w j d (by omega)
def VE(n m:Int)(w:World):(binOp .eql 256 (.iface 315 (.int .i64 n)) (.iface 315 (.int .i64 m))).run prog w=.ok (.bool (n==m)) w:=by kernel_rfl
def LN(n m:Bool)(w:World):(binOp .eql 256 (.iface 316 (.bool n)) (.iface 316 (.bool m))).run prog w=.ok (.bool (n==m)) w:=by kernel_rfl
def QD(n m:ByteArray)(w:World):(binOp .eql 256 (.iface 318 (.string n)) (.iface 318 (.string m))).run prog w=.ok (.bool (n==m)) w:=by kernel_rfl
def VB(a b:List UInt8)(w:World):(binOp .eql 256 (.iface 318 (.string (bs a))) (.iface 318 (.string (bs b)))).run prog w=.ok (.bool (a==b)) w:=by
 rw[QD];have h:(bs a==bs b)=((bs a).data==(bs b).data):=rfl;rw[h];simp[bs]
def QH(u v:Value)(w:World):(binOp .eql 256 (.iface 315 u) (.iface 316 v)).run prog w=.ok (.bool false) w:=by kernel_rfl
def VD(u v:Value)(w:World):(binOp .eql 256 (.iface 315 u) (.iface 318 v)).run prog w=.ok (.bool false) w:=by kernel_rfl
def QG(u v:Value)(w:World):(binOp .eql 256 (.iface 315 u) (.iface 319 v)).run prog w=.ok (.bool false) w:=by kernel_rfl
def QJ(u v:Value)(w:World):(binOp .eql 256 (.iface 316 u) (.iface 315 v)).run prog w=.ok (.bool false) w:=by kernel_rfl
def QI(u v:Value)(w:World):(binOp .eql 256 (.iface 316 u) (.iface 318 v)).run prog w=.ok (.bool false) w:=by kernel_rfl
def LM(u v:Value)(w:World):(binOp .eql 256 (.iface 316 u) (.iface 319 v)).run prog w=.ok (.bool false) w:=by kernel_rfl
def VC(u v:Value)(w:World):(binOp .eql 256 (.iface 318 u) (.iface 315 v)).run prog w=.ok (.bool false) w:=by kernel_rfl
def QF(u v:Value)(w:World):(binOp .eql 256 (.iface 318 u) (.iface 316 v)).run prog w=.ok (.bool false) w:=by kernel_rfl
def QE(u v:Value)(w:World):(binOp .eql 256 (.iface 318 u) (.iface 319 v)).run prog w=.ok (.bool false) w:=by kernel_rfl
def mT{a b:aJ}(h:a=b):Hs.same a b=true:=(xR a b).2 h
def dM{a b:aJ}(h:a≠b):Hs.same a b=false:=by
 cases c:Hs.same a b
 ·rfl
 ·exact absurd ((xR a b).1 c) h
def AI{l m:List aJ}:aW l=aW m↔l=m:=by simp[aW]
def AF(F:Nat->Prop)(k:Nat):Prop:=∀(u v:Value) (a b:aJ) (w:World),PV F w u a->PV F w v b->aK a<=k->k<=1000000000->aK b<=1000000000->
 Calls prog 389 #[u,v] w fun e w'=>w'=w/\e=.returned (.bool (Hs.same a b))
def CJ(F:Nat->Prop)(k:Nat)(O:AF F k)(x y:Option Addr)(c d:Nat)(l m:List aJ)(w:World)(N:PVs F w (.slice x l.length c) l)(D:PVs F w (.slice y m.length d) m)(hc:aK (aW l)<=k+1)(hk:k<=1000000000)(V:aK (aW m)<=1000000000):
 Calls prog 393 #[.slice x l.length c,.slice y m.length d,.func (.func 389) #[] #[]] w fun e X=>X=w/\e=.returned (.bool (Hs.same (aW l) (aW m))):=by
 have h1:=jJ l;have h2:=jJ m;rw[iP] at hc V;by_cases h:l.length=m.length
 ·have I:((l.length:Int) != (l.length:Int))=false:=by simp
  rw[<-h] at D ⊢
  have HL:=aB N;have Z:=aB D;have L:=aB O;have s:=aB h;clear N D O h;go_enter func393,ntmps393;go_wp2_with fail;go_loopg [6,7,8,9,17] l.length (fun gk _ _ _ _ i wr=>∃j:Nat,j+gk=l.length/\i=.int .i64 j/\wr=w/\Hid (l.take j=m.take j))
  case atStart=>exact⟨0,by omega,rfl,rfl,by simp[Hid]⟩
  case round=>
   obtain⟨j,hj,rfl,rfl,H⟩:=hrel;by_cases n:j<l.length
   ·obtain⟨q,rfl⟩:∃q,gk=q+1:=⟨gk-1,by omega⟩
    obtain⟨g,u,rfl,hn,hF,hg,U,K,P⟩:=HL.out.get j n;obtain⟨g',u',rfl,M,Y,aa,Q,G,A⟩:=Z.out.get j (by rw[<-s.out];exact n)
    have J:=lN (aR_ n);have f:j<m.length:=by rw[<-s.out];exact n
    have C:=lN (aR_ f);have E:=aB (L.out u u' l[j] (m[j]'f) wr P A (by omega) hk (by omega))
    obtain⟨t,z,rfl⟩:=P.form;obtain⟨t',z',rfl⟩:=A.form;have v:l.take (j+1)=l.take j++[l[j]]:=aT_ n;have p:m.take (j+1)=m.take j++[m[j]'f]:=aT_ f;have r:l[j]?=some l[j]:=aH_ n;have B:m[j]?=some (m[j]'f):=aH_ f;generalize l[j]=a at*;generalize m[j]'f=b at*;clear P A J C hn M;by_cases o:a=b
    ·rw[mT o] at E;have T:Hid (l.take (j+1)=m.take (j+1)):=by show _=_;rw[v,p,H.out,o]
     clear v p r B H o;go_wp2_with fail;refine E.out.mono ?_;rintro e W ⟨rfl,rfl⟩;go_wp2_with fail;go_roundg q
     case measure=>omega
     case rel=>exact⟨j+1,by omega,by go_num,rfl,T⟩
    ·rw[dM o] at E;have S:Hid (l≠m):=by show _≠_;intro e;rw[e,B] at r;cases r;exact o rfl
     clear v p r B H o;go_wp2_with fail;refine E.out.mono ?_;rintro e W ⟨rfl,rfl⟩;go_wp2_with fail;go_ret;exact⟨rfl,by rw[dM fun e=>S.out (AI.1 e)];rfl⟩
   ·have HE:Hid (l=m):=by
     show _=_
     have:=H.out;rw[a0_ (by omega),a0_ (by rw[<-s.out];omega)] at this
     exact this
    go_wp2_with fail;go_ret;exact⟨rfl,by rw[mT (AI.2 HE.out)];rfl⟩
 ·have I:((l.length:Int) != (m.length:Int))=true:=by simp;omega
  have S:Hid (l≠m):=by show _≠_;intro e;exact h (by rw[e])
  clear N D O;go_enter func393,ntmps393;go_wp2_with fail;go_ret;exact⟨rfl,by rw[dM fun e=>S.out (AI.1 e)];rfl⟩
def OE(F:Nat->Prop)(k:Nat)(i:AF F k):AF F (k+1):=by
 intro u v a b w j g m G h;rcases j.cases with ⟨n,rfl,rfl,H,E⟩|⟨s,rfl,rfl⟩|⟨s,rfl,rfl⟩|⟨x,c,l,rfl,rfl,y⟩
 ·have q:=iU;rcases g.cases with ⟨p,rfl,rfl,_,_⟩|⟨f,rfl,rfl⟩|⟨f,rfl,rfl⟩|⟨B,A,t,rfl,rfl,_⟩
  ·have o:=VE
   have d:Hid (Hs.same (bC n) (bC p)=(n==p)):=by
    show _=_
    by_cases e:n=p
    ·rw[mT (by rw[e]),e,beq_self_eq_true]
    ·rw[dM (by simp[bC,e]),beq_eq_false_iff_ne.2 e]
   clear j g i m h;generalize Hs.same (bC n) (bC p)=r at*;go_enter func389,ntmps389;go_wp2_with fail;go_ret;exact⟨rfl,by rw[d.out];rfl⟩
  ·have o:=QH;have d:Hid (Hs.same (bC n) (bO f)=false):=dM (by simp[bC,bO])
   clear j g i m h;generalize Hs.same (bC n) (bO f)=r at*;go_enter func389,ntmps389;go_wp2_with fail;go_ret;exact⟨rfl,by rw[d.out];rfl⟩
  ·have o:=VD;have d:Hid (Hs.same (bC n) (bK f)=false):=dM (by simp[bC,bK])
   clear j g i m h;generalize Hs.same (bC n) (bK f)=r at*;go_enter func389,ntmps389;go_wp2_with fail;go_ret;exact⟨rfl,by rw[d.out];rfl⟩
  ·have o:=QG;have d:Hid (Hs.same (bC n) (aW t)=false):=dM (by simp[bC,aW])
   clear j g i m h;generalize Hs.same (bC n) (aW t)=r at*;go_enter func389,ntmps389;go_wp2_with fail;go_ret;exact⟨rfl,by rw[d.out];rfl⟩
 ·have q:=gK;rcases g.cases with ⟨p,rfl,rfl,_,_⟩|⟨f,rfl,rfl⟩|⟨f,rfl,rfl⟩|⟨B,A,t,rfl,rfl,_⟩
  ·have o:=QJ;have d:Hid (Hs.same (bO s) (bC p)=false):=dM (by simp[bO,bC])
   clear j g i m h;generalize Hs.same (bO s) (bC p)=r at*;go_enter func389,ntmps389;go_wp2_with fail;go_ret;exact⟨rfl,by rw[d.out];rfl⟩
  ·have o:=LN
   have d:Hid (Hs.same (bO s) (bO f)=(s==f)):=by
    show _=_
    cases s<;>cases f<;>first|exact mT rfl|exact dM (by simp[bO])
   clear j g i m h;generalize Hs.same (bO s) (bO f)=r at*;go_enter func389,ntmps389;go_wp2_with fail;go_ret;exact⟨rfl,by rw[d.out];rfl⟩
  ·have o:=QI;have d:Hid (Hs.same (bO s) (bK f)=false):=dM (by simp[bO,bK])
   clear j g i m h;generalize Hs.same (bO s) (bK f)=r at*;go_enter func389,ntmps389;go_wp2_with fail;go_ret;exact⟨rfl,by rw[d.out];rfl⟩
  ·have o:=LM;have d:Hid (Hs.same (bO s) (aW t)=false):=dM (by simp[bO,aW])
   clear j g i m h;generalize Hs.same (bO s) (aW t)=r at*;go_enter func389,ntmps389;go_wp2_with fail;go_ret;exact⟨rfl,by rw[d.out];rfl⟩
 ·have q:=kF;rcases g.cases with ⟨p,rfl,rfl,_,_⟩|⟨f,rfl,rfl⟩|⟨f,rfl,rfl⟩|⟨B,A,t,rfl,rfl,_⟩
  ·have o:=VC;have d:Hid (Hs.same (bK s) (bC p)=false):=dM (by simp[bK,bC])
   clear j g i m h;generalize Hs.same (bK s) (bC p)=r at*;go_enter func389,ntmps389;go_wp2_with fail;go_ret;exact⟨rfl,by rw[d.out];rfl⟩
  ·have o:=QF;have d:Hid (Hs.same (bK s) (bO f)=false):=dM (by simp[bK,bO])
   clear j g i m h;generalize Hs.same (bK s) (bO f)=r at*;go_enter func389,ntmps389;go_wp2_with fail;go_ret;exact⟨rfl,by rw[d.out];rfl⟩
  ·have o:=VB
   have d:Hid (Hs.same (bK s) (bK f)=(s==f)):=by
    show _=_
    by_cases e:s=f
    ·rw[mT (by rw[e]),e,beq_self_eq_true]
    ·rw[dM (by simp[bK,e]),beq_eq_false_iff_ne.2 e]
   clear j g i m h;generalize Hs.same (bK s) (bK f)=r at*;go_enter func389,ntmps389;go_wp2_with fail;go_ret;exact⟨rfl,by rw[d.out];rfl⟩
  ·have o:=QE;have d:Hid (Hs.same (bK s) (aW t)=false):=dM (by simp[bK,aW])
   clear j g i m h;generalize Hs.same (bK s) (aW t)=r at*;go_enter func389,ntmps389;go_wp2_with fail;go_ret;exact⟨rfl,by rw[d.out];rfl⟩
 ·have q:=gJ;rcases g.cases with ⟨p,rfl,rfl,_,_⟩|⟨f,rfl,rfl⟩|⟨f,rfl,rfl⟩|⟨B,A,t,rfl,rfl,z⟩
  ·have o:=iU;have d:Hid (Hs.same (aW l) (bC p)=false):=dM (by simp[aW,bC])
   clear j g y i m h;generalize Hs.same (aW l) (bC p)=r at*;go_enter func389,ntmps389;go_wp2_with fail;go_ret;exact⟨rfl,by rw[d.out];rfl⟩
  ·have o:=gK;have d:Hid (Hs.same (aW l) (bO f)=false):=dM (by simp[aW,bO])
   clear j g y i m h;generalize Hs.same (aW l) (bO f)=r at*;go_enter func389,ntmps389;go_wp2_with fail;go_ret;exact⟨rfl,by rw[d.out];rfl⟩
  ·have o:=kF;have d:Hid (Hs.same (aW l) (bK f)=false):=dM (by simp[aW,bK])
   clear j g y i m h;generalize Hs.same (aW l) (bK f)=r at*;go_enter func389,ntmps389;go_wp2_with fail;go_ret;exact⟨rfl,by rw[d.out];rfl⟩
  ·have C:=aB (CJ F k i x B c A l t w y z m (by omega) h)
   clear j g y z i m h;generalize Hs.same (aW l) (aW t)=r at*;go_enter func389,ntmps389;go_wp2_with fail;refine C.out.mono ?_;rintro e D ⟨rfl,rfl⟩;go_wp2_with fail;go_ret;exact⟨rfl,rfl⟩
def tS(F:Nat->Prop):∀k,AF F k
 |0=>fun u v a b w _ _ h=>by have:=rZ a;omega
 |k+1=>OE F k (tS F k)
def eM.ofQ{F:Nat->Prop}{w w':World}{r:aJ × Nat}{e:Ending}(h:lB F w r e w'):eM F w r e w':=by
 obtain⟨rfl,⟨b,u,a,c⟩|⟨b,a⟩⟩:=h
 ·exact⟨ay_ _ _,av_ ⟨b,u,a,c.mono fun _ d=>av_ d⟩⟩
 ·exact⟨ay_ _ _,as_ ⟨b,a⟩⟩
def G9{op:List UInt8}(b:op≠[61,61])(a:op≠[33,61])(n m:Int):eL op (bC n) (bC m)=jA op n m:=by
 unfold eL;rw[if_neg b,if_neg a,if_neg (by simp[bC]),if_pos (by simp[bC])];rfl
def G8{op:List UInt8}(i:op≠[61,61])(g:op≠[33,61])(a b:List UInt8):eL op (bK a) (bK b)=GT op a b:=by
 unfold eL GT iZ;rw[if_neg i,if_neg g,if_neg (by simp[bK]),if_neg (by simp[bK])]
 by_cases c:op=[60]
 ·rw[if_neg (by rw[c];decide),if_pos ⟨rfl,c⟩,if_pos c];rfl
 by_cases d:op=[60,61]
 ·rw[if_neg (by rw[d];decide),if_neg (fun h=>c h.2),if_pos ⟨rfl,d⟩,if_neg c,if_pos d];rfl
 by_cases f:op=[43]
 ·rw[if_pos f,if_neg c,if_neg d,if_pos f];have e:(if (bK a).sort=3 then aW ((bK a).l++(bK b).l) else bK ((bK a).s++(bK b).s))=bK (a++b):=rfl
  simp only[e]
 ·rw[if_neg f,if_neg (fun h=>c h.2),if_neg (fun h=>d h.2),if_neg c,if_neg d,if_neg f]
def XR{op:List UInt8}(f:op≠[61,61])(d:op≠[33,61])(a b:List aJ):eL op (aW a) (aW b)=wR op a b:=by
 unfold eL wR iZ;rw[if_neg f,if_neg d,if_neg (by simp[aW]),if_neg (by simp[aW])]
 by_cases c:op=[43]
 ·rw[if_pos c,if_pos c];have e:(if (aW a).sort=3 then aW ((aW a).l++(aW b).l) else bK ((aW a).s++(aW b).s))=aW (a++b):=rfl
  simp only[e]
 ·rw[if_neg c,if_neg c,if_neg (by simp[aW]),if_neg (by simp[aW])]
def fW{op:List UInt8}(d:op≠[61,61])(c:op≠[33,61]){a b:aJ}(h:a.sort≠b.sort\/a.sort=1):eL op a b=(bN,2):=by
 unfold eL;rw[if_neg d,if_neg c,if_pos h]
def OI(op:List UInt8)(F:Nat->Prop)(u v:Value)(a b:aJ)(w:World)(j:PV F w u a)(i:PV F w v b)(o:∀k,F k->k<w.heap.size)(d:aK a<=400000)(h:aK b<=400000):
 Calls prog 388 #[.string (bs op),u,v] w (eM F w (eL op a b)):=by
 have q:=cA op;by_cases f:op=[61,61]
 ·have W:((bs op).toList==[61,61])=true:=by rw[q,f];rfl
  have G:Hid (eL op a b=(bO (Hs.same a b),0)):=by show _=_;unfold eL;rw[if_pos f]
  have K:=aB (tS F 400000 u v a b w j i d (by omega) (by omega))
  obtain⟨t,z,rfl⟩:=j.form;obtain⟨Y,Z,rfl⟩:=i.form;clear j i q f;rw[G.out];generalize Hs.same a b=s at*;go_enter func388,ntmps388;go_wp2_with fail;refine K.out.mono ?_;rintro e N ⟨rfl,rfl⟩;go_wp2_with fail;go_ret;exact eM.ok (ay_ _ _) rfl (PV.tru _ _ s)
 have W:((bs op).toList==[61,61])=false:=by rw[q];simpa using f
 by_cases g:op=[33,61]
 ·have e1:((bs op).toList==[33,61])=true:=by rw[q,g];rfl
  have G:Hid (eL op a b=(bO (!Hs.same a b),0)):=by show _=_;unfold eL;rw[if_neg f,if_pos g]
  have K:=aB (tS F 400000 u v a b w j i d (by omega) (by omega))
  obtain⟨t,z,rfl⟩:=j.form;obtain⟨Y,Z,rfl⟩:=i.form;clear j i q f g;rw[G.out];generalize Hs.same a b=s at*;go_enter func388,ntmps388;go_wp2_with fail;refine K.out.mono ?_;rintro e N ⟨rfl,rfl⟩;go_wp2_with fail;go_ret;exact eM.ok (ay_ _ _) rfl (PV.tru _ _ (!s))
 have e1:((bs op).toList==[33,61])=false:=by rw[q];simpa using g
 clear q;rcases j.cases with ⟨n,rfl,rfl,h1,X⟩|⟨s,rfl,rfl⟩|⟨s,rfl,rfl⟩|⟨x,c,l,rfl,rfl,V⟩
 ·have S:=lF;rcases i.cases with ⟨L,rfl,rfl,I,H⟩|⟨E,rfl,rfl⟩|⟨E,rfl,rfl⟩|⟨P,O,M,rfl,rfl,C⟩
  ·have p:=lF;rw[G9 f g];have K:=aB (YU op F n L w h1 X I H);generalize jA op n L=r at*;clear j i o f g d h;go_enter func388,ntmps388;go_wp2_with fail;refine K.out.mono ?_;rintro e N ⟨rfl,⟨m,u1,rfl,A⟩|⟨m,rfl⟩⟩
   ·have G:=aB A;have D:=aB m;obtain⟨U,T,rfl⟩:=A.form;clear A m;go_wp2_with fail;go_ret;exact eM.ofQ ⟨rfl,av_ ⟨D.out,_,rfl,G.out⟩⟩
   ·have D:=aB m;clear m;go_wp2_with fail;exact⟨rfl,eM.ofQ ⟨rfl,as_ ⟨D.out,rfl⟩⟩⟩
  ·have p:=kI;rw[fW f g (by simp[bC,bO])]
   clear j i o f g d h;go_enter func388,ntmps388;go_wp2_with fail;exact⟨rfl,eM.stop (ay_ _ _) rfl (by decide)⟩
  ·have p:=lE;rw[fW f g (by simp[bC,bK])]
   clear j i o f g d h;go_enter func388,ntmps388;go_wp2_with fail;exact⟨rfl,eM.stop (ay_ _ _) rfl (by decide)⟩
  ·have p:=kG;rw[fW f g (by simp[bC,aW])]
   clear j i o f g d h;go_enter func388,ntmps388;go_wp2_with fail;exact⟨rfl,eM.stop (ay_ _ _) rfl (by decide)⟩
 ·have S:=kI;have y:=kH;have B:=gK;rcases i.cases with ⟨L,rfl,rfl,I,H⟩|⟨E,rfl,rfl⟩|⟨E,rfl,rfl⟩|⟨P,O,M,rfl,rfl,C⟩
  ·have p:=lF;rw[fW f g (by simp[bO,bC])]
   clear j i o f g d h;go_enter func388,ntmps388;go_wp2_with fail;exact⟨rfl,eM.stop (ay_ _ _) rfl (by decide)⟩
  ·have p:=kI;rw[fW f g (by simp[bO])]
   clear j i o f g d h;go_enter func388,ntmps388;go_wp2_with fail;exact⟨rfl,eM.stop (ay_ _ _) rfl (by decide)⟩
  ·have p:=lE;rw[fW f g (by simp[bO,bK])]
   clear j i o f g d h;go_enter func388,ntmps388;go_wp2_with fail;exact⟨rfl,eM.stop (ay_ _ _) rfl (by decide)⟩
  ·have p:=kG;rw[fW f g (by simp[bO,aW])]
   clear j i o f g d h;go_enter func388,ntmps388;go_wp2_with fail;exact⟨rfl,eM.stop (ay_ _ _) rfl (by decide)⟩
 ·have S:=lE;have y:=jZ;rcases i.cases with ⟨L,rfl,rfl,I,H⟩|⟨E,rfl,rfl⟩|⟨E,rfl,rfl⟩|⟨P,O,M,rfl,rfl,C⟩
  ·have p:=mP;rw[fW f g (by simp[bK,bC])]
   clear j i o f g d h;go_enter func388,ntmps388;go_wp2_with fail;exact⟨rfl,eM.stop (ay_ _ _) rfl (by decide)⟩
  ·have p:=kH;rw[fW f g (by simp[bK,bO])]
   clear j i o f g d h;go_enter func388,ntmps388;go_wp2_with fail;exact⟨rfl,eM.stop (ay_ _ _) rfl (by decide)⟩
  ·have p:=jZ;rw[G8 f g];rw[kP] at d h;have K:=aB (YQ op F s E w (by omega))
   generalize GT op s E=r at*;clear j i o f g d h;go_enter func388,ntmps388;go_wp2_with fail;refine K.out.mono ?_;rintro e N ⟨rfl,⟨m,u1,rfl,A⟩|⟨m,rfl⟩⟩
   ·have G:=aB A;have D:=aB m;obtain⟨U,T,rfl⟩:=A.form;clear A m;go_wp2_with fail;go_ret;exact eM.ofQ ⟨rfl,av_ ⟨D.out,_,rfl,G.out⟩⟩
   ·have D:=aB m;clear m;go_wp2_with fail;exact⟨rfl,eM.ofQ ⟨rfl,as_ ⟨D.out,rfl⟩⟩⟩
  ·have p:=lT;rw[fW f g (by simp[bK,aW])]
   clear j i o f g d h;go_enter func388,ntmps388;go_wp2_with fail;exact⟨rfl,eM.stop (ay_ _ _) rfl (by decide)⟩
 ·have S:=kG;have y:=lT;have B:=gJ;rcases i.cases with ⟨L,rfl,rfl,I,H⟩|⟨E,rfl,rfl⟩|⟨E,rfl,rfl⟩|⟨P,O,M,rfl,rfl,C⟩
  ·have p:=iU;rw[fW f g (by simp[aW,bC])]
   clear j i o f g d h;go_enter func388,ntmps388;go_wp2_with fail;exact⟨rfl,eM.stop (ay_ _ _) rfl (by decide)⟩
  ·have p:=gK;rw[fW f g (by simp[aW,bO])]
   clear j i o f g d h;go_enter func388,ntmps388;go_wp2_with fail;exact⟨rfl,eM.stop (ay_ _ _) rfl (by decide)⟩
  ·have p:=kF;rw[fW f g (by simp[aW,bK])]
   clear j i o f g d h;go_enter func388,ntmps388;go_wp2_with fail;exact⟨rfl,eM.stop (ay_ _ _) rfl (by decide)⟩
  ·have p:=gJ;rw[XR f g];have K:=aB (TG op F x P c O l M w V C o (by omega))
   generalize wR op l M=r at*;clear j i o f g d h V C;go_enter func388,ntmps388;go_wp2_with fail;refine K.out.mono ?_;rintro e N ⟨J,⟨m,u1,rfl,A⟩|⟨m,rfl⟩⟩
   ·have G:=aB A;have D:=aB m;have Q:=aB J;obtain⟨U,T,rfl⟩:=A.form;clear A m J;go_wp2_with fail;go_ret;exact⟨Q.out,av_ ⟨D.out,_,rfl,G.out⟩⟩
   ·have D:=aB m;have Q:=aB J;clear m J;go_wp2_with fail;exact⟨rfl,Q.out,as_ ⟨D.out,rfl⟩⟩
end Go.Proofs.YtblbkfdhjfppkaaGreatDoor
