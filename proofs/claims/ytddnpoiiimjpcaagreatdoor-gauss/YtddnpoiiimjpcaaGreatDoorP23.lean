/- Contracts of the program: values in memory; what asks for their sort. -/
import Derived.Test.YtddnpoiiimjpcaaGreatDoorB03
import Derived.Test.YtddnpoiiimjpcaaGreatDoorP06
import Derived.Test.YtddnpoiiimjpcaaGreatDoorP22
set_option linter.defProp false
set_option maxRecDepth 100000
set_option maxHeartbeats 4000000
namespace Go.Proofs.YtddnpoiiimjpcaaGreatDoor
open Hs
open _root_.Go.Proofs.Tryz
open Go.RowKit
abbrev fP(k:Nat):Ending:=.panicked [{ v:=.iface 236 (Iv0 k),recovered:=false }]
def VLr(R:Value->aI->Prop)(F:cC)(w:aH)(sv:aQ)(l:List aI):Prop:=
 (l=[]/\sv=bV)\/
 ∃g cap cur,sv=.slice (some (aL g 0)) l.length cap/\F g/\w.heap[g]?=some (.cells cur 142 (0,0))/\l.length<=cap/\∀i (h:i<l.length),∃u,cur[i]?=some u/\R u l[i]
def VR:Nat->(Nat->Prop)->World->Value->aI->Prop
 |0,_,_,_,_=>False
 |d+1,F,w,v,a=>
  (∃n,v=.iface 195 (Iv0 n)/\a=bD n/\ -9223372036854775808<=n/\n<=9223372036854775807)\/
  (∃b,v=.iface 196 (.bool b)/\a=bP b)\/
  (∃s,v=.iface 198 (.string (bs s))/\a=bK s)\/
  (∃sv l,v=.iface 199 sv/\a=aW l/\VLr (VR d F w) F w sv l)
def VLr.mono{R S:Value->aI->Prop}{F G:cC}{w:aH}{e:aQ}{l:List aI}(h:VLr R F w e l)(s:∀v a,R v a->S v a)(o:∀b,F b->G b):VLr S G w e l:=by
 rcases h with h|⟨g,c,d,m,j,p,k,n⟩
 ·exact Y4 h
 ·refine Y3 ⟨g,c,d,m,o _ j,p,k,fun i q=>?_⟩
  obtain⟨u,f,r⟩:=n i q;exact⟨u,f,s _ _ r⟩
def VLr.keep{R:Value->aI->Prop}{F:cC}{w w':aH}{e:aQ}{l:List aI}(h:VLr R F w e l)(f:∀b,F b->w'.heap[b]?=w.heap[b]?):VLr R F w' e l:=by
 rcases h with h|⟨g,c,a,j,d,m,i,k⟩
 ·exact Y4 h
 ·exact Y3 ⟨g,c,a,j,d,by rw[f g d];exact m,i,k⟩
def VR.mono{F G:cC}{w:aH}(c:∀b,F b->G b):∀{d e:Nat} {v:aQ} {a:aI},VR d F w v a->d<=e->VR e G w v a
 |0,_,_,_,h,_=>h.elim
 |d+1,0,_,_,_,h=>by omega
 |d+1,e+1,v,a,h,f=>by
  rcases h with h|h|h|⟨i,l,j,g,k⟩
  ·exact Y4 h
  ·exact Y3 (Y4 h)
  ·exact Y3 (Y3 (Y4 h))
  ·exact Y3 (Y3 (Y3 ⟨i,l,j,g,k.mono (fun _ _ h=>VR.mono c h (by omega)) c⟩))
def VR.keep{F:cC}{w w':aH}(c:∀b,F b->w'.heap[b]?=w.heap[b]?):∀{d:Nat} {v:aQ} {a:aI},VR d F w v a->VR d F w' v a
 |0,_,_,h=>h.elim
 |d+1,v,a,h=>by
  rcases h with h|h|h|⟨f,l,g,e,i⟩
  ·exact Y4 h
  ·exact Y3 (Y4 h)
  ·exact Y3 (Y3 (Y4 h))
  ·exact Y3 (Y3 (Y3 ⟨f,l,g,e,(i.mono (fun _ _ h=>VR.keep c h) eD).keep c⟩))
def PV(F:cC)(w:aH)(v:aQ)(a:aI):Prop:=∃d,VR d F w v a
def PV.mono{F G:cC}{w:aH}{v:aQ}{a:aI}(h:PV F w v a)(c:∀b,F b->G b):PV G w v a:=by
 obtain⟨d,h⟩:=h;exact⟨d,h.mono c dH⟩
def PV.keep{F:cC}{w w':aH}{v:aQ}{a:aI}(h:PV F w v a)(c:∀b,F b->w'.heap[b]?=w.heap[b]?):PV F w' v a:=by
 obtain⟨d,h⟩:=h;exact⟨d,h.keep c⟩
def PV.num(F:cC)(w:aH)(n:Int)(b: -9223372036854775808<=n)(a:n<=9223372036854775807):PV F w (.iface 195 (Iv0 n)) (bD n):=⟨1,Y4 ⟨n,rfl,rfl,b,a⟩⟩
def PV.tru(F:cC)(w:aH)(b:Bool):PV F w (.iface 196 (.bool b)) (bP b):=⟨1,Y3 (Y4 ⟨b,rfl,rfl⟩)⟩
def PV.str(F:cC)(w:aH)(s:cE):PV F w (.iface 198 (.string (bs s))) (bK s):=⟨1,Y3 (Y3 (Y4 ⟨s,rfl,rfl⟩))⟩
def PVs(F:cC)(w:aH)(sv:aQ)(l:List aI):Prop:=VLr (PV F w) F w sv l
def ON{F:cC}{w:aH}{cur:Array Value}:∀(l:List aI) (o:Nat),(∀i (h:i<l.length),∃u,cur[o+i]?=some u/\PV F w u l[i])->∃d,∀i (h:i<l.length),∃u,cur[o+i]?=some u/\VR d F w u l[i]
 |[],_,_=>⟨0,fun i h=>by simp at h⟩
 |a::l,o,h=>by
  obtain⟨u,m,d,f⟩:=h 0 (by simp)
  obtain⟨e,g⟩:=ON (F:=F) (w:=w) (cur:=cur) l (o+1) fun i b=>by
   have:=h (i+1) (by simpa using b)
   rw[show o+1+i=o+(i+1) by omega]
   simpa using this
  refine⟨max d e,fun i b=>?_⟩
  cases i with
  |zero=>exact⟨u,m,f.mono eD (Nat.le_max_left _ _)⟩
  |succ i=>
   obtain⟨j,c,k⟩:=g i (by simpa using b)
   rw[show o+1+i=o+(i+1) by omega] at c
   exact⟨j,c,k.mono eD (Nat.le_max_right _ _)⟩
def PV.lst{F:cC}{w:aH}{b:aQ}{l:List aI}(h:PVs F w b l):PV F w (.iface 199 b) (aW l):=by
 rcases h with h|⟨g,c,a,j,f,m,i,k⟩
 ·exact⟨1,Y3 (Y3 (Y3 ⟨b,l,rfl,rfl,Y4 h⟩))⟩
 ·obtain⟨d,e⟩:=ON (cur:=a) l 0 (by simpa using k)
  exact⟨d+1,Y3 (Y3 (Y3 ⟨b,l,rfl,rfl,Y3 ⟨g,c,a,j,f,m,i,by simpa using e⟩⟩))⟩
def PV.cases{F:cC}{w:aH}{v:aQ}{a:aI}(h:PV F w v a):
 (∃n,v=.iface 195 (Iv0 n)/\a=bD n/\ -9223372036854775808<=n/\n<=9223372036854775807)\/
 (∃b,v=.iface 196 (.bool b)/\a=bP b)\/
 (∃s,v=.iface 198 (.string (bs s))/\a=bK s)\/
 (∃x c l,v=.iface 199 (.slice x l.length c)/\a=aW l/\PVs F w (.slice x l.length c) l):=by
 obtain⟨d,h⟩:=h;cases d with
 |zero=>exact h.elim
 |succ d=>
  rcases h with h|h|h|⟨o,l,i,e,j⟩
  ·exact Y4 h
  ·exact Y3 (Y4 h)
  ·exact Y3 (Y3 (Y4 h))
  ·refine Y3 (Y3 (Y3 ?_));have f:PVs F w o l:=j.mono (fun _ _ h=>⟨d,h⟩) eD
   rcases j with ⟨rfl,rfl⟩|⟨g,k,m,rfl,_⟩
   ·exact⟨none,0,[],i,e,f⟩
   ·exact⟨_,_,l,i,e,f⟩
def oH(F:cC)(v:aQ)(a:aI)(w:aH)(h:PV F w v a):
 Calls prog 270 #[v] w fun e d=>d=w/\((a.sort=1/\e=bE (.bool (decide (a.n=1))))\/(a.sort≠1/\e=fP 2)):=by
 rcases h.cases with ⟨n,rfl,rfl,_,_⟩|⟨b,rfl,rfl⟩|⟨s,rfl,rfl⟩|⟨x,c,l,rfl,rfl,_⟩
 ·clear h;have q:=KZ;go_in
  go_wp2_with fail;exact⟨rfl,rfl,Y3 ⟨by simp[bD],rfl⟩⟩
 ·clear h;have q:=tH;go_in
  go_wp2
  go_ret;exact⟨rfl,Y4 ⟨rfl,by cases b<;>rfl⟩⟩
 ·clear h;have q:=wI;go_in
  go_wp2_with fail;exact⟨rfl,rfl,Y3 ⟨by simp[bK],rfl⟩⟩
 ·clear h;have q:=tG;go_in
  go_wp2_with fail;exact⟨rfl,rfl,Y3 ⟨by simp[aW],rfl⟩⟩
def lE(F:cC)(w:aH)(r:aI × Nat)(e:Ending)(w':aH):Prop:=w'=w/\((r.2=0/\∃u,e=bE u/\PV F w u r.1)\/(r.2≠0/\e=fP r.2))
def lE.ok{F:cC}{w:aH}{r:aI × Nat}{u:aQ}{a:aI}(b:r=(a,0))(h:PV F w u a):lE F w r (bE u) w:=by subst b;exact⟨rfl,Y4 ⟨rfl,u,rfl,h⟩⟩
def lE.stop{F:cC}{w:aH}{r:aI × Nat}{a:aI}{k:Nat}(c:r=(a,k))(b:k≠0):lE F w r (fP k) w:=by subst c;exact⟨rfl,Y3 ⟨b,rfl⟩⟩
def TO(n:Int): -9223372036854775808<=kT n/\kT n<=9223372036854775807:=by unfold kT;omega
def PV.wrap(F:cC)(w:aH)(n:Int):PV F w (.iface 195 (Iv0 (wrap64 n))) (bD (kT n)):=by
 rw[<-PP];exact PV.num F w _ (TO n).1 (TO n).2
def WE(op:cE)(F:cC)(x y:Int)(w:aH)(s: -9223372036854775808<=x)(q:x<=9223372036854775807)(v: -9223372036854775808<=y)(z:y<=9223372036854775807):
 Calls prog 275 #[.string (bs op),Iv0 x,Iv0 y] w (lE F w (jD op x y)):=by
 have a:=cF op;obtain⟨r,b⟩:∃r,r=jD op x y:=⟨_,rfl⟩;rw[<-b];unfold jD at b;by_cases m:op=[43]
 ·rw[if_pos m] at b;have f:((bs op).toList==[60])=false:=by rw[a,m];rfl
  have g:((bs op).toList==[60,61])=false:=by rw[a,m];rfl
  have e:((bs op).toList==[43])=true:=by rw[a,m];rfl
  have d:((bs op).toList==[45])=false:=by rw[a,m];rfl
  have c:((bs op).toList==[42])=false:=by rw[a,m];rfl
  have h:=aB b;clear a b m;go_in
  go_wp2
  go_ret;exact lE.ok h (PV.wrap F w (x+y))
 rw[if_neg m] at b;have e:((bs op).toList==[43])=false:=by rw[a];simpa using m
 clear m;by_cases j:op=[45]
 ·rw[if_pos j] at b;have f:((bs op).toList==[60])=false:=by rw[a,j];rfl
  have g:((bs op).toList==[60,61])=false:=by rw[a,j];rfl
  have e:((bs op).toList==[43])=false:=by rw[a,j];rfl
  have d:((bs op).toList==[45])=true:=by rw[a,j];rfl
  have c:((bs op).toList==[42])=false:=by rw[a,j];rfl
  have h:=aB b;clear a b j;go_in
  go_wp2
  go_ret;exact lE.ok h (PV.wrap F w (x-y))
 rw[if_neg j] at b;have d:((bs op).toList==[45])=false:=by rw[a];simpa using j
 clear j;by_cases i:op=[42]
 ·rw[if_pos i] at b;have f:((bs op).toList==[60])=false:=by rw[a,i];rfl
  have g:((bs op).toList==[60,61])=false:=by rw[a,i];rfl
  have e:((bs op).toList==[43])=false:=by rw[a,i];rfl
  have d:((bs op).toList==[45])=false:=by rw[a,i];rfl
  have c:((bs op).toList==[42])=true:=by rw[a,i];rfl
  have h:=aB b;clear a b i;go_in
  go_wp2
  go_ret;exact lE.ok h (PV.wrap F w (x*y))
 rw[if_neg i] at b;have c:((bs op).toList==[42])=false:=by rw[a];simpa using i
 clear i;by_cases k:op=[60]
 ·rw[if_pos k] at b;have f:((bs op).toList==[60])=true:=by rw[a,k];rfl
  have g:((bs op).toList==[60,61])=false:=by rw[a,k];rfl
  have e:((bs op).toList==[43])=false:=by rw[a,k];rfl
  have d:((bs op).toList==[45])=false:=by rw[a,k];rfl
  have c:((bs op).toList==[42])=false:=by rw[a,k];rfl
  have h:=aB b;clear a b k;go_in
  go_wp2
  go_ret;exact lE.ok h (PV.tru F w (decide (x<y)))
 rw[if_neg k] at b;have f:((bs op).toList==[60])=false:=by rw[a];simpa using k
 clear k;by_cases l:op=[60,61]
 ·rw[if_pos l] at b;have f:((bs op).toList==[60])=false:=by rw[a,l];rfl
  have g:((bs op).toList==[60,61])=true:=by rw[a,l];rfl
  have e:((bs op).toList==[43])=false:=by rw[a,l];rfl
  have d:((bs op).toList==[45])=false:=by rw[a,l];rfl
  have c:((bs op).toList==[42])=false:=by rw[a,l];rfl
  have h:=aB b;clear a b l;go_in
  go_wp2
  go_ret;exact lE.ok h (PV.tru F w (decide (x<=y)))
 rw[if_neg l] at b;have g:((bs op).toList==[60,61])=false:=by rw[a];simpa using l
 clear l;by_cases o:y=0
 ·rw[if_pos o] at b;subst o;have h:=aB b;clear a b;go_in
  go_wp2_with fail;exact⟨rfl,lE.stop h (by decide)⟩
 rw[if_neg o] at b;have A:(y==0)=false:=by simpa using o
 by_cases n:op=[47]
 ·rw[if_pos n] at b;have u:((bs op).toList==[47])=true:=by rw[a,n];rfl
  have h:=aB b;clear a b n;go_in
  go_wp2
  go_ret;exact lE.ok h (PV.wrap F w (x.tdiv y))
 ·rw[if_neg n] at b;have u:((bs op).toList==[47])=false:=by rw[a];simpa using n
  have p:=ZW x y s q;rw[UU _ p.1 p.2] at b;have h:=aB b;have t:=aB p;clear a b n p;go_in
  go_wp2
  go_ret;exact lE.ok h (PV.num F w (x.tmod y) t.1 t.2)
def AZ(o:UInt8)(z:o=45\/o=33)(F:Nat->Prop)(v:Value)(a:aI)(w:World)(h:PV F w v a):
 Calls prog 269 #[.string (bs [o]),v] w (lE F w (fO [o,120] a)):=by
 rcases z with rfl|rfl
 ·have A:((bs [45]).toList==[33])=false:=by rw[cF];rfl
  rcases h.cases with ⟨n,rfl,rfl,D,C⟩|⟨b,rfl,rfl⟩|⟨s,rfl,rfl⟩|⟨x,c,l,rfl,rfl,_⟩
  ·have p:=aB (Hs.oneL_neg (op:=[45,120]) (a:=bD n) rfl rfl);have q:=lG;clear h;generalize fO [45,120] (bD n)=r at*;go_enter func269,ntmps269;go_wp2_with fail;go_ret;exact lE.ok p.out (by have i:=PV.wrap F w (-n);rw[PP] at i;exact i)
  ·have q:=kI;clear h;go_enter func269,ntmps269;go_wp2_with fail;exact⟨rfl,lE.stop (a:=bN) (by unfold fO;simp[bP]) (by decide)⟩
  ·have q:=lF;clear h;go_enter func269,ntmps269;go_wp2_with fail;exact⟨rfl,lE.stop (a:=bN) (by unfold fO;simp[bK]) (by decide)⟩
  ·have q:=kG;clear h;go_enter func269,ntmps269;go_wp2_with fail;exact⟨rfl,lE.stop (a:=bN) (by unfold fO;simp[aW]) (by decide)⟩
 ·have A:((bs [33]).toList==[33])=true:=by rw[cF];rfl
  have B:=aB (oH F v a w h);obtain⟨r,j⟩:∃r,r=fO [33,120] a:=⟨_,rfl⟩;rw[<-j];have k:=aB j
  have d:∃t u,v=.iface t u:=by
   rcases h.cases with ⟨n,rfl,_⟩|⟨b,rfl,_⟩|⟨s,rfl,_⟩|⟨x,c,l,rfl,_⟩<;>exact⟨_,_,rfl⟩
  obtain⟨t,u,rfl⟩:=d;have y:=aB h.cases;clear h j;go_enter func269,ntmps269;go_wp2_with fail;refine B.out.mono ?_;rintro e m ⟨rfl,⟨g,rfl⟩|⟨g,rfl⟩⟩
  ·have f:=aB g;clear g;go_wp2_with fail;go_ret;refine lE.ok (a:=bP (!decide (a.n=1))) ?_ (PV.tru F m (!decide (a.n=1)));rw[k.out];unfold fO;rw[if_neg (by simp),if_pos ⟨rfl,f.out⟩]
   rcases y.out with ⟨n,_,rfl,_⟩|⟨b,_,rfl⟩|⟨s,_,rfl⟩|⟨x,c,l,_,rfl,_⟩
   ·have:=f.out;simp[bD] at this
   ·cases b<;>rfl
   ·have:=f.out;simp[bK] at this
   ·have:=f.out;simp[aW] at this
  ·have f:=aB g;clear g;go_wp2_with fail;exact⟨rfl,lE.stop (a:=bN) (by rw[k.out];unfold fO;rw[if_neg (by simp),if_neg (fun i=>f.out i.2)]) (by decide)⟩
def PVs.get{F:cC}{w:aH}{x:Option Addr}{n c:Nat}{l:List aI}(h:PVs F w (.slice x n c) l)(i:Nat)(b:i<l.length):∃g u,x=some (aL g 0)/\n=l.length/\F g/\g<w.heap.size/\l.length<=c/\w.cell? (aL g i)=some u/\PV F w u l[i]:=by
 rcases h with ⟨rfl,_⟩|⟨g,k,o,j,e,a,f,m⟩
 ·simp at b
 ·cases j;obtain⟨u,d,p⟩:=m i b;exact⟨g,u,rfl,rfl,e,aD a,f,aA a d,p⟩
def PV.form{F:cC}{w:aH}{v:aQ}{a:aI}(h:PV F w v a):∃t u,v=.iface t u:=by
 rcases h.cases with ⟨n,rfl,_⟩|⟨b,rfl,_⟩|⟨s,rfl,_⟩|⟨x,c,l,rfl,_⟩<;>exact⟨_,_,rfl⟩
def PVs.keep{F:cC}{w w':aH}{c:aQ}{l:List aI}(h:PVs F w c l)(a:∀b,F b->w'.heap[b]?=w.heap[b]?):PVs F w' c l:=(VLr.mono h (fun _ _ h=>h.keep a) eD).keep a
def PVs.mono{F G:cC}{w:aH}{a:aQ}{l:List aI}(h:PVs F w a l)(c:∀b,F b->G b):PVs G w a l:=VLr.mono h (fun _ _ h=>h.mono c) c
def YW(n:Int):aK (bD n)=1:=by rw[eZ];simp[bD]
def YU(b:Bool):aK (bP b)=1:=by rw[eZ];simp[bP]
def kP(s:cE):aK (bK s)=1+s.length:=by rw[eZ];simp[bK]
def iU(l:List aI):aK (aW l)=1+(l.map aK).sum:=by rw[eZ];simp[aW]
def lN{l:List aI}{a:aI}(h:a∈l):aK a<=(l.map aK).sum:=by
 induction l with
 |nil=>cases h
 |cons x l b=>
  simp only[b9,d9];rcases Z6.1 h with rfl|h
  ·omega
  ·have:=b h;omega
def rD(a:aI):1<=aK a:=by rw[eZ];omega
def jK(l:List aI):l.length<=(l.map aK).sum:=by
 induction l with
 |nil=>simp
 |cons x l a=>simp only[b9,d9,Y9];have:=rD x;omega
def KT(F:cC)(k:Nat):Prop:=∀(v:aQ) (a:aI) (w:aH),PV F w v a->aK a<=k->k<=1000000000->Calls prog 264 #[v] w fun e w'=>w'=w/\e=bE (Iv0 (aK a:Nat))
def MI(F:cC)(k:Nat)(f:KT F k):KT F (k+1):=by
 intro v a w h p O;rcases h.cases with ⟨n,rfl,rfl,P,M⟩|⟨b,rfl,rfl⟩|⟨s,rfl,rfl⟩|⟨x,c,l,rfl,rfl,E⟩
 ·have q:=mL;have G:=iY;rw[YW];clear h f p;go_in
  go_wp2
  go_ret;exact⟨rfl,rfl⟩
 ·have q:=kH;have G:=gS;rw[YU];clear h f p;go_in
  go_wp2
  go_ret;exact⟨rfl,rfl⟩
 ·have q:=kC;have U:(bs s).size=s.length:=iM s;rw[kP] at p ⊢
  clear h f;go_in
  go_wp2
  go_ret;exact⟨rfl,by go_num⟩
 ·have q:=lQ;have G:=gR;have D:=jK l;rw[iU] at p ⊢
  have A:=aB f;have J:=aB E;clear h f E;go_in
  go_wp2_with fail;go_loopg [5,7,20] l.length (fun gk s _ i wr=>∃j:Nat,j+gk=l.length/\i=Iv0 j/\s=Iv0 ((1+((l.map aK).take j).sum:Nat):Int)/\wr=w)
  case atStart=>exact⟨0,by omega,rfl,rfl,rfl⟩
  case round=>
   obtain⟨j,W,rfl,rfl,rfl⟩:=hrel;by_cases d:j<l.length
   ·obtain⟨m,rfl⟩:∃m,gk=m+1:=⟨gk-1,by omega⟩
    obtain⟨g,u,rfl,V,T,N,C,z,B⟩:=J.get j d;have o:l[j]∈l:=e8 d;have H:=lN o;have K:=aB (A u l[j] wr B (by omega) (by omega))
    obtain⟨t,S,rfl⟩:=B.form
    have r:((l.map aK).take (j+1)).sum=((l.map aK).take j).sum+aK l[j]:=by
     rw[i6 (by simpa using d),z6];simp only[List.getElem_map,d9,n9,Nat.add_zero]
    have I:((l.map aK).take (j+1)).sum<=(l.map aK).sum:=by
     have e:(l.map aK).sum=((l.map aK).take (j+1)++(l.map aK).drop (j+1)).sum:=by rw[l8]
     rw[e,z6];omega
    generalize aK l[j]=Q at*;clear B;go_wp2_with fail;refine K.mono ?_;rintro e L ⟨rfl,rfl⟩;go_wp2
    go_roundg m
    case measure=>omega
    case rel=>exact⟨j+1,by omega,by go_num,by rw[r];go_num,rfl⟩
   ·have y:j=l.length:=by omega
    subst y;go_wp2
    go_ret;exact⟨rfl,by rw[j7 (by simp)];rfl⟩
def BF(F:cC):∀k,KT F k
 |0=>fun v a w _ h=>by have:=rD a;omega
 |k+1=>MI F k (BF F k)
def mC(F:cC)(v:aQ)(a:aI)(w:aH)(h:PV F w v a)(g:aK a<=1000000000):
 Calls prog 263 #[v] w fun e d=>d=w/\((aK a<=200/\e=bE v)\/(200<aK a/\e=fP 6)):=by
 have b:=aB (BF F 1000000000 v a w h g dH);obtain⟨t,u,rfl⟩:=h.form;clear h;generalize aK a=n at*;by_cases f:n<=200
 ·have e:decide ((200:Int)<(n:Int))=false:=decide_eq_false (by omega)
  go_in
  go_wp2_with fail;refine b.mono ?_;rintro e c ⟨rfl,rfl⟩;go_wp2
  go_ret;exact⟨rfl,Y4 ⟨f,rfl⟩⟩
 ·have e:decide ((200:Int)<(n:Int))=true:=decide_eq_true (by omega)
  go_in
  go_wp2_with fail;refine b.mono ?_;rintro e c ⟨rfl,rfl⟩;go_wp2_with fail;exact⟨rfl,rfl,Y3 ⟨by omega,rfl⟩⟩
def sU(F:cC)(v:aQ)(a:aI)(n:Nat)(w:aH)(h:PV F w v a)(_hn:n<=1000000000):
 Calls prog 267 #[v,Iv0 n] w fun e g=>g=w/\((a.sort≠0/\e=fP 2)\/(a.sort=0/\(a.n<0\/(n:Int)<=a.n)/\e=fP 4)\/(a.sort=0/\∃k:Nat,k<n/\a.n=k/\e=bE (Iv0 k))):=by
 rcases h.cases with ⟨m,rfl,rfl,p,o⟩|⟨b,rfl,rfl⟩|⟨s,rfl,rfl⟩|⟨x,c,l,rfl,rfl,_⟩
 ·have q:=lG;clear h;by_cases f:m<0
  ·have j:decide (m<0)=true:=decide_eq_true f;go_in
   go_wp2_with fail;exact⟨rfl,rfl,Y3 (Y4 ⟨rfl,Y4 f,rfl⟩)⟩
  have j:decide (m<0)=false:=decide_eq_false f;by_cases d:(n:Int)<=m
  ·have i:decide ((n:Int)<=m)=true:=decide_eq_true d;go_in
   go_wp2_with fail;exact⟨rfl,rfl,Y3 (Y4 ⟨rfl,Y3 d,rfl⟩)⟩
  ·have i:decide ((n:Int)<=m)=false:=decide_eq_false d;go_in
   go_wp2
   go_ret;exact⟨rfl,Y3 (Y3 ⟨rfl,m.toNat,by omega,by show m=_;omega,by rw[Int.toNat_of_nonneg (by omega)];rfl⟩)⟩
 ·have q:=kI;clear h;go_in
  go_wp2_with fail;exact⟨rfl,rfl,Y4 ⟨by simp[bP],rfl⟩⟩
 ·have q:=lF;clear h;go_in
  go_wp2_with fail;exact⟨rfl,rfl,Y4 ⟨by simp[bK],rfl⟩⟩
 ·have q:=kG;clear h;go_in
  go_wp2_with fail;exact⟨rfl,rfl,Y4 ⟨by simp[aW],rfl⟩⟩
def IX(F:cC)(x:Option Addr)(c:Nat)(l:List aI)(w:aH)(h:PVs F w (.slice x l.length c) l)(d:aK (aW l)<=1000000000):
 Calls prog 261 #[.slice x l.length c] w fun e b=>b=w/\((aK (aW l)<=200/\e=bE (.iface 199 (.slice x l.length c)))\/(200<aK (aW l)/\e=fP 6)):=by
 have f:=aB (mC F _ _ w (PV.lst h) d);clear h;generalize aK (aW l)=n at*;go_in
 go_wp2_with fail;refine f.mono ?_;rintro e g ⟨rfl,⟨a,rfl⟩|⟨a,rfl⟩⟩
 ·go_wp2
  go_ret;exact⟨rfl,Y4 ⟨a,rfl⟩⟩
 ·go_wp2_with fail;exact⟨rfl,rfl,Y3 ⟨a,rfl⟩⟩
noncomputable def FG(op:cE)(a b:cE):aI × Nat:=
 if op=[60] then (bP (gJ a b),0)
 else if op=[60,61] then (bP (!gJ b a),0)
 else if op=[43] then (if 200<aK (bK (a++b)) then (bN,6) else (bK (a++b),0))
 else (bN,2)
def VZ(op:cE)(F:cC)(a b:cE)(w:aH)(p:a.length+b.length<=1000000):
 Calls prog 276 #[.string (bs op),.string (bs a),.string (bs b)] w (lE F w (FG op a b)):=by
 have c:=cF op;obtain⟨r,d⟩:∃r,r=FG op a b:=⟨_,rfl⟩;rw[<-d];unfold FG at d;by_cases g:op=[60]
 ·rw[if_pos g] at d;have o:((bs op).toList==[60])=true:=by rw[c,g];rfl
  have h:Hid (Op.bytesLess (bs a).toList (bs b).toList=gJ a b):=by show _=_;rw[cF,cF,tF]
  have f:=aB d;clear c d g;generalize gJ a b=s at*;go_in
  go_wp2
  go_ret;exact lE.ok f (by rw[<-h.out];exact PV.tru F w _)
 rw[if_neg g] at d;have o:((bs op).toList==[60])=false:=by rw[c];simpa using g
 by_cases i:op=[60,61]
 ·rw[if_pos i] at d;have u:((bs op).toList==[60,61])=true:=by rw[c,i];rfl
  have h:Hid ((Op.bytesLess (bs a).toList (bs b).toList || (bs a).toList==(bs b).toList)= !gJ b a):=by show _=_;rw[cF,cF,tF,GM]
  have f:=aB d;clear c d g i;generalize gJ b a=s at*;go_in
  go_wp2
  go_ret;exact lE.ok f (by rw[<-h.out];exact PV.tru F w _)
 rw[if_neg i] at d;have u:((bs op).toList==[60,61])=false:=by rw[c];simpa using i
 by_cases j:op=[43]
 ·rw[if_pos j] at d;have t:((bs op).toList==[43])=true:=by rw[c,j];rfl
  have k:=kP (a++b);have v:=aB (mC F (.iface 198 (.string (bs (a++b)))) _ w (PV.str F w (a++b)) (by rw[k,Y5];omega))
  have f:=aB d;have q:=iM;clear c d g i j k;go_in
  go_wp2_with fail;refine v.mono ?_;rintro e n ⟨rfl,⟨l,rfl⟩|⟨l,rfl⟩⟩
  ·have m:Hid (r=(bK (a++b),0)):=by show _=_;rw[f.out,if_neg (by omega)]
   clear l f;go_wp2
   go_ret;exact lE.ok m (PV.str F n (a++b))
  ·have m:Hid (r=(bN,6)):=by show _=_;rw[f.out,if_pos l]
   clear l f;go_wp2_with fail;exact⟨rfl,lE.stop m (by decide)⟩
 ·rw[if_neg j] at d;have t:((bs op).toList==[43])=false:=by rw[c];simpa using j
  have f:=aB d;clear c d g i j;go_in
  go_wp2_with fail;exact⟨rfl,lE.stop f (by decide)⟩
def mR:(prog.info? 142).map (fun i=>(i.zero,i.size,i.bytes))=some (some .nilIface,1,16):=by kernel_rfl
def vN{P:Program}(w:aH)(t u r e:TypeId)(i:TypeInfo)(z:aQ)(j:P.underlying t=some (.slice e))(q:P.underlying u=some (.int .i64))(s:P.info? e=some i)(o:i.zero=some z)(m:i.size=1)
 (n:Nat) (k:0<n) (v:n<=1000000000) (l:i.bytes<=64):
 (Builtin.append_ #[t,u] r #[bV,Iv0 n]).run P w=
   .ok (.slice (some (aL w.heap.size 0)) n (grownCap w n 0 e)) (w.drew.alloc (.cells (Builtin.zeroCells z.cells n++Builtin.zeroCells z.cells (grownCap w n 0 e-n)) e)):=by
 have g:n≠0:=by omega
 have h:n*i.bytes<=1000000000*64:=am_ v l;have d:¬(281474976710656<Builtin.nextslicecap n 0*i.bytes):=by rw[nextslicecap_zero k];omega
 have f:¬(9223372036854775807<(n:Int)):=by omega
 have p:IntKind.i64.wrap (n:Int)=n:=by
  rw[IntKind.wrap_i64];omega
 have c:¬(281474976710656<(n:Int)*(i.bytes:Int)):=by
  have:((n*i.bytes:Nat):Int)<=64000000000:=by omega
  rw[Int.natCast_mul] at this;omega
 have b:¬((n:Int)<0):=by omega
 have a:max (n:Int) 0=n:=by omega
 simp[Builtin.append_,run_underlying j,run_underlying q,sizeOf,typeInfo,zeroValue,s,o,m,p,asInt,asIntOf,b,a,g,f,d,c,Question.forced,run_firstCells_none,newRow,grownCap]
def rJ{P:Program}{w:aH}{c:Array Oper}{b:List Oper}{o:Oper}{a:Act}{Q:Exit->Act->World->Prop}(f:o.guard=none)(s x:Operand)(t u:TypeId)
 (q:o.op=.call { callee:=.builtin .append,args:= #[s,x],argTypes:= #[t,u] })
 (e:TypeId) (i:TypeInfo) (z:aQ) (g:P.underlying t=some (.slice e)) (r:P.underlying u=some (.int .i64)) (y:P.info? e=some i) (p:i.zero=some z) (l:i.size=1)
 (n:Nat) (j:0<n) (B:n<=1000000000) (k:i.bytes<=64) (v:a.eval s=bV) (A:a.eval x=Iv0 n)
 (h:wpList P c Q b (a.put o.dst (.slice (some (aL w.heap.size 0)) n (grownCap w n 0 e))) (w.drew.alloc (.cells (Builtin.zeroCells z.cells n++Builtin.zeroCells z.cells (grownCap w n 0 e-n)) e))):wpList P c Q (o::b) a w:=by
 refine wpList_plain f fun K m=>?_
 have d:=vN (P:=P) w t u o.type e i z g r y p l n j B k;unfold Oper.wp;simp[execOp,q,resolve,invoke,builtin,v,A,d,Result.andThen];exact m _ _ h
def WF(n:Nat)(p:n<=1000000)(w:aH):
 Calls prog 280 #[bV,Iv0 n] w fun e i=>∃v,e=bE v/\i.ownsRow w.heap.size 142 1 v 0 []/\Below w.heap.size w i:=by
 obtain⟨j,m,d,g,k⟩:=info_parts mR;rcases au_ n with rfl|l
 ·go_in
  go_wp2
  go_ret;exact⟨_,rfl,World.ownsRow_nil _ _ _ _,Y8 _ _⟩
 ·have q:decide ((n:Int)<0)=false:=decide_eq_false (by omega)
  have o:decide ((0:Int)<(n:Int))=true:=decide_eq_true (by omega)
  have b:=grownCap_ge w n 0 142;have a:=grownCap_le_maxLen w n 0 142 (by unfold maxLen;omega)
  generalize c:grownCap w n 0 142=f at b a;have h:=aB c;clear c;go_in
  go_wp2_with (at_builtin;refine rJ (by rfl) _ _ 199 3 (by rfl) 142 j .nilIface underlying199 underlying3 m d g n l (by omega) (by omega) (by rfl) (by rfl) ?_;rw[h.out])
  go_ret;refine⟨_,rfl,⟨rfl,Y3 ⟨w.heap.size,f,_,rfl,dH,aU _ _ rfl _,n8 _,a,?_,rfl⟩⟩,?_⟩
  ·rw[Array.size_append,size_zeroCells,size_zeroCells];simp;omega
  ·exact((Y8 _ _).drew).alloc (by simp) _
def gF(F:cC)(w:aH)(xs:List Value)(l:List aI):Prop:=xs.length=l.length/\∀i (h:i<l.length),∃u,xs[i]?=some u/\PV F w u l[i]
def gF.nil(F:cC)(w:aH):gF F w [] []:=⟨rfl,fun i h=>by simp at h⟩
def gF.keep{F:cC}{w w':aH}{xs:List Value}{l:List aI}(h:gF F w xs l)(a:∀b,F b->w'.heap[b]?=w.heap[b]?):gF F w' xs l:=
 ⟨h.1,fun i e=>by obtain⟨u,d,c⟩:=h.2 i e;exact⟨u,d,c.keep a⟩⟩
def gF.mono{F G:cC}{w:aH}{xs:List Value}{l:List aI}(h:gF F w xs l)(e:∀b,F b->G b):gF G w xs l:=
 ⟨h.1,fun i d=>by obtain⟨u,c,a⟩:=h.2 i d;exact⟨u,c,a.mono e⟩⟩
def gF.append{F:cC}{w:aH}{xs d:List Value}{l m:List aI}(h:gF F w xs l)(k:gF F w d m):gF F w (xs++d) (l++m):=by
 refine⟨by simp[h.1,k.1],fun i f=>?_⟩
 rcases l6 i l.length with a|a
 ·obtain⟨u,b,c⟩:=h.2 i a;exact⟨u,by rw[l7 (by rw[h.1];exact a)];exact b,by rw[aw_ a];exact c⟩
 ·have e:i-l.length<m.length:=by simp at f;omega
  obtain⟨u,b,c⟩:=k.2 _ e;exact⟨u,by rw[j1 (by rw[h.1];exact a),h.1];exact b,by rw[as_ a];exact c⟩
def PVs.row{F:cC}{w:aH}{d:aQ}{l:List aI}(h:PVs F w d l):(l=[]/\d=bV)\/∃g a k,d=.slice (some (aL g 0)) l.length a/\F g/\g<w.heap.size/\gF F w k l/\∀j u,k[j]?=some u->w.cell? (aL g j)=some u:=by
 rcases h with h|⟨g,a,b,q,o,m,t,f⟩
 ·exact Y4 h
 ·have s:l.length<=b.size:=by
   rcases au_ l.length with p|p
   ·omega
   ·obtain⟨u,e,_⟩:=f (l.length-1) (by omega)
    have:=(p6.1 e).1;omega
  refine Y3 ⟨g,a,b.toList.take l.length,q,o,aD m,⟨by simp;omega,fun i n=>?_⟩,fun j u c=>?_⟩
  ·obtain⟨u,e,r⟩:=f i n;exact⟨u,by rw[i8,if_pos n];simpa using e,r⟩
  ·rw[i8] at c;split at c
   ·exact aA m (by simpa using c)
   ·cases c
def PVs.ofRow{F:cC}{w:aH}{base:Nat}{v:aQ}{xs:List Value}{l:List aI}(h:w.ownsRow base 142 1 v l.length xs)(p:gF F w xs l)(o:∀k,v.ownBlock=some k->F k):PVs F w v l:=by
 rcases h.2 with ⟨a,d⟩|⟨g,b,c,a,d,f,j,s,r,m⟩
 ·exact Y4 ⟨i7 d,a⟩
 ·refine Y3 ⟨g,b,c,a,o g (by rw[a];rfl),f,j,fun i q=>?_⟩
  obtain⟨u,e,n⟩:=p.2 i q;refine⟨u,?_,n⟩;rw[<-m,i8,if_pos (by omega)] at e
  simpa using e
def nW{F:cC}{w:aH}{xs:List Value}{l:List aI}(h:gF F w xs l):∀u∈xs,u.oneCell'=true:=by
 intro u c;obtain⟨j,b,rfl⟩:=List.mem_iff_getElem.1 c;obtain⟨f,a,d⟩:=h.2 j (by rw[<-h.1];exact b)
 rw[Z8 b] at a;cases a;obtain⟨t,z,e⟩:=d.form;rw[e];rfl
def CU{y:Array Oper}{i:List Oper}{o:Oper}{a:Act}{Q:Exit->Act->World->Prop}{w:aH}(r:o.guard=none)(s x:Operand)(t:TypeId)(G:prog.underlying t=some (.slice 142))
 (M:o.op=.call { callee:=.builtin .append,args:= #[s,x],argTypes:= #[t,t] })
 (base:Nat) (v:aQ) (l m:List aI) (xs:List Value) (F:cC) (P:a.eval s=v) (c:w.ownsRow base 142 1 v l.length xs) (O:gF F w xs l)
 (N:aQ) (T:a.eval x=N) (U:PVs F w N m) (K:∀b,F b->b<w.heap.size/\v.ownBlock≠some b) (J:l.length+m.length<=1000000000) (n:base<=w.heap.size)
 (h:∀A k z,k.ownsRow base 142 1 A (l++m).length z->gF F k z (l++m)->w.grownBy k v.ownBlock->wpList prog y Q i (a.put o.dst A) k):
 wpList prog y Q (o::i) a w:=by
 obtain⟨L,S,B,D,E⟩:=info_parts mR;rcases U.row with ⟨rfl,rfl⟩|⟨g,C,z,rfl,X,W,f,p⟩
 ·refine wpList_append_own_none r s x t M base 142 L 1 G S v l.length xs P c T ?_;exact h v w xs (by simpa using c) (by simpa using O) ⟨rfl,rfl,rfl,dH,fun _ _ _=>rfl⟩
 ·refine wpList_append_own _ r s x t M base 142 L _ 1 16 G S B D E rfl (by decide) v l.length xs P c (aL g 0) m.length C z T (by rw[f.1];omega) (fun j u V=>by rw[Addr.add_lit,x9];exact p j u V) (nW f) (by unfold maxLen;omega) (by omega) n ?_
  intro A k q d _;have I:∀b,F b->k.heap[b]?=w.heap[b]?:=fun b H=>d.block b (K b H).1 (fun e=>(K b H).2 e.symm)
  exact h A k (xs++z) (by rw[Y5];exact q) ((O.keep I).append (f.keep I)) d
def nP(F:cC)(w:aH)(ls:List aI)(v:aQ)(wr:aH):Prop:=
 ∃ys,wr.ownsRow w.heap.size 142 1 v ls.length ys/\gF F wr ys ls/\Below w.heap.size w wr
def nP.step{F:cC}{w wr w':aH}{a m:List aI}{v v':aQ}{b:List Value}(h:nP F w a v wr)(g:w'.ownsRow w.heap.size 142 1 v' (a++m).length b)(i:gF F w' b (a++m))(d:wr.grownBy w' v.ownBlock):nP F w (a++m) v' w':=by
 obtain⟨l,f,j,c⟩:=h;refine⟨b,g,i,c.grown d c.size fun k e=>?_⟩
 exact cM f k e
def cY{w:aH}{base n k:Nat}{t:TypeId}{v:aQ}{e:List Value}(h:w.ownsRow base t k v n e):∃x c,v=.slice x n c:=by
 rcases h.2 with ⟨a,b⟩|⟨g,f,d,a,_⟩
 ·exact⟨none,0,by rw[a,b]⟩
 ·exact⟨_,_,a⟩
def MG(F:Nat->Prop)(b:Nat)(x y:Option Addr)(c d:Nat)(l m:List aI)(w:World)(I:w.heap[b]?=some (.cells #[.slice x l.length c,.slice y m.length d] 199 (0,0)))(hl:PVs F w (.slice x l.length c) l)(hm:PVs F w (.slice y m.length d) m)(Z:∀k,F k->k<w.heap.size)(ac:l.length+m.length<=1000000):
 Calls prog 279 #[.slice (some ⟨b,0,none⟩) 2 2] w fun e C=>∃D,e=.returned D/\nP F w (l++m) D C:=by
 have j:=aD I;have V:=aA I (i:=0) rfl;have W:=aA I (i:=1) rfl;have HL:=aB hl;have HM:=aB hm;have E:=aB Z;have Y:=aB (WF (l.length+m.length) (by omega) w)
 have P:=aB I;clear hl hm Z I;go_enter func279,ntmps279;go_wp2_with fail;go_loopg [3,5,11] 2 (fun gk s _ i wr=>wr=w/\((gk=2/\i=.int .i64 0/\s=.int .i64 0)\/(gk=1/\i=.int .i64 1/\s=.int .i64 (l.length:Nat))\/(gk=0/\i=.int .i64 2/\s=.int .i64 ((l.length+m.length:Nat):Int))))
 case atStart=>exact⟨rfl,Y4 ⟨rfl,rfl,rfl⟩⟩
 case round=>
  obtain⟨hw,hrel⟩:=hrel;obtain rfl:=hw.symm;rcases hrel with ⟨rfl,rfl,rfl⟩|⟨rfl,rfl,rfl⟩|⟨rfl,rfl,rfl⟩
  ·have e:decide ((l.length:Int)<0)=false:=decide_eq_false (by omega)
   go_wp2_with fail;go_roundg 1
   case measure=>omega
   case rel=>exact⟨rfl,Y3 (Y4 ⟨rfl,rfl,rfl⟩)⟩
  ·have e:decide ((l.length:Int)+(m.length:Int)<0)=false:=decide_eq_false (by omega)
   go_wp2_with fail;go_roundg 0
   case measure=>omega
   case rel=>exact⟨rfl,Y3 (Y3 ⟨rfl,rfl,by simp⟩)⟩
  ·go_wp2_with fail;refine Y.out.mono ?_;rintro e w1 ⟨v1,rfl,h,N⟩
   obtain⟨x1,T,rfl⟩:∃x c,v1=.slice x 0 c:=by
    rcases h.2 with ⟨S,_⟩|⟨g,aa,ab,S,_⟩
    ·exact⟨none,0,S⟩
    ·exact⟨_,_,S⟩
   have O:Hid (nP F w [] (.slice x1 0 T) w1):=⟨[],h,gF.nil _ _,N⟩;clear h N Y V W;go_wp2_with fail;go_loopg [6,8,27] 2 (fun gk s _ i U=>(gk=2/\i=.int .i64 0/\nP F w [] s U)\/(gk=1/\i=.int .i64 1/\nP F w l s U)\/(gk=0/\i=.int .i64 2/\nP F w (l++m) s U))
   case atStart=>exact Y4 ⟨rfl,rfl,O.out⟩
   case round=>
    rcases hrel with ⟨rfl,rfl,A⟩|⟨rfl,rfl,A⟩|⟨rfl,rfl,A⟩
    ·have u:=A;obtain⟨Q,n,M,a⟩:=A;obtain⟨G,H,rfl⟩:=cY n;have V:wr.cell? ⟨b,0,none⟩=some (.slice x l.length c):=aA ((a.block b j).trans P.out) rfl;have W:wr.cell? ⟨b,1,none⟩=some (.slice y m.length d):=aA ((a.block b j).trans P.out) rfl;have J:b<wr.heap.size:=Y7 j a.size;have L:=aB n;have K:=aB M;have t:=aB a;have r:=aB u;have q:=aB (HL.out.keep (w':=wr) fun k z=>a.block k (E.out k z))
     have v:Hid (∀k,F k->k<wr.heap.size/\(Value.slice G ([]:List aI).length H).ownBlock≠some k):=fun k z=>⟨Y7 (E.out k z) a.size,fun e=>by have:=cM n k e;have:=E.out k z;omega⟩
     clear n M a u O;go_wp2_with (at_builtin;refine CU (by rfl) _ _ 199 underlying199 (by rfl) w.heap.size (.slice G ([]:List aI).length H) ([]:List aI) l Q F (by rfl) L.out K.out _ (by rfl) q.out v.out (by first|omega|(simp;omega)) t.out.size ?_)
     intro D C X f o p;have B:Hid (nP F w (([]:List aI)++l) D C):=r.out.step (by first|exact f|(rw[Y5];exact f)) o p
     obtain⟨x',c',rfl⟩:=cY f;clear f o p L K q v t r;go_wp2_with fail;go_roundg 1
     case measure=>omega
     case rel=>exact Y3 (Y4 ⟨rfl,rfl,by simpa using B.out⟩)
    ·have u:=A;obtain⟨Q,n,M,a⟩:=A;obtain⟨G,H,rfl⟩:=cY n;have V:wr.cell? ⟨b,0,none⟩=some (.slice x l.length c):=aA ((a.block b j).trans P.out) rfl;have W:wr.cell? ⟨b,1,none⟩=some (.slice y m.length d):=aA ((a.block b j).trans P.out) rfl;have J:b<wr.heap.size:=Y7 j a.size;have L:=aB n;have K:=aB M;have t:=aB a;have r:=aB u;have q:=aB (HM.out.keep (w':=wr) fun k z=>a.block k (E.out k z))
     have v:Hid (∀k,F k->k<wr.heap.size/\(Value.slice G (l).length H).ownBlock≠some k):=fun k z=>⟨Y7 (E.out k z) a.size,fun e=>by have:=cM n k e;have:=E.out k z;omega⟩
     clear n M a u O;go_wp2_with (at_builtin;refine CU (by rfl) _ _ 199 underlying199 (by rfl) w.heap.size (.slice G (l).length H) (l) m Q F (by rfl) L.out K.out _ (by rfl) q.out v.out (by first|omega|(simp;omega)) t.out.size ?_)
     intro D C X f o p;have B:Hid (nP F w (l++m) D C):=r.out.step (by first|exact f|(rw[Y5];exact f)) o p
     obtain⟨x',c',rfl⟩:=cY f;clear f o p L K q v t r;go_wp2_with fail;go_roundg 0
     case measure=>omega
     case rel=>exact Y3 (Y3 ⟨rfl,rfl,B.out⟩)
    ·have HC:=aB A;obtain⟨Q,n,_⟩:=A;obtain⟨G,H,rfl⟩:=cY n;clear n O;go_wp2_with fail;go_ret;exact⟨_,rfl,HC.out⟩
def eT(F:cC)(w:aH)(r:aI × Nat)(e:Ending)(w':aH):Prop:=Below w.heap.size w w'/\((r.2=0/\∃u,e=bE u/\PV (Grow F w w') w' u r.1)\/(r.2≠0/\e=fP r.2))
def eT.ok{F:cC}{w w':aH}{r:aI × Nat}{u:aQ}{a:aI}(c:Below w.heap.size w w')(b:r=(a,0))(h:PV (Grow F w w') w' u a):eT F w r (bE u) w':=by subst b;exact⟨c,Y4 ⟨rfl,u,rfl,h⟩⟩
def eT.stop{F:cC}{w w':aH}{r:aI × Nat}{a:aI}{k:Nat}(d:Below w.heap.size w w')(c:r=(a,k))(b:k≠0):eT F w r (fP k) w':=by subst c;exact⟨d,Y3 ⟨b,rfl⟩⟩
noncomputable def vQ(op:cE)(l m:List aI):aI × Nat:=if op=[43] then (if 200<aK (aW (l++m)) then (bN,6) else (aW (l++m),0)) else (bN,2)
def QY(op:cE)(F:cC)(x y:Option Addr)(c d:Nat)(l m:List aI)(w:aH)(E:PVs F w (.slice x l.length c) l)(G:PVs F w (.slice y m.length d) m)(s:∀k,F k->k<w.heap.size)(P:aK (aW l)+aK (aW m)<=1000000):
 Calls prog 277 #[.string (bs op),.slice x l.length c,.slice y m.length d] w (eT F w (vQ op l m)):=by
 have a:=cF op;obtain⟨r,h⟩:∃r,r=vQ op l m:=⟨_,rfl⟩;rw[<-h];unfold vQ at h;by_cases i:op=[43]
 ·rw[if_pos i] at h;have I:((bs op).toList==[43])=true:=by rw[a,i];rfl
  have D:((bs op).toList != [43])=false:=by rw[a,i];rfl
  have J:=jK l;have M:=jK m;rw[iU,iU] at P;have N:aK (aW (l++m))=1+((l.map aK).sum+(m.map aK).sum):=by rw[iU,m6,z6]
  have b:Below w.heap.size w (w.alloc (.cells #[.slice x l.length c,.slice y m.length d] 199)):=(Y8 _ _).alloc dH _;have H:=aB (MG F w.heap.size x y c d l m (w.alloc (.cells #[.slice x l.length c,.slice y m.length d] 199)) (aU _ _ rfl _) (E.keep fun k f=>b.block k (s k f)) (G.keep fun k f=>b.block k (s k f)) (fun k f=>Y7 (s k f) b.size) (by omega))
  have j:=aB b;have p:=aB h;clear a h i E G s b;go_in
  go_wp2_with fail;refine H.mono ?_;rintro e z ⟨Q,rfl,S,t,q,v⟩;obtain⟨O,K,rfl⟩:=cY t;have g:=j.trans (v.mono j.size);have o:PVs (Grow F w z) z (.slice O (l++m).length K) (l++m):=PVs.ofRow t (q.mono fun k f=>Y4 f) fun k f=>Y3 ⟨by have:=cM t k f;have:=j.size;omega,cP t k f⟩
  have L:=aB (mC (Grow F w z) _ _ z (PV.lst o) (by omega))
  have B:=aB o;have u:=aB g;clear t q v g o H;generalize (l++m).length=n at*;go_wp2_with fail;refine L.mono ?_;rintro e T ⟨rfl,⟨A,rfl⟩|⟨A,rfl⟩⟩
  ·have C:Hid (r=(aW (l++m),0)):=by show _=_;rw[p.out,if_neg (by omega)]
   clear A p;go_wp2
   go_ret;exact eT.ok u C (PV.lst B)
  ·have C:Hid (r=(bN,6)):=by show _=_;rw[p.out,if_pos A]
   clear A p;go_wp2_with fail;exact⟨rfl,eT.stop u C (by decide)⟩
 ·rw[if_neg i] at h;have I:((bs op).toList==[43])=false:=by rw[a];simpa using i
  have D:((bs op).toList != [43])=true:=by rw[a];simpa using i
  have p:=aB h;clear a h i E G s;go_in
  go_wp2_with fail;exact⟨rfl,eT.stop (Y8 _ _) p (by decide)⟩
def iQ{w:aH}{a:Addr}{v:aQ}(o:Obj)(h:w.cell? a=some v):(w.alloc o).cell? a=some v:=by
 have b:=World.block_lt_of_cell? w a h;rw[<-h];exact World.cell?_of_block (Z3 _ _ _ b)
def EP(g h n c:Nat)(b:List Value)(w:World)(C:b.length=n*1)(H:n<=1000000)(s:∀j u,b[j]?=some u->w.cell? ⟨g,h+j,none⟩=some u)(y:∀u∈b,u.oneCell'=true):
 Calls prog 292 #[.slice (some ⟨g,h,none⟩) n c] w fun e r=>∃m,e=.returned m/\r.ownsRow w.heap.size 142 1 m n b/\Below w.heap.size w r:=by
 obtain⟨A,D,o,p,q⟩:=info_parts mR;have z:=aB s;clear s;have x:∀(w:World) (a:Option Addr) (n c l i:Nat),(binOp .eql 199 (.slice a n c) (.slice none l i)).run prog w=.ok (.bool a.isNone) w:=fun w a n c l i=>Lib.run_eql_slice_nil w _ _ a n c l i underlying199
 go_enter func292,ntmps292;go_wp2_with (at_builtin;refine wpList_append_own _ (by rfl) _ _ 199 (by rfl) w.heap.size 142 A _ 1 16 underlying199 D o p q rfl (by decide) (.slice (some ⟨w.heap.size,0,none⟩) 0 0) 0 [] (by rfl) (World.ownsRow_made w #[] 0 (Z7 _) (n8 _) (by simp)) ⟨g,h,none⟩ n c b (by rfl) C (fun j u E=>by rw[Addr.add_lit];exact iQ _ (z.out j u E)) y (by unfold maxLen;omega) (by omega) (by simp) ?_)
 intro m F d f _;have B:=aB d;have v:=aB f;obtain⟨G,i,rfl⟩:=cY d;clear d f;go_wp2_with fail;go_ret;refine⟨_,rfl,by simpa using B.out,?_⟩
 exact((Y8 _ w).alloc (Z7 _) _).grown v.out (by simp) (by intro k t;simp[Value.ownBlock] at t;omega)
def sA(g h n c:Nat)(b:List Value)(w:World)(C:b.length=n*1)(H:n<=1000000)(s:∀j u,b[j]?=some u->w.cell? ⟨g,h+j,none⟩=some u)(y:∀u∈b,u.oneCell'=true):
 Calls prog 166 #[.slice (some ⟨g,h,none⟩) n c] w fun e r=>∃m,e=.returned m/\r.ownsRow w.heap.size 142 1 m n b/\Below w.heap.size w r:=by
 obtain⟨A,D,o,p,q⟩:=info_parts mR;have z:=aB s;clear s;have x:∀(w:World) (a:Option Addr) (n c l i:Nat),(binOp .eql 129 (.slice a n c) (.slice none l i)).run prog w=.ok (.bool a.isNone) w:=fun w a n c l i=>Lib.run_eql_slice_nil w _ _ a n c l i underlying129
 go_enter func166,ntmps166;go_wp2_with (at_builtin;refine wpList_append_own _ (by rfl) _ _ 129 (by rfl) w.heap.size 142 A _ 1 16 underlying129 D o p q rfl (by decide) (.slice (some ⟨w.heap.size,0,none⟩) 0 0) 0 [] (by rfl) (World.ownsRow_made w #[] 0 (Z7 _) (n8 _) (by simp)) ⟨g,h,none⟩ n c b (by rfl) C (fun j u E=>by rw[Addr.add_lit];exact iQ _ (z.out j u E)) y (by unfold maxLen;omega) (by omega) (by simp) ?_)
 intro m F d f _;have B:=aB d;have v:=aB f;obtain⟨G,i,rfl⟩:=cY d;clear d f;go_wp2_with fail;go_ret;refine⟨_,rfl,by simpa using B.out,?_⟩
 exact((Y8 _ w).alloc (Z7 _) _).grown v.out (by simp) (by intro k t;simp[Value.ownBlock] at t;omega)
def rZ(w:aH):
 Calls prog 166 #[bV] w fun e f=>e=bE (bV)/\f=w:=by
 have g:∀(w:aH) (a:Option Addr) (n c b d:Nat),(binOp .eql 129 (.slice a n c) (.slice none b d)).run prog w=.ok (.bool a.isNone) w:=fun w a n c b d=>Lib.run_eql_slice_nil w _ _ a n c b d underlying129
 go_in
 go_wp2
 go_ret;exact⟨rfl,rfl⟩
def S3(F:cC)(w:aH)(sv:aQ)(l:List aI):Prop:=
 (l=[]/\∃x c,sv=.slice x 0 c)\/∃g o c,sv=.slice (some (aL g o)) l.length c/\l.length<=c/\g<w.heap.size/\∀i (h:i<l.length),∃u,w.cell? (aL g (o+i))=some u/\PV F w u l[i]
def uK{i:aI}{c:List aI}{a b:aI}:cN (i::c) a b=if a.sort≠3\/i.sort≠0 then (bN,2) else if i.n<0\/(a.l.length:Int)<=i.n then (bN,4) else if (cN c (a.l.getD i.n.toNat bN) b).2≠0 then (bN,(cN c (a.l.getD i.n.toNat bN) b).2) else (aW (a.l.set i.n.toNat (cN c (a.l.getD i.n.toNat bN) b).1),0):=by
 rw[cN]
def L6{w:aH}{base n g a k:Nat}{t:TypeId}{e:List Value}{u:aQ}(h:w.ownsRow base t 1 (.slice (some (aL g 0)) n a) n e)(_hk:k<n):
 (w.setCell (aL g k) u).ownsRow base t 1 (.slice (some (aL g 0)) n a) n (e.set k u):=by
 rcases h.2 with ⟨b,_⟩|⟨p,d,c,b,o,f,j,m,i,l⟩
 ·cases b
 ·cases b;refine⟨by rw[x6];exact h.1,Y3 ⟨g,a,c.setIfInBounds k u,rfl,o,?_,j,m,by simpa using i,?_⟩⟩
  ·rw[aT f]
  ·rw[<-l,y7,az_]
def gF.set{F:cC}{w:aH}{xs:List Value}{l:List aI}{u:aQ}{a:aI}(h:gF F w xs l)(k:Nat)(e:PV F w u a):gF F w (xs.set k u) (l.set k a):=by
 refine⟨by simp[h.1],fun i c=>?_⟩
 rw[x6] at c;by_cases b:k=i
 ·subst b;exact⟨u,by rw[List.getElem?_set_self (by rw[h.1];exact c)],by rw[List.getElem_set_self];exact e⟩
 ·obtain⟨v,d,f⟩:=h.2 i c;exact⟨v,by rw[List.getElem?_set_ne b];exact d,by rw[List.getElem_set_ne b];exact f⟩
def A9{F:cC}{w w1 d:aH}{c c1 k:Nat}{xs:List Value}{m:List aI}{g:TypeId}{u2:aQ}{o:aI}{r:aI × Nat}(f:Below w.heap.size w w1)(s:Below w1.heap.size w1.drew d)
 (b:w1.ownsRow w.heap.size 142 1 (.slice (some (aL c 0)) m.length c1) m.length xs) (E:gF F w xs m) (C:PV (Grow F w1.drew d) d (.iface g u2) o) (a:r=(aW (m.set k o),0)) (x:∀q,F q->q<w.heap.size) (A:k<m.length):
 eT F w r (bE (.iface 199 (.slice (some (aL c 0)) m.length c1))) (d.setCell (aL c k) (.iface g u2)):=by
 have h:w.heap.size<=c:=cM b c rfl;have y:c<w1.heap.size:=cP b c rfl;have e:Below w1.heap.size w1 d:=((Y8 _ w1).drew).trans s;have B:w1.heap.size<=d.heap.size:=e.size;have D:w.heap.size<=w1.heap.size:=f.size;have z:Below w.heap.size w d:=f.trans (e.mono f.size);have n:Below w.heap.size w (d.setCell (aL c k) (.iface g u2)):=z.setCell h _;have v:d.ownsRow w.heap.size 142 1 (.slice (some (aL c 0)) m.length c1) m.length xs:=bA b fun q a=>e.block q (cP b q a)
 have p:=L6 (u:=.iface g u2) v A;have j:(d.setCell (aL c k) (.iface g u2)).heap.size=d.heap.size:=by simp
 refine eT.ok n a (PV.lst ?_);have i:(m.set k o).length=m.length:=x6;have:=PVs.ofRow (F:=Grow F w (d.setCell (aL c k) (.iface g u2))) (l:=m.set k o) (by rw[i];exact p) ?_ ?_
 ·exact this
 ·refine gF.set ((E.keep fun q a=>n.block q (x q a)).mono fun q a=>Y4 a) k ?_
  refine(C.keep fun q a=>?_).mono fun q a=>?_
  ·refine Y6 _ _ _ _ ?_;show q≠c
   rcases a with a|⟨a,_⟩
   ·have:=x q a;omega
   ·have:w1.heap.size<=q:=a;omega
  ·rcases a with a|⟨a,t⟩
   ·exact Y4 a
   ·refine Y3 ⟨?_,by rw[j];exact t⟩
    have:w1.heap.size<=q:=a;omega
 ·intro q a;obtain rfl:c=q:=Option.some.inj a;exact Y3 ⟨h,by rw[j];omega⟩
def rH(F:cC)(l:List aI):Prop:=∀(sv u v:aQ) (a b:aI) (w:aH),S3 F w sv l->PV F w u a->PV F w v b->(∀k,F k->k<w.heap.size)->aK a<=400000->l.length<=1000000->
 Calls prog 291 #[u,sv,v] w (eT F w (cN l a b))
def KF(F:cC):rH F []:=by
 intro k u v a b w f e d j q p
 obtain⟨x,c,rfl⟩:∃x c,k=.slice x 0 c:=by
  rcases f with ⟨_,x,c,h⟩|⟨g,o,c,h,_⟩
  ·exact⟨x,c,h⟩
  ·exact⟨_,_,h⟩
 have l:=aB d;obtain⟨t,z,rfl⟩:=e.form;obtain⟨m,n,rfl⟩:=d.form;clear f e d j;go_in
 go_wp2
 go_ret;exact eT.ok (Y8 _ _) rfl (l.mono fun _ i=>Y4 i)
def KG(F:Nat->Prop)(i:aI)(l:List aI)(IH:∀F,rH F l):rH F (i::l):=by
 intro sv u v a b w hi hu hv hF hc hl;simp only[Y9] at hl
 obtain⟨g,o,c,rfl,be,hg,f⟩:∃g o c,sv=.slice (some ⟨g,o,none⟩) (l.length+1) c/\l.length+1<=c/\g<w.heap.size/\∀j (h:j<(i::l).length),∃u,w.cell? ⟨g,o+j,none⟩=some u/\PV F w u (i::l)[j]:=by
  rcases hi with ⟨h,_⟩|⟨g,o,c,h1,K,h3,h4⟩
  ·cases h
  ·exact⟨g,o,c,h1,K,h3,h4⟩
 obtain⟨ui,ci,C⟩:=f 0 (by simp)
 simp only[Nat.add_zero,List.getElem_cons_zero] at ci C;have bf:(((l.length+1:Nat):Int)==0)=false:=by simp;omega
 obtain⟨r,O⟩:∃r,r=cN (i::l) a b:=⟨_,rfl⟩;rw[<-O];rw[uK] at O;obtain⟨t',z',rfl⟩:=hv.form;obtain⟨ti,zi,rfl⟩:=C.form;have d:a.sort≠3->Hid (r=(bN,2)):=fun h=>by show _=_;rw[O,if_pos (Y4 h)]
 rcases hu.cases with ⟨n,rfl,rfl,_,_⟩|⟨s,rfl,rfl⟩|⟨s,rfl,rfl⟩|⟨x,cx,m,rfl,rfl,hm⟩
 ·have M:=d (by simp[bD])
  have q:=iY;clear hu hv hi hF f C O d IH;go_enter func291,ntmps291;go_wp2_with fail;exact⟨rfl,eT.stop (Y8 _ _) M.out (by decide)⟩
 ·have M:=d (by simp[bP])
  have q:=gS;clear hu hv hi hF f C O d IH;go_enter func291,ntmps291;go_wp2_with fail;exact⟨rfl,eT.stop (Y8 _ _) M.out (by decide)⟩
 ·have M:=d (by simp[bK])
  have q:=kF;clear hu hv hi hF f C O d IH;go_enter func291,ntmps291;go_wp2_with fail;exact⟨rfl,eT.stop (Y8 _ _) M.out (by decide)⟩
 ·have q:=gR;have bk:=jK m;rw[iU] at hc;have ai:=aB (sU F _ i m.length w C (by omega))
  have HR:=aB O;have HM:=aB hm;have HV:=aB hv;have HF:=aB hF;have af:=aB f;have ab:=aB IH;clear hu hv hi hF f C O d IH hm;go_enter func291,ntmps291;go_wp2_with fail;refine ai.out.mono ?_;rintro e D ⟨Z,⟨K,rfl⟩|⟨K,h3,rfl⟩|⟨K,k,G,P,rfl⟩⟩
  ·obtain rfl:=Z.symm;have M:Hid (r=(bN,2)):=by show _=_;rw[HR.out,if_pos (Y3 K)]
   clear K Z;go_wp2_with fail;exact⟨rfl,eT.stop (Y8 _ _) M.out (by decide)⟩
  ·obtain rfl:=Z.symm;have M:Hid (r=(bN,4)):=by show _=_;rw[HR.out,if_neg (by simp[aW,K]),if_pos (show i.n<0\/((aW m).l.length:Int)<=i.n from h3)]
   clear K h3 Z;go_wp2_with fail;exact⟨rfl,eT.stop (Y8 _ _) M.out (by decide)⟩
  ·obtain rfl:=Z.symm;obtain⟨gm,bl,ar,_⟩:=HM.out.get k G;rcases HM.out.row with ⟨rfl,_⟩|⟨bc,bh,xs,aw,bb,bi,B,E⟩
   ·simp at G
   cases aw;obtain⟨uk,ac,V⟩:=B.2 k G;have am:=aB (EP bc 0 m.length cx xs w (by rw[B.1];omega) (by omega) (fun j u hj=>by rw[x9];exact E j u hj) (nW B))
   have av:aK m[k]<=400000:=by have:=lN (e8 G);omega
   have J:Hid (r=if (cN l m[k] b).2≠0 then (bN,(cN l m[k] b).2) else (aW (m.set k (cN l m[k] b).1),0)):=by
    show _=_
    have ag:i.n.toNat=k:=by rw[P];rfl
    have an:(aW m).l.getD i.n.toNat bN=m[k]:=by rw[ag];show m.getD k bN=_;show (m[k]?).getD bN=_;rw[Z8 G];rfl
    rw[HR.out,if_neg (by simp[aW,K]),if_neg (by show ¬(i.n<0\/((aW m).l.length:Int)<=i.n);rw[P];show ¬((k:Int)<0\/(m.length:Int)<=k);omega),an,ag]
    rfl
   obtain⟨tk,zk,rfl⟩:=V.form;have ao:=aB B;have ah:=aB V;have al:=aB ac;clear Z K P HR ai E B V ac bb ar;go_wp2_with fail;refine am.out.mono ?_;rintro e D ⟨v1,rfl,I,L⟩;rcases I.2 with ⟨r1,r2⟩|⟨g1,c1,ap,rfl,bj,z,ba,az,ax,ak⟩
   ·omega
   have N:ap[k]?=some (.iface tk zk):=by
    have:=al.out;rw[<-ak,i8,if_pos (by omega)] at this
    simpa using this
   have d0:D.cell? ⟨g1,k,none⟩=some (.iface tk zk):=aA z N;have aj:=aD z;have au:Hid (∀q,F q->q<D.drew.heap.size):=fun q hq=>Y7 (HF.out q hq) L.size
   have y:Below w.heap.size w D.drew:=L.drew;obtain⟨Y,ae⟩:∃Y:Option Addr,(if c=1 then some (⟨g,o,none⟩:Addr) else some ⟨g,o+1,none⟩)=Y:=⟨_,rfl⟩
   have aa:S3 F D.drew (.slice Y l.length (c-1)) l:=by
    by_cases h1:c=1
    ·have ht:l=[]:=s6.1 (by omega)
     exact Y4 ⟨ht,_,_,by rw[ht];rfl⟩
    ·rw[if_neg h1] at ae;subst ae;refine Y3 ⟨g,o+1,c-1,rfl,by omega,Y7 hg y.size,fun j hj=>?_⟩
     obtain⟨u,e1,e2⟩:=af.out (j+1) (by simp;omega)
     rw[show o+(j+1)=o+1+j by omega] at e1
     exact⟨u,by rw[y.cell (p:=⟨g,o+1+j,none⟩) hg];exact e1,e2.keep fun k G=>y.block k (HF.out k G)⟩
   have bm:(1:Int)<=(l.length:Int)+1:=by omega
   have bg:(l.length:Int)+1<=(c:Int):=by omega
   have HX:=aB (ab.out F (.slice Y l.length (c-1)) (.iface tk zk) (.iface t' z') m[k] b D.drew aa (ah.out.keep fun k G=>y.block k (HF.out k G)) (HV.out.keep fun k G=>y.block k (HF.out k G)) au.out av (by omega))
   generalize cN l m[k] b=X at HX J;have HOWN:=aB I;have HBLK:=aB z;have U:=aB L;clear I z L y aa am ab af ah ax ak ba az al;by_cases Q:X.2=0
   ·have T:Hid (Calls prog 291 #[.iface tk zk,.slice Y l.length (c-1),.iface t' z'] D.drew fun e w'=>Below D.heap.size D.drew w'/\∃t2 u2,e=.returned (.iface t2 u2)/\PV (Grow F D.drew w') w' (.iface t2 u2) X.1):=by
     refine HX.out.mono ?_;rintro e W ⟨A,⟨_,u2,rfl,H⟩|⟨S,rfl⟩⟩
     ·obtain⟨t2,z2,rfl⟩:=H.form;exact⟨A,t2,z2,rfl,H⟩
     ·exact absurd Q S
    have HQ:Hid (r=(aW (m.set k X.1),0)):=by show _=_;rw[J.out,if_neg (by simp[Q])]
    clear HX J Q;go_wp2_with fail;go_region_law (go_simp;go_at_call 291;refine T.out.mono ?_;rintro e W ⟨A,t2,u2,rfl,H⟩;have t:=(A.block g1 aj).trans HBLK.out;have d2:=aA t N;have bn:=aE t (i:=k);have bd:=aD t;have aq:=aB H;have ay:=aB A;have HBLK2:=aB t;clear H A t)
    all_goals
     go_wp2_with fail;go_ret;exact A9 U.out ay.out HOWN.out ao.out aq.out HQ.out HF.out G
   ·have T:Hid (Calls prog 291 #[.iface tk zk,.slice Y l.length (c-1),.iface t' z'] D.drew fun e w'=>Below D.heap.size D.drew w'/\e=fP X.2):=by
     refine HX.out.mono ?_;rintro e W ⟨A,⟨S,_⟩|⟨_,rfl⟩⟩
     ·exact absurd S Q
     ·exact⟨A,rfl⟩
    have HQ:Hid (r=(bN,X.2)):=by show _=_;rw[J.out,if_pos Q]
    have HS:Hid (∀W,Below D.heap.size D.drew W->eT F w r (fP X.2) W):=fun W h=>eT.stop (U.out.drew.trans (h.mono U.out.size)) HQ.out Q
    clear HX J Q;go_wp2_with fail;go_region_dies
    all_goals (refine T.out.mono ?_;rintro e W ⟨A,rfl⟩;exact⟨rfl,HS.out _ A⟩)
def xF:∀(l:List aI) (F:cC),rH F l
 |[],F=>KF F
 |i::l,F=>KG F i l (xF l)
def YV(l:List aI)(k:Nat)(x:aI):((l.set k x).map aK).sum<=(l.map aK).sum+aK x:=by
 induction l generalizing k with
 |nil=>simp
 |cons a l b=>
  cases k with
  |zero=>simp only[List.set_cons_zero,b9,d9];omega
  |succ k=>simp only[av_,b9,d9];have:=b k;omega
def sF:∀(l:List aI) (a b:aI),aK (cN l a b).1<=(l.length+1)*(aK a+aK b+1)
 |[],a,b=>by rw[cN];simp;omega
 |i::l,a,b=>by
  rw[uK];have c:aK bN=1:=by rw[eZ];simp[bN]
  have d:1<=((i::l).length+1)*(aK a+aK b+1):=Nat.mul_pos (by simp) (by omega)
  repeat' split
  ·rw[c];exact d
  ·rw[c];exact d
  ·rw[c];exact d
  ·rename_i p n q;have f:i.n.toNat<a.l.length:=by omega
   have k:a.l.getD i.n.toNat bN=a.l[i.n.toNat]:=by show (a.l[i.n.toNat]?).getD bN=_;rw[Z8 f];rfl
   have h:=sF l (a.l.getD i.n.toNat bN) b;have g:=lN (e8 f);have j:=eZ a;rw[iU];have e:=YV a.l i.n.toNat (cN l (a.l.getD i.n.toNat bN) b).1;rw[k] at h e ⊢
   have m:(l.length+1)*(aK a.l[i.n.toNat]+aK b+1)<=(l.length+1)*(aK a+aK b+1):=Nat.mul_le_mul_left _ (by omega)
   have o:((i::l).length+1)*(aK a+aK b+1)=(l.length+1)*(aK a+aK b+1)+(aK a+aK b+1):=by simp only[Y9];rw[Nat.succ_mul]
   omega
def MH(F:cC)(l:List aI)(y u v:aQ)(a b:aI)(w:aH)(E:S3 F w y l)(D:PV F w u a)(G:PV F w v b)(I:∀k,F k->k<w.heap.size)(L:aK a<=400)(J:aK b<=400)(T:l.length<=100000):
 Calls prog 290 #[u,y,v] w (eT F w (mZ a l b)):=by
 have C:=sF l a b;have K:(l.length+1)*(aK a+aK b+1)<=100001*801:=am_ (by omega) (by omega)
 have B:=aB (xF l F y u v a b w E D G I (by omega) (by omega))
 obtain⟨r,A⟩:∃r,r=mZ a l b:=⟨_,rfl⟩;rw[<-A];unfold mZ iC at A;have q:=aB A
 obtain⟨x,c,rfl⟩:∃x c,y=.slice x l.length c:=by
  rcases E with ⟨rfl,x,c,h⟩|⟨g,o,c,h,_⟩
  ·exact⟨x,c,h⟩
  ·exact⟨_,_,h⟩
 obtain⟨t,z,rfl⟩:=D.form;obtain⟨O,P,rfl⟩:=G.form;generalize cN l a b=p at B q C;clear E D G I A;go_in
 go_wp2_with fail;refine B.mono ?_;rintro e H ⟨d,⟨f,u1,rfl,s⟩|⟨f,rfl⟩⟩
 ·have N:=aB (mC (Grow F w H) u1 p.1 H s (by omega))
  obtain⟨S,Q,rfl⟩:=s.form;have M:=aB s;have n:=aB d;have j:=aB f;clear s d f B;go_wp2_with fail;refine N.mono ?_;rintro e U ⟨rfl,⟨m,rfl⟩|⟨m,rfl⟩⟩
  ·have i:Hid (r=(p.1,0)):=by show _=_;rw[q.out,if_pos j.out,if_neg (by omega)];rw[<-j.out]
   clear m;go_wp2
   go_ret;exact eT.ok n i M
  ·have i:Hid (r=(bN,6)):=by show _=_;rw[q.out,if_pos j.out,if_pos m]
   clear m;go_wp2_with fail;exact⟨rfl,eT.stop n i (by decide)⟩
 ·have i:Hid (r=(p.1,p.2)):=by show _=_;rw[q.out,if_neg f]
  have j:=aB f;have n:=aB d;clear f d B;go_wp2_with fail;exact⟨rfl,eT.stop n i j⟩
end Go.Proofs.YtddnpoiiimjpcaaGreatDoor
