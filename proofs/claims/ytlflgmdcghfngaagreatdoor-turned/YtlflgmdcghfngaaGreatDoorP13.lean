/- Contracts of the program: values in memory; what asks for their sort. -/
import Derived.Test.YtlflgmdcghfngaaGreatDoorP12
set_option linter.defProp false
set_option maxRecDepth 100000
set_option maxHeartbeats 4000000
namespace Go.Proofs.YtlflgmdcghfngaaGreatDoor
open Hs
open _root_.Go.Proofs.Tryz
open Go.RowKit
variable{xs:List Value}{l m:List aM}{b_ k n:Nat}{w w':aG}{a b:aM}{r:aM × Nat}{u v:aQ}{F G:bY}{op:cC}
abbrev fQ(k:Nat):Ending:=.panicked [{ v:=.iface 226 (I_ k),recovered:=false }]
def VLr(R:Value->aM->Prop)(F:bY)(w:aG)(sv:aQ)(l:List aM):Prop:=
 (l=[]/\sv=bG)\/
 ∃g cap cur,sv=.slice (some (aH g 0)) l.length cap/\F g/\w.heap[g]?=some (.cells cur 136 (0,0))/\l.length<=cap/\∀i (h:i<l.length),∃u,cur[i]?=some u/\R u l[i]
def VR:Nat->(Nat->Prop)->World->Value->aM->Prop
 |0,_,_,_,_=>False
 |d+1,F,w,v,a=>
  (∃n,v=.iface 183 (I_ n)/\a=bH n/\ -9223372036854775808<=n/\n<=9223372036854775807)\/
  (∃b,v=.iface 185 (.bool b)/\a=bV b)\/
  (∃s,v=.iface 187 (.string (bs s))/\a=bP s)\/
  (∃sv l,v=.iface 188 sv/\a=bB l/\VLr (VR d F w) F w sv l)
def VLr.mono{R S:Value->aM->Prop}{e:aQ}(h:VLr R F w e l)(s:∀v a,R v a->S v a)(o:∀b,F b->G b):VLr S G w e l:=by
 rcases h with h|⟨g,c,d,m,j,p,k,n⟩
 ·exact d7 h
 ·refine d6 ⟨g,c,d,m,o _ j,p,k,λi q=>?_⟩
  obtain⟨u,f,r⟩:=n i q;exact⟨u,f,s _ _ r⟩
def VLr.keep{R:Value->aM->Prop}{e:aQ}(h:VLr R F w e l)(f:∀b,F b->w'.heap[b]?=w.heap[b]?):VLr R F w' e l:=by
 rcases h with h|⟨g,c,a,j,d,m,i,k⟩
 ·exact d7 h
 ·exact d6 ⟨g,c,a,j,d,by rw[f g d];exact m,i,k⟩
def VR.mono(c:∀b,F b->G b):∀{d e:Nat} {v:aQ} {a:aM},VR d F w v a->d<=e->VR e G w v a
 |0,_,_,_,h,_=>h.elim
 |d+1,0,_,_,_,h=>by omega
 |d+1,e+1,v,a,h,f=>by
  rcases h with h|h|h|⟨i,l,j,g,k⟩
  ·exact d7 h
  ·exact d6 (d7 h)
  ·exact d6 (d6 (d7 h))
  ·exact d6 (d6 (d6 ⟨i,l,j,g,k.mono (λ_ _ h=>VR.mono c h o_) c⟩))
def VR.keep(c:∀b,F b->w'.heap[b]?=w.heap[b]?):∀{d:Nat} {v:aQ} {a:aM},VR d F w v a->VR d F w' v a
 |0,_,_,h=>h.elim
 |d+1,v,a,h=>by
  rcases h with h|h|h|⟨f,l,g,e,i⟩
  ·exact d7 h
  ·exact d6 (d7 h)
  ·exact d6 (d6 (d7 h))
  ·exact d6 (d6 (d6 ⟨f,l,g,e,(i.mono (λ_ _ h=>VR.keep c h) dP).keep c⟩))
def PV(F:bY)(w:aG)(v:aQ)(a:aM):Prop:=∃d,VR d F w v a
def PV.mono(h:PV F w v a)(c:∀b,F b->G b):PV G w v a:=by
 obtain⟨d,h⟩:=h;exact⟨d,h.mono c cL⟩
def PV.keep(h:PV F w v a)(c:∀b,F b->w'.heap[b]?=w.heap[b]?):PV F w' v a:=by
 obtain⟨d,h⟩:=h;exact⟨d,h.keep c⟩
def PV.num(F:bY)(w:aG)(n:Int)(b: -9223372036854775808<=n)(a:n<=9223372036854775807):PV F w (.iface 183 (I_ n)) (bH n):=⟨1,d7 ⟨n,rfl,rfl,b,a⟩⟩
def PV.tru(F:bY)(w:aG)(b:Bool):PV F w (.iface 185 (.bool b)) (bV b):=⟨1,d6 (d7 ⟨b,rfl,rfl⟩)⟩
def PV.str(F:bY)(w:aG)(s:cC):PV F w (.iface 187 (.string (bs s))) (bP s):=⟨1,d6 (d6 (d7 ⟨s,rfl,rfl⟩))⟩
def PVs(F:bY)(w:aG)(sv:aQ)(l:List aM):Prop:=VLr (PV F w) F w sv l
def UY{F:bY}{w:aG}{cur:Array Value}:∀(l:List aM) (o:Nat),(∀i (h:i<l.length),∃u,cur[o+i]?=some u/\PV F w u l[i])->∃d,∀i (h:i<l.length),∃u,cur[o+i]?=some u/\VR d F w u l[i]
 |[],_,_=>⟨0,λi h=>by simp at h⟩
 |a::l,o,h=>by
  obtain⟨u,m,d,f⟩:=h 0 s_
  obtain⟨e,g⟩:=UY (F:=F) (w:=w) (cur:=cur) l (o+1) λi b=>by
   have:=h (i+1) (by simpa using b)
   rw[show o+1+i=o+(i+1) by omega]
   simpa using this
  refine⟨max d e,λi b=>?_⟩
  cases i with
  |zero=>exact⟨u,m,f.mono dP (Nat.le_max_left _ _)⟩
  |succ i=>
   obtain⟨j,c,k⟩:=g i (by simpa using b)
   rw[show o+1+i=o+(i+1) by omega] at c
   exact⟨j,c,k.mono dP (Nat.le_max_right _ _)⟩
def PV.lst{b:aQ}(h:PVs F w b l):PV F w (.iface 188 b) (bB l):=by
 rcases h with h|⟨g,c,a,j,f,m,i,k⟩
 ·exact⟨1,d6 (d6 (d6 ⟨b,l,rfl,rfl,d7 h⟩))⟩
 ·obtain⟨d,e⟩:=UY (cur:=a) l 0 (by simpa using k)
  exact⟨d+1,d6 (d6 (d6 ⟨b,l,rfl,rfl,d6 ⟨g,c,a,j,f,m,i,by simpa using e⟩⟩))⟩
def PV.cases(h:PV F w v a):
 (∃n,v=.iface 183 (I_ n)/\a=bH n/\ -9223372036854775808<=n/\n<=9223372036854775807)\/
 (∃b,v=.iface 185 (.bool b)/\a=bV b)\/
 (∃s,v=.iface 187 (.string (bs s))/\a=bP s)\/
 (∃x c l,v=.iface 188 (.slice x l.length c)/\a=bB l/\PVs F w (.slice x l.length c) l):=by
 obtain⟨d,h⟩:=h;cases d with
 |zero=>exact h.elim
 |succ d=>
  rcases h with h|h|h|⟨o,l,i,e,j⟩
  ·exact d7 h
  ·exact d6 (d7 h)
  ·exact d6 (d6 (d7 h))
  ·refine d6 (d6 (d6 ?_));have f:PVs F w o l:=j.mono (λ_ _ h=>⟨d,h⟩) dP
   rcases j with ⟨rfl,rfl⟩|⟨g,k,m,rfl,_⟩
   ·exact⟨none,0,[],i,e,f⟩
   ·exact⟨_,_,l,i,e,f⟩
def qK(F:bY)(v:aQ)(a:aM)(w:aG)(h:PV F w v a):
 Calls prog 265 #[v] w λe d=>d=w/\((a.sort=1/\e=aX (.bool (decide (a.n=1))))\/(a.sort≠1/\e=fQ 2)):=by
 rcases h.cases with ⟨n,rfl,rfl,_,_⟩|⟨b,rfl,rfl⟩|⟨s,rfl,rfl⟩|⟨x,c,l,rfl,rfl,_⟩
 ·clear h;have q:=QS;go_in
  go_wp2_with fail;exact⟨rfl,rfl,d6 ⟨by simp[bH],rfl⟩⟩
 ·clear h;have q:=wJ;go_in
  go_wp2
  go_ret;exact⟨rfl,d7 ⟨rfl,by cases b<;>rfl⟩⟩
 ·clear h;have q:=AA;go_in
  go_wp2_with fail;exact⟨rfl,rfl,d6 ⟨by simp[bP],rfl⟩⟩
 ·clear h;have q:=wI;go_in
  go_wp2_with fail;exact⟨rfl,rfl,d6 ⟨by simp[bB],rfl⟩⟩
def mC(F:bY)(w:aG)(r:aM × Nat)(e:Ending)(w':aG):Prop:=w'=w/\((r.2=0/\∃u,e=aX u/\PV F w u r.1)\/(r.2≠0/\e=fQ r.2))
def mC.ok(b:r=(a,0))(h:PV F w u a):mC F w r (aX u) w:=by subst b;exact⟨rfl,d7 ⟨rfl,u,rfl,h⟩⟩
def mC.stop(c:r=(a,k))(b:k≠0):mC F w r (fQ k) w:=by subst c;exact⟨rfl,d6 ⟨b,rfl⟩⟩
def D5(n:Int): -9223372036854775808<=lO n/\lO n<=9223372036854775807:=by unfold lO;omega
def PV.wrap(F:bY)(w:aG)(n:Int):PV F w (.iface 183 (I_ (wrap64 n))) (bH (lO n)):=by
 rw[<-WA];exact PV.num F w _ (D5 n).1 (D5 n).2
def N1(op:cC)(F:bY)(x y:Int)(w:aG)(s: -9223372036854775808<=x)(q:x<=9223372036854775807)(v: -9223372036854775808<=y)(z:y<=9223372036854775807):
 Calls prog 270 #[.string (bs op),I_ x,I_ y] w (mC F w (jZ op x y)):=by
 have a:=cI op;obtain⟨r,b⟩:=E_ (jZ op x y);rw[<-b];unfold jZ at b;by_cases m:op=[43]
 ·rw[if_pos m] at b;have f:((bs op).toList==[60])=false:=by rw[a,m];rfl
  have g:((bs op).toList==[60,61])=false:=by rw[a,m];rfl
  have e:((bs op).toList==[43])=true:=by rw[a,m];rfl
  have d:((bs op).toList==[45])=false:=by rw[a,m];rfl
  have c:((bs op).toList==[42])=false:=by rw[a,m];rfl
  have h:=aB b;clear a b m;go_in
  go_wp2
  go_ret;exact mC.ok h (PV.wrap F w (x+y))
 rw[if_neg m] at b;have e:((bs op).toList==[43])=false:=by rw[a];simpa using m
 clear m;by_cases j:op=[45]
 ·rw[if_pos j] at b;have f:((bs op).toList==[60])=false:=by rw[a,j];rfl
  have g:((bs op).toList==[60,61])=false:=by rw[a,j];rfl
  have e:((bs op).toList==[43])=false:=by rw[a,j];rfl
  have d:((bs op).toList==[45])=true:=by rw[a,j];rfl
  have c:((bs op).toList==[42])=false:=by rw[a,j];rfl
  have h:=aB b;clear a b j;go_in
  go_wp2
  go_ret;exact mC.ok h (PV.wrap F w (x-y))
 rw[if_neg j] at b;have d:((bs op).toList==[45])=false:=by rw[a];simpa using j
 clear j;by_cases i:op=[42]
 ·rw[if_pos i] at b;have f:((bs op).toList==[60])=false:=by rw[a,i];rfl
  have g:((bs op).toList==[60,61])=false:=by rw[a,i];rfl
  have e:((bs op).toList==[43])=false:=by rw[a,i];rfl
  have d:((bs op).toList==[45])=false:=by rw[a,i];rfl
  have c:((bs op).toList==[42])=true:=by rw[a,i];rfl
  have h:=aB b;clear a b i;go_in
  go_wp2
  go_ret;exact mC.ok h (PV.wrap F w (x*y))
 rw[if_neg i] at b;have c:((bs op).toList==[42])=false:=by rw[a];simpa using i
 clear i;by_cases k:op=[60]
 ·rw[if_pos k] at b;have f:((bs op).toList==[60])=true:=by rw[a,k];rfl
  have g:((bs op).toList==[60,61])=false:=by rw[a,k];rfl
  have e:((bs op).toList==[43])=false:=by rw[a,k];rfl
  have d:((bs op).toList==[45])=false:=by rw[a,k];rfl
  have c:((bs op).toList==[42])=false:=by rw[a,k];rfl
  have h:=aB b;clear a b k;go_in
  go_wp2
  go_ret;exact mC.ok h (PV.tru F w (decide (x<y)))
 rw[if_neg k] at b;have f:((bs op).toList==[60])=false:=by rw[a];simpa using k
 clear k;by_cases l:op=[60,61]
 ·rw[if_pos l] at b;have f:((bs op).toList==[60])=false:=by rw[a,l];rfl
  have g:((bs op).toList==[60,61])=true:=by rw[a,l];rfl
  have e:((bs op).toList==[43])=false:=by rw[a,l];rfl
  have d:((bs op).toList==[45])=false:=by rw[a,l];rfl
  have c:((bs op).toList==[42])=false:=by rw[a,l];rfl
  have h:=aB b;clear a b l;go_in
  go_wp2
  go_ret;exact mC.ok h (PV.tru F w (decide (x<=y)))
 rw[if_neg l] at b;have g:((bs op).toList==[60,61])=false:=by rw[a];simpa using l
 clear l;by_cases o:y=0
 ·rw[if_pos o] at b;subst o;have h:=aB b;clear a b;go_in
  go_wp2_with fail;exact⟨rfl,mC.stop h d_⟩
 rw[if_neg o] at b;have A:(y==0)=false:=by simpa using o
 by_cases n:op=[47]
 ·rw[if_pos n] at b;have u:((bs op).toList==[47])=true:=by rw[a,n];rfl
  have h:=aB b;clear a b n;go_in
  go_wp2
  go_ret;exact mC.ok h (PV.wrap F w (x.tdiv y))
 ·rw[if_neg n] at b;have u:((bs op).toList==[47])=false:=by rw[a];simpa using n
  have p:=k9 x y s q;rw[I7 _ p.1 p.2] at b;have h:=aB b;have t:=aB p;clear a b n p;go_in
  go_wp2
  go_ret;exact mC.ok h (PV.num F w (x.tmod y) t.1 t.2)
def FF(o:UInt8)(z:o=45\/o=33)(F:Nat->Prop)(v:Value)(a:aM)(w:World)(h:PV F w v a):
 Calls prog 264 #[.string (bs [o]),v] w (mC F w (fW [o,120] a)):=by
 rcases z with rfl|rfl
 ·have A:((bs [45]).toList==[33])=false:=by rw[cI];rfl
  rcases h.cases with ⟨n,rfl,rfl,D,C⟩|⟨b,rfl,rfl⟩|⟨s,rfl,rfl⟩|⟨x,c,l,rfl,rfl,_⟩
  ·have p:=aB (Hs.oneL_neg (op:=[45,120]) (a:=bH n) rfl rfl);have q:=mF;clear h;generalize fW [45,120] (bH n)=r at*;go_enter func264,ntmps264;go_wp2_with fail;go_ret;exact mC.ok p.out (by have i:=PV.wrap F w (-n);rw[WA] at i;exact i)
  ·have q:=lE;clear h;go_enter func264,ntmps264;go_wp2_with fail;exact⟨rfl,mC.stop (a:=bS) (by unfold fW;simp[bV]) d_⟩
  ·have q:=mE;clear h;go_enter func264,ntmps264;go_wp2_with fail;exact⟨rfl,mC.stop (a:=bS) (by unfold fW;simp[bP]) d_⟩
  ·have q:=lC;clear h;go_enter func264,ntmps264;go_wp2_with fail;exact⟨rfl,mC.stop (a:=bS) (by unfold fW;simp[bB]) d_⟩
 ·have A:((bs [33]).toList==[33])=true:=by rw[cI];rfl
  have B:=aB (qK F v a w h);obtain⟨r,j⟩:=E_ (fW [33,120] a);rw[<-j];have k:=aB j
  have d:∃t u,v=.iface t u:=by
   rcases h.cases with ⟨n,rfl,_⟩|⟨b,rfl,_⟩|⟨s,rfl,_⟩|⟨x,c,l,rfl,_⟩<;>exact⟨_,_,rfl⟩
  obtain⟨t,u,rfl⟩:=d;have y:=aB h.cases;clear h j;go_enter func264,ntmps264;go_wp2_with fail;refine B.out.mono ?_;rintro e m ⟨rfl,⟨g,rfl⟩|⟨g,rfl⟩⟩
  ·have f:=aB g;clear g;go_wp2_with fail;go_ret;refine mC.ok (a:=bV (!decide (a.n=1))) ?_ (PV.tru F m (!decide (a.n=1)));rw[k.out];unfold fW;rw[if_neg s_,if_pos ⟨rfl,f.out⟩]
   rcases y.out with ⟨n,_,rfl,_⟩|⟨b,_,rfl⟩|⟨s,_,rfl⟩|⟨x,c,l,_,rfl,_⟩
   ·have:=f.out;simp[bH] at this
   ·cases b<;>rfl
   ·have:=f.out;simp[bP] at this
   ·have:=f.out;simp[bB] at this
  ·have f:=aB g;clear g;go_wp2_with fail;exact⟨rfl,mC.stop (a:=bS) (by rw[k.out];unfold fW;rw[if_neg s_,if_neg (λi=>f.out i.2)]) d_⟩
def PVs.get{x:Option Addr}{c:Nat}(h:PVs F w (.slice x n c) l)(i:Nat)(hi:i<l.length):∃g u,x=some (aH g 0)/\n=l.length/\F g/\g<w.heap.size/\l.length<=c/\w.cell? (aH g i)=some u/\PV F w u l[i]:=by
 rcases h with ⟨rfl,_⟩|⟨g,j,m,f,d,a,e,k⟩
 ·simp at hi
 ·cases f;obtain⟨u,b,o⟩:=k i hi;exact⟨g,u,rfl,rfl,d,aC a,e,aA a b,o⟩
def PV.form(h:PV F w v a):∃t u,v=.iface t u:=by
 rcases h.cases with ⟨n,rfl,_⟩|⟨b,rfl,_⟩|⟨s,rfl,_⟩|⟨x,c,l,rfl,_⟩<;>exact⟨_,_,rfl⟩
def PVs.keep{c:aQ}(h:PVs F w c l)(a:∀b,F b->w'.heap[b]?=w.heap[b]?):PVs F w' c l:=(VLr.mono h (λ_ _ h=>h.keep a) dP).keep a
def PVs.mono{a:aQ}(h:PVs F w a l)(c:∀b,F b->G b):PVs G w a l:=VLr.mono h (λ_ _ h=>h.mono c) c
def X9(n:Int):aO (bH n)=1:=by rw[fJ];simp[bH]
def X7(b:Bool):aO (bV b)=1:=by rw[fJ];simp[bV]
def lL(s:cC):aO (bP s)=1+s.length:=by rw[fJ];simp[bP]
def jN(l:List aM):aO (bB l)=1+(l.map aO).sum:=by rw[fJ];simp[bB]
def mQ(h:a∈l):aO a<=(l.map aO).sum:=by
 induction l with
 |nil=>cases h
 |cons x l b=>
  simp only[fg,fm];rcases eo.1 h with rfl|h
  ·omega
  ·have:=b h;omega
def uD(a:aM):1<=aO a:=by rw[fJ];omega
def kH(l:List aM):l.length<=(l.map aO).sum:=by
 induction l with
 |nil=>simp
 |cons x l a=>simp only[fg,fm,ep];have:=uD x;omega
def QK(F:bY)(k:Nat):Prop:=∀(v:aQ) (a:aM) (w:aG),PV F w v a->aO a<=k->k<=1000000000->Calls prog 259 #[v] w λe w'=>w'=w/\e=aX (I_ (aO a:Nat))
def SK(F:bY)(k:Nat)(f:QK F k):QK F (k+1):=by
 intro v a w h p O;rcases h.cases with ⟨n,rfl,rfl,P,M⟩|⟨b,rfl,rfl⟩|⟨s,rfl,rfl⟩|⟨x,c,l,rfl,rfl,E⟩
 ·have q:=oB;have G:=jT;rw[X9];clear h f p;go_in
  go_wp2
  go_ret;exact⟨rfl,rfl⟩
 ·have q:=lD;have G:=iJ;rw[X7];clear h f p;go_in
  go_wp2
  go_ret;exact⟨rfl,rfl⟩
 ·have q:=kX;have U:(bs s).size=s.length:=gJ s;rw[lL] at p ⊢
  clear h f;go_in
  go_wp2
  go_ret;exact⟨rfl,by go_num⟩
 ·have q:=mX;have G:=iI;have D:=kH l;rw[jN] at p ⊢
  have A:=aB f;have J:=aB E;clear h f E;go_in
  go_wp2_with fail;go_loopg [5,7,20] l.length (λgk s _ i wr=>∃j:Nat,j+gk=l.length/\i=I_ j/\s=I_ ((1+((l.map aO).take j).sum:Nat):Int)/\wr=w)
  case atStart=>exact⟨0,o_,rfl,rfl,rfl⟩
  case round=>
   obtain⟨j,W,rfl,rfl,rfl⟩:=hrel;by_cases d:j<l.length
   ·obtain⟨m,rfl⟩:∃m,gk=m+1:=⟨gk-1,o_⟩
    obtain⟨g,u,rfl,V,T,N,C,z,B⟩:=J.get j d;have o:l[j]∈l:=fo d;have H:=mQ o;have K:=aB (A u l[j] wr B o_ o_)
    obtain⟨t,S,rfl⟩:=B.form
    have r:((l.map aO).take (j+1)).sum=((l.map aO).take j).sum+aO l[j]:=by
     rw[gu (by simpa using d),io];simp only[List.getElem_map,fm,gh,Nat.add_zero]
    have I:((l.map aO).take (j+1)).sum<=(l.map aO).sum:=by
     have e:(l.map aO).sum=((l.map aO).take (j+1)++(l.map aO).drop (j+1)).sum:=by rw[g9]
     rw[e,io];omega
    generalize aO l[j]=Q at*;clear B;go_wp2_with fail;refine K.mono ?_;rintro e L ⟨rfl,rfl⟩;go_wp2
    go_roundg m
    case measure=>omega
    case rel=>exact⟨j+1,o_,by go_num,by rw[r];go_num,rfl⟩
   ·have y:j=l.length:=o_
    subst y;go_wp2
    go_ret;exact⟨rfl,by rw[gv s_];rfl⟩
def FL(F:bY):∀k,QK F k
 |0=>λv a w _ h=>by have:=uD a;omega
 |k+1=>SK F k (FL F k)
def nO(F:bY)(v:aQ)(a:aM)(w:aG)(h:PV F w v a)(g:aO a<=1000000000):
 Calls prog 258 #[v] w λe d=>d=w/\((aO a<=200/\e=aX v)\/(200<aO a/\e=fQ 6)):=by
 have b:=aB (FL F 1000000000 v a w h g cL);obtain⟨t,u,rfl⟩:=h.form;clear h;generalize aO a=n at*;by_cases f:n<=200
 ·have e:decide ((200:Int)<(n:Int))=false:=decide_eq_false o_
  go_in
  go_wp2_with fail;refine b.mono ?_;rintro e c ⟨rfl,rfl⟩;go_wp2
  go_ret;exact⟨rfl,d7 ⟨f,rfl⟩⟩
 ·have e:decide ((200:Int)<(n:Int))=true:=decide_eq_true o_
  go_in
  go_wp2_with fail;refine b.mono ?_;rintro e c ⟨rfl,rfl⟩;go_wp2_with fail;exact⟨rfl,rfl,d6 ⟨o_,rfl⟩⟩
def vU(F:bY)(v:aQ)(a:aM)(n:Nat)(w:aG)(h:PV F w v a)(_hn:n<=1000000000):
 Calls prog 262 #[v,I_ n] w λe g=>g=w/\((a.sort≠0/\e=fQ 2)\/(a.sort=0/\(a.n<0\/(n:Int)<=a.n)/\e=fQ 4)\/(a.sort=0/\∃k:Nat,k<n/\a.n=k/\e=aX (I_ k))):=by
 rcases h.cases with ⟨m,rfl,rfl,p,o⟩|⟨b,rfl,rfl⟩|⟨s,rfl,rfl⟩|⟨x,c,l,rfl,rfl,_⟩
 ·have q:=mF;clear h;by_cases f:m<0
  ·have j:decide (m<0)=true:=decide_eq_true f;go_in
   go_wp2_with fail;exact⟨rfl,rfl,d6 (d7 ⟨rfl,d7 f,rfl⟩)⟩
  have j:decide (m<0)=false:=decide_eq_false f;by_cases d:(n:Int)<=m
  ·have i:decide ((n:Int)<=m)=true:=decide_eq_true d;go_in
   go_wp2_with fail;exact⟨rfl,rfl,d6 (d7 ⟨rfl,d6 d,rfl⟩)⟩
  ·have i:decide ((n:Int)<=m)=false:=decide_eq_false d;go_in
   go_wp2
   go_ret;exact⟨rfl,d6 (d6 ⟨rfl,m.toNat,o_,by show m=_;omega,by rw[Int.toNat_of_nonneg o_];rfl⟩)⟩
 ·have q:=lE;clear h;go_in
  go_wp2_with fail;exact⟨rfl,rfl,d7 ⟨by simp[bV],rfl⟩⟩
 ·have q:=mE;clear h;go_in
  go_wp2_with fail;exact⟨rfl,rfl,d7 ⟨by simp[bP],rfl⟩⟩
 ·have q:=lC;clear h;go_in
  go_wp2_with fail;exact⟨rfl,rfl,d7 ⟨by simp[bB],rfl⟩⟩
def OG(F:bY)(x:Option Addr)(c:Nat)(l:List aM)(w:aG)(h:PVs F w (.slice x l.length c) l)(d:aO (bB l)<=1000000000):
 Calls prog 256 #[.slice x l.length c] w λe b=>b=w/\((aO (bB l)<=200/\e=aX (.iface 188 (.slice x l.length c)))\/(200<aO (bB l)/\e=fQ 6)):=by
 have f:=aB (nO F _ _ w (PV.lst h) d);clear h;generalize aO (bB l)=n at*;go_in
 go_wp2_with fail;refine f.mono ?_;rintro e g ⟨rfl,⟨a,rfl⟩|⟨a,rfl⟩⟩
 ·go_wp2
  go_ret;exact⟨rfl,d7 ⟨a,rfl⟩⟩
 ·go_wp2_with fail;exact⟨rfl,rfl,d6 ⟨a,rfl⟩⟩
noncomputable def LE(op:cC)(a b:cC):aM × Nat:=
 if op=[60] then (bV (iA a b),0)
 else if op=[60,61] then (bV (!iA b a),0)
 else if op=[43] then (if 200<aO (bP (a++b)) then (bS,6) else (bP (a++b),0))
 else (bS,2)
def M8(op:cC)(F:bY)(a b:cC)(w:aG)(p:a.length+b.length<=1000000):
 Calls prog 271 #[.string (bs op),.string (bs a),.string (bs b)] w (mC F w (LE op a b)):=by
 have c:=cI op;obtain⟨r,d⟩:=E_ (LE op a b);rw[<-d];unfold LE at d;by_cases g:op=[60]
 ·rw[if_pos g] at d;have o:((bs op).toList==[60])=true:=by rw[c,g];rfl
  have h:Hid (Op.bytesLess (bs a).toList (bs b).toList=iA a b):=by show _=_;rw[cI,cI,wG]
  have f:=aB d;clear c d g;generalize iA a b=s at*;go_in
  go_wp2
  go_ret;exact mC.ok f (by rw[<-h.out];exact PV.tru F w _)
 rw[if_neg g] at d;have o:((bs op).toList==[60])=false:=by rw[c];simpa using g
 by_cases i:op=[60,61]
 ·rw[if_pos i] at d;have u:((bs op).toList==[60,61])=true:=by rw[c,i];rfl
  have h:Hid ((Op.bytesLess (bs a).toList (bs b).toList || (bs a).toList==(bs b).toList)= !iA b a):=by show _=_;rw[cI,cI,wG,MO]
  have f:=aB d;clear c d g i;generalize iA b a=s at*;go_in
  go_wp2
  go_ret;exact mC.ok f (by rw[<-h.out];exact PV.tru F w _)
 rw[if_neg i] at d;have u:((bs op).toList==[60,61])=false:=by rw[c];simpa using i
 by_cases j:op=[43]
 ·rw[if_pos j] at d;have t:((bs op).toList==[43])=true:=by rw[c,j];rfl
  have k:=lL (a++b);have v:=aB (nO F (.iface 187 (.string (bs (a++b)))) _ w (PV.str F w (a++b)) (by rw[k,el];omega))
  have f:=aB d;have q:=gJ;clear c d g i j k;go_in
  go_wp2_with fail;refine v.mono ?_;rintro e n ⟨rfl,⟨l,rfl⟩|⟨l,rfl⟩⟩
  ·have m:Hid (r=(bP (a++b),0)):=by show _=_;rw[f.out,if_neg o_]
   clear l f;go_wp2
   go_ret;exact mC.ok m (PV.str F n (a++b))
  ·have m:Hid (r=(bS,6)):=by show _=_;rw[f.out,if_pos l]
   clear l f;go_wp2_with fail;exact⟨rfl,mC.stop m d_⟩
 ·rw[if_neg j] at d;have t:((bs op).toList==[43])=false:=by rw[c];simpa using j
  have f:=aB d;clear c d g i j;go_in
  go_wp2_with fail;exact⟨rfl,mC.stop f d_⟩
def oH:(prog.info? 136).map (λi=>(i.zero,i.size,i.bytes))=some (some .nilIface,1,16):=k_
def yY{P:Program}(w:aG)(t u r e:TypeId)(i:TypeInfo)(z:aQ)(j:P.underlying t=some (.slice e))(q:P.underlying u=some (.int .i64))(hi:P.info? e=some i)(o:i.zero=some z)(m:i.size=1)
 (n:Nat) (k:0<n) (s:n<=1000000000) (l:i.bytes<=64):
 (Builtin.append_ #[t,u] r #[bG,I_ n]).run P w=
   .ok (.slice (some (aH w.heap.size 0)) n (grownCap w n 0 e)) (w.drew.alloc (.cells (Builtin.zeroCells z.cells n++Builtin.zeroCells z.cells (grownCap w n 0 e-n)) e)):=by
 have g:n≠0:=o_
 have h:n*i.bytes<=1000000000*64:=Nat.mul_le_mul s l;have d:¬(281474976710656<Builtin.nextslicecap n 0*i.bytes):=by rw[nextslicecap_zero k];omega
 have f:¬(9223372036854775807<(n:Int)):=o_
 have p:IntKind.i64.wrap (n:Int)=n:=by
  rw[IntKind.wrap_i64];omega
 have c:¬(281474976710656<(n:Int)*(i.bytes:Int)):=by
  have:((n*i.bytes:Nat):Int)<=64000000000:=o_
  rw[Int.natCast_mul] at this;omega
 have b:¬((n:Int)<0):=o_
 have a:max (n:Int) 0=n:=o_
 simp[Builtin.append_,run_underlying j,run_underlying q,sizeOf,typeInfo,zeroValue,hi,o,m,p,asInt,asIntOf,b,a,g,f,d,c,Question.forced,run_firstCells_none,newRow,grownCap]
def uJ{P:Program}{c:Array Oper}{b:List Oper}{o:Oper}{a:Act}{Q:Exit->Act->World->Prop}(f:o.guard=none)(s x:Operand)(t u:TypeId)
 (q:o.op=.call { callee:=.builtin .append,args:= #[s,x],argTypes:= #[t,u] })
 (e:TypeId) (i:TypeInfo) (z:aQ) (g:P.underlying t=some (.slice e)) (r:P.underlying u=some (.int .i64)) (hi:P.info? e=some i) (p:i.zero=some z) (l:i.size=1)
 (n:Nat) (j:0<n) (A:n<=1000000000) (k:i.bytes<=64) (v:a.eval s=bG) (y:a.eval x=I_ n)
 (h:wpList P c Q b (a.put o.dst (.slice (some (aH w.heap.size 0)) n (grownCap w n 0 e))) (w.drew.alloc (.cells (Builtin.zeroCells z.cells n++Builtin.zeroCells z.cells (grownCap w n 0 e-n)) e))):wpList P c Q (o::b) a w:=by
 refine wpList_plain f λK m=>?_
 have d:=yY (P:=P) w t u o.type e i z g r hi p l n j A k;unfold Oper.wp;simp[execOp,q,resolve,invoke,builtin,v,y,d,Result.andThen];exact m _ _ h
def N2(n:Nat)(p:n<=1000000)(w:aG):
 Calls prog 275 #[bG,I_ n] w λe i=>∃v,e=aX v/\i.ownsRow w.heap.size 136 1 v 0 []/\Below w.heap.size w i:=by
 obtain⟨j,m,d,g,k⟩:=info_parts oH;rcases kf n with rfl|l
 ·go_in
  go_wp2
  go_ret;exact⟨_,rfl,World.ownsRow_nil _ _ _ _,eh _ _⟩
 ·have q:decide ((n:Int)<0)=false:=decide_eq_false o_
  have o:decide ((0:Int)<(n:Int))=true:=decide_eq_true o_
  have b:=grownCap_ge w n 0 136;have a:=grownCap_le_maxLen w n 0 136 (by unfold maxLen;omega)
  generalize c:grownCap w n 0 136=f at b a;have h:=aB c;clear c;go_in
  go_wp2_with (at_builtin;refine uJ r_ _ _ 188 3 r_ 136 j .nilIface underlying188 underlying3 m d g n l o_ o_ r_ r_ ?_;rw[h.out])
  go_ret;refine⟨_,rfl,⟨rfl,d6 ⟨w.heap.size,f,_,rfl,cL,aN _ _ rfl _,ft _,a,?_,rfl⟩⟩,?_⟩
  ·rw[Array.size_append,size_zeroCells,size_zeroCells];simp;omega
  ·exact((eh _ _).drew).alloc s_ _
def gP(F:bY)(w:aG)(xs:List Value)(l:List aM):Prop:=xs.length=l.length/\∀i (h:i<l.length),∃u,xs[i]?=some u/\PV F w u l[i]
def gP.nil(F:bY)(w:aG):gP F w [] []:=⟨rfl,λi h=>by simp at h⟩
def gP.keep(h:gP F w xs l)(a:∀b,F b->w'.heap[b]?=w.heap[b]?):gP F w' xs l:=
 ⟨h.1,λi e=>by obtain⟨u,d,c⟩:=h.2 i e;exact⟨u,d,c.keep a⟩⟩
def gP.mono(h:gP F w xs l)(e:∀b,F b->G b):gP G w xs l:=
 ⟨h.1,λi d=>by obtain⟨u,c,a⟩:=h.2 i d;exact⟨u,c,a.mono e⟩⟩
def gP.append{d:List Value}(h:gP F w xs l)(k:gP F w d m):gP F w (xs++d) (l++m):=by
 refine⟨by simp[h.1,k.1],λi f=>?_⟩
 rcases fu i l.length with a|a
 ·obtain⟨u,b,c⟩:=h.2 i a;exact⟨u,by rw[hQ (by rw[h.1];exact a)];exact b,by rw[jq a];exact c⟩
 ·have e:i-l.length<m.length:=by simp at f;omega
  obtain⟨u,b,c⟩:=k.2 _ e;exact⟨u,by rw[gl (by rw[h.1];exact a),h.1];exact b,by rw[km a];exact c⟩
def PVs.row{d:aQ}(h:PVs F w d l):(l=[]/\d=bG)\/∃g a k,d=.slice (some (aH g 0)) l.length a/\F g/\g<w.heap.size/\gP F w k l/\∀j u,k[j]?=some u->w.cell? (aH g j)=some u:=by
 rcases h with h|⟨g,a,b,q,o,m,t,f⟩
 ·exact d7 h
 ·have s:l.length<=b.size:=by
   rcases kf l.length with p|p
   ·omega
   ·obtain⟨u,e,_⟩:=f (l.length-1) o_
    have:=(ie.1 e).1;omega
  refine d6 ⟨g,a,b.toList.take l.length,q,o,aC m,⟨t_,λi n=>?_⟩,λj u c=>?_⟩
  ·obtain⟨u,e,r⟩:=f i n;exact⟨u,by rw[ga,if_pos n];simpa using e,r⟩
  ·rw[ga] at c;split at c
   ·exact aA m (by simpa using c)
   ·cases c
def PVs.ofRow(h:w.ownsRow b_ 136 1 v l.length xs)(p:gP F w xs l)(o:∀k,v.ownBlock=some k->F k):PVs F w v l:=by
 rcases h.2 with ⟨a,d⟩|⟨g,b,c,a,d,f,j,s,r,m⟩
 ·exact d7 ⟨gg d,a⟩
 ·refine d6 ⟨g,b,c,a,o g (by rw[a];rfl),f,j,λi q=>?_⟩
  obtain⟨u,e,n⟩:=p.2 i q;refine⟨u,?_,n⟩;rw[<-m,ga,if_pos o_] at e
  simpa using e
def qA(h:gP F w xs l):∀u∈xs,u.oneCell'=true:=by
 intro u c;obtain⟨j,b,rfl⟩:=List.mem_iff_getElem.1 c;obtain⟨f,a,d⟩:=h.2 j (by rw[<-h.1];exact b)
 rw[fh b] at a;cases a;obtain⟨t,z,e⟩:=d.form;rw[e];rfl
def ID{y:Array Oper}{i:List Oper}{o:Oper}{a:Act}{Q:Exit->Act->World->Prop}(r:o.guard=none)(s x:Operand)(t:TypeId)(G:prog.underlying t=some (.slice 136))
 (M:o.op=.call { callee:=.builtin .append,args:= #[s,x],argTypes:= #[t,t] })
 (b_:Nat) (v:aQ) (l m:List aM) (xs:List Value) (F:bY) (P:a.eval s=v) (c:w.ownsRow b_ 136 1 v l.length xs) (O:gP F w xs l)
 (N:aQ) (T:a.eval x=N) (U:PVs F w N m) (K:∀b,F b->b<w.heap.size/\v.ownBlock≠some b) (J:l.length+m.length<=1000000000) (n:b_<=w.heap.size)
 (h:∀A k z,k.ownsRow b_ 136 1 A (l++m).length z->gP F k z (l++m)->w.grownBy k v.ownBlock->wpList prog y Q i (a.put o.dst A) k):
 wpList prog y Q (o::i) a w:=by
 obtain⟨L,S,B,D,E⟩:=info_parts oH;rcases U.row with ⟨rfl,rfl⟩|⟨g,C,z,rfl,X,W,f,p⟩
 ·refine wpList_append_own_none r s x t M b_ 136 L 1 G S v l.length xs P c T ?_;exact h v w xs (by simpa using c) (by simpa using O) ⟨rfl,rfl,rfl,cL,λ_ _ _=>rfl⟩
 ·refine wpList_append_own _ r s x t M b_ 136 L _ 1 16 G S B D E rfl d_ v l.length xs P c (aH g 0) m.length C z T (by rw[f.1];omega) (λj u V=>by rw[Addr.add_lit,ge];exact p j u V) (qA f) (by unfold maxLen;omega) o_ n ?_
  intro A k q d _;have I:∀b,F b->k.heap[b]?=w.heap[b]?:=λb H=>d.block b (K b H).1 (λe=>(K b H).2 e.symm)
  exact h A k (xs++z) (by rw[el];exact q) ((O.keep I).append (f.keep I)) d
def pR(F:bY)(w:aG)(ls:List aM)(v:aQ)(wr:aG):Prop:=
 ∃ys,wr.ownsRow w.heap.size 136 1 v ls.length ys/\gP F wr ys ls/\Below w.heap.size w wr
def pR.step{wr:aG}{a:List aM}{v':aQ}{b:List Value}(h:pR F w a v wr)(g:w'.ownsRow w.heap.size 136 1 v' (a++m).length b)(i:gP F w' b (a++m))(d:wr.grownBy w' v.ownBlock):pR F w (a++m) v' w':=by
 obtain⟨l,f,j,c⟩:=h;refine⟨b,g,i,c.grown d c.size λk e=>?_⟩
 exact cT f k e
def dE{t:TypeId}{e:List Value}(h:w.ownsRow b_ t k v n e):∃x c,v=.slice x n c:=by
 rcases h.2 with ⟨a,b⟩|⟨g,f,d,a,_⟩
 ·exact⟨none,0,by rw[a,b]⟩
 ·exact⟨_,_,a⟩
def SI(F:Nat->Prop)(b:Nat)(x y:Option Addr)(c d:Nat)(l m:List aM)(w:World)(I:w.heap[b]?=some (.cells #[.slice x l.length c,.slice y m.length d] 188 (0,0)))(hl:PVs F w (.slice x l.length c) l)(hm:PVs F w (.slice y m.length d) m)(Z:∀k,F k->k<w.heap.size)(ac:l.length+m.length<=1000000):
 Calls prog 274 #[.slice (some ⟨b,0,none⟩) 2 2] w λe C=>∃D,e=.returned D/\pR F w (l++m) D C:=by
 have j:=aC I;have V:=aA I (i:=0) rfl;have W:=aA I (i:=1) rfl;have HL:=aB hl;have HM:=aB hm;have E:=aB Z;have Y:=aB (N2 (l.length+m.length) o_ w)
 have P:=aB I;clear hl hm Z I;go_enter func274,ntmps274;go_wp2_with fail;go_loopg [3,5,11] 2 (λgk s _ i wr=>wr=w/\((gk=2/\i=.int .i64 0/\s=.int .i64 0)\/(gk=1/\i=.int .i64 1/\s=.int .i64 (l.length:Nat))\/(gk=0/\i=.int .i64 2/\s=.int .i64 ((l.length+m.length:Nat):Int))))
 case atStart=>exact⟨rfl,d7 ⟨rfl,rfl,rfl⟩⟩
 case round=>
  obtain⟨hw,hrel⟩:=hrel;obtain rfl:=hw.symm;rcases hrel with ⟨rfl,rfl,rfl⟩|⟨rfl,rfl,rfl⟩|⟨rfl,rfl,rfl⟩
  ·have e:decide ((l.length:Int)<0)=false:=decide_eq_false o_
   go_wp2_with fail;go_roundg 1
   case measure=>omega
   case rel=>exact⟨rfl,d6 (d7 ⟨rfl,rfl,rfl⟩)⟩
  ·have e:decide ((l.length:Int)+(m.length:Int)<0)=false:=decide_eq_false o_
   go_wp2_with fail;go_roundg 0
   case measure=>omega
   case rel=>exact⟨rfl,d6 (d6 ⟨rfl,rfl,s_⟩)⟩
  ·go_wp2_with fail;refine Y.out.mono ?_;rintro e w1 ⟨v1,rfl,h,N⟩
   obtain⟨x1,T,rfl⟩:∃x c,v1=.slice x 0 c:=by
    rcases h.2 with ⟨S,_⟩|⟨g,aa,ab,S,_⟩
    ·exact⟨none,0,S⟩
    ·exact⟨_,_,S⟩
   have O:Hid (pR F w [] (.slice x1 0 T) w1):=⟨[],h,gP.nil _ _,N⟩;clear h N Y V W;go_wp2_with fail;go_loopg [6,8,27] 2 (λgk s _ i U=>(gk=2/\i=.int .i64 0/\pR F w [] s U)\/(gk=1/\i=.int .i64 1/\pR F w l s U)\/(gk=0/\i=.int .i64 2/\pR F w (l++m) s U))
   case atStart=>exact d7 ⟨rfl,rfl,O.out⟩
   case round=>
    rcases hrel with ⟨rfl,rfl,A⟩|⟨rfl,rfl,A⟩|⟨rfl,rfl,A⟩
    ·have u:=A;obtain⟨Q,n,M,a⟩:=A;obtain⟨G,H,rfl⟩:=dE n;have V:wr.cell? ⟨b,0,none⟩=some (.slice x l.length c):=aA ((a.block b j).trans P.out) rfl;have W:wr.cell? ⟨b,1,none⟩=some (.slice y m.length d):=aA ((a.block b j).trans P.out) rfl;have J:b<wr.heap.size:=ej j a.size;have L:=aB n;have K:=aB M;have t:=aB a;have r:=aB u;have q:=aB (HL.out.keep (w':=wr) λk z=>a.block k (E.out k z))
     have v:Hid (∀k,F k->k<wr.heap.size/\(Value.slice G ([]:List aM).length H).ownBlock≠some k):=λk z=>⟨ej (E.out k z) a.size,λe=>by have:=cT n k e;have:=E.out k z;omega⟩
     clear n M a u O;go_wp2_with (at_builtin;refine ID r_ _ _ 188 underlying188 r_ w.heap.size (.slice G ([]:List aM).length H) ([]:List aM) l Q F r_ L.out K.out _ r_ q.out v.out (by first|omega|(simp;omega)) t.out.size ?_)
     intro D C X f o p;have B:Hid (pR F w (([]:List aM)++l) D C):=r.out.step (by first|exact f|(rw[el];exact f)) o p
     obtain⟨x',c',rfl⟩:=dE f;clear f o p L K q v t r;go_wp2_with fail;go_roundg 1
     case measure=>omega
     case rel=>exact d6 (d7 ⟨rfl,rfl,by simpa using B.out⟩)
    ·have u:=A;obtain⟨Q,n,M,a⟩:=A;obtain⟨G,H,rfl⟩:=dE n;have V:wr.cell? ⟨b,0,none⟩=some (.slice x l.length c):=aA ((a.block b j).trans P.out) rfl;have W:wr.cell? ⟨b,1,none⟩=some (.slice y m.length d):=aA ((a.block b j).trans P.out) rfl;have J:b<wr.heap.size:=ej j a.size;have L:=aB n;have K:=aB M;have t:=aB a;have r:=aB u;have q:=aB (HM.out.keep (w':=wr) λk z=>a.block k (E.out k z))
     have v:Hid (∀k,F k->k<wr.heap.size/\(Value.slice G (l).length H).ownBlock≠some k):=λk z=>⟨ej (E.out k z) a.size,λe=>by have:=cT n k e;have:=E.out k z;omega⟩
     clear n M a u O;go_wp2_with (at_builtin;refine ID r_ _ _ 188 underlying188 r_ w.heap.size (.slice G (l).length H) (l) m Q F r_ L.out K.out _ r_ q.out v.out (by first|omega|(simp;omega)) t.out.size ?_)
     intro D C X f o p;have B:Hid (pR F w (l++m) D C):=r.out.step (by first|exact f|(rw[el];exact f)) o p
     obtain⟨x',c',rfl⟩:=dE f;clear f o p L K q v t r;go_wp2_with fail;go_roundg 0
     case measure=>omega
     case rel=>exact d6 (d6 ⟨rfl,rfl,B.out⟩)
    ·have HC:=aB A;obtain⟨Q,n,_⟩:=A;obtain⟨G,H,rfl⟩:=dE n;clear n O;go_wp2_with fail;go_ret;exact⟨_,rfl,HC.out⟩
def fD(F:bY)(w:aG)(r:aM × Nat)(e:Ending)(w':aG):Prop:=Below w.heap.size w w'/\((r.2=0/\∃u,e=aX u/\PV (Grow F w w') w' u r.1)\/(r.2≠0/\e=fQ r.2))
def fD.ok(c:Below w.heap.size w w')(b:r=(a,0))(h:PV (Grow F w w') w' u a):fD F w r (aX u) w':=by subst b;exact⟨c,d7 ⟨rfl,u,rfl,h⟩⟩
def fD.stop(d:Below w.heap.size w w')(c:r=(a,k))(b:k≠0):fD F w r (fQ k) w':=by subst c;exact⟨d,d6 ⟨b,rfl⟩⟩
noncomputable def zD(op:cC)(l m:List aM):aM × Nat:=if op=[43] then (if 200<aO (bB (l++m)) then (bS,6) else (bB (l++m),0)) else (bS,2)
def XQ(op:cC)(F:bY)(x y:Option Addr)(c d:Nat)(l m:List aM)(w:aG)(E:PVs F w (.slice x l.length c) l)(G:PVs F w (.slice y m.length d) m)(s:∀k,F k->k<w.heap.size)(P:aO (bB l)+aO (bB m)<=1000000):
 Calls prog 272 #[.string (bs op),.slice x l.length c,.slice y m.length d] w (fD F w (zD op l m)):=by
 have a:=cI op;obtain⟨r,h⟩:=E_ (zD op l m);rw[<-h];unfold zD at h;by_cases i:op=[43]
 ·rw[if_pos i] at h;have I:((bs op).toList==[43])=true:=by rw[a,i];rfl
  have D:((bs op).toList != [43])=false:=by rw[a,i];rfl
  have J:=kH l;have M:=kH m;rw[jN,jN] at P;have N:aO (bB (l++m))=1+((l.map aO).sum+(m.map aO).sum):=by rw[jN,gi,io]
  have b:Below w.heap.size w (w.alloc (.cells #[.slice x l.length c,.slice y m.length d] 188)):=(eh _ _).alloc cL _;have H:=aB (SI F w.heap.size x y c d l m (w.alloc (.cells #[.slice x l.length c,.slice y m.length d] 188)) (aN _ _ rfl _) (E.keep λk f=>b.block k (s k f)) (G.keep λk f=>b.block k (s k f)) (λk f=>ej (s k f) b.size) o_)
  have j:=aB b;have p:=aB h;clear a h i E G s b;go_in
  go_wp2_with fail;refine H.mono ?_;rintro e z ⟨Q,rfl,S,t,q,v⟩;obtain⟨O,K,rfl⟩:=dE t;have g:=j.trans (v.mono j.size);have o:PVs (Grow F w z) z (.slice O (l++m).length K) (l++m):=PVs.ofRow t (q.mono λk f=>d7 f) λk f=>d6 ⟨by have:=cT t k f;have:=j.size;omega,cQ t k f⟩
  have L:=aB (nO (Grow F w z) _ _ z (PV.lst o) o_)
  have B:=aB o;have u:=aB g;clear t q v g o H;generalize (l++m).length=n at*;go_wp2_with fail;refine L.mono ?_;rintro e T ⟨rfl,⟨A,rfl⟩|⟨A,rfl⟩⟩
  ·have C:Hid (r=(bB (l++m),0)):=by show _=_;rw[p.out,if_neg o_]
   clear A p;go_wp2
   go_ret;exact fD.ok u C (PV.lst B)
  ·have C:Hid (r=(bS,6)):=by show _=_;rw[p.out,if_pos A]
   clear A p;go_wp2_with fail;exact⟨rfl,fD.stop u C d_⟩
 ·rw[if_neg i] at h;have I:((bs op).toList==[43])=false:=by rw[a];simpa using i
  have D:((bs op).toList != [43])=true:=by rw[a];simpa using i
  have p:=aB h;clear a h i E G s;go_in
  go_wp2_with fail;exact⟨rfl,fD.stop (eh _ _) p d_⟩
def jH{a:Addr}(o:Obj)(h:w.cell? a=some v):(w.alloc o).cell? a=some v:=by
 have b:=World.block_lt_of_cell? w a h;rw[<-h];exact World.cell?_of_block (ek _ _ _ b)
def KK(g h n c:Nat)(b:List Value)(w:World)(C:b.length=n*1)(H:n<=1000000)(s:∀j u,b[j]?=some u->w.cell? ⟨g,h+j,none⟩=some u)(y:∀u∈b,u.oneCell'=true):
 Calls prog 287 #[.slice (some ⟨g,h,none⟩) n c] w λe r=>∃m,e=.returned m/\r.ownsRow w.heap.size 136 1 m n b/\Below w.heap.size w r:=by
 obtain⟨A,D,o,p,q⟩:=info_parts oH;have z:=aB s;clear s;have x:∀(w:World) (a:Option Addr) (n c l i:Nat),(binOp .eql 188 (.slice a n c) (.slice none l i)).run prog w=.ok (.bool a.isNone) w:=λw a n c l i=>Lib.run_eql_slice_nil w _ _ a n c l i underlying188
 go_enter func287,ntmps287;go_wp2_with (at_builtin;refine wpList_append_own _ r_ _ _ 188 r_ w.heap.size 136 A _ 1 16 underlying188 D o p q rfl d_ (.slice (some ⟨w.heap.size,0,none⟩) 0 0) 0 [] r_ (World.ownsRow_made w #[] 0 (en _) (ft _) s_) ⟨g,h,none⟩ n c b r_ C (λj u E=>by rw[Addr.add_lit];exact jH _ (z.out j u E)) y (by unfold maxLen;omega) o_ s_ ?_)
 intro m F d f _;have B:=aB d;have v:=aB f;obtain⟨G,i,rfl⟩:=dE d;clear d f;go_wp2_with fail;go_ret;refine⟨_,rfl,by simpa using B.out,?_⟩
 exact((eh _ w).alloc (en _) _).grown v.out s_ (by intro k t;simp[Value.ownBlock] at t;omega)
def uV(g h n c:Nat)(b:List Value)(w:World)(C:b.length=n*1)(H:n<=1000000)(s:∀j u,b[j]?=some u->w.cell? ⟨g,h+j,none⟩=some u)(y:∀u∈b,u.oneCell'=true):
 Calls prog 151 #[.slice (some ⟨g,h,none⟩) n c] w λe r=>∃m,e=.returned m/\r.ownsRow w.heap.size 136 1 m n b/\Below w.heap.size w r:=by
 obtain⟨A,D,o,p,q⟩:=info_parts oH;have z:=aB s;clear s;have x:∀(w:World) (a:Option Addr) (n c l i:Nat),(binOp .eql 116 (.slice a n c) (.slice none l i)).run prog w=.ok (.bool a.isNone) w:=λw a n c l i=>Lib.run_eql_slice_nil w _ _ a n c l i underlying116
 go_enter func151,ntmps151;go_wp2_with (at_builtin;refine wpList_append_own _ r_ _ _ 116 r_ w.heap.size 136 A _ 1 16 underlying116 D o p q rfl d_ (.slice (some ⟨w.heap.size,0,none⟩) 0 0) 0 [] r_ (World.ownsRow_made w #[] 0 (en _) (ft _) s_) ⟨g,h,none⟩ n c b r_ C (λj u E=>by rw[Addr.add_lit];exact jH _ (z.out j u E)) y (by unfold maxLen;omega) o_ s_ ?_)
 intro m F d f _;have B:=aB d;have v:=aB f;obtain⟨G,i,rfl⟩:=dE d;clear d f;go_wp2_with fail;go_ret;refine⟨_,rfl,by simpa using B.out,?_⟩
 exact((eh _ w).alloc (en _) _).grown v.out s_ (by intro k t;simp[Value.ownBlock] at t;omega)
def uU(w:aG):
 Calls prog 151 #[bG] w λe f=>e=aX (bG)/\f=w:=by
 have g:∀(w:aG) (a:Option Addr) (n c b d:Nat),(binOp .eql 116 (.slice a n c) (.slice none b d)).run prog w=.ok (.bool a.isNone) w:=λw a n c b d=>Lib.run_eql_slice_nil w _ _ a n c b d underlying116
 go_in
 go_wp2
 go_ret;exact⟨rfl,rfl⟩
def IxR(F:bY)(w:aG)(sv:aQ)(l:List aM):Prop:=
 (l=[]/\∃x c,sv=.slice x 0 c)\/∃g o c,sv=.slice (some (aH g o)) l.length c/\l.length<=c/\g<w.heap.size/\∀i (h:i<l.length),∃u,w.cell? (aH g (o+i))=some u/\PV F w u l[i]
def xR{i:aM}{c:List aM}:cW (i::c) a b=if a.sort≠3\/i.sort≠0 then (bS,2) else if i.n<0\/(a.l.length:Int)<=i.n then (bS,4) else if (cW c (a.l.getD i.n.toNat bS) b).2≠0 then (bS,(cW c (a.l.getD i.n.toNat bS) b).2) else (bB (a.l.set i.n.toNat (cW c (a.l.getD i.n.toNat bS) b).1),0):=by
 rw[cW]
def bz_{g a:Nat}{t:TypeId}{e:List Value}(h:w.ownsRow b_ t 1 (.slice (some (aH g 0)) n a) n e)(_hk:k<n):
 (w.setCell (aH g k) u).ownsRow b_ t 1 (.slice (some (aH g 0)) n a) n (e.set k u):=by
 rcases h.2 with ⟨b,_⟩|⟨p,d,c,b,o,f,j,m,i,l⟩
 ·cases b
 ·cases b;refine⟨by rw[im];exact h.1,d6 ⟨g,a,c.setIfInBounds k u,rfl,o,?_,j,m,by simpa using i,?_⟩⟩
  ·rw[aK f]
  ·rw[<-l,jy,jz]
def gP.set(h:gP F w xs l)(k:Nat)(e:PV F w u a):gP F w (xs.set k u) (l.set k a):=by
 refine⟨by simp[h.1],λi c=>?_⟩
 rw[im] at c;by_cases b:k=i
 ·subst b;exact⟨u,by rw[List.getElem?_set_self (by rw[h.1];exact c)],by rw[List.getElem_set_self];exact e⟩
 ·obtain⟨v,d,f⟩:=h.2 i c;exact⟨v,by rw[List.getElem?_set_ne b];exact d,by rw[List.getElem_set_ne b];exact f⟩
def o8{w1 d:aG}{c c1:Nat}{g:TypeId}{u2:aQ}{o:aM}(f:Below w.heap.size w w1)(s:Below w1.heap.size w1.drew d)
 (b:w1.ownsRow w.heap.size 136 1 (.slice (some (aH c 0)) m.length c1) m.length xs) (E:gP F w xs m) (C:PV (Grow F w1.drew d) d (.iface g u2) o) (a:r=(bB (m.set k o),0)) (x:∀q,F q->q<w.heap.size) (A:k<m.length):
 fD F w r (aX (.iface 188 (.slice (some (aH c 0)) m.length c1))) (d.setCell (aH c k) (.iface g u2)):=by
 have h:w.heap.size<=c:=cT b c rfl;have y:c<w1.heap.size:=cQ b c rfl;have e:Below w1.heap.size w1 d:=((eh _ w1).drew).trans s;have B:w1.heap.size<=d.heap.size:=e.size;have D:w.heap.size<=w1.heap.size:=f.size;have z:Below w.heap.size w d:=f.trans (e.mono f.size);have n:Below w.heap.size w (d.setCell (aH c k) (.iface g u2)):=z.setCell h _;have v:d.ownsRow w.heap.size 136 1 (.slice (some (aH c 0)) m.length c1) m.length xs:=aY b λq a=>e.block q (cQ b q a)
 have p:=bz_ (u:=.iface g u2) v A;have j:(d.setCell (aH c k) (.iface g u2)).heap.size=d.heap.size:=s_
 refine fD.ok n a (PV.lst ?_);have i:(m.set k o).length=m.length:=im;have:=PVs.ofRow (F:=Grow F w (d.setCell (aH c k) (.iface g u2))) (l:=m.set k o) (by rw[i];exact p) ?_ ?_
 ·exact this
 ·refine gP.set ((E.keep λq a=>n.block q (x q a)).mono λq a=>d7 a) k ?_
  refine(C.keep λq a=>?_).mono λq a=>?_
  ·refine ei _ _ _ _ ?_;show q≠c
   rcases a with a|⟨a,_⟩
   ·have:=x q a;omega
   ·have:w1.heap.size<=q:=a;omega
  ·rcases a with a|⟨a,t⟩
   ·exact d7 a
   ·refine d6 ⟨?_,by rw[j];exact t⟩
    have:w1.heap.size<=q:=a;omega
 ·intro q a;obtain rfl:c=q:=Option.some.inj a;exact d6 ⟨h,by rw[j];omega⟩
def uH(F:bY)(l:List aM):Prop:=∀(sv u v:aQ) (a b:aM) (w:aG),IxR F w sv l->PV F w u a->PV F w v b->(∀k,F k->k<w.heap.size)->aO a<=400000->l.length<=1000000->
 Calls prog 286 #[u,sv,v] w (fD F w (cW l a b))
def PO(F:bY):uH F []:=by
 intro k u v a b w f e d j q p
 obtain⟨x,c,rfl⟩:∃x c,k=.slice x 0 c:=by
  rcases f with ⟨_,x,c,h⟩|⟨g,o,c,h,_⟩
  ·exact⟨x,c,h⟩
  ·exact⟨_,_,h⟩
 have l:=aB d;obtain⟨t,z,rfl⟩:=e.form;obtain⟨m,n,rfl⟩:=d.form;clear f e d j;go_in
 go_wp2
 go_ret;exact fD.ok (eh _ _) rfl (l.mono λ_ i=>d7 i)
def PP(F:Nat->Prop)(i:aM)(l:List aM)(IH:∀F,uH F l):uH F (i::l):=by
 intro sv u v a b w hi hu hv hF hc hl;simp only[ep] at hl
 obtain⟨g,o,c,rfl,be,hg,f⟩:∃g o c,sv=.slice (some ⟨g,o,none⟩) (l.length+1) c/\l.length+1<=c/\g<w.heap.size/\∀j (h:j<(i::l).length),∃u,w.cell? ⟨g,o+j,none⟩=some u/\PV F w u (i::l)[j]:=by
  rcases hi with ⟨h,_⟩|⟨g,o,c,h1,K,h3,h4⟩
  ·cases h
  ·exact⟨g,o,c,h1,K,h3,h4⟩
 obtain⟨ui,ci,C⟩:=f 0 s_
 simp only[Nat.add_zero,kn] at ci C;have bf:(((l.length+1:Nat):Int)==0)=false:=t_
 obtain⟨r,O⟩:=E_ (cW (i::l) a b);rw[<-O];rw[xR] at O;obtain⟨t',z',rfl⟩:=hv.form;obtain⟨ti,zi,rfl⟩:=C.form;have d:a.sort≠3->Hid (r=(bS,2)):=λh=>by show _=_;rw[O,if_pos (d7 h)]
 rcases hu.cases with ⟨n,rfl,rfl,_,_⟩|⟨s,rfl,rfl⟩|⟨s,rfl,rfl⟩|⟨x,cx,m,rfl,rfl,hm⟩
 ·have M:=d (by simp[bH])
  have q:=jT;clear hu hv hi hF f C O d IH;go_enter func286,ntmps286;go_wp2_with fail;exact⟨rfl,fD.stop (eh _ _) M.out d_⟩
 ·have M:=d (by simp[bV])
  have q:=iJ;clear hu hv hi hF f C O d IH;go_enter func286,ntmps286;go_wp2_with fail;exact⟨rfl,fD.stop (eh _ _) M.out d_⟩
 ·have M:=d (by simp[bP])
  have q:=lB;clear hu hv hi hF f C O d IH;go_enter func286,ntmps286;go_wp2_with fail;exact⟨rfl,fD.stop (eh _ _) M.out d_⟩
 ·have q:=iI;have bk:=kH m;rw[jN] at hc;have ai:=aB (vU F _ i m.length w C o_)
  have HR:=aB O;have HM:=aB hm;have HV:=aB hv;have HF:=aB hF;have af:=aB f;have ab:=aB IH;clear hu hv hi hF f C O d IH hm;go_enter func286,ntmps286;go_wp2_with fail;refine ai.out.mono ?_;rintro e D ⟨Z,⟨K,rfl⟩|⟨K,h3,rfl⟩|⟨K,k,G,P,rfl⟩⟩
  ·obtain rfl:=Z.symm;have M:Hid (r=(bS,2)):=by show _=_;rw[HR.out,if_pos (d6 K)]
   clear K Z;go_wp2_with fail;exact⟨rfl,fD.stop (eh _ _) M.out d_⟩
  ·obtain rfl:=Z.symm;have M:Hid (r=(bS,4)):=by show _=_;rw[HR.out,if_neg (by simp[bB,K]),if_pos (show i.n<0\/((bB m).l.length:Int)<=i.n from h3)]
   clear K h3 Z;go_wp2_with fail;exact⟨rfl,fD.stop (eh _ _) M.out d_⟩
  ·obtain rfl:=Z.symm;obtain⟨gm,bl,ar,_⟩:=HM.out.get k G;rcases HM.out.row with ⟨rfl,_⟩|⟨bc,bh,xs,aw,bb,bi,B,E⟩
   ·simp at G
   cases aw;obtain⟨uk,ac,V⟩:=B.2 k G;have am:=aB (KK bc 0 m.length cx xs w (by rw[B.1];omega) o_ (λj u hj=>by rw[ge];exact E j u hj) (qA B))
   have av:aO m[k]<=400000:=by have:=mQ (fo G);omega
   have J:Hid (r=if (cW l m[k] b).2≠0 then (bS,(cW l m[k] b).2) else (bB (m.set k (cW l m[k] b).1),0)):=by
    show _=_
    have ag:i.n.toNat=k:=by rw[P];rfl
    have an:(bB m).l.getD i.n.toNat bS=m[k]:=by rw[ag];show m.getD k bS=_;show (m[k]?).getD bS=_;rw[fh G];rfl
    rw[HR.out,if_neg (by simp[bB,K]),if_neg (by show ¬(i.n<0\/((bB m).l.length:Int)<=i.n);rw[P];show ¬((k:Int)<0\/(m.length:Int)<=k);omega),an,ag]
    rfl
   obtain⟨tk,zk,rfl⟩:=V.form;have ao:=aB B;have ah:=aB V;have al:=aB ac;clear Z K P HR ai E B V ac bb ar;go_wp2_with fail;refine am.out.mono ?_;rintro e D ⟨v1,rfl,I,L⟩;rcases I.2 with ⟨r1,r2⟩|⟨g1,c1,ap,rfl,bj,z,ba,az,ax,ak⟩
   ·omega
   have N:ap[k]?=some (.iface tk zk):=by
    have:=al.out;rw[<-ak,ga,if_pos o_] at this
    simpa using this
   have d0:D.cell? ⟨g1,k,none⟩=some (.iface tk zk):=aA z N;have aj:=aC z;have au:Hid (∀q,F q->q<D.drew.heap.size):=λq hq=>ej (HF.out q hq) L.size
   have y:Below w.heap.size w D.drew:=L.drew;obtain⟨Y,ae⟩:∃Y:Option Addr,(if c=1 then some (⟨g,o,none⟩:Addr) else some ⟨g,o+1,none⟩)=Y:=⟨_,rfl⟩
   have aa:IxR F D.drew (.slice Y l.length (c-1)) l:=by
    by_cases h1:c=1
    ·have ht:l=[]:=ja.1 o_
     exact d7 ⟨ht,_,_,by rw[ht];rfl⟩
    ·rw[if_neg h1] at ae;subst ae;refine d6 ⟨g,o+1,c-1,rfl,o_,ej hg y.size,λj hj=>?_⟩
     obtain⟨u,e1,e2⟩:=af.out (j+1) t_
     rw[show o+(j+1)=o+1+j by omega] at e1
     exact⟨u,by rw[y.cell (p:=⟨g,o+1+j,none⟩) hg];exact e1,e2.keep λk G=>y.block k (HF.out k G)⟩
   have bm:(1:Int)<=(l.length:Int)+1:=o_
   have bg:(l.length:Int)+1<=(c:Int):=o_
   have HX:=aB (ab.out F (.slice Y l.length (c-1)) (.iface tk zk) (.iface t' z') m[k] b D.drew aa (ah.out.keep λk G=>y.block k (HF.out k G)) (HV.out.keep λk G=>y.block k (HF.out k G)) au.out av o_)
   generalize cW l m[k] b=X at HX J;have HOWN:=aB I;have HBLK:=aB z;have U:=aB L;clear I z L y aa am ab af ah ax ak ba az al;by_cases Q:X.2=0
   ·have T:Hid (Calls prog 286 #[.iface tk zk,.slice Y l.length (c-1),.iface t' z'] D.drew λe w'=>Below D.heap.size D.drew w'/\∃t2 u2,e=.returned (.iface t2 u2)/\PV (Grow F D.drew w') w' (.iface t2 u2) X.1):=by
     refine HX.out.mono ?_;rintro e W ⟨A,⟨_,u2,rfl,H⟩|⟨S,rfl⟩⟩
     ·obtain⟨t2,z2,rfl⟩:=H.form;exact⟨A,t2,z2,rfl,H⟩
     ·exact absurd Q S
    have HQ:Hid (r=(bB (m.set k X.1),0)):=by show _=_;rw[J.out,if_neg (by simp[Q])]
    clear HX J Q;go_wp2_with fail;go_region_law (go_simp;go_at_call 286;refine T.out.mono ?_;rintro e W ⟨A,t2,u2,rfl,H⟩;have t:=(A.block g1 aj).trans HBLK.out;have d2:=aA t N;have bn:=aD t (i:=k);have bd:=aC t;have aq:=aB H;have ay:=aB A;have HBLK2:=aB t;clear H A t)
    all_goals
     go_wp2_with fail;go_ret;exact o8 U.out ay.out HOWN.out ao.out aq.out HQ.out HF.out G
   ·have T:Hid (Calls prog 286 #[.iface tk zk,.slice Y l.length (c-1),.iface t' z'] D.drew λe w'=>Below D.heap.size D.drew w'/\e=fQ X.2):=by
     refine HX.out.mono ?_;rintro e W ⟨A,⟨S,_⟩|⟨_,rfl⟩⟩
     ·exact absurd S Q
     ·exact⟨A,rfl⟩
    have HQ:Hid (r=(bS,X.2)):=by show _=_;rw[J.out,if_pos Q]
    have HS:Hid (∀W,Below D.heap.size D.drew W->fD F w r (fQ X.2) W):=λW h=>fD.stop (U.out.drew.trans (h.mono U.out.size)) HQ.out Q
    clear HX J Q;go_wp2_with fail;go_region_dies
    all_goals (refine T.out.mono ?_;rintro e W ⟨A,rfl⟩;exact⟨rfl,HS.out _ A⟩)
def BA:∀(l:List aM) (F:bY),uH F l
 |[],F=>PO F
 |i::l,F=>PP F i l (BA l)
def X8(l:List aM)(k:Nat)(x:aM):((l.set k x).map aO).sum<=(l.map aO).sum+aO x:=by
 induction l generalizing k with
 |nil=>simp
 |cons a l b=>
  cases k with
  |zero=>simp only[List.set_cons_zero,fg,fm];omega
  |succ k=>simp only[ki,fg,fm];have:=b k;omega
def vA:∀(l:List aM) (a b:aM),aO (cW l a b).1<=(l.length+1)*(aO a+aO b+1)
 |[],a,b=>by rw[cW];simp;omega
 |i::l,a,b=>by
  rw[xR];have c:aO bS=1:=by rw[fJ];simp[bS]
  have d:1<=((i::l).length+1)*(aO a+aO b+1):=Nat.mul_pos s_ o_
  repeat' split
  ·rw[c];exact d
  ·rw[c];exact d
  ·rw[c];exact d
  ·rename_i p n q;have f:i.n.toNat<a.l.length:=o_
   have k:a.l.getD i.n.toNat bS=a.l[i.n.toNat]:=by show (a.l[i.n.toNat]?).getD bS=_;rw[fh f];rfl
   have h:=vA l (a.l.getD i.n.toNat bS) b;have g:=mQ (fo f);have j:=fJ a;rw[jN];have e:=X8 a.l i.n.toNat (cW l (a.l.getD i.n.toNat bS) b).1;rw[k] at h e ⊢
   have m:(l.length+1)*(aO a.l[i.n.toNat]+aO b+1)<=(l.length+1)*(aO a+aO b+1):=Nat.mul_le_mul_left _ o_
   have o:((i::l).length+1)*(aO a+aO b+1)=(l.length+1)*(aO a+aO b+1)+(aO a+aO b+1):=by simp only[ep];rw[Nat.succ_mul]
   omega
def SJ(F:bY)(l:List aM)(y u v:aQ)(a b:aM)(w:aG)(hi:IxR F w y l)(D:PV F w u a)(E:PV F w v b)(H:∀k,F k->k<w.heap.size)(K:aO a<=400)(I:aO b<=400)(S:l.length<=100000):
 Calls prog 285 #[u,y,v] w (fD F w (oO a l b)):=by
 have C:=vA l a b;have J:(l.length+1)*(aO a+aO b+1)<=100001*801:=Nat.mul_le_mul o_ o_
 have B:=aB (BA l F y u v a b w hi D E H o_ o_)
 obtain⟨r,A⟩:=E_ (oO a l b);rw[<-A];unfold oO iS at A;have q:=aB A
 obtain⟨x,c,rfl⟩:∃x c,y=.slice x l.length c:=by
  rcases hi with ⟨rfl,x,c,h⟩|⟨g,o,c,h,_⟩
  ·exact⟨x,c,h⟩
  ·exact⟨_,_,h⟩
 obtain⟨t,z,rfl⟩:=D.form;obtain⟨N,O,rfl⟩:=E.form;generalize cW l a b=p at B q C;clear hi D E H A;go_in
 go_wp2_with fail;refine B.mono ?_;rintro e G ⟨d,⟨f,u1,rfl,s⟩|⟨f,rfl⟩⟩
 ·have M:=aB (nO (Grow F w G) u1 p.1 G s o_)
  obtain⟨Q,P,rfl⟩:=s.form;have L:=aB s;have n:=aB d;have j:=aB f;clear s d f B;go_wp2_with fail;refine M.mono ?_;rintro e T ⟨rfl,⟨m,rfl⟩|⟨m,rfl⟩⟩
  ·have i:Hid (r=(p.1,0)):=by show _=_;rw[q.out,if_pos j.out,if_neg o_];rw[<-j.out]
   clear m;go_wp2
   go_ret;exact fD.ok n i L
  ·have i:Hid (r=(bS,6)):=by show _=_;rw[q.out,if_pos j.out,if_pos m]
   clear m;go_wp2_with fail;exact⟨rfl,fD.stop n i d_⟩
 ·have i:Hid (r=(p.1,p.2)):=by show _=_;rw[q.out,if_neg f]
  have j:=aB f;have n:=aB d;clear f d B;go_wp2_with fail;exact⟨rfl,fD.stop n i j⟩
def kE(w:aG):Prop:=Lib.TabIs prog w "internal/strconv.uint64pow10" .u64 Lib.pow10Tab
def kE.keep{g:Nat}(h:kE w)(b:prog.globalNamed "internal/strconv.uint64pow10"=some g)(a:w'.heap[g]?=w.heap[g]?):kE w':=by
 unfold kE Lib.TabIs World.var? at h ⊢
 rw[b] at h ⊢
 simp only[Option.bind_some] at h ⊢
 rw[a];exact h
def kE.below(h:kE w)(c:Below w.heap.size w w'):kE w':=by
 cases b:prog.globalNamed "internal/strconv.uint64pow10" with
 |none=>unfold kE Lib.TabIs World.var? at h;rw[b] at h;cases h
 |some g=>
  refine h.keep b (c.block g ?_);unfold kE Lib.TabIs World.var? at h;rw[b] at h;simp only[Option.bind_some] at h;rcases fu g w.heap.size with a|a
  ·exact a
  ·rw[ik (by exact a)] at h
   cases h
def AX:∀(f n:Nat) (t:cC),n<10 ^ (f+1)->kB (f+1) n t=Lib.decDigits n++t
 |0,n,t,h=>by
  have a:n<10:=by simpa using h
  rw[kB,Lib.decDigits,if_pos a,dif_pos a];rfl
 |f+1,n,t,h=>by
  rw[kB,Lib.decDigits];by_cases a:n<10
  ·rw[if_pos a,dif_pos a];rfl
  ·rw[if_neg a,dif_neg a,AX f (n/10) _ (by rw[Nat.pow_succ] at h;omega)]
   simp
def JT(n:Int)(a: -9223372036854775808<=n)(b:n<=9223372036854775807):Lib.itoa n=jA n:=by
 unfold Lib.itoa jA;rw[AX 19 n.natAbs [] o_,jj]
 by_cases h:n<0
 ·rw[if_pos h,if_pos h];rfl
 ·rw[if_neg h,if_neg h,ij,show n.toNat=n.natAbs by omega]
def AV:∀l:cN,Lib.join l [44,32]=fU l
 |[]=>rfl
 |[x]=>by simp[Lib.join,List.intercalate,fU]
 |x::y::l=>by
  have a:=AV (y::l);unfold Lib.join List.intercalate at a ⊢
  rw[List.intersperse_cons_cons,List.flatten_cons,List.flatten_cons,a];simp[fU]
def F6(l:cN):Lib.join ((l.map bs).map λx=>x.data.toList) (bs [44,32]).data.toList=fU l:=by
 rw[<-AV,List.map_map];have e:((λx:ByteArray=>x.data.toList) ∘ bs)=id:=funext λx=>by simp[gR]
 rw[e,List.map_id];simp[gR]
def zC(w:aG)(x:cC):∀j u,([.string (bs x)]:List Value)[j]?=some u->(w.alloc (.cells #[.string (bs x)] 9)).cell? ((⟨w.heap.size,0,none⟩:Addr).add j)=some u:=by
 intro j v a;match j,a with
 |0,a=>simp at a;subst a;simp[Addr.add,go_sem]
 |j+1,a=>simp at a
def FR(x:cC):∀u∈([.string (bs x)]:List Value),u.oneCell'=true:=by
 intro u a;simp at a;rw[a];rfl
def xI:(prog.info? 9).map (λi=>(i.zero,i.size,i.bytes))=some (some (.string ⟨#[]⟩),1,16):=k_
def LD(l:cN):List Value:=l.map λx=>Value.string (bs x)
def uF(F:bY)(k:Nat):Prop:=∀(v:aQ) (a:aM) (w:aG),PV F w v a->(∀b,F b->b<w.heap.size)->kE w->aO a<=k->k<=1000000->Calls prog 73 #[v] w λe w'=>e=aX (.string (bs (cJ a)))/\Below w.heap.size w w'
def OH(F:bY)(k:Nat)(IH:uF F k)(x:Option Addr)(c:Nat)(l:List aM)(w:aG)(hl:PVs F w (.slice x l.length c) l)(hF:∀b,F b->b<w.heap.size)(hp:kE w)(hc:(l.map aO).sum<=k)(hk:k<=1000000):
 Calls prog 103 #[.slice x l.length c] w λe w'=>e=aX (.string (bs (fU (l.map cJ))))/\Below w.heap.size w w':=by
 obtain⟨i0,hi,N,X,T⟩:=info_parts xI;have Z:=kH l;have r:=aB IH;have V:=aB hl;have HF:=aB hF;have HP:=aB hp;clear IH hl hF hp;go_in
 go_wp2_with fail;go_loopg [3,5,8] l.length (λgk s _ i wr=>∃j:Nat,j+gk=l.length/\i=I_ j/\(∃y d,s=.slice y j d)/\wr.ownsRow w.heap.size 9 1 s j (LD ((l.map cJ).take j))/\Below w.heap.size w wr)
 case atStart=>exact⟨0,o_,rfl,⟨none,0,rfl⟩,World.ownsRow_nil _ _ _ _,eh _ _⟩
 case round=>
  obtain⟨j,hj,rfl,⟨y,d,rfl⟩,h,f⟩:=hrel;by_cases v:j<l.length
  ·obtain⟨m,rfl⟩:∃m,gk=m+1:=⟨gk-1,o_⟩
   have E:=V.keep λb H=>f.block b (HF b H)
   obtain⟨g,u,rfl,hn,ad,hg,Y,O,U⟩:=E.get j v;have B:l[j]∈l:=fo v;have ae:=mQ B;have HX:=aB (r u l[j] wr U (λb H=>ej (HF b H) f.size) (HP.below f) o_ o_)
   obtain⟨t,u',rfl⟩:=U.form;have K:=f.size;have HO:=aB h;have G:=aB f
   have D:LD ((l.map cJ).take (j+1))=LD ((l.map cJ).take j)++[.string (bs (cJ l[j]))]:=by
    rw[gu (by simpa using v)];simp[LD]
   have I:=aB D;clear U h f D E;go_wp2_with fail;refine HX.mono ?_;rintro e C ⟨rfl,q⟩;have aa:=q.size;have p:=iO HO q;have z:=aB p;clear p;generalize cJ l[j]=tx at*;go_wp2_with (at_builtin;refine wpList_append_lies _ r_ _ _ 32 r_ w.heap.size 9 i0 _ 1 16 underlying32 hi N X T rfl d_ (.slice y j d) j _ r_ (z.alloc _) (aH C.heap.size 0) 1 1 [.string (bs tx)] r_ r_ (zC C _) (FR _) d_ (by unfold maxLen;omega) o_ t_ (C.heap.size+1) s_ ?_)
   intro g4 ab w4 o n A ag;have P:=aB o;have Q:=aB n;clear o n A;go_wp2
   go_roundg m
   case measure=>omega
   case rel=>
    refine⟨j+1,o_,by go_num,⟨_,_,rfl⟩,by rw[I.out];exact P,?_⟩
    exact((G.trans (q.mono o_)).alloc o_ _).grown Q t_ λk hk=>(z.lt k hk).1
  ·have J:j=l.length:=o_
   subst J;have K:=f.size;rw[gv s_] at h
   have G:=aB f;have af:=wF l λa _=>zY a
   rcases h.2 with ⟨W,r2⟩|⟨g,cp,ac,W,r2,S,r4,r5,r6,r7⟩
   ·have e1:l=[]:=gg r2;subst e1;cases W;clear h f V r;go_wp2_with fail;refine(strings_Join_none _ _ _ _).mono ?_;rintro e C ⟨rfl,rfl⟩;go_wp2
    go_ret;exact⟨rfl,G⟩
   ·cases W
    have HJ:=aB (strings_Join g 0 d ((l.map cJ).map bs) (bs [44,32]) wr (λi x M=>by
     refine aA S ?_
     have e2:(LD (l.map cJ))[i]?=some (.string x):=by
      unfold LD;rw[ji] at M ⊢
      obtain⟨y,hy,rfl⟩:=Option.map_eq_some_iff.1 M;rw[hy];rfl
     have ah:i<l.length:=by
      have:=(gq.1 M).1;simpa using this
     rw[<-r7,ga,if_pos o_] at e2
     simpa using e2) (aC S) t_ (by simpa using r4) (by rw[F6];omega))
    have L:((l.map cJ).map bs).length=l.length:=s_
    rw[L,F6] at HJ;clear h f V r S r6 r7;go_wp2_with fail;refine HJ.mono ?_;rintro e C ⟨rfl,q⟩;go_wp2
    go_ret;exact⟨rfl,G.trans (q.mono o_)⟩
def ZK{os:Array Obj}(h:w'=Sort.grow (w.drewN k) os):Below w.heap.size w w':=by
 subst h;refine⟨rfl,rfl,rfl,?_,λi a=>?_⟩
 ·show w.heap.size<=(w.heap++os).size
  rw[Array.size_append];omega
 ·show (w.heap++os)[i]?=w.heap[i]?
  rw[Array.getElem?_append_left a]
def U0:(⟨(Lib.formatBool false).toArray⟩:ByteArray)=bs [102,97,108,115,101]:=k_
def j6:(⟨(Lib.formatBool true).toArray⟩:ByteArray)=bs [116,114,117,101]:=k_
def JL(F:bY)(k:Nat)(g:uF F k):uF F (k+1):=by
 intro v a w h y f j H;rcases h.cases with ⟨n,rfl,rfl,u,t⟩|⟨b,rfl,rfl⟩|⟨s,rfl,rfl⟩|⟨x,c,l,rfl,rfl,z⟩
 ·have q:=mF;have d:cJ (bH n)=jA n:=by rw[kP];rfl
  have p:=aB (strconv_FormatInt_10 n u t w f);rw[d];clear h g j f;go_in
  go_wp2_with fail;refine p.mono ?_;rintro e r ⟨rfl,G,I,i⟩;have o:=ZK i;clear i;go_wp2
  go_ret;exact⟨by rw[JT n u t];rfl,o⟩
 ·have q:=lE;have B:=wJ;have d:cJ (bV b)=if b then [116,114,117,101] else [102,97,108,115,101]:=by rw[kP];cases b<;>rfl
  rw[d];clear h g j f;cases b
  all_goals
   go_in
   go_wp2_with fail;refine(strconv_FormatBool _ _).mono ?_;rintro e r ⟨rfl,rfl⟩;go_wp2
   go_ret;exact⟨by first|(rw[U0];rfl)|(rw[j6];rfl),eh _ _⟩
 ·have q:=mE;have B:=AA;have m:=kX;have d:cJ (bP s)=[34]++s++[34]:=by rw[kP];rfl
  have D:(bs s).size=s.length:=gJ s;rw[lL] at j;rw[d];clear h g f;go_in
  go_wp2
  go_ret;refine⟨?_,eh _ _⟩;show Ending.returned (.string ((⟨#[34]⟩:ByteArray)++bs s++(⟨#[34]⟩:ByteArray)))=_
  rw[M3,M4];rfl
 ·have q:=lC;have B:=wI;have m:=mX;have A:=iI;have d:cJ (bB l)=[91]++fU (l.map cJ)++[93]:=by rw[kP];rfl
  have C:=wF l λa _=>zY a
  rw[jN] at j;have p:=aB (OH F k g x c l w z y f o_ o_)
  have D:(bs (fU (l.map cJ))).size=(fU (l.map cJ)).length:=gJ _;rw[d];generalize fU (l.map cJ)=E at*;clear h g f z y;go_in
  go_wp2_with fail;refine p.mono ?_;rintro e r ⟨rfl,o⟩;go_wp2
  go_ret;refine⟨?_,o⟩;show Ending.returned (.string (bs [91]++bs E++bs [93]))=_
  rw[uE,uE];rfl
def nM(F:bY):∀k,uF F k
 |0=>λv a w _ _ _ h=>by have:=uD a;omega
 |k+1=>JL F k (nM F k)
def M7(F:bY)(v:aQ)(a:aM)(w:aG)(h:PV F w v a)(g:∀b,F b->b<w.heap.size)(i:kE w)(j:aO a<=100000):
 Calls prog 289 #[v] w λe p=>e=aX (.string (bs (kQ a)))/\Below w.heap.size w p:=by
 have k:=aB (nM F 100000 v a w h g i j o_)
 rcases h.cases with ⟨n,rfl,rfl,u,t⟩|⟨b,rfl,rfl⟩|⟨s,rfl,rfl⟩|⟨x,c,l,rfl,rfl,r⟩
 ·have q:=oB;have d:kQ (bH n)=cJ (bH n):=rfl;rw[d];generalize cJ (bH n)=o at*;clear h g i j;go_in
  go_wp2_with fail;refine k.mono ?_;rintro e m ⟨rfl,f⟩;go_wp2
  go_ret;exact⟨rfl,f⟩
 ·have q:=lD;have d:kQ (bV b)=cJ (bV b):=rfl;rw[d];generalize cJ (bV b)=o at*;clear h g i j;go_in
  go_wp2_with fail;refine k.mono ?_;rintro e m ⟨rfl,f⟩;go_wp2
  go_ret;exact⟨rfl,f⟩
 ·have q:=kX;have d:kQ (bP s)=s:=rfl;rw[d];clear h g i j k;go_in
  go_wp2
  go_ret;exact⟨rfl,eh _ _⟩
 ·have q:=mX;have d:kQ (bB l)=cJ (bB l):=rfl;rw[d];generalize cJ (bB l)=o at*;clear h g i j r;go_in
  go_wp2_with fail;refine k.mono ?_;rintro e m ⟨rfl,f⟩;go_wp2
  go_ret;exact⟨rfl,f⟩
def x6(F:bY)(v:aQ)(a:aM)(w:aG)(h:PV F w v a)(i:bU a)(k:aO a<=1000000):Calls prog 279 #[v] w (fD F w (eL a)):=by
 rcases h.cases with ⟨m,rfl,rfl,B,A⟩|⟨b,rfl,rfl⟩|⟨s,rfl,rfl⟩|⟨x,c,l,rfl,rfl,y⟩
 ·have q:=jT;have o:=oB;have d:eL (bH m)=(bS,2):=rfl;rw[d];clear h i k;go_in
  go_wp2_with fail;exact⟨rfl,fD.stop (eh _ _) rfl d_⟩
 ·have q:=iJ;have o:=lD;have d:eL (bV b)=(bS,2):=rfl;rw[d];clear h i k;go_in
  go_wp2_with fail;exact⟨rfl,fD.stop (eh _ _) rfl d_⟩
 ·have q:=lB;have o:=kX;have t:dB s:=i.txt;have d:eL (bP s)=(bH (eG s).length,0):=rfl;have C:(bs s).size=s.length:=gJ s;rw[lL] at k;have g:=uY s
  have f:Lib.runeCount (bs s)=(eG s).length:=by
   unfold Lib.runeCount;have n:(bs s).data.toList=s:=by simp[gR]
   rw[AY (bs s) (bs s).size 0 o_ (by rw[n];exact t),n];rfl
  have p:=aB (utf8_RuneCountInString (bs s) w o_)
  rw[f] at p;rw[d];clear h i f;go_in
  go_wp2_with fail;refine p.mono ?_;rintro e r ⟨rfl,z,j⟩;have u:Below w.heap.size w r:=by rw[j];exact(eh _ w).alloc cL _
  clear j;go_wp2
  go_ret;exact fD.ok u rfl (PV.num _ _ _ o_ o_)
 ·have q:=iI;have d:eL (bB l)=(bH l.length,0):=rfl;have g:=kH l;rw[jN] at k;rw[d];clear h i y;go_in
  go_wp2
  go_ret;exact fD.ok (eh _ _) rfl (PV.num _ _ _ o_ o_)
def y7(F:bY)(x:Option Addr)(c:Nat)(l:List aM)(v:aQ)(b:aM)(w:aG)(s:PVs F w (.slice x l.length c) l)(o:PV F w v b)(N:l.length<=1000000):Calls prog 261 #[.iface 188 (.slice x l.length c),v] w (fD F w (dL (bB l) b)):=by
 have q:=iI;have B:=aB (vU F v b l.length w o o_)
 obtain⟨t,z,rfl⟩:=o.form;have A:=aB s
 have y:dL (bB l) b=if b.sort≠0 then (bS,2) else if b.n<0\/(l.length:Int)<=b.n then (bS,4) else (l.getD b.n.toNat bS,0):=by
  simp[dL,kF,bB]
 have j:=aB y;generalize dL (bB l) b=r at j;clear o s y;go_in
 go_wp2_with fail;refine B.mono ?_;rintro e G ⟨rfl,⟨f,rfl⟩|⟨f,i,rfl⟩|⟨f,k,i,D,rfl⟩⟩
 ·go_wp2_with fail;exact⟨rfl,fD.stop (eh _ _) (j.trans (if_pos f)) d_⟩
 ·go_wp2_with fail;exact⟨rfl,fD.stop (eh _ _) (j.trans ((if_neg (λh=>h f)).trans (if_pos i))) d_⟩
 ·obtain⟨g,u,rfl,_,L,J,p,m,n⟩:=A.get k i;obtain⟨H,I,rfl⟩:=n.form;have E:=aB n;have d:l.getD b.n.toNat bS=l[k]:=by rw[D];simp[i]
  have a:r=(l[k],0):=by rw[j.out,if_neg (λh=>h f),if_neg o_,d]
  have HRes:=aB a;have M:(0:Int)<=(k:Int):=o_
  have K:(k:Int)<(l.length:Int):=o_
  clear n d a A B;go_wp2
  go_ret;exact fD.ok (eh _ _) HRes (E.mono λk C=>d7 C)
def X0(r:Nat)(W:aG):(convert 21 187 (.int .i32 (r:Int))).run prog W=.ok (.string (bs (GJ r))) W:=by
 have a:Utf8.encode (Int.ofNat r)=bs (GJ r):=by
  have:∀x:ByteArray,x=bs x.data.toList:=λx=>by cases x;simp[bs]
  exact this _
 rw[Int.ofNat_eq_natCast] at a;simp[convert,run_underlying underlying21,run_underlying underlying187,Conv.intToString,a]
def bx_(F:Nat->Prop)(s:List UInt8)(v:Value)(b:aM)(w:World)(H:PV F w v b)(O:dB s)(hc:s.length<=1000000)(T:∀k,F k->k<w.heap.size):Calls prog 261 #[.iface 187 (.string (bs s)),v] w (fD F w (dL (bP s) b)):=by
 have q:=lB;have q':=kX;have hs:(bs s).size=s.length:=gJ s;have B:(bs s).data.toList=s:=by simp[gR]
 obtain⟨c,C,l,r3,j⟩:=AK (bs s) (bs s).size 0 #[] o_ (by rw[B];exact O)
 rw[List.drop_zero,B] at l j;have i:(Conv.runesFrom (bs s) (bs s).size 0 #[]).size=c.length:=by rw[C];simp
 have I:=uY s;have a:=run_runes_of_string (P:=prog) w 187 378 21 (bs s) underlying187 underlying378 underlying21 (by rw[i];omega)
 rw[i,C] at a;generalize grownCap w c.length 0 21=Y at a;generalize n:(Obj.cells ((#[]++(c.map λr=>Value.int .i32 (Int.ofNat r)).toArray)++Array.replicate (Y-c.length) (.int .i32 0)) 21)=y at a
 have d:∀k (h:k<c.length),(w.drew.alloc y).cell? ⟨w.heap.size,k,none⟩=some (.int .i32 ((c[k]:Nat):Int)):=λk h=>by
  rw[<-n];refine aA (aN _ _ rfl _) ?_;rw[Array.getElem?_append_left (by simpa using h)]
  simp[h]
 have D:Below w.heap.size w (w.drew.alloc y):=((eh _ w).drew).alloc (en _) _;have J:=aB (vU F v b c.length (w.drew.alloc y) (H.keep λk S=>D.block k (T k S)) o_)
 obtain⟨t,z,rfl⟩:=H.form
 have L:dL (bP s) b=if b.sort≠0 then (bS,2) else if b.n<0\/(c.length:Int)<=b.n then (bS,4) else (((eG s).map bP).getD b.n.toNat bS,0):=by
  rw[l];simp[dL,kF,bP]
 have A:=aB L;have M:c.length<=1000000:=o_
 have Q:=aB l;have W:=aB j;have G:=aB d;have x:=aB D;generalize dL (bP s) b=r at A;generalize p:w.drew.alloc y=N at a J G x;have K:w.heap.size<N.heap.size:=by rw[<-p];simp
 clear H L d D p n C i B l j I;go_enter func261,ntmps261;go_wp2_with fail;refine J.out.mono ?_;rintro e Z ⟨rfl,⟨o,rfl⟩|⟨o,u,rfl⟩|⟨o,k,u,V,rfl⟩⟩
 ·go_wp2_with fail;exact⟨rfl,fD.stop x.out (A.out.trans (if_pos o)) d_⟩
 ·go_wp2_with fail;exact⟨rfl,fD.stop x.out (A.out.trans ((if_neg (λh=>h o)).trans (if_pos u))) d_⟩
 ·have U:=G.out k u;have l:=Q.out;have j:=W.out
  have m:GJ c[k]=(eG s)[k]'(by omega):=by
   have:(c.map GJ)[k]?=(eG s)[k]?:=by rw[j]
   rw[ji,fh u,fh o_] at this
   simpa using this
  have g:((eG s).map bP).getD b.n.toNat bS=bP (GJ c[k]):=by
   rw[m,V];have E:k<(eG s).length:=o_
   simp[E]
  have f:r=(bP (GJ c[k]),0):=by rw[A.out,if_neg (λh=>h o),if_neg o_,g]
  have X:=X0 c[k] Z;have HRes:=aB f;have e1:(0:Int)<=(k:Int):=o_
  have e2:(k:Int)<(c.length:Int):=o_
  clear g f m J G l j;generalize c[k]=rk at*;go_wp2_with fail;go_ret;exact fD.ok x.out HRes.out (PV.str _ _ _)
def by_(F:bY)(u v:aQ)(a b:aM)(w:aG)(i:PV F w u a)(d:PV F w v b)(g:bU a)(f:aO a<=1000000)(h:∀k,F k->k<w.heap.size):Calls prog 261 #[u,v] w (fD F w (dL a b)):=by
 rcases i.cases with ⟨m,rfl,rfl,p,o⟩|⟨x,rfl,rfl⟩|⟨s,rfl,rfl⟩|⟨x,c,l,rfl,rfl,j⟩
 ·have q:=jT;have n:=oB;have e:dL (bH m) b=(bS,2):=by simp[dL,bH]
  rw[e];obtain⟨t,z,rfl⟩:=d.form;clear i d g f h e;go_in
  go_wp2_with fail;exact⟨rfl,fD.stop (eh _ _) rfl d_⟩
 ·have q:=iJ;have n:=lD;have e:dL (bV x) b=(bS,2):=by simp[dL,bV]
  rw[e];obtain⟨t,z,rfl⟩:=d.form;clear i d g f h e;go_in
  go_wp2_with fail;exact⟨rfl,fD.stop (eh _ _) rfl d_⟩
 ·rw[lL] at f;exact bx_ F s v b w d g.txt o_ h
 ·rw[jN] at f;have:=kH l;exact y7 F x c l v b w j d o_
def ZU(n m:Int)(w:aG):(binOp .eql 136 (.iface 183 (I_ n)) (.iface 183 (I_ m))).run prog w=.ok (.bool (n==m)) w:=k_
def PC(n m:Bool)(w:aG):(binOp .eql 136 (.iface 185 (.bool n)) (.iface 185 (.bool m))).run prog w=.ok (.bool (n==m)) w:=k_
def UI(n m:ByteArray)(w:aG):(binOp .eql 136 (.iface 187 (.string n)) (.iface 187 (.string m))).run prog w=.ok (.bool (n==m)) w:=k_
def ZR(a b:cC)(w:aG):(binOp .eql 136 (.iface 187 (.string (bs a))) (.iface 187 (.string (bs b)))).run prog w=.ok (.bool (a==b)) w:=by
 rw[UI];have h:(bs a==bs b)=((bs a).data==(bs b).data):=rfl;rw[h];simp[bs]
def UM(u v:aQ)(w:aG):(binOp .eql 136 (.iface 183 u) (.iface 185 v)).run prog w=.ok (.bool false) w:=k_
def ZT(u v:aQ)(w:aG):(binOp .eql 136 (.iface 183 u) (.iface 187 v)).run prog w=.ok (.bool false) w:=k_
def UL(u v:aQ)(w:aG):(binOp .eql 136 (.iface 183 u) (.iface 188 v)).run prog w=.ok (.bool false) w:=k_
def UO(u v:aQ)(w:aG):(binOp .eql 136 (.iface 185 u) (.iface 183 v)).run prog w=.ok (.bool false) w:=k_
def UN(u v:aQ)(w:aG):(binOp .eql 136 (.iface 185 u) (.iface 187 v)).run prog w=.ok (.bool false) w:=k_
def PB(u v:aQ)(w:aG):(binOp .eql 136 (.iface 185 u) (.iface 188 v)).run prog w=.ok (.bool false) w:=k_
def ZS(u v:aQ)(w:aG):(binOp .eql 136 (.iface 187 u) (.iface 183 v)).run prog w=.ok (.bool false) w:=k_
def UK(u v:aQ)(w:aG):(binOp .eql 136 (.iface 187 u) (.iface 185 v)).run prog w=.ok (.bool false) w:=k_
def UJ(u v:aQ)(w:aG):(binOp .eql 136 (.iface 187 u) (.iface 188 v)).run prog w=.ok (.bool false) w:=k_
def oF(h:a=b):cP a b=true:=(AJ a b).2 h
def dY(h:a≠b):cP a b=false:=by
 cases c:cP a b
 ·rfl
 ·exact absurd ((AJ a b).1 c) h
def DJ:bB l=bB m↔l=m:=by simp[bB]
def DH(F:bY)(k:Nat):Prop:=∀(u v:aQ) (a b:aM) (w:aG),PV F w u a->PV F w v b->aO a<=k->k<=1000000000->aO b<=1000000000->
 Calls prog 269 #[u,v] w λe w'=>w'=w/\e=aX (.bool (cP a b))
def FJ(F:bY)(k:Nat)(O:DH F k)(x y:Option Addr)(c d:Nat)(l m:List aM)(w:aG)(N:PVs F w (.slice x l.length c) l)(D:PVs F w (.slice y m.length d) m)(hc:aO (bB l)<=k+1)(hk:k<=1000000000)(V:aO (bB m)<=1000000000):
 Calls prog 273 #[.slice x l.length c,.slice y m.length d,.func (.func 269) #[] #[]] w λe X=>X=w/\e=aX (.bool (cP (bB l) (bB m))):=by
 have h1:=kH l;have h2:=kH m;rw[jN] at hc V;by_cases h:l.length=m.length
 ·have I:((l.length:Int) != (l.length:Int))=false:=s_
  rw[<-h] at D ⊢
  have HL:=aB N;have Z:=aB D;have L:=aB O;have s:=aB h;clear N D O h;go_in
  go_wp2_with fail;go_loopg [6,7,8,9,17] l.length (λgk _ _ _ _ i wr=>∃j:Nat,j+gk=l.length/\i=I_ j/\wr=w/\Hid (l.take j=m.take j))
  case atStart=>exact⟨0,o_,rfl,rfl,by simp[Hid]⟩
  case round=>
   obtain⟨j,hj,rfl,rfl,H⟩:=hrel;by_cases n:j<l.length
   ·obtain⟨q,rfl⟩:∃q,gk=q+1:=⟨gk-1,o_⟩
    obtain⟨g,u,rfl,hn,hF,hg,U,K,P⟩:=HL.get j n;obtain⟨g',u',rfl,M,Y,aa,Q,G,A⟩:=Z.get j (by rw[<-s.out];exact n)
    have J:=mQ (fo n);have f:j<m.length:=by rw[<-s.out];exact n
    have C:=mQ (fo f);have E:=aB (L u u' l[j] (m[j]'f) wr P A o_ hk o_)
    obtain⟨t,z,rfl⟩:=P.form;obtain⟨t',z',rfl⟩:=A.form;have v:l.take (j+1)=l.take j++[l[j]]:=gu n;have p:m.take (j+1)=m.take j++[m[j]'f]:=gu f;have r:l[j]?=some l[j]:=fh n;have B:m[j]?=some (m[j]'f):=fh f;generalize l[j]=a at*;generalize m[j]'f=b at*;clear P A J C hn M;by_cases o:a=b
    ·rw[oF o] at E;have T:Hid (l.take (j+1)=m.take (j+1)):=by show _=_;rw[v,p,H.out,o]
     clear v p r B H o;go_wp2_with fail;refine E.mono ?_;rintro e W ⟨rfl,rfl⟩;go_wp2
     go_roundg q
     case measure=>omega
     case rel=>exact⟨j+1,o_,by go_num,rfl,T⟩
    ·rw[dY o] at E;have S:Hid (l≠m):=by show _≠_;intro e;rw[e,B] at r;cases r;exact o rfl
     clear v p r B H o;go_wp2_with fail;refine E.mono ?_;rintro e W ⟨rfl,rfl⟩;go_wp2
     go_ret;exact⟨rfl,by rw[dY λe=>S.out (DJ.1 e)];rfl⟩
   ·have HE:Hid (l=m):=by
     show _=_
     have:=H.out;rw[gv o_,gv (by rw[<-s.out];omega)] at this
     exact this
    go_wp2
    go_ret;exact⟨rfl,by rw[oF (DJ.2 HE.out)];rfl⟩
 ·have I:((l.length:Int) != (m.length:Int))=true:=t_
  have S:Hid (l≠m):=by show _≠_;intro e;exact h (by rw[e])
  clear N D O;go_in
  go_wp2
  go_ret;exact⟨rfl,by rw[dY λe=>S.out (DJ.1 e)];rfl⟩
def SH(F:bY)(k:Nat)(i:DH F k):DH F (k+1):=by
 intro u v a b w j g m G h;rcases j.cases with ⟨n,rfl,rfl,H,E⟩|⟨s,rfl,rfl⟩|⟨s,rfl,rfl⟩|⟨x,c,l,rfl,rfl,y⟩
 ·have q:=jT;rcases g.cases with ⟨p,rfl,rfl,_,_⟩|⟨f,rfl,rfl⟩|⟨f,rfl,rfl⟩|⟨B,A,t,rfl,rfl,_⟩
  ·have o:=ZU
   have d:Hid (cP (bH n) (bH p)=(n==p)):=by
    show _=_
    by_cases e:n=p
    ·rw[oF (by rw[e]),e,beq_self_eq_true]
    ·rw[dY (by simp[bH,e]),beq_eq_false_iff_ne.2 e]
   clear j g i m h;generalize cP (bH n) (bH p)=r at*;go_in
   go_wp2
   go_ret;exact⟨rfl,by rw[d.out];rfl⟩
  ·have o:=UM;have d:Hid (cP (bH n) (bV f)=false):=dY (by simp[bH,bV])
   clear j g i m h;generalize cP (bH n) (bV f)=r at*;go_in
   go_wp2
   go_ret;exact⟨rfl,by rw[d.out];rfl⟩
  ·have o:=ZT;have d:Hid (cP (bH n) (bP f)=false):=dY (by simp[bH,bP])
   clear j g i m h;generalize cP (bH n) (bP f)=r at*;go_in
   go_wp2
   go_ret;exact⟨rfl,by rw[d.out];rfl⟩
  ·have o:=UL;have d:Hid (cP (bH n) (bB t)=false):=dY (by simp[bH,bB])
   clear j g i m h;generalize cP (bH n) (bB t)=r at*;go_in
   go_wp2
   go_ret;exact⟨rfl,by rw[d.out];rfl⟩
 ·have q:=iJ;rcases g.cases with ⟨p,rfl,rfl,_,_⟩|⟨f,rfl,rfl⟩|⟨f,rfl,rfl⟩|⟨B,A,t,rfl,rfl,_⟩
  ·have o:=UO;have d:Hid (cP (bV s) (bH p)=false):=dY (by simp[bV,bH])
   clear j g i m h;generalize cP (bV s) (bH p)=r at*;go_in
   go_wp2
   go_ret;exact⟨rfl,by rw[d.out];rfl⟩
  ·have o:=PC
   have d:Hid (cP (bV s) (bV f)=(s==f)):=by
    show _=_
    cases s<;>cases f<;>first|exact oF rfl|exact dY (by simp[bV])
   clear j g i m h;generalize cP (bV s) (bV f)=r at*;go_in
   go_wp2
   go_ret;exact⟨rfl,by rw[d.out];rfl⟩
  ·have o:=UN;have d:Hid (cP (bV s) (bP f)=false):=dY (by simp[bV,bP])
   clear j g i m h;generalize cP (bV s) (bP f)=r at*;go_in
   go_wp2
   go_ret;exact⟨rfl,by rw[d.out];rfl⟩
  ·have o:=PB;have d:Hid (cP (bV s) (bB t)=false):=dY (by simp[bV,bB])
   clear j g i m h;generalize cP (bV s) (bB t)=r at*;go_in
   go_wp2
   go_ret;exact⟨rfl,by rw[d.out];rfl⟩
 ·have q:=lB;rcases g.cases with ⟨p,rfl,rfl,_,_⟩|⟨f,rfl,rfl⟩|⟨f,rfl,rfl⟩|⟨B,A,t,rfl,rfl,_⟩
  ·have o:=ZS;have d:Hid (cP (bP s) (bH p)=false):=dY (by simp[bP,bH])
   clear j g i m h;generalize cP (bP s) (bH p)=r at*;go_in
   go_wp2
   go_ret;exact⟨rfl,by rw[d.out];rfl⟩
  ·have o:=UK;have d:Hid (cP (bP s) (bV f)=false):=dY (by simp[bP,bV])
   clear j g i m h;generalize cP (bP s) (bV f)=r at*;go_in
   go_wp2
   go_ret;exact⟨rfl,by rw[d.out];rfl⟩
  ·have o:=ZR
   have d:Hid (cP (bP s) (bP f)=(s==f)):=by
    show _=_
    by_cases e:s=f
    ·rw[oF (by rw[e]),e,beq_self_eq_true]
    ·rw[dY (by simp[bP,e]),beq_eq_false_iff_ne.2 e]
   clear j g i m h;generalize cP (bP s) (bP f)=r at*;go_in
   go_wp2
   go_ret;exact⟨rfl,by rw[d.out];rfl⟩
  ·have o:=UJ;have d:Hid (cP (bP s) (bB t)=false):=dY (by simp[bP,bB])
   clear j g i m h;generalize cP (bP s) (bB t)=r at*;go_in
   go_wp2
   go_ret;exact⟨rfl,by rw[d.out];rfl⟩
 ·have q:=iI;rcases g.cases with ⟨p,rfl,rfl,_,_⟩|⟨f,rfl,rfl⟩|⟨f,rfl,rfl⟩|⟨B,A,t,rfl,rfl,z⟩
  ·have o:=jT;have d:Hid (cP (bB l) (bH p)=false):=dY (by simp[bB,bH])
   clear j g y i m h;generalize cP (bB l) (bH p)=r at*;go_in
   go_wp2
   go_ret;exact⟨rfl,by rw[d.out];rfl⟩
  ·have o:=iJ;have d:Hid (cP (bB l) (bV f)=false):=dY (by simp[bB,bV])
   clear j g y i m h;generalize cP (bB l) (bV f)=r at*;go_in
   go_wp2
   go_ret;exact⟨rfl,by rw[d.out];rfl⟩
  ·have o:=lB;have d:Hid (cP (bB l) (bP f)=false):=dY (by simp[bB,bP])
   clear j g y i m h;generalize cP (bB l) (bP f)=r at*;go_in
   go_wp2
   go_ret;exact⟨rfl,by rw[d.out];rfl⟩
  ·have C:=aB (FJ F k i x B c A l t w y z m o_ h)
   clear j g y z i m h;generalize cP (bB l) (bB t)=r at*;go_in
   go_wp2_with fail;refine C.mono ?_;rintro e D ⟨rfl,rfl⟩;go_wp2
   go_ret;exact⟨rfl,rfl⟩
def vV(F:bY):∀k,DH F k
 |0=>λu v a b w _ _ h=>by have:=uD a;omega
 |k+1=>SH F k (vV F k)
def fD.ofQ{e:Ending}(h:mC F w r e w'):fD F w r e w':=by
 obtain⟨rfl,⟨b,u,a,c⟩|⟨b,a⟩⟩:=h
 ·exact⟨eh _ _,d7 ⟨b,u,a,c.mono λ_ d=>d7 d⟩⟩
 ·exact⟨eh _ _,d6 ⟨b,a⟩⟩
def i8(b:op≠[61,61])(a:op≠[33,61])(n m:Int):fA op (bH n) (bH m)=jZ op n m:=by
 unfold fA;rw[if_neg b,if_neg a,if_neg (by simp[bH]),if_pos (by simp[bH])];rfl
def i7(i:op≠[61,61])(g:op≠[33,61])(a b:cC):fA op (bP a) (bP b)=LE op a b:=by
 unfold fA LE jY;rw[if_neg i,if_neg g,if_neg (by simp[bP]),if_neg (by simp[bP])]
 by_cases c:op=[60]
 ·rw[if_neg (by rw[c];decide),if_pos ⟨rfl,c⟩,if_pos c];rfl
 by_cases d:op=[60,61]
 ·rw[if_neg (by rw[d];decide),if_neg (λh=>c h.2),if_pos ⟨rfl,d⟩,if_neg c,if_pos d];rfl
 by_cases f:op=[43]
 ·rw[if_pos f,if_neg c,if_neg d,if_pos f];have e:(if (bP a).sort=3 then bB ((bP a).l++(bP b).l) else bP ((bP a).s++(bP b).s))=bP (a++b):=rfl
  simp only[e]
 ·rw[if_neg f,if_neg (λh=>c h.2),if_neg (λh=>d h.2),if_neg c,if_neg d,if_neg f]
def J4(f:op≠[61,61])(d:op≠[33,61])(a b:List aM):fA op (bB a) (bB b)=zD op a b:=by
 unfold fA zD jY;rw[if_neg f,if_neg d,if_neg (by simp[bB]),if_neg (by simp[bB])]
 by_cases c:op=[43]
 ·rw[if_pos c,if_pos c];have e:(if (bB a).sort=3 then bB ((bB a).l++(bB b).l) else bP ((bB a).s++(bB b).s))=bB (a++b):=rfl
  simp only[e]
 ·rw[if_neg c,if_neg c,if_neg (by simp[bB]),if_neg (by simp[bB])]
def gV(d:op≠[61,61])(c:op≠[33,61])(h:a.sort≠b.sort\/a.sort=1):fA op a b=(bS,2):=by
 unfold fA;rw[if_neg d,if_neg c,if_pos h]
def SL(op:cC)(F:bY)(u v:aQ)(a b:aM)(w:aG)(j:PV F w u a)(i:PV F w v b)(o:∀k,F k->k<w.heap.size)(d:aO a<=400000)(h:aO b<=400000):
 Calls prog 268 #[.string (bs op),u,v] w (fD F w (fA op a b)):=by
 have q:=cI op;by_cases f:op=[61,61]
 ·have W:((bs op).toList==[61,61])=true:=by rw[q,f];rfl
  have G:Hid (fA op a b=(bV (cP a b),0)):=by show _=_;unfold fA;rw[if_pos f]
  have K:=aB (vV F 400000 u v a b w j i d o_ o_)
  obtain⟨t,z,rfl⟩:=j.form;obtain⟨Y,Z,rfl⟩:=i.form;clear j i q f;rw[G.out];generalize cP a b=s at*;go_in
  go_wp2_with fail;refine K.mono ?_;rintro e N ⟨rfl,rfl⟩;go_wp2
  go_ret;exact fD.ok (eh _ _) rfl (PV.tru _ _ s)
 have W:((bs op).toList==[61,61])=false:=by rw[q];simpa using f
 by_cases g:op=[33,61]
 ·have e1:((bs op).toList==[33,61])=true:=by rw[q,g];rfl
  have G:Hid (fA op a b=(bV (!cP a b),0)):=by show _=_;unfold fA;rw[if_neg f,if_pos g]
  have K:=aB (vV F 400000 u v a b w j i d o_ o_)
  obtain⟨t,z,rfl⟩:=j.form;obtain⟨Y,Z,rfl⟩:=i.form;clear j i q f g;rw[G.out];generalize cP a b=s at*;go_in
  go_wp2_with fail;refine K.mono ?_;rintro e N ⟨rfl,rfl⟩;go_wp2
  go_ret;exact fD.ok (eh _ _) rfl (PV.tru _ _ (!s))
 have e1:((bs op).toList==[33,61])=false:=by rw[q];simpa using g
 clear q;rcases j.cases with ⟨n,rfl,rfl,h1,X⟩|⟨s,rfl,rfl⟩|⟨s,rfl,rfl⟩|⟨x,c,l,rfl,rfl,V⟩
 ·have S:=mF;rcases i.cases with ⟨L,rfl,rfl,I,H⟩|⟨E,rfl,rfl⟩|⟨E,rfl,rfl⟩|⟨P,O,M,rfl,rfl,C⟩
  ·have p:=mF;rw[i8 f g];have K:=aB (N1 op F n L w h1 X I H);generalize jZ op n L=r at*;clear j i o f g d h;go_in
   go_wp2_with fail;refine K.mono ?_;rintro e N ⟨rfl,⟨m,u1,rfl,A⟩|⟨m,rfl⟩⟩
   ·have G:=aB A;have D:=aB m;obtain⟨U,T,rfl⟩:=A.form;clear A m;go_wp2
    go_ret;exact fD.ofQ ⟨rfl,d7 ⟨D,_,rfl,G⟩⟩
   ·have D:=aB m;clear m;go_wp2_with fail;exact⟨rfl,fD.ofQ ⟨rfl,d6 ⟨D,rfl⟩⟩⟩
  ·have p:=lE;rw[gV f g (by simp[bH,bV])]
   clear j i o f g d h;go_in
   go_wp2_with fail;exact⟨rfl,fD.stop (eh _ _) rfl d_⟩
  ·have p:=mE;rw[gV f g (by simp[bH,bP])]
   clear j i o f g d h;go_in
   go_wp2_with fail;exact⟨rfl,fD.stop (eh _ _) rfl d_⟩
  ·have p:=lC;rw[gV f g (by simp[bH,bB])]
   clear j i o f g d h;go_in
   go_wp2_with fail;exact⟨rfl,fD.stop (eh _ _) rfl d_⟩
 ·have S:=lE;have y:=lD;have B:=iJ;rcases i.cases with ⟨L,rfl,rfl,I,H⟩|⟨E,rfl,rfl⟩|⟨E,rfl,rfl⟩|⟨P,O,M,rfl,rfl,C⟩
  ·have p:=mF;rw[gV f g (by simp[bV,bH])]
   clear j i o f g d h;go_in
   go_wp2_with fail;exact⟨rfl,fD.stop (eh _ _) rfl d_⟩
  ·have p:=lE;rw[gV f g (by simp[bV])]
   clear j i o f g d h;go_in
   go_wp2_with fail;exact⟨rfl,fD.stop (eh _ _) rfl d_⟩
  ·have p:=mE;rw[gV f g (by simp[bV,bP])]
   clear j i o f g d h;go_in
   go_wp2_with fail;exact⟨rfl,fD.stop (eh _ _) rfl d_⟩
  ·have p:=lC;rw[gV f g (by simp[bV,bB])]
   clear j i o f g d h;go_in
   go_wp2_with fail;exact⟨rfl,fD.stop (eh _ _) rfl d_⟩
 ·have S:=mE;have y:=kX;rcases i.cases with ⟨L,rfl,rfl,I,H⟩|⟨E,rfl,rfl⟩|⟨E,rfl,rfl⟩|⟨P,O,M,rfl,rfl,C⟩
  ·have p:=oB;rw[gV f g (by simp[bP,bH])]
   clear j i o f g d h;go_in
   go_wp2_with fail;exact⟨rfl,fD.stop (eh _ _) rfl d_⟩
  ·have p:=lD;rw[gV f g (by simp[bP,bV])]
   clear j i o f g d h;go_in
   go_wp2_with fail;exact⟨rfl,fD.stop (eh _ _) rfl d_⟩
  ·have p:=kX;rw[i7 f g];rw[lL] at d h;have K:=aB (M8 op F s E w o_)
   generalize LE op s E=r at*;clear j i o f g d h;go_in
   go_wp2_with fail;refine K.mono ?_;rintro e N ⟨rfl,⟨m,u1,rfl,A⟩|⟨m,rfl⟩⟩
   ·have G:=aB A;have D:=aB m;obtain⟨U,T,rfl⟩:=A.form;clear A m;go_wp2
    go_ret;exact fD.ofQ ⟨rfl,d7 ⟨D,_,rfl,G⟩⟩
   ·have D:=aB m;clear m;go_wp2_with fail;exact⟨rfl,fD.ofQ ⟨rfl,d6 ⟨D,rfl⟩⟩⟩
  ·have p:=mX;rw[gV f g (by simp[bP,bB])]
   clear j i o f g d h;go_in
   go_wp2_with fail;exact⟨rfl,fD.stop (eh _ _) rfl d_⟩
 ·have S:=lC;have y:=mX;have B:=iI;rcases i.cases with ⟨L,rfl,rfl,I,H⟩|⟨E,rfl,rfl⟩|⟨E,rfl,rfl⟩|⟨P,O,M,rfl,rfl,C⟩
  ·have p:=jT;rw[gV f g (by simp[bB,bH])]
   clear j i o f g d h;go_in
   go_wp2_with fail;exact⟨rfl,fD.stop (eh _ _) rfl d_⟩
  ·have p:=iJ;rw[gV f g (by simp[bB,bV])]
   clear j i o f g d h;go_in
   go_wp2_with fail;exact⟨rfl,fD.stop (eh _ _) rfl d_⟩
  ·have p:=lB;rw[gV f g (by simp[bB,bP])]
   clear j i o f g d h;go_in
   go_wp2_with fail;exact⟨rfl,fD.stop (eh _ _) rfl d_⟩
  ·have p:=iI;rw[J4 f g];have K:=aB (XQ op F x P c O l M w V C o o_)
   generalize zD op l M=r at*;clear j i o f g d h V C;go_in
   go_wp2_with fail;refine K.mono ?_;rintro e N ⟨J,⟨m,u1,rfl,A⟩|⟨m,rfl⟩⟩
   ·have G:=aB A;have D:=aB m;have Q:=aB J;obtain⟨U,T,rfl⟩:=A.form;clear A m J;go_wp2
    go_ret;exact⟨Q,d7 ⟨D,_,rfl,G⟩⟩
   ·have D:=aB m;have Q:=aB J;clear m J;go_wp2_with fail;exact⟨rfl,Q,d6 ⟨D,rfl⟩⟩
end Go.Proofs.YtlflgmdcghfngaaGreatDoor
