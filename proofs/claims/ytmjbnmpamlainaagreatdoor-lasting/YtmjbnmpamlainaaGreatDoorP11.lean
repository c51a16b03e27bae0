/- Contracts of the program: the states ahead of a moment, over one stretch: the walk. -/
import Derived.Test.YtmjbnmpamlainaaGreatDoorB10
import Derived.Test.YtmjbnmpamlainaaGreatDoorP09
set_option linter.defProp false
set_option maxRecDepth 100000
set_option maxHeartbeats 4000000
namespace Go.Proofs.YtmjbnmpamlainaaGreatDoor
open Hs
open _root_.Go.Proofs.Tryz
open Go.RowKit
attribute [local go_sem] Oper.semAt_some
structure ElS(W:aG)(g i:Nat)(s':SV):Prop where
 c0:W.cell? (aH g (i*5))=some (Iv0 s'.t)
 c1:W.cell? (aH g (i*5+1))=some (.slice s'.x1 s'.n1 s'.c1)
 c2:W.cell? (aH g (i*5+2))=some (.slice s'.x2 s'.n2 s'.c2)
 c3:W.cell? (aH g (i*5+3))=some (.slice s'.x3 s'.n3 s'.c3)
 c4:W.cell? (aH g (i*5+4))=some (Iv0 s'.q)
def YJ(l bs g n a:Nat)(vs:Nat->SV)(W:aG)(J:Nat->World->Prop)(Zd Zs:World->Prop)(O:n<=1000000)
 (k:W.cell? (aH bs 0)=some (.slice (some (aH g 0)) n a)) (_hbs:bs<W.heap.size) (v:J n W)
 (F:Hid (∀i V,i<n->J (i+1) V->V.cell? (aH bs 0)=some (.slice (some (aH g 0)) n a)/\bs<V.heap.size/\g<V.heap.size/\ElS V g i (vs i)/\
   YieldAt Fence.wide 0 prog l #[Iv0 i,(vs i).val] V fun e A=>(e=aZ (.bool true)/\J i A)\/(e=aZ (.bool false)/\Zs A)))
 (K:Hid (∀V,J 0 V->Zd V)):
 Calls prog 66 #[.func (.yield l) #[] #[],bH bs] W fun e t=>e=aZ (.tuple #[])/\(Zd t\/Zs t):=by
 have s:=aB v;clear v;go_in
 go_wp2_with fail;go_loopg [3] n (fun gk I wr=>gk<=n/\I=Iv0 ((gk:Int)-1)/\J gk wr)
 case atStart=>exact⟨cy_ _,by go_num,s⟩
 case round=>
  obtain⟨G,rfl,f⟩:=hrel;cases gk with
  |zero=>
   have p:=aB (K _ f);clear f;go_wp2
   go_end0;exact⟨rfl,cl_ p⟩
  |succ i=>
   obtain⟨z,w,q,⟨r,B,y,C,E⟩,N,x,d,u,o,D⟩:=F i wr (by omega) f
   have m:=aB D;unfold SV.val at o;have L:(0:Int)<=(i:Int):=by omega
   have P:(i:Int)<(n:Int):=by omega
   have H:(((i+1:Nat):Int))-1=(i:Int):=by omega
   rw[H];clear D f k s;refine(wpIn_wide (n:=0)).1 ?_;gi_wp2
   refine⟨rfl,m.mono ?_⟩;rintro e M (⟨rfl,c⟩|⟨rfl,b⟩)
   ·have h:=aB c;clear c o m z w q r B y C E;gi_wp2
    go_roundg i
    case measure=>omega
    case rel=>exact⟨by omega,by go_num,h⟩
   ·have j:=aB b;clear b o m z w q r B y C E;gi_wp2
    exact bodyPost_ret (results_none rfl _ _ _) rfl ⟨rfl,ck_ j⟩
def oE:World->List Nat->World
 |w,[]=>w
 |w,b::l=>oE (w.putObj b (.deferred none)) l
abbrev mark(b:Nat):Deferred:={ target:=.collected b,args:= #[] }
def qG{P:Program}{fn:Func}{tmps:Array Value}{R:Ending->World->Prop}(a:fn.results= #[]):∀(bs:List Nat) (w:aG),bs.Nodup->(∀b∈bs,w.heap[b]?=some (.deferred (some [])))->R (aZ (.tuple #[])) (oE w bs)->LeavesInM Fence.wide 0 P fn tmps R (bs.map mark) .returning w
 |[],w,_,_,h=>⟨_,results_none a _ _ _,h⟩
 |b::bs,w,i,c,h=>by
  obtain⟨g,f⟩:=cB_.1 i;refine⟨by simp,.inl ⟨_,_,rfl,run_takeDeferred (c b (cJ_ ..)),?_⟩⟩
  exact qG a bs _ f (fun x d=>by rw[World.putObj_heap_other (fun e=>g (by rw[<-e];exact d))];exact c x (cx_ _ d)) h
def tK(a b:cD):bs a++bs b=bs (a++b):=by
 apply k9
 rw[fX,ByteArray.data_append];simp[bs]
def SZ(f:Nat):∀n t,(kC f n t).length<=t.length+f:=by
 induction f with
 |zero=>intro n t;simp[kC]
 |succ f a=>
  intro n t;rw[kC];split
  ·simp
  ·have:=a (n/10) (UInt8.ofNat (48+n%10)::t);rw[ct_] at this;omega
def NZ(n:Int):(iZ n).length<=21:=by
 unfold iZ;have:=SZ 20 n.natAbs [];rw[cp_];split<;>simp at this ⊢<;>omega
def vK(l:List aM)(h:∀x∈l,(cH x).length+2<=24*aN x):(fU (l.map cH)).length<=24*(l.map aN).sum:=by
 induction l with
 |nil=>simp[fU]
 |cons y r a=>
  have d:=h y (by simp)
  have b:=a fun x c=>h x (by simp[c])
  cases r with
  |nil=>simp[fU];omega
  |cons z r=>
   simp only[cE_,fU,cp_,cH_,ct_,cA_] at b ⊢
   omega
def zE:∀v:aM,(cH v).length+2<=24*aN v:=by
 refine aM.ind fun v a=>?_
 have c:=vK v.l a;have b:=NZ v.n;rw[kQ,fJ];split
 ·omega
 split
 ·split<;>simp<;>omega
 split
 ·simp;omega
 ·simp;omega
def D0(s:cD):(⟨#[34]⟩:ByteArray)++bs s=bs (34::s):=tK [34] s
def D3(s:cD):bs s++(⟨#[34]⟩:ByteArray)=bs (s++[34]):=tK s [34]
def UB(n:Int):lR n=wrap64 n:=by unfold lR wrap64;rfl
def Hs.oneL_neg{op:cD}{a:aM}(h:op=[45,120])(b:a.sort=0):fW op a=(bG (wrap64 (-a.n)),0):=by
 rw[<-UB];unfold fW;rw[if_pos ⟨h,b⟩]
def ZU(n:Int)(a: -9223372036854775808<=n)(b:n<=9223372036854775807):lR n=n:=by unfold lR;omega
def S2(x y:Int)(b: -9223372036854775808<=x)(a:x<=9223372036854775807): -9223372036854775808<=x.tmod y/\x.tmod y<=9223372036854775807:=by
 have h:(x.tmod y).natAbs=x.natAbs%y.natAbs:=Int.natAbs_tmod x y;have d:x.natAbs%y.natAbs<=x.natAbs:=Nat.mod_le _ _;by_cases c:0<=x
 ·have:=Int.tmod_nonneg y c;omega
 ·have:x.tmod y<=0:=by
   have:=Int.tmod_nonneg y (show 0<= -x by omega)
   rw[Int.neg_tmod] at this;omega
  omega
def Grow(F:bX)(w w':aG)(b:Nat):Prop:=F b\/(w.heap.size<=b/\b<w'.heap.size)
def vL:∀l m:cD,Op.bytesLess l m=gZ l m
 |[],[]=>rfl
 |[],_::_=>rfl
 |_::_,[]=>rfl
 |a::l,b::m=>by
  rw[Op.bytesLess,gZ,vL l m];by_cases c:a.toNat<b.toNat
  ·rw[if_pos c,decide_eq_true (UInt8.lt_iff_toNat_lt.2 c),Bool.true_or]
  ·rw[if_neg c,decide_eq_false (fun h=>c (UInt8.lt_iff_toNat_lt.1 h)),Bool.false_or]
   by_cases d:b.toNat<a.toNat
   ·rw[if_pos d,beq_eq_false_iff_ne.2 (fun e=>by rw[e] at d;omega),Bool.false_and]
   ·rw[if_neg d,show a=b from dJ_.1 (by omega),beq_self_eq_true,Bool.true_and]
def LI:∀l m:cD,(gZ l m || l==m)= !gZ m l
 |[],[]=>rfl
 |[],_::_=>rfl
 |_::_,[]=>rfl
 |a::l,b::m=>by
  rw[gZ,gZ];by_cases d:a.toNat<b.toNat
  ·rw[if_pos d,if_neg (by omega),if_pos d];rfl
  ·by_cases c:b.toNat<a.toNat
   ·rw[if_neg d,if_pos c,if_pos c];have:(a::l==b::m)=false:=beq_eq_false_iff_ne.2 (fun e=>by rw[List.cons.injEq] at e;rw[e.1] at c;omega)
    rw[this];rfl
   ·rw[if_neg d,if_neg c,if_neg c,if_neg d,<-LI l m,show a=b from dJ_.1 (by omega)]
    simp
abbrev fR(k:Nat):Ending:=.panicked [{ v:=.iface 204 (Iv0 k),recovered:=false }]
def VLr(R:Value->aM->Prop)(F:bX)(w:aG)(sv:aQ)(l:List aM):Prop:=
 (l=[]/\sv=bF)\/
 ∃g cap cur,sv=.slice (some (aH g 0)) l.length cap/\F g/\w.heap[g]?=some (.cells cur 129 (0,0))/\l.length<=cap/\∀i (h:i<l.length),∃u,cur[i]?=some u/\R u l[i]
def VR:Nat->(Nat->Prop)->World->Value->aM->Prop
 |0,_,_,_,_=>False
 |d+1,F,w,v,a=>
  (∃n,v=.iface 209 (Iv0 n)/\a=bG n/\ -9223372036854775808<=n/\n<=9223372036854775807)\/
  (∃b,v=.iface 211 (.bool b)/\a=bT b)\/
  (∃s,v=.iface 213 (.string (bs s))/\a=bO s)\/
  (∃sv l,v=.iface 214 sv/\a=bA l/\VLr (VR d F w) F w sv l)
def VLr.mono{R S:Value->aM->Prop}{F G:bX}{w:aG}{e:aQ}{l:List aM}(h:VLr R F w e l)(s:∀v a,R v a->S v a)(o:∀b,F b->G b):VLr S G w e l:=by
 rcases h with h|⟨g,c,d,m,j,p,k,n⟩
 ·exact cl_ h
 ·refine ck_ ⟨g,c,d,m,o _ j,p,k,fun i q=>?_⟩
  obtain⟨u,f,r⟩:=n i q;exact⟨u,f,s _ _ r⟩
def VLr.keep{R:Value->aM->Prop}{F:bX}{w w':aG}{e:aQ}{l:List aM}(h:VLr R F w e l)(f:∀b,F b->w'.heap[b]?=w.heap[b]?):VLr R F w' e l:=by
 rcases h with h|⟨g,c,a,j,d,m,i,k⟩
 ·exact cl_ h
 ·exact ck_ ⟨g,c,a,j,d,by rw[f g d];exact m,i,k⟩
def VR.mono{F G:bX}{w:aG}(c:∀b,F b->G b):∀{d e:Nat} {v:aQ} {a:aM},VR d F w v a->d<=e->VR e G w v a
 |0,_,_,_,h,_=>h.elim
 |d+1,0,_,_,_,h=>by omega
 |d+1,e+1,v,a,h,f=>by
  rcases h with h|h|h|⟨i,l,j,g,k⟩
  ·exact cl_ h
  ·exact ck_ (cl_ h)
  ·exact ck_ (ck_ (cl_ h))
  ·exact ck_ (ck_ (ck_ ⟨i,l,j,g,k.mono (fun _ _ h=>VR.mono c h (by omega)) c⟩))
def VR.keep{F:bX}{w w':aG}(c:∀b,F b->w'.heap[b]?=w.heap[b]?):∀{d:Nat} {v:aQ} {a:aM},VR d F w v a->VR d F w' v a
 |0,_,_,h=>h.elim
 |d+1,v,a,h=>by
  rcases h with h|h|h|⟨f,l,g,e,i⟩
  ·exact cl_ h
  ·exact ck_ (cl_ h)
  ·exact ck_ (ck_ (cl_ h))
  ·exact ck_ (ck_ (ck_ ⟨f,l,g,e,(i.mono (fun _ _ h=>VR.keep c h) dX).keep c⟩))
def PV(F:bX)(w:aG)(v:aQ)(a:aM):Prop:=∃d,VR d F w v a
def PV.mono{F G:bX}{w:aG}{v:aQ}{a:aM}(h:PV F w v a)(c:∀b,F b->G b):PV G w v a:=by
 obtain⟨d,h⟩:=h;exact⟨d,h.mono c cL⟩
def PV.keep{F:bX}{w w':aG}{v:aQ}{a:aM}(h:PV F w v a)(c:∀b,F b->w'.heap[b]?=w.heap[b]?):PV F w' v a:=by
 obtain⟨d,h⟩:=h;exact⟨d,h.keep c⟩
def PV.num(F:bX)(w:aG)(n:Int)(b: -9223372036854775808<=n)(a:n<=9223372036854775807):PV F w (.iface 209 (Iv0 n)) (bG n):=⟨1,cl_ ⟨n,rfl,rfl,b,a⟩⟩
def PV.tru(F:bX)(w:aG)(b:Bool):PV F w (.iface 211 (.bool b)) (bT b):=⟨1,ck_ (cl_ ⟨b,rfl,rfl⟩)⟩
def PV.str(F:bX)(w:aG)(s:cD):PV F w (.iface 213 (.string (bs s))) (bO s):=⟨1,ck_ (ck_ (cl_ ⟨s,rfl,rfl⟩))⟩
def PVs(F:bX)(w:aG)(sv:aQ)(l:List aM):Prop:=VLr (PV F w) F w sv l
def TA{F:bX}{w:aG}{cur:Array Value}:∀(l:List aM) (o:Nat),(∀i (h:i<l.length),∃u,cur[o+i]?=some u/\PV F w u l[i])->∃d,∀i (h:i<l.length),∃u,cur[o+i]?=some u/\VR d F w u l[i]
 |[],_,_=>⟨0,fun i h=>by simp at h⟩
 |a::l,o,h=>by
  obtain⟨u,m,d,f⟩:=h 0 (by simp)
  obtain⟨e,g⟩:=TA (F:=F) (w:=w) (cur:=cur) l (o+1) fun i b=>by
   have:=h (i+1) (by simpa using b)
   rw[show o+1+i=o+(i+1) by omega]
   simpa using this
  refine⟨max d e,fun i b=>?_⟩
  cases i with
  |zero=>exact⟨u,m,f.mono dX (Nat.le_max_left _ _)⟩
  |succ i=>
   obtain⟨j,c,k⟩:=g i (by simpa using b)
   rw[show o+1+i=o+(i+1) by omega] at c
   exact⟨j,c,k.mono dX (Nat.le_max_right _ _)⟩
def PV.lst{F:bX}{w:aG}{b:aQ}{l:List aM}(h:PVs F w b l):PV F w (.iface 214 b) (bA l):=by
 rcases h with h|⟨g,c,a,j,f,m,i,k⟩
 ·exact⟨1,ck_ (ck_ (ck_ ⟨b,l,rfl,rfl,cl_ h⟩))⟩
 ·obtain⟨d,e⟩:=TA (cur:=a) l 0 (by simpa using k)
  exact⟨d+1,ck_ (ck_ (ck_ ⟨b,l,rfl,rfl,ck_ ⟨g,c,a,j,f,m,i,by simpa using e⟩⟩))⟩
def PV.cases{F:bX}{w:aG}{v:aQ}{a:aM}(h:PV F w v a):
 (∃n,v=.iface 209 (Iv0 n)/\a=bG n/\ -9223372036854775808<=n/\n<=9223372036854775807)\/
 (∃b,v=.iface 211 (.bool b)/\a=bT b)\/
 (∃s,v=.iface 213 (.string (bs s))/\a=bO s)\/
 (∃x c l,v=.iface 214 (.slice x l.length c)/\a=bA l/\PVs F w (.slice x l.length c) l):=by
 obtain⟨d,h⟩:=h;cases d with
 |zero=>exact h.elim
 |succ d=>
  rcases h with h|h|h|⟨o,l,i,e,j⟩
  ·exact cl_ h
  ·exact ck_ (cl_ h)
  ·exact ck_ (ck_ (cl_ h))
  ·refine ck_ (ck_ (ck_ ?_));have f:PVs F w o l:=j.mono (fun _ _ h=>⟨d,h⟩) dX
   rcases j with ⟨rfl,rfl⟩|⟨g,k,m,rfl,_⟩
   ·exact⟨none,0,[],i,e,f⟩
   ·exact⟨_,_,l,i,e,f⟩
def qB(F:bX)(v:aQ)(a:aM)(w:aG)(h:PV F w v a):
 Calls prog 253 #[v] w fun e d=>d=w/\((a.sort=1/\e=aZ (.bool (decide (a.n=1))))\/(a.sort≠1/\e=fR 2)):=by
 rcases h.cases with ⟨n,rfl,rfl,_,_⟩|⟨b,rfl,rfl⟩|⟨s,rfl,rfl⟩|⟨x,c,l,rfl,rfl,_⟩
 ·clear h;have q:=OZ;go_in
  go_wp2_with fail;exact⟨rfl,rfl,ck_ ⟨by simp[bG],rfl⟩⟩
 ·clear h;have q:=vQ;go_in
  go_wp2
  go_ret;exact⟨rfl,cl_ ⟨rfl,by cases b<;>rfl⟩⟩
 ·clear h;have q:=zF;go_in
  go_wp2_with fail;exact⟨rfl,rfl,ck_ ⟨by simp[bO],rfl⟩⟩
 ·clear h;have q:=vP;go_in
  go_wp2_with fail;exact⟨rfl,rfl,ck_ ⟨by simp[bA],rfl⟩⟩
def mE(F:bX)(w:aG)(r:aM × Nat)(e:Ending)(w':aG):Prop:=w'=w/\((r.2=0/\∃u,e=aZ u/\PV F w u r.1)\/(r.2≠0/\e=fR r.2))
def mE.ok{F:bX}{w:aG}{r:aM × Nat}{u:aQ}{a:aM}(b:r=(a,0))(h:PV F w u a):mE F w r (aZ u) w:=by subst b;exact⟨rfl,cl_ ⟨rfl,u,rfl,h⟩⟩
def mE.stop{F:bX}{w:aG}{r:aM × Nat}{a:aM}{k:Nat}(c:r=(a,k))(b:k≠0):mE F w r (fR k) w:=by subst c;exact⟨rfl,ck_ ⟨b,rfl⟩⟩
def YP(n:Int): -9223372036854775808<=lR n/\lR n<=9223372036854775807:=by unfold lR;omega
def PV.wrap(F:bX)(w:aG)(n:Int):PV F w (.iface 209 (Iv0 (wrap64 n))) (bG (lR n)):=by
 rw[<-UB];exact PV.num F w _ (YP n).1 (YP n).2
def E0(op:cD)(F:bX)(x y:Int)(w:aG)(s: -9223372036854775808<=x)(q:x<=9223372036854775807)(v: -9223372036854775808<=y)(z:y<=9223372036854775807):
 Calls prog 257 #[.string (bs op),Iv0 x,Iv0 y] w (mE F w (kA op x y)):=by
 have a:=cE op;obtain⟨r,b⟩:∃r,r=kA op x y:=⟨_,rfl⟩;rw[<-b];unfold kA at b;by_cases m:op=[43]
 ·rw[if_pos m] at b;have f:((bs op).toList==[60])=false:=by rw[a,m];rfl
  have g:((bs op).toList==[60,61])=false:=by rw[a,m];rfl
  have e:((bs op).toList==[43])=true:=by rw[a,m];rfl
  have d:((bs op).toList==[45])=false:=by rw[a,m];rfl
  have c:((bs op).toList==[42])=false:=by rw[a,m];rfl
  have h:=aB b;clear a b m;go_in
  go_wp2
  go_ret;exact mE.ok h (PV.wrap F w (x+y))
 rw[if_neg m] at b;have e:((bs op).toList==[43])=false:=by rw[a];simpa using m
 clear m;by_cases j:op=[45]
 ·rw[if_pos j] at b;have f:((bs op).toList==[60])=false:=by rw[a,j];rfl
  have g:((bs op).toList==[60,61])=false:=by rw[a,j];rfl
  have e:((bs op).toList==[43])=false:=by rw[a,j];rfl
  have d:((bs op).toList==[45])=true:=by rw[a,j];rfl
  have c:((bs op).toList==[42])=false:=by rw[a,j];rfl
  have h:=aB b;clear a b j;go_in
  go_wp2
  go_ret;exact mE.ok h (PV.wrap F w (x-y))
 rw[if_neg j] at b;have d:((bs op).toList==[45])=false:=by rw[a];simpa using j
 clear j;by_cases i:op=[42]
 ·rw[if_pos i] at b;have f:((bs op).toList==[60])=false:=by rw[a,i];rfl
  have g:((bs op).toList==[60,61])=false:=by rw[a,i];rfl
  have e:((bs op).toList==[43])=false:=by rw[a,i];rfl
  have d:((bs op).toList==[45])=false:=by rw[a,i];rfl
  have c:((bs op).toList==[42])=true:=by rw[a,i];rfl
  have h:=aB b;clear a b i;go_in
  go_wp2
  go_ret;exact mE.ok h (PV.wrap F w (x*y))
 rw[if_neg i] at b;have c:((bs op).toList==[42])=false:=by rw[a];simpa using i
 clear i;by_cases k:op=[60]
 ·rw[if_pos k] at b;have f:((bs op).toList==[60])=true:=by rw[a,k];rfl
  have g:((bs op).toList==[60,61])=false:=by rw[a,k];rfl
  have e:((bs op).toList==[43])=false:=by rw[a,k];rfl
  have d:((bs op).toList==[45])=false:=by rw[a,k];rfl
  have c:((bs op).toList==[42])=false:=by rw[a,k];rfl
  have h:=aB b;clear a b k;go_in
  go_wp2
  go_ret;exact mE.ok h (PV.tru F w (decide (x<y)))
 rw[if_neg k] at b;have f:((bs op).toList==[60])=false:=by rw[a];simpa using k
 clear k;by_cases l:op=[60,61]
 ·rw[if_pos l] at b;have f:((bs op).toList==[60])=false:=by rw[a,l];rfl
  have g:((bs op).toList==[60,61])=true:=by rw[a,l];rfl
  have e:((bs op).toList==[43])=false:=by rw[a,l];rfl
  have d:((bs op).toList==[45])=false:=by rw[a,l];rfl
  have c:((bs op).toList==[42])=false:=by rw[a,l];rfl
  have h:=aB b;clear a b l;go_in
  go_wp2
  go_ret;exact mE.ok h (PV.tru F w (decide (x<=y)))
 rw[if_neg l] at b;have g:((bs op).toList==[60,61])=false:=by rw[a];simpa using l
 clear l;by_cases o:y=0
 ·rw[if_pos o] at b;subst o;have h:=aB b;clear a b;go_in
  go_wp2_with fail;exact⟨rfl,mE.stop h (by decide)⟩
 rw[if_neg o] at b;have A:(y==0)=false:=by simpa using o
 by_cases n:op=[47]
 ·rw[if_pos n] at b;have u:((bs op).toList==[47])=true:=by rw[a,n];rfl
  have h:=aB b;clear a b n;go_in
  go_wp2
  go_ret;exact mE.ok h (PV.wrap F w (x.tdiv y))
 ·rw[if_neg n] at b;have u:((bs op).toList==[47])=false:=by rw[a];simpa using n
  have p:=S2 x y s q;rw[ZU _ p.1 p.2] at b;have h:=aB b;have t:=aB p;clear a b n p;go_in
  go_wp2
  go_ret;exact mE.ok h (PV.num F w (x.tmod y) t.1 t.2)
def EH(o:UInt8)(z:o=45\/o=33)(F:Nat->Prop)(v:Value)(a:aM)(w:World)(h:PV F w v a):
 Calls prog 252 #[.string (bs [o]),v] w (mE F w (fW [o,120] a)):=by
 rcases z with rfl|rfl
 ·have A:((bs [45]).toList==[33])=false:=by rw[cE];rfl
  rcases h.cases with ⟨n,rfl,rfl,D,C⟩|⟨b,rfl,rfl⟩|⟨s,rfl,rfl⟩|⟨x,c,l,rfl,rfl,_⟩
  ·have p:=aB (Hs.oneL_neg (op:=[45,120]) (a:=bG n) rfl rfl);have q:=mH;clear h;generalize fW [45,120] (bG n)=r at*;go_enter func252,ntmps252;go_wp2_with fail;go_ret;exact mE.ok p.out (by have i:=PV.wrap F w (-n);rw[UB] at i;exact i)
  ·have q:=lH;clear h;go_enter func252,ntmps252;go_wp2_with fail;exact⟨rfl,mE.stop (a:=bR) (by unfold fW;simp[bT]) (by decide)⟩
  ·have q:=mG;clear h;go_enter func252,ntmps252;go_wp2_with fail;exact⟨rfl,mE.stop (a:=bR) (by unfold fW;simp[bO]) (by decide)⟩
  ·have q:=lF;clear h;go_enter func252,ntmps252;go_wp2_with fail;exact⟨rfl,mE.stop (a:=bR) (by unfold fW;simp[bA]) (by decide)⟩
 ·have A:((bs [33]).toList==[33])=true:=by rw[cE];rfl
  have B:=aB (qB F v a w h);obtain⟨r,j⟩:∃r,r=fW [33,120] a:=⟨_,rfl⟩;rw[<-j];have k:=aB j
  have d:∃t u,v=.iface t u:=by
   rcases h.cases with ⟨n,rfl,_⟩|⟨b,rfl,_⟩|⟨s,rfl,_⟩|⟨x,c,l,rfl,_⟩<;>exact⟨_,_,rfl⟩
  obtain⟨t,u,rfl⟩:=d;have y:=aB h.cases;clear h j;go_enter func252,ntmps252;go_wp2_with fail;refine B.out.mono ?_;rintro e m ⟨rfl,⟨g,rfl⟩|⟨g,rfl⟩⟩
  ·have f:=aB g;clear g;go_wp2_with fail;go_ret;refine mE.ok (a:=bT (!decide (a.n=1))) ?_ (PV.tru F m (!decide (a.n=1)));rw[k.out];unfold fW;rw[if_neg (by simp),if_pos ⟨rfl,f.out⟩]
   rcases y.out with ⟨n,_,rfl,_⟩|⟨b,_,rfl⟩|⟨s,_,rfl⟩|⟨x,c,l,_,rfl,_⟩
   ·have:=f.out;simp[bG] at this
   ·cases b<;>rfl
   ·have:=f.out;simp[bO] at this
   ·have:=f.out;simp[bA] at this
  ·have f:=aB g;clear g;go_wp2_with fail;exact⟨rfl,mE.stop (a:=bR) (by rw[k.out];unfold fW;rw[if_neg (by simp),if_neg (fun i=>f.out i.2)]) (by decide)⟩
def PVs.get{F:bX}{w:aG}{x:Option Addr}{n c:Nat}{l:List aM}(h:PVs F w (.slice x n c) l)(i:Nat)(hi:i<l.length):∃g u,x=some (aH g 0)/\n=l.length/\F g/\g<w.heap.size/\l.length<=c/\w.cell? (aH g i)=some u/\PV F w u l[i]:=by
 rcases h with ⟨rfl,_⟩|⟨g,j,m,f,d,a,e,k⟩
 ·simp at hi
 ·cases f;obtain⟨u,b,o⟩:=k i hi;exact⟨g,u,rfl,rfl,d,aC a,e,aA a b,o⟩
def PV.form{F:bX}{w:aG}{v:aQ}{a:aM}(h:PV F w v a):∃t u,v=.iface t u:=by
 rcases h.cases with ⟨n,rfl,_⟩|⟨b,rfl,_⟩|⟨s,rfl,_⟩|⟨x,c,l,rfl,_⟩<;>exact⟨_,_,rfl⟩
def PVs.keep{F:bX}{w w':aG}{c:aQ}{l:List aM}(h:PVs F w c l)(a:∀b,F b->w'.heap[b]?=w.heap[b]?):PVs F w' c l:=(VLr.mono h (fun _ _ h=>h.keep a) dX).keep a
def PVs.mono{F G:bX}{w:aG}{a:aQ}{l:List aM}(h:PVs F w a l)(c:∀b,F b->G b):PVs G w a l:=VLr.mono h (fun _ _ h=>h.mono c) c
def O4(n:Int):aN (bG n)=1:=by rw[fJ];simp[bG]
def O2(b:Bool):aN (bT b)=1:=by rw[fJ];simp[bT]
def lO(s:cD):aN (bO s)=1+s.length:=by rw[fJ];simp[bO]
def jN(l:List aM):aN (bA l)=1+(l.map aN).sum:=by rw[fJ];simp[bA]
def mQ{l:List aM}{a:aM}(h:a∈l):aN a<=(l.map aN).sum:=by
 induction l with
 |nil=>cases h
 |cons x l b=>
  simp only[cE_,cH_];rcases cv_.1 h with rfl|h
  ·omega
  ·have:=b h;omega
def tJ(a:aM):1<=aN a:=by rw[fJ];omega
def kH(l:List aM):l.length<=(l.map aN).sum:=by
 induction l with
 |nil=>simp
 |cons x l a=>simp only[cE_,cH_,ct_];have:=tJ x;omega
def OT(F:bX)(k:Nat):Prop:=∀(v:aQ) (a:aM) (w:aG),PV F w v a->aN a<=k->k<=1000000000->Calls prog 247 #[v] w fun e w'=>w'=w/\e=aZ (Iv0 (aN a:Nat))
def QO(F:bX)(k:Nat)(f:OT F k):OT F (k+1):=by
 intro v a w h p O;rcases h.cases with ⟨n,rfl,rfl,P,M⟩|⟨b,rfl,rfl⟩|⟨s,rfl,rfl⟩|⟨x,c,l,rfl,rfl,E⟩
 ·have q:=nU;have G:=jU;rw[O4];clear h f p;go_in
  go_wp2
  go_ret;exact⟨rfl,rfl⟩
 ·have q:=lG;have G:=iH;rw[O2];clear h f p;go_in
  go_wp2
  go_ret;exact⟨rfl,rfl⟩
 ·have q:=kZ;have U:(bs s).size=s.length:=gR s;rw[lO] at p ⊢
  clear h f;go_in
  go_wp2
  go_ret;exact⟨rfl,by go_num⟩
 ·have q:=mX;have G:=iG;have D:=kH l;rw[jN] at p ⊢
  have A:=aB f;have J:=aB E;clear h f E;go_in
  go_wp2_with fail;go_loopg [5,7,20] l.length (fun gk s _ i wr=>∃j:Nat,j+gk=l.length/\i=Iv0 j/\s=Iv0 ((1+((l.map aN).take j).sum:Nat):Int)/\wr=w)
  case atStart=>exact⟨0,by omega,rfl,rfl,rfl⟩
  case round=>
   obtain⟨j,W,rfl,rfl,rfl⟩:=hrel;by_cases d:j<l.length
   ·obtain⟨m,rfl⟩:∃m,gk=m+1:=⟨gk-1,by omega⟩
    obtain⟨g,u,rfl,V,T,N,C,z,B⟩:=J.get j d;have o:l[j]∈l:=cG_ d;have H:=mQ o;have K:=aB (A u l[j] wr B (by omega) (by omega))
    obtain⟨t,S,rfl⟩:=B.form
    have r:((l.map aN).take (j+1)).sum=((l.map aN).take j).sum+aN l[j]:=by
     rw[cK_ (by simpa using d),ds_];simp only[List.getElem_map,cH_,c6_,Nat.add_zero]
    have I:((l.map aN).take (j+1)).sum<=(l.map aN).sum:=by
     have e:(l.map aN).sum=((l.map aN).take (j+1)++(l.map aN).drop (j+1)).sum:=by rw[cY_]
     rw[e,ds_];omega
    generalize aN l[j]=Q at*;clear B;go_wp2_with fail;refine K.mono ?_;rintro e L ⟨rfl,rfl⟩;go_wp2
    go_roundg m
    case measure=>omega
    case rel=>exact⟨j+1,by omega,by go_num,by rw[r];go_num,rfl⟩
   ·have y:j=l.length:=by omega
    subst y;go_wp2
    go_ret;exact⟨rfl,by rw[cS_ (by simp)];rfl⟩
def EN(F:bX):∀k,OT F k
 |0=>fun v a w _ h=>by have:=tJ a;omega
 |k+1=>QO F k (EN F k)
def nK(F:bX)(v:aQ)(a:aM)(w:aG)(h:PV F w v a)(g:aN a<=1000000000):
 Calls prog 246 #[v] w fun e d=>d=w/\((aN a<=200/\e=aZ v)\/(200<aN a/\e=fR 6)):=by
 have b:=aB (EN F 1000000000 v a w h g cL);obtain⟨t,u,rfl⟩:=h.form;clear h;generalize aN a=n at*;by_cases f:n<=200
 ·have e:decide ((200:Int)<(n:Int))=false:=decide_eq_false (by omega)
  go_in
  go_wp2_with fail;refine b.mono ?_;rintro e c ⟨rfl,rfl⟩;go_wp2
  go_ret;exact⟨rfl,cl_ ⟨f,rfl⟩⟩
 ·have e:decide ((200:Int)<(n:Int))=true:=decide_eq_true (by omega)
  go_in
  go_wp2_with fail;refine b.mono ?_;rintro e c ⟨rfl,rfl⟩;go_wp2_with fail;exact⟨rfl,rfl,ck_ ⟨by omega,rfl⟩⟩
def uZ(F:bX)(v:aQ)(a:aM)(n:Nat)(w:aG)(h:PV F w v a)(_hn:n<=1000000000):
 Calls prog 250 #[v,Iv0 n] w fun e g=>g=w/\((a.sort≠0/\e=fR 2)\/(a.sort=0/\(a.n<0\/(n:Int)<=a.n)/\e=fR 4)\/(a.sort=0/\∃k:Nat,k<n/\a.n=k/\e=aZ (Iv0 k))):=by
 rcases h.cases with ⟨m,rfl,rfl,p,o⟩|⟨b,rfl,rfl⟩|⟨s,rfl,rfl⟩|⟨x,c,l,rfl,rfl,_⟩
 ·have q:=mH;clear h;by_cases f:m<0
  ·have j:decide (m<0)=true:=decide_eq_true f;go_in
   go_wp2_with fail;exact⟨rfl,rfl,ck_ (cl_ ⟨rfl,cl_ f,rfl⟩)⟩
  have j:decide (m<0)=false:=decide_eq_false f;by_cases d:(n:Int)<=m
  ·have i:decide ((n:Int)<=m)=true:=decide_eq_true d;go_in
   go_wp2_with fail;exact⟨rfl,rfl,ck_ (cl_ ⟨rfl,ck_ d,rfl⟩)⟩
  ·have i:decide ((n:Int)<=m)=false:=decide_eq_false d;go_in
   go_wp2
   go_ret;exact⟨rfl,ck_ (ck_ ⟨rfl,m.toNat,by omega,by show m=_;omega,by rw[Int.toNat_of_nonneg (by omega)];rfl⟩)⟩
 ·have q:=lH;clear h;go_in
  go_wp2_with fail;exact⟨rfl,rfl,cl_ ⟨by simp[bT],rfl⟩⟩
 ·have q:=mG;clear h;go_in
  go_wp2_with fail;exact⟨rfl,rfl,cl_ ⟨by simp[bO],rfl⟩⟩
 ·have q:=lF;clear h;go_in
  go_wp2_with fail;exact⟨rfl,rfl,cl_ ⟨by simp[bA],rfl⟩⟩
def MT(F:bX)(x:Option Addr)(c:Nat)(l:List aM)(w:aG)(h:PVs F w (.slice x l.length c) l)(d:aN (bA l)<=1000000000):
 Calls prog 244 #[.slice x l.length c] w fun e b=>b=w/\((aN (bA l)<=200/\e=aZ (.iface 214 (.slice x l.length c)))\/(200<aN (bA l)/\e=fR 6)):=by
 have f:=aB (nK F _ _ w (PV.lst h) d);clear h;generalize aN (bA l)=n at*;go_in
 go_wp2_with fail;refine f.mono ?_;rintro e g ⟨rfl,⟨a,rfl⟩|⟨a,rfl⟩⟩
 ·go_wp2
  go_ret;exact⟨rfl,cl_ ⟨a,rfl⟩⟩
 ·go_wp2_with fail;exact⟨rfl,rfl,ck_ ⟨a,rfl⟩⟩
noncomputable def KD(op:cD)(a b:cD):aM × Nat:=
 if op=[60] then (bT (gZ a b),0)
 else if op=[60,61] then (bT (!gZ b a),0)
 else if op=[43] then (if 200<aN (bO (a++b)) then (bR,6) else (bO (a++b),0))
 else (bR,2)
def D7(op:cD)(F:bX)(a b:cD)(w:aG)(p:a.length+b.length<=1000000):
 Calls prog 258 #[.string (bs op),.string (bs a),.string (bs b)] w (mE F w (KD op a b)):=by
 have c:=cE op;obtain⟨r,d⟩:∃r,r=KD op a b:=⟨_,rfl⟩;rw[<-d];unfold KD at d;by_cases g:op=[60]
 ·rw[if_pos g] at d;have o:((bs op).toList==[60])=true:=by rw[c,g];rfl
  have h:Hid (Op.bytesLess (bs a).toList (bs b).toList=gZ a b):=by show _=_;rw[cE,cE,vL]
  have f:=aB d;clear c d g;generalize gZ a b=s at*;go_in
  go_wp2
  go_ret;exact mE.ok f (by rw[<-h.out];exact PV.tru F w _)
 rw[if_neg g] at d;have o:((bs op).toList==[60])=false:=by rw[c];simpa using g
 by_cases i:op=[60,61]
 ·rw[if_pos i] at d;have u:((bs op).toList==[60,61])=true:=by rw[c,i];rfl
  have h:Hid ((Op.bytesLess (bs a).toList (bs b).toList || (bs a).toList==(bs b).toList)= !gZ b a):=by show _=_;rw[cE,cE,vL,LI]
  have f:=aB d;clear c d g i;generalize gZ b a=s at*;go_in
  go_wp2
  go_ret;exact mE.ok f (by rw[<-h.out];exact PV.tru F w _)
 rw[if_neg i] at d;have u:((bs op).toList==[60,61])=false:=by rw[c];simpa using i
 by_cases j:op=[43]
 ·rw[if_pos j] at d;have t:((bs op).toList==[43])=true:=by rw[c,j];rfl
  have k:=lO (a++b);have v:=aB (nK F (.iface 213 (.string (bs (a++b)))) _ w (PV.str F w (a++b)) (by rw[k,cp_];omega))
  have f:=aB d;have q:=gR;clear c d g i j k;go_in
  go_wp2_with fail;refine v.mono ?_;rintro e n ⟨rfl,⟨l,rfl⟩|⟨l,rfl⟩⟩
  ·have m:Hid (r=(bO (a++b),0)):=by show _=_;rw[f.out,if_neg (by omega)]
   clear l f;go_wp2
   go_ret;exact mE.ok m (PV.str F n (a++b))
  ·have m:Hid (r=(bR,6)):=by show _=_;rw[f.out,if_pos l]
   clear l f;go_wp2_with fail;exact⟨rfl,mE.stop m (by decide)⟩
 ·rw[if_neg j] at d;have t:((bs op).toList==[43])=false:=by rw[c];simpa using j
  have f:=aB d;clear c d g i j;go_in
  go_wp2_with fail;exact⟨rfl,mE.stop f (by decide)⟩
def oA:(prog.info? 129).map (fun i=>(i.zero,i.size,i.bytes))=some (some .nilIface,1,16):=by kernel_rfl
def yG{P:Program}(w:aG)(t u r e:TypeId)(i:TypeInfo)(z:aQ)(j:P.underlying t=some (.slice e))(q:P.underlying u=some (.int .i64))(hi:P.info? e=some i)(o:i.zero=some z)(m:i.size=1)
 (n:Nat) (k:0<n) (s:n<=1000000000) (l:i.bytes<=64):
 (Builtin.append_ #[t,u] r #[bF,Iv0 n]).run P w=
   .ok (.slice (some (aH w.heap.size 0)) n (grownCap w n 0 e)) (w.drew.alloc (.cells (Builtin.zeroCells z.cells n++Builtin.zeroCells z.cells (grownCap w n 0 e-n)) e)):=by
 have g:n≠0:=by omega
 have h:n*i.bytes<=1000000000*64:=Nat.mul_le_mul s l;have d:¬(281474976710656<Builtin.nextslicecap n 0*i.bytes):=by rw[nextslicecap_zero k];omega
 have f:¬(9223372036854775807<(n:Int)):=by omega
 have p:IntKind.i64.wrap (n:Int)=n:=by
  rw[IntKind.wrap_i64];omega
 have c:¬(281474976710656<(n:Int)*(i.bytes:Int)):=by
  have:((n*i.bytes:Nat):Int)<=64000000000:=by omega
  rw[Int.natCast_mul] at this;omega
 have b:¬((n:Int)<0):=by omega
 have a:max (n:Int) 0=n:=by omega
 simp[Builtin.append_,run_underlying j,run_underlying q,sizeOf,typeInfo,zeroValue,hi,o,m,p,asInt,asIntOf,b,a,g,f,d,c,Question.forced,run_firstCells_none,newRow,grownCap]
def tP{P:Program}{w:aG}{c:Array Oper}{b:List Oper}{o:Oper}{a:Act}{Q:Exit->Act->World->Prop}(f:o.guard=none)(s x:Operand)(t u:TypeId)
 (q:o.op=.call { callee:=.builtin .append,args:= #[s,x],argTypes:= #[t,u] })
 (e:TypeId) (i:TypeInfo) (z:aQ) (g:P.underlying t=some (.slice e)) (r:P.underlying u=some (.int .i64)) (hi:P.info? e=some i) (p:i.zero=some z) (l:i.size=1)
 (n:Nat) (j:0<n) (A:n<=1000000000) (k:i.bytes<=64) (v:a.eval s=bF) (y:a.eval x=Iv0 n)
 (h:wpList P c Q b (a.put o.dst (.slice (some (aH w.heap.size 0)) n (grownCap w n 0 e))) (w.drew.alloc (.cells (Builtin.zeroCells z.cells n++Builtin.zeroCells z.cells (grownCap w n 0 e-n)) e))):wpList P c Q (o::b) a w:=by
 refine wpList_plain f fun K m=>?_
 have d:=yG (P:=P) w t u o.type e i z g r hi p l n j A k;unfold Oper.wp;simp[execOp,q,resolve,invoke,builtin,v,y,d,Result.andThen];exact m _ _ h
def E5(n:Nat)(p:n<=1000000)(w:aG):
 Calls prog 262 #[bF,Iv0 n] w fun e i=>∃v,e=aZ v/\i.ownsRow w.heap.size 129 1 v 0 []/\Below w.heap.size w i:=by
 obtain⟨j,m,d,g,k⟩:=info_parts oA;rcases dI_ n with rfl|l
 ·go_in
  go_wp2
  go_ret;exact⟨_,rfl,World.ownsRow_nil _ _ _ _,co_ _ _⟩
 ·have q:decide ((n:Int)<0)=false:=decide_eq_false (by omega)
  have o:decide ((0:Int)<(n:Int))=true:=decide_eq_true (by omega)
  have b:=grownCap_ge w n 0 129;have a:=grownCap_le_maxLen w n 0 129 (by unfold maxLen;omega)
  generalize c:grownCap w n 0 129=f at b a;have h:=aB c;clear c;go_in
  go_wp2_with (at_builtin;refine tP (by rfl) _ _ 214 3 (by rfl) 129 j .nilIface underlying214 underlying3 m d g n l (by omega) (by omega) (by rfl) (by rfl) ?_;rw[h.out])
  go_ret;refine⟨_,rfl,⟨rfl,ck_ ⟨w.heap.size,f,_,rfl,cL,aO _ _ rfl _,cU_ _,a,?_,rfl⟩⟩,?_⟩
  ·rw[Array.size_append,size_zeroCells,size_zeroCells];simp;omega
  ·exact((co_ _ _).drew).alloc (by simp) _
def gQ(F:bX)(w:aG)(xs:List Value)(l:List aM):Prop:=xs.length=l.length/\∀i (h:i<l.length),∃u,xs[i]?=some u/\PV F w u l[i]
def gQ.nil(F:bX)(w:aG):gQ F w [] []:=⟨rfl,fun i h=>by simp at h⟩
def gQ.keep{F:bX}{w w':aG}{xs:List Value}{l:List aM}(h:gQ F w xs l)(a:∀b,F b->w'.heap[b]?=w.heap[b]?):gQ F w' xs l:=
 ⟨h.1,fun i e=>by obtain⟨u,d,c⟩:=h.2 i e;exact⟨u,d,c.keep a⟩⟩
def gQ.mono{F G:bX}{w:aG}{xs:List Value}{l:List aM}(h:gQ F w xs l)(e:∀b,F b->G b):gQ G w xs l:=
 ⟨h.1,fun i d=>by obtain⟨u,c,a⟩:=h.2 i d;exact⟨u,c,a.mono e⟩⟩
def gQ.append{F:bX}{w:aG}{xs d:List Value}{l m:List aM}(h:gQ F w xs l)(k:gQ F w d m):gQ F w (xs++d) (l++m):=by
 refine⟨by simp[h.1,k.1],fun i f=>?_⟩
 rcases cR_ i l.length with a|a
 ·obtain⟨u,b,c⟩:=h.2 i a;exact⟨u,by rw[cX_ (by rw[h.1];exact a)];exact b,by rw[dH_ a];exact c⟩
 ·have e:i-l.length<m.length:=by simp at f;omega
  obtain⟨u,b,c⟩:=k.2 _ e;exact⟨u,by rw[cN_ (by rw[h.1];exact a),h.1];exact b,by rw[dD_ a];exact c⟩
def PVs.row{F:bX}{w:aG}{d:aQ}{l:List aM}(h:PVs F w d l):(l=[]/\d=bF)\/∃g a k,d=.slice (some (aH g 0)) l.length a/\F g/\g<w.heap.size/\gQ F w k l/\∀j u,k[j]?=some u->w.cell? (aH g j)=some u:=by
 rcases h with h|⟨g,a,b,q,o,m,t,f⟩
 ·exact cl_ h
 ·have s:l.length<=b.size:=by
   rcases dI_ l.length with p|p
   ·omega
   ·obtain⟨u,e,_⟩:=f (l.length-1) (by omega)
    have:=(c3_.1 e).1;omega
  refine ck_ ⟨g,a,b.toList.take l.length,q,o,aC m,⟨by simp;omega,fun i n=>?_⟩,fun j u c=>?_⟩
  ·obtain⟨u,e,r⟩:=f i n;exact⟨u,by rw[cM_,if_pos n];simpa using e,r⟩
  ·rw[cM_] at c;split at c
   ·exact aA m (by simpa using c)
   ·cases c
def PVs.ofRow{F:bX}{w:aG}{base:Nat}{v:aQ}{xs:List Value}{l:List aM}(h:w.ownsRow base 129 1 v l.length xs)(p:gQ F w xs l)(o:∀k,v.ownBlock=some k->F k):PVs F w v l:=by
 rcases h.2 with ⟨a,d⟩|⟨g,b,c,a,d,f,j,s,r,m⟩
 ·exact cl_ ⟨cF_ d,a⟩
 ·refine ck_ ⟨g,b,c,a,o g (by rw[a];rfl),f,j,fun i q=>?_⟩
  obtain⟨u,e,n⟩:=p.2 i q;refine⟨u,?_,n⟩;rw[<-m,cM_,if_pos (by omega)] at e
  simpa using e
def pQ{F:bX}{w:aG}{xs:List Value}{l:List aM}(h:gQ F w xs l):∀u∈xs,u.oneCell'=true:=by
 intro u c;obtain⟨j,b,rfl⟩:=List.mem_iff_getElem.1 c;obtain⟨f,a,d⟩:=h.2 j (by rw[<-h.1];exact b)
 rw[cz_ b] at a;cases a;obtain⟨t,z,e⟩:=d.form;rw[e];rfl
def GE{y:Array Oper}{i:List Oper}{o:Oper}{a:Act}{Q:Exit->Act->World->Prop}{w:aG}(r:o.guard=none)(s x:Operand)(t:TypeId)(G:prog.underlying t=some (.slice 129))
 (M:o.op=.call { callee:=.builtin .append,args:= #[s,x],argTypes:= #[t,t] })
 (base:Nat) (v:aQ) (l m:List aM) (xs:List Value) (F:bX) (P:a.eval s=v) (c:w.ownsRow base 129 1 v l.length xs) (O:gQ F w xs l)
 (N:aQ) (T:a.eval x=N) (U:PVs F w N m) (K:∀b,F b->b<w.heap.size/\v.ownBlock≠some b) (J:l.length+m.length<=1000000000) (n:base<=w.heap.size)
 (h:∀A k z,k.ownsRow base 129 1 A (l++m).length z->gQ F k z (l++m)->w.grownBy k v.ownBlock->wpList prog y Q i (a.put o.dst A) k):
 wpList prog y Q (o::i) a w:=by
 obtain⟨L,S,B,D,E⟩:=info_parts oA;rcases U.row with ⟨rfl,rfl⟩|⟨g,C,z,rfl,X,W,f,p⟩
 ·refine wpList_append_own_none r s x t M base 129 L 1 G S v l.length xs P c T ?_;exact h v w xs (by simpa using c) (by simpa using O) ⟨rfl,rfl,rfl,cL,fun _ _ _=>rfl⟩
 ·refine wpList_append_own _ r s x t M base 129 L _ 1 16 G S B D E rfl (by decide) v l.length xs P c (aH g 0) m.length C z T (by rw[f.1];omega) (fun j u V=>by rw[Addr.add_lit,c8_];exact p j u V) (pQ f) (by unfold maxLen;omega) (by omega) n ?_
  intro A k q d _;have I:∀b,F b->k.heap[b]?=w.heap[b]?:=fun b H=>d.block b (K b H).1 (fun e=>(K b H).2 e.symm)
  exact h A k (xs++z) (by rw[cp_];exact q) ((O.keep I).append (f.keep I)) d
def pK(F:bX)(w:aG)(ls:List aM)(v:aQ)(wr:aG):Prop:=
 ∃ys,wr.ownsRow w.heap.size 129 1 v ls.length ys/\gQ F wr ys ls/\Below w.heap.size w wr
def pK.step{F:bX}{w wr w':aG}{a m:List aM}{v v':aQ}{b:List Value}(h:pK F w a v wr)(g:w'.ownsRow w.heap.size 129 1 v' (a++m).length b)(i:gQ F w' b (a++m))(d:wr.grownBy w' v.ownBlock):pK F w (a++m) v' w':=by
 obtain⟨l,f,j,c⟩:=h;refine⟨b,g,i,c.grown d c.size fun k e=>?_⟩
 exact cS f k e
def dE{w:aG}{base n k:Nat}{t:TypeId}{v:aQ}{e:List Value}(h:w.ownsRow base t k v n e):∃x c,v=.slice x n c:=by
 rcases h.2 with ⟨a,b⟩|⟨g,f,d,a,_⟩
 ·exact⟨none,0,by rw[a,b]⟩
 ·exact⟨_,_,a⟩
def QM(F:Nat->Prop)(b:Nat)(x y:Option Addr)(c d:Nat)(l m:List aM)(w:World)(I:w.heap[b]?=some (.cells #[.slice x l.length c,.slice y m.length d] 214 (0,0)))(hl:PVs F w (.slice x l.length c) l)(hm:PVs F w (.slice y m.length d) m)(Z:∀k,F k->k<w.heap.size)(ac:l.length+m.length<=1000000):
 Calls prog 261 #[.slice (some ⟨b,0,none⟩) 2 2] w fun e C=>∃D,e=.returned D/\pK F w (l++m) D C:=by
 have j:=aC I;have V:=aA I (i:=0) rfl;have W:=aA I (i:=1) rfl;have HL:=aB hl;have HM:=aB hm;have E:=aB Z;have Y:=aB (E5 (l.length+m.length) (by omega) w)
 have P:=aB I;clear hl hm Z I;go_enter func261,ntmps261;go_wp2_with fail;go_loopg [3,5,11] 2 (fun gk s _ i wr=>wr=w/\((gk=2/\i=.int .i64 0/\s=.int .i64 0)\/(gk=1/\i=.int .i64 1/\s=.int .i64 (l.length:Nat))\/(gk=0/\i=.int .i64 2/\s=.int .i64 ((l.length+m.length:Nat):Int))))
 case atStart=>exact⟨rfl,cl_ ⟨rfl,rfl,rfl⟩⟩
 case round=>
  obtain⟨hw,hrel⟩:=hrel;obtain rfl:=hw.symm;rcases hrel with ⟨rfl,rfl,rfl⟩|⟨rfl,rfl,rfl⟩|⟨rfl,rfl,rfl⟩
  ·have e:decide ((l.length:Int)<0)=false:=decide_eq_false (by omega)
   go_wp2_with fail;go_roundg 1
   case measure=>omega
   case rel=>exact⟨rfl,ck_ (cl_ ⟨rfl,rfl,rfl⟩)⟩
  ·have e:decide ((l.length:Int)+(m.length:Int)<0)=false:=decide_eq_false (by omega)
   go_wp2_with fail;go_roundg 0
   case measure=>omega
   case rel=>exact⟨rfl,ck_ (ck_ ⟨rfl,rfl,by simp⟩)⟩
  ·go_wp2_with fail;refine Y.out.mono ?_;rintro e w1 ⟨v1,rfl,h,N⟩
   obtain⟨x1,T,rfl⟩:∃x c,v1=.slice x 0 c:=by
    rcases h.2 with ⟨S,_⟩|⟨g,aa,ab,S,_⟩
    ·exact⟨none,0,S⟩
    ·exact⟨_,_,S⟩
   have O:Hid (pK F w [] (.slice x1 0 T) w1):=⟨[],h,gQ.nil _ _,N⟩;clear h N Y V W;go_wp2_with fail;go_loopg [6,8,27] 2 (fun gk s _ i U=>(gk=2/\i=.int .i64 0/\pK F w [] s U)\/(gk=1/\i=.int .i64 1/\pK F w l s U)\/(gk=0/\i=.int .i64 2/\pK F w (l++m) s U))
   case atStart=>exact cl_ ⟨rfl,rfl,O.out⟩
   case round=>
    rcases hrel with ⟨rfl,rfl,A⟩|⟨rfl,rfl,A⟩|⟨rfl,rfl,A⟩
    ·have u:=A;obtain⟨Q,n,M,a⟩:=A;obtain⟨G,H,rfl⟩:=dE n;have V:wr.cell? ⟨b,0,none⟩=some (.slice x l.length c):=aA ((a.block b j).trans P.out) rfl;have W:wr.cell? ⟨b,1,none⟩=some (.slice y m.length d):=aA ((a.block b j).trans P.out) rfl;have J:b<wr.heap.size:=cn_ j a.size;have L:=aB n;have K:=aB M;have t:=aB a;have r:=aB u;have q:=aB (HL.out.keep (w':=wr) fun k z=>a.block k (E.out k z))
     have v:Hid (∀k,F k->k<wr.heap.size/\(Value.slice G ([]:List aM).length H).ownBlock≠some k):=fun k z=>⟨cn_ (E.out k z) a.size,fun e=>by have:=cS n k e;have:=E.out k z;omega⟩
     clear n M a u O;go_wp2_with (at_builtin;refine GE (by rfl) _ _ 214 underlying214 (by rfl) w.heap.size (.slice G ([]:List aM).length H) ([]:List aM) l Q F (by rfl) L.out K.out _ (by rfl) q.out v.out (by first|omega|(simp;omega)) t.out.size ?_)
     intro D C X f o p;have B:Hid (pK F w (([]:List aM)++l) D C):=r.out.step (by first|exact f|(rw[cp_];exact f)) o p
     obtain⟨x',c',rfl⟩:=dE f;clear f o p L K q v t r;go_wp2_with fail;go_roundg 1
     case measure=>omega
     case rel=>exact ck_ (cl_ ⟨rfl,rfl,by simpa using B.out⟩)
    ·have u:=A;obtain⟨Q,n,M,a⟩:=A;obtain⟨G,H,rfl⟩:=dE n;have V:wr.cell? ⟨b,0,none⟩=some (.slice x l.length c):=aA ((a.block b j).trans P.out) rfl;have W:wr.cell? ⟨b,1,none⟩=some (.slice y m.length d):=aA ((a.block b j).trans P.out) rfl;have J:b<wr.heap.size:=cn_ j a.size;have L:=aB n;have K:=aB M;have t:=aB a;have r:=aB u;have q:=aB (HM.out.keep (w':=wr) fun k z=>a.block k (E.out k z))
     have v:Hid (∀k,F k->k<wr.heap.size/\(Value.slice G (l).length H).ownBlock≠some k):=fun k z=>⟨cn_ (E.out k z) a.size,fun e=>by have:=cS n k e;have:=E.out k z;omega⟩
     clear n M a u O;go_wp2_with (at_builtin;refine GE (by rfl) _ _ 214 underlying214 (by rfl) w.heap.size (.slice G (l).length H) (l) m Q F (by rfl) L.out K.out _ (by rfl) q.out v.out (by first|omega|(simp;omega)) t.out.size ?_)
     intro D C X f o p;have B:Hid (pK F w (l++m) D C):=r.out.step (by first|exact f|(rw[cp_];exact f)) o p
     obtain⟨x',c',rfl⟩:=dE f;clear f o p L K q v t r;go_wp2_with fail;go_roundg 0
     case measure=>omega
     case rel=>exact ck_ (ck_ ⟨rfl,rfl,B.out⟩)
    ·have HC:=aB A;obtain⟨Q,n,_⟩:=A;obtain⟨G,H,rfl⟩:=dE n;clear n O;go_wp2_with fail;go_ret;exact⟨_,rfl,HC.out⟩
def fC(F:bX)(w:aG)(r:aM × Nat)(e:Ending)(w':aG):Prop:=Below w.heap.size w w'/\((r.2=0/\∃u,e=aZ u/\PV (Grow F w w') w' u r.1)\/(r.2≠0/\e=fR r.2))
def fC.ok{F:bX}{w w':aG}{r:aM × Nat}{u:aQ}{a:aM}(c:Below w.heap.size w w')(b:r=(a,0))(h:PV (Grow F w w') w' u a):fC F w r (aZ u) w':=by subst b;exact⟨c,cl_ ⟨rfl,u,rfl,h⟩⟩
def fC.stop{F:bX}{w w':aG}{r:aM × Nat}{a:aM}{k:Nat}(d:Below w.heap.size w w')(c:r=(a,k))(b:k≠0):fC F w r (fR k) w':=by subst c;exact⟨d,ck_ ⟨b,rfl⟩⟩
noncomputable def yL(op:cD)(l m:List aM):aM × Nat:=if op=[43] then (if 200<aN (bA (l++m)) then (bR,6) else (bA (l++m),0)) else (bR,2)
def VN(op:cD)(F:bX)(x y:Option Addr)(c d:Nat)(l m:List aM)(w:aG)(E:PVs F w (.slice x l.length c) l)(G:PVs F w (.slice y m.length d) m)(s:∀k,F k->k<w.heap.size)(P:aN (bA l)+aN (bA m)<=1000000):
 Calls prog 259 #[.string (bs op),.slice x l.length c,.slice y m.length d] w (fC F w (yL op l m)):=by
 have a:=cE op;obtain⟨r,h⟩:∃r,r=yL op l m:=⟨_,rfl⟩;rw[<-h];unfold yL at h;by_cases i:op=[43]
 ·rw[if_pos i] at h;have I:((bs op).toList==[43])=true:=by rw[a,i];rfl
  have D:((bs op).toList != [43])=false:=by rw[a,i];rfl
  have J:=kH l;have M:=kH m;rw[jN,jN] at P;have N:aN (bA (l++m))=1+((l.map aN).sum+(m.map aN).sum):=by rw[jN,cZ_,ds_]
  have b:Below w.heap.size w (w.alloc (.cells #[.slice x l.length c,.slice y m.length d] 214)):=(co_ _ _).alloc cL _;have H:=aB (QM F w.heap.size x y c d l m (w.alloc (.cells #[.slice x l.length c,.slice y m.length d] 214)) (aO _ _ rfl _) (E.keep fun k f=>b.block k (s k f)) (G.keep fun k f=>b.block k (s k f)) (fun k f=>cn_ (s k f) b.size) (by omega))
  have j:=aB b;have p:=aB h;clear a h i E G s b;go_in
  go_wp2_with fail;refine H.mono ?_;rintro e z ⟨Q,rfl,S,t,q,v⟩;obtain⟨O,K,rfl⟩:=dE t;have g:=j.trans (v.mono j.size);have o:PVs (Grow F w z) z (.slice O (l++m).length K) (l++m):=PVs.ofRow t (q.mono fun k f=>cl_ f) fun k f=>ck_ ⟨by have:=cS t k f;have:=j.size;omega,cP t k f⟩
  have L:=aB (nK (Grow F w z) _ _ z (PV.lst o) (by omega))
  have B:=aB o;have u:=aB g;clear t q v g o H;generalize (l++m).length=n at*;go_wp2_with fail;refine L.mono ?_;rintro e T ⟨rfl,⟨A,rfl⟩|⟨A,rfl⟩⟩
  ·have C:Hid (r=(bA (l++m),0)):=by show _=_;rw[p.out,if_neg (by omega)]
   clear A p;go_wp2
   go_ret;exact fC.ok u C (PV.lst B)
  ·have C:Hid (r=(bR,6)):=by show _=_;rw[p.out,if_pos A]
   clear A p;go_wp2_with fail;exact⟨rfl,fC.stop u C (by decide)⟩
 ·rw[if_neg i] at h;have I:((bs op).toList==[43])=false:=by rw[a];simpa using i
  have D:((bs op).toList != [43])=true:=by rw[a];simpa using i
  have p:=aB h;clear a h i E G s;go_in
  go_wp2_with fail;exact⟨rfl,fC.stop (co_ _ _) p (by decide)⟩
def jF{w:aG}{a:Addr}{v:aQ}(o:Obj)(h:w.cell? a=some v):(w.alloc o).cell? a=some v:=by
 have b:=World.block_lt_of_cell? w a h;rw[<-h];exact World.cell?_of_block (cq_ _ _ _ b)
def JK(g h n c:Nat)(b:List Value)(w:World)(C:b.length=n*1)(H:n<=1000000)(s:∀j u,b[j]?=some u->w.cell? ⟨g,h+j,none⟩=some u)(y:∀u∈b,u.oneCell'=true):
 Calls prog 275 #[.slice (some ⟨g,h,none⟩) n c] w fun e r=>∃m,e=.returned m/\r.ownsRow w.heap.size 129 1 m n b/\Below w.heap.size w r:=by
 obtain⟨A,D,o,p,q⟩:=info_parts oA;have z:=aB s;clear s;have x:∀(w:World) (a:Option Addr) (n c l i:Nat),(binOp .eql 214 (.slice a n c) (.slice none l i)).run prog w=.ok (.bool a.isNone) w:=fun w a n c l i=>Lib.run_eql_slice_nil w _ _ a n c l i underlying214
 go_enter func275,ntmps275;go_wp2_with (at_builtin;refine wpList_append_own _ (by rfl) _ _ 214 (by rfl) w.heap.size 129 A _ 1 16 underlying214 D o p q rfl (by decide) (.slice (some ⟨w.heap.size,0,none⟩) 0 0) 0 [] (by rfl) (World.ownsRow_made w #[] 0 (cy_ _) (cU_ _) (by simp)) ⟨g,h,none⟩ n c b (by rfl) C (fun j u E=>by rw[Addr.add_lit];exact jF _ (z.out j u E)) y (by unfold maxLen;omega) (by omega) (by simp) ?_)
 intro m F d f _;have B:=aB d;have v:=aB f;obtain⟨G,i,rfl⟩:=dE d;clear d f;go_wp2_with fail;go_ret;refine⟨_,rfl,by simpa using B.out,?_⟩
 exact((co_ _ w).alloc (cy_ _) _).grown v.out (by simp) (by intro k t;simp[Value.ownBlock] at t;omega)
def uA(g h n c:Nat)(b:List Value)(w:World)(C:b.length=n*1)(H:n<=1000000)(s:∀j u,b[j]?=some u->w.cell? ⟨g,h+j,none⟩=some u)(y:∀u∈b,u.oneCell'=true):
 Calls prog 122 #[.slice (some ⟨g,h,none⟩) n c] w fun e r=>∃m,e=.returned m/\r.ownsRow w.heap.size 129 1 m n b/\Below w.heap.size w r:=by
 obtain⟨A,D,o,p,q⟩:=info_parts oA;have z:=aB s;clear s;have x:∀(w:World) (a:Option Addr) (n c l i:Nat),(binOp .eql 106 (.slice a n c) (.slice none l i)).run prog w=.ok (.bool a.isNone) w:=fun w a n c l i=>Lib.run_eql_slice_nil w _ _ a n c l i underlying106
 go_enter func122,ntmps122;go_wp2_with (at_builtin;refine wpList_append_own _ (by rfl) _ _ 106 (by rfl) w.heap.size 129 A _ 1 16 underlying106 D o p q rfl (by decide) (.slice (some ⟨w.heap.size,0,none⟩) 0 0) 0 [] (by rfl) (World.ownsRow_made w #[] 0 (cy_ _) (cU_ _) (by simp)) ⟨g,h,none⟩ n c b (by rfl) C (fun j u E=>by rw[Addr.add_lit];exact jF _ (z.out j u E)) y (by unfold maxLen;omega) (by omega) (by simp) ?_)
 intro m F d f _;have B:=aB d;have v:=aB f;obtain⟨G,i,rfl⟩:=dE d;clear d f;go_wp2_with fail;go_ret;refine⟨_,rfl,by simpa using B.out,?_⟩
 exact((co_ _ w).alloc (cy_ _) _).grown v.out (by simp) (by intro k t;simp[Value.ownBlock] at t;omega)
def tZ(w:aG):
 Calls prog 122 #[bF] w fun e f=>e=aZ (bF)/\f=w:=by
 have g:∀(w:aG) (a:Option Addr) (n c b d:Nat),(binOp .eql 106 (.slice a n c) (.slice none b d)).run prog w=.ok (.bool a.isNone) w:=fun w a n c b d=>Lib.run_eql_slice_nil w _ _ a n c b d underlying106
 go_in
 go_wp2
 go_ret;exact⟨rfl,rfl⟩
def IxR(F:bX)(w:aG)(sv:aQ)(l:List aM):Prop:=
 (l=[]/\∃x c,sv=.slice x 0 c)\/∃g o c,sv=.slice (some (aH g o)) l.length c/\l.length<=c/\g<w.heap.size/\∀i (h:i<l.length),∃u,w.cell? (aH g (o+i))=some u/\PV F w u l[i]
def wZ{i:aM}{c:List aM}{a b:aM}:cV (i::c) a b=if a.sort≠3\/i.sort≠0 then (bR,2) else if i.n<0\/(a.l.length:Int)<=i.n then (bR,4) else if (cV c (a.l.getD i.n.toNat bR) b).2≠0 then (bR,(cV c (a.l.getD i.n.toNat bR) b).2) else (bA (a.l.set i.n.toNat (cV c (a.l.getD i.n.toNat bR) b).1),0):=by
 rw[cV]
def ah_{w:aG}{base n g a k:Nat}{t:TypeId}{e:List Value}{u:aQ}(h:w.ownsRow base t 1 (.slice (some (aH g 0)) n a) n e)(_hk:k<n):
 (w.setCell (aH g k) u).ownsRow base t 1 (.slice (some (aH g 0)) n a) n (e.set k u):=by
 rcases h.2 with ⟨b,_⟩|⟨p,d,c,b,o,f,j,m,i,l⟩
 ·cases b
 ·cases b;refine⟨by rw[dp_];exact h.1,ck_ ⟨g,a,c.setIfInBounds k u,rfl,o,?_,j,m,by simpa using i,?_⟩⟩
  ·rw[aK f]
  ·rw[<-l,dr_,dY_]
def gQ.set{F:bX}{w:aG}{xs:List Value}{l:List aM}{u:aQ}{a:aM}(h:gQ F w xs l)(k:Nat)(e:PV F w u a):gQ F w (xs.set k u) (l.set k a):=by
 refine⟨by simp[h.1],fun i c=>?_⟩
 rw[dp_] at c;by_cases b:k=i
 ·subst b;exact⟨u,by rw[List.getElem?_set_self (by rw[h.1];exact c)],by rw[List.getElem_set_self];exact e⟩
 ·obtain⟨v,d,f⟩:=h.2 i c;exact⟨v,by rw[List.getElem?_set_ne b];exact d,by rw[List.getElem_set_ne b];exact f⟩
def U0{F:bX}{w w1 d:aG}{c c1 k:Nat}{xs:List Value}{m:List aM}{g:TypeId}{u2:aQ}{o:aM}{r:aM × Nat}(f:Below w.heap.size w w1)(s:Below w1.heap.size w1.drew d)
 (b:w1.ownsRow w.heap.size 129 1 (.slice (some (aH c 0)) m.length c1) m.length xs) (E:gQ F w xs m) (C:PV (Grow F w1.drew d) d (.iface g u2) o) (a:r=(bA (m.set k o),0)) (x:∀q,F q->q<w.heap.size) (A:k<m.length):
 fC F w r (aZ (.iface 214 (.slice (some (aH c 0)) m.length c1))) (d.setCell (aH c k) (.iface g u2)):=by
 have h:w.heap.size<=c:=cS b c rfl;have y:c<w1.heap.size:=cP b c rfl;have e:Below w1.heap.size w1 d:=((co_ _ w1).drew).trans s;have B:w1.heap.size<=d.heap.size:=e.size;have D:w.heap.size<=w1.heap.size:=f.size;have z:Below w.heap.size w d:=f.trans (e.mono f.size);have n:Below w.heap.size w (d.setCell (aH c k) (.iface g u2)):=z.setCell h _;have v:d.ownsRow w.heap.size 129 1 (.slice (some (aH c 0)) m.length c1) m.length xs:=aW b fun q a=>e.block q (cP b q a)
 have p:=ah_ (u:=.iface g u2) v A;have j:(d.setCell (aH c k) (.iface g u2)).heap.size=d.heap.size:=by simp
 refine fC.ok n a (PV.lst ?_);have i:(m.set k o).length=m.length:=dp_;have:=PVs.ofRow (F:=Grow F w (d.setCell (aH c k) (.iface g u2))) (l:=m.set k o) (by rw[i];exact p) ?_ ?_
 ·exact this
 ·refine gQ.set ((E.keep fun q a=>n.block q (x q a)).mono fun q a=>cl_ a) k ?_
  refine(C.keep fun q a=>?_).mono fun q a=>?_
  ·refine cm_ _ _ _ _ ?_;show q≠c
   rcases a with a|⟨a,_⟩
   ·have:=x q a;omega
   ·have:w1.heap.size<=q:=a;omega
  ·rcases a with a|⟨a,t⟩
   ·exact cl_ a
   ·refine ck_ ⟨?_,by rw[j];exact t⟩
    have:w1.heap.size<=q:=a;omega
 ·intro q a;obtain rfl:c=q:=Option.some.inj a;exact ck_ ⟨h,by rw[j];omega⟩
def tN(F:bX)(l:List aM):Prop:=∀(sv u v:aQ) (a b:aM) (w:aG),IxR F w sv l->PV F w u a->PV F w v b->(∀k,F k->k<w.heap.size)->aN a<=400000->l.length<=1000000->
 Calls prog 274 #[u,sv,v] w (fC F w (cV l a b))
def OB(F:bX):tN F []:=by
 intro k u v a b w f e d j q p
 obtain⟨x,c,rfl⟩:∃x c,k=.slice x 0 c:=by
  rcases f with ⟨_,x,c,h⟩|⟨g,o,c,h,_⟩
  ·exact⟨x,c,h⟩
  ·exact⟨_,_,h⟩
 have l:=aB d;obtain⟨t,z,rfl⟩:=e.form;obtain⟨m,n,rfl⟩:=d.form;clear f e d j;go_in
 go_wp2
 go_ret;exact fC.ok (co_ _ _) rfl (l.mono fun _ i=>cl_ i)
def OC(F:Nat->Prop)(i:aM)(l:List aM)(IH:∀F,tN F l):tN F (i::l):=by
 intro sv u v a b w hi hu hv hF hc hl;simp only[ct_] at hl
 obtain⟨g,o,c,rfl,be,hg,f⟩:∃g o c,sv=.slice (some ⟨g,o,none⟩) (l.length+1) c/\l.length+1<=c/\g<w.heap.size/\∀j (h:j<(i::l).length),∃u,w.cell? ⟨g,o+j,none⟩=some u/\PV F w u (i::l)[j]:=by
  rcases hi with ⟨h,_⟩|⟨g,o,c,h1,K,h3,h4⟩
  ·cases h
  ·exact⟨g,o,c,h1,K,h3,h4⟩
 obtain⟨ui,ci,C⟩:=f 0 (by simp)
 simp only[Nat.add_zero,dL_] at ci C;have bf:(((l.length+1:Nat):Int)==0)=false:=by simp;omega
 obtain⟨r,O⟩:∃r,r=cV (i::l) a b:=⟨_,rfl⟩;rw[<-O];rw[wZ] at O;obtain⟨t',z',rfl⟩:=hv.form;obtain⟨ti,zi,rfl⟩:=C.form;have d:a.sort≠3->Hid (r=(bR,2)):=fun h=>by show _=_;rw[O,if_pos (cl_ h)]
 rcases hu.cases with ⟨n,rfl,rfl,_,_⟩|⟨s,rfl,rfl⟩|⟨s,rfl,rfl⟩|⟨x,cx,m,rfl,rfl,hm⟩
 ·have M:=d (by simp[bG])
  have q:=jU;clear hu hv hi hF f C O d IH;go_enter func274,ntmps274;go_wp2_with fail;exact⟨rfl,fC.stop (co_ _ _) M.out (by decide)⟩
 ·have M:=d (by simp[bT])
  have q:=iH;clear hu hv hi hF f C O d IH;go_enter func274,ntmps274;go_wp2_with fail;exact⟨rfl,fC.stop (co_ _ _) M.out (by decide)⟩
 ·have M:=d (by simp[bO])
  have q:=lE;clear hu hv hi hF f C O d IH;go_enter func274,ntmps274;go_wp2_with fail;exact⟨rfl,fC.stop (co_ _ _) M.out (by decide)⟩
 ·have q:=iG;have bk:=kH m;rw[jN] at hc;have ai:=aB (uZ F _ i m.length w C (by omega))
  have HR:=aB O;have HM:=aB hm;have HV:=aB hv;have HF:=aB hF;have af:=aB f;have ab:=aB IH;clear hu hv hi hF f C O d IH hm;go_enter func274,ntmps274;go_wp2_with fail;refine ai.out.mono ?_;rintro e D ⟨Z,⟨K,rfl⟩|⟨K,h3,rfl⟩|⟨K,k,G,P,rfl⟩⟩
  ·obtain rfl:=Z.symm;have M:Hid (r=(bR,2)):=by show _=_;rw[HR.out,if_pos (ck_ K)]
   clear K Z;go_wp2_with fail;exact⟨rfl,fC.stop (co_ _ _) M.out (by decide)⟩
  ·obtain rfl:=Z.symm;have M:Hid (r=(bR,4)):=by show _=_;rw[HR.out,if_neg (by simp[bA,K]),if_pos (show i.n<0\/((bA m).l.length:Int)<=i.n from h3)]
   clear K h3 Z;go_wp2_with fail;exact⟨rfl,fC.stop (co_ _ _) M.out (by decide)⟩
  ·obtain rfl:=Z.symm;obtain⟨gm,bl,ar,_⟩:=HM.out.get k G;rcases HM.out.row with ⟨rfl,_⟩|⟨bc,bh,xs,aw,bb,bi,B,E⟩
   ·simp at G
   cases aw;obtain⟨uk,ac,V⟩:=B.2 k G;have am:=aB (JK bc 0 m.length cx xs w (by rw[B.1];omega) (by omega) (fun j u hj=>by rw[c8_];exact E j u hj) (pQ B))
   have av:aN m[k]<=400000:=by have:=mQ (cG_ G);omega
   have J:Hid (r=if (cV l m[k] b).2≠0 then (bR,(cV l m[k] b).2) else (bA (m.set k (cV l m[k] b).1),0)):=by
    show _=_
    have ag:i.n.toNat=k:=by rw[P];rfl
    have an:(bA m).l.getD i.n.toNat bR=m[k]:=by rw[ag];show m.getD k bR=_;show (m[k]?).getD bR=_;rw[cz_ G];rfl
    rw[HR.out,if_neg (by simp[bA,K]),if_neg (by show ¬(i.n<0\/((bA m).l.length:Int)<=i.n);rw[P];show ¬((k:Int)<0\/(m.length:Int)<=k);omega),an,ag]
    rfl
   obtain⟨tk,zk,rfl⟩:=V.form;have ao:=aB B;have ah:=aB V;have al:=aB ac;clear Z K P HR ai E B V ac bb ar;go_wp2_with fail;refine am.out.mono ?_;rintro e D ⟨v1,rfl,I,L⟩;rcases I.2 with ⟨r1,r2⟩|⟨g1,c1,ap,rfl,bj,z,ba,az,ax,ak⟩
   ·omega
   have N:ap[k]?=some (.iface tk zk):=by
    have:=al.out;rw[<-ak,cM_,if_pos (by omega)] at this
    simpa using this
   have d0:D.cell? ⟨g1,k,none⟩=some (.iface tk zk):=aA z N;have aj:=aC z;have au:Hid (∀q,F q->q<D.drew.heap.size):=fun q hq=>cn_ (HF.out q hq) L.size
   have y:Below w.heap.size w D.drew:=L.drew;obtain⟨Y,ae⟩:∃Y:Option Addr,(if c=1 then some (⟨g,o,none⟩:Addr) else some ⟨g,o+1,none⟩)=Y:=⟨_,rfl⟩
   have aa:IxR F D.drew (.slice Y l.length (c-1)) l:=by
    by_cases h1:c=1
    ·have ht:l=[]:=dh_.1 (by omega)
     exact cl_ ⟨ht,_,_,by rw[ht];rfl⟩
    ·rw[if_neg h1] at ae;subst ae;refine ck_ ⟨g,o+1,c-1,rfl,by omega,cn_ hg y.size,fun j hj=>?_⟩
     obtain⟨u,e1,e2⟩:=af.out (j+1) (by simp;omega)
     rw[show o+(j+1)=o+1+j by omega] at e1
     exact⟨u,by rw[y.cell (p:=⟨g,o+1+j,none⟩) hg];exact e1,e2.keep fun k G=>y.block k (HF.out k G)⟩
   have bm:(1:Int)<=(l.length:Int)+1:=by omega
   have bg:(l.length:Int)+1<=(c:Int):=by omega
   have HX:=aB (ab.out F (.slice Y l.length (c-1)) (.iface tk zk) (.iface t' z') m[k] b D.drew aa (ah.out.keep fun k G=>y.block k (HF.out k G)) (HV.out.keep fun k G=>y.block k (HF.out k G)) au.out av (by omega))
   generalize cV l m[k] b=X at HX J;have HOWN:=aB I;have HBLK:=aB z;have U:=aB L;clear I z L y aa am ab af ah ax ak ba az al;by_cases Q:X.2=0
   ·have T:Hid (Calls prog 274 #[.iface tk zk,.slice Y l.length (c-1),.iface t' z'] D.drew fun e w'=>Below D.heap.size D.drew w'/\∃t2 u2,e=.returned (.iface t2 u2)/\PV (Grow F D.drew w') w' (.iface t2 u2) X.1):=by
     refine HX.out.mono ?_;rintro e W ⟨A,⟨_,u2,rfl,H⟩|⟨S,rfl⟩⟩
     ·obtain⟨t2,z2,rfl⟩:=H.form;exact⟨A,t2,z2,rfl,H⟩
     ·exact absurd Q S
    have HQ:Hid (r=(bA (m.set k X.1),0)):=by show _=_;rw[J.out,if_neg (by simp[Q])]
    clear HX J Q;go_wp2_with fail;go_region_law (go_simp;go_at_call 274;refine T.out.mono ?_;rintro e W ⟨A,t2,u2,rfl,H⟩;have t:=(A.block g1 aj).trans HBLK.out;have d2:=aA t N;have bn:=aD t (i:=k);have bd:=aC t;have aq:=aB H;have ay:=aB A;have HBLK2:=aB t;clear H A t)
    all_goals
     go_wp2_with fail;go_ret;exact U0 U.out ay.out HOWN.out ao.out aq.out HQ.out HF.out G
   ·have T:Hid (Calls prog 274 #[.iface tk zk,.slice Y l.length (c-1),.iface t' z'] D.drew fun e w'=>Below D.heap.size D.drew w'/\e=fR X.2):=by
     refine HX.out.mono ?_;rintro e W ⟨A,⟨S,_⟩|⟨_,rfl⟩⟩
     ·exact absurd S Q
     ·exact⟨A,rfl⟩
    have HQ:Hid (r=(bR,X.2)):=by show _=_;rw[J.out,if_pos Q]
    have HS:Hid (∀W,Below D.heap.size D.drew W->fC F w r (fR X.2) W):=fun W h=>fC.stop (U.out.drew.trans (h.mono U.out.size)) HQ.out Q
    clear HX J Q;go_wp2_with fail;go_region_dies
    all_goals (refine T.out.mono ?_;rintro e W ⟨A,rfl⟩;exact⟨rfl,HS.out _ A⟩)
def AE:∀(l:List aM) (F:bX),tN F l
 |[],F=>OB F
 |i::l,F=>OC F i l (AE l)
def O3(l:List aM)(k:Nat)(x:aM):((l.set k x).map aN).sum<=(l.map aN).sum+aN x:=by
 induction l generalizing k with
 |nil=>simp
 |cons a l b=>
  cases k with
  |zero=>simp only[List.set_cons_zero,cE_,cH_];omega
  |succ k=>simp only[dS_,cE_,cH_];have:=b k;omega
def uF:∀(l:List aM) (a b:aM),aN (cV l a b).1<=(l.length+1)*(aN a+aN b+1)
 |[],a,b=>by rw[cV];simp;omega
 |i::l,a,b=>by
  rw[wZ];have c:aN bR=1:=by rw[fJ];simp[bR]
  have d:1<=((i::l).length+1)*(aN a+aN b+1):=Nat.mul_pos (by simp) (by omega)
  repeat' split
  ·rw[c];exact d
  ·rw[c];exact d
  ·rw[c];exact d
  ·rename_i p n q;have f:i.n.toNat<a.l.length:=by omega
   have k:a.l.getD i.n.toNat bR=a.l[i.n.toNat]:=by show (a.l[i.n.toNat]?).getD bR=_;rw[cz_ f];rfl
   have h:=uF l (a.l.getD i.n.toNat bR) b;have g:=mQ (cG_ f);have j:=fJ a;rw[jN];have e:=O3 a.l i.n.toNat (cV l (a.l.getD i.n.toNat bR) b).1;rw[k] at h e ⊢
   have m:(l.length+1)*(aN a.l[i.n.toNat]+aN b+1)<=(l.length+1)*(aN a+aN b+1):=Nat.mul_le_mul_left _ (by omega)
   have o:((i::l).length+1)*(aN a+aN b+1)=(l.length+1)*(aN a+aN b+1)+(aN a+aN b+1):=by simp only[ct_];rw[Nat.succ_mul]
   omega
def QN(F:bX)(l:List aM)(y u v:aQ)(a b:aM)(w:aG)(hi:IxR F w y l)(D:PV F w u a)(E:PV F w v b)(H:∀k,F k->k<w.heap.size)(K:aN a<=400)(I:aN b<=400)(S:l.length<=100000):
 Calls prog 273 #[u,y,v] w (fC F w (oH a l b)):=by
 have C:=uF l a b;have J:(l.length+1)*(aN a+aN b+1)<=100001*801:=Nat.mul_le_mul (by omega) (by omega)
 have B:=aB (AE l F y u v a b w hi D E H (by omega) (by omega))
 obtain⟨r,A⟩:∃r,r=oH a l b:=⟨_,rfl⟩;rw[<-A];unfold oH iQ at A;have q:=aB A
 obtain⟨x,c,rfl⟩:∃x c,y=.slice x l.length c:=by
  rcases hi with ⟨rfl,x,c,h⟩|⟨g,o,c,h,_⟩
  ·exact⟨x,c,h⟩
  ·exact⟨_,_,h⟩
 obtain⟨t,z,rfl⟩:=D.form;obtain⟨N,O,rfl⟩:=E.form;generalize cV l a b=p at B q C;clear hi D E H A;go_in
 go_wp2_with fail;refine B.mono ?_;rintro e G ⟨d,⟨f,u1,rfl,s⟩|⟨f,rfl⟩⟩
 ·have M:=aB (nK (Grow F w G) u1 p.1 G s (by omega))
  obtain⟨Q,P,rfl⟩:=s.form;have L:=aB s;have n:=aB d;have j:=aB f;clear s d f B;go_wp2_with fail;refine M.mono ?_;rintro e T ⟨rfl,⟨m,rfl⟩|⟨m,rfl⟩⟩
  ·have i:Hid (r=(p.1,0)):=by show _=_;rw[q.out,if_pos j.out,if_neg (by omega)];rw[<-j.out]
   clear m;go_wp2
   go_ret;exact fC.ok n i L
  ·have i:Hid (r=(bR,6)):=by show _=_;rw[q.out,if_pos j.out,if_pos m]
   clear m;go_wp2_with fail;exact⟨rfl,fC.stop n i (by decide)⟩
 ·have i:Hid (r=(p.1,p.2)):=by show _=_;rw[q.out,if_neg f]
  have j:=aB f;have n:=aB d;clear f d B;go_wp2_with fail;exact⟨rfl,fC.stop n i j⟩
def kM(w:aG):Prop:=Lib.TabIs prog w "internal/strconv.uint64pow10" .u64 Lib.pow10Tab
def kM.keep{w w':aG}{g:Nat}(h:kM w)(b:prog.globalNamed "internal/strconv.uint64pow10"=some g)(a:w'.heap[g]?=w.heap[g]?):kM w':=by
 unfold kM Lib.TabIs World.var? at h ⊢
 rw[b] at h ⊢
 simp only[Option.bind_some] at h ⊢
 rw[a];exact h
def kM.below{w w':aG}(h:kM w)(c:Below w.heap.size w w'):kM w':=by
 cases b:prog.globalNamed "internal/strconv.uint64pow10" with
 |none=>unfold kM Lib.TabIs World.var? at h;rw[b] at h;cases h
 |some g=>
  refine h.keep b (c.block g ?_);unfold kM Lib.TabIs World.var? at h;rw[b] at h;simp only[Option.bind_some] at h;rcases cR_ g w.heap.size with a|a
  ·exact a
  ·rw[dc_ (by exact a)] at h
   cases h
def AB:∀(f n:Nat) (t:cD),n<10 ^ (f+1)->kC (f+1) n t=Lib.decDigits n++t
 |0,n,t,h=>by
  have a:n<10:=by simpa using h
  rw[kC,Lib.decDigits,if_pos a,dif_pos a];rfl
 |f+1,n,t,h=>by
  rw[kC,Lib.decDigits];by_cases a:n<10
  ·rw[if_pos a,dif_pos a];rfl
  ·rw[if_neg a,dif_neg a,AB f (n/10) _ (by rw[Nat.pow_succ] at h;omega)]
   simp
def IT(n:Int)(a: -9223372036854775808<=n)(b:n<=9223372036854775807):Lib.itoa n=iZ n:=by
 unfold Lib.itoa iZ;rw[AB 19 n.natAbs [] (by omega),dz_]
 by_cases h:n<0
 ·rw[if_pos h,if_pos h];rfl
 ·rw[if_neg h,if_neg h,dk_,show n.toNat=n.natAbs by omega]
def zZ:∀l:cN,Lib.join l [44,32]=fU l
 |[]=>rfl
 |[x]=>by simp[Lib.join,List.intercalate,fU]
 |x::y::l=>by
  have a:=zZ (y::l);unfold Lib.join List.intercalate at a ⊢
  rw[List.intersperse_cons_cons,List.flatten_cons,List.flatten_cons,a];simp[fU]
def ZE(l:cN):Lib.join ((l.map bs).map fun x=>x.data.toList) (bs [44,32]).data.toList=fU l:=by
 rw[<-zZ,List.map_map];have e:((fun x:ByteArray=>x.data.toList) ∘ bs)=id:=funext fun x=>by simp[fX]
 rw[e,List.map_id];simp[fX]
def yK(w:aG)(x:cD):∀j u,([.string (bs x)]:List Value)[j]?=some u->(w.alloc (.cells #[.string (bs x)] 9)).cell? ((⟨w.heap.size,0,none⟩:Addr).add j)=some u:=by
 intro j v a;match j,a with
 |0,a=>simp at a;subst a;simp[Addr.add,go_sem]
 |j+1,a=>simp at a
def ES(x:cD):∀u∈([.string (bs x)]:List Value),u.oneCell'=true:=by
 intro u a;simp at a;rw[a];rfl
def wQ:(prog.info? 9).map (fun i=>(i.zero,i.size,i.bytes))=some (some (.string ⟨#[]⟩),1,16):=by kernel_rfl
def KC(l:cN):List Value:=l.map fun x=>Value.string (bs x)
def tL(F:bX)(k:Nat):Prop:=∀(v:aQ) (a:aM) (w:aG),PV F w v a->(∀b,F b->b<w.heap.size)->kM w->aN a<=k->k<=1000000->Calls prog 63 #[v] w fun e w'=>e=aZ (.string (bs (cH a)))/\Below w.heap.size w w'
def MU(F:bX)(k:Nat)(IH:tL F k)(x:Option Addr)(c:Nat)(l:List aM)(w:aG)(hl:PVs F w (.slice x l.length c) l)(hF:∀b,F b->b<w.heap.size)(hp:kM w)(hc:(l.map aN).sum<=k)(hk:k<=1000000):
 Calls prog 101 #[.slice x l.length c] w fun e w'=>e=aZ (.string (bs (fU (l.map cH))))/\Below w.heap.size w w':=by
 obtain⟨i0,hi,N,X,T⟩:=info_parts wQ;have Z:=kH l;have r:=aB IH;have V:=aB hl;have HF:=aB hF;have HP:=aB hp;clear IH hl hF hp;go_in
 go_wp2_with fail;go_loopg [3,5,8] l.length (fun gk s _ i wr=>∃j:Nat,j+gk=l.length/\i=Iv0 j/\(∃y d,s=.slice y j d)/\wr.ownsRow w.heap.size 9 1 s j (KC ((l.map cH).take j))/\Below w.heap.size w wr)
 case atStart=>exact⟨0,by omega,rfl,⟨none,0,rfl⟩,World.ownsRow_nil _ _ _ _,co_ _ _⟩
 case round=>
  obtain⟨j,hj,rfl,⟨y,d,rfl⟩,h,f⟩:=hrel;by_cases v:j<l.length
  ·obtain⟨m,rfl⟩:∃m,gk=m+1:=⟨gk-1,by omega⟩
   have E:=V.keep fun b H=>f.block b (HF b H)
   obtain⟨g,u,rfl,hn,ad,hg,Y,O,U⟩:=E.get j v;have B:l[j]∈l:=cG_ v;have ae:=mQ B;have HX:=aB (r u l[j] wr U (fun b H=>cn_ (HF b H) f.size) (HP.below f) (by omega) (by omega))
   obtain⟨t,u',rfl⟩:=U.form;have K:=f.size;have HO:=aB h;have G:=aB f
   have D:KC ((l.map cH).take (j+1))=KC ((l.map cH).take j)++[.string (bs (cH l[j]))]:=by
    rw[cK_ (by simpa using v)];simp[KC]
   have I:=aB D;clear U h f D E;go_wp2_with fail;refine HX.mono ?_;rintro e C ⟨rfl,q⟩;have aa:=q.size;have p:=iN HO q;have z:=aB p;clear p;generalize cH l[j]=tx at*;go_wp2_with (at_builtin;refine wpList_append_lies _ (by rfl) _ _ 37 (by rfl) w.heap.size 9 i0 _ 1 16 underlying37 hi N X T rfl (by decide) (.slice y j d) j _ (by rfl) (z.alloc _) (aH C.heap.size 0) 1 1 [.string (bs tx)] (by rfl) (by rfl) (yK C _) (ES _) (by decide) (by unfold maxLen;omega) (by omega) (by simp;omega) (C.heap.size+1) (by simp) ?_)
   intro g4 ab w4 o n A ag;have P:=aB o;have Q:=aB n;clear o n A;go_wp2
   go_roundg m
   case measure=>omega
   case rel=>
    refine⟨j+1,by omega,by go_num,⟨_,_,rfl⟩,by rw[I.out];exact P,?_⟩
    exact((G.trans (q.mono (by omega))).alloc (by omega) _).grown Q (by simp;omega) fun k hk=>(z.lt k hk).1
  ·have J:j=l.length:=by omega
   subst J;have K:=f.size;rw[cS_ (by simp)] at h
   have G:=aB f;have af:=vK l fun a _=>zE a
   rcases h.2 with ⟨W,r2⟩|⟨g,cp,ac,W,r2,S,r4,r5,r6,r7⟩
   ·have e1:l=[]:=cF_ r2;subst e1;cases W;clear h f V r;go_wp2_with fail;refine(strings_Join_none _ _ _ _).mono ?_;rintro e C ⟨rfl,rfl⟩;go_wp2
    go_ret;exact⟨rfl,G⟩
   ·cases W
    have HJ:=aB (strings_Join g 0 d ((l.map cH).map bs) (bs [44,32]) wr (fun i x M=>by
     refine aA S ?_
     have e2:(KC (l.map cH))[i]?=some (.string x):=by
      unfold KC;rw[dw_] at M ⊢
      obtain⟨y,hy,rfl⟩:=Option.map_eq_some_iff.1 M;rw[hy];rfl
     have ah:i<l.length:=by
      have:=(cQ_.1 M).1;simpa using this
     rw[<-r7,cM_,if_pos (by omega)] at e2
     simpa using e2) (aC S) (by simp;omega) (by simpa using r4) (by rw[ZE];omega))
    have L:((l.map cH).map bs).length=l.length:=by simp
    rw[L,ZE] at HJ;clear h f V r S r6 r7;go_wp2_with fail;refine HJ.mono ?_;rintro e C ⟨rfl,q⟩;go_wp2
    go_ret;exact⟨rfl,G.trans (q.mono (by omega))⟩
def XE{w w':aG}{k:Nat}{os:Array Obj}(h:w'=Sort.grow (w.drewN k) os):Below w.heap.size w w':=by
 subst h;refine⟨rfl,rfl,rfl,?_,fun i a=>?_⟩
 ·show w.heap.size<=(w.heap++os).size
  rw[Array.size_append];omega
 ·show (w.heap++os)[i]?=w.heap[i]?
  rw[Array.getElem?_append_left a]
def L9:(⟨(Lib.formatBool false).toArray⟩:ByteArray)=bs [102,97,108,115,101]:=by kernel_rfl
def R8:(⟨(Lib.formatBool true).toArray⟩:ByteArray)=bs [116,114,117,101]:=by kernel_rfl
def IK(F:bX)(k:Nat)(g:tL F k):tL F (k+1):=by
 intro v a w h y f j H;rcases h.cases with ⟨n,rfl,rfl,u,t⟩|⟨b,rfl,rfl⟩|⟨s,rfl,rfl⟩|⟨x,c,l,rfl,rfl,z⟩
 ·have q:=mH;have d:cH (bG n)=iZ n:=by rw[kQ];rfl
  have p:=aB (strconv_FormatInt_10 n u t w f);rw[d];clear h g j f;go_in
  go_wp2_with fail;refine p.mono ?_;rintro e r ⟨rfl,G,I,i⟩;have o:=XE i;clear i;go_wp2
  go_ret;exact⟨by rw[IT n u t];rfl,o⟩
 ·have q:=lH;have B:=vQ;have d:cH (bT b)=if b then [116,114,117,101] else [102,97,108,115,101]:=by rw[kQ];cases b<;>rfl
  rw[d];clear h g j f;cases b
  all_goals
   go_in
   go_wp2_with fail;refine(strconv_FormatBool _ _).mono ?_;rintro e r ⟨rfl,rfl⟩;go_wp2
   go_ret;exact⟨by first|(rw[L9];rfl)|(rw[R8];rfl),co_ _ _⟩
 ·have q:=mG;have B:=zF;have m:=kZ;have d:cH (bO s)=[34]++s++[34]:=by rw[kQ];rfl
  have D:(bs s).size=s.length:=gR s;rw[lO] at j;rw[d];clear h g f;go_in
  go_wp2
  go_ret;refine⟨?_,co_ _ _⟩;show Ending.returned (.string ((⟨#[34]⟩:ByteArray)++bs s++(⟨#[34]⟩:ByteArray)))=_
  rw[D0,D3];rfl
 ·have q:=lF;have B:=vP;have m:=mX;have A:=iG;have d:cH (bA l)=[91]++fU (l.map cH)++[93]:=by rw[kQ];rfl
  have C:=vK l fun a _=>zE a
  rw[jN] at j;have p:=aB (MU F k g x c l w z y f (by omega) (by omega))
  have D:(bs (fU (l.map cH))).size=(fU (l.map cH)).length:=gR _;rw[d];generalize fU (l.map cH)=E at*;clear h g f z y;go_in
  go_wp2_with fail;refine p.mono ?_;rintro e r ⟨rfl,o⟩;go_wp2
  go_ret;refine⟨?_,o⟩;show Ending.returned (.string (bs [91]++bs E++bs [93]))=_
  rw[tK,tK];rfl
def nI(F:bX):∀k,tL F k
 |0=>fun v a w _ _ _ h=>by have:=tJ a;omega
 |k+1=>IK F k (nI F k)
def D6(F:bX)(v:aQ)(a:aM)(w:aG)(h:PV F w v a)(g:∀b,F b->b<w.heap.size)(i:kM w)(j:aN a<=100000):
 Calls prog 277 #[v] w fun e p=>e=aZ (.string (bs (kR a)))/\Below w.heap.size w p:=by
 have k:=aB (nI F 100000 v a w h g i j (by omega))
 rcases h.cases with ⟨n,rfl,rfl,u,t⟩|⟨b,rfl,rfl⟩|⟨s,rfl,rfl⟩|⟨x,c,l,rfl,rfl,r⟩
 ·have q:=nU;have d:kR (bG n)=cH (bG n):=rfl;rw[d];generalize cH (bG n)=o at*;clear h g i j;go_in
  go_wp2_with fail;refine k.mono ?_;rintro e m ⟨rfl,f⟩;go_wp2
  go_ret;exact⟨rfl,f⟩
 ·have q:=lG;have d:kR (bT b)=cH (bT b):=rfl;rw[d];generalize cH (bT b)=o at*;clear h g i j;go_in
  go_wp2_with fail;refine k.mono ?_;rintro e m ⟨rfl,f⟩;go_wp2
  go_ret;exact⟨rfl,f⟩
 ·have q:=kZ;have d:kR (bO s)=s:=rfl;rw[d];clear h g i j k;go_in
  go_wp2
  go_ret;exact⟨rfl,co_ _ _⟩
 ·have q:=mX;have d:kR (bA l)=cH (bA l):=rfl;rw[d];generalize cH (bA l)=o at*;clear h g i j r;go_in
  go_wp2_with fail;refine k.mono ?_;rintro e m ⟨rfl,f⟩;go_wp2
  go_ret;exact⟨rfl,f⟩
def U8(F:bX)(v:aQ)(a:aM)(w:aG)(h:PV F w v a)(i:bS a)(k:aN a<=1000000):Calls prog 266 #[v] w (fC F w (eK a)):=by
 rcases h.cases with ⟨m,rfl,rfl,B,A⟩|⟨b,rfl,rfl⟩|⟨s,rfl,rfl⟩|⟨x,c,l,rfl,rfl,y⟩
 ·have q:=jU;have o:=nU;have d:eK (bG m)=(bR,2):=rfl;rw[d];clear h i k;go_in
  go_wp2_with fail;exact⟨rfl,fC.stop (co_ _ _) rfl (by decide)⟩
 ·have q:=iH;have o:=lG;have d:eK (bT b)=(bR,2):=rfl;rw[d];clear h i k;go_in
  go_wp2_with fail;exact⟨rfl,fC.stop (co_ _ _) rfl (by decide)⟩
 ·have q:=lE;have o:=kZ;have t:dB s:=i.txt;have d:eK (bO s)=(bG (eG s).length,0):=rfl;have C:(bs s).size=s.length:=gR s;rw[lO] at k;have g:=uD s
  have f:Lib.runeCount (bs s)=(eG s).length:=by
   unfold Lib.runeCount;have n:(bs s).data.toList=s:=by simp[fX]
   rw[AC (bs s) (bs s).size 0 (by omega) (by rw[n];exact t),n];rfl
  have p:=aB (utf8_RuneCountInString (bs s) w (by omega))
  rw[f] at p;rw[d];clear h i f;go_in
  go_wp2_with fail;refine p.mono ?_;rintro e r ⟨rfl,z,j⟩;have u:Below w.heap.size w r:=by rw[j];exact(co_ _ w).alloc cL _
  clear j;go_wp2
  go_ret;exact fC.ok u rfl (PV.num _ _ _ (by omega) (by omega))
 ·have q:=iG;have d:eK (bA l)=(bG l.length,0):=rfl;have g:=kH l;rw[jN] at k;rw[d];clear h i y;go_in
  go_wp2
  go_ret;exact fC.ok (co_ _ _) rfl (PV.num _ _ _ (by omega) (by omega))
def V6(F:bX)(x:Option Addr)(c:Nat)(l:List aM)(v:aQ)(b:aM)(w:aG)(s:PVs F w (.slice x l.length c) l)(o:PV F w v b)(N:l.length<=1000000):Calls prog 249 #[.iface 214 (.slice x l.length c),v] w (fC F w (dL (bA l) b)):=by
 have q:=iG;have B:=aB (uZ F v b l.length w o (by omega))
 obtain⟨t,z,rfl⟩:=o.form;have A:=aB s
 have y:dL (bA l) b=if b.sort≠0 then (bR,2) else if b.n<0\/(l.length:Int)<=b.n then (bR,4) else (l.getD b.n.toNat bR,0):=by
  simp[dL,kF,bA]
 have j:=aB y;generalize dL (bA l) b=r at j;clear o s y;go_in
 go_wp2_with fail;refine B.mono ?_;rintro e G ⟨rfl,⟨f,rfl⟩|⟨f,i,rfl⟩|⟨f,k,i,D,rfl⟩⟩
 ·go_wp2_with fail;exact⟨rfl,fC.stop (co_ _ _) (j.trans (if_pos f)) (by decide)⟩
 ·go_wp2_with fail;exact⟨rfl,fC.stop (co_ _ _) (j.trans ((if_neg (fun h=>h f)).trans (if_pos i))) (by decide)⟩
 ·obtain⟨g,u,rfl,_,L,J,p,m,n⟩:=A.get k i;obtain⟨H,I,rfl⟩:=n.form;have E:=aB n;have d:l.getD b.n.toNat bR=l[k]:=by rw[D];simp[i]
  have a:r=(l[k],0):=by rw[j.out,if_neg (fun h=>h f),if_neg (by omega),d]
  have HRes:=aB a;have M:(0:Int)<=(k:Int):=by omega
  have K:(k:Int)<(l.length:Int):=by omega
  clear n d a A B;go_wp2
  go_ret;exact fC.ok (co_ _ _) HRes (E.mono fun k C=>cl_ C)
def N5(r:Nat)(W:aG):(convert 21 213 (.int .i32 (r:Int))).run prog W=.ok (.string (bs (FI r))) W:=by
 have a:Utf8.encode (Int.ofNat r)=bs (FI r):=by
  have:∀x:ByteArray,x=bs x.data.toList:=fun x=>by cases x;simp[bs]
  exact this _
 rw[Int.ofNat_eq_natCast] at a;simp[convert,run_underlying underlying21,run_underlying underlying213,Conv.intToString,a]
def af_(F:Nat->Prop)(s:List UInt8)(v:Value)(b:aM)(w:World)(H:PV F w v b)(O:dB s)(hc:s.length<=1000000)(T:∀k,F k->k<w.heap.size):Calls prog 249 #[.iface 213 (.string (bs s)),v] w (fC F w (dL (bO s) b)):=by
 have q:=lE;have q':=kZ;have hs:(bs s).size=s.length:=gR s;have B:(bs s).data.toList=s:=by simp[fX]
 obtain⟨c,C,l,r3,j⟩:=zP (bs s) (bs s).size 0 #[] (by omega) (by rw[B];exact O)
 rw[List.drop_zero,B] at l j;have i:(Conv.runesFrom (bs s) (bs s).size 0 #[]).size=c.length:=by rw[C];simp
 have I:=uD s;have a:=run_runes_of_string (P:=prog) w 213 369 21 (bs s) underlying213 underlying369 underlying21 (by rw[i];omega)
 rw[i,C] at a;generalize grownCap w c.length 0 21=Y at a;generalize n:(Obj.cells ((#[]++(c.map fun r=>Value.int .i32 (Int.ofNat r)).toArray)++Array.replicate (Y-c.length) (.int .i32 0)) 21)=y at a
 have d:∀k (h:k<c.length),(w.drew.alloc y).cell? ⟨w.heap.size,k,none⟩=some (.int .i32 ((c[k]:Nat):Int)):=fun k h=>by
  rw[<-n];refine aA (aO _ _ rfl _) ?_;rw[Array.getElem?_append_left (by simpa using h)]
  simp[h]
 have D:Below w.heap.size w (w.drew.alloc y):=((co_ _ w).drew).alloc (cy_ _) _;have J:=aB (uZ F v b c.length (w.drew.alloc y) (H.keep fun k S=>D.block k (T k S)) (by omega))
 obtain⟨t,z,rfl⟩:=H.form
 have L:dL (bO s) b=if b.sort≠0 then (bR,2) else if b.n<0\/(c.length:Int)<=b.n then (bR,4) else (((eG s).map bO).getD b.n.toNat bR,0):=by
  rw[l];simp[dL,kF,bO]
 have A:=aB L;have M:c.length<=1000000:=by omega
 have Q:=aB l;have W:=aB j;have G:=aB d;have x:=aB D;generalize dL (bO s) b=r at A;generalize p:w.drew.alloc y=N at a J G x;have K:w.heap.size<N.heap.size:=by rw[<-p];simp
 clear H L d D p n C i B l j I;go_enter func249,ntmps249;go_wp2_with fail;refine J.out.mono ?_;rintro e Z ⟨rfl,⟨o,rfl⟩|⟨o,u,rfl⟩|⟨o,k,u,V,rfl⟩⟩
 ·go_wp2_with fail;exact⟨rfl,fC.stop x.out (A.out.trans (if_pos o)) (by decide)⟩
 ·go_wp2_with fail;exact⟨rfl,fC.stop x.out (A.out.trans ((if_neg (fun h=>h o)).trans (if_pos u))) (by decide)⟩
 ·have U:=G.out k u;have l:=Q.out;have j:=W.out
  have m:FI c[k]=(eG s)[k]'(by omega):=by
   have:(c.map FI)[k]?=(eG s)[k]?:=by rw[j]
   rw[dw_,cz_ u,cz_ (by omega)] at this
   simpa using this
  have g:((eG s).map bO).getD b.n.toNat bR=bO (FI c[k]):=by
   rw[m,V];have E:k<(eG s).length:=by omega
   simp[E]
  have f:r=(bO (FI c[k]),0):=by rw[A.out,if_neg (fun h=>h o),if_neg (by omega),g]
  have X:=N5 c[k] Z;have HRes:=aB f;have e1:(0:Int)<=(k:Int):=by omega
  have e2:(k:Int)<(c.length:Int):=by omega
  clear g f m J G l j;generalize c[k]=rk at*;go_wp2_with fail;go_ret;exact fC.ok x.out HRes.out (PV.str _ _ _)
def ag_(F:bX)(u v:aQ)(a b:aM)(w:aG)(i:PV F w u a)(d:PV F w v b)(g:bS a)(f:aN a<=1000000)(h:∀k,F k->k<w.heap.size):Calls prog 249 #[u,v] w (fC F w (dL a b)):=by
 rcases i.cases with ⟨m,rfl,rfl,p,o⟩|⟨x,rfl,rfl⟩|⟨s,rfl,rfl⟩|⟨x,c,l,rfl,rfl,j⟩
 ·have q:=jU;have n:=nU;have e:dL (bG m) b=(bR,2):=by simp[dL,bG]
  rw[e];obtain⟨t,z,rfl⟩:=d.form;clear i d g f h e;go_in
  go_wp2_with fail;exact⟨rfl,fC.stop (co_ _ _) rfl (by decide)⟩
 ·have q:=iH;have n:=lG;have e:dL (bT x) b=(bR,2):=by simp[dL,bT]
  rw[e];obtain⟨t,z,rfl⟩:=d.form;clear i d g f h e;go_in
  go_wp2_with fail;exact⟨rfl,fC.stop (co_ _ _) rfl (by decide)⟩
 ·rw[lO] at f;exact af_ F s v b w d g.txt (by omega) h
 ·rw[jN] at f;have:=kH l;exact V6 F x c l v b w j d (by omega)
def XO(n m:Int)(w:aG):(binOp .eql 129 (.iface 209 (Iv0 n)) (.iface 209 (Iv0 m))).run prog w=.ok (.bool (n==m)) w:=by kernel_rfl
def NQ(n m:Bool)(w:aG):(binOp .eql 129 (.iface 211 (.bool n)) (.iface 211 (.bool m))).run prog w=.ok (.bool (n==m)) w:=by kernel_rfl
def SI(n m:ByteArray)(w:aG):(binOp .eql 129 (.iface 213 (.string n)) (.iface 213 (.string m))).run prog w=.ok (.bool (n==m)) w:=by kernel_rfl
def XL(a b:cD)(w:aG):(binOp .eql 129 (.iface 213 (.string (bs a))) (.iface 213 (.string (bs b)))).run prog w=.ok (.bool (a==b)) w:=by
 rw[SI];have h:(bs a==bs b)=((bs a).data==(bs b).data):=rfl;rw[h];simp[bs]
def SM(u v:aQ)(w:aG):(binOp .eql 129 (.iface 209 u) (.iface 211 v)).run prog w=.ok (.bool false) w:=by kernel_rfl
def XN(u v:aQ)(w:aG):(binOp .eql 129 (.iface 209 u) (.iface 213 v)).run prog w=.ok (.bool false) w:=by kernel_rfl
def SL(u v:aQ)(w:aG):(binOp .eql 129 (.iface 209 u) (.iface 214 v)).run prog w=.ok (.bool false) w:=by kernel_rfl
def SO(u v:aQ)(w:aG):(binOp .eql 129 (.iface 211 u) (.iface 209 v)).run prog w=.ok (.bool false) w:=by kernel_rfl
def SN(u v:aQ)(w:aG):(binOp .eql 129 (.iface 211 u) (.iface 213 v)).run prog w=.ok (.bool false) w:=by kernel_rfl
def NP(u v:aQ)(w:aG):(binOp .eql 129 (.iface 211 u) (.iface 214 v)).run prog w=.ok (.bool false) w:=by kernel_rfl
def XM(u v:aQ)(w:aG):(binOp .eql 129 (.iface 213 u) (.iface 209 v)).run prog w=.ok (.bool false) w:=by kernel_rfl
def SK(u v:aQ)(w:aG):(binOp .eql 129 (.iface 213 u) (.iface 211 v)).run prog w=.ok (.bool false) w:=by kernel_rfl
def SJ(u v:aQ)(w:aG):(binOp .eql 129 (.iface 213 u) (.iface 214 v)).run prog w=.ok (.bool false) w:=by kernel_rfl
def nY{a b:aM}(h:a=b):cO a b=true:=(zO a b).2 h
def dW{a b:aM}(h:a≠b):cO a b=false:=by
 cases c:cO a b
 ·rfl
 ·exact absurd ((zO a b).1 c) h
def CH{l m:List aM}:bA l=bA m↔l=m:=by simp[bA]
def CF(F:bX)(k:Nat):Prop:=∀(u v:aQ) (a b:aM) (w:aG),PV F w u a->PV F w v b->aN a<=k->k<=1000000000->aN b<=1000000000->
 Calls prog 256 #[u,v] w fun e w'=>w'=w/\e=aZ (.bool (cO a b))
def EL(F:bX)(k:Nat)(O:CF F k)(x y:Option Addr)(c d:Nat)(l m:List aM)(w:aG)(N:PVs F w (.slice x l.length c) l)(D:PVs F w (.slice y m.length d) m)(hc:aN (bA l)<=k+1)(hk:k<=1000000000)(V:aN (bA m)<=1000000000):
 Calls prog 260 #[.slice x l.length c,.slice y m.length d,.func (.func 256) #[] #[]] w fun e X=>X=w/\e=aZ (.bool (cO (bA l) (bA m))):=by
 have h1:=kH l;have h2:=kH m;rw[jN] at hc V;by_cases h:l.length=m.length
 ·have I:((l.length:Int) != (l.length:Int))=false:=by simp
  rw[<-h] at D ⊢
  have HL:=aB N;have Z:=aB D;have L:=aB O;have s:=aB h;clear N D O h;go_in
  go_wp2_with fail;go_loopg [6,7,8,9,17] l.length (fun gk _ _ _ _ i wr=>∃j:Nat,j+gk=l.length/\i=Iv0 j/\wr=w/\Hid (l.take j=m.take j))
  case atStart=>exact⟨0,by omega,rfl,rfl,by simp[Hid]⟩
  case round=>
   obtain⟨j,hj,rfl,rfl,H⟩:=hrel;by_cases n:j<l.length
   ·obtain⟨q,rfl⟩:∃q,gk=q+1:=⟨gk-1,by omega⟩
    obtain⟨g,u,rfl,hn,hF,hg,U,K,P⟩:=HL.get j n;obtain⟨g',u',rfl,M,Y,aa,Q,G,A⟩:=Z.get j (by rw[<-s.out];exact n)
    have J:=mQ (cG_ n);have f:j<m.length:=by rw[<-s.out];exact n
    have C:=mQ (cG_ f);have E:=aB (L u u' l[j] (m[j]'f) wr P A (by omega) hk (by omega))
    obtain⟨t,z,rfl⟩:=P.form;obtain⟨t',z',rfl⟩:=A.form;have v:l.take (j+1)=l.take j++[l[j]]:=cK_ n;have p:m.take (j+1)=m.take j++[m[j]'f]:=cK_ f;have r:l[j]?=some l[j]:=cz_ n;have B:m[j]?=some (m[j]'f):=cz_ f;generalize l[j]=a at*;generalize m[j]'f=b at*;clear P A J C hn M;by_cases o:a=b
    ·rw[nY o] at E;have T:Hid (l.take (j+1)=m.take (j+1)):=by show _=_;rw[v,p,H.out,o]
     clear v p r B H o;go_wp2_with fail;refine E.mono ?_;rintro e W ⟨rfl,rfl⟩;go_wp2
     go_roundg q
     case measure=>omega
     case rel=>exact⟨j+1,by omega,by go_num,rfl,T⟩
    ·rw[dW o] at E;have S:Hid (l≠m):=by show _≠_;intro e;rw[e,B] at r;cases r;exact o rfl
     clear v p r B H o;go_wp2_with fail;refine E.mono ?_;rintro e W ⟨rfl,rfl⟩;go_wp2
     go_ret;exact⟨rfl,by rw[dW fun e=>S.out (CH.1 e)];rfl⟩
   ·have HE:Hid (l=m):=by
     show _=_
     have:=H.out;rw[cS_ (by omega),cS_ (by rw[<-s.out];omega)] at this
     exact this
    go_wp2
    go_ret;exact⟨rfl,by rw[nY (CH.2 HE.out)];rfl⟩
 ·have I:((l.length:Int) != (m.length:Int))=true:=by simp;omega
  have S:Hid (l≠m):=by show _≠_;intro e;exact h (by rw[e])
  clear N D O;go_in
  go_wp2
  go_ret;exact⟨rfl,by rw[dW fun e=>S.out (CH.1 e)];rfl⟩
def QL(F:bX)(k:Nat)(i:CF F k):CF F (k+1):=by
 intro u v a b w j g m G h;rcases j.cases with ⟨n,rfl,rfl,H,E⟩|⟨s,rfl,rfl⟩|⟨s,rfl,rfl⟩|⟨x,c,l,rfl,rfl,y⟩
 ·have q:=jU;rcases g.cases with ⟨p,rfl,rfl,_,_⟩|⟨f,rfl,rfl⟩|⟨f,rfl,rfl⟩|⟨B,A,t,rfl,rfl,_⟩
  ·have o:=XO
   have d:Hid (cO (bG n) (bG p)=(n==p)):=by
    show _=_
    by_cases e:n=p
    ·rw[nY (by rw[e]),e,beq_self_eq_true]
    ·rw[dW (by simp[bG,e]),beq_eq_false_iff_ne.2 e]
   clear j g i m h;generalize cO (bG n) (bG p)=r at*;go_in
   go_wp2
   go_ret;exact⟨rfl,by rw[d.out];rfl⟩
  ·have o:=SM;have d:Hid (cO (bG n) (bT f)=false):=dW (by simp[bG,bT])
   clear j g i m h;generalize cO (bG n) (bT f)=r at*;go_in
   go_wp2
   go_ret;exact⟨rfl,by rw[d.out];rfl⟩
  ·have o:=XN;have d:Hid (cO (bG n) (bO f)=false):=dW (by simp[bG,bO])
   clear j g i m h;generalize cO (bG n) (bO f)=r at*;go_in
   go_wp2
   go_ret;exact⟨rfl,by rw[d.out];rfl⟩
  ·have o:=SL;have d:Hid (cO (bG n) (bA t)=false):=dW (by simp[bG,bA])
   clear j g i m h;generalize cO (bG n) (bA t)=r at*;go_in
   go_wp2
   go_ret;exact⟨rfl,by rw[d.out];rfl⟩
 ·have q:=iH;rcases g.cases with ⟨p,rfl,rfl,_,_⟩|⟨f,rfl,rfl⟩|⟨f,rfl,rfl⟩|⟨B,A,t,rfl,rfl,_⟩
  ·have o:=SO;have d:Hid (cO (bT s) (bG p)=false):=dW (by simp[bT,bG])
   clear j g i m h;generalize cO (bT s) (bG p)=r at*;go_in
   go_wp2
   go_ret;exact⟨rfl,by rw[d.out];rfl⟩
  ·have o:=NQ
   have d:Hid (cO (bT s) (bT f)=(s==f)):=by
    show _=_
    cases s<;>cases f<;>first|exact nY rfl|exact dW (by simp[bT])
   clear j g i m h;generalize cO (bT s) (bT f)=r at*;go_in
   go_wp2
   go_ret;exact⟨rfl,by rw[d.out];rfl⟩
  ·have o:=SN;have d:Hid (cO (bT s) (bO f)=false):=dW (by simp[bT,bO])
   clear j g i m h;generalize cO (bT s) (bO f)=r at*;go_in
   go_wp2
   go_ret;exact⟨rfl,by rw[d.out];rfl⟩
  ·have o:=NP;have d:Hid (cO (bT s) (bA t)=false):=dW (by simp[bT,bA])
   clear j g i m h;generalize cO (bT s) (bA t)=r at*;go_in
   go_wp2
   go_ret;exact⟨rfl,by rw[d.out];rfl⟩
 ·have q:=lE;rcases g.cases with ⟨p,rfl,rfl,_,_⟩|⟨f,rfl,rfl⟩|⟨f,rfl,rfl⟩|⟨B,A,t,rfl,rfl,_⟩
  ·have o:=XM;have d:Hid (cO (bO s) (bG p)=false):=dW (by simp[bO,bG])
   clear j g i m h;generalize cO (bO s) (bG p)=r at*;go_in
   go_wp2
   go_ret;exact⟨rfl,by rw[d.out];rfl⟩
  ·have o:=SK;have d:Hid (cO (bO s) (bT f)=false):=dW (by simp[bO,bT])
   clear j g i m h;generalize cO (bO s) (bT f)=r at*;go_in
   go_wp2
   go_ret;exact⟨rfl,by rw[d.out];rfl⟩
  ·have o:=XL
   have d:Hid (cO (bO s) (bO f)=(s==f)):=by
    show _=_
    by_cases e:s=f
    ·rw[nY (by rw[e]),e,beq_self_eq_true]
    ·rw[dW (by simp[bO,e]),beq_eq_false_iff_ne.2 e]
   clear j g i m h;generalize cO (bO s) (bO f)=r at*;go_in
   go_wp2
   go_ret;exact⟨rfl,by rw[d.out];rfl⟩
  ·have o:=SJ;have d:Hid (cO (bO s) (bA t)=false):=dW (by simp[bO,bA])
   clear j g i m h;generalize cO (bO s) (bA t)=r at*;go_in
   go_wp2
   go_ret;exact⟨rfl,by rw[d.out];rfl⟩
 ·have q:=iG;rcases g.cases with ⟨p,rfl,rfl,_,_⟩|⟨f,rfl,rfl⟩|⟨f,rfl,rfl⟩|⟨B,A,t,rfl,rfl,z⟩
  ·have o:=jU;have d:Hid (cO (bA l) (bG p)=false):=dW (by simp[bA,bG])
   clear j g y i m h;generalize cO (bA l) (bG p)=r at*;go_in
   go_wp2
   go_ret;exact⟨rfl,by rw[d.out];rfl⟩
  ·have o:=iH;have d:Hid (cO (bA l) (bT f)=false):=dW (by simp[bA,bT])
   clear j g y i m h;generalize cO (bA l) (bT f)=r at*;go_in
   go_wp2
   go_ret;exact⟨rfl,by rw[d.out];rfl⟩
  ·have o:=lE;have d:Hid (cO (bA l) (bO f)=false):=dW (by simp[bA,bO])
   clear j g y i m h;generalize cO (bA l) (bO f)=r at*;go_in
   go_wp2
   go_ret;exact⟨rfl,by rw[d.out];rfl⟩
  ·have C:=aB (EL F k i x B c A l t w y z m (by omega) h)
   clear j g y z i m h;generalize cO (bA l) (bA t)=r at*;go_in
   go_wp2_with fail;refine C.mono ?_;rintro e D ⟨rfl,rfl⟩;go_wp2
   go_ret;exact⟨rfl,rfl⟩
def vA(F:bX):∀k,CF F k
 |0=>fun u v a b w _ _ h=>by have:=tJ a;omega
 |k+1=>QL F k (vA F k)
end Go.Proofs.YtmjbnmpamlainaaGreatDoor
