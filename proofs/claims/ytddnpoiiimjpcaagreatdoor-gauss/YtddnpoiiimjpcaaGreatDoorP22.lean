/- What a program prints: the walk. -/
import Derived.Test.YtddnpoiiimjpcaaGreatDoorP20
set_option linter.defProp false
set_option maxRecDepth 100000
set_option maxHeartbeats 4000000
namespace Go.Proofs.YtddnpoiiimjpcaaGreatDoor
open Hs
open _root_.Go.Proofs.Tryz
open Go.RowKit
def IU(w:aH)(g:ByteArray)(T:Nat)(D:T<=500)(P:SV->World->Prop)(L:Nat->Nat->World->Prop)(M:Nat->World->Prop)
 (r:Hid (Calls prog 22 #[.string g,bV] w fun e b=>∃a,e=bE (.tuple #[bO a,Iv0 0,Iv0 0])/\L 0 a b))
 (p:Hid (∀t a W,L t a W->Calls prog 24 #[bO a] W fun e b=>(t<T/\e=bE (.bool true)/\L (t+1) a b)\/(t=T/\e=bE (.bool false)/\M a b)))
 (h:Hid (∀a W,M a W->Calls prog 8 #[bO a] W fun e b=>∃m:SV,e=bE m.val/\m.t=T/\m.q=1/\m.n1=0/\∀q,P m ((b.alloc (.cells m.cells 35)).drewN q))):
 Calls prog 13 #[.string g] w fun e b=>∃m:SV,e=bE (.tuple #[.slice m.x3 m.n3 m.c3,Iv0 T,.bool true])/\P m b:=by
 go_in
 go_wp2_with fail;refine r.mono ?_;rintro e B ⟨a,rfl,k⟩;have z:=aB k;clear k r;go_wp2_with fail;go_loopg [8] (T+1) (fun gk v wr=>∃t:Nat,v=Iv0 t/\gk+t=T+1/\t<=T/\L t a wr)
 case atStart=>exact⟨0,rfl,by omega,by omega,z⟩
 case round=>
  obtain⟨t,rfl,y,A,o⟩:=hrel
  ·have c:=aB (p _ _ _ o);have E:(t:Int)<=500:=by omega
   clear o p;go_wp2_with fail;refine c.mono ?_;rintro e F (⟨i,rfl,f⟩|⟨i,rfl,f⟩)
   ·have x:=aB f;clear f c h;go_wp2
    go_roundg (gk-1)
    case measure=>omega
    case rel=>exact⟨t+1,by simp,by omega,by omega,x⟩
   ·have d:=aB (h _ _ f);unfold SV.val SV.cells at d;clear f h c;go_wp2_with fail;refine d.mono ?_;rintro e C ⟨m,rfl,s,l,u,n⟩;have j:=aB n;clear n d;subst i;rw[s,l,u] at j;rw[s,l,u];go_wp2_with fail;go_quiet (fail)
    go_wp2
    go_ret3
    exact⟨m,rfl,j _⟩
def FN(c:Int)(N:Nat)(a:0<N)(f:N<=1000)(h: -9223372036854775808<=c)(g:c<=9223372036854775807):
 ∃k:Nat,k<N/\∀w,Calls prog 12 #[Iv0 c,Iv0 N] w fun e b=>e=bE (Iv0 k)/\b=w:=by
 have j:¬(N:Int)=0:=by omega
 by_cases p:c<0
 ·have l:wrap64 (c+1)=c+1:=by unfold wrap64;omega
  have i:wrap64 (-(c+1))= -(c+1):=by unfold wrap64;omega
  obtain⟨m,d⟩:∃m:Nat, -(c+1)=(m:Int):=⟨(-(c+1)).toNat,by omega⟩
  have n:(-(c+1)).tmod N=((m%N:Nat):Int):=by rw[d];rfl
  refine⟨m%N,Nat.mod_lt _ a,fun w=>?_⟩
  go_in
  go_wp2
  refine bodyPost_ret (v:=Iv0 ((m%N:Nat):Int)) ?_ rfl ⟨rfl,rfl⟩;have o:(c+1).tmod N= -((m%N:Nat):Int):=by rw[show c+1= -(m:Int) by omega,Int.neg_tmod];rfl
  simp[results,results12,go_sem]
 ·obtain⟨m,rfl⟩:∃m:Nat,c=(m:Int):=⟨c.toNat,by omega⟩
  refine⟨m%N,Nat.mod_lt _ a,fun w=>?_⟩
  go_in
  go_wp2
  refine bodyPost_ret (v:=Iv0 ((m%N:Nat):Int)) (by simp[results,results12,go_sem]) rfl ⟨rfl,rfl⟩
def kQ(a b:cE):bs a++bs b=bs (a++b):=by
 apply G8
 rw[jN,ByteArray.data_append];simp[bs]
def digitsF_len(f:Nat):∀n t,(Hs.digitsF f n t).length<=t.length+f:=by
 induction f with
 |zero=>intro n t;simp[Hs.digitsF]
 |succ f a=>
  intro n t;rw[Hs.digitsF];split
  ·simp
  ·have:=a (n/10) (UInt8.ofNat (48+n%10)::t);rw[Y9] at this;omega
def KC(n:Int):(cH n).length<=21:=by
 unfold cH;have:=digitsF_len 20 n.natAbs [];rw[Y5];split<;>simp at this ⊢<;>omega
def tE(l:List aI)(h:∀x∈l,(cI x).length+2<=24*aK x):(fL (l.map cI)).length<=24*(l.map aK).sum:=by
 induction l with
 |nil=>simp[fL]
 |cons y r a=>
  have d:=h y (by simp)
  have b:=a fun x c=>h x (by simp[c])
  cases r with
  |nil=>simp[fL];omega
  |cons z r=>
   simp only[b9,fL,Y5,d9,Y9,Z5] at b ⊢
   omega
def wH:∀v:aI,(cI v).length+2<=24*aK v:=by
 refine aI.ind fun v a=>?_
 have c:=tE v.l a;have b:=KC v.n;rw[jT,eZ];split
 ·omega
 split
 ·split<;>simp<;>omega
 split
 ·simp;omega
 ·simp;omega
def VU(s:cE):(⟨#[34]⟩:ByteArray)++bs s=bs (34::s):=kQ [34] s
def VV(s:cE):bs s++(⟨#[34]⟩:ByteArray)=bs (s++[34]):=kQ s [34]
def PP(n:Int):kT n=wrap64 n:=by unfold kT wrap64;rfl
def Hs.oneL_neg{op:cE}{a:aI}(h:op=[45,120])(b:a.sort=0):fO op a=(bD (wrap64 (-a.n)),0):=by
 rw[<-PP];unfold fO;rw[if_pos ⟨h,b⟩]
def UU(n:Int)(a: -9223372036854775808<=n)(b:n<=9223372036854775807):kT n=n:=by unfold kT;omega
def ZW(x y:Int)(b: -9223372036854775808<=x)(a:x<=9223372036854775807): -9223372036854775808<=x.tmod y/\x.tmod y<=9223372036854775807:=by
 have h:(x.tmod y).natAbs=x.natAbs%y.natAbs:=Int.natAbs_tmod x y;have d:x.natAbs%y.natAbs<=x.natAbs:=Nat.mod_le _ _;by_cases c:0<=x
 ·have:=Int.tmod_nonneg y c;omega
 ·have:x.tmod y<=0:=by
   have:=Int.tmod_nonneg y (show 0<= -x by omega)
   rw[Int.neg_tmod] at this;omega
  omega
def Grow(F:cC)(w w':aH)(b:Nat):Prop:=F b\/(w.heap.size<=b/\b<w'.heap.size)
def tF:∀l m:cE,Op.bytesLess l m=gJ l m
 |[],[]=>rfl
 |[],_::_=>rfl
 |_::_,[]=>rfl
 |a::l,b::m=>by
  rw[Op.bytesLess,gJ,tF l m];by_cases c:a.toNat<b.toNat
  ·rw[if_pos c,decide_eq_true (UInt8.lt_iff_toNat_lt.2 c),Bool.true_or]
  ·rw[if_neg c,decide_eq_false (fun h=>c (UInt8.lt_iff_toNat_lt.1 h)),Bool.false_or]
   by_cases d:b.toNat<a.toNat
   ·rw[if_pos d,beq_eq_false_iff_ne.2 (fun e=>by rw[e] at d;omega),Bool.false_and]
   ·rw[if_neg d,show a=b from aj_.1 (by omega),beq_self_eq_true,Bool.true_and]
def GM:∀l m:cE,(gJ l m || l==m)= !gJ m l
 |[],[]=>rfl
 |[],_::_=>rfl
 |_::_,[]=>rfl
 |a::l,b::m=>by
  rw[gJ,gJ];by_cases d:a.toNat<b.toNat
  ·rw[if_pos d,if_neg (by omega),if_pos d];rfl
  ·by_cases c:b.toNat<a.toNat
   ·rw[if_neg d,if_pos c,if_pos c];have:(a::l==b::m)=false:=beq_eq_false_iff_ne.2 (fun e=>by rw[List.cons.injEq] at e;rw[e.1] at c;omega)
    rw[this];rfl
   ·rw[if_neg d,if_neg c,if_neg c,if_neg d,<-GM l m,show a=b from aj_.1 (by omega)]
    simp
end Go.Proofs.YtddnpoiiimjpcaaGreatDoor
