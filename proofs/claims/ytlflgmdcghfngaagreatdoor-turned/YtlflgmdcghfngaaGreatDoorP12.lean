/- What a program prints: the walk. -/
import Derived.Test.YtlflgmdcghfngaaGreatDoorB08
import Derived.Test.YtlflgmdcghfngaaGreatDoorP11
set_option linter.defProp false
set_option maxRecDepth 100000
set_option maxHeartbeats 4000000
namespace Go.Proofs.YtlflgmdcghfngaaGreatDoor
open Hs
open _root_.Go.Proofs.Tryz
open Go.RowKit
def OD(w:aG)(g:ByteArray)(T:Nat)(D:T<=500)(P:SV->World->Prop)(L:Nat->Nat->World->Prop)(M:Nat->World->Prop)
 (r:Hid (Calls prog 11 #[.string g,bG] w λe b=>∃a,e=aX (.tuple #[aZ a,I_ 0,I_ 0])/\L 0 a b))
 (p:Hid (∀t a W,L t a W->Calls prog 13 #[aZ a] W λe b=>(t<T/\e=aX (.bool true)/\L (t+1) a b)\/(t=T/\e=aX (.bool false)/\M a b)))
 (h:Hid (∀a W,M a W->Calls prog 6 #[aZ a] W λe b=>∃m:SV,e=aX m.val/\m.t=T/\m.q=1/\m.n1=0/\∀q,P m ((b.alloc (.cells m.cells 35)).drewN q))):
 Calls prog 27 #[.string g] w λe b=>∃m:SV,e=aX (.tuple #[.slice m.x3 m.n3 m.c3,I_ T,.bool true])/\P m b:=by
 go_in
 go_wp2_with fail;refine r.mono ?_;rintro e B ⟨a,rfl,k⟩;have z:=aB k;clear k r;go_wp2_with fail;go_loopg [8] (T+1) (λgk v wr=>∃t:Nat,v=I_ t/\gk+t=T+1/\t<=T/\L t a wr)
 case atStart=>exact⟨0,rfl,o_,o_,z⟩
 case round=>
  obtain⟨t,rfl,y,A,o⟩:=hrel
  ·have c:=aB (p _ _ _ o);have E:(t:Int)<=500:=o_
   clear o p;go_wp2_with fail;refine c.mono ?_;rintro e F (⟨i,rfl,f⟩|⟨i,rfl,f⟩)
   ·have x:=aB f;clear f c h;go_wp2
    go_roundg (gk-1)
    case measure=>omega
    case rel=>exact⟨t+1,s_,o_,o_,x⟩
   ·have d:=aB (h _ _ f);unfold SV.val SV.cells at d;clear f h c;go_wp2_with fail;refine d.mono ?_;rintro e C ⟨m,rfl,s,l,u,n⟩;have j:=aB n;clear n d;subst i;rw[s,l,u] at j;rw[s,l,u];go_wp2_with fail;go_quiet (fail)
    go_wp2
    go_ret3
    exact⟨m,rfl,j _⟩
def cu_(a b:cC)(e d h g c f:Int)(w:aG):(binOp .neq 71 (.agg #[.string (bs a),I_ e,I_ d,I_ h]) (.agg #[.string (bs b),I_ g,I_ c,I_ f])).run prog w=.ok (.bool (!((a==b) && ((e==g) && ((d==c) && (h==f)))))) w:=by
 cases l:a==b<;>cases i:e==g<;>cases k:d==c<;>cases j:h==f<;>try (go_simp;done)
 all_goals
  simp only[beq_iff_eq] at i k j;subst i k j;go_simp;rw[cI,cI];simpa using l
def aY_(a b:cC)(e d h g c f:Int)(w:aG):(binOp .eql 71 (.agg #[.string (bs a),I_ e,I_ d,I_ h]) (.agg #[.string (bs b),I_ g,I_ c,I_ f])).run prog w=.ok (.bool ((a==b) && ((e==g) && ((d==c) && (h==f))))) w:=by
 cases l:a==b<;>cases i:e==g<;>cases k:d==c<;>cases j:h==f<;>try (go_simp;done)
 all_goals
  simp only[beq_iff_eq] at i k j;subst i k j;go_simp;rw[cI,cI];simpa using l
attribute [local go_sem] Oper.semAt_some
structure ElS(W:aG)(g i:Nat)(s':SV):Prop where
 c0:W.cell? (aH g (i*5))=some (I_ s'.t)
 c1:W.cell? (aH g (i*5+1))=some (.slice s'.x1 s'.n1 s'.c1)
 c2:W.cell? (aH g (i*5+2))=some (.slice s'.x2 s'.n2 s'.c2)
 c3:W.cell? (aH g (i*5+3))=some (.slice s'.x3 s'.n3 s'.c3)
 c4:W.cell? (aH g (i*5+4))=some (I_ s'.q)
def C6(l bs g n a:Nat)(vs:Nat->SV)(W:aG)(J:Nat->World->Prop)(Zd Zs:World->Prop)(O:n<=1000000)
 (k:W.cell? (aH bs 0)=some (.slice (some (aH g 0)) n a)) (_hbs:bs<W.heap.size) (v:J n W)
 (F:Hid (∀i V,i<n->J (i+1) V->V.cell? (aH bs 0)=some (.slice (some (aH g 0)) n a)/\bs<V.heap.size/\g<V.heap.size/\ElS V g i (vs i)/\
   YieldAt Fence.wide 0 prog l #[I_ i,(vs i).val] V λe A=>(e=aX (.bool true)/\J i A)\/(e=aX (.bool false)/\Zs A)))
 (K:Hid (∀V,J 0 V->Zd V)):
 Calls prog 100 #[.func (.yield l) #[] #[],aZ bs] W λe t=>e=aX (.tuple #[])/\(Zd t\/Zs t):=by
 have s:=aB v;clear v;go_in
 go_wp2_with fail;go_loopg [3] n (λgk I wr=>gk<=n/\I=I_ ((gk:Int)-1)/\J gk wr)
 case atStart=>exact⟨en _,by go_num,s⟩
 case round=>
  obtain⟨G,rfl,f⟩:=hrel;cases gk with
  |zero=>
   have p:=aB (K _ f);clear f;go_wp2
   go_end0;exact⟨rfl,d7 p⟩
  |succ i=>
   obtain⟨z,w,q,⟨r,B,y,C,E⟩,N,x,d,u,o,D⟩:=F i wr o_ f
   have m:=aB D;unfold SV.val at o;have L:(0:Int)<=(i:Int):=o_
   have P:(i:Int)<(n:Int):=o_
   have H:(((i+1:Nat):Int))-1=(i:Int):=o_
   rw[H];clear D f k s;refine(wpIn_wide (n:=0)).1 ?_;gi_wp2
   refine⟨rfl,m.mono ?_⟩;rintro e M (⟨rfl,c⟩|⟨rfl,b⟩)
   ·have h:=aB c;clear c o m z w q r B y C E;gi_wp2
    go_roundg i
    case measure=>omega
    case rel=>exact⟨o_,by go_num,h⟩
   ·have j:=aB b;clear b o m z w q r B y C E;gi_wp2
    exact bodyPost_ret (results_none rfl _ _ _) rfl ⟨rfl,d6 j⟩
def oL:World->List Nat->World
 |w,[]=>w
 |w,b::l=>oL (w.putObj b (.deferred none)) l
abbrev mark(b:Nat):Deferred:={ target:=.collected b,args:= #[] }
def qQ{P:Program}{fn:Func}{tmps:Array Value}{R:Ending->World->Prop}(a:fn.results= #[]):∀(bs:List Nat) (w:aG),bs.Nodup->(∀b∈bs,w.heap[b]?=some (.deferred (some [])))->R (aX (.tuple #[])) (oL w bs)->LeavesInM Fence.wide 0 P fn tmps R (bs.map mark) .returning w
 |[],w,_,_,h=>⟨_,results_none a _ _ _,h⟩
 |b::bs,w,i,c,h=>by
  obtain⟨g,f⟩:=e7.1 i;refine⟨s_,.inl ⟨_,_,rfl,run_takeDeferred (c b (fw ..)),?_⟩⟩
  exact qQ a bs _ f (λx d=>by rw[World.putObj_heap_other (λe=>g (by rw[<-e];exact d))];exact c x (fe _ d)) h
def uE(a b:cC):bs a++bs b=bs (a++b):=by
 apply aV_
 rw[gR,ByteArray.data_append];simp[bs]
def UX(f:Nat):∀n t,(kB f n t).length<=t.length+f:=by
 induction f with
 |zero=>intro n t;simp[kB]
 |succ f a=>
  intro n t;rw[kB];split
  ·simp
  ·have:=a (n/10) (UInt8.ofNat (48+n%10)::t);rw[ep] at this;omega
def PL(n:Int):(jA n).length<=21:=by
 unfold jA;have:=UX 20 n.natAbs [];rw[el];split<;>simp at this ⊢<;>omega
def wF(l:List aM)(h:∀x∈l,(cJ x).length+2<=24*aO x):(fU (l.map cJ)).length<=24*(l.map aO).sum:=by
 induction l with
 |nil=>simp[fU]
 |cons y r a=>
  have d:=h y s_
  have b:=a λx c=>h x (by simp[c])
  cases r with
  |nil=>simp[fU];omega
  |cons z r=>
   simp only[fg,fU,el,fm,ep,ey] at b ⊢
   omega
def zY:∀v:aM,(cJ v).length+2<=24*aO v:=by
 refine aM.ind λv a=>?_
 have c:=wF v.l a;have b:=PL v.n;rw[kP,fJ];split
 ·omega
 split
 ·split<;>simp<;>omega
 split
 ·simp;omega
 ·simp;omega
def M3(s:cC):(⟨#[34]⟩:ByteArray)++bs s=bs (34::s):=uE [34] s
def M4(s:cC):bs s++(⟨#[34]⟩:ByteArray)=bs (s++[34]):=uE s [34]
def WA(n:Int):lO n=wrap64 n:=by unfold lO wrap64;rfl
def Hs.oneL_neg{op:cC}{a:aM}(h:op=[45,120])(b:a.sort=0):fW op a=(bH (wrap64 (-a.n)),0):=by
 rw[<-WA];unfold fW;rw[if_pos ⟨h,b⟩]
def I7(n:Int)(a: -9223372036854775808<=n)(b:n<=9223372036854775807):lO n=n:=by unfold lO;omega
def k9(x y:Int)(b: -9223372036854775808<=x)(a:x<=9223372036854775807): -9223372036854775808<=x.tmod y/\x.tmod y<=9223372036854775807:=by
 have h:(x.tmod y).natAbs=x.natAbs%y.natAbs:=Int.natAbs_tmod x y;have d:x.natAbs%y.natAbs<=x.natAbs:=Nat.mod_le _ _;by_cases c:0<=x
 ·have:=Int.tmod_nonneg y c;omega
 ·have:x.tmod y<=0:=by
   have:=Int.tmod_nonneg y (show 0<= -x by omega)
   rw[Int.neg_tmod] at this;omega
  omega
def Grow(F:bY)(w w':aG)(b:Nat):Prop:=F b\/(w.heap.size<=b/\b<w'.heap.size)
def wG:∀l m:cC,Op.bytesLess l m=iA l m
 |[],[]=>rfl
 |[],_::_=>rfl
 |_::_,[]=>rfl
 |a::l,b::m=>by
  rw[Op.bytesLess,iA,wG l m];by_cases c:a.toNat<b.toNat
  ·rw[if_pos c,decide_eq_true (UInt8.lt_iff_toNat_lt.2 c),Bool.true_or]
  ·rw[if_neg c,decide_eq_false (λh=>c (UInt8.lt_iff_toNat_lt.1 h)),Bool.false_or]
   by_cases d:b.toNat<a.toNat
   ·rw[if_pos d,beq_eq_false_iff_ne.2 (λe=>by rw[e] at d;omega),Bool.false_and]
   ·rw[if_neg d,show a=b from jm.1 o_,beq_self_eq_true,Bool.true_and]
def MO:∀l m:cC,(iA l m || l==m)= !iA m l
 |[],[]=>rfl
 |[],_::_=>rfl
 |_::_,[]=>rfl
 |a::l,b::m=>by
  rw[iA,iA];by_cases d:a.toNat<b.toNat
  ·rw[if_pos d,if_neg o_,if_pos d];rfl
  ·by_cases c:b.toNat<a.toNat
   ·rw[if_neg d,if_pos c,if_pos c];have:(a::l==b::m)=false:=beq_eq_false_iff_ne.2 (λe=>by rw[List.cons.injEq] at e;rw[e.1] at c;omega)
    rw[this];rfl
   ·rw[if_neg d,if_neg c,if_neg c,if_neg d,<-MO l m,show a=b from jm.1 o_]
    simp
end Go.Proofs.YtlflgmdcghfngaaGreatDoor
