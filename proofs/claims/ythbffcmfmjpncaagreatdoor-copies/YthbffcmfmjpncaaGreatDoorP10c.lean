/- What a program prints: the walk. -/
import Derived.Test.YthbffcmfmjpncaaGreatDoorB07c
import Derived.Test.YthbffcmfmjpncaaGreatDoorP09c
import Derived.Test.YthbffcmfmjpncaaGreatDoorP03c
set_option linter.defProp false
set_option maxRecDepth 100000
set_option maxHeartbeats 4000000
namespace Go.Proofs.YthbffcmfmjpncaaGreatDoor
open Hs
open _root_.Go.Proofs.Tryz
open Go.RowKit
variable{xs:List Value}{l m:List aJ}{b_ k n:Nat}{F G:Nat->Prop}{u v:Value}{w w':World}{a b:aJ}{r:aJ × Nat}
def LK(w:World)(g:ByteArray)(T:Nat)(E:T<=500)(P:SV->World->Prop)(L:Nat->Nat->World->Prop)(M:Nat->World->Prop)
 (s:Hid (Calls prog 17 #[.string g,.slice none 0 0] w λe b=>∃a,e=.returned (.tuple #[.pointer (some ⟨a,0,none⟩),.int .i64 0,.int .i64 0])/\L 0 a b))
 (r:Hid (∀t a W,L t a W->Calls prog 12 #[.pointer (some ⟨a,0,none⟩)] W λe b=>(t<T/\e=.returned (.bool true)/\L (t+1) a b)\/(t=T/\e=.returned (.bool false)/\M a b)))
 (i:Hid (∀a W,M a W->Calls prog 10 #[.pointer (some ⟨a,0,none⟩)] W λe b=>∃m:SV,e=.returned m.val/\m.t=T/\m.q=1/\m.n1=0/\∀q,P m ((b.alloc (.cells m.cells 40)).drewN q))):
 Calls prog 21 #[.string g] w λe b=>∃m:SV,e=.returned (.tuple #[.slice m.x3 m.n3 m.c3,.int .i64 T,.bool true])/\P m b:=by
 go_enter func21,ntmps21;go_wp2_with fail;refine s.out.mono ?_;rintro e C ⟨a,rfl,l⟩;have A:=aB l;clear l s;go_wp2_with fail;go_loopg [8] (T+1) (λgk x wr=>∃t:Nat,x=.int .i64 t/\gk+t=T+1/\t<=T/\L t a wr)
 case atStart=>exact⟨0,rfl,o_,o_,A.out⟩
 case round=>
  obtain⟨t,rfl,z,B,p⟩:=hrel
  ·have c:=aB (r.out _ _ _ p);have F:(t:Int)<=500:=o_
   clear p r;go_wp2_with fail;refine c.out.mono ?_;rintro e G (⟨j,rfl,f⟩|⟨j,rfl,f⟩)
   ·have y:=aB f;clear f c i;go_wp2_with fail;go_roundg (gk-1)
    case measure=>omega
    case rel=>exact⟨t+1,s_,o_,o_,y.out⟩
   ·have d:=aB (i.out _ _ f);unfold SV.val SV.cells at d;clear f i c;go_wp2_with fail;refine d.out.mono ?_;rintro e D ⟨m,rfl,u,n,v,o⟩;have k:=aB o;clear o d;subst j;rw[u,n,v] at k;rw[u,n,v];go_wp2_with fail;go_quiet (fail)
    go_wp2_with fail;go_ret3
    exact⟨m,rfl,k.out _⟩
def iK(a b:List UInt8):bs a++bs b=bs (a++b):=by
 apply Q9
 rw[jR,ByteArray.data_append];simp[bs]
def digitsF_len(f:Nat):∀n t,(Hs.digitsF f n t).length<=t.length+f:=by
 induction f with
 |zero=>intro n t;simp[Hs.digitsF]
 |succ f a=>
  intro n t;rw[Hs.digitsF];split
  ·simp
  ·have:=a (n/10) (UInt8.ofNat (48+n%10)::t);rw[ek] at this;omega
def MT(n:Int):(cK n).length<=21:=by
 unfold cK;have:=digitsF_len 20 n.natAbs [];rw[ei];split<;>simp at this ⊢<;>omega
def uE(l:List aJ)(h:∀x∈l,(cF x).length+2<=24*aK x):(eU (l.map cF)).length<=24*(l.map aK).sum:=by
 induction l with
 |nil=>simp[eU]
 |cons y r a=>
  have d:=h y s_
  have b:=a λx c=>h x (by simp[c])
  cases r with
  |nil=>simp[eU];omega
  |cons z r=>
   simp only[ew,eU,ei,ey,ek,ep] at b ⊢
   omega
def xR:∀v:aJ,(cF v).length+2<=24*aK v:=by
 refine aJ.ind λv a=>?_
 have c:=uE v.l a;have b:=MT v.n;rw[iU,eV];split
 ·omega
 split
 ·split<;>simp<;>omega
 split
 ·simp;omega
 ·simp;omega
def YX(s:List UInt8):(⟨#[34]⟩:ByteArray)++bs s=bs (34::s):=iK [34] s
def YY(s:List UInt8):bs s++(⟨#[34]⟩:ByteArray)=bs (s++[34]):=iK s [34]
def ST(n:Int):jB n=wrap64 n:=by unfold jB wrap64;rfl
def Hs.oneL_neg{op:List UInt8}(h:op=[45,120])(b:a.sort=0):fH op a=(aW (wrap64 (-a.n)),0):=by
 rw[<-ST];unfold fH;rw[if_pos ⟨h,b⟩]
def XY(n:Int)(a: -9223372036854775808<=n)(b:n<=9223372036854775807):jB n=n:=by unfold jB;omega
def J3(x y:Int)(b: -9223372036854775808<=x)(a:x<=9223372036854775807): -9223372036854775808<=x.tmod y/\x.tmod y<=9223372036854775807:=by
 have h:(x.tmod y).natAbs=x.natAbs%y.natAbs:=Int.natAbs_tmod x y;have d:x.natAbs%y.natAbs<=x.natAbs:=Nat.mod_le _ _;by_cases c:0<=x
 ·have:=Int.tmod_nonneg y c;omega
 ·have:x.tmod y<=0:=by
   have:=Int.tmod_nonneg y (show 0<= -x by omega)
   rw[Int.neg_tmod] at this;omega
  omega
def Grow(F:Nat->Prop)(w w':World)(b:Nat):Prop:=F b\/(w.heap.size<=b/\b<w'.heap.size)
def Grow.old{b:Nat}(h:F b):Grow F w w' b:=d6 h
def Grow.lt(c:∀b,F b->b<w.heap.size)(a:w.heap.size<=w'.heap.size):∀b,Grow F w w' b->b<w'.heap.size:=λb h=>by
 rcases h with h|h
 ·exact el (c b h) a
 ·exact h.2
def uF:∀l m:List UInt8,Op.bytesLess l m=gG l m
 |[],[]=>rfl
 |[],_::_=>rfl
 |_::_,[]=>rfl
 |a::l,b::m=>by
  rw[Op.bytesLess,gG,uF l m];by_cases c:a.toNat<b.toNat
  ·rw[if_pos c,decide_eq_true (UInt8.lt_iff_toNat_lt.2 c),Bool.true_or]
  ·rw[if_neg c,decide_eq_false (λh=>c (UInt8.lt_iff_toNat_lt.1 h)),Bool.false_or]
   by_cases d:b.toNat<a.toNat
   ·rw[if_pos d,beq_eq_false_iff_ne.2 (λe=>by rw[e] at d;omega),Bool.false_and]
   ·rw[if_neg d,show a=b from jc.1 o_,beq_self_eq_true,Bool.true_and]
def JQ:∀l m:List UInt8,(gG l m || l==m)= !gG m l
 |[],[]=>rfl
 |[],_::_=>rfl
 |_::_,[]=>rfl
 |a::l,b::m=>by
  rw[gG,gG];by_cases d:a.toNat<b.toNat
  ·rw[if_pos d,if_neg o_,if_pos d];rfl
  ·by_cases c:b.toNat<a.toNat
   ·rw[if_neg d,if_pos c,if_pos c];have:(a::l==b::m)=false:=beq_eq_false_iff_ne.2 (λe=>by rw[List.cons.injEq] at e;rw[e.1] at c;omega)
    rw[this];rfl
   ·rw[if_neg d,if_neg c,if_neg c,if_neg d,<-JQ l m,show a=b from jc.1 o_]
    simp
abbrev fL(k:Nat):Ending:=.panicked [{ v:=.iface 245 (.int .i64 k),recovered:=false }]
def VLr(R:Value->aJ->Prop)(F:Nat->Prop)(w:World)(sv:Value)(l:List aJ):Prop:=
 (l=[]/\sv=.slice none 0 0)\/
 ∃g cap cur,sv=.slice (some ⟨g,0,none⟩) l.length cap/\F g/\w.heap[g]?=some (.cells cur 180 (0,0))/\l.length<=cap/\∀i (h:i<l.length),∃u,cur[i]?=some u/\R u l[i]
def VR:Nat->(Nat->Prop)->World->Value->aJ->Prop
 |0,_,_,_,_=>False
 |d+1,F,w,v,a=>
  (∃n,v=.iface 229 (.int .i64 n)/\a=aW n/\ -9223372036854775808<=n/\n<=9223372036854775807)\/
  (∃b,v=.iface 230 (.bool b)/\a=bM b)\/
  (∃s,v=.iface 232 (.string (bs s))/\a=bI s)\/
  (∃sv l,v=.iface 233 sv/\a=aT l/\VLr (VR d F w) F w sv l)
def VLr.mono{R S:Value->aJ->Prop}{e:Value}(h:VLr R F w e l)(s:∀v a,R v a->S v a)(o:∀b,F b->G b):VLr S G w e l:=by
 rcases h with h|⟨g,c,d,m,j,p,k,n⟩
 ·exact d6 h
 ·refine d5 ⟨g,c,d,m,o _ j,p,k,λi q=>?_⟩
  obtain⟨u,f,r⟩:=n i q;exact⟨u,f,s _ _ r⟩
def VLr.keep{R:Value->aJ->Prop}{e:Value}(h:VLr R F w e l)(f:∀b,F b->w'.heap[b]?=w.heap[b]?):VLr R F w' e l:=by
 rcases h with h|⟨g,c,a,j,d,m,i,k⟩
 ·exact d6 h
 ·exact d5 ⟨g,c,a,j,d,by rw[f g d];exact m,i,k⟩
def VR.mono(c:∀b,F b->G b):∀{d e:Nat} {v:Value} {a:aJ},VR d F w v a->d<=e->VR e G w v a
 |0,_,_,_,h,_=>h.elim
 |d+1,0,_,_,_,h=>by omega
 |d+1,e+1,v,a,h,f=>by
  rcases h with h|h|h|⟨i,l,j,g,k⟩
  ·exact d6 h
  ·exact d5 (d6 h)
  ·exact d5 (d5 (d6 h))
  ·exact d5 (d5 (d5 ⟨i,l,j,g,k.mono (λ_ _ h=>VR.mono c h o_) c⟩))
def VR.keep(c:∀b,F b->w'.heap[b]?=w.heap[b]?):∀{d:Nat} {v:Value} {a:aJ},VR d F w v a->VR d F w' v a
 |0,_,_,h=>h.elim
 |d+1,v,a,h=>by
  rcases h with h|h|h|⟨f,l,g,e,i⟩
  ·exact d6 h
  ·exact d5 (d6 h)
  ·exact d5 (d5 (d6 h))
  ·exact d5 (d5 (d5 ⟨f,l,g,e,(i.mono (λ_ _ h=>VR.keep c h) (λ_ h=>h)).keep c⟩))
def PV(F:Nat->Prop)(w:World)(v:Value)(a:aJ):Prop:=∃d,VR d F w v a
def PV.mono(h:PV F w v a)(c:∀b,F b->G b):PV G w v a:=by
 obtain⟨d,h⟩:=h;exact⟨d,h.mono c (d7 _)⟩
def PV.keep(h:PV F w v a)(c:∀b,F b->w'.heap[b]?=w.heap[b]?):PV F w' v a:=by
 obtain⟨d,h⟩:=h;exact⟨d,h.keep c⟩
def PV.num(F:Nat->Prop)(w:World)(n:Int)(b: -9223372036854775808<=n)(a:n<=9223372036854775807):PV F w (.iface 229 (.int .i64 n)) (aW n):=⟨1,d6 ⟨n,rfl,rfl,b,a⟩⟩
def PV.tru(F:Nat->Prop)(w:World)(b:Bool):PV F w (.iface 230 (.bool b)) (bM b):=⟨1,d5 (d6 ⟨b,rfl,rfl⟩)⟩
def PV.str(F:Nat->Prop)(w:World)(s:List UInt8):PV F w (.iface 232 (.string (bs s))) (bI s):=⟨1,d5 (d5 (d6 ⟨s,rfl,rfl⟩))⟩
def PVs(F:Nat->Prop)(w:World)(sv:Value)(l:List aJ):Prop:=VLr (PV F w) F w sv l
def RP{F:Nat->Prop}{w:World}{cur:Array Value}:∀(l:List aJ) (o:Nat),(∀i (h:i<l.length),∃u,cur[o+i]?=some u/\PV F w u l[i])->∃d,∀i (h:i<l.length),∃u,cur[o+i]?=some u/\VR d F w u l[i]
 |[],_,_=>⟨0,λi h=>by simp at h⟩
 |a::l,o,h=>by
  obtain⟨u,m,d,f⟩:=h 0 s_
  obtain⟨e,g⟩:=RP (F:=F) (w:=w) (cur:=cur) l (o+1) λi b=>by
   have:=h (i+1) (by simpa using b)
   rw[show o+1+i=o+(i+1) by omega]
   simpa using this
  refine⟨max d e,λi b=>?_⟩
  cases i with
  |zero=>exact⟨u,m,f.mono (λ_ h=>h) (Nat.le_max_left _ _)⟩
  |succ i=>
   obtain⟨j,c,k⟩:=g i (by simpa using b)
   rw[show o+1+i=o+(i+1) by omega] at c
   exact⟨j,c,k.mono (λ_ h=>h) (Nat.le_max_right _ _)⟩
def PV.lst{b:Value}(h:PVs F w b l):PV F w (.iface 233 b) (aT l):=by
 rcases h with h|⟨g,c,a,j,f,m,i,k⟩
 ·exact⟨1,d5 (d5 (d5 ⟨b,l,rfl,rfl,d6 h⟩))⟩
 ·obtain⟨d,e⟩:=RP (cur:=a) l 0 (by simpa using k)
  exact⟨d+1,d5 (d5 (d5 ⟨b,l,rfl,rfl,d5 ⟨g,c,a,j,f,m,i,by simpa using e⟩⟩))⟩
def PV.cases(h:PV F w v a):
 (∃n,v=.iface 229 (.int .i64 n)/\a=aW n/\ -9223372036854775808<=n/\n<=9223372036854775807)\/
 (∃b,v=.iface 230 (.bool b)/\a=bM b)\/
 (∃s,v=.iface 232 (.string (bs s))/\a=bI s)\/
 (∃x c l,v=.iface 233 (.slice x l.length c)/\a=aT l/\PVs F w (.slice x l.length c) l):=by
 obtain⟨d,h⟩:=h;cases d with
 |zero=>exact h.elim
 |succ d=>
  rcases h with h|h|h|⟨o,l,i,e,j⟩
  ·exact d6 h
  ·exact d5 (d6 h)
  ·exact d5 (d5 (d6 h))
  ·refine d5 (d5 (d5 ?_));have f:PVs F w o l:=j.mono (λ_ _ h=>⟨d,h⟩) (λ_ h=>h)
   rcases j with ⟨rfl,rfl⟩|⟨g,k,m,rfl,_⟩
   ·exact⟨none,0,[],i,e,f⟩
   ·exact⟨_,_,l,i,e,f⟩
def oW(F:Nat->Prop)(v:Value)(a:aJ)(w:World)(h:PV F w v a):
 Calls prog 295 #[v] w λe d=>d=w/\((a.sort=1/\e=.returned (.bool (decide (a.n=1))))\/(a.sort≠1/\e=fL 2)):=by
 rcases h.cases with ⟨n,rfl,rfl,_,_⟩|⟨b,rfl,rfl⟩|⟨s,rfl,rfl⟩|⟨x,c,l,rfl,rfl,_⟩
 ·clear h;have q:=NV;go_enter func295,ntmps295;go_wp2_with fail;exact⟨rfl,rfl,d5 ⟨by simp[aW],rfl⟩⟩
 ·clear h;have q:=uH;go_enter func295,ntmps295;go_wp2_with fail;go_ret;exact⟨rfl,d6 ⟨rfl,by cases b<;>rfl⟩⟩
 ·clear h;have q:=xS;go_enter func295,ntmps295;go_wp2_with fail;exact⟨rfl,rfl,d5 ⟨by simp[bI],rfl⟩⟩
 ·clear h;have q:=uG;go_enter func295,ntmps295;go_wp2_with fail;exact⟨rfl,rfl,d5 ⟨by simp[aT],rfl⟩⟩
def lH(F:Nat->Prop)(w:World)(r:aJ × Nat)(e:Ending)(w':World):Prop:=w'=w/\((r.2=0/\∃u,e=.returned u/\PV F w u r.1)\/(r.2≠0/\e=fL r.2))
def lH.ok(b:r=(a,0))(h:PV F w u a):lH F w r (.returned u) w:=by subst b;exact⟨rfl,d6 ⟨rfl,u,rfl,h⟩⟩
def lH.stop(c:r=(a,k))(b:k≠0):lH F w r (fL k) w:=by subst c;exact⟨rfl,d5 ⟨b,rfl⟩⟩
def WW(n:Int): -9223372036854775808<=jB n/\jB n<=9223372036854775807:=by unfold jB;omega
def PV.wrap(F:Nat->Prop)(w:World)(n:Int):PV F w (.iface 229 (.int .i64 (wrap64 n))) (aW (jB n)):=by
 rw[<-ST];exact PV.num F w _ (WW n).1 (WW n).2
def ZH(op:List UInt8)(F:Nat->Prop)(x y:Int)(w:World)(t: -9223372036854775808<=x)(s:x<=9223372036854775807)(z: -9223372036854775808<=y)(A:y<=9223372036854775807):
 Calls prog 308 #[.string (bs op),.int .i64 x,.int .i64 y] w (lH F w (jH op x y)):=by
 have a:=cE op;obtain⟨r,b⟩:=E_ (jH op x y);rw[<-b];unfold jH at b;by_cases n:op=[43]
 ·rw[if_pos n] at b;have f:((bs op).toList==[60])=false:=by rw[a,n];rfl
  have g:((bs op).toList==[60,61])=false:=by rw[a,n];rfl
  have e:((bs op).toList==[43])=true:=by rw[a,n];rfl
  have d:((bs op).toList==[45])=false:=by rw[a,n];rfl
  have c:((bs op).toList==[42])=false:=by rw[a,n];rfl
  have i:=aB b;clear a b n;go_enter func308,ntmps308;go_wp2_with fail;go_ret;exact lH.ok i.out (PV.wrap F w (x+y))
 rw[if_neg n] at b;have e:((bs op).toList==[43])=false:=by rw[a];simpa using n
 clear n;by_cases k:op=[45]
 ·rw[if_pos k] at b;have f:((bs op).toList==[60])=false:=by rw[a,k];rfl
  have g:((bs op).toList==[60,61])=false:=by rw[a,k];rfl
  have e:((bs op).toList==[43])=false:=by rw[a,k];rfl
  have d:((bs op).toList==[45])=true:=by rw[a,k];rfl
  have c:((bs op).toList==[42])=false:=by rw[a,k];rfl
  have i:=aB b;clear a b k;go_enter func308,ntmps308;go_wp2_with fail;go_ret;exact lH.ok i.out (PV.wrap F w (x-y))
 rw[if_neg k] at b;have d:((bs op).toList==[45])=false:=by rw[a];simpa using k
 clear k;by_cases j:op=[42]
 ·rw[if_pos j] at b;have f:((bs op).toList==[60])=false:=by rw[a,j];rfl
  have g:((bs op).toList==[60,61])=false:=by rw[a,j];rfl
  have e:((bs op).toList==[43])=false:=by rw[a,j];rfl
  have d:((bs op).toList==[45])=false:=by rw[a,j];rfl
  have c:((bs op).toList==[42])=true:=by rw[a,j];rfl
  have i:=aB b;clear a b j;go_enter func308,ntmps308;go_wp2_with fail;go_ret;exact lH.ok i.out (PV.wrap F w (x*y))
 rw[if_neg j] at b;have c:((bs op).toList==[42])=false:=by rw[a];simpa using j
 clear j;by_cases l:op=[60]
 ·rw[if_pos l] at b;have f:((bs op).toList==[60])=true:=by rw[a,l];rfl
  have g:((bs op).toList==[60,61])=false:=by rw[a,l];rfl
  have e:((bs op).toList==[43])=false:=by rw[a,l];rfl
  have d:((bs op).toList==[45])=false:=by rw[a,l];rfl
  have c:((bs op).toList==[42])=false:=by rw[a,l];rfl
  have i:=aB b;clear a b l;go_enter func308,ntmps308;go_wp2_with fail;go_ret;exact lH.ok i.out (PV.tru F w (decide (x<y)))
 rw[if_neg l] at b;have f:((bs op).toList==[60])=false:=by rw[a];simpa using l
 clear l;by_cases m:op=[60,61]
 ·rw[if_pos m] at b;have f:((bs op).toList==[60])=false:=by rw[a,m];rfl
  have g:((bs op).toList==[60,61])=true:=by rw[a,m];rfl
  have e:((bs op).toList==[43])=false:=by rw[a,m];rfl
  have d:((bs op).toList==[45])=false:=by rw[a,m];rfl
  have c:((bs op).toList==[42])=false:=by rw[a,m];rfl
  have i:=aB b;clear a b m;go_enter func308,ntmps308;go_wp2_with fail;go_ret;exact lH.ok i.out (PV.tru F w (decide (x<=y)))
 rw[if_neg m] at b;have g:((bs op).toList==[60,61])=false:=by rw[a];simpa using m
 clear m;by_cases p:y=0
 ·rw[if_pos p] at b;subst p;have i:=aB b;clear a b;go_enter func308,ntmps308;go_wp2_with fail;exact⟨rfl,lH.stop i.out d_⟩
 rw[if_neg p] at b;have B:(y==0)=false:=by simpa using p
 by_cases o:op=[47]
 ·rw[if_pos o] at b;have v:((bs op).toList==[47])=true:=by rw[a,o];rfl
  have i:=aB b;clear a b o;go_enter func308,ntmps308;go_wp2_with fail;go_ret;exact lH.ok i.out (PV.wrap F w (x.tdiv y))
 ·rw[if_neg o] at b;have v:((bs op).toList==[47])=false:=by rw[a];simpa using o
  have q:=J3 x y t s;rw[XY _ q.1 q.2] at b;have i:=aB b;have u:=aB q;clear a b o q;go_enter func308,ntmps308;go_wp2_with fail;go_ret;exact lH.ok i.out (PV.num F w (x.tmod y) u.out.1 u.out.2)
def CY(o:UInt8)(z:o=45\/o=33)(F:Nat->Prop)(v:Value)(a:aJ)(w:World)(h:PV F w v a):
 Calls prog 294 #[.string (bs [o]),v] w (lH F w (fH [o,120] a)):=by
 rcases z with rfl|rfl
 ·have A:((bs [45]).toList==[33])=false:=by rw[cE];rfl
  rcases h.cases with ⟨n,rfl,rfl,D,C⟩|⟨b,rfl,rfl⟩|⟨s,rfl,rfl⟩|⟨x,c,l,rfl,rfl,_⟩
  ·have p:=aB (Hs.oneL_neg (op:=[45,120]) (a:=aW n) rfl rfl);have q:=lK;clear h;generalize fH [45,120] (aW n)=r at*;go_enter func294,ntmps294;go_wp2_with fail;go_ret;exact lH.ok p.out (by have i:=PV.wrap F w (-n);rw[ST] at i;exact i)
  ·have q:=kN;clear h;go_enter func294,ntmps294;go_wp2_with fail;exact⟨rfl,lH.stop (a:=bL) (by unfold fH;simp[bM]) d_⟩
  ·have q:=lJ;clear h;go_enter func294,ntmps294;go_wp2_with fail;exact⟨rfl,lH.stop (a:=bL) (by unfold fH;simp[bI]) d_⟩
  ·have q:=kL;clear h;go_enter func294,ntmps294;go_wp2_with fail;exact⟨rfl,lH.stop (a:=bL) (by unfold fH;simp[aT]) d_⟩
 ·have A:((bs [33]).toList==[33])=true:=by rw[cE];rfl
  have B:=aB (oW F v a w h);obtain⟨r,j⟩:=E_ (fH [33,120] a);rw[<-j];have k:=aB j
  have d:∃t u,v=.iface t u:=by
   rcases h.cases with ⟨n,rfl,_⟩|⟨b,rfl,_⟩|⟨s,rfl,_⟩|⟨x,c,l,rfl,_⟩<;>exact⟨_,_,rfl⟩
  obtain⟨t,u,rfl⟩:=d;have y:=aB h.cases;clear h j;go_enter func294,ntmps294;go_wp2_with fail;refine B.out.mono ?_;rintro e m ⟨rfl,⟨g,rfl⟩|⟨g,rfl⟩⟩
  ·have f:=aB g;clear g;go_wp2_with fail;go_ret;refine lH.ok (a:=bM (!decide (a.n=1))) ?_ (PV.tru F m (!decide (a.n=1)));rw[k.out];unfold fH;rw[if_neg s_,if_pos ⟨rfl,f.out⟩]
   rcases y.out with ⟨n,_,rfl,_⟩|⟨b,_,rfl⟩|⟨s,_,rfl⟩|⟨x,c,l,_,rfl,_⟩
   ·have:=f.out;simp[aW] at this
   ·cases b<;>rfl
   ·have:=f.out;simp[bI] at this
   ·have:=f.out;simp[aT] at this
  ·have f:=aB g;clear g;go_wp2_with fail;exact⟨rfl,lH.stop (a:=bL) (by rw[k.out];unfold fH;rw[if_neg s_,if_neg (λi=>f.out i.2)]) d_⟩
def PVs.get{x:Option Addr}{c:Nat}(h:PVs F w (.slice x n c) l)(i:Nat)(b:i<l.length):∃g u,x=some ⟨g,0,none⟩/\n=l.length/\F g/\g<w.heap.size/\l.length<=c/\w.cell? ⟨g,i,none⟩=some u/\PV F w u l[i]:=by
 rcases h with ⟨rfl,_⟩|⟨g,k,o,j,e,a,f,m⟩
 ·simp at b
 ·cases j;obtain⟨u,d,p⟩:=m i b;exact⟨g,u,rfl,rfl,e,aD a,f,aA a d,p⟩
def PV.form(h:PV F w v a):∃t u,v=.iface t u:=by
 rcases h.cases with ⟨n,rfl,_⟩|⟨b,rfl,_⟩|⟨s,rfl,_⟩|⟨x,c,l,rfl,_⟩<;>exact⟨_,_,rfl⟩
def PVs.keep{c:Value}(h:PVs F w c l)(a:∀b,F b->w'.heap[b]?=w.heap[b]?):PVs F w' c l:=(VLr.mono h (λ_ _ h=>h.keep a) (λ_ h=>h)).keep a
def PVs.mono{a:Value}(h:PVs F w a l)(c:∀b,F b->G b):PVs G w a l:=VLr.mono h (λ_ _ h=>h.mono c) c
def F8(n:Int):aK (aW n)=1:=by rw[eV];simp[aW]
def F6(b:Bool):aK (bM b)=1:=by rw[eV];simp[bM]
def kT(s:List UInt8):aK (bI s)=1+s.length:=by rw[eV];simp[bI]
def iX(l:List aJ):aK (aT l)=1+(l.map aK).sum:=by rw[eV];simp[aT]
def lS(h:a∈l):aK a<=(l.map aK).sum:=by
 induction l with
 |nil=>cases h
 |cons x l b=>
  simp only[ew,ey];rcases en.1 h with rfl|h
  ·omega
  ·have:=b h;omega
def sC(a:aJ):1<=aK a:=by rw[eV];omega
def jO(l:List aJ):l.length<=(l.map aK).sum:=by
 induction l with
 |nil=>simp
 |cons x l a=>simp only[ew,ey,ek];have:=sC x;omega
def NO(F:Nat->Prop)(k:Nat):Prop:=∀(v:Value) (a:aJ) (w:World),PV F w v a->aK a<=k->k<=1000000000->Calls prog 289 #[v] w λe w'=>w'=w/\e=.returned (.int .i64 (aK a:Nat))
def PI(F:Nat->Prop)(k:Nat)(f:NO F k):NO F (k+1):=by
 intro v a w h p O;rcases h.cases with ⟨n,rfl,rfl,P,M⟩|⟨b,rfl,rfl⟩|⟨s,rfl,rfl⟩|⟨x,c,l,rfl,rfl,E⟩
 ·have q:=mR;have G:=jC;rw[F8];clear h f p;go_enter func289,ntmps289;go_wp2_with fail;go_ret;exact⟨rfl,rfl⟩
 ·have q:=kM;have G:=gQ;rw[F6];clear h f p;go_enter func289,ntmps289;go_wp2_with fail;go_ret;exact⟨rfl,rfl⟩
 ·have q:=kG;have U:(bs s).size=s.length:=gJ s;rw[kT] at p ⊢
  clear h f;go_enter func289,ntmps289;go_wp2_with fail;go_ret;exact⟨rfl,by go_num⟩
 ·have q:=lX;have G:=gP;have D:=jO l;rw[iX] at p ⊢
  have A:=aB f;have J:=aB E;clear h f E;go_enter func289,ntmps289;go_wp2_with fail;go_loopg [5,7,20] l.length (λgk s _ i wr=>∃j:Nat,j+gk=l.length/\i=.int .i64 j/\s=.int .i64 ((1+((l.map aK).take j).sum:Nat):Int)/\wr=w)
  case atStart=>exact⟨0,o_,rfl,rfl,rfl⟩
  case round=>
   obtain⟨j,W,rfl,rfl,rfl⟩:=hrel;by_cases d:j<l.length
   ·obtain⟨m,rfl⟩:∃m,gk=m+1:=⟨gk-1,o_⟩
    obtain⟨g,u,rfl,V,T,N,C,z,B⟩:=J.out.get j d;have o:l[j]∈l:=fi d;have H:=lS o;have K:=aB (A.out u l[j] wr B o_ o_)
    obtain⟨t,S,rfl⟩:=B.form
    have r:((l.map aK).take (j+1)).sum=((l.map aK).take j).sum+aK l[j]:=by
     rw[gl (by simpa using d),ic];simp only[List.getElem_map,ey,fy,iz]
    have I:((l.map aK).take (j+1)).sum<=(l.map aK).sum:=by
     have e:(l.map aK).sum=((l.map aK).take (j+1)++(l.map aK).drop (j+1)).sum:=by rw[gt]
     rw[e,ic];omega
    generalize aK l[j]=Q at*;clear B;go_wp2_with fail;refine K.out.mono ?_;rintro e L ⟨rfl,rfl⟩;go_wp2_with fail;go_roundg m
    case measure=>omega
    case rel=>exact⟨j+1,o_,by go_num,by rw[r];go_num,rfl⟩
   ·have y:j=l.length:=o_
    subst y;go_wp2_with fail;go_ret;exact⟨rfl,by rw[gp s_];rfl⟩
def DD(F:Nat->Prop):∀k,NO F k
 |0=>λv a w _ h=>by have:=sC a;omega
 |k+1=>PI F k (DD F k)
def mH(F:Nat->Prop)(v:Value)(a:aJ)(w:World)(h:PV F w v a)(g:aK a<=1000000000):
 Calls prog 288 #[v] w λe d=>d=w/\((aK a<=200/\e=.returned v)\/(200<aK a/\e=fL 6)):=by
 have b:=aB (DD F 1000000000 v a w h g (d7 _));obtain⟨t,u,rfl⟩:=h.form;clear h;generalize aK a=n at*;by_cases f:n<=200
 ·have e:decide ((200:Int)<(n:Int))=false:=decide_eq_false o_
  go_enter func288,ntmps288;go_wp2_with fail;refine b.out.mono ?_;rintro e c ⟨rfl,rfl⟩;go_wp2_with fail;go_ret;exact⟨rfl,d6 ⟨f,rfl⟩⟩
 ·have e:decide ((200:Int)<(n:Int))=true:=decide_eq_true o_
  go_enter func288,ntmps288;go_wp2_with fail;refine b.out.mono ?_;rintro e c ⟨rfl,rfl⟩;go_wp2_with fail;exact⟨rfl,rfl,d5 ⟨o_,rfl⟩⟩
def tT(F:Nat->Prop)(v:Value)(a:aJ)(n:Nat)(w:World)(h:PV F w v a)(_hn:n<=1000000000):
 Calls prog 292 #[v,.int .i64 n] w λe g=>g=w/\((a.sort≠0/\e=fL 2)\/(a.sort=0/\(a.n<0\/(n:Int)<=a.n)/\e=fL 4)\/(a.sort=0/\∃k:Nat,k<n/\a.n=k/\e=.returned (.int .i64 k))):=by
 rcases h.cases with ⟨m,rfl,rfl,p,o⟩|⟨b,rfl,rfl⟩|⟨s,rfl,rfl⟩|⟨x,c,l,rfl,rfl,_⟩
 ·have q:=lK;clear h;by_cases f:m<0
  ·have j:decide (m<0)=true:=decide_eq_true f;go_enter func292,ntmps292;go_wp2_with fail;exact⟨rfl,rfl,d5 (d6 ⟨rfl,d6 f,rfl⟩)⟩
  have j:decide (m<0)=false:=decide_eq_false f;by_cases d:(n:Int)<=m
  ·have i:decide ((n:Int)<=m)=true:=decide_eq_true d;go_enter func292,ntmps292;go_wp2_with fail;exact⟨rfl,rfl,d5 (d6 ⟨rfl,d5 d,rfl⟩)⟩
  ·have i:decide ((n:Int)<=m)=false:=decide_eq_false d;go_enter func292,ntmps292;go_wp2_with fail;go_ret;exact⟨rfl,d5 (d5 ⟨rfl,m.toNat,o_,by show m=_;omega,by rw[Int.toNat_of_nonneg o_];rfl⟩)⟩
 ·have q:=kN;clear h;go_enter func292,ntmps292;go_wp2_with fail;exact⟨rfl,rfl,d6 ⟨by simp[bM],rfl⟩⟩
 ·have q:=lJ;clear h;go_enter func292,ntmps292;go_wp2_with fail;exact⟨rfl,rfl,d6 ⟨by simp[bI],rfl⟩⟩
 ·have q:=kL;clear h;go_enter func292,ntmps292;go_wp2_with fail;exact⟨rfl,rfl,d6 ⟨by simp[aT],rfl⟩⟩
def LN(F:Nat->Prop)(x:Option Addr)(c:Nat)(l:List aJ)(w:World)(h:PVs F w (.slice x l.length c) l)(d:aK (aT l)<=1000000000):
 Calls prog 286 #[.slice x l.length c] w λe b=>b=w/\((aK (aT l)<=200/\e=.returned (.iface 233 (.slice x l.length c)))\/(200<aK (aT l)/\e=fL 6)):=by
 have f:=aB (mH F _ _ w (PV.lst h) d);clear h;generalize aK (aT l)=n at*;go_enter func286,ntmps286;go_wp2_with fail;refine f.out.mono ?_;rintro e g ⟨rfl,⟨a,rfl⟩|⟨a,rfl⟩⟩
 ·go_wp2_with fail;go_ret;exact⟨rfl,d6 ⟨a,rfl⟩⟩
 ·go_wp2_with fail;exact⟨rfl,rfl,d5 ⟨a,rfl⟩⟩
noncomputable def IL(op:List UInt8)(a b:List UInt8):aJ × Nat:=
 if op=[60] then (bM (gG a b),0)
 else if op=[60,61] then (bM (!gG b a),0)
 else if op=[43] then (if 200<aK (bI (a++b)) then (bL,6) else (bI (a++b),0))
 else (bL,2)
def ZC(op:List UInt8)(F:Nat->Prop)(a b:List UInt8)(w:World)(q:a.length+b.length<=1000000):
 Calls prog 309 #[.string (bs op),.string (bs a),.string (bs b)] w (lH F w (IL op a b)):=by
 have c:=cE op;obtain⟨r,d⟩:=E_ (IL op a b);rw[<-d];unfold IL at d;by_cases g:op=[60]
 ·rw[if_pos g] at d;have p:((bs op).toList==[60])=true:=by rw[c,g];rfl
  have i:Hid (Op.bytesLess (bs a).toList (bs b).toList=gG a b):=by show _=_;rw[cE,cE,uF]
  have f:=aB d;clear c d g;generalize gG a b=t at*;go_enter func309,ntmps309;go_wp2_with fail;go_ret;exact lH.ok f.out (by rw[<-i.out];exact PV.tru F w _)
 rw[if_neg g] at d;have p:((bs op).toList==[60])=false:=by rw[c];simpa using g
 by_cases j:op=[60,61]
 ·rw[if_pos j] at d;have v:((bs op).toList==[60,61])=true:=by rw[c,j];rfl
  have i:Hid ((Op.bytesLess (bs a).toList (bs b).toList || (bs a).toList==(bs b).toList)= !gG b a):=by show _=_;rw[cE,cE,uF,JQ]
  have f:=aB d;clear c d g j;generalize gG b a=t at*;go_enter func309,ntmps309;go_wp2_with fail;go_ret;exact lH.ok f.out (by rw[<-i.out];exact PV.tru F w _)
 rw[if_neg j] at d;have v:((bs op).toList==[60,61])=false:=by rw[c];simpa using j
 by_cases k:op=[43]
 ·rw[if_pos k] at d;have u:((bs op).toList==[43])=true:=by rw[c,k];rfl
  have l:=kT (a++b);have x:=aB (mH F (.iface 232 (.string (bs (a++b)))) _ w (PV.str F w (a++b)) (by rw[l,ei];omega))
  have f:=aB d;have s:=gJ;clear c d g j k l;go_enter func309,ntmps309;go_wp2_with fail;refine x.out.mono ?_;rintro e o ⟨rfl,⟨m,rfl⟩|⟨m,rfl⟩⟩
  ·have n:Hid (r=(bI (a++b),0)):=by show _=_;rw[f.out,if_neg o_]
   clear m f;go_wp2_with fail;go_ret;exact lH.ok n.out (PV.str F o (a++b))
  ·have n:Hid (r=(bL,6)):=by show _=_;rw[f.out,if_pos m]
   clear m f;go_wp2_with fail;exact⟨rfl,lH.stop n.out d_⟩
 ·rw[if_neg k] at d;have u:((bs op).toList==[43])=false:=by rw[c];simpa using k
  have f:=aB d;clear c d g j k;go_enter func309,ntmps309;go_wp2_with fail;exact⟨rfl,lH.stop f.out d_⟩
def mY:(prog.info? 180).map (λi=>(i.zero,i.size,i.bytes))=some (some .nilIface,1,16):=k_
def wT{P:Program}(w:World)(t u r e:TypeId)(i:TypeInfo)(z:Value)(j:P.underlying t=some (.slice e))(q:P.underlying u=some (.int .i64))(s:P.info? e=some i)(o:i.zero=some z)(m:i.size=1)
 (n:Nat) (k:0<n) (v:n<=1000000000) (l:i.bytes<=64):
 (Builtin.append_ #[t,u] r #[.slice none 0 0,.int .i64 n]).run P w=
   .ok (.slice (some ⟨w.heap.size,0,none⟩) n (grownCap w n 0 e)) (w.drew.alloc (.cells (Builtin.zeroCells z.cells n++Builtin.zeroCells z.cells (grownCap w n 0 e-n)) e)):=by
 have g:n≠0:=o_
 have h:n*i.bytes<=1000000000*64:=Nat.mul_le_mul v l;have d:¬(281474976710656<Builtin.nextslicecap n 0*i.bytes):=by rw[nextslicecap_zero k];omega
 have f:¬(9223372036854775807<(n:Int)):=o_
 have p:IntKind.i64.wrap (n:Int)=n:=by
  rw[IntKind.wrap_i64];omega
 have c:¬(281474976710656<(n:Int)*(i.bytes:Int)):=by
  have:((n*i.bytes:Nat):Int)<=64000000000:=o_
  rw[Int.natCast_mul] at this;omega
 have b:¬((n:Int)<0):=o_
 have a:max (n:Int) 0=n:=o_
 simp[Builtin.append_,run_underlying j,run_underlying q,sizeOf,typeInfo,zeroValue,s,o,m,p,asInt,asIntOf,b,a,g,f,d,c,Question.forced,run_firstCells_none,newRow,grownCap]
def sI{P:Program}{c:Array Oper}{b:List Oper}{o:Oper}{a:Act}{Q:Exit->Act->World->Prop}(f:o.guard=none)(s x:Operand)(t u:TypeId)
 (q:o.op=.call { callee:=.builtin .append,args:= #[s,x],argTypes:= #[t,u] })
 (e:TypeId) (i:TypeInfo) (z:Value) (g:P.underlying t=some (.slice e)) (r:P.underlying u=some (.int .i64)) (y:P.info? e=some i) (p:i.zero=some z) (l:i.size=1)
 (n:Nat) (j:0<n) (B:n<=1000000000) (k:i.bytes<=64) (v:a.eval s=.slice none 0 0) (A:a.eval x=.int .i64 n)
 (h:wpList P c Q b (a.put o.dst (.slice (some ⟨w.heap.size,0,none⟩) n (grownCap w n 0 e))) (w.drew.alloc (.cells (Builtin.zeroCells z.cells n++Builtin.zeroCells z.cells (grownCap w n 0 e-n)) e))):wpList P c Q (o::b) a w:=by
 refine wpList_plain f λK m=>?_
 have d:=wT (P:=P) w t u o.type e i z g r y p l n j B k;unfold Oper.wp;simp[execOp,q,resolve,invoke,builtin,v,A,d,Result.andThen];exact m _ _ h
def ZI(n:Nat)(q:n<=1000000)(w:World):
 Calls prog 313 #[.slice none 0 0,.int .i64 n] w λe j=>∃v,e=.returned v/\j.ownsRow w.heap.size 180 1 v 0 []/\Below w.heap.size w j:=by
 obtain⟨k,o,d,g,l⟩:=info_parts mY;rcases jq n with rfl|m
 ·go_enter func313,ntmps313;go_wp2_with fail;go_ret;exact⟨_,rfl,World.ownsRow_nil _ _ _ _,eh _ _⟩
 ·have r:decide ((n:Int)<0)=false:=decide_eq_false o_
  have p:decide ((0:Int)<(n:Int))=true:=decide_eq_true o_
  have b:=grownCap_ge w n 0 180;have a:=grownCap_le_maxLen w n 0 180 (by unfold maxLen;omega)
  generalize c:grownCap w n 0 180=f at b a;have i:=aB c;clear c;go_enter func313,ntmps313;go_wp2_with (at_builtin;refine sI r_ _ _ 233 3 r_ 180 k .nilIface underlying233 underlying3 o d g n m o_ o_ r_ r_ ?_;rw[i.out])
  go_ret;refine⟨_,rfl,⟨rfl,d5 ⟨w.heap.size,f,_,rfl,d7 _,aS _ _ rfl _,ft _,a,?_,rfl⟩⟩,?_⟩
  ·rw[Array.size_append,size_zeroCells,size_zeroCells];simp;omega
  ·exact((eh _ _).drew).alloc s_ _
def fZ(F:Nat->Prop)(w:World)(xs:List Value)(l:List aJ):Prop:=xs.length=l.length/\∀i (h:i<l.length),∃u,xs[i]?=some u/\PV F w u l[i]
def fZ.nil(F:Nat->Prop)(w:World):fZ F w [] []:=⟨rfl,λi h=>by simp at h⟩
def fZ.keep(h:fZ F w xs l)(a:∀b,F b->w'.heap[b]?=w.heap[b]?):fZ F w' xs l:=
 ⟨h.1,λi e=>by obtain⟨u,d,c⟩:=h.2 i e;exact⟨u,d,c.keep a⟩⟩
def fZ.mono(h:fZ F w xs l)(e:∀b,F b->G b):fZ G w xs l:=
 ⟨h.1,λi d=>by obtain⟨u,c,a⟩:=h.2 i d;exact⟨u,c,a.mono e⟩⟩
def fZ.append{d:List Value}(h:fZ F w xs l)(k:fZ F w d m):fZ F w (xs++d) (l++m):=by
 refine⟨by simp[h.1,k.1],λi f=>?_⟩
 rcases fk i l.length with a|a
 ·obtain⟨u,b,c⟩:=h.2 i a;exact⟨u,by rw[gy (by rw[h.1];exact a)];exact b,by rw[ka a];exact c⟩
 ·have e:i-l.length<m.length:=by simp at f;omega
  obtain⟨u,b,c⟩:=k.2 _ e;exact⟨u,by rw[gh (by rw[h.1];exact a),h.1];exact b,by rw[kb a];exact c⟩
def PVs.row{d:Value}(h:PVs F w d l):(l=[]/\d=.slice none 0 0)\/∃g a k,d=.slice (some ⟨g,0,none⟩) l.length a/\F g/\g<w.heap.size/\fZ F w k l/\∀j u,k[j]?=some u->w.cell? ⟨g,j,none⟩=some u:=by
 rcases h with h|⟨g,a,b,q,o,m,t,f⟩
 ·exact d6 h
 ·have s:l.length<=b.size:=by
   rcases jq l.length with p|p
   ·omega
   ·obtain⟨u,e,_⟩:=f (l.length-1) o_
    have:=(ik.1 e).1;omega
  refine d5 ⟨g,a,b.toList.take l.length,q,o,aD m,⟨t_,λi n=>?_⟩,λj u c=>?_⟩
  ·obtain⟨u,e,r⟩:=f i n;exact⟨u,by rw[fm,if_pos n];simpa using e,r⟩
  ·rw[fm] at c;split at c
   ·exact aA m (by simpa using c)
   ·cases c
def PVs.ofRow(h:w.ownsRow b_ 180 1 v l.length xs)(p:fZ F w xs l)(o:∀k,v.ownBlock=some k->F k):PVs F w v l:=by
 rcases h.2 with ⟨a,d⟩|⟨g,b,c,a,d,f,j,s,r,m⟩
 ·exact d6 ⟨ge d,a⟩
 ·refine d5 ⟨g,b,c,a,o g (by rw[a];rfl),f,j,λi q=>?_⟩
  obtain⟨u,e,n⟩:=p.2 i q;refine⟨u,?_,n⟩;rw[<-m,fm,if_pos o_] at e
  simpa using e
def oK(h:fZ F w xs l):∀u∈xs,u.oneCell'=true:=by
 intro u c;obtain⟨j,b,rfl⟩:=jt.1 c;obtain⟨f,a,d⟩:=h.2 j (by rw[<-h.1];exact b)
 rw[fg b] at a;cases a;obtain⟨t,z,e⟩:=d.form;rw[e];rfl
def ER{y:Array Oper}{i:List Oper}{o:Oper}{a:Act}{Q:Exit->Act->World->Prop}(r:o.guard=none)(s x:Operand)(t:TypeId)(G:prog.underlying t=some (.slice 180))
 (M:o.op=.call { callee:=.builtin .append,args:= #[s,x],argTypes:= #[t,t] })
 (b_:Nat) (v:Value) (l m:List aJ) (xs:List Value) (F:Nat->Prop) (P:a.eval s=v) (c:w.ownsRow b_ 180 1 v l.length xs) (O:fZ F w xs l)
 (N:Value) (T:a.eval x=N) (U:PVs F w N m) (K:∀b,F b->b<w.heap.size/\v.ownBlock≠some b) (J:l.length+m.length<=1000000000) (n:b_<=w.heap.size)
 (h:∀A k z,k.ownsRow b_ 180 1 A (l++m).length z->fZ F k z (l++m)->w.grownBy k v.ownBlock->wpList prog y Q i (a.put o.dst A) k):
 wpList prog y Q (o::i) a w:=by
 obtain⟨L,S,B,D,E⟩:=info_parts mY;rcases U.row with ⟨rfl,rfl⟩|⟨g,C,z,rfl,X,W,f,p⟩
 ·refine wpList_append_own_none r s x t M b_ 180 L 1 G S v l.length xs P c T ?_;exact h v w xs (by simpa using c) (by simpa using O) ⟨rfl,rfl,rfl,d7 _,λ_ _ _=>rfl⟩
 ·refine wpList_append_own _ r s x t M b_ 180 L _ 1 16 G S B D E rfl d_ v l.length xs P c ⟨g,0,none⟩ m.length C z T (by rw[f.1];omega) (λj u V=>by rw[Addr.add_lit,gz];exact p j u V) (oK f) (by unfold maxLen;omega) o_ n ?_
  intro A k q d _;have I:∀b,F b->k.heap[b]?=w.heap[b]?:=λb H=>d.block b (K b H).1 (λe=>(K b H).2 e.symm)
  exact h A k (xs++z) (by rw[ei];exact q) ((O.keep I).append (f.keep I)) d
def oB(F:Nat->Prop)(w:World)(ls:List aJ)(v:Value)(wr:World):Prop:=
 ∃ys,wr.ownsRow w.heap.size 180 1 v ls.length ys/\fZ F wr ys ls/\Below w.heap.size w wr
def oB.step{wr:World}{a:List aJ}{v':Value}{b:List Value}(h:oB F w a v wr)(g:w'.ownsRow w.heap.size 180 1 v' (a++m).length b)(i:fZ F w' b (a++m))(d:wr.grownBy w' v.ownBlock):oB F w (a++m) v' w':=by
 obtain⟨l,f,j,c⟩:=h;refine⟨b,g,i,c.grown d c.size λk e=>?_⟩
 exact bT f k e
def cV{t:TypeId}{e:List Value}(h:w.ownsRow b_ t k v n e):∃x c,v=.slice x n c:=by
 rcases h.2 with ⟨a,b⟩|⟨g,f,d,a,_⟩
 ·exact⟨none,0,by rw[a,b]⟩
 ·exact⟨_,_,a⟩
def PG(F:Nat->Prop)(b:Nat)(x y:Option Addr)(c d:Nat)(l m:List aJ)(w:World)(J:w.heap[b]?=some (.cells #[.slice x l.length c,.slice y m.length d] 233 (0,0)))(hl:PVs F w (.slice x l.length c) l)(hm:PVs F w (.slice y m.length d) m)(hF:∀k,F k->k<w.heap.size)(ac:l.length+m.length<=1000000):
 Calls prog 312 #[.slice (some ⟨b,0,none⟩) 2 2] w λe D=>∃E,e=.returned E/\oB F w (l++m) E D:=by
 have n:=aD J;have W:=aA J (i:=0) rfl;have X:=aA J (i:=1) rfl;have HL:=aB hl;have HM:=aB hm;have G:=aB hF;have Z:=aB (ZI (l.length+m.length) o_ w)
 have Q:=aB J;clear hl hm hF J;go_enter func312,ntmps312;go_wp2_with fail;go_loopg [3,5,11] 2 (λgk s _ i wr=>wr=w/\((gk=2/\i=.int .i64 0/\s=.int .i64 0)\/(gk=1/\i=.int .i64 1/\s=.int .i64 (l.length:Nat))\/(gk=0/\i=.int .i64 2/\s=.int .i64 ((l.length+m.length:Nat):Int))))
 case atStart=>exact⟨rfl,d6 ⟨rfl,rfl,rfl⟩⟩
 case round=>
  obtain⟨hw,hrel⟩:=hrel;obtain rfl:=hw.symm;rcases hrel with ⟨rfl,rfl,rfl⟩|⟨rfl,rfl,rfl⟩|⟨rfl,rfl,rfl⟩
  ·have e:decide ((l.length:Int)<0)=false:=decide_eq_false o_
   go_wp2_with fail;go_roundg 1
   case measure=>omega
   case rel=>exact⟨rfl,d5 (d6 ⟨rfl,rfl,rfl⟩)⟩
  ·have e:decide ((l.length:Int)+(m.length:Int)<0)=false:=decide_eq_false o_
   go_wp2_with fail;go_roundg 0
   case measure=>omega
   case rel=>exact⟨rfl,d5 (d5 ⟨rfl,rfl,s_⟩)⟩
  ·go_wp2_with fail;refine Z.out.mono ?_;rintro e w1 ⟨v1,rfl,j,O⟩
   obtain⟨x1,U,rfl⟩:∃x c,v1=.slice x 0 c:=by
    rcases j.2 with ⟨T,_⟩|⟨g,aa,ab,T,_⟩
    ·exact⟨none,0,T⟩
    ·exact⟨_,_,T⟩
   have P:Hid (oB F w [] (.slice x1 0 U) w1):=⟨[],j,fZ.nil _ _,O⟩;clear j O Z W X;go_wp2_with fail;go_loopg [6,8,27] 2 (λgk s _ i V=>(gk=2/\i=.int .i64 0/\oB F w [] s V)\/(gk=1/\i=.int .i64 1/\oB F w l s V)\/(gk=0/\i=.int .i64 2/\oB F w (l++m) s V))
   case atStart=>exact d6 ⟨rfl,rfl,P.out⟩
   case round=>
    rcases hrel with ⟨rfl,rfl,B⟩|⟨rfl,rfl,B⟩|⟨rfl,rfl,B⟩
    ·have v:=B;obtain⟨S,o,N,a⟩:=B;obtain⟨H,I,rfl⟩:=cV o;have W:wr.cell? ⟨b,0,none⟩=some (.slice x l.length c):=aA ((a.block b n).trans Q.out) rfl;have X:wr.cell? ⟨b,1,none⟩=some (.slice y m.length d):=aA ((a.block b n).trans Q.out) rfl;have K:b<wr.heap.size:=el n a.size;have M:=aB o;have L:=aB N;have u:=aB a;have t:=aB v;have r:=aB (HL.out.keep (w':=wr) λk A=>a.block k (G.out k A))
     have z:Hid (∀k,F k->k<wr.heap.size/\(Value.slice H ([]:List aJ).length I).ownBlock≠some k):=λk A=>⟨el (G.out k A) a.size,λe=>by have:=bT o k e;have:=G.out k A;omega⟩
     clear o N a v P;go_wp2_with (at_builtin;refine ER r_ _ _ 233 underlying233 r_ w.heap.size (.slice H ([]:List aJ).length I) ([]:List aJ) l S F r_ M.out L.out _ r_ r.out z.out (by first|omega|(simp;omega)) u.out.size ?_)
     intro E D Y f p q;have C:Hid (oB F w (([]:List aJ)++l) E D):=t.out.step (by first|exact f|(rw[ei];exact f)) p q
     obtain⟨x',c',rfl⟩:=cV f;clear f p q M L r z u t;go_wp2_with fail;go_roundg 1
     case measure=>omega
     case rel=>exact d5 (d6 ⟨rfl,rfl,by simpa using C.out⟩)
    ·have v:=B;obtain⟨S,o,N,a⟩:=B;obtain⟨H,I,rfl⟩:=cV o;have W:wr.cell? ⟨b,0,none⟩=some (.slice x l.length c):=aA ((a.block b n).trans Q.out) rfl;have X:wr.cell? ⟨b,1,none⟩=some (.slice y m.length d):=aA ((a.block b n).trans Q.out) rfl;have K:b<wr.heap.size:=el n a.size;have M:=aB o;have L:=aB N;have u:=aB a;have t:=aB v;have r:=aB (HM.out.keep (w':=wr) λk A=>a.block k (G.out k A))
     have z:Hid (∀k,F k->k<wr.heap.size/\(Value.slice H (l).length I).ownBlock≠some k):=λk A=>⟨el (G.out k A) a.size,λe=>by have:=bT o k e;have:=G.out k A;omega⟩
     clear o N a v P;go_wp2_with (at_builtin;refine ER r_ _ _ 233 underlying233 r_ w.heap.size (.slice H (l).length I) (l) m S F r_ M.out L.out _ r_ r.out z.out (by first|omega|(simp;omega)) u.out.size ?_)
     intro E D Y f p q;have C:Hid (oB F w (l++m) E D):=t.out.step (by first|exact f|(rw[ei];exact f)) p q
     obtain⟨x',c',rfl⟩:=cV f;clear f p q M L r z u t;go_wp2_with fail;go_roundg 0
     case measure=>omega
     case rel=>exact d5 (d5 ⟨rfl,rfl,C.out⟩)
    ·have HC:=aB B;obtain⟨S,o,_⟩:=B;obtain⟨H,I,rfl⟩:=cV o;clear o P;go_wp2_with fail;go_ret;exact⟨_,rfl,HC.out⟩
def eO(F:Nat->Prop)(w:World)(r:aJ × Nat)(e:Ending)(w':World):Prop:=Below w.heap.size w w'/\((r.2=0/\∃u,e=.returned u/\PV (Grow F w w') w' u r.1)\/(r.2≠0/\e=fL r.2))
def eO.ok(c:Below w.heap.size w w')(b:r=(a,0))(h:PV (Grow F w w') w' u a):eO F w r (.returned u) w':=by subst b;exact⟨c,d6 ⟨rfl,u,rfl,h⟩⟩
def eO.stop(d:Below w.heap.size w w')(c:r=(a,k))(b:k≠0):eO F w r (fL k) w':=by subst c;exact⟨d,d5 ⟨b,rfl⟩⟩
noncomputable def wW(op:List UInt8)(l m:List aJ):aJ × Nat:=if op=[43] then (if 200<aK (aT (l++m)) then (bL,6) else (aT (l++m),0)) else (bL,2)
def UE(op:List UInt8)(F:Nat->Prop)(x y:Option Addr)(c d:Nat)(l m:List aJ)(w:World)(G:PVs F w (.slice x l.length c) l)(H:PVs F w (.slice y m.length d) m)(t:∀k,F k->k<w.heap.size)(Q:aK (aT l)+aK (aT m)<=1000000):
 Calls prog 310 #[.string (bs op),.slice x l.length c,.slice y m.length d] w (eO F w (wW op l m)):=by
 have a:=cE op;obtain⟨r,i⟩:=E_ (wW op l m);rw[<-i];unfold wW at i;by_cases j:op=[43]
 ·rw[if_pos j] at i;have J:((bs op).toList==[43])=true:=by rw[a,j];rfl
  have E:((bs op).toList != [43])=false:=by rw[a,j];rfl
  have K:=jO l;have N:=jO m;rw[iX,iX] at Q;have O:aK (aT (l++m))=1+((l.map aK).sum+(m.map aK).sum):=by rw[iX,ga,ic]
  have b:Below w.heap.size w (w.alloc (.cells #[.slice x l.length c,.slice y m.length d] 233)):=(eh _ _).alloc (d7 _) _;have I:=aB (PG F w.heap.size x y c d l m (w.alloc (.cells #[.slice x l.length c,.slice y m.length d] 233)) (aS _ _ rfl _) (G.keep λk f=>b.block k (t k f)) (H.keep λk f=>b.block k (t k f)) (λk f=>el (t k f) b.size) o_)
  have o:=aB b;have q:=aB i;clear a i j G H t b;go_enter func310,ntmps310;go_wp2_with fail;refine I.out.mono ?_;rintro e A ⟨S,rfl,T,u,s,z⟩;obtain⟨P,L,rfl⟩:=cV u;have g:=o.out.trans (z.mono o.out.size);have p:PVs (Grow F w A) A (.slice P (l++m).length L) (l++m):=PVs.ofRow u (s.mono λk f=>d6 f) λk f=>d5 ⟨by have:=bT u k f;have:=o.out.size;omega,cI u k f⟩
  have M:=aB (mH (Grow F w A) _ _ A (PV.lst p) o_)
  have C:=aB p;have v:=aB g;clear u s z g p I;generalize (l++m).length=n at*;go_wp2_with fail;refine M.out.mono ?_;rintro e U ⟨rfl,⟨B,rfl⟩|⟨B,rfl⟩⟩
  ·have D:Hid (r=(aT (l++m),0)):=by show _=_;rw[q.out,if_neg o_]
   clear B q;go_wp2_with fail;go_ret;exact eO.ok v.out D.out (PV.lst C.out)
  ·have D:Hid (r=(bL,6)):=by show _=_;rw[q.out,if_pos B]
   clear B q;go_wp2_with fail;exact⟨rfl,eO.stop v.out D.out d_⟩
 ·rw[if_neg j] at i;have J:((bs op).toList==[43])=false:=by rw[a];simpa using j
  have E:((bs op).toList != [43])=true:=by rw[a];simpa using j
  have q:=aB i;clear a i j G H t;go_enter func310,ntmps310;go_wp2_with fail;exact⟨rfl,eO.stop (eh _ _) q.out d_⟩
def iS{a:Addr}(o:Obj)(h:w.cell? a=some v):(w.alloc o).cell? a=some v:=by
 have b:=World.block_lt_of_cell? w a h;rw[<-h];exact World.cell?_of_block (eq _ _ _ b)
def GV(g i n c:Nat)(b:List Value)(w:World)(D:b.length=n*1)(I:n<=1000000)(t:∀j u,b[j]?=some u->w.cell? ⟨g,i+j,none⟩=some u)(z:∀u∈b,u.oneCell'=true):
 Calls prog 301 #[.slice (some ⟨g,i,none⟩) n c] w λe s=>∃o,e=.returned o/\s.ownsRow w.heap.size 180 1 o n b/\Below w.heap.size w s:=by
 obtain⟨B,E,p,q,r⟩:=info_parts mY;have A:=aB t;clear t;have y:∀(w:World) (a:Option Addr) (n c m l:Nat),(binOp .eql 233 (.slice a n c) (.slice none m l)).run prog w=.ok (.bool a.isNone) w:=λw a n c m l=>Lib.run_eql_slice_nil w _ _ a n c m l underlying233
 go_enter func301,ntmps301;go_wp2_with (at_builtin;refine wpList_append_own _ r_ _ _ 233 r_ w.heap.size 180 B _ 1 16 underlying233 E p q r rfl d_ (.slice (some ⟨w.heap.size,0,none⟩) 0 0) 0 [] r_ (World.ownsRow_made w #[] 0 (d7 _) (ft _) s_) ⟨g,i,none⟩ n c b r_ D (λj u F=>by rw[Addr.add_lit];exact iS _ (A.out j u F)) z (by unfold maxLen;omega) o_ s_ ?_)
 intro o G d f _;have C:=aB d;have x:=aB f;obtain⟨H,l,rfl⟩:=cV d;clear d f;go_wp2_with fail;go_ret;refine⟨_,rfl,by simpa using C.out,?_⟩
 exact((eh _ w).alloc (d7 _) _).grown x.out s_ (by intro k v;simp[Value.ownBlock] at v;omega)
def sY(g i n c:Nat)(b:List Value)(w:World)(D:b.length=n*1)(I:n<=1000000)(t:∀j u,b[j]?=some u->w.cell? ⟨g,i+j,none⟩=some u)(z:∀u∈b,u.oneCell'=true):
 Calls prog 199 #[.slice (some ⟨g,i,none⟩) n c] w λe s=>∃o,e=.returned o/\s.ownsRow w.heap.size 180 1 o n b/\Below w.heap.size w s:=by
 obtain⟨B,E,p,q,r⟩:=info_parts mY;have A:=aB t;clear t;have y:∀(w:World) (a:Option Addr) (n c m l:Nat),(binOp .eql 134 (.slice a n c) (.slice none m l)).run prog w=.ok (.bool a.isNone) w:=λw a n c m l=>Lib.run_eql_slice_nil w _ _ a n c m l underlying134
 go_enter func199,ntmps199;go_wp2_with (at_builtin;refine wpList_append_own _ r_ _ _ 134 r_ w.heap.size 180 B _ 1 16 underlying134 E p q r rfl d_ (.slice (some ⟨w.heap.size,0,none⟩) 0 0) 0 [] r_ (World.ownsRow_made w #[] 0 (d7 _) (ft _) s_) ⟨g,i,none⟩ n c b r_ D (λj u F=>by rw[Addr.add_lit];exact iS _ (A.out j u F)) z (by unfold maxLen;omega) o_ s_ ?_)
 intro o G d f _;have C:=aB d;have x:=aB f;obtain⟨H,l,rfl⟩:=cV d;clear d f;go_wp2_with fail;go_ret;refine⟨_,rfl,by simpa using C.out,?_⟩
 exact((eh _ w).alloc (d7 _) _).grown x.out s_ (by intro k v;simp[Value.ownBlock] at v;omega)
def sX(w:World):
 Calls prog 199 #[.slice none 0 0] w λe f=>e=.returned (.slice none 0 0)/\f=w:=by
 have g:∀(w:World) (a:Option Addr) (n c b d:Nat),(binOp .eql 134 (.slice a n c) (.slice none b d)).run prog w=.ok (.bool a.isNone) w:=λw a n c b d=>Lib.run_eql_slice_nil w _ _ a n c b d underlying134
 go_enter func199,ntmps199;go_wp2_with fail;go_ret;exact⟨rfl,rfl⟩
def S7(F:Nat->Prop)(w:World)(sv:Value)(l:List aJ):Prop:=
 (l=[]/\∃x c,sv=.slice x 0 c)\/∃g o c,sv=.slice (some ⟨g,o,none⟩) l.length c/\l.length<=c/\g<w.heap.size/\∀i (h:i<l.length),∃u,w.cell? ⟨g,o+i,none⟩=some u/\PV F w u l[i]
def S7.below{b:Value}(h:S7 F w b l)(a:Below w.heap.size w w')(q:∀k,F k->k<w.heap.size):S7 F w' b l:=by
 rcases h with h|⟨g,o,c,m,e,d,j⟩
 ·exact d6 h
 ·refine d5 ⟨g,o,c,m,e,el d a.size,λi r=>?_⟩
  obtain⟨u,s,n⟩:=j i r;exact⟨u,by rw[a.cell (p:=⟨g,o+i,none⟩) d];exact s,n.keep λk f=>a.block k (q k f)⟩
def vN{i:aJ}{c:List aJ}:cM (i::c) a b=if a.sort≠3\/i.sort≠0 then (bL,2) else if i.n<0\/(a.l.length:Int)<=i.n then (bL,4) else if (cM c (a.l.getD i.n.toNat bL) b).2≠0 then (bL,(cM c (a.l.getD i.n.toNat bL) b).2) else (aT (a.l.set i.n.toNat (cM c (a.l.getD i.n.toNat bL) b).1),0):=by
 rw[cM]
def X0{g a:Nat}{t:TypeId}{e:List Value}(h:w.ownsRow b_ t 1 (.slice (some ⟨g,0,none⟩) n a) n e)(_hk:k<n):
 (w.setCell ⟨g,k,none⟩ u).ownsRow b_ t 1 (.slice (some ⟨g,0,none⟩) n a) n (e.set k u):=by
 rcases h.2 with ⟨b,_⟩|⟨p,d,c,b,o,f,j,m,i,l⟩
 ·cases b
 ·cases b;refine⟨by rw[hQ];exact h.1,d5 ⟨g,a,c.setIfInBounds k u,rfl,o,?_,j,m,by simpa using i,?_⟩⟩
  ·rw[aQ f]
  ·rw[<-l,jn,jo]
def fZ.set(h:fZ F w xs l)(k:Nat)(e:PV F w u a):fZ F w (xs.set k u) (l.set k a):=by
 refine⟨by simp[h.1],λi c=>?_⟩
 rw[hQ] at c;by_cases b:k=i
 ·subst b;exact⟨u,by rw[List.getElem?_set_self (by rw[h.1];exact c)],by rw[List.getElem_set_self];exact e⟩
 ·obtain⟨v,d,f⟩:=h.2 i c;exact⟨v,by rw[List.getElem?_set_ne b];exact d,by rw[List.getElem_set_ne b];exact f⟩
def K6{w1 d:World}{c c1:Nat}{g:TypeId}{u2:Value}{o:aJ}(f:Below w.heap.size w w1)(s:Below w1.heap.size w1.drew d)
 (b:w1.ownsRow w.heap.size 180 1 (.slice (some ⟨c,0,none⟩) m.length c1) m.length xs) (E:fZ F w xs m) (C:PV (Grow F w1.drew d) d (.iface g u2) o) (a:r=(aT (m.set k o),0)) (x:∀q,F q->q<w.heap.size) (A:k<m.length):
 eO F w r (.returned (.iface 233 (.slice (some ⟨c,0,none⟩) m.length c1))) (d.setCell ⟨c,k,none⟩ (.iface g u2)):=by
 have h:w.heap.size<=c:=bT b c rfl;have y:c<w1.heap.size:=cI b c rfl;have e:Below w1.heap.size w1 d:=((eh _ w1).drew).trans s;have B:w1.heap.size<=d.heap.size:=e.size;have D:w.heap.size<=w1.heap.size:=f.size;have z:Below w.heap.size w d:=f.trans (e.mono f.size);have n:Below w.heap.size w (d.setCell ⟨c,k,none⟩ (.iface g u2)):=z.setCell h _;have v:d.ownsRow w.heap.size 180 1 (.slice (some ⟨c,0,none⟩) m.length c1) m.length xs:=aX b λq a=>e.block q (cI b q a)
 have p:=X0 (u:=.iface g u2) v A;have j:(d.setCell ⟨c,k,none⟩ (.iface g u2)).heap.size=d.heap.size:=s_
 refine eO.ok n a (PV.lst ?_);have i:(m.set k o).length=m.length:=hQ;have:=PVs.ofRow (F:=Grow F w (d.setCell ⟨c,k,none⟩ (.iface g u2))) (l:=m.set k o) (by rw[i];exact p) ?_ ?_
 ·exact this
 ·refine fZ.set ((E.keep λq a=>n.block q (x q a)).mono λq a=>d6 a) k ?_
  refine(C.keep λq a=>?_).mono λq a=>?_
  ·refine ej _ _ _ _ ?_;show q≠c
   rcases a with a|⟨a,_⟩
   ·have:=x q a;omega
   ·have:w1.heap.size<=q:=a;omega
  ·rcases a with a|⟨a,t⟩
   ·exact d6 a
   ·refine d5 ⟨?_,by rw[j];exact t⟩
    have:w1.heap.size<=q:=a;omega
 ·intro q a;obtain rfl:c=q:=Option.some.inj a;exact d5 ⟨h,by rw[j];omega⟩
def sG(F:Nat->Prop)(l:List aJ):Prop:=∀(sv u v:Value) (a b:aJ) (w:World),S7 F w sv l->PV F w u a->PV F w v b->(∀k,F k->k<w.heap.size)->aK a<=400000->l.length<=1000000->
 Calls prog 300 #[u,sv,v] w (eO F w (cM l a b))
def NA(F:Nat->Prop):sG F []:=by
 intro k u v a b w f e d j q p
 obtain⟨x,c,rfl⟩:∃x c,k=.slice x 0 c:=by
  rcases f with ⟨_,x,c,h⟩|⟨g,o,c,h,_⟩
  ·exact⟨x,c,h⟩
  ·exact⟨_,_,h⟩
 have l:=aB d;obtain⟨t,z,rfl⟩:=e.form;obtain⟨m,n,rfl⟩:=d.form;clear f e d j;go_enter func300,ntmps300;go_wp2_with fail;go_ret;exact eO.ok (eh _ _) rfl (l.out.mono λ_ i=>d6 i)
def NB(F:Nat->Prop)(i:aJ)(l:List aJ)(IH:∀F,sG F l):sG F (i::l):=by
 intro sv u v a b w hi hu hv hF hc hl;simp only[ek] at hl
 obtain⟨g,o,c,rfl,be,hg,f⟩:∃g o c,sv=.slice (some ⟨g,o,none⟩) (l.length+1) c/\l.length+1<=c/\g<w.heap.size/\∀j (h:j<(i::l).length),∃u,w.cell? ⟨g,o+j,none⟩=some u/\PV F w u (i::l)[j]:=by
  rcases hi with ⟨h,_⟩|⟨g,o,c,h1,K,h3,h4⟩
  ·cases h
  ·exact⟨g,o,c,h1,K,h3,h4⟩
 obtain⟨ui,ci,C⟩:=f 0 s_
 simp only[iz,jw] at ci C;have bf:(((l.length+1:Nat):Int)==0)=false:=t_
 obtain⟨r,O⟩:=E_ (cM (i::l) a b);rw[<-O];rw[vN] at O;obtain⟨t',z',rfl⟩:=hv.form;obtain⟨ti,zi,rfl⟩:=C.form;have d:a.sort≠3->Hid (r=(bL,2)):=λh=>by show _=_;rw[O,if_pos (d6 h)]
 rcases hu.cases with ⟨n,rfl,rfl,_,_⟩|⟨s,rfl,rfl⟩|⟨s,rfl,rfl⟩|⟨x,cx,m,rfl,rfl,hm⟩
 ·have M:=d (by simp[aW])
  have q:=jC;clear hu hv hi hF f C O d IH;go_enter func300,ntmps300;go_wp2_with fail;exact⟨rfl,eO.stop (eh _ _) M.out d_⟩
 ·have M:=d (by simp[bM])
  have q:=gQ;clear hu hv hi hF f C O d IH;go_enter func300,ntmps300;go_wp2_with fail;exact⟨rfl,eO.stop (eh _ _) M.out d_⟩
 ·have M:=d (by simp[bI])
  have q:=kK;clear hu hv hi hF f C O d IH;go_enter func300,ntmps300;go_wp2_with fail;exact⟨rfl,eO.stop (eh _ _) M.out d_⟩
 ·have q:=gP;have bk:=jO m;rw[iX] at hc;have ai:=aB (tT F _ i m.length w C o_)
  have HR:=aB O;have HM:=aB hm;have HV:=aB hv;have HF:=aB hF;have af:=aB f;have ab:=aB IH;clear hu hv hi hF f C O d IH hm;go_enter func300,ntmps300;go_wp2_with fail;refine ai.out.mono ?_;rintro e D ⟨Z,⟨K,rfl⟩|⟨K,h3,rfl⟩|⟨K,k,G,P,rfl⟩⟩
  ·obtain rfl:=Z.symm;have M:Hid (r=(bL,2)):=by show _=_;rw[HR.out,if_pos (d5 K)]
   clear K Z;go_wp2_with fail;exact⟨rfl,eO.stop (eh _ _) M.out d_⟩
  ·obtain rfl:=Z.symm;have M:Hid (r=(bL,4)):=by show _=_;rw[HR.out,if_neg (by simp[aT,K]),if_pos (show i.n<0\/((aT m).l.length:Int)<=i.n from h3)]
   clear K h3 Z;go_wp2_with fail;exact⟨rfl,eO.stop (eh _ _) M.out d_⟩
  ·obtain rfl:=Z.symm;obtain⟨gm,bl,ar,_⟩:=HM.out.get k G;rcases HM.out.row with ⟨rfl,_⟩|⟨bc,bh,xs,aw,bb,bi,B,E⟩
   ·simp at G
   cases aw;obtain⟨uk,ac,V⟩:=B.2 k G;have am:=aB (GV bc 0 m.length cx xs w (by rw[B.1];omega) o_ (λj u hj=>by rw[gz];exact E j u hj) (oK B))
   have av:aK m[k]<=400000:=by have:=lS (fi G);omega
   have J:Hid (r=if (cM l m[k] b).2≠0 then (bL,(cM l m[k] b).2) else (aT (m.set k (cM l m[k] b).1),0)):=by
    show _=_
    have ag:i.n.toNat=k:=by rw[P];rfl
    have an:(aT m).l.getD i.n.toNat bL=m[k]:=by rw[ag];show m.getD k bL=_;show (m[k]?).getD bL=_;rw[fg G];rfl
    rw[HR.out,if_neg (by simp[aT,K]),if_neg (by show ¬(i.n<0\/((aT m).l.length:Int)<=i.n);rw[P];show ¬((k:Int)<0\/(m.length:Int)<=k);omega),an,ag]
    rfl
   obtain⟨tk,zk,rfl⟩:=V.form;have ao:=aB B;have ah:=aB V;have al:=aB ac;clear Z K P HR ai E B V ac bb ar;go_wp2_with fail;refine am.out.mono ?_;rintro e D ⟨v1,rfl,I,L⟩;rcases I.2 with ⟨r1,r2⟩|⟨g1,c1,ap,rfl,bj,z,ba,az,ax,ak⟩
   ·omega
   have N:ap[k]?=some (.iface tk zk):=by
    have:=al.out;rw[<-ak,fm,if_pos o_] at this
    simpa using this
   have d0:D.cell? ⟨g1,k,none⟩=some (.iface tk zk):=aA z N;have aj:=aD z;have au:Hid (∀q,F q->q<D.drew.heap.size):=λq hq=>el (HF.out q hq) L.size
   have y:Below w.heap.size w D.drew:=L.drew;obtain⟨Y,ae⟩:∃Y:Option Addr,(if c=1 then some (⟨g,o,none⟩:Addr) else some ⟨g,o+1,none⟩)=Y:=⟨_,rfl⟩
   have aa:S7 F D.drew (.slice Y l.length (c-1)) l:=by
    by_cases h1:c=1
    ·have ht:l=[]:=io.1 o_
     exact d6 ⟨ht,_,_,by rw[ht];rfl⟩
    ·rw[if_neg h1] at ae;subst ae;refine d5 ⟨g,o+1,c-1,rfl,o_,el hg y.size,λj hj=>?_⟩
     obtain⟨u,e1,e2⟩:=af.out (j+1) t_
     rw[show o+(j+1)=o+1+j by omega] at e1
     exact⟨u,by rw[y.cell (p:=⟨g,o+1+j,none⟩) hg];exact e1,e2.keep λk G=>y.block k (HF.out k G)⟩
   have bm:(1:Int)<=(l.length:Int)+1:=o_
   have bg:(l.length:Int)+1<=(c:Int):=o_
   have HX:=aB (ab.out F (.slice Y l.length (c-1)) (.iface tk zk) (.iface t' z') m[k] b D.drew aa (ah.out.keep λk G=>y.block k (HF.out k G)) (HV.out.keep λk G=>y.block k (HF.out k G)) au.out av o_)
   generalize cM l m[k] b=X at HX J;have HOWN:=aB I;have HBLK:=aB z;have U:=aB L;clear I z L y aa am ab af ah ax ak ba az al;by_cases Q:X.2=0
   ·have T:Hid (Calls prog 300 #[.iface tk zk,.slice Y l.length (c-1),.iface t' z'] D.drew λe w'=>Below D.heap.size D.drew w'/\∃t2 u2,e=.returned (.iface t2 u2)/\PV (Grow F D.drew w') w' (.iface t2 u2) X.1):=by
     refine HX.out.mono ?_;rintro e W ⟨A,⟨_,u2,rfl,H⟩|⟨S,rfl⟩⟩
     ·obtain⟨t2,z2,rfl⟩:=H.form;exact⟨A,t2,z2,rfl,H⟩
     ·exact absurd Q S
    have HQ:Hid (r=(aT (m.set k X.1),0)):=by show _=_;rw[J.out,if_neg (by simp[Q])]
    clear HX J Q;go_wp2_with fail;go_region_law (go_simp;go_at_call 300;refine T.out.mono ?_;rintro e W ⟨A,t2,u2,rfl,H⟩;have t:=(A.block g1 aj).trans HBLK.out;have d2:=aA t N;have bn:=aE t (i:=k);have bd:=aD t;have aq:=aB H;have ay:=aB A;have HBLK2:=aB t;clear H A t)
    all_goals
     go_wp2_with fail;go_ret;exact K6 U.out ay.out HOWN.out ao.out aq.out HQ.out HF.out G
   ·have T:Hid (Calls prog 300 #[.iface tk zk,.slice Y l.length (c-1),.iface t' z'] D.drew λe w'=>Below D.heap.size D.drew w'/\e=fL X.2):=by
     refine HX.out.mono ?_;rintro e W ⟨A,⟨S,_⟩|⟨_,rfl⟩⟩
     ·exact absurd S Q
     ·exact⟨A,rfl⟩
    have HQ:Hid (r=(bL,X.2)):=by show _=_;rw[J.out,if_pos Q]
    have HS:Hid (∀W,Below D.heap.size D.drew W->eO F w r (fL X.2) W):=λW h=>eO.stop (U.out.drew.trans (h.mono U.out.size)) HQ.out Q
    clear HX J Q;go_wp2_with fail;go_region_dies
    all_goals (refine T.out.mono ?_;rintro e W ⟨A,rfl⟩;exact⟨rfl,HS.out _ A⟩)
def yS:∀(l:List aJ) (F:Nat->Prop),sG F l
 |[],F=>NA F
 |i::l,F=>NB F i l (yS l)
def F7(l:List aJ)(k:Nat)(x:aJ):((l.set k x).map aK).sum<=(l.map aK).sum+aK x:=by
 induction l generalizing k with
 |nil=>simp
 |cons a l b=>
  cases k with
  |zero=>simp only[List.set_cons_zero,ew,ey];omega
  |succ k=>simp only[ju,ew,ey];have:=b k;omega
def tD:∀(l:List aJ) (a b:aJ),aK (cM l a b).1<=(l.length+1)*(aK a+aK b+1)
 |[],a,b=>by rw[cM];simp;omega
 |i::l,a,b=>by
  rw[vN];have c:aK bL=1:=by rw[eV];simp[bL]
  have d:1<=((i::l).length+1)*(aK a+aK b+1):=Nat.mul_pos s_ o_
  repeat' split
  ·rw[c];exact d
  ·rw[c];exact d
  ·rw[c];exact d
  ·rename_i p n q;have f:i.n.toNat<a.l.length:=o_
   have k:a.l.getD i.n.toNat bL=a.l[i.n.toNat]:=by show (a.l[i.n.toNat]?).getD bL=_;rw[fg f];rfl
   have h:=tD l (a.l.getD i.n.toNat bL) b;have g:=lS (fi f);have j:=eV a;rw[iX];have e:=F7 a.l i.n.toNat (cM l (a.l.getD i.n.toNat bL) b).1;rw[k] at h e ⊢
   have m:(l.length+1)*(aK a.l[i.n.toNat]+aK b+1)<=(l.length+1)*(aK a+aK b+1):=Nat.mul_le_mul_left _ o_
   have o:((i::l).length+1)*(aK a+aK b+1)=(l.length+1)*(aK a+aK b+1)+(aK a+aK b+1):=by simp only[ek];rw[Nat.succ_mul]
   omega
def PH(F:Nat->Prop)(l:List aJ)(y u v:Value)(a b:aJ)(w:World)(E:S7 F w y l)(D:PV F w u a)(G:PV F w v b)(I:∀k,F k->k<w.heap.size)(L:aK a<=400)(J:aK b<=400)(T:l.length<=100000):
 Calls prog 299 #[u,y,v] w (eO F w (nH a l b)):=by
 have C:=tD l a b;have K:(l.length+1)*(aK a+aK b+1)<=100001*801:=Nat.mul_le_mul o_ o_
 have B:=aB (yS l F y u v a b w E D G I o_ o_)
 obtain⟨r,A⟩:=E_ (nH a l b);rw[<-A];unfold nH iH at A;have q:=aB A
 obtain⟨x,c,rfl⟩:∃x c,y=.slice x l.length c:=by
  rcases E with ⟨rfl,x,c,h⟩|⟨g,o,c,h,_⟩
  ·exact⟨x,c,h⟩
  ·exact⟨_,_,h⟩
 obtain⟨t,z,rfl⟩:=D.form;obtain⟨O,P,rfl⟩:=G.form;generalize cM l a b=p at B q C;clear E D G I A;go_enter func299,ntmps299;go_wp2_with fail;refine B.out.mono ?_;rintro e H ⟨d,⟨f,u1,rfl,s⟩|⟨f,rfl⟩⟩
 ·have N:=aB (mH (Grow F w H) u1 p.1 H s o_)
  obtain⟨S,Q,rfl⟩:=s.form;have M:=aB s;have n:=aB d;have j:=aB f;clear s d f B;go_wp2_with fail;refine N.out.mono ?_;rintro e U ⟨rfl,⟨m,rfl⟩|⟨m,rfl⟩⟩
  ·have i:Hid (r=(p.1,0)):=by show _=_;rw[q.out,if_pos j.out,if_neg o_];rw[<-j.out]
   clear m;go_wp2_with fail;go_ret;exact eO.ok n.out i.out M.out
  ·have i:Hid (r=(bL,6)):=by show _=_;rw[q.out,if_pos j.out,if_pos m]
   clear m;go_wp2_with fail;exact⟨rfl,eO.stop n.out i.out d_⟩
 ·have i:Hid (r=(p.1,p.2)):=by show _=_;rw[q.out,if_neg f]
  have j:=aB f;have n:=aB d;clear f d B;go_wp2_with fail;exact⟨rfl,eO.stop n.out i.out j.out⟩
def kI(w:World):Prop:=Lib.TabIs prog w "internal/strconv.uint64pow10" .u64 Lib.pow10Tab
def kI.keep{g:Nat}(h:kI w)(b:prog.globalNamed "internal/strconv.uint64pow10"=some g)(a:w'.heap[g]?=w.heap[g]?):kI w':=by
 unfold kI Lib.TabIs World.var? at h ⊢
 rw[b] at h ⊢
 simp only[Option.bind_some] at h ⊢
 rw[a];exact h
def kI.below(h:kI w)(c:Below w.heap.size w w'):kI w':=by
 cases b:prog.globalNamed "internal/strconv.uint64pow10" with
 |none=>unfold kI Lib.TabIs World.var? at h;rw[b] at h;cases h
 |some g=>
  refine h.keep b (c.block g ?_);unfold kI Lib.TabIs World.var? at h;rw[b] at h;simp only[Option.bind_some] at h;rcases fk g w.heap.size with a|a
  ·exact a
  ·rw[gx (by exact a)] at h
   cases h
def yP:∀(f n:Nat) (t:List UInt8),n<10 ^ (f+1)->Hs.digitsF (f+1) n t=Lib.decDigits n++t
 |0,n,t,h=>by
  have a:n<10:=by simpa using h
  rw[Hs.digitsF,Lib.decDigits,if_pos a,dif_pos a];rfl
 |f+1,n,t,h=>by
  rw[Hs.digitsF,Lib.decDigits];by_cases a:n<10
  ·rw[if_pos a,dif_pos a];rfl
  ·rw[if_neg a,dif_neg a,yP f (n/10) _ (by rw[Nat.pow_succ] at h;omega)]
   simp
def sS(n:Int)(a: -9223372036854775808<=n)(b:n<=9223372036854775807):Lib.itoa n=cK n:=by
 unfold Lib.itoa cK;rw[yP 19 n.natAbs [] o_,List.append_nil]
 by_cases h:n<0
 ·rw[if_pos h,if_pos h];rfl
 ·rw[if_neg h,if_neg h,gv,show n.toNat=n.natAbs by omega]
def yN:∀l:List (List UInt8),Lib.join l [44,32]=eU l
 |[]=>rfl
 |[x]=>by simp[Lib.join,List.intercalate,eU]
 |x::y::l=>by
  have a:=yN (y::l);unfold Lib.join List.intercalate at a ⊢
  rw[List.intersperse_cons_cons,List.flatten_cons,List.flatten_cons,a];simp[eU]
def XL(l:List (List UInt8)):Lib.join ((l.map bs).map λx=>x.data.toList) (bs [44,32]).data.toList=eU l:=by
 rw[<-yN,List.map_map];have e:((λx:ByteArray=>x.data.toList) ∘ bs)=id:=funext λx=>by simp[jR]
 rw[e,List.map_id];simp[jR]
def IV(w:World)(x:List UInt8):∀j u,([.string (bs x)]:List Value)[j]?=some u->(w.alloc (.cells #[.string (bs x)] 9)).cell? ((⟨w.heap.size,0,none⟩:Addr).add j)=some u:=by
 intro j v a;match j,a with
 |0,a=>simp at a;subst a;simp[Addr.add,go_sem]
 |j+1,a=>simp at a
def PM(x:List UInt8):∀u∈([.string (bs x)]:List Value),u.oneCell'=true:=by
 intro u a;simp at a;rw[a];rfl
def DM:(prog.info? 9).map (λi=>(i.zero,i.size,i.bytes))=some (some (.string ⟨#[]⟩),1,16):=k_
def IK(l:List (List UInt8)):List Value:=l.map λx=>Value.string (bs x)
def sD(F:Nat->Prop)(k:Nat):Prop:=∀(v:Value) (a:aJ) (w:World),PV F w v a->(∀b,F b->b<w.heap.size)->kI w->aK a<=k->k<=1000000->Calls prog 94 #[v] w λe w'=>e=.returned (.string (bs (cF a)))/\Below w.heap.size w w'
def LO(F:Nat->Prop)(k:Nat)(IH:sD F k)(x:Option Addr)(c:Nat)(l:List aJ)(w:World)(hl:PVs F w (.slice x l.length c) l)(hF:∀b,F b->b<w.heap.size)(hp:kI w)(hc:(l.map aK).sum<=k)(hk:k<=1000000):
 Calls prog 143 #[.slice x l.length c] w λe w'=>e=.returned (.string (bs (eU (l.map cF))))/\Below w.heap.size w w':=by
 obtain⟨i0,hi,O,Y,U⟩:=info_parts DM;have aa:=jO l;have v:=aB IH;have W:=aB hl;have HF:=aB hF;have HP:=aB hp;clear IH hl hF hp;go_enter func143,ntmps143;go_wp2_with fail;go_loopg [3,5,8] l.length (λgk s _ i wr=>∃j:Nat,j+gk=l.length/\i=.int .i64 j/\(∃y d,s=.slice y j d)/\wr.ownsRow w.heap.size 9 1 s j (IK ((l.map cF).take j))/\Below w.heap.size w wr)
 case atStart=>exact⟨0,o_,rfl,⟨none,0,rfl⟩,World.ownsRow_nil _ _ _ _,eh _ _⟩
 case round=>
  obtain⟨j,hj,rfl,⟨y,d,rfl⟩,n,f⟩:=hrel;by_cases z:j<l.length
  ·obtain⟨m,rfl⟩:∃m,gk=m+1:=⟨gk-1,o_⟩
   have G:=W.out.keep λb I=>f.block b (HF.out b I)
   obtain⟨g,u,rfl,hn,ae,hg,Z,P,V⟩:=G.get j z;have C:l[j]∈l:=fi z;have af:=lS C;have HX:=aB (v.out u l[j] wr V (λb I=>el (HF.out b I) f.size) (HP.out.below f) o_ o_)
   obtain⟨t,u',rfl⟩:=V.form;have L:=f.size;have HO:=aB n;have H:=aB f
   have E:IK ((l.map cF).take (j+1))=IK ((l.map cF).take j)++[.string (bs (cF l[j]))]:=by
    rw[gl (by simpa using z)];simp[IK]
   have J:=aB E;clear V n f E G;go_wp2_with fail;refine HX.out.mono ?_;rintro e D ⟨rfl,r⟩;have ab:=r.size;have q:=iW HO.out r;have A:=aB q;clear q;generalize cF l[j]=tx at*;go_wp2_with (at_builtin;refine wpList_append_lies _ r_ _ _ 37 r_ w.heap.size 9 i0 _ 1 16 underlying37 hi O Y U rfl d_ (.slice y j d) j _ r_ (A.out.alloc _) ⟨D.heap.size,0,none⟩ 1 1 [.string (bs tx)] r_ r_ (IV D _) (PM _) d_ (by unfold maxLen;omega) o_ t_ (D.heap.size+1) s_ ?_)
   intro g4 ac w4 p o B ah;have Q:=aB p;have S:=aB o;clear p o B;go_wp2_with fail;go_roundg m
   case measure=>omega
   case rel=>
    refine⟨j+1,o_,by go_num,⟨_,_,rfl⟩,by rw[J.out];exact Q.out,?_⟩
    exact((H.out.trans (r.mono o_)).alloc o_ _).grown S.out t_ λk hk=>(A.out.lt k hk).1
  ·have K:j=l.length:=o_
   subst K;have L:=f.size;rw[gp s_] at n
   have H:=aB f;have ag:=uE l λa _=>xR a
   rcases n.2 with ⟨X,r2⟩|⟨g,cp,ad,X,r2,T,r4,r5,r6,r7⟩
   ·have e1:l=[]:=ge r2;subst e1;cases X;clear n f W v;go_wp2_with fail;refine(strings_Join_none _ _ _ _).mono ?_;rintro e D ⟨rfl,rfl⟩;go_wp2_with fail;go_ret;exact⟨rfl,H.out⟩
   ·cases X
    have HJ:=aB (strings_Join g 0 d ((l.map cF).map bs) (bs [44,32]) wr (λi x N=>by
     refine aA T ?_
     have e2:(IK (l.map cF))[i]?=some (.string x):=by
      unfold IK;rw[ix] at N ⊢
      obtain⟨y,hy,rfl⟩:=Option.map_eq_some_iff.1 N;rw[hy];rfl
     have ai:i<l.length:=by
      have:=(gr.1 N).1;simpa using this
     rw[<-r7,fm,if_pos o_] at e2
     simpa using e2) (aD T) t_ (by simpa using r4) (by rw[XL];omega))
    have M:((l.map cF).map bs).length=l.length:=s_
    rw[M,XL] at HJ;clear n f W v T r6 r7;go_wp2_with fail;refine HJ.out.mono ?_;rintro e D ⟨rfl,r⟩;go_wp2_with fail;go_ret;exact⟨rfl,H.out.trans (r.mono o_)⟩
def DP{os:Array Obj}(h:w'=Sort.grow (w.drewN k) os):Below w.heap.size w w':=by
 subst h;refine⟨rfl,rfl,rfl,?_,λi a=>?_⟩
 ·show w.heap.size<=(w.heap++os).size
  rw[Array.size_append];omega
 ·show (w.heap++os)[i]?=w.heap[i]?
  rw[Array.getElem?_append_left a]
def D3:(⟨(Lib.formatBool false).toArray⟩:ByteArray)=bs [102,97,108,115,101]:=k_
def I8:(⟨(Lib.formatBool true).toArray⟩:ByteArray)=bs [116,114,117,101]:=k_
def GA(F:Nat->Prop)(k:Nat)(g:sD F k):sD F (k+1):=by
 intro v a w h y f j H;rcases h.cases with ⟨n,rfl,rfl,u,t⟩|⟨b,rfl,rfl⟩|⟨s,rfl,rfl⟩|⟨x,c,l,rfl,rfl,z⟩
 ·have q:=lK;have d:cF (aW n)=cK n:=by rw[iU];rfl
  have p:=aB (strconv_FormatInt_10 n u t w f);rw[d];clear h g j f;go_enter func94,ntmps94;go_wp2_with fail;refine p.out.mono ?_;rintro e r ⟨rfl,G,I,i⟩;have o:=DP i;clear i;go_wp2_with fail;go_ret;exact⟨by rw[sS n u t];rfl,o⟩
 ·have q:=kN;have B:=uH;have d:cF (bM b)=if b then [116,114,117,101] else [102,97,108,115,101]:=by rw[iU];cases b<;>rfl
  rw[d];clear h g j f;cases b
  all_goals
   go_enter func94,ntmps94;go_wp2_with fail;refine(strconv_FormatBool _ _).mono ?_;rintro e r ⟨rfl,rfl⟩;go_wp2_with fail;go_ret;exact⟨by first|(rw[D3];rfl)|(rw[I8];rfl),eh _ _⟩
 ·have q:=lJ;have B:=xS;have m:=kG;have d:cF (bI s)=[34]++s++[34]:=by rw[iU];rfl
  have D:(bs s).size=s.length:=gJ s;rw[kT] at j;rw[d];clear h g f;go_enter func94,ntmps94;go_wp2_with fail;go_ret;refine⟨?_,eh _ _⟩;show Ending.returned (.string ((⟨#[34]⟩:ByteArray)++bs s++(⟨#[34]⟩:ByteArray)))=_
  rw[YX,YY];rfl
 ·have q:=kL;have B:=uG;have m:=lX;have A:=gP;have d:cF (aT l)=[91]++eU (l.map cF)++[93]:=by rw[iU];rfl
  have C:=uE l λa _=>xR a
  rw[iX] at j;have p:=aB (LO F k g x c l w z y f o_ o_)
  have D:(bs (eU (l.map cF))).size=(eU (l.map cF)).length:=gJ _;rw[d];generalize eU (l.map cF)=E at*;clear h g f z y;go_enter func94,ntmps94;go_wp2_with fail;refine p.out.mono ?_;rintro e r ⟨rfl,o⟩;go_wp2_with fail;go_ret;refine⟨?_,o⟩;show Ending.returned (.string (bs [91]++bs E++bs [93]))=_
  rw[iK,iK];rfl
def uZ(F:Nat->Prop):∀k,sD F k
 |0=>λv a w _ _ _ h=>by have:=sC a;omega
 |k+1=>GA F k (uZ F k)
def ZB(F:Nat->Prop)(v:Value)(a:aJ)(w:World)(h:PV F w v a)(g:∀b,F b->b<w.heap.size)(i:kI w)(j:aK a<=100000):
 Calls prog 303 #[v] w λe p=>e=.returned (.string (bs (gF a)))/\Below w.heap.size w p:=by
 have k:=aB (uZ F 100000 v a w h g i j o_)
 rcases h.cases with ⟨n,rfl,rfl,u,t⟩|⟨b,rfl,rfl⟩|⟨s,rfl,rfl⟩|⟨x,c,l,rfl,rfl,r⟩
 ·have q:=mR;have d:gF (aW n)=cF (aW n):=rfl;rw[d];generalize cF (aW n)=o at*;clear h g i j;go_enter func303,ntmps303;go_wp2_with fail;refine k.out.mono ?_;rintro e m ⟨rfl,f⟩;go_wp2_with fail;go_ret;exact⟨rfl,f⟩
 ·have q:=kM;have d:gF (bM b)=cF (bM b):=rfl;rw[d];generalize cF (bM b)=o at*;clear h g i j;go_enter func303,ntmps303;go_wp2_with fail;refine k.out.mono ?_;rintro e m ⟨rfl,f⟩;go_wp2_with fail;go_ret;exact⟨rfl,f⟩
 ·have q:=kG;have d:gF (bI s)=s:=rfl;rw[d];clear h g i j k;go_enter func303,ntmps303;go_wp2_with fail;go_ret;exact⟨rfl,eh _ _⟩
 ·have q:=lX;have d:gF (aT l)=cF (aT l):=rfl;rw[d];generalize cF (aT l)=o at*;clear h g i j r;go_enter func303,ntmps303;go_wp2_with fail;refine k.out.mono ?_;rintro e m ⟨rfl,f⟩;go_wp2_with fail;go_ret;exact⟨rfl,f⟩
def L5(F:Nat->Prop)(v:Value)(a:aJ)(w:World)(h:PV F w v a)(i:bN a)(k:aK a<=1000000):Calls prog 317 #[v] w (eO F w (eD a)):=by
 rcases h.cases with ⟨m,rfl,rfl,B,A⟩|⟨b,rfl,rfl⟩|⟨s,rfl,rfl⟩|⟨x,c,l,rfl,rfl,y⟩
 ·have q:=jC;have o:=mR;have d:eD (aW m)=(bL,2):=rfl;rw[d];clear h i k;go_enter func317,ntmps317;go_wp2_with fail;exact⟨rfl,eO.stop (eh _ _) rfl d_⟩
 ·have q:=gQ;have o:=kM;have d:eD (bM b)=(bL,2):=rfl;rw[d];clear h i k;go_enter func317,ntmps317;go_wp2_with fail;exact⟨rfl,eO.stop (eh _ _) rfl d_⟩
 ·have q:=kK;have o:=kG;have t:cP s:=i.txt;have d:eD (bI s)=(aW (dW s).length,0):=rfl;have C:(bs s).size=s.length:=gJ s;rw[kT] at k;have g:=tB s
  have f:Lib.runeCount (bs s)=(dW s).length:=by
   unfold Lib.runeCount;have n:(bs s).data.toList=s:=by simp[jR]
   rw[yQ (bs s) (bs s).size 0 o_ (by rw[n];exact t),n];rfl
  have p:=aB (utf8_RuneCountInString (bs s) w o_)
  rw[f] at p;rw[d];clear h i f;go_enter func317,ntmps317;go_wp2_with fail;refine p.out.mono ?_;rintro e r ⟨rfl,z,j⟩;have u:Below w.heap.size w r:=by rw[j];exact(eh _ w).alloc (d7 _) _
  clear j;go_wp2_with fail;go_ret;exact eO.ok u rfl (PV.num _ _ _ o_ o_)
 ·have q:=gP;have d:eD (aT l)=(aW l.length,0):=rfl;have g:=jO l;rw[iX] at k;rw[d];clear h i y;go_enter func317,ntmps317;go_wp2_with fail;go_ret;exact eO.ok (eh _ _) rfl (PV.num _ _ _ o_ o_)
def M0(F:Nat->Prop)(x:Option Addr)(c:Nat)(l:List aJ)(v:Value)(b:aJ)(w:World)(s:PVs F w (.slice x l.length c) l)(o:PV F w v b)(N:l.length<=1000000):Calls prog 291 #[.iface 233 (.slice x l.length c),v] w (eO F w (dB (aT l) b)):=by
 have q:=gP;have B:=aB (tT F v b l.length w o o_)
 obtain⟨t,z,rfl⟩:=o.form;have A:=aB s
 have y:dB (aT l) b=if b.sort≠0 then (bL,2) else if b.n<0\/(l.length:Int)<=b.n then (bL,4) else (l.getD b.n.toNat bL,0):=by
  simp[dB,jL,aT]
 have j:=aB y;generalize dB (aT l) b=r at j;clear o s y;go_enter func291,ntmps291;go_wp2_with fail;refine B.out.mono ?_;rintro e G ⟨rfl,⟨f,rfl⟩|⟨f,i,rfl⟩|⟨f,k,i,D,rfl⟩⟩
 ·go_wp2_with fail;exact⟨rfl,eO.stop (eh _ _) (j.out.trans (if_pos f)) d_⟩
 ·go_wp2_with fail;exact⟨rfl,eO.stop (eh _ _) (j.out.trans ((if_neg (λh=>h f)).trans (if_pos i))) d_⟩
 ·obtain⟨g,u,rfl,_,L,J,p,m,n⟩:=A.out.get k i;obtain⟨H,I,rfl⟩:=n.form;have E:=aB n;have d:l.getD b.n.toNat bL=l[k]:=by rw[D];simp[i]
  have a:r=(l[k],0):=by rw[j.out,if_neg (λh=>h f),if_neg o_,d]
  have HRes:=aB a;have M:(0:Int)<=(k:Int):=o_
  have K:(k:Int)<(l.length:Int):=o_
  clear n d a A B;go_wp2_with fail;go_ret;exact eO.ok (eh _ _) HRes.out (E.out.mono λk C=>d6 C)
def E8(r:Nat)(W:World):(convert 21 232 (.int .i32 (r:Int))).run prog W=.ok (.string (bs (DW r))) W:=by
 have a:Utf8.encode (Int.ofNat r)=bs (DW r):=by
  have:∀x:ByteArray,x=bs x.data.toList:=λx=>by cases x;simp[bs]
  exact this _
 rw[Int.ofNat_eq_natCast] at a;simp[convert,run_underlying underlying21,run_underlying underlying232,Conv.intToString,a]
def W8(F:Nat->Prop)(s:List UInt8)(v:Value)(b:aJ)(w:World)(H:PV F w v b)(O:cP s)(hc:s.length<=1000000)(T:∀k,F k->k<w.heap.size):Calls prog 291 #[.iface 232 (.string (bs s)),v] w (eO F w (dB (bI s) b)):=by
 have q:=kK;have q':=kG;have hs:(bs s).size=s.length:=gJ s;have B:(bs s).data.toList=s:=by simp[jR]
 obtain⟨c,C,l,r3,j⟩:=yC (bs s) (bs s).size 0 #[] o_ (by rw[B];exact O)
 rw[jm,B] at l j;have i:(Conv.runesFrom (bs s) (bs s).size 0 #[]).size=c.length:=by rw[C];simp
 have I:=tB s;have a:=run_runes_of_string (P:=prog) w 232 406 21 (bs s) underlying232 underlying406 underlying21 (by rw[i];omega)
 rw[i,C] at a;generalize grownCap w c.length 0 21=Y at a;generalize n:(Obj.cells ((#[]++(c.map λr=>Value.int .i32 (Int.ofNat r)).toArray)++Array.replicate (Y-c.length) (.int .i32 0)) 21)=y at a
 have d:∀k (h:k<c.length),(w.drew.alloc y).cell? ⟨w.heap.size,k,none⟩=some (.int .i32 ((c[k]:Nat):Int)):=λk h=>by
  rw[<-n];refine aA (aS _ _ rfl _) ?_;rw[Array.getElem?_append_left (by simpa using h)]
  simp[h]
 have D:Below w.heap.size w (w.drew.alloc y):=((eh _ w).drew).alloc (d7 _) _;have J:=aB (tT F v b c.length (w.drew.alloc y) (H.keep λk S=>D.block k (T k S)) o_)
 obtain⟨t,z,rfl⟩:=H.form
 have L:dB (bI s) b=if b.sort≠0 then (bL,2) else if b.n<0\/(c.length:Int)<=b.n then (bL,4) else (((dW s).map bI).getD b.n.toNat bL,0):=by
  rw[l];simp[dB,jL,bI]
 have A:=aB L;have M:c.length<=1000000:=o_
 have Q:=aB l;have W:=aB j;have G:=aB d;have x:=aB D;generalize dB (bI s) b=r at A;generalize p:w.drew.alloc y=N at a J G x;have K:w.heap.size<N.heap.size:=by rw[<-p];simp
 clear H L d D p n C i B l j I;go_enter func291,ntmps291;go_wp2_with fail;refine J.out.mono ?_;rintro e Z ⟨rfl,⟨o,rfl⟩|⟨o,u,rfl⟩|⟨o,k,u,V,rfl⟩⟩
 ·go_wp2_with fail;exact⟨rfl,eO.stop x.out (A.out.trans (if_pos o)) d_⟩
 ·go_wp2_with fail;exact⟨rfl,eO.stop x.out (A.out.trans ((if_neg (λh=>h o)).trans (if_pos u))) d_⟩
 ·have U:=G.out k u;have l:=Q.out;have j:=W.out
  have m:DW c[k]=(dW s)[k]'(by omega):=by
   have:(c.map DW)[k]?=(dW s)[k]?:=by rw[j]
   rw[ix,fg u,fg o_] at this
   simpa using this
  have g:((dW s).map bI).getD b.n.toNat bL=bI (DW c[k]):=by
   rw[m,V];have E:k<(dW s).length:=o_
   simp[E]
  have f:r=(bI (DW c[k]),0):=by rw[A.out,if_neg (λh=>h o),if_neg o_,g]
  have X:=E8 c[k] Z;have HRes:=aB f;have e1:(0:Int)<=(k:Int):=o_
  have e2:(k:Int)<(c.length:Int):=o_
  clear g f m J G l j;generalize c[k]=rk at*;go_wp2_with fail;go_ret;exact eO.ok x.out HRes.out (PV.str _ _ _)
def W9(F:Nat->Prop)(u v:Value)(a b:aJ)(w:World)(j:PV F w u a)(d:PV F w v b)(g:bN a)(f:aK a<=1000000)(i:∀k,F k->k<w.heap.size):Calls prog 291 #[u,v] w (eO F w (dB a b)):=by
 rcases j.cases with ⟨m,rfl,rfl,r,p⟩|⟨x,rfl,rfl⟩|⟨s,rfl,rfl⟩|⟨x,c,l,rfl,rfl,n⟩
 ·have q:=jC;have o:=mR;have e:dB (aW m) b=(bL,2):=by simp[dB,aW]
  rw[e];obtain⟨t,z,rfl⟩:=d.form;clear j d g f i e;go_enter func291,ntmps291;go_wp2_with fail;exact⟨rfl,eO.stop (eh _ _) rfl d_⟩
 ·have q:=gQ;have o:=kM;have e:dB (bM x) b=(bL,2):=by simp[dB,bM]
  rw[e];obtain⟨t,z,rfl⟩:=d.form;clear j d g f i e;go_enter func291,ntmps291;go_wp2_with fail;exact⟨rfl,eO.stop (eh _ _) rfl d_⟩
 ·rw[kT] at f;exact W8 F s v b w d g.txt o_ i
 ·rw[iX] at f;have:=jO l;exact M0 F x c l v b w n d o_
def WA(n m:Int)(w:World):(binOp .eql 180 (.iface 229 (.int .i64 n)) (.iface 229 (.int .i64 m))).run prog w=.ok (.bool (n==m)) w:=k_
def MK(n m:Bool)(w:World):(binOp .eql 180 (.iface 230 (.bool n)) (.iface 230 (.bool m))).run prog w=.ok (.bool (n==m)) w:=k_
def RB(n m:ByteArray)(w:World):(binOp .eql 180 (.iface 232 (.string n)) (.iface 232 (.string m))).run prog w=.ok (.bool (n==m)) w:=k_
def VX(a b:List UInt8)(w:World):(binOp .eql 180 (.iface 232 (.string (bs a))) (.iface 232 (.string (bs b)))).run prog w=.ok (.bool (a==b)) w:=by
 rw[RB];have h:(bs a==bs b)=((bs a).data==(bs b).data):=rfl;rw[h];simp[bs]
def RF(u v:Value)(w:World):(binOp .eql 180 (.iface 229 u) (.iface 230 v)).run prog w=.ok (.bool false) w:=k_
def VZ(u v:Value)(w:World):(binOp .eql 180 (.iface 229 u) (.iface 232 v)).run prog w=.ok (.bool false) w:=k_
def RE(u v:Value)(w:World):(binOp .eql 180 (.iface 229 u) (.iface 233 v)).run prog w=.ok (.bool false) w:=k_
def RH(u v:Value)(w:World):(binOp .eql 180 (.iface 230 u) (.iface 229 v)).run prog w=.ok (.bool false) w:=k_
def RG(u v:Value)(w:World):(binOp .eql 180 (.iface 230 u) (.iface 232 v)).run prog w=.ok (.bool false) w:=k_
def MJ(u v:Value)(w:World):(binOp .eql 180 (.iface 230 u) (.iface 233 v)).run prog w=.ok (.bool false) w:=k_
def VY(u v:Value)(w:World):(binOp .eql 180 (.iface 232 u) (.iface 229 v)).run prog w=.ok (.bool false) w:=k_
def RD(u v:Value)(w:World):(binOp .eql 180 (.iface 232 u) (.iface 230 v)).run prog w=.ok (.bool false) w:=k_
def RC(u v:Value)(w:World):(binOp .eql 180 (.iface 232 u) (.iface 233 v)).run prog w=.ok (.bool false) w:=k_
def mV(h:a=b):cG a b=true:=(yB a b).2 h
def dN(h:a≠b):cG a b=false:=by
 cases c:cG a b
 ·rfl
 ·exact absurd ((yB a b).1 c) h
def AX:aT l=aT m↔l=m:=by simp[aT]
def AT(F:Nat->Prop)(k:Nat):Prop:=∀(u v:Value) (a b:aJ) (w:World),PV F w u a->PV F w v b->aK a<=k->k<=1000000000->aK b<=1000000000->
 Calls prog 307 #[u,v] w λe w'=>w'=w/\e=.returned (.bool (cG a b))
def DC(F:Nat->Prop)(k:Nat)(P:AT F k)(x y:Option Addr)(c d:Nat)(l m:List aJ)(w:World)(O:PVs F w (.slice x l.length c) l)(E:PVs F w (.slice y m.length d) m)(hc:aK (aT l)<=k+1)(hk:k<=1000000000)(W:aK (aT m)<=1000000000):
 Calls prog 311 #[.slice x l.length c,.slice y m.length d,.func (.func 307) #[] #[]] w λe Y=>Y=w/\e=.returned (.bool (cG (aT l) (aT m))):=by
 have h1:=jO l;have h2:=jO m;rw[iX] at hc W;by_cases n:l.length=m.length
 ·have J:((l.length:Int) != (l.length:Int))=false:=s_
  rw[<-n] at E ⊢
  have HL:=aB O;have HM:=aB E;have M:=aB P;have v:=aB n;clear O E P n;go_enter func311,ntmps311;go_wp2_with fail;go_loopg [6,7,8,9,17] l.length (λgk _ _ _ _ i wr=>∃j:Nat,j+gk=l.length/\i=.int .i64 j/\wr=w/\Hid (l.take j=m.take j))
  case atStart=>exact⟨0,o_,rfl,rfl,by simp[Hid]⟩
  case round=>
   obtain⟨j,hj,rfl,rfl,I⟩:=hrel;by_cases o:j<l.length
   ·obtain⟨q,rfl⟩:∃q,gk=q+1:=⟨gk-1,o_⟩
    obtain⟨g,u,rfl,hn,hF,hg,V,L,Q⟩:=HL.out.get j o;obtain⟨g',u',rfl,N,Z,aa,S,H,B⟩:=HM.out.get j (by rw[<-v.out];exact o)
    have K:=lS (fi o);have f:j<m.length:=by rw[<-v.out];exact o
    have D:=lS (fi f);have G:=aB (M.out u u' l[j] (m[j]'f) wr Q B o_ hk o_)
    obtain⟨t,z,rfl⟩:=Q.form;obtain⟨t',z',rfl⟩:=B.form;have A:l.take (j+1)=l.take j++[l[j]]:=gl o;have r:m.take (j+1)=m.take j++[m[j]'f]:=gl f;have s:l[j]?=some l[j]:=fg o;have C:m[j]?=some (m[j]'f):=fg f;generalize l[j]=a at*;generalize m[j]'f=b at*;clear Q B K D hn N;by_cases p:a=b
    ·rw[mV p] at G;have U:Hid (l.take (j+1)=m.take (j+1)):=by show _=_;rw[A,r,I.out,p]
     clear A r s C I p;go_wp2_with fail;refine G.out.mono ?_;rintro e X ⟨rfl,rfl⟩;go_wp2_with fail;go_roundg q
     case measure=>omega
     case rel=>exact⟨j+1,o_,by go_num,rfl,U⟩
    ·rw[dN p] at G;have T:Hid (l≠m):=by show _≠_;intro e;rw[e,C] at s;cases s;exact p rfl
     clear A r s C I p;go_wp2_with fail;refine G.out.mono ?_;rintro e X ⟨rfl,rfl⟩;go_wp2_with fail;go_ret;exact⟨rfl,by rw[dN λe=>T.out (AX.1 e)];rfl⟩
   ·have HE:Hid (l=m):=by
     show _=_
     have:=I.out;rw[gp o_,gp (by rw[<-v.out];omega)] at this
     exact this
    go_wp2_with fail;go_ret;exact⟨rfl,by rw[mV (AX.2 HE.out)];rfl⟩
 ·have J:((l.length:Int) != (m.length:Int))=true:=t_
  have T:Hid (l≠m):=by show _≠_;intro e;exact n (by rw[e])
  clear O E P;go_enter func311,ntmps311;go_wp2_with fail;go_ret;exact⟨rfl,by rw[dN λe=>T.out (AX.1 e)];rfl⟩
def PF(F:Nat->Prop)(k:Nat)(j:AT F k):AT F (k+1):=by
 intro u v a b w m g o H i;rcases m.cases with ⟨n,rfl,rfl,I,G⟩|⟨s,rfl,rfl⟩|⟨s,rfl,rfl⟩|⟨x,c,l,rfl,rfl,z⟩
 ·have q:=jC;rcases g.cases with ⟨t,rfl,rfl,_,_⟩|⟨f,rfl,rfl⟩|⟨f,rfl,rfl⟩|⟨C,B,y,rfl,rfl,_⟩
  ·have p:=WA
   have d:Hid (cG (aW n) (aW t)=(n==t)):=by
    show _=_
    by_cases e:n=t
    ·rw[mV (by rw[e]),e,beq_self_eq_true]
    ·rw[dN (by simp[aW,e]),beq_eq_false_iff_ne.2 e]
   clear m g j o i;generalize cG (aW n) (aW t)=r at*;go_enter func307,ntmps307;go_wp2_with fail;go_ret;exact⟨rfl,by rw[d.out];rfl⟩
  ·have p:=RF;have d:Hid (cG (aW n) (bM f)=false):=dN (by simp[aW,bM])
   clear m g j o i;generalize cG (aW n) (bM f)=r at*;go_enter func307,ntmps307;go_wp2_with fail;go_ret;exact⟨rfl,by rw[d.out];rfl⟩
  ·have p:=VZ;have d:Hid (cG (aW n) (bI f)=false):=dN (by simp[aW,bI])
   clear m g j o i;generalize cG (aW n) (bI f)=r at*;go_enter func307,ntmps307;go_wp2_with fail;go_ret;exact⟨rfl,by rw[d.out];rfl⟩
  ·have p:=RE;have d:Hid (cG (aW n) (aT y)=false):=dN (by simp[aW,aT])
   clear m g j o i;generalize cG (aW n) (aT y)=r at*;go_enter func307,ntmps307;go_wp2_with fail;go_ret;exact⟨rfl,by rw[d.out];rfl⟩
 ·have q:=gQ;rcases g.cases with ⟨t,rfl,rfl,_,_⟩|⟨f,rfl,rfl⟩|⟨f,rfl,rfl⟩|⟨C,B,y,rfl,rfl,_⟩
  ·have p:=RH;have d:Hid (cG (bM s) (aW t)=false):=dN (by simp[bM,aW])
   clear m g j o i;generalize cG (bM s) (aW t)=r at*;go_enter func307,ntmps307;go_wp2_with fail;go_ret;exact⟨rfl,by rw[d.out];rfl⟩
  ·have p:=MK
   have d:Hid (cG (bM s) (bM f)=(s==f)):=by
    show _=_
    cases s<;>cases f<;>first|exact mV rfl|exact dN (by simp[bM])
   clear m g j o i;generalize cG (bM s) (bM f)=r at*;go_enter func307,ntmps307;go_wp2_with fail;go_ret;exact⟨rfl,by rw[d.out];rfl⟩
  ·have p:=RG;have d:Hid (cG (bM s) (bI f)=false):=dN (by simp[bM,bI])
   clear m g j o i;generalize cG (bM s) (bI f)=r at*;go_enter func307,ntmps307;go_wp2_with fail;go_ret;exact⟨rfl,by rw[d.out];rfl⟩
  ·have p:=MJ;have d:Hid (cG (bM s) (aT y)=false):=dN (by simp[bM,aT])
   clear m g j o i;generalize cG (bM s) (aT y)=r at*;go_enter func307,ntmps307;go_wp2_with fail;go_ret;exact⟨rfl,by rw[d.out];rfl⟩
 ·have q:=kK;rcases g.cases with ⟨t,rfl,rfl,_,_⟩|⟨f,rfl,rfl⟩|⟨f,rfl,rfl⟩|⟨C,B,y,rfl,rfl,_⟩
  ·have p:=VY;have d:Hid (cG (bI s) (aW t)=false):=dN (by simp[bI,aW])
   clear m g j o i;generalize cG (bI s) (aW t)=r at*;go_enter func307,ntmps307;go_wp2_with fail;go_ret;exact⟨rfl,by rw[d.out];rfl⟩
  ·have p:=RD;have d:Hid (cG (bI s) (bM f)=false):=dN (by simp[bI,bM])
   clear m g j o i;generalize cG (bI s) (bM f)=r at*;go_enter func307,ntmps307;go_wp2_with fail;go_ret;exact⟨rfl,by rw[d.out];rfl⟩
  ·have p:=VX
   have d:Hid (cG (bI s) (bI f)=(s==f)):=by
    show _=_
    by_cases e:s=f
    ·rw[mV (by rw[e]),e,beq_self_eq_true]
    ·rw[dN (by simp[bI,e]),beq_eq_false_iff_ne.2 e]
   clear m g j o i;generalize cG (bI s) (bI f)=r at*;go_enter func307,ntmps307;go_wp2_with fail;go_ret;exact⟨rfl,by rw[d.out];rfl⟩
  ·have p:=RC;have d:Hid (cG (bI s) (aT y)=false):=dN (by simp[bI,aT])
   clear m g j o i;generalize cG (bI s) (aT y)=r at*;go_enter func307,ntmps307;go_wp2_with fail;go_ret;exact⟨rfl,by rw[d.out];rfl⟩
 ·have q:=gP;rcases g.cases with ⟨t,rfl,rfl,_,_⟩|⟨f,rfl,rfl⟩|⟨f,rfl,rfl⟩|⟨C,B,y,rfl,rfl,A⟩
  ·have p:=jC;have d:Hid (cG (aT l) (aW t)=false):=dN (by simp[aT,aW])
   clear m g z j o i;generalize cG (aT l) (aW t)=r at*;go_enter func307,ntmps307;go_wp2_with fail;go_ret;exact⟨rfl,by rw[d.out];rfl⟩
  ·have p:=gQ;have d:Hid (cG (aT l) (bM f)=false):=dN (by simp[aT,bM])
   clear m g z j o i;generalize cG (aT l) (bM f)=r at*;go_enter func307,ntmps307;go_wp2_with fail;go_ret;exact⟨rfl,by rw[d.out];rfl⟩
  ·have p:=kK;have d:Hid (cG (aT l) (bI f)=false):=dN (by simp[aT,bI])
   clear m g z j o i;generalize cG (aT l) (bI f)=r at*;go_enter func307,ntmps307;go_wp2_with fail;go_ret;exact⟨rfl,by rw[d.out];rfl⟩
  ·have D:=aB (DC F k j x C c B l y w z A o o_ i)
   clear m g z A j o i;generalize cG (aT l) (aT y)=r at*;go_enter func307,ntmps307;go_wp2_with fail;refine D.out.mono ?_;rintro e E ⟨rfl,rfl⟩;go_wp2_with fail;go_ret;exact⟨rfl,rfl⟩
def tU(F:Nat->Prop):∀k,AT F k
 |0=>λu v a b w _ _ h=>by have:=sC a;omega
 |k+1=>PF F k (tU F k)
end Go.Proofs.YthbffcmfmjpncaaGreatDoor
