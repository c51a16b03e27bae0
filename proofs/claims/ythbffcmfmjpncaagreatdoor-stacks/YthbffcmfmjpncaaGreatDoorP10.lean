/- What a program prints: the walk. -/
import Derived.Test.YthbffcmfmjpncaaGreatDoorB06
import Derived.Test.YthbffcmfmjpncaaGreatDoorP09
import Derived.Test.YthbffcmfmjpncaaGreatDoorP03
set_option linter.defProp false
set_option maxRecDepth 100000
set_option maxHeartbeats 4000000
namespace Go.Proofs.YthbffcmfmjpncaaGreatDoor
open Hs
open _root_.Go.Proofs.Tryz
open Go.RowKit
variable{xs:List Value}{l m:List aJ}{b_ k n:Nat}{F G:Nat->Prop}{u v:Value}{w w':World}{a b:aJ}{r:aJ × Nat}
def LO(w:World)(g:ByteArray)(T:Nat)(E:T<=500)(P:SV->World->Prop)(L:Nat->Nat->World->Prop)(M:Nat->World->Prop)
 (s:Hid (Calls prog 17 #[.string g,.slice none 0 0] w λe b=>∃a,e=.returned (.tuple #[.pointer (some ⟨a,0,none⟩),.int .i64 0,.int .i64 0])/\L 0 a b))
 (r:Hid (∀t a W,L t a W->Calls prog 12 #[.pointer (some ⟨a,0,none⟩)] W λe b=>(t<T/\e=.returned (.bool true)/\L (t+1) a b)\/(t=T/\e=.returned (.bool false)/\M a b)))
 (i:Hid (∀a W,M a W->Calls prog 10 #[.pointer (some ⟨a,0,none⟩)] W λe b=>∃m:SV,e=.returned m.val/\m.t=T/\m.q=1/\m.n1=0/\∀q,P m ((b.alloc (.cells m.cells 40)).drewN q))):
 Calls prog 21 #[.string g] w λe b=>∃m:SV,e=.returned (.tuple #[.slice m.x3 m.n3 m.c3,.int .i64 T,.bool true])/\P m b:=by
 go_enter func21,ntmps21;go_wp2_with fail;refine s.out.mono ?_;rintro e C ⟨a,rfl,l⟩;have A:=aB l;clear l s;go_wp2_with fail;go_loopg [8] (T+1) (λgk x wr=>∃t:Nat,x=.int .i64 t/\gk+t=T+1/\t<=T/\L t a wr)
 case atStart=>exact⟨0,rfl,o_,o_,A.out⟩
 case round=>
  obtain⟨t,rfl,z,B,p⟩:=hrel
  ·have c:=aB (r.out _ _ _ p);have F:(t:Int)<=500:=o_
   clear p r;go_wp2_with fail;refine c.out.mono ?_;rintro e G (⟨j,rfl,f⟩|⟨j,rfl,f⟩)
   ·have y:=aB f;clear f c i;go_wp2_with fail;go_roundg (gk-1)
    case measure=>omega
    case rel=>exact⟨t+1,s_,o_,o_,y.out⟩
   ·have d:=aB (i.out _ _ f);unfold SV.val SV.cells at d;clear f i c;go_wp2_with fail;refine d.out.mono ?_;rintro e D ⟨m,rfl,u,n,v,o⟩;have k:=aB o;clear o d;subst j;rw[u,n,v] at k;rw[u,n,v];go_wp2_with fail;go_quiet (fail)
    go_wp2_with fail;go_ret3
    exact⟨m,rfl,k.out _⟩
def sO(a b:List UInt8):bs a++bs b=bs (a++b):=by
 apply W5
 rw[fT,ByteArray.data_append];simp[bs]
def SB(f:Nat):∀n t,(jJ f n t).length<=t.length+f:=by
 induction f with
 |zero=>intro n t;simp[jJ]
 |succ f a=>
  intro n t;rw[jJ];split
  ·simp
  ·have:=a (n/10) (UInt8.ofNat (48+n%10)::t);rw[eo] at this;omega
def MZ(n:Int):(iO n).length<=21:=by
 unfold iO;have:=SB 20 n.natAbs [];rw[ej];split<;>simp at this ⊢<;>omega
def uO(l:List aJ)(h:∀x∈l,(cD x).length+2<=24*aK x):(fE (l.map cD)).length<=24*(l.map aK).sum:=by
 induction l with
 |nil=>simp[fE]
 |cons y r a=>
  have d:=h y s_
  have b:=a λx c=>h x (by simp[c])
  cases r with
  |nil=>simp[fE];omega
  |cons z r=>
   simp only[fe,fE,ej,ff,eo,ex] at b ⊢
   omega
def xY:∀v:aJ,(cD v).length+2<=24*aK v:=by
 refine aJ.ind λv a=>?_
 have c:=uO v.l a;have b:=MZ v.n;rw[jY,eS];split
 ·omega
 split
 ·split<;>simp<;>omega
 split
 ·simp;omega
 ·simp;omega
def ZY(s:List UInt8):(⟨#[34]⟩:ByteArray)++bs s=bs (34::s):=sO [34] s
def ZZ(s:List UInt8):bs s++(⟨#[34]⟩:ByteArray)=bs (s++[34]):=sO s [34]
def TF(n:Int):kZ n=wrap64 n:=by unfold kZ wrap64;rfl
def Hs.oneL_neg{op:List UInt8}(h:op=[45,120])(b:a.sort=0):fG op a=(bC (wrap64 (-a.n)),0):=by
 rw[<-TF];unfold fG;rw[if_pos ⟨h,b⟩]
def YW(n:Int)(a: -9223372036854775808<=n)(b:n<=9223372036854775807):kZ n=n:=by unfold kZ;omega
def N1(x y:Int)(b: -9223372036854775808<=x)(a:x<=9223372036854775807): -9223372036854775808<=x.tmod y/\x.tmod y<=9223372036854775807:=by
 have h:(x.tmod y).natAbs=x.natAbs%y.natAbs:=Int.natAbs_tmod x y;have d:x.natAbs%y.natAbs<=x.natAbs:=Nat.mod_le _ _;by_cases c:0<=x
 ·have:=Int.tmod_nonneg y c;omega
 ·have:x.tmod y<=0:=by
   have:=Int.tmod_nonneg y (show 0<= -x by omega)
   rw[Int.neg_tmod] at this;omega
  omega
def Grow(F:Nat->Prop)(w w':World)(b:Nat):Prop:=F b\/(w.heap.size<=b/\b<w'.heap.size)
def Grow.old{b:Nat}(h:F b):Grow F w w' b:=d7 h
def Grow.lt(c:∀b,F b->b<w.heap.size)(a:w.heap.size<=w'.heap.size):∀b,Grow F w w' b->b<w'.heap.size:=λb h=>by
 rcases h with h|h
 ·exact el (c b h) a
 ·exact h.2
def uP:∀l m:List UInt8,Op.bytesLess l m=fZ l m
 |[],[]=>rfl
 |[],_::_=>rfl
 |_::_,[]=>rfl
 |a::l,b::m=>by
  rw[Op.bytesLess,fZ,uP l m];by_cases c:a.toNat<b.toNat
  ·rw[if_pos c,decide_eq_true (UInt8.lt_iff_toNat_lt.2 c),Bool.true_or]
  ·rw[if_neg c,decide_eq_false (λh=>c (UInt8.lt_iff_toNat_lt.1 h)),Bool.false_or]
   by_cases d:b.toNat<a.toNat
   ·rw[if_pos d,beq_eq_false_iff_ne.2 (λe=>by rw[e] at d;omega),Bool.false_and]
   ·rw[if_neg d,show a=b from jj.1 o_,beq_self_eq_true,Bool.true_and]
def JY:∀l m:List UInt8,(fZ l m || l==m)= !fZ m l
 |[],[]=>rfl
 |[],_::_=>rfl
 |_::_,[]=>rfl
 |a::l,b::m=>by
  rw[fZ,fZ];by_cases d:a.toNat<b.toNat
  ·rw[if_pos d,if_neg o_,if_pos d];rfl
  ·by_cases c:b.toNat<a.toNat
   ·rw[if_neg d,if_pos c,if_pos c];have:(a::l==b::m)=false:=beq_eq_false_iff_ne.2 (λe=>by rw[List.cons.injEq] at e;rw[e.1] at c;omega)
    rw[this];rfl
   ·rw[if_neg d,if_neg c,if_neg c,if_neg d,<-JY l m,show a=b from jj.1 o_]
    simp
abbrev fI(k:Nat):Ending:=.panicked [{ v:=.iface 245 (.int .i64 k),recovered:=false }]
def VLr(R:Value->aJ->Prop)(F:Nat->Prop)(w:World)(sv:Value)(l:List aJ):Prop:=
 (l=[]/\sv=.slice none 0 0)\/
 ∃g cap cur,sv=.slice (some ⟨g,0,none⟩) l.length cap/\F g/\w.heap[g]?=some (.cells cur 180 (0,0))/\l.length<=cap/\∀i (h:i<l.length),∃u,cur[i]?=some u/\R u l[i]
def VR:Nat->(Nat->Prop)->World->Value->aJ->Prop
 |0,_,_,_,_=>False
 |d+1,F,w,v,a=>
  (∃n,v=.iface 229 (.int .i64 n)/\a=bC n/\ -9223372036854775808<=n/\n<=9223372036854775807)\/
  (∃b,v=.iface 230 (.bool b)/\a=bO b)\/
  (∃s,v=.iface 232 (.string (bs s))/\a=bK s)\/
  (∃sv l,v=.iface 233 sv/\a=aY l/\VLr (VR d F w) F w sv l)
def VLr.mono{R S:Value->aJ->Prop}{e:Value}(h:VLr R F w e l)(s:∀v a,R v a->S v a)(o:∀b,F b->G b):VLr S G w e l:=by
 rcases h with h|⟨g,c,d,m,j,p,k,n⟩
 ·exact d7 h
 ·refine d6 ⟨g,c,d,m,o _ j,p,k,λi q=>?_⟩
  obtain⟨u,f,r⟩:=n i q;exact⟨u,f,s _ _ r⟩
def VLr.keep{R:Value->aJ->Prop}{e:Value}(h:VLr R F w e l)(f:∀b,F b->w'.heap[b]?=w.heap[b]?):VLr R F w' e l:=by
 rcases h with h|⟨g,c,a,j,d,m,i,k⟩
 ·exact d7 h
 ·exact d6 ⟨g,c,a,j,d,by rw[f g d];exact m,i,k⟩
def VR.mono(c:∀b,F b->G b):∀{d e:Nat} {v:Value} {a:aJ},VR d F w v a->d<=e->VR e G w v a
 |0,_,_,_,h,_=>h.elim
 |d+1,0,_,_,_,h=>by omega
 |d+1,e+1,v,a,h,f=>by
  rcases h with h|h|h|⟨i,l,j,g,k⟩
  ·exact d7 h
  ·exact d6 (d7 h)
  ·exact d6 (d6 (d7 h))
  ·exact d6 (d6 (d6 ⟨i,l,j,g,k.mono (λ_ _ h=>VR.mono c h o_) c⟩))
def VR.keep(c:∀b,F b->w'.heap[b]?=w.heap[b]?):∀{d:Nat} {v:Value} {a:aJ},VR d F w v a->VR d F w' v a
 |0,_,_,h=>h.elim
 |d+1,v,a,h=>by
  rcases h with h|h|h|⟨f,l,g,e,i⟩
  ·exact d7 h
  ·exact d6 (d7 h)
  ·exact d6 (d6 (d7 h))
  ·exact d6 (d6 (d6 ⟨f,l,g,e,(i.mono (λ_ _ h=>VR.keep c h) (λ_ h=>h)).keep c⟩))
def PV(F:Nat->Prop)(w:World)(v:Value)(a:aJ):Prop:=∃d,VR d F w v a
def PV.mono(h:PV F w v a)(c:∀b,F b->G b):PV G w v a:=by
 obtain⟨d,h⟩:=h;exact⟨d,h.mono c (eh _)⟩
def PV.keep(h:PV F w v a)(c:∀b,F b->w'.heap[b]?=w.heap[b]?):PV F w' v a:=by
 obtain⟨d,h⟩:=h;exact⟨d,h.keep c⟩
def PV.num(F:Nat->Prop)(w:World)(n:Int)(b: -9223372036854775808<=n)(a:n<=9223372036854775807):PV F w (.iface 229 (.int .i64 n)) (bC n):=⟨1,d7 ⟨n,rfl,rfl,b,a⟩⟩
def PV.tru(F:Nat->Prop)(w:World)(b:Bool):PV F w (.iface 230 (.bool b)) (bO b):=⟨1,d6 (d7 ⟨b,rfl,rfl⟩)⟩
def PV.str(F:Nat->Prop)(w:World)(s:List UInt8):PV F w (.iface 232 (.string (bs s))) (bK s):=⟨1,d6 (d6 (d7 ⟨s,rfl,rfl⟩))⟩
def PVs(F:Nat->Prop)(w:World)(sv:Value)(l:List aJ):Prop:=VLr (PV F w) F w sv l
def SD{F:Nat->Prop}{w:World}{cur:Array Value}:∀(l:List aJ) (o:Nat),(∀i (h:i<l.length),∃u,cur[o+i]?=some u/\PV F w u l[i])->∃d,∀i (h:i<l.length),∃u,cur[o+i]?=some u/\VR d F w u l[i]
 |[],_,_=>⟨0,λi h=>by simp at h⟩
 |a::l,o,h=>by
  obtain⟨u,m,d,f⟩:=h 0 s_
  obtain⟨e,g⟩:=SD (F:=F) (w:=w) (cur:=cur) l (o+1) λi b=>by
   have:=h (i+1) (by simpa using b)
   rw[show o+1+i=o+(i+1) by omega]
   simpa using this
  refine⟨max d e,λi b=>?_⟩
  cases i with
  |zero=>exact⟨u,m,f.mono (λ_ h=>h) (Nat.le_max_left _ _)⟩
  |succ i=>
   obtain⟨j,c,k⟩:=g i (by simpa using b)
   rw[show o+1+i=o+(i+1) by omega] at c
   exact⟨j,c,k.mono (λ_ h=>h) (Nat.le_max_right _ _)⟩
def PV.lst{b:Value}(h:PVs F w b l):PV F w (.iface 233 b) (aY l):=by
 rcases h with h|⟨g,c,a,j,f,m,i,k⟩
 ·exact⟨1,d6 (d6 (d6 ⟨b,l,rfl,rfl,d7 h⟩))⟩
 ·obtain⟨d,e⟩:=SD (cur:=a) l 0 (by simpa using k)
  exact⟨d+1,d6 (d6 (d6 ⟨b,l,rfl,rfl,d6 ⟨g,c,a,j,f,m,i,by simpa using e⟩⟩))⟩
def PV.cases(h:PV F w v a):
 (∃n,v=.iface 229 (.int .i64 n)/\a=bC n/\ -9223372036854775808<=n/\n<=9223372036854775807)\/
 (∃b,v=.iface 230 (.bool b)/\a=bO b)\/
 (∃s,v=.iface 232 (.string (bs s))/\a=bK s)\/
 (∃x c l,v=.iface 233 (.slice x l.length c)/\a=aY l/\PVs F w (.slice x l.length c) l):=by
 obtain⟨d,h⟩:=h;cases d with
 |zero=>exact h.elim
 |succ d=>
  rcases h with h|h|h|⟨o,l,i,e,j⟩
  ·exact d7 h
  ·exact d6 (d7 h)
  ·exact d6 (d6 (d7 h))
  ·refine d6 (d6 (d6 ?_));have f:PVs F w o l:=j.mono (λ_ _ h=>⟨d,h⟩) (λ_ h=>h)
   rcases j with ⟨rfl,rfl⟩|⟨g,k,m,rfl,_⟩
   ·exact⟨none,0,[],i,e,f⟩
   ·exact⟨_,_,l,i,e,f⟩
def pE(F:Nat->Prop)(v:Value)(a:aJ)(w:World)(h:PV F w v a):
 Calls prog 295 #[v] w λe d=>d=w/\((a.sort=1/\e=.returned (.bool (decide (a.n=1))))\/(a.sort≠1/\e=fI 2)):=by
 rcases h.cases with ⟨n,rfl,rfl,_,_⟩|⟨b,rfl,rfl⟩|⟨s,rfl,rfl⟩|⟨x,c,l,rfl,rfl,_⟩
 ·clear h;have q:=OA;go_enter func295,ntmps295;go_wp2_with fail;exact⟨rfl,rfl,d6 ⟨by simp[bC],rfl⟩⟩
 ·clear h;have q:=uS;go_enter func295,ntmps295;go_wp2_with fail;go_ret;exact⟨rfl,d7 ⟨rfl,by cases b<;>rfl⟩⟩
 ·clear h;have q:=xZ;go_enter func295,ntmps295;go_wp2_with fail;exact⟨rfl,rfl,d6 ⟨by simp[bK],rfl⟩⟩
 ·clear h;have q:=uR;go_enter func295,ntmps295;go_wp2_with fail;exact⟨rfl,rfl,d6 ⟨by simp[aY],rfl⟩⟩
def lJ(F:Nat->Prop)(w:World)(r:aJ × Nat)(e:Ending)(w':World):Prop:=w'=w/\((r.2=0/\∃u,e=.returned u/\PV F w u r.1)\/(r.2≠0/\e=fI r.2))
def lJ.ok(b:r=(a,0))(h:PV F w u a):lJ F w r (.returned u) w:=by subst b;exact⟨rfl,d7 ⟨rfl,u,rfl,h⟩⟩
def lJ.stop(c:r=(a,k))(b:k≠0):lJ F w r (fI k) w:=by subst c;exact⟨rfl,d6 ⟨b,rfl⟩⟩
def XP(n:Int): -9223372036854775808<=kZ n/\kZ n<=9223372036854775807:=by unfold kZ;omega
def PV.wrap(F:Nat->Prop)(w:World)(n:Int):PV F w (.iface 229 (.int .i64 (wrap64 n))) (bC (kZ n)):=by
 rw[<-TF];exact PV.num F w _ (XP n).1 (XP n).2
def B0(op:List UInt8)(F:Nat->Prop)(x y:Int)(w:World)(t: -9223372036854775808<=x)(s:x<=9223372036854775807)(z: -9223372036854775808<=y)(A:y<=9223372036854775807):
 Calls prog 308 #[.string (bs op),.int .i64 x,.int .i64 y] w (lJ F w (jG op x y)):=by
 have a:=cC op;obtain⟨r,b⟩:=E_ (jG op x y);rw[<-b];unfold jG at b;by_cases n:op=[43]
 ·rw[if_pos n] at b;have f:((bs op).toList==[60])=false:=by rw[a,n];rfl
  have g:((bs op).toList==[60,61])=false:=by rw[a,n];rfl
  have e:((bs op).toList==[43])=true:=by rw[a,n];rfl
  have d:((bs op).toList==[45])=false:=by rw[a,n];rfl
  have c:((bs op).toList==[42])=false:=by rw[a,n];rfl
  have i:=aB b;clear a b n;go_enter func308,ntmps308;go_wp2_with fail;go_ret;exact lJ.ok i.out (PV.wrap F w (x+y))
 rw[if_neg n] at b;have e:((bs op).toList==[43])=false:=by rw[a];simpa using n
 clear n;by_cases k:op=[45]
 ·rw[if_pos k] at b;have f:((bs op).toList==[60])=false:=by rw[a,k];rfl
  have g:((bs op).toList==[60,61])=false:=by rw[a,k];rfl
  have e:((bs op).toList==[43])=false:=by rw[a,k];rfl
  have d:((bs op).toList==[45])=true:=by rw[a,k];rfl
  have c:((bs op).toList==[42])=false:=by rw[a,k];rfl
  have i:=aB b;clear a b k;go_enter func308,ntmps308;go_wp2_with fail;go_ret;exact lJ.ok i.out (PV.wrap F w (x-y))
 rw[if_neg k] at b;have d:((bs op).toList==[45])=false:=by rw[a];simpa using k
 clear k;by_cases j:op=[42]
 ·rw[if_pos j] at b;have f:((bs op).toList==[60])=false:=by rw[a,j];rfl
  have g:((bs op).toList==[60,61])=false:=by rw[a,j];rfl
  have e:((bs op).toList==[43])=false:=by rw[a,j];rfl
  have d:((bs op).toList==[45])=false:=by rw[a,j];rfl
  have c:((bs op).toList==[42])=true:=by rw[a,j];rfl
  have i:=aB b;clear a b j;go_enter func308,ntmps308;go_wp2_with fail;go_ret;exact lJ.ok i.out (PV.wrap F w (x*y))
 rw[if_neg j] at b;have c:((bs op).toList==[42])=false:=by rw[a];simpa using j
 clear j;by_cases l:op=[60]
 ·rw[if_pos l] at b;have f:((bs op).toList==[60])=true:=by rw[a,l];rfl
  have g:((bs op).toList==[60,61])=false:=by rw[a,l];rfl
  have e:((bs op).toList==[43])=false:=by rw[a,l];rfl
  have d:((bs op).toList==[45])=false:=by rw[a,l];rfl
  have c:((bs op).toList==[42])=false:=by rw[a,l];rfl
  have i:=aB b;clear a b l;go_enter func308,ntmps308;go_wp2_with fail;go_ret;exact lJ.ok i.out (PV.tru F w (decide (x<y)))
 rw[if_neg l] at b;have f:((bs op).toList==[60])=false:=by rw[a];simpa using l
 clear l;by_cases m:op=[60,61]
 ·rw[if_pos m] at b;have f:((bs op).toList==[60])=false:=by rw[a,m];rfl
  have g:((bs op).toList==[60,61])=true:=by rw[a,m];rfl
  have e:((bs op).toList==[43])=false:=by rw[a,m];rfl
  have d:((bs op).toList==[45])=false:=by rw[a,m];rfl
  have c:((bs op).toList==[42])=false:=by rw[a,m];rfl
  have i:=aB b;clear a b m;go_enter func308,ntmps308;go_wp2_with fail;go_ret;exact lJ.ok i.out (PV.tru F w (decide (x<=y)))
 rw[if_neg m] at b;have g:((bs op).toList==[60,61])=false:=by rw[a];simpa using m
 clear m;by_cases p:y=0
 ·rw[if_pos p] at b;subst p;have i:=aB b;clear a b;go_enter func308,ntmps308;go_wp2_with fail;exact⟨rfl,lJ.stop i.out d_⟩
 rw[if_neg p] at b;have B:(y==0)=false:=by simpa using p
 by_cases o:op=[47]
 ·rw[if_pos o] at b;have v:((bs op).toList==[47])=true:=by rw[a,o];rfl
  have i:=aB b;clear a b o;go_enter func308,ntmps308;go_wp2_with fail;go_ret;exact lJ.ok i.out (PV.wrap F w (x.tdiv y))
 ·rw[if_neg o] at b;have v:((bs op).toList==[47])=false:=by rw[a];simpa using o
  have q:=N1 x y t s;rw[YW _ q.1 q.2] at b;have i:=aB b;have u:=aB q;clear a b o q;go_enter func308,ntmps308;go_wp2_with fail;go_ret;exact lJ.ok i.out (PV.num F w (x.tmod y) u.out.1 u.out.2)
def DB(o:UInt8)(z:o=45\/o=33)(F:Nat->Prop)(v:Value)(a:aJ)(w:World)(h:PV F w v a):
 Calls prog 294 #[.string (bs [o]),v] w (lJ F w (fG [o,120] a)):=by
 rcases z with rfl|rfl
 ·have A:((bs [45]).toList==[33])=false:=by rw[cC];rfl
  rcases h.cases with ⟨n,rfl,rfl,D,C⟩|⟨b,rfl,rfl⟩|⟨s,rfl,rfl⟩|⟨x,c,l,rfl,rfl,_⟩
  ·have p:=aB (Hs.oneL_neg (op:=[45,120]) (a:=bC n) rfl rfl);have q:=lN;clear h;generalize fG [45,120] (bC n)=r at*;go_enter func294,ntmps294;go_wp2_with fail;go_ret;exact lJ.ok p.out (by have i:=PV.wrap F w (-n);rw[TF] at i;exact i)
  ·have q:=kQ;clear h;go_enter func294,ntmps294;go_wp2_with fail;exact⟨rfl,lJ.stop (a:=bN) (by unfold fG;simp[bO]) d_⟩
  ·have q:=lM;clear h;go_enter func294,ntmps294;go_wp2_with fail;exact⟨rfl,lJ.stop (a:=bN) (by unfold fG;simp[bK]) d_⟩
  ·have q:=kO;clear h;go_enter func294,ntmps294;go_wp2_with fail;exact⟨rfl,lJ.stop (a:=bN) (by unfold fG;simp[aY]) d_⟩
 ·have A:((bs [33]).toList==[33])=true:=by rw[cC];rfl
  have B:=aB (pE F v a w h);obtain⟨r,j⟩:=E_ (fG [33,120] a);rw[<-j];have k:=aB j
  have d:∃t u,v=.iface t u:=by
   rcases h.cases with ⟨n,rfl,_⟩|⟨b,rfl,_⟩|⟨s,rfl,_⟩|⟨x,c,l,rfl,_⟩<;>exact⟨_,_,rfl⟩
  obtain⟨t,u,rfl⟩:=d;have y:=aB h.cases;clear h j;go_enter func294,ntmps294;go_wp2_with fail;refine B.out.mono ?_;rintro e m ⟨rfl,⟨g,rfl⟩|⟨g,rfl⟩⟩
  ·have f:=aB g;clear g;go_wp2_with fail;go_ret;refine lJ.ok (a:=bO (!decide (a.n=1))) ?_ (PV.tru F m (!decide (a.n=1)));rw[k.out];unfold fG;rw[if_neg s_,if_pos ⟨rfl,f.out⟩]
   rcases y.out with ⟨n,_,rfl,_⟩|⟨b,_,rfl⟩|⟨s,_,rfl⟩|⟨x,c,l,_,rfl,_⟩
   ·have:=f.out;simp[bC] at this
   ·cases b<;>rfl
   ·have:=f.out;simp[bK] at this
   ·have:=f.out;simp[aY] at this
  ·have f:=aB g;clear g;go_wp2_with fail;exact⟨rfl,lJ.stop (a:=bN) (by rw[k.out];unfold fG;rw[if_neg s_,if_neg (λi=>f.out i.2)]) d_⟩
def PVs.get{x:Option Addr}{c:Nat}(h:PVs F w (.slice x n c) l)(i:Nat)(b:i<l.length):∃g u,x=some ⟨g,0,none⟩/\n=l.length/\F g/\g<w.heap.size/\l.length<=c/\w.cell? ⟨g,i,none⟩=some u/\PV F w u l[i]:=by
 rcases h with ⟨rfl,_⟩|⟨g,k,o,j,e,a,f,m⟩
 ·simp at b
 ·cases j;obtain⟨u,d,p⟩:=m i b;exact⟨g,u,rfl,rfl,e,aD a,f,aA a d,p⟩
def PV.form(h:PV F w v a):∃t u,v=.iface t u:=by
 rcases h.cases with ⟨n,rfl,_⟩|⟨b,rfl,_⟩|⟨s,rfl,_⟩|⟨x,c,l,rfl,_⟩<;>exact⟨_,_,rfl⟩
def PVs.keep{c:Value}(h:PVs F w c l)(a:∀b,F b->w'.heap[b]?=w.heap[b]?):PVs F w' c l:=(VLr.mono h (λ_ _ h=>h.keep a) (λ_ h=>h)).keep a
def PVs.mono{a:Value}(h:PVs F w a l)(c:∀b,F b->G b):PVs G w a l:=VLr.mono h (λ_ _ h=>h.mono c) c
def J7(n:Int):aK (bC n)=1:=by rw[eS];simp[bC]
def J5(b:Bool):aK (bO b)=1:=by rw[eS];simp[bO]
def kW(s:List UInt8):aK (bK s)=1+s.length:=by rw[eS];simp[bK]
def iW(l:List aJ):aK (aY l)=1+(l.map aK).sum:=by rw[eS];simp[aY]
def lW(h:a∈l):aK a<=(l.map aK).sum:=by
 induction l with
 |nil=>cases h
 |cons x l b=>
  simp only[fe,ff];rcases ep.1 h with rfl|h
  ·omega
  ·have:=b h;omega
def sM(a:aJ):1<=aK a:=by rw[eS];omega
def jP(l:List aJ):l.length<=(l.map aK).sum:=by
 induction l with
 |nil=>simp
 |cons x l a=>simp only[fe,ff,eo];have:=sM x;omega
def NR(F:Nat->Prop)(k:Nat):Prop:=∀(v:Value) (a:aJ) (w:World),PV F w v a->aK a<=k->k<=1000000000->Calls prog 289 #[v] w λe w'=>w'=w/\e=.returned (.int .i64 (aK a:Nat))
def PQ(F:Nat->Prop)(k:Nat)(f:NR F k):NR F (k+1):=by
 intro v a w h p O;rcases h.cases with ⟨n,rfl,rfl,P,M⟩|⟨b,rfl,rfl⟩|⟨s,rfl,rfl⟩|⟨x,c,l,rfl,rfl,E⟩
 ·have q:=mY;have G:=jA;rw[J7];clear h f p;go_enter func289,ntmps289;go_wp2_with fail;go_ret;exact⟨rfl,rfl⟩
 ·have q:=kP;have G:=gM;rw[J5];clear h f p;go_enter func289,ntmps289;go_wp2_with fail;go_ret;exact⟨rfl,rfl⟩
 ·have q:=kH;have U:(bs s).size=s.length:=gB s;rw[kW] at p ⊢
  clear h f;go_enter func289,ntmps289;go_wp2_with fail;go_ret;exact⟨rfl,by go_num⟩
 ·have q:=mC;have G:=gL;have D:=jP l;rw[iW] at p ⊢
  have A:=aB f;have J:=aB E;clear h f E;go_enter func289,ntmps289;go_wp2_with fail;go_loopg [5,7,20] l.length (λgk s _ i wr=>∃j:Nat,j+gk=l.length/\i=.int .i64 j/\s=.int .i64 ((1+((l.map aK).take j).sum:Nat):Int)/\wr=w)
  case atStart=>exact⟨0,o_,rfl,rfl,rfl⟩
  case round=>
   obtain⟨j,W,rfl,rfl,rfl⟩:=hrel;by_cases d:j<l.length
   ·obtain⟨m,rfl⟩:∃m,gk=m+1:=⟨gk-1,o_⟩
    obtain⟨g,u,rfl,V,T,N,C,z,B⟩:=J.out.get j d;have o:l[j]∈l:=fm d;have H:=lW o;have K:=aB (A.out u l[j] wr B o_ o_)
    obtain⟨t,S,rfl⟩:=B.form
    have r:((l.map aK).take (j+1)).sum=((l.map aK).take j).sum+aK l[j]:=by
     rw[gx (by simpa using d),ij];simp only[List.getElem_map,ff,gg,Nat.add_zero]
    have I:((l.map aK).take (j+1)).sum<=(l.map aK).sum:=by
     have e:(l.map aK).sum=((l.map aK).take (j+1)++(l.map aK).drop (j+1)).sum:=by rw[gz]
     rw[e,ij];omega
    generalize aK l[j]=Q at*;clear B;go_wp2_with fail;refine K.out.mono ?_;rintro e L ⟨rfl,rfl⟩;go_wp2_with fail;go_roundg m
    case measure=>omega
    case rel=>exact⟨j+1,o_,by go_num,by rw[r];go_num,rfl⟩
   ·have y:j=l.length:=o_
    subst y;go_wp2_with fail;go_ret;exact⟨rfl,by rw[gy s_];rfl⟩
def DI(F:Nat->Prop):∀k,NR F k
 |0=>λv a w _ h=>by have:=sM a;omega
 |k+1=>PQ F k (DI F k)
def mP(F:Nat->Prop)(v:Value)(a:aJ)(w:World)(h:PV F w v a)(g:aK a<=1000000000):
 Calls prog 288 #[v] w λe d=>d=w/\((aK a<=200/\e=.returned v)\/(200<aK a/\e=fI 6)):=by
 have b:=aB (DI F 1000000000 v a w h g (eh _));obtain⟨t,u,rfl⟩:=h.form;clear h;generalize aK a=n at*;by_cases f:n<=200
 ·have e:decide ((200:Int)<(n:Int))=false:=decide_eq_false o_
  go_enter func288,ntmps288;go_wp2_with fail;refine b.out.mono ?_;rintro e c ⟨rfl,rfl⟩;go_wp2_with fail;go_ret;exact⟨rfl,d7 ⟨f,rfl⟩⟩
 ·have e:decide ((200:Int)<(n:Int))=true:=decide_eq_true o_
  go_enter func288,ntmps288;go_wp2_with fail;refine b.out.mono ?_;rintro e c ⟨rfl,rfl⟩;go_wp2_with fail;exact⟨rfl,rfl,d6 ⟨o_,rfl⟩⟩
def uF(F:Nat->Prop)(v:Value)(a:aJ)(n:Nat)(w:World)(h:PV F w v a)(_hn:n<=1000000000):
 Calls prog 292 #[v,.int .i64 n] w λe g=>g=w/\((a.sort≠0/\e=fI 2)\/(a.sort=0/\(a.n<0\/(n:Int)<=a.n)/\e=fI 4)\/(a.sort=0/\∃k:Nat,k<n/\a.n=k/\e=.returned (.int .i64 k))):=by
 rcases h.cases with ⟨m,rfl,rfl,p,o⟩|⟨b,rfl,rfl⟩|⟨s,rfl,rfl⟩|⟨x,c,l,rfl,rfl,_⟩
 ·have q:=lN;clear h;by_cases f:m<0
  ·have j:decide (m<0)=true:=decide_eq_true f;go_enter func292,ntmps292;go_wp2_with fail;exact⟨rfl,rfl,d6 (d7 ⟨rfl,d7 f,rfl⟩)⟩
  have j:decide (m<0)=false:=decide_eq_false f;by_cases d:(n:Int)<=m
  ·have i:decide ((n:Int)<=m)=true:=decide_eq_true d;go_enter func292,ntmps292;go_wp2_with fail;exact⟨rfl,rfl,d6 (d7 ⟨rfl,d6 d,rfl⟩)⟩
  ·have i:decide ((n:Int)<=m)=false:=decide_eq_false d;go_enter func292,ntmps292;go_wp2_with fail;go_ret;exact⟨rfl,d6 (d6 ⟨rfl,m.toNat,o_,by show m=_;omega,by rw[Int.toNat_of_nonneg o_];rfl⟩)⟩
 ·have q:=kQ;clear h;go_enter func292,ntmps292;go_wp2_with fail;exact⟨rfl,rfl,d7 ⟨by simp[bO],rfl⟩⟩
 ·have q:=lM;clear h;go_enter func292,ntmps292;go_wp2_with fail;exact⟨rfl,rfl,d7 ⟨by simp[bK],rfl⟩⟩
 ·have q:=kO;clear h;go_enter func292,ntmps292;go_wp2_with fail;exact⟨rfl,rfl,d7 ⟨by simp[aY],rfl⟩⟩
def LR(F:Nat->Prop)(x:Option Addr)(c:Nat)(l:List aJ)(w:World)(h:PVs F w (.slice x l.length c) l)(d:aK (aY l)<=1000000000):
 Calls prog 286 #[.slice x l.length c] w λe b=>b=w/\((aK (aY l)<=200/\e=.returned (.iface 233 (.slice x l.length c)))\/(200<aK (aY l)/\e=fI 6)):=by
 have f:=aB (mP F _ _ w (PV.lst h) d);clear h;generalize aK (aY l)=n at*;go_enter func286,ntmps286;go_wp2_with fail;refine f.out.mono ?_;rintro e g ⟨rfl,⟨a,rfl⟩|⟨a,rfl⟩⟩
 ·go_wp2_with fail;go_ret;exact⟨rfl,d7 ⟨a,rfl⟩⟩
 ·go_wp2_with fail;exact⟨rfl,rfl,d6 ⟨a,rfl⟩⟩
noncomputable def IR(op:List UInt8)(a b:List UInt8):aJ × Nat:=
 if op=[60] then (bO (fZ a b),0)
 else if op=[60,61] then (bO (!fZ b a),0)
 else if op=[43] then (if 200<aK (bK (a++b)) then (bN,6) else (bK (a++b),0))
 else (bN,2)
def A6(op:List UInt8)(F:Nat->Prop)(a b:List UInt8)(w:World)(q:a.length+b.length<=1000000):
 Calls prog 309 #[.string (bs op),.string (bs a),.string (bs b)] w (lJ F w (IR op a b)):=by
 have c:=cC op;obtain⟨r,d⟩:=E_ (IR op a b);rw[<-d];unfold IR at d;by_cases g:op=[60]
 ·rw[if_pos g] at d;have p:((bs op).toList==[60])=true:=by rw[c,g];rfl
  have i:Hid (Op.bytesLess (bs a).toList (bs b).toList=fZ a b):=by show _=_;rw[cC,cC,uP]
  have f:=aB d;clear c d g;generalize fZ a b=t at*;go_enter func309,ntmps309;go_wp2_with fail;go_ret;exact lJ.ok f.out (by rw[<-i.out];exact PV.tru F w _)
 rw[if_neg g] at d;have p:((bs op).toList==[60])=false:=by rw[c];simpa using g
 by_cases j:op=[60,61]
 ·rw[if_pos j] at d;have v:((bs op).toList==[60,61])=true:=by rw[c,j];rfl
  have i:Hid ((Op.bytesLess (bs a).toList (bs b).toList || (bs a).toList==(bs b).toList)= !fZ b a):=by show _=_;rw[cC,cC,uP,JY]
  have f:=aB d;clear c d g j;generalize fZ b a=t at*;go_enter func309,ntmps309;go_wp2_with fail;go_ret;exact lJ.ok f.out (by rw[<-i.out];exact PV.tru F w _)
 rw[if_neg j] at d;have v:((bs op).toList==[60,61])=false:=by rw[c];simpa using j
 by_cases k:op=[43]
 ·rw[if_pos k] at d;have u:((bs op).toList==[43])=true:=by rw[c,k];rfl
  have l:=kW (a++b);have x:=aB (mP F (.iface 232 (.string (bs (a++b)))) _ w (PV.str F w (a++b)) (by rw[l,ej];omega))
  have f:=aB d;have s:=gB;clear c d g j k l;go_enter func309,ntmps309;go_wp2_with fail;refine x.out.mono ?_;rintro e o ⟨rfl,⟨m,rfl⟩|⟨m,rfl⟩⟩
  ·have n:Hid (r=(bK (a++b),0)):=by show _=_;rw[f.out,if_neg o_]
   clear m f;go_wp2_with fail;go_ret;exact lJ.ok n.out (PV.str F o (a++b))
  ·have n:Hid (r=(bN,6)):=by show _=_;rw[f.out,if_pos m]
   clear m f;go_wp2_with fail;exact⟨rfl,lJ.stop n.out d_⟩
 ·rw[if_neg k] at d;have u:((bs op).toList==[43])=false:=by rw[c];simpa using k
  have f:=aB d;clear c d g j k;go_enter func309,ntmps309;go_wp2_with fail;exact⟨rfl,lJ.stop f.out d_⟩
def nG:(prog.info? 180).map (λi=>(i.zero,i.size,i.bytes))=some (some .nilIface,1,16):=k_
def xC{P:Program}(w:World)(t u r e:TypeId)(i:TypeInfo)(z:Value)(j:P.underlying t=some (.slice e))(q:P.underlying u=some (.int .i64))(s:P.info? e=some i)(o:i.zero=some z)(m:i.size=1)
 (n:Nat) (k:0<n) (v:n<=1000000000) (l:i.bytes<=64):
 (Builtin.append_ #[t,u] r #[.slice none 0 0,.int .i64 n]).run P w=
   .ok (.slice (some ⟨w.heap.size,0,none⟩) n (grownCap w n 0 e)) (w.drew.alloc (.cells (Builtin.zeroCells z.cells n++Builtin.zeroCells z.cells (grownCap w n 0 e-n)) e)):=by
 have g:n≠0:=o_
 have h:n*i.bytes<=1000000000*64:=Nat.mul_le_mul v l;have d:¬(281474976710656<Builtin.nextslicecap n 0*i.bytes):=by rw[nextslicecap_zero k];omega
 have f:¬(9223372036854775807<(n:Int)):=o_
 have p:IntKind.i64.wrap (n:Int)=n:=by
  rw[IntKind.wrap_i64];omega
 have c:¬(281474976710656<(n:Int)*(i.bytes:Int)):=by
  have:((n*i.bytes:Nat):Int)<=64000000000:=o_
  rw[Int.natCast_mul] at this;omega
 have b:¬((n:Int)<0):=o_
 have a:max (n:Int) 0=n:=o_
 simp[Builtin.append_,run_underlying j,run_underlying q,sizeOf,typeInfo,zeroValue,s,o,m,p,asInt,asIntOf,b,a,g,f,d,c,Question.forced,run_firstCells_none,newRow,grownCap]
def sU{P:Program}{c:Array Oper}{b:List Oper}{o:Oper}{a:Act}{Q:Exit->Act->World->Prop}(f:o.guard=none)(s x:Operand)(t u:TypeId)
 (q:o.op=.call { callee:=.builtin .append,args:= #[s,x],argTypes:= #[t,u] })
 (e:TypeId) (i:TypeInfo) (z:Value) (g:P.underlying t=some (.slice e)) (r:P.underlying u=some (.int .i64)) (y:P.info? e=some i) (p:i.zero=some z) (l:i.size=1)
 (n:Nat) (j:0<n) (B:n<=1000000000) (k:i.bytes<=64) (v:a.eval s=.slice none 0 0) (A:a.eval x=.int .i64 n)
 (h:wpList P c Q b (a.put o.dst (.slice (some ⟨w.heap.size,0,none⟩) n (grownCap w n 0 e))) (w.drew.alloc (.cells (Builtin.zeroCells z.cells n++Builtin.zeroCells z.cells (grownCap w n 0 e-n)) e))):wpList P c Q (o::b) a w:=by
 refine wpList_plain f λK m=>?_
 have d:=xC (P:=P) w t u o.type e i z g r y p l n j B k;unfold Oper.wp;simp[execOp,q,resolve,invoke,builtin,v,A,d,Result.andThen];exact m _ _ h
def B1(n:Nat)(q:n<=1000000)(w:World):
 Calls prog 313 #[.slice none 0 0,.int .i64 n] w λe j=>∃v,e=.returned v/\j.ownsRow w.heap.size 180 1 v 0 []/\Below w.heap.size w j:=by
 obtain⟨k,o,d,g,l⟩:=info_parts nG;rcases jo n with rfl|m
 ·go_enter func313,ntmps313;go_wp2_with fail;go_ret;exact⟨_,rfl,World.ownsRow_nil _ _ _ _,ei _ _⟩
 ·have r:decide ((n:Int)<0)=false:=decide_eq_false o_
  have p:decide ((0:Int)<(n:Int))=true:=decide_eq_true o_
  have b:=grownCap_ge w n 0 180;have a:=grownCap_le_maxLen w n 0 180 (by unfold maxLen;omega)
  generalize c:grownCap w n 0 180=f at b a;have i:=aB c;clear c;go_enter func313,ntmps313;go_wp2_with (at_builtin;refine sU r_ _ _ 233 3 r_ 180 k .nilIface underlying233 underlying3 o d g n m o_ o_ r_ r_ ?_;rw[i.out])
  go_ret;refine⟨_,rfl,⟨rfl,d6 ⟨w.heap.size,f,_,rfl,eh _,aL _ _ rfl _,fy _,a,?_,rfl⟩⟩,?_⟩
  ·rw[Array.size_append,size_zeroCells,size_zeroCells];simp;omega
  ·exact((ei _ _).drew).alloc s_ _
def fU(F:Nat->Prop)(w:World)(xs:List Value)(l:List aJ):Prop:=xs.length=l.length/\∀i (h:i<l.length),∃u,xs[i]?=some u/\PV F w u l[i]
def fU.nil(F:Nat->Prop)(w:World):fU F w [] []:=⟨rfl,λi h=>by simp at h⟩
def fU.keep(h:fU F w xs l)(a:∀b,F b->w'.heap[b]?=w.heap[b]?):fU F w' xs l:=
 ⟨h.1,λi e=>by obtain⟨u,d,c⟩:=h.2 i e;exact⟨u,d,c.keep a⟩⟩
def fU.mono(h:fU F w xs l)(e:∀b,F b->G b):fU G w xs l:=
 ⟨h.1,λi d=>by obtain⟨u,c,a⟩:=h.2 i d;exact⟨u,c,a.mono e⟩⟩
def fU.append{d:List Value}(h:fU F w xs l)(k:fU F w d m):fU F w (xs++d) (l++m):=by
 refine⟨by simp[h.1,k.1],λi f=>?_⟩
 rcases fo i l.length with a|a
 ·obtain⟨u,b,c⟩:=h.2 i a;exact⟨u,by rw[g9 (by rw[h.1];exact a)];exact b,by rw[jm a];exact c⟩
 ·have e:i-l.length<m.length:=by simp at f;omega
  obtain⟨u,b,c⟩:=k.2 _ e;exact⟨u,by rw[gp (by rw[h.1];exact a),h.1];exact b,by rw[ke a];exact c⟩
def PVs.row{d:Value}(h:PVs F w d l):(l=[]/\d=.slice none 0 0)\/∃g a k,d=.slice (some ⟨g,0,none⟩) l.length a/\F g/\g<w.heap.size/\fU F w k l/\∀j u,k[j]?=some u->w.cell? ⟨g,j,none⟩=some u:=by
 rcases h with h|⟨g,a,b,q,o,m,t,f⟩
 ·exact d7 h
 ·have s:l.length<=b.size:=by
   rcases jo l.length with p|p
   ·omega
   ·obtain⟨u,e,_⟩:=f (l.length-1) o_
    have:=(ix.1 e).1;omega
  refine d6 ⟨g,a,b.toList.take l.length,q,o,aD m,⟨t_,λi n=>?_⟩,λj u c=>?_⟩
  ·obtain⟨u,e,r⟩:=f i n;exact⟨u,by rw[fu,if_pos n];simpa using e,r⟩
  ·rw[fu] at c;split at c
   ·exact aA m (by simpa using c)
   ·cases c
def PVs.ofRow(h:w.ownsRow b_ 180 1 v l.length xs)(p:fU F w xs l)(o:∀k,v.ownBlock=some k->F k):PVs F w v l:=by
 rcases h.2 with ⟨a,d⟩|⟨g,b,c,a,d,f,j,s,r,m⟩
 ·exact d7 ⟨ge d,a⟩
 ·refine d6 ⟨g,b,c,a,o g (by rw[a];rfl),f,j,λi q=>?_⟩
  obtain⟨u,e,n⟩:=p.2 i q;refine⟨u,?_,n⟩;rw[<-m,fu,if_pos o_] at e
  simpa using e
def oS(h:fU F w xs l):∀u∈xs,u.oneCell'=true:=by
 intro u c;obtain⟨j,b,rfl⟩:=ka.1 c;obtain⟨f,a,d⟩:=h.2 j (by rw[<-h.1];exact b)
 rw[fi b] at a;cases a;obtain⟨t,z,e⟩:=d.form;rw[e];rfl
def EU{y:Array Oper}{i:List Oper}{o:Oper}{a:Act}{Q:Exit->Act->World->Prop}(r:o.guard=none)(s x:Operand)(t:TypeId)(G:prog.underlying t=some (.slice 180))
 (M:o.op=.call { callee:=.builtin .append,args:= #[s,x],argTypes:= #[t,t] })
 (b_:Nat) (v:Value) (l m:List aJ) (xs:List Value) (F:Nat->Prop) (P:a.eval s=v) (c:w.ownsRow b_ 180 1 v l.length xs) (O:fU F w xs l)
 (N:Value) (T:a.eval x=N) (U:PVs F w N m) (K:∀b,F b->b<w.heap.size/\v.ownBlock≠some b) (J:l.length+m.length<=1000000000) (n:b_<=w.heap.size)
 (h:∀A k z,k.ownsRow b_ 180 1 A (l++m).length z->fU F k z (l++m)->w.grownBy k v.ownBlock->wpList prog y Q i (a.put o.dst A) k):
 wpList prog y Q (o::i) a w:=by
 obtain⟨L,S,B,D,E⟩:=info_parts nG;rcases U.row with ⟨rfl,rfl⟩|⟨g,C,z,rfl,X,W,f,p⟩
 ·refine wpList_append_own_none r s x t M b_ 180 L 1 G S v l.length xs P c T ?_;exact h v w xs (by simpa using c) (by simpa using O) ⟨rfl,rfl,rfl,eh _,λ_ _ _=>rfl⟩
 ·refine wpList_append_own _ r s x t M b_ 180 L _ 1 16 G S B D E rfl d_ v l.length xs P c ⟨g,0,none⟩ m.length C z T (by rw[f.1];omega) (λj u V=>by rw[Addr.add_lit,gq];exact p j u V) (oS f) (by unfold maxLen;omega) o_ n ?_
  intro A k q d _;have I:∀b,F b->k.heap[b]?=w.heap[b]?:=λb H=>d.block b (K b H).1 (λe=>(K b H).2 e.symm)
  exact h A k (xs++z) (by rw[ej];exact q) ((O.keep I).append (f.keep I)) d
def oI(F:Nat->Prop)(w:World)(ls:List aJ)(v:Value)(wr:World):Prop:=
 ∃ys,wr.ownsRow w.heap.size 180 1 v ls.length ys/\fU F wr ys ls/\Below w.heap.size w wr
def oI.step{wr:World}{a:List aJ}{v':Value}{b:List Value}(h:oI F w a v wr)(g:w'.ownsRow w.heap.size 180 1 v' (a++m).length b)(i:fU F w' b (a++m))(d:wr.grownBy w' v.ownBlock):oI F w (a++m) v' w':=by
 obtain⟨l,f,j,c⟩:=h;refine⟨b,g,i,c.grown d c.size λk e=>?_⟩
 exact bW f k e
def cU{t:TypeId}{e:List Value}(h:w.ownsRow b_ t k v n e):∃x c,v=.slice x n c:=by
 rcases h.2 with ⟨a,b⟩|⟨g,f,d,a,_⟩
 ·exact⟨none,0,by rw[a,b]⟩
 ·exact⟨_,_,a⟩
def PO(F:Nat->Prop)(b:Nat)(x y:Option Addr)(c d:Nat)(l m:List aJ)(w:World)(J:w.heap[b]?=some (.cells #[.slice x l.length c,.slice y m.length d] 233 (0,0)))(hl:PVs F w (.slice x l.length c) l)(hm:PVs F w (.slice y m.length d) m)(hF:∀k,F k->k<w.heap.size)(ac:l.length+m.length<=1000000):
 Calls prog 312 #[.slice (some ⟨b,0,none⟩) 2 2] w λe D=>∃E,e=.returned E/\oI F w (l++m) E D:=by
 have n:=aD J;have W:=aA J (i:=0) rfl;have X:=aA J (i:=1) rfl;have HL:=aB hl;have HM:=aB hm;have G:=aB hF;have Z:=aB (B1 (l.length+m.length) o_ w)
 have Q:=aB J;clear hl hm hF J;go_enter func312,ntmps312;go_wp2_with fail;go_loopg [3,5,11] 2 (λgk s _ i wr=>wr=w/\((gk=2/\i=.int .i64 0/\s=.int .i64 0)\/(gk=1/\i=.int .i64 1/\s=.int .i64 (l.length:Nat))\/(gk=0/\i=.int .i64 2/\s=.int .i64 ((l.length+m.length:Nat):Int))))
 case atStart=>exact⟨rfl,d7 ⟨rfl,rfl,rfl⟩⟩
 case round=>
  obtain⟨hw,hrel⟩:=hrel;obtain rfl:=hw.symm;rcases hrel with ⟨rfl,rfl,rfl⟩|⟨rfl,rfl,rfl⟩|⟨rfl,rfl,rfl⟩
  ·have e:decide ((l.length:Int)<0)=false:=decide_eq_false o_
   go_wp2_with fail;go_roundg 1
   case measure=>omega
   case rel=>exact⟨rfl,d6 (d7 ⟨rfl,rfl,rfl⟩)⟩
  ·have e:decide ((l.length:Int)+(m.length:Int)<0)=false:=decide_eq_false o_
   go_wp2_with fail;go_roundg 0
   case measure=>omega
   case rel=>exact⟨rfl,d6 (d6 ⟨rfl,rfl,s_⟩)⟩
  ·go_wp2_with fail;refine Z.out.mono ?_;rintro e w1 ⟨v1,rfl,j,O⟩
   obtain⟨x1,U,rfl⟩:∃x c,v1=.slice x 0 c:=by
    rcases j.2 with ⟨T,_⟩|⟨g,aa,ab,T,_⟩
    ·exact⟨none,0,T⟩
    ·exact⟨_,_,T⟩
   have P:Hid (oI F w [] (.slice x1 0 U) w1):=⟨[],j,fU.nil _ _,O⟩;clear j O Z W X;go_wp2_with fail;go_loopg [6,8,27] 2 (λgk s _ i V=>(gk=2/\i=.int .i64 0/\oI F w [] s V)\/(gk=1/\i=.int .i64 1/\oI F w l s V)\/(gk=0/\i=.int .i64 2/\oI F w (l++m) s V))
   case atStart=>exact d7 ⟨rfl,rfl,P.out⟩
   case round=>
    rcases hrel with ⟨rfl,rfl,B⟩|⟨rfl,rfl,B⟩|⟨rfl,rfl,B⟩
    ·have v:=B;obtain⟨S,o,N,a⟩:=B;obtain⟨H,I,rfl⟩:=cU o;have W:wr.cell? ⟨b,0,none⟩=some (.slice x l.length c):=aA ((a.block b n).trans Q.out) rfl;have X:wr.cell? ⟨b,1,none⟩=some (.slice y m.length d):=aA ((a.block b n).trans Q.out) rfl;have K:b<wr.heap.size:=el n a.size;have M:=aB o;have L:=aB N;have u:=aB a;have t:=aB v;have r:=aB (HL.out.keep (w':=wr) λk A=>a.block k (G.out k A))
     have z:Hid (∀k,F k->k<wr.heap.size/\(Value.slice H ([]:List aJ).length I).ownBlock≠some k):=λk A=>⟨el (G.out k A) a.size,λe=>by have:=bW o k e;have:=G.out k A;omega⟩
     clear o N a v P;go_wp2_with (at_builtin;refine EU r_ _ _ 233 underlying233 r_ w.heap.size (.slice H ([]:List aJ).length I) ([]:List aJ) l S F r_ M.out L.out _ r_ r.out z.out (by first|omega|(simp;omega)) u.out.size ?_)
     intro E D Y f p q;have C:Hid (oI F w (([]:List aJ)++l) E D):=t.out.step (by first|exact f|(rw[ej];exact f)) p q
     obtain⟨x',c',rfl⟩:=cU f;clear f p q M L r z u t;go_wp2_with fail;go_roundg 1
     case measure=>omega
     case rel=>exact d6 (d7 ⟨rfl,rfl,by simpa using C.out⟩)
    ·have v:=B;obtain⟨S,o,N,a⟩:=B;obtain⟨H,I,rfl⟩:=cU o;have W:wr.cell? ⟨b,0,none⟩=some (.slice x l.length c):=aA ((a.block b n).trans Q.out) rfl;have X:wr.cell? ⟨b,1,none⟩=some (.slice y m.length d):=aA ((a.block b n).trans Q.out) rfl;have K:b<wr.heap.size:=el n a.size;have M:=aB o;have L:=aB N;have u:=aB a;have t:=aB v;have r:=aB (HM.out.keep (w':=wr) λk A=>a.block k (G.out k A))
     have z:Hid (∀k,F k->k<wr.heap.size/\(Value.slice H (l).length I).ownBlock≠some k):=λk A=>⟨el (G.out k A) a.size,λe=>by have:=bW o k e;have:=G.out k A;omega⟩
     clear o N a v P;go_wp2_with (at_builtin;refine EU r_ _ _ 233 underlying233 r_ w.heap.size (.slice H (l).length I) (l) m S F r_ M.out L.out _ r_ r.out z.out (by first|omega|(simp;omega)) u.out.size ?_)
     intro E D Y f p q;have C:Hid (oI F w (l++m) E D):=t.out.step (by first|exact f|(rw[ej];exact f)) p q
     obtain⟨x',c',rfl⟩:=cU f;clear f p q M L r z u t;go_wp2_with fail;go_roundg 0
     case measure=>omega
     case rel=>exact d6 (d6 ⟨rfl,rfl,C.out⟩)
    ·have HC:=aB B;obtain⟨S,o,_⟩:=B;obtain⟨H,I,rfl⟩:=cU o;clear o P;go_wp2_with fail;go_ret;exact⟨_,rfl,HC.out⟩
def eM(F:Nat->Prop)(w:World)(r:aJ × Nat)(e:Ending)(w':World):Prop:=Below w.heap.size w w'/\((r.2=0/\∃u,e=.returned u/\PV (Grow F w w') w' u r.1)\/(r.2≠0/\e=fI r.2))
def eM.ok(c:Below w.heap.size w w')(b:r=(a,0))(h:PV (Grow F w w') w' u a):eM F w r (.returned u) w':=by subst b;exact⟨c,d7 ⟨rfl,u,rfl,h⟩⟩
def eM.stop(d:Below w.heap.size w w')(c:r=(a,k))(b:k≠0):eM F w r (fI k) w':=by subst c;exact⟨d,d6 ⟨b,rfl⟩⟩
noncomputable def xG(op:List UInt8)(l m:List aJ):aJ × Nat:=if op=[43] then (if 200<aK (aY (l++m)) then (bN,6) else (aY (l++m),0)) else (bN,2)
def UQ(op:List UInt8)(F:Nat->Prop)(x y:Option Addr)(c d:Nat)(l m:List aJ)(w:World)(G:PVs F w (.slice x l.length c) l)(H:PVs F w (.slice y m.length d) m)(t:∀k,F k->k<w.heap.size)(Q:aK (aY l)+aK (aY m)<=1000000):
 Calls prog 310 #[.string (bs op),.slice x l.length c,.slice y m.length d] w (eM F w (xG op l m)):=by
 have a:=cC op;obtain⟨r,i⟩:=E_ (xG op l m);rw[<-i];unfold xG at i;by_cases j:op=[43]
 ·rw[if_pos j] at i;have J:((bs op).toList==[43])=true:=by rw[a,j];rfl
  have E:((bs op).toList != [43])=false:=by rw[a,j];rfl
  have K:=jP l;have N:=jP m;rw[iW,iW] at Q;have O:aK (aY (l++m))=1+((l.map aK).sum+(m.map aK).sum):=by rw[iW,gh,ij]
  have b:Below w.heap.size w (w.alloc (.cells #[.slice x l.length c,.slice y m.length d] 233)):=(ei _ _).alloc (eh _) _;have I:=aB (PO F w.heap.size x y c d l m (w.alloc (.cells #[.slice x l.length c,.slice y m.length d] 233)) (aL _ _ rfl _) (G.keep λk f=>b.block k (t k f)) (H.keep λk f=>b.block k (t k f)) (λk f=>el (t k f) b.size) o_)
  have o:=aB b;have q:=aB i;clear a i j G H t b;go_enter func310,ntmps310;go_wp2_with fail;refine I.out.mono ?_;rintro e A ⟨S,rfl,T,u,s,z⟩;obtain⟨P,L,rfl⟩:=cU u;have g:=o.out.trans (z.mono o.out.size);have p:PVs (Grow F w A) A (.slice P (l++m).length L) (l++m):=PVs.ofRow u (s.mono λk f=>d7 f) λk f=>d6 ⟨by have:=bW u k f;have:=o.out.size;omega,cJ u k f⟩
  have M:=aB (mP (Grow F w A) _ _ A (PV.lst p) o_)
  have C:=aB p;have v:=aB g;clear u s z g p I;generalize (l++m).length=n at*;go_wp2_with fail;refine M.out.mono ?_;rintro e U ⟨rfl,⟨B,rfl⟩|⟨B,rfl⟩⟩
  ·have D:Hid (r=(aY (l++m),0)):=by show _=_;rw[q.out,if_neg o_]
   clear B q;go_wp2_with fail;go_ret;exact eM.ok v.out D.out (PV.lst C.out)
  ·have D:Hid (r=(bN,6)):=by show _=_;rw[q.out,if_pos B]
   clear B q;go_wp2_with fail;exact⟨rfl,eM.stop v.out D.out d_⟩
 ·rw[if_neg j] at i;have J:((bs op).toList==[43])=false:=by rw[a];simpa using j
  have E:((bs op).toList != [43])=true:=by rw[a];simpa using j
  have q:=aB i;clear a i j G H t;go_enter func310,ntmps310;go_wp2_with fail;exact⟨rfl,eM.stop (ei _ _) q.out d_⟩
def iR{a:Addr}(o:Obj)(h:w.cell? a=some v):(w.alloc o).cell? a=some v:=by
 have b:=World.block_lt_of_cell? w a h;rw[<-h];exact World.cell?_of_block (en _ _ _ b)
def GZ(g i n c:Nat)(b:List Value)(w:World)(D:b.length=n*1)(I:n<=1000000)(t:∀j u,b[j]?=some u->w.cell? ⟨g,i+j,none⟩=some u)(z:∀u∈b,u.oneCell'=true):
 Calls prog 301 #[.slice (some ⟨g,i,none⟩) n c] w λe s=>∃o,e=.returned o/\s.ownsRow w.heap.size 180 1 o n b/\Below w.heap.size w s:=by
 obtain⟨B,E,p,q,r⟩:=info_parts nG;have A:=aB t;clear t;have y:∀(w:World) (a:Option Addr) (n c m l:Nat),(binOp .eql 233 (.slice a n c) (.slice none m l)).run prog w=.ok (.bool a.isNone) w:=λw a n c m l=>Lib.run_eql_slice_nil w _ _ a n c m l underlying233
 go_enter func301,ntmps301;go_wp2_with (at_builtin;refine wpList_append_own _ r_ _ _ 233 r_ w.heap.size 180 B _ 1 16 underlying233 E p q r rfl d_ (.slice (some ⟨w.heap.size,0,none⟩) 0 0) 0 [] r_ (World.ownsRow_made w #[] 0 (eh _) (fy _) s_) ⟨g,i,none⟩ n c b r_ D (λj u F=>by rw[Addr.add_lit];exact iR _ (A.out j u F)) z (by unfold maxLen;omega) o_ s_ ?_)
 intro o G d f _;have C:=aB d;have x:=aB f;obtain⟨H,l,rfl⟩:=cU d;clear d f;go_wp2_with fail;go_ret;refine⟨_,rfl,by simpa using C.out,?_⟩
 exact((ei _ w).alloc (eh _) _).grown x.out s_ (by intro k v;simp[Value.ownBlock] at v;omega)
def tI(g i n c:Nat)(b:List Value)(w:World)(D:b.length=n*1)(I:n<=1000000)(t:∀j u,b[j]?=some u->w.cell? ⟨g,i+j,none⟩=some u)(z:∀u∈b,u.oneCell'=true):
 Calls prog 199 #[.slice (some ⟨g,i,none⟩) n c] w λe s=>∃o,e=.returned o/\s.ownsRow w.heap.size 180 1 o n b/\Below w.heap.size w s:=by
 obtain⟨B,E,p,q,r⟩:=info_parts nG;have A:=aB t;clear t;have y:∀(w:World) (a:Option Addr) (n c m l:Nat),(binOp .eql 134 (.slice a n c) (.slice none m l)).run prog w=.ok (.bool a.isNone) w:=λw a n c m l=>Lib.run_eql_slice_nil w _ _ a n c m l underlying134
 go_enter func199,ntmps199;go_wp2_with (at_builtin;refine wpList_append_own _ r_ _ _ 134 r_ w.heap.size 180 B _ 1 16 underlying134 E p q r rfl d_ (.slice (some ⟨w.heap.size,0,none⟩) 0 0) 0 [] r_ (World.ownsRow_made w #[] 0 (eh _) (fy _) s_) ⟨g,i,none⟩ n c b r_ D (λj u F=>by rw[Addr.add_lit];exact iR _ (A.out j u F)) z (by unfold maxLen;omega) o_ s_ ?_)
 intro o G d f _;have C:=aB d;have x:=aB f;obtain⟨H,l,rfl⟩:=cU d;clear d f;go_wp2_with fail;go_ret;refine⟨_,rfl,by simpa using C.out,?_⟩
 exact((ei _ w).alloc (eh _) _).grown x.out s_ (by intro k v;simp[Value.ownBlock] at v;omega)
def tH(w:World):
 Calls prog 199 #[.slice none 0 0] w λe f=>e=.returned (.slice none 0 0)/\f=w:=by
 have g:∀(w:World) (a:Option Addr) (n c b d:Nat),(binOp .eql 134 (.slice a n c) (.slice none b d)).run prog w=.ok (.bool a.isNone) w:=λw a n c b d=>Lib.run_eql_slice_nil w _ _ a n c b d underlying134
 go_enter func199,ntmps199;go_wp2_with fail;go_ret;exact⟨rfl,rfl⟩
def X9(F:Nat->Prop)(w:World)(sv:Value)(l:List aJ):Prop:=
 (l=[]/\∃x c,sv=.slice x 0 c)\/∃g o c,sv=.slice (some ⟨g,o,none⟩) l.length c/\l.length<=c/\g<w.heap.size/\∀i (h:i<l.length),∃u,w.cell? ⟨g,o+i,none⟩=some u/\PV F w u l[i]
def X9.below{b:Value}(h:X9 F w b l)(a:Below w.heap.size w w')(q:∀k,F k->k<w.heap.size):X9 F w' b l:=by
 rcases h with h|⟨g,o,c,m,e,d,j⟩
 ·exact d7 h
 ·refine d6 ⟨g,o,c,m,e,el d a.size,λi r=>?_⟩
  obtain⟨u,s,n⟩:=j i r;exact⟨u,by rw[a.cell (p:=⟨g,o+i,none⟩) d];exact s,n.keep λk f=>a.block k (q k f)⟩
def vV{i:aJ}{c:List aJ}:cL (i::c) a b=if a.sort≠3\/i.sort≠0 then (bN,2) else if i.n<0\/(a.l.length:Int)<=i.n then (bN,4) else if (cL c (a.l.getD i.n.toNat bN) b).2≠0 then (bN,(cL c (a.l.getD i.n.toNat bN) b).2) else (aY (a.l.set i.n.toNat (cL c (a.l.getD i.n.toNat bN) b).1),0):=by
 rw[cL]
def Z7{g a:Nat}{t:TypeId}{e:List Value}(h:w.ownsRow b_ t 1 (.slice (some ⟨g,0,none⟩) n a) n e)(_hk:k<n):
 (w.setCell ⟨g,k,none⟩ u).ownsRow b_ t 1 (.slice (some ⟨g,0,none⟩) n a) n (e.set k u):=by
 rcases h.2 with ⟨b,_⟩|⟨p,d,c,b,o,f,j,m,i,l⟩
 ·cases b
 ·cases b;refine⟨by rw[ig];exact h.1,d6 ⟨g,a,c.setIfInBounds k u,rfl,o,?_,j,m,by simpa using i,?_⟩⟩
  ·rw[aR f]
  ·rw[<-l,ju,jw]
def fU.set(h:fU F w xs l)(k:Nat)(e:PV F w u a):fU F w (xs.set k u) (l.set k a):=by
 refine⟨by simp[h.1],λi c=>?_⟩
 rw[ig] at c;by_cases b:k=i
 ·subst b;exact⟨u,by rw[List.getElem?_set_self (by rw[h.1];exact c)],by rw[List.getElem_set_self];exact e⟩
 ·obtain⟨v,d,f⟩:=h.2 i c;exact⟨v,by rw[List.getElem?_set_ne b];exact d,by rw[List.getElem_set_ne b];exact f⟩
def O2{w1 d:World}{c c1:Nat}{g:TypeId}{u2:Value}{o:aJ}(f:Below w.heap.size w w1)(s:Below w1.heap.size w1.drew d)
 (b:w1.ownsRow w.heap.size 180 1 (.slice (some ⟨c,0,none⟩) m.length c1) m.length xs) (E:fU F w xs m) (C:PV (Grow F w1.drew d) d (.iface g u2) o) (a:r=(aY (m.set k o),0)) (x:∀q,F q->q<w.heap.size) (A:k<m.length):
 eM F w r (.returned (.iface 233 (.slice (some ⟨c,0,none⟩) m.length c1))) (d.setCell ⟨c,k,none⟩ (.iface g u2)):=by
 have h:w.heap.size<=c:=bW b c rfl;have y:c<w1.heap.size:=cJ b c rfl;have e:Below w1.heap.size w1 d:=((ei _ w1).drew).trans s;have B:w1.heap.size<=d.heap.size:=e.size;have D:w.heap.size<=w1.heap.size:=f.size;have z:Below w.heap.size w d:=f.trans (e.mono f.size);have n:Below w.heap.size w (d.setCell ⟨c,k,none⟩ (.iface g u2)):=z.setCell h _;have v:d.ownsRow w.heap.size 180 1 (.slice (some ⟨c,0,none⟩) m.length c1) m.length xs:=aT b λq a=>e.block q (cJ b q a)
 have p:=Z7 (u:=.iface g u2) v A;have j:(d.setCell ⟨c,k,none⟩ (.iface g u2)).heap.size=d.heap.size:=s_
 refine eM.ok n a (PV.lst ?_);have i:(m.set k o).length=m.length:=ig;have:=PVs.ofRow (F:=Grow F w (d.setCell ⟨c,k,none⟩ (.iface g u2))) (l:=m.set k o) (by rw[i];exact p) ?_ ?_
 ·exact this
 ·refine fU.set ((E.keep λq a=>n.block q (x q a)).mono λq a=>d7 a) k ?_
  refine(C.keep λq a=>?_).mono λq a=>?_
  ·refine ek _ _ _ _ ?_;show q≠c
   rcases a with a|⟨a,_⟩
   ·have:=x q a;omega
   ·have:w1.heap.size<=q:=a;omega
  ·rcases a with a|⟨a,t⟩
   ·exact d7 a
   ·refine d6 ⟨?_,by rw[j];exact t⟩
    have:w1.heap.size<=q:=a;omega
 ·intro q a;obtain rfl:c=q:=Option.some.inj a;exact d6 ⟨h,by rw[j];omega⟩
def sS(F:Nat->Prop)(l:List aJ):Prop:=∀(sv u v:Value) (a b:aJ) (w:World),X9 F w sv l->PV F w u a->PV F w v b->(∀k,F k->k<w.heap.size)->aK a<=400000->l.length<=1000000->
 Calls prog 300 #[u,sv,v] w (eM F w (cL l a b))
def ND(F:Nat->Prop):sS F []:=by
 intro k u v a b w f e d j q p
 obtain⟨x,c,rfl⟩:∃x c,k=.slice x 0 c:=by
  rcases f with ⟨_,x,c,h⟩|⟨g,o,c,h,_⟩
  ·exact⟨x,c,h⟩
  ·exact⟨_,_,h⟩
 have l:=aB d;obtain⟨t,z,rfl⟩:=e.form;obtain⟨m,n,rfl⟩:=d.form;clear f e d j;go_enter func300,ntmps300;go_wp2_with fail;go_ret;exact eM.ok (ei _ _) rfl (l.out.mono λ_ i=>d7 i)
def NE(F:Nat->Prop)(i:aJ)(l:List aJ)(IH:∀F,sS F l):sS F (i::l):=by
 intro sv u v a b w hi hu hv hF hc hl;simp only[eo] at hl
 obtain⟨g,o,c,rfl,be,hg,f⟩:∃g o c,sv=.slice (some ⟨g,o,none⟩) (l.length+1) c/\l.length+1<=c/\g<w.heap.size/\∀j (h:j<(i::l).length),∃u,w.cell? ⟨g,o+j,none⟩=some u/\PV F w u (i::l)[j]:=by
  rcases hi with ⟨h,_⟩|⟨g,o,c,h1,K,h3,h4⟩
  ·cases h
  ·exact⟨g,o,c,h1,K,h3,h4⟩
 obtain⟨ui,ci,C⟩:=f 0 s_
 simp only[Nat.add_zero,kf] at ci C;have bf:(((l.length+1:Nat):Int)==0)=false:=t_
 obtain⟨r,O⟩:=E_ (cL (i::l) a b);rw[<-O];rw[vV] at O;obtain⟨t',z',rfl⟩:=hv.form;obtain⟨ti,zi,rfl⟩:=C.form;have d:a.sort≠3->Hid (r=(bN,2)):=λh=>by show _=_;rw[O,if_pos (d7 h)]
 rcases hu.cases with ⟨n,rfl,rfl,_,_⟩|⟨s,rfl,rfl⟩|⟨s,rfl,rfl⟩|⟨x,cx,m,rfl,rfl,hm⟩
 ·have M:=d (by simp[bC])
  have q:=jA;clear hu hv hi hF f C O d IH;go_enter func300,ntmps300;go_wp2_with fail;exact⟨rfl,eM.stop (ei _ _) M.out d_⟩
 ·have M:=d (by simp[bO])
  have q:=gM;clear hu hv hi hF f C O d IH;go_enter func300,ntmps300;go_wp2_with fail;exact⟨rfl,eM.stop (ei _ _) M.out d_⟩
 ·have M:=d (by simp[bK])
  have q:=kN;clear hu hv hi hF f C O d IH;go_enter func300,ntmps300;go_wp2_with fail;exact⟨rfl,eM.stop (ei _ _) M.out d_⟩
 ·have q:=gL;have bk:=jP m;rw[iW] at hc;have ai:=aB (uF F _ i m.length w C o_)
  have HR:=aB O;have HM:=aB hm;have HV:=aB hv;have HF:=aB hF;have af:=aB f;have ab:=aB IH;clear hu hv hi hF f C O d IH hm;go_enter func300,ntmps300;go_wp2_with fail;refine ai.out.mono ?_;rintro e D ⟨Z,⟨K,rfl⟩|⟨K,h3,rfl⟩|⟨K,k,G,P,rfl⟩⟩
  ·obtain rfl:=Z.symm;have M:Hid (r=(bN,2)):=by show _=_;rw[HR.out,if_pos (d6 K)]
   clear K Z;go_wp2_with fail;exact⟨rfl,eM.stop (ei _ _) M.out d_⟩
  ·obtain rfl:=Z.symm;have M:Hid (r=(bN,4)):=by show _=_;rw[HR.out,if_neg (by simp[aY,K]),if_pos (show i.n<0\/((aY m).l.length:Int)<=i.n from h3)]
   clear K h3 Z;go_wp2_with fail;exact⟨rfl,eM.stop (ei _ _) M.out d_⟩
  ·obtain rfl:=Z.symm;obtain⟨gm,bl,ar,_⟩:=HM.out.get k G;rcases HM.out.row with ⟨rfl,_⟩|⟨bc,bh,xs,aw,bb,bi,B,E⟩
   ·simp at G
   cases aw;obtain⟨uk,ac,V⟩:=B.2 k G;have am:=aB (GZ bc 0 m.length cx xs w (by rw[B.1];omega) o_ (λj u hj=>by rw[gq];exact E j u hj) (oS B))
   have av:aK m[k]<=400000:=by have:=lW (fm G);omega
   have J:Hid (r=if (cL l m[k] b).2≠0 then (bN,(cL l m[k] b).2) else (aY (m.set k (cL l m[k] b).1),0)):=by
    show _=_
    have ag:i.n.toNat=k:=by rw[P];rfl
    have an:(aY m).l.getD i.n.toNat bN=m[k]:=by rw[ag];show m.getD k bN=_;show (m[k]?).getD bN=_;rw[fi G];rfl
    rw[HR.out,if_neg (by simp[aY,K]),if_neg (by show ¬(i.n<0\/((aY m).l.length:Int)<=i.n);rw[P];show ¬((k:Int)<0\/(m.length:Int)<=k);omega),an,ag]
    rfl
   obtain⟨tk,zk,rfl⟩:=V.form;have ao:=aB B;have ah:=aB V;have al:=aB ac;clear Z K P HR ai E B V ac bb ar;go_wp2_with fail;refine am.out.mono ?_;rintro e D ⟨v1,rfl,I,L⟩;rcases I.2 with ⟨r1,r2⟩|⟨g1,c1,ap,rfl,bj,z,ba,az,ax,ak⟩
   ·omega
   have N:ap[k]?=some (.iface tk zk):=by
    have:=al.out;rw[<-ak,fu,if_pos o_] at this
    simpa using this
   have d0:D.cell? ⟨g1,k,none⟩=some (.iface tk zk):=aA z N;have aj:=aD z;have au:Hid (∀q,F q->q<D.drew.heap.size):=λq hq=>el (HF.out q hq) L.size
   have y:Below w.heap.size w D.drew:=L.drew;obtain⟨Y,ae⟩:∃Y:Option Addr,(if c=1 then some (⟨g,o,none⟩:Addr) else some ⟨g,o+1,none⟩)=Y:=⟨_,rfl⟩
   have aa:X9 F D.drew (.slice Y l.length (c-1)) l:=by
    by_cases h1:c=1
    ·have ht:l=[]:=jb.1 o_
     exact d7 ⟨ht,_,_,by rw[ht];rfl⟩
    ·rw[if_neg h1] at ae;subst ae;refine d6 ⟨g,o+1,c-1,rfl,o_,el hg y.size,λj hj=>?_⟩
     obtain⟨u,e1,e2⟩:=af.out (j+1) t_
     rw[show o+(j+1)=o+1+j by omega] at e1
     exact⟨u,by rw[y.cell (p:=⟨g,o+1+j,none⟩) hg];exact e1,e2.keep λk G=>y.block k (HF.out k G)⟩
   have bm:(1:Int)<=(l.length:Int)+1:=o_
   have bg:(l.length:Int)+1<=(c:Int):=o_
   have HX:=aB (ab.out F (.slice Y l.length (c-1)) (.iface tk zk) (.iface t' z') m[k] b D.drew aa (ah.out.keep λk G=>y.block k (HF.out k G)) (HV.out.keep λk G=>y.block k (HF.out k G)) au.out av o_)
   generalize cL l m[k] b=X at HX J;have HOWN:=aB I;have HBLK:=aB z;have U:=aB L;clear I z L y aa am ab af ah ax ak ba az al;by_cases Q:X.2=0
   ·have T:Hid (Calls prog 300 #[.iface tk zk,.slice Y l.length (c-1),.iface t' z'] D.drew λe w'=>Below D.heap.size D.drew w'/\∃t2 u2,e=.returned (.iface t2 u2)/\PV (Grow F D.drew w') w' (.iface t2 u2) X.1):=by
     refine HX.out.mono ?_;rintro e W ⟨A,⟨_,u2,rfl,H⟩|⟨S,rfl⟩⟩
     ·obtain⟨t2,z2,rfl⟩:=H.form;exact⟨A,t2,z2,rfl,H⟩
     ·exact absurd Q S
    have HQ:Hid (r=(aY (m.set k X.1),0)):=by show _=_;rw[J.out,if_neg (by simp[Q])]
    clear HX J Q;go_wp2_with fail;go_region_law (go_simp;go_at_call 300;refine T.out.mono ?_;rintro e W ⟨A,t2,u2,rfl,H⟩;have t:=(A.block g1 aj).trans HBLK.out;have d2:=aA t N;have bn:=aE t (i:=k);have bd:=aD t;have aq:=aB H;have ay:=aB A;have HBLK2:=aB t;clear H A t)
    all_goals
     go_wp2_with fail;go_ret;exact O2 U.out ay.out HOWN.out ao.out aq.out HQ.out HF.out G
   ·have T:Hid (Calls prog 300 #[.iface tk zk,.slice Y l.length (c-1),.iface t' z'] D.drew λe w'=>Below D.heap.size D.drew w'/\e=fI X.2):=by
     refine HX.out.mono ?_;rintro e W ⟨A,⟨S,_⟩|⟨_,rfl⟩⟩
     ·exact absurd S Q
     ·exact⟨A,rfl⟩
    have HQ:Hid (r=(bN,X.2)):=by show _=_;rw[J.out,if_pos Q]
    have HS:Hid (∀W,Below D.heap.size D.drew W->eM F w r (fI X.2) W):=λW h=>eM.stop (U.out.drew.trans (h.mono U.out.size)) HQ.out Q
    clear HX J Q;go_wp2_with fail;go_region_dies
    all_goals (refine T.out.mono ?_;rintro e W ⟨A,rfl⟩;exact⟨rfl,HS.out _ A⟩)
def yY:∀(l:List aJ) (F:Nat->Prop),sS F l
 |[],F=>ND F
 |i::l,F=>NE F i l (yY l)
def J6(l:List aJ)(k:Nat)(x:aJ):((l.set k x).map aK).sum<=(l.map aK).sum+aK x:=by
 induction l generalizing k with
 |nil=>simp
 |cons a l b=>
  cases k with
  |zero=>simp only[List.set_cons_zero,fe,ff];omega
  |succ k=>simp only[kc,fe,ff];have:=b k;omega
def tN:∀(l:List aJ) (a b:aJ),aK (cL l a b).1<=(l.length+1)*(aK a+aK b+1)
 |[],a,b=>by rw[cL];simp;omega
 |i::l,a,b=>by
  rw[vV];have c:aK bN=1:=by rw[eS];simp[bN]
  have d:1<=((i::l).length+1)*(aK a+aK b+1):=Nat.mul_pos s_ o_
  repeat' split
  ·rw[c];exact d
  ·rw[c];exact d
  ·rw[c];exact d
  ·rename_i p n q;have f:i.n.toNat<a.l.length:=o_
   have k:a.l.getD i.n.toNat bN=a.l[i.n.toNat]:=by show (a.l[i.n.toNat]?).getD bN=_;rw[fi f];rfl
   have h:=tN l (a.l.getD i.n.toNat bN) b;have g:=lW (fm f);have j:=eS a;rw[iW];have e:=J6 a.l i.n.toNat (cL l (a.l.getD i.n.toNat bN) b).1;rw[k] at h e ⊢
   have m:(l.length+1)*(aK a.l[i.n.toNat]+aK b+1)<=(l.length+1)*(aK a+aK b+1):=Nat.mul_le_mul_left _ o_
   have o:((i::l).length+1)*(aK a+aK b+1)=(l.length+1)*(aK a+aK b+1)+(aK a+aK b+1):=by simp only[eo];rw[Nat.succ_mul]
   omega
def PP(F:Nat->Prop)(l:List aJ)(y u v:Value)(a b:aJ)(w:World)(E:X9 F w y l)(D:PV F w u a)(G:PV F w v b)(I:∀k,F k->k<w.heap.size)(L:aK a<=400)(J:aK b<=400)(T:l.length<=100000):
 Calls prog 299 #[u,y,v] w (eM F w (nN a l b)):=by
 have C:=tN l a b;have K:(l.length+1)*(aK a+aK b+1)<=100001*801:=Nat.mul_le_mul o_ o_
 have B:=aB (yY l F y u v a b w E D G I o_ o_)
 obtain⟨r,A⟩:=E_ (nN a l b);rw[<-A];unfold nN iE at A;have q:=aB A
 obtain⟨x,c,rfl⟩:∃x c,y=.slice x l.length c:=by
  rcases E with ⟨rfl,x,c,h⟩|⟨g,o,c,h,_⟩
  ·exact⟨x,c,h⟩
  ·exact⟨_,_,h⟩
 obtain⟨t,z,rfl⟩:=D.form;obtain⟨O,P,rfl⟩:=G.form;generalize cL l a b=p at B q C;clear E D G I A;go_enter func299,ntmps299;go_wp2_with fail;refine B.out.mono ?_;rintro e H ⟨d,⟨f,u1,rfl,s⟩|⟨f,rfl⟩⟩
 ·have N:=aB (mP (Grow F w H) u1 p.1 H s o_)
  obtain⟨S,Q,rfl⟩:=s.form;have M:=aB s;have n:=aB d;have j:=aB f;clear s d f B;go_wp2_with fail;refine N.out.mono ?_;rintro e U ⟨rfl,⟨m,rfl⟩|⟨m,rfl⟩⟩
  ·have i:Hid (r=(p.1,0)):=by show _=_;rw[q.out,if_pos j.out,if_neg o_];rw[<-j.out]
   clear m;go_wp2_with fail;go_ret;exact eM.ok n.out i.out M.out
  ·have i:Hid (r=(bN,6)):=by show _=_;rw[q.out,if_pos j.out,if_pos m]
   clear m;go_wp2_with fail;exact⟨rfl,eM.stop n.out i.out d_⟩
 ·have i:Hid (r=(p.1,p.2)):=by show _=_;rw[q.out,if_neg f]
  have j:=aB f;have n:=aB d;clear f d B;go_wp2_with fail;exact⟨rfl,eM.stop n.out i.out j.out⟩
def jW(w:World):Prop:=Lib.TabIs prog w "internal/strconv.uint64pow10" .u64 Lib.pow10Tab
def jW.keep{g:Nat}(h:jW w)(b:prog.globalNamed "internal/strconv.uint64pow10"=some g)(a:w'.heap[g]?=w.heap[g]?):jW w':=by
 unfold jW Lib.TabIs World.var? at h ⊢
 rw[b] at h ⊢
 simp only[Option.bind_some] at h ⊢
 rw[a];exact h
def jW.below(h:jW w)(c:Below w.heap.size w w'):jW w':=by
 cases b:prog.globalNamed "internal/strconv.uint64pow10" with
 |none=>unfold jW Lib.TabIs World.var? at h;rw[b] at h;cases h
 |some g=>
  refine h.keep b (c.block g ?_);unfold jW Lib.TabIs World.var? at h;rw[b] at h;simp only[Option.bind_some] at h;rcases fo g w.heap.size with a|a
  ·exact a
  ·rw[hP (by exact a)] at h
   cases h
def yV:∀(f n:Nat) (t:List UInt8),n<10 ^ (f+1)->jJ (f+1) n t=Lib.decDigits n++t
 |0,n,t,h=>by
  have a:n<10:=by simpa using h
  rw[jJ,Lib.decDigits,if_pos a,dif_pos a];rfl
 |f+1,n,t,h=>by
  rw[jJ,Lib.decDigits];by_cases a:n<10
  ·rw[if_pos a,dif_pos a];rfl
  ·rw[if_neg a,dif_neg a,yV f (n/10) _ (by rw[Nat.pow_succ] at h;omega)]
   simp
def GI(n:Int)(a: -9223372036854775808<=n)(b:n<=9223372036854775807):Lib.itoa n=iO n:=by
 unfold Lib.itoa iO;rw[yV 19 n.natAbs [] o_,jx]
 by_cases h:n<0
 ·rw[if_pos h,if_pos h];rfl
 ·rw[if_neg h,if_neg h,ii,show n.toNat=n.natAbs by omega]
def yT:∀l:List (List UInt8),Lib.join l [44,32]=fE l
 |[]=>rfl
 |[x]=>by simp[Lib.join,List.intercalate,fE]
 |x::y::l=>by
  have a:=yT (y::l);unfold Lib.join List.intercalate at a ⊢
  rw[List.intersperse_cons_cons,List.flatten_cons,List.flatten_cons,a];simp[fE]
def YI(l:List (List UInt8)):Lib.join ((l.map bs).map λx=>x.data.toList) (bs [44,32]).data.toList=fE l:=by
 rw[<-yT,List.map_map];have e:((λx:ByteArray=>x.data.toList) ∘ bs)=id:=funext λx=>by simp[fT]
 rw[e,List.map_id];simp[fT]
def JB(w:World)(x:List UInt8):∀j u,([.string (bs x)]:List Value)[j]?=some u->(w.alloc (.cells #[.string (bs x)] 9)).cell? ((⟨w.heap.size,0,none⟩:Addr).add j)=some u:=by
 intro j v a;match j,a with
 |0,a=>simp at a;subst a;simp[Addr.add,go_sem]
 |j+1,a=>simp at a
def PW(x:List UInt8):∀u∈([.string (bs x)]:List Value),u.oneCell'=true:=by
 intro u a;simp at a;rw[a];rfl
def DQ:(prog.info? 9).map (λi=>(i.zero,i.size,i.bytes))=some (some (.string ⟨#[]⟩),1,16):=k_
def IQ(l:List (List UInt8)):List Value:=l.map λx=>Value.string (bs x)
def sP(F:Nat->Prop)(k:Nat):Prop:=∀(v:Value) (a:aJ) (w:World),PV F w v a->(∀b,F b->b<w.heap.size)->jW w->aK a<=k->k<=1000000->Calls prog 94 #[v] w λe w'=>e=.returned (.string (bs (cD a)))/\Below w.heap.size w w'
def LS(F:Nat->Prop)(k:Nat)(IH:sP F k)(x:Option Addr)(c:Nat)(l:List aJ)(w:World)(hl:PVs F w (.slice x l.length c) l)(hF:∀b,F b->b<w.heap.size)(hp:jW w)(hc:(l.map aK).sum<=k)(hk:k<=1000000):
 Calls prog 143 #[.slice x l.length c] w λe w'=>e=.returned (.string (bs (fE (l.map cD))))/\Below w.heap.size w w':=by
 obtain⟨i0,hi,O,Y,U⟩:=info_parts DQ;have aa:=jP l;have v:=aB IH;have W:=aB hl;have HF:=aB hF;have HP:=aB hp;clear IH hl hF hp;go_enter func143,ntmps143;go_wp2_with fail;go_loopg [3,5,8] l.length (λgk s _ i wr=>∃j:Nat,j+gk=l.length/\i=.int .i64 j/\(∃y d,s=.slice y j d)/\wr.ownsRow w.heap.size 9 1 s j (IQ ((l.map cD).take j))/\Below w.heap.size w wr)
 case atStart=>exact⟨0,o_,rfl,⟨none,0,rfl⟩,World.ownsRow_nil _ _ _ _,ei _ _⟩
 case round=>
  obtain⟨j,hj,rfl,⟨y,d,rfl⟩,n,f⟩:=hrel;by_cases z:j<l.length
  ·obtain⟨m,rfl⟩:∃m,gk=m+1:=⟨gk-1,o_⟩
   have G:=W.out.keep λb I=>f.block b (HF.out b I)
   obtain⟨g,u,rfl,hn,ae,hg,Z,P,V⟩:=G.get j z;have C:l[j]∈l:=fm z;have af:=lW C;have HX:=aB (v.out u l[j] wr V (λb I=>el (HF.out b I) f.size) (HP.out.below f) o_ o_)
   obtain⟨t,u',rfl⟩:=V.form;have L:=f.size;have HO:=aB n;have H:=aB f
   have E:IQ ((l.map cD).take (j+1))=IQ ((l.map cD).take j)++[.string (bs (cD l[j]))]:=by
    rw[gx (by simpa using z)];simp[IQ]
   have J:=aB E;clear V n f E G;go_wp2_with fail;refine HX.out.mono ?_;rintro e D ⟨rfl,r⟩;have ab:=r.size;have q:=gX HO.out r;have A:=aB q;clear q;generalize cD l[j]=tx at*;go_wp2_with (at_builtin;refine wpList_append_lies _ r_ _ _ 37 r_ w.heap.size 9 i0 _ 1 16 underlying37 hi O Y U rfl d_ (.slice y j d) j _ r_ (A.out.alloc _) ⟨D.heap.size,0,none⟩ 1 1 [.string (bs tx)] r_ r_ (JB D _) (PW _) d_ (by unfold maxLen;omega) o_ t_ (D.heap.size+1) s_ ?_)
   intro g4 ac w4 p o B ah;have Q:=aB p;have S:=aB o;clear p o B;go_wp2_with fail;go_roundg m
   case measure=>omega
   case rel=>
    refine⟨j+1,o_,by go_num,⟨_,_,rfl⟩,by rw[J.out];exact Q.out,?_⟩
    exact((H.out.trans (r.mono o_)).alloc o_ _).grown S.out t_ λk hk=>(A.out.lt k hk).1
  ·have K:j=l.length:=o_
   subst K;have L:=f.size;rw[gy s_] at n
   have H:=aB f;have ag:=uO l λa _=>xY a
   rcases n.2 with ⟨X,r2⟩|⟨g,cp,ad,X,r2,T,r4,r5,r6,r7⟩
   ·have e1:l=[]:=ge r2;subst e1;cases X;clear n f W v;go_wp2_with fail;refine(strings_Join_none _ _ _ _).mono ?_;rintro e D ⟨rfl,rfl⟩;go_wp2_with fail;go_ret;exact⟨rfl,H.out⟩
   ·cases X
    have HJ:=aB (strings_Join g 0 d ((l.map cD).map bs) (bs [44,32]) wr (λi x N=>by
     refine aA T ?_
     have e2:(IQ (l.map cD))[i]?=some (.string x):=by
      unfold IQ;rw[iw] at N ⊢
      obtain⟨y,hy,rfl⟩:=Option.map_eq_some_iff.1 N;rw[hy];rfl
     have ai:i<l.length:=by
      have:=(gv.1 N).1;simpa using this
     rw[<-r7,fu,if_pos o_] at e2
     simpa using e2) (aD T) t_ (by simpa using r4) (by rw[YI];omega))
    have M:((l.map cD).map bs).length=l.length:=s_
    rw[M,YI] at HJ;clear n f W v T r6 r7;go_wp2_with fail;refine HJ.out.mono ?_;rintro e D ⟨rfl,r⟩;go_wp2_with fail;go_ret;exact⟨rfl,H.out.trans (r.mono o_)⟩
def WE{os:Array Obj}(h:w'=Sort.grow (w.drewN k) os):Below w.heap.size w w':=by
 subst h;refine⟨rfl,rfl,rfl,?_,λi a=>?_⟩
 ·show w.heap.size<=(w.heap++os).size
  rw[Array.size_append];omega
 ·show (w.heap++os)[i]?=w.heap[i]?
  rw[Array.getElem?_append_left a]
def G0:(⟨(Lib.formatBool false).toArray⟩:ByteArray)=bs [102,97,108,115,101]:=k_
def M6:(⟨(Lib.formatBool true).toArray⟩:ByteArray)=bs [116,114,117,101]:=k_
def GC(F:Nat->Prop)(k:Nat)(g:sP F k):sP F (k+1):=by
 intro v a w h y f j H;rcases h.cases with ⟨n,rfl,rfl,u,t⟩|⟨b,rfl,rfl⟩|⟨s,rfl,rfl⟩|⟨x,c,l,rfl,rfl,z⟩
 ·have q:=lN;have d:cD (bC n)=iO n:=by rw[jY];rfl
  have p:=aB (strconv_FormatInt_10 n u t w f);rw[d];clear h g j f;go_enter func94,ntmps94;go_wp2_with fail;refine p.out.mono ?_;rintro e r ⟨rfl,G,I,i⟩;have o:=WE i;clear i;go_wp2_with fail;go_ret;exact⟨by rw[GI n u t];rfl,o⟩
 ·have q:=kQ;have B:=uS;have d:cD (bO b)=if b then [116,114,117,101] else [102,97,108,115,101]:=by rw[jY];cases b<;>rfl
  rw[d];clear h g j f;cases b
  all_goals
   go_enter func94,ntmps94;go_wp2_with fail;refine(strconv_FormatBool _ _).mono ?_;rintro e r ⟨rfl,rfl⟩;go_wp2_with fail;go_ret;exact⟨by first|(rw[G0];rfl)|(rw[M6];rfl),ei _ _⟩
 ·have q:=lM;have B:=xZ;have m:=kH;have d:cD (bK s)=[34]++s++[34]:=by rw[jY];rfl
  have D:(bs s).size=s.length:=gB s;rw[kW] at j;rw[d];clear h g f;go_enter func94,ntmps94;go_wp2_with fail;go_ret;refine⟨?_,ei _ _⟩;show Ending.returned (.string ((⟨#[34]⟩:ByteArray)++bs s++(⟨#[34]⟩:ByteArray)))=_
  rw[ZY,ZZ];rfl
 ·have q:=kO;have B:=uR;have m:=mC;have A:=gL;have d:cD (aY l)=[91]++fE (l.map cD)++[93]:=by rw[jY];rfl
  have C:=uO l λa _=>xY a
  rw[iW] at j;have p:=aB (LS F k g x c l w z y f o_ o_)
  have D:(bs (fE (l.map cD))).size=(fE (l.map cD)).length:=gB _;rw[d];generalize fE (l.map cD)=E at*;clear h g f z y;go_enter func94,ntmps94;go_wp2_with fail;refine p.out.mono ?_;rintro e r ⟨rfl,o⟩;go_wp2_with fail;go_ret;refine⟨?_,o⟩;show Ending.returned (.string (bs [91]++bs E++bs [93]))=_
  rw[sO,sO];rfl
def pD(F:Nat->Prop):∀k,sP F k
 |0=>λv a w _ _ _ h=>by have:=sM a;omega
 |k+1=>GC F k (pD F k)
def A5(F:Nat->Prop)(v:Value)(a:aJ)(w:World)(h:PV F w v a)(g:∀b,F b->b<w.heap.size)(i:jW w)(j:aK a<=100000):
 Calls prog 303 #[v] w λe p=>e=.returned (.string (bs (jB a)))/\Below w.heap.size w p:=by
 have k:=aB (pD F 100000 v a w h g i j o_)
 rcases h.cases with ⟨n,rfl,rfl,u,t⟩|⟨b,rfl,rfl⟩|⟨s,rfl,rfl⟩|⟨x,c,l,rfl,rfl,r⟩
 ·have q:=mY;have d:jB (bC n)=cD (bC n):=rfl;rw[d];generalize cD (bC n)=o at*;clear h g i j;go_enter func303,ntmps303;go_wp2_with fail;refine k.out.mono ?_;rintro e m ⟨rfl,f⟩;go_wp2_with fail;go_ret;exact⟨rfl,f⟩
 ·have q:=kP;have d:jB (bO b)=cD (bO b):=rfl;rw[d];generalize cD (bO b)=o at*;clear h g i j;go_enter func303,ntmps303;go_wp2_with fail;refine k.out.mono ?_;rintro e m ⟨rfl,f⟩;go_wp2_with fail;go_ret;exact⟨rfl,f⟩
 ·have q:=kH;have d:jB (bK s)=s:=rfl;rw[d];clear h g i j k;go_enter func303,ntmps303;go_wp2_with fail;go_ret;exact⟨rfl,ei _ _⟩
 ·have q:=mC;have d:jB (aY l)=cD (aY l):=rfl;rw[d];generalize cD (aY l)=o at*;clear h g i j r;go_enter func303,ntmps303;go_wp2_with fail;refine k.out.mono ?_;rintro e m ⟨rfl,f⟩;go_wp2_with fail;go_ret;exact⟨rfl,f⟩
def O9(F:Nat->Prop)(v:Value)(a:aJ)(w:World)(h:PV F w v a)(i:bQ a)(k:aK a<=1000000):Calls prog 317 #[v] w (eM F w (dX a)):=by
 rcases h.cases with ⟨m,rfl,rfl,B,A⟩|⟨b,rfl,rfl⟩|⟨s,rfl,rfl⟩|⟨x,c,l,rfl,rfl,y⟩
 ·have q:=jA;have o:=mY;have d:dX (bC m)=(bN,2):=rfl;rw[d];clear h i k;go_enter func317,ntmps317;go_wp2_with fail;exact⟨rfl,eM.stop (ei _ _) rfl d_⟩
 ·have q:=gM;have o:=kP;have d:dX (bO b)=(bN,2):=rfl;rw[d];clear h i k;go_enter func317,ntmps317;go_wp2_with fail;exact⟨rfl,eM.stop (ei _ _) rfl d_⟩
 ·have q:=kN;have o:=kH;have t:cQ s:=i.txt;have d:dX (bK s)=(bC (dT s).length,0):=rfl;have C:(bs s).size=s.length:=gB s;rw[kW] at k;have g:=tL s
  have f:Lib.runeCount (bs s)=(dT s).length:=by
   unfold Lib.runeCount;have n:(bs s).data.toList=s:=by simp[fT]
   rw[yW (bs s) (bs s).size 0 o_ (by rw[n];exact t),n];rfl
  have p:=aB (utf8_RuneCountInString (bs s) w o_)
  rw[f] at p;rw[d];clear h i f;go_enter func317,ntmps317;go_wp2_with fail;refine p.out.mono ?_;rintro e r ⟨rfl,z,j⟩;have u:Below w.heap.size w r:=by rw[j];exact(ei _ w).alloc (eh _) _
  clear j;go_wp2_with fail;go_ret;exact eM.ok u rfl (PV.num _ _ _ o_ o_)
 ·have q:=gL;have d:dX (aY l)=(bC l.length,0):=rfl;have g:=jP l;rw[iW] at k;rw[d];clear h i y;go_enter func317,ntmps317;go_wp2_with fail;go_ret;exact eM.ok (ei _ _) rfl (PV.num _ _ _ o_ o_)
def P0(F:Nat->Prop)(x:Option Addr)(c:Nat)(l:List aJ)(v:Value)(b:aJ)(w:World)(s:PVs F w (.slice x l.length c) l)(o:PV F w v b)(N:l.length<=1000000):Calls prog 291 #[.iface 233 (.slice x l.length c),v] w (eM F w (dB (aY l) b)):=by
 have q:=gL;have B:=aB (uF F v b l.length w o o_)
 obtain⟨t,z,rfl⟩:=o.form;have A:=aB s
 have y:dB (aY l) b=if b.sort≠0 then (bN,2) else if b.n<0\/(l.length:Int)<=b.n then (bN,4) else (l.getD b.n.toNat bN,0):=by
  simp[dB,jM,aY]
 have j:=aB y;generalize dB (aY l) b=r at j;clear o s y;go_enter func291,ntmps291;go_wp2_with fail;refine B.out.mono ?_;rintro e G ⟨rfl,⟨f,rfl⟩|⟨f,i,rfl⟩|⟨f,k,i,D,rfl⟩⟩
 ·go_wp2_with fail;exact⟨rfl,eM.stop (ei _ _) (j.out.trans (if_pos f)) d_⟩
 ·go_wp2_with fail;exact⟨rfl,eM.stop (ei _ _) (j.out.trans ((if_neg (λh=>h f)).trans (if_pos i))) d_⟩
 ·obtain⟨g,u,rfl,_,L,J,p,m,n⟩:=A.out.get k i;obtain⟨H,I,rfl⟩:=n.form;have E:=aB n;have d:l.getD b.n.toNat bN=l[k]:=by rw[D];simp[i]
  have a:r=(l[k],0):=by rw[j.out,if_neg (λh=>h f),if_neg o_,d]
  have HRes:=aB a;have M:(0:Int)<=(k:Int):=o_
  have K:(k:Int)<(l.length:Int):=o_
  clear n d a A B;go_wp2_with fail;go_ret;exact eM.ok (ei _ _) HRes.out (E.out.mono λk C=>d7 C)
def I7(r:Nat)(W:World):(convert 21 232 (.int .i32 (r:Int))).run prog W=.ok (.string (bs (EA r))) W:=by
 have a:Utf8.encode (Int.ofNat r)=bs (EA r):=by
  have:∀x:ByteArray,x=bs x.data.toList:=λx=>by cases x;simp[bs]
  exact this _
 rw[Int.ofNat_eq_natCast] at a;simp[convert,run_underlying underlying21,run_underlying underlying232,Conv.intToString,a]
def Z5(F:Nat->Prop)(s:List UInt8)(v:Value)(b:aJ)(w:World)(H:PV F w v b)(O:cQ s)(hc:s.length<=1000000)(T:∀k,F k->k<w.heap.size):Calls prog 291 #[.iface 232 (.string (bs s)),v] w (eM F w (dB (bK s) b)):=by
 have q:=kN;have q':=kH;have hs:(bs s).size=s.length:=gB s;have B:(bs s).data.toList=s:=by simp[fT]
 obtain⟨c,C,l,r3,j⟩:=yI (bs s) (bs s).size 0 #[] o_ (by rw[B];exact O)
 rw[List.drop_zero,B] at l j;have i:(Conv.runesFrom (bs s) (bs s).size 0 #[]).size=c.length:=by rw[C];simp
 have I:=tL s;have a:=run_runes_of_string (P:=prog) w 232 406 21 (bs s) underlying232 underlying406 underlying21 (by rw[i];omega)
 rw[i,C] at a;generalize grownCap w c.length 0 21=Y at a;generalize n:(Obj.cells ((#[]++(c.map λr=>Value.int .i32 (Int.ofNat r)).toArray)++Array.replicate (Y-c.length) (.int .i32 0)) 21)=y at a
 have d:∀k (h:k<c.length),(w.drew.alloc y).cell? ⟨w.heap.size,k,none⟩=some (.int .i32 ((c[k]:Nat):Int)):=λk h=>by
  rw[<-n];refine aA (aL _ _ rfl _) ?_;rw[Array.getElem?_append_left (by simpa using h)]
  simp[h]
 have D:Below w.heap.size w (w.drew.alloc y):=((ei _ w).drew).alloc (eh _) _;have J:=aB (uF F v b c.length (w.drew.alloc y) (H.keep λk S=>D.block k (T k S)) o_)
 obtain⟨t,z,rfl⟩:=H.form
 have L:dB (bK s) b=if b.sort≠0 then (bN,2) else if b.n<0\/(c.length:Int)<=b.n then (bN,4) else (((dT s).map bK).getD b.n.toNat bN,0):=by
  rw[l];simp[dB,jM,bK]
 have A:=aB L;have M:c.length<=1000000:=o_
 have Q:=aB l;have W:=aB j;have G:=aB d;have x:=aB D;generalize dB (bK s) b=r at A;generalize p:w.drew.alloc y=N at a J G x;have K:w.heap.size<N.heap.size:=by rw[<-p];simp
 clear H L d D p n C i B l j I;go_enter func291,ntmps291;go_wp2_with fail;refine J.out.mono ?_;rintro e Z ⟨rfl,⟨o,rfl⟩|⟨o,u,rfl⟩|⟨o,k,u,V,rfl⟩⟩
 ·go_wp2_with fail;exact⟨rfl,eM.stop x.out (A.out.trans (if_pos o)) d_⟩
 ·go_wp2_with fail;exact⟨rfl,eM.stop x.out (A.out.trans ((if_neg (λh=>h o)).trans (if_pos u))) d_⟩
 ·have U:=G.out k u;have l:=Q.out;have j:=W.out
  have m:EA c[k]=(dT s)[k]'(by omega):=by
   have:(c.map EA)[k]?=(dT s)[k]?:=by rw[j]
   rw[iw,fi u,fi o_] at this
   simpa using this
  have g:((dT s).map bK).getD b.n.toNat bN=bK (EA c[k]):=by
   rw[m,V];have E:k<(dT s).length:=o_
   simp[E]
  have f:r=(bK (EA c[k]),0):=by rw[A.out,if_neg (λh=>h o),if_neg o_,g]
  have X:=I7 c[k] Z;have HRes:=aB f;have e1:(0:Int)<=(k:Int):=o_
  have e2:(k:Int)<(c.length:Int):=o_
  clear g f m J G l j;generalize c[k]=rk at*;go_wp2_with fail;go_ret;exact eM.ok x.out HRes.out (PV.str _ _ _)
def Z6(F:Nat->Prop)(u v:Value)(a b:aJ)(w:World)(j:PV F w u a)(d:PV F w v b)(g:bQ a)(f:aK a<=1000000)(i:∀k,F k->k<w.heap.size):Calls prog 291 #[u,v] w (eM F w (dB a b)):=by
 rcases j.cases with ⟨m,rfl,rfl,r,p⟩|⟨x,rfl,rfl⟩|⟨s,rfl,rfl⟩|⟨x,c,l,rfl,rfl,n⟩
 ·have q:=jA;have o:=mY;have e:dB (bC m) b=(bN,2):=by simp[dB,bC]
  rw[e];obtain⟨t,z,rfl⟩:=d.form;clear j d g f i e;go_enter func291,ntmps291;go_wp2_with fail;exact⟨rfl,eM.stop (ei _ _) rfl d_⟩
 ·have q:=gM;have o:=kP;have e:dB (bO x) b=(bN,2):=by simp[dB,bO]
  rw[e];obtain⟨t,z,rfl⟩:=d.form;clear j d g f i e;go_enter func291,ntmps291;go_wp2_with fail;exact⟨rfl,eM.stop (ei _ _) rfl d_⟩
 ·rw[kW] at f;exact Z5 F s v b w d g.txt o_ i
 ·rw[iW] at f;have:=jP l;exact P0 F x c l v b w n d o_
def WP(n m:Int)(w:World):(binOp .eql 180 (.iface 229 (.int .i64 n)) (.iface 229 (.int .i64 m))).run prog w=.ok (.bool (n==m)) w:=k_
def MR(n m:Bool)(w:World):(binOp .eql 180 (.iface 230 (.bool n)) (.iface 230 (.bool m))).run prog w=.ok (.bool (n==m)) w:=k_
def RL(n m:ByteArray)(w:World):(binOp .eql 180 (.iface 232 (.string n)) (.iface 232 (.string m))).run prog w=.ok (.bool (n==m)) w:=k_
def WM(a b:List UInt8)(w:World):(binOp .eql 180 (.iface 232 (.string (bs a))) (.iface 232 (.string (bs b)))).run prog w=.ok (.bool (a==b)) w:=by
 rw[RL];have h:(bs a==bs b)=((bs a).data==(bs b).data):=rfl;rw[h];simp[bs]
def RP(u v:Value)(w:World):(binOp .eql 180 (.iface 229 u) (.iface 230 v)).run prog w=.ok (.bool false) w:=k_
def WO(u v:Value)(w:World):(binOp .eql 180 (.iface 229 u) (.iface 232 v)).run prog w=.ok (.bool false) w:=k_
def RO(u v:Value)(w:World):(binOp .eql 180 (.iface 229 u) (.iface 233 v)).run prog w=.ok (.bool false) w:=k_
def RR(u v:Value)(w:World):(binOp .eql 180 (.iface 230 u) (.iface 229 v)).run prog w=.ok (.bool false) w:=k_
def RQ(u v:Value)(w:World):(binOp .eql 180 (.iface 230 u) (.iface 232 v)).run prog w=.ok (.bool false) w:=k_
def MQ(u v:Value)(w:World):(binOp .eql 180 (.iface 230 u) (.iface 233 v)).run prog w=.ok (.bool false) w:=k_
def WN(u v:Value)(w:World):(binOp .eql 180 (.iface 232 u) (.iface 229 v)).run prog w=.ok (.bool false) w:=k_
def RN(u v:Value)(w:World):(binOp .eql 180 (.iface 232 u) (.iface 230 v)).run prog w=.ok (.bool false) w:=k_
def RM(u v:Value)(w:World):(binOp .eql 180 (.iface 232 u) (.iface 233 v)).run prog w=.ok (.bool false) w:=k_
def nC(h:a=b):Hs.same a b=true:=(yH a b).2 h
def dN(h:a≠b):Hs.same a b=false:=by
 cases c:Hs.same a b
 ·rfl
 ·exact absurd ((yH a b).1 c) h
def BB:aY l=aY m↔l=m:=by simp[aY]
def AY(F:Nat->Prop)(k:Nat):Prop:=∀(u v:Value) (a b:aJ) (w:World),PV F w u a->PV F w v b->aK a<=k->k<=1000000000->aK b<=1000000000->
 Calls prog 307 #[u,v] w λe w'=>w'=w/\e=.returned (.bool (Hs.same a b))
def DG(F:Nat->Prop)(k:Nat)(P:AY F k)(x y:Option Addr)(c d:Nat)(l m:List aJ)(w:World)(O:PVs F w (.slice x l.length c) l)(E:PVs F w (.slice y m.length d) m)(hc:aK (aY l)<=k+1)(hk:k<=1000000000)(W:aK (aY m)<=1000000000):
 Calls prog 311 #[.slice x l.length c,.slice y m.length d,.func (.func 307) #[] #[]] w λe Y=>Y=w/\e=.returned (.bool (Hs.same (aY l) (aY m))):=by
 have h1:=jP l;have h2:=jP m;rw[iW] at hc W;by_cases n:l.length=m.length
 ·have J:((l.length:Int) != (l.length:Int))=false:=s_
  rw[<-n] at E ⊢
  have HL:=aB O;have HM:=aB E;have M:=aB P;have v:=aB n;clear O E P n;go_enter func311,ntmps311;go_wp2_with fail;go_loopg [6,7,8,9,17] l.length (λgk _ _ _ _ i wr=>∃j:Nat,j+gk=l.length/\i=.int .i64 j/\wr=w/\Hid (l.take j=m.take j))
  case atStart=>exact⟨0,o_,rfl,rfl,by simp[Hid]⟩
  case round=>
   obtain⟨j,hj,rfl,rfl,I⟩:=hrel;by_cases o:j<l.length
   ·obtain⟨q,rfl⟩:∃q,gk=q+1:=⟨gk-1,o_⟩
    obtain⟨g,u,rfl,hn,hF,hg,V,L,Q⟩:=HL.out.get j o;obtain⟨g',u',rfl,N,Z,aa,S,H,B⟩:=HM.out.get j (by rw[<-v.out];exact o)
    have K:=lW (fm o);have f:j<m.length:=by rw[<-v.out];exact o
    have D:=lW (fm f);have G:=aB (M.out u u' l[j] (m[j]'f) wr Q B o_ hk o_)
    obtain⟨t,z,rfl⟩:=Q.form;obtain⟨t',z',rfl⟩:=B.form;have A:l.take (j+1)=l.take j++[l[j]]:=gx o;have r:m.take (j+1)=m.take j++[m[j]'f]:=gx f;have s:l[j]?=some l[j]:=fi o;have C:m[j]?=some (m[j]'f):=fi f;generalize l[j]=a at*;generalize m[j]'f=b at*;clear Q B K D hn N;by_cases p:a=b
    ·rw[nC p] at G;have U:Hid (l.take (j+1)=m.take (j+1)):=by show _=_;rw[A,r,I.out,p]
     clear A r s C I p;go_wp2_with fail;refine G.out.mono ?_;rintro e X ⟨rfl,rfl⟩;go_wp2_with fail;go_roundg q
     case measure=>omega
     case rel=>exact⟨j+1,o_,by go_num,rfl,U⟩
    ·rw[dN p] at G;have T:Hid (l≠m):=by show _≠_;intro e;rw[e,C] at s;cases s;exact p rfl
     clear A r s C I p;go_wp2_with fail;refine G.out.mono ?_;rintro e X ⟨rfl,rfl⟩;go_wp2_with fail;go_ret;exact⟨rfl,by rw[dN λe=>T.out (BB.1 e)];rfl⟩
   ·have HE:Hid (l=m):=by
     show _=_
     have:=I.out;rw[gy o_,gy (by rw[<-v.out];omega)] at this
     exact this
    go_wp2_with fail;go_ret;exact⟨rfl,by rw[nC (BB.2 HE.out)];rfl⟩
 ·have J:((l.length:Int) != (m.length:Int))=true:=t_
  have T:Hid (l≠m):=by show _≠_;intro e;exact n (by rw[e])
  clear O E P;go_enter func311,ntmps311;go_wp2_with fail;go_ret;exact⟨rfl,by rw[dN λe=>T.out (BB.1 e)];rfl⟩
def PM(F:Nat->Prop)(k:Nat)(j:AY F k):AY F (k+1):=by
 intro u v a b w m g o H i;rcases m.cases with ⟨n,rfl,rfl,I,G⟩|⟨s,rfl,rfl⟩|⟨s,rfl,rfl⟩|⟨x,c,l,rfl,rfl,z⟩
 ·have q:=jA;rcases g.cases with ⟨t,rfl,rfl,_,_⟩|⟨f,rfl,rfl⟩|⟨f,rfl,rfl⟩|⟨C,B,y,rfl,rfl,_⟩
  ·have p:=WP
   have d:Hid (Hs.same (bC n) (bC t)=(n==t)):=by
    show _=_
    by_cases e:n=t
    ·rw[nC (by rw[e]),e,beq_self_eq_true]
    ·rw[dN (by simp[bC,e]),beq_eq_false_iff_ne.2 e]
   clear m g j o i;generalize Hs.same (bC n) (bC t)=r at*;go_enter func307,ntmps307;go_wp2_with fail;go_ret;exact⟨rfl,by rw[d.out];rfl⟩
  ·have p:=RP;have d:Hid (Hs.same (bC n) (bO f)=false):=dN (by simp[bC,bO])
   clear m g j o i;generalize Hs.same (bC n) (bO f)=r at*;go_enter func307,ntmps307;go_wp2_with fail;go_ret;exact⟨rfl,by rw[d.out];rfl⟩
  ·have p:=WO;have d:Hid (Hs.same (bC n) (bK f)=false):=dN (by simp[bC,bK])
   clear m g j o i;generalize Hs.same (bC n) (bK f)=r at*;go_enter func307,ntmps307;go_wp2_with fail;go_ret;exact⟨rfl,by rw[d.out];rfl⟩
  ·have p:=RO;have d:Hid (Hs.same (bC n) (aY y)=false):=dN (by simp[bC,aY])
   clear m g j o i;generalize Hs.same (bC n) (aY y)=r at*;go_enter func307,ntmps307;go_wp2_with fail;go_ret;exact⟨rfl,by rw[d.out];rfl⟩
 ·have q:=gM;rcases g.cases with ⟨t,rfl,rfl,_,_⟩|⟨f,rfl,rfl⟩|⟨f,rfl,rfl⟩|⟨C,B,y,rfl,rfl,_⟩
  ·have p:=RR;have d:Hid (Hs.same (bO s) (bC t)=false):=dN (by simp[bO,bC])
   clear m g j o i;generalize Hs.same (bO s) (bC t)=r at*;go_enter func307,ntmps307;go_wp2_with fail;go_ret;exact⟨rfl,by rw[d.out];rfl⟩
  ·have p:=MR
   have d:Hid (Hs.same (bO s) (bO f)=(s==f)):=by
    show _=_
    cases s<;>cases f<;>first|exact nC rfl|exact dN (by simp[bO])
   clear m g j o i;generalize Hs.same (bO s) (bO f)=r at*;go_enter func307,ntmps307;go_wp2_with fail;go_ret;exact⟨rfl,by rw[d.out];rfl⟩
  ·have p:=RQ;have d:Hid (Hs.same (bO s) (bK f)=false):=dN (by simp[bO,bK])
   clear m g j o i;generalize Hs.same (bO s) (bK f)=r at*;go_enter func307,ntmps307;go_wp2_with fail;go_ret;exact⟨rfl,by rw[d.out];rfl⟩
  ·have p:=MQ;have d:Hid (Hs.same (bO s) (aY y)=false):=dN (by simp[bO,aY])
   clear m g j o i;generalize Hs.same (bO s) (aY y)=r at*;go_enter func307,ntmps307;go_wp2_with fail;go_ret;exact⟨rfl,by rw[d.out];rfl⟩
 ·have q:=kN;rcases g.cases with ⟨t,rfl,rfl,_,_⟩|⟨f,rfl,rfl⟩|⟨f,rfl,rfl⟩|⟨C,B,y,rfl,rfl,_⟩
  ·have p:=WN;have d:Hid (Hs.same (bK s) (bC t)=false):=dN (by simp[bK,bC])
   clear m g j o i;generalize Hs.same (bK s) (bC t)=r at*;go_enter func307,ntmps307;go_wp2_with fail;go_ret;exact⟨rfl,by rw[d.out];rfl⟩
  ·have p:=RN;have d:Hid (Hs.same (bK s) (bO f)=false):=dN (by simp[bK,bO])
   clear m g j o i;generalize Hs.same (bK s) (bO f)=r at*;go_enter func307,ntmps307;go_wp2_with fail;go_ret;exact⟨rfl,by rw[d.out];rfl⟩
  ·have p:=WM
   have d:Hid (Hs.same (bK s) (bK f)=(s==f)):=by
    show _=_
    by_cases e:s=f
    ·rw[nC (by rw[e]),e,beq_self_eq_true]
    ·rw[dN (by simp[bK,e]),beq_eq_false_iff_ne.2 e]
   clear m g j o i;generalize Hs.same (bK s) (bK f)=r at*;go_enter func307,ntmps307;go_wp2_with fail;go_ret;exact⟨rfl,by rw[d.out];rfl⟩
  ·have p:=RM;have d:Hid (Hs.same (bK s) (aY y)=false):=dN (by simp[bK,aY])
   clear m g j o i;generalize Hs.same (bK s) (aY y)=r at*;go_enter func307,ntmps307;go_wp2_with fail;go_ret;exact⟨rfl,by rw[d.out];rfl⟩
 ·have q:=gL;rcases g.cases with ⟨t,rfl,rfl,_,_⟩|⟨f,rfl,rfl⟩|⟨f,rfl,rfl⟩|⟨C,B,y,rfl,rfl,A⟩
  ·have p:=jA;have d:Hid (Hs.same (aY l) (bC t)=false):=dN (by simp[aY,bC])
   clear m g z j o i;generalize Hs.same (aY l) (bC t)=r at*;go_enter func307,ntmps307;go_wp2_with fail;go_ret;exact⟨rfl,by rw[d.out];rfl⟩
  ·have p:=gM;have d:Hid (Hs.same (aY l) (bO f)=false):=dN (by simp[aY,bO])
   clear m g z j o i;generalize Hs.same (aY l) (bO f)=r at*;go_enter func307,ntmps307;go_wp2_with fail;go_ret;exact⟨rfl,by rw[d.out];rfl⟩
  ·have p:=kN;have d:Hid (Hs.same (aY l) (bK f)=false):=dN (by simp[aY,bK])
   clear m g z j o i;generalize Hs.same (aY l) (bK f)=r at*;go_enter func307,ntmps307;go_wp2_with fail;go_ret;exact⟨rfl,by rw[d.out];rfl⟩
  ·have D:=aB (DG F k j x C c B l y w z A o o_ i)
   clear m g z A j o i;generalize Hs.same (aY l) (aY y)=r at*;go_enter func307,ntmps307;go_wp2_with fail;refine D.out.mono ?_;rintro e E ⟨rfl,rfl⟩;go_wp2_with fail;go_ret;exact⟨rfl,rfl⟩
def uG(F:Nat->Prop):∀k,AY F k
 |0=>λu v a b w _ _ h=>by have:=sM a;omega
 |k+1=>PM F k (uG F k)
end Go.Proofs.YthbffcmfmjpncaaGreatDoor
