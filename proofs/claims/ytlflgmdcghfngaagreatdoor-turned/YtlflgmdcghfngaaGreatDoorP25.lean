/- Contracts of the program: the names of an expression. -/
import Derived.Test.YtlflgmdcghfngaaGreatDoorP24
set_option linter.defProp false
set_option maxRecDepth 100000
set_option maxHeartbeats 4000000
namespace Go.Proofs.YtlflgmdcghfngaaGreatDoor
open Hs
open _root_.Go.Proofs.Tryz
open Go.RowKit
variable{lo:Nat}{t:TypeId}{A:aE}{w:aG}{z:aQ}{s:aW}{F:bY}{fp:eK}
def KO(w:aG)(t:TypeId)(z:aQ)(a:aE)(lo j:Nat)(y:Option Addr)(m:Nat)(e_:cN)(d:Nat)(r:PN (Btw lo j) w (.iface t z) a)(b:w.ownsRow j 9 1 (.slice y e_.length m) e_.length (RC e_))(i:j<=w.heap.size)(u:fG d a)(A:e_.length+cF d a<=90000):
 Calls prog 52 #[.iface t z,.slice y e_.length m] w λe v=>Below j w v/\(((aP [] true d a ⟨e_,0,0⟩).kind=0/\e=aX (.tuple #[]))\/((aP [] true d a ⟨e_,0,0⟩).kind≠0/\e=cU (aP [] true d a ⟨e_,0,0⟩).kind (aP [] true d a ⟨e_,0,0⟩).l_)):=by
 have o:Below w.heap.size w (w.alloc (.cells #[FVlen,.slice y e_.length m] 150)):=(eh _ w).alloc cL _
 have n:CK w.heap.size j lo [] FVlen (w.alloc (.cells #[FVlen,.slice y e_.length m] 150)) e_:=
  ⟨⟨.slice y e_.length m,aN _ _ rfl _,aY b λk x=>o.block k (cQ b k x),λe=>Nat.lt_irrefl _ (cQ b _ e),i⟩,d6 ⟨rfl,rfl⟩⟩
 have s:=aB (ST w.heap.size j lo [] FVlen s_ (λf B=>by cases B) d (.iface t z) a e_ _ n (r.below (o.mono i)) u A)
 rw[show gA FVlen=true from rfl] at s
 have q:=aB (o.mono i);clear n b r o;generalize aP [] true d a ⟨e_,0,0⟩=c at*;go_in
 go_wp2_with fail;refine s.mono ?_;rintro e C ⟨g,⟨D,rfl,rfl,_⟩|⟨l,rfl⟩⟩
 ·have h:=aB (q.trans g.bel);clear g;go_wp2
  go_end0;exact⟨h,rfl⟩
 ·have h:=aB (q.trans g.bel);have p:=aB l;clear g l;go_wp2_with fail;exact⟨rfl,h,d6 ⟨p,rfl⟩⟩
def mW(s:aW):List aM:=match s.m.f_.getLast? with
 |none=>[]
 |some f=>f.g_
def EvF(F:bY)(w:aG)(code:List aI)(p:aQ)(W:aG):Prop:=
 ∃G:Nat->Prop,(∀k,F k->G k)/\Below w.heap.size w W/\C9 fp0 G W p ⟨[],code⟩/\∀k,G k->k<W.heap.size
def GI{d:Nat}{e_:cN}{p0:Option Addr}(w W:aG)(j:Below w.heap.size w W)(aa:w.heap.size+1<W.heap.size)(v:∀b,F b->b<w.heap.size)(J:eF F w (.pointer p0) e_)(K:e_.length<=1000000)(hn:PN (Btw lo w.heap.size) w (.iface t z) A)(P:Hs.ExOk [] true e_ d A)(Q:pI d A)(hl:(aF [] e_ d A 0).length<=1000000)(V:1<=(aF [] e_ d A 0).length):
 Calls prog 118 #[aZ W.heap.size,.iface t z] (W.alloc (.cells #[bG,bG,.pointer p0] 177)) λe m=>e=aX (.tuple #[])/\∃x n c,m.cell? (aH W.heap.size 1)=some (.slice x n c)/\W.heap.size<m.heap.size/\Below W.heap.size W m/\
  ∀y,Fr (w.heap.size+1) m y->y.heap[m.heap.size]?=some (.cells #[.string (bs []),.slice x n c] 130 (0,0))->EvF F w (aF [] e_ d A 0) (aZ m.heap.size) y:=by
 have s:Below W.heap.size W (W.alloc (.cells #[bG,bG,.pointer p0] 177)):=(eh _ _).alloc cL _;have r:(W.alloc (.cells #[bG,bG,.pointer p0] 177)).heap[W.heap.size]?=some (.cells #[bG,bG,.pointer p0] 177 (0,0)):=aN _ _ rfl _
 have M:∀b,F b->(W.alloc (.cells #[bG,bG,.pointer p0] 177)).heap[b]?=w.heap[b]?:=λb h=>by
  have:=v b h;rw[s.block b o_,j.block b this]
 have H:CP fp0 (λ_=>0) (([]:List aE).map (·.x_)) W.heap.size F (W.alloc (.cells #[bG,bG,.pointer p0] 177)) [] e_:=
  ⟨⟨_,_,_,r,⟨[],World.ownsRow_nil _ _ _ _,rfl,λi o h=>by simp at h⟩,eF.keep M dP J,d7 ⟨rfl,rfl⟩⟩,λk p=>⟨by have:=v k p;simp;omega,by have:=v k p;omega,by rw[jF r];simp[Value.ownBlock]⟩⟩
 have O:PN (Btw lo W.heap.size) (W.alloc (.cells #[bG,bG,.pointer p0] 177)) (.iface t z) A:=PN.grow hn (λk _ p=>((j.trans (s.mono j.size)).block k p)) cL j.size
 refine(qE (fp:=fp0) (fb:=λ_=>0) (fs:=[]) (cb:=W.heap.size) (lo:=lo) (F:=F) (a_:=true) (e_:=e_) K s_ (λk p=>by simp at p) d (.iface t z) A [] _ H O P Q (by simpa using hl)).mono ?_
 rintro e m ⟨rfl,C,I⟩;obtain⟨fv,Y,sp,T,⟨xs,U,Z⟩, -, -⟩:=C.blk;have B:([]++(aF [] e_ d A ([]:List (Option aI)).length).map some).length=(aF [] e_ d A 0).length:=s_
 rw[B] at U
 obtain⟨g,q,l,rfl,N,G,L⟩:∃g q l,Y=.slice (some (aH g 0)) (aF [] e_ d A 0).length q/\W.heap.size+1<=g/\m.heap[g]?=some (.cells l 228 (0,0))/\l.toList.take ((aF [] e_ d A 0).length*1)=xs:=by
  rcases U.2 with ⟨_,N⟩|⟨g,q,l,X,N,G,r4,r5,r6,L⟩
  ·omega
  ·exact⟨g,q,l,X,N,G,L⟩
 have a:Below W.heap.size W m:=s.trans I.bel;have S:=aC G;refine⟨rfl,_,_,_,aA T rfl,aC T,a,λy f E=>⟨λk=>F k\/k=m.heap.size\/k=g,λ_ h=>d7 h,?_,?_,λk p=>?_⟩⟩
 ·have ab:=j.size;have ad:=a.size;refine⟨f.os.trans (a.os.trans j.os),f.tape.trans (a.tape.trans j.tape),f.output.trans (a.output.trans j.output),by have:=f.size;omega,λk p=>?_⟩
  rw[f.block k o_ o_,a.block k o_,j.block k p]
 ·refine⟨m.heap.size,g,q,l,rfl,d6 (d7 rfl),E,d6 (d6 rfl),by rw[f.block g S o_];exact G,λi hi=>?_⟩
  obtain⟨u,u1,u2⟩:=Z.2 i (some (aF [] e_ d A 0)[i]) (by simp[fh hi])
  rw[<-L] at u1;refine⟨u,?_,lN.keep (F:=F) u2 (λb D=>f.block b ?_ ?_) λb j=>d7 j⟩
  ·rw[ga] at u1;split at u1
   ·simpa using u1
   ·cases u1
  ·have:=v b D;have:=j.size;have:=a.size;omega
  ·have:=v b D;omega
 ·have ac:m.heap.size<y.heap.size:=aC E;rcases p with p|rfl|rfl
  ·have:=v k p;have:=j.size;have:=a.size;omega
  ·omega
  ·omega
section
variable {fp:eK} {F:bY} {w:aG} {s1:SV} {s:aW}
def UH{d lo:Nat}{A:aE}{t:TypeId}{z:aQ}(h:jC fp F w s1.val s)(H:∀b,F b->b<w.heap.size)(hd:s.m.f_.length<=16)(k:(fF s).length<=1000000)(hn:PN (Btw lo w.heap.size) w (.iface t z) A)(r:Hs.ExOk [] true (fF s) d A)(G:pI d A)(Y:(aF [] (fF s) d A 0).length<=1000000)(i:1<=(aF [] (fF s) d A 0).length):
 ∃y vn B,PVs F w (.slice y vn B) (mW s)/\(∀a∈mW s,aO a<=200)/\Calls prog 84 #[s1.val,.iface t z] w λe C=>∃p,e=aX (.agg #[.pointer p,I_ 0,I_ 0,.pointer none,.slice y vn B,bG])/\EvF F w (aF [] (fF s) d A 0) (.pointer p) C:=by
 obtain⟨p0,I,u⟩:=RR h H hd;by_cases J:s.m.f_=[]
 ·have h0:=h.none J;obtain⟨a,x1,x2,L,n1,S,M,U,V,Z,q⟩:=s1;simp only at h0;subst h0;have P:fF s=[]:=by unfold fF;rw[J];rfl
  have f:mW s=[]:=by unfold mW;rw[J];rfl
  rw[P] at I r Y i k ⊢
  have e0:p0=none:=by cases I;rfl
  subst e0;rw[f];refine⟨none,0,0,d7 ⟨rfl,rfl⟩,(λa ha=>by cases ha),(GB w a q x1 x2 L U S V M Z t z (λv W=>∃p,v=.agg #[.pointer p,I_ 0,I_ 0,.pointer none,bG,bG]/\EvF F w (aF [] [] d A 0) (.pointer p) W) (λW N o=>?_)).mono ?_⟩
  ·refine(GI w W N o H I k hn r G Y i).mono ?_;rintro e C ⟨rfl,x,n,c,K,k2,Q,k4⟩;exact⟨rfl,x,n,c,K,k2,Q,λO l D=>⟨_,rfl,k4 O l D⟩⟩
  ·rintro e C ⟨v,rfl,p,rfl,h⟩;exact⟨p,rfl,h⟩
 ·obtain⟨m,hm⟩:∃m,s.m.f_.length=m+1:=⟨s.m.f_.length-1,by have:=gx.2 J;omega⟩
  have j:s.m.f_.getLast?=some (s.m.f_[m]'(by omega)):=by
   rw[ko,show s.m.f_.length-1=m by omega];exact fh _
  obtain⟨gf,v,e1,T,e3,X,a5⟩:=h.frame m o_
  have f:mW s=s.m.f_[m].g_:=by unfold mW;rw[j]
  obtain⟨y,B,E⟩:∃x c,v.vv=.slice x s.m.f_[m].g_.length c:=by
   rcases PVs.row X.g_ with ⟨l,D⟩|⟨g,aa,xs,l,_⟩
   ·exact⟨none,0,by rw[l];exact D⟩
   ·exact⟨_,_,l⟩
  have hc:=a5 4 v.vv o_ rfl
  rw[E] at hc;obtain⟨a,x1,x2,L,n1,S,M,U,V,Z,q⟩:=s1;simp only at e1 T;rw[hm] at T;subst e1 T;refine⟨y,_,B,by rw[f,<-E];exact X.g_,by rw[f];exact X.varsB,(GA w a q x2 L U S V M Z gf m p0 y s.m.f_[m].g_.length B t z (λv W=>∃p,v=.agg #[.pointer p,I_ 0,I_ 0,.pointer none,.slice y s.m.f_[m].g_.length B,bG]/\EvF F w (aF [] (fF s) d A 0) (.pointer p) W) o_ (H gf e3) hc u (λW N o=>?_)).mono ?_⟩
  ·refine(GI w W N o H I k hn r G Y i).mono ?_;rintro e C ⟨rfl,x,n,c,K,k2,Q,k4⟩;exact⟨rfl,x,n,c,K,k2,Q,λO l D=>⟨_,rfl,k4 O l D⟩⟩
  ·rintro e C ⟨v,rfl,p,rfl,h⟩;exact⟨p,rfl,h⟩
end
noncomputable def G0(s:aW)(A:aE):cC × Nat:=
 (if (fT (aF [] (fF s) 2001 A 0).length ⟨⟨[],aF [] (fF s) 2001 A 0⟩,0,0,[],mW s,[]⟩).2=0 then cJ (fT (aF [] (fF s) 2001 A 0).length ⟨⟨[],aF [] (fF s) 2001 A 0⟩,0,0,[],mW s,[]⟩).1.last else [],(fT (aF [] (fF s) 2001 A 0).length ⟨⟨[],aF [] (fF s) 2001 A 0⟩,0,0,[],mW s,[]⟩).2)
structure IM(s:aW):Prop where
 deep:s.m.f_.length<=16
 few:(fF s).length<=80000
 told:(fF s).length<=(mW s).length
 utf:∀v∈mW s,bU v
def P9{s1:SV}(h:jC fp F w s1.val s)(S:∀b,F b->b<w.heap.size)(y:IM s)(N:qF A)(hz:(aP [] true 2001 A ⟨fF s,0,0⟩).kind=0)(hn:PN (Btw lo w.heap.size) w (.iface t z) A)(hp:kE w):
 Calls prog 54 #[s1.val,.iface t z] w λe w'=>e=aX (.tuple #[.string (bs (G0 s A).1),I_ (G0 s A).2])/\Below w.heap.size w w':=by
 have D:=N.ok hz;have aa:=N.len (fF s) 2001 0;have ab:=y.few;obtain⟨hx,O⟩:=U5 D N.lit y.told o_ y.utf
 have c:=xK (aF [] (fF s) 2001 A 0).length hx cL;have J:G0 s A=(if (fT (aF [] (fF s) 2001 A 0).length ⟨⟨[],aF [] (fF s) 2001 A 0⟩,0,0,[],mW s,[]⟩).2=0 then cJ (fT (aF [] (fF s) 2001 A 0).length ⟨⟨[],aF [] (fF s) 2001 A 0⟩,0,0,[],mW s,[]⟩).1.last else [],(fT (aF [] (fF s) 2001 A 0).length ⟨⟨[],aF [] (fF s) 2001 A 0⟩,0,0,[],mW s,[]⟩).2):=rfl
 rw[J];clear J;generalize hr:fT (aF [] (fF s) 2001 A 0).length ⟨⟨[],aF [] (fF s) 2001 A 0⟩,0,0,[],mW s,[]⟩=r at*;have d:Below w.heap.size w (w.alloc (.cells s1.cells 53)):=(eh _ _).alloc cL _;have h0:jC fp F (w.alloc (.cells s1.cells 53)) s1.val s:=h.keep (λb B=>d.block b (S b B)) dP
 obtain⟨vx,vn,vc,x,I,X⟩:=UH h0 (λb B=>ej (S b B) d.size) y.deep o_ (PN.grow hn (λk _ H=>d.block k H) (en lo) d.size) D (N.lit 2001) o_ O
 obtain⟨a,x1,x2,x3,n1,n2,n3,c1,c2,c3,q⟩:=s1
 refine(YV w a q x1 x2 x3 n1 c1 n2 c2 n3 c3 vx vn vc t z (λv W=>v=.tuple #[.string (bs (if r.2=0 then cJ r.1.last else [])),I_ r.2]/\Below w.heap.size w W)
  (λp W=>EvF F (w.alloc (.cells (SV.cells ⟨a,x1,x2,x3,n1,n2,n3,c1,c2,c3,q⟩) 53)) (aF [] (fF s) 2001 A 0) p W) (EvB w r) X (λp W hq=>?_) (λs f W y I=>?_) (λf W I=>?_)).mono ?_
 ·obtain⟨G,u,h2,h3,h4⟩:=hq;exact ZQ w W (d.trans (h2.mono d.size)) h3 h4 ((x.keep λk H=>h2.block k (ej (S k H) d.size)).mono u) I hx hr
 ·obtain⟨e,u,_⟩:=I;exact⟨by rw[if_neg (by rw[<-e];exact y),e],u⟩
 ·obtain⟨E,u,P,G,K,tv,i,C,Y,ho⟩:=I;obtain⟨l,c, -⟩:=c E.symm;have o:r.1.last=l:=by unfold aJ.last;rw[c];rfl
  have hc:=Y.count;have g:=Y.blk;rw[hc] at g;refine(nG (f+1) f 0 K W (aA g rfl) o_).mono ?_
  rintro e w1 ⟨he,j,rfl⟩;have Z:=aU.drewN W j;have M:=Y.grow Z.below dP (λ_ h=>d7 h)
  have Q:f<=(W.drewN j).heap.size:=by have:=M.lt f (by simp[aR]);omega
  have hM:dX true fp0 f (f+1) f 0 (I_ 0) (I_ 0) (aR true (f+1) f i C) (W.drewN j) G ⟨[]++[r.1],[],[]⟩ (W.drewN j):=⟨Kept.refl _ _,Q,K,tv,i,C,by simpa using hc,M,λ_ h=>d7 h⟩
  refine⟨by simpa using he,?_⟩
  refine(hM.pop (vs:=[]) (a:=l) c (by rw[c];simp)).mono ?_
  rintro e w2 ⟨t2,z2,rfl,x,T,L⟩;have m:Below w.heap.size w w2:=(u.trans (Z.below.mono u.size)).trans ((L.1.belowE (n:=w.heap.size) (em u.size Z.below.size) λk H=>em P (ho k H)))
  refine⟨t2,z2,rfl,(nM G 200 (.iface t2 z2) l w2 x (λb B=>?_) (hp.below m) T o_).mono ?_⟩
  ·obtain⟨_,_,_,_,_,_,_,V,_⟩:=L;exact(V.apart b B).1
  rintro e w3 ⟨rfl,U⟩;exact⟨_,rfl,by rw[<-E,if_pos rfl,o];rfl,m.trans (U.mono m.size)⟩
 ·rintro e w' ⟨v,rfl,rfl,h⟩;exact⟨rfl,h⟩
def IM.of{ks:List aE}{a:List Int}{t:Nat}(e:Good ks)(h:bT ks a t=some s):IM s:=by
 obtain⟨g,j,i,k⟩:=e.sta h;have d:=ES e.ok e.kl a t s h;refine⟨g.deep,?_,?_,λv c=>?_⟩
 ·unfold fF;cases b:s.m.f_.getLast? with
  |none=>simp
  |some f=>exact em (d f (je b)).1.2 o_
 ·unfold fF mW;cases b:s.m.f_.getLast? with
  |none=>simp
  |some f=>exact g.told f (je b)
 ·unfold mW at c;cases b:s.m.f_.getLast? with
  |none=>rw[b] at c;cases c
  |some f=>rw[b] at c;exact(i.utf f (je b)).g_ v c
def lU(s:aW)(A:aE):Nat × Nat:=((aP [] true 2001 A ⟨fF s,0,0⟩).kind,(aP [] true 2001 A ⟨fF s,0,0⟩).l_)
noncomputable def eQ(s:aW)(A:aE):(cC × Nat) × Nat × Nat:=if (lU s A).1=0 then (G0 s A,0,0) else (([],0),lU s A)
abbrev D3(r:(cC × Nat) × Nat × Nat):Value:=.agg #[.string (bs r.1.1),I_ r.1.2,I_ r.2.1,I_ r.2.2]
def nQ{s1:SV}(h:jC fp F w s1.val s)(hF:∀b,F b->b<w.heap.size)(hs:IM s)(X:qF A)(hn:PN (Btw lo w.heap.size) w (.iface t z) A)(hp:kE w):
 Calls prog 26 #[s1.val,.iface t z] w λe j=>e=aX (D3 (eQ s A))/\Below w.heap.size w j:=by
 have ac:=hs.few;have ae:=X.wt 2001;have stAt:∀W,Below w.heap.size w W->jC fp F W s1.val s/\(∀b,F b->b<W.heap.size)/\PN (Btw lo W.heap.size) W (.iface t z) A:=λW g=>⟨h.keep (λb d=>g.block b (hF b d)) dP,λb d=>ej (hF b d) g.size,PN.grow hn (λk _ C=>g.block k C) (en lo) g.size⟩
 have L:∀V i,Below w.heap.size w V->aU V i->Calls prog 53 #[s1.val] i λe j=>∃x n c,e=aX (.slice x n c)/\Below V.heap.size V j/\Calls prog 52 #[.iface t z,.slice x n c] j λe u=>Below V.heap.size V u/\(((lU s A).1=0/\e=aX (.tuple #[]))\/((lU s A).1≠0/\e=cU (lU s A).1 (lU s A).2)):=λV i E D=>by
  have ab:Below w.heap.size w i:=E.trans (D.below.mono E.size);obtain⟨P,k2,U⟩:=stAt i ab;refine(P8 P k2 hs.deep o_).mono ?_
  rintro e j ⟨y,c,rfl,r,m⟩;have aa:Below V.heap.size V j:=D.below.trans (m.mono D.below.size);refine⟨_,_,_,rfl,aa,(KO j t z A lo i.heap.size y c (fF s) 2001 (U.below m) r m.size X.dp o_).mono ?_⟩
  rintro e u ⟨M,K⟩;exact⟨D.below.trans ((m.trans M).mono D.below.size),K⟩
 obtain⟨a,x1,x2,Q,n1,n2,S,Y,c2,c3,q⟩:=s1;refine(KT w a q x1 x2 Q n1 Y n2 c2 S c3 t z (λv W=>v=D3 (eQ s A)/\Below w.heap.size w W) (λk l W=>(k=(lU s A).1/\(k≠0->l=(lU s A).2)/\(k=0->l=0))/\Below w.heap.size w W) (λW g I N ad=>?_) (λk l W T C G g=>?_) (λl W T G p=>?_)).mono ?_
 ·refine(sZ 51 (some (aH (w.heap.size+1) 0)) (some (aH w.heap.size 0)) W (λi=>(lU s A).1=0/\Below (W.heap.size+2) ((W.alloc (.cells #[I_ 0] 39)).alloc (.cells #[I_ 0] 3)) i) (λk n=>k=(lU s A).1/\n=(lU s A).2) (λW=>cr_ _ _ W) (λV E=>?_)).mono ?_
  ·have B:Below W.heap.size W V:=by rw[E];exact qW _ _ _
   have Z:V.heap.size=W.heap.size+2:=by rw[E];simp
   have hK:V.heap[W.heap.size]?=some (.cells #[I_ 0] 39 (0,0)):=by rw[E];exact iF _ _ _
   have hI:V.heap[W.heap.size+1]?=some (.cells #[I_ 0] 3 (0,0)):=by rw[E];exact fR _ _ _
   have O:Below w.heap.size w V:=g.trans (B.mono g.size);by_cases H:(lU s A).1=0
   ·refine(IE V (w.heap.size+1) w.heap.size a q x1 x2 Q n1 Y n2 c2 S c3 t z (λi=>Below V.heap.size V i) (by rw[B.block _ o_];exact N) (by rw[B.block _ o_];exact I) (λi D=>(L V i O D).mono ?_)).mono ?_
    ·rintro e j ⟨x,n,c,rfl,r,m⟩;refine⟨x,n,c,rfl,r,m.mono ?_⟩;rintro e u ⟨M,⟨_,rfl⟩|⟨K,_⟩⟩
     ·exact⟨rfl,M⟩
     ·exact absurd H K
    ·rintro e j ⟨rfl,d⟩;exact d7 ⟨rfl,by rw[d.block _ o_];exact hK,by rw[d.block _ o_];exact hI,H,by rw[<-E,<-Z];exact d⟩
   ·refine(DB V (w.heap.size+1) w.heap.size a q x1 x2 Q n1 Y n2 c2 S c3 t z (lU s A).1 (lU s A).2 (λi=>Below V.heap.size V i) (by rw[B.block _ o_];exact N) (by rw[B.block _ o_];exact I) (λi D=>(L V i O D).mono ?_)).mono ?_
    ·rintro e j ⟨x,n,c,rfl,r,m⟩;refine⟨x,n,c,rfl,r,m.mono ?_⟩;rintro e u ⟨M,⟨K,_⟩|⟨_,rfl⟩⟩
     ·exact absurd K H
     ·exact⟨rfl,M⟩
    ·rintro e j ⟨rfl,d⟩;exact d6 ⟨_,_,H,rfl,d,rfl,rfl⟩
  ·rintro e j (⟨rfl,w1,⟨H,m⟩,rfl⟩|⟨k,n,C,rfl,d,rfl,rfl⟩)
   ·have J:Below W.heap.size W ((w1.setCell (aH W.heap.size 0) (I_ 0)).setCell (aH (W.heap.size+1) 0) (I_ 0)):=
     (((qW W _ _).trans (m.mono o_)).setCell (by show _<=W.heap.size;omega) _).setCell (by show _<=W.heap.size+1;omega) _
    exact⟨0,0,rfl,J,⟨H.symm,λh=>absurd rfl h,λ_=>rfl⟩,g.trans (J.mono g.size)⟩
   ·exact⟨_,_,rfl,d,⟨rfl,λ_=>rfl,λh=>absurd h C⟩,g.trans (d.mono g.size)⟩
 ·obtain⟨⟨r,m, -⟩,f⟩:=G;refine⟨?_,f.trans g⟩;unfold eQ;rw[if_neg (by rw[<-r];exact C),r,m C]
  rfl
 ·obtain⟨⟨r, -,m⟩,f⟩:=G;obtain rfl:=m rfl
  have o:Below w.heap.size w T:=⟨p.os.trans f.os,p.tape.trans f.tape,p.output.trans f.output,em f.size p.size,λk C=>by
   rw[p.block k (ej C f.size) o_,f.block k C]⟩
  obtain⟨P,k2,U⟩:=stAt T o;refine(P9 P k2 hs X r.symm U (hp.below o)).mono ?_;rintro e j ⟨rfl,g⟩;refine⟨_,_,rfl,g,λu d=>⟨?_,(o.trans (g.mono o.size)).trans d⟩⟩
  unfold eQ;rw[if_pos r.symm];rfl
 ·rintro e j ⟨v,rfl,rfl,h⟩;exact⟨rfl,h⟩
noncomputable def kM(s:aW)(l:cC):(cC × Nat) × Nat × Nat:=match iQ l with
 |.error f=>(([],0),f)
 |.ok A=>eQ s A
def yW{sb O n:Nat}{M:Obj}{V:Nat->Option aW}(h:jD fp F w sb O M V s n)(U:IM s)(S:kE w)(P:fX w)(c:ByteArray)(T:c.size<=maxLen):
 Calls prog 9 #[aZ sb,.string c] w λe m=>e=aX (.tuple #[.string (bs (kM s c.data.toList).1.1),I_ (kM s c.data.toList).1.2,I_ (kM s c.data.toList).2.1,I_ (kM s c.data.toList).2.2])/\Below w.heap.size w m:=by
 obtain⟨H,u,Q,L,Y,N,k4,_⟩:=h.cells;have i:=h.lt;have k:∀b,F b->b<w.heap.size:=λb g=>(h.fix b g).1
 obtain⟨a,K,I,y,J,C,B,D,E,G,q⟩:=H
 refine(XJ w sb c a q K I y J D C E B G (λv W=>v=.tuple #[.string (bs (kM s c.data.toList).1.1),I_ (kM s c.data.toList).1.2,I_ (kM s c.data.toList).2.1,I_ (kM s c.data.toList).2.2]/\Below w.heap.size w W)
  (λt z W=>∃A,iQ c.data.toList=.ok A/\Below w.heap.size w W/\PN (Btw w.heap.size W.heap.size) W (.iface t z) A) ((qJ c w P T).mono ?_) (λt z W o=>?_)).mono ?_
 ·rintro e m ⟨g,⟨f,r,p,rfl⟩|⟨A,t,z,r,rfl,p⟩⟩
  ·refine d7 ⟨f.1,f.2,p,rfl,?_,g⟩;unfold kM;rw[r];rfl
  ·exact d6 ⟨t,z,rfl,A,r,g,p⟩
 ·obtain⟨A,o,g,X⟩:=o;have l:∀j v,w.cell? (aH sb j)=some v->W.cell? (aH sb j)=some v:=λj v Z=>(World.cell?_of_block (g.block sb i)).trans Z
  refine⟨l _ _ Q,l _ _ L,l _ _ Y,l _ _ N,l _ _ k4,ej i g.size,(nQ (s1:=⟨a,K,I,y,J,C,B,D,E,G,q⟩) (u.keep (λb d=>g.block b (k b d)) dP) (λb d=>ej (k b d) g.size) U (uA o) X (S.below g)).mono ?_⟩
  rintro e m ⟨rfl,d⟩;refine⟨_,_,_,_,rfl,λW' x=>⟨?_,g.trans ((d.trans (x.mono d.size)).mono g.size)⟩⟩
  unfold kM;rw[o]
 ·rintro e m ⟨v,rfl,rfl,h⟩;exact⟨rfl,h⟩
end Go.Proofs.YtlflgmdcghfngaaGreatDoor
