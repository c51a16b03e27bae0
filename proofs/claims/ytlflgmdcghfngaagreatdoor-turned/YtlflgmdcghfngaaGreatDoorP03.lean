/- Plain: the two programs that show that the program is awake. -/
import Derived.Test.YtlflgmdcghfngaaGreatDoorB03
import Derived.Test.YtlflgmdcghfngaaGreatDoorP02
set_option linter.defProp false
set_option maxRecDepth 100000
namespace Go.Proofs.YtlflgmdcghfngaaGreatDoor.Hs
variable{fs:List aE}{d:Nat}{f:aJ}
def D7:cC:=[102,117,110,99,32,102,40,120,41,32,123,32,114,101,116,117,114,110,32,91,120,44,32,34,195,169,34,93,59,32,125,10,102,117,110,99,32,109,97,105,110,40,41,32,123,32,118,97,114,32,97,32,61,32,102,40,50,41,59,32,112,114,105,110,116,32,97,59,32,112,114,105,110,116,32,108,101,110,40,97,91,49,93,41,59,32,125]
def D8:cC:=[102,117,110,99,32,109,97,105,110,40,41,32,123,10,32,112,114,105,110,116,32,120,59,32,125]
def WC:zW D7 4 [[91,50,44,32,34,195,169,34,93],[49]]:=ZV (by decide+kernel)
def XZ:cE D8=(6,2):=by decide+kernel
def gQ(l:List aJ):List (cC × Nat):=l.map λf=>(f.fn.name,f.l_)
def oQ(s:cN):Prop:=s.Nodup/\s.length<=40001
def oQ.nil:oQ []:=⟨List.nodup_nil,s_⟩
def bI(c:List aI):Prop:=∀l s,aI.begin l s∈c->oQ s
def bI.app{a b:List aI}(h:bI a)(k:bI b):bI (a++b):=λl s c=>by
 rcases eu.1 c with c|c
 ·exact h l s c
 ·exact k l s c
def bI.one{i:aI}(h:i.isBegin=false):bI [i]:=λl s a=>by
 rw[ew] at a;rw[<-a] at h;cases h
def bI.nil:bI []:=λl s a=>by cases a
def vR{c:aE->Nat->List aI}(b:∀a p,bI (c a p)):∀(l:List aE) (p:Nat),bI (bW c l p)
 |[],_=>bI.nil
 |a::l,p=>(b a p).app (vR b l _)
def jJ{c:Prop}[Decidable c]{a b:List aI}(h:bI a)(k:bI b):bI (if c then a else b):=by split<;>assumption
def pC(fs:List aE)(e_:cN):∀(d:Nat) (a:aE) (p:Nat),bI (aF fs e_ d a p)
 |0,_,_=>bI.nil
 |d+1,a,p=>by
  have b:=vR (pC fs e_ d) a.y_ p;have o:∀i:aI,i.isBegin=false->bI [i]:=λi h=>bI.one h
  rw[aF];refine jJ (o _ rfl) (jJ (o _ rfl) (jJ (o _ rfl) (jJ (o _ rfl) (jJ (b.app (o _ rfl)) (jJ (b.app (o _ rfl)) (jJ (b.app (o _ rfl)) (jJ (b.app (o _ rfl)) (jJ (b.app (o _ ?_)) (jJ ?_ (b.app (o _ rfl)))))))))))
  ·split
   ·rfl
   ·split<;>rfl
  ·split
   ·exact(((pC fs e_ d _ _).app (o _ rfl)).app (pC fs e_ d _ _)).app (o _ rfl)
   ·exact bI.nil
def bI.start{l:Nat}{s:cN}{c:List aI}(e:oQ s)(f:bI c):bI (.begin l s::c):=λd b a=>by
 rcases eo.1 a with a|a
 ·cases a;exact e
 ·exact f d b a
def I0(fs:List aE)(d:Nat):Prop:=∀(e_:cN) (a:aE) (p:Nat),dM fs d e_ a->oQ e_->bI (bA fs d e_ a p).1/\oQ (bA fs d e_ a p).2
def vQ(c:I0 fs d):∀(l:List aE) (e_:cN) (p:Nat),StsOk (dM fs d) e_ l->oQ e_->bI (bL (bA fs d) e_ l p)
 |[],_,_,_,_=>bI.nil
 |a::l,e_,p,h,e=>by
  obtain⟨f,b⟩:=c e_ a p h.1 e;have g:(bA fs d e_ a p).2=cZ e_ a:=(mJ fs d e_ a (λ_ _=>False) p h.1 ⟨λ_ _ _ h=>h.elim,λ_ _ h=>h.elim⟩).2.1
  refine f.app ?_;rw[g] at b ⊢
  exact vQ c l _ _ h.2 b
def LH(fs:List aE):∀d,I0 fs d
 |0=>λ_ _ _ h _=>h.elim
 |d+1=>by
  intro g a p h e;have j:=pC fs g d;have k:∀(b:aE) q,StsOk (dM fs d) g b.y_->bI (bL (bA fs d) g b.y_ q):=λb q l=>vQ (LH fs d) b.y_ g q l e
  have s:([115,101,116]==([118,97,114]:cC))=false:=rfl;rcases h with ⟨i,r,t,v,f,_,o⟩|⟨i,_⟩|⟨i,c,t,f,_,m⟩|⟨i,c,b,f,_,l⟩|⟨i,f⟩|⟨i,v,f,_⟩|⟨i,c,f,_⟩
  ·unfold bA;simp only[i,f,gb];exact⟨bI.start e ((j v _).app (bI.one rfl)),⟨e7.2 ⟨o,e.1⟩,t_⟩⟩
  ·unfold bA;simp only[i];exact⟨bI.start e ((vR j _ _).app (bI.one rfl)),e⟩
  ·unfold bA;simp only[i];rcases f with f|⟨x,f,n⟩<;>rw[f]
   ·exact⟨bI.start e ((((j c _).app (bI.one rfl)).app (k t _ m)).app (bI.one rfl) |>.app bI.nil),e⟩
   ·exact⟨bI.start e ((((j c _).app (bI.one rfl)).app (k t _ m)).app (bI.one rfl) |>.app (k x _ n)),e⟩
  ·unfold bA;simp only[i,f];exact⟨bI.start e (((j c _).app (bI.one rfl)).app (k b _ l) |>.app (bI.one rfl)),e⟩
  ·unfold bA;simp only[i];rcases f with f|⟨v,f,_⟩<;>rw[f]
   ·exact⟨bI.start e ((bI.one rfl).app (bI.one rfl)),e⟩
   ·exact⟨bI.start e ((j v _).app (bI.one rfl)),e⟩
  ·unfold bA;simp only[i,f];exact⟨bI.start e ((j v _).app (bI.one rfl)),e⟩
  ·unfold bA;simp only[i,f];exact⟨bI.start e ((j c _).app (bI.one rfl)),e⟩
def T0{f:aE}(h:jI fs d f)(e:f.y_.length<=40000):bI (fO fs d f).code:=by
 obtain⟨⟨g,b,c,j,k⟩,_⟩:=h;have a:(fO fs d f).code=bL (bA fs d) (g.map (·.x_)).reverse b.y_ 0++[.push (bH 0),.give]:=by simp[fO,c]
 rw[a];exact(vQ (LH fs d) b.y_ _ 0 j ⟨List.pairwise_reverse.2 (k.imp λh=>h.symm),by rw[c] at e;simp at e ⊢;omega⟩).app ((bI.one (i:=.push (bH 0)) rfl).app (bI.one (i:=.give) rfl))
def mB(m:cS):Prop:=∀f∈m.f_,oQ f.e_/\bI f.fn.code
def JV(i:aI)(f:aJ)(a:oQ f.e_)(hi:∀l s,i=.begin l s->oQ s):oQ (aL i f).1.e_:=by
 cases i with
 |begin l s=>exact hi l s rfl
 |_=>simp only[aL]<;>(repeat' split)<;>exact a
def U7{p:List eV}(D:∀f∈p,bI f.code){b:List aJ}{t:List Int}{o:cN}{i:aI}(h:mB ⟨b++[f],t,o⟩)(hi:i∈f.fn.code)(k:Nat):mB (doI p i b { f with next:=k } t o).1:=by
 have u:∀x∈b,oQ x.e_/\bI x.fn.code:=λx q=>h x (by simp[q])
 have m:=h f s_
 have d:∀(y:aJ) v B,oQ y.e_->y.fn=f.fn->mB ⟨b++[y],v,B⟩:=λy v B E C x q=>by
  rcases eu.1 q with q|q
  ·exact u x q
  ·rw[ew.1 q];exact⟨E,by rw[C];exact m.2⟩
 by_cases A:i=.give
 ·subst A;rcases jb b with rfl|⟨G,x,rfl⟩
  ·intro y j;simp[doI] at j
  ·rw[jc] at*;intro y j;simp[doI] at j;rcases j with j|rfl
   ·exact u y (by simp[j])
   ·exact u x s_
 by_cases z:i=.read
 ·subst z;cases t with
  |nil=>exact d _ _ _ m.1 rfl
  |cons a v=>exact d _ _ _ m.1 rfl
 by_cases w:i=.print
 ·subst w;simp only[doI];split<;>exact d _ _ _ m.1 rfl
 by_cases r:∃c n,i=.call c n
 ·obtain⟨c,n,rfl⟩:=r;simp only[doI];split
  ·exact d _ _ _ m.1 rfl
  ·intro y j;simp at j;rcases j with j|rfl|rfl
   ·exact u y j
   ·exact m
   ·refine⟨oQ.nil,?_⟩;cases F:p[c]? with
    |none=>exact bI.nil
    |some g=>exact D g (gy F)
 rw[uB A z w λk n e=>r ⟨k,n,e⟩]
 exact d _ _ _ (JV i _ m.1 λl s e=>m.2 l s (e▸hi)) (jM i _)
def xX{d:List eV}(n:∀f∈d,bI f.code):∀(k:Nat) (m:cS) (r:cS × Nat),mB m->dR d k m=some r->mB r.1
 |0,_,_,_,h=>by simp[dR] at h
 |k+1,⟨s,t,o⟩,r,p,h=>by
  by_cases e:s=[]
  ·subst e;simp only[dR,List.getLast?_nil,Option.some.injEq] at h;subst h;exact p
  obtain⟨b,f,rfl⟩:=lV e;rw[dR] at h;simp only[fC,gE] at h;cases a:f.fetch with
  |none=>rw[a] at h;cases h
  |some q=>
   obtain⟨i,g⟩:=q;rw[a] at h;simp only at h
   obtain⟨rfl,u⟩:g={ f with next:=f.next+1 }/\i∈f.fn.code:=by
    unfold aJ.fetch at a;cases l:f.fn.code[f.next]? with
    |none=>rw[l] at a;cases a
    |some j=>rw[l] at a;simp at a;exact⟨a.2.symm,by rw[<-a.1];exact gy l⟩
   have c:=U7 n p u (f.next+1)
   split at h
   ·cases h;exact c
   split at h
   ·cases h;exact c
   ·exact xX n k _ r c h
def ES{D:Nat}(i:∀f∈fs,jI fs D f)(m:∀f∈fs,f.y_.length<=40000)(b:List Int):∀(t:Nat) (s:aW),fB (dC fs D) (gD fs D b) t=some s->mB s.m:=by
 have e:∀f∈dC fs D,bI f.code:=λf d=>by
  simp only[dC,gz] at d;obtain⟨a,k,rfl⟩:=d;exact T0 (i a k) (m a k)
 intro t;induction t with
 |zero=>
  intro s h;rw[fB] at h;cases c:dR (dC fs D) jP (gD fs D b) with
  |none=>rw[c] at h;cases h
  |some r=>
   rw[c] at h;cases h;refine xX e _ _ _ (λf d=>?_) c
   simp only[gD,ew] at d;subst d;refine⟨oQ.nil,?_⟩;cases o:(dC fs D)[dG fs [109,97,105,110]]? with
   |none=>exact bI.nil
   |some g=>exact e g (gy o)
 |succ t n=>
  intro s h;rw[fB] at h;cases j:fB (dC fs D) (gD fs D b) t with
  |none=>rw[j] at h;cases h
  |some l=>
   rw[j] at h;simp only at h;split at h
   ·cases c:dR (dC fs D) jP l.m with
    |none=>rw[c] at h;cases h
    |some r=>rw[c] at h;cases h;exact xX e _ _ _ (n _ j) c
   ·cases h
def aI.isEx:aI->Bool
 |.push _=>true
 |.load _=>true
 |.shortcut _ _=>true
 |.truth=>true
 |.unary _=>true
 |.binary _=>true
 |.index=>true
 |.list _=>true
 |.length=>true
 |_=>false
def pD(fs:List aE)(e_:cN):∀(d:Nat) (a:aE) (p:Nat),ExOk fs true e_ d a->∀i∈aF fs e_ d a p,i.isEx=true
 |0,_,_,h=>h.elim
 |d+1,a,p,n=>by
  have c:∀k∈a.y_,ExOk fs true e_ d k:=λk b=>by
   rcases n with ⟨_,h⟩|⟨_,h,_⟩|⟨_,h⟩|⟨_,l,r,h,g,m⟩|⟨_,l,h,g⟩|⟨_,h,_⟩|⟨_,l,r,h,g,m⟩
   ·rw[h] at b;cases b
   ·rw[h] at b;cases b
   ·exact h k b
   ·rw[h] at b;rcases eo.1 b with rfl|b
    ·exact g
    ·rw[ew.1 b];exact m
   ·rw[h] at b;rw[ew.1 b];exact g
   ·exact h k b
   ·rw[h] at b;rcases eo.1 b with rfl|b
    ·exact g
    ·rw[ew.1 b];exact m
  have j:a.op=[99,97,108,108]->a.x_=[108,101,110]:=λe=>by
   rcases n with ⟨h,_⟩|⟨h,_⟩|⟨h,_⟩|⟨h,_⟩|⟨h,_⟩|⟨_,_,h⟩|⟨h,_⟩
   ·rw[e] at h;simp at h
   ·rw[e] at h;simp at h
   ·rw[e] at h;simp at h
   ·rw[e] at h;simp at h
   ·rw[e] at h;simp at h
   ·rcases h with ⟨h,_⟩|⟨_,h,_⟩|⟨_,_,h,_⟩
    ·exact h
    ·cases h
    ·cases h
   ·rw[e] at h;exact absurd rfl h
  have b:∀i∈bW (aF fs e_ d) a.y_ p,i.isEx=true:=oW _ _ λk b q=>pD fs e_ d k q (c k b)
  rw[aF];simp only;refine eA (λ_=>jX rfl) ?_
  refine eA (λ_=>jX rfl) ?_
  refine eA (λ_=>jX rfl) ?_
  refine eA (λ_=>jX rfl) ?_
  refine eA (λ_=>eD b rfl) ?_
  refine eA (λ_=>eD b rfl) ?_
  refine eA (λ_=>eD b rfl) ?_
  refine eA (λ_=>eD b rfl) ?_
  refine eA (λh=>eD b ?_) ?_
  ·rw[j (by simpa using h)];rfl
  refine eA (λ_=>?_) (eD b rfl)
  split
  ·rename_i l r e;refine eD (λi f=>?_) rfl
   rcases eu.1 f with f|f
   ·exact eD (pD fs e_ d l _ (c l (by rw[e];simp))) rfl i f
   ·exact pD fs e_ d r _ (c r (by rw[e];simp)) i f
  ·intro i f;cases f
structure bb_(i:aI)(f:aJ):Prop where
 ex:i.isEx=true
 ops:f.ops.length<=99000
 utf:dF f
 mem:i∈f.fn.code
 at_:∃(ar:Nat->Option Nat) (D:bY) (T:Nat->eJ) (p:Nat),iL ar D T p i/\(T p).h=f.ops.length/\(T p).v<=f.g_.length
structure pQ(f:aJ):Prop where
 code:∃(ar:Nat->Option Nat) (T:Nat->eJ),(∀j i,f.fn.code[j]?=some i->iL ar (λq=>q<=f.fn.code.length) T j i/\i.isEx=true)/\(T f.next).h=f.ops.length/\(T f.next).v<=f.g_.length/\(T f.fn.code.length).h=1
 len:f.fn.code.length<=90000
 next:f.next<=f.fn.code.length
 utf:dF f
noncomputable def fT:Nat->aJ->aJ × Nat
 |0,f=>(f,0)
 |k+1,f=>
  match f.fetch with
  |none=>(f,0)
  |some (i,g)=>if (aL i g).2=0 then fT k (aL i g).1 else aL i g
def xL(h:f.fn.code.length<=f.next):∀k,fT k f=(f,0)
 |0=>rfl
 |k+1=>by
  have:f.fetch=none:=by unfold aJ.fetch;rw[gp h];rfl
  rw[fT,this]
def pQ.step(h:pQ f)(C:f.next<f.fn.code.length):∃i g,f.fetch=some (i,g)/\g.fn=f.fn/\bb_ i g/\(∀k,fT (k+1) f=if (aL i g).2=0 then fT k (aL i g).1 else aL i g)/\((aL i g).2=0->pQ (aL i g).1/\f.next<(aL i g).1.next):=by
 obtain⟨⟨y,T,E,s,N,O⟩,J,V,u⟩:=h;have B:=fh C;have A:f.fetch=some (f.fn.code[f.next],{ f with next:=f.next+1 }):=by unfold aJ.fetch;rw[B];rfl
 obtain⟨b,l⟩:=E _ _ B;have D:f.fn.code[f.next]∈f.fn.code:=fo C
 generalize f.fn.code[f.next]=i at*
 refine⟨i,_,A,rfl,⟨l,by have:=b.2.1;show f.ops.length<=99000;omega,u.next _,D,y,_,T,_,b,s,N⟩,λk=>by rw[fT,A],λn=>?_⟩
 have r:dF (aL i { f with next:=f.next+1 }).1:=sW (u.next _) λv e=>by subst e;exact u.fn.1 v D
 have c:∀q p o z,eR (λq=>q<=f.fn.code.length) T q p o z->(aL i { f with next:=f.next+1 }).1.next=q->f.next<q->(aL i { f with next:=f.next+1 }).1.ops.length=p->(aL i { f with next:=f.next+1 }).1.g_=f.g_->o=(T f.next).v->pQ (aL i { f with next:=f.next+1 }).1/\f.next<(aL i { f with next:=f.next+1 }).1.next:=λq p o z t x U M P Q=>by
  obtain⟨H,L,W,_⟩:=t;have m:(aL i { f with next:=f.next+1 }).1.fn=f.fn:=jM _ _
  refine⟨⟨⟨y,T,?_,?_,?_,?_⟩,?_,?_,r⟩,o_⟩
  ·rw[m];exact E
  ·rw[x,L,M]
  ·rw[x,P];omega
  ·rw[m];exact O
  ·rw[m];exact J
  ·rw[m,x];exact H
 obtain⟨-, -,b⟩:=b;cases i<;>first|(cases l;done)|skip
 case push a=>exact c _ _ _ _ b rfl o_ (by simp[aL,aJ.push,s]) rfl rfl
 case load k=>exact c _ _ _ _ b.2 rfl o_ (by simp[aL,aJ.push,s]) rfl rfl
 case shortcut w q=>
  obtain⟨S,F,K,I⟩:=b;by_cases d:({ f with next:=f.next+1 }:aJ).last.sort=1
  ·by_cases j:decide (({ f with next:=f.next+1 }:aJ).last.n=1)=w
   ·exact c _ _ _ _ K (by simp[aL,d,j]) F (by simp[aL,d,j,aJ.push,aJ.pop];omega) (by simp[aL,d,j,aJ.push,aJ.pop]) rfl
   ·exact c _ _ _ _ I (by simp[aL,d,j,aJ.pop]) o_ (by simp[aL,d,j,aJ.pop];omega) (by simp[aL,d,j,aJ.pop]) rfl
  ·simp[aL,d] at n
 case truth=>
  by_cases d:({ f with next:=f.next+1 }:aJ).last.sort=1
  ·exact c _ _ _ _ b.2 (by simp[aL,d,aJ.push,aJ.pop]) o_ (by simp[aL,d,aJ.push,aJ.pop];omega) (by simp[aL,d,aJ.push,aJ.pop]) rfl
  ·simp[aL,d] at n
 all_goals
  simp only[aL] at n c ⊢
  split at n
  ·rename_i G;simp only[G,if_true] at c ⊢
   refine c _ _ _ _ b.2 rfl o_ ?_ rfl rfl
   simp[aJ.push,aJ.pop,aJ.popMany];omega
  ·contradiction
def xK:∀(k:Nat) {f:aJ},pQ f->f.fn.code.length-f.next<=k->(fT k f).2=0->∃a,(fT k f).1.ops=[a]/\bU a
 |k,f,h,d,b=>by
  by_cases l:f.next<f.fn.code.length
  ·obtain⟨i,g,w,o,u,n,r⟩:=h.step l;match k,d with
   |0,d=>omega
   |k+1,d=>
    rw[n k] at b ⊢
    by_cases c:(aL i g).2=0
    ·rw[if_pos c] at b ⊢
     obtain⟨p,v⟩:=r c;have e:(aL i g).1.fn=f.fn:=(jM _ _).trans o;exact xK k p (by rw[e];omega) b
    ·rw[if_neg c] at b;exact absurd b c
  ·have e:f.next=f.fn.code.length:=jw h.next (Nat.le_of_not_lt l)
   rw[xL (jl e.symm)];obtain⟨⟨t,T,A,j,z,s⟩,x,y,q⟩:=h;rw[e,s] at j;obtain⟨a,m⟩:=List.length_eq_one_iff.1 j.symm;exact⟨a,m,q.ops a (by rw[m];simp)⟩
def U5{e_:cN}{a:List aM}{A:aE}(c:ExOk [] true e_ d A)(g:nC A)(w:e_.length<=a.length)(b:(aF [] e_ d A 0).length<=90000)(u:∀v∈a,bU v):pQ ⟨⟨[],aF [] e_ d A 0⟩,0,0,[],a,[]⟩/\1<=(aF [] e_ d A 0).length:=by
 obtain⟨⟨T, -,p,n, -,k, -, -,o⟩,r⟩:=nP [] true e_ d A (λ_ _=>False) 0 0 a.length none c w cL ⟨λq y z h=>h.elim,λq y h=>h.elim⟩
 rw[ge] at k;refine⟨⟨⟨fZ [],T,λj i l=>⟨?_,pD [] e_ d A 0 c i (gy l)⟩,p,n,k⟩,b,ft _,⟨⟨λv f=>(kY [] e_ d A 0 g _ f).1 v rfl,λx s=>(kY [] e_ d A 0 g _ s).2 x rfl⟩,u,λv f=>by cases f⟩⟩,r⟩
 have m:=o j i l;simp only[ge] at m;refine m.same rfl (λq e=>⟨?_,rfl,cL,d6 rfl⟩) λ_ _ _ h=>h
 rcases e with e|⟨y,t⟩
 ·simpa using e.2
 ·exact t.elim
def ExOk.mem{a_:Bool}{s1 i:cN}(m:∀x,x∈s1->x∈i):∀{d:Nat} {a:aE},ExOk fs a_ s1 d a->ExOk fs a_ i d a
 |0,_,h=>h.elim
 |d+1,a,h=>by
  have f:∀k,ExOk fs a_ s1 d k->ExOk fs a_ i d k:=λk g=>ExOk.mem m g
  rcases h with h|⟨c,b,e⟩|⟨c,b⟩|⟨c,l,r,b,e,j⟩|⟨c,l,b,e⟩|⟨c,b,e⟩|⟨c,l,r,b,e,j⟩
  ·exact d7 h
  ·exact d6 (d7 ⟨c,b,m _ e⟩)
  ·exact d6 (d6 (d7 ⟨c,λk g=>f k (b k g)⟩))
  ·exact d6 (d6 (d6 (d7 ⟨c,l,r,b,f l e,f r j⟩)))
  ·exact d6 (d6 (d6 (d6 (d7 ⟨c,l,b,f l e⟩))))
  ·exact d6 (d6 (d6 (d6 (d6 (d7 ⟨c,λk g=>f k (b k g),e⟩)))))
  ·exact d6 (d6 (d6 (d6 (d6 (d6 ⟨c,l,r,b,f l e,f r j⟩)))))
end Go.Proofs.YtlflgmdcghfngaaGreatDoor.Hs
namespace Go.Proofs.YtlflgmdcghfngaaGreatDoor
open Hs
open _root_.Go.Proofs.Tryz
open Go.RowKit
variable{c:Array Value}{a_:Bool}{W:Int}{xs:List Value}{fs:List aE}{b i m n pb:Nat}{e:TypeId}{R:Value->aE->Prop}{a w w' w1:aG}{v:aQ}{s:bD}{l:cC}
def K6(s:ByteArray)(k:Nat)(h:k<s.size):s.data.toList.take (k+1)=s.data.toList.take k++[s[k]]:=by
 rw[gu (by simpa using h)];rfl
def E5{k:IntKind}{a b:Int}(h:a=b):Ending.returned (.int k a)=aX (.int k b):=by rw[h]
def jW{a b:Bool}(h:a=b):Ending.returned (.bool a)=aX (.bool b):=by rw[h]
def cC_(c d:UInt8):(c=d)↔((c.toNat:Int)=(d.toNat:Int)):=by
 rw[<-jm];omega
def pG(c:UInt8):(c.toNat:Int)<=255:=by have:=c.toNat_lt;omega
def CS(s:ByteArray)(k:Nat)(h:k<s.size):s.data.toList[k]?=some s[k]:=by
 simp[h];rfl
def JW(s:ByteArray)(n i:Nat)(h:n+i<s.size):(s.data.toList.drop n)[i]?=some s[n+i]:=by
 rw[jx];exact CS s _ h
def ZG{lo hi:Nat}(h:dN l i lo hi=true):i<l.length:=by
 unfold dN at h;by_cases a:i<l.length
 ·exact a
 ·rw[gp o_] at h;cases h
def X4(l:cC):bK l<=l.length:=by
 unfold bK;split
 ·omega
 ·rename_i b a
  have c:0<l.length:=by
   by_cases h:0<l.length
   ·exact h
   ·rw[gp o_] at a;cases a
  repeat' split
  all_goals first
   |omega
   |(have:=ZG ‹dN l 1 _ _=true›;omega)
   |(have h:=‹(dN l 1 _ _ && dN l 2 _ _)=true›
     simp only[fy] at h;have:=ZG h.2;omega)
   |(have h:=‹(dN l 1 _ _ && dN l 2 _ _ && dN l 3 _ _)=true›
     simp only[fy] at h;have:=ZG h.2;omega)
def NS(l:cC)(p f:Nat)(h:0<l.length)(a:bK l≠0):dZ (f+1) l p=dZ f (l.drop (bK l)) (p+bK l):=by
 rw[dZ,if_neg o_,if_neg a]
def RL(l:cC)(p f:Nat)(h:0<l.length)(a:bK l=0):dZ (f+1) l p=some p:=by
 rw[dZ,if_neg o_,if_pos a]
def RK(l:cC)(p f:Nat)(h:l.length=0):dZ f l p=none:=by
 cases f with
 |zero=>rfl
 |succ f=>rw[dZ,if_pos h]
def nE(x l:cC)(h:x.length<=l.length):x.isPrefixOf l=(l.take x.length==x):=by
 induction x generalizing l with
 |nil=>simp
 |cons a x c=>
  cases l with
  |nil=>simp at h
  |cons b l=>
   simp only[List.isPrefixOf,ep,iu,List.cons_beq_cons];rw[c l (by simpa using h),show (a==b)=(b==a) from Bool.beq_comm]
def CO(x l:cC)(h:l.length<x.length):x.isPrefixOf l=false:=by
 rw[Bool.eq_false_iff];intro a;have:=(kp.1 a).length_le;omega
def lK(s:ByteArray)(k:Nat)(h:k<s.size):s.data.toList.drop k=s[k]::s.data.toList.drop (k+1):=by
 rw[kh (by simpa using h)];rfl
def C4(f:Nat):Hs.blankL f []=0:=by cases f<;>rfl
def PW(f:Nat)(c:UInt8)(r:cC)(h:c.toNat=32\/c.toNat=9\/c.toNat=10):Hs.blankL (f+1) (c::r)=Hs.blankL f r+1:=by
 rw[Hs.blankL,if_pos h]
def KP(f:Nat)(c:UInt8)(r:cC)(h:¬(c.toNat=32\/c.toNat=9\/c.toNat=10))(a:cY (c::r) [47,47]=true):
 Hs.blankL (f+1) (c::r)=bQ eT (c::r)+Hs.blankL f ((c::r).drop (bQ eT (c::r))):=by
 rw[Hs.blankL,if_neg h,if_pos a]
def VO(f:Nat)(c:UInt8)(r:cC)(h:¬(c.toNat=32\/c.toNat=9\/c.toNat=10))(a:cY (c::r) [47,47]=false):
 Hs.blankL (f+1) (c::r)=0:=by
 rw[Hs.blankL,if_neg h,if_neg (by rw[a];simp)]
def tR(p:UInt8->Bool)(c:UInt8)(r:cC)(h:p c=true):bQ p (c::r)=bQ p r+1:=by rw[bQ,if_pos h]
def RM(p:UInt8->Bool)(c:UInt8)(r:cC)(h:p c=false):bQ p (c::r)=0:=by rw[bQ,if_neg (by rw[h];simp)]
def O3(b:UInt8):eT b=((b.toNat:Int) != 10):=by
 unfold eT;rw[iw];simp;omega
def bs(l:cC):ByteArray:=⟨l.toArray⟩
def gR(l:cC):(bs l).data.toList=l:=by simp[bs]
def gJ(l:cC):(bs l).size=l.length:=by simp[bs,ByteArray.size]
def aV_{a b:ByteArray}(h:a.data.toList=b.data.toList):a=b:=by
 cases a;cases b;simp only at h;congr 1;exact Array.toList_inj.1 h
def GG(s:ByteArray)(a b:Nat):s.extract a b=bs ((s.data.toList.drop a).take (b-a)):=
 aV_ (by rw[Lib.extract_data,gR])
def cI(l:cC):(bs l).toList=l:=by rw[Lib.toList_data,gR]
def tS(p:UInt8->Bool)(l:cC):∀c∈l.take (bQ p l),p c=true:=by
 induction l with
 |nil=>simp
 |cons a r d=>
  intro c b;by_cases h:p a=true
  ·rw[tR _ _ _ h,iu] at b;rcases eo.1 b with rfl|b
   ·exact h
   ·exact d c b
  ·rw[RM _ _ _ (by simpa using h)] at b;simp at b
def bcell{W:aG}(a:Below W.heap.size W w1):(∀b o,b<W.heap.size->w1.cell? (aH b o)=W.cell? (aH b o))/\(∀b o,b<W.heap.size->w1.frozen? (aH b o)=W.frozen? (aH b o)):=
 ⟨λb o h=>a.cell (p:=(aH b o)) h,λb o h=>a.frozen (p:=(aH b o)) h⟩
def OK:∀k (h:k<21),(cX[k]'(by simpa [cX] using h)).length<=2:=d_
def zB(l:cC)(k:Nat):Prop:=∀o∈cX.take k,cY l o=false
def SS{k:Nat}(h:k<21)(c:zB l k)(b:cY l (cX[k]'(by simpa [cX] using h))=false):zB l (k+1):=by
 intro o a;rw[gu (by simpa [cX] using h)] at a
 rcases eu.1 a with a|a
 ·exact c o a
 ·rw[ew.1 a];exact b
def XU{k:Nat}(h:k<21)(c:zB l k)(q:cC)(b:q=cX[k]'(by simpa [cX] using h))(a:cY l q=true):
 iE l={ sort:=112,x_:=q,size:=q.length,ok:=true }:=by
 have e:cX.find? (λo=>cY l o)=some q:=by
  rw[List.find?_eq_some_iff_getElem];refine⟨a,k,by simpa [cX] using h,b.symm,λj d=>?_⟩
  have:=c (cX[j]'(by have:cX.length=21:=rfl;omega)) (by
   rw[List.mem_take_iff_getElem];exact⟨j,by have:cX.length=21:=rfl;omega,rfl⟩)
  simp[this]
 unfold iE;rw[e]
def SM(b:zB l 21):iE l={ sort:=0,x_:=[],size:=0,ok:=false }:=by
 have e:cX.find? (λo=>cY l o)=none:=by
  rw[jn];intro o a;rw[b o (by rw[gv d_];exact a)];simp
 unfold iE;rw[e]
def j7(s:ByteArray)(k f:Nat)(e:k<s.size)(a:(cH (s.data.toList.drop k)).ok=true)(m:Nat)
 (b:m=k+(cH (s.data.toList.drop k)).size+Hs.blankL s.size (s.data.toList.drop (k+(cH (s.data.toList.drop k)).size))):
 eX (f+1) (s.data.toList.take k) (s.data.toList.drop k)=
  iY [{ sort:=(cH (s.data.toList.drop k)).sort,x_:=(cH (s.data.toList.drop k)).x_,l_:=bE (s.data.toList.take k) }] (eX f (s.data.toList.take m) (s.data.toList.drop m)):=by
 have c:(s.data.toList.drop k).length=s.size-k:=s_
 have d:=wK _ a
 rw[mS f _ _ o_ a (m-k) (by
  rw[c,ix,b,IC s.size (s.size-k) _ s_ t_];omega)]
 rw[ix,show k+(m-k)=m by omega,<-List.take_add,show k+(m-k)=m by omega]
def iO{a:Nat}(h:w.ownsRow b e a v n xs)(l:Below w.heap.size w w1):w1.ownsRow b e a v n xs:=by
 refine⟨h.1,?_⟩;rcases h.2 with d|⟨g,f,c,k,d,i,j⟩
 ·exact d7 d
 ·refine d6 ⟨g,f,c,k,d,?_,j⟩;rw[l.block g ?_];exact i;by_cases m:g<w.heap.size
  ·exact m
  ·rw[ik o_] at i;cases i
def cT{a:Nat}(h:w.ownsRow b e a v n xs):∀k,v.ownBlock=some k->b<=k:=by
 intro k c;rcases h.2 with ⟨rfl,_⟩|⟨g,f,d,rfl,i,_⟩
 ·cases c
 ·have:g=k:=Option.some.inj c;omega
def aB{p:Prop}(h:p):Hid p:=h
structure Ctx where
 pb:Nat
 g:Nat
 cap:Nat
 ts:List bC
structure Fr(pb:Nat)(w w':aG):Prop where
 os:w'.os=w.os
 tape:w'.tape=w.tape
 output:w'.output=w.output
 size:w.heap.size<=w'.heap.size
 block:∀k,k<w.heap.size->k≠pb->w'.heap[k]?=w.heap[k]?
def Fr.refl(pb:Nat)(w:aG):Fr pb w w:=⟨rfl,rfl,rfl,cL,λ_ _ _=>rfl⟩
def Fr.trans{b c:aG}(h:Fr pb a b)(k:Fr pb b c):Fr pb a c:=
 ⟨k.os.trans h.os,k.tape.trans h.tape,k.output.trans h.output,em h.size k.size,λi d e=>(k.block i (ej d h.size) e).trans (h.block i d e)⟩
def Fr.below(h:Below w.heap.size w w'):Fr pb w w':=⟨h.os,h.tape,h.output,h.size,λk a _=>h.block k a⟩
def Fr.drew(h:Fr pb a w):Fr pb a w.drew:=⟨h.os,h.tape,h.output,h.size,h.block⟩
def Fr.drewN(h:Fr pb a w)(n:Nat):Fr pb a (w.drewN n):=⟨h.os,h.tape,h.output,h.size,h.block⟩
def Fr.alloc(h:Fr pb a w)(o:Obj):Fr pb a (w.alloc o):=h.trans (Fr.below ((eh _ _).alloc cL _))
def Fr.setCell(h:Fr pb a w){p:Addr}(d:p.block=pb\/a.heap.size<=p.block)(u:aQ):Fr pb a (w.setCell p u):=
 ⟨h.os,h.tape,h.output,by have:=h.size;simpa [World.setCell] using this,λk b c=>by rw[ei _ _ _ _ o_];exact h.block k b c⟩
def aC{o:Obj}(h:w.heap[b]?=some o):b<w.heap.size:=by
 by_cases a:b<w.heap.size
 ·exact a
 ·rw[ik o_] at h;cases h
def aA(h:w.heap[b]?=some (.cells c e (0,0)))(a:c[i]?=some v):w.cell? (aH b i)=some v:=by
 simp[World.cell?,h,a]
def aD(h:w.heap[b]?=some (.cells c e (0,0))):w.frozen? (aH b i)=false:=by
 simp[World.frozen?,h]
def aK{f:Nat × Nat}(h:w.heap[b]?=some (.cells c e f)){u:aQ}:(w.setCell (aH b i) u).heap[b]?=some (.cells (c.setIfInBounds i u) e f):=by
 simp[World.setCell,Array.getElem?_modify,h]
def kV(R:Value->aE->Prop):List Value->List aE->Prop
 |[],[]=>True
 |v::vs,a::ks=>R v a/\kV R vs ks
 |_,_=>False
def kV.mono{S:Value->aE->Prop}(h:∀v a,R v a->S v a):∀{vs ks},kV R vs ks->kV S vs ks
 |[],[],_=>trivial
 |_::_,_::_,⟨c,b⟩=>⟨h _ _ c,kV.mono h b⟩
 |[],_::_,h=>h.elim
 |_::_,[],h=>h.elim
def kV.snoc:∀{vs ks} {v a},kV R vs ks->R v a->kV R (vs++[v]) (ks++[a])
 |[],[],_,_,_,h=>⟨h,trivial⟩
 |_::_,_::_,_,_,⟨c,b⟩,h=>⟨c,kV.snoc b h⟩
 |[],_::_,_,_,h,_=>h.elim
 |_::_,[],_,_,h,_=>h.elim
def Btw(lo hi:Nat)(b:Nat):Prop:=lo<=b/\b<hi
def aY{a:Nat}(h:w.ownsRow b e a v n xs)(l:∀k,v.ownBlock=some k->w1.heap[k]?=w.heap[k]?):w1.ownsRow b e a v n xs:=by
 refine⟨h.1,?_⟩;rcases h.2 with d|⟨g,f,c,i,d,m,j⟩
 ·exact d7 d
 ·refine d6 ⟨g,f,c,i,d,?_,j⟩;rw[l g (by rw[i];rfl)];exact m
def cQ{a:Nat}(h:w.ownsRow b e a v n xs):∀k,v.ownBlock=some k->k<w.heap.size:=by
 intro k c;rcases h.2 with ⟨rfl,_⟩|⟨g,f,d,rfl,j,i,_⟩
 ·cases c
 ·have:g=k:=Option.some.inj c;subst this;exact aC i
def Fr.grown{b:Option Nat}(h:Fr pb a w)(c:w.grownBy w' b)(f:∀k,b=some k->a.heap.size<=k):Fr pb a w':=
 ⟨c.os.trans h.os,c.tape.trans h.tape,c.output.trans h.output,em h.size c.size,λk d g=>by
   rw[c.block k (ej d h.size) (λe=>by have:=f k e.symm;omega)];exact h.block k d g⟩
def aN(X:aG)(n:Nat)(b:n=X.heap.size)(a:Obj):(X.alloc a).heap[n]?=some a:=by
 subst b;show (X.heap.push a)[X.heap.size]?=_
 rw[Array.getElem?_push,if_pos rfl]
def eB(X:aG)(n:Nat)(a:n<X.heap.size)(o:Obj){b:Option Obj}(h:X.heap[n]?=b):(X.alloc o).heap[n]?=b:=by
 rw[ek _ _ _ a];exact h
def zU(h:w'.heap[b]?=w.heap[b]?):w'.cell? (aH b i)=w.cell? ⟨b,i,none⟩:=by simp[World.cell?,h]
def lF(l:cN):List Value:=l.map λx=>.string (bs x)
def F7:(prog.info? 9).map (λi=>(i.zero,i.size,i.bytes))=some (some (.string (bs [])),1,16):=k_
def kV.get:∀{vs ks} (i:Nat) (hi:i<ks.length),kV R vs ks->∃v,vs[i]?=some v/\R v ks[i]
 |v::vs,a::ks,0,_,h=>⟨v,rfl,h.1⟩
 |v::vs,a::ks,i+1,hi,h=>by
  obtain⟨u,c,b⟩:=kV.get (vs:=vs) (ks:=ks) i (by simpa using hi) h.2
  exact⟨u,by simpa using c,by simpa using b⟩
 |[],_::_,_,_,h=>h.elim
 |_::_,[],_,hi,_=>by simp at hi
 |[],[],_,hi,_=>by simp at hi
def oS(s:bD)(l k:Nat):(s.found l k).e_=s.e_:=by
 unfold bD.found;split<;>rfl
def C0{a:aE}(h:jE fs a_ a.x_=W)(b:W<0):eP fs a_ s a=s.found a.l_ 6:=by
 unfold eP;rw[h,if_pos b]
def Y2{a:aE}(h:jE fs a_ a.x_=W)(c:¬W<0)(b:W≠(a.y_.length:Int)):eP fs a_ s a=s.found a.l_ 7:=by
 unfold eP;rw[h,if_neg c,if_pos b]
def Y3{a:aE}(h:jE fs a_ a.x_=W)(c:¬W<0)(b:W=(a.y_.length:Int)):eP fs a_ s a=s:=by
 unfold eP;rw[h,if_neg c,if_neg (by simpa using b)]
def YW(fs:List aE)(a_:Bool)(s:bD)(n:aE):(cM fs a_ s n).e_=s.e_:=by
 unfold cM eP;repeat' split
 all_goals first|rfl|exact oS _ _ _
def oK(s:bD)(n:aE):(Hs.declaresL s n).e_=s.e_:=by
 unfold Hs.declaresL;split
 ·exact oS _ _ _
 ·rfl
def Adds(s s':bD)(m:Nat):Prop:=∃t,s'.e_=s.e_++t/\t.length<=m
def Adds.refl(s:bD):Adds s s 0:=⟨[],s_,cL⟩
def Adds.trans{a b c:bD}(h:Adds a b m)(k:Adds b c n):Adds a c (m+n):=by
 obtain⟨t,e,g⟩:=h;obtain⟨u,d,f⟩:=k;exact⟨t++u,by rw[d,e,gr],t_⟩
def Adds.le{a b:bD}(h:Adds a b m)(e:m<=n):Adds a b n:=by
 obtain⟨t,c,d⟩:=h;exact⟨t,c,o_⟩
def Adds.of_eq{a b:bD}(h:b.e_=a.e_):Adds a b 0:=⟨[],by simp[h],cL⟩
def Adds.fold{f:bD->aE->bD}{g:aE->Nat}(h:∀s k,Adds s (f s k) (g k)):∀(l:List aE) (s:bD),Adds s (l.foldl f s) (l.map g).sum
 |[],s=>Adds.refl s
 |k::l,s=>by
  rw[ip,fg,fm];exact(h s k).trans (Adds.fold h l _)
def gL(fs:List aE)(a_:Bool):∀(d:Nat) (n:aE) (s:bD),Adds s (aP fs a_ d n s) (cF d n)
 |0,n,s=>Adds.refl s
 |d+1,n,s=>by
  rw[aP,cF];split
  ·match h:n.y_ with
   |t::v::r=>
    simp only;have b:Adds s (Hs.declaresL s t) 0:=Adds.of_eq (oK s t);obtain⟨u,a,c⟩:=b.trans (gL fs a_ d v (Hs.declaresL s t));exact⟨u++[t.x_],by simp[a],t_⟩
   |[]=>exact(Adds.refl s).le o_
   |[_]=>exact(Adds.refl s).le o_
  ·have b:Adds s (cM fs a_ s n) 0:=Adds.of_eq (YW fs a_ s n);have a:=b.trans (Adds.fold (f:=λs k=>aP fs a_ d k s) (g:=cF d) (λs k=>gL fs a_ d k s) n.y_ (cM fs a_ s n))
   split
   ·obtain⟨u,c,e⟩:=a;exact⟨[],by simp[c],s_⟩
   ·exact a.le o_
def vP{f:aE->Nat}{k:aE}:∀{l:List aE},k∈l->f k<=(l.map f).sum
 |[],h=>by cases h
 |x::l,h=>by
  simp only[fg,fm];rcases eo.1 h with rfl|h
  ·omega
  ·have:=vP (f:=f) h;omega
def RB{b_:Nat}{l:cN}(h:w.ownsRow b_ 9 1 v l.length (lF l))(m:Nat)(q:m<=l.length):
 ∃x c,v=.slice x l.length c/\l.length<=c/\c<=maxLen/\w.ownsRow b_ 9 1 (.slice x m c) m (lF (l.take m)):=by
 have f:(lF (l.take m)).length=m*1:=by simp[lF];omega
 rcases h.2 with ⟨rfl,j⟩|⟨g,a,b,rfl,i,o,k,d,p,n⟩
 ·refine⟨none,0,by rw[j],o_,by unfold maxLen;omega,f,d7 ⟨?_,o_⟩⟩
  rw[show m=0 by omega]
 ·refine⟨_,a,rfl,k,d,f,d6 ⟨g,a,b,rfl,i,o,o_,d,p,?_⟩⟩
  have e:lF (l.take m)=(lF l).take m:=by simp[lF,List.map_take]
  rw[e,<-n,jf];congr 1;omega
def SU(w:aG)(x:cC):∀j u,([.string (bs x)]:List Value)[j]?=some u->(w.alloc (.cells #[.string (bs x)] 9)).cell? ((⟨w.heap.size,0,none⟩:Addr).add j)=some u:=by
 intro j u a;match j,a with
 |0,a=>simp at a;subst a;simp[Addr.add,go_sem]
 |j+1,a=>simp at a
def E8(x:cC):∀u∈([.string (bs x)]:List Value),u.oneCell'=true:=by
 intro u a;simp at a;subst a;rfl
def qO(d:Nat):∀l:List aE,l.length<=(l.map (cF (d+1))).sum
 |[]=>by simp
 |x::l=>by
  have:=qO d l;have a:1<=cF (d+1) x:=by rw[cF];omega
  simp only[ep,fg,fm];omega
def FineL.mem{l:List aE}(h:Hs.FineL m l){f:aE}(a:f∈l):Hs.FineA m f:=λd=>⟨em (vP a) (h d).1,(h d).2 f a⟩
def FineL.len{l:List aE}(h:Hs.FineL m l):l.length<=m:=em (qO 0 l) (h 1).1
end Go.Proofs.YtlflgmdcghfngaaGreatDoor
