/- Plain: the two programs that show that the program is awake. -/
import Derived.Test.YtddnpoiiimjpcaaGreatDoorB03
import Derived.Test.YtddnpoiiimjpcaaGreatDoorP02
set_option linter.defProp false
set_option maxRecDepth 100000
namespace Go.Proofs.YtddnpoiiimjpcaaGreatDoor.Hs
variable{fs:List aC}{d:Nat}{f:aJ}
def ZU:cE:=[102,117,110,99,32,102,40,120,41,32,123,32,114,101,116,117,114,110,32,91,120,44,32,34,195,169,34,93,59,32,125,10,102,117,110,99,32,109,97,105,110,40,41,32,123,32,118,97,114,32,97,32,61,32,102,40,50,41,59,32,112,114,105,110,116,32,97,59,32,112,114,105,110,116,32,108,101,110,40,97,91,49,93,41,59,32,125]
def ZV:cE:=[102,117,110,99,32,109,97,105,110,40,41,32,123,10,32,112,114,105,110,116,32,120,59,32,125]
def VA:zD ZU 4 [[91,50,44,32,34,195,169,34,93],[49]]:=YO (by decide+kernel)
def WS:cI ZV=(6,2):=by decide+kernel
def iH(l:List aJ):List (cE × Nat):=l.map λf=>(f.fn.name,f.l_)
def oJ(s:cN):Prop:=s.Nodup/\s.length<=40001
def oJ.nil:oJ []:=⟨List.nodup_nil,s_⟩
def bJ(c:List aH):Prop:=∀l s,aH.begin l s∈c->oJ s
def bJ.app{a b:List aH}(h:bJ a)(k:bJ b):bJ (a++b):=λl s c=>by
 rcases eq.1 c with c|c
 ·exact h l s c
 ·exact k l s c
def bJ.one{i:aH}(h:i.isBegin=false):bJ [i]:=λl s a=>by
 rw[et] at a;rw[<-a] at h;cases h
def bJ.nil:bJ []:=λl s a=>by cases a
def uZ{c:aC->Nat->List aH}(b:∀a p,bJ (c a p)):∀(l:List aC) (p:Nat),bJ (bV c l p)
 |[],_=>bJ.nil
 |a::l,p=>(b a p).app (uZ b l _)
def jG{c:Prop}[Decidable c]{a b:List aH}(h:bJ a)(k:bJ b):bJ (if c then a else b):=by split<;>assumption
def oU(fs:List aC)(e_:cN):∀(d:Nat) (a:aC) (p:Nat),bJ (aF fs e_ d a p)
 |0,_,_=>bJ.nil
 |d+1,a,p=>by
  have b:=uZ (oU fs e_ d) a.y_ p;have o:∀i:aH,i.isBegin=false->bJ [i]:=λi h=>bJ.one h
  rw[aF];refine jG (o _ rfl) (jG (o _ rfl) (jG (o _ rfl) (jG (o _ rfl) (jG (b.app (o _ rfl)) (jG (b.app (o _ rfl)) (jG (b.app (o _ rfl)) (jG (b.app (o _ rfl)) (jG (b.app (o _ ?_)) (jG ?_ (b.app (o _ rfl)))))))))))
  ·split
   ·rfl
   ·split<;>rfl
  ·split
   ·exact(((oU fs e_ d _ _).app (o _ rfl)).app (oU fs e_ d _ _)).app (o _ rfl)
   ·exact bJ.nil
def bJ.start{l:Nat}{s:cN}{c:List aH}(e:oJ s)(f:bJ c):bJ (.begin l s::c):=λd b a=>by
 rcases eo.1 a with a|a
 ·cases a;exact e
 ·exact f d b a
def C2(fs:List aC)(d:Nat):Prop:=∀(e_:cN) (a:aC) (p:Nat),dM fs d e_ a->oJ e_->bJ (aZ fs d e_ a p).1/\oJ (aZ fs d e_ a p).2
def uY(c:C2 fs d):∀(l:List aC) (e_:cN) (p:Nat),StsOk (dM fs d) e_ l->oJ e_->bJ (bM (aZ fs d) e_ l p)
 |[],_,_,_,_=>bJ.nil
 |a::l,e_,p,h,e=>by
  obtain⟨f,b⟩:=c e_ a p h.1 e;have g:(aZ fs d e_ a p).2=cZ e_ a:=(mK fs d e_ a (λ_ _=>False) p h.1 ⟨λ_ _ _ h=>h.elim,λ_ _ h=>h.elim⟩).2.1
  refine f.app ?_;rw[g] at b ⊢
  exact uY c l _ _ h.2 b
def KM(fs:List aC):∀d,C2 fs d
 |0=>λ_ _ _ h _=>h.elim
 |d+1=>by
  intro g a p h e;have j:=oU fs g d;have k:∀(b:aC) q,StsOk (dM fs d) g b.y_->bJ (bM (aZ fs d) g b.y_ q):=λb q l=>uY (KM fs d) b.y_ g q l e
  have s:([115,101,116]==([118,97,114]:cE))=false:=rfl;rcases h with ⟨i,r,t,v,f,_,o⟩|⟨i,_⟩|⟨i,c,t,f,_,m⟩|⟨i,c,b,f,_,l⟩|⟨i,f⟩|⟨i,v,f,_⟩|⟨i,c,f,_⟩
  ·unfold aZ;simp only[i,f,ga];exact⟨bJ.start e ((j v _).app (bJ.one rfl)),⟨ez.2 ⟨o,e.1⟩,t_⟩⟩
  ·unfold aZ;simp only[i];exact⟨bJ.start e ((uZ j _ _).app (bJ.one rfl)),e⟩
  ·unfold aZ;simp only[i];rcases f with f|⟨x,f,n⟩<;>rw[f]
   ·exact⟨bJ.start e ((((j c _).app (bJ.one rfl)).app (k t _ m)).app (bJ.one rfl) |>.app bJ.nil),e⟩
   ·exact⟨bJ.start e ((((j c _).app (bJ.one rfl)).app (k t _ m)).app (bJ.one rfl) |>.app (k x _ n)),e⟩
  ·unfold aZ;simp only[i,f];exact⟨bJ.start e (((j c _).app (bJ.one rfl)).app (k b _ l) |>.app (bJ.one rfl)),e⟩
  ·unfold aZ;simp only[i];rcases f with f|⟨v,f,_⟩<;>rw[f]
   ·exact⟨bJ.start e ((bJ.one rfl).app (bJ.one rfl)),e⟩
   ·exact⟨bJ.start e ((j v _).app (bJ.one rfl)),e⟩
  ·unfold aZ;simp only[i,f];exact⟨bJ.start e ((j v _).app (bJ.one rfl)),e⟩
  ·unfold aZ;simp only[i,f];exact⟨bJ.start e ((j c _).app (bJ.one rfl)),e⟩
def N9{f:aC}(h:jF fs d f)(e:f.y_.length<=40000):bJ (fN fs d f).code:=by
 obtain⟨⟨g,b,c,j,k⟩,_⟩:=h;have a:(fN fs d f).code=bM (aZ fs d) (g.map (·.x_)).reverse b.y_ 0++[.push (bH 0),.give]:=by simp[fN,c]
 rw[a];exact(uY (KM fs d) b.y_ _ 0 j ⟨List.pairwise_reverse.2 (k.imp λh=>h.symm),by rw[c] at e;simp at e ⊢;omega⟩).app ((bJ.one (i:=.push (bH 0)) rfl).app (bJ.one (i:=.give) rfl))
def mC(m:cR):Prop:=∀f∈m.f_,oJ f.e_/\bJ f.fn.code
def IX(i:aH)(f:aJ)(a:oJ f.e_)(b:∀l s,i=.begin l s->oJ s):oJ (aK i f).1.e_:=by
 cases i with
 |begin l s=>exact b l s rfl
 |_=>simp only[aK]<;>(repeat' split)<;>exact a
def O9{p:List eU}(D:∀f∈p,bJ f.code){b:List aJ}{t:List Int}{o:cN}{i:aH}(h:mC ⟨b++[f],t,o⟩)(F:i∈f.fn.code)(k:Nat):mC (doI p i b { f with next:=k } t o).1:=by
 have u:∀x∈b,oJ x.e_/\bJ x.fn.code:=λx q=>h x (by simp[q])
 have m:=h f s_
 have d:∀(y:aJ) v B,oJ y.e_->y.fn=f.fn->mC ⟨b++[y],v,B⟩:=λy v B E C x q=>by
  rcases eq.1 q with q|q
  ·exact u x q
  ·rw[et.1 q];exact⟨E,by rw[C];exact m.2⟩
 by_cases A:i=.give
 ·subst A;rcases il b with rfl|⟨H,x,rfl⟩
  ·intro y j;simp[doI] at j
  ·rw[im] at*;intro y j;simp[doI] at j;rcases j with j|rfl
   ·exact u y (by simp[j])
   ·exact u x s_
 by_cases z:i=.read
 ·subst z;cases t with
  |nil=>exact d _ _ _ m.1 rfl
  |cons a v=>exact d _ _ _ m.1 rfl
 by_cases w:i=.print
 ·subst w;simp only[doI];split<;>exact d _ _ _ m.1 rfl
 by_cases r:∃c n,i=.call c n
 ·obtain⟨c,n,rfl⟩:=r;simp only[doI];split
  ·exact d _ _ _ m.1 rfl
  ·intro y j;simp at j;rcases j with j|rfl|rfl
   ·exact u y j
   ·exact m
   ·refine⟨oJ.nil,?_⟩;cases G:p[c]? with
    |none=>exact bJ.nil
    |some g=>exact D g (gv G)
 rw[tJ A z w λk n e=>r ⟨k,n,e⟩]
 exact d _ _ _ (IX i _ m.1 λl s e=>m.2 l s (e▸F)) (jJ i _)
def xG{d:List eU}(n:∀f∈d,bJ f.code):∀(k:Nat) (m:cR) (r:cR × Nat),mC m->dR d k m=some r->mC r.1
 |0,_,_,_,h=>by simp[dR] at h
 |k+1,⟨s,t,o⟩,r,p,h=>by
  by_cases e:s=[]
  ·subst e;simp only[dR,List.getLast?_nil,Option.some.injEq] at h;subst h;exact p
  obtain⟨b,f,rfl⟩:=lW e;rw[dR] at h;simp only[fB,gC] at h;cases a:f.fetch with
  |none=>rw[a] at h;cases h
  |some q=>
   obtain⟨i,g⟩:=q;rw[a] at h;simp only at h
   obtain⟨rfl,u⟩:g={ f with next:=f.next+1 }/\i∈f.fn.code:=by
    unfold aJ.fetch at a;cases l:f.fn.code[f.next]? with
    |none=>rw[l] at a;cases a
    |some j=>rw[l] at a;simp at a;exact⟨a.2.symm,by rw[<-a.1];exact gv l⟩
   have c:=O9 n p u (f.next+1)
   split at h
   ·cases h;exact c
   split at h
   ·cases h;exact c
   ·exact xG n k _ r c h
def DW{D:Nat}(i:∀f∈fs,jF fs D f)(m:∀f∈fs,f.y_.length<=40000)(b:List Int):∀(t:Nat) (s:aU),fA (dC fs D) (gB fs D b) t=some s->mC s.m:=by
 have e:∀f∈dC fs D,bJ f.code:=λf d=>by
  simp only[dC,hQ] at d;obtain⟨a,k,rfl⟩:=d;exact N9 (i a k) (m a k)
 intro t;induction t with
 |zero=>
  intro s h;rw[fA] at h;cases c:dR (dC fs D) jN (gB fs D b) with
  |none=>rw[c] at h;cases h
  |some r=>
   rw[c] at h;cases h;refine xG e _ _ _ (λf d=>?_) c
   simp only[gB,et] at d;subst d;refine⟨oJ.nil,?_⟩;cases o:(dC fs D)[dG fs [109,97,105,110]]? with
   |none=>exact bJ.nil
   |some g=>exact e g (gv o)
 |succ t n=>
  intro s h;rw[fA] at h;cases j:fA (dC fs D) (gB fs D b) t with
  |none=>rw[j] at h;cases h
  |some l=>
   rw[j] at h;simp only at h;split at h
   ·cases c:dR (dC fs D) jN l.m with
    |none=>rw[c] at h;cases h
    |some r=>rw[c] at h;cases h;exact xG e _ _ _ (n _ j) c
   ·cases h
def aH.isEx:aH->Bool
 |.push _=>true
 |.load _=>true
 |.shortcut _ _=>true
 |.truth=>true
 |.unary _=>true
 |.binary _=>true
 |.index=>true
 |.list _=>true
 |.length=>true
 |_=>false
def oV(fs:List aC)(e_:cN):∀(d:Nat) (a:aC) (p:Nat),ExOk fs true e_ d a->∀i∈aF fs e_ d a p,i.isEx=true
 |0,_,_,h=>h.elim
 |d+1,a,p,n=>by
  have c:∀k∈a.y_,ExOk fs true e_ d k:=λk b=>by
   rcases n with ⟨_,h⟩|⟨_,h,_⟩|⟨_,h⟩|⟨_,l,r,h,g,m⟩|⟨_,l,h,g⟩|⟨_,h,_⟩|⟨_,l,r,h,g,m⟩
   ·rw[h] at b;cases b
   ·rw[h] at b;cases b
   ·exact h k b
   ·rw[h] at b;rcases eo.1 b with rfl|b
    ·exact g
    ·rw[et.1 b];exact m
   ·rw[h] at b;rw[et.1 b];exact g
   ·exact h k b
   ·rw[h] at b;rcases eo.1 b with rfl|b
    ·exact g
    ·rw[et.1 b];exact m
  have j:a.op=[99,97,108,108]->a.x_=[108,101,110]:=λe=>by
   rcases n with ⟨h,_⟩|⟨h,_⟩|⟨h,_⟩|⟨h,_⟩|⟨h,_⟩|⟨_,_,h⟩|⟨h,_⟩
   ·rw[e] at h;simp at h
   ·rw[e] at h;simp at h
   ·rw[e] at h;simp at h
   ·rw[e] at h;simp at h
   ·rw[e] at h;simp at h
   ·rcases h with ⟨h,_⟩|⟨_,h,_⟩|⟨_,_,h,_⟩
    ·exact h
    ·cases h
    ·cases h
   ·rw[e] at h;exact absurd rfl h
  have b:∀i∈bV (aF fs e_ d) a.y_ p,i.isEx=true:=oQ _ _ λk b q=>oV fs e_ d k q (c k b)
  rw[aF];simp only;refine eA (λ_=>jV rfl) ?_
  refine eA (λ_=>jV rfl) ?_
  refine eA (λ_=>jV rfl) ?_
  refine eA (λ_=>jV rfl) ?_
  refine eA (λ_=>eD b rfl) ?_
  refine eA (λ_=>eD b rfl) ?_
  refine eA (λ_=>eD b rfl) ?_
  refine eA (λ_=>eD b rfl) ?_
  refine eA (λh=>eD b ?_) ?_
  ·rw[j (by simpa using h)];rfl
  refine eA (λ_=>?_) (eD b rfl)
  split
  ·rename_i l r e;refine eD (λi f=>?_) rfl
   rcases eq.1 f with f|f
   ·exact eD (oV fs e_ d l _ (c l (by rw[e];simp))) rfl i f
   ·exact oV fs e_ d r _ (c r (by rw[e];simp)) i f
  ·intro i f;cases f
structure aj_(i:aH)(f:aJ):Prop where
 ex:i.isEx=true
 ops:f.ops.length<=99000
 utf:dF f
 mem:i∈f.fn.code
 at_:∃(ar:Nat->Option Nat) (D:bX) (T:Nat->eJ) (p:Nat),iJ ar D T p i/\(T p).h=f.ops.length/\(T p).v<=f.g_.length
structure pG(f:aJ):Prop where
 code:∃(ar:Nat->Option Nat) (T:Nat->eJ),(∀j i,f.fn.code[j]?=some i->iJ ar (λq=>q<=f.fn.code.length) T j i/\i.isEx=true)/\(T f.next).h=f.ops.length/\(T f.next).v<=f.g_.length/\(T f.fn.code.length).h=1
 len:f.fn.code.length<=90000
 next:f.next<=f.fn.code.length
 utf:dF f
noncomputable def fR:Nat->aJ->aJ × Nat
 |0,f=>(f,0)
 |k+1,f=>
  match f.fetch with
  |none=>(f,0)
  |some (i,g)=>if (aK i g).2=0 then fR k (aK i g).1 else aK i g
def wT(h:f.fn.code.length<=f.next):∀k,fR k f=(f,0)
 |0=>rfl
 |k+1=>by
  have:f.fetch=none:=by unfold aJ.fetch;rw[gi h];rfl
  rw[fR,this]
def pG.step(h:pG f)(C:f.next<f.fn.code.length):∃i g,f.fetch=some (i,g)/\g.fn=f.fn/\aj_ i g/\(∀k,fR (k+1) f=if (aK i g).2=0 then fR k (aK i g).1 else aK i g)/\((aK i g).2=0->pG (aK i g).1/\f.next<(aK i g).1.next):=by
 obtain⟨⟨y,T,E,s,N,O⟩,J,V,u⟩:=h;have B:=ff C;have A:f.fetch=some (f.fn.code[f.next],{ f with next:=f.next+1 }):=by unfold aJ.fetch;rw[B];rfl
 obtain⟨b,l⟩:=E _ _ B;have D:f.fn.code[f.next]∈f.fn.code:=fi C
 generalize f.fn.code[f.next]=i at*
 refine⟨i,_,A,rfl,⟨l,by have:=b.2.1;show f.ops.length<=99000;omega,u.next _,D,y,_,T,_,b,s,N⟩,λk=>by rw[fR,A],λn=>?_⟩
 have r:dF (aK i { f with next:=f.next+1 }).1:=sJ (u.next _) λv e=>by subst e;exact u.fn.1 v D
 have c:∀q p o z,eQ (λq=>q<=f.fn.code.length) T q p o z->(aK i { f with next:=f.next+1 }).1.next=q->f.next<q->(aK i { f with next:=f.next+1 }).1.ops.length=p->(aK i { f with next:=f.next+1 }).1.g_=f.g_->o=(T f.next).v->pG (aK i { f with next:=f.next+1 }).1/\f.next<(aK i { f with next:=f.next+1 }).1.next:=λq p o z t x U M P Q=>by
  obtain⟨H,L,W,_⟩:=t;have m:(aK i { f with next:=f.next+1 }).1.fn=f.fn:=jJ _ _
  refine⟨⟨⟨y,T,?_,?_,?_,?_⟩,?_,?_,r⟩,o_⟩
  ·rw[m];exact E
  ·rw[x,L,M]
  ·rw[x,P];omega
  ·rw[m];exact O
  ·rw[m];exact J
  ·rw[m,x];exact H
 obtain⟨-, -,b⟩:=b;cases i<;>first|(cases l;done)|skip
 case push a=>exact c _ _ _ _ b rfl o_ (by simp[aK,aJ.push,s]) rfl rfl
 case load k=>exact c _ _ _ _ b.2 rfl o_ (by simp[aK,aJ.push,s]) rfl rfl
 case shortcut w q=>
  obtain⟨S,F,K,I⟩:=b;by_cases d:({ f with next:=f.next+1 }:aJ).last.sort=1
  ·by_cases j:decide (({ f with next:=f.next+1 }:aJ).last.n=1)=w
   ·exact c _ _ _ _ K (by simp[aK,d,j]) F (by simp[aK,d,j,aJ.push,aJ.pop];omega) (by simp[aK,d,j,aJ.push,aJ.pop]) rfl
   ·exact c _ _ _ _ I (by simp[aK,d,j,aJ.pop]) o_ (by simp[aK,d,j,aJ.pop];omega) (by simp[aK,d,j,aJ.pop]) rfl
  ·simp[aK,d] at n
 case truth=>
  by_cases d:({ f with next:=f.next+1 }:aJ).last.sort=1
  ·exact c _ _ _ _ b.2 (by simp[aK,d,aJ.push,aJ.pop]) o_ (by simp[aK,d,aJ.push,aJ.pop];omega) (by simp[aK,d,aJ.push,aJ.pop]) rfl
  ·simp[aK,d] at n
 all_goals
  simp only[aK] at n c ⊢
  split at n
  ·rename_i G;simp only[G,if_true] at c ⊢
   refine c _ _ _ _ b.2 rfl o_ ?_ rfl rfl
   simp[aJ.push,aJ.pop,aJ.popMany];omega
  ·contradiction
def wS:∀(k:Nat) {f:aJ},pG f->f.fn.code.length-f.next<=k->(fR k f).2=0->∃a,(fR k f).1.ops=[a]/\bT a
 |k,f,h,d,b=>by
  by_cases l:f.next<f.fn.code.length
  ·obtain⟨i,g,w,o,u,n,r⟩:=h.step l;match k,d with
   |0,d=>omega
   |k+1,d=>
    rw[n k] at b ⊢
    by_cases c:(aK i g).2=0
    ·rw[if_pos c] at b ⊢
     obtain⟨p,v⟩:=r c;have e:(aK i g).1.fn=f.fn:=(jJ _ _).trans o;exact wS k p (by rw[e];omega) b
    ·rw[if_neg c] at b;exact absurd b c
  ·have e:f.next=f.fn.code.length:=jr h.next (Nat.le_of_not_lt l)
   rw[wT (jj e.symm)];obtain⟨⟨t,T,A,j,z,s⟩,x,y,q⟩:=h;rw[e,s] at j;obtain⟨a,m⟩:=List.length_eq_one_iff.1 j.symm;exact⟨a,m,q.ops a (by rw[m];simp)⟩
def O7{e_:cN}{a:List aL}{A:aC}(c:ExOk [] true e_ d A)(g:nD A)(w:e_.length<=a.length)(b:(aF [] e_ d A 0).length<=90000)(u:∀v∈a,bT v):pG ⟨⟨[],aF [] e_ d A 0⟩,0,0,[],a,[]⟩/\1<=(aF [] e_ d A 0).length:=by
 obtain⟨⟨T, -,p,n, -,k, -, -,o⟩,r⟩:=nN [] true e_ d A (λ_ _=>False) 0 0 a.length none c w cK ⟨λq y z h=>h.elim,λq y h=>h.elim⟩
 rw[gb] at k;refine⟨⟨⟨fX [],T,λj i l=>⟨?_,oV [] e_ d A 0 c i (gv l)⟩,p,n,k⟩,b,ft _,⟨⟨λv f=>(kZ [] e_ d A 0 g _ f).1 v rfl,λx s=>(kZ [] e_ d A 0 g _ s).2 x rfl⟩,u,λv f=>by cases f⟩⟩,r⟩
 have m:=o j i l;simp only[gb] at m;refine m.same rfl (λq e=>⟨?_,rfl,cK,d6 rfl⟩) λ_ _ _ h=>h
 rcases e with e|⟨y,t⟩
 ·simpa using e.2
 ·exact t.elim
def ExOk.mem{a_:Bool}{s1 i:cN}(m:∀x,x∈s1->x∈i):∀{d:Nat} {a:aC},ExOk fs a_ s1 d a->ExOk fs a_ i d a
 |0,_,h=>h.elim
 |d+1,a,h=>by
  have f:∀k,ExOk fs a_ s1 d k->ExOk fs a_ i d k:=λk g=>ExOk.mem m g
  rcases h with h|⟨c,b,e⟩|⟨c,b⟩|⟨c,l,r,b,e,j⟩|⟨c,l,b,e⟩|⟨c,b,e⟩|⟨c,l,r,b,e,j⟩
  ·exact d7 h
  ·exact d6 (d7 ⟨c,b,m _ e⟩)
  ·exact d6 (d6 (d7 ⟨c,λk g=>f k (b k g)⟩))
  ·exact d6 (d6 (d6 (d7 ⟨c,l,r,b,f l e,f r j⟩)))
  ·exact d6 (d6 (d6 (d6 (d7 ⟨c,l,b,f l e⟩))))
  ·exact d6 (d6 (d6 (d6 (d6 (d7 ⟨c,λk g=>f k (b k g),e⟩)))))
  ·exact d6 (d6 (d6 (d6 (d6 (d6 ⟨c,l,r,b,f l e,f r j⟩)))))
end Go.Proofs.YtddnpoiiimjpcaaGreatDoor.Hs
namespace Go.Proofs.YtddnpoiiimjpcaaGreatDoor
open Hs
open _root_.Go.Proofs.Tryz
open Go.RowKit
variable{c:Array Value}{a_:Bool}{W:Int}{xs:List Value}{fs:List aC}{b i m n pb:Nat}{e:TypeId}{R:Value->aC->Prop}{a w w' w1:aG}{v:aQ}{s:bC}{l:cE}
def E7(s:ByteArray)(k:Nat)(h:k<s.size):s.data.toList.take (k+1)=s.data.toList.take k++[s[k]]:=by
 rw[gq (by simpa using h)];rfl
def ZZ{k:IntKind}{a b:Int}(h:a=b):Ending.returned (.int k a)=aX (.int k b):=by rw[h]
def jU{a b:Bool}(h:a=b):Ending.returned (.bool a)=aX (.bool b):=by rw[h]
def bL_(c d:UInt8):(c=d)↔((c.toNat:Int)=(d.toNat:Int)):=by
 rw[<-jk];omega
def oW(c:UInt8):(c.toNat:Int)<=255:=by have:=c.toNat_lt;omega
def BS(s:ByteArray)(k:Nat)(h:k<s.size):s.data.toList[k]?=some s[k]:=by
 simp[h];rfl
def IZ(s:ByteArray)(n i:Nat)(h:n+i<s.size):(s.data.toList.drop n)[i]?=some s[n+i]:=by
 rw[js];exact BS s _ h
def XZ{lo:Nat}(h:dN l i lo b=true):i<l.length:=by
 unfold dN at h;by_cases a:i<l.length
 ·exact a
 ·rw[gi o_] at h;cases h
def R3(l:cE):bL l<=l.length:=by
 unfold bL;split
 ·omega
 ·rename_i b a
  have c:0<l.length:=by
   by_cases h:0<l.length
   ·exact h
   ·rw[gi o_] at a;cases a
  repeat' split
  all_goals first
   |omega
   |(have:=XZ ‹dN l 1 _ _=true›;omega)
   |(have h:=‹(dN l 1 _ _ && dN l 2 _ _)=true›
     simp only[fw] at h;have:=XZ h.2;omega)
   |(have h:=‹(dN l 1 _ _ && dN l 2 _ _ && dN l 3 _ _)=true›
     simp only[fw] at h;have:=XZ h.2;omega)
def MU(l:cE)(p f:Nat)(h:0<l.length)(a:bL l≠0):dZ (f+1) l p=dZ f (l.drop (bL l)) (p+bL l):=by
 rw[dZ,if_neg o_,if_neg a]
def QI(l:cE)(p f:Nat)(h:0<l.length)(a:bL l=0):dZ (f+1) l p=some p:=by
 rw[dZ,if_neg o_,if_pos a]
def QH(l:cE)(p f:Nat)(h:l.length=0):dZ f l p=none:=by
 cases f with
 |zero=>rfl
 |succ f=>rw[dZ,if_pos h]
def nE(x l:cE)(h:x.length<=l.length):x.isPrefixOf l=(l.take x.length==x):=by
 induction x generalizing l with
 |nil=>simp
 |cons a x c=>
  cases l with
  |nil=>simp at h
  |cons b l=>
   simp only[List.isPrefixOf,ep,iu,List.cons_beq_cons];rw[c l (by simpa using h),show (a==b)=(b==a) from Bool.beq_comm]
def BQ(x l:cE)(h:l.length<x.length):x.isPrefixOf l=false:=by
 rw[Bool.eq_false_iff];intro a;have:=(kh.1 a).length_le;omega
def lL(s:ByteArray)(k:Nat)(h:k<s.size):s.data.toList.drop k=s[k]::s.data.toList.drop (k+1):=by
 rw[jz (by simpa using h)];rfl
def ZI(f:Nat):Hs.blankL f []=0:=by cases f<;>rfl
def OT(f:Nat)(c:UInt8)(r:cE)(h:c.toNat=32\/c.toNat=9\/c.toNat=10):Hs.blankL (f+1) (c::r)=Hs.blankL f r+1:=by
 rw[Hs.blankL,if_pos h]
def JS(f:Nat)(c:UInt8)(r:cE)(h:¬(c.toNat=32\/c.toNat=9\/c.toNat=10))(a:cY (c::r) [47,47]=true):
 Hs.blankL (f+1) (c::r)=bQ eS (c::r)+Hs.blankL f ((c::r).drop (bQ eS (c::r))):=by
 rw[Hs.blankL,if_neg h,if_pos a]
def UN(f:Nat)(c:UInt8)(r:cE)(h:¬(c.toNat=32\/c.toNat=9\/c.toNat=10))(a:cY (c::r) [47,47]=false):
 Hs.blankL (f+1) (c::r)=0:=by
 rw[Hs.blankL,if_neg h,if_neg (by rw[a];simp)]
def tB(p:UInt8->Bool)(c:UInt8)(r:cE)(h:p c=true):bQ p (c::r)=bQ p r+1:=by rw[bQ,if_pos h]
def QJ(p:UInt8->Bool)(c:UInt8)(r:cE)(h:p c=false):bQ p (c::r)=0:=by rw[bQ,if_neg (by rw[h];simp)]
def J6(b:UInt8):eS b=((b.toNat:Int) != 10):=by
 unfold eS;rw[jf];simp;omega
def bs(l:cE):ByteArray:=⟨l.toArray⟩
def gD(l:cE):(bs l).data.toList=l:=by simp[bs]
def gJ(l:cE):(bs l).size=l.length:=by simp[bs,ByteArray.size]
def y9{a b:ByteArray}(h:a.data.toList=b.data.toList):a=b:=by
 cases a;cases b;simp only at h;congr 1;exact Array.toList_inj.1 h
def FG(s:ByteArray)(a b:Nat):s.extract a b=bs ((s.data.toList.drop a).take (b-a)):=
 y9 (by rw[Lib.extract_data,gD])
def cD(l:cE):(bs l).toList=l:=by rw[Lib.toList_data,gD]
def tC(p:UInt8->Bool)(l:cE):∀c∈l.take (bQ p l),p c=true:=by
 induction l with
 |nil=>simp
 |cons a r d=>
  intro c b;by_cases h:p a=true
  ·rw[tB _ _ _ h,iu] at b;rcases eo.1 b with rfl|b
   ·exact h
   ·exact d c b
  ·rw[QJ _ _ _ (by simpa using h)] at b;simp at b
def bcell{W:aG}(a:Below W.heap.size W w1):(∀b o,b<W.heap.size->w1.cell? (aI b o)=W.cell? (aI b o))/\(∀b o,b<W.heap.size->w1.frozen? (aI b o)=W.frozen? (aI b o)):=
 ⟨λb o h=>a.cell (p:=(aI b o)) h,λb o h=>a.frozen (p:=(aI b o)) h⟩
def NL:∀k (h:k<21),(cX[k]'(by simpa [cX] using h)).length<=2:=d_
def yJ(l:cE)(k:Nat):Prop:=∀o∈cX.take k,cY l o=false
def RN{k:Nat}(h:k<21)(c:yJ l k)(b:cY l (cX[k]'(by simpa [cX] using h))=false):yJ l (k+1):=by
 intro o a;rw[gq (by simpa [cX] using h)] at a
 rcases eq.1 a with a|a
 ·exact c o a
 ·rw[et.1 a];exact b
def WO{k:Nat}(h:k<21)(c:yJ l k)(q:cE)(b:q=cX[k]'(by simpa [cX] using h))(a:cY l q=true):
 iC l={ sort:=112,x_:=q,size:=q.length,ok:=true }:=by
 have e:cX.find? (λo=>cY l o)=some q:=by
  rw[List.find?_eq_some_iff_getElem];refine⟨a,k,by simpa [cX] using h,b.symm,λj d=>?_⟩
  have:=c (cX[j]'(by have:cX.length=21:=rfl;omega)) (by
   rw[List.mem_take_iff_getElem];exact⟨j,by have:cX.length=21:=rfl;omega,rfl⟩)
  simp[this]
 unfold iC;rw[e]
def RH(b:yJ l 21):iC l={ sort:=0,x_:=[],size:=0,ok:=false }:=by
 have e:cX.find? (λo=>cY l o)=none:=by
  rw[jl];intro o a;rw[b o (by rw[gr d_];exact a)];simp
 unfold iC;rw[e]
def V6(s:ByteArray)(k f:Nat)(e:k<s.size)(a:(cG (s.data.toList.drop k)).ok=true)(m:Nat)
 (b:m=k+(cG (s.data.toList.drop k)).size+Hs.blankL s.size (s.data.toList.drop (k+(cG (s.data.toList.drop k)).size))):
 eW (f+1) (s.data.toList.take k) (s.data.toList.drop k)=
  iV [{ sort:=(cG (s.data.toList.drop k)).sort,x_:=(cG (s.data.toList.drop k)).x_,l_:=bD (s.data.toList.take k) }] (eW f (s.data.toList.take m) (s.data.toList.drop m)):=by
 have c:(s.data.toList.drop k).length=s.size-k:=s_
 have d:=vS _ a
 rw[mT f _ _ o_ a (m-k) (by
  rw[c,iw,b,GE s.size (s.size-k) _ s_ t_];omega)]
 rw[iw,show k+(m-k)=m by omega,<-List.take_add,show k+(m-k)=m by omega]
def iM{a:Nat}(h:w.ownsRow b e a v n xs)(l:Below w.heap.size w w1):w1.ownsRow b e a v n xs:=by
 refine⟨h.1,?_⟩;rcases h.2 with d|⟨g,f,c,k,d,i,j⟩
 ·exact d7 d
 ·refine d6 ⟨g,f,c,k,d,?_,j⟩;rw[l.block g ?_];exact i;by_cases m:g<w.heap.size
  ·exact m
  ·rw[ij o_] at i;cases i
def cS{a:Nat}(h:w.ownsRow b e a v n xs):∀k,v.ownBlock=some k->b<=k:=by
 intro k c;rcases h.2 with ⟨rfl,_⟩|⟨g,f,d,rfl,i,_⟩
 ·cases c
 ·have:g=k:=Option.some.inj c;omega
def aB{p:Prop}(h:p):Hid p:=h
structure Ctx where
 pb:Nat
 g:Nat
 cap:Nat
 ts:List bB
structure Fr(pb:Nat)(w w':aG):Prop where
 os:w'.os=w.os
 tape:w'.tape=w.tape
 output:w'.output=w.output
 size:w.heap.size<=w'.heap.size
 block:∀k,k<w.heap.size->k≠pb->w'.heap[k]?=w.heap[k]?
def Fr.refl(pb:Nat)(w:aG):Fr pb w w:=⟨rfl,rfl,rfl,cK,λ_ _ _=>rfl⟩
def Fr.trans{b c:aG}(h:Fr pb a b)(k:Fr pb b c):Fr pb a c:=
 ⟨k.os.trans h.os,k.tape.trans h.tape,k.output.trans h.output,el h.size k.size,λi d e=>(k.block i (ej d h.size) e).trans (h.block i d e)⟩
def Fr.below(h:Below w.heap.size w w'):Fr pb w w':=⟨h.os,h.tape,h.output,h.size,λk a _=>h.block k a⟩
def Fr.drew(h:Fr pb a w):Fr pb a w.drew:=⟨h.os,h.tape,h.output,h.size,h.block⟩
def Fr.drewN(h:Fr pb a w)(n:Nat):Fr pb a (w.drewN n):=⟨h.os,h.tape,h.output,h.size,h.block⟩
def Fr.alloc(h:Fr pb a w)(o:Obj):Fr pb a (w.alloc o):=h.trans (Fr.below ((eh _ _).alloc cK _))
def Fr.setCell(h:Fr pb a w){p:Addr}(d:p.block=pb\/a.heap.size<=p.block)(u:aQ):Fr pb a (w.setCell p u):=
 ⟨h.os,h.tape,h.output,by have:=h.size;simpa [World.setCell] using this,λk b c=>by rw[ei _ _ _ _ o_];exact h.block k b c⟩
def aD{o:Obj}(h:w.heap[b]?=some o):b<w.heap.size:=by
 by_cases a:b<w.heap.size
 ·exact a
 ·rw[ij o_] at h;cases h
def aA(h:w.heap[b]?=some (.cells c e (0,0)))(a:c[i]?=some v):w.cell? (aI b i)=some v:=by
 simp[World.cell?,h,a]
def aE(h:w.heap[b]?=some (.cells c e (0,0))):w.frozen? (aI b i)=false:=by
 simp[World.frozen?,h]
def aO{f:Nat × Nat}(h:w.heap[b]?=some (.cells c e f)){u:aQ}:(w.setCell (aI b i) u).heap[b]?=some (.cells (c.setIfInBounds i u) e f):=by
 simp[World.setCell,Array.getElem?_modify,h]
def kV(R:Value->aC->Prop):List Value->List aC->Prop
 |[],[]=>True
 |v::vs,a::ks=>R v a/\kV R vs ks
 |_,_=>False
def kV.mono{S:Value->aC->Prop}(h:∀v a,R v a->S v a):∀{vs ks},kV R vs ks->kV S vs ks
 |[],[],_=>trivial
 |_::_,_::_,⟨c,b⟩=>⟨h _ _ c,kV.mono h b⟩
 |[],_::_,h=>h.elim
 |_::_,[],h=>h.elim
def kV.snoc:∀{vs ks} {v a},kV R vs ks->R v a->kV R (vs++[v]) (ks++[a])
 |[],[],_,_,_,h=>⟨h,trivial⟩
 |_::_,_::_,_,_,⟨c,b⟩,h=>⟨c,kV.snoc b h⟩
 |[],_::_,_,_,h,_=>h.elim
 |_::_,[],_,_,h,_=>h.elim
def Btw(lo hi:Nat)(b:Nat):Prop:=lo<=b/\b<hi
def aY{a:Nat}(h:w.ownsRow b e a v n xs)(l:∀k,v.ownBlock=some k->w1.heap[k]?=w.heap[k]?):w1.ownsRow b e a v n xs:=by
 refine⟨h.1,?_⟩;rcases h.2 with d|⟨g,f,c,i,d,m,j⟩
 ·exact d7 d
 ·refine d6 ⟨g,f,c,i,d,?_,j⟩;rw[l g (by rw[i];rfl)];exact m
def cP{a:Nat}(h:w.ownsRow b e a v n xs):∀k,v.ownBlock=some k->k<w.heap.size:=by
 intro k c;rcases h.2 with ⟨rfl,_⟩|⟨g,f,d,rfl,j,i,_⟩
 ·cases c
 ·have:g=k:=Option.some.inj c;subst this;exact aD i
def Fr.grown{b:Option Nat}(h:Fr pb a w)(c:w.grownBy w' b)(f:∀k,b=some k->a.heap.size<=k):Fr pb a w':=
 ⟨c.os.trans h.os,c.tape.trans h.tape,c.output.trans h.output,el h.size c.size,λk d g=>by
   rw[c.block k (ej d h.size) (λe=>by have:=f k e.symm;omega)];exact h.block k d g⟩
def aN(X:aG)(n:Nat)(b:n=X.heap.size)(a:Obj):(X.alloc a).heap[n]?=some a:=by
 subst b;show (X.heap.push a)[X.heap.size]?=_
 rw[Array.getElem?_push,if_pos rfl]
def eB(X:aG)(n:Nat)(a:n<X.heap.size)(o:Obj){b:Option Obj}(h:X.heap[n]?=b):(X.alloc o).heap[n]?=b:=by
 rw[em _ _ _ a];exact h
def zC(h:w'.heap[b]?=w.heap[b]?):w'.cell? (aI b i)=w.cell? ⟨b,i,none⟩:=by simp[World.cell?,h]
def lG(l:cN):List Value:=l.map λx=>.string (bs x)
def B2:(prog.info? 9).map (λi=>(i.zero,i.size,i.bytes))=some (some (.string (bs [])),1,16):=k_
def kV.get:∀{vs ks} (i:Nat) (b:i<ks.length),kV R vs ks->∃v,vs[i]?=some v/\R v ks[i]
 |v::vs,a::ks,0,_,h=>⟨v,rfl,h.1⟩
 |v::vs,a::ks,i+1,b,h=>by
  obtain⟨u,d,c⟩:=kV.get (vs:=vs) (ks:=ks) i (by simpa using b) h.2
  exact⟨u,by simpa using d,by simpa using c⟩
 |[],_::_,_,_,h=>h.elim
 |_::_,[],_,b,_=>by simp at b
 |[],[],_,b,_=>by simp at b
def oL(s:bC)(l k:Nat):(s.found l k).e_=s.e_:=by
 unfold bC.found;split<;>rfl
def ZE{a:aC}(h:jA fs a_ a.x_=W)(b:W<0):eP fs a_ s a=s.found a.l_ 6:=by
 unfold eP;rw[h,if_pos b]
def S1{a:aC}(h:jA fs a_ a.x_=W)(c:¬W<0)(b:W≠(a.y_.length:Int)):eP fs a_ s a=s.found a.l_ 7:=by
 unfold eP;rw[h,if_neg c,if_pos b]
def S2{a:aC}(h:jA fs a_ a.x_=W)(c:¬W<0)(b:W=(a.y_.length:Int)):eP fs a_ s a=s:=by
 unfold eP;rw[h,if_neg c,if_neg (by simpa using b)]
def XO(fs:List aC)(a_:Bool)(s:bC)(n:aC):(cL fs a_ s n).e_=s.e_:=by
 unfold cL eP;repeat' split
 all_goals first|rfl|exact oL _ _ _
def oD(s:bC)(n:aC):(Hs.declaresL s n).e_=s.e_:=by
 unfold Hs.declaresL;split
 ·exact oL _ _ _
 ·rfl
def Adds(s s':bC)(m:Nat):Prop:=∃t,s'.e_=s.e_++t/\t.length<=m
def Adds.refl(s:bC):Adds s s 0:=⟨[],s_,cK⟩
def Adds.trans{a b c:bC}(h:Adds a b m)(k:Adds b c n):Adds a c (m+n):=by
 obtain⟨t,e,g⟩:=h;obtain⟨u,d,f⟩:=k;exact⟨t++u,by rw[d,e,gl],t_⟩
def Adds.le{a b:bC}(h:Adds a b m)(e:m<=n):Adds a b n:=by
 obtain⟨t,c,d⟩:=h;exact⟨t,c,o_⟩
def Adds.of_eq{a b:bC}(h:b.e_=a.e_):Adds a b 0:=⟨[],by simp[h],cK⟩
def Adds.fold{f:bC->aC->bC}{g:aC->Nat}(h:∀s k,Adds s (f s k) (g k)):∀(l:List aC) (s:bC),Adds s (l.foldl f s) (l.map g).sum
 |[],s=>Adds.refl s
 |k::l,s=>by
  rw[io,e7,fg];exact(h s k).trans (Adds.fold h l _)
def gL(fs:List aC)(a_:Bool):∀(d:Nat) (n:aC) (s:bC),Adds s (aP fs a_ d n s) (cC d n)
 |0,n,s=>Adds.refl s
 |d+1,n,s=>by
  rw[aP,cC];split
  ·match h:n.y_ with
   |t::v::r=>
    simp only;have b:Adds s (Hs.declaresL s t) 0:=Adds.of_eq (oD s t);obtain⟨u,a,c⟩:=b.trans (gL fs a_ d v (Hs.declaresL s t));exact⟨u++[t.x_],by simp[a],t_⟩
   |[]=>exact(Adds.refl s).le o_
   |[_]=>exact(Adds.refl s).le o_
  ·have b:Adds s (cL fs a_ s n) 0:=Adds.of_eq (XO fs a_ s n);have a:=b.trans (Adds.fold (f:=λs k=>aP fs a_ d k s) (g:=cC d) (λs k=>gL fs a_ d k s) n.y_ (cL fs a_ s n))
   split
   ·obtain⟨u,c,e⟩:=a;exact⟨[],by simp[c],s_⟩
   ·exact a.le o_
def uX{f:aC->Nat}{k:aC}:∀{l:List aC},k∈l->f k<=(l.map f).sum
 |[],h=>by cases h
 |x::l,h=>by
  simp only[e7,fg];rcases eo.1 h with rfl|h
  ·omega
  ·have:=uX (f:=f) h;omega
def QA{b_:Nat}{l:cN}(h:w.ownsRow b_ 9 1 v l.length (lG l))(m:Nat)(q:m<=l.length):
 ∃x c,v=.slice x l.length c/\l.length<=c/\c<=maxLen/\w.ownsRow b_ 9 1 (.slice x m c) m (lG (l.take m)):=by
 have f:(lG (l.take m)).length=m*1:=by simp[lG];omega
 rcases h.2 with ⟨rfl,j⟩|⟨g,a,b,rfl,i,o,k,d,p,n⟩
 ·refine⟨none,0,by rw[j],o_,by unfold maxLen;omega,f,d7 ⟨?_,o_⟩⟩
  rw[show m=0 by omega]
 ·refine⟨_,a,rfl,k,d,f,d6 ⟨g,a,b,rfl,i,o,o_,d,p,?_⟩⟩
  have e:lG (l.take m)=(lG l).take m:=by simp[lG,List.map_take]
  rw[e,<-n,je];congr 1;omega
def RP(w:aG)(x:cE):∀j u,([.string (bs x)]:List Value)[j]?=some u->(w.alloc (.cells #[.string (bs x)] 9)).cell? ((⟨w.heap.size,0,none⟩:Addr).add j)=some u:=by
 intro j u a;match j,a with
 |0,a=>simp at a;subst a;simp[Addr.add,go_sem]
 |j+1,a=>simp at a
def A5(x:cE):∀u∈([.string (bs x)]:List Value),u.oneCell'=true:=by
 intro u a;simp at a;subst a;rfl
def qD(d:Nat):∀l:List aC,l.length<=(l.map (cC (d+1))).sum
 |[]=>by simp
 |x::l=>by
  have:=qD d l;have a:1<=cC (d+1) x:=by rw[cC];omega
  simp only[ep,e7,fg];omega
def FineL.mem{l:List aC}(h:Hs.FineL m l){f:aC}(a:f∈l):Hs.FineA m f:=λd=>⟨el (uX a) (h d).1,(h d).2 f a⟩
def FineL.len{l:List aC}(h:Hs.FineL m l):l.length<=m:=el (qD 0 l) (h 1).1
end Go.Proofs.YtddnpoiiimjpcaaGreatDoor
