/- The machine does what the document's run does: plain facts: expressions. -/
import Derived.Test.YthbffcmfmjpncaaGreatDoorP00s
set_option linter.defProp false
set_option maxRecDepth 100000
namespace Go.Proofs.YthbffcmfmjpncaaGreatDoor.Hs
variable{e_:List (List UInt8)}{a:List aF}{d p:Nat}{f:aF}{m:bO}{b s:dY}
structure tN(e_:List (List UInt8))(p:Nat)(c:List aJ)(w_:List aF)(f:aF)(s:dY):Prop where
 code:nR f.fn.code p c
 next:f.next=p
 sees:f.e_=e_
 nodup:e_.Nodup
 g_:e_.length<=f.g_.length
 stop:s.stop=0
 f_:s.f_=fN (w_++[f])
 deep:w_.length+1<=16
def aF.had(f:aF)(n:Nat)(vs:List aH):aF:={ f with next:=n,ops:=f.ops++vs }
def mZ(tab:List dN)(w_:List aF)(f:aF)(n:Nat)(vs:List aH)(s s':dY):Prop:=
 (s'.stop=0->s'.f_=s.f_)/\fL tab ⟨w_++[f],s.tape,s.out⟩ s s' ⟨w_++[f.had n vs],s'.tape,s'.out⟩
def tN.had{c c':List aJ}{vs:List aH}(h:tN e_ p c a f s)(i:nR f.fn.code d c')(g:b.stop=0)(e:b.f_=s.f_):tN e_ d c' a (f.had d vs) b:=by
 refine⟨i,rfl,h.sees,h.nodup,h.g_,g,?_,h.deep⟩;rw[e,h.f_];simp[fN,uH,aF.had]
def LF(h:s.f_=fN (a++[f])):s.g_=f.e_.reverse.zip f.g_:=by
 unfold dY.g_;rw[h];simp[fN,uH]
def EL{g:aF}{t:List Int}{b:Nat}(h:s.f_=fN (a++[f]))(e:g.fn=f.fn)(c:g.l_=f.l_)(i:g.e_=f.e_)(d:g.g_=f.g_):
 (⟨s.f_.map λf=>(f.name,f.l_),s.g_,s.out,b⟩:iB)=toldM ⟨a++[g],t,s.out⟩ b:=by
 rw[LF h];unfold toldM;rw[h];simp[fN,uH,e,c,i,d]
def mZ.then{d:List dN}{n:Nat}{vs:List aH}{s1 p:dY}{i:aJ}{r:aH × Nat}(h:mZ d a f n vs s s1)(q:s.f_=fN (a++[f]))
 (A:f.fn.code[n]?=some i) (v:i.isBegin=false) (y:s1.stop≠0->p=s1) (t:s1.stop=0->p=s1.or r.2) (z:r.2≠9)
 (u:s1.stop=0->(r.2=0->bU d i a { f.had n vs with next:=n+1 } s1.tape s1.out=(⟨a++[f.had (n+1) [r.1]],s1.tape,s1.out⟩,0))/\(r.2≠0->bU d i a { f.had n vs with next:=n+1 } s1.tape s1.out=(⟨a++[f.had (n+1) []],s1.tape,s1.out⟩,r.2))):
 mZ d a f (n+1) [r.1] s p:=by
 by_cases c:s1.stop=0
 rotate_left
 ·rw[y c];refine⟨λo=>absurd o c,?_⟩
  rcases h.2 with ⟨w,_⟩|x
  ·exact absurd w c
  ·exact F5 x
 have j:=t c;have b:(f.had n vs).fetch=some (i,{ f.had n vs with next:=n+1 }):=vU (f:=f.had n vs) A
 have m:s1.f_=fN (a++[f]):=(h.1 c).trans q;by_cases l:r.2=0
 ·have e:s1.or r.2=s1:=by unfold dY.or;rw[if_neg (by rw[l];simp)]
  rw[e] at j;subst j;exact⟨λo=>h.1 o,h.2.trans (λ_=>fL.step b v ((u c).1 l) c rfl) λk=>absurd c k⟩
 ·have e:s1.or r.2={ s1 with stop:=r.2 }:=by unfold dY.or;rw[if_pos ⟨l,c⟩]
  rw[e] at j;subst j;refine⟨λo=>absurd o l,h.2.trans (λ_=>fL.stops b ((u c).2 l) l z rfl rfl ?_) λk=>absurd c k⟩
  exact EL (s:={ s1 with stop:=r.2 }) (g:=f.had (n+1) []) m rfl rfl rfl rfl
structure ZZ(e_:List (List UInt8))(p:Nat)(c:List aJ)(w_:List aF)(f:aF)(s:dY):Prop where
 code:nR f.fn.code p c
 next:f.next=p
 nodup:e_.Nodup
 g_:e_.length<=f.g_.length
 stop:s.stop=0
 f_:s.f_=fN w_++[uH f e_]
 deep:w_.length+1<=16
def fL.any{a:List dN}{e c:bO}(h:fL a m s b e)(f:b.stop≠0):fL a m s b c:=by
 rcases h with ⟨d,_⟩|h
 ·exact absurd d f
 ·exact F5 h
def mZ.push{b:List dN}{i:aJ}{v:aH}(h:f.fn.code[p]?=some i)(c:f.next=p)(e:s.stop=0)(g:i.isBegin=false)(d:bU b i a { f with next:=p+1 } s.tape s.out=(⟨a++[f.had (p+1) [v]],s.tape,s.out⟩,0)):mZ b a f (p+1) [v] s s:=
 ⟨λ_=>rfl,fL.step (vU (f:=f) (by rw[c];exact h)) g (by rw[c];exact d) e rfl⟩
def tN.st{c c':List aJ}(h:tN e_ p c a f s)(i:nR f.fn.code d c')(g:b.stop=0)(e:b.f_=s.f_):ZZ e_ d c' a (f.had d []) b:=
 ⟨i,rfl,h.nodup,h.g_,g,by rw[e,h.f_];simp[fN,uH,aF.had,h.sees],h.deep⟩
def stC_seen{fs:List aC}{a:aC}(h:gB fs d e_ a):(bP fs d e_ a p).2=cO e_ a:=
 (kS fs d e_ a (λ_ _=>False) p h ⟨λ_ _ _ h=>h.elim,λ_ _ h=>h.elim⟩).2.1
def EF:∃k:Nat,16*320000+2<=k:=⟨_,F6 _⟩
noncomputable def pV:Nat:=Classical.choose EF
def EE:16*320000+2<=pV:=Classical.choose_spec EF
noncomputable def qB(tab:List dN)(m0:bO):Nat->Option fU
 |0=>(eQ tab pV m0).map λr=>⟨0,r.1,cI 0 r.2⟩
 |t+1=>
  match qB tab m0 t with
  |none=>none
  |some s=>if s.stop=0 then (eQ tab pV s.m).map λr=>⟨t+1,r.1,cI (t+1) r.2⟩ else none
structure D1(ar:Nat->Option Nat)(s:fU):Prop where
 told:∀x∈s.m.f_,x.e_.length<=x.g_.length
 deep:s.m.f_.length<=16
 ok:s.stop=0->hY ar s.m/\s.m.f_≠[]
 m_:s.m_<=500
def LE{ar:Nat->Option Nat}(h:hY ar m):∃k,wgts m.f_<=m.f_.length*k/\k=320000:=by
 have d:∀f∈m.f_,gX f<=320000:=λf a=>by
  have n:f.fn.code.length<=80000:=by
   rcases N0 m.f_ with c|⟨b,x,c⟩
   ·rw[c] at a;cases a
   ·rw[N1] at c;have i:=h.ok.low;have e:=h.ok.top x (by rw[c];exact fI _ _)
    rw[c,fY] at i;rw[c] at a;rcases G8.1 a with a|a
    ·obtain⟨T,g,_⟩:=(i f a).code;exact g.len
    ·obtain⟨T,g,_⟩:=e.code;rw[G5.1 a];exact g.len
  unfold gX;split
  ·omega
  ·split<;>omega
 have:∀l:List aF,(∀f∈l,gX f<=320000)->wgts l<=l.length*320000:=by
  intro l;induction l with
  |nil=>intro _;simp[wgts]
  |cons x l j=>
   intro h;have i:=h x (K8 ..);have e:=j λf a=>h f (L6 _ a)
   unfold wgts at e ⊢
   simp only[J1,J2,G1,Nat.succ_mul];omega
 exact⟨320000,this m.f_ d,rfl⟩
def LL{ar:Nat->Option Nat}{a:List dN}(b:pW ar a)(h:hY ar m):∃r,eQ a pV m=some r/\GT ar r:=
 jC b pV m h (by
  obtain⟨k,d,c⟩:=LE h;have e:=Nat.mul_le_mul_right k h.ok.deep;have:=EE;omega)
def pR(f:Nat):∀(n:Nat) (t:List UInt8),digitsF f n t=digitsF f n []++t:=by
 induction f with
 |zero=>intro n t;rfl
 |succ f a=>
  intro n t;simp only[digitsF];split
  ·rfl
  ·rw[a (n/10) (_::t),a (n/10) [_]];simp
def lB(k:Nat)(h:k<10):(UInt8.ofNat (48+k)).toNat=48+k:=by
 rw[UInt8.toNat_ofNat'];omega
def tI(k:Nat)(h:k<10):bS (UInt8.ofNat (48+k))=true:=by
 unfold bS;rw[lB k h];simp;omega
def uU(f:Nat):∀(n:Nat) (t:List UInt8),(∀c∈t,bS c=true)->∀c∈digitsF f n t,bS c=true:=by
 induction f with
 |zero=>intro n t h;exact h
 |succ f b=>
  intro n t h;simp only[digitsF];split
  ·rename_i d;intro c a;rcases G9.1 a with rfl|a
   ·exact tI n d
   ·exact h c a
  ·refine b _ _ λc a=>?_
   rcases G9.1 a with rfl|a
   ·exact tI _ (Nat.mod_lt _ o_)
   ·exact h c a
def digitsF_len(f:Nat):∀(n:Nat) (t:List UInt8),(digitsF f n t).length<=f+t.length:=by
 induction f with
 |zero=>intro n t;simp[digitsF]
 |succ f a=>
  intro n t;simp only[digitsF];split
  ·simp;omega
  ·have:=a (n/10) (UInt8.ofNat (48+n%10)::t);rw[G1] at this;omega
def BV(f n:Nat):digitsF (f+1) n []≠[]:=by
 simp only[digitsF];split
 ·simp
 ·rw[pR];simp
def xG(d:List UInt8)(c:UInt8):∀(n m:Nat),bW n d=some m->10*m+(c.toNat-48)<=fP->c.toNat-48<=fP->bW n (d++[c])=some (10*m+(c.toNat-48)):=by
 induction d with
 |nil=>
  intro n m h a b;cases h;simp only[N2,bW];rw[if_neg o_]
 |cons x d e=>
  intro n m h a b;simp only[bW] at h;split at h
  ·cases h
  ·rename_i f;simp only[J3,bW];rw[if_neg f];exact e _ _ h a b
def uT(f:Nat):∀n:Nat,n<10 ^ f->n<=fP->bW 0 (digitsF f n [])=some n:=by
 induction f with
 |zero=>intro n h _;obtain rfl:n=0:=by simpa using h
        rfl
 |succ f c=>
  intro n h g;simp only[digitsF];split
  ·rename_i b;simp only[bW,lB n b];rw[if_neg (by unfold fP;omega)]
   congr 1;omega
  ·rename_i b;rw[pR];have e:n/10<10 ^ f:=by rw[Nat.pow_succ] at h;omega
   have d:=c (n/10) e o_
   have a:=lB (n%10) (Nat.mod_lt _ o_)
   rw[xG _ _ 0 (n/10) d (by rw[a];omega) (by rw[a];unfold fP;omega),a]
   congr 1;omega
def cX(n:Nat):List UInt8:=digitsF 20 n []
def qZ(n:Nat)(h:n<=fP):bW 0 (cX n)=some n:=uT 20 n (by unfold fP at h;omega) h
def jL(n:Nat):∀c∈cX n,bS c=true:=uU 20 n [] s_
def nK(n:Nat):cX n≠[]:=BV 19 n
def lT(n:Nat):(cX n).length<=20:=by have:=digitsF_len 20 n [];rw[G4] at this;exact this
def eD(l:List UInt8):Prop:=∀c r,l=c::r->bS c=false/\dQ c=false/\¬(c.toNat=32\/c.toNat=9\/c.toNat=10)/\cE (c::r) [47,47]=false
def eD.blank{l:List UInt8}(h:eD l)(n:Nat):blankL n l=0:=by
 cases n with
 |zero=>rfl
 |succ n=>
  cases l with
  |nil=>rfl
  |cons c r=>
   obtain⟨_,_,b,a⟩:=h c r rfl;rw[fT,if_neg b,if_neg (by rw[a];simp)]
def wM(d a:List UInt8)(b:∀c∈d,bS c=true)(f:eD a):bA (dD false) (d++a)=d.length:=by
 induction d with
 |nil=>
  cases a with
  |nil=>rfl
  |cons c r=>
   obtain⟨g,_⟩:=f c r rfl;simp[bA,dD,g]
 |cons c d e=>
  simp only[J3,bA];rw[if_pos (by simp[dD,b c s_]),e λc h=>b c (by simp[h])]
  rfl
def tH(c:UInt8)(h:bS c=true):dQ c=false:=by
 unfold bS at h;unfold dQ;simp only[I7,decide_eq_true_eq] at h;obtain⟨a,b⟩:=h;simp only[Bool.or_eq_false_iff,beq_eq_false_iff_ne,Bool.and_eq_false_iff,decide_eq_false_iff_not];omega
def xN(d a:List UInt8)(n:Nat)(i:d≠[])(b:∀c∈d,bS c=true)(g:eD a)(f:bW 0 d=some n):
 bN (d++a)=⟨48,d,d.length,true⟩:=by
 cases d with
 |nil=>exact absurd rfl i
 |cons c d=>
  have h:=wM (c::d) a b g;have e:=b c s_
  rw[J3,bN,if_pos (by rw[e];rfl),tH c e]
  unfold fF;rw[if_neg s_]
  rw[<-J3,h];rw[List.take_left,f];rfl
def EM(f:Nat)(pre w a:List UInt8)(s:Nat)(d:w≠[])(b:bN (w++a)=⟨s,w,w.length,true⟩)(g:eD a):
 cN (f+1) pre (w++a)=dG [⟨s,w,aS pre⟩] (cN f (pre++w) a):=by
 have e:¬(w++a).length=0:=by
  cases w with
  |nil=>exact absurd rfl d
  |cons c w=>simp
 rw[hJ f pre (w++a) e (by rw[b]) w.length (by rw[b];rw[List.drop_left,g.blank];rfl),b,List.take_left,List.drop_left]
def sQ:List UInt8:=[40,41,43,45,42,47,37]
def pI(a b:List aR)(x:Except Nat (List aR)):dG (a++b) x=dG a (dG b x):=by cases x<;>simp[dG]
def AP(f:Nat)(pre:List UInt8)(c:UInt8)(h:c∈sQ)(a:List UInt8)(g:eD a\/∃d r,a=d::r/\bS d=true):
 cN (f+1) pre (c::a)=dG [⟨112,[c],aS pre⟩] (cN f (pre++[c]) a):=by
 have j:∀n,blankL n a=0:=by
  intro n;rcases g with g|⟨d,r,rfl,e⟩
  ·exact g.blank n
  ·cases n with
   |zero=>rfl
   |succ n=>
    unfold bS at e;simp only[I7,decide_eq_true_eq] at e;rw[fT,if_neg o_,if_neg]
    intro i;have:=M0.1 i;obtain⟨t,b⟩:=this;simp only[J3,List.cons.injEq] at b;rw[<-b.1] at e;revert e;decide
 have b:bN (c::a)=⟨112,[c],1,true⟩:=by
  simp only[sQ,G9,I0,or_false] at h;rcases h with rfl|rfl|rfl|rfl|rfl|rfl|rfl<;>rfl
 rw[hJ f pre (c::a) s_ (by rw[b]) 1 (by rw[b];show 1=1+blankL _ (List.drop 1 (c::a));rw[List.drop_one,List.tail_cons,j]),b]
 rfl
def litL(x:Int):List UInt8:=
 if x= -9223372036854775808 then [40,45]++(cX 9223372036854775807++([45]++(cX 1++[41])))
 else if x<0 then [40,45]++(cX x.natAbs++[41])
 else cX x.natAbs
def sW(x:Int):List aR:=
 if x= -9223372036854775808 then [⟨112,[40],1⟩,⟨112,[45],1⟩,⟨48,cX 9223372036854775807,1⟩,⟨112,[45],1⟩,⟨48,cX 1,1⟩,⟨112,[41],1⟩]
 else if x<0 then [⟨112,[40],1⟩,⟨112,[45],1⟩,⟨48,cX x.natAbs,1⟩,⟨112,[41],1⟩]
 else [⟨48,cX x.natAbs,1⟩]
def nF(l:List UInt8)(h:∀c∈l,c≠10):aS l=1:=by
 unfold aS;rw[O9.2 (λa=>h 10 a rfl)]
def fZ(n:Nat):∀c∈cX n,c≠10:=by
 intro c a e;subst e;exact absurd (jL n 10 a) d_
def lR(n:Nat):1<=(cX n).length:=by
 have:=nK n;cases h:cX n with
 |nil=>exact absurd h this
 |cons c r=>simp
def kD(n:Nat)(r:List UInt8):∃d s,cX n++r=d::s/\bS d=true:=by
 cases h:cX n with
 |nil=>exact absurd h (nK n)
 |cons d s=>exact⟨d,s++r,rfl,jL n d (by rw[h];simp)⟩
def eD.sign(c:UInt8)(a:c=41\/c=45\/c=43\/c=42\/c=37\/c=40)(r:List UInt8):eD (c::r):=by
 intro x y h;obtain⟨rfl,rfl⟩:=List.cons.inj h;rcases a with rfl|rfl|rfl|rfl|rfl|rfl<;>refine⟨d_,d_,d_,rfl⟩
def eD.slash(d:UInt8)(r:List UInt8)(a:bS d=true\/d=40):eD (47::d::r):=by
 intro x y h;obtain⟨rfl,rfl⟩:=List.cons.inj h;refine⟨d_,d_,d_,?_⟩
 have b:d≠47:=by rintro rfl;rcases a with h|h<;>revert h<;>decide
 show (List.isPrefixOf [47,47] (47::d::r))=false
 simp[List.isPrefixOf,Ne.symm b]
def eD.nil:eD []:=by intro c r h;cases h
def jI(f:Nat)(pre:List UInt8)(n:Nat)(e:n<=fP)(a:List UInt8)(b:eD a)(d:∀c∈pre,c≠10):
 cN (f+1) pre (cX n++a)=dG [⟨48,cX n,1⟩] (cN f (pre++cX n) a):=by
 rw[EM f pre (cX n) a 48 (nK n) (xN _ _ n (nK n) (jL n) b (qZ n e)) b,nF pre d]
def cA{a b:List UInt8}(d:∀c∈a,c≠10)(e:∀c∈b,c≠10):∀c∈a++b,c≠10:=by
 intro c f;rcases G8.1 f with h|h
 ·exact d c h
 ·exact e c h
def eK(f:Nat)(pre:List UInt8)(c:UInt8)(g:c∈sQ)(a:List UInt8)(e:eD a\/∃d r,a=d::r/\bS d=true)(b:∀c∈pre,c≠10):
 cN (f+1) pre (c::a)=dG [⟨112,[c],1⟩] (cN f (pre++[c]) a):=by
 rw[AP f pre c g a e,nF pre b]
def nD(x:Int):∀c∈litL x,c≠10:=by
 unfold litL;split
 ·exact cA d_ (cA (fZ _) (cA d_ (cA (fZ _) d_)))
 ·split
  ·exact cA d_ (cA (fZ _) d_)
  ·exact fZ _
def sC(x:Int)(g: -9223372036854775808<=x)(e:x<=9223372036854775807)(pre b:List UInt8)(d:eD b)(a:∀c∈pre,c≠10):
 ∃k,k<=(litL x).length/\∀f,cN (f+k) pre (litL x++b)=dG (sW x) (cN f (pre++litL x) b):=by
 unfold litL sW;split
 ·have:=lR 9223372036854775807;refine⟨6,by simp only[F8,G1,G4];have:=lR 1;omega,λf=>?_⟩
  simp only[I6,J3,N2]
  rw[eK (f+5) pre 40 d_ _ (.inl (eD.sign 45 s_ _)) a,
   eK (f+4) _ 45 d_ _ (.inr (kD _ _)) (cA a d_),
   jI (f+3) _ _ d_ _ (eD.sign 45 s_ _) (cA (cA a d_) d_),
   eK (f+2) _ 45 d_ _ (.inr (kD _ _)) (cA (cA (cA a d_) d_) (fZ _)),
   jI (f+1) _ _ d_ _ (eD.sign 41 s_ _) (cA (cA (cA (cA a d_) d_) (fZ _)) d_),
   eK f _ 41 d_ _ (.inl d) (cA (cA (cA (cA (cA a d_) d_) (fZ _)) d_) (fZ _))]
  simp only[<-pI,I6,J3,N2]
 ·split
  ·refine⟨4,by simp only[F8,G1,G4];have:=lR x.natAbs;omega,λf=>?_⟩
   simp only[I6,J3,N2]
   rw[eK (f+3) pre 40 d_ _ (.inl (eD.sign 45 s_ _)) a,
    eK (f+2) _ 45 d_ _ (.inr (kD _ _)) (cA a d_),
    jI (f+1) _ _ (by unfold fP;omega) _ (eD.sign 41 s_ _) (cA (cA a d_) d_),
    eK f _ 41 d_ _ (.inl d) (cA (cA (cA a d_) d_) (fZ _))]
   simp only[<-pI,I6,J3,N2]
  ·refine⟨1,lR _,λf=>?_⟩
   rw[jI f pre _ (by unfold fP;omega) _ d a]
end Go.Proofs.YthbffcmfmjpncaaGreatDoor.Hs
