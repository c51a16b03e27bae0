/- Plain functions on lists of bytes: lines, characters, blanks, tokens of a source. No Go, no program. -/
import Derived.Test.YthbffcmfmjpncaaGreatDoorA0s
set_option linter.defProp false
set_option maxRecDepth 100000
namespace Go.Proofs.YthbffcmfmjpncaaGreatDoor
theorem o_{p:Prop}(h:p:=by omega):p:=h
theorem s_{p:Prop}(h:p:=by simp):p:=h
theorem t_{p:Prop}(h:p:=by simp;omega):p:=h
theorem d_{p:Prop}(h:p:=by decide):p:=h
theorem k_{p:Prop}(h:p:=by kernel_rfl):p:=h
theorem r_{p:Prop}(h:p:=by rfl):p:=h
theorem E_{a:Type}(x:a):∃y,y=x:=⟨x,rfl⟩
end Go.Proofs.YthbffcmfmjpncaaGreatDoor
namespace Go.Proofs.YthbffcmfmjpncaaGreatDoor.Hs
variable{o e_:List (List UInt8)}{t:List Int}{l x:List UInt8}{N a d h h' k m n p p0 q v v' v1 v2:Nat}{ar:Nat->Option Nat}{e e':Option Nat}{b c α:Type}
def aS(l:List UInt8):Nat:=1+l.count 10
def gS(a b:List UInt8):aS (a++b)=aS a+b.count 10:=by
 unfold aS;rw[List.count_append];omega
def KP(a:List UInt8):a.count 10<=a.length:=List.count_le_length
def nG(a:List UInt8):aS a<=a.length+1:=by have:=KP a;unfold aS;omega
def zC(a:List UInt8)(c:UInt8):aS (a++[c])=aS a+if c=10 then 1 else 0:=by
 rw[gS];by_cases h:c=10<;>simp[h]
def cQ(l:List UInt8)(i lo hi:Nat):Bool:=
 match l[i]? with
 |some b=>decide (lo<=b.toNat) && decide (b.toNat<=hi)
 |none=>false
def bD(l:List UInt8):Nat:=
 match l[0]? with
 |none=>0
 |some b=>
  if b.toNat<128 then 1
  else if 194<=b.toNat/\b.toNat<=223 then if cQ l 1 128 191 then 2 else 0
  else if 224<=b.toNat/\b.toNat<=239 then
   if cQ l 1 (if b.toNat=224 then 160 else 128) (if b.toNat=237 then 159 else 191) && cQ l 2 128 191 then 3 else 0
  else if 240<=b.toNat/\b.toNat<=244 then
   if cQ l 1 (if b.toNat=240 then 144 else 128) (if b.toNat=244 then 143 else 191) && cQ l 2 128 191 && cQ l 3 128 191 then 4 else 0
  else 0
def dA:Nat->List UInt8->Nat->Option Nat
 |0,_,_=>none
 |f+1,l,p=>
  if l.length=0 then none
  else if bD l=0 then some p
  else dA f (l.drop (bD l)) (p+bD l)
def bS(c:UInt8):Bool:=decide (48<=c.toNat) && decide (c.toNat<=57)
def dQ(c:UInt8):Bool:=
 c.toNat==95 || (decide (97<=c.toNat) && decide (c.toNat<=122) || decide (65<=c.toNat) && decide (c.toNat<=90))
def cE(l what:List UInt8):Bool:=what.isPrefixOf l
def bA(p:UInt8->Bool):List UInt8->Nat
 |[]=>0
 |c::r=>if p c then bA p r+1 else 0
def iF(p:UInt8->Bool)(l:List UInt8):bA p l<=l.length:=by
 induction l with
 |nil=>simp[bA]
 |cons c r a=>simp only[bA];split<;>simp<;>omega
def dO(b:UInt8):Bool:=b.toNat != 10
def blankL:Nat->List UInt8->Nat
 |0,_=>0
 |f+1,l=>
  match l with
  |[]=>0
  |c::r=>
   if c.toNat=32\/c.toNat=9\/c.toNat=10 then blankL f r+1
   else if cE (c::r) [47,47] then
    bA dO (c::r)+blankL f ((c::r).drop (bA dO (c::r)))
   else 0
def fP:Nat:=9223372036854775807
def bW:Nat->List UInt8->Option Nat
 |n,[]=>some n
 |n,c::r=>if (fP-(c.toNat-48))/10<n then none else bW (10*n+(c.toNat-48)) r
def fD:List (List UInt8):=[[102,117,110,99],[118,97,114],[105,102],[101,108,115,101],[119,104,105,108,101],[114,101,116,117,114,110],[112,114,105,110,116],[116,114,117,101],[102,97,108,115,101]]
def bX:List (List UInt8):=[[61,61],[33,61],[60,61],[38,38],[124,124],[40],[41],[123],[125],[91],[93],[44],[59],[61],[60],[43],[45],[42],[47],[37],[33]]
def dD(name:Bool)(b:UInt8):Bool:=bS b || name && dQ b
def eN(b:UInt8):Bool:=b.toNat != 34 && b.toNat != 10
structure aR where
 sort:Nat
 x_:List UInt8
 l_:Nat
structure nQ where
 sort:Nat
 x_:List UInt8
 size:Nat
 ok:Bool
def fF(l:List UInt8)(name:Bool):nQ:=
 if name then { sort:=if fD.contains (l.take (bA (dD name) l)) then 107 else 110,x_:=l.take (bA (dD name) l),size:=bA (dD name) l,ok:=decide (bA (dD name) l<=16) }
 else { sort:=48,x_:=l.take (bA (dD name) l),size:=bA (dD name) l,ok:=(bW 0 (l.take (bA (dD name) l))).isSome }
def qA(r:List UInt8):nQ:=
 { sort:=115,x_:=r.take (bA eN r),size:=bA eN r+2,ok:=decide (r[bA eN r]?=some 34) && decide (bA eN r<=100) }
def fR(l:List UInt8):nQ:=
 match bX.find? (λo=>cE l o) with
 |some o=>{ sort:=112,x_:=o,size:=o.length,ok:=true }
 |none=>{ sort:=0,x_:=[],size:=0,ok:=false }
def bN:List UInt8->nQ
 |[]=>{ sort:=0,x_:=[],size:=0,ok:=false }
 |c::r=>if bS c || dQ c then fF (c::r) (dQ c) else if c.toNat=34 then qA r else fR (c::r)
def cN:Nat->List UInt8->List UInt8->Except Nat (List aR)
 |0,_,_=>.error 0
 |f+1,pre,l=>
  if l.length=0 then .ok [{ sort:=101,x_:=[],l_:=aS pre }]
  else if (bN l).ok then
   match cN f (pre++l.take ((bN l).size+blankL l.length (l.drop (bN l).size))) (l.drop ((bN l).size+blankL l.length (l.drop (bN l).size))) with
   |.ok ts=>.ok ({ sort:=(bN l).sort,x_:=(bN l).x_,l_:=aS pre }::ts)
   |.error n=>.error n
  else .error (aS pre)
def eU(l:List UInt8):Except Nat (List aR):=
 cN (l.length+1) (l.take (blankL l.length l)) (l.drop (blankL l.length l))
def iP{w:List UInt8}(h:cE l w=true):w.length<=l.length:=(M0.1 h).length_le
def fT(f:Nat)(c:UInt8)(r:List UInt8):blankL (f+1) (c::r)=
 if c.toNat=32\/c.toNat=9\/c.toNat=10 then blankL f r+1
  else if cE (c::r) [47,47] then bA dO (c::r)+blankL f ((c::r).drop (bA dO (c::r)))
  else 0:=by
 rw[blankL]
def yN(c:UInt8)(r:List UInt8)(h:cE (c::r) [47,47]=true):1<=bA dO (c::r):=by
 have b:c=47:=by
  have:=M0.1 h;obtain⟨t,a⟩:=this;simp only[J3,List.cons.injEq] at a;exact a.1.symm
 subst b;rw[bA,if_pos d_];omega
def tK(f:Nat):∀l:List UInt8,blankL f l<=l.length:=by
 induction f with
 |zero=>intro l;simp[blankL]
 |succ f a=>
  intro l;cases l with
  |nil=>simp[blankL]
  |cons c r=>
   rw[fT];split
   ·have:=a r;simp;omega
   ·split
    ·have b:=a ((c::r).drop (bA dO (c::r)));have d:=iF dO (c::r);rw[L3] at b;omega
    ·omega
def AI(f:Nat):∀(g:Nat) (l:List UInt8),l.length<=f->l.length<=g->blankL f l=blankL g l:=by
 induction f with
 |zero=>
  intro g l h _;obtain rfl:l=[]:=I4 o_
  cases g<;>rfl
 |succ f b=>
  intro g l e d;cases l with
  |nil=>cases g<;>rfl
  |cons c r=>
   cases g with
   |zero=>simp at d
   |succ g=>
    rw[fT,fT];simp only[G1] at e d;rw[b g r o_ o_]
    by_cases a:cE (c::r) [47,47]=true
    ·have i:=yN c r a;rw[b g ((c::r).drop (bA dO (c::r))) (by rw[L3,G1];omega) (by rw[L3,G1];omega)]
    ·simp only[a];rfl
def qQ(l:List UInt8)(b:Bool):(fF l b).size=bA (dD b) l:=by
 unfold fF;split<;>rfl
def sD(l:List UInt8)(h:(bN l).ok=true):1<=(bN l).size/\(bN l).size<=l.length:=by
 cases l with
 |nil=>simp[bN] at h
 |cons c r=>
  rw[bN] at h ⊢
  split
  ·rename_i b;rw[qQ];refine⟨?_,iF _ _⟩
   rw[bA,if_pos (by
    revert b;unfold dD
    cases bS c<;>cases dQ c<;>simp)]
   omega
  ·rename_i b;rw[if_neg b] at h;split
   ·rename_i a;rw[if_pos a] at h;have d:(decide (r[bA eN r]?=some 34) && decide (bA eN r<=100))=true:=h;rw[I7,decide_eq_true_eq] at d
    have f:bA eN r<r.length:=by
     by_cases j:bA eN r<r.length
     ·exact j
     ·rw[J0 o_] at d;exact absurd d.1 s_
    show 1<=bA eN r+2/\bA eN r+2<=(c::r).length
    rw[G1];omega
   ·rename_i a;rw[if_neg a] at h;unfold fR at h ⊢
    cases e:bX.find? (λo=>cE (c::r) o) with
    |none=>rw[e] at h;simp at h
    |some o=>
     have i:=List.find?_some e;have g:=M4 e;refine⟨?_,iP i⟩;have:∀o∈bX,1<=o.length:=d_
     exact this o g
def dG(ts:List aR):Except Nat (List aR)->Except Nat (List aR)
 |.ok l=>.ok (ts++l)
 |.error n=>.error n
def yT(x:Except Nat (List aR)):dG [] x=x:=by cases x<;>rfl
def wN(ts:List aR)(t:aR)(x:Except Nat (List aR)):dG (ts++[t]) x=dG ts (dG [t] x):=by cases x<;>simp[dG]
def jY(f:Nat)(pre l:List UInt8)(h:l.length=0):cN (f+1) pre l=.ok [{ sort:=101,x_:=[],l_:=aS pre }]:=by
 rw[cN,if_pos h]
def nC(f:Nat)(pre l:List UInt8)(h:¬l.length=0)(a:(bN l).ok=false):cN (f+1) pre l=.error (aS pre):=by
 rw[cN,if_neg h,if_neg (by rw[a];simp)]
def hJ(f:Nat)(pre l:List UInt8)(h:¬l.length=0)(b:(bN l).ok=true)(m:Nat)(a:m=(bN l).size+blankL l.length (l.drop (bN l).size)):
 cN (f+1) pre l=dG [{ sort:=(bN l).sort,x_:=(bN l).x_,l_:=aS pre }] (cN f (pre++l.take m) (l.drop m)):=by
 rw[cN,if_neg h,if_pos b,<-a];cases cN f (pre++l.take m) (l.drop m)<;>rfl
structure aC where
 op:List UInt8
 l_:Nat
 x_:List UInt8
 y_:List aC
def aN(ts:List aR)(p:Nat):aR:=ts[p]?.getD { sort:=101,x_:=[],l_:=0 }
def aQ(ts:List aR)(p:Nat)(x:List UInt8):Bool:=((aN ts p).sort==112 || (aN ts p).sort==107) && (aN ts p).x_==x
abbrev bH(α:Type):=Except Nat (α × Nat)
def bad(ts:List aR)(p:Nat):bH α:=.error (aN ts p).l_
def bF(x:List UInt8):Nat:=
 if x==[124,124] then 0
 else if x==[38,38] then 1
 else if x==[61,61] || (x==[33,61] || (x==[60] || x==[60,61])) then 2
 else if x==[43] || x==[45] then 3
 else if x==[42] || (x==[47] || x==[37]) then 4
 else 9
def cY(E:Nat->bH aC)(ts:List aR):Nat->Nat->List aC->bH (List aC)
 |0,_,_=>.error 0
 |g+1,p,acc=>
  match E p with
  |.error l=>.error l
  |.ok (a,q)=>if aQ ts q [44] then cY E ts g (q+1) (acc++[a]) else .ok (acc++[a],q)
def gH(E:Nat->bH aC)(ts:List aR)(p:Nat)(shut:List UInt8):bH (List aC):=
 if aQ ts p shut then .ok ([],p) else cY E ts (ts.length+1) p []
def aM(ts:List aR)(x:List UInt8):bH α->bH α
 |.error l=>.error l
 |.ok (a,q)=>if aQ ts q x then .ok (a,q+1) else bad ts q
def dZ(E:Nat->bH aC)(ts:List aR)(p:Nat)(opens shut:List UInt8):bH (List aC):=
 if aQ ts p opens then aM ts shut (gH E ts (p+1) shut) else bad ts p
def bL{β:Type}(f:α->β):bH α->bH β
 |.error l=>.error l
 |.ok (a,q)=>.ok (f a,q)
def bE{β:Type}(x:bH α)(f:α->Nat->bH β):bH β:=
 match x with
 |.error l=>.error l
 |.ok (a,q)=>f a q
def aK(op:List UInt8)(l_:Nat)(x_:List UInt8)(y_:List aC):aC:={ op:=op,l_:=l_,x_:=x_,y_:=y_ }
def dS(E:Nat->bH aC)(ts:List aR)(p:Nat):bH aC:=
 if (aN ts p).sort==48 || (aN ts p).sort==115 then .ok (aK [UInt8.ofNat (aN ts p).sort] (aN ts p).l_ (aN ts p).x_ [],p+1)
 else if aQ ts p [116,114,117,101] || aQ ts p [102,97,108,115,101] then .ok (aK [98,111,111,108] (aN ts p).l_ (aN ts p).x_ [],p+1)
 else if aQ ts p [40] then aM ts [41] (E (p+1))
 else if aQ ts p [91] then bL (aK [108,105,115,116] (aN ts p).l_ (aN ts p).x_) (dZ E ts p [91] [93])
 else if (aN ts p).sort==110 then
  if aQ ts (p+1) [40] then bL (aK [99,97,108,108] (aN ts p).l_ (aN ts p).x_) (dZ E ts (p+1) [40] [41])
  else .ok (aK [110,97,109,101] (aN ts p).l_ (aN ts p).x_ [],p+1)
 else bad ts p
def cS(E:Nat->bH aC)(ts:List aR):Nat->aC->Nat->bH aC
 |0,_,_=>.error 0
 |g+1,n,p=>
  if aQ ts p [91] then
   match aM ts [93] (E (p+1)) with
   |.error l=>.error l
   |.ok (i,q)=>cS E ts g (aK [105,110,100,101,120] (aN ts p).l_ [] [n,i]) q
  else .ok (n,p)
def eA(E:Nat->bH aC)(ts:List aR):Nat->Nat->bH aC
 |0,_=>.error 0
 |g+1,p=>
  if aQ ts p [45] then bL (λx=>aK [45,120] (aN ts p).l_ [] [x]) (eA E ts g (p+1))
  else if aQ ts p [33] then bL (λx=>aK [33,120] (aN ts p).l_ [] [x]) (eA E ts g (p+1))
  else bE (dS E ts p) (cS E ts (ts.length+1))
def aY(L:Nat->bH aC)(ts:List aR)(k:Nat):Nat->aC->Nat->bH aC
 |0,_,_=>.error 0
 |g+1,n,q=>
  if (aN ts q).sort==112 && bF (aN ts q).x_==k then
   match L (q+1) with
   |.error l=>.error l
   |.ok (r,q2)=>if k=2 then .ok (aK (aN ts q).x_ (aN ts q).l_ [] [n,r],q2) else aY L ts k g (aK (aN ts q).x_ (aN ts q).l_ [] [n,r]) q2
  else .ok (n,q)
def fC(E:Nat->bH aC)(ts:List aR):Nat->Nat->bH aC
 |0,p=>eA E ts (ts.length+1) p
 |j+1,p=>bE (fC E ts j p) (aY (fC E ts j) ts (4-j) (ts.length+1))
def dP(ts:List aR):Nat->Nat->bH aC
 |0,_=>.error 0
 |f+1,p=>fC (dP ts f) ts 5 p
def eJ(E:Nat->bH aC)(ts:List aR):Nat->Nat->List aC->bH (List aC)
 |0,_,_=>.error 0
 |g+1,p,acc=>
  if aQ ts p [91] then
   match aM ts [93] (E (p+1)) with
   |.error l=>.error l
   |.ok (i,q)=>eJ E ts g q (acc++[i])
  else .ok (acc,p)
def eI(E:Nat->bH aC)(ts:List aR)(p:Nat):bH aC:=
 if (aN ts p).sort==110 then
  if aQ ts (p+1) [40] then
   aM ts [59] (bL (λl=>aK [100,111] (aN ts p).l_ (aN ts p).x_ [aK [99,97,108,108] (aN ts p).l_ (aN ts p).x_ l]) (dZ E ts (p+1) [40] [41]))
  else
   bE (aM ts [61] (eJ E ts (ts.length+1) (p+1) [])) λidx q=>
    aM ts [59] (bL (λv=>aK [115,101,116] (aN ts p).l_ (aN ts p).x_ (idx++[v])) (E q))
 else bad ts p
def pY(E:Nat->bH aC)(ts:List aR)(p:Nat):bH aC:=
 if (aN ts (p+1)).sort==110 then
  if aQ ts (p+2) [61] then
   aM ts [59] (bL (λv=>aK [118,97,114] (aN ts p).l_ [] [aK [116,97,114,103,101,116] (aN ts (p+1)).l_ (aN ts (p+1)).x_ [],v]) (E (p+3)))
  else bad ts (p+2)
 else bad ts (p+1)
def rS(E B:Nat->bH aC)(ts:List aR)(p:Nat):bH aC:=
 bE (E (p+1)) λc q=>bE (B q) λb q2=>
  if aQ ts q2 [101,108,115,101] then bL (λd=>aK [105,102] (aN ts p).l_ [] [c,b,d]) (B (q2+1))
  else .ok (aK [105,102] (aN ts p).l_ [] [c,b],q2)
def jB(E B:Nat->bH aC)(ts:List aR)(p:Nat):bH aC:=
 bE (E (p+1)) λc q=>bL (λb=>aK [119,104,105,108,101] (aN ts p).l_ [] [c,b]) (B q)
def fX(E:Nat->bH aC)(ts:List aR)(p:Nat):bH aC:=
 if aQ ts (p+1) [59] then .ok (aK [114,101,116,117,114,110] (aN ts p).l_ [] [],p+2)
 else aM ts [59] (bL (λv=>aK [114,101,116,117,114,110] (aN ts p).l_ [] [v]) (E (p+1)))
def gQ(E:Nat->bH aC)(ts:List aR)(p:Nat):bH aC:=
 aM ts [59] (bL (λv=>aK [112,114,105,110,116] (aN ts p).l_ [] [v]) (E (p+1)))
def iO(E B:Nat->bH aC)(ts:List aR)(p:Nat):bH aC:=
 if aQ ts p [118,97,114] then pY E ts p
 else if aQ ts p [105,102] then rS E B ts p
 else if aQ ts p [119,104,105,108,101] then jB E B ts p
 else if aQ ts p [114,101,116,117,114,110] then fX E ts p
 else if aQ ts p [112,114,105,110,116] then gQ E ts p
 else eI E ts p
def dC(S:Nat->bH aC)(ts:List aR):Nat->Nat->List aC->bH (List aC)
 |0,_,_=>.error 0
 |g+1,p,acc=>
  if aQ ts p [125] then .ok (acc,p)
  else
   match S p with
   |.error l=>.error l
   |.ok (s,q)=>dC S ts g q (acc++[s])
def iL(E:Nat->bH aC)(ts:List aR):Nat->Nat->bH aC
 |0,_=>.error 0
 |f+1,p=>
  if aQ ts p [123] then
   bL (aK [98,108,111,99,107] (aN ts p).l_ []) (aM ts [125] (dC (iO E (iL E ts f) ts) ts (ts.length+1) (p+1) []))
  else bad ts p
def cP(ts:List aR):Nat->Nat->List aC->bH (List aC)
 |0,_,_=>.error 0
 |g+1,p,acc=>
  if (aN ts p).sort==110 then
   if aQ ts (p+1) [44] then cP ts g (p+2) (acc++[aK [112,97,114,97,109] (aN ts p).l_ (aN ts p).x_ []])
   else .ok (acc++[aK [112,97,114,97,109] (aN ts p).l_ (aN ts p).x_ []],p+1)
  else bad ts p
def gL(ts:List aR)(p:Nat):bH (List aC):=
 aM ts [41] (if aQ ts p [41] then .ok ([],p) else cP ts (ts.length+1) p [])
def jT(B:Nat->bH aC)(ts:List aR)(p:Nat):bH aC:=
 if aQ ts p [102,117,110,99] then
  if (aN ts (p+1)).sort==110 then
   if aQ ts (p+2) [40] then
    bE (gL ts (p+3)) λl q=>bL (λb=>aK [102,117,110,99] (aN ts (p+1)).l_ (aN ts (p+1)).x_ (l++[b])) (B q)
   else bad ts (p+2)
  else bad ts (p+1)
 else bad ts p
def eL(F:Nat->bH aC)(ts:List aR):Nat->Nat->List aC->bH (List aC)
 |0,_,_=>.error 0
 |g+1,p,acc=>
  if (aN ts p).sort==101 then .ok (acc,p)
  else
   match F p with
   |.error l=>.error l
   |.ok (s,q)=>eL F ts g q (acc++[s])
def jS(ts:List aR):bH (List aC):=
 eL (jT (iL (dP ts (ts.length+1)) ts (ts.length+1)) ts) ts (ts.length+1) 0 []
structure bG(ts:List aR):Prop where
 next:∀p,p<ts.length->(aN ts p).sort≠101->p+1<ts.length
 l_:∀p,p<ts.length->(aN ts p).l_≠0
structure cC{α:Type}(N p:Nat)(r:bH α):Prop where
 er:∀l,r=.error l->l≠0
 ok:∀a q,r=.ok (a,q)->p<q/\q<N
structure dX{α:Type}(N p:Nat)(r:bH α):Prop where
 er:∀l,r=.error l->l≠0
 ok:∀a q,r=.ok (a,q)->p<=q/\q<N
def cC.weak{r:bH b}(h:cC N p r):dX N p r:=⟨h.er,λa q e=>by have:=h.ok a q e;omega⟩
def cC.ne{a:Type}{r:bH a}(h:cC N p r):r≠.error 0:=λe=>h.er 0 e rfl
def dX.ne{a:Type}{r:bH a}(h:dX N p r):r≠.error 0:=λe=>h.er 0 e rfl
def cC.low{b:Nat}{r:bH c}(h:cC N p r)(d:b<=p):cC N b r:=⟨h.er,λa q e=>by have:=h.ok a q e;omega⟩
def dX.low{b:Nat}{r:bH c}(h:dX N p r)(d:b<p):cC N b r:=⟨h.er,λa q e=>by have:=h.ok a q e;omega⟩
def cC.of_ok(a:b)(h:p<q)(c:q<N):cC N p (.ok (a,q):bH b):=⟨(λl e=>by cases e),λd f e=>by cases e;exact⟨h,c⟩⟩
def dX.of_ok(a:b)(h:p<=q)(c:q<N):dX N p (.ok (a,q):bH b):=⟨(λl e=>by cases e),λd f e=>by cases e;exact⟨h,c⟩⟩
def cC.map{r:bH b}(f:b->c)(h:cC N p r):cC N p (bL f r):=by
 cases r with
 |error l=>exact⟨λi e=>by cases e;exact h.er _ rfl,λa q e=>by cases e⟩
 |ok d=>obtain⟨a,q⟩:=d;exact⟨(λl e=>by cases e),λg j e=>by cases e;exact h.ok _ _ rfl⟩
def bG.isT{ts:List aR}(T:bG ts)(a:p<ts.length)(h:aQ ts p x=true):p+1<ts.length:=by
 refine T.next p a λe=>?_
 unfold aQ at h;rw[e] at h;simp at h
def bG.bad{ts:List aR}(T:bG ts){d:Type}{c:Nat}(b:p<ts.length):cC ts.length c (bad ts p:bH d):=⟨λl e=>by cases e;exact T.l_ p b,λa q e=>by cases e⟩
def bG.take{ts:List aR}(T:bG ts){d:Type}{r:bH d}(h:cC ts.length p r):cC ts.length p (aM ts x r):=by
 cases r with
 |error l=>exact⟨λg e=>by cases e;exact h.er _ rfl,λa q e=>by cases e⟩
 |ok c=>
  obtain⟨a,q⟩:=c;have b:=h.ok a q rfl;unfold aM;simp only;split
  ·rename_i f;exact cC.of_ok a o_ (T.isT b.2 f)
  ·exact T.bad b.2
def bG.takeW{ts:List aR}(T:bG ts){d:Type}{r:bH d}(h:dX ts.length p r):cC ts.length p (aM ts x r):=by
 cases r with
 |error l=>exact⟨λg e=>by cases e;exact h.er _ rfl,λa q e=>by cases e⟩
 |ok c=>
  obtain⟨a,q⟩:=c;have b:=h.ok a q rfl;unfold aM;simp only;split
  ·rename_i f;exact cC.of_ok a o_ (T.isT b.2 f)
  ·exact T.bad b.2
def bG.listLoop{ts:List aR}(T:bG ts){E:Nat->bH aC}(h:∀q,p0<q->q<ts.length->cC ts.length q (E q)):∀(g p:Nat) (acc:List aC),p0<p->p<ts.length->ts.length<=p+g->cC ts.length p (cY E ts g p acc)
 |0,p,acc,_,c,i=>by omega
 |g+1,p,acc,j,c,i=>by
  have d:=h p j c;rw[cY];cases f:E p with
  |error l=>exact⟨λn e=>by cases e;exact d.er _ f,λa q e=>by cases e⟩
  |ok k=>
   obtain⟨a,q⟩:=k;have b:=d.ok a q f;simp only;split
   ·rename_i m;have:=T.isT b.2 m;exact(bG.listLoop T h g (q+1) (acc++[a]) o_ this o_).low o_
   ·exact cC.of_ok _ b.1 b.2
def bG.listIn{ts:List aR}(T:bG ts){E:Nat->bH aC}(c:∀q,p0<q->q<ts.length->cC ts.length q (E q))(b:p0<p)(a:p<ts.length)(y:List UInt8):dX ts.length p (gH E ts p y):=by
 unfold gH;split
 ·exact dX.of_ok _ (F6 _) a
 ·exact(T.listLoop c (ts.length+1) p [] b a o_).weak
def bG.listP{ts:List aR}(T:bG ts){E:Nat->bH aC}(b:∀q,p0<q->q<ts.length->cC ts.length q (E q))(d:p0<=p)(a:p<ts.length)(x y:List UInt8):cC ts.length p (dZ E ts p x y):=by
 unfold dZ;split
 ·rename_i c;have:=T.isT a c;exact(T.takeW (T.listIn b (p:=p+1) o_ this y)).low o_
 ·exact T.bad a
def bG.primary{ts:List aR}(T:bG ts){E:Nat->bH aC}(c:∀q,p0<q->q<ts.length->cC ts.length q (E q))(f:p0<=p)(b:p<ts.length):cC ts.length p (dS E ts p):=by
 unfold dS;split
 ·rename_i a;refine cC.of_ok _ o_ (T.next p b λe=>?_)
  rw[e] at a;simp at a
 split
 ·rename_i a;refine cC.of_ok _ o_ ?_
  rcases Bool.or_eq_true_iff.1 a with a|a
  ·exact T.isT b a
  ·exact T.isT b a
 split
 ·rename_i a;have:=T.isT b a;exact T.take ((c (p+1) o_ this).low o_)
 split
 ·exact(T.listP c f b _ _).map _
 split
 ·rename_i a;have d:p+1<ts.length:=T.next p b λe=>by rw[e] at a;simp at a
  split
  ·exact((T.listP c (p:=p+1) o_ d _ _).low o_).map _
  ·exact cC.of_ok _ o_ d
 ·exact T.bad b
def bG.index{ts:List aR}(T:bG ts){E:Nat->bH aC}(f:∀q,p0<q->q<ts.length->cC ts.length q (E q)):∀(g:Nat) (n:aC) (p:Nat),p0<=p->p<ts.length->ts.length<=p+g->dX ts.length p (cS E ts g n p)
 |0,n,p,_,b,h=>by omega
 |g+1,n,p,r,b,h=>by
  rw[cS];split
  ·rename_i m;have k:=T.isT b m;have c:=T.take (x:=[93]) (f (p+1) o_ k)
   cases d:aM ts [93] (E (p+1)) with
   |error l=>exact⟨λs e=>by cases e;exact c.er _ d,λa q e=>by cases e⟩
   |ok o=>
    obtain⟨i,q⟩:=o;have j:=c.ok i q d;exact((bG.index T f g _ q o_ j.2 o_).low (by omega:p<q)).weak
  ·exact dX.of_ok _ (F6 _) b
def bG.bind{ts:List aR}(_T:bG ts){d:Type}{r:bH c}{f:c->Nat->bH d}(h:cC ts.length p r)(g:∀a q,p<q->q<ts.length->dX ts.length q (f a q)):cC ts.length p (bE r f):=by
 cases r with
 |error l=>exact⟨λj e=>by cases e;exact h.er _ rfl,λa q e=>by cases e⟩
 |ok i=>
  obtain⟨a,q⟩:=i;have b:=h.ok a q rfl;exact(g a q b.1 b.2).low b.1
def bG.unary{ts:List aR}(T:bG ts){E:Nat->bH aC}(c:∀q,p0<q->q<ts.length->cC ts.length q (E q)):∀(g p:Nat),p0<=p->p<ts.length->ts.length<=p+g->cC ts.length p (eA E ts g p)
 |0,p,_,b,i=>by omega
 |g+1,p,j,b,i=>by
  rw[eA];split
  ·rename_i e;have d:=T.isT b e;exact((bG.unary T c g (p+1) o_ d o_).low o_).map _
  split
  ·rename_i e;have d:=T.isT b e;exact((bG.unary T c g (p+1) o_ d o_).low o_).map _
  ·exact T.bind (T.primary c j b) λa q h f=>T.index c _ a q o_ f o_
def bG.levelLoop{ts:List aR}(T:bG ts){L:Nat->bH aC}(h:∀q,p0<=q->q<ts.length->cC ts.length q (L q)):∀(g:Nat) (n:aC) (q:Nat),p0<=q->q<ts.length->ts.length<=q+g->dX ts.length q (aY L ts k g n q)
 |0,n,q,_,b,o=>by omega
 |g+1,n,q,s,b,o=>by
  rw[aY];split
  ·rename_i i;have p:q+1<ts.length:=T.next q b λe=>by rw[e] at i;simp at i
   have f:=h (q+1) o_ p
   cases j:L (q+1) with
   |error l=>exact⟨λt e=>by cases e;exact f.er _ j,λa q e=>by cases e⟩
   |ok m=>
    obtain⟨r,c⟩:=m;have d:=f.ok r c j;simp only;split
    ·exact dX.of_ok _ o_ d.2
    ·exact((bG.levelLoop T h g _ c o_ d.2 o_).low (by omega:q<c)).weak
  ·exact dX.of_ok _ (F6 _) b
def bG.level{ts:List aR}(T:bG ts){E:Nat->bH aC}(d:∀q,p0<q->q<ts.length->cC ts.length q (E q)):∀(j p:Nat),p0<=p->p<ts.length->cC ts.length p (fC E ts j p)
 |0,p,c,b=>T.unary d _ p c b o_
 |j+1,p,c,b=>by
  rw[fC];exact T.bind (bG.level T d j p c b) λa q f e=>T.levelLoop (p0:=p0) (λq c b=>bG.level T d j q c b) _ a q o_ e o_
def bG.expr{ts:List aR}(T:bG ts):∀(f p:Nat),p<ts.length->ts.length<=p+f->cC ts.length p (dP ts f p)
 |0,p,b,d=>by omega
 |f+1,p,b,d=>by
  rw[dP];exact T.level (p0:=p) (λq c a=>bG.expr T f q a o_) 5 p (F6 _) b
def bG.exprs{ts:List aR}(T:bG ts):∀q,q<ts.length->cC ts.length q (dP ts (ts.length+1) q):=λq a=>T.expr _ q a o_
def bG.setLoop{ts:List aR}(T:bG ts){E:Nat->bH aC}(f:∀q,q<ts.length->cC ts.length q (E q)):∀(g p:Nat) (acc:List aC),p<ts.length->ts.length<=p+g->dX ts.length p (eJ E ts g p acc)
 |0,p,acc,b,h=>by omega
 |g+1,p,acc,b,h=>by
  rw[eJ];split
  ·rename_i m;have k:=T.isT b m;have c:=T.take (x:=[93]) (f (p+1) k);cases d:aM ts [93] (E (p+1)) with
   |error l=>exact⟨λo e=>by cases e;exact c.er _ d,λa q e=>by cases e⟩
   |ok n=>
    obtain⟨i,q⟩:=n;have j:=c.ok i q d;exact((bG.setLoop T f g q _ j.2 o_).low (by omega:p<q)).weak
  ·exact dX.of_ok _ (F6 _) b
def bG.simple{ts:List aR}(T:bG ts){E:Nat->bH aC}(b:∀q,q<ts.length->cC ts.length q (E q))(d:p<ts.length):cC ts.length p (eI E ts p):=by
 unfold eI;split
 ·rename_i f;have c:p+1<ts.length:=T.next p d λe=>by rw[e] at f;simp at f
  split
  ·exact T.take (((T.listP (p0:=p) (λq _ a=>b q a) (p:=p+1) o_ c _ _).low o_).map _)
  ·exact T.bind ((T.takeW (T.setLoop b _ (p+1) [] c o_)).low o_) λg q _ a=>(T.take ((b q a).map _)).weak
 ·exact T.bad d
def bG.stmt{ts:List aR}(T:bG ts){E B:Nat->bH aC}(j:∀q,q<ts.length->cC ts.length q (E q))(o:∀q,p<q->q<ts.length->cC ts.length q (B q))(i:p<ts.length):cC ts.length p (iO E B ts p):=by
 unfold iO;split
 ·rename_i d;have a:=T.isT i d;unfold pY;split
  ·rename_i f;have l:p+2<ts.length:=T.next (p+1) a λe=>by rw[e] at f;simp at f
   split
   ·rename_i m;have s:p+3<ts.length:=T.isT l m;exact T.take (((j (p+3) s).low o_).map _)
   ·exact T.bad l
  ·exact T.bad a
 split
 ·rename_i d;have a:=T.isT i d;unfold rS;refine T.bind ((j (p+1) a).low o_) λc q g h=>(T.bind (o q g h) λb u t k=>?_).weak
  split
  ·rename_i r;have:=T.isT k r;exact(((o (u+1) o_ this).low o_).map _).weak
  ·exact dX.of_ok _ (F6 _) k
 split
 ·rename_i d;have a:=T.isT i d;unfold jB;exact T.bind ((j (p+1) a).low o_) λc q g h=>((o q g h).map _).weak
 split
 ·rename_i d;have a:=T.isT i d;unfold fX;split
  ·rename_i n;exact cC.of_ok _ o_ (T.isT a n)
  ·exact T.take (((j (p+1) a).low o_).map _)
 split
 ·rename_i d;have a:=T.isT i d;unfold gQ;exact T.take (((j (p+1) a).low o_).map _)
 ·exact T.simple j i
def bG.blockLoop{ts:List aR}(_T:bG ts){S:Nat->bH aC}(d:∀q,p0<q->q<ts.length->cC ts.length q (S q)):∀(g p:Nat) (acc:List aC),p0<p->p<ts.length->ts.length<=p+g->dX ts.length p (dC S ts g p acc)
 |0,p,acc,_,b,h=>by omega
 |g+1,p,acc,i,b,h=>by
  rw[dC];split
  ·exact dX.of_ok _ (F6 _) b
  ·have c:=d p i b;cases f:S p with
   |error l=>exact⟨λm e=>by cases e;exact c.er _ f,λa q e=>by cases e⟩
   |ok k=>
    obtain⟨s,q⟩:=k;have j:=c.ok s q f;exact((bG.blockLoop _T d g q _ o_ j.2 o_).low (by omega:p<q)).weak
def bG.block{ts:List aR}(T:bG ts){E:Nat->bH aC}(d:∀q,q<ts.length->cC ts.length q (E q)):∀(f p:Nat),p<ts.length->ts.length<=p+f->cC ts.length p (iL E ts f p)
 |0,p,a,h=>by omega
 |f+1,p,a,h=>by
  rw[iL];split
  ·rename_i j;have e:=T.isT a j;refine((T.takeW (T.blockLoop (p0:=p) (λq g c=>T.stmt d (λi k b=>bG.block T d f i b o_) c) _ (p+1) [] o_ e o_)).low o_).map _
  ·exact T.bad a
def bG.paramLoop{ts:List aR}(T:bG ts):∀(g p:Nat) (acc:List aC),p<ts.length->ts.length<=p+g->cC ts.length p (cP ts g p acc)
 |0,p,acc,b,h=>by omega
 |g+1,p,acc,b,h=>by
  rw[cP];split
  ·rename_i f;have d:p+1<ts.length:=T.next p b λe=>by rw[e] at f;simp at f
   split
   ·rename_i a;have c:p+2<ts.length:=T.isT d a;exact(bG.paramLoop T g (p+2) _ c o_).low o_
   ·exact cC.of_ok _ o_ d
  ·exact T.bad b
def bG.func{ts:List aR}(T:bG ts){B:Nat->bH aC}(j:∀q,q<ts.length->cC ts.length q (B q))(h:p<ts.length):cC ts.length p (jT B ts p):=by
 unfold jT;split
 ·rename_i k;have g:=T.isT h k;split
  ·rename_i a;have d:p+2<ts.length:=T.next (p+1) g λe=>by rw[e] at a;simp at a
   split
   ·rename_i f;have c:p+3<ts.length:=T.isT d f
    have b:cC ts.length (p+3) (gL ts (p+3)):=by
     unfold gL;refine T.takeW ?_;split
     ·exact dX.of_ok _ (F6 _) c
     ·exact(T.paramLoop _ (p+3) [] c o_).weak
    exact T.bind (b.low o_) λl q _ i=>((j q i).map _).weak
   ·exact T.bad d
  ·exact T.bad g
 ·exact T.bad h
def bG.progLoop{ts:List aR}(_T:bG ts){F:Nat->bH aC}(c:∀q,q<ts.length->cC ts.length q (F q)):∀(g p:Nat) (acc:List aC),p<ts.length->ts.length<=p+g->dX ts.length p (eL F ts g p acc)
 |0,p,acc,b,h=>by omega
 |g+1,p,acc,b,h=>by
  rw[eL];split
  ·exact dX.of_ok _ (F6 _) b
  ·have d:=c p b;cases f:F p with
   |error l=>exact⟨λk e=>by cases e;exact d.er _ f,λa q e=>by cases e⟩
   |ok j=>
    obtain⟨s,q⟩:=j;have i:=d.ok s q f;exact((bG.progLoop _T c g q _ i.2 o_).low (by omega:p<q)).weak
def bG.prog{ts:List aR}(T:bG ts)(h:0<ts.length):jS ts≠.error 0:=
 (T.progLoop (λq a=>T.func (λc b=>T.block (λq a=>T.exprs q a) _ c b o_) a) _ 0 [] h o_).ne
structure mY(ts:List aR):Prop where
 some_:0<ts.length
 last:(aN ts (ts.length-1)).sort=101
 l_:∀p,p<ts.length->(aN ts p).l_≠0
def nT(t:aR)(ts:List aR)(p:Nat):aN (t::ts) (p+1)=aN ts p:=by simp[aN]
def EN(f:Nat):∀(pre l:List UInt8) (ts:List aR),cN f pre l=.ok ts->mY ts/\ts.length<=f:=by
 induction f with
 |zero=>intro pre l ts h;cases h
 |succ f i=>
  intro pre l ts h;by_cases c:l.length=0
  ·rw[jY _ _ _ c] at h;cases h;refine⟨⟨s_,rfl,λp b=>?_⟩,s_⟩
   obtain rfl:p=0:=by simp at b;omega
   show aS pre≠0
   unfold aS;omega
  ·cases g:(bN l).ok
   ·rw[nC _ _ _ c g] at h;cases h
   ·rw[hJ _ _ _ c g _ rfl] at h;cases e:cN f (pre++l.take ((bN l).size+blankL l.length (l.drop (bN l).size))) (l.drop ((bN l).size+blankL l.length (l.drop (bN l).size))) with
    |error n=>rw[e] at h;cases h
    |ok a=>
     rw[e] at h;cases h;obtain⟨d,j⟩:=i _ _ a e;refine⟨⟨s_,?_,λp b=>?_⟩,t_⟩
     ·have:=d.some_;show (aN (_::a) ((_::a).length-1)).sort=101
      rw[G1,show a.length+1-1=(a.length-1)+1 by omega,nT]
      exact d.last
     ·cases p with
      |zero=>show aS pre≠0;unfold aS;omega
      |succ p=>
       show (aN (_::a) (p+1)).l_≠0
       rw[nT];exact d.l_ p (by simpa using b)
def mY.ok{ts:List aR}(h:mY ts):bG ts:=
 ⟨λp b a=>by
   by_cases e:p=ts.length-1
   ·subst e;exact absurd h.last a
   ·omega,h.l_⟩
def lX{ts:List aR}(h:eU l=.ok ts):mY ts/\ts.length<=l.length+1:=EN _ _ _ _ h
def dK(l:List UInt8):Except (Nat × Nat) (List aC):=
 if 2000<l.length then .error (1,0)
 else match dA l.length l 0 with
  |some k=>.error (2,aS (l.take k))
  |none=>
   match eU l with
   |.error n=>.error (3,n)
   |.ok ts=>
    match jS ts with
    |.error n=>.error (4,n)
    |.ok (ks,_)=>.ok ks
structure aW where
 e_:List (List UInt8)
 kind:Nat
 l_:Nat
def aW.found(s:aW)(l_ kind:Nat):aW:=if s.kind=0 then { s with kind:=kind,l_:=l_ } else s
def fE(x:List UInt8):Bool:=x==[108,101,110] || x==[114,101,97,100]
def declaresL(s:aW)(n:aC):aW:=if fE n.x_ || s.e_.contains n.x_ then s.found n.l_ 6 else s
def dL(fs:List aC)(name:List UInt8):Option aC:=fs.find? λf=>f.x_==name
def kN(fs:List aC)(a_:Bool)(name:List UInt8):Int:=
 if name==[108,101,110] then 1
 else if name==[114,101,97,100] && !a_ then 0
 else match dL fs name with
  |some f=>(f.y_.length:Int)-1
  |none=> -1
def eC(fs:List aC)(a_:Bool)(s:aW)(n:aC):aW:=
 if kN fs a_ n.x_<0 then s.found n.l_ 6
 else if kN fs a_ n.x_≠(n.y_.length:Int) then s.found n.l_ 7
 else s
def eH(fs:List aC)(a_:Bool)(s:aW)(n:aC):aW:=
 if n.op==[115,101,116] || n.op==[110,97,109,101] then (if s.e_.contains n.x_ then s else s.found n.l_ 6)
 else if n.op==[99,97,108,108] then eC fs a_ s n
 else s
def aV(fs:List aC)(a_:Bool):Nat->aC->aW->aW
 |0,_,s=>s
 |d+1,n,s=>
  if n.op==[118,97,114] then
   match n.y_ with
   |t::v::_=>let s1:=aV fs a_ d v (declaresL s t);{ s1 with e_:=s1.e_++[t.x_] }
   |_=>s
  else
   let s1:=n.y_.foldl (λs k=>aV fs a_ d k s) (eH fs a_ s n)
   if n.op==[98,108,111,99,107] then { s1 with e_:=s1.e_.take s.e_.length } else s1
def cG:Nat->aC->Nat
 |0,_=>0
 |d+1,n=>1+(n.y_.map (cG d)).sum
def UL:Nat->aC->Prop
 |0,_=>True
 |d+1,n=>(n.op=[118,97,114]->2<=n.y_.length)/\∀k∈n.y_,UL d k
def FineA(m:Nat)(a:aC):Prop:=∀d,cG d a<=m/\UL d a
def FineL(m:Nat)(l:List aC):Prop:=∀d,(l.map (cG d)).sum<=m/\∀k∈l,UL d k
def FineA.le{a:aC}(h:FineA m a)(b:m<=n):FineA n a:=λd=>⟨G6 (h d).1 b,(h d).2⟩
def FineL.le{a:List aC}(h:FineL m a)(b:m<=n):FineL n a:=λd=>⟨G6 (h d).1 b,(h d).2⟩
def FineL.nil:FineL 0 []:=λ_=>⟨F6 _,λ_ h=>by cases h⟩
def FineL.snoc{l:List aC}{a:aC}(h:FineL m l)(c:FineA n a):FineL (m+n) (l++[a]):=λd=>by
 refine⟨?_,λk b=>?_⟩
 ·rw[K4,N5];have f:=(h d).1;have e:=(c d).1;simp;omega
 ·rcases G8.1 b with b|b
  ·exact(h d).2 k b
  ·rw[G5.1 b];exact(c d).2
def FineL.one{a:aC}(b:FineA n a):FineL n [a]:=λd=>by
 refine⟨?_,λk c=>?_⟩
 ·have e:=(b d).1;simp;omega
 ·rw[G5.1 c];exact(b d).2
def FineL.two{a b:aC}(c:FineA m a)(d:FineA n b):FineL (m+n) [a,b]:=(FineL.one c).snoc d
def FineL.three{a b c:aC}(d:FineA m a)(e:FineA n b)(f:FineA k c):FineL (m+n+k) [a,b,c]:=(FineL.two d e).snoc f
def FineA.node{l:List aC}{op a:List UInt8}{b:Nat}(h:FineL m l)(c:op=[118,97,114]->2<=l.length):FineA (m+1) (aK op b a l):=λd=>by
 cases d with
 |zero=>exact⟨K5 _,trivial⟩
 |succ d=>
  refine⟨?_,c,(h d).2⟩;have:=(h d).1;show 1+(l.map (cG d)).sum<=m+1
  omega
def aZ(P:Nat->α->Prop)(p:Nat)(r:bH α):Prop:=∀a q,r=.ok (a,q)->∃m,p+m<=q/\P m a
def aZ.bad{P:Nat->c->Prop}{b:Nat}{ts:List aR}:aZ P p (bad ts b):=λa q h=>by cases h
def aZ.err{P:Nat->b->Prop}:aZ P p (.error n):=λa q h=>by cases h
def aZ.of_ok{P:Nat->b->Prop}{a:b}(c:p+m<=q)(h:P m a):aZ P p (.ok (a,q)):=λd f e=>by cases e;exact⟨m,c,h⟩
def aZ.take{P:Nat->b->Prop}{ts:List aR}{r:bH b}(h:aZ P p r):aZ P p (aM ts x r):=by
 cases r with
 |error l=>exact aZ.err
 |ok c=>
  obtain⟨a,q⟩:=c;obtain⟨m,e,d⟩:=h a q rfl;unfold aM;simp only;split
  ·exact aZ.of_ok o_ d
  ·exact aZ.bad
def aZ.map{P:Nat->b->Prop}{Q:Nat->c->Prop}{r:bH b}{f:b->c}(h:aZ P p r)(n:d+k<=p)(i:∀m a,P m a->Q (m+k) (f a)):aZ Q d (bL f r):=by
 cases r with
 |error l=>exact aZ.err
 |ok g=>
  obtain⟨a,q⟩:=g;obtain⟨m,j,e⟩:=h a q rfl;exact aZ.of_ok (m:=m+k) o_ (i m a e)
def aZ.bind{P:Nat->b->Prop}{Q:Nat->c->Prop}{r:bH b}{f:b->Nat->bH c}(h:aZ P p r)(e:∀m a q,P m a->p+m<=q->aZ Q d (f a q)):aZ Q d (bE r f):=by
 cases r with
 |error l=>exact aZ.err
 |ok g=>
  obtain⟨a,q⟩:=g;obtain⟨m,j,i⟩:=h a q rfl;exact e m a q i j
def aZ.low{P:Nat->c->Prop}{b:Nat}{r:bH c}(h:aZ P p r)(f:b<=p):aZ P b r:=λa q e=>by
 obtain⟨m,g,d⟩:=h a q e;exact⟨m,o_,d⟩
section
variable {ts:List aR} {E:Nat->bH aC}
def pB(d:∀q,aZ FineA q (E q)):∀(g p:Nat) (acc:List aC) (b p0:Nat),FineL b acc->p0+b<=p->aZ FineL p0 (cY E ts g p acc)
 |0,p,acc,_,_,_,_=>aZ.err
 |g+1,p,acc,b,p0,e,i=>by
  rw[cY];cases h:E p with
  |error l=>exact aZ.err
  |ok f=>
   obtain⟨a,q⟩:=f;obtain⟨m,j,c⟩:=d p a q h;simp only;split
   ·exact pB d g (q+1) _ (b+m) p0 (e.snoc c) o_
   ·exact aZ.of_ok (m:=b+m) o_ (e.snoc c)
def pA(a:∀q,aZ FineA q (E q))(p:Nat)(x y:List UInt8):aZ FineL (p+1) (dZ E ts p x y):=by
 unfold dZ;split
 ·refine aZ.take ?_;unfold gH;split
  ·exact aZ.of_ok (m:=0) o_ FineL.nil
  ·exact pB a _ _ _ 0 _ FineL.nil o_
 ·exact aZ.bad
def jD{op a:List UInt8}{b:Nat}(c:op≠[118,97,114]):FineA 1 (aK op b a []):=FineA.node (m:=0) FineL.nil λh=>absurd h c
def BC(b:∀q,aZ FineA q (E q))(p:Nat):aZ FineA p (dS E ts p):=by
 unfold dS;split
 ·exact aZ.of_ok (m:=1) o_ (jD s_)
 split
 ·exact aZ.of_ok (m:=1) o_ (jD s_)
 split
 ·exact((b (p+1)).take).low o_
 split
 ·exact aZ.map (k:=1) (pA b p _ _) o_ λm a h=>FineA.node h s_
 split
 ·split
  ·exact aZ.map (k:=1) (pA b (p+1) _ _) o_ λm a h=>FineA.node h s_
  ·exact aZ.of_ok (m:=1) o_ (jD s_)
 ·exact aZ.bad
def vG(c:∀q,aZ FineA q (E q)):∀(g:Nat) (n:aC) (p a p0:Nat),FineA a n->p0+a<=p->aZ FineA p0 (cS E ts g n p)
 |0,n,p,_,_,_,_=>aZ.err
 |g+1,n,p,a,p0,b,e=>by
  rw[cS];split
  ·have d:=(c (p+1)).take (ts:=ts) (x:=[93]);cases h:aM ts [93] (E (p+1)) with
   |error l=>exact aZ.err
   |ok j=>
    obtain⟨i,q⟩:=j;obtain⟨m,k,f⟩:=d i q h;exact vG c g _ q (a+m+1) p0 (FineA.node (FineL.two b f) s_) o_
  ·exact aZ.of_ok e b
def oY(b:∀q,aZ FineA q (E q)):∀(g p:Nat),aZ FineA p (eA E ts g p)
 |0,p=>aZ.err
 |g+1,p=>by
  rw[eA];split
  ·exact aZ.map (k:=1) (oY b g (p+1)) o_ λm a h=>FineA.node (FineL.one h) s_
  split
  ·exact aZ.map (k:=1) (oY b g (p+1)) o_ λm a h=>FineA.node (FineL.one h) s_
  ·exact aZ.bind (BC b p) λm a q d c=>vG b _ a q m p d c
def oG{L:Nat->bH aC}{k:Nat}(d:∀q,aZ FineA q (L q)):∀(g:Nat) (n:aC) (q b p0:Nat),FineA b n->p0+b<=q->aZ FineA p0 (aY L ts k g n q)
 |0,n,q,_,_,_,_=>aZ.err
 |g+1,n,q,b,p0,c,o=>by
  rw[aY];split
  ·cases p:L (q+1) with
   |error l=>exact aZ.err
   |ok i=>
    obtain⟨r,h⟩:=i;obtain⟨m,s,j⟩:=d _ r h p;have e:∀f a,FineA (b+m+1) (aK f a [] [n,r]):=λf a=>FineA.node (FineL.two c j) s_
    simp only;split
    ·exact aZ.of_ok (m:=b+m+1) o_ (e _ _)
    ·exact oG d g _ h (b+m+1) p0 (e _ _) o_
  ·exact aZ.of_ok o c
def pC(b:∀q,aZ FineA q (E q)):∀(j p:Nat),aZ FineA p (fC E ts j p)
 |0,p=>oY b _ p
 |j+1,p=>by
  rw[fC];exact aZ.bind (pC b j p) λm a q d c=>oG (λq=>pC b j q) _ a q m p d c
def yJ(ts:List aR):∀(f p:Nat),aZ FineA p (dP ts f p)
 |0,p=>aZ.err
 |f+1,p=>by
  rw[dP];exact pC (λq=>yJ ts f q) 5 p
def qU(c:∀q,aZ FineA q (E q)):∀(g p:Nat) (acc:List aC) (a p0:Nat),FineL a acc->p0+a<=p->aZ FineL p0 (eJ E ts g p acc)
 |0,p,acc,_,_,_,_=>aZ.err
 |g+1,p,acc,a,p0,b,e=>by
  rw[eJ];split
  ·have d:=(c (p+1)).take (ts:=ts) (x:=[93]);cases h:aM ts [93] (E (p+1)) with
   |error l=>exact aZ.err
   |ok j=>
    obtain⟨i,q⟩:=j;obtain⟨m,k,f⟩:=d i q h;exact qU c g q _ (a+m) p0 (b.snoc f) o_
  ·exact aZ.of_ok e b
def EV(b:∀q,aZ FineA q (E q))(p:Nat):aZ FineA p (eI E ts p):=by
 unfold eI;split
 ·split
  ·exact aZ.take (aZ.map (k:=2) (pA b (p+1) _ _) o_ λm a h=>FineA.node (FineL.one (FineA.node h s_)) s_)
  ·refine aZ.bind ((qU b _ (p+1) [] 0 (p+1) FineL.nil o_).take) λm l q d f=>?_
   exact aZ.take (aZ.map (k:=m+1) (b q) o_ λe v c=>FineA.le (FineA.node (d.snoc c) s_) o_)
 ·exact aZ.bad
def LR{B:Nat->bH aC}(a:∀q,aZ FineA q (E q))(h:∀q,aZ FineA q (B q))(p:Nat):aZ FineA p (iO E B ts p):=by
 unfold iO;split
 ·unfold pY;split
  ·split
   ·exact aZ.take (aZ.map (k:=2) (a (p+3)) o_ λm v e=>FineA.le (FineA.node (FineL.two (jD s_) e) s_) o_)
   ·exact aZ.bad
  ·exact aZ.bad
 split
 ·unfold rS;refine aZ.bind (a (p+1)) λm c q f l=>aZ.bind (h q) λg b o i s=>?_
  split
  ·exact aZ.map (k:=m+g+1) (h (o+1)) o_ λr d j=>FineA.le (FineA.node (FineL.three f i j) s_) o_
  ·exact aZ.of_ok (m:=m+g+1) o_ (FineA.node (FineL.two f i) s_)
 split
 ·unfold jB;exact aZ.bind (a (p+1)) λm c q f l=>aZ.map (k:=m+1) (h q) o_ λg b n=>FineA.le (FineA.node (FineL.two f n) s_) o_
 split
 ·unfold fX;split
  ·exact aZ.of_ok (m:=1) o_ (jD s_)
  ·exact aZ.take (aZ.map (k:=1) (a (p+1)) o_ λm v e=>FineA.node (FineL.one e) s_)
 split
 ·unfold gQ;exact aZ.take (aZ.map (k:=1) (a (p+1)) o_ λm v e=>FineA.node (FineL.one e) s_)
 ·exact EV a p
def oH{S:Nat->bH aC}(c:∀q,aZ FineA q (S q)):∀(g p:Nat) (acc:List aC) (a p0:Nat),FineL a acc->p0+a<=p->aZ FineL p0 (dC S ts g p acc)
 |0,p,acc,_,_,_,_=>aZ.err
 |g+1,p,acc,a,p0,b,d=>by
  rw[dC];split
  ·exact aZ.of_ok d b
  ·cases f:S p with
   |error l=>exact aZ.err
   |ok h=>
    obtain⟨s,q⟩:=h;obtain⟨m,i,e⟩:=c p s q f;exact oH c g q _ (a+m) p0 (b.snoc e) o_
def vH(a:∀q,aZ FineA q (E q)):∀(f p:Nat),aZ FineA p (iL E ts f p)
 |0,p=>aZ.err
 |f+1,p=>by
  rw[iL];split
  ·exact aZ.map (k:=1) (aZ.take (oH (λq=>LR a (λq=>vH a f q) q) _ (p+1) [] 0 (p+1) FineL.nil o_)) o_ λm l h=>FineA.node h s_
  ·exact aZ.bad
def oF:∀(g p:Nat) (acc:List aC) (a p0:Nat),FineL a acc->p0+a<=p->aZ FineL p0 (cP ts g p acc)
 |0,p,acc,_,_,_,_=>aZ.err
 |g+1,p,acc,a,p0,c,d=>by
  have b:FineL (a+1) (acc++[aK [112,97,114,97,109] (aN ts p).l_ (aN ts p).x_ []]):=c.snoc (jD s_)
  rw[cP];split
  ·split
   ·exact oF g (p+2) _ (a+1) p0 b o_
   ·exact aZ.of_ok (m:=a+1) o_ b
  ·exact aZ.bad
def LU{B:Nat->bH aC}(c:∀q,aZ FineA q (B q))(p:Nat):aZ FineA p (jT B ts p):=by
 unfold jT;split
 ·split
  ·split
   ·have a:aZ FineL (p+3) (gL ts (p+3)):=by
     unfold gL;refine aZ.take ?_;split
     ·exact aZ.of_ok (m:=0) o_ FineL.nil
     ·exact oF _ (p+3) [] 0 (p+3) FineL.nil o_
    exact aZ.bind a λm l q d g=>aZ.map (k:=m+1) (c q) o_ λf b e=>FineA.le (FineA.node (d.snoc e) s_) o_
   ·exact aZ.bad
  ·exact aZ.bad
 ·exact aZ.bad
def oZ{F:Nat->bH aC}(c:∀q,aZ FineA q (F q)):∀(g p:Nat) (acc:List aC) (a p0:Nat),FineL a acc->p0+a<=p->aZ FineL p0 (eL F ts g p acc)
 |0,p,acc,_,_,_,_=>aZ.err
 |g+1,p,acc,a,p0,b,d=>by
  rw[eL];split
  ·exact aZ.of_ok d b
  ·cases h:F p with
   |error l=>exact aZ.err
   |ok e=>
    obtain⟨s,q⟩:=e;obtain⟨m,i,f⟩:=c p s q h;exact oZ c g q _ (a+m) p0 (b.snoc f) o_
end
def LS(ts:List aR)(T:bG ts)(e:0<ts.length)(ks:List aC)(q:Nat)(h:jS ts=.ok (ks,q)):FineL ts.length ks:=by
 obtain⟨m,f,d⟩:=oZ (λq=>LU (λb=>vH (λq=>yJ ts _ q) _ b) q) (ts.length+1) 0 [] 0 0 FineL.nil o_ ks q h
 have:=(T.progLoop (λq a=>T.func (λb c=>T.block (λq a=>T.exprs q a) _ b c o_) a) _ 0 [] e o_).ok ks q h
 exact d.le o_
def EW{ks:List aC}(h:dK l=.ok ks):FineL 2001 ks:=by
 unfold dK at h;split at h
 ·cases h
 rename_i e;split at h
 ·cases h
 split at h
 ·cases h
 rename_i c d;obtain⟨a,f⟩:=lX d;split at h
 ·cases h
 rename_i q b;cases h;exact(LS c a.ok a.some_ _ _ b).le o_
def eM:Nat->aC->Prop
 |0,_=>False
 |d+1,n=>∀k∈n.y_,eM d k
def qY:∀(m:Nat) (a:aC),FineA m a->eM m a
 |0,a,h=>by
  have:=(h 1).1;simp only[cG] at this;omega
 |m+1,a,h=>λk b=>qY m k λd=>by
  have f:=(h (d+1)).1;have e:=(h (d+1)).2.2 k b;refine⟨?_,e⟩
  have:cG d k<=(a.y_.map (cG d)).sum:=by
   have:∀l:List aC,k∈l->cG d k<=(l.map (cG d)).sum:=by
    intro l;induction l with
    |nil=>intro h;cases h
    |cons x l c=>
     intro h;simp only[J1,J2];rcases G9.1 h with rfl|h
     ·omega
     ·have:=c h;omega
   exact this _ b
  simp only[cG] at f;omega
def gK(fs:List aC)(d:Nat)(s:aW)(k:aC):aW:=
 if k.op==[112,97,114,97,109] then { declaresL s k with e_:=(declaresL s k).e_++[k.x_] } else aV fs false d k s
def hU(fs:List aC)(d:Nat)(s:aW)(n:aC)(first:Bool):aW:=
 n.y_.foldl (gK fs d) { (if fE n.x_ || !first then s.found n.l_ 6 else s) with e_:=[] }
def eO(fs:List aC)(d:Nat):List aC->List aC->aW->aW
 |_,[],s=>s
 |pre,n::rest,s=>eO fs d (pre++[n]) rest (hU fs d s n (dL pre n.x_).isNone)
def kH(d:Nat)(ks:List aC):Nat × Nat:=
 match dL ks [109,97,105,110] with
 |none=>(5,0)
 |some m=>if 1<m.y_.length then (5,0) else ((eO ks d [] ks ⟨[],0,0⟩).kind,(eO ks d [] ks ⟨[],0,0⟩).l_)
def dE(l:List UInt8):Nat × Nat:=
 match dK l with
 |.error f=>f
 |.ok ks=>kH 2001 ks
def mT(t:aR):Prop:=t.sort=112\/(t.sort=107/\fD.contains t.x_=true)\/t.sort=110\/(t.sort=48/\(bW 0 t.x_).isSome=true)\/t.sort=115\/t.sort=101
def AL(ts:List aR):Prop:=∀t∈ts,mT t
def AQ(l:List UInt8)(l_:Nat)(h:(bN l).ok=true):mT { sort:=(bN l).sort,x_:=(bN l).x_,l_:=l_ }:=by
 cases l with
 |nil=>simp[bN] at h
 |cons c r=>
  rw[bN] at h ⊢
  split
  ·rename_i a;rw[if_pos a] at h;unfold fF at h ⊢
   split
   ·by_cases b:fD.contains ((c::r).take (bA (dD (dQ c)) (c::r)))=true
    ·rw[if_pos b];exact F5 (F7 ⟨rfl,b⟩)
    ·rw[if_neg b];exact F5 (F5 (F7 rfl))
   ·rename_i f;rw[if_neg f] at h;exact F5 (F5 (F5 (F7 ⟨rfl,h⟩)))
  ·rename_i a;rw[if_neg a] at h;split
   ·exact F5 (F5 (F5 (F5 (F7 rfl))))
   ·rename_i d;rw[if_neg d] at h;unfold fR at h ⊢
    cases e:bX.find? (λo=>cE (c::r) o) with
    |none=>rw[e] at h;simp at h
    |some o=>exact F7 rfl
def LJ(f:Nat):∀(pre l:List UInt8) (ts:List aR),cN f pre l=.ok ts->AL ts:=by
 induction f with
 |zero=>intro pre l ts h;cases h
 |succ f g=>
  intro pre l ts h;by_cases c:l.length=0
  ·rw[jY _ _ _ c] at h;cases h;intro t a;rw[G5.1 a];exact F5 (F5 (F5 (F5 (F5 rfl))))
  ·cases b:(bN l).ok
   ·rw[nC _ _ _ c b] at h;cases h
   ·rw[hJ _ _ _ c b _ rfl] at h;cases d:cN f (pre++l.take ((bN l).size+blankL l.length (l.drop (bN l).size))) (l.drop ((bN l).size+blankL l.length (l.drop (bN l).size))) with
    |error n=>rw[d] at h;cases h
    |ok e=>
     rw[d] at h;cases h;intro t a;rcases G9.1 a with rfl|a
     ·exact AQ l _ b
     ·exact g _ _ e d t a
def vE{ts:List aR}(h:eU l=.ok ts):AL ts:=LJ _ _ _ _ h
def AL.tk{ts:List aR}(h:AL ts)(p:Nat)(a:p<ts.length):mT (aN ts p):=by
 have:aN ts p=ts[p]:=by unfold aN;rw[H7 a];rfl
 rw[this];exact h _ (H9 a)
structure aH where
 sort:Nat
 n:Int
 s:List UInt8
 l:List aH
def aH.ind{P:aH->Prop}(h:∀v,(∀x,x∈v.l->P x)->P v):∀v,P v
 |⟨a,b,c,l⟩=>h ⟨a,b,c,l⟩ λx _=>aH.ind h x
def aL(n:Int):aH:=⟨0,n,[],[]⟩
def bK(b:Bool):aH:=⟨1,if b then 1 else 0,[],[]⟩
def bI(s:List UInt8):aH:=⟨2,0,s,[]⟩
def bC(l:List aH):aH:=⟨3,0,[],l⟩
def cJ:aH:=⟨0,0,[],[]⟩
noncomputable def aH.fold(f:Nat->Int->List UInt8->List α->α)(v:aH):α:=
 aH.rec (motive_1:=λ_=>α) (motive_2:=λ_=>List α) (λa n s _ c=>f a n s c) [] (λ_ _ h t=>h::t) v
def aH.fold_eq(f:Nat->Int->List UInt8->List b->b)(v:aH):v.fold f=f v.sort v.n v.s (v.l.map (aH.fold f)):=by
 obtain⟨a,n,s,l⟩:=v;refine congrArg (f a n s) ?_;induction l with
 |nil=>rfl
 |cons x l c=>exact congrArg (aH.fold f x::·) c
noncomputable def aT(v:aH):Nat:=v.fold λ_ _ s c=>1+s.length+c.sum
def fK(v:aH):aT v=1+v.s.length+(v.l.map aT).sum:=aH.fold_eq _ v
def QC:Nat->aH->Prop
 |0,_=>True
 |d+1,v=> -9223372036854775808<=v.n/\v.n<=9223372036854775807/\∀x∈v.l,QC d x
structure lY(v:aH):Prop where
 all:∀d,QC d v
def lY.lo{v:aH}(h:lY v): -9223372036854775808<=v.n:=(h.all 1).1
def lY.hi{v:aH}(h:lY v):v.n<=9223372036854775807:=(h.all 1).2.1
def lY.kid{v x:aH}(h:lY v)(a:x∈v.l):lY x:=⟨λd=>(h.all (d+1)).2.2 x a⟩
def lY.mk'{v:aH}(b: -9223372036854775808<=v.n)(a:v.n<=9223372036854775807)(c:∀x∈v.l,lY x):lY v:=
 ⟨λd=>by
   cases d with
   |zero=>trivial
   |succ d=>exact⟨b,a,λx e=>(c x e).all d⟩⟩
def lA:List (α->Bool)->List α->Bool
 |[],[]=>true
 |f::fs,x::xs=>f x && lA fs xs
 |_,_=>false
noncomputable def bZ(x:aH):aH->Bool:=x.fold λa n s c y=>a==y.sort && (n==y.n && (s==y.s && lA c y.l))
def MG(x y:aH):bZ x y=(x.sort==y.sort && (x.n==y.n && (x.s==y.s && lA (x.l.map bZ) y.l))):=congrFun (aH.fold_eq _ x) y
def vK:∀x y:aH,bZ x y=true↔x=y:=by
 refine aH.ind λx e y=>?_
 have d:∀(l:List aH),(∀v,v∈l->∀y,bZ v y=true↔v=y)->∀m:List aH,lA (l.map bZ) m=true↔l=m:=by
  intro l;induction l with
  |nil=>intro _ m;cases m<;>simp[lA]
  |cons a l c=>
   intro h m;cases m with
   |nil=>simp[lA]
   |cons b m=>simp[lA,h a s_ b,c (λv f=>h v (by simp[f])) m]
 rw[MG];simp only[I7,beq_iff_eq,d x.l e y.l];constructor
 ·rintro⟨j,g,k,i⟩;cases x;cases y;simp_all
 ·rintro rfl;simp
def digitsF:Nat->Nat->List UInt8->List UInt8
 |0,_,t=>t
 |f+1,n,t=>if n<10 then UInt8.ofNat (48+n)::t else digitsF f (n/10) (UInt8.ofNat (48+n%10)::t)
def cT(n:Int):List UInt8:=(if n<0 then [45] else [])++digitsF 20 n.natAbs []
def eB:List (List UInt8)->List UInt8
 |[]=>[]
 |[x]=>x
 |x::r=>x++[44,32]++eB r
noncomputable def bY(v:aH):List UInt8:=
 v.fold λa n s c=>if a=0 then cT n else if a=1 then (if n=1 then [116,114,117,101] else [102,97,108,115,101]) else if a=2 then [34]++s++[34] else [91]++eB c++[93]
def gF(v:aH):bY v=if v.sort=0 then cT v.n else if v.sort=1 then (if v.n=1 then [116,114,117,101] else [102,97,108,115,101]) else if v.sort=2 then [34]++v.s++[34] else [91]++eB (v.l.map bY)++[93]:=aH.fold_eq _ v
noncomputable def UW(v:aH):List UInt8:=if v.sort=2 then v.s else bY v
def eW(n:Int):Int:=(n+9223372036854775808)%18446744073709551616-9223372036854775808
noncomputable def gM(a b:aH):aH × Nat:=
 let v:=if a.sort=3 then bC (a.l++b.l) else bI (a.s++b.s)
 if 200<aT v then (cJ,6) else (v,0)
def gN(op:List UInt8)(x y:Int):aH × Nat:=
 if op=[43] then (aL (eW (x+y)),0)
 else if op=[45] then (aL (eW (x-y)),0)
 else if op=[42] then (aL (eW (x*y)),0)
 else if op=[60] then (bK (decide (x<y)),0)
 else if op=[60,61] then (bK (decide (x<=y)),0)
 else if y=0 then (cJ,3)
 else if op=[47] then (aL (eW (x.tdiv y)),0)
 else (aL (eW (x.tmod y)),0)
def eX:List UInt8->List UInt8->Bool
 |[],[]=>false
 |[],_::_=>true
 |_::_,[]=>false
 |a::l,b::m=>if a.toNat<b.toNat then true else if b.toNat<a.toNat then false else eX l m
noncomputable def cD(op:List UInt8)(a b:aH):aH × Nat:=
 if op=[61,61] then (bK (bZ a b),0)
 else if op=[33,61] then (bK (!bZ a b),0)
 else if a.sort≠b.sort\/a.sort=1 then (cJ,2)
 else if a.sort=0 then gN op a.n b.n
 else if op=[43] then gM a b
 else if a.sort=2/\op=[60] then (bK (eX a.s b.s),0)
 else if a.sort=2/\op=[60,61] then (bK (!eX b.s a.s),0)
 else (cJ,2)
def eE(op:List UInt8)(a:aH):aH × Nat:=
 if op=[45,120]/\a.sort=0 then (aL (eW (-a.n)),0)
 else if op=[33,120]/\a.sort=1 then (bK (decide (a.n=0)),0)
 else (cJ,2)
def fS:Nat->List UInt8->List (List UInt8)
 |0,_=>[]
 |f+1,l=>if l=[] then [] else if bD l=0 then [] else l.take (bD l)::fS f (l.drop (bD l))
def iI(l:List UInt8):List (List UInt8):=fS l.length l
def kW(a:aH):aH × Nat:=
 if a.sort=3 then (aL a.l.length,0) else if a.sort=2 then (aL (iI a.s).length,0) else (cJ,2)
def uD(a:aH):List aH:=if a.sort=2 then (iI a.s).map bI else a.l
def mU(a b:aH):aH × Nat:=
 if a.sort<2\/b.sort≠0 then (cJ,2)
 else if b.n<0\/((uD a).length:Int)<=b.n then (cJ,4)
 else ((uD a).getD b.n.toNat cJ,0)
def fJ:List aH->aH->aH->aH × Nat
 |[],_,v=>(v,0)
 |i::at',old,v=>
  if old.sort≠3\/i.sort≠0 then (cJ,2)
  else if i.n<0\/(old.l.length:Int)<=i.n then (cJ,4)
  else if (fJ at' (old.l.getD i.n.toNat cJ) v).2≠0 then (cJ,(fJ at' (old.l.getD i.n.toNat cJ) v).2)
  else (bC (old.l.set i.n.toNat (fJ at' (old.l.getD i.n.toNat cJ) v).1),0)
def oI:bD l<=l.length:=by
 unfold bD;cases l with
 |nil=>simp
 |cons b r=>
  simp only[P2]
  have q:∀i c d,cQ (b::r) i c d=true->i<(b::r).length:=by
   intro i c d h;unfold cQ at h;rcases J8 i (b::r).length with a|a
   ·exact a
   ·rw[J0 a] at h;simp at h
  split
  ·simp
  split
  ·split
   ·have:=q 1 _ _ (by assumption);omega
   ·simp
  split
  ·generalize (if b.toNat=224 then 160 else 128)=f
   generalize (if b.toNat=237 then 159 else 191)=e
   split
   ·rename_i h;rw[I7] at h;have:=q 2 _ _ h.2;omega
   ·simp
  split
  ·generalize (if b.toNat=240 then 144 else 128)=f
   generalize (if b.toNat=244 then 143 else 191)=e
   split
   ·rename_i h;rw[I7] at h;have:=q 3 _ _ h.2;omega
   ·simp
  ·simp
def pT:∀(f:Nat) (l:List UInt8),l.length<=f->fS f l=iI l:=by
 have h:∀(n f g:Nat) (l:List UInt8),l.length<=n->l.length<=f->l.length<=g->fS f l=fS g l:=by
  intro n;induction n with
  |zero=>
   intro f g l e c i;have:l=[]:=N4.1 o_
   subst this;cases f<;>cases g<;>simp[fS]
  |succ n d=>
   intro f g l e c i;by_cases a:l=[]
   ·subst a;cases f<;>cases g<;>simp[fS]
   ·have j:0<l.length:=M7.2 a;cases f with
    |zero=>omega
    |succ f=>
     cases g with
     |zero=>omega
     |succ g=>
      rw[fS,fS,if_neg a,if_neg a];by_cases b:bD l=0
      ·rw[if_pos b,if_pos b]
      ·rw[if_neg b,if_neg b,d f g (l.drop (bD l)) (by rw[L3];omega) (by rw[L3];omega) (by rw[L3];omega)]
 exact λf l a=>h l.length f l.length l (F6 _) a (F6 _)
def AF(a:l≠[])(b:bD l≠0):iI l=l.take (bD l)::iI (l.drop (bD l)):=by
 have c:0<l.length:=M7.2 a;obtain⟨n,d⟩:∃n,l.length=n+1:=⟨l.length-1,o_⟩
 rw[<-pT (n+1) l o_,fS,if_neg a,if_neg b,pT n _ (by rw[L3];omega)]
def mC(h:l=[]\/bD l=0):iI l=[]:=by
 unfold iI;cases a:l.length with
 |zero=>rfl
 |succ n=>
  rw[fS];rcases h with h|h
  ·rw[if_pos h]
  ·rw[if_pos h];split<;>rfl
inductive aJ where
 |begin (l_:Nat) (e_:List (List UInt8))
 |push (v:aH)
 |load (slot:Nat)
 |declare (slot:Nat)
 |assign (slot n:Nat)
 |jump (to_:Nat)
 |skip (to_:Nat)
 |shortcut (when:Bool) (to_:Nat)
 |truth
 |unary (op:List UInt8)
 |binary (op:List UInt8)
 |index
 |list (n:Nat)
 |length
 |read
 |call (f:Nat) (n:Nat)
 |give
 |drop
 |print
def aJ.isBegin:aJ->Bool
 |.begin _ _=>true
 |_=>false
structure dN where
 name:List UInt8
 code:List aJ
structure aF where
 fn:dN
 next:Nat
 l_:Nat
 e_:List (List UInt8)
 g_:List aH
 ops:List aH
structure bO where
 f_:List aF
 tape:List Int
 out:List (List UInt8)
def aF.push(f:aF)(v:aH):aF:={ f with ops:=f.ops++[v] }
def aF.last(f:aF):aH:=f.ops.getLast?.getD cJ
def aF.pop(f:aF):aF:={ f with ops:=f.ops.dropLast }
def aF.many(f:aF)(n:Nat):List aH:=f.ops.drop (f.ops.length-n)
def aF.popMany(f:aF)(n:Nat):aF:={ f with ops:=f.ops.take (f.ops.length-n) }
noncomputable def kI(r:aH × Nat):aH × Nat:=if r.2=0 then if 200<aT r.1 then (cJ,6) else r else r
noncomputable def OL(whole:aH)(at_:List aH)(to_:aH):aH × Nat:=kI (fJ at_ whole to_)
noncomputable def aP(i:aJ)(f:aF):aF × Nat:=
 match i with
 |.begin l s=>({ f with l_:=l,e_:=s },0)
 |.push v=>(f.push v,0)
 |.load k=>(f.push (f.g_[k]?.getD cJ),0)
 |.declare k=>({ f.pop with g_:=f.g_.take k++[f.last] },0)
 |.assign k n=>
  let g:=f.pop.popMany n
  let r:=OL (f.g_[k]?.getD cJ) (f.pop.many n) f.last
  if r.2=0 then ({ g with g_:=f.g_.set k r.1 },0) else (g,r.2)
 |.jump t=>({ f with next:=t },0)
 |.skip t=>if f.last.sort=1 then (if f.last.n=1 then f.pop else { f.pop with next:=t },0) else (f.pop,2)
 |.shortcut w t=>if f.last.sort=1 then (if decide (f.last.n=1)=w then { f.pop.push f.last with next:=t } else f.pop,0) else (f.pop,2)
 |.truth=>if f.last.sort=1 then (f.pop.push f.last,0) else (f.pop,2)
 |.unary op=>let r:=eE (op++[120]) f.last;if r.2=0 then (f.pop.push r.1,0) else (f.pop,r.2)
 |.binary op=>let r:=cD op f.pop.last f.last;if r.2=0 then (f.pop.pop.push r.1,0) else (f.pop.pop,r.2)
 |.index=>let r:=mU f.pop.last f.last;if r.2=0 then (f.pop.pop.push r.1,0) else (f.pop.pop,r.2)
 |.list n=>let r:=kI (bC (f.many n),0);if r.2=0 then ((f.popMany n).push r.1,0) else (f.popMany n,r.2)
 |.length=>let r:=kW f.last;if r.2=0 then (f.pop.push r.1,0) else (f.pop,r.2)
 |.drop=>(f.pop,0)
 |_=>(f,0)
noncomputable def bU(tab:List dN)(i:aJ)(w_:List aF)(f:aF)(tape:List Int)(out:List (List UInt8)):bO × Nat:=
 match i with
 |.read=>
  match tape with
  |[]=>(⟨w_++[f],tape,out⟩,7)
  |t::r=>(⟨w_++[f.push (aL t)],r,out⟩,0)
 |.call k n=>
  if w_.length+1=16 then (⟨w_++[f.popMany n],tape,out⟩,5)
  else (⟨w_++[f.popMany n,⟨tab[k]?.getD ⟨[],[]⟩,0,0,[],f.many n,[]⟩],tape,out⟩,0)
 |.give=>(⟨w_.dropLast++(w_.getLast?.map λg=>g.push f.last).toList,tape,out⟩,0)
 |.print=>if out.length=50 then (⟨w_++[f.pop],tape,out⟩,8) else (⟨w_++[f.pop],tape,out++[UW f.last]⟩,0)
 |i=>let r:=aP i f;(⟨w_++[r.1],tape,out⟩,r.2)
def aF.fetch(f:aF):Option (aJ × aF):=f.fn.code[f.next]?.map λi=>(i,{ f with next:=f.next+1 })
noncomputable def eQ(tab:List dN):Nat->bO->Option (bO × Nat)
 |0,_=>none
 |k+1,m=>
  match m.f_.getLast? with
  |none=>some (m,1)
  |some f=>
   match f.fetch with
   |none=>none
   |some (i,g)=>
    let r:=bU tab i m.f_.dropLast g m.tape m.out
    if r.2≠0 then some r
    else if i.isBegin then some r
    else eQ tab k r.1
structure fU where
 m_:Nat
 m:bO
 stop:Nat
def cI(m_ stop:Nat):Nat:=if stop=0/\m_=500 then 9 else stop
def eG:List (List UInt8)->List UInt8->Nat
 |[],_=>0
 |x::l,name=>if x=name then l.length else eG l name
def dJ(fs:List aC)(name:List UInt8):Nat:=fs.findIdx λf=>f.x_==name
def bQ(c:aC->Nat->List aJ):List aC->Nat->List aJ
 |[],_=>[]
 |a::l,p=>c a p++bQ c l (p+(c a p).length)
def aG(fs:List aC)(e_:List (List UInt8)):Nat->aC->Nat->List aJ
 |0,_,_=>[]
 |d+1,a,p=>
  let y_:=bQ (aG fs e_ d) a.y_ p
  if a.op==[48] then [.push (aL (((bW 0 a.x_).getD 0:Nat):Int))]
  else if a.op==[115] then [.push (bI a.x_)]
  else if a.op==[98,111,111,108] then [.push (bK (a.x_==[116,114,117,101]))]
  else if a.op==[110,97,109,101] then [.load (eG e_ a.x_)]
  else if a.op==[108,105,115,116] then y_++[.list a.y_.length]
  else if a.op==[105,110,100,101,120] then y_++[.index]
  else if a.op==[45,120] then y_++[.unary [45]]
  else if a.op==[33,120] then y_++[.unary [33]]
  else if a.op==[99,97,108,108] then
   y_++[if a.x_==[108,101,110] then .length else if a.x_==[114,101,97,100] then .read else .call (dJ fs a.x_) a.y_.length]
  else if a.op==[38,38] || a.op==[124,124] then
   match a.y_ with
   |[l,r]=>
    let cl:=aG fs e_ d l p
    let cr:=aG fs e_ d r (p+cl.length+1)
    cl++[.shortcut (a.op==[124,124]) (p+cl.length+1+cr.length+1)]++cr++[.truth]
   |_=>[]
  else y_++[.binary a.op]
def cB(c:List (List UInt8)->aC->Nat->List aJ × List (List UInt8)):List (List UInt8)->List aC->Nat->List aJ
 |_,[],_=>[]
 |e_,a::l,p=>(c e_ a p).1++cB c (c e_ a p).2 l (p+(c e_ a p).1.length)
def bP(fs:List aC):Nat->List (List UInt8)->aC->Nat->List aJ × List (List UInt8)
 |0,e_,_,_=>([],e_)
 |d+1,e_,a,p=>
  let start:=aJ.begin a.l_ e_
  let blk:=λ(b:aC) q=>cB (bP fs d) e_ b.y_ q
  if a.op==[118,97,114] then
   match a.y_ with
   |[t,v]=>(start::aG fs e_ d v (p+1)++[.declare e_.length],t.x_::e_)
   |_=>([],e_)
  else if a.op==[115,101,116] then
   (start::bQ (aG fs e_ d) a.y_ (p+1)++[.assign (eG e_ a.x_) (a.y_.length-1)],e_)
  else if a.op==[105,102] then
   match a.y_ with
   |c::t::e=>
    let cc:=aG fs e_ d c (p+1)
    let ct:=blk t (p+1+cc.length+1)
    let q:=p+1+cc.length+1+ct.length+1
    let ce:=match e with|[x]=>blk x q|_=>[]
    (start::cc++[.skip q]++ct++[.jump (q+ce.length)]++ce,e_)
   |_=>([],e_)
  else if a.op==[119,104,105,108,101] then
   match a.y_ with
   |[c,b]=>
    let cc:=aG fs e_ d c (p+1)
    let cb:=blk b (p+1+cc.length+1)
    (start::cc++[.skip (p+1+cc.length+1+cb.length+1)]++cb++[.jump p],e_)
   |_=>([],e_)
  else if a.op==[114,101,116,117,114,110] then
   match a.y_ with
   |[v]=>(start::aG fs e_ d v (p+1)++[.give],e_)
   |_=>([start,.push (aL 0),.give],e_)
  else if a.op==[112,114,105,110,116] then
   match a.y_ with
   |[v]=>(start::aG fs e_ d v (p+1)++[.print],e_)
   |_=>([],e_)
  else
   match a.y_ with
   |[c]=>(start::aG fs e_ d c (p+1)++[.drop],e_)
   |_=>([],e_)
def eY(fs:List aC)(d:Nat)(f:aC):dN:=
 let e_:=(f.y_.dropLast.map (·.x_)).reverse
 ⟨f.x_,cB (bP fs d) e_ ((f.y_.getLast?.map (·.y_)).getD []) 0++[.push (aL 0),.give]⟩
def cZ(fs:List aC)(d:Nat):List dN:=fs.map (eY fs d)
def fH(fs:List aC)(d:Nat)(tape:List Int):bO:=⟨[⟨(cZ fs d)[dJ fs [109,97,105,110]]?.getD ⟨[],[]⟩,0,0,[],[],[]⟩],tape,[]⟩
structure dM where
 h:Nat
 v:Nat
 e:Option Nat
 b:Bool
def dT(D:Nat->Prop)(T:Nat->dM)(q h v:Nat)(e:Option Nat):Prop:=D q/\(T q).h=h/\(T q).v<=v/\((T q).e=none\/(T q).e=e)
def gD(ar:Nat->Option Nat)(D:Nat->Prop)(T:Nat->dM)(p:Nat)(i:aJ):Prop:=
 (T p).b=i.isBegin/\(T p).h<=p/\
 match i with
 |.begin _ s=>s.length<=(T p).v/\dT D T (p+1) (T p).h (T p).v (some s.length)
 |.push _=>dT D T (p+1) ((T p).h+1) (T p).v (T p).e
 |.load k=>k<(T p).v/\dT D T (p+1) ((T p).h+1) (T p).v (T p).e
 |.declare k=>1<=(T p).h/\k<=(T p).v/\k<=90000/\(T p).e=some k/\dT D T (p+1) ((T p).h-1) (k+1) (T p).e
 |.assign k n=>n+1<=(T p).h/\k<(T p).v/\dT D T (p+1) ((T p).h-(n+1)) (T p).v (T p).e
 |.jump q=>(p<q\/(T q).b=true)/\dT D T q (T p).h (T p).v (T p).e
 |.skip q=>1<=(T p).h/\p<q/\dT D T q ((T p).h-1) (T p).v (T p).e/\dT D T (p+1) ((T p).h-1) (T p).v (T p).e
 |.shortcut _ q=>1<=(T p).h/\p<q/\dT D T q (T p).h (T p).v (T p).e/\dT D T (p+1) ((T p).h-1) (T p).v (T p).e
 |.truth=>1<=(T p).h/\dT D T (p+1) (T p).h (T p).v (T p).e
 |.unary _=>1<=(T p).h/\dT D T (p+1) (T p).h (T p).v (T p).e
 |.length=>1<=(T p).h/\dT D T (p+1) (T p).h (T p).v (T p).e
 |.binary _=>2<=(T p).h/\dT D T (p+1) ((T p).h-1) (T p).v (T p).e
 |.index=>2<=(T p).h/\dT D T (p+1) ((T p).h-1) (T p).v (T p).e
 |.list n=>n<=(T p).h/\dT D T (p+1) ((T p).h-n+1) (T p).v (T p).e
 |.read=>dT D T (p+1) ((T p).h+1) (T p).v (T p).e
 |.call k n=>n<=(T p).h/\ar k=some n/\dT D T (p+1) ((T p).h-n+1) (T p).v (T p).e
 |.give=>1<=(T p).h
 |.drop=>1<=(T p).h/\dT D T (p+1) ((T p).h-1) (T p).v (T p).e
 |.print=>1<=(T p).h/\dT D T (p+1) ((T p).h-1) (T p).v (T p).e
def GQ(L:Nat->dM->Prop)(lo hi:Nat)(q:Nat):Prop:=(lo<=q/\q<=hi)\/∃y,L q y
def aX(ar:Nat->Option Nat)(L:Nat->dM->Prop)(p:Nat)(c:List aJ)(h v:Nat)(e:Option Nat)(h' v':Nat)(e':Option Nat):Prop:=
 ∃T:Nat->dM,(∀q y,L q y->T q=y)/\(T p).h=h/\(T p).v<=v/\((T p).e=none\/(T p).e=e)/\
  (T (p+c.length)).h=h'/\(T (p+c.length)).v=v'/\(T (p+c.length)).e=e'/\
  ∀j i,c[j]?=some i->gD ar (GQ L p (p+c.length)) T (p+j) i
def dT.same{D b:Nat->Prop}{T T':Nat->dM}(f:dT D T q h v e)(c:D q->b q/\(T' q).h=(T q).h/\(T' q).v<=(T q).v/\((T' q).e=none\/(T' q).e=(T q).e)):dT b T' q h v e:=by
 obtain⟨j,d,m,i⟩:=f;obtain⟨k,g,l,a⟩:=c j;refine⟨k,by rw[g,d],o_,?_⟩
 rcases a with a|a
 ·exact F7 a
 ·rw[a];exact i
def gD.same{D e:Nat->Prop}{T T':Nat->dM}{i:aJ}(f:gD ar D T p i)(c:T' p=T p)
 (b:∀q,D q->e q/\(T' q).h=(T q).h/\(T' q).v<=(T q).v/\((T' q).e=none\/(T' q).e=(T q).e)) (k:∀q,D q->q<=p->(T q).b=true->(T' q).b=true):gD ar e T' p i:=by
 obtain⟨j,g,a⟩:=f;refine⟨by rw[c];exact j,by rw[c];exact g,?_⟩
 cases i<;>simp only at a ⊢<;>try rw[c]
 case jump q=>
  refine⟨?_,a.2.same (b _)⟩;rcases a.1 with h|h
  ·exact F7 h
  ·rcases J8 p q with d|d
   ·exact F7 d
   ·exact F5 (k q a.2.1 d h)
 all_goals first
  |exact a
  |exact a.same (b _)
  |exact⟨a.1,a.2.same (b _)⟩
  |exact⟨a.1,a.2.1,a.2.2.same (b _)⟩
  |exact⟨a.1,a.2.1,a.2.2.1.same (b _),a.2.2.2.same (b _)⟩
  |exact⟨a.1,a.2.1,a.2.2.1,a.2.2.2.1,a.2.2.2.2.same (b _)⟩
def aX.append{L:Nat->dM->Prop}{c c':List aJ}{s r:Nat}{w t:Option Nat}(a:aX ar L p c h v e s v1 w)(b:aX ar L (p+c.length) c' s v1 w r v2 t)
 (F:∀q y,L q y->q<=p\/p+c.length+c'.length<=q) (I:c≠[]):aX ar L p (c++c') h v e r v2 t:=by
 obtain⟨T,n,x,z,C,H,E,D,G⟩:=a;obtain⟨U,u1,u2,u3,u4,u5,u6,u7,u8⟩:=b;have B:0<c.length:=M7.2 I;have f:(c++c').length=c.length+c'.length:=F8;refine⟨λq=>if q<p+c.length then T q else U q,λq y d=>?_,?_,?_,?_,?_,?_,?_,λj i m=>?_⟩
 ·rcases F q y d with h|h
  ·simp only[if_pos (show q<p+c.length by omega)];exact n q y d
  ·simp only[if_neg (show ¬q<p+c.length by omega)];exact u1 q y d
 ·simp only[if_pos (show p<p+c.length by omega)];exact x
 ·simp only[if_pos (show p<p+c.length by omega)];exact z
 ·simp only[if_pos (show p<p+c.length by omega)];exact C
 ·simp only[if_neg (show ¬p+(c++c').length<p+c.length by omega)];rw[f,<-P3];exact u5
 ·simp only[if_neg (show ¬p+(c++c').length<p+c.length by omega)];rw[f,<-P3];exact u6
 ·simp only[if_neg (show ¬p+(c++c').length<p+c.length by omega)];rw[f,<-P3];exact u7
 ·rcases J8 j c.length with k|k
  ·rw[J7 k] at m;refine(G j i m).same (by simp only[if_pos (show p+j<p+c.length by omega)]) (λq d=>?_) (λq d o l=>?_)
   ·rcases J8 q (p+c.length) with h|h
    ·rw[if_pos h];exact⟨d.imp (λd=>⟨d.1,o_⟩) id,rfl,F6 _,F5 rfl⟩
    ·rw[if_neg (show ¬q<p+c.length by omega)]
     rcases M3 h with h|h
     ·subst h;exact⟨F7 ⟨o_,o_⟩,by rw[u2,H],by rw[E];exact u3,by rw[D];exact u4⟩
     ·rcases d with d|⟨y,g⟩
      ·omega
      ·rw[n q y g,u1 q y g];exact⟨F5 ⟨y,g⟩,rfl,F6 _,F5 rfl⟩
   ·simp only[if_pos (show q<p+c.length by omega)];exact l
  ·rw[I3 k] at m;have u:=u8 (j-c.length) i m;rw[show p+c.length+(j-c.length)=p+j by omega] at u
   have A:j-c.length<c'.length:=(K6.1 m).1;refine u.same (by simp only[if_neg (show ¬p+j<p+c.length by omega)]) (λq d=>?_) (λq d o l=>?_)
   ·rcases d with d|⟨y,g⟩
    ·rw[if_neg (show ¬q<p+c.length by omega)]
     exact⟨F7 ⟨o_,o_⟩,rfl,F6 _,F5 rfl⟩
    ·refine⟨F5 ⟨y,g⟩,?_⟩;split
     ·rw[n q y g,u1 q y g];exact⟨rfl,F6 _,F5 rfl⟩
     ·exact⟨rfl,F6 _,F5 rfl⟩
   ·rcases d with d|⟨y,g⟩
    ·simp only[if_neg (show ¬q<p+c.length by omega)];exact l
    ·split
     ·rw[n q y g,<-u1 q y g];exact l
     ·exact l
def aX.nil(ar:Nat->Option Nat)(p h v:Nat)(e:Option Nat)(L:Nat->dM->Prop)(k:∀q y,L q y->q=p->y.h=h/\y.v=v/\y.e=e)(l:∀q y z,L q y->L q z->y=z):aX ar L p [] h v e h v e:=by
 classical
 refine⟨λq=>if hq:∃y,L q y then hq.choose else ⟨h,v,e,false⟩,λq y d=>?_,?_⟩
 ·have a:∃y,L q y:=⟨y,d⟩;simp only[dif_pos a];exact l q _ _ a.choose_spec d
 ·simp only[G4,Nat.add_zero];split
  ·rename_i a;obtain⟨c,g,f⟩:=k p _ a.choose_spec rfl;exact⟨c,o_,F5 f,c,g,f,λj i b=>by simp at b⟩
  ·exact⟨rfl,F6 _,F5 rfl,rfl,rfl,rfl,λj i b=>by simp at b⟩
structure nA(ar:Nat->Option Nat)(c:List aJ)(T:Nat->dM):Prop where
 ins:∀j i,c[j]?=some i->gD ar (λq=>q<c.length) T j i
 len:c.length<=80000
def gA(c:List aJ):Prop:=(∃l s r,c=.begin l s::r)\/∃v,c=[.push v,.give]
structure cF(ar:Nat->Option Nat)(f:aF)(more:Nat):Prop where
 code:∃T,nA ar f.fn.code T/\(T f.next).h=f.ops.length+more/\(T f.next).v<=f.g_.length/\((T f.next).e=none\/(T f.next).e=some f.e_.length)
 next:f.next<f.fn.code.length
 e_:f.e_.length<=f.g_.length
 g_:f.g_.length<=90001
structure B9(f:aF):Prop where
 e_:f.e_.length<=f.g_.length
structure pW(ar:Nat->Option Nat)(tab:List dN):Prop where
 fn:∀k n,ar k=some n->∃f T,tab[k]?=some f/\nA ar f.code T/\(T 0).h=0/\(T 0).v<=n/\(T 0).e=none/\
  gA f.code
structure lE(ar:Nat->Option Nat)(m:bO):Prop where
 low:∀f∈m.f_.dropLast,cF ar f 1
 top:∀f,m.f_.getLast?=some f->cF ar f 0
 deep:m.f_.length<=16
def fI(l:List b)(a:b):(l++[a]).getLast?=some a:=s_
def fY(l:List b)(a:b):(l++[a]).dropLast=l:=s_
def lE.snoc{a:List aF}{f:aF}(d:∀g∈a,cF ar g 1)(c:cF ar f 0)(e:a.length+1<=16):lE ar ⟨a++[f],t,o⟩:=
 ⟨by simp only[fY];exact d,λg b=>by simp only[fI] at b;cases b;exact c,t_⟩
def cF.flow{T:Nat->dM}{f g:aF}(l:nA ar f.fn.code T)(j:dT (λq=>q<f.fn.code.length) T g.next h v e)(b:g.fn=f.fn)(m:h=g.ops.length)(n:v<=g.g_.length)(d:e=none\/e=some g.e_.length)
 (i:g.e_.length<=g.g_.length) (k:g.g_.length<=90001):cF ar g 0:=by
 obtain⟨c,o,p,a⟩:=j;refine⟨⟨T,by rw[b];exact l,o_,o_,?_⟩,by rw[b];exact c,i,k⟩
 rcases a with a|a
 ·exact F7 a
 ·rw[a];exact d
def aF.pop_len(f:aF):f.pop.ops.length=f.ops.length-1:=by simp[aF.pop]
def aF.push_len(f:aF)(v:aH):(f.push v).ops.length=f.ops.length+1:=by simp[aF.push]
def aF.popMany_len(f:aF)(n:Nat):(f.popMany n).ops.length=f.ops.length-n:=by simp[aF.popMany]
def BK{T:Nat->dM}{f:aF}{i:aJ}(e:nA ar f.fn.code T)(c:gD ar (λq=>q<f.fn.code.length) T f.next i)
 (p:(T f.next).h=f.ops.length) (j:(T f.next).v<=f.g_.length) (d:(T f.next).e=none\/(T f.next).e=some f.e_.length) (b:f.e_.length<=f.g_.length) (g:f.g_.length<=90001)
 (C:i≠.give) (B:i≠.read) (z:i≠.print) (u:∀k n,i≠.call k n) (r:aF × Nat) (a:r=aP i { f with next:=f.next+1 }):
 r.1.e_.length<=r.1.g_.length/\(r.2=0->cF ar r.1 0):=by
 obtain⟨_,_,c⟩:=c;have x:=b;cases i with
 |give=>exact absurd rfl C
 |read=>exact absurd rfl B
 |print=>exact absurd rfl z
 |call k n=>exact absurd rfl (u k n)
 |begin l s=>
  simp only[aP] at a c;subst a;exact⟨by simp only;omega,λ_=>cF.flow (f:=f) e c.2 rfl p j (F5 rfl) (by simp only;omega) g⟩
 |push v=>
  simp only[aP] at a c;subst a;exact⟨b,λ_=>cF.flow (f:=f) e c rfl (by rw[aF.push_len];simp only;omega) j d b g⟩
 |load k=>
  simp only[aP] at a c;subst a;exact⟨b,λ_=>cF.flow (f:=f) e c.2 rfl (by rw[aF.push_len];simp only;omega) j d b g⟩
 |declare k=>
  simp only[aP] at a c;subst a;obtain⟨G,E,F,A,y⟩:=c;have t:f.e_.length=k:=by rcases d with d|d<;>rw[A] at d<;>cases d;rfl
  have o:(f.g_.take k++[aF.last { f with next:=f.next+1 }]).length=k+1:=t_
  exact⟨by show f.e_.length<=(f.g_.take k++[_]).length;rw[o];omega,λ_=>cF.flow (f:=f) e y rfl (by show _=(aF.pop _).ops.length;rw[aF.pop_len];simp only;omega) (by show _<=(f.g_.take k++[_]).length;rw[o];omega) d (by show f.e_.length<=(f.g_.take k++[_]).length;rw[o];omega) (by show (f.g_.take k++[_]).length<=_;rw[o];omega)⟩
 |assign k n=>
  simp only[aP] at a c;split at a
  ·subst a;refine⟨by simp only[N6];exact b,λ_=>cF.flow (f:=f) e c.2.2 rfl ?_ (by simp only[N6];exact j) d (by simp only[N6];exact b) (by simp only[N6];exact g)⟩
   show _=(aF.popMany _ n).ops.length
   rw[aF.popMany_len,aF.pop_len];simp only;omega
  ·subst a;rename_i m;exact⟨b,λh=>absurd h m⟩
 |jump q=>
  simp only[aP] at a c;subst a;exact⟨b,λ_=>cF.flow (f:=f) e c.2 rfl p j d b g⟩
 |skip q=>
  simp only[aP] at a c;split at a
  ·subst a;refine⟨?_,λ_=>?_⟩
   ·split<;>exact b
   ·split
    ·exact cF.flow (f:=f) e c.2.2.2 rfl (by rw[aF.pop_len];simp only;omega) j d b g
    ·exact cF.flow (f:=f) e c.2.2.1 rfl (by show _=(aF.pop _).ops.length;rw[aF.pop_len];simp only;omega) j d b g
  ·subst a;exact⟨b,λh=>absurd h s_⟩
 |shortcut w q=>
  simp only[aP] at a c;split at a
  ·subst a;refine⟨?_,λ_=>?_⟩
   ·split<;>exact b
   ·split
    ·exact cF.flow (f:=f) e c.2.2.1 rfl (by show _=(aF.push (aF.pop _) _).ops.length;rw[aF.push_len,aF.pop_len];simp only;omega) j d b g
    ·exact cF.flow (f:=f) e c.2.2.2 rfl (by rw[aF.pop_len];simp only;omega) j d b g
  ·subst a;exact⟨b,λh=>absurd h s_⟩
 |truth=>
  simp only[aP] at a c;split at a
  ·subst a;exact⟨b,λ_=>cF.flow (f:=f) e c.2 rfl (by rw[aF.push_len,aF.pop_len];simp only;omega) j d b g⟩
  ·subst a;exact⟨b,λh=>absurd h s_⟩
 |unary D=>
  simp only[aP] at a c;split at a
  ·subst a;exact⟨b,λ_=>cF.flow (f:=f) e c.2 rfl (by rw[aF.push_len,aF.pop_len];simp only;omega) j d b g⟩
  ·subst a;rename_i m;exact⟨b,λh=>absurd h m⟩
 |length=>
  simp only[aP] at a c;split at a
  ·subst a;exact⟨b,λ_=>cF.flow (f:=f) e c.2 rfl (by rw[aF.push_len,aF.pop_len];simp only;omega) j d b g⟩
  ·subst a;rename_i m;exact⟨b,λh=>absurd h m⟩
 |binary D=>
  simp only[aP] at a c;split at a
  ·subst a;exact⟨b,λ_=>cF.flow (f:=f) e c.2 rfl (by rw[aF.push_len,aF.pop_len,aF.pop_len];simp only;omega) j d b g⟩
  ·subst a;rename_i m;exact⟨b,λh=>absurd h m⟩
 |index=>
  simp only[aP] at a c;split at a
  ·subst a;exact⟨b,λ_=>cF.flow (f:=f) e c.2 rfl (by rw[aF.push_len,aF.pop_len,aF.pop_len];simp only;omega) j d b g⟩
  ·subst a;rename_i m;exact⟨b,λh=>absurd h m⟩
 |list n=>
  simp only[aP] at a c;split at a
  ·subst a;exact⟨b,λ_=>cF.flow (f:=f) e c.2 rfl (by rw[aF.push_len,aF.popMany_len];simp only;omega) j d b g⟩
  ·subst a;rename_i m;exact⟨b,λh=>absurd h m⟩
 |drop=>
  simp only[aP] at a c;subst a;exact⟨b,λ_=>cF.flow (f:=f) e c.2 rfl (by rw[aF.pop_len];simp only;omega) j d b g⟩
structure hY(ar:Nat->Option Nat)(m:bO):Prop where
 ok:lE ar m
 start:∀f∈m.f_,gA f.fn.code
def cF.pushed{f:aF}(h:cF ar f 1)(v:aH):cF ar (f.push v) 0:=by
 obtain⟨⟨T,c,i,g,b⟩,e,a,d⟩:=h;exact⟨⟨T,c,by show (T f.next).h=(f.ops++[v]).length+0;simp;omega,g,b⟩,e,a,d⟩
def DZ{b:List dN}{i:aJ}{a:List aF}{f:aF}(g:i≠.give)(e:i≠.read)(c:i≠.print)(d:∀k n,i≠.call k n):bU b i a f t o=(⟨a++[(aP i f).1],t,o⟩,(aP i f).2):=by
 cases i<;>first|rfl|exact absurd rfl g|exact absurd rfl e|exact absurd rfl c|exact absurd rfl (d _ _)
def inFrame_fn(i:aJ)(f:aF):(aP i f).1.fn=f.fn:=by
 cases i<;>simp only[aP]<;>(repeat' split)<;>rfl
def DY{A:List dN}(ht:pW ar A){d:List aF}{f:aF}(h:hY ar ⟨d++[f],t,o⟩){i:aJ}{g:aF}(I:f.fetch=some (i,g)):
 (∀x∈(bU A i d g t o).1.f_,x.e_.length<=x.g_.length)/\(bU A i d g t o).1.f_.length<=16/\((bU A i d g t o).2=0->hY ar (bU A i d g t o).1):=by
 have q:∀x∈d,cF ar x 1:=by have:=h.ok.low;simpa only[fY] using this
 have Q:cF ar f 0:=h.ok.top f (fI _ _);have w:d.length+1<=16:=by have:=h.ok.deep;simpa using this
 have z:∀x∈d,gA x.fn.code:=λx m=>h.start x (by simp[m])
 have H:gA f.fn.code:=h.start f s_
 obtain⟨⟨T,K,hh,W,X⟩,ac,C,V⟩:=Q
 obtain⟨rfl,hi⟩:g={ f with next:=f.next+1 }/\f.fn.code[f.next]?=some i:=by
  unfold aF.fetch at I;cases m:f.fn.code[f.next]? with
  |none=>rw[m] at I;cases I
  |some j=>rw[m] at I;simp at I;exact⟨I.2.symm,by rw[I.1]⟩
 have D:=K.ins _ _ hi;have L:∀x∈d,x.e_.length<=x.g_.length:=λx m=>(q x m).e_
 by_cases hn:i=.give
 ·subst hn;rcases N0 d with rfl|⟨b,x,rfl⟩
  ·refine⟨by simp[bU],by simp[bU],λ_=>⟨⟨by simp[bU],by simp[bU],by simp[bU]⟩,by simp[bU]⟩⟩
  ·rw[N1] at*;have e:bU A .give (b++[x]) { f with next:=f.next+1 } t o=(⟨b++[x.push (aF.last { f with next:=f.next+1 })],t,o⟩,0):=by simp[bU]
   rw[e];refine⟨λy u=>?_,by simp at w ⊢;omega,λ_=>⟨lE.snoc (λy u=>q y (by simp[u])) ((q x s_).pushed _) (by simp at w;omega),λy u=>?_⟩⟩
   ·rcases G8.1 u with u|u
    ·exact L y (by simp[u])
    ·rw[G5.1 u];exact L x s_
   ·rcases G8.1 u with u|u
    ·exact z y (by simp[u])
    ·rw[G5.1 u];exact z x s_
 have p:∀y:aF,y.e_.length<=y.g_.length->∀x∈d++[y],x.e_.length<=x.g_.length:=λy u x m=>by
  rcases G8.1 m with m|m
  ·exact L x m
  ·rw[G5.1 m];exact u
 have B:∀y:aF,cF ar y 0->y.fn=f.fn->∀t o,hY ar ⟨d++[y],t,o⟩:=λy u aa t o=>⟨lE.snoc q u w,λx m=>by
  rcases G8.1 m with m|m
  ·exact z x m
  ·rw[G5.1 m,aa];exact H⟩
 by_cases Z:i=.read
 ·subst Z;cases t with
  |nil=>exact⟨p _ C,by simp[bU];omega,λJ=>by simp[bU] at J⟩
  |cons a r=>exact⟨p _ C,by simp[bU];omega,λ_=>B (aF.push { f with next:=f.next+1 } (aL a)) (cF.flow (f:=f) K D.2.2 rfl (by rw[aF.push_len];simp only;omega) W X C V) rfl _ _⟩
 by_cases Y:i=.print
 ·subst Y;simp only[bU];split
  ·exact⟨p _ C,t_,λJ=>by simp at J⟩
  ·exact⟨p _ C,t_,λ_=>B (aF.pop { f with next:=f.next+1 }) (cF.flow (f:=f) K D.2.2.2 rfl (by rw[aF.pop_len];simp only;omega) W X C V) rfl _ _⟩
 by_cases hk:∃k n,i=.call k n
 ·obtain⟨k,n,rfl⟩:=hk;simp only[bU];split
  ·exact⟨p _ C,t_,λJ=>by simp at J⟩
  ·rename_i hd;obtain⟨_,_,ab,S,N⟩:=D;obtain⟨c,U,c1,c2,c3,c4,c5,c6⟩:=ht.fn k n S;have F:(aF.many { f with next:=f.next+1 } n).length=n:=by simp[aF.many];omega
   rw[c1]
   have G:cF ar ⟨c,0,0,[],aF.many { f with next:=f.next+1 } n,[]⟩ 0:=by
    refine⟨⟨U,c2,by simp[c3],by simp only[F];exact c4,F7 c5⟩,?_,s_,by simp only[F];have:=c2.len;have:=K.len;have:=(K.ins _ _ hi).2.1;omega⟩
    rcases c6 with ⟨l,s,r,e⟩|⟨v,e⟩<;>simp[e]
   have E:cF ar (aF.popMany { f with next:=f.next+1 } n) 1:=by
    obtain⟨f1,f2,f3,P⟩:=N;refine⟨⟨T,K,?_,G6 f3 W,?_⟩,f1,C,V⟩
    ·rw[aF.popMany_len];show (T (f.next+1)).h=_;simp only;omega
    ·rcases P with P|P
     ·exact F7 P
     ·show (T (f.next+1)).e=none\/(T (f.next+1)).e=_;rw[P];exact X
   have e1:d++[aF.popMany { f with next:=f.next+1 } n,(⟨c,0,0,[],aF.many { f with next:=f.next+1 } n,[]⟩:aF)]=(d++[aF.popMany { f with next:=f.next+1 } n])++[(⟨c,0,0,[],aF.many { f with next:=f.next+1 } n,[]⟩:aF)]:=s_
   simp only[Option.getD_some];rw[e1];refine⟨λx m=>?_,t_,λ_=>⟨lE.snoc (λx m=>?_) G t_,λx m=>?_⟩⟩
   ·rcases G8.1 m with m|m
    ·exact p _ E.e_ x m
    ·rw[G5.1 m];exact G.e_
   ·rcases G8.1 m with m|m
    ·exact q x m
    ·rw[G5.1 m];exact E
   ·rcases G8.1 m with m|m
    ·rcases G8.1 m with m|m
     ·exact z x m
     ·rw[G5.1 m];exact H
    ·rw[G5.1 m];exact c6
 have M:∀k n,i≠.call k n:=λk n e=>hk ⟨k,n,e⟩
 rw[DZ hn Z Y M];have O:=BK K D hh W X C V hn Z Y M _ rfl;exact⟨p _ O.1,t_,λJ=>B _ (O.2 J) (inFrame_fn _ _) _ _⟩
def gX(f:aF):Nat:=if f.next=0 then 2 else if f.fn.code.length=2 then 1 else 4*(f.fn.code.length-f.next)
def wgts(l:List aF):Nat:=(l.map gX).sum
def wP{T:Nat->dM}{f:aF}{i:aJ}(a:gD ar (λq=>q<f.fn.code.length) T f.next i)
 (e:i.isBegin=false) (o:i≠.give) (m:i≠.read) (j:i≠.print) (g:∀k n,i≠.call k n):
 (aP i { f with next:=f.next+1 }).2=0->(f.next<(aP i { f with next:=f.next+1 }).1.next/\(aP i { f with next:=f.next+1 }).1.next<f.fn.code.length)\/(T (aP i { f with next:=f.next+1 }).1.next).b=true/\(aP i { f with next:=f.next+1 }).1.next<f.fn.code.length:=by
 obtain⟨_,_,a⟩:=a;intro b;cases i with
 |give=>exact absurd rfl o
 |read=>exact absurd rfl m
 |print=>exact absurd rfl j
 |call k n=>exact absurd rfl (g k n)
 |begin l s=>simp[aJ.isBegin] at e
 |jump q=>
  simp only at a;obtain⟨c|c,d⟩:=a
  ·exact F7 ⟨c,d.1⟩
  ·exact F5 ⟨c,d.1⟩
 |skip q=>
  simp only[aP] at a b ⊢
  split
  ·simp only;split
   ·exact F7 ⟨J4 _,a.2.2.2.1⟩
   ·exact F7 ⟨a.2.1,a.2.2.1.1⟩
  ·rename_i h;rw[if_neg h] at b;simp at b
 |shortcut w q=>
  simp only[aP] at a b ⊢
  split
  ·simp only;split
   ·exact F7 ⟨a.2.1,a.2.2.1.1⟩
   ·exact F7 ⟨J4 _,a.2.2.2.1⟩
  ·rename_i h;rw[if_neg h] at b;simp at b
 |assign k n=>
  simp only[aP] at a b ⊢
  split<;>exact F7 ⟨J4 _,a.2.2.1⟩
 |declare k=>exact F7 ⟨J4 _,a.2.2.2.2.1⟩
 |push v=>exact F7 ⟨J4 _,a.1⟩
 |load k=>exact F7 ⟨J4 _,a.2.1⟩
 |drop=>exact F7 ⟨J4 _,a.2.1⟩
 |truth=>simp only[aP] at a ⊢;split<;>exact F7 ⟨J4 _,a.2.1⟩
 |unary p=>simp only[aP] at a ⊢;split<;>exact F7 ⟨J4 _,a.2.1⟩
 |length=>simp only[aP] at a ⊢;split<;>exact F7 ⟨J4 _,a.2.1⟩
 |binary p=>simp only[aP] at a ⊢;split<;>exact F7 ⟨J4 _,a.2.1⟩
 |index=>simp only[aP] at a ⊢;split<;>exact F7 ⟨J4 _,a.2.1⟩
 |list n=>simp only[aP] at a ⊢;split<;>exact F7 ⟨J4 _,a.2.1⟩
def fG(l:List aF)(f:aF):wgts (l++[f])=wgts l+gX f:=by simp[wgts]
def xH{f:aF}(h:f.next<f.fn.code.length):1<=gX f:=by unfold gX;repeat' split
                                                    all_goals omega
def GU(f:aF)(v:aH):gX (f.push v)=gX f:=rfl
def tP{f g:aF}{i:aJ}(m:gA f.fn.code)(a:f.fn.code[f.next]?=some i)(c:i.isBegin=false)(d:g.fn=f.fn)(n:f.next<g.next)(k:g.next<f.fn.code.length):gX g<gX f:=by
 unfold gX;rw[d];rcases m with ⟨l,s,r,e⟩|⟨v,e⟩
 ·have j:f.next≠0:=λh=>by rw[e,h] at a;simp at a;rw[<-a] at c;simp[aJ.isBegin] at c
  rw[if_neg (show g.next≠0 by omega),if_neg j]
  split<;>omega
 ·have b:f.fn.code.length=2:=by rw[e];rfl
  rw[b] at k;rw[if_neg (show g.next≠0 by omega),if_pos b,if_pos (show f.next=0 by omega)]
  omega
def GV{f g:aF}(i:gA f.fn.code)(a:f.fn.code[f.next]?=some (.call k n))(c:g.fn=f.fn)(j:f.next<g.next)(m:g.next<f.fn.code.length):gX g+2<gX f:=by
 unfold gX;rw[c]
 have d:f.next≠0:=λh=>by
  rcases i with ⟨l,s,r,e⟩|⟨v,e⟩<;>rw[e,h] at a<;>simp at a
 have b:f.fn.code.length≠2:=o_
 rw[if_neg (show g.next≠0 by omega),if_neg d,if_neg b]
 split
 ·omega
 ·omega
structure GT(ar:Nat->Option Nat)(r:bO × Nat):Prop where
 told:∀x∈r.1.f_,x.e_.length<=x.g_.length
 deep:r.1.f_.length<=16
 ok:r.2=0->hY ar r.1/\r.1.f_≠[]
def pN{l:List aF}(h:l≠[]):∃b f,l=b++[f]:=by
 rcases N0 l with a|⟨b,f,a⟩
 ·exact absurd a h
 ·exact⟨b,f,by rw[a,N1]⟩
def vT{f:aF}(h:f.next<f.fn.code.length):f.fetch=some (f.fn.code[f.next],{ f with next:=f.next+1 }):=by
 unfold aF.fetch;rw[H7 h];rfl
def sE{a:List dN}(i:pW ar a){b:List aF}{f:aF}(h:hY ar ⟨b++[f],t,o⟩){l:Nat}{s:List (List UInt8)}(m:f.fn.code[f.next]?=some (.begin l s)):
 ∃r,eQ a (k+1) ⟨b++[f],t,o⟩=some r/\GT ar r:=by
 have d:f.fetch=some (.begin l s,{ f with next:=f.next+1 }):=by unfold aF.fetch;rw[m];rfl
 obtain⟨g,e,j⟩:=DY i h d;refine⟨bU a (.begin l s) b { f with next:=f.next+1 } t o,?_,g,e,λc=>⟨j c,by simp[bU]⟩⟩
 rw[eQ];simp only[fI,d,fY];have c:(bU a (.begin l s) b { f with next:=f.next+1 } t o).2=0:=rfl
 rw[if_neg (by rw[c];simp),if_pos (show (aJ.begin l s).isBegin=true from rfl)]
def jC{p:List dN}(w:pW ar p):∀(k:Nat) (m:bO),hY ar m->wgts m.f_+2<=k->∃r,eQ p k m=some r/\GT ar r
 |0,_,_,H=>by omega
 |k+1,⟨fr,t,o⟩,h,H=>by
  by_cases E:fr=[]
  ·subst E;exact⟨(⟨[],t,o⟩,1),rfl,s_,s_,λl=>by simp at l⟩
  obtain⟨b,f,rfl⟩:=pN E;have d:cF ar f 0:=h.ok.top f (fI _ _);have s:gA f.fn.code:=h.start f s_
  have N:=vT d.next
  have C:f.fn.code[f.next]?=some (f.fn.code[f.next]'d.next):=H7 d.next
  generalize f.fn.code[f.next]'d.next=i at N C
  obtain⟨Y,W,h3⟩:=DY w h N;by_cases l:(bU p i b { f with next:=f.next+1 } t o).2=0
  rotate_left
  ·refine⟨_,?_,Y,W,λX=>absurd X l⟩
   rw[eQ];simp only[fI,N,fY];rw[if_pos l]
  cases L:i.isBegin;rotate_left
  ·cases i<;>simp[aJ.isBegin] at L
   exact sE w h C
  have e:eQ p (k+1) ⟨b++[f],t,o⟩=eQ p k (bU p i b { f with next:=f.next+1 } t o).1:=by
   rw[eQ];simp only[fI,N,fY];rw[if_neg (by rw[l];simp),L]
   rfl
  rw[e];have A:=h3 l;simp only at H;rw[fG] at H;obtain⟨⟨T,V,hh,hv,he⟩,K,hs,hm⟩:=d;have u:=V.ins _ _ C;by_cases S:i=.give
  ·subst S;refine jC w k _ A ?_;have J:=xH K;rcases N0 b with rfl|⟨U,x,rfl⟩
   ·simp[bU,wgts] at H ⊢;omega
   ·rw[N1] at*;have Z:(bU p .give (U++[x]) { f with next:=f.next+1 } t o).1.f_=U++[x.push (aF.last { f with next:=f.next+1 })]:=by simp[bU]
    rw[Z,fG,GU];rw[fG] at H;omega
  by_cases Q:i=.read
  ·subst Q;cases t with
   |nil=>simp[bU] at l
   |cons a r=>
    refine jC w k _ A ?_;have J:=tP (g:=aF.push { f with next:=f.next+1 } (aL a)) s C rfl rfl (J4 _) u.2.2.1
    show wgts (b++[_])+2<=k
    rw[fG];omega
  by_cases P:i=.print
  ·subst P;refine jC w k _ A ?_;have J:=tP (g:=aF.pop { f with next:=f.next+1 }) s C rfl rfl (J4 _) u.2.2.2.1
   simp only[bU] at l ⊢
   split at l
   ·simp at l
   ·rw[if_neg (by assumption)]
    show wgts (b++[_])+2<=k
    rw[fG];omega
  by_cases F:∃c n,i=.call c n
  ·obtain⟨c,n,rfl⟩:=F;refine jC w k _ A ?_;have J:=GV (g:=aF.popMany { f with next:=f.next+1 } n) s C rfl (J4 _) u.2.2.2.2.1
   simp only[bU] at l ⊢
   split at l
   ·simp at l
   ·rw[if_neg (by assumption)]
    have e1:∀y z:aF,b++[y,z]=(b++[y])++[z]:=s_
    simp only;rw[e1,fG,fG];have:∀c v,gX ⟨c,0,0,[],v,[]⟩=2:=λc v=>rfl
    rw[this];omega
  have G:∀k n,i≠.call k n:=λk n e=>F ⟨k,n,e⟩
  rw[DZ S Q P G] at l A ⊢
  have q:=wP u L S Q P G l;have D:(aP i { f with next:=f.next+1 }).1.fn=f.fn:=inFrame_fn _ _
  generalize aP i { f with next:=f.next+1 }=y at l A q D ⊢
  rcases q with ⟨O,M⟩|⟨O,M⟩
  ·refine jC w k _ A ?_;have J:=tP (g:=y.1) s C L D O M;simp only;rw[fG];omega
  ·have I:y.1.fn.code[y.1.next]?=some (f.fn.code[y.1.next]):=by rw[D];exact H7 M
   have B:=(V.ins _ _ (H7 M)).1;rw[O] at B;have J:=xH K;obtain⟨j,rfl⟩:∃j,k=j+1:=⟨k-1,o_⟩
   generalize f.fn.code[y.1.next]=i' at I B
   cases i'<;>simp[aJ.isBegin] at B
   exact sE w A I
def aX.then{L:Nat->dM->Prop}{c c':List aJ}{g:Nat}{j i:Option Nat}(a:aX ar L p c h v e g v1 j)(b:aX ar L (p+c.length) c' g v1 j d v2 i)
 (n:∀q y,L q y->q<=p\/p+c.length+c'.length<=q):aX ar L p (c++c') h v e d v2 i:=by
 by_cases k:c=[]
 ·subst k;obtain⟨T,t,r,s,l,o,m,f,u⟩:=a;obtain⟨U,u1,u2,u3,u4,u5,u6,u7,u8⟩:=b;simp only[G4,Nat.add_zero] at o m f u2 u3 u4 u5 u6 u7 u8;refine⟨U,u1,o_,o_,?_,u5,u6,u7,u8⟩
  rcases u4 with u4|u4
  ·exact F7 u4
  ·rw[u4,<-f];exact l
 ·exact a.append b n k
def aX.one{L:Nat->dM->Prop}{i:aJ}(m:∀q y z,L q y->L q z->y=z)(k:∀y,L p y->y=⟨h,v,e,i.isBegin⟩)(l:∀y,L (p+1) y->y.h=h'/\y.v=v'/\y.e=e')
 (n:∀T:Nat->dM,T p=⟨h,v,e,i.isBegin⟩->(T (p+1)).h=h'->(T (p+1)).v=v'->(T (p+1)).e=e'->(∀q y,L q y->T q=y)->gD ar (GQ L p (p+1)) T p i):aX ar L p [i] h v e h' v' e':=by
 classical
 let T:Nat->dM:=λq=>if hq:∃y,L q y then hq.choose else if q=p then ⟨h,v,e,i.isBegin⟩ else ⟨h',v',e',false⟩
 have g:∀q y,L q y->T q=y:=λq y b=>by
  have a:∃y,L q y:=⟨y,b⟩;simp only[T,dif_pos a];exact m q _ _ a.choose_spec b
 have f:T p=⟨h,v,e,i.isBegin⟩:=by
  by_cases a:∃y,L p y
  ·obtain⟨y,b⟩:=a;rw[g p y b];exact k y b
  ·simp only[T,dif_neg a];rfl
 have c:(T (p+1)).h=h'/\(T (p+1)).v=v'/\(T (p+1)).e=e':=by
  by_cases a:∃y,L (p+1) y
  ·obtain⟨y,b⟩:=a;rw[g _ y b];exact l y b
  ·have e:T (p+1)=⟨h',v',e',false⟩:=by simp only[T,dif_neg a,if_neg (show ¬p+1=p by omega)]
   rw[e];exact⟨rfl,rfl,rfl⟩
 refine⟨T,g,by rw[f],by rw[f];exact F6 _,by rw[f];exact F5 rfl,c.1,c.2.1,c.2.2,λj x d=>?_⟩
 match j,d with
 |0,d=>
  simp at d;subst d;exact n T f c.1 c.2.1 c.2.2 g
 |j+1,d=>simp at d
structure dR(L:Nat->dM->Prop)(lo hi:Nat):Prop where
 uniq:∀q y z,L q y->L q z->y=z
 out:∀q y,L q y->q<lo\/hi<q
def dR.sub{L:Nat->dM->Prop}{lo lo' hi':Nat}(h:dR L lo a)(d:lo<=lo')(c:hi'<=a):dR L lo' hi':=⟨h.uniq,λq y b=>by have:=h.out q y b;omega⟩
def dW(L:Nat->dM->Prop)(q:Nat)(y:dM):Nat->dM->Prop:=λr z=>L r z\/(r=q/\z=y)
def dW.ok{L:Nat->dM->Prop}{lo c lo' hi':Nat}{y:dM}(h:dR L lo c)(i:lo<=q)(f:q<=c)(j:lo<=lo')(g:hi'<=c)(d:q<lo'\/hi'<q):dR (dW L q y) lo' hi':=by
 refine⟨λr x z a b=>?_,λr x a=>?_⟩
 ·rcases a with a|⟨rfl,rfl⟩<;>rcases b with b|⟨e,rfl⟩
  ·exact h.uniq _ _ _ a b
  ·have:=h.out _ _ a;omega
  ·have:=h.out _ _ b;omega
  ·rfl
 ·rcases a with a|⟨rfl,rfl⟩
  ·have:=h.out _ _ a;omega
  ·exact d
def aX.close{L:Nat->dM->Prop}{c:List aJ}{y:dM}(s:aX ar (dW L q y) p c h v e h' v' e')(o:p<=q)(f:q<=p+c.length):aX ar L p c h v e h' v' e':=by
 obtain⟨T,u,b,d,g,x,m,l,w⟩:=s;refine⟨T,λq y n=>u q y (F7 n),b,d,g,x,m,l,λj i A=>(w j i A).same rfl (λr a=>⟨?_,rfl,F6 _,F5 rfl⟩) (λ_ _ _ k=>k)⟩
 rcases a with a|⟨z,t|⟨rfl,rfl⟩⟩
 ·exact F7 a
 ·exact F5 ⟨z,t⟩
 ·exact F7 ⟨o,f⟩
def fW{L:Nat->dM->Prop}:GQ L p (p+1) (p+1):=F7 ⟨o_,o_⟩
def aX.plain{L:Nat->dM->Prop}{i:aJ}(b:dR L p (p+1))(g:i.isBegin=false)(j:h<=p)
 (l:∀(D:Nat->Prop) (T:Nat->dM),(T p).h=h->(T p).v=v->dT D T (p+1) h' (T p).v (T p).e->(T p).b=false->(T p).h<=p->gD ar D T p i):aX ar L p [i] h v e h' v e:=
 aX.one b.uniq (λy c=>absurd (b.out _ _ c) o_) (λy c=>absurd (b.out _ _ c) o_) λT a k d f _=>
  l _ T (by rw[a]) (by rw[a]) ⟨fW,k,by rw[d,a];exact F6 _,by rw[f,a];exact F5 rfl⟩ (by rw[a];exact g) (by rw[a];exact j)
def fA(fs:List aC)(k:Nat):Option Nat:=fs[k]?.map λf=>f.y_.length-1
def ExOk(fs:List aC)(a_:Bool)(e_:List (List UInt8)):Nat->aC->Prop
 |0,_=>False
 |d+1,a=>
  ((a.op=[48]\/a.op=[115]\/a.op=[98,111,111,108])/\a.y_=[])\/
  (a.op=[110,97,109,101]/\a.y_=[]/\a.x_∈e_)\/
  (a.op=[108,105,115,116]/\∀k∈a.y_,ExOk fs a_ e_ d k)\/
  (a.op=[105,110,100,101,120]/\∃l r,a.y_=[l,r]/\ExOk fs a_ e_ d l/\ExOk fs a_ e_ d r)\/
  ((a.op=[45,120]\/a.op=[33,120])/\∃l,a.y_=[l]/\ExOk fs a_ e_ d l)\/
  (a.op=[99,97,108,108]/\(∀k∈a.y_,ExOk fs a_ e_ d k)/\
    ((a.x_=[108,101,110]/\a.y_.length=1)\/(a.x_=[114,101,97,100]/\a_=false/\a.y_.length=0)\/
     (a.x_≠[108,101,110]/\a.x_≠[114,101,97,100]/\a_=false/\fA fs (dJ fs a.x_)=some a.y_.length)))\/
  (bF a.op≠9/\∃l r,a.y_=[l,r]/\ExOk fs a_ e_ d l/\ExOk fs a_ e_ d r)
def pE:∀{e_:List (List UInt8)} {x:List UInt8},x∈e_->eG e_ x<e_.length
 |y::l,x,h=>by
  unfold eG;split
  ·simp
  ·rename_i a;rcases G9.1 h with rfl|h
   ·exact absurd rfl a
   ·have:=pE h;simp;omega
def kV{op:List UInt8}(h:bF op≠9):op=[124,124]\/op=[38,38]\/op=[61,61]\/op=[33,61]\/op=[60]\/op=[60,61]\/op=[43]\/op=[45]\/op=[42]\/op=[47]\/op=[37]:=by
 unfold bF at h;repeat' split at h
 all_goals simp_all
 all_goals grind
def LA(fs:List aC)(a_:Bool)(e_:List (List UInt8))(d:Nat):Prop:=
 ∀(a:aC) (L:Nat->dM->Prop) (p h v:Nat) (e:Option Nat),ExOk fs a_ e_ d a->e_.length<=v->h<=p->dR L p (p+(aG fs e_ d a p).length)->
  aX (fA fs) L p (aG fs e_ d a p) h v e (h+1) v e/\1<=(aG fs e_ d a p).length
def pF{fs:List aC}{a_:Bool}(IH:LA fs a_ e_ d):∀(l:List aC) (L:Nat->dM->Prop) (p h v:Nat) (e:Option Nat),(∀a∈l,ExOk fs a_ e_ d a)->e_.length<=v->h<=p->dR L p (p+(bQ (aG fs e_ d) l p).length)->
 aX (fA fs) L p (bQ (aG fs e_ d) l p) h v e (h+l.length) v e/\l.length<=(bQ (aG fs e_ d) l p).length
 |[],L,p,h,v,e,_,_,_,b=>⟨aX.nil _ _ _ _ _ _ (λq y c s=>absurd (b.out q y c) (by simp[bQ];omega)) b.uniq,s_⟩
 |a::l,L,p,h,v,e,f,g,m,b=>by
  simp only[bQ,F8] at b ⊢
  obtain⟨k,j⟩:=IH a L p h v e (f a (K8 ..)) g m (b.sub (F6 _) o_)
  obtain⟨i,n⟩:=pF IH l L (p+(aG fs e_ d a p).length) (h+1) v e (λx o=>f x (L6 _ o)) g o_ (b.sub o_ o_)
  refine⟨?_,by simp only[G1];omega⟩
  have r:h+(a::l).length=h+1+l.length:=by simp only[G1];omega
  rw[r];exact k.then i λq y c=>by have:=b.out q y c;omega
def aX.snoc{L:Nat->dM->Prop}{c:List aJ}{i:aJ}{f:Nat}{j:Option Nat}(a:aX ar L p c h v e f v e)(g:dR L p (p+(c++[i]).length))(b:dR L (p+c.length) (p+c.length+1)->aX ar L (p+c.length) [i] f v e d v2 j):aX ar L p (c++[i]) h v e d v2 j:=by
 have l:(c++[i]).length=c.length+1:=s_
 refine a.then (b (g.sub o_ o_)) λq y k=>?_
 have:=g.out q y k;simp only[G1,G4];omega
def nJ(fs:List aC)(a_:Bool)(e_:List (List UInt8)):∀d,LA fs a_ e_ d
 |0,_,_,_,_,_,_,h,_,_,_=>h.elim
 |d+1,a,L,p,h,v,e,ha,hv,g,z=>by
  have X:=nJ fs a_ e_ d
  have M:∀l r:aC,a.y_=[l,r]->ExOk fs a_ e_ d l->ExOk fs a_ e_ d r->∀k∈a.y_,ExOk fs a_ e_ d k:=λl r m U h2 k C=>by
   rw[m] at C;rcases G9.1 C with rfl|C
   ·exact U
   ·rw[G5.1 C];exact h2
  have j:∀i:aJ,i.isBegin=false->aG fs e_ (d+1) a p=bQ (aG fs e_ d) a.y_ p++[i]->(∀k∈a.y_,ExOk fs a_ e_ d k)->
   (∀(s:Nat) (D:Nat->Prop) (T:Nat->dM),(T s).h=h+a.y_.length->(T s).v=v->dT D T (s+1) (h+1) (T s).v (T s).e->(T s).b=false->(T s).h<=s->gD (fA fs) D T s i)->
   aX (fA fs) L p (aG fs e_ (d+1) a p) h v e (h+1) v e/\1<=(aG fs e_ (d+1) a p).length:=λi hb A m hi=>by
   rw[A] at z ⊢
   obtain⟨U,h2⟩:=pF X a.y_ L p h v e m hv g (z.sub (F6 _) s_)
   exact⟨aX.snoc U z λE=>aX.plain E hb o_ (hi _),s_⟩
  rcases ha with ⟨n|n|n,m⟩|⟨n,m,hx⟩|⟨n,m⟩|⟨n,l,r,m,E,P⟩|⟨n|n,l,m,E⟩|⟨n,m,A⟩|⟨n,l,r,m,E,P⟩
  ·have A:aG fs e_ (d+1) a p=[.push (aL (((bW 0 a.x_).getD 0:Nat):Int))]:=by rw[aG];simp[n]
   rw[A] at z ⊢
   exact⟨aX.plain z rfl g λD T c w f b g=>⟨b,g,by rw[c];exact f⟩,s_⟩
  ·have A:aG fs e_ (d+1) a p=[.push (bI a.x_)]:=by rw[aG];simp[n]
   rw[A] at z ⊢
   exact⟨aX.plain z rfl g λD T c w f b g=>⟨b,g,by rw[c];exact f⟩,s_⟩
  ·have A:aG fs e_ (d+1) a p=[.push (bK (a.x_==[116,114,117,101]))]:=by rw[aG];simp[n]
   rw[A] at z ⊢
   exact⟨aX.plain z rfl g λD T c w f b g=>⟨b,g,by rw[c];exact f⟩,s_⟩
  ·have A:aG fs e_ (d+1) a p=[.load (eG e_ a.x_)]:=by rw[aG];simp[n]
   rw[A] at z ⊢
   exact⟨aX.plain z rfl g λD T c w f b g=>⟨b,g,by rw[w];have:=pE hx;omega,by rw[c];exact f⟩,s_⟩
  ·refine j (.list a.y_.length) rfl (by rw[aG];simp[n]) m λs D T c w f b g=>⟨b,g,o_,?_⟩
   have:(T s).h-a.y_.length+1=h+1:=o_
   rw[this];exact f
  ·refine j .index rfl (by rw[aG];simp[n]) (M l r m E P) λs D T c w f b g=>?_
   rw[m] at c;simp only[G1,G4] at c;refine⟨b,g,o_,?_⟩
   have:(T s).h-1=h+1:=o_
   rw[this];exact f
  ·refine j (.unary [45]) rfl (by rw[aG];simp[n]) (by rw[m];simpa using E) λs D T c w f b g=>?_
   rw[m] at c;simp only[G1,G4] at c;exact⟨b,g,o_,by rw[c];exact f⟩
  ·refine j (.unary [33]) rfl (by rw[aG];simp[n]) (by rw[m];simpa using E) λs D T c w f b g=>?_
   rw[m] at c;simp only[G1,G4] at c;exact⟨b,g,o_,by rw[c];exact f⟩
  ·rcases A with ⟨S,J⟩|⟨S,_,J⟩|⟨V,Y,_,J⟩
   ·refine j .length rfl (by rw[aG];simp[n,S]) m λs D T c w f b g=>⟨b,g,o_,?_⟩
    rw[c,J];exact f
   ·refine j .read rfl (by rw[aG];simp[n,S]) m λs D T c w f b g=>⟨b,g,?_⟩
    rw[c,J];exact f
   ·refine j (.call (dJ fs a.x_) a.y_.length) rfl (by rw[aG];simp[n,V,Y]) m λs D T c w f b g=>⟨b,g,o_,J,?_⟩
    have:(T s).h-a.y_.length+1=h+1:=o_
    rw[this];exact f
  ·by_cases N:a.op=[38,38]\/a.op=[124,124]
   rotate_left
   ·have W:aG fs e_ (d+1) a p=bQ (aG fs e_ d) a.y_ p++[.binary a.op]:=by
     rw[aG];rcases kV n with h|h|h|h|h|h|h|h|h|h|h<;>simp[h] at N ⊢
    refine j (.binary a.op) rfl W (M l r m E P) λs D T c w f b g=>?_
    rw[m] at c;simp only[G1,G4] at c;refine⟨b,g,o_,?_⟩
    have:(T s).h-1=h+1:=o_
    rw[this];exact f
   ·have A:aG fs e_ (d+1) a p=aG fs e_ d l p++[.shortcut (a.op==[124,124]) (p+(aG fs e_ d l p).length+1+(aG fs e_ d r (p+(aG fs e_ d l p).length+1)).length+1)]++aG fs e_ d r (p+(aG fs e_ d l p).length+1)++[.truth]:=by
     rw[aG];rcases N with h|h<;>simp[h,m]
    generalize O:aG fs e_ d l p=o at A;generalize K:aG fs e_ d r (p+o.length+1)=t at A;rw[A] at z ⊢
    have G:(o++[aJ.shortcut (a.op==[124,124]) (p+o.length+1+t.length+1)]++t++[aJ.truth]).length=o.length+1+t.length+1:=by simp only[F8,G1,G4]
    rw[G] at z;refine⟨aX.close (q:=p+o.length+1+t.length+1) (y:=⟨h+1,v,e,false⟩) ?_ o_ (by rw[G];omega),o_⟩
    have u:dR (dW L (p+o.length+1+t.length+1) ⟨h+1,v,e,false⟩) p (p+o.length+1+t.length):=dW.ok z o_ o_ (F6 _) o_ o_
    obtain⟨s1,l1⟩:=X l (dW L (p+o.length+1+t.length+1) ⟨h+1,v,e,false⟩) p h v e E hv g (by rw[O];exact u.sub (F6 _) o_)
    rw[O] at s1 l1;obtain⟨s3,l3⟩:=X r (dW L (p+o.length+1+t.length+1) ⟨h+1,v,e,false⟩) (p+o.length+1) h v e P hv o_ (by rw[K];exact u.sub o_ o_)
    rw[K] at s3 l3
    have s2:aX (fA fs) (dW L (p+o.length+1+t.length+1) ⟨h+1,v,e,false⟩) (p+o.length) [.shortcut (a.op==[124,124]) (p+o.length+1+t.length+1)] (h+1) v e h v e:=by
     refine aX.one u.uniq (λy F=>absurd (u.out _ _ F) o_) (λy F=>absurd (u.out _ _ F) o_) λT x c w Q t4=>?_
     refine⟨by rw[x],by rw[x];show h+1<=_;omega,by rw[x];show 1<=h+1;omega,o_,?_,fW,by rw[c,x];rfl,by rw[w,x];exact F6 _,by rw[Q,x];exact F5 rfl⟩
     have:=t4 (p+o.length+1+t.length+1) ⟨h+1,v,e,false⟩ (F5 ⟨rfl,rfl⟩);exact⟨F5 ⟨_,F5 ⟨rfl,rfl⟩⟩,by rw[this,x],by rw[this,x];exact F6 _,by rw[this,x];exact F5 rfl⟩
    have s4:aX (fA fs) (dW L (p+o.length+1+t.length+1) ⟨h+1,v,e,false⟩) (p+o.length+1+t.length) [.truth] (h+1) v e (h+1) v e:=by
     refine aX.one u.uniq (λy F=>absurd (u.out _ _ F) o_) (λy F=>?_) λT x c w Q t4=>⟨by rw[x],by rw[x];show h+1<=_;omega,by rw[x];show 1<=h+1;omega,fW,by rw[c,x],by rw[w,x];exact F6 _,by rw[Q,x];exact F5 rfl⟩
     rcases F with F|⟨_,rfl⟩
     ·exact absurd (z.out _ _ F) o_
     ·exact⟨rfl,rfl,rfl⟩
    have B:∀q y,dW L (p+o.length+1+t.length+1) ⟨h+1,v,e,false⟩ q y->q<=p\/p+o.length+1+t.length+1<=q:=λq y H=>by have:=u.out q y H;omega
    have Z:=s1.then s2 λq y H=>by have:=B q y H;simp only[G1,G4];omega
    have I:=Z.then (c':=t) (by rw[F8];exact s3) λq y H=>by have:=B q y H;simp only[F8,G1,G4];omega
    exact I.then (c':=[.truth]) (by rw[show p+(o++[aJ.shortcut (a.op==[124,124]) (p+o.length+1+t.length+1)]++t).length=p+o.length+1+t.length by simp only[F8,G1,G4];omega];exact s4) λq y H=>by have:=B q y H;simp only[F8,G1,G4];omega
def aX.entry{L:Nat->dM->Prop}{c:List aJ}{b:Nat}(s:aX ar L p c h v none h' v' e')(j:v<=b):aX ar L p c h b e h' v' e':=by
 obtain⟨T,f,d,i,a,g⟩:=s;exact⟨T,f,d,o_,F7 (by rcases a with a|a<;>exact a),g⟩
def aX.exit{L:Nat->dM->Prop}{c:List aJ}(s:aX ar L p c h v e h' v' e')(F:a<=v')(b:Bool)(C:∀y,¬L (p+c.length) y):aX ar (dW L (p+c.length) ⟨h',a,none,b⟩) p c h v e h' a none:=by
 obtain⟨T,z,o,r,t,l,w,E,B⟩:=s;refine⟨λq=>if q=p+c.length then ⟨h',a,none,b⟩ else T q,λq y d=>?_,?_,?_,?_,by simp only[if_pos],by simp only[if_pos],by simp only[if_pos],λj i m=>?_⟩
 ·rcases d with d|⟨rfl,rfl⟩
  ·have f:q≠p+c.length:=λe=>C y (by rw[<-e];exact d)
   simp only[if_neg f];exact z q y d
  ·simp only[if_pos]
 ·simp only;split
  ·rename_i g;rw[<-g] at l;simp only;omega
  ·exact o
 ·simp only;split
  ·rename_i g;rw[<-g] at w;simp only;omega
  ·exact r
 ·simp only;split
  ·exact F7 rfl
  ·exact t
 ·have x:j<c.length:=(K6.1 m).1;refine(B j i m).same (by rw[if_neg o_]) (λq d=>?_) (λq d D u=>by rw[if_neg o_];exact u)
  have n:GQ (dW L (p+c.length) ⟨h',a,none,b⟩) p (p+c.length) q:=d.imp id λ⟨y,A⟩=>⟨y,F7 A⟩
  refine⟨n,?_⟩;split
  ·rename_i k;rw[k];exact⟨l.symm,by simp only;omega,F7 rfl⟩
  ·exact⟨rfl,F6 _,F5 rfl⟩
def cO(e_:List (List UInt8))(a:aC):List (List UInt8):=if a.op=[118,97,114] then (a.y_.head?.map (·.x_)).toList++e_ else e_
def StsOk(S:List (List UInt8)->aC->Prop):List (List UInt8)->List aC->Prop
 |_,[]=>True
 |e_,a::l=>S e_ a/\StsOk S (cO e_ a) l
def gB(fs:List aC):Nat->List (List UInt8)->aC->Prop
 |0,_,_=>False
 |d+1,e_,a=>
  (a.op=[118,97,114]/\e_.length<=90000/\∃t v,a.y_=[t,v]/\ExOk fs false e_ d v/\t.x_∉e_)\/
  (a.op=[115,101,116]/\a.x_∈e_/\a.y_≠[]/\∀k∈a.y_,ExOk fs false e_ d k)\/
  (a.op=[105,102]/\∃c t,(a.y_=[c,t]\/∃x,a.y_=[c,t,x]/\StsOk (gB fs d) e_ x.y_)/\ExOk fs false e_ d c/\StsOk (gB fs d) e_ t.y_)\/
  (a.op=[119,104,105,108,101]/\∃c b,a.y_=[c,b]/\ExOk fs false e_ d c/\StsOk (gB fs d) e_ b.y_)\/
  (a.op=[114,101,116,117,114,110]/\(a.y_=[]\/∃v,a.y_=[v]/\ExOk fs false e_ d v))\/
  (a.op=[112,114,105,110,116]/\∃v,a.y_=[v]/\ExOk fs false e_ d v)\/
  (a.op=[100,111]/\∃c,a.y_=[c]/\ExOk fs false e_ d c)
def KX(fs:List aC)(d:Nat):Prop:=
 ∀(e_:List (List UInt8)) (a:aC) (L:Nat->dM->Prop) (p:Nat),gB fs d e_ a->dR L p (p+(bP fs d e_ a p).1.length)->
  aX (fA fs) L p (bP fs d e_ a p).1 0 e_.length none 0 (cO e_ a).length none/\(bP fs d e_ a p).2=cO e_ a/\∃r,(bP fs d e_ a p).1=.begin a.l_ e_::r
def IQ(e_:List (List UInt8))(a:aC):e_.length<=(cO e_ a).length:=by unfold cO;split<;>simp
def dB:List (List UInt8)->List aC->List (List UInt8)
 |e_,[]=>e_
 |e_,a::l=>dB (cO e_ a) l
def jK:∀(l:List aC) (e_:List (List UInt8)),e_.length<=(dB e_ l).length
 |[],_=>F6 _
 |a::l,e_=>G6 (IQ e_ a) (jK l _)
def jP{fs:List aC}(IH:KX fs d):∀(l:List aC) (e_:List (List UInt8)) (L:Nat->dM->Prop) (p:Nat),StsOk (gB fs d) e_ l->dR L p (p+(cB (bP fs d) e_ l p).length)->
 aX (fA fs) L p (cB (bP fs d) e_ l p) 0 e_.length none 0 (dB e_ l).length none
 |[],e_,L,p,_,b=>aX.nil _ _ _ _ _ _ (λq y c i=>absurd (b.out q y c) (by simp[cB];omega)) b.uniq
 |a::l,e_,L,p,h,b=>by
  simp only[cB,F8] at b ⊢
  obtain⟨f,e,_⟩:=IH e_ a L p h.1 (b.sub (F6 _) o_)
  rw[e] at b ⊢
  have g:=jP IH l (cO e_ a) L (p+(bP fs d e_ a p).1.length) h.2 (b.sub o_ o_)
  exact f.then g λq y c=>by have:=b.out q y c;omega
def aX.begins{L:Nat->dM->Prop}{l:Nat}(g:∀q y z,L q y->L q z->y=z)(h:∀y,L p y->y=⟨0,e_.length,none,true⟩)(f:∀y,¬L (p+1) y):aX ar L p [.begin l e_] 0 e_.length none 0 e_.length (some e_.length):=
 aX.one g h (λy e=>absurd e (f y)) λT a d b c _=>⟨by rw[a],by rw[a];exact K5 _,by rw[a];exact F6 _,fW,by rw[d,a],by rw[b,a];exact F6 _,by rw[c];exact F5 rfl⟩
def nH(i j:aJ)(c:List aJ):(i::c++[j]).length=c.length+2:=s_
def aX.stmt{L:Nat->dM->Prop}{l:Nat}{c:List aJ}{i:aJ}(a:dR L p (p+(aJ.begin l e_::c++[i]).length))
 (j:aX ar L (p+1) c 0 e_.length (some e_.length) n e_.length (some e_.length)) (g:dR L (p+1+c.length) (p+1+c.length+1)->aX ar L (p+1+c.length) [i] n e_.length (some e_.length) 0 v' none):
 aX ar L p (aJ.begin l e_::c++[i]) 0 e_.length none 0 v' none:=by
 rw[nH] at a;have f:aX ar L p [.begin l e_] 0 e_.length none 0 e_.length (some e_.length):=aX.begins a.uniq (λy d=>absurd (a.out _ _ d) o_) (λy d=>absurd (a.out _ _ d) o_)
 have e:=f.then (c':=c) j λq y b=>by have:=a.out q y b;simp only[G1,G4];omega
 have h:=e.then (c':=[i]) (by rw[show p+([aJ.begin l e_]++c).length=p+1+c.length by simp only[F8,G1,G4];omega];exact g (a.sub o_ o_)) λq y b=>by have:=a.out q y b;simp only[F8,G1,G4];omega
 exact h
def aX.last{L:Nat->dM->Prop}{i:aJ}(a:dR L p (p+1))(g:i.isBegin=false)(h:n<=p)
 (k:∀(D:Nat->Prop) (T:Nat->dM),T p=⟨n,v,e,false⟩->D (p+1)->(T (p+1)).h=0->(T (p+1)).v=v'->(T (p+1)).e=none->(T p).h<=p->gD ar D T p i):aX ar L p [i] n v e 0 v' none:=
 aX.one a.uniq (λy b=>absurd (a.out _ _ b) o_) (λy b=>absurd (a.out _ _ b) o_) λT c j d f _=>k _ T (by rw[c,g]) fW j d f (by rw[c];exact h)
def iG{fs:List aC}{a:aC}{L:Nat->dM->Prop}(b:ExOk fs false e_ d a)(f:0<p)(c:dR L p (p+(aG fs e_ d a p).length)):
 aX (fA fs) L p (aG fs e_ d a p) 0 e_.length e 1 e_.length e/\1<=(aG fs e_ d a p).length:=nJ fs false e_ d a L p 0 e_.length e b (F6 _) o_ c
def dR.none{L:Nat->dM->Prop}{lo:Nat}(h:dR L lo a)(d:lo<=q)(c:q<=a)(y:dM):¬L q y:=λb=>by have:=h.out q y b;omega
def aX.ifs{L:Nat->dM->Prop}{l:Nat}{b e m:List aJ}
 (t:dR L p (p+1+b.length+1+e.length+1+m.length))
 (I:∀g,dR g (p+1) (p+1+b.length)->aX ar g (p+1) b 0 e_.length (some e_.length) 1 e_.length (some e_.length))
 (E:∀g,dR g (p+1+b.length+1) (p+1+b.length+1+e.length)->aX ar g (p+1+b.length+1) e 0 e_.length none 0 v1 none) (G:e_.length<=v1)
 (K:∀g,dR g (p+1+b.length+1+e.length+1) (p+1+b.length+1+e.length+1+m.length)->aX ar g (p+1+b.length+1+e.length+1) m 0 e_.length none 0 v2 none) (J:e_.length<=v2):
 aX ar L p (aJ.begin l e_::b++[.skip (p+1+b.length+1+e.length+1)]++e++[.jump (p+1+b.length+1+e.length+1+m.length)]++m) 0 e_.length none 0 e_.length none:=by
 generalize F:p+1+b.length+1+e.length+1=q at*;generalize H:q+m.length=r at*;have j:dR (dW L r ⟨0,e_.length,none,false⟩) p (r-1):=dW.ok t o_ (F6 _) (F6 _) o_ o_
 have k:aX ar (dW L r ⟨0,e_.length,none,false⟩) p (aJ.begin l e_::b++[aJ.skip q]++e++[aJ.jump r]) 0 e_.length none 0 e_.length none:=by
  have h:p+(aJ.begin l e_::b++[aJ.skip q]++e++[aJ.jump r]).length=q:=by simp only[F8,G1,G4];omega
  rcases M3 (show q<=r by omega) with s|s
  ·-- there is no else:one label
   subst s;have c:dR (dW L q ⟨0,e_.length,none,false⟩) p (q-1):=j;have A:=aX.begins (ar:=ar) (l:=l) (p:=p) (e_:=e_) c.uniq (λy a=>absurd (c.out _ _ a) o_) (λy a=>absurd (c.out _ _ a) o_)
   have w:=A.then (c':=b) (I _ (c.sub o_ o_)) λx y f=>by have:=c.out x y f;simp only[G1,G4];omega
   have z:p+([aJ.begin l e_]++b).length=p+1+b.length:=by simp only[F8,G1,G4];omega
   have B:=w.then (c':=[aJ.skip q]) (by
    rw[z];refine aX.one (h':=0) (v':=e_.length) (e':=some e_.length) c.uniq (λy a=>absurd (c.out _ _ a) o_) (λy a=>absurd (c.out _ _ a) o_) λT d u n o i=>?_
    have a:=i q ⟨0,e_.length,none,false⟩ (F5 ⟨rfl,rfl⟩);exact⟨by rw[d],by rw[d];show 1<=_;omega,by rw[d];exact F6 _,o_,⟨F5 ⟨_,F5 ⟨rfl,rfl⟩⟩,by rw[a,d];rfl,by rw[a,d];exact F6 _,by rw[a];exact F7 rfl⟩,fW,by rw[u,d];rfl,by rw[n,d];exact F6 _,by rw[o,d];exact F5 rfl⟩)
    λx y f=>by have:=c.out x y f;simp only[F8,G1,G4];omega
   have C:p+([aJ.begin l e_]++b++[aJ.skip q]).length=p+1+b.length+1:=by simp only[F8,G1,G4];omega
   have v:=B.then (c':=e) (by rw[C];exact(E _ (c.sub o_ o_)).entry (F6 _)) λx y f=>by have:=c.out x y f;simp only[F8,G1,G4];omega
   have D:p+([aJ.begin l e_]++b++[aJ.skip q]++e).length=p+1+b.length+1+e.length:=by simp only[F8,G1,G4];omega
   exact v.then (c':=[aJ.jump q]) (by
    rw[D];refine aX.one c.uniq (λy a=>absurd (c.out _ _ a) o_) (λy a=>?_) λT d u n o i=>?_
    ·rw[show p+1+b.length+1+e.length+1=q from F] at a
     rcases a with a|⟨_,rfl⟩
     ·exact absurd a (t.none o_ o_ y)
     ·exact⟨rfl,rfl,rfl⟩
    ·have a:=i q ⟨0,e_.length,none,false⟩ (F5 ⟨rfl,rfl⟩);exact⟨by rw[d],by rw[d];exact K5 _,F7 o_,F5 ⟨_,F5 ⟨rfl,rfl⟩⟩,by rw[a,d],by rw[a,d];exact G,by rw[a];exact F7 rfl⟩)
    λx y f=>by have:=c.out x y f;simp only[F8,G1,G4];omega
  ·refine aX.close (q:=q) (y:=⟨0,e_.length,none,false⟩) ?_ o_ o_
   have c:dR (dW (dW L r ⟨0,e_.length,none,false⟩) q ⟨0,e_.length,none,false⟩) p (q-1):=dW.ok j o_ o_ (F6 _) o_ o_
   have A:=aX.begins (ar:=ar) (l:=l) (p:=p) (e_:=e_) c.uniq (λy a=>absurd (c.out _ _ a) o_) (λy a=>absurd (c.out _ _ a) o_)
   have w:=A.then (c':=b) (I _ (c.sub o_ o_)) λx y f=>by have:=c.out x y f;simp only[G1,G4];omega
   have z:p+([aJ.begin l e_]++b).length=p+1+b.length:=by simp only[F8,G1,G4];omega
   have B:=w.then (c':=[aJ.skip q]) (by
    rw[z];refine aX.one (h':=0) (v':=e_.length) (e':=some e_.length) c.uniq (λy a=>absurd (c.out _ _ a) o_) (λy a=>absurd (c.out _ _ a) o_) λT d u n o i=>?_
    have a:=i q ⟨0,e_.length,none,false⟩ (F5 ⟨rfl,rfl⟩);exact⟨by rw[d],by rw[d];show 1<=_;omega,by rw[d];exact F6 _,o_,⟨F5 ⟨_,F5 ⟨rfl,rfl⟩⟩,by rw[a,d];rfl,by rw[a,d];exact F6 _,by rw[a];exact F7 rfl⟩,fW,by rw[u,d];rfl,by rw[n,d];exact F6 _,by rw[o,d];exact F5 rfl⟩)
    λx y f=>by have:=c.out x y f;simp only[F8,G1,G4];omega
   have C:p+([aJ.begin l e_]++b++[aJ.skip q]).length=p+1+b.length+1:=by simp only[F8,G1,G4];omega
   have v:=B.then (c':=e) (by rw[C];exact(E _ (c.sub o_ o_)).entry (F6 _)) λx y f=>by have:=c.out x y f;simp only[F8,G1,G4];omega
   have D:p+([aJ.begin l e_]++b++[aJ.skip q]++e).length=p+1+b.length+1+e.length:=by simp only[F8,G1,G4];omega
   exact v.then (c':=[aJ.jump r]) (by
    rw[D];refine aX.one c.uniq (λy a=>absurd (c.out _ _ a) o_) (λy a=>?_) λT d u n o i=>?_
    ·rw[show p+1+b.length+1+e.length+1=q from F] at a
     rcases a with (a|⟨a,_⟩)|⟨_,rfl⟩
     ·exact absurd a (t.none o_ o_ y)
     ·omega
     ·exact⟨rfl,rfl,rfl⟩
    ·have a:=i r ⟨0,e_.length,none,false⟩ (F7 (F5 ⟨rfl,rfl⟩));exact⟨by rw[d],by rw[d];exact K5 _,F7 o_,F5 ⟨_,F7 (F5 ⟨rfl,rfl⟩)⟩,by rw[a,d],by rw[a,d];exact G,by rw[a];exact F7 rfl⟩)
    λx y f=>by have:=c.out x y f;simp only[F8,G1,G4];omega
 have h:p+(aJ.begin l e_::b++[aJ.skip q]++e++[aJ.jump r]).length=q:=by simp only[F8,G1,G4];omega
 refine aX.close (q:=r) (y:=⟨0,e_.length,none,false⟩) ?_ o_ (by rw[F8];omega)
 refine k.then (c':=m) ?_ λx y f=>by have:=j.out x y f;omega
 rw[h];have:=(K L (t.sub o_ o_)).exit J false (by rw[H];exact t.none o_ (F6 _))
 rw[H] at this;exact this
def aX.whiles{L:Nat->dM->Prop}{l:Nat}{b cb:List aJ}
 (i:dR L p (p+1+b.length+1+cb.length+1))
 (C:∀f,dR f (p+1) (p+1+b.length)->aX ar f (p+1) b 0 e_.length (some e_.length) 1 e_.length (some e_.length))
 (r:∀f,dR f (p+1+b.length+1) (p+1+b.length+1+cb.length)->aX ar f (p+1+b.length+1) cb 0 e_.length none 0 v1 none) (u:e_.length<=v1):
 aX ar L p (aJ.begin l e_::b++[.skip (p+1+b.length+1+cb.length+1)]++cb++[aJ.jump p]) 0 e_.length none 0 e_.length none:=by
 generalize s:p+1+b.length+1+cb.length+1=q at*;have m:p+(aJ.begin l e_::b++[aJ.skip q]++cb++[aJ.jump p]).length=q:=by simp only[F8,G1,G4];omega
 refine aX.close (q:=p) (y:=⟨0,e_.length,none,true⟩) (aX.close (q:=q) (y:=⟨0,e_.length,none,false⟩) ?_ o_ o_) o_ o_
 have h:dR (dW L p ⟨0,e_.length,none,true⟩) (p+1) q:=dW.ok i (F6 _) o_ o_ (F6 _) o_
 have d:dR (dW (dW L p ⟨0,e_.length,none,true⟩) q ⟨0,e_.length,none,false⟩) (p+1) (q-1):=dW.ok h o_ (F6 _) (F6 _) o_ o_
 have w:=aX.begins (ar:=ar) (l:=l) (p:=p) (e_:=e_) d.uniq (λy a=>by
  rcases a with (a|⟨_,rfl⟩)|⟨a,_⟩
  ·exact absurd a (i.none o_ o_ y)
  ·rfl
  ·omega) (λy a=>absurd (d.out _ _ a) o_)
 have t:=w.then (c':=b) (C _ (d.sub o_ o_)) λx y e=>by have:=d.out x y e;simp only[G1,G4];omega
 have v:p+([aJ.begin l e_]++b).length=p+1+b.length:=by simp only[F8,G1,G4];omega
 have z:=t.then (c':=[aJ.skip q]) (by
  rw[v];refine aX.one (h':=0) (v':=e_.length) (e':=some e_.length) d.uniq (λy a=>absurd (d.out _ _ a) o_) (λy a=>absurd (d.out _ _ a) o_) λT c n j k g=>?_
  have a:=g q ⟨0,e_.length,none,false⟩ (F5 ⟨rfl,rfl⟩);exact⟨by rw[c],by rw[c];show 1<=_;omega,by rw[c];exact F6 _,o_,⟨F5 ⟨_,F5 ⟨rfl,rfl⟩⟩,by rw[a,c];rfl,by rw[a,c];exact F6 _,by rw[a];exact F7 rfl⟩,fW,by rw[n,c];rfl,by rw[j,c];exact F6 _,by rw[k,c];exact F5 rfl⟩)
  λx y e=>by have:=d.out x y e;simp only[F8,G1,G4];omega
 have A:p+([aJ.begin l e_]++b++[aJ.skip q]).length=p+1+b.length+1:=by simp only[F8,G1,G4];omega
 have o:=z.then (c':=cb) (by rw[A];exact(r _ (d.sub o_ o_)).entry (F6 _)) λx y e=>by have:=d.out x y e;simp only[F8,G1,G4];omega
 have B:p+([aJ.begin l e_]++b++[aJ.skip q]++cb).length=p+1+b.length+1+cb.length:=by simp only[F8,G1,G4];omega
 exact o.then (c':=[aJ.jump p]) (by
  rw[B];refine aX.one d.uniq (λy a=>absurd (d.out _ _ a) o_) (λy a=>?_) λT c n j k g=>?_
  ·rw[show p+1+b.length+1+cb.length+1=q from s] at a
   rcases a with (a|⟨a,_⟩)|⟨_,rfl⟩
   ·exact absurd a (i.none o_ o_ y)
   ·omega
   ·exact⟨rfl,rfl,rfl⟩
  ·have a:=g p ⟨0,e_.length,none,true⟩ (F7 (F5 ⟨rfl,rfl⟩));exact⟨by rw[c],by rw[c];exact K5 _,F5 (by rw[a]),F5 ⟨_,F7 (F5 ⟨rfl,rfl⟩)⟩,by rw[a,c],by rw[a,c];exact u,by rw[a];exact F7 rfl⟩)
  λx y e=>by have:=d.out x y e;simp only[F8,G1,G4];omega
def kS(fs:List aC):∀d,KX fs d
 |0,_,_,_,_,h,_=>h.elim
 |d+1,g,a,L,p,Y,i=>by
  have N:=kS fs d;rcases Y with ⟨k,K,t,v,l,F,_⟩|⟨k,P,J,l⟩|⟨k,c,t,l,S,V⟩|⟨k,c,b,l,S,K⟩|⟨k,l|⟨v,l,F⟩⟩|⟨k,v,l,F⟩|⟨k,v,l,F⟩
  ·have o:bP fs (d+1) g a p=(aJ.begin a.l_ g::aG fs g d v (p+1)++[aJ.declare g.length],t.x_::g):=by rw[bP];simp[k,l]
   have r:cO g a=t.x_::g:=by unfold cO;rw[if_pos k,l];rfl
   rw[o] at i ⊢
   rw[r];simp only at i ⊢
   obtain⟨B,I⟩:=iG (L:=L) (p:=p+1) (e:=some g.length) F o_ (i.sub o_ (by rw[nH];omega))
   refine⟨aX.stmt i B λw=>aX.last w rfl o_ λD T m E u A C z=>⟨by rw[m];rfl,z,?_⟩,trivial,_,rfl⟩
   rw[m];exact⟨F6 _,F6 _,K,rfl,E,u,by rw[A];exact F6 _,F7 C⟩
  ·have o:bP fs (d+1) g a p=(aJ.begin a.l_ g::bQ (aG fs g d) a.y_ (p+1)++[aJ.assign (eG g a.x_) (a.y_.length-1)],g):=by rw[bP];simp[k]
   have r:cO g a=g:=by unfold cO;rw[if_neg (by rw[k];decide)]
   rw[o] at i ⊢
   rw[r];simp only at i ⊢
   obtain⟨B,I⟩:=pF (nJ fs false g d) a.y_ L (p+1) 0 g.length (some g.length) l (F6 _) o_ (i.sub o_ (by rw[nH];omega))
   rw[O0] at B;have U:0<a.y_.length:=M7.2 J;refine⟨aX.stmt i B λw=>aX.last w rfl o_ λD T m E u A C z=>⟨by rw[m];rfl,z,?_⟩,trivial,_,rfl⟩
   rw[m];refine⟨?_,pE P,E,?_,by rw[A];exact F6 _,F7 C⟩
   ·show a.y_.length-1+1<=a.y_.length;omega
   ·rw[u];show 0=a.y_.length-(a.y_.length-1+1);omega
  ·have r:cO g a=g:=by unfold cO;rw[if_neg (by rw[k];decide)]
   rw[r]
   obtain⟨H,o,Q⟩:∃H,bP fs (d+1) g a p=(aJ.begin a.l_ g::aG fs g d c (p+1)++[aJ.skip (p+1+(aG fs g d c (p+1)).length+1+(cB (bP fs d) g t.y_ (p+1+(aG fs g d c (p+1)).length+1)).length+1)]++cB (bP fs d) g t.y_ (p+1+(aG fs g d c (p+1)).length+1)++
    [aJ.jump (p+1+(aG fs g d c (p+1)).length+1+(cB (bP fs d) g t.y_ (p+1+(aG fs g d c (p+1)).length+1)).length+1+H.length)]++H,g)/\
    ∃G,g.length<=G/\∀s,dR s (p+1+(aG fs g d c (p+1)).length+1+(cB (bP fs d) g t.y_ (p+1+(aG fs g d c (p+1)).length+1)).length+1) (p+1+(aG fs g d c (p+1)).length+1+(cB (bP fs d) g t.y_ (p+1+(aG fs g d c (p+1)).length+1)).length+1+H.length)->aX (fA fs) s (p+1+(aG fs g d c (p+1)).length+1+(cB (bP fs d) g t.y_ (p+1+(aG fs g d c (p+1)).length+1)).length+1) H 0 g.length none 0 G none:=by
    rcases l with l|⟨x,l,P⟩
    ·refine⟨[],by rw[bP];simp[k,l],g.length,F6 _,λs j=>aX.nil _ _ _ _ _ _ (λq y W Z=>absurd (j.out q y W) t_) j.uniq⟩
    ·exact⟨_,by rw[bP];simp[k,l],_,jK x.y_ g,λs j=>jP N x.y_ g s _ P j⟩
   obtain⟨G,M,Q⟩:=Q;rw[o] at i ⊢
   simp only at i ⊢
   refine⟨aX.ifs (v1:=(dB g t.y_).length) (v2:=G) ?_ (λs j=>(iG S o_ j).1) (λs j=>jP N t.y_ g s _ V j) (jK _ _) Q M,trivial,_,rfl⟩
   refine i.sub (F6 _) ?_;simp only[F8,G1,G4];omega
  ·have o:bP fs (d+1) g a p=(aJ.begin a.l_ g::aG fs g d c (p+1)++[aJ.skip (p+1+(aG fs g d c (p+1)).length+1+(cB (bP fs d) g b.y_ (p+1+(aG fs g d c (p+1)).length+1)).length+1)]++cB (bP fs d) g b.y_ (p+1+(aG fs g d c (p+1)).length+1)++[aJ.jump p],g):=by rw[bP];simp[k,l]
   have r:cO g a=g:=by unfold cO;rw[if_neg (by rw[k];decide)]
   rw[o] at i ⊢
   rw[r];simp only at i ⊢
   refine⟨aX.whiles (v1:=(dB g b.y_).length) ?_ (λs j=>(iG S o_ j).1) (λs j=>jP N b.y_ g s _ K j) (jK _ _),trivial,_,rfl⟩
   refine i.sub (F6 _) ?_;simp only[F8,G1,G4];omega
  ·have o:bP fs (d+1) g a p=(aJ.begin a.l_ g::[aJ.push (aL 0)]++[aJ.give],g):=by rw[bP];simp[k,l]
   have r:cO g a=g:=by unfold cO;rw[if_neg (by rw[k];decide)]
   rw[o] at i ⊢
   rw[r];simp only at i ⊢
   have O:dR L (p+1) (p+2):=i.sub o_ (by rw[nH];simp)
   refine⟨aX.stmt (n:=1) i (aX.plain O rfl o_ λD T u A f b X=>⟨b,X,by rw[u];exact f⟩) λw=>aX.last w rfl o_ λD T m E u A C z=>⟨by rw[m];rfl,z,by rw[m];exact F6 _⟩,trivial,_,rfl⟩
  ·have o:bP fs (d+1) g a p=(aJ.begin a.l_ g::aG fs g d v (p+1)++[aJ.give],g):=by rw[bP];simp[k,l]
   have r:cO g a=g:=by unfold cO;rw[if_neg (by rw[k];decide)]
   rw[o] at i ⊢
   rw[r];simp only at i ⊢
   obtain⟨B,I⟩:=iG (L:=L) (p:=p+1) (e:=some g.length) F o_ (i.sub o_ (by rw[nH];omega))
   exact⟨aX.stmt i B λw=>aX.last w rfl o_ λD T m E u A C z=>⟨by rw[m];rfl,z,by rw[m];exact F6 _⟩,trivial,_,rfl⟩
  ·have o:bP fs (d+1) g a p=(aJ.begin a.l_ g::aG fs g d v (p+1)++[aJ.print],g):=by rw[bP];simp[k,l]
   have r:cO g a=g:=by unfold cO;rw[if_neg (by rw[k];decide)]
   rw[o] at i ⊢
   rw[r];simp only at i ⊢
   obtain⟨B,I⟩:=iG (L:=L) (p:=p+1) (e:=some g.length) F o_ (i.sub o_ (by rw[nH];omega))
   refine⟨aX.stmt i B λw=>aX.last w rfl o_ λD T m E u A C z=>⟨by rw[m];rfl,z,?_⟩,trivial,_,rfl⟩
   rw[m];exact⟨F6 _,E,u,by rw[A];exact F6 _,F7 C⟩
  ·have o:bP fs (d+1) g a p=(aJ.begin a.l_ g::aG fs g d v (p+1)++[aJ.drop],g):=by rw[bP];simp[k,l]
   have r:cO g a=g:=by unfold cO;rw[if_neg (by rw[k];decide)]
   rw[o] at i ⊢
   rw[r];simp only at i ⊢
   obtain⟨B,I⟩:=iG (L:=L) (p:=p+1) (e:=some g.length) F o_ (i.sub o_ (by rw[nH];omega))
   refine⟨aX.stmt i B λw=>aX.last w rfl o_ λD T m E u A C z=>⟨by rw[m];rfl,z,?_⟩,trivial,_,rfl⟩
   rw[m];exact⟨F6 _,E,u,by rw[A];exact F6 _,F7 C⟩
structure jW(fs:List aC)(d:Nat)(f:aC):Prop where
 y_:∃ps b,f.y_=ps++[b]/\StsOk (gB fs d) (ps.map (·.x_)).reverse b.y_/\(ps.map (·.x_)).Nodup
 len:(eY fs d f).code.length<=80000
def TM{fs:List aC}{f:aC}(h:jW fs d f):∃T,nA (fA fs) (eY fs d f).code T/\(T 0).h=0/\(T 0).v<=f.y_.length-1/\(T 0).e=none/\gA (eY fs d f).code:=by
 obtain⟨⟨z,b,D,p,_⟩,I⟩:=h;have g:(eY fs d f).code=cB (bP fs d) (z.map (·.x_)).reverse b.y_ 0++[.push (aL 0),.give]:=by simp[eY,D]
 have N:f.y_.length-1=(z.map (·.x_)).reverse.length:=by simp[D]
 rw[N];generalize B:(z.map (·.x_)).reverse=e at*
 have M:=jP (kS fs d) b.y_ e (λ_ _=>False) 0 p ⟨λ_ _ _ h=>h.elim,λ_ _ h=>h.elim⟩
 have x:gA (eY fs d f).code:=by
  rw[g];cases A:b.y_ with
  |nil=>exact F5 ⟨_,rfl⟩
  |cons a l=>
   rw[A] at p;obtain⟨r,K⟩:=(kS fs d e a (λ_ _=>False) 0 p.1 ⟨λ_ _ _ h=>h.elim,λ_ _ h=>h.elim⟩).2.2
   exact F7 ⟨a.l_,e,r++cB (bP fs d) (bP fs d e a 0).2 l (0+(bP fs d e a 0).1.length)++[.push (aL 0),.give],by rw[cB,K];simp⟩
 generalize Q:cB (bP fs d) e b.y_ 0=c at*;obtain⟨T,P,F,C,t,E,H,G,L⟩:=M;rw[O0] at E H G;have s:(eY fs d f).code.length=c.length+2:=by rw[g];simp
 let U:Nat->dM:=λq=>if q=c.length then ⟨0,(T q).v,none,false⟩ else if q=c.length+1 then ⟨1,(T c.length).v,none,false⟩ else T q
 have u0:U c.length=⟨0,(T c.length).v,none,false⟩:=by simp[U]
 have u1:U (c.length+1)=⟨1,(T c.length).v,none,false⟩:=by simp[U]
 have u2:∀q,q<c.length->U q=T q:=λq u=>by simp[U];rw[if_neg o_,if_neg o_]
 have v:(T 0).e=none:=by rcases t with t|t<;>exact t
 have o:(U 0).h=0/\(U 0).v<=e.length/\(U 0).e=none:=by
  rcases Nat.eq_zero_or_pos c.length with w|w
  ·rw[w] at u0;rw[u0];exact⟨rfl,C,rfl⟩
  ·rw[u2 0 w];exact⟨F,C,v⟩
 refine⟨U,⟨λj i m=>?_,I⟩,o.1,o.2.1,o.2.2,x⟩
 rw[s];rw[g] at m;rcases J8 j c.length with n|n
 ·rw[J7 n] at m;have:=L j i m;simp only[O0] at this;refine this.same (T':=U) (u2 j n) (λq u=>?_) (λq u O p=>by rw[u2 q o_];exact p)
  rcases u with u|⟨y,J⟩
  ·refine⟨o_,?_⟩
   rcases J8 q c.length with h|h
   ·rw[u2 q h];exact⟨rfl,F6 _,F5 rfl⟩
   ·obtain rfl:q=c.length:=o_
    rw[u0];exact⟨E.symm,F6 _,F7 rfl⟩
  ·exact J.elim
 ·rw[I3 n] at m;obtain⟨k,rfl⟩:∃k,j=c.length+k:=⟨j-c.length,o_⟩
  rw[L8] at m;match k,m with
  |0,m=>
   simp at m;subst m;show gD _ _ U c.length _
   exact⟨by rw[u0];rfl,by rw[u0];exact K5 _,o_,by rw[u1,u0],by rw[u1,u0];exact F6 _,by rw[u1];exact F7 rfl⟩
  |1,m=>
   simp at m;subst m;exact⟨by rw[u1];rfl,by rw[u1];show 1<=_;omega,by rw[u1];exact F6 _⟩
  |k+2,m=>simp at m
def xS{fs:List aC}(h:∀f∈fs,jW fs d f):pW (fA fs) (cZ fs d):=by
 refine⟨λk n a=>?_⟩
 unfold fA at a;cases b:fs[k]? with
 |none=>rw[b] at a;cases a
 |some f=>
  rw[b] at a;simp at a;subst a;obtain⟨T,g,c,j,e,i⟩:=TM (h f (M5 b));exact⟨eY fs d f,T,by simp[cZ,b],g,c,j,e,i⟩
def MZ{fs:List aC}(h:∀f∈fs,jW fs d f)(o:fA fs (dJ fs [109,97,105,110])=some 0)(a:List Int):hY (fA fs) (fH fs d a):=by
 obtain⟨f,T,k,i,n,j,m,c⟩:=(xS h).fn _ _ o;have e:fH fs d a=⟨[]++[⟨f,0,0,[],[],[]⟩],a,[]⟩:=by unfold fH;rw[k];rfl
 rw[e];refine⟨lE.snoc (λg b=>by cases b) ⟨⟨T,i,n,j,F7 m⟩,?_,s_,s_⟩ s_,λg b=>by simp at b;rw[b];exact c⟩
 rcases c with ⟨l,s,r,e⟩|⟨v,e⟩<;>simp[e]
inductive dH:List UInt8->Prop
 |nil:dH []
 |cons {l:List UInt8}:bD l≠0->dH (l.drop (bD l))->dH l
def kK{m:List UInt8}{i lo:Nat}(h:m[i]?=l[i]?):cQ m i lo a=cQ l i lo a:=by unfold cQ;rw[h]
def lD{m:List UInt8}(h:bD l≠0)(a:∀i,i<bD l->m[i]?=l[i]?):bD m=bD l:=by
 have o:=a 0 o_
 unfold bD at h a ⊢
 rw[o];cases n:l[0]? with
 |none=>exact absurd (by rw[n]) h
 |some b=>
  rw[n] at h a;simp only at h a ⊢
  by_cases e:b.toNat<128
  ·rw[if_pos e,if_pos e]
  rw[if_neg e] at h a;rw[if_neg e,if_neg e];by_cases c:194<=b.toNat/\b.toNat<=223
  ·rw[if_pos c] at h a;rw[if_pos c,if_pos c];by_cases g:cQ l 1 128 191=true
   ·rw[if_pos g] at a;rw[kK (a 1 o_)]
   ·rw[if_neg g] at h;exact absurd rfl h
  rw[if_neg c] at h a;rw[if_neg c,if_neg c];by_cases d:224<=b.toNat/\b.toNat<=239
  ·rw[if_pos d] at h a;rw[if_pos d,if_pos d];by_cases k:(cQ l 1 (if b.toNat=224 then 160 else 128) (if b.toNat=237 then 159 else 191) && cQ l 2 128 191)=true
   ·rw[if_pos k] at a;rw[kK (a 1 o_),kK (a 2 o_)]
   ·rw[if_neg k] at h;exact absurd rfl h
  rw[if_neg d] at h a;rw[if_neg d,if_neg d];by_cases f:240<=b.toNat/\b.toNat<=244
  ·rw[if_pos f] at h a;rw[if_pos f,if_pos f];by_cases j:(cQ l 1 (if b.toNat=240 then 144 else 128) (if b.toNat=244 then 143 else 191) && cQ l 2 128 191 && cQ l 3 128 191)=true
   ·rw[if_pos j] at a;rw[kK (a 1 o_),kK (a 2 o_),kK (a 3 o_)]
   ·rw[if_neg j] at h;exact absurd rfl h
  ·rw[if_neg f] at h;exact absurd rfl h
def ZX(t:List UInt8):Prop:=t.length<=100/\dH t
end Go.Proofs.YthbffcmfmjpncaaGreatDoor.Hs
namespace Go.Proofs.YthbffcmfmjpncaaGreatDoor
open Hs
def jV:Nat->aC->Prop
 |0,_=>True
 |d+1,a=>(a.op=[115]->a.x_.length<=100/\dH a.x_)/\a.y_.length<=1000000/\∀k∈a.y_,jV d k
def AN(a:aC):Prop:=∀e,jV e a
def AN.kid{a k:aC}(h:AN a)(b:k∈a.y_):AN k:=λe=>(h (e+1)).2.2 k b
def AN.len{a:aC}(h:AN a):a.y_.length<=1000000:=(h 1).2.1
end Go.Proofs.YthbffcmfmjpncaaGreatDoor
namespace Go.Proofs.YthbffcmfmjpncaaGreatDoor.Hs
variable{o:List (List UInt8)}{t:List Int}{l:List aH}{n:Nat}{b:Type}{f g:aF}{a v:aH}{i:aJ}
def oJ{a b:List UInt8}(h:bD a≠0):bD (a++b)=bD a:=
 lD h λ_ c=>J7 (G3 c oI)
def rA{l:List UInt8}(h:bD l≠0):bD (l.take (bD l))=bD l:=
 lD h λi a=>by rw[I9,if_pos a]
def dH.append{a b:List UInt8}(e:dH a)(f:dH b):dH (a++b):=by
 induction e with
 |nil=>exact f
 |@cons l c _ d=>
  refine dH.cons (by rw[oJ c];exact c) ?_
  rw[oJ c,List.drop_append_of_le_length oI];exact d
def dH.one{l:List UInt8}(h:bD l≠0):dH (l.take (bD l)):=
 dH.cons (by rw[rA h];exact h) (by rw[rA h,List.drop_take];simp;exact dH.nil)
def KS:∀(n:Nat) (l:List UInt8),l.length<=n->∀c∈iI l,dH c:=by
 intro n;induction n with
 |zero=>
  intro l f c a;rw[mC (F7 (N4.1 o_))] at a
  cases a
 |succ n e=>
  intro l f c a;by_cases d:l=[]
  ·rw[mC (F7 d)] at a;cases a
  by_cases b:bD l=0
  ·rw[mC (F5 b)] at a;cases a
  rw[AF d b] at a;rcases G9.1 a with rfl|a
  ·exact dH.one b
  ·exact e _ (by rw[L3];omega) c a
def PD:Nat->aH->Prop
 |0,_=>True
 |d+1,v=>dH v.s/\∀x∈v.l,PD d x
structure bM(v:aH):Prop where
 all:∀d,PD d v
def bM.txt(h:bM v):dH v.s:=(h.all 1).1
def bM.kid{x:aH}(h:bM v)(a:x∈v.l):bM x:=⟨λd=>(h.all (d+1)).2 x a⟩
def bM.mk'(a:dH v.s)(b:∀x∈v.l,bM x):bM v:=
 ⟨λd=>by
   cases d with
   |zero=>trivial
   |succ d=>exact⟨a,λx c=>(b x c).all d⟩⟩
def bM.num(n:Int):bM (aL n):=.mk' .nil λx a=>by cases a
def bM.tru(b:Bool):bM (bK b):=.mk' .nil λx a=>by cases a
def bM.nil:bM cJ:=.mk' .nil λx a=>by cases a
def bM.str{s:List UInt8}(h:dH s):bM (bI s):=.mk' h λx a=>by cases a
def bM.lst(h:∀x∈l,bM x):bM (bC l):=.mk' .nil h
def vC(h:∀x∈l,bM x)(k:Nat):bM (l.getD k cJ):=by
 rw[List.getD_eq_getElem?_getD];cases a:l[k]? with
 |none=>exact bM.nil
 |some x=>exact h x (M5 a)
def xK(h:∀x∈l,bM x)(k:Nat):bM (l[k]?.getD cJ):=by
 cases a:l[k]? with
 |none=>exact bM.nil
 |some x=>exact h x (M5 a)
def MQ(op:List UInt8)(a:aH):bM (eE op a).1:=by
 unfold eE;repeat' split
 all_goals first|exact bM.num _|exact bM.tru _|exact bM.nil
def JP(op:List UInt8)(x y:Int):bM (gN op x y).1:=by
 unfold gN;repeat' split
 all_goals first|exact bM.num _|exact bM.tru _|exact bM.nil
def BJ{b:aH}(c:bM a)(d:bM b):bM (gM a b).1:=by
 unfold gM;dsimp only;generalize e:(if a.sort=3 then bC (a.l++b.l) else bI (a.s++b.s))=v
 have f:bM v:=by
  rw[<-e];split
  ·refine bM.lst λx g=>?_
   rcases G8.1 g with h|h
   ·exact c.kid h
   ·exact d.kid h
  ·exact bM.str (c.txt.append d.txt)
 split
 ·exact bM.nil
 ·exact f
def LI(op:List UInt8){b:aH}(c:bM a)(d:bM b):bM (cD op a b).1:=by
 unfold cD;repeat' split
 all_goals first|exact bM.tru _|exact bM.nil|exact JP _ _ _|exact BJ c d
def BI(a:aH):bM (kW a).1:=by
 unfold kW;repeat' split
 all_goals first|exact bM.num _|exact bM.nil
def FM(b:aH)(e:bM a):bM (mU a b).1:=by
 unfold mU;split
 ·exact bM.nil
 split
 ·exact bM.nil
 refine vC (λx d=>?_) _
 unfold uD at d;split at d
 ·obtain⟨c,f,rfl⟩:=List.mem_map.1 d;exact bM.str (KS _ _ (F6 _) c f)
 ·exact e.kid d
def pU:∀(l:List aH) (a b:aH),bM a->bM b->bM (fJ l a b).1
 |[],_,_,_,c=>c
 |i::l,a,b,e,c=>by
  unfold fJ;have f:=pU l (a.l.getD i.n.toNat cJ) b (vC (λx d=>e.kid d) _) c
  split
  ·exact bM.nil
  split
  ·exact bM.nil
  split
  ·exact bM.nil
  ·refine bM.lst λx d=>?_
   rcases List.mem_or_eq_of_mem_set d with h|h
   ·exact e.kid h
   ·rw[h];exact f
def sX{r:aH × Nat}(h:bM r.1):bM (kI r).1:=by
 unfold kI;repeat' split
 all_goals first|exact bM.nil|exact h
def tM(f:dN):Prop:=(∀v,aJ.push v∈f.code->bM v)/\∀op,aJ.unary op∈f.code->op=[45]\/op=[33]
structure cW(f:aF):Prop where
 fn:tM f.fn
 g_:∀v∈f.g_,bM v
 ops:∀v∈f.ops,bM v
def kM(m:bO):Prop:=∀f∈m.f_,cW f
def uX(tab:List dN):Prop:=∀f∈tab,tM f
def cW.last(h:cW f):bM f.last:=by
 unfold aF.last;cases a:f.ops.getLast? with
 |none=>exact bM.nil
 |some x=>exact h.ops x (List.mem_of_getLast? a)
def cW.pop(h:cW f):cW f.pop:=⟨h.fn,h.g_,λv a=>h.ops v (List.dropLast_subset _ a)⟩
def cW.popMany(h:cW f)(n:Nat):cW (f.popMany n):=⟨h.fn,h.g_,λv a=>h.ops v (O2 a)⟩
def cW.push(h:cW f)(c:bM a):cW (f.push a):=⟨h.fn,h.g_,λv d=>by
 rcases G8.1 d with b|b
 ·exact h.ops v b
 ·rw[G5.1 b];exact c⟩
def cW.next(h:cW f)(n:Nat):cW { f with next:=n }:=⟨h.fn,h.g_,h.ops⟩
def cW.many(h:cW f)(n:Nat):∀v∈f.many n,bM v:=λv a=>h.ops v (List.mem_of_mem_drop a)
def zH(h:cW f)(d:∀v,i=.push v->bM v):cW (aP i f).1:=by
 cases i<;>simp only[aP]
 case begin l s=>exact⟨h.fn,h.g_,h.ops⟩
 case push v=>exact h.push (d v rfl)
 case load k=>exact h.push (xK h.g_ k)
 case declare k=>
  refine⟨h.fn,λv b=>?_,h.pop.ops⟩
  rcases G8.1 b with a|a
  ·exact h.g_ v (O2 a)
  ·rw[G5.1 a];exact h.last
 case assign k n=>
  have c:=h.pop.popMany n;split
  ·refine⟨c.fn,λv b=>?_,c.ops⟩
   rcases List.mem_or_eq_of_mem_set b with a|a
   ·exact h.g_ v a
   ·rw[a];exact sX (pU _ _ _ (xK h.g_ k) h.last)
  ·exact c
 case jump t=>exact h.next t
 case skip t=>
  repeat' split
  ·exact h.pop
  ·exact h.pop.next t
  ·exact h.pop
 case shortcut w t=>
  repeat' split
  ·exact(h.pop.push h.last).next t
  ·exact h.pop
  ·exact h.pop
 case truth=>
  repeat' split
  ·exact h.pop.push h.last
  ·exact h.pop
 case unary op=>
  repeat' split
  ·exact h.pop.push (MQ _ _)
  ·exact h.pop
 case binary op=>
  repeat' split
  ·exact h.pop.pop.push (LI _ h.pop.last h.last)
  ·exact h.pop.pop
 case index=>
  repeat' split
  ·exact h.pop.pop.push (FM _ h.pop.last)
  ·exact h.pop.pop
 case list n=>
  repeat' split
  ·exact(h.popMany n).push (sX (bM.lst (h.many n)))
  ·exact h.popMany n
 case length=>
  repeat' split
  ·exact h.pop.push (BI _)
  ·exact h.pop
 case drop=>exact h.pop
 all_goals exact h
def OG{m:List dN}(B:uX m){b:List aF}(h:kM ⟨b++[f],t,o⟩)(q:f.fetch=some (i,g)):kM (bU m i b g t o).1:=by
 have z:∀x∈b,cW x:=λx l=>h x (by simp[l])
 have u:cW f:=h f s_
 obtain⟨rfl,D⟩:g={ f with next:=f.next+1 }/\f.fn.code[f.next]?=some i:=by
  unfold aF.fetch at q;cases l:f.fn.code[f.next]? with
  |none=>rw[l] at q;cases q
  |some j=>rw[l] at q;simp at q;exact⟨q.2.symm,by rw[q.1]⟩
 have p:cW { f with next:=f.next+1 }:=u.next _
 generalize { f with next:=f.next+1 }=g at p
 have A:∀v,i=.push v->bM v:=λv e=>u.fn.1 v (by rw[<-e];exact M5 D)
 have d:∀y,cW y->∀t o,kM ⟨b++[y],t,o⟩:=λy C t o x l=>by
  rcases G8.1 l with c|c
  ·exact z x c
  ·rw[G5.1 c];exact C
 cases i
 case read=>
  cases t with
  |nil=>exact d _ p _ _
  |cons a r=>exact d _ (p.push (bM.num _)) _ _
 case call k n=>
  simp only[bU];split
  ·exact d _ (p.popMany n) _ _
  ·intro x l;simp only[G8,G9,I0,or_false] at l;rcases l with c|rfl|rfl
   ·exact z x c
   ·exact p.popMany n
   ·refine⟨?_,p.many n,λv w=>by cases w⟩
    show tM (m[k]?.getD ⟨[],[]⟩)
    cases s:m[k]? with
    |none=>exact I8 (λv w=>absurd w s_) (λv w=>absurd w s_)
    |some y=>exact B y (M5 s)
 case give=>
  simp only[bU];intro x l;rcases G8.1 l with c|c
  ·exact z x (List.dropLast_subset _ c)
  ·cases s:b.getLast? with
   |none=>rw[s] at c;cases c
   |some y=>
    rw[s] at c;simp at c;rw[c];exact(z y (List.mem_of_getLast? s)).push p.last
 case print=>
  simp only[bU];split<;>exact d _ p.pop _ _
 all_goals exact d _ (zH p A) _ _
inductive gZ:aC->Prop
 |leaf (a:aC) (h:a.op=[48]\/a.op=[115]\/a.op=[98,111,111,108]\/a.op=[110,97,109,101]) (hk:a.y_=[]) (ht:a.op=[115]->ZX a.x_):gZ a
 |many (a:aC) (h:a.op=[108,105,115,116]\/a.op=[99,97,108,108]) (hk:∀k∈a.y_,gZ k):gZ a
 |one (a l:aC) (h:a.op=[45,120]\/a.op=[33,120]) (hk:a.y_=[l]) (hl:gZ l):gZ a
 |two (a l r:aC) (h:a.op=[105,110,100,101,120]\/bF a.op≠9) (hk:a.y_=[l,r]) (hl:gZ l) (hr:gZ r):gZ a
inductive iV:aC->Prop
 |var (a t v:aC) (h:a.op=[118,97,114]) (hk:a.y_=[t,v]) (hv:gZ v) (ht:t.op=[116,97,114,103,101,116]/\t.y_=[]):iV a
 |set (a:aC) (h:a.op=[115,101,116]) (hn:a.y_≠[]) (hk:∀k∈a.y_,gZ k):iV a
 |if2 (a c t:aC) (h:a.op=[105,102]) (hk:a.y_=[c,t]) (hc:gZ c) (ht:t.op=[98,108,111,99,107]) (htk:∀k∈t.y_,iV k):iV a
 |if3 (a c t x:aC) (h:a.op=[105,102]) (hk:a.y_=[c,t,x]) (hc:gZ c) (ht:t.op=[98,108,111,99,107]) (htk:∀k∈t.y_,iV k) (hx:x.op=[98,108,111,99,107]) (hxk:∀k∈x.y_,iV k):iV a
 |whl (a c t:aC) (h:a.op=[119,104,105,108,101]) (hk:a.y_=[c,t]) (hc:gZ c) (ht:t.op=[98,108,111,99,107]) (htk:∀k∈t.y_,iV k):iV a
 |ret0 (a:aC) (h:a.op=[114,101,116,117,114,110]) (hk:a.y_=[]):iV a
 |ret1 (a v:aC) (h:a.op=[114,101,116,117,114,110]) (hk:a.y_=[v]) (hv:gZ v):iV a
 |print (a v:aC) (h:a.op=[112,114,105,110,116]) (hk:a.y_=[v]) (hv:gZ v):iV a
 |call (a c:aC) (h:a.op=[100,111]) (hk:a.y_=[c]) (hc:gZ c) (ho:c.op=[99,97,108,108]):iV a
structure C2(b:aC):Prop where
 op:b.op=[98,108,111,99,107]
 y_:∀k∈b.y_,iV k
structure E7(f:aC):Prop where
 y_:∃ps b,f.y_=ps++[b]/\(∀x∈ps,x.op=[112,97,114,97,109])/\C2 b/\∀x∈ps,x.y_=[]
def lV{α:Type}(P:α->Prop)(r:bH α):Prop:=∀a q,r=.ok (a,q)->P a
def lV.err{P:b->Prop}:lV P (.error n):=λa q h=>by cases h
def lV.of_ok{P:b->Prop}{q:Nat}{a:b}(h:P a):lV P (.ok (a,q)):=λc d e=>by cases e;exact h
def lV.map{c:Type}{P:b->Prop}{Q:c->Prop}{r:bH b}{f:b->c}(h:lV P r)(d:∀a,P a->Q (f a)):lV Q (bL f r):=by
 cases r with
 |error l=>exact lV.err
 |ok e=>obtain⟨a,q⟩:=e;exact lV.of_ok (d a (h a q rfl))
def lV.bind{c:Type}{P:b->Prop}{Q:c->Prop}{r:bH b}{f:b->Nat->bH c}(h:lV P r)(d:∀a q,P a->lV Q (f a q)):lV Q (bE r f):=by
 cases r with
 |error l=>exact lV.err
 |ok e=>obtain⟨a,q⟩:=e;exact d a q (h a q rfl)
def tO(P:aC->Prop)(l:List aC):Prop:=∀k∈l,P k
def tO.nil{P:aC->Prop}:tO P []:=λ_ h=>by cases h
def tO.snoc{P:aC->Prop}{l:List aC}{a:aC}(h:tO P l)(c:P a):tO P (l++[a]):=λk b=>by
 rcases G8.1 b with b|b
 ·exact h k b
 ·rw[G5.1 b];exact c
section
variable {ts:List aR} {E:Nat->bH aC}
end
def dH.split{a b:List UInt8}{c:UInt8}(G:c.toNat<128)(h:dH (a++c::b)):dH a/\dH b:=by
 generalize w:a++c::b=l at h;induction h generalizing a with
 |nil=>simp at w
 |cons o r F=>
  subst w;cases a with
  |nil=>
   have e:bD ([]++c::b)=1:=by simp[bD,G]
   rw[e] at r;exact⟨.nil,by simpa using r⟩
  |cons x a=>
   have q:bD (x::a++c::b)<=(x::a).length:=by
    refine Nat.le_of_not_lt λd=>?_
    have D:∀i g j,128<=g->i=a.length+1->cQ (x::a++c::b) i g j=false:=λi g j s p=>by
     subst p;have:(x::a++c::b)[a.length+1]?=some c:=s_
     unfold cQ;rw[this];simp;omega
    have f:∀i g j,128<=g->cQ (x::a++c::b) i g j=true->i≠a.length+1:=λi g j s t e=>by rw[D i g j s e] at t;cases t
    unfold bD at o d;rw[G1] at d;simp only[J3,P2] at o d f;have k:∀n m:Nat,128<=m->128<=(if x.toNat=n then m else 128):=λn m h=>by split<;>omega
    by_cases u:x.toNat<128
    ·rw[if_pos u] at d;omega
    rw[if_neg u] at d;by_cases v:194<=x.toNat/\x.toNat<=223
    ·rw[if_pos v] at d;by_cases h:cQ (x::(a++c::b)) 1 128 191=true
     ·rw[if_pos h] at d;have:=f _ _ _ o_ h;omega
     ·rw[if_neg h] at d;omega
    rw[if_neg v] at d;by_cases y:224<=x.toNat/\x.toNat<=239
    ·rw[if_pos y] at d;by_cases h:(cQ (x::(a++c::b)) 1 (if x.toNat=224 then 160 else 128) (if x.toNat=237 then 159 else 191) && cQ (x::(a++c::b)) 2 128 191)=true
     ·rw[if_pos h] at d;rw[I7] at h;have C:=f _ _ _ (k _ _ o_) h.1
      have H:=f _ _ _ o_ h.2
      omega
     ·rw[if_neg h] at d;omega
    rw[if_neg y] at d;by_cases z:240<=x.toNat/\x.toNat<=244
    ·rw[if_pos z] at d;by_cases h:(cQ (x::(a++c::b)) 1 (if x.toNat=240 then 144 else 128) (if x.toNat=244 then 143 else 191) && cQ (x::(a++c::b)) 2 128 191 && cQ (x::(a++c::b)) 3 128 191)=true
     ·rw[if_pos h] at d;rw[I7,I7] at h;have C:=f _ _ _ (k _ _ o_) h.1.1
      have H:=f _ _ _ o_ h.1.2
      have I:=f _ _ _ o_ h.2
      omega
     ·rw[if_neg h] at d;omega
    ·rw[if_neg z] at d;omega
   have B:(x::a++c::b).drop (bD (x::a++c::b))=(x::a).drop (bD (x::a++c::b))++c::b:=by rw[List.drop_append_of_le_length q]
   obtain⟨A,E⟩:=F B.symm;refine⟨?_,E⟩;have e:bD (x::a)=bD (x::a++c::b):=lD o λi j=>(J7 o_).symm
   exact .cons (by rw[e];exact o) (by rw[e];exact A)
def look_plain{fs:List aC}{a_:Bool}{n:aC}{s:aW}(b:n.op≠[115,101,116])(a:n.op≠[110,97,109,101])(c:n.op≠[99,97,108,108]):eH fs a_ s n=s:=by
 unfold eH;rw[if_neg (by simp[b,a]),if_neg (by simpa using c)]
def CJ{e:Nat}{f:aC}:∀{l:List aC},f∈l->cG e f<=(l.map (cG e)).sum
 |x::l,h=>by
  simp only[J1,J2];rcases G9.1 h with rfl|h
  ·omega
  ·have:=CJ (e:=e) h;omega
def FineL.mem{m:Nat}{l:List aC}{f:aC}(h:FineL m l)(a:f∈l):FineA m f:=λe=>⟨G6 (CJ a) (h e).1,(h e).2 f a⟩
structure OX where
 name:List UInt8
 l_:Nat
 g_:List (List UInt8 × aH)
structure iB where
 stack:List (List UInt8 × Nat)
 g_:List (List UInt8 × aH)
 out:List (List UInt8)
 stop:Nat
structure dY where
 f_:List OX
 tape:List Int
 out:List (List UInt8)
 moms:List iB
 stop:Nat
def dY.g_(s:dY):List (List UInt8 × aH):=(s.f_.getLast?.map (·.g_)).getD []
def dY.notes(s:dY):dY:={ s with moms:=s.moms++[⟨s.f_.map λf=>(f.name,f.l_),s.g_,s.out,s.stop⟩] }
def dY.or(s:dY)(stop:Nat):dY:=if stop≠0/\s.stop=0 then { s with stop:=stop } else s
def uH(f:aF)(e_:List (List UInt8)):OX:=⟨f.fn.name,f.l_,e_.reverse.zip f.g_⟩
def fN(l:List aF):List OX:=l.map λf=>uH f f.e_
def toldM(m:bO)(stop:Nat):iB:=⟨m.f_.map λf=>(f.fn.name,f.l_),((m.f_.getLast?.map λf=>f.e_.reverse.zip f.g_)).getD [],m.out,stop⟩
inductive iW (tab:List dN):bO->Nat->List iB->bO->Nat->Prop
 |refl (m:bO) (n:Nat):iW tab m n [] m n
 |step {b:List aF} {f g:aF} {t:List Int} {o:List (List UInt8)} {i:aJ} {m1 m':bO} {n n':Nat} {ms:List iB} (hf:f.fetch=some (i,g)) (hb:i.isBegin=false) (hd:bU tab i b g t o=(m1,0)) (hr:iW tab m1 n ms m' n'):iW tab ⟨b++[f],t,o⟩ n ms m' n'
 |mom {b:List aF} {f g:aF} {t:List Int} {o:List (List UInt8)} {i:aJ} {m1 m':bO} {n n':Nat} {ms:List iB} (hf:f.fetch=some (i,g)) (hb:i.isBegin=true) (hd:bU tab i b g t o=(m1,0)) (hn:n≠500) (hr:iW tab m1 (n+1) ms m' n'):iW tab ⟨b++[f],t,o⟩ n (toldM m1 0::ms) m' n'
def iW.trans{d:List dN}{a b c:bO}{o e:Nat}{m f:List iB}(h:iW d a n m b o)(k:iW d b o f c e):iW d a n (m++f) c e:=by
 induction h with
 |refl=>exact k
 |step i l g _ j=>exact .step i l g (j k)
 |mom i l g p _ j=>exact .mom i l g p (j k)
inductive xD (tab:List dN):bO->Nat->iB->Prop
 |stop {b:List aF} {f g:aF} {t:List Int} {o:List (List UInt8)} {i:aJ} {m1:bO} {n st:Nat} (hf:f.fetch=some (i,g)) (hd:bU tab i b g t o=(m1,st)) (hs:st≠0):xD tab ⟨b++[f],t,o⟩ n (toldM m1 st)
 |done {t:List Int} {o:List (List UInt8)} {n:Nat}:xD tab ⟨[],t,o⟩ n (toldM ⟨[],t,o⟩ 1)
 |fuel {b:List aF} {f g:aF} {t:List Int} {o:List (List UInt8)} {i:aJ} {m1:bO} (hf:f.fetch=some (i,g)) (hb:i.isBegin=true) (hd:bU tab i b g t o=(m1,0)):xD tab ⟨b++[f],t,o⟩ 500 (toldM m1 9)
def AO(tab:List dN)(m:bO)(n:Nat)(ms:List iB):Prop:=∃m' n' ms' x,iW tab m n ms' m' n'/\xD tab m' n' x/\ms=ms'++[x]
def iW.halts{c:List dN}{a b:bO}{i:Nat}{e d:List iB}(h:iW c a n e b i)(k:AO c b i d):AO c a n (e++d):=by
 obtain⟨o,f,g,x,l,j,m⟩:=k;exact⟨o,f,e++g,x,h.trans l,j,by rw[m,I6]⟩
def dY.final(s:dY):List iB:=if s.stop=9 then s.moms else s.notes.moms
def fL(tab:List dN)(m:bO)(s s':dY)(m':bO):Prop:=
 (s'.stop=0/\∃ms,s'.moms=s.moms++ms/\iW tab m s.moms.length ms m' s'.moms.length)\/
 (s'.stop≠0/\∃ms,s.moms++ms=s'.final/\AO tab m s.moms.length ms)
def fL.refl(a:List dN)(m:bO)(s:dY)(h:s.stop=0):fL a m s s m:=F7 ⟨h,[],s_,iW.refl _ _⟩
def fL.trans{a:List dN}{m p o:bO}{s c l:dY}(h:fL a m s c p)(k:c.stop=0->fL a p c l o)(q:c.stop≠0->l=c):fL a m s l o:=by
 rcases h with ⟨g,d,f,e⟩|⟨g,d,f,e⟩
 ·rcases k g with ⟨n,b,i,j⟩|⟨n,b,i,j⟩
  ·exact F7 ⟨n,d++b,by rw[i,f,I6],e.trans j⟩
  ·exact F5 ⟨n,d++b,by rw[<-i,f,I6],e.halts j⟩
 ·rw[q g];exact F5 ⟨g,d,f,e⟩
def fL.step{a:List dN}{b:List aF}{e:bO}{s c:dY}(j:f.fetch=some (i,g))(k:i.isBegin=false)(h:bU a i b g t o=(e,0))(l:c.stop=0)(d:c.moms=s.moms):fL a ⟨b++[f],t,o⟩ s c e:=
 F7 ⟨l,[],by simp[d],.step j k h (by rw[d];exact .refl _ _)⟩
def fL.stops{d:List dN}{b:List aF}{h n:bO}{c:Nat}{s a:dY}(m:f.fetch=some (i,g))(k:bU d i b g t o=(h,c))(j:c≠0)(q:c≠9)
 (e:a.stop=c) (p:a.moms=s.moms) (l:(⟨a.f_.map λf=>(f.name,f.l_),a.g_,a.out,a.stop⟩:iB)=toldM h c):fL d ⟨b++[f],t,o⟩ s a n:=by
 refine F5 ⟨by rw[e];exact j,[toldM h c],?_,_,_,[],_,.refl _ _,.stop m k j,rfl⟩
 unfold dY.final;rw[if_neg (by rw[e];exact q)]
 unfold dY.notes;simp only[p];rw[<-l]
def nR(code:List aJ)(p:Nat)(c:List aJ):Prop:=∀j i,c[j]?=some i->code[p+j]?=some i
def vU(h:f.fn.code[f.next]?=some i):f.fetch=some (i,{ f with next:=f.next+1 }):=by unfold aF.fetch;rw[h];rfl
end Go.Proofs.YthbffcmfmjpncaaGreatDoor.Hs
