/- Plain functions on lists of bytes: lines, characters, blanks, tokens of a source. No Go, no program. -/
import Derived.Test.YthbffcmfmjpncaaGreatDoorA0
set_option linter.defProp false
set_option maxRecDepth 100000
namespace Go.Proofs.YthbffcmfmjpncaaGreatDoor
theorem o_{p:Prop}(h:p:=by omega):p:=h
theorem s_{p:Prop}(h:p:=by simp):p:=h
theorem t_{p:Prop}(h:p:=by simp;omega):p:=h
theorem d_{p:Prop}(h:p:=by decide):p:=h
theorem k_{p:Prop}(h:p:=by kernel_rfl):p:=h
theorem r_{p:Prop}(h:p:=by rfl):p:=h
theorem E_{a:Type}(x:a):∃y,y=x:=⟨x,rfl⟩
end Go.Proofs.YthbffcmfmjpncaaGreatDoor
namespace Go.Proofs.YthbffcmfmjpncaaGreatDoor.Hs
variable{o e_:List (List UInt8)}{t:List Int}{l x:List UInt8}{N a d h h' k m n p p0 q v v' v1 v2:Nat}{ar:Nat->Option Nat}{e e':Option Nat}{b c α:Type}
def bA(l:List UInt8):Nat:=1+l.count 10
def jO(a b:List UInt8):bA (a++b)=bA a+b.count 10:=by
 unfold bA;rw[List.count_append];omega
def SG(a:List UInt8):a.count 10<=a.length:=List.count_le_length
def pG(a:List UInt8):bA a<=a.length+1:=by have:=SG a;unfold bA;omega
def DO(a:List UInt8)(c:UInt8):bA (a++[c])=bA a+if c=10 then 1 else 0:=by
 rw[jO];by_cases h:c=10<;>simp[h]
def dE(l:List UInt8)(i lo hi:Nat):Bool:=
 match l[i]? with
 |some b=>decide (lo<=b.toNat) && decide (b.toNat<=hi)
 |none=>false
def bF(l:List UInt8):Nat:=
 match l[0]? with
 |none=>0
 |some b=>
  if b.toNat<128 then 1
  else if 194<=b.toNat/\b.toNat<=223 then if dE l 1 128 191 then 2 else 0
  else if 224<=b.toNat/\b.toNat<=239 then
   if dE l 1 (if b.toNat=224 then 160 else 128) (if b.toNat=237 then 159 else 191) && dE l 2 128 191 then 3 else 0
  else if 240<=b.toNat/\b.toNat<=244 then
   if dE l 1 (if b.toNat=240 then 144 else 128) (if b.toNat=244 then 143 else 191) && dE l 2 128 191 && dE l 3 128 191 then 4 else 0
  else 0
def dO:Nat->List UInt8->Nat->Option Nat
 |0,_,_=>none
 |f+1,l,p=>
  if l.length=0 then none
  else if bF l=0 then some p
  else dO f (l.drop (bF l)) (p+bF l)
def eA(c:UInt8):Bool:=decide (48<=c.toNat) && decide (c.toNat<=57)
def fB(c:UInt8):Bool:=
 c.toNat==95 || (decide (97<=c.toNat) && decide (c.toNat<=122) || decide (65<=c.toNat) && decide (c.toNat<=90))
def cN(l what:List UInt8):Bool:=what.isPrefixOf l
def bL(p:UInt8->Bool):List UInt8->Nat
 |[]=>0
 |c::r=>if p c then bL p r+1 else 0
def kR(p:UInt8->Bool)(l:List UInt8):bL p l<=l.length:=by
 induction l with
 |nil=>simp[bL]
 |cons c r a=>simp only[bL];split<;>simp<;>omega
def eD(b:UInt8):Bool:=b.toNat != 10
def blankL:Nat->List UInt8->Nat
 |0,_=>0
 |f+1,l=>
  match l with
  |[]=>0
  |c::r=>
   if c.toNat=32\/c.toNat=9\/c.toNat=10 then blankL f r+1
   else if cN (c::r) [47,47] then
    bL eD (c::r)+blankL f ((c::r).drop (bL eD (c::r)))
   else 0
def LY:Nat:=9223372036854775807
def dH:Nat->List UInt8->Option Nat
 |n,[]=>some n
 |n,c::r=>if (LY-(c.toNat-48))/10<n then none else dH (10*n+(c.toNat-48)) r
def gI:List (List UInt8):=[[102,117,110,99],[118,97,114],[105,102],[101,108,115,101],[119,104,105,108,101],[114,101,116,117,114,110],[112,114,105,110,116],[116,114,117,101],[102,97,108,115,101]]
def cE:List (List UInt8):=[[61,61],[33,61],[60,61],[38,38],[124,124],[40],[41],[123],[125],[91],[93],[44],[59],[61],[60],[43],[45],[42],[47],[37],[33]]
def eC(name:Bool)(b:UInt8):Bool:=eA b || name && fB b
def fA(b:UInt8):Bool:=b.toNat != 34 && b.toNat != 10
structure aX where
 sort:Nat
 x_:List UInt8
 l_:Nat
structure pM where
 sort:Nat
 x_:List UInt8
 size:Nat
 ok:Bool
def gJ(l:List UInt8)(name:Bool):pM:=
 if name then { sort:=if gI.contains (l.take (bL (eC name) l)) then 107 else 110,x_:=l.take (bL (eC name) l),size:=bL (eC name) l,ok:=decide (bL (eC name) l<=16) }
 else { sort:=48,x_:=l.take (bL (eC name) l),size:=bL (eC name) l,ok:=(dH 0 (l.take (bL (eC name) l))).isSome }
def nT(r:List UInt8):pM:=
 { sort:=115,x_:=r.take (bL fA r),size:=bL fA r+2,ok:=decide (r[bL fA r]?=some 34) && decide (bL fA r<=100) }
def gH(l:List UInt8):pM:=
 match cE.find? (λo=>cN l o) with
 |some o=>{ sort:=112,x_:=o,size:=o.length,ok:=true }
 |none=>{ sort:=0,x_:=[],size:=0,ok:=false }
def cA:List UInt8->pM
 |[]=>{ sort:=0,x_:=[],size:=0,ok:=false }
 |c::r=>if eA c || fB c then gJ (c::r) (fB c) else if c.toNat=34 then nT r else gH (c::r)
def eI:Nat->List UInt8->List UInt8->Except Nat (List aX)
 |0,_,_=>.error 0
 |f+1,pre,l=>
  if l.length=0 then .ok [{ sort:=101,x_:=[],l_:=bA pre }]
  else if (cA l).ok then
   match eI f (pre++l.take ((cA l).size+blankL l.length (l.drop (cA l).size))) (l.drop ((cA l).size+blankL l.length (l.drop (cA l).size))) with
   |.ok ts=>.ok ({ sort:=(cA l).sort,x_:=(cA l).x_,l_:=bA pre }::ts)
   |.error n=>.error n
  else .error (bA pre)
def gF(l:List UInt8):Except Nat (List aX):=
 eI (l.length+1) (l.take (blankL l.length l)) (l.drop (blankL l.length l))
def lB{w:List UInt8}(h:cN l w=true):w.length<=l.length:=(kh.1 h).length_le
def nO(f:Nat)(c:UInt8)(r:List UInt8):blankL (f+1) (c::r)=
 if c.toNat=32\/c.toNat=9\/c.toNat=10 then blankL f r+1
  else if cN (c::r) [47,47] then bL eD (c::r)+blankL f ((c::r).drop (bL eD (c::r)))
  else 0:=by
 rw[blankL]
def CR(c:UInt8)(r:List UInt8)(h:cN (c::r) [47,47]=true):1<=bL eD (c::r):=by
 have b:c=47:=by
  have:=kh.1 h;obtain⟨t,a⟩:=this;simp only[gb,List.cons.injEq] at a;exact a.1.symm
 subst b;rw[bL,if_pos d_];omega
def vX(f:Nat):∀l:List UInt8,blankL f l<=l.length:=by
 induction f with
 |zero=>intro l;simp[blankL]
 |succ f a=>
  intro l;cases l with
  |nil=>simp[blankL]
  |cons c r=>
   rw[nO];split
   ·have:=a r;simp;omega
   ·split
    ·have b:=a ((c::r).drop (bL eD (c::r)));have d:=kR eD (c::r);rw[gt] at b;omega
    ·omega
def ET(f:Nat):∀(g:Nat) (l:List UInt8),l.length<=f->l.length<=g->blankL f l=blankL g l:=by
 induction f with
 |zero=>
  intro g l h _;obtain rfl:l=[]:=ge o_
  cases g<;>rfl
 |succ f b=>
  intro g l e d;cases l with
  |nil=>cases g<;>rfl
  |cons c r=>
   cases g with
   |zero=>simp at d
   |succ g=>
    rw[nO,nO];simp only[eo] at e d;rw[b g r o_ o_]
    by_cases a:cN (c::r) [47,47]=true
    ·have i:=CR c r a;rw[b g ((c::r).drop (bL eD (c::r))) (by rw[gt,eo];omega) (by rw[gt,eo];omega)]
    ·simp only[a];rfl
def sY(l:List UInt8)(b:Bool):(gJ l b).size=bL (eC b) l:=by
 unfold gJ;split<;>rfl
def uU(l:List UInt8)(h:(cA l).ok=true):1<=(cA l).size/\(cA l).size<=l.length:=by
 cases l with
 |nil=>simp[cA] at h
 |cons c r=>
  rw[cA] at h ⊢
  split
  ·rename_i b;rw[sY];refine⟨?_,kR _ _⟩
   rw[bL,if_pos (by
    revert b;unfold eC
    cases eA c<;>cases fB c<;>simp)]
   omega
  ·rename_i b;rw[if_neg b] at h;split
   ·rename_i a;rw[if_pos a] at h;have d:(decide (r[bL fA r]?=some 34) && decide (bL fA r<=100))=true:=h;rw[gd,decide_eq_true_eq] at d
    have f:bL fA r<r.length:=by
     by_cases j:bL fA r<r.length
     ·exact j
     ·rw[gu o_] at d;exact absurd d.1 s_
    show 1<=bL fA r+2/\bL fA r+2<=(c::r).length
    rw[eo];omega
   ·rename_i a;rw[if_neg a] at h;unfold gH at h ⊢
    cases e:cE.find? (λo=>cN (c::r) o) with
    |none=>rw[e] at h;simp at h
    |some o=>
     have i:=List.find?_some e;have g:=ja e;refine⟨?_,lB i⟩;have:∀o∈cE,1<=o.length:=d_
     exact this o g
def iM(ts:List aX):Except Nat (List aX)->Except Nat (List aX)
 |.ok l=>.ok (ts++l)
 |.error n=>.error n
def DE(x:Except Nat (List aX)):iM [] x=x:=by cases x<;>rfl
def AH(ts:List aX)(t:aX)(x:Except Nat (List aX)):iM (ts++[t]) x=iM ts (iM [t] x):=by cases x<;>simp[iM]
def mK(f:Nat)(a l:List UInt8)(h:l.length=0):eI (f+1) a l=.ok [{ sort:=101,x_:=[],l_:=bA a }]:=by
 rw[eI,if_pos h]
def mL(f:Nat)(a l:List UInt8)(h:¬l.length=0)(b:(cA l).ok=false):eI (f+1) a l=.error (bA a):=by
 rw[eI,if_neg h,if_neg (by rw[b];simp)]
def lY(f:Nat)(a l:List UInt8)(h:¬l.length=0)(c:(cA l).ok=true)(m:Nat)(b:m=(cA l).size+blankL l.length (l.drop (cA l).size)):
 eI (f+1) a l=iM [{ sort:=(cA l).sort,x_:=(cA l).x_,l_:=bA a }] (eI f (a++l.take m) (l.drop m)):=by
 rw[eI,if_neg h,if_pos c,<-b];cases eI f (a++l.take m) (l.drop m)<;>rfl
structure aC where
 op:List UInt8
 l_:Nat
 x_:List UInt8
 y_:List aC
def aP(ts:List aX)(p:Nat):aX:=ts[p]?.getD { sort:=101,x_:=[],l_:=0 }
def aU(ts:List aX)(p:Nat)(x:List UInt8):Bool:=((aP ts p).sort==112 || (aP ts p).sort==107) && (aP ts p).x_==x
abbrev bS(α:Type):=Except Nat (α × Nat)
def bad(ts:List aX)(p:Nat):bS α:=.error (aP ts p).l_
def cB(x:List UInt8):Nat:=
 if x==[124,124] then 0
 else if x==[38,38] then 1
 else if x==[61,61] || (x==[33,61] || (x==[60] || x==[60,61])) then 2
 else if x==[43] || x==[45] then 3
 else if x==[42] || (x==[47] || x==[37]) then 4
 else 9
def dI(E:Nat->bS aC)(ts:List aX):Nat->Nat->List aC->bS (List aC)
 |0,_,_=>.error 0
 |g+1,p,acc=>
  match E p with
  |.error l=>.error l
  |.ok (a,q)=>if aU ts q [44] then dI E ts g (q+1) (acc++[a]) else .ok (acc++[a],q)
def iD(E:Nat->bS aC)(ts:List aX)(p:Nat)(shut:List UInt8):bS (List aC):=
 if aU ts p shut then .ok ([],p) else dI E ts (ts.length+1) p []
def aN(ts:List aX)(x:List UInt8):bS α->bS α
 |.error l=>.error l
 |.ok (a,q)=>if aU ts q x then .ok (a,q+1) else bad ts q
def eK(E:Nat->bS aC)(ts:List aX)(p:Nat)(opens shut:List UInt8):bS (List aC):=
 if aU ts p opens then aN ts shut (iD E ts (p+1) shut) else bad ts p
def bZ{β:Type}(f:α->β):bS α->bS β
 |.error l=>.error l
 |.ok (a,q)=>.ok (f a,q)
def bR{β:Type}(x:bS α)(f:α->Nat->bS β):bS β:=
 match x with
 |.error l=>.error l
 |.ok (a,q)=>f a q
def aS(op:List UInt8)(l_:Nat)(x_:List UInt8)(y_:List aC):aC:={ op:=op,l_:=l_,x_:=x_,y_:=y_ }
def dU(E:Nat->bS aC)(ts:List aX)(p:Nat):bS aC:=
 if (aP ts p).sort==48 || (aP ts p).sort==115 then .ok (aS [UInt8.ofNat (aP ts p).sort] (aP ts p).l_ (aP ts p).x_ [],p+1)
 else if aU ts p [116,114,117,101] || aU ts p [102,97,108,115,101] then .ok (aS [98,111,111,108] (aP ts p).l_ (aP ts p).x_ [],p+1)
 else if aU ts p [40] then aN ts [41] (E (p+1))
 else if aU ts p [91] then bZ (aS [108,105,115,116] (aP ts p).l_ (aP ts p).x_) (eK E ts p [91] [93])
 else if (aP ts p).sort==110 then
  if aU ts (p+1) [40] then bZ (aS [99,97,108,108] (aP ts p).l_ (aP ts p).x_) (eK E ts (p+1) [40] [41])
  else .ok (aS [110,97,109,101] (aP ts p).l_ (aP ts p).x_ [],p+1)
 else bad ts p
def cZ(E:Nat->bS aC)(ts:List aX):Nat->aC->Nat->bS aC
 |0,_,_=>.error 0
 |g+1,n,p=>
  if aU ts p [91] then
   match aN ts [93] (E (p+1)) with
   |.error l=>.error l
   |.ok (i,q)=>cZ E ts g (aS [105,110,100,101,120] (aP ts p).l_ [] [n,i]) q
  else .ok (n,p)
def eH(E:Nat->bS aC)(ts:List aX):Nat->Nat->bS aC
 |0,_=>.error 0
 |g+1,p=>
  if aU ts p [45] then bZ (λx=>aS [45,120] (aP ts p).l_ [] [x]) (eH E ts g (p+1))
  else if aU ts p [33] then bZ (λx=>aS [33,120] (aP ts p).l_ [] [x]) (eH E ts g (p+1))
  else bR (dU E ts p) (cZ E ts (ts.length+1))
def bE(L:Nat->bS aC)(ts:List aX)(k:Nat):Nat->aC->Nat->bS aC
 |0,_,_=>.error 0
 |g+1,n,q=>
  if (aP ts q).sort==112 && cB (aP ts q).x_==k then
   match L (q+1) with
   |.error l=>.error l
   |.ok (r,q2)=>if k=2 then .ok (aS (aP ts q).x_ (aP ts q).l_ [] [n,r],q2) else bE L ts k g (aS (aP ts q).x_ (aP ts q).l_ [] [n,r]) q2
  else .ok (n,q)
def fL(E:Nat->bS aC)(ts:List aX):Nat->Nat->bS aC
 |0,p=>eH E ts (ts.length+1) p
 |j+1,p=>bR (fL E ts j p) (bE (fL E ts j) ts (4-j) (ts.length+1))
def fC(ts:List aX):Nat->Nat->bS aC
 |0,_=>.error 0
 |f+1,p=>fL (fC ts f) ts 5 p
def eP(E:Nat->bS aC)(ts:List aX):Nat->Nat->List aC->bS (List aC)
 |0,_,_=>.error 0
 |g+1,p,acc=>
  if aU ts p [91] then
   match aN ts [93] (E (p+1)) with
   |.error l=>.error l
   |.ok (i,q)=>eP E ts g q (acc++[i])
  else .ok (acc,p)
def eO(E:Nat->bS aC)(ts:List aX)(p:Nat):bS aC:=
 if (aP ts p).sort==110 then
  if aU ts (p+1) [40] then
   aN ts [59] (bZ (λl=>aS [100,111] (aP ts p).l_ (aP ts p).x_ [aS [99,97,108,108] (aP ts p).l_ (aP ts p).x_ l]) (eK E ts (p+1) [40] [41]))
  else
   bR (aN ts [61] (eP E ts (ts.length+1) (p+1) [])) λidx q=>
    aN ts [59] (bZ (λv=>aS [115,101,116] (aP ts p).l_ (aP ts p).x_ (idx++[v])) (E q))
 else bad ts p
def pA(E:Nat->bS aC)(ts:List aX)(p:Nat):bS aC:=
 if (aP ts (p+1)).sort==110 then
  if aU ts (p+2) [61] then
   aN ts [59] (bZ (λv=>aS [118,97,114] (aP ts p).l_ [] [aS [116,97,114,103,101,116] (aP ts (p+1)).l_ (aP ts (p+1)).x_ [],v]) (E (p+3)))
  else bad ts (p+2)
 else bad ts (p+1)
def rI(E B:Nat->bS aC)(ts:List aX)(p:Nat):bS aC:=
 bR (E (p+1)) λc q=>bR (B q) λb q2=>
  if aU ts q2 [101,108,115,101] then bZ (λd=>aS [105,102] (aP ts p).l_ [] [c,b,d]) (B (q2+1))
  else .ok (aS [105,102] (aP ts p).l_ [] [c,b],q2)
def kM(E B:Nat->bS aC)(ts:List aX)(p:Nat):bS aC:=
 bR (E (p+1)) λc q=>bZ (λb=>aS [119,104,105,108,101] (aP ts p).l_ [] [c,b]) (B q)
def gU(E:Nat->bS aC)(ts:List aX)(p:Nat):bS aC:=
 if aU ts (p+1) [59] then .ok (aS [114,101,116,117,114,110] (aP ts p).l_ [] [],p+2)
 else aN ts [59] (bZ (λv=>aS [114,101,116,117,114,110] (aP ts p).l_ [] [v]) (E (p+1)))
def iU(E:Nat->bS aC)(ts:List aX)(p:Nat):bS aC:=
 aN ts [59] (bZ (λv=>aS [112,114,105,110,116] (aP ts p).l_ [] [v]) (E (p+1)))
def jC(E B:Nat->bS aC)(ts:List aX)(p:Nat):bS aC:=
 if aU ts p [118,97,114] then pA E ts p
 else if aU ts p [105,102] then rI E B ts p
 else if aU ts p [119,104,105,108,101] then kM E B ts p
 else if aU ts p [114,101,116,117,114,110] then gU E ts p
 else if aU ts p [112,114,105,110,116] then iU E ts p
 else eO E ts p
def dJ(S:Nat->bS aC)(ts:List aX):Nat->Nat->List aC->bS (List aC)
 |0,_,_=>.error 0
 |g+1,p,acc=>
  if aU ts p [125] then .ok (acc,p)
  else
   match S p with
   |.error l=>.error l
   |.ok (s,q)=>dJ S ts g q (acc++[s])
def iX(E:Nat->bS aC)(ts:List aX):Nat->Nat->bS aC
 |0,_=>.error 0
 |f+1,p=>
  if aU ts p [123] then
   bZ (aS [98,108,111,99,107] (aP ts p).l_ []) (aN ts [125] (dJ (jC E (iX E ts f) ts) ts (ts.length+1) (p+1) []))
  else bad ts p
def cR(ts:List aX):Nat->Nat->List aC->bS (List aC)
 |0,_,_=>.error 0
 |g+1,p,acc=>
  if (aP ts p).sort==110 then
   if aU ts (p+1) [44] then cR ts g (p+2) (acc++[aS [112,97,114,97,109] (aP ts p).l_ (aP ts p).x_ []])
   else .ok (acc++[aS [112,97,114,97,109] (aP ts p).l_ (aP ts p).x_ []],p+1)
  else bad ts p
def gW(ts:List aX)(p:Nat):bS (List aC):=
 aN ts [41] (if aU ts p [41] then .ok ([],p) else cR ts (ts.length+1) p [])
def jZ(B:Nat->bS aC)(ts:List aX)(p:Nat):bS aC:=
 if aU ts p [102,117,110,99] then
  if (aP ts (p+1)).sort==110 then
   if aU ts (p+2) [40] then
    bR (gW ts (p+3)) λl q=>bZ (λb=>aS [102,117,110,99] (aP ts (p+1)).l_ (aP ts (p+1)).x_ (l++[b])) (B q)
   else bad ts (p+2)
  else bad ts (p+1)
 else bad ts p
def eQ(F:Nat->bS aC)(ts:List aX):Nat->Nat->List aC->bS (List aC)
 |0,_,_=>.error 0
 |g+1,p,acc=>
  if (aP ts p).sort==101 then .ok (acc,p)
  else
   match F p with
   |.error l=>.error l
   |.ok (s,q)=>eQ F ts g q (acc++[s])
def mF(ts:List aX):bS (List aC):=
 eQ (jZ (iX (fC ts (ts.length+1)) ts (ts.length+1)) ts) ts (ts.length+1) 0 []
structure bT(ts:List aX):Prop where
 next:∀p,p<ts.length->(aP ts p).sort≠101->p+1<ts.length
 l_:∀p,p<ts.length->(aP ts p).l_≠0
structure cK{α:Type}(N p:Nat)(r:bS α):Prop where
 er:∀l,r=.error l->l≠0
 ok:∀a q,r=.ok (a,q)->p<q/\q<N
structure eX{α:Type}(N p:Nat)(r:bS α):Prop where
 er:∀l,r=.error l->l≠0
 ok:∀a q,r=.ok (a,q)->p<=q/\q<N
def cK.weak{r:bS b}(h:cK N p r):eX N p r:=⟨h.er,λa q e=>by have:=h.ok a q e;omega⟩
def cK.ne{a:Type}{r:bS a}(h:cK N p r):r≠.error 0:=λe=>h.er 0 e rfl
def eX.ne{a:Type}{r:bS a}(h:eX N p r):r≠.error 0:=λe=>h.er 0 e rfl
def cK.low{b:Nat}{r:bS c}(h:cK N p r)(d:b<=p):cK N b r:=⟨h.er,λa q e=>by have:=h.ok a q e;omega⟩
def eX.low{b:Nat}{r:bS c}(h:eX N p r)(d:b<p):cK N b r:=⟨h.er,λa q e=>by have:=h.ok a q e;omega⟩
def cK.of_ok(a:b)(h:p<q)(c:q<N):cK N p (.ok (a,q):bS b):=⟨(λl e=>by cases e),λd f e=>by cases e;exact⟨h,c⟩⟩
def eX.of_ok(a:b)(h:p<=q)(c:q<N):eX N p (.ok (a,q):bS b):=⟨(λl e=>by cases e),λd f e=>by cases e;exact⟨h,c⟩⟩
def cK.map{r:bS b}(f:b->c)(h:cK N p r):cK N p (bZ f r):=by
 cases r with
 |error l=>exact⟨λi e=>by cases e;exact h.er _ rfl,λa q e=>by cases e⟩
 |ok d=>obtain⟨a,q⟩:=d;exact⟨(λl e=>by cases e),λg j e=>by cases e;exact h.ok _ _ rfl⟩
def bT.isT{ts:List aX}(T:bT ts)(a:p<ts.length)(h:aU ts p x=true):p+1<ts.length:=by
 refine T.next p a λe=>?_
 unfold aU at h;rw[e] at h;simp at h
def bT.bad{ts:List aX}(T:bT ts){d:Type}{c:Nat}(b:p<ts.length):cK ts.length c (bad ts p:bS d):=⟨λl e=>by cases e;exact T.l_ p b,λa q e=>by cases e⟩
def bT.take{ts:List aX}(T:bT ts){d:Type}{r:bS d}(h:cK ts.length p r):cK ts.length p (aN ts x r):=by
 cases r with
 |error l=>exact⟨λg e=>by cases e;exact h.er _ rfl,λa q e=>by cases e⟩
 |ok c=>
  obtain⟨a,q⟩:=c;have b:=h.ok a q rfl;unfold aN;simp only;split
  ·rename_i f;exact cK.of_ok a o_ (T.isT b.2 f)
  ·exact T.bad b.2
def bT.takeW{ts:List aX}(T:bT ts){d:Type}{r:bS d}(h:eX ts.length p r):cK ts.length p (aN ts x r):=by
 cases r with
 |error l=>exact⟨λg e=>by cases e;exact h.er _ rfl,λa q e=>by cases e⟩
 |ok c=>
  obtain⟨a,q⟩:=c;have b:=h.ok a q rfl;unfold aN;simp only;split
  ·rename_i f;exact cK.of_ok a o_ (T.isT b.2 f)
  ·exact T.bad b.2
def bT.listLoop{ts:List aX}(T:bT ts){E:Nat->bS aC}(h:∀q,p0<q->q<ts.length->cK ts.length q (E q)):∀(g p:Nat) (acc:List aC),p0<p->p<ts.length->ts.length<=p+g->cK ts.length p (dI E ts g p acc)
 |0,p,acc,_,c,i=>by omega
 |g+1,p,acc,j,c,i=>by
  have d:=h p j c;rw[dI];cases f:E p with
  |error l=>exact⟨λn e=>by cases e;exact d.er _ f,λa q e=>by cases e⟩
  |ok k=>
   obtain⟨a,q⟩:=k;have b:=d.ok a q f;simp only;split
   ·rename_i m;have:=T.isT b.2 m;exact(bT.listLoop T h g (q+1) (acc++[a]) o_ this o_).low o_
   ·exact cK.of_ok _ b.1 b.2
def bT.listIn{ts:List aX}(T:bT ts){E:Nat->bS aC}(c:∀q,p0<q->q<ts.length->cK ts.length q (E q))(b:p0<p)(a:p<ts.length)(y:List UInt8):eX ts.length p (iD E ts p y):=by
 unfold iD;split
 ·exact eX.of_ok _ (eh _) a
 ·exact(T.listLoop c (ts.length+1) p [] b a o_).weak
def bT.listP{ts:List aX}(T:bT ts){E:Nat->bS aC}(b:∀q,p0<q->q<ts.length->cK ts.length q (E q))(d:p0<=p)(a:p<ts.length)(x y:List UInt8):cK ts.length p (eK E ts p x y):=by
 unfold eK;split
 ·rename_i c;have:=T.isT a c;exact(T.takeW (T.listIn b (p:=p+1) o_ this y)).low o_
 ·exact T.bad a
def bT.primary{ts:List aX}(T:bT ts){E:Nat->bS aC}(c:∀q,p0<q->q<ts.length->cK ts.length q (E q))(f:p0<=p)(b:p<ts.length):cK ts.length p (dU E ts p):=by
 unfold dU;split
 ·rename_i a;refine cK.of_ok _ o_ (T.next p b λe=>?_)
  rw[e] at a;simp at a
 split
 ·rename_i a;refine cK.of_ok _ o_ ?_
  rcases Bool.or_eq_true_iff.1 a with a|a
  ·exact T.isT b a
  ·exact T.isT b a
 split
 ·rename_i a;have:=T.isT b a;exact T.take ((c (p+1) o_ this).low o_)
 split
 ·exact(T.listP c f b _ _).map _
 split
 ·rename_i a;have d:p+1<ts.length:=T.next p b λe=>by rw[e] at a;simp at a
  split
  ·exact((T.listP c (p:=p+1) o_ d _ _).low o_).map _
  ·exact cK.of_ok _ o_ d
 ·exact T.bad b
def bT.index{ts:List aX}(T:bT ts){E:Nat->bS aC}(f:∀q,p0<q->q<ts.length->cK ts.length q (E q)):∀(g:Nat) (n:aC) (p:Nat),p0<=p->p<ts.length->ts.length<=p+g->eX ts.length p (cZ E ts g n p)
 |0,n,p,_,b,h=>by omega
 |g+1,n,p,r,b,h=>by
  rw[cZ];split
  ·rename_i m;have k:=T.isT b m;have c:=T.take (x:=[93]) (f (p+1) o_ k)
   cases d:aN ts [93] (E (p+1)) with
   |error l=>exact⟨λs e=>by cases e;exact c.er _ d,λa q e=>by cases e⟩
   |ok o=>
    obtain⟨i,q⟩:=o;have j:=c.ok i q d;exact((bT.index T f g _ q o_ j.2 o_).low (by omega:p<q)).weak
  ·exact eX.of_ok _ (eh _) b
def bT.bind{ts:List aX}(_T:bT ts){d:Type}{r:bS c}{f:c->Nat->bS d}(h:cK ts.length p r)(g:∀a q,p<q->q<ts.length->eX ts.length q (f a q)):cK ts.length p (bR r f):=by
 cases r with
 |error l=>exact⟨λj e=>by cases e;exact h.er _ rfl,λa q e=>by cases e⟩
 |ok i=>
  obtain⟨a,q⟩:=i;have b:=h.ok a q rfl;exact(g a q b.1 b.2).low b.1
def bT.unary{ts:List aX}(T:bT ts){E:Nat->bS aC}(c:∀q,p0<q->q<ts.length->cK ts.length q (E q)):∀(g p:Nat),p0<=p->p<ts.length->ts.length<=p+g->cK ts.length p (eH E ts g p)
 |0,p,_,b,i=>by omega
 |g+1,p,j,b,i=>by
  rw[eH];split
  ·rename_i e;have d:=T.isT b e;exact((bT.unary T c g (p+1) o_ d o_).low o_).map _
  split
  ·rename_i e;have d:=T.isT b e;exact((bT.unary T c g (p+1) o_ d o_).low o_).map _
  ·exact T.bind (T.primary c j b) λa q h f=>T.index c _ a q o_ f o_
def bT.levelLoop{ts:List aX}(T:bT ts){L:Nat->bS aC}(h:∀q,p0<=q->q<ts.length->cK ts.length q (L q)):∀(g:Nat) (n:aC) (q:Nat),p0<=q->q<ts.length->ts.length<=q+g->eX ts.length q (bE L ts k g n q)
 |0,n,q,_,b,o=>by omega
 |g+1,n,q,s,b,o=>by
  rw[bE];split
  ·rename_i i;have p:q+1<ts.length:=T.next q b λe=>by rw[e] at i;simp at i
   have f:=h (q+1) o_ p
   cases j:L (q+1) with
   |error l=>exact⟨λt e=>by cases e;exact f.er _ j,λa q e=>by cases e⟩
   |ok m=>
    obtain⟨r,c⟩:=m;have d:=f.ok r c j;simp only;split
    ·exact eX.of_ok _ o_ d.2
    ·exact((bT.levelLoop T h g _ c o_ d.2 o_).low (by omega:q<c)).weak
  ·exact eX.of_ok _ (eh _) b
def bT.level{ts:List aX}(T:bT ts){E:Nat->bS aC}(d:∀q,p0<q->q<ts.length->cK ts.length q (E q)):∀(j p:Nat),p0<=p->p<ts.length->cK ts.length p (fL E ts j p)
 |0,p,c,b=>T.unary d _ p c b o_
 |j+1,p,c,b=>by
  rw[fL];exact T.bind (bT.level T d j p c b) λa q f e=>T.levelLoop (p0:=p0) (λq c b=>bT.level T d j q c b) _ a q o_ e o_
def bT.expr{ts:List aX}(T:bT ts):∀(f p:Nat),p<ts.length->ts.length<=p+f->cK ts.length p (fC ts f p)
 |0,p,b,d=>by omega
 |f+1,p,b,d=>by
  rw[fC];exact T.level (p0:=p) (λq c a=>bT.expr T f q a o_) 5 p (eh _) b
def bT.exprs{ts:List aX}(T:bT ts):∀q,q<ts.length->cK ts.length q (fC ts (ts.length+1) q):=λq a=>T.expr _ q a o_
def bT.setLoop{ts:List aX}(T:bT ts){E:Nat->bS aC}(f:∀q,q<ts.length->cK ts.length q (E q)):∀(g p:Nat) (acc:List aC),p<ts.length->ts.length<=p+g->eX ts.length p (eP E ts g p acc)
 |0,p,acc,b,h=>by omega
 |g+1,p,acc,b,h=>by
  rw[eP];split
  ·rename_i m;have k:=T.isT b m;have c:=T.take (x:=[93]) (f (p+1) k);cases d:aN ts [93] (E (p+1)) with
   |error l=>exact⟨λo e=>by cases e;exact c.er _ d,λa q e=>by cases e⟩
   |ok n=>
    obtain⟨i,q⟩:=n;have j:=c.ok i q d;exact((bT.setLoop T f g q _ j.2 o_).low (by omega:p<q)).weak
  ·exact eX.of_ok _ (eh _) b
def bT.simple{ts:List aX}(T:bT ts){E:Nat->bS aC}(b:∀q,q<ts.length->cK ts.length q (E q))(d:p<ts.length):cK ts.length p (eO E ts p):=by
 unfold eO;split
 ·rename_i f;have c:p+1<ts.length:=T.next p d λe=>by rw[e] at f;simp at f
  split
  ·exact T.take (((T.listP (p0:=p) (λq _ a=>b q a) (p:=p+1) o_ c _ _).low o_).map _)
  ·exact T.bind ((T.takeW (T.setLoop b _ (p+1) [] c o_)).low o_) λg q _ a=>(T.take ((b q a).map _)).weak
 ·exact T.bad d
def bT.stmt{ts:List aX}(T:bT ts){E B:Nat->bS aC}(j:∀q,q<ts.length->cK ts.length q (E q))(o:∀q,p<q->q<ts.length->cK ts.length q (B q))(i:p<ts.length):cK ts.length p (jC E B ts p):=by
 unfold jC;split
 ·rename_i d;have a:=T.isT i d;unfold pA;split
  ·rename_i f;have l:p+2<ts.length:=T.next (p+1) a λe=>by rw[e] at f;simp at f
   split
   ·rename_i m;have s:p+3<ts.length:=T.isT l m;exact T.take (((j (p+3) s).low o_).map _)
   ·exact T.bad l
  ·exact T.bad a
 split
 ·rename_i d;have a:=T.isT i d;unfold rI;refine T.bind ((j (p+1) a).low o_) λc q g h=>(T.bind (o q g h) λb u t k=>?_).weak
  split
  ·rename_i r;have:=T.isT k r;exact(((o (u+1) o_ this).low o_).map _).weak
  ·exact eX.of_ok _ (eh _) k
 split
 ·rename_i d;have a:=T.isT i d;unfold kM;exact T.bind ((j (p+1) a).low o_) λc q g h=>((o q g h).map _).weak
 split
 ·rename_i d;have a:=T.isT i d;unfold gU;split
  ·rename_i n;exact cK.of_ok _ o_ (T.isT a n)
  ·exact T.take (((j (p+1) a).low o_).map _)
 split
 ·rename_i d;have a:=T.isT i d;unfold iU;exact T.take (((j (p+1) a).low o_).map _)
 ·exact T.simple j i
def bT.blockLoop{ts:List aX}(_T:bT ts){S:Nat->bS aC}(d:∀q,p0<q->q<ts.length->cK ts.length q (S q)):∀(g p:Nat) (acc:List aC),p0<p->p<ts.length->ts.length<=p+g->eX ts.length p (dJ S ts g p acc)
 |0,p,acc,_,b,h=>by omega
 |g+1,p,acc,i,b,h=>by
  rw[dJ];split
  ·exact eX.of_ok _ (eh _) b
  ·have c:=d p i b;cases f:S p with
   |error l=>exact⟨λm e=>by cases e;exact c.er _ f,λa q e=>by cases e⟩
   |ok k=>
    obtain⟨s,q⟩:=k;have j:=c.ok s q f;exact((bT.blockLoop _T d g q _ o_ j.2 o_).low (by omega:p<q)).weak
def bT.block{ts:List aX}(T:bT ts){E:Nat->bS aC}(d:∀q,q<ts.length->cK ts.length q (E q)):∀(f p:Nat),p<ts.length->ts.length<=p+f->cK ts.length p (iX E ts f p)
 |0,p,a,h=>by omega
 |f+1,p,a,h=>by
  rw[iX];split
  ·rename_i j;have e:=T.isT a j;refine((T.takeW (T.blockLoop (p0:=p) (λq g c=>T.stmt d (λi k b=>bT.block T d f i b o_) c) _ (p+1) [] o_ e o_)).low o_).map _
  ·exact T.bad a
def bT.paramLoop{ts:List aX}(T:bT ts):∀(g p:Nat) (acc:List aC),p<ts.length->ts.length<=p+g->cK ts.length p (cR ts g p acc)
 |0,p,acc,b,h=>by omega
 |g+1,p,acc,b,h=>by
  rw[cR];split
  ·rename_i f;have d:p+1<ts.length:=T.next p b λe=>by rw[e] at f;simp at f
   split
   ·rename_i a;have c:p+2<ts.length:=T.isT d a;exact(bT.paramLoop T g (p+2) _ c o_).low o_
   ·exact cK.of_ok _ o_ d
  ·exact T.bad b
def bT.func{ts:List aX}(T:bT ts){B:Nat->bS aC}(j:∀q,q<ts.length->cK ts.length q (B q))(h:p<ts.length):cK ts.length p (jZ B ts p):=by
 unfold jZ;split
 ·rename_i k;have g:=T.isT h k;split
  ·rename_i a;have d:p+2<ts.length:=T.next (p+1) g λe=>by rw[e] at a;simp at a
   split
   ·rename_i f;have c:p+3<ts.length:=T.isT d f
    have b:cK ts.length (p+3) (gW ts (p+3)):=by
     unfold gW;refine T.takeW ?_;split
     ·exact eX.of_ok _ (eh _) c
     ·exact(T.paramLoop _ (p+3) [] c o_).weak
    exact T.bind (b.low o_) λl q _ i=>((j q i).map _).weak
   ·exact T.bad d
  ·exact T.bad g
 ·exact T.bad h
def bT.progLoop{ts:List aX}(_T:bT ts){F:Nat->bS aC}(c:∀q,q<ts.length->cK ts.length q (F q)):∀(g p:Nat) (acc:List aC),p<ts.length->ts.length<=p+g->eX ts.length p (eQ F ts g p acc)
 |0,p,acc,b,h=>by omega
 |g+1,p,acc,b,h=>by
  rw[eQ];split
  ·exact eX.of_ok _ (eh _) b
  ·have d:=c p b;cases f:F p with
   |error l=>exact⟨λk e=>by cases e;exact d.er _ f,λa q e=>by cases e⟩
   |ok j=>
    obtain⟨s,q⟩:=j;have i:=d.ok s q f;exact((bT.progLoop _T c g q _ i.2 o_).low (by omega:p<q)).weak
def bT.prog{ts:List aX}(T:bT ts)(h:0<ts.length):mF ts≠.error 0:=
 (T.progLoop (λq a=>T.func (λc b=>T.block (λq a=>T.exprs q a) _ c b o_) a) _ 0 [] h o_).ne
structure oW(ts:List aX):Prop where
 some_:0<ts.length
 last:(aP ts (ts.length-1)).sort=101
 l_:∀p,p<ts.length->(aP ts p).l_≠0
def pS(t:aX)(ts:List aX)(p:Nat):aP (t::ts) (p+1)=aP ts p:=by simp[aP]
def KL(f:Nat):∀(a l:List UInt8) (ts:List aX),eI f a l=.ok ts->oW ts/\ts.length<=f:=by
 induction f with
 |zero=>intro a l ts h;cases h
 |succ f j=>
  intro a l ts h;by_cases d:l.length=0
  ·rw[mK _ _ _ d] at h;cases h;refine⟨⟨s_,rfl,λp c=>?_⟩,s_⟩
   obtain rfl:p=0:=by simp at c;omega
   show bA a≠0
   unfold bA;omega
  ·cases i:(cA l).ok
   ·rw[mL _ _ _ d i] at h;cases h
   ·rw[lY _ _ _ d i _ rfl] at h;cases g:eI f (a++l.take ((cA l).size+blankL l.length (l.drop (cA l).size))) (l.drop ((cA l).size+blankL l.length (l.drop (cA l).size))) with
    |error n=>rw[g] at h;cases h
    |ok b=>
     rw[g] at h;cases h;obtain⟨e,k⟩:=j _ _ b g;refine⟨⟨s_,?_,λp c=>?_⟩,t_⟩
     ·have:=e.some_;show (aP (_::b) ((_::b).length-1)).sort=101
      rw[eo,show b.length+1-1=(b.length-1)+1 by omega,pS]
      exact e.last
     ·cases p with
      |zero=>show bA a≠0;unfold bA;omega
      |succ p=>
       show (aP (_::b) (p+1)).l_≠0
       rw[pS];exact e.l_ p (by simpa using c)
def oW.ok{ts:List aX}(h:oW ts):bT ts:=
 ⟨λp b a=>by
   by_cases e:p=ts.length-1
   ·subst e;exact absurd h.last a
   ·omega,h.l_⟩
def sZ{ts:List aX}(h:gF l=.ok ts):oW ts/\ts.length<=l.length+1:=KL _ _ _ _ h
def cW(l:List UInt8):Except (Nat × Nat) (List aC):=
 if 2000<l.length then .error (1,0)
 else match dO l.length l 0 with
  |some k=>.error (2,bA (l.take k))
  |none=>
   match gF l with
   |.error n=>.error (3,n)
   |.ok ts=>
    match mF ts with
    |.error n=>.error (4,n)
    |.ok (ks,_)=>.ok ks
structure aZ where
 e_:List (List UInt8)
 kind:Nat
 l_:Nat
def aZ.found(s:aZ)(l_ kind:Nat):aZ:=if s.kind=0 then { s with kind:=kind,l_:=l_ } else s
def fM(x:List UInt8):Bool:=x==[108,101,110] || x==[114,101,97,100]
def declaresL(s:aZ)(n:aC):aZ:=if fM n.x_ || s.e_.contains n.x_ then s.found n.l_ 6 else s
def dM(fs:List aC)(name:List UInt8):Option aC:=fs.find? λf=>f.x_==name
def mB(fs:List aC)(a_:Bool)(name:List UInt8):Int:=
 if name==[108,101,110] then 1
 else if name==[114,101,97,100] && !a_ then 0
 else match dM fs name with
  |some f=>(f.y_.length:Int)-1
  |none=> -1
def eB(fs:List aC)(a_:Bool)(s:aZ)(n:aC):aZ:=
 if mB fs a_ n.x_<0 then s.found n.l_ 6
 else if mB fs a_ n.x_≠(n.y_.length:Int) then s.found n.l_ 7
 else s
def cF(fs:List aC)(a_:Bool)(s:aZ)(n:aC):aZ:=
 if n.op==[115,101,116] || n.op==[110,97,109,101] then (if s.e_.contains n.x_ then s else s.found n.l_ 6)
 else if n.op==[99,97,108,108] then eB fs a_ s n
 else s
def aO(fs:List aC)(a_:Bool):Nat->aC->aZ->aZ
 |0,_,s=>s
 |d+1,n,s=>
  if n.op==[118,97,114] then
   match n.y_ with
   |t::v::_=>let s1:=aO fs a_ d v (declaresL s t);{ s1 with e_:=s1.e_++[t.x_] }
   |_=>s
  else
   let s1:=n.y_.foldl (λs k=>aO fs a_ d k s) (cF fs a_ s n)
   if n.op==[98,108,111,99,107] then { s1 with e_:=s1.e_.take s.e_.length } else s1
def bX:Nat->aC->Nat
 |0,_=>0
 |d+1,n=>1+(n.y_.map (bX d)).sum
def L6:Nat->aC->Prop
 |0,_=>True
 |d+1,n=>(n.op=[118,97,114]->2<=n.y_.length)/\∀k∈n.y_,L6 d k
def FineA(m:Nat)(a:aC):Prop:=∀d,bX d a<=m/\L6 d a
def FineL(m:Nat)(l:List aC):Prop:=∀d,(l.map (bX d)).sum<=m/\∀k∈l,L6 d k
def FineA.le{a:aC}(h:FineA m a)(b:m<=n):FineA n a:=λd=>⟨em (h d).1 b,(h d).2⟩
def FineL.le{a:List aC}(h:FineL m a)(b:m<=n):FineL n a:=λd=>⟨em (h d).1 b,(h d).2⟩
def FineL.nil:FineL 0 []:=λ_=>⟨eh _,λ_ h=>by cases h⟩
def FineL.snoc{l:List aC}{a:aC}(h:FineL m l)(c:FineA n a):FineL (m+n) (l++[a]):=λd=>by
 refine⟨?_,λk b=>?_⟩
 ·rw[gh,ij];have f:=(h d).1;have e:=(c d).1;simp;omega
 ·rcases eu.1 b with b|b
  ·exact(h d).2 k b
  ·rw[ew.1 b];exact(c d).2
def FineL.one{a:aC}(b:FineA n a):FineL n [a]:=λd=>by
 refine⟨?_,λk c=>?_⟩
 ·have e:=(b d).1;simp;omega
 ·rw[ew.1 c];exact(b d).2
def FineL.two{a b:aC}(c:FineA m a)(d:FineA n b):FineL (m+n) [a,b]:=(FineL.one c).snoc d
def FineL.three{a b c:aC}(d:FineA m a)(e:FineA n b)(f:FineA k c):FineL (m+n+k) [a,b,c]:=(FineL.two d e).snoc f
def FineA.node{l:List aC}{op a:List UInt8}{b:Nat}(h:FineL m l)(c:op=[118,97,114]->2<=l.length):FineA (m+1) (aS op b a l):=λd=>by
 cases d with
 |zero=>exact⟨fy _,trivial⟩
 |succ d=>
  refine⟨?_,c,(h d).2⟩;have:=(h d).1;show 1+(l.map (bX d)).sum<=m+1
  omega
def bJ(P:Nat->α->Prop)(p:Nat)(r:bS α):Prop:=∀a q,r=.ok (a,q)->∃m,p+m<=q/\P m a
def bJ.bad{P:Nat->c->Prop}{b:Nat}{ts:List aX}:bJ P p (bad ts b):=λa q h=>by cases h
def bJ.err{P:Nat->b->Prop}:bJ P p (.error n):=λa q h=>by cases h
def bJ.of_ok{P:Nat->b->Prop}{a:b}(c:p+m<=q)(h:P m a):bJ P p (.ok (a,q)):=λd f e=>by cases e;exact⟨m,c,h⟩
def bJ.take{P:Nat->b->Prop}{ts:List aX}{r:bS b}(h:bJ P p r):bJ P p (aN ts x r):=by
 cases r with
 |error l=>exact bJ.err
 |ok c=>
  obtain⟨a,q⟩:=c;obtain⟨m,e,d⟩:=h a q rfl;unfold aN;simp only;split
  ·exact bJ.of_ok o_ d
  ·exact bJ.bad
def bJ.map{P:Nat->b->Prop}{Q:Nat->c->Prop}{r:bS b}{f:b->c}(h:bJ P p r)(n:d+k<=p)(i:∀m a,P m a->Q (m+k) (f a)):bJ Q d (bZ f r):=by
 cases r with
 |error l=>exact bJ.err
 |ok g=>
  obtain⟨a,q⟩:=g;obtain⟨m,j,e⟩:=h a q rfl;exact bJ.of_ok (m:=m+k) o_ (i m a e)
def bJ.bind{P:Nat->b->Prop}{Q:Nat->c->Prop}{r:bS b}{f:b->Nat->bS c}(h:bJ P p r)(e:∀m a q,P m a->p+m<=q->bJ Q d (f a q)):bJ Q d (bR r f):=by
 cases r with
 |error l=>exact bJ.err
 |ok g=>
  obtain⟨a,q⟩:=g;obtain⟨m,j,i⟩:=h a q rfl;exact e m a q i j
def bJ.low{P:Nat->c->Prop}{b:Nat}{r:bS c}(h:bJ P p r)(f:b<=p):bJ P b r:=λa q e=>by
 obtain⟨m,g,d⟩:=h a q e;exact⟨m,o_,d⟩
section
variable {ts:List aX} {E:Nat->bS aC}
def qM(c:∀q,bJ FineA q (E q)):∀(g p:Nat) (acc:List aC) (m0 p0:Nat),FineL m0 acc->p0+m0<=p->bJ FineL p0 (dI E ts g p acc)
 |0,p,acc,_,_,_,_=>bJ.err
 |g+1,p,acc,m0,p0,d,h=>by
  rw[dI];cases f:E p with
  |error l=>exact bJ.err
  |ok e=>
   obtain⟨a,q⟩:=e;obtain⟨m,i,b⟩:=c p a q f;simp only;split
   ·exact qM c g (q+1) _ (m0+m) p0 (d.snoc b) o_
   ·exact bJ.of_ok (m:=m0+m) o_ (d.snoc b)
def qL(a:∀q,bJ FineA q (E q))(p:Nat)(x y:List UInt8):bJ FineL (p+1) (eK E ts p x y):=by
 unfold eK;split
 ·refine bJ.take ?_;unfold iD;split
  ·exact bJ.of_ok (m:=0) o_ FineL.nil
  ·exact qM a _ _ _ 0 _ FineL.nil o_
 ·exact bJ.bad
def lP{op a:List UInt8}{b:Nat}(c:op≠[118,97,114]):FineA 1 (aS op b a []):=FineA.node (m:=0) FineL.nil λh=>absurd h c
def FW(b:∀q,bJ FineA q (E q))(p:Nat):bJ FineA p (dU E ts p):=by
 unfold dU;split
 ·exact bJ.of_ok (m:=1) o_ (lP s_)
 split
 ·exact bJ.of_ok (m:=1) o_ (lP s_)
 split
 ·exact((b (p+1)).take).low o_
 split
 ·exact bJ.map (k:=1) (qL b p _ _) o_ λm a h=>FineA.node h s_
 split
 ·split
  ·exact bJ.map (k:=1) (qL b (p+1) _ _) o_ λm a h=>FineA.node h s_
  ·exact bJ.of_ok (m:=1) o_ (lP s_)
 ·exact bJ.bad
def yD(b:∀q,bJ FineA q (E q)):∀(g:Nat) (n:aC) (p m0 p0:Nat),FineA m0 n->p0+m0<=p->bJ FineA p0 (cZ E ts g n p)
 |0,n,p,_,_,_,_=>bJ.err
 |g+1,n,p,m0,p0,a,d=>by
  rw[cZ];split
  ·have c:=(b (p+1)).take (ts:=ts) (x:=[93]);cases f:aN ts [93] (E (p+1)) with
   |error l=>exact bJ.err
   |ok h=>
    obtain⟨i,q⟩:=h;obtain⟨m,j,e⟩:=c i q f;exact yD b g _ q (m0+m+1) p0 (FineA.node (FineL.two a e) s_) o_
  ·exact bJ.of_ok d a
def qJ(b:∀q,bJ FineA q (E q)):∀(g p:Nat),bJ FineA p (eH E ts g p)
 |0,p=>bJ.err
 |g+1,p=>by
  rw[eH];split
  ·exact bJ.map (k:=1) (qJ b g (p+1)) o_ λm a h=>FineA.node (FineL.one h) s_
  split
  ·exact bJ.map (k:=1) (qJ b g (p+1)) o_ λm a h=>FineA.node (FineL.one h) s_
  ·exact bJ.bind (FW b p) λm a q d c=>yD b _ a q m p d c
def pV{L:Nat->bS aC}{k:Nat}(c:∀q,bJ FineA q (L q)):∀(g:Nat) (n:aC) (q m0 p0:Nat),FineA m0 n->p0+m0<=q->bJ FineA p0 (bE L ts k g n q)
 |0,n,q,_,_,_,_=>bJ.err
 |g+1,n,q,m0,p0,b,j=>by
  rw[bE];split
  ·cases o:L (q+1) with
   |error l=>exact bJ.err
   |ok h=>
    obtain⟨r,f⟩:=h;obtain⟨m,p,i⟩:=c _ r f o;have d:∀e a,FineA (m0+m+1) (aS e a [] [n,r]):=λe a=>FineA.node (FineL.two b i) s_
    simp only;split
    ·exact bJ.of_ok (m:=m0+m+1) o_ (d _ _)
    ·exact pV c g _ f (m0+m+1) p0 (d _ _) o_
  ·exact bJ.of_ok j b
def qN(b:∀q,bJ FineA q (E q)):∀(j p:Nat),bJ FineA p (fL E ts j p)
 |0,p=>qJ b _ p
 |j+1,p=>by
  rw[fL];exact bJ.bind (qN b j p) λm a q d c=>pV (λq=>qN b j q) _ a q m p d c
def CH(ts:List aX):∀(f p:Nat),bJ FineA p (fC ts f p)
 |0,p=>bJ.err
 |f+1,p=>by
  rw[fC];exact qN (λq=>CH ts f q) 5 p
def tB(b:∀q,bJ FineA q (E q)):∀(g p:Nat) (acc:List aC) (m0 p0:Nat),FineL m0 acc->p0+m0<=p->bJ FineL p0 (eP E ts g p acc)
 |0,p,acc,_,_,_,_=>bJ.err
 |g+1,p,acc,m0,p0,a,d=>by
  rw[eP];split
  ·have c:=(b (p+1)).take (ts:=ts) (x:=[93]);cases f:aN ts [93] (E (p+1)) with
   |error l=>exact bJ.err
   |ok h=>
    obtain⟨i,q⟩:=h;obtain⟨m,j,e⟩:=c i q f;exact tB b g q _ (m0+m) p0 (a.snoc e) o_
  ·exact bJ.of_ok d a
def KX(b:∀q,bJ FineA q (E q))(p:Nat):bJ FineA p (eO E ts p):=by
 unfold eO;split
 ·split
  ·exact bJ.take (bJ.map (k:=2) (qL b (p+1) _ _) o_ λm a h=>FineA.node (FineL.one (FineA.node h s_)) s_)
  ·refine bJ.bind ((tB b _ (p+1) [] 0 (p+1) FineL.nil o_).take) λm l q d f=>?_
   exact bJ.take (bJ.map (k:=m+1) (b q) o_ λe v c=>FineA.le (FineA.node (d.snoc c) s_) o_)
 ·exact bJ.bad
def TT{B:Nat->bS aC}(a:∀q,bJ FineA q (E q))(h:∀q,bJ FineA q (B q))(p:Nat):bJ FineA p (jC E B ts p):=by
 unfold jC;split
 ·unfold pA;split
  ·split
   ·exact bJ.take (bJ.map (k:=2) (a (p+3)) o_ λm v e=>FineA.le (FineA.node (FineL.two (lP s_) e) s_) o_)
   ·exact bJ.bad
  ·exact bJ.bad
 split
 ·unfold rI;refine bJ.bind (a (p+1)) λm c q f l=>bJ.bind (h q) λg b o i s=>?_
  split
  ·exact bJ.map (k:=m+g+1) (h (o+1)) o_ λr d j=>FineA.le (FineA.node (FineL.three f i j) s_) o_
  ·exact bJ.of_ok (m:=m+g+1) o_ (FineA.node (FineL.two f i) s_)
 split
 ·unfold kM;exact bJ.bind (a (p+1)) λm c q f l=>bJ.map (k:=m+1) (h q) o_ λg b n=>FineA.le (FineA.node (FineL.two f n) s_) o_
 split
 ·unfold gU;split
  ·exact bJ.of_ok (m:=1) o_ (lP s_)
  ·exact bJ.take (bJ.map (k:=1) (a (p+1)) o_ λm v e=>FineA.node (FineL.one e) s_)
 split
 ·unfold iU;exact bJ.take (bJ.map (k:=1) (a (p+1)) o_ λm v e=>FineA.node (FineL.one e) s_)
 ·exact KX a p
def pW{S:Nat->bS aC}(b:∀q,bJ FineA q (S q)):∀(g p:Nat) (acc:List aC) (m0 p0:Nat),FineL m0 acc->p0+m0<=p->bJ FineL p0 (dJ S ts g p acc)
 |0,p,acc,_,_,_,_=>bJ.err
 |g+1,p,acc,m0,p0,a,c=>by
  rw[dJ];split
  ·exact bJ.of_ok c a
  ·cases e:S p with
   |error l=>exact bJ.err
   |ok f=>
    obtain⟨s,q⟩:=f;obtain⟨m,h,d⟩:=b p s q e;exact pW b g q _ (m0+m) p0 (a.snoc d) o_
def yE(a:∀q,bJ FineA q (E q)):∀(f p:Nat),bJ FineA p (iX E ts f p)
 |0,p=>bJ.err
 |f+1,p=>by
  rw[iX];split
  ·exact bJ.map (k:=1) (bJ.take (pW (λq=>TT a (λq=>yE a f q) q) _ (p+1) [] 0 (p+1) FineL.nil o_)) o_ λm l h=>FineA.node h s_
  ·exact bJ.bad
def pU:∀(g p:Nat) (acc:List aC) (m0 p0:Nat),FineL m0 acc->p0+m0<=p->bJ FineL p0 (cR ts g p acc)
 |0,p,acc,_,_,_,_=>bJ.err
 |g+1,p,acc,m0,p0,b,c=>by
  have a:FineL (m0+1) (acc++[aS [112,97,114,97,109] (aP ts p).l_ (aP ts p).x_ []]):=b.snoc (lP s_)
  rw[cR];split
  ·split
   ·exact pU g (p+2) _ (m0+1) p0 a o_
   ·exact bJ.of_ok (m:=m0+1) o_ a
  ·exact bJ.bad
def TV{B:Nat->bS aC}(c:∀q,bJ FineA q (B q))(p:Nat):bJ FineA p (jZ B ts p):=by
 unfold jZ;split
 ·split
  ·split
   ·have a:bJ FineL (p+3) (gW ts (p+3)):=by
     unfold gW;refine bJ.take ?_;split
     ·exact bJ.of_ok (m:=0) o_ FineL.nil
     ·exact pU _ (p+3) [] 0 (p+3) FineL.nil o_
    exact bJ.bind a λm l q d g=>bJ.map (k:=m+1) (c q) o_ λf b e=>FineA.le (FineA.node (d.snoc e) s_) o_
   ·exact bJ.bad
  ·exact bJ.bad
 ·exact bJ.bad
def qK{F:Nat->bS aC}(b:∀q,bJ FineA q (F q)):∀(g p:Nat) (acc:List aC) (m0 p0:Nat),FineL m0 acc->p0+m0<=p->bJ FineL p0 (eQ F ts g p acc)
 |0,p,acc,_,_,_,_=>bJ.err
 |g+1,p,acc,m0,p0,a,c=>by
  rw[eQ];split
  ·exact bJ.of_ok c a
  ·cases f:F p with
   |error l=>exact bJ.err
   |ok d=>
    obtain⟨s,q⟩:=d;obtain⟨m,h,e⟩:=b p s q f;exact qK b g q _ (m0+m) p0 (a.snoc e) o_
end
def TU(ts:List aX)(T:bT ts)(e:0<ts.length)(ks:List aC)(q:Nat)(h:mF ts=.ok (ks,q)):FineL ts.length ks:=by
 obtain⟨m,f,d⟩:=qK (λq=>TV (λb=>yE (λq=>CH ts _ q) _ b) q) (ts.length+1) 0 [] 0 0 FineL.nil o_ ks q h
 have:=(T.progLoop (λq a=>T.func (λb c=>T.block (λq a=>T.exprs q a) _ b c o_) a) _ 0 [] e o_).ok ks q h
 exact d.le o_
def lA{ks:List aC}(h:cW l=.ok ks):FineL 2001 ks:=by
 unfold cW at h;split at h
 ·cases h
 rename_i e;split at h
 ·cases h
 split at h
 ·cases h
 rename_i c d;obtain⟨a,f⟩:=sZ d;split at h
 ·cases h
 rename_i q b;cases h;exact(TU c a.ok a.some_ _ _ b).le o_
def eR:Nat->aC->Prop
 |0,_=>False
 |d+1,n=>∀k∈n.y_,eR d k
def oH:∀(m:Nat) (a:aC),FineA m a->eR m a
 |0,a,h=>by
  have:=(h 1).1;simp only[bX] at this;omega
 |m+1,a,h=>λk b=>oH m k λd=>by
  have f:=(h (d+1)).1;have e:=(h (d+1)).2.2 k b;refine⟨?_,e⟩
  have:bX d k<=(a.y_.map (bX d)).sum:=by
   have:∀l:List aC,k∈l->bX d k<=(l.map (bX d)).sum:=by
    intro l;induction l with
    |nil=>intro h;cases h
    |cons x l c=>
     intro h;simp only[fe,ff];rcases ep.1 h with rfl|h
     ·omega
     ·have:=c h;omega
   exact this _ b
  simp only[bX] at f;omega
def eJ(fs:List aC)(d:Nat)(s:aZ)(k:aC):aZ:=
 if k.op==[112,97,114,97,109] then { declaresL s k with e_:=(declaresL s k).e_++[k.x_] } else aO fs false d k s
def fS(fs:List aC)(d:Nat)(s:aZ)(n:aC)(first:Bool):aZ:=
 n.y_.foldl (eJ fs d) { (if fM n.x_ || !first then s.found n.l_ 6 else s) with e_:=[] }
def eV(fs:List aC)(d:Nat):List aC->List aC->aZ->aZ
 |_,[],s=>s
 |pre,n::rest,s=>eV fs d (pre++[n]) rest (fS fs d s n (dM pre n.x_).isNone)
def kT(d:Nat)(ks:List aC):Nat × Nat:=
 match dM ks [109,97,105,110] with
 |none=>(5,0)
 |some m=>if 1<m.y_.length then (5,0) else ((eV ks d [] ks ⟨[],0,0⟩).kind,(eV ks d [] ks ⟨[],0,0⟩).l_)
def cH(l:List UInt8):Nat × Nat:=
 match cW l with
 |.error f=>f
 |.ok ks=>kT 2001 ks
def oR(t:aX):Prop:=t.sort=112\/(t.sort=107/\gI.contains t.x_=true)\/t.sort=110\/(t.sort=48/\(dH 0 t.x_).isSome=true)\/t.sort=115\/t.sort=101
def EW(ts:List aX):Prop:=∀t∈ts,oR t
def FG(l:List UInt8)(l_:Nat)(h:(cA l).ok=true):oR { sort:=(cA l).sort,x_:=(cA l).x_,l_:=l_ }:=by
 cases l with
 |nil=>simp[cA] at h
 |cons c r=>
  rw[cA] at h ⊢
  split
  ·rename_i a;rw[if_pos a] at h;unfold gJ at h ⊢
   split
   ·by_cases b:gI.contains ((c::r).take (bL (eC (fB c)) (c::r)))=true
    ·rw[if_pos b];exact d6 (d7 ⟨rfl,b⟩)
    ·rw[if_neg b];exact d6 (d6 (d7 rfl))
   ·rename_i f;rw[if_neg f] at h;exact d6 (d6 (d6 (d7 ⟨rfl,h⟩)))
  ·rename_i a;rw[if_neg a] at h;split
   ·exact d6 (d6 (d6 (d6 (d7 rfl))))
   ·rename_i d;rw[if_neg d] at h;unfold gH at h ⊢
    cases e:cE.find? (λo=>cN (c::r) o) with
    |none=>rw[e] at h;simp at h
    |some o=>exact d7 rfl
def TL(f:Nat):∀(a l:List UInt8) (ts:List aX),eI f a l=.ok ts->EW ts:=by
 induction f with
 |zero=>intro a l ts h;cases h
 |succ f i=>
  intro a l ts h;by_cases d:l.length=0
  ·rw[mK _ _ _ d] at h;cases h;intro t b;rw[ew.1 b];exact d6 (d6 (d6 (d6 (d6 rfl))))
  ·cases c:(cA l).ok
   ·rw[mL _ _ _ d c] at h;cases h
   ·rw[lY _ _ _ d c _ rfl] at h;cases e:eI f (a++l.take ((cA l).size+blankL l.length (l.drop (cA l).size))) (l.drop ((cA l).size+blankL l.length (l.drop (cA l).size))) with
    |error n=>rw[e] at h;cases h
    |ok g=>
     rw[e] at h;cases h;intro t b;rcases ep.1 b with rfl|b
     ·exact FG l _ c
     ·exact i _ _ g e t b
def OC{ts:List aX}(h:gF l=.ok ts):EW ts:=TL _ _ _ _ h
def EW.tk{ts:List aX}(h:EW ts)(p:Nat)(a:p<ts.length):oR (aP ts p):=by
 have:aP ts p=ts[p]:=by unfold aP;rw[fi a];rfl
 rw[this];exact h _ (fm a)
structure aJ where
 sort:Nat
 n:Int
 s:List UInt8
 l:List aJ
def aJ.ind{P:aJ->Prop}(h:∀v,(∀x,x∈v.l->P x)->P v):∀v,P v
 |⟨a,b,c,l⟩=>h ⟨a,b,c,l⟩ λx _=>aJ.ind h x
def bC(n:Int):aJ:=⟨0,n,[],[]⟩
def bO(b:Bool):aJ:=⟨1,if b then 1 else 0,[],[]⟩
def bK(s:List UInt8):aJ:=⟨2,0,s,[]⟩
def aY(l:List aJ):aJ:=⟨3,0,[],l⟩
def bN:aJ:=⟨0,0,[],[]⟩
noncomputable def aJ.fold(f:Nat->Int->List UInt8->List α->α)(v:aJ):α:=
 aJ.rec (motive_1:=λ_=>α) (motive_2:=λ_=>List α) (λa n s _ c=>f a n s c) [] (λ_ _ h t=>h::t) v
def aJ.fold_eq(f:Nat->Int->List UInt8->List b->b)(v:aJ):v.fold f=f v.sort v.n v.s (v.l.map (aJ.fold f)):=by
 obtain⟨a,n,s,l⟩:=v;refine congrArg (f a n s) ?_;induction l with
 |nil=>rfl
 |cons x l c=>exact congrArg (aJ.fold f x::·) c
noncomputable def aK(v:aJ):Nat:=v.fold λ_ _ s c=>1+s.length+c.sum
def eS(v:aJ):aK v=1+v.s.length+(v.l.map aK).sum:=aJ.fold_eq _ v
def YK:Nat->aJ->Prop
 |0,_=>True
 |d+1,v=> -9223372036854775808<=v.n/\v.n<=9223372036854775807/\∀x∈v.l,YK d x
structure oF(v:aJ):Prop where
 all:∀d,YK d v
def oF.lo{v:aJ}(h:oF v): -9223372036854775808<=v.n:=(h.all 1).1
def oF.hi{v:aJ}(h:oF v):v.n<=9223372036854775807:=(h.all 1).2.1
def oF.kid{v x:aJ}(h:oF v)(a:x∈v.l):oF x:=⟨λd=>(h.all (d+1)).2.2 x a⟩
def oF.mk'{v:aJ}(b: -9223372036854775808<=v.n)(a:v.n<=9223372036854775807)(c:∀x∈v.l,oF x):oF v:=
 ⟨λd=>by
   cases d with
   |zero=>trivial
   |succ d=>exact⟨b,a,λx e=>(c x e).all d⟩⟩
def nJ:List (α->Bool)->List α->Bool
 |[],[]=>true
 |f::fs,x::xs=>f x && nJ fs xs
 |_,_=>false
noncomputable def same(x:aJ):aJ->Bool:=x.fold λa n s c y=>a==y.sort && (n==y.n && (s==y.s && nJ c y.l))
def UK(x y:aJ):same x y=(x.sort==y.sort && (x.n==y.n && (x.s==y.s && nJ (x.l.map same) y.l))):=congrFun (aJ.fold_eq _ x) y
def yH:∀x y:aJ,same x y=true↔x=y:=by
 refine aJ.ind λx e y=>?_
 have d:∀(l:List aJ),(∀v,v∈l->∀y,same v y=true↔v=y)->∀m:List aJ,nJ (l.map same) m=true↔l=m:=by
  intro l;induction l with
  |nil=>intro _ m;cases m<;>simp[nJ]
  |cons a l c=>
   intro h m;cases m with
   |nil=>simp[nJ]
   |cons b m=>simp[nJ,h a s_ b,c (λv f=>h v (by simp[f])) m]
 rw[UK];simp only[gd,beq_iff_eq,d x.l e y.l];constructor
 ·rintro⟨j,g,k,i⟩;cases x;cases y;simp_all
 ·rintro rfl;simp
def jJ:Nat->Nat->List UInt8->List UInt8
 |0,_,t=>t
 |f+1,n,t=>if n<10 then UInt8.ofNat (48+n)::t else jJ f (n/10) (UInt8.ofNat (48+n%10)::t)
def iO(n:Int):List UInt8:=(if n<0 then [45] else [])++jJ 20 n.natAbs []
def fE:List (List UInt8)->List UInt8
 |[]=>[]
 |[x]=>x
 |x::r=>x++[44,32]++fE r
noncomputable def cD(v:aJ):List UInt8:=
 v.fold λa n s c=>if a=0 then iO n else if a=1 then (if n=1 then [116,114,117,101] else [102,97,108,115,101]) else if a=2 then [34]++s++[34] else [91]++fE c++[93]
def jY(v:aJ):cD v=if v.sort=0 then iO v.n else if v.sort=1 then (if v.n=1 then [116,114,117,101] else [102,97,108,115,101]) else if v.sort=2 then [34]++v.s++[34] else [91]++fE (v.l.map cD)++[93]:=aJ.fold_eq _ v
noncomputable def jB(v:aJ):List UInt8:=if v.sort=2 then v.s else cD v
def kZ(n:Int):Int:=(n+9223372036854775808)%18446744073709551616-9223372036854775808
noncomputable def jF(a b:aJ):aJ × Nat:=
 let v:=if a.sort=3 then aY (a.l++b.l) else bK (a.s++b.s)
 if 200<aK v then (bN,6) else (v,0)
def jG(op:List UInt8)(x y:Int):aJ × Nat:=
 if op=[43] then (bC (kZ (x+y)),0)
 else if op=[45] then (bC (kZ (x-y)),0)
 else if op=[42] then (bC (kZ (x*y)),0)
 else if op=[60] then (bO (decide (x<y)),0)
 else if op=[60,61] then (bO (decide (x<=y)),0)
 else if y=0 then (bN,3)
 else if op=[47] then (bC (kZ (x.tdiv y)),0)
 else (bC (kZ (x.tmod y)),0)
def fZ:List UInt8->List UInt8->Bool
 |[],[]=>false
 |[],_::_=>true
 |_::_,[]=>false
 |a::l,b::m=>if a.toNat<b.toNat then true else if b.toNat<a.toNat then false else fZ l m
noncomputable def eL(op:List UInt8)(a b:aJ):aJ × Nat:=
 if op=[61,61] then (bO (same a b),0)
 else if op=[33,61] then (bO (!same a b),0)
 else if a.sort≠b.sort\/a.sort=1 then (bN,2)
 else if a.sort=0 then jG op a.n b.n
 else if op=[43] then jF a b
 else if a.sort=2/\op=[60] then (bO (fZ a.s b.s),0)
 else if a.sort=2/\op=[60,61] then (bO (!fZ b.s a.s),0)
 else (bN,2)
def fG(op:List UInt8)(a:aJ):aJ × Nat:=
 if op=[45,120]/\a.sort=0 then (bC (kZ (-a.n)),0)
 else if op=[33,120]/\a.sort=1 then (bO (decide (a.n=0)),0)
 else (bN,2)
def iG:Nat->List UInt8->List (List UInt8)
 |0,_=>[]
 |f+1,l=>if l=[] then [] else if bF l=0 then [] else l.take (bF l)::iG f (l.drop (bF l))
def dT(l:List UInt8):List (List UInt8):=iG l.length l
def dX(a:aJ):aJ × Nat:=
 if a.sort=3 then (bC a.l.length,0) else if a.sort=2 then (bC (dT a.s).length,0) else (bN,2)
def jM(a:aJ):List aJ:=if a.sort=2 then (dT a.s).map bK else a.l
def dB(a b:aJ):aJ × Nat:=
 if a.sort<2\/b.sort≠0 then (bN,2)
 else if b.n<0\/((jM a).length:Int)<=b.n then (bN,4)
 else ((jM a).getD b.n.toNat bN,0)
def cL:List aJ->aJ->aJ->aJ × Nat
 |[],_,v=>(v,0)
 |i::at',old,v=>
  if old.sort≠3\/i.sort≠0 then (bN,2)
  else if i.n<0\/(old.l.length:Int)<=i.n then (bN,4)
  else if (cL at' (old.l.getD i.n.toNat bN) v).2≠0 then (bN,(cL at' (old.l.getD i.n.toNat bN) v).2)
  else (aY (old.l.set i.n.toNat (cL at' (old.l.getD i.n.toNat bN) v).1),0)
def kE:bF l<=l.length:=by
 unfold bF;cases l with
 |nil=>simp
 |cons b r=>
  simp only[List.getElem?_cons_zero]
  have q:∀i c d,dE (b::r) i c d=true->i<(b::r).length:=by
   intro i c d h;unfold dE at h;rcases fo i (b::r).length with a|a
   ·exact a
   ·rw[gu a] at h;simp at h
  split
  ·simp
  split
  ·split
   ·have:=q 1 _ _ (by assumption);omega
   ·simp
  split
  ·generalize (if b.toNat=224 then 160 else 128)=f
   generalize (if b.toNat=237 then 159 else 191)=e
   split
   ·rename_i h;rw[gd] at h;have:=q 2 _ _ h.2;omega
   ·simp
  split
  ·generalize (if b.toNat=240 then 144 else 128)=f
   generalize (if b.toNat=244 then 143 else 191)=e
   split
   ·rename_i h;rw[gd] at h;have:=q 3 _ _ h.2;omega
   ·simp
  ·simp
def rS:∀(f:Nat) (l:List UInt8),l.length<=f->iG f l=dT l:=by
 have h:∀(n f g:Nat) (l:List UInt8),l.length<=n->l.length<=f->l.length<=g->iG f l=iG g l:=by
  intro n;induction n with
  |zero=>
   intro f g l e c i;have:l=[]:=jb.1 o_
   subst this;cases f<;>cases g<;>simp[iG]
  |succ n d=>
   intro f g l e c i;by_cases a:l=[]
   ·subst a;cases f<;>cases g<;>simp[iG]
   ·have j:0<l.length:=ib.2 a;cases f with
    |zero=>omega
    |succ f=>
     cases g with
     |zero=>omega
     |succ g=>
      rw[iG,iG,if_neg a,if_neg a];by_cases b:bF l=0
      ·rw[if_pos b,if_pos b]
      ·rw[if_neg b,if_neg b,d f g (l.drop (bF l)) (by rw[gt];omega) (by rw[gt];omega) (by rw[gt];omega)]
 exact λf l a=>h l.length f l.length l (eh _) a (eh _)
def iF(a:l≠[])(b:bF l≠0):dT l=l.take (bF l)::dT (l.drop (bF l)):=by
 have c:0<l.length:=ib.2 a;obtain⟨n,d⟩:∃n,l.length=n+1:=⟨l.length-1,o_⟩
 rw[<-rS (n+1) l o_,iG,if_neg a,if_neg b,rS n _ (by rw[gt];omega)]
def dP(h:l=[]\/bF l=0):dT l=[]:=by
 unfold dT;cases a:l.length with
 |zero=>rfl
 |succ n=>
  rw[iG];rcases h with h|h
  ·rw[if_pos h]
  ·rw[if_pos h];split<;>rfl
def tL(l:List UInt8):(dT l).length<=l.length:=by
 have h:∀(n:Nat) (l:List UInt8),l.length<=n->(dT l).length<=l.length:=by
  intro n;induction n with
  |zero=>
   intro l d;rw[dP (d7 (jb.1 o_))];simp
  |succ n c=>
   intro l d;by_cases a:l=[]
   ·rw[dP (d7 a)];simp
   by_cases b:bF l=0
   ·rw[dP (d6 b)];simp
   have e:0<l.length:=ib.2 a;rw[iF a b,eo];have:=c (l.drop (bF l)) (by rw[gt];omega)
   rw[gt] at this;have:= @kE l;omega
 exact h l.length l (eh _)
inductive aH where
 |begin (l_:Nat) (e_:List (List UInt8))
 |push (v:aJ)
 |load (slot:Nat)
 |declare (slot:Nat)
 |assign (slot n:Nat)
 |jump (to_:Nat)
 |skip (to_:Nat)
 |shortcut (when:Bool) (to_:Nat)
 |truth
 |unary (op:List UInt8)
 |binary (op:List UInt8)
 |index
 |list (n:Nat)
 |length
 |read
 |call (f:Nat) (n:Nat)
 |give
 |drop
 |print
def aH.isBegin:aH->Bool
 |.begin _ _=>true
 |_=>false
structure dG where
 name:List UInt8
 code:List aH
structure aI where
 fn:dG
 next:Nat
 l_:Nat
 e_:List (List UInt8)
 g_:List aJ
 ops:List aJ
structure bV where
 f_:List aI
 tape:List Int
 out:List (List UInt8)
def aI.push(f:aI)(v:aJ):aI:={ f with ops:=f.ops++[v] }
def aI.last(f:aI):aJ:=f.ops.getLast?.getD bN
def aI.pop(f:aI):aI:={ f with ops:=f.ops.dropLast }
def aI.many(f:aI)(n:Nat):List aJ:=f.ops.drop (f.ops.length-n)
def aI.popMany(f:aI)(n:Nat):aI:={ f with ops:=f.ops.take (f.ops.length-n) }
noncomputable def iE(r:aJ × Nat):aJ × Nat:=if r.2=0 then if 200<aK r.1 then (bN,6) else r else r
noncomputable def nN(whole:aJ)(at_:List aJ)(to_:aJ):aJ × Nat:=iE (cL at_ whole to_)
noncomputable def aM(i:aH)(f:aI):aI × Nat:=
 match i with
 |.begin l s=>({ f with l_:=l,e_:=s },0)
 |.push v=>(f.push v,0)
 |.load k=>(f.push (f.g_[k]?.getD bN),0)
 |.declare k=>({ f.pop with g_:=f.g_.take k++[f.last] },0)
 |.assign k n=>
  let g:=f.pop.popMany n
  let r:=nN (f.g_[k]?.getD bN) (f.pop.many n) f.last
  if r.2=0 then ({ g with g_:=f.g_.set k r.1 },0) else (g,r.2)
 |.jump t=>({ f with next:=t },0)
 |.skip t=>if f.last.sort=1 then (if f.last.n=1 then f.pop else { f.pop with next:=t },0) else (f.pop,2)
 |.shortcut w t=>if f.last.sort=1 then (if decide (f.last.n=1)=w then { f.pop.push f.last with next:=t } else f.pop,0) else (f.pop,2)
 |.truth=>if f.last.sort=1 then (f.pop.push f.last,0) else (f.pop,2)
 |.unary op=>let r:=fG (op++[120]) f.last;if r.2=0 then (f.pop.push r.1,0) else (f.pop,r.2)
 |.binary op=>let r:=eL op f.pop.last f.last;if r.2=0 then (f.pop.pop.push r.1,0) else (f.pop.pop,r.2)
 |.index=>let r:=dB f.pop.last f.last;if r.2=0 then (f.pop.pop.push r.1,0) else (f.pop.pop,r.2)
 |.list n=>let r:=iE (aY (f.many n),0);if r.2=0 then ((f.popMany n).push r.1,0) else (f.popMany n,r.2)
 |.length=>let r:=dX f.last;if r.2=0 then (f.pop.push r.1,0) else (f.pop,r.2)
 |.drop=>(f.pop,0)
 |_=>(f,0)
noncomputable def doI(tab:List dG)(i:aH)(w_:List aI)(f:aI)(tape:List Int)(out:List (List UInt8)):bV × Nat:=
 match i with
 |.read=>
  match tape with
  |[]=>(⟨w_++[f],tape,out⟩,7)
  |t::r=>(⟨w_++[f.push (bC t)],r,out⟩,0)
 |.call k n=>
  if w_.length+1=16 then (⟨w_++[f.popMany n],tape,out⟩,5)
  else (⟨w_++[f.popMany n,⟨tab[k]?.getD ⟨[],[]⟩,0,0,[],f.many n,[]⟩],tape,out⟩,0)
 |.give=>(⟨w_.dropLast++(w_.getLast?.map λg=>g.push f.last).toList,tape,out⟩,0)
 |.print=>if out.length=50 then (⟨w_++[f.pop],tape,out⟩,8) else (⟨w_++[f.pop],tape,out++[jB f.last]⟩,0)
 |i=>let r:=aM i f;(⟨w_++[r.1],tape,out⟩,r.2)
def aI.fetch(f:aI):Option (aH × aI):=f.fn.code[f.next]?.map λi=>(i,{ f with next:=f.next+1 })
noncomputable def cM(tab:List dG):Nat->bV->Option (bV × Nat)
 |0,_=>none
 |k+1,m=>
  match m.f_.getLast? with
  |none=>some (m,1)
  |some f=>
   match f.fetch with
   |none=>none
   |some (i,g)=>
    let r:=doI tab i m.f_.dropLast g m.tape m.out
    if r.2≠0 then some r
    else if i.isBegin then some r
    else cM tab k r.1
structure bI where
 m_:Nat
 m:bV
 stop:Nat
def bU(m_ stop:Nat):Nat:=if stop=0/\m_=500 then 9 else stop
def dL:List (List UInt8)->List UInt8->Nat
 |[],_=>0
 |x::l,name=>if x=name then l.length else dL l name
def cS(fs:List aC)(name:List UInt8):Nat:=fs.findIdx λf=>f.x_==name
def bP(c:aC->Nat->List aH):List aC->Nat->List aH
 |[],_=>[]
 |a::l,p=>c a p++bP c l (p+(c a p).length)
def aG(fs:List aC)(e_:List (List UInt8)):Nat->aC->Nat->List aH
 |0,_,_=>[]
 |d+1,a,p=>
  let y_:=bP (aG fs e_ d) a.y_ p
  if a.op==[48] then [.push (bC (((dH 0 a.x_).getD 0:Nat):Int))]
  else if a.op==[115] then [.push (bK a.x_)]
  else if a.op==[98,111,111,108] then [.push (bO (a.x_==[116,114,117,101]))]
  else if a.op==[110,97,109,101] then [.load (dL e_ a.x_)]
  else if a.op==[108,105,115,116] then y_++[.list a.y_.length]
  else if a.op==[105,110,100,101,120] then y_++[.index]
  else if a.op==[45,120] then y_++[.unary [45]]
  else if a.op==[33,120] then y_++[.unary [33]]
  else if a.op==[99,97,108,108] then
   y_++[if a.x_==[108,101,110] then .length else if a.x_==[114,101,97,100] then .read else .call (cS fs a.x_) a.y_.length]
  else if a.op==[38,38] || a.op==[124,124] then
   match a.y_ with
   |[l,r]=>
    let cl:=aG fs e_ d l p
    let cr:=aG fs e_ d r (p+cl.length+1)
    cl++[.shortcut (a.op==[124,124]) (p+cl.length+1+cr.length+1)]++cr++[.truth]
   |_=>[]
  else y_++[.binary a.op]
def bG(c:List (List UInt8)->aC->Nat->List aH × List (List UInt8)):List (List UInt8)->List aC->Nat->List aH
 |_,[],_=>[]
 |e_,a::l,p=>(c e_ a p).1++bG c (c e_ a p).2 l (p+(c e_ a p).1.length)
def aW(fs:List aC):Nat->List (List UInt8)->aC->Nat->List aH × List (List UInt8)
 |0,e_,_,_=>([],e_)
 |d+1,e_,a,p=>
  let start:=aH.begin a.l_ e_
  let blk:=λ(b:aC) q=>bG (aW fs d) e_ b.y_ q
  if a.op==[118,97,114] then
   match a.y_ with
   |[t,v]=>(start::aG fs e_ d v (p+1)++[.declare e_.length],t.x_::e_)
   |_=>([],e_)
  else if a.op==[115,101,116] then
   (start::bP (aG fs e_ d) a.y_ (p+1)++[.assign (dL e_ a.x_) (a.y_.length-1)],e_)
  else if a.op==[105,102] then
   match a.y_ with
   |c::t::e=>
    let cc:=aG fs e_ d c (p+1)
    let ct:=blk t (p+1+cc.length+1)
    let q:=p+1+cc.length+1+ct.length+1
    let ce:=match e with|[x]=>blk x q|_=>[]
    (start::cc++[.skip q]++ct++[.jump (q+ce.length)]++ce,e_)
   |_=>([],e_)
  else if a.op==[119,104,105,108,101] then
   match a.y_ with
   |[c,b]=>
    let cc:=aG fs e_ d c (p+1)
    let cb:=blk b (p+1+cc.length+1)
    (start::cc++[.skip (p+1+cc.length+1+cb.length+1)]++cb++[.jump p],e_)
   |_=>([],e_)
  else if a.op==[114,101,116,117,114,110] then
   match a.y_ with
   |[v]=>(start::aG fs e_ d v (p+1)++[.give],e_)
   |_=>([start,.push (bC 0),.give],e_)
  else if a.op==[112,114,105,110,116] then
   match a.y_ with
   |[v]=>(start::aG fs e_ d v (p+1)++[.print],e_)
   |_=>([],e_)
  else
   match a.y_ with
   |[c]=>(start::aG fs e_ d c (p+1)++[.drop],e_)
   |_=>([],e_)
def eY(fs:List aC)(d:Nat)(f:aC):dG:=
 let e_:=(f.y_.dropLast.map (·.x_)).reverse
 ⟨f.x_,bG (aW fs d) e_ ((f.y_.getLast?.map (·.y_)).getD []) 0++[.push (bC 0),.give]⟩
def cP(fs:List aC)(d:Nat):List dG:=fs.map (eY fs d)
def eU(fs:List aC)(d:Nat)(tape:List Int):bV:=⟨[⟨(cP fs d)[cS fs [109,97,105,110]]?.getD ⟨[],[]⟩,0,0,[],[],[]⟩],tape,[]⟩
structure dY where
 h:Nat
 v:Nat
 e:Option Nat
 b:Bool
def eG(D:Nat->Prop)(T:Nat->dY)(q h v:Nat)(e:Option Nat):Prop:=D q/\(T q).h=h/\(T q).v<=v/\((T q).e=none\/(T q).e=e)
def iT(ar:Nat->Option Nat)(D:Nat->Prop)(T:Nat->dY)(p:Nat)(i:aH):Prop:=
 (T p).b=i.isBegin/\(T p).h<=p/\
 match i with
 |.begin _ s=>s.length<=(T p).v/\eG D T (p+1) (T p).h (T p).v (some s.length)
 |.push _=>eG D T (p+1) ((T p).h+1) (T p).v (T p).e
 |.load k=>k<(T p).v/\eG D T (p+1) ((T p).h+1) (T p).v (T p).e
 |.declare k=>1<=(T p).h/\k<=(T p).v/\k<=90000/\(T p).e=some k/\eG D T (p+1) ((T p).h-1) (k+1) (T p).e
 |.assign k n=>n+1<=(T p).h/\k<(T p).v/\eG D T (p+1) ((T p).h-(n+1)) (T p).v (T p).e
 |.jump q=>(p<q\/(T q).b=true)/\eG D T q (T p).h (T p).v (T p).e
 |.skip q=>1<=(T p).h/\p<q/\eG D T q ((T p).h-1) (T p).v (T p).e/\eG D T (p+1) ((T p).h-1) (T p).v (T p).e
 |.shortcut _ q=>1<=(T p).h/\p<q/\eG D T q (T p).h (T p).v (T p).e/\eG D T (p+1) ((T p).h-1) (T p).v (T p).e
 |.truth=>1<=(T p).h/\eG D T (p+1) (T p).h (T p).v (T p).e
 |.unary _=>1<=(T p).h/\eG D T (p+1) (T p).h (T p).v (T p).e
 |.length=>1<=(T p).h/\eG D T (p+1) (T p).h (T p).v (T p).e
 |.binary _=>2<=(T p).h/\eG D T (p+1) ((T p).h-1) (T p).v (T p).e
 |.index=>2<=(T p).h/\eG D T (p+1) ((T p).h-1) (T p).v (T p).e
 |.list n=>n<=(T p).h/\eG D T (p+1) ((T p).h-n+1) (T p).v (T p).e
 |.read=>eG D T (p+1) ((T p).h+1) (T p).v (T p).e
 |.call k n=>n<=(T p).h/\ar k=some n/\eG D T (p+1) ((T p).h-n+1) (T p).v (T p).e
 |.give=>1<=(T p).h
 |.drop=>1<=(T p).h/\eG D T (p+1) ((T p).h-1) (T p).v (T p).e
 |.print=>1<=(T p).h/\eG D T (p+1) ((T p).h-1) (T p).v (T p).e
def NP(L:Nat->dY->Prop)(lo hi:Nat)(q:Nat):Prop:=(lo<=q/\q<=hi)\/∃y,L q y
def bH(ar:Nat->Option Nat)(L:Nat->dY->Prop)(p:Nat)(c:List aH)(h v:Nat)(e:Option Nat)(h' v':Nat)(e':Option Nat):Prop:=
 ∃T:Nat->dY,(∀q y,L q y->T q=y)/\(T p).h=h/\(T p).v<=v/\((T p).e=none\/(T p).e=e)/\
  (T (p+c.length)).h=h'/\(T (p+c.length)).v=v'/\(T (p+c.length)).e=e'/\
  ∀j i,c[j]?=some i->iT ar (NP L p (p+c.length)) T (p+j) i
def eG.same{D b:Nat->Prop}{T T':Nat->dY}(f:eG D T q h v e)(c:D q->b q/\(T' q).h=(T q).h/\(T' q).v<=(T q).v/\((T' q).e=none\/(T' q).e=(T q).e)):eG b T' q h v e:=by
 obtain⟨j,d,m,i⟩:=f;obtain⟨k,g,l,a⟩:=c j;refine⟨k,by rw[g,d],o_,?_⟩
 rcases a with a|a
 ·exact d7 a
 ·rw[a];exact i
def iT.same{D e:Nat->Prop}{T T':Nat->dY}{i:aH}(f:iT ar D T p i)(c:T' p=T p)
 (b:∀q,D q->e q/\(T' q).h=(T q).h/\(T' q).v<=(T q).v/\((T' q).e=none\/(T' q).e=(T q).e)) (k:∀q,D q->q<=p->(T q).b=true->(T' q).b=true):iT ar e T' p i:=by
 obtain⟨j,g,a⟩:=f;refine⟨by rw[c];exact j,by rw[c];exact g,?_⟩
 cases i<;>simp only at a ⊢<;>try rw[c]
 case jump q=>
  refine⟨?_,a.2.same (b _)⟩;rcases a.1 with h|h
  ·exact d7 h
  ·rcases fo p q with d|d
   ·exact d7 d
   ·exact d6 (k q a.2.1 d h)
 all_goals first
  |exact a
  |exact a.same (b _)
  |exact⟨a.1,a.2.same (b _)⟩
  |exact⟨a.1,a.2.1,a.2.2.same (b _)⟩
  |exact⟨a.1,a.2.1,a.2.2.1.same (b _),a.2.2.2.same (b _)⟩
  |exact⟨a.1,a.2.1,a.2.2.1,a.2.2.2.1,a.2.2.2.2.same (b _)⟩
def bH.append{L:Nat->dY->Prop}{c c':List aH}{s r:Nat}{w t:Option Nat}(a:bH ar L p c h v e s v1 w)(b:bH ar L (p+c.length) c' s v1 w r v2 t)
 (F:∀q y,L q y->q<=p\/p+c.length+c'.length<=q) (I:c≠[]):bH ar L p (c++c') h v e r v2 t:=by
 obtain⟨T,n,x,z,C,H,E,D,G⟩:=a;obtain⟨U,u1,u2,u3,u4,u5,u6,u7,u8⟩:=b;have B:0<c.length:=ib.2 I;have f:(c++c').length=c.length+c'.length:=ej;refine⟨λq=>if q<p+c.length then T q else U q,λq y d=>?_,?_,?_,?_,?_,?_,?_,λj i m=>?_⟩
 ·rcases F q y d with h|h
  ·simp only[if_pos (show q<p+c.length by omega)];exact n q y d
  ·simp only[if_neg (show ¬q<p+c.length by omega)];exact u1 q y d
 ·simp only[if_pos (show p<p+c.length by omega)];exact x
 ·simp only[if_pos (show p<p+c.length by omega)];exact z
 ·simp only[if_pos (show p<p+c.length by omega)];exact C
 ·simp only[if_neg (show ¬p+(c++c').length<p+c.length by omega)];rw[f,<-jn];exact u5
 ·simp only[if_neg (show ¬p+(c++c').length<p+c.length by omega)];rw[f,<-jn];exact u6
 ·simp only[if_neg (show ¬p+(c++c').length<p+c.length by omega)];rw[f,<-jn];exact u7
 ·rcases fo j c.length with k|k
  ·rw[g9 k] at m;refine(G j i m).same (by simp only[if_pos (show p+j<p+c.length by omega)]) (λq d=>?_) (λq d o l=>?_)
   ·rcases fo q (p+c.length) with h|h
    ·rw[if_pos h];exact⟨d.imp (λd=>⟨d.1,o_⟩) id,rfl,eh _,d6 rfl⟩
    ·rw[if_neg (show ¬q<p+c.length by omega)]
     rcases ic h with h|h
     ·subst h;exact⟨d7 ⟨o_,o_⟩,by rw[u2,H],by rw[E];exact u3,by rw[D];exact u4⟩
     ·rcases d with d|⟨y,g⟩
      ·omega
      ·rw[n q y g,u1 q y g];exact⟨d6 ⟨y,g⟩,rfl,eh _,d6 rfl⟩
   ·simp only[if_pos (show q<p+c.length by omega)];exact l
  ·rw[gp k] at m;have u:=u8 (j-c.length) i m;rw[show p+c.length+(j-c.length)=p+j by omega] at u
   have A:j-c.length<c'.length:=(gv.1 m).1;refine u.same (by simp only[if_neg (show ¬p+j<p+c.length by omega)]) (λq d=>?_) (λq d o l=>?_)
   ·rcases d with d|⟨y,g⟩
    ·rw[if_neg (show ¬q<p+c.length by omega)]
     exact⟨d7 ⟨o_,o_⟩,rfl,eh _,d6 rfl⟩
    ·refine⟨d6 ⟨y,g⟩,?_⟩;split
     ·rw[n q y g,u1 q y g];exact⟨rfl,eh _,d6 rfl⟩
     ·exact⟨rfl,eh _,d6 rfl⟩
   ·rcases d with d|⟨y,g⟩
    ·simp only[if_neg (show ¬q<p+c.length by omega)];exact l
    ·split
     ·rw[n q y g,<-u1 q y g];exact l
     ·exact l
def bH.nil(ar:Nat->Option Nat)(p h v:Nat)(e:Option Nat)(L:Nat->dY->Prop)(k:∀q y,L q y->q=p->y.h=h/\y.v=v/\y.e=e)(l:∀q y z,L q y->L q z->y=z):bH ar L p [] h v e h v e:=by
 classical
 refine⟨λq=>if hq:∃y,L q y then hq.choose else ⟨h,v,e,false⟩,λq y d=>?_,?_⟩
 ·have a:∃y,L q y:=⟨y,d⟩;simp only[dif_pos a];exact l q _ _ a.choose_spec d
 ·simp only[ex,Nat.add_zero];split
  ·rename_i a;obtain⟨c,g,f⟩:=k p _ a.choose_spec rfl;exact⟨c,o_,d6 f,c,g,f,λj i b=>by simp at b⟩
  ·exact⟨rfl,eh _,d6 rfl,rfl,rfl,rfl,λj i b=>by simp at b⟩
structure oZ(ar:Nat->Option Nat)(c:List aH)(T:Nat->dY):Prop where
 ins:∀j i,c[j]?=some i->iT ar (λq=>q<c.length) T j i
 len:c.length<=80000
def iB(c:List aH):Prop:=(∃l s r,c=.begin l s::r)\/∃v,c=[.push v,.give]
structure cI(ar:Nat->Option Nat)(f:aI)(more:Nat):Prop where
 code:∃T,oZ ar f.fn.code T/\(T f.next).h=f.ops.length+more/\(T f.next).v<=f.g_.length/\((T f.next).e=none\/(T f.next).e=some f.e_.length)
 next:f.next<f.fn.code.length
 e_:f.e_.length<=f.g_.length
 g_:f.g_.length<=90001
structure aJ_(f:aI):Prop where
 e_:f.e_.length<=f.g_.length
structure iS(ar:Nat->Option Nat)(tab:List dG):Prop where
 fn:∀k n,ar k=some n->∃f T,tab[k]?=some f/\oZ ar f.code T/\(T 0).h=0/\(T 0).v<=n/\(T 0).e=none/\
  iB f.code
structure nQ(ar:Nat->Option Nat)(m:bV):Prop where
 low:∀f∈m.f_.dropLast,cI ar f 1
 top:∀f,m.f_.getLast?=some f->cI ar f 0
 deep:m.f_.length<=16
def dW(l:List b)(a:b):(l++[a]).getLast?=some a:=s_
def dA(l:List b)(a:b):(l++[a]).dropLast=l:=s_
def nQ.snoc{a:List aI}{f:aI}(d:∀g∈a,cI ar g 1)(c:cI ar f 0)(e:a.length+1<=16):nQ ar ⟨a++[f],t,o⟩:=
 ⟨by simp only[dA];exact d,λg b=>by simp only[dW] at b;cases b;exact c,t_⟩
def cI.flow{T:Nat->dY}{f g:aI}(l:oZ ar f.fn.code T)(j:eG (λq=>q<f.fn.code.length) T g.next h v e)(b:g.fn=f.fn)(m:h=g.ops.length)(n:v<=g.g_.length)(d:e=none\/e=some g.e_.length)
 (i:g.e_.length<=g.g_.length) (k:g.g_.length<=90001):cI ar g 0:=by
 obtain⟨c,o,p,a⟩:=j;refine⟨⟨T,by rw[b];exact l,o_,o_,?_⟩,by rw[b];exact c,i,k⟩
 rcases a with a|a
 ·exact d7 a
 ·rw[a];exact d
def aI.pop_len(f:aI):f.pop.ops.length=f.ops.length-1:=by simp[aI.pop]
def aI.push_len(f:aI)(v:aJ):(f.push v).ops.length=f.ops.length+1:=by simp[aI.push]
def aI.popMany_len(f:aI)(n:Nat):(f.popMany n).ops.length=f.ops.length-n:=by simp[aI.popMany]
def GJ{T:Nat->dY}{f:aI}{i:aH}(e:oZ ar f.fn.code T)(c:iT ar (λq=>q<f.fn.code.length) T f.next i)
 (p:(T f.next).h=f.ops.length) (j:(T f.next).v<=f.g_.length) (d:(T f.next).e=none\/(T f.next).e=some f.e_.length) (b:f.e_.length<=f.g_.length) (g:f.g_.length<=90001)
 (C:i≠.give) (B:i≠.read) (z:i≠.print) (u:∀k n,i≠.call k n) (r:aI × Nat) (a:r=aM i { f with next:=f.next+1 }):
 r.1.e_.length<=r.1.g_.length/\(r.2=0->cI ar r.1 0):=by
 obtain⟨_,_,c⟩:=c;have x:=b;cases i with
 |give=>exact absurd rfl C
 |read=>exact absurd rfl B
 |print=>exact absurd rfl z
 |call k n=>exact absurd rfl (u k n)
 |begin l s=>
  simp only[aM] at a c;subst a;exact⟨by simp only;omega,λ_=>cI.flow (f:=f) e c.2 rfl p j (d6 rfl) (by simp only;omega) g⟩
 |push v=>
  simp only[aM] at a c;subst a;exact⟨b,λ_=>cI.flow (f:=f) e c rfl (by rw[aI.push_len];simp only;omega) j d b g⟩
 |load k=>
  simp only[aM] at a c;subst a;exact⟨b,λ_=>cI.flow (f:=f) e c.2 rfl (by rw[aI.push_len];simp only;omega) j d b g⟩
 |declare k=>
  simp only[aM] at a c;subst a;obtain⟨G,E,F,A,y⟩:=c;have t:f.e_.length=k:=by rcases d with d|d<;>rw[A] at d<;>cases d;rfl
  have o:(f.g_.take k++[aI.last { f with next:=f.next+1 }]).length=k+1:=t_
  exact⟨by show f.e_.length<=(f.g_.take k++[_]).length;rw[o];omega,λ_=>cI.flow (f:=f) e y rfl (by show _=(aI.pop _).ops.length;rw[aI.pop_len];simp only;omega) (by show _<=(f.g_.take k++[_]).length;rw[o];omega) d (by show f.e_.length<=(f.g_.take k++[_]).length;rw[o];omega) (by show (f.g_.take k++[_]).length<=_;rw[o];omega)⟩
 |assign k n=>
  simp only[aM] at a c;split at a
  ·subst a;refine⟨by simp only[ig];exact b,λ_=>cI.flow (f:=f) e c.2.2 rfl ?_ (by simp only[ig];exact j) d (by simp only[ig];exact b) (by simp only[ig];exact g)⟩
   show _=(aI.popMany _ n).ops.length
   rw[aI.popMany_len,aI.pop_len];simp only;omega
  ·subst a;rename_i m;exact⟨b,λh=>absurd h m⟩
 |jump q=>
  simp only[aM] at a c;subst a;exact⟨b,λ_=>cI.flow (f:=f) e c.2 rfl p j d b g⟩
 |skip q=>
  simp only[aM] at a c;split at a
  ·subst a;refine⟨?_,λ_=>?_⟩
   ·split<;>exact b
   ·split
    ·exact cI.flow (f:=f) e c.2.2.2 rfl (by rw[aI.pop_len];simp only;omega) j d b g
    ·exact cI.flow (f:=f) e c.2.2.1 rfl (by show _=(aI.pop _).ops.length;rw[aI.pop_len];simp only;omega) j d b g
  ·subst a;exact⟨b,λh=>absurd h s_⟩
 |shortcut w q=>
  simp only[aM] at a c;split at a
  ·subst a;refine⟨?_,λ_=>?_⟩
   ·split<;>exact b
   ·split
    ·exact cI.flow (f:=f) e c.2.2.1 rfl (by show _=(aI.push (aI.pop _) _).ops.length;rw[aI.push_len,aI.pop_len];simp only;omega) j d b g
    ·exact cI.flow (f:=f) e c.2.2.2 rfl (by rw[aI.pop_len];simp only;omega) j d b g
  ·subst a;exact⟨b,λh=>absurd h s_⟩
 |truth=>
  simp only[aM] at a c;split at a
  ·subst a;exact⟨b,λ_=>cI.flow (f:=f) e c.2 rfl (by rw[aI.push_len,aI.pop_len];simp only;omega) j d b g⟩
  ·subst a;exact⟨b,λh=>absurd h s_⟩
 |unary D=>
  simp only[aM] at a c;split at a
  ·subst a;exact⟨b,λ_=>cI.flow (f:=f) e c.2 rfl (by rw[aI.push_len,aI.pop_len];simp only;omega) j d b g⟩
  ·subst a;rename_i m;exact⟨b,λh=>absurd h m⟩
 |length=>
  simp only[aM] at a c;split at a
  ·subst a;exact⟨b,λ_=>cI.flow (f:=f) e c.2 rfl (by rw[aI.push_len,aI.pop_len];simp only;omega) j d b g⟩
  ·subst a;rename_i m;exact⟨b,λh=>absurd h m⟩
 |binary D=>
  simp only[aM] at a c;split at a
  ·subst a;exact⟨b,λ_=>cI.flow (f:=f) e c.2 rfl (by rw[aI.push_len,aI.pop_len,aI.pop_len];simp only;omega) j d b g⟩
  ·subst a;rename_i m;exact⟨b,λh=>absurd h m⟩
 |index=>
  simp only[aM] at a c;split at a
  ·subst a;exact⟨b,λ_=>cI.flow (f:=f) e c.2 rfl (by rw[aI.push_len,aI.pop_len,aI.pop_len];simp only;omega) j d b g⟩
  ·subst a;rename_i m;exact⟨b,λh=>absurd h m⟩
 |list n=>
  simp only[aM] at a c;split at a
  ·subst a;exact⟨b,λ_=>cI.flow (f:=f) e c.2 rfl (by rw[aI.push_len,aI.popMany_len];simp only;omega) j d b g⟩
  ·subst a;rename_i m;exact⟨b,λh=>absurd h m⟩
 |drop=>
  simp only[aM] at a c;subst a;exact⟨b,λ_=>cI.flow (f:=f) e c.2 rfl (by rw[aI.pop_len];simp only;omega) j d b g⟩
structure eT(ar:Nat->Option Nat)(m:bV):Prop where
 ok:nQ ar m
 start:∀f∈m.f_,iB f.fn.code
def cI.pushed{f:aI}(h:cI ar f 1)(v:aJ):cI ar (f.push v) 0:=by
 obtain⟨⟨T,c,i,g,b⟩,e,a,d⟩:=h;exact⟨⟨T,c,by show (T f.next).h=(f.ops++[v]).length+0;simp;omega,g,b⟩,e,a,d⟩
def sK{b:List dG}{i:aH}{a:List aI}{f:aI}(g:i≠.give)(e:i≠.read)(c:i≠.print)(d:∀k n,i≠.call k n):doI b i a f t o=(⟨a++[(aM i f).1],t,o⟩,(aM i f).2):=by
 cases i<;>first|rfl|exact absurd rfl g|exact absurd rfl e|exact absurd rfl c|exact absurd rfl (d _ _)
def mA(i:aH)(f:aI):(aM i f).1.fn=f.fn:=by
 cases i<;>simp only[aM]<;>(repeat' split)<;>rfl
def sJ{A:List dG}(ht:iS ar A){d:List aI}{f:aI}(h:eT ar ⟨d++[f],t,o⟩){i:aH}{g:aI}(I:f.fetch=some (i,g)):
 (∀x∈(doI A i d g t o).1.f_,x.e_.length<=x.g_.length)/\(doI A i d g t o).1.f_.length<=16/\((doI A i d g t o).2=0->eT ar (doI A i d g t o).1):=by
 have q:∀x∈d,cI ar x 1:=by have:=h.ok.low;simpa only[dA] using this
 have Q:cI ar f 0:=h.ok.top f (dW _ _);have w:d.length+1<=16:=by have:=h.ok.deep;simpa using this
 have z:∀x∈d,iB x.fn.code:=λx m=>h.start x (by simp[m])
 have H:iB f.fn.code:=h.start f s_
 obtain⟨⟨T,K,hh,W,X⟩,ac,C,V⟩:=Q
 obtain⟨rfl,hi⟩:g={ f with next:=f.next+1 }/\f.fn.code[f.next]?=some i:=by
  unfold aI.fetch at I;cases m:f.fn.code[f.next]? with
  |none=>rw[m] at I;cases I
  |some j=>rw[m] at I;simp at I;exact⟨I.2.symm,by rw[I.1]⟩
 have D:=K.ins _ _ hi;have L:∀x∈d,x.e_.length<=x.g_.length:=λx m=>(q x m).e_
 by_cases hn:i=.give
 ·subst hn;rcases ik d with rfl|⟨b,x,rfl⟩
  ·refine⟨by simp[doI],by simp[doI],λ_=>⟨⟨by simp[doI],by simp[doI],by simp[doI]⟩,by simp[doI]⟩⟩
  ·rw[il] at*;have e:doI A .give (b++[x]) { f with next:=f.next+1 } t o=(⟨b++[x.push (aI.last { f with next:=f.next+1 })],t,o⟩,0):=by simp[doI]
   rw[e];refine⟨λy u=>?_,by simp at w ⊢;omega,λ_=>⟨nQ.snoc (λy u=>q y (by simp[u])) ((q x s_).pushed _) (by simp at w;omega),λy u=>?_⟩⟩
   ·rcases eu.1 u with u|u
    ·exact L y (by simp[u])
    ·rw[ew.1 u];exact L x s_
   ·rcases eu.1 u with u|u
    ·exact z y (by simp[u])
    ·rw[ew.1 u];exact z x s_
 have p:∀y:aI,y.e_.length<=y.g_.length->∀x∈d++[y],x.e_.length<=x.g_.length:=λy u x m=>by
  rcases eu.1 m with m|m
  ·exact L x m
  ·rw[ew.1 m];exact u
 have B:∀y:aI,cI ar y 0->y.fn=f.fn->∀t o,eT ar ⟨d++[y],t,o⟩:=λy u aa t o=>⟨nQ.snoc q u w,λx m=>by
  rcases eu.1 m with m|m
  ·exact z x m
  ·rw[ew.1 m,aa];exact H⟩
 by_cases Z:i=.read
 ·subst Z;cases t with
  |nil=>exact⟨p _ C,by simp[doI];omega,λJ=>by simp[doI] at J⟩
  |cons a r=>exact⟨p _ C,by simp[doI];omega,λ_=>B (aI.push { f with next:=f.next+1 } (bC a)) (cI.flow (f:=f) K D.2.2 rfl (by rw[aI.push_len];simp only;omega) W X C V) rfl _ _⟩
 by_cases Y:i=.print
 ·subst Y;simp only[doI];split
  ·exact⟨p _ C,t_,λJ=>by simp at J⟩
  ·exact⟨p _ C,t_,λ_=>B (aI.pop { f with next:=f.next+1 }) (cI.flow (f:=f) K D.2.2.2 rfl (by rw[aI.pop_len];simp only;omega) W X C V) rfl _ _⟩
 by_cases hk:∃k n,i=.call k n
 ·obtain⟨k,n,rfl⟩:=hk;simp only[doI];split
  ·exact⟨p _ C,t_,λJ=>by simp at J⟩
  ·rename_i hd;obtain⟨_,_,ab,S,N⟩:=D;obtain⟨c,U,c1,c2,c3,c4,c5,c6⟩:=ht.fn k n S;have F:(aI.many { f with next:=f.next+1 } n).length=n:=by simp[aI.many];omega
   rw[c1]
   have G:cI ar ⟨c,0,0,[],aI.many { f with next:=f.next+1 } n,[]⟩ 0:=by
    refine⟨⟨U,c2,by simp[c3],by simp only[F];exact c4,d7 c5⟩,?_,s_,by simp only[F];have:=c2.len;have:=K.len;have:=(K.ins _ _ hi).2.1;omega⟩
    rcases c6 with ⟨l,s,r,e⟩|⟨v,e⟩<;>simp[e]
   have E:cI ar (aI.popMany { f with next:=f.next+1 } n) 1:=by
    obtain⟨f1,f2,f3,P⟩:=N;refine⟨⟨T,K,?_,em f3 W,?_⟩,f1,C,V⟩
    ·rw[aI.popMany_len];show (T (f.next+1)).h=_;simp only;omega
    ·rcases P with P|P
     ·exact d7 P
     ·show (T (f.next+1)).e=none\/(T (f.next+1)).e=_;rw[P];exact X
   have e1:d++[aI.popMany { f with next:=f.next+1 } n,(⟨c,0,0,[],aI.many { f with next:=f.next+1 } n,[]⟩:aI)]=(d++[aI.popMany { f with next:=f.next+1 } n])++[(⟨c,0,0,[],aI.many { f with next:=f.next+1 } n,[]⟩:aI)]:=s_
   simp only[Option.getD_some];rw[e1];refine⟨λx m=>?_,t_,λ_=>⟨nQ.snoc (λx m=>?_) G t_,λx m=>?_⟩⟩
   ·rcases eu.1 m with m|m
    ·exact p _ E.e_ x m
    ·rw[ew.1 m];exact G.e_
   ·rcases eu.1 m with m|m
    ·exact q x m
    ·rw[ew.1 m];exact E
   ·rcases eu.1 m with m|m
    ·rcases eu.1 m with m|m
     ·exact z x m
     ·rw[ew.1 m];exact H
    ·rw[ew.1 m];exact c6
 have M:∀k n,i≠.call k n:=λk n e=>hk ⟨k,n,e⟩
 rw[sK hn Z Y M];have O:=GJ K D hh W X C V hn Z Y M _ rfl;exact⟨p _ O.1,t_,λJ=>B _ (O.2 J) (mA _ _) _ _⟩
def jV(f:aI):Nat:=if f.next=0 then 2 else if f.fn.code.length=2 then 1 else 4*(f.fn.code.length-f.next)
def wgts(l:List aI):Nat:=(l.map jV).sum
def AJ{T:Nat->dY}{f:aI}{i:aH}(a:iT ar (λq=>q<f.fn.code.length) T f.next i)
 (e:i.isBegin=false) (o:i≠.give) (m:i≠.read) (j:i≠.print) (g:∀k n,i≠.call k n):
 (aM i { f with next:=f.next+1 }).2=0->(f.next<(aM i { f with next:=f.next+1 }).1.next/\(aM i { f with next:=f.next+1 }).1.next<f.fn.code.length)\/(T (aM i { f with next:=f.next+1 }).1.next).b=true/\(aM i { f with next:=f.next+1 }).1.next<f.fn.code.length:=by
 obtain⟨_,_,a⟩:=a;intro b;cases i with
 |give=>exact absurd rfl o
 |read=>exact absurd rfl m
 |print=>exact absurd rfl j
 |call k n=>exact absurd rfl (g k n)
 |begin l s=>simp[aH.isBegin] at e
 |jump q=>
  simp only at a;obtain⟨c|c,d⟩:=a
  ·exact d7 ⟨c,d.1⟩
  ·exact d6 ⟨c,d.1⟩
 |skip q=>
  simp only[aM] at a b ⊢
  split
  ·simp only;split
   ·exact d7 ⟨gi _,a.2.2.2.1⟩
   ·exact d7 ⟨a.2.1,a.2.2.1.1⟩
  ·rename_i h;rw[if_neg h] at b;simp at b
 |shortcut w q=>
  simp only[aM] at a b ⊢
  split
  ·simp only;split
   ·exact d7 ⟨a.2.1,a.2.2.1.1⟩
   ·exact d7 ⟨gi _,a.2.2.2.1⟩
  ·rename_i h;rw[if_neg h] at b;simp at b
 |assign k n=>
  simp only[aM] at a b ⊢
  split<;>exact d7 ⟨gi _,a.2.2.1⟩
 |declare k=>exact d7 ⟨gi _,a.2.2.2.2.1⟩
 |push v=>exact d7 ⟨gi _,a.1⟩
 |load k=>exact d7 ⟨gi _,a.2.1⟩
 |drop=>exact d7 ⟨gi _,a.2.1⟩
 |truth=>simp only[aM] at a ⊢;split<;>exact d7 ⟨gi _,a.2.1⟩
 |unary p=>simp only[aM] at a ⊢;split<;>exact d7 ⟨gi _,a.2.1⟩
 |length=>simp only[aM] at a ⊢;split<;>exact d7 ⟨gi _,a.2.1⟩
 |binary p=>simp only[aM] at a ⊢;split<;>exact d7 ⟨gi _,a.2.1⟩
 |index=>simp only[aM] at a ⊢;split<;>exact d7 ⟨gi _,a.2.1⟩
 |list n=>simp only[aM] at a ⊢;split<;>exact d7 ⟨gi _,a.2.1⟩
def gK(l:List aI)(f:aI):wgts (l++[f])=wgts l+jV f:=by simp[wgts]
def BA{f:aI}(h:f.next<f.fn.code.length):1<=jV f:=by unfold jV;repeat' split
                                                    all_goals omega
def NW(f:aI)(v:aJ):jV (f.push v)=jV f:=rfl
def wC{f g:aI}{i:aH}(m:iB f.fn.code)(a:f.fn.code[f.next]?=some i)(c:i.isBegin=false)(d:g.fn=f.fn)(n:f.next<g.next)(k:g.next<f.fn.code.length):jV g<jV f:=by
 unfold jV;rw[d];rcases m with ⟨l,s,r,e⟩|⟨v,e⟩
 ·have j:f.next≠0:=λh=>by rw[e,h] at a;simp at a;rw[<-a] at c;simp[aH.isBegin] at c
  rw[if_neg (show g.next≠0 by omega),if_neg j]
  split<;>omega
 ·have b:f.fn.code.length=2:=by rw[e];rfl
  rw[b] at k;rw[if_neg (show g.next≠0 by omega),if_pos b,if_pos (show f.next=0 by omega)]
  omega
def NX{f g:aI}(i:iB f.fn.code)(a:f.fn.code[f.next]?=some (.call k n))(c:g.fn=f.fn)(j:f.next<g.next)(m:g.next<f.fn.code.length):jV g+2<jV f:=by
 unfold jV;rw[c]
 have d:f.next≠0:=λh=>by
  rcases i with ⟨l,s,r,e⟩|⟨v,e⟩<;>rw[e,h] at a<;>simp at a
 have b:f.fn.code.length≠2:=o_
 rw[if_neg (show g.next≠0 by omega),if_neg d,if_neg b]
 split
 ·omega
 ·omega
structure NS(ar:Nat->Option Nat)(r:bV × Nat):Prop where
 told:∀x∈r.1.f_,x.e_.length<=x.g_.length
 deep:r.1.f_.length<=16
 ok:r.2=0->eT ar r.1/\r.1.f_≠[]
def jH{l:List aI}(h:l≠[]):∃b f,l=b++[f]:=by
 rcases ik l with a|⟨b,f,a⟩
 ·exact absurd a h
 ·exact⟨b,f,by rw[a,il]⟩
def rK{f:aI}(h:f.next<f.fn.code.length):f.fetch=some (f.fn.code[f.next],{ f with next:=f.next+1 }):=by
 unfold aI.fetch;rw[fi h];rfl
def uV{a:List dG}(i:iS ar a){b:List aI}{f:aI}(h:eT ar ⟨b++[f],t,o⟩){l:Nat}{s:List (List UInt8)}(m:f.fn.code[f.next]?=some (.begin l s)):
 ∃r,cM a (k+1) ⟨b++[f],t,o⟩=some r/\NS ar r:=by
 have d:f.fetch=some (.begin l s,{ f with next:=f.next+1 }):=by unfold aI.fetch;rw[m];rfl
 obtain⟨g,e,j⟩:=sJ i h d;refine⟨doI a (.begin l s) b { f with next:=f.next+1 } t o,?_,g,e,λc=>⟨j c,by simp[doI]⟩⟩
 rw[cM];simp only[dW,d,dA];have c:(doI a (.begin l s) b { f with next:=f.next+1 } t o).2=0:=rfl
 rw[if_neg (by rw[c];simp),if_pos (show (aH.begin l s).isBegin=true from rfl)]
def lO{p:List dG}(w:iS ar p):∀(k:Nat) (m:bV),eT ar m->wgts m.f_+2<=k->∃r,cM p k m=some r/\NS ar r
 |0,_,_,H=>by omega
 |k+1,⟨fr,t,o⟩,h,H=>by
  by_cases E:fr=[]
  ·subst E;exact⟨(⟨[],t,o⟩,1),rfl,s_,s_,λl=>by simp at l⟩
  obtain⟨b,f,rfl⟩:=jH E;have d:cI ar f 0:=h.ok.top f (dW _ _);have s:iB f.fn.code:=h.start f s_
  have N:=rK d.next
  have C:f.fn.code[f.next]?=some (f.fn.code[f.next]'d.next):=fi d.next
  generalize f.fn.code[f.next]'d.next=i at N C
  obtain⟨Y,W,h3⟩:=sJ w h N;by_cases l:(doI p i b { f with next:=f.next+1 } t o).2=0
  rotate_left
  ·refine⟨_,?_,Y,W,λX=>absurd X l⟩
   rw[cM];simp only[dW,N,dA];rw[if_pos l]
  cases L:i.isBegin;rotate_left
  ·cases i<;>simp[aH.isBegin] at L
   exact uV w h C
  have e:cM p (k+1) ⟨b++[f],t,o⟩=cM p k (doI p i b { f with next:=f.next+1 } t o).1:=by
   rw[cM];simp only[dW,N,dA];rw[if_neg (by rw[l];simp),L]
   rfl
  rw[e];have A:=h3 l;simp only at H;rw[gK] at H;obtain⟨⟨T,V,hh,hv,he⟩,K,hs,hm⟩:=d;have u:=V.ins _ _ C;by_cases S:i=.give
  ·subst S;refine lO w k _ A ?_;have J:=BA K;rcases ik b with rfl|⟨U,x,rfl⟩
   ·simp[doI,wgts] at H ⊢;omega
   ·rw[il] at*;have Z:(doI p .give (U++[x]) { f with next:=f.next+1 } t o).1.f_=U++[x.push (aI.last { f with next:=f.next+1 })]:=by simp[doI]
    rw[Z,gK,NW];rw[gK] at H;omega
  by_cases Q:i=.read
  ·subst Q;cases t with
   |nil=>simp[doI] at l
   |cons a r=>
    refine lO w k _ A ?_;have J:=wC (g:=aI.push { f with next:=f.next+1 } (bC a)) s C rfl rfl (gi _) u.2.2.1
    show wgts (b++[_])+2<=k
    rw[gK];omega
  by_cases P:i=.print
  ·subst P;refine lO w k _ A ?_;have J:=wC (g:=aI.pop { f with next:=f.next+1 }) s C rfl rfl (gi _) u.2.2.2.1
   simp only[doI] at l ⊢
   split at l
   ·simp at l
   ·rw[if_neg (by assumption)]
    show wgts (b++[_])+2<=k
    rw[gK];omega
  by_cases F:∃c n,i=.call c n
  ·obtain⟨c,n,rfl⟩:=F;refine lO w k _ A ?_;have J:=NX (g:=aI.popMany { f with next:=f.next+1 } n) s C rfl (gi _) u.2.2.2.2.1
   simp only[doI] at l ⊢
   split at l
   ·simp at l
   ·rw[if_neg (by assumption)]
    have e1:∀y z:aI,b++[y,z]=(b++[y])++[z]:=s_
    simp only;rw[e1,gK,gK];have:∀c v,jV ⟨c,0,0,[],v,[]⟩=2:=λc v=>rfl
    rw[this];omega
  have G:∀k n,i≠.call k n:=λk n e=>F ⟨k,n,e⟩
  rw[sK S Q P G] at l A ⊢
  have q:=AJ u L S Q P G l;have D:(aM i { f with next:=f.next+1 }).1.fn=f.fn:=mA _ _
  generalize aM i { f with next:=f.next+1 }=y at l A q D ⊢
  rcases q with ⟨O,M⟩|⟨O,M⟩
  ·refine lO w k _ A ?_;have J:=wC (g:=y.1) s C L D O M;simp only;rw[gK];omega
  ·have I:y.1.fn.code[y.1.next]?=some (f.fn.code[y.1.next]):=by rw[D];exact fi M
   have B:=(V.ins _ _ (fi M)).1;rw[O] at B;have J:=BA K;obtain⟨j,rfl⟩:∃j,k=j+1:=⟨k-1,o_⟩
   generalize f.fn.code[y.1.next]=i' at I B
   cases i'<;>simp[aH.isBegin] at B
   exact uV w A I
def bH.then{L:Nat->dY->Prop}{c c':List aH}{g:Nat}{j i:Option Nat}(a:bH ar L p c h v e g v1 j)(b:bH ar L (p+c.length) c' g v1 j d v2 i)
 (n:∀q y,L q y->q<=p\/p+c.length+c'.length<=q):bH ar L p (c++c') h v e d v2 i:=by
 by_cases k:c=[]
 ·subst k;obtain⟨T,t,r,s,l,o,m,f,u⟩:=a;obtain⟨U,u1,u2,u3,u4,u5,u6,u7,u8⟩:=b;simp only[ex,Nat.add_zero] at o m f u2 u3 u4 u5 u6 u7 u8;refine⟨U,u1,o_,o_,?_,u5,u6,u7,u8⟩
  rcases u4 with u4|u4
  ·exact d7 u4
  ·rw[u4,<-f];exact l
 ·exact a.append b n k
def bH.one{L:Nat->dY->Prop}{i:aH}(m:∀q y z,L q y->L q z->y=z)(k:∀y,L p y->y=⟨h,v,e,i.isBegin⟩)(l:∀y,L (p+1) y->y.h=h'/\y.v=v'/\y.e=e')
 (n:∀T:Nat->dY,T p=⟨h,v,e,i.isBegin⟩->(T (p+1)).h=h'->(T (p+1)).v=v'->(T (p+1)).e=e'->(∀q y,L q y->T q=y)->iT ar (NP L p (p+1)) T p i):bH ar L p [i] h v e h' v' e':=by
 classical
 let T:Nat->dY:=λq=>if hq:∃y,L q y then hq.choose else if q=p then ⟨h,v,e,i.isBegin⟩ else ⟨h',v',e',false⟩
 have g:∀q y,L q y->T q=y:=λq y b=>by
  have a:∃y,L q y:=⟨y,b⟩;simp only[T,dif_pos a];exact m q _ _ a.choose_spec b
 have f:T p=⟨h,v,e,i.isBegin⟩:=by
  by_cases a:∃y,L p y
  ·obtain⟨y,b⟩:=a;rw[g p y b];exact k y b
  ·simp only[T,dif_neg a];rfl
 have c:(T (p+1)).h=h'/\(T (p+1)).v=v'/\(T (p+1)).e=e':=by
  by_cases a:∃y,L (p+1) y
  ·obtain⟨y,b⟩:=a;rw[g _ y b];exact l y b
  ·have e:T (p+1)=⟨h',v',e',false⟩:=by simp only[T,dif_neg a,if_neg (show ¬p+1=p by omega)]
   rw[e];exact⟨rfl,rfl,rfl⟩
 refine⟨T,g,by rw[f],by rw[f];exact eh _,by rw[f];exact d6 rfl,c.1,c.2.1,c.2.2,λj x d=>?_⟩
 match j,d with
 |0,d=>
  simp at d;subst d;exact n T f c.1 c.2.1 c.2.2 g
 |j+1,d=>simp at d
structure eF(L:Nat->dY->Prop)(lo hi:Nat):Prop where
 uniq:∀q y z,L q y->L q z->y=z
 out:∀q y,L q y->q<lo\/hi<q
def eF.sub{L:Nat->dY->Prop}{lo lo' hi':Nat}(h:eF L lo a)(d:lo<=lo')(c:hi'<=a):eF L lo' hi':=⟨h.uniq,λq y b=>by have:=h.out q y b;omega⟩
def eW(L:Nat->dY->Prop)(q:Nat)(y:dY):Nat->dY->Prop:=λr z=>L r z\/(r=q/\z=y)
def eW.ok{L:Nat->dY->Prop}{lo c lo' hi':Nat}{y:dY}(h:eF L lo c)(i:lo<=q)(f:q<=c)(j:lo<=lo')(g:hi'<=c)(d:q<lo'\/hi'<q):eF (eW L q y) lo' hi':=by
 refine⟨λr x z a b=>?_,λr x a=>?_⟩
 ·rcases a with a|⟨rfl,rfl⟩<;>rcases b with b|⟨e,rfl⟩
  ·exact h.uniq _ _ _ a b
  ·have:=h.out _ _ a;omega
  ·have:=h.out _ _ b;omega
  ·rfl
 ·rcases a with a|⟨rfl,rfl⟩
  ·have:=h.out _ _ a;omega
  ·exact d
def bH.close{L:Nat->dY->Prop}{c:List aH}{y:dY}(s:bH ar (eW L q y) p c h v e h' v' e')(o:p<=q)(f:q<=p+c.length):bH ar L p c h v e h' v' e':=by
 obtain⟨T,u,b,d,g,x,m,l,w⟩:=s;refine⟨T,λq y n=>u q y (d7 n),b,d,g,x,m,l,λj i A=>(w j i A).same rfl (λr a=>⟨?_,rfl,eh _,d6 rfl⟩) (λ_ _ _ k=>k)⟩
 rcases a with a|⟨z,t|⟨rfl,rfl⟩⟩
 ·exact d7 a
 ·exact d6 ⟨z,t⟩
 ·exact d7 ⟨o,f⟩
def iK{L:Nat->dY->Prop}:NP L p (p+1) (p+1):=d7 ⟨o_,o_⟩
def bH.plain{L:Nat->dY->Prop}{i:aH}(b:eF L p (p+1))(g:i.isBegin=false)(j:h<=p)
 (l:∀(D:Nat->Prop) (T:Nat->dY),(T p).h=h->(T p).v=v->eG D T (p+1) h' (T p).v (T p).e->(T p).b=false->(T p).h<=p->iT ar D T p i):bH ar L p [i] h v e h' v e:=
 bH.one b.uniq (λy c=>absurd (b.out _ _ c) o_) (λy c=>absurd (b.out _ _ c) o_) λT a k d f _=>
  l _ T (by rw[a]) (by rw[a]) ⟨iK,k,by rw[d,a];exact eh _,by rw[f,a];exact d6 rfl⟩ (by rw[a];exact g) (by rw[a];exact j)
def fH(fs:List aC)(k:Nat):Option Nat:=fs[k]?.map λf=>f.y_.length-1
def ExOk(fs:List aC)(a_:Bool)(e_:List (List UInt8)):Nat->aC->Prop
 |0,_=>False
 |d+1,a=>
  ((a.op=[48]\/a.op=[115]\/a.op=[98,111,111,108])/\a.y_=[])\/
  (a.op=[110,97,109,101]/\a.y_=[]/\a.x_∈e_)\/
  (a.op=[108,105,115,116]/\∀k∈a.y_,ExOk fs a_ e_ d k)\/
  (a.op=[105,110,100,101,120]/\∃l r,a.y_=[l,r]/\ExOk fs a_ e_ d l/\ExOk fs a_ e_ d r)\/
  ((a.op=[45,120]\/a.op=[33,120])/\∃l,a.y_=[l]/\ExOk fs a_ e_ d l)\/
  (a.op=[99,97,108,108]/\(∀k∈a.y_,ExOk fs a_ e_ d k)/\
    ((a.x_=[108,101,110]/\a.y_.length=1)\/(a.x_=[114,101,97,100]/\a_=false/\a.y_.length=0)\/
     (a.x_≠[108,101,110]/\a.x_≠[114,101,97,100]/\a_=false/\fH fs (cS fs a.x_)=some a.y_.length)))\/
  (cB a.op≠9/\∃l r,a.y_=[l,r]/\ExOk fs a_ e_ d l/\ExOk fs a_ e_ d r)
def qR:∀{e_:List (List UInt8)} {x:List UInt8},x∈e_->dL e_ x<e_.length
 |y::l,x,h=>by
  unfold dL;split
  ·simp
  ·rename_i a;rcases ep.1 h with rfl|h
   ·exact absurd rfl a
   ·have:=qR h;simp;omega
def nE{op:List UInt8}(h:cB op≠9):op=[124,124]\/op=[38,38]\/op=[61,61]\/op=[33,61]\/op=[60]\/op=[60,61]\/op=[43]\/op=[45]\/op=[42]\/op=[47]\/op=[37]:=by
 unfold cB at h;repeat' split at h
 all_goals simp_all
 all_goals grind
def TA(fs:List aC)(a_:Bool)(e_:List (List UInt8))(d:Nat):Prop:=
 ∀(a:aC) (L:Nat->dY->Prop) (p h v:Nat) (e:Option Nat),ExOk fs a_ e_ d a->e_.length<=v->h<=p->eF L p (p+(aG fs e_ d a p).length)->
  bH (fH fs) L p (aG fs e_ d a p) h v e (h+1) v e/\1<=(aG fs e_ d a p).length
def qT{fs:List aC}{b:Bool}(g:TA fs b e_ d):∀(l:List aC) (L:Nat->dY->Prop) (p h v:Nat) (e:Option Nat),(∀a∈l,ExOk fs b e_ d a)->e_.length<=v->h<=p->eF L p (p+(bP (aG fs e_ d) l p).length)->
 bH (fH fs) L p (bP (aG fs e_ d) l p) h v e (h+l.length) v e/\l.length<=(bP (aG fs e_ d) l p).length
 |[],L,p,h,v,e,_,_,_,c=>⟨bH.nil _ _ _ _ _ _ (λq y f u=>absurd (c.out q y f) (by simp[bP];omega)) c.uniq,s_⟩
 |a::l,L,p,h,v,e,i,j,o,c=>by
  simp only[bP,ej] at c ⊢
  obtain⟨n,m⟩:=g a L p h v e (i a (ft ..)) j o (c.sub (eh _) o_)
  obtain⟨k,r⟩:=qT g l L (p+(aG fs e_ d a p).length) (h+1) v e (λx s=>i x (fg _ s)) j o_ (c.sub o_ o_)
  refine⟨?_,by simp only[eo];omega⟩
  have t:h+(a::l).length=h+1+l.length:=by simp only[eo];omega
  rw[t];exact n.then k λq y f=>by have:=c.out q y f;omega
def bH.snoc{L:Nat->dY->Prop}{c:List aH}{i:aH}{f:Nat}{j:Option Nat}(a:bH ar L p c h v e f v e)(g:eF L p (p+(c++[i]).length))(b:eF L (p+c.length) (p+c.length+1)->bH ar L (p+c.length) [i] f v e d v2 j):bH ar L p (c++[i]) h v e d v2 j:=by
 have l:(c++[i]).length=c.length+1:=s_
 refine a.then (b (g.sub o_ o_)) λq y k=>?_
 have:=g.out q y k;simp only[eo,ex];omega
def pJ(fs:List aC)(j:Bool)(e_:List (List UInt8)):∀d,TA fs j e_ d
 |0,_,_,_,_,_,_,h,_,_,_=>h.elim
 |d+1,a,L,p,h,v,e,ha,hv,g,A=>by
  have Y:=pJ fs j e_ d
  have N:∀l r:aC,a.y_=[l,r]->ExOk fs j e_ d l->ExOk fs j e_ d r->∀k∈a.y_,ExOk fs j e_ d k:=λl r n V h2 k E=>by
   rw[n] at E;rcases ep.1 E with rfl|E
   ·exact V
   ·rw[ew.1 E];exact h2
  have m:∀i:aH,i.isBegin=false->aG fs e_ (d+1) a p=bP (aG fs e_ d) a.y_ p++[i]->(∀k∈a.y_,ExOk fs j e_ d k)->
   (∀(t:Nat) (D:Nat->Prop) (T:Nat->dY),(T t).h=h+a.y_.length->(T t).v=v->eG D T (t+1) (h+1) (T t).v (T t).e->(T t).b=false->(T t).h<=t->iT (fH fs) D T t i)->
   bH (fH fs) L p (aG fs e_ (d+1) a p) h v e (h+1) v e/\1<=(aG fs e_ (d+1) a p).length:=λi hb B n hi=>by
   rw[B] at A ⊢
   obtain⟨V,h2⟩:=qT Y a.y_ L p h v e n hv g (A.sub (eh _) s_)
   exact⟨bH.snoc V A λF=>bH.plain F hb o_ (hi _),s_⟩
  rcases ha with ⟨o|o|o,n⟩|⟨o,n,hx⟩|⟨o,n⟩|⟨o,l,r,n,F,Q⟩|⟨o|o,l,n,F⟩|⟨o,n,B⟩|⟨o,l,r,n,F,Q⟩
  ·have B:aG fs e_ (d+1) a p=[.push (bC (((dH 0 a.x_).getD 0:Nat):Int))]:=by rw[aG];simp[o]
   rw[B] at A ⊢
   exact⟨bH.plain A rfl g λD T c x f b g=>⟨b,g,by rw[c];exact f⟩,s_⟩
  ·have B:aG fs e_ (d+1) a p=[.push (bK a.x_)]:=by rw[aG];simp[o]
   rw[B] at A ⊢
   exact⟨bH.plain A rfl g λD T c x f b g=>⟨b,g,by rw[c];exact f⟩,s_⟩
  ·have B:aG fs e_ (d+1) a p=[.push (bO (a.x_==[116,114,117,101]))]:=by rw[aG];simp[o]
   rw[B] at A ⊢
   exact⟨bH.plain A rfl g λD T c x f b g=>⟨b,g,by rw[c];exact f⟩,s_⟩
  ·have B:aG fs e_ (d+1) a p=[.load (dL e_ a.x_)]:=by rw[aG];simp[o]
   rw[B] at A ⊢
   exact⟨bH.plain A rfl g λD T c x f b g=>⟨b,g,by rw[x];have:=qR hx;omega,by rw[c];exact f⟩,s_⟩
  ·refine m (.list a.y_.length) rfl (by rw[aG];simp[o]) n λt D T c x f b g=>⟨b,g,o_,?_⟩
   have:(T t).h-a.y_.length+1=h+1:=o_
   rw[this];exact f
  ·refine m .index rfl (by rw[aG];simp[o]) (N l r n F Q) λt D T c x f b g=>?_
   rw[n] at c;simp only[eo,ex] at c;refine⟨b,g,o_,?_⟩
   have:(T t).h-1=h+1:=o_
   rw[this];exact f
  ·refine m (.unary [45]) rfl (by rw[aG];simp[o]) (by rw[n];simpa using F) λt D T c x f b g=>?_
   rw[n] at c;simp only[eo,ex] at c;exact⟨b,g,o_,by rw[c];exact f⟩
  ·refine m (.unary [33]) rfl (by rw[aG];simp[o]) (by rw[n];simpa using F) λt D T c x f b g=>?_
   rw[n] at c;simp only[eo,ex] at c;exact⟨b,g,o_,by rw[c];exact f⟩
  ·rcases B with ⟨U,K⟩|⟨U,_,K⟩|⟨W,Z,_,K⟩
   ·refine m .length rfl (by rw[aG];simp[o,U]) n λt D T c x f b g=>⟨b,g,o_,?_⟩
    rw[c,K];exact f
   ·refine m .read rfl (by rw[aG];simp[o,U]) n λt D T c x f b g=>⟨b,g,?_⟩
    rw[c,K];exact f
   ·refine m (.call (cS fs a.x_) a.y_.length) rfl (by rw[aG];simp[o,W,Z]) n λt D T c x f b g=>⟨b,g,o_,K,?_⟩
    have:(T t).h-a.y_.length+1=h+1:=o_
    rw[this];exact f
  ·by_cases O:a.op=[38,38]\/a.op=[124,124]
   rotate_left
   ·have X:aG fs e_ (d+1) a p=bP (aG fs e_ d) a.y_ p++[.binary a.op]:=by
     rw[aG];rcases nE o with h|h|h|h|h|h|h|h|h|h|h<;>simp[h] at O ⊢
    refine m (.binary a.op) rfl X (N l r n F Q) λt D T c x f b g=>?_
    rw[n] at c;simp only[eo,ex] at c;refine⟨b,g,o_,?_⟩
    have:(T t).h-1=h+1:=o_
    rw[this];exact f
   ·have B:aG fs e_ (d+1) a p=aG fs e_ d l p++[.shortcut (a.op==[124,124]) (p+(aG fs e_ d l p).length+1+(aG fs e_ d r (p+(aG fs e_ d l p).length+1)).length+1)]++aG fs e_ d r (p+(aG fs e_ d l p).length+1)++[.truth]:=by
     rw[aG];rcases O with h|h<;>simp[h,n]
    generalize P:aG fs e_ d l p=s at B;generalize M:aG fs e_ d r (p+s.length+1)=u at B;rw[B] at A ⊢
    have H:(s++[aH.shortcut (a.op==[124,124]) (p+s.length+1+u.length+1)]++u++[aH.truth]).length=s.length+1+u.length+1:=by simp only[ej,eo,ex]
    rw[H] at A;refine⟨bH.close (q:=p+s.length+1+u.length+1) (y:=⟨h+1,v,e,false⟩) ?_ o_ (by rw[H];omega),o_⟩
    have w:eF (eW L (p+s.length+1+u.length+1) ⟨h+1,v,e,false⟩) p (p+s.length+1+u.length):=eW.ok A o_ o_ (eh _) o_ o_
    obtain⟨s1,l1⟩:=Y l (eW L (p+s.length+1+u.length+1) ⟨h+1,v,e,false⟩) p h v e F hv g (by rw[P];exact w.sub (eh _) o_)
    rw[P] at s1 l1;obtain⟨s3,l3⟩:=Y r (eW L (p+s.length+1+u.length+1) ⟨h+1,v,e,false⟩) (p+s.length+1) h v e Q hv o_ (by rw[M];exact w.sub o_ o_)
    rw[M] at s3 l3
    have s2:bH (fH fs) (eW L (p+s.length+1+u.length+1) ⟨h+1,v,e,false⟩) (p+s.length) [.shortcut (a.op==[124,124]) (p+s.length+1+u.length+1)] (h+1) v e h v e:=by
     refine bH.one w.uniq (λy G=>absurd (w.out _ _ G) o_) (λy G=>absurd (w.out _ _ G) o_) λT z c x S t4=>?_
     refine⟨by rw[z],by rw[z];show h+1<=_;omega,by rw[z];show 1<=h+1;omega,o_,?_,iK,by rw[c,z];rfl,by rw[x,z];exact eh _,by rw[S,z];exact d6 rfl⟩
     have:=t4 (p+s.length+1+u.length+1) ⟨h+1,v,e,false⟩ (d6 ⟨rfl,rfl⟩);exact⟨d6 ⟨_,d6 ⟨rfl,rfl⟩⟩,by rw[this,z],by rw[this,z];exact eh _,by rw[this,z];exact d6 rfl⟩
    have s4:bH (fH fs) (eW L (p+s.length+1+u.length+1) ⟨h+1,v,e,false⟩) (p+s.length+1+u.length) [.truth] (h+1) v e (h+1) v e:=by
     refine bH.one w.uniq (λy G=>absurd (w.out _ _ G) o_) (λy G=>?_) λT z c x S t4=>⟨by rw[z],by rw[z];show h+1<=_;omega,by rw[z];show 1<=h+1;omega,iK,by rw[c,z],by rw[x,z];exact eh _,by rw[S,z];exact d6 rfl⟩
     rcases G with G|⟨_,rfl⟩
     ·exact absurd (A.out _ _ G) o_
     ·exact⟨rfl,rfl,rfl⟩
    have C:∀q y,eW L (p+s.length+1+u.length+1) ⟨h+1,v,e,false⟩ q y->q<=p\/p+s.length+1+u.length+1<=q:=λq y I=>by have:=w.out q y I;omega
    have aa:=s1.then s2 λq y I=>by have:=C q y I;simp only[eo,ex];omega
    have J:=aa.then (c':=u) (by rw[ej];exact s3) λq y I=>by have:=C q y I;simp only[ej,eo,ex];omega
    exact J.then (c':=[.truth]) (by rw[show p+(s++[aH.shortcut (a.op==[124,124]) (p+s.length+1+u.length+1)]++u).length=p+s.length+1+u.length by simp only[ej,eo,ex];omega];exact s4) λq y I=>by have:=C q y I;simp only[ej,eo,ex];omega
def bH.entry{L:Nat->dY->Prop}{c:List aH}{b:Nat}(s:bH ar L p c h v none h' v' e')(j:v<=b):bH ar L p c h b e h' v' e':=by
 obtain⟨T,f,d,i,a,g⟩:=s;exact⟨T,f,d,o_,d7 (by rcases a with a|a<;>exact a),g⟩
def bH.exit{L:Nat->dY->Prop}{c:List aH}(s:bH ar L p c h v e h' v' e')(F:a<=v')(b:Bool)(C:∀y,¬L (p+c.length) y):bH ar (eW L (p+c.length) ⟨h',a,none,b⟩) p c h v e h' a none:=by
 obtain⟨T,z,o,r,t,l,w,E,B⟩:=s;refine⟨λq=>if q=p+c.length then ⟨h',a,none,b⟩ else T q,λq y d=>?_,?_,?_,?_,by simp only[if_pos],by simp only[if_pos],by simp only[if_pos],λj i m=>?_⟩
 ·rcases d with d|⟨rfl,rfl⟩
  ·have f:q≠p+c.length:=λe=>C y (by rw[<-e];exact d)
   simp only[if_neg f];exact z q y d
  ·simp only[if_pos]
 ·simp only;split
  ·rename_i g;rw[<-g] at l;simp only;omega
  ·exact o
 ·simp only;split
  ·rename_i g;rw[<-g] at w;simp only;omega
  ·exact r
 ·simp only;split
  ·exact d7 rfl
  ·exact t
 ·have x:j<c.length:=(gv.1 m).1;refine(B j i m).same (by rw[if_neg o_]) (λq d=>?_) (λq d D u=>by rw[if_neg o_];exact u)
  have n:NP (eW L (p+c.length) ⟨h',a,none,b⟩) p (p+c.length) q:=d.imp id λ⟨y,A⟩=>⟨y,d7 A⟩
  refine⟨n,?_⟩;split
  ·rename_i k;rw[k];exact⟨l.symm,by simp only;omega,d7 rfl⟩
  ·exact⟨rfl,eh _,d6 rfl⟩
def cO(e_:List (List UInt8))(a:aC):List (List UInt8):=if a.op=[118,97,114] then (a.y_.head?.map (·.x_)).toList++e_ else e_
def StsOk(S:List (List UInt8)->aC->Prop):List (List UInt8)->List aC->Prop
 |_,[]=>True
 |e_,a::l=>S e_ a/\StsOk S (cO e_ a) l
def dD(fs:List aC):Nat->List (List UInt8)->aC->Prop
 |0,_,_=>False
 |d+1,e_,a=>
  (a.op=[118,97,114]/\e_.length<=90000/\∃t v,a.y_=[t,v]/\ExOk fs false e_ d v/\t.x_∉e_)\/
  (a.op=[115,101,116]/\a.x_∈e_/\a.y_≠[]/\∀k∈a.y_,ExOk fs false e_ d k)\/
  (a.op=[105,102]/\∃c t,(a.y_=[c,t]\/∃x,a.y_=[c,t,x]/\StsOk (dD fs d) e_ x.y_)/\ExOk fs false e_ d c/\StsOk (dD fs d) e_ t.y_)\/
  (a.op=[119,104,105,108,101]/\∃c b,a.y_=[c,b]/\ExOk fs false e_ d c/\StsOk (dD fs d) e_ b.y_)\/
  (a.op=[114,101,116,117,114,110]/\(a.y_=[]\/∃v,a.y_=[v]/\ExOk fs false e_ d v))\/
  (a.op=[112,114,105,110,116]/\∃v,a.y_=[v]/\ExOk fs false e_ d v)\/
  (a.op=[100,111]/\∃c,a.y_=[c]/\ExOk fs false e_ d c)
def SX(fs:List aC)(d:Nat):Prop:=
 ∀(e_:List (List UInt8)) (a:aC) (L:Nat->dY->Prop) (p:Nat),dD fs d e_ a->eF L p (p+(aW fs d e_ a p).1.length)->
  bH (fH fs) L p (aW fs d e_ a p).1 0 e_.length none 0 (cO e_ a).length none/\(aW fs d e_ a p).2=cO e_ a/\∃r,(aW fs d e_ a p).1=.begin a.l_ e_::r
def PA(e_:List (List UInt8))(a:aC):e_.length<=(cO e_ a).length:=by unfold cO;split<;>simp
def dQ:List (List UInt8)->List aC->List (List UInt8)
 |e_,[]=>e_
 |e_,a::l=>dQ (cO e_ a) l
def lZ:∀(l:List aC) (e_:List (List UInt8)),e_.length<=(dQ e_ l).length
 |[],_=>eh _
 |a::l,e_=>em (PA e_ a) (lZ l _)
def mD{fs:List aC}(e:SX fs d):∀(l:List aC) (e_:List (List UInt8)) (L:Nat->dY->Prop) (p:Nat),StsOk (dD fs d) e_ l->eF L p (p+(bG (aW fs d) e_ l p).length)->
 bH (fH fs) L p (bG (aW fs d) e_ l p) 0 e_.length none 0 (dQ e_ l).length none
 |[],e_,L,p,_,b=>bH.nil _ _ _ _ _ _ (λq y c j=>absurd (b.out q y c) (by simp[bG];omega)) b.uniq
 |a::l,e_,L,p,h,b=>by
  simp only[bG,ej] at b ⊢
  obtain⟨g,f,_⟩:=e e_ a L p h.1 (b.sub (eh _) o_)
  rw[f] at b ⊢
  have i:=mD e l (cO e_ a) L (p+(aW fs d e_ a p).1.length) h.2 (b.sub o_ o_)
  exact g.then i λq y c=>by have:=b.out q y c;omega
def bH.begins{L:Nat->dY->Prop}{l:Nat}(g:∀q y z,L q y->L q z->y=z)(h:∀y,L p y->y=⟨0,e_.length,none,true⟩)(f:∀y,¬L (p+1) y):bH ar L p [.begin l e_] 0 e_.length none 0 e_.length (some e_.length):=
 bH.one g h (λy e=>absurd e (f y)) λT a d b c _=>⟨by rw[a],by rw[a];exact fy _,by rw[a];exact eh _,iK,by rw[d,a],by rw[b,a];exact eh _,by rw[c];exact d6 rfl⟩
def pH(i j:aH)(c:List aH):(i::c++[j]).length=c.length+2:=s_
def bH.stmt{L:Nat->dY->Prop}{l:Nat}{c:List aH}{i:aH}(a:eF L p (p+(aH.begin l e_::c++[i]).length))
 (j:bH ar L (p+1) c 0 e_.length (some e_.length) n e_.length (some e_.length)) (g:eF L (p+1+c.length) (p+1+c.length+1)->bH ar L (p+1+c.length) [i] n e_.length (some e_.length) 0 v' none):
 bH ar L p (aH.begin l e_::c++[i]) 0 e_.length none 0 v' none:=by
 rw[pH] at a;have f:bH ar L p [.begin l e_] 0 e_.length none 0 e_.length (some e_.length):=bH.begins a.uniq (λy d=>absurd (a.out _ _ d) o_) (λy d=>absurd (a.out _ _ d) o_)
 have e:=f.then (c':=c) j λq y b=>by have:=a.out q y b;simp only[eo,ex];omega
 have h:=e.then (c':=[i]) (by rw[show p+([aH.begin l e_]++c).length=p+1+c.length by simp only[ej,eo,ex];omega];exact g (a.sub o_ o_)) λq y b=>by have:=a.out q y b;simp only[ej,eo,ex];omega
 exact h
def bH.last{L:Nat->dY->Prop}{i:aH}(a:eF L p (p+1))(g:i.isBegin=false)(h:n<=p)
 (k:∀(D:Nat->Prop) (T:Nat->dY),T p=⟨n,v,e,false⟩->D (p+1)->(T (p+1)).h=0->(T (p+1)).v=v'->(T (p+1)).e=none->(T p).h<=p->iT ar D T p i):bH ar L p [i] n v e 0 v' none:=
 bH.one a.uniq (λy b=>absurd (a.out _ _ b) o_) (λy b=>absurd (a.out _ _ b) o_) λT c j d f _=>k _ T (by rw[c,g]) iK j d f (by rw[c];exact h)
def kU{fs:List aC}{a:aC}{L:Nat->dY->Prop}(b:ExOk fs false e_ d a)(f:0<p)(c:eF L p (p+(aG fs e_ d a p).length)):
 bH (fH fs) L p (aG fs e_ d a p) 0 e_.length e 1 e_.length e/\1<=(aG fs e_ d a p).length:=pJ fs false e_ d a L p 0 e_.length e b (eh _) o_ c
def eF.none{L:Nat->dY->Prop}{lo:Nat}(h:eF L lo a)(d:lo<=q)(c:q<=a)(y:dY):¬L q y:=λb=>by have:=h.out q y b;omega
def bH.ifs{L:Nat->dY->Prop}{l:Nat}{b e m:List aH}
 (t:eF L p (p+1+b.length+1+e.length+1+m.length))
 (I:∀g,eF g (p+1) (p+1+b.length)->bH ar g (p+1) b 0 e_.length (some e_.length) 1 e_.length (some e_.length))
 (E:∀g,eF g (p+1+b.length+1) (p+1+b.length+1+e.length)->bH ar g (p+1+b.length+1) e 0 e_.length none 0 v1 none) (G:e_.length<=v1)
 (K:∀g,eF g (p+1+b.length+1+e.length+1) (p+1+b.length+1+e.length+1+m.length)->bH ar g (p+1+b.length+1+e.length+1) m 0 e_.length none 0 v2 none) (J:e_.length<=v2):
 bH ar L p (aH.begin l e_::b++[.skip (p+1+b.length+1+e.length+1)]++e++[.jump (p+1+b.length+1+e.length+1+m.length)]++m) 0 e_.length none 0 e_.length none:=by
 generalize F:p+1+b.length+1+e.length+1=q at*;generalize H:q+m.length=r at*;have j:eF (eW L r ⟨0,e_.length,none,false⟩) p (r-1):=eW.ok t o_ (eh _) (eh _) o_ o_
 have k:bH ar (eW L r ⟨0,e_.length,none,false⟩) p (aH.begin l e_::b++[aH.skip q]++e++[aH.jump r]) 0 e_.length none 0 e_.length none:=by
  have h:p+(aH.begin l e_::b++[aH.skip q]++e++[aH.jump r]).length=q:=by simp only[ej,eo,ex];omega
  rcases ic (show q<=r by omega) with s|s
  ·-- there is no else:one label
   subst s;have c:eF (eW L q ⟨0,e_.length,none,false⟩) p (q-1):=j;have A:=bH.begins (ar:=ar) (l:=l) (p:=p) (e_:=e_) c.uniq (λy a=>absurd (c.out _ _ a) o_) (λy a=>absurd (c.out _ _ a) o_)
   have w:=A.then (c':=b) (I _ (c.sub o_ o_)) λx y f=>by have:=c.out x y f;simp only[eo,ex];omega
   have z:p+([aH.begin l e_]++b).length=p+1+b.length:=by simp only[ej,eo,ex];omega
   have B:=w.then (c':=[aH.skip q]) (by
    rw[z];refine bH.one (h':=0) (v':=e_.length) (e':=some e_.length) c.uniq (λy a=>absurd (c.out _ _ a) o_) (λy a=>absurd (c.out _ _ a) o_) λT d u n o i=>?_
    have a:=i q ⟨0,e_.length,none,false⟩ (d6 ⟨rfl,rfl⟩);exact⟨by rw[d],by rw[d];show 1<=_;omega,by rw[d];exact eh _,o_,⟨d6 ⟨_,d6 ⟨rfl,rfl⟩⟩,by rw[a,d];rfl,by rw[a,d];exact eh _,by rw[a];exact d7 rfl⟩,iK,by rw[u,d];rfl,by rw[n,d];exact eh _,by rw[o,d];exact d6 rfl⟩)
    λx y f=>by have:=c.out x y f;simp only[ej,eo,ex];omega
   have C:p+([aH.begin l e_]++b++[aH.skip q]).length=p+1+b.length+1:=by simp only[ej,eo,ex];omega
   have v:=B.then (c':=e) (by rw[C];exact(E _ (c.sub o_ o_)).entry (eh _)) λx y f=>by have:=c.out x y f;simp only[ej,eo,ex];omega
   have D:p+([aH.begin l e_]++b++[aH.skip q]++e).length=p+1+b.length+1+e.length:=by simp only[ej,eo,ex];omega
   exact v.then (c':=[aH.jump q]) (by
    rw[D];refine bH.one c.uniq (λy a=>absurd (c.out _ _ a) o_) (λy a=>?_) λT d u n o i=>?_
    ·rw[show p+1+b.length+1+e.length+1=q from F] at a
     rcases a with a|⟨_,rfl⟩
     ·exact absurd a (t.none o_ o_ y)
     ·exact⟨rfl,rfl,rfl⟩
    ·have a:=i q ⟨0,e_.length,none,false⟩ (d6 ⟨rfl,rfl⟩);exact⟨by rw[d],by rw[d];exact fy _,d7 o_,d6 ⟨_,d6 ⟨rfl,rfl⟩⟩,by rw[a,d],by rw[a,d];exact G,by rw[a];exact d7 rfl⟩)
    λx y f=>by have:=c.out x y f;simp only[ej,eo,ex];omega
  ·refine bH.close (q:=q) (y:=⟨0,e_.length,none,false⟩) ?_ o_ o_
   have c:eF (eW (eW L r ⟨0,e_.length,none,false⟩) q ⟨0,e_.length,none,false⟩) p (q-1):=eW.ok j o_ o_ (eh _) o_ o_
   have A:=bH.begins (ar:=ar) (l:=l) (p:=p) (e_:=e_) c.uniq (λy a=>absurd (c.out _ _ a) o_) (λy a=>absurd (c.out _ _ a) o_)
   have w:=A.then (c':=b) (I _ (c.sub o_ o_)) λx y f=>by have:=c.out x y f;simp only[eo,ex];omega
   have z:p+([aH.begin l e_]++b).length=p+1+b.length:=by simp only[ej,eo,ex];omega
   have B:=w.then (c':=[aH.skip q]) (by
    rw[z];refine bH.one (h':=0) (v':=e_.length) (e':=some e_.length) c.uniq (λy a=>absurd (c.out _ _ a) o_) (λy a=>absurd (c.out _ _ a) o_) λT d u n o i=>?_
    have a:=i q ⟨0,e_.length,none,false⟩ (d6 ⟨rfl,rfl⟩);exact⟨by rw[d],by rw[d];show 1<=_;omega,by rw[d];exact eh _,o_,⟨d6 ⟨_,d6 ⟨rfl,rfl⟩⟩,by rw[a,d];rfl,by rw[a,d];exact eh _,by rw[a];exact d7 rfl⟩,iK,by rw[u,d];rfl,by rw[n,d];exact eh _,by rw[o,d];exact d6 rfl⟩)
    λx y f=>by have:=c.out x y f;simp only[ej,eo,ex];omega
   have C:p+([aH.begin l e_]++b++[aH.skip q]).length=p+1+b.length+1:=by simp only[ej,eo,ex];omega
   have v:=B.then (c':=e) (by rw[C];exact(E _ (c.sub o_ o_)).entry (eh _)) λx y f=>by have:=c.out x y f;simp only[ej,eo,ex];omega
   have D:p+([aH.begin l e_]++b++[aH.skip q]++e).length=p+1+b.length+1+e.length:=by simp only[ej,eo,ex];omega
   exact v.then (c':=[aH.jump r]) (by
    rw[D];refine bH.one c.uniq (λy a=>absurd (c.out _ _ a) o_) (λy a=>?_) λT d u n o i=>?_
    ·rw[show p+1+b.length+1+e.length+1=q from F] at a
     rcases a with (a|⟨a,_⟩)|⟨_,rfl⟩
     ·exact absurd a (t.none o_ o_ y)
     ·omega
     ·exact⟨rfl,rfl,rfl⟩
    ·have a:=i r ⟨0,e_.length,none,false⟩ (d7 (d6 ⟨rfl,rfl⟩));exact⟨by rw[d],by rw[d];exact fy _,d7 o_,d6 ⟨_,d7 (d6 ⟨rfl,rfl⟩)⟩,by rw[a,d],by rw[a,d];exact G,by rw[a];exact d7 rfl⟩)
    λx y f=>by have:=c.out x y f;simp only[ej,eo,ex];omega
 have h:p+(aH.begin l e_::b++[aH.skip q]++e++[aH.jump r]).length=q:=by simp only[ej,eo,ex];omega
 refine bH.close (q:=r) (y:=⟨0,e_.length,none,false⟩) ?_ o_ (by rw[ej];omega)
 refine k.then (c':=m) ?_ λx y f=>by have:=j.out x y f;omega
 rw[h];have:=(K L (t.sub o_ o_)).exit J false (by rw[H];exact t.none o_ (eh _))
 rw[H] at this;exact this
def bH.whiles{L:Nat->dY->Prop}{l:Nat}{b cb:List aH}
 (i:eF L p (p+1+b.length+1+cb.length+1))
 (C:∀f,eF f (p+1) (p+1+b.length)->bH ar f (p+1) b 0 e_.length (some e_.length) 1 e_.length (some e_.length))
 (r:∀f,eF f (p+1+b.length+1) (p+1+b.length+1+cb.length)->bH ar f (p+1+b.length+1) cb 0 e_.length none 0 v1 none) (u:e_.length<=v1):
 bH ar L p (aH.begin l e_::b++[.skip (p+1+b.length+1+cb.length+1)]++cb++[aH.jump p]) 0 e_.length none 0 e_.length none:=by
 generalize s:p+1+b.length+1+cb.length+1=q at*;have m:p+(aH.begin l e_::b++[aH.skip q]++cb++[aH.jump p]).length=q:=by simp only[ej,eo,ex];omega
 refine bH.close (q:=p) (y:=⟨0,e_.length,none,true⟩) (bH.close (q:=q) (y:=⟨0,e_.length,none,false⟩) ?_ o_ o_) o_ o_
 have h:eF (eW L p ⟨0,e_.length,none,true⟩) (p+1) q:=eW.ok i (eh _) o_ o_ (eh _) o_
 have d:eF (eW (eW L p ⟨0,e_.length,none,true⟩) q ⟨0,e_.length,none,false⟩) (p+1) (q-1):=eW.ok h o_ (eh _) (eh _) o_ o_
 have w:=bH.begins (ar:=ar) (l:=l) (p:=p) (e_:=e_) d.uniq (λy a=>by
  rcases a with (a|⟨_,rfl⟩)|⟨a,_⟩
  ·exact absurd a (i.none o_ o_ y)
  ·rfl
  ·omega) (λy a=>absurd (d.out _ _ a) o_)
 have t:=w.then (c':=b) (C _ (d.sub o_ o_)) λx y e=>by have:=d.out x y e;simp only[eo,ex];omega
 have v:p+([aH.begin l e_]++b).length=p+1+b.length:=by simp only[ej,eo,ex];omega
 have z:=t.then (c':=[aH.skip q]) (by
  rw[v];refine bH.one (h':=0) (v':=e_.length) (e':=some e_.length) d.uniq (λy a=>absurd (d.out _ _ a) o_) (λy a=>absurd (d.out _ _ a) o_) λT c n j k g=>?_
  have a:=g q ⟨0,e_.length,none,false⟩ (d6 ⟨rfl,rfl⟩);exact⟨by rw[c],by rw[c];show 1<=_;omega,by rw[c];exact eh _,o_,⟨d6 ⟨_,d6 ⟨rfl,rfl⟩⟩,by rw[a,c];rfl,by rw[a,c];exact eh _,by rw[a];exact d7 rfl⟩,iK,by rw[n,c];rfl,by rw[j,c];exact eh _,by rw[k,c];exact d6 rfl⟩)
  λx y e=>by have:=d.out x y e;simp only[ej,eo,ex];omega
 have A:p+([aH.begin l e_]++b++[aH.skip q]).length=p+1+b.length+1:=by simp only[ej,eo,ex];omega
 have o:=z.then (c':=cb) (by rw[A];exact(r _ (d.sub o_ o_)).entry (eh _)) λx y e=>by have:=d.out x y e;simp only[ej,eo,ex];omega
 have B:p+([aH.begin l e_]++b++[aH.skip q]++cb).length=p+1+b.length+1+cb.length:=by simp only[ej,eo,ex];omega
 exact o.then (c':=[aH.jump p]) (by
  rw[B];refine bH.one d.uniq (λy a=>absurd (d.out _ _ a) o_) (λy a=>?_) λT c n j k g=>?_
  ·rw[show p+1+b.length+1+cb.length+1=q from s] at a
   rcases a with (a|⟨a,_⟩)|⟨_,rfl⟩
   ·exact absurd a (i.none o_ o_ y)
   ·omega
   ·exact⟨rfl,rfl,rfl⟩
  ·have a:=g p ⟨0,e_.length,none,true⟩ (d7 (d6 ⟨rfl,rfl⟩));exact⟨by rw[c],by rw[c];exact fy _,d6 (by rw[a]),d6 ⟨_,d7 (d6 ⟨rfl,rfl⟩)⟩,by rw[a,c],by rw[a,c];exact u,by rw[a];exact d7 rfl⟩)
  λx y e=>by have:=d.out x y e;simp only[ej,eo,ex];omega
def lQ(fs:List aC):∀d,SX fs d
 |0,_,_,_,_,h,_=>h.elim
 |d+1,g,a,L,p,Y,i=>by
  have N:=lQ fs d;rcases Y with ⟨k,K,t,v,l,F,_⟩|⟨k,P,J,l⟩|⟨k,c,t,l,S,V⟩|⟨k,c,b,l,S,K⟩|⟨k,l|⟨v,l,F⟩⟩|⟨k,v,l,F⟩|⟨k,v,l,F⟩
  ·have o:aW fs (d+1) g a p=(aH.begin a.l_ g::aG fs g d v (p+1)++[aH.declare g.length],t.x_::g):=by rw[aW];simp[k,l]
   have r:cO g a=t.x_::g:=by unfold cO;rw[if_pos k,l];rfl
   rw[o] at i ⊢
   rw[r];simp only at i ⊢
   obtain⟨B,I⟩:=kU (L:=L) (p:=p+1) (e:=some g.length) F o_ (i.sub o_ (by rw[pH];omega))
   refine⟨bH.stmt i B λw=>bH.last w rfl o_ λD T m E u A C z=>⟨by rw[m];rfl,z,?_⟩,trivial,_,rfl⟩
   rw[m];exact⟨eh _,eh _,K,rfl,E,u,by rw[A];exact eh _,d7 C⟩
  ·have o:aW fs (d+1) g a p=(aH.begin a.l_ g::bP (aG fs g d) a.y_ (p+1)++[aH.assign (dL g a.x_) (a.y_.length-1)],g):=by rw[aW];simp[k]
   have r:cO g a=g:=by unfold cO;rw[if_neg (by rw[k];decide)]
   rw[o] at i ⊢
   rw[r];simp only at i ⊢
   obtain⟨B,I⟩:=qT (pJ fs false g d) a.y_ L (p+1) 0 g.length (some g.length) l (eh _) o_ (i.sub o_ (by rw[pH];omega))
   rw[gq] at B;have U:0<a.y_.length:=ib.2 J;refine⟨bH.stmt i B λw=>bH.last w rfl o_ λD T m E u A C z=>⟨by rw[m];rfl,z,?_⟩,trivial,_,rfl⟩
   rw[m];refine⟨?_,qR P,E,?_,by rw[A];exact eh _,d7 C⟩
   ·show a.y_.length-1+1<=a.y_.length;omega
   ·rw[u];show 0=a.y_.length-(a.y_.length-1+1);omega
  ·have r:cO g a=g:=by unfold cO;rw[if_neg (by rw[k];decide)]
   rw[r]
   obtain⟨H,o,Q⟩:∃H,aW fs (d+1) g a p=(aH.begin a.l_ g::aG fs g d c (p+1)++[aH.skip (p+1+(aG fs g d c (p+1)).length+1+(bG (aW fs d) g t.y_ (p+1+(aG fs g d c (p+1)).length+1)).length+1)]++bG (aW fs d) g t.y_ (p+1+(aG fs g d c (p+1)).length+1)++
    [aH.jump (p+1+(aG fs g d c (p+1)).length+1+(bG (aW fs d) g t.y_ (p+1+(aG fs g d c (p+1)).length+1)).length+1+H.length)]++H,g)/\
    ∃G,g.length<=G/\∀s,eF s (p+1+(aG fs g d c (p+1)).length+1+(bG (aW fs d) g t.y_ (p+1+(aG fs g d c (p+1)).length+1)).length+1) (p+1+(aG fs g d c (p+1)).length+1+(bG (aW fs d) g t.y_ (p+1+(aG fs g d c (p+1)).length+1)).length+1+H.length)->bH (fH fs) s (p+1+(aG fs g d c (p+1)).length+1+(bG (aW fs d) g t.y_ (p+1+(aG fs g d c (p+1)).length+1)).length+1) H 0 g.length none 0 G none:=by
    rcases l with l|⟨x,l,P⟩
    ·refine⟨[],by rw[aW];simp[k,l],g.length,eh _,λs j=>bH.nil _ _ _ _ _ _ (λq y W Z=>absurd (j.out q y W) t_) j.uniq⟩
    ·exact⟨_,by rw[aW];simp[k,l],_,lZ x.y_ g,λs j=>mD N x.y_ g s _ P j⟩
   obtain⟨G,M,Q⟩:=Q;rw[o] at i ⊢
   simp only at i ⊢
   refine⟨bH.ifs (v1:=(dQ g t.y_).length) (v2:=G) ?_ (λs j=>(kU S o_ j).1) (λs j=>mD N t.y_ g s _ V j) (lZ _ _) Q M,trivial,_,rfl⟩
   refine i.sub (eh _) ?_;simp only[ej,eo,ex];omega
  ·have o:aW fs (d+1) g a p=(aH.begin a.l_ g::aG fs g d c (p+1)++[aH.skip (p+1+(aG fs g d c (p+1)).length+1+(bG (aW fs d) g b.y_ (p+1+(aG fs g d c (p+1)).length+1)).length+1)]++bG (aW fs d) g b.y_ (p+1+(aG fs g d c (p+1)).length+1)++[aH.jump p],g):=by rw[aW];simp[k,l]
   have r:cO g a=g:=by unfold cO;rw[if_neg (by rw[k];decide)]
   rw[o] at i ⊢
   rw[r];simp only at i ⊢
   refine⟨bH.whiles (v1:=(dQ g b.y_).length) ?_ (λs j=>(kU S o_ j).1) (λs j=>mD N b.y_ g s _ K j) (lZ _ _),trivial,_,rfl⟩
   refine i.sub (eh _) ?_;simp only[ej,eo,ex];omega
  ·have o:aW fs (d+1) g a p=(aH.begin a.l_ g::[aH.push (bC 0)]++[aH.give],g):=by rw[aW];simp[k,l]
   have r:cO g a=g:=by unfold cO;rw[if_neg (by rw[k];decide)]
   rw[o] at i ⊢
   rw[r];simp only at i ⊢
   have O:eF L (p+1) (p+2):=i.sub o_ (by rw[pH];simp)
   refine⟨bH.stmt (n:=1) i (bH.plain O rfl o_ λD T u A f b X=>⟨b,X,by rw[u];exact f⟩) λw=>bH.last w rfl o_ λD T m E u A C z=>⟨by rw[m];rfl,z,by rw[m];exact eh _⟩,trivial,_,rfl⟩
  ·have o:aW fs (d+1) g a p=(aH.begin a.l_ g::aG fs g d v (p+1)++[aH.give],g):=by rw[aW];simp[k,l]
   have r:cO g a=g:=by unfold cO;rw[if_neg (by rw[k];decide)]
   rw[o] at i ⊢
   rw[r];simp only at i ⊢
   obtain⟨B,I⟩:=kU (L:=L) (p:=p+1) (e:=some g.length) F o_ (i.sub o_ (by rw[pH];omega))
   exact⟨bH.stmt i B λw=>bH.last w rfl o_ λD T m E u A C z=>⟨by rw[m];rfl,z,by rw[m];exact eh _⟩,trivial,_,rfl⟩
  ·have o:aW fs (d+1) g a p=(aH.begin a.l_ g::aG fs g d v (p+1)++[aH.print],g):=by rw[aW];simp[k,l]
   have r:cO g a=g:=by unfold cO;rw[if_neg (by rw[k];decide)]
   rw[o] at i ⊢
   rw[r];simp only at i ⊢
   obtain⟨B,I⟩:=kU (L:=L) (p:=p+1) (e:=some g.length) F o_ (i.sub o_ (by rw[pH];omega))
   refine⟨bH.stmt i B λw=>bH.last w rfl o_ λD T m E u A C z=>⟨by rw[m];rfl,z,?_⟩,trivial,_,rfl⟩
   rw[m];exact⟨eh _,E,u,by rw[A];exact eh _,d7 C⟩
  ·have o:aW fs (d+1) g a p=(aH.begin a.l_ g::aG fs g d v (p+1)++[aH.drop],g):=by rw[aW];simp[k,l]
   have r:cO g a=g:=by unfold cO;rw[if_neg (by rw[k];decide)]
   rw[o] at i ⊢
   rw[r];simp only at i ⊢
   obtain⟨B,I⟩:=kU (L:=L) (p:=p+1) (e:=some g.length) F o_ (i.sub o_ (by rw[pH];omega))
   refine⟨bH.stmt i B λw=>bH.last w rfl o_ λD T m E u A C z=>⟨by rw[m];rfl,z,?_⟩,trivial,_,rfl⟩
   rw[m];exact⟨eh _,E,u,by rw[A];exact eh _,d7 C⟩
structure iI(fs:List aC)(d:Nat)(f:aC):Prop where
 y_:∃ps b,f.y_=ps++[b]/\StsOk (dD fs d) (ps.map (·.x_)).reverse b.y_/\(ps.map (·.x_)).Nodup
 len:(eY fs d f).code.length<=80000
def F6{fs:List aC}{f:aC}(h:iI fs d f):∃T,oZ (fH fs) (eY fs d f).code T/\(T 0).h=0/\(T 0).v<=f.y_.length-1/\(T 0).e=none/\iB (eY fs d f).code:=by
 obtain⟨⟨z,b,D,p,_⟩,I⟩:=h;have g:(eY fs d f).code=bG (aW fs d) (z.map (·.x_)).reverse b.y_ 0++[.push (bC 0),.give]:=by simp[eY,D]
 have N:f.y_.length-1=(z.map (·.x_)).reverse.length:=by simp[D]
 rw[N];generalize B:(z.map (·.x_)).reverse=e at*
 have M:=mD (lQ fs d) b.y_ e (λ_ _=>False) 0 p ⟨λ_ _ _ h=>h.elim,λ_ _ h=>h.elim⟩
 have x:iB (eY fs d f).code:=by
  rw[g];cases A:b.y_ with
  |nil=>exact d6 ⟨_,rfl⟩
  |cons a l=>
   rw[A] at p;obtain⟨r,K⟩:=(lQ fs d e a (λ_ _=>False) 0 p.1 ⟨λ_ _ _ h=>h.elim,λ_ _ h=>h.elim⟩).2.2
   exact d7 ⟨a.l_,e,r++bG (aW fs d) (aW fs d e a 0).2 l (0+(aW fs d e a 0).1.length)++[.push (bC 0),.give],by rw[bG,K];simp⟩
 generalize Q:bG (aW fs d) e b.y_ 0=c at*;obtain⟨T,P,F,C,t,E,H,G,L⟩:=M;rw[gq] at E H G;have s:(eY fs d f).code.length=c.length+2:=by rw[g];simp
 let U:Nat->dY:=λq=>if q=c.length then ⟨0,(T q).v,none,false⟩ else if q=c.length+1 then ⟨1,(T c.length).v,none,false⟩ else T q
 have u0:U c.length=⟨0,(T c.length).v,none,false⟩:=by simp[U]
 have u1:U (c.length+1)=⟨1,(T c.length).v,none,false⟩:=by simp[U]
 have u2:∀q,q<c.length->U q=T q:=λq u=>by simp[U];rw[if_neg o_,if_neg o_]
 have v:(T 0).e=none:=by rcases t with t|t<;>exact t
 have o:(U 0).h=0/\(U 0).v<=e.length/\(U 0).e=none:=by
  rcases jo c.length with w|w
  ·rw[w] at u0;rw[u0];exact⟨rfl,C,rfl⟩
  ·rw[u2 0 w];exact⟨F,C,v⟩
 refine⟨U,⟨λj i m=>?_,I⟩,o.1,o.2.1,o.2.2,x⟩
 rw[s];rw[g] at m;rcases fo j c.length with n|n
 ·rw[g9 n] at m;have:=L j i m;simp only[gq] at this;refine this.same (T':=U) (u2 j n) (λq u=>?_) (λq u O p=>by rw[u2 q o_];exact p)
  rcases u with u|⟨y,J⟩
  ·refine⟨o_,?_⟩
   rcases fo q c.length with h|h
   ·rw[u2 q h];exact⟨rfl,eh _,d6 rfl⟩
   ·obtain rfl:q=c.length:=o_
    rw[u0];exact⟨E.symm,eh _,d7 rfl⟩
  ·exact J.elim
 ·rw[gp n] at m;obtain⟨k,rfl⟩:∃k,j=c.length+k:=⟨j-c.length,o_⟩
  rw[jc] at m;match k,m with
  |0,m=>
   simp at m;subst m;show iT _ _ U c.length _
   exact⟨by rw[u0];rfl,by rw[u0];exact fy _,o_,by rw[u1,u0],by rw[u1,u0];exact eh _,by rw[u1];exact d7 rfl⟩
  |1,m=>
   simp at m;subst m;exact⟨by rw[u1];rfl,by rw[u1];show 1<=_;omega,by rw[u1];exact eh _⟩
  |k+2,m=>simp at m
def iL{fs:List aC}(h:∀f∈fs,iI fs d f):iS (fH fs) (cP fs d):=by
 refine⟨λk n a=>?_⟩
 unfold fH at a;cases b:fs[k]? with
 |none=>rw[b] at a;cases a
 |some f=>
  rw[b] at a;simp at a;subst a;obtain⟨T,g,c,j,e,i⟩:=F6 (h f (hC b));exact⟨eY fs d f,T,by simp[cP,b],g,c,j,e,i⟩
def nD{fs:List aC}(h:∀f∈fs,iI fs d f)(o:fH fs (cS fs [109,97,105,110])=some 0)(a:List Int):eT (fH fs) (eU fs d a):=by
 obtain⟨f,T,k,i,n,j,m,c⟩:=(iL h).fn _ _ o;have e:eU fs d a=⟨[]++[⟨f,0,0,[],[],[]⟩],a,[]⟩:=by unfold eU;rw[k];rfl
 rw[e];refine⟨nQ.snoc (λg b=>by cases b) ⟨⟨T,i,n,j,d7 m⟩,?_,s_,s_⟩ s_,λg b=>by simp at b;rw[b];exact c⟩
 rcases c with ⟨l,s,r,e⟩|⟨v,e⟩<;>simp[e]
inductive cQ:List UInt8->Prop
 |nil:cQ []
 |cons {l:List UInt8}:bF l≠0->cQ (l.drop (bF l))->cQ l
def mW{m:List UInt8}{i lo:Nat}(h:m[i]?=l[i]?):dE m i lo a=dE l i lo a:=by unfold dE;rw[h]
def nM{m:List UInt8}(h:bF l≠0)(a:∀i,i<bF l->m[i]?=l[i]?):bF m=bF l:=by
 have o:=a 0 o_
 unfold bF at h a ⊢
 rw[o];cases n:l[0]? with
 |none=>exact absurd (by rw[n]) h
 |some b=>
  rw[n] at h a;simp only at h a ⊢
  by_cases e:b.toNat<128
  ·rw[if_pos e,if_pos e]
  rw[if_neg e] at h a;rw[if_neg e,if_neg e];by_cases c:194<=b.toNat/\b.toNat<=223
  ·rw[if_pos c] at h a;rw[if_pos c,if_pos c];by_cases g:dE l 1 128 191=true
   ·rw[if_pos g] at a;rw[mW (a 1 o_)]
   ·rw[if_neg g] at h;exact absurd rfl h
  rw[if_neg c] at h a;rw[if_neg c,if_neg c];by_cases d:224<=b.toNat/\b.toNat<=239
  ·rw[if_pos d] at h a;rw[if_pos d,if_pos d];by_cases k:(dE l 1 (if b.toNat=224 then 160 else 128) (if b.toNat=237 then 159 else 191) && dE l 2 128 191)=true
   ·rw[if_pos k] at a;rw[mW (a 1 o_),mW (a 2 o_)]
   ·rw[if_neg k] at h;exact absurd rfl h
  rw[if_neg d] at h a;rw[if_neg d,if_neg d];by_cases f:240<=b.toNat/\b.toNat<=244
  ·rw[if_pos f] at h a;rw[if_pos f,if_pos f];by_cases j:(dE l 1 (if b.toNat=240 then 144 else 128) (if b.toNat=244 then 143 else 191) && dE l 2 128 191 && dE l 3 128 191)=true
   ·rw[if_pos j] at a;rw[mW (a 1 o_),mW (a 2 o_),mW (a 3 o_)]
   ·rw[if_neg j] at h;exact absurd rfl h
  ·rw[if_neg f] at h;exact absurd rfl h
def NN(t:List UInt8):Prop:=t.length<=100/\cQ t
end Go.Proofs.YthbffcmfmjpncaaGreatDoor.Hs
namespace Go.Proofs.YthbffcmfmjpncaaGreatDoor
open Hs
def qE:Nat->aC->Prop
 |0,_=>True
 |d+1,a=>(a.op=[115]->a.x_.length<=100/\cQ a.x_)/\a.y_.length<=1000000/\∀k∈a.y_,qE d k
def mS(a:aC):Prop:=∀e,qE e a
def mS.kid{a k:aC}(h:mS a)(b:k∈a.y_):mS k:=λe=>(h (e+1)).2.2 k b
def mS.len{a:aC}(h:mS a):a.y_.length<=1000000:=(h 1).2.1
end Go.Proofs.YthbffcmfmjpncaaGreatDoor
namespace Go.Proofs.YthbffcmfmjpncaaGreatDoor.Hs
variable{l:List aJ}{f:aI}{a v:aJ}
def qD{a b:List UInt8}(h:bF a≠0):bF (a++b)=bF a:=
 nM h λ_ c=>g9 (el c kE)
def tM{l:List UInt8}(h:bF l≠0):bF (l.take (bF l))=bF l:=
 nM h λi a=>by rw[fu,if_pos a]
def cQ.append{a b:List UInt8}(e:cQ a)(f:cQ b):cQ (a++b):=by
 induction e with
 |nil=>exact f
 |@cons l c _ d=>
  refine cQ.cons (by rw[qD c];exact c) ?_
  rw[qD c,List.drop_append_of_le_length kE];exact d
def cQ.one{l:List UInt8}(h:bF l≠0):cQ (l.take (bF l)):=
 cQ.cons (by rw[tM h];exact h) (by rw[tM h,List.drop_take];simp;exact cQ.nil)
def cQ.ne{l:List UInt8}(h:cQ l)(a:l≠[]):bF l≠0/\cQ (l.drop (bF l)):=by
 cases h with
 |nil=>exact absurd rfl a
 |cons c b=>exact⟨c,b⟩
def SN:∀(n:Nat) (l:List UInt8),l.length<=n->∀c∈dT l,cQ c:=by
 intro n;induction n with
 |zero=>
  intro l f c a;rw[dP (d7 (jb.1 o_))] at a
  cases a
 |succ n e=>
  intro l f c a;by_cases d:l=[]
  ·rw[dP (d7 d)] at a;cases a
  by_cases b:bF l=0
  ·rw[dP (d6 b)] at a;cases a
  rw[iF d b] at a;rcases ep.1 a with rfl|a
  ·exact cQ.one b
  ·exact e _ (by rw[gt];omega) c a
def XQ:Nat->aJ->Prop
 |0,_=>True
 |d+1,v=>cQ v.s/\∀x∈v.l,XQ d x
structure bQ(v:aJ):Prop where
 all:∀d,XQ d v
def bQ.txt(h:bQ v):cQ v.s:=(h.all 1).1
def bQ.kid{x:aJ}(h:bQ v)(a:x∈v.l):bQ x:=⟨λd=>(h.all (d+1)).2 x a⟩
def bQ.mk'(a:cQ v.s)(b:∀x∈v.l,bQ x):bQ v:=
 ⟨λd=>by
   cases d with
   |zero=>trivial
   |succ d=>exact⟨a,λx c=>(b x c).all d⟩⟩
def bQ.num(n:Int):bQ (bC n):=.mk' .nil λx a=>by cases a
def bQ.tru(b:Bool):bQ (bO b):=.mk' .nil λx a=>by cases a
def bQ.nil:bQ bN:=.mk' .nil λx a=>by cases a
def bQ.str{s:List UInt8}(h:cQ s):bQ (bK s):=.mk' h λx a=>by cases a
def bQ.lst(h:∀x∈l,bQ x):bQ (aY l):=.mk' .nil h
def yA(h:∀x∈l,bQ x)(k:Nat):bQ (l.getD k bN):=by
 rw[List.getD_eq_getElem?_getD];cases a:l[k]? with
 |none=>exact bQ.nil
 |some x=>exact h x (hC a)
def BC(h:∀x∈l,bQ x)(k:Nat):bQ (l[k]?.getD bN):=by
 cases a:l[k]? with
 |none=>exact bQ.nil
 |some x=>exact h x (hC a)
def UV(op:List UInt8)(a:aJ):bQ (fG op a).1:=by
 unfold fG;repeat' split
 all_goals first|exact bQ.num _|exact bQ.tru _|exact bQ.nil
def QR(op:List UInt8)(x y:Int):bQ (jG op x y).1:=by
 unfold jG;repeat' split
 all_goals first|exact bQ.num _|exact bQ.tru _|exact bQ.nil
def GH{b:aJ}(c:bQ a)(d:bQ b):bQ (jF a b).1:=by
 unfold jF;dsimp only;generalize e:(if a.sort=3 then aY (a.l++b.l) else bK (a.s++b.s))=v
 have f:bQ v:=by
  rw[<-e];split
  ·refine bQ.lst λx g=>?_
   rcases eu.1 g with h|h
   ·exact c.kid h
   ·exact d.kid h
  ·exact bQ.str (c.txt.append d.txt)
 split
 ·exact bQ.nil
 ·exact f
def TK(op:List UInt8){b:aJ}(c:bQ a)(d:bQ b):bQ (eL op a b).1:=by
 unfold eL;repeat' split
 all_goals first|exact bQ.tru _|exact bQ.nil|exact QR _ _ _|exact GH c d
def GF(a:aJ):bQ (dX a).1:=by
 unfold dX;repeat' split
 all_goals first|exact bQ.num _|exact bQ.nil
def MF(b:aJ)(e:bQ a):bQ (dB a b).1:=by
 unfold dB;split
 ·exact bQ.nil
 split
 ·exact bQ.nil
 refine yA (λx d=>?_) _
 unfold jM at d;split at d
 ·obtain⟨c,f,rfl⟩:=ia.1 d;exact bQ.str (SN _ _ (eh _) c f)
 ·exact e.kid d
def rT:∀(l:List aJ) (a b:aJ),bQ a->bQ b->bQ (cL l a b).1
 |[],_,_,_,c=>c
 |i::l,a,b,e,c=>by
  unfold cL;have f:=rT l (a.l.getD i.n.toNat bN) b (yA (λx d=>e.kid d) _) c
  split
  ·exact bQ.nil
  split
  ·exact bQ.nil
  split
  ·exact bQ.nil
  ·refine bQ.lst λx d=>?_
   rcases ki d with h|h
   ·exact e.kid h
   ·rw[h];exact f
def vN{r:aJ × Nat}(h:bQ r.1):bQ (iE r).1:=by
 unfold iE;repeat' split
 all_goals first|exact bQ.nil|exact h
def wA(f:dG):Prop:=(∀v,aH.push v∈f.code->bQ v)/\∀op,aH.unary op∈f.code->op=[45]\/op=[33]
structure dK(f:aI):Prop where
 fn:wA f.fn
 g_:∀v∈f.g_,bQ v
 ops:∀v∈f.ops,bQ v
def fN(m:bV):Prop:=∀f∈m.f_,dK f
def jT(tab:List dG):Prop:=∀f∈tab,wA f
def dK.last(h:dK f):bQ f.last:=by
 unfold aI.last;cases a:f.ops.getLast? with
 |none=>exact bQ.nil
 |some x=>exact h.ops x (jp a)
def dK.pop(h:dK f):dK f.pop:=⟨h.fn,h.g_,λv a=>h.ops v (List.dropLast_subset _ a)⟩
def dK.popMany(h:dK f)(n:Nat):dK (f.popMany n):=⟨h.fn,h.g_,λv a=>h.ops v (jq a)⟩
def dK.push(h:dK f)(c:bQ a):dK (f.push a):=⟨h.fn,h.g_,λv d=>by
 rcases eu.1 d with b|b
 ·exact h.ops v b
 ·rw[ew.1 b];exact c⟩
def dK.next(h:dK f)(n:Nat):dK { f with next:=n }:=⟨h.fn,h.g_,h.ops⟩
def dK.many(h:dK f)(n:Nat):∀v∈f.many n,bQ v:=λv a=>h.ops v (List.mem_of_mem_drop a)
def DS{i:aH}(h:dK f)(d:∀v,i=.push v->bQ v):dK (aM i f).1:=by
 cases i<;>simp only[aM]
 case begin l s=>exact⟨h.fn,h.g_,h.ops⟩
 case push v=>exact h.push (d v rfl)
 case load k=>exact h.push (BC h.g_ k)
 case declare k=>
  refine⟨h.fn,λv b=>?_,h.pop.ops⟩
  rcases eu.1 b with a|a
  ·exact h.g_ v (jq a)
  ·rw[ew.1 a];exact h.last
 case assign k n=>
  have c:=h.pop.popMany n;split
  ·refine⟨c.fn,λv b=>?_,c.ops⟩
   rcases ki b with a|a
   ·exact h.g_ v a
   ·rw[a];exact vN (rT _ _ _ (BC h.g_ k) h.last)
  ·exact c
 case jump t=>exact h.next t
 case skip t=>
  repeat' split
  ·exact h.pop
  ·exact h.pop.next t
  ·exact h.pop
 case shortcut w t=>
  repeat' split
  ·exact(h.pop.push h.last).next t
  ·exact h.pop
  ·exact h.pop
 case truth=>
  repeat' split
  ·exact h.pop.push h.last
  ·exact h.pop
 case unary op=>
  repeat' split
  ·exact h.pop.push (UV _ _)
  ·exact h.pop
 case binary op=>
  repeat' split
  ·exact h.pop.pop.push (TK _ h.pop.last h.last)
  ·exact h.pop.pop
 case index=>
  repeat' split
  ·exact h.pop.pop.push (MF _ h.pop.last)
  ·exact h.pop.pop
 case list n=>
  repeat' split
  ·exact(h.popMany n).push (vN (bQ.lst (h.many n)))
  ·exact h.popMany n
 case length=>
  repeat' split
  ·exact h.pop.push (GF _)
  ·exact h.pop
 case drop=>exact h.pop
 all_goals exact h
def EN{m:List dG}(B:jT m){b:List aI}{g:aI}{t:List Int}{o:List (List UInt8)}{i:aH}(h:fN ⟨b++[f],t,o⟩)(q:f.fetch=some (i,g)):fN (doI m i b g t o).1:=by
 have z:∀x∈b,dK x:=λx l=>h x (by simp[l])
 have u:dK f:=h f s_
 obtain⟨rfl,D⟩:g={ f with next:=f.next+1 }/\f.fn.code[f.next]?=some i:=by
  unfold aI.fetch at q;cases l:f.fn.code[f.next]? with
  |none=>rw[l] at q;cases q
  |some j=>rw[l] at q;simp at q;exact⟨q.2.symm,by rw[q.1]⟩
 have p:dK { f with next:=f.next+1 }:=u.next _
 generalize { f with next:=f.next+1 }=g at p
 have A:∀v,i=.push v->bQ v:=λv e=>u.fn.1 v (by rw[<-e];exact hC D)
 have d:∀y,dK y->∀t o,fN ⟨b++[y],t,o⟩:=λy C t o x l=>by
  rcases eu.1 l with c|c
  ·exact z x c
  ·rw[ew.1 c];exact C
 cases i
 case read=>
  cases t with
  |nil=>exact d _ p _ _
  |cons a r=>exact d _ (p.push (bQ.num _)) _ _
 case call k n=>
  simp only[doI];split
  ·exact d _ (p.popMany n) _ _
  ·intro x l;simp only[eu,ep,fk,or_false] at l;rcases l with c|rfl|rfl
   ·exact z x c
   ·exact p.popMany n
   ·refine⟨?_,p.many n,λv w=>by cases w⟩
    show wA (m[k]?.getD ⟨[],[]⟩)
    cases s:m[k]? with
    |none=>exact fh (λv w=>absurd w s_) (λv w=>absurd w s_)
    |some y=>exact B y (hC s)
 case give=>
  simp only[doI];intro x l;rcases eu.1 l with c|c
  ·exact z x (List.dropLast_subset _ c)
  ·cases s:b.getLast? with
   |none=>rw[s] at c;cases c
   |some y=>
    rw[s] at c;simp at c;rw[c];exact(z y (jp s)).push p.last
 case print=>
  simp only[doI];split<;>exact d _ p.pop _ _
 all_goals exact d _ (DS p A) _ _
end Go.Proofs.YthbffcmfmjpncaaGreatDoor.Hs
