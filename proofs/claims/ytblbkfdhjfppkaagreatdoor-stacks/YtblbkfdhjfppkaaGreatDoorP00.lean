/- Plain functions on lists of bytes: lines, characters, blanks, tokens of a source. No Go, no program. -/
import Derived.Test.YtblbkfdhjfppkaaGreatDoorA0
set_option linter.defProp false
set_option maxRecDepth 100000
namespace Go.Proofs.YtblbkfdhjfppkaaGreatDoor.Hs
def bA(l:List UInt8):Nat:=1+l.count 10
def jI(a b:List UInt8):bA (a++b)=bA a+b.count 10:=by
 unfold bA;rw[List.count_append];omega
def QX(a:List UInt8):a.count 10<=a.length:=List.count_le_length
def oR(a:List UInt8):bA a<=a.length+1:=by have:=QX a;unfold bA;omega
def CU(a:List UInt8)(c:UInt8):bA (a++[c])=bA a+if c=10 then 1 else 0:=by
 rw[jI];by_cases h:c=10<;>simp[h]
def dE(l:List UInt8)(i lo hi:Nat):Bool:=
 match l[i]? with
 |some b=>decide (lo<=b.toNat) && decide (b.toNat<=hi)
 |none=>false
def bF(l:List UInt8):Nat:=
 match l[0]? with
 |none=>0
 |some b=>
  if b.toNat<128 then 1
  else if 194<=b.toNat/\b.toNat<=223 then if dE l 1 128 191 then 2 else 0
  else if 224<=b.toNat/\b.toNat<=239 then
   if dE l 1 (if b.toNat=224 then 160 else 128) (if b.toNat=237 then 159 else 191) && dE l 2 128 191 then 3 else 0
  else if 240<=b.toNat/\b.toNat<=244 then
   if dE l 1 (if b.toNat=240 then 144 else 128) (if b.toNat=244 then 143 else 191) && dE l 2 128 191 && dE l 3 128 191 then 4 else 0
  else 0
def dN:Nat->List UInt8->Nat->Option Nat
 |0,_,_=>none
 |f+1,l,p=>
  if l.length=0 then none
  else if bF l=0 then some p
  else dN f (l.drop (bF l)) (p+bF l)
def eA(c:UInt8):Bool:=decide (48<=c.toNat) && decide (c.toNat<=57)
def fA(c:UInt8):Bool:=
 c.toNat==95 || (decide (97<=c.toNat) && decide (c.toNat<=122) || decide (65<=c.toNat) && decide (c.toNat<=90))
def cN(l what:List UInt8):Bool:=what.isPrefixOf l
def bL(p:UInt8->Bool):List UInt8->Nat
 |[]=>0
 |c::r=>if p c then bL p r+1 else 0
def kK(p:UInt8->Bool)(l:List UInt8):bL p l<=l.length:=by
 induction l with
 |nil=>simp[bL]
 |cons c r a=>simp only[bL];split<;>simp<;>omega
def eD(b:UInt8):Bool:=b.toNat != 10
def blankL:Nat->List UInt8->Nat
 |0,_=>0
 |f+1,l=>
  match l with
  |[]=>0
  |c::r=>
   if c.toNat=32\/c.toNat=9\/c.toNat=10 then blankL f r+1
   else if cN (c::r) [47,47] then
    bL eD (c::r)+blankL f ((c::r).drop (bL eD (c::r)))
   else 0
def KV:Nat:=9223372036854775807
def dG:Nat->List UInt8->Option Nat
 |n,[]=>some n
 |n,c::r=>if (KV-(c.toNat-48))/10<n then none else dG (10*n+(c.toNat-48)) r
def iO:List (List UInt8):=[[102,117,110,99],[118,97,114],[105,102],[101,108,115,101],[119,104,105,108,101],[114,101,116,117,114,110],[112,114,105,110,116],[116,114,117,101],[102,97,108,115,101]]
def cM:List (List UInt8):=[[61,61],[33,61],[60,61],[38,38],[124,124],[40],[41],[123],[125],[91],[93],[44],[59],[61],[60],[43],[45],[42],[47],[37],[33]]
def eC(name:Bool)(b:UInt8):Bool:=eA b || name && fA b
def eZ(b:UInt8):Bool:=b.toNat != 34 && b.toNat != 10
structure aX where
 sort:Nat
 text:List UInt8
 line:Nat
structure pA where
 sort:Nat
 text:List UInt8
 size:Nat
 ok:Bool
def gH(l:List UInt8)(name:Bool):pA:=
 if name then { sort:=if iO.contains (l.take (bL (eC name) l)) then 107 else 110,text:=l.take (bL (eC name) l),size:=bL (eC name) l,ok:=decide (bL (eC name) l<=16) }
 else { sort:=48,text:=l.take (bL (eC name) l),size:=bL (eC name) l,ok:=(dG 0 (l.take (bL (eC name) l))).isSome }
def nJ(r:List UInt8):pA:=
 { sort:=115,text:=r.take (bL eZ r),size:=bL eZ r+2,ok:=decide (r[bL eZ r]?=some 34) && decide (bL eZ r<=100) }
def gG(l:List UInt8):pA:=
 match cM.find? (fun o=>cN l o) with
 |some o=>{ sort:=112,text:=o,size:=o.length,ok:=true }
 |none=>{ sort:=0,text:=[],size:=0,ok:=false }
def bY:List UInt8->pA
 |[]=>{ sort:=0,text:=[],size:=0,ok:=false }
 |c::r=>if eA c || fA c then gH (c::r) (fA c) else if c.toNat=34 then nJ r else gG (c::r)
def eI:Nat->List UInt8->List UInt8->Except Nat (List aX)
 |0,_,_=>.error 0
 |f+1,pre,l=>
  if l.length=0 then .ok [{ sort:=101,text:=[],line:=bA pre }]
  else if (bY l).ok then
   match eI f (pre++l.take ((bY l).size+blankL l.length (l.drop (bY l).size))) (l.drop ((bY l).size+blankL l.length (l.drop (bY l).size))) with
   |.ok ts=>.ok ({ sort:=(bY l).sort,text:=(bY l).text,line:=bA pre }::ts)
   |.error n=>.error n
  else .error (bA pre)
def gE(l:List UInt8):Except Nat (List aX):=
 eI (l.length+1) (l.take (blankL l.length l)) (l.drop (blankL l.length l))
def kU{l w:List UInt8}(h:cN l w=true):w.length<=l.length:=(bX_.1 h).length_le
def nE(f:Nat)(c:UInt8)(r:List UInt8):blankL (f+1) (c::r)=
 if c.toNat=32\/c.toNat=9\/c.toNat=10 then blankL f r+1
  else if cN (c::r) [47,47] then bL eD (c::r)+blankL f ((c::r).drop (bL eD (c::r)))
  else 0:=by
 rw[blankL]
def BR(c:UInt8)(r:List UInt8)(h:cN (c::r) [47,47]=true):1<=bL eD (c::r):=by
 have b:c=47:=by
  have:=bX_.1 h;obtain⟨t,a⟩:=this;simp only[aY_,List.cons.injEq] at a;exact a.1.symm
 subst b;rw[bL,if_pos (by decide)];omega
def vJ(f:Nat):∀l:List UInt8,blankL f l<=l.length:=by
 induction f with
 |zero=>intro l;simp[blankL]
 |succ f a=>
  intro l;cases l with
  |nil=>simp[blankL]
  |cons c r=>
   rw[nE];split
   ·have:=a r;simp;omega
   ·split
    ·have b:=a ((c::r).drop (bL eD (c::r)));have d:=kK eD (c::r);rw[bf_] at b;omega
    ·omega
def DY(f:Nat):∀(g:Nat) (l:List UInt8),l.length<=f->l.length<=g->blankL f l=blankL g l:=by
 induction f with
 |zero=>
  intro g l h _;obtain rfl:l=[]:=aN_ (by omega)
  cases g<;>rfl
 |succ f b=>
  intro g l e d;cases l with
  |nil=>cases g<;>rfl
  |cons c r=>
   cases g with
   |zero=>simp at d
   |succ g=>
    rw[nE,nE];simp only[aB_] at e d;rw[b g r (by omega) (by omega)]
    by_cases a:cN (c::r) [47,47]=true
    ·have i:=BR c r a;rw[b g ((c::r).drop (bL eD (c::r))) (by rw[bf_,aB_];omega) (by rw[bf_,aB_];omega)]
    ·simp only[a];rfl
def sK(l:List UInt8)(b:Bool):(gH l b).size=bL (eC b) l:=by
 unfold gH;split<;>rfl
def uG(l:List UInt8)(h:(bY l).ok=true):1<=(bY l).size/\(bY l).size<=l.length:=by
 cases l with
 |nil=>simp[bY] at h
 |cons c r=>
  rw[bY] at h ⊢
  split
  ·rename_i b;rw[sK];refine⟨?_,kK _ _⟩
   rw[bL,if_pos (by
    revert b;unfold eC
    cases eA c<;>cases fA c<;>simp)]
   omega
  ·rename_i b;rw[if_neg b] at h;split
   ·rename_i a;rw[if_pos a] at h;have d:(decide (r[bL eZ r]?=some 34) && decide (bL eZ r<=100))=true:=h;rw[aX_,decide_eq_true_eq] at d
    have f:bL eZ r<r.length:=by
     by_cases j:bL eZ r<r.length
     ·exact j
     ·rw[a4_ (by omega)] at d;exact absurd d.1 (by simp)
    show 1<=bL eZ r+2/\bL eZ r+2<=(c::r).length
    rw[aB_];omega
   ·rename_i a;rw[if_neg a] at h;unfold gG at h ⊢
    cases e:cM.find? (fun o=>cN (c::r) o) with
    |none=>rw[e] at h;simp at h
    |some o=>
     have i:=List.find?_some e;have g:=bn_ e;refine⟨?_,kU i⟩;have:∀o∈cM,1<=o.length:=by decide
     exact this o g
def iG(ts:List aX):Except Nat (List aX)->Except Nat (List aX)
 |.ok l=>.ok (ts++l)
 |.error n=>.error n
def CG(x:Except Nat (List aX)):iG [] x=x:=by cases x<;>rfl
def zQ(ts:List aX)(t:aX)(x:Except Nat (List aX)):iG (ts++[t]) x=iG ts (iG [t] x):=by cases x<;>simp[iG]
def mB(f:Nat)(a l:List UInt8)(h:l.length=0):eI (f+1) a l=.ok [{ sort:=101,text:=[],line:=bA a }]:=by
 rw[eI,if_pos h]
def mC(f:Nat)(a l:List UInt8)(h:¬l.length=0)(b:(bY l).ok=false):eI (f+1) a l=.error (bA a):=by
 rw[eI,if_neg h,if_neg (by rw[b];simp)]
def lP(f:Nat)(a l:List UInt8)(h:¬l.length=0)(c:(bY l).ok=true)(m:Nat)(b:m=(bY l).size+blankL l.length (l.drop (bY l).size)):
 eI (f+1) a l=iG [{ sort:=(bY l).sort,text:=(bY l).text,line:=bA a }] (eI f (a++l.take m) (l.drop m)):=by
 rw[eI,if_neg h,if_pos c,<-b];cases eI f (a++l.take m) (l.drop m)<;>rfl
structure aC where
 op:List UInt8
 line:Nat
 text:List UInt8
 kids:List aC
def aP(ts:List aX)(p:Nat):aX:=ts[p]?.getD { sort:=101,text:=[],line:=0 }
def aV(ts:List aX)(p:Nat)(x:List UInt8):Bool:=((aP ts p).sort==112 || (aP ts p).sort==107) && (aP ts p).text==x
abbrev bU(α:Type):=Except Nat (α × Nat)
def bad{α:Type}(ts:List aX)(p:Nat):bU α:=.error (aP ts p).line
def bZ(x:List UInt8):Nat:=
 if x==[124,124] then 0
 else if x==[38,38] then 1
 else if x==[61,61] || (x==[33,61] || (x==[60] || x==[60,61])) then 2
 else if x==[43] || x==[45] then 3
 else if x==[42] || (x==[47] || x==[37]) then 4
 else 9
def dH(E:Nat->bU aC)(ts:List aX):Nat->Nat->List aC->bU (List aC)
 |0,_,_=>.error 0
 |g+1,p,acc=>
  match E p with
  |.error l=>.error l
  |.ok (a,q)=>if aV ts q [44] then dH E ts g (q+1) (acc++[a]) else .ok (acc++[a],q)
def gX(E:Nat->bU aC)(ts:List aX)(p:Nat)(shut:List UInt8):bU (List aC):=
 if aV ts p shut then .ok ([],p) else dH E ts (ts.length+1) p []
def aN{α:Type}(ts:List aX)(x:List UInt8):bU α->bU α
 |.error l=>.error l
 |.ok (a,q)=>if aV ts q x then .ok (a,q+1) else bad ts q
def eK(E:Nat->bU aC)(ts:List aX)(p:Nat)(opens shut:List UInt8):bU (List aC):=
 if aV ts p opens then aN ts shut (gX E ts (p+1) shut) else bad ts p
def bX{α β:Type}(f:α->β):bU α->bU β
 |.error l=>.error l
 |.ok (a,q)=>.ok (f a,q)
def bR{α β:Type}(x:bU α)(f:α->Nat->bU β):bU β:=
 match x with
 |.error l=>.error l
 |.ok (a,q)=>f a q
def aR(op:List UInt8)(line:Nat)(text:List UInt8)(kids:List aC):aC:={ op:=op,line:=line,text:=text,kids:=kids }
def dT(E:Nat->bU aC)(ts:List aX)(p:Nat):bU aC:=
 if (aP ts p).sort==48 || (aP ts p).sort==115 then .ok (aR [UInt8.ofNat (aP ts p).sort] (aP ts p).line (aP ts p).text [],p+1)
 else if aV ts p [116,114,117,101] || aV ts p [102,97,108,115,101] then .ok (aR [98,111,111,108] (aP ts p).line (aP ts p).text [],p+1)
 else if aV ts p [40] then aN ts [41] (E (p+1))
 else if aV ts p [91] then bX (aR [108,105,115,116] (aP ts p).line (aP ts p).text) (eK E ts p [91] [93])
 else if (aP ts p).sort==110 then
  if aV ts (p+1) [40] then bX (aR [99,97,108,108] (aP ts p).line (aP ts p).text) (eK E ts (p+1) [40] [41])
  else .ok (aR [110,97,109,101] (aP ts p).line (aP ts p).text [],p+1)
 else bad ts p
def cZ(E:Nat->bU aC)(ts:List aX):Nat->aC->Nat->bU aC
 |0,_,_=>.error 0
 |g+1,n,p=>
  if aV ts p [91] then
   match aN ts [93] (E (p+1)) with
   |.error l=>.error l
   |.ok (i,q)=>cZ E ts g (aR [105,110,100,101,120] (aP ts p).line [] [n,i]) q
  else .ok (n,p)
def eH(E:Nat->bU aC)(ts:List aX):Nat->Nat->bU aC
 |0,_=>.error 0
 |g+1,p=>
  if aV ts p [45] then bX (fun x=>aR [45,120] (aP ts p).line [] [x]) (eH E ts g (p+1))
  else if aV ts p [33] then bX (fun x=>aR [33,120] (aP ts p).line [] [x]) (eH E ts g (p+1))
  else bR (dT E ts p) (cZ E ts (ts.length+1))
def bE(L:Nat->bU aC)(ts:List aX)(k:Nat):Nat->aC->Nat->bU aC
 |0,_,_=>.error 0
 |g+1,n,q=>
  if (aP ts q).sort==112 && bZ (aP ts q).text==k then
   match L (q+1) with
   |.error l=>.error l
   |.ok (r,q2)=>if k=2 then .ok (aR (aP ts q).text (aP ts q).line [] [n,r],q2) else bE L ts k g (aR (aP ts q).text (aP ts q).line [] [n,r]) q2
  else .ok (n,q)
def fK(E:Nat->bU aC)(ts:List aX):Nat->Nat->bU aC
 |0,p=>eH E ts (ts.length+1) p
 |j+1,p=>bR (fK E ts j p) (bE (fK E ts j) ts (4-j) (ts.length+1))
def fB(ts:List aX):Nat->Nat->bU aC
 |0,_=>.error 0
 |f+1,p=>fK (fB ts f) ts 5 p
def eP(E:Nat->bU aC)(ts:List aX):Nat->Nat->List aC->bU (List aC)
 |0,_,_=>.error 0
 |g+1,p,acc=>
  if aV ts p [91] then
   match aN ts [93] (E (p+1)) with
   |.error l=>.error l
   |.ok (i,q)=>eP E ts g q (acc++[i])
  else .ok (acc,p)
def eO(E:Nat->bU aC)(ts:List aX)(p:Nat):bU aC:=
 if (aP ts p).sort==110 then
  if aV ts (p+1) [40] then
   aN ts [59] (bX (fun l=>aR [100,111] (aP ts p).line (aP ts p).text [aR [99,97,108,108] (aP ts p).line (aP ts p).text l]) (eK E ts (p+1) [40] [41]))
  else
   bR (aN ts [61] (eP E ts (ts.length+1) (p+1) [])) fun idx q=>
    aN ts [59] (bX (fun v=>aR [115,101,116] (aP ts p).line (aP ts p).text (idx++[v])) (E q))
 else bad ts p
def oM(E:Nat->bU aC)(ts:List aX)(p:Nat):bU aC:=
 if (aP ts (p+1)).sort==110 then
  if aV ts (p+2) [61] then
   aN ts [59] (bX (fun v=>aR [118,97,114] (aP ts p).line [] [aR [116,97,114,103,101,116] (aP ts (p+1)).line (aP ts (p+1)).text [],v]) (E (p+3)))
  else bad ts (p+2)
 else bad ts (p+1)
def qU(E B:Nat->bU aC)(ts:List aX)(p:Nat):bU aC:=
 bR (E (p+1)) fun c q=>bR (B q) fun b q2=>
  if aV ts q2 [101,108,115,101] then bX (fun d=>aR [105,102] (aP ts p).line [] [c,b,d]) (B (q2+1))
  else .ok (aR [105,102] (aP ts p).line [] [c,b],q2)
def kE(E B:Nat->bU aC)(ts:List aX)(p:Nat):bU aC:=
 bR (E (p+1)) fun c q=>bX (fun b=>aR [119,104,105,108,101] (aP ts p).line [] [c,b]) (B q)
def gP(E:Nat->bU aC)(ts:List aX)(p:Nat):bU aC:=
 if aV ts (p+1) [59] then .ok (aR [114,101,116,117,114,110] (aP ts p).line [] [],p+2)
 else aN ts [59] (bX (fun v=>aR [114,101,116,117,114,110] (aP ts p).line [] [v]) (E (p+1)))
def iM(E:Nat->bU aC)(ts:List aX)(p:Nat):bU aC:=
 aN ts [59] (bX (fun v=>aR [112,114,105,110,116] (aP ts p).line [] [v]) (E (p+1)))
def iW(E B:Nat->bU aC)(ts:List aX)(p:Nat):bU aC:=
 if aV ts p [118,97,114] then oM E ts p
 else if aV ts p [105,102] then qU E B ts p
 else if aV ts p [119,104,105,108,101] then kE E B ts p
 else if aV ts p [114,101,116,117,114,110] then gP E ts p
 else if aV ts p [112,114,105,110,116] then iM E ts p
 else eO E ts p
def dI(S:Nat->bU aC)(ts:List aX):Nat->Nat->List aC->bU (List aC)
 |0,_,_=>.error 0
 |g+1,p,acc=>
  if aV ts p [125] then .ok (acc,p)
  else
   match S p with
   |.error l=>.error l
   |.ok (s,q)=>dI S ts g q (acc++[s])
def iQ(E:Nat->bU aC)(ts:List aX):Nat->Nat->bU aC
 |0,_=>.error 0
 |f+1,p=>
  if aV ts p [123] then
   bX (aR [98,108,111,99,107] (aP ts p).line []) (aN ts [125] (dI (iW E (iQ E ts f) ts) ts (ts.length+1) (p+1) []))
  else bad ts p
def cR(ts:List aX):Nat->Nat->List aC->bU (List aC)
 |0,_,_=>.error 0
 |g+1,p,acc=>
  if (aP ts p).sort==110 then
   if aV ts (p+1) [44] then cR ts g (p+2) (acc++[aR [112,97,114,97,109] (aP ts p).line (aP ts p).text []])
   else .ok (acc++[aR [112,97,114,97,109] (aP ts p).line (aP ts p).text []],p+1)
  else bad ts p
def gR(ts:List aX)(p:Nat):bU (List aC):=
 aN ts [41] (if aV ts p [41] then .ok ([],p) else cR ts (ts.length+1) p [])
def jS(B:Nat->bU aC)(ts:List aX)(p:Nat):bU aC:=
 if aV ts p [102,117,110,99] then
  if (aP ts (p+1)).sort==110 then
   if aV ts (p+2) [40] then
    bR (gR ts (p+3)) fun l q=>bX (fun b=>aR [102,117,110,99] (aP ts (p+1)).line (aP ts (p+1)).text (l++[b])) (B q)
   else bad ts (p+2)
  else bad ts (p+1)
 else bad ts p
def eQ(F:Nat->bU aC)(ts:List aX):Nat->Nat->List aC->bU (List aC)
 |0,_,_=>.error 0
 |g+1,p,acc=>
  if (aP ts p).sort==101 then .ok (acc,p)
  else
   match F p with
   |.error l=>.error l
   |.ok (s,q)=>eQ F ts g q (acc++[s])
def lW(ts:List aX):bU (List aC):=
 eQ (jS (iQ (fB ts (ts.length+1)) ts (ts.length+1)) ts) ts (ts.length+1) 0 []
structure bS(ts:List aX):Prop where
 next:∀p,p<ts.length->(aP ts p).sort≠101->p+1<ts.length
 line:∀p,p<ts.length->(aP ts p).line≠0
structure cL{α:Type}(N p:Nat)(r:bU α):Prop where
 er:∀l,r=.error l->l≠0
 ok:∀a q,r=.ok (a,q)->p<q/\q<N
structure eW{α:Type}(N p:Nat)(r:bU α):Prop where
 er:∀l,r=.error l->l≠0
 ok:∀a q,r=.ok (a,q)->p<=q/\q<N
def cL.weak{b:Type}{N p:Nat}{r:bU b}(h:cL N p r):eW N p r:=⟨h.er,fun a q e=>by have:=h.ok a q e;omega⟩
def eW.ne{a:Type}{N p:Nat}{r:bU a}(h:eW N p r):r≠.error 0:=fun e=>h.er 0 e rfl
def cL.low{c:Type}{N p b:Nat}{r:bU c}(h:cL N p r)(d:b<=p):cL N b r:=⟨h.er,fun a q e=>by have:=h.ok a q e;omega⟩
def eW.low{c:Type}{N p b:Nat}{r:bU c}(h:eW N p r)(d:b<p):cL N b r:=⟨h.er,fun a q e=>by have:=h.ok a q e;omega⟩
def cL.of_ok{b:Type}{N p q:Nat}(a:b)(h:p<q)(c:q<N):cL N p (.ok (a,q):bU b):=⟨(fun l e=>by cases e),fun d f e=>by cases e;exact⟨h,c⟩⟩
def eW.of_ok{b:Type}{N p q:Nat}(a:b)(h:p<=q)(c:q<N):eW N p (.ok (a,q):bU b):=⟨(fun l e=>by cases e),fun d f e=>by cases e;exact⟨h,c⟩⟩
def cL.map{b c:Type}{N p:Nat}{r:bU b}(f:b->c)(h:cL N p r):cL N p (bX f r):=by
 cases r with
 |error l=>exact⟨fun i e=>by cases e;exact h.er _ rfl,fun a q e=>by cases e⟩
 |ok d=>obtain⟨a,q⟩:=d;exact⟨(fun l e=>by cases e),fun g j e=>by cases e;exact h.ok _ _ rfl⟩
def bS.isT{ts:List aX}(T:bS ts){p:Nat}{x:List UInt8}(a:p<ts.length)(h:aV ts p x=true):p+1<ts.length:=by
 refine T.next p a fun e=>?_
 unfold aV at h;rw[e] at h;simp at h
def bS.bad{ts:List aX}(T:bS ts){d:Type}{p c:Nat}(b:p<ts.length):cL ts.length c (bad ts p:bU d):=⟨fun l e=>by cases e;exact T.line p b,fun a q e=>by cases e⟩
def bS.take{ts:List aX}(T:bS ts){d:Type}{p:Nat}{x:List UInt8}{r:bU d}(h:cL ts.length p r):cL ts.length p (aN ts x r):=by
 cases r with
 |error l=>exact⟨fun g e=>by cases e;exact h.er _ rfl,fun a q e=>by cases e⟩
 |ok c=>
  obtain⟨a,q⟩:=c;have b:=h.ok a q rfl;unfold aN;simp only;split
  ·rename_i f;exact cL.of_ok a (by omega) (T.isT b.2 f)
  ·exact T.bad b.2
def bS.takeW{ts:List aX}(T:bS ts){d:Type}{p:Nat}{x:List UInt8}{r:bU d}(h:eW ts.length p r):cL ts.length p (aN ts x r):=by
 cases r with
 |error l=>exact⟨fun g e=>by cases e;exact h.er _ rfl,fun a q e=>by cases e⟩
 |ok c=>
  obtain⟨a,q⟩:=c;have b:=h.ok a q rfl;unfold aN;simp only;split
  ·rename_i f;exact cL.of_ok a (by omega) (T.isT b.2 f)
  ·exact T.bad b.2
def bS.listLoop{ts:List aX}(T:bS ts){E:Nat->bU aC}{p0:Nat}(h:∀q,p0<q->q<ts.length->cL ts.length q (E q)):∀(g p:Nat) (acc:List aC),p0<p->p<ts.length->ts.length<=p+g->cL ts.length p (dH E ts g p acc)
 |0,p,acc,_,c,i=>by omega
 |g+1,p,acc,j,c,i=>by
  have d:=h p j c;rw[dH];cases f:E p with
  |error l=>exact⟨fun n e=>by cases e;exact d.er _ f,fun a q e=>by cases e⟩
  |ok k=>
   obtain⟨a,q⟩:=k;have b:=d.ok a q f;simp only;split
   ·rename_i m;have:=T.isT b.2 m;exact(bS.listLoop T h g (q+1) (acc++[a]) (by omega) this (by omega)).low (by omega)
   ·exact cL.of_ok _ b.1 b.2
def bS.listIn{ts:List aX}(T:bS ts){E:Nat->bU aC}{p0:Nat}(c:∀q,p0<q->q<ts.length->cL ts.length q (E q)){p:Nat}(b:p0<p)(a:p<ts.length)(y:List UInt8):eW ts.length p (gX E ts p y):=by
 unfold gX;split
 ·exact eW.of_ok _ (au_ _) a
 ·exact(T.listLoop c (ts.length+1) p [] b a (by omega)).weak
def bS.listP{ts:List aX}(T:bS ts){E:Nat->bU aC}{p0:Nat}(b:∀q,p0<q->q<ts.length->cL ts.length q (E q)){p:Nat}(d:p0<=p)(a:p<ts.length)(x y:List UInt8):cL ts.length p (eK E ts p x y):=by
 unfold eK;split
 ·rename_i c;have:=T.isT a c;exact(T.takeW (T.listIn b (p:=p+1) (by omega) this y)).low (by omega)
 ·exact T.bad a
def bS.primary{ts:List aX}(T:bS ts){E:Nat->bU aC}{p0:Nat}(c:∀q,p0<q->q<ts.length->cL ts.length q (E q)){p:Nat}(f:p0<=p)(b:p<ts.length):cL ts.length p (dT E ts p):=by
 unfold dT;split
 ·rename_i a;refine cL.of_ok _ (by omega) (T.next p b fun e=>?_)
  rw[e] at a;simp at a
 split
 ·rename_i a;refine cL.of_ok _ (by omega) ?_
  rcases Bool.or_eq_true_iff.1 a with a|a
  ·exact T.isT b a
  ·exact T.isT b a
 split
 ·rename_i a;have:=T.isT b a;exact T.take ((c (p+1) (by omega) this).low (by omega))
 split
 ·exact(T.listP c f b _ _).map _
 split
 ·rename_i a;have d:p+1<ts.length:=T.next p b fun e=>by rw[e] at a;simp at a
  split
  ·exact((T.listP c (p:=p+1) (by omega) d _ _).low (by omega)).map _
  ·exact cL.of_ok _ (by omega) d
 ·exact T.bad b
def bS.index{ts:List aX}(T:bS ts){E:Nat->bU aC}{p0:Nat}(f:∀q,p0<q->q<ts.length->cL ts.length q (E q)):∀(g:Nat) (n:aC) (p:Nat),p0<=p->p<ts.length->ts.length<=p+g->eW ts.length p (cZ E ts g n p)
 |0,n,p,_,b,h=>by omega
 |g+1,n,p,r,b,h=>by
  rw[cZ];split
  ·rename_i m;have k:=T.isT b m;have c:=T.take (x:=[93]) (f (p+1) (by omega) k)
   cases d:aN ts [93] (E (p+1)) with
   |error l=>exact⟨fun s e=>by cases e;exact c.er _ d,fun a q e=>by cases e⟩
   |ok o=>
    obtain⟨i,q⟩:=o;have j:=c.ok i q d;exact((bS.index T f g _ q (by omega) j.2 (by omega)).low (by omega:p<q)).weak
  ·exact eW.of_ok _ (au_ _) b
def bS.bind{ts:List aX}(_T:bS ts){c d:Type}{p:Nat}{r:bU c}{f:c->Nat->bU d}(h:cL ts.length p r)(g:∀a q,p<q->q<ts.length->eW ts.length q (f a q)):cL ts.length p (bR r f):=by
 cases r with
 |error l=>exact⟨fun j e=>by cases e;exact h.er _ rfl,fun a q e=>by cases e⟩
 |ok i=>
  obtain⟨a,q⟩:=i;have b:=h.ok a q rfl;exact(g a q b.1 b.2).low b.1
def bS.unary{ts:List aX}(T:bS ts){E:Nat->bU aC}{p0:Nat}(c:∀q,p0<q->q<ts.length->cL ts.length q (E q)):∀(g p:Nat),p0<=p->p<ts.length->ts.length<=p+g->cL ts.length p (eH E ts g p)
 |0,p,_,b,i=>by omega
 |g+1,p,j,b,i=>by
  rw[eH];split
  ·rename_i e;have d:=T.isT b e;exact((bS.unary T c g (p+1) (by omega) d (by omega)).low (by omega)).map _
  split
  ·rename_i e;have d:=T.isT b e;exact((bS.unary T c g (p+1) (by omega) d (by omega)).low (by omega)).map _
  ·exact T.bind (T.primary c j b) fun a q h f=>T.index c _ a q (by omega) f (by omega)
def bS.levelLoop{ts:List aX}(T:bS ts){L:Nat->bU aC}{p0 k:Nat}(h:∀q,p0<=q->q<ts.length->cL ts.length q (L q)):∀(g:Nat) (n:aC) (q:Nat),p0<=q->q<ts.length->ts.length<=q+g->eW ts.length q (bE L ts k g n q)
 |0,n,q,_,b,o=>by omega
 |g+1,n,q,s,b,o=>by
  rw[bE];split
  ·rename_i i;have p:q+1<ts.length:=T.next q b fun e=>by rw[e] at i;simp at i
   have f:=h (q+1) (by omega) p
   cases j:L (q+1) with
   |error l=>exact⟨fun t e=>by cases e;exact f.er _ j,fun a q e=>by cases e⟩
   |ok m=>
    obtain⟨r,c⟩:=m;have d:=f.ok r c j;simp only;split
    ·exact eW.of_ok _ (by omega) d.2
    ·exact((bS.levelLoop T h g _ c (by omega) d.2 (by omega)).low (by omega:q<c)).weak
  ·exact eW.of_ok _ (au_ _) b
def bS.level{ts:List aX}(T:bS ts){E:Nat->bU aC}{p0:Nat}(d:∀q,p0<q->q<ts.length->cL ts.length q (E q)):∀(j p:Nat),p0<=p->p<ts.length->cL ts.length p (fK E ts j p)
 |0,p,c,b=>T.unary d _ p c b (by omega)
 |j+1,p,c,b=>by
  rw[fK];exact T.bind (bS.level T d j p c b) fun a q f e=>T.levelLoop (p0:=p0) (fun q c b=>bS.level T d j q c b) _ a q (by omega) e (by omega)
def bS.expr{ts:List aX}(T:bS ts):∀(f p:Nat),p<ts.length->ts.length<=p+f->cL ts.length p (fB ts f p)
 |0,p,b,d=>by omega
 |f+1,p,b,d=>by
  rw[fB];exact T.level (p0:=p) (fun q c a=>bS.expr T f q a (by omega)) 5 p (au_ _) b
def bS.exprs{ts:List aX}(T:bS ts):∀q,q<ts.length->cL ts.length q (fB ts (ts.length+1) q):=fun q a=>T.expr _ q a (by omega)
def bS.setLoop{ts:List aX}(T:bS ts){E:Nat->bU aC}(f:∀q,q<ts.length->cL ts.length q (E q)):∀(g p:Nat) (acc:List aC),p<ts.length->ts.length<=p+g->eW ts.length p (eP E ts g p acc)
 |0,p,acc,b,h=>by omega
 |g+1,p,acc,b,h=>by
  rw[eP];split
  ·rename_i m;have k:=T.isT b m;have c:=T.take (x:=[93]) (f (p+1) k);cases d:aN ts [93] (E (p+1)) with
   |error l=>exact⟨fun o e=>by cases e;exact c.er _ d,fun a q e=>by cases e⟩
   |ok n=>
    obtain⟨i,q⟩:=n;have j:=c.ok i q d;exact((bS.setLoop T f g q _ j.2 (by omega)).low (by omega:p<q)).weak
  ·exact eW.of_ok _ (au_ _) b
def bS.simple{ts:List aX}(T:bS ts){E:Nat->bU aC}(b:∀q,q<ts.length->cL ts.length q (E q)){p:Nat}(d:p<ts.length):cL ts.length p (eO E ts p):=by
 unfold eO;split
 ·rename_i f;have c:p+1<ts.length:=T.next p d fun e=>by rw[e] at f;simp at f
  split
  ·exact T.take (((T.listP (p0:=p) (fun q _ a=>b q a) (p:=p+1) (by omega) c _ _).low (by omega)).map _)
  ·exact T.bind ((T.takeW (T.setLoop b _ (p+1) [] c (by omega))).low (by omega)) fun g q _ a=>(T.take ((b q a).map _)).weak
 ·exact T.bad d
def bS.stmt{ts:List aX}(T:bS ts){E B:Nat->bU aC}{p:Nat}(j:∀q,q<ts.length->cL ts.length q (E q))(o:∀q,p<q->q<ts.length->cL ts.length q (B q))(i:p<ts.length):cL ts.length p (iW E B ts p):=by
 unfold iW;split
 ·rename_i d;have a:=T.isT i d;unfold oM;split
  ·rename_i f;have l:p+2<ts.length:=T.next (p+1) a fun e=>by rw[e] at f;simp at f
   split
   ·rename_i m;have s:p+3<ts.length:=T.isT l m;exact T.take (((j (p+3) s).low (by omega)).map _)
   ·exact T.bad l
  ·exact T.bad a
 split
 ·rename_i d;have a:=T.isT i d;unfold qU;refine T.bind ((j (p+1) a).low (by omega)) fun c q g h=>(T.bind (o q g h) fun b u t k=>?_).weak
  split
  ·rename_i r;have:=T.isT k r;exact(((o (u+1) (by omega) this).low (by omega)).map _).weak
  ·exact eW.of_ok _ (au_ _) k
 split
 ·rename_i d;have a:=T.isT i d;unfold kE;exact T.bind ((j (p+1) a).low (by omega)) fun c q g h=>((o q g h).map _).weak
 split
 ·rename_i d;have a:=T.isT i d;unfold gP;split
  ·rename_i n;exact cL.of_ok _ (by omega) (T.isT a n)
  ·exact T.take (((j (p+1) a).low (by omega)).map _)
 split
 ·rename_i d;have a:=T.isT i d;unfold iM;exact T.take (((j (p+1) a).low (by omega)).map _)
 ·exact T.simple j i
def bS.blockLoop{ts:List aX}(_T:bS ts){S:Nat->bU aC}{p0:Nat}(d:∀q,p0<q->q<ts.length->cL ts.length q (S q)):∀(g p:Nat) (acc:List aC),p0<p->p<ts.length->ts.length<=p+g->eW ts.length p (dI S ts g p acc)
 |0,p,acc,_,b,h=>by omega
 |g+1,p,acc,i,b,h=>by
  rw[dI];split
  ·exact eW.of_ok _ (au_ _) b
  ·have c:=d p i b;cases f:S p with
   |error l=>exact⟨fun m e=>by cases e;exact c.er _ f,fun a q e=>by cases e⟩
   |ok k=>
    obtain⟨s,q⟩:=k;have j:=c.ok s q f;exact((bS.blockLoop _T d g q _ (by omega) j.2 (by omega)).low (by omega:p<q)).weak
def bS.block{ts:List aX}(T:bS ts){E:Nat->bU aC}(d:∀q,q<ts.length->cL ts.length q (E q)):∀(f p:Nat),p<ts.length->ts.length<=p+f->cL ts.length p (iQ E ts f p)
 |0,p,a,h=>by omega
 |f+1,p,a,h=>by
  rw[iQ];split
  ·rename_i j;have e:=T.isT a j;refine((T.takeW (T.blockLoop (p0:=p) (fun q g c=>T.stmt d (fun i k b=>bS.block T d f i b (by omega)) c) _ (p+1) [] (by omega) e (by omega))).low (by omega)).map _
  ·exact T.bad a
def bS.paramLoop{ts:List aX}(T:bS ts):∀(g p:Nat) (acc:List aC),p<ts.length->ts.length<=p+g->cL ts.length p (cR ts g p acc)
 |0,p,acc,b,h=>by omega
 |g+1,p,acc,b,h=>by
  rw[cR];split
  ·rename_i f;have d:p+1<ts.length:=T.next p b fun e=>by rw[e] at f;simp at f
   split
   ·rename_i a;have c:p+2<ts.length:=T.isT d a;exact(bS.paramLoop T g (p+2) _ c (by omega)).low (by omega)
   ·exact cL.of_ok _ (by omega) d
  ·exact T.bad b
def bS.func{ts:List aX}(T:bS ts){B:Nat->bU aC}(j:∀q,q<ts.length->cL ts.length q (B q)){p:Nat}(h:p<ts.length):cL ts.length p (jS B ts p):=by
 unfold jS;split
 ·rename_i k;have g:=T.isT h k;split
  ·rename_i a;have d:p+2<ts.length:=T.next (p+1) g fun e=>by rw[e] at a;simp at a
   split
   ·rename_i f;have c:p+3<ts.length:=T.isT d f
    have b:cL ts.length (p+3) (gR ts (p+3)):=by
     unfold gR;refine T.takeW ?_;split
     ·exact eW.of_ok _ (au_ _) c
     ·exact(T.paramLoop _ (p+3) [] c (by omega)).weak
    exact T.bind (b.low (by omega)) fun l q _ i=>((j q i).map _).weak
   ·exact T.bad d
  ·exact T.bad g
 ·exact T.bad h
def bS.progLoop{ts:List aX}(_T:bS ts){F:Nat->bU aC}(c:∀q,q<ts.length->cL ts.length q (F q)):∀(g p:Nat) (acc:List aC),p<ts.length->ts.length<=p+g->eW ts.length p (eQ F ts g p acc)
 |0,p,acc,b,h=>by omega
 |g+1,p,acc,b,h=>by
  rw[eQ];split
  ·exact eW.of_ok _ (au_ _) b
  ·have d:=c p b;cases f:F p with
   |error l=>exact⟨fun k e=>by cases e;exact d.er _ f,fun a q e=>by cases e⟩
   |ok j=>
    obtain⟨s,q⟩:=j;have i:=d.ok s q f;exact((bS.progLoop _T c g q _ i.2 (by omega)).low (by omega:p<q)).weak
def bS.prog{ts:List aX}(T:bS ts)(h:0<ts.length):lW ts≠.error 0:=
 (T.progLoop (fun q a=>T.func (fun c b=>T.block (fun q a=>T.exprs q a) _ c b (by omega)) a) _ 0 [] h (by omega)).ne
structure rG(ts:List aX):Prop where
 some_:0<ts.length
 last:(aP ts (ts.length-1)).sort=101
 line:∀p,p<ts.length->(aP ts p).line≠0
def pG(t:aX)(ts:List aX)(p:Nat):aP (t::ts) (p+1)=aP ts p:=by simp[aP]
def JL(f:Nat):∀(a l:List UInt8) (ts:List aX),eI f a l=.ok ts->rG ts/\ts.length<=f:=by
 induction f with
 |zero=>intro a l ts h;cases h
 |succ f j=>
  intro a l ts h;by_cases d:l.length=0
  ·rw[mB _ _ _ d] at h;cases h;refine⟨⟨by simp,rfl,fun p c=>?_⟩,by simp⟩
   obtain rfl:p=0:=by simp at c;omega
   show bA a≠0
   unfold bA;omega
  ·cases i:(bY l).ok
   ·rw[mC _ _ _ d i] at h;cases h
   ·rw[lP _ _ _ d i _ rfl] at h;cases g:eI f (a++l.take ((bY l).size+blankL l.length (l.drop (bY l).size))) (l.drop ((bY l).size+blankL l.length (l.drop (bY l).size))) with
    |error n=>rw[g] at h;cases h
    |ok b=>
     rw[g] at h;cases h;obtain⟨e,k⟩:=j _ _ b g;refine⟨⟨by simp,?_,fun p c=>?_⟩,by simp;omega⟩
     ·have:=e.some_;show (aP (_::b) ((_::b).length-1)).sort=101
      rw[aB_,show b.length+1-1=(b.length-1)+1 by omega,pG]
      exact e.last
     ·cases p with
      |zero=>show bA a≠0;unfold bA;omega
      |succ p=>
       show (aP (_::b) (p+1)).line≠0
       rw[pG];exact e.line p (by simpa using c)
def rG.ok{ts:List aX}(h:rG ts):bS ts:=
 ⟨fun p b a=>by
   by_cases e:p=ts.length-1
   ·subst e;exact absurd h.last a
   ·omega,h.line⟩
def sL{l:List UInt8}{ts:List aX}(h:gE l=.ok ts):rG ts/\ts.length<=l.length+1:=JL _ _ _ _ h
def cW(l:List UInt8):Except (Nat × Nat) (List aC):=
 if 2000<l.length then .error (1,0)
 else match dN l.length l 0 with
  |some k=>.error (2,bA (l.take k))
  |none=>
   match gE l with
   |.error n=>.error (3,n)
   |.ok ts=>
    match lW ts with
    |.error n=>.error (4,n)
    |.ok (ks,_)=>.ok ks
structure aZ where
 seen:List (List UInt8)
 kind:Nat
 line:Nat
def aZ.found(s:aZ)(line kind:Nat):aZ:=if s.kind=0 then { s with kind:=kind,line:=line } else s
def fL(x:List UInt8):Bool:=x==[108,101,110] || x==[114,101,97,100]
def declaresL(s:aZ)(n:aC):aZ:=if fL n.text || s.seen.contains n.text then s.found n.line 6 else s
def dL(fs:List aC)(name:List UInt8):Option aC:=fs.find? fun f=>f.text==name
def lS(fs:List aC)(alone:Bool)(name:List UInt8):Int:=
 if name==[108,101,110] then 1
 else if name==[114,101,97,100] && !alone then 0
 else match dL fs name with
  |some f=>(f.kids.length:Int)-1
  |none=> -1
def eB(fs:List aC)(alone:Bool)(s:aZ)(n:aC):aZ:=
 if lS fs alone n.text<0 then s.found n.line 6
 else if lS fs alone n.text≠(n.kids.length:Int) then s.found n.line 7
 else s
def cD(fs:List aC)(alone:Bool)(s:aZ)(n:aC):aZ:=
 if n.op==[115,101,116] || n.op==[110,97,109,101] then (if s.seen.contains n.text then s else s.found n.line 6)
 else if n.op==[99,97,108,108] then eB fs alone s n
 else s
def aO(fs:List aC)(alone:Bool):Nat->aC->aZ->aZ
 |0,_,s=>s
 |d+1,n,s=>
  if n.op==[118,97,114] then
   match n.kids with
   |t::v::_=>let s1:=aO fs alone d v (declaresL s t);{ s1 with seen:=s1.seen++[t.text] }
   |_=>s
  else
   let s1:=n.kids.foldl (fun s k=>aO fs alone d k s) (cD fs alone s n)
   if n.op==[98,108,111,99,107] then { s1 with seen:=s1.seen.take s.seen.length } else s1
def bW:Nat->aC->Nat
 |0,_=>0
 |d+1,n=>1+(n.kids.map (bW d)).sum
def F9:Nat->aC->Prop
 |0,_=>True
 |d+1,n=>(n.op=[118,97,114]->2<=n.kids.length)/\∀k∈n.kids,F9 d k
def FineA(m:Nat)(a:aC):Prop:=∀d,bW d a<=m/\F9 d a
def FineL(m:Nat)(l:List aC):Prop:=∀d,(l.map (bW d)).sum<=m/\∀k∈l,F9 d k
def FineA.le{m n:Nat}{a:aC}(h:FineA m a)(b:m<=n):FineA n a:=fun d=>⟨aF_ (h d).1 b,(h d).2⟩
def FineL.le{m n:Nat}{a:List aC}(h:FineL m a)(b:m<=n):FineL n a:=fun d=>⟨aF_ (h d).1 b,(h d).2⟩
def FineL.nil:FineL 0 []:=fun _=>⟨au_ _,fun _ h=>by cases h⟩
def FineL.snoc{m n:Nat}{l:List aC}{a:aC}(h:FineL m l)(c:FineA n a):FineL (m+n) (l++[a]):=fun d=>by
 refine⟨?_,fun k b=>?_⟩
 ·rw[a7_,bC_];have f:=(h d).1;have e:=(c d).1;simp;omega
 ·rcases aE_.1 b with b|b
  ·exact(h d).2 k b
  ·rw[aD_.1 b];exact(c d).2
def FineL.one{n:Nat}{a:aC}(b:FineA n a):FineL n [a]:=fun d=>by
 refine⟨?_,fun k c=>?_⟩
 ·have e:=(b d).1;simp;omega
 ·rw[aD_.1 c];exact(b d).2
def FineL.two{m n:Nat}{a b:aC}(c:FineA m a)(d:FineA n b):FineL (m+n) [a,b]:=(FineL.one c).snoc d
def FineL.three{m n k:Nat}{a b c:aC}(d:FineA m a)(e:FineA n b)(f:FineA k c):FineL (m+n+k) [a,b,c]:=(FineL.two d e).snoc f
def FineA.node{m:Nat}{l:List aC}{op a:List UInt8}{b:Nat}(h:FineL m l)(c:op=[118,97,114]->2<=l.length):FineA (m+1) (aR op b a l):=fun d=>by
 cases d with
 |zero=>exact⟨a9_ _,trivial⟩
 |succ d=>
  refine⟨?_,c,(h d).2⟩;have:=(h d).1;show 1+(l.map (bW d)).sum<=m+1
  omega
def bJ{α:Type}(P:Nat->α->Prop)(p:Nat)(r:bU α):Prop:=∀a q,r=.ok (a,q)->∃m,p+m<=q/\P m a
def bJ.bad{c:Type}{P:Nat->c->Prop}{p b:Nat}{ts:List aX}:bJ P p (bad ts b):=fun a q h=>by cases h
def bJ.err{b:Type}{P:Nat->b->Prop}{p n:Nat}:bJ P p (.error n):=fun a q h=>by cases h
def bJ.of_ok{b:Type}{P:Nat->b->Prop}{p m q:Nat}{a:b}(c:p+m<=q)(h:P m a):bJ P p (.ok (a,q)):=fun d f e=>by cases e;exact⟨m,c,h⟩
def bJ.take{b:Type}{P:Nat->b->Prop}{p:Nat}{ts:List aX}{x:List UInt8}{r:bU b}(h:bJ P p r):bJ P p (aN ts x r):=by
 cases r with
 |error l=>exact bJ.err
 |ok c=>
  obtain⟨a,q⟩:=c;obtain⟨m,e,d⟩:=h a q rfl;unfold aN;simp only;split
  ·exact bJ.of_ok (by omega) d
  ·exact bJ.bad
def bJ.map{b c:Type}{P:Nat->b->Prop}{Q:Nat->c->Prop}{p d k:Nat}{r:bU b}{f:b->c}(h:bJ P p r)(n:d+k<=p)(i:∀m a,P m a->Q (m+k) (f a)):bJ Q d (bX f r):=by
 cases r with
 |error l=>exact bJ.err
 |ok g=>
  obtain⟨a,q⟩:=g;obtain⟨m,j,e⟩:=h a q rfl;exact bJ.of_ok (m:=m+k) (by omega) (i m a e)
def bJ.bind{b c:Type}{P:Nat->b->Prop}{Q:Nat->c->Prop}{p d:Nat}{r:bU b}{f:b->Nat->bU c}(h:bJ P p r)(e:∀m a q,P m a->p+m<=q->bJ Q d (f a q)):bJ Q d (bR r f):=by
 cases r with
 |error l=>exact bJ.err
 |ok g=>
  obtain⟨a,q⟩:=g;obtain⟨m,j,i⟩:=h a q rfl;exact e m a q i j
def bJ.low{c:Type}{P:Nat->c->Prop}{p b:Nat}{r:bU c}(h:bJ P p r)(f:b<=p):bJ P b r:=fun a q e=>by
 obtain⟨m,g,d⟩:=h a q e;exact⟨m,by omega,d⟩
section
variable {ts:List aX} {E:Nat->bU aC}
def qA(c:∀q,bJ FineA q (E q)):∀(g p:Nat) (acc:List aC) (m0 p0:Nat),FineL m0 acc->p0+m0<=p->bJ FineL p0 (dH E ts g p acc)
 |0,p,acc,_,_,_,_=>bJ.err
 |g+1,p,acc,m0,p0,d,h=>by
  rw[dH];cases f:E p with
  |error l=>exact bJ.err
  |ok e=>
   obtain⟨a,q⟩:=e;obtain⟨m,i,b⟩:=c p a q f;simp only;split
   ·exact qA c g (q+1) _ (m0+m) p0 (d.snoc b) (by omega)
   ·exact bJ.of_ok (m:=m0+m) (by omega) (d.snoc b)
def pZ(a:∀q,bJ FineA q (E q))(p:Nat)(x y:List UInt8):bJ FineL (p+1) (eK E ts p x y):=by
 unfold eK;split
 ·refine bJ.take ?_;unfold gX;split
  ·exact bJ.of_ok (m:=0) (by omega) FineL.nil
  ·exact qA a _ _ _ 0 _ FineL.nil (by omega)
 ·exact bJ.bad
def lH{op a:List UInt8}{b:Nat}(c:op≠[118,97,114]):FineA 1 (aR op b a []):=FineA.node (m:=0) FineL.nil fun h=>absurd h c
def EX(b:∀q,bJ FineA q (E q))(p:Nat):bJ FineA p (dT E ts p):=by
 unfold dT;split
 ·exact bJ.of_ok (m:=1) (by omega) (lH (by simp))
 split
 ·exact bJ.of_ok (m:=1) (by omega) (lH (by simp))
 split
 ·exact((b (p+1)).take).low (by omega)
 split
 ·exact bJ.map (k:=1) (pZ b p _ _) (by omega) fun m a h=>FineA.node h (by simp)
 split
 ·split
  ·exact bJ.map (k:=1) (pZ b (p+1) _ _) (by omega) fun m a h=>FineA.node h (by simp)
  ·exact bJ.of_ok (m:=1) (by omega) (lH (by simp))
 ·exact bJ.bad
def xN(b:∀q,bJ FineA q (E q)):∀(g:Nat) (n:aC) (p m0 p0:Nat),FineA m0 n->p0+m0<=p->bJ FineA p0 (cZ E ts g n p)
 |0,n,p,_,_,_,_=>bJ.err
 |g+1,n,p,m0,p0,a,d=>by
  rw[cZ];split
  ·have c:=(b (p+1)).take (ts:=ts) (x:=[93]);cases f:aN ts [93] (E (p+1)) with
   |error l=>exact bJ.err
   |ok h=>
    obtain⟨i,q⟩:=h;obtain⟨m,j,e⟩:=c i q f;exact xN b g _ q (m0+m+1) p0 (FineA.node (FineL.two a e) (by simp)) (by omega)
  ·exact bJ.of_ok d a
def pX(b:∀q,bJ FineA q (E q)):∀(g p:Nat),bJ FineA p (eH E ts g p)
 |0,p=>bJ.err
 |g+1,p=>by
  rw[eH];split
  ·exact bJ.map (k:=1) (pX b g (p+1)) (by omega) fun m a h=>FineA.node (FineL.one h) (by simp)
  split
  ·exact bJ.map (k:=1) (pX b g (p+1)) (by omega) fun m a h=>FineA.node (FineL.one h) (by simp)
  ·exact bJ.bind (EX b p) fun m a q d c=>xN b _ a q m p d c
def pJ{L:Nat->bU aC}{k:Nat}(c:∀q,bJ FineA q (L q)):∀(g:Nat) (n:aC) (q m0 p0:Nat),FineA m0 n->p0+m0<=q->bJ FineA p0 (bE L ts k g n q)
 |0,n,q,_,_,_,_=>bJ.err
 |g+1,n,q,m0,p0,b,j=>by
  rw[bE];split
  ·cases o:L (q+1) with
   |error l=>exact bJ.err
   |ok h=>
    obtain⟨r,f⟩:=h;obtain⟨m,p,i⟩:=c _ r f o;have d:∀e a,FineA (m0+m+1) (aR e a [] [n,r]):=fun e a=>FineA.node (FineL.two b i) (by simp)
    simp only;split
    ·exact bJ.of_ok (m:=m0+m+1) (by omega) (d _ _)
    ·exact pJ c g _ f (m0+m+1) p0 (d _ _) (by omega)
  ·exact bJ.of_ok j b
def qB(b:∀q,bJ FineA q (E q)):∀(j p:Nat),bJ FineA p (fK E ts j p)
 |0,p=>pX b _ p
 |j+1,p=>by
  rw[fK];exact bJ.bind (qB b j p) fun m a q d c=>pJ (fun q=>qB b j q) _ a q m p d c
def BL(ts:List aX):∀(f p:Nat),bJ FineA p (fB ts f p)
 |0,p=>bJ.err
 |f+1,p=>by
  rw[fB];exact qB (fun q=>BL ts f q) 5 p
def sN(b:∀q,bJ FineA q (E q)):∀(g p:Nat) (acc:List aC) (m0 p0:Nat),FineL m0 acc->p0+m0<=p->bJ FineL p0 (eP E ts g p acc)
 |0,p,acc,_,_,_,_=>bJ.err
 |g+1,p,acc,m0,p0,a,d=>by
  rw[eP];split
  ·have c:=(b (p+1)).take (ts:=ts) (x:=[93]);cases f:aN ts [93] (E (p+1)) with
   |error l=>exact bJ.err
   |ok h=>
    obtain⟨i,q⟩:=h;obtain⟨m,j,e⟩:=c i q f;exact sN b g q _ (m0+m) p0 (a.snoc e) (by omega)
  ·exact bJ.of_ok d a
def JU(b:∀q,bJ FineA q (E q))(p:Nat):bJ FineA p (eO E ts p):=by
 unfold eO;split
 ·split
  ·exact bJ.take (bJ.map (k:=2) (pZ b (p+1) _ _) (by omega) fun m a h=>FineA.node (FineL.one (FineA.node h (by simp))) (by simp))
  ·refine bJ.bind ((sN b _ (p+1) [] 0 (p+1) FineL.nil (by omega)).take) fun m l q d f=>?_
   exact bJ.take (bJ.map (k:=m+1) (b q) (by omega) fun e v c=>FineA.le (FineA.node (d.snoc c) (by simp)) (by omega))
 ·exact bJ.bad
def SH{B:Nat->bU aC}(a:∀q,bJ FineA q (E q))(h:∀q,bJ FineA q (B q))(p:Nat):bJ FineA p (iW E B ts p):=by
 unfold iW;split
 ·unfold oM;split
  ·split
   ·exact bJ.take (bJ.map (k:=2) (a (p+3)) (by omega) fun m v e=>FineA.le (FineA.node (FineL.two (lH (by simp)) e) (by simp)) (by omega))
   ·exact bJ.bad
  ·exact bJ.bad
 split
 ·unfold qU;refine bJ.bind (a (p+1)) fun m c q f l=>bJ.bind (h q) fun g b o i s=>?_
  split
  ·exact bJ.map (k:=m+g+1) (h (o+1)) (by omega) fun r d j=>FineA.le (FineA.node (FineL.three f i j) (by simp)) (by omega)
  ·exact bJ.of_ok (m:=m+g+1) (by omega) (FineA.node (FineL.two f i) (by simp))
 split
 ·unfold kE;exact bJ.bind (a (p+1)) fun m c q f l=>bJ.map (k:=m+1) (h q) (by omega) fun g b n=>FineA.le (FineA.node (FineL.two f n) (by simp)) (by omega)
 split
 ·unfold gP;split
  ·exact bJ.of_ok (m:=1) (by omega) (lH (by simp))
  ·exact bJ.take (bJ.map (k:=1) (a (p+1)) (by omega) fun m v e=>FineA.node (FineL.one e) (by simp))
 split
 ·unfold iM;exact bJ.take (bJ.map (k:=1) (a (p+1)) (by omega) fun m v e=>FineA.node (FineL.one e) (by simp))
 ·exact JU a p
def pK{S:Nat->bU aC}(b:∀q,bJ FineA q (S q)):∀(g p:Nat) (acc:List aC) (m0 p0:Nat),FineL m0 acc->p0+m0<=p->bJ FineL p0 (dI S ts g p acc)
 |0,p,acc,_,_,_,_=>bJ.err
 |g+1,p,acc,m0,p0,a,c=>by
  rw[dI];split
  ·exact bJ.of_ok c a
  ·cases e:S p with
   |error l=>exact bJ.err
   |ok f=>
    obtain⟨s,q⟩:=f;obtain⟨m,h,d⟩:=b p s q e;exact pK b g q _ (m0+m) p0 (a.snoc d) (by omega)
def xO(a:∀q,bJ FineA q (E q)):∀(f p:Nat),bJ FineA p (iQ E ts f p)
 |0,p=>bJ.err
 |f+1,p=>by
  rw[iQ];split
  ·exact bJ.map (k:=1) (bJ.take (pK (fun q=>SH a (fun q=>xO a f q) q) _ (p+1) [] 0 (p+1) FineL.nil (by omega))) (by omega) fun m l h=>FineA.node h (by simp)
  ·exact bJ.bad
def pI:∀(g p:Nat) (acc:List aC) (m0 p0:Nat),FineL m0 acc->p0+m0<=p->bJ FineL p0 (cR ts g p acc)
 |0,p,acc,_,_,_,_=>bJ.err
 |g+1,p,acc,m0,p0,b,c=>by
  have a:FineL (m0+1) (acc++[aR [112,97,114,97,109] (aP ts p).line (aP ts p).text []]):=b.snoc (lH (by simp))
  rw[cR];split
  ·split
   ·exact pI g (p+2) _ (m0+1) p0 a (by omega)
   ·exact bJ.of_ok (m:=m0+1) (by omega) a
  ·exact bJ.bad
def SJ{B:Nat->bU aC}(c:∀q,bJ FineA q (B q))(p:Nat):bJ FineA p (jS B ts p):=by
 unfold jS;split
 ·split
  ·split
   ·have a:bJ FineL (p+3) (gR ts (p+3)):=by
     unfold gR;refine bJ.take ?_;split
     ·exact bJ.of_ok (m:=0) (by omega) FineL.nil
     ·exact pI _ (p+3) [] 0 (p+3) FineL.nil (by omega)
    exact bJ.bind a fun m l q d g=>bJ.map (k:=m+1) (c q) (by omega) fun f b e=>FineA.le (FineA.node (d.snoc e) (by simp)) (by omega)
   ·exact bJ.bad
  ·exact bJ.bad
 ·exact bJ.bad
def pY{F:Nat->bU aC}(b:∀q,bJ FineA q (F q)):∀(g p:Nat) (acc:List aC) (m0 p0:Nat),FineL m0 acc->p0+m0<=p->bJ FineL p0 (eQ F ts g p acc)
 |0,p,acc,_,_,_,_=>bJ.err
 |g+1,p,acc,m0,p0,a,c=>by
  rw[eQ];split
  ·exact bJ.of_ok c a
  ·cases f:F p with
   |error l=>exact bJ.err
   |ok d=>
    obtain⟨s,q⟩:=d;obtain⟨m,h,e⟩:=b p s q f;exact pY b g q _ (m0+m) p0 (a.snoc e) (by omega)
end
def SI(ts:List aX)(T:bS ts)(e:0<ts.length)(ks:List aC)(q:Nat)(h:lW ts=.ok (ks,q)):FineL ts.length ks:=by
 obtain⟨m,f,d⟩:=pY (fun q=>SJ (fun b=>xO (fun q=>BL ts _ q) _ b) q) (ts.length+1) 0 [] 0 0 FineL.nil (by omega) ks q h
 have:=(T.progLoop (fun q a=>T.func (fun b c=>T.block (fun q a=>T.exprs q a) _ b c (by omega)) a) _ 0 [] e (by omega)).ok ks q h
 exact d.le (by omega)
def kT{l:List UInt8}{ks:List aC}(h:cW l=.ok ks):FineL 2001 ks:=by
 unfold cW at h;split at h
 ·cases h
 rename_i e;split at h
 ·cases h
 split at h
 ·cases h
 rename_i c d;obtain⟨a,f⟩:=sL d;split at h
 ·cases h
 rename_i q b;cases h;exact(SI c a.ok a.some_ _ _ b).le (by omega)
def eY:Nat->aC->Prop
 |0,_=>False
 |d+1,n=>∀k∈n.kids,eY d k
def nW:∀(m:Nat) (a:aC),FineA m a->eY m a
 |0,a,h=>by
  have:=(h 1).1;simp only[bW] at this;omega
 |m+1,a,h=>fun k b=>nW m k fun d=>by
  have f:=(h (d+1)).1;have e:=(h (d+1)).2.2 k b;refine⟨?_,e⟩
  have:bW d k<=(a.kids.map (bW d)).sum:=by
   have:∀l:List aC,k∈l->bW d k<=(l.map (bW d)).sum:=by
    intro l;induction l with
    |nil=>intro h;cases h
    |cons x l c=>
     intro h;simp only[aM_,aO_];rcases aG_.1 h with rfl|h
     ·omega
     ·have:=c h;omega
   exact this _ b
  simp only[bW] at f;omega
def eJ(fs:List aC)(d:Nat)(s:aZ)(k:aC):aZ:=
 if k.op==[112,97,114,97,109] then { declaresL s k with seen:=(declaresL s k).seen++[k.text] } else aO fs false d k s
def fR(fs:List aC)(d:Nat)(s:aZ)(n:aC)(first:Bool):aZ:=
 n.kids.foldl (eJ fs d) { (if fL n.text || !first then s.found n.line 6 else s) with seen:=[] }
def eU(fs:List aC)(d:Nat):List aC->List aC->aZ->aZ
 |_,[],s=>s
 |pre,n::rest,s=>eU fs d (pre++[n]) rest (fR fs d s n (dL pre n.text).isNone)
def kM(d:Nat)(ks:List aC):Nat × Nat:=
 match dL ks [109,97,105,110] with
 |none=>(5,0)
 |some m=>if 1<m.kids.length then (5,0) else ((eU ks d [] ks ⟨[],0,0⟩).kind,(eU ks d [] ks ⟨[],0,0⟩).line)
def cG(l:List UInt8):Nat × Nat:=
 match cW l with
 |.error f=>f
 |.ok ks=>kM 2001 ks
def oF(t:aX):Prop:=t.sort=112\/(t.sort=107/\iO.contains t.text=true)\/t.sort=110\/(t.sort=48/\(dG 0 t.text).isSome=true)\/t.sort=115\/t.sort=101
def EB(ts:List aX):Prop:=∀t∈ts,oF t
def EJ(l:List UInt8)(line:Nat)(h:(bY l).ok=true):oF { sort:=(bY l).sort,text:=(bY l).text,line:=line }:=by
 cases l with
 |nil=>simp[bY] at h
 |cons c r=>
  rw[bY] at h ⊢
  split
  ·rename_i a;rw[if_pos a] at h;unfold gH at h ⊢
   split
   ·by_cases b:iO.contains ((c::r).take (bL (eC (fA c)) (c::r)))=true
    ·rw[if_pos b];exact as_ (av_ ⟨rfl,b⟩)
    ·rw[if_neg b];exact as_ (as_ (av_ rfl))
   ·rename_i f;rw[if_neg f] at h;exact as_ (as_ (as_ (av_ ⟨rfl,h⟩)))
  ·rename_i a;rw[if_neg a] at h;split
   ·exact as_ (as_ (as_ (as_ (av_ rfl))))
   ·rename_i d;rw[if_neg d] at h;unfold gG at h ⊢
    cases e:cM.find? (fun o=>cN (c::r) o) with
    |none=>rw[e] at h;simp at h
    |some o=>exact av_ rfl
def SA(f:Nat):∀(a l:List UInt8) (ts:List aX),eI f a l=.ok ts->EB ts:=by
 induction f with
 |zero=>intro a l ts h;cases h
 |succ f i=>
  intro a l ts h;by_cases d:l.length=0
  ·rw[mB _ _ _ d] at h;cases h;intro t b;rw[aD_.1 b];exact as_ (as_ (as_ (as_ (as_ rfl))))
  ·cases c:(bY l).ok
   ·rw[mC _ _ _ d c] at h;cases h
   ·rw[lP _ _ _ d c _ rfl] at h;cases e:eI f (a++l.take ((bY l).size+blankL l.length (l.drop (bY l).size))) (l.drop ((bY l).size+blankL l.length (l.drop (bY l).size))) with
    |error n=>rw[e] at h;cases h
    |ok g=>
     rw[e] at h;cases h;intro t b;rcases aG_.1 b with rfl|b
     ·exact EJ l _ c
     ·exact i _ _ g e t b
def MV{l:List UInt8}{ts:List aX}(h:gE l=.ok ts):EB ts:=SA _ _ _ _ h
def EB.tk{ts:List aX}(h:EB ts)(p:Nat)(a:p<ts.length):oF (aP ts p):=by
 have:aP ts p=ts[p]:=by unfold aP;rw[aH_ a];rfl
 rw[this];exact h _ (aR_ a)
structure aJ where
 sort:Nat
 n:Int
 s:List UInt8
 l:List aJ
def aJ.ind{P:aJ->Prop}(h:∀v,(∀x,x∈v.l->P x)->P v):∀v,P v
 |⟨a,b,c,l⟩=>h ⟨a,b,c,l⟩ fun x _=>aJ.ind h x
def bC(n:Int):aJ:=⟨0,n,[],[]⟩
def bO(b:Bool):aJ:=⟨1,if b then 1 else 0,[],[]⟩
def bK(s:List UInt8):aJ:=⟨2,0,s,[]⟩
def aW(l:List aJ):aJ:=⟨3,0,[],l⟩
def bN:aJ:=⟨0,0,[],[]⟩
noncomputable def aJ.fold{α:Type}(f:Nat->Int->List UInt8->List α->α)(v:aJ):α:=
 aJ.rec (motive_1:=fun _=>α) (motive_2:=fun _=>List α) (fun a n s _ c=>f a n s c) [] (fun _ _ h t=>h::t) v
def aJ.fold_eq{b:Type}(f:Nat->Int->List UInt8->List b->b)(v:aJ):v.fold f=f v.sort v.n v.s (v.l.map (aJ.fold f)):=by
 obtain⟨a,n,s,l⟩:=v;refine congrArg (f a n s) ?_;induction l with
 |nil=>rfl
 |cons x l c=>exact congrArg (aJ.fold f x::·) c
noncomputable def aK(v:aJ):Nat:=v.fold fun _ _ s c=>1+s.length+c.sum
def eR(v:aJ):aK v=1+v.s.length+(v.l.map aK).sum:=aJ.fold_eq _ v
def mZ{α:Type}:List (α->Bool)->List α->Bool
 |[],[]=>true
 |f::fs,x::xs=>f x && mZ fs xs
 |_,_=>false
noncomputable def same(x:aJ):aJ->Bool:=x.fold fun a n s c y=>a==y.sort && (n==y.n && (s==y.s && mZ c y.l))
def TA(x y:aJ):same x y=(x.sort==y.sort && (x.n==y.n && (x.s==y.s && mZ (x.l.map same) y.l))):=congrFun (aJ.fold_eq _ x) y
def xR:∀x y:aJ,same x y=true↔x=y:=by
 refine aJ.ind fun x e y=>?_
 have d:∀(l:List aJ),(∀v,v∈l->∀y,same v y=true↔v=y)->∀m:List aJ,mZ (l.map same) m=true↔l=m:=by
  intro l;induction l with
  |nil=>intro _ m;cases m<;>simp[mZ]
  |cons a l c=>
   intro h m;cases m with
   |nil=>simp[mZ]
   |cons b m=>simp[mZ,h a (by simp) b,c (fun v f=>h v (by simp[f])) m]
 rw[TA];simp only[aX_,beq_iff_eq,d x.l e y.l];constructor
 ·rintro⟨j,g,k,i⟩;cases x;cases y;simp_all
 ·rintro rfl;simp
def jD:Nat->Nat->List UInt8->List UInt8
 |0,_,t=>t
 |f+1,n,t=>if n<10 then UInt8.ofNat (48+n)::t else jD f (n/10) (UInt8.ofNat (48+n%10)::t)
def iI(n:Int):List UInt8:=(if n<0 then [45] else [])++jD 20 n.natAbs []
def fD:List (List UInt8)->List UInt8
 |[]=>[]
 |[x]=>x
 |x::r=>x++[44,32]++fD r
noncomputable def cB(v:aJ):List UInt8:=
 v.fold fun a n s c=>if a=0 then iI n else if a=1 then (if n=1 then [116,114,117,101] else [102,97,108,115,101]) else if a=2 then [34]++s++[34] else [91]++fD c++[93]
def jR(v:aJ):cB v=if v.sort=0 then iI v.n else if v.sort=1 then (if v.n=1 then [116,114,117,101] else [102,97,108,115,101]) else if v.sort=2 then [34]++v.s++[34] else [91]++fD (v.l.map cB)++[93]:=aJ.fold_eq _ v
noncomputable def iV(v:aJ):List UInt8:=if v.sort=2 then v.s else cB v
def kS(n:Int):Int:=(n+9223372036854775808)%18446744073709551616-9223372036854775808
noncomputable def iZ(a b:aJ):aJ × Nat:=
 let v:=if a.sort=3 then aW (a.l++b.l) else bK (a.s++b.s)
 if 200<aK v then (bN,6) else (v,0)
def jA(op:List UInt8)(x y:Int):aJ × Nat:=
 if op=[43] then (bC (kS (x+y)),0)
 else if op=[45] then (bC (kS (x-y)),0)
 else if op=[42] then (bC (kS (x*y)),0)
 else if op=[60] then (bO (decide (x<y)),0)
 else if op=[60,61] then (bO (decide (x<=y)),0)
 else if y=0 then (bN,3)
 else if op=[47] then (bC (kS (x.tdiv y)),0)
 else (bC (kS (x.tmod y)),0)
def fY:List UInt8->List UInt8->Bool
 |[],[]=>false
 |[],_::_=>true
 |_::_,[]=>false
 |a::l,b::m=>if a.toNat<b.toNat then true else if b.toNat<a.toNat then false else fY l m
noncomputable def eL(op:List UInt8)(a b:aJ):aJ × Nat:=
 if op=[61,61] then (bO (same a b),0)
 else if op=[33,61] then (bO (!same a b),0)
 else if a.sort≠b.sort\/a.sort=1 then (bN,2)
 else if a.sort=0 then jA op a.n b.n
 else if op=[43] then iZ a b
 else if a.sort=2/\op=[60] then (bO (fY a.s b.s),0)
 else if a.sort=2/\op=[60,61] then (bO (!fY b.s a.s),0)
 else (bN,2)
def fF(op:List UInt8)(a:aJ):aJ × Nat:=
 if op=[45,120]/\a.sort=0 then (bC (kS (-a.n)),0)
 else if op=[33,120]/\a.sort=1 then (bO (decide (a.n=0)),0)
 else (bN,2)
def iA:Nat->List UInt8->List (List UInt8)
 |0,_=>[]
 |f+1,l=>if l=[] then [] else if bF l=0 then [] else l.take (bF l)::iA f (l.drop (bF l))
def dS(l:List UInt8):List (List UInt8):=iA l.length l
def dW(a:aJ):aJ × Nat:=
 if a.sort=3 then (bC a.l.length,0) else if a.sort=2 then (bC (dS a.s).length,0) else (bN,2)
def jG(a:aJ):List aJ:=if a.sort=2 then (dS a.s).map bK else a.l
def dB(a b:aJ):aJ × Nat:=
 if a.sort<2\/b.sort≠0 then (bN,2)
 else if b.n<0\/((jG a).length:Int)<=b.n then (bN,4)
 else ((jG a).getD b.n.toNat bN,0)
def cI:List aJ->aJ->aJ->aJ × Nat
 |[],_,v=>(v,0)
 |i::at',old,v=>
  if old.sort≠3\/i.sort≠0 then (bN,2)
  else if i.n<0\/(old.l.length:Int)<=i.n then (bN,4)
  else if (cI at' (old.l.getD i.n.toNat bN) v).2≠0 then (bN,(cI at' (old.l.getD i.n.toNat bN) v).2)
  else (aW (old.l.set i.n.toNat (cI at' (old.l.getD i.n.toNat bN) v).1),0)
def jY{l:List UInt8}:bF l<=l.length:=by
 unfold bF;cases l with
 |nil=>simp
 |cons b r=>
  simp only[List.getElem?_cons_zero]
  have q:∀i c d,dE (b::r) i c d=true->i<(b::r).length:=by
   intro i c d h;unfold dE at h;rcases a6_ i (b::r).length with a|a
   ·exact a
   ·rw[a4_ a] at h;simp at h
  split
  ·simp
  split
  ·split
   ·have:=q 1 _ _ (by assumption);omega
   ·simp
  split
  ·generalize (if b.toNat=224 then 160 else 128)=f
   generalize (if b.toNat=237 then 159 else 191)=e
   split
   ·rename_i h;rw[aX_] at h;have:=q 2 _ _ h.2;omega
   ·simp
  split
  ·generalize (if b.toNat=240 then 144 else 128)=f
   generalize (if b.toNat=244 then 143 else 191)=e
   split
   ·rename_i h;rw[aX_] at h;have:=q 3 _ _ h.2;omega
   ·simp
  ·simp
def rD:∀(f:Nat) (l:List UInt8),l.length<=f->iA f l=dS l:=by
 have h:∀(n f g:Nat) (l:List UInt8),l.length<=n->l.length<=f->l.length<=g->iA f l=iA g l:=by
  intro n;induction n with
  |zero=>
   intro f g l e c i;have:l=[]:=br_.1 (by omega)
   subst this;cases f<;>cases g<;>simp[iA]
  |succ n d=>
   intro f g l e c i;by_cases a:l=[]
   ·subst a;cases f<;>cases g<;>simp[iA]
   ·have j:0<l.length:=bl_.2 a;cases f with
    |zero=>omega
    |succ f=>
     cases g with
     |zero=>omega
     |succ g=>
      rw[iA,iA,if_neg a,if_neg a];by_cases b:bF l=0
      ·rw[if_pos b,if_pos b]
      ·rw[if_neg b,if_neg b,d f g (l.drop (bF l)) (by rw[bf_];omega) (by rw[bf_];omega) (by rw[bf_];omega)]
 exact fun f l a=>h l.length f l.length l (au_ _) a (au_ _)
def gZ{l:List UInt8}(a:l≠[])(b:bF l≠0):dS l=l.take (bF l)::dS (l.drop (bF l)):=by
 have c:0<l.length:=bl_.2 a;obtain⟨n,d⟩:∃n,l.length=n+1:=⟨l.length-1,by omega⟩
 rw[<-rD (n+1) l (by omega),iA,if_neg a,if_neg b,rD n _ (by rw[bf_];omega)]
def dO{l:List UInt8}(h:l=[]\/bF l=0):dS l=[]:=by
 unfold dS;cases a:l.length with
 |zero=>rfl
 |succ n=>
  rw[iA];rcases h with h|h
  ·rw[if_pos h]
  ·rw[if_pos h];split<;>rfl
def sX(l:List UInt8):(dS l).length<=l.length:=by
 have h:∀(n:Nat) (l:List UInt8),l.length<=n->(dS l).length<=l.length:=by
  intro n;induction n with
  |zero=>
   intro l d;rw[dO (av_ (br_.1 (by omega)))];simp
  |succ n c=>
   intro l d;by_cases a:l=[]
   ·rw[dO (av_ a)];simp
   by_cases b:bF l=0
   ·rw[dO (as_ b)];simp
   have e:0<l.length:=bl_.2 a;rw[gZ a b,aB_];have:=c (l.drop (bF l)) (by rw[bf_];omega)
   rw[bf_] at this;have:= @jY l;omega
 exact h l.length l (au_ _)
inductive aH where
 |begin (line:Nat) (seen:List (List UInt8))
 |push (v:aJ)
 |load (slot:Nat)
 |declare (slot:Nat)
 |assign (slot n:Nat)
 |jump (to_:Nat)
 |skip (to_:Nat)
 |shortcut (when:Bool) (to_:Nat)
 |truth
 |unary (op:List UInt8)
 |binary (op:List UInt8)
 |index
 |list (n:Nat)
 |length
 |read
 |call (f:Nat) (n:Nat)
 |give
 |drop
 |print
def aH.isBegin:aH->Bool
 |.begin _ _=>true
 |_=>false
structure dY where
 name:List UInt8
 code:List aH
structure aI where
 fn:dY
 next:Nat
 line:Nat
 seen:List (List UInt8)
 vars:List aJ
 ops:List aJ
structure cF where
 frames:List aI
 tape:List Int
 out:List (List UInt8)
def aI.push(f:aI)(v:aJ):aI:={ f with ops:=f.ops++[v] }
def aI.last(f:aI):aJ:=f.ops.getLast?.getD bN
def aI.pop(f:aI):aI:={ f with ops:=f.ops.dropLast }
def aI.many(f:aI)(n:Nat):List aJ:=f.ops.drop (f.ops.length-n)
def aI.popMany(f:aI)(n:Nat):aI:={ f with ops:=f.ops.take (f.ops.length-n) }
noncomputable def gY(r:aJ × Nat):aJ × Nat:=if r.2=0 then if 200<aK r.1 then (bN,6) else r else r
noncomputable def nD(whole:aJ)(at_:List aJ)(to_:aJ):aJ × Nat:=gY (cI at_ whole to_)
noncomputable def aL(i:aH)(f:aI):aI × Nat:=
 match i with
 |.begin l s=>({ f with line:=l,seen:=s },0)
 |.push v=>(f.push v,0)
 |.load k=>(f.push (f.vars[k]?.getD bN),0)
 |.declare k=>({ f.pop with vars:=f.vars.take k++[f.last] },0)
 |.assign k n=>
  let g:=f.pop.popMany n
  let r:=nD (f.vars[k]?.getD bN) (f.pop.many n) f.last
  if r.2=0 then ({ g with vars:=f.vars.set k r.1 },0) else (g,r.2)
 |.jump t=>({ f with next:=t },0)
 |.skip t=>if f.last.sort=1 then (if f.last.n=1 then f.pop else { f.pop with next:=t },0) else (f.pop,2)
 |.shortcut w t=>if f.last.sort=1 then (if decide (f.last.n=1)=w then { f.pop.push f.last with next:=t } else f.pop,0) else (f.pop,2)
 |.truth=>if f.last.sort=1 then (f.pop.push f.last,0) else (f.pop,2)
 |.unary op=>let r:=fF (op++[120]) f.last;if r.2=0 then (f.pop.push r.1,0) else (f.pop,r.2)
 |.binary op=>let r:=eL op f.pop.last f.last;if r.2=0 then (f.pop.pop.push r.1,0) else (f.pop.pop,r.2)
 |.index=>let r:=dB f.pop.last f.last;if r.2=0 then (f.pop.pop.push r.1,0) else (f.pop.pop,r.2)
 |.list n=>let r:=gY (aW (f.many n),0);if r.2=0 then ((f.popMany n).push r.1,0) else (f.popMany n,r.2)
 |.length=>let r:=dW f.last;if r.2=0 then (f.pop.push r.1,0) else (f.pop,r.2)
 |.drop=>(f.pop,0)
 |_=>(f,0)
noncomputable def doI(tab:List dY)(i:aH)(below:List aI)(f:aI)(tape:List Int)(out:List (List UInt8)):cF × Nat:=
 match i with
 |.read=>
  match tape with
  |[]=>(⟨below++[f],tape,out⟩,7)
  |t::r=>(⟨below++[f.push (bC t)],r,out⟩,0)
 |.call k n=>
  if below.length+1=16 then (⟨below++[f.popMany n],tape,out⟩,5)
  else (⟨below++[f.popMany n,⟨tab[k]?.getD ⟨[],[]⟩,0,0,[],f.many n,[]⟩],tape,out⟩,0)
 |.give=>(⟨below.dropLast++(below.getLast?.map fun g=>g.push f.last).toList,tape,out⟩,0)
 |.print=>if out.length=50 then (⟨below++[f.pop],tape,out⟩,8) else (⟨below++[f.pop],tape,out++[iV f.last]⟩,0)
 |i=>let r:=aL i f;(⟨below++[r.1],tape,out⟩,r.2)
def aI.fetch(f:aI):Option (aH × aI):=f.fn.code[f.next]?.map fun i=>(i,{ f with next:=f.next+1 })
noncomputable def cJ(tab:List dY):Nat->cF->Option (cF × Nat)
 |0,_=>none
 |k+1,m=>
  match m.frames.getLast? with
  |none=>some (m,1)
  |some f=>
   match f.fetch with
   |none=>none
   |some (i,g)=>
    let r:=doI tab i m.frames.dropLast g m.tape m.out
    if r.2≠0 then some r
    else if i.isBegin then some r
    else cJ tab k r.1
structure bI where
 time:Nat
 m:cF
 stop:Nat
def bT(time stop:Nat):Nat:=if stop=0/\time=500 then 9 else stop
def dK:List (List UInt8)->List UInt8->Nat
 |[],_=>0
 |x::l,name=>if x=name then l.length else dK l name
def cS(fs:List aC)(name:List UInt8):Nat:=fs.findIdx fun f=>f.text==name
def bP(c:aC->Nat->List aH):List aC->Nat->List aH
 |[],_=>[]
 |a::l,p=>c a p++bP c l (p+(c a p).length)
def aG(fs:List aC)(seen:List (List UInt8)):Nat->aC->Nat->List aH
 |0,_,_=>[]
 |d+1,a,p=>
  let kids:=bP (aG fs seen d) a.kids p
  if a.op==[48] then [.push (bC (((dG 0 a.text).getD 0:Nat):Int))]
  else if a.op==[115] then [.push (bK a.text)]
  else if a.op==[98,111,111,108] then [.push (bO (a.text==[116,114,117,101]))]
  else if a.op==[110,97,109,101] then [.load (dK seen a.text)]
  else if a.op==[108,105,115,116] then kids++[.list a.kids.length]
  else if a.op==[105,110,100,101,120] then kids++[.index]
  else if a.op==[45,120] then kids++[.unary [45]]
  else if a.op==[33,120] then kids++[.unary [33]]
  else if a.op==[99,97,108,108] then
   kids++[if a.text==[108,101,110] then .length else if a.text==[114,101,97,100] then .read else .call (cS fs a.text) a.kids.length]
  else if a.op==[38,38] || a.op==[124,124] then
   match a.kids with
   |[l,r]=>
    let cl:=aG fs seen d l p
    let cr:=aG fs seen d r (p+cl.length+1)
    cl++[.shortcut (a.op==[124,124]) (p+cl.length+1+cr.length+1)]++cr++[.truth]
   |_=>[]
  else kids++[.binary a.op]
def bG(c:List (List UInt8)->aC->Nat->List aH × List (List UInt8)):List (List UInt8)->List aC->Nat->List aH
 |_,[],_=>[]
 |seen,a::l,p=>(c seen a p).1++bG c (c seen a p).2 l (p+(c seen a p).1.length)
def aU(fs:List aC):Nat->List (List UInt8)->aC->Nat->List aH × List (List UInt8)
 |0,seen,_,_=>([],seen)
 |d+1,seen,a,p=>
  let start:=aH.begin a.line seen
  let blk:=fun (b:aC) q=>bG (aU fs d) seen b.kids q
  if a.op==[118,97,114] then
   match a.kids with
   |[t,v]=>(start::aG fs seen d v (p+1)++[.declare seen.length],t.text::seen)
   |_=>([],seen)
  else if a.op==[115,101,116] then
   (start::bP (aG fs seen d) a.kids (p+1)++[.assign (dK seen a.text) (a.kids.length-1)],seen)
  else if a.op==[105,102] then
   match a.kids with
   |c::t::e=>
    let cc:=aG fs seen d c (p+1)
    let ct:=blk t (p+1+cc.length+1)
    let q:=p+1+cc.length+1+ct.length+1
    let ce:=match e with|[x]=>blk x q|_=>[]
    (start::cc++[.skip q]++ct++[.jump (q+ce.length)]++ce,seen)
   |_=>([],seen)
  else if a.op==[119,104,105,108,101] then
   match a.kids with
   |[c,b]=>
    let cc:=aG fs seen d c (p+1)
    let cb:=blk b (p+1+cc.length+1)
    (start::cc++[.skip (p+1+cc.length+1+cb.length+1)]++cb++[.jump p],seen)
   |_=>([],seen)
  else if a.op==[114,101,116,117,114,110] then
   match a.kids with
   |[v]=>(start::aG fs seen d v (p+1)++[.give],seen)
   |_=>([start,.push (bC 0),.give],seen)
  else if a.op==[112,114,105,110,116] then
   match a.kids with
   |[v]=>(start::aG fs seen d v (p+1)++[.print],seen)
   |_=>([],seen)
  else
   match a.kids with
   |[c]=>(start::aG fs seen d c (p+1)++[.drop],seen)
   |_=>([],seen)
def eX(fs:List aC)(d:Nat)(f:aC):dY:=
 let seen:=(f.kids.dropLast.map (·.text)).reverse
 ⟨f.text,bG (aU fs d) seen ((f.kids.getLast?.map (·.kids)).getD []) 0++[.push (bC 0),.give]⟩
def cP(fs:List aC)(d:Nat):List dY:=fs.map (eX fs d)
def eT(fs:List aC)(d:Nat)(tape:List Int):cF:=⟨[⟨(cP fs d)[cS fs [109,97,105,110]]?.getD ⟨[],[]⟩,0,0,[],[],[]⟩],tape,[]⟩
structure dX where
 h:Nat
 v:Nat
 e:Option Nat
 b:Bool
def eG(D:Nat->Prop)(T:Nat->dX)(q h v:Nat)(e:Option Nat):Prop:=D q/\(T q).h=h/\(T q).v<=v/\((T q).e=none\/(T q).e=e)
def iL(ar:Nat->Option Nat)(D:Nat->Prop)(T:Nat->dX)(p:Nat)(i:aH):Prop:=
 (T p).b=i.isBegin/\(T p).h<=p/\
 match i with
 |.begin _ s=>s.length<=(T p).v/\eG D T (p+1) (T p).h (T p).v (some s.length)
 |.push _=>eG D T (p+1) ((T p).h+1) (T p).v (T p).e
 |.load k=>k<(T p).v/\eG D T (p+1) ((T p).h+1) (T p).v (T p).e
 |.declare k=>1<=(T p).h/\k<=(T p).v/\k<=90000/\(T p).e=some k/\eG D T (p+1) ((T p).h-1) (k+1) (T p).e
 |.assign k n=>n+1<=(T p).h/\k<(T p).v/\eG D T (p+1) ((T p).h-(n+1)) (T p).v (T p).e
 |.jump q=>(p<q\/(T q).b=true)/\eG D T q (T p).h (T p).v (T p).e
 |.skip q=>1<=(T p).h/\p<q/\eG D T q ((T p).h-1) (T p).v (T p).e/\eG D T (p+1) ((T p).h-1) (T p).v (T p).e
 |.shortcut _ q=>1<=(T p).h/\p<q/\eG D T q (T p).h (T p).v (T p).e/\eG D T (p+1) ((T p).h-1) (T p).v (T p).e
 |.truth=>1<=(T p).h/\eG D T (p+1) (T p).h (T p).v (T p).e
 |.unary _=>1<=(T p).h/\eG D T (p+1) (T p).h (T p).v (T p).e
 |.length=>1<=(T p).h/\eG D T (p+1) (T p).h (T p).v (T p).e
 |.binary _=>2<=(T p).h/\eG D T (p+1) ((T p).h-1) (T p).v (T p).e
 |.index=>2<=(T p).h/\eG D T (p+1) ((T p).h-1) (T p).v (T p).e
 |.list n=>n<=(T p).h/\eG D T (p+1) ((T p).h-n+1) (T p).v (T p).e
 |.read=>eG D T (p+1) ((T p).h+1) (T p).v (T p).e
 |.call k n=>n<=(T p).h/\ar k=some n/\eG D T (p+1) ((T p).h-n+1) (T p).v (T p).e
 |.give=>1<=(T p).h
 |.drop=>1<=(T p).h/\eG D T (p+1) ((T p).h-1) (T p).v (T p).e
 |.print=>1<=(T p).h/\eG D T (p+1) ((T p).h-1) (T p).v (T p).e
def MJ(L:Nat->dX->Prop)(lo hi:Nat)(q:Nat):Prop:=(lo<=q/\q<=hi)\/∃y,L q y
def bH(ar:Nat->Option Nat)(L:Nat->dX->Prop)(p:Nat)(c:List aH)(h v:Nat)(e:Option Nat)(h' v':Nat)(e':Option Nat):Prop:=
 ∃T:Nat->dX,(∀q y,L q y->T q=y)/\(T p).h=h/\(T p).v<=v/\((T p).e=none\/(T p).e=e)/\
  (T (p+c.length)).h=h'/\(T (p+c.length)).v=v'/\(T (p+c.length)).e=e'/\
  ∀j i,c[j]?=some i->iL ar (MJ L p (p+c.length)) T (p+j) i
def eG.same{D b:Nat->Prop}{T T':Nat->dX}{q h v:Nat}{e:Option Nat}(f:eG D T q h v e)(c:D q->b q/\(T' q).h=(T q).h/\(T' q).v<=(T q).v/\((T' q).e=none\/(T' q).e=(T q).e)):eG b T' q h v e:=by
 obtain⟨j,d,m,i⟩:=f;obtain⟨k,g,l,a⟩:=c j;refine⟨k,by rw[g,d],by omega,?_⟩
 rcases a with a|a
 ·exact av_ a
 ·rw[a];exact i
def iL.same{ar:Nat->Option Nat}{D e:Nat->Prop}{T T':Nat->dX}{p:Nat}{i:aH}(f:iL ar D T p i)(c:T' p=T p)
 (b:∀q,D q->e q/\(T' q).h=(T q).h/\(T' q).v<=(T q).v/\((T' q).e=none\/(T' q).e=(T q).e)) (k:∀q,D q->q<=p->(T q).b=true->(T' q).b=true):iL ar e T' p i:=by
 obtain⟨j,g,a⟩:=f;refine⟨by rw[c];exact j,by rw[c];exact g,?_⟩
 cases i<;>simp only at a ⊢<;>try rw[c]
 case jump q=>
  refine⟨?_,a.2.same (b _)⟩;rcases a.1 with h|h
  ·exact av_ h
  ·rcases a6_ p q with d|d
   ·exact av_ d
   ·exact as_ (k q a.2.1 d h)
 all_goals first
  |exact a
  |exact a.same (b _)
  |exact⟨a.1,a.2.same (b _)⟩
  |exact⟨a.1,a.2.1,a.2.2.same (b _)⟩
  |exact⟨a.1,a.2.1,a.2.2.1.same (b _),a.2.2.2.same (b _)⟩
  |exact⟨a.1,a.2.1,a.2.2.1,a.2.2.2.1,a.2.2.2.2.same (b _)⟩
def bH.append{ar:Nat->Option Nat}{L:Nat->dX->Prop}{p:Nat}{c c':List aH}{h v s v1 r v2:Nat}{e w t:Option Nat}(a:bH ar L p c h v e s v1 w)(b:bH ar L (p+c.length) c' s v1 w r v2 t)
 (F:∀q y,L q y->q<=p\/p+c.length+c'.length<=q) (I:c≠[]):bH ar L p (c++c') h v e r v2 t:=by
 obtain⟨T,n,x,z,C,H,E,D,G⟩:=a;obtain⟨U,u1,u2,u3,u4,u5,u6,u7,u8⟩:=b;have B:0<c.length:=bl_.2 I;have f:(c++c').length=c.length+c'.length:=aw_;refine⟨fun q=>if q<p+c.length then T q else U q,fun q y d=>?_,?_,?_,?_,?_,?_,?_,fun j i m=>?_⟩
 ·rcases F q y d with h|h
  ·simp only[if_pos (show q<p+c.length by omega)];exact n q y d
  ·simp only[if_neg (show ¬q<p+c.length by omega)];exact u1 q y d
 ·simp only[if_pos (show p<p+c.length by omega)];exact x
 ·simp only[if_pos (show p<p+c.length by omega)];exact z
 ·simp only[if_pos (show p<p+c.length by omega)];exact C
 ·simp only[if_neg (show ¬p+(c++c').length<p+c.length by omega)];rw[f,<-b5_];exact u5
 ·simp only[if_neg (show ¬p+(c++c').length<p+c.length by omega)];rw[f,<-b5_];exact u6
 ·simp only[if_neg (show ¬p+(c++c').length<p+c.length by omega)];rw[f,<-b5_];exact u7
 ·rcases a6_ j c.length with k|k
  ·rw[a3_ k] at m;refine(G j i m).same (by simp only[if_pos (show p+j<p+c.length by omega)]) (fun q d=>?_) (fun q d o l=>?_)
   ·rcases a6_ q (p+c.length) with h|h
    ·rw[if_pos h];exact⟨d.imp (fun d=>⟨d.1,by omega⟩) id,rfl,au_ _,as_ rfl⟩
    ·rw[if_neg (show ¬q<p+c.length by omega)]
     rcases bm_ h with h|h
     ·subst h;exact⟨av_ ⟨by omega,by omega⟩,by rw[u2,H],by rw[E];exact u3,by rw[D];exact u4⟩
     ·rcases d with d|⟨y,g⟩
      ·omega
      ·rw[n q y g,u1 q y g];exact⟨as_ ⟨y,g⟩,rfl,au_ _,as_ rfl⟩
   ·simp only[if_pos (show q<p+c.length by omega)];exact l
  ·rw[aV_ k] at m;have u:=u8 (j-c.length) i m;rw[show p+c.length+(j-c.length)=p+j by omega] at u
   have A:j-c.length<c'.length:=(aZ_.1 m).1;refine u.same (by simp only[if_neg (show ¬p+j<p+c.length by omega)]) (fun q d=>?_) (fun q d o l=>?_)
   ·rcases d with d|⟨y,g⟩
    ·rw[if_neg (show ¬q<p+c.length by omega)]
     exact⟨av_ ⟨by omega,by omega⟩,rfl,au_ _,as_ rfl⟩
    ·refine⟨as_ ⟨y,g⟩,?_⟩;split
     ·rw[n q y g,u1 q y g];exact⟨rfl,au_ _,as_ rfl⟩
     ·exact⟨rfl,au_ _,as_ rfl⟩
   ·rcases d with d|⟨y,g⟩
    ·simp only[if_neg (show ¬q<p+c.length by omega)];exact l
    ·split
     ·rw[n q y g,<-u1 q y g];exact l
     ·exact l
def bH.nil(ar:Nat->Option Nat)(p h v:Nat)(e:Option Nat)(L:Nat->dX->Prop)(k:∀q y,L q y->q=p->y.h=h/\y.v=v/\y.e=e)(l:∀q y z,L q y->L q z->y=z):bH ar L p [] h v e h v e:=by
 classical
 refine⟨fun q=>if hq:∃y,L q y then hq.choose else ⟨h,v,e,false⟩,fun q y d=>?_,?_⟩
 ·have a:∃y,L q y:=⟨y,d⟩;simp only[dif_pos a];exact l q _ _ a.choose_spec d
 ·simp only[aI_,Nat.add_zero];split
  ·rename_i a;obtain⟨c,g,f⟩:=k p _ a.choose_spec rfl;exact⟨c,by omega,as_ f,c,g,f,fun j i b=>by simp at b⟩
  ·exact⟨rfl,au_ _,as_ rfl,rfl,rfl,rfl,fun j i b=>by simp at b⟩
structure oL(ar:Nat->Option Nat)(c:List aH)(T:Nat->dX):Prop where
 ins:∀j i,c[j]?=some i->iL ar (fun q=>q<c.length) T j i
 len:c.length<=80000
def gW(c:List aH):Prop:=(∃l s r,c=.begin l s::r)\/∃v,c=[.push v,.give]
structure cH(ar:Nat->Option Nat)(f:aI)(more:Nat):Prop where
 code:∃T,oL ar f.fn.code T/\(T f.next).h=f.ops.length+more/\(T f.next).v<=f.vars.length/\((T f.next).e=none\/(T f.next).e=some f.seen.length)
 next:f.next<f.fn.code.length
 seen:f.seen.length<=f.vars.length
 vars:f.vars.length<=90001
structure iK(ar:Nat->Option Nat)(tab:List dY):Prop where
 fn:∀k n,ar k=some n->∃f T,tab[k]?=some f/\oL ar f.code T/\(T 0).h=0/\(T 0).v<=n/\(T 0).e=none/\
  gW f.code
structure nG(ar:Nat->Option Nat)(m:cF):Prop where
 low:∀f∈m.frames.dropLast,cH ar f 1
 top:∀f,m.frames.getLast?=some f->cH ar f 0
 deep:m.frames.length<=16
def dV{b:Type}(l:List b)(a:b):(l++[a]).getLast?=some a:=by simp
def dA{b:Type}(l:List b)(a:b):(l++[a]).dropLast=l:=by simp
def nG.snoc{ar:Nat->Option Nat}{a:List aI}{f:aI}{t:List Int}{o:List (List UInt8)}(d:∀g∈a,cH ar g 1)(c:cH ar f 0)(e:a.length+1<=16):nG ar ⟨a++[f],t,o⟩:=
 ⟨by simp only[dA];exact d,fun g b=>by simp only[dV] at b;cases b;exact c,by simp;omega⟩
def cH.flow{ar:Nat->Option Nat}{T:Nat->dX}{f g:aI}{h v:Nat}{e:Option Nat}(l:oL ar f.fn.code T)(j:eG (fun q=>q<f.fn.code.length) T g.next h v e)(b:g.fn=f.fn)(m:h=g.ops.length)(n:v<=g.vars.length)(d:e=none\/e=some g.seen.length)
 (i:g.seen.length<=g.vars.length) (k:g.vars.length<=90001):cH ar g 0:=by
 obtain⟨c,o,p,a⟩:=j;refine⟨⟨T,by rw[b];exact l,by omega,by omega,?_⟩,by rw[b];exact c,i,k⟩
 rcases a with a|a
 ·exact av_ a
 ·rw[a];exact d
def aI.pop_len(f:aI):f.pop.ops.length=f.ops.length-1:=by simp[aI.pop]
def aI.push_len(f:aI)(v:aJ):(f.push v).ops.length=f.ops.length+1:=by simp[aI.push]
def aI.popMany_len(f:aI)(n:Nat):(f.popMany n).ops.length=f.ops.length-n:=by simp[aI.popMany]
def FL{ar:Nat->Option Nat}{T:Nat->dX}{f:aI}{i:aH}(e:oL ar f.fn.code T)(c:iL ar (fun q=>q<f.fn.code.length) T f.next i)
 (p:(T f.next).h=f.ops.length) (j:(T f.next).v<=f.vars.length) (d:(T f.next).e=none\/(T f.next).e=some f.seen.length) (b:f.seen.length<=f.vars.length) (g:f.vars.length<=90001)
 (C:i≠.give) (B:i≠.read) (z:i≠.print) (u:∀k n,i≠.call k n) (r:aI × Nat) (a:r=aL i { f with next:=f.next+1 }):
 r.1.seen.length<=r.1.vars.length/\(r.2=0->cH ar r.1 0):=by
 obtain⟨_,_,c⟩:=c;have x:=b;cases i with
 |give=>exact absurd rfl C
 |read=>exact absurd rfl B
 |print=>exact absurd rfl z
 |call k n=>exact absurd rfl (u k n)
 |begin l s=>
  simp only[aL] at a c;subst a;exact⟨by simp only;omega,fun _=>cH.flow (f:=f) e c.2 rfl p j (as_ rfl) (by simp only;omega) g⟩
 |push v=>
  simp only[aL] at a c;subst a;exact⟨b,fun _=>cH.flow (f:=f) e c rfl (by rw[aI.push_len];simp only;omega) j d b g⟩
 |load k=>
  simp only[aL] at a c;subst a;exact⟨b,fun _=>cH.flow (f:=f) e c.2 rfl (by rw[aI.push_len];simp only;omega) j d b g⟩
 |declare k=>
  simp only[aL] at a c;subst a;obtain⟨G,E,F,A,y⟩:=c;have t:f.seen.length=k:=by rcases d with d|d<;>rw[A] at d<;>cases d;rfl
  have o:(f.vars.take k++[aI.last { f with next:=f.next+1 }]).length=k+1:=by simp;omega
  exact⟨by show f.seen.length<=(f.vars.take k++[_]).length;rw[o];omega,fun _=>cH.flow (f:=f) e y rfl (by show _=(aI.pop _).ops.length;rw[aI.pop_len];simp only;omega) (by show _<=(f.vars.take k++[_]).length;rw[o];omega) d (by show f.seen.length<=(f.vars.take k++[_]).length;rw[o];omega) (by show (f.vars.take k++[_]).length<=_;rw[o];omega)⟩
 |assign k n=>
  simp only[aL] at a c;split at a
  ·subst a;refine⟨by simp only[bx_];exact b,fun _=>cH.flow (f:=f) e c.2.2 rfl ?_ (by simp only[bx_];exact j) d (by simp only[bx_];exact b) (by simp only[bx_];exact g)⟩
   show _=(aI.popMany _ n).ops.length
   rw[aI.popMany_len,aI.pop_len];simp only;omega
  ·subst a;rename_i m;exact⟨b,fun h=>absurd h m⟩
 |jump q=>
  simp only[aL] at a c;subst a;exact⟨b,fun _=>cH.flow (f:=f) e c.2 rfl p j d b g⟩
 |skip q=>
  simp only[aL] at a c;split at a
  ·subst a;refine⟨?_,fun _=>?_⟩
   ·split<;>exact b
   ·split
    ·exact cH.flow (f:=f) e c.2.2.2 rfl (by rw[aI.pop_len];simp only;omega) j d b g
    ·exact cH.flow (f:=f) e c.2.2.1 rfl (by show _=(aI.pop _).ops.length;rw[aI.pop_len];simp only;omega) j d b g
  ·subst a;exact⟨b,fun h=>absurd h (by simp)⟩
 |shortcut w q=>
  simp only[aL] at a c;split at a
  ·subst a;refine⟨?_,fun _=>?_⟩
   ·split<;>exact b
   ·split
    ·exact cH.flow (f:=f) e c.2.2.1 rfl (by show _=(aI.push (aI.pop _) _).ops.length;rw[aI.push_len,aI.pop_len];simp only;omega) j d b g
    ·exact cH.flow (f:=f) e c.2.2.2 rfl (by rw[aI.pop_len];simp only;omega) j d b g
  ·subst a;exact⟨b,fun h=>absurd h (by simp)⟩
 |truth=>
  simp only[aL] at a c;split at a
  ·subst a;exact⟨b,fun _=>cH.flow (f:=f) e c.2 rfl (by rw[aI.push_len,aI.pop_len];simp only;omega) j d b g⟩
  ·subst a;exact⟨b,fun h=>absurd h (by simp)⟩
 |unary D=>
  simp only[aL] at a c;split at a
  ·subst a;exact⟨b,fun _=>cH.flow (f:=f) e c.2 rfl (by rw[aI.push_len,aI.pop_len];simp only;omega) j d b g⟩
  ·subst a;rename_i m;exact⟨b,fun h=>absurd h m⟩
 |length=>
  simp only[aL] at a c;split at a
  ·subst a;exact⟨b,fun _=>cH.flow (f:=f) e c.2 rfl (by rw[aI.push_len,aI.pop_len];simp only;omega) j d b g⟩
  ·subst a;rename_i m;exact⟨b,fun h=>absurd h m⟩
 |binary D=>
  simp only[aL] at a c;split at a
  ·subst a;exact⟨b,fun _=>cH.flow (f:=f) e c.2 rfl (by rw[aI.push_len,aI.pop_len,aI.pop_len];simp only;omega) j d b g⟩
  ·subst a;rename_i m;exact⟨b,fun h=>absurd h m⟩
 |index=>
  simp only[aL] at a c;split at a
  ·subst a;exact⟨b,fun _=>cH.flow (f:=f) e c.2 rfl (by rw[aI.push_len,aI.pop_len,aI.pop_len];simp only;omega) j d b g⟩
  ·subst a;rename_i m;exact⟨b,fun h=>absurd h m⟩
 |list n=>
  simp only[aL] at a c;split at a
  ·subst a;exact⟨b,fun _=>cH.flow (f:=f) e c.2 rfl (by rw[aI.push_len,aI.popMany_len];simp only;omega) j d b g⟩
  ·subst a;rename_i m;exact⟨b,fun h=>absurd h m⟩
 |drop=>
  simp only[aL] at a c;subst a;exact⟨b,fun _=>cH.flow (f:=f) e c.2 rfl (by rw[aI.pop_len];simp only;omega) j d b g⟩
structure eS(ar:Nat->Option Nat)(m:cF):Prop where
 ok:nG ar m
 start:∀f∈m.frames,gW f.fn.code
def cH.pushed{ar:Nat->Option Nat}{f:aI}(h:cH ar f 1)(v:aJ):cH ar (f.push v) 0:=by
 obtain⟨⟨T,c,i,g,b⟩,e,a,d⟩:=h;exact⟨⟨T,c,by show (T f.next).h=(f.ops++[v]).length+0;simp;omega,g,b⟩,e,a,d⟩
def rX{b:List dY}{i:aH}{a:List aI}{f:aI}{t:List Int}{o:List (List UInt8)}(g:i≠.give)(e:i≠.read)(c:i≠.print)(d:∀k n,i≠.call k n):doI b i a f t o=(⟨a++[(aL i f).1],t,o⟩,(aL i f).2):=by
 cases i<;>first|rfl|exact absurd rfl g|exact absurd rfl e|exact absurd rfl c|exact absurd rfl (d _ _)
def lR(i:aH)(f:aI):(aL i f).1.fn=f.fn:=by
 cases i<;>simp only[aL]<;>(repeat' split)<;>rfl
def rW{ar:Nat->Option Nat}{A:List dY}(ht:iK ar A){d:List aI}{f:aI}{t:List Int}{o:List (List UInt8)}(h:eS ar ⟨d++[f],t,o⟩){i:aH}{g:aI}(I:f.fetch=some (i,g)):
 (∀x∈(doI A i d g t o).1.frames,x.seen.length<=x.vars.length)/\(doI A i d g t o).1.frames.length<=16/\((doI A i d g t o).2=0->eS ar (doI A i d g t o).1):=by
 have q:∀x∈d,cH ar x 1:=by have:=h.ok.low;simpa only[dA] using this
 have Q:cH ar f 0:=h.ok.top f (dV _ _);have w:d.length+1<=16:=by have:=h.ok.deep;simpa using this
 have z:∀x∈d,gW x.fn.code:=fun x m=>h.start x (by simp[m])
 have H:gW f.fn.code:=h.start f (by simp)
 obtain⟨⟨T,K,hh,W,X⟩,ac,C,V⟩:=Q
 obtain⟨rfl,hi⟩:g={ f with next:=f.next+1 }/\f.fn.code[f.next]?=some i:=by
  unfold aI.fetch at I;cases m:f.fn.code[f.next]? with
  |none=>rw[m] at I;cases I
  |some j=>rw[m] at I;simp at I;exact⟨I.2.symm,by rw[I.1]⟩
 have D:=K.ins _ _ hi;have L:∀x∈d,x.seen.length<=x.vars.length:=fun x m=>(q x m).seen
 by_cases hn:i=.give
 ·subst hn;rcases bo_ d with rfl|⟨b,x,rfl⟩
  ·refine⟨by simp[doI],by simp[doI],fun _=>⟨⟨by simp[doI],by simp[doI],by simp[doI]⟩,by simp[doI]⟩⟩
  ·rw[bp_] at*;have e:doI A .give (b++[x]) { f with next:=f.next+1 } t o=(⟨b++[x.push (aI.last { f with next:=f.next+1 })],t,o⟩,0):=by simp[doI]
   rw[e];refine⟨fun y u=>?_,by simp at w ⊢;omega,fun _=>⟨nG.snoc (fun y u=>q y (by simp[u])) ((q x (by simp)).pushed _) (by simp at w;omega),fun y u=>?_⟩⟩
   ·rcases aE_.1 u with u|u
    ·exact L y (by simp[u])
    ·rw[aD_.1 u];exact L x (by simp)
   ·rcases aE_.1 u with u|u
    ·exact z y (by simp[u])
    ·rw[aD_.1 u];exact z x (by simp)
 have p:∀y:aI,y.seen.length<=y.vars.length->∀x∈d++[y],x.seen.length<=x.vars.length:=fun y u x m=>by
  rcases aE_.1 m with m|m
  ·exact L x m
  ·rw[aD_.1 m];exact u
 have B:∀y:aI,cH ar y 0->y.fn=f.fn->∀t o,eS ar ⟨d++[y],t,o⟩:=fun y u aa t o=>⟨nG.snoc q u w,fun x m=>by
  rcases aE_.1 m with m|m
  ·exact z x m
  ·rw[aD_.1 m,aa];exact H⟩
 by_cases Z:i=.read
 ·subst Z;cases t with
  |nil=>exact⟨p _ C,by simp[doI];omega,fun J=>by simp[doI] at J⟩
  |cons a r=>exact⟨p _ C,by simp[doI];omega,fun _=>B (aI.push { f with next:=f.next+1 } (bC a)) (cH.flow (f:=f) K D.2.2 rfl (by rw[aI.push_len];simp only;omega) W X C V) rfl _ _⟩
 by_cases Y:i=.print
 ·subst Y;simp only[doI];split
  ·exact⟨p _ C,by simp;omega,fun J=>by simp at J⟩
  ·exact⟨p _ C,by simp;omega,fun _=>B (aI.pop { f with next:=f.next+1 }) (cH.flow (f:=f) K D.2.2.2 rfl (by rw[aI.pop_len];simp only;omega) W X C V) rfl _ _⟩
 by_cases hk:∃k n,i=.call k n
 ·obtain⟨k,n,rfl⟩:=hk;simp only[doI];split
  ·exact⟨p _ C,by simp;omega,fun J=>by simp at J⟩
  ·rename_i hd;obtain⟨_,_,ab,S,N⟩:=D;obtain⟨c,U,c1,c2,c3,c4,c5,c6⟩:=ht.fn k n S;have F:(aI.many { f with next:=f.next+1 } n).length=n:=by simp[aI.many];omega
   rw[c1]
   have G:cH ar ⟨c,0,0,[],aI.many { f with next:=f.next+1 } n,[]⟩ 0:=by
    refine⟨⟨U,c2,by simp[c3],by simp only[F];exact c4,av_ c5⟩,?_,by simp,by simp only[F];have:=c2.len;have:=K.len;have:=(K.ins _ _ hi).2.1;omega⟩
    rcases c6 with ⟨l,s,r,e⟩|⟨v,e⟩<;>simp[e]
   have E:cH ar (aI.popMany { f with next:=f.next+1 } n) 1:=by
    obtain⟨f1,f2,f3,P⟩:=N;refine⟨⟨T,K,?_,aF_ f3 W,?_⟩,f1,C,V⟩
    ·rw[aI.popMany_len];show (T (f.next+1)).h=_;simp only;omega
    ·rcases P with P|P
     ·exact av_ P
     ·show (T (f.next+1)).e=none\/(T (f.next+1)).e=_;rw[P];exact X
   have e1:d++[aI.popMany { f with next:=f.next+1 } n,(⟨c,0,0,[],aI.many { f with next:=f.next+1 } n,[]⟩:aI)]=(d++[aI.popMany { f with next:=f.next+1 } n])++[(⟨c,0,0,[],aI.many { f with next:=f.next+1 } n,[]⟩:aI)]:=by simp
   simp only[Option.getD_some];rw[e1];refine⟨fun x m=>?_,by simp;omega,fun _=>⟨nG.snoc (fun x m=>?_) G (by simp;omega),fun x m=>?_⟩⟩
   ·rcases aE_.1 m with m|m
    ·exact p _ E.seen x m
    ·rw[aD_.1 m];exact G.seen
   ·rcases aE_.1 m with m|m
    ·exact q x m
    ·rw[aD_.1 m];exact E
   ·rcases aE_.1 m with m|m
    ·rcases aE_.1 m with m|m
     ·exact z x m
     ·rw[aD_.1 m];exact H
    ·rw[aD_.1 m];exact c6
 have M:∀k n,i≠.call k n:=fun k n e=>hk ⟨k,n,e⟩
 rw[rX hn Z Y M];have O:=FL K D hh W X C V hn Z Y M _ rfl;exact⟨p _ O.1,by simp;omega,fun J=>B _ (O.2 J) (lR _ _) _ _⟩
def jP(f:aI):Nat:=if f.next=0 then 2 else if f.fn.code.length=2 then 1 else 4*(f.fn.code.length-f.next)
def wgts(l:List aI):Nat:=(l.map jP).sum
def zS{ar:Nat->Option Nat}{T:Nat->dX}{f:aI}{i:aH}(a:iL ar (fun q=>q<f.fn.code.length) T f.next i)
 (e:i.isBegin=false) (o:i≠.give) (m:i≠.read) (j:i≠.print) (g:∀k n,i≠.call k n):
 (aL i { f with next:=f.next+1 }).2=0->(f.next<(aL i { f with next:=f.next+1 }).1.next/\(aL i { f with next:=f.next+1 }).1.next<f.fn.code.length)\/(T (aL i { f with next:=f.next+1 }).1.next).b=true/\(aL i { f with next:=f.next+1 }).1.next<f.fn.code.length:=by
 obtain⟨_,_,a⟩:=a;intro b;cases i with
 |give=>exact absurd rfl o
 |read=>exact absurd rfl m
 |print=>exact absurd rfl j
 |call k n=>exact absurd rfl (g k n)
 |begin l s=>simp[aH.isBegin] at e
 |jump q=>
  simp only at a;obtain⟨c|c,d⟩:=a
  ·exact av_ ⟨c,d.1⟩
  ·exact as_ ⟨c,d.1⟩
 |skip q=>
  simp only[aL] at a b ⊢
  split
  ·simp only;split
   ·exact av_ ⟨a2_ _,a.2.2.2.1⟩
   ·exact av_ ⟨a.2.1,a.2.2.1.1⟩
  ·rename_i h;rw[if_neg h] at b;simp at b
 |shortcut w q=>
  simp only[aL] at a b ⊢
  split
  ·simp only;split
   ·exact av_ ⟨a.2.1,a.2.2.1.1⟩
   ·exact av_ ⟨a2_ _,a.2.2.2.1⟩
  ·rename_i h;rw[if_neg h] at b;simp at b
 |assign k n=>
  simp only[aL] at a b ⊢
  split<;>exact av_ ⟨a2_ _,a.2.2.1⟩
 |declare k=>exact av_ ⟨a2_ _,a.2.2.2.2.1⟩
 |push v=>exact av_ ⟨a2_ _,a.1⟩
 |load k=>exact av_ ⟨a2_ _,a.2.1⟩
 |drop=>exact av_ ⟨a2_ _,a.2.1⟩
 |truth=>simp only[aL] at a ⊢;split<;>exact av_ ⟨a2_ _,a.2.1⟩
 |unary p=>simp only[aL] at a ⊢;split<;>exact av_ ⟨a2_ _,a.2.1⟩
 |length=>simp only[aL] at a ⊢;split<;>exact av_ ⟨a2_ _,a.2.1⟩
 |binary p=>simp only[aL] at a ⊢;split<;>exact av_ ⟨a2_ _,a.2.1⟩
 |index=>simp only[aL] at a ⊢;split<;>exact av_ ⟨a2_ _,a.2.1⟩
 |list n=>simp only[aL] at a ⊢;split<;>exact av_ ⟨a2_ _,a.2.1⟩
def gI(l:List aI)(f:aI):wgts (l++[f])=wgts l+jP f:=by simp[wgts]
def AH{f:aI}(h:f.next<f.fn.code.length):1<=jP f:=by unfold jP;repeat' split
                                                    all_goals omega
def MP(f:aI)(v:aJ):jP (f.push v)=jP f:=rfl
def vN{f g:aI}{i:aH}(m:gW f.fn.code)(a:f.fn.code[f.next]?=some i)(c:i.isBegin=false)(d:g.fn=f.fn)(n:f.next<g.next)(k:g.next<f.fn.code.length):jP g<jP f:=by
 unfold jP;rw[d];rcases m with ⟨l,s,r,e⟩|⟨v,e⟩
 ·have j:f.next≠0:=fun h=>by rw[e,h] at a;simp at a;rw[<-a] at c;simp[aH.isBegin] at c
  rw[if_neg (show g.next≠0 by omega),if_neg j]
  split<;>omega
 ·have b:f.fn.code.length=2:=by rw[e];rfl
  rw[b] at k;rw[if_neg (show g.next≠0 by omega),if_pos b,if_pos (show f.next=0 by omega)]
  omega
def MQ{f g:aI}{k n:Nat}(i:gW f.fn.code)(a:f.fn.code[f.next]?=some (.call k n))(c:g.fn=f.fn)(j:f.next<g.next)(m:g.next<f.fn.code.length):jP g+2<jP f:=by
 unfold jP;rw[c]
 have d:f.next≠0:=fun h=>by
  rcases i with ⟨l,s,r,e⟩|⟨v,e⟩<;>rw[e,h] at a<;>simp at a
 have b:f.fn.code.length≠2:=by omega
 rw[if_neg (show g.next≠0 by omega),if_neg d,if_neg b]
 split
 ·omega
 ·omega
structure MM(ar:Nat->Option Nat)(r:cF × Nat):Prop where
 told:∀x∈r.1.frames,x.seen.length<=x.vars.length
 deep:r.1.frames.length<=16
 ok:r.2=0->eS ar r.1/\r.1.frames≠[]
def jB{l:List aI}(h:l≠[]):∃b f,l=b++[f]:=by
 rcases bo_ l with a|⟨b,f,a⟩
 ·exact absurd a h
 ·exact⟨b,f,by rw[a,bp_]⟩
def qW{f:aI}(h:f.next<f.fn.code.length):f.fetch=some (f.fn.code[f.next],{ f with next:=f.next+1 }):=by
 unfold aI.fetch;rw[aH_ h];rfl
def uH{ar:Nat->Option Nat}{a:List dY}(i:iK ar a){k:Nat}{b:List aI}{f:aI}{t:List Int}{o:List (List UInt8)}(h:eS ar ⟨b++[f],t,o⟩){l:Nat}{s:List (List UInt8)}(m:f.fn.code[f.next]?=some (.begin l s)):
 ∃r,cJ a (k+1) ⟨b++[f],t,o⟩=some r/\MM ar r:=by
 have d:f.fetch=some (.begin l s,{ f with next:=f.next+1 }):=by unfold aI.fetch;rw[m];rfl
 obtain⟨g,e,j⟩:=rW i h d;refine⟨doI a (.begin l s) b { f with next:=f.next+1 } t o,?_,g,e,fun c=>⟨j c,by simp[doI]⟩⟩
 rw[cJ];simp only[dV,d,dA];have c:(doI a (.begin l s) b { f with next:=f.next+1 } t o).2=0:=rfl
 rw[if_neg (by rw[c];simp),if_pos (show (aH.begin l s).isBegin=true from rfl)]
def lG{ar:Nat->Option Nat}{p:List dY}(w:iK ar p):∀(k:Nat) (m:cF),eS ar m->wgts m.frames+2<=k->∃r,cJ p k m=some r/\MM ar r
 |0,_,_,H=>by omega
 |k+1,⟨fr,t,o⟩,h,H=>by
  by_cases E:fr=[]
  ·subst E;exact⟨(⟨[],t,o⟩,1),rfl,by simp,by simp,fun l=>by simp at l⟩
  obtain⟨b,f,rfl⟩:=jB E;have d:cH ar f 0:=h.ok.top f (dV _ _);have s:gW f.fn.code:=h.start f (by simp)
  have N:=qW d.next
  have C:f.fn.code[f.next]?=some (f.fn.code[f.next]'d.next):=aH_ d.next
  generalize f.fn.code[f.next]'d.next=i at N C
  obtain⟨Y,W,h3⟩:=rW w h N;by_cases l:(doI p i b { f with next:=f.next+1 } t o).2=0
  rotate_left
  ·refine⟨_,?_,Y,W,fun X=>absurd X l⟩
   rw[cJ];simp only[dV,N,dA];rw[if_pos l]
  cases L:i.isBegin;rotate_left
  ·cases i<;>simp[aH.isBegin] at L
   exact uH w h C
  have e:cJ p (k+1) ⟨b++[f],t,o⟩=cJ p k (doI p i b { f with next:=f.next+1 } t o).1:=by
   rw[cJ];simp only[dV,N,dA];rw[if_neg (by rw[l];simp),L]
   rfl
  rw[e];have A:=h3 l;simp only at H;rw[gI] at H;obtain⟨⟨T,V,hh,hv,he⟩,K,hs,hm⟩:=d;have u:=V.ins _ _ C;by_cases S:i=.give
  ·subst S;refine lG w k _ A ?_;have J:=AH K;rcases bo_ b with rfl|⟨U,x,rfl⟩
   ·simp[doI,wgts] at H ⊢;omega
   ·rw[bp_] at*;have Z:(doI p .give (U++[x]) { f with next:=f.next+1 } t o).1.frames=U++[x.push (aI.last { f with next:=f.next+1 })]:=by simp[doI]
    rw[Z,gI,MP];rw[gI] at H;omega
  by_cases Q:i=.read
  ·subst Q;cases t with
   |nil=>simp[doI] at l
   |cons a r=>
    refine lG w k _ A ?_;have J:=vN (g:=aI.push { f with next:=f.next+1 } (bC a)) s C rfl rfl (a2_ _) u.2.2.1
    show wgts (b++[_])+2<=k
    rw[gI];omega
  by_cases P:i=.print
  ·subst P;refine lG w k _ A ?_;have J:=vN (g:=aI.pop { f with next:=f.next+1 }) s C rfl rfl (a2_ _) u.2.2.2.1
   simp only[doI] at l ⊢
   split at l
   ·simp at l
   ·rw[if_neg (by assumption)]
    show wgts (b++[_])+2<=k
    rw[gI];omega
  by_cases F:∃c n,i=.call c n
  ·obtain⟨c,n,rfl⟩:=F;refine lG w k _ A ?_;have J:=MQ (g:=aI.popMany { f with next:=f.next+1 } n) s C rfl (a2_ _) u.2.2.2.2.1
   simp only[doI] at l ⊢
   split at l
   ·simp at l
   ·rw[if_neg (by assumption)]
    have e1:∀y z:aI,b++[y,z]=(b++[y])++[z]:=by simp
    simp only;rw[e1,gI,gI];have:∀c v,jP ⟨c,0,0,[],v,[]⟩=2:=fun c v=>rfl
    rw[this];omega
  have G:∀k n,i≠.call k n:=fun k n e=>F ⟨k,n,e⟩
  rw[rX S Q P G] at l A ⊢
  have q:=zS u L S Q P G l;have D:(aL i { f with next:=f.next+1 }).1.fn=f.fn:=lR _ _
  generalize aL i { f with next:=f.next+1 }=y at l A q D ⊢
  rcases q with ⟨O,M⟩|⟨O,M⟩
  ·refine lG w k _ A ?_;have J:=vN (g:=y.1) s C L D O M;simp only;rw[gI];omega
  ·have I:y.1.fn.code[y.1.next]?=some (f.fn.code[y.1.next]):=by rw[D];exact aH_ M
   have B:=(V.ins _ _ (aH_ M)).1;rw[O] at B;have J:=AH K;obtain⟨j,rfl⟩:∃j,k=j+1:=⟨k-1,by omega⟩
   generalize f.fn.code[y.1.next]=i' at I B
   cases i'<;>simp[aH.isBegin] at B
   exact uH w A I
def bH.then{ar:Nat->Option Nat}{L:Nat->dX->Prop}{p:Nat}{c c':List aH}{h v g v1 d v2:Nat}{e j i:Option Nat}(a:bH ar L p c h v e g v1 j)(b:bH ar L (p+c.length) c' g v1 j d v2 i)
 (n:∀q y,L q y->q<=p\/p+c.length+c'.length<=q):bH ar L p (c++c') h v e d v2 i:=by
 by_cases k:c=[]
 ·subst k;obtain⟨T,t,r,s,l,o,m,f,u⟩:=a;obtain⟨U,u1,u2,u3,u4,u5,u6,u7,u8⟩:=b;simp only[aI_,Nat.add_zero] at o m f u2 u3 u4 u5 u6 u7 u8;refine⟨U,u1,by omega,by omega,?_,u5,u6,u7,u8⟩
  rcases u4 with u4|u4
  ·exact av_ u4
  ·rw[u4,<-f];exact l
 ·exact a.append b n k
def bH.one{ar:Nat->Option Nat}{L:Nat->dX->Prop}{p:Nat}{i:aH}{h v h' v':Nat}{e e':Option Nat}(m:∀q y z,L q y->L q z->y=z)(k:∀y,L p y->y=⟨h,v,e,i.isBegin⟩)(l:∀y,L (p+1) y->y.h=h'/\y.v=v'/\y.e=e')
 (n:∀T:Nat->dX,T p=⟨h,v,e,i.isBegin⟩->(T (p+1)).h=h'->(T (p+1)).v=v'->(T (p+1)).e=e'->(∀q y,L q y->T q=y)->iL ar (MJ L p (p+1)) T p i):bH ar L p [i] h v e h' v' e':=by
 classical
 let T:Nat->dX:=fun q=>if hq:∃y,L q y then hq.choose else if q=p then ⟨h,v,e,i.isBegin⟩ else ⟨h',v',e',false⟩
 have g:∀q y,L q y->T q=y:=fun q y b=>by
  have a:∃y,L q y:=⟨y,b⟩;simp only[T,dif_pos a];exact m q _ _ a.choose_spec b
 have f:T p=⟨h,v,e,i.isBegin⟩:=by
  by_cases a:∃y,L p y
  ·obtain⟨y,b⟩:=a;rw[g p y b];exact k y b
  ·simp only[T,dif_neg a];rfl
 have c:(T (p+1)).h=h'/\(T (p+1)).v=v'/\(T (p+1)).e=e':=by
  by_cases a:∃y,L (p+1) y
  ·obtain⟨y,b⟩:=a;rw[g _ y b];exact l y b
  ·have e:T (p+1)=⟨h',v',e',false⟩:=by simp only[T,dif_neg a,if_neg (show ¬p+1=p by omega)]
   rw[e];exact⟨rfl,rfl,rfl⟩
 refine⟨T,g,by rw[f],by rw[f];exact au_ _,by rw[f];exact as_ rfl,c.1,c.2.1,c.2.2,fun j x d=>?_⟩
 match j,d with
 |0,d=>
  simp at d;subst d;exact n T f c.1 c.2.1 c.2.2 g
 |j+1,d=>simp at d
structure eF(L:Nat->dX->Prop)(lo hi:Nat):Prop where
 uniq:∀q y z,L q y->L q z->y=z
 out:∀q y,L q y->q<lo\/hi<q
def eF.sub{L:Nat->dX->Prop}{lo a lo' hi':Nat}(h:eF L lo a)(d:lo<=lo')(c:hi'<=a):eF L lo' hi':=⟨h.uniq,fun q y b=>by have:=h.out q y b;omega⟩
def eV(L:Nat->dX->Prop)(q:Nat)(y:dX):Nat->dX->Prop:=fun r z=>L r z\/(r=q/\z=y)
def eV.ok{L:Nat->dX->Prop}{lo c lo' hi' q:Nat}{y:dX}(h:eF L lo c)(i:lo<=q)(f:q<=c)(j:lo<=lo')(g:hi'<=c)(d:q<lo'\/hi'<q):eF (eV L q y) lo' hi':=by
 refine⟨fun r x z a b=>?_,fun r x a=>?_⟩
 ·rcases a with a|⟨rfl,rfl⟩<;>rcases b with b|⟨e,rfl⟩
  ·exact h.uniq _ _ _ a b
  ·have:=h.out _ _ a;omega
  ·have:=h.out _ _ b;omega
  ·rfl
 ·rcases a with a|⟨rfl,rfl⟩
  ·have:=h.out _ _ a;omega
  ·exact d
def bH.close{ar:Nat->Option Nat}{L:Nat->dX->Prop}{p:Nat}{c:List aH}{h v h' v' q:Nat}{e e':Option Nat}{y:dX}(s:bH ar (eV L q y) p c h v e h' v' e')(o:p<=q)(f:q<=p+c.length):bH ar L p c h v e h' v' e':=by
 obtain⟨T,u,b,d,g,x,m,l,w⟩:=s;refine⟨T,fun q y n=>u q y (av_ n),b,d,g,x,m,l,fun j i A=>(w j i A).same rfl (fun r a=>⟨?_,rfl,au_ _,as_ rfl⟩) (fun _ _ _ k=>k)⟩
 rcases a with a|⟨z,t|⟨rfl,rfl⟩⟩
 ·exact av_ a
 ·exact as_ ⟨z,t⟩
 ·exact av_ ⟨o,f⟩
def iE{L:Nat->dX->Prop}{p:Nat}:MJ L p (p+1) (p+1):=av_ ⟨by omega,by omega⟩
def bH.plain{ar:Nat->Option Nat}{L:Nat->dX->Prop}{p:Nat}{i:aH}{h v h':Nat}{e:Option Nat}(b:eF L p (p+1))(g:i.isBegin=false)(j:h<=p)
 (l:∀(D:Nat->Prop) (T:Nat->dX),(T p).h=h->(T p).v=v->eG D T (p+1) h' (T p).v (T p).e->(T p).b=false->(T p).h<=p->iL ar D T p i):bH ar L p [i] h v e h' v e:=
 bH.one b.uniq (fun y c=>absurd (b.out _ _ c) (by omega)) (fun y c=>absurd (b.out _ _ c) (by omega)) fun T a k d f _=>
  l _ T (by rw[a]) (by rw[a]) ⟨iE,k,by rw[d,a];exact au_ _,by rw[f,a];exact as_ rfl⟩ (by rw[a];exact g) (by rw[a];exact j)
def fG(fs:List aC)(k:Nat):Option Nat:=fs[k]?.map fun f=>f.kids.length-1
def ExOk(fs:List aC)(alone:Bool)(seen:List (List UInt8)):Nat->aC->Prop
 |0,_=>False
 |d+1,a=>
  ((a.op=[48]\/a.op=[115]\/a.op=[98,111,111,108])/\a.kids=[])\/
  (a.op=[110,97,109,101]/\a.kids=[]/\a.text∈seen)\/
  (a.op=[108,105,115,116]/\∀k∈a.kids,ExOk fs alone seen d k)\/
  (a.op=[105,110,100,101,120]/\∃l r,a.kids=[l,r]/\ExOk fs alone seen d l/\ExOk fs alone seen d r)\/
  ((a.op=[45,120]\/a.op=[33,120])/\∃l,a.kids=[l]/\ExOk fs alone seen d l)\/
  (a.op=[99,97,108,108]/\(∀k∈a.kids,ExOk fs alone seen d k)/\
    ((a.text=[108,101,110]/\a.kids.length=1)\/(a.text=[114,101,97,100]/\alone=false/\a.kids.length=0)\/
     (a.text≠[108,101,110]/\a.text≠[114,101,97,100]/\alone=false/\fG fs (cS fs a.text)=some a.kids.length)))\/
  (bZ a.op≠9/\∃l r,a.kids=[l,r]/\ExOk fs alone seen d l/\ExOk fs alone seen d r)
def qF:∀{seen:List (List UInt8)} {x:List UInt8},x∈seen->dK seen x<seen.length
 |y::l,x,h=>by
  unfold dK;split
  ·simp
  ·rename_i a;rcases aG_.1 h with rfl|h
   ·exact absurd rfl a
   ·have:=qF h;simp;omega
def mV{op:List UInt8}(h:bZ op≠9):op=[124,124]\/op=[38,38]\/op=[61,61]\/op=[33,61]\/op=[60]\/op=[60,61]\/op=[43]\/op=[45]\/op=[42]\/op=[47]\/op=[37]:=by
 unfold bZ at h;repeat' split at h
 all_goals simp_all
 all_goals grind
def RQ(fs:List aC)(alone:Bool)(seen:List (List UInt8))(d:Nat):Prop:=
 ∀(a:aC) (L:Nat->dX->Prop) (p h v:Nat) (e:Option Nat),ExOk fs alone seen d a->seen.length<=v->h<=p->eF L p (p+(aG fs seen d a p).length)->
  bH (fG fs) L p (aG fs seen d a p) h v e (h+1) v e/\1<=(aG fs seen d a p).length
def qH{fs:List aC}{b:Bool}{seen:List (List UInt8)}{d:Nat}(g:RQ fs b seen d):∀(l:List aC) (L:Nat->dX->Prop) (p h v:Nat) (e:Option Nat),(∀a∈l,ExOk fs b seen d a)->seen.length<=v->h<=p->eF L p (p+(bP (aG fs seen d) l p).length)->
 bH (fG fs) L p (bP (aG fs seen d) l p) h v e (h+l.length) v e/\l.length<=(bP (aG fs seen d) l p).length
 |[],L,p,h,v,e,_,_,_,c=>⟨bH.nil _ _ _ _ _ _ (fun q y f u=>absurd (c.out q y f) (by simp[bP];omega)) c.uniq,by simp⟩
 |a::l,L,p,h,v,e,i,j,o,c=>by
  simp only[bP,aw_] at c ⊢
  obtain⟨n,m⟩:=g a L p h v e (i a (aS_ ..)) j o (c.sub (au_ _) (by omega))
  obtain⟨k,r⟩:=qH g l L (p+(aG fs seen d a p).length) (h+1) v e (fun x s=>i x (aJ_ _ s)) j (by omega) (c.sub (by omega) (by omega))
  refine⟨?_,by simp only[aB_];omega⟩
  have t:h+(a::l).length=h+1+l.length:=by simp only[aB_];omega
  rw[t];exact n.then k fun q y f=>by have:=c.out q y f;omega
def bH.snoc{ar:Nat->Option Nat}{L:Nat->dX->Prop}{p:Nat}{c:List aH}{i:aH}{h v f d v2:Nat}{e j:Option Nat}(a:bH ar L p c h v e f v e)(g:eF L p (p+(c++[i]).length))(b:eF L (p+c.length) (p+c.length+1)->bH ar L (p+c.length) [i] f v e d v2 j):bH ar L p (c++[i]) h v e d v2 j:=by
 have l:(c++[i]).length=c.length+1:=by simp
 refine a.then (b (g.sub (by omega) (by omega))) fun q y k=>?_
 have:=g.out q y k;simp only[aB_,aI_];omega
def oW(fs:List aC)(j:Bool)(seen:List (List UInt8)):∀d,RQ fs j seen d
 |0,_,_,_,_,_,_,h,_,_,_=>h.elim
 |d+1,a,L,p,h,v,e,ha,hv,g,A=>by
  have Y:=oW fs j seen d
  have N:∀l r:aC,a.kids=[l,r]->ExOk fs j seen d l->ExOk fs j seen d r->∀k∈a.kids,ExOk fs j seen d k:=fun l r n V h2 k E=>by
   rw[n] at E;rcases aG_.1 E with rfl|E
   ·exact V
   ·rw[aD_.1 E];exact h2
  have m:∀i:aH,i.isBegin=false->aG fs seen (d+1) a p=bP (aG fs seen d) a.kids p++[i]->(∀k∈a.kids,ExOk fs j seen d k)->
   (∀(t:Nat) (D:Nat->Prop) (T:Nat->dX),(T t).h=h+a.kids.length->(T t).v=v->eG D T (t+1) (h+1) (T t).v (T t).e->(T t).b=false->(T t).h<=t->iL (fG fs) D T t i)->
   bH (fG fs) L p (aG fs seen (d+1) a p) h v e (h+1) v e/\1<=(aG fs seen (d+1) a p).length:=fun i hb B n hi=>by
   rw[B] at A ⊢
   obtain⟨V,h2⟩:=qH Y a.kids L p h v e n hv g (A.sub (au_ _) (by simp))
   exact⟨bH.snoc V A fun F=>bH.plain F hb (by omega) (hi _),by simp⟩
  rcases ha with ⟨o|o|o,n⟩|⟨o,n,hx⟩|⟨o,n⟩|⟨o,l,r,n,F,Q⟩|⟨o|o,l,n,F⟩|⟨o,n,B⟩|⟨o,l,r,n,F,Q⟩
  ·have B:aG fs seen (d+1) a p=[.push (bC (((dG 0 a.text).getD 0:Nat):Int))]:=by rw[aG];simp[o]
   rw[B] at A ⊢
   exact⟨bH.plain A rfl g fun D T c x f b g=>⟨b,g,by rw[c];exact f⟩,by simp⟩
  ·have B:aG fs seen (d+1) a p=[.push (bK a.text)]:=by rw[aG];simp[o]
   rw[B] at A ⊢
   exact⟨bH.plain A rfl g fun D T c x f b g=>⟨b,g,by rw[c];exact f⟩,by simp⟩
  ·have B:aG fs seen (d+1) a p=[.push (bO (a.text==[116,114,117,101]))]:=by rw[aG];simp[o]
   rw[B] at A ⊢
   exact⟨bH.plain A rfl g fun D T c x f b g=>⟨b,g,by rw[c];exact f⟩,by simp⟩
  ·have B:aG fs seen (d+1) a p=[.load (dK seen a.text)]:=by rw[aG];simp[o]
   rw[B] at A ⊢
   exact⟨bH.plain A rfl g fun D T c x f b g=>⟨b,g,by rw[x];have:=qF hx;omega,by rw[c];exact f⟩,by simp⟩
  ·refine m (.list a.kids.length) rfl (by rw[aG];simp[o]) n fun t D T c x f b g=>⟨b,g,by omega,?_⟩
   have:(T t).h-a.kids.length+1=h+1:=by omega
   rw[this];exact f
  ·refine m .index rfl (by rw[aG];simp[o]) (N l r n F Q) fun t D T c x f b g=>?_
   rw[n] at c;simp only[aB_,aI_] at c;refine⟨b,g,by omega,?_⟩
   have:(T t).h-1=h+1:=by omega
   rw[this];exact f
  ·refine m (.unary [45]) rfl (by rw[aG];simp[o]) (by rw[n];simpa using F) fun t D T c x f b g=>?_
   rw[n] at c;simp only[aB_,aI_] at c;exact⟨b,g,by omega,by rw[c];exact f⟩
  ·refine m (.unary [33]) rfl (by rw[aG];simp[o]) (by rw[n];simpa using F) fun t D T c x f b g=>?_
   rw[n] at c;simp only[aB_,aI_] at c;exact⟨b,g,by omega,by rw[c];exact f⟩
  ·rcases B with ⟨U,K⟩|⟨U,_,K⟩|⟨W,Z,_,K⟩
   ·refine m .length rfl (by rw[aG];simp[o,U]) n fun t D T c x f b g=>⟨b,g,by omega,?_⟩
    rw[c,K];exact f
   ·refine m .read rfl (by rw[aG];simp[o,U]) n fun t D T c x f b g=>⟨b,g,?_⟩
    rw[c,K];exact f
   ·refine m (.call (cS fs a.text) a.kids.length) rfl (by rw[aG];simp[o,W,Z]) n fun t D T c x f b g=>⟨b,g,by omega,K,?_⟩
    have:(T t).h-a.kids.length+1=h+1:=by omega
    rw[this];exact f
  ·by_cases O:a.op=[38,38]\/a.op=[124,124]
   rotate_left
   ·have X:aG fs seen (d+1) a p=bP (aG fs seen d) a.kids p++[.binary a.op]:=by
     rw[aG];rcases mV o with h|h|h|h|h|h|h|h|h|h|h<;>simp[h] at O ⊢
    refine m (.binary a.op) rfl X (N l r n F Q) fun t D T c x f b g=>?_
    rw[n] at c;simp only[aB_,aI_] at c;refine⟨b,g,by omega,?_⟩
    have:(T t).h-1=h+1:=by omega
    rw[this];exact f
   ·have B:aG fs seen (d+1) a p=aG fs seen d l p++[.shortcut (a.op==[124,124]) (p+(aG fs seen d l p).length+1+(aG fs seen d r (p+(aG fs seen d l p).length+1)).length+1)]++aG fs seen d r (p+(aG fs seen d l p).length+1)++[.truth]:=by
     rw[aG];rcases O with h|h<;>simp[h,n]
    generalize P:aG fs seen d l p=s at B;generalize M:aG fs seen d r (p+s.length+1)=u at B;rw[B] at A ⊢
    have H:(s++[aH.shortcut (a.op==[124,124]) (p+s.length+1+u.length+1)]++u++[aH.truth]).length=s.length+1+u.length+1:=by simp only[aw_,aB_,aI_]
    rw[H] at A;refine⟨bH.close (q:=p+s.length+1+u.length+1) (y:=⟨h+1,v,e,false⟩) ?_ (by omega) (by rw[H];omega),by omega⟩
    have w:eF (eV L (p+s.length+1+u.length+1) ⟨h+1,v,e,false⟩) p (p+s.length+1+u.length):=eV.ok A (by omega) (by omega) (au_ _) (by omega) (by omega)
    obtain⟨s1,l1⟩:=Y l (eV L (p+s.length+1+u.length+1) ⟨h+1,v,e,false⟩) p h v e F hv g (by rw[P];exact w.sub (au_ _) (by omega))
    rw[P] at s1 l1;obtain⟨s3,l3⟩:=Y r (eV L (p+s.length+1+u.length+1) ⟨h+1,v,e,false⟩) (p+s.length+1) h v e Q hv (by omega) (by rw[M];exact w.sub (by omega) (by omega))
    rw[M] at s3 l3
    have s2:bH (fG fs) (eV L (p+s.length+1+u.length+1) ⟨h+1,v,e,false⟩) (p+s.length) [.shortcut (a.op==[124,124]) (p+s.length+1+u.length+1)] (h+1) v e h v e:=by
     refine bH.one w.uniq (fun y G=>absurd (w.out _ _ G) (by omega)) (fun y G=>absurd (w.out _ _ G) (by omega)) fun T z c x S t4=>?_
     refine⟨by rw[z],by rw[z];show h+1<=_;omega,by rw[z];show 1<=h+1;omega,by omega,?_,iE,by rw[c,z];rfl,by rw[x,z];exact au_ _,by rw[S,z];exact as_ rfl⟩
     have:=t4 (p+s.length+1+u.length+1) ⟨h+1,v,e,false⟩ (as_ ⟨rfl,rfl⟩);exact⟨as_ ⟨_,as_ ⟨rfl,rfl⟩⟩,by rw[this,z],by rw[this,z];exact au_ _,by rw[this,z];exact as_ rfl⟩
    have s4:bH (fG fs) (eV L (p+s.length+1+u.length+1) ⟨h+1,v,e,false⟩) (p+s.length+1+u.length) [.truth] (h+1) v e (h+1) v e:=by
     refine bH.one w.uniq (fun y G=>absurd (w.out _ _ G) (by omega)) (fun y G=>?_) fun T z c x S t4=>⟨by rw[z],by rw[z];show h+1<=_;omega,by rw[z];show 1<=h+1;omega,iE,by rw[c,z],by rw[x,z];exact au_ _,by rw[S,z];exact as_ rfl⟩
     rcases G with G|⟨_,rfl⟩
     ·exact absurd (A.out _ _ G) (by omega)
     ·exact⟨rfl,rfl,rfl⟩
    have C:∀q y,eV L (p+s.length+1+u.length+1) ⟨h+1,v,e,false⟩ q y->q<=p\/p+s.length+1+u.length+1<=q:=fun q y I=>by have:=w.out q y I;omega
    have aa:=s1.then s2 fun q y I=>by have:=C q y I;simp only[aB_,aI_];omega
    have J:=aa.then (c':=u) (by rw[aw_];exact s3) fun q y I=>by have:=C q y I;simp only[aw_,aB_,aI_];omega
    exact J.then (c':=[.truth]) (by rw[show p+(s++[aH.shortcut (a.op==[124,124]) (p+s.length+1+u.length+1)]++u).length=p+s.length+1+u.length by simp only[aw_,aB_,aI_];omega];exact s4) fun q y I=>by have:=C q y I;simp only[aw_,aB_,aI_];omega
def bH.entry{ar:Nat->Option Nat}{L:Nat->dX->Prop}{p:Nat}{c:List aH}{h v b h' v':Nat}{e e':Option Nat}(s:bH ar L p c h v none h' v' e')(j:v<=b):bH ar L p c h b e h' v' e':=by
 obtain⟨T,f,d,i,a,g⟩:=s;exact⟨T,f,d,by omega,av_ (by rcases a with a|a<;>exact a),g⟩
def bH.exit{ar:Nat->Option Nat}{L:Nat->dX->Prop}{p:Nat}{c:List aH}{h v h' v' a:Nat}{e e':Option Nat}(s:bH ar L p c h v e h' v' e')(F:a<=v')(b:Bool)(C:∀y,¬L (p+c.length) y):bH ar (eV L (p+c.length) ⟨h',a,none,b⟩) p c h v e h' a none:=by
 obtain⟨T,z,o,r,t,l,w,E,B⟩:=s;refine⟨fun q=>if q=p+c.length then ⟨h',a,none,b⟩ else T q,fun q y d=>?_,?_,?_,?_,by simp only[if_pos],by simp only[if_pos],by simp only[if_pos],fun j i m=>?_⟩
 ·rcases d with d|⟨rfl,rfl⟩
  ·have f:q≠p+c.length:=fun e=>C y (by rw[<-e];exact d)
   simp only[if_neg f];exact z q y d
  ·simp only[if_pos]
 ·simp only;split
  ·rename_i g;rw[<-g] at l;simp only;omega
  ·exact o
 ·simp only;split
  ·rename_i g;rw[<-g] at w;simp only;omega
  ·exact r
 ·simp only;split
  ·exact av_ rfl
  ·exact t
 ·have x:j<c.length:=(aZ_.1 m).1;refine(B j i m).same (by rw[if_neg (by omega)]) (fun q d=>?_) (fun q d D u=>by rw[if_neg (by omega)];exact u)
  have n:MJ (eV L (p+c.length) ⟨h',a,none,b⟩) p (p+c.length) q:=d.imp id fun ⟨y,A⟩=>⟨y,av_ A⟩
  refine⟨n,?_⟩;split
  ·rename_i k;rw[k];exact⟨l.symm,by simp only;omega,av_ rfl⟩
  ·exact⟨rfl,au_ _,as_ rfl⟩
def cO(seen:List (List UInt8))(a:aC):List (List UInt8):=if a.op=[118,97,114] then (a.kids.head?.map (·.text)).toList++seen else seen
def StsOk(S:List (List UInt8)->aC->Prop):List (List UInt8)->List aC->Prop
 |_,[]=>True
 |seen,a::l=>S seen a/\StsOk S (cO seen a) l
def dD(fs:List aC):Nat->List (List UInt8)->aC->Prop
 |0,_,_=>False
 |d+1,seen,a=>
  (a.op=[118,97,114]/\seen.length<=90000/\∃t v,a.kids=[t,v]/\ExOk fs false seen d v/\t.text∉seen)\/
  (a.op=[115,101,116]/\a.text∈seen/\a.kids≠[]/\∀k∈a.kids,ExOk fs false seen d k)\/
  (a.op=[105,102]/\∃c t,(a.kids=[c,t]\/∃x,a.kids=[c,t,x]/\StsOk (dD fs d) seen x.kids)/\ExOk fs false seen d c/\StsOk (dD fs d) seen t.kids)\/
  (a.op=[119,104,105,108,101]/\∃c b,a.kids=[c,b]/\ExOk fs false seen d c/\StsOk (dD fs d) seen b.kids)\/
  (a.op=[114,101,116,117,114,110]/\(a.kids=[]\/∃v,a.kids=[v]/\ExOk fs false seen d v))\/
  (a.op=[112,114,105,110,116]/\∃v,a.kids=[v]/\ExOk fs false seen d v)\/
  (a.op=[100,111]/\∃c,a.kids=[c]/\ExOk fs false seen d c)
def RN(fs:List aC)(d:Nat):Prop:=
 ∀(seen:List (List UInt8)) (a:aC) (L:Nat->dX->Prop) (p:Nat),dD fs d seen a->eF L p (p+(aU fs d seen a p).1.length)->
  bH (fG fs) L p (aU fs d seen a p).1 0 seen.length none 0 (cO seen a).length none/\(aU fs d seen a p).2=cO seen a/\∃r,(aU fs d seen a p).1=.begin a.line seen::r
def NS(seen:List (List UInt8))(a:aC):seen.length<=(cO seen a).length:=by unfold cO;split<;>simp
def dP:List (List UInt8)->List aC->List (List UInt8)
 |seen,[]=>seen
 |seen,a::l=>dP (cO seen a) l
def lQ:∀(l:List aC) (seen:List (List UInt8)),seen.length<=(dP seen l).length
 |[],_=>au_ _
 |a::l,seen=>aF_ (NS seen a) (lQ l _)
def lU{fs:List aC}{d:Nat}(e:RN fs d):∀(l:List aC) (seen:List (List UInt8)) (L:Nat->dX->Prop) (p:Nat),StsOk (dD fs d) seen l->eF L p (p+(bG (aU fs d) seen l p).length)->
 bH (fG fs) L p (bG (aU fs d) seen l p) 0 seen.length none 0 (dP seen l).length none
 |[],seen,L,p,_,b=>bH.nil _ _ _ _ _ _ (fun q y c j=>absurd (b.out q y c) (by simp[bG];omega)) b.uniq
 |a::l,seen,L,p,h,b=>by
  simp only[bG,aw_] at b ⊢
  obtain⟨g,f,_⟩:=e seen a L p h.1 (b.sub (au_ _) (by omega))
  rw[f] at b ⊢
  have i:=lU e l (cO seen a) L (p+(aU fs d seen a p).1.length) h.2 (b.sub (by omega) (by omega))
  exact g.then i fun q y c=>by have:=b.out q y c;omega
def bH.begins{ar:Nat->Option Nat}{L:Nat->dX->Prop}{p l:Nat}{seen:List (List UInt8)}(g:∀q y z,L q y->L q z->y=z)(h:∀y,L p y->y=⟨0,seen.length,none,true⟩)(f:∀y,¬L (p+1) y):bH ar L p [.begin l seen] 0 seen.length none 0 seen.length (some seen.length):=
 bH.one g h (fun y e=>absurd e (f y)) fun T a d b c _=>⟨by rw[a],by rw[a];exact a9_ _,by rw[a];exact au_ _,iE,by rw[d,a],by rw[b,a];exact au_ _,by rw[c];exact as_ rfl⟩
def oT(i j:aH)(c:List aH):(i::c++[j]).length=c.length+2:=by simp
def bH.stmt{ar:Nat->Option Nat}{L:Nat->dX->Prop}{p l n v':Nat}{seen:List (List UInt8)}{c:List aH}{i:aH}(a:eF L p (p+(aH.begin l seen::c++[i]).length))
 (j:bH ar L (p+1) c 0 seen.length (some seen.length) n seen.length (some seen.length)) (g:eF L (p+1+c.length) (p+1+c.length+1)->bH ar L (p+1+c.length) [i] n seen.length (some seen.length) 0 v' none):
 bH ar L p (aH.begin l seen::c++[i]) 0 seen.length none 0 v' none:=by
 rw[oT] at a;have f:bH ar L p [.begin l seen] 0 seen.length none 0 seen.length (some seen.length):=bH.begins a.uniq (fun y d=>absurd (a.out _ _ d) (by omega)) (fun y d=>absurd (a.out _ _ d) (by omega))
 have e:=f.then (c':=c) j fun q y b=>by have:=a.out q y b;simp only[aB_,aI_];omega
 have h:=e.then (c':=[i]) (by rw[show p+([aH.begin l seen]++c).length=p+1+c.length by simp only[aw_,aB_,aI_];omega];exact g (a.sub (by omega) (by omega))) fun q y b=>by have:=a.out q y b;simp only[aw_,aB_,aI_];omega
 exact h
def bH.last{ar:Nat->Option Nat}{L:Nat->dX->Prop}{p n v v':Nat}{e:Option Nat}{i:aH}(a:eF L p (p+1))(g:i.isBegin=false)(h:n<=p)
 (k:∀(D:Nat->Prop) (T:Nat->dX),T p=⟨n,v,e,false⟩->D (p+1)->(T (p+1)).h=0->(T (p+1)).v=v'->(T (p+1)).e=none->(T p).h<=p->iL ar D T p i):bH ar L p [i] n v e 0 v' none:=
 bH.one a.uniq (fun y b=>absurd (a.out _ _ b) (by omega)) (fun y b=>absurd (a.out _ _ b) (by omega)) fun T c j d f _=>k _ T (by rw[c,g]) iE j d f (by rw[c];exact h)
def kN{fs:List aC}{seen:List (List UInt8)}{d:Nat}{a:aC}{L:Nat->dX->Prop}{p:Nat}{e:Option Nat}(b:ExOk fs false seen d a)(f:0<p)(c:eF L p (p+(aG fs seen d a p).length)):
 bH (fG fs) L p (aG fs seen d a p) 0 seen.length e 1 seen.length e/\1<=(aG fs seen d a p).length:=oW fs false seen d a L p 0 seen.length e b (au_ _) (by omega) c
def eF.none{L:Nat->dX->Prop}{lo a q:Nat}(h:eF L lo a)(d:lo<=q)(c:q<=a)(y:dX):¬L q y:=fun b=>by have:=h.out q y b;omega
def bH.ifs{ar:Nat->Option Nat}{L:Nat->dX->Prop}{p l v1 v2:Nat}{seen:List (List UInt8)}{b e m:List aH}
 (t:eF L p (p+1+b.length+1+e.length+1+m.length))
 (I:∀g,eF g (p+1) (p+1+b.length)->bH ar g (p+1) b 0 seen.length (some seen.length) 1 seen.length (some seen.length))
 (E:∀g,eF g (p+1+b.length+1) (p+1+b.length+1+e.length)->bH ar g (p+1+b.length+1) e 0 seen.length none 0 v1 none) (G:seen.length<=v1)
 (K:∀g,eF g (p+1+b.length+1+e.length+1) (p+1+b.length+1+e.length+1+m.length)->bH ar g (p+1+b.length+1+e.length+1) m 0 seen.length none 0 v2 none) (J:seen.length<=v2):
 bH ar L p (aH.begin l seen::b++[.skip (p+1+b.length+1+e.length+1)]++e++[.jump (p+1+b.length+1+e.length+1+m.length)]++m) 0 seen.length none 0 seen.length none:=by
 generalize F:p+1+b.length+1+e.length+1=q at*;generalize H:q+m.length=r at*;have j:eF (eV L r ⟨0,seen.length,none,false⟩) p (r-1):=eV.ok t (by omega) (au_ _) (au_ _) (by omega) (by omega)
 have k:bH ar (eV L r ⟨0,seen.length,none,false⟩) p (aH.begin l seen::b++[aH.skip q]++e++[aH.jump r]) 0 seen.length none 0 seen.length none:=by
  have h:p+(aH.begin l seen::b++[aH.skip q]++e++[aH.jump r]).length=q:=by simp only[aw_,aB_,aI_];omega
  rcases bm_ (show q<=r by omega) with s|s
  ·-- there is no else:one label
   subst s;have c:eF (eV L q ⟨0,seen.length,none,false⟩) p (q-1):=j;have A:=bH.begins (ar:=ar) (l:=l) (p:=p) (seen:=seen) c.uniq (fun y a=>absurd (c.out _ _ a) (by omega)) (fun y a=>absurd (c.out _ _ a) (by omega))
   have w:=A.then (c':=b) (I _ (c.sub (by omega) (by omega))) fun x y f=>by have:=c.out x y f;simp only[aB_,aI_];omega
   have z:p+([aH.begin l seen]++b).length=p+1+b.length:=by simp only[aw_,aB_,aI_];omega
   have B:=w.then (c':=[aH.skip q]) (by
    rw[z];refine bH.one (h':=0) (v':=seen.length) (e':=some seen.length) c.uniq (fun y a=>absurd (c.out _ _ a) (by omega)) (fun y a=>absurd (c.out _ _ a) (by omega)) fun T d u n o i=>?_
    have a:=i q ⟨0,seen.length,none,false⟩ (as_ ⟨rfl,rfl⟩);exact⟨by rw[d],by rw[d];show 1<=_;omega,by rw[d];exact au_ _,by omega,⟨as_ ⟨_,as_ ⟨rfl,rfl⟩⟩,by rw[a,d];rfl,by rw[a,d];exact au_ _,by rw[a];exact av_ rfl⟩,iE,by rw[u,d];rfl,by rw[n,d];exact au_ _,by rw[o,d];exact as_ rfl⟩)
    fun x y f=>by have:=c.out x y f;simp only[aw_,aB_,aI_];omega
   have C:p+([aH.begin l seen]++b++[aH.skip q]).length=p+1+b.length+1:=by simp only[aw_,aB_,aI_];omega
   have v:=B.then (c':=e) (by rw[C];exact(E _ (c.sub (by omega) (by omega))).entry (au_ _)) fun x y f=>by have:=c.out x y f;simp only[aw_,aB_,aI_];omega
   have D:p+([aH.begin l seen]++b++[aH.skip q]++e).length=p+1+b.length+1+e.length:=by simp only[aw_,aB_,aI_];omega
   exact v.then (c':=[aH.jump q]) (by
    rw[D];refine bH.one c.uniq (fun y a=>absurd (c.out _ _ a) (by omega)) (fun y a=>?_) fun T d u n o i=>?_
    ·rw[show p+1+b.length+1+e.length+1=q from F] at a
     rcases a with a|⟨_,rfl⟩
     ·exact absurd a (t.none (by omega) (by omega) y)
     ·exact⟨rfl,rfl,rfl⟩
    ·have a:=i q ⟨0,seen.length,none,false⟩ (as_ ⟨rfl,rfl⟩);exact⟨by rw[d],by rw[d];exact a9_ _,av_ (by omega),as_ ⟨_,as_ ⟨rfl,rfl⟩⟩,by rw[a,d],by rw[a,d];exact G,by rw[a];exact av_ rfl⟩)
    fun x y f=>by have:=c.out x y f;simp only[aw_,aB_,aI_];omega
  ·refine bH.close (q:=q) (y:=⟨0,seen.length,none,false⟩) ?_ (by omega) (by omega)
   have c:eF (eV (eV L r ⟨0,seen.length,none,false⟩) q ⟨0,seen.length,none,false⟩) p (q-1):=eV.ok j (by omega) (by omega) (au_ _) (by omega) (by omega)
   have A:=bH.begins (ar:=ar) (l:=l) (p:=p) (seen:=seen) c.uniq (fun y a=>absurd (c.out _ _ a) (by omega)) (fun y a=>absurd (c.out _ _ a) (by omega))
   have w:=A.then (c':=b) (I _ (c.sub (by omega) (by omega))) fun x y f=>by have:=c.out x y f;simp only[aB_,aI_];omega
   have z:p+([aH.begin l seen]++b).length=p+1+b.length:=by simp only[aw_,aB_,aI_];omega
   have B:=w.then (c':=[aH.skip q]) (by
    rw[z];refine bH.one (h':=0) (v':=seen.length) (e':=some seen.length) c.uniq (fun y a=>absurd (c.out _ _ a) (by omega)) (fun y a=>absurd (c.out _ _ a) (by omega)) fun T d u n o i=>?_
    have a:=i q ⟨0,seen.length,none,false⟩ (as_ ⟨rfl,rfl⟩);exact⟨by rw[d],by rw[d];show 1<=_;omega,by rw[d];exact au_ _,by omega,⟨as_ ⟨_,as_ ⟨rfl,rfl⟩⟩,by rw[a,d];rfl,by rw[a,d];exact au_ _,by rw[a];exact av_ rfl⟩,iE,by rw[u,d];rfl,by rw[n,d];exact au_ _,by rw[o,d];exact as_ rfl⟩)
    fun x y f=>by have:=c.out x y f;simp only[aw_,aB_,aI_];omega
   have C:p+([aH.begin l seen]++b++[aH.skip q]).length=p+1+b.length+1:=by simp only[aw_,aB_,aI_];omega
   have v:=B.then (c':=e) (by rw[C];exact(E _ (c.sub (by omega) (by omega))).entry (au_ _)) fun x y f=>by have:=c.out x y f;simp only[aw_,aB_,aI_];omega
   have D:p+([aH.begin l seen]++b++[aH.skip q]++e).length=p+1+b.length+1+e.length:=by simp only[aw_,aB_,aI_];omega
   exact v.then (c':=[aH.jump r]) (by
    rw[D];refine bH.one c.uniq (fun y a=>absurd (c.out _ _ a) (by omega)) (fun y a=>?_) fun T d u n o i=>?_
    ·rw[show p+1+b.length+1+e.length+1=q from F] at a
     rcases a with (a|⟨a,_⟩)|⟨_,rfl⟩
     ·exact absurd a (t.none (by omega) (by omega) y)
     ·omega
     ·exact⟨rfl,rfl,rfl⟩
    ·have a:=i r ⟨0,seen.length,none,false⟩ (av_ (as_ ⟨rfl,rfl⟩));exact⟨by rw[d],by rw[d];exact a9_ _,av_ (by omega),as_ ⟨_,av_ (as_ ⟨rfl,rfl⟩)⟩,by rw[a,d],by rw[a,d];exact G,by rw[a];exact av_ rfl⟩)
    fun x y f=>by have:=c.out x y f;simp only[aw_,aB_,aI_];omega
 have h:p+(aH.begin l seen::b++[aH.skip q]++e++[aH.jump r]).length=q:=by simp only[aw_,aB_,aI_];omega
 refine bH.close (q:=r) (y:=⟨0,seen.length,none,false⟩) ?_ (by omega) (by rw[aw_];omega)
 refine k.then (c':=m) ?_ fun x y f=>by have:=j.out x y f;omega
 rw[h];have:=(K L (t.sub (by omega) (by omega))).exit J false (by rw[H];exact t.none (by omega) (au_ _))
 rw[H] at this;exact this
def bH.whiles{ar:Nat->Option Nat}{L:Nat->dX->Prop}{p l v1:Nat}{seen:List (List UInt8)}{b cb:List aH}
 (i:eF L p (p+1+b.length+1+cb.length+1))
 (C:∀f,eF f (p+1) (p+1+b.length)->bH ar f (p+1) b 0 seen.length (some seen.length) 1 seen.length (some seen.length))
 (r:∀f,eF f (p+1+b.length+1) (p+1+b.length+1+cb.length)->bH ar f (p+1+b.length+1) cb 0 seen.length none 0 v1 none) (u:seen.length<=v1):
 bH ar L p (aH.begin l seen::b++[.skip (p+1+b.length+1+cb.length+1)]++cb++[aH.jump p]) 0 seen.length none 0 seen.length none:=by
 generalize s:p+1+b.length+1+cb.length+1=q at*;have m:p+(aH.begin l seen::b++[aH.skip q]++cb++[aH.jump p]).length=q:=by simp only[aw_,aB_,aI_];omega
 refine bH.close (q:=p) (y:=⟨0,seen.length,none,true⟩) (bH.close (q:=q) (y:=⟨0,seen.length,none,false⟩) ?_ (by omega) (by omega)) (by omega) (by omega)
 have h:eF (eV L p ⟨0,seen.length,none,true⟩) (p+1) q:=eV.ok i (au_ _) (by omega) (by omega) (au_ _) (by omega)
 have d:eF (eV (eV L p ⟨0,seen.length,none,true⟩) q ⟨0,seen.length,none,false⟩) (p+1) (q-1):=eV.ok h (by omega) (au_ _) (au_ _) (by omega) (by omega)
 have w:=bH.begins (ar:=ar) (l:=l) (p:=p) (seen:=seen) d.uniq (fun y a=>by
  rcases a with (a|⟨_,rfl⟩)|⟨a,_⟩
  ·exact absurd a (i.none (by omega) (by omega) y)
  ·rfl
  ·omega) (fun y a=>absurd (d.out _ _ a) (by omega))
 have t:=w.then (c':=b) (C _ (d.sub (by omega) (by omega))) fun x y e=>by have:=d.out x y e;simp only[aB_,aI_];omega
 have v:p+([aH.begin l seen]++b).length=p+1+b.length:=by simp only[aw_,aB_,aI_];omega
 have z:=t.then (c':=[aH.skip q]) (by
  rw[v];refine bH.one (h':=0) (v':=seen.length) (e':=some seen.length) d.uniq (fun y a=>absurd (d.out _ _ a) (by omega)) (fun y a=>absurd (d.out _ _ a) (by omega)) fun T c n j k g=>?_
  have a:=g q ⟨0,seen.length,none,false⟩ (as_ ⟨rfl,rfl⟩);exact⟨by rw[c],by rw[c];show 1<=_;omega,by rw[c];exact au_ _,by omega,⟨as_ ⟨_,as_ ⟨rfl,rfl⟩⟩,by rw[a,c];rfl,by rw[a,c];exact au_ _,by rw[a];exact av_ rfl⟩,iE,by rw[n,c];rfl,by rw[j,c];exact au_ _,by rw[k,c];exact as_ rfl⟩)
  fun x y e=>by have:=d.out x y e;simp only[aw_,aB_,aI_];omega
 have A:p+([aH.begin l seen]++b++[aH.skip q]).length=p+1+b.length+1:=by simp only[aw_,aB_,aI_];omega
 have o:=z.then (c':=cb) (by rw[A];exact(r _ (d.sub (by omega) (by omega))).entry (au_ _)) fun x y e=>by have:=d.out x y e;simp only[aw_,aB_,aI_];omega
 have B:p+([aH.begin l seen]++b++[aH.skip q]++cb).length=p+1+b.length+1+cb.length:=by simp only[aw_,aB_,aI_];omega
 exact o.then (c':=[aH.jump p]) (by
  rw[B];refine bH.one d.uniq (fun y a=>absurd (d.out _ _ a) (by omega)) (fun y a=>?_) fun T c n j k g=>?_
  ·rw[show p+1+b.length+1+cb.length+1=q from s] at a
   rcases a with (a|⟨a,_⟩)|⟨_,rfl⟩
   ·exact absurd a (i.none (by omega) (by omega) y)
   ·omega
   ·exact⟨rfl,rfl,rfl⟩
  ·have a:=g p ⟨0,seen.length,none,true⟩ (av_ (as_ ⟨rfl,rfl⟩));exact⟨by rw[c],by rw[c];exact a9_ _,as_ (by rw[a]),as_ ⟨_,av_ (as_ ⟨rfl,rfl⟩)⟩,by rw[a,c],by rw[a,c];exact u,by rw[a];exact av_ rfl⟩)
  fun x y e=>by have:=d.out x y e;simp only[aw_,aB_,aI_];omega
def lI(fs:List aC):∀d,RN fs d
 |0,_,_,_,_,h,_=>h.elim
 |d+1,g,a,L,p,Y,i=>by
  have N:=lI fs d;rcases Y with ⟨k,K,t,v,l,F,_⟩|⟨k,P,J,l⟩|⟨k,c,t,l,S,V⟩|⟨k,c,b,l,S,K⟩|⟨k,l|⟨v,l,F⟩⟩|⟨k,v,l,F⟩|⟨k,v,l,F⟩
  ·have o:aU fs (d+1) g a p=(aH.begin a.line g::aG fs g d v (p+1)++[aH.declare g.length],t.text::g):=by rw[aU];simp[k,l]
   have r:cO g a=t.text::g:=by unfold cO;rw[if_pos k,l];rfl
   rw[o] at i ⊢
   rw[r];simp only at i ⊢
   obtain⟨B,I⟩:=kN (L:=L) (p:=p+1) (e:=some g.length) F (by omega) (i.sub (by omega) (by rw[oT];omega))
   refine⟨bH.stmt i B fun w=>bH.last w rfl (by omega) fun D T m E u A C z=>⟨by rw[m];rfl,z,?_⟩,trivial,_,rfl⟩
   rw[m];exact⟨au_ _,au_ _,K,rfl,E,u,by rw[A];exact au_ _,av_ C⟩
  ·have o:aU fs (d+1) g a p=(aH.begin a.line g::bP (aG fs g d) a.kids (p+1)++[aH.assign (dK g a.text) (a.kids.length-1)],g):=by rw[aU];simp[k]
   have r:cO g a=g:=by unfold cO;rw[if_neg (by rw[k];decide)]
   rw[o] at i ⊢
   rw[r];simp only at i ⊢
   obtain⟨B,I⟩:=qH (oW fs false g d) a.kids L (p+1) 0 g.length (some g.length) l (au_ _) (by omega) (i.sub (by omega) (by rw[oT];omega))
   rw[bk_] at B;have U:0<a.kids.length:=bl_.2 J;refine⟨bH.stmt i B fun w=>bH.last w rfl (by omega) fun D T m E u A C z=>⟨by rw[m];rfl,z,?_⟩,trivial,_,rfl⟩
   rw[m];refine⟨?_,qF P,E,?_,by rw[A];exact au_ _,av_ C⟩
   ·show a.kids.length-1+1<=a.kids.length;omega
   ·rw[u];show 0=a.kids.length-(a.kids.length-1+1);omega
  ·have r:cO g a=g:=by unfold cO;rw[if_neg (by rw[k];decide)]
   rw[r]
   obtain⟨H,o,Q⟩:∃H,aU fs (d+1) g a p=(aH.begin a.line g::aG fs g d c (p+1)++[aH.skip (p+1+(aG fs g d c (p+1)).length+1+(bG (aU fs d) g t.kids (p+1+(aG fs g d c (p+1)).length+1)).length+1)]++bG (aU fs d) g t.kids (p+1+(aG fs g d c (p+1)).length+1)++
    [aH.jump (p+1+(aG fs g d c (p+1)).length+1+(bG (aU fs d) g t.kids (p+1+(aG fs g d c (p+1)).length+1)).length+1+H.length)]++H,g)/\
    ∃G,g.length<=G/\∀s,eF s (p+1+(aG fs g d c (p+1)).length+1+(bG (aU fs d) g t.kids (p+1+(aG fs g d c (p+1)).length+1)).length+1) (p+1+(aG fs g d c (p+1)).length+1+(bG (aU fs d) g t.kids (p+1+(aG fs g d c (p+1)).length+1)).length+1+H.length)->bH (fG fs) s (p+1+(aG fs g d c (p+1)).length+1+(bG (aU fs d) g t.kids (p+1+(aG fs g d c (p+1)).length+1)).length+1) H 0 g.length none 0 G none:=by
    rcases l with l|⟨x,l,P⟩
    ·refine⟨[],by rw[aU];simp[k,l],g.length,au_ _,fun s j=>bH.nil _ _ _ _ _ _ (fun q y W Z=>absurd (j.out q y W) (by simp;omega)) j.uniq⟩
    ·exact⟨_,by rw[aU];simp[k,l],_,lQ x.kids g,fun s j=>lU N x.kids g s _ P j⟩
   obtain⟨G,M,Q⟩:=Q;rw[o] at i ⊢
   simp only at i ⊢
   refine⟨bH.ifs (v1:=(dP g t.kids).length) (v2:=G) ?_ (fun s j=>(kN S (by omega) j).1) (fun s j=>lU N t.kids g s _ V j) (lQ _ _) Q M,trivial,_,rfl⟩
   refine i.sub (au_ _) ?_;simp only[aw_,aB_,aI_];omega
  ·have o:aU fs (d+1) g a p=(aH.begin a.line g::aG fs g d c (p+1)++[aH.skip (p+1+(aG fs g d c (p+1)).length+1+(bG (aU fs d) g b.kids (p+1+(aG fs g d c (p+1)).length+1)).length+1)]++bG (aU fs d) g b.kids (p+1+(aG fs g d c (p+1)).length+1)++[aH.jump p],g):=by rw[aU];simp[k,l]
   have r:cO g a=g:=by unfold cO;rw[if_neg (by rw[k];decide)]
   rw[o] at i ⊢
   rw[r];simp only at i ⊢
   refine⟨bH.whiles (v1:=(dP g b.kids).length) ?_ (fun s j=>(kN S (by omega) j).1) (fun s j=>lU N b.kids g s _ K j) (lQ _ _),trivial,_,rfl⟩
   refine i.sub (au_ _) ?_;simp only[aw_,aB_,aI_];omega
  ·have o:aU fs (d+1) g a p=(aH.begin a.line g::[aH.push (bC 0)]++[aH.give],g):=by rw[aU];simp[k,l]
   have r:cO g a=g:=by unfold cO;rw[if_neg (by rw[k];decide)]
   rw[o] at i ⊢
   rw[r];simp only at i ⊢
   have O:eF L (p+1) (p+2):=i.sub (by omega) (by rw[oT];simp)
   refine⟨bH.stmt (n:=1) i (bH.plain O rfl (by omega) fun D T u A f b X=>⟨b,X,by rw[u];exact f⟩) fun w=>bH.last w rfl (by omega) fun D T m E u A C z=>⟨by rw[m];rfl,z,by rw[m];exact au_ _⟩,trivial,_,rfl⟩
  ·have o:aU fs (d+1) g a p=(aH.begin a.line g::aG fs g d v (p+1)++[aH.give],g):=by rw[aU];simp[k,l]
   have r:cO g a=g:=by unfold cO;rw[if_neg (by rw[k];decide)]
   rw[o] at i ⊢
   rw[r];simp only at i ⊢
   obtain⟨B,I⟩:=kN (L:=L) (p:=p+1) (e:=some g.length) F (by omega) (i.sub (by omega) (by rw[oT];omega))
   exact⟨bH.stmt i B fun w=>bH.last w rfl (by omega) fun D T m E u A C z=>⟨by rw[m];rfl,z,by rw[m];exact au_ _⟩,trivial,_,rfl⟩
  ·have o:aU fs (d+1) g a p=(aH.begin a.line g::aG fs g d v (p+1)++[aH.print],g):=by rw[aU];simp[k,l]
   have r:cO g a=g:=by unfold cO;rw[if_neg (by rw[k];decide)]
   rw[o] at i ⊢
   rw[r];simp only at i ⊢
   obtain⟨B,I⟩:=kN (L:=L) (p:=p+1) (e:=some g.length) F (by omega) (i.sub (by omega) (by rw[oT];omega))
   refine⟨bH.stmt i B fun w=>bH.last w rfl (by omega) fun D T m E u A C z=>⟨by rw[m];rfl,z,?_⟩,trivial,_,rfl⟩
   rw[m];exact⟨au_ _,E,u,by rw[A];exact au_ _,av_ C⟩
  ·have o:aU fs (d+1) g a p=(aH.begin a.line g::aG fs g d v (p+1)++[aH.drop],g):=by rw[aU];simp[k,l]
   have r:cO g a=g:=by unfold cO;rw[if_neg (by rw[k];decide)]
   rw[o] at i ⊢
   rw[r];simp only at i ⊢
   obtain⟨B,I⟩:=kN (L:=L) (p:=p+1) (e:=some g.length) F (by omega) (i.sub (by omega) (by rw[oT];omega))
   refine⟨bH.stmt i B fun w=>bH.last w rfl (by omega) fun D T m E u A C z=>⟨by rw[m];rfl,z,?_⟩,trivial,_,rfl⟩
   rw[m];exact⟨au_ _,E,u,by rw[A];exact au_ _,av_ C⟩
structure iC(fs:List aC)(d:Nat)(f:aC):Prop where
 kids:∃ps b,f.kids=ps++[b]/\StsOk (dD fs d) (ps.map (·.text)).reverse b.kids/\(ps.map (·.text)).Nodup
 len:(eX fs d f).code.length<=80000
def B3{fs:List aC}{d:Nat}{f:aC}(h:iC fs d f):∃T,oL (fG fs) (eX fs d f).code T/\(T 0).h=0/\(T 0).v<=f.kids.length-1/\(T 0).e=none/\gW (eX fs d f).code:=by
 obtain⟨⟨z,b,D,p,_⟩,I⟩:=h;have g:(eX fs d f).code=bG (aU fs d) (z.map (·.text)).reverse b.kids 0++[.push (bC 0),.give]:=by simp[eX,D]
 have N:f.kids.length-1=(z.map (·.text)).reverse.length:=by simp[D]
 rw[N];generalize B:(z.map (·.text)).reverse=e at*
 have M:=lU (lI fs d) b.kids e (fun _ _=>False) 0 p ⟨fun _ _ _ h=>h.elim,fun _ _ h=>h.elim⟩
 have x:gW (eX fs d f).code:=by
  rw[g];cases A:b.kids with
  |nil=>exact as_ ⟨_,rfl⟩
  |cons a l=>
   rw[A] at p;obtain⟨r,K⟩:=(lI fs d e a (fun _ _=>False) 0 p.1 ⟨fun _ _ _ h=>h.elim,fun _ _ h=>h.elim⟩).2.2
   exact av_ ⟨a.line,e,r++bG (aU fs d) (aU fs d e a 0).2 l (0+(aU fs d e a 0).1.length)++[.push (bC 0),.give],by rw[bG,K];simp⟩
 generalize Q:bG (aU fs d) e b.kids 0=c at*;obtain⟨T,P,F,C,t,E,H,G,L⟩:=M;rw[bk_] at E H G;have s:(eX fs d f).code.length=c.length+2:=by rw[g];simp
 let U:Nat->dX:=fun q=>if q=c.length then ⟨0,(T q).v,none,false⟩ else if q=c.length+1 then ⟨1,(T c.length).v,none,false⟩ else T q
 have u0:U c.length=⟨0,(T c.length).v,none,false⟩:=by simp[U]
 have u1:U (c.length+1)=⟨1,(T c.length).v,none,false⟩:=by simp[U]
 have u2:∀q,q<c.length->U q=T q:=fun q u=>by simp[U];rw[if_neg (by omega),if_neg (by omega)]
 have v:(T 0).e=none:=by rcases t with t|t<;>exact t
 have o:(U 0).h=0/\(U 0).v<=e.length/\(U 0).e=none:=by
  rcases bS_ c.length with w|w
  ·rw[w] at u0;rw[u0];exact⟨rfl,C,rfl⟩
  ·rw[u2 0 w];exact⟨F,C,v⟩
 refine⟨U,⟨fun j i m=>?_,I⟩,o.1,o.2.1,o.2.2,x⟩
 rw[s];rw[g] at m;rcases a6_ j c.length with n|n
 ·rw[a3_ n] at m;have:=L j i m;simp only[bk_] at this;refine this.same (T':=U) (u2 j n) (fun q u=>?_) (fun q u O p=>by rw[u2 q (by omega)];exact p)
  rcases u with u|⟨y,J⟩
  ·refine⟨by omega,?_⟩
   rcases a6_ q c.length with h|h
   ·rw[u2 q h];exact⟨rfl,au_ _,as_ rfl⟩
   ·obtain rfl:q=c.length:=by omega
    rw[u0];exact⟨E.symm,au_ _,av_ rfl⟩
  ·exact J.elim
 ·rw[aV_ n] at m;obtain⟨k,rfl⟩:∃k,j=c.length+k:=⟨j-c.length,by omega⟩
  rw[bs_] at m;match k,m with
  |0,m=>
   simp at m;subst m;show iL _ _ U c.length _
   exact⟨by rw[u0];rfl,by rw[u0];exact a9_ _,by omega,by rw[u1,u0],by rw[u1,u0];exact au_ _,by rw[u1];exact av_ rfl⟩
  |1,m=>
   simp at m;subst m;exact⟨by rw[u1];rfl,by rw[u1];show 1<=_;omega,by rw[u1];exact au_ _⟩
  |k+2,m=>simp at m
def iF{fs:List aC}{d:Nat}(h:∀f∈fs,iC fs d f):iK (fG fs) (cP fs d):=by
 refine⟨fun k n a=>?_⟩
 unfold fG at a;cases b:fs[k]? with
 |none=>rw[b] at a;cases a
 |some f=>
  rw[b] at a;simp at a;subst a;obtain⟨T,g,c,j,e,i⟩:=B3 (h f (bb_ b));exact⟨eX fs d f,T,by simp[cP,b],g,c,j,e,i⟩
def mU{fs:List aC}{d:Nat}(h:∀f∈fs,iC fs d f)(o:fG fs (cS fs [109,97,105,110])=some 0)(a:List Int):eS (fG fs) (eT fs d a):=by
 obtain⟨f,T,k,i,n,j,m,c⟩:=(iF h).fn _ _ o;have e:eT fs d a=⟨[]++[⟨f,0,0,[],[],[]⟩],a,[]⟩:=by unfold eT;rw[k];rfl
 rw[e];refine⟨nG.snoc (fun g b=>by cases b) ⟨⟨T,i,n,j,av_ m⟩,?_,by simp,by simp⟩ (by simp),fun g b=>by simp at b;rw[b];exact c⟩
 rcases c with ⟨l,s,r,e⟩|⟨v,e⟩<;>simp[e]
inductive cQ:List UInt8->Prop
 |nil:cQ []
 |cons {l:List UInt8}:bF l≠0->cQ (l.drop (bF l))->cQ l
def mN{l m:List UInt8}{i lo a:Nat}(h:m[i]?=l[i]?):dE m i lo a=dE l i lo a:=by unfold dE;rw[h]
def nC{l m:List UInt8}(h:bF l≠0)(a:∀i,i<bF l->m[i]?=l[i]?):bF m=bF l:=by
 have o:=a 0 (by omega)
 unfold bF at h a ⊢
 rw[o];cases n:l[0]? with
 |none=>exact absurd (by rw[n]) h
 |some b=>
  rw[n] at h a;simp only at h a ⊢
  by_cases e:b.toNat<128
  ·rw[if_pos e,if_pos e]
  rw[if_neg e] at h a;rw[if_neg e,if_neg e];by_cases c:194<=b.toNat/\b.toNat<=223
  ·rw[if_pos c] at h a;rw[if_pos c,if_pos c];by_cases g:dE l 1 128 191=true
   ·rw[if_pos g] at a;rw[mN (a 1 (by omega))]
   ·rw[if_neg g] at h;exact absurd rfl h
  rw[if_neg c] at h a;rw[if_neg c,if_neg c];by_cases d:224<=b.toNat/\b.toNat<=239
  ·rw[if_pos d] at h a;rw[if_pos d,if_pos d];by_cases k:(dE l 1 (if b.toNat=224 then 160 else 128) (if b.toNat=237 then 159 else 191) && dE l 2 128 191)=true
   ·rw[if_pos k] at a;rw[mN (a 1 (by omega)),mN (a 2 (by omega))]
   ·rw[if_neg k] at h;exact absurd rfl h
  rw[if_neg d] at h a;rw[if_neg d,if_neg d];by_cases f:240<=b.toNat/\b.toNat<=244
  ·rw[if_pos f] at h a;rw[if_pos f,if_pos f];by_cases j:(dE l 1 (if b.toNat=240 then 144 else 128) (if b.toNat=244 then 143 else 191) && dE l 2 128 191 && dE l 3 128 191)=true
   ·rw[if_pos j] at a;rw[mN (a 1 (by omega)),mN (a 2 (by omega)),mN (a 3 (by omega))]
   ·rw[if_neg j] at h;exact absurd rfl h
  ·rw[if_neg f] at h;exact absurd rfl h
def MH(t:List UInt8):Prop:=t.length<=100/\cQ t
end Go.Proofs.YtblbkfdhjfppkaaGreatDoor.Hs
namespace Go.Proofs.YtblbkfdhjfppkaaGreatDoor
open Hs
def pS:Nat->aC->Prop
 |0,_=>True
 |d+1,a=>(a.op=[115]->a.text.length<=100/\cQ a.text)/\a.kids.length<=1000000/\∀k∈a.kids,pS d k
def mJ(a:aC):Prop:=∀e,pS e a
def mJ.kid{a k:aC}(h:mJ a)(b:k∈a.kids):mJ k:=fun e=>(h (e+1)).2.2 k b
def mJ.len{a:aC}(h:mJ a):a.kids.length<=1000000:=(h 1).2.1
end Go.Proofs.YtblbkfdhjfppkaaGreatDoor
namespace Go.Proofs.YtblbkfdhjfppkaaGreatDoor.Hs
def pR{a b:List UInt8}(h:bF a≠0):bF (a++b)=bF a:=
 nC h fun _ c=>a3_ (az_ c jY)
def sY{l:List UInt8}(h:bF l≠0):bF (l.take (bF l))=bF l:=
 nC h fun i a=>by rw[aU_,if_pos a]
def cQ.append{a b:List UInt8}(e:cQ a)(f:cQ b):cQ (a++b):=by
 induction e with
 |nil=>exact f
 |@cons l c _ d=>
  refine cQ.cons (by rw[pR c];exact c) ?_
  rw[pR c,List.drop_append_of_le_length jY];exact d
def cQ.one{l:List UInt8}(h:bF l≠0):cQ (l.take (bF l)):=
 cQ.cons (by rw[sY h];exact h) (by rw[sY h,List.drop_take];simp;exact cQ.nil)
def cQ.ne{l:List UInt8}(h:cQ l)(a:l≠[]):bF l≠0/\cQ (l.drop (bF l)):=by
 cases h with
 |nil=>exact absurd rfl a
 |cons c b=>exact⟨c,b⟩
def RE:∀(n:Nat) (l:List UInt8),l.length<=n->∀c∈dS l,cQ c:=by
 intro n;induction n with
 |zero=>
  intro l f c a;rw[dO (av_ (br_.1 (by omega)))] at a
  cases a
 |succ n e=>
  intro l f c a;by_cases d:l=[]
  ·rw[dO (av_ d)] at a;cases a
  by_cases b:bF l=0
  ·rw[dO (as_ b)] at a;cases a
  rw[gZ d b] at a;rcases aG_.1 a with rfl|a
  ·exact cQ.one b
  ·exact e _ (by rw[bf_];omega) c a
def WF:Nat->aJ->Prop
 |0,_=>True
 |d+1,v=>cQ v.s/\∀x∈v.l,WF d x
structure bQ(v:aJ):Prop where
 all:∀d,WF d v
def bQ.txt{v:aJ}(h:bQ v):cQ v.s:=(h.all 1).1
def bQ.kid{v x:aJ}(h:bQ v)(a:x∈v.l):bQ x:=⟨fun d=>(h.all (d+1)).2 x a⟩
def bQ.mk'{v:aJ}(a:cQ v.s)(b:∀x∈v.l,bQ x):bQ v:=
 ⟨fun d=>by
   cases d with
   |zero=>trivial
   |succ d=>exact⟨a,fun x c=>(b x c).all d⟩⟩
def bQ.num(n:Int):bQ (bC n):=.mk' .nil fun x a=>by cases a
def bQ.tru(b:Bool):bQ (bO b):=.mk' .nil fun x a=>by cases a
def bQ.nil:bQ bN:=.mk' .nil fun x a=>by cases a
def bQ.str{s:List UInt8}(h:cQ s):bQ (bK s):=.mk' h fun x a=>by cases a
def bQ.lst{l:List aJ}(h:∀x∈l,bQ x):bQ (aW l):=.mk' .nil h
def xK{l:List aJ}(h:∀x∈l,bQ x)(k:Nat):bQ (l.getD k bN):=by
 rw[List.getD_eq_getElem?_getD];cases a:l[k]? with
 |none=>exact bQ.nil
 |some x=>exact h x (bb_ a)
def AJ{l:List aJ}(h:∀x∈l,bQ x)(k:Nat):bQ (l[k]?.getD bN):=by
 cases a:l[k]? with
 |none=>exact bQ.nil
 |some x=>exact h x (bb_ a)
def TL(op:List UInt8)(a:aJ):bQ (fF op a).1:=by
 unfold fF;repeat' split
 all_goals first|exact bQ.num _|exact bQ.tru _|exact bQ.nil
def PG(op:List UInt8)(x y:Int):bQ (jA op x y).1:=by
 unfold jA;repeat' split
 all_goals first|exact bQ.num _|exact bQ.tru _|exact bQ.nil
def FJ{a b:aJ}(c:bQ a)(d:bQ b):bQ (iZ a b).1:=by
 unfold iZ;dsimp only;generalize e:(if a.sort=3 then aW (a.l++b.l) else bK (a.s++b.s))=v
 have f:bQ v:=by
  rw[<-e];split
  ·refine bQ.lst fun x g=>?_
   rcases aE_.1 g with h|h
   ·exact c.kid h
   ·exact d.kid h
  ·exact bQ.str (c.txt.append d.txt)
 split
 ·exact bQ.nil
 ·exact f
def RZ(op:List UInt8){a b:aJ}(c:bQ a)(d:bQ b):bQ (eL op a b).1:=by
 unfold eL;repeat' split
 all_goals first|exact bQ.tru _|exact bQ.nil|exact PG _ _ _|exact FJ c d
def FH(a:aJ):bQ (dW a).1:=by
 unfold dW;repeat' split
 all_goals first|exact bQ.num _|exact bQ.nil
def LC{a:aJ}(b:aJ)(e:bQ a):bQ (dB a b).1:=by
 unfold dB;split
 ·exact bQ.nil
 split
 ·exact bQ.nil
 refine xK (fun x d=>?_) _
 unfold jG at d;split at d
 ·obtain⟨c,f,rfl⟩:=bz_.1 d;exact bQ.str (RE _ _ (au_ _) c f)
 ·exact e.kid d
def rF:∀(l:List aJ) (a b:aJ),bQ a->bQ b->bQ (cI l a b).1
 |[],_,_,_,c=>c
 |i::l,a,b,e,c=>by
  unfold cI;have f:=rF l (a.l.getD i.n.toNat bN) b (xK (fun x d=>e.kid d) _) c
  split
  ·exact bQ.nil
  split
  ·exact bQ.nil
  split
  ·exact bQ.nil
  ·refine bQ.lst fun x d=>?_
   rcases bZ_ d with h|h
   ·exact e.kid h
   ·rw[h];exact f
def uZ{r:aJ × Nat}(h:bQ r.1):bQ (gY r).1:=by
 unfold gY;repeat' split
 all_goals first|exact bQ.nil|exact h
def vM(f:dY):Prop:=(∀v,aH.push v∈f.code->bQ v)/\∀op,aH.unary op∈f.code->op=[45]\/op=[33]
structure dJ(f:aI):Prop where
 fn:vM f.fn
 vars:∀v∈f.vars,bQ v
 ops:∀v∈f.ops,bQ v
def fM(m:cF):Prop:=∀f∈m.frames,dJ f
def jN(tab:List dY):Prop:=∀f∈tab,vM f
def dJ.last{f:aI}(h:dJ f):bQ f.last:=by
 unfold aI.last;cases a:f.ops.getLast? with
 |none=>exact bQ.nil
 |some x=>exact h.ops x (bK_ a)
def dJ.pop{f:aI}(h:dJ f):dJ f.pop:=⟨h.fn,h.vars,fun v a=>h.ops v (List.dropLast_subset _ a)⟩
def dJ.popMany{f:aI}(h:dJ f)(n:Nat):dJ (f.popMany n):=⟨h.fn,h.vars,fun v a=>h.ops v (bJ_ a)⟩
def dJ.push{f:aI}(h:dJ f){a:aJ}(c:bQ a):dJ (f.push a):=⟨h.fn,h.vars,fun v d=>by
 rcases aE_.1 d with b|b
 ·exact h.ops v b
 ·rw[aD_.1 b];exact c⟩
def dJ.next{f:aI}(h:dJ f)(n:Nat):dJ { f with next:=n }:=⟨h.fn,h.vars,h.ops⟩
def dJ.many{f:aI}(h:dJ f)(n:Nat):∀v∈f.many n,bQ v:=fun v a=>h.ops v (List.mem_of_mem_drop a)
def CY{i:aH}{f:aI}(h:dJ f)(d:∀v,i=.push v->bQ v):dJ (aL i f).1:=by
 cases i<;>simp only[aL]
 case begin l s=>exact⟨h.fn,h.vars,h.ops⟩
 case push v=>exact h.push (d v rfl)
 case load k=>exact h.push (AJ h.vars k)
 case declare k=>
  refine⟨h.fn,fun v b=>?_,h.pop.ops⟩
  rcases aE_.1 b with a|a
  ·exact h.vars v (bJ_ a)
  ·rw[aD_.1 a];exact h.last
 case assign k n=>
  have c:=h.pop.popMany n;split
  ·refine⟨c.fn,fun v b=>?_,c.ops⟩
   rcases bZ_ b with a|a
   ·exact h.vars v a
   ·rw[a];exact uZ (rF _ _ _ (AJ h.vars k) h.last)
  ·exact c
 case jump t=>exact h.next t
 case skip t=>
  repeat' split
  ·exact h.pop
  ·exact h.pop.next t
  ·exact h.pop
 case shortcut w t=>
  repeat' split
  ·exact(h.pop.push h.last).next t
  ·exact h.pop
  ·exact h.pop
 case truth=>
  repeat' split
  ·exact h.pop.push h.last
  ·exact h.pop
 case unary op=>
  repeat' split
  ·exact h.pop.push (TL _ _)
  ·exact h.pop
 case binary op=>
  repeat' split
  ·exact h.pop.pop.push (RZ _ h.pop.last h.last)
  ·exact h.pop.pop
 case index=>
  repeat' split
  ·exact h.pop.pop.push (LC _ h.pop.last)
  ·exact h.pop.pop
 case list n=>
  repeat' split
  ·exact(h.popMany n).push (uZ (bQ.lst (h.many n)))
  ·exact h.popMany n
 case length=>
  repeat' split
  ·exact h.pop.push (FH _)
  ·exact h.pop
 case drop=>exact h.pop
 all_goals exact h
def DT{m:List dY}(B:jN m){b:List aI}{f g:aI}{t:List Int}{o:List (List UInt8)}{i:aH}(h:fM ⟨b++[f],t,o⟩)(q:f.fetch=some (i,g)):fM (doI m i b g t o).1:=by
 have z:∀x∈b,dJ x:=fun x l=>h x (by simp[l])
 have u:dJ f:=h f (by simp)
 obtain⟨rfl,D⟩:g={ f with next:=f.next+1 }/\f.fn.code[f.next]?=some i:=by
  unfold aI.fetch at q;cases l:f.fn.code[f.next]? with
  |none=>rw[l] at q;cases q
  |some j=>rw[l] at q;simp at q;exact⟨q.2.symm,by rw[q.1]⟩
 have p:dJ { f with next:=f.next+1 }:=u.next _
 generalize { f with next:=f.next+1 }=g at p
 have A:∀v,i=.push v->bQ v:=fun v e=>u.fn.1 v (by rw[<-e];exact bb_ D)
 have d:∀y,dJ y->∀t o,fM ⟨b++[y],t,o⟩:=fun y C t o x l=>by
  rcases aE_.1 l with c|c
  ·exact z x c
  ·rw[aD_.1 c];exact C
 cases i
 case read=>
  cases t with
  |nil=>exact d _ p _ _
  |cons a r=>exact d _ (p.push (bQ.num _)) _ _
 case call k n=>
  simp only[doI];split
  ·exact d _ (p.popMany n) _ _
  ·intro x l;simp only[aE_,aG_,aQ_,or_false] at l;rcases l with c|rfl|rfl
   ·exact z x c
   ·exact p.popMany n
   ·refine⟨?_,p.many n,fun v w=>by cases w⟩
    show vM (m[k]?.getD ⟨[],[]⟩)
    cases s:m[k]? with
    |none=>exact aW_ (fun v w=>absurd w (by simp)) (fun v w=>absurd w (by simp))
    |some y=>exact B y (bb_ s)
 case give=>
  simp only[doI];intro x l;rcases aE_.1 l with c|c
  ·exact z x (List.dropLast_subset _ c)
  ·cases s:b.getLast? with
   |none=>rw[s] at c;cases c
   |some y=>
    rw[s] at c;simp at c;rw[c];exact(z y (bK_ s)).push p.last
 case print=>
  simp only[doI];split<;>exact d _ p.pop _ _
 all_goals exact d _ (CY p A) _ _
end Go.Proofs.YtblbkfdhjfppkaaGreatDoor.Hs
