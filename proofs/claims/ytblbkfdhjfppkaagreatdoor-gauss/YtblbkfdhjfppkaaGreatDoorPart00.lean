/- Plain functions on lists of bytes: lines, characters, blanks, tokens of a source. No Go, no program. -/
import Derived.Test.YtblbkfdhjfppkaaGreatDoorProg
import Derived.WalkKit
import Derived.WalkSpells
import Derived.WalkLawsBesides
import Derived.Lib.Strings
import Derived.BigQuiet
import Derived.Deep.QuietTactic
import Derived.Deep.RegionWith
import Derived.RegionTactic
import Derived.BigRegion
set_option maxRecDepth 100000
namespace Go.Proofs.YtblbkfdhjfppkaaGreatDoor.Hs
def aZ(l:List UInt8):Nat:=1+l.count 10
theorem iR(a b:List UInt8):aZ (a++b)=aZ a+b.count 10:=by
 unfold aZ;rw[List.count_append];omega
theorem OA(a:List UInt8):a.count 10≤a.length:=List.count_le_length
theorem nT(a:List UInt8):aZ a≤a.length+1:=by have:=OA a;unfold aZ;omega
theorem AU(a:List UInt8)(c:UInt8):aZ (a++[c])=aZ a+if c=10 then 1 else 0:=by
 rw[iR];by_cases h:c=10<;>simp[h]
def cY(l:List UInt8)(i lo hi:Nat):Bool:=
 match l[i]? with
 |some b=>decide (lo≤b.toNat) && decide (b.toNat≤hi)
 |none=>false
def bD(l:List UInt8):Nat:=
 match l[0]? with
 |none=>0
 |some b=>
  if b.toNat<128 then 1
  else if 194≤b.toNat∧b.toNat≤223 then if cY l 1 128 191 then 2 else 0
  else if 224≤b.toNat∧b.toNat≤239 then
   if cY l 1 (if b.toNat=224 then 160 else 128) (if b.toNat=237 then 159 else 191) && cY l 2 128 191 then 3 else 0
  else if 240≤b.toNat∧b.toNat≤244 then
   if cY l 1 (if b.toNat=240 then 144 else 128) (if b.toNat=244 then 143 else 191) && cY l 2 128 191 && cY l 3 128 191 then 4 else 0
  else 0
def dJ:Nat→List UInt8→Nat→Option Nat
 |0,_,_=>none
 |f+1,l,p=>
  if l.length=0 then none
  else if bD l=0 then some p
  else dJ f (l.drop (bD l)) (p+bD l)
def dW(c:UInt8):Bool:=decide (48≤c.toNat) && decide (c.toNat≤57)
def eV(c:UInt8):Bool:=
 c.toNat==95 || (decide (97≤c.toNat) && decide (c.toNat≤122) || decide (65≤c.toNat) && decide (c.toNat≤90))
def cJ(l what:List UInt8):Bool:=what.isPrefixOf l
def bI(p:UInt8→Bool):List UInt8→Nat
 |[]=>0
 |c::r=>if p c then bI p r+1 else 0
theorem jS(p:UInt8→Bool)(l:List UInt8):bI p l≤l.length:=by
 induction l with
 |nil=>simp[bI]
 |cons c r ih=>simp only[bI];split<;>simp<;>omega
def dZ(b:UInt8):Bool:=b.toNat != 10
def blankL:Nat→List UInt8→Nat
 |0,_=>0
 |f+1,l=>
  match l with
  |[]=>0
  |c::r=>
   if c.toNat=32∨c.toNat=9∨c.toNat=10 then blankL f r+1
   else if cJ (c::r) [47,47] then
    bI dZ (c::r)+blankL f ((c::r).drop (bI dZ (c::r)))
   else 0
def IN:Nat:=9223372036854775807
def dA:Nat→List UInt8→Option Nat
 |n,[]=>some n
 |n,c::r=>if (IN-(c.toNat-48))/10<n then none else dA (10*n+(c.toNat-48)) r
def iB:List (List UInt8):=[[102,117,110,99],[118,97,114],[105,102],[101,108,115,101],[119,104,105,108,101],[114,101,116,117,114,110],[112,114,105,110,116],[116,114,117,101],[102,97,108,115,101]]
def cI:List (List UInt8):=[[61,61],[33,61],[60,61],[38,38],[124,124],[40],[41],[123],[125],[91],[93],[44],[59],[61],[60],[43],[45],[42],[47],[37],[33]]
def dY(name:Bool)(b:UInt8):Bool:=dW b || name && eV b
def eU(b:UInt8):Bool:=b.toNat != 34 && b.toNat != 10
structure aV where
 sort:Nat
 text:List UInt8
 line:Nat
structure oC where
 sort:Nat
 text:List UInt8
 size:Nat
 ok:Bool
def gB(l:List UInt8)(name:Bool):oC:=
 if name then { sort:=if iB.contains (l.take (bI (dY name) l)) then 107 else 110,text:=l.take (bI (dY name) l),size:=bI (dY name) l,ok:=decide (bI (dY name) l≤16) }
 else { sort:=48,text:=l.take (bI (dY name) l),size:=bI (dY name) l,ok:=(dA 0 (l.take (bI (dY name) l))).isSome }
def mN(r:List UInt8):oC:=
 { sort:=115,text:=r.take (bI eU r),size:=bI eU r+2,ok:=decide (r[bI eU r]?=some 34) && decide (bI eU r≤100) }
def gA(l:List UInt8):oC:=
 match cI.find? (fun o=>cJ l o) with
 |some o=>{ sort:=112,text:=o,size:=o.length,ok:=true }
 |none=>{ sort:=0,text:=[],size:=0,ok:=false }
def bU:List UInt8→oC
 |[]=>{ sort:=0,text:=[],size:=0,ok:=false }
 |c::r=>if dW c || eV c then gB (c::r) (eV c) else if c.toNat=34 then mN r else gA (c::r)
def eD:Nat→List UInt8→List UInt8→Except Nat (List aV)
 |0,_,_=>.error 0
 |f+1,pre,l=>
  if l.length=0 then .ok [{ sort:=101,text:=[],line:=aZ pre }]
  else if (bU l).ok then
   match eD f (pre++l.take ((bU l).size+blankL l.length (l.drop (bU l).size))) (l.drop ((bU l).size+blankL l.length (l.drop (bU l).size))) with
   |.ok ts=>.ok ({ sort:=(bU l).sort,text:=(bU l).text,line:=aZ pre }::ts)
   |.error n=>.error n
  else .error (aZ pre)
def fY(l:List UInt8):Except Nat (List aV):=
 eD (l.length+1) (l.take (blankL l.length l)) (l.drop (blankL l.length l))
theorem kD{l w:List UInt8}(h:cJ l w=true):w.length≤l.length:=(List.isPrefixOf_iff_prefix.1 h).length_le
theorem mJ(f:Nat)(c:UInt8)(r:List UInt8):blankL (f+1) (c::r)=
 if c.toNat=32∨c.toNat=9∨c.toNat=10 then blankL f r+1
  else if cJ (c::r) [47,47] then bI dZ (c::r)+blankL f ((c::r).drop (bI dZ (c::r)))
  else 0:=by
 rw[blankL]
theorem zY(c:UInt8)(r:List UInt8)(h:cJ (c::r) [47,47]=true):1≤bI dZ (c::r):=by
 have hc:c=47:=by
  have:=List.isPrefixOf_iff_prefix.1 h;obtain⟨t,ht⟩:=this;simp only[List.cons_append,List.cons.injEq] at ht;exact ht.1.symm
 subst hc;rw[bI,if_pos (by decide)];omega
theorem tV(f:Nat):∀l:List UInt8,blankL f l≤l.length:=by
 induction f with
 |zero=>intro l;simp[blankL]
 |succ f ih=>
  intro l;cases l with
  |nil=>simp[blankL]
  |cons c r=>
   rw[mJ];split
   ·have:=ih r;simp;omega
   ·split
    ·have h1:=ih ((c::r).drop (bI dZ (c::r)));have h2:=jS dZ (c::r);rw[List.length_drop] at h1;omega
    ·omega
theorem BX(f:Nat):∀(g:Nat) (l:List UInt8),l.length≤f→l.length≤g→blankL f l=blankL g l:=by
 induction f with
 |zero=>
  intro g l h _;obtain rfl:l=[]:=List.eq_nil_of_length_eq_zero (by omega)
  cases g<;>rfl
 |succ f ih=>
  intro g l h1 h2;cases l with
  |nil=>cases g<;>rfl
  |cons c r=>
   cases g with
   |zero=>simp at h2
   |succ g=>
    rw[mJ,mJ];simp only[List.length_cons] at h1 h2;rw[ih g r (by omega) (by omega)]
    by_cases hst:cJ (c::r) [47,47]=true
    ·have h3:=zY c r hst;rw[ih g ((c::r).drop (bI dZ (c::r))) (by rw[List.length_drop,List.length_cons];omega) (by rw[List.length_drop,List.length_cons];omega)]
    ·simp only[hst];rfl
theorem qU(l:List UInt8)(b:Bool):(gB l b).size=bI (dY b) l:=by
 unfold gB;split<;>rfl
theorem sS(l:List UInt8)(h:(bU l).ok=true):1≤(bU l).size∧(bU l).size≤l.length:=by
 cases l with
 |nil=>simp[bU] at h
 |cons c r=>
  rw[bU] at h ⊢
  split
  ·rename_i hd;rw[qU];refine⟨?_,jS _ _⟩
   rw[bI,if_pos (by
    revert hd;unfold dY
    cases dW c<;>cases eV c<;>simp)]
   omega
  ·rename_i hd;rw[if_neg hd] at h;split
   ·rename_i h34;rw[if_pos h34] at h;have h':(decide (r[bI eU r]?=some 34) && decide (bI eU r≤100))=true:=h;rw[Bool.and_eq_true,decide_eq_true_eq] at h'
    have hlt:bI eU r<r.length:=by
     by_cases hx:bI eU r<r.length
     ·exact hx
     ·rw[List.getElem?_eq_none (by omega)] at h';exact absurd h'.1 (by simp)
    show 1≤bI eU r+2∧bI eU r+2≤(c::r).length
    rw[List.length_cons];omega
   ·rename_i h34;rw[if_neg h34] at h;unfold gA at h ⊢
    cases ho:cI.find? (fun o=>cJ (c::r) o) with
    |none=>rw[ho] at h;simp at h
    |some o=>
     have h1:=List.find?_some ho;have h2:=List.mem_of_find?_eq_some ho;refine⟨?_,kD h1⟩;have:∀o∈cI,1≤o.length:=by decide
     exact this o h2
def gV(ts:List aV):Except Nat (List aV)→Except Nat (List aV)
 |.ok l=>.ok (ts++l)
 |.error n=>.error n
theorem AL(x:Except Nat (List aV)):gV [] x=x:=by cases x<;>rfl
theorem xV(ts:List aV)(t:aV)(x:Except Nat (List aV)):gV (ts++[t]) x=gV ts (gV [t] x):=by cases x<;>simp[gV]
theorem lG(f:Nat)(pre l:List UInt8)(h:l.length=0):eD (f+1) pre l=.ok [{ sort:=101,text:=[],line:=aZ pre }]:=by
 rw[eD,if_pos h]
theorem lH(f:Nat)(pre l:List UInt8)(h:¬l.length=0)(hk:(bU l).ok=false):eD (f+1) pre l=.error (aZ pre):=by
 rw[eD,if_neg h,if_neg (by rw[hk];simp)]
theorem kV(f:Nat)(pre l:List UInt8)(h:¬l.length=0)(hk:(bU l).ok=true)(m:Nat)(hm:m=(bU l).size+blankL l.length (l.drop (bU l).size)):
 eD (f+1) pre l=gV [{ sort:=(bU l).sort,text:=(bU l).text,line:=aZ pre }] (eD f (pre++l.take m) (l.drop m)):=by
 rw[eD,if_neg h,if_pos hk,←hm];cases eD f (pre++l.take m) (l.drop m)<;>rfl
structure aC where
 op:List UInt8
 line:Nat
 text:List UInt8
 kids:List aC
def aO(ts:List aV)(p:Nat):aV:=ts[p]?.getD { sort:=101,text:=[],line:=0 }
def aT(ts:List aV)(p:Nat)(x:List UInt8):Bool:=((aO ts p).sort==112 || (aO ts p).sort==107) && (aO ts p).text==x
abbrev bR(α:Type):=Except Nat (α × Nat)
def bad{α:Type}(ts:List aV)(p:Nat):bR α:=.error (aO ts p).line
def bV(x:List UInt8):Nat:=
 if x==[124,124] then 0
 else if x==[38,38] then 1
 else if x==[61,61] || (x==[33,61] || (x==[60] || x==[60,61])) then 2
 else if x==[43] || x==[45] then 3
 else if x==[42] || (x==[47] || x==[37]) then 4
 else 9
def dC(E:Nat→bR aC)(ts:List aV):Nat→Nat→List aC→bR (List aC)
 |0,_,_=>.error 0
 |g+1,p,acc=>
  match E p with
  |.error l=>.error l
  |.ok (a,q)=>if aT ts q [44] then dC E ts g (q+1) (acc++[a]) else .ok (acc++[a],q)
def gN(E:Nat→bR aC)(ts:List aV)(p:Nat)(shut:List UInt8):bR (List aC):=
 if aT ts p shut then .ok ([],p) else dC E ts (ts.length+1) p []
def aL{α:Type}(ts:List aV)(x:List UInt8):bR α→bR α
 |.error l=>.error l
 |.ok (a,q)=>if aT ts q x then .ok (a,q+1) else bad ts q
def eF(E:Nat→bR aC)(ts:List aV)(p:Nat)(opens shut:List UInt8):bR (List aC):=
 if aT ts p opens then aL ts shut (gN E ts (p+1) shut) else bad ts p
def bT{α β:Type}(f:α→β):bR α→bR β
 |.error l=>.error l
 |.ok (a,q)=>.ok (f a,q)
def bN{α β:Type}(x:bR α)(f:α→Nat→bR β):bR β:=
 match x with
 |.error l=>.error l
 |.ok (a,q)=>f a q
def aP(op:List UInt8)(line:Nat)(text:List UInt8)(kids:List aC):aC:={ op:=op,line:=line,text:=text,kids:=kids }
def dP(E:Nat→bR aC)(ts:List aV)(p:Nat):bR aC:=
 if (aO ts p).sort==48 || (aO ts p).sort==115 then .ok (aP [UInt8.ofNat (aO ts p).sort] (aO ts p).line (aO ts p).text [],p+1)
 else if aT ts p [116,114,117,101] || aT ts p [102,97,108,115,101] then .ok (aP [98,111,111,108] (aO ts p).line (aO ts p).text [],p+1)
 else if aT ts p [40] then aL ts [41] (E (p+1))
 else if aT ts p [91] then bT (aP [108,105,115,116] (aO ts p).line (aO ts p).text) (eF E ts p [91] [93])
 else if (aO ts p).sort==110 then
  if aT ts (p+1) [40] then bT (aP [99,97,108,108] (aO ts p).line (aO ts p).text) (eF E ts (p+1) [40] [41])
  else .ok (aP [110,97,109,101] (aO ts p).line (aO ts p).text [],p+1)
 else bad ts p
def cT(E:Nat→bR aC)(ts:List aV):Nat→aC→Nat→bR aC
 |0,_,_=>.error 0
 |g+1,n,p=>
  if aT ts p [91] then
   match aL ts [93] (E (p+1)) with
   |.error l=>.error l
   |.ok (i,q)=>cT E ts g (aP [105,110,100,101,120] (aO ts p).line [] [n,i]) q
  else .ok (n,p)
def eC(E:Nat→bR aC)(ts:List aV):Nat→Nat→bR aC
 |0,_=>.error 0
 |g+1,p=>
  if aT ts p [45] then bT (fun x=>aP [45,120] (aO ts p).line [] [x]) (eC E ts g (p+1))
  else if aT ts p [33] then bT (fun x=>aP [33,120] (aO ts p).line [] [x]) (eC E ts g (p+1))
  else bN (dP E ts p) (cT E ts (ts.length+1))
def bC(L:Nat→bR aC)(ts:List aV)(k:Nat):Nat→aC→Nat→bR aC
 |0,_,_=>.error 0
 |g+1,n,q=>
  if (aO ts q).sort==112 && bV (aO ts q).text==k then
   match L (q+1) with
   |.error l=>.error l
   |.ok (r,q2)=>if k=2 then .ok (aP (aO ts q).text (aO ts q).line [] [n,r],q2) else bC L ts k g (aP (aO ts q).text (aO ts q).line [] [n,r]) q2
  else .ok (n,q)
def fJ(E:Nat→bR aC)(ts:List aV):Nat→Nat→bR aC
 |0,p=>eC E ts (ts.length+1) p
 |j+1,p=>bN (fJ E ts j p) (bC (fJ E ts j) ts (4-j) (ts.length+1))
def eX(ts:List aV):Nat→Nat→bR aC
 |0,_=>.error 0
 |f+1,p=>fJ (eX ts f) ts 5 p
def eL(E:Nat→bR aC)(ts:List aV):Nat→Nat→List aC→bR (List aC)
 |0,_,_=>.error 0
 |g+1,p,acc=>
  if aT ts p [91] then
   match aL ts [93] (E (p+1)) with
   |.error l=>.error l
   |.ok (i,q)=>eL E ts g q (acc++[i])
  else .ok (acc,p)
def eK(E:Nat→bR aC)(ts:List aV)(p:Nat):bR aC:=
 if (aO ts p).sort==110 then
  if aT ts (p+1) [40] then
   aL ts [59] (bT (fun l=>aP [100,111] (aO ts p).line (aO ts p).text [aP [99,97,108,108] (aO ts p).line (aO ts p).text l]) (eF E ts (p+1) [40] [41]))
  else
   bN (aL ts [61] (eL E ts (ts.length+1) (p+1) [])) fun idx q=>
    aL ts [59] (bT (fun v=>aP [115,101,116] (aO ts p).line (aO ts p).text (idx++[v])) (E q))
 else bad ts p
def nN(E:Nat→bR aC)(ts:List aV)(p:Nat):bR aC:=
 if (aO ts (p+1)).sort==110 then
  if aT ts (p+2) [61] then
   aL ts [59] (bT (fun v=>aP [118,97,114] (aO ts p).line [] [aP [116,97,114,103,101,116] (aO ts (p+1)).line (aO ts (p+1)).text [],v]) (E (p+3)))
  else bad ts (p+2)
 else bad ts (p+1)
def pR(E B:Nat→bR aC)(ts:List aV)(p:Nat):bR aC:=
 bN (E (p+1)) fun c q=>bN (B q) fun b q2=>
  if aT ts q2 [101,108,115,101] then bT (fun d=>aP [105,102] (aO ts p).line [] [c,b,d]) (B (q2+1))
  else .ok (aP [105,102] (aO ts p).line [] [c,b],q2)
def jM(E B:Nat→bR aC)(ts:List aV)(p:Nat):bR aC:=
 bN (E (p+1)) fun c q=>bT (fun b=>aP [119,104,105,108,101] (aO ts p).line [] [c,b]) (B q)
def gI(E:Nat→bR aC)(ts:List aV)(p:Nat):bR aC:=
 if aT ts (p+1) [59] then .ok (aP [114,101,116,117,114,110] (aO ts p).line [] [],p+2)
 else aL ts [59] (bT (fun v=>aP [114,101,116,117,114,110] (aO ts p).line [] [v]) (E (p+1)))
def hP(E:Nat→bR aC)(ts:List aV)(p:Nat):bR aC:=
 aL ts [59] (bT (fun v=>aP [112,114,105,110,116] (aO ts p).line [] [v]) (E (p+1)))
def iH(E B:Nat→bR aC)(ts:List aV)(p:Nat):bR aC:=
 if aT ts p [118,97,114] then nN E ts p
 else if aT ts p [105,102] then pR E B ts p
 else if aT ts p [119,104,105,108,101] then jM E B ts p
 else if aT ts p [114,101,116,117,114,110] then gI E ts p
 else if aT ts p [112,114,105,110,116] then hP E ts p
 else eK E ts p
def dD(S:Nat→bR aC)(ts:List aV):Nat→Nat→List aC→bR (List aC)
 |0,_,_=>.error 0
 |g+1,p,acc=>
  if aT ts p [125] then .ok (acc,p)
  else
   match S p with
   |.error l=>.error l
   |.ok (s,q)=>dD S ts g q (acc++[s])
def iD(E:Nat→bR aC)(ts:List aV):Nat→Nat→bR aC
 |0,_=>.error 0
 |f+1,p=>
  if aT ts p [123] then
   bT (aP [98,108,111,99,107] (aO ts p).line []) (aL ts [125] (dD (iH E (iD E ts f) ts) ts (ts.length+1) (p+1) []))
  else bad ts p
def cN(ts:List aV):Nat→Nat→List aC→bR (List aC)
 |0,_,_=>.error 0
 |g+1,p,acc=>
  if (aO ts p).sort==110 then
   if aT ts (p+1) [44] then cN ts g (p+2) (acc++[aP [112,97,114,97,109] (aO ts p).line (aO ts p).text []])
   else .ok (acc++[aP [112,97,114,97,109] (aO ts p).line (aO ts p).text []],p+1)
  else bad ts p
def gK(ts:List aV)(p:Nat):bR (List aC):=
 aL ts [41] (if aT ts p [41] then .ok ([],p) else cN ts (ts.length+1) p [])
def jD(B:Nat→bR aC)(ts:List aV)(p:Nat):bR aC:=
 if aT ts p [102,117,110,99] then
  if (aO ts (p+1)).sort==110 then
   if aT ts (p+2) [40] then
    bN (gK ts (p+3)) fun l q=>bT (fun b=>aP [102,117,110,99] (aO ts (p+1)).line (aO ts (p+1)).text (l++[b])) (B q)
   else bad ts (p+2)
  else bad ts (p+1)
 else bad ts p
def eM(F:Nat→bR aC)(ts:List aV):Nat→Nat→List aC→bR (List aC)
 |0,_,_=>.error 0
 |g+1,p,acc=>
  if (aO ts p).sort==101 then .ok (acc,p)
  else
   match F p with
   |.error l=>.error l
   |.ok (s,q)=>eM F ts g q (acc++[s])
def lB(ts:List aV):bR (List aC):=
 eM (jD (iD (eX ts (ts.length+1)) ts (ts.length+1)) ts) ts (ts.length+1) 0 []
structure bP(ts:List aV):Prop where
 next:∀p,p<ts.length→(aO ts p).sort≠101→p+1<ts.length
 line:∀p,p<ts.length→(aO ts p).line≠0
structure cH{α:Type}(N p:Nat)(r:bR α):Prop where
 er:∀l,r=.error l→l≠0
 ok:∀a q,r=.ok (a,q)→p<q∧q<N
structure eR{α:Type}(N p:Nat)(r:bR α):Prop where
 er:∀l,r=.error l→l≠0
 ok:∀a q,r=.ok (a,q)→p≤q∧q<N
theorem cH.weak{α:Type}{N p:Nat}{r:bR α}(h:cH N p r):eR N p r:=⟨h.er,fun a q e=>by have:=h.ok a q e;omega⟩
theorem eR.ne{α:Type}{N p:Nat}{r:bR α}(h:eR N p r):r≠.error 0:=fun e=>h.er 0 e rfl
theorem cH.low{α:Type}{N p p':Nat}{r:bR α}(h:cH N p r)(hp:p'≤p):cH N p' r:=⟨h.er,fun a q e=>by have:=h.ok a q e;omega⟩
theorem eR.low{α:Type}{N p p':Nat}{r:bR α}(h:eR N p r)(hp:p'<p):cH N p' r:=⟨h.er,fun a q e=>by have:=h.ok a q e;omega⟩
theorem cH.of_ok{α:Type}{N p q:Nat}(a:α)(h:p<q)(h2:q<N):cH N p (.ok (a,q):bR α):=⟨(fun l e=>by cases e),fun a' q' e=>by cases e;exact⟨h,h2⟩⟩
theorem eR.of_ok{α:Type}{N p q:Nat}(a:α)(h:p≤q)(h2:q<N):eR N p (.ok (a,q):bR α):=⟨(fun l e=>by cases e),fun a' q' e=>by cases e;exact⟨h,h2⟩⟩
theorem cH.map{α β:Type}{N p:Nat}{r:bR α}(f:α→β)(h:cH N p r):cH N p (bT f r):=by
 cases r with
 |error l=>exact⟨fun l' e=>by cases e;exact h.er _ rfl,fun a q e=>by cases e⟩
 |ok aq=>obtain⟨a,q⟩:=aq;exact⟨(fun l e=>by cases e),fun a' q' e=>by cases e;exact h.ok _ _ rfl⟩
theorem bP.isT{ts:List aV}(T:bP ts){p:Nat}{x:List UInt8}(hp:p<ts.length)(h:aT ts p x=true):p+1<ts.length:=by
 refine T.next p hp fun e=>?_
 unfold aT at h;rw[e] at h;simp at h
theorem bP.bad{ts:List aV}(T:bP ts){α:Type}{p p':Nat}(hp:p<ts.length):cH ts.length p' (bad ts p:bR α):=⟨fun l e=>by cases e;exact T.line p hp,fun a q e=>by cases e⟩
theorem bP.take{ts:List aV}(T:bP ts){α:Type}{p:Nat}{x:List UInt8}{r:bR α}(h:cH ts.length p r):cH ts.length p (aL ts x r):=by
 cases r with
 |error l=>exact⟨fun l' e=>by cases e;exact h.er _ rfl,fun a q e=>by cases e⟩
 |ok aq=>
  obtain⟨a,q⟩:=aq;have hq:=h.ok a q rfl;unfold aL;simp only;split
  ·rename_i hi;exact cH.of_ok a (by omega) (T.isT hq.2 hi)
  ·exact T.bad hq.2
theorem bP.takeW{ts:List aV}(T:bP ts){α:Type}{p:Nat}{x:List UInt8}{r:bR α}(h:eR ts.length p r):cH ts.length p (aL ts x r):=by
 cases r with
 |error l=>exact⟨fun l' e=>by cases e;exact h.er _ rfl,fun a q e=>by cases e⟩
 |ok aq=>
  obtain⟨a,q⟩:=aq;have hq:=h.ok a q rfl;unfold aL;simp only;split
  ·rename_i hi;exact cH.of_ok a (by omega) (T.isT hq.2 hi)
  ·exact T.bad hq.2
theorem bP.listLoop{ts:List aV}(T:bP ts){E:Nat→bR aC}{p0:Nat}(HE:∀q,p0<q→q<ts.length→cH ts.length q (E q)):∀(g p:Nat) (acc:List aC),p0<p→p<ts.length→ts.length≤p+g→cH ts.length p (dC E ts g p acc)
 |0,p,acc,_,h1,h2=>by omega
 |g+1,p,acc,h0,h1,h2=>by
  have hE:=HE p h0 h1;rw[dC];cases hx:E p with
  |error l=>exact⟨fun l' e=>by cases e;exact hE.er _ hx,fun a q e=>by cases e⟩
  |ok aq=>
   obtain⟨a,q⟩:=aq;have hq:=hE.ok a q hx;simp only;split
   ·rename_i hi;have:=T.isT hq.2 hi;exact(bP.listLoop T HE g (q+1) (acc++[a]) (by omega) this (by omega)).low (by omega)
   ·exact cH.of_ok _ hq.1 hq.2
theorem bP.listIn{ts:List aV}(T:bP ts){E:Nat→bR aC}{p0:Nat}(HE:∀q,p0<q→q<ts.length→cH ts.length q (E q)){p:Nat}(h0:p0<p)(h1:p<ts.length)(y:List UInt8):eR ts.length p (gN E ts p y):=by
 unfold gN;split
 ·exact eR.of_ok _ (Nat.le_refl _) h1
 ·exact(T.listLoop HE (ts.length+1) p [] h0 h1 (by omega)).weak
theorem bP.listP{ts:List aV}(T:bP ts){E:Nat→bR aC}{p0:Nat}(HE:∀q,p0<q→q<ts.length→cH ts.length q (E q)){p:Nat}(h0:p0≤p)(h1:p<ts.length)(x y:List UInt8):cH ts.length p (eF E ts p x y):=by
 unfold eF;split
 ·rename_i hi;have:=T.isT h1 hi;exact(T.takeW (T.listIn HE (p:=p+1) (by omega) this y)).low (by omega)
 ·exact T.bad h1
theorem bP.primary{ts:List aV}(T:bP ts){E:Nat→bR aC}{p0:Nat}(HE:∀q,p0<q→q<ts.length→cH ts.length q (E q)){p:Nat}(h0:p0≤p)(h1:p<ts.length):cH ts.length p (dP E ts p):=by
 unfold dP;split
 ·rename_i hi;refine cH.of_ok _ (by omega) (T.next p h1 fun e=>?_)
  rw[e] at hi;simp at hi
 split
 ·rename_i hi;refine cH.of_ok _ (by omega) ?_
  rcases Bool.or_eq_true_iff.1 hi with hi|hi
  ·exact T.isT h1 hi
  ·exact T.isT h1 hi
 split
 ·rename_i hi;have:=T.isT h1 hi;exact T.take ((HE (p+1) (by omega) this).low (by omega))
 split
 ·exact(T.listP HE h0 h1 _ _).map _
 split
 ·rename_i hi;have hp:p+1<ts.length:=T.next p h1 fun e=>by rw[e] at hi;simp at hi
  split
  ·exact((T.listP HE (p:=p+1) (by omega) hp _ _).low (by omega)).map _
  ·exact cH.of_ok _ (by omega) hp
 ·exact T.bad h1
theorem bP.index{ts:List aV}(T:bP ts){E:Nat→bR aC}{p0:Nat}(HE:∀q,p0<q→q<ts.length→cH ts.length q (E q)):∀(g:Nat) (n:aC) (p:Nat),p0≤p→p<ts.length→ts.length≤p+g→eR ts.length p (cT E ts g n p)
 |0,n,p,_,h1,h2=>by omega
 |g+1,n,p,h0,h1,h2=>by
  rw[cT];split
  ·rename_i hi;have hp:=T.isT h1 hi;have hE:=T.take (x:=[93]) (HE (p+1) (by omega) hp)
   cases hx:aL ts [93] (E (p+1)) with
   |error l=>exact⟨fun l' e=>by cases e;exact hE.er _ hx,fun a q e=>by cases e⟩
   |ok iq=>
    obtain⟨i,q⟩:=iq;have hq:=hE.ok i q hx;exact((bP.index T HE g _ q (by omega) hq.2 (by omega)).low (by omega:p<q)).weak
  ·exact eR.of_ok _ (Nat.le_refl _) h1
theorem bP.bind{ts:List aV}(_T:bP ts){α β:Type}{p:Nat}{r:bR α}{f:α→Nat→bR β}(h:cH ts.length p r)(hf:∀a q,p<q→q<ts.length→eR ts.length q (f a q)):cH ts.length p (bN r f):=by
 cases r with
 |error l=>exact⟨fun l' e=>by cases e;exact h.er _ rfl,fun a q e=>by cases e⟩
 |ok aq=>
  obtain⟨a,q⟩:=aq;have hq:=h.ok a q rfl;exact(hf a q hq.1 hq.2).low hq.1
theorem bP.unary{ts:List aV}(T:bP ts){E:Nat→bR aC}{p0:Nat}(HE:∀q,p0<q→q<ts.length→cH ts.length q (E q)):∀(g p:Nat),p0≤p→p<ts.length→ts.length≤p+g→cH ts.length p (eC E ts g p)
 |0,p,_,h1,h2=>by omega
 |g+1,p,h0,h1,h2=>by
  rw[eC];split
  ·rename_i hi;have hp:=T.isT h1 hi;exact((bP.unary T HE g (p+1) (by omega) hp (by omega)).low (by omega)).map _
  split
  ·rename_i hi;have hp:=T.isT h1 hi;exact((bP.unary T HE g (p+1) (by omega) hp (by omega)).low (by omega)).map _
  ·exact T.bind (T.primary HE h0 h1) fun a q hq1 hq2=>T.index HE _ a q (by omega) hq2 (by omega)
theorem bP.levelLoop{ts:List aV}(T:bP ts){L:Nat→bR aC}{p0 k:Nat}(HL:∀q,p0≤q→q<ts.length→cH ts.length q (L q)):∀(g:Nat) (n:aC) (q:Nat),p0≤q→q<ts.length→ts.length≤q+g→eR ts.length q (bC L ts k g n q)
 |0,n,q,_,h1,h2=>by omega
 |g+1,n,q,h0,h1,h2=>by
  rw[bC];split
  ·rename_i hi;have hp:q+1<ts.length:=T.next q h1 fun e=>by rw[e] at hi;simp at hi
   have hE:=HL (q+1) (by omega) hp
   cases hx:L (q+1) with
   |error l=>exact⟨fun l' e=>by cases e;exact hE.er _ hx,fun a q e=>by cases e⟩
   |ok rq=>
    obtain⟨r,q2⟩:=rq;have hq:=hE.ok r q2 hx;simp only;split
    ·exact eR.of_ok _ (by omega) hq.2
    ·exact((bP.levelLoop T HL g _ q2 (by omega) hq.2 (by omega)).low (by omega:q<q2)).weak
  ·exact eR.of_ok _ (Nat.le_refl _) h1
theorem bP.level{ts:List aV}(T:bP ts){E:Nat→bR aC}{p0:Nat}(HE:∀q,p0<q→q<ts.length→cH ts.length q (E q)):∀(j p:Nat),p0≤p→p<ts.length→cH ts.length p (fJ E ts j p)
 |0,p,h0,h1=>T.unary HE _ p h0 h1 (by omega)
 |j+1,p,h0,h1=>by
  rw[fJ];exact T.bind (bP.level T HE j p h0 h1) fun a q hq1 hq2=>T.levelLoop (p0:=p0) (fun q h0 h1=>bP.level T HE j q h0 h1) _ a q (by omega) hq2 (by omega)
theorem bP.expr{ts:List aV}(T:bP ts):∀(f p:Nat),p<ts.length→ts.length≤p+f→cH ts.length p (eX ts f p)
 |0,p,h1,h2=>by omega
 |f+1,p,h1,h2=>by
  rw[eX];exact T.level (p0:=p) (fun q hq1 hq2=>bP.expr T f q hq2 (by omega)) 5 p (Nat.le_refl _) h1
theorem bP.exprs{ts:List aV}(T:bP ts):∀q,q<ts.length→cH ts.length q (eX ts (ts.length+1) q):=fun q hq=>T.expr _ q hq (by omega)
theorem bP.setLoop{ts:List aV}(T:bP ts){E:Nat→bR aC}(HE:∀q,q<ts.length→cH ts.length q (E q)):∀(g p:Nat) (acc:List aC),p<ts.length→ts.length≤p+g→eR ts.length p (eL E ts g p acc)
 |0,p,acc,h1,h2=>by omega
 |g+1,p,acc,h1,h2=>by
  rw[eL];split
  ·rename_i hi;have hp:=T.isT h1 hi;have hE:=T.take (x:=[93]) (HE (p+1) hp);cases hx:aL ts [93] (E (p+1)) with
   |error l=>exact⟨fun l' e=>by cases e;exact hE.er _ hx,fun a q e=>by cases e⟩
   |ok iq=>
    obtain⟨i,q⟩:=iq;have hq:=hE.ok i q hx;exact((bP.setLoop T HE g q _ hq.2 (by omega)).low (by omega:p<q)).weak
  ·exact eR.of_ok _ (Nat.le_refl _) h1
theorem bP.simple{ts:List aV}(T:bP ts){E:Nat→bR aC}(HE:∀q,q<ts.length→cH ts.length q (E q)){p:Nat}(h1:p<ts.length):cH ts.length p (eK E ts p):=by
 unfold eK;split
 ·rename_i hi;have hp:p+1<ts.length:=T.next p h1 fun e=>by rw[e] at hi;simp at hi
  split
  ·exact T.take (((T.listP (p0:=p) (fun q _ hq=>HE q hq) (p:=p+1) (by omega) hp _ _).low (by omega)).map _)
  ·exact T.bind ((T.takeW (T.setLoop HE _ (p+1) [] hp (by omega))).low (by omega)) fun idx q _ hq=>(T.take ((HE q hq).map _)).weak
 ·exact T.bad h1
theorem bP.stmt{ts:List aV}(T:bP ts){E B:Nat→bR aC}{p:Nat}(HE:∀q,q<ts.length→cH ts.length q (E q))(HB:∀q,p<q→q<ts.length→cH ts.length q (B q))(h1:p<ts.length):cH ts.length p (iH E B ts p):=by
 unfold iH;split
 ·rename_i hi;have hp:=T.isT h1 hi;unfold nN;split
  ·rename_i h110;have hp2:p+2<ts.length:=T.next (p+1) hp fun e=>by rw[e] at h110;simp at h110
   split
   ·rename_i h61;have hp3:p+3<ts.length:=T.isT hp2 h61;exact T.take (((HE (p+3) hp3).low (by omega)).map _)
   ·exact T.bad hp2
  ·exact T.bad hp
 split
 ·rename_i hi;have hp:=T.isT h1 hi;unfold pR;refine T.bind ((HE (p+1) hp).low (by omega)) fun c q hq1 hq2=>(T.bind (HB q hq1 hq2) fun b q2 hq3 hq4=>?_).weak
  split
  ·rename_i hel;have:=T.isT hq4 hel;exact(((HB (q2+1) (by omega) this).low (by omega)).map _).weak
  ·exact eR.of_ok _ (Nat.le_refl _) hq4
 split
 ·rename_i hi;have hp:=T.isT h1 hi;unfold jM;exact T.bind ((HE (p+1) hp).low (by omega)) fun c q hq1 hq2=>((HB q hq1 hq2).map _).weak
 split
 ·rename_i hi;have hp:=T.isT h1 hi;unfold gI;split
  ·rename_i h59;exact cH.of_ok _ (by omega) (T.isT hp h59)
  ·exact T.take (((HE (p+1) hp).low (by omega)).map _)
 split
 ·rename_i hi;have hp:=T.isT h1 hi;unfold hP;exact T.take (((HE (p+1) hp).low (by omega)).map _)
 ·exact T.simple HE h1
theorem bP.blockLoop{ts:List aV}(_T:bP ts){S:Nat→bR aC}{p0:Nat}(HS:∀q,p0<q→q<ts.length→cH ts.length q (S q)):∀(g p:Nat) (acc:List aC),p0<p→p<ts.length→ts.length≤p+g→eR ts.length p (dD S ts g p acc)
 |0,p,acc,_,h1,h2=>by omega
 |g+1,p,acc,h0,h1,h2=>by
  rw[dD];split
  ·exact eR.of_ok _ (Nat.le_refl _) h1
  ·have hE:=HS p h0 h1;cases hx:S p with
   |error l=>exact⟨fun l' e=>by cases e;exact hE.er _ hx,fun a q e=>by cases e⟩
   |ok sq=>
    obtain⟨s,q⟩:=sq;have hq:=hE.ok s q hx;exact((bP.blockLoop _T HS g q _ (by omega) hq.2 (by omega)).low (by omega:p<q)).weak
theorem bP.block{ts:List aV}(T:bP ts){E:Nat→bR aC}(HE:∀q,q<ts.length→cH ts.length q (E q)):∀(f p:Nat),p<ts.length→ts.length≤p+f→cH ts.length p (iD E ts f p)
 |0,p,h1,h2=>by omega
 |f+1,p,h1,h2=>by
  rw[iD];split
  ·rename_i hi;have hp:=T.isT h1 hi;refine((T.takeW (T.blockLoop (p0:=p) (fun q hq1 hq2=>T.stmt HE (fun q' h' h''=>bP.block T HE f q' h'' (by omega)) hq2) _ (p+1) [] (by omega) hp (by omega))).low (by omega)).map _
  ·exact T.bad h1
theorem bP.paramLoop{ts:List aV}(T:bP ts):∀(g p:Nat) (acc:List aC),p<ts.length→ts.length≤p+g→cH ts.length p (cN ts g p acc)
 |0,p,acc,h1,h2=>by omega
 |g+1,p,acc,h1,h2=>by
  rw[cN];split
  ·rename_i hi;have hp:p+1<ts.length:=T.next p h1 fun e=>by rw[e] at hi;simp at hi
   split
   ·rename_i h44;have hp2:p+2<ts.length:=T.isT hp h44;exact(bP.paramLoop T g (p+2) _ hp2 (by omega)).low (by omega)
   ·exact cH.of_ok _ (by omega) hp
  ·exact T.bad h1
theorem bP.func{ts:List aV}(T:bP ts){B:Nat→bR aC}(HB:∀q,q<ts.length→cH ts.length q (B q)){p:Nat}(h1:p<ts.length):cH ts.length p (jD B ts p):=by
 unfold jD;split
 ·rename_i hi;have hp:=T.isT h1 hi;split
  ·rename_i h110;have hp2:p+2<ts.length:=T.next (p+1) hp fun e=>by rw[e] at h110;simp at h110
   split
   ·rename_i h40;have hp3:p+3<ts.length:=T.isT hp2 h40
    have hpar:cH ts.length (p+3) (gK ts (p+3)):=by
     unfold gK;refine T.takeW ?_;split
     ·exact eR.of_ok _ (Nat.le_refl _) hp3
     ·exact(T.paramLoop _ (p+3) [] hp3 (by omega)).weak
    exact T.bind (hpar.low (by omega)) fun l q _ hq=>((HB q hq).map _).weak
   ·exact T.bad hp2
  ·exact T.bad hp
 ·exact T.bad h1
theorem bP.progLoop{ts:List aV}(_T:bP ts){F:Nat→bR aC}(HF:∀q,q<ts.length→cH ts.length q (F q)):∀(g p:Nat) (acc:List aC),p<ts.length→ts.length≤p+g→eR ts.length p (eM F ts g p acc)
 |0,p,acc,h1,h2=>by omega
 |g+1,p,acc,h1,h2=>by
  rw[eM];split
  ·exact eR.of_ok _ (Nat.le_refl _) h1
  ·have hE:=HF p h1;cases hx:F p with
   |error l=>exact⟨fun l' e=>by cases e;exact hE.er _ hx,fun a q e=>by cases e⟩
   |ok sq=>
    obtain⟨s,q⟩:=sq;have hq:=hE.ok s q hx;exact((bP.progLoop _T HF g q _ hq.2 (by omega)).low (by omega:p<q)).weak
theorem bP.prog{ts:List aV}(T:bP ts)(h:0<ts.length):lB ts≠.error 0:=
 (T.progLoop (fun q hq=>T.func (fun q' hq'=>T.block (fun q hq=>T.exprs q hq) _ q' hq' (by omega)) hq) _ 0 [] h (by omega)).ne
structure pZ(ts:List aV):Prop where
 some_:0<ts.length
 last:(aO ts (ts.length-1)).sort=101
 line:∀p,p<ts.length→(aO ts p).line≠0
theorem oF(t:aV)(ts:List aV)(p:Nat):aO (t::ts) (p+1)=aO ts p:=by simp[aO]
theorem GG(f:Nat):∀(pre l:List UInt8) (ts:List aV),eD f pre l=.ok ts→pZ ts∧ts.length≤f:=by
 induction f with
 |zero=>intro pre l ts h;cases h
 |succ f ih=>
  intro pre l ts h;by_cases hl:l.length=0
  ·rw[lG _ _ _ hl] at h;cases h;refine⟨⟨by simp,rfl,fun p hp=>?_⟩,by simp⟩
   obtain rfl:p=0:=by simp at hp;omega
   show aZ pre≠0
   unfold aZ;omega
  ·cases hk:(bU l).ok
   ·rw[lH _ _ _ hl hk] at h;cases h
   ·rw[kV _ _ _ hl hk _ rfl] at h;cases hx:eD f (pre++l.take ((bU l).size+blankL l.length (l.drop (bU l).size))) (l.drop ((bU l).size+blankL l.length (l.drop (bU l).size))) with
    |error n=>rw[hx] at h;cases h
    |ok us=>
     rw[hx] at h;cases h;obtain⟨h1,h2⟩:=ih _ _ us hx;refine⟨⟨by simp,?_,fun p hp=>?_⟩,by simp;omega⟩
     ·have:=h1.some_;show (aO (_::us) ((_::us).length-1)).sort=101
      rw[List.length_cons,show us.length+1-1=(us.length-1)+1 by omega,oF]
      exact h1.last
     ·cases p with
      |zero=>show aZ pre≠0;unfold aZ;omega
      |succ p=>
       show (aO (_::us) (p+1)).line≠0
       rw[oF];exact h1.line p (by simpa using hp)
theorem pZ.ok{ts:List aV}(h:pZ ts):bP ts:=
 ⟨fun p hp hs=>by
   by_cases e:p=ts.length-1
   ·subst e;exact absurd h.last hs
   ·omega,h.line⟩
theorem qV{l:List UInt8}{ts:List aV}(h:fY l=.ok ts):pZ ts∧ts.length≤l.length+1:=GG _ _ _ _ h
def cR(l:List UInt8):Except (Nat × Nat) (List aC):=
 if 2000<l.length then .error (1,0)
 else match dJ l.length l 0 with
  |some k=>.error (2,aZ (l.take k))
  |none=>
   match fY l with
   |.error n=>.error (3,n)
   |.ok ts=>
    match lB ts with
    |.error n=>.error (4,n)
    |.ok (ks,_)=>.ok ks
structure aX where
 seen:List (List UInt8)
 kind:Nat
 line:Nat
def aX.found(s:aX)(line kind:Nat):aX:=if s.kind=0 then { s with kind:=kind,line:=line } else s
def fK(x:List UInt8):Bool:=x==[108,101,110] || x==[114,101,97,100]
def declaresL(s:aX)(n:aC):aX:=if fK n.text || s.seen.contains n.text then s.found n.line 6 else s
def dG(fs:List aC)(name:List UInt8):Option aC:=fs.find? fun f=>f.text==name
def kX(fs:List aC)(alone:Bool)(name:List UInt8):Int:=
 if name==[108,101,110] then 1
 else if name==[114,101,97,100] && !alone then 0
 else match dG fs name with
  |some f=>(f.kids.length:Int)-1
  |none=> -1
def dX(fs:List aC)(alone:Bool)(s:aX)(n:aC):aX:=
 if kX fs alone n.text<0 then s.found n.line 6
 else if kX fs alone n.text≠(n.kids.length:Int) then s.found n.line 7
 else s
def bY(fs:List aC)(alone:Bool)(s:aX)(n:aC):aX:=
 if n.op==[115,101,116] || n.op==[110,97,109,101] then (if s.seen.contains n.text then s else s.found n.line 6)
 else if n.op==[99,97,108,108] then dX fs alone s n
 else s
def aM(fs:List aC)(alone:Bool):Nat→aC→aX→aX
 |0,_,s=>s
 |d+1,n,s=>
  if n.op==[118,97,114] then
   match n.kids with
   |t::v::_=>let s1:=aM fs alone d v (declaresL s t);{ s1 with seen:=s1.seen++[t.text] }
   |_=>s
  else
   let s1:=n.kids.foldl (fun s k=>aM fs alone d k s) (bY fs alone s n)
   if n.op==[98,108,111,99,107] then { s1 with seen:=s1.seen.take s.seen.length } else s1
def bS:Nat→aC→Nat
 |0,_=>0
 |d+1,n=>1+(n.kids.map (bS d)).sum
def YR:Nat→aC→Prop
 |0,_=>True
 |d+1,n=>(n.op=[118,97,114]→2≤n.kids.length)∧∀k∈n.kids,YR d k
def FineA(m:Nat)(a:aC):Prop:=∀d,bS d a≤m∧YR d a
def FineL(m:Nat)(l:List aC):Prop:=∀d,(l.map (bS d)).sum≤m∧∀k∈l,YR d k
theorem FineA.le{m n:Nat}{a:aC}(h:FineA m a)(hn:m≤n):FineA n a:=fun d=>⟨Nat.le_trans (h d).1 hn,(h d).2⟩
theorem FineL.le{m n:Nat}{a:List aC}(h:FineL m a)(hn:m≤n):FineL n a:=fun d=>⟨Nat.le_trans (h d).1 hn,(h d).2⟩
theorem FineL.nil:FineL 0 []:=fun _=>⟨Nat.le_refl _,fun _ h=>by cases h⟩
theorem FineL.snoc{m n:Nat}{l:List aC}{a:aC}(h:FineL m l)(ha:FineA n a):FineL (m+n) (l++[a]):=fun d=>by
 refine⟨?_,fun k hk=>?_⟩
 ·rw[List.map_append,List.sum_append];have h1:=(h d).1;have h2:=(ha d).1;simp;omega
 ·rcases List.mem_append.1 hk with hk|hk
  ·exact(h d).2 k hk
  ·rw[List.mem_singleton.1 hk];exact(ha d).2
theorem FineL.one{n:Nat}{a:aC}(ha:FineA n a):FineL n [a]:=fun d=>by
 refine⟨?_,fun k hk=>?_⟩
 ·have h2:=(ha d).1;simp;omega
 ·rw[List.mem_singleton.1 hk];exact(ha d).2
theorem FineL.two{m n:Nat}{a b:aC}(ha:FineA m a)(hb:FineA n b):FineL (m+n) [a,b]:=(FineL.one ha).snoc hb
theorem FineL.three{m n k:Nat}{a b c:aC}(ha:FineA m a)(hb:FineA n b)(hc:FineA k c):FineL (m+n+k) [a,b,c]:=(FineL.two ha hb).snoc hc
theorem FineA.node{m:Nat}{l:List aC}{op text:List UInt8}{line:Nat}(h:FineL m l)(ho:op=[118,97,114]→2≤l.length):FineA (m+1) (aP op line text l):=fun d=>by
 cases d with
 |zero=>exact⟨Nat.zero_le _,trivial⟩
 |succ d=>
  refine⟨?_,ho,(h d).2⟩;have:=(h d).1;show 1+(l.map (bS d)).sum≤m+1
  omega
def bG{α:Type}(P:Nat→α→Prop)(p:Nat)(r:bR α):Prop:=∀a q,r=.ok (a,q)→∃m,p+m≤q∧P m a
theorem bG.bad{α:Type}{P:Nat→α→Prop}{p p':Nat}{ts:List aV}:bG P p (bad ts p'):=fun a q h=>by cases h
theorem bG.err{α:Type}{P:Nat→α→Prop}{p n:Nat}:bG P p (.error n):=fun a q h=>by cases h
theorem bG.of_ok{α:Type}{P:Nat→α→Prop}{p m q:Nat}{a:α}(hm:p+m≤q)(h:P m a):bG P p (.ok (a,q)):=fun a' q' e=>by cases e;exact⟨m,hm,h⟩
theorem bG.take{α:Type}{P:Nat→α→Prop}{p:Nat}{ts:List aV}{x:List UInt8}{r:bR α}(h:bG P p r):bG P p (aL ts x r):=by
 cases r with
 |error l=>exact bG.err
 |ok aq=>
  obtain⟨a,q⟩:=aq;obtain⟨m,h1,h2⟩:=h a q rfl;unfold aL;simp only;split
  ·exact bG.of_ok (by omega) h2
  ·exact bG.bad
theorem bG.map{α β:Type}{P:Nat→α→Prop}{Q:Nat→β→Prop}{p p' k:Nat}{r:bR α}{f:α→β}(h:bG P p r)(hp:p'+k≤p)(hf:∀m a,P m a→Q (m+k) (f a)):bG Q p' (bT f r):=by
 cases r with
 |error l=>exact bG.err
 |ok aq=>
  obtain⟨a,q⟩:=aq;obtain⟨m,h1,h2⟩:=h a q rfl;exact bG.of_ok (m:=m+k) (by omega) (hf m a h2)
theorem bG.bind{α β:Type}{P:Nat→α→Prop}{Q:Nat→β→Prop}{p p':Nat}{r:bR α}{f:α→Nat→bR β}(h:bG P p r)(hf:∀m a q,P m a→p+m≤q→bG Q p' (f a q)):bG Q p' (bN r f):=by
 cases r with
 |error l=>exact bG.err
 |ok aq=>
  obtain⟨a,q⟩:=aq;obtain⟨m,h1,h2⟩:=h a q rfl;exact hf m a q h2 h1
theorem bG.low{α:Type}{P:Nat→α→Prop}{p p':Nat}{r:bR α}(h:bG P p r)(hp:p'≤p):bG P p' r:=fun a q e=>by
 obtain⟨m,h1,h2⟩:=h a q e;exact⟨m,by omega,h2⟩
section
variable {ts:List aV} {E:Nat→bR aC}
theorem oX(HE:∀q,bG FineA q (E q)):∀(g p:Nat) (acc:List aC) (m0 p0:Nat),FineL m0 acc→p0+m0≤p→bG FineL p0 (dC E ts g p acc)
 |0,p,acc,_,_,_,_=>bG.err
 |g+1,p,acc,m0,p0,h0,hp=>by
  rw[dC];cases hx:E p with
  |error l=>exact bG.err
  |ok aq=>
   obtain⟨a,q⟩:=aq;obtain⟨m,h1,h2⟩:=HE p a q hx;simp only;split
   ·exact oX HE g (q+1) _ (m0+m) p0 (h0.snoc h2) (by omega)
   ·exact bG.of_ok (m:=m0+m) (by omega) (h0.snoc h2)
theorem oW(HE:∀q,bG FineA q (E q))(p:Nat)(x y:List UInt8):bG FineL (p+1) (eF E ts p x y):=by
 unfold eF;split
 ·refine bG.take ?_;unfold gN;split
  ·exact bG.of_ok (m:=0) (by omega) FineL.nil
  ·exact oX HE _ _ _ 0 _ FineL.nil (by omega)
 ·exact bG.bad
theorem kQ{op text:List UInt8}{line:Nat}(ho:op≠[118,97,114]):FineA 1 (aP op line text []):=FineA.node (m:=0) FineL.nil fun h=>absurd h ho
theorem CZ(HE:∀q,bG FineA q (E q))(p:Nat):bG FineA p (dP E ts p):=by
 unfold dP;split
 ·exact bG.of_ok (m:=1) (by omega) (kQ (by simp))
 split
 ·exact bG.of_ok (m:=1) (by omega) (kQ (by simp))
 split
 ·exact((HE (p+1)).take).low (by omega)
 split
 ·exact bG.map (k:=1) (oW HE p _ _) (by omega) fun m a h=>FineA.node h (by simp)
 split
 ·split
  ·exact bG.map (k:=1) (oW HE (p+1) _ _) (by omega) fun m a h=>FineA.node h (by simp)
  ·exact bG.of_ok (m:=1) (by omega) (kQ (by simp))
 ·exact bG.bad
theorem vV(HE:∀q,bG FineA q (E q)):∀(g:Nat) (n:aC) (p m0 p0:Nat),FineA m0 n→p0+m0≤p→bG FineA p0 (cT E ts g n p)
 |0,n,p,_,_,_,_=>bG.err
 |g+1,n,p,m0,p0,h0,hp=>by
  rw[cT];split
  ·have hE:=(HE (p+1)).take (ts:=ts) (x:=[93]);cases hx:aL ts [93] (E (p+1)) with
   |error l=>exact bG.err
   |ok iq=>
    obtain⟨i,q⟩:=iq;obtain⟨m,h1,h2⟩:=hE i q hx;exact vV HE g _ q (m0+m+1) p0 (FineA.node (FineL.two h0 h2) (by simp)) (by omega)
  ·exact bG.of_ok hp h0
theorem oU(HE:∀q,bG FineA q (E q)):∀(g p:Nat),bG FineA p (eC E ts g p)
 |0,p=>bG.err
 |g+1,p=>by
  rw[eC];split
  ·exact bG.map (k:=1) (oU HE g (p+1)) (by omega) fun m a h=>FineA.node (FineL.one h) (by simp)
  split
  ·exact bG.map (k:=1) (oU HE g (p+1)) (by omega) fun m a h=>FineA.node (FineL.one h) (by simp)
  ·exact bG.bind (CZ HE p) fun m a q h1 h2=>vV HE _ a q m p h1 h2
theorem oI{L:Nat→bR aC}{k:Nat}(HL:∀q,bG FineA q (L q)):∀(g:Nat) (n:aC) (q m0 p0:Nat),FineA m0 n→p0+m0≤q→bG FineA p0 (bC L ts k g n q)
 |0,n,q,_,_,_,_=>bG.err
 |g+1,n,q,m0,p0,h0,hp=>by
  rw[bC];split
  ·cases hx:L (q+1) with
   |error l=>exact bG.err
   |ok rq=>
    obtain⟨r,q2⟩:=rq;obtain⟨m,h1,h2⟩:=HL _ r q2 hx;have hn:∀op line,FineA (m0+m+1) (aP op line [] [n,r]):=fun op line=>FineA.node (FineL.two h0 h2) (by simp)
    simp only;split
    ·exact bG.of_ok (m:=m0+m+1) (by omega) (hn _ _)
    ·exact oI HL g _ q2 (m0+m+1) p0 (hn _ _) (by omega)
  ·exact bG.of_ok hp h0
theorem oY(HE:∀q,bG FineA q (E q)):∀(j p:Nat),bG FineA p (fJ E ts j p)
 |0,p=>oU HE _ p
 |j+1,p=>by
  rw[fJ];exact bG.bind (oY HE j p) fun m a q h1 h2=>oI (fun q=>oY HE j q) _ a q m p h1 h2
theorem zT(ts:List aV):∀(f p:Nat),bG FineA p (eX ts f p)
 |0,p=>bG.err
 |f+1,p=>by
  rw[eX];exact oY (fun q=>zT ts f q) 5 p
theorem qX(HE:∀q,bG FineA q (E q)):∀(g p:Nat) (acc:List aC) (m0 p0:Nat),FineL m0 acc→p0+m0≤p→bG FineL p0 (eL E ts g p acc)
 |0,p,acc,_,_,_,_=>bG.err
 |g+1,p,acc,m0,p0,h0,hp=>by
  rw[eL];split
  ·have hE:=(HE (p+1)).take (ts:=ts) (x:=[93]);cases hx:aL ts [93] (E (p+1)) with
   |error l=>exact bG.err
   |ok iq=>
    obtain⟨i,q⟩:=iq;obtain⟨m,h1,h2⟩:=hE i q hx;exact qX HE g q _ (m0+m) p0 (h0.snoc h2) (by omega)
  ·exact bG.of_ok hp h0
theorem GP(HE:∀q,bG FineA q (E q))(p:Nat):bG FineA p (eK E ts p):=by
 unfold eK;split
 ·split
  ·exact bG.take (bG.map (k:=2) (oW HE (p+1) _ _) (by omega) fun m a h=>FineA.node (FineL.one (FineA.node h (by simp))) (by simp))
  ·refine bG.bind ((qX HE _ (p+1) [] 0 (p+1) FineL.nil (by omega)).take) fun m l q h1 h2=>?_
   exact bG.take (bG.map (k:=m+1) (HE q) (by omega) fun m2 v hv=>FineA.le (FineA.node (h1.snoc hv) (by simp)) (by omega))
 ·exact bG.bad
theorem PI{B:Nat→bR aC}(HE:∀q,bG FineA q (E q))(HB:∀q,bG FineA q (B q))(p:Nat):bG FineA p (iH E B ts p):=by
 unfold iH;split
 ·unfold nN;split
  ·split
   ·exact bG.take (bG.map (k:=2) (HE (p+3)) (by omega) fun m v hv=>FineA.le (FineA.node (FineL.two (kQ (by simp)) hv) (by simp)) (by omega))
   ·exact bG.bad
  ·exact bG.bad
 split
 ·unfold pR;refine bG.bind (HE (p+1)) fun m c q h1 h2=>bG.bind (HB q) fun m2 b q2 h3 h4=>?_
  split
  ·exact bG.map (k:=m+m2+1) (HB (q2+1)) (by omega) fun m3 d hd=>FineA.le (FineA.node (FineL.three h1 h3 hd) (by simp)) (by omega)
  ·exact bG.of_ok (m:=m+m2+1) (by omega) (FineA.node (FineL.two h1 h3) (by simp))
 split
 ·unfold jM;exact bG.bind (HE (p+1)) fun m c q h1 h2=>bG.map (k:=m+1) (HB q) (by omega) fun m2 b hb=>FineA.le (FineA.node (FineL.two h1 hb) (by simp)) (by omega)
 split
 ·unfold gI;split
  ·exact bG.of_ok (m:=1) (by omega) (kQ (by simp))
  ·exact bG.take (bG.map (k:=1) (HE (p+1)) (by omega) fun m v hv=>FineA.node (FineL.one hv) (by simp))
 split
 ·unfold hP;exact bG.take (bG.map (k:=1) (HE (p+1)) (by omega) fun m v hv=>FineA.node (FineL.one hv) (by simp))
 ·exact GP HE p
theorem oJ{S:Nat→bR aC}(HS:∀q,bG FineA q (S q)):∀(g p:Nat) (acc:List aC) (m0 p0:Nat),FineL m0 acc→p0+m0≤p→bG FineL p0 (dD S ts g p acc)
 |0,p,acc,_,_,_,_=>bG.err
 |g+1,p,acc,m0,p0,h0,hp=>by
  rw[dD];split
  ·exact bG.of_ok hp h0
  ·cases hx:S p with
   |error l=>exact bG.err
   |ok sq=>
    obtain⟨s,q⟩:=sq;obtain⟨m,h1,h2⟩:=HS p s q hx;exact oJ HS g q _ (m0+m) p0 (h0.snoc h2) (by omega)
theorem vW(HE:∀q,bG FineA q (E q)):∀(f p:Nat),bG FineA p (iD E ts f p)
 |0,p=>bG.err
 |f+1,p=>by
  rw[iD];split
  ·exact bG.map (k:=1) (bG.take (oJ (fun q=>PI HE (fun q=>vW HE f q) q) _ (p+1) [] 0 (p+1) FineL.nil (by omega))) (by omega) fun m l h=>FineA.node h (by simp)
  ·exact bG.bad
theorem oH:∀(g p:Nat) (acc:List aC) (m0 p0:Nat),FineL m0 acc→p0+m0≤p→bG FineL p0 (cN ts g p acc)
 |0,p,acc,_,_,_,_=>bG.err
 |g+1,p,acc,m0,p0,h0,hp=>by
  have hl:FineL (m0+1) (acc++[aP [112,97,114,97,109] (aO ts p).line (aO ts p).text []]):=h0.snoc (kQ (by simp))
  rw[cN];split
  ·split
   ·exact oH g (p+2) _ (m0+1) p0 hl (by omega)
   ·exact bG.of_ok (m:=m0+1) (by omega) hl
  ·exact bG.bad
theorem PK{B:Nat→bR aC}(HB:∀q,bG FineA q (B q))(p:Nat):bG FineA p (jD B ts p):=by
 unfold jD;split
 ·split
  ·split
   ·have hpar:bG FineL (p+3) (gK ts (p+3)):=by
     unfold gK;refine bG.take ?_;split
     ·exact bG.of_ok (m:=0) (by omega) FineL.nil
     ·exact oH _ (p+3) [] 0 (p+3) FineL.nil (by omega)
    exact bG.bind hpar fun m l q h1 h2=>bG.map (k:=m+1) (HB q) (by omega) fun m2 b hb=>FineA.le (FineA.node (h1.snoc hb) (by simp)) (by omega)
   ·exact bG.bad
  ·exact bG.bad
 ·exact bG.bad
theorem oV{F:Nat→bR aC}(HF:∀q,bG FineA q (F q)):∀(g p:Nat) (acc:List aC) (m0 p0:Nat),FineL m0 acc→p0+m0≤p→bG FineL p0 (eM F ts g p acc)
 |0,p,acc,_,_,_,_=>bG.err
 |g+1,p,acc,m0,p0,h0,hp=>by
  rw[eM];split
  ·exact bG.of_ok hp h0
  ·cases hx:F p with
   |error l=>exact bG.err
   |ok sq=>
    obtain⟨s,q⟩:=sq;obtain⟨m,h1,h2⟩:=HF p s q hx;exact oV HF g q _ (m0+m) p0 (h0.snoc h2) (by omega)
end
theorem PJ(ts:List aV)(T:bP ts)(h0:0<ts.length)(ks:List aC)(q:Nat)(h:lB ts=.ok (ks,q)):FineL ts.length ks:=by
 obtain⟨m,h1,h2⟩:=oV (fun q=>PK (fun q'=>vW (fun q=>zT ts _ q) _ q') q) (ts.length+1) 0 [] 0 0 FineL.nil (by omega) ks q h
 have:=(T.progLoop (fun q hq=>T.func (fun q' hq'=>T.block (fun q hq=>T.exprs q hq) _ q' hq' (by omega)) hq) _ 0 [] h0 (by omega)).ok ks q h
 exact h2.le (by omega)
theorem kC{l:List UInt8}{ks:List aC}(h:cR l=.ok ks):FineL 2001 ks:=by
 unfold cR at h;split at h
 ·cases h
 rename_i hl;split at h
 ·cases h
 split at h
 ·cases h
 rename_i ts ht;obtain⟨h1,h2⟩:=qV ht;split at h
 ·cases h
 rename_i q hp;cases h;exact(PJ ts h1.ok h1.some_ _ _ hp).le (by omega)
def eS:Nat→aC→Prop
 |0,_=>False
 |d+1,n=>∀k∈n.kids,eS d k
theorem mW:∀(m:Nat) (a:aC),FineA m a→eS m a
 |0,a,h=>by
  have:=(h 1).1;simp only[bS] at this;omega
 |m+1,a,h=>fun k hk=>mW m k fun d=>by
  have h1:=(h (d+1)).1;have h2:=(h (d+1)).2.2 k hk;refine⟨?_,h2⟩
  have:bS d k≤(a.kids.map (bS d)).sum:=by
   have:∀l:List aC,k∈l→bS d k≤(l.map (bS d)).sum:=by
    intro l;induction l with
    |nil=>intro h;cases h
    |cons x l ih=>
     intro h;simp only[List.map_cons,List.sum_cons];rcases List.mem_cons.1 h with rfl|h
     ·omega
     ·have:=ih h;omega
   exact this _ hk
  simp only[bS] at h1;omega
def eE(fs:List aC)(d:Nat)(s:aX)(k:aC):aX:=
 if k.op==[112,97,114,97,109] then { declaresL s k with seen:=(declaresL s k).seen++[k.text] } else aM fs false d k s
def fP(fs:List aC)(d:Nat)(s:aX)(n:aC)(first:Bool):aX:=
 n.kids.foldl (eE fs d) { (if fK n.text || !first then s.found n.line 6 else s) with seen:=[] }
def eP(fs:List aC)(d:Nat):List aC→List aC→aX→aX
 |_,[],s=>s
 |pre,n::rest,s=>eP fs d (pre++[n]) rest (fP fs d s n (dG pre n.text).isNone)
def jU(d:Nat)(ks:List aC):Nat × Nat:=
 match dG ks [109,97,105,110] with
 |none=>(5,0)
 |some m=>if 1<m.kids.length then (5,0) else ((eP ks d [] ks ⟨[],0,0⟩).kind,(eP ks d [] ks ⟨[],0,0⟩).line)
def dF(l:List UInt8):Nat × Nat:=
 match cR l with
 |.error f=>f
 |.ok ks=>jU 2001 ks
def nF(t:aV):Prop:=t.sort=112∨(t.sort=107∧iB.contains t.text=true)∨t.sort=110∨(t.sort=48∧(dA 0 t.text).isSome=true)∨t.sort=115∨t.sort=101
def CB(ts:List aV):Prop:=∀t∈ts,nF t
theorem CH(l:List UInt8)(line:Nat)(h:(bU l).ok=true):nF { sort:=(bU l).sort,text:=(bU l).text,line:=line }:=by
 cases l with
 |nil=>simp[bU] at h
 |cons c r=>
  rw[bU] at h ⊢
  split
  ·rename_i hd;rw[if_pos hd] at h;unfold gB at h ⊢
   split
   ·by_cases hk:iB.contains ((c::r).take (bI (dY (eV c)) (c::r)))=true
    ·rw[if_pos hk];exact Or.inr (Or.inl ⟨rfl,hk⟩)
    ·rw[if_neg hk];exact Or.inr (Or.inr (Or.inl rfl))
   ·rename_i hl;rw[if_neg hl] at h;exact Or.inr (Or.inr (Or.inr (Or.inl ⟨rfl,h⟩)))
  ·rename_i hd;rw[if_neg hd] at h;split
   ·exact Or.inr (Or.inr (Or.inr (Or.inr (Or.inl rfl))))
   ·rename_i h34;rw[if_neg h34] at h;unfold gA at h ⊢
    cases ho:cI.find? (fun o=>cJ (c::r) o) with
    |none=>rw[ho] at h;simp at h
    |some o=>exact Or.inl rfl
theorem PC(f:Nat):∀(pre l:List UInt8) (ts:List aV),eD f pre l=.ok ts→CB ts:=by
 induction f with
 |zero=>intro pre l ts h;cases h
 |succ f ih=>
  intro pre l ts h;by_cases hl:l.length=0
  ·rw[lG _ _ _ hl] at h;cases h;intro t ht;rw[List.mem_singleton.1 ht];exact Or.inr (Or.inr (Or.inr (Or.inr (Or.inr rfl))))
  ·cases hk:(bU l).ok
   ·rw[lH _ _ _ hl hk] at h;cases h
   ·rw[kV _ _ _ hl hk _ rfl] at h;cases hx:eD f (pre++l.take ((bU l).size+blankL l.length (l.drop (bU l).size))) (l.drop ((bU l).size+blankL l.length (l.drop (bU l).size))) with
    |error n=>rw[hx] at h;cases h
    |ok us=>
     rw[hx] at h;cases h;intro t ht;rcases List.mem_cons.1 ht with rfl|ht
     ·exact CH l _ hk
     ·exact ih _ _ us hx t ht
theorem KL{l:List UInt8}{ts:List aV}(h:fY l=.ok ts):CB ts:=PC _ _ _ _ h
theorem CB.tk{ts:List aV}(h:CB ts)(p:Nat)(hp:p<ts.length):nF (aO ts p):=by
 have:aO ts p=ts[p]:=by unfold aO;rw[List.getElem?_eq_getElem hp];rfl
 rw[this];exact h _ (List.getElem_mem hp)
end Go.Proofs.YtblbkfdhjfppkaaGreatDoor.Hs
namespace Go.Proofs.YtblbkfdhjfppkaaGreatDoor
open Hs
open Go.RowKit
theorem UQ(s:ByteArray)(k:Nat)(h:k<s.size):s.data.toList.take (k+1)=s.data.toList.take k++[s[k]]:=by
 rw[List.take_succ_eq_append_getElem (by simpa using h)];rfl
theorem TE{k:IntKind}{a b:Int}(h:a=b):Ending.returned (.int k a)=.returned (.int k b):=by rw[h]
theorem iJ{a b:Bool}(h:a=b):Ending.returned (.bool a)=.returned (.bool b):=by rw[h]
theorem O5(c d:UInt8):(c=d)↔((c.toNat:Int)=(d.toNat:Int)):=by
 rw[←UInt8.toNat_inj];omega
theorem mR(c:UInt8):(c.toNat:Int)≤255:=by have:=c.toNat_lt;omega
theorem xY(s:ByteArray)(k:Nat)(h:k<s.size):s.data.toList[k]?=some s[k]:=by
 simp[h];rfl
theorem DM(s:ByteArray)(n i:Nat)(h:n+i<s.size):(s.data.toList.drop n)[i]?=some s[n+i]:=by
 rw[List.getElem?_drop];exact xY s _ h
theorem RO{l:List UInt8}{i lo hi:Nat}(h:cY l i lo hi=true):i<l.length:=by
 unfold cY at h;by_cases hi':i<l.length
 ·exact hi'
 ·rw[List.getElem?_eq_none (by omega)] at h;cases h
theorem YA(l:List UInt8):bD l≤l.length:=by
 unfold bD;split
 ·omega
 ·rename_i b hb
  have h0:0<l.length:=by
   by_cases h:0<l.length
   ·exact h
   ·rw[List.getElem?_eq_none (by omega)] at hb;cases hb
  repeat' split
  all_goals first
   |omega
   |(have:=RO ‹cY l 1 _ _=true›;omega)
   |(have h:=‹(cY l 1 _ _ && cY l 2 _ _)=true›
     simp only[Bool.and_eq_true] at h;have:=RO h.2;omega)
   |(have h:=‹(cY l 1 _ _ && cY l 2 _ _ && cY l 3 _ _)=true›
     simp only[Bool.and_eq_true] at h;have:=RO h.2;omega)
theorem GT(l:List UInt8)(p f:Nat)(h:0<l.length)(hc:bD l≠0):dJ (f+1) l p=dJ f (l.drop (bD l)) (p+bD l):=by
 rw[dJ,if_neg (by omega),if_neg hc]
theorem KY(l:List UInt8)(p f:Nat)(h:0<l.length)(hc:bD l=0):dJ (f+1) l p=some p:=by
 rw[dJ,if_neg (by omega),if_pos hc]
theorem KX(l:List UInt8)(p f:Nat)(h:l.length=0):dJ f l p=none:=by
 cases f with
 |zero=>rfl
 |succ f=>rw[dJ,if_pos h]
theorem lE(x l:List UInt8)(h:x.length≤l.length):x.isPrefixOf l=(l.take x.length==x):=by
 induction x generalizing l with
 |nil=>simp
 |cons a x ih=>
  cases l with
  |nil=>simp at h
  |cons b l=>
   simp only[List.isPrefixOf,List.length_cons,List.take_succ_cons,List.cons_beq_cons];rw[ih l (by simpa using h),show (a==b)=(b==a) from Bool.beq_comm]
theorem xW(x l:List UInt8)(h:l.length<x.length):x.isPrefixOf l=false:=by
 rw[Bool.eq_false_iff];intro hh;have:=(List.isPrefixOf_iff_prefix.1 hh).length_le;omega
theorem jW(s:ByteArray)(k:Nat)(h:k<s.size):s.data.toList.drop k=s[k]::s.data.toList.drop (k+1):=by
 rw[List.drop_eq_getElem_cons (by simpa using h)];rfl
theorem ST(f:Nat):Hs.blankL f []=0:=by cases f<;>rfl
theorem JT(f:Nat)(c:UInt8)(r:List UInt8)(h:c.toNat=32∨c.toNat=9∨c.toNat=10):Hs.blankL (f+1) (c::r)=Hs.blankL f r+1:=by
 rw[Hs.blankL,if_pos h]
theorem ED(f:Nat)(c:UInt8)(r:List UInt8)(h:¬(c.toNat=32∨c.toNat=9∨c.toNat=10))(h2:cJ (c::r) [47,47]=true):
 Hs.blankL (f+1) (c::r)=bI dZ (c::r)+Hs.blankL f ((c::r).drop (bI dZ (c::r))):=by
 rw[Hs.blankL,if_neg h,if_pos h2]
theorem OO(f:Nat)(c:UInt8)(r:List UInt8)(h:¬(c.toNat=32∨c.toNat=9∨c.toNat=10))(h2:cJ (c::r) [47,47]=false):
 Hs.blankL (f+1) (c::r)=0:=by
 rw[Hs.blankL,if_neg h,if_neg (by rw[h2];simp)]
theorem qE(p:UInt8→Bool)(c:UInt8)(r:List UInt8)(h:p c=true):bI p (c::r)=bI p r+1:=by rw[bI,if_pos h]
theorem KZ(p:UInt8→Bool)(c:UInt8)(r:List UInt8)(h:p c=false):bI p (c::r)=0:=by rw[bI,if_neg (by rw[h];simp)]
theorem VW(b:UInt8):dZ b=((b.toNat:Int) != 10):=by
 unfold dZ;rw[Bool.eq_iff_iff];simp;omega
def bs(l:List UInt8):ByteArray:=⟨l.toArray⟩
theorem iV(l:List UInt8):(bs l).data.toList=l:=by simp[bs]
theorem gX(l:List UInt8):(bs l).size=l.length:=by simp[bs,ByteArray.size]
theorem E6{a b:ByteArray}(h:a.data.toList=b.data.toList):a=b:=by
 cases a;cases b;simp only at h;congr 1;exact Array.toList_inj.1 h
theorem BD(s:ByteArray)(a b:Nat):s.extract a b=bs ((s.data.toList.drop a).take (b-a)):=
 E6 (by rw[Lib.extract_data,iV])
theorem bZ(l:List UInt8):(bs l).toList=l:=by rw[Lib.toList_data,iV]
theorem qF(p:UInt8→Bool)(l:List UInt8):∀c∈l.take (bI p l),p c=true:=by
 induction l with
 |nil=>simp
 |cons a r ih=>
  intro c hc;by_cases h:p a=true
  ·rw[qE _ _ _ h,List.take_succ_cons] at hc;rcases List.mem_cons.1 hc with rfl|hc
   ·exact h
   ·exact ih c hc
  ·rw[KZ _ _ _ (by simpa using h)] at hc;simp at hc
theorem bcell{W w1:World}(hb:Below W.heap.size W w1):(∀b o,b<W.heap.size→w1.cell? ⟨b,o,none⟩=W.cell? ⟨b,o,none⟩)∧(∀b o,b<W.heap.size→w1.frozen? ⟨b,o,none⟩=W.frozen? ⟨b,o,none⟩):=
 ⟨fun b o h=>hb.cell (p:=⟨b,o,none⟩) h,fun b o h=>hb.frozen (p:=⟨b,o,none⟩) h⟩
theorem IL:∀k (h:k<21),(cI[k]'(by simpa [cI] using h)).length≤2:=by decide
def uZ(l:List UInt8)(k:Nat):Prop:=∀o∈cI.take k,cJ l o=false
theorem MA{l:List UInt8}{k:Nat}(h:k<21)(hn:uZ l k)(hk:cJ l (cI[k]'(by simpa [cI] using h))=false):uZ l (k+1):=by
 intro o ho;rw[List.take_succ_eq_append_getElem (by simpa [cI] using h)] at ho
 rcases List.mem_append.1 ho with ho|ho
 ·exact hn o ho
 ·rw[List.mem_singleton.1 ho];exact hk
theorem QL{l:List UInt8}{k:Nat}(h:k<21)(hn:uZ l k)(q:List UInt8)(hq:q=cI[k]'(by simpa [cI] using h))(hk:cJ l q=true):
 gA l={ sort:=112,text:=q,size:=q.length,ok:=true }:=by
 have e:cI.find? (fun o=>cJ l o)=some q:=by
  rw[List.find?_eq_some_iff_getElem];refine⟨hk,k,by simpa [cI] using h,hq.symm,fun j hj=>?_⟩
  have:=hn (cI[j]'(by have:cI.length=21:=rfl;omega)) (by
   rw[List.mem_take_iff_getElem];exact⟨j,by have:cI.length=21:=rfl;omega,rfl⟩)
  simp[this]
 unfold gA;rw[e]
theorem LU{l:List UInt8}(hn:uZ l 21):gA l={ sort:=0,text:=[],size:=0,ok:=false }:=by
 have e:cI.find? (fun o=>cJ l o)=none:=by
  rw[List.find?_eq_none];intro o ho;rw[hn o (by rw[List.take_of_length_le (by decide)];exact ho)];simp
 unfold gA;rw[e]
end Go.Proofs.YtblbkfdhjfppkaaGreatDoor
