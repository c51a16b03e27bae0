/- Plain functions on lists of bytes: lines, characters, blanks, tokens of a source. No Go, no program. -/
set_option maxRecDepth 100000
namespace Go.Proofs.YtblbkfdhjfppkaaGreatDoor.Hs
def aZ(l:List UInt8):Nat:=1+l.count 10
theorem iR(a b:List UInt8):aZ (a++b)=aZ a+b.count 10:=by
 unfold aZ;rw[List.count_append];omega
theorem OA(a:List UInt8):a.count 10≤a.length:=List.count_le_length
theorem nT(a:List UInt8):aZ a≤a.length+1:=by have:=OA a;unfold aZ;omega
theorem AU(a:List UInt8)(c:UInt8):aZ (a++[c])=aZ a+if c=10 then 1 else 0:=by
 rw[iR];by_cases h:c=10<;>simp[h]
def cY(l:List UInt8)(i lo hi:Nat):Bool:=
 match l[i]? with
 |some b=>decide (lo≤b.toNat) && decide (b.toNat≤hi)
 |none=>false
def bD(l:List UInt8):Nat:=
 match l[0]? with
 |none=>0
 |some b=>
  if b.toNat<128 then 1
  else if 194≤b.toNat∧b.toNat≤223 then if cY l 1 128 191 then 2 else 0
  else if 224≤b.toNat∧b.toNat≤239 then
   if cY l 1 (if b.toNat=224 then 160 else 128) (if b.toNat=237 then 159 else 191) && cY l 2 128 191 then 3 else 0
  else if 240≤b.toNat∧b.toNat≤244 then
   if cY l 1 (if b.toNat=240 then 144 else 128) (if b.toNat=244 then 143 else 191) && cY l 2 128 191 && cY l 3 128 191 then 4 else 0
  else 0
def dJ:Nat→List UInt8→Nat→Option Nat
 |0,_,_=>none
 |f+1,l,p=>
  if l.length=0 then none
  else if bD l=0 then some p
  else dJ f (l.drop (bD l)) (p+bD l)
def dW(c:UInt8):Bool:=decide (48≤c.toNat) && decide (c.toNat≤57)
def eV(c:UInt8):Bool:=
 c.toNat==95 || (decide (97≤c.toNat) && decide (c.toNat≤122) || decide (65≤c.toNat) && decide (c.toNat≤90))
def cJ(l what:List UInt8):Bool:=what.isPrefixOf l
def bI(p:UInt8→Bool):List UInt8→Nat
 |[]=>0
 |c::r=>if p c then bI p r+1 else 0
theorem jS(p:UInt8→Bool)(l:List UInt8):bI p l≤l.length:=by
 induction l with
 |nil=>simp[bI]
 |cons c r ih=>simp only[bI];split<;>simp<;>omega
def dZ(b:UInt8):Bool:=b.toNat != 10
def blankL:Nat→List UInt8→Nat
 |0,_=>0
 |f+1,l=>
  match l with
  |[]=>0
  |c::r=>
   if c.toNat=32∨c.toNat=9∨c.toNat=10 then blankL f r+1
   else if cJ (c::r) [47,47] then
    bI dZ (c::r)+blankL f ((c::r).drop (bI dZ (c::r)))
   else 0
def IN:Nat:=9223372036854775807
def dA:Nat→List UInt8→Option Nat
 |n,[]=>some n
 |n,c::r=>if (IN-(c.toNat-48))/10<n then none else dA (10*n+(c.toNat-48)) r
def iB:List (List UInt8):=[[102,117,110,99],[118,97,114],[105,102],[101,108,115,101],[119,104,105,108,101],[114,101,116,117,114,110],[112,114,105,110,116],[116,114,117,101],[102,97,108,115,101]]
def cI:List (List UInt8):=[[61,61],[33,61],[60,61],[38,38],[124,124],[40],[41],[123],[125],[91],[93],[44],[59],[61],[60],[43],[45],[42],[47],[37],[33]]
def dY(name:Bool)(b:UInt8):Bool:=dW b || name && eV b
def eU(b:UInt8):Bool:=b.toNat != 34 && b.toNat != 10
structure aV where
 sort:Nat
 text:List UInt8
 line:Nat
structure oC where
 sort:Nat
 text:List UInt8
 size:Nat
 ok:Bool
def gB(l:List UInt8)(name:Bool):oC:=
 if name then { sort:=if iB.contains (l.take (bI (dY name) l)) then 107 else 110,text:=l.take (bI (dY name) l),size:=bI (dY name) l,ok:=decide (bI (dY name) l≤16) }
 else { sort:=48,text:=l.take (bI (dY name) l),size:=bI (dY name) l,ok:=(dA 0 (l.take (bI (dY name) l))).isSome }
def mN(r:List UInt8):oC:=
 { sort:=115,text:=r.take (bI eU r),size:=bI eU r+2,ok:=decide (r[bI eU r]?=some 34) && decide (bI eU r≤100) }
def gA(l:List UInt8):oC:=
 match cI.find? (fun o=>cJ l o) with
 |some o=>{ sort:=112,text:=o,size:=o.length,ok:=true }
 |none=>{ sort:=0,text:=[],size:=0,ok:=false }
def bU:List UInt8→oC
 |[]=>{ sort:=0,text:=[],size:=0,ok:=false }
 |c::r=>if dW c || eV c then gB (c::r) (eV c) else if c.toNat=34 then mN r else gA (c::r)
def eD:Nat→List UInt8→List UInt8→Except Nat (List aV)
 |0,_,_=>.error 0
 |f+1,pre,l=>
  if l.length=0 then .ok [{ sort:=101,text:=[],line:=aZ pre }]
  else if (bU l).ok then
   match eD f (pre++l.take ((bU l).size+blankL l.length (l.drop (bU l).size))) (l.drop ((bU l).size+blankL l.length (l.drop (bU l).size))) with
   |.ok ts=>.ok ({ sort:=(bU l).sort,text:=(bU l).text,line:=aZ pre }::ts)
   |.error n=>.error n
  else .error (aZ pre)
def fY(l:List UInt8):Except Nat (List aV):=
 eD (l.length+1) (l.take (blankL l.length l)) (l.drop (blankL l.length l))
theorem kD{l w:List UInt8}(h:cJ l w=true):w.length≤l.length:=(List.isPrefixOf_iff_prefix.1 h).length_le
theorem mJ(f:Nat)(c:UInt8)(r:List UInt8):blankL (f+1) (c::r)=
 if c.toNat=32∨c.toNat=9∨c.toNat=10 then blankL f r+1
  else if cJ (c::r) [47,47] then bI dZ (c::r)+blankL f ((c::r).drop (bI dZ (c::r)))
  else 0:=by
 rw[blankL]
theorem zY(c:UInt8)(r:List UInt8)(h:cJ (c::r) [47,47]=true):1≤bI dZ (c::r):=by
 have hc:c=47:=by
  have:=List.isPrefixOf_iff_prefix.1 h;obtain⟨t,ht⟩:=this;simp only[List.cons_append,List.cons.injEq] at ht;exact ht.1.symm
 subst hc;rw[bI,if_pos (by decide)];omega
theorem tV(f:Nat):∀l:List UInt8,blankL f l≤l.length:=by
 induction f with
 |zero=>intro l;simp[blankL]
 |succ f ih=>
  intro l;cases l with
  |nil=>simp[blankL]
  |cons c r=>
   rw[mJ];split
   ·have:=ih r;simp;omega
   ·split
    ·have h1:=ih ((c::r).drop (bI dZ (c::r)));have h2:=jS dZ (c::r);rw[List.length_drop] at h1;omega
    ·omega
theorem BX(f:Nat):∀(g:Nat) (l:List UInt8),l.length≤f→l.length≤g→blankL f l=blankL g l:=by
 induction f with
 |zero=>
  intro g l h _;obtain rfl:l=[]:=List.eq_nil_of_length_eq_zero (by omega)
  cases g<;>rfl
 |succ f ih=>
  intro g l h1 h2;cases l with
  |nil=>cases g<;>rfl
  |cons c r=>
   cases g with
   |zero=>simp at h2
   |succ g=>
    rw[mJ,mJ];simp only[List.length_cons] at h1 h2;rw[ih g r (by omega) (by omega)]
    by_cases hst:cJ (c::r) [47,47]=true
    ·have h3:=zY c r hst;rw[ih g ((c::r).drop (bI dZ (c::r))) (by rw[List.length_drop,List.length_cons];omega) (by rw[List.length_drop,List.length_cons];omega)]
    ·simp only[hst];rfl
theorem qU(l:List UInt8)(b:Bool):(gB l b).size=bI (dY b) l:=by
 unfold gB;split<;>rfl
theorem sS(l:List UInt8)(h:(bU l).ok=true):1≤(bU l).size∧(bU l).size≤l.length:=by
 cases l with
 |nil=>simp[bU] at h
 |cons c r=>
  rw[bU] at h ⊢
  split
  ·rename_i hd;rw[qU];refine⟨?_,jS _ _⟩
   rw[bI,if_pos (by
    revert hd;unfold dY
    cases dW c<;>cases eV c<;>simp)]
   omega
  ·rename_i hd;rw[if_neg hd] at h;split
   ·rename_i h34;rw[if_pos h34] at h;have h':(decide (r[bI eU r]?=some 34) && decide (bI eU r≤100))=true:=h;rw[Bool.and_eq_true,decide_eq_true_eq] at h'
    have hlt:bI eU r<r.length:=by
     by_cases hx:bI eU r<r.length
     ·exact hx
     ·rw[List.getElem?_eq_none (by omega)] at h';exact absurd h'.1 (by simp)
    show 1≤bI eU r+2∧bI eU r+2≤(c::r).length
    rw[List.length_cons];omega
   ·rename_i h34;rw[if_neg h34] at h;unfold gA at h ⊢
    cases ho:cI.find? (fun o=>cJ (c::r) o) with
    |none=>rw[ho] at h;simp at h
    |some o=>
     have h1:=List.find?_some ho;have h2:=List.mem_of_find?_eq_some ho;refine⟨?_,kD h1⟩;have:∀o∈cI,1≤o.length:=by decide
     exact this o h2
def gV(ts:List aV):Except Nat (List aV)→Except Nat (List aV)
 |.ok l=>.ok (ts++l)
 |.error n=>.error n
theorem AL(x:Except Nat (List aV)):gV [] x=x:=by cases x<;>rfl
theorem xV(ts:List aV)(t:aV)(x:Except Nat (List aV)):gV (ts++[t]) x=gV ts (gV [t] x):=by cases x<;>simp[gV]
theorem lG(f:Nat)(pre l:List UInt8)(h:l.length=0):eD (f+1) pre l=.ok [{ sort:=101,text:=[],line:=aZ pre }]:=by
 rw[eD,if_pos h]
theorem lH(f:Nat)(pre l:List UInt8)(h:¬l.length=0)(hk:(bU l).ok=false):eD (f+1) pre l=.error (aZ pre):=by
 rw[eD,if_neg h,if_neg (by rw[hk];simp)]
theorem kV(f:Nat)(pre l:List UInt8)(h:¬l.length=0)(hk:(bU l).ok=true)(m:Nat)(hm:m=(bU l).size+blankL l.length (l.drop (bU l).size)):
 eD (f+1) pre l=gV [{ sort:=(bU l).sort,text:=(bU l).text,line:=aZ pre }] (eD f (pre++l.take m) (l.drop m)):=by
 rw[eD,if_neg h,if_pos hk,←hm];cases eD f (pre++l.take m) (l.drop m)<;>rfl
structure aC where
 op:List UInt8
 line:Nat
 text:List UInt8
 kids:List aC
def aO(ts:List aV)(p:Nat):aV:=ts[p]?.getD { sort:=101,text:=[],line:=0 }
def aT(ts:List aV)(p:Nat)(x:List UInt8):Bool:=((aO ts p).sort==112 || (aO ts p).sort==107) && (aO ts p).text==x
abbrev bR(α:Type):=Except Nat (α × Nat)
def bad{α:Type}(ts:List aV)(p:Nat):bR α:=.error (aO ts p).line
def bV(x:List UInt8):Nat:=
 if x==[124,124] then 0
 else if x==[38,38] then 1
 else if x==[61,61] || (x==[33,61] || (x==[60] || x==[60,61])) then 2
 else if x==[43] || x==[45] then 3
 else if x==[42] || (x==[47] || x==[37]) then 4
 else 9
def dC(E:Nat→bR aC)(ts:List aV):Nat→Nat→List aC→bR (List aC)
 |0,_,_=>.error 0
 |g+1,p,acc=>
  match E p with
  |.error l=>.error l
  |.ok (a,q)=>if aT ts q [44] then dC E ts g (q+1) (acc++[a]) else .ok (acc++[a],q)
def gN(E:Nat→bR aC)(ts:List aV)(p:Nat)(shut:List UInt8):bR (List aC):=
 if aT ts p shut then .ok ([],p) else dC E ts (ts.length+1) p []
def aL{α:Type}(ts:List aV)(x:List UInt8):bR α→bR α
 |.error l=>.error l
 |.ok (a,q)=>if aT ts q x then .ok (a,q+1) else bad ts q
def eF(E:Nat→bR aC)(ts:List aV)(p:Nat)(opens shut:List UInt8):bR (List aC):=
 if aT ts p opens then aL ts shut (gN E ts (p+1) shut) else bad ts p
def bT{α β:Type}(f:α→β):bR α→bR β
 |.error l=>.error l
 |.ok (a,q)=>.ok (f a,q)
def bN{α β:Type}(x:bR α)(f:α→Nat→bR β):bR β:=
 match x with
 |.error l=>.error l
 |.ok (a,q)=>f a q
def aP(op:List UInt8)(line:Nat)(text:List UInt8)(kids:List aC):aC:={ op:=op,line:=line,text:=text,kids:=kids }
def dP(E:Nat→bR aC)(ts:List aV)(p:Nat):bR aC:=
 if (aO ts p).sort==48 || (aO ts p).sort==115 then .ok (aP [UInt8.ofNat (aO ts p).sort] (aO ts p).line (aO ts p).text [],p+1)
 else if aT ts p [116,114,117,101] || aT ts p [102,97,108,115,101] then .ok (aP [98,111,111,108] (aO ts p).line (aO ts p).text [],p+1)
 else if aT ts p [40] then aL ts [41] (E (p+1))
 else if aT ts p [91] then bT (aP [108,105,115,116] (aO ts p).line (aO ts p).text) (eF E ts p [91] [93])
 else if (aO ts p).sort==110 then
  if aT ts (p+1) [40] then bT (aP [99,97,108,108] (aO ts p).line (aO ts p).text) (eF E ts (p+1) [40] [41])
  else .ok (aP [110,97,109,101] (aO ts p).line (aO ts p).text [],p+1)
 else bad ts p
def cT(E:Nat→bR aC)(ts:List aV):Nat→aC→Nat→bR aC
 |0,_,_=>.error 0
 |g+1,n,p=>
  if aT ts p [91] then
   match aL ts [93] (E (p+1)) with
   |.error l=>.error l
   |.ok (i,q)=>cT E ts g (aP [105,110,100,101,120] (aO ts p).line [] [n,i]) q
  else .ok (n,p)
def eC(E:Nat→bR aC)(ts:List aV):Nat→Nat→bR aC
 |0,_=>.error 0
 |g+1,p=>
  if aT ts p [45] then bT (fun x=>aP [45,120] (aO ts p).line [] [x]) (eC E ts g (p+1))
  else if aT ts p [33] then bT (fun x=>aP [33,120] (aO ts p).line [] [x]) (eC E ts g (p+1))
  else bN (dP E ts p) (cT E ts (ts.length+1))
def bC(L:Nat→bR aC)(ts:List aV)(k:Nat):Nat→aC→Nat→bR aC
 |0,_,_=>.error 0
 |g+1,n,q=>
  if (aO ts q).sort==112 && bV (aO ts q).text==k then
   match L (q+1) with
   |.error l=>.error l
   |.ok (r,q2)=>if k=2 then .ok (aP (aO ts q).text (aO ts q).line [] [n,r],q2) else bC L ts k g (aP (aO ts q).text (aO ts q).line [] [n,r]) q2
  else .ok (n,q)
def fJ(E:Nat→bR aC)(ts:List aV):Nat→Nat→bR aC
 |0,p=>eC E ts (ts.length+1) p
 |j+1,p=>bN (fJ E ts j p) (bC (fJ E ts j) ts (4-j) (ts.length+1))
def eX(ts:List aV):Nat→Nat→bR aC
 |0,_=>.error 0
 |f+1,p=>fJ (eX ts f) ts 5 p
def eL(E:Nat→bR aC)(ts:List aV):Nat→Nat→List aC→bR (List aC)
 |0,_,_=>.error 0
 |g+1,p,acc=>
  if aT ts p [91] then
   match aL ts [93] (E (p+1)) with
   |.error l=>.error l
   |.ok (i,q)=>eL E ts g q (acc++[i])
  else .ok (acc,p)
def eK(E:Nat→bR aC)(ts:List aV)(p:Nat):bR aC:=
 if (aO ts p).sort==110 then
  if aT ts (p+1) [40] then
   aL ts [59] (bT (fun l=>aP [100,111] (aO ts p).line (aO ts p).text [aP [99,97,108,108] (aO ts p).line (aO ts p).text l]) (eF E ts (p+1) [40] [41]))
  else
   bN (aL ts [61] (eL E ts (ts.length+1) (p+1) [])) fun idx q=>
    aL ts [59] (bT (fun v=>aP [115,101,116] (aO ts p).line (aO ts p).text (idx++[v])) (E q))
 else bad ts p
def nN(E:Nat→bR aC)(ts:List aV)(p:Nat):bR aC:=
 if (aO ts (p+1)).sort==110 then
  if aT ts (p+2) [61] then
   aL ts [59] (bT (fun v=>aP [118,97,114] (aO ts p).line [] [aP [116,97,114,103,101,116] (aO ts (p+1)).line (aO ts (p+1)).text [],v]) (E (p+3)))
  else bad ts (p+2)
 else bad ts (p+1)
def pR(E B:Nat→bR aC)(ts:List aV)(p:Nat):bR aC:=
 bN (E (p+1)) fun c q=>bN (B q) fun b q2=>
  if aT ts q2 [101,108,115,101] then bT (fun d=>aP [105,102] (aO ts p).line [] [c,b,d]) (B (q2+1))
  else .ok (aP [105,102] (aO ts p).line [] [c,b],q2)
def jM(E B:Nat→bR aC)(ts:List aV)(p:Nat):bR aC:=
 bN (E (p+1)) fun c q=>bT (fun b=>aP [119,104,105,108,101] (aO ts p).line [] [c,b]) (B q)
def gI(E:Nat→bR aC)(ts:List aV)(p:Nat):bR aC:=
 if aT ts (p+1) [59] then .ok (aP [114,101,116,117,114,110] (aO ts p).line [] [],p+2)
 else aL ts [59] (bT (fun v=>aP [114,101,116,117,114,110] (aO ts p).line [] [v]) (E (p+1)))
def hP(E:Nat→bR aC)(ts:List aV)(p:Nat):bR aC:=
 aL ts [59] (bT (fun v=>aP [112,114,105,110,116] (aO ts p).line [] [v]) (E (p+1)))
def iH(E B:Nat→bR aC)(ts:List aV)(p:Nat):bR aC:=
 if aT ts p [118,97,114] then nN E ts p
 else if aT ts p [105,102] then pR E B ts p
 else if aT ts p [119,104,105,108,101] then jM E B ts p
 else if aT ts p [114,101,116,117,114,110] then gI E ts p
 else if aT ts p [112,114,105,110,116] then hP E ts p
 else eK E ts p
def dD(S:Nat→bR aC)(ts:List aV):Nat→Nat→List aC→bR (List aC)
 |0,_,_=>.error 0
 |g+1,p,acc=>
  if aT ts p [125] then .ok (acc,p)
  else
   match S p with
   |.error l=>.error l
   |.ok (s,q)=>dD S ts g q (acc++[s])
def iD(E:Nat→bR aC)(ts:List aV):Nat→Nat→bR aC
 |0,_=>.error 0
 |f+1,p=>
  if aT ts p [123] then
   bT (aP [98,108,111,99,107] (aO ts p).line []) (aL ts [125] (dD (iH E (iD E ts f) ts) ts (ts.length+1) (p+1) []))
  else bad ts p
def cN(ts:List aV):Nat→Nat→List aC→bR (List aC)
 |0,_,_=>.error 0
 |g+1,p,acc=>
  if (aO ts p).sort==110 then
   if aT ts (p+1) [44] then cN ts g (p+2) (acc++[aP [112,97,114,97,109] (aO ts p).line (aO ts p).text []])
   else .ok (acc++[aP [112,97,114,97,109] (aO ts p).line (aO ts p).text []],p+1)
  else bad ts p
def gK(ts:List aV)(p:Nat):bR (List aC):=
 aL ts [41] (if aT ts p [41] then .ok ([],p) else cN ts (ts.length+1) p [])
def jD(B:Nat→bR aC)(ts:List aV)(p:Nat):bR aC:=
 if aT ts p [102,117,110,99] then
  if (aO ts (p+1)).sort==110 then
   if aT ts (p+2) [40] then
    bN (gK ts (p+3)) fun l q=>bT (fun b=>aP [102,117,110,99] (aO ts (p+1)).line (aO ts (p+1)).text (l++[b])) (B q)
   else bad ts (p+2)
  else bad ts (p+1)
 else bad ts p
def eM(F:Nat→bR aC)(ts:List aV):Nat→Nat→List aC→bR (List aC)
 |0,_,_=>.error 0
 |g+1,p,acc=>
  if (aO ts p).sort==101 then .ok (acc,p)
  else
   match F p with
   |.error l=>.error l
   |.ok (s,q)=>eM F ts g q (acc++[s])
def lB(ts:List aV):bR (List aC):=
 eM (jD (iD (eX ts (ts.length+1)) ts (ts.length+1)) ts) ts (ts.length+1) 0 []
structure bP(ts:List aV):Prop where
 next:∀p,p<ts.length→(aO ts p).sort≠101→p+1<ts.length
 line:∀p,p<ts.length→(aO ts p).line≠0
structure cH{α:Type}(N p:Nat)(r:bR α):Prop where
 er:∀l,r=.error l→l≠0
 ok:∀a q,r=.ok (a,q)→p<q∧q<N
structure eR{α:Type}(N p:Nat)(r:bR α):Prop where
 er:∀l,r=.error l→l≠0
 ok:∀a q,r=.ok (a,q)→p≤q∧q<N
theorem cH.weak{α:Type}{N p:Nat}{r:bR α}(h:cH N p r):eR N p r:=⟨h.er,fun a q e=>by have:=h.ok a q e;omega⟩
theorem eR.ne{α:Type}{N p:Nat}{r:bR α}(h:eR N p r):r≠.error 0:=fun e=>h.er 0 e rfl
theorem cH.low{α:Type}{N p p':Nat}{r:bR α}(h:cH N p r)(hp:p'≤p):cH N p' r:=⟨h.er,fun a q e=>by have:=h.ok a q e;omega⟩
theorem eR.low{α:Type}{N p p':Nat}{r:bR α}(h:eR N p r)(hp:p'<p):cH N p' r:=⟨h.er,fun a q e=>by have:=h.ok a q e;omega⟩
theorem cH.of_ok{α:Type}{N p q:Nat}(a:α)(h:p<q)(h2:q<N):cH N p (.ok (a,q):bR α):=⟨(fun l e=>by cases e),fun a' q' e=>by cases e;exact⟨h,h2⟩⟩
theorem eR.of_ok{α:Type}{N p q:Nat}(a:α)(h:p≤q)(h2:q<N):eR N p (.ok (a,q):bR α):=⟨(fun l e=>by cases e),fun a' q' e=>by cases e;exact⟨h,h2⟩⟩
theorem cH.map{α β:Type}{N p:Nat}{r:bR α}(f:α→β)(h:cH N p r):cH N p (bT f r):=by
 cases r with
 |error l=>exact⟨fun l' e=>by cases e;exact h.er _ rfl,fun a q e=>by cases e⟩
 |ok aq=>obtain⟨a,q⟩:=aq;exact⟨(fun l e=>by cases e),fun a' q' e=>by cases e;exact h.ok _ _ rfl⟩
theorem bP.isT{ts:List aV}(T:bP ts){p:Nat}{x:List UInt8}(hp:p<ts.length)(h:aT ts p x=true):p+1<ts.length:=by
 refine T.next p hp fun e=>?_
 unfold aT at h;rw[e] at h;simp at h
theorem bP.bad{ts:List aV}(T:bP ts){α:Type}{p p':Nat}(hp:p<ts.length):cH ts.length p' (bad ts p:bR α):=⟨fun l e=>by cases e;exact T.line p hp,fun a q e=>by cases e⟩
theorem bP.take{ts:List aV}(T:bP ts){α:Type}{p:Nat}{x:List UInt8}{r:bR α}(h:cH ts.length p r):cH ts.length p (aL ts x r):=by
 cases r with
 |error l=>exact⟨fun l' e=>by cases e;exact h.er _ rfl,fun a q e=>by cases e⟩
 |ok aq=>
  obtain⟨a,q⟩:=aq;have hq:=h.ok a q rfl;unfold aL;simp only;split
  ·rename_i hi;exact cH.of_ok a (by omega) (T.isT hq.2 hi)
  ·exact T.bad hq.2
theorem bP.takeW{ts:List aV}(T:bP ts){α:Type}{p:Nat}{x:List UInt8}{r:bR α}(h:eR ts.length p r):cH ts.length p (aL ts x r):=by
 cases r with
 |error l=>exact⟨fun l' e=>by cases e;exact h.er _ rfl,fun a q e=>by cases e⟩
 |ok aq=>
  obtain⟨a,q⟩:=aq;have hq:=h.ok a q rfl;unfold aL;simp only;split
  ·rename_i hi;exact cH.of_ok a (by omega) (T.isT hq.2 hi)
  ·exact T.bad hq.2
theorem bP.listLoop{ts:List aV}(T:bP ts){E:Nat→bR aC}{p0:Nat}(HE:∀q,p0<q→q<ts.length→cH ts.length q (E q)):∀(g p:Nat) (acc:List aC),p0<p→p<ts.length→ts.length≤p+g→cH ts.length p (dC E ts g p acc)
 |0,p,acc,_,h1,h2=>by omega
 |g+1,p,acc,h0,h1,h2=>by
  have hE:=HE p h0 h1;rw[dC];cases hx:E p with
  |error l=>exact⟨fun l' e=>by cases e;exact hE.er _ hx,fun a q e=>by cases e⟩
  |ok aq=>
   obtain⟨a,q⟩:=aq;have hq:=hE.ok a q hx;simp only;split
   ·rename_i hi;have:=T.isT hq.2 hi;exact(bP.listLoop T HE g (q+1) (acc++[a]) (by omega) this (by omega)).low (by omega)
   ·exact cH.of_ok _ hq.1 hq.2
theorem bP.listIn{ts:List aV}(T:bP ts){E:Nat→bR aC}{p0:Nat}(HE:∀q,p0<q→q<ts.length→cH ts.length q (E q)){p:Nat}(h0:p0<p)(h1:p<ts.length)(y:List UInt8):eR ts.length p (gN E ts p y):=by
 unfold gN;split
 ·exact eR.of_ok _ (Nat.le_refl _) h1
 ·exact(T.listLoop HE (ts.length+1) p [] h0 h1 (by omega)).weak
theorem bP.listP{ts:List aV}(T:bP ts){E:Nat→bR aC}{p0:Nat}(HE:∀q,p0<q→q<ts.length→cH ts.length q (E q)){p:Nat}(h0:p0≤p)(h1:p<ts.length)(x y:List UInt8):cH ts.length p (eF E ts p x y):=by
 unfold eF;split
 ·rename_i hi;have:=T.isT h1 hi;exact(T.takeW (T.listIn HE (p:=p+1) (by omega) this y)).low (by omega)
 ·exact T.bad h1
theorem bP.primary{ts:List aV}(T:bP ts){E:Nat→bR aC}{p0:Nat}(HE:∀q,p0<q→q<ts.length→cH ts.length q (E q)){p:Nat}(h0:p0≤p)(h1:p<ts.length):cH ts.length p (dP E ts p):=by
 unfold dP;split
 ·rename_i hi;refine cH.of_ok _ (by omega) (T.next p h1 fun e=>?_)
  rw[e] at hi;simp at hi
 split
 ·rename_i hi;refine cH.of_ok _ (by omega) ?_
  rcases Bool.or_eq_true_iff.1 hi with hi|hi
  ·exact T.isT h1 hi
  ·exact T.isT h1 hi
 split
 ·rename_i hi;have:=T.isT h1 hi;exact T.take ((HE (p+1) (by omega) this).low (by omega))
 split
 ·exact(T.listP HE h0 h1 _ _).map _
 split
 ·rename_i hi;have hp:p+1<ts.length:=T.next p h1 fun e=>by rw[e] at hi;simp at hi
  split
  ·exact((T.listP HE (p:=p+1) (by omega) hp _ _).low (by omega)).map _
  ·exact cH.of_ok _ (by omega) hp
 ·exact T.bad h1
theorem bP.index{ts:List aV}(T:bP ts){E:Nat→bR aC}{p0:Nat}(HE:∀q,p0<q→q<ts.length→cH ts.length q (E q)):∀(g:Nat) (n:aC) (p:Nat),p0≤p→p<ts.length→ts.length≤p+g→eR ts.length p (cT E ts g n p)
 |0,n,p,_,h1,h2=>by omega
 |g+1,n,p,h0,h1,h2=>by
  rw[cT];split
  ·rename_i hi;have hp:=T.isT h1 hi;have hE:=T.take (x:=[93]) (HE (p+1) (by omega) hp)
   cases hx:aL ts [93] (E (p+1)) with
   |error l=>exact⟨fun l' e=>by cases e;exact hE.er _ hx,fun a q e=>by cases e⟩
   |ok iq=>
    obtain⟨i,q⟩:=iq;have hq:=hE.ok i q hx;exact((bP.index T HE g _ q (by omega) hq.2 (by omega)).low (by omega:p<q)).weak
  ·exact eR.of_ok _ (Nat.le_refl _) h1
theorem bP.bind{ts:List aV}(_T:bP ts){α β:Type}{p:Nat}{r:bR α}{f:α→Nat→bR β}(h:cH ts.length p r)(hf:∀a q,p<q→q<ts.length→eR ts.length q (f a q)):cH ts.length p (bN r f):=by
 cases r with
 |error l=>exact⟨fun l' e=>by cases e;exact h.er _ rfl,fun a q e=>by cases e⟩
 |ok aq=>
  obtain⟨a,q⟩:=aq;have hq:=h.ok a q rfl;exact(hf a q hq.1 hq.2).low hq.1
theorem bP.unary{ts:List aV}(T:bP ts){E:Nat→bR aC}{p0:Nat}(HE:∀q,p0<q→q<ts.length→cH ts.length q (E q)):∀(g p:Nat),p0≤p→p<ts.length→ts.length≤p+g→cH ts.length p (eC E ts g p)
 |0,p,_,h1,h2=>by omega
 |g+1,p,h0,h1,h2=>by
  rw[eC];split
  ·rename_i hi;have hp:=T.isT h1 hi;exact((bP.unary T HE g (p+1) (by omega) hp (by omega)).low (by omega)).map _
  split
  ·rename_i hi;have hp:=T.isT h1 hi;exact((bP.unary T HE g (p+1) (by omega) hp (by omega)).low (by omega)).map _
  ·exact T.bind (T.primary HE h0 h1) fun a q hq1 hq2=>T.index HE _ a q (by omega) hq2 (by omega)
theorem bP.levelLoop{ts:List aV}(T:bP ts){L:Nat→bR aC}{p0 k:Nat}(HL:∀q,p0≤q→q<ts.length→cH ts.length q (L q)):∀(g:Nat) (n:aC) (q:Nat),p0≤q→q<ts.length→ts.length≤q+g→eR ts.length q (bC L ts k g n q)
 |0,n,q,_,h1,h2=>by omega
 |g+1,n,q,h0,h1,h2=>by
  rw[bC];split
  ·rename_i hi;have hp:q+1<ts.length:=T.next q h1 fun e=>by rw[e] at hi;simp at hi
   have hE:=HL (q+1) (by omega) hp
   cases hx:L (q+1) with
   |error l=>exact⟨fun l' e=>by cases e;exact hE.er _ hx,fun a q e=>by cases e⟩
   |ok rq=>
    obtain⟨r,q2⟩:=rq;have hq:=hE.ok r q2 hx;simp only;split
    ·exact eR.of_ok _ (by omega) hq.2
    ·exact((bP.levelLoop T HL g _ q2 (by omega) hq.2 (by omega)).low (by omega:q<q2)).weak
  ·exact eR.of_ok _ (Nat.le_refl _) h1
theorem bP.level{ts:List aV}(T:bP ts){E:Nat→bR aC}{p0:Nat}(HE:∀q,p0<q→q<ts.length→cH ts.length q (E q)):∀(j p:Nat),p0≤p→p<ts.length→cH ts.length p (fJ E ts j p)
 |0,p,h0,h1=>T.unary HE _ p h0 h1 (by omega)
 |j+1,p,h0,h1=>by
  rw[fJ];exact T.bind (bP.level T HE j p h0 h1) fun a q hq1 hq2=>T.levelLoop (p0:=p0) (fun q h0 h1=>bP.level T HE j q h0 h1) _ a q (by omega) hq2 (by omega)
theorem bP.expr{ts:List aV}(T:bP ts):∀(f p:Nat),p<ts.length→ts.length≤p+f→cH ts.length p (eX ts f p)
 |0,p,h1,h2=>by omega
 |f+1,p,h1,h2=>by
  rw[eX];exact T.level (p0:=p) (fun q hq1 hq2=>bP.expr T f q hq2 (by omega)) 5 p (Nat.le_refl _) h1
theorem bP.exprs{ts:List aV}(T:bP ts):∀q,q<ts.length→cH ts.length q (eX ts (ts.length+1) q):=fun q hq=>T.expr _ q hq (by omega)
theorem bP.setLoop{ts:List aV}(T:bP ts){E:Nat→bR aC}(HE:∀q,q<ts.length→cH ts.length q (E q)):∀(g p:Nat) (acc:List aC),p<ts.length→ts.length≤p+g→eR ts.length p (eL E ts g p acc)
 |0,p,acc,h1,h2=>by omega
 |g+1,p,acc,h1,h2=>by
  rw[eL];split
  ·rename_i hi;have hp:=T.isT h1 hi;have hE:=T.take (x:=[93]) (HE (p+1) hp);cases hx:aL ts [93] (E (p+1)) with
   |error l=>exact⟨fun l' e=>by cases e;exact hE.er _ hx,fun a q e=>by cases e⟩
   |ok iq=>
    obtain⟨i,q⟩:=iq;have hq:=hE.ok i q hx;exact((bP.setLoop T HE g q _ hq.2 (by omega)).low (by omega:p<q)).weak
  ·exact eR.of_ok _ (Nat.le_refl _) h1
theorem bP.simple{ts:List aV}(T:bP ts){E:Nat→bR aC}(HE:∀q,q<ts.length→cH ts.length q (E q)){p:Nat}(h1:p<ts.length):cH ts.length p (eK E ts p):=by
 unfold eK;split
 ·rename_i hi;have hp:p+1<ts.length:=T.next p h1 fun e=>by rw[e] at hi;simp at hi
  split
  ·exact T.take (((T.listP (p0:=p) (fun q _ hq=>HE q hq) (p:=p+1) (by omega) hp _ _).low (by omega)).map _)
  ·exact T.bind ((T.takeW (T.setLoop HE _ (p+1) [] hp (by omega))).low (by omega)) fun idx q _ hq=>(T.take ((HE q hq).map _)).weak
 ·exact T.bad h1
theorem bP.stmt{ts:List aV}(T:bP ts){E B:Nat→bR aC}{p:Nat}(HE:∀q,q<ts.length→cH ts.length q (E q))(HB:∀q,p<q→q<ts.length→cH ts.length q (B q))(h1:p<ts.length):cH ts.length p (iH E B ts p):=by
 unfold iH;split
 ·rename_i hi;have hp:=T.isT h1 hi;unfold nN;split
  ·rename_i h110;have hp2:p+2<ts.length:=T.next (p+1) hp fun e=>by rw[e] at h110;simp at h110
   split
   ·rename_i h61;have hp3:p+3<ts.length:=T.isT hp2 h61;exact T.take (((HE (p+3) hp3).low (by omega)).map _)
   ·exact T.bad hp2
  ·exact T.bad hp
 split
 ·rename_i hi;have hp:=T.isT h1 hi;unfold pR;refine T.bind ((HE (p+1) hp).low (by omega)) fun c q hq1 hq2=>(T.bind (HB q hq1 hq2) fun b q2 hq3 hq4=>?_).weak
  split
  ·rename_i hel;have:=T.isT hq4 hel;exact(((HB (q2+1) (by omega) this).low (by omega)).map _).weak
  ·exact eR.of_ok _ (Nat.le_refl _) hq4
 split
 ·rename_i hi;have hp:=T.isT h1 hi;unfold jM;exact T.bind ((HE (p+1) hp).low (by omega)) fun c q hq1 hq2=>((HB q hq1 hq2).map _).weak
 split
 ·rename_i hi;have hp:=T.isT h1 hi;unfold gI;split
  ·rename_i h59;exact cH.of_ok _ (by omega) (T.isT hp h59)
  ·exact T.take (((HE (p+1) hp).low (by omega)).map _)
 split
 ·rename_i hi;have hp:=T.isT h1 hi;unfold hP;exact T.take (((HE (p+1) hp).low (by omega)).map _)
 ·exact T.simple HE h1
theorem bP.blockLoop{ts:List aV}(_T:bP ts){S:Nat→bR aC}{p0:Nat}(HS:∀q,p0<q→q<ts.length→cH ts.length q (S q)):∀(g p:Nat) (acc:List aC),p0<p→p<ts.length→ts.length≤p+g→eR ts.length p (dD S ts g p acc)
 |0,p,acc,_,h1,h2=>by omega
 |g+1,p,acc,h0,h1,h2=>by
  rw[dD];split
  ·exact eR.of_ok _ (Nat.le_refl _) h1
  ·have hE:=HS p h0 h1;cases hx:S p with
   |error l=>exact⟨fun l' e=>by cases e;exact hE.er _ hx,fun a q e=>by cases e⟩
   |ok sq=>
    obtain⟨s,q⟩:=sq;have hq:=hE.ok s q hx;exact((bP.blockLoop _T HS g q _ (by omega) hq.2 (by omega)).low (by omega:p<q)).weak
theorem bP.block{ts:List aV}(T:bP ts){E:Nat→bR aC}(HE:∀q,q<ts.length→cH ts.length q (E q)):∀(f p:Nat),p<ts.length→ts.length≤p+f→cH ts.length p (iD E ts f p)
 |0,p,h1,h2=>by omega
 |f+1,p,h1,h2=>by
  rw[iD];split
  ·rename_i hi;have hp:=T.isT h1 hi;refine((T.takeW (T.blockLoop (p0:=p) (fun q hq1 hq2=>T.stmt HE (fun q' h' h''=>bP.block T HE f q' h'' (by omega)) hq2) _ (p+1) [] (by omega) hp (by omega))).low (by omega)).map _
  ·exact T.bad h1
theorem bP.paramLoop{ts:List aV}(T:bP ts):∀(g p:Nat) (acc:List aC),p<ts.length→ts.length≤p+g→cH ts.length p (cN ts g p acc)
 |0,p,acc,h1,h2=>by omega
 |g+1,p,acc,h1,h2=>by
  rw[cN];split
  ·rename_i hi;have hp:p+1<ts.length:=T.next p h1 fun e=>by rw[e] at hi;simp at hi
   split
   ·rename_i h44;have hp2:p+2<ts.length:=T.isT hp h44;exact(bP.paramLoop T g (p+2) _ hp2 (by omega)).low (by omega)
   ·exact cH.of_ok _ (by omega) hp
  ·exact T.bad h1
theorem bP.func{ts:List aV}(T:bP ts){B:Nat→bR aC}(HB:∀q,q<ts.length→cH ts.length q (B q)){p:Nat}(h1:p<ts.length):cH ts.length p (jD B ts p):=by
 unfold jD;split
 ·rename_i hi;have hp:=T.isT h1 hi;split
  ·rename_i h110;have hp2:p+2<ts.length:=T.next (p+1) hp fun e=>by rw[e] at h110;simp at h110
   split
   ·rename_i h40;have hp3:p+3<ts.length:=T.isT hp2 h40
    have hpar:cH ts.length (p+3) (gK ts (p+3)):=by
     unfold gK;refine T.takeW ?_;split
     ·exact eR.of_ok _ (Nat.le_refl _) hp3
     ·exact(T.paramLoop _ (p+3) [] hp3 (by omega)).weak
    exact T.bind (hpar.low (by omega)) fun l q _ hq=>((HB q hq).map _).weak
   ·exact T.bad hp2
  ·exact T.bad hp
 ·exact T.bad h1
theorem bP.progLoop{ts:List aV}(_T:bP ts){F:Nat→bR aC}(HF:∀q,q<ts.length→cH ts.length q (F q)):∀(g p:Nat) (acc:List aC),p<ts.length→ts.length≤p+g→eR ts.length p (eM F ts g p acc)
 |0,p,acc,h1,h2=>by omega
 |g+1,p,acc,h1,h2=>by
  rw[eM];split
  ·exact eR.of_ok _ (Nat.le_refl _) h1
  ·have hE:=HF p h1;cases hx:F p with
   |error l=>exact⟨fun l' e=>by cases e;exact hE.er _ hx,fun a q e=>by cases e⟩
   |ok sq=>
    obtain⟨s,q⟩:=sq;have hq:=hE.ok s q hx;exact((bP.progLoop _T HF g q _ hq.2 (by omega)).low (by omega:p<q)).weak
theorem bP.prog{ts:List aV}(T:bP ts)(h:0<ts.length):lB ts≠.error 0:=
 (T.progLoop (fun q hq=>T.func (fun q' hq'=>T.block (fun q hq=>T.exprs q hq) _ q' hq' (by omega)) hq) _ 0 [] h (by omega)).ne
structure pZ(ts:List aV):Prop where
 some_:0<ts.length
 last:(aO ts (ts.length-1)).sort=101
 line:∀p,p<ts.length→(aO ts p).line≠0
theorem oF(t:aV)(ts:List aV)(p:Nat):aO (t::ts) (p+1)=aO ts p:=by simp[aO]
theorem GG(f:Nat):∀(pre l:List UInt8) (ts:List aV),eD f pre l=.ok ts→pZ ts∧ts.length≤f:=by
 induction f with
 |zero=>intro pre l ts h;cases h
 |succ f ih=>
  intro pre l ts h;by_cases hl:l.length=0
  ·rw[lG _ _ _ hl] at h;cases h;refine⟨⟨by simp,rfl,fun p hp=>?_⟩,by simp⟩
   obtain rfl:p=0:=by simp at hp;omega
   show aZ pre≠0
   unfold aZ;omega
  ·cases hk:(bU l).ok
   ·rw[lH _ _ _ hl hk] at h;cases h
   ·rw[kV _ _ _ hl hk _ rfl] at h;cases hx:eD f (pre++l.take ((bU l).size+blankL l.length (l.drop (bU l).size))) (l.drop ((bU l).size+blankL l.length (l.drop (bU l).size))) with
    |error n=>rw[hx] at h;cases h
    |ok us=>
     rw[hx] at h;cases h;obtain⟨h1,h2⟩:=ih _ _ us hx;refine⟨⟨by simp,?_,fun p hp=>?_⟩,by simp;omega⟩
     ·have:=h1.some_;show (aO (_::us) ((_::us).length-1)).sort=101
      rw[List.length_cons,show us.length+1-1=(us.length-1)+1 by omega,oF]
      exact h1.last
     ·cases p with
      |zero=>show aZ pre≠0;unfold aZ;omega
      |succ p=>
       show (aO (_::us) (p+1)).line≠0
       rw[oF];exact h1.line p (by simpa using hp)
theorem pZ.ok{ts:List aV}(h:pZ ts):bP ts:=
 ⟨fun p hp hs=>by
   by_cases e:p=ts.length-1
   ·subst e;exact absurd h.last hs
   ·omega,h.line⟩
theorem qV{l:List UInt8}{ts:List aV}(h:fY l=.ok ts):pZ ts∧ts.length≤l.length+1:=GG _ _ _ _ h
def cR(l:List UInt8):Except (Nat × Nat) (List aC):=
 if 2000<l.length then .error (1,0)
 else match dJ l.length l 0 with
  |some k=>.error (2,aZ (l.take k))
  |none=>
   match fY l with
   |.error n=>.error (3,n)
   |.ok ts=>
    match lB ts with
    |.error n=>.error (4,n)
    |.ok (ks,_)=>.ok ks
structure aX where
 seen:List (List UInt8)
 kind:Nat
 line:Nat
def aX.found(s:aX)(line kind:Nat):aX:=if s.kind=0 then { s with kind:=kind,line:=line } else s
def fK(x:List UInt8):Bool:=x==[108,101,110] || x==[114,101,97,100]
def declaresL(s:aX)(n:aC):aX:=if fK n.text || s.seen.contains n.text then s.found n.line 6 else s
def dG(fs:List aC)(name:List UInt8):Option aC:=fs.find? fun f=>f.text==name
def kX(fs:List aC)(alone:Bool)(name:List UInt8):Int:=
 if name==[108,101,110] then 1
 else if name==[114,101,97,100] && !alone then 0
 else match dG fs name with
  |some f=>(f.kids.length:Int)-1
  |none=> -1
def dX(fs:List aC)(alone:Bool)(s:aX)(n:aC):aX:=
 if kX fs alone n.text<0 then s.found n.line 6
 else if kX fs alone n.text≠(n.kids.length:Int) then s.found n.line 7
 else s
def bY(fs:List aC)(alone:Bool)(s:aX)(n:aC):aX:=
 if n.op==[115,101,116] || n.op==[110,97,109,101] then (if s.seen.contains n.text then s else s.found n.line 6)
 else if n.op==[99,97,108,108] then dX fs alone s n
 else s
def aM(fs:List aC)(alone:Bool):Nat→aC→aX→aX
 |0,_,s=>s
 |d+1,n,s=>
  if n.op==[118,97,114] then
   match n.kids with
   |t::v::_=>let s1:=aM fs alone d v (declaresL s t);{ s1 with seen:=s1.seen++[t.text] }
   |_=>s
  else
   let s1:=n.kids.foldl (fun s k=>aM fs alone d k s) (bY fs alone s n)
   if n.op==[98,108,111,99,107] then { s1 with seen:=s1.seen.take s.seen.length } else s1
def bS:Nat→aC→Nat
 |0,_=>0
 |d+1,n=>1+(n.kids.map (bS d)).sum
def YR:Nat→aC→Prop
 |0,_=>True
 |d+1,n=>(n.op=[118,97,114]→2≤n.kids.length)∧∀k∈n.kids,YR d k
def FineA(m:Nat)(a:aC):Prop:=∀d,bS d a≤m∧YR d a
def FineL(m:Nat)(l:List aC):Prop:=∀d,(l.map (bS d)).sum≤m∧∀k∈l,YR d k
theorem FineA.le{m n:Nat}{a:aC}(h:FineA m a)(hn:m≤n):FineA n a:=fun d=>⟨Nat.le_trans (h d).1 hn,(h d).2⟩
theorem FineL.le{m n:Nat}{a:List aC}(h:FineL m a)(hn:m≤n):FineL n a:=fun d=>⟨Nat.le_trans (h d).1 hn,(h d).2⟩
theorem FineL.nil:FineL 0 []:=fun _=>⟨Nat.le_refl _,fun _ h=>by cases h⟩
theorem FineL.snoc{m n:Nat}{l:List aC}{a:aC}(h:FineL m l)(ha:FineA n a):FineL (m+n) (l++[a]):=fun d=>by
 refine⟨?_,fun k hk=>?_⟩
 ·rw[List.map_append,List.sum_append];have h1:=(h d).1;have h2:=(ha d).1;simp;omega
 ·rcases List.mem_append.1 hk with hk|hk
  ·exact(h d).2 k hk
  ·rw[List.mem_singleton.1 hk];exact(ha d).2
theorem FineL.one{n:Nat}{a:aC}(ha:FineA n a):FineL n [a]:=fun d=>by
 refine⟨?_,fun k hk=>?_⟩
 ·have h2:=(ha d).1;simp;omega
 ·rw[List.mem_singleton.1 hk];exact(ha d).2
theorem FineL.two{m n:Nat}{a b:aC}(ha:FineA m a)(hb:FineA n b):FineL (m+n) [a,b]:=(FineL.one ha).snoc hb
theorem FineL.three{m n k:Nat}{a b c:aC}(ha:FineA m a)(hb:FineA n b)(hc:FineA k c):FineL (m+n+k) [a,b,c]:=(FineL.two ha hb).snoc hc
theorem FineA.node{m:Nat}{l:List aC}{op text:List UInt8}{line:Nat}(h:FineL m l)(ho:op=[118,97,114]→2≤l.length):FineA (m+1) (aP op line text l):=fun d=>by
 cases d with
 |zero=>exact⟨Nat.zero_le _,trivial⟩
 |succ d=>
  refine⟨?_,ho,(h d).2⟩;have:=(h d).1;show 1+(l.map (bS d)).sum≤m+1
  omega
def bG{α:Type}(P:Nat→α→Prop)(p:Nat)(r:bR α):Prop:=∀a q,r=.ok (a,q)→∃m,p+m≤q∧P m a
theorem bG.bad{α:Type}{P:Nat→α→Prop}{p p':Nat}{ts:List aV}:bG P p (bad ts p'):=fun a q h=>by cases h
theorem bG.err{α:Type}{P:Nat→α→Prop}{p n:Nat}:bG P p (.error n):=fun a q h=>by cases h
theorem bG.of_ok{α:Type}{P:Nat→α→Prop}{p m q:Nat}{a:α}(hm:p+m≤q)(h:P m a):bG P p (.ok (a,q)):=fun a' q' e=>by cases e;exact⟨m,hm,h⟩
theorem bG.take{α:Type}{P:Nat→α→Prop}{p:Nat}{ts:List aV}{x:List UInt8}{r:bR α}(h:bG P p r):bG P p (aL ts x r):=by
 cases r with
 |error l=>exact bG.err
 |ok aq=>
  obtain⟨a,q⟩:=aq;obtain⟨m,h1,h2⟩:=h a q rfl;unfold aL;simp only;split
  ·exact bG.of_ok (by omega) h2
  ·exact bG.bad
theorem bG.map{α β:Type}{P:Nat→α→Prop}{Q:Nat→β→Prop}{p p' k:Nat}{r:bR α}{f:α→β}(h:bG P p r)(hp:p'+k≤p)(hf:∀m a,P m a→Q (m+k) (f a)):bG Q p' (bT f r):=by
 cases r with
 |error l=>exact bG.err
 |ok aq=>
  obtain⟨a,q⟩:=aq;obtain⟨m,h1,h2⟩:=h a q rfl;exact bG.of_ok (m:=m+k) (by omega) (hf m a h2)
theorem bG.bind{α β:Type}{P:Nat→α→Prop}{Q:Nat→β→Prop}{p p':Nat}{r:bR α}{f:α→Nat→bR β}(h:bG P p r)(hf:∀m a q,P m a→p+m≤q→bG Q p' (f a q)):bG Q p' (bN r f):=by
 cases r with
 |error l=>exact bG.err
 |ok aq=>
  obtain⟨a,q⟩:=aq;obtain⟨m,h1,h2⟩:=h a q rfl;exact hf m a q h2 h1
theorem bG.low{α:Type}{P:Nat→α→Prop}{p p':Nat}{r:bR α}(h:bG P p r)(hp:p'≤p):bG P p' r:=fun a q e=>by
 obtain⟨m,h1,h2⟩:=h a q e;exact⟨m,by omega,h2⟩
section
variable {ts:List aV} {E:Nat→bR aC}
theorem oX(HE:∀q,bG FineA q (E q)):∀(g p:Nat) (acc:List aC) (m0 p0:Nat),FineL m0 acc→p0+m0≤p→bG FineL p0 (dC E ts g p acc)
 |0,p,acc,_,_,_,_=>bG.err
 |g+1,p,acc,m0,p0,h0,hp=>by
  rw[dC];cases hx:E p with
  |error l=>exact bG.err
  |ok aq=>
   obtain⟨a,q⟩:=aq;obtain⟨m,h1,h2⟩:=HE p a q hx;simp only;split
   ·exact oX HE g (q+1) _ (m0+m) p0 (h0.snoc h2) (by omega)
   ·exact bG.of_ok (m:=m0+m) (by omega) (h0.snoc h2)
theorem oW(HE:∀q,bG FineA q (E q))(p:Nat)(x y:List UInt8):bG FineL (p+1) (eF E ts p x y):=by
 unfold eF;split
 ·refine bG.take ?_;unfold gN;split
  ·exact bG.of_ok (m:=0) (by omega) FineL.nil
  ·exact oX HE _ _ _ 0 _ FineL.nil (by omega)
 ·exact bG.bad
theorem kQ{op text:List UInt8}{line:Nat}(ho:op≠[118,97,114]):FineA 1 (aP op line text []):=FineA.node (m:=0) FineL.nil fun h=>absurd h ho
theorem CZ(HE:∀q,bG FineA q (E q))(p:Nat):bG FineA p (dP E ts p):=by
 unfold dP;split
 ·exact bG.of_ok (m:=1) (by omega) (kQ (by simp))
 split
 ·exact bG.of_ok (m:=1) (by omega) (kQ (by simp))
 split
 ·exact((HE (p+1)).take).low (by omega)
 split
 ·exact bG.map (k:=1) (oW HE p _ _) (by omega) fun m a h=>FineA.node h (by simp)
 split
 ·split
  ·exact bG.map (k:=1) (oW HE (p+1) _ _) (by omega) fun m a h=>FineA.node h (by simp)
  ·exact bG.of_ok (m:=1) (by omega) (kQ (by simp))
 ·exact bG.bad
theorem vV(HE:∀q,bG FineA q (E q)):∀(g:Nat) (n:aC) (p m0 p0:Nat),FineA m0 n→p0+m0≤p→bG FineA p0 (cT E ts g n p)
 |0,n,p,_,_,_,_=>bG.err
 |g+1,n,p,m0,p0,h0,hp=>by
  rw[cT];split
  ·have hE:=(HE (p+1)).take (ts:=ts) (x:=[93]);cases hx:aL ts [93] (E (p+1)) with
   |error l=>exact bG.err
   |ok iq=>
    obtain⟨i,q⟩:=iq;obtain⟨m,h1,h2⟩:=hE i q hx;exact vV HE g _ q (m0+m+1) p0 (FineA.node (FineL.two h0 h2) (by simp)) (by omega)
  ·exact bG.of_ok hp h0
theorem oU(HE:∀q,bG FineA q (E q)):∀(g p:Nat),bG FineA p (eC E ts g p)
 |0,p=>bG.err
 |g+1,p=>by
  rw[eC];split
  ·exact bG.map (k:=1) (oU HE g (p+1)) (by omega) fun m a h=>FineA.node (FineL.one h) (by simp)
  split
  ·exact bG.map (k:=1) (oU HE g (p+1)) (by omega) fun m a h=>FineA.node (FineL.one h) (by simp)
  ·exact bG.bind (CZ HE p) fun m a q h1 h2=>vV HE _ a q m p h1 h2
theorem oI{L:Nat→bR aC}{k:Nat}(HL:∀q,bG FineA q (L q)):∀(g:Nat) (n:aC) (q m0 p0:Nat),FineA m0 n→p0+m0≤q→bG FineA p0 (bC L ts k g n q)
 |0,n,q,_,_,_,_=>bG.err
 |g+1,n,q,m0,p0,h0,hp=>by
  rw[bC];split
  ·cases hx:L (q+1) with
   |error l=>exact bG.err
   |ok rq=>
    obtain⟨r,q2⟩:=rq;obtain⟨m,h1,h2⟩:=HL _ r q2 hx;have hn:∀op line,FineA (m0+m+1) (aP op line [] [n,r]):=fun op line=>FineA.node (FineL.two h0 h2) (by simp)
    simp only;split
    ·exact bG.of_ok (m:=m0+m+1) (by omega) (hn _ _)
    ·exact oI HL g _ q2 (m0+m+1) p0 (hn _ _) (by omega)
  ·exact bG.of_ok hp h0
theorem oY(HE:∀q,bG FineA q (E q)):∀(j p:Nat),bG FineA p (fJ E ts j p)
 |0,p=>oU HE _ p
 |j+1,p=>by
  rw[fJ];exact bG.bind (oY HE j p) fun m a q h1 h2=>oI (fun q=>oY HE j q) _ a q m p h1 h2
theorem zT(ts:List aV):∀(f p:Nat),bG FineA p (eX ts f p)
 |0,p=>bG.err
 |f+1,p=>by
  rw[eX];exact oY (fun q=>zT ts f q) 5 p
theorem qX(HE:∀q,bG FineA q (E q)):∀(g p:Nat) (acc:List aC) (m0 p0:Nat),FineL m0 acc→p0+m0≤p→bG FineL p0 (eL E ts g p acc)
 |0,p,acc,_,_,_,_=>bG.err
 |g+1,p,acc,m0,p0,h0,hp=>by
  rw[eL];split
  ·have hE:=(HE (p+1)).take (ts:=ts) (x:=[93]);cases hx:aL ts [93] (E (p+1)) with
   |error l=>exact bG.err
   |ok iq=>
    obtain⟨i,q⟩:=iq;obtain⟨m,h1,h2⟩:=hE i q hx;exact qX HE g q _ (m0+m) p0 (h0.snoc h2) (by omega)
  ·exact bG.of_ok hp h0
theorem GP(HE:∀q,bG FineA q (E q))(p:Nat):bG FineA p (eK E ts p):=by
 unfold eK;split
 ·split
  ·exact bG.take (bG.map (k:=2) (oW HE (p+1) _ _) (by omega) fun m a h=>FineA.node (FineL.one (FineA.node h (by simp))) (by simp))
  ·refine bG.bind ((qX HE _ (p+1) [] 0 (p+1) FineL.nil (by omega)).take) fun m l q h1 h2=>?_
   exact bG.take (bG.map (k:=m+1) (HE q) (by omega) fun m2 v hv=>FineA.le (FineA.node (h1.snoc hv) (by simp)) (by omega))
 ·exact bG.bad
theorem PI{B:Nat→bR aC}(HE:∀q,bG FineA q (E q))(HB:∀q,bG FineA q (B q))(p:Nat):bG FineA p (iH E B ts p):=by
 unfold iH;split
 ·unfold nN;split
  ·split
   ·exact bG.take (bG.map (k:=2) (HE (p+3)) (by omega) fun m v hv=>FineA.le (FineA.node (FineL.two (kQ (by simp)) hv) (by simp)) (by omega))
   ·exact bG.bad
  ·exact bG.bad
 split
 ·unfold pR;refine bG.bind (HE (p+1)) fun m c q h1 h2=>bG.bind (HB q) fun m2 b q2 h3 h4=>?_
  split
  ·exact bG.map (k:=m+m2+1) (HB (q2+1)) (by omega) fun m3 d hd=>FineA.le (FineA.node (FineL.three h1 h3 hd) (by simp)) (by omega)
  ·exact bG.of_ok (m:=m+m2+1) (by omega) (FineA.node (FineL.two h1 h3) (by simp))
 split
 ·unfold jM;exact bG.bind (HE (p+1)) fun m c q h1 h2=>bG.map (k:=m+1) (HB q) (by omega) fun m2 b hb=>FineA.le (FineA.node (FineL.two h1 hb) (by simp)) (by omega)
 split
 ·unfold gI;split
  ·exact bG.of_ok (m:=1) (by omega) (kQ (by simp))
  ·exact bG.take (bG.map (k:=1) (HE (p+1)) (by omega) fun m v hv=>FineA.node (FineL.one hv) (by simp))
 split
 ·unfold hP;exact bG.take (bG.map (k:=1) (HE (p+1)) (by omega) fun m v hv=>FineA.node (FineL.one hv) (by simp))
 ·exact GP HE p
theorem oJ{S:Nat→bR aC}(HS:∀q,bG FineA q (S q)):∀(g p:Nat) (acc:List aC) (m0 p0:Nat),FineL m0 acc→p0+m0≤p→bG FineL p0 (dD S ts g p acc)
 |0,p,acc,_,_,_,_=>bG.err
 |g+1,p,acc,m0,p0,h0,hp=>by
  rw[dD];split
  ·exact bG.of_ok hp h0
  ·cases hx:S p with
   |error l=>exact bG.err
   |ok sq=>
    obtain⟨s,q⟩:=sq;obtain⟨m,h1,h2⟩:=HS p s q hx;exact oJ HS g q _ (m0+m) p0 (h0.snoc h2) (by omega)
theorem vW(HE:∀q,bG FineA q (E q)):∀(f p:Nat),bG FineA p (iD E ts f p)
 |0,p=>bG.err
 |f+1,p=>by
  rw[iD];split
  ·exact bG.map (k:=1) (bG.take (oJ (fun q=>PI HE (fun q=>vW HE f q) q) _ (p+1) [] 0 (p+1) FineL.nil (by omega))) (by omega) fun m l h=>FineA.node h (by simp)
  ·exact bG.bad
theorem oH:∀(g p:Nat) (acc:List aC) (m0 p0:Nat),FineL m0 acc→p0+m0≤p→bG FineL p0 (cN ts g p acc)
 |0,p,acc,_,_,_,_=>bG.err
 |g+1,p,acc,m0,p0,h0,hp=>by
  have hl:FineL (m0+1) (acc++[aP [112,97,114,97,109] (aO ts p).line (aO ts p).text []]):=h0.snoc (kQ (by simp))
  rw[cN];split
  ·split
   ·exact oH g (p+2) _ (m0+1) p0 hl (by omega)
   ·exact bG.of_ok (m:=m0+1) (by omega) hl
  ·exact bG.bad
theorem PK{B:Nat→bR aC}(HB:∀q,bG FineA q (B q))(p:Nat):bG FineA p (jD B ts p):=by
 unfold jD;split
 ·split
  ·split
   ·have hpar:bG FineL (p+3) (gK ts (p+3)):=by
     unfold gK;refine bG.take ?_;split
     ·exact bG.of_ok (m:=0) (by omega) FineL.nil
     ·exact oH _ (p+3) [] 0 (p+3) FineL.nil (by omega)
    exact bG.bind hpar fun m l q h1 h2=>bG.map (k:=m+1) (HB q) (by omega) fun m2 b hb=>FineA.le (FineA.node (h1.snoc hb) (by simp)) (by omega)
   ·exact bG.bad
  ·exact bG.bad
 ·exact bG.bad
theorem oV{F:Nat→bR aC}(HF:∀q,bG FineA q (F q)):∀(g p:Nat) (acc:List aC) (m0 p0:Nat),FineL m0 acc→p0+m0≤p→bG FineL p0 (eM F ts g p acc)
 |0,p,acc,_,_,_,_=>bG.err
 |g+1,p,acc,m0,p0,h0,hp=>by
  rw[eM];split
  ·exact bG.of_ok hp h0
  ·cases hx:F p with
   |error l=>exact bG.err
   |ok sq=>
    obtain⟨s,q⟩:=sq;obtain⟨m,h1,h2⟩:=HF p s q hx;exact oV HF g q _ (m0+m) p0 (h0.snoc h2) (by omega)
end
theorem PJ(ts:List aV)(T:bP ts)(h0:0<ts.length)(ks:List aC)(q:Nat)(h:lB ts=.ok (ks,q)):FineL ts.length ks:=by
 obtain⟨m,h1,h2⟩:=oV (fun q=>PK (fun q'=>vW (fun q=>zT ts _ q) _ q') q) (ts.length+1) 0 [] 0 0 FineL.nil (by omega) ks q h
 have:=(T.progLoop (fun q hq=>T.func (fun q' hq'=>T.block (fun q hq=>T.exprs q hq) _ q' hq' (by omega)) hq) _ 0 [] h0 (by omega)).ok ks q h
 exact h2.le (by omega)
theorem kC{l:List UInt8}{ks:List aC}(h:cR l=.ok ks):FineL 2001 ks:=by
 unfold cR at h;split at h
 ·cases h
 rename_i hl;split at h
 ·cases h
 split at h
 ·cases h
 rename_i ts ht;obtain⟨h1,h2⟩:=qV ht;split at h
 ·cases h
 rename_i q hp;cases h;exact(PJ ts h1.ok h1.some_ _ _ hp).le (by omega)
def eS:Nat→aC→Prop
 |0,_=>False
 |d+1,n=>∀k∈n.kids,eS d k
theorem mW:∀(m:Nat) (a:aC),FineA m a→eS m a
 |0,a,h=>by
  have:=(h 1).1;simp only[bS] at this;omega
 |m+1,a,h=>fun k hk=>mW m k fun d=>by
  have h1:=(h (d+1)).1;have h2:=(h (d+1)).2.2 k hk;refine⟨?_,h2⟩
  have:bS d k≤(a.kids.map (bS d)).sum:=by
   have:∀l:List aC,k∈l→bS d k≤(l.map (bS d)).sum:=by
    intro l;induction l with
    |nil=>intro h;cases h
    |cons x l ih=>
     intro h;simp only[List.map_cons,List.sum_cons];rcases List.mem_cons.1 h with rfl|h
     ·omega
     ·have:=ih h;omega
   exact this _ hk
  simp only[bS] at h1;omega
def eE(fs:List aC)(d:Nat)(s:aX)(k:aC):aX:=
 if k.op==[112,97,114,97,109] then { declaresL s k with seen:=(declaresL s k).seen++[k.text] } else aM fs false d k s
def fP(fs:List aC)(d:Nat)(s:aX)(n:aC)(first:Bool):aX:=
 n.kids.foldl (eE fs d) { (if fK n.text || !first then s.found n.line 6 else s) with seen:=[] }
def eP(fs:List aC)(d:Nat):List aC→List aC→aX→aX
 |_,[],s=>s
 |pre,n::rest,s=>eP fs d (pre++[n]) rest (fP fs d s n (dG pre n.text).isNone)
def jU(d:Nat)(ks:List aC):Nat × Nat:=
 match dG ks [109,97,105,110] with
 |none=>(5,0)
 |some m=>if 1<m.kids.length then (5,0) else ((eP ks d [] ks ⟨[],0,0⟩).kind,(eP ks d [] ks ⟨[],0,0⟩).line)
def dF(l:List UInt8):Nat × Nat:=
 match cR l with
 |.error f=>f
 |.ok ks=>jU 2001 ks
def nF(t:aV):Prop:=t.sort=112∨(t.sort=107∧iB.contains t.text=true)∨t.sort=110∨(t.sort=48∧(dA 0 t.text).isSome=true)∨t.sort=115∨t.sort=101
def CB(ts:List aV):Prop:=∀t∈ts,nF t
theorem CH(l:List UInt8)(line:Nat)(h:(bU l).ok=true):nF { sort:=(bU l).sort,text:=(bU l).text,line:=line }:=by
 cases l with
 |nil=>simp[bU] at h
 |cons c r=>
  rw[bU] at h ⊢
  split
  ·rename_i hd;rw[if_pos hd] at h;unfold gB at h ⊢
   split
   ·by_cases hk:iB.contains ((c::r).take (bI (dY (eV c)) (c::r)))=true
    ·rw[if_pos hk];exact Or.inr (Or.inl ⟨rfl,hk⟩)
    ·rw[if_neg hk];exact Or.inr (Or.inr (Or.inl rfl))
   ·rename_i hl;rw[if_neg hl] at h;exact Or.inr (Or.inr (Or.inr (Or.inl ⟨rfl,h⟩)))
  ·rename_i hd;rw[if_neg hd] at h;split
   ·exact Or.inr (Or.inr (Or.inr (Or.inr (Or.inl rfl))))
   ·rename_i h34;rw[if_neg h34] at h;unfold gA at h ⊢
    cases ho:cI.find? (fun o=>cJ (c::r) o) with
    |none=>rw[ho] at h;simp at h
    |some o=>exact Or.inl rfl
theorem PC(f:Nat):∀(pre l:List UInt8) (ts:List aV),eD f pre l=.ok ts→CB ts:=by
 induction f with
 |zero=>intro pre l ts h;cases h
 |succ f ih=>
  intro pre l ts h;by_cases hl:l.length=0
  ·rw[lG _ _ _ hl] at h;cases h;intro t ht;rw[List.mem_singleton.1 ht];exact Or.inr (Or.inr (Or.inr (Or.inr (Or.inr rfl))))
  ·cases hk:(bU l).ok
   ·rw[lH _ _ _ hl hk] at h;cases h
   ·rw[kV _ _ _ hl hk _ rfl] at h;cases hx:eD f (pre++l.take ((bU l).size+blankL l.length (l.drop (bU l).size))) (l.drop ((bU l).size+blankL l.length (l.drop (bU l).size))) with
    |error n=>rw[hx] at h;cases h
    |ok us=>
     rw[hx] at h;cases h;intro t ht;rcases List.mem_cons.1 ht with rfl|ht
     ·exact CH l _ hk
     ·exact ih _ _ us hx t ht
theorem KL{l:List UInt8}{ts:List aV}(h:fY l=.ok ts):CB ts:=PC _ _ _ _ h
theorem CB.tk{ts:List aV}(h:CB ts)(p:Nat)(hp:p<ts.length):nF (aO ts p):=by
 have:aO ts p=ts[p]:=by unfold aO;rw[List.getElem?_eq_getElem hp];rfl
 rw[this];exact h _ (List.getElem_mem hp)
structure aI where
 sort:Nat
 n:Int
 s:List UInt8
 l:List aI
theorem aI.ind{P:aI→Prop}(h:∀v,(∀x,x∈v.l→P x)→P v):∀v,P v
 |⟨a,b,c,l⟩=>h ⟨a,b,c,l⟩ fun x _=>aI.ind h x
def bB(n:Int):aI:=⟨0,n,[],[]⟩
def bL(b:Bool):aI:=⟨1,if b then 1 else 0,[],[]⟩
def bH(s:List UInt8):aI:=⟨2,0,s,[]⟩
def aU(l:List aI):aI:=⟨3,0,[],l⟩
def bK:aI:=⟨0,0,[],[]⟩
noncomputable def aI.fold{α:Type}(f:Nat→Int→List UInt8→List α→α)(v:aI):α:=
 aI.rec (motive_1:=fun _=>α) (motive_2:=fun _=>List α) (fun a n s _ c=>f a n s c) [] (fun _ _ h t=>h::t) v
theorem aI.fold_eq{α:Type}(f:Nat→Int→List UInt8→List α→α)(v:aI):v.fold f=f v.sort v.n v.s (v.l.map (aI.fold f)):=by
 obtain⟨a,n,s,l⟩:=v;refine congrArg (f a n s) ?_;induction l with
 |nil=>rfl
 |cons x l ih=>exact congrArg (aI.fold f x::·) ih
noncomputable def aJ(v:aI):Nat:=v.fold fun _ _ s c=>1+s.length+c.sum
theorem eN(v:aI):aJ v=1+v.s.length+(v.l.map aJ).sum:=aI.fold_eq _ v
def mE{α:Type}:List (α→Bool)→List α→Bool
 |[],[]=>true
 |f::fs,x::xs=>f x && mE fs xs
 |_,_=>false
noncomputable def cD(x:aI):aI→Bool:=x.fold fun a n s c y=>a==y.sort && (n==y.n && (s==y.s && mE c y.l))
theorem QA(x y:aI):cD x y=(x.sort==y.sort && (x.n==y.n && (x.s==y.s && mE (x.l.map cD) y.l))):=congrFun (aI.fold_eq _ x) y
theorem vZ:∀x y:aI,cD x y=true↔x=y:=by
 refine aI.ind fun x ih y=>?_
 have hE:∀(l:List aI),(∀v,v∈l→∀y,cD v y=true↔v=y)→∀m:List aI,mE (l.map cD) m=true↔l=m:=by
  intro l;induction l with
  |nil=>intro _ m;cases m<;>simp[mE]
  |cons a l ihl=>
   intro h m;cases m with
   |nil=>simp[mE]
   |cons b m=>simp[mE,h a (by simp) b,ihl (fun v hv=>h v (by simp[hv])) m]
 rw[QA];simp only[Bool.and_eq_true,beq_iff_eq,hE x.l ih y.l];constructor
 ·rintro⟨h1,h2,h3,h4⟩;cases x;cases y;simp_all
 ·rintro rfl;simp
def digitsF:Nat→Nat→List UInt8→List UInt8
 |0,_,t=>t
 |f+1,n,t=>if n<10 then UInt8.ofNat (48+n)::t else digitsF f (n/10) (UInt8.ofNat (48+n%10)::t)
def cA(n:Int):List UInt8:=(if n<0 then [45] else [])++digitsF 20 n.natAbs []
def eZ:List (List UInt8)→List UInt8
 |[]=>[]
 |[x]=>x
 |x::r=>x++[44,32]++eZ r
noncomputable def cB(v:aI):List UInt8:=
 v.fold fun a n s c=>if a=0 then cA n else if a=1 then (if n=1 then [116,114,117,101] else [102,97,108,115,101]) else if a=2 then [34]++s++[34] else [91]++eZ c++[93]
theorem jB(v:aI):cB v=if v.sort=0 then cA v.n else if v.sort=1 then (if v.n=1 then [116,114,117,101] else [102,97,108,115,101]) else if v.sort=2 then [34]++v.s++[34] else [91]++eZ (v.l.map cB)++[93]:=aI.fold_eq _ v
noncomputable def jC(v:aI):List UInt8:=if v.sort=2 then v.s else cB v
def kB(n:Int):Int:=(n+9223372036854775808)%18446744073709551616-9223372036854775808
noncomputable def iK(a b:aI):aI × Nat:=
 let v:=if a.sort=3 then aU (a.l++b.l) else bH (a.s++b.s)
 if 200<aJ v then (bK,6) else (v,0)
def iL(op:List UInt8)(x y:Int):aI × Nat:=
 if op=[43] then (bB (kB (x+y)),0)
 else if op=[45] then (bB (kB (x-y)),0)
 else if op=[42] then (bB (kB (x*y)),0)
 else if op=[60] then (bL (decide (x<y)),0)
 else if op=[60,61] then (bL (decide (x≤y)),0)
 else if y=0 then (bK,3)
 else if op=[47] then (bB (kB (x.tdiv y)),0)
 else (bB (kB (x.tmod y)),0)
def fV:List UInt8→List UInt8→Bool
 |[],[]=>false
 |[],_::_=>true
 |_::_,[]=>false
 |a::l,b::m=>if a.toNat<b.toNat then true else if b.toNat<a.toNat then false else fV l m
noncomputable def eG(op:List UInt8)(a b:aI):aI × Nat:=
 if op=[61,61] then (bL (cD a b),0)
 else if op=[33,61] then (bL (!cD a b),0)
 else if a.sort≠b.sort∨a.sort=1 then (bK,2)
 else if a.sort=0 then iL op a.n b.n
 else if op=[43] then iK a b
 else if a.sort=2∧op=[60] then (bL (fV a.s b.s),0)
 else if a.sort=2∧op=[60,61] then (bL (!fV b.s a.s),0)
 else (bK,2)
def fB(op:List UInt8)(a:aI):aI × Nat:=
 if op=[45,120]∧a.sort=0 then (bB (kB (-a.n)),0)
 else if op=[33,120]∧a.sort=1 then (bL (decide (a.n=0)),0)
 else (bK,2)
def gQ:Nat→List UInt8→List (List UInt8)
 |0,_=>[]
 |f+1,l=>if l=[] then [] else if bD l=0 then [] else l.take (bD l)::gQ f (l.drop (bD l))
def dO(l:List UInt8):List (List UInt8):=gQ l.length l
def dT(a:aI):aI × Nat:=
 if a.sort=3 then (bB a.l.length,0) else if a.sort=2 then (bB (dO a.s).length,0) else (bK,2)
def iP(a:aI):List aI:=if a.sort=2 then (dO a.s).map bH else a.l
def cV(a b:aI):aI × Nat:=
 if a.sort<2∨b.sort≠0 then (bK,2)
 else if b.n<0∨((iP a).length:Int)≤b.n then (bK,4)
 else ((iP a).getD b.n.toNat bK,0)
def cF:List aI→aI→aI→aI × Nat
 |[],_,v=>(v,0)
 |i::at',old,v=>
  if old.sort≠3∨i.sort≠0 then (bK,2)
  else if i.n<0∨(old.l.length:Int)≤i.n then (bK,4)
  else if (cF at' (old.l.getD i.n.toNat bK) v).2≠0 then (bK,(cF at' (old.l.getD i.n.toNat bK) v).2)
  else (aU (old.l.set i.n.toNat (cF at' (old.l.getD i.n.toNat bK) v).1),0)
theorem jJ{l:List UInt8}:bD l≤l.length:=by
 unfold bD;cases l with
 |nil=>simp
 |cons b r=>
  simp only[List.getElem?_cons_zero]
  have q:∀i lo hi,cY (b::r) i lo hi=true→i<(b::r).length:=by
   intro i lo hi h;unfold cY at h;rcases Nat.lt_or_ge i (b::r).length with h1|h1
   ·exact h1
   ·rw[List.getElem?_eq_none h1] at h;simp at h
  split
  ·simp
  split
  ·split
   ·have:=q 1 _ _ (by assumption);omega
   ·simp
  split
  ·generalize (if b.toNat=224 then 160 else 128)=x1
   generalize (if b.toNat=237 then 159 else 191)=x2
   split
   ·rename_i h;rw[Bool.and_eq_true] at h;have:=q 2 _ _ h.2;omega
   ·simp
  split
  ·generalize (if b.toNat=240 then 144 else 128)=x1
   generalize (if b.toNat=244 then 143 else 191)=x2
   split
   ·rename_i h;rw[Bool.and_eq_true] at h;have:=q 3 _ _ h.2;omega
   ·simp
  ·simp
theorem pX:∀(f:Nat) (l:List UInt8),l.length≤f→gQ f l=dO l:=by
 have h:∀(n f g:Nat) (l:List UInt8),l.length≤n→l.length≤f→l.length≤g→gQ f l=gQ g l:=by
  intro n;induction n with
  |zero=>
   intro f g l h0 hf hg;have:l=[]:=List.length_eq_zero_iff.1 (by omega)
   subst this;cases f<;>cases g<;>simp[gQ]
  |succ n ih=>
   intro f g l h0 hf hg;by_cases hl:l=[]
   ·subst hl;cases f<;>cases g<;>simp[gQ]
   ·have hp:0<l.length:=List.length_pos_iff.2 hl;cases f with
    |zero=>omega
    |succ f=>
     cases g with
     |zero=>omega
     |succ g=>
      rw[gQ,gQ,if_neg hl,if_neg hl];by_cases hc:bD l=0
      ·rw[if_pos hc,if_pos hc]
      ·rw[if_neg hc,if_neg hc,ih f g (l.drop (bD l)) (by rw[List.length_drop];omega) (by rw[List.length_drop];omega) (by rw[List.length_drop];omega)]
 exact fun f l hl=>h l.length f l.length l (Nat.le_refl _) hl (Nat.le_refl _)
theorem gP{l:List UInt8}(hl:l≠[])(hc:bD l≠0):dO l=l.take (bD l)::dO (l.drop (bD l)):=by
 have hp:0<l.length:=List.length_pos_iff.2 hl;obtain⟨n,hn⟩:∃n,l.length=n+1:=⟨l.length-1,by omega⟩
 rw[←pX (n+1) l (by omega),gQ,if_neg hl,if_neg hc,pX n _ (by rw[List.length_drop];omega)]
theorem dL{l:List UInt8}(h:l=[]∨bD l=0):dO l=[]:=by
 unfold dO;cases hn:l.length with
 |zero=>rfl
 |succ n=>
  rw[gQ];rcases h with h|h
  ·rw[if_pos h]
  ·rw[if_pos h];split<;>rfl
theorem rK(l:List UInt8):(dO l).length≤l.length:=by
 have h:∀(n:Nat) (l:List UInt8),l.length≤n→(dO l).length≤l.length:=by
  intro n;induction n with
  |zero=>
   intro l h0;rw[dL (Or.inl (List.length_eq_zero_iff.1 (by omega)))];simp
  |succ n ih=>
   intro l h0;by_cases hl:l=[]
   ·rw[dL (Or.inl hl)];simp
   by_cases hc:bD l=0
   ·rw[dL (Or.inr hc)];simp
   have hp:0<l.length:=List.length_pos_iff.2 hl;rw[gP hl hc,List.length_cons];have:=ih (l.drop (bD l)) (by rw[List.length_drop];omega)
   rw[List.length_drop] at this;have:= @jJ l;omega
 exact h l.length l (Nat.le_refl _)
inductive aH where
 |begin (line:Nat) (seen:List (List UInt8))
 |push (v:aI)
 |load (slot:Nat)
 |declare (slot:Nat)
 |assign (slot n:Nat)
 |jump (to_:Nat)
 |skip (to_:Nat)
 |shortcut (when:Bool) (to_:Nat)
 |truth
 |unary (op:List UInt8)
 |binary (op:List UInt8)
 |index
 |list (n:Nat)
 |length
 |read
 |call (f:Nat) (n:Nat)
 |give
 |drop
 |print
def aH.isBegin:aH→Bool
 |.begin _ _=>true
 |_=>false
structure eJ where
 name:List UInt8
 code:List aH
structure aK where
 fn:eJ
 next:Nat
 line:Nat
 seen:List (List UInt8)
 vars:List aI
 ops:List aI
structure cM where
 frames:List aK
 tape:List Int
 out:List (List UInt8)
def aK.push(f:aK)(v:aI):aK:={ f with ops:=f.ops++[v] }
def aK.last(f:aK):aI:=f.ops.getLast?.getD bK
def aK.pop(f:aK):aK:={ f with ops:=f.ops.dropLast }
def aK.many(f:aK)(n:Nat):List aI:=f.ops.drop (f.ops.length-n)
def aK.popMany(f:aK)(n:Nat):aK:={ f with ops:=f.ops.take (f.ops.length-n) }
noncomputable def gO(r:aI × Nat):aI × Nat:=if r.2=0 then if 200<aJ r.1 then (bK,6) else r else r
noncomputable def mI(whole:aI)(at_:List aI)(to_:aI):aI × Nat:=gO (cF at_ whole to_)
noncomputable def aN(i:aH)(f:aK):aK × Nat:=
 match i with
 |.begin l s=>({ f with line:=l,seen:=s },0)
 |.push v=>(f.push v,0)
 |.load k=>(f.push (f.vars[k]?.getD bK),0)
 |.declare k=>({ f.pop with vars:=f.vars.take k++[f.last] },0)
 |.assign k n=>
  let g:=f.pop.popMany n
  let r:=mI (f.vars[k]?.getD bK) (f.pop.many n) f.last
  if r.2=0 then ({ g with vars:=f.vars.set k r.1 },0) else (g,r.2)
 |.jump t=>({ f with next:=t },0)
 |.skip t=>if f.last.sort=1 then (if f.last.n=1 then f.pop else { f.pop with next:=t },0) else (f.pop,2)
 |.shortcut w t=>if f.last.sort=1 then (if decide (f.last.n=1)=w then { f.pop.push f.last with next:=t } else f.pop,0) else (f.pop,2)
 |.truth=>if f.last.sort=1 then (f.pop.push f.last,0) else (f.pop,2)
 |.unary op=>let r:=fB (op++[120]) f.last;if r.2=0 then (f.pop.push r.1,0) else (f.pop,r.2)
 |.binary op=>let r:=eG op f.pop.last f.last;if r.2=0 then (f.pop.pop.push r.1,0) else (f.pop.pop,r.2)
 |.index=>let r:=cV f.pop.last f.last;if r.2=0 then (f.pop.pop.push r.1,0) else (f.pop.pop,r.2)
 |.list n=>let r:=gO (aU (f.many n),0);if r.2=0 then ((f.popMany n).push r.1,0) else (f.popMany n,r.2)
 |.length=>let r:=dT f.last;if r.2=0 then (f.pop.push r.1,0) else (f.pop,r.2)
 |.drop=>(f.pop,0)
 |_=>(f,0)
noncomputable def cC(tab:List eJ)(i:aH)(below:List aK)(f:aK)(tape:List Int)(out:List (List UInt8)):cM × Nat:=
 match i with
 |.read=>
  match tape with
  |[]=>(⟨below++[f],tape,out⟩,7)
  |t::r=>(⟨below++[f.push (bB t)],r,out⟩,0)
 |.call k n=>
  if below.length+1=16 then (⟨below++[f.popMany n],tape,out⟩,5)
  else (⟨below++[f.popMany n,⟨tab[k]?.getD ⟨[],[]⟩,0,0,[],f.many n,[]⟩],tape,out⟩,0)
 |.give=>(⟨below.dropLast++(below.getLast?.map fun g=>g.push f.last).toList,tape,out⟩,0)
 |.print=>if out.length=50 then (⟨below++[f.pop],tape,out⟩,8) else (⟨below++[f.pop],tape,out++[jC f.last]⟩,0)
 |i=>let r:=aN i f;(⟨below++[r.1],tape,out⟩,r.2)
def aK.fetch(f:aK):Option (aH × aK):=f.fn.code[f.next]?.map fun i=>(i,{ f with next:=f.next+1 })
noncomputable def dN(tab:List eJ):Nat→cM→Option (cM × Nat)
 |0,_=>none
 |k+1,m=>
  match m.frames.getLast? with
  |none=>some (m,1)
  |some f=>
   match f.fetch with
   |none=>none
   |some (i,g)=>
    let r:=cC tab i m.frames.dropLast g m.tape m.out
    if r.2≠0 then some r
    else if i.isBegin then some r
    else dN tab k r.1
structure bW where
 time:Nat
 m:cM
 stop:Nat
def bQ(time stop:Nat):Nat:=if stop=0∧time=500 then 9 else stop
def dS:List (List UInt8)→List UInt8→Nat
 |[],_=>0
 |x::l,name=>if x=name then l.length else dS l name
def cU(fs:List aC)(name:List UInt8):Nat:=fs.findIdx fun f=>f.text==name
def bO(c:aC→Nat→List aH):List aC→Nat→List aH
 |[],_=>[]
 |a::l,p=>c a p++bO c l (p+(c a p).length)
def aG(fs:List aC)(seen:List (List UInt8)):Nat→aC→Nat→List aH
 |0,_,_=>[]
 |d+1,a,p=>
  let kids:=bO (aG fs seen d) a.kids p
  if a.op==[48] then [.push (bB (((dA 0 a.text).getD 0:Nat):Int))]
  else if a.op==[115] then [.push (bH a.text)]
  else if a.op==[98,111,111,108] then [.push (bL (a.text==[116,114,117,101]))]
  else if a.op==[110,97,109,101] then [.load (dS seen a.text)]
  else if a.op==[108,105,115,116] then kids++[.list a.kids.length]
  else if a.op==[105,110,100,101,120] then kids++[.index]
  else if a.op==[45,120] then kids++[.unary [45]]
  else if a.op==[33,120] then kids++[.unary [33]]
  else if a.op==[99,97,108,108] then
   kids++[if a.text==[108,101,110] then .length else if a.text==[114,101,97,100] then .read else .call (cU fs a.text) a.kids.length]
  else if a.op==[38,38] || a.op==[124,124] then
   match a.kids with
   |[l,r]=>
    let cl:=aG fs seen d l p
    let cr:=aG fs seen d r (p+cl.length+1)
    cl++[.shortcut (a.op==[124,124]) (p+cl.length+1+cr.length+1)]++cr++[.truth]
   |_=>[]
  else kids++[.binary a.op]
def bF(c:List (List UInt8)→aC→Nat→List aH × List (List UInt8)):List (List UInt8)→List aC→Nat→List aH
 |_,[],_=>[]
 |seen,a::l,p=>(c seen a p).1++bF c (c seen a p).2 l (p+(c seen a p).1.length)
def bA(fs:List aC):Nat→List (List UInt8)→aC→Nat→List aH × List (List UInt8)
 |0,seen,_,_=>([],seen)
 |d+1,seen,a,p=>
  let start:=aH.begin a.line seen
  let blk:=fun (b:aC) q=>bF (bA fs d) seen b.kids q
  if a.op==[118,97,114] then
   match a.kids with
   |[t,v]=>(start::aG fs seen d v (p+1)++[.declare seen.length],t.text::seen)
   |_=>([],seen)
  else if a.op==[115,101,116] then
   (start::bO (aG fs seen d) a.kids (p+1)++[.assign (dS seen a.text) (a.kids.length-1)],seen)
  else if a.op==[105,102] then
   match a.kids with
   |c::t::e=>
    let cc:=aG fs seen d c (p+1)
    let ct:=blk t (p+1+cc.length+1)
    let q:=p+1+cc.length+1+ct.length+1
    let ce:=match e with|[x]=>blk x q|_=>[]
    (start::cc++[.skip q]++ct++[.jump (q+ce.length)]++ce,seen)
   |_=>([],seen)
  else if a.op==[119,104,105,108,101] then
   match a.kids with
   |[c,b]=>
    let cc:=aG fs seen d c (p+1)
    let cb:=blk b (p+1+cc.length+1)
    (start::cc++[.skip (p+1+cc.length+1+cb.length+1)]++cb++[.jump p],seen)
   |_=>([],seen)
  else if a.op==[114,101,116,117,114,110] then
   match a.kids with
   |[v]=>(start::aG fs seen d v (p+1)++[.give],seen)
   |_=>([start,.push (bB 0),.give],seen)
  else if a.op==[112,114,105,110,116] then
   match a.kids with
   |[v]=>(start::aG fs seen d v (p+1)++[.print],seen)
   |_=>([],seen)
  else
   match a.kids with
   |[c]=>(start::aG fs seen d c (p+1)++[.drop],seen)
   |_=>([],seen)
def fD(fs:List aC)(d:Nat)(f:aC):eJ:=
 let seen:=(f.kids.dropLast.map (·.text)).reverse
 ⟨f.text,bF (bA fs d) seen ((f.kids.getLast?.map (·.kids)).getD []) 0++[.push (bB 0),.give]⟩
def dK(fs:List aC)(d:Nat):List eJ:=fs.map (fD fs d)
def gG(fs:List aC)(d:Nat)(tape:List Int):cM:=⟨[⟨(dK fs d)[cU fs [109,97,105,110]]?.getD ⟨[],[]⟩,0,0,[],[],[]⟩],tape,[]⟩
structure dU where
 h:Nat
 v:Nat
 e:Option Nat
 b:Bool
def eB(D:Nat→Prop)(T:Nat→dU)(q h v:Nat)(e:Option Nat):Prop:=D q∧(T q).h=h∧(T q).v≤v∧((T q).e=none∨(T q).e=e)
def hJ(ar:Nat→Option Nat)(D:Nat→Prop)(T:Nat→dU)(p:Nat)(i:aH):Prop:=
 (T p).b=i.isBegin∧(T p).h≤p∧
 match i with
 |.begin _ s=>s.length≤(T p).v∧eB D T (p+1) (T p).h (T p).v (some s.length)
 |.push _=>eB D T (p+1) ((T p).h+1) (T p).v (T p).e
 |.load k=>k<(T p).v∧eB D T (p+1) ((T p).h+1) (T p).v (T p).e
 |.declare k=>1≤(T p).h∧k≤(T p).v∧k≤90000∧(T p).e=some k∧eB D T (p+1) ((T p).h-1) (k+1) (T p).e
 |.assign k n=>n+1≤(T p).h∧k<(T p).v∧eB D T (p+1) ((T p).h-(n+1)) (T p).v (T p).e
 |.jump q=>(p<q∨(T q).b=true)∧eB D T q (T p).h (T p).v (T p).e
 |.skip q=>1≤(T p).h∧p<q∧eB D T q ((T p).h-1) (T p).v (T p).e∧eB D T (p+1) ((T p).h-1) (T p).v (T p).e
 |.shortcut _ q=>1≤(T p).h∧p<q∧eB D T q (T p).h (T p).v (T p).e∧eB D T (p+1) ((T p).h-1) (T p).v (T p).e
 |.truth=>1≤(T p).h∧eB D T (p+1) (T p).h (T p).v (T p).e
 |.unary _=>1≤(T p).h∧eB D T (p+1) (T p).h (T p).v (T p).e
 |.length=>1≤(T p).h∧eB D T (p+1) (T p).h (T p).v (T p).e
 |.binary _=>2≤(T p).h∧eB D T (p+1) ((T p).h-1) (T p).v (T p).e
 |.index=>2≤(T p).h∧eB D T (p+1) ((T p).h-1) (T p).v (T p).e
 |.list n=>n≤(T p).h∧eB D T (p+1) ((T p).h-n+1) (T p).v (T p).e
 |.read=>eB D T (p+1) ((T p).h+1) (T p).v (T p).e
 |.call k n=>n≤(T p).h∧ar k=some n∧eB D T (p+1) ((T p).h-n+1) (T p).v (T p).e
 |.give=>1≤(T p).h
 |.drop=>1≤(T p).h∧eB D T (p+1) ((T p).h-1) (T p).v (T p).e
 |.print=>1≤(T p).h∧eB D T (p+1) ((T p).h-1) (T p).v (T p).e
def KB(L:Nat→dU→Prop)(lo hi:Nat)(q:Nat):Prop:=(lo≤q∧q≤hi)∨∃y,L q y
def bE(ar:Nat→Option Nat)(L:Nat→dU→Prop)(p:Nat)(c:List aH)(h v:Nat)(e:Option Nat)(h' v':Nat)(e':Option Nat):Prop:=
 ∃T:Nat→dU,(∀q y,L q y→T q=y)∧(T p).h=h∧(T p).v≤v∧((T p).e=none∨(T p).e=e)∧
  (T (p+c.length)).h=h'∧(T (p+c.length)).v=v'∧(T (p+c.length)).e=e'∧
  ∀j i,c[j]?=some i→hJ ar (KB L p (p+c.length)) T (p+j) i
theorem eB.same{D D':Nat→Prop}{T T':Nat→dU}{q h v:Nat}{e:Option Nat}(f:eB D T q h v e)(hd:D q→D' q∧(T' q).h=(T q).h∧(T' q).v≤(T q).v∧((T' q).e=none∨(T' q).e=(T q).e)):eB D' T' q h v e:=by
 obtain⟨f1,f2,f3,f4⟩:=f;obtain⟨d1,d2,d3,d4⟩:=hd f1;refine⟨d1,by rw[d2,f2],by omega,?_⟩
 rcases d4 with d4|d4
 ·exact Or.inl d4
 ·rw[d4];exact f4
theorem hJ.same{ar:Nat→Option Nat}{D D':Nat→Prop}{T T':Nat→dU}{p:Nat}{i:aH}(f:hJ ar D T p i)(hp:T' p=T p)
 (hd:∀q,D q→D' q∧(T' q).h=(T q).h∧(T' q).v≤(T q).v∧((T' q).e=none∨(T' q).e=(T q).e)) (hb:∀q,D q→q≤p→(T q).b=true→(T' q).b=true):hJ ar D' T' p i:=by
 obtain⟨f1,f2,f3⟩:=f;refine⟨by rw[hp];exact f1,by rw[hp];exact f2,?_⟩
 cases i<;>simp only at f3 ⊢<;>try rw[hp]
 case jump q=>
  refine⟨?_,f3.2.same (hd _)⟩;rcases f3.1 with h|h
  ·exact Or.inl h
  ·rcases Nat.lt_or_ge p q with h'|h'
   ·exact Or.inl h'
   ·exact Or.inr (hb q f3.2.1 h' h)
 all_goals first
  |exact f3
  |exact f3.same (hd _)
  |exact⟨f3.1,f3.2.same (hd _)⟩
  |exact⟨f3.1,f3.2.1,f3.2.2.same (hd _)⟩
  |exact⟨f3.1,f3.2.1,f3.2.2.1.same (hd _),f3.2.2.2.same (hd _)⟩
  |exact⟨f3.1,f3.2.1,f3.2.2.1,f3.2.2.2.1,f3.2.2.2.2.same (hd _)⟩
theorem bE.append{ar:Nat→Option Nat}{L:Nat→dU→Prop}{p:Nat}{c c':List aH}{h v h1 v1 h2 v2:Nat}{e e1 e2:Option Nat}(a:bE ar L p c h v e h1 v1 e1)(b:bE ar L (p+c.length) c' h1 v1 e1 h2 v2 e2)
 (hL:∀q y,L q y→q≤p∨p+c.length+c'.length≤q) (hc:c≠[]):bE ar L p (c++c') h v e h2 v2 e2:=by
 obtain⟨T,t1,t2,t3,t4,t5,t6,t7,t8⟩:=a;obtain⟨U,u1,u2,u3,u4,u5,u6,u7,u8⟩:=b;have hc0:0<c.length:=List.length_pos_iff.2 hc;have hlen:(c++c').length=c.length+c'.length:=List.length_append;refine⟨fun q=>if q<p+c.length then T q else U q,fun q y hq=>?_,?_,?_,?_,?_,?_,?_,fun j i hj=>?_⟩
 ·rcases hL q y hq with h|h
  ·simp only[if_pos (show q<p+c.length by omega)];exact t1 q y hq
  ·simp only[if_neg (show ¬q<p+c.length by omega)];exact u1 q y hq
 ·simp only[if_pos (show p<p+c.length by omega)];exact t2
 ·simp only[if_pos (show p<p+c.length by omega)];exact t3
 ·simp only[if_pos (show p<p+c.length by omega)];exact t4
 ·simp only[if_neg (show ¬p+(c++c').length<p+c.length by omega)];rw[hlen,←Nat.add_assoc];exact u5
 ·simp only[if_neg (show ¬p+(c++c').length<p+c.length by omega)];rw[hlen,←Nat.add_assoc];exact u6
 ·simp only[if_neg (show ¬p+(c++c').length<p+c.length by omega)];rw[hlen,←Nat.add_assoc];exact u7
 ·rcases Nat.lt_or_ge j c.length with hj'|hj'
  ·rw[List.getElem?_append_left hj'] at hj;refine(t8 j i hj).same (by simp only[if_pos (show p+j<p+c.length by omega)]) (fun q hq=>?_) (fun q hq hqp hb=>?_)
   ·rcases Nat.lt_or_ge q (p+c.length) with h|h
    ·rw[if_pos h];exact⟨hq.imp (fun hq=>⟨hq.1,by omega⟩) id,rfl,Nat.le_refl _,Or.inr rfl⟩
    ·rw[if_neg (show ¬q<p+c.length by omega)]
     rcases Nat.eq_or_lt_of_le h with h|h
     ·subst h;exact⟨Or.inl ⟨by omega,by omega⟩,by rw[u2,t5],by rw[t6];exact u3,by rw[t7];exact u4⟩
     ·rcases hq with hq|⟨y,hy⟩
      ·omega
      ·rw[t1 q y hy,u1 q y hy];exact⟨Or.inr ⟨y,hy⟩,rfl,Nat.le_refl _,Or.inr rfl⟩
   ·simp only[if_pos (show q<p+c.length by omega)];exact hb
  ·rw[List.getElem?_append_right hj'] at hj;have hu:=u8 (j-c.length) i hj;rw[show p+c.length+(j-c.length)=p+j by omega] at hu
   have hlt:j-c.length<c'.length:=(List.getElem?_eq_some_iff.1 hj).1;refine hu.same (by simp only[if_neg (show ¬p+j<p+c.length by omega)]) (fun q hq=>?_) (fun q hq hqp hb=>?_)
   ·rcases hq with hq|⟨y,hy⟩
    ·rw[if_neg (show ¬q<p+c.length by omega)]
     exact⟨Or.inl ⟨by omega,by omega⟩,rfl,Nat.le_refl _,Or.inr rfl⟩
    ·refine⟨Or.inr ⟨y,hy⟩,?_⟩;split
     ·rw[t1 q y hy,u1 q y hy];exact⟨rfl,Nat.le_refl _,Or.inr rfl⟩
     ·exact⟨rfl,Nat.le_refl _,Or.inr rfl⟩
   ·rcases hq with hq|⟨y,hy⟩
    ·simp only[if_neg (show ¬q<p+c.length by omega)];exact hb
    ·split
     ·rw[t1 q y hy,←u1 q y hy];exact hb
     ·exact hb
theorem bE.nil(ar:Nat→Option Nat)(p h v:Nat)(e:Option Nat)(L:Nat→dU→Prop)(hL:∀q y,L q y→q=p→y.h=h∧y.v=v∧y.e=e)(hu:∀q y z,L q y→L q z→y=z):bE ar L p [] h v e h v e:=by
 classical
 refine⟨fun q=>if hq:∃y,L q y then hq.choose else ⟨h,v,e,false⟩,fun q y hy=>?_,?_⟩
 ·have hex:∃y,L q y:=⟨y,hy⟩;simp only[dif_pos hex];exact hu q _ _ hex.choose_spec hy
 ·simp only[List.length_nil,Nat.add_zero];split
  ·rename_i hex;obtain⟨h1,h2,h3⟩:=hL p _ hex.choose_spec rfl;exact⟨h1,by omega,Or.inr h3,h1,h2,h3,fun j i hj=>by simp at hj⟩
  ·exact⟨rfl,Nat.le_refl _,Or.inr rfl,rfl,rfl,rfl,fun j i hj=>by simp at hj⟩
structure nM(ar:Nat→Option Nat)(c:List aH)(T:Nat→dU):Prop where
 ins:∀j i,c[j]?=some i→hJ ar (fun q=>q<c.length) T j i
 len:c.length≤80000
def gY(c:List aH):Prop:=(∃l s r,c=.begin l s::r)∨∃v,c=[.push v,.give]
structure cE(ar:Nat→Option Nat)(f:aK)(more:Nat):Prop where
 code:∃T,nM ar f.fn.code T∧(T f.next).h=f.ops.length+more∧(T f.next).v≤f.vars.length∧((T f.next).e=none∨(T f.next).e=some f.seen.length)
 next:f.next<f.fn.code.length
 seen:f.seen.length≤f.vars.length
 vars:f.vars.length≤90001
structure jF(ar:Nat→Option Nat)(tab:List eJ):Prop where
 fn:∀k n,ar k=some n→∃f T,tab[k]?=some f∧nM ar f.code T∧(T 0).h=0∧(T 0).v≤n∧(T 0).e=none∧
  gY f.code
structure mK(ar:Nat→Option Nat)(m:cM):Prop where
 low:∀f∈m.frames.dropLast,cE ar f 1
 top:∀f,m.frames.getLast?=some f→cE ar f 0
 deep:m.frames.length≤16
theorem eW{α:Type}(l:List α)(a:α):(l++[a]).getLast?=some a:=by simp
theorem fQ{α:Type}(l:List α)(a:α):(l++[a]).dropLast=l:=by simp
theorem mK.snoc{ar:Nat→Option Nat}{below:List aK}{f:aK}{t:List Int}{o:List (List UInt8)}(h1:∀g∈below,cE ar g 1)(h2:cE ar f 0)(h3:below.length+1≤16):mK ar ⟨below++[f],t,o⟩:=
 ⟨by simp only[fQ];exact h1,fun g hg=>by simp only[eW] at hg;cases hg;exact h2,by simp;omega⟩
theorem cE.flow{ar:Nat→Option Nat}{T:Nat→dU}{f g:aK}{h v:Nat}{e:Option Nat}(hc:nM ar f.fn.code T)(hf:eB (fun q=>q<f.fn.code.length) T g.next h v e)(h1:g.fn=f.fn)(h2:h=g.ops.length)(h3:v≤g.vars.length)(h4:e=none∨e=some g.seen.length)
 (h5:g.seen.length≤g.vars.length) (h6:g.vars.length≤90001):cE ar g 0:=by
 obtain⟨f1,f2,f3,f4⟩:=hf;refine⟨⟨T,by rw[h1];exact hc,by omega,by omega,?_⟩,by rw[h1];exact f1,h5,h6⟩
 rcases f4 with f4|f4
 ·exact Or.inl f4
 ·rw[f4];exact h4
theorem aK.pop_len(f:aK):f.pop.ops.length=f.ops.length-1:=by simp[aK.pop]
theorem aK.push_len(f:aK)(v:aI):(f.push v).ops.length=f.ops.length+1:=by simp[aK.push]
theorem aK.popMany_len(f:aK)(n:Nat):(f.popMany n).ops.length=f.ops.length-n:=by simp[aK.popMany]
theorem DL{ar:Nat→Option Nat}{T:Nat→dU}{f:aK}{i:aH}(hc:nM ar f.fn.code T)(hi:hJ ar (fun q=>q<f.fn.code.length) T f.next i)
 (hh:(T f.next).h=f.ops.length) (hv:(T f.next).v≤f.vars.length) (he:(T f.next).e=none∨(T f.next).e=some f.seen.length) (hs:f.seen.length≤f.vars.length) (hm:f.vars.length≤90001)
 (hn:i≠.give) (hr:i≠.read) (hp:i≠.print) (hk:∀k n,i≠.call k n) (r:aK × Nat) (hr':r=aN i { f with next:=f.next+1 }):
 r.1.seen.length≤r.1.vars.length∧(r.2=0→cE ar r.1 0):=by
 obtain⟨_,_,hi⟩:=hi;have hs0:=hs;cases i with
 |give=>exact absurd rfl hn
 |read=>exact absurd rfl hr
 |print=>exact absurd rfl hp
 |call k n=>exact absurd rfl (hk k n)
 |begin l s=>
  simp only[aN] at hr' hi;subst hr';exact⟨by simp only;omega,fun _=>cE.flow (f:=f) hc hi.2 rfl hh hv (Or.inr rfl) (by simp only;omega) hm⟩
 |push v=>
  simp only[aN] at hr' hi;subst hr';exact⟨hs,fun _=>cE.flow (f:=f) hc hi rfl (by rw[aK.push_len];simp only;omega) hv he hs hm⟩
 |load k=>
  simp only[aN] at hr' hi;subst hr';exact⟨hs,fun _=>cE.flow (f:=f) hc hi.2 rfl (by rw[aK.push_len];simp only;omega) hv he hs hm⟩
 |declare k=>
  simp only[aN] at hr' hi;subst hr';obtain⟨i1,i2,i3,i4,i5⟩:=hi;have hse:f.seen.length=k:=by rcases he with he|he<;>rw[i4] at he<;>cases he;rfl
  have hl:(f.vars.take k++[aK.last { f with next:=f.next+1 }]).length=k+1:=by simp;omega
  exact⟨by show f.seen.length≤(f.vars.take k++[_]).length;rw[hl];omega,fun _=>cE.flow (f:=f) hc i5 rfl (by show _=(aK.pop _).ops.length;rw[aK.pop_len];simp only;omega) (by show _≤(f.vars.take k++[_]).length;rw[hl];omega) he (by show f.seen.length≤(f.vars.take k++[_]).length;rw[hl];omega) (by show (f.vars.take k++[_]).length≤_;rw[hl];omega)⟩
 |assign k n=>
  simp only[aN] at hr' hi;split at hr'
  ·subst hr';refine⟨by simp only[List.length_set];exact hs,fun _=>cE.flow (f:=f) hc hi.2.2 rfl ?_ (by simp only[List.length_set];exact hv) he (by simp only[List.length_set];exact hs) (by simp only[List.length_set];exact hm)⟩
   show _=(aK.popMany _ n).ops.length
   rw[aK.popMany_len,aK.pop_len];simp only;omega
  ·subst hr';rename_i h0;exact⟨hs,fun h=>absurd h h0⟩
 |jump q=>
  simp only[aN] at hr' hi;subst hr';exact⟨hs,fun _=>cE.flow (f:=f) hc hi.2 rfl hh hv he hs hm⟩
 |skip q=>
  simp only[aN] at hr' hi;split at hr'
  ·subst hr';refine⟨?_,fun _=>?_⟩
   ·split<;>exact hs
   ·split
    ·exact cE.flow (f:=f) hc hi.2.2.2 rfl (by rw[aK.pop_len];simp only;omega) hv he hs hm
    ·exact cE.flow (f:=f) hc hi.2.2.1 rfl (by show _=(aK.pop _).ops.length;rw[aK.pop_len];simp only;omega) hv he hs hm
  ·subst hr';exact⟨hs,fun h=>absurd h (by simp)⟩
 |shortcut w q=>
  simp only[aN] at hr' hi;split at hr'
  ·subst hr';refine⟨?_,fun _=>?_⟩
   ·split<;>exact hs
   ·split
    ·exact cE.flow (f:=f) hc hi.2.2.1 rfl (by show _=(aK.push (aK.pop _) _).ops.length;rw[aK.push_len,aK.pop_len];simp only;omega) hv he hs hm
    ·exact cE.flow (f:=f) hc hi.2.2.2 rfl (by rw[aK.pop_len];simp only;omega) hv he hs hm
  ·subst hr';exact⟨hs,fun h=>absurd h (by simp)⟩
 |truth=>
  simp only[aN] at hr' hi;split at hr'
  ·subst hr';exact⟨hs,fun _=>cE.flow (f:=f) hc hi.2 rfl (by rw[aK.push_len,aK.pop_len];simp only;omega) hv he hs hm⟩
  ·subst hr';exact⟨hs,fun h=>absurd h (by simp)⟩
 |unary op=>
  simp only[aN] at hr' hi;split at hr'
  ·subst hr';exact⟨hs,fun _=>cE.flow (f:=f) hc hi.2 rfl (by rw[aK.push_len,aK.pop_len];simp only;omega) hv he hs hm⟩
  ·subst hr';rename_i h0;exact⟨hs,fun h=>absurd h h0⟩
 |length=>
  simp only[aN] at hr' hi;split at hr'
  ·subst hr';exact⟨hs,fun _=>cE.flow (f:=f) hc hi.2 rfl (by rw[aK.push_len,aK.pop_len];simp only;omega) hv he hs hm⟩
  ·subst hr';rename_i h0;exact⟨hs,fun h=>absurd h h0⟩
 |binary op=>
  simp only[aN] at hr' hi;split at hr'
  ·subst hr';exact⟨hs,fun _=>cE.flow (f:=f) hc hi.2 rfl (by rw[aK.push_len,aK.pop_len,aK.pop_len];simp only;omega) hv he hs hm⟩
  ·subst hr';rename_i h0;exact⟨hs,fun h=>absurd h h0⟩
 |index=>
  simp only[aN] at hr' hi;split at hr'
  ·subst hr';exact⟨hs,fun _=>cE.flow (f:=f) hc hi.2 rfl (by rw[aK.push_len,aK.pop_len,aK.pop_len];simp only;omega) hv he hs hm⟩
  ·subst hr';rename_i h0;exact⟨hs,fun h=>absurd h h0⟩
 |list n=>
  simp only[aN] at hr' hi;split at hr'
  ·subst hr';exact⟨hs,fun _=>cE.flow (f:=f) hc hi.2 rfl (by rw[aK.push_len,aK.popMany_len];simp only;omega) hv he hs hm⟩
  ·subst hr';rename_i h0;exact⟨hs,fun h=>absurd h h0⟩
 |drop=>
  simp only[aN] at hr' hi;subst hr';exact⟨hs,fun _=>cE.flow (f:=f) hc hi.2 rfl (by rw[aK.pop_len];simp only;omega) hv he hs hm⟩
structure fC(ar:Nat→Option Nat)(m:cM):Prop where
 ok:mK ar m
 start:∀f∈m.frames,gY f.fn.code
theorem cE.pushed{ar:Nat→Option Nat}{f:aK}(h:cE ar f 1)(v:aI):cE ar (f.push v) 0:=by
 obtain⟨⟨T,h1,h2,h3,h4⟩,h5,h6,h7⟩:=h;exact⟨⟨T,h1,by show (T f.next).h=(f.ops++[v]).length+0;simp;omega,h3,h4⟩,h5,h6,h7⟩
theorem FT{tab:List eJ}{i:aH}{below:List aK}{f:aK}{t:List Int}{o:List (List UInt8)}(hn:i≠.give)(hr:i≠.read)(hp:i≠.print)(hk:∀k n,i≠.call k n):cC tab i below f t o=(⟨below++[(aN i f).1],t,o⟩,(aN i f).2):=by
 cases i<;>first|rfl|exact absurd rfl hn|exact absurd rfl hr|exact absurd rfl hp|exact absurd rfl (hk _ _)
theorem rC(i:aH)(f:aK):(aN i f).1.fn=f.fn:=by
 cases i<;>simp only[aN]<;>(repeat' split)<;>rfl
theorem vM{ar:Nat→Option Nat}{tab:List eJ}(ht:jF ar tab){below:List aK}{f:aK}{t:List Int}{o:List (List UInt8)}(h:fC ar ⟨below++[f],t,o⟩){i:aH}{g:aK}(hf:f.fetch=some (i,g)):
 (∀x∈(cC tab i below g t o).1.frames,x.seen.length≤x.vars.length)∧(cC tab i below g t o).1.frames.length≤16∧((cC tab i below g t o).2=0→fC ar (cC tab i below g t o).1):=by
 have hlow:∀x∈below,cE ar x 1:=by have:=h.ok.low;simpa only[fQ] using this
 have htop:cE ar f 0:=h.ok.top f (eW _ _);have hdeep:below.length+1≤16:=by have:=h.ok.deep;simpa using this
 have hst1:∀x∈below,gY x.fn.code:=fun x hx=>h.start x (by simp[hx])
 have hst2:gY f.fn.code:=h.start f (by simp)
 obtain⟨⟨T,hc,hh,hv,he⟩,hnx,hs,hm⟩:=htop
 obtain⟨rfl,hi⟩:g={ f with next:=f.next+1 }∧f.fn.code[f.next]?=some i:=by
  unfold aK.fetch at hf;cases hx:f.fn.code[f.next]? with
  |none=>rw[hx] at hf;cases hf
  |some j=>rw[hx] at hf;simp at hf;exact⟨hf.2.symm,by rw[hf.1]⟩
 have hio:=hc.ins _ _ hi;have hls:∀x∈below,x.seen.length≤x.vars.length:=fun x hx=>(hlow x hx).seen
 by_cases hn:i=.give
 ·subst hn;rcases List.eq_nil_or_concat below with rfl|⟨b,x,rfl⟩
  ·refine⟨by simp[cC],by simp[cC],fun _=>⟨⟨by simp[cC],by simp[cC],by simp[cC]⟩,by simp[cC]⟩⟩
  ·rw[List.concat_eq_append] at*;have e:cC tab .give (b++[x]) { f with next:=f.next+1 } t o=(⟨b++[x.push (aK.last { f with next:=f.next+1 })],t,o⟩,0):=by simp[cC]
   rw[e];refine⟨fun y hy=>?_,by simp at hdeep ⊢;omega,fun _=>⟨mK.snoc (fun y hy=>hlow y (by simp[hy])) ((hlow x (by simp)).pushed _) (by simp at hdeep;omega),fun y hy=>?_⟩⟩
   ·rcases List.mem_append.1 hy with hy|hy
    ·exact hls y (by simp[hy])
    ·rw[List.mem_singleton.1 hy];exact hls x (by simp)
   ·rcases List.mem_append.1 hy with hy|hy
    ·exact hst1 y (by simp[hy])
    ·rw[List.mem_singleton.1 hy];exact hst1 x (by simp)
 have hone:∀y:aK,y.seen.length≤y.vars.length→∀x∈below++[y],x.seen.length≤x.vars.length:=fun y hy x hx=>by
  rcases List.mem_append.1 hx with hx|hx
  ·exact hls x hx
  ·rw[List.mem_singleton.1 hx];exact hy
 have hall:∀y:aK,cE ar y 0→y.fn=f.fn→∀t o,fC ar ⟨below++[y],t,o⟩:=fun y hy hfn t o=>⟨mK.snoc hlow hy hdeep,fun x hx=>by
  rcases List.mem_append.1 hx with hx|hx
  ·exact hst1 x hx
  ·rw[List.mem_singleton.1 hx,hfn];exact hst2⟩
 by_cases hr:i=.read
 ·subst hr;cases t with
  |nil=>exact⟨hone _ hs,by simp[cC];omega,fun hz=>by simp[cC] at hz⟩
  |cons a r=>exact⟨hone _ hs,by simp[cC];omega,fun _=>hall (aK.push { f with next:=f.next+1 } (bB a)) (cE.flow (f:=f) hc hio.2.2 rfl (by rw[aK.push_len];simp only;omega) hv he hs hm) rfl _ _⟩
 by_cases hp:i=.print
 ·subst hp;simp only[cC];split
  ·exact⟨hone _ hs,by simp;omega,fun hz=>by simp at hz⟩
  ·exact⟨hone _ hs,by simp;omega,fun _=>hall (aK.pop { f with next:=f.next+1 }) (cE.flow (f:=f) hc hio.2.2.2 rfl (by rw[aK.pop_len];simp only;omega) hv he hs hm) rfl _ _⟩
 by_cases hk:∃k n,i=.call k n
 ·obtain⟨k,n,rfl⟩:=hk;simp only[cC];split
  ·exact⟨hone _ hs,by simp;omega,fun hz=>by simp at hz⟩
  ·rename_i hd;obtain⟨_,_,hio1,hio2,hio3⟩:=hio;obtain⟨c,U,c1,c2,c3,c4,c5,c6⟩:=ht.fn k n hio2;have hlen:(aK.many { f with next:=f.next+1 } n).length=n:=by simp[aK.many];omega
   rw[c1]
   have hnew:cE ar ⟨c,0,0,[],aK.many { f with next:=f.next+1 } n,[]⟩ 0:=by
    refine⟨⟨U,c2,by simp[c3],by simp only[hlen];exact c4,Or.inl c5⟩,?_,by simp,by simp only[hlen];have:=c2.len;have:=hc.len;have:=(hc.ins _ _ hi).2.1;omega⟩
    rcases c6 with ⟨l,s,r,e⟩|⟨v,e⟩<;>simp[e]
   have hold:cE ar (aK.popMany { f with next:=f.next+1 } n) 1:=by
    obtain⟨f1,f2,f3,f4⟩:=hio3;refine⟨⟨T,hc,?_,Nat.le_trans f3 hv,?_⟩,f1,hs,hm⟩
    ·rw[aK.popMany_len];show (T (f.next+1)).h=_;simp only;omega
    ·rcases f4 with f4|f4
     ·exact Or.inl f4
     ·show (T (f.next+1)).e=none∨(T (f.next+1)).e=_;rw[f4];exact he
   have e1:below++[aK.popMany { f with next:=f.next+1 } n,(⟨c,0,0,[],aK.many { f with next:=f.next+1 } n,[]⟩:aK)]=(below++[aK.popMany { f with next:=f.next+1 } n])++[(⟨c,0,0,[],aK.many { f with next:=f.next+1 } n,[]⟩:aK)]:=by simp
   simp only[Option.getD_some];rw[e1];refine⟨fun x hx=>?_,by simp;omega,fun _=>⟨mK.snoc (fun x hx=>?_) hnew (by simp;omega),fun x hx=>?_⟩⟩
   ·rcases List.mem_append.1 hx with hx|hx
    ·exact hone _ hold.seen x hx
    ·rw[List.mem_singleton.1 hx];exact hnew.seen
   ·rcases List.mem_append.1 hx with hx|hx
    ·exact hlow x hx
    ·rw[List.mem_singleton.1 hx];exact hold
   ·rcases List.mem_append.1 hx with hx|hx
    ·rcases List.mem_append.1 hx with hx|hx
     ·exact hst1 x hx
     ·rw[List.mem_singleton.1 hx];exact hst2
    ·rw[List.mem_singleton.1 hx];exact c6
 have hk':∀k n,i≠.call k n:=fun k n e=>hk ⟨k,n,e⟩
 rw[FT hn hr hp hk'];have hin:=DL hc hio hh hv he hs hm hn hr hp hk' _ rfl;exact⟨hone _ hin.1,by simp;omega,fun hz=>hall _ (hin.2 hz) (rC _ _) _ _⟩
def iY(f:aK):Nat:=if f.next=0 then 2 else if f.fn.code.length=2 then 1 else 4*(f.fn.code.length-f.next)
def wgts(l:List aK):Nat:=(l.map iY).sum
theorem xX{ar:Nat→Option Nat}{T:Nat→dU}{f:aK}{i:aH}(hi:hJ ar (fun q=>q<f.fn.code.length) T f.next i)
 (hb:i.isBegin=false) (hn:i≠.give) (hr:i≠.read) (hp:i≠.print) (hk:∀k n,i≠.call k n):
 (aN i { f with next:=f.next+1 }).2=0→(f.next<(aN i { f with next:=f.next+1 }).1.next∧(aN i { f with next:=f.next+1 }).1.next<f.fn.code.length)∨(T (aN i { f with next:=f.next+1 }).1.next).b=true∧(aN i { f with next:=f.next+1 }).1.next<f.fn.code.length:=by
 obtain⟨_,_,hi⟩:=hi;intro hz;cases i with
 |give=>exact absurd rfl hn
 |read=>exact absurd rfl hr
 |print=>exact absurd rfl hp
 |call k n=>exact absurd rfl (hk k n)
 |begin l s=>simp[aH.isBegin] at hb
 |jump q=>
  simp only at hi;obtain⟨h1|h1,h2⟩:=hi
  ·exact Or.inl ⟨h1,h2.1⟩
  ·exact Or.inr ⟨h1,h2.1⟩
 |skip q=>
  simp only[aN] at hi hz ⊢
  split
  ·simp only;split
   ·exact Or.inl ⟨Nat.lt_succ_self _,hi.2.2.2.1⟩
   ·exact Or.inl ⟨hi.2.1,hi.2.2.1.1⟩
  ·rename_i h;rw[if_neg h] at hz;simp at hz
 |shortcut w q=>
  simp only[aN] at hi hz ⊢
  split
  ·simp only;split
   ·exact Or.inl ⟨hi.2.1,hi.2.2.1.1⟩
   ·exact Or.inl ⟨Nat.lt_succ_self _,hi.2.2.2.1⟩
  ·rename_i h;rw[if_neg h] at hz;simp at hz
 |assign k n=>
  simp only[aN] at hi hz ⊢
  split<;>exact Or.inl ⟨Nat.lt_succ_self _,hi.2.2.1⟩
 |declare k=>exact Or.inl ⟨Nat.lt_succ_self _,hi.2.2.2.2.1⟩
 |push v=>exact Or.inl ⟨Nat.lt_succ_self _,hi.1⟩
 |load k=>exact Or.inl ⟨Nat.lt_succ_self _,hi.2.1⟩
 |drop=>exact Or.inl ⟨Nat.lt_succ_self _,hi.2.1⟩
 |truth=>simp only[aN] at hi ⊢;split<;>exact Or.inl ⟨Nat.lt_succ_self _,hi.2.1⟩
 |unary op=>simp only[aN] at hi ⊢;split<;>exact Or.inl ⟨Nat.lt_succ_self _,hi.2.1⟩
 |length=>simp only[aN] at hi ⊢;split<;>exact Or.inl ⟨Nat.lt_succ_self _,hi.2.1⟩
 |binary op=>simp only[aN] at hi ⊢;split<;>exact Or.inl ⟨Nat.lt_succ_self _,hi.2.1⟩
 |index=>simp only[aN] at hi ⊢;split<;>exact Or.inl ⟨Nat.lt_succ_self _,hi.2.1⟩
 |list n=>simp only[aN] at hi ⊢;split<;>exact Or.inl ⟨Nat.lt_succ_self _,hi.2.1⟩
theorem gC(l:List aK)(f:aK):wgts (l++[f])=wgts l+iY f:=by simp[wgts]
theorem yO{f:aK}(h:f.next<f.fn.code.length):1≤iY f:=by unfold iY;repeat' split
                                                       all_goals omega
theorem KG(f:aK)(v:aI):iY (f.push v)=iY f:=rfl
theorem tZ{f g:aK}{i:aH}(hs:gY f.fn.code)(hi:f.fn.code[f.next]?=some i)(hb:i.isBegin=false)(h1:g.fn=f.fn)(h2:f.next<g.next)(h3:g.next<f.fn.code.length):iY g<iY f:=by
 unfold iY;rw[h1];rcases hs with ⟨l,s,r,e⟩|⟨v,e⟩
 ·have h0:f.next≠0:=fun h=>by rw[e,h] at hi;simp at hi;rw[←hi] at hb;simp[aH.isBegin] at hb
  rw[if_neg (show g.next≠0 by omega),if_neg h0]
  split<;>omega
 ·have hl:f.fn.code.length=2:=by rw[e];rfl
  rw[hl] at h3;rw[if_neg (show g.next≠0 by omega),if_pos hl,if_pos (show f.next=0 by omega)]
  omega
theorem KH{f g:aK}{k n:Nat}(hs:gY f.fn.code)(hi:f.fn.code[f.next]?=some (.call k n))(h1:g.fn=f.fn)(h2:f.next<g.next)(h3:g.next<f.fn.code.length):iY g+2<iY f:=by
 unfold iY;rw[h1]
 have h0:f.next≠0:=fun h=>by
  rcases hs with ⟨l,s,r,e⟩|⟨v,e⟩<;>rw[e,h] at hi<;>simp at hi
 have hl:f.fn.code.length≠2:=by omega
 rw[if_neg (show g.next≠0 by omega),if_neg h0,if_neg hl]
 split
 ·omega
 ·omega
structure KE(ar:Nat→Option Nat)(r:cM × Nat):Prop where
 told:∀x∈r.1.frames,x.seen.length≤x.vars.length
 deep:r.1.frames.length≤16
 ok:r.2=0→fC ar r.1∧r.1.frames≠[]
theorem mB{l:List aK}(h:l≠[]):∃b f,l=b++[f]:=by
 rcases List.eq_nil_or_concat l with h'|⟨b,f,h'⟩
 ·exact absurd h' h
 ·exact⟨b,f,by rw[h',List.concat_eq_append]⟩
theorem wK{f:aK}(h:f.next<f.fn.code.length):f.fetch=some (f.fn.code[f.next],{ f with next:=f.next+1 }):=by
 unfold aK.fetch;rw[List.getElem?_eq_getElem h];rfl
theorem sT{ar:Nat→Option Nat}{tab:List eJ}(ht:jF ar tab){k:Nat}{b:List aK}{f:aK}{t:List Int}{o:List (List UInt8)}(h:fC ar ⟨b++[f],t,o⟩){l:Nat}{s:List (List UInt8)}(hi:f.fn.code[f.next]?=some (.begin l s)):
 ∃r,dN tab (k+1) ⟨b++[f],t,o⟩=some r∧KE ar r:=by
 have hf:f.fetch=some (.begin l s,{ f with next:=f.next+1 }):=by unfold aK.fetch;rw[hi];rfl
 obtain⟨h1,h2,h3⟩:=vM ht h hf;refine⟨cC tab (.begin l s) b { f with next:=f.next+1 } t o,?_,h1,h2,fun hz=>⟨h3 hz,by simp[cC]⟩⟩
 rw[dN];simp only[eW,hf,fQ];have hz:(cC tab (.begin l s) b { f with next:=f.next+1 } t o).2=0:=rfl
 rw[if_neg (by rw[hz];simp),if_pos (show (aH.begin l s).isBegin=true from rfl)]
theorem kO{ar:Nat→Option Nat}{tab:List eJ}(ht:jF ar tab):∀(k:Nat) (m:cM),fC ar m→wgts m.frames+2≤k→∃r,dN tab k m=some r∧KE ar r
 |0,_,_,hk=>by omega
 |k+1,⟨fr,t,o⟩,h,hk=>by
  by_cases hfr:fr=[]
  ·subst hfr;exact⟨(⟨[],t,o⟩,1),rfl,by simp,by simp,fun hz=>by simp at hz⟩
  obtain⟨b,f,rfl⟩:=mB hfr;have htop:cE ar f 0:=h.ok.top f (eW _ _);have hst:gY f.fn.code:=h.start f (by simp)
  have hf:=wK htop.next
  have hi:f.fn.code[f.next]?=some (f.fn.code[f.next]'htop.next):=List.getElem?_eq_getElem htop.next
  generalize f.fn.code[f.next]'htop.next=i at hf hi
  obtain⟨h1,h2,h3⟩:=vM ht h hf;by_cases hz:(cC tab i b { f with next:=f.next+1 } t o).2=0
  rotate_left
  ·refine⟨_,?_,h1,h2,fun h'=>absurd h' hz⟩
   rw[dN];simp only[eW,hf,fQ];rw[if_pos hz]
  cases hb:i.isBegin;rotate_left
  ·cases i<;>simp[aH.isBegin] at hb
   exact sT ht h hi
  have e:dN tab (k+1) ⟨b++[f],t,o⟩=dN tab k (cC tab i b { f with next:=f.next+1 } t o).1:=by
   rw[dN];simp only[eW,hf,fQ];rw[if_neg (by rw[hz];simp),hb]
   rfl
  rw[e];have ha:=h3 hz;simp only at hk;rw[gC] at hk;obtain⟨⟨T,hc,hh,hv,he⟩,hnx,hs,hm⟩:=htop;have hio:=hc.ins _ _ hi;by_cases hn:i=.give
  ·subst hn;refine kO ht k _ ha ?_;have hw:=yO hnx;rcases List.eq_nil_or_concat b with rfl|⟨b',x,rfl⟩
   ·simp[cC,wgts] at hk ⊢;omega
   ·rw[List.concat_eq_append] at*;have e2:(cC tab .give (b'++[x]) { f with next:=f.next+1 } t o).1.frames=b'++[x.push (aK.last { f with next:=f.next+1 })]:=by simp[cC]
    rw[e2,gC,KG];rw[gC] at hk;omega
  by_cases hr:i=.read
  ·subst hr;cases t with
   |nil=>simp[cC] at hz
   |cons a r=>
    refine kO ht k _ ha ?_;have hw:=tZ (g:=aK.push { f with next:=f.next+1 } (bB a)) hst hi rfl rfl (Nat.lt_succ_self _) hio.2.2.1
    show wgts (b++[_])+2≤k
    rw[gC];omega
  by_cases hp:i=.print
  ·subst hp;refine kO ht k _ ha ?_;have hw:=tZ (g:=aK.pop { f with next:=f.next+1 }) hst hi rfl rfl (Nat.lt_succ_self _) hio.2.2.2.1
   simp only[cC] at hz ⊢
   split at hz
   ·simp at hz
   ·rw[if_neg (by assumption)]
    show wgts (b++[_])+2≤k
    rw[gC];omega
  by_cases hkk:∃c n,i=.call c n
  ·obtain⟨c,n,rfl⟩:=hkk;refine kO ht k _ ha ?_;have hw:=KH (g:=aK.popMany { f with next:=f.next+1 } n) hst hi rfl (Nat.lt_succ_self _) hio.2.2.2.2.1
   simp only[cC] at hz ⊢
   split at hz
   ·simp at hz
   ·rw[if_neg (by assumption)]
    have e1:∀y z:aK,b++[y,z]=(b++[y])++[z]:=by simp
    simp only;rw[e1,gC,gC];have:∀c v,iY ⟨c,0,0,[],v,[]⟩=2:=fun c v=>rfl
    rw[this];omega
  have hk':∀k n,i≠.call k n:=fun k n e=>hkk ⟨k,n,e⟩
  rw[FT hn hr hp hk'] at hz ha ⊢
  have hnext:=xX hio hb hn hr hp hk' hz;have hfn:(aN i { f with next:=f.next+1 }).1.fn=f.fn:=rC _ _
  generalize aN i { f with next:=f.next+1 }=y at hz ha hnext hfn ⊢
  rcases hnext with ⟨h4,h5⟩|⟨h4,h5⟩
  ·refine kO ht k _ ha ?_;have hw:=tZ (g:=y.1) hst hi hb hfn h4 h5;simp only;rw[gC];omega
  ·have hcy:y.1.fn.code[y.1.next]?=some (f.fn.code[y.1.next]):=by rw[hfn];exact List.getElem?_eq_getElem h5
   have hby:=(hc.ins _ _ (List.getElem?_eq_getElem h5)).1;rw[h4] at hby;have hw:=yO hnx;obtain⟨j,rfl⟩:∃j,k=j+1:=⟨k-1,by omega⟩
   generalize f.fn.code[y.1.next]=i' at hcy hby
   cases i'<;>simp[aH.isBegin] at hby
   exact sT ht ha hcy
theorem bE.then{ar:Nat→Option Nat}{L:Nat→dU→Prop}{p:Nat}{c c':List aH}{h v h1 v1 h2 v2:Nat}{e e1 e2:Option Nat}(a:bE ar L p c h v e h1 v1 e1)(b:bE ar L (p+c.length) c' h1 v1 e1 h2 v2 e2)
 (hL:∀q y,L q y→q≤p∨p+c.length+c'.length≤q):bE ar L p (c++c') h v e h2 v2 e2:=by
 by_cases hc:c=[]
 ·subst hc;obtain⟨T,t1,t2,t3,t4,t5,t6,t7,t8⟩:=a;obtain⟨U,u1,u2,u3,u4,u5,u6,u7,u8⟩:=b;simp only[List.length_nil,Nat.add_zero] at t5 t6 t7 u2 u3 u4 u5 u6 u7 u8;refine⟨U,u1,by omega,by omega,?_,u5,u6,u7,u8⟩
  rcases u4 with u4|u4
  ·exact Or.inl u4
  ·rw[u4,←t7];exact t4
 ·exact a.append b hL hc
theorem bE.one{ar:Nat→Option Nat}{L:Nat→dU→Prop}{p:Nat}{i:aH}{h v h' v':Nat}{e e':Option Nat}(hu:∀q y z,L q y→L q z→y=z)(h0:∀y,L p y→y=⟨h,v,e,i.isBegin⟩)(h1:∀y,L (p+1) y→y.h=h'∧y.v=v'∧y.e=e')
 (hi:∀T:Nat→dU,T p=⟨h,v,e,i.isBegin⟩→(T (p+1)).h=h'→(T (p+1)).v=v'→(T (p+1)).e=e'→(∀q y,L q y→T q=y)→hJ ar (KB L p (p+1)) T p i):bE ar L p [i] h v e h' v' e':=by
 classical
 let T:Nat→dU:=fun q=>if hq:∃y,L q y then hq.choose else if q=p then ⟨h,v,e,i.isBegin⟩ else ⟨h',v',e',false⟩
 have t1:∀q y,L q y→T q=y:=fun q y hy=>by
  have hex:∃y,L q y:=⟨y,hy⟩;simp only[T,dif_pos hex];exact hu q _ _ hex.choose_spec hy
 have t2:T p=⟨h,v,e,i.isBegin⟩:=by
  by_cases hex:∃y,L p y
  ·obtain⟨y,hy⟩:=hex;rw[t1 p y hy];exact h0 y hy
  ·simp only[T,dif_neg hex];rfl
 have t3:(T (p+1)).h=h'∧(T (p+1)).v=v'∧(T (p+1)).e=e':=by
  by_cases hex:∃y,L (p+1) y
  ·obtain⟨y,hy⟩:=hex;rw[t1 _ y hy];exact h1 y hy
  ·have e:T (p+1)=⟨h',v',e',false⟩:=by simp only[T,dif_neg hex,if_neg (show ¬p+1=p by omega)]
   rw[e];exact⟨rfl,rfl,rfl⟩
 refine⟨T,t1,by rw[t2],by rw[t2];exact Nat.le_refl _,by rw[t2];exact Or.inr rfl,t3.1,t3.2.1,t3.2.2,fun j x hj=>?_⟩
 match j,hj with
 |0,hj=>
  simp at hj;subst hj;exact hi T t2 t3.1 t3.2.1 t3.2.2 t1
 |j+1,hj=>simp at hj
structure eA(L:Nat→dU→Prop)(lo hi:Nat):Prop where
 uniq:∀q y z,L q y→L q z→y=z
 out:∀q y,L q y→q<lo∨hi<q
theorem eA.sub{L:Nat→dU→Prop}{lo hi lo' hi':Nat}(h:eA L lo hi)(h1:lo≤lo')(h2:hi'≤hi):eA L lo' hi':=⟨h.uniq,fun q y hy=>by have:=h.out q y hy;omega⟩
def eQ(L:Nat→dU→Prop)(q:Nat)(y:dU):Nat→dU→Prop:=fun r z=>L r z∨(r=q∧z=y)
theorem eQ.ok{L:Nat→dU→Prop}{lo hi lo' hi' q:Nat}{y:dU}(h:eA L lo hi)(h1:lo≤q)(h2:q≤hi)(h3:lo≤lo')(h4:hi'≤hi)(h5:q<lo'∨hi'<q):eA (eQ L q y) lo' hi':=by
 refine⟨fun r x z hx hz=>?_,fun r x hx=>?_⟩
 ·rcases hx with hx|⟨rfl,rfl⟩<;>rcases hz with hz|⟨hz1,rfl⟩
  ·exact h.uniq _ _ _ hx hz
  ·have:=h.out _ _ hx;omega
  ·have:=h.out _ _ hz;omega
  ·rfl
 ·rcases hx with hx|⟨rfl,rfl⟩
  ·have:=h.out _ _ hx;omega
  ·exact h5
theorem bE.close{ar:Nat→Option Nat}{L:Nat→dU→Prop}{p:Nat}{c:List aH}{h v h' v' q:Nat}{e e':Option Nat}{y:dU}(s:bE ar (eQ L q y) p c h v e h' v' e')(h1:p≤q)(h2:q≤p+c.length):bE ar L p c h v e h' v' e':=by
 obtain⟨T,t1,t2,t3,t4,t5,t6,t7,t8⟩:=s;refine⟨T,fun q y hq=>t1 q y (Or.inl hq),t2,t3,t4,t5,t6,t7,fun j i hj=>(t8 j i hj).same rfl (fun r hr=>⟨?_,rfl,Nat.le_refl _,Or.inr rfl⟩) (fun _ _ _ hb=>hb)⟩
 rcases hr with hr|⟨z,hz|⟨rfl,rfl⟩⟩
 ·exact Or.inl hr
 ·exact Or.inr ⟨z,hz⟩
 ·exact Or.inl ⟨h1,h2⟩
theorem gS{L:Nat→dU→Prop}{p:Nat}:KB L p (p+1) (p+1):=Or.inl ⟨by omega,by omega⟩
theorem bE.plain{ar:Nat→Option Nat}{L:Nat→dU→Prop}{p:Nat}{i:aH}{h v h':Nat}{e:Option Nat}(hl:eA L p (p+1))(hb:i.isBegin=false)(hp:h≤p)
 (hi:∀(D:Nat→Prop) (T:Nat→dU),(T p).h=h→(T p).v=v→eB D T (p+1) h' (T p).v (T p).e→(T p).b=false→(T p).h≤p→hJ ar D T p i):bE ar L p [i] h v e h' v e:=
 bE.one hl.uniq (fun y hy=>absurd (hl.out _ _ hy) (by omega)) (fun y hy=>absurd (hl.out _ _ hy) (by omega)) fun T t0 t1 t2 t3 _=>
  hi _ T (by rw[t0]) (by rw[t0]) ⟨gS,t1,by rw[t2,t0];exact Nat.le_refl _,by rw[t3,t0];exact Or.inr rfl⟩ (by rw[t0];exact hb) (by rw[t0];exact hp)
def fI(fs:List aC)(k:Nat):Option Nat:=fs[k]?.map fun f=>f.kids.length-1
def ExOk(fs:List aC)(alone:Bool)(seen:List (List UInt8)):Nat→aC→Prop
 |0,_=>False
 |d+1,a=>
  ((a.op=[48]∨a.op=[115]∨a.op=[98,111,111,108])∧a.kids=[])∨
  (a.op=[110,97,109,101]∧a.kids=[]∧a.text∈seen)∨
  (a.op=[108,105,115,116]∧∀k∈a.kids,ExOk fs alone seen d k)∨
  (a.op=[105,110,100,101,120]∧∃l r,a.kids=[l,r]∧ExOk fs alone seen d l∧ExOk fs alone seen d r)∨
  ((a.op=[45,120]∨a.op=[33,120])∧∃l,a.kids=[l]∧ExOk fs alone seen d l)∨
  (a.op=[99,97,108,108]∧(∀k∈a.kids,ExOk fs alone seen d k)∧
    ((a.text=[108,101,110]∧a.kids.length=1)∨(a.text=[114,101,97,100]∧alone=false∧a.kids.length=0)∨
     (a.text≠[108,101,110]∧a.text≠[114,101,97,100]∧alone=false∧fI fs (cU fs a.text)=some a.kids.length)))∨
  (bV a.op≠9∧∃l r,a.kids=[l,r]∧ExOk fs alone seen d l∧ExOk fs alone seen d r)
theorem pC:∀{seen:List (List UInt8)} {x:List UInt8},x∈seen→dS seen x<seen.length
 |y::l,x,h=>by
  unfold dS;split
  ·simp
  ·rename_i hne;rcases List.mem_cons.1 h with rfl|h
   ·exact absurd rfl hne
   ·have:=pC h;simp;omega
theorem lZ{op:List UInt8}(h:bV op≠9):op=[124,124]∨op=[38,38]∨op=[61,61]∨op=[33,61]∨op=[60]∨op=[60,61]∨op=[43]∨op=[45]∨op=[42]∨op=[47]∨op=[37]:=by
 unfold bV at h;repeat' split at h
 all_goals simp_all
 all_goals grind
def OT(fs:List aC)(alone:Bool)(seen:List (List UInt8))(d:Nat):Prop:=
 ∀(a:aC) (L:Nat→dU→Prop) (p h v:Nat) (e:Option Nat),ExOk fs alone seen d a→seen.length≤v→h≤p→eA L p (p+(aG fs seen d a p).length)→
  bE (fI fs) L p (aG fs seen d a p) h v e (h+1) v e∧1≤(aG fs seen d a p).length
theorem pD{fs:List aC}{alone:Bool}{seen:List (List UInt8)}{d:Nat}(IH:OT fs alone seen d):∀(l:List aC) (L:Nat→dU→Prop) (p h v:Nat) (e:Option Nat),(∀a∈l,ExOk fs alone seen d a)→seen.length≤v→h≤p→eA L p (p+(bO (aG fs seen d) l p).length)→
 bE (fI fs) L p (bO (aG fs seen d) l p) h v e (h+l.length) v e∧l.length≤(bO (aG fs seen d) l p).length
 |[],L,p,h,v,e,_,_,_,hL=>⟨bE.nil _ _ _ _ _ _ (fun q y hq hqp=>absurd (hL.out q y hq) (by simp[bO];omega)) hL.uniq,by simp⟩
 |a::l,L,p,h,v,e,ha,hv,hp,hL=>by
  simp only[bO,List.length_append] at hL ⊢
  obtain⟨h1,h1l⟩:=IH a L p h v e (ha a (List.mem_cons_self ..)) hv hp (hL.sub (Nat.le_refl _) (by omega))
  obtain⟨h2,h2l⟩:=pD IH l L (p+(aG fs seen d a p).length) (h+1) v e (fun x hx=>ha x (List.mem_cons_of_mem _ hx)) hv (by omega) (hL.sub (by omega) (by omega))
  refine⟨?_,by simp only[List.length_cons];omega⟩
  have e1:h+(a::l).length=h+1+l.length:=by simp only[List.length_cons];omega
  rw[e1];exact h1.then h2 fun q y hq=>by have:=hL.out q y hq;omega
theorem bE.snoc{ar:Nat→Option Nat}{L:Nat→dU→Prop}{p:Nat}{c:List aH}{i:aH}{h v h1 h2 v2:Nat}{e e2:Option Nat}(a:bE ar L p c h v e h1 v e)(hL:eA L p (p+(c++[i]).length))(b:eA L (p+c.length) (p+c.length+1)→bE ar L (p+c.length) [i] h1 v e h2 v2 e2):bE ar L p (c++[i]) h v e h2 v2 e2:=by
 have hl:(c++[i]).length=c.length+1:=by simp
 refine a.then (b (hL.sub (by omega) (by omega))) fun q y hq=>?_
 have:=hL.out q y hq;simp only[List.length_cons,List.length_nil];omega
theorem nZ(fs:List aC)(alone:Bool)(seen:List (List UInt8)):∀d,OT fs alone seen d
 |0,_,_,_,_,_,_,h,_,_,_=>h.elim
 |d+1,a,L,p,h,v,e,ha,hv,hp,hL=>by
  have IH:=nZ fs alone seen d
  have two:∀l r:aC,a.kids=[l,r]→ExOk fs alone seen d l→ExOk fs alone seen d r→∀k∈a.kids,ExOk fs alone seen d k:=fun l r hk h1 h2 k hk'=>by
   rw[hk] at hk';rcases List.mem_cons.1 hk' with rfl|hk'
   ·exact h1
   ·rw[List.mem_singleton.1 hk'];exact h2
  have kids:∀i:aH,i.isBegin=false→aG fs seen (d+1) a p=bO (aG fs seen d) a.kids p++[i]→(∀k∈a.kids,ExOk fs alone seen d k)→
   (∀(p':Nat) (D:Nat→Prop) (T:Nat→dU),(T p').h=h+a.kids.length→(T p').v=v→eB D T (p'+1) (h+1) (T p').v (T p').e→(T p').b=false→(T p').h≤p'→hJ (fI fs) D T p' i)→
   bE (fI fs) L p (aG fs seen (d+1) a p) h v e (h+1) v e∧1≤(aG fs seen (d+1) a p).length:=fun i hb hc hk hi=>by
   rw[hc] at hL ⊢
   obtain⟨h1,h2⟩:=pD IH a.kids L p h v e hk hv hp (hL.sub (Nat.le_refl _) (by simp))
   exact⟨bE.snoc h1 hL fun hl=>bE.plain hl hb (by omega) (hi _),by simp⟩
  rcases ha with ⟨h0|h0|h0,hk⟩|⟨h0,hk,hx⟩|⟨h0,hk⟩|⟨h0,l,r,hk,hl,hr⟩|⟨h0|h0,l,hk,hl⟩|⟨h0,hk,hc⟩|⟨h0,l,r,hk,hl,hr⟩
  ·have hc:aG fs seen (d+1) a p=[.push (bB (((dA 0 a.text).getD 0:Nat):Int))]:=by rw[aG];simp[h0]
   rw[hc] at hL ⊢
   exact⟨bE.plain hL rfl hp fun D T t1 t2 f b hp=>⟨b,hp,by rw[t1];exact f⟩,by simp⟩
  ·have hc:aG fs seen (d+1) a p=[.push (bH a.text)]:=by rw[aG];simp[h0]
   rw[hc] at hL ⊢
   exact⟨bE.plain hL rfl hp fun D T t1 t2 f b hp=>⟨b,hp,by rw[t1];exact f⟩,by simp⟩
  ·have hc:aG fs seen (d+1) a p=[.push (bL (a.text==[116,114,117,101]))]:=by rw[aG];simp[h0]
   rw[hc] at hL ⊢
   exact⟨bE.plain hL rfl hp fun D T t1 t2 f b hp=>⟨b,hp,by rw[t1];exact f⟩,by simp⟩
  ·have hc:aG fs seen (d+1) a p=[.load (dS seen a.text)]:=by rw[aG];simp[h0]
   rw[hc] at hL ⊢
   exact⟨bE.plain hL rfl hp fun D T t1 t2 f b hp=>⟨b,hp,by rw[t2];have:=pC hx;omega,by rw[t1];exact f⟩,by simp⟩
  ·refine kids (.list a.kids.length) rfl (by rw[aG];simp[h0]) hk fun p' D T t1 t2 f b hp=>⟨b,hp,by omega,?_⟩
   have:(T p').h-a.kids.length+1=h+1:=by omega
   rw[this];exact f
  ·refine kids .index rfl (by rw[aG];simp[h0]) (two l r hk hl hr) fun p' D T t1 t2 f b hp=>?_
   rw[hk] at t1;simp only[List.length_cons,List.length_nil] at t1;refine⟨b,hp,by omega,?_⟩
   have:(T p').h-1=h+1:=by omega
   rw[this];exact f
  ·refine kids (.unary [45]) rfl (by rw[aG];simp[h0]) (by rw[hk];simpa using hl) fun p' D T t1 t2 f b hp=>?_
   rw[hk] at t1;simp only[List.length_cons,List.length_nil] at t1;exact⟨b,hp,by omega,by rw[t1];exact f⟩
  ·refine kids (.unary [33]) rfl (by rw[aG];simp[h0]) (by rw[hk];simpa using hl) fun p' D T t1 t2 f b hp=>?_
   rw[hk] at t1;simp only[List.length_cons,List.length_nil] at t1;exact⟨b,hp,by omega,by rw[t1];exact f⟩
  ·rcases hc with ⟨ht,hn⟩|⟨ht,_,hn⟩|⟨ht1,ht2,_,hn⟩
   ·refine kids .length rfl (by rw[aG];simp[h0,ht]) hk fun p' D T t1 t2 f b hp=>⟨b,hp,by omega,?_⟩
    rw[t1,hn];exact f
   ·refine kids .read rfl (by rw[aG];simp[h0,ht]) hk fun p' D T t1 t2 f b hp=>⟨b,hp,?_⟩
    rw[t1,hn];exact f
   ·refine kids (.call (cU fs a.text) a.kids.length) rfl (by rw[aG];simp[h0,ht1,ht2]) hk fun p' D T t1 t2 f b hp=>⟨b,hp,by omega,hn,?_⟩
    have:(T p').h-a.kids.length+1=h+1:=by omega
    rw[this];exact f
  ·by_cases hlo:a.op=[38,38]∨a.op=[124,124]
   rotate_left
   ·have hnl:aG fs seen (d+1) a p=bO (aG fs seen d) a.kids p++[.binary a.op]:=by
     rw[aG];rcases lZ h0 with h|h|h|h|h|h|h|h|h|h|h<;>simp[h] at hlo ⊢
    refine kids (.binary a.op) rfl hnl (two l r hk hl hr) fun p' D T t1 t2 f b hp=>?_
    rw[hk] at t1;simp only[List.length_cons,List.length_nil] at t1;refine⟨b,hp,by omega,?_⟩
    have:(T p').h-1=h+1:=by omega
    rw[this];exact f
   ·have hc:aG fs seen (d+1) a p=aG fs seen d l p++[.shortcut (a.op==[124,124]) (p+(aG fs seen d l p).length+1+(aG fs seen d r (p+(aG fs seen d l p).length+1)).length+1)]++aG fs seen d r (p+(aG fs seen d l p).length+1)++[.truth]:=by
     rw[aG];rcases hlo with h|h<;>simp[h,hk]
    generalize hcl:aG fs seen d l p=cl at hc;generalize hcr:aG fs seen d r (p+cl.length+1)=cr at hc;rw[hc] at hL ⊢
    have hlen:(cl++[aH.shortcut (a.op==[124,124]) (p+cl.length+1+cr.length+1)]++cr++[aH.truth]).length=cl.length+1+cr.length+1:=by simp only[List.length_append,List.length_cons,List.length_nil]
    rw[hlen] at hL;refine⟨bE.close (q:=p+cl.length+1+cr.length+1) (y:=⟨h+1,v,e,false⟩) ?_ (by omega) (by rw[hlen];omega),by omega⟩
    have hL1:eA (eQ L (p+cl.length+1+cr.length+1) ⟨h+1,v,e,false⟩) p (p+cl.length+1+cr.length):=eQ.ok hL (by omega) (by omega) (Nat.le_refl _) (by omega) (by omega)
    obtain⟨s1,l1⟩:=IH l (eQ L (p+cl.length+1+cr.length+1) ⟨h+1,v,e,false⟩) p h v e hl hv hp (by rw[hcl];exact hL1.sub (Nat.le_refl _) (by omega))
    rw[hcl] at s1 l1;obtain⟨s3,l3⟩:=IH r (eQ L (p+cl.length+1+cr.length+1) ⟨h+1,v,e,false⟩) (p+cl.length+1) h v e hr hv (by omega) (by rw[hcr];exact hL1.sub (by omega) (by omega))
    rw[hcr] at s3 l3
    have s2:bE (fI fs) (eQ L (p+cl.length+1+cr.length+1) ⟨h+1,v,e,false⟩) (p+cl.length) [.shortcut (a.op==[124,124]) (p+cl.length+1+cr.length+1)] (h+1) v e h v e:=by
     refine bE.one hL1.uniq (fun y hy=>absurd (hL1.out _ _ hy) (by omega)) (fun y hy=>absurd (hL1.out _ _ hy) (by omega)) fun T t0 t1 t2 t3 t4=>?_
     refine⟨by rw[t0],by rw[t0];show h+1≤_;omega,by rw[t0];show 1≤h+1;omega,by omega,?_,gS,by rw[t1,t0];rfl,by rw[t2,t0];exact Nat.le_refl _,by rw[t3,t0];exact Or.inr rfl⟩
     have:=t4 (p+cl.length+1+cr.length+1) ⟨h+1,v,e,false⟩ (Or.inr ⟨rfl,rfl⟩);exact⟨Or.inr ⟨_,Or.inr ⟨rfl,rfl⟩⟩,by rw[this,t0],by rw[this,t0];exact Nat.le_refl _,by rw[this,t0];exact Or.inr rfl⟩
    have s4:bE (fI fs) (eQ L (p+cl.length+1+cr.length+1) ⟨h+1,v,e,false⟩) (p+cl.length+1+cr.length) [.truth] (h+1) v e (h+1) v e:=by
     refine bE.one hL1.uniq (fun y hy=>absurd (hL1.out _ _ hy) (by omega)) (fun y hy=>?_) fun T t0 t1 t2 t3 t4=>⟨by rw[t0],by rw[t0];show h+1≤_;omega,by rw[t0];show 1≤h+1;omega,gS,by rw[t1,t0],by rw[t2,t0];exact Nat.le_refl _,by rw[t3,t0];exact Or.inr rfl⟩
     rcases hy with hy|⟨_,rfl⟩
     ·exact absurd (hL.out _ _ hy) (by omega)
     ·exact⟨rfl,rfl,rfl⟩
    have hout:∀q y,eQ L (p+cl.length+1+cr.length+1) ⟨h+1,v,e,false⟩ q y→q≤p∨p+cl.length+1+cr.length+1≤q:=fun q y hq=>by have:=hL1.out q y hq;omega
    have s12:=s1.then s2 fun q y hq=>by have:=hout q y hq;simp only[List.length_cons,List.length_nil];omega
    have s123:=s12.then (c':=cr) (by rw[List.length_append];exact s3) fun q y hq=>by have:=hout q y hq;simp only[List.length_append,List.length_cons,List.length_nil];omega
    exact s123.then (c':=[.truth]) (by rw[show p+(cl++[aH.shortcut (a.op==[124,124]) (p+cl.length+1+cr.length+1)]++cr).length=p+cl.length+1+cr.length by simp only[List.length_append,List.length_cons,List.length_nil];omega];exact s4) fun q y hq=>by have:=hout q y hq;simp only[List.length_append,List.length_cons,List.length_nil];omega
theorem bE.entry{ar:Nat→Option Nat}{L:Nat→dU→Prop}{p:Nat}{c:List aH}{h v v0 h' v':Nat}{e e':Option Nat}(s:bE ar L p c h v none h' v' e')(hv:v≤v0):bE ar L p c h v0 e h' v' e':=by
 obtain⟨T,t1,t2,t3,t4,t5⟩:=s;exact⟨T,t1,t2,by omega,Or.inl (by rcases t4 with t4|t4<;>exact t4),t5⟩
theorem bE.exit{ar:Nat→Option Nat}{L:Nat→dU→Prop}{p:Nat}{c:List aH}{h v h' v' v'':Nat}{e e':Option Nat}(s:bE ar L p c h v e h' v' e')(hv:v''≤v')(b:Bool)(hn:∀y,¬L (p+c.length) y):bE ar (eQ L (p+c.length) ⟨h',v'',none,b⟩) p c h v e h' v'' none:=by
 obtain⟨T,t1,t2,t3,t4,t5,t6,t7,t8⟩:=s;refine⟨fun q=>if q=p+c.length then ⟨h',v'',none,b⟩ else T q,fun q y hq=>?_,?_,?_,?_,by simp only[if_pos],by simp only[if_pos],by simp only[if_pos],fun j i hj=>?_⟩
 ·rcases hq with hq|⟨rfl,rfl⟩
  ·have hne:q≠p+c.length:=fun e=>hn y (by rw[←e];exact hq)
   simp only[if_neg hne];exact t1 q y hq
  ·simp only[if_pos]
 ·simp only;split
  ·rename_i hp;rw[←hp] at t5;simp only;omega
  ·exact t2
 ·simp only;split
  ·rename_i hp;rw[←hp] at t6;simp only;omega
  ·exact t3
 ·simp only;split
  ·exact Or.inl rfl
  ·exact t4
 ·have hjl:j<c.length:=(List.getElem?_eq_some_iff.1 hj).1;refine(t8 j i hj).same (by rw[if_neg (by omega)]) (fun q hq=>?_) (fun q hq hqp hb=>by rw[if_neg (by omega)];exact hb)
  have hd:KB (eQ L (p+c.length) ⟨h',v'',none,b⟩) p (p+c.length) q:=hq.imp id fun ⟨y,hy⟩=>⟨y,Or.inl hy⟩
  refine⟨hd,?_⟩;split
  ·rename_i hqe;rw[hqe];exact⟨t5.symm,by simp only;omega,Or.inl rfl⟩
  ·exact⟨rfl,Nat.le_refl _,Or.inr rfl⟩
def cK(seen:List (List UInt8))(a:aC):List (List UInt8):=if a.op=[118,97,114] then (a.kids.head?.map (·.text)).toList++seen else seen
def StsOk(S:List (List UInt8)→aC→Prop):List (List UInt8)→List aC→Prop
 |_,[]=>True
 |seen,a::l=>S seen a∧StsOk S (cK seen a) l
def dI(fs:List aC):Nat→List (List UInt8)→aC→Prop
 |0,_,_=>False
 |d+1,seen,a=>
  (a.op=[118,97,114]∧seen.length≤90000∧∃t v,a.kids=[t,v]∧ExOk fs false seen d v∧t.text∉seen)∨
  (a.op=[115,101,116]∧a.text∈seen∧a.kids≠[]∧∀k∈a.kids,ExOk fs false seen d k)∨
  (a.op=[105,102]∧∃c t,(a.kids=[c,t]∨∃x,a.kids=[c,t,x]∧StsOk (dI fs d) seen x.kids)∧ExOk fs false seen d c∧StsOk (dI fs d) seen t.kids)∨
  (a.op=[119,104,105,108,101]∧∃c b,a.kids=[c,b]∧ExOk fs false seen d c∧StsOk (dI fs d) seen b.kids)∨
  (a.op=[114,101,116,117,114,110]∧(a.kids=[]∨∃v,a.kids=[v]∧ExOk fs false seen d v))∨
  (a.op=[112,114,105,110,116]∧∃v,a.kids=[v]∧ExOk fs false seen d v)∨
  (a.op=[100,111]∧∃c,a.kids=[c]∧ExOk fs false seen d c)
def OQ(fs:List aC)(d:Nat):Prop:=
 ∀(seen:List (List UInt8)) (a:aC) (L:Nat→dU→Prop) (p:Nat),dI fs d seen a→eA L p (p+(bA fs d seen a p).1.length)→
  bE (fI fs) L p (bA fs d seen a p).1 0 seen.length none 0 (cK seen a).length none∧(bA fs d seen a p).2=cK seen a∧∃r,(bA fs d seen a p).1=.begin a.line seen::r
theorem LE(seen:List (List UInt8))(a:aC):seen.length≤(cK seen a).length:=by unfold cK;split<;>simp
def dM:List (List UInt8)→List aC→List (List UInt8)
 |seen,[]=>seen
 |seen,a::l=>dM (cK seen a) l
theorem kW:∀(l:List aC) (seen:List (List UInt8)),seen.length≤(dM seen l).length
 |[],_=>Nat.le_refl _
 |a::l,seen=>Nat.le_trans (LE seen a) (kW l _)
theorem kZ{fs:List aC}{d:Nat}(IH:OQ fs d):∀(l:List aC) (seen:List (List UInt8)) (L:Nat→dU→Prop) (p:Nat),StsOk (dI fs d) seen l→eA L p (p+(bF (bA fs d) seen l p).length)→
 bE (fI fs) L p (bF (bA fs d) seen l p) 0 seen.length none 0 (dM seen l).length none
 |[],seen,L,p,_,hL=>bE.nil _ _ _ _ _ _ (fun q y hq hqp=>absurd (hL.out q y hq) (by simp[bF];omega)) hL.uniq
 |a::l,seen,L,p,h,hL=>by
  simp only[bF,List.length_append] at hL ⊢
  obtain⟨h1,h2,_⟩:=IH seen a L p h.1 (hL.sub (Nat.le_refl _) (by omega))
  rw[h2] at hL ⊢
  have h3:=kZ IH l (cK seen a) L (p+(bA fs d seen a p).1.length) h.2 (hL.sub (by omega) (by omega))
  exact h1.then h3 fun q y hq=>by have:=hL.out q y hq;omega
theorem bE.begins{ar:Nat→Option Nat}{L:Nat→dU→Prop}{p l:Nat}{seen:List (List UInt8)}(hu:∀q y z,L q y→L q z→y=z)(h0:∀y,L p y→y=⟨0,seen.length,none,true⟩)(h1:∀y,¬L (p+1) y):bE ar L p [.begin l seen] 0 seen.length none 0 seen.length (some seen.length):=
 bE.one hu h0 (fun y hy=>absurd hy (h1 y)) fun T t0 t1 t2 t3 _=>⟨by rw[t0],by rw[t0];exact Nat.zero_le _,by rw[t0];exact Nat.le_refl _,gS,by rw[t1,t0],by rw[t2,t0];exact Nat.le_refl _,by rw[t3];exact Or.inr rfl⟩
theorem nV(i j:aH)(c:List aH):(i::c++[j]).length=c.length+2:=by simp
theorem bE.stmt{ar:Nat→Option Nat}{L:Nat→dU→Prop}{p l n v':Nat}{seen:List (List UInt8)}{c:List aH}{i:aH}(hL:eA L p (p+(aH.begin l seen::c++[i]).length))
 (hc:bE ar L (p+1) c 0 seen.length (some seen.length) n seen.length (some seen.length)) (hi:eA L (p+1+c.length) (p+1+c.length+1)→bE ar L (p+1+c.length) [i] n seen.length (some seen.length) 0 v' none):
 bE ar L p (aH.begin l seen::c++[i]) 0 seen.length none 0 v' none:=by
 rw[nV] at hL;have s1:bE ar L p [.begin l seen] 0 seen.length none 0 seen.length (some seen.length):=bE.begins hL.uniq (fun y hy=>absurd (hL.out _ _ hy) (by omega)) (fun y hy=>absurd (hL.out _ _ hy) (by omega))
 have s2:=s1.then (c':=c) hc fun q y hq=>by have:=hL.out q y hq;simp only[List.length_cons,List.length_nil];omega
 have s3:=s2.then (c':=[i]) (by rw[show p+([aH.begin l seen]++c).length=p+1+c.length by simp only[List.length_append,List.length_cons,List.length_nil];omega];exact hi (hL.sub (by omega) (by omega))) fun q y hq=>by have:=hL.out q y hq;simp only[List.length_append,List.length_cons,List.length_nil];omega
 exact s3
theorem bE.last{ar:Nat→Option Nat}{L:Nat→dU→Prop}{p n v v':Nat}{e:Option Nat}{i:aH}(hl:eA L p (p+1))(hb:i.isBegin=false)(hp:n≤p)
 (hi:∀(D:Nat→Prop) (T:Nat→dU),T p=⟨n,v,e,false⟩→D (p+1)→(T (p+1)).h=0→(T (p+1)).v=v'→(T (p+1)).e=none→(T p).h≤p→hJ ar D T p i):bE ar L p [i] n v e 0 v' none:=
 bE.one hl.uniq (fun y hy=>absurd (hl.out _ _ hy) (by omega)) (fun y hy=>absurd (hl.out _ _ hy) (by omega)) fun T t0 t1 t2 t3 _=>hi _ T (by rw[t0,hb]) gS t1 t2 t3 (by rw[t0];exact hp)
theorem jV{fs:List aC}{seen:List (List UInt8)}{d:Nat}{a:aC}{L:Nat→dU→Prop}{p:Nat}{e:Option Nat}(ha:ExOk fs false seen d a)(hp:0<p)(hL:eA L p (p+(aG fs seen d a p).length)):
 bE (fI fs) L p (aG fs seen d a p) 0 seen.length e 1 seen.length e∧1≤(aG fs seen d a p).length:=nZ fs false seen d a L p 0 seen.length e ha (Nat.le_refl _) (by omega) hL
theorem eA.none{L:Nat→dU→Prop}{lo hi q:Nat}(h:eA L lo hi)(h1:lo≤q)(h2:q≤hi)(y:dU):¬L q y:=fun hy=>by have:=h.out q y hy;omega
theorem bE.ifs{ar:Nat→Option Nat}{L:Nat→dU→Prop}{p l v1 v2:Nat}{seen:List (List UInt8)}{cc ct ce:List aH}
 (hL:eA L p (p+1+cc.length+1+ct.length+1+ce.length))
 (hc:∀L',eA L' (p+1) (p+1+cc.length)→bE ar L' (p+1) cc 0 seen.length (some seen.length) 1 seen.length (some seen.length))
 (ht:∀L',eA L' (p+1+cc.length+1) (p+1+cc.length+1+ct.length)→bE ar L' (p+1+cc.length+1) ct 0 seen.length none 0 v1 none) (h1:seen.length≤v1)
 (he:∀L',eA L' (p+1+cc.length+1+ct.length+1) (p+1+cc.length+1+ct.length+1+ce.length)→bE ar L' (p+1+cc.length+1+ct.length+1) ce 0 seen.length none 0 v2 none) (h2:seen.length≤v2):
 bE ar L p (aH.begin l seen::cc++[.skip (p+1+cc.length+1+ct.length+1)]++ct++[.jump (p+1+cc.length+1+ct.length+1+ce.length)]++ce) 0 seen.length none 0 seen.length none:=by
 generalize hq:p+1+cc.length+1+ct.length+1=q at*;generalize hr:q+ce.length=r at*;have hL1:eA (eQ L r ⟨0,seen.length,none,false⟩) p (r-1):=eQ.ok hL (by omega) (Nat.le_refl _) (Nat.le_refl _) (by omega) (by omega)
 have part1:bE ar (eQ L r ⟨0,seen.length,none,false⟩) p (aH.begin l seen::cc++[aH.skip q]++ct++[aH.jump r]) 0 seen.length none 0 seen.length none:=by
  have hlen:p+(aH.begin l seen::cc++[aH.skip q]++ct++[aH.jump r]).length=q:=by simp only[List.length_append,List.length_cons,List.length_nil];omega
  rcases Nat.eq_or_lt_of_le (show q≤r by omega) with hqr|hqr
  ·-- there is no else:one label
   subst hqr;have hN:eA (eQ L q ⟨0,seen.length,none,false⟩) p (q-1):=hL1;have s1:=bE.begins (ar:=ar) (l:=l) (p:=p) (seen:=seen) hN.uniq (fun y hy=>absurd (hN.out _ _ hy) (by omega)) (fun y hy=>absurd (hN.out _ _ hy) (by omega))
   have s2:=s1.then (c':=cc) (hc _ (hN.sub (by omega) (by omega))) fun x y hx=>by have:=hN.out x y hx;simp only[List.length_cons,List.length_nil];omega
   have e2:p+([aH.begin l seen]++cc).length=p+1+cc.length:=by simp only[List.length_append,List.length_cons,List.length_nil];omega
   have s3:=s2.then (c':=[aH.skip q]) (by
    rw[e2];refine bE.one (h':=0) (v':=seen.length) (e':=some seen.length) hN.uniq (fun y hy=>absurd (hN.out _ _ hy) (by omega)) (fun y hy=>absurd (hN.out _ _ hy) (by omega)) fun T t0 t1 t2 t3 t4=>?_
    have hy:=t4 q ⟨0,seen.length,none,false⟩ (Or.inr ⟨rfl,rfl⟩);exact⟨by rw[t0],by rw[t0];show 1≤_;omega,by rw[t0];exact Nat.le_refl _,by omega,⟨Or.inr ⟨_,Or.inr ⟨rfl,rfl⟩⟩,by rw[hy,t0];rfl,by rw[hy,t0];exact Nat.le_refl _,by rw[hy];exact Or.inl rfl⟩,gS,by rw[t1,t0];rfl,by rw[t2,t0];exact Nat.le_refl _,by rw[t3,t0];exact Or.inr rfl⟩)
    fun x y hx=>by have:=hN.out x y hx;simp only[List.length_append,List.length_cons,List.length_nil];omega
   have e3:p+([aH.begin l seen]++cc++[aH.skip q]).length=p+1+cc.length+1:=by simp only[List.length_append,List.length_cons,List.length_nil];omega
   have s4:=s3.then (c':=ct) (by rw[e3];exact(ht _ (hN.sub (by omega) (by omega))).entry (Nat.le_refl _)) fun x y hx=>by have:=hN.out x y hx;simp only[List.length_append,List.length_cons,List.length_nil];omega
   have e4:p+([aH.begin l seen]++cc++[aH.skip q]++ct).length=p+1+cc.length+1+ct.length:=by simp only[List.length_append,List.length_cons,List.length_nil];omega
   exact s4.then (c':=[aH.jump q]) (by
    rw[e4];refine bE.one hN.uniq (fun y hy=>absurd (hN.out _ _ hy) (by omega)) (fun y hy=>?_) fun T t0 t1 t2 t3 t4=>?_
    ·rw[show p+1+cc.length+1+ct.length+1=q from hq] at hy
     rcases hy with hy|⟨_,rfl⟩
     ·exact absurd hy (hL.none (by omega) (by omega) y)
     ·exact⟨rfl,rfl,rfl⟩
    ·have hy:=t4 q ⟨0,seen.length,none,false⟩ (Or.inr ⟨rfl,rfl⟩);exact⟨by rw[t0],by rw[t0];exact Nat.zero_le _,Or.inl (by omega),Or.inr ⟨_,Or.inr ⟨rfl,rfl⟩⟩,by rw[hy,t0],by rw[hy,t0];exact h1,by rw[hy];exact Or.inl rfl⟩)
    fun x y hx=>by have:=hN.out x y hx;simp only[List.length_append,List.length_cons,List.length_nil];omega
  ·refine bE.close (q:=q) (y:=⟨0,seen.length,none,false⟩) ?_ (by omega) (by omega)
   have hN:eA (eQ (eQ L r ⟨0,seen.length,none,false⟩) q ⟨0,seen.length,none,false⟩) p (q-1):=eQ.ok hL1 (by omega) (by omega) (Nat.le_refl _) (by omega) (by omega)
   have s1:=bE.begins (ar:=ar) (l:=l) (p:=p) (seen:=seen) hN.uniq (fun y hy=>absurd (hN.out _ _ hy) (by omega)) (fun y hy=>absurd (hN.out _ _ hy) (by omega))
   have s2:=s1.then (c':=cc) (hc _ (hN.sub (by omega) (by omega))) fun x y hx=>by have:=hN.out x y hx;simp only[List.length_cons,List.length_nil];omega
   have e2:p+([aH.begin l seen]++cc).length=p+1+cc.length:=by simp only[List.length_append,List.length_cons,List.length_nil];omega
   have s3:=s2.then (c':=[aH.skip q]) (by
    rw[e2];refine bE.one (h':=0) (v':=seen.length) (e':=some seen.length) hN.uniq (fun y hy=>absurd (hN.out _ _ hy) (by omega)) (fun y hy=>absurd (hN.out _ _ hy) (by omega)) fun T t0 t1 t2 t3 t4=>?_
    have hy:=t4 q ⟨0,seen.length,none,false⟩ (Or.inr ⟨rfl,rfl⟩);exact⟨by rw[t0],by rw[t0];show 1≤_;omega,by rw[t0];exact Nat.le_refl _,by omega,⟨Or.inr ⟨_,Or.inr ⟨rfl,rfl⟩⟩,by rw[hy,t0];rfl,by rw[hy,t0];exact Nat.le_refl _,by rw[hy];exact Or.inl rfl⟩,gS,by rw[t1,t0];rfl,by rw[t2,t0];exact Nat.le_refl _,by rw[t3,t0];exact Or.inr rfl⟩)
    fun x y hx=>by have:=hN.out x y hx;simp only[List.length_append,List.length_cons,List.length_nil];omega
   have e3:p+([aH.begin l seen]++cc++[aH.skip q]).length=p+1+cc.length+1:=by simp only[List.length_append,List.length_cons,List.length_nil];omega
   have s4:=s3.then (c':=ct) (by rw[e3];exact(ht _ (hN.sub (by omega) (by omega))).entry (Nat.le_refl _)) fun x y hx=>by have:=hN.out x y hx;simp only[List.length_append,List.length_cons,List.length_nil];omega
   have e4:p+([aH.begin l seen]++cc++[aH.skip q]++ct).length=p+1+cc.length+1+ct.length:=by simp only[List.length_append,List.length_cons,List.length_nil];omega
   exact s4.then (c':=[aH.jump r]) (by
    rw[e4];refine bE.one hN.uniq (fun y hy=>absurd (hN.out _ _ hy) (by omega)) (fun y hy=>?_) fun T t0 t1 t2 t3 t4=>?_
    ·rw[show p+1+cc.length+1+ct.length+1=q from hq] at hy
     rcases hy with (hy|⟨hy,_⟩)|⟨_,rfl⟩
     ·exact absurd hy (hL.none (by omega) (by omega) y)
     ·omega
     ·exact⟨rfl,rfl,rfl⟩
    ·have hy:=t4 r ⟨0,seen.length,none,false⟩ (Or.inl (Or.inr ⟨rfl,rfl⟩));exact⟨by rw[t0],by rw[t0];exact Nat.zero_le _,Or.inl (by omega),Or.inr ⟨_,Or.inl (Or.inr ⟨rfl,rfl⟩)⟩,by rw[hy,t0],by rw[hy,t0];exact h1,by rw[hy];exact Or.inl rfl⟩)
    fun x y hx=>by have:=hN.out x y hx;simp only[List.length_append,List.length_cons,List.length_nil];omega
 have hlen:p+(aH.begin l seen::cc++[aH.skip q]++ct++[aH.jump r]).length=q:=by simp only[List.length_append,List.length_cons,List.length_nil];omega
 refine bE.close (q:=r) (y:=⟨0,seen.length,none,false⟩) ?_ (by omega) (by rw[List.length_append];omega)
 refine part1.then (c':=ce) ?_ fun x y hx=>by have:=hL1.out x y hx;omega
 rw[hlen];have:=(he L (hL.sub (by omega) (by omega))).exit h2 false (by rw[hr];exact hL.none (by omega) (Nat.le_refl _))
 rw[hr] at this;exact this
theorem bE.whiles{ar:Nat→Option Nat}{L:Nat→dU→Prop}{p l v1:Nat}{seen:List (List UInt8)}{cc cb:List aH}
 (hL:eA L p (p+1+cc.length+1+cb.length+1))
 (hc:∀L',eA L' (p+1) (p+1+cc.length)→bE ar L' (p+1) cc 0 seen.length (some seen.length) 1 seen.length (some seen.length))
 (hb:∀L',eA L' (p+1+cc.length+1) (p+1+cc.length+1+cb.length)→bE ar L' (p+1+cc.length+1) cb 0 seen.length none 0 v1 none) (h1:seen.length≤v1):
 bE ar L p (aH.begin l seen::cc++[.skip (p+1+cc.length+1+cb.length+1)]++cb++[aH.jump p]) 0 seen.length none 0 seen.length none:=by
 generalize hq:p+1+cc.length+1+cb.length+1=q at*;have hlen:p+(aH.begin l seen::cc++[aH.skip q]++cb++[aH.jump p]).length=q:=by simp only[List.length_append,List.length_cons,List.length_nil];omega
 refine bE.close (q:=p) (y:=⟨0,seen.length,none,true⟩) (bE.close (q:=q) (y:=⟨0,seen.length,none,false⟩) ?_ (by omega) (by omega)) (by omega) (by omega)
 have hL1:eA (eQ L p ⟨0,seen.length,none,true⟩) (p+1) q:=eQ.ok hL (Nat.le_refl _) (by omega) (by omega) (Nat.le_refl _) (by omega)
 have hN:eA (eQ (eQ L p ⟨0,seen.length,none,true⟩) q ⟨0,seen.length,none,false⟩) (p+1) (q-1):=eQ.ok hL1 (by omega) (Nat.le_refl _) (Nat.le_refl _) (by omega) (by omega)
 have s1:=bE.begins (ar:=ar) (l:=l) (p:=p) (seen:=seen) hN.uniq (fun y hy=>by
  rcases hy with (hy|⟨_,rfl⟩)|⟨hy,_⟩
  ·exact absurd hy (hL.none (by omega) (by omega) y)
  ·rfl
  ·omega) (fun y hy=>absurd (hN.out _ _ hy) (by omega))
 have s2:=s1.then (c':=cc) (hc _ (hN.sub (by omega) (by omega))) fun x y hx=>by have:=hN.out x y hx;simp only[List.length_cons,List.length_nil];omega
 have e2:p+([aH.begin l seen]++cc).length=p+1+cc.length:=by simp only[List.length_append,List.length_cons,List.length_nil];omega
 have s3:=s2.then (c':=[aH.skip q]) (by
  rw[e2];refine bE.one (h':=0) (v':=seen.length) (e':=some seen.length) hN.uniq (fun y hy=>absurd (hN.out _ _ hy) (by omega)) (fun y hy=>absurd (hN.out _ _ hy) (by omega)) fun T t0 t1 t2 t3 t4=>?_
  have hy:=t4 q ⟨0,seen.length,none,false⟩ (Or.inr ⟨rfl,rfl⟩);exact⟨by rw[t0],by rw[t0];show 1≤_;omega,by rw[t0];exact Nat.le_refl _,by omega,⟨Or.inr ⟨_,Or.inr ⟨rfl,rfl⟩⟩,by rw[hy,t0];rfl,by rw[hy,t0];exact Nat.le_refl _,by rw[hy];exact Or.inl rfl⟩,gS,by rw[t1,t0];rfl,by rw[t2,t0];exact Nat.le_refl _,by rw[t3,t0];exact Or.inr rfl⟩)
  fun x y hx=>by have:=hN.out x y hx;simp only[List.length_append,List.length_cons,List.length_nil];omega
 have e3:p+([aH.begin l seen]++cc++[aH.skip q]).length=p+1+cc.length+1:=by simp only[List.length_append,List.length_cons,List.length_nil];omega
 have s4:=s3.then (c':=cb) (by rw[e3];exact(hb _ (hN.sub (by omega) (by omega))).entry (Nat.le_refl _)) fun x y hx=>by have:=hN.out x y hx;simp only[List.length_append,List.length_cons,List.length_nil];omega
 have e4:p+([aH.begin l seen]++cc++[aH.skip q]++cb).length=p+1+cc.length+1+cb.length:=by simp only[List.length_append,List.length_cons,List.length_nil];omega
 exact s4.then (c':=[aH.jump p]) (by
  rw[e4];refine bE.one hN.uniq (fun y hy=>absurd (hN.out _ _ hy) (by omega)) (fun y hy=>?_) fun T t0 t1 t2 t3 t4=>?_
  ·rw[show p+1+cc.length+1+cb.length+1=q from hq] at hy
   rcases hy with (hy|⟨hy,_⟩)|⟨_,rfl⟩
   ·exact absurd hy (hL.none (by omega) (by omega) y)
   ·omega
   ·exact⟨rfl,rfl,rfl⟩
  ·have hy:=t4 p ⟨0,seen.length,none,true⟩ (Or.inl (Or.inr ⟨rfl,rfl⟩));exact⟨by rw[t0],by rw[t0];exact Nat.zero_le _,Or.inr (by rw[hy]),Or.inr ⟨_,Or.inl (Or.inr ⟨rfl,rfl⟩)⟩,by rw[hy,t0],by rw[hy,t0];exact h1,by rw[hy];exact Or.inl rfl⟩)
  fun x y hx=>by have:=hN.out x y hx;simp only[List.length_append,List.length_cons,List.length_nil];omega
theorem lV(fs:List aC):∀d,OQ fs d
 |0,_,_,_,_,h,_=>h.elim
 |d+1,seen,a,L,p,ha,hL=>by
  have IH:=lV fs d;rcases ha with ⟨h0,hb,t,v,hk,hv,_⟩|⟨h0,hx,hne,hk⟩|⟨h0,c,t,hk,hc,ht⟩|⟨h0,c,b,hk,hc,hb⟩|⟨h0,hk|⟨v,hk,hv⟩⟩|⟨h0,v,hk,hv⟩|⟨h0,v,hk,hv⟩
  ·have hs:bA fs (d+1) seen a p=(aH.begin a.line seen::aG fs seen d v (p+1)++[aH.declare seen.length],t.text::seen):=by rw[bA];simp[h0,hk]
   have hn:cK seen a=t.text::seen:=by unfold cK;rw[if_pos h0,hk];rfl
   rw[hs] at hL ⊢
   rw[hn];simp only at hL ⊢
   obtain⟨s1,l1⟩:=jV (L:=L) (p:=p+1) (e:=some seen.length) hv (by omega) (hL.sub (by omega) (by rw[nV];omega))
   refine⟨bE.stmt hL s1 fun hl=>bE.last hl rfl (by omega) fun D T t0 d1 t1 t2 t3 tp=>⟨by rw[t0];rfl,tp,?_⟩,trivial,_,rfl⟩
   rw[t0];exact⟨Nat.le_refl _,Nat.le_refl _,hb,rfl,d1,t1,by rw[t2];exact Nat.le_refl _,Or.inl t3⟩
  ·have hs:bA fs (d+1) seen a p=(aH.begin a.line seen::bO (aG fs seen d) a.kids (p+1)++[aH.assign (dS seen a.text) (a.kids.length-1)],seen):=by rw[bA];simp[h0]
   have hn:cK seen a=seen:=by unfold cK;rw[if_neg (by rw[h0];decide)]
   rw[hs] at hL ⊢
   rw[hn];simp only at hL ⊢
   obtain⟨s1,l1⟩:=pD (nZ fs false seen d) a.kids L (p+1) 0 seen.length (some seen.length) hk (Nat.le_refl _) (by omega) (hL.sub (by omega) (by rw[nV];omega))
   rw[Nat.zero_add] at s1;have hpos:0<a.kids.length:=List.length_pos_iff.2 hne;refine⟨bE.stmt hL s1 fun hl=>bE.last hl rfl (by omega) fun D T t0 d1 t1 t2 t3 tp=>⟨by rw[t0];rfl,tp,?_⟩,trivial,_,rfl⟩
   rw[t0];refine⟨?_,pC hx,d1,?_,by rw[t2];exact Nat.le_refl _,Or.inl t3⟩
   ·show a.kids.length-1+1≤a.kids.length;omega
   ·rw[t1];show 0=a.kids.length-(a.kids.length-1+1);omega
  ·have hn:cK seen a=seen:=by unfold cK;rw[if_neg (by rw[h0];decide)]
   rw[hn]
   obtain⟨ce,hs,he⟩:∃ce,bA fs (d+1) seen a p=(aH.begin a.line seen::aG fs seen d c (p+1)++[aH.skip (p+1+(aG fs seen d c (p+1)).length+1+(bF (bA fs d) seen t.kids (p+1+(aG fs seen d c (p+1)).length+1)).length+1)]++bF (bA fs d) seen t.kids (p+1+(aG fs seen d c (p+1)).length+1)++
    [aH.jump (p+1+(aG fs seen d c (p+1)).length+1+(bF (bA fs d) seen t.kids (p+1+(aG fs seen d c (p+1)).length+1)).length+1+ce.length)]++ce,seen)∧
    ∃v2,seen.length≤v2∧∀L',eA L' (p+1+(aG fs seen d c (p+1)).length+1+(bF (bA fs d) seen t.kids (p+1+(aG fs seen d c (p+1)).length+1)).length+1) (p+1+(aG fs seen d c (p+1)).length+1+(bF (bA fs d) seen t.kids (p+1+(aG fs seen d c (p+1)).length+1)).length+1+ce.length)→bE (fI fs) L' (p+1+(aG fs seen d c (p+1)).length+1+(bF (bA fs d) seen t.kids (p+1+(aG fs seen d c (p+1)).length+1)).length+1) ce 0 seen.length none 0 v2 none:=by
    rcases hk with hk|⟨x,hk,hx⟩
    ·refine⟨[],by rw[bA];simp[h0,hk],seen.length,Nat.le_refl _,fun L' hL'=>bE.nil _ _ _ _ _ _ (fun q y hq hqp=>absurd (hL'.out q y hq) (by simp;omega)) hL'.uniq⟩
    ·exact⟨_,by rw[bA];simp[h0,hk],_,kW x.kids seen,fun L' hL'=>kZ IH x.kids seen L' _ hx hL'⟩
   obtain⟨v2,hv2,he⟩:=he;rw[hs] at hL ⊢
   simp only at hL ⊢
   refine⟨bE.ifs (v1:=(dM seen t.kids).length) (v2:=v2) ?_ (fun L' hL'=>(jV hc (by omega) hL').1) (fun L' hL'=>kZ IH t.kids seen L' _ ht hL') (kW _ _) he hv2,trivial,_,rfl⟩
   refine hL.sub (Nat.le_refl _) ?_;simp only[List.length_append,List.length_cons,List.length_nil];omega
  ·have hs:bA fs (d+1) seen a p=(aH.begin a.line seen::aG fs seen d c (p+1)++[aH.skip (p+1+(aG fs seen d c (p+1)).length+1+(bF (bA fs d) seen b.kids (p+1+(aG fs seen d c (p+1)).length+1)).length+1)]++bF (bA fs d) seen b.kids (p+1+(aG fs seen d c (p+1)).length+1)++[aH.jump p],seen):=by rw[bA];simp[h0,hk]
   have hn:cK seen a=seen:=by unfold cK;rw[if_neg (by rw[h0];decide)]
   rw[hs] at hL ⊢
   rw[hn];simp only at hL ⊢
   refine⟨bE.whiles (v1:=(dM seen b.kids).length) ?_ (fun L' hL'=>(jV hc (by omega) hL').1) (fun L' hL'=>kZ IH b.kids seen L' _ hb hL') (kW _ _),trivial,_,rfl⟩
   refine hL.sub (Nat.le_refl _) ?_;simp only[List.length_append,List.length_cons,List.length_nil];omega
  ·have hs:bA fs (d+1) seen a p=(aH.begin a.line seen::[aH.push (bB 0)]++[aH.give],seen):=by rw[bA];simp[h0,hk]
   have hn:cK seen a=seen:=by unfold cK;rw[if_neg (by rw[h0];decide)]
   rw[hs] at hL ⊢
   rw[hn];simp only at hL ⊢
   have hl':eA L (p+1) (p+2):=hL.sub (by omega) (by rw[nV];simp)
   refine⟨bE.stmt (n:=1) hL (bE.plain hl' rfl (by omega) fun D T t1 t2 f b hp=>⟨b,hp,by rw[t1];exact f⟩) fun hl=>bE.last hl rfl (by omega) fun D T t0 d1 t1 t2 t3 tp=>⟨by rw[t0];rfl,tp,by rw[t0];exact Nat.le_refl _⟩,trivial,_,rfl⟩
  ·have hs:bA fs (d+1) seen a p=(aH.begin a.line seen::aG fs seen d v (p+1)++[aH.give],seen):=by rw[bA];simp[h0,hk]
   have hn:cK seen a=seen:=by unfold cK;rw[if_neg (by rw[h0];decide)]
   rw[hs] at hL ⊢
   rw[hn];simp only at hL ⊢
   obtain⟨s1,l1⟩:=jV (L:=L) (p:=p+1) (e:=some seen.length) hv (by omega) (hL.sub (by omega) (by rw[nV];omega))
   exact⟨bE.stmt hL s1 fun hl=>bE.last hl rfl (by omega) fun D T t0 d1 t1 t2 t3 tp=>⟨by rw[t0];rfl,tp,by rw[t0];exact Nat.le_refl _⟩,trivial,_,rfl⟩
  ·have hs:bA fs (d+1) seen a p=(aH.begin a.line seen::aG fs seen d v (p+1)++[aH.print],seen):=by rw[bA];simp[h0,hk]
   have hn:cK seen a=seen:=by unfold cK;rw[if_neg (by rw[h0];decide)]
   rw[hs] at hL ⊢
   rw[hn];simp only at hL ⊢
   obtain⟨s1,l1⟩:=jV (L:=L) (p:=p+1) (e:=some seen.length) hv (by omega) (hL.sub (by omega) (by rw[nV];omega))
   refine⟨bE.stmt hL s1 fun hl=>bE.last hl rfl (by omega) fun D T t0 d1 t1 t2 t3 tp=>⟨by rw[t0];rfl,tp,?_⟩,trivial,_,rfl⟩
   rw[t0];exact⟨Nat.le_refl _,d1,t1,by rw[t2];exact Nat.le_refl _,Or.inl t3⟩
  ·have hs:bA fs (d+1) seen a p=(aH.begin a.line seen::aG fs seen d v (p+1)++[aH.drop],seen):=by rw[bA];simp[h0,hk]
   have hn:cK seen a=seen:=by unfold cK;rw[if_neg (by rw[h0];decide)]
   rw[hs] at hL ⊢
   rw[hn];simp only at hL ⊢
   obtain⟨s1,l1⟩:=jV (L:=L) (p:=p+1) (e:=some seen.length) hv (by omega) (hL.sub (by omega) (by rw[nV];omega))
   refine⟨bE.stmt hL s1 fun hl=>bE.last hl rfl (by omega) fun D T t0 d1 t1 t2 t3 tp=>⟨by rw[t0];rfl,tp,?_⟩,trivial,_,rfl⟩
   rw[t0];exact⟨Nat.le_refl _,d1,t1,by rw[t2];exact Nat.le_refl _,Or.inl t3⟩
structure jG(fs:List aC)(d:Nat)(f:aC):Prop where
 kids:∃ps b,f.kids=ps++[b]∧StsOk (dI fs d) (ps.map (·.text)).reverse b.kids∧(ps.map (·.text)).Nodup
 len:(fD fs d f).code.length≤80000
theorem XF{fs:List aC}{d:Nat}{f:aC}(h:jG fs d f):∃T,nM (fI fs) (fD fs d f).code T∧(T 0).h=0∧(T 0).v≤f.kids.length-1∧(T 0).e=none∧gY (fD fs d f).code:=by
 obtain⟨⟨ps,b,hk,hb,_⟩,hl⟩:=h;have hcode:(fD fs d f).code=bF (bA fs d) (ps.map (·.text)).reverse b.kids 0++[.push (bB 0),.give]:=by simp[fD,hk]
 have hn:f.kids.length-1=(ps.map (·.text)).reverse.length:=by simp[hk]
 rw[hn];generalize hseen:(ps.map (·.text)).reverse=seen at*
 have hs:=kZ (lV fs d) b.kids seen (fun _ _=>False) 0 hb ⟨fun _ _ _ h=>h.elim,fun _ _ h=>h.elim⟩
 have hst:gY (fD fs d f).code:=by
  rw[hcode];cases hbk:b.kids with
  |nil=>exact Or.inr ⟨_,rfl⟩
  |cons a l=>
   rw[hbk] at hb;obtain⟨r,hr⟩:=(lV fs d seen a (fun _ _=>False) 0 hb.1 ⟨fun _ _ _ h=>h.elim,fun _ _ h=>h.elim⟩).2.2
   exact Or.inl ⟨a.line,seen,r++bF (bA fs d) (bA fs d seen a 0).2 l (0+(bA fs d seen a 0).1.length)++[.push (bB 0),.give],by rw[bF,hr];simp⟩
 generalize hc:bF (bA fs d) seen b.kids 0=c at*;obtain⟨T,t1,t2,t3,t4,t5,t6,t7,t8⟩:=hs;rw[Nat.zero_add] at t5 t6 t7;have hlen:(fD fs d f).code.length=c.length+2:=by rw[hcode];simp
 let U:Nat→dU:=fun q=>if q=c.length then ⟨0,(T q).v,none,false⟩ else if q=c.length+1 then ⟨1,(T c.length).v,none,false⟩ else T q
 have u0:U c.length=⟨0,(T c.length).v,none,false⟩:=by simp[U]
 have u1:U (c.length+1)=⟨1,(T c.length).v,none,false⟩:=by simp[U]
 have u2:∀q,q<c.length→U q=T q:=fun q hq=>by simp[U];rw[if_neg (by omega),if_neg (by omega)]
 have he0:(T 0).e=none:=by rcases t4 with t4|t4<;>exact t4
 have hU0:(U 0).h=0∧(U 0).v≤seen.length∧(U 0).e=none:=by
  rcases Nat.eq_zero_or_pos c.length with h0|h0
  ·rw[h0] at u0;rw[u0];exact⟨rfl,t3,rfl⟩
  ·rw[u2 0 h0];exact⟨t2,t3,he0⟩
 refine⟨U,⟨fun j i hj=>?_,hl⟩,hU0.1,hU0.2.1,hU0.2.2,hst⟩
 rw[hlen];rw[hcode] at hj;rcases Nat.lt_or_ge j c.length with hjl|hjl
 ·rw[List.getElem?_append_left hjl] at hj;have:=t8 j i hj;simp only[Nat.zero_add] at this;refine this.same (T':=U) (u2 j hjl) (fun q hq=>?_) (fun q hq hqp hb=>by rw[u2 q (by omega)];exact hb)
  rcases hq with hq|⟨y,hy⟩
  ·refine⟨by omega,?_⟩
   rcases Nat.lt_or_ge q c.length with h|h
   ·rw[u2 q h];exact⟨rfl,Nat.le_refl _,Or.inr rfl⟩
   ·obtain rfl:q=c.length:=by omega
    rw[u0];exact⟨t5.symm,Nat.le_refl _,Or.inl rfl⟩
  ·exact hy.elim
 ·rw[List.getElem?_append_right hjl] at hj;obtain⟨k,rfl⟩:∃k,j=c.length+k:=⟨j-c.length,by omega⟩
  rw[Nat.add_sub_cancel_left] at hj;match k,hj with
  |0,hj=>
   simp at hj;subst hj;show hJ _ _ U c.length _
   exact⟨by rw[u0];rfl,by rw[u0];exact Nat.zero_le _,by omega,by rw[u1,u0],by rw[u1,u0];exact Nat.le_refl _,by rw[u1];exact Or.inl rfl⟩
  |1,hj=>
   simp at hj;subst hj;exact⟨by rw[u1];rfl,by rw[u1];show 1≤_;omega,by rw[u1];exact Nat.le_refl _⟩
  |k+2,hj=>simp at hj
theorem kP{fs:List aC}{d:Nat}(h:∀f∈fs,jG fs d f):jF (fI fs) (dK fs d):=by
 refine⟨fun k n hk=>?_⟩
 unfold fI at hk;cases hf:fs[k]? with
 |none=>rw[hf] at hk;cases hk
 |some f=>
  rw[hf] at hk;simp at hk;subst hk;obtain⟨T,h1,h2,h3,h4,h5⟩:=XF (h f (List.mem_of_getElem? hf));exact⟨fD fs d f,T,by simp[dK,hf],h1,h2,h3,h4,h5⟩
theorem sI{fs:List aC}{d:Nat}(h:∀f∈fs,jG fs d f)(hm:fI fs (cU fs [109,97,105,110])=some 0)(tape:List Int):fC (fI fs) (gG fs d tape):=by
 obtain⟨f,T,h1,h2,h3,h4,h5,h6⟩:=(kP h).fn _ _ hm;have e:gG fs d tape=⟨[]++[⟨f,0,0,[],[],[]⟩],tape,[]⟩:=by unfold gG;rw[h1];rfl
 rw[e];refine⟨mK.snoc (fun g hg=>by cases hg) ⟨⟨T,h2,h3,h4,Or.inl h5⟩,?_,by simp,by simp⟩ (by simp),fun g hg=>by simp at hg;rw[hg];exact h6⟩
 rcases h6 with ⟨l,s,r,e⟩|⟨v,e⟩<;>simp[e]
inductive cL:List UInt8→Prop
 |nil:cL []
 |cons {l:List UInt8}:bD l≠0→cL (l.drop (bD l))→cL l
theorem lS{l m:List UInt8}{i lo hi:Nat}(h:m[i]?=l[i]?):cY m i lo hi=cY l i lo hi:=by unfold cY;rw[h]
theorem mH{l m:List UInt8}(h:bD l≠0)(hm:∀i,i<bD l→m[i]?=l[i]?):bD m=bD l:=by
 have h0:=hm 0 (by omega)
 unfold bD at h hm ⊢
 rw[h0];cases hb:l[0]? with
 |none=>exact absurd (by rw[hb]) h
 |some b=>
  rw[hb] at h hm;simp only at h hm ⊢
  by_cases c1:b.toNat<128
  ·rw[if_pos c1,if_pos c1]
  rw[if_neg c1] at h hm;rw[if_neg c1,if_neg c1];by_cases c2:194≤b.toNat∧b.toNat≤223
  ·rw[if_pos c2] at h hm;rw[if_pos c2,if_pos c2];by_cases c3:cY l 1 128 191=true
   ·rw[if_pos c3] at hm;rw[lS (hm 1 (by omega))]
   ·rw[if_neg c3] at h;exact absurd rfl h
  rw[if_neg c2] at h hm;rw[if_neg c2,if_neg c2];by_cases c4:224≤b.toNat∧b.toNat≤239
  ·rw[if_pos c4] at h hm;rw[if_pos c4,if_pos c4];by_cases c5:(cY l 1 (if b.toNat=224 then 160 else 128) (if b.toNat=237 then 159 else 191) && cY l 2 128 191)=true
   ·rw[if_pos c5] at hm;rw[lS (hm 1 (by omega)),lS (hm 2 (by omega))]
   ·rw[if_neg c5] at h;exact absurd rfl h
  rw[if_neg c4] at h hm;rw[if_neg c4,if_neg c4];by_cases c6:240≤b.toNat∧b.toNat≤244
  ·rw[if_pos c6] at h hm;rw[if_pos c6,if_pos c6];by_cases c7:(cY l 1 (if b.toNat=240 then 144 else 128) (if b.toNat=244 then 143 else 191) && cY l 2 128 191 && cY l 3 128 191)=true
   ·rw[if_pos c7] at hm;rw[lS (hm 1 (by omega)),lS (hm 2 (by omega)),lS (hm 3 (by omega))]
   ·rw[if_neg c7] at h;exact absurd rfl h
  ·rw[if_neg c6] at h;exact absurd rfl h
def JZ(t:List UInt8):Prop:=t.length≤100∧cL t
end Go.Proofs.YtblbkfdhjfppkaaGreatDoor.Hs
namespace Go.Proofs.YtblbkfdhjfppkaaGreatDoor
open Hs
def oQ:Nat→aC→Prop
 |0,_=>True
 |d+1,a=>(a.op=[115]→a.text.length≤100∧cL a.text)∧a.kids.length≤1000000∧∀k∈a.kids,oQ d k
def lO(a:aC):Prop:=∀e,oQ e a
theorem lO.kid{a k:aC}(h:lO a)(hk:k∈a.kids):lO k:=fun e=>(h (e+1)).2.2 k hk
theorem lO.len{a:aC}(h:lO a):a.kids.length≤1000000:=(h 1).2.1
end Go.Proofs.YtblbkfdhjfppkaaGreatDoor
namespace Go.Proofs.YtblbkfdhjfppkaaGreatDoor.Hs
theorem oP{a b:List UInt8}(h:bD a≠0):bD (a++b)=bD a:=
 mH h fun _ hi=>List.getElem?_append_left (Nat.lt_of_lt_of_le hi jJ)
theorem rL{l:List UInt8}(h:bD l≠0):bD (l.take (bD l))=bD l:=
 mH h fun i hi=>by rw[List.getElem?_take,if_pos hi]
theorem cL.append{a b:List UInt8}(ha:cL a)(hb:cL b):cL (a++b):=by
 induction ha with
 |nil=>exact hb
 |@cons l h1 _ ih=>
  refine cL.cons (by rw[oP h1];exact h1) ?_
  rw[oP h1,List.drop_append_of_le_length jJ];exact ih
theorem cL.one{l:List UInt8}(h:bD l≠0):cL (l.take (bD l)):=
 cL.cons (by rw[rL h];exact h) (by rw[rL h,List.drop_take];simp;exact cL.nil)
theorem cL.ne{l:List UInt8}(h:cL l)(hl:l≠[]):bD l≠0∧cL (l.drop (bD l)):=by
 cases h with
 |nil=>exact absurd rfl hl
 |cons h1 h2=>exact⟨h1,h2⟩
theorem OH:∀(n:Nat) (l:List UInt8),l.length≤n→∀c∈dO l,cL c:=by
 intro n;induction n with
 |zero=>
  intro l hl c hc;rw[dL (Or.inl (List.length_eq_zero_iff.1 (by omega)))] at hc
  cases hc
 |succ n ih=>
  intro l hl c hc;by_cases h1:l=[]
  ·rw[dL (Or.inl h1)] at hc;cases hc
  by_cases h2:bD l=0
  ·rw[dL (Or.inr h2)] at hc;cases hc
  rw[gP h1 h2] at hc;rcases List.mem_cons.1 hc with rfl|hc
  ·exact cL.one h2
  ·exact ih _ (by rw[List.length_drop];omega) c hc
def SY:Nat→aI→Prop
 |0,_=>True
 |d+1,v=>cL v.s∧∀x∈v.l,SY d x
structure bM(v:aI):Prop where
 all:∀d,SY d v
theorem bM.txt{v:aI}(h:bM v):cL v.s:=(h.all 1).1
theorem bM.kid{v x:aI}(h:bM v)(hx:x∈v.l):bM x:=⟨fun d=>(h.all (d+1)).2 x hx⟩
theorem bM.mk'{v:aI}(h1:cL v.s)(h3:∀x∈v.l,bM x):bM v:=
 ⟨fun d=>by
   cases d with
   |zero=>trivial
   |succ d=>exact⟨h1,fun x hx=>(h3 x hx).all d⟩⟩
theorem bM.num(n:Int):bM (bB n):=.mk' .nil fun x hx=>by cases hx
theorem bM.tru(b:Bool):bM (bL b):=.mk' .nil fun x hx=>by cases hx
theorem bM.nil:bM bK:=.mk' .nil fun x hx=>by cases hx
theorem bM.str{s:List UInt8}(h:cL s):bM (bH s):=.mk' h fun x hx=>by cases hx
theorem bM.lst{l:List aI}(h:∀x∈l,bM x):bM (aU l):=.mk' .nil h
theorem vS{l:List aI}(h:∀x∈l,bM x)(k:Nat):bM (l.getD k bK):=by
 rw[List.getD_eq_getElem?_getD];cases hk:l[k]? with
 |none=>exact bM.nil
 |some x=>exact h x (List.mem_of_getElem? hk)
theorem yQ{l:List aI}(h:∀x∈l,bM x)(k:Nat):bM (l[k]?.getD bK):=by
 cases hk:l[k]? with
 |none=>exact bM.nil
 |some x=>exact h x (List.mem_of_getElem? hk)
theorem QM(op:List UInt8)(a:aI):bM (fB op a).1:=by
 unfold fB;repeat' split
 all_goals first|exact bM.num _|exact bM.tru _|exact bM.nil
theorem MQ(op:List UInt8)(x y:Int):bM (iL op x y).1:=by
 unfold iL;repeat' split
 all_goals first|exact bM.num _|exact bM.tru _|exact bM.nil
theorem DK{a b:aI}(ha:bM a)(hb:bM b):bM (iK a b).1:=by
 unfold iK;dsimp only;generalize he:(if a.sort=3 then aU (a.l++b.l) else bH (a.s++b.s))=v
 have hv:bM v:=by
  rw[←he];split
  ·refine bM.lst fun x hx=>?_
   rcases List.mem_append.1 hx with h|h
   ·exact ha.kid h
   ·exact hb.kid h
  ·exact bM.str (ha.txt.append hb.txt)
 split
 ·exact bM.nil
 ·exact hv
theorem PB(op:List UInt8){a b:aI}(ha:bM a)(hb:bM b):bM (eG op a b).1:=by
 unfold eG;repeat' split
 all_goals first|exact bM.tru _|exact bM.nil|exact MQ _ _ _|exact DK ha hb
theorem DI(a:aI):bM (dT a).1:=by
 unfold dT;repeat' split
 all_goals first|exact bM.num _|exact bM.nil
theorem IU{a:aI}(b:aI)(ha:bM a):bM (cV a b).1:=by
 unfold cV;split
 ·exact bM.nil
 split
 ·exact bM.nil
 refine vS (fun x hx=>?_) _
 unfold iP at hx;split at hx
 ·obtain⟨c,hc,rfl⟩:=List.mem_map.1 hx;exact bM.str (OH _ _ (Nat.le_refl _) c hc)
 ·exact ha.kid hx
theorem pY:∀(l:List aI) (a b:aI),bM a→bM b→bM (cF l a b).1
 |[],_,_,_,hb=>hb
 |i::l,a,b,ha,hb=>by
  unfold cF;have ih:=pY l (a.l.getD i.n.toNat bK) b (vS (fun x hx=>ha.kid hx) _) hb
  split
  ·exact bM.nil
  split
  ·exact bM.nil
  split
  ·exact bM.nil
  ·refine bM.lst fun x hx=>?_
   rcases List.mem_or_eq_of_mem_set hx with h|h
   ·exact ha.kid h
   ·rw[h];exact ih
theorem tM{r:aI × Nat}(h:bM r.1):bM (gO r).1:=by
 unfold gO;repeat' split
 all_goals first|exact bM.nil|exact h
def tY(f:eJ):Prop:=(∀v,aH.push v∈f.code→bM v)∧∀op,aH.unary op∈f.code→op=[45]∨op=[33]
structure dE(f:aK):Prop where
 fn:tY f.fn
 vars:∀v∈f.vars,bM v
 ops:∀v∈f.ops,bM v
def fL(m:cM):Prop:=∀f∈m.frames,dE f
def iW(tab:List eJ):Prop:=∀f∈tab,tY f
theorem dE.last{f:aK}(h:dE f):bM f.last:=by
 unfold aK.last;cases hk:f.ops.getLast? with
 |none=>exact bM.nil
 |some x=>exact h.ops x (List.mem_of_getLast? hk)
theorem dE.pop{f:aK}(h:dE f):dE f.pop:=⟨h.fn,h.vars,fun v hv=>h.ops v (List.dropLast_subset _ hv)⟩
theorem dE.popMany{f:aK}(h:dE f)(n:Nat):dE (f.popMany n):=⟨h.fn,h.vars,fun v hv=>h.ops v (List.mem_of_mem_take hv)⟩
theorem dE.push{f:aK}(h:dE f){a:aI}(ha:bM a):dE (f.push a):=⟨h.fn,h.vars,fun v hv=>by
 rcases List.mem_append.1 hv with h1|h1
 ·exact h.ops v h1
 ·rw[List.mem_singleton.1 h1];exact ha⟩
theorem dE.next{f:aK}(h:dE f)(n:Nat):dE { f with next:=n }:=⟨h.fn,h.vars,h.ops⟩
theorem dE.many{f:aK}(h:dE f)(n:Nat):∀v∈f.many n,bM v:=fun v hv=>h.ops v (List.mem_of_mem_drop hv)
theorem AY{i:aH}{f:aK}(h:dE f)(hi:∀v,i=.push v→bM v):dE (aN i f).1:=by
 cases i<;>simp only[aN]
 case begin l s=>exact⟨h.fn,h.vars,h.ops⟩
 case push v=>exact h.push (hi v rfl)
 case load k=>exact h.push (yQ h.vars k)
 case declare k=>
  refine⟨h.fn,fun v hv=>?_,h.pop.ops⟩
  rcases List.mem_append.1 hv with h1|h1
  ·exact h.vars v (List.mem_of_mem_take h1)
  ·rw[List.mem_singleton.1 h1];exact h.last
 case assign k n=>
  have hg:=h.pop.popMany n;split
  ·refine⟨hg.fn,fun v hv=>?_,hg.ops⟩
   rcases List.mem_or_eq_of_mem_set hv with h1|h1
   ·exact h.vars v h1
   ·rw[h1];exact tM (pY _ _ _ (yQ h.vars k) h.last)
  ·exact hg
 case jump t=>exact h.next t
 case skip t=>
  repeat' split
  ·exact h.pop
  ·exact h.pop.next t
  ·exact h.pop
 case shortcut w t=>
  repeat' split
  ·exact(h.pop.push h.last).next t
  ·exact h.pop
  ·exact h.pop
 case truth=>
  repeat' split
  ·exact h.pop.push h.last
  ·exact h.pop
 case unary op=>
  repeat' split
  ·exact h.pop.push (QM _ _)
  ·exact h.pop
 case binary op=>
  repeat' split
  ·exact h.pop.pop.push (PB _ h.pop.last h.last)
  ·exact h.pop.pop
 case index=>
  repeat' split
  ·exact h.pop.pop.push (IU _ h.pop.last)
  ·exact h.pop.pop
 case list n=>
  repeat' split
  ·exact(h.popMany n).push (tM (bM.lst (h.many n)))
  ·exact h.popMany n
 case length=>
  repeat' split
  ·exact h.pop.push (DI _)
  ·exact h.pop
 case drop=>exact h.pop
 all_goals exact h
theorem BT{tab:List eJ}(ht:iW tab){below:List aK}{f g:aK}{t:List Int}{o:List (List UInt8)}{i:aH}(h:fL ⟨below++[f],t,o⟩)(hf:f.fetch=some (i,g)):fL (cC tab i below g t o).1:=by
 have hb:∀x∈below,dE x:=fun x hx=>h x (by simp[hx])
 have hf0:dE f:=h f (by simp)
 obtain⟨rfl,hi⟩:g={ f with next:=f.next+1 }∧f.fn.code[f.next]?=some i:=by
  unfold aK.fetch at hf;cases hx:f.fn.code[f.next]? with
  |none=>rw[hx] at hf;cases hf
  |some j=>rw[hx] at hf;simp at hf;exact⟨hf.2.symm,by rw[hf.1]⟩
 have hg:dE { f with next:=f.next+1 }:=hf0.next _
 generalize { f with next:=f.next+1 }=g at hg
 have hpu:∀v,i=.push v→bM v:=fun v e=>hf0.fn.1 v (by rw[←e];exact List.mem_of_getElem? hi)
 have one:∀y,dE y→∀t o,fL ⟨below++[y],t,o⟩:=fun y hy t o x hx=>by
  rcases List.mem_append.1 hx with h1|h1
  ·exact hb x h1
  ·rw[List.mem_singleton.1 h1];exact hy
 cases i
 case read=>
  cases t with
  |nil=>exact one _ hg _ _
  |cons a r=>exact one _ (hg.push (bM.num _)) _ _
 case call k n=>
  simp only[cC];split
  ·exact one _ (hg.popMany n) _ _
  ·intro x hx;simp only[List.mem_append,List.mem_cons,List.not_mem_nil,or_false] at hx;rcases hx with h1|rfl|rfl
   ·exact hb x h1
   ·exact hg.popMany n
   ·refine⟨?_,hg.many n,fun v hv=>by cases hv⟩
    show tY (tab[k]?.getD ⟨[],[]⟩)
    cases hk:tab[k]? with
    |none=>exact And.intro (fun v hv=>absurd hv (by simp)) (fun v hv=>absurd hv (by simp))
    |some y=>exact ht y (List.mem_of_getElem? hk)
 case give=>
  simp only[cC];intro x hx;rcases List.mem_append.1 hx with h1|h1
  ·exact hb x (List.dropLast_subset _ h1)
  ·cases hk:below.getLast? with
   |none=>rw[hk] at h1;cases h1
   |some y=>
    rw[hk] at h1;simp at h1;rw[h1];exact(hb y (List.mem_of_getLast? hk)).push hg.last
 case print=>
  simp only[cC];split<;>exact one _ hg.pop _ _
 all_goals exact one _ (AY hg hpu) _ _
end Go.Proofs.YtblbkfdhjfppkaaGreatDoor.Hs
