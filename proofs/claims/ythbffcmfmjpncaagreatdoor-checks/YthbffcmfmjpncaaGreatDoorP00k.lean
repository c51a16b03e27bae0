/- Plain functions on lists of bytes: lines, characters, blanks, tokens of a source. No Go, no program. -/
import Derived.Test.YthbffcmfmjpncaaGreatDoorA0k
set_option linter.defProp false
set_option maxRecDepth 100000
namespace Go.Proofs.YthbffcmfmjpncaaGreatDoor
theorem o_{p:Prop}(h:p:=by omega):p:=h
theorem s_{p:Prop}(h:p:=by simp):p:=h
theorem t_{p:Prop}(h:p:=by simp;omega):p:=h
theorem d_{p:Prop}(h:p:=by decide):p:=h
theorem k_{p:Prop}(h:p:=by kernel_rfl):p:=h
theorem r_{p:Prop}(h:p:=by rfl):p:=h
theorem E_{a:Type}(x:a):∃y,y=x:=⟨x,rfl⟩
end Go.Proofs.YthbffcmfmjpncaaGreatDoor
namespace Go.Proofs.YthbffcmfmjpncaaGreatDoor.Hs
variable{l x:List UInt8}{N k m n p p0 q:Nat}{b c d α:Type}
def aL(l:List UInt8):Nat:=1+l.count 10
def eY(a b:List UInt8):aL (a++b)=aL a+b.count 10:=by
 unfold aL;rw[List.count_append];omega
def wF(a:List UInt8):a.count 10<=a.length:=List.count_le_length
def gJ(a:List UInt8):aL a<=a.length+1:=by have:=wF a;unfold aL;omega
def kA(a:List UInt8)(c:UInt8):aL (a++[c])=aL a+if c=10 then 1 else 0:=by
 rw[eY];by_cases h:c=10<;>simp[h]
def bK(l:List UInt8)(i lo hi:Nat):Bool:=
 match l[i]? with
 |some b=>decide (lo<=b.toNat) && decide (b.toNat<=hi)
 |none=>false
def cJ(l:List UInt8):Nat:=
 match l[0]? with
 |none=>0
 |some b=>
  if b.toNat<128 then 1
  else if 194<=b.toNat/\b.toNat<=223 then if bK l 1 128 191 then 2 else 0
  else if 224<=b.toNat/\b.toNat<=239 then
   if bK l 1 (if b.toNat=224 then 160 else 128) (if b.toNat=237 then 159 else 191) && bK l 2 128 191 then 3 else 0
  else if 240<=b.toNat/\b.toNat<=244 then
   if bK l 1 (if b.toNat=240 then 144 else 128) (if b.toNat=244 then 143 else 191) && bK l 2 128 191 && bK l 3 128 191 then 4 else 0
  else 0
def bH:Nat->List UInt8->Nat->Option Nat
 |0,_,_=>none
 |f+1,l,p=>
  if l.length=0 then none
  else if cJ l=0 then some p
  else bH f (l.drop (cJ l)) (p+cJ l)
def bF(c:UInt8):Bool:=decide (48<=c.toNat) && decide (c.toNat<=57)
def bJ(c:UInt8):Bool:=
 c.toNat==95 || (decide (97<=c.toNat) && decide (c.toNat<=122) || decide (65<=c.toNat) && decide (c.toNat<=90))
def bD(l what:List UInt8):Bool:=what.isPrefixOf l
def aP(p:UInt8->Bool):List UInt8->Nat
 |[]=>0
 |c::r=>if p c then aP p r+1 else 0
def fG(p:UInt8->Bool)(l:List UInt8):aP p l<=l.length:=by
 induction l with
 |nil=>simp[aP]
 |cons c r a=>simp only[aP];split<;>simp<;>omega
def bU(b:UInt8):Bool:=b.toNat != 10
def blankL:Nat->List UInt8->Nat
 |0,_=>0
 |f+1,l=>
  match l with
  |[]=>0
  |c::r=>
   if c.toNat=32\/c.toNat=9\/c.toNat=10 then blankL f r+1
   else if bD (c::r) [47,47] then
    aP bU (c::r)+blankL f ((c::r).drop (aP bU (c::r)))
   else 0
def oU:Nat:=9223372036854775807
def bY:Nat->List UInt8->Option Nat
 |n,[]=>some n
 |n,c::r=>if (oU-(c.toNat-48))/10<n then none else bY (10*n+(c.toNat-48)) r
def cF:List (List UInt8):=[[102,117,110,99],[118,97,114],[105,102],[101,108,115,101],[119,104,105,108,101],[114,101,116,117,114,110],[112,114,105,110,116],[116,114,117,101],[102,97,108,115,101]]
def bC:List (List UInt8):=[[61,61],[33,61],[60,61],[38,38],[124,124],[40],[41],[123],[125],[91],[93],[44],[59],[61],[60],[43],[45],[42],[47],[37],[33]]
def bE(name:Bool)(b:UInt8):Bool:=bF b || name && bJ b
def cL(b:UInt8):Bool:=b.toNat != 34 && b.toNat != 10
structure aM where
 sort:Nat
 x_:List UInt8
 l_:Nat
structure gF where
 sort:Nat
 x_:List UInt8
 size:Nat
 ok:Bool
def dT(l:List UInt8)(name:Bool):gF:=
 if name then { sort:=if cF.contains (l.take (aP (bE name) l)) then 107 else 110,x_:=l.take (aP (bE name) l),size:=aP (bE name) l,ok:=decide (aP (bE name) l<=16) }
 else { sort:=48,x_:=l.take (aP (bE name) l),size:=aP (bE name) l,ok:=(bY 0 (l.take (aP (bE name) l))).isSome }
def iQ(r:List UInt8):gF:=
 { sort:=115,x_:=r.take (aP cL r),size:=aP cL r+2,ok:=decide (r[aP cL r]?=some 34) && decide (aP cL r<=100) }
def dZ(l:List UInt8):gF:=
 match bC.find? (λo=>bD l o) with
 |some o=>{ sort:=112,x_:=o,size:=o.length,ok:=true }
 |none=>{ sort:=0,x_:=[],size:=0,ok:=false }
def aT:List UInt8->gF
 |[]=>{ sort:=0,x_:=[],size:=0,ok:=false }
 |c::r=>if bF c || bJ c then dT (c::r) (bJ c) else if c.toNat=34 then iQ r else dZ (c::r)
def cP:Nat->List UInt8->List UInt8->Except Nat (List aM)
 |0,_,_=>.error 0
 |f+1,pre,l=>
  if l.length=0 then .ok [{ sort:=101,x_:=[],l_:=aL pre }]
  else if (aT l).ok then
   match cP f (pre++l.take ((aT l).size+blankL l.length (l.drop (aT l).size))) (l.drop ((aT l).size+blankL l.length (l.drop (aT l).size))) with
   |.ok ts=>.ok ({ sort:=(aT l).sort,x_:=(aT l).x_,l_:=aL pre }::ts)
   |.error n=>.error n
  else .error (aL pre)
def cR(l:List UInt8):Except Nat (List aM):=
 cP (l.length+1) (l.take (blankL l.length l)) (l.drop (blankL l.length l))
def fL{w:List UInt8}(h:bD l w=true):w.length<=l.length:=(LO.1 h).length_le
def hH(f:Nat)(c:UInt8)(r:List UInt8):blankL (f+1) (c::r)=
 if c.toNat=32\/c.toNat=9\/c.toNat=10 then blankL f r+1
  else if bD (c::r) [47,47] then aP bU (c::r)+blankL f ((c::r).drop (aP bU (c::r)))
  else 0:=by
 rw[blankL]
def pY(c:UInt8)(r:List UInt8)(h:bD (c::r) [47,47]=true):1<=aP bU (c::r):=by
 have b:c=47:=by
  have:=LO.1 h;obtain⟨t,a⟩:=this;simp only[List.cons_append,List.cons.injEq] at a;exact a.1.symm
 subst b;rw[aP,if_pos d_];omega
def gL(f:Nat):∀l:List UInt8,blankL f l<=l.length:=by
 induction f with
 |zero=>intro l;simp[blankL]
 |succ f a=>
  intro l;cases l with
  |nil=>simp[blankL]
  |cons c r=>
   rw[hH];split
   ·have:=a r;simp;omega
   ·split
    ·have b:=a ((c::r).drop (aP bU (c::r)));have d:=fG bU (c::r);rw[KS] at b;omega
    ·omega
def qW(f:Nat):∀(g:Nat) (l:List UInt8),l.length<=f->l.length<=g->blankL f l=blankL g l:=by
 induction f with
 |zero=>
  intro g l h _;obtain rfl:l=[]:=KO o_
  cases g<;>rfl
 |succ f b=>
  intro g l e d;cases l with
  |nil=>cases g<;>rfl
  |cons c r=>
   cases g with
   |zero=>simp at d
   |succ g=>
    rw[hH,hH];simp only[KV] at e d;rw[b g r o_ o_]
    by_cases a:bD (c::r) [47,47]=true
    ·have i:=pY c r a;rw[b g ((c::r).drop (aP bU (c::r))) (by rw[KS,KV];omega) (by rw[KS,KV];omega)]
    ·simp only[a];rfl
def kN(l:List UInt8)(b:Bool):(dT l b).size=aP (bE b) l:=by
 unfold dT;split<;>rfl
def gI(l:List UInt8)(h:(aT l).ok=true):1<=(aT l).size/\(aT l).size<=l.length:=by
 cases l with
 |nil=>simp[aT] at h
 |cons c r=>
  rw[aT] at h ⊢
  split
  ·rename_i b;rw[kN];refine⟨?_,fG _ _⟩
   rw[aP,if_pos (by
    revert b;unfold bE
    cases bF c<;>cases bJ c<;>simp)]
   omega
  ·rename_i b;rw[if_neg b] at h;split
   ·rename_i a;rw[if_pos a] at h;have d:(decide (r[aP cL r]?=some 34) && decide (aP cL r<=100))=true:=h;rw[KQ,decide_eq_true_eq] at d
    have f:aP cL r<r.length:=by
     by_cases j:aP cL r<r.length
     ·exact j
     ·rw[KI o_] at d;exact absurd d.1 s_
    show 1<=aP cL r+2/\aP cL r+2<=(c::r).length
    rw[KV];omega
   ·rename_i a;rw[if_neg a] at h;unfold dZ at h ⊢
    cases e:bC.find? (λo=>bD (c::r) o) with
    |none=>rw[e] at h;simp at h
    |some o=>
     have i:=List.find?_some e;have g:=KP e;refine⟨?_,fL i⟩;have:∀o∈bC,1<=o.length:=d_
     exact this o g
def eC(ts:List aM):Except Nat (List aM)->Except Nat (List aM)
 |.ok l=>.ok (ts++l)
 |.error n=>.error n
def jT(x:Except Nat (List aM)):eC [] x=x:=by cases x<;>rfl
def jG(ts:List aM)(t:aM)(x:Except Nat (List aM)):eC (ts++[t]) x=eC ts (eC [t] x):=by cases x<;>simp[eC]
def fI(f:Nat)(a l:List UInt8)(h:l.length=0):cP (f+1) a l=.ok [{ sort:=101,x_:=[],l_:=aL a }]:=by
 rw[cP,if_pos h]
def fJ(f:Nat)(a l:List UInt8)(h:¬l.length=0)(b:(aT l).ok=false):cP (f+1) a l=.error (aL a):=by
 rw[cP,if_neg h,if_neg (by rw[b];simp)]
def fZ(f:Nat)(a l:List UInt8)(h:¬l.length=0)(c:(aT l).ok=true)(m:Nat)(b:m=(aT l).size+blankL l.length (l.drop (aT l).size)):
 cP (f+1) a l=eC [{ sort:=(aT l).sort,x_:=(aT l).x_,l_:=aL a }] (cP f (a++l.take m) (l.drop m)):=by
 rw[cP,if_neg h,if_pos c,<-b];cases cP f (a++l.take m) (l.drop m)<;>rfl
structure aC where
 op:List UInt8
 l_:Nat
 x_:List UInt8
 y_:List aC
def aE(ts:List aM)(p:Nat):aM:=ts[p]?.getD { sort:=101,x_:=[],l_:=0 }
def aF(ts:List aM)(p:Nat)(x:List UInt8):Bool:=((aE ts p).sort==112 || (aE ts p).sort==107) && (aE ts p).x_==x
abbrev aR(α:Type):=Except Nat (α × Nat)
def bad(ts:List aM)(p:Nat):aR α:=.error (aE ts p).l_
def aZ(x:List UInt8):Nat:=
 if x==[124,124] then 0
 else if x==[38,38] then 1
 else if x==[61,61] || (x==[33,61] || (x==[60] || x==[60,61])) then 2
 else if x==[43] || x==[45] then 3
 else if x==[42] || (x==[47] || x==[37]) then 4
 else 9
def bZ(E:Nat->aR aC)(ts:List aM):Nat->Nat->List aC->aR (List aC)
 |0,_,_=>.error 0
 |g+1,p,acc=>
  match E p with
  |.error l=>.error l
  |.ok (a,q)=>if aF ts q [44] then bZ E ts g (q+1) (acc++[a]) else .ok (acc++[a],q)
def dL(E:Nat->aR aC)(ts:List aM)(p:Nat)(shut:List UInt8):aR (List aC):=
 if aF ts p shut then .ok ([],p) else bZ E ts (ts.length+1) p []
def aG(ts:List aM)(x:List UInt8):aR α->aR α
 |.error l=>.error l
 |.ok (a,q)=>if aF ts q x then .ok (a,q+1) else bad ts q
def bP(E:Nat->aR aC)(ts:List aM)(p:Nat)(opens shut:List UInt8):aR (List aC):=
 if aF ts p opens then aG ts shut (dL E ts (p+1) shut) else bad ts p
def aN{β:Type}(f:α->β):aR α->aR β
 |.error l=>.error l
 |.ok (a,q)=>.ok (f a,q)
def aV{β:Type}(x:aR α)(f:α->Nat->aR β):aR β:=
 match x with
 |.error l=>.error l
 |.ok (a,q)=>f a q
def aH(op:List UInt8)(l_:Nat)(x_:List UInt8)(y_:List aC):aC:={ op:=op,l_:=l_,x_:=x_,y_:=y_ }
def bT(E:Nat->aR aC)(ts:List aM)(p:Nat):aR aC:=
 if (aE ts p).sort==48 || (aE ts p).sort==115 then .ok (aH [UInt8.ofNat (aE ts p).sort] (aE ts p).l_ (aE ts p).x_ [],p+1)
 else if aF ts p [116,114,117,101] || aF ts p [102,97,108,115,101] then .ok (aH [98,111,111,108] (aE ts p).l_ (aE ts p).x_ [],p+1)
 else if aF ts p [40] then aG ts [41] (E (p+1))
 else if aF ts p [91] then aN (aH [108,105,115,116] (aE ts p).l_ (aE ts p).x_) (bP E ts p [91] [93])
 else if (aE ts p).sort==110 then
  if aF ts (p+1) [40] then aN (aH [99,97,108,108] (aE ts p).l_ (aE ts p).x_) (bP E ts (p+1) [40] [41])
  else .ok (aH [110,97,109,101] (aE ts p).l_ (aE ts p).x_ [],p+1)
 else bad ts p
def bR(E:Nat->aR aC)(ts:List aM):Nat->aC->Nat->aR aC
 |0,_,_=>.error 0
 |g+1,n,p=>
  if aF ts p [91] then
   match aG ts [93] (E (p+1)) with
   |.error l=>.error l
   |.ok (i,q)=>bR E ts g (aH [105,110,100,101,120] (aE ts p).l_ [] [n,i]) q
  else .ok (n,p)
def cQ(E:Nat->aR aC)(ts:List aM):Nat->Nat->aR aC
 |0,_=>.error 0
 |g+1,p=>
  if aF ts p [45] then aN (λx=>aH [45,120] (aE ts p).l_ [] [x]) (cQ E ts g (p+1))
  else if aF ts p [33] then aN (λx=>aH [33,120] (aE ts p).l_ [] [x]) (cQ E ts g (p+1))
  else aV (bT E ts p) (bR E ts (ts.length+1))
def aS(L:Nat->aR aC)(ts:List aM)(k:Nat):Nat->aC->Nat->aR aC
 |0,_,_=>.error 0
 |g+1,n,q=>
  if (aE ts q).sort==112 && aZ (aE ts q).x_==k then
   match L (q+1) with
   |.error l=>.error l
   |.ok (r,q2)=>if k=2 then .ok (aH (aE ts q).x_ (aE ts q).l_ [] [n,r],q2) else aS L ts k g (aH (aE ts q).x_ (aE ts q).l_ [] [n,r]) q2
  else .ok (n,q)
def cY(E:Nat->aR aC)(ts:List aM):Nat->Nat->aR aC
 |0,p=>cQ E ts (ts.length+1) p
 |j+1,p=>aV (cY E ts j p) (aS (cY E ts j) ts (4-j) (ts.length+1))
def dN(ts:List aM):Nat->Nat->aR aC
 |0,_=>.error 0
 |f+1,p=>cY (dN ts f) ts 5 p
def cB(E:Nat->aR aC)(ts:List aM):Nat->Nat->List aC->aR (List aC)
 |0,_,_=>.error 0
 |g+1,p,acc=>
  if aF ts p [91] then
   match aG ts [93] (E (p+1)) with
   |.error l=>.error l
   |.ok (i,q)=>cB E ts g q (acc++[i])
  else .ok (acc,p)
def bI(E:Nat->aR aC)(ts:List aM)(p:Nat):aR aC:=
 if (aE ts p).sort==110 then
  if aF ts (p+1) [40] then
   aG ts [59] (aN (λl=>aH [100,111] (aE ts p).l_ (aE ts p).x_ [aH [99,97,108,108] (aE ts p).l_ (aE ts p).x_ l]) (bP E ts (p+1) [40] [41]))
  else
   aV (aG ts [61] (cB E ts (ts.length+1) (p+1) [])) λidx q=>
    aG ts [59] (aN (λv=>aH [115,101,116] (aE ts p).l_ (aE ts p).x_ (idx++[v])) (E q))
 else bad ts p
def hM(E:Nat->aR aC)(ts:List aM)(p:Nat):aR aC:=
 if (aE ts (p+1)).sort==110 then
  if aF ts (p+2) [61] then
   aG ts [59] (aN (λv=>aH [118,97,114] (aE ts p).l_ [] [aH [116,97,114,103,101,116] (aE ts (p+1)).l_ (aE ts (p+1)).x_ [],v]) (E (p+3)))
  else bad ts (p+2)
 else bad ts (p+1)
def fX(E B:Nat->aR aC)(ts:List aM)(p:Nat):aR aC:=
 aV (E (p+1)) λc q=>aV (B q) λb q2=>
  if aF ts q2 [101,108,115,101] then aN (λd=>aH [105,102] (aE ts p).l_ [] [c,b,d]) (B (q2+1))
  else .ok (aH [105,102] (aE ts p).l_ [] [c,b],q2)
def eW(E B:Nat->aR aC)(ts:List aM)(p:Nat):aR aC:=
 aV (E (p+1)) λc q=>aN (λb=>aH [119,104,105,108,101] (aE ts p).l_ [] [c,b]) (B q)
def eH(E:Nat->aR aC)(ts:List aM)(p:Nat):aR aC:=
 if aF ts (p+1) [59] then .ok (aH [114,101,116,117,114,110] (aE ts p).l_ [] [],p+2)
 else aG ts [59] (aN (λv=>aH [114,101,116,117,114,110] (aE ts p).l_ [] [v]) (E (p+1)))
def eQ(E:Nat->aR aC)(ts:List aM)(p:Nat):aR aC:=
 aG ts [59] (aN (λv=>aH [112,114,105,110,116] (aE ts p).l_ [] [v]) (E (p+1)))
def eB(E B:Nat->aR aC)(ts:List aM)(p:Nat):aR aC:=
 if aF ts p [118,97,114] then hM E ts p
 else if aF ts p [105,102] then fX E B ts p
 else if aF ts p [119,104,105,108,101] then eW E B ts p
 else if aF ts p [114,101,116,117,114,110] then eH E ts p
 else if aF ts p [112,114,105,110,116] then eQ E ts p
 else bI E ts p
def bS(S:Nat->aR aC)(ts:List aM):Nat->Nat->List aC->aR (List aC)
 |0,_,_=>.error 0
 |g+1,p,acc=>
  if aF ts p [125] then .ok (acc,p)
  else
   match S p with
   |.error l=>.error l
   |.ok (s,q)=>bS S ts g q (acc++[s])
def dP(E:Nat->aR aC)(ts:List aM):Nat->Nat->aR aC
 |0,_=>.error 0
 |f+1,p=>
  if aF ts p [123] then
   aN (aH [98,108,111,99,107] (aE ts p).l_ []) (aG ts [125] (bS (eB E (dP E ts f) ts) ts (ts.length+1) (p+1) []))
  else bad ts p
def bG(ts:List aM):Nat->Nat->List aC->aR (List aC)
 |0,_,_=>.error 0
 |g+1,p,acc=>
  if (aE ts p).sort==110 then
   if aF ts (p+1) [44] then bG ts g (p+2) (acc++[aH [112,97,114,97,109] (aE ts p).l_ (aE ts p).x_ []])
   else .ok (acc++[aH [112,97,114,97,109] (aE ts p).l_ (aE ts p).x_ []],p+1)
  else bad ts p
def eI(ts:List aM)(p:Nat):aR (List aC):=
 aG ts [41] (if aF ts p [41] then .ok ([],p) else bG ts (ts.length+1) p [])
def eP(B:Nat->aR aC)(ts:List aM)(p:Nat):aR aC:=
 if aF ts p [102,117,110,99] then
  if (aE ts (p+1)).sort==110 then
   if aF ts (p+2) [40] then
    aV (eI ts (p+3)) λl q=>aN (λb=>aH [102,117,110,99] (aE ts (p+1)).l_ (aE ts (p+1)).x_ (l++[b])) (B q)
   else bad ts (p+2)
  else bad ts (p+1)
 else bad ts p
def cX(F:Nat->aR aC)(ts:List aM):Nat->Nat->List aC->aR (List aC)
 |0,_,_=>.error 0
 |g+1,p,acc=>
  if (aE ts p).sort==101 then .ok (acc,p)
  else
   match F p with
   |.error l=>.error l
   |.ok (s,q)=>cX F ts g q (acc++[s])
def eN(ts:List aM):aR (List aC):=
 cX (eP (dP (dN ts (ts.length+1)) ts (ts.length+1)) ts) ts (ts.length+1) 0 []
structure aY(ts:List aM):Prop where
 next:∀p,p<ts.length->(aE ts p).sort≠101->p+1<ts.length
 l_:∀p,p<ts.length->(aE ts p).l_≠0
structure bO{α:Type}(N p:Nat)(r:aR α):Prop where
 er:∀l,r=.error l->l≠0
 ok:∀a q,r=.ok (a,q)->p<q/\q<N
structure dE{α:Type}(N p:Nat)(r:aR α):Prop where
 er:∀l,r=.error l->l≠0
 ok:∀a q,r=.ok (a,q)->p<=q/\q<N
def bO.weak{r:aR b}(h:bO N p r):dE N p r:=⟨h.er,λa q e=>by have:=h.ok a q e;omega⟩
def bO.ne{a:Type}{r:aR a}(h:bO N p r):r≠.error 0:=λe=>h.er 0 e rfl
def dE.ne{a:Type}{r:aR a}(h:dE N p r):r≠.error 0:=λe=>h.er 0 e rfl
def bO.low{b:Nat}{r:aR c}(h:bO N p r)(d:b<=p):bO N b r:=⟨h.er,λa q e=>by have:=h.ok a q e;omega⟩
def dE.low{b:Nat}{r:aR c}(h:dE N p r)(d:b<p):bO N b r:=⟨h.er,λa q e=>by have:=h.ok a q e;omega⟩
def bO.of_ok(a:b)(h:p<q)(c:q<N):bO N p (.ok (a,q):aR b):=⟨(λl e=>by cases e),λd f e=>by cases e;exact⟨h,c⟩⟩
def dE.of_ok(a:b)(h:p<=q)(c:q<N):dE N p (.ok (a,q):aR b):=⟨(λl e=>by cases e),λd f e=>by cases e;exact⟨h,c⟩⟩
def bO.map{r:aR b}(f:b->c)(h:bO N p r):bO N p (aN f r):=by
 cases r with
 |error l=>exact⟨λi e=>by cases e;exact h.er _ rfl,λa q e=>by cases e⟩
 |ok d=>obtain⟨a,q⟩:=d;exact⟨(λl e=>by cases e),λg j e=>by cases e;exact h.ok _ _ rfl⟩
def aY.isT{ts:List aM}(T:aY ts)(a:p<ts.length)(h:aF ts p x=true):p+1<ts.length:=by
 refine T.next p a λe=>?_
 unfold aF at h;rw[e] at h;simp at h
def aY.bad{ts:List aM}(T:aY ts){c:Nat}(b:p<ts.length):bO ts.length c (bad ts p:aR d):=⟨λl e=>by cases e;exact T.l_ p b,λa q e=>by cases e⟩
def aY.take{ts:List aM}(T:aY ts){r:aR d}(h:bO ts.length p r):bO ts.length p (aG ts x r):=by
 cases r with
 |error l=>exact⟨λg e=>by cases e;exact h.er _ rfl,λa q e=>by cases e⟩
 |ok c=>
  obtain⟨a,q⟩:=c;have b:=h.ok a q rfl;unfold aG;simp only;split
  ·rename_i f;exact bO.of_ok a o_ (T.isT b.2 f)
  ·exact T.bad b.2
def aY.takeW{ts:List aM}(T:aY ts){r:aR d}(h:dE ts.length p r):bO ts.length p (aG ts x r):=by
 cases r with
 |error l=>exact⟨λg e=>by cases e;exact h.er _ rfl,λa q e=>by cases e⟩
 |ok c=>
  obtain⟨a,q⟩:=c;have b:=h.ok a q rfl;unfold aG;simp only;split
  ·rename_i f;exact bO.of_ok a o_ (T.isT b.2 f)
  ·exact T.bad b.2
def aY.listLoop{ts:List aM}(T:aY ts){E:Nat->aR aC}(h:∀q,p0<q->q<ts.length->bO ts.length q (E q)):∀(g p:Nat) (acc:List aC),p0<p->p<ts.length->ts.length<=p+g->bO ts.length p (bZ E ts g p acc)
 |0,p,acc,_,c,i=>by omega
 |g+1,p,acc,j,c,i=>by
  have d:=h p j c;rw[bZ];cases f:E p with
  |error l=>exact⟨λn e=>by cases e;exact d.er _ f,λa q e=>by cases e⟩
  |ok k=>
   obtain⟨a,q⟩:=k;have b:=d.ok a q f;simp only;split
   ·rename_i m;have:=T.isT b.2 m;exact(aY.listLoop T h g (q+1) (acc++[a]) o_ this o_).low o_
   ·exact bO.of_ok _ b.1 b.2
def aY.listIn{ts:List aM}(T:aY ts){E:Nat->aR aC}(c:∀q,p0<q->q<ts.length->bO ts.length q (E q))(b:p0<p)(a:p<ts.length)(y:List UInt8):dE ts.length p (dL E ts p y):=by
 unfold dL;split
 ·exact dE.of_ok _ (JS _) a
 ·exact(T.listLoop c (ts.length+1) p [] b a o_).weak
def aY.listP{ts:List aM}(T:aY ts){E:Nat->aR aC}(b:∀q,p0<q->q<ts.length->bO ts.length q (E q))(d:p0<=p)(a:p<ts.length)(x y:List UInt8):bO ts.length p (bP E ts p x y):=by
 unfold bP;split
 ·rename_i c;have:=T.isT a c;exact(T.takeW (T.listIn b (p:=p+1) o_ this y)).low o_
 ·exact T.bad a
def aY.primary{ts:List aM}(T:aY ts){E:Nat->aR aC}(c:∀q,p0<q->q<ts.length->bO ts.length q (E q))(f:p0<=p)(b:p<ts.length):bO ts.length p (bT E ts p):=by
 unfold bT;split
 ·rename_i a;refine bO.of_ok _ o_ (T.next p b λe=>?_)
  rw[e] at a;simp at a
 split
 ·rename_i a;refine bO.of_ok _ o_ ?_
  rcases Bool.or_eq_true_iff.1 a with a|a
  ·exact T.isT b a
  ·exact T.isT b a
 split
 ·rename_i a;have:=T.isT b a;exact T.take ((c (p+1) o_ this).low o_)
 split
 ·exact(T.listP c f b _ _).map _
 split
 ·rename_i a;have d:p+1<ts.length:=T.next p b λe=>by rw[e] at a;simp at a
  split
  ·exact((T.listP c (p:=p+1) o_ d _ _).low o_).map _
  ·exact bO.of_ok _ o_ d
 ·exact T.bad b
def aY.index{ts:List aM}(T:aY ts){E:Nat->aR aC}(f:∀q,p0<q->q<ts.length->bO ts.length q (E q)):∀(g:Nat) (n:aC) (p:Nat),p0<=p->p<ts.length->ts.length<=p+g->dE ts.length p (bR E ts g n p)
 |0,n,p,_,b,h=>by omega
 |g+1,n,p,r,b,h=>by
  rw[bR];split
  ·rename_i m;have k:=T.isT b m;have c:=T.take (x:=[93]) (f (p+1) o_ k)
   cases d:aG ts [93] (E (p+1)) with
   |error l=>exact⟨λs e=>by cases e;exact c.er _ d,λa q e=>by cases e⟩
   |ok o=>
    obtain⟨i,q⟩:=o;have j:=c.ok i q d;exact((aY.index T f g _ q o_ j.2 o_).low (by omega:p<q)).weak
  ·exact dE.of_ok _ (JS _) b
def aY.bind{ts:List aM}(_T:aY ts){r:aR c}{f:c->Nat->aR d}(h:bO ts.length p r)(g:∀a q,p<q->q<ts.length->dE ts.length q (f a q)):bO ts.length p (aV r f):=by
 cases r with
 |error l=>exact⟨λj e=>by cases e;exact h.er _ rfl,λa q e=>by cases e⟩
 |ok i=>
  obtain⟨a,q⟩:=i;have b:=h.ok a q rfl;exact(g a q b.1 b.2).low b.1
def aY.unary{ts:List aM}(T:aY ts){E:Nat->aR aC}(c:∀q,p0<q->q<ts.length->bO ts.length q (E q)):∀(g p:Nat),p0<=p->p<ts.length->ts.length<=p+g->bO ts.length p (cQ E ts g p)
 |0,p,_,b,i=>by omega
 |g+1,p,j,b,i=>by
  rw[cQ];split
  ·rename_i e;have d:=T.isT b e;exact((aY.unary T c g (p+1) o_ d o_).low o_).map _
  split
  ·rename_i e;have d:=T.isT b e;exact((aY.unary T c g (p+1) o_ d o_).low o_).map _
  ·exact T.bind (T.primary c j b) λa q h f=>T.index c _ a q o_ f o_
def aY.levelLoop{ts:List aM}(T:aY ts){L:Nat->aR aC}(h:∀q,p0<=q->q<ts.length->bO ts.length q (L q)):∀(g:Nat) (n:aC) (q:Nat),p0<=q->q<ts.length->ts.length<=q+g->dE ts.length q (aS L ts k g n q)
 |0,n,q,_,b,o=>by omega
 |g+1,n,q,s,b,o=>by
  rw[aS];split
  ·rename_i i;have p:q+1<ts.length:=T.next q b λe=>by rw[e] at i;simp at i
   have f:=h (q+1) o_ p
   cases j:L (q+1) with
   |error l=>exact⟨λt e=>by cases e;exact f.er _ j,λa q e=>by cases e⟩
   |ok m=>
    obtain⟨r,c⟩:=m;have d:=f.ok r c j;simp only;split
    ·exact dE.of_ok _ o_ d.2
    ·exact((aY.levelLoop T h g _ c o_ d.2 o_).low (by omega:q<c)).weak
  ·exact dE.of_ok _ (JS _) b
def aY.level{ts:List aM}(T:aY ts){E:Nat->aR aC}(d:∀q,p0<q->q<ts.length->bO ts.length q (E q)):∀(j p:Nat),p0<=p->p<ts.length->bO ts.length p (cY E ts j p)
 |0,p,c,b=>T.unary d _ p c b o_
 |j+1,p,c,b=>by
  rw[cY];exact T.bind (aY.level T d j p c b) λa q f e=>T.levelLoop (p0:=p0) (λq c b=>aY.level T d j q c b) _ a q o_ e o_
def aY.expr{ts:List aM}(T:aY ts):∀(f p:Nat),p<ts.length->ts.length<=p+f->bO ts.length p (dN ts f p)
 |0,p,b,d=>by omega
 |f+1,p,b,d=>by
  rw[dN];exact T.level (p0:=p) (λq c a=>aY.expr T f q a o_) 5 p (JS _) b
def aY.exprs{ts:List aM}(T:aY ts):∀q,q<ts.length->bO ts.length q (dN ts (ts.length+1) q):=λq a=>T.expr _ q a o_
def aY.setLoop{ts:List aM}(T:aY ts){E:Nat->aR aC}(f:∀q,q<ts.length->bO ts.length q (E q)):∀(g p:Nat) (acc:List aC),p<ts.length->ts.length<=p+g->dE ts.length p (cB E ts g p acc)
 |0,p,acc,b,h=>by omega
 |g+1,p,acc,b,h=>by
  rw[cB];split
  ·rename_i m;have k:=T.isT b m;have c:=T.take (x:=[93]) (f (p+1) k);cases d:aG ts [93] (E (p+1)) with
   |error l=>exact⟨λo e=>by cases e;exact c.er _ d,λa q e=>by cases e⟩
   |ok n=>
    obtain⟨i,q⟩:=n;have j:=c.ok i q d;exact((aY.setLoop T f g q _ j.2 o_).low (by omega:p<q)).weak
  ·exact dE.of_ok _ (JS _) b
def aY.simple{ts:List aM}(T:aY ts){E:Nat->aR aC}(b:∀q,q<ts.length->bO ts.length q (E q))(d:p<ts.length):bO ts.length p (bI E ts p):=by
 unfold bI;split
 ·rename_i f;have c:p+1<ts.length:=T.next p d λe=>by rw[e] at f;simp at f
  split
  ·exact T.take (((T.listP (p0:=p) (λq _ a=>b q a) (p:=p+1) o_ c _ _).low o_).map _)
  ·exact T.bind ((T.takeW (T.setLoop b _ (p+1) [] c o_)).low o_) λg q _ a=>(T.take ((b q a).map _)).weak
 ·exact T.bad d
def aY.stmt{ts:List aM}(T:aY ts){E B:Nat->aR aC}(j:∀q,q<ts.length->bO ts.length q (E q))(o:∀q,p<q->q<ts.length->bO ts.length q (B q))(i:p<ts.length):bO ts.length p (eB E B ts p):=by
 unfold eB;split
 ·rename_i d;have a:=T.isT i d;unfold hM;split
  ·rename_i f;have l:p+2<ts.length:=T.next (p+1) a λe=>by rw[e] at f;simp at f
   split
   ·rename_i m;have s:p+3<ts.length:=T.isT l m;exact T.take (((j (p+3) s).low o_).map _)
   ·exact T.bad l
  ·exact T.bad a
 split
 ·rename_i d;have a:=T.isT i d;unfold fX;refine T.bind ((j (p+1) a).low o_) λc q g h=>(T.bind (o q g h) λb u t k=>?_).weak
  split
  ·rename_i r;have:=T.isT k r;exact(((o (u+1) o_ this).low o_).map _).weak
  ·exact dE.of_ok _ (JS _) k
 split
 ·rename_i d;have a:=T.isT i d;unfold eW;exact T.bind ((j (p+1) a).low o_) λc q g h=>((o q g h).map _).weak
 split
 ·rename_i d;have a:=T.isT i d;unfold eH;split
  ·rename_i n;exact bO.of_ok _ o_ (T.isT a n)
  ·exact T.take (((j (p+1) a).low o_).map _)
 split
 ·rename_i d;have a:=T.isT i d;unfold eQ;exact T.take (((j (p+1) a).low o_).map _)
 ·exact T.simple j i
def aY.blockLoop{ts:List aM}(_T:aY ts){S:Nat->aR aC}(d:∀q,p0<q->q<ts.length->bO ts.length q (S q)):∀(g p:Nat) (acc:List aC),p0<p->p<ts.length->ts.length<=p+g->dE ts.length p (bS S ts g p acc)
 |0,p,acc,_,b,h=>by omega
 |g+1,p,acc,i,b,h=>by
  rw[bS];split
  ·exact dE.of_ok _ (JS _) b
  ·have c:=d p i b;cases f:S p with
   |error l=>exact⟨λm e=>by cases e;exact c.er _ f,λa q e=>by cases e⟩
   |ok k=>
    obtain⟨s,q⟩:=k;have j:=c.ok s q f;exact((aY.blockLoop _T d g q _ o_ j.2 o_).low (by omega:p<q)).weak
def aY.block{ts:List aM}(T:aY ts){E:Nat->aR aC}(d:∀q,q<ts.length->bO ts.length q (E q)):∀(f p:Nat),p<ts.length->ts.length<=p+f->bO ts.length p (dP E ts f p)
 |0,p,a,h=>by omega
 |f+1,p,a,h=>by
  rw[dP];split
  ·rename_i j;have e:=T.isT a j;refine((T.takeW (T.blockLoop (p0:=p) (λq g c=>T.stmt d (λi k b=>aY.block T d f i b o_) c) _ (p+1) [] o_ e o_)).low o_).map _
  ·exact T.bad a
def aY.paramLoop{ts:List aM}(T:aY ts):∀(g p:Nat) (acc:List aC),p<ts.length->ts.length<=p+g->bO ts.length p (bG ts g p acc)
 |0,p,acc,b,h=>by omega
 |g+1,p,acc,b,h=>by
  rw[bG];split
  ·rename_i f;have d:p+1<ts.length:=T.next p b λe=>by rw[e] at f;simp at f
   split
   ·rename_i a;have c:p+2<ts.length:=T.isT d a;exact(aY.paramLoop T g (p+2) _ c o_).low o_
   ·exact bO.of_ok _ o_ d
  ·exact T.bad b
def aY.func{ts:List aM}(T:aY ts){B:Nat->aR aC}(j:∀q,q<ts.length->bO ts.length q (B q))(h:p<ts.length):bO ts.length p (eP B ts p):=by
 unfold eP;split
 ·rename_i k;have g:=T.isT h k;split
  ·rename_i a;have d:p+2<ts.length:=T.next (p+1) g λe=>by rw[e] at a;simp at a
   split
   ·rename_i f;have c:p+3<ts.length:=T.isT d f
    have b:bO ts.length (p+3) (eI ts (p+3)):=by
     unfold eI;refine T.takeW ?_;split
     ·exact dE.of_ok _ (JS _) c
     ·exact(T.paramLoop _ (p+3) [] c o_).weak
    exact T.bind (b.low o_) λl q _ i=>((j q i).map _).weak
   ·exact T.bad d
  ·exact T.bad g
 ·exact T.bad h
def aY.progLoop{ts:List aM}(_T:aY ts){F:Nat->aR aC}(c:∀q,q<ts.length->bO ts.length q (F q)):∀(g p:Nat) (acc:List aC),p<ts.length->ts.length<=p+g->dE ts.length p (cX F ts g p acc)
 |0,p,acc,b,h=>by omega
 |g+1,p,acc,b,h=>by
  rw[cX];split
  ·exact dE.of_ok _ (JS _) b
  ·have d:=c p b;cases f:F p with
   |error l=>exact⟨λk e=>by cases e;exact d.er _ f,λa q e=>by cases e⟩
   |ok j=>
    obtain⟨s,q⟩:=j;have i:=d.ok s q f;exact((aY.progLoop _T c g q _ i.2 o_).low (by omega:p<q)).weak
def aY.prog{ts:List aM}(T:aY ts)(h:0<ts.length):eN ts≠.error 0:=
 (T.progLoop (λq a=>T.func (λc b=>T.block (λq a=>T.exprs q a) _ c b o_) a) _ 0 [] h o_).ne
structure iP(ts:List aM):Prop where
 some_:0<ts.length
 last:(aE ts (ts.length-1)).sort=101
 l_:∀p,p<ts.length->(aE ts p).l_≠0
def jB(t:aM)(ts:List aM)(p:Nat):aE (t::ts) (p+1)=aE ts p:=by simp[aE]
def tG(f:Nat):∀(a l:List UInt8) (ts:List aM),cP f a l=.ok ts->iP ts/\ts.length<=f:=by
 induction f with
 |zero=>intro a l ts h;cases h
 |succ f j=>
  intro a l ts h;by_cases d:l.length=0
  ·rw[fI _ _ _ d] at h;cases h;refine⟨⟨s_,rfl,λp c=>?_⟩,s_⟩
   obtain rfl:p=0:=by simp at c;omega
   show aL a≠0
   unfold aL;omega
  ·cases i:(aT l).ok
   ·rw[fJ _ _ _ d i] at h;cases h
   ·rw[fZ _ _ _ d i _ rfl] at h;cases g:cP f (a++l.take ((aT l).size+blankL l.length (l.drop (aT l).size))) (l.drop ((aT l).size+blankL l.length (l.drop (aT l).size))) with
    |error n=>rw[g] at h;cases h
    |ok b=>
     rw[g] at h;cases h;obtain⟨e,k⟩:=j _ _ b g;refine⟨⟨s_,?_,λp c=>?_⟩,t_⟩
     ·have:=e.some_;show (aE (_::b) ((_::b).length-1)).sort=101
      rw[KV,show b.length+1-1=(b.length-1)+1 by omega,jB]
      exact e.last
     ·cases p with
      |zero=>show aL a≠0;unfold aL;omega
      |succ p=>
       show (aE (_::b) (p+1)).l_≠0
       rw[jB];exact e.l_ p (by simpa using c)
def iP.ok{ts:List aM}(h:iP ts):aY ts:=
 ⟨λp b a=>by
   by_cases e:p=ts.length-1
   ·subst e;exact absurd h.last a
   ·omega,h.l_⟩
def iA{ts:List aM}(h:cR l=.ok ts):iP ts/\ts.length<=l.length+1:=tG _ _ _ _ h
def cU(l:List UInt8):Except (Nat × Nat) (List aC):=
 if 2000<l.length then .error (1,0)
 else match bH l.length l 0 with
  |some k=>.error (2,aL (l.take k))
  |none=>
   match cR l with
   |.error n=>.error (3,n)
   |.ok ts=>
    match eN ts with
    |.error n=>.error (4,n)
    |.ok (ks,_)=>.ok ks
structure aQ where
 e_:List (List UInt8)
 kind:Nat
 l_:Nat
def aQ.found(s:aQ)(l_ kind:Nat):aQ:=if s.kind=0 then { s with kind:=kind,l_:=l_ } else s
def cZ(x:List UInt8):Bool:=x==[108,101,110] || x==[114,101,97,100]
def declaresL(s:aQ)(n:aC):aQ:=if cZ n.x_ || s.e_.contains n.x_ then s.found n.l_ 6 else s
def bN(fs:List aC)(name:List UInt8):Option aC:=fs.find? λf=>f.x_==name
def dF(fs:List aC)(a_:Bool)(name:List UInt8):Int:=
 if name==[108,101,110] then 1
 else if name==[114,101,97,100] && !a_ then 0
 else match bN fs name with
  |some f=>(f.y_.length:Int)-1
  |none=> -1
def dA(fs:List aC)(a_:Bool)(s:aQ)(n:aC):aQ:=
 if dF fs a_ n.x_<0 then s.found n.l_ 6
 else if dF fs a_ n.x_≠(n.y_.length:Int) then s.found n.l_ 7
 else s
def bQ(fs:List aC)(a_:Bool)(s:aQ)(n:aC):aQ:=
 if n.op==[115,101,116] || n.op==[110,97,109,101] then (if s.e_.contains n.x_ then s else s.found n.l_ 6)
 else if n.op==[99,97,108,108] then dA fs a_ s n
 else s
def aK(fs:List aC)(a_:Bool):Nat->aC->aQ->aQ
 |0,_,s=>s
 |d+1,n,s=>
  if n.op==[118,97,114] then
   match n.y_ with
   |t::v::_=>let s1:=aK fs a_ d v (declaresL s t);{ s1 with e_:=s1.e_++[t.x_] }
   |_=>s
  else
   let s1:=n.y_.foldl (λs k=>aK fs a_ d k s) (bQ fs a_ s n)
   if n.op==[98,108,111,99,107] then { s1 with e_:=s1.e_.take s.e_.length } else s1
def aX:Nat->aC->Nat
 |0,_=>0
 |d+1,n=>1+(n.y_.map (aX d)).sum
def nF:Nat->aC->Prop
 |0,_=>True
 |d+1,n=>(n.op=[118,97,114]->2<=n.y_.length)/\∀k∈n.y_,nF d k
def FineA(m:Nat)(a:aC):Prop:=∀d,aX d a<=m/\nF d a
def FineL(m:Nat)(l:List aC):Prop:=∀d,(l.map (aX d)).sum<=m/\∀k∈l,nF d k
def FineA.le{a:aC}(h:FineA m a)(b:m<=n):FineA n a:=λd=>⟨KM (h d).1 b,(h d).2⟩
def FineL.le{a:List aC}(h:FineL m a)(b:m<=n):FineL n a:=λd=>⟨KM (h d).1 b,(h d).2⟩
def FineL.nil:FineL 0 []:=λ_=>⟨JS _,λ_ h=>by cases h⟩
def FineL.snoc{l:List aC}{a:aC}(h:FineL m l)(c:FineA n a):FineL (m+n) (l++[a]):=λd=>by
 refine⟨?_,λk b=>?_⟩
 ·rw[LE,LF];have f:=(h d).1;have e:=(c d).1;simp;omega
 ·rcases LB.1 b with b|b
  ·exact(h d).2 k b
  ·rw[KB.1 b];exact(c d).2
def FineL.one{a:aC}(b:FineA n a):FineL n [a]:=λd=>by
 refine⟨?_,λk c=>?_⟩
 ·have e:=(b d).1;simp;omega
 ·rw[KB.1 c];exact(b d).2
def FineL.two{a b:aC}(c:FineA m a)(d:FineA n b):FineL (m+n) [a,b]:=(FineL.one c).snoc d
def FineL.three{a b c:aC}(d:FineA m a)(e:FineA n b)(f:FineA k c):FineL (m+n+k) [a,b,c]:=(FineL.two d e).snoc f
def FineA.node{l:List aC}{op a:List UInt8}{b:Nat}(h:FineL m l)(c:op=[118,97,114]->2<=l.length):FineA (m+1) (aH op b a l):=λd=>by
 cases d with
 |zero=>exact⟨LC _,trivial⟩
 |succ d=>
  refine⟨?_,c,(h d).2⟩;have:=(h d).1;show 1+(l.map (aX d)).sum<=m+1
  omega
def aU(P:Nat->α->Prop)(p:Nat)(r:aR α):Prop:=∀a q,r=.ok (a,q)->∃m,p+m<=q/\P m a
def aU.bad{P:Nat->c->Prop}{b:Nat}{ts:List aM}:aU P p (bad ts b):=λa q h=>by cases h
def aU.err{P:Nat->b->Prop}:aU P p (.error n):=λa q h=>by cases h
def aU.of_ok{P:Nat->b->Prop}{a:b}(c:p+m<=q)(h:P m a):aU P p (.ok (a,q)):=λd f e=>by cases e;exact⟨m,c,h⟩
def aU.take{P:Nat->b->Prop}{ts:List aM}{r:aR b}(h:aU P p r):aU P p (aG ts x r):=by
 cases r with
 |error l=>exact aU.err
 |ok c=>
  obtain⟨a,q⟩:=c;obtain⟨m,e,d⟩:=h a q rfl;unfold aG;simp only;split
  ·exact aU.of_ok o_ d
  ·exact aU.bad
def aU.map{P:Nat->b->Prop}{Q:Nat->c->Prop}{d:Nat}{r:aR b}{f:b->c}(h:aU P p r)(n:d+k<=p)(i:∀m a,P m a->Q (m+k) (f a)):aU Q d (aN f r):=by
 cases r with
 |error l=>exact aU.err
 |ok g=>
  obtain⟨a,q⟩:=g;obtain⟨m,j,e⟩:=h a q rfl;exact aU.of_ok (m:=m+k) o_ (i m a e)
def aU.bind{P:Nat->b->Prop}{Q:Nat->c->Prop}{d:Nat}{r:aR b}{f:b->Nat->aR c}(h:aU P p r)(e:∀m a q,P m a->p+m<=q->aU Q d (f a q)):aU Q d (aV r f):=by
 cases r with
 |error l=>exact aU.err
 |ok g=>
  obtain⟨a,q⟩:=g;obtain⟨m,j,i⟩:=h a q rfl;exact e m a q i j
def aU.low{P:Nat->c->Prop}{b:Nat}{r:aR c}(h:aU P p r)(f:b<=p):aU P b r:=λa q e=>by
 obtain⟨m,g,d⟩:=h a q e;exact⟨m,o_,d⟩
section
variable {ts:List aM} {E:Nat->aR aC}
def jP(d:∀q,aU FineA q (E q)):∀(g p:Nat) (acc:List aC) (b p0:Nat),FineL b acc->p0+b<=p->aU FineL p0 (bZ E ts g p acc)
 |0,p,acc,_,_,_,_=>aU.err
 |g+1,p,acc,b,p0,e,i=>by
  rw[bZ];cases h:E p with
  |error l=>exact aU.err
  |ok f=>
   obtain⟨a,q⟩:=f;obtain⟨m,j,c⟩:=d p a q h;simp only;split
   ·exact jP d g (q+1) _ (b+m) p0 (e.snoc c) o_
   ·exact aU.of_ok (m:=b+m) o_ (e.snoc c)
def jO(a:∀q,aU FineA q (E q))(p:Nat)(x y:List UInt8):aU FineL (p+1) (bP E ts p x y):=by
 unfold bP;split
 ·refine aU.take ?_;unfold dL;split
  ·exact aU.of_ok (m:=0) o_ FineL.nil
  ·exact jP a _ _ _ 0 _ FineL.nil o_
 ·exact aU.bad
def fV{op a:List UInt8}{b:Nat}(c:op≠[118,97,114]):FineA 1 (aH op b a []):=FineA.node (m:=0) FineL.nil λh=>absurd h c
def rQ(b:∀q,aU FineA q (E q))(p:Nat):aU FineA p (bT E ts p):=by
 unfold bT;split
 ·exact aU.of_ok (m:=1) o_ (fV s_)
 split
 ·exact aU.of_ok (m:=1) o_ (fV s_)
 split
 ·exact((b (p+1)).take).low o_
 split
 ·exact aU.map (k:=1) (jO b p _ _) o_ λm a h=>FineA.node h s_
 split
 ·split
  ·exact aU.map (k:=1) (jO b (p+1) _ _) o_ λm a h=>FineA.node h s_
  ·exact aU.of_ok (m:=1) o_ (fV s_)
 ·exact aU.bad
def nH(c:∀q,aU FineA q (E q)):∀(g:Nat) (n:aC) (p a p0:Nat),FineA a n->p0+a<=p->aU FineA p0 (bR E ts g n p)
 |0,n,p,_,_,_,_=>aU.err
 |g+1,n,p,a,p0,b,e=>by
  rw[bR];split
  ·have d:=(c (p+1)).take (ts:=ts) (x:=[93]);cases h:aG ts [93] (E (p+1)) with
   |error l=>exact aU.err
   |ok j=>
    obtain⟨i,q⟩:=j;obtain⟨m,k,f⟩:=d i q h;exact nH c g _ q (a+m+1) p0 (FineA.node (FineL.two b f) s_) o_
  ·exact aU.of_ok e b
def jM(b:∀q,aU FineA q (E q)):∀(g p:Nat),aU FineA p (cQ E ts g p)
 |0,p=>aU.err
 |g+1,p=>by
  rw[cQ];split
  ·exact aU.map (k:=1) (jM b g (p+1)) o_ λm a h=>FineA.node (FineL.one h) s_
  split
  ·exact aU.map (k:=1) (jM b g (p+1)) o_ λm a h=>FineA.node (FineL.one h) s_
  ·exact aU.bind (rQ b p) λm a q d c=>nH b _ a q m p d c
def jE{L:Nat->aR aC}{k:Nat}(d:∀q,aU FineA q (L q)):∀(g:Nat) (n:aC) (q b p0:Nat),FineA b n->p0+b<=q->aU FineA p0 (aS L ts k g n q)
 |0,n,q,_,_,_,_=>aU.err
 |g+1,n,q,b,p0,c,o=>by
  rw[aS];split
  ·cases p:L (q+1) with
   |error l=>exact aU.err
   |ok i=>
    obtain⟨r,h⟩:=i;obtain⟨m,s,j⟩:=d _ r h p;have e:∀f a,FineA (b+m+1) (aH f a [] [n,r]):=λf a=>FineA.node (FineL.two c j) s_
    simp only;split
    ·exact aU.of_ok (m:=b+m+1) o_ (e _ _)
    ·exact jE d g _ h (b+m+1) p0 (e _ _) o_
  ·exact aU.of_ok o c
def jQ(b:∀q,aU FineA q (E q)):∀(j p:Nat),aU FineA p (cY E ts j p)
 |0,p=>jM b _ p
 |j+1,p=>by
  rw[cY];exact aU.bind (jQ b j p) λm a q d c=>jE (λq=>jQ b j q) _ a q m p d c
def pX(ts:List aM):∀(f p:Nat),aU FineA p (dN ts f p)
 |0,p=>aU.err
 |f+1,p=>by
  rw[dN];exact jQ (λq=>pX ts f q) 5 p
def kP(c:∀q,aU FineA q (E q)):∀(g p:Nat) (acc:List aC) (a p0:Nat),FineL a acc->p0+a<=p->aU FineL p0 (cB E ts g p acc)
 |0,p,acc,_,_,_,_=>aU.err
 |g+1,p,acc,a,p0,b,e=>by
  rw[cB];split
  ·have d:=(c (p+1)).take (ts:=ts) (x:=[93]);cases h:aG ts [93] (E (p+1)) with
   |error l=>exact aU.err
   |ok j=>
    obtain⟨i,q⟩:=j;obtain⟨m,k,f⟩:=d i q h;exact kP c g q _ (a+m) p0 (b.snoc f) o_
  ·exact aU.of_ok e b
def tQ(b:∀q,aU FineA q (E q))(p:Nat):aU FineA p (bI E ts p):=by
 unfold bI;split
 ·split
  ·exact aU.take (aU.map (k:=2) (jO b (p+1) _ _) o_ λm a h=>FineA.node (FineL.one (FineA.node h s_)) s_)
  ·refine aU.bind ((kP b _ (p+1) [] 0 (p+1) FineL.nil o_).take) λm l q d f=>?_
   exact aU.take (aU.map (k:=m+1) (b q) o_ λe v c=>FineA.le (FineA.node (d.snoc c) s_) o_)
 ·exact aU.bad
def xC{B:Nat->aR aC}(a:∀q,aU FineA q (E q))(h:∀q,aU FineA q (B q))(p:Nat):aU FineA p (eB E B ts p):=by
 unfold eB;split
 ·unfold hM;split
  ·split
   ·exact aU.take (aU.map (k:=2) (a (p+3)) o_ λm v e=>FineA.le (FineA.node (FineL.two (fV s_) e) s_) o_)
   ·exact aU.bad
  ·exact aU.bad
 split
 ·unfold fX;refine aU.bind (a (p+1)) λm c q f l=>aU.bind (h q) λg b o i s=>?_
  split
  ·exact aU.map (k:=m+g+1) (h (o+1)) o_ λr d j=>FineA.le (FineA.node (FineL.three f i j) s_) o_
  ·exact aU.of_ok (m:=m+g+1) o_ (FineA.node (FineL.two f i) s_)
 split
 ·unfold eW;exact aU.bind (a (p+1)) λm c q f l=>aU.map (k:=m+1) (h q) o_ λg b n=>FineA.le (FineA.node (FineL.two f n) s_) o_
 split
 ·unfold eH;split
  ·exact aU.of_ok (m:=1) o_ (fV s_)
  ·exact aU.take (aU.map (k:=1) (a (p+1)) o_ λm v e=>FineA.node (FineL.one e) s_)
 split
 ·unfold eQ;exact aU.take (aU.map (k:=1) (a (p+1)) o_ λm v e=>FineA.node (FineL.one e) s_)
 ·exact tQ a p
def jF{S:Nat->aR aC}(c:∀q,aU FineA q (S q)):∀(g p:Nat) (acc:List aC) (a p0:Nat),FineL a acc->p0+a<=p->aU FineL p0 (bS S ts g p acc)
 |0,p,acc,_,_,_,_=>aU.err
 |g+1,p,acc,a,p0,b,d=>by
  rw[bS];split
  ·exact aU.of_ok d b
  ·cases f:S p with
   |error l=>exact aU.err
   |ok h=>
    obtain⟨s,q⟩:=h;obtain⟨m,i,e⟩:=c p s q f;exact jF c g q _ (a+m) p0 (b.snoc e) o_
def nI(a:∀q,aU FineA q (E q)):∀(f p:Nat),aU FineA p (dP E ts f p)
 |0,p=>aU.err
 |f+1,p=>by
  rw[dP];split
  ·exact aU.map (k:=1) (aU.take (jF (λq=>xC a (λq=>nI a f q) q) _ (p+1) [] 0 (p+1) FineL.nil o_)) o_ λm l h=>FineA.node h s_
  ·exact aU.bad
def jD:∀(g p:Nat) (acc:List aC) (a p0:Nat),FineL a acc->p0+a<=p->aU FineL p0 (bG ts g p acc)
 |0,p,acc,_,_,_,_=>aU.err
 |g+1,p,acc,a,p0,c,d=>by
  have b:FineL (a+1) (acc++[aH [112,97,114,97,109] (aE ts p).l_ (aE ts p).x_ []]):=c.snoc (fV s_)
  rw[bG];split
  ·split
   ·exact jD g (p+2) _ (a+1) p0 b o_
   ·exact aU.of_ok (m:=a+1) o_ b
  ·exact aU.bad
def xE{B:Nat->aR aC}(c:∀q,aU FineA q (B q))(p:Nat):aU FineA p (eP B ts p):=by
 unfold eP;split
 ·split
  ·split
   ·have a:aU FineL (p+3) (eI ts (p+3)):=by
     unfold eI;refine aU.take ?_;split
     ·exact aU.of_ok (m:=0) o_ FineL.nil
     ·exact jD _ (p+3) [] 0 (p+3) FineL.nil o_
    exact aU.bind a λm l q d g=>aU.map (k:=m+1) (c q) o_ λf b e=>FineA.le (FineA.node (d.snoc e) s_) o_
   ·exact aU.bad
  ·exact aU.bad
 ·exact aU.bad
def jN{F:Nat->aR aC}(c:∀q,aU FineA q (F q)):∀(g p:Nat) (acc:List aC) (a p0:Nat),FineL a acc->p0+a<=p->aU FineL p0 (cX F ts g p acc)
 |0,p,acc,_,_,_,_=>aU.err
 |g+1,p,acc,a,p0,b,d=>by
  rw[cX];split
  ·exact aU.of_ok d b
  ·cases h:F p with
   |error l=>exact aU.err
   |ok e=>
    obtain⟨s,q⟩:=e;obtain⟨m,i,f⟩:=c p s q h;exact jN c g q _ (a+m) p0 (b.snoc f) o_
end
def xD(ts:List aM)(T:aY ts)(e:0<ts.length)(ks:List aC)(q:Nat)(h:eN ts=.ok (ks,q)):FineL ts.length ks:=by
 obtain⟨m,f,d⟩:=jN (λq=>xE (λb=>nI (λq=>pX ts _ q) _ b) q) (ts.length+1) 0 [] 0 0 FineL.nil o_ ks q h
 have:=(T.progLoop (λq a=>T.func (λb c=>T.block (λq a=>T.exprs q a) _ b c o_) a) _ 0 [] e o_).ok ks q h
 exact d.le o_
def lT{ks:List aC}(h:cU l=.ok ks):FineL 2001 ks:=by
 unfold cU at h;split at h
 ·cases h
 rename_i e;split at h
 ·cases h
 split at h
 ·cases h
 rename_i c d;obtain⟨a,f⟩:=iA d;split at h
 ·cases h
 rename_i q b;cases h;exact(xD c a.ok a.some_ _ _ b).le o_
def dD:Nat->aC->Prop
 |0,_=>False
 |d+1,n=>∀k∈n.y_,dD d k
def iC:∀(m:Nat) (a:aC),FineA m a->dD m a
 |0,a,h=>by
  have:=(h 1).1;simp only[aX] at this;omega
 |m+1,a,h=>λk b=>iC m k λd=>by
  have f:=(h (d+1)).1;have e:=(h (d+1)).2.2 k b;refine⟨?_,e⟩
  have:aX d k<=(a.y_.map (aX d)).sum:=by
   have:∀l:List aC,k∈l->aX d k<=(l.map (aX d)).sum:=by
    intro l;induction l with
    |nil=>intro h;cases h
    |cons x l c=>
     intro h;simp only[KC,KD];rcases KE.1 h with rfl|h
     ·omega
     ·have:=c h;omega
   exact this _ b
  simp only[aX] at f;omega
def gE{f g:c->d->c}:∀(l:List d) (b:c),(∀a∈l,∀b,f b a=g b a)->l.foldl f b=l.foldl g b
 |[],_,_=>rfl
 |a::l,b,h=>by
  rw[List.foldl_cons,List.foldl_cons,h a (KW ..)];exact gE l _ λx e=>h x (LN _ e)
def fY(b:List aC)(a:Bool):∀(d e:Nat) (n:aC) (s:aQ),dD d n->d<=e->aK b a d n s=aK b a e n s
 |0,_,_,_,h,_=>h.elim
 |d+1,0,_,_,_,h=>by omega
 |d+1,e+1,n,s,h,f=>by
  rw[aK,aK];split
  ·have c:∀k∈n.y_,∀s,aK b a d k s=aK b a e k s:=λk c s=>fY b a d e k s (h k c) o_
   match g:n.y_ with
   |t::v::r=>simp only;rw[c v (by rw[g];simp)]
   |[]=>rfl
   |[_]=>rfl
  ·rw[gE n.y_ _ λk c s=>fY b a d e k s (h k c) o_]
def bB(fs:List aC)(d:Nat)(s:aQ)(k:aC):aQ:=
 if k.op==[112,97,114,97,109] then { declaresL s k with e_:=(declaresL s k).e_++[k.x_] } else aK fs false d k s
def dU(fs:List aC)(d:Nat)(s:aQ)(n:aC)(first:Bool):aQ:=
 n.y_.foldl (bB fs d) { (if cZ n.x_ || !first then s.found n.l_ 6 else s) with e_:=[] }
def cD(fs:List aC)(d:Nat):List aC->List aC->aQ->aQ
 |_,[],s=>s
 |pre,n::rest,s=>cD fs d (pre++[n]) rest (dU fs d s n (bN pre n.x_).isNone)
def eR(d:Nat)(ks:List aC):Nat × Nat:=
 match bN ks [109,97,105,110] with
 |none=>(5,0)
 |some m=>if 1<m.y_.length then (5,0) else ((cD ks d [] ks ⟨[],0,0⟩).kind,(cD ks d [] ks ⟨[],0,0⟩).l_)
def bL(l:List UInt8):Nat × Nat:=
 match cU l with
 |.error f=>f
 |.ok ks=>eR 2001 ks
def iJ(t:aM):Prop:=t.sort=112\/(t.sort=107/\cF.contains t.x_=true)\/t.sort=110\/(t.sort=48/\(bY 0 t.x_).isSome=true)\/t.sort=115\/t.sort=101
def qX(ts:List aM):Prop:=∀t∈ts,iJ t
def qY(l:List UInt8)(l_:Nat)(h:(aT l).ok=true):iJ { sort:=(aT l).sort,x_:=(aT l).x_,l_:=l_ }:=by
 cases l with
 |nil=>simp[aT] at h
 |cons c r=>
  rw[aT] at h ⊢
  split
  ·rename_i a;rw[if_pos a] at h;unfold dT at h ⊢
   split
   ·by_cases b:cF.contains ((c::r).take (aP (bE (bJ c)) (c::r)))=true
    ·rw[if_pos b];exact JR (JX ⟨rfl,b⟩)
    ·rw[if_neg b];exact JR (JR (JX rfl))
   ·rename_i f;rw[if_neg f] at h;exact JR (JR (JR (JX ⟨rfl,h⟩)))
  ·rename_i a;rw[if_neg a] at h;split
   ·exact JR (JR (JR (JR (JX rfl))))
   ·rename_i d;rw[if_neg d] at h;unfold dZ at h ⊢
    cases e:bC.find? (λo=>bD (c::r) o) with
    |none=>rw[e] at h;simp at h
    |some o=>exact JX rfl
def wT(f:Nat):∀(a l:List UInt8) (ts:List aM),cP f a l=.ok ts->qX ts:=by
 induction f with
 |zero=>intro a l ts h;cases h
 |succ f i=>
  intro a l ts h;by_cases d:l.length=0
  ·rw[fI _ _ _ d] at h;cases h;intro t b;rw[KB.1 b];exact JR (JR (JR (JR (JR rfl))))
  ·cases c:(aT l).ok
   ·rw[fJ _ _ _ d c] at h;cases h
   ·rw[fZ _ _ _ d c _ rfl] at h;cases e:cP f (a++l.take ((aT l).size+blankL l.length (l.drop (aT l).size))) (l.drop ((aT l).size+blankL l.length (l.drop (aT l).size))) with
    |error n=>rw[e] at h;cases h
    |ok g=>
     rw[e] at h;cases h;intro t b;rcases KE.1 b with rfl|b
     ·exact qY l _ c
     ·exact i _ _ g e t b
def uU{ts:List aM}(h:cR l=.ok ts):qX ts:=wT _ _ _ _ h
def qX.tk{ts:List aM}(h:qX ts)(p:Nat)(a:p<ts.length):iJ (aE ts p):=by
 have:aE ts p=ts[p]:=by unfold aE;rw[KR a];rfl
 rw[this];exact h _ (KG a)
end Go.Proofs.YthbffcmfmjpncaaGreatDoor.Hs
