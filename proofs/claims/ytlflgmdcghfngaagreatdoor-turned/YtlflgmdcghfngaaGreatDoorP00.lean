/- Short words. -/
import Derived.Test.YtlflgmdcghfngaaGreatDoorB00
set_option linter.defProp false
set_option maxRecDepth 100000
namespace Go.Proofs.YtlflgmdcghfngaaGreatDoor
theorem o_{p:Prop}(h:p:=by omega):p:=h
theorem s_{p:Prop}(h:p:=by simp):p:=h
theorem t_{p:Prop}(h:p:=by simp;omega):p:=h
theorem d_{p:Prop}(h:p:=by decide):p:=h
theorem k_{p:Prop}(h:p:=by kernel_rfl):p:=h
theorem r_{p:Prop}(h:p:=by rfl):p:=h
theorem E_{a:Type}(x:a):∃y,y=x:=⟨x,rfl⟩
abbrev I_(n:Int):Value:=.int .i64 n
abbrev aH(b i:Nat):Addr:=⟨b,i,none⟩
abbrev aZ(b:Nat):Value:=.pointer (some ⟨b,0,none⟩)
abbrev bG:Value:=.slice none 0 0
abbrev aX(v:Value):Ending:=.returned v
abbrev cC:Type:=List UInt8
abbrev cN:Type:=List (List UInt8)
abbrev aG:Type:=World
abbrev aQ:Type:=Value
abbrev bY:Type:=Nat->Prop
abbrev eK:Type:=Nat->Value
def nY{a:Type}{p:a->Prop}:∀b,b∈([]:List a)->p b:=λ_ h=>nomatch h
def cL{n:Nat}:n<=n:=en n
def dP{a:Type}{p:a->Prop}(b:a)(h:p b):p b:=h
end Go.Proofs.YtlflgmdcghfngaaGreatDoor
namespace Go.Proofs.YtlflgmdcghfngaaGreatDoor.Hs
variable{t:List Int}{N d h h' hi k lo m n p p0 q v v' v1 v2:Nat}{ar:Nat->Option Nat}{e e':Option Nat}{b c α:Type}{l x:cC}{o e_:cN}
def bE(l:cC):Nat:=1+l.count 10
def kG(a b:cC):bE (a++b)=bE a+b.count 10:=by
 unfold bE;rw[List.count_append];omega
def VB(a:cC):a.count 10<=a.length:=List.count_le_length
def qN(a:cC):bE a<=a.length+1:=by have:=VB a;unfold bE;omega
def FU(a:cC)(c:UInt8):bE (a++[c])=bE a+if c=10 then 1 else 0:=by
 rw[kG];by_cases h:c=10<;>simp[h]
def dN(l:cC)(i lo hi:Nat):Bool:=
 match l[i]? with
 |some b=>decide (lo<=b.toNat) && decide (b.toNat<=hi)
 |none=>false
def bK(l:cC):Nat:=
 match l[0]? with
 |none=>0
 |some b=>
  if b.toNat<128 then 1
  else if 194<=b.toNat/\b.toNat<=223 then if dN l 1 128 191 then 2 else 0
  else if 224<=b.toNat/\b.toNat<=239 then
   if dN l 1 (if b.toNat=224 then 160 else 128) (if b.toNat=237 then 159 else 191) && dN l 2 128 191 then 3 else 0
  else if 240<=b.toNat/\b.toNat<=244 then
   if dN l 1 (if b.toNat=240 then 144 else 128) (if b.toNat=244 then 143 else 191) && dN l 2 128 191 && dN l 3 128 191 then 4 else 0
  else 0
def dZ:Nat->cC->Nat->Option Nat
 |0,_,_=>none
 |f+1,l,p=>
  if l.length=0 then none
  else if bK l=0 then some p
  else dZ f (l.drop (bK l)) (p+bK l)
def eO(c:UInt8):Bool:=decide (48<=c.toNat) && decide (c.toNat<=57)
def fS(c:UInt8):Bool:=
 c.toNat==95 || (decide (97<=c.toNat) && decide (c.toNat<=122) || decide (65<=c.toNat) && decide (c.toNat<=90))
def cY(l what:cC):Bool:=what.isPrefixOf l
def bQ(p:UInt8->Bool):cC->Nat
 |[]=>0
 |c::r=>if p c then bQ p r+1 else 0
def lG(p:UInt8->Bool)(l:cC):bQ p l<=l.length:=by
 induction l with
 |nil=>simp[bQ]
 |cons c r a=>simp only[bQ];split<;>simp<;>omega
def eT(b:UInt8):Bool:=b.toNat != 10
def blankL:Nat->cC->Nat
 |0,_=>0
 |f+1,l=>
  match l with
  |[]=>0
  |c::r=>
   if c.toNat=32\/c.toNat=9\/c.toNat=10 then blankL f r+1
   else if cY (c::r) [47,47] then
    bQ eT (c::r)+blankL f ((c::r).drop (bQ eT (c::r)))
   else 0
def OM:Nat:=9223372036854775807
def dQ:Nat->cC->Option Nat
 |n,[]=>some n
 |n,c::r=>if (OM-(c.toNat-48))/10<n then none else dQ (10*n+(c.toNat-48)) r
def jL:cN:=[[102,117,110,99],[118,97,114],[105,102],[101,108,115,101],[119,104,105,108,101],[114,101,116,117,114,110],[112,114,105,110,116],[116,114,117,101],[102,97,108,115,101]]
def cX:cN:=[[61,61],[33,61],[60,61],[38,38],[124,124],[40],[41],[123],[125],[91],[93],[44],[59],[61],[60],[43],[45],[42],[47],[37],[33]]
def eS(name:Bool)(b:UInt8):Bool:=eO b || name && fS b
def fP(b:UInt8):Bool:=b.toNat != 34 && b.toNat != 10
structure bC where
 sort:Nat
 x_:cC
 l_:Nat
structure qX where
 sort:Nat
 x_:cC
 size:Nat
 ok:Bool
def iG(l:cC)(name:Bool):qX:=
 if name then { sort:=if jL.contains (l.take (bQ (eS name) l)) then 107 else 110,x_:=l.take (bQ (eS name) l),size:=bQ (eS name) l,ok:=decide (bQ (eS name) l<=16) }
 else { sort:=48,x_:=l.take (bQ (eS name) l),size:=bQ (eS name) l,ok:=(dQ 0 (l.take (bQ (eS name) l))).isSome }
def oU(r:cC):qX:=
 { sort:=115,x_:=r.take (bQ fP r),size:=bQ fP r+2,ok:=decide (r[bQ fP r]?=some 34) && decide (bQ fP r<=100) }
def iE(l:cC):qX:=
 match cX.find? (λo=>cY l o) with
 |some o=>{ sort:=112,x_:=o,size:=o.length,ok:=true }
 |none=>{ sort:=0,x_:=[],size:=0,ok:=false }
def cH:cC->qX
 |[]=>{ sort:=0,x_:=[],size:=0,ok:=false }
 |c::r=>if eO c || fS c then iG (c::r) (fS c) else if c.toNat=34 then oU r else iE (c::r)
def eX:Nat->cC->cC->Except Nat (List bC)
 |0,_,_=>.error 0
 |f+1,pre,l=>
  if l.length=0 then .ok [{ sort:=101,x_:=[],l_:=bE pre }]
  else if (cH l).ok then
   match eX f (pre++l.take ((cH l).size+blankL l.length (l.drop (cH l).size))) (l.drop ((cH l).size+blankL l.length (l.drop (cH l).size))) with
   |.ok ts=>.ok ({ sort:=(cH l).sort,x_:=(cH l).x_,l_:=bE pre }::ts)
   |.error n=>.error n
  else .error (bE pre)
def iD(l:cC):Except Nat (List bC):=
 eX (l.length+1) (l.take (blankL l.length l)) (l.drop (blankL l.length l))
def lQ{w:cC}(h:cY l w=true):w.length<=l.length:=(kp.1 h).length_le
def oP(f:Nat)(c:UInt8)(r:cC):blankL (f+1) (c::r)=
 if c.toNat=32\/c.toNat=9\/c.toNat=10 then blankL f r+1
  else if cY (c::r) [47,47] then bQ eT (c::r)+blankL f ((c::r).drop (bQ eT (c::r)))
  else 0:=by
 rw[blankL]
def ET(c:UInt8)(r:cC)(h:cY (c::r) [47,47]=true):1<=bQ eT (c::r):=by
 have b:c=47:=by
  have:=kp.1 h;obtain⟨t,a⟩:=this;simp only[gb,List.cons.injEq] at a;exact a.1.symm
 subst b;rw[bQ,if_pos d_];omega
def xS(f:Nat):∀l:cC,blankL f l<=l.length:=by
 induction f with
 |zero=>intro l;simp[blankL]
 |succ f a=>
  intro l;cases l with
  |nil=>simp[blankL]
  |cons c r=>
   rw[oP];split
   ·have:=a r;simp;omega
   ·split
    ·have b:=a ((c::r).drop (bQ eT (c::r)));have d:=lG eT (c::r);rw[gw] at b;omega
    ·omega
def IC(f:Nat):∀(g:Nat) (l:cC),l.length<=f->l.length<=g->blankL f l=blankL g l:=by
 induction f with
 |zero=>
  intro g l h _;obtain rfl:l=[]:=gg o_
  cases g<;>rfl
 |succ f b=>
  intro g l e d;cases l with
  |nil=>cases g<;>rfl
  |cons c r=>
   cases g with
   |zero=>simp at d
   |succ g=>
    rw[oP,oP];simp only[ep] at e d;rw[b g r o_ o_]
    by_cases a:cY (c::r) [47,47]=true
    ·have i:=ET c r a;rw[b g ((c::r).drop (bQ eT (c::r))) (by rw[gw,ep];omega) (by rw[gw,ep];omega)]
    ·simp only[a];rfl
def uL(l:cC)(b:Bool):(iG l b).size=bQ (eS b) l:=by
 unfold iG;split<;>rfl
def wK(l:cC)(h:(cH l).ok=true):1<=(cH l).size/\(cH l).size<=l.length:=by
 cases l with
 |nil=>simp[cH] at h
 |cons c r=>
  rw[cH] at h ⊢
  split
  ·rename_i b;rw[uL];refine⟨?_,lG _ _⟩
   rw[bQ,if_pos (by
    revert b;unfold eS
    cases eO c<;>cases fS c<;>simp)]
   omega
  ·rename_i b;rw[if_neg b] at h;split
   ·rename_i a;rw[if_pos a] at h;have d:(decide (r[bQ fP r]?=some 34) && decide (bQ fP r<=100))=true:=h;rw[fy,decide_eq_true_eq] at d
    have f:bQ fP r<r.length:=by
     by_cases j:bQ fP r<r.length
     ·exact j
     ·rw[gp o_] at d;exact absurd d.1 s_
    show 1<=bQ fP r+2/\bQ fP r+2<=(c::r).length
    rw[ep];omega
   ·rename_i a;rw[if_neg a] at h;unfold iE at h ⊢
    cases e:cX.find? (λo=>cY (c::r) o) with
    |none=>rw[e] at h;simp at h
    |some o=>
     have i:=List.find?_some e;have g:=iz e;refine⟨?_,lQ i⟩;have:∀o∈cX,1<=o.length:=d_
     exact this o g
def iY(ts:List bC):Except Nat (List bC)->Except Nat (List bC)
 |.ok l=>.ok (ts++l)
 |.error n=>.error n
def FH(x:Except Nat (List bC)):iY [] x=x:=by cases x<;>rfl
def CN(ts:List bC)(t:bC)(x:Except Nat (List bC)):iY (ts++[t]) x=iY ts (iY [t] x):=by cases x<;>simp[iY]
def nH(f:Nat)(a l:cC)(h:l.length=0):eX (f+1) a l=.ok [{ sort:=101,x_:=[],l_:=bE a }]:=by
 rw[eX,if_pos h]
def nI(f:Nat)(a l:cC)(h:¬l.length=0)(b:(cH l).ok=false):eX (f+1) a l=.error (bE a):=by
 rw[eX,if_neg h,if_neg (by rw[b];simp)]
def mS(f:Nat)(a l:cC)(h:¬l.length=0)(c:(cH l).ok=true)(m:Nat)(b:m=(cH l).size+blankL l.length (l.drop (cH l).size)):
 eX (f+1) a l=iY [{ sort:=(cH l).sort,x_:=(cH l).x_,l_:=bE a }] (eX f (a++l.take m) (l.drop m)):=by
 rw[eX,if_neg h,if_pos c,<-b];cases eX f (a++l.take m) (l.drop m)<;>rfl
structure aE where
 op:cC
 l_:Nat
 x_:cC
 y_:List aE
def aT(ts:List bC)(p:Nat):bC:=ts[p]?.getD { sort:=101,x_:=[],l_:=0 }
def bF(ts:List bC)(p:Nat)(x:cC):Bool:=((aT ts p).sort==112 || (aT ts p).sort==107) && (aT ts p).x_==x
abbrev cD(α:Type):=Except Nat (α × Nat)
def bad(ts:List bC)(p:Nat):cD α:=.error (aT ts p).l_
def cK(x:cC):Nat:=
 if x==[124,124] then 0
 else if x==[38,38] then 1
 else if x==[61,61] || (x==[33,61] || (x==[60] || x==[60,61])) then 2
 else if x==[43] || x==[45] then 3
 else if x==[42] || (x==[47] || x==[37]) then 4
 else 9
def dS(E:Nat->cD aE)(ts:List bC):Nat->Nat->List aE->cD (List aE)
 |0,_,_=>.error 0
 |g+1,p,acc=>
  match E p with
  |.error l=>.error l
  |.ok (a,q)=>if bF ts q [44] then dS E ts g (q+1) (acc++[a]) else .ok (acc++[a],q)
def iR(E:Nat->cD aE)(ts:List bC)(p:Nat)(shut:cC):cD (List aE):=
 if bF ts p shut then .ok ([],p) else dS E ts (ts.length+1) p []
def aS(ts:List bC)(x:cC):cD α->cD α
 |.error l=>.error l
 |.ok (a,q)=>if bF ts q x then .ok (a,q+1) else bad ts q
def eZ(E:Nat->cD aE)(ts:List bC)(p:Nat)(opens shut:cC):cD (List aE):=
 if bF ts p opens then aS ts shut (iR E ts (p+1) shut) else bad ts p
def cG{β:Type}(f:α->β):cD α->cD β
 |.error l=>.error l
 |.ok (a,q)=>.ok (f a,q)
def bX{β:Type}(x:cD α)(f:α->Nat->cD β):cD β:=
 match x with
 |.error l=>.error l
 |.ok (a,q)=>f a q
def aV(op:cC)(l_:Nat)(x_:cC)(y_:List aE):aE:={ op:=op,l_:=l_,x_:=x_,y_:=y_ }
def eH(E:Nat->cD aE)(ts:List bC)(p:Nat):cD aE:=
 if (aT ts p).sort==48 || (aT ts p).sort==115 then .ok (aV [UInt8.ofNat (aT ts p).sort] (aT ts p).l_ (aT ts p).x_ [],p+1)
 else if bF ts p [116,114,117,101] || bF ts p [102,97,108,115,101] then .ok (aV [98,111,111,108] (aT ts p).l_ (aT ts p).x_ [],p+1)
 else if bF ts p [40] then aS ts [41] (E (p+1))
 else if bF ts p [91] then cG (aV [108,105,115,116] (aT ts p).l_ (aT ts p).x_) (eZ E ts p [91] [93])
 else if (aT ts p).sort==110 then
  if bF ts (p+1) [40] then cG (aV [99,97,108,108] (aT ts p).l_ (aT ts p).x_) (eZ E ts (p+1) [40] [41])
  else .ok (aV [110,97,109,101] (aT ts p).l_ (aT ts p).x_ [],p+1)
 else bad ts p
def dK(E:Nat->cD aE)(ts:List bC):Nat->aE->Nat->cD aE
 |0,_,_=>.error 0
 |g+1,n,p=>
  if bF ts p [91] then
   match aS ts [93] (E (p+1)) with
   |.error l=>.error l
   |.ok (i,q)=>dK E ts g (aV [105,110,100,101,120] (aT ts p).l_ [] [n,i]) q
  else .ok (n,p)
def eW(E:Nat->cD aE)(ts:List bC):Nat->Nat->cD aE
 |0,_=>.error 0
 |g+1,p=>
  if bF ts p [45] then cG (λx=>aV [45,120] (aT ts p).l_ [] [x]) (eW E ts g (p+1))
  else if bF ts p [33] then cG (λx=>aV [33,120] (aT ts p).l_ [] [x]) (eW E ts g (p+1))
  else bX (eH E ts p) (dK E ts (ts.length+1))
def bJ(L:Nat->cD aE)(ts:List bC)(k:Nat):Nat->aE->Nat->cD aE
 |0,_,_=>.error 0
 |g+1,n,q=>
  if (aT ts q).sort==112 && cK (aT ts q).x_==k then
   match L (q+1) with
   |.error l=>.error l
   |.ok (r,q2)=>if k=2 then .ok (aV (aT ts q).x_ (aT ts q).l_ [] [n,r],q2) else bJ L ts k g (aV (aT ts q).x_ (aT ts q).l_ [] [n,r]) q2
  else .ok (n,q)
def gH(E:Nat->cD aE)(ts:List bC):Nat->Nat->cD aE
 |0,p=>eW E ts (ts.length+1) p
 |j+1,p=>bX (gH E ts j p) (bJ (gH E ts j) ts (4-j) (ts.length+1))
def eM(ts:List bC):Nat->Nat->cD aE
 |0,_=>.error 0
 |f+1,p=>gH (eM ts f) ts 5 p
def fH(E:Nat->cD aE)(ts:List bC):Nat->Nat->List aE->cD (List aE)
 |0,_,_=>.error 0
 |g+1,p,acc=>
  if bF ts p [91] then
   match aS ts [93] (E (p+1)) with
   |.error l=>.error l
   |.ok (i,q)=>fH E ts g q (acc++[i])
  else .ok (acc,p)
def gY(E:Nat->cD aE)(ts:List bC)(p:Nat):cD aE:=
 if (aT ts p).sort==110 then
  if bF ts (p+1) [40] then
   aS ts [59] (cG (λl=>aV [100,111] (aT ts p).l_ (aT ts p).x_ [aV [99,97,108,108] (aT ts p).l_ (aT ts p).x_ l]) (eZ E ts (p+1) [40] [41]))
  else
   bX (aS ts [61] (fH E ts (ts.length+1) (p+1) [])) λidx q=>
    aS ts [59] (cG (λv=>aV [115,101,116] (aT ts p).l_ (aT ts p).x_ (idx++[v])) (E q))
 else bad ts p
def tQ(E:Nat->cD aE)(ts:List bC)(p:Nat):cD aE:=
 if (aT ts (p+1)).sort==110 then
  if bF ts (p+2) [61] then
   aS ts [59] (cG (λv=>aV [118,97,114] (aT ts p).l_ [] [aV [116,97,114,103,101,116] (aT ts (p+1)).l_ (aT ts (p+1)).x_ [],v]) (E (p+3)))
  else bad ts (p+2)
 else bad ts (p+1)
def zF(E B:Nat->cD aE)(ts:List bC)(p:Nat):cD aE:=
 bX (E (p+1)) λc q=>bX (B q) λb q2=>
  if bF ts q2 [101,108,115,101] then cG (λd=>aV [105,102] (aT ts p).l_ [] [c,b,d]) (B (q2+1))
  else .ok (aV [105,102] (aT ts p).l_ [] [c,b],q2)
def pS(E B:Nat->cD aE)(ts:List bC)(p:Nat):cD aE:=
 bX (E (p+1)) λc q=>cG (λb=>aV [119,104,105,108,101] (aT ts p).l_ [] [c,b]) (B q)
def mK(E:Nat->cD aE)(ts:List bC)(p:Nat):cD aE:=
 if bF ts (p+1) [59] then .ok (aV [114,101,116,117,114,110] (aT ts p).l_ [] [],p+2)
 else aS ts [59] (cG (λv=>aV [114,101,116,117,114,110] (aT ts p).l_ [] [v]) (E (p+1)))
def pX(E:Nat->cD aE)(ts:List bC)(p:Nat):cD aE:=
 aS ts [59] (cG (λv=>aV [112,114,105,110,116] (aT ts p).l_ [] [v]) (E (p+1)))
def jU(E B:Nat->cD aE)(ts:List bC)(p:Nat):cD aE:=
 if bF ts p [118,97,114] then tQ E ts p
 else if bF ts p [105,102] then zF E B ts p
 else if bF ts p [119,104,105,108,101] then pS E B ts p
 else if bF ts p [114,101,116,117,114,110] then mK E ts p
 else if bF ts p [112,114,105,110,116] then pX E ts p
 else gY E ts p
def dU(S:Nat->cD aE)(ts:List bC):Nat->Nat->List aE->cD (List aE)
 |0,_,_=>.error 0
 |g+1,p,acc=>
  if bF ts p [125] then .ok (acc,p)
  else
   match S p with
   |.error l=>.error l
   |.ok (s,q)=>dU S ts g q (acc++[s])
def jO(E:Nat->cD aE)(ts:List bC):Nat->Nat->cD aE
 |0,_=>.error 0
 |f+1,p=>
  if bF ts p [123] then
   cG (aV [98,108,111,99,107] (aT ts p).l_ []) (aS ts [125] (dU (jU E (jO E ts f) ts) ts (ts.length+1) (p+1) []))
  else bad ts p
def dD(ts:List bC):Nat->Nat->List aE->cD (List aE)
 |0,_,_=>.error 0
 |g+1,p,acc=>
  if (aT ts p).sort==110 then
   if bF ts (p+1) [44] then dD ts g (p+2) (acc++[aV [112,97,114,97,109] (aT ts p).l_ (aT ts p).x_ []])
   else .ok (acc++[aV [112,97,114,97,109] (aT ts p).l_ (aT ts p).x_ []],p+1)
  else bad ts p
def iN(ts:List bC)(p:Nat):cD (List aE):=
 aS ts [41] (if bF ts p [41] then .ok ([],p) else dD ts (ts.length+1) p [])
def kR(B:Nat->cD aE)(ts:List bC)(p:Nat):cD aE:=
 if bF ts p [102,117,110,99] then
  if (aT ts (p+1)).sort==110 then
   if bF ts (p+2) [40] then
    bX (iN ts (p+3)) λl q=>cG (λb=>aV [102,117,110,99] (aT ts (p+1)).l_ (aT ts (p+1)).x_ (l++[b])) (B q)
   else bad ts (p+2)
  else bad ts (p+1)
 else bad ts p
def fI(F:Nat->cD aE)(ts:List bC):Nat->Nat->List aE->cD (List aE)
 |0,_,_=>.error 0
 |g+1,p,acc=>
  if (aT ts p).sort==101 then .ok (acc,p)
  else
   match F p with
   |.error l=>.error l
   |.ok (s,q)=>fI F ts g q (acc++[s])
def nA(ts:List bC):cD (List aE):=
 fI (kR (jO (eM ts (ts.length+1)) ts (ts.length+1)) ts) ts (ts.length+1) 0 []
structure bZ(ts:List bC):Prop where
 next:∀p,p<ts.length->(aT ts p).sort≠101->p+1<ts.length
 l_:∀p,p<ts.length->(aT ts p).l_≠0
structure cV{α:Type}(N p:Nat)(r:cD α):Prop where
 er:∀l,r=.error l->l≠0
 ok:∀a q,r=.ok (a,q)->p<q/\q<N
structure fN{α:Type}(N p:Nat)(r:cD α):Prop where
 er:∀l,r=.error l->l≠0
 ok:∀a q,r=.ok (a,q)->p<=q/\q<N
def cV.weak{r:cD b}(h:cV N p r):fN N p r:=⟨h.er,λa q e=>by have:=h.ok a q e;omega⟩
def cV.ne{a:Type}{r:cD a}(h:cV N p r):r≠.error 0:=λe=>h.er 0 e rfl
def fN.ne{a:Type}{r:cD a}(h:fN N p r):r≠.error 0:=λe=>h.er 0 e rfl
def cV.low{b:Nat}{r:cD c}(h:cV N p r)(d:b<=p):cV N b r:=⟨h.er,λa q e=>by have:=h.ok a q e;omega⟩
def fN.low{b:Nat}{r:cD c}(h:fN N p r)(d:b<p):cV N b r:=⟨h.er,λa q e=>by have:=h.ok a q e;omega⟩
def cV.of_ok(a:b)(h:p<q)(c:q<N):cV N p (.ok (a,q):cD b):=⟨(λl e=>by cases e),λd f e=>by cases e;exact⟨h,c⟩⟩
def fN.of_ok(a:b)(h:p<=q)(c:q<N):fN N p (.ok (a,q):cD b):=⟨(λl e=>by cases e),λd f e=>by cases e;exact⟨h,c⟩⟩
def cV.map{r:cD b}(f:b->c)(h:cV N p r):cV N p (cG f r):=by
 cases r with
 |error l=>exact⟨λi e=>by cases e;exact h.er _ rfl,λa q e=>by cases e⟩
 |ok d=>obtain⟨a,q⟩:=d;exact⟨(λl e=>by cases e),λg j e=>by cases e;exact h.ok _ _ rfl⟩
def bZ.isT{ts:List bC}(T:bZ ts)(a:p<ts.length)(h:bF ts p x=true):p+1<ts.length:=by
 refine T.next p a λe=>?_
 unfold bF at h;rw[e] at h;simp at h
def bZ.bad{ts:List bC}(T:bZ ts){d:Type}{c:Nat}(b:p<ts.length):cV ts.length c (bad ts p:cD d):=⟨λl e=>by cases e;exact T.l_ p b,λa q e=>by cases e⟩
def bZ.take{ts:List bC}(T:bZ ts){d:Type}{r:cD d}(h:cV ts.length p r):cV ts.length p (aS ts x r):=by
 cases r with
 |error l=>exact⟨λg e=>by cases e;exact h.er _ rfl,λa q e=>by cases e⟩
 |ok c=>
  obtain⟨a,q⟩:=c;have b:=h.ok a q rfl;unfold aS;simp only;split
  ·rename_i f;exact cV.of_ok a o_ (T.isT b.2 f)
  ·exact T.bad b.2
def bZ.takeW{ts:List bC}(T:bZ ts){d:Type}{r:cD d}(h:fN ts.length p r):cV ts.length p (aS ts x r):=by
 cases r with
 |error l=>exact⟨λg e=>by cases e;exact h.er _ rfl,λa q e=>by cases e⟩
 |ok c=>
  obtain⟨a,q⟩:=c;have b:=h.ok a q rfl;unfold aS;simp only;split
  ·rename_i f;exact cV.of_ok a o_ (T.isT b.2 f)
  ·exact T.bad b.2
def bZ.listLoop{ts:List bC}(T:bZ ts){E:Nat->cD aE}(h:∀q,p0<q->q<ts.length->cV ts.length q (E q)):∀(g p:Nat) (acc:List aE),p0<p->p<ts.length->ts.length<=p+g->cV ts.length p (dS E ts g p acc)
 |0,p,acc,_,c,i=>by omega
 |g+1,p,acc,j,c,i=>by
  have d:=h p j c;rw[dS];cases f:E p with
  |error l=>exact⟨λn e=>by cases e;exact d.er _ f,λa q e=>by cases e⟩
  |ok k=>
   obtain⟨a,q⟩:=k;have b:=d.ok a q f;simp only;split
   ·rename_i m;have:=T.isT b.2 m;exact(bZ.listLoop T h g (q+1) (acc++[a]) o_ this o_).low o_
   ·exact cV.of_ok _ b.1 b.2
def bZ.listIn{ts:List bC}(T:bZ ts){E:Nat->cD aE}(c:∀q,p0<q->q<ts.length->cV ts.length q (E q))(b:p0<p)(a:p<ts.length)(y:cC):fN ts.length p (iR E ts p y):=by
 unfold iR;split
 ·exact fN.of_ok _ cL a
 ·exact(T.listLoop c (ts.length+1) p [] b a o_).weak
def bZ.listP{ts:List bC}(T:bZ ts){E:Nat->cD aE}(b:∀q,p0<q->q<ts.length->cV ts.length q (E q))(d:p0<=p)(a:p<ts.length)(x y:cC):cV ts.length p (eZ E ts p x y):=by
 unfold eZ;split
 ·rename_i c;have:=T.isT a c;exact(T.takeW (T.listIn b (p:=p+1) o_ this y)).low o_
 ·exact T.bad a
def bZ.primary{ts:List bC}(T:bZ ts){E:Nat->cD aE}(c:∀q,p0<q->q<ts.length->cV ts.length q (E q))(f:p0<=p)(b:p<ts.length):cV ts.length p (eH E ts p):=by
 unfold eH;split
 ·rename_i a;refine cV.of_ok _ o_ (T.next p b λe=>?_)
  rw[e] at a;simp at a
 split
 ·rename_i a;refine cV.of_ok _ o_ ?_
  rcases Bool.or_eq_true_iff.1 a with a|a
  ·exact T.isT b a
  ·exact T.isT b a
 split
 ·rename_i a;have:=T.isT b a;exact T.take ((c (p+1) o_ this).low o_)
 split
 ·exact(T.listP c f b _ _).map _
 split
 ·rename_i a;have d:p+1<ts.length:=T.next p b λe=>by rw[e] at a;simp at a
  split
  ·exact((T.listP c (p:=p+1) o_ d _ _).low o_).map _
  ·exact cV.of_ok _ o_ d
 ·exact T.bad b
def bZ.index{ts:List bC}(T:bZ ts){E:Nat->cD aE}(f:∀q,p0<q->q<ts.length->cV ts.length q (E q)):∀(g:Nat) (n:aE) (p:Nat),p0<=p->p<ts.length->ts.length<=p+g->fN ts.length p (dK E ts g n p)
 |0,n,p,_,b,h=>by omega
 |g+1,n,p,r,b,h=>by
  rw[dK];split
  ·rename_i m;have k:=T.isT b m;have c:=T.take (x:=[93]) (f (p+1) o_ k)
   cases d:aS ts [93] (E (p+1)) with
   |error l=>exact⟨λs e=>by cases e;exact c.er _ d,λa q e=>by cases e⟩
   |ok o=>
    obtain⟨i,q⟩:=o;have j:=c.ok i q d;exact((bZ.index T f g _ q o_ j.2 o_).low (by omega:p<q)).weak
  ·exact fN.of_ok _ cL b
def bZ.bind{ts:List bC}(_T:bZ ts){d:Type}{r:cD c}{f:c->Nat->cD d}(h:cV ts.length p r)(g:∀a q,p<q->q<ts.length->fN ts.length q (f a q)):cV ts.length p (bX r f):=by
 cases r with
 |error l=>exact⟨λj e=>by cases e;exact h.er _ rfl,λa q e=>by cases e⟩
 |ok i=>
  obtain⟨a,q⟩:=i;have b:=h.ok a q rfl;exact(g a q b.1 b.2).low b.1
def bZ.unary{ts:List bC}(T:bZ ts){E:Nat->cD aE}(c:∀q,p0<q->q<ts.length->cV ts.length q (E q)):∀(g p:Nat),p0<=p->p<ts.length->ts.length<=p+g->cV ts.length p (eW E ts g p)
 |0,p,_,b,i=>by omega
 |g+1,p,j,b,i=>by
  rw[eW];split
  ·rename_i e;have d:=T.isT b e;exact((bZ.unary T c g (p+1) o_ d o_).low o_).map _
  split
  ·rename_i e;have d:=T.isT b e;exact((bZ.unary T c g (p+1) o_ d o_).low o_).map _
  ·exact T.bind (T.primary c j b) λa q h f=>T.index c _ a q o_ f o_
def bZ.levelLoop{ts:List bC}(T:bZ ts){L:Nat->cD aE}(h:∀q,p0<=q->q<ts.length->cV ts.length q (L q)):∀(g:Nat) (n:aE) (q:Nat),p0<=q->q<ts.length->ts.length<=q+g->fN ts.length q (bJ L ts k g n q)
 |0,n,q,_,b,o=>by omega
 |g+1,n,q,s,b,o=>by
  rw[bJ];split
  ·rename_i i;have p:q+1<ts.length:=T.next q b λe=>by rw[e] at i;simp at i
   have f:=h (q+1) o_ p
   cases j:L (q+1) with
   |error l=>exact⟨λt e=>by cases e;exact f.er _ j,λa q e=>by cases e⟩
   |ok m=>
    obtain⟨r,c⟩:=m;have d:=f.ok r c j;simp only;split
    ·exact fN.of_ok _ o_ d.2
    ·exact((bZ.levelLoop T h g _ c o_ d.2 o_).low (by omega:q<c)).weak
  ·exact fN.of_ok _ cL b
def bZ.level{ts:List bC}(T:bZ ts){E:Nat->cD aE}(d:∀q,p0<q->q<ts.length->cV ts.length q (E q)):∀(j p:Nat),p0<=p->p<ts.length->cV ts.length p (gH E ts j p)
 |0,p,c,b=>T.unary d _ p c b o_
 |j+1,p,c,b=>by
  rw[gH];exact T.bind (bZ.level T d j p c b) λa q f e=>T.levelLoop (p0:=p0) (λq c b=>bZ.level T d j q c b) _ a q o_ e o_
def bZ.expr{ts:List bC}(T:bZ ts):∀(f p:Nat),p<ts.length->ts.length<=p+f->cV ts.length p (eM ts f p)
 |0,p,b,d=>by omega
 |f+1,p,b,d=>by
  rw[eM];exact T.level (p0:=p) (λq c a=>bZ.expr T f q a o_) 5 p cL b
def bZ.exprs{ts:List bC}(T:bZ ts):∀q,q<ts.length->cV ts.length q (eM ts (ts.length+1) q):=λq a=>T.expr _ q a o_
def bZ.setLoop{ts:List bC}(T:bZ ts){E:Nat->cD aE}(f:∀q,q<ts.length->cV ts.length q (E q)):∀(g p:Nat) (acc:List aE),p<ts.length->ts.length<=p+g->fN ts.length p (fH E ts g p acc)
 |0,p,acc,b,h=>by omega
 |g+1,p,acc,b,h=>by
  rw[fH];split
  ·rename_i m;have k:=T.isT b m;have c:=T.take (x:=[93]) (f (p+1) k);cases d:aS ts [93] (E (p+1)) with
   |error l=>exact⟨λo e=>by cases e;exact c.er _ d,λa q e=>by cases e⟩
   |ok n=>
    obtain⟨i,q⟩:=n;have j:=c.ok i q d;exact((bZ.setLoop T f g q _ j.2 o_).low (by omega:p<q)).weak
  ·exact fN.of_ok _ cL b
def bZ.simple{ts:List bC}(T:bZ ts){E:Nat->cD aE}(b:∀q,q<ts.length->cV ts.length q (E q))(d:p<ts.length):cV ts.length p (gY E ts p):=by
 unfold gY;split
 ·rename_i f;have c:p+1<ts.length:=T.next p d λe=>by rw[e] at f;simp at f
  split
  ·exact T.take (((T.listP (p0:=p) (λq _ a=>b q a) (p:=p+1) o_ c _ _).low o_).map _)
  ·exact T.bind ((T.takeW (T.setLoop b _ (p+1) [] c o_)).low o_) λg q _ a=>(T.take ((b q a).map _)).weak
 ·exact T.bad d
def bZ.stmt{ts:List bC}(T:bZ ts){E B:Nat->cD aE}(j:∀q,q<ts.length->cV ts.length q (E q))(o:∀q,p<q->q<ts.length->cV ts.length q (B q))(i:p<ts.length):cV ts.length p (jU E B ts p):=by
 unfold jU;split
 ·rename_i d;have a:=T.isT i d;unfold tQ;split
  ·rename_i f;have l:p+2<ts.length:=T.next (p+1) a λe=>by rw[e] at f;simp at f
   split
   ·rename_i m;have s:p+3<ts.length:=T.isT l m;exact T.take (((j (p+3) s).low o_).map _)
   ·exact T.bad l
  ·exact T.bad a
 split
 ·rename_i d;have a:=T.isT i d;unfold zF;refine T.bind ((j (p+1) a).low o_) λc q g h=>(T.bind (o q g h) λb u t k=>?_).weak
  split
  ·rename_i r;have:=T.isT k r;exact(((o (u+1) o_ this).low o_).map _).weak
  ·exact fN.of_ok _ cL k
 split
 ·rename_i d;have a:=T.isT i d;unfold pS;exact T.bind ((j (p+1) a).low o_) λc q g h=>((o q g h).map _).weak
 split
 ·rename_i d;have a:=T.isT i d;unfold mK;split
  ·rename_i n;exact cV.of_ok _ o_ (T.isT a n)
  ·exact T.take (((j (p+1) a).low o_).map _)
 split
 ·rename_i d;have a:=T.isT i d;unfold pX;exact T.take (((j (p+1) a).low o_).map _)
 ·exact T.simple j i
def bZ.blockLoop{ts:List bC}(_T:bZ ts){S:Nat->cD aE}(d:∀q,p0<q->q<ts.length->cV ts.length q (S q)):∀(g p:Nat) (acc:List aE),p0<p->p<ts.length->ts.length<=p+g->fN ts.length p (dU S ts g p acc)
 |0,p,acc,_,b,h=>by omega
 |g+1,p,acc,i,b,h=>by
  rw[dU];split
  ·exact fN.of_ok _ cL b
  ·have c:=d p i b;cases f:S p with
   |error l=>exact⟨λm e=>by cases e;exact c.er _ f,λa q e=>by cases e⟩
   |ok k=>
    obtain⟨s,q⟩:=k;have j:=c.ok s q f;exact((bZ.blockLoop _T d g q _ o_ j.2 o_).low (by omega:p<q)).weak
def bZ.block{ts:List bC}(T:bZ ts){E:Nat->cD aE}(d:∀q,q<ts.length->cV ts.length q (E q)):∀(f p:Nat),p<ts.length->ts.length<=p+f->cV ts.length p (jO E ts f p)
 |0,p,a,h=>by omega
 |f+1,p,a,h=>by
  rw[jO];split
  ·rename_i j;have e:=T.isT a j;refine((T.takeW (T.blockLoop (p0:=p) (λq g c=>T.stmt d (λi k b=>bZ.block T d f i b o_) c) _ (p+1) [] o_ e o_)).low o_).map _
  ·exact T.bad a
def bZ.paramLoop{ts:List bC}(T:bZ ts):∀(g p:Nat) (acc:List aE),p<ts.length->ts.length<=p+g->cV ts.length p (dD ts g p acc)
 |0,p,acc,b,h=>by omega
 |g+1,p,acc,b,h=>by
  rw[dD];split
  ·rename_i f;have d:p+1<ts.length:=T.next p b λe=>by rw[e] at f;simp at f
   split
   ·rename_i a;have c:p+2<ts.length:=T.isT d a;exact(bZ.paramLoop T g (p+2) _ c o_).low o_
   ·exact cV.of_ok _ o_ d
  ·exact T.bad b
def bZ.func{ts:List bC}(T:bZ ts){B:Nat->cD aE}(j:∀q,q<ts.length->cV ts.length q (B q))(h:p<ts.length):cV ts.length p (kR B ts p):=by
 unfold kR;split
 ·rename_i k;have g:=T.isT h k;split
  ·rename_i a;have d:p+2<ts.length:=T.next (p+1) g λe=>by rw[e] at a;simp at a
   split
   ·rename_i f;have c:p+3<ts.length:=T.isT d f
    have b:cV ts.length (p+3) (iN ts (p+3)):=by
     unfold iN;refine T.takeW ?_;split
     ·exact fN.of_ok _ cL c
     ·exact(T.paramLoop _ (p+3) [] c o_).weak
    exact T.bind (b.low o_) λl q _ i=>((j q i).map _).weak
   ·exact T.bad d
  ·exact T.bad g
 ·exact T.bad h
def bZ.progLoop{ts:List bC}(_T:bZ ts){F:Nat->cD aE}(c:∀q,q<ts.length->cV ts.length q (F q)):∀(g p:Nat) (acc:List aE),p<ts.length->ts.length<=p+g->fN ts.length p (fI F ts g p acc)
 |0,p,acc,b,h=>by omega
 |g+1,p,acc,b,h=>by
  rw[fI];split
  ·exact fN.of_ok _ cL b
  ·have d:=c p b;cases f:F p with
   |error l=>exact⟨λk e=>by cases e;exact d.er _ f,λa q e=>by cases e⟩
   |ok j=>
    obtain⟨s,q⟩:=j;have i:=d.ok s q f;exact((bZ.progLoop _T c g q _ i.2 o_).low (by omega:p<q)).weak
def bZ.prog{ts:List bC}(T:bZ ts)(h:0<ts.length):nA ts≠.error 0:=
 (T.progLoop (λq a=>T.func (λc b=>T.block (λq a=>T.exprs q a) _ c b o_) a) _ 0 [] h o_).ne
structure tJ(ts:List bC):Prop where
 some_:0<ts.length
 last:(aT ts (ts.length-1)).sort=101
 l_:∀p,p<ts.length->(aT ts p).l_≠0
def rC(t:bC)(ts:List bC)(p:Nat):aT (t::ts) (p+1)=aT ts p:=by simp[aT]
def NB(f:Nat):∀(a l:cC) (ts:List bC),eX f a l=.ok ts->tJ ts/\ts.length<=f:=by
 induction f with
 |zero=>intro a l ts h;cases h
 |succ f j=>
  intro a l ts h;by_cases d:l.length=0
  ·rw[nH _ _ _ d] at h;cases h;refine⟨⟨s_,rfl,λp c=>?_⟩,s_⟩
   obtain rfl:p=0:=by simp at c;omega
   show bE a≠0
   unfold bE;omega
  ·cases i:(cH l).ok
   ·rw[nI _ _ _ d i] at h;cases h
   ·rw[mS _ _ _ d i _ rfl] at h;cases g:eX f (a++l.take ((cH l).size+blankL l.length (l.drop (cH l).size))) (l.drop ((cH l).size+blankL l.length (l.drop (cH l).size))) with
    |error n=>rw[g] at h;cases h
    |ok b=>
     rw[g] at h;cases h;obtain⟨e,k⟩:=j _ _ b g;refine⟨⟨s_,?_,λp c=>?_⟩,t_⟩
     ·have:=e.some_;show (aT (_::b) ((_::b).length-1)).sort=101
      rw[ep,show b.length+1-1=(b.length-1)+1 by omega,rC]
      exact e.last
     ·cases p with
      |zero=>show bE a≠0;unfold bE;omega
      |succ p=>
       show (aT (_::b) (p+1)).l_≠0
       rw[rC];exact e.l_ p (by simpa using c)
def tJ.ok{ts:List bC}(h:tJ ts):bZ ts:=
 ⟨λp b a=>by
   by_cases e:p=ts.length-1
   ·subst e;exact absurd h.last a
   ·omega,h.l_⟩
def mT{ts:List bC}(h:iD l=.ok ts):tJ ts/\ts.length<=l.length+1:=NB _ _ _ _ h
def cO(l:cC):Except (Nat × Nat) (List aE):=
 if 2000<l.length then .error (1,0)
 else match dZ l.length l 0 with
  |some k=>.error (2,bE (l.take k))
  |none=>
   match iD l with
   |.error n=>.error (3,n)
   |.ok ts=>
    match nA ts with
    |.error n=>.error (4,n)
    |.ok (ks,_)=>.ok ks
structure bD where
 e_:cN
 kind:Nat
 l_:Nat
def bD.found(s:bD)(l_ kind:Nat):bD:=if s.kind=0 then { s with kind:=kind,l_:=l_ } else s
def gI(x:cC):Bool:=x==[108,101,110] || x==[114,101,97,100]
def declaresL(s:bD)(n:aE):bD:=if gI n.x_ || s.e_.contains n.x_ then s.found n.l_ 6 else s
def dT(fs:List aE)(name:cC):Option aE:=fs.find? λf=>f.x_==name
def jE(fs:List aE)(a_:Bool)(name:cC):Int:=
 if name==[108,101,110] then 1
 else if name==[114,101,97,100] && !a_ then 0
 else match dT fs name with
  |some f=>(f.y_.length:Int)-1
  |none=> -1
def eP(fs:List aE)(a_:Bool)(s:bD)(n:aE):bD:=
 if jE fs a_ n.x_<0 then s.found n.l_ 6
 else if jE fs a_ n.x_≠(n.y_.length:Int) then s.found n.l_ 7
 else s
def cM(fs:List aE)(a_:Bool)(s:bD)(n:aE):bD:=
 if n.op==[115,101,116] || n.op==[110,97,109,101] then (if s.e_.contains n.x_ then s else s.found n.l_ 6)
 else if n.op==[99,97,108,108] then eP fs a_ s n
 else s
def aP(fs:List aE)(a_:Bool):Nat->aE->bD->bD
 |0,_,s=>s
 |d+1,n,s=>
  if n.op==[118,97,114] then
   match n.y_ with
   |t::v::_=>let s1:=aP fs a_ d v (declaresL s t);{ s1 with e_:=s1.e_++[t.x_] }
   |_=>s
  else
   let s1:=n.y_.foldl (λs k=>aP fs a_ d k s) (cM fs a_ s n)
   if n.op==[98,108,111,99,107] then { s1 with e_:=s1.e_.take s.e_.length } else s1
def cF:Nat->aE->Nat
 |0,_=>0
 |d+1,n=>1+(n.y_.map (cF d)).sum
def Z7:Nat->aE->Prop
 |0,_=>True
 |d+1,n=>(n.op=[118,97,114]->2<=n.y_.length)/\∀k∈n.y_,Z7 d k
def FineA(m:Nat)(a:aE):Prop:=∀d,cF d a<=m/\Z7 d a
def FineL(m:Nat)(l:List aE):Prop:=∀d,(l.map (cF d)).sum<=m/\∀k∈l,Z7 d k
def FineA.le{a:aE}(h:FineA m a)(b:m<=n):FineA n a:=λd=>⟨em (h d).1 b,(h d).2⟩
def FineL.le{a:List aE}(h:FineL m a)(b:m<=n):FineL n a:=λd=>⟨em (h d).1 b,(h d).2⟩
def FineL.nil:FineL 0 []:=λ_=>⟨en _,λ_ h=>by cases h⟩
def FineL.snoc{l:List aE}{a:aE}(h:FineL m l)(c:FineA n a):FineL (m+n) (l++[a]):=λd=>by
 refine⟨?_,λk b=>?_⟩
 ·rw[gi,io];have f:=(h d).1;have e:=(c d).1;simp;omega
 ·rcases eu.1 b with b|b
  ·exact(h d).2 k b
  ·rw[ew.1 b];exact(c d).2
def FineL.one{a:aE}(b:FineA n a):FineL n [a]:=λd=>by
 refine⟨?_,λk c=>?_⟩
 ·have e:=(b d).1;simp;omega
 ·rw[ew.1 c];exact(b d).2
def FineL.two{a b:aE}(c:FineA m a)(d:FineA n b):FineL (m+n) [a,b]:=(FineL.one c).snoc d
def FineL.three{a b c:aE}(d:FineA m a)(e:FineA n b)(f:FineA k c):FineL (m+n+k) [a,b,c]:=(FineL.two d e).snoc f
def FineA.node{l:List aE}{op a:cC}{b:Nat}(h:FineL m l)(c:op=[118,97,114]->2<=l.length):FineA (m+1) (aV op b a l):=λd=>by
 cases d with
 |zero=>exact⟨ft _,trivial⟩
 |succ d=>
  refine⟨?_,c,(h d).2⟩;have:=(h d).1;show 1+(l.map (cF d)).sum<=m+1
  omega
def bO(P:Nat->α->Prop)(p:Nat)(r:cD α):Prop:=∀a q,r=.ok (a,q)->∃m,p+m<=q/\P m a
def bO.bad{P:Nat->c->Prop}{b:Nat}{ts:List bC}:bO P p (bad ts b):=λa q h=>by cases h
def bO.err{P:Nat->b->Prop}:bO P p (.error n):=λa q h=>by cases h
def bO.of_ok{P:Nat->b->Prop}{a:b}(c:p+m<=q)(h:P m a):bO P p (.ok (a,q)):=λd f e=>by cases e;exact⟨m,c,h⟩
def bO.take{P:Nat->b->Prop}{ts:List bC}{r:cD b}(h:bO P p r):bO P p (aS ts x r):=by
 cases r with
 |error l=>exact bO.err
 |ok c=>
  obtain⟨a,q⟩:=c;obtain⟨m,e,d⟩:=h a q rfl;unfold aS;simp only;split
  ·exact bO.of_ok o_ d
  ·exact bO.bad
def bO.map{P:Nat->b->Prop}{Q:Nat->c->Prop}{r:cD b}{f:b->c}(h:bO P p r)(n:d+k<=p)(i:∀m a,P m a->Q (m+k) (f a)):bO Q d (cG f r):=by
 cases r with
 |error l=>exact bO.err
 |ok g=>
  obtain⟨a,q⟩:=g;obtain⟨m,j,e⟩:=h a q rfl;exact bO.of_ok (m:=m+k) o_ (i m a e)
def bO.bind{P:Nat->b->Prop}{Q:Nat->c->Prop}{r:cD b}{f:b->Nat->cD c}(h:bO P p r)(e:∀m a q,P m a->p+m<=q->bO Q d (f a q)):bO Q d (bX r f):=by
 cases r with
 |error l=>exact bO.err
 |ok g=>
  obtain⟨a,q⟩:=g;obtain⟨m,j,i⟩:=h a q rfl;exact e m a q i j
def bO.low{P:Nat->c->Prop}{b:Nat}{r:cD c}(h:bO P p r)(f:b<=p):bO P b r:=λa q e=>by
 obtain⟨m,g,d⟩:=h a q e;exact⟨m,o_,d⟩
section
variable {ts:List bC} {E:Nat->cD aE}
def sB(c:∀q,bO FineA q (E q)):∀(g p:Nat) (acc:List aE) (m0 p0:Nat),FineL m0 acc->p0+m0<=p->bO FineL p0 (dS E ts g p acc)
 |0,p,acc,_,_,_,_=>bO.err
 |g+1,p,acc,m0,p0,d,h=>by
  rw[dS];cases f:E p with
  |error l=>exact bO.err
  |ok e=>
   obtain⟨a,q⟩:=e;obtain⟨m,i,b⟩:=c p a q f;simp only;split
   ·exact sB c g (q+1) _ (m0+m) p0 (d.snoc b) o_
   ·exact bO.of_ok (m:=m0+m) o_ (d.snoc b)
def sA(a:∀q,bO FineA q (E q))(p:Nat)(x y:cC):bO FineL (p+1) (eZ E ts p x y):=by
 unfold eZ;split
 ·refine bO.take ?_;unfold iR;split
  ·exact bO.of_ok (m:=0) o_ FineL.nil
  ·exact sB a _ _ _ 0 _ FineL.nil o_
 ·exact bO.bad
def mI{op a:cC}{b:Nat}(c:op≠[118,97,114]):FineA 1 (aV op b a []):=FineA.node (m:=0) FineL.nil λh=>absurd h c
def JE(b:∀q,bO FineA q (E q))(p:Nat):bO FineA p (eH E ts p):=by
 unfold eH;split
 ·exact bO.of_ok (m:=1) o_ (mI s_)
 split
 ·exact bO.of_ok (m:=1) o_ (mI s_)
 split
 ·exact((b (p+1)).take).low o_
 split
 ·exact bO.map (k:=1) (sA b p _ _) o_ λm a h=>FineA.node h s_
 split
 ·split
  ·exact bO.map (k:=1) (sA b (p+1) _ _) o_ λm a h=>FineA.node h s_
  ·exact bO.of_ok (m:=1) o_ (mI s_)
 ·exact bO.bad
def AF(b:∀q,bO FineA q (E q)):∀(g:Nat) (n:aE) (p m0 p0:Nat),FineA m0 n->p0+m0<=p->bO FineA p0 (dK E ts g n p)
 |0,n,p,_,_,_,_=>bO.err
 |g+1,n,p,m0,p0,a,d=>by
  rw[dK];split
  ·have c:=(b (p+1)).take (ts:=ts) (x:=[93]);cases f:aS ts [93] (E (p+1)) with
   |error l=>exact bO.err
   |ok h=>
    obtain⟨i,q⟩:=h;obtain⟨m,j,e⟩:=c i q f;exact AF b g _ q (m0+m+1) p0 (FineA.node (FineL.two a e) s_) o_
  ·exact bO.of_ok d a
def rY(b:∀q,bO FineA q (E q)):∀(g p:Nat),bO FineA p (eW E ts g p)
 |0,p=>bO.err
 |g+1,p=>by
  rw[eW];split
  ·exact bO.map (k:=1) (rY b g (p+1)) o_ λm a h=>FineA.node (FineL.one h) s_
  split
  ·exact bO.map (k:=1) (rY b g (p+1)) o_ λm a h=>FineA.node (FineL.one h) s_
  ·exact bO.bind (JE b p) λm a q d c=>AF b _ a q m p d c
def rG{L:Nat->cD aE}{k:Nat}(c:∀q,bO FineA q (L q)):∀(g:Nat) (n:aE) (q m0 p0:Nat),FineA m0 n->p0+m0<=q->bO FineA p0 (bJ L ts k g n q)
 |0,n,q,_,_,_,_=>bO.err
 |g+1,n,q,m0,p0,b,j=>by
  rw[bJ];split
  ·cases o:L (q+1) with
   |error l=>exact bO.err
   |ok h=>
    obtain⟨r,f⟩:=h;obtain⟨m,p,i⟩:=c _ r f o;have d:∀e a,FineA (m0+m+1) (aV e a [] [n,r]):=λe a=>FineA.node (FineL.two b i) s_
    simp only;split
    ·exact bO.of_ok (m:=m0+m+1) o_ (d _ _)
    ·exact rG c g _ f (m0+m+1) p0 (d _ _) o_
  ·exact bO.of_ok j b
def sC(b:∀q,bO FineA q (E q)):∀(j p:Nat),bO FineA p (gH E ts j p)
 |0,p=>rY b _ p
 |j+1,p=>by
  rw[gH];exact bO.bind (sC b j p) λm a q d c=>rG (λq=>sC b j q) _ a q m p d c
def vO(ts:List bC):∀(f p:Nat),bO FineA p (eM ts f p)
 |0,p=>bO.err
 |f+1,p=>by
  rw[eM];exact sC (λq=>vO ts f q) 5 p
def uN(b:∀q,bO FineA q (E q)):∀(g p:Nat) (acc:List aE) (m0 p0:Nat),FineL m0 acc->p0+m0<=p->bO FineL p0 (fH E ts g p acc)
 |0,p,acc,_,_,_,_=>bO.err
 |g+1,p,acc,m0,p0,a,d=>by
  rw[fH];split
  ·have c:=(b (p+1)).take (ts:=ts) (x:=[93]);cases f:aS ts [93] (E (p+1)) with
   |error l=>exact bO.err
   |ok h=>
    obtain⟨i,q⟩:=h;obtain⟨m,j,e⟩:=c i q f;exact uN b g q _ (m0+m) p0 (a.snoc e) o_
  ·exact bO.of_ok d a
def NL(b:∀q,bO FineA q (E q))(p:Nat):bO FineA p (gY E ts p):=by
 unfold gY;split
 ·split
  ·exact bO.take (bO.map (k:=2) (sA b (p+1) _ _) o_ λm a h=>FineA.node (FineL.one (FineA.node h s_)) s_)
  ·refine bO.bind ((uN b _ (p+1) [] 0 (p+1) FineL.nil o_).take) λm l q d f=>?_
   exact bO.take (bO.map (k:=m+1) (b q) o_ λe v c=>FineA.le (FineA.node (d.snoc c) s_) o_)
 ·exact bO.bad
def WO{B:Nat->cD aE}(a:∀q,bO FineA q (E q))(h:∀q,bO FineA q (B q))(p:Nat):bO FineA p (jU E B ts p):=by
 unfold jU;split
 ·unfold tQ;split
  ·split
   ·exact bO.take (bO.map (k:=2) (a (p+3)) o_ λm v e=>FineA.le (FineA.node (FineL.two (mI s_) e) s_) o_)
   ·exact bO.bad
  ·exact bO.bad
 split
 ·unfold zF;refine bO.bind (a (p+1)) λm c q f l=>bO.bind (h q) λg b o i s=>?_
  split
  ·exact bO.map (k:=m+g+1) (h (o+1)) o_ λr d j=>FineA.le (FineA.node (FineL.three f i j) s_) o_
  ·exact bO.of_ok (m:=m+g+1) o_ (FineA.node (FineL.two f i) s_)
 split
 ·unfold pS;exact bO.bind (a (p+1)) λm c q f l=>bO.map (k:=m+1) (h q) o_ λg b n=>FineA.le (FineA.node (FineL.two f n) s_) o_
 split
 ·unfold mK;split
  ·exact bO.of_ok (m:=1) o_ (mI s_)
  ·exact bO.take (bO.map (k:=1) (a (p+1)) o_ λm v e=>FineA.node (FineL.one e) s_)
 split
 ·unfold pX;exact bO.take (bO.map (k:=1) (a (p+1)) o_ λm v e=>FineA.node (FineL.one e) s_)
 ·exact NL a p
def rH{S:Nat->cD aE}(b:∀q,bO FineA q (S q)):∀(g p:Nat) (acc:List aE) (m0 p0:Nat),FineL m0 acc->p0+m0<=p->bO FineL p0 (dU S ts g p acc)
 |0,p,acc,_,_,_,_=>bO.err
 |g+1,p,acc,m0,p0,a,c=>by
  rw[dU];split
  ·exact bO.of_ok c a
  ·cases e:S p with
   |error l=>exact bO.err
   |ok f=>
    obtain⟨s,q⟩:=f;obtain⟨m,h,d⟩:=b p s q e;exact rH b g q _ (m0+m) p0 (a.snoc d) o_
def AG(a:∀q,bO FineA q (E q)):∀(f p:Nat),bO FineA p (jO E ts f p)
 |0,p=>bO.err
 |f+1,p=>by
  rw[jO];split
  ·exact bO.map (k:=1) (bO.take (rH (λq=>WO a (λq=>AG a f q) q) _ (p+1) [] 0 (p+1) FineL.nil o_)) o_ λm l h=>FineA.node h s_
  ·exact bO.bad
def rF:∀(g p:Nat) (acc:List aE) (m0 p0:Nat),FineL m0 acc->p0+m0<=p->bO FineL p0 (dD ts g p acc)
 |0,p,acc,_,_,_,_=>bO.err
 |g+1,p,acc,m0,p0,b,c=>by
  have a:FineL (m0+1) (acc++[aV [112,97,114,97,109] (aT ts p).l_ (aT ts p).x_ []]):=b.snoc (mI s_)
  rw[dD];split
  ·split
   ·exact rF g (p+2) _ (m0+1) p0 a o_
   ·exact bO.of_ok (m:=m0+1) o_ a
  ·exact bO.bad
def WQ{B:Nat->cD aE}(c:∀q,bO FineA q (B q))(p:Nat):bO FineA p (kR B ts p):=by
 unfold kR;split
 ·split
  ·split
   ·have a:bO FineL (p+3) (iN ts (p+3)):=by
     unfold iN;refine bO.take ?_;split
     ·exact bO.of_ok (m:=0) o_ FineL.nil
     ·exact rF _ (p+3) [] 0 (p+3) FineL.nil o_
    exact bO.bind a λm l q d g=>bO.map (k:=m+1) (c q) o_ λf b e=>FineA.le (FineA.node (d.snoc e) s_) o_
   ·exact bO.bad
  ·exact bO.bad
 ·exact bO.bad
def rZ{F:Nat->cD aE}(b:∀q,bO FineA q (F q)):∀(g p:Nat) (acc:List aE) (m0 p0:Nat),FineL m0 acc->p0+m0<=p->bO FineL p0 (fI F ts g p acc)
 |0,p,acc,_,_,_,_=>bO.err
 |g+1,p,acc,m0,p0,a,c=>by
  rw[fI];split
  ·exact bO.of_ok c a
  ·cases f:F p with
   |error l=>exact bO.err
   |ok d=>
    obtain⟨s,q⟩:=d;obtain⟨m,h,e⟩:=b p s q f;exact rZ b g q _ (m0+m) p0 (a.snoc e) o_
end
def WP(ts:List bC)(T:bZ ts)(e:0<ts.length)(ks:List aE)(q:Nat)(h:nA ts=.ok (ks,q)):FineL ts.length ks:=by
 obtain⟨m,f,d⟩:=rZ (λq=>WQ (λb=>AG (λq=>vO ts _ q) _ b) q) (ts.length+1) 0 [] 0 0 FineL.nil o_ ks q h
 have:=(T.progLoop (λq a=>T.func (λb c=>T.block (λq a=>T.exprs q a) _ b c o_) a) _ 0 [] e o_).ok ks q h
 exact d.le o_
def lP{ks:List aE}(h:cO l=.ok ks):FineL 2001 ks:=by
 unfold cO at h;split at h
 ·cases h
 rename_i e;split at h
 ·cases h
 split at h
 ·cases h
 rename_i c d;obtain⟨a,f⟩:=mT d;split at h
 ·cases h
 rename_i q b;cases h;exact(WP c a.ok a.some_ _ _ b).le o_
def fG:Nat->aE->Prop
 |0,_=>False
 |d+1,n=>∀k∈n.y_,fG d k
def mV:∀(m:Nat) (a:aE),FineA m a->fG m a
 |0,a,h=>by
  have:=(h 1).1;simp only[cF] at this;omega
 |m+1,a,h=>λk b=>mV m k λd=>by
  have f:=(h (d+1)).1;have e:=(h (d+1)).2.2 k b;refine⟨?_,e⟩
  have:cF d k<=(a.y_.map (cF d)).sum:=by
   have:∀l:List aE,k∈l->cF d k<=(l.map (cF d)).sum:=by
    intro l;induction l with
    |nil=>intro h;cases h
    |cons x l c=>
     intro h;simp only[fg,fm];rcases eo.1 h with rfl|h
     ·omega
     ·have:=c h;omega
   exact this _ b
  simp only[cF] at f;omega
def eY(fs:List aE)(d:Nat)(s:bD)(k:aE):bD:=
 if k.op==[112,97,114,97,109] then { declaresL s k with e_:=(declaresL s k).e_++[k.x_] } else aP fs false d k s
def gO(fs:List aE)(d:Nat)(s:bD)(n:aE)(first:Bool):bD:=
 n.y_.foldl (eY fs d) { (if gI n.x_ || !first then s.found n.l_ 6 else s) with e_:=[] }
def fL(fs:List aE)(d:Nat):List aE->List aE->bD->bD
 |_,[],s=>s
 |pre,n::rest,s=>fL fs d (pre++[n]) rest (gO fs d s n (dT pre n.x_).isNone)
def lI(d:Nat)(ks:List aE):Nat × Nat:=
 match dT ks [109,97,105,110] with
 |none=>(5,0)
 |some m=>if 1<m.y_.length then (5,0) else ((fL ks d [] ks ⟨[],0,0⟩).kind,(fL ks d [] ks ⟨[],0,0⟩).l_)
def cE(l:cC):Nat × Nat:=
 match cO l with
 |.error f=>f
 |.ok ks=>lI 2001 ks
def pY(t:bC):Prop:=t.sort=112\/(t.sort=107/\jL.contains t.x_=true)\/t.sort=110\/(t.sort=48/\(dQ 0 t.x_).isSome=true)\/t.sort=115\/t.sort=101
def IG(ts:List bC):Prop:=∀t∈ts,pY t
def IQ(l:cC)(l_:Nat)(h:(cH l).ok=true):pY { sort:=(cH l).sort,x_:=(cH l).x_,l_:=l_ }:=by
 cases l with
 |nil=>simp[cH] at h
 |cons c r=>
  rw[cH] at h ⊢
  split
  ·rename_i a;rw[if_pos a] at h;unfold iG at h ⊢
   split
   ·by_cases b:jL.contains ((c::r).take (bQ (eS (fS c)) (c::r)))=true
    ·rw[if_pos b];exact d6 (d7 ⟨rfl,b⟩)
    ·rw[if_neg b];exact d6 (d6 (d7 rfl))
   ·rename_i f;rw[if_neg f] at h;exact d6 (d6 (d6 (d7 ⟨rfl,h⟩)))
  ·rename_i a;rw[if_neg a] at h;split
   ·exact d6 (d6 (d6 (d6 (d7 rfl))))
   ·rename_i d;rw[if_neg d] at h;unfold iE at h ⊢
    cases e:cX.find? (λo=>cY (c::r) o) with
    |none=>rw[e] at h;simp at h
    |some o=>exact d7 rfl
def WH(f:Nat):∀(a l:cC) (ts:List bC),eX f a l=.ok ts->IG ts:=by
 induction f with
 |zero=>intro a l ts h;cases h
 |succ f i=>
  intro a l ts h;by_cases d:l.length=0
  ·rw[nH _ _ _ d] at h;cases h;intro t b;rw[ew.1 b];exact d6 (d6 (d6 (d6 (d6 rfl))))
  ·cases c:(cH l).ok
   ·rw[nI _ _ _ d c] at h;cases h
   ·rw[mS _ _ _ d c _ rfl] at h;cases e:eX f (a++l.take ((cH l).size+blankL l.length (l.drop (cH l).size))) (l.drop ((cH l).size+blankL l.length (l.drop (cH l).size))) with
    |error n=>rw[e] at h;cases h
    |ok g=>
     rw[e] at h;cases h;intro t b;rcases eo.1 b with rfl|b
     ·exact IQ l _ c
     ·exact i _ _ g e t b
def AD{ts:List bC}(h:iD l=.ok ts):IG ts:=WH _ _ _ _ h
def IG.tk{ts:List bC}(h:IG ts)(p:Nat)(a:p<ts.length):pY (aT ts p):=by
 have:aT ts p=ts[p]:=by unfold aT;rw[fh a];rfl
 rw[this];exact h _ (fo a)
structure aM where
 sort:Nat
 n:Int
 s:cC
 l:List aM
def aM.ind{P:aM->Prop}(h:∀v,(∀x,x∈v.l->P x)->P v):∀v,P v
 |⟨a,b,c,l⟩=>h ⟨a,b,c,l⟩ λx _=>aM.ind h x
def bH(n:Int):aM:=⟨0,n,[],[]⟩
def bV(b:Bool):aM:=⟨1,if b then 1 else 0,[],[]⟩
def bP(s:cC):aM:=⟨2,0,s,[]⟩
def bB(l:List aM):aM:=⟨3,0,[],l⟩
def bS:aM:=⟨0,0,[],[]⟩
noncomputable def aM.fold(f:Nat->Int->cC->List α->α)(v:aM):α:=
 aM.rec (motive_1:=λ_=>α) (motive_2:=λ_=>List α) (λa n s _ c=>f a n s c) [] (λ_ _ h t=>h::t) v
def aM.fold_eq(f:Nat->Int->cC->List b->b)(v:aM):v.fold f=f v.sort v.n v.s (v.l.map (aM.fold f)):=by
 obtain⟨a,n,s,l⟩:=v;refine congrArg (f a n s) ?_;induction l with
 |nil=>rfl
 |cons x l c=>exact congrArg (aM.fold f x::·) c
noncomputable def aO(v:aM):Nat:=v.fold λ_ _ s c=>1+s.length+c.sum
def fJ(v:aM):aO v=1+v.s.length+(v.l.map aO).sum:=aM.fold_eq _ v
def oJ:List (α->Bool)->List α->Bool
 |[],[]=>true
 |f::fs,x::xs=>f x && oJ fs xs
 |_,_=>false
noncomputable def cP(x:aM):aM->Bool:=x.fold λa n s c y=>a==y.sort && (n==y.n && (s==y.s && oJ c y.l))
def XH(x y:aM):cP x y=(x.sort==y.sort && (x.n==y.n && (x.s==y.s && oJ (x.l.map cP) y.l))):=congrFun (aM.fold_eq _ x) y
def AJ:∀x y:aM,cP x y=true↔x=y:=by
 refine aM.ind λx e y=>?_
 have d:∀(l:List aM),(∀v,v∈l->∀y,cP v y=true↔v=y)->∀m:List aM,oJ (l.map cP) m=true↔l=m:=by
  intro l;induction l with
  |nil=>intro _ m;cases m<;>simp[oJ]
  |cons a l c=>
   intro h m;cases m with
   |nil=>simp[oJ]
   |cons b m=>simp[oJ,h a s_ b,c (λv f=>h v (by simp[f])) m]
 rw[XH];simp only[fy,beq_iff_eq,d x.l e y.l];constructor
 ·rintro⟨j,g,k,i⟩;cases x;cases y;simp_all
 ·rintro rfl;simp
def kB:Nat->Nat->cC->cC
 |0,_,t=>t
 |f+1,n,t=>if n<10 then UInt8.ofNat (48+n)::t else kB f (n/10) (UInt8.ofNat (48+n%10)::t)
def jA(n:Int):cC:=(if n<0 then [45] else [])++kB 20 n.natAbs []
def fU:cN->cC
 |[]=>[]
 |[x]=>x
 |x::r=>x++[44,32]++fU r
noncomputable def cJ(v:aM):cC:=
 v.fold λa n s c=>if a=0 then jA n else if a=1 then (if n=1 then [116,114,117,101] else [102,97,108,115,101]) else if a=2 then [34]++s++[34] else [91]++fU c++[93]
def kP(v:aM):cJ v=if v.sort=0 then jA v.n else if v.sort=1 then (if v.n=1 then [116,114,117,101] else [102,97,108,115,101]) else if v.sort=2 then [34]++v.s++[34] else [91]++fU (v.l.map cJ)++[93]:=aM.fold_eq _ v
noncomputable def kQ(v:aM):cC:=if v.sort=2 then v.s else cJ v
def lO(n:Int):Int:=(n+9223372036854775808)%18446744073709551616-9223372036854775808
noncomputable def jY(a b:aM):aM × Nat:=
 let v:=if a.sort=3 then bB (a.l++b.l) else bP (a.s++b.s)
 if 200<aO v then (bS,6) else (v,0)
def jZ(op:cC)(x y:Int):aM × Nat:=
 if op=[43] then (bH (lO (x+y)),0)
 else if op=[45] then (bH (lO (x-y)),0)
 else if op=[42] then (bH (lO (x*y)),0)
 else if op=[60] then (bV (decide (x<y)),0)
 else if op=[60,61] then (bV (decide (x<=y)),0)
 else if y=0 then (bS,3)
 else if op=[47] then (bH (lO (x.tdiv y)),0)
 else (bH (lO (x.tmod y)),0)
def iA:cC->cC->Bool
 |[],[]=>false
 |[],_::_=>true
 |_::_,[]=>false
 |a::l,b::m=>if a.toNat<b.toNat then true else if b.toNat<a.toNat then false else iA l m
noncomputable def fA(op:cC)(a b:aM):aM × Nat:=
 if op=[61,61] then (bV (cP a b),0)
 else if op=[33,61] then (bV (!cP a b),0)
 else if a.sort≠b.sort\/a.sort=1 then (bS,2)
 else if a.sort=0 then jZ op a.n b.n
 else if op=[43] then jY a b
 else if a.sort=2/\op=[60] then (bV (iA a.s b.s),0)
 else if a.sort=2/\op=[60,61] then (bV (!iA b.s a.s),0)
 else (bS,2)
def fW(op:cC)(a:aM):aM × Nat:=
 if op=[45,120]/\a.sort=0 then (bH (lO (-a.n)),0)
 else if op=[33,120]/\a.sort=1 then (bV (decide (a.n=0)),0)
 else (bS,2)
def iU:Nat->cC->cN
 |0,_=>[]
 |f+1,l=>if l=[] then [] else if bK l=0 then [] else l.take (bK l)::iU f (l.drop (bK l))
def eG(l:cC):cN:=iU l.length l
def eL(a:aM):aM × Nat:=
 if a.sort=3 then (bH a.l.length,0) else if a.sort=2 then (bH (eG a.s).length,0) else (bS,2)
def kF(a:aM):List aM:=if a.sort=2 then (eG a.s).map bP else a.l
def dL(a b:aM):aM × Nat:=
 if a.sort<2\/b.sort≠0 then (bS,2)
 else if b.n<0\/((kF a).length:Int)<=b.n then (bS,4)
 else ((kF a).getD b.n.toNat bS,0)
def cW:List aM->aM->aM->aM × Nat
 |[],_,v=>(v,0)
 |i::at',old,v=>
  if old.sort≠3\/i.sort≠0 then (bS,2)
  else if i.n<0\/(old.l.length:Int)<=i.n then (bS,4)
  else if (cW at' (old.l.getD i.n.toNat bS) v).2≠0 then (bS,(cW at' (old.l.getD i.n.toNat bS) v).2)
  else (bB (old.l.set i.n.toNat (cW at' (old.l.getD i.n.toNat bS) v).1),0)
def kW:bK l<=l.length:=by
 unfold bK;cases l with
 |nil=>simp
 |cons b r=>
  simp only[List.getElem?_cons_zero]
  have q:∀i c d,dN (b::r) i c d=true->i<(b::r).length:=by
   intro i c d h;unfold dN at h;rcases fu i (b::r).length with a|a
   ·exact a
   ·rw[gp a] at h;simp at h
  split
  ·simp
  split
  ·split
   ·have:=q 1 _ _ (by assumption);omega
   ·simp
  split
  ·generalize (if b.toNat=224 then 160 else 128)=f
   generalize (if b.toNat=237 then 159 else 191)=e
   split
   ·rename_i h;rw[fy] at h;have:=q 2 _ _ h.2;omega
   ·simp
  split
  ·generalize (if b.toNat=240 then 144 else 128)=f
   generalize (if b.toNat=244 then 143 else 191)=e
   split
   ·rename_i h;rw[fy] at h;have:=q 3 _ _ h.2;omega
   ·simp
  ·simp
def tG:∀(f:Nat) (l:cC),l.length<=f->iU f l=eG l:=by
 have h:∀(n f g:Nat) (l:cC),l.length<=n->l.length<=f->l.length<=g->iU f l=iU g l:=by
  intro n;induction n with
  |zero=>
   intro f g l e c i;have:l=[]:=ja.1 o_
   subst this;cases f<;>cases g<;>simp[iU]
  |succ n d=>
   intro f g l e c i;by_cases a:l=[]
   ·subst a;cases f<;>cases g<;>simp[iU]
   ·have j:0<l.length:=gx.2 a;cases f with
    |zero=>omega
    |succ f=>
     cases g with
     |zero=>omega
     |succ g=>
      rw[iU,iU,if_neg a,if_neg a];by_cases b:bK l=0
      ·rw[if_pos b,if_pos b]
      ·rw[if_neg b,if_neg b,d f g (l.drop (bK l)) (by rw[gw];omega) (by rw[gw];omega) (by rw[gw];omega)]
 exact λf l a=>h l.length f l.length l cL a cL
def iT(a:l≠[])(b:bK l≠0):eG l=l.take (bK l)::eG (l.drop (bK l)):=by
 have c:0<l.length:=gx.2 a;obtain⟨n,d⟩:∃n,l.length=n+1:=⟨l.length-1,o_⟩
 rw[<-tG (n+1) l o_,iU,if_neg a,if_neg b,tG n _ (by rw[gw];omega)]
def eC(h:l=[]\/bK l=0):eG l=[]:=by
 unfold eG;cases a:l.length with
 |zero=>rfl
 |succ n=>
  rw[iU];rcases h with h|h
  ·rw[if_pos h]
  ·rw[if_pos h];split<;>rfl
def uY(l:cC):(eG l).length<=l.length:=by
 have h:∀(n:Nat) (l:cC),l.length<=n->(eG l).length<=l.length:=by
  intro n;induction n with
  |zero=>
   intro l d;rw[eC (d7 (ja.1 o_))];simp
  |succ n c=>
   intro l d;by_cases a:l=[]
   ·rw[eC (d7 a)];simp
   by_cases b:bK l=0
   ·rw[eC (d6 b)];simp
   have e:0<l.length:=gx.2 a;rw[iT a b,ep];have:=c (l.drop (bK l)) (by rw[gw];omega)
   rw[gw] at this;have:= @kW l;omega
 exact h l.length l cL
inductive aI where
 |begin (l_:Nat) (e_:cN)
 |push (v:aM)
 |load (slot:Nat)
 |declare (slot:Nat)
 |assign (slot n:Nat)
 |jump (to_:Nat)
 |skip (to_:Nat)
 |shortcut (when:Bool) (to_:Nat)
 |truth
 |unary (op:cC)
 |binary (op:cC)
 |index
 |list (n:Nat)
 |length
 |read
 |call (f:Nat) (n:Nat)
 |give
 |drop
 |print
def aI.isBegin:aI->Bool
 |.begin _ _=>true
 |_=>false
structure eV where
 name:cC
 code:List aI
structure aJ where
 fn:eV
 next:Nat
 l_:Nat
 e_:cN
 g_:List aM
 ops:List aM
structure cS where
 f_:List aJ
 tape:List Int
 out:cN
def aJ.push(f:aJ)(v:aM):aJ:={ f with ops:=f.ops++[v] }
def aJ.last(f:aJ):aM:=f.ops.getLast?.getD bS
def aJ.pop(f:aJ):aJ:={ f with ops:=f.ops.dropLast }
def aJ.many(f:aJ)(n:Nat):List aM:=f.ops.drop (f.ops.length-n)
def aJ.popMany(f:aJ)(n:Nat):aJ:={ f with ops:=f.ops.take (f.ops.length-n) }
noncomputable def iS(r:aM × Nat):aM × Nat:=if r.2=0 then if 200<aO r.1 then (bS,6) else r else r
noncomputable def oO(whole:aM)(at_:List aM)(to_:aM):aM × Nat:=iS (cW at_ whole to_)
noncomputable def aL(i:aI)(f:aJ):aJ × Nat:=
 match i with
 |.begin l s=>({ f with l_:=l,e_:=s },0)
 |.push v=>(f.push v,0)
 |.load k=>(f.push (f.g_[k]?.getD bS),0)
 |.declare k=>({ f.pop with g_:=f.g_.take k++[f.last] },0)
 |.assign k n=>
  let g:=f.pop.popMany n
  let r:=oO (f.g_[k]?.getD bS) (f.pop.many n) f.last
  if r.2=0 then ({ g with g_:=f.g_.set k r.1 },0) else (g,r.2)
 |.jump t=>({ f with next:=t },0)
 |.skip t=>if f.last.sort=1 then (if f.last.n=1 then f.pop else { f.pop with next:=t },0) else (f.pop,2)
 |.shortcut w t=>if f.last.sort=1 then (if decide (f.last.n=1)=w then { f.pop.push f.last with next:=t } else f.pop,0) else (f.pop,2)
 |.truth=>if f.last.sort=1 then (f.pop.push f.last,0) else (f.pop,2)
 |.unary op=>let r:=fW (op++[120]) f.last;if r.2=0 then (f.pop.push r.1,0) else (f.pop,r.2)
 |.binary op=>let r:=fA op f.pop.last f.last;if r.2=0 then (f.pop.pop.push r.1,0) else (f.pop.pop,r.2)
 |.index=>let r:=dL f.pop.last f.last;if r.2=0 then (f.pop.pop.push r.1,0) else (f.pop.pop,r.2)
 |.list n=>let r:=iS (bB (f.many n),0);if r.2=0 then ((f.popMany n).push r.1,0) else (f.popMany n,r.2)
 |.length=>let r:=eL f.last;if r.2=0 then (f.pop.push r.1,0) else (f.pop,r.2)
 |.drop=>(f.pop,0)
 |_=>(f,0)
noncomputable def doI(tab:List eV)(i:aI)(w_:List aJ)(f:aJ)(tape:List Int)(out:cN):cS × Nat:=
 match i with
 |.read=>
  match tape with
  |[]=>(⟨w_++[f],tape,out⟩,7)
  |t::r=>(⟨w_++[f.push (bH t)],r,out⟩,0)
 |.call k n=>
  if w_.length+1=16 then (⟨w_++[f.popMany n],tape,out⟩,5)
  else (⟨w_++[f.popMany n,⟨tab[k]?.getD ⟨[],[]⟩,0,0,[],f.many n,[]⟩],tape,out⟩,0)
 |.give=>(⟨w_.dropLast++(w_.getLast?.map λg=>g.push f.last).toList,tape,out⟩,0)
 |.print=>if out.length=50 then (⟨w_++[f.pop],tape,out⟩,8) else (⟨w_++[f.pop],tape,out++[kQ f.last]⟩,0)
 |i=>let r:=aL i f;(⟨w_++[r.1],tape,out⟩,r.2)
def aJ.fetch(f:aJ):Option (aI × aJ):=f.fn.code[f.next]?.map λi=>(i,{ f with next:=f.next+1 })
noncomputable def dR(tab:List eV):Nat->cS->Option (cS × Nat)
 |0,_=>none
 |k+1,m=>
  match m.f_.getLast? with
  |none=>some (m,1)
  |some f=>
   match f.fetch with
   |none=>none
   |some (i,g)=>
    let r:=doI tab i m.f_.dropLast g m.tape m.out
    if r.2≠0 then some r
    else if i.isBegin then some r
    else dR tab k r.1
structure aW where
 m_:Nat
 m:cS
 stop:Nat
def cA(m_ stop:Nat):Nat:=if stop=0/\m_=500 then 9 else stop
def dV:cN->cC->Nat
 |[],_=>0
 |x::l,name=>if x=name then l.length else dV l name
def dG(fs:List aE)(name:cC):Nat:=fs.findIdx λf=>f.x_==name
def bW(c:aE->Nat->List aI):List aE->Nat->List aI
 |[],_=>[]
 |a::l,p=>c a p++bW c l (p+(c a p).length)
def aF(fs:List aE)(e_:cN):Nat->aE->Nat->List aI
 |0,_,_=>[]
 |d+1,a,p=>
  let y_:=bW (aF fs e_ d) a.y_ p
  if a.op==[48] then [.push (bH (((dQ 0 a.x_).getD 0:Nat):Int))]
  else if a.op==[115] then [.push (bP a.x_)]
  else if a.op==[98,111,111,108] then [.push (bV (a.x_==[116,114,117,101]))]
  else if a.op==[110,97,109,101] then [.load (dV e_ a.x_)]
  else if a.op==[108,105,115,116] then y_++[.list a.y_.length]
  else if a.op==[105,110,100,101,120] then y_++[.index]
  else if a.op==[45,120] then y_++[.unary [45]]
  else if a.op==[33,120] then y_++[.unary [33]]
  else if a.op==[99,97,108,108] then
   y_++[if a.x_==[108,101,110] then .length else if a.x_==[114,101,97,100] then .read else .call (dG fs a.x_) a.y_.length]
  else if a.op==[38,38] || a.op==[124,124] then
   match a.y_ with
   |[l,r]=>
    let cl:=aF fs e_ d l p
    let cr:=aF fs e_ d r (p+cl.length+1)
    cl++[.shortcut (a.op==[124,124]) (p+cl.length+1+cr.length+1)]++cr++[.truth]
   |_=>[]
  else y_++[.binary a.op]
def bL(c:cN->aE->Nat->List aI × cN):cN->List aE->Nat->List aI
 |_,[],_=>[]
 |e_,a::l,p=>(c e_ a p).1++bL c (c e_ a p).2 l (p+(c e_ a p).1.length)
def bA(fs:List aE):Nat->cN->aE->Nat->List aI × cN
 |0,e_,_,_=>([],e_)
 |d+1,e_,a,p=>
  let start:=aI.begin a.l_ e_
  let blk:=λ(b:aE) q=>bL (bA fs d) e_ b.y_ q
  if a.op==[118,97,114] then
   match a.y_ with
   |[t,v]=>(start::aF fs e_ d v (p+1)++[.declare e_.length],t.x_::e_)
   |_=>([],e_)
  else if a.op==[115,101,116] then
   (start::bW (aF fs e_ d) a.y_ (p+1)++[.assign (dV e_ a.x_) (a.y_.length-1)],e_)
  else if a.op==[105,102] then
   match a.y_ with
   |c::t::e=>
    let cc:=aF fs e_ d c (p+1)
    let ct:=blk t (p+1+cc.length+1)
    let q:=p+1+cc.length+1+ct.length+1
    let ce:=match e with|[x]=>blk x q|_=>[]
    (start::cc++[.skip q]++ct++[.jump (q+ce.length)]++ce,e_)
   |_=>([],e_)
  else if a.op==[119,104,105,108,101] then
   match a.y_ with
   |[c,b]=>
    let cc:=aF fs e_ d c (p+1)
    let cb:=blk b (p+1+cc.length+1)
    (start::cc++[.skip (p+1+cc.length+1+cb.length+1)]++cb++[.jump p],e_)
   |_=>([],e_)
  else if a.op==[114,101,116,117,114,110] then
   match a.y_ with
   |[v]=>(start::aF fs e_ d v (p+1)++[.give],e_)
   |_=>([start,.push (bH 0),.give],e_)
  else if a.op==[112,114,105,110,116] then
   match a.y_ with
   |[v]=>(start::aF fs e_ d v (p+1)++[.print],e_)
   |_=>([],e_)
  else
   match a.y_ with
   |[c]=>(start::aF fs e_ d c (p+1)++[.drop],e_)
   |_=>([],e_)
def fO(fs:List aE)(d:Nat)(f:aE):eV:=
 let e_:=(f.y_.dropLast.map (·.x_)).reverse
 ⟨f.x_,bL (bA fs d) e_ ((f.y_.getLast?.map (·.y_)).getD []) 0++[.push (bH 0),.give]⟩
def dC(fs:List aE)(d:Nat):List eV:=fs.map (fO fs d)
def gD(fs:List aE)(d:Nat)(tape:List Int):cS:=⟨[⟨(dC fs d)[dG fs [109,97,105,110]]?.getD ⟨[],[]⟩,0,0,[],[],[]⟩],tape,[]⟩
structure eJ where
 h:Nat
 v:Nat
 e:Option Nat
 b:Bool
def eR(D:bY)(T:Nat->eJ)(q h v:Nat)(e:Option Nat):Prop:=D q/\(T q).h=h/\(T q).v<=v/\((T q).e=none\/(T q).e=e)
def iL(ar:Nat->Option Nat)(D:bY)(T:Nat->eJ)(p:Nat)(i:aI):Prop:=
 (T p).b=i.isBegin/\(T p).h<=p/\
 match i with
 |.begin _ s=>s.length<=(T p).v/\eR D T (p+1) (T p).h (T p).v (some s.length)
 |.push _=>eR D T (p+1) ((T p).h+1) (T p).v (T p).e
 |.load k=>k<(T p).v/\eR D T (p+1) ((T p).h+1) (T p).v (T p).e
 |.declare k=>1<=(T p).h/\k<=(T p).v/\k<=90000/\(T p).e=some k/\eR D T (p+1) ((T p).h-1) (k+1) (T p).e
 |.assign k n=>n+1<=(T p).h/\k<(T p).v/\eR D T (p+1) ((T p).h-(n+1)) (T p).v (T p).e
 |.jump q=>(p<q\/(T q).b=true)/\eR D T q (T p).h (T p).v (T p).e
 |.skip q=>1<=(T p).h/\p<q/\eR D T q ((T p).h-1) (T p).v (T p).e/\eR D T (p+1) ((T p).h-1) (T p).v (T p).e
 |.shortcut _ q=>1<=(T p).h/\p<q/\eR D T q (T p).h (T p).v (T p).e/\eR D T (p+1) ((T p).h-1) (T p).v (T p).e
 |.truth=>1<=(T p).h/\eR D T (p+1) (T p).h (T p).v (T p).e
 |.unary _=>1<=(T p).h/\eR D T (p+1) (T p).h (T p).v (T p).e
 |.length=>1<=(T p).h/\eR D T (p+1) (T p).h (T p).v (T p).e
 |.binary _=>2<=(T p).h/\eR D T (p+1) ((T p).h-1) (T p).v (T p).e
 |.index=>2<=(T p).h/\eR D T (p+1) ((T p).h-1) (T p).v (T p).e
 |.list n=>n<=(T p).h/\eR D T (p+1) ((T p).h-n+1) (T p).v (T p).e
 |.read=>eR D T (p+1) ((T p).h+1) (T p).v (T p).e
 |.call k n=>n<=(T p).h/\ar k=some n/\eR D T (p+1) ((T p).h-n+1) (T p).v (T p).e
 |.give=>1<=(T p).h
 |.drop=>1<=(T p).h/\eR D T (p+1) ((T p).h-1) (T p).v (T p).e
 |.print=>1<=(T p).h/\eR D T (p+1) ((T p).h-1) (T p).v (T p).e
def QI(L:Nat->eJ->Prop)(lo hi:Nat)(q:Nat):Prop:=(lo<=q/\q<=hi)\/∃y,L q y
def bM(ar:Nat->Option Nat)(L:Nat->eJ->Prop)(p:Nat)(c:List aI)(h v:Nat)(e:Option Nat)(h' v':Nat)(e':Option Nat):Prop:=
 ∃T:Nat->eJ,(∀q y,L q y->T q=y)/\(T p).h=h/\(T p).v<=v/\((T p).e=none\/(T p).e=e)/\
  (T (p+c.length)).h=h'/\(T (p+c.length)).v=v'/\(T (p+c.length)).e=e'/\
  ∀j i,c[j]?=some i->iL ar (QI L p (p+c.length)) T (p+j) i
def eR.same{D b:bY}{T T':Nat->eJ}(f:eR D T q h v e)(c:D q->b q/\(T' q).h=(T q).h/\(T' q).v<=(T q).v/\((T' q).e=none\/(T' q).e=(T q).e)):eR b T' q h v e:=by
 obtain⟨j,d,m,i⟩:=f;obtain⟨k,g,l,a⟩:=c j;refine⟨k,by rw[g,d],o_,?_⟩
 rcases a with a|a
 ·exact d7 a
 ·rw[a];exact i
def iL.same{D e:bY}{T T':Nat->eJ}{i:aI}(f:iL ar D T p i)(c:T' p=T p)
 (b:∀q,D q->e q/\(T' q).h=(T q).h/\(T' q).v<=(T q).v/\((T' q).e=none\/(T' q).e=(T q).e)) (k:∀q,D q->q<=p->(T q).b=true->(T' q).b=true):iL ar e T' p i:=by
 obtain⟨j,g,a⟩:=f;refine⟨by rw[c];exact j,by rw[c];exact g,?_⟩
 cases i<;>simp only at a ⊢<;>try rw[c]
 case jump q=>
  refine⟨?_,a.2.same (b _)⟩;rcases a.1 with h|h
  ·exact d7 h
  ·rcases fu p q with d|d
   ·exact d7 d
   ·exact d6 (k q a.2.1 d h)
 all_goals first
  |exact a
  |exact a.same (b _)
  |exact⟨a.1,a.2.same (b _)⟩
  |exact⟨a.1,a.2.1,a.2.2.same (b _)⟩
  |exact⟨a.1,a.2.1,a.2.2.1.same (b _),a.2.2.2.same (b _)⟩
  |exact⟨a.1,a.2.1,a.2.2.1,a.2.2.2.1,a.2.2.2.2.same (b _)⟩
def bM.append{L:Nat->eJ->Prop}{c c':List aI}{s r:Nat}{w t:Option Nat}(a:bM ar L p c h v e s v1 w)(b:bM ar L (p+c.length) c' s v1 w r v2 t)
 (F:∀q y,L q y->q<=p\/p+c.length+c'.length<=q) (I:c≠[]):bM ar L p (c++c') h v e r v2 t:=by
 obtain⟨T,n,x,z,C,H,E,D,G⟩:=a;obtain⟨U,u1,u2,u3,u4,u5,u6,u7,u8⟩:=b;have B:0<c.length:=gx.2 I;have f:(c++c').length=c.length+c'.length:=el;refine⟨λq=>if q<p+c.length then T q else U q,λq y d=>?_,?_,?_,?_,?_,?_,?_,λj i m=>?_⟩
 ·rcases F q y d with h|h
  ·simp only[if_pos (show q<p+c.length by omega)];exact n q y d
  ·simp only[if_neg (show ¬q<p+c.length by omega)];exact u1 q y d
 ·simp only[if_pos (show p<p+c.length by omega)];exact x
 ·simp only[if_pos (show p<p+c.length by omega)];exact z
 ·simp only[if_pos (show p<p+c.length by omega)];exact C
 ·simp only[if_neg (show ¬p+(c++c').length<p+c.length by omega)];rw[f,<-jk];exact u5
 ·simp only[if_neg (show ¬p+(c++c').length<p+c.length by omega)];rw[f,<-jk];exact u6
 ·simp only[if_neg (show ¬p+(c++c').length<p+c.length by omega)];rw[f,<-jk];exact u7
 ·rcases fu j c.length with k|k
  ·rw[hQ k] at m;refine(G j i m).same (by simp only[if_pos (show p+j<p+c.length by omega)]) (λq d=>?_) (λq d o l=>?_)
   ·rcases fu q (p+c.length) with h|h
    ·rw[if_pos h];exact⟨d.imp (λd=>⟨d.1,o_⟩) id,rfl,cL,d6 rfl⟩
    ·rw[if_neg (show ¬q<p+c.length by omega)]
     rcases ii h with h|h
     ·subst h;exact⟨d7 ⟨o_,o_⟩,by rw[u2,H],by rw[E];exact u3,by rw[D];exact u4⟩
     ·rcases d with d|⟨y,g⟩
      ·omega
      ·rw[n q y g,u1 q y g];exact⟨d6 ⟨y,g⟩,rfl,cL,d6 rfl⟩
   ·simp only[if_pos (show q<p+c.length by omega)];exact l
  ·rw[gl k] at m;have u:=u8 (j-c.length) i m;rw[show p+c.length+(j-c.length)=p+j by omega] at u
   have A:j-c.length<c'.length:=(gq.1 m).1;refine u.same (by simp only[if_neg (show ¬p+j<p+c.length by omega)]) (λq d=>?_) (λq d o l=>?_)
   ·rcases d with d|⟨y,g⟩
    ·rw[if_neg (show ¬q<p+c.length by omega)]
     exact⟨d7 ⟨o_,o_⟩,rfl,cL,d6 rfl⟩
    ·refine⟨d6 ⟨y,g⟩,?_⟩;split
     ·rw[n q y g,u1 q y g];exact⟨rfl,cL,d6 rfl⟩
     ·exact⟨rfl,cL,d6 rfl⟩
   ·rcases d with d|⟨y,g⟩
    ·simp only[if_neg (show ¬q<p+c.length by omega)];exact l
    ·split
     ·rw[n q y g,<-u1 q y g];exact l
     ·exact l
def bM.nil(ar:Nat->Option Nat)(p h v:Nat)(e:Option Nat)(L:Nat->eJ->Prop)(k:∀q y,L q y->q=p->y.h=h/\y.v=v/\y.e=e)(l:∀q y z,L q y->L q z->y=z):bM ar L p [] h v e h v e:=by
 classical
 refine⟨λq=>if hq:∃y,L q y then hq.choose else ⟨h,v,e,false⟩,λq y d=>?_,?_⟩
 ·have a:∃y,L q y:=⟨y,d⟩;simp only[dif_pos a];exact l q _ _ a.choose_spec d
 ·simp only[ey,Nat.add_zero];split
  ·rename_i a;obtain⟨c,g,f⟩:=k p _ a.choose_spec rfl;exact⟨c,o_,d6 f,c,g,f,λj i b=>by simp at b⟩
  ·exact⟨rfl,cL,d6 rfl,rfl,rfl,rfl,λj i b=>by simp at b⟩
structure qG(ar:Nat->Option Nat)(c:List aI)(T:Nat->eJ):Prop where
 ins:∀j i,c[j]?=some i->iL ar (λq=>q<c.length) T j i
 len:c.length<=80000
def jB(c:List aI):Prop:=(∃l s r,c=.begin l s::r)\/∃v,c=[.push v,.give]
structure cR(ar:Nat->Option Nat)(f:aJ)(more:Nat):Prop where
 code:∃T,qG ar f.fn.code T/\(T f.next).h=f.ops.length+more/\(T f.next).v<=f.g_.length/\((T f.next).e=none\/(T f.next).e=some f.e_.length)
 next:f.next<f.fn.code.length
 e_:f.e_.length<=f.g_.length
 g_:f.g_.length<=90001
structure kU(ar:Nat->Option Nat)(tab:List eV):Prop where
 fn:∀k n,ar k=some n->∃f T,tab[k]?=some f/\qG ar f.code T/\(T 0).h=0/\(T 0).v<=n/\(T 0).e=none/\
  jB f.code
structure oR(ar:Nat->Option Nat)(m:cS):Prop where
 low:∀f∈m.f_.dropLast,cR ar f 1
 top:∀f,m.f_.getLast?=some f->cR ar f 0
 deep:m.f_.length<=16
def fC(l:List b)(a:b):(l++[a]).getLast?=some a:=s_
def gE(l:List b)(a:b):(l++[a]).dropLast=l:=s_
def oR.snoc{a:List aJ}{f:aJ}(d:∀g∈a,cR ar g 1)(c:cR ar f 0)(e:a.length+1<=16):oR ar ⟨a++[f],t,o⟩:=
 ⟨by simp only[gE];exact d,λg b=>by simp only[fC] at b;cases b;exact c,t_⟩
def cR.flow{T:Nat->eJ}{f g:aJ}(l:qG ar f.fn.code T)(j:eR (λq=>q<f.fn.code.length) T g.next h v e)(b:g.fn=f.fn)(m:h=g.ops.length)(n:v<=g.g_.length)(d:e=none\/e=some g.e_.length)
 (i:g.e_.length<=g.g_.length) (k:g.g_.length<=90001):cR ar g 0:=by
 obtain⟨c,o,p,a⟩:=j;refine⟨⟨T,by rw[b];exact l,o_,o_,?_⟩,by rw[b];exact c,i,k⟩
 rcases a with a|a
 ·exact d7 a
 ·rw[a];exact d
def aJ.pop_len(f:aJ):f.pop.ops.length=f.ops.length-1:=by simp[aJ.pop]
def aJ.push_len(f:aJ)(v:aM):(f.push v).ops.length=f.ops.length+1:=by simp[aJ.push]
def aJ.popMany_len(f:aJ)(n:Nat):(f.popMany n).ops.length=f.ops.length-n:=by simp[aJ.popMany]
def JU{T:Nat->eJ}{f:aJ}{i:aI}(d:qG ar f.fn.code T)(hi:iL ar (λq=>q<f.fn.code.length) T f.next i)
 (o:(T f.next).h=f.ops.length) (g:(T f.next).v<=f.g_.length) (c:(T f.next).e=none\/(T f.next).e=some f.e_.length) (b:f.e_.length<=f.g_.length) (e:f.g_.length<=90001)
 (B:i≠.give) (A:i≠.read) (y:i≠.print) (t:∀k n,i≠.call k n) (r:aJ × Nat) (a:r=aL i { f with next:=f.next+1 }):
 r.1.e_.length<=r.1.g_.length/\(r.2=0->cR ar r.1 0):=by
 obtain⟨_,_,hi⟩:=hi;have u:=b;cases i with
 |give=>exact absurd rfl B
 |read=>exact absurd rfl A
 |print=>exact absurd rfl y
 |call k n=>exact absurd rfl (t k n)
 |begin l s=>
  simp only[aL] at a hi;subst a;exact⟨by simp only;omega,λ_=>cR.flow (f:=f) d hi.2 rfl o g (d6 rfl) (by simp only;omega) e⟩
 |push v=>
  simp only[aL] at a hi;subst a;exact⟨b,λ_=>cR.flow (f:=f) d hi rfl (by rw[aJ.push_len];simp only;omega) g c b e⟩
 |load k=>
  simp only[aL] at a hi;subst a;exact⟨b,λ_=>cR.flow (f:=f) d hi.2 rfl (by rw[aJ.push_len];simp only;omega) g c b e⟩
 |declare k=>
  simp only[aL] at a hi;subst a;obtain⟨F,D,E,z,x⟩:=hi;have p:f.e_.length=k:=by rcases c with c|c<;>rw[z] at c<;>cases c;rfl
  have m:(f.g_.take k++[aJ.last { f with next:=f.next+1 }]).length=k+1:=t_
  exact⟨by show f.e_.length<=(f.g_.take k++[_]).length;rw[m];omega,λ_=>cR.flow (f:=f) d x rfl (by show _=(aJ.pop _).ops.length;rw[aJ.pop_len];simp only;omega) (by show _<=(f.g_.take k++[_]).length;rw[m];omega) c (by show f.e_.length<=(f.g_.take k++[_]).length;rw[m];omega) (by show (f.g_.take k++[_]).length<=_;rw[m];omega)⟩
 |assign k n=>
  simp only[aL] at a hi;split at a
  ·subst a;refine⟨by simp only[im];exact b,λ_=>cR.flow (f:=f) d hi.2.2 rfl ?_ (by simp only[im];exact g) c (by simp only[im];exact b) (by simp only[im];exact e)⟩
   show _=(aJ.popMany _ n).ops.length
   rw[aJ.popMany_len,aJ.pop_len];simp only;omega
  ·subst a;rename_i j;exact⟨b,λh=>absurd h j⟩
 |jump q=>
  simp only[aL] at a hi;subst a;exact⟨b,λ_=>cR.flow (f:=f) d hi.2 rfl o g c b e⟩
 |skip q=>
  simp only[aL] at a hi;split at a
  ·subst a;refine⟨?_,λ_=>?_⟩
   ·split<;>exact b
   ·split
    ·exact cR.flow (f:=f) d hi.2.2.2 rfl (by rw[aJ.pop_len];simp only;omega) g c b e
    ·exact cR.flow (f:=f) d hi.2.2.1 rfl (by show _=(aJ.pop _).ops.length;rw[aJ.pop_len];simp only;omega) g c b e
  ·subst a;exact⟨b,λh=>absurd h s_⟩
 |shortcut w q=>
  simp only[aL] at a hi;split at a
  ·subst a;refine⟨?_,λ_=>?_⟩
   ·split<;>exact b
   ·split
    ·exact cR.flow (f:=f) d hi.2.2.1 rfl (by show _=(aJ.push (aJ.pop _) _).ops.length;rw[aJ.push_len,aJ.pop_len];simp only;omega) g c b e
    ·exact cR.flow (f:=f) d hi.2.2.2 rfl (by rw[aJ.pop_len];simp only;omega) g c b e
  ·subst a;exact⟨b,λh=>absurd h s_⟩
 |truth=>
  simp only[aL] at a hi;split at a
  ·subst a;exact⟨b,λ_=>cR.flow (f:=f) d hi.2 rfl (by rw[aJ.push_len,aJ.pop_len];simp only;omega) g c b e⟩
  ·subst a;exact⟨b,λh=>absurd h s_⟩
 |unary C=>
  simp only[aL] at a hi;split at a
  ·subst a;exact⟨b,λ_=>cR.flow (f:=f) d hi.2 rfl (by rw[aJ.push_len,aJ.pop_len];simp only;omega) g c b e⟩
  ·subst a;rename_i j;exact⟨b,λh=>absurd h j⟩
 |length=>
  simp only[aL] at a hi;split at a
  ·subst a;exact⟨b,λ_=>cR.flow (f:=f) d hi.2 rfl (by rw[aJ.push_len,aJ.pop_len];simp only;omega) g c b e⟩
  ·subst a;rename_i j;exact⟨b,λh=>absurd h j⟩
 |binary C=>
  simp only[aL] at a hi;split at a
  ·subst a;exact⟨b,λ_=>cR.flow (f:=f) d hi.2 rfl (by rw[aJ.push_len,aJ.pop_len,aJ.pop_len];simp only;omega) g c b e⟩
  ·subst a;rename_i j;exact⟨b,λh=>absurd h j⟩
 |index=>
  simp only[aL] at a hi;split at a
  ·subst a;exact⟨b,λ_=>cR.flow (f:=f) d hi.2 rfl (by rw[aJ.push_len,aJ.pop_len,aJ.pop_len];simp only;omega) g c b e⟩
  ·subst a;rename_i j;exact⟨b,λh=>absurd h j⟩
 |list n=>
  simp only[aL] at a hi;split at a
  ·subst a;exact⟨b,λ_=>cR.flow (f:=f) d hi.2 rfl (by rw[aJ.push_len,aJ.popMany_len];simp only;omega) g c b e⟩
  ·subst a;rename_i j;exact⟨b,λh=>absurd h j⟩
 |drop=>
  simp only[aL] at a hi;subst a;exact⟨b,λ_=>cR.flow (f:=f) d hi.2 rfl (by rw[aJ.pop_len];simp only;omega) g c b e⟩
structure fY(ar:Nat->Option Nat)(m:cS):Prop where
 ok:oR ar m
 start:∀f∈m.f_,jB f.fn.code
def cR.pushed{f:aJ}(h:cR ar f 1)(v:aM):cR ar (f.push v) 0:=by
 obtain⟨⟨T,c,i,g,b⟩,e,a,d⟩:=h;exact⟨⟨T,c,by show (T f.next).h=(f.ops++[v]).length+0;simp;omega,g,b⟩,e,a,d⟩
def uB{b:List eV}{i:aI}{a:List aJ}{f:aJ}(g:i≠.give)(e:i≠.read)(c:i≠.print)(d:∀k n,i≠.call k n):doI b i a f t o=(⟨a++[(aL i f).1],t,o⟩,(aL i f).2):=by
 cases i<;>first|rfl|exact absurd rfl g|exact absurd rfl e|exact absurd rfl c|exact absurd rfl (d _ _)
def jM(i:aI)(f:aJ):(aL i f).1.fn=f.fn:=by
 cases i<;>simp only[aL]<;>(repeat' split)<;>rfl
def zR{A:List eV}(ht:kU ar A){d:List aJ}{f:aJ}(h:fY ar ⟨d++[f],t,o⟩){i:aI}{g:aJ}(I:f.fetch=some (i,g)):
 (∀x∈(doI A i d g t o).1.f_,x.e_.length<=x.g_.length)/\(doI A i d g t o).1.f_.length<=16/\((doI A i d g t o).2=0->fY ar (doI A i d g t o).1):=by
 have q:∀x∈d,cR ar x 1:=by have:=h.ok.low;simpa only[gE] using this
 have Q:cR ar f 0:=h.ok.top f (fC _ _);have w:d.length+1<=16:=by have:=h.ok.deep;simpa using this
 have z:∀x∈d,jB x.fn.code:=λx m=>h.start x (by simp[m])
 have H:jB f.fn.code:=h.start f s_
 obtain⟨⟨T,K,hh,W,X⟩,ac,C,V⟩:=Q
 obtain⟨rfl,hi⟩:g={ f with next:=f.next+1 }/\f.fn.code[f.next]?=some i:=by
  unfold aJ.fetch at I;cases m:f.fn.code[f.next]? with
  |none=>rw[m] at I;cases I
  |some j=>rw[m] at I;simp at I;exact⟨I.2.symm,by rw[I.1]⟩
 have D:=K.ins _ _ hi;have L:∀x∈d,x.e_.length<=x.g_.length:=λx m=>(q x m).e_
 by_cases hn:i=.give
 ·subst hn;rcases jb d with rfl|⟨b,x,rfl⟩
  ·refine⟨by simp[doI],by simp[doI],λ_=>⟨⟨by simp[doI],by simp[doI],by simp[doI]⟩,by simp[doI]⟩⟩
  ·rw[jc] at*;have e:doI A .give (b++[x]) { f with next:=f.next+1 } t o=(⟨b++[x.push (aJ.last { f with next:=f.next+1 })],t,o⟩,0):=by simp[doI]
   rw[e];refine⟨λy u=>?_,by simp at w ⊢;omega,λ_=>⟨oR.snoc (λy u=>q y (by simp[u])) ((q x s_).pushed _) (by simp at w;omega),λy u=>?_⟩⟩
   ·rcases eu.1 u with u|u
    ·exact L y (by simp[u])
    ·rw[ew.1 u];exact L x s_
   ·rcases eu.1 u with u|u
    ·exact z y (by simp[u])
    ·rw[ew.1 u];exact z x s_
 have p:∀y:aJ,y.e_.length<=y.g_.length->∀x∈d++[y],x.e_.length<=x.g_.length:=λy u x m=>by
  rcases eu.1 m with m|m
  ·exact L x m
  ·rw[ew.1 m];exact u
 have B:∀y:aJ,cR ar y 0->y.fn=f.fn->∀t o,fY ar ⟨d++[y],t,o⟩:=λy u aa t o=>⟨oR.snoc q u w,λx m=>by
  rcases eu.1 m with m|m
  ·exact z x m
  ·rw[ew.1 m,aa];exact H⟩
 by_cases Z:i=.read
 ·subst Z;cases t with
  |nil=>exact⟨p _ C,by simp[doI];omega,λJ=>by simp[doI] at J⟩
  |cons a r=>exact⟨p _ C,by simp[doI];omega,λ_=>B (aJ.push { f with next:=f.next+1 } (bH a)) (cR.flow (f:=f) K D.2.2 rfl (by rw[aJ.push_len];simp only;omega) W X C V) rfl _ _⟩
 by_cases Y:i=.print
 ·subst Y;simp only[doI];split
  ·exact⟨p _ C,t_,λJ=>by simp at J⟩
  ·exact⟨p _ C,t_,λ_=>B (aJ.pop { f with next:=f.next+1 }) (cR.flow (f:=f) K D.2.2.2 rfl (by rw[aJ.pop_len];simp only;omega) W X C V) rfl _ _⟩
 by_cases hk:∃k n,i=.call k n
 ·obtain⟨k,n,rfl⟩:=hk;simp only[doI];split
  ·exact⟨p _ C,t_,λJ=>by simp at J⟩
  ·rename_i hd;obtain⟨_,_,ab,S,N⟩:=D;obtain⟨c,U,c1,c2,c3,c4,c5,c6⟩:=ht.fn k n S;have F:(aJ.many { f with next:=f.next+1 } n).length=n:=by simp[aJ.many];omega
   rw[c1]
   have G:cR ar ⟨c,0,0,[],aJ.many { f with next:=f.next+1 } n,[]⟩ 0:=by
    refine⟨⟨U,c2,by simp[c3],by simp only[F];exact c4,d7 c5⟩,?_,s_,by simp only[F];have:=c2.len;have:=K.len;have:=(K.ins _ _ hi).2.1;omega⟩
    rcases c6 with ⟨l,s,r,e⟩|⟨v,e⟩<;>simp[e]
   have E:cR ar (aJ.popMany { f with next:=f.next+1 } n) 1:=by
    obtain⟨f1,f2,f3,P⟩:=N;refine⟨⟨T,K,?_,em f3 W,?_⟩,f1,C,V⟩
    ·rw[aJ.popMany_len];show (T (f.next+1)).h=_;simp only;omega
    ·rcases P with P|P
     ·exact d7 P
     ·show (T (f.next+1)).e=none\/(T (f.next+1)).e=_;rw[P];exact X
   have e1:d++[aJ.popMany { f with next:=f.next+1 } n,(⟨c,0,0,[],aJ.many { f with next:=f.next+1 } n,[]⟩:aJ)]=(d++[aJ.popMany { f with next:=f.next+1 } n])++[(⟨c,0,0,[],aJ.many { f with next:=f.next+1 } n,[]⟩:aJ)]:=s_
   simp only[jt];rw[e1];refine⟨λx m=>?_,t_,λ_=>⟨oR.snoc (λx m=>?_) G t_,λx m=>?_⟩⟩
   ·rcases eu.1 m with m|m
    ·exact p _ E.e_ x m
    ·rw[ew.1 m];exact G.e_
   ·rcases eu.1 m with m|m
    ·exact q x m
    ·rw[ew.1 m];exact E
   ·rcases eu.1 m with m|m
    ·rcases eu.1 m with m|m
     ·exact z x m
     ·rw[ew.1 m];exact H
    ·rw[ew.1 m];exact c6
 have M:∀k n,i≠.call k n:=λk n e=>hk ⟨k,n,e⟩
 rw[uB hn Z Y M];have O:=JU K D hh W X C V hn Z Y M _ rfl;exact⟨p _ O.1,t_,λJ=>B _ (O.2 J) (jM _ _) _ _⟩
def kN(f:aJ):Nat:=if f.next=0 then 2 else if f.fn.code.length=2 then 1 else 4*(f.fn.code.length-f.next)
def wgts(l:List aJ):Nat:=(l.map kN).sum
def CR{T:Nat->eJ}{f:aJ}{i:aI}(hi:iL ar (λq=>q<f.fn.code.length) T f.next i)
 (d:i.isBegin=false) (m:i≠.give) (j:i≠.read) (g:i≠.print) (e:∀k n,i≠.call k n):
 (aL i { f with next:=f.next+1 }).2=0->(f.next<(aL i { f with next:=f.next+1 }).1.next/\(aL i { f with next:=f.next+1 }).1.next<f.fn.code.length)\/(T (aL i { f with next:=f.next+1 }).1.next).b=true/\(aL i { f with next:=f.next+1 }).1.next<f.fn.code.length:=by
 obtain⟨_,_,hi⟩:=hi;intro a;cases i with
 |give=>exact absurd rfl m
 |read=>exact absurd rfl j
 |print=>exact absurd rfl g
 |call k n=>exact absurd rfl (e k n)
 |begin l s=>simp[aI.isBegin] at d
 |jump q=>
  simp only at hi;obtain⟨b|b,c⟩:=hi
  ·exact d7 ⟨b,c.1⟩
  ·exact d6 ⟨b,c.1⟩
 |skip q=>
  simp only[aL] at hi a ⊢
  split
  ·simp only;split
   ·exact d7 ⟨gj _,hi.2.2.2.1⟩
   ·exact d7 ⟨hi.2.1,hi.2.2.1.1⟩
  ·rename_i h;rw[if_neg h] at a;simp at a
 |shortcut w q=>
  simp only[aL] at hi a ⊢
  split
  ·simp only;split
   ·exact d7 ⟨hi.2.1,hi.2.2.1.1⟩
   ·exact d7 ⟨gj _,hi.2.2.2.1⟩
  ·rename_i h;rw[if_neg h] at a;simp at a
 |assign k n=>
  simp only[aL] at hi a ⊢
  split<;>exact d7 ⟨gj _,hi.2.2.1⟩
 |declare k=>exact d7 ⟨gj _,hi.2.2.2.2.1⟩
 |push v=>exact d7 ⟨gj _,hi.1⟩
 |load k=>exact d7 ⟨gj _,hi.2.1⟩
 |drop=>exact d7 ⟨gj _,hi.2.1⟩
 |truth=>simp only[aL] at hi ⊢;split<;>exact d7 ⟨gj _,hi.2.1⟩
 |unary o=>simp only[aL] at hi ⊢;split<;>exact d7 ⟨gj _,hi.2.1⟩
 |length=>simp only[aL] at hi ⊢;split<;>exact d7 ⟨gj _,hi.2.1⟩
 |binary o=>simp only[aL] at hi ⊢;split<;>exact d7 ⟨gj _,hi.2.1⟩
 |index=>simp only[aL] at hi ⊢;split<;>exact d7 ⟨gj _,hi.2.1⟩
 |list n=>simp only[aL] at hi ⊢;split<;>exact d7 ⟨gj _,hi.2.1⟩
def iH(l:List aJ)(f:aJ):wgts (l++[f])=wgts l+kN f:=by simp[wgts]
def DI{f:aJ}(h:f.next<f.fn.code.length):1<=kN f:=by unfold kN;repeat' split
                                                    all_goals omega
def QO(f:aJ)(v:aM):kN (f.push v)=kN f:=rfl
def xW{f g:aJ}{i:aI}(k:jB f.fn.code)(hi:f.fn.code[f.next]?=some i)(b:i.isBegin=false)(c:g.fn=f.fn)(m:f.next<g.next)(j:g.next<f.fn.code.length):kN g<kN f:=by
 unfold kN;rw[c];rcases k with ⟨l,s,r,e⟩|⟨v,e⟩
 ·have d:f.next≠0:=λh=>by rw[e,h] at hi;simp at hi;rw[<-hi] at b;simp[aI.isBegin] at b
  rw[if_neg (show g.next≠0 by omega),if_neg d]
  split<;>omega
 ·have a:f.fn.code.length=2:=by rw[e];rfl
  rw[a] at j;rw[if_neg (show g.next≠0 by omega),if_pos a,if_pos (show f.next=0 by omega)]
  omega
def QP{f g:aJ}(d:jB f.fn.code)(hi:f.fn.code[f.next]?=some (.call k n))(b:g.fn=f.fn)(i:f.next<g.next)(j:g.next<f.fn.code.length):kN g+2<kN f:=by
 unfold kN;rw[b]
 have c:f.next≠0:=λh=>by
  rcases d with ⟨l,s,r,e⟩|⟨v,e⟩<;>rw[e,h] at hi<;>simp at hi
 have a:f.fn.code.length≠2:=o_
 rw[if_neg (show g.next≠0 by omega),if_neg c,if_neg a]
 split
 ·omega
 ·omega
structure QL(ar:Nat->Option Nat)(r:cS × Nat):Prop where
 told:∀x∈r.1.f_,x.e_.length<=x.g_.length
 deep:r.1.f_.length<=16
 ok:r.2=0->fY ar r.1/\r.1.f_≠[]
def lV{l:List aJ}(h:l≠[]):∃b f,l=b++[f]:=by
 rcases jb l with a|⟨b,f,a⟩
 ·exact absurd a h
 ·exact⟨b,f,by rw[a,jc]⟩
def AW{f:aJ}(h:f.next<f.fn.code.length):f.fetch=some (f.fn.code[f.next],{ f with next:=f.next+1 }):=by
 unfold aJ.fetch;rw[fh h];rfl
def wL{a:List eV}(i:kU ar a){b:List aJ}{f:aJ}(h:fY ar ⟨b++[f],t,o⟩){l:Nat}{s:cN}(hi:f.fn.code[f.next]?=some (.begin l s)):
 ∃r,dR a (k+1) ⟨b++[f],t,o⟩=some r/\QL ar r:=by
 have d:f.fetch=some (.begin l s,{ f with next:=f.next+1 }):=by unfold aJ.fetch;rw[hi];rfl
 obtain⟨g,e,j⟩:=zR i h d;refine⟨doI a (.begin l s) b { f with next:=f.next+1 } t o,?_,g,e,λc=>⟨j c,by simp[doI]⟩⟩
 rw[dR];simp only[fC,d,gE];have c:(doI a (.begin l s) b { f with next:=f.next+1 } t o).2=0:=rfl
 rw[if_neg (by rw[c];simp),if_pos (show (aI.begin l s).isBegin=true from rfl)]
def mG{p:List eV}(w:kU ar p):∀(k:Nat) (m:cS),fY ar m->wgts m.f_+2<=k->∃r,dR p k m=some r/\QL ar r
 |0,_,_,H=>by omega
 |k+1,⟨fr,t,o⟩,h,H=>by
  by_cases E:fr=[]
  ·subst E;exact⟨(⟨[],t,o⟩,1),rfl,s_,s_,λl=>by simp at l⟩
  obtain⟨b,f,rfl⟩:=lV E;have d:cR ar f 0:=h.ok.top f (fC _ _);have s:jB f.fn.code:=h.start f s_
  have N:=AW d.next
  have C:f.fn.code[f.next]?=some (f.fn.code[f.next]'d.next):=fh d.next
  generalize f.fn.code[f.next]'d.next=i at N C
  obtain⟨Y,W,h3⟩:=zR w h N;by_cases l:(doI p i b { f with next:=f.next+1 } t o).2=0
  rotate_left
  ·refine⟨_,?_,Y,W,λX=>absurd X l⟩
   rw[dR];simp only[fC,N,gE];rw[if_pos l]
  cases L:i.isBegin;rotate_left
  ·cases i<;>simp[aI.isBegin] at L
   exact wL w h C
  have e:dR p (k+1) ⟨b++[f],t,o⟩=dR p k (doI p i b { f with next:=f.next+1 } t o).1:=by
   rw[dR];simp only[fC,N,gE];rw[if_neg (by rw[l];simp),L]
   rfl
  rw[e];have A:=h3 l;simp only at H;rw[iH] at H;obtain⟨⟨T,V,hh,hv,he⟩,K,hs,hm⟩:=d;have u:=V.ins _ _ C;by_cases S:i=.give
  ·subst S;refine mG w k _ A ?_;have J:=DI K;rcases jb b with rfl|⟨U,x,rfl⟩
   ·simp[doI,wgts] at H ⊢;omega
   ·rw[jc] at*;have Z:(doI p .give (U++[x]) { f with next:=f.next+1 } t o).1.f_=U++[x.push (aJ.last { f with next:=f.next+1 })]:=by simp[doI]
    rw[Z,iH,QO];rw[iH] at H;omega
  by_cases Q:i=.read
  ·subst Q;cases t with
   |nil=>simp[doI] at l
   |cons a r=>
    refine mG w k _ A ?_;have J:=xW (g:=aJ.push { f with next:=f.next+1 } (bH a)) s C rfl rfl (gj _) u.2.2.1
    show wgts (b++[_])+2<=k
    rw[iH];omega
  by_cases P:i=.print
  ·subst P;refine mG w k _ A ?_;have J:=xW (g:=aJ.pop { f with next:=f.next+1 }) s C rfl rfl (gj _) u.2.2.2.1
   simp only[doI] at l ⊢
   split at l
   ·simp at l
   ·rw[if_neg (by assumption)]
    show wgts (b++[_])+2<=k
    rw[iH];omega
  by_cases F:∃c n,i=.call c n
  ·obtain⟨c,n,rfl⟩:=F;refine mG w k _ A ?_;have J:=QP (g:=aJ.popMany { f with next:=f.next+1 } n) s C rfl (gj _) u.2.2.2.2.1
   simp only[doI] at l ⊢
   split at l
   ·simp at l
   ·rw[if_neg (by assumption)]
    have e1:∀y z:aJ,b++[y,z]=(b++[y])++[z]:=s_
    simp only;rw[e1,iH,iH];have:∀c v,kN ⟨c,0,0,[],v,[]⟩=2:=λc v=>rfl
    rw[this];omega
  have G:∀k n,i≠.call k n:=λk n e=>F ⟨k,n,e⟩
  rw[uB S Q P G] at l A ⊢
  have q:=CR u L S Q P G l;have D:(aL i { f with next:=f.next+1 }).1.fn=f.fn:=jM _ _
  generalize aL i { f with next:=f.next+1 }=y at l A q D ⊢
  rcases q with ⟨O,M⟩|⟨O,M⟩
  ·refine mG w k _ A ?_;have J:=xW (g:=y.1) s C L D O M;simp only;rw[iH];omega
  ·have I:y.1.fn.code[y.1.next]?=some (f.fn.code[y.1.next]):=by rw[D];exact fh M
   have B:=(V.ins _ _ (fh M)).1;rw[O] at B;have J:=DI K;obtain⟨j,rfl⟩:∃j,k=j+1:=⟨k-1,o_⟩
   generalize f.fn.code[y.1.next]=i' at I B
   cases i'<;>simp[aI.isBegin] at B
   exact wL w A I
def bM.then{L:Nat->eJ->Prop}{c c':List aI}{g:Nat}{j i:Option Nat}(a:bM ar L p c h v e g v1 j)(b:bM ar L (p+c.length) c' g v1 j d v2 i)
 (n:∀q y,L q y->q<=p\/p+c.length+c'.length<=q):bM ar L p (c++c') h v e d v2 i:=by
 by_cases k:c=[]
 ·subst k;obtain⟨T,t,r,s,l,o,m,f,u⟩:=a;obtain⟨U,u1,u2,u3,u4,u5,u6,u7,u8⟩:=b;simp only[ey,Nat.add_zero] at o m f u2 u3 u4 u5 u6 u7 u8;refine⟨U,u1,o_,o_,?_,u5,u6,u7,u8⟩
  rcases u4 with u4|u4
  ·exact d7 u4
  ·rw[u4,<-f];exact l
 ·exact a.append b n k
def bM.one{L:Nat->eJ->Prop}{i:aI}(m:∀q y z,L q y->L q z->y=z)(k:∀y,L p y->y=⟨h,v,e,i.isBegin⟩)(l:∀y,L (p+1) y->y.h=h'/\y.v=v'/\y.e=e')
 (hi:∀T:Nat->eJ,T p=⟨h,v,e,i.isBegin⟩->(T (p+1)).h=h'->(T (p+1)).v=v'->(T (p+1)).e=e'->(∀q y,L q y->T q=y)->iL ar (QI L p (p+1)) T p i):bM ar L p [i] h v e h' v' e':=by
 classical
 let T:Nat->eJ:=λq=>if hq:∃y,L q y then hq.choose else if q=p then ⟨h,v,e,i.isBegin⟩ else ⟨h',v',e',false⟩
 have g:∀q y,L q y->T q=y:=λq y b=>by
  have a:∃y,L q y:=⟨y,b⟩;simp only[T,dif_pos a];exact m q _ _ a.choose_spec b
 have f:T p=⟨h,v,e,i.isBegin⟩:=by
  by_cases a:∃y,L p y
  ·obtain⟨y,b⟩:=a;rw[g p y b];exact k y b
  ·simp only[T,dif_neg a];rfl
 have c:(T (p+1)).h=h'/\(T (p+1)).v=v'/\(T (p+1)).e=e':=by
  by_cases a:∃y,L (p+1) y
  ·obtain⟨y,b⟩:=a;rw[g _ y b];exact l y b
  ·have e:T (p+1)=⟨h',v',e',false⟩:=by simp only[T,dif_neg a,if_neg (show ¬p+1=p by omega)]
   rw[e];exact⟨rfl,rfl,rfl⟩
 refine⟨T,g,by rw[f],by rw[f];exact en _,by rw[f];exact d6 rfl,c.1,c.2.1,c.2.2,λj x d=>?_⟩
 match j,d with
 |0,d=>
  simp at d;subst d;exact hi T f c.1 c.2.1 c.2.2 g
 |j+1,d=>simp at d
structure eU(L:Nat->eJ->Prop)(lo hi:Nat):Prop where
 uniq:∀q y z,L q y->L q z->y=z
 out:∀q y,L q y->q<lo\/hi<q
def eU.sub{L:Nat->eJ->Prop}{lo' hi':Nat}(h:eU L lo hi)(c:lo<=lo')(b:hi'<=hi):eU L lo' hi':=⟨h.uniq,λq y a=>by have:=h.out q y a;omega⟩
def fM(L:Nat->eJ->Prop)(q:Nat)(y:eJ):Nat->eJ->Prop:=λr z=>L r z\/(r=q/\z=y)
def fM.ok{L:Nat->eJ->Prop}{lo' hi':Nat}{y:eJ}(h:eU L lo hi)(g:lo<=q)(e:q<=hi)(i:lo<=lo')(f:hi'<=hi)(c:q<lo'\/hi'<q):eU (fM L q y) lo' hi':=by
 refine⟨λr x z a b=>?_,λr x a=>?_⟩
 ·rcases a with a|⟨rfl,rfl⟩<;>rcases b with b|⟨d,rfl⟩
  ·exact h.uniq _ _ _ a b
  ·have:=h.out _ _ a;omega
  ·have:=h.out _ _ b;omega
  ·rfl
 ·rcases a with a|⟨rfl,rfl⟩
  ·have:=h.out _ _ a;omega
  ·exact c
def bM.close{L:Nat->eJ->Prop}{c:List aI}{y:eJ}(s:bM ar (fM L q y) p c h v e h' v' e')(o:p<=q)(f:q<=p+c.length):bM ar L p c h v e h' v' e':=by
 obtain⟨T,u,b,d,g,x,m,l,w⟩:=s;refine⟨T,λq y n=>u q y (d7 n),b,d,g,x,m,l,λj i A=>(w j i A).same rfl (λr a=>⟨?_,rfl,cL,d6 rfl⟩) (λ_ _ _ k=>k)⟩
 rcases a with a|⟨z,t|⟨rfl,rfl⟩⟩
 ·exact d7 a
 ·exact d6 ⟨z,t⟩
 ·exact d7 ⟨o,f⟩
def iX{L:Nat->eJ->Prop}:QI L p (p+1) (p+1):=d7 ⟨o_,o_⟩
def bM.plain{L:Nat->eJ->Prop}{i:aI}(b:eU L p (p+1))(g:i.isBegin=false)(j:h<=p)
 (hi:∀(D:bY) (T:Nat->eJ),(T p).h=h->(T p).v=v->eR D T (p+1) h' (T p).v (T p).e->(T p).b=false->(T p).h<=p->iL ar D T p i):bM ar L p [i] h v e h' v e:=
 bM.one b.uniq (λy c=>absurd (b.out _ _ c) o_) (λy c=>absurd (b.out _ _ c) o_) λT a k d f _=>
  hi _ T (by rw[a]) (by rw[a]) ⟨iX,k,by rw[d,a];exact en _,by rw[f,a];exact d6 rfl⟩ (by rw[a];exact g) (by rw[a];exact j)
def fZ(fs:List aE)(k:Nat):Option Nat:=fs[k]?.map λf=>f.y_.length-1
def ExOk(fs:List aE)(a_:Bool)(e_:cN):Nat->aE->Prop
 |0,_=>False
 |d+1,a=>
  ((a.op=[48]\/a.op=[115]\/a.op=[98,111,111,108])/\a.y_=[])\/
  (a.op=[110,97,109,101]/\a.y_=[]/\a.x_∈e_)\/
  (a.op=[108,105,115,116]/\∀k∈a.y_,ExOk fs a_ e_ d k)\/
  (a.op=[105,110,100,101,120]/\∃l r,a.y_=[l,r]/\ExOk fs a_ e_ d l/\ExOk fs a_ e_ d r)\/
  ((a.op=[45,120]\/a.op=[33,120])/\∃l,a.y_=[l]/\ExOk fs a_ e_ d l)\/
  (a.op=[99,97,108,108]/\(∀k∈a.y_,ExOk fs a_ e_ d k)/\
    ((a.x_=[108,101,110]/\a.y_.length=1)\/(a.x_=[114,101,97,100]/\a_=false/\a.y_.length=0)\/
     (a.x_≠[108,101,110]/\a.x_≠[114,101,97,100]/\a_=false/\fZ fs (dG fs a.x_)=some a.y_.length)))\/
  (cK a.op≠9/\∃l r,a.y_=[l,r]/\ExOk fs a_ e_ d l/\ExOk fs a_ e_ d r)
def sG:∀{e_:cN} {x:cC},x∈e_->dV e_ x<e_.length
 |y::l,x,h=>by
  unfold dV;split
  ·simp
  ·rename_i a;rcases eo.1 h with rfl|h
   ·exact absurd rfl a
   ·have:=sG h;simp;omega
def oG{op:cC}(h:cK op≠9):op=[124,124]\/op=[38,38]\/op=[61,61]\/op=[33,61]\/op=[60]\/op=[60,61]\/op=[43]\/op=[45]\/op=[42]\/op=[47]\/op=[37]:=by
 unfold cK at h;repeat' split at h
 all_goals simp_all
 all_goals grind
def VV(fs:List aE)(a_:Bool)(e_:cN)(d:Nat):Prop:=
 ∀(a:aE) (L:Nat->eJ->Prop) (p h v:Nat) (e:Option Nat),ExOk fs a_ e_ d a->e_.length<=v->h<=p->eU L p (p+(aF fs e_ d a p).length)->
  bM (fZ fs) L p (aF fs e_ d a p) h v e (h+1) v e/\1<=(aF fs e_ d a p).length
def sJ{fs:List aE}{a_:Bool}(f:VV fs a_ e_ d):∀(l:List aE) (L:Nat->eJ->Prop) (p h v:Nat) (e:Option Nat),(∀a∈l,ExOk fs a_ e_ d a)->e_.length<=v->h<=p->eU L p (p+(bW (aF fs e_ d) l p).length)->
 bM (fZ fs) L p (bW (aF fs e_ d) l p) h v e (h+l.length) v e/\l.length<=(bW (aF fs e_ d) l p).length
 |[],L,p,h,v,e,_,_,_,b=>⟨bM.nil _ _ _ _ _ _ (λq y c t=>absurd (b.out q y c) (by simp[bW];omega)) b.uniq,s_⟩
 |a::l,L,p,h,v,e,g,i,n,b=>by
  simp only[bW,el] at b ⊢
  obtain⟨m,k⟩:=f a L p h v e (g a (fw ..)) i n (b.sub cL o_)
  obtain⟨j,o⟩:=sJ f l L (p+(aF fs e_ d a p).length) (h+1) v e (λx r=>g x (fe _ r)) i o_ (b.sub o_ o_)
  refine⟨?_,by simp only[ep];omega⟩
  have s:h+(a::l).length=h+1+l.length:=by simp only[ep];omega
  rw[s];exact m.then j λq y c=>by have:=b.out q y c;omega
def bM.snoc{L:Nat->eJ->Prop}{c:List aI}{i:aI}{f:Nat}{j:Option Nat}(a:bM ar L p c h v e f v e)(g:eU L p (p+(c++[i]).length))(b:eU L (p+c.length) (p+c.length+1)->bM ar L (p+c.length) [i] f v e d v2 j):bM ar L p (c++[i]) h v e d v2 j:=by
 have l:(c++[i]).length=c.length+1:=s_
 refine a.then (b (g.sub o_ o_)) λq y k=>?_
 have:=g.out q y k;simp only[ep,ey];omega
def nP(fs:List aE)(a_:Bool)(e_:cN):∀d,VV fs a_ e_ d
 |0,_,_,_,_,_,_,h,_,_,_=>h.elim
 |d+1,a,L,p,h,v,e,ha,hv,g,z=>by
  have X:=nP fs a_ e_ d
  have M:∀l r:aE,a.y_=[l,r]->ExOk fs a_ e_ d l->ExOk fs a_ e_ d r->∀k∈a.y_,ExOk fs a_ e_ d k:=λl r m U h2 k C=>by
   rw[m] at C;rcases eo.1 C with rfl|C
   ·exact U
   ·rw[ew.1 C];exact h2
  have j:∀i:aI,i.isBegin=false->aF fs e_ (d+1) a p=bW (aF fs e_ d) a.y_ p++[i]->(∀k∈a.y_,ExOk fs a_ e_ d k)->
   (∀(s:Nat) (D:bY) (T:Nat->eJ),(T s).h=h+a.y_.length->(T s).v=v->eR D T (s+1) (h+1) (T s).v (T s).e->(T s).b=false->(T s).h<=s->iL (fZ fs) D T s i)->
   bM (fZ fs) L p (aF fs e_ (d+1) a p) h v e (h+1) v e/\1<=(aF fs e_ (d+1) a p).length:=λi hb A m hi=>by
   rw[A] at z ⊢
   obtain⟨U,h2⟩:=sJ X a.y_ L p h v e m hv g (z.sub cL s_)
   exact⟨bM.snoc U z λE=>bM.plain E hb o_ (hi _),s_⟩
  rcases ha with ⟨n|n|n,m⟩|⟨n,m,hx⟩|⟨n,m⟩|⟨n,l,r,m,E,P⟩|⟨n|n,l,m,E⟩|⟨n,m,A⟩|⟨n,l,r,m,E,P⟩
  ·have A:aF fs e_ (d+1) a p=[.push (bH (((dQ 0 a.x_).getD 0:Nat):Int))]:=by rw[aF];simp[n]
   rw[A] at z ⊢
   exact⟨bM.plain z rfl g λD T c w f b g=>⟨b,g,by rw[c];exact f⟩,s_⟩
  ·have A:aF fs e_ (d+1) a p=[.push (bP a.x_)]:=by rw[aF];simp[n]
   rw[A] at z ⊢
   exact⟨bM.plain z rfl g λD T c w f b g=>⟨b,g,by rw[c];exact f⟩,s_⟩
  ·have A:aF fs e_ (d+1) a p=[.push (bV (a.x_==[116,114,117,101]))]:=by rw[aF];simp[n]
   rw[A] at z ⊢
   exact⟨bM.plain z rfl g λD T c w f b g=>⟨b,g,by rw[c];exact f⟩,s_⟩
  ·have A:aF fs e_ (d+1) a p=[.load (dV e_ a.x_)]:=by rw[aF];simp[n]
   rw[A] at z ⊢
   exact⟨bM.plain z rfl g λD T c w f b g=>⟨b,g,by rw[w];have:=sG hx;omega,by rw[c];exact f⟩,s_⟩
  ·refine j (.list a.y_.length) rfl (by rw[aF];simp[n]) m λs D T c w f b g=>⟨b,g,o_,?_⟩
   have:(T s).h-a.y_.length+1=h+1:=o_
   rw[this];exact f
  ·refine j .index rfl (by rw[aF];simp[n]) (M l r m E P) λs D T c w f b g=>?_
   rw[m] at c;simp only[ep,ey] at c;refine⟨b,g,o_,?_⟩
   have:(T s).h-1=h+1:=o_
   rw[this];exact f
  ·refine j (.unary [45]) rfl (by rw[aF];simp[n]) (by rw[m];simpa using E) λs D T c w f b g=>?_
   rw[m] at c;simp only[ep,ey] at c;exact⟨b,g,o_,by rw[c];exact f⟩
  ·refine j (.unary [33]) rfl (by rw[aF];simp[n]) (by rw[m];simpa using E) λs D T c w f b g=>?_
   rw[m] at c;simp only[ep,ey] at c;exact⟨b,g,o_,by rw[c];exact f⟩
  ·rcases A with ⟨S,J⟩|⟨S,_,J⟩|⟨V,Y,_,J⟩
   ·refine j .length rfl (by rw[aF];simp[n,S]) m λs D T c w f b g=>⟨b,g,o_,?_⟩
    rw[c,J];exact f
   ·refine j .read rfl (by rw[aF];simp[n,S]) m λs D T c w f b g=>⟨b,g,?_⟩
    rw[c,J];exact f
   ·refine j (.call (dG fs a.x_) a.y_.length) rfl (by rw[aF];simp[n,V,Y]) m λs D T c w f b g=>⟨b,g,o_,J,?_⟩
    have:(T s).h-a.y_.length+1=h+1:=o_
    rw[this];exact f
  ·by_cases N:a.op=[38,38]\/a.op=[124,124]
   rotate_left
   ·have W:aF fs e_ (d+1) a p=bW (aF fs e_ d) a.y_ p++[.binary a.op]:=by
     rw[aF];rcases oG n with h|h|h|h|h|h|h|h|h|h|h<;>simp[h] at N ⊢
    refine j (.binary a.op) rfl W (M l r m E P) λs D T c w f b g=>?_
    rw[m] at c;simp only[ep,ey] at c;refine⟨b,g,o_,?_⟩
    have:(T s).h-1=h+1:=o_
    rw[this];exact f
   ·have A:aF fs e_ (d+1) a p=aF fs e_ d l p++[.shortcut (a.op==[124,124]) (p+(aF fs e_ d l p).length+1+(aF fs e_ d r (p+(aF fs e_ d l p).length+1)).length+1)]++aF fs e_ d r (p+(aF fs e_ d l p).length+1)++[.truth]:=by
     rw[aF];rcases N with h|h<;>simp[h,m]
    generalize O:aF fs e_ d l p=o at A;generalize K:aF fs e_ d r (p+o.length+1)=t at A;rw[A] at z ⊢
    have G:(o++[aI.shortcut (a.op==[124,124]) (p+o.length+1+t.length+1)]++t++[aI.truth]).length=o.length+1+t.length+1:=by simp only[el,ep,ey]
    rw[G] at z;refine⟨bM.close (q:=p+o.length+1+t.length+1) (y:=⟨h+1,v,e,false⟩) ?_ o_ (by rw[G];omega),o_⟩
    have u:eU (fM L (p+o.length+1+t.length+1) ⟨h+1,v,e,false⟩) p (p+o.length+1+t.length):=fM.ok z o_ o_ cL o_ o_
    obtain⟨s1,l1⟩:=X l (fM L (p+o.length+1+t.length+1) ⟨h+1,v,e,false⟩) p h v e E hv g (by rw[O];exact u.sub cL o_)
    rw[O] at s1 l1;obtain⟨s3,l3⟩:=X r (fM L (p+o.length+1+t.length+1) ⟨h+1,v,e,false⟩) (p+o.length+1) h v e P hv o_ (by rw[K];exact u.sub o_ o_)
    rw[K] at s3 l3
    have s2:bM (fZ fs) (fM L (p+o.length+1+t.length+1) ⟨h+1,v,e,false⟩) (p+o.length) [.shortcut (a.op==[124,124]) (p+o.length+1+t.length+1)] (h+1) v e h v e:=by
     refine bM.one u.uniq (λy F=>absurd (u.out _ _ F) o_) (λy F=>absurd (u.out _ _ F) o_) λT x c w Q t4=>?_
     refine⟨by rw[x],by rw[x];show h+1<=_;omega,by rw[x];show 1<=h+1;omega,o_,?_,iX,by rw[c,x];rfl,by rw[w,x];exact en _,by rw[Q,x];exact d6 rfl⟩
     have:=t4 (p+o.length+1+t.length+1) ⟨h+1,v,e,false⟩ (d6 ⟨rfl,rfl⟩);exact⟨d6 ⟨_,d6 ⟨rfl,rfl⟩⟩,by rw[this,x],by rw[this,x];exact en _,by rw[this,x];exact d6 rfl⟩
    have s4:bM (fZ fs) (fM L (p+o.length+1+t.length+1) ⟨h+1,v,e,false⟩) (p+o.length+1+t.length) [.truth] (h+1) v e (h+1) v e:=by
     refine bM.one u.uniq (λy F=>absurd (u.out _ _ F) o_) (λy F=>?_) λT x c w Q t4=>⟨by rw[x],by rw[x];show h+1<=_;omega,by rw[x];show 1<=h+1;omega,iX,by rw[c,x],by rw[w,x];exact en _,by rw[Q,x];exact d6 rfl⟩
     rcases F with F|⟨_,rfl⟩
     ·exact absurd (z.out _ _ F) o_
     ·exact⟨rfl,rfl,rfl⟩
    have B:∀q y,fM L (p+o.length+1+t.length+1) ⟨h+1,v,e,false⟩ q y->q<=p\/p+o.length+1+t.length+1<=q:=λq y H=>by have:=u.out q y H;omega
    have Z:=s1.then s2 λq y H=>by have:=B q y H;simp only[ep,ey];omega
    have I:=Z.then (c':=t) (by rw[el];exact s3) λq y H=>by have:=B q y H;simp only[el,ep,ey];omega
    exact I.then (c':=[.truth]) (by rw[show p+(o++[aI.shortcut (a.op==[124,124]) (p+o.length+1+t.length+1)]++t).length=p+o.length+1+t.length by simp only[el,ep,ey];omega];exact s4) λq y H=>by have:=B q y H;simp only[el,ep,ey];omega
def bM.entry{L:Nat->eJ->Prop}{c:List aI}{b:Nat}(s:bM ar L p c h v none h' v' e')(j:v<=b):bM ar L p c h b e h' v' e':=by
 obtain⟨T,f,d,i,a,g⟩:=s;exact⟨T,f,d,o_,d7 (by rcases a with a|a<;>exact a),g⟩
def bM.exit{L:Nat->eJ->Prop}{c:List aI}{a:Nat}(s:bM ar L p c h v e h' v' e')(F:a<=v')(b:Bool)(C:∀y,¬L (p+c.length) y):bM ar (fM L (p+c.length) ⟨h',a,none,b⟩) p c h v e h' a none:=by
 obtain⟨T,z,o,r,t,l,w,E,B⟩:=s;refine⟨λq=>if q=p+c.length then ⟨h',a,none,b⟩ else T q,λq y d=>?_,?_,?_,?_,by simp only[if_pos],by simp only[if_pos],by simp only[if_pos],λj i m=>?_⟩
 ·rcases d with d|⟨rfl,rfl⟩
  ·have f:q≠p+c.length:=λe=>C y (by rw[<-e];exact d)
   simp only[if_neg f];exact z q y d
  ·simp only[if_pos]
 ·simp only;split
  ·rename_i g;rw[<-g] at l;simp only;omega
  ·exact o
 ·simp only;split
  ·rename_i g;rw[<-g] at w;simp only;omega
  ·exact r
 ·simp only;split
  ·exact d7 rfl
  ·exact t
 ·have x:j<c.length:=(gq.1 m).1;refine(B j i m).same (by rw[if_neg o_]) (λq d=>?_) (λq d D u=>by rw[if_neg o_];exact u)
  have n:QI (fM L (p+c.length) ⟨h',a,none,b⟩) p (p+c.length) q:=d.imp id λ⟨y,A⟩=>⟨y,d7 A⟩
  refine⟨n,?_⟩;split
  ·rename_i k;rw[k];exact⟨l.symm,by simp only;omega,d7 rfl⟩
  ·exact⟨rfl,cL,d6 rfl⟩
def cZ(e_:cN)(a:aE):cN:=if a.op=[118,97,114] then (a.y_.head?.map (·.x_)).toList++e_ else e_
def StsOk(S:cN->aE->Prop):cN->List aE->Prop
 |_,[]=>True
 |e_,a::l=>S e_ a/\StsOk S (cZ e_ a) l
def dM(fs:List aE):Nat->cN->aE->Prop
 |0,_,_=>False
 |d+1,e_,a=>
  (a.op=[118,97,114]/\e_.length<=40000/\∃t v,a.y_=[t,v]/\ExOk fs false e_ d v/\t.x_∉e_)\/
  (a.op=[115,101,116]/\a.x_∈e_/\a.y_≠[]/\∀k∈a.y_,ExOk fs false e_ d k)\/
  (a.op=[105,102]/\∃c t,(a.y_=[c,t]\/∃x,a.y_=[c,t,x]/\StsOk (dM fs d) e_ x.y_)/\ExOk fs false e_ d c/\StsOk (dM fs d) e_ t.y_)\/
  (a.op=[119,104,105,108,101]/\∃c b,a.y_=[c,b]/\ExOk fs false e_ d c/\StsOk (dM fs d) e_ b.y_)\/
  (a.op=[114,101,116,117,114,110]/\(a.y_=[]\/∃v,a.y_=[v]/\ExOk fs false e_ d v))\/
  (a.op=[112,114,105,110,116]/\∃v,a.y_=[v]/\ExOk fs false e_ d v)\/
  (a.op=[100,111]/\∃c,a.y_=[c]/\ExOk fs false e_ d c)
def VQ(fs:List aE)(d:Nat):Prop:=
 ∀(e_:cN) (a:aE) (L:Nat->eJ->Prop) (p:Nat),dM fs d e_ a->eU L p (p+(bA fs d e_ a p).1.length)->
  bM (fZ fs) L p (bA fs d e_ a p).1 0 e_.length none 0 (cZ e_ a).length none/\(bA fs d e_ a p).2=cZ e_ a/\∃r,(bA fs d e_ a p).1=.begin a.l_ e_::r
def RS(e_:cN)(a:aE):e_.length<=(cZ e_ a).length:=by unfold cZ;split<;>simp
def eE:cN->List aE->cN
 |e_,[]=>e_
 |e_,a::l=>eE (cZ e_ a) l
def mU:∀(l:List aE) (e_:cN),e_.length<=(eE e_ l).length
 |[],_=>en _
 |a::l,e_=>em (RS e_ a) (mU l _)
def mY{fs:List aE}(e:VQ fs d):∀(l:List aE) (e_:cN) (L:Nat->eJ->Prop) (p:Nat),StsOk (dM fs d) e_ l->eU L p (p+(bL (bA fs d) e_ l p).length)->
 bM (fZ fs) L p (bL (bA fs d) e_ l p) 0 e_.length none 0 (eE e_ l).length none
 |[],e_,L,p,_,b=>bM.nil _ _ _ _ _ _ (λq y c j=>absurd (b.out q y c) (by simp[bL];omega)) b.uniq
 |a::l,e_,L,p,h,b=>by
  simp only[bL,el] at b ⊢
  obtain⟨g,f,_⟩:=e e_ a L p h.1 (b.sub cL o_)
  rw[f] at b ⊢
  have i:=mY e l (cZ e_ a) L (p+(bA fs d e_ a p).1.length) h.2 (b.sub o_ o_)
  exact g.then i λq y c=>by have:=b.out q y c;omega
def bM.begins{L:Nat->eJ->Prop}{l:Nat}(g:∀q y z,L q y->L q z->y=z)(h:∀y,L p y->y=⟨0,e_.length,none,true⟩)(f:∀y,¬L (p+1) y):bM ar L p [.begin l e_] 0 e_.length none 0 e_.length (some e_.length):=
 bM.one g h (λy e=>absurd e (f y)) λT a d b c _=>⟨by rw[a],by rw[a];exact ft _,by rw[a];exact en _,iX,by rw[d,a],by rw[b,a];exact en _,by rw[c];exact d6 rfl⟩
def qP(i j:aI)(c:List aI):(i::c++[j]).length=c.length+2:=s_
def bM.stmt{L:Nat->eJ->Prop}{l:Nat}{c:List aI}{i:aI}(a:eU L p (p+(aI.begin l e_::c++[i]).length))
 (h:bM ar L (p+1) c 0 e_.length (some e_.length) n e_.length (some e_.length)) (hi:eU L (p+1+c.length) (p+1+c.length+1)->bM ar L (p+1+c.length) [i] n e_.length (some e_.length) 0 v' none):
 bM ar L p (aI.begin l e_::c++[i]) 0 e_.length none 0 v' none:=by
 rw[qP] at a;have f:bM ar L p [.begin l e_] 0 e_.length none 0 e_.length (some e_.length):=bM.begins a.uniq (λy d=>absurd (a.out _ _ d) o_) (λy d=>absurd (a.out _ _ d) o_)
 have e:=f.then (c':=c) h λq y b=>by have:=a.out q y b;simp only[ep,ey];omega
 have g:=e.then (c':=[i]) (by rw[show p+([aI.begin l e_]++c).length=p+1+c.length by simp only[el,ep,ey];omega];exact hi (a.sub o_ o_)) λq y b=>by have:=a.out q y b;simp only[el,ep,ey];omega
 exact g
def bM.last{L:Nat->eJ->Prop}{i:aI}(a:eU L p (p+1))(g:i.isBegin=false)(h:n<=p)
 (hi:∀(D:bY) (T:Nat->eJ),T p=⟨n,v,e,false⟩->D (p+1)->(T (p+1)).h=0->(T (p+1)).v=v'->(T (p+1)).e=none->(T p).h<=p->iL ar D T p i):bM ar L p [i] n v e 0 v' none:=
 bM.one a.uniq (λy b=>absurd (a.out _ _ b) o_) (λy b=>absurd (a.out _ _ b) o_) λT c j d f _=>hi _ T (by rw[c,g]) iX j d f (by rw[c];exact h)
def lJ{fs:List aE}{a:aE}{L:Nat->eJ->Prop}(b:ExOk fs false e_ d a)(f:0<p)(c:eU L p (p+(aF fs e_ d a p).length)):
 bM (fZ fs) L p (aF fs e_ d a p) 0 e_.length e 1 e_.length e/\1<=(aF fs e_ d a p).length:=nP fs false e_ d a L p 0 e_.length e b cL o_ c
def eU.none{L:Nat->eJ->Prop}(h:eU L lo hi)(c:lo<=q)(b:q<=hi)(y:eJ):¬L q y:=λa=>by have:=h.out q y a;omega
def bM.ifs{L:Nat->eJ->Prop}{l:Nat}{b e m:List aI}
 (t:eU L p (p+1+b.length+1+e.length+1+m.length))
 (I:∀g,eU g (p+1) (p+1+b.length)->bM ar g (p+1) b 0 e_.length (some e_.length) 1 e_.length (some e_.length))
 (E:∀g,eU g (p+1+b.length+1) (p+1+b.length+1+e.length)->bM ar g (p+1+b.length+1) e 0 e_.length none 0 v1 none) (G:e_.length<=v1)
 (K:∀g,eU g (p+1+b.length+1+e.length+1) (p+1+b.length+1+e.length+1+m.length)->bM ar g (p+1+b.length+1+e.length+1) m 0 e_.length none 0 v2 none) (J:e_.length<=v2):
 bM ar L p (aI.begin l e_::b++[.skip (p+1+b.length+1+e.length+1)]++e++[.jump (p+1+b.length+1+e.length+1+m.length)]++m) 0 e_.length none 0 e_.length none:=by
 generalize F:p+1+b.length+1+e.length+1=q at*;generalize H:q+m.length=r at*;have j:eU (fM L r ⟨0,e_.length,none,false⟩) p (r-1):=fM.ok t o_ cL cL o_ o_
 have k:bM ar (fM L r ⟨0,e_.length,none,false⟩) p (aI.begin l e_::b++[aI.skip q]++e++[aI.jump r]) 0 e_.length none 0 e_.length none:=by
  have h:p+(aI.begin l e_::b++[aI.skip q]++e++[aI.jump r]).length=q:=by simp only[el,ep,ey];omega
  rcases ii (show q<=r by omega) with s|s
  ·-- there is no else:one label
   subst s;have c:eU (fM L q ⟨0,e_.length,none,false⟩) p (q-1):=j;have A:=bM.begins (ar:=ar) (l:=l) (p:=p) (e_:=e_) c.uniq (λy a=>absurd (c.out _ _ a) o_) (λy a=>absurd (c.out _ _ a) o_)
   have w:=A.then (c':=b) (I _ (c.sub o_ o_)) λx y f=>by have:=c.out x y f;simp only[ep,ey];omega
   have z:p+([aI.begin l e_]++b).length=p+1+b.length:=by simp only[el,ep,ey];omega
   have B:=w.then (c':=[aI.skip q]) (by
    rw[z];refine bM.one (h':=0) (v':=e_.length) (e':=some e_.length) c.uniq (λy a=>absurd (c.out _ _ a) o_) (λy a=>absurd (c.out _ _ a) o_) λT d u n o i=>?_
    have a:=i q ⟨0,e_.length,none,false⟩ (d6 ⟨rfl,rfl⟩);exact⟨by rw[d],by rw[d];show 1<=_;omega,by rw[d];exact en _,o_,⟨d6 ⟨_,d6 ⟨rfl,rfl⟩⟩,by rw[a,d];rfl,by rw[a,d];exact en _,by rw[a];exact d7 rfl⟩,iX,by rw[u,d];rfl,by rw[n,d];exact en _,by rw[o,d];exact d6 rfl⟩)
    λx y f=>by have:=c.out x y f;simp only[el,ep,ey];omega
   have C:p+([aI.begin l e_]++b++[aI.skip q]).length=p+1+b.length+1:=by simp only[el,ep,ey];omega
   have v:=B.then (c':=e) (by rw[C];exact(E _ (c.sub o_ o_)).entry cL) λx y f=>by have:=c.out x y f;simp only[el,ep,ey];omega
   have D:p+([aI.begin l e_]++b++[aI.skip q]++e).length=p+1+b.length+1+e.length:=by simp only[el,ep,ey];omega
   exact v.then (c':=[aI.jump q]) (by
    rw[D];refine bM.one c.uniq (λy a=>absurd (c.out _ _ a) o_) (λy a=>?_) λT d u n o i=>?_
    ·rw[show p+1+b.length+1+e.length+1=q from F] at a
     rcases a with a|⟨_,rfl⟩
     ·exact absurd a (t.none o_ o_ y)
     ·exact⟨rfl,rfl,rfl⟩
    ·have a:=i q ⟨0,e_.length,none,false⟩ (d6 ⟨rfl,rfl⟩);exact⟨by rw[d],by rw[d];exact ft _,d7 o_,d6 ⟨_,d6 ⟨rfl,rfl⟩⟩,by rw[a,d],by rw[a,d];exact G,by rw[a];exact d7 rfl⟩)
    λx y f=>by have:=c.out x y f;simp only[el,ep,ey];omega
  ·refine bM.close (q:=q) (y:=⟨0,e_.length,none,false⟩) ?_ o_ o_
   have c:eU (fM (fM L r ⟨0,e_.length,none,false⟩) q ⟨0,e_.length,none,false⟩) p (q-1):=fM.ok j o_ o_ cL o_ o_
   have A:=bM.begins (ar:=ar) (l:=l) (p:=p) (e_:=e_) c.uniq (λy a=>absurd (c.out _ _ a) o_) (λy a=>absurd (c.out _ _ a) o_)
   have w:=A.then (c':=b) (I _ (c.sub o_ o_)) λx y f=>by have:=c.out x y f;simp only[ep,ey];omega
   have z:p+([aI.begin l e_]++b).length=p+1+b.length:=by simp only[el,ep,ey];omega
   have B:=w.then (c':=[aI.skip q]) (by
    rw[z];refine bM.one (h':=0) (v':=e_.length) (e':=some e_.length) c.uniq (λy a=>absurd (c.out _ _ a) o_) (λy a=>absurd (c.out _ _ a) o_) λT d u n o i=>?_
    have a:=i q ⟨0,e_.length,none,false⟩ (d6 ⟨rfl,rfl⟩);exact⟨by rw[d],by rw[d];show 1<=_;omega,by rw[d];exact en _,o_,⟨d6 ⟨_,d6 ⟨rfl,rfl⟩⟩,by rw[a,d];rfl,by rw[a,d];exact en _,by rw[a];exact d7 rfl⟩,iX,by rw[u,d];rfl,by rw[n,d];exact en _,by rw[o,d];exact d6 rfl⟩)
    λx y f=>by have:=c.out x y f;simp only[el,ep,ey];omega
   have C:p+([aI.begin l e_]++b++[aI.skip q]).length=p+1+b.length+1:=by simp only[el,ep,ey];omega
   have v:=B.then (c':=e) (by rw[C];exact(E _ (c.sub o_ o_)).entry cL) λx y f=>by have:=c.out x y f;simp only[el,ep,ey];omega
   have D:p+([aI.begin l e_]++b++[aI.skip q]++e).length=p+1+b.length+1+e.length:=by simp only[el,ep,ey];omega
   exact v.then (c':=[aI.jump r]) (by
    rw[D];refine bM.one c.uniq (λy a=>absurd (c.out _ _ a) o_) (λy a=>?_) λT d u n o i=>?_
    ·rw[show p+1+b.length+1+e.length+1=q from F] at a
     rcases a with (a|⟨a,_⟩)|⟨_,rfl⟩
     ·exact absurd a (t.none o_ o_ y)
     ·omega
     ·exact⟨rfl,rfl,rfl⟩
    ·have a:=i r ⟨0,e_.length,none,false⟩ (d7 (d6 ⟨rfl,rfl⟩));exact⟨by rw[d],by rw[d];exact ft _,d7 o_,d6 ⟨_,d7 (d6 ⟨rfl,rfl⟩)⟩,by rw[a,d],by rw[a,d];exact G,by rw[a];exact d7 rfl⟩)
    λx y f=>by have:=c.out x y f;simp only[el,ep,ey];omega
 have h:p+(aI.begin l e_::b++[aI.skip q]++e++[aI.jump r]).length=q:=by simp only[el,ep,ey];omega
 refine bM.close (q:=r) (y:=⟨0,e_.length,none,false⟩) ?_ o_ (by rw[el];omega)
 refine k.then (c':=m) ?_ λx y f=>by have:=j.out x y f;omega
 rw[h];have:=(K L (t.sub o_ o_)).exit J false (by rw[H];exact t.none o_ cL)
 rw[H] at this;exact this
def bM.whiles{L:Nat->eJ->Prop}{l:Nat}{b cb:List aI}
 (i:eU L p (p+1+b.length+1+cb.length+1))
 (C:∀f,eU f (p+1) (p+1+b.length)->bM ar f (p+1) b 0 e_.length (some e_.length) 1 e_.length (some e_.length))
 (r:∀f,eU f (p+1+b.length+1) (p+1+b.length+1+cb.length)->bM ar f (p+1+b.length+1) cb 0 e_.length none 0 v1 none) (u:e_.length<=v1):
 bM ar L p (aI.begin l e_::b++[.skip (p+1+b.length+1+cb.length+1)]++cb++[aI.jump p]) 0 e_.length none 0 e_.length none:=by
 generalize s:p+1+b.length+1+cb.length+1=q at*;have m:p+(aI.begin l e_::b++[aI.skip q]++cb++[aI.jump p]).length=q:=by simp only[el,ep,ey];omega
 refine bM.close (q:=p) (y:=⟨0,e_.length,none,true⟩) (bM.close (q:=q) (y:=⟨0,e_.length,none,false⟩) ?_ o_ o_) o_ o_
 have h:eU (fM L p ⟨0,e_.length,none,true⟩) (p+1) q:=fM.ok i cL o_ o_ cL o_
 have d:eU (fM (fM L p ⟨0,e_.length,none,true⟩) q ⟨0,e_.length,none,false⟩) (p+1) (q-1):=fM.ok h o_ cL cL o_ o_
 have w:=bM.begins (ar:=ar) (l:=l) (p:=p) (e_:=e_) d.uniq (λy a=>by
  rcases a with (a|⟨_,rfl⟩)|⟨a,_⟩
  ·exact absurd a (i.none o_ o_ y)
  ·rfl
  ·omega) (λy a=>absurd (d.out _ _ a) o_)
 have t:=w.then (c':=b) (C _ (d.sub o_ o_)) λx y e=>by have:=d.out x y e;simp only[ep,ey];omega
 have v:p+([aI.begin l e_]++b).length=p+1+b.length:=by simp only[el,ep,ey];omega
 have z:=t.then (c':=[aI.skip q]) (by
  rw[v];refine bM.one (h':=0) (v':=e_.length) (e':=some e_.length) d.uniq (λy a=>absurd (d.out _ _ a) o_) (λy a=>absurd (d.out _ _ a) o_) λT c n j k g=>?_
  have a:=g q ⟨0,e_.length,none,false⟩ (d6 ⟨rfl,rfl⟩);exact⟨by rw[c],by rw[c];show 1<=_;omega,by rw[c];exact en _,o_,⟨d6 ⟨_,d6 ⟨rfl,rfl⟩⟩,by rw[a,c];rfl,by rw[a,c];exact en _,by rw[a];exact d7 rfl⟩,iX,by rw[n,c];rfl,by rw[j,c];exact en _,by rw[k,c];exact d6 rfl⟩)
  λx y e=>by have:=d.out x y e;simp only[el,ep,ey];omega
 have A:p+([aI.begin l e_]++b++[aI.skip q]).length=p+1+b.length+1:=by simp only[el,ep,ey];omega
 have o:=z.then (c':=cb) (by rw[A];exact(r _ (d.sub o_ o_)).entry cL) λx y e=>by have:=d.out x y e;simp only[el,ep,ey];omega
 have B:p+([aI.begin l e_]++b++[aI.skip q]++cb).length=p+1+b.length+1+cb.length:=by simp only[el,ep,ey];omega
 exact o.then (c':=[aI.jump p]) (by
  rw[B];refine bM.one d.uniq (λy a=>absurd (d.out _ _ a) o_) (λy a=>?_) λT c n j k g=>?_
  ·rw[show p+1+b.length+1+cb.length+1=q from s] at a
   rcases a with (a|⟨a,_⟩)|⟨_,rfl⟩
   ·exact absurd a (i.none o_ o_ y)
   ·omega
   ·exact⟨rfl,rfl,rfl⟩
  ·have a:=g p ⟨0,e_.length,none,true⟩ (d7 (d6 ⟨rfl,rfl⟩));exact⟨by rw[c],by rw[c];exact ft _,d6 (by rw[a]),d6 ⟨_,d7 (d6 ⟨rfl,rfl⟩)⟩,by rw[a,c],by rw[a,c];exact u,by rw[a];exact d7 rfl⟩)
  λx y e=>by have:=d.out x y e;simp only[el,ep,ey];omega
def mJ(fs:List aE):∀d,VQ fs d
 |0,_,_,_,_,h,_=>h.elim
 |d+1,g,a,L,p,Y,i=>by
  have M:=mJ fs d;rcases Y with ⟨k,S,t,v,l,F,_⟩|⟨k,O,J,l⟩|⟨k,c,t,l,Q,V⟩|⟨k,c,b,l,Q,S⟩|⟨k,l|⟨v,l,F⟩⟩|⟨k,v,l,F⟩|⟨k,v,l,F⟩
  ·have o:bA fs (d+1) g a p=(aI.begin a.l_ g::aF fs g d v (p+1)++[aI.declare g.length],t.x_::g):=by rw[bA];simp[k,l]
   have r:cZ g a=t.x_::g:=by unfold cZ;rw[if_pos k,l];rfl
   rw[o] at i ⊢
   rw[r];simp only at i ⊢
   obtain⟨B,I⟩:=lJ (L:=L) (p:=p+1) (e:=some g.length) F o_ (i.sub o_ (by rw[qP];omega))
   refine⟨bM.stmt i B λw=>bM.last w rfl o_ λD T m E u A C z=>⟨by rw[m];rfl,z,?_⟩,trivial,_,rfl⟩
   rw[m];exact⟨en _,cL,o_,rfl,E,u,by rw[A];exact en _,d7 C⟩
  ·have o:bA fs (d+1) g a p=(aI.begin a.l_ g::bW (aF fs g d) a.y_ (p+1)++[aI.assign (dV g a.x_) (a.y_.length-1)],g):=by rw[bA];simp[k]
   have r:cZ g a=g:=by unfold cZ;rw[if_neg (by rw[k];decide)]
   rw[o] at i ⊢
   rw[r];simp only at i ⊢
   obtain⟨B,I⟩:=sJ (nP fs false g d) a.y_ L (p+1) 0 g.length (some g.length) l cL o_ (i.sub o_ (by rw[qP];omega))
   rw[ge] at B;have U:0<a.y_.length:=gx.2 J;refine⟨bM.stmt i B λw=>bM.last w rfl o_ λD T m E u A C z=>⟨by rw[m];rfl,z,?_⟩,trivial,_,rfl⟩
   rw[m];refine⟨?_,sG O,E,?_,by rw[A];exact en _,d7 C⟩
   ·show a.y_.length-1+1<=a.y_.length;omega
   ·rw[u];show 0=a.y_.length-(a.y_.length-1+1);omega
  ·have r:cZ g a=g:=by unfold cZ;rw[if_neg (by rw[k];decide)]
   rw[r]
   obtain⟨H,o,P⟩:∃H,bA fs (d+1) g a p=(aI.begin a.l_ g::aF fs g d c (p+1)++[aI.skip (p+1+(aF fs g d c (p+1)).length+1+(bL (bA fs d) g t.y_ (p+1+(aF fs g d c (p+1)).length+1)).length+1)]++bL (bA fs d) g t.y_ (p+1+(aF fs g d c (p+1)).length+1)++
    [aI.jump (p+1+(aF fs g d c (p+1)).length+1+(bL (bA fs d) g t.y_ (p+1+(aF fs g d c (p+1)).length+1)).length+1+H.length)]++H,g)/\
    ∃G,g.length<=G/\∀s,eU s (p+1+(aF fs g d c (p+1)).length+1+(bL (bA fs d) g t.y_ (p+1+(aF fs g d c (p+1)).length+1)).length+1) (p+1+(aF fs g d c (p+1)).length+1+(bL (bA fs d) g t.y_ (p+1+(aF fs g d c (p+1)).length+1)).length+1+H.length)->bM (fZ fs) s (p+1+(aF fs g d c (p+1)).length+1+(bL (bA fs d) g t.y_ (p+1+(aF fs g d c (p+1)).length+1)).length+1) H 0 g.length none 0 G none:=by
    rcases l with l|⟨x,l,O⟩
    ·refine⟨[],by rw[bA];simp[k,l],g.length,cL,λs j=>bM.nil _ _ _ _ _ _ (λq y W Z=>absurd (j.out q y W) t_) j.uniq⟩
    ·exact⟨_,by rw[bA];simp[k,l],_,mU x.y_ g,λs j=>mY M x.y_ g s _ O j⟩
   obtain⟨G,K,P⟩:=P;rw[o] at i ⊢
   simp only at i ⊢
   refine⟨bM.ifs (v1:=(eE g t.y_).length) (v2:=G) ?_ (λs j=>(lJ Q o_ j).1) (λs j=>mY M t.y_ g s _ V j) (mU _ _) P K,trivial,_,rfl⟩
   refine i.sub cL ?_;simp only[el,ep,ey];omega
  ·have o:bA fs (d+1) g a p=(aI.begin a.l_ g::aF fs g d c (p+1)++[aI.skip (p+1+(aF fs g d c (p+1)).length+1+(bL (bA fs d) g b.y_ (p+1+(aF fs g d c (p+1)).length+1)).length+1)]++bL (bA fs d) g b.y_ (p+1+(aF fs g d c (p+1)).length+1)++[aI.jump p],g):=by rw[bA];simp[k,l]
   have r:cZ g a=g:=by unfold cZ;rw[if_neg (by rw[k];decide)]
   rw[o] at i ⊢
   rw[r];simp only at i ⊢
   refine⟨bM.whiles (v1:=(eE g b.y_).length) ?_ (λs j=>(lJ Q o_ j).1) (λs j=>mY M b.y_ g s _ S j) (mU _ _),trivial,_,rfl⟩
   refine i.sub cL ?_;simp only[el,ep,ey];omega
  ·have o:bA fs (d+1) g a p=(aI.begin a.l_ g::[aI.push (bH 0)]++[aI.give],g):=by rw[bA];simp[k,l]
   have r:cZ g a=g:=by unfold cZ;rw[if_neg (by rw[k];decide)]
   rw[o] at i ⊢
   rw[r];simp only at i ⊢
   have N:eU L (p+1) (p+2):=i.sub o_ (by rw[qP];simp)
   refine⟨bM.stmt (n:=1) i (bM.plain N rfl o_ λD T u A f b X=>⟨b,X,by rw[u];exact f⟩) λw=>bM.last w rfl o_ λD T m E u A C z=>⟨by rw[m];rfl,z,by rw[m];exact en _⟩,trivial,_,rfl⟩
  ·have o:bA fs (d+1) g a p=(aI.begin a.l_ g::aF fs g d v (p+1)++[aI.give],g):=by rw[bA];simp[k,l]
   have r:cZ g a=g:=by unfold cZ;rw[if_neg (by rw[k];decide)]
   rw[o] at i ⊢
   rw[r];simp only at i ⊢
   obtain⟨B,I⟩:=lJ (L:=L) (p:=p+1) (e:=some g.length) F o_ (i.sub o_ (by rw[qP];omega))
   exact⟨bM.stmt i B λw=>bM.last w rfl o_ λD T m E u A C z=>⟨by rw[m];rfl,z,by rw[m];exact en _⟩,trivial,_,rfl⟩
  ·have o:bA fs (d+1) g a p=(aI.begin a.l_ g::aF fs g d v (p+1)++[aI.print],g):=by rw[bA];simp[k,l]
   have r:cZ g a=g:=by unfold cZ;rw[if_neg (by rw[k];decide)]
   rw[o] at i ⊢
   rw[r];simp only at i ⊢
   obtain⟨B,I⟩:=lJ (L:=L) (p:=p+1) (e:=some g.length) F o_ (i.sub o_ (by rw[qP];omega))
   refine⟨bM.stmt i B λw=>bM.last w rfl o_ λD T m E u A C z=>⟨by rw[m];rfl,z,?_⟩,trivial,_,rfl⟩
   rw[m];exact⟨en _,E,u,by rw[A];exact en _,d7 C⟩
  ·have o:bA fs (d+1) g a p=(aI.begin a.l_ g::aF fs g d v (p+1)++[aI.drop],g):=by rw[bA];simp[k,l]
   have r:cZ g a=g:=by unfold cZ;rw[if_neg (by rw[k];decide)]
   rw[o] at i ⊢
   rw[r];simp only at i ⊢
   obtain⟨B,I⟩:=lJ (L:=L) (p:=p+1) (e:=some g.length) F o_ (i.sub o_ (by rw[qP];omega))
   refine⟨bM.stmt i B λw=>bM.last w rfl o_ λD T m E u A C z=>⟨by rw[m];rfl,z,?_⟩,trivial,_,rfl⟩
   rw[m];exact⟨en _,E,u,by rw[A];exact en _,d7 C⟩
structure jI(fs:List aE)(d:Nat)(f:aE):Prop where
 y_:∃ps b,f.y_=ps++[b]/\StsOk (dM fs d) (ps.map (·.x_)).reverse b.y_/\(ps.map (·.x_)).Nodup
 len:(fO fs d f).code.length<=80000
def S9{fs:List aE}{f:aE}(h:jI fs d f):∃T,qG (fZ fs) (fO fs d f).code T/\(T 0).h=0/\(T 0).v<=f.y_.length-1/\(T 0).e=none/\jB (fO fs d f).code:=by
 obtain⟨⟨z,b,D,p,_⟩,I⟩:=h;have g:(fO fs d f).code=bL (bA fs d) (z.map (·.x_)).reverse b.y_ 0++[.push (bH 0),.give]:=by simp[fO,D]
 have N:f.y_.length-1=(z.map (·.x_)).reverse.length:=by simp[D]
 rw[N];generalize B:(z.map (·.x_)).reverse=e at*
 have M:=mY (mJ fs d) b.y_ e (λ_ _=>False) 0 p ⟨λ_ _ _ h=>h.elim,λ_ _ h=>h.elim⟩
 have x:jB (fO fs d f).code:=by
  rw[g];cases A:b.y_ with
  |nil=>exact d6 ⟨_,rfl⟩
  |cons a l=>
   rw[A] at p;obtain⟨r,K⟩:=(mJ fs d e a (λ_ _=>False) 0 p.1 ⟨λ_ _ _ h=>h.elim,λ_ _ h=>h.elim⟩).2.2
   exact d7 ⟨a.l_,e,r++bL (bA fs d) (bA fs d e a 0).2 l (0+(bA fs d e a 0).1.length)++[.push (bH 0),.give],by rw[bL,K];simp⟩
 generalize Q:bL (bA fs d) e b.y_ 0=c at*;obtain⟨T,P,F,C,t,E,H,G,L⟩:=M;rw[ge] at E H G;have s:(fO fs d f).code.length=c.length+2:=by rw[g];simp
 let U:Nat->eJ:=λq=>if q=c.length then ⟨0,(T q).v,none,false⟩ else if q=c.length+1 then ⟨1,(T c.length).v,none,false⟩ else T q
 have u0:U c.length=⟨0,(T c.length).v,none,false⟩:=by simp[U]
 have u1:U (c.length+1)=⟨1,(T c.length).v,none,false⟩:=by simp[U]
 have u2:∀q,q<c.length->U q=T q:=λq u=>by simp[U];rw[if_neg o_,if_neg o_]
 have v:(T 0).e=none:=by rcases t with t|t<;>exact t
 have o:(U 0).h=0/\(U 0).v<=e.length/\(U 0).e=none:=by
  rcases kf c.length with w|w
  ·rw[w] at u0;rw[u0];exact⟨rfl,C,rfl⟩
  ·rw[u2 0 w];exact⟨F,C,v⟩
 refine⟨U,⟨λj i m=>?_,I⟩,o.1,o.2.1,o.2.2,x⟩
 rw[s];rw[g] at m;rcases fu j c.length with n|n
 ·rw[hQ n] at m;have:=L j i m;simp only[ge] at this;refine this.same (T':=U) (u2 j n) (λq u=>?_) (λq u O p=>by rw[u2 q o_];exact p)
  rcases u with u|⟨y,J⟩
  ·refine⟨o_,?_⟩
   rcases fu q c.length with h|h
   ·rw[u2 q h];exact⟨rfl,cL,d6 rfl⟩
   ·obtain rfl:q=c.length:=o_
    rw[u0];exact⟨E.symm,cL,d7 rfl⟩
  ·exact J.elim
 ·rw[gl n] at m;obtain⟨k,rfl⟩:∃k,j=c.length+k:=⟨j-c.length,o_⟩
  rw[jd] at m;match k,m with
  |0,m=>
   simp at m;subst m;show iL _ _ U c.length _
   exact⟨by rw[u0];rfl,by rw[u0];exact ft _,o_,by rw[u1,u0],by rw[u1,u0];exact en _,by rw[u1];exact d7 rfl⟩
  |1,m=>
   simp at m;subst m;exact⟨by rw[u1];rfl,by rw[u1];show 1<=_;omega,by rw[u1];exact en _⟩
  |k+2,m=>simp at m
def mH{fs:List aE}(h:∀f∈fs,jI fs d f):kU (fZ fs) (dC fs d):=by
 refine⟨λk n a=>?_⟩
 unfold fZ at a;cases b:fs[k]? with
 |none=>rw[b] at a;cases a
 |some f=>
  rw[b] at a;simp at a;subst a;obtain⟨T,g,c,j,e,i⟩:=S9 (h f (gy b));exact⟨fO fs d f,T,by simp[dC,b],g,c,j,e,i⟩
def vY{fs:List aE}(h:∀f∈fs,jI fs d f)(o:fZ fs (dG fs [109,97,105,110])=some 0)(a:List Int):fY (fZ fs) (gD fs d a):=by
 obtain⟨f,T,k,i,n,j,m,c⟩:=(mH h).fn _ _ o;have e:gD fs d a=⟨[]++[⟨f,0,0,[],[],[]⟩],a,[]⟩:=by unfold gD;rw[k];rfl
 rw[e];refine⟨oR.snoc (λg b=>by cases b) ⟨⟨T,i,n,j,d7 m⟩,?_,s_,s_⟩ s_,λg b=>by simp at b;rw[b];exact c⟩
 rcases c with ⟨l,s,r,e⟩|⟨v,e⟩<;>simp[e]
end Go.Proofs.YtlflgmdcghfngaaGreatDoor.Hs
