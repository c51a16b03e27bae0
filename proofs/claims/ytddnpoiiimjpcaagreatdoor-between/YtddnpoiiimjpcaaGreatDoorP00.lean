/- Short words. -/
import Derived.Test.YtddnpoiiimjpcaaGreatDoorB00
set_option linter.defProp false
set_option maxRecDepth 100000
namespace Go.Proofs.YtddnpoiiimjpcaaGreatDoor
theorem o_{p:Prop}(h:p:=by omega):p:=h
theorem s_{p:Prop}(h:p:=by simp):p:=h
theorem t_{p:Prop}(h:p:=by simp;omega):p:=h
theorem d_{p:Prop}(h:p:=by decide):p:=h
theorem k_{p:Prop}(h:p:=by kernel_rfl):p:=h
theorem r_{p:Prop}(h:p:=by rfl):p:=h
theorem E_{a:Type}(x:a):∃y,y=x:=⟨x,rfl⟩
abbrev I_(n:Int):Value:=.int .i64 n
abbrev aI(b i:Nat):Addr:=⟨b,i,none⟩
abbrev bE(b:Nat):Value:=.pointer (some ⟨b,0,none⟩)
abbrev bG:Value:=.slice none 0 0
abbrev aX(v:Value):Ending:=.returned v
abbrev cE:Type:=List UInt8
abbrev cN:Type:=List (List UInt8)
abbrev aG:Type:=World
abbrev aQ:Type:=Value
abbrev bX:Type:=Nat->Prop
abbrev eK:Type:=Nat->Value
def oY{a:Type}{p:a->Prop}:∀b,b∈([]:List a)->p b:=λ_ h=>nomatch h
def cK{n:Nat}:n<=n:=en n
def dP{a:Type}{p:a->Prop}(b:a)(h:p b):p b:=h
end Go.Proofs.YtddnpoiiimjpcaaGreatDoor
namespace Go.Proofs.YtddnpoiiimjpcaaGreatDoor.Hs
variable{t:List Int}{N a d h h' k lo m n p p0 q v v' v1 v2:Nat}{ar:Nat->Option Nat}{e e':Option Nat}{b c α:Type}{l x:cE}{o e_:cN}
def bD(l:cE):Nat:=1+l.count 10
def kD(a b:cE):bD (a++b)=bD a+b.count 10:=by
 unfold bD;rw[List.count_append];omega
def UA(a:cE):a.count 10<=a.length:=List.count_le_length
def qC(a:cE):bD a<=a.length+1:=by have:=UA a;unfold bD;omega
def EV(a:cE)(c:UInt8):bD (a++[c])=bD a+if c=10 then 1 else 0:=by
 rw[kD];by_cases h:c=10<;>simp[h]
def dN(l:cE)(i lo hi:Nat):Bool:=
 match l[i]? with
 |some b=>decide (lo<=b.toNat) && decide (b.toNat<=hi)
 |none=>false
def bL(l:cE):Nat:=
 match l[0]? with
 |none=>0
 |some b=>
  if b.toNat<128 then 1
  else if 194<=b.toNat/\b.toNat<=223 then if dN l 1 128 191 then 2 else 0
  else if 224<=b.toNat/\b.toNat<=239 then
   if dN l 1 (if b.toNat=224 then 160 else 128) (if b.toNat=237 then 159 else 191) && dN l 2 128 191 then 3 else 0
  else if 240<=b.toNat/\b.toNat<=244 then
   if dN l 1 (if b.toNat=240 then 144 else 128) (if b.toNat=244 then 143 else 191) && dN l 2 128 191 && dN l 3 128 191 then 4 else 0
  else 0
def dZ:Nat->cE->Nat->Option Nat
 |0,_,_=>none
 |f+1,l,p=>
  if l.length=0 then none
  else if bL l=0 then some p
  else dZ f (l.drop (bL l)) (p+bL l)
def eO(c:UInt8):Bool:=decide (48<=c.toNat) && decide (c.toNat<=57)
def fQ(c:UInt8):Bool:=
 c.toNat==95 || (decide (97<=c.toNat) && decide (c.toNat<=122) || decide (65<=c.toNat) && decide (c.toNat<=90))
def cY(l what:cE):Bool:=what.isPrefixOf l
def bQ(p:UInt8->Bool):cE->Nat
 |[]=>0
 |c::r=>if p c then bQ p r+1 else 0
def lH(p:UInt8->Bool)(l:cE):bQ p l<=l.length:=by
 induction l with
 |nil=>simp[bQ]
 |cons c r a=>simp only[bQ];split<;>simp<;>omega
def eS(b:UInt8):Bool:=b.toNat != 10
def blankL:Nat->cE->Nat
 |0,_=>0
 |f+1,l=>
  match l with
  |[]=>0
  |c::r=>
   if c.toNat=32\/c.toNat=9\/c.toNat=10 then blankL f r+1
   else if cY (c::r) [47,47] then
    bQ eS (c::r)+blankL f ((c::r).drop (bQ eS (c::r)))
   else 0
def NN:Nat:=9223372036854775807
def dQ:Nat->cE->Option Nat
 |n,[]=>some n
 |n,c::r=>if (NN-(c.toNat-48))/10<n then none else dQ (10*n+(c.toNat-48)) r
def jI:cN:=[[102,117,110,99],[118,97,114],[105,102],[101,108,115,101],[119,104,105,108,101],[114,101,116,117,114,110],[112,114,105,110,116],[116,114,117,101],[102,97,108,115,101]]
def cX:cN:=[[61,61],[33,61],[60,61],[38,38],[124,124],[40],[41],[123],[125],[91],[93],[44],[59],[61],[60],[43],[45],[42],[47],[37],[33]]
def eR(name:Bool)(b:UInt8):Bool:=eO b || name && fQ b
def fO(b:UInt8):Bool:=b.toNat != 34 && b.toNat != 10
structure bB where
 sort:Nat
 x_:cE
 l_:Nat
structure qL where
 sort:Nat
 x_:cE
 size:Nat
 ok:Bool
def iD(l:cE)(name:Bool):qL:=
 if name then { sort:=if jI.contains (l.take (bQ (eR name) l)) then 107 else 110,x_:=l.take (bQ (eR name) l),size:=bQ (eR name) l,ok:=decide (bQ (eR name) l<=16) }
 else { sort:=48,x_:=l.take (bQ (eR name) l),size:=bQ (eR name) l,ok:=(dQ 0 (l.take (bQ (eR name) l))).isSome }
def oO(r:cE):qL:=
 { sort:=115,x_:=r.take (bQ fO r),size:=bQ fO r+2,ok:=decide (r[bQ fO r]?=some 34) && decide (bQ fO r<=100) }
def iC(l:cE):qL:=
 match cX.find? (λo=>cY l o) with
 |some o=>{ sort:=112,x_:=o,size:=o.length,ok:=true }
 |none=>{ sort:=0,x_:=[],size:=0,ok:=false }
def cG:cE->qL
 |[]=>{ sort:=0,x_:=[],size:=0,ok:=false }
 |c::r=>if eO c || fQ c then iD (c::r) (fQ c) else if c.toNat=34 then oO r else iC (c::r)
def eW:Nat->cE->cE->Except Nat (List bB)
 |0,_,_=>.error 0
 |f+1,pre,l=>
  if l.length=0 then .ok [{ sort:=101,x_:=[],l_:=bD pre }]
  else if (cG l).ok then
   match eW f (pre++l.take ((cG l).size+blankL l.length (l.drop (cG l).size))) (l.drop ((cG l).size+blankL l.length (l.drop (cG l).size))) with
   |.ok ts=>.ok ({ sort:=(cG l).sort,x_:=(cG l).x_,l_:=bD pre }::ts)
   |.error n=>.error n
  else .error (bD pre)
def iB(l:cE):Except Nat (List bB):=
 eW (l.length+1) (l.take (blankL l.length l)) (l.drop (blankL l.length l))
def lR{w:cE}(h:cY l w=true):w.length<=l.length:=(kh.1 h).length_le
def oI(f:Nat)(c:UInt8)(r:cE):blankL (f+1) (c::r)=
 if c.toNat=32\/c.toNat=9\/c.toNat=10 then blankL f r+1
  else if cY (c::r) [47,47] then bQ eS (c::r)+blankL f ((c::r).drop (bQ eS (c::r)))
  else 0:=by
 rw[blankL]
def DX(c:UInt8)(r:cE)(h:cY (c::r) [47,47]=true):1<=bQ eS (c::r):=by
 have b:c=47:=by
  have:=kh.1 h;obtain⟨t,a⟩:=this;simp only[ga,List.cons.injEq] at a;exact a.1.symm
 subst b;rw[bQ,if_pos d_];omega
def xA(f:Nat):∀l:cE,blankL f l<=l.length:=by
 induction f with
 |zero=>intro l;simp[blankL]
 |succ f a=>
  intro l;cases l with
  |nil=>simp[blankL]
  |cons c r=>
   rw[oI];split
   ·have:=a r;simp;omega
   ·split
    ·have b:=a ((c::r).drop (bQ eS (c::r)));have d:=lH eS (c::r);rw[gt] at b;omega
    ·omega
def GE(f:Nat):∀(g:Nat) (l:cE),l.length<=f->l.length<=g->blankL f l=blankL g l:=by
 induction f with
 |zero=>
  intro g l h _;obtain rfl:l=[]:=gd o_
  cases g<;>rfl
 |succ f b=>
  intro g l e d;cases l with
  |nil=>cases g<;>rfl
  |cons c r=>
   cases g with
   |zero=>simp at d
   |succ g=>
    rw[oI,oI];simp only[ep] at e d;rw[b g r o_ o_]
    by_cases a:cY (c::r) [47,47]=true
    ·have i:=DX c r a;rw[b g ((c::r).drop (bQ eS (c::r))) (by rw[gt,ep];omega) (by rw[gt,ep];omega)]
    ·simp only[a];rfl
def tU(l:cE)(b:Bool):(iD l b).size=bQ (eR b) l:=by
 unfold iD;split<;>rfl
def vS(l:cE)(h:(cG l).ok=true):1<=(cG l).size/\(cG l).size<=l.length:=by
 cases l with
 |nil=>simp[cG] at h
 |cons c r=>
  rw[cG] at h ⊢
  split
  ·rename_i b;rw[tU];refine⟨?_,lH _ _⟩
   rw[bQ,if_pos (by
    revert b;unfold eR
    cases eO c<;>cases fQ c<;>simp)]
   omega
  ·rename_i b;rw[if_neg b] at h;split
   ·rename_i a;rw[if_pos a] at h;have d:(decide (r[bQ fO r]?=some 34) && decide (bQ fO r<=100))=true:=h;rw[fw,decide_eq_true_eq] at d
    have f:bQ fO r<r.length:=by
     by_cases j:bQ fO r<r.length
     ·exact j
     ·rw[gi o_] at d;exact absurd d.1 s_
    show 1<=bQ fO r+2/\bQ fO r+2<=(c::r).length
    rw[ep];omega
   ·rename_i a;rw[if_neg a] at h;unfold iC at h ⊢
    cases e:cX.find? (λo=>cY (c::r) o) with
    |none=>rw[e] at h;simp at h
    |some o=>
     have i:=List.find?_some e;have g:=iz e;refine⟨?_,lR i⟩;have:∀o∈cX,1<=o.length:=d_
     exact this o g
def iV(ts:List bB):Except Nat (List bB)->Except Nat (List bB)
 |.ok l=>.ok (ts++l)
 |.error n=>.error n
def EK(x:Except Nat (List bB)):iV [] x=x:=by cases x<;>rfl
def BP(ts:List bB)(t:bB)(x:Except Nat (List bB)):iV (ts++[t]) x=iV ts (iV [t] x):=by cases x<;>simp[iV]
def nH(f:Nat)(a l:cE)(h:l.length=0):eW (f+1) a l=.ok [{ sort:=101,x_:=[],l_:=bD a }]:=by
 rw[eW,if_pos h]
def nI(f:Nat)(a l:cE)(h:¬l.length=0)(b:(cG l).ok=false):eW (f+1) a l=.error (bD a):=by
 rw[eW,if_neg h,if_neg (by rw[b];simp)]
def mT(f:Nat)(a l:cE)(h:¬l.length=0)(c:(cG l).ok=true)(m:Nat)(b:m=(cG l).size+blankL l.length (l.drop (cG l).size)):
 eW (f+1) a l=iV [{ sort:=(cG l).sort,x_:=(cG l).x_,l_:=bD a }] (eW f (a++l.take m) (l.drop m)):=by
 rw[eW,if_neg h,if_pos c,<-b];cases eW f (a++l.take m) (l.drop m)<;>rfl
structure aC where
 op:cE
 l_:Nat
 x_:cE
 y_:List aC
def aT(ts:List bB)(p:Nat):bB:=ts[p]?.getD { sort:=101,x_:=[],l_:=0 }
def bF(ts:List bB)(p:Nat)(x:cE):Bool:=((aT ts p).sort==112 || (aT ts p).sort==107) && (aT ts p).x_==x
abbrev cB(α:Type):=Except Nat (α × Nat)
def bad(ts:List bB)(p:Nat):cB α:=.error (aT ts p).l_
def cJ(x:cE):Nat:=
 if x==[124,124] then 0
 else if x==[38,38] then 1
 else if x==[61,61] || (x==[33,61] || (x==[60] || x==[60,61])) then 2
 else if x==[43] || x==[45] then 3
 else if x==[42] || (x==[47] || x==[37]) then 4
 else 9
def dT(E:Nat->cB aC)(ts:List bB):Nat->Nat->List aC->cB (List aC)
 |0,_,_=>.error 0
 |g+1,p,acc=>
  match E p with
  |.error l=>.error l
  |.ok (a,q)=>if bF ts q [44] then dT E ts g (q+1) (acc++[a]) else .ok (acc++[a],q)
def iO(E:Nat->cB aC)(ts:List bB)(p:Nat)(shut:cE):cB (List aC):=
 if bF ts p shut then .ok ([],p) else dT E ts (ts.length+1) p []
def aS(ts:List bB)(x:cE):cB α->cB α
 |.error l=>.error l
 |.ok (a,q)=>if bF ts q x then .ok (a,q+1) else bad ts q
def eY(E:Nat->cB aC)(ts:List bB)(p:Nat)(opens shut:cE):cB (List aC):=
 if bF ts p opens then aS ts shut (iO E ts (p+1) shut) else bad ts p
def cF{β:Type}(f:α->β):cB α->cB β
 |.error l=>.error l
 |.ok (a,q)=>.ok (f a,q)
def bW{β:Type}(x:cB α)(f:α->Nat->cB β):cB β:=
 match x with
 |.error l=>.error l
 |.ok (a,q)=>f a q
def aV(op:cE)(l_:Nat)(x_:cE)(y_:List aC):aC:={ op:=op,l_:=l_,x_:=x_,y_:=y_ }
def eH(E:Nat->cB aC)(ts:List bB)(p:Nat):cB aC:=
 if (aT ts p).sort==48 || (aT ts p).sort==115 then .ok (aV [UInt8.ofNat (aT ts p).sort] (aT ts p).l_ (aT ts p).x_ [],p+1)
 else if bF ts p [116,114,117,101] || bF ts p [102,97,108,115,101] then .ok (aV [98,111,111,108] (aT ts p).l_ (aT ts p).x_ [],p+1)
 else if bF ts p [40] then aS ts [41] (E (p+1))
 else if bF ts p [91] then cF (aV [108,105,115,116] (aT ts p).l_ (aT ts p).x_) (eY E ts p [91] [93])
 else if (aT ts p).sort==110 then
  if bF ts (p+1) [40] then cF (aV [99,97,108,108] (aT ts p).l_ (aT ts p).x_) (eY E ts (p+1) [40] [41])
  else .ok (aV [110,97,109,101] (aT ts p).l_ (aT ts p).x_ [],p+1)
 else bad ts p
def dK(E:Nat->cB aC)(ts:List bB):Nat->aC->Nat->cB aC
 |0,_,_=>.error 0
 |g+1,n,p=>
  if bF ts p [91] then
   match aS ts [93] (E (p+1)) with
   |.error l=>.error l
   |.ok (i,q)=>dK E ts g (aV [105,110,100,101,120] (aT ts p).l_ [] [n,i]) q
  else .ok (n,p)
def eV(E:Nat->cB aC)(ts:List bB):Nat->Nat->cB aC
 |0,_=>.error 0
 |g+1,p=>
  if bF ts p [45] then cF (λx=>aV [45,120] (aT ts p).l_ [] [x]) (eV E ts g (p+1))
  else if bF ts p [33] then cF (λx=>aV [33,120] (aT ts p).l_ [] [x]) (eV E ts g (p+1))
  else bW (eH E ts p) (dK E ts (ts.length+1))
def bK(L:Nat->cB aC)(ts:List bB)(k:Nat):Nat->aC->Nat->cB aC
 |0,_,_=>.error 0
 |g+1,n,q=>
  if (aT ts q).sort==112 && cJ (aT ts q).x_==k then
   match L (q+1) with
   |.error l=>.error l
   |.ok (r,q2)=>if k=2 then .ok (aV (aT ts q).x_ (aT ts q).l_ [] [n,r],q2) else bK L ts k g (aV (aT ts q).x_ (aT ts q).l_ [] [n,r]) q2
  else .ok (n,q)
def gH(E:Nat->cB aC)(ts:List bB):Nat->Nat->cB aC
 |0,p=>eV E ts (ts.length+1) p
 |j+1,p=>bW (gH E ts j p) (bK (gH E ts j) ts (4-j) (ts.length+1))
def eM(ts:List bB):Nat->Nat->cB aC
 |0,_=>.error 0
 |f+1,p=>gH (eM ts f) ts 5 p
def fG(E:Nat->cB aC)(ts:List bB):Nat->Nat->List aC->cB (List aC)
 |0,_,_=>.error 0
 |g+1,p,acc=>
  if bF ts p [91] then
   match aS ts [93] (E (p+1)) with
   |.error l=>.error l
   |.ok (i,q)=>fG E ts g q (acc++[i])
  else .ok (acc,p)
def gV(E:Nat->cB aC)(ts:List bB)(p:Nat):cB aC:=
 if (aT ts p).sort==110 then
  if bF ts (p+1) [40] then
   aS ts [59] (cF (λl=>aV [100,111] (aT ts p).l_ (aT ts p).x_ [aV [99,97,108,108] (aT ts p).l_ (aT ts p).x_ l]) (eY E ts (p+1) [40] [41]))
  else
   bW (aS ts [61] (fG E ts (ts.length+1) (p+1) [])) λidx q=>
    aS ts [59] (cF (λv=>aV [115,101,116] (aT ts p).l_ (aT ts p).x_ (idx++[v])) (E q))
 else bad ts p
def tA(E:Nat->cB aC)(ts:List bB)(p:Nat):cB aC:=
 if (aT ts (p+1)).sort==110 then
  if bF ts (p+2) [61] then
   aS ts [59] (cF (λv=>aV [118,97,114] (aT ts p).l_ [] [aV [116,97,114,103,101,116] (aT ts (p+1)).l_ (aT ts (p+1)).x_ [],v]) (E (p+3)))
  else bad ts (p+2)
 else bad ts (p+1)
def yN(E B:Nat->cB aC)(ts:List bB)(p:Nat):cB aC:=
 bW (E (p+1)) λc q=>bW (B q) λb q2=>
  if bF ts q2 [101,108,115,101] then cF (λd=>aV [105,102] (aT ts p).l_ [] [c,b,d]) (B (q2+1))
  else .ok (aV [105,102] (aT ts p).l_ [] [c,b],q2)
def pI(E B:Nat->cB aC)(ts:List bB)(p:Nat):cB aC:=
 bW (E (p+1)) λc q=>cF (λb=>aV [119,104,105,108,101] (aT ts p).l_ [] [c,b]) (B q)
def mL(E:Nat->cB aC)(ts:List bB)(p:Nat):cB aC:=
 if bF ts (p+1) [59] then .ok (aV [114,101,116,117,114,110] (aT ts p).l_ [] [],p+2)
 else aS ts [59] (cF (λv=>aV [114,101,116,117,114,110] (aT ts p).l_ [] [v]) (E (p+1)))
def pP(E:Nat->cB aC)(ts:List bB)(p:Nat):cB aC:=
 aS ts [59] (cF (λv=>aV [112,114,105,110,116] (aT ts p).l_ [] [v]) (E (p+1)))
def jS(E B:Nat->cB aC)(ts:List bB)(p:Nat):cB aC:=
 if bF ts p [118,97,114] then tA E ts p
 else if bF ts p [105,102] then yN E B ts p
 else if bF ts p [119,104,105,108,101] then pI E B ts p
 else if bF ts p [114,101,116,117,114,110] then mL E ts p
 else if bF ts p [112,114,105,110,116] then pP E ts p
 else gV E ts p
def dV(S:Nat->cB aC)(ts:List bB):Nat->Nat->List aC->cB (List aC)
 |0,_,_=>.error 0
 |g+1,p,acc=>
  if bF ts p [125] then .ok (acc,p)
  else
   match S p with
   |.error l=>.error l
   |.ok (s,q)=>dV S ts g q (acc++[s])
def jM(E:Nat->cB aC)(ts:List bB):Nat->Nat->cB aC
 |0,_=>.error 0
 |f+1,p=>
  if bF ts p [123] then
   cF (aV [98,108,111,99,107] (aT ts p).l_ []) (aS ts [125] (dV (jS E (jM E ts f) ts) ts (ts.length+1) (p+1) []))
  else bad ts p
def dD(ts:List bB):Nat->Nat->List aC->cB (List aC)
 |0,_,_=>.error 0
 |g+1,p,acc=>
  if (aT ts p).sort==110 then
   if bF ts (p+1) [44] then dD ts g (p+2) (acc++[aV [112,97,114,97,109] (aT ts p).l_ (aT ts p).x_ []])
   else .ok (acc++[aV [112,97,114,97,109] (aT ts p).l_ (aT ts p).x_ []],p+1)
  else bad ts p
def iL(ts:List bB)(p:Nat):cB (List aC):=
 aS ts [41] (if bF ts p [41] then .ok ([],p) else dD ts (ts.length+1) p [])
def kQ(B:Nat->cB aC)(ts:List bB)(p:Nat):cB aC:=
 if bF ts p [102,117,110,99] then
  if (aT ts (p+1)).sort==110 then
   if bF ts (p+2) [40] then
    bW (iL ts (p+3)) λl q=>cF (λb=>aV [102,117,110,99] (aT ts (p+1)).l_ (aT ts (p+1)).x_ (l++[b])) (B q)
   else bad ts (p+2)
  else bad ts (p+1)
 else bad ts p
def fH(F:Nat->cB aC)(ts:List bB):Nat->Nat->List aC->cB (List aC)
 |0,_,_=>.error 0
 |g+1,p,acc=>
  if (aT ts p).sort==101 then .ok (acc,p)
  else
   match F p with
   |.error l=>.error l
   |.ok (s,q)=>fH F ts g q (acc++[s])
def nC(ts:List bB):cB (List aC):=
 fH (kQ (jM (eM ts (ts.length+1)) ts (ts.length+1)) ts) ts (ts.length+1) 0 []
structure bY(ts:List bB):Prop where
 next:∀p,p<ts.length->(aT ts p).sort≠101->p+1<ts.length
 l_:∀p,p<ts.length->(aT ts p).l_≠0
structure cU{α:Type}(N p:Nat)(r:cB α):Prop where
 er:∀l,r=.error l->l≠0
 ok:∀a q,r=.ok (a,q)->p<q/\q<N
structure fM{α:Type}(N p:Nat)(r:cB α):Prop where
 er:∀l,r=.error l->l≠0
 ok:∀a q,r=.ok (a,q)->p<=q/\q<N
def cU.weak{r:cB b}(h:cU N p r):fM N p r:=⟨h.er,λa q e=>by have:=h.ok a q e;omega⟩
def cU.ne{a:Type}{r:cB a}(h:cU N p r):r≠.error 0:=λe=>h.er 0 e rfl
def fM.ne{a:Type}{r:cB a}(h:fM N p r):r≠.error 0:=λe=>h.er 0 e rfl
def cU.low{b:Nat}{r:cB c}(h:cU N p r)(d:b<=p):cU N b r:=⟨h.er,λa q e=>by have:=h.ok a q e;omega⟩
def fM.low{b:Nat}{r:cB c}(h:fM N p r)(d:b<p):cU N b r:=⟨h.er,λa q e=>by have:=h.ok a q e;omega⟩
def cU.of_ok(a:b)(h:p<q)(c:q<N):cU N p (.ok (a,q):cB b):=⟨(λl e=>by cases e),λd f e=>by cases e;exact⟨h,c⟩⟩
def fM.of_ok(a:b)(h:p<=q)(c:q<N):fM N p (.ok (a,q):cB b):=⟨(λl e=>by cases e),λd f e=>by cases e;exact⟨h,c⟩⟩
def cU.map{r:cB b}(f:b->c)(h:cU N p r):cU N p (cF f r):=by
 cases r with
 |error l=>exact⟨λi e=>by cases e;exact h.er _ rfl,λa q e=>by cases e⟩
 |ok d=>obtain⟨a,q⟩:=d;exact⟨(λl e=>by cases e),λg j e=>by cases e;exact h.ok _ _ rfl⟩
def bY.isT{ts:List bB}(T:bY ts)(a:p<ts.length)(h:bF ts p x=true):p+1<ts.length:=by
 refine T.next p a λe=>?_
 unfold bF at h;rw[e] at h;simp at h
def bY.bad{ts:List bB}(T:bY ts){d:Type}{c:Nat}(b:p<ts.length):cU ts.length c (bad ts p:cB d):=⟨λl e=>by cases e;exact T.l_ p b,λa q e=>by cases e⟩
def bY.take{ts:List bB}(T:bY ts){d:Type}{r:cB d}(h:cU ts.length p r):cU ts.length p (aS ts x r):=by
 cases r with
 |error l=>exact⟨λg e=>by cases e;exact h.er _ rfl,λa q e=>by cases e⟩
 |ok c=>
  obtain⟨a,q⟩:=c;have b:=h.ok a q rfl;unfold aS;simp only;split
  ·rename_i f;exact cU.of_ok a o_ (T.isT b.2 f)
  ·exact T.bad b.2
def bY.takeW{ts:List bB}(T:bY ts){d:Type}{r:cB d}(h:fM ts.length p r):cU ts.length p (aS ts x r):=by
 cases r with
 |error l=>exact⟨λg e=>by cases e;exact h.er _ rfl,λa q e=>by cases e⟩
 |ok c=>
  obtain⟨a,q⟩:=c;have b:=h.ok a q rfl;unfold aS;simp only;split
  ·rename_i f;exact cU.of_ok a o_ (T.isT b.2 f)
  ·exact T.bad b.2
def bY.listLoop{ts:List bB}(T:bY ts){E:Nat->cB aC}(h:∀q,p0<q->q<ts.length->cU ts.length q (E q)):∀(g p:Nat) (acc:List aC),p0<p->p<ts.length->ts.length<=p+g->cU ts.length p (dT E ts g p acc)
 |0,p,acc,_,c,i=>by omega
 |g+1,p,acc,j,c,i=>by
  have d:=h p j c;rw[dT];cases f:E p with
  |error l=>exact⟨λn e=>by cases e;exact d.er _ f,λa q e=>by cases e⟩
  |ok k=>
   obtain⟨a,q⟩:=k;have b:=d.ok a q f;simp only;split
   ·rename_i m;have:=T.isT b.2 m;exact(bY.listLoop T h g (q+1) (acc++[a]) o_ this o_).low o_
   ·exact cU.of_ok _ b.1 b.2
def bY.listIn{ts:List bB}(T:bY ts){E:Nat->cB aC}(c:∀q,p0<q->q<ts.length->cU ts.length q (E q))(b:p0<p)(a:p<ts.length)(y:cE):fM ts.length p (iO E ts p y):=by
 unfold iO;split
 ·exact fM.of_ok _ cK a
 ·exact(T.listLoop c (ts.length+1) p [] b a o_).weak
def bY.listP{ts:List bB}(T:bY ts){E:Nat->cB aC}(b:∀q,p0<q->q<ts.length->cU ts.length q (E q))(d:p0<=p)(a:p<ts.length)(x y:cE):cU ts.length p (eY E ts p x y):=by
 unfold eY;split
 ·rename_i c;have:=T.isT a c;exact(T.takeW (T.listIn b (p:=p+1) o_ this y)).low o_
 ·exact T.bad a
def bY.primary{ts:List bB}(T:bY ts){E:Nat->cB aC}(c:∀q,p0<q->q<ts.length->cU ts.length q (E q))(f:p0<=p)(b:p<ts.length):cU ts.length p (eH E ts p):=by
 unfold eH;split
 ·rename_i a;refine cU.of_ok _ o_ (T.next p b λe=>?_)
  rw[e] at a;simp at a
 split
 ·rename_i a;refine cU.of_ok _ o_ ?_
  rcases Bool.or_eq_true_iff.1 a with a|a
  ·exact T.isT b a
  ·exact T.isT b a
 split
 ·rename_i a;have:=T.isT b a;exact T.take ((c (p+1) o_ this).low o_)
 split
 ·exact(T.listP c f b _ _).map _
 split
 ·rename_i a;have d:p+1<ts.length:=T.next p b λe=>by rw[e] at a;simp at a
  split
  ·exact((T.listP c (p:=p+1) o_ d _ _).low o_).map _
  ·exact cU.of_ok _ o_ d
 ·exact T.bad b
def bY.index{ts:List bB}(T:bY ts){E:Nat->cB aC}(f:∀q,p0<q->q<ts.length->cU ts.length q (E q)):∀(g:Nat) (n:aC) (p:Nat),p0<=p->p<ts.length->ts.length<=p+g->fM ts.length p (dK E ts g n p)
 |0,n,p,_,b,h=>by omega
 |g+1,n,p,r,b,h=>by
  rw[dK];split
  ·rename_i m;have k:=T.isT b m;have c:=T.take (x:=[93]) (f (p+1) o_ k)
   cases d:aS ts [93] (E (p+1)) with
   |error l=>exact⟨λs e=>by cases e;exact c.er _ d,λa q e=>by cases e⟩
   |ok o=>
    obtain⟨i,q⟩:=o;have j:=c.ok i q d;exact((bY.index T f g _ q o_ j.2 o_).low (by omega:p<q)).weak
  ·exact fM.of_ok _ cK b
def bY.bind{ts:List bB}(_T:bY ts){d:Type}{r:cB c}{f:c->Nat->cB d}(h:cU ts.length p r)(g:∀a q,p<q->q<ts.length->fM ts.length q (f a q)):cU ts.length p (bW r f):=by
 cases r with
 |error l=>exact⟨λj e=>by cases e;exact h.er _ rfl,λa q e=>by cases e⟩
 |ok i=>
  obtain⟨a,q⟩:=i;have b:=h.ok a q rfl;exact(g a q b.1 b.2).low b.1
def bY.unary{ts:List bB}(T:bY ts){E:Nat->cB aC}(c:∀q,p0<q->q<ts.length->cU ts.length q (E q)):∀(g p:Nat),p0<=p->p<ts.length->ts.length<=p+g->cU ts.length p (eV E ts g p)
 |0,p,_,b,i=>by omega
 |g+1,p,j,b,i=>by
  rw[eV];split
  ·rename_i e;have d:=T.isT b e;exact((bY.unary T c g (p+1) o_ d o_).low o_).map _
  split
  ·rename_i e;have d:=T.isT b e;exact((bY.unary T c g (p+1) o_ d o_).low o_).map _
  ·exact T.bind (T.primary c j b) λa q h f=>T.index c _ a q o_ f o_
def bY.levelLoop{ts:List bB}(T:bY ts){L:Nat->cB aC}(h:∀q,p0<=q->q<ts.length->cU ts.length q (L q)):∀(g:Nat) (n:aC) (q:Nat),p0<=q->q<ts.length->ts.length<=q+g->fM ts.length q (bK L ts k g n q)
 |0,n,q,_,b,o=>by omega
 |g+1,n,q,s,b,o=>by
  rw[bK];split
  ·rename_i i;have p:q+1<ts.length:=T.next q b λe=>by rw[e] at i;simp at i
   have f:=h (q+1) o_ p
   cases j:L (q+1) with
   |error l=>exact⟨λt e=>by cases e;exact f.er _ j,λa q e=>by cases e⟩
   |ok m=>
    obtain⟨r,c⟩:=m;have d:=f.ok r c j;simp only;split
    ·exact fM.of_ok _ o_ d.2
    ·exact((bY.levelLoop T h g _ c o_ d.2 o_).low (by omega:q<c)).weak
  ·exact fM.of_ok _ cK b
def bY.level{ts:List bB}(T:bY ts){E:Nat->cB aC}(d:∀q,p0<q->q<ts.length->cU ts.length q (E q)):∀(j p:Nat),p0<=p->p<ts.length->cU ts.length p (gH E ts j p)
 |0,p,c,b=>T.unary d _ p c b o_
 |j+1,p,c,b=>by
  rw[gH];exact T.bind (bY.level T d j p c b) λa q f e=>T.levelLoop (p0:=p0) (λq c b=>bY.level T d j q c b) _ a q o_ e o_
def bY.expr{ts:List bB}(T:bY ts):∀(f p:Nat),p<ts.length->ts.length<=p+f->cU ts.length p (eM ts f p)
 |0,p,b,d=>by omega
 |f+1,p,b,d=>by
  rw[eM];exact T.level (p0:=p) (λq c a=>bY.expr T f q a o_) 5 p cK b
def bY.exprs{ts:List bB}(T:bY ts):∀q,q<ts.length->cU ts.length q (eM ts (ts.length+1) q):=λq a=>T.expr _ q a o_
def bY.setLoop{ts:List bB}(T:bY ts){E:Nat->cB aC}(f:∀q,q<ts.length->cU ts.length q (E q)):∀(g p:Nat) (acc:List aC),p<ts.length->ts.length<=p+g->fM ts.length p (fG E ts g p acc)
 |0,p,acc,b,h=>by omega
 |g+1,p,acc,b,h=>by
  rw[fG];split
  ·rename_i m;have k:=T.isT b m;have c:=T.take (x:=[93]) (f (p+1) k);cases d:aS ts [93] (E (p+1)) with
   |error l=>exact⟨λo e=>by cases e;exact c.er _ d,λa q e=>by cases e⟩
   |ok n=>
    obtain⟨i,q⟩:=n;have j:=c.ok i q d;exact((bY.setLoop T f g q _ j.2 o_).low (by omega:p<q)).weak
  ·exact fM.of_ok _ cK b
def bY.simple{ts:List bB}(T:bY ts){E:Nat->cB aC}(b:∀q,q<ts.length->cU ts.length q (E q))(d:p<ts.length):cU ts.length p (gV E ts p):=by
 unfold gV;split
 ·rename_i f;have c:p+1<ts.length:=T.next p d λe=>by rw[e] at f;simp at f
  split
  ·exact T.take (((T.listP (p0:=p) (λq _ a=>b q a) (p:=p+1) o_ c _ _).low o_).map _)
  ·exact T.bind ((T.takeW (T.setLoop b _ (p+1) [] c o_)).low o_) λg q _ a=>(T.take ((b q a).map _)).weak
 ·exact T.bad d
def bY.stmt{ts:List bB}(T:bY ts){E B:Nat->cB aC}(j:∀q,q<ts.length->cU ts.length q (E q))(o:∀q,p<q->q<ts.length->cU ts.length q (B q))(i:p<ts.length):cU ts.length p (jS E B ts p):=by
 unfold jS;split
 ·rename_i d;have a:=T.isT i d;unfold tA;split
  ·rename_i f;have l:p+2<ts.length:=T.next (p+1) a λe=>by rw[e] at f;simp at f
   split
   ·rename_i m;have s:p+3<ts.length:=T.isT l m;exact T.take (((j (p+3) s).low o_).map _)
   ·exact T.bad l
  ·exact T.bad a
 split
 ·rename_i d;have a:=T.isT i d;unfold yN;refine T.bind ((j (p+1) a).low o_) λc q g h=>(T.bind (o q g h) λb u t k=>?_).weak
  split
  ·rename_i r;have:=T.isT k r;exact(((o (u+1) o_ this).low o_).map _).weak
  ·exact fM.of_ok _ cK k
 split
 ·rename_i d;have a:=T.isT i d;unfold pI;exact T.bind ((j (p+1) a).low o_) λc q g h=>((o q g h).map _).weak
 split
 ·rename_i d;have a:=T.isT i d;unfold mL;split
  ·rename_i n;exact cU.of_ok _ o_ (T.isT a n)
  ·exact T.take (((j (p+1) a).low o_).map _)
 split
 ·rename_i d;have a:=T.isT i d;unfold pP;exact T.take (((j (p+1) a).low o_).map _)
 ·exact T.simple j i
def bY.blockLoop{ts:List bB}(_T:bY ts){S:Nat->cB aC}(d:∀q,p0<q->q<ts.length->cU ts.length q (S q)):∀(g p:Nat) (acc:List aC),p0<p->p<ts.length->ts.length<=p+g->fM ts.length p (dV S ts g p acc)
 |0,p,acc,_,b,h=>by omega
 |g+1,p,acc,i,b,h=>by
  rw[dV];split
  ·exact fM.of_ok _ cK b
  ·have c:=d p i b;cases f:S p with
   |error l=>exact⟨λm e=>by cases e;exact c.er _ f,λa q e=>by cases e⟩
   |ok k=>
    obtain⟨s,q⟩:=k;have j:=c.ok s q f;exact((bY.blockLoop _T d g q _ o_ j.2 o_).low (by omega:p<q)).weak
def bY.block{ts:List bB}(T:bY ts){E:Nat->cB aC}(d:∀q,q<ts.length->cU ts.length q (E q)):∀(f p:Nat),p<ts.length->ts.length<=p+f->cU ts.length p (jM E ts f p)
 |0,p,a,h=>by omega
 |f+1,p,a,h=>by
  rw[jM];split
  ·rename_i j;have e:=T.isT a j;refine((T.takeW (T.blockLoop (p0:=p) (λq g c=>T.stmt d (λi k b=>bY.block T d f i b o_) c) _ (p+1) [] o_ e o_)).low o_).map _
  ·exact T.bad a
def bY.paramLoop{ts:List bB}(T:bY ts):∀(g p:Nat) (acc:List aC),p<ts.length->ts.length<=p+g->cU ts.length p (dD ts g p acc)
 |0,p,acc,b,h=>by omega
 |g+1,p,acc,b,h=>by
  rw[dD];split
  ·rename_i f;have d:p+1<ts.length:=T.next p b λe=>by rw[e] at f;simp at f
   split
   ·rename_i a;have c:p+2<ts.length:=T.isT d a;exact(bY.paramLoop T g (p+2) _ c o_).low o_
   ·exact cU.of_ok _ o_ d
  ·exact T.bad b
def bY.func{ts:List bB}(T:bY ts){B:Nat->cB aC}(j:∀q,q<ts.length->cU ts.length q (B q))(h:p<ts.length):cU ts.length p (kQ B ts p):=by
 unfold kQ;split
 ·rename_i k;have g:=T.isT h k;split
  ·rename_i a;have d:p+2<ts.length:=T.next (p+1) g λe=>by rw[e] at a;simp at a
   split
   ·rename_i f;have c:p+3<ts.length:=T.isT d f
    have b:cU ts.length (p+3) (iL ts (p+3)):=by
     unfold iL;refine T.takeW ?_;split
     ·exact fM.of_ok _ cK c
     ·exact(T.paramLoop _ (p+3) [] c o_).weak
    exact T.bind (b.low o_) λl q _ i=>((j q i).map _).weak
   ·exact T.bad d
  ·exact T.bad g
 ·exact T.bad h
def bY.progLoop{ts:List bB}(_T:bY ts){F:Nat->cB aC}(c:∀q,q<ts.length->cU ts.length q (F q)):∀(g p:Nat) (acc:List aC),p<ts.length->ts.length<=p+g->fM ts.length p (fH F ts g p acc)
 |0,p,acc,b,h=>by omega
 |g+1,p,acc,b,h=>by
  rw[fH];split
  ·exact fM.of_ok _ cK b
  ·have d:=c p b;cases f:F p with
   |error l=>exact⟨λk e=>by cases e;exact d.er _ f,λa q e=>by cases e⟩
   |ok j=>
    obtain⟨s,q⟩:=j;have i:=d.ok s q f;exact((bY.progLoop _T c g q _ i.2 o_).low (by omega:p<q)).weak
def bY.prog{ts:List bB}(T:bY ts)(h:0<ts.length):nC ts≠.error 0:=
 (T.progLoop (λq a=>T.func (λc b=>T.block (λq a=>T.exprs q a) _ c b o_) a) _ 0 [] h o_).ne
structure sU(ts:List bB):Prop where
 some_:0<ts.length
 last:(aT ts (ts.length-1)).sort=101
 l_:∀p,p<ts.length->(aT ts p).l_≠0
def qO(t:bB)(ts:List bB)(p:Nat):aT (t::ts) (p+1)=aT ts p:=by simp[aT]
def MF(f:Nat):∀(a l:cE) (ts:List bB),eW f a l=.ok ts->sU ts/\ts.length<=f:=by
 induction f with
 |zero=>intro a l ts h;cases h
 |succ f j=>
  intro a l ts h;by_cases d:l.length=0
  ·rw[nH _ _ _ d] at h;cases h;refine⟨⟨s_,rfl,λp c=>?_⟩,s_⟩
   obtain rfl:p=0:=by simp at c;omega
   show bD a≠0
   unfold bD;omega
  ·cases i:(cG l).ok
   ·rw[nI _ _ _ d i] at h;cases h
   ·rw[mT _ _ _ d i _ rfl] at h;cases g:eW f (a++l.take ((cG l).size+blankL l.length (l.drop (cG l).size))) (l.drop ((cG l).size+blankL l.length (l.drop (cG l).size))) with
    |error n=>rw[g] at h;cases h
    |ok b=>
     rw[g] at h;cases h;obtain⟨e,k⟩:=j _ _ b g;refine⟨⟨s_,?_,λp c=>?_⟩,t_⟩
     ·have:=e.some_;show (aT (_::b) ((_::b).length-1)).sort=101
      rw[ep,show b.length+1-1=(b.length-1)+1 by omega,qO]
      exact e.last
     ·cases p with
      |zero=>show bD a≠0;unfold bD;omega
      |succ p=>
       show (aT (_::b) (p+1)).l_≠0
       rw[qO];exact e.l_ p (by simpa using c)
def sU.ok{ts:List bB}(h:sU ts):bY ts:=
 ⟨λp b a=>by
   by_cases e:p=ts.length-1
   ·subst e;exact absurd h.last a
   ·omega,h.l_⟩
def mU{ts:List bB}(h:iB l=.ok ts):sU ts/\ts.length<=l.length+1:=MF _ _ _ _ h
def cW(l:cE):Except (Nat × Nat) (List aC):=
 if 2000<l.length then .error (1,0)
 else match dZ l.length l 0 with
  |some k=>.error (2,bD (l.take k))
  |none=>
   match iB l with
   |.error n=>.error (3,n)
   |.ok ts=>
    match nC ts with
    |.error n=>.error (4,n)
    |.ok (ks,_)=>.ok ks
structure bC where
 e_:cN
 kind:Nat
 l_:Nat
def bC.found(s:bC)(l_ kind:Nat):bC:=if s.kind=0 then { s with kind:=kind,l_:=l_ } else s
def gI(x:cE):Bool:=x==[108,101,110] || x==[114,101,97,100]
def declaresL(s:bC)(n:aC):bC:=if gI n.x_ || s.e_.contains n.x_ then s.found n.l_ 6 else s
def dU(fs:List aC)(name:cE):Option aC:=fs.find? λf=>f.x_==name
def jA(fs:List aC)(a_:Bool)(name:cE):Int:=
 if name==[108,101,110] then 1
 else if name==[114,101,97,100] && !a_ then 0
 else match dU fs name with
  |some f=>(f.y_.length:Int)-1
  |none=> -1
def eP(fs:List aC)(a_:Bool)(s:bC)(n:aC):bC:=
 if jA fs a_ n.x_<0 then s.found n.l_ 6
 else if jA fs a_ n.x_≠(n.y_.length:Int) then s.found n.l_ 7
 else s
def cL(fs:List aC)(a_:Bool)(s:bC)(n:aC):bC:=
 if n.op==[115,101,116] || n.op==[110,97,109,101] then (if s.e_.contains n.x_ then s else s.found n.l_ 6)
 else if n.op==[99,97,108,108] then eP fs a_ s n
 else s
def aP(fs:List aC)(a_:Bool):Nat->aC->bC->bC
 |0,_,s=>s
 |d+1,n,s=>
  if n.op==[118,97,114] then
   match n.y_ with
   |t::v::_=>let s1:=aP fs a_ d v (declaresL s t);{ s1 with e_:=s1.e_++[t.x_] }
   |_=>s
  else
   let s1:=n.y_.foldl (λs k=>aP fs a_ d k s) (cL fs a_ s n)
   if n.op==[98,108,111,99,107] then { s1 with e_:=s1.e_.take s.e_.length } else s1
def cC:Nat->aC->Nat
 |0,_=>0
 |d+1,n=>1+(n.y_.map (cC d)).sum
def U0:Nat->aC->Prop
 |0,_=>True
 |d+1,n=>(n.op=[118,97,114]->2<=n.y_.length)/\∀k∈n.y_,U0 d k
def FineA(m:Nat)(a:aC):Prop:=∀d,cC d a<=m/\U0 d a
def FineL(m:Nat)(l:List aC):Prop:=∀d,(l.map (cC d)).sum<=m/\∀k∈l,U0 d k
def FineA.le{a:aC}(h:FineA m a)(b:m<=n):FineA n a:=λd=>⟨el (h d).1 b,(h d).2⟩
def FineL.le{a:List aC}(h:FineL m a)(b:m<=n):FineL n a:=λd=>⟨el (h d).1 b,(h d).2⟩
def FineL.nil:FineL 0 []:=λ_=>⟨en _,λ_ h=>by cases h⟩
def FineL.snoc{l:List aC}{a:aC}(h:FineL m l)(c:FineA n a):FineL (m+n) (l++[a]):=λd=>by
 refine⟨?_,λk b=>?_⟩
 ·rw[gg,ik];have f:=(h d).1;have e:=(c d).1;simp;omega
 ·rcases eq.1 b with b|b
  ·exact(h d).2 k b
  ·rw[et.1 b];exact(c d).2
def FineL.one{a:aC}(b:FineA n a):FineL n [a]:=λd=>by
 refine⟨?_,λk c=>?_⟩
 ·have e:=(b d).1;simp;omega
 ·rw[et.1 c];exact(b d).2
def FineL.two{a b:aC}(c:FineA m a)(d:FineA n b):FineL (m+n) [a,b]:=(FineL.one c).snoc d
def FineL.three{a b c:aC}(d:FineA m a)(e:FineA n b)(f:FineA k c):FineL (m+n+k) [a,b,c]:=(FineL.two d e).snoc f
def FineA.node{l:List aC}{op a:cE}{b:Nat}(h:FineL m l)(c:op=[118,97,114]->2<=l.length):FineA (m+1) (aV op b a l):=λd=>by
 cases d with
 |zero=>exact⟨ft _,trivial⟩
 |succ d=>
  refine⟨?_,c,(h d).2⟩;have:=(h d).1;show 1+(l.map (cC d)).sum<=m+1
  omega
def bO(P:Nat->α->Prop)(p:Nat)(r:cB α):Prop:=∀a q,r=.ok (a,q)->∃m,p+m<=q/\P m a
def bO.bad{P:Nat->c->Prop}{b:Nat}{ts:List bB}:bO P p (bad ts b):=λa q h=>by cases h
def bO.err{P:Nat->b->Prop}:bO P p (.error n):=λa q h=>by cases h
def bO.of_ok{P:Nat->b->Prop}{a:b}(c:p+m<=q)(h:P m a):bO P p (.ok (a,q)):=λd f e=>by cases e;exact⟨m,c,h⟩
def bO.take{P:Nat->b->Prop}{ts:List bB}{r:cB b}(h:bO P p r):bO P p (aS ts x r):=by
 cases r with
 |error l=>exact bO.err
 |ok c=>
  obtain⟨a,q⟩:=c;obtain⟨m,e,d⟩:=h a q rfl;unfold aS;simp only;split
  ·exact bO.of_ok o_ d
  ·exact bO.bad
def bO.map{P:Nat->b->Prop}{Q:Nat->c->Prop}{r:cB b}{f:b->c}(h:bO P p r)(n:d+k<=p)(i:∀m a,P m a->Q (m+k) (f a)):bO Q d (cF f r):=by
 cases r with
 |error l=>exact bO.err
 |ok g=>
  obtain⟨a,q⟩:=g;obtain⟨m,j,e⟩:=h a q rfl;exact bO.of_ok (m:=m+k) o_ (i m a e)
def bO.bind{P:Nat->b->Prop}{Q:Nat->c->Prop}{r:cB b}{f:b->Nat->cB c}(h:bO P p r)(e:∀m a q,P m a->p+m<=q->bO Q d (f a q)):bO Q d (bW r f):=by
 cases r with
 |error l=>exact bO.err
 |ok g=>
  obtain⟨a,q⟩:=g;obtain⟨m,j,i⟩:=h a q rfl;exact e m a q i j
def bO.low{P:Nat->c->Prop}{b:Nat}{r:cB c}(h:bO P p r)(f:b<=p):bO P b r:=λa q e=>by
 obtain⟨m,g,d⟩:=h a q e;exact⟨m,o_,d⟩
section
variable {ts:List bB} {E:Nat->cB aC}
def rM(c:∀q,bO FineA q (E q)):∀(g p:Nat) (acc:List aC) (m0 p0:Nat),FineL m0 acc->p0+m0<=p->bO FineL p0 (dT E ts g p acc)
 |0,p,acc,_,_,_,_=>bO.err
 |g+1,p,acc,m0,p0,d,h=>by
  rw[dT];cases f:E p with
  |error l=>exact bO.err
  |ok e=>
   obtain⟨a,q⟩:=e;obtain⟨m,i,b⟩:=c p a q f;simp only;split
   ·exact rM c g (q+1) _ (m0+m) p0 (d.snoc b) o_
   ·exact bO.of_ok (m:=m0+m) o_ (d.snoc b)
def rL(a:∀q,bO FineA q (E q))(p:Nat)(x y:cE):bO FineL (p+1) (eY E ts p x y):=by
 unfold eY;split
 ·refine bO.take ?_;unfold iO;split
  ·exact bO.of_ok (m:=0) o_ FineL.nil
  ·exact rM a _ _ _ 0 _ FineL.nil o_
 ·exact bO.bad
def mJ{op a:cE}{b:Nat}(c:op≠[118,97,114]):FineA 1 (aV op b a []):=FineA.node (m:=0) FineL.nil λh=>absurd h c
def IE(b:∀q,bO FineA q (E q))(p:Nat):bO FineA p (eH E ts p):=by
 unfold eH;split
 ·exact bO.of_ok (m:=1) o_ (mJ s_)
 split
 ·exact bO.of_ok (m:=1) o_ (mJ s_)
 split
 ·exact((b (p+1)).take).low o_
 split
 ·exact bO.map (k:=1) (rL b p _ _) o_ λm a h=>FineA.node h s_
 split
 ·split
  ·exact bO.map (k:=1) (rL b (p+1) _ _) o_ λm a h=>FineA.node h s_
  ·exact bO.of_ok (m:=1) o_ (mJ s_)
 ·exact bO.bad
def zL(b:∀q,bO FineA q (E q)):∀(g:Nat) (n:aC) (p m0 p0:Nat),FineA m0 n->p0+m0<=p->bO FineA p0 (dK E ts g n p)
 |0,n,p,_,_,_,_=>bO.err
 |g+1,n,p,m0,p0,a,d=>by
  rw[dK];split
  ·have c:=(b (p+1)).take (ts:=ts) (x:=[93]);cases f:aS ts [93] (E (p+1)) with
   |error l=>exact bO.err
   |ok h=>
    obtain⟨i,q⟩:=h;obtain⟨m,j,e⟩:=c i q f;exact zL b g _ q (m0+m+1) p0 (FineA.node (FineL.two a e) s_) o_
  ·exact bO.of_ok d a
def rJ(b:∀q,bO FineA q (E q)):∀(g p:Nat),bO FineA p (eV E ts g p)
 |0,p=>bO.err
 |g+1,p=>by
  rw[eV];split
  ·exact bO.map (k:=1) (rJ b g (p+1)) o_ λm a h=>FineA.node (FineL.one h) s_
  split
  ·exact bO.map (k:=1) (rJ b g (p+1)) o_ λm a h=>FineA.node (FineL.one h) s_
  ·exact bO.bind (IE b p) λm a q d c=>zL b _ a q m p d c
def qR{L:Nat->cB aC}{k:Nat}(c:∀q,bO FineA q (L q)):∀(g:Nat) (n:aC) (q m0 p0:Nat),FineA m0 n->p0+m0<=q->bO FineA p0 (bK L ts k g n q)
 |0,n,q,_,_,_,_=>bO.err
 |g+1,n,q,m0,p0,b,j=>by
  rw[bK];split
  ·cases o:L (q+1) with
   |error l=>exact bO.err
   |ok h=>
    obtain⟨r,f⟩:=h;obtain⟨m,p,i⟩:=c _ r f o;have d:∀e a,FineA (m0+m+1) (aV e a [] [n,r]):=λe a=>FineA.node (FineL.two b i) s_
    simp only;split
    ·exact bO.of_ok (m:=m0+m+1) o_ (d _ _)
    ·exact qR c g _ f (m0+m+1) p0 (d _ _) o_
  ·exact bO.of_ok j b
def rN(b:∀q,bO FineA q (E q)):∀(j p:Nat),bO FineA p (gH E ts j p)
 |0,p=>rJ b _ p
 |j+1,p=>by
  rw[gH];exact bO.bind (rN b j p) λm a q d c=>qR (λq=>rN b j q) _ a q m p d c
def uW(ts:List bB):∀(f p:Nat),bO FineA p (eM ts f p)
 |0,p=>bO.err
 |f+1,p=>by
  rw[eM];exact rN (λq=>uW ts f q) 5 p
def tW(b:∀q,bO FineA q (E q)):∀(g p:Nat) (acc:List aC) (m0 p0:Nat),FineL m0 acc->p0+m0<=p->bO FineL p0 (fG E ts g p acc)
 |0,p,acc,_,_,_,_=>bO.err
 |g+1,p,acc,m0,p0,a,d=>by
  rw[fG];split
  ·have c:=(b (p+1)).take (ts:=ts) (x:=[93]);cases f:aS ts [93] (E (p+1)) with
   |error l=>exact bO.err
   |ok h=>
    obtain⟨i,q⟩:=h;obtain⟨m,j,e⟩:=c i q f;exact tW b g q _ (m0+m) p0 (a.snoc e) o_
  ·exact bO.of_ok d a
def MP(b:∀q,bO FineA q (E q))(p:Nat):bO FineA p (gV E ts p):=by
 unfold gV;split
 ·split
  ·exact bO.take (bO.map (k:=2) (rL b (p+1) _ _) o_ λm a h=>FineA.node (FineL.one (FineA.node h s_)) s_)
  ·refine bO.bind ((tW b _ (p+1) [] 0 (p+1) FineL.nil o_).take) λm l q d f=>?_
   exact bO.take (bO.map (k:=m+1) (b q) o_ λe v c=>FineA.le (FineA.node (d.snoc c) s_) o_)
 ·exact bO.bad
def VL{B:Nat->cB aC}(a:∀q,bO FineA q (E q))(h:∀q,bO FineA q (B q))(p:Nat):bO FineA p (jS E B ts p):=by
 unfold jS;split
 ·unfold tA;split
  ·split
   ·exact bO.take (bO.map (k:=2) (a (p+3)) o_ λm v e=>FineA.le (FineA.node (FineL.two (mJ s_) e) s_) o_)
   ·exact bO.bad
  ·exact bO.bad
 split
 ·unfold yN;refine bO.bind (a (p+1)) λm c q f l=>bO.bind (h q) λg b o i s=>?_
  split
  ·exact bO.map (k:=m+g+1) (h (o+1)) o_ λr d j=>FineA.le (FineA.node (FineL.three f i j) s_) o_
  ·exact bO.of_ok (m:=m+g+1) o_ (FineA.node (FineL.two f i) s_)
 split
 ·unfold pI;exact bO.bind (a (p+1)) λm c q f l=>bO.map (k:=m+1) (h q) o_ λg b n=>FineA.le (FineA.node (FineL.two f n) s_) o_
 split
 ·unfold mL;split
  ·exact bO.of_ok (m:=1) o_ (mJ s_)
  ·exact bO.take (bO.map (k:=1) (a (p+1)) o_ λm v e=>FineA.node (FineL.one e) s_)
 split
 ·unfold pP;exact bO.take (bO.map (k:=1) (a (p+1)) o_ λm v e=>FineA.node (FineL.one e) s_)
 ·exact MP a p
def qS{S:Nat->cB aC}(b:∀q,bO FineA q (S q)):∀(g p:Nat) (acc:List aC) (m0 p0:Nat),FineL m0 acc->p0+m0<=p->bO FineL p0 (dV S ts g p acc)
 |0,p,acc,_,_,_,_=>bO.err
 |g+1,p,acc,m0,p0,a,c=>by
  rw[dV];split
  ·exact bO.of_ok c a
  ·cases e:S p with
   |error l=>exact bO.err
   |ok f=>
    obtain⟨s,q⟩:=f;obtain⟨m,h,d⟩:=b p s q e;exact qS b g q _ (m0+m) p0 (a.snoc d) o_
def zM(a:∀q,bO FineA q (E q)):∀(f p:Nat),bO FineA p (jM E ts f p)
 |0,p=>bO.err
 |f+1,p=>by
  rw[jM];split
  ·exact bO.map (k:=1) (bO.take (qS (λq=>VL a (λq=>zM a f q) q) _ (p+1) [] 0 (p+1) FineL.nil o_)) o_ λm l h=>FineA.node h s_
  ·exact bO.bad
def qQ:∀(g p:Nat) (acc:List aC) (m0 p0:Nat),FineL m0 acc->p0+m0<=p->bO FineL p0 (dD ts g p acc)
 |0,p,acc,_,_,_,_=>bO.err
 |g+1,p,acc,m0,p0,b,c=>by
  have a:FineL (m0+1) (acc++[aV [112,97,114,97,109] (aT ts p).l_ (aT ts p).x_ []]):=b.snoc (mJ s_)
  rw[dD];split
  ·split
   ·exact qQ g (p+2) _ (m0+1) p0 a o_
   ·exact bO.of_ok (m:=m0+1) o_ a
  ·exact bO.bad
def VN{B:Nat->cB aC}(c:∀q,bO FineA q (B q))(p:Nat):bO FineA p (kQ B ts p):=by
 unfold kQ;split
 ·split
  ·split
   ·have a:bO FineL (p+3) (iL ts (p+3)):=by
     unfold iL;refine bO.take ?_;split
     ·exact bO.of_ok (m:=0) o_ FineL.nil
     ·exact qQ _ (p+3) [] 0 (p+3) FineL.nil o_
    exact bO.bind a λm l q d g=>bO.map (k:=m+1) (c q) o_ λf b e=>FineA.le (FineA.node (d.snoc e) s_) o_
   ·exact bO.bad
  ·exact bO.bad
 ·exact bO.bad
def rK{F:Nat->cB aC}(b:∀q,bO FineA q (F q)):∀(g p:Nat) (acc:List aC) (m0 p0:Nat),FineL m0 acc->p0+m0<=p->bO FineL p0 (fH F ts g p acc)
 |0,p,acc,_,_,_,_=>bO.err
 |g+1,p,acc,m0,p0,a,c=>by
  rw[fH];split
  ·exact bO.of_ok c a
  ·cases f:F p with
   |error l=>exact bO.err
   |ok d=>
    obtain⟨s,q⟩:=d;obtain⟨m,h,e⟩:=b p s q f;exact rK b g q _ (m0+m) p0 (a.snoc e) o_
end
def VM(ts:List bB)(T:bY ts)(e:0<ts.length)(ks:List aC)(q:Nat)(h:nC ts=.ok (ks,q)):FineL ts.length ks:=by
 obtain⟨m,f,d⟩:=rK (λq=>VN (λb=>zM (λq=>uW ts _ q) _ b) q) (ts.length+1) 0 [] 0 0 FineL.nil o_ ks q h
 have:=(T.progLoop (λq a=>T.func (λb c=>T.block (λq a=>T.exprs q a) _ b c o_) a) _ 0 [] e o_).ok ks q h
 exact d.le o_
def lQ{ks:List aC}(h:cW l=.ok ks):FineL 2001 ks:=by
 unfold cW at h;split at h
 ·cases h
 rename_i e;split at h
 ·cases h
 split at h
 ·cases h
 rename_i c d;obtain⟨a,f⟩:=mU d;split at h
 ·cases h
 rename_i q b;cases h;exact(VM c a.ok a.some_ _ _ b).le o_
def fF:Nat->aC->Prop
 |0,_=>False
 |d+1,n=>∀k∈n.y_,fF d k
def mX:∀(m:Nat) (a:aC),FineA m a->fF m a
 |0,a,h=>by
  have:=(h 1).1;simp only[cC] at this;omega
 |m+1,a,h=>λk b=>mX m k λd=>by
  have f:=(h (d+1)).1;have e:=(h (d+1)).2.2 k b;refine⟨?_,e⟩
  have:cC d k<=(a.y_.map (cC d)).sum:=by
   have:∀l:List aC,k∈l->cC d k<=(l.map (cC d)).sum:=by
    intro l;induction l with
    |nil=>intro h;cases h
    |cons x l c=>
     intro h;simp only[e7,fg];rcases eo.1 h with rfl|h
     ·omega
     ·have:=c h;omega
   exact this _ b
  simp only[cC] at f;omega
def eX(fs:List aC)(d:Nat)(s:bC)(k:aC):bC:=
 if k.op==[112,97,114,97,109] then { declaresL s k with e_:=(declaresL s k).e_++[k.x_] } else aP fs false d k s
def gO(fs:List aC)(d:Nat)(s:bC)(n:aC)(first:Bool):bC:=
 n.y_.foldl (eX fs d) { (if gI n.x_ || !first then s.found n.l_ 6 else s) with e_:=[] }
def fK(fs:List aC)(d:Nat):List aC->List aC->bC->bC
 |_,[],s=>s
 |pre,n::rest,s=>fK fs d (pre++[n]) rest (gO fs d s n (dU pre n.x_).isNone)
def lJ(d:Nat)(ks:List aC):Nat × Nat:=
 match dU ks [109,97,105,110] with
 |none=>(5,0)
 |some m=>if 1<m.y_.length then (5,0) else ((fK ks d [] ks ⟨[],0,0⟩).kind,(fK ks d [] ks ⟨[],0,0⟩).l_)
def cI(l:cE):Nat × Nat:=
 match cW l with
 |.error f=>f
 |.ok ks=>lJ 2001 ks
def pQ(t:bB):Prop:=t.sort=112\/(t.sort=107/\jI.contains t.x_=true)\/t.sort=110\/(t.sort=48/\(dQ 0 t.x_).isSome=true)\/t.sort=115\/t.sort=101
def GJ(ts:List bB):Prop:=∀t∈ts,pQ t
def GQ(l:cE)(l_:Nat)(h:(cG l).ok=true):pQ { sort:=(cG l).sort,x_:=(cG l).x_,l_:=l_ }:=by
 cases l with
 |nil=>simp[cG] at h
 |cons c r=>
  rw[cG] at h ⊢
  split
  ·rename_i a;rw[if_pos a] at h;unfold iD at h ⊢
   split
   ·by_cases b:jI.contains ((c::r).take (bQ (eR (fQ c)) (c::r)))=true
    ·rw[if_pos b];exact d6 (d7 ⟨rfl,b⟩)
    ·rw[if_neg b];exact d6 (d6 (d7 rfl))
   ·rename_i f;rw[if_neg f] at h;exact d6 (d6 (d6 (d7 ⟨rfl,h⟩)))
  ·rename_i a;rw[if_neg a] at h;split
   ·exact d6 (d6 (d6 (d6 (d7 rfl))))
   ·rename_i d;rw[if_neg d] at h;unfold iC at h ⊢
    cases e:cX.find? (λo=>cY (c::r) o) with
    |none=>rw[e] at h;simp at h
    |some o=>exact d7 rfl
def VE(f:Nat):∀(a l:cE) (ts:List bB),eW f a l=.ok ts->GJ ts:=by
 induction f with
 |zero=>intro a l ts h;cases h
 |succ f i=>
  intro a l ts h;by_cases d:l.length=0
  ·rw[nH _ _ _ d] at h;cases h;intro t b;rw[et.1 b];exact d6 (d6 (d6 (d6 (d6 rfl))))
  ·cases c:(cG l).ok
   ·rw[nI _ _ _ d c] at h;cases h
   ·rw[mT _ _ _ d c _ rfl] at h;cases e:eW f (a++l.take ((cG l).size+blankL l.length (l.drop (cG l).size))) (l.drop ((cG l).size+blankL l.length (l.drop (cG l).size))) with
    |error n=>rw[e] at h;cases h
    |ok g=>
     rw[e] at h;cases h;intro t b;rcases eo.1 b with rfl|b
     ·exact GQ l _ c
     ·exact i _ _ g e t b
def zJ{ts:List bB}(h:iB l=.ok ts):GJ ts:=VE _ _ _ _ h
def GJ.tk{ts:List bB}(h:GJ ts)(p:Nat)(a:p<ts.length):pQ (aT ts p):=by
 have:aT ts p=ts[p]:=by unfold aT;rw[ff a];rfl
 rw[this];exact h _ (fi a)
structure aL where
 sort:Nat
 n:Int
 s:cE
 l:List aL
def aL.ind{P:aL->Prop}(h:∀v,(∀x,x∈v.l->P x)->P v):∀v,P v
 |⟨a,b,c,l⟩=>h ⟨a,b,c,l⟩ λx _=>aL.ind h x
def bH(n:Int):aL:=⟨0,n,[],[]⟩
def bU(b:Bool):aL:=⟨1,if b then 1 else 0,[],[]⟩
def bP(s:cE):aL:=⟨2,0,s,[]⟩
def bA(l:List aL):aL:=⟨3,0,[],l⟩
def bS:aL:=⟨0,0,[],[]⟩
noncomputable def aL.fold(f:Nat->Int->cE->List α->α)(v:aL):α:=
 aL.rec (motive_1:=λ_=>α) (motive_2:=λ_=>List α) (λa n s _ c=>f a n s c) [] (λ_ _ h t=>h::t) v
def aL.fold_eq(f:Nat->Int->cE->List b->b)(v:aL):v.fold f=f v.sort v.n v.s (v.l.map (aL.fold f)):=by
 obtain⟨a,n,s,l⟩:=v;refine congrArg (f a n s) ?_;induction l with
 |nil=>rfl
 |cons x l c=>exact congrArg (aL.fold f x::·) c
noncomputable def aM(v:aL):Nat:=v.fold λ_ _ s c=>1+s.length+c.sum
def fI(v:aL):aM v=1+v.s.length+(v.l.map aM).sum:=aL.fold_eq _ v
def oC:List (α->Bool)->List α->Bool
 |[],[]=>true
 |f::fs,x::xs=>f x && oC fs xs
 |_,_=>false
noncomputable def cO(x:aL):aL->Bool:=x.fold λa n s c y=>a==y.sort && (n==y.n && (s==y.s && oC c y.l))
def WC(x y:aL):cO x y=(x.sort==y.sort && (x.n==y.n && (x.s==y.s && oC (x.l.map cO) y.l))):=congrFun (aL.fold_eq _ x) y
def zP:∀x y:aL,cO x y=true↔x=y:=by
 refine aL.ind λx e y=>?_
 have d:∀(l:List aL),(∀v,v∈l->∀y,cO v y=true↔v=y)->∀m:List aL,oC (l.map cO) m=true↔l=m:=by
  intro l;induction l with
  |nil=>intro _ m;cases m<;>simp[oC]
  |cons a l c=>
   intro h m;cases m with
   |nil=>simp[oC]
   |cons b m=>simp[oC,h a s_ b,c (λv f=>h v (by simp[f])) m]
 rw[WC];simp only[fw,beq_iff_eq,d x.l e y.l];constructor
 ·rintro⟨j,g,k,i⟩;cases x;cases y;simp_all
 ·rintro rfl;simp
def jZ:Nat->Nat->cE->cE
 |0,_,t=>t
 |f+1,n,t=>if n<10 then UInt8.ofNat (48+n)::t else jZ f (n/10) (UInt8.ofNat (48+n%10)::t)
def iX(n:Int):cE:=(if n<0 then [45] else [])++jZ 20 n.natAbs []
def fS:cN->cE
 |[]=>[]
 |[x]=>x
 |x::r=>x++[44,32]++fS r
noncomputable def cH(v:aL):cE:=
 v.fold λa n s c=>if a=0 then iX n else if a=1 then (if n=1 then [116,114,117,101] else [102,97,108,115,101]) else if a=2 then [34]++s++[34] else [91]++fS c++[93]
def kO(v:aL):cH v=if v.sort=0 then iX v.n else if v.sort=1 then (if v.n=1 then [116,114,117,101] else [102,97,108,115,101]) else if v.sort=2 then [34]++v.s++[34] else [91]++fS (v.l.map cH)++[93]:=aL.fold_eq _ v
noncomputable def kP(v:aL):cE:=if v.sort=2 then v.s else cH v
def lP(n:Int):Int:=(n+9223372036854775808)%18446744073709551616-9223372036854775808
noncomputable def jW(a b:aL):aL × Nat:=
 let v:=if a.sort=3 then bA (a.l++b.l) else bP (a.s++b.s)
 if 200<aM v then (bS,6) else (v,0)
def jX(op:cE)(x y:Int):aL × Nat:=
 if op=[43] then (bH (lP (x+y)),0)
 else if op=[45] then (bH (lP (x-y)),0)
 else if op=[42] then (bH (lP (x*y)),0)
 else if op=[60] then (bU (decide (x<y)),0)
 else if op=[60,61] then (bU (decide (x<=y)),0)
 else if y=0 then (bS,3)
 else if op=[47] then (bH (lP (x.tdiv y)),0)
 else (bH (lP (x.tmod y)),0)
def gY:cE->cE->Bool
 |[],[]=>false
 |[],_::_=>true
 |_::_,[]=>false
 |a::l,b::m=>if a.toNat<b.toNat then true else if b.toNat<a.toNat then false else gY l m
noncomputable def eZ(op:cE)(a b:aL):aL × Nat:=
 if op=[61,61] then (bU (cO a b),0)
 else if op=[33,61] then (bU (!cO a b),0)
 else if a.sort≠b.sort\/a.sort=1 then (bS,2)
 else if a.sort=0 then jX op a.n b.n
 else if op=[43] then jW a b
 else if a.sort=2/\op=[60] then (bU (gY a.s b.s),0)
 else if a.sort=2/\op=[60,61] then (bU (!gY b.s a.s),0)
 else (bS,2)
def fU(op:cE)(a:aL):aL × Nat:=
 if op=[45,120]/\a.sort=0 then (bH (lP (-a.n)),0)
 else if op=[33,120]/\a.sort=1 then (bU (decide (a.n=0)),0)
 else (bS,2)
def iR:Nat->cE->cN
 |0,_=>[]
 |f+1,l=>if l=[] then [] else if bL l=0 then [] else l.take (bL l)::iR f (l.drop (bL l))
def eG(l:cE):cN:=iR l.length l
def eL(a:aL):aL × Nat:=
 if a.sort=3 then (bH a.l.length,0) else if a.sort=2 then (bH (eG a.s).length,0) else (bS,2)
def kC(a:aL):List aL:=if a.sort=2 then (eG a.s).map bP else a.l
def dL(a b:aL):aL × Nat:=
 if a.sort<2\/b.sort≠0 then (bS,2)
 else if b.n<0\/((kC a).length:Int)<=b.n then (bS,4)
 else ((kC a).getD b.n.toNat bS,0)
def cV:List aL->aL->aL->aL × Nat
 |[],_,v=>(v,0)
 |i::at',old,v=>
  if old.sort≠3\/i.sort≠0 then (bS,2)
  else if i.n<0\/(old.l.length:Int)<=i.n then (bS,4)
  else if (cV at' (old.l.getD i.n.toNat bS) v).2≠0 then (bS,(cV at' (old.l.getD i.n.toNat bS) v).2)
  else (bA (old.l.set i.n.toNat (cV at' (old.l.getD i.n.toNat bS) v).1),0)
def kX:bL l<=l.length:=by
 unfold bL;cases l with
 |nil=>simp
 |cons b r=>
  simp only[List.getElem?_cons_zero]
  have q:∀i c d,dN (b::r) i c d=true->i<(b::r).length:=by
   intro i c d h;unfold dN at h;rcases fq i (b::r).length with a|a
   ·exact a
   ·rw[gi a] at h;simp at h
  split
  ·simp
  split
  ·split
   ·have:=q 1 _ _ (by assumption);omega
   ·simp
  split
  ·generalize (if b.toNat=224 then 160 else 128)=f
   generalize (if b.toNat=237 then 159 else 191)=e
   split
   ·rename_i h;rw[fw] at h;have:=q 2 _ _ h.2;omega
   ·simp
  split
  ·generalize (if b.toNat=240 then 144 else 128)=f
   generalize (if b.toNat=244 then 143 else 191)=e
   split
   ·rename_i h;rw[fw] at h;have:=q 3 _ _ h.2;omega
   ·simp
  ·simp
def sS:∀(f:Nat) (l:cE),l.length<=f->iR f l=eG l:=by
 have h:∀(n f g:Nat) (l:cE),l.length<=n->l.length<=f->l.length<=g->iR f l=iR g l:=by
  intro n;induction n with
  |zero=>
   intro f g l e c i;have:l=[]:=ja.1 o_
   subst this;cases f<;>cases g<;>simp[iR]
  |succ n d=>
   intro f g l e c i;by_cases a:l=[]
   ·subst a;cases f<;>cases g<;>simp[iR]
   ·have j:0<l.length:=gy.2 a;cases f with
    |zero=>omega
    |succ f=>
     cases g with
     |zero=>omega
     |succ g=>
      rw[iR,iR,if_neg a,if_neg a];by_cases b:bL l=0
      ·rw[if_pos b,if_pos b]
      ·rw[if_neg b,if_neg b,d f g (l.drop (bL l)) (by rw[gt];omega) (by rw[gt];omega) (by rw[gt];omega)]
 exact λf l a=>h l.length f l.length l cK a cK
def iQ(a:l≠[])(b:bL l≠0):eG l=l.take (bL l)::eG (l.drop (bL l)):=by
 have c:0<l.length:=gy.2 a;obtain⟨n,d⟩:∃n,l.length=n+1:=⟨l.length-1,o_⟩
 rw[<-sS (n+1) l o_,iR,if_neg a,if_neg b,sS n _ (by rw[gt];omega)]
def eC(h:l=[]\/bL l=0):eG l=[]:=by
 unfold eG;cases a:l.length with
 |zero=>rfl
 |succ n=>
  rw[iR];rcases h with h|h
  ·rw[if_pos h]
  ·rw[if_pos h];split<;>rfl
def uG(l:cE):(eG l).length<=l.length:=by
 have h:∀(n:Nat) (l:cE),l.length<=n->(eG l).length<=l.length:=by
  intro n;induction n with
  |zero=>
   intro l d;rw[eC (d7 (ja.1 o_))];simp
  |succ n c=>
   intro l d;by_cases a:l=[]
   ·rw[eC (d7 a)];simp
   by_cases b:bL l=0
   ·rw[eC (d6 b)];simp
   have e:0<l.length:=gy.2 a;rw[iQ a b,ep];have:=c (l.drop (bL l)) (by rw[gt];omega)
   rw[gt] at this;have:= @kX l;omega
 exact h l.length l cK
inductive aH where
 |begin (l_:Nat) (e_:cN)
 |push (v:aL)
 |load (slot:Nat)
 |declare (slot:Nat)
 |assign (slot n:Nat)
 |jump (to_:Nat)
 |skip (to_:Nat)
 |shortcut (when:Bool) (to_:Nat)
 |truth
 |unary (op:cE)
 |binary (op:cE)
 |index
 |list (n:Nat)
 |length
 |read
 |call (f:Nat) (n:Nat)
 |give
 |drop
 |print
def aH.isBegin:aH->Bool
 |.begin _ _=>true
 |_=>false
structure eU where
 name:cE
 code:List aH
structure aJ where
 fn:eU
 next:Nat
 l_:Nat
 e_:cN
 g_:List aL
 ops:List aL
structure cR where
 f_:List aJ
 tape:List Int
 out:cN
def aJ.push(f:aJ)(v:aL):aJ:={ f with ops:=f.ops++[v] }
def aJ.last(f:aJ):aL:=f.ops.getLast?.getD bS
def aJ.pop(f:aJ):aJ:={ f with ops:=f.ops.dropLast }
def aJ.many(f:aJ)(n:Nat):List aL:=f.ops.drop (f.ops.length-n)
def aJ.popMany(f:aJ)(n:Nat):aJ:={ f with ops:=f.ops.take (f.ops.length-n) }
noncomputable def iP(r:aL × Nat):aL × Nat:=if r.2=0 then if 200<aM r.1 then (bS,6) else r else r
noncomputable def oH(whole:aL)(at_:List aL)(to_:aL):aL × Nat:=iP (cV at_ whole to_)
noncomputable def aK(i:aH)(f:aJ):aJ × Nat:=
 match i with
 |.begin l s=>({ f with l_:=l,e_:=s },0)
 |.push v=>(f.push v,0)
 |.load k=>(f.push (f.g_[k]?.getD bS),0)
 |.declare k=>({ f.pop with g_:=f.g_.take k++[f.last] },0)
 |.assign k n=>
  let g:=f.pop.popMany n
  let r:=oH (f.g_[k]?.getD bS) (f.pop.many n) f.last
  if r.2=0 then ({ g with g_:=f.g_.set k r.1 },0) else (g,r.2)
 |.jump t=>({ f with next:=t },0)
 |.skip t=>if f.last.sort=1 then (if f.last.n=1 then f.pop else { f.pop with next:=t },0) else (f.pop,2)
 |.shortcut w t=>if f.last.sort=1 then (if decide (f.last.n=1)=w then { f.pop.push f.last with next:=t } else f.pop,0) else (f.pop,2)
 |.truth=>if f.last.sort=1 then (f.pop.push f.last,0) else (f.pop,2)
 |.unary op=>let r:=fU (op++[120]) f.last;if r.2=0 then (f.pop.push r.1,0) else (f.pop,r.2)
 |.binary op=>let r:=eZ op f.pop.last f.last;if r.2=0 then (f.pop.pop.push r.1,0) else (f.pop.pop,r.2)
 |.index=>let r:=dL f.pop.last f.last;if r.2=0 then (f.pop.pop.push r.1,0) else (f.pop.pop,r.2)
 |.list n=>let r:=iP (bA (f.many n),0);if r.2=0 then ((f.popMany n).push r.1,0) else (f.popMany n,r.2)
 |.length=>let r:=eL f.last;if r.2=0 then (f.pop.push r.1,0) else (f.pop,r.2)
 |.drop=>(f.pop,0)
 |_=>(f,0)
noncomputable def doI(tab:List eU)(i:aH)(w_:List aJ)(f:aJ)(tape:List Int)(out:cN):cR × Nat:=
 match i with
 |.read=>
  match tape with
  |[]=>(⟨w_++[f],tape,out⟩,7)
  |t::r=>(⟨w_++[f.push (bH t)],r,out⟩,0)
 |.call k n=>
  if w_.length+1=16 then (⟨w_++[f.popMany n],tape,out⟩,5)
  else (⟨w_++[f.popMany n,⟨tab[k]?.getD ⟨[],[]⟩,0,0,[],f.many n,[]⟩],tape,out⟩,0)
 |.give=>(⟨w_.dropLast++(w_.getLast?.map λg=>g.push f.last).toList,tape,out⟩,0)
 |.print=>if out.length=50 then (⟨w_++[f.pop],tape,out⟩,8) else (⟨w_++[f.pop],tape,out++[kP f.last]⟩,0)
 |i=>let r:=aK i f;(⟨w_++[r.1],tape,out⟩,r.2)
def aJ.fetch(f:aJ):Option (aH × aJ):=f.fn.code[f.next]?.map λi=>(i,{ f with next:=f.next+1 })
noncomputable def dR(tab:List eU):Nat->cR->Option (cR × Nat)
 |0,_=>none
 |k+1,m=>
  match m.f_.getLast? with
  |none=>some (m,1)
  |some f=>
   match f.fetch with
   |none=>none
   |some (i,g)=>
    let r:=doI tab i m.f_.dropLast g m.tape m.out
    if r.2≠0 then some r
    else if i.isBegin then some r
    else dR tab k r.1
structure aU where
 m_:Nat
 m:cR
 stop:Nat
def bZ(m_ stop:Nat):Nat:=if stop=0/\m_=500 then 9 else stop
def dW:cN->cE->Nat
 |[],_=>0
 |x::l,name=>if x=name then l.length else dW l name
def dG(fs:List aC)(name:cE):Nat:=fs.findIdx λf=>f.x_==name
def bV(c:aC->Nat->List aH):List aC->Nat->List aH
 |[],_=>[]
 |a::l,p=>c a p++bV c l (p+(c a p).length)
def aF(fs:List aC)(e_:cN):Nat->aC->Nat->List aH
 |0,_,_=>[]
 |d+1,a,p=>
  let y_:=bV (aF fs e_ d) a.y_ p
  if a.op==[48] then [.push (bH (((dQ 0 a.x_).getD 0:Nat):Int))]
  else if a.op==[115] then [.push (bP a.x_)]
  else if a.op==[98,111,111,108] then [.push (bU (a.x_==[116,114,117,101]))]
  else if a.op==[110,97,109,101] then [.load (dW e_ a.x_)]
  else if a.op==[108,105,115,116] then y_++[.list a.y_.length]
  else if a.op==[105,110,100,101,120] then y_++[.index]
  else if a.op==[45,120] then y_++[.unary [45]]
  else if a.op==[33,120] then y_++[.unary [33]]
  else if a.op==[99,97,108,108] then
   y_++[if a.x_==[108,101,110] then .length else if a.x_==[114,101,97,100] then .read else .call (dG fs a.x_) a.y_.length]
  else if a.op==[38,38] || a.op==[124,124] then
   match a.y_ with
   |[l,r]=>
    let cl:=aF fs e_ d l p
    let cr:=aF fs e_ d r (p+cl.length+1)
    cl++[.shortcut (a.op==[124,124]) (p+cl.length+1+cr.length+1)]++cr++[.truth]
   |_=>[]
  else y_++[.binary a.op]
def bM(c:cN->aC->Nat->List aH × cN):cN->List aC->Nat->List aH
 |_,[],_=>[]
 |e_,a::l,p=>(c e_ a p).1++bM c (c e_ a p).2 l (p+(c e_ a p).1.length)
def aZ(fs:List aC):Nat->cN->aC->Nat->List aH × cN
 |0,e_,_,_=>([],e_)
 |d+1,e_,a,p=>
  let start:=aH.begin a.l_ e_
  let blk:=λ(b:aC) q=>bM (aZ fs d) e_ b.y_ q
  if a.op==[118,97,114] then
   match a.y_ with
   |[t,v]=>(start::aF fs e_ d v (p+1)++[.declare e_.length],t.x_::e_)
   |_=>([],e_)
  else if a.op==[115,101,116] then
   (start::bV (aF fs e_ d) a.y_ (p+1)++[.assign (dW e_ a.x_) (a.y_.length-1)],e_)
  else if a.op==[105,102] then
   match a.y_ with
   |c::t::e=>
    let cc:=aF fs e_ d c (p+1)
    let ct:=blk t (p+1+cc.length+1)
    let q:=p+1+cc.length+1+ct.length+1
    let ce:=match e with|[x]=>blk x q|_=>[]
    (start::cc++[.skip q]++ct++[.jump (q+ce.length)]++ce,e_)
   |_=>([],e_)
  else if a.op==[119,104,105,108,101] then
   match a.y_ with
   |[c,b]=>
    let cc:=aF fs e_ d c (p+1)
    let cb:=blk b (p+1+cc.length+1)
    (start::cc++[.skip (p+1+cc.length+1+cb.length+1)]++cb++[.jump p],e_)
   |_=>([],e_)
  else if a.op==[114,101,116,117,114,110] then
   match a.y_ with
   |[v]=>(start::aF fs e_ d v (p+1)++[.give],e_)
   |_=>([start,.push (bH 0),.give],e_)
  else if a.op==[112,114,105,110,116] then
   match a.y_ with
   |[v]=>(start::aF fs e_ d v (p+1)++[.print],e_)
   |_=>([],e_)
  else
   match a.y_ with
   |[c]=>(start::aF fs e_ d c (p+1)++[.drop],e_)
   |_=>([],e_)
def fN(fs:List aC)(d:Nat)(f:aC):eU:=
 let e_:=(f.y_.dropLast.map (·.x_)).reverse
 ⟨f.x_,bM (aZ fs d) e_ ((f.y_.getLast?.map (·.y_)).getD []) 0++[.push (bH 0),.give]⟩
def dC(fs:List aC)(d:Nat):List eU:=fs.map (fN fs d)
def gB(fs:List aC)(d:Nat)(tape:List Int):cR:=⟨[⟨(dC fs d)[dG fs [109,97,105,110]]?.getD ⟨[],[]⟩,0,0,[],[],[]⟩],tape,[]⟩
structure eJ where
 h:Nat
 v:Nat
 e:Option Nat
 b:Bool
def eQ(D:bX)(T:Nat->eJ)(q h v:Nat)(e:Option Nat):Prop:=D q/\(T q).h=h/\(T q).v<=v/\((T q).e=none\/(T q).e=e)
def iJ(ar:Nat->Option Nat)(D:bX)(T:Nat->eJ)(p:Nat)(i:aH):Prop:=
 (T p).b=i.isBegin/\(T p).h<=p/\
 match i with
 |.begin _ s=>s.length<=(T p).v/\eQ D T (p+1) (T p).h (T p).v (some s.length)
 |.push _=>eQ D T (p+1) ((T p).h+1) (T p).v (T p).e
 |.load k=>k<(T p).v/\eQ D T (p+1) ((T p).h+1) (T p).v (T p).e
 |.declare k=>1<=(T p).h/\k<=(T p).v/\k<=90000/\(T p).e=some k/\eQ D T (p+1) ((T p).h-1) (k+1) (T p).e
 |.assign k n=>n+1<=(T p).h/\k<(T p).v/\eQ D T (p+1) ((T p).h-(n+1)) (T p).v (T p).e
 |.jump q=>(p<q\/(T q).b=true)/\eQ D T q (T p).h (T p).v (T p).e
 |.skip q=>1<=(T p).h/\p<q/\eQ D T q ((T p).h-1) (T p).v (T p).e/\eQ D T (p+1) ((T p).h-1) (T p).v (T p).e
 |.shortcut _ q=>1<=(T p).h/\p<q/\eQ D T q (T p).h (T p).v (T p).e/\eQ D T (p+1) ((T p).h-1) (T p).v (T p).e
 |.truth=>1<=(T p).h/\eQ D T (p+1) (T p).h (T p).v (T p).e
 |.unary _=>1<=(T p).h/\eQ D T (p+1) (T p).h (T p).v (T p).e
 |.length=>1<=(T p).h/\eQ D T (p+1) (T p).h (T p).v (T p).e
 |.binary _=>2<=(T p).h/\eQ D T (p+1) ((T p).h-1) (T p).v (T p).e
 |.index=>2<=(T p).h/\eQ D T (p+1) ((T p).h-1) (T p).v (T p).e
 |.list n=>n<=(T p).h/\eQ D T (p+1) ((T p).h-n+1) (T p).v (T p).e
 |.read=>eQ D T (p+1) ((T p).h+1) (T p).v (T p).e
 |.call k n=>n<=(T p).h/\ar k=some n/\eQ D T (p+1) ((T p).h-n+1) (T p).v (T p).e
 |.give=>1<=(T p).h
 |.drop=>1<=(T p).h/\eQ D T (p+1) ((T p).h-1) (T p).v (T p).e
 |.print=>1<=(T p).h/\eQ D T (p+1) ((T p).h-1) (T p).v (T p).e
def PF(L:Nat->eJ->Prop)(lo hi:Nat)(q:Nat):Prop:=(lo<=q/\q<=hi)\/∃y,L q y
def bN(ar:Nat->Option Nat)(L:Nat->eJ->Prop)(p:Nat)(c:List aH)(h v:Nat)(e:Option Nat)(h' v':Nat)(e':Option Nat):Prop:=
 ∃T:Nat->eJ,(∀q y,L q y->T q=y)/\(T p).h=h/\(T p).v<=v/\((T p).e=none\/(T p).e=e)/\
  (T (p+c.length)).h=h'/\(T (p+c.length)).v=v'/\(T (p+c.length)).e=e'/\
  ∀j i,c[j]?=some i->iJ ar (PF L p (p+c.length)) T (p+j) i
def eQ.same{D b:bX}{T T':Nat->eJ}(f:eQ D T q h v e)(c:D q->b q/\(T' q).h=(T q).h/\(T' q).v<=(T q).v/\((T' q).e=none\/(T' q).e=(T q).e)):eQ b T' q h v e:=by
 obtain⟨j,d,m,i⟩:=f;obtain⟨k,g,l,a⟩:=c j;refine⟨k,by rw[g,d],o_,?_⟩
 rcases a with a|a
 ·exact d7 a
 ·rw[a];exact i
def iJ.same{D e:bX}{T T':Nat->eJ}{i:aH}(f:iJ ar D T p i)(c:T' p=T p)
 (b:∀q,D q->e q/\(T' q).h=(T q).h/\(T' q).v<=(T q).v/\((T' q).e=none\/(T' q).e=(T q).e)) (k:∀q,D q->q<=p->(T q).b=true->(T' q).b=true):iJ ar e T' p i:=by
 obtain⟨j,g,a⟩:=f;refine⟨by rw[c];exact j,by rw[c];exact g,?_⟩
 cases i<;>simp only at a ⊢<;>try rw[c]
 case jump q=>
  refine⟨?_,a.2.same (b _)⟩;rcases a.1 with h|h
  ·exact d7 h
  ·rcases fq p q with d|d
   ·exact d7 d
   ·exact d6 (k q a.2.1 d h)
 all_goals first
  |exact a
  |exact a.same (b _)
  |exact⟨a.1,a.2.same (b _)⟩
  |exact⟨a.1,a.2.1,a.2.2.same (b _)⟩
  |exact⟨a.1,a.2.1,a.2.2.1.same (b _),a.2.2.2.same (b _)⟩
  |exact⟨a.1,a.2.1,a.2.2.1,a.2.2.2.1,a.2.2.2.2.same (b _)⟩
def bN.append{L:Nat->eJ->Prop}{c c':List aH}{s r:Nat}{w t:Option Nat}(a:bN ar L p c h v e s v1 w)(b:bN ar L (p+c.length) c' s v1 w r v2 t)
 (F:∀q y,L q y->q<=p\/p+c.length+c'.length<=q) (I:c≠[]):bN ar L p (c++c') h v e r v2 t:=by
 obtain⟨T,n,x,z,C,H,E,D,G⟩:=a;obtain⟨U,u1,u2,u3,u4,u5,u6,u7,u8⟩:=b;have B:0<c.length:=gy.2 I;have f:(c++c').length=c.length+c'.length:=ek;refine⟨λq=>if q<p+c.length then T q else U q,λq y d=>?_,?_,?_,?_,?_,?_,?_,λj i m=>?_⟩
 ·rcases F q y d with h|h
  ·simp only[if_pos (show q<p+c.length by omega)];exact n q y d
  ·simp only[if_neg (show ¬q<p+c.length by omega)];exact u1 q y d
 ·simp only[if_pos (show p<p+c.length by omega)];exact x
 ·simp only[if_pos (show p<p+c.length by omega)];exact z
 ·simp only[if_pos (show p<p+c.length by omega)];exact C
 ·simp only[if_neg (show ¬p+(c++c').length<p+c.length by omega)];rw[f,<-jp];exact u5
 ·simp only[if_neg (show ¬p+(c++c').length<p+c.length by omega)];rw[f,<-jp];exact u6
 ·simp only[if_neg (show ¬p+(c++c').length<p+c.length by omega)];rw[f,<-jp];exact u7
 ·rcases fq j c.length with k|k
  ·rw[hP k] at m;refine(G j i m).same (by simp only[if_pos (show p+j<p+c.length by omega)]) (λq d=>?_) (λq d o l=>?_)
   ·rcases fq q (p+c.length) with h|h
    ·rw[if_pos h];exact⟨d.imp (λd=>⟨d.1,o_⟩) id,rfl,cK,d6 rfl⟩
    ·rw[if_neg (show ¬q<p+c.length by omega)]
     rcases ic h with h|h
     ·subst h;exact⟨d7 ⟨o_,o_⟩,by rw[u2,H],by rw[E];exact u3,by rw[D];exact u4⟩
     ·rcases d with d|⟨y,g⟩
      ·omega
      ·rw[n q y g,u1 q y g];exact⟨d6 ⟨y,g⟩,rfl,cK,d6 rfl⟩
   ·simp only[if_pos (show q<p+c.length by omega)];exact l
  ·rw[gj k] at m;have u:=u8 (j-c.length) i m;rw[show p+c.length+(j-c.length)=p+j by omega] at u
   have A:j-c.length<c'.length:=(gu.1 m).1;refine u.same (by simp only[if_neg (show ¬p+j<p+c.length by omega)]) (λq d=>?_) (λq d o l=>?_)
   ·rcases d with d|⟨y,g⟩
    ·rw[if_neg (show ¬q<p+c.length by omega)]
     exact⟨d7 ⟨o_,o_⟩,rfl,cK,d6 rfl⟩
    ·refine⟨d6 ⟨y,g⟩,?_⟩;split
     ·rw[n q y g,u1 q y g];exact⟨rfl,cK,d6 rfl⟩
     ·exact⟨rfl,cK,d6 rfl⟩
   ·rcases d with d|⟨y,g⟩
    ·simp only[if_neg (show ¬q<p+c.length by omega)];exact l
    ·split
     ·rw[n q y g,<-u1 q y g];exact l
     ·exact l
def bN.nil(ar:Nat->Option Nat)(p h v:Nat)(e:Option Nat)(L:Nat->eJ->Prop)(k:∀q y,L q y->q=p->y.h=h/\y.v=v/\y.e=e)(l:∀q y z,L q y->L q z->y=z):bN ar L p [] h v e h v e:=by
 classical
 refine⟨λq=>if hq:∃y,L q y then hq.choose else ⟨h,v,e,false⟩,λq y d=>?_,?_⟩
 ·have a:∃y,L q y:=⟨y,d⟩;simp only[dif_pos a];exact l q _ _ a.choose_spec d
 ·simp only[ew,Nat.add_zero];split
  ·rename_i a;obtain⟨c,g,f⟩:=k p _ a.choose_spec rfl;exact⟨c,o_,d6 f,c,g,f,λj i b=>by simp at b⟩
  ·exact⟨rfl,cK,d6 rfl,rfl,rfl,rfl,λj i b=>by simp at b⟩
structure pX(ar:Nat->Option Nat)(c:List aH)(T:Nat->eJ):Prop where
 ins:∀j i,c[j]?=some i->iJ ar (λq=>q<c.length) T j i
 len:c.length<=80000
def iY(c:List aH):Prop:=(∃l s r,c=.begin l s::r)\/∃v,c=[.push v,.give]
structure cQ(ar:Nat->Option Nat)(f:aJ)(more:Nat):Prop where
 code:∃T,pX ar f.fn.code T/\(T f.next).h=f.ops.length+more/\(T f.next).v<=f.g_.length/\((T f.next).e=none\/(T f.next).e=some f.e_.length)
 next:f.next<f.fn.code.length
 e_:f.e_.length<=f.g_.length
 g_:f.g_.length<=90001
structure kT(ar:Nat->Option Nat)(tab:List eU):Prop where
 fn:∀k n,ar k=some n->∃f T,tab[k]?=some f/\pX ar f.code T/\(T 0).h=0/\(T 0).v<=n/\(T 0).e=none/\
  iY f.code
structure oK(ar:Nat->Option Nat)(m:cR):Prop where
 low:∀f∈m.f_.dropLast,cQ ar f 1
 top:∀f,m.f_.getLast?=some f->cQ ar f 0
 deep:m.f_.length<=16
def fB(l:List b)(a:b):(l++[a]).getLast?=some a:=s_
def gC(l:List b)(a:b):(l++[a]).dropLast=l:=s_
def oK.snoc{a:List aJ}{f:aJ}(d:∀g∈a,cQ ar g 1)(c:cQ ar f 0)(e:a.length+1<=16):oK ar ⟨a++[f],t,o⟩:=
 ⟨by simp only[gC];exact d,λg b=>by simp only[fB] at b;cases b;exact c,t_⟩
def cQ.flow{T:Nat->eJ}{f g:aJ}(l:pX ar f.fn.code T)(j:eQ (λq=>q<f.fn.code.length) T g.next h v e)(b:g.fn=f.fn)(m:h=g.ops.length)(n:v<=g.g_.length)(d:e=none\/e=some g.e_.length)
 (i:g.e_.length<=g.g_.length) (k:g.g_.length<=90001):cQ ar g 0:=by
 obtain⟨c,o,p,a⟩:=j;refine⟨⟨T,by rw[b];exact l,o_,o_,?_⟩,by rw[b];exact c,i,k⟩
 rcases a with a|a
 ·exact d7 a
 ·rw[a];exact d
def aJ.pop_len(f:aJ):f.pop.ops.length=f.ops.length-1:=by simp[aJ.pop]
def aJ.push_len(f:aJ)(v:aL):(f.push v).ops.length=f.ops.length+1:=by simp[aJ.push]
def aJ.popMany_len(f:aJ)(n:Nat):(f.popMany n).ops.length=f.ops.length-n:=by simp[aJ.popMany]
def IW{T:Nat->eJ}{f:aJ}{i:aH}(e:pX ar f.fn.code T)(c:iJ ar (λq=>q<f.fn.code.length) T f.next i)
 (p:(T f.next).h=f.ops.length) (j:(T f.next).v<=f.g_.length) (d:(T f.next).e=none\/(T f.next).e=some f.e_.length) (b:f.e_.length<=f.g_.length) (g:f.g_.length<=90001)
 (C:i≠.give) (B:i≠.read) (z:i≠.print) (u:∀k n,i≠.call k n) (r:aJ × Nat) (a:r=aK i { f with next:=f.next+1 }):
 r.1.e_.length<=r.1.g_.length/\(r.2=0->cQ ar r.1 0):=by
 obtain⟨_,_,c⟩:=c;have x:=b;cases i with
 |give=>exact absurd rfl C
 |read=>exact absurd rfl B
 |print=>exact absurd rfl z
 |call k n=>exact absurd rfl (u k n)
 |begin l s=>
  simp only[aK] at a c;subst a;exact⟨by simp only;omega,λ_=>cQ.flow (f:=f) e c.2 rfl p j (d6 rfl) (by simp only;omega) g⟩
 |push v=>
  simp only[aK] at a c;subst a;exact⟨b,λ_=>cQ.flow (f:=f) e c rfl (by rw[aJ.push_len];simp only;omega) j d b g⟩
 |load k=>
  simp only[aK] at a c;subst a;exact⟨b,λ_=>cQ.flow (f:=f) e c.2 rfl (by rw[aJ.push_len];simp only;omega) j d b g⟩
 |declare k=>
  simp only[aK] at a c;subst a;obtain⟨G,E,F,A,y⟩:=c;have t:f.e_.length=k:=by rcases d with d|d<;>rw[A] at d<;>cases d;rfl
  have o:(f.g_.take k++[aJ.last { f with next:=f.next+1 }]).length=k+1:=t_
  exact⟨by show f.e_.length<=(f.g_.take k++[_]).length;rw[o];omega,λ_=>cQ.flow (f:=f) e y rfl (by show _=(aJ.pop _).ops.length;rw[aJ.pop_len];simp only;omega) (by show _<=(f.g_.take k++[_]).length;rw[o];omega) d (by show f.e_.length<=(f.g_.take k++[_]).length;rw[o];omega) (by show (f.g_.take k++[_]).length<=_;rw[o];omega)⟩
 |assign k n=>
  simp only[aK] at a c;split at a
  ·subst a;refine⟨by simp only[ii];exact b,λ_=>cQ.flow (f:=f) e c.2.2 rfl ?_ (by simp only[ii];exact j) d (by simp only[ii];exact b) (by simp only[ii];exact g)⟩
   show _=(aJ.popMany _ n).ops.length
   rw[aJ.popMany_len,aJ.pop_len];simp only;omega
  ·subst a;rename_i m;exact⟨b,λh=>absurd h m⟩
 |jump q=>
  simp only[aK] at a c;subst a;exact⟨b,λ_=>cQ.flow (f:=f) e c.2 rfl p j d b g⟩
 |skip q=>
  simp only[aK] at a c;split at a
  ·subst a;refine⟨?_,λ_=>?_⟩
   ·split<;>exact b
   ·split
    ·exact cQ.flow (f:=f) e c.2.2.2 rfl (by rw[aJ.pop_len];simp only;omega) j d b g
    ·exact cQ.flow (f:=f) e c.2.2.1 rfl (by show _=(aJ.pop _).ops.length;rw[aJ.pop_len];simp only;omega) j d b g
  ·subst a;exact⟨b,λh=>absurd h s_⟩
 |shortcut w q=>
  simp only[aK] at a c;split at a
  ·subst a;refine⟨?_,λ_=>?_⟩
   ·split<;>exact b
   ·split
    ·exact cQ.flow (f:=f) e c.2.2.1 rfl (by show _=(aJ.push (aJ.pop _) _).ops.length;rw[aJ.push_len,aJ.pop_len];simp only;omega) j d b g
    ·exact cQ.flow (f:=f) e c.2.2.2 rfl (by rw[aJ.pop_len];simp only;omega) j d b g
  ·subst a;exact⟨b,λh=>absurd h s_⟩
 |truth=>
  simp only[aK] at a c;split at a
  ·subst a;exact⟨b,λ_=>cQ.flow (f:=f) e c.2 rfl (by rw[aJ.push_len,aJ.pop_len];simp only;omega) j d b g⟩
  ·subst a;exact⟨b,λh=>absurd h s_⟩
 |unary D=>
  simp only[aK] at a c;split at a
  ·subst a;exact⟨b,λ_=>cQ.flow (f:=f) e c.2 rfl (by rw[aJ.push_len,aJ.pop_len];simp only;omega) j d b g⟩
  ·subst a;rename_i m;exact⟨b,λh=>absurd h m⟩
 |length=>
  simp only[aK] at a c;split at a
  ·subst a;exact⟨b,λ_=>cQ.flow (f:=f) e c.2 rfl (by rw[aJ.push_len,aJ.pop_len];simp only;omega) j d b g⟩
  ·subst a;rename_i m;exact⟨b,λh=>absurd h m⟩
 |binary D=>
  simp only[aK] at a c;split at a
  ·subst a;exact⟨b,λ_=>cQ.flow (f:=f) e c.2 rfl (by rw[aJ.push_len,aJ.pop_len,aJ.pop_len];simp only;omega) j d b g⟩
  ·subst a;rename_i m;exact⟨b,λh=>absurd h m⟩
 |index=>
  simp only[aK] at a c;split at a
  ·subst a;exact⟨b,λ_=>cQ.flow (f:=f) e c.2 rfl (by rw[aJ.push_len,aJ.pop_len,aJ.pop_len];simp only;omega) j d b g⟩
  ·subst a;rename_i m;exact⟨b,λh=>absurd h m⟩
 |list n=>
  simp only[aK] at a c;split at a
  ·subst a;exact⟨b,λ_=>cQ.flow (f:=f) e c.2 rfl (by rw[aJ.push_len,aJ.popMany_len];simp only;omega) j d b g⟩
  ·subst a;rename_i m;exact⟨b,λh=>absurd h m⟩
 |drop=>
  simp only[aK] at a c;subst a;exact⟨b,λ_=>cQ.flow (f:=f) e c.2 rfl (by rw[aJ.pop_len];simp only;omega) j d b g⟩
structure fW(ar:Nat->Option Nat)(m:cR):Prop where
 ok:oK ar m
 start:∀f∈m.f_,iY f.fn.code
def cQ.pushed{f:aJ}(h:cQ ar f 1)(v:aL):cQ ar (f.push v) 0:=by
 obtain⟨⟨T,c,i,g,b⟩,e,a,d⟩:=h;exact⟨⟨T,c,by show (T f.next).h=(f.ops++[v]).length+0;simp;omega,g,b⟩,e,a,d⟩
def tJ{b:List eU}{i:aH}{a:List aJ}{f:aJ}(g:i≠.give)(e:i≠.read)(c:i≠.print)(d:∀k n,i≠.call k n):doI b i a f t o=(⟨a++[(aK i f).1],t,o⟩,(aK i f).2):=by
 cases i<;>first|rfl|exact absurd rfl g|exact absurd rfl e|exact absurd rfl c|exact absurd rfl (d _ _)
def jJ(i:aH)(f:aJ):(aK i f).1.fn=f.fn:=by
 cases i<;>simp only[aK]<;>(repeat' split)<;>rfl
def yZ{A:List eU}(ht:kT ar A){d:List aJ}{f:aJ}(h:fW ar ⟨d++[f],t,o⟩){i:aH}{g:aJ}(I:f.fetch=some (i,g)):
 (∀x∈(doI A i d g t o).1.f_,x.e_.length<=x.g_.length)/\(doI A i d g t o).1.f_.length<=16/\((doI A i d g t o).2=0->fW ar (doI A i d g t o).1):=by
 have q:∀x∈d,cQ ar x 1:=by have:=h.ok.low;simpa only[gC] using this
 have Q:cQ ar f 0:=h.ok.top f (fB _ _);have w:d.length+1<=16:=by have:=h.ok.deep;simpa using this
 have z:∀x∈d,iY x.fn.code:=λx m=>h.start x (by simp[m])
 have H:iY f.fn.code:=h.start f s_
 obtain⟨⟨T,K,hh,W,X⟩,ac,C,V⟩:=Q
 obtain⟨rfl,hi⟩:g={ f with next:=f.next+1 }/\f.fn.code[f.next]?=some i:=by
  unfold aJ.fetch at I;cases m:f.fn.code[f.next]? with
  |none=>rw[m] at I;cases I
  |some j=>rw[m] at I;simp at I;exact⟨I.2.symm,by rw[I.1]⟩
 have D:=K.ins _ _ hi;have L:∀x∈d,x.e_.length<=x.g_.length:=λx m=>(q x m).e_
 by_cases hn:i=.give
 ·subst hn;rcases il d with rfl|⟨b,x,rfl⟩
  ·refine⟨by simp[doI],by simp[doI],λ_=>⟨⟨by simp[doI],by simp[doI],by simp[doI]⟩,by simp[doI]⟩⟩
  ·rw[im] at*;have e:doI A .give (b++[x]) { f with next:=f.next+1 } t o=(⟨b++[x.push (aJ.last { f with next:=f.next+1 })],t,o⟩,0):=by simp[doI]
   rw[e];refine⟨λy u=>?_,by simp at w ⊢;omega,λ_=>⟨oK.snoc (λy u=>q y (by simp[u])) ((q x s_).pushed _) (by simp at w;omega),λy u=>?_⟩⟩
   ·rcases eq.1 u with u|u
    ·exact L y (by simp[u])
    ·rw[et.1 u];exact L x s_
   ·rcases eq.1 u with u|u
    ·exact z y (by simp[u])
    ·rw[et.1 u];exact z x s_
 have p:∀y:aJ,y.e_.length<=y.g_.length->∀x∈d++[y],x.e_.length<=x.g_.length:=λy u x m=>by
  rcases eq.1 m with m|m
  ·exact L x m
  ·rw[et.1 m];exact u
 have B:∀y:aJ,cQ ar y 0->y.fn=f.fn->∀t o,fW ar ⟨d++[y],t,o⟩:=λy u aa t o=>⟨oK.snoc q u w,λx m=>by
  rcases eq.1 m with m|m
  ·exact z x m
  ·rw[et.1 m,aa];exact H⟩
 by_cases Z:i=.read
 ·subst Z;cases t with
  |nil=>exact⟨p _ C,by simp[doI];omega,λJ=>by simp[doI] at J⟩
  |cons a r=>exact⟨p _ C,by simp[doI];omega,λ_=>B (aJ.push { f with next:=f.next+1 } (bH a)) (cQ.flow (f:=f) K D.2.2 rfl (by rw[aJ.push_len];simp only;omega) W X C V) rfl _ _⟩
 by_cases Y:i=.print
 ·subst Y;simp only[doI];split
  ·exact⟨p _ C,t_,λJ=>by simp at J⟩
  ·exact⟨p _ C,t_,λ_=>B (aJ.pop { f with next:=f.next+1 }) (cQ.flow (f:=f) K D.2.2.2 rfl (by rw[aJ.pop_len];simp only;omega) W X C V) rfl _ _⟩
 by_cases hk:∃k n,i=.call k n
 ·obtain⟨k,n,rfl⟩:=hk;simp only[doI];split
  ·exact⟨p _ C,t_,λJ=>by simp at J⟩
  ·rename_i hd;obtain⟨_,_,ab,S,N⟩:=D;obtain⟨c,U,c1,c2,c3,c4,c5,c6⟩:=ht.fn k n S;have F:(aJ.many { f with next:=f.next+1 } n).length=n:=by simp[aJ.many];omega
   rw[c1]
   have G:cQ ar ⟨c,0,0,[],aJ.many { f with next:=f.next+1 } n,[]⟩ 0:=by
    refine⟨⟨U,c2,by simp[c3],by simp only[F];exact c4,d7 c5⟩,?_,s_,by simp only[F];have:=c2.len;have:=K.len;have:=(K.ins _ _ hi).2.1;omega⟩
    rcases c6 with ⟨l,s,r,e⟩|⟨v,e⟩<;>simp[e]
   have E:cQ ar (aJ.popMany { f with next:=f.next+1 } n) 1:=by
    obtain⟨f1,f2,f3,P⟩:=N;refine⟨⟨T,K,?_,el f3 W,?_⟩,f1,C,V⟩
    ·rw[aJ.popMany_len];show (T (f.next+1)).h=_;simp only;omega
    ·rcases P with P|P
     ·exact d7 P
     ·show (T (f.next+1)).e=none\/(T (f.next+1)).e=_;rw[P];exact X
   have e1:d++[aJ.popMany { f with next:=f.next+1 } n,(⟨c,0,0,[],aJ.many { f with next:=f.next+1 } n,[]⟩:aJ)]=(d++[aJ.popMany { f with next:=f.next+1 } n])++[(⟨c,0,0,[],aJ.many { f with next:=f.next+1 } n,[]⟩:aJ)]:=s_
   simp only[Option.getD_some];rw[e1];refine⟨λx m=>?_,t_,λ_=>⟨oK.snoc (λx m=>?_) G t_,λx m=>?_⟩⟩
   ·rcases eq.1 m with m|m
    ·exact p _ E.e_ x m
    ·rw[et.1 m];exact G.e_
   ·rcases eq.1 m with m|m
    ·exact q x m
    ·rw[et.1 m];exact E
   ·rcases eq.1 m with m|m
    ·rcases eq.1 m with m|m
     ·exact z x m
     ·rw[et.1 m];exact H
    ·rw[et.1 m];exact c6
 have M:∀k n,i≠.call k n:=λk n e=>hk ⟨k,n,e⟩
 rw[tJ hn Z Y M];have O:=IW K D hh W X C V hn Z Y M _ rfl;exact⟨p _ O.1,t_,λJ=>B _ (O.2 J) (jJ _ _) _ _⟩
def kL(f:aJ):Nat:=if f.next=0 then 2 else if f.fn.code.length=2 then 1 else 4*(f.fn.code.length-f.next)
def wgts(l:List aJ):Nat:=(l.map kL).sum
def BR{T:Nat->eJ}{f:aJ}{i:aH}(a:iJ ar (λq=>q<f.fn.code.length) T f.next i)
 (e:i.isBegin=false) (o:i≠.give) (m:i≠.read) (j:i≠.print) (g:∀k n,i≠.call k n):
 (aK i { f with next:=f.next+1 }).2=0->(f.next<(aK i { f with next:=f.next+1 }).1.next/\(aK i { f with next:=f.next+1 }).1.next<f.fn.code.length)\/(T (aK i { f with next:=f.next+1 }).1.next).b=true/\(aK i { f with next:=f.next+1 }).1.next<f.fn.code.length:=by
 obtain⟨_,_,a⟩:=a;intro b;cases i with
 |give=>exact absurd rfl o
 |read=>exact absurd rfl m
 |print=>exact absurd rfl j
 |call k n=>exact absurd rfl (g k n)
 |begin l s=>simp[aH.isBegin] at e
 |jump q=>
  simp only at a;obtain⟨c|c,d⟩:=a
  ·exact d7 ⟨c,d.1⟩
  ·exact d6 ⟨c,d.1⟩
 |skip q=>
  simp only[aK] at a b ⊢
  split
  ·simp only;split
   ·exact d7 ⟨gh _,a.2.2.2.1⟩
   ·exact d7 ⟨a.2.1,a.2.2.1.1⟩
  ·rename_i h;rw[if_neg h] at b;simp at b
 |shortcut w q=>
  simp only[aK] at a b ⊢
  split
  ·simp only;split
   ·exact d7 ⟨a.2.1,a.2.2.1.1⟩
   ·exact d7 ⟨gh _,a.2.2.2.1⟩
  ·rename_i h;rw[if_neg h] at b;simp at b
 |assign k n=>
  simp only[aK] at a b ⊢
  split<;>exact d7 ⟨gh _,a.2.2.1⟩
 |declare k=>exact d7 ⟨gh _,a.2.2.2.2.1⟩
 |push v=>exact d7 ⟨gh _,a.1⟩
 |load k=>exact d7 ⟨gh _,a.2.1⟩
 |drop=>exact d7 ⟨gh _,a.2.1⟩
 |truth=>simp only[aK] at a ⊢;split<;>exact d7 ⟨gh _,a.2.1⟩
 |unary p=>simp only[aK] at a ⊢;split<;>exact d7 ⟨gh _,a.2.1⟩
 |length=>simp only[aK] at a ⊢;split<;>exact d7 ⟨gh _,a.2.1⟩
 |binary p=>simp only[aK] at a ⊢;split<;>exact d7 ⟨gh _,a.2.1⟩
 |index=>simp only[aK] at a ⊢;split<;>exact d7 ⟨gh _,a.2.1⟩
 |list n=>simp only[aK] at a ⊢;split<;>exact d7 ⟨gh _,a.2.1⟩
def iE(l:List aJ)(f:aJ):wgts (l++[f])=wgts l+kL f:=by simp[wgts]
def CJ{f:aJ}(h:f.next<f.fn.code.length):1<=kL f:=by unfold kL;repeat' split
                                                    all_goals omega
def PL(f:aJ)(v:aL):kL (f.push v)=kL f:=rfl
def xF{f g:aJ}{i:aH}(m:iY f.fn.code)(a:f.fn.code[f.next]?=some i)(c:i.isBegin=false)(d:g.fn=f.fn)(n:f.next<g.next)(k:g.next<f.fn.code.length):kL g<kL f:=by
 unfold kL;rw[d];rcases m with ⟨l,s,r,e⟩|⟨v,e⟩
 ·have j:f.next≠0:=λh=>by rw[e,h] at a;simp at a;rw[<-a] at c;simp[aH.isBegin] at c
  rw[if_neg (show g.next≠0 by omega),if_neg j]
  split<;>omega
 ·have b:f.fn.code.length=2:=by rw[e];rfl
  rw[b] at k;rw[if_neg (show g.next≠0 by omega),if_pos b,if_pos (show f.next=0 by omega)]
  omega
def PM{f g:aJ}(i:iY f.fn.code)(a:f.fn.code[f.next]?=some (.call k n))(c:g.fn=f.fn)(j:f.next<g.next)(m:g.next<f.fn.code.length):kL g+2<kL f:=by
 unfold kL;rw[c]
 have d:f.next≠0:=λh=>by
  rcases i with ⟨l,s,r,e⟩|⟨v,e⟩<;>rw[e,h] at a<;>simp at a
 have b:f.fn.code.length≠2:=o_
 rw[if_neg (show g.next≠0 by omega),if_neg d,if_neg b]
 split
 ·omega
 ·omega
structure PI(ar:Nat->Option Nat)(r:cR × Nat):Prop where
 told:∀x∈r.1.f_,x.e_.length<=x.g_.length
 deep:r.1.f_.length<=16
 ok:r.2=0->fW ar r.1/\r.1.f_≠[]
def lW{l:List aJ}(h:l≠[]):∃b f,l=b++[f]:=by
 rcases il l with a|⟨b,f,a⟩
 ·exact absurd a h
 ·exact⟨b,f,by rw[a,im]⟩
def AC{f:aJ}(h:f.next<f.fn.code.length):f.fetch=some (f.fn.code[f.next],{ f with next:=f.next+1 }):=by
 unfold aJ.fetch;rw[ff h];rfl
def vT{a:List eU}(i:kT ar a){b:List aJ}{f:aJ}(h:fW ar ⟨b++[f],t,o⟩){l:Nat}{s:cN}(m:f.fn.code[f.next]?=some (.begin l s)):
 ∃r,dR a (k+1) ⟨b++[f],t,o⟩=some r/\PI ar r:=by
 have d:f.fetch=some (.begin l s,{ f with next:=f.next+1 }):=by unfold aJ.fetch;rw[m];rfl
 obtain⟨g,e,j⟩:=yZ i h d;refine⟨doI a (.begin l s) b { f with next:=f.next+1 } t o,?_,g,e,λc=>⟨j c,by simp[doI]⟩⟩
 rw[dR];simp only[fB,d,gC];have c:(doI a (.begin l s) b { f with next:=f.next+1 } t o).2=0:=rfl
 rw[if_neg (by rw[c];simp),if_pos (show (aH.begin l s).isBegin=true from rfl)]
def mH{p:List eU}(w:kT ar p):∀(k:Nat) (m:cR),fW ar m->wgts m.f_+2<=k->∃r,dR p k m=some r/\PI ar r
 |0,_,_,H=>by omega
 |k+1,⟨fr,t,o⟩,h,H=>by
  by_cases E:fr=[]
  ·subst E;exact⟨(⟨[],t,o⟩,1),rfl,s_,s_,λl=>by simp at l⟩
  obtain⟨b,f,rfl⟩:=lW E;have d:cQ ar f 0:=h.ok.top f (fB _ _);have s:iY f.fn.code:=h.start f s_
  have N:=AC d.next
  have C:f.fn.code[f.next]?=some (f.fn.code[f.next]'d.next):=ff d.next
  generalize f.fn.code[f.next]'d.next=i at N C
  obtain⟨Y,W,h3⟩:=yZ w h N;by_cases l:(doI p i b { f with next:=f.next+1 } t o).2=0
  rotate_left
  ·refine⟨_,?_,Y,W,λX=>absurd X l⟩
   rw[dR];simp only[fB,N,gC];rw[if_pos l]
  cases L:i.isBegin;rotate_left
  ·cases i<;>simp[aH.isBegin] at L
   exact vT w h C
  have e:dR p (k+1) ⟨b++[f],t,o⟩=dR p k (doI p i b { f with next:=f.next+1 } t o).1:=by
   rw[dR];simp only[fB,N,gC];rw[if_neg (by rw[l];simp),L]
   rfl
  rw[e];have A:=h3 l;simp only at H;rw[iE] at H;obtain⟨⟨T,V,hh,hv,he⟩,K,hs,hm⟩:=d;have u:=V.ins _ _ C;by_cases S:i=.give
  ·subst S;refine mH w k _ A ?_;have J:=CJ K;rcases il b with rfl|⟨U,x,rfl⟩
   ·simp[doI,wgts] at H ⊢;omega
   ·rw[im] at*;have Z:(doI p .give (U++[x]) { f with next:=f.next+1 } t o).1.f_=U++[x.push (aJ.last { f with next:=f.next+1 })]:=by simp[doI]
    rw[Z,iE,PL];rw[iE] at H;omega
  by_cases Q:i=.read
  ·subst Q;cases t with
   |nil=>simp[doI] at l
   |cons a r=>
    refine mH w k _ A ?_;have J:=xF (g:=aJ.push { f with next:=f.next+1 } (bH a)) s C rfl rfl (gh _) u.2.2.1
    show wgts (b++[_])+2<=k
    rw[iE];omega
  by_cases P:i=.print
  ·subst P;refine mH w k _ A ?_;have J:=xF (g:=aJ.pop { f with next:=f.next+1 }) s C rfl rfl (gh _) u.2.2.2.1
   simp only[doI] at l ⊢
   split at l
   ·simp at l
   ·rw[if_neg (by assumption)]
    show wgts (b++[_])+2<=k
    rw[iE];omega
  by_cases F:∃c n,i=.call c n
  ·obtain⟨c,n,rfl⟩:=F;refine mH w k _ A ?_;have J:=PM (g:=aJ.popMany { f with next:=f.next+1 } n) s C rfl (gh _) u.2.2.2.2.1
   simp only[doI] at l ⊢
   split at l
   ·simp at l
   ·rw[if_neg (by assumption)]
    have e1:∀y z:aJ,b++[y,z]=(b++[y])++[z]:=s_
    simp only;rw[e1,iE,iE];have:∀c v,kL ⟨c,0,0,[],v,[]⟩=2:=λc v=>rfl
    rw[this];omega
  have G:∀k n,i≠.call k n:=λk n e=>F ⟨k,n,e⟩
  rw[tJ S Q P G] at l A ⊢
  have q:=BR u L S Q P G l;have D:(aK i { f with next:=f.next+1 }).1.fn=f.fn:=jJ _ _
  generalize aK i { f with next:=f.next+1 }=y at l A q D ⊢
  rcases q with ⟨O,M⟩|⟨O,M⟩
  ·refine mH w k _ A ?_;have J:=xF (g:=y.1) s C L D O M;simp only;rw[iE];omega
  ·have I:y.1.fn.code[y.1.next]?=some (f.fn.code[y.1.next]):=by rw[D];exact ff M
   have B:=(V.ins _ _ (ff M)).1;rw[O] at B;have J:=CJ K;obtain⟨j,rfl⟩:∃j,k=j+1:=⟨k-1,o_⟩
   generalize f.fn.code[y.1.next]=i' at I B
   cases i'<;>simp[aH.isBegin] at B
   exact vT w A I
def bN.then{L:Nat->eJ->Prop}{c c':List aH}{g:Nat}{j i:Option Nat}(a:bN ar L p c h v e g v1 j)(b:bN ar L (p+c.length) c' g v1 j d v2 i)
 (n:∀q y,L q y->q<=p\/p+c.length+c'.length<=q):bN ar L p (c++c') h v e d v2 i:=by
 by_cases k:c=[]
 ·subst k;obtain⟨T,t,r,s,l,o,m,f,u⟩:=a;obtain⟨U,u1,u2,u3,u4,u5,u6,u7,u8⟩:=b;simp only[ew,Nat.add_zero] at o m f u2 u3 u4 u5 u6 u7 u8;refine⟨U,u1,o_,o_,?_,u5,u6,u7,u8⟩
  rcases u4 with u4|u4
  ·exact d7 u4
  ·rw[u4,<-f];exact l
 ·exact a.append b n k
def bN.one{L:Nat->eJ->Prop}{i:aH}(m:∀q y z,L q y->L q z->y=z)(k:∀y,L p y->y=⟨h,v,e,i.isBegin⟩)(l:∀y,L (p+1) y->y.h=h'/\y.v=v'/\y.e=e')
 (n:∀T:Nat->eJ,T p=⟨h,v,e,i.isBegin⟩->(T (p+1)).h=h'->(T (p+1)).v=v'->(T (p+1)).e=e'->(∀q y,L q y->T q=y)->iJ ar (PF L p (p+1)) T p i):bN ar L p [i] h v e h' v' e':=by
 classical
 let T:Nat->eJ:=λq=>if hq:∃y,L q y then hq.choose else if q=p then ⟨h,v,e,i.isBegin⟩ else ⟨h',v',e',false⟩
 have g:∀q y,L q y->T q=y:=λq y b=>by
  have a:∃y,L q y:=⟨y,b⟩;simp only[T,dif_pos a];exact m q _ _ a.choose_spec b
 have f:T p=⟨h,v,e,i.isBegin⟩:=by
  by_cases a:∃y,L p y
  ·obtain⟨y,b⟩:=a;rw[g p y b];exact k y b
  ·simp only[T,dif_neg a];rfl
 have c:(T (p+1)).h=h'/\(T (p+1)).v=v'/\(T (p+1)).e=e':=by
  by_cases a:∃y,L (p+1) y
  ·obtain⟨y,b⟩:=a;rw[g _ y b];exact l y b
  ·have e:T (p+1)=⟨h',v',e',false⟩:=by simp only[T,dif_neg a,if_neg (show ¬p+1=p by omega)]
   rw[e];exact⟨rfl,rfl,rfl⟩
 refine⟨T,g,by rw[f],by rw[f];exact en _,by rw[f];exact d6 rfl,c.1,c.2.1,c.2.2,λj x d=>?_⟩
 match j,d with
 |0,d=>
  simp at d;subst d;exact n T f c.1 c.2.1 c.2.2 g
 |j+1,d=>simp at d
structure eT(L:Nat->eJ->Prop)(lo hi:Nat):Prop where
 uniq:∀q y z,L q y->L q z->y=z
 out:∀q y,L q y->q<lo\/hi<q
def eT.sub{L:Nat->eJ->Prop}{lo' hi':Nat}(h:eT L lo a)(d:lo<=lo')(c:hi'<=a):eT L lo' hi':=⟨h.uniq,λq y b=>by have:=h.out q y b;omega⟩
def fL(L:Nat->eJ->Prop)(q:Nat)(y:eJ):Nat->eJ->Prop:=λr z=>L r z\/(r=q/\z=y)
def fL.ok{L:Nat->eJ->Prop}{c lo' hi':Nat}{y:eJ}(h:eT L lo c)(i:lo<=q)(f:q<=c)(j:lo<=lo')(g:hi'<=c)(d:q<lo'\/hi'<q):eT (fL L q y) lo' hi':=by
 refine⟨λr x z a b=>?_,λr x a=>?_⟩
 ·rcases a with a|⟨rfl,rfl⟩<;>rcases b with b|⟨e,rfl⟩
  ·exact h.uniq _ _ _ a b
  ·have:=h.out _ _ a;omega
  ·have:=h.out _ _ b;omega
  ·rfl
 ·rcases a with a|⟨rfl,rfl⟩
  ·have:=h.out _ _ a;omega
  ·exact d
def bN.close{L:Nat->eJ->Prop}{c:List aH}{y:eJ}(s:bN ar (fL L q y) p c h v e h' v' e')(o:p<=q)(f:q<=p+c.length):bN ar L p c h v e h' v' e':=by
 obtain⟨T,u,b,d,g,x,m,l,w⟩:=s;refine⟨T,λq y n=>u q y (d7 n),b,d,g,x,m,l,λj i A=>(w j i A).same rfl (λr a=>⟨?_,rfl,cK,d6 rfl⟩) (λ_ _ _ k=>k)⟩
 rcases a with a|⟨z,t|⟨rfl,rfl⟩⟩
 ·exact d7 a
 ·exact d6 ⟨z,t⟩
 ·exact d7 ⟨o,f⟩
def iU{L:Nat->eJ->Prop}:PF L p (p+1) (p+1):=d7 ⟨o_,o_⟩
def bN.plain{L:Nat->eJ->Prop}{i:aH}(b:eT L p (p+1))(g:i.isBegin=false)(j:h<=p)
 (l:∀(D:bX) (T:Nat->eJ),(T p).h=h->(T p).v=v->eQ D T (p+1) h' (T p).v (T p).e->(T p).b=false->(T p).h<=p->iJ ar D T p i):bN ar L p [i] h v e h' v e:=
 bN.one b.uniq (λy c=>absurd (b.out _ _ c) o_) (λy c=>absurd (b.out _ _ c) o_) λT a k d f _=>
  l _ T (by rw[a]) (by rw[a]) ⟨iU,k,by rw[d,a];exact en _,by rw[f,a];exact d6 rfl⟩ (by rw[a];exact g) (by rw[a];exact j)
def fX(fs:List aC)(k:Nat):Option Nat:=fs[k]?.map λf=>f.y_.length-1
def ExOk(fs:List aC)(a_:Bool)(e_:cN):Nat->aC->Prop
 |0,_=>False
 |d+1,a=>
  ((a.op=[48]\/a.op=[115]\/a.op=[98,111,111,108])/\a.y_=[])\/
  (a.op=[110,97,109,101]/\a.y_=[]/\a.x_∈e_)\/
  (a.op=[108,105,115,116]/\∀k∈a.y_,ExOk fs a_ e_ d k)\/
  (a.op=[105,110,100,101,120]/\∃l r,a.y_=[l,r]/\ExOk fs a_ e_ d l/\ExOk fs a_ e_ d r)\/
  ((a.op=[45,120]\/a.op=[33,120])/\∃l,a.y_=[l]/\ExOk fs a_ e_ d l)\/
  (a.op=[99,97,108,108]/\(∀k∈a.y_,ExOk fs a_ e_ d k)/\
    ((a.x_=[108,101,110]/\a.y_.length=1)\/(a.x_=[114,101,97,100]/\a_=false/\a.y_.length=0)\/
     (a.x_≠[108,101,110]/\a.x_≠[114,101,97,100]/\a_=false/\fX fs (dG fs a.x_)=some a.y_.length)))\/
  (cJ a.op≠9/\∃l r,a.y_=[l,r]/\ExOk fs a_ e_ d l/\ExOk fs a_ e_ d r)
def rT:∀{e_:cN} {x:cE},x∈e_->dW e_ x<e_.length
 |y::l,x,h=>by
  unfold dW;split
  ·simp
  ·rename_i a;rcases eo.1 h with rfl|h
   ·exact absurd rfl a
   ·have:=rT h;simp;omega
def nZ{op:cE}(h:cJ op≠9):op=[124,124]\/op=[38,38]\/op=[61,61]\/op=[33,61]\/op=[60]\/op=[60,61]\/op=[43]\/op=[45]\/op=[42]\/op=[47]\/op=[37]:=by
 unfold cJ at h;repeat' split at h
 all_goals simp_all
 all_goals grind
def UT(fs:List aC)(a_:Bool)(e_:cN)(d:Nat):Prop:=
 ∀(a:aC) (L:Nat->eJ->Prop) (p h v:Nat) (e:Option Nat),ExOk fs a_ e_ d a->e_.length<=v->h<=p->eT L p (p+(aF fs e_ d a p).length)->
  bN (fX fs) L p (aF fs e_ d a p) h v e (h+1) v e/\1<=(aF fs e_ d a p).length
def rV{fs:List aC}{a_:Bool}(f:UT fs a_ e_ d):∀(l:List aC) (L:Nat->eJ->Prop) (p h v:Nat) (e:Option Nat),(∀a∈l,ExOk fs a_ e_ d a)->e_.length<=v->h<=p->eT L p (p+(bV (aF fs e_ d) l p).length)->
 bN (fX fs) L p (bV (aF fs e_ d) l p) h v e (h+l.length) v e/\l.length<=(bV (aF fs e_ d) l p).length
 |[],L,p,h,v,e,_,_,_,b=>⟨bN.nil _ _ _ _ _ _ (λq y c t=>absurd (b.out q y c) (by simp[bV];omega)) b.uniq,s_⟩
 |a::l,L,p,h,v,e,g,i,n,b=>by
  simp only[bV,ek] at b ⊢
  obtain⟨m,k⟩:=f a L p h v e (g a (fk ..)) i n (b.sub cK o_)
  obtain⟨j,o⟩:=rV f l L (p+(aF fs e_ d a p).length) (h+1) v e (λx r=>g x (ey _ r)) i o_ (b.sub o_ o_)
  refine⟨?_,by simp only[ep];omega⟩
  have s:h+(a::l).length=h+1+l.length:=by simp only[ep];omega
  rw[s];exact m.then j λq y c=>by have:=b.out q y c;omega
def bN.snoc{L:Nat->eJ->Prop}{c:List aH}{i:aH}{f:Nat}{j:Option Nat}(a:bN ar L p c h v e f v e)(g:eT L p (p+(c++[i]).length))(b:eT L (p+c.length) (p+c.length+1)->bN ar L (p+c.length) [i] f v e d v2 j):bN ar L p (c++[i]) h v e d v2 j:=by
 have l:(c++[i]).length=c.length+1:=s_
 refine a.then (b (g.sub o_ o_)) λq y k=>?_
 have:=g.out q y k;simp only[ep,ew];omega
def nN(fs:List aC)(a_:Bool)(e_:cN):∀d,UT fs a_ e_ d
 |0,_,_,_,_,_,_,h,_,_,_=>h.elim
 |d+1,a,L,p,h,v,e,ha,hv,g,z=>by
  have X:=nN fs a_ e_ d
  have M:∀l r:aC,a.y_=[l,r]->ExOk fs a_ e_ d l->ExOk fs a_ e_ d r->∀k∈a.y_,ExOk fs a_ e_ d k:=λl r m U h2 k C=>by
   rw[m] at C;rcases eo.1 C with rfl|C
   ·exact U
   ·rw[et.1 C];exact h2
  have j:∀i:aH,i.isBegin=false->aF fs e_ (d+1) a p=bV (aF fs e_ d) a.y_ p++[i]->(∀k∈a.y_,ExOk fs a_ e_ d k)->
   (∀(s:Nat) (D:bX) (T:Nat->eJ),(T s).h=h+a.y_.length->(T s).v=v->eQ D T (s+1) (h+1) (T s).v (T s).e->(T s).b=false->(T s).h<=s->iJ (fX fs) D T s i)->
   bN (fX fs) L p (aF fs e_ (d+1) a p) h v e (h+1) v e/\1<=(aF fs e_ (d+1) a p).length:=λi hb A m hi=>by
   rw[A] at z ⊢
   obtain⟨U,h2⟩:=rV X a.y_ L p h v e m hv g (z.sub cK s_)
   exact⟨bN.snoc U z λE=>bN.plain E hb o_ (hi _),s_⟩
  rcases ha with ⟨n|n|n,m⟩|⟨n,m,hx⟩|⟨n,m⟩|⟨n,l,r,m,E,P⟩|⟨n|n,l,m,E⟩|⟨n,m,A⟩|⟨n,l,r,m,E,P⟩
  ·have A:aF fs e_ (d+1) a p=[.push (bH (((dQ 0 a.x_).getD 0:Nat):Int))]:=by rw[aF];simp[n]
   rw[A] at z ⊢
   exact⟨bN.plain z rfl g λD T c w f b g=>⟨b,g,by rw[c];exact f⟩,s_⟩
  ·have A:aF fs e_ (d+1) a p=[.push (bP a.x_)]:=by rw[aF];simp[n]
   rw[A] at z ⊢
   exact⟨bN.plain z rfl g λD T c w f b g=>⟨b,g,by rw[c];exact f⟩,s_⟩
  ·have A:aF fs e_ (d+1) a p=[.push (bU (a.x_==[116,114,117,101]))]:=by rw[aF];simp[n]
   rw[A] at z ⊢
   exact⟨bN.plain z rfl g λD T c w f b g=>⟨b,g,by rw[c];exact f⟩,s_⟩
  ·have A:aF fs e_ (d+1) a p=[.load (dW e_ a.x_)]:=by rw[aF];simp[n]
   rw[A] at z ⊢
   exact⟨bN.plain z rfl g λD T c w f b g=>⟨b,g,by rw[w];have:=rT hx;omega,by rw[c];exact f⟩,s_⟩
  ·refine j (.list a.y_.length) rfl (by rw[aF];simp[n]) m λs D T c w f b g=>⟨b,g,o_,?_⟩
   have:(T s).h-a.y_.length+1=h+1:=o_
   rw[this];exact f
  ·refine j .index rfl (by rw[aF];simp[n]) (M l r m E P) λs D T c w f b g=>?_
   rw[m] at c;simp only[ep,ew] at c;refine⟨b,g,o_,?_⟩
   have:(T s).h-1=h+1:=o_
   rw[this];exact f
  ·refine j (.unary [45]) rfl (by rw[aF];simp[n]) (by rw[m];simpa using E) λs D T c w f b g=>?_
   rw[m] at c;simp only[ep,ew] at c;exact⟨b,g,o_,by rw[c];exact f⟩
  ·refine j (.unary [33]) rfl (by rw[aF];simp[n]) (by rw[m];simpa using E) λs D T c w f b g=>?_
   rw[m] at c;simp only[ep,ew] at c;exact⟨b,g,o_,by rw[c];exact f⟩
  ·rcases A with ⟨S,J⟩|⟨S,_,J⟩|⟨V,Y,_,J⟩
   ·refine j .length rfl (by rw[aF];simp[n,S]) m λs D T c w f b g=>⟨b,g,o_,?_⟩
    rw[c,J];exact f
   ·refine j .read rfl (by rw[aF];simp[n,S]) m λs D T c w f b g=>⟨b,g,?_⟩
    rw[c,J];exact f
   ·refine j (.call (dG fs a.x_) a.y_.length) rfl (by rw[aF];simp[n,V,Y]) m λs D T c w f b g=>⟨b,g,o_,J,?_⟩
    have:(T s).h-a.y_.length+1=h+1:=o_
    rw[this];exact f
  ·by_cases N:a.op=[38,38]\/a.op=[124,124]
   rotate_left
   ·have W:aF fs e_ (d+1) a p=bV (aF fs e_ d) a.y_ p++[.binary a.op]:=by
     rw[aF];rcases nZ n with h|h|h|h|h|h|h|h|h|h|h<;>simp[h] at N ⊢
    refine j (.binary a.op) rfl W (M l r m E P) λs D T c w f b g=>?_
    rw[m] at c;simp only[ep,ew] at c;refine⟨b,g,o_,?_⟩
    have:(T s).h-1=h+1:=o_
    rw[this];exact f
   ·have A:aF fs e_ (d+1) a p=aF fs e_ d l p++[.shortcut (a.op==[124,124]) (p+(aF fs e_ d l p).length+1+(aF fs e_ d r (p+(aF fs e_ d l p).length+1)).length+1)]++aF fs e_ d r (p+(aF fs e_ d l p).length+1)++[.truth]:=by
     rw[aF];rcases N with h|h<;>simp[h,m]
    generalize O:aF fs e_ d l p=o at A;generalize K:aF fs e_ d r (p+o.length+1)=t at A;rw[A] at z ⊢
    have G:(o++[aH.shortcut (a.op==[124,124]) (p+o.length+1+t.length+1)]++t++[aH.truth]).length=o.length+1+t.length+1:=by simp only[ek,ep,ew]
    rw[G] at z;refine⟨bN.close (q:=p+o.length+1+t.length+1) (y:=⟨h+1,v,e,false⟩) ?_ o_ (by rw[G];omega),o_⟩
    have u:eT (fL L (p+o.length+1+t.length+1) ⟨h+1,v,e,false⟩) p (p+o.length+1+t.length):=fL.ok z o_ o_ cK o_ o_
    obtain⟨s1,l1⟩:=X l (fL L (p+o.length+1+t.length+1) ⟨h+1,v,e,false⟩) p h v e E hv g (by rw[O];exact u.sub cK o_)
    rw[O] at s1 l1;obtain⟨s3,l3⟩:=X r (fL L (p+o.length+1+t.length+1) ⟨h+1,v,e,false⟩) (p+o.length+1) h v e P hv o_ (by rw[K];exact u.sub o_ o_)
    rw[K] at s3 l3
    have s2:bN (fX fs) (fL L (p+o.length+1+t.length+1) ⟨h+1,v,e,false⟩) (p+o.length) [.shortcut (a.op==[124,124]) (p+o.length+1+t.length+1)] (h+1) v e h v e:=by
     refine bN.one u.uniq (λy F=>absurd (u.out _ _ F) o_) (λy F=>absurd (u.out _ _ F) o_) λT x c w Q t4=>?_
     refine⟨by rw[x],by rw[x];show h+1<=_;omega,by rw[x];show 1<=h+1;omega,o_,?_,iU,by rw[c,x];rfl,by rw[w,x];exact en _,by rw[Q,x];exact d6 rfl⟩
     have:=t4 (p+o.length+1+t.length+1) ⟨h+1,v,e,false⟩ (d6 ⟨rfl,rfl⟩);exact⟨d6 ⟨_,d6 ⟨rfl,rfl⟩⟩,by rw[this,x],by rw[this,x];exact en _,by rw[this,x];exact d6 rfl⟩
    have s4:bN (fX fs) (fL L (p+o.length+1+t.length+1) ⟨h+1,v,e,false⟩) (p+o.length+1+t.length) [.truth] (h+1) v e (h+1) v e:=by
     refine bN.one u.uniq (λy F=>absurd (u.out _ _ F) o_) (λy F=>?_) λT x c w Q t4=>⟨by rw[x],by rw[x];show h+1<=_;omega,by rw[x];show 1<=h+1;omega,iU,by rw[c,x],by rw[w,x];exact en _,by rw[Q,x];exact d6 rfl⟩
     rcases F with F|⟨_,rfl⟩
     ·exact absurd (z.out _ _ F) o_
     ·exact⟨rfl,rfl,rfl⟩
    have B:∀q y,fL L (p+o.length+1+t.length+1) ⟨h+1,v,e,false⟩ q y->q<=p\/p+o.length+1+t.length+1<=q:=λq y H=>by have:=u.out q y H;omega
    have Z:=s1.then s2 λq y H=>by have:=B q y H;simp only[ep,ew];omega
    have I:=Z.then (c':=t) (by rw[ek];exact s3) λq y H=>by have:=B q y H;simp only[ek,ep,ew];omega
    exact I.then (c':=[.truth]) (by rw[show p+(o++[aH.shortcut (a.op==[124,124]) (p+o.length+1+t.length+1)]++t).length=p+o.length+1+t.length by simp only[ek,ep,ew];omega];exact s4) λq y H=>by have:=B q y H;simp only[ek,ep,ew];omega
def bN.entry{L:Nat->eJ->Prop}{c:List aH}{b:Nat}(s:bN ar L p c h v none h' v' e')(j:v<=b):bN ar L p c h b e h' v' e':=by
 obtain⟨T,f,d,i,a,g⟩:=s;exact⟨T,f,d,o_,d7 (by rcases a with a|a<;>exact a),g⟩
def bN.exit{L:Nat->eJ->Prop}{c:List aH}(s:bN ar L p c h v e h' v' e')(F:a<=v')(b:Bool)(C:∀y,¬L (p+c.length) y):bN ar (fL L (p+c.length) ⟨h',a,none,b⟩) p c h v e h' a none:=by
 obtain⟨T,z,o,r,t,l,w,E,B⟩:=s;refine⟨λq=>if q=p+c.length then ⟨h',a,none,b⟩ else T q,λq y d=>?_,?_,?_,?_,by simp only[if_pos],by simp only[if_pos],by simp only[if_pos],λj i m=>?_⟩
 ·rcases d with d|⟨rfl,rfl⟩
  ·have f:q≠p+c.length:=λe=>C y (by rw[<-e];exact d)
   simp only[if_neg f];exact z q y d
  ·simp only[if_pos]
 ·simp only;split
  ·rename_i g;rw[<-g] at l;simp only;omega
  ·exact o
 ·simp only;split
  ·rename_i g;rw[<-g] at w;simp only;omega
  ·exact r
 ·simp only;split
  ·exact d7 rfl
  ·exact t
 ·have x:j<c.length:=(gu.1 m).1;refine(B j i m).same (by rw[if_neg o_]) (λq d=>?_) (λq d D u=>by rw[if_neg o_];exact u)
  have n:PF (fL L (p+c.length) ⟨h',a,none,b⟩) p (p+c.length) q:=d.imp id λ⟨y,A⟩=>⟨y,d7 A⟩
  refine⟨n,?_⟩;split
  ·rename_i k;rw[k];exact⟨l.symm,by simp only;omega,d7 rfl⟩
  ·exact⟨rfl,cK,d6 rfl⟩
def cZ(e_:cN)(a:aC):cN:=if a.op=[118,97,114] then (a.y_.head?.map (·.x_)).toList++e_ else e_
def StsOk(S:cN->aC->Prop):cN->List aC->Prop
 |_,[]=>True
 |e_,a::l=>S e_ a/\StsOk S (cZ e_ a) l
def dM(fs:List aC):Nat->cN->aC->Prop
 |0,_,_=>False
 |d+1,e_,a=>
  (a.op=[118,97,114]/\e_.length<=40000/\∃t v,a.y_=[t,v]/\ExOk fs false e_ d v/\t.x_∉e_)\/
  (a.op=[115,101,116]/\a.x_∈e_/\a.y_≠[]/\∀k∈a.y_,ExOk fs false e_ d k)\/
  (a.op=[105,102]/\∃c t,(a.y_=[c,t]\/∃x,a.y_=[c,t,x]/\StsOk (dM fs d) e_ x.y_)/\ExOk fs false e_ d c/\StsOk (dM fs d) e_ t.y_)\/
  (a.op=[119,104,105,108,101]/\∃c b,a.y_=[c,b]/\ExOk fs false e_ d c/\StsOk (dM fs d) e_ b.y_)\/
  (a.op=[114,101,116,117,114,110]/\(a.y_=[]\/∃v,a.y_=[v]/\ExOk fs false e_ d v))\/
  (a.op=[112,114,105,110,116]/\∃v,a.y_=[v]/\ExOk fs false e_ d v)\/
  (a.op=[100,111]/\∃c,a.y_=[c]/\ExOk fs false e_ d c)
def UQ(fs:List aC)(d:Nat):Prop:=
 ∀(e_:cN) (a:aC) (L:Nat->eJ->Prop) (p:Nat),dM fs d e_ a->eT L p (p+(aZ fs d e_ a p).1.length)->
  bN (fX fs) L p (aZ fs d e_ a p).1 0 e_.length none 0 (cZ e_ a).length none/\(aZ fs d e_ a p).2=cZ e_ a/\∃r,(aZ fs d e_ a p).1=.begin a.l_ e_::r
def QP(e_:cN)(a:aC):e_.length<=(cZ e_ a).length:=by unfold cZ;split<;>simp
def eE:cN->List aC->cN
 |e_,[]=>e_
 |e_,a::l=>eE (cZ e_ a) l
def mV:∀(l:List aC) (e_:cN),e_.length<=(eE e_ l).length
 |[],_=>en _
 |a::l,e_=>el (QP e_ a) (mV l _)
def nA{fs:List aC}(e:UQ fs d):∀(l:List aC) (e_:cN) (L:Nat->eJ->Prop) (p:Nat),StsOk (dM fs d) e_ l->eT L p (p+(bM (aZ fs d) e_ l p).length)->
 bN (fX fs) L p (bM (aZ fs d) e_ l p) 0 e_.length none 0 (eE e_ l).length none
 |[],e_,L,p,_,b=>bN.nil _ _ _ _ _ _ (λq y c j=>absurd (b.out q y c) (by simp[bM];omega)) b.uniq
 |a::l,e_,L,p,h,b=>by
  simp only[bM,ek] at b ⊢
  obtain⟨g,f,_⟩:=e e_ a L p h.1 (b.sub cK o_)
  rw[f] at b ⊢
  have i:=nA e l (cZ e_ a) L (p+(aZ fs d e_ a p).1.length) h.2 (b.sub o_ o_)
  exact g.then i λq y c=>by have:=b.out q y c;omega
def bN.begins{L:Nat->eJ->Prop}{l:Nat}(g:∀q y z,L q y->L q z->y=z)(h:∀y,L p y->y=⟨0,e_.length,none,true⟩)(f:∀y,¬L (p+1) y):bN ar L p [.begin l e_] 0 e_.length none 0 e_.length (some e_.length):=
 bN.one g h (λy e=>absurd e (f y)) λT a d b c _=>⟨by rw[a],by rw[a];exact ft _,by rw[a];exact en _,iU,by rw[d,a],by rw[b,a];exact en _,by rw[c];exact d6 rfl⟩
def qE(i j:aH)(c:List aH):(i::c++[j]).length=c.length+2:=s_
def bN.stmt{L:Nat->eJ->Prop}{l:Nat}{c:List aH}{i:aH}(a:eT L p (p+(aH.begin l e_::c++[i]).length))
 (j:bN ar L (p+1) c 0 e_.length (some e_.length) n e_.length (some e_.length)) (g:eT L (p+1+c.length) (p+1+c.length+1)->bN ar L (p+1+c.length) [i] n e_.length (some e_.length) 0 v' none):
 bN ar L p (aH.begin l e_::c++[i]) 0 e_.length none 0 v' none:=by
 rw[qE] at a;have f:bN ar L p [.begin l e_] 0 e_.length none 0 e_.length (some e_.length):=bN.begins a.uniq (λy d=>absurd (a.out _ _ d) o_) (λy d=>absurd (a.out _ _ d) o_)
 have e:=f.then (c':=c) j λq y b=>by have:=a.out q y b;simp only[ep,ew];omega
 have h:=e.then (c':=[i]) (by rw[show p+([aH.begin l e_]++c).length=p+1+c.length by simp only[ek,ep,ew];omega];exact g (a.sub o_ o_)) λq y b=>by have:=a.out q y b;simp only[ek,ep,ew];omega
 exact h
def bN.last{L:Nat->eJ->Prop}{i:aH}(a:eT L p (p+1))(g:i.isBegin=false)(h:n<=p)
 (k:∀(D:bX) (T:Nat->eJ),T p=⟨n,v,e,false⟩->D (p+1)->(T (p+1)).h=0->(T (p+1)).v=v'->(T (p+1)).e=none->(T p).h<=p->iJ ar D T p i):bN ar L p [i] n v e 0 v' none:=
 bN.one a.uniq (λy b=>absurd (a.out _ _ b) o_) (λy b=>absurd (a.out _ _ b) o_) λT c j d f _=>k _ T (by rw[c,g]) iU j d f (by rw[c];exact h)
def lK{fs:List aC}{a:aC}{L:Nat->eJ->Prop}(b:ExOk fs false e_ d a)(f:0<p)(c:eT L p (p+(aF fs e_ d a p).length)):
 bN (fX fs) L p (aF fs e_ d a p) 0 e_.length e 1 e_.length e/\1<=(aF fs e_ d a p).length:=nN fs false e_ d a L p 0 e_.length e b cK o_ c
def eT.none{L:Nat->eJ->Prop}(h:eT L lo a)(d:lo<=q)(c:q<=a)(y:eJ):¬L q y:=λb=>by have:=h.out q y b;omega
def bN.ifs{L:Nat->eJ->Prop}{l:Nat}{b e m:List aH}
 (t:eT L p (p+1+b.length+1+e.length+1+m.length))
 (I:∀g,eT g (p+1) (p+1+b.length)->bN ar g (p+1) b 0 e_.length (some e_.length) 1 e_.length (some e_.length))
 (E:∀g,eT g (p+1+b.length+1) (p+1+b.length+1+e.length)->bN ar g (p+1+b.length+1) e 0 e_.length none 0 v1 none) (G:e_.length<=v1)
 (K:∀g,eT g (p+1+b.length+1+e.length+1) (p+1+b.length+1+e.length+1+m.length)->bN ar g (p+1+b.length+1+e.length+1) m 0 e_.length none 0 v2 none) (J:e_.length<=v2):
 bN ar L p (aH.begin l e_::b++[.skip (p+1+b.length+1+e.length+1)]++e++[.jump (p+1+b.length+1+e.length+1+m.length)]++m) 0 e_.length none 0 e_.length none:=by
 generalize F:p+1+b.length+1+e.length+1=q at*;generalize H:q+m.length=r at*;have j:eT (fL L r ⟨0,e_.length,none,false⟩) p (r-1):=fL.ok t o_ cK cK o_ o_
 have k:bN ar (fL L r ⟨0,e_.length,none,false⟩) p (aH.begin l e_::b++[aH.skip q]++e++[aH.jump r]) 0 e_.length none 0 e_.length none:=by
  have h:p+(aH.begin l e_::b++[aH.skip q]++e++[aH.jump r]).length=q:=by simp only[ek,ep,ew];omega
  rcases ic (show q<=r by omega) with s|s
  ·-- there is no else:one label
   subst s;have c:eT (fL L q ⟨0,e_.length,none,false⟩) p (q-1):=j;have A:=bN.begins (ar:=ar) (l:=l) (p:=p) (e_:=e_) c.uniq (λy a=>absurd (c.out _ _ a) o_) (λy a=>absurd (c.out _ _ a) o_)
   have w:=A.then (c':=b) (I _ (c.sub o_ o_)) λx y f=>by have:=c.out x y f;simp only[ep,ew];omega
   have z:p+([aH.begin l e_]++b).length=p+1+b.length:=by simp only[ek,ep,ew];omega
   have B:=w.then (c':=[aH.skip q]) (by
    rw[z];refine bN.one (h':=0) (v':=e_.length) (e':=some e_.length) c.uniq (λy a=>absurd (c.out _ _ a) o_) (λy a=>absurd (c.out _ _ a) o_) λT d u n o i=>?_
    have a:=i q ⟨0,e_.length,none,false⟩ (d6 ⟨rfl,rfl⟩);exact⟨by rw[d],by rw[d];show 1<=_;omega,by rw[d];exact en _,o_,⟨d6 ⟨_,d6 ⟨rfl,rfl⟩⟩,by rw[a,d];rfl,by rw[a,d];exact en _,by rw[a];exact d7 rfl⟩,iU,by rw[u,d];rfl,by rw[n,d];exact en _,by rw[o,d];exact d6 rfl⟩)
    λx y f=>by have:=c.out x y f;simp only[ek,ep,ew];omega
   have C:p+([aH.begin l e_]++b++[aH.skip q]).length=p+1+b.length+1:=by simp only[ek,ep,ew];omega
   have v:=B.then (c':=e) (by rw[C];exact(E _ (c.sub o_ o_)).entry cK) λx y f=>by have:=c.out x y f;simp only[ek,ep,ew];omega
   have D:p+([aH.begin l e_]++b++[aH.skip q]++e).length=p+1+b.length+1+e.length:=by simp only[ek,ep,ew];omega
   exact v.then (c':=[aH.jump q]) (by
    rw[D];refine bN.one c.uniq (λy a=>absurd (c.out _ _ a) o_) (λy a=>?_) λT d u n o i=>?_
    ·rw[show p+1+b.length+1+e.length+1=q from F] at a
     rcases a with a|⟨_,rfl⟩
     ·exact absurd a (t.none o_ o_ y)
     ·exact⟨rfl,rfl,rfl⟩
    ·have a:=i q ⟨0,e_.length,none,false⟩ (d6 ⟨rfl,rfl⟩);exact⟨by rw[d],by rw[d];exact ft _,d7 o_,d6 ⟨_,d6 ⟨rfl,rfl⟩⟩,by rw[a,d],by rw[a,d];exact G,by rw[a];exact d7 rfl⟩)
    λx y f=>by have:=c.out x y f;simp only[ek,ep,ew];omega
  ·refine bN.close (q:=q) (y:=⟨0,e_.length,none,false⟩) ?_ o_ o_
   have c:eT (fL (fL L r ⟨0,e_.length,none,false⟩) q ⟨0,e_.length,none,false⟩) p (q-1):=fL.ok j o_ o_ cK o_ o_
   have A:=bN.begins (ar:=ar) (l:=l) (p:=p) (e_:=e_) c.uniq (λy a=>absurd (c.out _ _ a) o_) (λy a=>absurd (c.out _ _ a) o_)
   have w:=A.then (c':=b) (I _ (c.sub o_ o_)) λx y f=>by have:=c.out x y f;simp only[ep,ew];omega
   have z:p+([aH.begin l e_]++b).length=p+1+b.length:=by simp only[ek,ep,ew];omega
   have B:=w.then (c':=[aH.skip q]) (by
    rw[z];refine bN.one (h':=0) (v':=e_.length) (e':=some e_.length) c.uniq (λy a=>absurd (c.out _ _ a) o_) (λy a=>absurd (c.out _ _ a) o_) λT d u n o i=>?_
    have a:=i q ⟨0,e_.length,none,false⟩ (d6 ⟨rfl,rfl⟩);exact⟨by rw[d],by rw[d];show 1<=_;omega,by rw[d];exact en _,o_,⟨d6 ⟨_,d6 ⟨rfl,rfl⟩⟩,by rw[a,d];rfl,by rw[a,d];exact en _,by rw[a];exact d7 rfl⟩,iU,by rw[u,d];rfl,by rw[n,d];exact en _,by rw[o,d];exact d6 rfl⟩)
    λx y f=>by have:=c.out x y f;simp only[ek,ep,ew];omega
   have C:p+([aH.begin l e_]++b++[aH.skip q]).length=p+1+b.length+1:=by simp only[ek,ep,ew];omega
   have v:=B.then (c':=e) (by rw[C];exact(E _ (c.sub o_ o_)).entry cK) λx y f=>by have:=c.out x y f;simp only[ek,ep,ew];omega
   have D:p+([aH.begin l e_]++b++[aH.skip q]++e).length=p+1+b.length+1+e.length:=by simp only[ek,ep,ew];omega
   exact v.then (c':=[aH.jump r]) (by
    rw[D];refine bN.one c.uniq (λy a=>absurd (c.out _ _ a) o_) (λy a=>?_) λT d u n o i=>?_
    ·rw[show p+1+b.length+1+e.length+1=q from F] at a
     rcases a with (a|⟨a,_⟩)|⟨_,rfl⟩
     ·exact absurd a (t.none o_ o_ y)
     ·omega
     ·exact⟨rfl,rfl,rfl⟩
    ·have a:=i r ⟨0,e_.length,none,false⟩ (d7 (d6 ⟨rfl,rfl⟩));exact⟨by rw[d],by rw[d];exact ft _,d7 o_,d6 ⟨_,d7 (d6 ⟨rfl,rfl⟩)⟩,by rw[a,d],by rw[a,d];exact G,by rw[a];exact d7 rfl⟩)
    λx y f=>by have:=c.out x y f;simp only[ek,ep,ew];omega
 have h:p+(aH.begin l e_::b++[aH.skip q]++e++[aH.jump r]).length=q:=by simp only[ek,ep,ew];omega
 refine bN.close (q:=r) (y:=⟨0,e_.length,none,false⟩) ?_ o_ (by rw[ek];omega)
 refine k.then (c':=m) ?_ λx y f=>by have:=j.out x y f;omega
 rw[h];have:=(K L (t.sub o_ o_)).exit J false (by rw[H];exact t.none o_ cK)
 rw[H] at this;exact this
def bN.whiles{L:Nat->eJ->Prop}{l:Nat}{b cb:List aH}
 (i:eT L p (p+1+b.length+1+cb.length+1))
 (C:∀f,eT f (p+1) (p+1+b.length)->bN ar f (p+1) b 0 e_.length (some e_.length) 1 e_.length (some e_.length))
 (r:∀f,eT f (p+1+b.length+1) (p+1+b.length+1+cb.length)->bN ar f (p+1+b.length+1) cb 0 e_.length none 0 v1 none) (u:e_.length<=v1):
 bN ar L p (aH.begin l e_::b++[.skip (p+1+b.length+1+cb.length+1)]++cb++[aH.jump p]) 0 e_.length none 0 e_.length none:=by
 generalize s:p+1+b.length+1+cb.length+1=q at*;have m:p+(aH.begin l e_::b++[aH.skip q]++cb++[aH.jump p]).length=q:=by simp only[ek,ep,ew];omega
 refine bN.close (q:=p) (y:=⟨0,e_.length,none,true⟩) (bN.close (q:=q) (y:=⟨0,e_.length,none,false⟩) ?_ o_ o_) o_ o_
 have h:eT (fL L p ⟨0,e_.length,none,true⟩) (p+1) q:=fL.ok i cK o_ o_ cK o_
 have d:eT (fL (fL L p ⟨0,e_.length,none,true⟩) q ⟨0,e_.length,none,false⟩) (p+1) (q-1):=fL.ok h o_ cK cK o_ o_
 have w:=bN.begins (ar:=ar) (l:=l) (p:=p) (e_:=e_) d.uniq (λy a=>by
  rcases a with (a|⟨_,rfl⟩)|⟨a,_⟩
  ·exact absurd a (i.none o_ o_ y)
  ·rfl
  ·omega) (λy a=>absurd (d.out _ _ a) o_)
 have t:=w.then (c':=b) (C _ (d.sub o_ o_)) λx y e=>by have:=d.out x y e;simp only[ep,ew];omega
 have v:p+([aH.begin l e_]++b).length=p+1+b.length:=by simp only[ek,ep,ew];omega
 have z:=t.then (c':=[aH.skip q]) (by
  rw[v];refine bN.one (h':=0) (v':=e_.length) (e':=some e_.length) d.uniq (λy a=>absurd (d.out _ _ a) o_) (λy a=>absurd (d.out _ _ a) o_) λT c n j k g=>?_
  have a:=g q ⟨0,e_.length,none,false⟩ (d6 ⟨rfl,rfl⟩);exact⟨by rw[c],by rw[c];show 1<=_;omega,by rw[c];exact en _,o_,⟨d6 ⟨_,d6 ⟨rfl,rfl⟩⟩,by rw[a,c];rfl,by rw[a,c];exact en _,by rw[a];exact d7 rfl⟩,iU,by rw[n,c];rfl,by rw[j,c];exact en _,by rw[k,c];exact d6 rfl⟩)
  λx y e=>by have:=d.out x y e;simp only[ek,ep,ew];omega
 have A:p+([aH.begin l e_]++b++[aH.skip q]).length=p+1+b.length+1:=by simp only[ek,ep,ew];omega
 have o:=z.then (c':=cb) (by rw[A];exact(r _ (d.sub o_ o_)).entry cK) λx y e=>by have:=d.out x y e;simp only[ek,ep,ew];omega
 have B:p+([aH.begin l e_]++b++[aH.skip q]++cb).length=p+1+b.length+1+cb.length:=by simp only[ek,ep,ew];omega
 exact o.then (c':=[aH.jump p]) (by
  rw[B];refine bN.one d.uniq (λy a=>absurd (d.out _ _ a) o_) (λy a=>?_) λT c n j k g=>?_
  ·rw[show p+1+b.length+1+cb.length+1=q from s] at a
   rcases a with (a|⟨a,_⟩)|⟨_,rfl⟩
   ·exact absurd a (i.none o_ o_ y)
   ·omega
   ·exact⟨rfl,rfl,rfl⟩
  ·have a:=g p ⟨0,e_.length,none,true⟩ (d7 (d6 ⟨rfl,rfl⟩));exact⟨by rw[c],by rw[c];exact ft _,d6 (by rw[a]),d6 ⟨_,d7 (d6 ⟨rfl,rfl⟩)⟩,by rw[a,c],by rw[a,c];exact u,by rw[a];exact d7 rfl⟩)
  λx y e=>by have:=d.out x y e;simp only[ek,ep,ew];omega
def mK(fs:List aC):∀d,UQ fs d
 |0,_,_,_,_,h,_=>h.elim
 |d+1,g,a,L,p,Y,i=>by
  have M:=mK fs d;rcases Y with ⟨k,S,t,v,l,F,_⟩|⟨k,O,J,l⟩|⟨k,c,t,l,Q,V⟩|⟨k,c,b,l,Q,S⟩|⟨k,l|⟨v,l,F⟩⟩|⟨k,v,l,F⟩|⟨k,v,l,F⟩
  ·have o:aZ fs (d+1) g a p=(aH.begin a.l_ g::aF fs g d v (p+1)++[aH.declare g.length],t.x_::g):=by rw[aZ];simp[k,l]
   have r:cZ g a=t.x_::g:=by unfold cZ;rw[if_pos k,l];rfl
   rw[o] at i ⊢
   rw[r];simp only at i ⊢
   obtain⟨B,I⟩:=lK (L:=L) (p:=p+1) (e:=some g.length) F o_ (i.sub o_ (by rw[qE];omega))
   refine⟨bN.stmt i B λw=>bN.last w rfl o_ λD T m E u A C z=>⟨by rw[m];rfl,z,?_⟩,trivial,_,rfl⟩
   rw[m];exact⟨en _,cK,o_,rfl,E,u,by rw[A];exact en _,d7 C⟩
  ·have o:aZ fs (d+1) g a p=(aH.begin a.l_ g::bV (aF fs g d) a.y_ (p+1)++[aH.assign (dW g a.x_) (a.y_.length-1)],g):=by rw[aZ];simp[k]
   have r:cZ g a=g:=by unfold cZ;rw[if_neg (by rw[k];decide)]
   rw[o] at i ⊢
   rw[r];simp only at i ⊢
   obtain⟨B,I⟩:=rV (nN fs false g d) a.y_ L (p+1) 0 g.length (some g.length) l cK o_ (i.sub o_ (by rw[qE];omega))
   rw[gb] at B;have U:0<a.y_.length:=gy.2 J;refine⟨bN.stmt i B λw=>bN.last w rfl o_ λD T m E u A C z=>⟨by rw[m];rfl,z,?_⟩,trivial,_,rfl⟩
   rw[m];refine⟨?_,rT O,E,?_,by rw[A];exact en _,d7 C⟩
   ·show a.y_.length-1+1<=a.y_.length;omega
   ·rw[u];show 0=a.y_.length-(a.y_.length-1+1);omega
  ·have r:cZ g a=g:=by unfold cZ;rw[if_neg (by rw[k];decide)]
   rw[r]
   obtain⟨H,o,P⟩:∃H,aZ fs (d+1) g a p=(aH.begin a.l_ g::aF fs g d c (p+1)++[aH.skip (p+1+(aF fs g d c (p+1)).length+1+(bM (aZ fs d) g t.y_ (p+1+(aF fs g d c (p+1)).length+1)).length+1)]++bM (aZ fs d) g t.y_ (p+1+(aF fs g d c (p+1)).length+1)++
    [aH.jump (p+1+(aF fs g d c (p+1)).length+1+(bM (aZ fs d) g t.y_ (p+1+(aF fs g d c (p+1)).length+1)).length+1+H.length)]++H,g)/\
    ∃G,g.length<=G/\∀s,eT s (p+1+(aF fs g d c (p+1)).length+1+(bM (aZ fs d) g t.y_ (p+1+(aF fs g d c (p+1)).length+1)).length+1) (p+1+(aF fs g d c (p+1)).length+1+(bM (aZ fs d) g t.y_ (p+1+(aF fs g d c (p+1)).length+1)).length+1+H.length)->bN (fX fs) s (p+1+(aF fs g d c (p+1)).length+1+(bM (aZ fs d) g t.y_ (p+1+(aF fs g d c (p+1)).length+1)).length+1) H 0 g.length none 0 G none:=by
    rcases l with l|⟨x,l,O⟩
    ·refine⟨[],by rw[aZ];simp[k,l],g.length,cK,λs j=>bN.nil _ _ _ _ _ _ (λq y W Z=>absurd (j.out q y W) t_) j.uniq⟩
    ·exact⟨_,by rw[aZ];simp[k,l],_,mV x.y_ g,λs j=>nA M x.y_ g s _ O j⟩
   obtain⟨G,K,P⟩:=P;rw[o] at i ⊢
   simp only at i ⊢
   refine⟨bN.ifs (v1:=(eE g t.y_).length) (v2:=G) ?_ (λs j=>(lK Q o_ j).1) (λs j=>nA M t.y_ g s _ V j) (mV _ _) P K,trivial,_,rfl⟩
   refine i.sub cK ?_;simp only[ek,ep,ew];omega
  ·have o:aZ fs (d+1) g a p=(aH.begin a.l_ g::aF fs g d c (p+1)++[aH.skip (p+1+(aF fs g d c (p+1)).length+1+(bM (aZ fs d) g b.y_ (p+1+(aF fs g d c (p+1)).length+1)).length+1)]++bM (aZ fs d) g b.y_ (p+1+(aF fs g d c (p+1)).length+1)++[aH.jump p],g):=by rw[aZ];simp[k,l]
   have r:cZ g a=g:=by unfold cZ;rw[if_neg (by rw[k];decide)]
   rw[o] at i ⊢
   rw[r];simp only at i ⊢
   refine⟨bN.whiles (v1:=(eE g b.y_).length) ?_ (λs j=>(lK Q o_ j).1) (λs j=>nA M b.y_ g s _ S j) (mV _ _),trivial,_,rfl⟩
   refine i.sub cK ?_;simp only[ek,ep,ew];omega
  ·have o:aZ fs (d+1) g a p=(aH.begin a.l_ g::[aH.push (bH 0)]++[aH.give],g):=by rw[aZ];simp[k,l]
   have r:cZ g a=g:=by unfold cZ;rw[if_neg (by rw[k];decide)]
   rw[o] at i ⊢
   rw[r];simp only at i ⊢
   have N:eT L (p+1) (p+2):=i.sub o_ (by rw[qE];simp)
   refine⟨bN.stmt (n:=1) i (bN.plain N rfl o_ λD T u A f b X=>⟨b,X,by rw[u];exact f⟩) λw=>bN.last w rfl o_ λD T m E u A C z=>⟨by rw[m];rfl,z,by rw[m];exact en _⟩,trivial,_,rfl⟩
  ·have o:aZ fs (d+1) g a p=(aH.begin a.l_ g::aF fs g d v (p+1)++[aH.give],g):=by rw[aZ];simp[k,l]
   have r:cZ g a=g:=by unfold cZ;rw[if_neg (by rw[k];decide)]
   rw[o] at i ⊢
   rw[r];simp only at i ⊢
   obtain⟨B,I⟩:=lK (L:=L) (p:=p+1) (e:=some g.length) F o_ (i.sub o_ (by rw[qE];omega))
   exact⟨bN.stmt i B λw=>bN.last w rfl o_ λD T m E u A C z=>⟨by rw[m];rfl,z,by rw[m];exact en _⟩,trivial,_,rfl⟩
  ·have o:aZ fs (d+1) g a p=(aH.begin a.l_ g::aF fs g d v (p+1)++[aH.print],g):=by rw[aZ];simp[k,l]
   have r:cZ g a=g:=by unfold cZ;rw[if_neg (by rw[k];decide)]
   rw[o] at i ⊢
   rw[r];simp only at i ⊢
   obtain⟨B,I⟩:=lK (L:=L) (p:=p+1) (e:=some g.length) F o_ (i.sub o_ (by rw[qE];omega))
   refine⟨bN.stmt i B λw=>bN.last w rfl o_ λD T m E u A C z=>⟨by rw[m];rfl,z,?_⟩,trivial,_,rfl⟩
   rw[m];exact⟨en _,E,u,by rw[A];exact en _,d7 C⟩
  ·have o:aZ fs (d+1) g a p=(aH.begin a.l_ g::aF fs g d v (p+1)++[aH.drop],g):=by rw[aZ];simp[k,l]
   have r:cZ g a=g:=by unfold cZ;rw[if_neg (by rw[k];decide)]
   rw[o] at i ⊢
   rw[r];simp only at i ⊢
   obtain⟨B,I⟩:=lK (L:=L) (p:=p+1) (e:=some g.length) F o_ (i.sub o_ (by rw[qE];omega))
   refine⟨bN.stmt i B λw=>bN.last w rfl o_ λD T m E u A C z=>⟨by rw[m];rfl,z,?_⟩,trivial,_,rfl⟩
   rw[m];exact⟨en _,E,u,by rw[A];exact en _,d7 C⟩
structure jF(fs:List aC)(d:Nat)(f:aC):Prop where
 y_:∃ps b,f.y_=ps++[b]/\StsOk (dM fs d) (ps.map (·.x_)).reverse b.y_/\(ps.map (·.x_)).Nodup
 len:(fN fs d f).code.length<=80000
def N8{fs:List aC}{f:aC}(h:jF fs d f):∃T,pX (fX fs) (fN fs d f).code T/\(T 0).h=0/\(T 0).v<=f.y_.length-1/\(T 0).e=none/\iY (fN fs d f).code:=by
 obtain⟨⟨z,b,D,p,_⟩,I⟩:=h;have g:(fN fs d f).code=bM (aZ fs d) (z.map (·.x_)).reverse b.y_ 0++[.push (bH 0),.give]:=by simp[fN,D]
 have N:f.y_.length-1=(z.map (·.x_)).reverse.length:=by simp[D]
 rw[N];generalize B:(z.map (·.x_)).reverse=e at*
 have M:=nA (mK fs d) b.y_ e (λ_ _=>False) 0 p ⟨λ_ _ _ h=>h.elim,λ_ _ h=>h.elim⟩
 have x:iY (fN fs d f).code:=by
  rw[g];cases A:b.y_ with
  |nil=>exact d6 ⟨_,rfl⟩
  |cons a l=>
   rw[A] at p;obtain⟨r,K⟩:=(mK fs d e a (λ_ _=>False) 0 p.1 ⟨λ_ _ _ h=>h.elim,λ_ _ h=>h.elim⟩).2.2
   exact d7 ⟨a.l_,e,r++bM (aZ fs d) (aZ fs d e a 0).2 l (0+(aZ fs d e a 0).1.length)++[.push (bH 0),.give],by rw[bM,K];simp⟩
 generalize Q:bM (aZ fs d) e b.y_ 0=c at*;obtain⟨T,P,F,C,t,E,H,G,L⟩:=M;rw[gb] at E H G;have s:(fN fs d f).code.length=c.length+2:=by rw[g];simp
 let U:Nat->eJ:=λq=>if q=c.length then ⟨0,(T q).v,none,false⟩ else if q=c.length+1 then ⟨1,(T c.length).v,none,false⟩ else T q
 have u0:U c.length=⟨0,(T c.length).v,none,false⟩:=by simp[U]
 have u1:U (c.length+1)=⟨1,(T c.length).v,none,false⟩:=by simp[U]
 have u2:∀q,q<c.length->U q=T q:=λq u=>by simp[U];rw[if_neg o_,if_neg o_]
 have v:(T 0).e=none:=by rcases t with t|t<;>exact t
 have o:(U 0).h=0/\(U 0).v<=e.length/\(U 0).e=none:=by
  rcases jb c.length with w|w
  ·rw[w] at u0;rw[u0];exact⟨rfl,C,rfl⟩
  ·rw[u2 0 w];exact⟨F,C,v⟩
 refine⟨U,⟨λj i m=>?_,I⟩,o.1,o.2.1,o.2.2,x⟩
 rw[s];rw[g] at m;rcases fq j c.length with n|n
 ·rw[hP n] at m;have:=L j i m;simp only[gb] at this;refine this.same (T':=U) (u2 j n) (λq u=>?_) (λq u O p=>by rw[u2 q o_];exact p)
  rcases u with u|⟨y,J⟩
  ·refine⟨o_,?_⟩
   rcases fq q c.length with h|h
   ·rw[u2 q h];exact⟨rfl,cK,d6 rfl⟩
   ·obtain rfl:q=c.length:=o_
    rw[u0];exact⟨E.symm,cK,d7 rfl⟩
  ·exact J.elim
 ·rw[gj n] at m;obtain⟨k,rfl⟩:∃k,j=c.length+k:=⟨j-c.length,o_⟩
  rw[jc] at m;match k,m with
  |0,m=>
   simp at m;subst m;show iJ _ _ U c.length _
   exact⟨by rw[u0];rfl,by rw[u0];exact ft _,o_,by rw[u1,u0],by rw[u1,u0];exact en _,by rw[u1];exact d7 rfl⟩
  |1,m=>
   simp at m;subst m;exact⟨by rw[u1];rfl,by rw[u1];show 1<=_;omega,by rw[u1];exact en _⟩
  |k+2,m=>simp at m
def mI{fs:List aC}(h:∀f∈fs,jF fs d f):kT (fX fs) (dC fs d):=by
 refine⟨λk n a=>?_⟩
 unfold fX at a;cases b:fs[k]? with
 |none=>rw[b] at a;cases a
 |some f=>
  rw[b] at a;simp at a;subst a;obtain⟨T,g,c,j,e,i⟩:=N8 (h f (gv b));exact⟨fN fs d f,T,by simp[dC,b],g,c,j,e,i⟩
def vG{fs:List aC}(h:∀f∈fs,jF fs d f)(o:fX fs (dG fs [109,97,105,110])=some 0)(a:List Int):fW (fX fs) (gB fs d a):=by
 obtain⟨f,T,k,i,n,j,m,c⟩:=(mI h).fn _ _ o;have e:gB fs d a=⟨[]++[⟨f,0,0,[],[],[]⟩],a,[]⟩:=by unfold gB;rw[k];rfl
 rw[e];refine⟨oK.snoc (λg b=>by cases b) ⟨⟨T,i,n,j,d7 m⟩,?_,s_,s_⟩ s_,λg b=>by simp at b;rw[b];exact c⟩
 rcases c with ⟨l,s,r,e⟩|⟨v,e⟩<;>simp[e]
end Go.Proofs.YtddnpoiiimjpcaaGreatDoor.Hs
