/- Plain functions on lists of bytes: lines, characters, blanks, tokens of a source. No Go, no program. -/
import Derived.Test.YthbffcmfmjpncaaGreatDoorA0c
set_option linter.defProp false
set_option maxRecDepth 100000
namespace Go.Proofs.YthbffcmfmjpncaaGreatDoor
theorem o_{p:Prop}(h:p:=by omega):p:=h
theorem s_{p:Prop}(h:p:=by simp):p:=h
theorem t_{p:Prop}(h:p:=by simp;omega):p:=h
theorem d_{p:Prop}(h:p:=by decide):p:=h
theorem k_{p:Prop}(h:p:=by kernel_rfl):p:=h
theorem r_{p:Prop}(h:p:=by rfl):p:=h
theorem E_{a:Type}(x:a):∃y,y=x:=⟨x,rfl⟩
end Go.Proofs.YthbffcmfmjpncaaGreatDoor
namespace Go.Proofs.YthbffcmfmjpncaaGreatDoor.Hs
variable{o e_:List (List UInt8)}{t:List Int}{l x:List UInt8}{N a d h h' k m n p p0 q v v' v1 v2:Nat}{ar:Nat->Option Nat}{e e':Option Nat}{b c α:Type}
def aU(l:List UInt8):Nat:=1+l.count 10
def jN(a b:List UInt8):aU (a++b)=aU a+b.count 10:=by
 unfold aU;rw[List.count_append];omega
def RT(a:List UInt8):a.count 10<=a.length:=List.count_le_length
def pB(a:List UInt8):aU a<=a.length+1:=by have:=RT a;unfold aU;omega
def DK(a:List UInt8)(c:UInt8):aU (a++[c])=aU a+if c=10 then 1 else 0:=by
 rw[jN];by_cases h:c=10<;>simp[h]
def dF(l:List UInt8)(i lo hi:Nat):Bool:=
 match l[i]? with
 |some b=>decide (lo<=b.toNat) && decide (b.toNat<=hi)
 |none=>false
def bC(l:List UInt8):Nat:=
 match l[0]? with
 |none=>0
 |some b=>
  if b.toNat<128 then 1
  else if 194<=b.toNat/\b.toNat<=223 then if dF l 1 128 191 then 2 else 0
  else if 224<=b.toNat/\b.toNat<=239 then
   if dF l 1 (if b.toNat=224 then 160 else 128) (if b.toNat=237 then 159 else 191) && dF l 2 128 191 then 3 else 0
  else if 240<=b.toNat/\b.toNat<=244 then
   if dF l 1 (if b.toNat=240 then 144 else 128) (if b.toNat=244 then 143 else 191) && dF l 2 128 191 && dF l 3 128 191 then 4 else 0
  else 0
def dE:Nat->List UInt8->Nat->Option Nat
 |0,_,_=>none
 |f+1,l,p=>
  if l.length=0 then none
  else if bC l=0 then some p
  else dE f (l.drop (bC l)) (p+bC l)
def cB(c:UInt8):Bool:=decide (48<=c.toNat) && decide (c.toNat<=57)
def eC(c:UInt8):Bool:=
 c.toNat==95 || (decide (97<=c.toNat) && decide (c.toNat<=122) || decide (65<=c.toNat) && decide (c.toNat<=90))
def cN(l what:List UInt8):Bool:=what.isPrefixOf l
def bF(p:UInt8->Bool):List UInt8->Nat
 |[]=>0
 |c::r=>if p c then bF p r+1 else 0
def kO(p:UInt8->Bool)(l:List UInt8):bF p l<=l.length:=by
 induction l with
 |nil=>simp[bF]
 |cons c r a=>simp only[bF];split<;>simp<;>omega
def eH(b:UInt8):Bool:=b.toNat != 10
def blankL:Nat->List UInt8->Nat
 |0,_=>0
 |f+1,l=>
  match l with
  |[]=>0
  |c::r=>
   if c.toNat=32\/c.toNat=9\/c.toNat=10 then blankL f r+1
   else if cN (c::r) [47,47] then
    bF eH (c::r)+blankL f ((c::r).drop (bF eH (c::r)))
   else 0
def iE:Nat:=9223372036854775807
def cD:Nat->List UInt8->Option Nat
 |n,[]=>some n
 |n,c::r=>if (iE-(c.toNat-48))/10<n then none else cD (10*n+(c.toNat-48)) r
def gN:List (List UInt8):=[[102,117,110,99],[118,97,114],[105,102],[101,108,115,101],[119,104,105,108,101],[114,101,116,117,114,110],[112,114,105,110,116],[116,114,117,101],[102,97,108,115,101]]
def cA:List (List UInt8):=[[61,61],[33,61],[60,61],[38,38],[124,124],[40],[41],[123],[125],[91],[93],[44],[59],[61],[60],[43],[45],[42],[47],[37],[33]]
def dU(name:Bool)(b:UInt8):Bool:=cB b || name && eC b
def fB(b:UInt8):Bool:=b.toNat != 34 && b.toNat != 10
structure aP where
 sort:Nat
 x_:List UInt8
 l_:Nat
structure pI where
 sort:Nat
 x_:List UInt8
 size:Nat
 ok:Bool
def gD(l:List UInt8)(name:Bool):pI:=
 if name then { sort:=if gN.contains (l.take (bF (dU name) l)) then 107 else 110,x_:=l.take (bF (dU name) l),size:=bF (dU name) l,ok:=decide (bF (dU name) l<=16) }
 else { sort:=48,x_:=l.take (bF (dU name) l),size:=bF (dU name) l,ok:=(cD 0 (l.take (bF (dU name) l))).isSome }
def nL(r:List UInt8):pI:=
 { sort:=115,x_:=r.take (bF fB r),size:=bF fB r+2,ok:=decide (r[bF fB r]?=some 34) && decide (bF fB r<=100) }
def gM(l:List UInt8):pI:=
 match cA.find? (λo=>cN l o) with
 |some o=>{ sort:=112,x_:=o,size:=o.length,ok:=true }
 |none=>{ sort:=0,x_:=[],size:=0,ok:=false }
def bJ:List UInt8->pI
 |[]=>{ sort:=0,x_:=[],size:=0,ok:=false }
 |c::r=>if cB c || eC c then gD (c::r) (eC c) else if c.toNat=34 then nL r else gM (c::r)
def cU:Nat->List UInt8->List UInt8->Except Nat (List aP)
 |0,_,_=>.error 0
 |f+1,pre,l=>
  if l.length=0 then .ok [{ sort:=101,x_:=[],l_:=aU pre }]
  else if (bJ l).ok then
   match cU f (pre++l.take ((bJ l).size+blankL l.length (l.drop (bJ l).size))) (l.drop ((bJ l).size+blankL l.length (l.drop (bJ l).size))) with
   |.ok ts=>.ok ({ sort:=(bJ l).sort,x_:=(bJ l).x_,l_:=aU pre }::ts)
   |.error n=>.error n
  else .error (aU pre)
def fJ(l:List UInt8):Except Nat (List aP):=
 cU (l.length+1) (l.take (blankL l.length l)) (l.drop (blankL l.length l))
def kZ{w:List UInt8}(h:cN l w=true):w.length<=l.length:=(jg.1 h).length_le
def gH(f:Nat)(c:UInt8)(r:List UInt8):blankL (f+1) (c::r)=
 if c.toNat=32\/c.toNat=9\/c.toNat=10 then blankL f r+1
  else if cN (c::r) [47,47] then bF eH (c::r)+blankL f ((c::r).drop (bF eH (c::r)))
  else 0:=by
 rw[blankL]
def CL(c:UInt8)(r:List UInt8)(h:cN (c::r) [47,47]=true):1<=bF eH (c::r):=by
 have b:c=47:=by
  have:=jg.1 h;obtain⟨t,a⟩:=this;simp only[fh,List.cons.injEq] at a;exact a.1.symm
 subst b;rw[bF,if_pos d_];omega
def vP(f:Nat):∀l:List UInt8,blankL f l<=l.length:=by
 induction f with
 |zero=>intro l;simp[blankL]
 |succ f a=>
  intro l;cases l with
  |nil=>simp[blankL]
  |cons c r=>
   rw[gH];split
   ·have:=a r;simp;omega
   ·split
    ·have b:=a ((c::r).drop (bF eH (c::r)));have d:=kO eH (c::r);rw[gj] at b;omega
    ·omega
def EP(f:Nat):∀(g:Nat) (l:List UInt8),l.length<=f->l.length<=g->blankL f l=blankL g l:=by
 induction f with
 |zero=>
  intro g l h _;obtain rfl:l=[]:=ge o_
  cases g<;>rfl
 |succ f b=>
  intro g l e d;cases l with
  |nil=>cases g<;>rfl
  |cons c r=>
   cases g with
   |zero=>simp at d
   |succ g=>
    rw[gH,gH];simp only[ek] at e d;rw[b g r o_ o_]
    by_cases a:cN (c::r) [47,47]=true
    ·have i:=CL c r a;rw[b g ((c::r).drop (bF eH (c::r))) (by rw[gj,ek];omega) (by rw[gj,ek];omega)]
    ·simp only[a];rfl
def sL(l:List UInt8)(b:Bool):(gD l b).size=bF (dU b) l:=by
 unfold gD;split<;>rfl
def uJ(l:List UInt8)(h:(bJ l).ok=true):1<=(bJ l).size/\(bJ l).size<=l.length:=by
 cases l with
 |nil=>simp[bJ] at h
 |cons c r=>
  rw[bJ] at h ⊢
  split
  ·rename_i b;rw[sL];refine⟨?_,kO _ _⟩
   rw[bF,if_pos (by
    revert b;unfold dU
    cases cB c<;>cases eC c<;>simp)]
   omega
  ·rename_i b;rw[if_neg b] at h;split
   ·rename_i a;rw[if_pos a] at h;have d:(decide (r[bF fB r]?=some 34) && decide (bF fB r<=100))=true:=h;rw[fq,decide_eq_true_eq] at d
    have f:bF fB r<r.length:=by
     by_cases j:bF fB r<r.length
     ·exact j
     ·rw[gg o_] at d;exact absurd d.1 s_
    show 1<=bF fB r+2/\bF fB r+2<=(c::r).length
    rw[ek];omega
   ·rename_i a;rw[if_neg a] at h;unfold gM at h ⊢
    cases e:cA.find? (λo=>cN (c::r) o) with
    |none=>rw[e] at h;simp at h
    |some o=>
     have i:=List.find?_some e;have g:=im e;refine⟨?_,kZ i⟩;have:∀o∈cA,1<=o.length:=d_
     exact this o g
def cH(ts:List aP):Except Nat (List aP)->Except Nat (List aP)
 |.ok l=>.ok (ts++l)
 |.error n=>.error n
def qU(x:Except Nat (List aP)):cH [] x=x:=by cases x<;>rfl
def AA(ts:List aP)(t:aP)(x:Except Nat (List aP)):cH (ts++[t]) x=cH ts (cH [t] x):=by cases x<;>simp[cH]
def kW(f:Nat)(a l:List UInt8)(h:l.length=0):cU (f+1) a l=.ok [{ sort:=101,x_:=[],l_:=aU a }]:=by
 rw[cU,if_pos h]
def kX(f:Nat)(a l:List UInt8)(h:¬l.length=0)(b:(bJ l).ok=false):cU (f+1) a l=.error (aU a):=by
 rw[cU,if_neg h,if_neg (by rw[b];simp)]
def gV(f:Nat)(a l:List UInt8)(h:¬l.length=0)(c:(bJ l).ok=true)(m:Nat)(b:m=(bJ l).size+blankL l.length (l.drop (bJ l).size)):
 cU (f+1) a l=cH [{ sort:=(bJ l).sort,x_:=(bJ l).x_,l_:=aU a }] (cU f (a++l.take m) (l.drop m)):=by
 rw[cU,if_neg h,if_pos c,<-b];cases cU f (a++l.take m) (l.drop m)<;>rfl
structure aC where
 op:List UInt8
 l_:Nat
 x_:List UInt8
 y_:List aC
def aN(ts:List aP)(p:Nat):aP:=ts[p]?.getD { sort:=101,x_:=[],l_:=0 }
def aV(ts:List aP)(p:Nat)(x:List UInt8):Bool:=((aN ts p).sort==112 || (aN ts p).sort==107) && (aN ts p).x_==x
abbrev bQ(α:Type):=Except Nat (α × Nat)
def bad(ts:List aP)(p:Nat):bQ α:=.error (aN ts p).l_
def bW(x:List UInt8):Nat:=
 if x==[124,124] then 0
 else if x==[38,38] then 1
 else if x==[61,61] || (x==[33,61] || (x==[60] || x==[60,61])) then 2
 else if x==[43] || x==[45] then 3
 else if x==[42] || (x==[47] || x==[37]) then 4
 else 9
def dI(E:Nat->bQ aC)(ts:List aP):Nat->Nat->List aC->bQ (List aC)
 |0,_,_=>.error 0
 |g+1,p,acc=>
  match E p with
  |.error l=>.error l
  |.ok (a,q)=>if aV ts q [44] then dI E ts g (q+1) (acc++[a]) else .ok (acc++[a],q)
def iG(E:Nat->bQ aC)(ts:List aP)(p:Nat)(shut:List UInt8):bQ (List aC):=
 if aV ts p shut then .ok ([],p) else dI E ts (ts.length+1) p []
def aL(ts:List aP)(x:List UInt8):bQ α->bQ α
 |.error l=>.error l
 |.ok (a,q)=>if aV ts q x then .ok (a,q+1) else bad ts q
def eM(E:Nat->bQ aC)(ts:List aP)(p:Nat)(opens shut:List UInt8):bQ (List aC):=
 if aV ts p opens then aL ts shut (iG E ts (p+1) shut) else bad ts p
def bV{β:Type}(f:α->β):bQ α->bQ β
 |.error l=>.error l
 |.ok (a,q)=>.ok (f a,q)
def bO{β:Type}(x:bQ α)(f:α->Nat->bQ β):bQ β:=
 match x with
 |.error l=>.error l
 |.ok (a,q)=>f a q
def aR(op:List UInt8)(l_:Nat)(x_:List UInt8)(y_:List aC):aC:={ op:=op,l_:=l_,x_:=x_,y_:=y_ }
def dX(E:Nat->bQ aC)(ts:List aP)(p:Nat):bQ aC:=
 if (aN ts p).sort==48 || (aN ts p).sort==115 then .ok (aR [UInt8.ofNat (aN ts p).sort] (aN ts p).l_ (aN ts p).x_ [],p+1)
 else if aV ts p [116,114,117,101] || aV ts p [102,97,108,115,101] then .ok (aR [98,111,111,108] (aN ts p).l_ (aN ts p).x_ [],p+1)
 else if aV ts p [40] then aL ts [41] (E (p+1))
 else if aV ts p [91] then bV (aR [108,105,115,116] (aN ts p).l_ (aN ts p).x_) (eM E ts p [91] [93])
 else if (aN ts p).sort==110 then
  if aV ts (p+1) [40] then bV (aR [99,97,108,108] (aN ts p).l_ (aN ts p).x_) (eM E ts (p+1) [40] [41])
  else .ok (aR [110,97,109,101] (aN ts p).l_ (aN ts p).x_ [],p+1)
 else bad ts p
def cZ(E:Nat->bQ aC)(ts:List aP):Nat->aC->Nat->bQ aC
 |0,_,_=>.error 0
 |g+1,n,p=>
  if aV ts p [91] then
   match aL ts [93] (E (p+1)) with
   |.error l=>.error l
   |.ok (i,q)=>cZ E ts g (aR [105,110,100,101,120] (aN ts p).l_ [] [n,i]) q
  else .ok (n,p)
def eK(E:Nat->bQ aC)(ts:List aP):Nat->Nat->bQ aC
 |0,_=>.error 0
 |g+1,p=>
  if aV ts p [45] then bV (λx=>aR [45,120] (aN ts p).l_ [] [x]) (eK E ts g (p+1))
  else if aV ts p [33] then bV (λx=>aR [33,120] (aN ts p).l_ [] [x]) (eK E ts g (p+1))
  else bO (dX E ts p) (cZ E ts (ts.length+1))
def bD(L:Nat->bQ aC)(ts:List aP)(k:Nat):Nat->aC->Nat->bQ aC
 |0,_,_=>.error 0
 |g+1,n,q=>
  if (aN ts q).sort==112 && bW (aN ts q).x_==k then
   match L (q+1) with
   |.error l=>.error l
   |.ok (r,q2)=>if k=2 then .ok (aR (aN ts q).x_ (aN ts q).l_ [] [n,r],q2) else bD L ts k g (aR (aN ts q).x_ (aN ts q).l_ [] [n,r]) q2
  else .ok (n,q)
def fQ(E:Nat->bQ aC)(ts:List aP):Nat->Nat->bQ aC
 |0,p=>eK E ts (ts.length+1) p
 |j+1,p=>bO (fQ E ts j p) (bD (fQ E ts j) ts (4-j) (ts.length+1))
def fD(ts:List aP):Nat->Nat->bQ aC
 |0,_=>.error 0
 |f+1,p=>fQ (fD ts f) ts 5 p
def eR(E:Nat->bQ aC)(ts:List aP):Nat->Nat->List aC->bQ (List aC)
 |0,_,_=>.error 0
 |g+1,p,acc=>
  if aV ts p [91] then
   match aL ts [93] (E (p+1)) with
   |.error l=>.error l
   |.ok (i,q)=>eR E ts g q (acc++[i])
  else .ok (acc,p)
def eQ(E:Nat->bQ aC)(ts:List aP)(p:Nat):bQ aC:=
 if (aN ts p).sort==110 then
  if aV ts (p+1) [40] then
   aL ts [59] (bV (λl=>aR [100,111] (aN ts p).l_ (aN ts p).x_ [aR [99,97,108,108] (aN ts p).l_ (aN ts p).x_ l]) (eM E ts (p+1) [40] [41]))
  else
   bO (aL ts [61] (eR E ts (ts.length+1) (p+1) [])) λidx q=>
    aL ts [59] (bV (λv=>aR [115,101,116] (aN ts p).l_ (aN ts p).x_ (idx++[v])) (E q))
 else bad ts p
def oR(E:Nat->bQ aC)(ts:List aP)(p:Nat):bQ aC:=
 if (aN ts (p+1)).sort==110 then
  if aV ts (p+2) [61] then
   aL ts [59] (bV (λv=>aR [118,97,114] (aN ts p).l_ [] [aR [116,97,114,103,101,116] (aN ts (p+1)).l_ (aN ts (p+1)).x_ [],v]) (E (p+3)))
  else bad ts (p+2)
 else bad ts (p+1)
def rA(E B:Nat->bQ aC)(ts:List aP)(p:Nat):bQ aC:=
 bO (E (p+1)) λc q=>bO (B q) λb q2=>
  if aV ts q2 [101,108,115,101] then bV (λd=>aR [105,102] (aN ts p).l_ [] [c,b,d]) (B (q2+1))
  else .ok (aR [105,102] (aN ts p).l_ [] [c,b],q2)
def kJ(E B:Nat->bQ aC)(ts:List aP)(p:Nat):bQ aC:=
 bO (E (p+1)) λc q=>bV (λb=>aR [119,104,105,108,101] (aN ts p).l_ [] [c,b]) (B q)
def gW(E:Nat->bQ aC)(ts:List aP)(p:Nat):bQ aC:=
 if aV ts (p+1) [59] then .ok (aR [114,101,116,117,114,110] (aN ts p).l_ [] [],p+2)
 else aL ts [59] (bV (λv=>aR [114,101,116,117,114,110] (aN ts p).l_ [] [v]) (E (p+1)))
def iV(E:Nat->bQ aC)(ts:List aP)(p:Nat):bQ aC:=
 aL ts [59] (bV (λv=>aR [112,114,105,110,116] (aN ts p).l_ [] [v]) (E (p+1)))
def jD(E B:Nat->bQ aC)(ts:List aP)(p:Nat):bQ aC:=
 if aV ts p [118,97,114] then oR E ts p
 else if aV ts p [105,102] then rA E B ts p
 else if aV ts p [119,104,105,108,101] then kJ E B ts p
 else if aV ts p [114,101,116,117,114,110] then gW E ts p
 else if aV ts p [112,114,105,110,116] then iV E ts p
 else eQ E ts p
def dJ(S:Nat->bQ aC)(ts:List aP):Nat->Nat->List aC->bQ (List aC)
 |0,_,_=>.error 0
 |g+1,p,acc=>
  if aV ts p [125] then .ok (acc,p)
  else
   match S p with
   |.error l=>.error l
   |.ok (s,q)=>dJ S ts g q (acc++[s])
def iY(E:Nat->bQ aC)(ts:List aP):Nat->Nat->bQ aC
 |0,_=>.error 0
 |f+1,p=>
  if aV ts p [123] then
   bV (aR [98,108,111,99,107] (aN ts p).l_ []) (aL ts [125] (dJ (jD E (iY E ts f) ts) ts (ts.length+1) (p+1) []))
  else bad ts p
def cR(ts:List aP):Nat->Nat->List aC->bQ (List aC)
 |0,_,_=>.error 0
 |g+1,p,acc=>
  if (aN ts p).sort==110 then
   if aV ts (p+1) [44] then cR ts g (p+2) (acc++[aR [112,97,114,97,109] (aN ts p).l_ (aN ts p).x_ []])
   else .ok (acc++[aR [112,97,114,97,109] (aN ts p).l_ (aN ts p).x_ []],p+1)
  else bad ts p
def gY(ts:List aP)(p:Nat):bQ (List aC):=
 aL ts [41] (if aV ts p [41] then .ok ([],p) else cR ts (ts.length+1) p [])
def jY(B:Nat->bQ aC)(ts:List aP)(p:Nat):bQ aC:=
 if aV ts p [102,117,110,99] then
  if (aN ts (p+1)).sort==110 then
   if aV ts (p+2) [40] then
    bO (gY ts (p+3)) λl q=>bV (λb=>aR [102,117,110,99] (aN ts (p+1)).l_ (aN ts (p+1)).x_ (l++[b])) (B q)
   else bad ts (p+2)
  else bad ts (p+1)
 else bad ts p
def eS(F:Nat->bQ aC)(ts:List aP):Nat->Nat->List aC->bQ (List aC)
 |0,_,_=>.error 0
 |g+1,p,acc=>
  if (aN ts p).sort==101 then .ok (acc,p)
  else
   match F p with
   |.error l=>.error l
   |.ok (s,q)=>eS F ts g q (acc++[s])
def jX(ts:List aP):bQ (List aC):=
 eS (jY (iY (fD ts (ts.length+1)) ts (ts.length+1)) ts) ts (ts.length+1) 0 []
structure bR(ts:List aP):Prop where
 next:∀p,p<ts.length->(aN ts p).sort≠101->p+1<ts.length
 l_:∀p,p<ts.length->(aN ts p).l_≠0
structure cL{α:Type}(N p:Nat)(r:bQ α):Prop where
 er:∀l,r=.error l->l≠0
 ok:∀a q,r=.ok (a,q)->p<q/\q<N
structure eZ{α:Type}(N p:Nat)(r:bQ α):Prop where
 er:∀l,r=.error l->l≠0
 ok:∀a q,r=.ok (a,q)->p<=q/\q<N
def cL.weak{r:bQ b}(h:cL N p r):eZ N p r:=⟨h.er,λa q e=>by have:=h.ok a q e;omega⟩
def cL.ne{a:Type}{r:bQ a}(h:cL N p r):r≠.error 0:=λe=>h.er 0 e rfl
def eZ.ne{a:Type}{r:bQ a}(h:eZ N p r):r≠.error 0:=λe=>h.er 0 e rfl
def cL.low{b:Nat}{r:bQ c}(h:cL N p r)(d:b<=p):cL N b r:=⟨h.er,λa q e=>by have:=h.ok a q e;omega⟩
def eZ.low{b:Nat}{r:bQ c}(h:eZ N p r)(d:b<p):cL N b r:=⟨h.er,λa q e=>by have:=h.ok a q e;omega⟩
def cL.of_ok(a:b)(h:p<q)(c:q<N):cL N p (.ok (a,q):bQ b):=⟨(λl e=>by cases e),λd f e=>by cases e;exact⟨h,c⟩⟩
def eZ.of_ok(a:b)(h:p<=q)(c:q<N):eZ N p (.ok (a,q):bQ b):=⟨(λl e=>by cases e),λd f e=>by cases e;exact⟨h,c⟩⟩
def cL.map{r:bQ b}(f:b->c)(h:cL N p r):cL N p (bV f r):=by
 cases r with
 |error l=>exact⟨λi e=>by cases e;exact h.er _ rfl,λa q e=>by cases e⟩
 |ok d=>obtain⟨a,q⟩:=d;exact⟨(λl e=>by cases e),λg j e=>by cases e;exact h.ok _ _ rfl⟩
def bR.isT{ts:List aP}(T:bR ts)(a:p<ts.length)(h:aV ts p x=true):p+1<ts.length:=by
 refine T.next p a λe=>?_
 unfold aV at h;rw[e] at h;simp at h
def bR.bad{ts:List aP}(T:bR ts){d:Type}{c:Nat}(b:p<ts.length):cL ts.length c (bad ts p:bQ d):=⟨λl e=>by cases e;exact T.l_ p b,λa q e=>by cases e⟩
def bR.take{ts:List aP}(T:bR ts){d:Type}{r:bQ d}(h:cL ts.length p r):cL ts.length p (aL ts x r):=by
 cases r with
 |error l=>exact⟨λg e=>by cases e;exact h.er _ rfl,λa q e=>by cases e⟩
 |ok c=>
  obtain⟨a,q⟩:=c;have b:=h.ok a q rfl;unfold aL;simp only;split
  ·rename_i f;exact cL.of_ok a o_ (T.isT b.2 f)
  ·exact T.bad b.2
def bR.takeW{ts:List aP}(T:bR ts){d:Type}{r:bQ d}(h:eZ ts.length p r):cL ts.length p (aL ts x r):=by
 cases r with
 |error l=>exact⟨λg e=>by cases e;exact h.er _ rfl,λa q e=>by cases e⟩
 |ok c=>
  obtain⟨a,q⟩:=c;have b:=h.ok a q rfl;unfold aL;simp only;split
  ·rename_i f;exact cL.of_ok a o_ (T.isT b.2 f)
  ·exact T.bad b.2
def bR.listLoop{ts:List aP}(T:bR ts){E:Nat->bQ aC}(h:∀q,p0<q->q<ts.length->cL ts.length q (E q)):∀(g p:Nat) (acc:List aC),p0<p->p<ts.length->ts.length<=p+g->cL ts.length p (dI E ts g p acc)
 |0,p,acc,_,c,i=>by omega
 |g+1,p,acc,j,c,i=>by
  have d:=h p j c;rw[dI];cases f:E p with
  |error l=>exact⟨λn e=>by cases e;exact d.er _ f,λa q e=>by cases e⟩
  |ok k=>
   obtain⟨a,q⟩:=k;have b:=d.ok a q f;simp only;split
   ·rename_i m;have:=T.isT b.2 m;exact(bR.listLoop T h g (q+1) (acc++[a]) o_ this o_).low o_
   ·exact cL.of_ok _ b.1 b.2
def bR.listIn{ts:List aP}(T:bR ts){E:Nat->bQ aC}(c:∀q,p0<q->q<ts.length->cL ts.length q (E q))(b:p0<p)(a:p<ts.length)(y:List UInt8):eZ ts.length p (iG E ts p y):=by
 unfold iG;split
 ·exact eZ.of_ok _ (d7 _) a
 ·exact(T.listLoop c (ts.length+1) p [] b a o_).weak
def bR.listP{ts:List aP}(T:bR ts){E:Nat->bQ aC}(b:∀q,p0<q->q<ts.length->cL ts.length q (E q))(d:p0<=p)(a:p<ts.length)(x y:List UInt8):cL ts.length p (eM E ts p x y):=by
 unfold eM;split
 ·rename_i c;have:=T.isT a c;exact(T.takeW (T.listIn b (p:=p+1) o_ this y)).low o_
 ·exact T.bad a
def bR.primary{ts:List aP}(T:bR ts){E:Nat->bQ aC}(c:∀q,p0<q->q<ts.length->cL ts.length q (E q))(f:p0<=p)(b:p<ts.length):cL ts.length p (dX E ts p):=by
 unfold dX;split
 ·rename_i a;refine cL.of_ok _ o_ (T.next p b λe=>?_)
  rw[e] at a;simp at a
 split
 ·rename_i a;refine cL.of_ok _ o_ ?_
  rcases Bool.or_eq_true_iff.1 a with a|a
  ·exact T.isT b a
  ·exact T.isT b a
 split
 ·rename_i a;have:=T.isT b a;exact T.take ((c (p+1) o_ this).low o_)
 split
 ·exact(T.listP c f b _ _).map _
 split
 ·rename_i a;have d:p+1<ts.length:=T.next p b λe=>by rw[e] at a;simp at a
  split
  ·exact((T.listP c (p:=p+1) o_ d _ _).low o_).map _
  ·exact cL.of_ok _ o_ d
 ·exact T.bad b
def bR.index{ts:List aP}(T:bR ts){E:Nat->bQ aC}(f:∀q,p0<q->q<ts.length->cL ts.length q (E q)):∀(g:Nat) (n:aC) (p:Nat),p0<=p->p<ts.length->ts.length<=p+g->eZ ts.length p (cZ E ts g n p)
 |0,n,p,_,b,h=>by omega
 |g+1,n,p,r,b,h=>by
  rw[cZ];split
  ·rename_i m;have k:=T.isT b m;have c:=T.take (x:=[93]) (f (p+1) o_ k)
   cases d:aL ts [93] (E (p+1)) with
   |error l=>exact⟨λs e=>by cases e;exact c.er _ d,λa q e=>by cases e⟩
   |ok o=>
    obtain⟨i,q⟩:=o;have j:=c.ok i q d;exact((bR.index T f g _ q o_ j.2 o_).low (by omega:p<q)).weak
  ·exact eZ.of_ok _ (d7 _) b
def bR.bind{ts:List aP}(_T:bR ts){d:Type}{r:bQ c}{f:c->Nat->bQ d}(h:cL ts.length p r)(g:∀a q,p<q->q<ts.length->eZ ts.length q (f a q)):cL ts.length p (bO r f):=by
 cases r with
 |error l=>exact⟨λj e=>by cases e;exact h.er _ rfl,λa q e=>by cases e⟩
 |ok i=>
  obtain⟨a,q⟩:=i;have b:=h.ok a q rfl;exact(g a q b.1 b.2).low b.1
def bR.unary{ts:List aP}(T:bR ts){E:Nat->bQ aC}(c:∀q,p0<q->q<ts.length->cL ts.length q (E q)):∀(g p:Nat),p0<=p->p<ts.length->ts.length<=p+g->cL ts.length p (eK E ts g p)
 |0,p,_,b,i=>by omega
 |g+1,p,j,b,i=>by
  rw[eK];split
  ·rename_i e;have d:=T.isT b e;exact((bR.unary T c g (p+1) o_ d o_).low o_).map _
  split
  ·rename_i e;have d:=T.isT b e;exact((bR.unary T c g (p+1) o_ d o_).low o_).map _
  ·exact T.bind (T.primary c j b) λa q h f=>T.index c _ a q o_ f o_
def bR.levelLoop{ts:List aP}(T:bR ts){L:Nat->bQ aC}(h:∀q,p0<=q->q<ts.length->cL ts.length q (L q)):∀(g:Nat) (n:aC) (q:Nat),p0<=q->q<ts.length->ts.length<=q+g->eZ ts.length q (bD L ts k g n q)
 |0,n,q,_,b,o=>by omega
 |g+1,n,q,s,b,o=>by
  rw[bD];split
  ·rename_i i;have p:q+1<ts.length:=T.next q b λe=>by rw[e] at i;simp at i
   have f:=h (q+1) o_ p
   cases j:L (q+1) with
   |error l=>exact⟨λt e=>by cases e;exact f.er _ j,λa q e=>by cases e⟩
   |ok m=>
    obtain⟨r,c⟩:=m;have d:=f.ok r c j;simp only;split
    ·exact eZ.of_ok _ o_ d.2
    ·exact((bR.levelLoop T h g _ c o_ d.2 o_).low (by omega:q<c)).weak
  ·exact eZ.of_ok _ (d7 _) b
def bR.level{ts:List aP}(T:bR ts){E:Nat->bQ aC}(d:∀q,p0<q->q<ts.length->cL ts.length q (E q)):∀(j p:Nat),p0<=p->p<ts.length->cL ts.length p (fQ E ts j p)
 |0,p,c,b=>T.unary d _ p c b o_
 |j+1,p,c,b=>by
  rw[fQ];exact T.bind (bR.level T d j p c b) λa q f e=>T.levelLoop (p0:=p0) (λq c b=>bR.level T d j q c b) _ a q o_ e o_
def bR.expr{ts:List aP}(T:bR ts):∀(f p:Nat),p<ts.length->ts.length<=p+f->cL ts.length p (fD ts f p)
 |0,p,b,d=>by omega
 |f+1,p,b,d=>by
  rw[fD];exact T.level (p0:=p) (λq c a=>bR.expr T f q a o_) 5 p (d7 _) b
def bR.exprs{ts:List aP}(T:bR ts):∀q,q<ts.length->cL ts.length q (fD ts (ts.length+1) q):=λq a=>T.expr _ q a o_
def bR.setLoop{ts:List aP}(T:bR ts){E:Nat->bQ aC}(f:∀q,q<ts.length->cL ts.length q (E q)):∀(g p:Nat) (acc:List aC),p<ts.length->ts.length<=p+g->eZ ts.length p (eR E ts g p acc)
 |0,p,acc,b,h=>by omega
 |g+1,p,acc,b,h=>by
  rw[eR];split
  ·rename_i m;have k:=T.isT b m;have c:=T.take (x:=[93]) (f (p+1) k);cases d:aL ts [93] (E (p+1)) with
   |error l=>exact⟨λo e=>by cases e;exact c.er _ d,λa q e=>by cases e⟩
   |ok n=>
    obtain⟨i,q⟩:=n;have j:=c.ok i q d;exact((bR.setLoop T f g q _ j.2 o_).low (by omega:p<q)).weak
  ·exact eZ.of_ok _ (d7 _) b
def bR.simple{ts:List aP}(T:bR ts){E:Nat->bQ aC}(b:∀q,q<ts.length->cL ts.length q (E q))(d:p<ts.length):cL ts.length p (eQ E ts p):=by
 unfold eQ;split
 ·rename_i f;have c:p+1<ts.length:=T.next p d λe=>by rw[e] at f;simp at f
  split
  ·exact T.take (((T.listP (p0:=p) (λq _ a=>b q a) (p:=p+1) o_ c _ _).low o_).map _)
  ·exact T.bind ((T.takeW (T.setLoop b _ (p+1) [] c o_)).low o_) λg q _ a=>(T.take ((b q a).map _)).weak
 ·exact T.bad d
def bR.stmt{ts:List aP}(T:bR ts){E B:Nat->bQ aC}(j:∀q,q<ts.length->cL ts.length q (E q))(o:∀q,p<q->q<ts.length->cL ts.length q (B q))(i:p<ts.length):cL ts.length p (jD E B ts p):=by
 unfold jD;split
 ·rename_i d;have a:=T.isT i d;unfold oR;split
  ·rename_i f;have l:p+2<ts.length:=T.next (p+1) a λe=>by rw[e] at f;simp at f
   split
   ·rename_i m;have s:p+3<ts.length:=T.isT l m;exact T.take (((j (p+3) s).low o_).map _)
   ·exact T.bad l
  ·exact T.bad a
 split
 ·rename_i d;have a:=T.isT i d;unfold rA;refine T.bind ((j (p+1) a).low o_) λc q g h=>(T.bind (o q g h) λb u t k=>?_).weak
  split
  ·rename_i r;have:=T.isT k r;exact(((o (u+1) o_ this).low o_).map _).weak
  ·exact eZ.of_ok _ (d7 _) k
 split
 ·rename_i d;have a:=T.isT i d;unfold kJ;exact T.bind ((j (p+1) a).low o_) λc q g h=>((o q g h).map _).weak
 split
 ·rename_i d;have a:=T.isT i d;unfold gW;split
  ·rename_i n;exact cL.of_ok _ o_ (T.isT a n)
  ·exact T.take (((j (p+1) a).low o_).map _)
 split
 ·rename_i d;have a:=T.isT i d;unfold iV;exact T.take (((j (p+1) a).low o_).map _)
 ·exact T.simple j i
def bR.blockLoop{ts:List aP}(_T:bR ts){S:Nat->bQ aC}(d:∀q,p0<q->q<ts.length->cL ts.length q (S q)):∀(g p:Nat) (acc:List aC),p0<p->p<ts.length->ts.length<=p+g->eZ ts.length p (dJ S ts g p acc)
 |0,p,acc,_,b,h=>by omega
 |g+1,p,acc,i,b,h=>by
  rw[dJ];split
  ·exact eZ.of_ok _ (d7 _) b
  ·have c:=d p i b;cases f:S p with
   |error l=>exact⟨λm e=>by cases e;exact c.er _ f,λa q e=>by cases e⟩
   |ok k=>
    obtain⟨s,q⟩:=k;have j:=c.ok s q f;exact((bR.blockLoop _T d g q _ o_ j.2 o_).low (by omega:p<q)).weak
def bR.block{ts:List aP}(T:bR ts){E:Nat->bQ aC}(d:∀q,q<ts.length->cL ts.length q (E q)):∀(f p:Nat),p<ts.length->ts.length<=p+f->cL ts.length p (iY E ts f p)
 |0,p,a,h=>by omega
 |f+1,p,a,h=>by
  rw[iY];split
  ·rename_i j;have e:=T.isT a j;refine((T.takeW (T.blockLoop (p0:=p) (λq g c=>T.stmt d (λi k b=>bR.block T d f i b o_) c) _ (p+1) [] o_ e o_)).low o_).map _
  ·exact T.bad a
def bR.paramLoop{ts:List aP}(T:bR ts):∀(g p:Nat) (acc:List aC),p<ts.length->ts.length<=p+g->cL ts.length p (cR ts g p acc)
 |0,p,acc,b,h=>by omega
 |g+1,p,acc,b,h=>by
  rw[cR];split
  ·rename_i f;have d:p+1<ts.length:=T.next p b λe=>by rw[e] at f;simp at f
   split
   ·rename_i a;have c:p+2<ts.length:=T.isT d a;exact(bR.paramLoop T g (p+2) _ c o_).low o_
   ·exact cL.of_ok _ o_ d
  ·exact T.bad b
def bR.func{ts:List aP}(T:bR ts){B:Nat->bQ aC}(j:∀q,q<ts.length->cL ts.length q (B q))(h:p<ts.length):cL ts.length p (jY B ts p):=by
 unfold jY;split
 ·rename_i k;have g:=T.isT h k;split
  ·rename_i a;have d:p+2<ts.length:=T.next (p+1) g λe=>by rw[e] at a;simp at a
   split
   ·rename_i f;have c:p+3<ts.length:=T.isT d f
    have b:cL ts.length (p+3) (gY ts (p+3)):=by
     unfold gY;refine T.takeW ?_;split
     ·exact eZ.of_ok _ (d7 _) c
     ·exact(T.paramLoop _ (p+3) [] c o_).weak
    exact T.bind (b.low o_) λl q _ i=>((j q i).map _).weak
   ·exact T.bad d
  ·exact T.bad g
 ·exact T.bad h
def bR.progLoop{ts:List aP}(_T:bR ts){F:Nat->bQ aC}(c:∀q,q<ts.length->cL ts.length q (F q)):∀(g p:Nat) (acc:List aC),p<ts.length->ts.length<=p+g->eZ ts.length p (eS F ts g p acc)
 |0,p,acc,b,h=>by omega
 |g+1,p,acc,b,h=>by
  rw[eS];split
  ·exact eZ.of_ok _ (d7 _) b
  ·have d:=c p b;cases f:F p with
   |error l=>exact⟨λk e=>by cases e;exact d.er _ f,λa q e=>by cases e⟩
   |ok j=>
    obtain⟨s,q⟩:=j;have i:=d.ok s q f;exact((bR.progLoop _T c g q _ i.2 o_).low (by omega:p<q)).weak
def bR.prog{ts:List aP}(T:bR ts)(h:0<ts.length):jX ts≠.error 0:=
 (T.progLoop (λq a=>T.func (λc b=>T.block (λq a=>T.exprs q a) _ c b o_) a) _ 0 [] h o_).ne
structure oP(ts:List aP):Prop where
 some_:0<ts.length
 last:(aN ts (ts.length-1)).sort=101
 l_:∀p,p<ts.length->(aN ts p).l_≠0
def pM(t:aP)(ts:List aP)(p:Nat):aN (t::ts) (p+1)=aN ts p:=by simp[aN]
def KH(f:Nat):∀(a l:List UInt8) (ts:List aP),cU f a l=.ok ts->oP ts/\ts.length<=f:=by
 induction f with
 |zero=>intro a l ts h;cases h
 |succ f j=>
  intro a l ts h;by_cases d:l.length=0
  ·rw[kW _ _ _ d] at h;cases h;refine⟨⟨s_,rfl,λp c=>?_⟩,s_⟩
   obtain rfl:p=0:=by simp at c;omega
   show aU a≠0
   unfold aU;omega
  ·cases i:(bJ l).ok
   ·rw[kX _ _ _ d i] at h;cases h
   ·rw[gV _ _ _ d i _ rfl] at h;cases g:cU f (a++l.take ((bJ l).size+blankL l.length (l.drop (bJ l).size))) (l.drop ((bJ l).size+blankL l.length (l.drop (bJ l).size))) with
    |error n=>rw[g] at h;cases h
    |ok b=>
     rw[g] at h;cases h;obtain⟨e,k⟩:=j _ _ b g;refine⟨⟨s_,?_,λp c=>?_⟩,t_⟩
     ·have:=e.some_;show (aN (_::b) ((_::b).length-1)).sort=101
      rw[ek,show b.length+1-1=(b.length-1)+1 by omega,pM]
      exact e.last
     ·cases p with
      |zero=>show aU a≠0;unfold aU;omega
      |succ p=>
       show (aN (_::b) (p+1)).l_≠0
       rw[pM];exact e.l_ p (by simpa using c)
def oP.ok{ts:List aP}(h:oP ts):bR ts:=
 ⟨λp b a=>by
   by_cases e:p=ts.length-1
   ·subst e;exact absurd h.last a
   ·omega,h.l_⟩
def sM{ts:List aP}(h:fJ l=.ok ts):oP ts/\ts.length<=l.length+1:=KH _ _ _ _ h
def cX(l:List UInt8):Except (Nat × Nat) (List aC):=
 if 2000<l.length then .error (1,0)
 else match dE l.length l 0 with
  |some k=>.error (2,aU (l.take k))
  |none=>
   match fJ l with
   |.error n=>.error (3,n)
   |.ok ts=>
    match jX ts with
    |.error n=>.error (4,n)
    |.ok (ks,_)=>.ok ks
structure bA where
 e_:List (List UInt8)
 kind:Nat
 l_:Nat
def bA.found(s:bA)(l_ kind:Nat):bA:=if s.kind=0 then { s with kind:=kind,l_:=l_ } else s
def fR(x:List UInt8):Bool:=x==[108,101,110] || x==[114,101,97,100]
def declaresL(s:bA)(n:aC):bA:=if fR n.x_ || s.e_.contains n.x_ then s.found n.l_ 6 else s
def dM(fs:List aC)(name:List UInt8):Option aC:=fs.find? λf=>f.x_==name
def lW(fs:List aC)(a_:Bool)(name:List UInt8):Int:=
 if name==[108,101,110] then 1
 else if name==[114,101,97,100] && !a_ then 0
 else match dM fs name with
  |some f=>(f.y_.length:Int)-1
  |none=> -1
def eG(fs:List aC)(a_:Bool)(s:bA)(n:aC):bA:=
 if lW fs a_ n.x_<0 then s.found n.l_ 6
 else if lW fs a_ n.x_≠(n.y_.length:Int) then s.found n.l_ 7
 else s
def cC(fs:List aC)(a_:Bool)(s:bA)(n:aC):bA:=
 if n.op==[115,101,116] || n.op==[110,97,109,101] then (if s.e_.contains n.x_ then s else s.found n.l_ 6)
 else if n.op==[99,97,108,108] then eG fs a_ s n
 else s
def aM(fs:List aC)(a_:Bool):Nat->aC->bA->bA
 |0,_,s=>s
 |d+1,n,s=>
  if n.op==[118,97,114] then
   match n.y_ with
   |t::v::_=>let s1:=aM fs a_ d v (declaresL s t);{ s1 with e_:=s1.e_++[t.x_] }
   |_=>s
  else
   let s1:=n.y_.foldl (λs k=>aM fs a_ d k s) (cC fs a_ s n)
   if n.op==[98,108,111,99,107] then { s1 with e_:=s1.e_.take s.e_.length } else s1
def bU:Nat->aC->Nat
 |0,_=>0
 |d+1,n=>1+(n.y_.map (bU d)).sum
def H7:Nat->aC->Prop
 |0,_=>True
 |d+1,n=>(n.op=[118,97,114]->2<=n.y_.length)/\∀k∈n.y_,H7 d k
def FineA(m:Nat)(a:aC):Prop:=∀d,bU d a<=m/\H7 d a
def FineL(m:Nat)(l:List aC):Prop:=∀d,(l.map (bU d)).sum<=m/\∀k∈l,H7 d k
def FineA.le{a:aC}(h:FineA m a)(b:m<=n):FineA n a:=λd=>⟨em (h d).1 b,(h d).2⟩
def FineL.le{a:List aC}(h:FineL m a)(b:m<=n):FineL n a:=λd=>⟨em (h d).1 b,(h d).2⟩
def FineL.nil:FineL 0 []:=λ_=>⟨d7 _,λ_ h=>by cases h⟩
def FineL.snoc{l:List aC}{a:aC}(h:FineL m l)(c:FineA n a):FineL (m+n) (l++[a]):=λd=>by
 refine⟨?_,λk b=>?_⟩
 ·rw[ga,ic];have f:=(h d).1;have e:=(c d).1;simp;omega
 ·rcases eo.1 b with b|b
  ·exact(h d).2 k b
  ·rw[et.1 b];exact(c d).2
def FineL.one{a:aC}(b:FineA n a):FineL n [a]:=λd=>by
 refine⟨?_,λk c=>?_⟩
 ·have e:=(b d).1;simp;omega
 ·rw[et.1 c];exact(b d).2
def FineL.two{a b:aC}(c:FineA m a)(d:FineA n b):FineL (m+n) [a,b]:=(FineL.one c).snoc d
def FineL.three{a b c:aC}(d:FineA m a)(e:FineA n b)(f:FineA k c):FineL (m+n+k) [a,b,c]:=(FineL.two d e).snoc f
def FineA.node{l:List aC}{op a:List UInt8}{b:Nat}(h:FineL m l)(c:op=[118,97,114]->2<=l.length):FineA (m+1) (aR op b a l):=λd=>by
 cases d with
 |zero=>exact⟨ft _,trivial⟩
 |succ d=>
  refine⟨?_,c,(h d).2⟩;have:=(h d).1;show 1+(l.map (bU d)).sum<=m+1
  omega
def bH(P:Nat->α->Prop)(p:Nat)(r:bQ α):Prop:=∀a q,r=.ok (a,q)->∃m,p+m<=q/\P m a
def bH.bad{P:Nat->c->Prop}{b:Nat}{ts:List aP}:bH P p (bad ts b):=λa q h=>by cases h
def bH.err{P:Nat->b->Prop}:bH P p (.error n):=λa q h=>by cases h
def bH.of_ok{P:Nat->b->Prop}{a:b}(c:p+m<=q)(h:P m a):bH P p (.ok (a,q)):=λd f e=>by cases e;exact⟨m,c,h⟩
def bH.take{P:Nat->b->Prop}{ts:List aP}{r:bQ b}(h:bH P p r):bH P p (aL ts x r):=by
 cases r with
 |error l=>exact bH.err
 |ok c=>
  obtain⟨a,q⟩:=c;obtain⟨m,e,d⟩:=h a q rfl;unfold aL;simp only;split
  ·exact bH.of_ok o_ d
  ·exact bH.bad
def bH.map{P:Nat->b->Prop}{Q:Nat->c->Prop}{r:bQ b}{f:b->c}(h:bH P p r)(n:d+k<=p)(i:∀m a,P m a->Q (m+k) (f a)):bH Q d (bV f r):=by
 cases r with
 |error l=>exact bH.err
 |ok g=>
  obtain⟨a,q⟩:=g;obtain⟨m,j,e⟩:=h a q rfl;exact bH.of_ok (m:=m+k) o_ (i m a e)
def bH.bind{P:Nat->b->Prop}{Q:Nat->c->Prop}{r:bQ b}{f:b->Nat->bQ c}(h:bH P p r)(e:∀m a q,P m a->p+m<=q->bH Q d (f a q)):bH Q d (bO r f):=by
 cases r with
 |error l=>exact bH.err
 |ok g=>
  obtain⟨a,q⟩:=g;obtain⟨m,j,i⟩:=h a q rfl;exact e m a q i j
def bH.low{P:Nat->c->Prop}{b:Nat}{r:bQ c}(h:bH P p r)(f:b<=p):bH P b r:=λa q e=>by
 obtain⟨m,g,d⟩:=h a q e;exact⟨m,o_,d⟩
section
variable {ts:List aP} {E:Nat->bQ aC}
def qE(c:∀q,bH FineA q (E q)):∀(g p:Nat) (acc:List aC) (m0 p0:Nat),FineL m0 acc->p0+m0<=p->bH FineL p0 (dI E ts g p acc)
 |0,p,acc,_,_,_,_=>bH.err
 |g+1,p,acc,m0,p0,d,h=>by
  rw[dI];cases f:E p with
  |error l=>exact bH.err
  |ok e=>
   obtain⟨a,q⟩:=e;obtain⟨m,i,b⟩:=c p a q f;simp only;split
   ·exact qE c g (q+1) _ (m0+m) p0 (d.snoc b) o_
   ·exact bH.of_ok (m:=m0+m) o_ (d.snoc b)
def qD(a:∀q,bH FineA q (E q))(p:Nat)(x y:List UInt8):bH FineL (p+1) (eM E ts p x y):=by
 unfold eM;split
 ·refine bH.take ?_;unfold iG;split
  ·exact bH.of_ok (m:=0) o_ FineL.nil
  ·exact qE a _ _ _ 0 _ FineL.nil o_
 ·exact bH.bad
def lN{op a:List UInt8}{b:Nat}(c:op≠[118,97,114]):FineA 1 (aR op b a []):=FineA.node (m:=0) FineL.nil λh=>absurd h c
def FR(b:∀q,bH FineA q (E q))(p:Nat):bH FineA p (dX E ts p):=by
 unfold dX;split
 ·exact bH.of_ok (m:=1) o_ (lN s_)
 split
 ·exact bH.of_ok (m:=1) o_ (lN s_)
 split
 ·exact((b (p+1)).take).low o_
 split
 ·exact bH.map (k:=1) (qD b p _ _) o_ λm a h=>FineA.node h s_
 split
 ·split
  ·exact bH.map (k:=1) (qD b (p+1) _ _) o_ λm a h=>FineA.node h s_
  ·exact bH.of_ok (m:=1) o_ (lN s_)
 ·exact bH.bad
def xX(b:∀q,bH FineA q (E q)):∀(g:Nat) (n:aC) (p m0 p0:Nat),FineA m0 n->p0+m0<=p->bH FineA p0 (cZ E ts g n p)
 |0,n,p,_,_,_,_=>bH.err
 |g+1,n,p,m0,p0,a,d=>by
  rw[cZ];split
  ·have c:=(b (p+1)).take (ts:=ts) (x:=[93]);cases f:aL ts [93] (E (p+1)) with
   |error l=>exact bH.err
   |ok h=>
    obtain⟨i,q⟩:=h;obtain⟨m,j,e⟩:=c i q f;exact xX b g _ q (m0+m+1) p0 (FineA.node (FineL.two a e) s_) o_
  ·exact bH.of_ok d a
def qB(b:∀q,bH FineA q (E q)):∀(g p:Nat),bH FineA p (eK E ts g p)
 |0,p=>bH.err
 |g+1,p=>by
  rw[eK];split
  ·exact bH.map (k:=1) (qB b g (p+1)) o_ λm a h=>FineA.node (FineL.one h) s_
  split
  ·exact bH.map (k:=1) (qB b g (p+1)) o_ λm a h=>FineA.node (FineL.one h) s_
  ·exact bH.bind (FR b p) λm a q d c=>xX b _ a q m p d c
def pP{L:Nat->bQ aC}{k:Nat}(c:∀q,bH FineA q (L q)):∀(g:Nat) (n:aC) (q m0 p0:Nat),FineA m0 n->p0+m0<=q->bH FineA p0 (bD L ts k g n q)
 |0,n,q,_,_,_,_=>bH.err
 |g+1,n,q,m0,p0,b,j=>by
  rw[bD];split
  ·cases o:L (q+1) with
   |error l=>exact bH.err
   |ok h=>
    obtain⟨r,f⟩:=h;obtain⟨m,p,i⟩:=c _ r f o;have d:∀e a,FineA (m0+m+1) (aR e a [] [n,r]):=λe a=>FineA.node (FineL.two b i) s_
    simp only;split
    ·exact bH.of_ok (m:=m0+m+1) o_ (d _ _)
    ·exact pP c g _ f (m0+m+1) p0 (d _ _) o_
  ·exact bH.of_ok j b
def qF(b:∀q,bH FineA q (E q)):∀(j p:Nat),bH FineA p (fQ E ts j p)
 |0,p=>qB b _ p
 |j+1,p=>by
  rw[fQ];exact bH.bind (qF b j p) λm a q d c=>pP (λq=>qF b j q) _ a q m p d c
def CD(ts:List aP):∀(f p:Nat),bH FineA p (fD ts f p)
 |0,p=>bH.err
 |f+1,p=>by
  rw[fD];exact qF (λq=>CD ts f q) 5 p
def sO(b:∀q,bH FineA q (E q)):∀(g p:Nat) (acc:List aC) (m0 p0:Nat),FineL m0 acc->p0+m0<=p->bH FineL p0 (eR E ts g p acc)
 |0,p,acc,_,_,_,_=>bH.err
 |g+1,p,acc,m0,p0,a,d=>by
  rw[eR];split
  ·have c:=(b (p+1)).take (ts:=ts) (x:=[93]);cases f:aL ts [93] (E (p+1)) with
   |error l=>exact bH.err
   |ok h=>
    obtain⟨i,q⟩:=h;obtain⟨m,j,e⟩:=c i q f;exact sO b g q _ (m0+m) p0 (a.snoc e) o_
  ·exact bH.of_ok d a
def KT(b:∀q,bH FineA q (E q))(p:Nat):bH FineA p (eQ E ts p):=by
 unfold eQ;split
 ·split
  ·exact bH.take (bH.map (k:=2) (qD b (p+1) _ _) o_ λm a h=>FineA.node (FineL.one (FineA.node h s_)) s_)
  ·refine bH.bind ((sO b _ (p+1) [] 0 (p+1) FineL.nil o_).take) λm l q d f=>?_
   exact bH.take (bH.map (k:=m+1) (b q) o_ λe v c=>FineA.le (FineA.node (d.snoc c) s_) o_)
 ·exact bH.bad
def TI{B:Nat->bQ aC}(a:∀q,bH FineA q (E q))(h:∀q,bH FineA q (B q))(p:Nat):bH FineA p (jD E B ts p):=by
 unfold jD;split
 ·unfold oR;split
  ·split
   ·exact bH.take (bH.map (k:=2) (a (p+3)) o_ λm v e=>FineA.le (FineA.node (FineL.two (lN s_) e) s_) o_)
   ·exact bH.bad
  ·exact bH.bad
 split
 ·unfold rA;refine bH.bind (a (p+1)) λm c q f l=>bH.bind (h q) λg b o i s=>?_
  split
  ·exact bH.map (k:=m+g+1) (h (o+1)) o_ λr d j=>FineA.le (FineA.node (FineL.three f i j) s_) o_
  ·exact bH.of_ok (m:=m+g+1) o_ (FineA.node (FineL.two f i) s_)
 split
 ·unfold kJ;exact bH.bind (a (p+1)) λm c q f l=>bH.map (k:=m+1) (h q) o_ λg b n=>FineA.le (FineA.node (FineL.two f n) s_) o_
 split
 ·unfold gW;split
  ·exact bH.of_ok (m:=1) o_ (lN s_)
  ·exact bH.take (bH.map (k:=1) (a (p+1)) o_ λm v e=>FineA.node (FineL.one e) s_)
 split
 ·unfold iV;exact bH.take (bH.map (k:=1) (a (p+1)) o_ λm v e=>FineA.node (FineL.one e) s_)
 ·exact KT a p
def pQ{S:Nat->bQ aC}(b:∀q,bH FineA q (S q)):∀(g p:Nat) (acc:List aC) (m0 p0:Nat),FineL m0 acc->p0+m0<=p->bH FineL p0 (dJ S ts g p acc)
 |0,p,acc,_,_,_,_=>bH.err
 |g+1,p,acc,m0,p0,a,c=>by
  rw[dJ];split
  ·exact bH.of_ok c a
  ·cases e:S p with
   |error l=>exact bH.err
   |ok f=>
    obtain⟨s,q⟩:=f;obtain⟨m,h,d⟩:=b p s q e;exact pQ b g q _ (m0+m) p0 (a.snoc d) o_
def xY(a:∀q,bH FineA q (E q)):∀(f p:Nat),bH FineA p (iY E ts f p)
 |0,p=>bH.err
 |f+1,p=>by
  rw[iY];split
  ·exact bH.map (k:=1) (bH.take (pQ (λq=>TI a (λq=>xY a f q) q) _ (p+1) [] 0 (p+1) FineL.nil o_)) o_ λm l h=>FineA.node h s_
  ·exact bH.bad
def pO:∀(g p:Nat) (acc:List aC) (m0 p0:Nat),FineL m0 acc->p0+m0<=p->bH FineL p0 (cR ts g p acc)
 |0,p,acc,_,_,_,_=>bH.err
 |g+1,p,acc,m0,p0,b,c=>by
  have a:FineL (m0+1) (acc++[aR [112,97,114,97,109] (aN ts p).l_ (aN ts p).x_ []]):=b.snoc (lN s_)
  rw[cR];split
  ·split
   ·exact pO g (p+2) _ (m0+1) p0 a o_
   ·exact bH.of_ok (m:=m0+1) o_ a
  ·exact bH.bad
def TK{B:Nat->bQ aC}(c:∀q,bH FineA q (B q))(p:Nat):bH FineA p (jY B ts p):=by
 unfold jY;split
 ·split
  ·split
   ·have a:bH FineL (p+3) (gY ts (p+3)):=by
     unfold gY;refine bH.take ?_;split
     ·exact bH.of_ok (m:=0) o_ FineL.nil
     ·exact pO _ (p+3) [] 0 (p+3) FineL.nil o_
    exact bH.bind a λm l q d g=>bH.map (k:=m+1) (c q) o_ λf b e=>FineA.le (FineA.node (d.snoc e) s_) o_
   ·exact bH.bad
  ·exact bH.bad
 ·exact bH.bad
def qC{F:Nat->bQ aC}(b:∀q,bH FineA q (F q)):∀(g p:Nat) (acc:List aC) (m0 p0:Nat),FineL m0 acc->p0+m0<=p->bH FineL p0 (eS F ts g p acc)
 |0,p,acc,_,_,_,_=>bH.err
 |g+1,p,acc,m0,p0,a,c=>by
  rw[eS];split
  ·exact bH.of_ok c a
  ·cases f:F p with
   |error l=>exact bH.err
   |ok d=>
    obtain⟨s,q⟩:=d;obtain⟨m,h,e⟩:=b p s q f;exact qC b g q _ (m0+m) p0 (a.snoc e) o_
end
def TJ(ts:List aP)(T:bR ts)(e:0<ts.length)(ks:List aC)(q:Nat)(h:jX ts=.ok (ks,q)):FineL ts.length ks:=by
 obtain⟨m,f,d⟩:=qC (λq=>TK (λb=>xY (λq=>CD ts _ q) _ b) q) (ts.length+1) 0 [] 0 0 FineL.nil o_ ks q h
 have:=(T.progLoop (λq a=>T.func (λb c=>T.block (λq a=>T.exprs q a) _ b c o_) a) _ 0 [] e o_).ok ks q h
 exact d.le o_
def kY{ks:List aC}(h:cX l=.ok ks):FineL 2001 ks:=by
 unfold cX at h;split at h
 ·cases h
 rename_i e;split at h
 ·cases h
 split at h
 ·cases h
 rename_i c d;obtain⟨a,f⟩:=sM d;split at h
 ·cases h
 rename_i q b;cases h;exact(TJ c a.ok a.some_ _ _ b).le o_
def eT:Nat->aC->Prop
 |0,_=>False
 |d+1,n=>∀k∈n.y_,eT d k
def nZ:∀(m:Nat) (a:aC),FineA m a->eT m a
 |0,a,h=>by
  have:=(h 1).1;simp only[bU] at this;omega
 |m+1,a,h=>λk b=>nZ m k λd=>by
  have f:=(h (d+1)).1;have e:=(h (d+1)).2.2 k b;refine⟨?_,e⟩
  have:bU d k<=(a.y_.map (bU d)).sum:=by
   have:∀l:List aC,k∈l->bU d k<=(l.map (bU d)).sum:=by
    intro l;induction l with
    |nil=>intro h;cases h
    |cons x l c=>
     intro h;simp only[ew,ey];rcases en.1 h with rfl|h
     ·omega
     ·have:=c h;omega
   exact this _ b
  simp only[bU] at f;omega
def eL(fs:List aC)(d:Nat)(s:bA)(k:aC):bA:=
 if k.op==[112,97,114,97,109] then { declaresL s k with e_:=(declaresL s k).e_++[k.x_] } else aM fs false d k s
def fX(fs:List aC)(d:Nat)(s:bA)(n:aC)(first:Bool):bA:=
 n.y_.foldl (eL fs d) { (if fR n.x_ || !first then s.found n.l_ 6 else s) with e_:=[] }
def eX(fs:List aC)(d:Nat):List aC->List aC->bA->bA
 |_,[],s=>s
 |pre,n::rest,s=>eX fs d (pre++[n]) rest (fX fs d s n (dM pre n.x_).isNone)
def kQ(d:Nat)(ks:List aC):Nat × Nat:=
 match dM ks [109,97,105,110] with
 |none=>(5,0)
 |some m=>if 1<m.y_.length then (5,0) else ((eX ks d [] ks ⟨[],0,0⟩).kind,(eX ks d [] ks ⟨[],0,0⟩).l_)
def dL(l:List UInt8):Nat × Nat:=
 match cX l with
 |.error f=>f
 |.ok ks=>kQ 2001 ks
def oI(t:aP):Prop:=t.sort=112\/(t.sort=107/\gN.contains t.x_=true)\/t.sort=110\/(t.sort=48/\(cD 0 t.x_).isSome=true)\/t.sort=115\/t.sort=101
def ET(ts:List aP):Prop:=∀t∈ts,oI t
def FD(l:List UInt8)(l_:Nat)(h:(bJ l).ok=true):oI { sort:=(bJ l).sort,x_:=(bJ l).x_,l_:=l_ }:=by
 cases l with
 |nil=>simp[bJ] at h
 |cons c r=>
  rw[bJ] at h ⊢
  split
  ·rename_i a;rw[if_pos a] at h;unfold gD at h ⊢
   split
   ·by_cases b:gN.contains ((c::r).take (bF (dU (eC c)) (c::r)))=true
    ·rw[if_pos b];exact d5 (d6 ⟨rfl,b⟩)
    ·rw[if_neg b];exact d5 (d5 (d6 rfl))
   ·rename_i f;rw[if_neg f] at h;exact d5 (d5 (d5 (d6 ⟨rfl,h⟩)))
  ·rename_i a;rw[if_neg a] at h;split
   ·exact d5 (d5 (d5 (d5 (d6 rfl))))
   ·rename_i d;rw[if_neg d] at h;unfold gM at h ⊢
    cases e:cA.find? (λo=>cN (c::r) o) with
    |none=>rw[e] at h;simp at h
    |some o=>exact d6 rfl
def TB(f:Nat):∀(a l:List UInt8) (ts:List aP),cU f a l=.ok ts->ET ts:=by
 induction f with
 |zero=>intro a l ts h;cases h
 |succ f i=>
  intro a l ts h;by_cases d:l.length=0
  ·rw[kW _ _ _ d] at h;cases h;intro t b;rw[et.1 b];exact d5 (d5 (d5 (d5 (d5 rfl))))
  ·cases c:(bJ l).ok
   ·rw[kX _ _ _ d c] at h;cases h
   ·rw[gV _ _ _ d c _ rfl] at h;cases e:cU f (a++l.take ((bJ l).size+blankL l.length (l.drop (bJ l).size))) (l.drop ((bJ l).size+blankL l.length (l.drop (bJ l).size))) with
    |error n=>rw[e] at h;cases h
    |ok g=>
     rw[e] at h;cases h;intro t b;rcases en.1 b with rfl|b
     ·exact FD l _ c
     ·exact i _ _ g e t b
def NY{ts:List aP}(h:fJ l=.ok ts):ET ts:=TB _ _ _ _ h
def ET.tk{ts:List aP}(h:ET ts)(p:Nat)(a:p<ts.length):oI (aN ts p):=by
 have:aN ts p=ts[p]:=by unfold aN;rw[fg a];rfl
 rw[this];exact h _ (fi a)
structure aJ where
 sort:Nat
 n:Int
 s:List UInt8
 l:List aJ
def aJ.ind{P:aJ->Prop}(h:∀v,(∀x,x∈v.l->P x)->P v):∀v,P v
 |⟨a,b,c,l⟩=>h ⟨a,b,c,l⟩ λx _=>aJ.ind h x
def aW(n:Int):aJ:=⟨0,n,[],[]⟩
def bM(b:Bool):aJ:=⟨1,if b then 1 else 0,[],[]⟩
def bI(s:List UInt8):aJ:=⟨2,0,s,[]⟩
def aT(l:List aJ):aJ:=⟨3,0,[],l⟩
def bL:aJ:=⟨0,0,[],[]⟩
noncomputable def aJ.fold(f:Nat->Int->List UInt8->List α->α)(v:aJ):α:=
 aJ.rec (motive_1:=λ_=>α) (motive_2:=λ_=>List α) (λa n s _ c=>f a n s c) [] (λ_ _ h t=>h::t) v
def aJ.fold_eq(f:Nat->Int->List UInt8->List b->b)(v:aJ):v.fold f=f v.sort v.n v.s (v.l.map (aJ.fold f)):=by
 obtain⟨a,n,s,l⟩:=v;refine congrArg (f a n s) ?_;induction l with
 |nil=>rfl
 |cons x l c=>exact congrArg (aJ.fold f x::·) c
noncomputable def aK(v:aJ):Nat:=v.fold λ_ _ s c=>1+s.length+c.sum
def eV(v:aJ):aK v=1+v.s.length+(v.l.map aK).sum:=aJ.fold_eq _ v
def XO:Nat->aJ->Prop
 |0,_=>True
 |d+1,v=> -9223372036854775808<=v.n/\v.n<=9223372036854775807/\∀x∈v.l,XO d x
structure nX(v:aJ):Prop where
 all:∀d,XO d v
def nX.lo{v:aJ}(h:nX v): -9223372036854775808<=v.n:=(h.all 1).1
def nX.hi{v:aJ}(h:nX v):v.n<=9223372036854775807:=(h.all 1).2.1
def nX.kid{v x:aJ}(h:nX v)(a:x∈v.l):nX x:=⟨λd=>(h.all (d+1)).2.2 x a⟩
def nX.mk'{v:aJ}(b: -9223372036854775808<=v.n)(a:v.n<=9223372036854775807)(c:∀x∈v.l,nX x):nX v:=
 ⟨λd=>by
   cases d with
   |zero=>trivial
   |succ d=>exact⟨b,a,λx e=>(c x e).all d⟩⟩
def nC:List (α->Bool)->List α->Bool
 |[],[]=>true
 |f::fs,x::xs=>f x && nC fs xs
 |_,_=>false
noncomputable def cG(x:aJ):aJ->Bool:=x.fold λa n s c y=>a==y.sort && (n==y.n && (s==y.s && nC c y.l))
def TX(x y:aJ):cG x y=(x.sort==y.sort && (x.n==y.n && (x.s==y.s && nC (x.l.map cG) y.l))):=congrFun (aJ.fold_eq _ x) y
def yB:∀x y:aJ,cG x y=true↔x=y:=by
 refine aJ.ind λx e y=>?_
 have d:∀(l:List aJ),(∀v,v∈l->∀y,cG v y=true↔v=y)->∀m:List aJ,nC (l.map cG) m=true↔l=m:=by
  intro l;induction l with
  |nil=>intro _ m;cases m<;>simp[nC]
  |cons a l c=>
   intro h m;cases m with
   |nil=>simp[nC]
   |cons b m=>simp[nC,h a s_ b,c (λv f=>h v (by simp[f])) m]
 rw[TX];simp only[fq,beq_iff_eq,d x.l e y.l];constructor
 ·rintro⟨j,g,k,i⟩;cases x;cases y;simp_all
 ·rintro rfl;simp
def digitsF:Nat->Nat->List UInt8->List UInt8
 |0,_,t=>t
 |f+1,n,t=>if n<10 then UInt8.ofNat (48+n)::t else digitsF f (n/10) (UInt8.ofNat (48+n%10)::t)
def cK(n:Int):List UInt8:=(if n<0 then [45] else [])++digitsF 20 n.natAbs []
def eU:List (List UInt8)->List UInt8
 |[]=>[]
 |[x]=>x
 |x::r=>x++[44,32]++eU r
noncomputable def cF(v:aJ):List UInt8:=
 v.fold λa n s c=>if a=0 then cK n else if a=1 then (if n=1 then [116,114,117,101] else [102,97,108,115,101]) else if a=2 then [34]++s++[34] else [91]++eU c++[93]
def iU(v:aJ):cF v=if v.sort=0 then cK v.n else if v.sort=1 then (if v.n=1 then [116,114,117,101] else [102,97,108,115,101]) else if v.sort=2 then [34]++v.s++[34] else [91]++eU (v.l.map cF)++[93]:=aJ.fold_eq _ v
noncomputable def gF(v:aJ):List UInt8:=if v.sort=2 then v.s else cF v
def jB(n:Int):Int:=(n+9223372036854775808)%18446744073709551616-9223372036854775808
noncomputable def jG(a b:aJ):aJ × Nat:=
 let v:=if a.sort=3 then aT (a.l++b.l) else bI (a.s++b.s)
 if 200<aK v then (bL,6) else (v,0)
def jH(op:List UInt8)(x y:Int):aJ × Nat:=
 if op=[43] then (aW (jB (x+y)),0)
 else if op=[45] then (aW (jB (x-y)),0)
 else if op=[42] then (aW (jB (x*y)),0)
 else if op=[60] then (bM (decide (x<y)),0)
 else if op=[60,61] then (bM (decide (x<=y)),0)
 else if y=0 then (bL,3)
 else if op=[47] then (aW (jB (x.tdiv y)),0)
 else (aW (jB (x.tmod y)),0)
def gG:List UInt8->List UInt8->Bool
 |[],[]=>false
 |[],_::_=>true
 |_::_,[]=>false
 |a::l,b::m=>if a.toNat<b.toNat then true else if b.toNat<a.toNat then false else gG l m
noncomputable def eN(op:List UInt8)(a b:aJ):aJ × Nat:=
 if op=[61,61] then (bM (cG a b),0)
 else if op=[33,61] then (bM (!cG a b),0)
 else if a.sort≠b.sort\/a.sort=1 then (bL,2)
 else if a.sort=0 then jH op a.n b.n
 else if op=[43] then jG a b
 else if a.sort=2/\op=[60] then (bM (gG a.s b.s),0)
 else if a.sort=2/\op=[60,61] then (bM (!gG b.s a.s),0)
 else (bL,2)
def fH(op:List UInt8)(a:aJ):aJ × Nat:=
 if op=[45,120]/\a.sort=0 then (aW (jB (-a.n)),0)
 else if op=[33,120]/\a.sort=1 then (bM (decide (a.n=0)),0)
 else (bL,2)
def iJ:Nat->List UInt8->List (List UInt8)
 |0,_=>[]
 |f+1,l=>if l=[] then [] else if bC l=0 then [] else l.take (bC l)::iJ f (l.drop (bC l))
def dW(l:List UInt8):List (List UInt8):=iJ l.length l
def eD(a:aJ):aJ × Nat:=
 if a.sort=3 then (aW a.l.length,0) else if a.sort=2 then (aW (dW a.s).length,0) else (bL,2)
def jL(a:aJ):List aJ:=if a.sort=2 then (dW a.s).map bI else a.l
def dB(a b:aJ):aJ × Nat:=
 if a.sort<2\/b.sort≠0 then (bL,2)
 else if b.n<0\/((jL a).length:Int)<=b.n then (bL,4)
 else ((jL a).getD b.n.toNat bL,0)
def cM:List aJ->aJ->aJ->aJ × Nat
 |[],_,v=>(v,0)
 |i::at',old,v=>
  if old.sort≠3\/i.sort≠0 then (bL,2)
  else if i.n<0\/(old.l.length:Int)<=i.n then (bL,4)
  else if (cM at' (old.l.getD i.n.toNat bL) v).2≠0 then (bL,(cM at' (old.l.getD i.n.toNat bL) v).2)
  else (aT (old.l.set i.n.toNat (cM at' (old.l.getD i.n.toNat bL) v).1),0)
def kD:bC l<=l.length:=by
 unfold bC;cases l with
 |nil=>simp
 |cons b r=>
  simp only[jx]
  have q:∀i c d,dF (b::r) i c d=true->i<(b::r).length:=by
   intro i c d h;unfold dF at h;rcases fk i (b::r).length with a|a
   ·exact a
   ·rw[gg a] at h;simp at h
  split
  ·simp
  split
  ·split
   ·have:=q 1 _ _ (by assumption);omega
   ·simp
  split
  ·generalize (if b.toNat=224 then 160 else 128)=f
   generalize (if b.toNat=237 then 159 else 191)=e
   split
   ·rename_i h;rw[fq] at h;have:=q 2 _ _ h.2;omega
   ·simp
  split
  ·generalize (if b.toNat=240 then 144 else 128)=f
   generalize (if b.toNat=244 then 143 else 191)=e
   split
   ·rename_i h;rw[fq] at h;have:=q 3 _ _ h.2;omega
   ·simp
  ·simp
def rJ:∀(f:Nat) (l:List UInt8),l.length<=f->iJ f l=dW l:=by
 have h:∀(n f g:Nat) (l:List UInt8),l.length<=n->l.length<=f->l.length<=g->iJ f l=iJ g l:=by
  intro n;induction n with
  |zero=>
   intro f g l e c i;have:l=[]:=io.1 o_
   subst this;cases f<;>cases g<;>simp[iJ]
  |succ n d=>
   intro f g l e c i;by_cases a:l=[]
   ·subst a;cases f<;>cases g<;>simp[iJ]
   ·have j:0<l.length:=ie.2 a;cases f with
    |zero=>omega
    |succ f=>
     cases g with
     |zero=>omega
     |succ g=>
      rw[iJ,iJ,if_neg a,if_neg a];by_cases b:bC l=0
      ·rw[if_pos b,if_pos b]
      ·rw[if_neg b,if_neg b,d f g (l.drop (bC l)) (by rw[gj];omega) (by rw[gj];omega) (by rw[gj];omega)]
 exact λf l a=>h l.length f l.length l (d7 _) a (d7 _)
def iI(a:l≠[])(b:bC l≠0):dW l=l.take (bC l)::dW (l.drop (bC l)):=by
 have c:0<l.length:=ie.2 a;obtain⟨n,d⟩:∃n,l.length=n+1:=⟨l.length-1,o_⟩
 rw[<-rJ (n+1) l o_,iJ,if_neg a,if_neg b,rJ n _ (by rw[gj];omega)]
def dR(h:l=[]\/bC l=0):dW l=[]:=by
 unfold dW;cases a:l.length with
 |zero=>rfl
 |succ n=>
  rw[iJ];rcases h with h|h
  ·rw[if_pos h]
  ·rw[if_pos h];split<;>rfl
def tB(l:List UInt8):(dW l).length<=l.length:=by
 have h:∀(n:Nat) (l:List UInt8),l.length<=n->(dW l).length<=l.length:=by
  intro n;induction n with
  |zero=>
   intro l d;rw[dR (d6 (io.1 o_))];simp
  |succ n c=>
   intro l d;by_cases a:l=[]
   ·rw[dR (d6 a)];simp
   by_cases b:bC l=0
   ·rw[dR (d5 b)];simp
   have e:0<l.length:=ie.2 a;rw[iI a b,ek];have:=c (l.drop (bC l)) (by rw[gj];omega)
   rw[gj] at this;have:= @kD l;omega
 exact h l.length l (d7 _)
inductive aH where
 |begin (l_:Nat) (e_:List (List UInt8))
 |push (v:aJ)
 |load (slot:Nat)
 |declare (slot:Nat)
 |assign (slot n:Nat)
 |jump (to_:Nat)
 |skip (to_:Nat)
 |shortcut (when:Bool) (to_:Nat)
 |truth
 |unary (op:List UInt8)
 |binary (op:List UInt8)
 |index
 |list (n:Nat)
 |length
 |read
 |call (f:Nat) (n:Nat)
 |give
 |drop
 |print
def aH.isBegin:aH->Bool
 |.begin _ _=>true
 |_=>false
structure dQ where
 name:List UInt8
 code:List aH
structure aI where
 fn:dQ
 next:Nat
 l_:Nat
 e_:List (List UInt8)
 g_:List aJ
 ops:List aJ
structure bX where
 f_:List aI
 tape:List Int
 out:List (List UInt8)
def aI.push(f:aI)(v:aJ):aI:={ f with ops:=f.ops++[v] }
def aI.last(f:aI):aJ:=f.ops.getLast?.getD bL
def aI.pop(f:aI):aI:={ f with ops:=f.ops.dropLast }
def aI.many(f:aI)(n:Nat):List aJ:=f.ops.drop (f.ops.length-n)
def aI.popMany(f:aI)(n:Nat):aI:={ f with ops:=f.ops.take (f.ops.length-n) }
noncomputable def iH(r:aJ × Nat):aJ × Nat:=if r.2=0 then if 200<aK r.1 then (bL,6) else r else r
noncomputable def nH(whole:aJ)(at_:List aJ)(to_:aJ):aJ × Nat:=iH (cM at_ whole to_)
noncomputable def aO(i:aH)(f:aI):aI × Nat:=
 match i with
 |.begin l s=>({ f with l_:=l,e_:=s },0)
 |.push v=>(f.push v,0)
 |.load k=>(f.push (f.g_[k]?.getD bL),0)
 |.declare k=>({ f.pop with g_:=f.g_.take k++[f.last] },0)
 |.assign k n=>
  let g:=f.pop.popMany n
  let r:=nH (f.g_[k]?.getD bL) (f.pop.many n) f.last
  if r.2=0 then ({ g with g_:=f.g_.set k r.1 },0) else (g,r.2)
 |.jump t=>({ f with next:=t },0)
 |.skip t=>if f.last.sort=1 then (if f.last.n=1 then f.pop else { f.pop with next:=t },0) else (f.pop,2)
 |.shortcut w t=>if f.last.sort=1 then (if decide (f.last.n=1)=w then { f.pop.push f.last with next:=t } else f.pop,0) else (f.pop,2)
 |.truth=>if f.last.sort=1 then (f.pop.push f.last,0) else (f.pop,2)
 |.unary op=>let r:=fH (op++[120]) f.last;if r.2=0 then (f.pop.push r.1,0) else (f.pop,r.2)
 |.binary op=>let r:=eN op f.pop.last f.last;if r.2=0 then (f.pop.pop.push r.1,0) else (f.pop.pop,r.2)
 |.index=>let r:=dB f.pop.last f.last;if r.2=0 then (f.pop.pop.push r.1,0) else (f.pop.pop,r.2)
 |.list n=>let r:=iH (aT (f.many n),0);if r.2=0 then ((f.popMany n).push r.1,0) else (f.popMany n,r.2)
 |.length=>let r:=eD f.last;if r.2=0 then (f.pop.push r.1,0) else (f.pop,r.2)
 |.drop=>(f.pop,0)
 |_=>(f,0)
noncomputable def bY(tab:List dQ)(i:aH)(w_:List aI)(f:aI)(tape:List Int)(out:List (List UInt8)):bX × Nat:=
 match i with
 |.read=>
  match tape with
  |[]=>(⟨w_++[f],tape,out⟩,7)
  |t::r=>(⟨w_++[f.push (aW t)],r,out⟩,0)
 |.call k n=>
  if w_.length+1=16 then (⟨w_++[f.popMany n],tape,out⟩,5)
  else (⟨w_++[f.popMany n,⟨tab[k]?.getD ⟨[],[]⟩,0,0,[],f.many n,[]⟩],tape,out⟩,0)
 |.give=>(⟨w_.dropLast++(w_.getLast?.map λg=>g.push f.last).toList,tape,out⟩,0)
 |.print=>if out.length=50 then (⟨w_++[f.pop],tape,out⟩,8) else (⟨w_++[f.pop],tape,out++[gF f.last]⟩,0)
 |i=>let r:=aO i f;(⟨w_++[r.1],tape,out⟩,r.2)
def aI.fetch(f:aI):Option (aH × aI):=f.fn.code[f.next]?.map λi=>(i,{ f with next:=f.next+1 })
noncomputable def dV(tab:List dQ):Nat->bX->Option (bX × Nat)
 |0,_=>none
 |k+1,m=>
  match m.f_.getLast? with
  |none=>some (m,1)
  |some f=>
   match f.fetch with
   |none=>none
   |some (i,g)=>
    let r:=bY tab i m.f_.dropLast g m.tape m.out
    if r.2≠0 then some r
    else if i.isBegin then some r
    else dV tab k r.1
structure bZ where
 m_:Nat
 m:bX
 stop:Nat
def bS(m_ stop:Nat):Nat:=if stop=0/\m_=500 then 9 else stop
def eB:List (List UInt8)->List UInt8->Nat
 |[],_=>0
 |x::l,name=>if x=name then l.length else eB l name
def dA(fs:List aC)(name:List UInt8):Nat:=fs.findIdx λf=>f.x_==name
def bP(c:aC->Nat->List aH):List aC->Nat->List aH
 |[],_=>[]
 |a::l,p=>c a p++bP c l (p+(c a p).length)
def aG(fs:List aC)(e_:List (List UInt8)):Nat->aC->Nat->List aH
 |0,_,_=>[]
 |d+1,a,p=>
  let y_:=bP (aG fs e_ d) a.y_ p
  if a.op==[48] then [.push (aW (((cD 0 a.x_).getD 0:Nat):Int))]
  else if a.op==[115] then [.push (bI a.x_)]
  else if a.op==[98,111,111,108] then [.push (bM (a.x_==[116,114,117,101]))]
  else if a.op==[110,97,109,101] then [.load (eB e_ a.x_)]
  else if a.op==[108,105,115,116] then y_++[.list a.y_.length]
  else if a.op==[105,110,100,101,120] then y_++[.index]
  else if a.op==[45,120] then y_++[.unary [45]]
  else if a.op==[33,120] then y_++[.unary [33]]
  else if a.op==[99,97,108,108] then
   y_++[if a.x_==[108,101,110] then .length else if a.x_==[114,101,97,100] then .read else .call (dA fs a.x_) a.y_.length]
  else if a.op==[38,38] || a.op==[124,124] then
   match a.y_ with
   |[l,r]=>
    let cl:=aG fs e_ d l p
    let cr:=aG fs e_ d r (p+cl.length+1)
    cl++[.shortcut (a.op==[124,124]) (p+cl.length+1+cr.length+1)]++cr++[.truth]
   |_=>[]
  else y_++[.binary a.op]
def bG(c:List (List UInt8)->aC->Nat->List aH × List (List UInt8)):List (List UInt8)->List aC->Nat->List aH
 |_,[],_=>[]
 |e_,a::l,p=>(c e_ a p).1++bG c (c e_ a p).2 l (p+(c e_ a p).1.length)
def bB(fs:List aC):Nat->List (List UInt8)->aC->Nat->List aH × List (List UInt8)
 |0,e_,_,_=>([],e_)
 |d+1,e_,a,p=>
  let start:=aH.begin a.l_ e_
  let blk:=λ(b:aC) q=>bG (bB fs d) e_ b.y_ q
  if a.op==[118,97,114] then
   match a.y_ with
   |[t,v]=>(start::aG fs e_ d v (p+1)++[.declare e_.length],t.x_::e_)
   |_=>([],e_)
  else if a.op==[115,101,116] then
   (start::bP (aG fs e_ d) a.y_ (p+1)++[.assign (eB e_ a.x_) (a.y_.length-1)],e_)
  else if a.op==[105,102] then
   match a.y_ with
   |c::t::e=>
    let cc:=aG fs e_ d c (p+1)
    let ct:=blk t (p+1+cc.length+1)
    let q:=p+1+cc.length+1+ct.length+1
    let ce:=match e with|[x]=>blk x q|_=>[]
    (start::cc++[.skip q]++ct++[.jump (q+ce.length)]++ce,e_)
   |_=>([],e_)
  else if a.op==[119,104,105,108,101] then
   match a.y_ with
   |[c,b]=>
    let cc:=aG fs e_ d c (p+1)
    let cb:=blk b (p+1+cc.length+1)
    (start::cc++[.skip (p+1+cc.length+1+cb.length+1)]++cb++[.jump p],e_)
   |_=>([],e_)
  else if a.op==[114,101,116,117,114,110] then
   match a.y_ with
   |[v]=>(start::aG fs e_ d v (p+1)++[.give],e_)
   |_=>([start,.push (aW 0),.give],e_)
  else if a.op==[112,114,105,110,116] then
   match a.y_ with
   |[v]=>(start::aG fs e_ d v (p+1)++[.print],e_)
   |_=>([],e_)
  else
   match a.y_ with
   |[c]=>(start::aG fs e_ d c (p+1)++[.drop],e_)
   |_=>([],e_)
def fK(fs:List aC)(d:Nat)(f:aC):dQ:=
 let e_:=(f.y_.dropLast.map (·.x_)).reverse
 ⟨f.x_,bG (bB fs d) e_ ((f.y_.getLast?.map (·.y_)).getD []) 0++[.push (aW 0),.give]⟩
def dS(fs:List aC)(d:Nat):List dQ:=fs.map (fK fs d)
def iD(fs:List aC)(d:Nat)(tape:List Int):bX:=⟨[⟨(dS fs d)[dA fs [109,97,105,110]]?.getD ⟨[],[]⟩,0,0,[],[],[]⟩],tape,[]⟩
structure eE where
 h:Nat
 v:Nat
 e:Option Nat
 b:Bool
def eJ(D:Nat->Prop)(T:Nat->eE)(q h v:Nat)(e:Option Nat):Prop:=D q/\(T q).h=h/\(T q).v<=v/\((T q).e=none\/(T q).e=e)
def iT(ar:Nat->Option Nat)(D:Nat->Prop)(T:Nat->eE)(p:Nat)(i:aH):Prop:=
 (T p).b=i.isBegin/\(T p).h<=p/\
 match i with
 |.begin _ s=>s.length<=(T p).v/\eJ D T (p+1) (T p).h (T p).v (some s.length)
 |.push _=>eJ D T (p+1) ((T p).h+1) (T p).v (T p).e
 |.load k=>k<(T p).v/\eJ D T (p+1) ((T p).h+1) (T p).v (T p).e
 |.declare k=>1<=(T p).h/\k<=(T p).v/\k<=90000/\(T p).e=some k/\eJ D T (p+1) ((T p).h-1) (k+1) (T p).e
 |.assign k n=>n+1<=(T p).h/\k<(T p).v/\eJ D T (p+1) ((T p).h-(n+1)) (T p).v (T p).e
 |.jump q=>(p<q\/(T q).b=true)/\eJ D T q (T p).h (T p).v (T p).e
 |.skip q=>1<=(T p).h/\p<q/\eJ D T q ((T p).h-1) (T p).v (T p).e/\eJ D T (p+1) ((T p).h-1) (T p).v (T p).e
 |.shortcut _ q=>1<=(T p).h/\p<q/\eJ D T q (T p).h (T p).v (T p).e/\eJ D T (p+1) ((T p).h-1) (T p).v (T p).e
 |.truth=>1<=(T p).h/\eJ D T (p+1) (T p).h (T p).v (T p).e
 |.unary _=>1<=(T p).h/\eJ D T (p+1) (T p).h (T p).v (T p).e
 |.length=>1<=(T p).h/\eJ D T (p+1) (T p).h (T p).v (T p).e
 |.binary _=>2<=(T p).h/\eJ D T (p+1) ((T p).h-1) (T p).v (T p).e
 |.index=>2<=(T p).h/\eJ D T (p+1) ((T p).h-1) (T p).v (T p).e
 |.list n=>n<=(T p).h/\eJ D T (p+1) ((T p).h-n+1) (T p).v (T p).e
 |.read=>eJ D T (p+1) ((T p).h+1) (T p).v (T p).e
 |.call k n=>n<=(T p).h/\ar k=some n/\eJ D T (p+1) ((T p).h-n+1) (T p).v (T p).e
 |.give=>1<=(T p).h
 |.drop=>1<=(T p).h/\eJ D T (p+1) ((T p).h-1) (T p).v (T p).e
 |.print=>1<=(T p).h/\eJ D T (p+1) ((T p).h-1) (T p).v (T p).e
def NM(L:Nat->eE->Prop)(lo hi:Nat)(q:Nat):Prop:=(lo<=q/\q<=hi)\/∃y,L q y
def bE(ar:Nat->Option Nat)(L:Nat->eE->Prop)(p:Nat)(c:List aH)(h v:Nat)(e:Option Nat)(h' v':Nat)(e':Option Nat):Prop:=
 ∃T:Nat->eE,(∀q y,L q y->T q=y)/\(T p).h=h/\(T p).v<=v/\((T p).e=none\/(T p).e=e)/\
  (T (p+c.length)).h=h'/\(T (p+c.length)).v=v'/\(T (p+c.length)).e=e'/\
  ∀j i,c[j]?=some i->iT ar (NM L p (p+c.length)) T (p+j) i
def eJ.same{D b:Nat->Prop}{T T':Nat->eE}(f:eJ D T q h v e)(c:D q->b q/\(T' q).h=(T q).h/\(T' q).v<=(T q).v/\((T' q).e=none\/(T' q).e=(T q).e)):eJ b T' q h v e:=by
 obtain⟨j,d,m,i⟩:=f;obtain⟨k,g,l,a⟩:=c j;refine⟨k,by rw[g,d],o_,?_⟩
 rcases a with a|a
 ·exact d6 a
 ·rw[a];exact i
def iT.same{D e:Nat->Prop}{T T':Nat->eE}{i:aH}(f:iT ar D T p i)(c:T' p=T p)
 (b:∀q,D q->e q/\(T' q).h=(T q).h/\(T' q).v<=(T q).v/\((T' q).e=none\/(T' q).e=(T q).e)) (k:∀q,D q->q<=p->(T q).b=true->(T' q).b=true):iT ar e T' p i:=by
 obtain⟨j,g,a⟩:=f;refine⟨by rw[c];exact j,by rw[c];exact g,?_⟩
 cases i<;>simp only at a ⊢<;>try rw[c]
 case jump q=>
  refine⟨?_,a.2.same (b _)⟩;rcases a.1 with h|h
  ·exact d6 h
  ·rcases fk p q with d|d
   ·exact d6 d
   ·exact d5 (k q a.2.1 d h)
 all_goals first
  |exact a
  |exact a.same (b _)
  |exact⟨a.1,a.2.same (b _)⟩
  |exact⟨a.1,a.2.1,a.2.2.same (b _)⟩
  |exact⟨a.1,a.2.1,a.2.2.1.same (b _),a.2.2.2.same (b _)⟩
  |exact⟨a.1,a.2.1,a.2.2.1,a.2.2.2.1,a.2.2.2.2.same (b _)⟩
def bE.append{L:Nat->eE->Prop}{c c':List aH}{s r:Nat}{w t:Option Nat}(a:bE ar L p c h v e s v1 w)(b:bE ar L (p+c.length) c' s v1 w r v2 t)
 (F:∀q y,L q y->q<=p\/p+c.length+c'.length<=q) (I:c≠[]):bE ar L p (c++c') h v e r v2 t:=by
 obtain⟨T,n,x,z,C,H,E,D,G⟩:=a;obtain⟨U,u1,u2,u3,u4,u5,u6,u7,u8⟩:=b;have B:0<c.length:=ie.2 I;have f:(c++c').length=c.length+c'.length:=ei;refine⟨λq=>if q<p+c.length then T q else U q,λq y d=>?_,?_,?_,?_,?_,?_,?_,λj i m=>?_⟩
 ·rcases F q y d with h|h
  ·simp only[if_pos (show q<p+c.length by omega)];exact n q y d
  ·simp only[if_neg (show ¬q<p+c.length by omega)];exact u1 q y d
 ·simp only[if_pos (show p<p+c.length by omega)];exact x
 ·simp only[if_pos (show p<p+c.length by omega)];exact z
 ·simp only[if_pos (show p<p+c.length by omega)];exact C
 ·simp only[if_neg (show ¬p+(c++c').length<p+c.length by omega)];rw[f,<-jh];exact u5
 ·simp only[if_neg (show ¬p+(c++c').length<p+c.length by omega)];rw[f,<-jh];exact u6
 ·simp only[if_neg (show ¬p+(c++c').length<p+c.length by omega)];rw[f,<-jh];exact u7
 ·rcases fk j c.length with k|k
  ·rw[gy k] at m;refine(G j i m).same (by simp only[if_pos (show p+j<p+c.length by omega)]) (λq d=>?_) (λq d o l=>?_)
   ·rcases fk q (p+c.length) with h|h
    ·rw[if_pos h];exact⟨d.imp (λd=>⟨d.1,o_⟩) id,rfl,d7 _,d5 rfl⟩
    ·rw[if_neg (show ¬q<p+c.length by omega)]
     rcases g8 h with h|h
     ·subst h;exact⟨d6 ⟨o_,o_⟩,by rw[u2,H],by rw[E];exact u3,by rw[D];exact u4⟩
     ·rcases d with d|⟨y,g⟩
      ·omega
      ·rw[n q y g,u1 q y g];exact⟨d5 ⟨y,g⟩,rfl,d7 _,d5 rfl⟩
   ·simp only[if_pos (show q<p+c.length by omega)];exact l
  ·rw[gh k] at m;have u:=u8 (j-c.length) i m;rw[show p+c.length+(j-c.length)=p+j by omega] at u
   have A:j-c.length<c'.length:=(gr.1 m).1;refine u.same (by simp only[if_neg (show ¬p+j<p+c.length by omega)]) (λq d=>?_) (λq d o l=>?_)
   ·rcases d with d|⟨y,g⟩
    ·rw[if_neg (show ¬q<p+c.length by omega)]
     exact⟨d6 ⟨o_,o_⟩,rfl,d7 _,d5 rfl⟩
    ·refine⟨d5 ⟨y,g⟩,?_⟩;split
     ·rw[n q y g,u1 q y g];exact⟨rfl,d7 _,d5 rfl⟩
     ·exact⟨rfl,d7 _,d5 rfl⟩
   ·rcases d with d|⟨y,g⟩
    ·simp only[if_neg (show ¬q<p+c.length by omega)];exact l
    ·split
     ·rw[n q y g,<-u1 q y g];exact l
     ·exact l
def bE.nil(ar:Nat->Option Nat)(p h v:Nat)(e:Option Nat)(L:Nat->eE->Prop)(k:∀q y,L q y->q=p->y.h=h/\y.v=v/\y.e=e)(l:∀q y z,L q y->L q z->y=z):bE ar L p [] h v e h v e:=by
 classical
 refine⟨λq=>if hq:∃y,L q y then hq.choose else ⟨h,v,e,false⟩,λq y d=>?_,?_⟩
 ·have a:∃y,L q y:=⟨y,d⟩;simp only[dif_pos a];exact l q _ _ a.choose_spec d
 ·simp only[ep,iz];split
  ·rename_i a;obtain⟨c,g,f⟩:=k p _ a.choose_spec rfl;exact⟨c,o_,d5 f,c,g,f,λj i b=>by simp at b⟩
  ·exact⟨rfl,d7 _,d5 rfl,rfl,rfl,rfl,λj i b=>by simp at b⟩
structure oQ(ar:Nat->Option Nat)(c:List aH)(T:Nat->eE):Prop where
 ins:∀j i,c[j]?=some i->iT ar (λq=>q<c.length) T j i
 len:c.length<=80000
def iR(c:List aH):Prop:=(∃l s r,c=.begin l s::r)\/∃v,c=[.push v,.give]
structure cJ(ar:Nat->Option Nat)(f:aI)(more:Nat):Prop where
 code:∃T,oQ ar f.fn.code T/\(T f.next).h=f.ops.length+more/\(T f.next).v<=f.g_.length/\((T f.next).e=none\/(T f.next).e=some f.e_.length)
 next:f.next<f.fn.code.length
 e_:f.e_.length<=f.g_.length
 g_:f.g_.length<=90001
structure r9(f:aI):Prop where
 e_:f.e_.length<=f.g_.length
structure kA(ar:Nat->Option Nat)(tab:List dQ):Prop where
 fn:∀k n,ar k=some n->∃f T,tab[k]?=some f/\oQ ar f.code T/\(T 0).h=0/\(T 0).v<=n/\(T 0).e=none/\
  iR f.code
structure nI(ar:Nat->Option Nat)(m:bX):Prop where
 low:∀f∈m.f_.dropLast,cJ ar f 1
 top:∀f,m.f_.getLast?=some f->cJ ar f 0
 deep:m.f_.length<=16
def fC(l:List b)(a:b):(l++[a]).getLast?=some a:=s_
def fY(l:List b)(a:b):(l++[a]).dropLast=l:=s_
def nI.snoc{a:List aI}{f:aI}(d:∀g∈a,cJ ar g 1)(c:cJ ar f 0)(e:a.length+1<=16):nI ar ⟨a++[f],t,o⟩:=
 ⟨by simp only[fY];exact d,λg b=>by simp only[fC] at b;cases b;exact c,t_⟩
def cJ.flow{T:Nat->eE}{f g:aI}(l:oQ ar f.fn.code T)(j:eJ (λq=>q<f.fn.code.length) T g.next h v e)(b:g.fn=f.fn)(m:h=g.ops.length)(n:v<=g.g_.length)(d:e=none\/e=some g.e_.length)
 (i:g.e_.length<=g.g_.length) (k:g.g_.length<=90001):cJ ar g 0:=by
 obtain⟨c,o,p,a⟩:=j;refine⟨⟨T,by rw[b];exact l,o_,o_,?_⟩,by rw[b];exact c,i,k⟩
 rcases a with a|a
 ·exact d6 a
 ·rw[a];exact d
def aI.pop_len(f:aI):f.pop.ops.length=f.ops.length-1:=by simp[aI.pop]
def aI.push_len(f:aI)(v:aJ):(f.push v).ops.length=f.ops.length+1:=by simp[aI.push]
def aI.popMany_len(f:aI)(n:Nat):(f.popMany n).ops.length=f.ops.length-n:=by simp[aI.popMany]
def GH{T:Nat->eE}{f:aI}{i:aH}(e:oQ ar f.fn.code T)(c:iT ar (λq=>q<f.fn.code.length) T f.next i)
 (p:(T f.next).h=f.ops.length) (j:(T f.next).v<=f.g_.length) (d:(T f.next).e=none\/(T f.next).e=some f.e_.length) (b:f.e_.length<=f.g_.length) (g:f.g_.length<=90001)
 (C:i≠.give) (B:i≠.read) (z:i≠.print) (u:∀k n,i≠.call k n) (r:aI × Nat) (a:r=aO i { f with next:=f.next+1 }):
 r.1.e_.length<=r.1.g_.length/\(r.2=0->cJ ar r.1 0):=by
 obtain⟨_,_,c⟩:=c;have x:=b;cases i with
 |give=>exact absurd rfl C
 |read=>exact absurd rfl B
 |print=>exact absurd rfl z
 |call k n=>exact absurd rfl (u k n)
 |begin l s=>
  simp only[aO] at a c;subst a;exact⟨by simp only;omega,λ_=>cJ.flow (f:=f) e c.2 rfl p j (d5 rfl) (by simp only;omega) g⟩
 |push v=>
  simp only[aO] at a c;subst a;exact⟨b,λ_=>cJ.flow (f:=f) e c rfl (by rw[aI.push_len];simp only;omega) j d b g⟩
 |load k=>
  simp only[aO] at a c;subst a;exact⟨b,λ_=>cJ.flow (f:=f) e c.2 rfl (by rw[aI.push_len];simp only;omega) j d b g⟩
 |declare k=>
  simp only[aO] at a c;subst a;obtain⟨G,E,F,A,y⟩:=c;have t:f.e_.length=k:=by rcases d with d|d<;>rw[A] at d<;>cases d;rfl
  have o:(f.g_.take k++[aI.last { f with next:=f.next+1 }]).length=k+1:=t_
  exact⟨by show f.e_.length<=(f.g_.take k++[_]).length;rw[o];omega,λ_=>cJ.flow (f:=f) e y rfl (by show _=(aI.pop _).ops.length;rw[aI.pop_len];simp only;omega) (by show _<=(f.g_.take k++[_]).length;rw[o];omega) d (by show f.e_.length<=(f.g_.take k++[_]).length;rw[o];omega) (by show (f.g_.take k++[_]).length<=_;rw[o];omega)⟩
 |assign k n=>
  simp only[aO] at a c;split at a
  ·subst a;refine⟨by simp only[hQ];exact b,λ_=>cJ.flow (f:=f) e c.2.2 rfl ?_ (by simp only[hQ];exact j) d (by simp only[hQ];exact b) (by simp only[hQ];exact g)⟩
   show _=(aI.popMany _ n).ops.length
   rw[aI.popMany_len,aI.pop_len];simp only;omega
  ·subst a;rename_i m;exact⟨b,λh=>absurd h m⟩
 |jump q=>
  simp only[aO] at a c;subst a;exact⟨b,λ_=>cJ.flow (f:=f) e c.2 rfl p j d b g⟩
 |skip q=>
  simp only[aO] at a c;split at a
  ·subst a;refine⟨?_,λ_=>?_⟩
   ·split<;>exact b
   ·split
    ·exact cJ.flow (f:=f) e c.2.2.2 rfl (by rw[aI.pop_len];simp only;omega) j d b g
    ·exact cJ.flow (f:=f) e c.2.2.1 rfl (by show _=(aI.pop _).ops.length;rw[aI.pop_len];simp only;omega) j d b g
  ·subst a;exact⟨b,λh=>absurd h s_⟩
 |shortcut w q=>
  simp only[aO] at a c;split at a
  ·subst a;refine⟨?_,λ_=>?_⟩
   ·split<;>exact b
   ·split
    ·exact cJ.flow (f:=f) e c.2.2.1 rfl (by show _=(aI.push (aI.pop _) _).ops.length;rw[aI.push_len,aI.pop_len];simp only;omega) j d b g
    ·exact cJ.flow (f:=f) e c.2.2.2 rfl (by rw[aI.pop_len];simp only;omega) j d b g
  ·subst a;exact⟨b,λh=>absurd h s_⟩
 |truth=>
  simp only[aO] at a c;split at a
  ·subst a;exact⟨b,λ_=>cJ.flow (f:=f) e c.2 rfl (by rw[aI.push_len,aI.pop_len];simp only;omega) j d b g⟩
  ·subst a;exact⟨b,λh=>absurd h s_⟩
 |unary D=>
  simp only[aO] at a c;split at a
  ·subst a;exact⟨b,λ_=>cJ.flow (f:=f) e c.2 rfl (by rw[aI.push_len,aI.pop_len];simp only;omega) j d b g⟩
  ·subst a;rename_i m;exact⟨b,λh=>absurd h m⟩
 |length=>
  simp only[aO] at a c;split at a
  ·subst a;exact⟨b,λ_=>cJ.flow (f:=f) e c.2 rfl (by rw[aI.push_len,aI.pop_len];simp only;omega) j d b g⟩
  ·subst a;rename_i m;exact⟨b,λh=>absurd h m⟩
 |binary D=>
  simp only[aO] at a c;split at a
  ·subst a;exact⟨b,λ_=>cJ.flow (f:=f) e c.2 rfl (by rw[aI.push_len,aI.pop_len,aI.pop_len];simp only;omega) j d b g⟩
  ·subst a;rename_i m;exact⟨b,λh=>absurd h m⟩
 |index=>
  simp only[aO] at a c;split at a
  ·subst a;exact⟨b,λ_=>cJ.flow (f:=f) e c.2 rfl (by rw[aI.push_len,aI.pop_len,aI.pop_len];simp only;omega) j d b g⟩
  ·subst a;rename_i m;exact⟨b,λh=>absurd h m⟩
 |list n=>
  simp only[aO] at a c;split at a
  ·subst a;exact⟨b,λ_=>cJ.flow (f:=f) e c.2 rfl (by rw[aI.push_len,aI.popMany_len];simp only;omega) j d b g⟩
  ·subst a;rename_i m;exact⟨b,λh=>absurd h m⟩
 |drop=>
  simp only[aO] at a c;subst a;exact⟨b,λ_=>cJ.flow (f:=f) e c.2 rfl (by rw[aI.pop_len];simp only;omega) j d b g⟩
structure fI(ar:Nat->Option Nat)(m:bX):Prop where
 ok:nI ar m
 start:∀f∈m.f_,iR f.fn.code
def cJ.pushed{f:aI}(h:cJ ar f 1)(v:aJ):cJ ar (f.push v) 0:=by
 obtain⟨⟨T,c,i,g,b⟩,e,a,d⟩:=h;exact⟨⟨T,c,by show (T f.next).h=(f.ops++[v]).length+0;simp;omega,g,b⟩,e,a,d⟩
def JO{b:List dQ}{i:aH}{a:List aI}{f:aI}(g:i≠.give)(e:i≠.read)(c:i≠.print)(d:∀k n,i≠.call k n):bY b i a f t o=(⟨a++[(aO i f).1],t,o⟩,(aO i f).2):=by
 cases i<;>first|rfl|exact absurd rfl g|exact absurd rfl e|exact absurd rfl c|exact absurd rfl (d _ _)
def sT(i:aH)(f:aI):(aO i f).1.fn=f.fn:=by
 cases i<;>simp only[aO]<;>(repeat' split)<;>rfl
def xJ{A:List dQ}(ht:kA ar A){d:List aI}{f:aI}(h:fI ar ⟨d++[f],t,o⟩){i:aH}{g:aI}(I:f.fetch=some (i,g)):
 (∀x∈(bY A i d g t o).1.f_,x.e_.length<=x.g_.length)/\(bY A i d g t o).1.f_.length<=16/\((bY A i d g t o).2=0->fI ar (bY A i d g t o).1):=by
 have q:∀x∈d,cJ ar x 1:=by have:=h.ok.low;simpa only[fY] using this
 have Q:cJ ar f 0:=h.ok.top f (fC _ _);have w:d.length+1<=16:=by have:=h.ok.deep;simpa using this
 have z:∀x∈d,iR x.fn.code:=λx m=>h.start x (by simp[m])
 have H:iR f.fn.code:=h.start f s_
 obtain⟨⟨T,K,hh,W,X⟩,ac,C,V⟩:=Q
 obtain⟨rfl,hi⟩:g={ f with next:=f.next+1 }/\f.fn.code[f.next]?=some i:=by
  unfold aI.fetch at I;cases m:f.fn.code[f.next]? with
  |none=>rw[m] at I;cases I
  |some j=>rw[m] at I;simp at I;exact⟨I.2.symm,by rw[I.1]⟩
 have D:=K.ins _ _ hi;have L:∀x∈d,x.e_.length<=x.g_.length:=λx m=>(q x m).e_
 by_cases hn:i=.give
 ·subst hn;rcases ja d with rfl|⟨b,x,rfl⟩
  ·refine⟨by simp[bY],by simp[bY],λ_=>⟨⟨by simp[bY],by simp[bY],by simp[bY]⟩,by simp[bY]⟩⟩
  ·rw[jb] at*;have e:bY A .give (b++[x]) { f with next:=f.next+1 } t o=(⟨b++[x.push (aI.last { f with next:=f.next+1 })],t,o⟩,0):=by simp[bY]
   rw[e];refine⟨λy u=>?_,by simp at w ⊢;omega,λ_=>⟨nI.snoc (λy u=>q y (by simp[u])) ((q x s_).pushed _) (by simp at w;omega),λy u=>?_⟩⟩
   ·rcases eo.1 u with u|u
    ·exact L y (by simp[u])
    ·rw[et.1 u];exact L x s_
   ·rcases eo.1 u with u|u
    ·exact z y (by simp[u])
    ·rw[et.1 u];exact z x s_
 have p:∀y:aI,y.e_.length<=y.g_.length->∀x∈d++[y],x.e_.length<=x.g_.length:=λy u x m=>by
  rcases eo.1 m with m|m
  ·exact L x m
  ·rw[et.1 m];exact u
 have B:∀y:aI,cJ ar y 0->y.fn=f.fn->∀t o,fI ar ⟨d++[y],t,o⟩:=λy u aa t o=>⟨nI.snoc q u w,λx m=>by
  rcases eo.1 m with m|m
  ·exact z x m
  ·rw[et.1 m,aa];exact H⟩
 by_cases Z:i=.read
 ·subst Z;cases t with
  |nil=>exact⟨p _ C,by simp[bY];omega,λJ=>by simp[bY] at J⟩
  |cons a r=>exact⟨p _ C,by simp[bY];omega,λ_=>B (aI.push { f with next:=f.next+1 } (aW a)) (cJ.flow (f:=f) K D.2.2 rfl (by rw[aI.push_len];simp only;omega) W X C V) rfl _ _⟩
 by_cases Y:i=.print
 ·subst Y;simp only[bY];split
  ·exact⟨p _ C,t_,λJ=>by simp at J⟩
  ·exact⟨p _ C,t_,λ_=>B (aI.pop { f with next:=f.next+1 }) (cJ.flow (f:=f) K D.2.2.2 rfl (by rw[aI.pop_len];simp only;omega) W X C V) rfl _ _⟩
 by_cases hk:∃k n,i=.call k n
 ·obtain⟨k,n,rfl⟩:=hk;simp only[bY];split
  ·exact⟨p _ C,t_,λJ=>by simp at J⟩
  ·rename_i hd;obtain⟨_,_,ab,S,N⟩:=D;obtain⟨c,U,c1,c2,c3,c4,c5,c6⟩:=ht.fn k n S;have F:(aI.many { f with next:=f.next+1 } n).length=n:=by simp[aI.many];omega
   rw[c1]
   have G:cJ ar ⟨c,0,0,[],aI.many { f with next:=f.next+1 } n,[]⟩ 0:=by
    refine⟨⟨U,c2,by simp[c3],by simp only[F];exact c4,d6 c5⟩,?_,s_,by simp only[F];have:=c2.len;have:=K.len;have:=(K.ins _ _ hi).2.1;omega⟩
    rcases c6 with ⟨l,s,r,e⟩|⟨v,e⟩<;>simp[e]
   have E:cJ ar (aI.popMany { f with next:=f.next+1 } n) 1:=by
    obtain⟨f1,f2,f3,P⟩:=N;refine⟨⟨T,K,?_,em f3 W,?_⟩,f1,C,V⟩
    ·rw[aI.popMany_len];show (T (f.next+1)).h=_;simp only;omega
    ·rcases P with P|P
     ·exact d6 P
     ·show (T (f.next+1)).e=none\/(T (f.next+1)).e=_;rw[P];exact X
   have e1:d++[aI.popMany { f with next:=f.next+1 } n,(⟨c,0,0,[],aI.many { f with next:=f.next+1 } n,[]⟩:aI)]=(d++[aI.popMany { f with next:=f.next+1 } n])++[(⟨c,0,0,[],aI.many { f with next:=f.next+1 } n,[]⟩:aI)]:=s_
   simp only[Option.getD_some];rw[e1];refine⟨λx m=>?_,t_,λ_=>⟨nI.snoc (λx m=>?_) G t_,λx m=>?_⟩⟩
   ·rcases eo.1 m with m|m
    ·exact p _ E.e_ x m
    ·rw[et.1 m];exact G.e_
   ·rcases eo.1 m with m|m
    ·exact q x m
    ·rw[et.1 m];exact E
   ·rcases eo.1 m with m|m
    ·rcases eo.1 m with m|m
     ·exact z x m
     ·rw[et.1 m];exact H
    ·rw[et.1 m];exact c6
 have M:∀k n,i≠.call k n:=λk n e=>hk ⟨k,n,e⟩
 rw[JO hn Z Y M];have O:=GH K D hh W X C V hn Z Y M _ rfl;exact⟨p _ O.1,t_,λJ=>B _ (O.2 J) (sT _ _) _ _⟩
def jU(f:aI):Nat:=if f.next=0 then 2 else if f.fn.code.length=2 then 1 else 4*(f.fn.code.length-f.next)
def wgts(l:List aI):Nat:=(l.map jU).sum
def AC{T:Nat->eE}{f:aI}{i:aH}(a:iT ar (λq=>q<f.fn.code.length) T f.next i)
 (e:i.isBegin=false) (o:i≠.give) (m:i≠.read) (j:i≠.print) (g:∀k n,i≠.call k n):
 (aO i { f with next:=f.next+1 }).2=0->(f.next<(aO i { f with next:=f.next+1 }).1.next/\(aO i { f with next:=f.next+1 }).1.next<f.fn.code.length)\/(T (aO i { f with next:=f.next+1 }).1.next).b=true/\(aO i { f with next:=f.next+1 }).1.next<f.fn.code.length:=by
 obtain⟨_,_,a⟩:=a;intro b;cases i with
 |give=>exact absurd rfl o
 |read=>exact absurd rfl m
 |print=>exact absurd rfl j
 |call k n=>exact absurd rfl (g k n)
 |begin l s=>simp[aH.isBegin] at e
 |jump q=>
  simp only at a;obtain⟨c|c,d⟩:=a
  ·exact d6 ⟨c,d.1⟩
  ·exact d5 ⟨c,d.1⟩
 |skip q=>
  simp only[aO] at a b ⊢
  split
  ·simp only;split
   ·exact d6 ⟨gb _,a.2.2.2.1⟩
   ·exact d6 ⟨a.2.1,a.2.2.1.1⟩
  ·rename_i h;rw[if_neg h] at b;simp at b
 |shortcut w q=>
  simp only[aO] at a b ⊢
  split
  ·simp only;split
   ·exact d6 ⟨a.2.1,a.2.2.1.1⟩
   ·exact d6 ⟨gb _,a.2.2.2.1⟩
  ·rename_i h;rw[if_neg h] at b;simp at b
 |assign k n=>
  simp only[aO] at a b ⊢
  split<;>exact d6 ⟨gb _,a.2.2.1⟩
 |declare k=>exact d6 ⟨gb _,a.2.2.2.2.1⟩
 |push v=>exact d6 ⟨gb _,a.1⟩
 |load k=>exact d6 ⟨gb _,a.2.1⟩
 |drop=>exact d6 ⟨gb _,a.2.1⟩
 |truth=>simp only[aO] at a ⊢;split<;>exact d6 ⟨gb _,a.2.1⟩
 |unary p=>simp only[aO] at a ⊢;split<;>exact d6 ⟨gb _,a.2.1⟩
 |length=>simp only[aO] at a ⊢;split<;>exact d6 ⟨gb _,a.2.1⟩
 |binary p=>simp only[aO] at a ⊢;split<;>exact d6 ⟨gb _,a.2.1⟩
 |index=>simp only[aO] at a ⊢;split<;>exact d6 ⟨gb _,a.2.1⟩
 |list n=>simp only[aO] at a ⊢;split<;>exact d6 ⟨gb _,a.2.1⟩
def gO(l:List aI)(f:aI):wgts (l++[f])=wgts l+jU f:=by simp[wgts]
def AW{f:aI}(h:f.next<f.fn.code.length):1<=jU f:=by unfold jU;repeat' split
                                                    all_goals omega
def NS(f:aI)(v:aJ):jU (f.push v)=jU f:=rfl
def vU{f g:aI}{i:aH}(m:iR f.fn.code)(a:f.fn.code[f.next]?=some i)(c:i.isBegin=false)(d:g.fn=f.fn)(n:f.next<g.next)(k:g.next<f.fn.code.length):jU g<jU f:=by
 unfold jU;rw[d];rcases m with ⟨l,s,r,e⟩|⟨v,e⟩
 ·have j:f.next≠0:=λh=>by rw[e,h] at a;simp at a;rw[<-a] at c;simp[aH.isBegin] at c
  rw[if_neg (show g.next≠0 by omega),if_neg j]
  split<;>omega
 ·have b:f.fn.code.length=2:=by rw[e];rfl
  rw[b] at k;rw[if_neg (show g.next≠0 by omega),if_pos b,if_pos (show f.next=0 by omega)]
  omega
def NT{f g:aI}(i:iR f.fn.code)(a:f.fn.code[f.next]?=some (.call k n))(c:g.fn=f.fn)(j:f.next<g.next)(m:g.next<f.fn.code.length):jU g+2<jU f:=by
 unfold jU;rw[c]
 have d:f.next≠0:=λh=>by
  rcases i with ⟨l,s,r,e⟩|⟨v,e⟩<;>rw[e,h] at a<;>simp at a
 have b:f.fn.code.length≠2:=o_
 rw[if_neg (show g.next≠0 by omega),if_neg d,if_neg b]
 split
 ·omega
 ·omega
structure NP(ar:Nat->Option Nat)(r:bX × Nat):Prop where
 told:∀x∈r.1.f_,x.e_.length<=x.g_.length
 deep:r.1.f_.length<=16
 ok:r.2=0->fI ar r.1/\r.1.f_≠[]
def mZ{l:List aI}(h:l≠[]):∃b f,l=b++[f]:=by
 rcases ja l with a|⟨b,f,a⟩
 ·exact absurd a h
 ·exact⟨b,f,by rw[a,jb]⟩
def yO{f:aI}(h:f.next<f.fn.code.length):f.fetch=some (f.fn.code[f.next],{ f with next:=f.next+1 }):=by
 unfold aI.fetch;rw[fg h];rfl
def uK{a:List dQ}(i:kA ar a){b:List aI}{f:aI}(h:fI ar ⟨b++[f],t,o⟩){l:Nat}{s:List (List UInt8)}(m:f.fn.code[f.next]?=some (.begin l s)):
 ∃r,dV a (k+1) ⟨b++[f],t,o⟩=some r/\NP ar r:=by
 have d:f.fetch=some (.begin l s,{ f with next:=f.next+1 }):=by unfold aI.fetch;rw[m];rfl
 obtain⟨g,e,j⟩:=xJ i h d;refine⟨bY a (.begin l s) b { f with next:=f.next+1 } t o,?_,g,e,λc=>⟨j c,by simp[bY]⟩⟩
 rw[dV];simp only[fC,d,fY];have c:(bY a (.begin l s) b { f with next:=f.next+1 } t o).2=0:=rfl
 rw[if_neg (by rw[c];simp),if_pos (show (aH.begin l s).isBegin=true from rfl)]
def lL{p:List dQ}(w:kA ar p):∀(k:Nat) (m:bX),fI ar m->wgts m.f_+2<=k->∃r,dV p k m=some r/\NP ar r
 |0,_,_,H=>by omega
 |k+1,⟨fr,t,o⟩,h,H=>by
  by_cases E:fr=[]
  ·subst E;exact⟨(⟨[],t,o⟩,1),rfl,s_,s_,λl=>by simp at l⟩
  obtain⟨b,f,rfl⟩:=mZ E;have d:cJ ar f 0:=h.ok.top f (fC _ _);have s:iR f.fn.code:=h.start f s_
  have N:=yO d.next
  have C:f.fn.code[f.next]?=some (f.fn.code[f.next]'d.next):=fg d.next
  generalize f.fn.code[f.next]'d.next=i at N C
  obtain⟨Y,W,h3⟩:=xJ w h N;by_cases l:(bY p i b { f with next:=f.next+1 } t o).2=0
  rotate_left
  ·refine⟨_,?_,Y,W,λX=>absurd X l⟩
   rw[dV];simp only[fC,N,fY];rw[if_pos l]
  cases L:i.isBegin;rotate_left
  ·cases i<;>simp[aH.isBegin] at L
   exact uK w h C
  have e:dV p (k+1) ⟨b++[f],t,o⟩=dV p k (bY p i b { f with next:=f.next+1 } t o).1:=by
   rw[dV];simp only[fC,N,fY];rw[if_neg (by rw[l];simp),L]
   rfl
  rw[e];have A:=h3 l;simp only at H;rw[gO] at H;obtain⟨⟨T,V,hh,hv,he⟩,K,hs,hm⟩:=d;have u:=V.ins _ _ C;by_cases S:i=.give
  ·subst S;refine lL w k _ A ?_;have J:=AW K;rcases ja b with rfl|⟨U,x,rfl⟩
   ·simp[bY,wgts] at H ⊢;omega
   ·rw[jb] at*;have Z:(bY p .give (U++[x]) { f with next:=f.next+1 } t o).1.f_=U++[x.push (aI.last { f with next:=f.next+1 })]:=by simp[bY]
    rw[Z,gO,NS];rw[gO] at H;omega
  by_cases Q:i=.read
  ·subst Q;cases t with
   |nil=>simp[bY] at l
   |cons a r=>
    refine lL w k _ A ?_;have J:=vU (g:=aI.push { f with next:=f.next+1 } (aW a)) s C rfl rfl (gb _) u.2.2.1
    show wgts (b++[_])+2<=k
    rw[gO];omega
  by_cases P:i=.print
  ·subst P;refine lL w k _ A ?_;have J:=vU (g:=aI.pop { f with next:=f.next+1 }) s C rfl rfl (gb _) u.2.2.2.1
   simp only[bY] at l ⊢
   split at l
   ·simp at l
   ·rw[if_neg (by assumption)]
    show wgts (b++[_])+2<=k
    rw[gO];omega
  by_cases F:∃c n,i=.call c n
  ·obtain⟨c,n,rfl⟩:=F;refine lL w k _ A ?_;have J:=NT (g:=aI.popMany { f with next:=f.next+1 } n) s C rfl (gb _) u.2.2.2.2.1
   simp only[bY] at l ⊢
   split at l
   ·simp at l
   ·rw[if_neg (by assumption)]
    have e1:∀y z:aI,b++[y,z]=(b++[y])++[z]:=s_
    simp only;rw[e1,gO,gO];have:∀c v,jU ⟨c,0,0,[],v,[]⟩=2:=λc v=>rfl
    rw[this];omega
  have G:∀k n,i≠.call k n:=λk n e=>F ⟨k,n,e⟩
  rw[JO S Q P G] at l A ⊢
  have q:=AC u L S Q P G l;have D:(aO i { f with next:=f.next+1 }).1.fn=f.fn:=sT _ _
  generalize aO i { f with next:=f.next+1 }=y at l A q D ⊢
  rcases q with ⟨O,M⟩|⟨O,M⟩
  ·refine lL w k _ A ?_;have J:=vU (g:=y.1) s C L D O M;simp only;rw[gO];omega
  ·have I:y.1.fn.code[y.1.next]?=some (f.fn.code[y.1.next]):=by rw[D];exact fg M
   have B:=(V.ins _ _ (fg M)).1;rw[O] at B;have J:=AW K;obtain⟨j,rfl⟩:∃j,k=j+1:=⟨k-1,o_⟩
   generalize f.fn.code[y.1.next]=i' at I B
   cases i'<;>simp[aH.isBegin] at B
   exact uK w A I
def bE.then{L:Nat->eE->Prop}{c c':List aH}{g:Nat}{j i:Option Nat}(a:bE ar L p c h v e g v1 j)(b:bE ar L (p+c.length) c' g v1 j d v2 i)
 (n:∀q y,L q y->q<=p\/p+c.length+c'.length<=q):bE ar L p (c++c') h v e d v2 i:=by
 by_cases k:c=[]
 ·subst k;obtain⟨T,t,r,s,l,o,m,f,u⟩:=a;obtain⟨U,u1,u2,u3,u4,u5,u6,u7,u8⟩:=b;simp only[ep,iz] at o m f u2 u3 u4 u5 u6 u7 u8;refine⟨U,u1,o_,o_,?_,u5,u6,u7,u8⟩
  rcases u4 with u4|u4
  ·exact d6 u4
  ·rw[u4,<-f];exact l
 ·exact a.append b n k
def bE.one{L:Nat->eE->Prop}{i:aH}(m:∀q y z,L q y->L q z->y=z)(k:∀y,L p y->y=⟨h,v,e,i.isBegin⟩)(l:∀y,L (p+1) y->y.h=h'/\y.v=v'/\y.e=e')
 (n:∀T:Nat->eE,T p=⟨h,v,e,i.isBegin⟩->(T (p+1)).h=h'->(T (p+1)).v=v'->(T (p+1)).e=e'->(∀q y,L q y->T q=y)->iT ar (NM L p (p+1)) T p i):bE ar L p [i] h v e h' v' e':=by
 classical
 let T:Nat->eE:=λq=>if hq:∃y,L q y then hq.choose else if q=p then ⟨h,v,e,i.isBegin⟩ else ⟨h',v',e',false⟩
 have g:∀q y,L q y->T q=y:=λq y b=>by
  have a:∃y,L q y:=⟨y,b⟩;simp only[T,dif_pos a];exact m q _ _ a.choose_spec b
 have f:T p=⟨h,v,e,i.isBegin⟩:=by
  by_cases a:∃y,L p y
  ·obtain⟨y,b⟩:=a;rw[g p y b];exact k y b
  ·simp only[T,dif_neg a];rfl
 have c:(T (p+1)).h=h'/\(T (p+1)).v=v'/\(T (p+1)).e=e':=by
  by_cases a:∃y,L (p+1) y
  ·obtain⟨y,b⟩:=a;rw[g _ y b];exact l y b
  ·have e:T (p+1)=⟨h',v',e',false⟩:=by simp only[T,dif_neg a,if_neg (show ¬p+1=p by omega)]
   rw[e];exact⟨rfl,rfl,rfl⟩
 refine⟨T,g,by rw[f],by rw[f];exact d7 _,by rw[f];exact d5 rfl,c.1,c.2.1,c.2.2,λj x d=>?_⟩
 match j,d with
 |0,d=>
  simp at d;subst d;exact n T f c.1 c.2.1 c.2.2 g
 |j+1,d=>simp at d
structure eI(L:Nat->eE->Prop)(lo hi:Nat):Prop where
 uniq:∀q y z,L q y->L q z->y=z
 out:∀q y,L q y->q<lo\/hi<q
def eI.sub{L:Nat->eE->Prop}{lo lo' hi':Nat}(h:eI L lo a)(d:lo<=lo')(c:hi'<=a):eI L lo' hi':=⟨h.uniq,λq y b=>by have:=h.out q y b;omega⟩
def eY(L:Nat->eE->Prop)(q:Nat)(y:eE):Nat->eE->Prop:=λr z=>L r z\/(r=q/\z=y)
def eY.ok{L:Nat->eE->Prop}{lo c lo' hi':Nat}{y:eE}(h:eI L lo c)(i:lo<=q)(f:q<=c)(j:lo<=lo')(g:hi'<=c)(d:q<lo'\/hi'<q):eI (eY L q y) lo' hi':=by
 refine⟨λr x z a b=>?_,λr x a=>?_⟩
 ·rcases a with a|⟨rfl,rfl⟩<;>rcases b with b|⟨e,rfl⟩
  ·exact h.uniq _ _ _ a b
  ·have:=h.out _ _ a;omega
  ·have:=h.out _ _ b;omega
  ·rfl
 ·rcases a with a|⟨rfl,rfl⟩
  ·have:=h.out _ _ a;omega
  ·exact d
def bE.close{L:Nat->eE->Prop}{c:List aH}{y:eE}(s:bE ar (eY L q y) p c h v e h' v' e')(o:p<=q)(f:q<=p+c.length):bE ar L p c h v e h' v' e':=by
 obtain⟨T,u,b,d,g,x,m,l,w⟩:=s;refine⟨T,λq y n=>u q y (d6 n),b,d,g,x,m,l,λj i A=>(w j i A).same rfl (λr a=>⟨?_,rfl,d7 _,d5 rfl⟩) (λ_ _ _ k=>k)⟩
 rcases a with a|⟨z,t|⟨rfl,rfl⟩⟩
 ·exact d6 a
 ·exact d5 ⟨z,t⟩
 ·exact d6 ⟨o,f⟩
def iM{L:Nat->eE->Prop}:NM L p (p+1) (p+1):=d6 ⟨o_,o_⟩
def bE.plain{L:Nat->eE->Prop}{i:aH}(b:eI L p (p+1))(g:i.isBegin=false)(j:h<=p)
 (l:∀(D:Nat->Prop) (T:Nat->eE),(T p).h=h->(T p).v=v->eJ D T (p+1) h' (T p).v (T p).e->(T p).b=false->(T p).h<=p->iT ar D T p i):bE ar L p [i] h v e h' v e:=
 bE.one b.uniq (λy c=>absurd (b.out _ _ c) o_) (λy c=>absurd (b.out _ _ c) o_) λT a k d f _=>
  l _ T (by rw[a]) (by rw[a]) ⟨iM,k,by rw[d,a];exact d7 _,by rw[f,a];exact d5 rfl⟩ (by rw[a];exact g) (by rw[a];exact j)
def fP(fs:List aC)(k:Nat):Option Nat:=fs[k]?.map λf=>f.y_.length-1
def ExOk(fs:List aC)(a_:Bool)(e_:List (List UInt8)):Nat->aC->Prop
 |0,_=>False
 |d+1,a=>
  ((a.op=[48]\/a.op=[115]\/a.op=[98,111,111,108])/\a.y_=[])\/
  (a.op=[110,97,109,101]/\a.y_=[]/\a.x_∈e_)\/
  (a.op=[108,105,115,116]/\∀k∈a.y_,ExOk fs a_ e_ d k)\/
  (a.op=[105,110,100,101,120]/\∃l r,a.y_=[l,r]/\ExOk fs a_ e_ d l/\ExOk fs a_ e_ d r)\/
  ((a.op=[45,120]\/a.op=[33,120])/\∃l,a.y_=[l]/\ExOk fs a_ e_ d l)\/
  (a.op=[99,97,108,108]/\(∀k∈a.y_,ExOk fs a_ e_ d k)/\
    ((a.x_=[108,101,110]/\a.y_.length=1)\/(a.x_=[114,101,97,100]/\a_=false/\a.y_.length=0)\/
     (a.x_≠[108,101,110]/\a.x_≠[114,101,97,100]/\a_=false/\fP fs (dA fs a.x_)=some a.y_.length)))\/
  (bW a.op≠9/\∃l r,a.y_=[l,r]/\ExOk fs a_ e_ d l/\ExOk fs a_ e_ d r)
def qJ:∀{e_:List (List UInt8)} {x:List UInt8},x∈e_->eB e_ x<e_.length
 |y::l,x,h=>by
  unfold eB;split
  ·simp
  ·rename_i a;rcases en.1 h with rfl|h
   ·exact absurd rfl a
   ·have:=qJ h;simp;omega
def mW{op:List UInt8}(h:bW op≠9):op=[124,124]\/op=[38,38]\/op=[61,61]\/op=[33,61]\/op=[60]\/op=[60,61]\/op=[43]\/op=[45]\/op=[42]\/op=[47]\/op=[37]:=by
 unfold bW at h;repeat' split at h
 all_goals simp_all
 all_goals grind
def SO(fs:List aC)(a_:Bool)(e_:List (List UInt8))(d:Nat):Prop:=
 ∀(a:aC) (L:Nat->eE->Prop) (p h v:Nat) (e:Option Nat),ExOk fs a_ e_ d a->e_.length<=v->h<=p->eI L p (p+(aG fs e_ d a p).length)->
  bE (fP fs) L p (aG fs e_ d a p) h v e (h+1) v e/\1<=(aG fs e_ d a p).length
def qL{fs:List aC}{b:Bool}(g:SO fs b e_ d):∀(l:List aC) (L:Nat->eE->Prop) (p h v:Nat) (e:Option Nat),(∀a∈l,ExOk fs b e_ d a)->e_.length<=v->h<=p->eI L p (p+(bP (aG fs e_ d) l p).length)->
 bE (fP fs) L p (bP (aG fs e_ d) l p) h v e (h+l.length) v e/\l.length<=(bP (aG fs e_ d) l p).length
 |[],L,p,h,v,e,_,_,_,c=>⟨bE.nil _ _ _ _ _ _ (λq y f u=>absurd (c.out q y f) (by simp[bP];omega)) c.uniq,s_⟩
 |a::l,L,p,h,v,e,i,j,o,c=>by
  simp only[bP,ei] at c ⊢
  obtain⟨n,m⟩:=g a L p h v e (i a (fu ..)) j o (c.sub (d7 _) o_)
  obtain⟨k,r⟩:=qL g l L (p+(aG fs e_ d a p).length) (h+1) v e (λx s=>i x (fe _ s)) j o_ (c.sub o_ o_)
  refine⟨?_,by simp only[ek];omega⟩
  have t:h+(a::l).length=h+1+l.length:=by simp only[ek];omega
  rw[t];exact n.then k λq y f=>by have:=c.out q y f;omega
def bE.snoc{L:Nat->eE->Prop}{c:List aH}{i:aH}{f:Nat}{j:Option Nat}(a:bE ar L p c h v e f v e)(g:eI L p (p+(c++[i]).length))(b:eI L (p+c.length) (p+c.length+1)->bE ar L (p+c.length) [i] f v e d v2 j):bE ar L p (c++[i]) h v e d v2 j:=by
 have l:(c++[i]).length=c.length+1:=s_
 refine a.then (b (g.sub o_ o_)) λq y k=>?_
 have:=g.out q y k;simp only[ek,ep];omega
def pF(fs:List aC)(j:Bool)(e_:List (List UInt8)):∀d,SO fs j e_ d
 |0,_,_,_,_,_,_,h,_,_,_=>h.elim
 |d+1,a,L,p,h,v,e,ha,hv,g,A=>by
  have Y:=pF fs j e_ d
  have N:∀l r:aC,a.y_=[l,r]->ExOk fs j e_ d l->ExOk fs j e_ d r->∀k∈a.y_,ExOk fs j e_ d k:=λl r n V h2 k E=>by
   rw[n] at E;rcases en.1 E with rfl|E
   ·exact V
   ·rw[et.1 E];exact h2
  have m:∀i:aH,i.isBegin=false->aG fs e_ (d+1) a p=bP (aG fs e_ d) a.y_ p++[i]->(∀k∈a.y_,ExOk fs j e_ d k)->
   (∀(t:Nat) (D:Nat->Prop) (T:Nat->eE),(T t).h=h+a.y_.length->(T t).v=v->eJ D T (t+1) (h+1) (T t).v (T t).e->(T t).b=false->(T t).h<=t->iT (fP fs) D T t i)->
   bE (fP fs) L p (aG fs e_ (d+1) a p) h v e (h+1) v e/\1<=(aG fs e_ (d+1) a p).length:=λi hb B n hi=>by
   rw[B] at A ⊢
   obtain⟨V,h2⟩:=qL Y a.y_ L p h v e n hv g (A.sub (d7 _) s_)
   exact⟨bE.snoc V A λF=>bE.plain F hb o_ (hi _),s_⟩
  rcases ha with ⟨o|o|o,n⟩|⟨o,n,hx⟩|⟨o,n⟩|⟨o,l,r,n,F,Q⟩|⟨o|o,l,n,F⟩|⟨o,n,B⟩|⟨o,l,r,n,F,Q⟩
  ·have B:aG fs e_ (d+1) a p=[.push (aW (((cD 0 a.x_).getD 0:Nat):Int))]:=by rw[aG];simp[o]
   rw[B] at A ⊢
   exact⟨bE.plain A rfl g λD T c x f b g=>⟨b,g,by rw[c];exact f⟩,s_⟩
  ·have B:aG fs e_ (d+1) a p=[.push (bI a.x_)]:=by rw[aG];simp[o]
   rw[B] at A ⊢
   exact⟨bE.plain A rfl g λD T c x f b g=>⟨b,g,by rw[c];exact f⟩,s_⟩
  ·have B:aG fs e_ (d+1) a p=[.push (bM (a.x_==[116,114,117,101]))]:=by rw[aG];simp[o]
   rw[B] at A ⊢
   exact⟨bE.plain A rfl g λD T c x f b g=>⟨b,g,by rw[c];exact f⟩,s_⟩
  ·have B:aG fs e_ (d+1) a p=[.load (eB e_ a.x_)]:=by rw[aG];simp[o]
   rw[B] at A ⊢
   exact⟨bE.plain A rfl g λD T c x f b g=>⟨b,g,by rw[x];have:=qJ hx;omega,by rw[c];exact f⟩,s_⟩
  ·refine m (.list a.y_.length) rfl (by rw[aG];simp[o]) n λt D T c x f b g=>⟨b,g,o_,?_⟩
   have:(T t).h-a.y_.length+1=h+1:=o_
   rw[this];exact f
  ·refine m .index rfl (by rw[aG];simp[o]) (N l r n F Q) λt D T c x f b g=>?_
   rw[n] at c;simp only[ek,ep] at c;refine⟨b,g,o_,?_⟩
   have:(T t).h-1=h+1:=o_
   rw[this];exact f
  ·refine m (.unary [45]) rfl (by rw[aG];simp[o]) (by rw[n];simpa using F) λt D T c x f b g=>?_
   rw[n] at c;simp only[ek,ep] at c;exact⟨b,g,o_,by rw[c];exact f⟩
  ·refine m (.unary [33]) rfl (by rw[aG];simp[o]) (by rw[n];simpa using F) λt D T c x f b g=>?_
   rw[n] at c;simp only[ek,ep] at c;exact⟨b,g,o_,by rw[c];exact f⟩
  ·rcases B with ⟨U,K⟩|⟨U,_,K⟩|⟨W,Z,_,K⟩
   ·refine m .length rfl (by rw[aG];simp[o,U]) n λt D T c x f b g=>⟨b,g,o_,?_⟩
    rw[c,K];exact f
   ·refine m .read rfl (by rw[aG];simp[o,U]) n λt D T c x f b g=>⟨b,g,?_⟩
    rw[c,K];exact f
   ·refine m (.call (dA fs a.x_) a.y_.length) rfl (by rw[aG];simp[o,W,Z]) n λt D T c x f b g=>⟨b,g,o_,K,?_⟩
    have:(T t).h-a.y_.length+1=h+1:=o_
    rw[this];exact f
  ·by_cases O:a.op=[38,38]\/a.op=[124,124]
   rotate_left
   ·have X:aG fs e_ (d+1) a p=bP (aG fs e_ d) a.y_ p++[.binary a.op]:=by
     rw[aG];rcases mW o with h|h|h|h|h|h|h|h|h|h|h<;>simp[h] at O ⊢
    refine m (.binary a.op) rfl X (N l r n F Q) λt D T c x f b g=>?_
    rw[n] at c;simp only[ek,ep] at c;refine⟨b,g,o_,?_⟩
    have:(T t).h-1=h+1:=o_
    rw[this];exact f
   ·have B:aG fs e_ (d+1) a p=aG fs e_ d l p++[.shortcut (a.op==[124,124]) (p+(aG fs e_ d l p).length+1+(aG fs e_ d r (p+(aG fs e_ d l p).length+1)).length+1)]++aG fs e_ d r (p+(aG fs e_ d l p).length+1)++[.truth]:=by
     rw[aG];rcases O with h|h<;>simp[h,n]
    generalize P:aG fs e_ d l p=s at B;generalize M:aG fs e_ d r (p+s.length+1)=u at B;rw[B] at A ⊢
    have H:(s++[aH.shortcut (a.op==[124,124]) (p+s.length+1+u.length+1)]++u++[aH.truth]).length=s.length+1+u.length+1:=by simp only[ei,ek,ep]
    rw[H] at A;refine⟨bE.close (q:=p+s.length+1+u.length+1) (y:=⟨h+1,v,e,false⟩) ?_ o_ (by rw[H];omega),o_⟩
    have w:eI (eY L (p+s.length+1+u.length+1) ⟨h+1,v,e,false⟩) p (p+s.length+1+u.length):=eY.ok A o_ o_ (d7 _) o_ o_
    obtain⟨s1,l1⟩:=Y l (eY L (p+s.length+1+u.length+1) ⟨h+1,v,e,false⟩) p h v e F hv g (by rw[P];exact w.sub (d7 _) o_)
    rw[P] at s1 l1;obtain⟨s3,l3⟩:=Y r (eY L (p+s.length+1+u.length+1) ⟨h+1,v,e,false⟩) (p+s.length+1) h v e Q hv o_ (by rw[M];exact w.sub o_ o_)
    rw[M] at s3 l3
    have s2:bE (fP fs) (eY L (p+s.length+1+u.length+1) ⟨h+1,v,e,false⟩) (p+s.length) [.shortcut (a.op==[124,124]) (p+s.length+1+u.length+1)] (h+1) v e h v e:=by
     refine bE.one w.uniq (λy G=>absurd (w.out _ _ G) o_) (λy G=>absurd (w.out _ _ G) o_) λT z c x S t4=>?_
     refine⟨by rw[z],by rw[z];show h+1<=_;omega,by rw[z];show 1<=h+1;omega,o_,?_,iM,by rw[c,z];rfl,by rw[x,z];exact d7 _,by rw[S,z];exact d5 rfl⟩
     have:=t4 (p+s.length+1+u.length+1) ⟨h+1,v,e,false⟩ (d5 ⟨rfl,rfl⟩);exact⟨d5 ⟨_,d5 ⟨rfl,rfl⟩⟩,by rw[this,z],by rw[this,z];exact d7 _,by rw[this,z];exact d5 rfl⟩
    have s4:bE (fP fs) (eY L (p+s.length+1+u.length+1) ⟨h+1,v,e,false⟩) (p+s.length+1+u.length) [.truth] (h+1) v e (h+1) v e:=by
     refine bE.one w.uniq (λy G=>absurd (w.out _ _ G) o_) (λy G=>?_) λT z c x S t4=>⟨by rw[z],by rw[z];show h+1<=_;omega,by rw[z];show 1<=h+1;omega,iM,by rw[c,z],by rw[x,z];exact d7 _,by rw[S,z];exact d5 rfl⟩
     rcases G with G|⟨_,rfl⟩
     ·exact absurd (A.out _ _ G) o_
     ·exact⟨rfl,rfl,rfl⟩
    have C:∀q y,eY L (p+s.length+1+u.length+1) ⟨h+1,v,e,false⟩ q y->q<=p\/p+s.length+1+u.length+1<=q:=λq y I=>by have:=w.out q y I;omega
    have aa:=s1.then s2 λq y I=>by have:=C q y I;simp only[ek,ep];omega
    have J:=aa.then (c':=u) (by rw[ei];exact s3) λq y I=>by have:=C q y I;simp only[ei,ek,ep];omega
    exact J.then (c':=[.truth]) (by rw[show p+(s++[aH.shortcut (a.op==[124,124]) (p+s.length+1+u.length+1)]++u).length=p+s.length+1+u.length by simp only[ei,ek,ep];omega];exact s4) λq y I=>by have:=C q y I;simp only[ei,ek,ep];omega
def bE.entry{L:Nat->eE->Prop}{c:List aH}{b:Nat}(s:bE ar L p c h v none h' v' e')(j:v<=b):bE ar L p c h b e h' v' e':=by
 obtain⟨T,f,d,i,a,g⟩:=s;exact⟨T,f,d,o_,d6 (by rcases a with a|a<;>exact a),g⟩
def bE.exit{L:Nat->eE->Prop}{c:List aH}(s:bE ar L p c h v e h' v' e')(F:a<=v')(b:Bool)(C:∀y,¬L (p+c.length) y):bE ar (eY L (p+c.length) ⟨h',a,none,b⟩) p c h v e h' a none:=by
 obtain⟨T,z,o,r,t,l,w,E,B⟩:=s;refine⟨λq=>if q=p+c.length then ⟨h',a,none,b⟩ else T q,λq y d=>?_,?_,?_,?_,by simp only[if_pos],by simp only[if_pos],by simp only[if_pos],λj i m=>?_⟩
 ·rcases d with d|⟨rfl,rfl⟩
  ·have f:q≠p+c.length:=λe=>C y (by rw[<-e];exact d)
   simp only[if_neg f];exact z q y d
  ·simp only[if_pos]
 ·simp only;split
  ·rename_i g;rw[<-g] at l;simp only;omega
  ·exact o
 ·simp only;split
  ·rename_i g;rw[<-g] at w;simp only;omega
  ·exact r
 ·simp only;split
  ·exact d6 rfl
  ·exact t
 ·have x:j<c.length:=(gr.1 m).1;refine(B j i m).same (by rw[if_neg o_]) (λq d=>?_) (λq d D u=>by rw[if_neg o_];exact u)
  have n:NM (eY L (p+c.length) ⟨h',a,none,b⟩) p (p+c.length) q:=d.imp id λ⟨y,A⟩=>⟨y,d6 A⟩
  refine⟨n,?_⟩;split
  ·rename_i k;rw[k];exact⟨l.symm,by simp only;omega,d6 rfl⟩
  ·exact⟨rfl,d7 _,d5 rfl⟩
def cO(e_:List (List UInt8))(a:aC):List (List UInt8):=if a.op=[118,97,114] then (a.y_.head?.map (·.x_)).toList++e_ else e_
def StsOk(S:List (List UInt8)->aC->Prop):List (List UInt8)->List aC->Prop
 |_,[]=>True
 |e_,a::l=>S e_ a/\StsOk S (cO e_ a) l
def dP(fs:List aC):Nat->List (List UInt8)->aC->Prop
 |0,_,_=>False
 |d+1,e_,a=>
  (a.op=[118,97,114]/\e_.length<=90000/\∃t v,a.y_=[t,v]/\ExOk fs false e_ d v/\t.x_∉e_)\/
  (a.op=[115,101,116]/\a.x_∈e_/\a.y_≠[]/\∀k∈a.y_,ExOk fs false e_ d k)\/
  (a.op=[105,102]/\∃c t,(a.y_=[c,t]\/∃x,a.y_=[c,t,x]/\StsOk (dP fs d) e_ x.y_)/\ExOk fs false e_ d c/\StsOk (dP fs d) e_ t.y_)\/
  (a.op=[119,104,105,108,101]/\∃c b,a.y_=[c,b]/\ExOk fs false e_ d c/\StsOk (dP fs d) e_ b.y_)\/
  (a.op=[114,101,116,117,114,110]/\(a.y_=[]\/∃v,a.y_=[v]/\ExOk fs false e_ d v))\/
  (a.op=[112,114,105,110,116]/\∃v,a.y_=[v]/\ExOk fs false e_ d v)\/
  (a.op=[100,111]/\∃c,a.y_=[c]/\ExOk fs false e_ d c)
def SL(fs:List aC)(d:Nat):Prop:=
 ∀(e_:List (List UInt8)) (a:aC) (L:Nat->eE->Prop) (p:Nat),dP fs d e_ a->eI L p (p+(bB fs d e_ a p).1.length)->
  bE (fP fs) L p (bB fs d e_ a p).1 0 e_.length none 0 (cO e_ a).length none/\(bB fs d e_ a p).2=cO e_ a/\∃r,(bB fs d e_ a p).1=.begin a.l_ e_::r
def OU(e_:List (List UInt8))(a:aC):e_.length<=(cO e_ a).length:=by unfold cO;split<;>simp
def dT:List (List UInt8)->List aC->List (List UInt8)
 |e_,[]=>e_
 |e_,a::l=>dT (cO e_ a) l
def lU:∀(l:List aC) (e_:List (List UInt8)),e_.length<=(dT e_ l).length
 |[],_=>d7 _
 |a::l,e_=>em (OU e_ a) (lU l _)
def lY{fs:List aC}(e:SL fs d):∀(l:List aC) (e_:List (List UInt8)) (L:Nat->eE->Prop) (p:Nat),StsOk (dP fs d) e_ l->eI L p (p+(bG (bB fs d) e_ l p).length)->
 bE (fP fs) L p (bG (bB fs d) e_ l p) 0 e_.length none 0 (dT e_ l).length none
 |[],e_,L,p,_,b=>bE.nil _ _ _ _ _ _ (λq y c j=>absurd (b.out q y c) (by simp[bG];omega)) b.uniq
 |a::l,e_,L,p,h,b=>by
  simp only[bG,ei] at b ⊢
  obtain⟨g,f,_⟩:=e e_ a L p h.1 (b.sub (d7 _) o_)
  rw[f] at b ⊢
  have i:=lY e l (cO e_ a) L (p+(bB fs d e_ a p).1.length) h.2 (b.sub o_ o_)
  exact g.then i λq y c=>by have:=b.out q y c;omega
def bE.begins{L:Nat->eE->Prop}{l:Nat}(g:∀q y z,L q y->L q z->y=z)(h:∀y,L p y->y=⟨0,e_.length,none,true⟩)(f:∀y,¬L (p+1) y):bE ar L p [.begin l e_] 0 e_.length none 0 e_.length (some e_.length):=
 bE.one g h (λy e=>absurd e (f y)) λT a d b c _=>⟨by rw[a],by rw[a];exact ft _,by rw[a];exact d7 _,iM,by rw[d,a],by rw[b,a];exact d7 _,by rw[c];exact d5 rfl⟩
def pC(i j:aH)(c:List aH):(i::c++[j]).length=c.length+2:=s_
def bE.stmt{L:Nat->eE->Prop}{l:Nat}{c:List aH}{i:aH}(a:eI L p (p+(aH.begin l e_::c++[i]).length))
 (j:bE ar L (p+1) c 0 e_.length (some e_.length) n e_.length (some e_.length)) (g:eI L (p+1+c.length) (p+1+c.length+1)->bE ar L (p+1+c.length) [i] n e_.length (some e_.length) 0 v' none):
 bE ar L p (aH.begin l e_::c++[i]) 0 e_.length none 0 v' none:=by
 rw[pC] at a;have f:bE ar L p [.begin l e_] 0 e_.length none 0 e_.length (some e_.length):=bE.begins a.uniq (λy d=>absurd (a.out _ _ d) o_) (λy d=>absurd (a.out _ _ d) o_)
 have e:=f.then (c':=c) j λq y b=>by have:=a.out q y b;simp only[ek,ep];omega
 have h:=e.then (c':=[i]) (by rw[show p+([aH.begin l e_]++c).length=p+1+c.length by simp only[ei,ek,ep];omega];exact g (a.sub o_ o_)) λq y b=>by have:=a.out q y b;simp only[ei,ek,ep];omega
 exact h
def bE.last{L:Nat->eE->Prop}{i:aH}(a:eI L p (p+1))(g:i.isBegin=false)(h:n<=p)
 (k:∀(D:Nat->Prop) (T:Nat->eE),T p=⟨n,v,e,false⟩->D (p+1)->(T (p+1)).h=0->(T (p+1)).v=v'->(T (p+1)).e=none->(T p).h<=p->iT ar D T p i):bE ar L p [i] n v e 0 v' none:=
 bE.one a.uniq (λy b=>absurd (a.out _ _ b) o_) (λy b=>absurd (a.out _ _ b) o_) λT c j d f _=>k _ T (by rw[c,g]) iM j d f (by rw[c];exact h)
def kR{fs:List aC}{a:aC}{L:Nat->eE->Prop}(b:ExOk fs false e_ d a)(f:0<p)(c:eI L p (p+(aG fs e_ d a p).length)):
 bE (fP fs) L p (aG fs e_ d a p) 0 e_.length e 1 e_.length e/\1<=(aG fs e_ d a p).length:=pF fs false e_ d a L p 0 e_.length e b (d7 _) o_ c
def eI.none{L:Nat->eE->Prop}{lo:Nat}(h:eI L lo a)(d:lo<=q)(c:q<=a)(y:eE):¬L q y:=λb=>by have:=h.out q y b;omega
def bE.ifs{L:Nat->eE->Prop}{l:Nat}{b e m:List aH}
 (t:eI L p (p+1+b.length+1+e.length+1+m.length))
 (I:∀g,eI g (p+1) (p+1+b.length)->bE ar g (p+1) b 0 e_.length (some e_.length) 1 e_.length (some e_.length))
 (E:∀g,eI g (p+1+b.length+1) (p+1+b.length+1+e.length)->bE ar g (p+1+b.length+1) e 0 e_.length none 0 v1 none) (G:e_.length<=v1)
 (K:∀g,eI g (p+1+b.length+1+e.length+1) (p+1+b.length+1+e.length+1+m.length)->bE ar g (p+1+b.length+1+e.length+1) m 0 e_.length none 0 v2 none) (J:e_.length<=v2):
 bE ar L p (aH.begin l e_::b++[.skip (p+1+b.length+1+e.length+1)]++e++[.jump (p+1+b.length+1+e.length+1+m.length)]++m) 0 e_.length none 0 e_.length none:=by
 generalize F:p+1+b.length+1+e.length+1=q at*;generalize H:q+m.length=r at*;have j:eI (eY L r ⟨0,e_.length,none,false⟩) p (r-1):=eY.ok t o_ (d7 _) (d7 _) o_ o_
 have k:bE ar (eY L r ⟨0,e_.length,none,false⟩) p (aH.begin l e_::b++[aH.skip q]++e++[aH.jump r]) 0 e_.length none 0 e_.length none:=by
  have h:p+(aH.begin l e_::b++[aH.skip q]++e++[aH.jump r]).length=q:=by simp only[ei,ek,ep];omega
  rcases g8 (show q<=r by omega) with s|s
  ·-- there is no else:one label
   subst s;have c:eI (eY L q ⟨0,e_.length,none,false⟩) p (q-1):=j;have A:=bE.begins (ar:=ar) (l:=l) (p:=p) (e_:=e_) c.uniq (λy a=>absurd (c.out _ _ a) o_) (λy a=>absurd (c.out _ _ a) o_)
   have w:=A.then (c':=b) (I _ (c.sub o_ o_)) λx y f=>by have:=c.out x y f;simp only[ek,ep];omega
   have z:p+([aH.begin l e_]++b).length=p+1+b.length:=by simp only[ei,ek,ep];omega
   have B:=w.then (c':=[aH.skip q]) (by
    rw[z];refine bE.one (h':=0) (v':=e_.length) (e':=some e_.length) c.uniq (λy a=>absurd (c.out _ _ a) o_) (λy a=>absurd (c.out _ _ a) o_) λT d u n o i=>?_
    have a:=i q ⟨0,e_.length,none,false⟩ (d5 ⟨rfl,rfl⟩);exact⟨by rw[d],by rw[d];show 1<=_;omega,by rw[d];exact d7 _,o_,⟨d5 ⟨_,d5 ⟨rfl,rfl⟩⟩,by rw[a,d];rfl,by rw[a,d];exact d7 _,by rw[a];exact d6 rfl⟩,iM,by rw[u,d];rfl,by rw[n,d];exact d7 _,by rw[o,d];exact d5 rfl⟩)
    λx y f=>by have:=c.out x y f;simp only[ei,ek,ep];omega
   have C:p+([aH.begin l e_]++b++[aH.skip q]).length=p+1+b.length+1:=by simp only[ei,ek,ep];omega
   have v:=B.then (c':=e) (by rw[C];exact(E _ (c.sub o_ o_)).entry (d7 _)) λx y f=>by have:=c.out x y f;simp only[ei,ek,ep];omega
   have D:p+([aH.begin l e_]++b++[aH.skip q]++e).length=p+1+b.length+1+e.length:=by simp only[ei,ek,ep];omega
   exact v.then (c':=[aH.jump q]) (by
    rw[D];refine bE.one c.uniq (λy a=>absurd (c.out _ _ a) o_) (λy a=>?_) λT d u n o i=>?_
    ·rw[show p+1+b.length+1+e.length+1=q from F] at a
     rcases a with a|⟨_,rfl⟩
     ·exact absurd a (t.none o_ o_ y)
     ·exact⟨rfl,rfl,rfl⟩
    ·have a:=i q ⟨0,e_.length,none,false⟩ (d5 ⟨rfl,rfl⟩);exact⟨by rw[d],by rw[d];exact ft _,d6 o_,d5 ⟨_,d5 ⟨rfl,rfl⟩⟩,by rw[a,d],by rw[a,d];exact G,by rw[a];exact d6 rfl⟩)
    λx y f=>by have:=c.out x y f;simp only[ei,ek,ep];omega
  ·refine bE.close (q:=q) (y:=⟨0,e_.length,none,false⟩) ?_ o_ o_
   have c:eI (eY (eY L r ⟨0,e_.length,none,false⟩) q ⟨0,e_.length,none,false⟩) p (q-1):=eY.ok j o_ o_ (d7 _) o_ o_
   have A:=bE.begins (ar:=ar) (l:=l) (p:=p) (e_:=e_) c.uniq (λy a=>absurd (c.out _ _ a) o_) (λy a=>absurd (c.out _ _ a) o_)
   have w:=A.then (c':=b) (I _ (c.sub o_ o_)) λx y f=>by have:=c.out x y f;simp only[ek,ep];omega
   have z:p+([aH.begin l e_]++b).length=p+1+b.length:=by simp only[ei,ek,ep];omega
   have B:=w.then (c':=[aH.skip q]) (by
    rw[z];refine bE.one (h':=0) (v':=e_.length) (e':=some e_.length) c.uniq (λy a=>absurd (c.out _ _ a) o_) (λy a=>absurd (c.out _ _ a) o_) λT d u n o i=>?_
    have a:=i q ⟨0,e_.length,none,false⟩ (d5 ⟨rfl,rfl⟩);exact⟨by rw[d],by rw[d];show 1<=_;omega,by rw[d];exact d7 _,o_,⟨d5 ⟨_,d5 ⟨rfl,rfl⟩⟩,by rw[a,d];rfl,by rw[a,d];exact d7 _,by rw[a];exact d6 rfl⟩,iM,by rw[u,d];rfl,by rw[n,d];exact d7 _,by rw[o,d];exact d5 rfl⟩)
    λx y f=>by have:=c.out x y f;simp only[ei,ek,ep];omega
   have C:p+([aH.begin l e_]++b++[aH.skip q]).length=p+1+b.length+1:=by simp only[ei,ek,ep];omega
   have v:=B.then (c':=e) (by rw[C];exact(E _ (c.sub o_ o_)).entry (d7 _)) λx y f=>by have:=c.out x y f;simp only[ei,ek,ep];omega
   have D:p+([aH.begin l e_]++b++[aH.skip q]++e).length=p+1+b.length+1+e.length:=by simp only[ei,ek,ep];omega
   exact v.then (c':=[aH.jump r]) (by
    rw[D];refine bE.one c.uniq (λy a=>absurd (c.out _ _ a) o_) (λy a=>?_) λT d u n o i=>?_
    ·rw[show p+1+b.length+1+e.length+1=q from F] at a
     rcases a with (a|⟨a,_⟩)|⟨_,rfl⟩
     ·exact absurd a (t.none o_ o_ y)
     ·omega
     ·exact⟨rfl,rfl,rfl⟩
    ·have a:=i r ⟨0,e_.length,none,false⟩ (d6 (d5 ⟨rfl,rfl⟩));exact⟨by rw[d],by rw[d];exact ft _,d6 o_,d5 ⟨_,d6 (d5 ⟨rfl,rfl⟩)⟩,by rw[a,d],by rw[a,d];exact G,by rw[a];exact d6 rfl⟩)
    λx y f=>by have:=c.out x y f;simp only[ei,ek,ep];omega
 have h:p+(aH.begin l e_::b++[aH.skip q]++e++[aH.jump r]).length=q:=by simp only[ei,ek,ep];omega
 refine bE.close (q:=r) (y:=⟨0,e_.length,none,false⟩) ?_ o_ (by rw[ei];omega)
 refine k.then (c':=m) ?_ λx y f=>by have:=j.out x y f;omega
 rw[h];have:=(K L (t.sub o_ o_)).exit J false (by rw[H];exact t.none o_ (d7 _))
 rw[H] at this;exact this
def bE.whiles{L:Nat->eE->Prop}{l:Nat}{b cb:List aH}
 (i:eI L p (p+1+b.length+1+cb.length+1))
 (C:∀f,eI f (p+1) (p+1+b.length)->bE ar f (p+1) b 0 e_.length (some e_.length) 1 e_.length (some e_.length))
 (r:∀f,eI f (p+1+b.length+1) (p+1+b.length+1+cb.length)->bE ar f (p+1+b.length+1) cb 0 e_.length none 0 v1 none) (u:e_.length<=v1):
 bE ar L p (aH.begin l e_::b++[.skip (p+1+b.length+1+cb.length+1)]++cb++[aH.jump p]) 0 e_.length none 0 e_.length none:=by
 generalize s:p+1+b.length+1+cb.length+1=q at*;have m:p+(aH.begin l e_::b++[aH.skip q]++cb++[aH.jump p]).length=q:=by simp only[ei,ek,ep];omega
 refine bE.close (q:=p) (y:=⟨0,e_.length,none,true⟩) (bE.close (q:=q) (y:=⟨0,e_.length,none,false⟩) ?_ o_ o_) o_ o_
 have h:eI (eY L p ⟨0,e_.length,none,true⟩) (p+1) q:=eY.ok i (d7 _) o_ o_ (d7 _) o_
 have d:eI (eY (eY L p ⟨0,e_.length,none,true⟩) q ⟨0,e_.length,none,false⟩) (p+1) (q-1):=eY.ok h o_ (d7 _) (d7 _) o_ o_
 have w:=bE.begins (ar:=ar) (l:=l) (p:=p) (e_:=e_) d.uniq (λy a=>by
  rcases a with (a|⟨_,rfl⟩)|⟨a,_⟩
  ·exact absurd a (i.none o_ o_ y)
  ·rfl
  ·omega) (λy a=>absurd (d.out _ _ a) o_)
 have t:=w.then (c':=b) (C _ (d.sub o_ o_)) λx y e=>by have:=d.out x y e;simp only[ek,ep];omega
 have v:p+([aH.begin l e_]++b).length=p+1+b.length:=by simp only[ei,ek,ep];omega
 have z:=t.then (c':=[aH.skip q]) (by
  rw[v];refine bE.one (h':=0) (v':=e_.length) (e':=some e_.length) d.uniq (λy a=>absurd (d.out _ _ a) o_) (λy a=>absurd (d.out _ _ a) o_) λT c n j k g=>?_
  have a:=g q ⟨0,e_.length,none,false⟩ (d5 ⟨rfl,rfl⟩);exact⟨by rw[c],by rw[c];show 1<=_;omega,by rw[c];exact d7 _,o_,⟨d5 ⟨_,d5 ⟨rfl,rfl⟩⟩,by rw[a,c];rfl,by rw[a,c];exact d7 _,by rw[a];exact d6 rfl⟩,iM,by rw[n,c];rfl,by rw[j,c];exact d7 _,by rw[k,c];exact d5 rfl⟩)
  λx y e=>by have:=d.out x y e;simp only[ei,ek,ep];omega
 have A:p+([aH.begin l e_]++b++[aH.skip q]).length=p+1+b.length+1:=by simp only[ei,ek,ep];omega
 have o:=z.then (c':=cb) (by rw[A];exact(r _ (d.sub o_ o_)).entry (d7 _)) λx y e=>by have:=d.out x y e;simp only[ei,ek,ep];omega
 have B:p+([aH.begin l e_]++b++[aH.skip q]++cb).length=p+1+b.length+1+cb.length:=by simp only[ei,ek,ep];omega
 exact o.then (c':=[aH.jump p]) (by
  rw[B];refine bE.one d.uniq (λy a=>absurd (d.out _ _ a) o_) (λy a=>?_) λT c n j k g=>?_
  ·rw[show p+1+b.length+1+cb.length+1=q from s] at a
   rcases a with (a|⟨a,_⟩)|⟨_,rfl⟩
   ·exact absurd a (i.none o_ o_ y)
   ·omega
   ·exact⟨rfl,rfl,rfl⟩
  ·have a:=g p ⟨0,e_.length,none,true⟩ (d6 (d5 ⟨rfl,rfl⟩));exact⟨by rw[c],by rw[c];exact ft _,d5 (by rw[a]),d5 ⟨_,d6 (d5 ⟨rfl,rfl⟩)⟩,by rw[a,c],by rw[a,c];exact u,by rw[a];exact d6 rfl⟩)
  λx y e=>by have:=d.out x y e;simp only[ei,ek,ep];omega
def mS(fs:List aC):∀d,SL fs d
 |0,_,_,_,_,h,_=>h.elim
 |d+1,g,a,L,p,Y,i=>by
  have N:=mS fs d;rcases Y with ⟨k,K,t,v,l,F,_⟩|⟨k,P,J,l⟩|⟨k,c,t,l,S,V⟩|⟨k,c,b,l,S,K⟩|⟨k,l|⟨v,l,F⟩⟩|⟨k,v,l,F⟩|⟨k,v,l,F⟩
  ·have o:bB fs (d+1) g a p=(aH.begin a.l_ g::aG fs g d v (p+1)++[aH.declare g.length],t.x_::g):=by rw[bB];simp[k,l]
   have r:cO g a=t.x_::g:=by unfold cO;rw[if_pos k,l];rfl
   rw[o] at i ⊢
   rw[r];simp only at i ⊢
   obtain⟨B,I⟩:=kR (L:=L) (p:=p+1) (e:=some g.length) F o_ (i.sub o_ (by rw[pC];omega))
   refine⟨bE.stmt i B λw=>bE.last w rfl o_ λD T m E u A C z=>⟨by rw[m];rfl,z,?_⟩,trivial,_,rfl⟩
   rw[m];exact⟨d7 _,d7 _,K,rfl,E,u,by rw[A];exact d7 _,d6 C⟩
  ·have o:bB fs (d+1) g a p=(aH.begin a.l_ g::bP (aG fs g d) a.y_ (p+1)++[aH.assign (eB g a.x_) (a.y_.length-1)],g):=by rw[bB];simp[k]
   have r:cO g a=g:=by unfold cO;rw[if_neg (by rw[k];decide)]
   rw[o] at i ⊢
   rw[r];simp only at i ⊢
   obtain⟨B,I⟩:=qL (pF fs false g d) a.y_ L (p+1) 0 g.length (some g.length) l (d7 _) o_ (i.sub o_ (by rw[pC];omega))
   rw[gz] at B;have U:0<a.y_.length:=ie.2 J;refine⟨bE.stmt i B λw=>bE.last w rfl o_ λD T m E u A C z=>⟨by rw[m];rfl,z,?_⟩,trivial,_,rfl⟩
   rw[m];refine⟨?_,qJ P,E,?_,by rw[A];exact d7 _,d6 C⟩
   ·show a.y_.length-1+1<=a.y_.length;omega
   ·rw[u];show 0=a.y_.length-(a.y_.length-1+1);omega
  ·have r:cO g a=g:=by unfold cO;rw[if_neg (by rw[k];decide)]
   rw[r]
   obtain⟨H,o,Q⟩:∃H,bB fs (d+1) g a p=(aH.begin a.l_ g::aG fs g d c (p+1)++[aH.skip (p+1+(aG fs g d c (p+1)).length+1+(bG (bB fs d) g t.y_ (p+1+(aG fs g d c (p+1)).length+1)).length+1)]++bG (bB fs d) g t.y_ (p+1+(aG fs g d c (p+1)).length+1)++
    [aH.jump (p+1+(aG fs g d c (p+1)).length+1+(bG (bB fs d) g t.y_ (p+1+(aG fs g d c (p+1)).length+1)).length+1+H.length)]++H,g)/\
    ∃G,g.length<=G/\∀s,eI s (p+1+(aG fs g d c (p+1)).length+1+(bG (bB fs d) g t.y_ (p+1+(aG fs g d c (p+1)).length+1)).length+1) (p+1+(aG fs g d c (p+1)).length+1+(bG (bB fs d) g t.y_ (p+1+(aG fs g d c (p+1)).length+1)).length+1+H.length)->bE (fP fs) s (p+1+(aG fs g d c (p+1)).length+1+(bG (bB fs d) g t.y_ (p+1+(aG fs g d c (p+1)).length+1)).length+1) H 0 g.length none 0 G none:=by
    rcases l with l|⟨x,l,P⟩
    ·refine⟨[],by rw[bB];simp[k,l],g.length,d7 _,λs j=>bE.nil _ _ _ _ _ _ (λq y W Z=>absurd (j.out q y W) t_) j.uniq⟩
    ·exact⟨_,by rw[bB];simp[k,l],_,lU x.y_ g,λs j=>lY N x.y_ g s _ P j⟩
   obtain⟨G,M,Q⟩:=Q;rw[o] at i ⊢
   simp only at i ⊢
   refine⟨bE.ifs (v1:=(dT g t.y_).length) (v2:=G) ?_ (λs j=>(kR S o_ j).1) (λs j=>lY N t.y_ g s _ V j) (lU _ _) Q M,trivial,_,rfl⟩
   refine i.sub (d7 _) ?_;simp only[ei,ek,ep];omega
  ·have o:bB fs (d+1) g a p=(aH.begin a.l_ g::aG fs g d c (p+1)++[aH.skip (p+1+(aG fs g d c (p+1)).length+1+(bG (bB fs d) g b.y_ (p+1+(aG fs g d c (p+1)).length+1)).length+1)]++bG (bB fs d) g b.y_ (p+1+(aG fs g d c (p+1)).length+1)++[aH.jump p],g):=by rw[bB];simp[k,l]
   have r:cO g a=g:=by unfold cO;rw[if_neg (by rw[k];decide)]
   rw[o] at i ⊢
   rw[r];simp only at i ⊢
   refine⟨bE.whiles (v1:=(dT g b.y_).length) ?_ (λs j=>(kR S o_ j).1) (λs j=>lY N b.y_ g s _ K j) (lU _ _),trivial,_,rfl⟩
   refine i.sub (d7 _) ?_;simp only[ei,ek,ep];omega
  ·have o:bB fs (d+1) g a p=(aH.begin a.l_ g::[aH.push (aW 0)]++[aH.give],g):=by rw[bB];simp[k,l]
   have r:cO g a=g:=by unfold cO;rw[if_neg (by rw[k];decide)]
   rw[o] at i ⊢
   rw[r];simp only at i ⊢
   have O:eI L (p+1) (p+2):=i.sub o_ (by rw[pC];simp)
   refine⟨bE.stmt (n:=1) i (bE.plain O rfl o_ λD T u A f b X=>⟨b,X,by rw[u];exact f⟩) λw=>bE.last w rfl o_ λD T m E u A C z=>⟨by rw[m];rfl,z,by rw[m];exact d7 _⟩,trivial,_,rfl⟩
  ·have o:bB fs (d+1) g a p=(aH.begin a.l_ g::aG fs g d v (p+1)++[aH.give],g):=by rw[bB];simp[k,l]
   have r:cO g a=g:=by unfold cO;rw[if_neg (by rw[k];decide)]
   rw[o] at i ⊢
   rw[r];simp only at i ⊢
   obtain⟨B,I⟩:=kR (L:=L) (p:=p+1) (e:=some g.length) F o_ (i.sub o_ (by rw[pC];omega))
   exact⟨bE.stmt i B λw=>bE.last w rfl o_ λD T m E u A C z=>⟨by rw[m];rfl,z,by rw[m];exact d7 _⟩,trivial,_,rfl⟩
  ·have o:bB fs (d+1) g a p=(aH.begin a.l_ g::aG fs g d v (p+1)++[aH.print],g):=by rw[bB];simp[k,l]
   have r:cO g a=g:=by unfold cO;rw[if_neg (by rw[k];decide)]
   rw[o] at i ⊢
   rw[r];simp only at i ⊢
   obtain⟨B,I⟩:=kR (L:=L) (p:=p+1) (e:=some g.length) F o_ (i.sub o_ (by rw[pC];omega))
   refine⟨bE.stmt i B λw=>bE.last w rfl o_ λD T m E u A C z=>⟨by rw[m];rfl,z,?_⟩,trivial,_,rfl⟩
   rw[m];exact⟨d7 _,E,u,by rw[A];exact d7 _,d6 C⟩
  ·have o:bB fs (d+1) g a p=(aH.begin a.l_ g::aG fs g d v (p+1)++[aH.drop],g):=by rw[bB];simp[k,l]
   have r:cO g a=g:=by unfold cO;rw[if_neg (by rw[k];decide)]
   rw[o] at i ⊢
   rw[r];simp only at i ⊢
   obtain⟨B,I⟩:=kR (L:=L) (p:=p+1) (e:=some g.length) F o_ (i.sub o_ (by rw[pC];omega))
   refine⟨bE.stmt i B λw=>bE.last w rfl o_ λD T m E u A C z=>⟨by rw[m];rfl,z,?_⟩,trivial,_,rfl⟩
   rw[m];exact⟨d7 _,E,u,by rw[A];exact d7 _,d6 C⟩
structure kB(fs:List aC)(d:Nat)(f:aC):Prop where
 y_:∃ps b,f.y_=ps++[b]/\StsOk (dP fs d) (ps.map (·.x_)).reverse b.y_/\(ps.map (·.x_)).Nodup
 len:(fK fs d f).code.length<=80000
def C8{fs:List aC}{f:aC}(h:kB fs d f):∃T,oQ (fP fs) (fK fs d f).code T/\(T 0).h=0/\(T 0).v<=f.y_.length-1/\(T 0).e=none/\iR (fK fs d f).code:=by
 obtain⟨⟨z,b,D,p,_⟩,I⟩:=h;have g:(fK fs d f).code=bG (bB fs d) (z.map (·.x_)).reverse b.y_ 0++[.push (aW 0),.give]:=by simp[fK,D]
 have N:f.y_.length-1=(z.map (·.x_)).reverse.length:=by simp[D]
 rw[N];generalize B:(z.map (·.x_)).reverse=e at*
 have M:=lY (mS fs d) b.y_ e (λ_ _=>False) 0 p ⟨λ_ _ _ h=>h.elim,λ_ _ h=>h.elim⟩
 have x:iR (fK fs d f).code:=by
  rw[g];cases A:b.y_ with
  |nil=>exact d5 ⟨_,rfl⟩
  |cons a l=>
   rw[A] at p;obtain⟨r,K⟩:=(mS fs d e a (λ_ _=>False) 0 p.1 ⟨λ_ _ _ h=>h.elim,λ_ _ h=>h.elim⟩).2.2
   exact d6 ⟨a.l_,e,r++bG (bB fs d) (bB fs d e a 0).2 l (0+(bB fs d e a 0).1.length)++[.push (aW 0),.give],by rw[bG,K];simp⟩
 generalize Q:bG (bB fs d) e b.y_ 0=c at*;obtain⟨T,P,F,C,t,E,H,G,L⟩:=M;rw[gz] at E H G;have s:(fK fs d f).code.length=c.length+2:=by rw[g];simp
 let U:Nat->eE:=λq=>if q=c.length then ⟨0,(T q).v,none,false⟩ else if q=c.length+1 then ⟨1,(T c.length).v,none,false⟩ else T q
 have u0:U c.length=⟨0,(T c.length).v,none,false⟩:=by simp[U]
 have u1:U (c.length+1)=⟨1,(T c.length).v,none,false⟩:=by simp[U]
 have u2:∀q,q<c.length->U q=T q:=λq u=>by simp[U];rw[if_neg o_,if_neg o_]
 have v:(T 0).e=none:=by rcases t with t|t<;>exact t
 have o:(U 0).h=0/\(U 0).v<=e.length/\(U 0).e=none:=by
  rcases jq c.length with w|w
  ·rw[w] at u0;rw[u0];exact⟨rfl,C,rfl⟩
  ·rw[u2 0 w];exact⟨F,C,v⟩
 refine⟨U,⟨λj i m=>?_,I⟩,o.1,o.2.1,o.2.2,x⟩
 rw[s];rw[g] at m;rcases fk j c.length with n|n
 ·rw[gy n] at m;have:=L j i m;simp only[gz] at this;refine this.same (T':=U) (u2 j n) (λq u=>?_) (λq u O p=>by rw[u2 q o_];exact p)
  rcases u with u|⟨y,J⟩
  ·refine⟨o_,?_⟩
   rcases fk q c.length with h|h
   ·rw[u2 q h];exact⟨rfl,d7 _,d5 rfl⟩
   ·obtain rfl:q=c.length:=o_
    rw[u0];exact⟨E.symm,d7 _,d6 rfl⟩
  ·exact J.elim
 ·rw[gh n] at m;obtain⟨k,rfl⟩:∃k,j=c.length+k:=⟨j-c.length,o_⟩
  rw[ip] at m;match k,m with
  |0,m=>
   simp at m;subst m;show iT _ _ U c.length _
   exact⟨by rw[u0];rfl,by rw[u0];exact ft _,o_,by rw[u1,u0],by rw[u1,u0];exact d7 _,by rw[u1];exact d6 rfl⟩
  |1,m=>
   simp at m;subst m;exact⟨by rw[u1];rfl,by rw[u1];show 1<=_;omega,by rw[u1];exact d7 _⟩
  |k+2,m=>simp at m
def lM{fs:List aC}(h:∀f∈fs,kB fs d f):kA (fP fs) (dS fs d):=by
 refine⟨λk n a=>?_⟩
 unfold fP at a;cases b:fs[k]? with
 |none=>rw[b] at a;cases a
 |some f=>
  rw[b] at a;simp at a;subst a;obtain⟨T,g,c,j,e,i⟩:=C8 (h f (g9 b));exact⟨fK fs d f,T,by simp[dS,b],g,c,j,e,i⟩
def tX{fs:List aC}(h:∀f∈fs,kB fs d f)(o:fP fs (dA fs [109,97,105,110])=some 0)(a:List Int):fI (fP fs) (iD fs d a):=by
 obtain⟨f,T,k,i,n,j,m,c⟩:=(lM h).fn _ _ o;have e:iD fs d a=⟨[]++[⟨f,0,0,[],[],[]⟩],a,[]⟩:=by unfold iD;rw[k];rfl
 rw[e];refine⟨nI.snoc (λg b=>by cases b) ⟨⟨T,i,n,j,d6 m⟩,?_,s_,s_⟩ s_,λg b=>by simp at b;rw[b];exact c⟩
 rcases c with ⟨l,s,r,e⟩|⟨v,e⟩<;>simp[e]
inductive cP:List UInt8->Prop
 |nil:cP []
 |cons {l:List UInt8}:bC l≠0->cP (l.drop (bC l))->cP l
def mP{m:List UInt8}{i lo:Nat}(h:m[i]?=l[i]?):dF m i lo a=dF l i lo a:=by unfold dF;rw[h]
def nG{m:List UInt8}(h:bC l≠0)(a:∀i,i<bC l->m[i]?=l[i]?):bC m=bC l:=by
 have o:=a 0 o_
 unfold bC at h a ⊢
 rw[o];cases n:l[0]? with
 |none=>exact absurd (by rw[n]) h
 |some b=>
  rw[n] at h a;simp only at h a ⊢
  by_cases e:b.toNat<128
  ·rw[if_pos e,if_pos e]
  rw[if_neg e] at h a;rw[if_neg e,if_neg e];by_cases c:194<=b.toNat/\b.toNat<=223
  ·rw[if_pos c] at h a;rw[if_pos c,if_pos c];by_cases g:dF l 1 128 191=true
   ·rw[if_pos g] at a;rw[mP (a 1 o_)]
   ·rw[if_neg g] at h;exact absurd rfl h
  rw[if_neg c] at h a;rw[if_neg c,if_neg c];by_cases d:224<=b.toNat/\b.toNat<=239
  ·rw[if_pos d] at h a;rw[if_pos d,if_pos d];by_cases k:(dF l 1 (if b.toNat=224 then 160 else 128) (if b.toNat=237 then 159 else 191) && dF l 2 128 191)=true
   ·rw[if_pos k] at a;rw[mP (a 1 o_),mP (a 2 o_)]
   ·rw[if_neg k] at h;exact absurd rfl h
  rw[if_neg d] at h a;rw[if_neg d,if_neg d];by_cases f:240<=b.toNat/\b.toNat<=244
  ·rw[if_pos f] at h a;rw[if_pos f,if_pos f];by_cases j:(dF l 1 (if b.toNat=240 then 144 else 128) (if b.toNat=244 then 143 else 191) && dF l 2 128 191 && dF l 3 128 191)=true
   ·rw[if_pos j] at a;rw[mP (a 1 o_),mP (a 2 o_),mP (a 3 o_)]
   ·rw[if_neg j] at h;exact absurd rfl h
  ·rw[if_neg f] at h;exact absurd rfl h
def NK(t:List UInt8):Prop:=t.length<=100/\cP t
end Go.Proofs.YthbffcmfmjpncaaGreatDoor.Hs
namespace Go.Proofs.YthbffcmfmjpncaaGreatDoor
open Hs
def pX:Nat->aC->Prop
 |0,_=>True
 |d+1,a=>(a.op=[115]->a.x_.length<=100/\cP a.x_)/\a.y_.length<=1000000/\∀k∈a.y_,pX d k
def mL(a:aC):Prop:=∀e,pX e a
def mL.kid{a k:aC}(h:mL a)(b:k∈a.y_):mL k:=λe=>(h (e+1)).2.2 k b
def mL.len{a:aC}(h:mL a):a.y_.length<=1000000:=(h 1).2.1
end Go.Proofs.YthbffcmfmjpncaaGreatDoor
namespace Go.Proofs.YthbffcmfmjpncaaGreatDoor.Hs
variable{l:List aJ}{f:aI}{a v:aJ}
def pW{a b:List UInt8}(h:bC a≠0):bC (a++b)=bC a:=
 nG h λ_ c=>gy (el c kD)
def tC{l:List UInt8}(h:bC l≠0):bC (l.take (bC l))=bC l:=
 nG h λi a=>by rw[fm,if_pos a]
def cP.append{a b:List UInt8}(e:cP a)(f:cP b):cP (a++b):=by
 induction e with
 |nil=>exact f
 |@cons l c _ d=>
  refine cP.cons (by rw[pW c];exact c) ?_
  rw[pW c,List.drop_append_of_le_length kD];exact d
def cP.one{l:List UInt8}(h:bC l≠0):cP (l.take (bC l)):=
 cP.cons (by rw[tC h];exact h) (by rw[tC h,List.drop_take];simp;exact cP.nil)
def cP.ne{l:List UInt8}(h:cP l)(a:l≠[]):bC l≠0/\cP (l.drop (bC l)):=by
 cases h with
 |nil=>exact absurd rfl a
 |cons c b=>exact⟨c,b⟩
def SB:∀(n:Nat) (l:List UInt8),l.length<=n->∀c∈dW l,cP c:=by
 intro n;induction n with
 |zero=>
  intro l f c a;rw[dR (d6 (io.1 o_))] at a
  cases a
 |succ n e=>
  intro l f c a;by_cases d:l=[]
  ·rw[dR (d6 d)] at a;cases a
  by_cases b:bC l=0
  ·rw[dR (d5 b)] at a;cases a
  rw[iI d b] at a;rcases en.1 a with rfl|a
  ·exact cP.one b
  ·exact e _ (by rw[gj];omega) c a
def WX:Nat->aJ->Prop
 |0,_=>True
 |d+1,v=>cP v.s/\∀x∈v.l,WX d x
structure bN(v:aJ):Prop where
 all:∀d,WX d v
def bN.txt(h:bN v):cP v.s:=(h.all 1).1
def bN.kid{x:aJ}(h:bN v)(a:x∈v.l):bN x:=⟨λd=>(h.all (d+1)).2 x a⟩
def bN.mk'(a:cP v.s)(b:∀x∈v.l,bN x):bN v:=
 ⟨λd=>by
   cases d with
   |zero=>trivial
   |succ d=>exact⟨a,λx c=>(b x c).all d⟩⟩
def bN.num(n:Int):bN (aW n):=.mk' .nil λx a=>by cases a
def bN.tru(b:Bool):bN (bM b):=.mk' .nil λx a=>by cases a
def bN.nil:bN bL:=.mk' .nil λx a=>by cases a
def bN.str{s:List UInt8}(h:cP s):bN (bI s):=.mk' h λx a=>by cases a
def bN.lst(h:∀x∈l,bN x):bN (aT l):=.mk' .nil h
def xT(h:∀x∈l,bN x)(k:Nat):bN (l.getD k bL):=by
 rw[List.getD_eq_getElem?_getD];cases a:l[k]? with
 |none=>exact bN.nil
 |some x=>exact h x (g9 a)
def AY(h:∀x∈l,bN x)(k:Nat):bN (l[k]?.getD bL):=by
 cases a:l[k]? with
 |none=>exact bN.nil
 |some x=>exact h x (g9 a)
def UL(op:List UInt8)(a:aJ):bN (fH op a).1:=by
 unfold fH;repeat' split
 all_goals first|exact bN.num _|exact bN.tru _|exact bN.nil
def QJ(op:List UInt8)(x y:Int):bN (jH op x y).1:=by
 unfold jH;repeat' split
 all_goals first|exact bN.num _|exact bN.tru _|exact bN.nil
def GG{b:aJ}(c:bN a)(d:bN b):bN (jG a b).1:=by
 unfold jG;dsimp only;generalize e:(if a.sort=3 then aT (a.l++b.l) else bI (a.s++b.s))=v
 have f:bN v:=by
  rw[<-e];split
  ·refine bN.lst λx g=>?_
   rcases eo.1 g with h|h
   ·exact c.kid h
   ·exact d.kid h
  ·exact bN.str (c.txt.append d.txt)
 split
 ·exact bN.nil
 ·exact f
def SY(op:List UInt8){b:aJ}(c:bN a)(d:bN b):bN (eN op a b).1:=by
 unfold eN;repeat' split
 all_goals first|exact bN.tru _|exact bN.nil|exact QJ _ _ _|exact GG c d
def GE(a:aJ):bN (eD a).1:=by
 unfold eD;repeat' split
 all_goals first|exact bN.num _|exact bN.nil
def LZ(b:aJ)(e:bN a):bN (dB a b).1:=by
 unfold dB;split
 ·exact bN.nil
 split
 ·exact bN.nil
 refine xT (λx d=>?_) _
 unfold jL at d;split at d
 ·obtain⟨c,f,rfl⟩:=ia.1 d;exact bN.str (SB _ _ (d7 _) c f)
 ·exact e.kid d
def rK:∀(l:List aJ) (a b:aJ),bN a->bN b->bN (cM l a b).1
 |[],_,_,_,c=>c
 |i::l,a,b,e,c=>by
  unfold cM;have f:=rK l (a.l.getD i.n.toNat bL) b (xT (λx d=>e.kid d) _) c
  split
  ·exact bN.nil
  split
  ·exact bN.nil
  split
  ·exact bN.nil
  ·refine bN.lst λx d=>?_
   rcases jy d with h|h
   ·exact e.kid h
   ·rw[h];exact f
def vD{r:aJ × Nat}(h:bN r.1):bN (iH r).1:=by
 unfold iH;repeat' split
 all_goals first|exact bN.nil|exact h
def vS(f:dQ):Prop:=(∀v,aH.push v∈f.code->bN v)/\∀op,aH.unary op∈f.code->op=[45]\/op=[33]
structure dK(f:aI):Prop where
 fn:vS f.fn
 g_:∀v∈f.g_,bN v
 ops:∀v∈f.ops,bN v
def fS(m:bX):Prop:=∀f∈m.f_,dK f
def jS(tab:List dQ):Prop:=∀f∈tab,vS f
def dK.last(h:dK f):bN f.last:=by
 unfold aI.last;cases a:f.ops.getLast? with
 |none=>exact bN.nil
 |some x=>exact h.ops x (List.mem_of_getLast? a)
def dK.pop(h:dK f):dK f.pop:=⟨h.fn,h.g_,λv a=>h.ops v (List.dropLast_subset _ a)⟩
def dK.popMany(h:dK f)(n:Nat):dK (f.popMany n):=⟨h.fn,h.g_,λv a=>h.ops v (jr a)⟩
def dK.push(h:dK f)(c:bN a):dK (f.push a):=⟨h.fn,h.g_,λv d=>by
 rcases eo.1 d with b|b
 ·exact h.ops v b
 ·rw[et.1 b];exact c⟩
def dK.next(h:dK f)(n:Nat):dK { f with next:=n }:=⟨h.fn,h.g_,h.ops⟩
def dK.many(h:dK f)(n:Nat):∀v∈f.many n,bN v:=λv a=>h.ops v (List.mem_of_mem_drop a)
def DO{i:aH}(h:dK f)(d:∀v,i=.push v->bN v):dK (aO i f).1:=by
 cases i<;>simp only[aO]
 case begin l s=>exact⟨h.fn,h.g_,h.ops⟩
 case push v=>exact h.push (d v rfl)
 case load k=>exact h.push (AY h.g_ k)
 case declare k=>
  refine⟨h.fn,λv b=>?_,h.pop.ops⟩
  rcases eo.1 b with a|a
  ·exact h.g_ v (jr a)
  ·rw[et.1 a];exact h.last
 case assign k n=>
  have c:=h.pop.popMany n;split
  ·refine⟨c.fn,λv b=>?_,c.ops⟩
   rcases jy b with a|a
   ·exact h.g_ v a
   ·rw[a];exact vD (rK _ _ _ (AY h.g_ k) h.last)
  ·exact c
 case jump t=>exact h.next t
 case skip t=>
  repeat' split
  ·exact h.pop
  ·exact h.pop.next t
  ·exact h.pop
 case shortcut w t=>
  repeat' split
  ·exact(h.pop.push h.last).next t
  ·exact h.pop
  ·exact h.pop
 case truth=>
  repeat' split
  ·exact h.pop.push h.last
  ·exact h.pop
 case unary op=>
  repeat' split
  ·exact h.pop.push (UL _ _)
  ·exact h.pop
 case binary op=>
  repeat' split
  ·exact h.pop.pop.push (SY _ h.pop.last h.last)
  ·exact h.pop.pop
 case index=>
  repeat' split
  ·exact h.pop.pop.push (LZ _ h.pop.last)
  ·exact h.pop.pop
 case list n=>
  repeat' split
  ·exact(h.popMany n).push (vD (bN.lst (h.many n)))
  ·exact h.popMany n
 case length=>
  repeat' split
  ·exact h.pop.push (GE _)
  ·exact h.pop
 case drop=>exact h.pop
 all_goals exact h
def EJ{m:List dQ}(B:jS m){b:List aI}{g:aI}{t:List Int}{o:List (List UInt8)}{i:aH}(h:fS ⟨b++[f],t,o⟩)(q:f.fetch=some (i,g)):fS (bY m i b g t o).1:=by
 have z:∀x∈b,dK x:=λx l=>h x (by simp[l])
 have u:dK f:=h f s_
 obtain⟨rfl,D⟩:g={ f with next:=f.next+1 }/\f.fn.code[f.next]?=some i:=by
  unfold aI.fetch at q;cases l:f.fn.code[f.next]? with
  |none=>rw[l] at q;cases q
  |some j=>rw[l] at q;simp at q;exact⟨q.2.symm,by rw[q.1]⟩
 have p:dK { f with next:=f.next+1 }:=u.next _
 generalize { f with next:=f.next+1 }=g at p
 have A:∀v,i=.push v->bN v:=λv e=>u.fn.1 v (by rw[<-e];exact g9 D)
 have d:∀y,dK y->∀t o,fS ⟨b++[y],t,o⟩:=λy C t o x l=>by
  rcases eo.1 l with c|c
  ·exact z x c
  ·rw[et.1 c];exact C
 cases i
 case read=>
  cases t with
  |nil=>exact d _ p _ _
  |cons a r=>exact d _ (p.push (bN.num _)) _ _
 case call k n=>
  simp only[bY];split
  ·exact d _ (p.popMany n) _ _
  ·intro x l;simp only[eo,en,ff,or_false] at l;rcases l with c|rfl|rfl
   ·exact z x c
   ·exact p.popMany n
   ·refine⟨?_,p.many n,λv w=>by cases w⟩
    show vS (m[k]?.getD ⟨[],[]⟩)
    cases s:m[k]? with
    |none=>exact ez (λv w=>absurd w s_) (λv w=>absurd w s_)
    |some y=>exact B y (g9 s)
 case give=>
  simp only[bY];intro x l;rcases eo.1 l with c|c
  ·exact z x (List.dropLast_subset _ c)
  ·cases s:b.getLast? with
   |none=>rw[s] at c;cases c
   |some y=>
    rw[s] at c;simp at c;rw[c];exact(z y (List.mem_of_getLast? s)).push p.last
 case print=>
  simp only[bY];split<;>exact d _ p.pop _ _
 all_goals exact d _ (DO p A) _ _
end Go.Proofs.YthbffcmfmjpncaaGreatDoor.Hs
