/- Plain functions on lists of bytes: lines, characters, blanks, tokens of a source. No Go, no program. -/
import Derived.Test.YtblbkfdhjfppkaaGreatDoorA0
set_option maxRecDepth 100000
namespace Go.Proofs.YtblbkfdhjfppkaaGreatDoor.Hs
def aU(l:List UInt8):Nat:=1+l.count 10
theorem jH(a b:List UInt8):aU (a++b)=aU a+b.count 10:=by
 unfold aU;rw[List.count_append];omega
theorem QM(a:List UInt8):a.count 10<=a.length:=List.count_le_length
theorem oP(a:List UInt8):aU a<=a.length+1:=by have:=QM a;unfold aU;omega
theorem CS(a:List UInt8)(c:UInt8):aU (a++[c])=aU a+if c=10 then 1 else 0:=by
 rw[jH];by_cases h:c=10<;>simp[h]
def dF(l:List UInt8)(i lo hi:Nat):Bool:=
 match l[i]? with
 |some b=>decide (lo<=b.toNat) && decide (b.toNat<=hi)
 |none=>false
def bC(l:List UInt8):Nat:=
 match l[0]? with
 |none=>0
 |some b=>
  if b.toNat<128 then 1
  else if 194<=b.toNat/\b.toNat<=223 then if dF l 1 128 191 then 2 else 0
  else if 224<=b.toNat/\b.toNat<=239 then
   if dF l 1 (if b.toNat=224 then 160 else 128) (if b.toNat=237 then 159 else 191) && dF l 2 128 191 then 3 else 0
  else if 240<=b.toNat/\b.toNat<=244 then
   if dF l 1 (if b.toNat=240 then 144 else 128) (if b.toNat=244 then 143 else 191) && dF l 2 128 191 && dF l 3 128 191 then 4 else 0
  else 0
def dE:Nat->List UInt8->Nat->Option Nat
 |0,_,_=>none
 |f+1,l,p=>
  if l.length=0 then none
  else if bC l=0 then some p
  else dE f (l.drop (bC l)) (p+bC l)
def bY(c:UInt8):Bool:=decide (48<=c.toNat) && decide (c.toNat<=57)
def eB(c:UInt8):Bool:=
 c.toNat==95 || (decide (97<=c.toNat) && decide (c.toNat<=122) || decide (65<=c.toNat) && decide (c.toNat<=90))
def cJ(l what:List UInt8):Bool:=what.isPrefixOf l
def bF(p:UInt8->Bool):List UInt8->Nat
 |[]=>0
 |c::r=>if p c then bF p r+1 else 0
theorem kH(p:UInt8->Bool)(l:List UInt8):bF p l<=l.length:=by
 induction l with
 |nil=>simp[bF]
 |cons c r ih=>simp only[bF];split<;>simp<;>omega
def eG(b:UInt8):Bool:=b.toNat != 10
def blankL:Nat->List UInt8->Nat
 |0,_=>0
 |f+1,l=>
  match l with
  |[]=>0
  |c::r=>
   if c.toNat=32\/c.toNat=9\/c.toNat=10 then blankL f r+1
   else if cJ (c::r) [47,47] then
    bF eG (c::r)+blankL f ((c::r).drop (bF eG (c::r)))
   else 0
def hJ:Nat:=9223372036854775807
def cA:Nat->List UInt8->Option Nat
 |n,[]=>some n
 |n,c::r=>if (hJ-(c.toNat-48))/10<n then none else cA (10*n+(c.toNat-48)) r
def iQ:List (List UInt8):=[[102,117,110,99],[118,97,114],[105,102],[101,108,115,101],[119,104,105,108,101],[114,101,116,117,114,110],[112,114,105,110,116],[116,114,117,101],[102,97,108,115,101]]
def cM:List (List UInt8):=[[61,61],[33,61],[60,61],[38,38],[124,124],[40],[41],[123],[125],[91],[93],[44],[59],[61],[60],[43],[45],[42],[47],[37],[33]]
def dT(name:Bool)(b:UInt8):Bool:=bY b || name && eB b
def fB(b:UInt8):Bool:=b.toNat != 34 && b.toNat != 10
structure aP where
 sort:Nat
 text:List UInt8
 line:Nat
structure oZ where
 sort:Nat
 text:List UInt8
 size:Nat
 ok:Bool
def gC(l:List UInt8)(name:Bool):oZ:=
 if name then { sort:=if iQ.contains (l.take (bF (dT name) l)) then 107 else 110,text:=l.take (bF (dT name) l),size:=bF (dT name) l,ok:=decide (bF (dT name) l<=16) }
 else { sort:=48,text:=l.take (bF (dT name) l),size:=bF (dT name) l,ok:=(cA 0 (l.take (bF (dT name) l))).isSome }
def nC(r:List UInt8):oZ:=
 { sort:=115,text:=r.take (bF fB r),size:=bF fB r+2,ok:=decide (r[bF fB r]?=some 34) && decide (bF fB r<=100) }
def gL(l:List UInt8):oZ:=
 match cM.find? (fun o=>cJ l o) with
 |some o=>{ sort:=112,text:=o,size:=o.length,ok:=true }
 |none=>{ sort:=0,text:=[],size:=0,ok:=false }
def bJ:List UInt8->oZ
 |[]=>{ sort:=0,text:=[],size:=0,ok:=false }
 |c::r=>if bY c || eB c then gC (c::r) (eB c) else if c.toNat=34 then nC r else gL (c::r)
def cU:Nat->List UInt8->List UInt8->Except Nat (List aP)
 |0,_,_=>.error 0
 |f+1,pre,l=>
  if l.length=0 then .ok [{ sort:=101,text:=[],line:=aU pre }]
  else if (bJ l).ok then
   match cU f (pre++l.take ((bJ l).size+blankL l.length (l.drop (bJ l).size))) (l.drop ((bJ l).size+blankL l.length (l.drop (bJ l).size))) with
   |.ok ts=>.ok ({ sort:=(bJ l).sort,text:=(bJ l).text,line:=aU pre }::ts)
   |.error n=>.error n
  else .error (aU pre)
def fI(l:List UInt8):Except Nat (List aP):=
 cU (l.length+1) (l.take (blankL l.length l)) (l.drop (blankL l.length l))
theorem kS{l w:List UInt8}(h:cJ l w=true):w.length<=l.length:=(aF_.1 h).length_le
theorem gG(f:Nat)(c:UInt8)(r:List UInt8):blankL (f+1) (c::r)=
 if c.toNat=32\/c.toNat=9\/c.toNat=10 then blankL f r+1
  else if cJ (c::r) [47,47] then bF eG (c::r)+blankL f ((c::r).drop (bF eG (c::r)))
  else 0:=by
 rw[blankL]
theorem BR(c:UInt8)(r:List UInt8)(h:cJ (c::r) [47,47]=true):1<=bF eG (c::r):=by
 have hc:c=47:=by
  have:=aF_.1 h;obtain⟨t,ht⟩:=this;simp only[s9,List.cons.injEq] at ht;exact ht.1.symm
 subst hc;rw[bF,if_pos (by decide)];omega
theorem vD(f:Nat):∀l:List UInt8,blankL f l<=l.length:=by
 induction f with
 |zero=>intro l;simp[blankL]
 |succ f ih=>
  intro l;cases l with
  |nil=>simp[blankL]
  |cons c r=>
   rw[gG];split
   ·have:=ih r;simp;omega
   ·split
    ·have h1:=ih ((c::r).drop (bF eG (c::r)));have h2:=kH eG (c::r);rw[al_] at h1;omega
    ·omega
theorem DW(f:Nat):∀(g:Nat) (l:List UInt8),l.length<=f->l.length<=g->blankL f l=blankL g l:=by
 induction f with
 |zero=>
  intro g l h _;obtain rfl:l=[]:=v8 (by omega)
  cases g<;>rfl
 |succ f ih=>
  intro g l h1 h2;cases l with
  |nil=>cases g<;>rfl
  |cons c r=>
   cases g with
   |zero=>simp at h2
   |succ g=>
    rw[gG,gG];simp only[n8] at h1 h2;rw[ih g r (by omega) (by omega)]
    by_cases hst:cJ (c::r) [47,47]=true
    ·have h3:=BR c r hst;rw[ih g ((c::r).drop (bF eG (c::r))) (by rw[al_,n8];omega) (by rw[al_,n8];omega)]
    ·simp only[hst];rfl
theorem rZ(l:List UInt8)(b:Bool):(gC l b).size=bF (dT b) l:=by
 unfold gC;split<;>rfl
theorem tX(l:List UInt8)(h:(bJ l).ok=true):1<=(bJ l).size/\(bJ l).size<=l.length:=by
 cases l with
 |nil=>simp[bJ] at h
 |cons c r=>
  rw[bJ] at h ⊢
  split
  ·rename_i hd;rw[rZ];refine⟨?_,kH _ _⟩
   rw[bF,if_pos (by
    revert hd;unfold dT
    cases bY c<;>cases eB c<;>simp)]
   omega
  ·rename_i hd;rw[if_neg hd] at h;split
   ·rename_i h34;rw[if_pos h34] at h;have h':(decide (r[bF fB r]?=some 34) && decide (bF fB r<=100))=true:=h;rw[y6,decide_eq_true_eq] at h'
    have hlt:bF fB r<r.length:=by
     by_cases hx:bF fB r<r.length
     ·exact hx
     ·rw[aa_ (by omega)] at h';exact absurd h'.1 (by simp)
    show 1<=bF fB r+2/\bF fB r+2<=(c::r).length
    rw[n8];omega
   ·rename_i h34;rw[if_neg h34] at h;unfold gL at h ⊢
    cases ho:cM.find? (fun o=>cJ (c::r) o) with
    |none=>rw[ho] at h;simp at h
    |some o=>
     have h1:=List.find?_some ho;have h2:=av_ ho;refine⟨?_,kS h1⟩;have:∀o∈cM,1<=o.length:=by decide
     exact this o h2
def cF(ts:List aP):Except Nat (List aP)->Except Nat (List aP)
 |.ok l=>.ok (ts++l)
 |.error n=>.error n
theorem qK(x:Except Nat (List aP)):cF [] x=x:=by cases x<;>rfl
theorem zL(ts:List aP)(t:aP)(x:Except Nat (List aP)):cF (ts++[t]) x=cF ts (cF [t] x):=by cases x<;>simp[cF]
theorem kP(f:Nat)(pre l:List UInt8)(h:l.length=0):cU (f+1) pre l=.ok [{ sort:=101,text:=[],line:=aU pre }]:=by
 rw[cU,if_pos h]
theorem kQ(f:Nat)(pre l:List UInt8)(h:¬l.length=0)(hk:(bJ l).ok=false):cU (f+1) pre l=.error (aU pre):=by
 rw[cU,if_neg h,if_neg (by rw[hk];simp)]
theorem gR(f:Nat)(pre l:List UInt8)(h:¬l.length=0)(hk:(bJ l).ok=true)(m:Nat)(hm:m=(bJ l).size+blankL l.length (l.drop (bJ l).size)):
 cU (f+1) pre l=cF [{ sort:=(bJ l).sort,text:=(bJ l).text,line:=aU pre }] (cU f (pre++l.take m) (l.drop m)):=by
 rw[cU,if_neg h,if_pos hk,<-hm];cases cU f (pre++l.take m) (l.drop m)<;>rfl
structure aC where
 op:List UInt8
 line:Nat
 text:List UInt8
 kids:List aC
def aO(ts:List aP)(p:Nat):aP:=ts[p]?.getD { sort:=101,text:=[],line:=0 }
def aX(ts:List aP)(p:Nat)(x:List UInt8):Bool:=((aO ts p).sort==112 || (aO ts p).sort==107) && (aO ts p).text==x
abbrev bS(α:Type):=Except Nat (α × Nat)
def bad{α:Type}(ts:List aP)(p:Nat):bS α:=.error (aO ts p).line
def bV(x:List UInt8):Nat:=
 if x==[124,124] then 0
 else if x==[38,38] then 1
 else if x==[61,61] || (x==[33,61] || (x==[60] || x==[60,61])) then 2
 else if x==[43] || x==[45] then 3
 else if x==[42] || (x==[47] || x==[37]) then 4
 else 9
def dI(E:Nat->bS aC)(ts:List aP):Nat->Nat->List aC->bS (List aC)
 |0,_,_=>.error 0
 |g+1,p,acc=>
  match E p with
  |.error l=>.error l
  |.ok (a,q)=>if aX ts q [44] then dI E ts g (q+1) (acc++[a]) else .ok (acc++[a],q)
def hP(E:Nat->bS aC)(ts:List aP)(p:Nat)(shut:List UInt8):bS (List aC):=
 if aX ts p shut then .ok ([],p) else dI E ts (ts.length+1) p []
def aL{α:Type}(ts:List aP)(x:List UInt8):bS α->bS α
 |.error l=>.error l
 |.ok (a,q)=>if aX ts q x then .ok (a,q+1) else bad ts q
def eL(E:Nat->bS aC)(ts:List aP)(p:Nat)(opens shut:List UInt8):bS (List aC):=
 if aX ts p opens then aL ts shut (hP E ts (p+1) shut) else bad ts p
def bU{α β:Type}(f:α->β):bS α->bS β
 |.error l=>.error l
 |.ok (a,q)=>.ok (f a,q)
def bO{α β:Type}(x:bS α)(f:α->Nat->bS β):bS β:=
 match x with
 |.error l=>.error l
 |.ok (a,q)=>f a q
def aQ(op:List UInt8)(line:Nat)(text:List UInt8)(kids:List aC):aC:={ op:=op,line:=line,text:=text,kids:=kids }
def dW(E:Nat->bS aC)(ts:List aP)(p:Nat):bS aC:=
 if (aO ts p).sort==48 || (aO ts p).sort==115 then .ok (aQ [UInt8.ofNat (aO ts p).sort] (aO ts p).line (aO ts p).text [],p+1)
 else if aX ts p [116,114,117,101] || aX ts p [102,97,108,115,101] then .ok (aQ [98,111,111,108] (aO ts p).line (aO ts p).text [],p+1)
 else if aX ts p [40] then aL ts [41] (E (p+1))
 else if aX ts p [91] then bU (aQ [108,105,115,116] (aO ts p).line (aO ts p).text) (eL E ts p [91] [93])
 else if (aO ts p).sort==110 then
  if aX ts (p+1) [40] then bU (aQ [99,97,108,108] (aO ts p).line (aO ts p).text) (eL E ts (p+1) [40] [41])
  else .ok (aQ [110,97,109,101] (aO ts p).line (aO ts p).text [],p+1)
 else bad ts p
def cZ(E:Nat->bS aC)(ts:List aP):Nat->aC->Nat->bS aC
 |0,_,_=>.error 0
 |g+1,n,p=>
  if aX ts p [91] then
   match aL ts [93] (E (p+1)) with
   |.error l=>.error l
   |.ok (i,q)=>cZ E ts g (aQ [105,110,100,101,120] (aO ts p).line [] [n,i]) q
  else .ok (n,p)
def eJ(E:Nat->bS aC)(ts:List aP):Nat->Nat->bS aC
 |0,_=>.error 0
 |g+1,p=>
  if aX ts p [45] then bU (fun x=>aQ [45,120] (aO ts p).line [] [x]) (eJ E ts g (p+1))
  else if aX ts p [33] then bU (fun x=>aQ [33,120] (aO ts p).line [] [x]) (eJ E ts g (p+1))
  else bO (dW E ts p) (cZ E ts (ts.length+1))
def bD(L:Nat->bS aC)(ts:List aP)(k:Nat):Nat->aC->Nat->bS aC
 |0,_,_=>.error 0
 |g+1,n,q=>
  if (aO ts q).sort==112 && bV (aO ts q).text==k then
   match L (q+1) with
   |.error l=>.error l
   |.ok (r,q2)=>if k=2 then .ok (aQ (aO ts q).text (aO ts q).line [] [n,r],q2) else bD L ts k g (aQ (aO ts q).text (aO ts q).line [] [n,r]) q2
  else .ok (n,q)
def fP(E:Nat->bS aC)(ts:List aP):Nat->Nat->bS aC
 |0,p=>eJ E ts (ts.length+1) p
 |j+1,p=>bO (fP E ts j p) (bD (fP E ts j) ts (4-j) (ts.length+1))
def fD(ts:List aP):Nat->Nat->bS aC
 |0,_=>.error 0
 |f+1,p=>fP (fD ts f) ts 5 p
def eR(E:Nat->bS aC)(ts:List aP):Nat->Nat->List aC->bS (List aC)
 |0,_,_=>.error 0
 |g+1,p,acc=>
  if aX ts p [91] then
   match aL ts [93] (E (p+1)) with
   |.error l=>.error l
   |.ok (i,q)=>eR E ts g q (acc++[i])
  else .ok (acc,p)
def eQ(E:Nat->bS aC)(ts:List aP)(p:Nat):bS aC:=
 if (aO ts p).sort==110 then
  if aX ts (p+1) [40] then
   aL ts [59] (bU (fun l=>aQ [100,111] (aO ts p).line (aO ts p).text [aQ [99,97,108,108] (aO ts p).line (aO ts p).text l]) (eL E ts (p+1) [40] [41]))
  else
   bO (aL ts [61] (eR E ts (ts.length+1) (p+1) [])) fun idx q=>
    aL ts [59] (bU (fun v=>aQ [115,101,116] (aO ts p).line (aO ts p).text (idx++[v])) (E q))
 else bad ts p
def oG(E:Nat->bS aC)(ts:List aP)(p:Nat):bS aC:=
 if (aO ts (p+1)).sort==110 then
  if aX ts (p+2) [61] then
   aL ts [59] (bU (fun v=>aQ [118,97,114] (aO ts p).line [] [aQ [116,97,114,103,101,116] (aO ts (p+1)).line (aO ts (p+1)).text [],v]) (E (p+3)))
  else bad ts (p+2)
 else bad ts (p+1)
def qQ(E B:Nat->bS aC)(ts:List aP)(p:Nat):bS aC:=
 bO (E (p+1)) fun c q=>bO (B q) fun b q2=>
  if aX ts q2 [101,108,115,101] then bU (fun d=>aQ [105,102] (aO ts p).line [] [c,b,d]) (B (q2+1))
  else .ok (aQ [105,102] (aO ts p).line [] [c,b],q2)
def kB(E B:Nat->bS aC)(ts:List aP)(p:Nat):bS aC:=
 bO (E (p+1)) fun c q=>bU (fun b=>aQ [119,104,105,108,101] (aO ts p).line [] [c,b]) (B q)
def gS(E:Nat->bS aC)(ts:List aP)(p:Nat):bS aC:=
 if aX ts (p+1) [59] then .ok (aQ [114,101,116,117,114,110] (aO ts p).line [] [],p+2)
 else aL ts [59] (bU (fun v=>aQ [114,101,116,117,114,110] (aO ts p).line [] [v]) (E (p+1)))
def iO(E:Nat->bS aC)(ts:List aP)(p:Nat):bS aC:=
 aL ts [59] (bU (fun v=>aQ [112,114,105,110,116] (aO ts p).line [] [v]) (E (p+1)))
def iX(E B:Nat->bS aC)(ts:List aP)(p:Nat):bS aC:=
 if aX ts p [118,97,114] then oG E ts p
 else if aX ts p [105,102] then qQ E B ts p
 else if aX ts p [119,104,105,108,101] then kB E B ts p
 else if aX ts p [114,101,116,117,114,110] then gS E ts p
 else if aX ts p [112,114,105,110,116] then iO E ts p
 else eQ E ts p
def dJ(S:Nat->bS aC)(ts:List aP):Nat->Nat->List aC->bS (List aC)
 |0,_,_=>.error 0
 |g+1,p,acc=>
  if aX ts p [125] then .ok (acc,p)
  else
   match S p with
   |.error l=>.error l
   |.ok (s,q)=>dJ S ts g q (acc++[s])
def iS(E:Nat->bS aC)(ts:List aP):Nat->Nat->bS aC
 |0,_=>.error 0
 |f+1,p=>
  if aX ts p [123] then
   bU (aQ [98,108,111,99,107] (aO ts p).line []) (aL ts [125] (dJ (iX E (iS E ts f) ts) ts (ts.length+1) (p+1) []))
  else bad ts p
def cR(ts:List aP):Nat->Nat->List aC->bS (List aC)
 |0,_,_=>.error 0
 |g+1,p,acc=>
  if (aO ts p).sort==110 then
   if aX ts (p+1) [44] then cR ts g (p+2) (acc++[aQ [112,97,114,97,109] (aO ts p).line (aO ts p).text []])
   else .ok (acc++[aQ [112,97,114,97,109] (aO ts p).line (aO ts p).text []],p+1)
  else bad ts p
def gV(ts:List aP)(p:Nat):bS (List aC):=
 aL ts [41] (if aX ts p [41] then .ok ([],p) else cR ts (ts.length+1) p [])
def jS(B:Nat->bS aC)(ts:List aP)(p:Nat):bS aC:=
 if aX ts p [102,117,110,99] then
  if (aO ts (p+1)).sort==110 then
   if aX ts (p+2) [40] then
    bO (gV ts (p+3)) fun l q=>bU (fun b=>aQ [102,117,110,99] (aO ts (p+1)).line (aO ts (p+1)).text (l++[b])) (B q)
   else bad ts (p+2)
  else bad ts (p+1)
 else bad ts p
def eS(F:Nat->bS aC)(ts:List aP):Nat->Nat->List aC->bS (List aC)
 |0,_,_=>.error 0
 |g+1,p,acc=>
  if (aO ts p).sort==101 then .ok (acc,p)
  else
   match F p with
   |.error l=>.error l
   |.ok (s,q)=>eS F ts g q (acc++[s])
def jR(ts:List aP):bS (List aC):=
 eS (jS (iS (fD ts (ts.length+1)) ts (ts.length+1)) ts) ts (ts.length+1) 0 []
structure bQ(ts:List aP):Prop where
 next:∀p,p<ts.length->(aO ts p).sort≠101->p+1<ts.length
 line:∀p,p<ts.length->(aO ts p).line≠0
structure cL{α:Type}(N p:Nat)(r:bS α):Prop where
 er:∀l,r=.error l->l≠0
 ok:∀a q,r=.ok (a,q)->p<q/\q<N
structure eY{α:Type}(N p:Nat)(r:bS α):Prop where
 er:∀l,r=.error l->l≠0
 ok:∀a q,r=.ok (a,q)->p<=q/\q<N
theorem cL.weak{α:Type}{N p:Nat}{r:bS α}(h:cL N p r):eY N p r:=⟨h.er,fun a q e=>by have:=h.ok a q e;omega⟩
theorem eY.ne{α:Type}{N p:Nat}{r:bS α}(h:eY N p r):r≠.error 0:=fun e=>h.er 0 e rfl
theorem cL.low{α:Type}{N p p':Nat}{r:bS α}(h:cL N p r)(hp:p'<=p):cL N p' r:=⟨h.er,fun a q e=>by have:=h.ok a q e;omega⟩
theorem eY.low{α:Type}{N p p':Nat}{r:bS α}(h:eY N p r)(hp:p'<p):cL N p' r:=⟨h.er,fun a q e=>by have:=h.ok a q e;omega⟩
theorem cL.of_ok{α:Type}{N p q:Nat}(a:α)(h:p<q)(h2:q<N):cL N p (.ok (a,q):bS α):=⟨(fun l e=>by cases e),fun a' q' e=>by cases e;exact⟨h,h2⟩⟩
theorem eY.of_ok{α:Type}{N p q:Nat}(a:α)(h:p<=q)(h2:q<N):eY N p (.ok (a,q):bS α):=⟨(fun l e=>by cases e),fun a' q' e=>by cases e;exact⟨h,h2⟩⟩
theorem cL.map{α β:Type}{N p:Nat}{r:bS α}(f:α->β)(h:cL N p r):cL N p (bU f r):=by
 cases r with
 |error l=>exact⟨fun l' e=>by cases e;exact h.er _ rfl,fun a q e=>by cases e⟩
 |ok aq=>obtain⟨a,q⟩:=aq;exact⟨(fun l e=>by cases e),fun a' q' e=>by cases e;exact h.ok _ _ rfl⟩
theorem bQ.isT{ts:List aP}(T:bQ ts){p:Nat}{x:List UInt8}(hp:p<ts.length)(h:aX ts p x=true):p+1<ts.length:=by
 refine T.next p hp fun e=>?_
 unfold aX at h;rw[e] at h;simp at h
theorem bQ.bad{ts:List aP}(T:bQ ts){α:Type}{p p':Nat}(hp:p<ts.length):cL ts.length p' (bad ts p:bS α):=⟨fun l e=>by cases e;exact T.line p hp,fun a q e=>by cases e⟩
theorem bQ.take{ts:List aP}(T:bQ ts){α:Type}{p:Nat}{x:List UInt8}{r:bS α}(h:cL ts.length p r):cL ts.length p (aL ts x r):=by
 cases r with
 |error l=>exact⟨fun l' e=>by cases e;exact h.er _ rfl,fun a q e=>by cases e⟩
 |ok aq=>
  obtain⟨a,q⟩:=aq;have hq:=h.ok a q rfl;unfold aL;simp only;split
  ·rename_i hi;exact cL.of_ok a (by omega) (T.isT hq.2 hi)
  ·exact T.bad hq.2
theorem bQ.takeW{ts:List aP}(T:bQ ts){α:Type}{p:Nat}{x:List UInt8}{r:bS α}(h:eY ts.length p r):cL ts.length p (aL ts x r):=by
 cases r with
 |error l=>exact⟨fun l' e=>by cases e;exact h.er _ rfl,fun a q e=>by cases e⟩
 |ok aq=>
  obtain⟨a,q⟩:=aq;have hq:=h.ok a q rfl;unfold aL;simp only;split
  ·rename_i hi;exact cL.of_ok a (by omega) (T.isT hq.2 hi)
  ·exact T.bad hq.2
theorem bQ.listLoop{ts:List aP}(T:bQ ts){E:Nat->bS aC}{p0:Nat}(HE:∀q,p0<q->q<ts.length->cL ts.length q (E q)):∀(g p:Nat) (acc:List aC),p0<p->p<ts.length->ts.length<=p+g->cL ts.length p (dI E ts g p acc)
 |0,p,acc,_,h1,h2=>by omega
 |g+1,p,acc,h0,h1,h2=>by
  have hE:=HE p h0 h1;rw[dI];cases hx:E p with
  |error l=>exact⟨fun l' e=>by cases e;exact hE.er _ hx,fun a q e=>by cases e⟩
  |ok aq=>
   obtain⟨a,q⟩:=aq;have hq:=hE.ok a q hx;simp only;split
   ·rename_i hi;have:=T.isT hq.2 hi;exact(bQ.listLoop T HE g (q+1) (acc++[a]) (by omega) this (by omega)).low (by omega)
   ·exact cL.of_ok _ hq.1 hq.2
theorem bQ.listIn{ts:List aP}(T:bQ ts){E:Nat->bS aC}{p0:Nat}(HE:∀q,p0<q->q<ts.length->cL ts.length q (E q)){p:Nat}(h0:p0<p)(h1:p<ts.length)(y:List UInt8):eY ts.length p (hP E ts p y):=by
 unfold hP;split
 ·exact eY.of_ok _ (l9 _) h1
 ·exact(T.listLoop HE (ts.length+1) p [] h0 h1 (by omega)).weak
theorem bQ.listP{ts:List aP}(T:bQ ts){E:Nat->bS aC}{p0:Nat}(HE:∀q,p0<q->q<ts.length->cL ts.length q (E q)){p:Nat}(h0:p0<=p)(h1:p<ts.length)(x y:List UInt8):cL ts.length p (eL E ts p x y):=by
 unfold eL;split
 ·rename_i hi;have:=T.isT h1 hi;exact(T.takeW (T.listIn HE (p:=p+1) (by omega) this y)).low (by omega)
 ·exact T.bad h1
theorem bQ.primary{ts:List aP}(T:bQ ts){E:Nat->bS aC}{p0:Nat}(HE:∀q,p0<q->q<ts.length->cL ts.length q (E q)){p:Nat}(h0:p0<=p)(h1:p<ts.length):cL ts.length p (dW E ts p):=by
 unfold dW;split
 ·rename_i hi;refine cL.of_ok _ (by omega) (T.next p h1 fun e=>?_)
  rw[e] at hi;simp at hi
 split
 ·rename_i hi;refine cL.of_ok _ (by omega) ?_
  rcases Bool.or_eq_true_iff.1 hi with hi|hi
  ·exact T.isT h1 hi
  ·exact T.isT h1 hi
 split
 ·rename_i hi;have:=T.isT h1 hi;exact T.take ((HE (p+1) (by omega) this).low (by omega))
 split
 ·exact(T.listP HE h0 h1 _ _).map _
 split
 ·rename_i hi;have hp:p+1<ts.length:=T.next p h1 fun e=>by rw[e] at hi;simp at hi
  split
  ·exact((T.listP HE (p:=p+1) (by omega) hp _ _).low (by omega)).map _
  ·exact cL.of_ok _ (by omega) hp
 ·exact T.bad h1
theorem bQ.index{ts:List aP}(T:bQ ts){E:Nat->bS aC}{p0:Nat}(HE:∀q,p0<q->q<ts.length->cL ts.length q (E q)):∀(g:Nat) (n:aC) (p:Nat),p0<=p->p<ts.length->ts.length<=p+g->eY ts.length p (cZ E ts g n p)
 |0,n,p,_,h1,h2=>by omega
 |g+1,n,p,h0,h1,h2=>by
  rw[cZ];split
  ·rename_i hi;have hp:=T.isT h1 hi;have hE:=T.take (x:=[93]) (HE (p+1) (by omega) hp)
   cases hx:aL ts [93] (E (p+1)) with
   |error l=>exact⟨fun l' e=>by cases e;exact hE.er _ hx,fun a q e=>by cases e⟩
   |ok iq=>
    obtain⟨i,q⟩:=iq;have hq:=hE.ok i q hx;exact((bQ.index T HE g _ q (by omega) hq.2 (by omega)).low (by omega:p<q)).weak
  ·exact eY.of_ok _ (l9 _) h1
theorem bQ.bind{ts:List aP}(_T:bQ ts){α β:Type}{p:Nat}{r:bS α}{f:α->Nat->bS β}(h:cL ts.length p r)(hf:∀a q,p<q->q<ts.length->eY ts.length q (f a q)):cL ts.length p (bO r f):=by
 cases r with
 |error l=>exact⟨fun l' e=>by cases e;exact h.er _ rfl,fun a q e=>by cases e⟩
 |ok aq=>
  obtain⟨a,q⟩:=aq;have hq:=h.ok a q rfl;exact(hf a q hq.1 hq.2).low hq.1
theorem bQ.unary{ts:List aP}(T:bQ ts){E:Nat->bS aC}{p0:Nat}(HE:∀q,p0<q->q<ts.length->cL ts.length q (E q)):∀(g p:Nat),p0<=p->p<ts.length->ts.length<=p+g->cL ts.length p (eJ E ts g p)
 |0,p,_,h1,h2=>by omega
 |g+1,p,h0,h1,h2=>by
  rw[eJ];split
  ·rename_i hi;have hp:=T.isT h1 hi;exact((bQ.unary T HE g (p+1) (by omega) hp (by omega)).low (by omega)).map _
  split
  ·rename_i hi;have hp:=T.isT h1 hi;exact((bQ.unary T HE g (p+1) (by omega) hp (by omega)).low (by omega)).map _
  ·exact T.bind (T.primary HE h0 h1) fun a q hq1 hq2=>T.index HE _ a q (by omega) hq2 (by omega)
theorem bQ.levelLoop{ts:List aP}(T:bQ ts){L:Nat->bS aC}{p0 k:Nat}(HL:∀q,p0<=q->q<ts.length->cL ts.length q (L q)):∀(g:Nat) (n:aC) (q:Nat),p0<=q->q<ts.length->ts.length<=q+g->eY ts.length q (bD L ts k g n q)
 |0,n,q,_,h1,h2=>by omega
 |g+1,n,q,h0,h1,h2=>by
  rw[bD];split
  ·rename_i hi;have hp:q+1<ts.length:=T.next q h1 fun e=>by rw[e] at hi;simp at hi
   have hE:=HL (q+1) (by omega) hp
   cases hx:L (q+1) with
   |error l=>exact⟨fun l' e=>by cases e;exact hE.er _ hx,fun a q e=>by cases e⟩
   |ok rq=>
    obtain⟨r,q2⟩:=rq;have hq:=hE.ok r q2 hx;simp only;split
    ·exact eY.of_ok _ (by omega) hq.2
    ·exact((bQ.levelLoop T HL g _ q2 (by omega) hq.2 (by omega)).low (by omega:q<q2)).weak
  ·exact eY.of_ok _ (l9 _) h1
theorem bQ.level{ts:List aP}(T:bQ ts){E:Nat->bS aC}{p0:Nat}(HE:∀q,p0<q->q<ts.length->cL ts.length q (E q)):∀(j p:Nat),p0<=p->p<ts.length->cL ts.length p (fP E ts j p)
 |0,p,h0,h1=>T.unary HE _ p h0 h1 (by omega)
 |j+1,p,h0,h1=>by
  rw[fP];exact T.bind (bQ.level T HE j p h0 h1) fun a q hq1 hq2=>T.levelLoop (p0:=p0) (fun q h0 h1=>bQ.level T HE j q h0 h1) _ a q (by omega) hq2 (by omega)
theorem bQ.expr{ts:List aP}(T:bQ ts):∀(f p:Nat),p<ts.length->ts.length<=p+f->cL ts.length p (fD ts f p)
 |0,p,h1,h2=>by omega
 |f+1,p,h1,h2=>by
  rw[fD];exact T.level (p0:=p) (fun q hq1 hq2=>bQ.expr T f q hq2 (by omega)) 5 p (l9 _) h1
theorem bQ.exprs{ts:List aP}(T:bQ ts):∀q,q<ts.length->cL ts.length q (fD ts (ts.length+1) q):=fun q hq=>T.expr _ q hq (by omega)
theorem bQ.setLoop{ts:List aP}(T:bQ ts){E:Nat->bS aC}(HE:∀q,q<ts.length->cL ts.length q (E q)):∀(g p:Nat) (acc:List aC),p<ts.length->ts.length<=p+g->eY ts.length p (eR E ts g p acc)
 |0,p,acc,h1,h2=>by omega
 |g+1,p,acc,h1,h2=>by
  rw[eR];split
  ·rename_i hi;have hp:=T.isT h1 hi;have hE:=T.take (x:=[93]) (HE (p+1) hp);cases hx:aL ts [93] (E (p+1)) with
   |error l=>exact⟨fun l' e=>by cases e;exact hE.er _ hx,fun a q e=>by cases e⟩
   |ok iq=>
    obtain⟨i,q⟩:=iq;have hq:=hE.ok i q hx;exact((bQ.setLoop T HE g q _ hq.2 (by omega)).low (by omega:p<q)).weak
  ·exact eY.of_ok _ (l9 _) h1
theorem bQ.simple{ts:List aP}(T:bQ ts){E:Nat->bS aC}(HE:∀q,q<ts.length->cL ts.length q (E q)){p:Nat}(h1:p<ts.length):cL ts.length p (eQ E ts p):=by
 unfold eQ;split
 ·rename_i hi;have hp:p+1<ts.length:=T.next p h1 fun e=>by rw[e] at hi;simp at hi
  split
  ·exact T.take (((T.listP (p0:=p) (fun q _ hq=>HE q hq) (p:=p+1) (by omega) hp _ _).low (by omega)).map _)
  ·exact T.bind ((T.takeW (T.setLoop HE _ (p+1) [] hp (by omega))).low (by omega)) fun idx q _ hq=>(T.take ((HE q hq).map _)).weak
 ·exact T.bad h1
theorem bQ.stmt{ts:List aP}(T:bQ ts){E B:Nat->bS aC}{p:Nat}(HE:∀q,q<ts.length->cL ts.length q (E q))(HB:∀q,p<q->q<ts.length->cL ts.length q (B q))(h1:p<ts.length):cL ts.length p (iX E B ts p):=by
 unfold iX;split
 ·rename_i hi;have hp:=T.isT h1 hi;unfold oG;split
  ·rename_i h110;have hp2:p+2<ts.length:=T.next (p+1) hp fun e=>by rw[e] at h110;simp at h110
   split
   ·rename_i h61;have hp3:p+3<ts.length:=T.isT hp2 h61;exact T.take (((HE (p+3) hp3).low (by omega)).map _)
   ·exact T.bad hp2
  ·exact T.bad hp
 split
 ·rename_i hi;have hp:=T.isT h1 hi;unfold qQ;refine T.bind ((HE (p+1) hp).low (by omega)) fun c q hq1 hq2=>(T.bind (HB q hq1 hq2) fun b q2 hq3 hq4=>?_).weak
  split
  ·rename_i hel;have:=T.isT hq4 hel;exact(((HB (q2+1) (by omega) this).low (by omega)).map _).weak
  ·exact eY.of_ok _ (l9 _) hq4
 split
 ·rename_i hi;have hp:=T.isT h1 hi;unfold kB;exact T.bind ((HE (p+1) hp).low (by omega)) fun c q hq1 hq2=>((HB q hq1 hq2).map _).weak
 split
 ·rename_i hi;have hp:=T.isT h1 hi;unfold gS;split
  ·rename_i h59;exact cL.of_ok _ (by omega) (T.isT hp h59)
  ·exact T.take (((HE (p+1) hp).low (by omega)).map _)
 split
 ·rename_i hi;have hp:=T.isT h1 hi;unfold iO;exact T.take (((HE (p+1) hp).low (by omega)).map _)
 ·exact T.simple HE h1
theorem bQ.blockLoop{ts:List aP}(_T:bQ ts){S:Nat->bS aC}{p0:Nat}(HS:∀q,p0<q->q<ts.length->cL ts.length q (S q)):∀(g p:Nat) (acc:List aC),p0<p->p<ts.length->ts.length<=p+g->eY ts.length p (dJ S ts g p acc)
 |0,p,acc,_,h1,h2=>by omega
 |g+1,p,acc,h0,h1,h2=>by
  rw[dJ];split
  ·exact eY.of_ok _ (l9 _) h1
  ·have hE:=HS p h0 h1;cases hx:S p with
   |error l=>exact⟨fun l' e=>by cases e;exact hE.er _ hx,fun a q e=>by cases e⟩
   |ok sq=>
    obtain⟨s,q⟩:=sq;have hq:=hE.ok s q hx;exact((bQ.blockLoop _T HS g q _ (by omega) hq.2 (by omega)).low (by omega:p<q)).weak
theorem bQ.block{ts:List aP}(T:bQ ts){E:Nat->bS aC}(HE:∀q,q<ts.length->cL ts.length q (E q)):∀(f p:Nat),p<ts.length->ts.length<=p+f->cL ts.length p (iS E ts f p)
 |0,p,h1,h2=>by omega
 |f+1,p,h1,h2=>by
  rw[iS];split
  ·rename_i hi;have hp:=T.isT h1 hi;refine((T.takeW (T.blockLoop (p0:=p) (fun q hq1 hq2=>T.stmt HE (fun q' h' h''=>bQ.block T HE f q' h'' (by omega)) hq2) _ (p+1) [] (by omega) hp (by omega))).low (by omega)).map _
  ·exact T.bad h1
theorem bQ.paramLoop{ts:List aP}(T:bQ ts):∀(g p:Nat) (acc:List aC),p<ts.length->ts.length<=p+g->cL ts.length p (cR ts g p acc)
 |0,p,acc,h1,h2=>by omega
 |g+1,p,acc,h1,h2=>by
  rw[cR];split
  ·rename_i hi;have hp:p+1<ts.length:=T.next p h1 fun e=>by rw[e] at hi;simp at hi
   split
   ·rename_i h44;have hp2:p+2<ts.length:=T.isT hp h44;exact(bQ.paramLoop T g (p+2) _ hp2 (by omega)).low (by omega)
   ·exact cL.of_ok _ (by omega) hp
  ·exact T.bad h1
theorem bQ.func{ts:List aP}(T:bQ ts){B:Nat->bS aC}(HB:∀q,q<ts.length->cL ts.length q (B q)){p:Nat}(h1:p<ts.length):cL ts.length p (jS B ts p):=by
 unfold jS;split
 ·rename_i hi;have hp:=T.isT h1 hi;split
  ·rename_i h110;have hp2:p+2<ts.length:=T.next (p+1) hp fun e=>by rw[e] at h110;simp at h110
   split
   ·rename_i h40;have hp3:p+3<ts.length:=T.isT hp2 h40
    have hpar:cL ts.length (p+3) (gV ts (p+3)):=by
     unfold gV;refine T.takeW ?_;split
     ·exact eY.of_ok _ (l9 _) hp3
     ·exact(T.paramLoop _ (p+3) [] hp3 (by omega)).weak
    exact T.bind (hpar.low (by omega)) fun l q _ hq=>((HB q hq).map _).weak
   ·exact T.bad hp2
  ·exact T.bad hp
 ·exact T.bad h1
theorem bQ.progLoop{ts:List aP}(_T:bQ ts){F:Nat->bS aC}(HF:∀q,q<ts.length->cL ts.length q (F q)):∀(g p:Nat) (acc:List aC),p<ts.length->ts.length<=p+g->eY ts.length p (eS F ts g p acc)
 |0,p,acc,h1,h2=>by omega
 |g+1,p,acc,h1,h2=>by
  rw[eS];split
  ·exact eY.of_ok _ (l9 _) h1
  ·have hE:=HF p h1;cases hx:F p with
   |error l=>exact⟨fun l' e=>by cases e;exact hE.er _ hx,fun a q e=>by cases e⟩
   |ok sq=>
    obtain⟨s,q⟩:=sq;have hq:=hE.ok s q hx;exact((bQ.progLoop _T HF g q _ hq.2 (by omega)).low (by omega:p<q)).weak
theorem bQ.prog{ts:List aP}(T:bQ ts)(h:0<ts.length):jR ts≠.error 0:=
 (T.progLoop (fun q hq=>T.func (fun q' hq'=>T.block (fun q hq=>T.exprs q hq) _ q' hq' (by omega)) hq) _ 0 [] h (by omega)).ne
structure qZ(ts:List aP):Prop where
 some_:0<ts.length
 last:(aO ts (ts.length-1)).sort=101
 line:∀p,p<ts.length->(aO ts p).line≠0
theorem pC(t:aP)(ts:List aP)(p:Nat):aO (t::ts) (p+1)=aO ts p:=by simp[aO]
theorem JJ(f:Nat):∀(pre l:List UInt8) (ts:List aP),cU f pre l=.ok ts->qZ ts/\ts.length<=f:=by
 induction f with
 |zero=>intro pre l ts h;cases h
 |succ f ih=>
  intro pre l ts h;by_cases hl:l.length=0
  ·rw[kP _ _ _ hl] at h;cases h;refine⟨⟨by simp,rfl,fun p hp=>?_⟩,by simp⟩
   obtain rfl:p=0:=by simp at hp;omega
   show aU pre≠0
   unfold aU;omega
  ·cases hk:(bJ l).ok
   ·rw[kQ _ _ _ hl hk] at h;cases h
   ·rw[gR _ _ _ hl hk _ rfl] at h;cases hx:cU f (pre++l.take ((bJ l).size+blankL l.length (l.drop (bJ l).size))) (l.drop ((bJ l).size+blankL l.length (l.drop (bJ l).size))) with
    |error n=>rw[hx] at h;cases h
    |ok us=>
     rw[hx] at h;cases h;obtain⟨h1,h2⟩:=ih _ _ us hx;refine⟨⟨by simp,?_,fun p hp=>?_⟩,by simp;omega⟩
     ·have:=h1.some_;show (aO (_::us) ((_::us).length-1)).sort=101
      rw[n8,show us.length+1-1=(us.length-1)+1 by omega,pC]
      exact h1.last
     ·cases p with
      |zero=>show aU pre≠0;unfold aU;omega
      |succ p=>
       show (aO (_::us) (p+1)).line≠0
       rw[pC];exact h1.line p (by simpa using hp)
theorem qZ.ok{ts:List aP}(h:qZ ts):bQ ts:=
 ⟨fun p hp hs=>by
   by_cases e:p=ts.length-1
   ·subst e;exact absurd h.last hs
   ·omega,h.line⟩
theorem sA{l:List UInt8}{ts:List aP}(h:fI l=.ok ts):qZ ts/\ts.length<=l.length+1:=JJ _ _ _ _ h
def cX(l:List UInt8):Except (Nat × Nat) (List aC):=
 if 2000<l.length then .error (1,0)
 else match dE l.length l 0 with
  |some k=>.error (2,aU (l.take k))
  |none=>
   match fI l with
   |.error n=>.error (3,n)
   |.ok ts=>
    match jR ts with
    |.error n=>.error (4,n)
    |.ok (ks,_)=>.ok ks
structure aZ where
 seen:List (List UInt8)
 kind:Nat
 line:Nat
def aZ.found(s:aZ)(line kind:Nat):aZ:=if s.kind=0 then { s with kind:=kind,line:=line } else s
def fQ(x:List UInt8):Bool:=x==[108,101,110] || x==[114,101,97,100]
def declaresL(s:aZ)(n:aC):aZ:=if fQ n.text || s.seen.contains n.text then s.found n.line 6 else s
def dM(fs:List aC)(name:List UInt8):Option aC:=fs.find? fun f=>f.text==name
def lO(fs:List aC)(alone:Bool)(name:List UInt8):Int:=
 if name==[108,101,110] then 1
 else if name==[114,101,97,100] && !alone then 0
 else match dM fs name with
  |some f=>(f.kids.length:Int)-1
  |none=> -1
def eF(fs:List aC)(alone:Bool)(s:aZ)(n:aC):aZ:=
 if lO fs alone n.text<0 then s.found n.line 6
 else if lO fs alone n.text≠(n.kids.length:Int) then s.found n.line 7
 else s
def bZ(fs:List aC)(alone:Bool)(s:aZ)(n:aC):aZ:=
 if n.op==[115,101,116] || n.op==[110,97,109,101] then (if s.seen.contains n.text then s else s.found n.line 6)
 else if n.op==[99,97,108,108] then eF fs alone s n
 else s
def aM(fs:List aC)(alone:Bool):Nat->aC->aZ->aZ
 |0,_,s=>s
 |d+1,n,s=>
  if n.op==[118,97,114] then
   match n.kids with
   |t::v::_=>let s1:=aM fs alone d v (declaresL s t);{ s1 with seen:=s1.seen++[t.text] }
   |_=>s
  else
   let s1:=n.kids.foldl (fun s k=>aM fs alone d k s) (bZ fs alone s n)
   if n.op==[98,108,111,99,107] then { s1 with seen:=s1.seen.take s.seen.length } else s1
def bT:Nat->aC->Nat
 |0,_=>0
 |d+1,n=>1+(n.kids.map (bT d)).sum
def C7:Nat->aC->Prop
 |0,_=>True
 |d+1,n=>(n.op=[118,97,114]->2<=n.kids.length)/\∀k∈n.kids,C7 d k
def FineA(m:Nat)(a:aC):Prop:=∀d,bT d a<=m/\C7 d a
def FineL(m:Nat)(l:List aC):Prop:=∀d,(l.map (bT d)).sum<=m/\∀k∈l,C7 d k
theorem FineA.le{m n:Nat}{a:aC}(h:FineA m a)(hn:m<=n):FineA n a:=fun d=>⟨p7 (h d).1 hn,(h d).2⟩
theorem FineL.le{m n:Nat}{a:List aC}(h:FineL m a)(hn:m<=n):FineL n a:=fun d=>⟨p7 (h d).1 hn,(h d).2⟩
theorem FineL.nil:FineL 0 []:=fun _=>⟨l9 _,fun _ h=>by cases h⟩
theorem FineL.snoc{m n:Nat}{l:List aC}{a:aC}(h:FineL m l)(ha:FineA n a):FineL (m+n) (l++[a]):=fun d=>by
 refine⟨?_,fun k hk=>?_⟩
 ·rw[af_,aJ_];have h1:=(h d).1;have h2:=(ha d).1;simp;omega
 ·rcases o7.1 hk with hk|hk
  ·exact(h d).2 k hk
  ·rw[o8.1 hk];exact(ha d).2
theorem FineL.one{n:Nat}{a:aC}(ha:FineA n a):FineL n [a]:=fun d=>by
 refine⟨?_,fun k hk=>?_⟩
 ·have h2:=(ha d).1;simp;omega
 ·rw[o8.1 hk];exact(ha d).2
theorem FineL.two{m n:Nat}{a b:aC}(ha:FineA m a)(hb:FineA n b):FineL (m+n) [a,b]:=(FineL.one ha).snoc hb
theorem FineL.three{m n k:Nat}{a b c:aC}(ha:FineA m a)(hb:FineA n b)(hc:FineA k c):FineL (m+n+k) [a,b,c]:=(FineL.two ha hb).snoc hc
theorem FineA.node{m:Nat}{l:List aC}{op text:List UInt8}{line:Nat}(h:FineL m l)(ho:op=[118,97,114]->2<=l.length):FineA (m+1) (aQ op line text l):=fun d=>by
 cases d with
 |zero=>exact⟨aj_ _,trivial⟩
 |succ d=>
  refine⟨?_,ho,(h d).2⟩;have:=(h d).1;show 1+(l.map (bT d)).sum<=m+1
  omega
def bH{α:Type}(P:Nat->α->Prop)(p:Nat)(r:bS α):Prop:=∀a q,r=.ok (a,q)->∃m,p+m<=q/\P m a
theorem bH.bad{α:Type}{P:Nat->α->Prop}{p p':Nat}{ts:List aP}:bH P p (bad ts p'):=fun a q h=>by cases h
theorem bH.err{α:Type}{P:Nat->α->Prop}{p n:Nat}:bH P p (.error n):=fun a q h=>by cases h
theorem bH.of_ok{α:Type}{P:Nat->α->Prop}{p m q:Nat}{a:α}(hm:p+m<=q)(h:P m a):bH P p (.ok (a,q)):=fun a' q' e=>by cases e;exact⟨m,hm,h⟩
theorem bH.take{α:Type}{P:Nat->α->Prop}{p:Nat}{ts:List aP}{x:List UInt8}{r:bS α}(h:bH P p r):bH P p (aL ts x r):=by
 cases r with
 |error l=>exact bH.err
 |ok aq=>
  obtain⟨a,q⟩:=aq;obtain⟨m,h1,h2⟩:=h a q rfl;unfold aL;simp only;split
  ·exact bH.of_ok (by omega) h2
  ·exact bH.bad
theorem bH.map{α β:Type}{P:Nat->α->Prop}{Q:Nat->β->Prop}{p p' k:Nat}{r:bS α}{f:α->β}(h:bH P p r)(hp:p'+k<=p)(hf:∀m a,P m a->Q (m+k) (f a)):bH Q p' (bU f r):=by
 cases r with
 |error l=>exact bH.err
 |ok aq=>
  obtain⟨a,q⟩:=aq;obtain⟨m,h1,h2⟩:=h a q rfl;exact bH.of_ok (m:=m+k) (by omega) (hf m a h2)
theorem bH.bind{α β:Type}{P:Nat->α->Prop}{Q:Nat->β->Prop}{p p':Nat}{r:bS α}{f:α->Nat->bS β}(h:bH P p r)(hf:∀m a q,P m a->p+m<=q->bH Q p' (f a q)):bH Q p' (bO r f):=by
 cases r with
 |error l=>exact bH.err
 |ok aq=>
  obtain⟨a,q⟩:=aq;obtain⟨m,h1,h2⟩:=h a q rfl;exact hf m a q h2 h1
theorem bH.low{α:Type}{P:Nat->α->Prop}{p p':Nat}{r:bS α}(h:bH P p r)(hp:p'<=p):bH P p' r:=fun a q e=>by
 obtain⟨m,h1,h2⟩:=h a q e;exact⟨m,by omega,h2⟩
section
variable {ts:List aP} {E:Nat->bS aC}
theorem pU(HE:∀q,bH FineA q (E q)):∀(g p:Nat) (acc:List aC) (m0 p0:Nat),FineL m0 acc->p0+m0<=p->bH FineL p0 (dI E ts g p acc)
 |0,p,acc,_,_,_,_=>bH.err
 |g+1,p,acc,m0,p0,h0,hp=>by
  rw[dI];cases hx:E p with
  |error l=>exact bH.err
  |ok aq=>
   obtain⟨a,q⟩:=aq;obtain⟨m,h1,h2⟩:=HE p a q hx;simp only;split
   ·exact pU HE g (q+1) _ (m0+m) p0 (h0.snoc h2) (by omega)
   ·exact bH.of_ok (m:=m0+m) (by omega) (h0.snoc h2)
theorem pT(HE:∀q,bH FineA q (E q))(p:Nat)(x y:List UInt8):bH FineL (p+1) (eL E ts p x y):=by
 unfold eL;split
 ·refine bH.take ?_;unfold hP;split
  ·exact bH.of_ok (m:=0) (by omega) FineL.nil
  ·exact pU HE _ _ _ 0 _ FineL.nil (by omega)
 ·exact bH.bad
theorem lF{op text:List UInt8}{line:Nat}(ho:op≠[118,97,114]):FineA 1 (aQ op line text []):=FineA.node (m:=0) FineL.nil fun h=>absurd h ho
theorem EW(HE:∀q,bH FineA q (E q))(p:Nat):bH FineA p (dW E ts p):=by
 unfold dW;split
 ·exact bH.of_ok (m:=1) (by omega) (lF (by simp))
 split
 ·exact bH.of_ok (m:=1) (by omega) (lF (by simp))
 split
 ·exact((HE (p+1)).take).low (by omega)
 split
 ·exact bH.map (k:=1) (pT HE p _ _) (by omega) fun m a h=>FineA.node h (by simp)
 split
 ·split
  ·exact bH.map (k:=1) (pT HE (p+1) _ _) (by omega) fun m a h=>FineA.node h (by simp)
  ·exact bH.of_ok (m:=1) (by omega) (lF (by simp))
 ·exact bH.bad
theorem xI(HE:∀q,bH FineA q (E q)):∀(g:Nat) (n:aC) (p m0 p0:Nat),FineA m0 n->p0+m0<=p->bH FineA p0 (cZ E ts g n p)
 |0,n,p,_,_,_,_=>bH.err
 |g+1,n,p,m0,p0,h0,hp=>by
  rw[cZ];split
  ·have hE:=(HE (p+1)).take (ts:=ts) (x:=[93]);cases hx:aL ts [93] (E (p+1)) with
   |error l=>exact bH.err
   |ok iq=>
    obtain⟨i,q⟩:=iq;obtain⟨m,h1,h2⟩:=hE i q hx;exact xI HE g _ q (m0+m+1) p0 (FineA.node (FineL.two h0 h2) (by simp)) (by omega)
  ·exact bH.of_ok hp h0
theorem pR(HE:∀q,bH FineA q (E q)):∀(g p:Nat),bH FineA p (eJ E ts g p)
 |0,p=>bH.err
 |g+1,p=>by
  rw[eJ];split
  ·exact bH.map (k:=1) (pR HE g (p+1)) (by omega) fun m a h=>FineA.node (FineL.one h) (by simp)
  split
  ·exact bH.map (k:=1) (pR HE g (p+1)) (by omega) fun m a h=>FineA.node (FineL.one h) (by simp)
  ·exact bH.bind (EW HE p) fun m a q h1 h2=>xI HE _ a q m p h1 h2
theorem pF{L:Nat->bS aC}{k:Nat}(HL:∀q,bH FineA q (L q)):∀(g:Nat) (n:aC) (q m0 p0:Nat),FineA m0 n->p0+m0<=q->bH FineA p0 (bD L ts k g n q)
 |0,n,q,_,_,_,_=>bH.err
 |g+1,n,q,m0,p0,h0,hp=>by
  rw[bD];split
  ·cases hx:L (q+1) with
   |error l=>exact bH.err
   |ok rq=>
    obtain⟨r,q2⟩:=rq;obtain⟨m,h1,h2⟩:=HL _ r q2 hx;have hn:∀op line,FineA (m0+m+1) (aQ op line [] [n,r]):=fun op line=>FineA.node (FineL.two h0 h2) (by simp)
    simp only;split
    ·exact bH.of_ok (m:=m0+m+1) (by omega) (hn _ _)
    ·exact pF HL g _ q2 (m0+m+1) p0 (hn _ _) (by omega)
  ·exact bH.of_ok hp h0
theorem pV(HE:∀q,bH FineA q (E q)):∀(j p:Nat),bH FineA p (fP E ts j p)
 |0,p=>pR HE _ p
 |j+1,p=>by
  rw[fP];exact bH.bind (pV HE j p) fun m a q h1 h2=>pF (fun q=>pV HE j q) _ a q m p h1 h2
theorem BL(ts:List aP):∀(f p:Nat),bH FineA p (fD ts f p)
 |0,p=>bH.err
 |f+1,p=>by
  rw[fD];exact pV (fun q=>BL ts f q) 5 p
theorem sC(HE:∀q,bH FineA q (E q)):∀(g p:Nat) (acc:List aC) (m0 p0:Nat),FineL m0 acc->p0+m0<=p->bH FineL p0 (eR E ts g p acc)
 |0,p,acc,_,_,_,_=>bH.err
 |g+1,p,acc,m0,p0,h0,hp=>by
  rw[eR];split
  ·have hE:=(HE (p+1)).take (ts:=ts) (x:=[93]);cases hx:aL ts [93] (E (p+1)) with
   |error l=>exact bH.err
   |ok iq=>
    obtain⟨i,q⟩:=iq;obtain⟨m,h1,h2⟩:=hE i q hx;exact sC HE g q _ (m0+m) p0 (h0.snoc h2) (by omega)
  ·exact bH.of_ok hp h0
theorem JS(HE:∀q,bH FineA q (E q))(p:Nat):bH FineA p (eQ E ts p):=by
 unfold eQ;split
 ·split
  ·exact bH.take (bH.map (k:=2) (pT HE (p+1) _ _) (by omega) fun m a h=>FineA.node (FineL.one (FineA.node h (by simp))) (by simp))
  ·refine bH.bind ((sC HE _ (p+1) [] 0 (p+1) FineL.nil (by omega)).take) fun m l q h1 h2=>?_
   exact bH.take (bH.map (k:=m+1) (HE q) (by omega) fun m2 v hv=>FineA.le (FineA.node (h1.snoc hv) (by simp)) (by omega))
 ·exact bH.bad
theorem RX{B:Nat->bS aC}(HE:∀q,bH FineA q (E q))(HB:∀q,bH FineA q (B q))(p:Nat):bH FineA p (iX E B ts p):=by
 unfold iX;split
 ·unfold oG;split
  ·split
   ·exact bH.take (bH.map (k:=2) (HE (p+3)) (by omega) fun m v hv=>FineA.le (FineA.node (FineL.two (lF (by simp)) hv) (by simp)) (by omega))
   ·exact bH.bad
  ·exact bH.bad
 split
 ·unfold qQ;refine bH.bind (HE (p+1)) fun m c q h1 h2=>bH.bind (HB q) fun m2 b q2 h3 h4=>?_
  split
  ·exact bH.map (k:=m+m2+1) (HB (q2+1)) (by omega) fun m3 d hd=>FineA.le (FineA.node (FineL.three h1 h3 hd) (by simp)) (by omega)
  ·exact bH.of_ok (m:=m+m2+1) (by omega) (FineA.node (FineL.two h1 h3) (by simp))
 split
 ·unfold kB;exact bH.bind (HE (p+1)) fun m c q h1 h2=>bH.map (k:=m+1) (HB q) (by omega) fun m2 b hb=>FineA.le (FineA.node (FineL.two h1 hb) (by simp)) (by omega)
 split
 ·unfold gS;split
  ·exact bH.of_ok (m:=1) (by omega) (lF (by simp))
  ·exact bH.take (bH.map (k:=1) (HE (p+1)) (by omega) fun m v hv=>FineA.node (FineL.one hv) (by simp))
 split
 ·unfold iO;exact bH.take (bH.map (k:=1) (HE (p+1)) (by omega) fun m v hv=>FineA.node (FineL.one hv) (by simp))
 ·exact JS HE p
theorem pG{S:Nat->bS aC}(HS:∀q,bH FineA q (S q)):∀(g p:Nat) (acc:List aC) (m0 p0:Nat),FineL m0 acc->p0+m0<=p->bH FineL p0 (dJ S ts g p acc)
 |0,p,acc,_,_,_,_=>bH.err
 |g+1,p,acc,m0,p0,h0,hp=>by
  rw[dJ];split
  ·exact bH.of_ok hp h0
  ·cases hx:S p with
   |error l=>exact bH.err
   |ok sq=>
    obtain⟨s,q⟩:=sq;obtain⟨m,h1,h2⟩:=HS p s q hx;exact pG HS g q _ (m0+m) p0 (h0.snoc h2) (by omega)
theorem xJ(HE:∀q,bH FineA q (E q)):∀(f p:Nat),bH FineA p (iS E ts f p)
 |0,p=>bH.err
 |f+1,p=>by
  rw[iS];split
  ·exact bH.map (k:=1) (bH.take (pG (fun q=>RX HE (fun q=>xJ HE f q) q) _ (p+1) [] 0 (p+1) FineL.nil (by omega))) (by omega) fun m l h=>FineA.node h (by simp)
  ·exact bH.bad
theorem pE:∀(g p:Nat) (acc:List aC) (m0 p0:Nat),FineL m0 acc->p0+m0<=p->bH FineL p0 (cR ts g p acc)
 |0,p,acc,_,_,_,_=>bH.err
 |g+1,p,acc,m0,p0,h0,hp=>by
  have hl:FineL (m0+1) (acc++[aQ [112,97,114,97,109] (aO ts p).line (aO ts p).text []]):=h0.snoc (lF (by simp))
  rw[cR];split
  ·split
   ·exact pE g (p+2) _ (m0+1) p0 hl (by omega)
   ·exact bH.of_ok (m:=m0+1) (by omega) hl
  ·exact bH.bad
theorem RZ{B:Nat->bS aC}(HB:∀q,bH FineA q (B q))(p:Nat):bH FineA p (jS B ts p):=by
 unfold jS;split
 ·split
  ·split
   ·have hpar:bH FineL (p+3) (gV ts (p+3)):=by
     unfold gV;refine bH.take ?_;split
     ·exact bH.of_ok (m:=0) (by omega) FineL.nil
     ·exact pE _ (p+3) [] 0 (p+3) FineL.nil (by omega)
    exact bH.bind hpar fun m l q h1 h2=>bH.map (k:=m+1) (HB q) (by omega) fun m2 b hb=>FineA.le (FineA.node (h1.snoc hb) (by simp)) (by omega)
   ·exact bH.bad
  ·exact bH.bad
 ·exact bH.bad
theorem pS{F:Nat->bS aC}(HF:∀q,bH FineA q (F q)):∀(g p:Nat) (acc:List aC) (m0 p0:Nat),FineL m0 acc->p0+m0<=p->bH FineL p0 (eS F ts g p acc)
 |0,p,acc,_,_,_,_=>bH.err
 |g+1,p,acc,m0,p0,h0,hp=>by
  rw[eS];split
  ·exact bH.of_ok hp h0
  ·cases hx:F p with
   |error l=>exact bH.err
   |ok sq=>
    obtain⟨s,q⟩:=sq;obtain⟨m,h1,h2⟩:=HF p s q hx;exact pS HF g q _ (m0+m) p0 (h0.snoc h2) (by omega)
end
theorem RY(ts:List aP)(T:bQ ts)(h0:0<ts.length)(ks:List aC)(q:Nat)(h:jR ts=.ok (ks,q)):FineL ts.length ks:=by
 obtain⟨m,h1,h2⟩:=pS (fun q=>RZ (fun q'=>xJ (fun q=>BL ts _ q) _ q') q) (ts.length+1) 0 [] 0 0 FineL.nil (by omega) ks q h
 have:=(T.progLoop (fun q hq=>T.func (fun q' hq'=>T.block (fun q hq=>T.exprs q hq) _ q' hq' (by omega)) hq) _ 0 [] h0 (by omega)).ok ks q h
 exact h2.le (by omega)
theorem kR{l:List UInt8}{ks:List aC}(h:cX l=.ok ks):FineL 2001 ks:=by
 unfold cX at h;split at h
 ·cases h
 rename_i hl;split at h
 ·cases h
 split at h
 ·cases h
 rename_i ts ht;obtain⟨h1,h2⟩:=sA ht;split at h
 ·cases h
 rename_i q hp;cases h;exact(RY ts h1.ok h1.some_ _ _ hp).le (by omega)
def eZ:Nat->aC->Prop
 |0,_=>False
 |d+1,n=>∀k∈n.kids,eZ d k
theorem nP:∀(m:Nat) (a:aC),FineA m a->eZ m a
 |0,a,h=>by
  have:=(h 1).1;simp only[bT] at this;omega
 |m+1,a,h=>fun k hk=>nP m k fun d=>by
  have h1:=(h (d+1)).1;have h2:=(h (d+1)).2.2 k hk;refine⟨?_,h2⟩
  have:bT d k<=(a.kids.map (bT d)).sum:=by
   have:∀l:List aC,k∈l->bT d k<=(l.map (bT d)).sum:=by
    intro l;induction l with
    |nil=>intro h;cases h
    |cons x l ih=>
     intro h;simp only[s5,s6];rcases p8.1 h with rfl|h
     ·omega
     ·have:=ih h;omega
   exact this _ hk
  simp only[bT] at h1;omega
def eK(fs:List aC)(d:Nat)(s:aZ)(k:aC):aZ:=
 if k.op==[112,97,114,97,109] then { declaresL s k with seen:=(declaresL s k).seen++[k.text] } else aM fs false d k s
def fW(fs:List aC)(d:Nat)(s:aZ)(n:aC)(first:Bool):aZ:=
 n.kids.foldl (eK fs d) { (if fQ n.text || !first then s.found n.line 6 else s) with seen:=[] }
def eW(fs:List aC)(d:Nat):List aC->List aC->aZ->aZ
 |_,[],s=>s
 |pre,n::rest,s=>eW fs d (pre++[n]) rest (fW fs d s n (dM pre n.text).isNone)
def kJ(d:Nat)(ks:List aC):Nat × Nat:=
 match dM ks [109,97,105,110] with
 |none=>(5,0)
 |some m=>if 1<m.kids.length then (5,0) else ((eW ks d [] ks ⟨[],0,0⟩).kind,(eW ks d [] ks ⟨[],0,0⟩).line)
def dL(l:List UInt8):Nat × Nat:=
 match cX l with
 |.error f=>f
 |.ok ks=>kJ 2001 ks
def nY(t:aP):Prop:=t.sort=112\/(t.sort=107/\iQ.contains t.text=true)\/t.sort=110\/(t.sort=48/\(cA 0 t.text).isSome=true)\/t.sort=115\/t.sort=101
def EA(ts:List aP):Prop:=∀t∈ts,nY t
theorem EI(l:List UInt8)(line:Nat)(h:(bJ l).ok=true):nY { sort:=(bJ l).sort,text:=(bJ l).text,line:=line }:=by
 cases l with
 |nil=>simp[bJ] at h
 |cons c r=>
  rw[bJ] at h ⊢
  split
  ·rename_i hd;rw[if_pos hd] at h;unfold gC at h ⊢
   split
   ·by_cases hk:iQ.contains ((c::r).take (bF (dT (eB c)) (c::r)))=true
    ·rw[if_pos hk];exact Or.inr (Or.inl ⟨rfl,hk⟩)
    ·rw[if_neg hk];exact Or.inr (Or.inr (Or.inl rfl))
   ·rename_i hl;rw[if_neg hl] at h;exact Or.inr (Or.inr (Or.inr (Or.inl ⟨rfl,h⟩)))
  ·rename_i hd;rw[if_neg hd] at h;split
   ·exact Or.inr (Or.inr (Or.inr (Or.inr (Or.inl rfl))))
   ·rename_i h34;rw[if_neg h34] at h;unfold gL at h ⊢
    cases ho:cM.find? (fun o=>cJ (c::r) o) with
    |none=>rw[ho] at h;simp at h
    |some o=>exact Or.inl rfl
theorem RR(f:Nat):∀(pre l:List UInt8) (ts:List aP),cU f pre l=.ok ts->EA ts:=by
 induction f with
 |zero=>intro pre l ts h;cases h
 |succ f ih=>
  intro pre l ts h;by_cases hl:l.length=0
  ·rw[kP _ _ _ hl] at h;cases h;intro t ht;rw[o8.1 ht];exact Or.inr (Or.inr (Or.inr (Or.inr (Or.inr rfl))))
  ·cases hk:(bJ l).ok
   ·rw[kQ _ _ _ hl hk] at h;cases h
   ·rw[gR _ _ _ hl hk _ rfl] at h;cases hx:cU f (pre++l.take ((bJ l).size+blankL l.length (l.drop (bJ l).size))) (l.drop ((bJ l).size+blankL l.length (l.drop (bJ l).size))) with
    |error n=>rw[hx] at h;cases h
    |ok us=>
     rw[hx] at h;cases h;intro t ht;rcases p8.1 ht with rfl|ht
     ·exact EI l _ hk
     ·exact ih _ _ us hx t ht
theorem MT{l:List UInt8}{ts:List aP}(h:fI l=.ok ts):EA ts:=RR _ _ _ _ h
theorem EA.tk{ts:List aP}(h:EA ts)(p:Nat)(hp:p<ts.length):nY (aO ts p):=by
 have:aO ts p=ts[p]:=by unfold aO;rw[p9 hp];rfl
 rw[this];exact h _ (u_9 hp)
structure aI where
 sort:Nat
 n:Int
 s:List UInt8
 l:List aI
theorem aI.ind{P:aI->Prop}(h:∀v,(∀x,x∈v.l->P x)->P v):∀v,P v
 |⟨a,b,c,l⟩=>h ⟨a,b,c,l⟩ fun x _=>aI.ind h x
def aV(n:Int):aI:=⟨0,n,[],[]⟩
def bM(b:Bool):aI:=⟨1,if b then 1 else 0,[],[]⟩
def bI(s:List UInt8):aI:=⟨2,0,s,[]⟩
def aR(l:List aI):aI:=⟨3,0,[],l⟩
def bL:aI:=⟨0,0,[],[]⟩
noncomputable def aI.fold{α:Type}(f:Nat->Int->List UInt8->List α->α)(v:aI):α:=
 aI.rec (motive_1:=fun _=>α) (motive_2:=fun _=>List α) (fun a n s _ c=>f a n s c) [] (fun _ _ h t=>h::t) v
theorem aI.fold_eq{α:Type}(f:Nat->Int->List UInt8->List α->α)(v:aI):v.fold f=f v.sort v.n v.s (v.l.map (aI.fold f)):=by
 obtain⟨a,n,s,l⟩:=v;refine congrArg (f a n s) ?_;induction l with
 |nil=>rfl
 |cons x l ih=>exact congrArg (aI.fold f x::·) ih
noncomputable def aJ(v:aI):Nat:=v.fold fun _ _ s c=>1+s.length+c.sum
theorem eU(v:aI):aJ v=1+v.s.length+(v.l.map aJ).sum:=aI.fold_eq _ v
def mT{α:Type}:List (α->Bool)->List α->Bool
 |[],[]=>true
 |f::fs,x::xs=>f x && mT fs xs
 |_,_=>false
noncomputable def cE(x:aI):aI->Bool:=x.fold fun a n s c y=>a==y.sort && (n==y.n && (s==y.s && mT c y.l))
theorem SN(x y:aI):cE x y=(x.sort==y.sort && (x.n==y.n && (x.s==y.s && mT (x.l.map cE) y.l))):=congrFun (aI.fold_eq _ x) y
theorem xM:∀x y:aI,cE x y=true↔x=y:=by
 refine aI.ind fun x ih y=>?_
 have hE:∀(l:List aI),(∀v,v∈l->∀y,cE v y=true↔v=y)->∀m:List aI,mT (l.map cE) m=true↔l=m:=by
  intro l;induction l with
  |nil=>intro _ m;cases m<;>simp[mT]
  |cons a l ihl=>
   intro h m;cases m with
   |nil=>simp[mT]
   |cons b m=>simp[mT,h a (by simp) b,ihl (fun v hv=>h v (by simp[hv])) m]
 rw[SN];simp only[y6,beq_iff_eq,hE x.l ih y.l];constructor
 ·rintro⟨h1,h2,h3,h4⟩;cases x;cases y;simp_all
 ·rintro rfl;simp
def digitsF:Nat->Nat->List UInt8->List UInt8
 |0,_,t=>t
 |f+1,n,t=>if n<10 then UInt8.ofNat (48+n)::t else digitsF f (n/10) (UInt8.ofNat (48+n%10)::t)
def cH(n:Int):List UInt8:=(if n<0 then [45] else [])++digitsF 20 n.natAbs []
def eT:List (List UInt8)->List UInt8
 |[]=>[]
 |[x]=>x
 |x::r=>x++[44,32]++eT r
noncomputable def cC(v:aI):List UInt8:=
 v.fold fun a n s c=>if a=0 then cH n else if a=1 then (if n=1 then [116,114,117,101] else [102,97,108,115,101]) else if a=2 then [34]++s++[34] else [91]++eT c++[93]
theorem iN(v:aI):cC v=if v.sort=0 then cH v.n else if v.sort=1 then (if v.n=1 then [116,114,117,101] else [102,97,108,115,101]) else if v.sort=2 then [34]++v.s++[34] else [91]++eT (v.l.map cC)++[93]:=aI.fold_eq _ v
noncomputable def gE(v:aI):List UInt8:=if v.sort=2 then v.s else cC v
def iV(n:Int):Int:=(n+9223372036854775808)%18446744073709551616-9223372036854775808
noncomputable def jA(a b:aI):aI × Nat:=
 let v:=if a.sort=3 then aR (a.l++b.l) else bI (a.s++b.s)
 if 200<aJ v then (bL,6) else (v,0)
def jB(op:List UInt8)(x y:Int):aI × Nat:=
 if op=[43] then (aV (iV (x+y)),0)
 else if op=[45] then (aV (iV (x-y)),0)
 else if op=[42] then (aV (iV (x*y)),0)
 else if op=[60] then (bM (decide (x<y)),0)
 else if op=[60,61] then (bM (decide (x<=y)),0)
 else if y=0 then (bL,3)
 else if op=[47] then (aV (iV (x.tdiv y)),0)
 else (aV (iV (x.tmod y)),0)
def gF:List UInt8->List UInt8->Bool
 |[],[]=>false
 |[],_::_=>true
 |_::_,[]=>false
 |a::l,b::m=>if a.toNat<b.toNat then true else if b.toNat<a.toNat then false else gF l m
noncomputable def eM(op:List UInt8)(a b:aI):aI × Nat:=
 if op=[61,61] then (bM (cE a b),0)
 else if op=[33,61] then (bM (!cE a b),0)
 else if a.sort≠b.sort\/a.sort=1 then (bL,2)
 else if a.sort=0 then jB op a.n b.n
 else if op=[43] then jA a b
 else if a.sort=2/\op=[60] then (bM (gF a.s b.s),0)
 else if a.sort=2/\op=[60,61] then (bM (!gF b.s a.s),0)
 else (bL,2)
def fG(op:List UInt8)(a:aI):aI × Nat:=
 if op=[45,120]/\a.sort=0 then (aV (iV (-a.n)),0)
 else if op=[33,120]/\a.sort=1 then (bM (decide (a.n=0)),0)
 else (bL,2)
def iC:Nat->List UInt8->List (List UInt8)
 |0,_=>[]
 |f+1,l=>if l=[] then [] else if bC l=0 then [] else l.take (bC l)::iC f (l.drop (bC l))
def dV(l:List UInt8):List (List UInt8):=iC l.length l
def eC(a:aI):aI × Nat:=
 if a.sort=3 then (aV a.l.length,0) else if a.sort=2 then (aV (dV a.s).length,0) else (bL,2)
def jF(a:aI):List aI:=if a.sort=2 then (dV a.s).map bI else a.l
def dB(a b:aI):aI × Nat:=
 if a.sort<2\/b.sort≠0 then (bL,2)
 else if b.n<0\/((jF a).length:Int)<=b.n then (bL,4)
 else ((jF a).getD b.n.toNat bL,0)
def cI:List aI->aI->aI->aI × Nat
 |[],_,v=>(v,0)
 |i::at',old,v=>
  if old.sort≠3\/i.sort≠0 then (bL,2)
  else if i.n<0\/(old.l.length:Int)<=i.n then (bL,4)
  else if (cI at' (old.l.getD i.n.toNat bL) v).2≠0 then (bL,(cI at' (old.l.getD i.n.toNat bL) v).2)
  else (aR (old.l.set i.n.toNat (cI at' (old.l.getD i.n.toNat bL) v).1),0)
theorem jY{l:List UInt8}:bC l<=l.length:=by
 unfold bC;cases l with
 |nil=>simp
 |cons b r=>
  simp only[bb_]
  have q:∀i lo hi,dF (b::r) i lo hi=true->i<(b::r).length:=by
   intro i lo hi h;unfold dF at h;rcases ag_ i (b::r).length with h1|h1
   ·exact h1
   ·rw[aa_ h1] at h;simp at h
  split
  ·simp
  split
  ·split
   ·have:=q 1 _ _ (by assumption);omega
   ·simp
  split
  ·generalize (if b.toNat=224 then 160 else 128)=x1
   generalize (if b.toNat=237 then 159 else 191)=x2
   split
   ·rename_i h;rw[y6] at h;have:=q 2 _ _ h.2;omega
   ·simp
  split
  ·generalize (if b.toNat=240 then 144 else 128)=x1
   generalize (if b.toNat=244 then 143 else 191)=x2
   split
   ·rename_i h;rw[y6] at h;have:=q 3 _ _ h.2;omega
   ·simp
  ·simp
theorem qX:∀(f:Nat) (l:List UInt8),l.length<=f->iC f l=dV l:=by
 have h:∀(n f g:Nat) (l:List UInt8),l.length<=n->l.length<=f->l.length<=g->iC f l=iC g l:=by
  intro n;induction n with
  |zero=>
   intro f g l h0 hf hg;have:l=[]:=ay_.1 (by omega)
   subst this;cases f<;>cases g<;>simp[iC]
  |succ n ih=>
   intro f g l h0 hf hg;by_cases hl:l=[]
   ·subst hl;cases f<;>cases g<;>simp[iC]
   ·have hp:0<l.length:=aB_.2 hl;cases f with
    |zero=>omega
    |succ f=>
     cases g with
     |zero=>omega
     |succ g=>
      rw[iC,iC,if_neg hl,if_neg hl];by_cases hc:bC l=0
      ·rw[if_pos hc,if_pos hc]
      ·rw[if_neg hc,if_neg hc,ih f g (l.drop (bC l)) (by rw[al_];omega) (by rw[al_];omega) (by rw[al_];omega)]
 exact fun f l hl=>h l.length f l.length l (l9 _) hl (l9 _)
theorem iB{l:List UInt8}(hl:l≠[])(hc:bC l≠0):dV l=l.take (bC l)::dV (l.drop (bC l)):=by
 have hp:0<l.length:=aB_.2 hl;obtain⟨n,hn⟩:∃n,l.length=n+1:=⟨l.length-1,by omega⟩
 rw[<-qX (n+1) l (by omega),iC,if_neg hl,if_neg hc,qX n _ (by rw[al_];omega)]
theorem dQ{l:List UInt8}(h:l=[]\/bC l=0):dV l=[]:=by
 unfold dV;cases hn:l.length with
 |zero=>rfl
 |succ n=>
  rw[iC];rcases h with h|h
  ·rw[if_pos h]
  ·rw[if_pos h];split<;>rfl
theorem sP(l:List UInt8):(dV l).length<=l.length:=by
 have h:∀(n:Nat) (l:List UInt8),l.length<=n->(dV l).length<=l.length:=by
  intro n;induction n with
  |zero=>
   intro l h0;rw[dQ (Or.inl (ay_.1 (by omega)))];simp
  |succ n ih=>
   intro l h0;by_cases hl:l=[]
   ·rw[dQ (Or.inl hl)];simp
   by_cases hc:bC l=0
   ·rw[dQ (Or.inr hc)];simp
   have hp:0<l.length:=aB_.2 hl;rw[iB hl hc,n8];have:=ih (l.drop (bC l)) (by rw[al_];omega)
   rw[al_] at this;have:= @jY l;omega
 exact h l.length l (l9 _)
inductive aH where
 |begin (line:Nat) (seen:List (List UInt8))
 |push (v:aI)
 |load (slot:Nat)
 |declare (slot:Nat)
 |assign (slot n:Nat)
 |jump (to_:Nat)
 |skip (to_:Nat)
 |shortcut (when:Bool) (to_:Nat)
 |truth
 |unary (op:List UInt8)
 |binary (op:List UInt8)
 |index
 |list (n:Nat)
 |length
 |read
 |call (f:Nat) (n:Nat)
 |give
 |drop
 |print
def aH.isBegin:aH->Bool
 |.begin _ _=>true
 |_=>false
structure eP where
 name:List UInt8
 code:List aH
structure aK where
 fn:eP
 next:Nat
 line:Nat
 seen:List (List UInt8)
 vars:List aI
 ops:List aI
structure cP where
 frames:List aK
 tape:List Int
 out:List (List UInt8)
def aK.push(f:aK)(v:aI):aK:={ f with ops:=f.ops++[v] }
def aK.last(f:aK):aI:=f.ops.getLast?.getD bL
def aK.pop(f:aK):aK:={ f with ops:=f.ops.dropLast }
def aK.many(f:aK)(n:Nat):List aI:=f.ops.drop (f.ops.length-n)
def aK.popMany(f:aK)(n:Nat):aK:={ f with ops:=f.ops.take (f.ops.length-n) }
noncomputable def iA(r:aI × Nat):aI × Nat:=if r.2=0 then if 200<aJ r.1 then (bL,6) else r else r
noncomputable def mY(whole:aI)(at_:List aI)(to_:aI):aI × Nat:=iA (cI at_ whole to_)
noncomputable def aN(i:aH)(f:aK):aK × Nat:=
 match i with
 |.begin l s=>({ f with line:=l,seen:=s },0)
 |.push v=>(f.push v,0)
 |.load k=>(f.push (f.vars[k]?.getD bL),0)
 |.declare k=>({ f.pop with vars:=f.vars.take k++[f.last] },0)
 |.assign k n=>
  let g:=f.pop.popMany n
  let r:=mY (f.vars[k]?.getD bL) (f.pop.many n) f.last
  if r.2=0 then ({ g with vars:=f.vars.set k r.1 },0) else (g,r.2)
 |.jump t=>({ f with next:=t },0)
 |.skip t=>if f.last.sort=1 then (if f.last.n=1 then f.pop else { f.pop with next:=t },0) else (f.pop,2)
 |.shortcut w t=>if f.last.sort=1 then (if decide (f.last.n=1)=w then { f.pop.push f.last with next:=t } else f.pop,0) else (f.pop,2)
 |.truth=>if f.last.sort=1 then (f.pop.push f.last,0) else (f.pop,2)
 |.unary op=>let r:=fG (op++[120]) f.last;if r.2=0 then (f.pop.push r.1,0) else (f.pop,r.2)
 |.binary op=>let r:=eM op f.pop.last f.last;if r.2=0 then (f.pop.pop.push r.1,0) else (f.pop.pop,r.2)
 |.index=>let r:=dB f.pop.last f.last;if r.2=0 then (f.pop.pop.push r.1,0) else (f.pop.pop,r.2)
 |.list n=>let r:=iA (aR (f.many n),0);if r.2=0 then ((f.popMany n).push r.1,0) else (f.popMany n,r.2)
 |.length=>let r:=eC f.last;if r.2=0 then (f.pop.push r.1,0) else (f.pop,r.2)
 |.drop=>(f.pop,0)
 |_=>(f,0)
noncomputable def cD(tab:List eP)(i:aH)(below:List aK)(f:aK)(tape:List Int)(out:List (List UInt8)):cP × Nat:=
 match i with
 |.read=>
  match tape with
  |[]=>(⟨below++[f],tape,out⟩,7)
  |t::r=>(⟨below++[f.push (aV t)],r,out⟩,0)
 |.call k n=>
  if below.length+1=16 then (⟨below++[f.popMany n],tape,out⟩,5)
  else (⟨below++[f.popMany n,⟨tab[k]?.getD ⟨[],[]⟩,0,0,[],f.many n,[]⟩],tape,out⟩,0)
 |.give=>(⟨below.dropLast++(below.getLast?.map fun g=>g.push f.last).toList,tape,out⟩,0)
 |.print=>if out.length=50 then (⟨below++[f.pop],tape,out⟩,8) else (⟨below++[f.pop],tape,out++[gE f.last]⟩,0)
 |i=>let r:=aN i f;(⟨below++[r.1],tape,out⟩,r.2)
def aK.fetch(f:aK):Option (aH × aK):=f.fn.code[f.next]?.map fun i=>(i,{ f with next:=f.next+1 })
noncomputable def dU(tab:List eP):Nat->cP->Option (cP × Nat)
 |0,_=>none
 |k+1,m=>
  match m.frames.getLast? with
  |none=>some (m,1)
  |some f=>
   match f.fetch with
   |none=>none
   |some (i,g)=>
    let r:=cD tab i m.frames.dropLast g m.tape m.out
    if r.2≠0 then some r
    else if i.isBegin then some r
    else dU tab k r.1
structure bW where
 time:Nat
 m:cP
 stop:Nat
def bR(time stop:Nat):Nat:=if stop=0/\time=500 then 9 else stop
def eA:List (List UInt8)->List UInt8->Nat
 |[],_=>0
 |x::l,name=>if x=name then l.length else eA l name
def dA(fs:List aC)(name:List UInt8):Nat:=fs.findIdx fun f=>f.text==name
def bP(c:aC->Nat->List aH):List aC->Nat->List aH
 |[],_=>[]
 |a::l,p=>c a p++bP c l (p+(c a p).length)
def aG(fs:List aC)(seen:List (List UInt8)):Nat->aC->Nat->List aH
 |0,_,_=>[]
 |d+1,a,p=>
  let kids:=bP (aG fs seen d) a.kids p
  if a.op==[48] then [.push (aV (((cA 0 a.text).getD 0:Nat):Int))]
  else if a.op==[115] then [.push (bI a.text)]
  else if a.op==[98,111,111,108] then [.push (bM (a.text==[116,114,117,101]))]
  else if a.op==[110,97,109,101] then [.load (eA seen a.text)]
  else if a.op==[108,105,115,116] then kids++[.list a.kids.length]
  else if a.op==[105,110,100,101,120] then kids++[.index]
  else if a.op==[45,120] then kids++[.unary [45]]
  else if a.op==[33,120] then kids++[.unary [33]]
  else if a.op==[99,97,108,108] then
   kids++[if a.text==[108,101,110] then .length else if a.text==[114,101,97,100] then .read else .call (dA fs a.text) a.kids.length]
  else if a.op==[38,38] || a.op==[124,124] then
   match a.kids with
   |[l,r]=>
    let cl:=aG fs seen d l p
    let cr:=aG fs seen d r (p+cl.length+1)
    cl++[.shortcut (a.op==[124,124]) (p+cl.length+1+cr.length+1)]++cr++[.truth]
   |_=>[]
  else kids++[.binary a.op]
def bG(c:List (List UInt8)->aC->Nat->List aH × List (List UInt8)):List (List UInt8)->List aC->Nat->List aH
 |_,[],_=>[]
 |seen,a::l,p=>(c seen a p).1++bG c (c seen a p).2 l (p+(c seen a p).1.length)
def bB(fs:List aC):Nat->List (List UInt8)->aC->Nat->List aH × List (List UInt8)
 |0,seen,_,_=>([],seen)
 |d+1,seen,a,p=>
  let start:=aH.begin a.line seen
  let blk:=fun (b:aC) q=>bG (bB fs d) seen b.kids q
  if a.op==[118,97,114] then
   match a.kids with
   |[t,v]=>(start::aG fs seen d v (p+1)++[.declare seen.length],t.text::seen)
   |_=>([],seen)
  else if a.op==[115,101,116] then
   (start::bP (aG fs seen d) a.kids (p+1)++[.assign (eA seen a.text) (a.kids.length-1)],seen)
  else if a.op==[105,102] then
   match a.kids with
   |c::t::e=>
    let cc:=aG fs seen d c (p+1)
    let ct:=blk t (p+1+cc.length+1)
    let q:=p+1+cc.length+1+ct.length+1
    let ce:=match e with|[x]=>blk x q|_=>[]
    (start::cc++[.skip q]++ct++[.jump (q+ce.length)]++ce,seen)
   |_=>([],seen)
  else if a.op==[119,104,105,108,101] then
   match a.kids with
   |[c,b]=>
    let cc:=aG fs seen d c (p+1)
    let cb:=blk b (p+1+cc.length+1)
    (start::cc++[.skip (p+1+cc.length+1+cb.length+1)]++cb++[.jump p],seen)
   |_=>([],seen)
  else if a.op==[114,101,116,117,114,110] then
   match a.kids with
   |[v]=>(start::aG fs seen d v (p+1)++[.give],seen)
   |_=>([start,.push (aV 0),.give],seen)
  else if a.op==[112,114,105,110,116] then
   match a.kids with
   |[v]=>(start::aG fs seen d v (p+1)++[.print],seen)
   |_=>([],seen)
  else
   match a.kids with
   |[c]=>(start::aG fs seen d c (p+1)++[.drop],seen)
   |_=>([],seen)
def fJ(fs:List aC)(d:Nat)(f:aC):eP:=
 let seen:=(f.kids.dropLast.map (·.text)).reverse
 ⟨f.text,bG (bB fs d) seen ((f.kids.getLast?.map (·.kids)).getD []) 0++[.push (aV 0),.give]⟩
def dR(fs:List aC)(d:Nat):List eP:=fs.map (fJ fs d)
def gZ(fs:List aC)(d:Nat)(tape:List Int):cP:=⟨[⟨(dR fs d)[dA fs [109,97,105,110]]?.getD ⟨[],[]⟩,0,0,[],[],[]⟩],tape,[]⟩
structure eD where
 h:Nat
 v:Nat
 e:Option Nat
 b:Bool
def eI(D:Nat->Prop)(T:Nat->eD)(q h v:Nat)(e:Option Nat):Prop:=D q/\(T q).h=h/\(T q).v<=v/\((T q).e=none\/(T q).e=e)
def iM(ar:Nat->Option Nat)(D:Nat->Prop)(T:Nat->eD)(p:Nat)(i:aH):Prop:=
 (T p).b=i.isBegin/\(T p).h<=p/\
 match i with
 |.begin _ s=>s.length<=(T p).v/\eI D T (p+1) (T p).h (T p).v (some s.length)
 |.push _=>eI D T (p+1) ((T p).h+1) (T p).v (T p).e
 |.load k=>k<(T p).v/\eI D T (p+1) ((T p).h+1) (T p).v (T p).e
 |.declare k=>1<=(T p).h/\k<=(T p).v/\k<=90000/\(T p).e=some k/\eI D T (p+1) ((T p).h-1) (k+1) (T p).e
 |.assign k n=>n+1<=(T p).h/\k<(T p).v/\eI D T (p+1) ((T p).h-(n+1)) (T p).v (T p).e
 |.jump q=>(p<q\/(T q).b=true)/\eI D T q (T p).h (T p).v (T p).e
 |.skip q=>1<=(T p).h/\p<q/\eI D T q ((T p).h-1) (T p).v (T p).e/\eI D T (p+1) ((T p).h-1) (T p).v (T p).e
 |.shortcut _ q=>1<=(T p).h/\p<q/\eI D T q (T p).h (T p).v (T p).e/\eI D T (p+1) ((T p).h-1) (T p).v (T p).e
 |.truth=>1<=(T p).h/\eI D T (p+1) (T p).h (T p).v (T p).e
 |.unary _=>1<=(T p).h/\eI D T (p+1) (T p).h (T p).v (T p).e
 |.length=>1<=(T p).h/\eI D T (p+1) (T p).h (T p).v (T p).e
 |.binary _=>2<=(T p).h/\eI D T (p+1) ((T p).h-1) (T p).v (T p).e
 |.index=>2<=(T p).h/\eI D T (p+1) ((T p).h-1) (T p).v (T p).e
 |.list n=>n<=(T p).h/\eI D T (p+1) ((T p).h-n+1) (T p).v (T p).e
 |.read=>eI D T (p+1) ((T p).h+1) (T p).v (T p).e
 |.call k n=>n<=(T p).h/\ar k=some n/\eI D T (p+1) ((T p).h-n+1) (T p).v (T p).e
 |.give=>1<=(T p).h
 |.drop=>1<=(T p).h/\eI D T (p+1) ((T p).h-1) (T p).v (T p).e
 |.print=>1<=(T p).h/\eI D T (p+1) ((T p).h-1) (T p).v (T p).e
def MI(L:Nat->eD->Prop)(lo hi:Nat)(q:Nat):Prop:=(lo<=q/\q<=hi)\/∃y,L q y
def bE(ar:Nat->Option Nat)(L:Nat->eD->Prop)(p:Nat)(c:List aH)(h v:Nat)(e:Option Nat)(h' v':Nat)(e':Option Nat):Prop:=
 ∃T:Nat->eD,(∀q y,L q y->T q=y)/\(T p).h=h/\(T p).v<=v/\((T p).e=none\/(T p).e=e)/\
  (T (p+c.length)).h=h'/\(T (p+c.length)).v=v'/\(T (p+c.length)).e=e'/\
  ∀j i,c[j]?=some i->iM ar (MI L p (p+c.length)) T (p+j) i
theorem eI.same{D D':Nat->Prop}{T T':Nat->eD}{q h v:Nat}{e:Option Nat}(f:eI D T q h v e)(hd:D q->D' q/\(T' q).h=(T q).h/\(T' q).v<=(T q).v/\((T' q).e=none\/(T' q).e=(T q).e)):eI D' T' q h v e:=by
 obtain⟨f1,f2,f3,f4⟩:=f;obtain⟨d1,d2,d3,d4⟩:=hd f1;refine⟨d1,by rw[d2,f2],by omega,?_⟩
 rcases d4 with d4|d4
 ·exact Or.inl d4
 ·rw[d4];exact f4
theorem iM.same{ar:Nat->Option Nat}{D D':Nat->Prop}{T T':Nat->eD}{p:Nat}{i:aH}(f:iM ar D T p i)(hp:T' p=T p)
 (hd:∀q,D q->D' q/\(T' q).h=(T q).h/\(T' q).v<=(T q).v/\((T' q).e=none\/(T' q).e=(T q).e)) (hb:∀q,D q->q<=p->(T q).b=true->(T' q).b=true):iM ar D' T' p i:=by
 obtain⟨f1,f2,f3⟩:=f;refine⟨by rw[hp];exact f1,by rw[hp];exact f2,?_⟩
 cases i<;>simp only at f3 ⊢<;>try rw[hp]
 case jump q=>
  refine⟨?_,f3.2.same (hd _)⟩;rcases f3.1 with h|h
  ·exact Or.inl h
  ·rcases ag_ p q with h'|h'
   ·exact Or.inl h'
   ·exact Or.inr (hb q f3.2.1 h' h)
 all_goals first
  |exact f3
  |exact f3.same (hd _)
  |exact⟨f3.1,f3.2.same (hd _)⟩
  |exact⟨f3.1,f3.2.1,f3.2.2.same (hd _)⟩
  |exact⟨f3.1,f3.2.1,f3.2.2.1.same (hd _),f3.2.2.2.same (hd _)⟩
  |exact⟨f3.1,f3.2.1,f3.2.2.1,f3.2.2.2.1,f3.2.2.2.2.same (hd _)⟩
theorem bE.append{ar:Nat->Option Nat}{L:Nat->eD->Prop}{p:Nat}{c c':List aH}{h v h1 v1 h2 v2:Nat}{e e1 e2:Option Nat}(a:bE ar L p c h v e h1 v1 e1)(b:bE ar L (p+c.length) c' h1 v1 e1 h2 v2 e2)
 (hL:∀q y,L q y->q<=p\/p+c.length+c'.length<=q) (hc:c≠[]):bE ar L p (c++c') h v e h2 v2 e2:=by
 obtain⟨T,t1,t2,t3,t4,t5,t6,t7,t8⟩:=a;obtain⟨U,u1,u2,u3,u4,u5,u6,u7,u8⟩:=b;have hc0:0<c.length:=aB_.2 hc;have hlen:(c++c').length=c.length+c'.length:=m6;refine⟨fun q=>if q<p+c.length then T q else U q,fun q y hq=>?_,?_,?_,?_,?_,?_,?_,fun j i hj=>?_⟩
 ·rcases hL q y hq with h|h
  ·simp only[if_pos (show q<p+c.length by omega)];exact t1 q y hq
  ·simp only[if_neg (show ¬q<p+c.length by omega)];exact u1 q y hq
 ·simp only[if_pos (show p<p+c.length by omega)];exact t2
 ·simp only[if_pos (show p<p+c.length by omega)];exact t3
 ·simp only[if_pos (show p<p+c.length by omega)];exact t4
 ·simp only[if_neg (show ¬p+(c++c').length<p+c.length by omega)];rw[hlen,<-bc_];exact u5
 ·simp only[if_neg (show ¬p+(c++c').length<p+c.length by omega)];rw[hlen,<-bc_];exact u6
 ·simp only[if_neg (show ¬p+(c++c').length<p+c.length by omega)];rw[hlen,<-bc_];exact u7
 ·rcases ag_ j c.length with hj'|hj'
  ·rw[ad_ hj'] at hj;refine(t8 j i hj).same (by simp only[if_pos (show p+j<p+c.length by omega)]) (fun q hq=>?_) (fun q hq hqp hb=>?_)
   ·rcases ag_ q (p+c.length) with h|h
    ·rw[if_pos h];exact⟨hq.imp (fun hq=>⟨hq.1,by omega⟩) id,rfl,l9 _,Or.inr rfl⟩
    ·rw[if_neg (show ¬q<p+c.length by omega)]
     rcases as_ h with h|h
     ·subst h;exact⟨Or.inl ⟨by omega,by omega⟩,by rw[u2,t5],by rw[t6];exact u3,by rw[t7];exact u4⟩
     ·rcases hq with hq|⟨y,hy⟩
      ·omega
      ·rw[t1 q y hy,u1 q y hy];exact⟨Or.inr ⟨y,hy⟩,rfl,l9 _,Or.inr rfl⟩
   ·simp only[if_pos (show q<p+c.length by omega)];exact hb
  ·rw[y8 hj'] at hj;have hu:=u8 (j-c.length) i hj;rw[show p+c.length+(j-c.length)=p+j by omega] at hu
   have hlt:j-c.length<c'.length:=(z6.1 hj).1;refine hu.same (by simp only[if_neg (show ¬p+j<p+c.length by omega)]) (fun q hq=>?_) (fun q hq hqp hb=>?_)
   ·rcases hq with hq|⟨y,hy⟩
    ·rw[if_neg (show ¬q<p+c.length by omega)]
     exact⟨Or.inl ⟨by omega,by omega⟩,rfl,l9 _,Or.inr rfl⟩
    ·refine⟨Or.inr ⟨y,hy⟩,?_⟩;split
     ·rw[t1 q y hy,u1 q y hy];exact⟨rfl,l9 _,Or.inr rfl⟩
     ·exact⟨rfl,l9 _,Or.inr rfl⟩
   ·rcases hq with hq|⟨y,hy⟩
    ·simp only[if_neg (show ¬q<p+c.length by omega)];exact hb
    ·split
     ·rw[t1 q y hy,<-u1 q y hy];exact hb
     ·exact hb
theorem bE.nil(ar:Nat->Option Nat)(p h v:Nat)(e:Option Nat)(L:Nat->eD->Prop)(hL:∀q y,L q y->q=p->y.h=h/\y.v=v/\y.e=e)(hu:∀q y z,L q y->L q z->y=z):bE ar L p [] h v e h v e:=by
 classical
 refine⟨fun q=>if hq:∃y,L q y then hq.choose else ⟨h,v,e,false⟩,fun q y hy=>?_,?_⟩
 ·have hex:∃y,L q y:=⟨y,hy⟩;simp only[dif_pos hex];exact hu q _ _ hex.choose_spec hy
 ·simp only[p6,a3_];split
  ·rename_i hex;obtain⟨h1,h2,h3⟩:=hL p _ hex.choose_spec rfl;exact⟨h1,by omega,Or.inr h3,h1,h2,h3,fun j i hj=>by simp at hj⟩
  ·exact⟨rfl,l9 _,Or.inr rfl,rfl,rfl,rfl,fun j i hj=>by simp at hj⟩
structure oF(ar:Nat->Option Nat)(c:List aH)(T:Nat->eD):Prop where
 ins:∀j i,c[j]?=some i->iM ar (fun q=>q<c.length) T j i
 len:c.length<=80000
def iJ(c:List aH):Prop:=(∃l s r,c=.begin l s::r)\/∃v,c=[.push v,.give]
structure cG(ar:Nat->Option Nat)(f:aK)(more:Nat):Prop where
 code:∃T,oF ar f.fn.code T/\(T f.next).h=f.ops.length+more/\(T f.next).v<=f.vars.length/\((T f.next).e=none\/(T f.next).e=some f.seen.length)
 next:f.next<f.fn.code.length
 seen:f.seen.length<=f.vars.length
 vars:f.vars.length<=90001
structure jU(ar:Nat->Option Nat)(tab:List eP):Prop where
 fn:∀k n,ar k=some n->∃f T,tab[k]?=some f/\oF ar f.code T/\(T 0).h=0/\(T 0).v<=n/\(T 0).e=none/\
  iJ f.code
structure mZ(ar:Nat->Option Nat)(m:cP):Prop where
 low:∀f∈m.frames.dropLast,cG ar f 1
 top:∀f,m.frames.getLast?=some f->cG ar f 0
 deep:m.frames.length<=16
theorem fC{α:Type}(l:List α)(a:α):(l++[a]).getLast?=some a:=by simp
theorem fX{α:Type}(l:List α)(a:α):(l++[a]).dropLast=l:=by simp
theorem mZ.snoc{ar:Nat->Option Nat}{below:List aK}{f:aK}{t:List Int}{o:List (List UInt8)}(h1:∀g∈below,cG ar g 1)(h2:cG ar f 0)(h3:below.length+1<=16):mZ ar ⟨below++[f],t,o⟩:=
 ⟨by simp only[fX];exact h1,fun g hg=>by simp only[fC] at hg;cases hg;exact h2,by simp;omega⟩
theorem cG.flow{ar:Nat->Option Nat}{T:Nat->eD}{f g:aK}{h v:Nat}{e:Option Nat}(hc:oF ar f.fn.code T)(hf:eI (fun q=>q<f.fn.code.length) T g.next h v e)(h1:g.fn=f.fn)(h2:h=g.ops.length)(h3:v<=g.vars.length)(h4:e=none\/e=some g.seen.length)
 (h5:g.seen.length<=g.vars.length) (h6:g.vars.length<=90001):cG ar g 0:=by
 obtain⟨f1,f2,f3,f4⟩:=hf;refine⟨⟨T,by rw[h1];exact hc,by omega,by omega,?_⟩,by rw[h1];exact f1,h5,h6⟩
 rcases f4 with f4|f4
 ·exact Or.inl f4
 ·rw[f4];exact h4
theorem aK.pop_len(f:aK):f.pop.ops.length=f.ops.length-1:=by simp[aK.pop]
theorem aK.push_len(f:aK)(v:aI):(f.push v).ops.length=f.ops.length+1:=by simp[aK.push]
theorem aK.popMany_len(f:aK)(n:Nat):(f.popMany n).ops.length=f.ops.length-n:=by simp[aK.popMany]
theorem FL{ar:Nat->Option Nat}{T:Nat->eD}{f:aK}{i:aH}(hc:oF ar f.fn.code T)(hi:iM ar (fun q=>q<f.fn.code.length) T f.next i)
 (hh:(T f.next).h=f.ops.length) (hv:(T f.next).v<=f.vars.length) (he:(T f.next).e=none\/(T f.next).e=some f.seen.length) (hs:f.seen.length<=f.vars.length) (hm:f.vars.length<=90001)
 (hn:i≠.give) (hr:i≠.read) (hp:i≠.print) (hk:∀k n,i≠.call k n) (r:aK × Nat) (hr':r=aN i { f with next:=f.next+1 }):
 r.1.seen.length<=r.1.vars.length/\(r.2=0->cG ar r.1 0):=by
 obtain⟨_,_,hi⟩:=hi;have hs0:=hs;cases i with
 |give=>exact absurd rfl hn
 |read=>exact absurd rfl hr
 |print=>exact absurd rfl hp
 |call k n=>exact absurd rfl (hk k n)
 |begin l s=>
  simp only[aN] at hr' hi;subst hr';exact⟨by simp only;omega,fun _=>cG.flow (f:=f) hc hi.2 rfl hh hv (Or.inr rfl) (by simp only;omega) hm⟩
 |push v=>
  simp only[aN] at hr' hi;subst hr';exact⟨hs,fun _=>cG.flow (f:=f) hc hi rfl (by rw[aK.push_len];simp only;omega) hv he hs hm⟩
 |load k=>
  simp only[aN] at hr' hi;subst hr';exact⟨hs,fun _=>cG.flow (f:=f) hc hi.2 rfl (by rw[aK.push_len];simp only;omega) hv he hs hm⟩
 |declare k=>
  simp only[aN] at hr' hi;subst hr';obtain⟨i1,i2,i3,i4,i5⟩:=hi;have hse:f.seen.length=k:=by rcases he with he|he<;>rw[i4] at he<;>cases he;rfl
  have hl:(f.vars.take k++[aK.last { f with next:=f.next+1 }]).length=k+1:=by simp;omega
  exact⟨by show f.seen.length<=(f.vars.take k++[_]).length;rw[hl];omega,fun _=>cG.flow (f:=f) hc i5 rfl (by show _=(aK.pop _).ops.length;rw[aK.pop_len];simp only;omega) (by show _<=(f.vars.take k++[_]).length;rw[hl];omega) he (by show f.seen.length<=(f.vars.take k++[_]).length;rw[hl];omega) (by show (f.vars.take k++[_]).length<=_;rw[hl];omega)⟩
 |assign k n=>
  simp only[aN] at hr' hi;split at hr'
  ·subst hr';refine⟨by simp only[aC_];exact hs,fun _=>cG.flow (f:=f) hc hi.2.2 rfl ?_ (by simp only[aC_];exact hv) he (by simp only[aC_];exact hs) (by simp only[aC_];exact hm)⟩
   show _=(aK.popMany _ n).ops.length
   rw[aK.popMany_len,aK.pop_len];simp only;omega
  ·subst hr';rename_i h0;exact⟨hs,fun h=>absurd h h0⟩
 |jump q=>
  simp only[aN] at hr' hi;subst hr';exact⟨hs,fun _=>cG.flow (f:=f) hc hi.2 rfl hh hv he hs hm⟩
 |skip q=>
  simp only[aN] at hr' hi;split at hr'
  ·subst hr';refine⟨?_,fun _=>?_⟩
   ·split<;>exact hs
   ·split
    ·exact cG.flow (f:=f) hc hi.2.2.2 rfl (by rw[aK.pop_len];simp only;omega) hv he hs hm
    ·exact cG.flow (f:=f) hc hi.2.2.1 rfl (by show _=(aK.pop _).ops.length;rw[aK.pop_len];simp only;omega) hv he hs hm
  ·subst hr';exact⟨hs,fun h=>absurd h (by simp)⟩
 |shortcut w q=>
  simp only[aN] at hr' hi;split at hr'
  ·subst hr';refine⟨?_,fun _=>?_⟩
   ·split<;>exact hs
   ·split
    ·exact cG.flow (f:=f) hc hi.2.2.1 rfl (by show _=(aK.push (aK.pop _) _).ops.length;rw[aK.push_len,aK.pop_len];simp only;omega) hv he hs hm
    ·exact cG.flow (f:=f) hc hi.2.2.2 rfl (by rw[aK.pop_len];simp only;omega) hv he hs hm
  ·subst hr';exact⟨hs,fun h=>absurd h (by simp)⟩
 |truth=>
  simp only[aN] at hr' hi;split at hr'
  ·subst hr';exact⟨hs,fun _=>cG.flow (f:=f) hc hi.2 rfl (by rw[aK.push_len,aK.pop_len];simp only;omega) hv he hs hm⟩
  ·subst hr';exact⟨hs,fun h=>absurd h (by simp)⟩
 |unary op=>
  simp only[aN] at hr' hi;split at hr'
  ·subst hr';exact⟨hs,fun _=>cG.flow (f:=f) hc hi.2 rfl (by rw[aK.push_len,aK.pop_len];simp only;omega) hv he hs hm⟩
  ·subst hr';rename_i h0;exact⟨hs,fun h=>absurd h h0⟩
 |length=>
  simp only[aN] at hr' hi;split at hr'
  ·subst hr';exact⟨hs,fun _=>cG.flow (f:=f) hc hi.2 rfl (by rw[aK.push_len,aK.pop_len];simp only;omega) hv he hs hm⟩
  ·subst hr';rename_i h0;exact⟨hs,fun h=>absurd h h0⟩
 |binary op=>
  simp only[aN] at hr' hi;split at hr'
  ·subst hr';exact⟨hs,fun _=>cG.flow (f:=f) hc hi.2 rfl (by rw[aK.push_len,aK.pop_len,aK.pop_len];simp only;omega) hv he hs hm⟩
  ·subst hr';rename_i h0;exact⟨hs,fun h=>absurd h h0⟩
 |index=>
  simp only[aN] at hr' hi;split at hr'
  ·subst hr';exact⟨hs,fun _=>cG.flow (f:=f) hc hi.2 rfl (by rw[aK.push_len,aK.pop_len,aK.pop_len];simp only;omega) hv he hs hm⟩
  ·subst hr';rename_i h0;exact⟨hs,fun h=>absurd h h0⟩
 |list n=>
  simp only[aN] at hr' hi;split at hr'
  ·subst hr';exact⟨hs,fun _=>cG.flow (f:=f) hc hi.2 rfl (by rw[aK.push_len,aK.popMany_len];simp only;omega) hv he hs hm⟩
  ·subst hr';rename_i h0;exact⟨hs,fun h=>absurd h h0⟩
 |drop=>
  simp only[aN] at hr' hi;subst hr';exact⟨hs,fun _=>cG.flow (f:=f) hc hi.2 rfl (by rw[aK.pop_len];simp only;omega) hv he hs hm⟩
structure fH(ar:Nat->Option Nat)(m:cP):Prop where
 ok:mZ ar m
 start:∀f∈m.frames,iJ f.fn.code
theorem cG.pushed{ar:Nat->Option Nat}{f:aK}(h:cG ar f 1)(v:aI):cG ar (f.push v) 0:=by
 obtain⟨⟨T,h1,h2,h3,h4⟩,h5,h6,h7⟩:=h;exact⟨⟨T,h1,by show (T f.next).h=(f.ops++[v]).length+0;simp;omega,h3,h4⟩,h5,h6,h7⟩
theorem IU{tab:List eP}{i:aH}{below:List aK}{f:aK}{t:List Int}{o:List (List UInt8)}(hn:i≠.give)(hr:i≠.read)(hp:i≠.print)(hk:∀k n,i≠.call k n):cD tab i below f t o=(⟨below++[(aN i f).1],t,o⟩,(aN i f).2):=by
 cases i<;>first|rfl|exact absurd rfl hn|exact absurd rfl hr|exact absurd rfl hp|exact absurd rfl (hk _ _)
theorem sH(i:aH)(f:aK):(aN i f).1.fn=f.fn:=by
 cases i<;>simp only[aN]<;>(repeat' split)<;>rfl
theorem wV{ar:Nat->Option Nat}{tab:List eP}(ht:jU ar tab){below:List aK}{f:aK}{t:List Int}{o:List (List UInt8)}(h:fH ar ⟨below++[f],t,o⟩){i:aH}{g:aK}(hf:f.fetch=some (i,g)):
 (∀x∈(cD tab i below g t o).1.frames,x.seen.length<=x.vars.length)/\(cD tab i below g t o).1.frames.length<=16/\((cD tab i below g t o).2=0->fH ar (cD tab i below g t o).1):=by
 have hlow:∀x∈below,cG ar x 1:=by have:=h.ok.low;simpa only[fX] using this
 have htop:cG ar f 0:=h.ok.top f (fC _ _);have hdeep:below.length+1<=16:=by have:=h.ok.deep;simpa using this
 have hst1:∀x∈below,iJ x.fn.code:=fun x hx=>h.start x (by simp[hx])
 have hst2:iJ f.fn.code:=h.start f (by simp)
 obtain⟨⟨T,hc,hh,hv,he⟩,hnx,hs,hm⟩:=htop
 obtain⟨rfl,hi⟩:g={ f with next:=f.next+1 }/\f.fn.code[f.next]?=some i:=by
  unfold aK.fetch at hf;cases hx:f.fn.code[f.next]? with
  |none=>rw[hx] at hf;cases hf
  |some j=>rw[hx] at hf;simp at hf;exact⟨hf.2.symm,by rw[hf.1]⟩
 have hio:=hc.ins _ _ hi;have hls:∀x∈below,x.seen.length<=x.vars.length:=fun x hx=>(hlow x hx).seen
 by_cases hn:i=.give
 ·subst hn;rcases aH_ below with rfl|⟨b,x,rfl⟩
  ·refine⟨by simp[cD],by simp[cD],fun _=>⟨⟨by simp[cD],by simp[cD],by simp[cD]⟩,by simp[cD]⟩⟩
  ·rw[aI_] at*;have e:cD tab .give (b++[x]) { f with next:=f.next+1 } t o=(⟨b++[x.push (aK.last { f with next:=f.next+1 })],t,o⟩,0):=by simp[cD]
   rw[e];refine⟨fun y hy=>?_,by simp at hdeep ⊢;omega,fun _=>⟨mZ.snoc (fun y hy=>hlow y (by simp[hy])) ((hlow x (by simp)).pushed _) (by simp at hdeep;omega),fun y hy=>?_⟩⟩
   ·rcases o7.1 hy with hy|hy
    ·exact hls y (by simp[hy])
    ·rw[o8.1 hy];exact hls x (by simp)
   ·rcases o7.1 hy with hy|hy
    ·exact hst1 y (by simp[hy])
    ·rw[o8.1 hy];exact hst1 x (by simp)
 have hone:∀y:aK,y.seen.length<=y.vars.length->∀x∈below++[y],x.seen.length<=x.vars.length:=fun y hy x hx=>by
  rcases o7.1 hx with hx|hx
  ·exact hls x hx
  ·rw[o8.1 hx];exact hy
 have hall:∀y:aK,cG ar y 0->y.fn=f.fn->∀t o,fH ar ⟨below++[y],t,o⟩:=fun y hy hfn t o=>⟨mZ.snoc hlow hy hdeep,fun x hx=>by
  rcases o7.1 hx with hx|hx
  ·exact hst1 x hx
  ·rw[o8.1 hx,hfn];exact hst2⟩
 by_cases hr:i=.read
 ·subst hr;cases t with
  |nil=>exact⟨hone _ hs,by simp[cD];omega,fun hz=>by simp[cD] at hz⟩
  |cons a r=>exact⟨hone _ hs,by simp[cD];omega,fun _=>hall (aK.push { f with next:=f.next+1 } (aV a)) (cG.flow (f:=f) hc hio.2.2 rfl (by rw[aK.push_len];simp only;omega) hv he hs hm) rfl _ _⟩
 by_cases hp:i=.print
 ·subst hp;simp only[cD];split
  ·exact⟨hone _ hs,by simp;omega,fun hz=>by simp at hz⟩
  ·exact⟨hone _ hs,by simp;omega,fun _=>hall (aK.pop { f with next:=f.next+1 }) (cG.flow (f:=f) hc hio.2.2.2 rfl (by rw[aK.pop_len];simp only;omega) hv he hs hm) rfl _ _⟩
 by_cases hk:∃k n,i=.call k n
 ·obtain⟨k,n,rfl⟩:=hk;simp only[cD];split
  ·exact⟨hone _ hs,by simp;omega,fun hz=>by simp at hz⟩
  ·rename_i hd;obtain⟨_,_,hio1,hio2,hio3⟩:=hio;obtain⟨c,U,c1,c2,c3,c4,c5,c6⟩:=ht.fn k n hio2;have hlen:(aK.many { f with next:=f.next+1 } n).length=n:=by simp[aK.many];omega
   rw[c1]
   have hnew:cG ar ⟨c,0,0,[],aK.many { f with next:=f.next+1 } n,[]⟩ 0:=by
    refine⟨⟨U,c2,by simp[c3],by simp only[hlen];exact c4,Or.inl c5⟩,?_,by simp,by simp only[hlen];have:=c2.len;have:=hc.len;have:=(hc.ins _ _ hi).2.1;omega⟩
    rcases c6 with ⟨l,s,r,e⟩|⟨v,e⟩<;>simp[e]
   have hold:cG ar (aK.popMany { f with next:=f.next+1 } n) 1:=by
    obtain⟨f1,f2,f3,f4⟩:=hio3;refine⟨⟨T,hc,?_,p7 f3 hv,?_⟩,f1,hs,hm⟩
    ·rw[aK.popMany_len];show (T (f.next+1)).h=_;simp only;omega
    ·rcases f4 with f4|f4
     ·exact Or.inl f4
     ·show (T (f.next+1)).e=none\/(T (f.next+1)).e=_;rw[f4];exact he
   have e1:below++[aK.popMany { f with next:=f.next+1 } n,(⟨c,0,0,[],aK.many { f with next:=f.next+1 } n,[]⟩:aK)]=(below++[aK.popMany { f with next:=f.next+1 } n])++[(⟨c,0,0,[],aK.many { f with next:=f.next+1 } n,[]⟩:aK)]:=by simp
   simp only[Option.getD_some];rw[e1];refine⟨fun x hx=>?_,by simp;omega,fun _=>⟨mZ.snoc (fun x hx=>?_) hnew (by simp;omega),fun x hx=>?_⟩⟩
   ·rcases o7.1 hx with hx|hx
    ·exact hone _ hold.seen x hx
    ·rw[o8.1 hx];exact hnew.seen
   ·rcases o7.1 hx with hx|hx
    ·exact hlow x hx
    ·rw[o8.1 hx];exact hold
   ·rcases o7.1 hx with hx|hx
    ·rcases o7.1 hx with hx|hx
     ·exact hst1 x hx
     ·rw[o8.1 hx];exact hst2
    ·rw[o8.1 hx];exact c6
 have hk':∀k n,i≠.call k n:=fun k n e=>hk ⟨k,n,e⟩
 rw[IU hn hr hp hk'];have hin:=FL hc hio hh hv he hs hm hn hr hp hk' _ rfl;exact⟨hone _ hin.1,by simp;omega,fun hz=>hall _ (hin.2 hz) (sH _ _) _ _⟩
def jO(f:aK):Nat:=if f.next=0 then 2 else if f.fn.code.length=2 then 1 else 4*(f.fn.code.length-f.next)
def wgts(l:List aK):Nat:=(l.map jO).sum
theorem zN{ar:Nat->Option Nat}{T:Nat->eD}{f:aK}{i:aH}(hi:iM ar (fun q=>q<f.fn.code.length) T f.next i)
 (hb:i.isBegin=false) (hn:i≠.give) (hr:i≠.read) (hp:i≠.print) (hk:∀k n,i≠.call k n):
 (aN i { f with next:=f.next+1 }).2=0->(f.next<(aN i { f with next:=f.next+1 }).1.next/\(aN i { f with next:=f.next+1 }).1.next<f.fn.code.length)\/(T (aN i { f with next:=f.next+1 }).1.next).b=true/\(aN i { f with next:=f.next+1 }).1.next<f.fn.code.length:=by
 obtain⟨_,_,hi⟩:=hi;intro hz;cases i with
 |give=>exact absurd rfl hn
 |read=>exact absurd rfl hr
 |print=>exact absurd rfl hp
 |call k n=>exact absurd rfl (hk k n)
 |begin l s=>simp[aH.isBegin] at hb
 |jump q=>
  simp only at hi;obtain⟨h1|h1,h2⟩:=hi
  ·exact Or.inl ⟨h1,h2.1⟩
  ·exact Or.inr ⟨h1,h2.1⟩
 |skip q=>
  simp only[aN] at hi hz ⊢
  split
  ·simp only;split
   ·exact Or.inl ⟨ac_ _,hi.2.2.2.1⟩
   ·exact Or.inl ⟨hi.2.1,hi.2.2.1.1⟩
  ·rename_i h;rw[if_neg h] at hz;simp at hz
 |shortcut w q=>
  simp only[aN] at hi hz ⊢
  split
  ·simp only;split
   ·exact Or.inl ⟨hi.2.1,hi.2.2.1.1⟩
   ·exact Or.inl ⟨ac_ _,hi.2.2.2.1⟩
  ·rename_i h;rw[if_neg h] at hz;simp at hz
 |assign k n=>
  simp only[aN] at hi hz ⊢
  split<;>exact Or.inl ⟨ac_ _,hi.2.2.1⟩
 |declare k=>exact Or.inl ⟨ac_ _,hi.2.2.2.2.1⟩
 |push v=>exact Or.inl ⟨ac_ _,hi.1⟩
 |load k=>exact Or.inl ⟨ac_ _,hi.2.1⟩
 |drop=>exact Or.inl ⟨ac_ _,hi.2.1⟩
 |truth=>simp only[aN] at hi ⊢;split<;>exact Or.inl ⟨ac_ _,hi.2.1⟩
 |unary op=>simp only[aN] at hi ⊢;split<;>exact Or.inl ⟨ac_ _,hi.2.1⟩
 |length=>simp only[aN] at hi ⊢;split<;>exact Or.inl ⟨ac_ _,hi.2.1⟩
 |binary op=>simp only[aN] at hi ⊢;split<;>exact Or.inl ⟨ac_ _,hi.2.1⟩
 |index=>simp only[aN] at hi ⊢;split<;>exact Or.inl ⟨ac_ _,hi.2.1⟩
 |list n=>simp only[aN] at hi ⊢;split<;>exact Or.inl ⟨ac_ _,hi.2.1⟩
theorem gM(l:List aK)(f:aK):wgts (l++[f])=wgts l+jO f:=by simp[wgts]
theorem AF{f:aK}(h:f.next<f.fn.code.length):1<=jO f:=by unfold jO;repeat' split
                                                        all_goals omega
theorem MN(f:aK)(v:aI):jO (f.push v)=jO f:=rfl
theorem vH{f g:aK}{i:aH}(hs:iJ f.fn.code)(hi:f.fn.code[f.next]?=some i)(hb:i.isBegin=false)(h1:g.fn=f.fn)(h2:f.next<g.next)(h3:g.next<f.fn.code.length):jO g<jO f:=by
 unfold jO;rw[h1];rcases hs with ⟨l,s,r,e⟩|⟨v,e⟩
 ·have h0:f.next≠0:=fun h=>by rw[e,h] at hi;simp at hi;rw[<-hi] at hb;simp[aH.isBegin] at hb
  rw[if_neg (show g.next≠0 by omega),if_neg h0]
  split<;>omega
 ·have hl:f.fn.code.length=2:=by rw[e];rfl
  rw[hl] at h3;rw[if_neg (show g.next≠0 by omega),if_pos hl,if_pos (show f.next=0 by omega)]
  omega
theorem MO{f g:aK}{k n:Nat}(hs:iJ f.fn.code)(hi:f.fn.code[f.next]?=some (.call k n))(h1:g.fn=f.fn)(h2:f.next<g.next)(h3:g.next<f.fn.code.length):jO g+2<jO f:=by
 unfold jO;rw[h1]
 have h0:f.next≠0:=fun h=>by
  rcases hs with ⟨l,s,r,e⟩|⟨v,e⟩<;>rw[e,h] at hi<;>simp at hi
 have hl:f.fn.code.length≠2:=by omega
 rw[if_neg (show g.next≠0 by omega),if_neg h0,if_neg hl]
 split
 ·omega
 ·omega
structure ML(ar:Nat->Option Nat)(r:cP × Nat):Prop where
 told:∀x∈r.1.frames,x.seen.length<=x.vars.length
 deep:r.1.frames.length<=16
 ok:r.2=0->fH ar r.1/\r.1.frames≠[]
theorem mQ{l:List aK}(h:l≠[]):∃b f,l=b++[f]:=by
 rcases aH_ l with h'|⟨b,f,h'⟩
 ·exact absurd h' h
 ·exact⟨b,f,by rw[h',aI_]⟩
theorem xZ{f:aK}(h:f.next<f.fn.code.length):f.fetch=some (f.fn.code[f.next],{ f with next:=f.next+1 }):=by
 unfold aK.fetch;rw[p9 h];rfl
theorem tY{ar:Nat->Option Nat}{tab:List eP}(ht:jU ar tab){k:Nat}{b:List aK}{f:aK}{t:List Int}{o:List (List UInt8)}(h:fH ar ⟨b++[f],t,o⟩){l:Nat}{s:List (List UInt8)}(hi:f.fn.code[f.next]?=some (.begin l s)):
 ∃r,dU tab (k+1) ⟨b++[f],t,o⟩=some r/\ML ar r:=by
 have hf:f.fetch=some (.begin l s,{ f with next:=f.next+1 }):=by unfold aK.fetch;rw[hi];rfl
 obtain⟨h1,h2,h3⟩:=wV ht h hf;refine⟨cD tab (.begin l s) b { f with next:=f.next+1 } t o,?_,h1,h2,fun hz=>⟨h3 hz,by simp[cD]⟩⟩
 rw[dU];simp only[fC,hf,fX];have hz:(cD tab (.begin l s) b { f with next:=f.next+1 } t o).2=0:=rfl
 rw[if_neg (by rw[hz];simp),if_pos (show (aH.begin l s).isBegin=true from rfl)]
theorem lD{ar:Nat->Option Nat}{tab:List eP}(ht:jU ar tab):∀(k:Nat) (m:cP),fH ar m->wgts m.frames+2<=k->∃r,dU tab k m=some r/\ML ar r
 |0,_,_,hk=>by omega
 |k+1,⟨fr,t,o⟩,h,hk=>by
  by_cases hfr:fr=[]
  ·subst hfr;exact⟨(⟨[],t,o⟩,1),rfl,by simp,by simp,fun hz=>by simp at hz⟩
  obtain⟨b,f,rfl⟩:=mQ hfr;have htop:cG ar f 0:=h.ok.top f (fC _ _);have hst:iJ f.fn.code:=h.start f (by simp)
  have hf:=xZ htop.next
  have hi:f.fn.code[f.next]?=some (f.fn.code[f.next]'htop.next):=p9 htop.next
  generalize f.fn.code[f.next]'htop.next=i at hf hi
  obtain⟨h1,h2,h3⟩:=wV ht h hf;by_cases hz:(cD tab i b { f with next:=f.next+1 } t o).2=0
  rotate_left
  ·refine⟨_,?_,h1,h2,fun h'=>absurd h' hz⟩
   rw[dU];simp only[fC,hf,fX];rw[if_pos hz]
  cases hb:i.isBegin;rotate_left
  ·cases i<;>simp[aH.isBegin] at hb
   exact tY ht h hi
  have e:dU tab (k+1) ⟨b++[f],t,o⟩=dU tab k (cD tab i b { f with next:=f.next+1 } t o).1:=by
   rw[dU];simp only[fC,hf,fX];rw[if_neg (by rw[hz];simp),hb]
   rfl
  rw[e];have ha:=h3 hz;simp only at hk;rw[gM] at hk;obtain⟨⟨T,hc,hh,hv,he⟩,hnx,hs,hm⟩:=htop;have hio:=hc.ins _ _ hi;by_cases hn:i=.give
  ·subst hn;refine lD ht k _ ha ?_;have hw:=AF hnx;rcases aH_ b with rfl|⟨b',x,rfl⟩
   ·simp[cD,wgts] at hk ⊢;omega
   ·rw[aI_] at*;have e2:(cD tab .give (b'++[x]) { f with next:=f.next+1 } t o).1.frames=b'++[x.push (aK.last { f with next:=f.next+1 })]:=by simp[cD]
    rw[e2,gM,MN];rw[gM] at hk;omega
  by_cases hr:i=.read
  ·subst hr;cases t with
   |nil=>simp[cD] at hz
   |cons a r=>
    refine lD ht k _ ha ?_;have hw:=vH (g:=aK.push { f with next:=f.next+1 } (aV a)) hst hi rfl rfl (ac_ _) hio.2.2.1
    show wgts (b++[_])+2<=k
    rw[gM];omega
  by_cases hp:i=.print
  ·subst hp;refine lD ht k _ ha ?_;have hw:=vH (g:=aK.pop { f with next:=f.next+1 }) hst hi rfl rfl (ac_ _) hio.2.2.2.1
   simp only[cD] at hz ⊢
   split at hz
   ·simp at hz
   ·rw[if_neg (by assumption)]
    show wgts (b++[_])+2<=k
    rw[gM];omega
  by_cases hkk:∃c n,i=.call c n
  ·obtain⟨c,n,rfl⟩:=hkk;refine lD ht k _ ha ?_;have hw:=MO (g:=aK.popMany { f with next:=f.next+1 } n) hst hi rfl (ac_ _) hio.2.2.2.2.1
   simp only[cD] at hz ⊢
   split at hz
   ·simp at hz
   ·rw[if_neg (by assumption)]
    have e1:∀y z:aK,b++[y,z]=(b++[y])++[z]:=by simp
    simp only;rw[e1,gM,gM];have:∀c v,jO ⟨c,0,0,[],v,[]⟩=2:=fun c v=>rfl
    rw[this];omega
  have hk':∀k n,i≠.call k n:=fun k n e=>hkk ⟨k,n,e⟩
  rw[IU hn hr hp hk'] at hz ha ⊢
  have hnext:=zN hio hb hn hr hp hk' hz;have hfn:(aN i { f with next:=f.next+1 }).1.fn=f.fn:=sH _ _
  generalize aN i { f with next:=f.next+1 }=y at hz ha hnext hfn ⊢
  rcases hnext with ⟨h4,h5⟩|⟨h4,h5⟩
  ·refine lD ht k _ ha ?_;have hw:=vH (g:=y.1) hst hi hb hfn h4 h5;simp only;rw[gM];omega
  ·have hcy:y.1.fn.code[y.1.next]?=some (f.fn.code[y.1.next]):=by rw[hfn];exact p9 h5
   have hby:=(hc.ins _ _ (p9 h5)).1;rw[h4] at hby;have hw:=AF hnx;obtain⟨j,rfl⟩:∃j,k=j+1:=⟨k-1,by omega⟩
   generalize f.fn.code[y.1.next]=i' at hcy hby
   cases i'<;>simp[aH.isBegin] at hby
   exact tY ht ha hcy
theorem bE.then{ar:Nat->Option Nat}{L:Nat->eD->Prop}{p:Nat}{c c':List aH}{h v h1 v1 h2 v2:Nat}{e e1 e2:Option Nat}(a:bE ar L p c h v e h1 v1 e1)(b:bE ar L (p+c.length) c' h1 v1 e1 h2 v2 e2)
 (hL:∀q y,L q y->q<=p\/p+c.length+c'.length<=q):bE ar L p (c++c') h v e h2 v2 e2:=by
 by_cases hc:c=[]
 ·subst hc;obtain⟨T,t1,t2,t3,t4,t5,t6,t7,t8⟩:=a;obtain⟨U,u1,u2,u3,u4,u5,u6,u7,u8⟩:=b;simp only[p6,a3_] at t5 t6 t7 u2 u3 u4 u5 u6 u7 u8;refine⟨U,u1,by omega,by omega,?_,u5,u6,u7,u8⟩
  rcases u4 with u4|u4
  ·exact Or.inl u4
  ·rw[u4,<-t7];exact t4
 ·exact a.append b hL hc
theorem bE.one{ar:Nat->Option Nat}{L:Nat->eD->Prop}{p:Nat}{i:aH}{h v h' v':Nat}{e e':Option Nat}(hu:∀q y z,L q y->L q z->y=z)(h0:∀y,L p y->y=⟨h,v,e,i.isBegin⟩)(h1:∀y,L (p+1) y->y.h=h'/\y.v=v'/\y.e=e')
 (hi:∀T:Nat->eD,T p=⟨h,v,e,i.isBegin⟩->(T (p+1)).h=h'->(T (p+1)).v=v'->(T (p+1)).e=e'->(∀q y,L q y->T q=y)->iM ar (MI L p (p+1)) T p i):bE ar L p [i] h v e h' v' e':=by
 classical
 let T:Nat->eD:=fun q=>if hq:∃y,L q y then hq.choose else if q=p then ⟨h,v,e,i.isBegin⟩ else ⟨h',v',e',false⟩
 have t1:∀q y,L q y->T q=y:=fun q y hy=>by
  have hex:∃y,L q y:=⟨y,hy⟩;simp only[T,dif_pos hex];exact hu q _ _ hex.choose_spec hy
 have t2:T p=⟨h,v,e,i.isBegin⟩:=by
  by_cases hex:∃y,L p y
  ·obtain⟨y,hy⟩:=hex;rw[t1 p y hy];exact h0 y hy
  ·simp only[T,dif_neg hex];rfl
 have t3:(T (p+1)).h=h'/\(T (p+1)).v=v'/\(T (p+1)).e=e':=by
  by_cases hex:∃y,L (p+1) y
  ·obtain⟨y,hy⟩:=hex;rw[t1 _ y hy];exact h1 y hy
  ·have e:T (p+1)=⟨h',v',e',false⟩:=by simp only[T,dif_neg hex,if_neg (show ¬p+1=p by omega)]
   rw[e];exact⟨rfl,rfl,rfl⟩
 refine⟨T,t1,by rw[t2],by rw[t2];exact l9 _,by rw[t2];exact Or.inr rfl,t3.1,t3.2.1,t3.2.2,fun j x hj=>?_⟩
 match j,hj with
 |0,hj=>
  simp at hj;subst hj;exact hi T t2 t3.1 t3.2.1 t3.2.2 t1
 |j+1,hj=>simp at hj
structure eH(L:Nat->eD->Prop)(lo hi:Nat):Prop where
 uniq:∀q y z,L q y->L q z->y=z
 out:∀q y,L q y->q<lo\/hi<q
theorem eH.sub{L:Nat->eD->Prop}{lo hi lo' hi':Nat}(h:eH L lo hi)(h1:lo<=lo')(h2:hi'<=hi):eH L lo' hi':=⟨h.uniq,fun q y hy=>by have:=h.out q y hy;omega⟩
def eX(L:Nat->eD->Prop)(q:Nat)(y:eD):Nat->eD->Prop:=fun r z=>L r z\/(r=q/\z=y)
theorem eX.ok{L:Nat->eD->Prop}{lo hi lo' hi' q:Nat}{y:eD}(h:eH L lo hi)(h1:lo<=q)(h2:q<=hi)(h3:lo<=lo')(h4:hi'<=hi)(h5:q<lo'\/hi'<q):eH (eX L q y) lo' hi':=by
 refine⟨fun r x z hx hz=>?_,fun r x hx=>?_⟩
 ·rcases hx with hx|⟨rfl,rfl⟩<;>rcases hz with hz|⟨hz1,rfl⟩
  ·exact h.uniq _ _ _ hx hz
  ·have:=h.out _ _ hx;omega
  ·have:=h.out _ _ hz;omega
  ·rfl
 ·rcases hx with hx|⟨rfl,rfl⟩
  ·have:=h.out _ _ hx;omega
  ·exact h5
theorem bE.close{ar:Nat->Option Nat}{L:Nat->eD->Prop}{p:Nat}{c:List aH}{h v h' v' q:Nat}{e e':Option Nat}{y:eD}(s:bE ar (eX L q y) p c h v e h' v' e')(h1:p<=q)(h2:q<=p+c.length):bE ar L p c h v e h' v' e':=by
 obtain⟨T,t1,t2,t3,t4,t5,t6,t7,t8⟩:=s;refine⟨T,fun q y hq=>t1 q y (Or.inl hq),t2,t3,t4,t5,t6,t7,fun j i hj=>(t8 j i hj).same rfl (fun r hr=>⟨?_,rfl,l9 _,Or.inr rfl⟩) (fun _ _ _ hb=>hb)⟩
 rcases hr with hr|⟨z,hz|⟨rfl,rfl⟩⟩
 ·exact Or.inl hr
 ·exact Or.inr ⟨z,hz⟩
 ·exact Or.inl ⟨h1,h2⟩
theorem iF{L:Nat->eD->Prop}{p:Nat}:MI L p (p+1) (p+1):=Or.inl ⟨by omega,by omega⟩
theorem bE.plain{ar:Nat->Option Nat}{L:Nat->eD->Prop}{p:Nat}{i:aH}{h v h':Nat}{e:Option Nat}(hl:eH L p (p+1))(hb:i.isBegin=false)(hp:h<=p)
 (hi:∀(D:Nat->Prop) (T:Nat->eD),(T p).h=h->(T p).v=v->eI D T (p+1) h' (T p).v (T p).e->(T p).b=false->(T p).h<=p->iM ar D T p i):bE ar L p [i] h v e h' v e:=
 bE.one hl.uniq (fun y hy=>absurd (hl.out _ _ hy) (by omega)) (fun y hy=>absurd (hl.out _ _ hy) (by omega)) fun T t0 t1 t2 t3 _=>
  hi _ T (by rw[t0]) (by rw[t0]) ⟨iF,t1,by rw[t2,t0];exact l9 _,by rw[t3,t0];exact Or.inr rfl⟩ (by rw[t0];exact hb) (by rw[t0];exact hp)
def fO(fs:List aC)(k:Nat):Option Nat:=fs[k]?.map fun f=>f.kids.length-1
def ExOk(fs:List aC)(alone:Bool)(seen:List (List UInt8)):Nat->aC->Prop
 |0,_=>False
 |d+1,a=>
  ((a.op=[48]\/a.op=[115]\/a.op=[98,111,111,108])/\a.kids=[])\/
  (a.op=[110,97,109,101]/\a.kids=[]/\a.text∈seen)\/
  (a.op=[108,105,115,116]/\∀k∈a.kids,ExOk fs alone seen d k)\/
  (a.op=[105,110,100,101,120]/\∃l r,a.kids=[l,r]/\ExOk fs alone seen d l/\ExOk fs alone seen d r)\/
  ((a.op=[45,120]\/a.op=[33,120])/\∃l,a.kids=[l]/\ExOk fs alone seen d l)\/
  (a.op=[99,97,108,108]/\(∀k∈a.kids,ExOk fs alone seen d k)/\
    ((a.text=[108,101,110]/\a.kids.length=1)\/(a.text=[114,101,97,100]/\alone=false/\a.kids.length=0)\/
     (a.text≠[108,101,110]/\a.text≠[114,101,97,100]/\alone=false/\fO fs (dA fs a.text)=some a.kids.length)))\/
  (bV a.op≠9/\∃l r,a.kids=[l,r]/\ExOk fs alone seen d l/\ExOk fs alone seen d r)
theorem pZ:∀{seen:List (List UInt8)} {x:List UInt8},x∈seen->eA seen x<seen.length
 |y::l,x,h=>by
  unfold eA;split
  ·simp
  ·rename_i hne;rcases p8.1 h with rfl|h
   ·exact absurd rfl hne
   ·have:=pZ h;simp;omega
theorem mO{op:List UInt8}(h:bV op≠9):op=[124,124]\/op=[38,38]\/op=[61,61]\/op=[33,61]\/op=[60]\/op=[60,61]\/op=[43]\/op=[45]\/op=[42]\/op=[47]\/op=[37]:=by
 unfold bV at h;repeat' split at h
 all_goals simp_all
 all_goals grind
def RG(fs:List aC)(alone:Bool)(seen:List (List UInt8))(d:Nat):Prop:=
 ∀(a:aC) (L:Nat->eD->Prop) (p h v:Nat) (e:Option Nat),ExOk fs alone seen d a->seen.length<=v->h<=p->eH L p (p+(aG fs seen d a p).length)->
  bE (fO fs) L p (aG fs seen d a p) h v e (h+1) v e/\1<=(aG fs seen d a p).length
theorem qB{fs:List aC}{alone:Bool}{seen:List (List UInt8)}{d:Nat}(IH:RG fs alone seen d):∀(l:List aC) (L:Nat->eD->Prop) (p h v:Nat) (e:Option Nat),(∀a∈l,ExOk fs alone seen d a)->seen.length<=v->h<=p->eH L p (p+(bP (aG fs seen d) l p).length)->
 bE (fO fs) L p (bP (aG fs seen d) l p) h v e (h+l.length) v e/\l.length<=(bP (aG fs seen d) l p).length
 |[],L,p,h,v,e,_,_,_,hL=>⟨bE.nil _ _ _ _ _ _ (fun q y hq hqp=>absurd (hL.out q y hq) (by simp[bP];omega)) hL.uniq,by simp⟩
 |a::l,L,p,h,v,e,ha,hv,hp,hL=>by
  simp only[bP,m6] at hL ⊢
  obtain⟨h1,h1l⟩:=IH a L p h v e (ha a (x9 ..)) hv hp (hL.sub (l9 _) (by omega))
  obtain⟨h2,h2l⟩:=qB IH l L (p+(aG fs seen d a p).length) (h+1) v e (fun x hx=>ha x (r9 _ hx)) hv (by omega) (hL.sub (by omega) (by omega))
  refine⟨?_,by simp only[n8];omega⟩
  have e1:h+(a::l).length=h+1+l.length:=by simp only[n8];omega
  rw[e1];exact h1.then h2 fun q y hq=>by have:=hL.out q y hq;omega
theorem bE.snoc{ar:Nat->Option Nat}{L:Nat->eD->Prop}{p:Nat}{c:List aH}{i:aH}{h v h1 h2 v2:Nat}{e e2:Option Nat}(a:bE ar L p c h v e h1 v e)(hL:eH L p (p+(c++[i]).length))(b:eH L (p+c.length) (p+c.length+1)->bE ar L (p+c.length) [i] h1 v e h2 v2 e2):bE ar L p (c++[i]) h v e h2 v2 e2:=by
 have hl:(c++[i]).length=c.length+1:=by simp
 refine a.then (b (hL.sub (by omega) (by omega))) fun q y hq=>?_
 have:=hL.out q y hq;simp only[n8,p6];omega
theorem oV(fs:List aC)(alone:Bool)(seen:List (List UInt8)):∀d,RG fs alone seen d
 |0,_,_,_,_,_,_,h,_,_,_=>h.elim
 |d+1,a,L,p,h,v,e,ha,hv,hp,hL=>by
  have IH:=oV fs alone seen d
  have two:∀l r:aC,a.kids=[l,r]->ExOk fs alone seen d l->ExOk fs alone seen d r->∀k∈a.kids,ExOk fs alone seen d k:=fun l r hk h1 h2 k hk'=>by
   rw[hk] at hk';rcases p8.1 hk' with rfl|hk'
   ·exact h1
   ·rw[o8.1 hk'];exact h2
  have kids:∀i:aH,i.isBegin=false->aG fs seen (d+1) a p=bP (aG fs seen d) a.kids p++[i]->(∀k∈a.kids,ExOk fs alone seen d k)->
   (∀(p':Nat) (D:Nat->Prop) (T:Nat->eD),(T p').h=h+a.kids.length->(T p').v=v->eI D T (p'+1) (h+1) (T p').v (T p').e->(T p').b=false->(T p').h<=p'->iM (fO fs) D T p' i)->
   bE (fO fs) L p (aG fs seen (d+1) a p) h v e (h+1) v e/\1<=(aG fs seen (d+1) a p).length:=fun i hb hc hk hi=>by
   rw[hc] at hL ⊢
   obtain⟨h1,h2⟩:=qB IH a.kids L p h v e hk hv hp (hL.sub (l9 _) (by simp))
   exact⟨bE.snoc h1 hL fun hl=>bE.plain hl hb (by omega) (hi _),by simp⟩
  rcases ha with ⟨h0|h0|h0,hk⟩|⟨h0,hk,hx⟩|⟨h0,hk⟩|⟨h0,l,r,hk,hl,hr⟩|⟨h0|h0,l,hk,hl⟩|⟨h0,hk,hc⟩|⟨h0,l,r,hk,hl,hr⟩
  ·have hc:aG fs seen (d+1) a p=[.push (aV (((cA 0 a.text).getD 0:Nat):Int))]:=by rw[aG];simp[h0]
   rw[hc] at hL ⊢
   exact⟨bE.plain hL rfl hp fun D T t1 t2 f b hp=>⟨b,hp,by rw[t1];exact f⟩,by simp⟩
  ·have hc:aG fs seen (d+1) a p=[.push (bI a.text)]:=by rw[aG];simp[h0]
   rw[hc] at hL ⊢
   exact⟨bE.plain hL rfl hp fun D T t1 t2 f b hp=>⟨b,hp,by rw[t1];exact f⟩,by simp⟩
  ·have hc:aG fs seen (d+1) a p=[.push (bM (a.text==[116,114,117,101]))]:=by rw[aG];simp[h0]
   rw[hc] at hL ⊢
   exact⟨bE.plain hL rfl hp fun D T t1 t2 f b hp=>⟨b,hp,by rw[t1];exact f⟩,by simp⟩
  ·have hc:aG fs seen (d+1) a p=[.load (eA seen a.text)]:=by rw[aG];simp[h0]
   rw[hc] at hL ⊢
   exact⟨bE.plain hL rfl hp fun D T t1 t2 f b hp=>⟨b,hp,by rw[t2];have:=pZ hx;omega,by rw[t1];exact f⟩,by simp⟩
  ·refine kids (.list a.kids.length) rfl (by rw[aG];simp[h0]) hk fun p' D T t1 t2 f b hp=>⟨b,hp,by omega,?_⟩
   have:(T p').h-a.kids.length+1=h+1:=by omega
   rw[this];exact f
  ·refine kids .index rfl (by rw[aG];simp[h0]) (two l r hk hl hr) fun p' D T t1 t2 f b hp=>?_
   rw[hk] at t1;simp only[n8,p6] at t1;refine⟨b,hp,by omega,?_⟩
   have:(T p').h-1=h+1:=by omega
   rw[this];exact f
  ·refine kids (.unary [45]) rfl (by rw[aG];simp[h0]) (by rw[hk];simpa using hl) fun p' D T t1 t2 f b hp=>?_
   rw[hk] at t1;simp only[n8,p6] at t1;exact⟨b,hp,by omega,by rw[t1];exact f⟩
  ·refine kids (.unary [33]) rfl (by rw[aG];simp[h0]) (by rw[hk];simpa using hl) fun p' D T t1 t2 f b hp=>?_
   rw[hk] at t1;simp only[n8,p6] at t1;exact⟨b,hp,by omega,by rw[t1];exact f⟩
  ·rcases hc with ⟨ht,hn⟩|⟨ht,_,hn⟩|⟨ht1,ht2,_,hn⟩
   ·refine kids .length rfl (by rw[aG];simp[h0,ht]) hk fun p' D T t1 t2 f b hp=>⟨b,hp,by omega,?_⟩
    rw[t1,hn];exact f
   ·refine kids .read rfl (by rw[aG];simp[h0,ht]) hk fun p' D T t1 t2 f b hp=>⟨b,hp,?_⟩
    rw[t1,hn];exact f
   ·refine kids (.call (dA fs a.text) a.kids.length) rfl (by rw[aG];simp[h0,ht1,ht2]) hk fun p' D T t1 t2 f b hp=>⟨b,hp,by omega,hn,?_⟩
    have:(T p').h-a.kids.length+1=h+1:=by omega
    rw[this];exact f
  ·by_cases hlo:a.op=[38,38]\/a.op=[124,124]
   rotate_left
   ·have hnl:aG fs seen (d+1) a p=bP (aG fs seen d) a.kids p++[.binary a.op]:=by
     rw[aG];rcases mO h0 with h|h|h|h|h|h|h|h|h|h|h<;>simp[h] at hlo ⊢
    refine kids (.binary a.op) rfl hnl (two l r hk hl hr) fun p' D T t1 t2 f b hp=>?_
    rw[hk] at t1;simp only[n8,p6] at t1;refine⟨b,hp,by omega,?_⟩
    have:(T p').h-1=h+1:=by omega
    rw[this];exact f
   ·have hc:aG fs seen (d+1) a p=aG fs seen d l p++[.shortcut (a.op==[124,124]) (p+(aG fs seen d l p).length+1+(aG fs seen d r (p+(aG fs seen d l p).length+1)).length+1)]++aG fs seen d r (p+(aG fs seen d l p).length+1)++[.truth]:=by
     rw[aG];rcases hlo with h|h<;>simp[h,hk]
    generalize hcl:aG fs seen d l p=cl at hc;generalize hcr:aG fs seen d r (p+cl.length+1)=cr at hc;rw[hc] at hL ⊢
    have hlen:(cl++[aH.shortcut (a.op==[124,124]) (p+cl.length+1+cr.length+1)]++cr++[aH.truth]).length=cl.length+1+cr.length+1:=by simp only[m6,n8,p6]
    rw[hlen] at hL;refine⟨bE.close (q:=p+cl.length+1+cr.length+1) (y:=⟨h+1,v,e,false⟩) ?_ (by omega) (by rw[hlen];omega),by omega⟩
    have hL1:eH (eX L (p+cl.length+1+cr.length+1) ⟨h+1,v,e,false⟩) p (p+cl.length+1+cr.length):=eX.ok hL (by omega) (by omega) (l9 _) (by omega) (by omega)
    obtain⟨s1,l1⟩:=IH l (eX L (p+cl.length+1+cr.length+1) ⟨h+1,v,e,false⟩) p h v e hl hv hp (by rw[hcl];exact hL1.sub (l9 _) (by omega))
    rw[hcl] at s1 l1;obtain⟨s3,l3⟩:=IH r (eX L (p+cl.length+1+cr.length+1) ⟨h+1,v,e,false⟩) (p+cl.length+1) h v e hr hv (by omega) (by rw[hcr];exact hL1.sub (by omega) (by omega))
    rw[hcr] at s3 l3
    have s2:bE (fO fs) (eX L (p+cl.length+1+cr.length+1) ⟨h+1,v,e,false⟩) (p+cl.length) [.shortcut (a.op==[124,124]) (p+cl.length+1+cr.length+1)] (h+1) v e h v e:=by
     refine bE.one hL1.uniq (fun y hy=>absurd (hL1.out _ _ hy) (by omega)) (fun y hy=>absurd (hL1.out _ _ hy) (by omega)) fun T t0 t1 t2 t3 t4=>?_
     refine⟨by rw[t0],by rw[t0];show h+1<=_;omega,by rw[t0];show 1<=h+1;omega,by omega,?_,iF,by rw[t1,t0];rfl,by rw[t2,t0];exact l9 _,by rw[t3,t0];exact Or.inr rfl⟩
     have:=t4 (p+cl.length+1+cr.length+1) ⟨h+1,v,e,false⟩ (Or.inr ⟨rfl,rfl⟩);exact⟨Or.inr ⟨_,Or.inr ⟨rfl,rfl⟩⟩,by rw[this,t0],by rw[this,t0];exact l9 _,by rw[this,t0];exact Or.inr rfl⟩
    have s4:bE (fO fs) (eX L (p+cl.length+1+cr.length+1) ⟨h+1,v,e,false⟩) (p+cl.length+1+cr.length) [.truth] (h+1) v e (h+1) v e:=by
     refine bE.one hL1.uniq (fun y hy=>absurd (hL1.out _ _ hy) (by omega)) (fun y hy=>?_) fun T t0 t1 t2 t3 t4=>⟨by rw[t0],by rw[t0];show h+1<=_;omega,by rw[t0];show 1<=h+1;omega,iF,by rw[t1,t0],by rw[t2,t0];exact l9 _,by rw[t3,t0];exact Or.inr rfl⟩
     rcases hy with hy|⟨_,rfl⟩
     ·exact absurd (hL.out _ _ hy) (by omega)
     ·exact⟨rfl,rfl,rfl⟩
    have hout:∀q y,eX L (p+cl.length+1+cr.length+1) ⟨h+1,v,e,false⟩ q y->q<=p\/p+cl.length+1+cr.length+1<=q:=fun q y hq=>by have:=hL1.out q y hq;omega
    have s12:=s1.then s2 fun q y hq=>by have:=hout q y hq;simp only[n8,p6];omega
    have s123:=s12.then (c':=cr) (by rw[m6];exact s3) fun q y hq=>by have:=hout q y hq;simp only[m6,n8,p6];omega
    exact s123.then (c':=[.truth]) (by rw[show p+(cl++[aH.shortcut (a.op==[124,124]) (p+cl.length+1+cr.length+1)]++cr).length=p+cl.length+1+cr.length by simp only[m6,n8,p6];omega];exact s4) fun q y hq=>by have:=hout q y hq;simp only[m6,n8,p6];omega
theorem bE.entry{ar:Nat->Option Nat}{L:Nat->eD->Prop}{p:Nat}{c:List aH}{h v v0 h' v':Nat}{e e':Option Nat}(s:bE ar L p c h v none h' v' e')(hv:v<=v0):bE ar L p c h v0 e h' v' e':=by
 obtain⟨T,t1,t2,t3,t4,t5⟩:=s;exact⟨T,t1,t2,by omega,Or.inl (by rcases t4 with t4|t4<;>exact t4),t5⟩
theorem bE.exit{ar:Nat->Option Nat}{L:Nat->eD->Prop}{p:Nat}{c:List aH}{h v h' v' v'':Nat}{e e':Option Nat}(s:bE ar L p c h v e h' v' e')(hv:v''<=v')(b:Bool)(hn:∀y,¬L (p+c.length) y):bE ar (eX L (p+c.length) ⟨h',v'',none,b⟩) p c h v e h' v'' none:=by
 obtain⟨T,t1,t2,t3,t4,t5,t6,t7,t8⟩:=s;refine⟨fun q=>if q=p+c.length then ⟨h',v'',none,b⟩ else T q,fun q y hq=>?_,?_,?_,?_,by simp only[if_pos],by simp only[if_pos],by simp only[if_pos],fun j i hj=>?_⟩
 ·rcases hq with hq|⟨rfl,rfl⟩
  ·have hne:q≠p+c.length:=fun e=>hn y (by rw[<-e];exact hq)
   simp only[if_neg hne];exact t1 q y hq
  ·simp only[if_pos]
 ·simp only;split
  ·rename_i hp;rw[<-hp] at t5;simp only;omega
  ·exact t2
 ·simp only;split
  ·rename_i hp;rw[<-hp] at t6;simp only;omega
  ·exact t3
 ·simp only;split
  ·exact Or.inl rfl
  ·exact t4
 ·have hjl:j<c.length:=(z6.1 hj).1;refine(t8 j i hj).same (by rw[if_neg (by omega)]) (fun q hq=>?_) (fun q hq hqp hb=>by rw[if_neg (by omega)];exact hb)
  have hd:MI (eX L (p+c.length) ⟨h',v'',none,b⟩) p (p+c.length) q:=hq.imp id fun ⟨y,hy⟩=>⟨y,Or.inl hy⟩
  refine⟨hd,?_⟩;split
  ·rename_i hqe;rw[hqe];exact⟨t5.symm,by simp only;omega,Or.inl rfl⟩
  ·exact⟨rfl,l9 _,Or.inr rfl⟩
def cN(seen:List (List UInt8))(a:aC):List (List UInt8):=if a.op=[118,97,114] then (a.kids.head?.map (·.text)).toList++seen else seen
def StsOk(S:List (List UInt8)->aC->Prop):List (List UInt8)->List aC->Prop
 |_,[]=>True
 |seen,a::l=>S seen a/\StsOk S (cN seen a) l
def dP(fs:List aC):Nat->List (List UInt8)->aC->Prop
 |0,_,_=>False
 |d+1,seen,a=>
  (a.op=[118,97,114]/\seen.length<=90000/\∃t v,a.kids=[t,v]/\ExOk fs false seen d v/\t.text∉seen)\/
  (a.op=[115,101,116]/\a.text∈seen/\a.kids≠[]/\∀k∈a.kids,ExOk fs false seen d k)\/
  (a.op=[105,102]/\∃c t,(a.kids=[c,t]\/∃x,a.kids=[c,t,x]/\StsOk (dP fs d) seen x.kids)/\ExOk fs false seen d c/\StsOk (dP fs d) seen t.kids)\/
  (a.op=[119,104,105,108,101]/\∃c b,a.kids=[c,b]/\ExOk fs false seen d c/\StsOk (dP fs d) seen b.kids)\/
  (a.op=[114,101,116,117,114,110]/\(a.kids=[]\/∃v,a.kids=[v]/\ExOk fs false seen d v))\/
  (a.op=[112,114,105,110,116]/\∃v,a.kids=[v]/\ExOk fs false seen d v)\/
  (a.op=[100,111]/\∃c,a.kids=[c]/\ExOk fs false seen d c)
def RD(fs:List aC)(d:Nat):Prop:=
 ∀(seen:List (List UInt8)) (a:aC) (L:Nat->eD->Prop) (p:Nat),dP fs d seen a->eH L p (p+(bB fs d seen a p).1.length)->
  bE (fO fs) L p (bB fs d seen a p).1 0 seen.length none 0 (cN seen a).length none/\(bB fs d seen a p).2=cN seen a/\∃r,(bB fs d seen a p).1=.begin a.line seen::r
theorem NO(seen:List (List UInt8))(a:aC):seen.length<=(cN seen a).length:=by unfold cN;split<;>simp
def dS:List (List UInt8)->List aC->List (List UInt8)
 |seen,[]=>seen
 |seen,a::l=>dS (cN seen a) l
theorem lL:∀(l:List aC) (seen:List (List UInt8)),seen.length<=(dS seen l).length
 |[],_=>l9 _
 |a::l,seen=>p7 (NO seen a) (lL l _)
theorem lQ{fs:List aC}{d:Nat}(IH:RD fs d):∀(l:List aC) (seen:List (List UInt8)) (L:Nat->eD->Prop) (p:Nat),StsOk (dP fs d) seen l->eH L p (p+(bG (bB fs d) seen l p).length)->
 bE (fO fs) L p (bG (bB fs d) seen l p) 0 seen.length none 0 (dS seen l).length none
 |[],seen,L,p,_,hL=>bE.nil _ _ _ _ _ _ (fun q y hq hqp=>absurd (hL.out q y hq) (by simp[bG];omega)) hL.uniq
 |a::l,seen,L,p,h,hL=>by
  simp only[bG,m6] at hL ⊢
  obtain⟨h1,h2,_⟩:=IH seen a L p h.1 (hL.sub (l9 _) (by omega))
  rw[h2] at hL ⊢
  have h3:=lQ IH l (cN seen a) L (p+(bB fs d seen a p).1.length) h.2 (hL.sub (by omega) (by omega))
  exact h1.then h3 fun q y hq=>by have:=hL.out q y hq;omega
theorem bE.begins{ar:Nat->Option Nat}{L:Nat->eD->Prop}{p l:Nat}{seen:List (List UInt8)}(hu:∀q y z,L q y->L q z->y=z)(h0:∀y,L p y->y=⟨0,seen.length,none,true⟩)(h1:∀y,¬L (p+1) y):bE ar L p [.begin l seen] 0 seen.length none 0 seen.length (some seen.length):=
 bE.one hu h0 (fun y hy=>absurd hy (h1 y)) fun T t0 t1 t2 t3 _=>⟨by rw[t0],by rw[t0];exact aj_ _,by rw[t0];exact l9 _,iF,by rw[t1,t0],by rw[t2,t0];exact l9 _,by rw[t3];exact Or.inr rfl⟩
theorem oR(i j:aH)(c:List aH):(i::c++[j]).length=c.length+2:=by simp
theorem bE.stmt{ar:Nat->Option Nat}{L:Nat->eD->Prop}{p l n v':Nat}{seen:List (List UInt8)}{c:List aH}{i:aH}(hL:eH L p (p+(aH.begin l seen::c++[i]).length))
 (hc:bE ar L (p+1) c 0 seen.length (some seen.length) n seen.length (some seen.length)) (hi:eH L (p+1+c.length) (p+1+c.length+1)->bE ar L (p+1+c.length) [i] n seen.length (some seen.length) 0 v' none):
 bE ar L p (aH.begin l seen::c++[i]) 0 seen.length none 0 v' none:=by
 rw[oR] at hL;have s1:bE ar L p [.begin l seen] 0 seen.length none 0 seen.length (some seen.length):=bE.begins hL.uniq (fun y hy=>absurd (hL.out _ _ hy) (by omega)) (fun y hy=>absurd (hL.out _ _ hy) (by omega))
 have s2:=s1.then (c':=c) hc fun q y hq=>by have:=hL.out q y hq;simp only[n8,p6];omega
 have s3:=s2.then (c':=[i]) (by rw[show p+([aH.begin l seen]++c).length=p+1+c.length by simp only[m6,n8,p6];omega];exact hi (hL.sub (by omega) (by omega))) fun q y hq=>by have:=hL.out q y hq;simp only[m6,n8,p6];omega
 exact s3
theorem bE.last{ar:Nat->Option Nat}{L:Nat->eD->Prop}{p n v v':Nat}{e:Option Nat}{i:aH}(hl:eH L p (p+1))(hb:i.isBegin=false)(hp:n<=p)
 (hi:∀(D:Nat->Prop) (T:Nat->eD),T p=⟨n,v,e,false⟩->D (p+1)->(T (p+1)).h=0->(T (p+1)).v=v'->(T (p+1)).e=none->(T p).h<=p->iM ar D T p i):bE ar L p [i] n v e 0 v' none:=
 bE.one hl.uniq (fun y hy=>absurd (hl.out _ _ hy) (by omega)) (fun y hy=>absurd (hl.out _ _ hy) (by omega)) fun T t0 t1 t2 t3 _=>hi _ T (by rw[t0,hb]) iF t1 t2 t3 (by rw[t0];exact hp)
theorem kK{fs:List aC}{seen:List (List UInt8)}{d:Nat}{a:aC}{L:Nat->eD->Prop}{p:Nat}{e:Option Nat}(ha:ExOk fs false seen d a)(hp:0<p)(hL:eH L p (p+(aG fs seen d a p).length)):
 bE (fO fs) L p (aG fs seen d a p) 0 seen.length e 1 seen.length e/\1<=(aG fs seen d a p).length:=oV fs false seen d a L p 0 seen.length e ha (l9 _) (by omega) hL
theorem eH.none{L:Nat->eD->Prop}{lo hi q:Nat}(h:eH L lo hi)(h1:lo<=q)(h2:q<=hi)(y:eD):¬L q y:=fun hy=>by have:=h.out q y hy;omega
theorem bE.ifs{ar:Nat->Option Nat}{L:Nat->eD->Prop}{p l v1 v2:Nat}{seen:List (List UInt8)}{cc ct ce:List aH}
 (hL:eH L p (p+1+cc.length+1+ct.length+1+ce.length))
 (hc:∀L',eH L' (p+1) (p+1+cc.length)->bE ar L' (p+1) cc 0 seen.length (some seen.length) 1 seen.length (some seen.length))
 (ht:∀L',eH L' (p+1+cc.length+1) (p+1+cc.length+1+ct.length)->bE ar L' (p+1+cc.length+1) ct 0 seen.length none 0 v1 none) (h1:seen.length<=v1)
 (he:∀L',eH L' (p+1+cc.length+1+ct.length+1) (p+1+cc.length+1+ct.length+1+ce.length)->bE ar L' (p+1+cc.length+1+ct.length+1) ce 0 seen.length none 0 v2 none) (h2:seen.length<=v2):
 bE ar L p (aH.begin l seen::cc++[.skip (p+1+cc.length+1+ct.length+1)]++ct++[.jump (p+1+cc.length+1+ct.length+1+ce.length)]++ce) 0 seen.length none 0 seen.length none:=by
 generalize hq:p+1+cc.length+1+ct.length+1=q at*;generalize hr:q+ce.length=r at*;have hL1:eH (eX L r ⟨0,seen.length,none,false⟩) p (r-1):=eX.ok hL (by omega) (l9 _) (l9 _) (by omega) (by omega)
 have part1:bE ar (eX L r ⟨0,seen.length,none,false⟩) p (aH.begin l seen::cc++[aH.skip q]++ct++[aH.jump r]) 0 seen.length none 0 seen.length none:=by
  have hlen:p+(aH.begin l seen::cc++[aH.skip q]++ct++[aH.jump r]).length=q:=by simp only[m6,n8,p6];omega
  rcases as_ (show q<=r by omega) with hqr|hqr
  ·-- there is no else:one label
   subst hqr;have hN:eH (eX L q ⟨0,seen.length,none,false⟩) p (q-1):=hL1;have s1:=bE.begins (ar:=ar) (l:=l) (p:=p) (seen:=seen) hN.uniq (fun y hy=>absurd (hN.out _ _ hy) (by omega)) (fun y hy=>absurd (hN.out _ _ hy) (by omega))
   have s2:=s1.then (c':=cc) (hc _ (hN.sub (by omega) (by omega))) fun x y hx=>by have:=hN.out x y hx;simp only[n8,p6];omega
   have e2:p+([aH.begin l seen]++cc).length=p+1+cc.length:=by simp only[m6,n8,p6];omega
   have s3:=s2.then (c':=[aH.skip q]) (by
    rw[e2];refine bE.one (h':=0) (v':=seen.length) (e':=some seen.length) hN.uniq (fun y hy=>absurd (hN.out _ _ hy) (by omega)) (fun y hy=>absurd (hN.out _ _ hy) (by omega)) fun T t0 t1 t2 t3 t4=>?_
    have hy:=t4 q ⟨0,seen.length,none,false⟩ (Or.inr ⟨rfl,rfl⟩);exact⟨by rw[t0],by rw[t0];show 1<=_;omega,by rw[t0];exact l9 _,by omega,⟨Or.inr ⟨_,Or.inr ⟨rfl,rfl⟩⟩,by rw[hy,t0];rfl,by rw[hy,t0];exact l9 _,by rw[hy];exact Or.inl rfl⟩,iF,by rw[t1,t0];rfl,by rw[t2,t0];exact l9 _,by rw[t3,t0];exact Or.inr rfl⟩)
    fun x y hx=>by have:=hN.out x y hx;simp only[m6,n8,p6];omega
   have e3:p+([aH.begin l seen]++cc++[aH.skip q]).length=p+1+cc.length+1:=by simp only[m6,n8,p6];omega
   have s4:=s3.then (c':=ct) (by rw[e3];exact(ht _ (hN.sub (by omega) (by omega))).entry (l9 _)) fun x y hx=>by have:=hN.out x y hx;simp only[m6,n8,p6];omega
   have e4:p+([aH.begin l seen]++cc++[aH.skip q]++ct).length=p+1+cc.length+1+ct.length:=by simp only[m6,n8,p6];omega
   exact s4.then (c':=[aH.jump q]) (by
    rw[e4];refine bE.one hN.uniq (fun y hy=>absurd (hN.out _ _ hy) (by omega)) (fun y hy=>?_) fun T t0 t1 t2 t3 t4=>?_
    ·rw[show p+1+cc.length+1+ct.length+1=q from hq] at hy
     rcases hy with hy|⟨_,rfl⟩
     ·exact absurd hy (hL.none (by omega) (by omega) y)
     ·exact⟨rfl,rfl,rfl⟩
    ·have hy:=t4 q ⟨0,seen.length,none,false⟩ (Or.inr ⟨rfl,rfl⟩);exact⟨by rw[t0],by rw[t0];exact aj_ _,Or.inl (by omega),Or.inr ⟨_,Or.inr ⟨rfl,rfl⟩⟩,by rw[hy,t0],by rw[hy,t0];exact h1,by rw[hy];exact Or.inl rfl⟩)
    fun x y hx=>by have:=hN.out x y hx;simp only[m6,n8,p6];omega
  ·refine bE.close (q:=q) (y:=⟨0,seen.length,none,false⟩) ?_ (by omega) (by omega)
   have hN:eH (eX (eX L r ⟨0,seen.length,none,false⟩) q ⟨0,seen.length,none,false⟩) p (q-1):=eX.ok hL1 (by omega) (by omega) (l9 _) (by omega) (by omega)
   have s1:=bE.begins (ar:=ar) (l:=l) (p:=p) (seen:=seen) hN.uniq (fun y hy=>absurd (hN.out _ _ hy) (by omega)) (fun y hy=>absurd (hN.out _ _ hy) (by omega))
   have s2:=s1.then (c':=cc) (hc _ (hN.sub (by omega) (by omega))) fun x y hx=>by have:=hN.out x y hx;simp only[n8,p6];omega
   have e2:p+([aH.begin l seen]++cc).length=p+1+cc.length:=by simp only[m6,n8,p6];omega
   have s3:=s2.then (c':=[aH.skip q]) (by
    rw[e2];refine bE.one (h':=0) (v':=seen.length) (e':=some seen.length) hN.uniq (fun y hy=>absurd (hN.out _ _ hy) (by omega)) (fun y hy=>absurd (hN.out _ _ hy) (by omega)) fun T t0 t1 t2 t3 t4=>?_
    have hy:=t4 q ⟨0,seen.length,none,false⟩ (Or.inr ⟨rfl,rfl⟩);exact⟨by rw[t0],by rw[t0];show 1<=_;omega,by rw[t0];exact l9 _,by omega,⟨Or.inr ⟨_,Or.inr ⟨rfl,rfl⟩⟩,by rw[hy,t0];rfl,by rw[hy,t0];exact l9 _,by rw[hy];exact Or.inl rfl⟩,iF,by rw[t1,t0];rfl,by rw[t2,t0];exact l9 _,by rw[t3,t0];exact Or.inr rfl⟩)
    fun x y hx=>by have:=hN.out x y hx;simp only[m6,n8,p6];omega
   have e3:p+([aH.begin l seen]++cc++[aH.skip q]).length=p+1+cc.length+1:=by simp only[m6,n8,p6];omega
   have s4:=s3.then (c':=ct) (by rw[e3];exact(ht _ (hN.sub (by omega) (by omega))).entry (l9 _)) fun x y hx=>by have:=hN.out x y hx;simp only[m6,n8,p6];omega
   have e4:p+([aH.begin l seen]++cc++[aH.skip q]++ct).length=p+1+cc.length+1+ct.length:=by simp only[m6,n8,p6];omega
   exact s4.then (c':=[aH.jump r]) (by
    rw[e4];refine bE.one hN.uniq (fun y hy=>absurd (hN.out _ _ hy) (by omega)) (fun y hy=>?_) fun T t0 t1 t2 t3 t4=>?_
    ·rw[show p+1+cc.length+1+ct.length+1=q from hq] at hy
     rcases hy with (hy|⟨hy,_⟩)|⟨_,rfl⟩
     ·exact absurd hy (hL.none (by omega) (by omega) y)
     ·omega
     ·exact⟨rfl,rfl,rfl⟩
    ·have hy:=t4 r ⟨0,seen.length,none,false⟩ (Or.inl (Or.inr ⟨rfl,rfl⟩));exact⟨by rw[t0],by rw[t0];exact aj_ _,Or.inl (by omega),Or.inr ⟨_,Or.inl (Or.inr ⟨rfl,rfl⟩)⟩,by rw[hy,t0],by rw[hy,t0];exact h1,by rw[hy];exact Or.inl rfl⟩)
    fun x y hx=>by have:=hN.out x y hx;simp only[m6,n8,p6];omega
 have hlen:p+(aH.begin l seen::cc++[aH.skip q]++ct++[aH.jump r]).length=q:=by simp only[m6,n8,p6];omega
 refine bE.close (q:=r) (y:=⟨0,seen.length,none,false⟩) ?_ (by omega) (by rw[m6];omega)
 refine part1.then (c':=ce) ?_ fun x y hx=>by have:=hL1.out x y hx;omega
 rw[hlen];have:=(he L (hL.sub (by omega) (by omega))).exit h2 false (by rw[hr];exact hL.none (by omega) (l9 _))
 rw[hr] at this;exact this
theorem bE.whiles{ar:Nat->Option Nat}{L:Nat->eD->Prop}{p l v1:Nat}{seen:List (List UInt8)}{cc cb:List aH}
 (hL:eH L p (p+1+cc.length+1+cb.length+1))
 (hc:∀L',eH L' (p+1) (p+1+cc.length)->bE ar L' (p+1) cc 0 seen.length (some seen.length) 1 seen.length (some seen.length))
 (hb:∀L',eH L' (p+1+cc.length+1) (p+1+cc.length+1+cb.length)->bE ar L' (p+1+cc.length+1) cb 0 seen.length none 0 v1 none) (h1:seen.length<=v1):
 bE ar L p (aH.begin l seen::cc++[.skip (p+1+cc.length+1+cb.length+1)]++cb++[aH.jump p]) 0 seen.length none 0 seen.length none:=by
 generalize hq:p+1+cc.length+1+cb.length+1=q at*;have hlen:p+(aH.begin l seen::cc++[aH.skip q]++cb++[aH.jump p]).length=q:=by simp only[m6,n8,p6];omega
 refine bE.close (q:=p) (y:=⟨0,seen.length,none,true⟩) (bE.close (q:=q) (y:=⟨0,seen.length,none,false⟩) ?_ (by omega) (by omega)) (by omega) (by omega)
 have hL1:eH (eX L p ⟨0,seen.length,none,true⟩) (p+1) q:=eX.ok hL (l9 _) (by omega) (by omega) (l9 _) (by omega)
 have hN:eH (eX (eX L p ⟨0,seen.length,none,true⟩) q ⟨0,seen.length,none,false⟩) (p+1) (q-1):=eX.ok hL1 (by omega) (l9 _) (l9 _) (by omega) (by omega)
 have s1:=bE.begins (ar:=ar) (l:=l) (p:=p) (seen:=seen) hN.uniq (fun y hy=>by
  rcases hy with (hy|⟨_,rfl⟩)|⟨hy,_⟩
  ·exact absurd hy (hL.none (by omega) (by omega) y)
  ·rfl
  ·omega) (fun y hy=>absurd (hN.out _ _ hy) (by omega))
 have s2:=s1.then (c':=cc) (hc _ (hN.sub (by omega) (by omega))) fun x y hx=>by have:=hN.out x y hx;simp only[n8,p6];omega
 have e2:p+([aH.begin l seen]++cc).length=p+1+cc.length:=by simp only[m6,n8,p6];omega
 have s3:=s2.then (c':=[aH.skip q]) (by
  rw[e2];refine bE.one (h':=0) (v':=seen.length) (e':=some seen.length) hN.uniq (fun y hy=>absurd (hN.out _ _ hy) (by omega)) (fun y hy=>absurd (hN.out _ _ hy) (by omega)) fun T t0 t1 t2 t3 t4=>?_
  have hy:=t4 q ⟨0,seen.length,none,false⟩ (Or.inr ⟨rfl,rfl⟩);exact⟨by rw[t0],by rw[t0];show 1<=_;omega,by rw[t0];exact l9 _,by omega,⟨Or.inr ⟨_,Or.inr ⟨rfl,rfl⟩⟩,by rw[hy,t0];rfl,by rw[hy,t0];exact l9 _,by rw[hy];exact Or.inl rfl⟩,iF,by rw[t1,t0];rfl,by rw[t2,t0];exact l9 _,by rw[t3,t0];exact Or.inr rfl⟩)
  fun x y hx=>by have:=hN.out x y hx;simp only[m6,n8,p6];omega
 have e3:p+([aH.begin l seen]++cc++[aH.skip q]).length=p+1+cc.length+1:=by simp only[m6,n8,p6];omega
 have s4:=s3.then (c':=cb) (by rw[e3];exact(hb _ (hN.sub (by omega) (by omega))).entry (l9 _)) fun x y hx=>by have:=hN.out x y hx;simp only[m6,n8,p6];omega
 have e4:p+([aH.begin l seen]++cc++[aH.skip q]++cb).length=p+1+cc.length+1+cb.length:=by simp only[m6,n8,p6];omega
 exact s4.then (c':=[aH.jump p]) (by
  rw[e4];refine bE.one hN.uniq (fun y hy=>absurd (hN.out _ _ hy) (by omega)) (fun y hy=>?_) fun T t0 t1 t2 t3 t4=>?_
  ·rw[show p+1+cc.length+1+cb.length+1=q from hq] at hy
   rcases hy with (hy|⟨hy,_⟩)|⟨_,rfl⟩
   ·exact absurd hy (hL.none (by omega) (by omega) y)
   ·omega
   ·exact⟨rfl,rfl,rfl⟩
  ·have hy:=t4 p ⟨0,seen.length,none,true⟩ (Or.inl (Or.inr ⟨rfl,rfl⟩));exact⟨by rw[t0],by rw[t0];exact aj_ _,Or.inr (by rw[hy]),Or.inr ⟨_,Or.inl (Or.inr ⟨rfl,rfl⟩)⟩,by rw[hy,t0],by rw[hy,t0];exact h1,by rw[hy];exact Or.inl rfl⟩)
  fun x y hx=>by have:=hN.out x y hx;simp only[m6,n8,p6];omega
theorem mK(fs:List aC):∀d,RD fs d
 |0,_,_,_,_,h,_=>h.elim
 |d+1,seen,a,L,p,ha,hL=>by
  have IH:=mK fs d;rcases ha with ⟨h0,hb,t,v,hk,hv,_⟩|⟨h0,hx,hne,hk⟩|⟨h0,c,t,hk,hc,ht⟩|⟨h0,c,b,hk,hc,hb⟩|⟨h0,hk|⟨v,hk,hv⟩⟩|⟨h0,v,hk,hv⟩|⟨h0,v,hk,hv⟩
  ·have hs:bB fs (d+1) seen a p=(aH.begin a.line seen::aG fs seen d v (p+1)++[aH.declare seen.length],t.text::seen):=by rw[bB];simp[h0,hk]
   have hn:cN seen a=t.text::seen:=by unfold cN;rw[if_pos h0,hk];rfl
   rw[hs] at hL ⊢
   rw[hn];simp only at hL ⊢
   obtain⟨s1,l1⟩:=kK (L:=L) (p:=p+1) (e:=some seen.length) hv (by omega) (hL.sub (by omega) (by rw[oR];omega))
   refine⟨bE.stmt hL s1 fun hl=>bE.last hl rfl (by omega) fun D T t0 d1 t1 t2 t3 tp=>⟨by rw[t0];rfl,tp,?_⟩,trivial,_,rfl⟩
   rw[t0];exact⟨l9 _,l9 _,hb,rfl,d1,t1,by rw[t2];exact l9 _,Or.inl t3⟩
  ·have hs:bB fs (d+1) seen a p=(aH.begin a.line seen::bP (aG fs seen d) a.kids (p+1)++[aH.assign (eA seen a.text) (a.kids.length-1)],seen):=by rw[bB];simp[h0]
   have hn:cN seen a=seen:=by unfold cN;rw[if_neg (by rw[h0];decide)]
   rw[hs] at hL ⊢
   rw[hn];simp only at hL ⊢
   obtain⟨s1,l1⟩:=qB (oV fs false seen d) a.kids L (p+1) 0 seen.length (some seen.length) hk (l9 _) (by omega) (hL.sub (by omega) (by rw[oR];omega))
   rw[aD_] at s1;have hpos:0<a.kids.length:=aB_.2 hne;refine⟨bE.stmt hL s1 fun hl=>bE.last hl rfl (by omega) fun D T t0 d1 t1 t2 t3 tp=>⟨by rw[t0];rfl,tp,?_⟩,trivial,_,rfl⟩
   rw[t0];refine⟨?_,pZ hx,d1,?_,by rw[t2];exact l9 _,Or.inl t3⟩
   ·show a.kids.length-1+1<=a.kids.length;omega
   ·rw[t1];show 0=a.kids.length-(a.kids.length-1+1);omega
  ·have hn:cN seen a=seen:=by unfold cN;rw[if_neg (by rw[h0];decide)]
   rw[hn]
   obtain⟨ce,hs,he⟩:∃ce,bB fs (d+1) seen a p=(aH.begin a.line seen::aG fs seen d c (p+1)++[aH.skip (p+1+(aG fs seen d c (p+1)).length+1+(bG (bB fs d) seen t.kids (p+1+(aG fs seen d c (p+1)).length+1)).length+1)]++bG (bB fs d) seen t.kids (p+1+(aG fs seen d c (p+1)).length+1)++
    [aH.jump (p+1+(aG fs seen d c (p+1)).length+1+(bG (bB fs d) seen t.kids (p+1+(aG fs seen d c (p+1)).length+1)).length+1+ce.length)]++ce,seen)/\
    ∃v2,seen.length<=v2/\∀L',eH L' (p+1+(aG fs seen d c (p+1)).length+1+(bG (bB fs d) seen t.kids (p+1+(aG fs seen d c (p+1)).length+1)).length+1) (p+1+(aG fs seen d c (p+1)).length+1+(bG (bB fs d) seen t.kids (p+1+(aG fs seen d c (p+1)).length+1)).length+1+ce.length)->bE (fO fs) L' (p+1+(aG fs seen d c (p+1)).length+1+(bG (bB fs d) seen t.kids (p+1+(aG fs seen d c (p+1)).length+1)).length+1) ce 0 seen.length none 0 v2 none:=by
    rcases hk with hk|⟨x,hk,hx⟩
    ·refine⟨[],by rw[bB];simp[h0,hk],seen.length,l9 _,fun L' hL'=>bE.nil _ _ _ _ _ _ (fun q y hq hqp=>absurd (hL'.out q y hq) (by simp;omega)) hL'.uniq⟩
    ·exact⟨_,by rw[bB];simp[h0,hk],_,lL x.kids seen,fun L' hL'=>lQ IH x.kids seen L' _ hx hL'⟩
   obtain⟨v2,hv2,he⟩:=he;rw[hs] at hL ⊢
   simp only at hL ⊢
   refine⟨bE.ifs (v1:=(dS seen t.kids).length) (v2:=v2) ?_ (fun L' hL'=>(kK hc (by omega) hL').1) (fun L' hL'=>lQ IH t.kids seen L' _ ht hL') (lL _ _) he hv2,trivial,_,rfl⟩
   refine hL.sub (l9 _) ?_;simp only[m6,n8,p6];omega
  ·have hs:bB fs (d+1) seen a p=(aH.begin a.line seen::aG fs seen d c (p+1)++[aH.skip (p+1+(aG fs seen d c (p+1)).length+1+(bG (bB fs d) seen b.kids (p+1+(aG fs seen d c (p+1)).length+1)).length+1)]++bG (bB fs d) seen b.kids (p+1+(aG fs seen d c (p+1)).length+1)++[aH.jump p],seen):=by rw[bB];simp[h0,hk]
   have hn:cN seen a=seen:=by unfold cN;rw[if_neg (by rw[h0];decide)]
   rw[hs] at hL ⊢
   rw[hn];simp only at hL ⊢
   refine⟨bE.whiles (v1:=(dS seen b.kids).length) ?_ (fun L' hL'=>(kK hc (by omega) hL').1) (fun L' hL'=>lQ IH b.kids seen L' _ hb hL') (lL _ _),trivial,_,rfl⟩
   refine hL.sub (l9 _) ?_;simp only[m6,n8,p6];omega
  ·have hs:bB fs (d+1) seen a p=(aH.begin a.line seen::[aH.push (aV 0)]++[aH.give],seen):=by rw[bB];simp[h0,hk]
   have hn:cN seen a=seen:=by unfold cN;rw[if_neg (by rw[h0];decide)]
   rw[hs] at hL ⊢
   rw[hn];simp only at hL ⊢
   have hl':eH L (p+1) (p+2):=hL.sub (by omega) (by rw[oR];simp)
   refine⟨bE.stmt (n:=1) hL (bE.plain hl' rfl (by omega) fun D T t1 t2 f b hp=>⟨b,hp,by rw[t1];exact f⟩) fun hl=>bE.last hl rfl (by omega) fun D T t0 d1 t1 t2 t3 tp=>⟨by rw[t0];rfl,tp,by rw[t0];exact l9 _⟩,trivial,_,rfl⟩
  ·have hs:bB fs (d+1) seen a p=(aH.begin a.line seen::aG fs seen d v (p+1)++[aH.give],seen):=by rw[bB];simp[h0,hk]
   have hn:cN seen a=seen:=by unfold cN;rw[if_neg (by rw[h0];decide)]
   rw[hs] at hL ⊢
   rw[hn];simp only at hL ⊢
   obtain⟨s1,l1⟩:=kK (L:=L) (p:=p+1) (e:=some seen.length) hv (by omega) (hL.sub (by omega) (by rw[oR];omega))
   exact⟨bE.stmt hL s1 fun hl=>bE.last hl rfl (by omega) fun D T t0 d1 t1 t2 t3 tp=>⟨by rw[t0];rfl,tp,by rw[t0];exact l9 _⟩,trivial,_,rfl⟩
  ·have hs:bB fs (d+1) seen a p=(aH.begin a.line seen::aG fs seen d v (p+1)++[aH.print],seen):=by rw[bB];simp[h0,hk]
   have hn:cN seen a=seen:=by unfold cN;rw[if_neg (by rw[h0];decide)]
   rw[hs] at hL ⊢
   rw[hn];simp only at hL ⊢
   obtain⟨s1,l1⟩:=kK (L:=L) (p:=p+1) (e:=some seen.length) hv (by omega) (hL.sub (by omega) (by rw[oR];omega))
   refine⟨bE.stmt hL s1 fun hl=>bE.last hl rfl (by omega) fun D T t0 d1 t1 t2 t3 tp=>⟨by rw[t0];rfl,tp,?_⟩,trivial,_,rfl⟩
   rw[t0];exact⟨l9 _,d1,t1,by rw[t2];exact l9 _,Or.inl t3⟩
  ·have hs:bB fs (d+1) seen a p=(aH.begin a.line seen::aG fs seen d v (p+1)++[aH.drop],seen):=by rw[bB];simp[h0,hk]
   have hn:cN seen a=seen:=by unfold cN;rw[if_neg (by rw[h0];decide)]
   rw[hs] at hL ⊢
   rw[hn];simp only at hL ⊢
   obtain⟨s1,l1⟩:=kK (L:=L) (p:=p+1) (e:=some seen.length) hv (by omega) (hL.sub (by omega) (by rw[oR];omega))
   refine⟨bE.stmt hL s1 fun hl=>bE.last hl rfl (by omega) fun D T t0 d1 t1 t2 t3 tp=>⟨by rw[t0];rfl,tp,?_⟩,trivial,_,rfl⟩
   rw[t0];exact⟨l9 _,d1,t1,by rw[t2];exact l9 _,Or.inl t3⟩
structure jV(fs:List aC)(d:Nat)(f:aC):Prop where
 kids:∃ps b,f.kids=ps++[b]/\StsOk (dP fs d) (ps.map (·.text)).reverse b.kids/\(ps.map (·.text)).Nodup
 len:(fJ fs d f).code.length<=80000
theorem ZN{fs:List aC}{d:Nat}{f:aC}(h:jV fs d f):∃T,oF (fO fs) (fJ fs d f).code T/\(T 0).h=0/\(T 0).v<=f.kids.length-1/\(T 0).e=none/\iJ (fJ fs d f).code:=by
 obtain⟨⟨ps,b,hk,hb,_⟩,hl⟩:=h;have hcode:(fJ fs d f).code=bG (bB fs d) (ps.map (·.text)).reverse b.kids 0++[.push (aV 0),.give]:=by simp[fJ,hk]
 have hn:f.kids.length-1=(ps.map (·.text)).reverse.length:=by simp[hk]
 rw[hn];generalize hseen:(ps.map (·.text)).reverse=seen at*
 have hs:=lQ (mK fs d) b.kids seen (fun _ _=>False) 0 hb ⟨fun _ _ _ h=>h.elim,fun _ _ h=>h.elim⟩
 have hst:iJ (fJ fs d f).code:=by
  rw[hcode];cases hbk:b.kids with
  |nil=>exact Or.inr ⟨_,rfl⟩
  |cons a l=>
   rw[hbk] at hb;obtain⟨r,hr⟩:=(mK fs d seen a (fun _ _=>False) 0 hb.1 ⟨fun _ _ _ h=>h.elim,fun _ _ h=>h.elim⟩).2.2
   exact Or.inl ⟨a.line,seen,r++bG (bB fs d) (bB fs d seen a 0).2 l (0+(bB fs d seen a 0).1.length)++[.push (aV 0),.give],by rw[bG,hr];simp⟩
 generalize hc:bG (bB fs d) seen b.kids 0=c at*;obtain⟨T,t1,t2,t3,t4,t5,t6,t7,t8⟩:=hs;rw[aD_] at t5 t6 t7;have hlen:(fJ fs d f).code.length=c.length+2:=by rw[hcode];simp
 let U:Nat->eD:=fun q=>if q=c.length then ⟨0,(T q).v,none,false⟩ else if q=c.length+1 then ⟨1,(T c.length).v,none,false⟩ else T q
 have u0:U c.length=⟨0,(T c.length).v,none,false⟩:=by simp[U]
 have u1:U (c.length+1)=⟨1,(T c.length).v,none,false⟩:=by simp[U]
 have u2:∀q,q<c.length->U q=T q:=fun q hq=>by simp[U];rw[if_neg (by omega),if_neg (by omega)]
 have he0:(T 0).e=none:=by rcases t4 with t4|t4<;>exact t4
 have hU0:(U 0).h=0/\(U 0).v<=seen.length/\(U 0).e=none:=by
  rcases a4_ c.length with h0|h0
  ·rw[h0] at u0;rw[u0];exact⟨rfl,t3,rfl⟩
  ·rw[u2 0 h0];exact⟨t2,t3,he0⟩
 refine⟨U,⟨fun j i hj=>?_,hl⟩,hU0.1,hU0.2.1,hU0.2.2,hst⟩
 rw[hlen];rw[hcode] at hj;rcases ag_ j c.length with hjl|hjl
 ·rw[ad_ hjl] at hj;have:=t8 j i hj;simp only[aD_] at this;refine this.same (T':=U) (u2 j hjl) (fun q hq=>?_) (fun q hq hqp hb=>by rw[u2 q (by omega)];exact hb)
  rcases hq with hq|⟨y,hy⟩
  ·refine⟨by omega,?_⟩
   rcases ag_ q c.length with h|h
   ·rw[u2 q h];exact⟨rfl,l9 _,Or.inr rfl⟩
   ·obtain rfl:q=c.length:=by omega
    rw[u0];exact⟨t5.symm,l9 _,Or.inl rfl⟩
  ·exact hy.elim
 ·rw[y8 hjl] at hj;obtain⟨k,rfl⟩:∃k,j=c.length+k:=⟨j-c.length,by omega⟩
  rw[az_] at hj;match k,hj with
  |0,hj=>
   simp at hj;subst hj;show iM _ _ U c.length _
   exact⟨by rw[u0];rfl,by rw[u0];exact aj_ _,by omega,by rw[u1,u0],by rw[u1,u0];exact l9 _,by rw[u1];exact Or.inl rfl⟩
  |1,hj=>
   simp at hj;subst hj;exact⟨by rw[u1];rfl,by rw[u1];show 1<=_;omega,by rw[u1];exact l9 _⟩
  |k+2,hj=>simp at hj
theorem lE{fs:List aC}{d:Nat}(h:∀f∈fs,jV fs d f):jU (fO fs) (dR fs d):=by
 refine⟨fun k n hk=>?_⟩
 unfold fO at hk;cases hf:fs[k]? with
 |none=>rw[hf] at hk;cases hk
 |some f=>
  rw[hf] at hk;simp at hk;subst hk;obtain⟨T,h1,h2,h3,h4,h5⟩:=ZN (h f (aq_ hf));exact⟨fJ fs d f,T,by simp[dR,hf],h1,h2,h3,h4,h5⟩
theorem tL{fs:List aC}{d:Nat}(h:∀f∈fs,jV fs d f)(hm:fO fs (dA fs [109,97,105,110])=some 0)(tape:List Int):fH (fO fs) (gZ fs d tape):=by
 obtain⟨f,T,h1,h2,h3,h4,h5,h6⟩:=(lE h).fn _ _ hm;have e:gZ fs d tape=⟨[]++[⟨f,0,0,[],[],[]⟩],tape,[]⟩:=by unfold gZ;rw[h1];rfl
 rw[e];refine⟨mZ.snoc (fun g hg=>by cases hg) ⟨⟨T,h2,h3,h4,Or.inl h5⟩,?_,by simp,by simp⟩ (by simp),fun g hg=>by simp at hg;rw[hg];exact h6⟩
 rcases h6 with ⟨l,s,r,e⟩|⟨v,e⟩<;>simp[e]
inductive cO:List UInt8->Prop
 |nil:cO []
 |cons {l:List UInt8}:bC l≠0->cO (l.drop (bC l))->cO l
theorem mH{l m:List UInt8}{i lo hi:Nat}(h:m[i]?=l[i]?):dF m i lo hi=dF l i lo hi:=by unfold dF;rw[h]
theorem mX{l m:List UInt8}(h:bC l≠0)(hm:∀i,i<bC l->m[i]?=l[i]?):bC m=bC l:=by
 have h0:=hm 0 (by omega)
 unfold bC at h hm ⊢
 rw[h0];cases hb:l[0]? with
 |none=>exact absurd (by rw[hb]) h
 |some b=>
  rw[hb] at h hm;simp only at h hm ⊢
  by_cases c1:b.toNat<128
  ·rw[if_pos c1,if_pos c1]
  rw[if_neg c1] at h hm;rw[if_neg c1,if_neg c1];by_cases c2:194<=b.toNat/\b.toNat<=223
  ·rw[if_pos c2] at h hm;rw[if_pos c2,if_pos c2];by_cases c3:dF l 1 128 191=true
   ·rw[if_pos c3] at hm;rw[mH (hm 1 (by omega))]
   ·rw[if_neg c3] at h;exact absurd rfl h
  rw[if_neg c2] at h hm;rw[if_neg c2,if_neg c2];by_cases c4:224<=b.toNat/\b.toNat<=239
  ·rw[if_pos c4] at h hm;rw[if_pos c4,if_pos c4];by_cases c5:(dF l 1 (if b.toNat=224 then 160 else 128) (if b.toNat=237 then 159 else 191) && dF l 2 128 191)=true
   ·rw[if_pos c5] at hm;rw[mH (hm 1 (by omega)),mH (hm 2 (by omega))]
   ·rw[if_neg c5] at h;exact absurd rfl h
  rw[if_neg c4] at h hm;rw[if_neg c4,if_neg c4];by_cases c6:240<=b.toNat/\b.toNat<=244
  ·rw[if_pos c6] at h hm;rw[if_pos c6,if_pos c6];by_cases c7:(dF l 1 (if b.toNat=240 then 144 else 128) (if b.toNat=244 then 143 else 191) && dF l 2 128 191 && dF l 3 128 191)=true
   ·rw[if_pos c7] at hm;rw[mH (hm 1 (by omega)),mH (hm 2 (by omega)),mH (hm 3 (by omega))]
   ·rw[if_neg c7] at h;exact absurd rfl h
  ·rw[if_neg c6] at h;exact absurd rfl h
def MG(t:List UInt8):Prop:=t.length<=100/\cO t
end Go.Proofs.YtblbkfdhjfppkaaGreatDoor.Hs
namespace Go.Proofs.YtblbkfdhjfppkaaGreatDoor
open Hs
def pN:Nat->aC->Prop
 |0,_=>True
 |d+1,a=>(a.op=[115]->a.text.length<=100/\cO a.text)/\a.kids.length<=1000000/\∀k∈a.kids,pN d k
def mD(a:aC):Prop:=∀e,pN e a
theorem mD.kid{a k:aC}(h:mD a)(hk:k∈a.kids):mD k:=fun e=>(h (e+1)).2.2 k hk
theorem mD.len{a:aC}(h:mD a):a.kids.length<=1000000:=(h 1).2.1
end Go.Proofs.YtblbkfdhjfppkaaGreatDoor
namespace Go.Proofs.YtblbkfdhjfppkaaGreatDoor.Hs
theorem pM{a b:List UInt8}(h:bC a≠0):bC (a++b)=bC a:=
 mX h fun _ hi=>ad_ (m9 hi jY)
theorem sQ{l:List UInt8}(h:bC l≠0):bC (l.take (bC l))=bC l:=
 mX h fun i hi=>by rw[x6,if_pos hi]
theorem cO.append{a b:List UInt8}(ha:cO a)(hb:cO b):cO (a++b):=by
 induction ha with
 |nil=>exact hb
 |@cons l h1 _ ih=>
  refine cO.cons (by rw[pM h1];exact h1) ?_
  rw[pM h1,List.drop_append_of_le_length jY];exact ih
theorem cO.one{l:List UInt8}(h:bC l≠0):cO (l.take (bC l)):=
 cO.cons (by rw[sQ h];exact h) (by rw[sQ h,List.drop_take];simp;exact cO.nil)
theorem cO.ne{l:List UInt8}(h:cO l)(hl:l≠[]):bC l≠0/\cO (l.drop (bC l)):=by
 cases h with
 |nil=>exact absurd rfl hl
 |cons h1 h2=>exact⟨h1,h2⟩
theorem QU:∀(n:Nat) (l:List UInt8),l.length<=n->∀c∈dV l,cO c:=by
 intro n;induction n with
 |zero=>
  intro l hl c hc;rw[dQ (Or.inl (ay_.1 (by omega)))] at hc
  cases hc
 |succ n ih=>
  intro l hl c hc;by_cases h1:l=[]
  ·rw[dQ (Or.inl h1)] at hc;cases hc
  by_cases h2:bC l=0
  ·rw[dQ (Or.inr h2)] at hc;cases hc
  rw[iB h1 h2] at hc;rcases p8.1 hc with rfl|hc
  ·exact cO.one h2
  ·exact ih _ (by rw[al_];omega) c hc
def VM:Nat->aI->Prop
 |0,_=>True
 |d+1,v=>cO v.s/\∀x∈v.l,VM d x
structure bN(v:aI):Prop where
 all:∀d,VM d v
theorem bN.txt{v:aI}(h:bN v):cO v.s:=(h.all 1).1
theorem bN.kid{v x:aI}(h:bN v)(hx:x∈v.l):bN x:=⟨fun d=>(h.all (d+1)).2 x hx⟩
theorem bN.mk'{v:aI}(h1:cO v.s)(h3:∀x∈v.l,bN x):bN v:=
 ⟨fun d=>by
   cases d with
   |zero=>trivial
   |succ d=>exact⟨h1,fun x hx=>(h3 x hx).all d⟩⟩
theorem bN.num(n:Int):bN (aV n):=.mk' .nil fun x hx=>by cases hx
theorem bN.tru(b:Bool):bN (bM b):=.mk' .nil fun x hx=>by cases hx
theorem bN.nil:bN bL:=.mk' .nil fun x hx=>by cases hx
theorem bN.str{s:List UInt8}(h:cO s):bN (bI s):=.mk' h fun x hx=>by cases hx
theorem bN.lst{l:List aI}(h:∀x∈l,bN x):bN (aR l):=.mk' .nil h
theorem xE{l:List aI}(h:∀x∈l,bN x)(k:Nat):bN (l.getD k bL):=by
 rw[List.getD_eq_getElem?_getD];cases hk:l[k]? with
 |none=>exact bN.nil
 |some x=>exact h x (aq_ hk)
theorem AH{l:List aI}(h:∀x∈l,bN x)(k:Nat):bN (l[k]?.getD bL):=by
 cases hk:l[k]? with
 |none=>exact bN.nil
 |some x=>exact h x (aq_ hk)
theorem TC(op:List UInt8)(a:aI):bN (fG op a).1:=by
 unfold fG;repeat' split
 all_goals first|exact bN.num _|exact bN.tru _|exact bN.nil
theorem PA(op:List UInt8)(x y:Int):bN (jB op x y).1:=by
 unfold jB;repeat' split
 all_goals first|exact bN.num _|exact bN.tru _|exact bN.nil
theorem FK{a b:aI}(ha:bN a)(hb:bN b):bN (jA a b).1:=by
 unfold jA;dsimp only;generalize he:(if a.sort=3 then aR (a.l++b.l) else bI (a.s++b.s))=v
 have hv:bN v:=by
  rw[<-he];split
  ·refine bN.lst fun x hx=>?_
   rcases o7.1 hx with h|h
   ·exact ha.kid h
   ·exact hb.kid h
  ·exact bN.str (ha.txt.append hb.txt)
 split
 ·exact bN.nil
 ·exact hv
theorem RO(op:List UInt8){a b:aI}(ha:bN a)(hb:bN b):bN (eM op a b).1:=by
 unfold eM;repeat' split
 all_goals first|exact bN.tru _|exact bN.nil|exact PA _ _ _|exact FK ha hb
theorem FI(a:aI):bN (eC a).1:=by
 unfold eC;repeat' split
 all_goals first|exact bN.num _|exact bN.nil
theorem KY{a:aI}(b:aI)(ha:bN a):bN (dB a b).1:=by
 unfold dB;split
 ·exact bN.nil
 split
 ·exact bN.nil
 refine xE (fun x hx=>?_) _
 unfold jF at hx;split at hx
 ·obtain⟨c,hc,rfl⟩:=aO_.1 hx;exact bN.str (QU _ _ (l9 _) c hc)
 ·exact ha.kid hx
theorem qY:∀(l:List aI) (a b:aI),bN a->bN b->bN (cI l a b).1
 |[],_,_,_,hb=>hb
 |i::l,a,b,ha,hb=>by
  unfold cI;have ih:=qY l (a.l.getD i.n.toNat bL) b (xE (fun x hx=>ha.kid hx) _) hb
  split
  ·exact bN.nil
  split
  ·exact bN.nil
  split
  ·exact bN.nil
  ·refine bN.lst fun x hx=>?_
   rcases aZ_ hx with h|h
   ·exact ha.kid h
   ·rw[h];exact ih
theorem uR{r:aI × Nat}(h:bN r.1):bN (iA r).1:=by
 unfold iA;repeat' split
 all_goals first|exact bN.nil|exact h
def vG(f:eP):Prop:=(∀v,aH.push v∈f.code->bN v)/\∀op,aH.unary op∈f.code->op=[45]\/op=[33]
structure dK(f:aK):Prop where
 fn:vG f.fn
 vars:∀v∈f.vars,bN v
 ops:∀v∈f.ops,bN v
def fR(m:cP):Prop:=∀f∈m.frames,dK f
def jM(tab:List eP):Prop:=∀f∈tab,vG f
theorem dK.last{f:aK}(h:dK f):bN f.last:=by
 unfold aK.last;cases hk:f.ops.getLast? with
 |none=>exact bN.nil
 |some x=>exact h.ops x (List.mem_of_getLast? hk)
theorem dK.pop{f:aK}(h:dK f):dK f.pop:=⟨h.fn,h.vars,fun v hv=>h.ops v (List.dropLast_subset _ hv)⟩
theorem dK.popMany{f:aK}(h:dK f)(n:Nat):dK (f.popMany n):=⟨h.fn,h.vars,fun v hv=>h.ops v (aY_ hv)⟩
theorem dK.push{f:aK}(h:dK f){a:aI}(ha:bN a):dK (f.push a):=⟨h.fn,h.vars,fun v hv=>by
 rcases o7.1 hv with h1|h1
 ·exact h.ops v h1
 ·rw[o8.1 h1];exact ha⟩
theorem dK.next{f:aK}(h:dK f)(n:Nat):dK { f with next:=n }:=⟨h.fn,h.vars,h.ops⟩
theorem dK.many{f:aK}(h:dK f)(n:Nat):∀v∈f.many n,bN v:=fun v hv=>h.ops v (List.mem_of_mem_drop hv)
theorem CW{i:aH}{f:aK}(h:dK f)(hi:∀v,i=.push v->bN v):dK (aN i f).1:=by
 cases i<;>simp only[aN]
 case begin l s=>exact⟨h.fn,h.vars,h.ops⟩
 case push v=>exact h.push (hi v rfl)
 case load k=>exact h.push (AH h.vars k)
 case declare k=>
  refine⟨h.fn,fun v hv=>?_,h.pop.ops⟩
  rcases o7.1 hv with h1|h1
  ·exact h.vars v (aY_ h1)
  ·rw[o8.1 h1];exact h.last
 case assign k n=>
  have hg:=h.pop.popMany n;split
  ·refine⟨hg.fn,fun v hv=>?_,hg.ops⟩
   rcases aZ_ hv with h1|h1
   ·exact h.vars v h1
   ·rw[h1];exact uR (qY _ _ _ (AH h.vars k) h.last)
  ·exact hg
 case jump t=>exact h.next t
 case skip t=>
  repeat' split
  ·exact h.pop
  ·exact h.pop.next t
  ·exact h.pop
 case shortcut w t=>
  repeat' split
  ·exact(h.pop.push h.last).next t
  ·exact h.pop
  ·exact h.pop
 case truth=>
  repeat' split
  ·exact h.pop.push h.last
  ·exact h.pop
 case unary op=>
  repeat' split
  ·exact h.pop.push (TC _ _)
  ·exact h.pop
 case binary op=>
  repeat' split
  ·exact h.pop.pop.push (RO _ h.pop.last h.last)
  ·exact h.pop.pop
 case index=>
  repeat' split
  ·exact h.pop.pop.push (KY _ h.pop.last)
  ·exact h.pop.pop
 case list n=>
  repeat' split
  ·exact(h.popMany n).push (uR (bN.lst (h.many n)))
  ·exact h.popMany n
 case length=>
  repeat' split
  ·exact h.pop.push (FI _)
  ·exact h.pop
 case drop=>exact h.pop
 all_goals exact h
theorem DR{tab:List eP}(ht:jM tab){below:List aK}{f g:aK}{t:List Int}{o:List (List UInt8)}{i:aH}(h:fR ⟨below++[f],t,o⟩)(hf:f.fetch=some (i,g)):fR (cD tab i below g t o).1:=by
 have hb:∀x∈below,dK x:=fun x hx=>h x (by simp[hx])
 have hf0:dK f:=h f (by simp)
 obtain⟨rfl,hi⟩:g={ f with next:=f.next+1 }/\f.fn.code[f.next]?=some i:=by
  unfold aK.fetch at hf;cases hx:f.fn.code[f.next]? with
  |none=>rw[hx] at hf;cases hf
  |some j=>rw[hx] at hf;simp at hf;exact⟨hf.2.symm,by rw[hf.1]⟩
 have hg:dK { f with next:=f.next+1 }:=hf0.next _
 generalize { f with next:=f.next+1 }=g at hg
 have hpu:∀v,i=.push v->bN v:=fun v e=>hf0.fn.1 v (by rw[<-e];exact aq_ hi)
 have one:∀y,dK y->∀t o,fR ⟨below++[y],t,o⟩:=fun y hy t o x hx=>by
  rcases o7.1 hx with h1|h1
  ·exact hb x h1
  ·rw[o8.1 h1];exact hy
 cases i
 case read=>
  cases t with
  |nil=>exact one _ hg _ _
  |cons a r=>exact one _ (hg.push (bN.num _)) _ _
 case call k n=>
  simp only[cD];split
  ·exact one _ (hg.popMany n) _ _
  ·intro x hx;simp only[o7,p8,s7,or_false] at hx;rcases hx with h1|rfl|rfl
   ·exact hb x h1
   ·exact hg.popMany n
   ·refine⟨?_,hg.many n,fun v hv=>by cases hv⟩
    show vG (tab[k]?.getD ⟨[],[]⟩)
    cases hk:tab[k]? with
    |none=>exact And.intro (fun v hv=>absurd hv (by simp)) (fun v hv=>absurd hv (by simp))
    |some y=>exact ht y (aq_ hk)
 case give=>
  simp only[cD];intro x hx;rcases o7.1 hx with h1|h1
  ·exact hb x (List.dropLast_subset _ h1)
  ·cases hk:below.getLast? with
   |none=>rw[hk] at h1;cases h1
   |some y=>
    rw[hk] at h1;simp at h1;rw[h1];exact(hb y (List.mem_of_getLast? hk)).push hg.last
 case print=>
  simp only[cD];split<;>exact one _ hg.pop _ _
 all_goals exact one _ (CW hg hpu) _ _
end Go.Proofs.YtblbkfdhjfppkaaGreatDoor.Hs
