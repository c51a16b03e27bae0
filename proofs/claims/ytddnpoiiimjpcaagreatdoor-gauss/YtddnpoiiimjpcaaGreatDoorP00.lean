/- Short words. -/
import Derived.Test.YtddnpoiiimjpcaaGreatDoorB00
set_option linter.defProp false
set_option maxRecDepth 100000
namespace Go.Proofs.YtddnpoiiimjpcaaGreatDoor
abbrev Iv0(n:Int):Value:=.int .i64 n
abbrev aL(b i:Nat):Addr:=⟨b,i,none⟩
abbrev bO(b:Nat):Value:=.pointer (some ⟨b,0,none⟩)
abbrev bV:Value:=.slice none 0 0
abbrev bE(v:Value):Ending:=.returned v
abbrev cE:Type:=List UInt8
abbrev cO:Type:=List (List UInt8)
abbrev aH:Type:=World
abbrev aQ:Type:=Value
abbrev cC:Type:=Nat->Prop
abbrev fN:Type:=Nat->Value
def ZE{a:Type}{p:a->Prop}:∀b,b∈([]:List a)->p b:=fun _ h=>nomatch h
def dH{n:Nat}:n<=n:=Z7 n
def eD{a:Type}{p:a->Prop}(b:a)(h:p b):p b:=h
end Go.Proofs.YtddnpoiiimjpcaaGreatDoor
namespace Go.Proofs.YtddnpoiiimjpcaaGreatDoor.Hs
def bB(l:cE):Nat:=1+l.count 10
def jJ(a b:cE):bB (a++b)=bB a+b.count 10:=by
 unfold bB;rw[List.count_append];omega
def OQ(a:cE):a.count 10<=a.length:=List.count_le_length
def oJ(a:cE):bB a<=a.length+1:=by have:=OQ a;unfold bB;omega
def BL(a:cE)(c:UInt8):bB (a++[c])=bB a+if c=10 then 1 else 0:=by
 rw[jJ];by_cases h:c=10<;>simp[h]
def dI(l:cE)(i lo hi:Nat):Bool:=
 match l[i]? with
 |some b=>decide (lo<=b.toNat) && decide (b.toNat<=hi)
 |none=>false
def bG(l:cE):Nat:=
 match l[0]? with
 |none=>0
 |some b=>
  if b.toNat<128 then 1
  else if 194<=b.toNat/\b.toNat<=223 then if dI l 1 128 191 then 2 else 0
  else if 224<=b.toNat/\b.toNat<=239 then
   if dI l 1 (if b.toNat=224 then 160 else 128) (if b.toNat=237 then 159 else 191) && dI l 2 128 191 then 3 else 0
  else if 240<=b.toNat/\b.toNat<=244 then
   if dI l 1 (if b.toNat=240 then 144 else 128) (if b.toNat=244 then 143 else 191) && dI l 2 128 191 && dI l 3 128 191 then 4 else 0
  else 0
def dU:Nat->cE->Nat->Option Nat
 |0,_,_=>none
 |f+1,l,p=>
  if l.length=0 then none
  else if bG l=0 then some p
  else dU f (l.drop (bG l)) (p+bG l)
def eI(c:UInt8):Bool:=decide (48<=c.toNat) && decide (c.toNat<=57)
def fI(c:UInt8):Bool:=
 c.toNat==95 || (decide (97<=c.toNat) && decide (c.toNat<=122) || decide (65<=c.toNat) && decide (c.toNat<=90))
def cS(l what:cE):Bool:=what.isPrefixOf l
def bL(p:UInt8->Bool):cE->Nat
 |[]=>0
 |c::r=>if p c then bL p r+1 else 0
def kK(p:UInt8->Bool)(l:cE):bL p l<=l.length:=by
 induction l with
 |nil=>simp[bL]
 |cons c r a=>simp only[bL];split<;>simp<;>omega
def eL(b:UInt8):Bool:=b.toNat != 10
def blankL:Nat->cE->Nat
 |0,_=>0
 |f+1,l=>
  match l with
  |[]=>0
  |c::r=>
   if c.toNat=32\/c.toNat=9\/c.toNat=10 then blankL f r+1
   else if cS (c::r) [47,47] then
    bL eL (c::r)+blankL f ((c::r).drop (bL eL (c::r)))
   else 0
def JE:Nat:=9223372036854775807
def dK:Nat->cE->Option Nat
 |n,[]=>some n
 |n,c::r=>if (JE-(c.toNat-48))/10<n then none else dK (10*n+(c.toNat-48)) r
def iT:cO:=[[102,117,110,99],[118,97,114],[105,102],[101,108,115,101],[119,104,105,108,101],[114,101,116,117,114,110],[112,114,105,110,116],[116,114,117,101],[102,97,108,115,101]]
def cR:cO:=[[61,61],[33,61],[60,61],[38,38],[124,124],[40],[41],[123],[125],[91],[93],[44],[59],[61],[60],[43],[45],[42],[47],[37],[33]]
def eK(name:Bool)(b:UInt8):Bool:=eI b || name && fI b
def fH(b:UInt8):Bool:=b.toNat != 34 && b.toNat != 10
structure aX where
 sort:Nat
 text:cE
 line:Nat
structure oS where
 sort:Nat
 text:cE
 size:Nat
 ok:Bool
def gP(l:cE)(name:Bool):oS:=
 if name then { sort:=if iT.contains (l.take (bL (eK name) l)) then 107 else 110,text:=l.take (bL (eK name) l),size:=bL (eK name) l,ok:=decide (bL (eK name) l<=16) }
 else { sort:=48,text:=l.take (bL (eK name) l),size:=bL (eK name) l,ok:=(dK 0 (l.take (bL (eK name) l))).isSome }
def nE(r:cE):oS:=
 { sort:=115,text:=r.take (bL fH r),size:=bL fH r+2,ok:=decide (r[bL fH r]?=some 34) && decide (bL fH r<=100) }
def gO(l:cE):oS:=
 match cR.find? (fun o=>cS l o) with
 |some o=>{ sort:=112,text:=o,size:=o.length,ok:=true }
 |none=>{ sort:=0,text:=[],size:=0,ok:=false }
def cA:cE->oS
 |[]=>{ sort:=0,text:=[],size:=0,ok:=false }
 |c::r=>if eI c || fI c then gP (c::r) (fI c) else if c.toNat=34 then nE r else gO (c::r)
def eP:Nat->cE->cE->Except Nat (List aX)
 |0,_,_=>.error 0
 |f+1,pre,l=>
  if l.length=0 then .ok [{ sort:=101,text:=[],line:=bB pre }]
  else if (cA l).ok then
   match eP f (pre++l.take ((cA l).size+blankL l.length (l.drop (cA l).size))) (l.drop ((cA l).size+blankL l.length (l.drop (cA l).size))) with
   |.ok ts=>.ok ({ sort:=(cA l).sort,text:=(cA l).text,line:=bB pre }::ts)
   |.error n=>.error n
  else .error (bB pre)
def gM(l:cE):Except Nat (List aX):=
 eP (l.length+1) (l.take (blankL l.length l)) (l.drop (blankL l.length l))
def kV{l w:cE}(h:cS l w=true):w.length<=l.length:=(ao_.1 h).length_le
def nA(f:Nat)(c:UInt8)(r:cE):blankL (f+1) (c::r)=
 if c.toNat=32\/c.toNat=9\/c.toNat=10 then blankL f r+1
  else if cS (c::r) [47,47] then bL eL (c::r)+blankL f ((c::r).drop (bL eL (c::r)))
  else 0:=by
 rw[blankL]
def AP(c:UInt8)(r:cE)(h:cS (c::r) [47,47]=true):1<=bL eL (c::r):=by
 have b:c=47:=by
  have:=ao_.1 h;obtain⟨t,a⟩:=this;simp only[l9,List.cons.injEq] at a;exact a.1.symm
 subst b;rw[bL,if_pos (by decide)];omega
def uL(f:Nat):∀l:cE,blankL f l<=l.length:=by
 induction f with
 |zero=>intro l;simp[blankL]
 |succ f a=>
  intro l;cases l with
  |nil=>simp[blankL]
  |cons c r=>
   rw[nA];split
   ·have:=a r;simp;omega
   ·split
    ·have b:=a ((c::r).drop (bL eL (c::r)));have d:=kK eL (c::r);rw[o7] at b;omega
    ·omega
def CS(f:Nat):∀(g:Nat) (l:cE),l.length<=f->l.length<=g->blankL f l=blankL g l:=by
 induction f with
 |zero=>
  intro g l h _;obtain rfl:l=[]:=i7 (by omega)
  cases g<;>rfl
 |succ f b=>
  intro g l e d;cases l with
  |nil=>cases g<;>rfl
  |cons c r=>
   cases g with
   |zero=>simp at d
   |succ g=>
    rw[nA,nA];simp only[Y9] at e d;rw[b g r (by omega) (by omega)]
    by_cases a:cS (c::r) [47,47]=true
    ·have i:=AP c r a;rw[b g ((c::r).drop (bL eL (c::r))) (by rw[o7,Y9];omega) (by rw[o7,Y9];omega)]
    ·simp only[a];rfl
def rM(l:cE)(b:Bool):(gP l b).size=bL (eK b) l:=by
 unfold gP;split<;>rfl
def tI(l:cE)(h:(cA l).ok=true):1<=(cA l).size/\(cA l).size<=l.length:=by
 cases l with
 |nil=>simp[cA] at h
 |cons c r=>
  rw[cA] at h ⊢
  split
  ·rename_i b;rw[rM];refine⟨?_,kK _ _⟩
   rw[bL,if_pos (by
    revert b;unfold eK
    cases eI c<;>cases fI c<;>simp)]
   omega
  ·rename_i b;rw[if_neg b] at h;split
   ·rename_i a;rw[if_pos a] at h;have d:(decide (r[bL fH r]?=some 34) && decide (bL fH r<=100))=true:=h;rw[j3,decide_eq_true_eq] at d
    have f:bL fH r<r.length:=by
     by_cases j:bL fH r<r.length
     ·exact j
     ·rw[j8 (by omega)] at d;exact absurd d.1 (by simp)
    show 1<=bL fH r+2/\bL fH r+2<=(c::r).length
    rw[Y9];omega
   ·rename_i a;rw[if_neg a] at h;unfold gO at h ⊢
    cases e:cR.find? (fun o=>cS (c::r) o) with
    |none=>rw[e] at h;simp at h
    |some o=>
     have i:=List.find?_some e;have g:=r9 e;refine⟨?_,kV i⟩;have:∀o∈cR,1<=o.length:=by decide
     exact this o g
def iK(ts:List aX):Except Nat (List aX)->Except Nat (List aX)
 |.ok l=>.ok (ts++l)
 |.error n=>.error n
def BC(x:Except Nat (List aX)):iK [] x=x:=by cases x<;>rfl
def yM(ts:List aX)(t:aX)(x:Except Nat (List aX)):iK (ts++[t]) x=iK ts (iK [t] x):=by cases x<;>simp[iK]
def lX(f:Nat)(a l:cE)(h:l.length=0):eP (f+1) a l=.ok [{ sort:=101,text:=[],line:=bB a }]:=by
 rw[eP,if_pos h]
def lY(f:Nat)(a l:cE)(h:¬l.length=0)(b:(cA l).ok=false):eP (f+1) a l=.error (bB a):=by
 rw[eP,if_neg h,if_neg (by rw[b];simp)]
def lO(f:Nat)(a l:cE)(h:¬l.length=0)(c:(cA l).ok=true)(m:Nat)(b:m=(cA l).size+blankL l.length (l.drop (cA l).size)):
 eP (f+1) a l=iK [{ sort:=(cA l).sort,text:=(cA l).text,line:=bB a }] (eP f (a++l.take m) (l.drop m)):=by
 rw[eP,if_neg h,if_pos c,<-b];cases eP f (a++l.take m) (l.drop m)<;>rfl
structure aC where
 op:cE
 line:Nat
 text:cE
 kids:List aC
def aR(ts:List aX)(p:Nat):aX:=ts[p]?.getD { sort:=101,text:=[],line:=0 }
def aV(ts:List aX)(p:Nat)(x:cE):Bool:=((aR ts p).sort==112 || (aR ts p).sort==107) && (aR ts p).text==x
abbrev bX(α:Type):=Except Nat (α × Nat)
def bad{α:Type}(ts:List aX)(p:Nat):bX α:=.error (aR ts p).line
def cB(x:cE):Nat:=
 if x==[124,124] then 0
 else if x==[38,38] then 1
 else if x==[61,61] || (x==[33,61] || (x==[60] || x==[60,61])) then 2
 else if x==[43] || x==[45] then 3
 else if x==[42] || (x==[47] || x==[37]) then 4
 else 9
def dN(E:Nat->bX aC)(ts:List aX):Nat->Nat->List aC->bX (List aC)
 |0,_,_=>.error 0
 |g+1,p,acc=>
  match E p with
  |.error l=>.error l
  |.ok (a,q)=>if aV ts q [44] then dN E ts g (q+1) (acc++[a]) else .ok (acc++[a],q)
def iB(E:Nat->bX aC)(ts:List aX)(p:Nat)(shut:cE):bX (List aC):=
 if aV ts p shut then .ok ([],p) else dN E ts (ts.length+1) p []
def aM{α:Type}(ts:List aX)(x:cE):bX α->bX α
 |.error l=>.error l
 |.ok (a,q)=>if aV ts q x then .ok (a,q+1) else bad ts q
def eR(E:Nat->bX aC)(ts:List aX)(p:Nat)(opens shut:cE):bX (List aC):=
 if aV ts p opens then aM ts shut (iB E ts (p+1) shut) else bad ts p
def bZ{α β:Type}(f:α->β):bX α->bX β
 |.error l=>.error l
 |.ok (a,q)=>.ok (f a,q)
def bR{α β:Type}(x:bX α)(f:α->Nat->bX β):bX β:=
 match x with
 |.error l=>.error l
 |.ok (a,q)=>f a q
def aS(op:cE)(line:Nat)(text:cE)(kids:List aC):aC:={ op:=op,line:=line,text:=text,kids:=kids }
def eA(E:Nat->bX aC)(ts:List aX)(p:Nat):bX aC:=
 if (aR ts p).sort==48 || (aR ts p).sort==115 then .ok (aS [UInt8.ofNat (aR ts p).sort] (aR ts p).line (aR ts p).text [],p+1)
 else if aV ts p [116,114,117,101] || aV ts p [102,97,108,115,101] then .ok (aS [98,111,111,108] (aR ts p).line (aR ts p).text [],p+1)
 else if aV ts p [40] then aM ts [41] (E (p+1))
 else if aV ts p [91] then bZ (aS [108,105,115,116] (aR ts p).line (aR ts p).text) (eR E ts p [91] [93])
 else if (aR ts p).sort==110 then
  if aV ts (p+1) [40] then bZ (aS [99,97,108,108] (aR ts p).line (aR ts p).text) (eR E ts (p+1) [40] [41])
  else .ok (aS [110,97,109,101] (aR ts p).line (aR ts p).text [],p+1)
 else bad ts p
def dC(E:Nat->bX aC)(ts:List aX):Nat->aC->Nat->bX aC
 |0,_,_=>.error 0
 |g+1,n,p=>
  if aV ts p [91] then
   match aM ts [93] (E (p+1)) with
   |.error l=>.error l
   |.ok (i,q)=>dC E ts g (aS [105,110,100,101,120] (aR ts p).line [] [n,i]) q
  else .ok (n,p)
def eO(E:Nat->bX aC)(ts:List aX):Nat->Nat->bX aC
 |0,_=>.error 0
 |g+1,p=>
  if aV ts p [45] then bZ (fun x=>aS [45,120] (aR ts p).line [] [x]) (eO E ts g (p+1))
  else if aV ts p [33] then bZ (fun x=>aS [33,120] (aR ts p).line [] [x]) (eO E ts g (p+1))
  else bR (eA E ts p) (dC E ts (ts.length+1))
def bF(L:Nat->bX aC)(ts:List aX)(k:Nat):Nat->aC->Nat->bX aC
 |0,_,_=>.error 0
 |g+1,n,q=>
  if (aR ts q).sort==112 && cB (aR ts q).text==k then
   match L (q+1) with
   |.error l=>.error l
   |.ok (r,q2)=>if k=2 then .ok (aS (aR ts q).text (aR ts q).line [] [n,r],q2) else bF L ts k g (aS (aR ts q).text (aR ts q).line [] [n,r]) q2
  else .ok (n,q)
def fX(E:Nat->bX aC)(ts:List aX):Nat->Nat->bX aC
 |0,p=>eO E ts (ts.length+1) p
 |j+1,p=>bR (fX E ts j p) (bF (fX E ts j) ts (4-j) (ts.length+1))
def fK(ts:List aX):Nat->Nat->bX aC
 |0,_=>.error 0
 |f+1,p=>fX (fK ts f) ts 5 p
def eX(E:Nat->bX aC)(ts:List aX):Nat->Nat->List aC->bX (List aC)
 |0,_,_=>.error 0
 |g+1,p,acc=>
  if aV ts p [91] then
   match aM ts [93] (E (p+1)) with
   |.error l=>.error l
   |.ok (i,q)=>eX E ts g q (acc++[i])
  else .ok (acc,p)
def eW(E:Nat->bX aC)(ts:List aX)(p:Nat):bX aC:=
 if (aR ts p).sort==110 then
  if aV ts (p+1) [40] then
   aM ts [59] (bZ (fun l=>aS [100,111] (aR ts p).line (aR ts p).text [aS [99,97,108,108] (aR ts p).line (aR ts p).text l]) (eR E ts (p+1) [40] [41]))
  else
   bR (aM ts [61] (eX E ts (ts.length+1) (p+1) [])) fun idx q=>
    aM ts [59] (bZ (fun v=>aS [115,101,116] (aR ts p).line (aR ts p).text (idx++[v])) (E q))
 else bad ts p
def oD(E:Nat->bX aC)(ts:List aX)(p:Nat):bX aC:=
 if (aR ts (p+1)).sort==110 then
  if aV ts (p+2) [61] then
   aM ts [59] (bZ (fun v=>aS [118,97,114] (aR ts p).line [] [aS [116,97,114,103,101,116] (aR ts (p+1)).line (aR ts (p+1)).text [],v]) (E (p+3)))
  else bad ts (p+2)
 else bad ts (p+1)
def qH(E B:Nat->bX aC)(ts:List aX)(p:Nat):bX aC:=
 bR (E (p+1)) fun c q=>bR (B q) fun b q2=>
  if aV ts q2 [101,108,115,101] then bZ (fun d=>aS [105,102] (aR ts p).line [] [c,b,d]) (B (q2+1))
  else .ok (aS [105,102] (aR ts p).line [] [c,b],q2)
def kE(E B:Nat->bX aC)(ts:List aX)(p:Nat):bX aC:=
 bR (E (p+1)) fun c q=>bZ (fun b=>aS [119,104,105,108,101] (aR ts p).line [] [c,b]) (B q)
def gX(E:Nat->bX aC)(ts:List aX)(p:Nat):bX aC:=
 if aV ts (p+1) [59] then .ok (aS [114,101,116,117,114,110] (aR ts p).line [] [],p+2)
 else aM ts [59] (bZ (fun v=>aS [114,101,116,117,114,110] (aR ts p).line [] [v]) (E (p+1)))
def iR(E:Nat->bX aC)(ts:List aX)(p:Nat):bX aC:=
 aM ts [59] (bZ (fun v=>aS [112,114,105,110,116] (aR ts p).line [] [v]) (E (p+1)))
def iZ(E B:Nat->bX aC)(ts:List aX)(p:Nat):bX aC:=
 if aV ts p [118,97,114] then oD E ts p
 else if aV ts p [105,102] then qH E B ts p
 else if aV ts p [119,104,105,108,101] then kE E B ts p
 else if aV ts p [114,101,116,117,114,110] then gX E ts p
 else if aV ts p [112,114,105,110,116] then iR E ts p
 else eW E ts p
def dP(S:Nat->bX aC)(ts:List aX):Nat->Nat->List aC->bX (List aC)
 |0,_,_=>.error 0
 |g+1,p,acc=>
  if aV ts p [125] then .ok (acc,p)
  else
   match S p with
   |.error l=>.error l
   |.ok (s,q)=>dP S ts g q (acc++[s])
def iV(E:Nat->bX aC)(ts:List aX):Nat->Nat->bX aC
 |0,_=>.error 0
 |f+1,p=>
  if aV ts p [123] then
   bZ (aS [98,108,111,99,107] (aR ts p).line []) (aM ts [125] (dP (iZ E (iV E ts f) ts) ts (ts.length+1) (p+1) []))
  else bad ts p
def cX(ts:List aX):Nat->Nat->List aC->bX (List aC)
 |0,_,_=>.error 0
 |g+1,p,acc=>
  if (aR ts p).sort==110 then
   if aV ts (p+1) [44] then cX ts g (p+2) (acc++[aS [112,97,114,97,109] (aR ts p).line (aR ts p).text []])
   else .ok (acc++[aS [112,97,114,97,109] (aR ts p).line (aR ts p).text []],p+1)
  else bad ts p
def gZ(ts:List aX)(p:Nat):bX (List aC):=
 aM ts [41] (if aV ts p [41] then .ok ([],p) else cX ts (ts.length+1) p [])
def jV(B:Nat->bX aC)(ts:List aX)(p:Nat):bX aC:=
 if aV ts p [102,117,110,99] then
  if (aR ts (p+1)).sort==110 then
   if aV ts (p+2) [40] then
    bR (gZ ts (p+3)) fun l q=>bZ (fun b=>aS [102,117,110,99] (aR ts (p+1)).line (aR ts (p+1)).text (l++[b])) (B q)
   else bad ts (p+2)
  else bad ts (p+1)
 else bad ts p
def eY(F:Nat->bX aC)(ts:List aX):Nat->Nat->List aC->bX (List aC)
 |0,_,_=>.error 0
 |g+1,p,acc=>
  if (aR ts p).sort==101 then .ok (acc,p)
  else
   match F p with
   |.error l=>.error l
   |.ok (s,q)=>eY F ts g q (acc++[s])
def lT(ts:List aX):bX (List aC):=
 eY (jV (iV (fK ts (ts.length+1)) ts (ts.length+1)) ts) ts (ts.length+1) 0 []
structure bT(ts:List aX):Prop where
 next:∀p,p<ts.length->(aR ts p).sort≠101->p+1<ts.length
 line:∀p,p<ts.length->(aR ts p).line≠0
structure cQ{α:Type}(N p:Nat)(r:bX α):Prop where
 er:∀l,r=.error l->l≠0
 ok:∀a q,r=.ok (a,q)->p<q/\q<N
structure fE{α:Type}(N p:Nat)(r:bX α):Prop where
 er:∀l,r=.error l->l≠0
 ok:∀a q,r=.ok (a,q)->p<=q/\q<N
def cQ.weak{b:Type}{N p:Nat}{r:bX b}(h:cQ N p r):fE N p r:=⟨h.er,fun a q e=>by have:=h.ok a q e;omega⟩
def fE.ne{a:Type}{N p:Nat}{r:bX a}(h:fE N p r):r≠.error 0:=fun e=>h.er 0 e rfl
def cQ.low{c:Type}{N p b:Nat}{r:bX c}(h:cQ N p r)(d:b<=p):cQ N b r:=⟨h.er,fun a q e=>by have:=h.ok a q e;omega⟩
def fE.low{c:Type}{N p b:Nat}{r:bX c}(h:fE N p r)(d:b<p):cQ N b r:=⟨h.er,fun a q e=>by have:=h.ok a q e;omega⟩
def cQ.of_ok{b:Type}{N p q:Nat}(a:b)(h:p<q)(c:q<N):cQ N p (.ok (a,q):bX b):=⟨(fun l e=>by cases e),fun d f e=>by cases e;exact⟨h,c⟩⟩
def fE.of_ok{b:Type}{N p q:Nat}(a:b)(h:p<=q)(c:q<N):fE N p (.ok (a,q):bX b):=⟨(fun l e=>by cases e),fun d f e=>by cases e;exact⟨h,c⟩⟩
def cQ.map{b c:Type}{N p:Nat}{r:bX b}(f:b->c)(h:cQ N p r):cQ N p (bZ f r):=by
 cases r with
 |error l=>exact⟨fun i e=>by cases e;exact h.er _ rfl,fun a q e=>by cases e⟩
 |ok d=>obtain⟨a,q⟩:=d;exact⟨(fun l e=>by cases e),fun g j e=>by cases e;exact h.ok _ _ rfl⟩
def bT.isT{ts:List aX}(T:bT ts){p:Nat}{x:cE}(a:p<ts.length)(h:aV ts p x=true):p+1<ts.length:=by
 refine T.next p a fun e=>?_
 unfold aV at h;rw[e] at h;simp at h
def bT.bad{ts:List aX}(T:bT ts){d:Type}{p c:Nat}(b:p<ts.length):cQ ts.length c (bad ts p:bX d):=⟨fun l e=>by cases e;exact T.line p b,fun a q e=>by cases e⟩
def bT.take{ts:List aX}(T:bT ts){d:Type}{p:Nat}{x:cE}{r:bX d}(h:cQ ts.length p r):cQ ts.length p (aM ts x r):=by
 cases r with
 |error l=>exact⟨fun g e=>by cases e;exact h.er _ rfl,fun a q e=>by cases e⟩
 |ok c=>
  obtain⟨a,q⟩:=c;have b:=h.ok a q rfl;unfold aM;simp only;split
  ·rename_i f;exact cQ.of_ok a (by omega) (T.isT b.2 f)
  ·exact T.bad b.2
def bT.takeW{ts:List aX}(T:bT ts){d:Type}{p:Nat}{x:cE}{r:bX d}(h:fE ts.length p r):cQ ts.length p (aM ts x r):=by
 cases r with
 |error l=>exact⟨fun g e=>by cases e;exact h.er _ rfl,fun a q e=>by cases e⟩
 |ok c=>
  obtain⟨a,q⟩:=c;have b:=h.ok a q rfl;unfold aM;simp only;split
  ·rename_i f;exact cQ.of_ok a (by omega) (T.isT b.2 f)
  ·exact T.bad b.2
def bT.listLoop{ts:List aX}(T:bT ts){E:Nat->bX aC}{p0:Nat}(h:∀q,p0<q->q<ts.length->cQ ts.length q (E q)):∀(g p:Nat) (acc:List aC),p0<p->p<ts.length->ts.length<=p+g->cQ ts.length p (dN E ts g p acc)
 |0,p,acc,_,c,i=>by omega
 |g+1,p,acc,j,c,i=>by
  have d:=h p j c;rw[dN];cases f:E p with
  |error l=>exact⟨fun n e=>by cases e;exact d.er _ f,fun a q e=>by cases e⟩
  |ok k=>
   obtain⟨a,q⟩:=k;have b:=d.ok a q f;simp only;split
   ·rename_i m;have:=T.isT b.2 m;exact(bT.listLoop T h g (q+1) (acc++[a]) (by omega) this (by omega)).low (by omega)
   ·exact cQ.of_ok _ b.1 b.2
def bT.listIn{ts:List aX}(T:bT ts){E:Nat->bX aC}{p0:Nat}(c:∀q,p0<q->q<ts.length->cQ ts.length q (E q)){p:Nat}(b:p0<p)(a:p<ts.length)(y:cE):fE ts.length p (iB E ts p y):=by
 unfold iB;split
 ·exact fE.of_ok _ dH a
 ·exact(T.listLoop c (ts.length+1) p [] b a (by omega)).weak
def bT.listP{ts:List aX}(T:bT ts){E:Nat->bX aC}{p0:Nat}(b:∀q,p0<q->q<ts.length->cQ ts.length q (E q)){p:Nat}(d:p0<=p)(a:p<ts.length)(x y:cE):cQ ts.length p (eR E ts p x y):=by
 unfold eR;split
 ·rename_i c;have:=T.isT a c;exact(T.takeW (T.listIn b (p:=p+1) (by omega) this y)).low (by omega)
 ·exact T.bad a
def bT.primary{ts:List aX}(T:bT ts){E:Nat->bX aC}{p0:Nat}(c:∀q,p0<q->q<ts.length->cQ ts.length q (E q)){p:Nat}(f:p0<=p)(b:p<ts.length):cQ ts.length p (eA E ts p):=by
 unfold eA;split
 ·rename_i a;refine cQ.of_ok _ (by omega) (T.next p b fun e=>?_)
  rw[e] at a;simp at a
 split
 ·rename_i a;refine cQ.of_ok _ (by omega) ?_
  rcases Bool.or_eq_true_iff.1 a with a|a
  ·exact T.isT b a
  ·exact T.isT b a
 split
 ·rename_i a;have:=T.isT b a;exact T.take ((c (p+1) (by omega) this).low (by omega))
 split
 ·exact(T.listP c f b _ _).map _
 split
 ·rename_i a;have d:p+1<ts.length:=T.next p b fun e=>by rw[e] at a;simp at a
  split
  ·exact((T.listP c (p:=p+1) (by omega) d _ _).low (by omega)).map _
  ·exact cQ.of_ok _ (by omega) d
 ·exact T.bad b
def bT.index{ts:List aX}(T:bT ts){E:Nat->bX aC}{p0:Nat}(f:∀q,p0<q->q<ts.length->cQ ts.length q (E q)):∀(g:Nat) (n:aC) (p:Nat),p0<=p->p<ts.length->ts.length<=p+g->fE ts.length p (dC E ts g n p)
 |0,n,p,_,b,h=>by omega
 |g+1,n,p,r,b,h=>by
  rw[dC];split
  ·rename_i m;have k:=T.isT b m;have c:=T.take (x:=[93]) (f (p+1) (by omega) k)
   cases d:aM ts [93] (E (p+1)) with
   |error l=>exact⟨fun s e=>by cases e;exact c.er _ d,fun a q e=>by cases e⟩
   |ok o=>
    obtain⟨i,q⟩:=o;have j:=c.ok i q d;exact((bT.index T f g _ q (by omega) j.2 (by omega)).low (by omega:p<q)).weak
  ·exact fE.of_ok _ dH b
def bT.bind{ts:List aX}(_T:bT ts){c d:Type}{p:Nat}{r:bX c}{f:c->Nat->bX d}(h:cQ ts.length p r)(g:∀a q,p<q->q<ts.length->fE ts.length q (f a q)):cQ ts.length p (bR r f):=by
 cases r with
 |error l=>exact⟨fun j e=>by cases e;exact h.er _ rfl,fun a q e=>by cases e⟩
 |ok i=>
  obtain⟨a,q⟩:=i;have b:=h.ok a q rfl;exact(g a q b.1 b.2).low b.1
def bT.unary{ts:List aX}(T:bT ts){E:Nat->bX aC}{p0:Nat}(c:∀q,p0<q->q<ts.length->cQ ts.length q (E q)):∀(g p:Nat),p0<=p->p<ts.length->ts.length<=p+g->cQ ts.length p (eO E ts g p)
 |0,p,_,b,i=>by omega
 |g+1,p,j,b,i=>by
  rw[eO];split
  ·rename_i e;have d:=T.isT b e;exact((bT.unary T c g (p+1) (by omega) d (by omega)).low (by omega)).map _
  split
  ·rename_i e;have d:=T.isT b e;exact((bT.unary T c g (p+1) (by omega) d (by omega)).low (by omega)).map _
  ·exact T.bind (T.primary c j b) fun a q h f=>T.index c _ a q (by omega) f (by omega)
def bT.levelLoop{ts:List aX}(T:bT ts){L:Nat->bX aC}{p0 k:Nat}(h:∀q,p0<=q->q<ts.length->cQ ts.length q (L q)):∀(g:Nat) (n:aC) (q:Nat),p0<=q->q<ts.length->ts.length<=q+g->fE ts.length q (bF L ts k g n q)
 |0,n,q,_,b,o=>by omega
 |g+1,n,q,s,b,o=>by
  rw[bF];split
  ·rename_i i;have p:q+1<ts.length:=T.next q b fun e=>by rw[e] at i;simp at i
   have f:=h (q+1) (by omega) p
   cases j:L (q+1) with
   |error l=>exact⟨fun t e=>by cases e;exact f.er _ j,fun a q e=>by cases e⟩
   |ok m=>
    obtain⟨r,c⟩:=m;have d:=f.ok r c j;simp only;split
    ·exact fE.of_ok _ (by omega) d.2
    ·exact((bT.levelLoop T h g _ c (by omega) d.2 (by omega)).low (by omega:q<c)).weak
  ·exact fE.of_ok _ dH b
def bT.level{ts:List aX}(T:bT ts){E:Nat->bX aC}{p0:Nat}(d:∀q,p0<q->q<ts.length->cQ ts.length q (E q)):∀(j p:Nat),p0<=p->p<ts.length->cQ ts.length p (fX E ts j p)
 |0,p,c,b=>T.unary d _ p c b (by omega)
 |j+1,p,c,b=>by
  rw[fX];exact T.bind (bT.level T d j p c b) fun a q f e=>T.levelLoop (p0:=p0) (fun q c b=>bT.level T d j q c b) _ a q (by omega) e (by omega)
def bT.expr{ts:List aX}(T:bT ts):∀(f p:Nat),p<ts.length->ts.length<=p+f->cQ ts.length p (fK ts f p)
 |0,p,b,d=>by omega
 |f+1,p,b,d=>by
  rw[fK];exact T.level (p0:=p) (fun q c a=>bT.expr T f q a (by omega)) 5 p dH b
def bT.exprs{ts:List aX}(T:bT ts):∀q,q<ts.length->cQ ts.length q (fK ts (ts.length+1) q):=fun q a=>T.expr _ q a (by omega)
def bT.setLoop{ts:List aX}(T:bT ts){E:Nat->bX aC}(f:∀q,q<ts.length->cQ ts.length q (E q)):∀(g p:Nat) (acc:List aC),p<ts.length->ts.length<=p+g->fE ts.length p (eX E ts g p acc)
 |0,p,acc,b,h=>by omega
 |g+1,p,acc,b,h=>by
  rw[eX];split
  ·rename_i m;have k:=T.isT b m;have c:=T.take (x:=[93]) (f (p+1) k);cases d:aM ts [93] (E (p+1)) with
   |error l=>exact⟨fun o e=>by cases e;exact c.er _ d,fun a q e=>by cases e⟩
   |ok n=>
    obtain⟨i,q⟩:=n;have j:=c.ok i q d;exact((bT.setLoop T f g q _ j.2 (by omega)).low (by omega:p<q)).weak
  ·exact fE.of_ok _ dH b
def bT.simple{ts:List aX}(T:bT ts){E:Nat->bX aC}(b:∀q,q<ts.length->cQ ts.length q (E q)){p:Nat}(d:p<ts.length):cQ ts.length p (eW E ts p):=by
 unfold eW;split
 ·rename_i f;have c:p+1<ts.length:=T.next p d fun e=>by rw[e] at f;simp at f
  split
  ·exact T.take (((T.listP (p0:=p) (fun q _ a=>b q a) (p:=p+1) (by omega) c _ _).low (by omega)).map _)
  ·exact T.bind ((T.takeW (T.setLoop b _ (p+1) [] c (by omega))).low (by omega)) fun g q _ a=>(T.take ((b q a).map _)).weak
 ·exact T.bad d
def bT.stmt{ts:List aX}(T:bT ts){E B:Nat->bX aC}{p:Nat}(j:∀q,q<ts.length->cQ ts.length q (E q))(o:∀q,p<q->q<ts.length->cQ ts.length q (B q))(i:p<ts.length):cQ ts.length p (iZ E B ts p):=by
 unfold iZ;split
 ·rename_i d;have a:=T.isT i d;unfold oD;split
  ·rename_i f;have l:p+2<ts.length:=T.next (p+1) a fun e=>by rw[e] at f;simp at f
   split
   ·rename_i m;have s:p+3<ts.length:=T.isT l m;exact T.take (((j (p+3) s).low (by omega)).map _)
   ·exact T.bad l
  ·exact T.bad a
 split
 ·rename_i d;have a:=T.isT i d;unfold qH;refine T.bind ((j (p+1) a).low (by omega)) fun c q g h=>(T.bind (o q g h) fun b u t k=>?_).weak
  split
  ·rename_i r;have:=T.isT k r;exact(((o (u+1) (by omega) this).low (by omega)).map _).weak
  ·exact fE.of_ok _ dH k
 split
 ·rename_i d;have a:=T.isT i d;unfold kE;exact T.bind ((j (p+1) a).low (by omega)) fun c q g h=>((o q g h).map _).weak
 split
 ·rename_i d;have a:=T.isT i d;unfold gX;split
  ·rename_i n;exact cQ.of_ok _ (by omega) (T.isT a n)
  ·exact T.take (((j (p+1) a).low (by omega)).map _)
 split
 ·rename_i d;have a:=T.isT i d;unfold iR;exact T.take (((j (p+1) a).low (by omega)).map _)
 ·exact T.simple j i
def bT.blockLoop{ts:List aX}(_T:bT ts){S:Nat->bX aC}{p0:Nat}(d:∀q,p0<q->q<ts.length->cQ ts.length q (S q)):∀(g p:Nat) (acc:List aC),p0<p->p<ts.length->ts.length<=p+g->fE ts.length p (dP S ts g p acc)
 |0,p,acc,_,b,h=>by omega
 |g+1,p,acc,i,b,h=>by
  rw[dP];split
  ·exact fE.of_ok _ dH b
  ·have c:=d p i b;cases f:S p with
   |error l=>exact⟨fun m e=>by cases e;exact c.er _ f,fun a q e=>by cases e⟩
   |ok k=>
    obtain⟨s,q⟩:=k;have j:=c.ok s q f;exact((bT.blockLoop _T d g q _ (by omega) j.2 (by omega)).low (by omega:p<q)).weak
def bT.block{ts:List aX}(T:bT ts){E:Nat->bX aC}(d:∀q,q<ts.length->cQ ts.length q (E q)):∀(f p:Nat),p<ts.length->ts.length<=p+f->cQ ts.length p (iV E ts f p)
 |0,p,a,h=>by omega
 |f+1,p,a,h=>by
  rw[iV];split
  ·rename_i j;have e:=T.isT a j;refine((T.takeW (T.blockLoop (p0:=p) (fun q g c=>T.stmt d (fun i k b=>bT.block T d f i b (by omega)) c) _ (p+1) [] (by omega) e (by omega))).low (by omega)).map _
  ·exact T.bad a
def bT.paramLoop{ts:List aX}(T:bT ts):∀(g p:Nat) (acc:List aC),p<ts.length->ts.length<=p+g->cQ ts.length p (cX ts g p acc)
 |0,p,acc,b,h=>by omega
 |g+1,p,acc,b,h=>by
  rw[cX];split
  ·rename_i f;have d:p+1<ts.length:=T.next p b fun e=>by rw[e] at f;simp at f
   split
   ·rename_i a;have c:p+2<ts.length:=T.isT d a;exact(bT.paramLoop T g (p+2) _ c (by omega)).low (by omega)
   ·exact cQ.of_ok _ (by omega) d
  ·exact T.bad b
def bT.func{ts:List aX}(T:bT ts){B:Nat->bX aC}(j:∀q,q<ts.length->cQ ts.length q (B q)){p:Nat}(h:p<ts.length):cQ ts.length p (jV B ts p):=by
 unfold jV;split
 ·rename_i k;have g:=T.isT h k;split
  ·rename_i a;have d:p+2<ts.length:=T.next (p+1) g fun e=>by rw[e] at a;simp at a
   split
   ·rename_i f;have c:p+3<ts.length:=T.isT d f
    have b:cQ ts.length (p+3) (gZ ts (p+3)):=by
     unfold gZ;refine T.takeW ?_;split
     ·exact fE.of_ok _ dH c
     ·exact(T.paramLoop _ (p+3) [] c (by omega)).weak
    exact T.bind (b.low (by omega)) fun l q _ i=>((j q i).map _).weak
   ·exact T.bad d
  ·exact T.bad g
 ·exact T.bad h
def bT.progLoop{ts:List aX}(_T:bT ts){F:Nat->bX aC}(c:∀q,q<ts.length->cQ ts.length q (F q)):∀(g p:Nat) (acc:List aC),p<ts.length->ts.length<=p+g->fE ts.length p (eY F ts g p acc)
 |0,p,acc,b,h=>by omega
 |g+1,p,acc,b,h=>by
  rw[eY];split
  ·exact fE.of_ok _ dH b
  ·have d:=c p b;cases f:F p with
   |error l=>exact⟨fun k e=>by cases e;exact d.er _ f,fun a q e=>by cases e⟩
   |ok j=>
    obtain⟨s,q⟩:=j;have i:=d.ok s q f;exact((bT.progLoop _T c g q _ i.2 (by omega)).low (by omega:p<q)).weak
def bT.prog{ts:List aX}(T:bT ts)(h:0<ts.length):lT ts≠.error 0:=
 (T.progLoop (fun q a=>T.func (fun c b=>T.block (fun q a=>T.exprs q a) _ c b (by omega)) a) _ 0 [] h (by omega)).ne
structure qP(ts:List aX):Prop where
 some_:0<ts.length
 last:(aR ts (ts.length-1)).sort=101
 line:∀p,p<ts.length->(aR ts p).line≠0
def oV(t:aX)(ts:List aX)(p:Nat):aR (t::ts) (p+1)=aR ts p:=by simp[aR]
def GW(f:Nat):∀(a l:cE) (ts:List aX),eP f a l=.ok ts->qP ts/\ts.length<=f:=by
 induction f with
 |zero=>intro a l ts h;cases h
 |succ f j=>
  intro a l ts h;by_cases d:l.length=0
  ·rw[lX _ _ _ d] at h;cases h;refine⟨⟨by simp,rfl,fun p c=>?_⟩,by simp⟩
   obtain rfl:p=0:=by simp at c;omega
   show bB a≠0
   unfold bB;omega
  ·cases i:(cA l).ok
   ·rw[lY _ _ _ d i] at h;cases h
   ·rw[lO _ _ _ d i _ rfl] at h;cases g:eP f (a++l.take ((cA l).size+blankL l.length (l.drop (cA l).size))) (l.drop ((cA l).size+blankL l.length (l.drop (cA l).size))) with
    |error n=>rw[g] at h;cases h
    |ok b=>
     rw[g] at h;cases h;obtain⟨e,k⟩:=j _ _ b g;refine⟨⟨by simp,?_,fun p c=>?_⟩,by simp;omega⟩
     ·have:=e.some_;show (aR (_::b) ((_::b).length-1)).sort=101
      rw[Y9,show b.length+1-1=(b.length-1)+1 by omega,oV]
      exact e.last
     ·cases p with
      |zero=>show bB a≠0;unfold bB;omega
      |succ p=>
       show (aR (_::b) (p+1)).line≠0
       rw[oV];exact e.line p (by simpa using c)
def qP.ok{ts:List aX}(h:qP ts):bT ts:=
 ⟨fun p b a=>by
   by_cases e:p=ts.length-1
   ·subst e;exact absurd h.last a
   ·omega,h.line⟩
def rN{l:cE}{ts:List aX}(h:gM l=.ok ts):qP ts/\ts.length<=l.length+1:=GW _ _ _ _ h
def dA(l:cE):Except (Nat × Nat) (List aC):=
 if 2000<l.length then .error (1,0)
 else match dU l.length l 0 with
  |some k=>.error (2,bB (l.take k))
  |none=>
   match gM l with
   |.error n=>.error (3,n)
   |.ok ts=>
    match lT ts with
    |.error n=>.error (4,n)
    |.ok (ks,_)=>.ok ks
structure aZ where
 seen:cO
 kind:Nat
 line:Nat
def aZ.found(s:aZ)(line kind:Nat):aZ:=if s.kind=0 then { s with kind:=kind,line:=line } else s
def fY(x:cE):Bool:=x==[108,101,110] || x==[114,101,97,100]
def declaresL(s:aZ)(n:aC):aZ:=if fY n.text || s.seen.contains n.text then s.found n.line 6 else s
def dO(fs:List aC)(name:cE):Option aC:=fs.find? fun f=>f.text==name
def iO(fs:List aC)(alone:Bool)(name:cE):Int:=
 if name==[108,101,110] then 1
 else if name==[114,101,97,100] && !alone then 0
 else match dO fs name with
  |some f=>(f.kids.length:Int)-1
  |none=> -1
def eJ(fs:List aC)(alone:Bool)(s:aZ)(n:aC):aZ:=
 if iO fs alone n.text<0 then s.found n.line 6
 else if iO fs alone n.text≠(n.kids.length:Int) then s.found n.line 7
 else s
def cG(fs:List aC)(alone:Bool)(s:aZ)(n:aC):aZ:=
 if n.op==[115,101,116] || n.op==[110,97,109,101] then (if s.seen.contains n.text then s else s.found n.line 6)
 else if n.op==[99,97,108,108] then eJ fs alone s n
 else s
def aN(fs:List aC)(alone:Bool):Nat->aC->aZ->aZ
 |0,_,s=>s
 |d+1,n,s=>
  if n.op==[118,97,114] then
   match n.kids with
   |t::v::_=>let s1:=aN fs alone d v (declaresL s t);{ s1 with seen:=s1.seen++[t.text] }
   |_=>s
  else
   let s1:=n.kids.foldl (fun s k=>aN fs alone d k s) (cG fs alone s n)
   if n.op==[98,108,111,99,107] then { s1 with seen:=s1.seen.take s.seen.length } else s1
def bY:Nat->aC->Nat
 |0,_=>0
 |d+1,n=>1+(n.kids.map (bY d)).sum
def ZK:Nat->aC->Prop
 |0,_=>True
 |d+1,n=>(n.op=[118,97,114]->2<=n.kids.length)/\∀k∈n.kids,ZK d k
def FineA(m:Nat)(a:aC):Prop:=∀d,bY d a<=m/\ZK d a
def FineL(m:Nat)(l:List aC):Prop:=∀d,(l.map (bY d)).sum<=m/\∀k∈l,ZK d k
def FineA.le{m n:Nat}{a:aC}(h:FineA m a)(b:m<=n):FineA n a:=fun d=>⟨Z4 (h d).1 b,(h d).2⟩
def FineL.le{m n:Nat}{a:List aC}(h:FineL m a)(b:m<=n):FineL n a:=fun d=>⟨Z4 (h d).1 b,(h d).2⟩
def FineL.nil:FineL 0 []:=fun _=>⟨Z7 _,fun _ h=>by cases h⟩
def FineL.snoc{m n:Nat}{l:List aC}{a:aC}(h:FineL m l)(c:FineA n a):FineL (m+n) (l++[a]):=fun d=>by
 refine⟨?_,fun k b=>?_⟩
 ·rw[m6,z6];have f:=(h d).1;have e:=(c d).1;simp;omega
 ·rcases Z2.1 b with b|b
  ·exact(h d).2 k b
  ·rw[Z1.1 b];exact(c d).2
def FineL.one{n:Nat}{a:aC}(b:FineA n a):FineL n [a]:=fun d=>by
 refine⟨?_,fun k c=>?_⟩
 ·have e:=(b d).1;simp;omega
 ·rw[Z1.1 c];exact(b d).2
def FineL.two{m n:Nat}{a b:aC}(c:FineA m a)(d:FineA n b):FineL (m+n) [a,b]:=(FineL.one c).snoc d
def FineL.three{m n k:Nat}{a b c:aC}(d:FineA m a)(e:FineA n b)(f:FineA k c):FineL (m+n+k) [a,b,c]:=(FineL.two d e).snoc f
def FineA.node{m:Nat}{l:List aC}{op a:cE}{b:Nat}(h:FineL m l)(c:op=[118,97,114]->2<=l.length):FineA (m+1) (aS op b a l):=fun d=>by
 cases d with
 |zero=>exact⟨n8 _,trivial⟩
 |succ d=>
  refine⟨?_,c,(h d).2⟩;have:=(h d).1;show 1+(l.map (bY d)).sum<=m+1
  omega
def bJ{α:Type}(P:Nat->α->Prop)(p:Nat)(r:bX α):Prop:=∀a q,r=.ok (a,q)->∃m,p+m<=q/\P m a
def bJ.bad{c:Type}{P:Nat->c->Prop}{p b:Nat}{ts:List aX}:bJ P p (bad ts b):=fun a q h=>by cases h
def bJ.err{b:Type}{P:Nat->b->Prop}{p n:Nat}:bJ P p (.error n):=fun a q h=>by cases h
def bJ.of_ok{b:Type}{P:Nat->b->Prop}{p m q:Nat}{a:b}(c:p+m<=q)(h:P m a):bJ P p (.ok (a,q)):=fun d f e=>by cases e;exact⟨m,c,h⟩
def bJ.take{b:Type}{P:Nat->b->Prop}{p:Nat}{ts:List aX}{x:cE}{r:bX b}(h:bJ P p r):bJ P p (aM ts x r):=by
 cases r with
 |error l=>exact bJ.err
 |ok c=>
  obtain⟨a,q⟩:=c;obtain⟨m,e,d⟩:=h a q rfl;unfold aM;simp only;split
  ·exact bJ.of_ok (by omega) d
  ·exact bJ.bad
def bJ.map{b c:Type}{P:Nat->b->Prop}{Q:Nat->c->Prop}{p d k:Nat}{r:bX b}{f:b->c}(h:bJ P p r)(n:d+k<=p)(i:∀m a,P m a->Q (m+k) (f a)):bJ Q d (bZ f r):=by
 cases r with
 |error l=>exact bJ.err
 |ok g=>
  obtain⟨a,q⟩:=g;obtain⟨m,j,e⟩:=h a q rfl;exact bJ.of_ok (m:=m+k) (by omega) (i m a e)
def bJ.bind{b c:Type}{P:Nat->b->Prop}{Q:Nat->c->Prop}{p d:Nat}{r:bX b}{f:b->Nat->bX c}(h:bJ P p r)(e:∀m a q,P m a->p+m<=q->bJ Q d (f a q)):bJ Q d (bR r f):=by
 cases r with
 |error l=>exact bJ.err
 |ok g=>
  obtain⟨a,q⟩:=g;obtain⟨m,j,i⟩:=h a q rfl;exact e m a q i j
def bJ.low{c:Type}{P:Nat->c->Prop}{p b:Nat}{r:bX c}(h:bJ P p r)(f:b<=p):bJ P b r:=fun a q e=>by
 obtain⟨m,g,d⟩:=h a q e;exact⟨m,by omega,d⟩
section
variable {ts:List aX} {E:Nat->bX aC}
def pN(c:∀q,bJ FineA q (E q)):∀(g p:Nat) (acc:List aC) (m0 p0:Nat),FineL m0 acc->p0+m0<=p->bJ FineL p0 (dN E ts g p acc)
 |0,p,acc,_,_,_,_=>bJ.err
 |g+1,p,acc,m0,p0,d,h=>by
  rw[dN];cases f:E p with
  |error l=>exact bJ.err
  |ok e=>
   obtain⟨a,q⟩:=e;obtain⟨m,i,b⟩:=c p a q f;simp only;split
   ·exact pN c g (q+1) _ (m0+m) p0 (d.snoc b) (by omega)
   ·exact bJ.of_ok (m:=m0+m) (by omega) (d.snoc b)
def pM(a:∀q,bJ FineA q (E q))(p:Nat)(x y:cE):bJ FineL (p+1) (eR E ts p x y):=by
 unfold eR;split
 ·refine bJ.take ?_;unfold iB;split
  ·exact bJ.of_ok (m:=0) (by omega) FineL.nil
  ·exact pN a _ _ _ 0 _ FineL.nil (by omega)
 ·exact bJ.bad
def lJ{op a:cE}{b:Nat}(c:op≠[118,97,114]):FineA 1 (aS op b a []):=FineA.node (m:=0) FineL.nil fun h=>absurd h c
def DQ(b:∀q,bJ FineA q (E q))(p:Nat):bJ FineA p (eA E ts p):=by
 unfold eA;split
 ·exact bJ.of_ok (m:=1) (by omega) (lJ (by simp))
 split
 ·exact bJ.of_ok (m:=1) (by omega) (lJ (by simp))
 split
 ·exact((b (p+1)).take).low (by omega)
 split
 ·exact bJ.map (k:=1) (pM b p _ _) (by omega) fun m a h=>FineA.node h (by simp)
 split
 ·split
  ·exact bJ.map (k:=1) (pM b (p+1) _ _) (by omega) fun m a h=>FineA.node h (by simp)
  ·exact bJ.of_ok (m:=1) (by omega) (lJ (by simp))
 ·exact bJ.bad
def wM(b:∀q,bJ FineA q (E q)):∀(g:Nat) (n:aC) (p m0 p0:Nat),FineA m0 n->p0+m0<=p->bJ FineA p0 (dC E ts g n p)
 |0,n,p,_,_,_,_=>bJ.err
 |g+1,n,p,m0,p0,a,d=>by
  rw[dC];split
  ·have c:=(b (p+1)).take (ts:=ts) (x:=[93]);cases f:aM ts [93] (E (p+1)) with
   |error l=>exact bJ.err
   |ok h=>
    obtain⟨i,q⟩:=h;obtain⟨m,j,e⟩:=c i q f;exact wM b g _ q (m0+m+1) p0 (FineA.node (FineL.two a e) (by simp)) (by omega)
  ·exact bJ.of_ok d a
def pK(b:∀q,bJ FineA q (E q)):∀(g p:Nat),bJ FineA p (eO E ts g p)
 |0,p=>bJ.err
 |g+1,p=>by
  rw[eO];split
  ·exact bJ.map (k:=1) (pK b g (p+1)) (by omega) fun m a h=>FineA.node (FineL.one h) (by simp)
  split
  ·exact bJ.map (k:=1) (pK b g (p+1)) (by omega) fun m a h=>FineA.node (FineL.one h) (by simp)
  ·exact bJ.bind (DQ b p) fun m a q d c=>wM b _ a q m p d c
def oY{L:Nat->bX aC}{k:Nat}(c:∀q,bJ FineA q (L q)):∀(g:Nat) (n:aC) (q m0 p0:Nat),FineA m0 n->p0+m0<=q->bJ FineA p0 (bF L ts k g n q)
 |0,n,q,_,_,_,_=>bJ.err
 |g+1,n,q,m0,p0,b,j=>by
  rw[bF];split
  ·cases o:L (q+1) with
   |error l=>exact bJ.err
   |ok h=>
    obtain⟨r,f⟩:=h;obtain⟨m,p,i⟩:=c _ r f o;have d:∀e a,FineA (m0+m+1) (aS e a [] [n,r]):=fun e a=>FineA.node (FineL.two b i) (by simp)
    simp only;split
    ·exact bJ.of_ok (m:=m0+m+1) (by omega) (d _ _)
    ·exact oY c g _ f (m0+m+1) p0 (d _ _) (by omega)
  ·exact bJ.of_ok j b
def pO(b:∀q,bJ FineA q (E q)):∀(j p:Nat),bJ FineA p (fX E ts j p)
 |0,p=>pK b _ p
 |j+1,p=>by
  rw[fX];exact bJ.bind (pO b j p) fun m a q d c=>oY (fun q=>pO b j q) _ a q m p d c
def AK(ts:List aX):∀(f p:Nat),bJ FineA p (fK ts f p)
 |0,p=>bJ.err
 |f+1,p=>by
  rw[fK];exact pO (fun q=>AK ts f q) 5 p
def rR(b:∀q,bJ FineA q (E q)):∀(g p:Nat) (acc:List aC) (m0 p0:Nat),FineL m0 acc->p0+m0<=p->bJ FineL p0 (eX E ts g p acc)
 |0,p,acc,_,_,_,_=>bJ.err
 |g+1,p,acc,m0,p0,a,d=>by
  rw[eX];split
  ·have c:=(b (p+1)).take (ts:=ts) (x:=[93]);cases f:aM ts [93] (E (p+1)) with
   |error l=>exact bJ.err
   |ok h=>
    obtain⟨i,q⟩:=h;obtain⟨m,j,e⟩:=c i q f;exact rR b g q _ (m0+m) p0 (a.snoc e) (by omega)
  ·exact bJ.of_ok d a
def IF(b:∀q,bJ FineA q (E q))(p:Nat):bJ FineA p (eW E ts p):=by
 unfold eW;split
 ·split
  ·exact bJ.take (bJ.map (k:=2) (pM b (p+1) _ _) (by omega) fun m a h=>FineA.node (FineL.one (FineA.node h (by simp))) (by simp))
  ·refine bJ.bind ((rR b _ (p+1) [] 0 (p+1) FineL.nil (by omega)).take) fun m l q d f=>?_
   exact bJ.take (bJ.map (k:=m+1) (b q) (by omega) fun e v c=>FineA.le (FineA.node (d.snoc c) (by simp)) (by omega))
 ·exact bJ.bad
def QB{B:Nat->bX aC}(a:∀q,bJ FineA q (E q))(h:∀q,bJ FineA q (B q))(p:Nat):bJ FineA p (iZ E B ts p):=by
 unfold iZ;split
 ·unfold oD;split
  ·split
   ·exact bJ.take (bJ.map (k:=2) (a (p+3)) (by omega) fun m v e=>FineA.le (FineA.node (FineL.two (lJ (by simp)) e) (by simp)) (by omega))
   ·exact bJ.bad
  ·exact bJ.bad
 split
 ·unfold qH;refine bJ.bind (a (p+1)) fun m c q f l=>bJ.bind (h q) fun g b o i s=>?_
  split
  ·exact bJ.map (k:=m+g+1) (h (o+1)) (by omega) fun r d j=>FineA.le (FineA.node (FineL.three f i j) (by simp)) (by omega)
  ·exact bJ.of_ok (m:=m+g+1) (by omega) (FineA.node (FineL.two f i) (by simp))
 split
 ·unfold kE;exact bJ.bind (a (p+1)) fun m c q f l=>bJ.map (k:=m+1) (h q) (by omega) fun g b n=>FineA.le (FineA.node (FineL.two f n) (by simp)) (by omega)
 split
 ·unfold gX;split
  ·exact bJ.of_ok (m:=1) (by omega) (lJ (by simp))
  ·exact bJ.take (bJ.map (k:=1) (a (p+1)) (by omega) fun m v e=>FineA.node (FineL.one e) (by simp))
 split
 ·unfold iR;exact bJ.take (bJ.map (k:=1) (a (p+1)) (by omega) fun m v e=>FineA.node (FineL.one e) (by simp))
 ·exact IF a p
def oZ{S:Nat->bX aC}(b:∀q,bJ FineA q (S q)):∀(g p:Nat) (acc:List aC) (m0 p0:Nat),FineL m0 acc->p0+m0<=p->bJ FineL p0 (dP S ts g p acc)
 |0,p,acc,_,_,_,_=>bJ.err
 |g+1,p,acc,m0,p0,a,c=>by
  rw[dP];split
  ·exact bJ.of_ok c a
  ·cases e:S p with
   |error l=>exact bJ.err
   |ok f=>
    obtain⟨s,q⟩:=f;obtain⟨m,h,d⟩:=b p s q e;exact oZ b g q _ (m0+m) p0 (a.snoc d) (by omega)
def wN(a:∀q,bJ FineA q (E q)):∀(f p:Nat),bJ FineA p (iV E ts f p)
 |0,p=>bJ.err
 |f+1,p=>by
  rw[iV];split
  ·exact bJ.map (k:=1) (bJ.take (oZ (fun q=>QB a (fun q=>wN a f q) q) _ (p+1) [] 0 (p+1) FineL.nil (by omega))) (by omega) fun m l h=>FineA.node h (by simp)
  ·exact bJ.bad
def oX:∀(g p:Nat) (acc:List aC) (m0 p0:Nat),FineL m0 acc->p0+m0<=p->bJ FineL p0 (cX ts g p acc)
 |0,p,acc,_,_,_,_=>bJ.err
 |g+1,p,acc,m0,p0,b,c=>by
  have a:FineL (m0+1) (acc++[aS [112,97,114,97,109] (aR ts p).line (aR ts p).text []]):=b.snoc (lJ (by simp))
  rw[cX];split
  ·split
   ·exact oX g (p+2) _ (m0+1) p0 a (by omega)
   ·exact bJ.of_ok (m:=m0+1) (by omega) a
  ·exact bJ.bad
def QD{B:Nat->bX aC}(c:∀q,bJ FineA q (B q))(p:Nat):bJ FineA p (jV B ts p):=by
 unfold jV;split
 ·split
  ·split
   ·have a:bJ FineL (p+3) (gZ ts (p+3)):=by
     unfold gZ;refine bJ.take ?_;split
     ·exact bJ.of_ok (m:=0) (by omega) FineL.nil
     ·exact oX _ (p+3) [] 0 (p+3) FineL.nil (by omega)
    exact bJ.bind a fun m l q d g=>bJ.map (k:=m+1) (c q) (by omega) fun f b e=>FineA.le (FineA.node (d.snoc e) (by simp)) (by omega)
   ·exact bJ.bad
  ·exact bJ.bad
 ·exact bJ.bad
def pL{F:Nat->bX aC}(b:∀q,bJ FineA q (F q)):∀(g p:Nat) (acc:List aC) (m0 p0:Nat),FineL m0 acc->p0+m0<=p->bJ FineL p0 (eY F ts g p acc)
 |0,p,acc,_,_,_,_=>bJ.err
 |g+1,p,acc,m0,p0,a,c=>by
  rw[eY];split
  ·exact bJ.of_ok c a
  ·cases f:F p with
   |error l=>exact bJ.err
   |ok d=>
    obtain⟨s,q⟩:=d;obtain⟨m,h,e⟩:=b p s q f;exact pL b g q _ (m0+m) p0 (a.snoc e) (by omega)
end
def QC(ts:List aX)(T:bT ts)(e:0<ts.length)(ks:List aC)(q:Nat)(h:lT ts=.ok (ks,q)):FineL ts.length ks:=by
 obtain⟨m,f,d⟩:=pL (fun q=>QD (fun b=>wN (fun q=>AK ts _ q) _ b) q) (ts.length+1) 0 [] 0 0 FineL.nil (by omega) ks q h
 have:=(T.progLoop (fun q a=>T.func (fun b c=>T.block (fun q a=>T.exprs q a) _ b c (by omega)) a) _ 0 [] e (by omega)).ok ks q h
 exact d.le (by omega)
def kU{l:cE}{ks:List aC}(h:dA l=.ok ks):FineL 2001 ks:=by
 unfold dA at h;split at h
 ·cases h
 rename_i e;split at h
 ·cases h
 split at h
 ·cases h
 rename_i c d;obtain⟨a,f⟩:=rN d;split at h
 ·cases h
 rename_i q b;cases h;exact(QC c a.ok a.some_ _ _ b).le (by omega)
def fF:Nat->aC->Prop
 |0,_=>False
 |d+1,n=>∀k∈n.kids,fF d k
def nN:∀(m:Nat) (a:aC),FineA m a->fF m a
 |0,a,h=>by
  have:=(h 1).1;simp only[bY] at this;omega
 |m+1,a,h=>fun k b=>nN m k fun d=>by
  have f:=(h (d+1)).1;have e:=(h (d+1)).2.2 k b;refine⟨?_,e⟩
  have:bY d k<=(a.kids.map (bY d)).sum:=by
   have:∀l:List aC,k∈l->bY d k<=(l.map (bY d)).sum:=by
    intro l;induction l with
    |nil=>intro h;cases h
    |cons x l c=>
     intro h;simp only[b9,d9];rcases Z6.1 h with rfl|h
     ·omega
     ·have:=c h;omega
   exact this _ b
  simp only[bY] at f;omega
def eQ(fs:List aC)(d:Nat)(s:aZ)(k:aC):aZ:=
 if k.op==[112,97,114,97,109] then { declaresL s k with seen:=(declaresL s k).seen++[k.text] } else aN fs false d k s
def gD(fs:List aC)(d:Nat)(s:aZ)(n:aC)(first:Bool):aZ:=
 n.kids.foldl (eQ fs d) { (if fY n.text || !first then s.found n.line 6 else s) with seen:=[] }
def fC(fs:List aC)(d:Nat):List aC->List aC->aZ->aZ
 |_,[],s=>s
 |pre,n::rest,s=>fC fs d (pre++[n]) rest (gD fs d s n (dO pre n.text).isNone)
def kM(d:Nat)(ks:List aC):Nat × Nat:=
 match dO ks [109,97,105,110] with
 |none=>(5,0)
 |some m=>if 1<m.kids.length then (5,0) else ((fC ks d [] ks ⟨[],0,0⟩).kind,(fC ks d [] ks ⟨[],0,0⟩).line)
def dQ(l:cE):Nat × Nat:=
 match dA l with
 |.error f=>f
 |.ok ks=>kM 2001 ks
def nV(t:aX):Prop:=t.sort=112\/(t.sort=107/\iT.contains t.text=true)\/t.sort=110\/(t.sort=48/\(dK 0 t.text).isSome=true)\/t.sort=115\/t.sort=101
def CW(ts:List aX):Prop:=∀t∈ts,nV t
def DC(l:cE)(line:Nat)(h:(cA l).ok=true):nV { sort:=(cA l).sort,text:=(cA l).text,line:=line }:=by
 cases l with
 |nil=>simp[cA] at h
 |cons c r=>
  rw[cA] at h ⊢
  split
  ·rename_i a;rw[if_pos a] at h;unfold gP at h ⊢
   split
   ·by_cases b:iT.contains ((c::r).take (bL (eK (fI c)) (c::r)))=true
    ·rw[if_pos b];exact Y3 (Y4 ⟨rfl,b⟩)
    ·rw[if_neg b];exact Y3 (Y3 (Y4 rfl))
   ·rename_i f;rw[if_neg f] at h;exact Y3 (Y3 (Y3 (Y4 ⟨rfl,h⟩)))
  ·rename_i a;rw[if_neg a] at h;split
   ·exact Y3 (Y3 (Y3 (Y3 (Y4 rfl))))
   ·rename_i d;rw[if_neg d] at h;unfold gO at h ⊢
    cases e:cR.find? (fun o=>cS (c::r) o) with
    |none=>rw[e] at h;simp at h
    |some o=>exact Y4 rfl
def PU(f:Nat):∀(a l:cE) (ts:List aX),eP f a l=.ok ts->CW ts:=by
 induction f with
 |zero=>intro a l ts h;cases h
 |succ f i=>
  intro a l ts h;by_cases d:l.length=0
  ·rw[lX _ _ _ d] at h;cases h;intro t b;rw[Z1.1 b];exact Y3 (Y3 (Y3 (Y3 (Y3 rfl))))
  ·cases c:(cA l).ok
   ·rw[lY _ _ _ d c] at h;cases h
   ·rw[lO _ _ _ d c _ rfl] at h;cases e:eP f (a++l.take ((cA l).size+blankL l.length (l.drop (cA l).size))) (l.drop ((cA l).size+blankL l.length (l.drop (cA l).size))) with
    |error n=>rw[e] at h;cases h
    |ok g=>
     rw[e] at h;cases h;intro t b;rcases Z6.1 b with rfl|b
     ·exact DC l _ c
     ·exact i _ _ g e t b
def LB{l:cE}{ts:List aX}(h:gM l=.ok ts):CW ts:=PU _ _ _ _ h
def CW.tk{ts:List aX}(h:CW ts)(p:Nat)(a:p<ts.length):nV (aR ts p):=by
 have:aR ts p=ts[p]:=by unfold aR;rw[Z8 a];rfl
 rw[this];exact h _ (e8 a)
structure aI where
 sort:Nat
 n:Int
 s:cE
 l:List aI
def aI.ind{P:aI->Prop}(h:∀v,(∀x,x∈v.l->P x)->P v):∀v,P v
 |⟨a,b,c,l⟩=>h ⟨a,b,c,l⟩ fun x _=>aI.ind h x
def bD(n:Int):aI:=⟨0,n,[],[]⟩
def bP(b:Bool):aI:=⟨1,if b then 1 else 0,[],[]⟩
def bK(s:cE):aI:=⟨2,0,s,[]⟩
def aW(l:List aI):aI:=⟨3,0,[],l⟩
def bN:aI:=⟨0,0,[],[]⟩
noncomputable def aI.fold{α:Type}(f:Nat->Int->cE->List α->α)(v:aI):α:=
 aI.rec (motive_1:=fun _=>α) (motive_2:=fun _=>List α) (fun a n s _ c=>f a n s c) [] (fun _ _ h t=>h::t) v
def aI.fold_eq{b:Type}(f:Nat->Int->cE->List b->b)(v:aI):v.fold f=f v.sort v.n v.s (v.l.map (aI.fold f)):=by
 obtain⟨a,n,s,l⟩:=v;refine congrArg (f a n s) ?_;induction l with
 |nil=>rfl
 |cons x l c=>exact congrArg (aI.fold f x::·) c
noncomputable def aK(v:aI):Nat:=v.fold fun _ _ s c=>1+s.length+c.sum
def eZ(v:aI):aK v=1+v.s.length+(v.l.map aK).sum:=aI.fold_eq _ v
def mV{α:Type}:List (α->Bool)->List α->Bool
 |[],[]=>true
 |f::fs,x::xs=>f x && mV fs xs
 |_,_=>false
noncomputable def cK(x:aI):aI->Bool:=x.fold fun a n s c y=>a==y.sort && (n==y.n && (s==y.s && mV c y.l))
def QQ(x y:aI):cK x y=(x.sort==y.sort && (x.n==y.n && (x.s==y.s && mV (x.l.map cK) y.l))):=congrFun (aI.fold_eq _ x) y
def wQ:∀x y:aI,cK x y=true↔x=y:=by
 refine aI.ind fun x e y=>?_
 have d:∀(l:List aI),(∀v,v∈l->∀y,cK v y=true↔v=y)->∀m:List aI,mV (l.map cK) m=true↔l=m:=by
  intro l;induction l with
  |nil=>intro _ m;cases m<;>simp[mV]
  |cons a l c=>
   intro h m;cases m with
   |nil=>simp[mV]
   |cons b m=>simp[mV,h a (by simp) b,c (fun v f=>h v (by simp[f])) m]
 rw[QQ];simp only[j3,beq_iff_eq,d x.l e y.l];constructor
 ·rintro⟨j,g,k,i⟩;cases x;cases y;simp_all
 ·rintro rfl;simp
def digitsF:Nat->Nat->cE->cE
 |0,_,t=>t
 |f+1,n,t=>if n<10 then UInt8.ofNat (48+n)::t else digitsF f (n/10) (UInt8.ofNat (48+n%10)::t)
def cH(n:Int):cE:=(if n<0 then [45] else [])++digitsF 20 n.natAbs []
def fL:cO->cE
 |[]=>[]
 |[x]=>x
 |x::r=>x++[44,32]++fL r
noncomputable def cI(v:aI):cE:=
 v.fold fun a n s c=>if a=0 then cH n else if a=1 then (if n=1 then [116,114,117,101] else [102,97,108,115,101]) else if a=2 then [34]++s++[34] else [91]++fL c++[93]
def jT(v:aI):cI v=if v.sort=0 then cH v.n else if v.sort=1 then (if v.n=1 then [116,114,117,101] else [102,97,108,115,101]) else if v.sort=2 then [34]++v.s++[34] else [91]++fL (v.l.map cI)++[93]:=aI.fold_eq _ v
noncomputable def jU(v:aI):cE:=if v.sort=2 then v.s else cI v
def kT(n:Int):Int:=(n+9223372036854775808)%18446744073709551616-9223372036854775808
noncomputable def jC(a b:aI):aI × Nat:=
 let v:=if a.sort=3 then aW (a.l++b.l) else bK (a.s++b.s)
 if 200<aK v then (bN,6) else (v,0)
def jD(op:cE)(x y:Int):aI × Nat:=
 if op=[43] then (bD (kT (x+y)),0)
 else if op=[45] then (bD (kT (x-y)),0)
 else if op=[42] then (bD (kT (x*y)),0)
 else if op=[60] then (bP (decide (x<y)),0)
 else if op=[60,61] then (bP (decide (x<=y)),0)
 else if y=0 then (bN,3)
 else if op=[47] then (bD (kT (x.tdiv y)),0)
 else (bD (kT (x.tmod y)),0)
def gJ:cE->cE->Bool
 |[],[]=>false
 |[],_::_=>true
 |_::_,[]=>false
 |a::l,b::m=>if a.toNat<b.toNat then true else if b.toNat<a.toNat then false else gJ l m
noncomputable def eS(op:cE)(a b:aI):aI × Nat:=
 if op=[61,61] then (bP (cK a b),0)
 else if op=[33,61] then (bP (!cK a b),0)
 else if a.sort≠b.sort\/a.sort=1 then (bN,2)
 else if a.sort=0 then jD op a.n b.n
 else if op=[43] then jC a b
 else if a.sort=2/\op=[60] then (bP (gJ a.s b.s),0)
 else if a.sort=2/\op=[60,61] then (bP (!gJ b.s a.s),0)
 else (bN,2)
def fO(op:cE)(a:aI):aI × Nat:=
 if op=[45,120]/\a.sort=0 then (bD (kT (-a.n)),0)
 else if op=[33,120]/\a.sort=1 then (bP (decide (a.n=0)),0)
 else (bN,2)
def iE:Nat->cE->cO
 |0,_=>[]
 |f+1,l=>if l=[] then [] else if bG l=0 then [] else l.take (bG l)::iE f (l.drop (bG l))
def dZ(l:cE):cO:=iE l.length l
def eG(a:aI):aI × Nat:=
 if a.sort=3 then (bD a.l.length,0) else if a.sort=2 then (bD (dZ a.s).length,0) else (bN,2)
def jH(a:aI):List aI:=if a.sort=2 then (dZ a.s).map bK else a.l
def dE(a b:aI):aI × Nat:=
 if a.sort<2\/b.sort≠0 then (bN,2)
 else if b.n<0\/((jH a).length:Int)<=b.n then (bN,4)
 else ((jH a).getD b.n.toNat bN,0)
def cN:List aI->aI->aI->aI × Nat
 |[],_,v=>(v,0)
 |i::at',old,v=>
  if old.sort≠3\/i.sort≠0 then (bN,2)
  else if i.n<0\/(old.l.length:Int)<=i.n then (bN,4)
  else if (cN at' (old.l.getD i.n.toNat bN) v).2≠0 then (bN,(cN at' (old.l.getD i.n.toNat bN) v).2)
  else (aW (old.l.set i.n.toNat (cN at' (old.l.getD i.n.toNat bN) v).1),0)
def kB{l:cE}:bG l<=l.length:=by
 unfold bG;cases l with
 |nil=>simp
 |cons b r=>
  simp only[List.getElem?_cons_zero]
  have q:∀i c d,dI (b::r) i c d=true->i<(b::r).length:=by
   intro i c d h;unfold dI at h;rcases l6 i (b::r).length with a|a
   ·exact a
   ·rw[j8 a] at h;simp at h
  split
  ·simp
  split
  ·split
   ·have:=q 1 _ _ (by assumption);omega
   ·simp
  split
  ·generalize (if b.toNat=224 then 160 else 128)=f
   generalize (if b.toNat=237 then 159 else 191)=e
   split
   ·rename_i h;rw[j3] at h;have:=q 2 _ _ h.2;omega
   ·simp
  split
  ·generalize (if b.toNat=240 then 144 else 128)=f
   generalize (if b.toNat=244 then 143 else 191)=e
   split
   ·rename_i h;rw[j3] at h;have:=q 3 _ _ h.2;omega
   ·simp
  ·simp
def qN:∀(f:Nat) (l:cE),l.length<=f->iE f l=dZ l:=by
 have h:∀(n f g:Nat) (l:cE),l.length<=n->l.length<=f->l.length<=g->iE f l=iE g l:=by
  intro n;induction n with
  |zero=>
   intro f g l e c i;have:l=[]:=s6.1 (by omega)
   subst this;cases f<;>cases g<;>simp[iE]
  |succ n d=>
   intro f g l e c i;by_cases a:l=[]
   ·subst a;cases f<;>cases g<;>simp[iE]
   ·have j:0<l.length:=v7.2 a;cases f with
    |zero=>omega
    |succ f=>
     cases g with
     |zero=>omega
     |succ g=>
      rw[iE,iE,if_neg a,if_neg a];by_cases b:bG l=0
      ·rw[if_pos b,if_pos b]
      ·rw[if_neg b,if_neg b,d f g (l.drop (bG l)) (by rw[o7];omega) (by rw[o7];omega) (by rw[o7];omega)]
 exact fun f l a=>h l.length f l.length l dH a dH
def iD{l:cE}(a:l≠[])(b:bG l≠0):dZ l=l.take (bG l)::dZ (l.drop (bG l)):=by
 have c:0<l.length:=v7.2 a;obtain⟨n,d⟩:∃n,l.length=n+1:=⟨l.length-1,by omega⟩
 rw[<-qN (n+1) l (by omega),iE,if_neg a,if_neg b,qN n _ (by rw[o7];omega)]
def dW{l:cE}(h:l=[]\/bG l=0):dZ l=[]:=by
 unfold dZ;cases a:l.length with
 |zero=>rfl
 |succ n=>
  rw[iE];rcases h with h|h
  ·rw[if_pos h]
  ·rw[if_pos h];split<;>rfl
def sD(l:cE):(dZ l).length<=l.length:=by
 have h:∀(n:Nat) (l:cE),l.length<=n->(dZ l).length<=l.length:=by
  intro n;induction n with
  |zero=>
   intro l d;rw[dW (Y4 (s6.1 (by omega)))];simp
  |succ n c=>
   intro l d;by_cases a:l=[]
   ·rw[dW (Y4 a)];simp
   by_cases b:bG l=0
   ·rw[dW (Y3 b)];simp
   have e:0<l.length:=v7.2 a;rw[iD a b,Y9];have:=c (l.drop (bG l)) (by rw[o7];omega)
   rw[o7] at this;have:= @kB l;omega
 exact h l.length l dH
end Go.Proofs.YtddnpoiiimjpcaaGreatDoor.Hs
