/- Short words. -/
import Derived.Test.YtmjbnmpamlainaaGreatDoorB00
set_option linter.defProp false
set_option maxRecDepth 100000
namespace Go.Proofs.YtmjbnmpamlainaaGreatDoor
abbrev Iv0(n:Int):Value:=.int .i64 n
abbrev aH(b i:Nat):Addr:=⟨b,i,none⟩
abbrev bH(b:Nat):Value:=.pointer (some ⟨b,0,none⟩)
abbrev bF:Value:=.slice none 0 0
abbrev aZ(v:Value):Ending:=.returned v
abbrev cD:Type:=List UInt8
abbrev cN:Type:=List (List UInt8)
abbrev aG:Type:=World
abbrev aQ:Type:=Value
abbrev bX:Type:=Nat->Prop
abbrev eQ:Type:=Nat->Value
def pV{a:Type}{p:a->Prop}:∀b,b∈([]:List a)->p b:=fun _ h=>nomatch h
def cL{n:Nat}:n<=n:=cy_ n
def dX{a:Type}{p:a->Prop}(b:a)(h:p b):p b:=h
end Go.Proofs.YtmjbnmpamlainaaGreatDoor
namespace Go.Proofs.YtmjbnmpamlainaaGreatDoor.Hs
def bE(l:cD):Nat:=1+l.count 10
def kG(a b:cD):bE (a++b)=bE a+b.count 10:=by
 unfold bE;rw[List.count_append];omega
def TD(a:cD):a.count 10<=a.length:=List.count_le_length
def qD(a:cD):bE a<=a.length+1:=by have:=TD a;unfold bE;omega
def EU(a:cD)(c:UInt8):bE (a++[c])=bE a+if c=10 then 1 else 0:=by
 rw[kG];by_cases h:c=10<;>simp[h]
def dN(l:cD)(i lo hi:Nat):Bool:=
 match l[i]? with
 |some b=>decide (lo<=b.toNat) && decide (b.toNat<=hi)
 |none=>false
def bK(l:cD):Nat:=
 match l[0]? with
 |none=>0
 |some b=>
  if b.toNat<128 then 1
  else if 194<=b.toNat/\b.toNat<=223 then if dN l 1 128 191 then 2 else 0
  else if 224<=b.toNat/\b.toNat<=239 then
   if dN l 1 (if b.toNat=224 then 160 else 128) (if b.toNat=237 then 159 else 191) && dN l 2 128 191 then 3 else 0
  else if 240<=b.toNat/\b.toNat<=244 then
   if dN l 1 (if b.toNat=240 then 144 else 128) (if b.toNat=244 then 143 else 191) && dN l 2 128 191 && dN l 3 128 191 then 4 else 0
  else 0
def dY:Nat->cD->Nat->Option Nat
 |0,_,_=>none
 |f+1,l,p=>
  if l.length=0 then none
  else if bK l=0 then some p
  else dY f (l.drop (bK l)) (p+bK l)
def eN(c:UInt8):Bool:=decide (48<=c.toNat) && decide (c.toNat<=57)
def fS(c:UInt8):Bool:=
 c.toNat==95 || (decide (97<=c.toNat) && decide (c.toNat<=122) || decide (65<=c.toNat) && decide (c.toNat<=90))
def cY(l what:cD):Bool:=what.isPrefixOf l
def bP(p:UInt8->Bool):cD->Nat
 |[]=>0
 |c::r=>if p c then bP p r+1 else 0
def lJ(p:UInt8->Bool)(l:cD):bP p l<=l.length:=by
 induction l with
 |nil=>simp[bP]
 |cons c r a=>simp only[bP];split<;>simp<;>omega
def eS(b:UInt8):Bool:=b.toNat != 10
def blankL:Nat->cD->Nat
 |0,_=>0
 |f+1,l=>
  match l with
  |[]=>0
  |c::r=>
   if c.toNat=32\/c.toNat=9\/c.toNat=10 then blankL f r+1
   else if cY (c::r) [47,47] then
    bP eS (c::r)+blankL f ((c::r).drop (bP eS (c::r)))
   else 0
def MZ:Nat:=9223372036854775807
def dP:Nat->cD->Option Nat
 |n,[]=>some n
 |n,c::r=>if (MZ-(c.toNat-48))/10<n then none else dP (10*n+(c.toNat-48)) r
def jK:cN:=[[102,117,110,99],[118,97,114],[105,102],[101,108,115,101],[119,104,105,108,101],[114,101,116,117,114,110],[112,114,105,110,116],[116,114,117,101],[102,97,108,115,101]]
def cX:cN:=[[61,61],[33,61],[60,61],[38,38],[124,124],[40],[41],[123],[125],[91],[93],[44],[59],[61],[60],[43],[45],[42],[47],[37],[33]]
def eR(name:Bool)(b:UInt8):Bool:=eN b || name && fS b
def fQ(b:UInt8):Bool:=b.toNat != 34 && b.toNat != 10
structure bB where
 sort:Nat
 text:cD
 line:Nat
structure qN where
 sort:Nat
 text:cD
 size:Nat
 ok:Bool
def iE(l:cD)(name:Bool):qN:=
 if name then { sort:=if jK.contains (l.take (bP (eR name) l)) then 107 else 110,text:=l.take (bP (eR name) l),size:=bP (eR name) l,ok:=decide (bP (eR name) l<=16) }
 else { sort:=48,text:=l.take (bP (eR name) l),size:=bP (eR name) l,ok:=(dP 0 (l.take (bP (eR name) l))).isSome }
def oP(r:cD):qN:=
 { sort:=115,text:=r.take (bP fQ r),size:=bP fQ r+2,ok:=decide (r[bP fQ r]?=some 34) && decide (bP fQ r<=100) }
def iD(l:cD):qN:=
 match cX.find? (fun o=>cY l o) with
 |some o=>{ sort:=112,text:=o,size:=o.length,ok:=true }
 |none=>{ sort:=0,text:=[],size:=0,ok:=false }
def cG:cD->qN
 |[]=>{ sort:=0,text:=[],size:=0,ok:=false }
 |c::r=>if eN c || fS c then iE (c::r) (fS c) else if c.toNat=34 then oP r else iD (c::r)
def eW:Nat->cD->cD->Except Nat (List bB)
 |0,_,_=>.error 0
 |f+1,pre,l=>
  if l.length=0 then .ok [{ sort:=101,text:=[],line:=bE pre }]
  else if (cG l).ok then
   match eW f (pre++l.take ((cG l).size+blankL l.length (l.drop (cG l).size))) (l.drop ((cG l).size+blankL l.length (l.drop (cG l).size))) with
   |.ok ts=>.ok ({ sort:=(cG l).sort,text:=(cG l).text,line:=bE pre }::ts)
   |.error n=>.error n
  else .error (bE pre)
def iC(l:cD):Except Nat (List bB):=
 eW (l.length+1) (l.take (blankL l.length l)) (l.drop (blankL l.length l))
def lT{l w:cD}(h:cY l w=true):w.length<=l.length:=(dN_.1 h).length_le
def oI(f:Nat)(c:UInt8)(r:cD):blankL (f+1) (c::r)=
 if c.toNat=32\/c.toNat=9\/c.toNat=10 then blankL f r+1
  else if cY (c::r) [47,47] then bP eS (c::r)+blankL f ((c::r).drop (bP eS (c::r)))
  else 0:=by
 rw[blankL]
def DW(c:UInt8)(r:cD)(h:cY (c::r) [47,47]=true):1<=bP eS (c::r):=by
 have b:c=47:=by
  have:=dN_.1 h;obtain⟨t,a⟩:=this;simp only[cP_,List.cons.injEq] at a;exact a.1.symm
 subst b;rw[bP,if_pos (by decide)];omega
def xA(f:Nat):∀l:cD,blankL f l<=l.length:=by
 induction f with
 |zero=>intro l;simp[blankL]
 |succ f a=>
  intro l;cases l with
  |nil=>simp[blankL]
  |cons c r=>
   rw[oI];split
   ·have:=a r;simp;omega
   ·split
    ·have b:=a ((c::r).drop (bP eS (c::r)));have d:=lJ eS (c::r);rw[c9_] at b;omega
    ·omega
def GD(f:Nat):∀(g:Nat) (l:cD),l.length<=f->l.length<=g->blankL f l=blankL g l:=by
 induction f with
 |zero=>
  intro g l h _;obtain rfl:l=[]:=cF_ (by omega)
  cases g<;>rfl
 |succ f b=>
  intro g l e d;cases l with
  |nil=>cases g<;>rfl
  |cons c r=>
   cases g with
   |zero=>simp at d
   |succ g=>
    rw[oI,oI];simp only[ct_] at e d;rw[b g r (by omega) (by omega)]
    by_cases a:cY (c::r) [47,47]=true
    ·have i:=DW c r a;rw[b g ((c::r).drop (bP eS (c::r))) (by rw[c9_,ct_];omega) (by rw[c9_,ct_];omega)]
    ·simp only[a];rfl
def tR(l:cD)(b:Bool):(iE l b).size=bP (eR b) l:=by
 unfold iE;split<;>rfl
def vR(l:cD)(h:(cG l).ok=true):1<=(cG l).size/\(cG l).size<=l.length:=by
 cases l with
 |nil=>simp[cG] at h
 |cons c r=>
  rw[cG] at h ⊢
  split
  ·rename_i b;rw[tR];refine⟨?_,lJ _ _⟩
   rw[bP,if_pos (by
    revert b;unfold eR
    cases eN c<;>cases fS c<;>simp)]
   omega
  ·rename_i b;rw[if_neg b] at h;split
   ·rename_i a;rw[if_pos a] at h;have d:(decide (r[bP fQ r]?=some 34) && decide (bP fQ r<=100))=true:=h;rw[cO_,decide_eq_true_eq] at d
    have f:bP fQ r<r.length:=by
     by_cases j:bP fQ r<r.length
     ·exact j
     ·rw[cV_ (by omega)] at d;exact absurd d.1 (by simp)
    show 1<=bP fQ r+2/\bP fQ r+2<=(c::r).length
    rw[ct_];omega
   ·rename_i a;rw[if_neg a] at h;unfold iD at h ⊢
    cases e:cX.find? (fun o=>cY (c::r) o) with
    |none=>rw[e] at h;simp at h
    |some o=>
     have i:=List.find?_some e;have g:=df_ e;refine⟨?_,lT i⟩;have:∀o∈cX,1<=o.length:=by decide
     exact this o g
def iX(ts:List bB):Except Nat (List bB)->Except Nat (List bB)
 |.ok l=>.ok (ts++l)
 |.error n=>.error n
def EJ(x:Except Nat (List bB)):iX [] x=x:=by cases x<;>rfl
def BN(ts:List bB)(t:bB)(x:Except Nat (List bB)):iX (ts++[t]) x=iX ts (iX [t] x):=by cases x<;>simp[iX]
def nE(f:Nat)(a l:cD)(h:l.length=0):eW (f+1) a l=.ok [{ sort:=101,text:=[],line:=bE a }]:=by
 rw[eW,if_pos h]
def nF(f:Nat)(a l:cD)(h:¬l.length=0)(b:(cG l).ok=false):eW (f+1) a l=.error (bE a):=by
 rw[eW,if_neg h,if_neg (by rw[b];simp)]
def mS(f:Nat)(a l:cD)(h:¬l.length=0)(c:(cG l).ok=true)(m:Nat)(b:m=(cG l).size+blankL l.length (l.drop (cG l).size)):
 eW (f+1) a l=iX [{ sort:=(cG l).sort,text:=(cG l).text,line:=bE a }] (eW f (a++l.take m) (l.drop m)):=by
 rw[eW,if_neg h,if_pos c,<-b];cases eW f (a++l.take m) (l.drop m)<;>rfl
structure aE where
 op:cD
 line:Nat
 text:cD
 kids:List aE
def aT(ts:List bB)(p:Nat):bB:=ts[p]?.getD { sort:=101,text:=[],line:=0 }
def aY(ts:List bB)(p:Nat)(x:cD):Bool:=((aT ts p).sort==112 || (aT ts p).sort==107) && (aT ts p).text==x
abbrev cB(α:Type):=Except Nat (α × Nat)
def bad{α:Type}(ts:List bB)(p:Nat):cB α:=.error (aT ts p).line
def cJ(x:cD):Nat:=
 if x==[124,124] then 0
 else if x==[38,38] then 1
 else if x==[61,61] || (x==[33,61] || (x==[60] || x==[60,61])) then 2
 else if x==[43] || x==[45] then 3
 else if x==[42] || (x==[47] || x==[37]) then 4
 else 9
def dR(E:Nat->cB aE)(ts:List bB):Nat->Nat->List aE->cB (List aE)
 |0,_,_=>.error 0
 |g+1,p,acc=>
  match E p with
  |.error l=>.error l
  |.ok (a,q)=>if aY ts q [44] then dR E ts g (q+1) (acc++[a]) else .ok (acc++[a],q)
def iP(E:Nat->cB aE)(ts:List bB)(p:Nat)(shut:cD):cB (List aE):=
 if aY ts p shut then .ok ([],p) else dR E ts (ts.length+1) p []
def aS{α:Type}(ts:List bB)(x:cD):cB α->cB α
 |.error l=>.error l
 |.ok (a,q)=>if aY ts q x then .ok (a,q+1) else bad ts q
def eY(E:Nat->cB aE)(ts:List bB)(p:Nat)(opens shut:cD):cB (List aE):=
 if aY ts p opens then aS ts shut (iP E ts (p+1) shut) else bad ts p
def cF{α β:Type}(f:α->β):cB α->cB β
 |.error l=>.error l
 |.ok (a,q)=>.ok (f a,q)
def bW{α β:Type}(x:cB α)(f:α->Nat->cB β):cB β:=
 match x with
 |.error l=>.error l
 |.ok (a,q)=>f a q
def aU(op:cD)(line:Nat)(text:cD)(kids:List aE):aE:={ op:=op,line:=line,text:=text,kids:=kids }
def eH(E:Nat->cB aE)(ts:List bB)(p:Nat):cB aE:=
 if (aT ts p).sort==48 || (aT ts p).sort==115 then .ok (aU [UInt8.ofNat (aT ts p).sort] (aT ts p).line (aT ts p).text [],p+1)
 else if aY ts p [116,114,117,101] || aY ts p [102,97,108,115,101] then .ok (aU [98,111,111,108] (aT ts p).line (aT ts p).text [],p+1)
 else if aY ts p [40] then aS ts [41] (E (p+1))
 else if aY ts p [91] then cF (aU [108,105,115,116] (aT ts p).line (aT ts p).text) (eY E ts p [91] [93])
 else if (aT ts p).sort==110 then
  if aY ts (p+1) [40] then cF (aU [99,97,108,108] (aT ts p).line (aT ts p).text) (eY E ts (p+1) [40] [41])
  else .ok (aU [110,97,109,101] (aT ts p).line (aT ts p).text [],p+1)
 else bad ts p
def dK(E:Nat->cB aE)(ts:List bB):Nat->aE->Nat->cB aE
 |0,_,_=>.error 0
 |g+1,n,p=>
  if aY ts p [91] then
   match aS ts [93] (E (p+1)) with
   |.error l=>.error l
   |.ok (i,q)=>dK E ts g (aU [105,110,100,101,120] (aT ts p).line [] [n,i]) q
  else .ok (n,p)
def eV(E:Nat->cB aE)(ts:List bB):Nat->Nat->cB aE
 |0,_=>.error 0
 |g+1,p=>
  if aY ts p [45] then cF (fun x=>aU [45,120] (aT ts p).line [] [x]) (eV E ts g (p+1))
  else if aY ts p [33] then cF (fun x=>aU [33,120] (aT ts p).line [] [x]) (eV E ts g (p+1))
  else bW (eH E ts p) (dK E ts (ts.length+1))
def bJ(L:Nat->cB aE)(ts:List bB)(k:Nat):Nat->aE->Nat->cB aE
 |0,_,_=>.error 0
 |g+1,n,q=>
  if (aT ts q).sort==112 && cJ (aT ts q).text==k then
   match L (q+1) with
   |.error l=>.error l
   |.ok (r,q2)=>if k=2 then .ok (aU (aT ts q).text (aT ts q).line [] [n,r],q2) else bJ L ts k g (aU (aT ts q).text (aT ts q).line [] [n,r]) q2
  else .ok (n,q)
def gI(E:Nat->cB aE)(ts:List bB):Nat->Nat->cB aE
 |0,p=>eV E ts (ts.length+1) p
 |j+1,p=>bW (gI E ts j p) (bJ (gI E ts j) ts (4-j) (ts.length+1))
def eL(ts:List bB):Nat->Nat->cB aE
 |0,_=>.error 0
 |f+1,p=>gI (eL ts f) ts 5 p
def fH(E:Nat->cB aE)(ts:List bB):Nat->Nat->List aE->cB (List aE)
 |0,_,_=>.error 0
 |g+1,p,acc=>
  if aY ts p [91] then
   match aS ts [93] (E (p+1)) with
   |.error l=>.error l
   |.ok (i,q)=>fH E ts g q (acc++[i])
  else .ok (acc,p)
def fG(E:Nat->cB aE)(ts:List bB)(p:Nat):cB aE:=
 if (aT ts p).sort==110 then
  if aY ts (p+1) [40] then
   aS ts [59] (cF (fun l=>aU [100,111] (aT ts p).line (aT ts p).text [aU [99,97,108,108] (aT ts p).line (aT ts p).text l]) (eY E ts (p+1) [40] [41]))
  else
   bW (aS ts [61] (fH E ts (ts.length+1) (p+1) [])) fun idx q=>
    aS ts [59] (cF (fun v=>aU [115,101,116] (aT ts p).line (aT ts p).text (idx++[v])) (E q))
 else bad ts p
def pX(E:Nat->cB aE)(ts:List bB)(p:Nat):cB aE:=
 if (aT ts (p+1)).sort==110 then
  if aY ts (p+2) [61] then
   aS ts [59] (cF (fun v=>aU [118,97,114] (aT ts p).line [] [aU [116,97,114,103,101,116] (aT ts (p+1)).line (aT ts (p+1)).text [],v]) (E (p+3)))
  else bad ts (p+2)
 else bad ts (p+1)
def sJ(E B:Nat->cB aE)(ts:List bB)(p:Nat):cB aE:=
 bW (E (p+1)) fun c q=>bW (B q) fun b q2=>
  if aY ts q2 [101,108,115,101] then cF (fun d=>aU [105,102] (aT ts p).line [] [c,b,d]) (B (q2+1))
  else .ok (aU [105,102] (aT ts p).line [] [c,b],q2)
def lD(E B:Nat->cB aE)(ts:List bB)(p:Nat):cB aE:=
 bW (E (p+1)) fun c q=>cF (fun b=>aU [119,104,105,108,101] (aT ts p).line [] [c,b]) (B q)
def iK(E:Nat->cB aE)(ts:List bB)(p:Nat):cB aE:=
 if aY ts (p+1) [59] then .ok (aU [114,101,116,117,114,110] (aT ts p).line [] [],p+2)
 else aS ts [59] (cF (fun v=>aU [114,101,116,117,114,110] (aT ts p).line [] [v]) (E (p+1)))
def jH(E:Nat->cB aE)(ts:List bB)(p:Nat):cB aE:=
 aS ts [59] (cF (fun v=>aU [112,114,105,110,116] (aT ts p).line [] [v]) (E (p+1)))
def jV(E B:Nat->cB aE)(ts:List bB)(p:Nat):cB aE:=
 if aY ts p [118,97,114] then pX E ts p
 else if aY ts p [105,102] then sJ E B ts p
 else if aY ts p [119,104,105,108,101] then lD E B ts p
 else if aY ts p [114,101,116,117,114,110] then iK E ts p
 else if aY ts p [112,114,105,110,116] then jH E ts p
 else fG E ts p
def dT(S:Nat->cB aE)(ts:List bB):Nat->Nat->List aE->cB (List aE)
 |0,_,_=>.error 0
 |g+1,p,acc=>
  if aY ts p [125] then .ok (acc,p)
  else
   match S p with
   |.error l=>.error l
   |.ok (s,q)=>dT S ts g q (acc++[s])
def jO(E:Nat->cB aE)(ts:List bB):Nat->Nat->cB aE
 |0,_=>.error 0
 |f+1,p=>
  if aY ts p [123] then
   cF (aU [98,108,111,99,107] (aT ts p).line []) (aS ts [125] (dT (jV E (jO E ts f) ts) ts (ts.length+1) (p+1) []))
  else bad ts p
def dD(ts:List bB):Nat->Nat->List aE->cB (List aE)
 |0,_,_=>.error 0
 |g+1,p,acc=>
  if (aT ts p).sort==110 then
   if aY ts (p+1) [44] then dD ts g (p+2) (acc++[aU [112,97,114,97,109] (aT ts p).line (aT ts p).text []])
   else .ok (acc++[aU [112,97,114,97,109] (aT ts p).line (aT ts p).text []],p+1)
  else bad ts p
def iM(ts:List bB)(p:Nat):cB (List aE):=
 aS ts [41] (if aY ts p [41] then .ok ([],p) else dD ts (ts.length+1) p [])
def kS(B:Nat->cB aE)(ts:List bB)(p:Nat):cB aE:=
 if aY ts p [102,117,110,99] then
  if (aT ts (p+1)).sort==110 then
   if aY ts (p+2) [40] then
    bW (iM ts (p+3)) fun l q=>cF (fun b=>aU [102,117,110,99] (aT ts (p+1)).line (aT ts (p+1)).text (l++[b])) (B q)
   else bad ts (p+2)
  else bad ts (p+1)
 else bad ts p
def fI(F:Nat->cB aE)(ts:List bB):Nat->Nat->List aE->cB (List aE)
 |0,_,_=>.error 0
 |g+1,p,acc=>
  if (aT ts p).sort==101 then .ok (acc,p)
  else
   match F p with
   |.error l=>.error l
   |.ok (s,q)=>fI F ts g q (acc++[s])
def nA(ts:List bB):cB (List aE):=
 fI (kS (jO (eL ts (ts.length+1)) ts (ts.length+1)) ts) ts (ts.length+1) 0 []
structure bY(ts:List bB):Prop where
 next:∀p,p<ts.length->(aT ts p).sort≠101->p+1<ts.length
 line:∀p,p<ts.length->(aT ts p).line≠0
structure cU{α:Type}(N p:Nat)(r:cB α):Prop where
 er:∀l,r=.error l->l≠0
 ok:∀a q,r=.ok (a,q)->p<q/\q<N
structure fO{α:Type}(N p:Nat)(r:cB α):Prop where
 er:∀l,r=.error l->l≠0
 ok:∀a q,r=.ok (a,q)->p<=q/\q<N
def cU.weak{b:Type}{N p:Nat}{r:cB b}(h:cU N p r):fO N p r:=⟨h.er,fun a q e=>by have:=h.ok a q e;omega⟩
def cU.ne{a:Type}{N p:Nat}{r:cB a}(h:cU N p r):r≠.error 0:=fun e=>h.er 0 e rfl
def fO.ne{a:Type}{N p:Nat}{r:cB a}(h:fO N p r):r≠.error 0:=fun e=>h.er 0 e rfl
def cU.low{c:Type}{N p b:Nat}{r:cB c}(h:cU N p r)(d:b<=p):cU N b r:=⟨h.er,fun a q e=>by have:=h.ok a q e;omega⟩
def fO.low{c:Type}{N p b:Nat}{r:cB c}(h:fO N p r)(d:b<p):cU N b r:=⟨h.er,fun a q e=>by have:=h.ok a q e;omega⟩
def cU.of_ok{b:Type}{N p q:Nat}(a:b)(h:p<q)(c:q<N):cU N p (.ok (a,q):cB b):=⟨(fun l e=>by cases e),fun d f e=>by cases e;exact⟨h,c⟩⟩
def fO.of_ok{b:Type}{N p q:Nat}(a:b)(h:p<=q)(c:q<N):fO N p (.ok (a,q):cB b):=⟨(fun l e=>by cases e),fun d f e=>by cases e;exact⟨h,c⟩⟩
def cU.map{b c:Type}{N p:Nat}{r:cB b}(f:b->c)(h:cU N p r):cU N p (cF f r):=by
 cases r with
 |error l=>exact⟨fun i e=>by cases e;exact h.er _ rfl,fun a q e=>by cases e⟩
 |ok d=>obtain⟨a,q⟩:=d;exact⟨(fun l e=>by cases e),fun g j e=>by cases e;exact h.ok _ _ rfl⟩
def bY.isT{ts:List bB}(T:bY ts){p:Nat}{x:cD}(a:p<ts.length)(h:aY ts p x=true):p+1<ts.length:=by
 refine T.next p a fun e=>?_
 unfold aY at h;rw[e] at h;simp at h
def bY.bad{ts:List bB}(T:bY ts){d:Type}{p c:Nat}(b:p<ts.length):cU ts.length c (bad ts p:cB d):=⟨fun l e=>by cases e;exact T.line p b,fun a q e=>by cases e⟩
def bY.take{ts:List bB}(T:bY ts){d:Type}{p:Nat}{x:cD}{r:cB d}(h:cU ts.length p r):cU ts.length p (aS ts x r):=by
 cases r with
 |error l=>exact⟨fun g e=>by cases e;exact h.er _ rfl,fun a q e=>by cases e⟩
 |ok c=>
  obtain⟨a,q⟩:=c;have b:=h.ok a q rfl;unfold aS;simp only;split
  ·rename_i f;exact cU.of_ok a (by omega) (T.isT b.2 f)
  ·exact T.bad b.2
def bY.takeW{ts:List bB}(T:bY ts){d:Type}{p:Nat}{x:cD}{r:cB d}(h:fO ts.length p r):cU ts.length p (aS ts x r):=by
 cases r with
 |error l=>exact⟨fun g e=>by cases e;exact h.er _ rfl,fun a q e=>by cases e⟩
 |ok c=>
  obtain⟨a,q⟩:=c;have b:=h.ok a q rfl;unfold aS;simp only;split
  ·rename_i f;exact cU.of_ok a (by omega) (T.isT b.2 f)
  ·exact T.bad b.2
def bY.listLoop{ts:List bB}(T:bY ts){E:Nat->cB aE}{p0:Nat}(h:∀q,p0<q->q<ts.length->cU ts.length q (E q)):∀(g p:Nat) (acc:List aE),p0<p->p<ts.length->ts.length<=p+g->cU ts.length p (dR E ts g p acc)
 |0,p,acc,_,c,i=>by omega
 |g+1,p,acc,j,c,i=>by
  have d:=h p j c;rw[dR];cases f:E p with
  |error l=>exact⟨fun n e=>by cases e;exact d.er _ f,fun a q e=>by cases e⟩
  |ok k=>
   obtain⟨a,q⟩:=k;have b:=d.ok a q f;simp only;split
   ·rename_i m;have:=T.isT b.2 m;exact(bY.listLoop T h g (q+1) (acc++[a]) (by omega) this (by omega)).low (by omega)
   ·exact cU.of_ok _ b.1 b.2
def bY.listIn{ts:List bB}(T:bY ts){E:Nat->cB aE}{p0:Nat}(c:∀q,p0<q->q<ts.length->cU ts.length q (E q)){p:Nat}(b:p0<p)(a:p<ts.length)(y:cD):fO ts.length p (iP E ts p y):=by
 unfold iP;split
 ·exact fO.of_ok _ cL a
 ·exact(T.listLoop c (ts.length+1) p [] b a (by omega)).weak
def bY.listP{ts:List bB}(T:bY ts){E:Nat->cB aE}{p0:Nat}(b:∀q,p0<q->q<ts.length->cU ts.length q (E q)){p:Nat}(d:p0<=p)(a:p<ts.length)(x y:cD):cU ts.length p (eY E ts p x y):=by
 unfold eY;split
 ·rename_i c;have:=T.isT a c;exact(T.takeW (T.listIn b (p:=p+1) (by omega) this y)).low (by omega)
 ·exact T.bad a
def bY.primary{ts:List bB}(T:bY ts){E:Nat->cB aE}{p0:Nat}(c:∀q,p0<q->q<ts.length->cU ts.length q (E q)){p:Nat}(f:p0<=p)(b:p<ts.length):cU ts.length p (eH E ts p):=by
 unfold eH;split
 ·rename_i a;refine cU.of_ok _ (by omega) (T.next p b fun e=>?_)
  rw[e] at a;simp at a
 split
 ·rename_i a;refine cU.of_ok _ (by omega) ?_
  rcases Bool.or_eq_true_iff.1 a with a|a
  ·exact T.isT b a
  ·exact T.isT b a
 split
 ·rename_i a;have:=T.isT b a;exact T.take ((c (p+1) (by omega) this).low (by omega))
 split
 ·exact(T.listP c f b _ _).map _
 split
 ·rename_i a;have d:p+1<ts.length:=T.next p b fun e=>by rw[e] at a;simp at a
  split
  ·exact((T.listP c (p:=p+1) (by omega) d _ _).low (by omega)).map _
  ·exact cU.of_ok _ (by omega) d
 ·exact T.bad b
def bY.index{ts:List bB}(T:bY ts){E:Nat->cB aE}{p0:Nat}(f:∀q,p0<q->q<ts.length->cU ts.length q (E q)):∀(g:Nat) (n:aE) (p:Nat),p0<=p->p<ts.length->ts.length<=p+g->fO ts.length p (dK E ts g n p)
 |0,n,p,_,b,h=>by omega
 |g+1,n,p,r,b,h=>by
  rw[dK];split
  ·rename_i m;have k:=T.isT b m;have c:=T.take (x:=[93]) (f (p+1) (by omega) k)
   cases d:aS ts [93] (E (p+1)) with
   |error l=>exact⟨fun s e=>by cases e;exact c.er _ d,fun a q e=>by cases e⟩
   |ok o=>
    obtain⟨i,q⟩:=o;have j:=c.ok i q d;exact((bY.index T f g _ q (by omega) j.2 (by omega)).low (by omega:p<q)).weak
  ·exact fO.of_ok _ cL b
def bY.bind{ts:List bB}(_T:bY ts){c d:Type}{p:Nat}{r:cB c}{f:c->Nat->cB d}(h:cU ts.length p r)(g:∀a q,p<q->q<ts.length->fO ts.length q (f a q)):cU ts.length p (bW r f):=by
 cases r with
 |error l=>exact⟨fun j e=>by cases e;exact h.er _ rfl,fun a q e=>by cases e⟩
 |ok i=>
  obtain⟨a,q⟩:=i;have b:=h.ok a q rfl;exact(g a q b.1 b.2).low b.1
def bY.unary{ts:List bB}(T:bY ts){E:Nat->cB aE}{p0:Nat}(c:∀q,p0<q->q<ts.length->cU ts.length q (E q)):∀(g p:Nat),p0<=p->p<ts.length->ts.length<=p+g->cU ts.length p (eV E ts g p)
 |0,p,_,b,i=>by omega
 |g+1,p,j,b,i=>by
  rw[eV];split
  ·rename_i e;have d:=T.isT b e;exact((bY.unary T c g (p+1) (by omega) d (by omega)).low (by omega)).map _
  split
  ·rename_i e;have d:=T.isT b e;exact((bY.unary T c g (p+1) (by omega) d (by omega)).low (by omega)).map _
  ·exact T.bind (T.primary c j b) fun a q h f=>T.index c _ a q (by omega) f (by omega)
def bY.levelLoop{ts:List bB}(T:bY ts){L:Nat->cB aE}{p0 k:Nat}(h:∀q,p0<=q->q<ts.length->cU ts.length q (L q)):∀(g:Nat) (n:aE) (q:Nat),p0<=q->q<ts.length->ts.length<=q+g->fO ts.length q (bJ L ts k g n q)
 |0,n,q,_,b,o=>by omega
 |g+1,n,q,s,b,o=>by
  rw[bJ];split
  ·rename_i i;have p:q+1<ts.length:=T.next q b fun e=>by rw[e] at i;simp at i
   have f:=h (q+1) (by omega) p
   cases j:L (q+1) with
   |error l=>exact⟨fun t e=>by cases e;exact f.er _ j,fun a q e=>by cases e⟩
   |ok m=>
    obtain⟨r,c⟩:=m;have d:=f.ok r c j;simp only;split
    ·exact fO.of_ok _ (by omega) d.2
    ·exact((bY.levelLoop T h g _ c (by omega) d.2 (by omega)).low (by omega:q<c)).weak
  ·exact fO.of_ok _ cL b
def bY.level{ts:List bB}(T:bY ts){E:Nat->cB aE}{p0:Nat}(d:∀q,p0<q->q<ts.length->cU ts.length q (E q)):∀(j p:Nat),p0<=p->p<ts.length->cU ts.length p (gI E ts j p)
 |0,p,c,b=>T.unary d _ p c b (by omega)
 |j+1,p,c,b=>by
  rw[gI];exact T.bind (bY.level T d j p c b) fun a q f e=>T.levelLoop (p0:=p0) (fun q c b=>bY.level T d j q c b) _ a q (by omega) e (by omega)
def bY.expr{ts:List bB}(T:bY ts):∀(f p:Nat),p<ts.length->ts.length<=p+f->cU ts.length p (eL ts f p)
 |0,p,b,d=>by omega
 |f+1,p,b,d=>by
  rw[eL];exact T.level (p0:=p) (fun q c a=>bY.expr T f q a (by omega)) 5 p cL b
def bY.exprs{ts:List bB}(T:bY ts):∀q,q<ts.length->cU ts.length q (eL ts (ts.length+1) q):=fun q a=>T.expr _ q a (by omega)
def bY.setLoop{ts:List bB}(T:bY ts){E:Nat->cB aE}(f:∀q,q<ts.length->cU ts.length q (E q)):∀(g p:Nat) (acc:List aE),p<ts.length->ts.length<=p+g->fO ts.length p (fH E ts g p acc)
 |0,p,acc,b,h=>by omega
 |g+1,p,acc,b,h=>by
  rw[fH];split
  ·rename_i m;have k:=T.isT b m;have c:=T.take (x:=[93]) (f (p+1) k);cases d:aS ts [93] (E (p+1)) with
   |error l=>exact⟨fun o e=>by cases e;exact c.er _ d,fun a q e=>by cases e⟩
   |ok n=>
    obtain⟨i,q⟩:=n;have j:=c.ok i q d;exact((bY.setLoop T f g q _ j.2 (by omega)).low (by omega:p<q)).weak
  ·exact fO.of_ok _ cL b
def bY.simple{ts:List bB}(T:bY ts){E:Nat->cB aE}(b:∀q,q<ts.length->cU ts.length q (E q)){p:Nat}(d:p<ts.length):cU ts.length p (fG E ts p):=by
 unfold fG;split
 ·rename_i f;have c:p+1<ts.length:=T.next p d fun e=>by rw[e] at f;simp at f
  split
  ·exact T.take (((T.listP (p0:=p) (fun q _ a=>b q a) (p:=p+1) (by omega) c _ _).low (by omega)).map _)
  ·exact T.bind ((T.takeW (T.setLoop b _ (p+1) [] c (by omega))).low (by omega)) fun g q _ a=>(T.take ((b q a).map _)).weak
 ·exact T.bad d
def bY.stmt{ts:List bB}(T:bY ts){E B:Nat->cB aE}{p:Nat}(j:∀q,q<ts.length->cU ts.length q (E q))(o:∀q,p<q->q<ts.length->cU ts.length q (B q))(i:p<ts.length):cU ts.length p (jV E B ts p):=by
 unfold jV;split
 ·rename_i d;have a:=T.isT i d;unfold pX;split
  ·rename_i f;have l:p+2<ts.length:=T.next (p+1) a fun e=>by rw[e] at f;simp at f
   split
   ·rename_i m;have s:p+3<ts.length:=T.isT l m;exact T.take (((j (p+3) s).low (by omega)).map _)
   ·exact T.bad l
  ·exact T.bad a
 split
 ·rename_i d;have a:=T.isT i d;unfold sJ;refine T.bind ((j (p+1) a).low (by omega)) fun c q g h=>(T.bind (o q g h) fun b u t k=>?_).weak
  split
  ·rename_i r;have:=T.isT k r;exact(((o (u+1) (by omega) this).low (by omega)).map _).weak
  ·exact fO.of_ok _ cL k
 split
 ·rename_i d;have a:=T.isT i d;unfold lD;exact T.bind ((j (p+1) a).low (by omega)) fun c q g h=>((o q g h).map _).weak
 split
 ·rename_i d;have a:=T.isT i d;unfold iK;split
  ·rename_i n;exact cU.of_ok _ (by omega) (T.isT a n)
  ·exact T.take (((j (p+1) a).low (by omega)).map _)
 split
 ·rename_i d;have a:=T.isT i d;unfold jH;exact T.take (((j (p+1) a).low (by omega)).map _)
 ·exact T.simple j i
def bY.blockLoop{ts:List bB}(_T:bY ts){S:Nat->cB aE}{p0:Nat}(d:∀q,p0<q->q<ts.length->cU ts.length q (S q)):∀(g p:Nat) (acc:List aE),p0<p->p<ts.length->ts.length<=p+g->fO ts.length p (dT S ts g p acc)
 |0,p,acc,_,b,h=>by omega
 |g+1,p,acc,i,b,h=>by
  rw[dT];split
  ·exact fO.of_ok _ cL b
  ·have c:=d p i b;cases f:S p with
   |error l=>exact⟨fun m e=>by cases e;exact c.er _ f,fun a q e=>by cases e⟩
   |ok k=>
    obtain⟨s,q⟩:=k;have j:=c.ok s q f;exact((bY.blockLoop _T d g q _ (by omega) j.2 (by omega)).low (by omega:p<q)).weak
def bY.block{ts:List bB}(T:bY ts){E:Nat->cB aE}(d:∀q,q<ts.length->cU ts.length q (E q)):∀(f p:Nat),p<ts.length->ts.length<=p+f->cU ts.length p (jO E ts f p)
 |0,p,a,h=>by omega
 |f+1,p,a,h=>by
  rw[jO];split
  ·rename_i j;have e:=T.isT a j;refine((T.takeW (T.blockLoop (p0:=p) (fun q g c=>T.stmt d (fun i k b=>bY.block T d f i b (by omega)) c) _ (p+1) [] (by omega) e (by omega))).low (by omega)).map _
  ·exact T.bad a
def bY.paramLoop{ts:List bB}(T:bY ts):∀(g p:Nat) (acc:List aE),p<ts.length->ts.length<=p+g->cU ts.length p (dD ts g p acc)
 |0,p,acc,b,h=>by omega
 |g+1,p,acc,b,h=>by
  rw[dD];split
  ·rename_i f;have d:p+1<ts.length:=T.next p b fun e=>by rw[e] at f;simp at f
   split
   ·rename_i a;have c:p+2<ts.length:=T.isT d a;exact(bY.paramLoop T g (p+2) _ c (by omega)).low (by omega)
   ·exact cU.of_ok _ (by omega) d
  ·exact T.bad b
def bY.func{ts:List bB}(T:bY ts){B:Nat->cB aE}(j:∀q,q<ts.length->cU ts.length q (B q)){p:Nat}(h:p<ts.length):cU ts.length p (kS B ts p):=by
 unfold kS;split
 ·rename_i k;have g:=T.isT h k;split
  ·rename_i a;have d:p+2<ts.length:=T.next (p+1) g fun e=>by rw[e] at a;simp at a
   split
   ·rename_i f;have c:p+3<ts.length:=T.isT d f
    have b:cU ts.length (p+3) (iM ts (p+3)):=by
     unfold iM;refine T.takeW ?_;split
     ·exact fO.of_ok _ cL c
     ·exact(T.paramLoop _ (p+3) [] c (by omega)).weak
    exact T.bind (b.low (by omega)) fun l q _ i=>((j q i).map _).weak
   ·exact T.bad d
  ·exact T.bad g
 ·exact T.bad h
def bY.progLoop{ts:List bB}(_T:bY ts){F:Nat->cB aE}(c:∀q,q<ts.length->cU ts.length q (F q)):∀(g p:Nat) (acc:List aE),p<ts.length->ts.length<=p+g->fO ts.length p (fI F ts g p acc)
 |0,p,acc,b,h=>by omega
 |g+1,p,acc,b,h=>by
  rw[fI];split
  ·exact fO.of_ok _ cL b
  ·have d:=c p b;cases f:F p with
   |error l=>exact⟨fun k e=>by cases e;exact d.er _ f,fun a q e=>by cases e⟩
   |ok j=>
    obtain⟨s,q⟩:=j;have i:=d.ok s q f;exact((bY.progLoop _T c g q _ i.2 (by omega)).low (by omega:p<q)).weak
def bY.prog{ts:List bB}(T:bY ts)(h:0<ts.length):nA ts≠.error 0:=
 (T.progLoop (fun q a=>T.func (fun c b=>T.block (fun q a=>T.exprs q a) _ c b (by omega)) a) _ 0 [] h (by omega)).ne
structure sV(ts:List bB):Prop where
 some_:0<ts.length
 last:(aT ts (ts.length-1)).sort=101
 line:∀p,p<ts.length->(aT ts p).line≠0
def qQ(t:bB)(ts:List bB)(p:Nat):aT (t::ts) (p+1)=aT ts p:=by simp[aT]
def LQ(f:Nat):∀(a l:cD) (ts:List bB),eW f a l=.ok ts->sV ts/\ts.length<=f:=by
 induction f with
 |zero=>intro a l ts h;cases h
 |succ f j=>
  intro a l ts h;by_cases d:l.length=0
  ·rw[nE _ _ _ d] at h;cases h;refine⟨⟨by simp,rfl,fun p c=>?_⟩,by simp⟩
   obtain rfl:p=0:=by simp at c;omega
   show bE a≠0
   unfold bE;omega
  ·cases i:(cG l).ok
   ·rw[nF _ _ _ d i] at h;cases h
   ·rw[mS _ _ _ d i _ rfl] at h;cases g:eW f (a++l.take ((cG l).size+blankL l.length (l.drop (cG l).size))) (l.drop ((cG l).size+blankL l.length (l.drop (cG l).size))) with
    |error n=>rw[g] at h;cases h
    |ok b=>
     rw[g] at h;cases h;obtain⟨e,k⟩:=j _ _ b g;refine⟨⟨by simp,?_,fun p c=>?_⟩,by simp;omega⟩
     ·have:=e.some_;show (aT (_::b) ((_::b).length-1)).sort=101
      rw[ct_,show b.length+1-1=(b.length-1)+1 by omega,qQ]
      exact e.last
     ·cases p with
      |zero=>show bE a≠0;unfold bE;omega
      |succ p=>
       show (aT (_::b) (p+1)).line≠0
       rw[qQ];exact e.line p (by simpa using c)
def sV.ok{ts:List bB}(h:sV ts):bY ts:=
 ⟨fun p b a=>by
   by_cases e:p=ts.length-1
   ·subst e;exact absurd h.last a
   ·omega,h.line⟩
def mT{l:cD}{ts:List bB}(h:iC l=.ok ts):sV ts/\ts.length<=l.length+1:=LQ _ _ _ _ h
def cW(l:cD):Except (Nat × Nat) (List aE):=
 if 2000<l.length then .error (1,0)
 else match dY l.length l 0 with
  |some k=>.error (2,bE (l.take k))
  |none=>
   match iC l with
   |.error n=>.error (3,n)
   |.ok ts=>
    match nA ts with
    |.error n=>.error (4,n)
    |.ok (ks,_)=>.ok ks
structure bD where
 seen:cN
 kind:Nat
 line:Nat
def bD.found(s:bD)(line kind:Nat):bD:=if s.kind=0 then { s with kind:=kind,line:=line } else s
def gJ(x:cD):Bool:=x==[108,101,110] || x==[114,101,97,100]
def declaresL(s:bD)(n:aE):bD:=if gJ n.text || s.seen.contains n.text then s.found n.line 6 else s
def dS(fs:List aE)(name:cD):Option aE:=fs.find? fun f=>f.text==name
def jC(fs:List aE)(alone:Bool)(name:cD):Int:=
 if name==[108,101,110] then 1
 else if name==[114,101,97,100] && !alone then 0
 else match dS fs name with
  |some f=>(f.kids.length:Int)-1
  |none=> -1
def eO(fs:List aE)(alone:Bool)(s:bD)(n:aE):bD:=
 if jC fs alone n.text<0 then s.found n.line 6
 else if jC fs alone n.text≠(n.kids.length:Int) then s.found n.line 7
 else s
def cK(fs:List aE)(alone:Bool)(s:bD)(n:aE):bD:=
 if n.op==[115,101,116] || n.op==[110,97,109,101] then (if s.seen.contains n.text then s else s.found n.line 6)
 else if n.op==[99,97,108,108] then eO fs alone s n
 else s
def aP(fs:List aE)(alone:Bool):Nat->aE->bD->bD
 |0,_,s=>s
 |d+1,n,s=>
  if n.op==[118,97,114] then
   match n.kids with
   |t::v::_=>let s1:=aP fs alone d v (declaresL s t);{ s1 with seen:=s1.seen++[t.text] }
   |_=>s
  else
   let s1:=n.kids.foldl (fun s k=>aP fs alone d k s) (cK fs alone s n)
   if n.op==[98,108,111,99,107] then { s1 with seen:=s1.seen.take s.seen.length } else s1
def cC:Nat->aE->Nat
 |0,_=>0
 |d+1,n=>1+(n.kids.map (cC d)).sum
def P9:Nat->aE->Prop
 |0,_=>True
 |d+1,n=>(n.op=[118,97,114]->2<=n.kids.length)/\∀k∈n.kids,P9 d k
def FineA(m:Nat)(a:aE):Prop:=∀d,cC d a<=m/\P9 d a
def FineL(m:Nat)(l:List aE):Prop:=∀d,(l.map (cC d)).sum<=m/\∀k∈l,P9 d k
def FineA.le{m n:Nat}{a:aE}(h:FineA m a)(b:m<=n):FineA n a:=fun d=>⟨cw_ (h d).1 b,(h d).2⟩
def FineL.le{m n:Nat}{a:List aE}(h:FineL m a)(b:m<=n):FineL n a:=fun d=>⟨cw_ (h d).1 b,(h d).2⟩
def FineL.nil:FineL 0 []:=fun _=>⟨cy_ _,fun _ h=>by cases h⟩
def FineL.snoc{m n:Nat}{l:List aE}{a:aE}(h:FineL m l)(c:FineA n a):FineL (m+n) (l++[a]):=fun d=>by
 refine⟨?_,fun k b=>?_⟩
 ·rw[cZ_,ds_];have f:=(h d).1;have e:=(c d).1;simp;omega
 ·rcases cu_.1 b with b|b
  ·exact(h d).2 k b
  ·rw[cs_.1 b];exact(c d).2
def FineL.one{n:Nat}{a:aE}(b:FineA n a):FineL n [a]:=fun d=>by
 refine⟨?_,fun k c=>?_⟩
 ·have e:=(b d).1;simp;omega
 ·rw[cs_.1 c];exact(b d).2
def FineL.two{m n:Nat}{a b:aE}(c:FineA m a)(d:FineA n b):FineL (m+n) [a,b]:=(FineL.one c).snoc d
def FineL.three{m n k:Nat}{a b c:aE}(d:FineA m a)(e:FineA n b)(f:FineA k c):FineL (m+n+k) [a,b,c]:=(FineL.two d e).snoc f
def FineA.node{m:Nat}{l:List aE}{op a:cD}{b:Nat}(h:FineL m l)(c:op=[118,97,114]->2<=l.length):FineA (m+1) (aU op b a l):=fun d=>by
 cases d with
 |zero=>exact⟨cU_ _,trivial⟩
 |succ d=>
  refine⟨?_,c,(h d).2⟩;have:=(h d).1;show 1+(l.map (cC d)).sum<=m+1
  omega
def bN{α:Type}(P:Nat->α->Prop)(p:Nat)(r:cB α):Prop:=∀a q,r=.ok (a,q)->∃m,p+m<=q/\P m a
def bN.bad{c:Type}{P:Nat->c->Prop}{p b:Nat}{ts:List bB}:bN P p (bad ts b):=fun a q h=>by cases h
def bN.err{b:Type}{P:Nat->b->Prop}{p n:Nat}:bN P p (.error n):=fun a q h=>by cases h
def bN.of_ok{b:Type}{P:Nat->b->Prop}{p m q:Nat}{a:b}(c:p+m<=q)(h:P m a):bN P p (.ok (a,q)):=fun d f e=>by cases e;exact⟨m,c,h⟩
def bN.take{b:Type}{P:Nat->b->Prop}{p:Nat}{ts:List bB}{x:cD}{r:cB b}(h:bN P p r):bN P p (aS ts x r):=by
 cases r with
 |error l=>exact bN.err
 |ok c=>
  obtain⟨a,q⟩:=c;obtain⟨m,e,d⟩:=h a q rfl;unfold aS;simp only;split
  ·exact bN.of_ok (by omega) d
  ·exact bN.bad
def bN.map{b c:Type}{P:Nat->b->Prop}{Q:Nat->c->Prop}{p d k:Nat}{r:cB b}{f:b->c}(h:bN P p r)(n:d+k<=p)(i:∀m a,P m a->Q (m+k) (f a)):bN Q d (cF f r):=by
 cases r with
 |error l=>exact bN.err
 |ok g=>
  obtain⟨a,q⟩:=g;obtain⟨m,j,e⟩:=h a q rfl;exact bN.of_ok (m:=m+k) (by omega) (i m a e)
def bN.bind{b c:Type}{P:Nat->b->Prop}{Q:Nat->c->Prop}{p d:Nat}{r:cB b}{f:b->Nat->cB c}(h:bN P p r)(e:∀m a q,P m a->p+m<=q->bN Q d (f a q)):bN Q d (bW r f):=by
 cases r with
 |error l=>exact bN.err
 |ok g=>
  obtain⟨a,q⟩:=g;obtain⟨m,j,i⟩:=h a q rfl;exact e m a q i j
def bN.low{c:Type}{P:Nat->c->Prop}{p b:Nat}{r:cB c}(h:bN P p r)(f:b<=p):bN P b r:=fun a q e=>by
 obtain⟨m,g,d⟩:=h a q e;exact⟨m,by omega,d⟩
section
variable {ts:List bB} {E:Nat->cB aE}
def rL(c:∀q,bN FineA q (E q)):∀(g p:Nat) (acc:List aE) (m0 p0:Nat),FineL m0 acc->p0+m0<=p->bN FineL p0 (dR E ts g p acc)
 |0,p,acc,_,_,_,_=>bN.err
 |g+1,p,acc,m0,p0,d,h=>by
  rw[dR];cases f:E p with
  |error l=>exact bN.err
  |ok e=>
   obtain⟨a,q⟩:=e;obtain⟨m,i,b⟩:=c p a q f;simp only;split
   ·exact rL c g (q+1) _ (m0+m) p0 (d.snoc b) (by omega)
   ·exact bN.of_ok (m:=m0+m) (by omega) (d.snoc b)
def rK(a:∀q,bN FineA q (E q))(p:Nat)(x y:cD):bN FineL (p+1) (eY E ts p x y):=by
 unfold eY;split
 ·refine bN.take ?_;unfold iP;split
  ·exact bN.of_ok (m:=0) (by omega) FineL.nil
  ·exact rL a _ _ _ 0 _ FineL.nil (by omega)
 ·exact bN.bad
def mK{op a:cD}{b:Nat}(c:op≠[118,97,114]):FineA 1 (aU op b a []):=FineA.node (m:=0) FineL.nil fun h=>absurd h c
def IC(b:∀q,bN FineA q (E q))(p:Nat):bN FineA p (eH E ts p):=by
 unfold eH;split
 ·exact bN.of_ok (m:=1) (by omega) (mK (by simp))
 split
 ·exact bN.of_ok (m:=1) (by omega) (mK (by simp))
 split
 ·exact((b (p+1)).take).low (by omega)
 split
 ·exact bN.map (k:=1) (rK b p _ _) (by omega) fun m a h=>FineA.node h (by simp)
 split
 ·split
  ·exact bN.map (k:=1) (rK b (p+1) _ _) (by omega) fun m a h=>FineA.node h (by simp)
  ·exact bN.of_ok (m:=1) (by omega) (mK (by simp))
 ·exact bN.bad
def zK(b:∀q,bN FineA q (E q)):∀(g:Nat) (n:aE) (p m0 p0:Nat),FineA m0 n->p0+m0<=p->bN FineA p0 (dK E ts g n p)
 |0,n,p,_,_,_,_=>bN.err
 |g+1,n,p,m0,p0,a,d=>by
  rw[dK];split
  ·have c:=(b (p+1)).take (ts:=ts) (x:=[93]);cases f:aS ts [93] (E (p+1)) with
   |error l=>exact bN.err
   |ok h=>
    obtain⟨i,q⟩:=h;obtain⟨m,j,e⟩:=c i q f;exact zK b g _ q (m0+m+1) p0 (FineA.node (FineL.two a e) (by simp)) (by omega)
  ·exact bN.of_ok d a
def rI(b:∀q,bN FineA q (E q)):∀(g p:Nat),bN FineA p (eV E ts g p)
 |0,p=>bN.err
 |g+1,p=>by
  rw[eV];split
  ·exact bN.map (k:=1) (rI b g (p+1)) (by omega) fun m a h=>FineA.node (FineL.one h) (by simp)
  split
  ·exact bN.map (k:=1) (rI b g (p+1)) (by omega) fun m a h=>FineA.node (FineL.one h) (by simp)
  ·exact bN.bind (IC b p) fun m a q d c=>zK b _ a q m p d c
def qT{L:Nat->cB aE}{k:Nat}(c:∀q,bN FineA q (L q)):∀(g:Nat) (n:aE) (q m0 p0:Nat),FineA m0 n->p0+m0<=q->bN FineA p0 (bJ L ts k g n q)
 |0,n,q,_,_,_,_=>bN.err
 |g+1,n,q,m0,p0,b,j=>by
  rw[bJ];split
  ·cases o:L (q+1) with
   |error l=>exact bN.err
   |ok h=>
    obtain⟨r,f⟩:=h;obtain⟨m,p,i⟩:=c _ r f o;have d:∀e a,FineA (m0+m+1) (aU e a [] [n,r]):=fun e a=>FineA.node (FineL.two b i) (by simp)
    simp only;split
    ·exact bN.of_ok (m:=m0+m+1) (by omega) (d _ _)
    ·exact qT c g _ f (m0+m+1) p0 (d _ _) (by omega)
  ·exact bN.of_ok j b
def rM(b:∀q,bN FineA q (E q)):∀(j p:Nat),bN FineA p (gI E ts j p)
 |0,p=>rI b _ p
 |j+1,p=>by
  rw[gI];exact bN.bind (rM b j p) fun m a q d c=>qT (fun q=>rM b j q) _ a q m p d c
def uT(ts:List bB):∀(f p:Nat),bN FineA p (eL ts f p)
 |0,p=>bN.err
 |f+1,p=>by
  rw[eL];exact rM (fun q=>uT ts f q) 5 p
def tT(b:∀q,bN FineA q (E q)):∀(g p:Nat) (acc:List aE) (m0 p0:Nat),FineL m0 acc->p0+m0<=p->bN FineL p0 (fH E ts g p acc)
 |0,p,acc,_,_,_,_=>bN.err
 |g+1,p,acc,m0,p0,a,d=>by
  rw[fH];split
  ·have c:=(b (p+1)).take (ts:=ts) (x:=[93]);cases f:aS ts [93] (E (p+1)) with
   |error l=>exact bN.err
   |ok h=>
    obtain⟨i,q⟩:=h;obtain⟨m,j,e⟩:=c i q f;exact tT b g q _ (m0+m) p0 (a.snoc e) (by omega)
  ·exact bN.of_ok d a
def MA(b:∀q,bN FineA q (E q))(p:Nat):bN FineA p (fG E ts p):=by
 unfold fG;split
 ·split
  ·exact bN.take (bN.map (k:=2) (rK b (p+1) _ _) (by omega) fun m a h=>FineA.node (FineL.one (FineA.node h (by simp))) (by simp))
  ·refine bN.bind ((tT b _ (p+1) [] 0 (p+1) FineL.nil (by omega)).take) fun m l q d f=>?_
   exact bN.take (bN.map (k:=m+1) (b q) (by omega) fun e v c=>FineA.le (FineA.node (d.snoc c) (by simp)) (by omega))
 ·exact bN.bad
def UO{B:Nat->cB aE}(a:∀q,bN FineA q (E q))(h:∀q,bN FineA q (B q))(p:Nat):bN FineA p (jV E B ts p):=by
 unfold jV;split
 ·unfold pX;split
  ·split
   ·exact bN.take (bN.map (k:=2) (a (p+3)) (by omega) fun m v e=>FineA.le (FineA.node (FineL.two (mK (by simp)) e) (by simp)) (by omega))
   ·exact bN.bad
  ·exact bN.bad
 split
 ·unfold sJ;refine bN.bind (a (p+1)) fun m c q f l=>bN.bind (h q) fun g b o i s=>?_
  split
  ·exact bN.map (k:=m+g+1) (h (o+1)) (by omega) fun r d j=>FineA.le (FineA.node (FineL.three f i j) (by simp)) (by omega)
  ·exact bN.of_ok (m:=m+g+1) (by omega) (FineA.node (FineL.two f i) (by simp))
 split
 ·unfold lD;exact bN.bind (a (p+1)) fun m c q f l=>bN.map (k:=m+1) (h q) (by omega) fun g b n=>FineA.le (FineA.node (FineL.two f n) (by simp)) (by omega)
 split
 ·unfold iK;split
  ·exact bN.of_ok (m:=1) (by omega) (mK (by simp))
  ·exact bN.take (bN.map (k:=1) (a (p+1)) (by omega) fun m v e=>FineA.node (FineL.one e) (by simp))
 split
 ·unfold jH;exact bN.take (bN.map (k:=1) (a (p+1)) (by omega) fun m v e=>FineA.node (FineL.one e) (by simp))
 ·exact MA a p
def qU{S:Nat->cB aE}(b:∀q,bN FineA q (S q)):∀(g p:Nat) (acc:List aE) (m0 p0:Nat),FineL m0 acc->p0+m0<=p->bN FineL p0 (dT S ts g p acc)
 |0,p,acc,_,_,_,_=>bN.err
 |g+1,p,acc,m0,p0,a,c=>by
  rw[dT];split
  ·exact bN.of_ok c a
  ·cases e:S p with
   |error l=>exact bN.err
   |ok f=>
    obtain⟨s,q⟩:=f;obtain⟨m,h,d⟩:=b p s q e;exact qU b g q _ (m0+m) p0 (a.snoc d) (by omega)
def zL(a:∀q,bN FineA q (E q)):∀(f p:Nat),bN FineA p (jO E ts f p)
 |0,p=>bN.err
 |f+1,p=>by
  rw[jO];split
  ·exact bN.map (k:=1) (bN.take (qU (fun q=>UO a (fun q=>zL a f q) q) _ (p+1) [] 0 (p+1) FineL.nil (by omega))) (by omega) fun m l h=>FineA.node h (by simp)
  ·exact bN.bad
def qS:∀(g p:Nat) (acc:List aE) (m0 p0:Nat),FineL m0 acc->p0+m0<=p->bN FineL p0 (dD ts g p acc)
 |0,p,acc,_,_,_,_=>bN.err
 |g+1,p,acc,m0,p0,b,c=>by
  have a:FineL (m0+1) (acc++[aU [112,97,114,97,109] (aT ts p).line (aT ts p).text []]):=b.snoc (mK (by simp))
  rw[dD];split
  ·split
   ·exact qS g (p+2) _ (m0+1) p0 a (by omega)
   ·exact bN.of_ok (m:=m0+1) (by omega) a
  ·exact bN.bad
def UQ{B:Nat->cB aE}(c:∀q,bN FineA q (B q))(p:Nat):bN FineA p (kS B ts p):=by
 unfold kS;split
 ·split
  ·split
   ·have a:bN FineL (p+3) (iM ts (p+3)):=by
     unfold iM;refine bN.take ?_;split
     ·exact bN.of_ok (m:=0) (by omega) FineL.nil
     ·exact qS _ (p+3) [] 0 (p+3) FineL.nil (by omega)
    exact bN.bind a fun m l q d g=>bN.map (k:=m+1) (c q) (by omega) fun f b e=>FineA.le (FineA.node (d.snoc e) (by simp)) (by omega)
   ·exact bN.bad
  ·exact bN.bad
 ·exact bN.bad
def rJ{F:Nat->cB aE}(b:∀q,bN FineA q (F q)):∀(g p:Nat) (acc:List aE) (m0 p0:Nat),FineL m0 acc->p0+m0<=p->bN FineL p0 (fI F ts g p acc)
 |0,p,acc,_,_,_,_=>bN.err
 |g+1,p,acc,m0,p0,a,c=>by
  rw[fI];split
  ·exact bN.of_ok c a
  ·cases f:F p with
   |error l=>exact bN.err
   |ok d=>
    obtain⟨s,q⟩:=d;obtain⟨m,h,e⟩:=b p s q f;exact rJ b g q _ (m0+m) p0 (a.snoc e) (by omega)
end
def UP(ts:List bB)(T:bY ts)(e:0<ts.length)(ks:List aE)(q:Nat)(h:nA ts=.ok (ks,q)):FineL ts.length ks:=by
 obtain⟨m,f,d⟩:=rJ (fun q=>UQ (fun b=>zL (fun q=>uT ts _ q) _ b) q) (ts.length+1) 0 [] 0 0 FineL.nil (by omega) ks q h
 have:=(T.progLoop (fun q a=>T.func (fun b c=>T.block (fun q a=>T.exprs q a) _ b c (by omega)) a) _ 0 [] e (by omega)).ok ks q h
 exact d.le (by omega)
def lS{l:cD}{ks:List aE}(h:cW l=.ok ks):FineL 2001 ks:=by
 unfold cW at h;split at h
 ·cases h
 rename_i e;split at h
 ·cases h
 split at h
 ·cases h
 rename_i c d;obtain⟨a,f⟩:=mT d;split at h
 ·cases h
 rename_i q b;cases h;exact(UP c a.ok a.some_ _ _ b).le (by omega)
def fF:Nat->aE->Prop
 |0,_=>False
 |d+1,n=>∀k∈n.kids,fF d k
def mV:∀(m:Nat) (a:aE),FineA m a->fF m a
 |0,a,h=>by
  have:=(h 1).1;simp only[cC] at this;omega
 |m+1,a,h=>fun k b=>mV m k fun d=>by
  have f:=(h (d+1)).1;have e:=(h (d+1)).2.2 k b;refine⟨?_,e⟩
  have:cC d k<=(a.kids.map (cC d)).sum:=by
   have:∀l:List aE,k∈l->cC d k<=(l.map (cC d)).sum:=by
    intro l;induction l with
    |nil=>intro h;cases h
    |cons x l c=>
     intro h;simp only[cE_,cH_];rcases cv_.1 h with rfl|h
     ·omega
     ·have:=c h;omega
   exact this _ b
  simp only[cC] at f;omega
def eX(fs:List aE)(d:Nat)(s:bD)(k:aE):bD:=
 if k.op==[112,97,114,97,109] then { declaresL s k with seen:=(declaresL s k).seen++[k.text] } else aP fs false d k s
def gP(fs:List aE)(d:Nat)(s:bD)(n:aE)(first:Bool):bD:=
 n.kids.foldl (eX fs d) { (if gJ n.text || !first then s.found n.line 6 else s) with seen:=[] }
def fM(fs:List aE)(d:Nat):List aE->List aE->bD->bD
 |_,[],s=>s
 |pre,n::rest,s=>fM fs d (pre++[n]) rest (gP fs d s n (dS pre n.text).isNone)
def lL(d:Nat)(ks:List aE):Nat × Nat:=
 match dS ks [109,97,105,110] with
 |none=>(5,0)
 |some m=>if 1<m.kids.length then (5,0) else ((fM ks d [] ks ⟨[],0,0⟩).kind,(fM ks d [] ks ⟨[],0,0⟩).line)
def cI(l:cD):Nat × Nat:=
 match cW l with
 |.error f=>f
 |.ok ks=>lL 2001 ks
def pP(t:bB):Prop:=t.sort=112\/(t.sort=107/\jK.contains t.text=true)\/t.sort=110\/(t.sort=48/\(dP 0 t.text).isSome=true)\/t.sort=115\/t.sort=101
def GH(ts:List bB):Prop:=∀t∈ts,pP t
def GO(l:cD)(line:Nat)(h:(cG l).ok=true):pP { sort:=(cG l).sort,text:=(cG l).text,line:=line }:=by
 cases l with
 |nil=>simp[cG] at h
 |cons c r=>
  rw[cG] at h ⊢
  split
  ·rename_i a;rw[if_pos a] at h;unfold iE at h ⊢
   split
   ·by_cases b:jK.contains ((c::r).take (bP (eR (fS c)) (c::r)))=true
    ·rw[if_pos b];exact ck_ (cl_ ⟨rfl,b⟩)
    ·rw[if_neg b];exact ck_ (ck_ (cl_ rfl))
   ·rename_i f;rw[if_neg f] at h;exact ck_ (ck_ (ck_ (cl_ ⟨rfl,h⟩)))
  ·rename_i a;rw[if_neg a] at h;split
   ·exact ck_ (ck_ (ck_ (ck_ (cl_ rfl))))
   ·rename_i d;rw[if_neg d] at h;unfold iD at h ⊢
    cases e:cX.find? (fun o=>cY (c::r) o) with
    |none=>rw[e] at h;simp at h
    |some o=>exact cl_ rfl
def UH(f:Nat):∀(a l:cD) (ts:List bB),eW f a l=.ok ts->GH ts:=by
 induction f with
 |zero=>intro a l ts h;cases h
 |succ f i=>
  intro a l ts h;by_cases d:l.length=0
  ·rw[nE _ _ _ d] at h;cases h;intro t b;rw[cs_.1 b];exact ck_ (ck_ (ck_ (ck_ (ck_ rfl))))
  ·cases c:(cG l).ok
   ·rw[nF _ _ _ d c] at h;cases h
   ·rw[mS _ _ _ d c _ rfl] at h;cases e:eW f (a++l.take ((cG l).size+blankL l.length (l.drop (cG l).size))) (l.drop ((cG l).size+blankL l.length (l.drop (cG l).size))) with
    |error n=>rw[e] at h;cases h
    |ok g=>
     rw[e] at h;cases h;intro t b;rcases cv_.1 b with rfl|b
     ·exact GO l _ c
     ·exact i _ _ g e t b
def zI{l:cD}{ts:List bB}(h:iC l=.ok ts):GH ts:=UH _ _ _ _ h
def GH.tk{ts:List bB}(h:GH ts)(p:Nat)(a:p<ts.length):pP (aT ts p):=by
 have:aT ts p=ts[p]:=by unfold aT;rw[cz_ a];rfl
 rw[this];exact h _ (cG_ a)
structure aM where
 sort:Nat
 n:Int
 s:cD
 l:List aM
def aM.ind{P:aM->Prop}(h:∀v,(∀x,x∈v.l->P x)->P v):∀v,P v
 |⟨a,b,c,l⟩=>h ⟨a,b,c,l⟩ fun x _=>aM.ind h x
def bG(n:Int):aM:=⟨0,n,[],[]⟩
def bT(b:Bool):aM:=⟨1,if b then 1 else 0,[],[]⟩
def bO(s:cD):aM:=⟨2,0,s,[]⟩
def bA(l:List aM):aM:=⟨3,0,[],l⟩
def bR:aM:=⟨0,0,[],[]⟩
noncomputable def aM.fold{α:Type}(f:Nat->Int->cD->List α->α)(v:aM):α:=
 aM.rec (motive_1:=fun _=>α) (motive_2:=fun _=>List α) (fun a n s _ c=>f a n s c) [] (fun _ _ h t=>h::t) v
def aM.fold_eq{b:Type}(f:Nat->Int->cD->List b->b)(v:aM):v.fold f=f v.sort v.n v.s (v.l.map (aM.fold f)):=by
 obtain⟨a,n,s,l⟩:=v;refine congrArg (f a n s) ?_;induction l with
 |nil=>rfl
 |cons x l c=>exact congrArg (aM.fold f x::·) c
noncomputable def aN(v:aM):Nat:=v.fold fun _ _ s c=>1+s.length+c.sum
def fJ(v:aM):aN v=1+v.s.length+(v.l.map aN).sum:=aM.fold_eq _ v
def oC{α:Type}:List (α->Bool)->List α->Bool
 |[],[]=>true
 |f::fs,x::xs=>f x && oC fs xs
 |_,_=>false
noncomputable def cO(x:aM):aM->Bool:=x.fold fun a n s c y=>a==y.sort && (n==y.n && (s==y.s && oC c y.l))
def VF(x y:aM):cO x y=(x.sort==y.sort && (x.n==y.n && (x.s==y.s && oC (x.l.map cO) y.l))):=congrFun (aM.fold_eq _ x) y
def zO:∀x y:aM,cO x y=true↔x=y:=by
 refine aM.ind fun x e y=>?_
 have d:∀(l:List aM),(∀v,v∈l->∀y,cO v y=true↔v=y)->∀m:List aM,oC (l.map cO) m=true↔l=m:=by
  intro l;induction l with
  |nil=>intro _ m;cases m<;>simp[oC]
  |cons a l c=>
   intro h m;cases m with
   |nil=>simp[oC]
   |cons b m=>simp[oC,h a (by simp) b,c (fun v f=>h v (by simp[f])) m]
 rw[VF];simp only[cO_,beq_iff_eq,d x.l e y.l];constructor
 ·rintro⟨j,g,k,i⟩;cases x;cases y;simp_all
 ·rintro rfl;simp
def kC:Nat->Nat->cD->cD
 |0,_,t=>t
 |f+1,n,t=>if n<10 then UInt8.ofNat (48+n)::t else kC f (n/10) (UInt8.ofNat (48+n%10)::t)
def iZ(n:Int):cD:=(if n<0 then [45] else [])++kC 20 n.natAbs []
def fU:cN->cD
 |[]=>[]
 |[x]=>x
 |x::r=>x++[44,32]++fU r
noncomputable def cH(v:aM):cD:=
 v.fold fun a n s c=>if a=0 then iZ n else if a=1 then (if n=1 then [116,114,117,101] else [102,97,108,115,101]) else if a=2 then [34]++s++[34] else [91]++fU c++[93]
def kQ(v:aM):cH v=if v.sort=0 then iZ v.n else if v.sort=1 then (if v.n=1 then [116,114,117,101] else [102,97,108,115,101]) else if v.sort=2 then [34]++v.s++[34] else [91]++fU (v.l.map cH)++[93]:=aM.fold_eq _ v
noncomputable def kR(v:aM):cD:=if v.sort=2 then v.s else cH v
def lR(n:Int):Int:=(n+9223372036854775808)%18446744073709551616-9223372036854775808
noncomputable def jZ(a b:aM):aM × Nat:=
 let v:=if a.sort=3 then bA (a.l++b.l) else bO (a.s++b.s)
 if 200<aN v then (bR,6) else (v,0)
def kA(op:cD)(x y:Int):aM × Nat:=
 if op=[43] then (bG (lR (x+y)),0)
 else if op=[45] then (bG (lR (x-y)),0)
 else if op=[42] then (bG (lR (x*y)),0)
 else if op=[60] then (bT (decide (x<y)),0)
 else if op=[60,61] then (bT (decide (x<=y)),0)
 else if y=0 then (bR,3)
 else if op=[47] then (bG (lR (x.tdiv y)),0)
 else (bG (lR (x.tmod y)),0)
def gZ:cD->cD->Bool
 |[],[]=>false
 |[],_::_=>true
 |_::_,[]=>false
 |a::l,b::m=>if a.toNat<b.toNat then true else if b.toNat<a.toNat then false else gZ l m
noncomputable def eZ(op:cD)(a b:aM):aM × Nat:=
 if op=[61,61] then (bT (cO a b),0)
 else if op=[33,61] then (bT (!cO a b),0)
 else if a.sort≠b.sort\/a.sort=1 then (bR,2)
 else if a.sort=0 then kA op a.n b.n
 else if op=[43] then jZ a b
 else if a.sort=2/\op=[60] then (bT (gZ a.s b.s),0)
 else if a.sort=2/\op=[60,61] then (bT (!gZ b.s a.s),0)
 else (bR,2)
def fW(op:cD)(a:aM):aM × Nat:=
 if op=[45,120]/\a.sort=0 then (bG (lR (-a.n)),0)
 else if op=[33,120]/\a.sort=1 then (bT (decide (a.n=0)),0)
 else (bR,2)
def iT:Nat->cD->cN
 |0,_=>[]
 |f+1,l=>if l=[] then [] else if bK l=0 then [] else l.take (bK l)::iT f (l.drop (bK l))
def eG(l:cD):cN:=iT l.length l
def eK(a:aM):aM × Nat:=
 if a.sort=3 then (bG a.l.length,0) else if a.sort=2 then (bG (eG a.s).length,0) else (bR,2)
def kF(a:aM):List aM:=if a.sort=2 then (eG a.s).map bO else a.l
def dL(a b:aM):aM × Nat:=
 if a.sort<2\/b.sort≠0 then (bR,2)
 else if b.n<0\/((kF a).length:Int)<=b.n then (bR,4)
 else ((kF a).getD b.n.toNat bR,0)
def cV:List aM->aM->aM->aM × Nat
 |[],_,v=>(v,0)
 |i::at',old,v=>
  if old.sort≠3\/i.sort≠0 then (bR,2)
  else if i.n<0\/(old.l.length:Int)<=i.n then (bR,4)
  else if (cV at' (old.l.getD i.n.toNat bR) v).2≠0 then (bR,(cV at' (old.l.getD i.n.toNat bR) v).2)
  else (bA (old.l.set i.n.toNat (cV at' (old.l.getD i.n.toNat bR) v).1),0)
def kY{l:cD}:bK l<=l.length:=by
 unfold bK;cases l with
 |nil=>simp
 |cons b r=>
  simp only[List.getElem?_cons_zero]
  have q:∀i c d,dN (b::r) i c d=true->i<(b::r).length:=by
   intro i c d h;unfold dN at h;rcases cR_ i (b::r).length with a|a
   ·exact a
   ·rw[cV_ a] at h;simp at h
  split
  ·simp
  split
  ·split
   ·have:=q 1 _ _ (by assumption);omega
   ·simp
  split
  ·generalize (if b.toNat=224 then 160 else 128)=f
   generalize (if b.toNat=237 then 159 else 191)=e
   split
   ·rename_i h;rw[cO_] at h;have:=q 2 _ _ h.2;omega
   ·simp
  split
  ·generalize (if b.toNat=240 then 144 else 128)=f
   generalize (if b.toNat=244 then 143 else 191)=e
   split
   ·rename_i h;rw[cO_] at h;have:=q 3 _ _ h.2;omega
   ·simp
  ·simp
def sS:∀(f:Nat) (l:cD),l.length<=f->iT f l=eG l:=by
 have h:∀(n f g:Nat) (l:cD),l.length<=n->l.length<=f->l.length<=g->iT f l=iT g l:=by
  intro n;induction n with
  |zero=>
   intro f g l e c i;have:l=[]:=dh_.1 (by omega)
   subst this;cases f<;>cases g<;>simp[iT]
  |succ n d=>
   intro f g l e c i;by_cases a:l=[]
   ·subst a;cases f<;>cases g<;>simp[iT]
   ·have j:0<l.length:=c7_.2 a;cases f with
    |zero=>omega
    |succ f=>
     cases g with
     |zero=>omega
     |succ g=>
      rw[iT,iT,if_neg a,if_neg a];by_cases b:bK l=0
      ·rw[if_pos b,if_pos b]
      ·rw[if_neg b,if_neg b,d f g (l.drop (bK l)) (by rw[c9_];omega) (by rw[c9_];omega) (by rw[c9_];omega)]
 exact fun f l a=>h l.length f l.length l cL a cL
def iS{l:cD}(a:l≠[])(b:bK l≠0):eG l=l.take (bK l)::eG (l.drop (bK l)):=by
 have c:0<l.length:=c7_.2 a;obtain⟨n,d⟩:∃n,l.length=n+1:=⟨l.length-1,by omega⟩
 rw[<-sS (n+1) l (by omega),iT,if_neg a,if_neg b,sS n _ (by rw[c9_];omega)]
def eB{l:cD}(h:l=[]\/bK l=0):eG l=[]:=by
 unfold eG;cases a:l.length with
 |zero=>rfl
 |succ n=>
  rw[iT];rcases h with h|h
  ·rw[if_pos h]
  ·rw[if_pos h];split<;>rfl
def uD(l:cD):(eG l).length<=l.length:=by
 have h:∀(n:Nat) (l:cD),l.length<=n->(eG l).length<=l.length:=by
  intro n;induction n with
  |zero=>
   intro l d;rw[eB (cl_ (dh_.1 (by omega)))];simp
  |succ n c=>
   intro l d;by_cases a:l=[]
   ·rw[eB (cl_ a)];simp
   by_cases b:bK l=0
   ·rw[eB (ck_ b)];simp
   have e:0<l.length:=c7_.2 a;rw[iS a b,ct_];have:=c (l.drop (bK l)) (by rw[c9_];omega)
   rw[c9_] at this;have:= @kY l;omega
 exact h l.length l cL
inductive aI where
 |begin (line:Nat) (seen:cN)
 |push (v:aM)
 |load (slot:Nat)
 |declare (slot:Nat)
 |assign (slot n:Nat)
 |jump (to_:Nat)
 |skip (to_:Nat)
 |shortcut (when:Bool) (to_:Nat)
 |truth
 |unary (op:cD)
 |binary (op:cD)
 |index
 |list (n:Nat)
 |length
 |read
 |call (f:Nat) (n:Nat)
 |give
 |drop
 |print
def aI.isBegin:aI->Bool
 |.begin _ _=>true
 |_=>false
structure eU where
 name:cD
 code:List aI
structure aJ where
 fn:eU
 next:Nat
 line:Nat
 seen:cN
 vars:List aM
 ops:List aM
structure cR where
 frames:List aJ
 tape:List Int
 out:cN
def aJ.push(f:aJ)(v:aM):aJ:={ f with ops:=f.ops++[v] }
def aJ.last(f:aJ):aM:=f.ops.getLast?.getD bR
def aJ.pop(f:aJ):aJ:={ f with ops:=f.ops.dropLast }
def aJ.many(f:aJ)(n:Nat):List aM:=f.ops.drop (f.ops.length-n)
def aJ.popMany(f:aJ)(n:Nat):aJ:={ f with ops:=f.ops.take (f.ops.length-n) }
noncomputable def iQ(r:aM × Nat):aM × Nat:=if r.2=0 then if 200<aN r.1 then (bR,6) else r else r
noncomputable def oH(whole:aM)(at_:List aM)(to_:aM):aM × Nat:=iQ (cV at_ whole to_)
noncomputable def aL(i:aI)(f:aJ):aJ × Nat:=
 match i with
 |.begin l s=>({ f with line:=l,seen:=s },0)
 |.push v=>(f.push v,0)
 |.load k=>(f.push (f.vars[k]?.getD bR),0)
 |.declare k=>({ f.pop with vars:=f.vars.take k++[f.last] },0)
 |.assign k n=>
  let g:=f.pop.popMany n
  let r:=oH (f.vars[k]?.getD bR) (f.pop.many n) f.last
  if r.2=0 then ({ g with vars:=f.vars.set k r.1 },0) else (g,r.2)
 |.jump t=>({ f with next:=t },0)
 |.skip t=>if f.last.sort=1 then (if f.last.n=1 then f.pop else { f.pop with next:=t },0) else (f.pop,2)
 |.shortcut w t=>if f.last.sort=1 then (if decide (f.last.n=1)=w then { f.pop.push f.last with next:=t } else f.pop,0) else (f.pop,2)
 |.truth=>if f.last.sort=1 then (f.pop.push f.last,0) else (f.pop,2)
 |.unary op=>let r:=fW (op++[120]) f.last;if r.2=0 then (f.pop.push r.1,0) else (f.pop,r.2)
 |.binary op=>let r:=eZ op f.pop.last f.last;if r.2=0 then (f.pop.pop.push r.1,0) else (f.pop.pop,r.2)
 |.index=>let r:=dL f.pop.last f.last;if r.2=0 then (f.pop.pop.push r.1,0) else (f.pop.pop,r.2)
 |.list n=>let r:=iQ (bA (f.many n),0);if r.2=0 then ((f.popMany n).push r.1,0) else (f.popMany n,r.2)
 |.length=>let r:=eK f.last;if r.2=0 then (f.pop.push r.1,0) else (f.pop,r.2)
 |.drop=>(f.pop,0)
 |_=>(f,0)
noncomputable def doI(tab:List eU)(i:aI)(below:List aJ)(f:aJ)(tape:List Int)(out:cN):cR × Nat:=
 match i with
 |.read=>
  match tape with
  |[]=>(⟨below++[f],tape,out⟩,7)
  |t::r=>(⟨below++[f.push (bG t)],r,out⟩,0)
 |.call k n=>
  if below.length+1=16 then (⟨below++[f.popMany n],tape,out⟩,5)
  else (⟨below++[f.popMany n,⟨tab[k]?.getD ⟨[],[]⟩,0,0,[],f.many n,[]⟩],tape,out⟩,0)
 |.give=>(⟨below.dropLast++(below.getLast?.map fun g=>g.push f.last).toList,tape,out⟩,0)
 |.print=>if out.length=50 then (⟨below++[f.pop],tape,out⟩,8) else (⟨below++[f.pop],tape,out++[kR f.last]⟩,0)
 |i=>let r:=aL i f;(⟨below++[r.1],tape,out⟩,r.2)
def aJ.fetch(f:aJ):Option (aI × aJ):=f.fn.code[f.next]?.map fun i=>(i,{ f with next:=f.next+1 })
noncomputable def dQ(tab:List eU):Nat->cR->Option (cR × Nat)
 |0,_=>none
 |k+1,m=>
  match m.frames.getLast? with
  |none=>some (m,1)
  |some f=>
   match f.fetch with
   |none=>none
   |some (i,g)=>
    let r:=doI tab i m.frames.dropLast g m.tape m.out
    if r.2≠0 then some r
    else if i.isBegin then some r
    else dQ tab k r.1
structure bC where
 time:Nat
 m:cR
 stop:Nat
def bZ(time stop:Nat):Nat:=if stop=0/\time=500 then 9 else stop
def dU:cN->cD->Nat
 |[],_=>0
 |x::l,name=>if x=name then l.length else dU l name
def dG(fs:List aE)(name:cD):Nat:=fs.findIdx fun f=>f.text==name
def bV(c:aE->Nat->List aI):List aE->Nat->List aI
 |[],_=>[]
 |a::l,p=>c a p++bV c l (p+(c a p).length)
def aF(fs:List aE)(seen:cN):Nat->aE->Nat->List aI
 |0,_,_=>[]
 |d+1,a,p=>
  let kids:=bV (aF fs seen d) a.kids p
  if a.op==[48] then [.push (bG (((dP 0 a.text).getD 0:Nat):Int))]
  else if a.op==[115] then [.push (bO a.text)]
  else if a.op==[98,111,111,108] then [.push (bT (a.text==[116,114,117,101]))]
  else if a.op==[110,97,109,101] then [.load (dU seen a.text)]
  else if a.op==[108,105,115,116] then kids++[.list a.kids.length]
  else if a.op==[105,110,100,101,120] then kids++[.index]
  else if a.op==[45,120] then kids++[.unary [45]]
  else if a.op==[33,120] then kids++[.unary [33]]
  else if a.op==[99,97,108,108] then
   kids++[if a.text==[108,101,110] then .length else if a.text==[114,101,97,100] then .read else .call (dG fs a.text) a.kids.length]
  else if a.op==[38,38] || a.op==[124,124] then
   match a.kids with
   |[l,r]=>
    let cl:=aF fs seen d l p
    let cr:=aF fs seen d r (p+cl.length+1)
    cl++[.shortcut (a.op==[124,124]) (p+cl.length+1+cr.length+1)]++cr++[.truth]
   |_=>[]
  else kids++[.binary a.op]
def bL(c:cN->aE->Nat->List aI × cN):cN->List aE->Nat->List aI
 |_,[],_=>[]
 |seen,a::l,p=>(c seen a p).1++bL c (c seen a p).2 l (p+(c seen a p).1.length)
def aX(fs:List aE):Nat->cN->aE->Nat->List aI × cN
 |0,seen,_,_=>([],seen)
 |d+1,seen,a,p=>
  let start:=aI.begin a.line seen
  let blk:=fun (b:aE) q=>bL (aX fs d) seen b.kids q
  if a.op==[118,97,114] then
   match a.kids with
   |[t,v]=>(start::aF fs seen d v (p+1)++[.declare seen.length],t.text::seen)
   |_=>([],seen)
  else if a.op==[115,101,116] then
   (start::bV (aF fs seen d) a.kids (p+1)++[.assign (dU seen a.text) (a.kids.length-1)],seen)
  else if a.op==[105,102] then
   match a.kids with
   |c::t::e=>
    let cc:=aF fs seen d c (p+1)
    let ct:=blk t (p+1+cc.length+1)
    let q:=p+1+cc.length+1+ct.length+1
    let ce:=match e with|[x]=>blk x q|_=>[]
    (start::cc++[.skip q]++ct++[.jump (q+ce.length)]++ce,seen)
   |_=>([],seen)
  else if a.op==[119,104,105,108,101] then
   match a.kids with
   |[c,b]=>
    let cc:=aF fs seen d c (p+1)
    let cb:=blk b (p+1+cc.length+1)
    (start::cc++[.skip (p+1+cc.length+1+cb.length+1)]++cb++[.jump p],seen)
   |_=>([],seen)
  else if a.op==[114,101,116,117,114,110] then
   match a.kids with
   |[v]=>(start::aF fs seen d v (p+1)++[.give],seen)
   |_=>([start,.push (bG 0),.give],seen)
  else if a.op==[112,114,105,110,116] then
   match a.kids with
   |[v]=>(start::aF fs seen d v (p+1)++[.print],seen)
   |_=>([],seen)
  else
   match a.kids with
   |[c]=>(start::aF fs seen d c (p+1)++[.drop],seen)
   |_=>([],seen)
def fP(fs:List aE)(d:Nat)(f:aE):eU:=
 let seen:=(f.kids.dropLast.map (·.text)).reverse
 ⟨f.text,bL (aX fs d) seen ((f.kids.getLast?.map (·.kids)).getD []) 0++[.push (bG 0),.give]⟩
def dC(fs:List aE)(d:Nat):List eU:=fs.map (fP fs d)
def gD(fs:List aE)(d:Nat)(tape:List Int):cR:=⟨[⟨(dC fs d)[dG fs [109,97,105,110]]?.getD ⟨[],[]⟩,0,0,[],[],[]⟩],tape,[]⟩
structure eJ where
 h:Nat
 v:Nat
 e:Option Nat
 b:Bool
def eP(D:bX)(T:Nat->eJ)(q h v:Nat)(e:Option Nat):Prop:=D q/\(T q).h=h/\(T q).v<=v/\((T q).e=none\/(T q).e=e)
def iJ(ar:Nat->Option Nat)(D:bX)(T:Nat->eJ)(p:Nat)(i:aI):Prop:=
 (T p).b=i.isBegin/\(T p).h<=p/\
 match i with
 |.begin _ s=>s.length<=(T p).v/\eP D T (p+1) (T p).h (T p).v (some s.length)
 |.push _=>eP D T (p+1) ((T p).h+1) (T p).v (T p).e
 |.load k=>k<(T p).v/\eP D T (p+1) ((T p).h+1) (T p).v (T p).e
 |.declare k=>1<=(T p).h/\k<=(T p).v/\k<=90000/\(T p).e=some k/\eP D T (p+1) ((T p).h-1) (k+1) (T p).e
 |.assign k n=>n+1<=(T p).h/\k<(T p).v/\eP D T (p+1) ((T p).h-(n+1)) (T p).v (T p).e
 |.jump q=>(p<q\/(T q).b=true)/\eP D T q (T p).h (T p).v (T p).e
 |.skip q=>1<=(T p).h/\p<q/\eP D T q ((T p).h-1) (T p).v (T p).e/\eP D T (p+1) ((T p).h-1) (T p).v (T p).e
 |.shortcut _ q=>1<=(T p).h/\p<q/\eP D T q (T p).h (T p).v (T p).e/\eP D T (p+1) ((T p).h-1) (T p).v (T p).e
 |.truth=>1<=(T p).h/\eP D T (p+1) (T p).h (T p).v (T p).e
 |.unary _=>1<=(T p).h/\eP D T (p+1) (T p).h (T p).v (T p).e
 |.length=>1<=(T p).h/\eP D T (p+1) (T p).h (T p).v (T p).e
 |.binary _=>2<=(T p).h/\eP D T (p+1) ((T p).h-1) (T p).v (T p).e
 |.index=>2<=(T p).h/\eP D T (p+1) ((T p).h-1) (T p).v (T p).e
 |.list n=>n<=(T p).h/\eP D T (p+1) ((T p).h-n+1) (T p).v (T p).e
 |.read=>eP D T (p+1) ((T p).h+1) (T p).v (T p).e
 |.call k n=>n<=(T p).h/\ar k=some n/\eP D T (p+1) ((T p).h-n+1) (T p).v (T p).e
 |.give=>1<=(T p).h
 |.drop=>1<=(T p).h/\eP D T (p+1) ((T p).h-1) (T p).v (T p).e
 |.print=>1<=(T p).h/\eP D T (p+1) ((T p).h-1) (T p).v (T p).e
def OR(L:Nat->eJ->Prop)(lo hi:Nat)(q:Nat):Prop:=(lo<=q/\q<=hi)\/∃y,L q y
def bM(ar:Nat->Option Nat)(L:Nat->eJ->Prop)(p:Nat)(c:List aI)(h v:Nat)(e:Option Nat)(h' v':Nat)(e':Option Nat):Prop:=
 ∃T:Nat->eJ,(∀q y,L q y->T q=y)/\(T p).h=h/\(T p).v<=v/\((T p).e=none\/(T p).e=e)/\
  (T (p+c.length)).h=h'/\(T (p+c.length)).v=v'/\(T (p+c.length)).e=e'/\
  ∀j i,c[j]?=some i->iJ ar (OR L p (p+c.length)) T (p+j) i
def eP.same{D b:bX}{T T':Nat->eJ}{q h v:Nat}{e:Option Nat}(f:eP D T q h v e)(c:D q->b q/\(T' q).h=(T q).h/\(T' q).v<=(T q).v/\((T' q).e=none\/(T' q).e=(T q).e)):eP b T' q h v e:=by
 obtain⟨j,d,m,i⟩:=f;obtain⟨k,g,l,a⟩:=c j;refine⟨k,by rw[g,d],by omega,?_⟩
 rcases a with a|a
 ·exact cl_ a
 ·rw[a];exact i
def iJ.same{ar:Nat->Option Nat}{D e:bX}{T T':Nat->eJ}{p:Nat}{i:aI}(f:iJ ar D T p i)(c:T' p=T p)
 (b:∀q,D q->e q/\(T' q).h=(T q).h/\(T' q).v<=(T q).v/\((T' q).e=none\/(T' q).e=(T q).e)) (k:∀q,D q->q<=p->(T q).b=true->(T' q).b=true):iJ ar e T' p i:=by
 obtain⟨j,g,a⟩:=f;refine⟨by rw[c];exact j,by rw[c];exact g,?_⟩
 cases i<;>simp only at a ⊢<;>try rw[c]
 case jump q=>
  refine⟨?_,a.2.same (b _)⟩;rcases a.1 with h|h
  ·exact cl_ h
  ·rcases cR_ p q with d|d
   ·exact cl_ d
   ·exact ck_ (k q a.2.1 d h)
 all_goals first
  |exact a
  |exact a.same (b _)
  |exact⟨a.1,a.2.same (b _)⟩
  |exact⟨a.1,a.2.1,a.2.2.same (b _)⟩
  |exact⟨a.1,a.2.1,a.2.2.1.same (b _),a.2.2.2.same (b _)⟩
  |exact⟨a.1,a.2.1,a.2.2.1,a.2.2.2.1,a.2.2.2.2.same (b _)⟩
def bM.append{ar:Nat->Option Nat}{L:Nat->eJ->Prop}{p:Nat}{c c':List aI}{h v s v1 r v2:Nat}{e w t:Option Nat}(a:bM ar L p c h v e s v1 w)(b:bM ar L (p+c.length) c' s v1 w r v2 t)
 (F:∀q y,L q y->q<=p\/p+c.length+c'.length<=q) (I:c≠[]):bM ar L p (c++c') h v e r v2 t:=by
 obtain⟨T,n,x,z,C,H,E,D,G⟩:=a;obtain⟨U,u1,u2,u3,u4,u5,u6,u7,u8⟩:=b;have B:0<c.length:=c7_.2 I;have f:(c++c').length=c.length+c'.length:=cp_;refine⟨fun q=>if q<p+c.length then T q else U q,fun q y d=>?_,?_,?_,?_,?_,?_,?_,fun j i m=>?_⟩
 ·rcases F q y d with h|h
  ·simp only[if_pos (show q<p+c.length by omega)];exact n q y d
  ·simp only[if_neg (show ¬q<p+c.length by omega)];exact u1 q y d
 ·simp only[if_pos (show p<p+c.length by omega)];exact x
 ·simp only[if_pos (show p<p+c.length by omega)];exact z
 ·simp only[if_pos (show p<p+c.length by omega)];exact C
 ·simp only[if_neg (show ¬p+(c++c').length<p+c.length by omega)];rw[f,<-dX_];exact u5
 ·simp only[if_neg (show ¬p+(c++c').length<p+c.length by omega)];rw[f,<-dX_];exact u6
 ·simp only[if_neg (show ¬p+(c++c').length<p+c.length by omega)];rw[f,<-dX_];exact u7
 ·rcases cR_ j c.length with k|k
  ·rw[cX_ k] at m;refine(G j i m).same (by simp only[if_pos (show p+j<p+c.length by omega)]) (fun q d=>?_) (fun q d o l=>?_)
   ·rcases cR_ q (p+c.length) with h|h
    ·rw[if_pos h];exact⟨d.imp (fun d=>⟨d.1,by omega⟩) id,rfl,cL,ck_ rfl⟩
    ·rw[if_neg (show ¬q<p+c.length by omega)]
     rcases dd_ h with h|h
     ·subst h;exact⟨cl_ ⟨by omega,by omega⟩,by rw[u2,H],by rw[E];exact u3,by rw[D];exact u4⟩
     ·rcases d with d|⟨y,g⟩
      ·omega
      ·rw[n q y g,u1 q y g];exact⟨ck_ ⟨y,g⟩,rfl,cL,ck_ rfl⟩
   ·simp only[if_pos (show q<p+c.length by omega)];exact l
  ·rw[cN_ k] at m;have u:=u8 (j-c.length) i m;rw[show p+c.length+(j-c.length)=p+j by omega] at u
   have A:j-c.length<c'.length:=(cQ_.1 m).1;refine u.same (by simp only[if_neg (show ¬p+j<p+c.length by omega)]) (fun q d=>?_) (fun q d o l=>?_)
   ·rcases d with d|⟨y,g⟩
    ·rw[if_neg (show ¬q<p+c.length by omega)]
     exact⟨cl_ ⟨by omega,by omega⟩,rfl,cL,ck_ rfl⟩
    ·refine⟨ck_ ⟨y,g⟩,?_⟩;split
     ·rw[n q y g,u1 q y g];exact⟨rfl,cL,ck_ rfl⟩
     ·exact⟨rfl,cL,ck_ rfl⟩
   ·rcases d with d|⟨y,g⟩
    ·simp only[if_neg (show ¬q<p+c.length by omega)];exact l
    ·split
     ·rw[n q y g,<-u1 q y g];exact l
     ·exact l
def bM.nil(ar:Nat->Option Nat)(p h v:Nat)(e:Option Nat)(L:Nat->eJ->Prop)(k:∀q y,L q y->q=p->y.h=h/\y.v=v/\y.e=e)(l:∀q y z,L q y->L q z->y=z):bM ar L p [] h v e h v e:=by
 classical
 refine⟨fun q=>if hq:∃y,L q y then hq.choose else ⟨h,v,e,false⟩,fun q y d=>?_,?_⟩
 ·have a:∃y,L q y:=⟨y,d⟩;simp only[dif_pos a];exact l q _ _ a.choose_spec d
 ·simp only[cA_,Nat.add_zero];split
  ·rename_i a;obtain⟨c,g,f⟩:=k p _ a.choose_spec rfl;exact⟨c,by omega,ck_ f,c,g,f,fun j i b=>by simp at b⟩
  ·exact⟨rfl,cL,ck_ rfl,rfl,rfl,rfl,fun j i b=>by simp at b⟩
structure pW(ar:Nat->Option Nat)(c:List aI)(T:Nat->eJ):Prop where
 ins:∀j i,c[j]?=some i->iJ ar (fun q=>q<c.length) T j i
 len:c.length<=80000
def jA(c:List aI):Prop:=(∃l s r,c=.begin l s::r)\/∃v,c=[.push v,.give]
structure cQ(ar:Nat->Option Nat)(f:aJ)(more:Nat):Prop where
 code:∃T,pW ar f.fn.code T/\(T f.next).h=f.ops.length+more/\(T f.next).v<=f.vars.length/\((T f.next).e=none\/(T f.next).e=some f.seen.length)
 next:f.next<f.fn.code.length
 seen:f.seen.length<=f.vars.length
 vars:f.vars.length<=90001
structure kV(ar:Nat->Option Nat)(tab:List eU):Prop where
 fn:∀k n,ar k=some n->∃f T,tab[k]?=some f/\pW ar f.code T/\(T 0).h=0/\(T 0).v<=n/\(T 0).e=none/\
  jA f.code
structure oK(ar:Nat->Option Nat)(m:cR):Prop where
 low:∀f∈m.frames.dropLast,cQ ar f 1
 top:∀f,m.frames.getLast?=some f->cQ ar f 0
 deep:m.frames.length<=16
def fB{b:Type}(l:List b)(a:b):(l++[a]).getLast?=some a:=by simp
def gE{b:Type}(l:List b)(a:b):(l++[a]).dropLast=l:=by simp
def oK.snoc{ar:Nat->Option Nat}{a:List aJ}{f:aJ}{t:List Int}{o:cN}(d:∀g∈a,cQ ar g 1)(c:cQ ar f 0)(e:a.length+1<=16):oK ar ⟨a++[f],t,o⟩:=
 ⟨by simp only[gE];exact d,fun g b=>by simp only[fB] at b;cases b;exact c,by simp;omega⟩
def cQ.flow{ar:Nat->Option Nat}{T:Nat->eJ}{f g:aJ}{h v:Nat}{e:Option Nat}(l:pW ar f.fn.code T)(j:eP (fun q=>q<f.fn.code.length) T g.next h v e)(b:g.fn=f.fn)(m:h=g.ops.length)(n:v<=g.vars.length)(d:e=none\/e=some g.seen.length)
 (i:g.seen.length<=g.vars.length) (k:g.vars.length<=90001):cQ ar g 0:=by
 obtain⟨c,o,p,a⟩:=j;refine⟨⟨T,by rw[b];exact l,by omega,by omega,?_⟩,by rw[b];exact c,i,k⟩
 rcases a with a|a
 ·exact cl_ a
 ·rw[a];exact d
def aJ.pop_len(f:aJ):f.pop.ops.length=f.ops.length-1:=by simp[aJ.pop]
def aJ.push_len(f:aJ)(v:aM):(f.push v).ops.length=f.ops.length+1:=by simp[aJ.push]
def aJ.popMany_len(f:aJ)(n:Nat):(f.popMany n).ops.length=f.ops.length-n:=by simp[aJ.popMany]
def IV{ar:Nat->Option Nat}{T:Nat->eJ}{f:aJ}{i:aI}(d:pW ar f.fn.code T)(hi:iJ ar (fun q=>q<f.fn.code.length) T f.next i)
 (o:(T f.next).h=f.ops.length) (g:(T f.next).v<=f.vars.length) (c:(T f.next).e=none\/(T f.next).e=some f.seen.length) (b:f.seen.length<=f.vars.length) (e:f.vars.length<=90001)
 (B:i≠.give) (A:i≠.read) (y:i≠.print) (t:∀k n,i≠.call k n) (r:aJ × Nat) (a:r=aL i { f with next:=f.next+1 }):
 r.1.seen.length<=r.1.vars.length/\(r.2=0->cQ ar r.1 0):=by
 obtain⟨_,_,hi⟩:=hi;have u:=b;cases i with
 |give=>exact absurd rfl B
 |read=>exact absurd rfl A
 |print=>exact absurd rfl y
 |call k n=>exact absurd rfl (t k n)
 |begin l s=>
  simp only[aL] at a hi;subst a;exact⟨by simp only;omega,fun _=>cQ.flow (f:=f) d hi.2 rfl o g (ck_ rfl) (by simp only;omega) e⟩
 |push v=>
  simp only[aL] at a hi;subst a;exact⟨b,fun _=>cQ.flow (f:=f) d hi rfl (by rw[aJ.push_len];simp only;omega) g c b e⟩
 |load k=>
  simp only[aL] at a hi;subst a;exact⟨b,fun _=>cQ.flow (f:=f) d hi.2 rfl (by rw[aJ.push_len];simp only;omega) g c b e⟩
 |declare k=>
  simp only[aL] at a hi;subst a;obtain⟨F,D,E,z,x⟩:=hi;have p:f.seen.length=k:=by rcases c with c|c<;>rw[z] at c<;>cases c;rfl
  have m:(f.vars.take k++[aJ.last { f with next:=f.next+1 }]).length=k+1:=by simp;omega
  exact⟨by show f.seen.length<=(f.vars.take k++[_]).length;rw[m];omega,fun _=>cQ.flow (f:=f) d x rfl (by show _=(aJ.pop _).ops.length;rw[aJ.pop_len];simp only;omega) (by show _<=(f.vars.take k++[_]).length;rw[m];omega) c (by show f.seen.length<=(f.vars.take k++[_]).length;rw[m];omega) (by show (f.vars.take k++[_]).length<=_;rw[m];omega)⟩
 |assign k n=>
  simp only[aL] at a hi;split at a
  ·subst a;refine⟨by simp only[dp_];exact b,fun _=>cQ.flow (f:=f) d hi.2.2 rfl ?_ (by simp only[dp_];exact g) c (by simp only[dp_];exact b) (by simp only[dp_];exact e)⟩
   show _=(aJ.popMany _ n).ops.length
   rw[aJ.popMany_len,aJ.pop_len];simp only;omega
  ·subst a;rename_i j;exact⟨b,fun h=>absurd h j⟩
 |jump q=>
  simp only[aL] at a hi;subst a;exact⟨b,fun _=>cQ.flow (f:=f) d hi.2 rfl o g c b e⟩
 |skip q=>
  simp only[aL] at a hi;split at a
  ·subst a;refine⟨?_,fun _=>?_⟩
   ·split<;>exact b
   ·split
    ·exact cQ.flow (f:=f) d hi.2.2.2 rfl (by rw[aJ.pop_len];simp only;omega) g c b e
    ·exact cQ.flow (f:=f) d hi.2.2.1 rfl (by show _=(aJ.pop _).ops.length;rw[aJ.pop_len];simp only;omega) g c b e
  ·subst a;exact⟨b,fun h=>absurd h (by simp)⟩
 |shortcut w q=>
  simp only[aL] at a hi;split at a
  ·subst a;refine⟨?_,fun _=>?_⟩
   ·split<;>exact b
   ·split
    ·exact cQ.flow (f:=f) d hi.2.2.1 rfl (by show _=(aJ.push (aJ.pop _) _).ops.length;rw[aJ.push_len,aJ.pop_len];simp only;omega) g c b e
    ·exact cQ.flow (f:=f) d hi.2.2.2 rfl (by rw[aJ.pop_len];simp only;omega) g c b e
  ·subst a;exact⟨b,fun h=>absurd h (by simp)⟩
 |truth=>
  simp only[aL] at a hi;split at a
  ·subst a;exact⟨b,fun _=>cQ.flow (f:=f) d hi.2 rfl (by rw[aJ.push_len,aJ.pop_len];simp only;omega) g c b e⟩
  ·subst a;exact⟨b,fun h=>absurd h (by simp)⟩
 |unary C=>
  simp only[aL] at a hi;split at a
  ·subst a;exact⟨b,fun _=>cQ.flow (f:=f) d hi.2 rfl (by rw[aJ.push_len,aJ.pop_len];simp only;omega) g c b e⟩
  ·subst a;rename_i j;exact⟨b,fun h=>absurd h j⟩
 |length=>
  simp only[aL] at a hi;split at a
  ·subst a;exact⟨b,fun _=>cQ.flow (f:=f) d hi.2 rfl (by rw[aJ.push_len,aJ.pop_len];simp only;omega) g c b e⟩
  ·subst a;rename_i j;exact⟨b,fun h=>absurd h j⟩
 |binary C=>
  simp only[aL] at a hi;split at a
  ·subst a;exact⟨b,fun _=>cQ.flow (f:=f) d hi.2 rfl (by rw[aJ.push_len,aJ.pop_len,aJ.pop_len];simp only;omega) g c b e⟩
  ·subst a;rename_i j;exact⟨b,fun h=>absurd h j⟩
 |index=>
  simp only[aL] at a hi;split at a
  ·subst a;exact⟨b,fun _=>cQ.flow (f:=f) d hi.2 rfl (by rw[aJ.push_len,aJ.pop_len,aJ.pop_len];simp only;omega) g c b e⟩
  ·subst a;rename_i j;exact⟨b,fun h=>absurd h j⟩
 |list n=>
  simp only[aL] at a hi;split at a
  ·subst a;exact⟨b,fun _=>cQ.flow (f:=f) d hi.2 rfl (by rw[aJ.push_len,aJ.popMany_len];simp only;omega) g c b e⟩
  ·subst a;rename_i j;exact⟨b,fun h=>absurd h j⟩
 |drop=>
  simp only[aL] at a hi;subst a;exact⟨b,fun _=>cQ.flow (f:=f) d hi.2 rfl (by rw[aJ.pop_len];simp only;omega) g c b e⟩
structure fY(ar:Nat->Option Nat)(m:cR):Prop where
 ok:oK ar m
 start:∀f∈m.frames,jA f.fn.code
def cQ.pushed{ar:Nat->Option Nat}{f:aJ}(h:cQ ar f 1)(v:aM):cQ ar (f.push v) 0:=by
 obtain⟨⟨T,c,i,g,b⟩,e,a,d⟩:=h;exact⟨⟨T,c,by show (T f.next).h=(f.ops++[v]).length+0;simp;omega,g,b⟩,e,a,d⟩
def tI{b:List eU}{i:aI}{a:List aJ}{f:aJ}{t:List Int}{o:cN}(g:i≠.give)(e:i≠.read)(c:i≠.print)(d:∀k n,i≠.call k n):doI b i a f t o=(⟨a++[(aL i f).1],t,o⟩,(aL i f).2):=by
 cases i<;>first|rfl|exact absurd rfl g|exact absurd rfl e|exact absurd rfl c|exact absurd rfl (d _ _)
def jL(i:aI)(f:aJ):(aL i f).1.fn=f.fn:=by
 cases i<;>simp only[aL]<;>(repeat' split)<;>rfl
def yZ{ar:Nat->Option Nat}{A:List eU}(ht:kV ar A){d:List aJ}{f:aJ}{t:List Int}{o:cN}(h:fY ar ⟨d++[f],t,o⟩){i:aI}{g:aJ}(I:f.fetch=some (i,g)):
 (∀x∈(doI A i d g t o).1.frames,x.seen.length<=x.vars.length)/\(doI A i d g t o).1.frames.length<=16/\((doI A i d g t o).2=0->fY ar (doI A i d g t o).1):=by
 have q:∀x∈d,cQ ar x 1:=by have:=h.ok.low;simpa only[gE] using this
 have Q:cQ ar f 0:=h.ok.top f (fB _ _);have w:d.length+1<=16:=by have:=h.ok.deep;simpa using this
 have z:∀x∈d,jA x.fn.code:=fun x m=>h.start x (by simp[m])
 have H:jA f.fn.code:=h.start f (by simp)
 obtain⟨⟨T,K,hh,W,X⟩,ac,C,V⟩:=Q
 obtain⟨rfl,hi⟩:g={ f with next:=f.next+1 }/\f.fn.code[f.next]?=some i:=by
  unfold aJ.fetch at I;cases m:f.fn.code[f.next]? with
  |none=>rw[m] at I;cases I
  |some j=>rw[m] at I;simp at I;exact⟨I.2.symm,by rw[I.1]⟩
 have D:=K.ins _ _ hi;have L:∀x∈d,x.seen.length<=x.vars.length:=fun x m=>(q x m).seen
 by_cases hn:i=.give
 ·subst hn;rcases dl_ d with rfl|⟨b,x,rfl⟩
  ·refine⟨by simp[doI],by simp[doI],fun _=>⟨⟨by simp[doI],by simp[doI],by simp[doI]⟩,by simp[doI]⟩⟩
  ·rw[dm_] at*;have e:doI A .give (b++[x]) { f with next:=f.next+1 } t o=(⟨b++[x.push (aJ.last { f with next:=f.next+1 })],t,o⟩,0):=by simp[doI]
   rw[e];refine⟨fun y u=>?_,by simp at w ⊢;omega,fun _=>⟨oK.snoc (fun y u=>q y (by simp[u])) ((q x (by simp)).pushed _) (by simp at w;omega),fun y u=>?_⟩⟩
   ·rcases cu_.1 u with u|u
    ·exact L y (by simp[u])
    ·rw[cs_.1 u];exact L x (by simp)
   ·rcases cu_.1 u with u|u
    ·exact z y (by simp[u])
    ·rw[cs_.1 u];exact z x (by simp)
 have p:∀y:aJ,y.seen.length<=y.vars.length->∀x∈d++[y],x.seen.length<=x.vars.length:=fun y u x m=>by
  rcases cu_.1 m with m|m
  ·exact L x m
  ·rw[cs_.1 m];exact u
 have B:∀y:aJ,cQ ar y 0->y.fn=f.fn->∀t o,fY ar ⟨d++[y],t,o⟩:=fun y u aa t o=>⟨oK.snoc q u w,fun x m=>by
  rcases cu_.1 m with m|m
  ·exact z x m
  ·rw[cs_.1 m,aa];exact H⟩
 by_cases Z:i=.read
 ·subst Z;cases t with
  |nil=>exact⟨p _ C,by simp[doI];omega,fun J=>by simp[doI] at J⟩
  |cons a r=>exact⟨p _ C,by simp[doI];omega,fun _=>B (aJ.push { f with next:=f.next+1 } (bG a)) (cQ.flow (f:=f) K D.2.2 rfl (by rw[aJ.push_len];simp only;omega) W X C V) rfl _ _⟩
 by_cases Y:i=.print
 ·subst Y;simp only[doI];split
  ·exact⟨p _ C,by simp;omega,fun J=>by simp at J⟩
  ·exact⟨p _ C,by simp;omega,fun _=>B (aJ.pop { f with next:=f.next+1 }) (cQ.flow (f:=f) K D.2.2.2 rfl (by rw[aJ.pop_len];simp only;omega) W X C V) rfl _ _⟩
 by_cases hk:∃k n,i=.call k n
 ·obtain⟨k,n,rfl⟩:=hk;simp only[doI];split
  ·exact⟨p _ C,by simp;omega,fun J=>by simp at J⟩
  ·rename_i hd;obtain⟨_,_,ab,S,N⟩:=D;obtain⟨c,U,c1,c2,c3,c4,c5,c6⟩:=ht.fn k n S;have F:(aJ.many { f with next:=f.next+1 } n).length=n:=by simp[aJ.many];omega
   rw[c1]
   have G:cQ ar ⟨c,0,0,[],aJ.many { f with next:=f.next+1 } n,[]⟩ 0:=by
    refine⟨⟨U,c2,by simp[c3],by simp only[F];exact c4,cl_ c5⟩,?_,by simp,by simp only[F];have:=c2.len;have:=K.len;have:=(K.ins _ _ hi).2.1;omega⟩
    rcases c6 with ⟨l,s,r,e⟩|⟨v,e⟩<;>simp[e]
   have E:cQ ar (aJ.popMany { f with next:=f.next+1 } n) 1:=by
    obtain⟨f1,f2,f3,P⟩:=N;refine⟨⟨T,K,?_,cw_ f3 W,?_⟩,f1,C,V⟩
    ·rw[aJ.popMany_len];show (T (f.next+1)).h=_;simp only;omega
    ·rcases P with P|P
     ·exact cl_ P
     ·show (T (f.next+1)).e=none\/(T (f.next+1)).e=_;rw[P];exact X
   have e1:d++[aJ.popMany { f with next:=f.next+1 } n,(⟨c,0,0,[],aJ.many { f with next:=f.next+1 } n,[]⟩:aJ)]=(d++[aJ.popMany { f with next:=f.next+1 } n])++[(⟨c,0,0,[],aJ.many { f with next:=f.next+1 } n,[]⟩:aJ)]:=by simp
   simp only[Option.getD_some];rw[e1];refine⟨fun x m=>?_,by simp;omega,fun _=>⟨oK.snoc (fun x m=>?_) G (by simp;omega),fun x m=>?_⟩⟩
   ·rcases cu_.1 m with m|m
    ·exact p _ E.seen x m
    ·rw[cs_.1 m];exact G.seen
   ·rcases cu_.1 m with m|m
    ·exact q x m
    ·rw[cs_.1 m];exact E
   ·rcases cu_.1 m with m|m
    ·rcases cu_.1 m with m|m
     ·exact z x m
     ·rw[cs_.1 m];exact H
    ·rw[cs_.1 m];exact c6
 have M:∀k n,i≠.call k n:=fun k n e=>hk ⟨k,n,e⟩
 rw[tI hn Z Y M];have O:=IV K D hh W X C V hn Z Y M _ rfl;exact⟨p _ O.1,by simp;omega,fun J=>B _ (O.2 J) (jL _ _) _ _⟩
def kO(f:aJ):Nat:=if f.next=0 then 2 else if f.fn.code.length=2 then 1 else 4*(f.fn.code.length-f.next)
def wgts(l:List aJ):Nat:=(l.map kO).sum
def BP{ar:Nat->Option Nat}{T:Nat->eJ}{f:aJ}{i:aI}(hi:iJ ar (fun q=>q<f.fn.code.length) T f.next i)
 (d:i.isBegin=false) (m:i≠.give) (j:i≠.read) (g:i≠.print) (e:∀k n,i≠.call k n):
 (aL i { f with next:=f.next+1 }).2=0->(f.next<(aL i { f with next:=f.next+1 }).1.next/\(aL i { f with next:=f.next+1 }).1.next<f.fn.code.length)\/(T (aL i { f with next:=f.next+1 }).1.next).b=true/\(aL i { f with next:=f.next+1 }).1.next<f.fn.code.length:=by
 obtain⟨_,_,hi⟩:=hi;intro a;cases i with
 |give=>exact absurd rfl m
 |read=>exact absurd rfl j
 |print=>exact absurd rfl g
 |call k n=>exact absurd rfl (e k n)
 |begin l s=>simp[aI.isBegin] at d
 |jump q=>
  simp only at hi;obtain⟨b|b,c⟩:=hi
  ·exact cl_ ⟨b,c.1⟩
  ·exact ck_ ⟨b,c.1⟩
 |skip q=>
  simp only[aL] at hi a ⊢
  split
  ·simp only;split
   ·exact cl_ ⟨cW_ _,hi.2.2.2.1⟩
   ·exact cl_ ⟨hi.2.1,hi.2.2.1.1⟩
  ·rename_i h;rw[if_neg h] at a;simp at a
 |shortcut w q=>
  simp only[aL] at hi a ⊢
  split
  ·simp only;split
   ·exact cl_ ⟨hi.2.1,hi.2.2.1.1⟩
   ·exact cl_ ⟨cW_ _,hi.2.2.2.1⟩
  ·rename_i h;rw[if_neg h] at a;simp at a
 |assign k n=>
  simp only[aL] at hi a ⊢
  split<;>exact cl_ ⟨cW_ _,hi.2.2.1⟩
 |declare k=>exact cl_ ⟨cW_ _,hi.2.2.2.2.1⟩
 |push v=>exact cl_ ⟨cW_ _,hi.1⟩
 |load k=>exact cl_ ⟨cW_ _,hi.2.1⟩
 |drop=>exact cl_ ⟨cW_ _,hi.2.1⟩
 |truth=>simp only[aL] at hi ⊢;split<;>exact cl_ ⟨cW_ _,hi.2.1⟩
 |unary o=>simp only[aL] at hi ⊢;split<;>exact cl_ ⟨cW_ _,hi.2.1⟩
 |length=>simp only[aL] at hi ⊢;split<;>exact cl_ ⟨cW_ _,hi.2.1⟩
 |binary o=>simp only[aL] at hi ⊢;split<;>exact cl_ ⟨cW_ _,hi.2.1⟩
 |index=>simp only[aL] at hi ⊢;split<;>exact cl_ ⟨cW_ _,hi.2.1⟩
 |list n=>simp only[aL] at hi ⊢;split<;>exact cl_ ⟨cW_ _,hi.2.1⟩
def iF(l:List aJ)(f:aJ):wgts (l++[f])=wgts l+kO f:=by simp[wgts]
def CG{f:aJ}(h:f.next<f.fn.code.length):1<=kO f:=by unfold kO;repeat' split
                                                    all_goals omega
def OW(f:aJ)(v:aM):kO (f.push v)=kO f:=rfl
def xF{f g:aJ}{i:aI}(k:jA f.fn.code)(hi:f.fn.code[f.next]?=some i)(b:i.isBegin=false)(c:g.fn=f.fn)(m:f.next<g.next)(j:g.next<f.fn.code.length):kO g<kO f:=by
 unfold kO;rw[c];rcases k with ⟨l,s,r,e⟩|⟨v,e⟩
 ·have d:f.next≠0:=fun h=>by rw[e,h] at hi;simp at hi;rw[<-hi] at b;simp[aI.isBegin] at b
  rw[if_neg (show g.next≠0 by omega),if_neg d]
  split<;>omega
 ·have a:f.fn.code.length=2:=by rw[e];rfl
  rw[a] at j;rw[if_neg (show g.next≠0 by omega),if_pos a,if_pos (show f.next=0 by omega)]
  omega
def OX{f g:aJ}{k n:Nat}(d:jA f.fn.code)(hi:f.fn.code[f.next]?=some (.call k n))(b:g.fn=f.fn)(i:f.next<g.next)(j:g.next<f.fn.code.length):kO g+2<kO f:=by
 unfold kO;rw[b]
 have c:f.next≠0:=fun h=>by
  rcases d with ⟨l,s,r,e⟩|⟨v,e⟩<;>rw[e,h] at hi<;>simp at hi
 have a:f.fn.code.length≠2:=by omega
 rw[if_neg (show g.next≠0 by omega),if_neg c,if_neg a]
 split
 ·omega
 ·omega
structure OU(ar:Nat->Option Nat)(r:cR × Nat):Prop where
 told:∀x∈r.1.frames,x.seen.length<=x.vars.length
 deep:r.1.frames.length<=16
 ok:r.2=0->fY ar r.1/\r.1.frames≠[]
def lY{l:List aJ}(h:l≠[]):∃b f,l=b++[f]:=by
 rcases dl_ l with a|⟨b,f,a⟩
 ·exact absurd a h
 ·exact⟨b,f,by rw[a,dm_]⟩
def AA{f:aJ}(h:f.next<f.fn.code.length):f.fetch=some (f.fn.code[f.next],{ f with next:=f.next+1 }):=by
 unfold aJ.fetch;rw[cz_ h];rfl
def vS{ar:Nat->Option Nat}{a:List eU}(i:kV ar a){k:Nat}{b:List aJ}{f:aJ}{t:List Int}{o:cN}(h:fY ar ⟨b++[f],t,o⟩){l:Nat}{s:cN}(hi:f.fn.code[f.next]?=some (.begin l s)):
 ∃r,dQ a (k+1) ⟨b++[f],t,o⟩=some r/\OU ar r:=by
 have d:f.fetch=some (.begin l s,{ f with next:=f.next+1 }):=by unfold aJ.fetch;rw[hi];rfl
 obtain⟨g,e,j⟩:=yZ i h d;refine⟨doI a (.begin l s) b { f with next:=f.next+1 } t o,?_,g,e,fun c=>⟨j c,by simp[doI]⟩⟩
 rw[dQ];simp only[fB,d,gE];have c:(doI a (.begin l s) b { f with next:=f.next+1 } t o).2=0:=rfl
 rw[if_neg (by rw[c];simp),if_pos (show (aI.begin l s).isBegin=true from rfl)]
def mI{ar:Nat->Option Nat}{p:List eU}(w:kV ar p):∀(k:Nat) (m:cR),fY ar m->wgts m.frames+2<=k->∃r,dQ p k m=some r/\OU ar r
 |0,_,_,H=>by omega
 |k+1,⟨fr,t,o⟩,h,H=>by
  by_cases E:fr=[]
  ·subst E;exact⟨(⟨[],t,o⟩,1),rfl,by simp,by simp,fun l=>by simp at l⟩
  obtain⟨b,f,rfl⟩:=lY E;have d:cQ ar f 0:=h.ok.top f (fB _ _);have s:jA f.fn.code:=h.start f (by simp)
  have N:=AA d.next
  have C:f.fn.code[f.next]?=some (f.fn.code[f.next]'d.next):=cz_ d.next
  generalize f.fn.code[f.next]'d.next=i at N C
  obtain⟨Y,W,h3⟩:=yZ w h N;by_cases l:(doI p i b { f with next:=f.next+1 } t o).2=0
  rotate_left
  ·refine⟨_,?_,Y,W,fun X=>absurd X l⟩
   rw[dQ];simp only[fB,N,gE];rw[if_pos l]
  cases L:i.isBegin;rotate_left
  ·cases i<;>simp[aI.isBegin] at L
   exact vS w h C
  have e:dQ p (k+1) ⟨b++[f],t,o⟩=dQ p k (doI p i b { f with next:=f.next+1 } t o).1:=by
   rw[dQ];simp only[fB,N,gE];rw[if_neg (by rw[l];simp),L]
   rfl
  rw[e];have A:=h3 l;simp only at H;rw[iF] at H;obtain⟨⟨T,V,hh,hv,he⟩,K,hs,hm⟩:=d;have u:=V.ins _ _ C;by_cases S:i=.give
  ·subst S;refine mI w k _ A ?_;have J:=CG K;rcases dl_ b with rfl|⟨U,x,rfl⟩
   ·simp[doI,wgts] at H ⊢;omega
   ·rw[dm_] at*;have Z:(doI p .give (U++[x]) { f with next:=f.next+1 } t o).1.frames=U++[x.push (aJ.last { f with next:=f.next+1 })]:=by simp[doI]
    rw[Z,iF,OW];rw[iF] at H;omega
  by_cases Q:i=.read
  ·subst Q;cases t with
   |nil=>simp[doI] at l
   |cons a r=>
    refine mI w k _ A ?_;have J:=xF (g:=aJ.push { f with next:=f.next+1 } (bG a)) s C rfl rfl (cW_ _) u.2.2.1
    show wgts (b++[_])+2<=k
    rw[iF];omega
  by_cases P:i=.print
  ·subst P;refine mI w k _ A ?_;have J:=xF (g:=aJ.pop { f with next:=f.next+1 }) s C rfl rfl (cW_ _) u.2.2.2.1
   simp only[doI] at l ⊢
   split at l
   ·simp at l
   ·rw[if_neg (by assumption)]
    show wgts (b++[_])+2<=k
    rw[iF];omega
  by_cases F:∃c n,i=.call c n
  ·obtain⟨c,n,rfl⟩:=F;refine mI w k _ A ?_;have J:=OX (g:=aJ.popMany { f with next:=f.next+1 } n) s C rfl (cW_ _) u.2.2.2.2.1
   simp only[doI] at l ⊢
   split at l
   ·simp at l
   ·rw[if_neg (by assumption)]
    have e1:∀y z:aJ,b++[y,z]=(b++[y])++[z]:=by simp
    simp only;rw[e1,iF,iF];have:∀c v,kO ⟨c,0,0,[],v,[]⟩=2:=fun c v=>rfl
    rw[this];omega
  have G:∀k n,i≠.call k n:=fun k n e=>F ⟨k,n,e⟩
  rw[tI S Q P G] at l A ⊢
  have q:=BP u L S Q P G l;have D:(aL i { f with next:=f.next+1 }).1.fn=f.fn:=jL _ _
  generalize aL i { f with next:=f.next+1 }=y at l A q D ⊢
  rcases q with ⟨O,M⟩|⟨O,M⟩
  ·refine mI w k _ A ?_;have J:=xF (g:=y.1) s C L D O M;simp only;rw[iF];omega
  ·have I:y.1.fn.code[y.1.next]?=some (f.fn.code[y.1.next]):=by rw[D];exact cz_ M
   have B:=(V.ins _ _ (cz_ M)).1;rw[O] at B;have J:=CG K;obtain⟨j,rfl⟩:∃j,k=j+1:=⟨k-1,by omega⟩
   generalize f.fn.code[y.1.next]=i' at I B
   cases i'<;>simp[aI.isBegin] at B
   exact vS w A I
def bM.then{ar:Nat->Option Nat}{L:Nat->eJ->Prop}{p:Nat}{c c':List aI}{h v g v1 d v2:Nat}{e j i:Option Nat}(a:bM ar L p c h v e g v1 j)(b:bM ar L (p+c.length) c' g v1 j d v2 i)
 (n:∀q y,L q y->q<=p\/p+c.length+c'.length<=q):bM ar L p (c++c') h v e d v2 i:=by
 by_cases k:c=[]
 ·subst k;obtain⟨T,t,r,s,l,o,m,f,u⟩:=a;obtain⟨U,u1,u2,u3,u4,u5,u6,u7,u8⟩:=b;simp only[cA_,Nat.add_zero] at o m f u2 u3 u4 u5 u6 u7 u8;refine⟨U,u1,by omega,by omega,?_,u5,u6,u7,u8⟩
  rcases u4 with u4|u4
  ·exact cl_ u4
  ·rw[u4,<-f];exact l
 ·exact a.append b n k
def bM.one{ar:Nat->Option Nat}{L:Nat->eJ->Prop}{p:Nat}{i:aI}{h v h' v':Nat}{e e':Option Nat}(m:∀q y z,L q y->L q z->y=z)(k:∀y,L p y->y=⟨h,v,e,i.isBegin⟩)(l:∀y,L (p+1) y->y.h=h'/\y.v=v'/\y.e=e')
 (hi:∀T:Nat->eJ,T p=⟨h,v,e,i.isBegin⟩->(T (p+1)).h=h'->(T (p+1)).v=v'->(T (p+1)).e=e'->(∀q y,L q y->T q=y)->iJ ar (OR L p (p+1)) T p i):bM ar L p [i] h v e h' v' e':=by
 classical
 let T:Nat->eJ:=fun q=>if hq:∃y,L q y then hq.choose else if q=p then ⟨h,v,e,i.isBegin⟩ else ⟨h',v',e',false⟩
 have g:∀q y,L q y->T q=y:=fun q y b=>by
  have a:∃y,L q y:=⟨y,b⟩;simp only[T,dif_pos a];exact m q _ _ a.choose_spec b
 have f:T p=⟨h,v,e,i.isBegin⟩:=by
  by_cases a:∃y,L p y
  ·obtain⟨y,b⟩:=a;rw[g p y b];exact k y b
  ·simp only[T,dif_neg a];rfl
 have c:(T (p+1)).h=h'/\(T (p+1)).v=v'/\(T (p+1)).e=e':=by
  by_cases a:∃y,L (p+1) y
  ·obtain⟨y,b⟩:=a;rw[g _ y b];exact l y b
  ·have e:T (p+1)=⟨h',v',e',false⟩:=by simp only[T,dif_neg a,if_neg (show ¬p+1=p by omega)]
   rw[e];exact⟨rfl,rfl,rfl⟩
 refine⟨T,g,by rw[f],by rw[f];exact cy_ _,by rw[f];exact ck_ rfl,c.1,c.2.1,c.2.2,fun j x d=>?_⟩
 match j,d with
 |0,d=>
  simp at d;subst d;exact hi T f c.1 c.2.1 c.2.2 g
 |j+1,d=>simp at d
structure eT(L:Nat->eJ->Prop)(lo hi:Nat):Prop where
 uniq:∀q y z,L q y->L q z->y=z
 out:∀q y,L q y->q<lo\/hi<q
def eT.sub{L:Nat->eJ->Prop}{lo hi lo' hi':Nat}(h:eT L lo hi)(c:lo<=lo')(b:hi'<=hi):eT L lo' hi':=⟨h.uniq,fun q y a=>by have:=h.out q y a;omega⟩
def fN(L:Nat->eJ->Prop)(q:Nat)(y:eJ):Nat->eJ->Prop:=fun r z=>L r z\/(r=q/\z=y)
def fN.ok{L:Nat->eJ->Prop}{lo hi lo' hi' q:Nat}{y:eJ}(h:eT L lo hi)(g:lo<=q)(e:q<=hi)(i:lo<=lo')(f:hi'<=hi)(c:q<lo'\/hi'<q):eT (fN L q y) lo' hi':=by
 refine⟨fun r x z a b=>?_,fun r x a=>?_⟩
 ·rcases a with a|⟨rfl,rfl⟩<;>rcases b with b|⟨d,rfl⟩
  ·exact h.uniq _ _ _ a b
  ·have:=h.out _ _ a;omega
  ·have:=h.out _ _ b;omega
  ·rfl
 ·rcases a with a|⟨rfl,rfl⟩
  ·have:=h.out _ _ a;omega
  ·exact c
def bM.close{ar:Nat->Option Nat}{L:Nat->eJ->Prop}{p:Nat}{c:List aI}{h v h' v' q:Nat}{e e':Option Nat}{y:eJ}(s:bM ar (fN L q y) p c h v e h' v' e')(o:p<=q)(f:q<=p+c.length):bM ar L p c h v e h' v' e':=by
 obtain⟨T,u,b,d,g,x,m,l,w⟩:=s;refine⟨T,fun q y n=>u q y (cl_ n),b,d,g,x,m,l,fun j i A=>(w j i A).same rfl (fun r a=>⟨?_,rfl,cL,ck_ rfl⟩) (fun _ _ _ k=>k)⟩
 rcases a with a|⟨z,t|⟨rfl,rfl⟩⟩
 ·exact cl_ a
 ·exact ck_ ⟨z,t⟩
 ·exact cl_ ⟨o,f⟩
def iW{L:Nat->eJ->Prop}{p:Nat}:OR L p (p+1) (p+1):=cl_ ⟨by omega,by omega⟩
def bM.plain{ar:Nat->Option Nat}{L:Nat->eJ->Prop}{p:Nat}{i:aI}{h v h':Nat}{e:Option Nat}(b:eT L p (p+1))(g:i.isBegin=false)(j:h<=p)
 (hi:∀(D:bX) (T:Nat->eJ),(T p).h=h->(T p).v=v->eP D T (p+1) h' (T p).v (T p).e->(T p).b=false->(T p).h<=p->iJ ar D T p i):bM ar L p [i] h v e h' v e:=
 bM.one b.uniq (fun y c=>absurd (b.out _ _ c) (by omega)) (fun y c=>absurd (b.out _ _ c) (by omega)) fun T a k d f _=>
  hi _ T (by rw[a]) (by rw[a]) ⟨iW,k,by rw[d,a];exact cy_ _,by rw[f,a];exact ck_ rfl⟩ (by rw[a];exact g) (by rw[a];exact j)
def fZ(fs:List aE)(k:Nat):Option Nat:=fs[k]?.map fun f=>f.kids.length-1
def ExOk(fs:List aE)(alone:Bool)(seen:cN):Nat->aE->Prop
 |0,_=>False
 |d+1,a=>
  ((a.op=[48]\/a.op=[115]\/a.op=[98,111,111,108])/\a.kids=[])\/
  (a.op=[110,97,109,101]/\a.kids=[]/\a.text∈seen)\/
  (a.op=[108,105,115,116]/\∀k∈a.kids,ExOk fs alone seen d k)\/
  (a.op=[105,110,100,101,120]/\∃l r,a.kids=[l,r]/\ExOk fs alone seen d l/\ExOk fs alone seen d r)\/
  ((a.op=[45,120]\/a.op=[33,120])/\∃l,a.kids=[l]/\ExOk fs alone seen d l)\/
  (a.op=[99,97,108,108]/\(∀k∈a.kids,ExOk fs alone seen d k)/\
    ((a.text=[108,101,110]/\a.kids.length=1)\/(a.text=[114,101,97,100]/\alone=false/\a.kids.length=0)\/
     (a.text≠[108,101,110]/\a.text≠[114,101,97,100]/\alone=false/\fZ fs (dG fs a.text)=some a.kids.length)))\/
  (cJ a.op≠9/\∃l r,a.kids=[l,r]/\ExOk fs alone seen d l/\ExOk fs alone seen d r)
def rS:∀{seen:cN} {x:cD},x∈seen->dU seen x<seen.length
 |y::l,x,h=>by
  unfold dU;split
  ·simp
  ·rename_i a;rcases cv_.1 h with rfl|h
   ·exact absurd rfl a
   ·have:=rS h;simp;omega
def nZ{op:cD}(h:cJ op≠9):op=[124,124]\/op=[38,38]\/op=[61,61]\/op=[33,61]\/op=[60]\/op=[60,61]\/op=[43]\/op=[45]\/op=[42]\/op=[47]\/op=[37]:=by
 unfold cJ at h;repeat' split at h
 all_goals simp_all
 all_goals grind
def TW(fs:List aE)(alone:Bool)(seen:cN)(d:Nat):Prop:=
 ∀(a:aE) (L:Nat->eJ->Prop) (p h v:Nat) (e:Option Nat),ExOk fs alone seen d a->seen.length<=v->h<=p->eT L p (p+(aF fs seen d a p).length)->
  bM (fZ fs) L p (aF fs seen d a p) h v e (h+1) v e/\1<=(aF fs seen d a p).length
def rV{fs:List aE}{alone:Bool}{seen:cN}{d:Nat}(f:TW fs alone seen d):∀(l:List aE) (L:Nat->eJ->Prop) (p h v:Nat) (e:Option Nat),(∀a∈l,ExOk fs alone seen d a)->seen.length<=v->h<=p->eT L p (p+(bV (aF fs seen d) l p).length)->
 bM (fZ fs) L p (bV (aF fs seen d) l p) h v e (h+l.length) v e/\l.length<=(bV (aF fs seen d) l p).length
 |[],L,p,h,v,e,_,_,_,b=>⟨bM.nil _ _ _ _ _ _ (fun q y c t=>absurd (b.out q y c) (by simp[bV];omega)) b.uniq,by simp⟩
 |a::l,L,p,h,v,e,g,i,n,b=>by
  simp only[bV,cp_] at b ⊢
  obtain⟨m,k⟩:=f a L p h v e (g a (cJ_ ..)) i n (b.sub cL (by omega))
  obtain⟨j,o⟩:=rV f l L (p+(aF fs seen d a p).length) (h+1) v e (fun x r=>g x (cx_ _ r)) i (by omega) (b.sub (by omega) (by omega))
  refine⟨?_,by simp only[ct_];omega⟩
  have s:h+(a::l).length=h+1+l.length:=by simp only[ct_];omega
  rw[s];exact m.then j fun q y c=>by have:=b.out q y c;omega
def bM.snoc{ar:Nat->Option Nat}{L:Nat->eJ->Prop}{p:Nat}{c:List aI}{i:aI}{h v f d v2:Nat}{e j:Option Nat}(a:bM ar L p c h v e f v e)(g:eT L p (p+(c++[i]).length))(b:eT L (p+c.length) (p+c.length+1)->bM ar L (p+c.length) [i] f v e d v2 j):bM ar L p (c++[i]) h v e d v2 j:=by
 have l:(c++[i]).length=c.length+1:=by simp
 refine a.then (b (g.sub (by omega) (by omega))) fun q y k=>?_
 have:=g.out q y k;simp only[ct_,cA_];omega
def nL(fs:List aE)(alone:Bool)(seen:cN):∀d,TW fs alone seen d
 |0,_,_,_,_,_,_,h,_,_,_=>h.elim
 |d+1,a,L,p,h,v,e,ha,hv,g,z=>by
  have X:=nL fs alone seen d
  have M:∀l r:aE,a.kids=[l,r]->ExOk fs alone seen d l->ExOk fs alone seen d r->∀k∈a.kids,ExOk fs alone seen d k:=fun l r m U h2 k C=>by
   rw[m] at C;rcases cv_.1 C with rfl|C
   ·exact U
   ·rw[cs_.1 C];exact h2
  have j:∀i:aI,i.isBegin=false->aF fs seen (d+1) a p=bV (aF fs seen d) a.kids p++[i]->(∀k∈a.kids,ExOk fs alone seen d k)->
   (∀(s:Nat) (D:bX) (T:Nat->eJ),(T s).h=h+a.kids.length->(T s).v=v->eP D T (s+1) (h+1) (T s).v (T s).e->(T s).b=false->(T s).h<=s->iJ (fZ fs) D T s i)->
   bM (fZ fs) L p (aF fs seen (d+1) a p) h v e (h+1) v e/\1<=(aF fs seen (d+1) a p).length:=fun i hb A m hi=>by
   rw[A] at z ⊢
   obtain⟨U,h2⟩:=rV X a.kids L p h v e m hv g (z.sub cL (by simp))
   exact⟨bM.snoc U z fun E=>bM.plain E hb (by omega) (hi _),by simp⟩
  rcases ha with ⟨n|n|n,m⟩|⟨n,m,hx⟩|⟨n,m⟩|⟨n,l,r,m,E,P⟩|⟨n|n,l,m,E⟩|⟨n,m,A⟩|⟨n,l,r,m,E,P⟩
  ·have A:aF fs seen (d+1) a p=[.push (bG (((dP 0 a.text).getD 0:Nat):Int))]:=by rw[aF];simp[n]
   rw[A] at z ⊢
   exact⟨bM.plain z rfl g fun D T c w f b g=>⟨b,g,by rw[c];exact f⟩,by simp⟩
  ·have A:aF fs seen (d+1) a p=[.push (bO a.text)]:=by rw[aF];simp[n]
   rw[A] at z ⊢
   exact⟨bM.plain z rfl g fun D T c w f b g=>⟨b,g,by rw[c];exact f⟩,by simp⟩
  ·have A:aF fs seen (d+1) a p=[.push (bT (a.text==[116,114,117,101]))]:=by rw[aF];simp[n]
   rw[A] at z ⊢
   exact⟨bM.plain z rfl g fun D T c w f b g=>⟨b,g,by rw[c];exact f⟩,by simp⟩
  ·have A:aF fs seen (d+1) a p=[.load (dU seen a.text)]:=by rw[aF];simp[n]
   rw[A] at z ⊢
   exact⟨bM.plain z rfl g fun D T c w f b g=>⟨b,g,by rw[w];have:=rS hx;omega,by rw[c];exact f⟩,by simp⟩
  ·refine j (.list a.kids.length) rfl (by rw[aF];simp[n]) m fun s D T c w f b g=>⟨b,g,by omega,?_⟩
   have:(T s).h-a.kids.length+1=h+1:=by omega
   rw[this];exact f
  ·refine j .index rfl (by rw[aF];simp[n]) (M l r m E P) fun s D T c w f b g=>?_
   rw[m] at c;simp only[ct_,cA_] at c;refine⟨b,g,by omega,?_⟩
   have:(T s).h-1=h+1:=by omega
   rw[this];exact f
  ·refine j (.unary [45]) rfl (by rw[aF];simp[n]) (by rw[m];simpa using E) fun s D T c w f b g=>?_
   rw[m] at c;simp only[ct_,cA_] at c;exact⟨b,g,by omega,by rw[c];exact f⟩
  ·refine j (.unary [33]) rfl (by rw[aF];simp[n]) (by rw[m];simpa using E) fun s D T c w f b g=>?_
   rw[m] at c;simp only[ct_,cA_] at c;exact⟨b,g,by omega,by rw[c];exact f⟩
  ·rcases A with ⟨S,J⟩|⟨S,_,J⟩|⟨V,Y,_,J⟩
   ·refine j .length rfl (by rw[aF];simp[n,S]) m fun s D T c w f b g=>⟨b,g,by omega,?_⟩
    rw[c,J];exact f
   ·refine j .read rfl (by rw[aF];simp[n,S]) m fun s D T c w f b g=>⟨b,g,?_⟩
    rw[c,J];exact f
   ·refine j (.call (dG fs a.text) a.kids.length) rfl (by rw[aF];simp[n,V,Y]) m fun s D T c w f b g=>⟨b,g,by omega,J,?_⟩
    have:(T s).h-a.kids.length+1=h+1:=by omega
    rw[this];exact f
  ·by_cases N:a.op=[38,38]\/a.op=[124,124]
   rotate_left
   ·have W:aF fs seen (d+1) a p=bV (aF fs seen d) a.kids p++[.binary a.op]:=by
     rw[aF];rcases nZ n with h|h|h|h|h|h|h|h|h|h|h<;>simp[h] at N ⊢
    refine j (.binary a.op) rfl W (M l r m E P) fun s D T c w f b g=>?_
    rw[m] at c;simp only[ct_,cA_] at c;refine⟨b,g,by omega,?_⟩
    have:(T s).h-1=h+1:=by omega
    rw[this];exact f
   ·have A:aF fs seen (d+1) a p=aF fs seen d l p++[.shortcut (a.op==[124,124]) (p+(aF fs seen d l p).length+1+(aF fs seen d r (p+(aF fs seen d l p).length+1)).length+1)]++aF fs seen d r (p+(aF fs seen d l p).length+1)++[.truth]:=by
     rw[aF];rcases N with h|h<;>simp[h,m]
    generalize O:aF fs seen d l p=o at A;generalize K:aF fs seen d r (p+o.length+1)=t at A;rw[A] at z ⊢
    have G:(o++[aI.shortcut (a.op==[124,124]) (p+o.length+1+t.length+1)]++t++[aI.truth]).length=o.length+1+t.length+1:=by simp only[cp_,ct_,cA_]
    rw[G] at z;refine⟨bM.close (q:=p+o.length+1+t.length+1) (y:=⟨h+1,v,e,false⟩) ?_ (by omega) (by rw[G];omega),by omega⟩
    have u:eT (fN L (p+o.length+1+t.length+1) ⟨h+1,v,e,false⟩) p (p+o.length+1+t.length):=fN.ok z (by omega) (by omega) cL (by omega) (by omega)
    obtain⟨s1,l1⟩:=X l (fN L (p+o.length+1+t.length+1) ⟨h+1,v,e,false⟩) p h v e E hv g (by rw[O];exact u.sub cL (by omega))
    rw[O] at s1 l1;obtain⟨s3,l3⟩:=X r (fN L (p+o.length+1+t.length+1) ⟨h+1,v,e,false⟩) (p+o.length+1) h v e P hv (by omega) (by rw[K];exact u.sub (by omega) (by omega))
    rw[K] at s3 l3
    have s2:bM (fZ fs) (fN L (p+o.length+1+t.length+1) ⟨h+1,v,e,false⟩) (p+o.length) [.shortcut (a.op==[124,124]) (p+o.length+1+t.length+1)] (h+1) v e h v e:=by
     refine bM.one u.uniq (fun y F=>absurd (u.out _ _ F) (by omega)) (fun y F=>absurd (u.out _ _ F) (by omega)) fun T x c w Q t4=>?_
     refine⟨by rw[x],by rw[x];show h+1<=_;omega,by rw[x];show 1<=h+1;omega,by omega,?_,iW,by rw[c,x];rfl,by rw[w,x];exact cy_ _,by rw[Q,x];exact ck_ rfl⟩
     have:=t4 (p+o.length+1+t.length+1) ⟨h+1,v,e,false⟩ (ck_ ⟨rfl,rfl⟩);exact⟨ck_ ⟨_,ck_ ⟨rfl,rfl⟩⟩,by rw[this,x],by rw[this,x];exact cy_ _,by rw[this,x];exact ck_ rfl⟩
    have s4:bM (fZ fs) (fN L (p+o.length+1+t.length+1) ⟨h+1,v,e,false⟩) (p+o.length+1+t.length) [.truth] (h+1) v e (h+1) v e:=by
     refine bM.one u.uniq (fun y F=>absurd (u.out _ _ F) (by omega)) (fun y F=>?_) fun T x c w Q t4=>⟨by rw[x],by rw[x];show h+1<=_;omega,by rw[x];show 1<=h+1;omega,iW,by rw[c,x],by rw[w,x];exact cy_ _,by rw[Q,x];exact ck_ rfl⟩
     rcases F with F|⟨_,rfl⟩
     ·exact absurd (z.out _ _ F) (by omega)
     ·exact⟨rfl,rfl,rfl⟩
    have B:∀q y,fN L (p+o.length+1+t.length+1) ⟨h+1,v,e,false⟩ q y->q<=p\/p+o.length+1+t.length+1<=q:=fun q y H=>by have:=u.out q y H;omega
    have Z:=s1.then s2 fun q y H=>by have:=B q y H;simp only[ct_,cA_];omega
    have I:=Z.then (c':=t) (by rw[cp_];exact s3) fun q y H=>by have:=B q y H;simp only[cp_,ct_,cA_];omega
    exact I.then (c':=[.truth]) (by rw[show p+(o++[aI.shortcut (a.op==[124,124]) (p+o.length+1+t.length+1)]++t).length=p+o.length+1+t.length by simp only[cp_,ct_,cA_];omega];exact s4) fun q y H=>by have:=B q y H;simp only[cp_,ct_,cA_];omega
def bM.entry{ar:Nat->Option Nat}{L:Nat->eJ->Prop}{p:Nat}{c:List aI}{h v b h' v':Nat}{e e':Option Nat}(s:bM ar L p c h v none h' v' e')(j:v<=b):bM ar L p c h b e h' v' e':=by
 obtain⟨T,f,d,i,a,g⟩:=s;exact⟨T,f,d,by omega,cl_ (by rcases a with a|a<;>exact a),g⟩
def bM.exit{ar:Nat->Option Nat}{L:Nat->eJ->Prop}{p:Nat}{c:List aI}{h v h' v' a:Nat}{e e':Option Nat}(s:bM ar L p c h v e h' v' e')(F:a<=v')(b:Bool)(C:∀y,¬L (p+c.length) y):bM ar (fN L (p+c.length) ⟨h',a,none,b⟩) p c h v e h' a none:=by
 obtain⟨T,z,o,r,t,l,w,E,B⟩:=s;refine⟨fun q=>if q=p+c.length then ⟨h',a,none,b⟩ else T q,fun q y d=>?_,?_,?_,?_,by simp only[if_pos],by simp only[if_pos],by simp only[if_pos],fun j i m=>?_⟩
 ·rcases d with d|⟨rfl,rfl⟩
  ·have f:q≠p+c.length:=fun e=>C y (by rw[<-e];exact d)
   simp only[if_neg f];exact z q y d
  ·simp only[if_pos]
 ·simp only;split
  ·rename_i g;rw[<-g] at l;simp only;omega
  ·exact o
 ·simp only;split
  ·rename_i g;rw[<-g] at w;simp only;omega
  ·exact r
 ·simp only;split
  ·exact cl_ rfl
  ·exact t
 ·have x:j<c.length:=(cQ_.1 m).1;refine(B j i m).same (by rw[if_neg (by omega)]) (fun q d=>?_) (fun q d D u=>by rw[if_neg (by omega)];exact u)
  have n:OR (fN L (p+c.length) ⟨h',a,none,b⟩) p (p+c.length) q:=d.imp id fun ⟨y,A⟩=>⟨y,cl_ A⟩
  refine⟨n,?_⟩;split
  ·rename_i k;rw[k];exact⟨l.symm,by simp only;omega,cl_ rfl⟩
  ·exact⟨rfl,cL,ck_ rfl⟩
def cZ(seen:cN)(a:aE):cN:=if a.op=[118,97,114] then (a.kids.head?.map (·.text)).toList++seen else seen
def StsOk(S:cN->aE->Prop):cN->List aE->Prop
 |_,[]=>True
 |seen,a::l=>S seen a/\StsOk S (cZ seen a) l
def dM(fs:List aE):Nat->cN->aE->Prop
 |0,_,_=>False
 |d+1,seen,a=>
  (a.op=[118,97,114]/\seen.length<=40000/\∃t v,a.kids=[t,v]/\ExOk fs false seen d v/\t.text∉seen)\/
  (a.op=[115,101,116]/\a.text∈seen/\a.kids≠[]/\∀k∈a.kids,ExOk fs false seen d k)\/
  (a.op=[105,102]/\∃c t,(a.kids=[c,t]\/∃x,a.kids=[c,t,x]/\StsOk (dM fs d) seen x.kids)/\ExOk fs false seen d c/\StsOk (dM fs d) seen t.kids)\/
  (a.op=[119,104,105,108,101]/\∃c b,a.kids=[c,b]/\ExOk fs false seen d c/\StsOk (dM fs d) seen b.kids)\/
  (a.op=[114,101,116,117,114,110]/\(a.kids=[]\/∃v,a.kids=[v]/\ExOk fs false seen d v))\/
  (a.op=[112,114,105,110,116]/\∃v,a.kids=[v]/\ExOk fs false seen d v)\/
  (a.op=[100,111]/\∃c,a.kids=[c]/\ExOk fs false seen d c)
def TT(fs:List aE)(d:Nat):Prop:=
 ∀(seen:cN) (a:aE) (L:Nat->eJ->Prop) (p:Nat),dM fs d seen a->eT L p (p+(aX fs d seen a p).1.length)->
  bM (fZ fs) L p (aX fs d seen a p).1 0 seen.length none 0 (cZ seen a).length none/\(aX fs d seen a p).2=cZ seen a/\∃r,(aX fs d seen a p).1=.begin a.line seen::r
def PZ(seen:cN)(a:aE):seen.length<=(cZ seen a).length:=by unfold cZ;split<;>simp
def eE:cN->List aE->cN
 |seen,[]=>seen
 |seen,a::l=>eE (cZ seen a) l
def mU:∀(l:List aE) (seen:cN),seen.length<=(eE seen l).length
 |[],_=>cy_ _
 |a::l,seen=>cw_ (PZ seen a) (mU l _)
def mY{fs:List aE}{d:Nat}(e:TT fs d):∀(l:List aE) (seen:cN) (L:Nat->eJ->Prop) (p:Nat),StsOk (dM fs d) seen l->eT L p (p+(bL (aX fs d) seen l p).length)->
 bM (fZ fs) L p (bL (aX fs d) seen l p) 0 seen.length none 0 (eE seen l).length none
 |[],seen,L,p,_,b=>bM.nil _ _ _ _ _ _ (fun q y c j=>absurd (b.out q y c) (by simp[bL];omega)) b.uniq
 |a::l,seen,L,p,h,b=>by
  simp only[bL,cp_] at b ⊢
  obtain⟨g,f,_⟩:=e seen a L p h.1 (b.sub cL (by omega))
  rw[f] at b ⊢
  have i:=mY e l (cZ seen a) L (p+(aX fs d seen a p).1.length) h.2 (b.sub (by omega) (by omega))
  exact g.then i fun q y c=>by have:=b.out q y c;omega
def bM.begins{ar:Nat->Option Nat}{L:Nat->eJ->Prop}{p l:Nat}{seen:cN}(g:∀q y z,L q y->L q z->y=z)(h:∀y,L p y->y=⟨0,seen.length,none,true⟩)(f:∀y,¬L (p+1) y):bM ar L p [.begin l seen] 0 seen.length none 0 seen.length (some seen.length):=
 bM.one g h (fun y e=>absurd e (f y)) fun T a d b c _=>⟨by rw[a],by rw[a];exact cU_ _,by rw[a];exact cy_ _,iW,by rw[d,a],by rw[b,a];exact cy_ _,by rw[c];exact ck_ rfl⟩
def qF(i j:aI)(c:List aI):(i::c++[j]).length=c.length+2:=by simp
def bM.stmt{ar:Nat->Option Nat}{L:Nat->eJ->Prop}{p l n v':Nat}{seen:cN}{c:List aI}{i:aI}(a:eT L p (p+(aI.begin l seen::c++[i]).length))
 (h:bM ar L (p+1) c 0 seen.length (some seen.length) n seen.length (some seen.length)) (hi:eT L (p+1+c.length) (p+1+c.length+1)->bM ar L (p+1+c.length) [i] n seen.length (some seen.length) 0 v' none):
 bM ar L p (aI.begin l seen::c++[i]) 0 seen.length none 0 v' none:=by
 rw[qF] at a;have f:bM ar L p [.begin l seen] 0 seen.length none 0 seen.length (some seen.length):=bM.begins a.uniq (fun y d=>absurd (a.out _ _ d) (by omega)) (fun y d=>absurd (a.out _ _ d) (by omega))
 have e:=f.then (c':=c) h fun q y b=>by have:=a.out q y b;simp only[ct_,cA_];omega
 have g:=e.then (c':=[i]) (by rw[show p+([aI.begin l seen]++c).length=p+1+c.length by simp only[cp_,ct_,cA_];omega];exact hi (a.sub (by omega) (by omega))) fun q y b=>by have:=a.out q y b;simp only[cp_,ct_,cA_];omega
 exact g
def bM.last{ar:Nat->Option Nat}{L:Nat->eJ->Prop}{p n v v':Nat}{e:Option Nat}{i:aI}(a:eT L p (p+1))(g:i.isBegin=false)(h:n<=p)
 (hi:∀(D:bX) (T:Nat->eJ),T p=⟨n,v,e,false⟩->D (p+1)->(T (p+1)).h=0->(T (p+1)).v=v'->(T (p+1)).e=none->(T p).h<=p->iJ ar D T p i):bM ar L p [i] n v e 0 v' none:=
 bM.one a.uniq (fun y b=>absurd (a.out _ _ b) (by omega)) (fun y b=>absurd (a.out _ _ b) (by omega)) fun T c j d f _=>hi _ T (by rw[c,g]) iW j d f (by rw[c];exact h)
def lM{fs:List aE}{seen:cN}{d:Nat}{a:aE}{L:Nat->eJ->Prop}{p:Nat}{e:Option Nat}(b:ExOk fs false seen d a)(f:0<p)(c:eT L p (p+(aF fs seen d a p).length)):
 bM (fZ fs) L p (aF fs seen d a p) 0 seen.length e 1 seen.length e/\1<=(aF fs seen d a p).length:=nL fs false seen d a L p 0 seen.length e b cL (by omega) c
def eT.none{L:Nat->eJ->Prop}{lo hi q:Nat}(h:eT L lo hi)(c:lo<=q)(b:q<=hi)(y:eJ):¬L q y:=fun a=>by have:=h.out q y a;omega
def bM.ifs{ar:Nat->Option Nat}{L:Nat->eJ->Prop}{p l v1 v2:Nat}{seen:cN}{b e m:List aI}
 (t:eT L p (p+1+b.length+1+e.length+1+m.length))
 (I:∀g,eT g (p+1) (p+1+b.length)->bM ar g (p+1) b 0 seen.length (some seen.length) 1 seen.length (some seen.length))
 (E:∀g,eT g (p+1+b.length+1) (p+1+b.length+1+e.length)->bM ar g (p+1+b.length+1) e 0 seen.length none 0 v1 none) (G:seen.length<=v1)
 (K:∀g,eT g (p+1+b.length+1+e.length+1) (p+1+b.length+1+e.length+1+m.length)->bM ar g (p+1+b.length+1+e.length+1) m 0 seen.length none 0 v2 none) (J:seen.length<=v2):
 bM ar L p (aI.begin l seen::b++[.skip (p+1+b.length+1+e.length+1)]++e++[.jump (p+1+b.length+1+e.length+1+m.length)]++m) 0 seen.length none 0 seen.length none:=by
 generalize F:p+1+b.length+1+e.length+1=q at*;generalize H:q+m.length=r at*;have j:eT (fN L r ⟨0,seen.length,none,false⟩) p (r-1):=fN.ok t (by omega) cL cL (by omega) (by omega)
 have k:bM ar (fN L r ⟨0,seen.length,none,false⟩) p (aI.begin l seen::b++[aI.skip q]++e++[aI.jump r]) 0 seen.length none 0 seen.length none:=by
  have h:p+(aI.begin l seen::b++[aI.skip q]++e++[aI.jump r]).length=q:=by simp only[cp_,ct_,cA_];omega
  rcases dd_ (show q<=r by omega) with s|s
  ·-- there is no else:one label
   subst s;have c:eT (fN L q ⟨0,seen.length,none,false⟩) p (q-1):=j;have A:=bM.begins (ar:=ar) (l:=l) (p:=p) (seen:=seen) c.uniq (fun y a=>absurd (c.out _ _ a) (by omega)) (fun y a=>absurd (c.out _ _ a) (by omega))
   have w:=A.then (c':=b) (I _ (c.sub (by omega) (by omega))) fun x y f=>by have:=c.out x y f;simp only[ct_,cA_];omega
   have z:p+([aI.begin l seen]++b).length=p+1+b.length:=by simp only[cp_,ct_,cA_];omega
   have B:=w.then (c':=[aI.skip q]) (by
    rw[z];refine bM.one (h':=0) (v':=seen.length) (e':=some seen.length) c.uniq (fun y a=>absurd (c.out _ _ a) (by omega)) (fun y a=>absurd (c.out _ _ a) (by omega)) fun T d u n o i=>?_
    have a:=i q ⟨0,seen.length,none,false⟩ (ck_ ⟨rfl,rfl⟩);exact⟨by rw[d],by rw[d];show 1<=_;omega,by rw[d];exact cy_ _,by omega,⟨ck_ ⟨_,ck_ ⟨rfl,rfl⟩⟩,by rw[a,d];rfl,by rw[a,d];exact cy_ _,by rw[a];exact cl_ rfl⟩,iW,by rw[u,d];rfl,by rw[n,d];exact cy_ _,by rw[o,d];exact ck_ rfl⟩)
    fun x y f=>by have:=c.out x y f;simp only[cp_,ct_,cA_];omega
   have C:p+([aI.begin l seen]++b++[aI.skip q]).length=p+1+b.length+1:=by simp only[cp_,ct_,cA_];omega
   have v:=B.then (c':=e) (by rw[C];exact(E _ (c.sub (by omega) (by omega))).entry cL) fun x y f=>by have:=c.out x y f;simp only[cp_,ct_,cA_];omega
   have D:p+([aI.begin l seen]++b++[aI.skip q]++e).length=p+1+b.length+1+e.length:=by simp only[cp_,ct_,cA_];omega
   exact v.then (c':=[aI.jump q]) (by
    rw[D];refine bM.one c.uniq (fun y a=>absurd (c.out _ _ a) (by omega)) (fun y a=>?_) fun T d u n o i=>?_
    ·rw[show p+1+b.length+1+e.length+1=q from F] at a
     rcases a with a|⟨_,rfl⟩
     ·exact absurd a (t.none (by omega) (by omega) y)
     ·exact⟨rfl,rfl,rfl⟩
    ·have a:=i q ⟨0,seen.length,none,false⟩ (ck_ ⟨rfl,rfl⟩);exact⟨by rw[d],by rw[d];exact cU_ _,cl_ (by omega),ck_ ⟨_,ck_ ⟨rfl,rfl⟩⟩,by rw[a,d],by rw[a,d];exact G,by rw[a];exact cl_ rfl⟩)
    fun x y f=>by have:=c.out x y f;simp only[cp_,ct_,cA_];omega
  ·refine bM.close (q:=q) (y:=⟨0,seen.length,none,false⟩) ?_ (by omega) (by omega)
   have c:eT (fN (fN L r ⟨0,seen.length,none,false⟩) q ⟨0,seen.length,none,false⟩) p (q-1):=fN.ok j (by omega) (by omega) cL (by omega) (by omega)
   have A:=bM.begins (ar:=ar) (l:=l) (p:=p) (seen:=seen) c.uniq (fun y a=>absurd (c.out _ _ a) (by omega)) (fun y a=>absurd (c.out _ _ a) (by omega))
   have w:=A.then (c':=b) (I _ (c.sub (by omega) (by omega))) fun x y f=>by have:=c.out x y f;simp only[ct_,cA_];omega
   have z:p+([aI.begin l seen]++b).length=p+1+b.length:=by simp only[cp_,ct_,cA_];omega
   have B:=w.then (c':=[aI.skip q]) (by
    rw[z];refine bM.one (h':=0) (v':=seen.length) (e':=some seen.length) c.uniq (fun y a=>absurd (c.out _ _ a) (by omega)) (fun y a=>absurd (c.out _ _ a) (by omega)) fun T d u n o i=>?_
    have a:=i q ⟨0,seen.length,none,false⟩ (ck_ ⟨rfl,rfl⟩);exact⟨by rw[d],by rw[d];show 1<=_;omega,by rw[d];exact cy_ _,by omega,⟨ck_ ⟨_,ck_ ⟨rfl,rfl⟩⟩,by rw[a,d];rfl,by rw[a,d];exact cy_ _,by rw[a];exact cl_ rfl⟩,iW,by rw[u,d];rfl,by rw[n,d];exact cy_ _,by rw[o,d];exact ck_ rfl⟩)
    fun x y f=>by have:=c.out x y f;simp only[cp_,ct_,cA_];omega
   have C:p+([aI.begin l seen]++b++[aI.skip q]).length=p+1+b.length+1:=by simp only[cp_,ct_,cA_];omega
   have v:=B.then (c':=e) (by rw[C];exact(E _ (c.sub (by omega) (by omega))).entry cL) fun x y f=>by have:=c.out x y f;simp only[cp_,ct_,cA_];omega
   have D:p+([aI.begin l seen]++b++[aI.skip q]++e).length=p+1+b.length+1+e.length:=by simp only[cp_,ct_,cA_];omega
   exact v.then (c':=[aI.jump r]) (by
    rw[D];refine bM.one c.uniq (fun y a=>absurd (c.out _ _ a) (by omega)) (fun y a=>?_) fun T d u n o i=>?_
    ·rw[show p+1+b.length+1+e.length+1=q from F] at a
     rcases a with (a|⟨a,_⟩)|⟨_,rfl⟩
     ·exact absurd a (t.none (by omega) (by omega) y)
     ·omega
     ·exact⟨rfl,rfl,rfl⟩
    ·have a:=i r ⟨0,seen.length,none,false⟩ (cl_ (ck_ ⟨rfl,rfl⟩));exact⟨by rw[d],by rw[d];exact cU_ _,cl_ (by omega),ck_ ⟨_,cl_ (ck_ ⟨rfl,rfl⟩)⟩,by rw[a,d],by rw[a,d];exact G,by rw[a];exact cl_ rfl⟩)
    fun x y f=>by have:=c.out x y f;simp only[cp_,ct_,cA_];omega
 have h:p+(aI.begin l seen::b++[aI.skip q]++e++[aI.jump r]).length=q:=by simp only[cp_,ct_,cA_];omega
 refine bM.close (q:=r) (y:=⟨0,seen.length,none,false⟩) ?_ (by omega) (by rw[cp_];omega)
 refine k.then (c':=m) ?_ fun x y f=>by have:=j.out x y f;omega
 rw[h];have:=(K L (t.sub (by omega) (by omega))).exit J false (by rw[H];exact t.none (by omega) cL)
 rw[H] at this;exact this
def bM.whiles{ar:Nat->Option Nat}{L:Nat->eJ->Prop}{p l v1:Nat}{seen:cN}{b cb:List aI}
 (i:eT L p (p+1+b.length+1+cb.length+1))
 (C:∀f,eT f (p+1) (p+1+b.length)->bM ar f (p+1) b 0 seen.length (some seen.length) 1 seen.length (some seen.length))
 (r:∀f,eT f (p+1+b.length+1) (p+1+b.length+1+cb.length)->bM ar f (p+1+b.length+1) cb 0 seen.length none 0 v1 none) (u:seen.length<=v1):
 bM ar L p (aI.begin l seen::b++[.skip (p+1+b.length+1+cb.length+1)]++cb++[aI.jump p]) 0 seen.length none 0 seen.length none:=by
 generalize s:p+1+b.length+1+cb.length+1=q at*;have m:p+(aI.begin l seen::b++[aI.skip q]++cb++[aI.jump p]).length=q:=by simp only[cp_,ct_,cA_];omega
 refine bM.close (q:=p) (y:=⟨0,seen.length,none,true⟩) (bM.close (q:=q) (y:=⟨0,seen.length,none,false⟩) ?_ (by omega) (by omega)) (by omega) (by omega)
 have h:eT (fN L p ⟨0,seen.length,none,true⟩) (p+1) q:=fN.ok i cL (by omega) (by omega) cL (by omega)
 have d:eT (fN (fN L p ⟨0,seen.length,none,true⟩) q ⟨0,seen.length,none,false⟩) (p+1) (q-1):=fN.ok h (by omega) cL cL (by omega) (by omega)
 have w:=bM.begins (ar:=ar) (l:=l) (p:=p) (seen:=seen) d.uniq (fun y a=>by
  rcases a with (a|⟨_,rfl⟩)|⟨a,_⟩
  ·exact absurd a (i.none (by omega) (by omega) y)
  ·rfl
  ·omega) (fun y a=>absurd (d.out _ _ a) (by omega))
 have t:=w.then (c':=b) (C _ (d.sub (by omega) (by omega))) fun x y e=>by have:=d.out x y e;simp only[ct_,cA_];omega
 have v:p+([aI.begin l seen]++b).length=p+1+b.length:=by simp only[cp_,ct_,cA_];omega
 have z:=t.then (c':=[aI.skip q]) (by
  rw[v];refine bM.one (h':=0) (v':=seen.length) (e':=some seen.length) d.uniq (fun y a=>absurd (d.out _ _ a) (by omega)) (fun y a=>absurd (d.out _ _ a) (by omega)) fun T c n j k g=>?_
  have a:=g q ⟨0,seen.length,none,false⟩ (ck_ ⟨rfl,rfl⟩);exact⟨by rw[c],by rw[c];show 1<=_;omega,by rw[c];exact cy_ _,by omega,⟨ck_ ⟨_,ck_ ⟨rfl,rfl⟩⟩,by rw[a,c];rfl,by rw[a,c];exact cy_ _,by rw[a];exact cl_ rfl⟩,iW,by rw[n,c];rfl,by rw[j,c];exact cy_ _,by rw[k,c];exact ck_ rfl⟩)
  fun x y e=>by have:=d.out x y e;simp only[cp_,ct_,cA_];omega
 have A:p+([aI.begin l seen]++b++[aI.skip q]).length=p+1+b.length+1:=by simp only[cp_,ct_,cA_];omega
 have o:=z.then (c':=cb) (by rw[A];exact(r _ (d.sub (by omega) (by omega))).entry cL) fun x y e=>by have:=d.out x y e;simp only[cp_,ct_,cA_];omega
 have B:p+([aI.begin l seen]++b++[aI.skip q]++cb).length=p+1+b.length+1+cb.length:=by simp only[cp_,ct_,cA_];omega
 exact o.then (c':=[aI.jump p]) (by
  rw[B];refine bM.one d.uniq (fun y a=>absurd (d.out _ _ a) (by omega)) (fun y a=>?_) fun T c n j k g=>?_
  ·rw[show p+1+b.length+1+cb.length+1=q from s] at a
   rcases a with (a|⟨a,_⟩)|⟨_,rfl⟩
   ·exact absurd a (i.none (by omega) (by omega) y)
   ·omega
   ·exact⟨rfl,rfl,rfl⟩
  ·have a:=g p ⟨0,seen.length,none,true⟩ (cl_ (ck_ ⟨rfl,rfl⟩));exact⟨by rw[c],by rw[c];exact cU_ _,ck_ (by rw[a]),ck_ ⟨_,cl_ (ck_ ⟨rfl,rfl⟩)⟩,by rw[a,c],by rw[a,c];exact u,by rw[a];exact cl_ rfl⟩)
  fun x y e=>by have:=d.out x y e;simp only[cp_,ct_,cA_];omega
def mL(fs:List aE):∀d,TT fs d
 |0,_,_,_,_,h,_=>h.elim
 |d+1,g,a,L,p,Y,i=>by
  have M:=mL fs d;rcases Y with ⟨k,S,t,v,l,F,_⟩|⟨k,O,J,l⟩|⟨k,c,t,l,Q,V⟩|⟨k,c,b,l,Q,S⟩|⟨k,l|⟨v,l,F⟩⟩|⟨k,v,l,F⟩|⟨k,v,l,F⟩
  ·have o:aX fs (d+1) g a p=(aI.begin a.line g::aF fs g d v (p+1)++[aI.declare g.length],t.text::g):=by rw[aX];simp[k,l]
   have r:cZ g a=t.text::g:=by unfold cZ;rw[if_pos k,l];rfl
   rw[o] at i ⊢
   rw[r];simp only at i ⊢
   obtain⟨B,I⟩:=lM (L:=L) (p:=p+1) (e:=some g.length) F (by omega) (i.sub (by omega) (by rw[qF];omega))
   refine⟨bM.stmt i B fun w=>bM.last w rfl (by omega) fun D T m E u A C z=>⟨by rw[m];rfl,z,?_⟩,trivial,_,rfl⟩
   rw[m];exact⟨cy_ _,cL,(by omega),rfl,E,u,by rw[A];exact cy_ _,cl_ C⟩
  ·have o:aX fs (d+1) g a p=(aI.begin a.line g::bV (aF fs g d) a.kids (p+1)++[aI.assign (dU g a.text) (a.kids.length-1)],g):=by rw[aX];simp[k]
   have r:cZ g a=g:=by unfold cZ;rw[if_neg (by rw[k];decide)]
   rw[o] at i ⊢
   rw[r];simp only at i ⊢
   obtain⟨B,I⟩:=rV (nL fs false g d) a.kids L (p+1) 0 g.length (some g.length) l cL (by omega) (i.sub (by omega) (by rw[qF];omega))
   rw[c8_] at B;have U:0<a.kids.length:=c7_.2 J;refine⟨bM.stmt i B fun w=>bM.last w rfl (by omega) fun D T m E u A C z=>⟨by rw[m];rfl,z,?_⟩,trivial,_,rfl⟩
   rw[m];refine⟨?_,rS O,E,?_,by rw[A];exact cy_ _,cl_ C⟩
   ·show a.kids.length-1+1<=a.kids.length;omega
   ·rw[u];show 0=a.kids.length-(a.kids.length-1+1);omega
  ·have r:cZ g a=g:=by unfold cZ;rw[if_neg (by rw[k];decide)]
   rw[r]
   obtain⟨H,o,P⟩:∃H,aX fs (d+1) g a p=(aI.begin a.line g::aF fs g d c (p+1)++[aI.skip (p+1+(aF fs g d c (p+1)).length+1+(bL (aX fs d) g t.kids (p+1+(aF fs g d c (p+1)).length+1)).length+1)]++bL (aX fs d) g t.kids (p+1+(aF fs g d c (p+1)).length+1)++
    [aI.jump (p+1+(aF fs g d c (p+1)).length+1+(bL (aX fs d) g t.kids (p+1+(aF fs g d c (p+1)).length+1)).length+1+H.length)]++H,g)/\
    ∃G,g.length<=G/\∀s,eT s (p+1+(aF fs g d c (p+1)).length+1+(bL (aX fs d) g t.kids (p+1+(aF fs g d c (p+1)).length+1)).length+1) (p+1+(aF fs g d c (p+1)).length+1+(bL (aX fs d) g t.kids (p+1+(aF fs g d c (p+1)).length+1)).length+1+H.length)->bM (fZ fs) s (p+1+(aF fs g d c (p+1)).length+1+(bL (aX fs d) g t.kids (p+1+(aF fs g d c (p+1)).length+1)).length+1) H 0 g.length none 0 G none:=by
    rcases l with l|⟨x,l,O⟩
    ·refine⟨[],by rw[aX];simp[k,l],g.length,cL,fun s j=>bM.nil _ _ _ _ _ _ (fun q y W Z=>absurd (j.out q y W) (by simp;omega)) j.uniq⟩
    ·exact⟨_,by rw[aX];simp[k,l],_,mU x.kids g,fun s j=>mY M x.kids g s _ O j⟩
   obtain⟨G,K,P⟩:=P;rw[o] at i ⊢
   simp only at i ⊢
   refine⟨bM.ifs (v1:=(eE g t.kids).length) (v2:=G) ?_ (fun s j=>(lM Q (by omega) j).1) (fun s j=>mY M t.kids g s _ V j) (mU _ _) P K,trivial,_,rfl⟩
   refine i.sub cL ?_;simp only[cp_,ct_,cA_];omega
  ·have o:aX fs (d+1) g a p=(aI.begin a.line g::aF fs g d c (p+1)++[aI.skip (p+1+(aF fs g d c (p+1)).length+1+(bL (aX fs d) g b.kids (p+1+(aF fs g d c (p+1)).length+1)).length+1)]++bL (aX fs d) g b.kids (p+1+(aF fs g d c (p+1)).length+1)++[aI.jump p],g):=by rw[aX];simp[k,l]
   have r:cZ g a=g:=by unfold cZ;rw[if_neg (by rw[k];decide)]
   rw[o] at i ⊢
   rw[r];simp only at i ⊢
   refine⟨bM.whiles (v1:=(eE g b.kids).length) ?_ (fun s j=>(lM Q (by omega) j).1) (fun s j=>mY M b.kids g s _ S j) (mU _ _),trivial,_,rfl⟩
   refine i.sub cL ?_;simp only[cp_,ct_,cA_];omega
  ·have o:aX fs (d+1) g a p=(aI.begin a.line g::[aI.push (bG 0)]++[aI.give],g):=by rw[aX];simp[k,l]
   have r:cZ g a=g:=by unfold cZ;rw[if_neg (by rw[k];decide)]
   rw[o] at i ⊢
   rw[r];simp only at i ⊢
   have N:eT L (p+1) (p+2):=i.sub (by omega) (by rw[qF];simp)
   refine⟨bM.stmt (n:=1) i (bM.plain N rfl (by omega) fun D T u A f b X=>⟨b,X,by rw[u];exact f⟩) fun w=>bM.last w rfl (by omega) fun D T m E u A C z=>⟨by rw[m];rfl,z,by rw[m];exact cy_ _⟩,trivial,_,rfl⟩
  ·have o:aX fs (d+1) g a p=(aI.begin a.line g::aF fs g d v (p+1)++[aI.give],g):=by rw[aX];simp[k,l]
   have r:cZ g a=g:=by unfold cZ;rw[if_neg (by rw[k];decide)]
   rw[o] at i ⊢
   rw[r];simp only at i ⊢
   obtain⟨B,I⟩:=lM (L:=L) (p:=p+1) (e:=some g.length) F (by omega) (i.sub (by omega) (by rw[qF];omega))
   exact⟨bM.stmt i B fun w=>bM.last w rfl (by omega) fun D T m E u A C z=>⟨by rw[m];rfl,z,by rw[m];exact cy_ _⟩,trivial,_,rfl⟩
  ·have o:aX fs (d+1) g a p=(aI.begin a.line g::aF fs g d v (p+1)++[aI.print],g):=by rw[aX];simp[k,l]
   have r:cZ g a=g:=by unfold cZ;rw[if_neg (by rw[k];decide)]
   rw[o] at i ⊢
   rw[r];simp only at i ⊢
   obtain⟨B,I⟩:=lM (L:=L) (p:=p+1) (e:=some g.length) F (by omega) (i.sub (by omega) (by rw[qF];omega))
   refine⟨bM.stmt i B fun w=>bM.last w rfl (by omega) fun D T m E u A C z=>⟨by rw[m];rfl,z,?_⟩,trivial,_,rfl⟩
   rw[m];exact⟨cy_ _,E,u,by rw[A];exact cy_ _,cl_ C⟩
  ·have o:aX fs (d+1) g a p=(aI.begin a.line g::aF fs g d v (p+1)++[aI.drop],g):=by rw[aX];simp[k,l]
   have r:cZ g a=g:=by unfold cZ;rw[if_neg (by rw[k];decide)]
   rw[o] at i ⊢
   rw[r];simp only at i ⊢
   obtain⟨B,I⟩:=lM (L:=L) (p:=p+1) (e:=some g.length) F (by omega) (i.sub (by omega) (by rw[qF];omega))
   refine⟨bM.stmt i B fun w=>bM.last w rfl (by omega) fun D T m E u A C z=>⟨by rw[m];rfl,z,?_⟩,trivial,_,rfl⟩
   rw[m];exact⟨cy_ _,E,u,by rw[A];exact cy_ _,cl_ C⟩
structure jG(fs:List aE)(d:Nat)(f:aE):Prop where
 kids:∃ps b,f.kids=ps++[b]/\StsOk (dM fs d) (ps.map (·.text)).reverse b.kids/\(ps.map (·.text)).Nodup
 len:(fP fs d f).code.length<=80000
def L5{fs:List aE}{d:Nat}{f:aE}(h:jG fs d f):∃T,pW (fZ fs) (fP fs d f).code T/\(T 0).h=0/\(T 0).v<=f.kids.length-1/\(T 0).e=none/\jA (fP fs d f).code:=by
 obtain⟨⟨z,b,D,p,_⟩,I⟩:=h;have g:(fP fs d f).code=bL (aX fs d) (z.map (·.text)).reverse b.kids 0++[.push (bG 0),.give]:=by simp[fP,D]
 have N:f.kids.length-1=(z.map (·.text)).reverse.length:=by simp[D]
 rw[N];generalize B:(z.map (·.text)).reverse=e at*
 have M:=mY (mL fs d) b.kids e (fun _ _=>False) 0 p ⟨fun _ _ _ h=>h.elim,fun _ _ h=>h.elim⟩
 have x:jA (fP fs d f).code:=by
  rw[g];cases A:b.kids with
  |nil=>exact ck_ ⟨_,rfl⟩
  |cons a l=>
   rw[A] at p;obtain⟨r,K⟩:=(mL fs d e a (fun _ _=>False) 0 p.1 ⟨fun _ _ _ h=>h.elim,fun _ _ h=>h.elim⟩).2.2
   exact cl_ ⟨a.line,e,r++bL (aX fs d) (aX fs d e a 0).2 l (0+(aX fs d e a 0).1.length)++[.push (bG 0),.give],by rw[bL,K];simp⟩
 generalize Q:bL (aX fs d) e b.kids 0=c at*;obtain⟨T,P,F,C,t,E,H,G,L⟩:=M;rw[c8_] at E H G;have s:(fP fs d f).code.length=c.length+2:=by rw[g];simp
 let U:Nat->eJ:=fun q=>if q=c.length then ⟨0,(T q).v,none,false⟩ else if q=c.length+1 then ⟨1,(T c.length).v,none,false⟩ else T q
 have u0:U c.length=⟨0,(T c.length).v,none,false⟩:=by simp[U]
 have u1:U (c.length+1)=⟨1,(T c.length).v,none,false⟩:=by simp[U]
 have u2:∀q,q<c.length->U q=T q:=fun q u=>by simp[U];rw[if_neg (by omega),if_neg (by omega)]
 have v:(T 0).e=none:=by rcases t with t|t<;>exact t
 have o:(U 0).h=0/\(U 0).v<=e.length/\(U 0).e=none:=by
  rcases dI_ c.length with w|w
  ·rw[w] at u0;rw[u0];exact⟨rfl,C,rfl⟩
  ·rw[u2 0 w];exact⟨F,C,v⟩
 refine⟨U,⟨fun j i m=>?_,I⟩,o.1,o.2.1,o.2.2,x⟩
 rw[s];rw[g] at m;rcases cR_ j c.length with n|n
 ·rw[cX_ n] at m;have:=L j i m;simp only[c8_] at this;refine this.same (T':=U) (u2 j n) (fun q u=>?_) (fun q u O p=>by rw[u2 q (by omega)];exact p)
  rcases u with u|⟨y,J⟩
  ·refine⟨by omega,?_⟩
   rcases cR_ q c.length with h|h
   ·rw[u2 q h];exact⟨rfl,cL,ck_ rfl⟩
   ·obtain rfl:q=c.length:=by omega
    rw[u0];exact⟨E.symm,cL,cl_ rfl⟩
  ·exact J.elim
 ·rw[cN_ n] at m;obtain⟨k,rfl⟩:∃k,j=c.length+k:=⟨j-c.length,by omega⟩
  rw[di_] at m;match k,m with
  |0,m=>
   simp at m;subst m;show iJ _ _ U c.length _
   exact⟨by rw[u0];rfl,by rw[u0];exact cU_ _,by omega,by rw[u1,u0],by rw[u1,u0];exact cy_ _,by rw[u1];exact cl_ rfl⟩
  |1,m=>
   simp at m;subst m;exact⟨by rw[u1];rfl,by rw[u1];show 1<=_;omega,by rw[u1];exact cy_ _⟩
  |k+2,m=>simp at m
def mJ{fs:List aE}{d:Nat}(h:∀f∈fs,jG fs d f):kV (fZ fs) (dC fs d):=by
 refine⟨fun k n a=>?_⟩
 unfold fZ at a;cases b:fs[k]? with
 |none=>rw[b] at a;cases a
 |some f=>
  rw[b] at a;simp at a;subst a;obtain⟨T,g,c,j,e,i⟩:=L5 (h f (c0_ b));exact⟨fP fs d f,T,by simp[dC,b],g,c,j,e,i⟩
def vD{fs:List aE}{d:Nat}(h:∀f∈fs,jG fs d f)(o:fZ fs (dG fs [109,97,105,110])=some 0)(a:List Int):fY (fZ fs) (gD fs d a):=by
 obtain⟨f,T,k,i,n,j,m,c⟩:=(mJ h).fn _ _ o;have e:gD fs d a=⟨[]++[⟨f,0,0,[],[],[]⟩],a,[]⟩:=by unfold gD;rw[k];rfl
 rw[e];refine⟨oK.snoc (fun g b=>by cases b) ⟨⟨T,i,n,j,cl_ m⟩,?_,by simp,by simp⟩ (by simp),fun g b=>by simp at b;rw[b];exact c⟩
 rcases c with ⟨l,s,r,e⟩|⟨v,e⟩<;>simp[e]
end Go.Proofs.YtmjbnmpamlainaaGreatDoor.Hs
