import Derived.Test.YtjhbbdpfkccohaaGreatDoorB01
set_option linter.all false
set_option maxRecDepth 100000
open List renaming length->Ty
open Option renaming some->Ua,none->Ub
open Bool renaming false->Uc,true->Ud
open Go renaming Value->Uf,World->Ug,Ending->Uh
namespace Go.Proofs.YtjhbbdpfkccohaaGreatDoor
namespace Hs
end Hs
open Hs
def o_{p:Prop}(h:p:=by omega):p:=h
def s_{p:Prop}(h:p:=by simp):p:=h
def t_{p:Prop}(h:p:=by simp;omega):p:=h
def d_{p:Prop}(h:p:=by decide):p:=h
def k_{p:Prop}(h:p:=by kernel_rfl):p:=h
def r_{p:Prop}(h:p:=by rfl):p:=h
def G_{p:Prop}(h:p:=by grind):p:=h
def kj{p:Prop}(h:p:=by simp;exact aD):p:=h
def kk{p:Prop}(h:p:=by unfold maxLen;exact aD):p:=h
def km{p:Prop}(h:p:=by rw[h];decide):p:=h
def ko{p:Prop}(h:p:=by go_grown):p:=h
def kt{p:Prop}(h:p:=by simp[go_sem]):p:=h
def ku{p:Prop}(h:p:=by grind [eg]):p:=h
def ky{p:Prop}(h:p:=by simp[results,results187,go_sem,k,j,l,i,A]):p:=h
def kz{p:Prop}(h:p:=by unfold maxLen;simp;exact aD):p:=h
def la{p:Prop}(h:p:=by go_num):p:=h
def lb{p:Prop}(h:p:=by simp[Value.oneCell']):p:=h
def lf{p:Prop}(h:p:=by simp[results,results236,go_sem]):p:=h
def lg{p:Prop}(h:p:=by simp[c]):p:=h
def lh{p:Prop}(h:p:=by rw[b];simp):p:=h
def lj{p:Prop}(h:p:=by grind [eV.sub]):p:=h
def ll{p:Prop}(h:p:=by rw[b,jg];constructor<;>intro h<;>(try simp at h)<;>(try simp)<;>exact aD):p:=h
def lm{p:Prop}(h:p:=by simp[results,results185,go_sem];rfl):p:=h
def lq{p:Prop}(h:p:=by generalize sf rr.c_=pa;generalize ug ⟨rr.c_,rr.x_,L⟩=pb;simp[results,results140,go_sem,z0,z1,z2,z3]):p:=h
def lr{p:Prop}(h:p:=by grind [ep,dz]):p:=h
def lu{p:Prop}(h:p:=by simp[m]):p:=h
def lw{p:Prop}(h:p:=by simp[results,results260,go_sem];rfl):p:=h
def ly{p:Prop}(h:p:=by simp[results,results187,go_sem,k,j,l,i];rfl):p:=h
def me{p:Prop}(h:p:=by simp[results,results79,go_sem,cK]):p:=h
def mf{p:Prop}(h:p:=by simp[Rows.runsRow]):p:=h
def mg{p:Prop}(h:p:=by grind [d7]):p:=h
def mi{p:Prop}(h:p:=by simp[bE,e]):p:=h
def mj{p:Prop}(h:p:=by grind [ep,Below.tj,ZD.re,Below.size]):p:=h
def mm{p:Prop}(h:p:=by grind [d7,sq]):p:=h
def mn{p:Prop}(h:p:=by grind [ua.ok.many]):p:=h
def mq{p:Prop}(h:p:=by rw[d];rfl):p:=h
def mr{p:Prop}(h:p:=by simp[results,results186,go_sem];rfl):p:=h
def mw{p:Prop}(h:p:=by grind [d7,RV.num]):p:=h
def my{p:Prop}(h:p:=by grind [d7,RV.nil]):p:=h
def mz{p:Prop}(h:p:=by grind [World.grownBy.block]):p:=h
def nc{p:Prop}(h:p:=by grind [Value.ownBlock]):p:=h
def ng{p:Prop}(h:p:=by grind [World.ownsRow_made]):p:=h
def nh{p:Prop}(h:p:=by simp[results,results136,go_sem,z0,z1,z2,z3]):p:=h
def ni{p:Prop}(h:p:=by simp[results,results60,go_sem,z0,z1,z2,z3]):p:=h
def nj{p:Prop}(h:p:=by grind [em]):p:=h
def nk{p:Prop}(h:p:=by have:=o.re.size;simp;exact aD):p:=h
def nl{p:Prop}(h:p:=by rw[m];simp):p:=h
def nn{p:Prop}(h:p:=by grind [Addr.add_lit,lY]):p:=h
def np{p:Prop}(h:p:=by grind [d7,sq.walk]):p:=h
def nr{p:Prop}(h:p:=by grind [ua.ok.tf]):p:=h
def ns{p:Prop}(h:p:=by rw[i.out];simp):p:=h
def nt{p:Prop}(h:p:=by grind [Below.tj,Below.trans,d7,Below.mono,Below.size]):p:=h
def nu{p:Prop}(h:p:=by grind [ob]):p:=h
def ny{p:Prop}(h:p:=by first|decide|exact aD):p:=h
def nz{p:Prop}(h:p:=by grind [bV.heap]):p:=h
def oa{p:Prop}(h:p:=by grind [DM.rl]):p:=h
def od{p:Prop}(h:p:=by rcases h with h|h<;>rw[h]<;>decide):p:=h
def oe{p:Prop}(h:p:=by simp[results,results210,go_sem, *]):p:=h
def og{p:Prop}(h:p:=by simp[Value.ownBlock]):p:=h
def oh{p:Prop}(h:p:=by simp[results,results187,go_sem,a20,a21,a22,a23,g2]):p:=h
def oi{p:Prop}(h:p:=by rw[HF,e];rfl):p:=h
def oj{p:Prop}(h:p:=by rw[HP]):p:=h
def om{p:Prop}(h:p:=by rw[m];exact RV.nil _ _ _):p:=h
def oq{p:Prop}(h:p:=by simp[results,results115,go_sem,M,I,J,K,L,SV.val]):p:=h
def ow{p:Prop}(h:p:=by simp[results,results64,go_sem,c0,T,Q,U,Z,SV.val]):p:=h
def oy{p:Prop}(h:p:=by simp[results,results219,go_sem,z0,z1,z2,z3];rfl):p:=h
def oz{p:Prop}(h:p:=by simp[results,results220,go_sem,z0,z1,z2,z3];rfl):p:=h
def pd{p:Prop}(h:p:=by simp[results,results186,go_sem]):p:=h
def ph{p:Prop}(h:p:=by simp[results,results107,go_sem]):p:=h
def pi{p:Prop}(h:p:=by grind [bE]):p:=h
def pj{p:Prop}(h:p:=by simp[results,results220,go_sem,y0,y1,y2,y3,A]):p:=h
def pk{p:Prop}(h:p:=by simp[results,results109,go_sem,y0,y1,y2,y3,t]):p:=h
def pm{p:Prop}(h:p:=by grind [ra.node,rh.two]):p:=h
def pp{p:Prop}(h:p:=by grind [ra.node,rh.one]):p:=h
def pq{p:Prop}(h:p:=by grind [aI.pop]):p:=h
def pt{p:Prop}(h:p:=by grind [LV.h_,eg,RV]):p:=h
def pu{p:Prop}(h:p:=by grind [Fr.setCell,Fr.below]):p:=h
def pw{p:Prop}(h:p:=by grind [dM.apart]):p:=h
def py{p:Prop}(h:p:=by grind [cX.er]):p:=h
def pz{p:Prop}(h:p:=by simp[z]):p:=h
def qa{p:Prop}(h:p:=by grind [rn]):p:=h
def qb{p:Prop}(h:p:=by simp[f]):p:=h
def qc{p:Prop}(h:p:=by rw[HP];exact RV.nil _ _ _):p:=h
def qd{p:Prop}(h:p:=by rw[m]):p:=h
def qe{p:Prop}(h:p:=by rw[g];exact RV.nil _ _ _):p:=h
def qf{p:Prop}(h:p:=by rw[m];exact RV.yes _ _ _):p:=h
def qg{p:Prop}(h:p:=by grind [RV.nil]):p:=h
def qh{p:Prop}(h:p:=by grind [sr.below,ep,dz]):p:=h
def qi{p:Prop}(h:p:=by simp[results,results46]):p:=h
def qj{p:Prop}(h:p:=by rw[m];exact RV.no _ _ _):p:=h
def qk{p:Prop}(h:p:=by grind [AK.at_,Nd]):p:=h
def ql{p:Prop}(h:p:=by rw[g];exact fg _ k.out):p:=h
def qm{p:Prop}(h:p:=by simpa using h):p:=h
def qn{p:Prop}(h:p:=by grind [aI.push]):p:=h
def qo{p:Prop}(h:p:=by grind [eh]):p:=h
def qp{p:Prop}(h:p:=by rw[HS];exact hc):p:=h
def qq{p:Prop}(h:p:=by rw[xQ];exact aD):p:=h
def qr{p:Prop}(h:p:=by simp[gR,b];rfl):p:=h
def qs{p:Prop}(h:p:=by simp[i]):p:=h
def qt{p:Prop}(h:p:=by rw[z];rfl):p:=h
def qu{p:Prop}(h:p:=by rw[m];rfl):p:=h
def qv{p:Prop}(h:p:=by rw[I.out]):p:=h
def qw{p:Prop}(h:p:=by simp[b]):p:=h
def qx{p:Prop}(h:p:=by simp[cF]):p:=h
def qy{p:Prop}(h:p:=by simp[q]):p:=h
def qz{p:Prop}(h:p:=by rw[j]):p:=h
def E_{a:Type}(x:a):∃y,y=x:=⟨x,rfl⟩
abbrev I_(n:Int):Uf:=.int .i64 n
abbrev aL(b i:Nat):Addr:=⟨b,i,Ub⟩
abbrev bF(b:Nat):Uf:=.pointer (Ua ⟨b,0,Ub⟩)
abbrev R_(a b:Ug):Prop:=Go.RowKit.Below a.heap.size a b
abbrev fD:Uh:=.returned (.tuple #[])
abbrev Tp(F:Nat->Prop)(a b:Ug):Prop:=∀k,F k->b.heap[k]?=a.heap[k]?
abbrev mL:Type:=Ug->Prop
abbrev SW(b n c:Nat):Uf:=.slice (Ua ⟨b,0,Ub⟩) n c
def bs(l:List UInt8):ByteArray:=⟨l.toArray⟩
abbrev S_(x:List UInt8):Uf:=.string (bs x)
abbrev H_(w:Ug):Nat:=w.heap.size
abbrev dY(x:ByteArray):List UInt8:=x.data.toList
abbrev bO:Uf:=.slice Ub 0 0
abbrev bY(v:Uf):Uh:=.returned v
abbrev bP:Type:=List UInt8
abbrev cY:Type:=List (List UInt8)
abbrev aN:Type:=Ug
abbrev aW:Type:=Uf
abbrev bN:Type:=Nat->Prop
abbrev iU:Type:=Nat->Uf
abbrev P_(a:Option Addr)(n c:Nat):Uf:=.slice a n c
abbrev Q_(s:ByteArray):Uf:=.string s
abbrev cD(c:Array Uf)(e:TypeId):Obj:=.cells c e
abbrev dH(t:TypeId)(v:Uf):Uf:=.iface t v
abbrev eH(w:Ug)(c:Array Uf)(e:TypeId):Ug:=w.alloc (.cells c e)
abbrev dP(w:Ug)(b i:Nat)(v:Uf):Prop:=w.cell? ⟨b,i,Ub⟩=Ua v
attribute [go_sem] P_ Q_ cD dH eH H_ dY
def rf{P:Program}{f:FuncId}{a:Array Uf}{w:Ug}{v:Uh}{R:Ug->Prop}{Q:Uh->Ug->Prop}(h:Calls P f a w λe b=>e=v/\R b)(k:∀b,R b->Q v b):Calls P f a w Q:=h.mono λ_ b q=>q.1▸k b q.2
def oN{P:Program}{f:FuncId}{a:Array Uf}{w u:Ug}{v:Uh}{Q:Uh->Ug->Prop}(h:Calls P f a w λe b=>e=v/\b=u)(k:Q v u):Calls P f a w Q:=h.mono λ_ _ q=>q.1▸q.2▸k
def aD{p:Prop}(h:p:=by first|omega|(simp only[H_,dY]at*;omega)):p:=h
def aJ.{u} {a:Sort u} {b:a}:b=b:=rfl
def Fx{a:Type}{p:a->Prop}:∀b,b∈([]:List a)->p b:=λ_ h=>nomatch h
def mJ{n:Nat}:n<=n:=fi n
def MW{a:Type}{p:a->Prop}(b:a)(h:p b):p b:=h
end Go.Proofs.YtjhbbdpfkccohaaGreatDoor
namespace Go.Proofs.YtjhbbdpfkccohaaGreatDoor.Hs
def bD(l:bP):Nat:=1+l.count 10
def tL(a b:bP):bD (a++b)=bD a+b.count 10:=by grind [bD]
def BM(a:bP):bD a<=Ty a+1:=by grind [bD]
def JM(a:bP)(c:UInt8):bD (a++[c])=bD a+if c=10 then 1 else 0:=by grind [bD]
def iY(l:bP)(i lo hi:Nat):Bool:=
 match l[i]? with
 |some b=>decide (lo<=b.toNat) && decide (b.toNat<=hi)
 |none=>Uc
def bW(l:bP):Nat:=
 match l[0]? with
 |none=>0
 |some b=>
  if b.toNat<128 then 1
  else if 194<=b.toNat/\b.toNat<=223 then if iY l 1 128 191 then 2 else 0
  else if 224<=b.toNat/\b.toNat<=239 then
   if iY l 1 (if b.toNat=224 then 160 else 128) (if b.toNat=237 then 159 else 191) && iY l 2 128 191 then 3 else 0
  else if 240<=b.toNat/\b.toNat<=244 then
   if iY l 1 (if b.toNat=240 then 144 else 128) (if b.toNat=244 then 143 else 191) && iY l 2 128 191 && iY l 3 128 191 then 4 else 0
  else 0
def dU:Nat->bP->Nat->Option Nat
 |0,_,_=>Ub
 |f+1,l,p=>
  if Ty l=0 then Ub
  else if bW l=0 then Ua p
  else dU f (l.drop (bW l)) (p+bW l)
def dL(c:UInt8):Bool:=decide (48<=c.toNat) && decide (c.toNat<=57)
def eF(c:UInt8):Bool:=
 c.toNat==95 || (decide (97<=c.toNat) && decide (c.toNat<=122) || decide (65<=c.toNat) && decide (c.toNat<=90))
def eE(l what:bP):Bool:=what.isPrefixOf l
def bR(p:UInt8->Bool):bP->Nat
 |[]=>0
 |c::r=>if p c then bR p r+1 else 0
theorem lN(p:UInt8->Bool):∀(l:bP),∀c∈l.take (bR p l),p c=Ud
 |[],c,h=>by simp at h
 |a::r,c,h=>by
  unfold bR at h;split at h
  .rename_i q;rcases ff.1 h with rfl|h
   .exact q
   exact lN p r c h
  cases h
theorem oE(p:UInt8->Bool)(l:bP):bR p l<=Ty l:=by
 induction l with
 |nil=>simp[bR]
 |cons c r a=>grind [bR]
def fT(b:UInt8):Bool:=b.toNat != 10
def cJ:Nat->bP->Nat
 |0,_=>0
 |f+1,l=>
  match l with
  |[]=>0
  |c::r=>
   if c.toNat=32\/c.toNat=9\/c.toNat=10 then cJ f r+1
   else if eE (c::r) [47,47]then
    bR fT (c::r)+cJ f ((c::r).drop (bR fT (c::r)))
   else 0
def rA:Nat:=9223372036854775807
def dS:Nat->bP->Option Nat
 |n,[]=>Ua n
 |n,c::r=>if (rA-(c.toNat-48))/10<n then Ub else dS (10*n+(c.toNat-48)) r
def fC:cY:=[[102,117,110,99],[118,97,114],[105,102],[101,108,115,101],[119,104,105,108,101],[114,101,116,117,114,110],[112,114,105,110,116],[116,114,117,101],[102,97,108,115,101]]
def eK:cY:=[[61,61],[33,61],[60,61],[38,38],[124,124],[40],[41],[123],[125],[91],[93],[44],[59],[61],[60],[43],[45],[42],[47],[37],[33]]
def dK(name:Bool)(b:UInt8):Bool:=dL b || name && eF b
def iG(b:UInt8):Bool:=b.toNat != 34 && b.toNat != 10
structure bH where
 c_:Nat
 x_:bP
 l_:Nat
structure qV where
 c_:Nat
 x_:bP
 size:Nat
 ok:Bool
def iX(l:bP)(name:Bool):qV:=
 if name then { c_:=if fC.contains (l.take (bR (dK name) l))then 107 else 110,x_:=l.take (bR (dK name) l),size:=bR (dK name) l,ok:=decide (bR (dK name) l<=16) }
 else { c_:=48,x_:=l.take (bR (dK name) l),size:=bR (dK name) l,ok:=(dS 0 (l.take (bR (dK name) l))).isSome }
def oQ(r:bP):qV:=
 { c_:=115,x_:=r.take (bR iG r),size:=bR iG r+2,ok:=decide (r[bR iG r]?=Ua 34) && decide (bR iG r<=100) }
def jS(l:bP):qV:=
 match eK.find? (λo=>eE l o)with
 |some o=>{ c_:=112,x_:=o,size:=Ty o,ok:=Ud }
 |none=>{ c_:=0,x_:=[],size:=0,ok:=Uc }
def cT:bP->qV
 |[]=>{ c_:=0,x_:=[],size:=0,ok:=Uc }
 |c::r=>if dL c || eF c then iX (c::r) (eF c)else if c.toNat=34 then oQ r else jS (c::r)
def fH:Nat->bP->bP->Except Nat (List bH)
 |0,_,_=>.error 0
 |f+1,pre,l=>
  if Ty l=0 then .ok [{ c_:=101,x_:=[],l_:=bD pre }]
  else if (cT l).ok then
   match fH f (pre++l.take ((cT l).size+cJ (Ty l) (l.drop (cT l).size))) (l.drop ((cT l).size+cJ (Ty l) (l.drop (cT l).size)))with
   |.ok ts=>.ok ({ c_:=(cT l).c_,x_:=(cT l).x_,l_:=bD pre }::ts)
   |.error n=>.error n
  else .error (bD pre)
def gS(l:bP):Except Nat (List bH):=
 fH (Ty l+1) (l.take (cJ (Ty l) l)) (l.drop (cJ (Ty l) l))
end Go.Proofs.YtjhbbdpfkccohaaGreatDoor.Hs
namespace Go.Proofs.YtjhbbdpfkccohaaGreatDoor
open Hs
open Go.RowKit
structure td(L:List Nat)(w w':aN):Prop where
 os:w'.os=w.os
 tape:w'.tape=w.tape
 output:w'.output=w.output
 size:w.heap.size<=w'.heap.size
 i_:∀k,k<w.heap.size->k∉L->w'.heap[k]?=w.heap[k]?
theorem td.below{w a:aN}(h:R_ w a)(L:List Nat):td L w a:=⟨h.os,h.tape,h.output,h.size,λk b _=>h.block k b⟩
def td.alloc(w:aN)(o:Obj)(L:List Nat):td L w (w.alloc o):=(by grind [td.below,ep,dz])
def td.drew(w:aN)(L:List Nat):td L w w.drew:=⟨rfl,rfl,rfl,s_,λ_ _ _=>rfl⟩
def td.set(w:aN)(b:Nat)(v:aW):td [b] w (w.setCell (aL b 0) v):=⟨rfl,rfl,rfl,s_,nj⟩
def td.trans{L M:List Nat}{a b c:aN}(h:td L a b)(k:td M b c):td (L++M) a c:=
 ⟨k.os.trans h.os,k.tape.trans h.tape,k.output.trans h.output,eo h.size k.size,λi e d=>by rw[fo,not_or]at d;rw[k.i_ i (ej e h.size) d.2,h.i_ i e d.1]⟩
end Go.Proofs.YtjhbbdpfkccohaaGreatDoor
namespace Go.Proofs.YtjhbbdpfkccohaaGreatDoor.Hs
variable{t:List Int}{v:List bH}{O Q S V W X:Nat}{R:Nat->Option Nat}{N Y:Option Nat}{a:Prop}{j y:Type}{f g:bP}{P:cY}
def wE(h:eE g f=Ud):Ty f<=Ty g:=(by grind [eE])
theorem rD(f:Nat):∀l:bP,cJ f l<=Ty l:=by
 induction f with
 |zero=>simp[cJ]
 |succ f a=>
  intro l;cases l with
  |nil=>simp[cJ]
  |cons c r=>
   grind [oE,cJ]
theorem KI(f:Nat):∀(g:Nat) (l:bP),Ty l<=f->Ty l<=g->cJ f l=cJ g l:=by
 induction f with
 |zero=>
  intro g l h _;obtain rfl:l=[]:=(by grind)
  cases g<;>rfl
 |succ f b=>
  intro g l d a;cases l with
  |nil=>grind
  |cons c r=>
   cases g with
   |zero=>simp at a
   |succ g=>
    grind [bR,fT,cJ]
def KZ(l:bP)(b:Bool):(iX l b).size=bR (dK b) l:=by unfold iX;grind
theorem tY(l:bP)(h:(cT l).ok=Ud):1<=(cT l).size/\(cT l).size<=Ty l:=by
 cases l with
 |nil=>simp[cT]at h
 |cons c r=>
  rw[cT]at h ⊢
  split
  .grind [oE,bR,dK,iX]
  split
  .grind [oQ]
  unfold jS at h ⊢
  cases a:eK.find? (λo=>eE (c::r) o)with
  |none=>grind
  |some o=>
   have b:=List.find?_some a;refine⟨?_,wE b⟩;have:∀o∈eK,1<=Ty o:=d_
   grind
def jF(ts:List bH):Except Nat (List bH)->Except Nat (List bH)
 |.ok l=>.ok (ts++l)
 |.error n=>.error n
def wR(x:Except Nat (List bH)):jF [] x=x:=by cases x<;>rfl
def vE(a:List bH)(t:bH)(x:Except Nat (List bH)):jF (a++[t]) x=jF a (jF [t] x):=by cases x<;>simp[jF]
def qX(f:Nat)(a l:bP)(h:Ty l=0):fH (f+1) a l=.ok [{ c_:=101,x_:=[],l_:=bD a }]:=by rw[fH,ef h]
def AS(f:Nat)(a l:bP)(h:¬(Ty l)=0)(b:(cT l).ok=Uc):fH (f+1) a l=.error (bD a):=by grind [fH]
def yM(f:Nat)(a l:bP)(h:¬(Ty l)=0)(c:(cT l).ok=Ud)(m:Nat)(b:m=(cT l).size+cJ (Ty l) (l.drop (cT l).size)):
 fH (f+1) a l=jF [{ c_:=(cT l).c_,x_:=(cT l).x_,l_:=bD a }] (fH f (a++l.take m) (l.drop m)):=by
 grind [fH,jF]
structure aC where
 op:bP
 l_:Nat
 x_:bP
 y_:List aC
def aS(ts:List bH)(p:Nat):bH:=ts[p]?.getD { c_:=101,x_:=[],l_:=0 }
def bZ(ts:List bH)(p:Nat)(x:bP):Bool:=((aS ts p).c_==112 || (aS ts p).c_==107) && (aS ts p).x_==x
abbrev bS(α:Type):=Except Nat (α × Nat)
def bad{α:Type}(ts:List bH)(p:Nat):bS α:=.error (aS ts p).l_
def cU(x:bP):Nat:=
 if x==[124,124]then 0
 else if x==[38,38]then 1
 else if x==[61,61] || (x==[33,61] || (x==[60] || x==[60,61]))then 2
 else if x==[43] || x==[45]then 3
 else if x==[42] || (x==[47] || x==[37])then 4
 else 9
def fM(E:Nat->bS aC)(ts:List bH):Nat->Nat->List aC->bS (List aC)
 |0,_,_=>.error 0
 |g+1,p,acc=>
  match E p with
  |.error l=>.error l
  |.ok (a,q)=>if bZ ts q [44]then fM E ts g (q+1) (acc++[a])else .ok (acc++[a],q)
def gK(E:Nat->bS aC)(ts:List bH)(p:Nat)(shut:bP):bS (List aC):=
 if bZ ts p shut then .ok ([],p)else fM E ts (Ty ts+1) p []
def aQ{α:Type}(ts:List bH)(x:bP):bS α->bS α
 |.error l=>.error l
 |.ok (a,q)=>if bZ ts q x then .ok (a,q+1)else bad ts q
def fU(E:Nat->bS aC)(ts:List bH)(p:Nat)(opens shut:bP):bS (List aC):=
 if bZ ts p opens then aQ ts shut (gK E ts (p+1) shut)else bad ts p
def bT{α β:Type}(f:α->β):bS α->bS β
 |.error l=>.error l
 |.ok (a,q)=>.ok (f a,q)
def bL{α β:Type}(x:bS α)(f:α->Nat->bS β):bS β:=
 match x with
 |.error l=>.error l
 |.ok (a,q)=>f a q
def aV(op:bP)(l_:Nat)(x_:bP)(y_:List aC):aC:={ op:=op,l_:=l_,x_:=x_,y_:=y_ }
def eJ(E:Nat->bS aC)(ts:List bH)(p:Nat):bS aC:=
 if (aS ts p).c_==48 || (aS ts p).c_==115 then .ok (aV [UInt8.ofNat (aS ts p).c_] (aS ts p).l_ (aS ts p).x_ [],p+1)
 else if bZ ts p [116,114,117,101] || bZ ts p [102,97,108,115,101]then .ok (aV [98,111,111,108] (aS ts p).l_ (aS ts p).x_ [],p+1)
 else if bZ ts p [40]then aQ ts [41] (E (p+1))
 else if bZ ts p [91]then bT (aV [108,105,115,116] (aS ts p).l_ (aS ts p).x_) (fU E ts p [91] [93])
 else if (aS ts p).c_==110 then
  if bZ ts (p+1) [40]then bT (aV [99,97,108,108] (aS ts p).l_ (aS ts p).x_) (fU E ts (p+1) [40] [41])
  else .ok (aV [110,97,109,101] (aS ts p).l_ (aS ts p).x_ [],p+1)
 else bad ts p
def eS(E:Nat->bS aC)(ts:List bH):Nat->aC->Nat->bS aC
 |0,_,_=>.error 0
 |g+1,n,p=>
  if bZ ts p [91]then
   match aQ ts [93] (E (p+1))with
   |.error l=>.error l
   |.ok (i,q)=>eS E ts g (aV [105,110,100,101,120] (aS ts p).l_ [] [n,i]) q
  else .ok (n,p)
def iC(E:Nat->bS aC)(ts:List bH):Nat->Nat->bS aC
 |0,_=>.error 0
 |g+1,p=>
  if bZ ts p [45]then bT (λx=>aV [45,120] (aS ts p).l_ [] [x]) (iC E ts g (p+1))
  else if bZ ts p [33]then bT (λx=>aV [33,120] (aS ts p).l_ [] [x]) (iC E ts g (p+1))
  else bL (eJ E ts p) (eS E ts (Ty ts+1))
def cH(L:Nat->bS aC)(ts:List bH)(k:Nat):Nat->aC->Nat->bS aC
 |0,_,_=>.error 0
 |g+1,n,q=>
  if (aS ts q).c_==112 && cU (aS ts q).x_==k then
   match L (q+1)with
   |.error l=>.error l
   |.ok (r,q2)=>if k=2 then .ok (aV (aS ts q).x_ (aS ts q).l_ [] [n,r],q2)else cH L ts k g (aV (aS ts q).x_ (aS ts q).l_ [] [n,r]) q2
  else .ok (n,q)
def iM(E:Nat->bS aC)(ts:List bH):Nat->Nat->bS aC
 |0,p=>iC E ts (Ty ts+1) p
 |j+1,p=>bL (iM E ts j p) (cH (iM E ts j) ts (4-j) (Ty ts+1))
def jP(ts:List bH):Nat->Nat->bS aC
 |0,_=>.error 0
 |f+1,p=>iM (jP ts f) ts 5 p
def fP(E:Nat->bS aC)(ts:List bH):Nat->Nat->List aC->bS (List aC)
 |0,_,_=>.error 0
 |g+1,p,acc=>
  if bZ ts p [91]then
   match aQ ts [93] (E (p+1))with
   |.error l=>.error l
   |.ok (i,q)=>fP E ts g q (acc++[i])
  else .ok (acc,p)
def fX(E:Nat->bS aC)(ts:List bH)(p:Nat):bS aC:=
 if (aS ts p).c_==110 then
  if bZ ts (p+1) [40]then
   aQ ts [59] (bT (λl=>aV [100,111] (aS ts p).l_ (aS ts p).x_ [aV [99,97,108,108] (aS ts p).l_ (aS ts p).x_ l]) (fU E ts (p+1) [40] [41]))
  else
   bL (aQ ts [61] (fP E ts (Ty ts+1) (p+1) [])) λidx q=>
    aQ ts [59] (bT (λv=>aV [115,101,116] (aS ts p).l_ (aS ts p).x_ (idx++[v])) (E q))
 else bad ts p
def sJ(E:Nat->bS aC)(ts:List bH)(p:Nat):bS aC:=
 if (aS ts (p+1)).c_==110 then
  if bZ ts (p+2) [61]then
   aQ ts [59] (bT (λv=>aV [118,97,114] (aS ts p).l_ [] [aV [116,97,114,103,101,116] (aS ts (p+1)).l_ (aS ts (p+1)).x_ [],v]) (E (p+3)))
  else bad ts (p+2)
 else bad ts (p+1)
def AD(E B:Nat->bS aC)(ts:List bH)(p:Nat):bS aC:=
 bL (E (p+1)) λc q=>bL (B q) λb q2=>
  if bZ ts q2 [101,108,115,101]then bT (λd=>aV [105,102] (aS ts p).l_ [] [c,b,d]) (B (q2+1))
  else .ok (aV [105,102] (aS ts p).l_ [] [c,b],q2)
def xO(E B:Nat->bS aC)(ts:List bH)(p:Nat):bS aC:=
 bL (E (p+1)) λc q=>bT (λb=>aV [119,104,105,108,101] (aS ts p).l_ [] [c,b]) (B q)
def pN(E:Nat->bS aC)(ts:List bH)(p:Nat):bS aC:=
 if bZ ts (p+1) [59]then .ok (aV [114,101,116,117,114,110] (aS ts p).l_ [] [],p+2)
 else aQ ts [59] (bT (λv=>aV [114,101,116,117,114,110] (aS ts p).l_ [] [v]) (E (p+1)))
def xR(E:Nat->bS aC)(ts:List bH)(p:Nat):bS aC:=
 aQ ts [59] (bT (λv=>aV [112,114,105,110,116] (aS ts p).l_ [] [v]) (E (p+1)))
def jU(E B:Nat->bS aC)(ts:List bH)(p:Nat):bS aC:=
 if bZ ts p [118,97,114]then sJ E ts p
 else if bZ ts p [105,102]then AD E B ts p
 else if bZ ts p [119,104,105,108,101]then xO E B ts p
 else if bZ ts p [114,101,116,117,114,110]then pN E ts p
 else if bZ ts p [112,114,105,110,116]then xR E ts p
 else fX E ts p
def eY(S:Nat->bS aC)(ts:List bH):Nat->Nat->List aC->bS (List aC)
 |0,_,_=>.error 0
 |g+1,p,acc=>
  if bZ ts p [125]then .ok (acc,p)
  else
   match S p with
   |.error l=>.error l
   |.ok (s,q)=>eY S ts g q (acc++[s])
def iO(E:Nat->bS aC)(ts:List bH):Nat->Nat->bS aC
 |0,_=>.error 0
 |f+1,p=>
  if bZ ts p [123]then
   bT (aV [98,108,111,99,107] (aS ts p).l_ []) (aQ ts [125] (eY (jU E (iO E ts f) ts) ts (Ty ts+1) (p+1) []))
  else bad ts p
def eB(ts:List bH):Nat->Nat->List aC->bS (List aC)
 |0,_,_=>.error 0
 |g+1,p,acc=>
  if (aS ts p).c_==110 then
   if bZ ts (p+1) [44]then eB ts g (p+2) (acc++[aV [112,97,114,97,109] (aS ts p).l_ (aS ts p).x_ []])
   else .ok (acc++[aV [112,97,114,97,109] (aS ts p).l_ (aS ts p).x_ []],p+1)
  else bad ts p
def kV(ts:List bH)(p:Nat):bS (List aC):=
 aQ ts [41] (if bZ ts p [41]then .ok ([],p)else eB ts (Ty ts+1) p [])
def lW(B:Nat->bS aC)(ts:List bH)(p:Nat):bS aC:=
 if bZ ts p [102,117,110,99]then
  if (aS ts (p+1)).c_==110 then
   if bZ ts (p+2) [40]then
    bL (kV ts (p+3)) λl q=>bT (λb=>aV [102,117,110,99] (aS ts (p+1)).l_ (aS ts (p+1)).x_ (l++[b])) (B q)
   else bad ts (p+2)
  else bad ts (p+1)
 else bad ts p
def fK(F:Nat->bS aC)(ts:List bH):Nat->Nat->List aC->bS (List aC)
 |0,_,_=>.error 0
 |g+1,p,acc=>
  if (aS ts p).c_==101 then .ok (acc,p)
  else
   match F p with
   |.error l=>.error l
   |.ok (s,q)=>fK F ts g q (acc++[s])
def lC(ts:List bH):bS (List aC):=
 fK (lW (iO (jP ts (Ty ts+1)) ts (Ty ts+1)) ts) ts (Ty ts+1) 0 []
structure bI(ts:List bH):Prop where
 next:∀p,p<Ty ts->(aS ts p).c_≠101->p+1<Ty ts
 l_:∀p,p<Ty ts->(aS ts p).l_≠0
structure cX{α:Type}(N p:Nat)(r:bS α):Prop where
 er:∀l,r=.error l->l≠0
 ok:∀a q,r=.ok (a,q)->p<q/\q<N
structure gW{α:Type}(N p:Nat)(r:bS α):Prop where
 er:∀l,r=.error l->l≠0
 ok:∀a q,r=.ok (a,q)->p<=q/\q<N
theorem cX.wj{r:bS y}(h:cX O X r):gW O X r:=⟨h.er,λa q e=>by have:=h.ok a q e;exact aD⟩
def cX.ne{r:bS y}(h:cX O X r):r≠.error 0:=λe=>h.er 0 e rfl
theorem gW.ne{r:bS y}(h:gW O X r):r≠.error 0:=λe=>h.er 0 e rfl
theorem cX.low{r:bS y}(h:cX O X r)(d:Q<=X):cX O Q r:=⟨h.er,λa q e=>by have:=h.ok a q e;exact aD⟩
theorem gW.low{r:bS y}(h:gW O X r)(d:Q<X):cX O Q r:=⟨h.er,λa q e=>by have:=h.ok a q e;exact aD⟩
theorem cX.rB(a:y)(h:X<Q)(c:Q<O):cX O X (.ok (a,Q):bS y):=⟨(s_),G_⟩
theorem gW.rB(a:y)(h:X<=Q)(c:Q<O):gW O X (.ok (a,Q):bS y):=⟨(s_),G_⟩
theorem cX.map{c:Type}{p:Nat}{r:bS y}(f:y->c)(h:cX O p r):cX O p (bT f r):=by
 cases r with
 |error l=>exact⟨(by grind [cX.er,bT]),λa q e=>by cases e⟩
 |ok d=>exact⟨(λl e=>by cases e),λg i e=>by cases e;exact h.ok _ _ aJ⟩
theorem bI.xu(T:bI v){p:Nat}{x:bP}(b:p<Ty v)(h:bZ v p x=Ud):p+1<Ty v:=by
 refine T.next p b λe=>?_
 grind [bZ]
theorem bI.bad(T:bI v)(f:O<Ty v):cX (Ty v) X (bad v O:bS y):=⟨(by grind [bI.l_,Hs.bad]),λa q e=>by cases e⟩
theorem bI.take{ts:List bH}(T:bI ts){p:Nat}{x:bP}{r:bS y}(h:cX (Ty ts) p r):cX (Ty ts) p (aQ ts x r):=by
 cases r with
 |error l=>grind [aQ]
 |ok b=>
  grind [cX.ok,aQ,cX.rB,bI.xu,bI.bad]
theorem bI.yd(T:bI v){p:Nat}{r:bS y}(h:gW (Ty v) p r):cX (Ty v) p (aQ v g r):=by
 cases r with
 |error l=>exact⟨(by grind [gW.er,aQ]),λa q e=>by cases e⟩
 |ok c=>
  obtain⟨a,q⟩:=c;have f:=h.ok a q aJ;grind [aQ,cX.rB,bI.xu,bI.bad]
theorem bI.xi(T:bI v){E:Nat->bS aC}(e:∀q,O<q->q<Ty v->cX (Ty v) q (E q)):∀(g p:Nat) (acc:List aC),O<p->p<Ty v->Ty v<=p+g->cX (Ty v) p (fM E v g p acc)
 |0,p,acc,_,c,f=>by omega
 |g+1,p,acc,h,c,f=>by
  have k:=e p h c;rw[fM];cases n:E p with
  |error l=>exact⟨py,s_⟩
  |ok i=>
   obtain⟨a,q⟩:=i;have j:=k.ok a q n;simp;split
   .rename_i m;have:=T.xu j.2 m;exact(bI.xi T e g (q+1) (acc++[a]) aD this aD).low aD
   grind [cX.rB]
def bI.Bj(T:bI v){E:Nat->bS aC}(e:∀q,O<q->q<Ty v->cX (Ty v) q (E q)){p:Nat}(d:O<p)(c:p<Ty v)(y:bP):gW (Ty v) p (gK E v p y):=by grind [gK,gW.rB,cX.wj,bI.xi]
theorem bI.zm(T:bI v){E:Nat->bS aC}{p0:Nat}(c:∀q,p0<q->q<Ty v->cX (Ty v) q (E q)){p:Nat}(e:p0<=p)(b:p<Ty v)(x y:bP):cX (Ty v) p (fU E v p x y):=by
 unfold fU;split
 .rename_i d;have:=T.xu b d;exact(T.yd (T.Bj c (p:=p+1) aD this y)).low aD
 exact T.bad b
theorem bI.An(T:bI v){E:Nat->bS aC}(d:∀q,O<q->q<Ty v->cX (Ty v) q (E q)){p:Nat}(e:O<=p)(c:p<Ty v):cX (Ty v) p (eJ E v p):=by
 unfold eJ;split
 .grind [cX.rB,bI.next]
 split
 .grind [cX.rB,bI.xu]
 split
 .grind [bI.xu,bI.take,cX.low]
 split
 .grind [cX.map,bI.zm]
 split
 .have hp :=T.next p c G_
  split
  .exact((T.zm d (p:=p+1) aD hp _ _).low aD).map _
  grind [cX.rB]
 exact T.bad c
theorem bI.index(T:bI v){E:Nat->bS aC}(d:∀q,O<q->q<Ty v->cX (Ty v) q (E q)):∀(g:Nat) (n:aC) (p:Nat),O<=p->p<Ty v->Ty v<=p+g->gW (Ty v) p (eS E v g n p)
 |0,n,p,_,b,e=>by omega
 |g+1,n,p,r,b,e=>by
  rw[eS];split
  .rename_i k;have h:=T.xu b k;have j:=T.take (x:=[93]) (d (p+1) aD h);cases m:aQ v [93] (E (p+1))with
   |error l=>exact⟨py,s_⟩
   |ok o=>
    obtain⟨i,q⟩:=o;have f:=j.ok i q m;exact((bI.index T d g _ q aD f.2 aD).low (by omega:p<q)).wj
  grind [gW.rB]
theorem bI.bind(_T:bI v){r:bS y}{f:y->Nat->bS j}(h:cX (Ty v) O r)(g:∀a q,O<q->q<Ty v->gW (Ty v) q (f a q)):cX (Ty v) O (bL r f):=by
 cases r with
 |error l=>exact⟨(by grind [cX.er,bL]),λa q e=>by cases e⟩
 |ok i=>
  grind [cX.ok,gW.low,bL]
theorem bI.unary(T:bI v){E:Nat->bS aC}{p0:Nat}(e:∀q,p0<q->q<Ty v->cX (Ty v) q (E q)):∀(g p:Nat),p0<=p->p<Ty v->Ty v<=p+g->cX (Ty v) p (iC E v g p)
 |0,p,_,c,f=>by omega
 |g+1,p,h,c,f=>by
  rw[iC];split
  .rename_i d;have b:=T.xu c d;exact((bI.unary T e g (p+1) aD b aD).low aD).map _
  split
  .rename_i d;have b:=T.xu c d;exact((bI.unary T e g (p+1) aD b aD).low aD).map _
  grind [bI.bind,bI.An,bI.index]
def bI.wq(T:bI v){L:Nat->bS aC}{p0:Nat}(d:∀q,p0<=q->q<Ty v->cX (Ty v) q (L q)):∀(g:Nat) (n:aC) (q:Nat),p0<=q->q<Ty v->Ty v<=q+g->gW (Ty v) q (cH L v O g n q)
 |0,n,q,_,c,f=>by omega
 |g+1,n,q,m,c,f=>by
  rw[cH];split
  .have hp :=T.next q c G_
   have i:=d (q+1) aD hp;cases j:L (q+1)with
   |error l=>exact⟨py,s_⟩
   |ok e=>
    obtain⟨r,b⟩:=e;have h:=i.ok r b j;simp;split
    .grind [gW.rB]
    exact((bI.wq T d g _ b aD h.2 aD).low (by omega:q<b)).wj
  grind [gW.rB]
def bI.level(T:bI v){E:Nat->bS aC}{p0:Nat}(f:∀q,p0<q->q<Ty v->cX (Ty v) q (E q)):∀(j p:Nat),p0<=p->p<Ty v->cX (Ty v) p (iM E v j p)
 |0,p,d,c=>(by grind [bI.unary,iM])
 |j+1,p,d,c=>by exact T.bind (bI.level T f j p d c) λa q g e=>T.wq (p0:=p0) (λq d c=>bI.level T f j q d c) _ a q aD e aD
theorem bI.expr(T:bI v):∀(f p:Nat),p<Ty v->Ty v<=p+f->cX (Ty v) p (jP v f p)
 |0,p,c,e=>by omega
 |f+1,p,c,e=>by exact T.level (p0:=p) (λq d b=>bI.expr T f q b aD) 5 p (aD) c
theorem bI.exprs(T:bI v):∀q,q<Ty v->cX (Ty v) q (jP v (Ty v+1) q):=(by grind [bI.expr])
def bI.ya(T:bI v){E:Nat->bS aC}(c:∀q,q<Ty v->cX (Ty v) q (E q)):∀(g p:Nat) (a:List aC),p<Ty v->Ty v<=p+g->gW (Ty v) p (fP E v g p a)
 |0,p,a,b,d=>by omega
 |g+1,p,a,b,d=>by
  rw[fP];split
  .rename_i j;have f:=T.xu b j;have h:=T.take (x:=[93]) (c (p+1) f);cases k:aQ v [93] (E (p+1))with
   |error l=>exact⟨py,s_⟩
   |ok m=>
    obtain⟨i,q⟩:=m;have e:=h.ok i q k;exact((bI.ya T c g q _ e.2 aD).low (by omega:p<q)).wj
  grind [gW.rB]
theorem bI.simple(T:bI v){E:Nat->bS aC}(c:∀q,q<Ty v->cX (Ty v) q (E q)){p:Nat}(b:p<Ty v):cX (Ty v) p (fX E v p):=by
 unfold fX;split
 .have hp :=T.next p b G_
  split
  .exact T.take (((T.zm (p0:=p) (G_) (p:=p+1) aD hp _ _).low aD).map _)
  exact T.bind ((T.yd (T.ya c _ (p+1) [] hp aD)).low aD) (by grind [cX.wj,bI.take,cX.map])
 exact T.bad b
def bI.stmt(T:bI v){E B:Nat->bS aC}(d:∀q,q<Ty v->cX (Ty v) q (E q))(b:∀q,O<q->q<Ty v->cX (Ty v) q (B q))(c:O<Ty v):cX (Ty v) O (jU E B v O):=by
 unfold jU;split
 .grind [sJ,bI.next,bI.take,cX.map,cX.low,bI.bad,bZ]
 split
 .grind [bI.xu,AD,bI.bind,cX.low,cX.wj,cX.map,gW.rB]
 grind [bI.xu,xO,bI.bind,cX.low,cX.wj,cX.map,pN,cX.rB,bI.take,xR,bI.simple]
def bI.wo(_T:bI v){S:Nat->bS aC}{p0:Nat}(d:∀q,p0<q->q<Ty v->cX (Ty v) q (S q)):∀(g p:Nat) (a:List aC),p0<p->p<Ty v->Ty v<=p+g->gW (Ty v) p (eY S v g p a)
 |0,p,a,_,c,e=>by omega
 |g+1,p,a,f,c,e=>by
  rw[eY];split
  .grind [gW.rB]
  have j:=d p f c;cases k:S p with
  |error l=>exact⟨py,s_⟩
  |ok i=>
   obtain⟨s,q⟩:=i;have h:=j.ok s q k;exact((bI.wo _T d g q _ aD h.2 aD).low (by omega:p<q)).wj
theorem bI.block{a:List bH}(T:bI a){E:Nat->bS aC}(e:∀q,q<Ty a->cX (Ty a) q (E q)):∀(f p:Nat),p<Ty a->Ty a<=p+f->cX (Ty a) p (iO E a f p)
 |0,p,b,i=>by omega
 |f+1,p,b,i=>by
  rw[iO];split
  .rename_i k;have g:=T.xu b k;refine((T.yd (T.wo (p0:=p) (λq h d=>T.stmt e (λj l c=>bI.block T e f j c aD) d) _ (p+1) [] aD g aD)).low aD).map _
  exact T.bad b
theorem bI.wt(T:bI v):∀(g p:Nat) (a:List aC),p<Ty v->Ty v<=p+g->cX (Ty v) p (eB v g p a)
 |0,p,a,d,e=>by omega
 |g+1,p,a,d,e=>by
  rw[eB];split
  .have hp :=T.next p d G_
   split
   .rename_i c;have hp2 :=T.xu hp c;exact(bI.wt T g (p+2) _ hp2 aD).low aD
   grind [cX.rB]
  exact T.bad d
theorem bI.func(T:bI v){B:Nat->bS aC}(b:∀q,q<Ty v->cX (Ty v) q (B q))(c:O<Ty v):cX (Ty v) O (lW B v O):=by grind [lW,bI.next,kV,bI.yd,gW.rB,cX.wj,bI.wt,bI.bind,cX.low,cX.map,bI.bad,bZ]
theorem bI.vz(_T:bI v){F:Nat->bS aC}(d:∀q,q<Ty v->cX (Ty v) q (F q)):∀(g p:Nat) (b:List aC),p<Ty v->Ty v<=p+g->gW (Ty v) p (fK F v g p b)
 |0,p,b,c,i=>by omega
 |g+1,p,b,c,i=>by
  rw[fK];split
  .grind [gW.rB]
  have e:=d p c;cases j:F p with
  |error l=>exact⟨py,s_⟩
  |ok f=>
   obtain⟨s,q⟩:=f;have h:=e.ok s q j;exact((bI.vz _T d g q _ h.2 aD).low (by omega:p<q)).wj
def bI.prog{a:List bH}(T:bI a)(h:0<Ty a):lC a≠.error 0:=
 (by grind [gW.ne,bI.vz,bI.func,bI.block,bI.exprs,lC])
structure qO(ts:List bH):Prop where
 some_:0<Ty ts
 last:(aS ts (Ty ts-1)).c_=101
 l_:∀p,p<Ty ts->(aS ts p).l_≠0
theorem uX(t:bH)(a:List bH)(p:Nat):aS (t::a) (p+1)=aS a p:=by simp[aS]
def PS(f:Nat):∀(a l:bP) (c:List bH),fH f a l=.ok c->qO c/\Ty c<=f:=by
 induction f with
 |zero=>intro a l c h;cases h
 |succ f k=>
  intro a l c h;by_cases e:Ty l=0
  .rw[qX _ _ _ e]at h;cases h;refine⟨⟨s_,rfl,λp i=>?_⟩,s_⟩
   grind [bD,aS]
  cases j:(cT l).ok
  .grind [fH]
  rw[yM _ _ _ e j _ rfl]at h;cases d:fH f (a++l.take ((cT l).size+cJ (Ty l) (l.drop (cT l).size))) (l.drop ((cT l).size+cJ (Ty l) (l.drop (cT l).size)))with
  |error n=>rw[d]at h;cases h
  |ok b=>
   rw[d]at h;cases h;obtain⟨g,m⟩:=k _ _ b d;refine⟨⟨s_,?_,λp i=>?_⟩,G_⟩
   .have:=g.some_;show (aS (_::b) (Ty (_::b)-1)).c_=101
    rw[fk,show Ty b+1-1=(Ty b-1)+1 by omega,uX]
    exact g.last
   cases p with
   |zero=>grind [bD,aS]
   |succ p=>
    grind [uX,qO.l_]
def qO.ok{a:List bH}(h:qO a):bI a:=
 ⟨λp b c=>by
   by_cases e:p=Ty a-1
   .grind [qO.last]
   exact aD,h.l_⟩
def sZ(h:gS g=.ok v):qO v/\Ty v<=Ty g+1:=PS _ _ _ _ h
def eA(l:bP):Except (Nat × Nat) (List aC):=
 if 2000<Ty l then .error (1,0)
 else match dU (Ty l) l 0 with
  |some k=>.error (2,bD (l.take k))
  |none=>
   match gS l with
   |.error n=>.error (3,n)
   |.ok ts=>
    match lC ts with
    |.error n=>.error (4,n)
    |.ok (ks,_)=>.ok ks
structure bJ where
 e_:cY
 kind:Nat
 l_:Nat
def bJ.found(s:bJ)(l_ kind:Nat):bJ:=if s.kind=0 then { s with kind:=kind,l_:=l_ } else s
def gL(x:bP):Bool:=x==[108,101,110] || x==[114,101,97,100]
def oo(s:bJ)(n:aC):bJ:=if gL n.x_ || s.e_.contains n.x_ then s.found n.l_ 6 else s
def dG(fs:List aC)(name:bP):Option aC:=fs.find? λf=>f.x_==name
def gN(fs:List aC)(a_:Bool)(name:bP):Int:=
 if name==[108,101,110]then 1
 else if name==[114,101,97,100] && !a_ then 0
 else match dG fs name with
  |some f=>(Ty f.y_:Int)-1
  |none=> -1
def gH(fs:List aC)(a_:Bool)(s:bJ)(n:aC):bJ:=
 if gN fs a_ n.x_<0 then s.found n.l_ 6
 else if gN fs a_ n.x_≠(Ty n.y_:Int)then s.found n.l_ 7
 else s
def cQ(fs:List aC)(a_:Bool)(s:bJ)(n:aC):bJ:=
 if n.op==[115,101,116] || n.op==[110,97,109,101]then (if s.e_.contains n.x_ then s else s.found n.l_ 6)
 else if n.op==[99,97,108,108]then gH fs a_ s n
 else s
def aT(fs:List aC)(a_:Bool):Nat->aC->bJ->bJ
 |0,_,s=>s
 |d+1,n,s=>
  if n.op==[118,97,114]then
   match n.y_ with
   |t::v::_=>let s1:=aT fs a_ d v (oo s t);{ s1 with e_:=s1.e_++[t.x_] }
   |_=>s
  else
   let s1:=n.y_.foldl (λs k=>aT fs a_ d k s) (cQ fs a_ s n)
   if n.op==[98,108,111,99,107]then { s1 with e_:=s1.e_.take (Ty s.e_) } else s1
def cV:Nat->aC->Nat
 |0,_=>0
 |d+1,n=>1+(n.y_.map (cV d)).sum
def uV:Nat->aC->Prop
 |0,_=>True
 |d+1,n=>(n.op=[118,97,114]->2<=Ty n.y_)/\∀k∈n.y_,uV d k
def ra(m:Nat)(a:aC):Prop:=∀d,cV d a<=m/\uV d a
def rh(m:Nat)(l:List aC):Prop:=∀d,(l.map (cV d)).sum<=m/\∀k∈l,uV d k
def ra.le{m n:Nat}{a:aC}(h:ra m a)(b:m<=n):ra n a:=(by grind [ra])
def rh.le{m n:Nat}{a:List aC}(h:rh m a)(b:m<=n):rh n a:=(by grind [rh])
theorem rh.nil:rh 0 []:=(by grind [rh])
def rh.snoc{m:Nat}{l:List aC}{a:aC}(h:rh m l)(b:ra O a):rh (m+O) (l++[a]):=λd=>by grind [rh,ra]
theorem rh.one{a:aC}(b:ra O a):rh O [a]:=λd=>by grind [List.mem_singleton,ra]
theorem rh.two{a b:aC}(c:ra O a)(d:ra X b):rh (O+X) [a,b]:=(rh.one c).snoc d
def rh.three{m:Nat}{a b c:aC}(d:ra m a)(e:ra O b)(f:ra X c):rh (m+O+X) [a,b,c]:=(rh.two d e).snoc f
theorem ra.node{m:Nat}{l:List aC}(h:rh m l)(e:g=[118,97,114]->2<=Ty l):ra (m+1) (aV g O f l):=λd=>by
 cases d with
 |zero=>grind [cV,uV]
 |succ d=>
  grind [cV,aV,uV,rh]
def cC{α:Type}(P:Nat->α->Prop)(p:Nat)(r:bS α):Prop:=∀a q,r=.ok (a,q)->∃m,p+m<=q/\P m a
theorem cC.bad{P:Nat->y->Prop}:cC P O (bad v X):=λa q h=>by cases h
def cC.err{P:Nat->y->Prop}:cC P O (.error X):=λa q h=>by cases h
def cC.rB{P:Nat->y->Prop}{m:Nat}{a:y}(c:O+m<=X)(h:P m a):cC P O (.ok (a,X)):=(by grind [cC])
theorem cC.take{P:Nat->y->Prop}{p:Nat}{ts:List bH}{x:bP}{r:bS y}(h:cC P p r):cC P p (aQ ts x r):=by
 cases r with
 |error l=>exact cC.err
 |ok b=>
  grind [aQ,cC.bad,cC]
theorem cC.map{c:Type}{P:Nat->y->Prop}{Q:Nat->c->Prop}{p d k:Nat}{r:bS y}{f:y->c}(h:cC P p r)(e:d+k<=p)(g:∀m a,P m a->Q (m+k) (f a)):cC Q d (bT f r):=by
 cases r with
 |error l=>exact cC.err
 |ok i=>
  grind [cC,bT]
theorem cC.bind{P:Nat->y->Prop}{Q:Nat->j->Prop}{r:bS y}{f:y->Nat->bS j}(h:cC P O r)(e:∀m a q,P m a->O+m<=q->cC Q X (f a q)):cC Q X (bL r f):=by
 cases r with
 |error l=>exact cC.err
 |ok g=>
  grind [cC,bL]
def cC.low{P:Nat->y->Prop}{r:bS y}(h:cC P O r)(c:X<=O):cC P X r:=(by grind [cC])
section
variable {ts:List bH} {E:Nat->bS aC}
theorem vY(f:∀q,cC ra q (E q)):∀(g p:Nat) (b:List aC) (c d:Nat),rh c b->d+c<=p->cC rh d (fM E ts g p b)
 |0,p,b,_,_,_,_=>cC.err
 |g+1,p,b,c,d,h,k=>by
  rw[fM];cases j:E p with
  |error l=>exact cC.err
  |ok i=>
   obtain⟨a,q⟩:=i;obtain⟨m,n,e⟩:=f p a q j;simp;split
   .exact vY f g (q+1) _ (c+m) d (h.snoc e) aD
   exact cC.rB (m:=c+m) aD (h.snoc e)
def vX(a:∀q,cC ra q (E q))(p:Nat)(x y:bP):cC rh (p+1) (fU E ts p x y):=by grind [fU,cC.take,gK,rh.nil,vY,cC.bad,cC]
theorem pJ{c b:bP}{a:Nat}(d:c≠[118,97,114]):ra 1 (aV c a b []):=(by grind [ra.node,rh.nil])
theorem LI(a:∀q,cC ra q (E q))(p:Nat):cC ra p (eJ E ts p):=by
 unfold eJ;split
 .grind [pJ,cC]
 split
 .grind [pJ,cC]
 split
 .grind [cC.take,cC]
 split
 .exact cC.map (k:=1) (vX a p _ _) aD (by grind [ra.node])
 split
 .split
  .exact cC.map (k:=1) (vX a (p+1) _ _) aD (by grind [ra.node])
  grind [pJ,cC]
 exact cC.bad
theorem EF(c:∀q,cC ra q (E q)):∀(g:Nat) (n:aC) (p b a:Nat),ra b n->a+b<=p->cC ra a (eS E ts g n p)
 |0,n,p,_,_,_,_=>cC.err
 |g+1,n,p,b,a,f,e=>by
  rw[eS];split
  .have d:=(c (p+1)).take (ts:=ts) (x:=[93]);cases h:aQ ts [93] (E (p+1))with
   |error l=>exact cC.err
   |ok j=>
    obtain⟨i,q⟩:=j;obtain⟨m,o,k⟩:=d i q h;exact EF c g _ q (b+m+1) a (pm) aD
  exact cC.rB e f
def vV(a:∀q,cC ra q (E q)):∀(g p:Nat),cC ra p (iC E ts g p)
 |0,p=>cC.err
 |g+1,p=>by
  rw[iC];split
  .exact cC.map (k:=1) (vV a g (p+1)) aD pp
  split
  .exact cC.map (k:=1) (vV a g (p+1)) aD pp
  grind [cC.bind,LI,EF]
def uZ{L:Nat->bS aC}{k:Nat}(d:∀q,cC ra q (L q)):∀(g:Nat) (n:aC) (q a c:Nat),ra a n->c+a<=q->cC ra c (cH L ts k g n q)
 |0,n,q,_,_,_,_=>cC.err
 |g+1,n,q,a,c,h,i=>by
  rw[cH];split
  .cases j:L (q+1)with
   |error l=>exact cC.err
   |ok f=>
    obtain⟨r,e⟩:=f;obtain⟨m,t,s⟩:=d _ r e j;have o:∀p b,ra (a+m+1) (aV p b [] [n,r]):=(by grind [ra.node,rh.two])
    simp;split
    .grind [cC]
    exact uZ d g _ e (a+m+1) c (o _ _) aD
  exact cC.rB i h
def vZ(b:∀q,cC ra q (E q)):∀(j p:Nat),cC ra p (iM E ts j p)
 |0,p=>vV b _ p
 |j+1,p=>by exact cC.bind (vZ b j p) λm a q d c=>uZ (λq=>vZ b j q) _ a q m p d c
theorem ID(a:List bH):∀(f p:Nat),cC ra p (jP a f p)
 |0,p=>cC.err
 |f+1,p=>by exact vZ (λq=>ID a f q) 5 p
def yN(e:∀q,cC ra q (E q)):∀(g p:Nat) (a:List aC) (c b:Nat),rh c a->b+c<=p->cC rh b (fP E ts g p a)
 |0,p,a,_,_,_,_=>cC.err
 |g+1,p,a,c,b,d,h=>by
  rw[fP];split
  .have f:=(e (p+1)).take (ts:=ts) (x:=[93]);cases k:aQ ts [93] (E (p+1))with
   |error l=>exact cC.err
   |ok n=>
    obtain⟨i,q⟩:=n;obtain⟨m,o,j⟩:=f i q k;exact yN e g q _ (c+m) b (d.snoc j) aD
  exact cC.rB h d
def PT(a:∀q,cC ra q (E q))(p:Nat):cC ra p (fX E ts p):=by
 unfold fX;split
 .split
  .exact cC.take (cC.map (k:=2) (vX a (p+1) _ _) aD (by grind [ra.node,rh.one,ra]))
  refine cC.bind ((yN a _ (p+1) [] 0 (p+1) rh.nil aD).take) λm l q c b=>?_
  exact cC.take (cC.map (k:=m+1) (a q) aD (by grind [ra.node,ra,rh]))
 exact cC.bad
def B0{B:Nat->bS aC}(a:∀q,cC ra q (E q))(e:∀q,cC ra q (B q))(p:Nat):cC ra p (jU E B ts p):=by
 unfold jU;split
 .unfold sJ;split
  .split
   .exact cC.take (cC.map (k:=2) (a (p+3)) aD λm v l=>ra.le (ra.node (rh.two (pJ s_) l) s_) aD)
   exact cC.bad
  exact cC.bad
 split
 .refine cC.bind (a (p+1)) λm c q g i=>cC.bind (e q) λf b n j r=>?_
  split
  .exact cC.map (k:=m+f+1) (e (n+1)) aD λo d h=>ra.le (ra.node (rh.three g j h) s_) aD
  exact cC.rB (m:=m+f+1) aD (pm)
 split
 .exact cC.bind (a (p+1)) λm c q g i=>cC.map (k:=m+1) (e q) aD pm
 split
 .unfold pN;grind [pJ,cC.take,cC.map,ra.node,rh.one,cC,bZ,aS]
 split
 .exact cC.take (cC.map (k:=1) (a (p+1)) aD pp)
 exact PT a p
def vA{S:Nat->bS aC}(e:∀q,cC ra q (S q)):∀(g p:Nat) (a:List aC) (c b:Nat),rh c a->b+c<=p->cC rh b (eY S ts g p a)
 |0,p,a,_,_,_,_=>cC.err
 |g+1,p,a,c,b,d,f=>by
  rw[eY];split
  .exact cC.rB f d
  cases i:S p with
  |error l=>exact cC.err
  |ok j=>
   obtain⟨s,q⟩:=j;obtain⟨m,k,h⟩:=e p s q i;exact vA e g q _ (c+m) b (d.snoc h) aD
theorem EG(a:∀q,cC ra q (E q)):∀(f p:Nat),cC ra p (iO E ts f p)
 |0,p=>cC.err
 |f+1,p=>by
  rw[iO];split
  .exact cC.map (k:=1) (cC.take (vA (λq=>B0 a (λq=>EG a f q) q) _ (p+1) [] 0 (p+1) rh.nil aD)) aD (by grind [ra.node])
  exact cC.bad
theorem uY:∀(g p:Nat) (a:List aC) (b c:Nat),rh b a->c+b<=p->cC rh c (eB ts g p a)
 |0,p,a,_,_,_,_=>cC.err
 |g+1,p,a,b,c,e,f=>by
  have d:rh (b+1) (a++[aV [112,97,114,97,109] (aS ts p).l_ (aS ts p).x_ []]):=e.snoc (pJ s_)
  rw[eB];split
  .split
   .exact uY g (p+2) _ (b+1) c d aD
   grind [cC]
  exact cC.bad
theorem B2{B:Nat->bS aC}(b:∀q,cC ra q (B q))(p:Nat):cC ra p (lW B ts p):=by
 unfold lW;split
 .split
  .split
   .have a:cC rh (p+3) (kV ts (p+3)):=by grind [kV,cC.take,rh.nil,uY,cC]
    exact cC.bind a λm l q d c=>cC.map (k:=m+1) (b q) aD (by grind [ra.node,ra,rh])
   exact cC.bad
  exact cC.bad
 exact cC.bad
def vW{F:Nat->bS aC}(e:∀q,cC ra q (F q)):∀(g p:Nat) (a:List aC) (c b:Nat),rh c a->b+c<=p->cC rh b (fK F ts g p a)
 |0,p,a,_,_,_,_=>cC.err
 |g+1,p,a,c,b,d,f=>by
  rw[fK];split
  .exact cC.rB f d
  cases j:F p with
  |error l=>exact cC.err
  |ok h=>
   obtain⟨s,q⟩:=h;obtain⟨m,k,i⟩:=e p s q j;exact vW e g q _ (c+m) b (d.snoc i) aD
end
def B1(a:List bH)(T:bI a)(d:0<Ty a)(b:List aC)(q:Nat)(h:lC a=.ok (b,q)):rh (Ty a) b:=by
 obtain⟨m,e,c⟩:=vW ((by grind [B2,EG,ID])) (Ty a+1) 0 [] 0 0 rh.nil aD b q h
 have:=(T.vz ((by grind [bI.func,bI.block,bI.exprs])) _ 0 [] d aD).ok b q h
 exact c.le aD
def mX{b:List aC}(h:eA g=.ok b):rh 2001 b:=by
 unfold eA at h;split at h
 .cases h
 split at h
 .cases h
 split at h
 .cases h
 rename_i d e;obtain⟨a,f⟩:=sZ e;split at h
 .cases h
 rename_i q c;cases h;exact(B1 d a.ok a.some_ _ _ c).le aD
def fV:Nat->aC->Prop
 |0,_=>False
 |d+1,n=>∀k∈n.y_,fV d k
def GE(Y_:a:=by
 have:∀l:List aC,k∈l->cV d k<=(l.map (cV d)).sum:=by
  intro l;induction l with
  |nil=>simp
  |cons x l ih=>
   grind
 grind):a:=Y_
theorem qD:∀(m:Nat) (a:aC),ra m a->fV m a
 |0,a,h=>by have:=(h 1).1;grind [cV]
 |m+1,a,h=>λk b=>qD m k λd=>by
  have e:=(h (d+1)).1;have c:=(h (d+1)).2.2 k b
  have:cV d k<=(a.y_.map (cV d)).sum:=by exact GE
  grind [cV]
theorem qS{f g:j->y->j}:∀(l:List y) (b:j),(∀a∈l,∀b,f b a=g b a)->l.foldl f b=l.foldl g b
 |[],_,_=>rfl
 |a::l,b,h=>by
  rw[hY,hY,h a (s_)]
  exact qS l _ G_
theorem sY(c:List aC)(a:Bool):∀(d e:Nat) (n:aC) (s:bJ),fV d n->d<=e->aT c a d n s=aT c a e n s
 |0,_,_,_,h,_=>h.elim
 |d+1,0,_,_,_,h=>by omega
 |d+1,e+1,n,s,h,f=>by
  rw[aT,aT];split
  .have b :=λk b s=>sY c a d e k s (h k b) aD
   grind
  rw[qS n.y_ _ λk b s=>sY c a d e k s (h k b) aD]
def eQ(fs:List aC)(d:Nat)(s:bJ)(k:aC):bJ:=
 if k.op==[112,97,114,97,109]then { oo s k with e_:=(oo s k).e_++[k.x_] } else aT fs Uc d k s
def gP(fs:List aC)(d:Nat)(s:bJ)(n:aC)(first:Bool):bJ:=
 n.y_.foldl (eQ fs d) { (if gL n.x_ || !first then s.found n.l_ 6 else s)with e_:=[] }
def eW(fs:List aC)(d:Nat):List aC->List aC->bJ->bJ
 |_,[],s=>s
 |pre,n::rest,s=>eW fs d (pre++[n]) rest (gP fs d s n (dG pre n.x_).isNone)
def lE(d:Nat)(ks:List aC):Nat × Nat:=
 match dG ks [109,97,105,110]with
 |none=>(5,0)
 |some m=>if 1<Ty m.y_ then (5,0)else ((eW ks d [] ks ⟨[],0,0⟩).kind,(eW ks d [] ks ⟨[],0,0⟩).l_)
def dR(l:bP):Nat × Nat:=
 match eA l with
 |.error f=>f
 |.ok ks=>lE 2001 ks
def oR(t:bH):Prop:=t.c_=112\/(t.c_=107/\fC.contains t.x_=Ud)\/t.c_=110\/(t.c_=48/\(dS 0 t.x_).isSome=Ud)\/t.c_=115\/t.c_=101
def xI(ts:List bH):Prop:=∀t∈ts,oR t
theorem LG(l:bP)(l_:Nat)(h:(cT l).ok=Ud):oR { c_:=(cT l).c_,x_:=(cT l).x_,l_:=l_ }:=by
 cases l with
 |nil=>simp[cT]at h
 |cons c r=>
  grind [cT,iX,jS,oR,oQ]
def A4(f:Nat):∀(a l:bP) (b:List bH),fH f a l=.ok b->xI b:=by
 induction f with
 |zero=>intro a l b h;cases h
 |succ f c=>
  grind [oR,fH,LG,xI]
def TX(h:gS g=.ok v):xI v:=A4 _ _ _ _ h
theorem xI.tk(h:xI v)(p:Nat)(b:p<Ty v):oR (aS v p):=by grind [aS,xI]
structure aE where
 c_:Nat
 n:Int
 s:bP
 l:List aE
def aE.ind{P:aE->Prop}(h:∀v,(∀x,x∈v.l->P x)->P v):∀v,P v
 |⟨a,b,c,l⟩=>h ⟨a,b,c,l⟩ λx _=>aE.ind h x
def bA(n:Int):aE:=⟨0,n,[],[]⟩
def cG(b:Bool):aE:=⟨1,if b then 1 else 0,[],[]⟩
def bQ(s:bP):aE:=⟨2,0,s,[]⟩
def bG(l:List aE):aE:=⟨3,0,[],l⟩
def aY:aE:=⟨0,0,[],[]⟩
noncomputable def aE.fold{α:Type}(f:Nat->Int->bP->List α->α)(v:aE):α:=
 aE.rec (motive_1:=λ_=>α) (motive_2:=λ_=>List α) (λa n s _ c=>f a n s c) [] (λ_ _ h t=>h::t) v
def aE.fold_eq(f:Nat->Int->bP->List y->y)(v:aE):v.fold f=f v.c_ v.n v.s (v.l.map (aE.fold f)):=by
 obtain⟨a,n,s,l⟩:=v;refine fg (f a n s) ?_;induction l with
 |nil=>rfl
 |cons x l c=>grind [aE.fold]
noncomputable def aK(v:aE):Nat:=v.fold λ_ _ s c=>1+Ty s+c.sum
theorem dE(v:aE):aK v=1+Ty v.s+(v.l.map aK).sum:=aE.fold_eq _ v
def RH:Nat->aE->Prop
 |0,_=>True
 |d+1,v=> -9223372036854775808<=v.n/\v.n<=9223372036854775807/\∀x∈v.l,RH d x
structure nG(v:aE):Prop where
 all:∀d,RH d v
def nG.lo{v:aE}(h:nG v): -9223372036854775808<=v.n:=(h.all 1).1
def nG.hi{v:aE}(h:nG v):v.n<=9223372036854775807:=(h.all 1).2.1
def nG.tm{v x:aE}(h:nG v)(a:x∈v.l):nG x:=⟨λd=>(h.all (d+1)).2.2 x a⟩
def nG.mk'{v:aE}(b: -9223372036854775808<=v.n)(a:v.n<=9223372036854775807)(c:∀x∈v.l,nG x):nG v:=
 ⟨λd=>by
   cases d with
   |zero=>trivial
   |succ d=>grind [nG.all,RH]⟩
def nP{α:Type}:List (α->Bool)->List α->Bool
 |[],[]=>Ud
 |f::fs,x::xs=>f x && nP fs xs
 |_,_=>Uc
noncomputable def cZ(x:aE):aE->Bool:=x.fold λa n s c y=>a==y.c_ && (n==y.n && (s==y.s && nP c y.l))
theorem rO(x y:aE):cZ x y=(x.c_==y.c_ && (x.n==y.n && (x.s==y.s && nP (x.l.map cZ) y.l))):=congrFun (aE.fold_eq _ x) y
theorem sL:∀x y:aE,cZ x y=Ud↔x=y:=by
 refine aE.ind λx e y=>?_
 have d:∀(l:List aE),(∀v,v∈l->∀y,cZ v y=Ud↔v=y)->∀m:List aE,nP (l.map cZ) m=Ud↔l=m:=by
  intro l;induction l with
  |nil=>grind [nP]
  |cons a l c=>
   intro h m;cases m with
   |nil=>simp[nP]
   |cons b m=>grind [nP]
 rw[rO];constructor
 .cases x;cases y;simp_all
 grind
def iZ:Nat->Nat->bP->bP
 |0,_,t=>t
 |f+1,n,t=>if n<10 then UInt8.ofNat (48+n)::t else iZ f (n/10) (UInt8.ofNat (48+n%10)::t)
def jL(n:Int):bP:=(if n<0 then [45]else [])++iZ 20 n.natAbs []
def fQ:cY->bP
 |[]=>[]
 |[x]=>x
 |x::r=>x++[44,32]++fQ r
noncomputable def cM(v:aE):bP:=
 v.fold λa n s c=>if a=0 then jL n else if a=1 then (if n=1 then [116,114,117,101]else [102,97,108,115,101])else if a=2 then [34]++s++[34]else [91]++fQ c++[93]
def mA(v:aE):cM v=if v.c_=0 then jL v.n else if v.c_=1 then (if v.n=1 then [116,114,117,101]else [102,97,108,115,101])else if v.c_=2 then [34]++v.s++[34]else [91]++fQ (v.l.map cM)++[93]:=aE.fold_eq _ v
noncomputable def jN(v:aE):bP:=if v.c_=2 then v.s else cM v
def oP(n:Int):Int:=(n+9223372036854775808)%18446744073709551616-9223372036854775808
noncomputable def gA(a b:aE):aE × Nat:=
 let v:=if a.c_=3 then bG (a.l++b.l)else bQ (a.s++b.s)
 if 200<aK v then (aY,6)else (v,0)
def jE(op:bP)(x y:Int):aE × Nat:=
 if op=[43]then (bA (oP (x+y)),0)
 else if op=[45]then (bA (oP (x-y)),0)
 else if op=[42]then (bA (oP (x*y)),0)
 else if op=[60]then (cG (decide (x<y)),0)
 else if op=[60,61]then (cG (decide (x<=y)),0)
 else if y=0 then (aY,3)
 else if op=[47]then (bA (oP (x.tdiv y)),0)
 else (bA (oP (x.tmod y)),0)
def fE:bP->bP->Bool
 |[],[]=>Uc
 |[],_::_=>Ud
 |_::_,[]=>Uc
 |a::l,b::m=>if a.toNat<b.toNat then Ud else if b.toNat<a.toNat then Uc else fE l m
noncomputable def dJ(op:bP)(a b:aE):aE × Nat:=
 if op=[61,61]then (cG (cZ a b),0)
 else if op=[33,61]then (cG (!cZ a b),0)
 else if a.c_≠b.c_\/a.c_=1 then (aY,2)
 else if a.c_=0 then jE op a.n b.n
 else if op=[43]then gA a b
 else if a.c_=2/\op=[60]then (cG (fE a.s b.s),0)
 else if a.c_=2/\op=[60,61]then (cG (!fE b.s a.s),0)
 else (aY,2)
def dI(op:bP)(a:aE):aE × Nat:=
 if op=[45,120]/\a.c_=0 then (bA (oP (-a.n)),0)
 else if op=[33,120]/\a.c_=1 then (cG (decide (a.n=0)),0)
 else (aY,2)
def jH:Nat->bP->cY
 |0,_=>[]
 |f+1,l=>if l=[]then []else if bW l=0 then []else l.take (bW l)::jH f (l.drop (bW l))
def eD(l:bP):cY:=jH (Ty l) l
def dO(a:aE):aE × Nat:=
 if a.c_=3 then (bA (Ty a.l),0)else if a.c_=2 then (bA (Ty (eD a.s)),0)else (aY,2)
def kM(a:aE):List aE:=if a.c_=2 then (eD a.s).map bQ else a.l
def cA(a b:aE):aE × Nat:=
 if a.c_<2\/b.c_≠0 then (aY,2)
 else if b.n<0\/(Ty (kM a):Int)<=b.n then (aY,4)
 else ((kM a).getD b.n.toNat aY,0)
def cI:List aE->aE->aE->aE × Nat
 |[],_,v=>(v,0)
 |i::at',uz,v=>
  if uz.c_≠3\/i.c_≠0 then (aY,2)
  else if i.n<0\/(Ty uz.l:Int)<=i.n then (aY,4)
  else if (cI at' (uz.l.getD i.n.toNat aY) v).2≠0 then (aY,(cI at' (uz.l.getD i.n.toNat aY) v).2)
  else (bG (uz.l.set i.n.toNat (cI at' (uz.l.getD i.n.toNat aY) v).1),0)
theorem qU:bW g<=Ty g:=by grind [bW,iY]
theorem KB:∀(f:Nat) (l:bP),Ty l<=f->jH f l=eD l:=by
 have h:∀(n f g:Nat) (l:bP),Ty l<=n->Ty l<=f->Ty l<=g->jH f l=jH g l:=by
  intro n;induction n with
  |zero=>
   intro f g l b a c;have:l=[]:=(by grind)
   subst this;cases f<;>cases g<;>simp[jH]
  |succ n i=>
   intro f g l b a c;by_cases e:l=[]
   .grind
   have d:0<Ty l:=(by grind)
   cases f with
   |zero=>exact aD
   |succ f=>
    cases g with
    |zero=>exact aD
    |succ g=>
     grind [jH]
 grind [eD]
theorem kG(b:g≠[])(c:bW g≠0):eD g=g.take (bW g)::eD (g.drop (bW g)):=by
 have a:0<Ty g:=(by grind)
 obtain⟨n,d⟩:∃n,Ty g=n+1:=⟨Ty g-1,aD⟩;grind [KB,jH,eD]
theorem gG(h:g=[]\/bW g=0):eD g=[]:=by
 unfold eD;cases a:Ty g with
 |zero=>rfl
 |succ n=>
  grind [jH]
def qE(l:bP):Ty (eD l)<=Ty l:=by
 have h:∀(n:Nat) (l:bP),Ty l<=n->Ty (eD l)<=Ty l:=by
  intro n;induction n with
  |zero=>
   grind [gG]
  |succ n a=>
   grind [gG,kG]
 exact h (Ty l) l (aD)
inductive aO where
 |begin (l_:Nat) (e_:cY)
 |push (v:aE)
 |load (slot:Nat)
 |declare (slot:Nat)
 |assign (slot n:Nat)
 |jump (to_:Nat)
 |skip (to_:Nat)
 |rs (when:Bool) (to_:Nat)
 |sk
 |unary (op:bP)
 |binary (op:bP)
 |index
 |list (n:Nat)
 |length
 |read
 |call (f:Nat) (n:Nat)
 |sg
 |drop
 |print
def aO.rj:aO->Bool
 |.begin _ _=>Ud
 |_=>Uc
structure eM where
 name:bP
 code:List aO
structure aI where
 fn:eM
 next:Nat
 l_:Nat
 e_:cY
 g_:List aE
 ops:List aE
structure dA where
 f_:List aI
 tape:List Int
 out:cY
def aI.push(f:aI)(v:aE):aI:={ f with ops:=f.ops++[v] }
def aI.last(f:aI):aE:=f.ops.getLast?.getD aY
def aI.pop(f:aI):aI:={ f with ops:=f.ops.dropLast }
def aI.many(f:aI)(n:Nat):List aE:=f.ops.drop (Ty f.ops-n)
def aI.n_(f:aI)(n:Nat):aI:={ f with ops:=f.ops.take (Ty f.ops-n) }
noncomputable def jG(r:aE × Nat):aE × Nat:=if r.2=0 then if 200<aK r.1 then (aY,6)else r else r
noncomputable def jI(whole:aE)(at_:List aE)(to_:aE):aE × Nat:=jG (cI at_ whole to_)
noncomputable def aR(i:aO)(f:aI):aI × Nat:=
 match i with
 |.begin l s=>({ f with l_:=l,e_:=s },0)
 |.push v=>(f.push v,0)
 |.load k=>(f.push (f.g_[k]?.getD aY),0)
 |.declare k=>({ f.pop with g_:=f.g_.take k++[f.last] },0)
 |.assign k n=>
  let g:=f.pop.n_ n
  let r:=jI (f.g_[k]?.getD aY) (f.pop.many n) f.last
  if r.2=0 then ({ g with g_:=f.g_.set k r.1 },0)else (g,r.2)
 |.jump t=>({ f with next:=t },0)
 |.skip t=>if f.last.c_=1 then (if f.last.n=1 then f.pop else { f.pop with next:=t },0)else (f.pop,2)
 |.rs w t=>if f.last.c_=1 then (if decide (f.last.n=1)=w then { f.pop.push f.last with next:=t } else f.pop,0)else (f.pop,2)
 |.sk=>if f.last.c_=1 then (f.pop.push f.last,0)else (f.pop,2)
 |.unary op=>let r:=dI (op++[120]) f.last;if r.2=0 then (f.pop.push r.1,0)else (f.pop,r.2)
 |.binary op=>let r:=dJ op f.pop.last f.last;if r.2=0 then (f.pop.pop.push r.1,0)else (f.pop.pop,r.2)
 |.index=>let r:=cA f.pop.last f.last;if r.2=0 then (f.pop.pop.push r.1,0)else (f.pop.pop,r.2)
 |.list n=>let r:=jG (bG (f.many n),0);if r.2=0 then ((f.n_ n).push r.1,0)else (f.n_ n,r.2)
 |.length=>let r:=dO f.last;if r.2=0 then (f.pop.push r.1,0)else (f.pop,r.2)
 |.drop=>(f.pop,0)
 |_=>(f,0)
noncomputable def cF(si:List eM)(i:aO)(below:List aI)(f:aI)(tape:List Int)(out:cY):dA × Nat:=
 match i with
 |.read=>
  match tape with
  |[]=>(⟨below++[f],tape,out⟩,7)
  |t::r=>(⟨below++[f.push (bA t)],r,out⟩,0)
 |.call k n=>
  if Ty below+1=16 then (⟨below++[f.n_ n],tape,out⟩,5)
  else (⟨below++[f.n_ n,⟨si[k]?.getD ⟨[],[]⟩,0,0,[],f.many n,[]⟩],tape,out⟩,0)
 |.sg=>(⟨below.dropLast++(below.getLast?.map λg=>g.push f.last).toList,tape,out⟩,0)
 |.print=>if Ty out=50 then (⟨below++[f.pop],tape,out⟩,8)else (⟨below++[f.pop],tape,out++[jN f.last]⟩,0)
 |i=>let r:=aR i f;(⟨below++[r.1],tape,out⟩,r.2)
def aI.se(f:aI):Option (aO × aI):=f.fn.code[f.next]?.map λi=>(i,{ f with next:=f.next+1 })
noncomputable def fG(si:List eM):Nat->dA->Option (dA × Nat)
 |0,_=>Ub
 |k+1,m=>
  match m.f_.getLast? with
  |none=>Ua (m,1)
  |some f=>
   match f.se with
   |none=>Ub
   |some (i,g)=>
    let r:=cF si i m.f_.dropLast g m.tape m.out
    if r.2≠0 then Ua r
    else if i.rj then Ua r
    else fG si k r.1
structure dB where
 m_:Nat
 m:dA
 stop:Nat
def cB(m_ stop:Nat):Nat:=if stop=0/\m_=500 then 9 else stop
def dQ:cY->bP->Nat
 |[],_=>0
 |x::l,name=>if x=name then Ty l else dQ l name
def dV(fs:List aC)(name:bP):Nat:=fs.findIdx λf=>f.x_==name
def bB(c:aC->Nat->List aO):List aC->Nat->List aO
 |[],_=>[]
 |a::l,p=>c a p++bB c l (p+Ty (c a p))
def aG(fs:List aC)(e_:cY):Nat->aC->Nat->List aO
 |0,_,_=>[]
 |d+1,a,p=>
  let y_:=bB (aG fs e_ d) a.y_ p
  if a.op==[48]then [.push (bA (((dS 0 a.x_).getD 0:Nat):Int))]
  else if a.op==[115]then [.push (bQ a.x_)]
  else if a.op==[98,111,111,108]then [.push (cG (a.x_==[116,114,117,101]))]
  else if a.op==[110,97,109,101]then [.load (dQ e_ a.x_)]
  else if a.op==[108,105,115,116]then y_++[.list (Ty a.y_)]
  else if a.op==[105,110,100,101,120]then y_++[.index]
  else if a.op==[45,120]then y_++[.unary [45]]
  else if a.op==[33,120]then y_++[.unary [33]]
  else if a.op==[99,97,108,108]then
   y_++[if a.x_==[108,101,110]then .length else if a.x_==[114,101,97,100]then .read else .call (dV fs a.x_) (Ty a.y_)]
  else if a.op==[38,38] || a.op==[124,124]then
   match a.y_ with
   |[l,r]=>
    let cl:=aG fs e_ d l p
    let cr:=aG fs e_ d r (p+Ty cl+1)
    cl++[.rs (a.op==[124,124]) (p+Ty cl+1+Ty cr+1)]++cr++[.sk]
   |_=>[]
  else y_++[.binary a.op]
def bK(c:cY->aC->Nat->List aO × cY):cY->List aC->Nat->List aO
 |_,[],_=>[]
 |e_,a::l,p=>(c e_ a p).1++bK c (c e_ a p).2 l (p+(c e_ a p).1.length)
def aU(fs:List aC):Nat->cY->aC->Nat->List aO × cY
 |0,e_,_,_=>([],e_)
 |d+1,e_,a,p=>
  let start:=aO.begin a.l_ e_
  let i_:=λ(b:aC) q=>bK (aU fs d) e_ b.y_ q
  if a.op==[118,97,114]then
   match a.y_ with
   |[t,v]=>(start::aG fs e_ d v (p+1)++[.declare (Ty e_)],t.x_::e_)
   |_=>([],e_)
  else if a.op==[115,101,116]then
   (start::bB (aG fs e_ d) a.y_ (p+1)++[.assign (dQ e_ a.x_) (Ty a.y_-1)],e_)
  else if a.op==[105,102]then
   match a.y_ with
   |c::t::e=>
    let cc:=aG fs e_ d c (p+1)
    let ct:=i_ t (p+1+Ty cc+1)
    let q:=p+1+Ty cc+1+Ty ct+1
    let ce:=match e with|[x]=>i_ x q|_=>[]
    (start::cc++[.skip q]++ct++[.jump (q+Ty ce)]++ce,e_)
   |_=>([],e_)
  else if a.op==[119,104,105,108,101]then
   match a.y_ with
   |[c,b]=>
    let cc:=aG fs e_ d c (p+1)
    let cb:=i_ b (p+1+Ty cc+1)
    (start::cc++[.skip (p+1+Ty cc+1+Ty cb+1)]++cb++[.jump p],e_)
   |_=>([],e_)
  else if a.op==[114,101,116,117,114,110]then
   match a.y_ with
   |[v]=>(start::aG fs e_ d v (p+1)++[.sg],e_)
   |_=>([start,.push (bA 0),.sg],e_)
  else if a.op==[112,114,105,110,116]then
   match a.y_ with
   |[v]=>(start::aG fs e_ d v (p+1)++[.print],e_)
   |_=>([],e_)
  else
   match a.y_ with
   |[c]=>(start::aG fs e_ d c (p+1)++[.drop],e_)
   |_=>([],e_)
def fR(fs:List aC)(d:Nat)(f:aC):eM:=
 let e_:=(f.y_.dropLast.map (·.x_)).reverse
 ⟨f.x_,bK (aU fs d) e_ ((f.y_.getLast?.map (·.y_)).getD []) 0++[.push (bA 0),.sg]⟩
def dW(fs:List aC)(d:Nat):List eM:=fs.map (fR fs d)
def jW(fs:List aC)(d:Nat)(tape:List Int):dA:=⟨[⟨(dW fs d)[dV fs [109,97,105,110]]?.getD ⟨[],[]⟩,0,0,[],[],[]⟩],tape,[]⟩
structure gM where
 h:Nat
 v:Nat
 e:Option Nat
 b:Bool
def fO(D:bN)(T:Nat->gM)(q h v:Nat)(e:Option Nat):Prop:=D q/\(T q).h=h/\(T q).v<=v/\((T q).e=Ub\/(T q).e=e)
def iR(ar:Nat->Option Nat)(D:bN)(T:Nat->gM)(p:Nat)(i:aO):Prop:=
 (T p).b=i.rj/\(T p).h<=p/\
 match i with
 |.begin _ s=>Ty s<=(T p).v/\fO D T (p+1) (T p).h (T p).v (Ua (Ty s))
 |.push _=>fO D T (p+1) ((T p).h+1) (T p).v (T p).e
 |.load k=>k<(T p).v/\fO D T (p+1) ((T p).h+1) (T p).v (T p).e
 |.declare k=>1<=(T p).h/\k<=(T p).v/\k<=90000/\(T p).e=Ua k/\fO D T (p+1) ((T p).h-1) (k+1) (T p).e
 |.assign k n=>n+1<=(T p).h/\k<(T p).v/\fO D T (p+1) ((T p).h-(n+1)) (T p).v (T p).e
 |.jump q=>(p<q\/(T q).b=Ud)/\fO D T q (T p).h (T p).v (T p).e
 |.skip q=>1<=(T p).h/\p<q/\fO D T q ((T p).h-1) (T p).v (T p).e/\fO D T (p+1) ((T p).h-1) (T p).v (T p).e
 |.rs _ q=>1<=(T p).h/\p<q/\fO D T q (T p).h (T p).v (T p).e/\fO D T (p+1) ((T p).h-1) (T p).v (T p).e
 |.sk=>1<=(T p).h/\fO D T (p+1) (T p).h (T p).v (T p).e
 |.unary _=>1<=(T p).h/\fO D T (p+1) (T p).h (T p).v (T p).e
 |.length=>1<=(T p).h/\fO D T (p+1) (T p).h (T p).v (T p).e
 |.binary _=>2<=(T p).h/\fO D T (p+1) ((T p).h-1) (T p).v (T p).e
 |.index=>2<=(T p).h/\fO D T (p+1) ((T p).h-1) (T p).v (T p).e
 |.list n=>n<=(T p).h/\fO D T (p+1) ((T p).h-n+1) (T p).v (T p).e
 |.read=>fO D T (p+1) ((T p).h+1) (T p).v (T p).e
 |.call k n=>n<=(T p).h/\ar k=Ua n/\fO D T (p+1) ((T p).h-n+1) (T p).v (T p).e
 |.sg=>1<=(T p).h
 |.drop=>1<=(T p).h/\fO D T (p+1) ((T p).h-1) (T p).v (T p).e
 |.print=>1<=(T p).h/\fO D T (p+1) ((T p).h-1) (T p).v (T p).e
def pX(L:Nat->gM->Prop)(lo hi:Nat)(q:Nat):Prop:=(lo<=q/\q<=hi)\/∃y,L q y
def cL(ar:Nat->Option Nat)(L:Nat->gM->Prop)(p:Nat)(c:List aO)(h v:Nat)(e:Option Nat)(h' v':Nat)(e':Option Nat):Prop:=
 ∃T:Nat->gM,(∀q y,L q y->T q=y)/\(T p).h=h/\(T p).v<=v/\((T p).e=Ub\/(T p).e=e)/\
  (T (p+Ty c)).h=h'/\(T (p+Ty c)).v=v'/\(T (p+Ty c)).e=e'/\
  ∀j i,c[j]?=Ua i->iR ar (pX L p (p+Ty c)) T (p+j) i
def fO.same{D a:bN}{T T':Nat->gM}(f:fO D T O X Q N)(b:D O->a O/\(T' O).h=(T O).h/\(T' O).v<=(T O).v/\((T' O).e=Ub\/(T' O).e=(T O).e)):fO a T' O X Q N:=by grind [fO]
def iR.same{D b:bN}{T T':Nat->gM}{i:aO}(f:iR R D T O i)(d:T' O=T O)
 (c:∀q,D q->b q/\(T' q).h=(T q).h/\(T' q).v<=(T q).v/\((T' q).e=Ub\/(T' q).e=(T q).e)) (j:∀q,D q->q<=O->(T q).b=Ud->(T' q).b=Ud):iR R b T' O i:=by
 obtain⟨g,e,h⟩:=f;grind [iR,fO]
def cL.append{L:Nat->gM->Prop}{c f:List aO}{u:Nat}{s:Option Nat}(a:cL R L O c X Q N S V Y)(b:cL R L (O+Ty c) f S V Y W u s)
 (I:∀q y,L q y->q<=O\/O+Ty c+Ty f<=q) (M:c≠[]):cL R L O (c++f) X Q N W u s:=by
 obtain⟨T,J,D,E,F,K,H,G,C⟩:=a;obtain⟨U,u1,u2,u3,u4,u5,u6,u7,u8⟩:=b;have A:0<Ty c:=(by grind)
 have t:Ty (c++f)=Ty c+Ty f:=ew;refine⟨λq=>if q<O+Ty c then T q else U q,λq y k=>?_,?_,?_,?_,?_,?_,?_,λj i g=>?_⟩
 .grind
 .grind
 .grind
 .grind
 .grind
 .grind
 .grind
 rcases gz j (Ty c) with d|d
 .rw[jq d]at g;refine(C j i g).same G_ (λq k=>?_) (λq k m B=>?_)
  .grind [pX]
  grind
 rw[ip d]at g;have w:=u8 (j-Ty c) i g;rw[show O+Ty c+(j-Ty c)=O+j by omega]at w
 have z:j-Ty c<Ty f:=(hZ.1 g).1;refine w.same G_ (λq k=>?_) (λq k m B=>?_)
 .grind [pX]
 grind [pX]
def cL.nil(a:Nat->Option Nat)(p h v:Nat)(e:Option Nat)(L:Nat->gM->Prop)(f:∀q y,L q y->q=p->y.h=h/\y.v=v/\y.e=e)(d:∀q y z,L q y->L q z->y=z):cL a L p [] h v e h v e:=by
 classical
 refine⟨λq=>if hq:∃y,L q y then hq.choose else ⟨h,v,e,Uc⟩,λq y b=>?_,?_⟩
 .have c:∃y,L q y:=⟨y,b⟩;grind
 simp;split
 .grind
 simp
structure oM(ar:Nat->Option Nat)(c:List aO)(T:Nat->gM):Prop where
 ins:∀j i,c[j]?=Ua i->iR ar (λq=>q<Ty c) T j i
 len:Ty c<=80000
def iJ(c:List aO):Prop:=(∃l s r,c=.begin l s::r)\/∃v,c=[.push v,.sg]
structure eI(ar:Nat->Option Nat)(f:aI)(more:Nat):Prop where
 code:∃T,oM ar f.fn.code T/\(T f.next).h=Ty f.ops+more/\(T f.next).v<=Ty f.g_/\((T f.next).e=Ub\/(T f.next).e=Ua (Ty f.e_))
 next:f.next<Ty f.fn.code
 e_:Ty f.e_<=Ty f.g_
 g_:Ty f.g_<=90001
structure Ts(f:aI):Prop where
 e_:Ty f.e_<=Ty f.g_
structure mT(ar:Nat->Option Nat)(si:List eM):Prop where
 fn:∀k n,ar k=Ua n->∃f T,si[k]?=Ua f/\oM ar f.code T/\(T 0).h=0/\(T 0).v<=n/\(T 0).e=Ub/\
  iJ f.code
structure sC(ar:Nat->Option Nat)(m:dA):Prop where
 low:∀f∈m.f_.dropLast,eI ar f 1
 top:∀f,m.f_.getLast?=Ua f->eI ar f 0
 deep:Ty m.f_<=16
theorem nA(l:List y)(a:y):(l++[a]).getLast?=Ua a:=s_
def oV(l:List y)(a:y):(l++[a]).dropLast=l:=s_
theorem sC.snoc{a:List aI}{f:aI}(d:∀g∈a,eI R g 1)(c:eI R f 0)(e:Ty a+1<=16):sC R ⟨a++[f],t,P⟩:=
 ⟨G_,G_,G_⟩
def eI.vg{T:Nat->gM}{f g:aI}(r:oM R f.fn.code T)(c:fO (λq=>q<Ty f.fn.code) T g.next O X N)(l:g.fn=f.fn)(i:O=Ty g.ops)(m:X<=Ty g.g_)(k:N=Ub\/N=Ua (Ty g.e_))
 (b:Ty g.e_<=Ty g.g_) (d:Ty g.g_<=90001):eI R g 0:=by
 obtain⟨j,n,p,o⟩:=c;refine⟨⟨T,G_,aD,aD,?_⟩,G_,b,d⟩
 grind
theorem aI.wz(f:aI):Ty f.pop.ops=Ty f.ops-1:=by simp[aI.pop]
theorem aI.zo(f:aI)(v:aE):(f.push v).ops.length=Ty f.ops+1:=by simp[aI.push]
theorem aI.xh(f:aI)(n:Nat):(f.n_ n).ops.length=Ty f.ops-n:=by simp[aI.n_]
def rI(Y_:a:=by
 simp only[aR]at hr' hi;split at hr'
 .subst hr';exact⟨hs,λ_=>eI.vg (f:=f) hc hi.2 aJ (by grind [aI.push,aI.pop]) hv he hs hm⟩
 grind [aI.pop]):a:=Y_
theorem MC{T:Nat->gM}{f:aI}{i:aO}(hc:oM R f.fn.code T)(hi:iR R (λq=>q<Ty f.fn.code) T f.next i)
 (b:(T f.next).h=Ty f.ops) (hv:(T f.next).v<=Ty f.g_) (he:(T f.next).e=Ub\/(T f.next).e=Ua (Ty f.e_)) (hs:Ty f.e_<=Ty f.g_) (hm:Ty f.g_<=90001)
 (x:i≠.sg) (u:i≠.read) (m:i≠.print) (j:∀k n,i≠.call k n) (r:aI × Nat) (hr':r=aR i { f with next:=f.next+1 }):
 (Ty r.1.e_)<=Ty r.1.g_/\(r.2=0->eI R r.1 0):=by
 obtain⟨_,_,hi⟩:=hi;have d:=hs;cases i with
 |sg=>grind
 |read=>grind
 |print=>grind
 |call k n=>grind
 |begin l s=>
  simp only[aR]at hr' hi;subst hr';exact⟨G_,λ_=>eI.vg (f:=f) hc hi.2 rfl b hv (ec rfl) G_ hm⟩
 |push v=>
  simp only[aR]at hr' hi;subst hr';exact⟨hs,λ_=>eI.vg (f:=f) hc hi aJ qn hv he hs hm⟩
 |load k=>
  simp only[aR]at hr' hi;subst hr';exact⟨hs,λ_=>eI.vg (f:=f) hc hi.2 aJ qn hv he hs hm⟩
 |declare k=>
  simp only[aR]at hr' hi;subst hr';obtain⟨y,h,p,t,e⟩:=hi;have c:Ty f.e_=k:=G_
  have o:Ty (f.g_.take k++[aI.last { f with next:=f.next+1 }])=k+1:=G_
  exact⟨pq,λ_=>eI.vg (f:=f) hc e rfl (by grind [aI.wz]) G_ he pq G_⟩
 |assign k n=>
  simp only[aR]at hr' hi;split at hr'
  .subst hr';refine⟨by grind [aI.n_,aI.pop],λ_=>eI.vg (f:=f) hc hi.2.2 rfl ?_ G_ he (by grind [aI.n_,aI.pop]) G_⟩
   grind [aI.xh,aI.pop]
  grind [aI.n_,aI.pop]
 |jump q=>
  simp only[aR]at hr' hi;subst hr';exact⟨hs,λ_=>eI.vg (f:=f) hc hi.2 aJ b hv he hs hm⟩
 |skip q=>
  simp only[aR]at hr' hi;split at hr'
  .subst hr';refine⟨?_,λ_=>?_⟩
   .split<;>exact hs
   split
   .exact eI.vg (f:=f) hc hi.2.2.2 aJ pq hv he hs hm
   exact eI.vg (f:=f) hc hi.2.2.1 aJ (by grind [aI.wz]) hv he hs hm
  grind [aI.pop]
 |rs w q=>
  simp only[aR]at hr' hi;split at hr'
  .subst hr';refine⟨?_,λ_=>?_⟩
   .split<;>exact hs
   split
   .exact eI.vg (f:=f) hc hi.2.2.1 aJ (by grind [aI.zo,aI.wz]) hv he hs hm
   exact eI.vg (f:=f) hc hi.2.2.2 aJ pq hv he hs hm
  grind [aI.pop]
 |sk=>
  exact rI
 |unary g=>
  exact rI
 |length=>
  exact rI
 |binary g=>
  exact rI
 |index=>
  exact rI
 |list n=>
  simp only[aR]at hr' hi;split at hr'
  .subst hr';exact⟨hs,λ_=>eI.vg (f:=f) hc hi.2 aJ (by grind [aI.push,aI.n_]) hv he hs hm⟩
  grind [aI.n_]
 |drop=>
  simp only[aR]at hr' hi;subst hr';exact⟨hs,λ_=>eI.vg (f:=f) hc hi.2 aJ pq hv he hs hm⟩
structure iS(ar:Nat->Option Nat)(m:dA):Prop where
 ok:sC ar m
 start:∀f∈m.f_,iJ f.fn.code
theorem eI.wa{f:aI}(h:eI R f 1)(v:aE):eI R (f.push v) 0:=by obtain⟨⟨T,i,e,j,g⟩,d,b,c⟩:=h;exact⟨qn,d,b,c⟩
theorem oI{si:List eM}{i:aO}{below:List aI}{f:aI}{o:cY}(c:i≠.sg)(b:i≠.read)(a:i≠.print)(d:∀k n,i≠.call k n):cF si i below f t o=(⟨below++[(aR i f).1],t,o⟩,(aR i f).2):=by cases i<;>first|rfl|exact eu aJ c|exact eu aJ b|exact eu aJ a|grind
theorem qC(i:aO)(f:aI):(aR i f).1.fn=f.fn:=by cases i<;>simp [aR]<;>(repeat' split)<;>rfl
def DT{j:List eM}(N:mT R j){d:List aI}{f:aI}{o:cY}(h:iS R ⟨d++[f],t,o⟩){i:aO}{g:aI}(hf:f.se=Ua (i,g)):
 (∀x∈(cF j i d g t o).1.f_,Ty x.e_<=Ty x.g_)/\(cF j i d g t o).1.f_.length<=16/\((cF j i d g t o).2=0->iS R (cF j i d g t o).1):=by
 have u:∀x∈d,eI R x 1:=by have:=h.ok.low;grind
 have A:eI R f 0:=h.ok.top f (s_)
 have q:Ty d+1<=16:=by have:=h.ok.deep;grind
 have J:∀x∈d,iJ x.fn.code:=(by grind [iS.start])
 have K:iJ f.fn.code:=h.start f s_
 obtain⟨⟨T,C,hh,F,M⟩,V,z,E⟩:=A
 obtain⟨rfl,X⟩:g={ f with next:=f.next+1 }/\f.fn.code[f.next]?=Ua i:=by grind [aI.se]
 have s:=C.ins _ _ X;have ab:∀x∈d,Ty x.e_<=Ty x.g_:=(by grind [eI.e_])
 by_cases Y:i=.sg
 .subst Y;rcases gB d with rfl|⟨b,x,rfl⟩
  .refine⟨qx,qx,λ_=>⟨⟨qx,qx,qx⟩,qx⟩⟩
  rw[jc]at*;have e:cF j .sg (b++[x]) { f with next:=f.next+1 } t o=(⟨b++[x.push (aI.last { f with next:=f.next+1 })],t,o⟩,0):=by simp[cF]
  rw[e];refine⟨λy D=>?_,G_,λ_=>⟨(by grind [sC.snoc,eI.wa]),λy D=>?_⟩⟩
  .grind [aI.push]
  grind [aI.push]
 have m:∀y:aI,Ty y.e_<=Ty y.g_->∀x∈d++[y],Ty x.e_<=Ty x.g_:=(by grind)
 have p:∀y:aI,eI R y 0->y.fn=f.fn->∀t o,iS R ⟨d++[y],t,o⟩:=λy D aa t o=>⟨sC.snoc u D q,G_⟩
 by_cases W:i=.read
 .subst W;cases t with
  |nil=>grind [cF]
  |cons a r=>exact⟨m _ z,by simp[cF];exact aD,λ_=>p (aI.push { f with next:=f.next+1 } (bA a)) (eI.vg (f:=f) C s.2.2 rfl qn F M z E) rfl _ _⟩
 by_cases S:i=.print
 .subst S;simp only[cF];split
  .grind [aI.pop]
  exact⟨m _ z,G_,λ_=>p (aI.pop { f with next:=f.next+1 }) (eI.vg (f:=f) C s.2.2.2 rfl pq F M z E) rfl _ _⟩
 by_cases O:∃k n,i=.call k n
 .obtain⟨k,n,rfl⟩:=O;simp only[cF];split
  .grind [aI.n_]
  rename_i hd;obtain⟨_,_,G,B,v⟩:=s;obtain⟨c,U,Q,c2,c3,c4,c5,c6⟩:=N.fn k n B;have I:Ty (aI.many { f with next:=f.next+1 } n)=n:=by simp[aI.many];exact aD
  rw[Q]
  have w:eI R ⟨c,0,0,[],aI.many { f with next:=f.next+1 } n,[]⟩ 0:=by
   refine⟨G_,?_,s_,by grind [oM.len]⟩
   grind [iJ]
  have H:eI R (aI.n_ { f with next:=f.next+1 } n) 1:=by
   obtain⟨P,f2,f3,f4⟩:=v;refine⟨⟨T,C,?_,eo f3 F,?_⟩,P,z,E⟩
   .grind [aI.n_]
   grind [aI.n_]
  have Z:d++[aI.n_ { f with next:=f.next+1 } n,(⟨c,0,0,[],aI.many { f with next:=f.next+1 } n,[]⟩:aI)]=(d++[aI.n_ { f with next:=f.next+1 } n])++[(⟨c,0,0,[],aI.many { f with next:=f.next+1 } n,[]⟩:aI)]:=s_
  simp only[ir];rw[Z];refine⟨λx L=>?_,G_,λ_=>⟨sC.snoc (λx L=>?_) w G_,λx L=>?_⟩⟩
  .grind [aI.n_]
  .grind
  grind [aI.n_]
 grind [oI,MC,qC]
def mN(f:aI):Nat:=if f.next=0 then 2 else if Ty f.fn.code=2 then 1 else 4*(Ty f.fn.code-f.next)
def oO(l:List aI):Nat:=(l.map mN).sum
def FU{T:Nat->gM}{f:aI}{i:aO}(a:iR R (λq=>q<Ty f.fn.code) T f.next i)
 (g:i.rj=Uc) (h:i≠.sg) (e:i≠.read) (c:i≠.print) (d:∀k n,i≠.call k n):
 (aR i { f with next:=f.next+1 }).2=0->(f.next<(aR i { f with next:=f.next+1 }).1.next/\(aR i { f with next:=f.next+1 }).1.next<Ty f.fn.code)\/(T (aR i { f with next:=f.next+1 }).1.next).b=Ud/\(aR i { f with next:=f.next+1 }).1.next<Ty f.fn.code:=by
 obtain⟨_,_,a⟩:=a;grind [aR,fO,aI.pop,aI.n_,aI.push]
theorem tU(l:List aI)(f:aI):oO (l++[f])=oO l+mN f:=by simp[oO]
def GP{f:aI}(h:f.next<Ty f.fn.code):1<=mN f:=by grind [mN]
theorem TJ(f:aI)(v:aE):mN (f.push v)=mN f:=rfl
def NB{f g:aI}{i:aO}(e:iJ f.fn.code)(h:f.fn.code[f.next]?=Ua i)(d:i.rj=Uc)(b:g.fn=f.fn)(a:f.next<g.next)(c:g.next<Ty f.fn.code):mN g<mN f:=by grind [mN,aO.rj,iJ]
def TK{f g:aI}(d:iJ f.fn.code)(e:f.fn.code[f.next]?=Ua (.call O X))(b:g.fn=f.fn)(a:f.next<g.next)(c:g.next<Ty f.fn.code):mN g+2<mN f:=by grind [mN,iJ]
structure CS(ar:Nat->Option Nat)(r:dA × Nat):Prop where
 told:∀x∈r.1.f_,Ty x.e_<=Ty x.g_
 deep:Ty r.1.f_<=16
 ok:r.2=0->iS ar r.1/\r.1.f_≠[]
def oU{l:List aI}(h:l≠[]):∃b f,l=b++[f]:=by
 rcases gB l with a|⟨b,f,a⟩
 .grind
 grind
def FD{f:aI}(h:f.next<Ty f.fn.code):f.se=Ua (f.fn.code[f.next],{ f with next:=f.next+1 }):=by grind [aI.se]
def AU{a:List eM}(i:mT R a){b:List aI}{f:aI}(h:iS R ⟨b++[f],t,P⟩){s:cY}(m:f.fn.code[f.next]?=Ua (.begin X s)):
 ∃r,fG a (O+1) ⟨b++[f],t,P⟩=Ua r/\CS R r:=by
 have d:f.se=Ua (.begin X s,{ f with next:=f.next+1 }):=by grind [aI.se]
 obtain⟨g,e,j⟩:=DT i h d;refine⟨cF a (.begin X s) b { f with next:=f.next+1 } t P,?_,g,e,(by grind [cF])⟩
 grind [fG,aO.rj]
def pH{l:List eM}(s:mT R l):∀(k:Nat) (m:dA),iS R m->oO m.f_+2<=k->∃r,fG l k m=Ua r/\CS R r
 |0,_,_,I=>by omega
 |k+1,⟨W,t,o⟩,h,I=>by
  by_cases A:W=[]
  .subst A;exact⟨(⟨[],t,o⟩,1),aJ,s_,s_,aD⟩
  obtain⟨b,f,rfl⟩:=oU A;have d:eI R f 0:=h.ok.top f (s_)
  have v:iJ f.fn.code:=h.start f s_
  have Q:=FD d.next
  have z:f.fn.code[f.next]?=Ua (f.fn.code[f.next]'d.next):=fe d.next
  generalize f.fn.code[f.next]'d.next=i at Q z
  obtain⟨V,U,X⟩:=DT s h Q;by_cases D:(cF l i b { f with next:=f.next+1 } t o).2=0
  rotate_left
  .refine⟨_,?_,V,U,aD⟩;grind [fG]
  cases N:i.rj;rotate_left
  .cases i<;>simp[aO.rj]at N
   exact AU s h z
  have e:fG l (k+1) ⟨b++[f],t,o⟩=fG l k (cF l i b { f with next:=f.next+1 } t o).1:=by grind [fG]
  rw[e];have u:=X D;simp only at I;rw[tU]at I;obtain⟨⟨T,S,hh,hv,he⟩,E,hs,hm⟩:=d;have q:=S.ins _ _ z;by_cases L:i=.sg
  .subst L;refine pH s k _ u ?_;have G:=GP E;rcases gB b with rfl|⟨Z,x,rfl⟩
   .grind [cF]
   grind [cF,TJ,oO]
  by_cases K:i=.read
  .subst K;cases t with
   |nil=>simp[cF]at D
   |cons a r=>
    refine pH s k _ u ?_;have G:=NB (g:=aI.push { f with next:=f.next+1 } (bA a)) v z rfl rfl (Nat.lt_succ_self _) q.2.2.1
    grind [tU,cF]
  by_cases J:i=.print
  .subst J;refine pH s k _ u ?_;have G:=NB (g:=aI.pop { f with next:=f.next+1 }) v z rfl rfl (Nat.lt_succ_self _) q.2.2.2.1
   grind [cF,tU]
  by_cases H:∃c n,i=.call c n
  .obtain⟨c,n,rfl⟩:=H;refine pH s k _ u ?_;have G:=TK (g:=aI.n_ { f with next:=f.next+1 } n) v z rfl (Nat.lt_succ_self _) q.2.2.2.2.1
   grind [cF,mN,oO]
  have B:∀k n,i≠.call k n:=(by grind)
  rw[oI L K J B]at D u ⊢
  have p:=FU q N L K J B D;have M:(aR i { f with next:=f.next+1 }).1.fn=f.fn:=qC _ _
  generalize aR i { f with next:=f.next+1 }=y at D u p M ⊢
  rcases p with ⟨O,P⟩|⟨O,P⟩
  .refine pH s k _ u ?_;grind [oO,iJ,aO.rj,mN]
  have C:y.1.fn.code[y.1.next]?=Ua (f.fn.code[y.1.next]):=G_
  have w:=(S.ins _ _ (fe P)).1;rw[O]at w;have G:=GP E;obtain⟨j,rfl⟩:∃j,k=j+1:=⟨k-1,aD⟩;generalize f.fn.code[y.1.next]=Y at C w
  cases Y<;>simp[aO.rj]at w
  exact AU s u C
theorem cL.then{L:Nat->gM->Prop}{c c':List aO}{i:Nat}{e l:Option Nat}(a:cL R L O c X Q e S i l)(b:cL R L (O+Ty c) c' S i l V W N)
 (r:∀q y,L q y->q<=O\/O+Ty c+Ty c'<=q):cL R L O (c++c') X Q e V W N:=by
 by_cases m:c=[]
 .subst m;obtain⟨T,x,t,u,w,s,o,n,z⟩:=a;obtain⟨U,u1,u2,u3,u4,u5,u6,u7,u8⟩:=b;simp at s o n u2 u3 u4 u5 u6 u7 u8;refine⟨U,u1,aD,aD,?_,u5,u6,u7,u8⟩;grind
 exact a.append b r m
def cL.one{ar:Nat->Option Nat}{L:Nat->gM->Prop}{p:Nat}{i:aO}{h' v':Nat}{e':Option Nat}(m:∀q y z,L q y->L q z->y=z)(k:∀y,L p y->y=⟨O,X,N,i.rj⟩)(l:∀y,L (p+1) y->y.h=h'/\y.v=v'/\y.e=e')
 (n:∀T:Nat->gM,T p=⟨O,X,N,i.rj⟩->(T (p+1)).h=h'->(T (p+1)).v=v'->(T (p+1)).e=e'->(∀q y,L q y->T q=y)->iR ar (pX L p (p+1)) T p i):cL ar L p [i] O X N h' v' e':=by
 classical
 let T :=λq=>if hq:∃y,L q y then hq.choose else if q=p then ⟨O,X,N,i.rj⟩else ⟨h',v',e',Uc⟩
 have f:∀q y,L q y->T q=y:=λq y g=>by have a:∃y,L q y:=⟨y,g⟩;grind
 have d:T p=⟨O,X,N,i.rj⟩:=by
  by_cases a:∃y,L p y
  .grind
  grind
 have c:(T (p+1)).h=h'/\(T (p+1)).v=v'/\(T (p+1)).e=e':=by
  by_cases a:∃y,L (p+1) y
  .grind
  grind
 refine⟨T,f,by rw[d],G_,G_,c.1,c.2.1,c.2.2,λj x b=>?_⟩
 match j,b with
 |0,b=>
  grind
 |j+1,b=>simp at b
structure eV(L:Nat->gM->Prop)(lo hi:Nat):Prop where
 uniq:∀q y z,L q y->L q z->y=z
 out:∀q y,L q y->q<lo\/hi<q
theorem eV.sub{L:Nat->gM->Prop}(h:eV L O X)(g:O<=Q)(f:S<=X):eV L Q S:=⟨h.uniq,λq y e=>by have:=h.out q y e;exact aD⟩
def gU(L:Nat->gM->Prop)(q:Nat)(y:gM):Nat->gM->Prop:=λr z=>L r z\/(r=q/\z=y)
theorem gU.ok{L:Nat->gM->Prop}{lo b:Nat}{y:gM}(h:eV L lo O)(j:lo<=Q)(g:Q<=O)(l:lo<=X)(i:b<=O)(k:Q<X\/b<Q):eV (gU L Q y) X b:=by
 refine⟨λr x z a d=>?_,λr x a=>?_⟩
 .rcases a with a|⟨rfl,rfl⟩<;>rcases d with d|⟨f,rfl⟩
  .exact h.uniq _ _ _ a d
  .have:=h.out _ _ a;exact aD
  .have:=h.out _ _ d;exact aD
  rfl
 rcases a with a|⟨rfl,rfl⟩
 .have:=h.out _ _ a;exact aD
 exact aD
def cL.close{ar:Nat->Option Nat}{L:Nat->gM->Prop}{p:Nat}{c:List aO}{q:Nat}{y:gM}(s:cL ar (gU L q y) p c O X N Q S Y)(z:p<=q)(x:q<=p+Ty c):cL ar L p c O X N Q S Y:=by
 obtain⟨T,o,f,g,k,u,m,l,t⟩:=s;refine⟨T,λq y n=>o q y (ed n),f,g,k,u,m,l,λj i w=>(t j i w).same aJ (λr A=>⟨?_,aJ,aD,ec rfl⟩) (s_)⟩
 grind [pX,gU]
def oH{L:Nat->gM->Prop}:pX L O (O+1) (O+1):=(by grind [pX])
theorem cL.plain{L:Nat->gM->Prop}{i:aO}(a:eV L O (O+1))(g:i.rj=Uc)(f:X<=O)
 (j:∀(D:bN) (T:Nat->gM),(T O).h=X->(T O).v=Q->fO D T (O+1) S (T O).v (T O).e->(T O).b=Uc->(T O).h<=O->iR R D T O i):cL R L O [i] X Q N S Q N:=
 cL.one a.uniq (λy b=>eu (a.out _ _ b) aD) (λy b=>eu (a.out _ _ b) aD) (by grind [pX,fO])
def gE(fs:List aC)(k:Nat):Option Nat:=fs[k]?.map λf=>Ty f.y_-1
def rk(fs:List aC)(a_:Bool)(e_:cY):Nat->aC->Prop
 |0,_=>False
 |d+1,a=>
  ((a.op=[48]\/a.op=[115]\/a.op=[98,111,111,108])/\a.y_=[])\/
  (a.op=[110,97,109,101]/\a.y_=[]/\a.x_∈e_)\/
  (a.op=[108,105,115,116]/\∀k∈a.y_,rk fs a_ e_ d k)\/
  (a.op=[105,110,100,101,120]/\∃l r,a.y_=[l,r]/\rk fs a_ e_ d l/\rk fs a_ e_ d r)\/
  ((a.op=[45,120]\/a.op=[33,120])/\∃l,a.y_=[l]/\rk fs a_ e_ d l)\/
  (a.op=[99,97,108,108]/\(∀k∈a.y_,rk fs a_ e_ d k)/\
    ((a.x_=[108,101,110]/\Ty a.y_=1)\/(a.x_=[114,101,97,100]/\a_=Uc/\Ty a.y_=0)\/
     (a.x_≠[108,101,110]/\a.x_≠[114,101,97,100]/\a_=Uc/\gE fs (dV fs a.x_)=Ua (Ty a.y_))))\/
  (cU a.op≠9/\∃l r,a.y_=[l,r]/\rk fs a_ e_ d l/\rk fs a_ e_ d r)
theorem qK:∀{a:cY} {x:bP},x∈a->dQ a x<Ty a
 |y::l,x,h=>by
  unfold dQ;split
  .simp
  rcases ff.1 h with rfl|h
  .grind
  have:=qK h;grind
def oT(h:cU g≠9):g=[124,124]\/g=[38,38]\/g=[61,61]\/g=[33,61]\/g=[60]\/g=[60,61]\/g=[43]\/g=[45]\/g=[42]\/g=[47]\/g=[37]:=by grind [cU]
def ZH(fs:List aC)(a_:Bool)(e_:cY)(d:Nat):Prop:=
 ∀(a:aC) (L:Nat->gM->Prop) (p h v:Nat) (e:Option Nat),rk fs a_ e_ d a->Ty e_<=v->h<=p->eV L p (p+Ty (aG fs e_ d a p))->
  cL (gE fs) L p (aG fs e_ d a p) h v e (h+1) v e/\1<=Ty (aG fs e_ d a p)
def wI{f:List aC}{c:Bool}(j:ZH f c P O):∀(l:List aC) (L:Nat->gM->Prop) (p h v:Nat) (e:Option Nat),(∀a∈l,rk f c P O a)->Ty P<=v->h<=p->eV L p (p+Ty (bB (aG f P O) l p))->
 cL (gE f) L p (bB (aG f P O) l p) h v e (h+Ty l) v e/\Ty l<=Ty (bB (aG f P O) l p)
 |[],L,p,h,v,e,_,_,_,g=>⟨cL.nil _ _ _ _ _ _ (λq y i u=>eu (g.out q y i) aD) g.uniq,s_⟩
 |a::l,L,p,h,v,e,w,k,r,g=>by
  simp only[bB,ew]at g ⊢
  obtain⟨o,n⟩:=j a L p h v e (G_) k r (lj)
  obtain⟨m,s⟩:=wI j l L (p+Ty (aG f P O a p)) (h+1) v e (G_) k aD (lj)
  refine⟨?_,G_⟩
  have t:h+Ty (a::l)=h+1+Ty l:=G_
  rw[t];exact o.then m λq y i=>by have:=g.out q y i;exact aD
theorem cL.snoc{L:Nat->gM->Prop}{c:List aO}{i:aO}(a:cL R L O c X Q N S Q N)(m:eV L O (O+Ty (c++[i])))(b:eV L (O+Ty c) (O+Ty c+1)->cL R L (O+Ty c) [i] S Q N V W Y):cL R L O (c++[i]) X Q N V W Y:=by
 refine a.then (lj) λq y l=>?_
 have:=m.out q y l;grind
def vQ(Y_:a:=by
 rw[hc]at hL ⊢
 exact⟨cL.plain hL aJ hp λD T t1 t2 f b hp=>⟨b,hp,G_⟩,s_⟩):a:=Y_
def uJ(g:List aC)(j:Bool)(c:cY):∀d,ZH g j c d
 |0,_,_,_,_,_,_,h,_,_,_=>h.elim
 |d+1,a,L,p,h,v,e,ha,H,hp,hL=>by
  have C:=uJ g j c d;have Z:∀l r:aC,a.y_=[l,r]->rk g j c d l->rk g j c d r->∀k∈a.y_,rk g j c d k:=(by grind)
  have w:∀i:aO,i.rj=Uc->aG g c (d+1) a p=bB (aG g c d) a.y_ p++[i]->(∀k∈a.y_,rk g j c d k)->
   (∀(t:Nat) (D:bN) (T:Nat->gM),(T t).h=h+Ty a.y_->(T t).v=v->fO D T (t+1) (h+1) (T t).v (T t).e->(T t).b=Uc->(T t).h<=t->iR (gE g) D T t i)->
   cL (gE g) L p (aG g c (d+1) a p) h v e (h+1) v e/\1<=Ty (aG g c (d+1) a p):=λi hb hc u hi=>by
   rw[hc]at hL ⊢
   obtain⟨h1,h2⟩:=wI C a.y_ L p h v e u H hp (lj)
   grind [cL.snoc,cL.plain]
  rcases ha with ⟨o|o|o,u⟩|⟨o,u,X⟩|⟨o,u⟩|⟨o,l,r,u,B,K⟩|⟨o|o,l,u,B⟩|⟨o,u,hc⟩|⟨o,l,r,u,B,K⟩
  .have hc:aG g c (d+1) a p=[.push (bA (((dS 0 a.x_).getD 0:Nat):Int))]:=by rw[aG];simp[o]
   exact vQ
  .have hc:aG g c (d+1) a p=[.push (bQ a.x_)]:=by rw[aG];simp[o]
   exact vQ
  .have hc:aG g c (d+1) a p=[.push (cG (a.x_==[116,114,117,101]))]:=by rw[aG];simp[o]
   exact vQ
  .have hc:aG g c (d+1) a p=[.load (dQ c a.x_)]:=by rw[aG];simp[o]
   rw[hc]at hL ⊢
   exact⟨cL.plain hL aJ hp λD T t1 t2 f b hp=>⟨b,hp,by rw[t2];have:=qK X;exact aD,G_⟩,s_⟩
  .grind [aG,aO.rj,iR]
  .grind [aG,aO.rj,iR]
  .grind [aG,aO.rj,iR]
  .grind [aG,aO.rj,fO,iR]
  .rcases hc with ⟨O,E⟩|⟨O,_,E⟩|⟨S,W,_,E⟩
   .refine w .length aJ (by rw[aG];grind) u λt D T t1 t2 f b hp=>⟨b,hp,aD,?_⟩
    grind
   .refine w .read aJ (by rw[aG];grind) u λt D T t1 t2 f b hp=>⟨b,hp,?_⟩
    grind
   refine w (.call (dV g a.x_) (Ty a.y_)) aJ (by grind [aG]) u λt D T t1 t2 f b hp=>⟨b,hp,aD,E,?_⟩
   grind
  by_cases G:a.op=[38,38]\/a.op=[124,124]
  rotate_left
  .have U:aG g c (d+1) a p=bB (aG g c d) a.y_ p++[.binary a.op]:=by rw[aG];rcases oT o with h|h|h|h|h|h|h|h|h|h|h<;>simp[h]at G ⊢
   grind [aO.rj,iR]
  have hc:aG g c (d+1) a p=aG g c d l p++[.rs (a.op==[124,124]) (p+Ty (aG g c d l p)+1+Ty (aG g c d r (p+Ty (aG g c d l p)+1))+1)]++aG g c d r (p+Ty (aG g c d l p)+1)++[.sk]:=by rw[aG];grind
  generalize I:aG g c d l p=m at hc;generalize F:aG g c d r (p+Ty m+1)=n at hc;rw[hc]at hL ⊢
  have z:Ty (m++[aO.rs (a.op==[124,124]) (p+Ty m+1+Ty n+1)]++n++[aO.sk])=Ty m+1+Ty n+1:=G_
  rw[z]at hL;refine⟨cL.close (q:=p+Ty m+1+Ty n+1) (y:=⟨h+1,v,e,Uc⟩) ?_ aD aD,aD⟩;have s:eV (gU L (p+Ty m+1+Ty n+1) ⟨h+1,v,e,Uc⟩) p (p+Ty m+1+Ty n):=(by grind [gU.ok])
  obtain⟨V,l1⟩:=C l (gU L (p+Ty m+1+Ty n+1) ⟨h+1,v,e,Uc⟩) p h v e B H hp lj
  rw[I]at V l1;obtain⟨Y,Q⟩:=C r (gU L (p+Ty m+1+Ty n+1) ⟨h+1,v,e,Uc⟩) (p+Ty m+1) h v e K H aD lj
  rw[F]at Y Q
  have s2:cL (gE g) (gU L (p+Ty m+1+Ty n+1) ⟨h+1,v,e,Uc⟩) (p+Ty m) [.rs (a.op==[124,124]) (p+Ty m+1+Ty n+1)] (h+1) v e h v e:=by
   refine cL.one s.uniq (λy x=>eu (s.out _ _ x) aD) (λy x=>eu (s.out _ _ x) aD) λT A t1 t2 N J=>?_
   refine⟨by rw[A],G_,G_,aD,?_,oH,G_,G_,G_⟩
   have:=J (p+Ty m+1+Ty n+1) ⟨h+1,v,e,Uc⟩ (ec s_)
   exact⟨ec ⟨_,ec ⟨aJ,aJ⟩⟩,G_,G_,G_⟩
  have s4:cL (gE g) (gU L (p+Ty m+1+Ty n+1) ⟨h+1,v,e,Uc⟩) (p+Ty m+1+Ty n) [.sk] (h+1) v e (h+1) v e:=by
   refine cL.one s.uniq (λy x=>eu (s.out _ _ x) aD) (λy x=>?_) λT A t1 t2 N J=>⟨by rw[A],G_,G_,oH,G_,G_,G_⟩
   rcases x with x|⟨_,rfl⟩
   .exact eu (hL.out _ _ x) aD
   simp
  have M:∀q y,gU L (p+Ty m+1+Ty n+1) ⟨h+1,v,e,Uc⟩ q y->q<=p\/p+Ty m+1+Ty n+1<=q:=λq y P=>by have:=s.out q y P;exact aD
  grind [cL.then]
def cL.entry{L:Nat->gM->Prop}{c:List aO}(s:cL R L O c X Q Ub V W Y)(n:Q<=S):cL R L O c X S N V W Y:=by obtain⟨T,j,i,l,m,k⟩:=s;exact⟨T,j,i,aD,G_,k⟩
def cL.exit{L:Nat->gM->Prop}{c:List aO}(s:cL R L O c X Q N S V Y)(D:W<=V)(b:Bool)(B:∀y,¬L (O+Ty c) y):cL R (gU L (O+Ty c) ⟨S,W,Ub,b⟩) O c X Q N S W Ub:=by
 obtain⟨T,A,t,u,w,C,z,x,n⟩:=s;refine⟨λq=>if q=O+Ty c then ⟨S,W,Ub,b⟩else T q,λq y k=>?_,?_,?_,?_,s_,s_,s_,λj i o=>?_⟩
 .grind [gU]
 .grind
 .grind
 .grind
 refine(n j i o).same G_ (λq k=>?_) (G_)
 have r:pX (gU L (O+Ty c) ⟨S,W,Ub,b⟩) O (O+Ty c) q:=k.imp id λ⟨y,m⟩=>⟨y,ed m⟩
 grind
def cR(e_:cY)(a:aC):cY:=if a.op=[118,97,114]then (a.y_.head?.map (·.x_)).toList++e_ else e_
def rp(S:cY->aC->Prop):cY->List aC->Prop
 |_,[]=>True
 |e_,a::l=>S e_ a/\rp S (cR e_ a) l
def cO(fs:List aC):Nat->cY->aC->Prop
 |0,_,_=>False
 |d+1,e_,a=>
  (a.op=[118,97,114]/\Ty e_<=40000/\∃t v,a.y_=[t,v]/\rk fs Uc e_ d v/\t.x_∉e_)\/
  (a.op=[115,101,116]/\a.x_∈e_/\a.y_≠[]/\∀k∈a.y_,rk fs Uc e_ d k)\/
  (a.op=[105,102]/\∃c t,(a.y_=[c,t]\/∃x,a.y_=[c,t,x]/\rp (cO fs d) e_ x.y_)/\rk fs Uc e_ d c/\rp (cO fs d) e_ t.y_)\/
  (a.op=[119,104,105,108,101]/\∃c b,a.y_=[c,b]/\rk fs Uc e_ d c/\rp (cO fs d) e_ b.y_)\/
  (a.op=[114,101,116,117,114,110]/\(a.y_=[]\/∃v,a.y_=[v]/\rk fs Uc e_ d v))\/
  (a.op=[112,114,105,110,116]/\∃v,a.y_=[v]/\rk fs Uc e_ d v)\/
  (a.op=[100,111]/\∃c,a.y_=[c]/\rk fs Uc e_ d c)
def ZE(fs:List aC)(d:Nat):Prop:=
 ∀(e_:cY) (a:aC) (L:Nat->gM->Prop) (p:Nat),cO fs d e_ a->eV L p (p+(aU fs d e_ a p).1.length)->
  cL (gE fs) L p (aU fs d e_ a p).1 0 (Ty e_) Ub 0 (Ty (cR e_ a)) Ub/\(aU fs d e_ a p).2=cR e_ a/\∃r,(aU fs d e_ a p).1=.begin a.l_ e_::r
def UQ(b:cY)(a:aC):Ty b<=Ty (cR b a):=by grind [cR]
def fZ:cY->List aC->cY
 |e_,[]=>e_
 |e_,a::l=>fZ (cR e_ a) l
def pZ:∀(l:List aC) (b:cY),Ty b<=Ty (fZ b l)
 |[],_=>fi _
 |a::l,b=>eo (UQ b a) (pZ l _)
theorem qJ{c:List aC}(g:ZE c O):∀(l:List aC) (b:cY) (L:Nat->gM->Prop) (p:Nat),rp (cO c O) b l->eV L p (p+Ty (bK (aU c O) b l p))->
 cL (gE c) L p (bK (aU c O) b l p) 0 (Ty b) Ub 0 (Ty (fZ b l)) Ub
 |[],b,L,p,_,e=>cL.nil _ _ _ _ _ _ (λq y f m=>eu (e.out q y f) aD) e.uniq
 |a::l,b,L,p,h,e=>by
  simp [bK]at e ⊢
  obtain⟨j,i,_⟩:=g b a L p h.1 (lj)
  rw[i]at e ⊢
  have k:=qJ g l (cR b a) L (p+(aU c O b a p).1.length) h.2 (lj)
  exact j.then k λq y f=>by have:=e.out q y f;exact aD
def cL.q_{ar:Nat->Option Nat}{L:Nat->gM->Prop}{p l:Nat}{e_:cY}(a:∀q y z,L q y->L q z->y=z)(b:∀y,L p y->y=⟨0,Ty e_,Ub,Ud⟩)(g:∀y,¬L (p+1) y):cL ar L p [.begin l e_] 0 (Ty e_) Ub 0 (Ty e_) (Ua (Ty e_)):=
 cL.one a b (G_) λT c f d e _=>⟨by rw[c],G_,G_,oH,G_,G_,G_⟩
def Ri(i j:aO)(c:List aO):Ty (i::c++[j])=Ty c+2:=s_
def cL.stmt{L:Nat->gM->Prop}{n:Nat}{c:List aO}{i:aO}(b:eV L O (O+Ty (aO.begin X P::c++[i])))
 (o:cL R L (O+1) c 0 (Ty P) (Ua (Ty P)) n (Ty P) (Ua (Ty P))) (k:eV L (O+1+Ty c) (O+1+Ty c+1)->cL R L (O+1+Ty c) [i] n (Ty P) (Ua (Ty P)) 0 Q Ub):
 cL R L O (aO.begin X P::c++[i]) 0 (Ty P) Ub 0 Q Ub:=by
 rw[Ri]at b;have j:cL R L O [.begin X P] 0 (Ty P) Ub 0 (Ty P) (Ua (Ty P)):=cL.q_ b.uniq (λy f=>eu (b.out _ _ f) aD) (λy f=>eu (b.out _ _ f) aD)
 have h:=j.then (c':=c) o λq y e=>by have:=b.out q y e;grind
 have m:=h.then (c':=[i]) (by rw[show O+Ty ([aO.begin X P]++c)=O+1+Ty c by grind];exact k (lj)) λq y e=>by have:=b.out q y e;grind
 exact m
def cL.last{L:Nat->gM->Prop}{n:Nat}{i:aO}(a:eV L O (O+1))(g:i.rj=Uc)(f:n<=O)
 (h:∀(D:bN) (T:Nat->gM),T O=⟨n,X,N,Uc⟩->D (O+1)->(T (O+1)).h=0->(T (O+1)).v=Q->(T (O+1)).e=Ub->(T O).h<=O->iR R D T O i):cL R L O [i] n X N 0 Q Ub:=
 cL.one a.uniq (λy b=>eu (a.out _ _ b) aD) (λy b=>eu (a.out _ _ b) aD) (by grind [pX])
theorem sT{c:List aC}{a:aC}{L:Nat->gM->Prop}{p:Nat}{e:Option Nat}(f:rk c Uc P O a)(h:0<p)(g:eV L p (p+Ty (aG c P O a p))):
 cL (gE c) L p (aG c P O a p) 0 (Ty P) e 1 (Ty P) e/\1<=Ty (aG c P O a p):=uJ c Uc P O a L p 0 (Ty P) e f (aD) aD g
def eV.none{L:Nat->gM->Prop}{q:Nat}(h:eV L O X)(e:O<=q)(d:q<=X)(y:gM):¬L q y:=λc=>by have:=h.out q y c;exact aD
def cL.ifs{L:Nat->gM->Prop}{p l v1 v2:Nat}{c e n:List aO}
 (z:eV L p (p+1+Ty c+1+Ty e+1+Ty n))
 (I:∀h,eV h (p+1) (p+1+Ty c)->cL R h (p+1) c 0 (Ty P) (Ua (Ty P)) 1 (Ty P) (Ua (Ty P)))
 (G:∀h,eV h (p+1+Ty c+1) (p+1+Ty c+1+Ty e)->cL R h (p+1+Ty c+1) e 0 (Ty P) Ub 0 v1 Ub) (N:Ty P<=v1)
 (M:∀h,eV h (p+1+Ty c+1+Ty e+1) (p+1+Ty c+1+Ty e+1+Ty n)->cL R h (p+1+Ty c+1+Ty e+1) n 0 (Ty P) Ub 0 v2 Ub) (J:Ty P<=v2):
 cL R L p (aO.begin l P::c++[.skip (p+1+Ty c+1+Ty e+1)]++e++[.jump (p+1+Ty c+1+Ty e+1+Ty n)]++n) 0 (Ty P) Ub 0 (Ty P) Ub:=by
 generalize H:p+1+Ty c+1+Ty e+1=q at*;generalize K:q+Ty n=r at*;have s:eV (gU L r ⟨0,Ty P,Ub,Uc⟩) p (r-1):=(by grind [gU.ok])
 have m:cL R (gU L r ⟨0,Ty P,Ub,Uc⟩) p (aO.begin l P::c++[aO.skip q]++e++[aO.jump r]) 0 (Ty P) Ub 0 (Ty P) Ub:=by
  have i:p+Ty (aO.begin l P::c++[aO.skip q]++e++[aO.jump r])=q:=G_
  rcases Nat.eq_or_lt_of_le (show q<=r by omega)with o|o
  ·-- there is no else:one label
   subst o;have d :=s;have C:=cL.q_ (ar:=R) (l:=l) (p:=p) (e_:=P) d.uniq (λy b=>eu (d.out _ _ b) aD) (λy b=>eu (d.out _ _ b) aD)
   have w:=C.then (c':=c) (I _ (d.sub aD aD)) λx y f=>by have:=d.out x y f;grind
   have A:p+Ty ([aO.begin l P]++c)=p+1+Ty c:=G_
   have D:=w.then (c':=[aO.skip q]) (by
    rw[A];refine cL.one (h':=0) (v':=P.length) (e':=Ua (Ty P)) d.uniq (λy b=>eu (d.out _ _ b) aD) (λy b=>eu (d.out _ _ b) aD) λT k B t u j=>?_
    have b:=j q ⟨0,Ty P,Ub,Uc⟩ (ec s_)
    exact⟨by rw[k],G_,G_,aD,⟨ec ⟨_,ec ⟨rfl,rfl⟩⟩,G_,G_,G_⟩,oH,G_,G_,G_⟩)
    λx y f=>by have:=d.out x y f;grind
   have E:p+Ty ([aO.begin l P]++c++[aO.skip q])=p+1+Ty c+1:=G_
   have v:=D.then (c':=e) (by rw[E];exact(G _ (lj)).entry (aD)) λx y f=>by have:=d.out x y f;exact aD
   have F:p+Ty ([aO.begin l P]++c++[aO.skip q]++e)=p+1+Ty c+1+Ty e:=G_
   exact v.then (c':=[aO.jump q]) (by
    rw[F];refine cL.one d.uniq (λy b=>eu (d.out _ _ b) aD) (λy b=>?_) λT k B t u j=>?_
    .rw[show p+1+Ty c+1+Ty e+1=q from H]at b
     rcases b with b|⟨_,rfl⟩
     .exact eu b (z.none aD aD y)
     simp
    .have b:=j q ⟨0,Ty P,Ub,Uc⟩ (ec s_)
     exact⟨by rw[k],G_,aD,(by grind [pX]),G_,G_,G_⟩)
    λx y f=>by have:=d.out x y f;grind
  refine cL.close (q:=q) (y:=⟨0,Ty P,Ub,Uc⟩) ?_ aD aD;have d:eV (gU (gU L r ⟨0,Ty P,Ub,Uc⟩) q ⟨0,Ty P,Ub,Uc⟩) p (q-1):=(by grind [gU.ok])
  have C:=cL.q_ (ar:=R) (l:=l) (p:=p) (e_:=P) d.uniq (λy b=>eu (d.out _ _ b) aD) (λy b=>eu (d.out _ _ b) aD)
  have w:=C.then (c':=c) (I _ (d.sub aD aD)) λx y f=>by have:=d.out x y f;grind
  have A:p+Ty ([aO.begin l P]++c)=p+1+Ty c:=G_
  have D:=w.then (c':=[aO.skip q]) (by
   rw[A];refine cL.one (h':=0) (v':=P.length) (e':=Ua (Ty P)) d.uniq (λy b=>eu (d.out _ _ b) aD) (λy b=>eu (d.out _ _ b) aD) λT k B t u j=>?_
   have b:=j q ⟨0,Ty P,Ub,Uc⟩ (ec s_)
   exact⟨by rw[k],G_,G_,aD,⟨ec ⟨_,ec ⟨rfl,rfl⟩⟩,G_,G_,G_⟩,oH,G_,G_,G_⟩)
   λx y f=>by have:=d.out x y f;grind
  have E:p+Ty ([aO.begin l P]++c++[aO.skip q])=p+1+Ty c+1:=G_
  have v:=D.then (c':=e) (by rw[E];exact(G _ (lj)).entry (aD)) λx y f=>by have:=d.out x y f;exact aD
  have F:p+Ty ([aO.begin l P]++c++[aO.skip q]++e)=p+1+Ty c+1+Ty e:=G_
  exact v.then (c':=[aO.jump r]) (by
   rw[F];refine cL.one d.uniq (λy b=>eu (d.out _ _ b) aD) (λy b=>?_) λT k B t u j=>?_
   .rw[show p+1+Ty c+1+Ty e+1=q from H]at b
    rcases b with (b|⟨b,_⟩)|⟨_,rfl⟩
    .exact eu b (z.none aD aD y)
    .exact aD
    simp
   .have b:=j r ⟨0,Ty P,Ub,Uc⟩ ((by grind [gU]))
    exact⟨by rw[k],G_,aD,ec ⟨_,ed (ec ⟨rfl,rfl⟩)⟩,G_,G_,G_⟩)
   λx y f=>by have:=d.out x y f;grind
 have i:p+Ty (aO.begin l P::c++[aO.skip q]++e++[aO.jump r])=q:=G_
 refine cL.close (q:=r) (y:=⟨0,Ty P,Ub,Uc⟩) ?_ aD G_
 refine m.then (c':=n) ?_ λx y f=>by have:=s.out x y f;exact aD
 rw[i];have:=(M L (lj)).exit J Uc (by rw[K];exact z.none aD (aD))
 grind
def cL.Bg{L:Nat->gM->Prop}{p l v1:Nat}{c e:List aO}
 (m:eV L p (p+1+Ty c+1+Ty e+1))
 (E:∀h,eV h (p+1) (p+1+Ty c)->cL R h (p+1) c 0 (Ty P) (Ua (Ty P)) 1 (Ty P) (Ua (Ty P)))
 (s:∀h,eV h (p+1+Ty c+1) (p+1+Ty c+1+Ty e)->cL R h (p+1+Ty c+1) e 0 (Ty P) Ub 0 v1 Ub) (F:Ty P<=v1):
 cL R L p (aO.begin l P::c++[.skip (p+1+Ty c+1+Ty e+1)]++e++[aO.jump p]) 0 (Ty P) Ub 0 (Ty P) Ub:=by
 generalize t:p+1+Ty c+1+Ty e+1=q at*;have k:p+Ty (aO.begin l P::c++[aO.skip q]++e++[aO.jump p])=q:=G_
 refine cL.close (q:=p) (y:=⟨0,Ty P,Ub,Ud⟩) (cL.close (q:=q) (y:=⟨0,Ty P,Ub,Uc⟩) ?_ aD aD) aD aD;have v:eV (gU L p ⟨0,Ty P,Ub,Ud⟩) (p+1) q:=(by grind [gU.ok])
 have d:eV (gU (gU L p ⟨0,Ty P,Ub,Ud⟩) q ⟨0,Ty P,Ub,Uc⟩) (p+1) (q-1):=(by grind [gU.ok])
 have A:=cL.q_ (ar:=R) (l:=l) (p:=p) (e_:=P) d.uniq (λy b=>by
  rcases b with (b|⟨_,rfl⟩)|⟨b,_⟩
  .exact eu b (m.none aD aD y)
  .rfl
  exact aD) (λy b=>eu (d.out _ _ b) aD)
 have u:=A.then (c':=c) (E _ (d.sub aD aD)) λx y f=>by have:=d.out x y f;grind
 have w:p+Ty ([aO.begin l P]++c)=p+1+Ty c:=G_
 have B:=u.then (c':=[aO.skip q]) (by
  rw[w];refine cL.one (h':=0) (v':=P.length) (e':=Ua (Ty P)) d.uniq (λy b=>eu (d.out _ _ b) aD) (λy b=>eu (d.out _ _ b) aD) λT j z n o i=>?_
  have b:=i q ⟨0,Ty P,Ub,Uc⟩ (ec s_)
  exact⟨qz,G_,G_,aD,⟨ec ⟨_,ec ⟨rfl,rfl⟩⟩,G_,G_,G_⟩,oH,G_,G_,G_⟩)
  λx y f=>by have:=d.out x y f;grind
 have C:p+Ty ([aO.begin l P]++c++[aO.skip q])=p+1+Ty c+1:=G_
 have r:=B.then (c':=e) (by rw[C];exact(s _ (lj)).entry (aD)) λx y f=>by have:=d.out x y f;exact aD
 have D:p+Ty ([aO.begin l P]++c++[aO.skip q]++e)=p+1+Ty c+1+Ty e:=G_
 exact r.then (c':=[aO.jump p]) (by
  rw[D];refine cL.one d.uniq (λy b=>eu (d.out _ _ b) aD) (λy b=>?_) λT j z n o i=>?_
  .rw[show p+1+Ty c+1+Ty e+1=q from t]at b
   rcases b with (b|⟨b,_⟩)|⟨_,rfl⟩
   .exact eu b (m.none aD aD y)
   .exact aD
   simp
  .have b:=i p ⟨0,Ty P,Ub,Ud⟩ ((by grind [gU]))
   exact⟨qz,G_,G_,ec ⟨_,ed (ec ⟨rfl,rfl⟩)⟩,G_,G_,G_⟩)
  λx y f=>by have:=d.out x y f;grind
def vO(Y_:a:=by
 rw[hs]at hL ⊢
 rw[hn];simp only at hL ⊢
 obtain⟨s1,l1⟩:=sT (L:=L) (p:=p+1) (e:=Ua (Ty e_)) hv aD (lj)
 refine⟨cL.stmt hL s1 λhl=>cL.last hl aJ aD λD T t0 d1 t1 t2 t3 tp=>⟨by rw[t0];rfl,tp,?_⟩,trivial,_,rfl⟩
 grind [fO]):a:=Y_
def pK(g:List aC):∀d,ZE g d
 |0,_,_,_,_,h,_=>h.elim
 |d+1,e_,a,L,p,G,hL=>by
  have F:=pK g d;rcases G with ⟨k,B,t,v,i,hv,_⟩|⟨k,u,A,i⟩|⟨k,c,t,i,H,J⟩|⟨k,c,b,i,H,B⟩|⟨k,i|⟨v,i,hv⟩⟩|⟨k,v,i,hv⟩|⟨k,v,i,hv⟩
  .have hs:aU g (d+1) e_ a p=(aO.begin a.l_ e_::aG g e_ d v (p+1)++[aO.declare (Ty e_)],t.x_::e_):=by rw[aU];grind
   have hn:cR e_ a=t.x_::e_:=by grind [cR]
   exact vO
  .have hs:aU g (d+1) e_ a p=(aO.begin a.l_ e_::bB (aG g e_ d) a.y_ (p+1)++[aO.assign (dQ e_ a.x_) (Ty a.y_-1)],e_):=by rw[aU];simp[k]
   have hn:cR e_ a=e_:=by grind [cR]
   rw[hs]at hL ⊢
   rw[hn];simp only at hL ⊢
   obtain⟨s1,l1⟩:=wI (uJ g Uc e_ d) a.y_ L (p+1) 0 (Ty e_) (Ua (Ty e_)) i (aD) aD (lj)
   rw[h9]at s1;have z:0<Ty a.y_:=(by grind)
   refine⟨cL.stmt hL s1 λhl=>cL.last hl aJ aD λD T t0 d1 t1 t2 t3 tp=>⟨by rw[t0];rfl,tp,?_⟩,trivial,_,rfl⟩
   rw[t0];refine⟨?_,qK u,d1,?_,G_,ed t3⟩
   .grind
   grind
  .have hn:cR e_ a=e_:=by grind [cR]
   rw[hn]
   obtain⟨o,hs,w⟩:∃o,aU g (d+1) e_ a p=(aO.begin a.l_ e_::aG g e_ d c (p+1)++[aO.skip (p+1+Ty (aG g e_ d c (p+1))+1+Ty (bK (aU g d) e_ t.y_ (p+1+Ty (aG g e_ d c (p+1))+1))+1)]++bK (aU g d) e_ t.y_ (p+1+Ty (aG g e_ d c (p+1))+1)++
    [aO.jump (p+1+Ty (aG g e_ d c (p+1))+1+Ty (bK (aU g d) e_ t.y_ (p+1+Ty (aG g e_ d c (p+1))+1))+1+Ty o)]++o,e_)/\
    ∃m,Ty e_<=m/\∀l,eV l (p+1+Ty (aG g e_ d c (p+1))+1+Ty (bK (aU g d) e_ t.y_ (p+1+Ty (aG g e_ d c (p+1))+1))+1) (p+1+Ty (aG g e_ d c (p+1))+1+Ty (bK (aU g d) e_ t.y_ (p+1+Ty (aG g e_ d c (p+1))+1))+1+Ty o)->cL (gE g) l (p+1+Ty (aG g e_ d c (p+1))+1+Ty (bK (aU g d) e_ t.y_ (p+1+Ty (aG g e_ d c (p+1))+1))+1) o 0 (Ty e_) Ub 0 m Ub:=by
    rcases i with i|⟨x,i,u⟩
    .refine⟨[],by rw[aU];grind,Ty e_,aD,λl j=>cL.nil _ _ _ _ _ _ (λq y C I=>eu (j.out q y C) aD) j.uniq⟩
    exact⟨_,by rw[aU];grind,_,pZ x.y_ e_,λl j=>qJ F x.y_ e_ l _ u j⟩
   obtain⟨m,r,w⟩:=w;rw[hs]at hL ⊢
   simp only at hL ⊢
   refine⟨cL.ifs (v1:=(fZ e_ t.y_).length) (v2:=m) ?_ ((by grind [sT])) ((by grind [qJ])) (pZ _ _) w r,trivial,_,rfl⟩
   grind
  .have hs:aU g (d+1) e_ a p=(aO.begin a.l_ e_::aG g e_ d c (p+1)++[aO.skip (p+1+Ty (aG g e_ d c (p+1))+1+Ty (bK (aU g d) e_ b.y_ (p+1+Ty (aG g e_ d c (p+1))+1))+1)]++bK (aU g d) e_ b.y_ (p+1+Ty (aG g e_ d c (p+1))+1)++[aO.jump p],e_):=by rw[aU];grind
   have hn:cR e_ a=e_:=by grind [cR]
   rw[hs]at hL ⊢
   rw[hn];simp only at hL ⊢
   refine⟨cL.Bg (v1:=(fZ e_ b.y_).length) ?_ ((by grind [sT])) ((by grind [qJ])) (pZ _ _),trivial,_,rfl⟩
   grind
  .have hs:aU g (d+1) e_ a p=(aO.begin a.l_ e_::[aO.push (bA 0)]++[aO.sg],e_):=by rw[aU];grind
   have hn:cR e_ a=e_:=by grind [cR]
   rw[hs]at hL ⊢
   rw[hn];simp only at hL ⊢
   have s:eV L (p+1) (p+2):=(by grind [eV.sub])
   refine⟨cL.stmt (n:=1) hL (cL.plain s aJ aD λD T t1 t2 f b E=>⟨b,E,G_⟩) λhl=>cL.last hl rfl aD λD T t0 d1 t1 t2 t3 tp=>⟨by rw[t0];rfl,tp,G_⟩,trivial,_,rfl⟩
  .have hs:aU g (d+1) e_ a p=(aO.begin a.l_ e_::aG g e_ d v (p+1)++[aO.sg],e_):=by rw[aU];grind
   have hn:cR e_ a=e_:=by grind [cR]
   rw[hs]at hL ⊢
   rw[hn];simp only at hL ⊢
   obtain⟨s1,l1⟩:=sT (L:=L) (p:=p+1) (e:=Ua (Ty e_)) hv aD (lj)
   exact⟨cL.stmt hL s1 λhl=>cL.last hl aJ aD λD T t0 d1 t1 t2 t3 tp=>⟨by rw[t0];rfl,tp,G_⟩,trivial,_,rfl⟩
  .have hs:aU g (d+1) e_ a p=(aO.begin a.l_ e_::aG g e_ d v (p+1)++[aO.print],e_):=by rw[aU];grind
   have hn:cR e_ a=e_:=by grind [cR]
   exact vO
  have hs:aU g (d+1) e_ a p=(aO.begin a.l_ e_::aG g e_ d v (p+1)++[aO.drop],e_):=by rw[aU];grind
  have hn:cR e_ a=e_:=by grind [cR]
  exact vO
structure gX(fs:List aC)(d:Nat)(f:aC):Prop where
 y_:∃ps b,f.y_=ps++[b]/\rp (cO fs d) (ps.map (·.x_)).reverse b.y_/\(ps.map (·.x_)).Nodup
 len:(fR fs d f).code.length<=80000
def Fv{m:List aC}{f:aC}(h:gX m O f):∃T,oM (gE m) (fR m O f).code T/\(T 0).h=0/\(T 0).v<=Ty f.y_-1/\(T 0).e=Ub/\iJ (fR m O f).code:=by
 obtain⟨⟨v,b,y,t,_⟩,C⟩:=h;have n:(fR m O f).code=bK (aU m O) (v.map (·.x_)).reverse b.y_ 0++[.push (bA 0),.sg]:=by simp[fR,y]
 have F:Ty f.y_-1=(v.map (·.x_)).reverse.length:=by simp[y]
 rw[F];generalize x:(v.map (·.x_)).reverse=e at*
 have E:=qJ (pK m O) b.y_ e (λ_ _=>False) 0 t ⟨s_,s_⟩
 have u:iJ (fR m O f).code:=by
  rw[n];cases w:b.y_ with
  |nil=>exact ec ⟨_,aJ⟩
  |cons a l=>
   rw[w]at t;obtain⟨r,M⟩:=(pK m O e a (λ_ _=>False) 0 t.1 ⟨s_,s_⟩).2.2
   grind [bK,iJ]
 generalize N:bK (aU m O) e b.y_ 0=c at*;obtain⟨T,L,H,I,J,G,B,A,D⟩:=E;rw[h9]at G B A;have s:(fR m O f).code.length=Ty c+2:=G_
 let U:Nat->gM:=λq=>if q=Ty c then ⟨0,(T q).v,Ub,Uc⟩else if q=Ty c+1 then ⟨1,(T (Ty c)).v,Ub,Uc⟩else T q
 have u0:U (Ty c)=⟨0,(T (Ty c)).v,Ub,Uc⟩:=by simp[U]
 have u1:U (Ty c+1)=⟨1,(T (Ty c)).v,Ub,Uc⟩:=by simp[U]
 have u2:∀q,q<Ty c->U q=T q:=(by grind)
 have z:(T 0).e=Ub:=G_
 have p:(U 0).h=0/\(U 0).v<=Ty e/\(U 0).e=Ub:=by grind
 refine⟨U,⟨λj i g=>?_,C⟩,p.1,p.2.1,p.2.2,u⟩
 rw[s];rw[n]at g;rcases gz j (Ty c) with o|o
 .rw[jq o]at g;have:=D j i g;simp only[h9]at this;refine this.same (T':=U) (u2 j o) (λq K=>?_) (G_)
  grind [pX]
 rw[ip o]at g;obtain⟨k,rfl⟩:∃k,j=Ty c+k:=⟨j-Ty c,aD⟩;rw[jy]at g;match k,g with
 |0,g=>
  simp at g;subst g;show iR _ _ U (Ty c) _
  exact⟨by rw[u0];rfl,G_,aD,G_,G_,G_⟩
 |1,g=>
  simp at g;subst g;exact⟨by rw[u1];rfl,G_,G_⟩
 |k+2,g=>simp at g
def nY{a:List aC}(h:∀f∈a,gX a O f):mT (gE a) (dW a O):=by
 refine⟨λk n c=>?_⟩
 unfold gE at c;cases b:a[k]? with
 |none=>grind
 |some f=>
  obtain⟨T,i,e,l,g,j⟩:=Fv (h f (jr b));grind [dW]
def uE{b:List aC}(h:∀f∈b,gX b O f)(c:gE b (dV b [109,97,105,110])=Ua 0)(a:List Int):iS (gE b) (jW b O a):=by
 obtain⟨f,T,k,i,m,j,l,g⟩:=(nY h).fn _ _ c;have e:jW b O a=⟨[]++[⟨f,0,0,[],[],[]⟩],a,[]⟩:=by unfold jW;grind
 rw[e];refine⟨sC.snoc (s_) ⟨G_,?_,s_,s_⟩ s_,G_⟩
 grind [iJ]
inductive eT:bP->Prop
 |nil:eT []
 |cons {l:bP}:bW l≠0->eT (l.drop (bW l))->eT l
theorem Gq(h:f[O]?=g[O]?):iY f O X Q=iY g O X Q:=by unfold iY;rw[h]
def sB(h:bW g≠0)(a:∀i,i<bW g->f[i]?=g[i]?):bW f=bW g:=by
 have c:=a 0 aD;unfold bW at h a ⊢
 rw[c];cases d:g[0]? with
 |none=>simp
 |some b=>
  grind [Gq]
def lB(o t:bP):Prop:=(o=[115]->Ty t<=100/\eT t)/\(o=[48]->(∀c∈t,dL c=Ud)/\Ty t<=100000)
theorem lB.no(h:g≠[115])(a:g≠[48]):lB g f:=(by grind [lB])
end Go.Proofs.YtjhbbdpfkccohaaGreatDoor.Hs
namespace Go.Proofs.YtjhbbdpfkccohaaGreatDoor
open Hs
def sW:Nat->aC->Prop
 |0,_=>True
 |d+1,a=>lB a.op a.x_/\Ty a.y_<=1000000/\∀k∈a.y_,sW d k
def jX(a:aC):Prop:=∀e,sW e a
theorem jX.tm{a k:aC}(h:jX a)(b:k∈a.y_):jX k:=λe=>(h (e+1)).2.2 k b
theorem jX.len{a:aC}(h:jX a):Ty a.y_<=1000000:=(h 1).2.1
end Go.Proofs.YtjhbbdpfkccohaaGreatDoor
namespace Go.Proofs.YtjhbbdpfkccohaaGreatDoor.Hs
variable{L:Bool}{R:List aC}{J:Nat}{y:Type}{K:aC}{g j:aE}{f:aI}{z:aO}{e:aO->Prop}{i:bJ}{b v:bP}{M:cY}
theorem vJ(h:bW v≠0):bW (v++b)=bW v:=
 sB h λ_ c=>jq ((by grind [qU]))
def zB(h:bW v≠0):bW (v.take (bW v))=bW v:=
 sB h λi a=>by grind
theorem eT.append(c:eT v)(d:eT b):eT (v++b):=by
 induction c with
 |nil=>exact d
 |@cons l f _ e=>
  refine eT.cons (by grind [vJ]) ?_
  grind [vJ,qU]
theorem eT.one{l:bP}(h:bW l≠0):eT (l.take (bW l)):=
 eT.cons (by rw[zB h];exact h) (by rw[zB h,List.drop_take];simp;exact eT.nil)
def eT.ne(h:eT v)(a:v≠[]):bW v≠0/\eT (v.drop (bW v)):=by
 cases h with
 |nil=>grind
 |cons c b=>grind
def YQ:∀(n:Nat) (l:bP),Ty l<=n->∀c∈eD l,eT c:=by
 intro n;induction n with
 |zero=>
  grind [gG]
 |succ n e=>
  intro l f c d;by_cases b:l=[]
  .grind
  by_cases a:bW l=0
  .grind [gG]
  rw[kG b a]at d;grind [eT.one]
def PL:Nat->aE->Prop
 |0,_=>True
 |d+1,v=>eT v.s/\∀x∈v.l,PL d x
structure cS(v:aE):Prop where
 all:∀d,PL d v
theorem cS.Dl(h:cS g):eT g.s:=(h.all 1).1
theorem cS.tm(h:cS g)(a:j∈g.l):cS j:=⟨λd=>(h.all (d+1)).2 j a⟩
theorem cS.mk'(a:eT g.s)(b:∀x∈g.l,cS x):cS g:=
 ⟨λd=>by
   cases d with
   |zero=>trivial
   |succ d=>grind [cS.all,PL]⟩
theorem cS.num(n:Int):cS (bA n):=.mk' .nil λx a=>by cases a
theorem cS.xd(b:Bool):cS (cG b):=.mk' .nil λx a=>by cases a
theorem cS.nil:cS aY:=.mk' .nil λx a=>by cases a
theorem cS.str(h:eT v):cS (bQ v):=(by grind [cS.mk',bQ])
theorem cS.uw{l:List aE}(h:∀x∈l,cS x):cS (bG l):=.mk' .nil h
theorem EC{l:List aE}(h:∀x∈l,cS x)(k:Nat):cS (l.getD k aY):=by grind [cS.nil]
theorem GW{l:List aE}(h:∀x∈l,cS x)(k:Nat):cS (l[k]?.getD aY):=by grind [cS.nil]
theorem G6(b:bP)(a:aE):cS (dI b a).1:=by
 unfold dI;repeat' split
 all_goals first|exact cS.num _|exact cS.xd _|exact cS.nil
theorem WN(a:bP)(x y:Int):cS (jE a x y).1:=by
 unfold jE;repeat' split
 all_goals first|exact cS.num _|exact cS.xd _|exact cS.nil
theorem LZ(c:cS g)(d:cS j):cS (gA g j).1:=by grind [gA,cS.uw,cS.tm,cS.str,eT.append,cS.Dl,cS.nil]
theorem ZX(c:bP)(d:cS g)(e:cS j):cS (dJ c g j).1:=by grind [dJ,cS.xd,cS.nil,WN,LZ]
theorem LX(a:aE):cS (dO a).1:=by
 unfold dO;repeat' split
 all_goals first|exact cS.num _|exact cS.nil
theorem RA(b:aE)(e:cS g):cS (cA g b).1:=by
 unfold cA;split
 .exact cS.nil
 split
 .exact cS.nil
 refine EC (λx d=>?_) _
 unfold kM at d;split at d
 .obtain⟨c,f,rfl⟩:=ik.1 d;exact cS.str (YQ _ _ mJ c f)
 exact e.tm d
theorem xG:∀(l:List aE) (a b:aE),cS a->cS b->cS (cI l a b).1
 |[],_,_,_,c=>c
 |i::l,a,b,e,c=>by
  unfold cI;have d:=xG l (a.l.getD i.n.toNat aY) b ((by grind [EC,cS.tm])) c
  grind [cS.nil,cS.uw,cS.tm]
theorem QT{r:aE × Nat}(h:cS r.1):cS (jG r).1:=by grind [jG,cS.nil]
def xL(f:eM):Prop:=(∀v,aO.push v∈f.code->cS v)/\∀op,aO.unary op∈f.code->op=[45]\/op=[33]
structure bU(f:aI):Prop where
 fn:xL f.fn
 g_:∀v∈f.g_,cS v
 ops:∀v∈f.ops,cS v
def iQ(m:dA):Prop:=∀f∈m.f_,bU f
def lH(si:List eM):Prop:=∀f∈si,xL f
theorem bU.last(h:bU f):cS f.last:=by grind [aI.last,cS.nil,bU.ops]
theorem bU.pop(h:bU f):bU f.pop:=⟨h.fn,h.g_,λv a=>h.ops v (List.dropLast_subset _ a)⟩
theorem bU.n_(h:bU f)(n:Nat):bU (f.n_ n):=⟨h.fn,h.g_,(by grind [bU.ops,aI.n_])⟩
theorem bU.push(h:bU f){a:aE}(b:cS a):bU (f.push a):=⟨h.fn,h.g_,(by grind [bU.ops,aI.push])⟩
theorem bU.next(h:bU f)(n:Nat):bU { f with next:=n }:=⟨h.fn,h.g_,h.ops⟩
theorem bU.many(h:bU f)(n:Nat):∀v∈f.many n,cS v:=(by grind [bU.ops,aI.many])
def wZ(h:bU f)(c:∀v,z=.push v->cS v):bU (aR z f).1:=by
 cases z<;>simp [aR]
 case begin l s=>exact⟨h.fn,h.g_,h.ops⟩
 case push v=>exact h.push (c v aJ)
 case load k=>exact h.push (GW h.g_ k)
 case declare k=>
  refine⟨h.fn,λv b=>?_,h.pop.ops⟩
  grind [bU.g_,bU.last]
 case assign k n=>
  have a:=h.pop.n_ n;split
  .refine⟨a.fn,λv b=>?_,a.ops⟩
   grind [bU.g_,QT,xG,GW,bU.last,jI]
  exact aD
 case jump t=>exact h.next t
 case skip t=>
  grind [bU.pop,bU.next]
 case rs w t=>
  grind [bU.next,bU.push,bU.pop,bU.last]
 case sk=>
  grind [bU.push,bU.pop,bU.last]
 case unary op=>
  grind [bU.push,bU.pop,G6]
 case binary op=>
  grind [bU.push,bU.pop,ZX,bU.last]
 case index=>
  grind [bU.push,bU.pop,RA,bU.last]
 case list n=>
  grind [bU.push,bU.n_,cS.uw,bU.many,jG]
 case length=>
  grind [bU.push,bU.pop,LX]
 case drop=>exact h.pop
 all_goals exact h
def JW{d:List eM}(p:lH d){b:List aI}{g:aI}{t:List Int}(h:iQ ⟨b++[f],t,M⟩)(u:f.se=Ua (z,g)):iQ (cF d z b g t M).1:=by
 have q:∀x∈b,bU x:=(by grind [iQ])
 have hf0 :=h f s_
 obtain⟨rfl,w⟩:g={ f with next:=f.next+1 }/\f.fn.code[f.next]?=Ua z:=by grind [aI.se]
 have j:bU { f with next:=f.next+1 }:=hf0.next _
 have l:∀v,z=.push v->cS v:=λv e=>hf0.fn.1 v G_
 have c:∀y,bU y->∀t M,iQ ⟨b++[y],t,M⟩:=(by grind [iQ])
 cases z
 case read=>
  cases t with
  |nil=>exact c _ j _ _
  |cons a r=>exact c _ (j.push (cS.num _)) _ _
 case call k n=>
  simp [cF];split
  .grind [bU.n_]
  intro x m;simp at m;rcases m with s|rfl|rfl
  .grind
  .exact j.n_ n
  refine⟨?_,j.many n,s_⟩
  grind [xL,lH]
 case sg=>
  grind [cF,List.dropLast_subset,bU.push,bU.last,iQ]
 case print=>
  grind [cF,bU.pop]
 all_goals exact c _ (wZ j l) _ _
inductive fB:aC->Prop
 |leaf (a:aC) (h:a.op=[48]\/a.op=[115]\/a.op=[98,111,111,108]\/a.op=[110,97,109,101]) (hk:a.y_=[]) (ht:lB a.op a.x_):fB a
 |many (a:aC) (h:a.op=[108,105,115,116]\/a.op=[99,97,108,108]) (hk:∀k∈a.y_,fB k):fB a
 |one (a l:aC) (h:a.op=[45,120]\/a.op=[33,120]) (hk:a.y_=[l]) (hl:fB l):fB a
 |two (a l r:aC) (h:a.op=[105,110,100,101,120]\/cU a.op≠9) (hk:a.y_=[l,r]) (hl:fB l) (hr:fB r):fB a
inductive kI:aC->Prop
 |var (a t v:aC) (h:a.op=[118,97,114]) (hk:a.y_=[t,v]) (hv:fB v) (ht:t.op=[116,97,114,103,101,116]/\t.y_=[]):kI a
 |set (a:aC) (h:a.op=[115,101,116]) (hn:a.y_≠[]) (hk:∀k∈a.y_,fB k):kI a
 |Ct (a c t:aC) (h:a.op=[105,102]) (hk:a.y_=[c,t]) (hc:fB c) (ht:t.op=[98,108,111,99,107]) (htk:∀k∈t.y_,kI k):kI a
 |Co (a c t x:aC) (h:a.op=[105,102]) (hk:a.y_=[c,t,x]) (hc:fB c) (ht:t.op=[98,108,111,99,107]) (htk:∀k∈t.y_,kI k) (hx:x.op=[98,108,111,99,107]) (hxk:∀k∈x.y_,kI k):kI a
 |Cs (a c t:aC) (h:a.op=[119,104,105,108,101]) (hk:a.y_=[c,t]) (hc:fB c) (ht:t.op=[98,108,111,99,107]) (htk:∀k∈t.y_,kI k):kI a
 |Ao (a:aC) (h:a.op=[114,101,116,117,114,110]) (hk:a.y_=[]):kI a
 |Ar (a v:aC) (h:a.op=[114,101,116,117,114,110]) (hk:a.y_=[v]) (hv:fB v):kI a
 |print (a v:aC) (h:a.op=[112,114,105,110,116]) (hk:a.y_=[v]) (hv:fB v):kI a
 |call (a c:aC) (h:a.op=[100,111]) (hk:a.y_=[c]) (hc:fB c) (ho:c.op=[99,97,108,108]):kI a
structure DZ(b:aC):Prop where
 op:b.op=[98,108,111,99,107]
 y_:∀k∈b.y_,kI k
structure xM(f:aC):Prop where
 y_:∃ps b,f.y_=ps++[b]/\(∀x∈ps,x.op=[112,97,114,97,109])/\DZ b/\∀x∈ps,x.y_=[]
def cN{α:Type}(P:α->Prop)(r:bS α):Prop:=∀a q,r=.ok (a,q)->P a
def cN.err{P:y->Prop}:cN P (.error J):=λa q h=>by cases h
theorem cN.bad{P:y->Prop}{b:List bH}:cN P (bad b J):=λa q h=>by cases h
def cN.rB{P:y->Prop}{a:y}(h:P a):cN P (.ok (a,J)):=(by grind [cN])
theorem cN.take{P:y->Prop}{ts:List bH}{x:bP}{r:bS y}(h:cN P r):cN P (aQ ts x r):=by
 cases r with
 |error l=>exact cN.err
 |ok b=>
  grind [aQ,cN.bad,cN]
def cN.map{c:Type}{P:y->Prop}{Q:c->Prop}{r:bS y}{f:y->c}(h:cN P r)(e:∀a,P a->Q (f a)):cN Q (bT f r):=by
 cases r with
 |error l=>exact cN.err
 |ok d=>grind [cN,bT]
theorem cN.bind{c:Type}{P:y->Prop}{Q:c->Prop}{r:bS y}{f:y->Nat->bS c}(h:cN P r)(d:∀a q,P a->cN Q (f a q)):cN Q (bL r f):=by
 cases r with
 |error l=>exact cN.err
 |ok e=>grind [cN,bL]
def iH(P:aC->Prop)(l:List aC):Prop:=∀k∈l,P k
def iH.nil{P:aC->Prop}:iH P []:=λ_ h=>by cases h
def iH.snoc{P:aC->Prop}(h:iH P R)(b:P K):iH P (R++[K]):=(by grind [iH])
section
variable {ts:List bH} {E:Nat->bS aC}
def xK(ts:List bH):Prop:=∀p,lB [UInt8.ofNat (aS ts p).c_] (aS ts p).x_
theorem wP(c:∀q,cN fB (E q)):∀(g p:Nat) (b:List aC),iH fB b->cN (iH fB) (fM E ts g p b)
 |0,p,b,_=>cN.err
 |g+1,p,b,f=>by
  rw[fM];cases h:E p with
  |error l=>exact cN.err
  |ok d=>
   obtain⟨a,q⟩:=d;have e:=c p a q h;simp;split
   .exact wP c g (q+1) _ (f.snoc e)
   grind [cN,iH]
def wO(a:∀q,cN fB (E q))(p:Nat)(x y:bP):cN (iH fB) (fU E ts p x y):=by grind [fU,cN.take,gK,wP,cN.bad,cN,iH]
theorem LQ(b:xK ts)(c:∀q,cN fB (E q))(p:Nat):cN fB (eJ E ts p):=by
 unfold eJ;split
 .rename_i h;simp at h;rcases h with h|h
  .exact cN.rB (.leaf _ (ed (by rw[h];rfl)) rfl (b p))
  exact cN.rB (.leaf _ (ec (ed (by rw[h];rfl))) rfl (b p))
 split
 .exact cN.rB (.leaf _ ((by grind [aV])) rfl ((by grind [aV,lB])))
 split
 .exact(c (p+1)).take
 split
 .exact cN.map (wO c p _ _) λa h=>.many _ (ed aJ) h
 split
 .split
  .exact cN.map (wO c (p+1) _ _) λa h=>.many _ (ec aJ) h
  exact cN.rB (.leaf _ ((by grind [aV])) rfl ((by grind [aV,lB])))
 exact cN.bad
theorem EP(b:∀q,cN fB (E q)):∀(g:Nat) (n:aC) (p:Nat),fB n->cN fB (eS E ts g n p)
 |0,n,p,_=>cN.err
 |g+1,n,p,a=>by
  rw[eS];split
  .have c:=(b (p+1)).take (ts:=ts) (x:=[93]);cases d:aQ ts [93] (E (p+1))with
   |error l=>grind
   |ok e=>
    obtain⟨i,q⟩:=e;exact EP b g _ q (.two _ n i (ed aJ) aJ a (c i q d))
  exact cN.rB a
def wM(b:xK ts)(c:∀q,cN fB (E q)):∀(g p:Nat),cN fB (iC E ts g p)
 |0,p=>cN.err
 |g+1,p=>by
  rw[iC];split
  .exact cN.map (wM b c g (p+1)) λa h=>.one _ a (ed aJ) aJ h
  split
  .exact cN.map (wM b c g (p+1)) λa h=>.one _ a (ec aJ) aJ h
  grind [cN.bind,LQ,EP]
def vC{L:Nat->bS aC}{k:Nat}(a:k<9)(c:∀q,cN fB (L q)):∀(g:Nat) (n:aC) (q:Nat),fB n->cN fB (cH L ts k g n q)
 |0,n,q,_=>cN.err
 |g+1,n,q,b=>by
  rw[cH];split
  .cases i:L (q+1)with
   |error l=>grind
   |ok f=>
    obtain⟨r,d⟩:=f;have h:=c _ r d i;have e:fB (aV (aS ts q).x_ (aS ts q).l_ [] [n,r]):=.two _ n r ((by grind [aV])) rfl b h
    simp;split
    .exact cN.rB e
    exact vC a c g _ d e
  exact cN.rB b
def wQ(b:xK ts)(c:∀q,cN fB (E q)):∀(j p:Nat),cN fB (iM E ts j p)
 |0,p=>wM b c _ p
 |j+1,p=>by exact cN.bind (wQ b c j p) λa q d=>vC aD (λq=>wQ b c j q) _ a q d
theorem IT(b:List bH)(a:xK b):∀(f p:Nat),cN fB (jP b f p)
 |0,p=>cN.err
 |f+1,p=>by exact wQ a (λq=>IT b a f q) 5 p
def yP(c:∀q,cN fB (E q)):∀(g p:Nat) (a:List aC),iH fB a->cN (iH fB) (fP E ts g p a)
 |0,p,a,_=>cN.err
 |g+1,p,a,b=>by
  rw[fP];split
  .have d:=(c (p+1)).take (ts:=ts) (x:=[93]);cases e:aQ ts [93] (E (p+1))with
   |error l=>exact cN.err
   |ok f=>
    obtain⟨i,q⟩:=f;exact yP c g q _ (b.snoc (d i q e))
  exact cN.rB b
def QG(b:∀q,cN fB (E q))(p:Nat):cN kI (fX E ts p):=by
 unfold fX;split
 .split
  .exact cN.take (cN.map (wO b (p+1) _ _) λa h=>.call _ _ aJ aJ (.many _ (ec aJ) h) aJ)
  refine cN.bind ((yP b _ (p+1) [] iH.nil).take) λl q d=>?_
  exact cN.take (cN.map (b q) λv c=>.set _ aJ (by simp[aV]) (d.snoc c))
 exact cN.bad
def E8{B:Nat->bS aC}(a:∀q,cN fB (E q))(h:∀q,cN DZ (B q))(p:Nat):cN kI (jU E B ts p):=by
 unfold jU;split
 .unfold sJ;split
  .split
   .exact cN.take (cN.map (a (p+3)) λv e=>.var _ _ v aJ aJ e ⟨aJ,aJ⟩)
   exact cN.bad
  exact cN.bad
 split
 .refine cN.bind (a (p+1)) λc q f=>cN.bind (h q) λb k g=>?_
  split
  .exact cN.map (h (k+1)) λd i=>.Co _ c b d aJ aJ f g.op g.y_ i.op i.y_
  exact cN.rB (.Ct _ c b aJ aJ f g.op g.y_)
 split
 .exact cN.bind (a (p+1)) λc q f=>cN.map (h q) λb j=>.Cs _ c b aJ aJ f j.op j.y_
 split
 .unfold pN;split
  .exact cN.rB (.Ao _ aJ aJ)
  exact cN.take (cN.map (a (p+1)) λv e=>.Ar _ v aJ aJ e)
 split
 .exact cN.take (cN.map (a (p+1)) λv e=>.print _ v aJ aJ e)
 exact QG a p
def vD{S:Nat->bS aC}(c:∀q,cN kI (S q)):∀(g p:Nat) (a:List aC),iH kI a->cN (iH kI) (eY S ts g p a)
 |0,p,a,_=>cN.err
 |g+1,p,a,b=>by
  rw[eY];split
  .exact cN.rB b
  cases d:S p with
  |error l=>exact cN.err
  |ok e=>
   obtain⟨s,q⟩:=e;exact vD c g q _ (b.snoc (c p s q d))
theorem EQ(a:∀q,cN fB (E q)):∀(f p:Nat),cN DZ (iO E ts f p)
 |0,p=>cN.err
 |f+1,p=>by
  rw[iO];split
  .exact cN.map (cN.take (vD (λq=>E8 a (λq=>EQ a f q) q) _ (p+1) [] iH.nil)) λl h=>⟨aJ,h⟩
  exact cN.bad
theorem vB:∀(g p:Nat) (a:List aC),iH (λx=>x.op=[112,97,114,97,109]/\x.y_=[]) a->cN (iH λx=>x.op=[112,97,114,97,109]/\x.y_=[]) (eB ts g p a)
 |0,p,a,_=>cN.err
 |g+1,p,a,c=>by
  have b:iH (λx=>x.op=[112,97,114,97,109]/\x.y_=[]) (a++[aV [112,97,114,97,109] (aS ts p).l_ (aS ts p).x_ []]):=c.snoc ⟨aJ,aJ⟩
  rw[eB];split
  .split
   .exact vB g (p+2) _ b
   exact cN.rB b
  exact cN.bad
theorem E9{B:Nat->bS aC}(e:∀q,cN DZ (B q))(p:Nat):cN xM (lW B ts p):=by
 unfold lW;split
 .split
  .split
   .have a:cN (iH λx=>x.op=[112,97,114,97,109]/\x.y_=[]) (kV ts (p+3)):=by grind [kV,cN.take,vB,cN,iH]
    exact cN.bind a λl q d=>cN.map (e q) λb f=>⟨l,b,aJ,λx c=>(d x c).1,f,λx c=>(d x c).2⟩
   exact cN.bad
  exact cN.bad
 exact cN.bad
def wN{F:Nat->bS aC}(c:∀q,cN xM (F q)):∀(g p:Nat) (a:List aC),iH xM a->cN (iH xM) (fK F ts g p a)
 |0,p,a,_=>cN.err
 |g+1,p,a,b=>by
  rw[fK];split
  .exact cN.rB b
  cases e:F p with
  |error l=>exact cN.err
  |ok d=>
   obtain⟨s,q⟩:=d;exact wN c g q _ (b.snoc (c p s q e))
end
def eT.split{c:UInt8}(m:c.toNat<128)(h:eT (v++c::b)):eT v/\eT b:=by
 generalize d:v++c::b=l at h;induction h generalizing v with
 |nil=>simp at d
 |cons k r o=>
  subst d;cases v with
  |nil=>
   have e:bW ([]++c::b)=1:=by simp[bW,m]
   exact⟨.nil,G_⟩
  |cons x v=>
   have p:bW (x::v++c::b)<=Ty (x::v):=by
    have s:∀i g f,128<=g->i=Ty v+1->iY (x::v++c::b) i g f=Uc:=(by grind [iY])
    grind [bW]
   have j:(x::v++c::b).drop (bW (x::v++c::b))=(x::v).drop (bW (x::v++c::b))++c::b:=G_
   obtain⟨q,n⟩:=o j.symm;refine⟨?_,n⟩;have e :=sB k λi f=>(jq aD).symm
   exact .cons aD G_
def uW:∀(f:Nat) (l:bP) (p:Nat),Ty l<=f->dU f l p=Ub->eT l
 |0,l,_,h,_=>by
  obtain rfl:l=[]:=(by grind)
  exact .nil
 |f+1,l,p,h,a=>by
  rw[dU]at a;split at a
  .obtain rfl:l=[]:=(by grind)
   exact .nil
  split at a
  .cases a
  rename_i b;exact .cons b (uW f _ _ G_ a)
def TV(f:Nat):∀(a l:bP) (g:List bH),fH f a l=.ok g->eT (a++l)->Ty (a++l)<=100000->∀t∈g,lB [UInt8.ofNat t.c_] t.x_:=by
 induction f with
 |zero=>intro a l g h;cases h
 |succ f v=>
  intro a l g h s w t d;by_cases i:Ty l=0
  .rw[qX _ _ _ i]at h;cases h;rw[ia.1 d];grind [lB]
  cases b:(cT l).ok
  .grind [fH]
  rw[yM _ _ _ i b _ rfl]at h;generalize x:(cT l).size+cJ (Ty l) (l.drop (cT l).size)=m at h;cases j:fH f (a++l.take m) (l.drop m)with
  |error n=>rw[j]at h;cases h
  |ok u=>
   rw[j]at h;cases h;rcases ff.1 d with rfl|d
   .cases l with
    |nil=>simp at i
    |cons c r=>
     rw[cT]at b ⊢
     by_cases o:(dL c || eF c)=Ud
     .rw[ef o];unfold iX;split
      .simp;split<;>exact .no d_ d_
      grind [lN,dK,lB]
     rw[ea o]at b ⊢
     by_cases k:c.toNat=34
     .rw[ef k]at b ⊢
      simp [oQ]at b;refine⟨λ_=>⟨by grind [oQ],?_⟩,λe=>by cases e⟩
      have q:r=r.take (bR iG r)++34::r.drop (bR iG r+1):=by grind [List.take_append_drop,List.drop_eq_getElem_cons]
      have p:=(s.split aD).2;rw[q]at p;exact(p.split d_).1
     rw[ea k];unfold jS;split<;>exact .no s_ s_
   have e:a++List.take m l++List.drop m l=a++l:=s_
   exact v _ _ u j G_ G_ t d
theorem LF{a:List bH}(h:gS v=.ok a)(b:dU (Ty v) v 0=Ub)(c:Ty v<=100000):xK a:=λp=>by
 unfold aS;cases d:a[p]? with
 |none=>exact .no d_ d_
 |some t=>exact TV _ _ _ _ h (by rw[kg];exact uW _ _ _ (aD) b) G_ t (G_)
def BH(h:eA v=.ok R):∀f∈R,xM f:=by
 unfold eA at h;split at h
 .cases h
 split at h
 .cases h
 split at h
 .cases h
 split at h
 .cases h
 rename_i q b;cases h;exact wN ((by grind [E9,EQ,IT,LF])) _ _ _ iH.nil _ _ b
theorem uH(s:bJ)(l k:Nat)(h:s.kind≠0):(s.found l k).kind≠0:=by grind [bJ.found]
theorem vH(s:bJ)(n:aC)(h:s.kind≠0):(oo s n).kind≠0:=by grind [oo,uH]
def WA(b:List aC)(a:Bool)(s:bJ)(n:aC)(h:s.kind≠0):(cQ b a s n).kind≠0:=by grind [cQ,gH,uH]
theorem kP{f:bJ->aC->bJ}(a:∀s k,s.kind≠0->(f s k).kind≠0):∀(l:List aC) (s:bJ),s.kind≠0->(l.foldl f s).kind≠0
 |[],_,h=>h
 |k::l,s,h=>kP a l _ (a s k h)
theorem jB(b:List aC)(a:Bool):∀(d:Nat) (n:aC) (s:bJ),s.kind≠0->(aT b a d n s).kind≠0
 |0,_,_,h=>h
 |d+1,n,s,h=>by
  rw[aT];split
  .split
   .exact jB b a d _ _ (vH s _ h)
   exact h
  have e:(n.y_.foldl (λs k=>aT b a d k s) (cQ b a s n)).kind≠0:=kP (λs k c=>jB b a d k s c) _ _ (WA b a s n h)
  grind
theorem rk.up:∀{d e:Nat} {a:aC},rk R L M d a->d<=e->rk R L M e a
 |0,_,_,h,_=>h.elim
 |d+1,0,_,_,h=>by omega
 |d+1,e+1,a,h,i=>by
  have j:∀k,rk R L M d k->rk R L M e k:=λk g=>rk.up g aD
  grind [rk]
theorem rp.up{S c:cY->aC->Prop}(h:∀s a,S s a->c s a):∀{l:List aC} {b:cY},rp S b l->rp c b l
 |[],_,_=>trivial
 |_::_,_,d=>⟨h _ _ d.1,rp.up h d.2⟩
theorem cO.up:∀{d e:Nat} {b:cY} {a:aC},cO R d b a->d<=e->cO R e b a
 |0,_,_,_,h,_=>h.elim
 |d+1,0,_,_,_,h=>by omega
 |d+1,e+1,b,a,h,g=>by
  have j:∀k,rk R Uc b d k->rk R Uc b e k:=(by grind [rk.up])
  have i:∀l,rp (cO R d) b l->rp (cO R e) b l:=λl f=>f.up λs a h=>cO.up h aD
  grind [cO]
def yT{k:Nat}(a:k≠0)(h:(i.found J k).kind=0):False:=by grind [bJ.found]
theorem uI{f:aC}{a:bP}:∀{fs:List aC},dG fs a=Ua f->fs[dV fs a]?=Ua f
 |[],h=>by simp[dG]at h
 |x::l,h=>by
  unfold dG dV at*;rw[List.find?_cons]at h;rw[List.findIdx_cons];cases b:(x.x_==a)with
  |true=>grind
  |false=>
   rw[b]at h;exact uI (fs:=l) h
def tS(fs:List aC)(a_:Bool)(d:Nat)(a:aC):Prop:=
 ∀sn,(aT fs a_ d a ⟨sn,0,0⟩).kind=0->aT fs a_ d a ⟨sn,0,0⟩=⟨sn,0,0⟩/\rk fs a_ sn.reverse d a
def nB:∀(l:List aC) (c:cY),(∀k∈l,tS R L J k)->(l.foldl (λs k=>aT R L J k s) ⟨c,0,0⟩).kind=0->
 l.foldl (λs k=>aT R L J k s) ⟨c,0,0⟩=⟨c,0,0⟩/\∀k∈l,rk R L c.reverse J k
 |[],c,_,_=>(by simp)
 |a::l,c,h,f=>by
  rw[hY]at f ⊢
  have h0 :=ib λg=>kP (λs k j=>jB R L J k s j) l _ g f
  obtain⟨i,m⟩:=h a (s_) c h0
  rw[i]at f ⊢
  obtain⟨o,n⟩:=nB l c (G_) f
  grind
def kT(e:K.op≠[118,97,114])(c:K.op≠[98,108,111,99,107]):aT R L (J+1) K i=K.y_.foldl (λi k=>aT R L J k i) (cQ R L i K):=by grind [aT]
theorem sa(d:K.op≠[115,101,116])(c:K.op≠[110,97,109,101])(e:K.op≠[99,97,108,108]):cQ R L i K=i:=by grind [cQ]
def tQ(j:∀f∈R,f.y_≠[])(p:L=Ud->R=[]):∀(d:Nat) (a:aC),fB a->fV d a->tS R L d a
 |0,_,_,h=>h.elim
 |d+1,a,H,D=>by
  intro t i
  have two:∀(l r:aC),a.y_=[l,r]->fB l->fB r->∀k∈a.y_,tS R L d k:=λl r u C G k c=>by
   have o:=D k c;rw[u]at c;rcases ff.1 c with rfl|c
   .exact tQ j p d _ C o
   obtain rfl:=ia.1 c;exact tQ j p d _ G o
  have w:a.op≠[118,97,114]/\a.op≠[98,108,111,99,107]:=by
   cases H with
   |leaf _ h=>grind
   |many _ h=>grind
   |one _ l h=>grind
   |two _ l r h=>
    grind [cU]
  rw[kT w.1 w.2]at i ⊢
  have hl0 :=ib λx=>kP (λs k J=>jB R L d k s J) a.y_ _ x i
  cases H with
  |leaf _ h u=>
   grind [cQ,rk,bJ.found]
  |many _ h u=>
   have B :=λk c=>tQ j p d k (u k c) (D k c)
   rcases h with h|h
   .rw[sa G_ G_ G_]at i ⊢
    obtain⟨y,A⟩:=nB a.y_ t B i;grind [rk]
   have e:cQ R L ⟨t,0,0⟩ a=gH R L ⟨t,0,0⟩ a:=by grind [cQ]
   rw[e]at i hl0 ⊢
   unfold gH at i hl0 ⊢
   split at hl0
   .grind [bJ.found]
   rename_i v;rw[ea v]at i ⊢
   split at hl0
   .grind [bJ.found]
   rename_i g;rw[ea g]at i ⊢
   obtain⟨y,A⟩:=nB a.y_ t B i;refine⟨y,ec (ec (ec (ec (ec (ed ⟨h,A,?_⟩)))))⟩;simp only[ne_eq,Decidable.not_not]at g;unfold gN at v g;by_cases q:a.x_=[108,101,110]
   .grind
   rw[ea qy]at v g
   by_cases F:a.x_=[114,101,97,100]/\L=Uc
   .grind
   have n:¬((a.x_==[114,101,97,100] && !L)=Ud):=by grind
   rw[ea n]at v g;cases E:dG R a.x_ with
   |none=>grind
   |some f=>
    rw[E]at v g;simp only at v g;have hmem :=js E;have x:=j f hmem;have hpos :=aD
    have z:L=Uc:=by grind
    refine ec (ec ⟨q,G_,z,?_⟩)
    unfold gE;rw[uI E];grind
  |one _ l h u C=>
   have B:∀k∈a.y_,tS R L d k:=λk c=>by have o:=D k c;rw[u]at c;obtain rfl:=ia.1 c;exact tQ j p d _ C o
   rw[sa od od od]at i ⊢
   obtain⟨y,A⟩:=nB a.y_ t B i;grind [rk]
  |two _ l r h u C G=>
   have I:cQ R L ⟨t,0,0⟩ a=⟨t,0,0⟩:=by grind [cQ,cU]
   rw[I]at i ⊢
   obtain⟨y,A⟩:=nB a.y_ t (G_) i
   refine⟨y,?_⟩;rcases h with h|h
   .exact ec (G_)
   exact ec (G_)
def yE(fs:List aC)(d:Nat)(a:aC):Prop:=
 ∀sn,Ty sn+cV d a<=40000->(aT fs Uc d a ⟨sn,0,0⟩).kind=0->∃sn',aT fs Uc d a ⟨sn,0,0⟩=⟨sn',0,0⟩/\sn'.reverse=cR sn.reverse a/\cO fs d sn.reverse a/\Ty sn'<=Ty sn+cV d a/\sn=sn'.take (Ty sn)
def EI:∀(l:List aC) (b:cY),(∀k∈l,yE R J k)->Ty b+(l.map (cV J)).sum<=40000->(l.foldl (λs k=>aT R Uc J k s) ⟨b,0,0⟩).kind=0->
 ∃c,l.foldl (λs k=>aT R Uc J k s) ⟨b,0,0⟩=⟨c,0,0⟩/\rp (cO R J) b.reverse l/\Ty c<=Ty b+(l.map (cV J)).sum/\b=c.take (Ty b)
 |[],b,_,_,_=>(by grind [rp])
 |a::l,b,h,j,f=>by
  rw[hY]at f ⊢
  simp at j ⊢
  have h0 :=ib λg=>kP (λs k n=>jB R Uc J k s n) l _ g f
  obtain⟨m,i,o,v,q,t⟩:=h a (s_) b aD h0
  rw[i]at f ⊢
  obtain⟨p,w,r,u,x⟩:=EI l m (G_) aD f
  grind [rp]
theorem LB{a:cY}(f:K.op=[98,108,111,99,107])(h:K.y_.foldl (λs k=>aT R Uc J k s) ⟨M,0,0⟩=⟨a,0,0⟩)(g:M=a.take (Ty M)):aT R Uc (J+1) K ⟨M,0,0⟩=⟨M,0,0⟩:=by grind [aT,cQ]
def zJ(e:K.op=[98,108,111,99,107])(h:(aT R Uc (J+1) K ⟨M,0,0⟩).kind=0):(K.y_.foldl (λs k=>aT R Uc J k s) ⟨M,0,0⟩).kind=0:=by grind [aT,cQ]
def nQ(f:K.op=[98,108,111,99,107])(g:∀k∈K.y_,yE R J k)(e:Ty M+cV (J+1) K<=40000)(h:(aT R Uc (J+1) K ⟨M,0,0⟩).kind=0):
 aT R Uc (J+1) K ⟨M,0,0⟩=⟨M,0,0⟩/\rp (cO R J) M.reverse K.y_:=by
 rw[cV]at e;obtain⟨i,m,j,n,l⟩:=EI K.y_ M g aD (zJ f h);grind [LB]
def TL{x y:aC}(c:K.y_=[x,y])(g:K.op≠[118,97,114])(f:K.op≠[98,108,111,99,107])(e:cQ R Uc i K=i):aT R Uc (J+1) K i=aT R Uc J y (aT R Uc J x i):=by grind [aT]
def Nr{x y z:aC}(c:K.y_=[x,y,z])(g:K.op≠[118,97,114])(f:K.op≠[98,108,111,99,107])(e:cQ R Uc i K=i):aT R Uc (J+1) K i=aT R Uc J z (aT R Uc J y (aT R Uc J x i)):=by grind [aT]
def MY{d:Nat}{a k:aC}(h:k∈a.y_):cV d k+1<=cV (d+1) a:=by rw[cV];exact GE
theorem NJ(F:∀f∈R,f.y_≠[]):∀(d:Nat) (a:aC),kI a->fV d a->yE R d a
 |0,_,_,h=>h.elim
 |1,a,P,H=>by
  have hno :=λk b=>H k b
  intro g S j;cases P with
  |var _ t v h b z=>exact(hno t lh).elim
  |set _ h O b=>cases C:a.y_ with|nil=>exact(O C).elim|cons x l=>exact(hno x (by rw[C];simp)).elim
  |Ct _ c t h b=>exact(hno c lh).elim
  |Co _ c t x h b=>exact(hno c lh).elim
  |Cs _ c t h b=>exact(hno c lh).elim
  |Ar _ v h b=>exact(hno v lh).elim
  |print _ v h b=>exact(hno v lh).elim
  |call _ c h b=>exact(hno c lh).elim
  |Ao _ h b=>
   have o:cQ R Uc ⟨g,0,0⟩ a=⟨g,0,0⟩:=sa km km km
   refine⟨g,by rw[kT km km,o,b];rfl,by unfold cR;rw[ea km],?_,aD,s_⟩
   exact ec (ec (ec (ec (ed ⟨h,ed b⟩))))
 |d+2,a,P,H=>by
  intro g S j;have p:∀k,k∈a.y_->fB k->tS R Uc (d+1) k:=λk b V=>tQ F (λh=>by cases h) (d+1) k V (H k b)
  have y:∀k,k∈a.y_->(∀x∈k.y_,kI x)->∀x∈k.y_,yE R d x:=λk b N x I=>NJ F d x (N x I) (H k b x I)
  have w:∀k,k∈a.y_->Ty g+cV (d+1) k<=40000:=λk b=>by have:cV (d+1) k+1<=cV (d+2) a:=MY (d:=d+1) b;exact aD
  have i:a.op≠[118,97,114]->g.reverse=cR g.reverse a:=λh=>by unfold cR;rw[ea h]
  cases P with
  |var _ t v h b z=>
   have e:aT R Uc (d+2) a ⟨g,0,0⟩={ aT R Uc (d+1) v (oo ⟨g,0,0⟩ t)with e_:=(aT R Uc (d+1) v (oo ⟨g,0,0⟩ t)).e_++[t.x_] }:=by rw[aT,ef (by simp[h]),b]
   rw[e]at j ⊢
   have hd0 :=ib λm=>jB R Uc (d+1) v _ m j
   obtain⟨J,K⟩:oo ⟨g,0,0⟩ t=⟨g,0,0⟩/\t.x_∉g:=by
    unfold oo at hd0 ⊢
    split at hd0
    .exact(yT d_ hd0).elim
    rename_i L;rw[ea L];simp at L;exact⟨aJ,L.2⟩
   rw[J]at j ⊢
   obtain⟨r,q⟩:=p v lh z g j
   rw[r];have T:cV (d+1) v+1<=cV (d+2) a:=MY (d:=d+1) (a:=a) (k:=v) lh
   refine⟨g++[t.x_],aJ,?_,ed ⟨h,kj,t,v,b,q,by simpa using K⟩,kj,s_⟩
   unfold cR;rw[ef h,b];simp
  |set _ h O b=>
   rw[kT km km]at j ⊢
   have hl0 :=ib λm=>kP (λs k N=>jB R Uc (d+1) k s N) a.y_ _ m j
   have o:cQ R Uc ⟨g,0,0⟩ a=⟨g,0,0⟩/\a.x_∈g:=by
    unfold cQ at hl0 ⊢
    rw[ef (by simp[h])]at hl0 ⊢
    split at hl0
    .rename_i A;rw[ef A];exact⟨aJ,by simpa using A⟩
    exact(yT d_ hl0).elim
   rw[o.1]at j ⊢
   obtain⟨r,q⟩:=nB a.y_ g (λk D=>p k D (b k D)) j
   exact⟨g,r,i km,ec (ed ⟨h,by simpa using o.2,O,q⟩),aD,s_⟩
  |Ct _ c t h b A B u=>
   have o:cQ R Uc ⟨g,0,0⟩ a=⟨g,0,0⟩:=sa km km km
   rw[TL b km km o]at j ⊢
   have h0 :=ib λm=>jB R Uc (d+1) t _ m j
   obtain⟨r,q⟩:=p c lh A g h0
   rw[r]at j ⊢
   obtain⟨G,E⟩:=nQ B (y t lh u) (w t lh) j
   exact⟨g,G,i km,ec (ec (ed ⟨h,c,t,ed b,q,E.up λs a h=>h.up aD⟩)),aD,s_⟩
  |Co _ c t x h b A B u I M=>
   have o:cQ R Uc ⟨g,0,0⟩ a=⟨g,0,0⟩:=sa km km km
   rw[Nr b km km o]at j ⊢
   have h00 :=ib λm=>jB R Uc (d+1) x _ m j
   have h0 :=ib λm=>jB R Uc (d+1) t _ m h00
   obtain⟨r,q⟩:=p c lh A g h0
   rw[r]at j h00 ⊢
   obtain⟨G,E⟩:=nQ B (y t lh u) (w t lh) h00
   rw[G]at j ⊢
   obtain⟨Q,U⟩:=nQ I (y x lh M) (w x lh) j
   exact⟨g,Q,i km,ec (ec (ed ⟨h,c,t,ec ⟨x,b,U.up λs a h=>h.up aD⟩,q,E.up λs a h=>h.up aD⟩)),aD,s_⟩
  |Cs _ c t h b A B u=>
   have o:cQ R Uc ⟨g,0,0⟩ a=⟨g,0,0⟩:=sa km km km
   rw[TL b km km o]at j ⊢
   have h0 :=ib λm=>jB R Uc (d+1) t _ m j
   obtain⟨r,q⟩:=p c lh A g h0
   rw[r]at j ⊢
   obtain⟨G,E⟩:=nQ B (y t lh u) (w t lh) j
   exact⟨g,G,i km,ec (ec (ec (ed ⟨h,c,t,b,q,E.up λs a h=>h.up aD⟩))),aD,s_⟩
  |Ao _ h b=>
   have o:cQ R Uc ⟨g,0,0⟩ a=⟨g,0,0⟩:=sa km km km
   refine⟨g,by rw[kT km km,o,b];rfl,i km,?_,aD,s_⟩
   exact ec (ec (ec (ec (ed ⟨h,ed b⟩))))
  |Ar _ v h b z=>
   have o:cQ R Uc ⟨g,0,0⟩ a=⟨g,0,0⟩:=sa km km km
   rw[kT km km,o,b]at j ⊢
   simp only[hY,List.foldl_nil]at j ⊢
   obtain⟨r,q⟩:=p v lh z g j
   exact⟨g,r,i km,ec (ec (ec (ec (ed ⟨h,ec ⟨v,b,q⟩⟩)))),aD,s_⟩
  |print _ v h b z=>
   have o:cQ R Uc ⟨g,0,0⟩ a=⟨g,0,0⟩:=sa km km km
   rw[kT km km,o,b]at j ⊢
   simp only[hY,List.foldl_nil]at j ⊢
   obtain⟨r,q⟩:=p v lh z g j
   exact⟨g,r,i km,ec (ec (ec (ec (ec (ed ⟨h,v,b,q⟩))))),aD,s_⟩
  |call _ v h b z=>
   have o:cQ R Uc ⟨g,0,0⟩ a=⟨g,0,0⟩:=sa km km km
   rw[kT km km,o,b]at j ⊢
   simp only[hY,List.foldl_nil]at j ⊢
   obtain⟨r,q⟩:=p v lh z g j
   exact⟨g,r,i km,ec (ec (ec (ec (ec (ec ⟨h,v,b,q⟩))))),aD,s_⟩
def kO:aC->Nat
 |⟨_,_,_,y_⟩=>1+(y_.attach.map λ⟨k,_⟩=>kO k).sum
theorem qL(a:aC):kO a=1+(a.y_.map kO).sum:=by obtain⟨e,d,c,b⟩:=a;rw[kO];simp
def EW:∀(d:Nat) (a:aC),fV d a->kO a<=cV d a
 |0,_,h=>h.elim
 |d+1,a,h=>by
  rw[qL,cV]
  have:∀l:List aC,(∀k∈l,kO k<=cV d k)->(l.map kO).sum<=(l.map (cV d)).sum:=by
   intro l;induction l with
   |nil=>simp
   |cons x l c=>
    grind
  have:=this a.y_ λk b=>EW d k (h k b)
  exact aD
def wJ{c:aC->Nat->List aO}{m:Nat}(h:∀a p,Ty (c a p)<=m*kO a):∀(l:List aC) (p:Nat),Ty (bB c l p)<=m*(l.map kO).sum
 |[],_=>by simp[bB]
 |a::l,p=>by simp [bB,ew,fm,fu,Nat.mul_add];have d:=h a p;have b:=wJ h l (p+Ty (c a p));exact aD
def uK(c:List aC)(b:cY):∀(d:Nat) (a:aC) (p:Nat),Ty (aG c b d a p)<=2*kO a
 |0,_,_=>by simp[aG]
 |d+1,a,p=>by
  have e:=wJ (m:=2) (λa p=>uK c b d a p) a.y_ p
  have h:=qL a;have f:=λl q=>uK c b d l q
  rw[aG];by_cases g:(a.op==[48])=Ud
  .grind
  grind
def wA{c:cY->aC->Nat->List aO × cY}{m:Nat}(h:∀s a p,(c s a p).1.length<=m*kO a):∀(l:List aC) (s:cY) (p:Nat),Ty (bK c s l p)<=m*(l.map kO).sum
 |[],_,_=>by simp[bK]
 |a::l,s,p=>by simp [bK,ew,fm,fu,Nat.mul_add];have d:=h s a p;have b:=wA h l (c s a p).2 (p+(c s a p).1.length);exact aD
theorem II(e:List aC):∀(d:Nat) (c:cY) (a:aC) (p:Nat),(aU e d c a p).1.length<=3*kO a
 |0,_,_,_=>by simp[aU]
 |d+1,c,a,p=>by
  have j:=qL a;have g:=λ(b:aC) q=>wA (m:=3) (λs a p=>II e d s a p) b.y_ c q
  have f:=λ(x:aC) q=>uK e c d x q
  have i:=λ(b:aC)=>qL b
  rw[aU];repeat' split
  all_goals try simp
  .grind
  .have h:=wJ (m:=2) (aD) a.y_ (p+1);exact aD
  all_goals
   grind
theorem sO(a:List aC)(d:Nat)(s:bJ)(k:aC)(h:s.kind≠0):(eQ a d s k).kind≠0:=by grind [eQ,vH,jB]
def XY(a:List aC)(d:Nat)(s:bJ)(n:aC)(first:Bool)(h:s.kind≠0):(gP a d s n first).kind≠0:=by grind [gP,kP,sO,uH]
theorem KL(c:List aC)(d:Nat):∀(a b:List aC) (s:bJ),s.kind≠0->(eW c d b a s).kind≠0
 |[],_,_,h=>h
 |n::a,b,s,h=>KL c d a (b++[n]) _ (XY c d s n _ h)
def wT:∀(c:List aC) (b:cY),(∀x∈c,x.op=[112,97,114,97,109])->(c.foldl (eQ R J) ⟨b,0,0⟩).kind=0->c.foldl (eQ R J) ⟨b,0,0⟩=⟨b++c.map (·.x_),0,0⟩/\(b.Nodup->(b++c.map (·.x_)).Nodup)
 |[],b,_,_=>by simp
 |a::l,b,h,g=>by
  rw[hY]at g ⊢
  have i:eQ R J ⟨b,0,0⟩ a={ oo ⟨b,0,0⟩ a with e_:=(oo ⟨b,0,0⟩ a).e_++[a.x_] }:=by grind [eQ]
  have n:(eQ R J ⟨b,0,0⟩ a).kind=0:=(by grind [kP,sO])
  obtain⟨f,j⟩:oo ⟨b,0,0⟩ a=⟨b,0,0⟩/\a.x_∉b:=by grind [oo,bJ.found]
  rw[i,f]at g ⊢
  obtain⟨k,m⟩:=wT l (b++[a.x_]) (G_) g
  grind
def WY(r:∀K∈R,xM K)(s:xM K)(v:fV (J+3) K)(w:∀e,cV e K<=2001)(k:(gP R (J+2) ⟨M,0,0⟩ K L).kind=0):gX R (J+2) K/\∃y,gP R (J+2) ⟨M,0,0⟩ K L=⟨y,0,0⟩:=by
 obtain⟨c,b,n,u,A,_⟩:=s.y_;have z:∀K∈R,K.y_≠[]:=λK s=>by obtain⟨c,b,n,_⟩:=(r K s).y_;rw[n];simp
 unfold gP at k ⊢
 have F:({ (if gL K.x_ || !L then bJ.found ⟨M,0,0⟩ K.l_ 6 else ⟨M,0,0⟩)with e_:=[] }:bJ).kind=0:=(by grind [kP,sO])
 have q:({ (if gL K.x_ || !L then bJ.found ⟨M,0,0⟩ K.l_ 6 else ⟨M,0,0⟩)with e_:=[] }:bJ)=⟨[],0,0⟩:=by grind [bJ.found]
 rw[q,n,List.foldl_append,hY,List.foldl_nil]at k ⊢
 have t:(c.foldl (eQ R (J+2)) ⟨[],0,0⟩).kind=0:=(by grind [sO])
 obtain⟨i,g⟩:=wT c [] u t;have g:=g List.nodup_nil;rw[ie]at i g;rw[i]at k ⊢
 have o:eQ R (J+2) ⟨c.map (·.x_),0,0⟩ b=aT R Uc (J+2) b ⟨c.map (·.x_),0,0⟩:=by grind [eQ,DZ.op]
 rw[o]at k ⊢
 have D:fV (J+2) b:=v b G_
 have j:=w (J+3);rw[cV,n]at j
 have p:∀l:List aC,Ty l<=(l.map (cV (J+2))).sum:=by
  intro l;induction l with
  |nil=>simp
  |cons x l I=>grind [cV]
 have:=p c;simp only[fw,jd,fm,gg,fu,gr]at j;obtain⟨C,E⟩:=nQ A.op ((by grind [NJ,DZ.y_,fV])) G_ k
 refine⟨⟨(by grind [rp.up,cO.up]),?_⟩,_,C⟩
 have H:=EW _ _ v;have B:=w (J+3);have G:Ty (bK (aU R (J+2)) (c.map (·.x_)).reverse b.y_ 0)<=3*(b.y_.map kO).sum:=wA (m:=3) ((by grind [II])) b.y_ (c.map (·.x_)).reverse 0
 grind [qL,fR]
theorem FM(c:∀f∈R,xM f):∀(a b:List aC) (k:cY),(∀f∈a,f∈R/\fV (J+3) f/\∀e,cV e f<=2001)->(eW R (J+2) b a ⟨k,0,0⟩).kind=0->∀f∈a,gX R (J+2) f
 |[],_,_,_,_,f,g=>by cases g
 |n::a,b,k,h,j,f,g=>by
  rw[eW]at j;have o:(gP R (J+2) ⟨k,0,0⟩ n (dG b n.x_).isNone).kind=0:=(by grind [KL])
  obtain⟨q,m,s⟩:=h n (s_)
  obtain⟨r,l,p⟩:=WY c (c n q) m s o;rw[p]at j;rcases ff.1 g with rfl|g
  .exact r
  exact FM c a (b++[n]) l (G_) j f g
def MX{e:Nat}{f:aC}:∀{l:List aC},f∈l->cV e f<=(l.map (cV e)).sum
 |x::l,h=>by
  simp [fm,fu];rcases ff.1 h with rfl|h
  .exact aD
  have:=MX (e:=e) h;exact aD
def rh.mem(h:rh J R)(a:K∈R):ra J K:=λe=>⟨eo (MX a) (h e).1,(h e).2 K a⟩
def QF(b:eA v=.ok R)(c:dR v=(0,0)):(∀f∈R,gX R 2001 f)/\gE R (dV R [109,97,105,110])=Ua 0:=by
 unfold dR at c;unfold lE at c;have h:=BH b;have g:=mX b;have d:∀f∈R,ra 2001 f:=λf e=>g.mem e
 grind [FM,qD,gE,uI,ra]
def rh.len(h:rh J R):Ty R<=J:=by
 have b:=(h 1).1
 have:∀R:List aC,Ty R<=(R.map (cV 1)).sum:=by
  intro R;induction R with
  |nil=>simp
  |cons x R a=>grind [cV]
 grind
def ra.y_{m:Nat}(h:ra m K):rh m K.y_:=λe=>by have b:=(h (e+1)).1;simp [cV]at b;exact⟨aD,(h (e+1)).2.2⟩
def EY(h:K.op≠[115])(c:K.op≠[48])(b:K.y_=[]):∀d,sW d K
 |0=>trivial
 |d+1=>(by grind [lB.no,sW])
theorem mY(f:J<=1000000):∀(d:Nat) (a:aC),ra J a->fB a->sW d a
 |0,_,_,_=>trivial
 |d+1,a,g,i=>by
  refine⟨?_,eo g.y_.len f,λk c=>mY f d k (g.y_.mem c) ?_⟩
  .cases i with
   |leaf _ h c j=>exact j
   |many _ h c=>grind [lB]
   |one _ l h c e=>grind [lB]
   |two _ l r h c e n=>exact .no ((by grind [cU])) (by grind [cU])
  cases i with
  |leaf _ h b j=>grind
  |many _ h b=>grind
  |one _ l h b e=>grind
  |two _ l r h b e n=>
   grind
def OD(j:J<=1000000):∀(d:Nat),(∀a,ra J a->kI a->sW d a)/\∀t,ra J t->t.op=[98,108,111,99,107]->(∀k∈t.y_,kI k)->sW d t
 |0=>(by grind [sW])
 |d+1=>by
  obtain⟨p,u⟩:=OD j d;refine⟨λa g n=>⟨?_,eo g.y_.len j,λk e=>?_⟩,λt g q e=>⟨?_,eo g.y_.len j,λk b=>p k (g.y_.mem b) (e k b)⟩⟩
  .cases n<;>rename_i h _<;>exact .no (by simp_all) (by simp_all)
  .have s:=g.y_.mem e;cases n with
   |var _ t v h b o i=>
    rw[b]at e;rcases ff.1 e with rfl|e
    .exact EY G_ G_ i.2 d
    grind [mY]
   |set _ h y b=>grind [mY]
   |Ct _ c t h b l i f=>
    grind [mY]
   |Co _ c t x h b l i f w r=>
    grind [mY]
   |Cs _ c t h b l i f=>
    grind [mY]
   |Ao _ h b=>grind
   |Ar _ v h b o=>grind [mY]
   |print _ v h b o=>grind [mY]
   |call _ c h b l q=>grind [mY]
  grind [lB]
def LW(c:eA v=.ok R):∀f∈R,∀k∈f.y_,jX k:=λf g k a d=>by
 have hfk :=((mX c).mem g).y_.mem a;obtain⟨m,b,e,n,h,j⟩:=(BH c f g).y_;rw[e]at a;rcases fo.1 a with a|a
 .exact EY G_ G_ (j k a) d
 obtain rfl:=ia.1 a;exact(OD aD d).2 _ hfk h.op h.y_
def jY(i:aO):Prop:=(∀v,i=.push v->cS v)/\∀op,i=.unary op->op=[45]\/op=[33]
def wK{c:aC->Nat->List aO}:∀(l:List aC) (p:Nat),(∀a∈l,∀q,∀i∈c a q,e i)->∀i∈bB c l p,e i
 |[],_,_,i,b=>by cases b
 |a::l,p,h,i,b=>by
  rcases fo.1 b with b|b
  .grind
  exact wK l _ (G_) i b
def kW{c:Prop}[Decidable c]{l m:List aO}(b:c->∀i∈l,e i)(a:∀i∈m,e i):∀i∈(if c then l else m),e i:=by grind
def wH{l:List aO}(b:∀i∈l,e i)(a:e z):∀i∈l++[z],e i:=(by grind)
def rY(f:List aC)(b:cY):∀(d:Nat) (a:aC) (p:Nat),jX a->∀i∈aG f b d a p,jY i
 |0,_,_,_=>λi c=>by cases c
 |d+1,a,p,g=>by
  have j:∀i∈bB (aG f b d) a.y_ p,jY i:=wK _ _ λk j q=>rY f b d k q (g.tm j)
  have n:∀x:aO,(∀v,x≠.push v)->(∀m,x≠.unary m)->jY x:=(by grind [jY])
  have hs :=λh=>((g 1).1.1 h).2
  refine kW ((by grind [cS.num,jY])) ?_
  refine kW ((by grind [cS.str,jY])) ?_
  refine kW ((by grind [cS.xd,jY])) ?_
  refine kW (G_) ?_
  refine kW (G_) ?_
  refine kW (G_) ?_
  refine kW ((by grind [jY])) ?_
  refine kW ((by grind [jY])) ?_
  refine kW (λ_=>wH j ?_) ?_
  .grind
  refine kW (λ_=>?_) (G_)
  split
  .rename_i l r e;refine wH (λi c=>?_) (G_)
   rcases fo.1 c with c|c
   .exact wH (rY f b d l _ (g.tm G_)) (G_) i c
   exact rY f b d r _ (g.tm G_) i c
  simp
def wC{c:cY->aC->Nat->List aO × cY}:∀(l:List aC) (b:cY) (p:Nat),(∀a∈l,∀s q,∀i∈(c s a q).1,e i)->∀i∈bK c b l p,e i
 |[],_,_,_,i,d=>by cases d
 |a::l,b,p,h,i,d=>by
  rcases fo.1 d with d|d
  .grind
  exact wC l _ _ (G_) i d
def UD(e:List aC):∀(d:Nat) (b:cY) (a:aC) (p:Nat),jX a->∀i∈(aU e d b a p).1,jY i
 |0,_,_,_,_,i,c=>by cases c
 |d+1,b,a,p,g,i,c=>by
  have j:∀{k:aC} {q:Nat},k∈a.y_->i∈aG e b d k q->jY i:=λf h=>rY e b d _ _ (g.tm f) i h
  have m:∀{k:aC} {q:Nat},k∈a.y_->i∈bK (aU e d) b k.y_ q->jY i:=λf h=>wC _ _ _ (λx j s q=>UD e d s x q ((g.tm f).tm j)) i h
  have n:∀{x:aO},(∀v,x≠.push v)->(∀l,x≠.unary l)->i=x->jY i:=(by grind [jY])
  rw[aU]at c;split at c
  .grind
  split at c
  .simp at c;rcases c with h|h|h
   .grind
   .exact wK _ _ (λk f q=>rY e b d k q (g.tm f)) i h
   grind
  grind [cS.num,jY]
def A8(h:∀f∈R,∀k∈f.y_,jX k):lH (dW R J):=λg n=>by
 obtain⟨f,l,rfl⟩:=ik.1 n
 have e:∀i∈(fR R J f).code,jY i:=λi a=>by
  simp [fR,jf]at a;rcases a with a|rfl|rfl
  .cases j:f.y_.getLast? with
   |none=>rw[j]at a;cases a
   |some b=>
    rw[j]at a;exact wC _ _ _ (λk m s q=>UD R J s k q ((h f l b (G_)).tm m)) i a
  .grind [cS.num,jY]
  grind [jY]
 grind [xL,jY]
