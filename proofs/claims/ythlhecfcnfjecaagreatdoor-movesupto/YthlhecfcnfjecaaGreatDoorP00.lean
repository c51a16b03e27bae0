import Derived.Test.YthlhecfcnfjecaaGreatDoorB01
set_option linter.all false
set_option maxHeartbeats 0
set_option maxRecDepth 100000
open List renaming length->aA
open Option renaming some->Wy,none->Wz
open Bool renaming false->WD,true->W1
open Go renaming Value->Xa,World->Xb,Ending->Xc
namespace Go.Proofs.YthlhecfcnfjecaaGreatDoor
namespace Hs
end Hs
open Hs
def o_{p:Prop}(h:p:=by omega):p:=h
def s_{p:Prop}(h:p:=by simp):p:=h
def t_{p:Prop}(h:p:=by simp;omega):p:=h
def d_{p:Prop}(h:p:=by decide):p:=h
def k_{p:Prop}(h:p:=by kernel_rfl):p:=h
def r_{p:Prop}(h:p:=by rfl):p:=h
def G_{p:Prop}(h:p:=by grind):p:=h
def la{p:Prop}(h:p:=by simp;exact Z):p:=h
def lg{p:Prop}(h:p:=by unfold maxLen;exact Z):p:=h
def lh{p:Prop}(h:p:=by rw[h];decide):p:=h
def lj{p:Prop}(h:p:=by go_grown):p:=h
def ll{p:Prop}(h:p:=by go_num):p:=h
def lm{p:Prop}(h:p:=by grind[ef]):p:=h
def lq{p:Prop}(h:p:=by simp[results,results188,go_sem,k,j,l,i,A]):p:=h
def lr{p:Prop}(h:p:=by unfold maxLen;simp;exact Z):p:=h
def lu{p:Prop}(h:p:=by simp[Value.oneCell']):p:=h
def lw{p:Prop}(h:p:=by simp[go_sem]):p:=h
def ly{p:Prop}(h:p:=by simp[results,results237,go_sem]):p:=h
def me{p:Prop}(h:p:=by simp[c]):p:=h
def mf{p:Prop}(h:p:=by rw[b];simp):p:=h
def mg{p:Prop}(h:p:=by grind[eV.sub]):p:=h
def mi{p:Prop}(h:p:=by rw[b,ji];constructor<;>intro h<;>(try simp at h)<;>(try simp)<;>exact Z):p:=h
def mj{p:Prop}(h:p:=by generalize tu rr.c_=pa;generalize vp ⟨rr.c_,rr.x_,L⟩=pb;simp[results,results141,go_sem,z0,z1,z2,z3]):p:=h
def mm{p:Prop}(h:p:=by simp[Rows.movesUptoRow]):p:=h
def mn{p:Prop}(h:p:=by grind[eo,dv]):p:=h
def mr{p:Prop}(h:p:=by simp[l]):p:=h
def mw{p:Prop}(h:p:=by simp[results,results186,go_sem];rfl):p:=h
def my{p:Prop}(h:p:=by simp[results,results188,go_sem,k,j,l,i];rfl):p:=h
def mz{p:Prop}(h:p:=by simp[results,results137,go_sem,z0,z1,z2,z3]):p:=h
def nc{p:Prop}(h:p:=by simp[results,results80,go_sem,cR]):p:=h
def ng{p:Prop}(h:p:=by grind[dw]):p:=h
def nh{p:Prop}(h:p:=by simp[bF,e]):p:=h
def ni{p:Prop}(h:p:=by grind[eo,Below.vf,B0.sd,Below.size]):p:=h
def nj{p:Prop}(h:p:=by grind[dw,uf]):p:=h
def nk{p:Prop}(h:p:=by grind[vk.ok.many]):p:=h
def nl{p:Prop}(h:p:=by rw[d];rfl):p:=h
def nn{p:Prop}(h:p:=by simp[xi];exact Z):p:=h
def np{p:Prop}(h:p:=by simp[results,results261,go_sem];rfl):p:=h
def nr{p:Prop}(h:p:=by simp[GX.U]):p:=h
def ns{p:Prop}(h:p:=by grind[dw,RV.num]):p:=h
def nt{p:Prop}(h:p:=by grind[World.grownBy.block]):p:=h
def nu{p:Prop}(h:p:=by grind[Value.ownBlock]):p:=h
def ny{p:Prop}(h:p:=by grind[World.ownsRow_made]):p:=h
def nz{p:Prop}(h:p:=by simp[results,results61,go_sem,z0,z1,z2,z3]):p:=h
def oa{p:Prop}(h:p:=by grind[ej]):p:=h
def od{p:Prop}(h:p:=by simp[Value.ownBlock]):p:=h
def oe{p:Prop}(h:p:=by have:=o.sd.size;simp;exact Z):p:=h
def og{p:Prop}(h:p:=by rw[j];simp):p:=h
def oh{p:Prop}(h:p:=by grind[dw,RV.nil]):p:=h
def oi{p:Prop}(h:p:=by grind[Addr.add_lit,lY]):p:=h
def oj{p:Prop}(h:p:=by grind[dw,uf.walk]):p:=h
def om{p:Prop}(h:p:=by grind[vk.ok.uu]):p:=h
def oq{p:Prop}(h:p:=by rw[i.out];simp):p:=h
def ow{p:Prop}(h:p:=by grind[Below.vf,Below.trans,dw,Below.mono,Below.size]):p:=h
def oy{p:Prop}(h:p:=by grind[ob]):p:=h
def oz{p:Prop}(h:p:=by first|decide|exact Z):p:=h
def pd{p:Prop}(h:p:=by simp[results,results187,go_sem];rfl):p:=h
def ph{p:Prop}(h:p:=by grind[DM.sj]):p:=h
def pi{p:Prop}(h:p:=by grind[bZ.heap]):p:=h
def pj{p:Prop}(h:p:=by rcases h with h|h<;>rw[h]<;>decide):p:=h
def pk{p:Prop}(h:p:=by simp[results,results186,go_sem,a20,a21,a22,a23];rfl):p:=h
def pm{p:Prop}(h:p:=by simp[results,results65,go_sem,T,V,X,c3,c4,SV.val]):p:=h
def pp{p:Prop}(h:p:=by rw[HF,e];rfl):p:=h
def pq{p:Prop}(h:p:=by rw[m];exact RV.nil _ _ _):p:=h
def pt{p:Prop}(h:p:=by simp[results,results221,go_sem,y0,y1,y2,y3,hzl2]):p:=h
def pu{p:Prop}(h:p:=by simp[results,results110,go_sem,y0,y1,y2,y3,hzl2]):p:=h
def pw{p:Prop}(h:p:=by simp[results,results116,go_sem,M,I,J,K,L,SV.val]):p:=h
def py{p:Prop}(h:p:=by simp[results,results220,go_sem,z0,z1,z2,z3];rfl):p:=h
def pz{p:Prop}(h:p:=by simp[results,results221,go_sem,z0,z1,z2,z3];rfl):p:=h
def qa{p:Prop}(h:p:=by simp[results,results169,go_sem,y0,y1,y2,y3];rfl):p:=h
def qb{p:Prop}(h:p:=by simp[results,results187,go_sem]):p:=h
def qc{p:Prop}(h:p:=by simp[results,results108,go_sem]):p:=h
def qd{p:Prop}(h:p:=by grind[bF]):p:=h
def qe{p:Prop}(h:p:=by simp;grind):p:=h
def qf{p:Prop}(h:p:=by grind[rP.node,se.two]):p:=h
def qg{p:Prop}(h:p:=by grind[rP.node,se.one]):p:=h
def qh{p:Prop}(h:p:=by grind[aI.pop]):p:=h
def qi{p:Prop}(h:p:=by grind[LV.h_,ef,RV]):p:=h
def qj{p:Prop}(h:p:=by grind[Fr.setCell,Fr.below]):p:=h
def qk{p:Prop}(h:p:=by rw[aP (n7.trans h.i_)];rfl):p:=h
def ql{p:Prop}(h:p:=by grind[dL.apart]):p:=h
def qm{p:Prop}(h:p:=by grind[cX.er]):p:=h
def qn{p:Prop}(h:p:=by simpa using h):p:=h
def qo{p:Prop}(h:p:=by simp[q]):p:=h
def qp{p:Prop}(h:p:=by grind[sm]):p:=h
def qq{p:Prop}(h:p:=by simp[f]):p:=h
def qr{p:Prop}(h:p:=by simp[GX.U]at q⊢;exact Z):p:=h
def qs{p:Prop}(h:p:=by rw[g];exact RV.nil _ _ _):p:=h
def qt{p:Prop}(h:p:=by rw[m];exact RV.yes _ _ _):p:=h
def qu{p:Prop}(h:p:=by simp at q;exact Z):p:=h
def qv{p:Prop}(h:p:=by simp[u]):p:=h
def qw{p:Prop}(h:p:=by grind[uh.below,eo,dv]):p:=h
def qx{p:Prop}(h:p:=by simp[results,results47]):p:=h
def qy{p:Prop}(h:p:=by rw[m];exact RV.no _ _ _):p:=h
def qz{p:Prop}(h:p:=by grind[AL.at_,Nd]):p:=h
def ra{p:Prop}(h:p:=by rw[g];exact fe _ k.out):p:=h
def re{p:Prop}(h:p:=by rw[m]):p:=h
def rg{p:Prop}(h:p:=by rw[z];rfl):p:=h
def rh{p:Prop}(h:p:=by grind[aI.push]):p:=h
def ri{p:Prop}(h:p:=by grind[ed]):p:=h
def rj{p:Prop}(h:p:=by rw[HS];exact hc):p:=h
def rk{p:Prop}(h:p:=by rw[xQ];exact Z):p:=h
def rl{p:Prop}(h:p:=by rw[HP]):p:=h
def rm{p:Prop}(h:p:=by simp[h]):p:=h
def rn{p:Prop}(h:p:=by simp[gR,b];rfl):p:=h
def ro{p:Prop}(h:p:=by simp[b]):p:=h
def rp{p:Prop}(h:p:=by simp[i]):p:=h
def rq{p:Prop}(h:p:=by rw[d];exact Z):p:=h
def rt{p:Prop}(h:p:=by grind[RV.nil]):p:=h
def ru{p:Prop}(h:p:=by rw[m];rfl):p:=h
def ry{p:Prop}(h:p:=by rw[C.out]):p:=h
def rz{p:Prop}(h:p:=by simpa using d):p:=h
def rB{p:Prop}(h:p:=by simp[cF]):p:=h
def rE{p:Prop}(h:p:=by simp[o]):p:=h
def E_{a:Type}(x:a):∃y,y=x:=⟨x,rfl⟩
abbrev Y(n:Int):Xa:=.int .i64 n
abbrev aL(b i:Nat):Addr:=⟨b,i,Wz⟩
abbrev aY(b:Nat):Xa:=.pointer (Wy ⟨b,0,Wz⟩)
abbrev R_(a b:Xb):Prop:=Go.RowKit.Below a.heap.size a b
abbrev fA:Xc:=.returned (.tuple #[])
abbrev lA:Type:=Xb->Prop
def bs(l:List UInt8):ByteArray:=⟨l.toArray⟩
abbrev H_(w:Xb):Nat:=w.heap.size
abbrev eA(x:ByteArray):List UInt8:=x.data.toList
abbrev bP:Xa:=.slice Wz 0 0
abbrev bR(v:Xa):Xc:=.returned v
abbrev bQ:Type:=List UInt8
abbrev cY:Type:=List (List UInt8)
abbrev aN:Type:=Xb
abbrev aX:Type:=Xa
abbrev bL:Type:=Nat->Prop
abbrev iJ:Type:=Nat->Xa
abbrev P_(a:Option Addr)(n c:Nat):Xa:=.slice a n c
abbrev Q_(s:ByteArray):Xa:=.string s
abbrev bO(c:Array Xa)(e:TypeId):Obj:=.cells c e
abbrev dI(t:TypeId)(v:Xa):Xa:=.iface t v
abbrev eF(w:Xb)(c:Array Xa)(e:TypeId):Xb:=w.alloc (.cells c e)
abbrev dR(w:Xb)(b i:Nat)(v:Xa):Prop:=w.cell? ⟨b,i,Wz⟩=Wy v
attribute [go_sem] P_ Q_ bO dI eF H_ eA
def sa{P:Program}{f:FuncId}{a:Array Xa}{w:Xb}{v:Xc}{R:Xb->Prop}{Q:Xc->Xb->Prop}(h:Calls P f a w λe b=>e=v/\R b)(k:∀b,R b->Q v b):Calls P f a w Q:=h.mono λ_ b q=>q.1▸k b q.2
def mJ{P:Program}{f:FuncId}{a:Array Xa}{w u:Xb}{v:Xc}{Q:Xc->Xb->Prop}(h:Calls P f a w λe b=>e=v/\b=u)(k:Q v u):Calls P f a w Q:=h.mono λ_ _ q=>q.1▸q.2▸k
def Z{p:Prop}(h:p:=by first|omega|(simp only[H_,eA]at*;omega)):p:=h
def aJ.{u}{a:Sort u}{b:a}:b=b:=rfl
def SM{a:Type}{p:a->Prop}:∀b,b∈([]:List a)->p b:=λ_ h=>nomatch h
def lZ{n:Nat}:n<=n:=fh n
def LR{a:Type}{p:a->Prop}(b:a)(h:p b):p b:=h
open Go.RowKit
structure tq(L:List Nat)(w w':aN):Prop where
 os:w'.os=w.os
 tape:w'.tape=w.tape
 output:w'.output=w.output
 size:w.heap.size<=w'.heap.size
 i_:∀k,k<w.heap.size->k∉L->w'.heap[k]?=w.heap[k]?
theorem tq.below{w a:aN}(h:R_ w a)(L:List Nat):tq L w a:=⟨h.os,h.tape,h.output,h.size,λk b _=>h.block k b⟩
def tq.alloc(w:aN)(o:Obj)(L:List Nat):tq L w (w.alloc o):=(by grind[tq.below,eo,dv])
def tq.drew(w:aN)(L:List Nat):tq L w w.drew:=⟨rfl,rfl,rfl,s_,λ_ _ _=>rfl⟩
def tq.set(w:aN)(b:Nat)(v:aX):tq [b] w (w.setCell (aL b 0) v):=⟨rfl,rfl,rfl,s_,oa⟩
def tq.trans{L M:List Nat}{a b c:aN}(h:tq L a b)(k:tq M b c):tq (L++M) a c:=⟨k.os.trans h.os,k.tape.trans h.tape,k.output.trans h.output,em h.size k.size,λi e d=>by rw[fm,not_or]at d;rw[k.i_ i (eh e h.size) d.2,h.i_ i e d.1]⟩
end Go.Proofs.YthlhecfcnfjecaaGreatDoor
namespace Go.Proofs.YthlhecfcnfjecaaGreatDoor.Hs
variable{t:List Int}{E F N V W X:Nat}{R:Nat->Option Nat}{P Q:Option Nat}{a:Prop}{j y:Type}{f g:bQ}{S:cY}
def bD(l:bQ):Nat:=1+l.count 10
def tN(a b:bQ):bD (a++b)=bD a+b.count 10:=by grind[bD]
def BM(a:bQ):bD a<=aA a+1:=by grind[bD]
def KE(a:bQ)(c:UInt8):bD (a++[c])=bD a+if c=10 then 1 else 0:=by grind[bD]
def iW(l:bQ)(i lo hi:Nat):Bool:=match l[i]? with|some b=>decide (lo<=b.toNat)&&decide (b.toNat<=hi)|none=>WD
def bY(l:bQ):Nat:=match l[0]? with|none=>0|some b=>if b.toNat<128 then 1 else if 194<=b.toNat/\b.toNat<=223 then if iW l 1 128 191 then 2 else 0 else if 224<=b.toNat/\b.toNat<=239 then if iW l 1 (if b.toNat=224 then 160 else 128) (if b.toNat=237 then 159 else 191)&&iW l 2 128 191 then 3 else 0 else if 240<=b.toNat/\b.toNat<=244 then if iW l 1 (if b.toNat=240 then 144 else 128) (if b.toNat=244 then 143 else 191)&&iW l 2 128 191&&iW l 3 128 191 then 4 else 0 else 0
def dU:Nat->bQ->Nat->Option Nat|0,_,_=>Wz|f+1,l,p=>if aA l=0 then Wz else if bY l=0 then Wy p else dU f (l.drop (bY l)) (p+bY l)
def dM(c:UInt8):Bool:=decide (48<=c.toNat)&&decide (c.toNat<=57)
def eH(c:UInt8):Bool:=c.toNat==95||(decide (97<=c.toNat)&&decide (c.toNat<=122)||decide (65<=c.toNat)&&decide (c.toNat<=90))
def eG(l what:bQ):Bool:=what.isPrefixOf l
def bT(p:UInt8->Bool):bQ->Nat|[]=>0|c::r=>if p c then bT p r+1 else 0
theorem lN(p:UInt8->Bool):∀(l:bQ),∀c∈l.take (bT p l),p c=W1|[],c,h=>by simp at h|a::r,c,h=>by unfold bT at h;split at h;rename_i q;rcases ew.1 h with rfl|h;exact q;exact lN p r c h;cases h
theorem oD(p:UInt8->Bool)(l:bQ):bT p l<=aA l:=by induction l with|nil=>simp[bT]|cons c r a=>grind[bT]
def fT(b:UInt8):Bool:=b.toNat !=10
def cK:Nat->bQ->Nat|0,_=>0|f+1,l=>match l with|[]=>0|c::r=>if c.toNat=32\/c.toNat=9\/c.toNat=10 then cK f r+1 else if eG (c::r) [47,47]then bT fT (c::r)+cK f ((c::r).drop (bT fT (c::r))) else 0
def qZ:Nat:=9223372036854775807
def dS:Nat->bQ->Option Nat|n,[]=>Wy n|n,c::r=>if (qZ-(c.toNat-48))/10<n then Wz else dS (10*n+(c.toNat-48)) r
def fN:cY:=[[102,117,110,99],[118,97,114],[105,102],[101,108,115,101],[119,104,105,108,101],[114,101,116,117,114,110],[112,114,105,110,116],[116,114,117,101],[102,97,108,115,101]]
def eM:cY:=[[61,61],[33,61],[60,61],[38,38],[124,124],[40],[41],[123],[125],[91],[93],[44],[59],[61],[60],[43],[45],[42],[47],[37],[33]]
def dK(name:Bool)(b:UInt8):Bool:=dM b||name&&eH b
def iG(b:UInt8):Bool:=b.toNat !=34&&b.toNat !=10
structure bH where
 c_:Nat
 x_:bQ
 l_:Nat
structure qV where
 c_:Nat
 x_:bQ
 size:Nat
 ok:Bool
def iV(l:bQ)(name:Bool):qV:=if name then {c_:=if fN.contains (l.take (bT (dK name) l))then 107 else 110,x_:=l.take (bT (dK name) l),size:=bT (dK name) l,ok:=decide (bT (dK name) l<=16)} else {c_:=48,x_:=l.take (bT (dK name) l),size:=bT (dK name) l,ok:=(dS 0 (l.take (bT (dK name) l))).isSome}
def oN(r:bQ):qV:={c_:=115,x_:=r.take (bT iG r),size:=bT iG r+2,ok:=decide (r[bT iG r]?=Wy 34)&&decide (bT iG r<=100)}
def jS(l:bQ):qV:=match eM.find? (λo=>eG l o)with|some o=>{c_:=112,x_:=o,size:=aA o,ok:=W1}|none=>{c_:=0,x_:=[],size:=0,ok:=WD}
def cW:bQ->qV|[]=>{c_:=0,x_:=[],size:=0,ok:=WD}|c::r=>if dM c||eH c then iV (c::r) (eH c)else if c.toNat=34 then oN r else jS (c::r)
def fF:Nat->bQ->bQ->Except Nat (List bH)|0,_,_=>.error 0|f+1,pre,l=>if aA l=0 then .ok [{c_:=101,x_:=[],l_:=bD pre}] else if (cW l).ok then match fF f (pre++l.take ((cW l).size+cK (aA l) (l.drop (cW l).size))) (l.drop ((cW l).size+cK (aA l) (l.drop (cW l).size)))with|.ok ts=>.ok ({c_:=(cW l).c_,x_:=(cW l).x_,l_:=bD pre}::ts)|.error n=>.error n else .error (bD pre)
def gS(l:bQ):Except Nat (List bH):=fF (aA l+1) (l.take (cK (aA l) l)) (l.drop (cK (aA l) l))
def wE(h:eG g f=W1):aA f<=aA g:=(by grind[eG])
theorem rC(f:Nat):∀l:bQ,cK f l<=aA l:=by induction f with|zero=>simp[cK]|succ f a=>intro l;cases l with|nil=>simp[cK]|cons c r=>grind[oD,cK]
theorem LE_(f:Nat):∀(g:Nat) (l:bQ),aA l<=f->aA l<=g->cK f l=cK g l:=by induction f with|zero=>intro g l h _;obtain rfl:l=[]:=(by grind);cases g<;>rfl|succ f b=>intro g l d a;cases l with|nil=>grind|cons c r=>cases g with|zero=>simp at a|succ g=>grind[bT,fT,cK]
def LS(l:bQ)(b:Bool):(iV l b).size=bT (dK b) l:=by unfold iV;grind
theorem uA(l:bQ)(h:(cW l).ok=W1):1<=(cW l).size/\(cW l).size<=aA l:=by cases l with|nil=>simp[cW]at h|cons c r=>rw[cW]at h⊢;split;grind[oD,bT,dK,iV];split;grind[oN];unfold jS at h⊢;cases a:eM.find? (λo=>eG (c::r) o)with|none=>grind|some o=>have b:=List.find?_some a;refine⟨?_,wE b⟩;have:∀o∈eM,1<=aA o:=d_;grind
def jG(ts:List bH):Except Nat (List bH)->Except Nat (List bH)|.ok l=>.ok (ts++l)|.error n=>.error n
def wQ(x:Except Nat (List bH)):jG [] x=x:=by cases x<;>rfl
def vG(a:List bH)(t:bH)(x:Except Nat (List bH)):jG (a++[t]) x=jG a (jG [t] x):=by cases x<;>simp[jG]
def qW(f:Nat)(a l:bQ)(h:aA l=0):fF (f+1) a l=.ok [{c_:=101,x_:=[],l_:=bD a}]:=by rw[fF,ec h]
def AT(f:Nat)(a l:bQ)(h:¬(aA l)=0)(b:(cW l).ok=WD):fF (f+1) a l=.error (bD a):=by grind[fF]
def yM(f:Nat)(a l:bQ)(h:¬(aA l)=0)(c:(cW l).ok=W1)(m:Nat)(b:m=(cW l).size+cK (aA l) (l.drop (cW l).size)):fF (f+1) a l=jG [{c_:=(cW l).c_,x_:=(cW l).x_,l_:=bD a}] (fF f (a++l.take m) (l.drop m)):=by grind[fF,jG]
structure aC where
 op:bQ
 l_:Nat
 x_:bQ
 y_:List aC
def aR(ts:List bH)(p:Nat):bH:=ts[p]?.getD {c_:=101,x_:=[],l_:=0}
def cA(ts:List bH)(p:Nat)(x:bQ):Bool:=((aR ts p).c_==112||(aR ts p).c_==107)&&(aR ts p).x_==x
abbrev bU(α:Type):=Except Nat (α×Nat)
def bad{α:Type}(ts:List bH)(p:Nat):bU α:=.error (aR ts p).l_
def cU(x:bQ):Nat:=if x==[124,124]then 0 else if x==[38,38]then 1 else if x==[61,61]||(x==[33,61]||(x==[60]||x==[60,61]))then 2 else if x==[43]||x==[45]then 3 else if x==[42]||(x==[47]||x==[37])then 4 else 9
def fJ(E:Nat->bU aC)(ts:List bH):Nat->Nat->List aC->bU (List aC)|0,_,_=>.error 0|g+1,p,acc=>match E p with|.error l=>.error l|.ok (a,q)=>if cA ts q [44]then fJ E ts g (q+1) (acc++[a])else .ok (acc++[a],q)
def gL(E:Nat->bU aC)(ts:List bH)(p:Nat)(shut:bQ):bU (List aC):=if cA ts p shut then .ok ([],p)else fJ E ts (aA ts+1) p []
def aQ{α:Type}(ts:List bH)(x:bQ):bU α->bU α|.error l=>.error l|.ok (a,q)=>if cA ts q x then .ok (a,q+1)else bad ts q
def fU(E:Nat->bU aC)(ts:List bH)(p:Nat)(opens shut:bQ):bU (List aC):=if cA ts p opens then aQ ts shut (gL E ts (p+1) shut)else bad ts p
def bV{α β:Type}(f:α->β):bU α->bU β|.error l=>.error l|.ok (a,q)=>.ok (f a,q)
def bN{α β:Type}(x:bU α)(f:α->Nat->bU β):bU β:=match x with|.error l=>.error l|.ok (a,q)=>f a q
def aW(op:bQ)(l_:Nat)(x_:bQ)(y_:List aC):aC:={op:=op,l_:=l_,x_:=x_,y_:=y_}
def eJ(E:Nat->bU aC)(ts:List bH)(p:Nat):bU aC:=if (aR ts p).c_==48||(aR ts p).c_==115 then .ok (aW [UInt8.ofNat (aR ts p).c_] (aR ts p).l_ (aR ts p).x_ [],p+1) else if cA ts p [116,114,117,101]||cA ts p [102,97,108,115,101]then .ok (aW [98,111,111,108] (aR ts p).l_ (aR ts p).x_ [],p+1) else if cA ts p [40]then aQ ts [41] (E (p+1)) else if cA ts p [91]then bV (aW [108,105,115,116] (aR ts p).l_ (aR ts p).x_) (fU E ts p [91] [93]) else if (aR ts p).c_==110 then if cA ts (p+1) [40]then bV (aW [99,97,108,108] (aR ts p).l_ (aR ts p).x_) (fU E ts (p+1) [40] [41]) else .ok (aW [110,97,109,101] (aR ts p).l_ (aR ts p).x_ [],p+1) else bad ts p
def eT(E:Nat->bU aC)(ts:List bH):Nat->aC->Nat->bU aC|0,_,_=>.error 0|g+1,n,p=>if cA ts p [91]then match aQ ts [93] (E (p+1))with|.error l=>.error l|.ok (i,q)=>eT E ts g (aW [105,110,100,101,120] (aR ts p).l_ [] [n,i]) q else .ok (n,p)
def iD(E:Nat->bU aC)(ts:List bH):Nat->Nat->bU aC|0,_=>.error 0|g+1,p=>if cA ts p [45]then bV (λx=>aW [45,120] (aR ts p).l_ [] [x]) (iD E ts g (p+1)) else if cA ts p [33]then bV (λx=>aW [33,120] (aR ts p).l_ [] [x]) (iD E ts g (p+1)) else bN (eJ E ts p) (eT E ts (aA ts+1))
def cH(L:Nat->bU aC)(ts:List bH)(k:Nat):Nat->aC->Nat->bU aC|0,_,_=>.error 0|g+1,n,q=>if (aR ts q).c_==112&&cU (aR ts q).x_==k then match L (q+1)with|.error l=>.error l|.ok (r,q2)=>if k=2 then .ok (aW (aR ts q).x_ (aR ts q).l_ [] [n,r],q2)else cH L ts k g (aW (aR ts q).x_ (aR ts q).l_ [] [n,r]) q2 else .ok (n,q)
def iM(E:Nat->bU aC)(ts:List bH):Nat->Nat->bU aC|0,p=>iD E ts (aA ts+1) p|j+1,p=>bN (iM E ts j p) (cH (iM E ts j) ts (4-j) (aA ts+1))
def jQ(ts:List bH):Nat->Nat->bU aC|0,_=>.error 0|f+1,p=>iM (jQ ts f) ts 5 p
def fL(E:Nat->bU aC)(ts:List bH):Nat->Nat->List aC->bU (List aC)|0,_,_=>.error 0|g+1,p,acc=>if cA ts p [91]then match aQ ts [93] (E (p+1))with|.error l=>.error l|.ok (i,q)=>fL E ts g q (acc++[i]) else .ok (acc,p)
def fW(E:Nat->bU aC)(ts:List bH)(p:Nat):bU aC:=if (aR ts p).c_==110 then if cA ts (p+1) [40]then aQ ts [59] (bV (λl=>aW [100,111] (aR ts p).l_ (aR ts p).x_ [aW [99,97,108,108] (aR ts p).l_ (aR ts p).x_ l]) (fU E ts (p+1) [40] [41])) else bN (aQ ts [61] (fL E ts (aA ts+1) (p+1) [])) λidx q=>aQ ts [59] (bV (λv=>aW [115,101,116] (aR ts p).l_ (aR ts p).x_ (idx++[v])) (E q)) else bad ts p
def sI(E:Nat->bU aC)(ts:List bH)(p:Nat):bU aC:=if (aR ts (p+1)).c_==110 then if cA ts (p+2) [61]then aQ ts [59] (bV (λv=>aW [118,97,114] (aR ts p).l_ [] [aW [116,97,114,103,101,116] (aR ts (p+1)).l_ (aR ts (p+1)).x_ [],v]) (E (p+3))) else bad ts (p+2) else bad ts (p+1)
def AE(E B:Nat->bU aC)(ts:List bH)(p:Nat):bU aC:=bN (E (p+1)) λc q=>bN (B q) λb q2=>if cA ts q2 [101,108,115,101]then bV (λd=>aW [105,102] (aR ts p).l_ [] [c,b,d]) (B (q2+1)) else .ok (aW [105,102] (aR ts p).l_ [] [c,b],q2)
def xO(E B:Nat->bU aC)(ts:List bH)(p:Nat):bU aC:=bN (E (p+1)) λc q=>bV (λb=>aW [119,104,105,108,101] (aR ts p).l_ [] [c,b]) (B q)
def pM(E:Nat->bU aC)(ts:List bH)(p:Nat):bU aC:=if cA ts (p+1) [59]then .ok (aW [114,101,116,117,114,110] (aR ts p).l_ [] [],p+2) else aQ ts [59] (bV (λv=>aW [114,101,116,117,114,110] (aR ts p).l_ [] [v]) (E (p+1)))
def xR(E:Nat->bU aC)(ts:List bH)(p:Nat):bU aC:=aQ ts [59] (bV (λv=>aW [112,114,105,110,116] (aR ts p).l_ [] [v]) (E (p+1)))
def jU(E B:Nat->bU aC)(ts:List bH)(p:Nat):bU aC:=if cA ts p [118,97,114]then sI E ts p else if cA ts p [105,102]then AE E B ts p else if cA ts p [119,104,105,108,101]then xO E B ts p else if cA ts p [114,101,116,117,114,110]then pM E ts p else if cA ts p [112,114,105,110,116]then xR E ts p else fW E ts p
def eX(S:Nat->bU aC)(ts:List bH):Nat->Nat->List aC->bU (List aC)|0,_,_=>.error 0|g+1,p,acc=>if cA ts p [125]then .ok (acc,p) else match S p with|.error l=>.error l|.ok (s,q)=>eX S ts g q (acc++[s])
def iO(E:Nat->bU aC)(ts:List bH):Nat->Nat->bU aC|0,_=>.error 0|f+1,p=>if cA ts p [123]then bV (aW [98,108,111,99,107] (aR ts p).l_ []) (aQ ts [125] (eX (jU E (iO E ts f) ts) ts (aA ts+1) (p+1) [])) else bad ts p
def eC(ts:List bH):Nat->Nat->List aC->bU (List aC)|0,_,_=>.error 0|g+1,p,acc=>if (aR ts p).c_==110 then if cA ts (p+1) [44]then eC ts g (p+2) (acc++[aW [112,97,114,97,109] (aR ts p).l_ (aR ts p).x_ []]) else .ok (acc++[aW [112,97,114,97,109] (aR ts p).l_ (aR ts p).x_ []],p+1) else bad ts p
def kV(ts:List bH)(p:Nat):bU (List aC):=aQ ts [41] (if cA ts p [41]then .ok ([],p)else eC ts (aA ts+1) p [])
def lW(B:Nat->bU aC)(ts:List bH)(p:Nat):bU aC:=if cA ts p [102,117,110,99]then if (aR ts (p+1)).c_==110 then if cA ts (p+2) [40]then bN (kV ts (p+3)) λl q=>bV (λb=>aW [102,117,110,99] (aR ts (p+1)).l_ (aR ts (p+1)).x_ (l++[b])) (B q) else bad ts (p+2) else bad ts (p+1) else bad ts p
def fS(F:Nat->bU aC)(ts:List bH):Nat->Nat->List aC->bU (List aC)|0,_,_=>.error 0|g+1,p,acc=>if (aR ts p).c_==101 then .ok (acc,p) else match F p with|.error l=>.error l|.ok (s,q)=>fS F ts g q (acc++[s])
def lC(ts:List bH):bU (List aC):=fS (lW (iO (jQ ts (aA ts+1)) ts (aA ts+1)) ts) ts (aA ts+1) 0 []
structure bJ(ts:List bH):Prop where
 next:∀p,p<aA ts->(aR ts p).c_≠101->p+1<aA ts
 l_:∀p,p<aA ts->(aR ts p).l_≠0
structure cX{α:Type}(N p:Nat)(r:bU α):Prop where
 er:∀l,r=.error l->l≠0
 ok:∀a q,r=.ok (a,q)->p<q/\q<N
structure gW{α:Type}(N p:Nat)(r:bU α):Prop where
 er:∀l,r=.error l->l≠0
 ok:∀a q,r=.ok (a,q)->p<=q/\q<N
theorem cX.xz{r:bU y}(h:cX N X r):gW N X r:=⟨h.er,λa q e=>by have:=h.ok a q e;exact Z⟩
def cX.ne{r:bU y}(h:cX N X r):r≠.error 0:=λe=>h.er 0 e rfl
theorem gW.ne{r:bU y}(h:gW N X r):r≠.error 0:=λe=>h.er 0 e rfl
theorem cX.low{r:bU y}(h:cX N X r)(d:E<=X):cX N E r:=⟨h.er,λa q e=>by have:=h.ok a q e;exact Z⟩
theorem gW.low{r:bU y}(h:gW N X r)(d:E<X):cX N E r:=⟨h.er,λa q e=>by have:=h.ok a q e;exact Z⟩
theorem cX.tf(a:y)(h:X<E)(c:E<N):cX N X (.ok (a,E):bU y):=⟨(s_),G_⟩
theorem gW.tf(a:y)(h:X<=E)(c:E<N):gW N X (.ok (a,E):bU y):=⟨(s_),G_⟩
theorem cX.map{c:Type}{p:Nat}{r:bU y}(f:y->c)(h:cX N p r):cX N p (bV f r):=by cases r with|error l=>exact⟨(by grind[cX.er,bV]),λa q e=>by cases e⟩|ok d=>exact⟨(λl e=>by cases e),λg i e=>by cases e;exact h.ok _ _ aJ⟩
theorem bJ.zg{a:List bH}(T:bJ a){p:Nat}{x:bQ}(b:p<aA a)(h:cA a p x=W1):p+1<aA a:=by refine T.next p b λe=>?_;grind[cA]
theorem bJ.bad{b:List bH}(T:bJ b)(f:N<aA b):cX (aA b) X (bad b N:bU y):=⟨(by grind[bJ.l_,Hs.bad]),λa q e=>by cases e⟩
theorem bJ.take{ts:List bH}(T:bJ ts){p:Nat}{x:bQ}{r:bU y}(h:cX (aA ts) p r):cX (aA ts) p (aQ ts x r):=by cases r with|error l=>grind[aQ]|ok b=>grind[cX.ok,aQ,cX.tf,bJ.zg,bJ.bad]
theorem bJ.zp{b:List bH}(T:bJ b){p:Nat}{r:bU y}(h:gW (aA b) p r):cX (aA b) p (aQ b g r):=by cases r with|error l=>exact⟨(by grind[gW.er,aQ]),λa q e=>by cases e⟩|ok c=>have ⟨a,q⟩:=c;have f:=h.ok a q aJ;grind[aQ,cX.tf,bJ.zg,bJ.bad]
theorem bJ.yr{b:List bH}(T:bJ b){E:Nat->bU aC}(e:∀q,N<q->q<aA b->cX (aA b) q (E q)):∀(g p:Nat) (acc:List aC),N<p->p<aA b->aA b<=p+g->cX (aA b) p (fJ E b g p acc)|0,p,acc,_,c,f=>by omega|g+1,p,acc,h,c,f=>by have k:=e p h c;rw[fJ];cases n:E p with|error l=>exact⟨qm,s_⟩|ok i=>obtain⟨a,q⟩:=i;have j:=k.ok a q n;simp;split;rename_i m;have:=T.zg j.2 m;exact(bJ.yr T e g (q+1) (acc++[a]) Z this Z).low Z;grind[cX.tf]
def bJ.Cr{a:List bH}(T:bJ a){E:Nat->bU aC}(e:∀q,N<q->q<aA a->cX (aA a) q (E q)){p:Nat}(d:N<p)(c:p<aA a)(y:bQ):gW (aA a) p (gL E a p y):=by grind[gL,gW.tf,cX.xz,bJ.yr]
theorem bJ.Az{a:List bH}(T:bJ a){E:Nat->bU aC}{p0:Nat}(c:∀q,p0<q->q<aA a->cX (aA a) q (E q)){p:Nat}(e:p0<=p)(b:p<aA a)(x y:bQ):cX (aA a) p (fU E a p x y):=by unfold fU;split;rename_i d;have:=T.zg b d;exact(T.zp (T.Cr c (p:=p+1) Z this y)).low Z;exact T.bad b
theorem bJ.Bw{a:List bH}(T:bJ a){E:Nat->bU aC}(d:∀q,N<q->q<aA a->cX (aA a) q (E q)){p:Nat}(e:N<=p)(c:p<aA a):cX (aA a) p (eJ E a p):=by unfold eJ;split;grind[cX.tf,bJ.next];split;grind[cX.tf,bJ.zg];split;grind[bJ.zg,bJ.take,cX.low];split;grind[cX.map,bJ.Az];split;have hp:=T.next p c G_;split;exact((T.Az d (p:=p+1) Z hp _ _).low Z).map _;grind[cX.tf];exact T.bad c
theorem bJ.index{a:List bH}(T:bJ a){E:Nat->bU aC}(d:∀q,N<q->q<aA a->cX (aA a) q (E q)):∀(g:Nat) (n:aC) (p:Nat),N<=p->p<aA a->aA a<=p+g->gW (aA a) p (eT E a g n p)
 |0,n,p,_,b,e=>by omega|g+1,n,p,r,b,e=>by
  rw[eT];split;rename_i k;have h:=T.zg b k;have j:=T.take (x:=[93]) (d (p+1) Z h);cases m:aQ a [93] (E (p+1))with|error l=>exact⟨qm,s_⟩|ok o=>obtain⟨i,q⟩:=o;have f:=j.ok i q m;exact((bJ.index T d g _ q Z f.2 Z).low (by omega:p<q)).xz
  grind[gW.tf]
theorem bJ.bind{b:List bH}(_T:bJ b){r:bU y}{f:y->Nat->bU j}(h:cX (aA b) N r)(g:∀a q,N<q->q<aA b->gW (aA b) q (f a q)):cX (aA b) N (bN r f):=by cases r with|error l=>exact⟨(by grind[cX.er,bN]),λa q e=>by cases e⟩|ok i=>grind[cX.ok,gW.low,bN]
theorem bJ.unary{a:List bH}(T:bJ a){E:Nat->bU aC}{p0:Nat}(e:∀q,p0<q->q<aA a->cX (aA a) q (E q)):∀(g p:Nat),p0<=p->p<aA a->aA a<=p+g->cX (aA a) p (iD E a g p)|0,p,_,c,f=>by omega|g+1,p,h,c,f=>by rw[iD];split;rename_i d;have b:=T.zg c d;exact((bJ.unary T e g (p+1) Z b Z).low Z).map _;split;rename_i d;have b:=T.zg c d;exact((bJ.unary T e g (p+1) Z b Z).low Z).map _;grind[bJ.bind,bJ.Bw,bJ.index]
def bJ.yd{a:List bH}(T:bJ a){L:Nat->bU aC}{p0:Nat}(d:∀q,p0<=q->q<aA a->cX (aA a) q (L q)):∀(g:Nat) (n:aC) (q:Nat),p0<=q->q<aA a->aA a<=q+g->gW (aA a) q (cH L a N g n q)
 |0,n,q,_,c,f=>by omega|g+1,n,q,m,c,f=>by
  rw[cH];split;have hp:=T.next q c G_;have i:=d (q+1) Z hp;cases j:L (q+1)with|error l=>exact⟨qm,s_⟩|ok e=>obtain⟨r,b⟩:=e;have h:=i.ok r b j;simp;split;grind[gW.tf];exact((bJ.yd T d g _ b Z h.2 Z).low (by omega:q<b)).xz
  grind[gW.tf]
def bJ.level{b:List bH}(T:bJ b){E:Nat->bU aC}{p0:Nat}(f:∀q,p0<q->q<aA b->cX (aA b) q (E q)):∀(j p:Nat),p0<=p->p<aA b->cX (aA b) p (iM E b j p)|0,p,d,c=>(by grind[bJ.unary,iM])|j+1,p,d,c=>by exact T.bind (bJ.level T f j p d c) λa q g e=>T.yd (p0:=p0) (λq d c=>bJ.level T f j q d c) _ a q Z e Z
theorem bJ.expr{a:List bH}(T:bJ a):∀(f p:Nat),p<aA a->aA a<=p+f->cX (aA a) p (jQ a f p)|0,p,c,e=>by omega|f+1,p,c,e=>by exact T.level (p0:=p) (λq d b=>bJ.expr T f q b Z) 5 p (Z) c
theorem bJ.exprs{a:List bH}(T:bJ a):∀q,q<aA a->cX (aA a) q (jQ a (aA a+1) q):=(by grind[bJ.expr])
def bJ.zt{ts:List bH}(T:bJ ts){E:Nat->bU aC}(c:∀q,q<aA ts->cX (aA ts) q (E q)):∀(g p:Nat) (a:List aC),p<aA ts->aA ts<=p+g->gW (aA ts) p (fL E ts g p a)
 |0,p,a,b,d=>by omega|g+1,p,a,b,d=>by
  rw[fL];split;rename_i j;have f:=T.zg b j;have h:=T.take (x:=[93]) (c (p+1) f);cases k:aQ ts [93] (E (p+1))with|error l=>exact⟨qm,s_⟩|ok m=>obtain⟨i,q⟩:=m;have e:=h.ok i q k;exact((bJ.zt T c g q _ e.2 Z).low (by omega:p<q)).xz
  grind[gW.tf]
theorem bJ.simple{a:List bH}(T:bJ a){E:Nat->bU aC}(c:∀q,q<aA a->cX (aA a) q (E q)){p:Nat}(b:p<aA a):cX (aA a) p (fW E a p):=by unfold fW;split;have hp:=T.next p b G_;split;exact T.take (((T.Az (p0:=p) (G_) (p:=p+1) Z hp _ _).low Z).map _);exact T.bind ((T.zp (T.zt c _ (p+1) [] hp Z)).low Z) (by grind[cX.xz,bJ.take,cX.map]);exact T.bad b
def bJ.stmt{a:List bH}(T:bJ a){E B:Nat->bU aC}(d:∀q,q<aA a->cX (aA a) q (E q))(b:∀q,N<q->q<aA a->cX (aA a) q (B q))(c:N<aA a):cX (aA a) N (jU E B a N):=by unfold jU;split;grind[sI,bJ.next,bJ.take,cX.map,cX.low,bJ.bad,cA];split;grind[bJ.zg,AE,bJ.bind,cX.low,cX.xz,cX.map,gW.tf];grind[bJ.zg,xO,bJ.bind,cX.low,cX.xz,cX.map,pM,cX.tf,bJ.take,xR,bJ.simple]
def bJ.ya{b:List bH}(_T:bJ b){S:Nat->bU aC}{p0:Nat}(d:∀q,p0<q->q<aA b->cX (aA b) q (S q)):∀(g p:Nat) (a:List aC),p0<p->p<aA b->aA b<=p+g->gW (aA b) p (eX S b g p a)|0,p,a,_,c,e=>by omega|g+1,p,a,f,c,e=>by rw[eX];split;grind[gW.tf];have j:=d p f c;cases k:S p with|error l=>exact⟨qm,s_⟩|ok i=>obtain⟨s,q⟩:=i;have h:=j.ok s q k;exact((bJ.ya _T d g q _ Z h.2 Z).low (by omega:p<q)).xz
theorem bJ.block{a:List bH}(T:bJ a){E:Nat->bU aC}(e:∀q,q<aA a->cX (aA a) q (E q)):∀(f p:Nat),p<aA a->aA a<=p+f->cX (aA a) p (iO E a f p)|0,p,b,i=>by omega|f+1,p,b,i=>by rw[iO];split;rename_i k;have g:=T.zg b k;refine((T.zp (T.ya (p0:=p) (λq h d=>T.stmt e (λj l c=>bJ.block T e f j c Z) d) _ (p+1) [] Z g Z)).low Z).map _;exact T.bad b
theorem bJ.yb{b:List bH}(T:bJ b):∀(g p:Nat) (a:List aC),p<aA b->aA b<=p+g->cX (aA b) p (eC b g p a)|0,p,a,d,e=>by omega|g+1,p,a,d,e=>by rw[eC];split;have hp:=T.next p d G_;split;rename_i c;have hp2:=T.zg hp c;exact(bJ.yb T g (p+2) _ hp2 Z).low Z;grind[cX.tf];exact T.bad d
theorem bJ.func{a:List bH}(T:bJ a){B:Nat->bU aC}(b:∀q,q<aA a->cX (aA a) q (B q))(c:N<aA a):cX (aA a) N (lW B a N):=by grind[lW,bJ.next,kV,bJ.zp,gW.tf,cX.xz,bJ.yb,bJ.bind,cX.low,cX.map,bJ.bad,cA]
theorem bJ.xp{a:List bH}(_T:bJ a){F:Nat->bU aC}(d:∀q,q<aA a->cX (aA a) q (F q)):∀(g p:Nat) (b:List aC),p<aA a->aA a<=p+g->gW (aA a) p (fS F a g p b)|0,p,b,c,i=>by omega|g+1,p,b,c,i=>by rw[fS];split;grind[gW.tf];have e:=d p c;cases j:F p with|error l=>exact⟨qm,s_⟩|ok f=>obtain⟨s,q⟩:=f;have h:=e.ok s q j;exact((bJ.xp _T d g q _ h.2 Z).low (by omega:p<q)).xz
def bJ.prog{a:List bH}(T:bJ a)(h:0<aA a):lC a≠.error 0:=(by grind[gW.ne,bJ.xp,bJ.func,bJ.block,bJ.exprs,lC])
structure qN(ts:List bH):Prop where
 some_:0<aA ts
 last:(aR ts (aA ts-1)).c_=101
 l_:∀p,p<aA ts->(aR ts p).l_≠0
theorem uZ(t:bH)(a:List bH)(p:Nat):aR (t::a) (p+1)=aR a p:=by simp[aR]
def QS(f:Nat):∀(a l:bQ) (c:List bH),fF f a l=.ok c->qN c/\aA c<=f:=by induction f with|zero=>intro a l c h;cases h|succ f j=>intro a l c h;by_cases e:aA l=0;rw[qW _ _ _ e]at h;cases h;refine⟨⟨s_,rfl,λp g=>?_⟩,s_⟩;grind[bD,aR];cases i:(cW l).ok;grind[fF];rw[yM _ _ _ e i _ rfl]at h;cases d:fF f (a++l.take ((cW l).size+cK (aA l) (l.drop (cW l).size))) (l.drop ((cW l).size+cK (aA l) (l.drop (cW l).size)))with|error n=>rw[d]at h;cases h|ok b=>rw[d]at h;cases h;have ⟨h1,h2⟩:=j _ _ b d;refine⟨⟨s_,?_,λp g=>?_⟩,G_⟩;have:=h1.some_;show (aR (_::b) (aA (_::b)-1)).c_=101;rw[fg,show aA b+1-1=(aA b-1)+1 by omega,uZ];exact h1.last;cases p with|zero=>grind[bD,aR]|succ p=>grind[uZ,qN.l_]
def qN.ok{a:List bH}(h:qN a):bJ a:=⟨λp b c=>by by_cases e:p=aA a-1;grind[qN.last];exact Z,h.l_⟩
def sY{a:List bH}(h:gS g=.ok a):qN a/\aA a<=aA g+1:=QS _ _ _ _ h
def eB(l:bQ):Except (Nat×Nat) (List aC):=if 2000<aA l then .error (1,0) else match dU (aA l) l 0 with|some k=>.error (2,bD (l.take k))|none=>match gS l with|.error n=>.error (3,n)|.ok ts=>match lC ts with|.error n=>.error (4,n)|.ok (ks,_)=>.ok ks
structure bK where
 e_:cY
 kind:Nat
 l_:Nat
def bK.found(s:bK)(l_ kind:Nat):bK:=if s.kind=0 then {s with kind:=kind,l_:=l_} else s
def gM(x:bQ):Bool:=x==[108,101,110]||x==[114,101,97,100]
def oo(s:bK)(n:aC):bK:=if gM n.x_||s.e_.contains n.x_ then s.found n.l_ 6 else s
def dG(fs:List aC)(name:bQ):Option aC:=fs.find? λf=>f.x_==name
def gN(fs:List aC)(a_:Bool)(name:bQ):Int:=if name==[108,101,110]then 1 else if name==[114,101,97,100]&&!a_ then 0 else match dG fs name with|some f=>(aA f.y_:Int)-1|none=>-1
def gG(fs:List aC)(a_:Bool)(s:bK)(n:aC):bK:=if gN fs a_ n.x_<0 then s.found n.l_ 6 else if gN fs a_ n.x_≠(aA n.y_:Int)then s.found n.l_ 7 else s
def cQ(fs:List aC)(a_:Bool)(s:bK)(n:aC):bK:=if n.op==[115,101,116]||n.op==[110,97,109,101]then (if s.e_.contains n.x_ then s else s.found n.l_ 6) else if n.op==[99,97,108,108]then gG fs a_ s n else s
def aT(fs:List aC)(a_:Bool):Nat->aC->bK->bK
 |0,_,s=>s|d+1,n,s=>if n.op==[118,97,114]then match n.y_ with
 |t::v::_=>let s1:=aT fs a_ d v (oo s t);{s1 with e_:=s1.e_++[t.x_]}|_=>s else let s1:=n.y_.foldl (λs k=>aT fs a_ d k s) (cQ fs a_ s n)
 if n.op==[98,108,111,99,107]then {s1 with e_:=s1.e_.take (aA s.e_)} else s1
def cV:Nat->aC->Nat|0,_=>0|d+1,n=>1+(n.y_.map (cV d)).sum
def uX:Nat->aC->Prop|0,_=>True|d+1,n=>(n.op=[118,97,114]->2<=aA n.y_)/\∀k∈n.y_,uX d k
def rP(m:Nat)(a:aC):Prop:=∀d,cV d a<=m/\uX d a
def se(m:Nat)(l:List aC):Prop:=∀d,(l.map (cV d)).sum<=m/\∀k∈l,uX d k
def rP.le{m n:Nat}{a:aC}(h:rP m a)(b:m<=n):rP n a:=(by grind[rP])
def se.le{m n:Nat}{a:List aC}(h:se m a)(b:m<=n):se n a:=(by grind[se])
theorem se.nil:se 0 []:=(by grind[se])
def se.snoc{m:Nat}{l:List aC}{a:aC}(h:se m l)(b:rP N a):se (m+N) (l++[a]):=λd=>by grind[se,rP]
theorem se.one{a:aC}(b:rP N a):se N [a]:=λd=>by grind[List.mem_singleton,rP]
theorem se.two{a b:aC}(c:rP N a)(d:rP X b):se (N+X) [a,b]:=(se.one c).snoc d
def se.three{m:Nat}{a b c:aC}(d:rP m a)(e:rP N b)(f:rP X c):se (m+N+X) [a,b,c]:=(se.two d e).snoc f
theorem rP.node{m:Nat}{l:List aC}(h:se m l)(e:g=[118,97,114]->2<=aA l):rP (m+1) (aW g N f l):=λd=>by cases d with|zero=>grind[cV,uX]|succ d=>grind[cV,aW,uX,se]
def cE{α:Type}(P:Nat->α->Prop)(p:Nat)(r:bU α):Prop:=∀a q,r=.ok (a,q)->∃m,p+m<=q/\P m a
theorem cE.bad{P:Nat->y->Prop}{b:List bH}:cE P N (bad b X):=λa q h=>by cases h
def cE.err{P:Nat->y->Prop}:cE P N (.error X):=λa q h=>by cases h
def cE.tf{P:Nat->y->Prop}{m:Nat}{a:y}(c:N+m<=X)(h:P m a):cE P N (.ok (a,X)):=(by grind[cE])
theorem cE.take{P:Nat->y->Prop}{p:Nat}{ts:List bH}{x:bQ}{r:bU y}(h:cE P p r):cE P p (aQ ts x r):=by cases r with|error l=>exact cE.err|ok b=>grind[aQ,cE.bad,cE]
theorem cE.map{c:Type}{P:Nat->y->Prop}{Q:Nat->c->Prop}{p d k:Nat}{r:bU y}{f:y->c}(h:cE P p r)(e:d+k<=p)(g:∀m a,P m a->Q (m+k) (f a)):cE Q d (bV f r):=by cases r with|error l=>exact cE.err|ok i=>grind[cE,bV]
theorem cE.bind{P:Nat->y->Prop}{Q:Nat->j->Prop}{r:bU y}{f:y->Nat->bU j}(h:cE P N r)(e:∀m a q,P m a->N+m<=q->cE Q X (f a q)):cE Q X (bN r f):=by cases r with|error l=>exact cE.err|ok g=>grind[cE,bN]
def cE.low{P:Nat->y->Prop}{r:bU y}(h:cE P N r)(c:X<=N):cE P X r:=(by grind[cE])
section
variable {ts:List bH} {E:Nat->bU aC}
theorem vY(f:∀q,cE rP q (E q)):∀(g p:Nat) (b:List aC) (c d:Nat),se c b->d+c<=p->cE se d (fJ E ts g p b)|0,p,b,_,_,_,_=>cE.err|g+1,p,b,c,d,h,k=>by rw[fJ];cases j:E p with|error l=>exact cE.err|ok i=>obtain⟨a,q⟩:=i;obtain⟨m,n,e⟩:=f p a q j;simp;split;exact vY f g (q+1) _ (c+m) d (h.snoc e) Z;exact cE.tf (m:=c+m) Z (h.snoc e)
def vX(a:∀q,cE rP q (E q))(p:Nat)(x y:bQ):cE se (p+1) (fU E ts p x y):=by grind[fU,cE.take,gL,se.nil,vY,cE.bad,cE]
theorem pI{c b:bQ}{a:Nat}(d:c≠[118,97,114]):rP 1 (aW c a b []):=(by grind[rP.node,se.nil])
theorem MC(a:∀q,cE rP q (E q))(p:Nat):cE rP p (eJ E ts p):=by unfold eJ;split;grind[pI,cE];split;grind[pI,cE];split;grind[cE.take,cE];split;exact cE.map (k:=1) (vX a p _ _) Z (by grind[rP.node]);split;split;exact cE.map (k:=1) (vX a (p+1) _ _) Z (by grind[rP.node]);grind[pI,cE];exact cE.bad
theorem EL(c:∀q,cE rP q (E q)):∀(g:Nat) (n:aC) (p b a:Nat),rP b n->a+b<=p->cE rP a (eT E ts g n p)
 |0,n,p,_,_,_,_=>cE.err|g+1,n,p,b,a,f,e=>by
  rw[eT];split;have d:=(c (p+1)).take (ts:=ts) (x:=[93]);cases h:aQ ts [93] (E (p+1))with|error l=>exact cE.err|ok j=>obtain⟨i,q⟩:=j;obtain⟨m,o,k⟩:=d i q h;exact EL c g _ q (b+m+1) a (qf) Z
  exact cE.tf e f
def vV(a:∀q,cE rP q (E q)):∀(g p:Nat),cE rP p (iD E ts g p)|0,p=>cE.err|g+1,p=>by rw[iD];split;exact cE.map (k:=1) (vV a g (p+1)) Z qg;split;exact cE.map (k:=1) (vV a g (p+1)) Z qg;grind[cE.bind,MC,EL]
def vB{L:Nat->bU aC}{k:Nat}(d:∀q,cE rP q (L q)):∀(g:Nat) (n:aC) (q a c:Nat),rP a n->c+a<=q->cE rP c (cH L ts k g n q)
 |0,n,q,_,_,_,_=>cE.err|g+1,n,q,a,c,h,i=>by
  rw[cH];split;cases j:L (q+1)with|error l=>exact cE.err|ok f=>obtain⟨r,e⟩:=f;obtain⟨m,t,s⟩:=d _ r e j;have o:∀p b,rP (a+m+1) (aW p b [] [n,r]):=(by grind[rP.node,se.two]);simp;split;grind[cE];exact vB d g _ e (a+m+1) c (o _ _) Z
  exact cE.tf i h
def vZ(b:∀q,cE rP q (E q)):∀(j p:Nat),cE rP p (iM E ts j p)|0,p=>vV b _ p|j+1,p=>by exact cE.bind (vZ b j p) λm a q d c=>vB (λq=>vZ b j q) _ a q m p d c
theorem IT(a:List bH):∀(f p:Nat),cE rP p (jQ a f p)|0,p=>cE.err|f+1,p=>by exact vZ (λq=>IT a f q) 5 p
def yN(e:∀q,cE rP q (E q)):∀(g p:Nat) (a:List aC) (c b:Nat),se c a->b+c<=p->cE se b (fL E ts g p a)
 |0,p,a,_,_,_,_=>cE.err|g+1,p,a,c,b,d,h=>by
  rw[fL];split;have f:=(e (p+1)).take (ts:=ts) (x:=[93]);cases k:aQ ts [93] (E (p+1))with|error l=>exact cE.err|ok n=>obtain⟨i,q⟩:=n;obtain⟨m,o,j⟩:=f i q k;exact yN e g q _ (c+m) b (d.snoc j) Z
  exact cE.tf h d
def QT(a:∀q,cE rP q (E q))(p:Nat):cE rP p (fW E ts p):=by unfold fW;split;split;exact cE.take (cE.map (k:=2) (vX a (p+1) _ _) Z (by grind[rP.node,se.one,rP]));refine cE.bind ((yN a _ (p+1) [] 0 (p+1) se.nil Z).take) λm l q c b=>?_;exact cE.take (cE.map (k:=m+1) (a q) Z (by grind[rP.node,rP,se]));exact cE.bad
def E8{B:Nat->bU aC}(a:∀q,cE rP q (E q))(e:∀q,cE rP q (B q))(p:Nat):cE rP p (jU E B ts p):=by unfold jU;split;unfold sI;split;split;exact cE.take (cE.map (k:=2) (a (p+3)) Z λm v l=>rP.le (rP.node (se.two (pI s_) l) s_) Z);exact cE.bad;exact cE.bad;split;refine cE.bind (a (p+1)) λm c q g i=>cE.bind (e q) λf b n j r=>?_;split;exact cE.map (k:=m+f+1) (e (n+1)) Z λo d h=>rP.le (rP.node (se.three g j h) s_) Z;exact cE.tf (m:=m+f+1) Z (qf);split;exact cE.bind (a (p+1)) λm c q g i=>cE.map (k:=m+1) (e q) Z qf;split;unfold pM;grind[pI,cE.take,cE.map,rP.node,se.one,cE,cA,aR];split;exact cE.take (cE.map (k:=1) (a (p+1)) Z qg);exact QT a p
def vC{S:Nat->bU aC}(e:∀q,cE rP q (S q)):∀(g p:Nat) (a:List aC) (c b:Nat),se c a->b+c<=p->cE se b (eX S ts g p a)|0,p,a,_,_,_,_=>cE.err|g+1,p,a,c,b,d,f=>by rw[eX];split;exact cE.tf f d;cases i:S p with|error l=>exact cE.err|ok j=>obtain⟨s,q⟩:=j;obtain⟨m,k,h⟩:=e p s q i;exact vC e g q _ (c+m) b (d.snoc h) Z
theorem EM(a:∀q,cE rP q (E q)):∀(f p:Nat),cE rP p (iO E ts f p)|0,p=>cE.err|f+1,p=>by rw[iO];split;exact cE.map (k:=1) (cE.take (vC (λq=>E8 a (λq=>EM a f q) q) _ (p+1) [] 0 (p+1) se.nil Z)) Z (by grind[rP.node]);exact cE.bad
theorem vA:∀(g p:Nat) (a:List aC) (b c:Nat),se b a->c+b<=p->cE se c (eC ts g p a)|0,p,a,_,_,_,_=>cE.err|g+1,p,a,b,c,e,f=>by have d:se (b+1) (a++[aW [112,97,114,97,109] (aR ts p).l_ (aR ts p).x_ []]):=e.snoc (pI s_);rw[eC];split;split;exact vA g (p+2) _ (b+1) c d Z;grind[cE];exact cE.bad
theorem F1{B:Nat->bU aC}(b:∀q,cE rP q (B q))(p:Nat):cE rP p (lW B ts p):=by
 unfold lW;split;split;split;have a:cE se (p+3) (kV ts (p+3)):=by grind[kV,cE.take,se.nil,vA,cE]
 exact cE.bind a λm l q d c=>cE.map (k:=m+1) (b q) Z (by grind[rP.node,rP,se]);exact cE.bad;exact cE.bad;exact cE.bad
def vW{F:Nat->bU aC}(e:∀q,cE rP q (F q)):∀(g p:Nat) (a:List aC) (c b:Nat),se c a->b+c<=p->cE se b (fS F ts g p a)|0,p,a,_,_,_,_=>cE.err|g+1,p,a,c,b,d,f=>by rw[fS];split;exact cE.tf f d;cases j:F p with|error l=>exact cE.err|ok h=>obtain⟨s,q⟩:=h;obtain⟨m,k,i⟩:=e p s q j;exact vW e g q _ (c+m) b (d.snoc i) Z
end
def E9(a:List bH)(T:bJ a)(c:0<aA a)(b:List aC)(q:Nat)(h:lC a=.ok (b,q)):se (aA a) b:=by have ⟨m,h1,h2⟩:=vW ((by grind[F1,EM,IT])) (aA a+1) 0 [] 0 0 se.nil Z b q h;have:=(T.xp ((by grind[bJ.func,bJ.block,bJ.exprs])) _ 0 [] c Z).ok b q h;exact h2.le Z
def mX{a:List aC}(h:eB g=.ok a):se 2001 a:=by unfold eB at h;split at h;cases h;split at h;cases h;split at h;cases h;rename_i c d;have ⟨h1,h2⟩:=sY d;split at h;cases h;rename_i q b;cases h;exact(E9 c h1.ok h1.some_ _ _ b).le Z
def gC:Nat->aC->Prop|0,_=>False|d+1,n=>∀k∈n.y_,gC d k
def GP(Y_:a:=by
 have:∀l:List aC,k∈l->cV d k<=(l.map (cV d)).sum:=by intro l;induction l with|nil=>simp|cons x l ih=>grind
 grind):a:=Y_
theorem qB:∀(m:Nat) (a:aC),rP m a->gC m a
 |0,a,h=>by have:=(h 1).1;grind[cV]|m+1,a,h=>λk b=>qB m k λd=>by
  have e:=(h (d+1)).1;have c:=(h (d+1)).2.2 k b;have:cV d k<=(a.y_.map (cV d)).sum:=by exact GP
  grind[cV]
theorem qS{f g:j->y->j}:∀(l:List y) (b:j),(∀a∈l,∀b,f b a=g b a)->l.foldl f b=l.foldl g b|[],_,_=>rfl|a::l,b,h=>by rw[ij,ij,h a (s_)];exact qS l _ G_
theorem sX(c:List aC)(a:Bool):∀(d e:Nat) (n:aC) (s:bK),gC d n->d<=e->aT c a d n s=aT c a e n s|0,_,_,_,h,_=>h.elim|d+1,0,_,_,_,h=>by omega|d+1,e+1,n,s,h,f=>by rw[aT,aT];split;have b:=λk b s=>sX c a d e k s (h k b) Z;grind;rw[qS n.y_ _ λk b s=>sX c a d e k s (h k b) Z]
def eP(fs:List aC)(d:Nat)(s:bK)(k:aC):bK:=if k.op==[112,97,114,97,109]then {oo s k with e_:=(oo s k).e_++[k.x_]} else aT fs WD d k s
def gP(fs:List aC)(d:Nat)(s:bK)(n:aC)(first:Bool):bK:=n.y_.foldl (eP fs d) {(if gM n.x_||!first then s.found n.l_ 6 else s)with e_:=[]}
def eW(fs:List aC)(d:Nat):List aC->List aC->bK->bK|_,[],s=>s|pre,n::rest,s=>eW fs d (pre++[n]) rest (gP fs d s n (dG pre n.x_).isNone)
def lE(d:Nat)(ks:List aC):Nat×Nat:=match dG ks [109,97,105,110]with|none=>(5,0)|some m=>if 1<aA m.y_ then (5,0)else ((eW ks d [] ks ⟨[],0,0⟩).kind,(eW ks d [] ks ⟨[],0,0⟩).l_)
def dQ(l:bQ):Nat×Nat:=match eB l with|.error f=>f|.ok ks=>lE 2001 ks
def oP(t:bH):Prop:=t.c_=112\/(t.c_=107/\fN.contains t.x_=W1)\/t.c_=110\/(t.c_=48/\(dS 0 t.x_).isSome=W1)\/t.c_=115\/t.c_=101
def xH(ts:List bH):Prop:=∀t∈ts,oP t
theorem MA(l:bQ)(l_:Nat)(h:(cW l).ok=W1):oP {c_:=(cW l).c_,x_:=(cW l).x_,l_:=l_}:=by cases l with|nil=>simp[cW]at h|cons c r=>grind[cW,iV,jS,oP,oN]
def E1(f:Nat):∀(a l:bQ) (b:List bH),fF f a l=.ok b->xH b:=by induction f with|zero=>intro a l b h;cases h|succ f c=>grind[oP,fF,MA,xH]
def UX{a:List bH}(h:gS g=.ok a):xH a:=E1 _ _ _ _ h
theorem xH.tk{a:List bH}(h:xH a)(p:Nat)(b:p<aA a):oP (aR a p):=by grind[aR,xH]
structure aE where
 c_:Nat
 n:Int
 s:bQ
 l:List aE
def aE.ind{P:aE->Prop}(h:∀v,(∀x,x∈v.l->P x)->P v):∀v,P v|⟨a,b,c,l⟩=>h ⟨a,b,c,l⟩ λx _=>aE.ind h x
def bB(n:Int):aE:=⟨0,n,[],[]⟩
def cG(b:Bool):aE:=⟨1,if b then 1 else 0,[],[]⟩
def bS(s:bQ):aE:=⟨2,0,s,[]⟩
def bG(l:List aE):aE:=⟨3,0,[],l⟩
def aZ:aE:=⟨0,0,[],[]⟩
noncomputable def aE.fold{α:Type}(f:Nat->Int->bQ->List α->α)(v:aE):α:=aE.rec (motive_1:=λ_=>α) (motive_2:=λ_=>List α) (λa n s _ c=>f a n s c) [] (λ_ _ h t=>h::t) v
def aE.fold_eq(f:Nat->Int->bQ->List y->y)(v:aE):v.fold f=f v.c_ v.n v.s (v.l.map (aE.fold f)):=by have ⟨a,n,s,l⟩:=v;apply fe (f a n s);induction l with|nil=>rfl|cons x l c=>grind[aE.fold]
noncomputable def aK(v:aE):Nat:=v.fold λ_ _ s c=>1+aA s+c.sum
theorem dE(v:aE):aK v=1+aA v.s+(v.l.map aK).sum:=aE.fold_eq _ v
def SP:Nat->aE->Prop|0,_=>True|d+1,v=>-9223372036854775808<=v.n/\v.n<=9223372036854775807/\∀x∈v.l,SP d x
structure nG(v:aE):Prop where
 all:∀d,SP d v
def nG.lo{v:aE}(h:nG v):-9223372036854775808<=v.n:=(h.all 1).1
def nG.hi{v:aE}(h:nG v):v.n<=9223372036854775807:=(h.all 1).2.1
def nG.uz{v x:aE}(h:nG v)(a:x∈v.l):nG x:=⟨λd=>(h.all (d+1)).2.2 x a⟩
def nG.mk'{v:aE}(b:-9223372036854775808<=v.n)(a:v.n<=9223372036854775807)(c:∀x∈v.l,nG x):nG v:=⟨λd=>by cases d with|zero=>trivial|succ d=>grind[nG.all,SP]⟩
def nO{α:Type}:List (α->Bool)->List α->Bool|[],[]=>W1|f::fs,x::xs=>f x&&nO fs xs|_,_=>WD
noncomputable def cZ(x:aE):aE->Bool:=x.fold λa n s c y=>a==y.c_&&(n==y.n&&(s==y.s&&nO c y.l))
theorem rN(x y:aE):cZ x y=(x.c_==y.c_&&(x.n==y.n&&(x.s==y.s&&nO (x.l.map cZ) y.l))):=congrFun (aE.fold_eq _ x) y
theorem sL:∀x y:aE,cZ x y=W1↔x=y:=by
 refine aE.ind λx e y=>?_;have d:∀(l:List aE),(∀v,v∈l->∀y,cZ v y=W1↔v=y)->∀m:List aE,nO (l.map cZ) m=W1↔l=m:=by intro l;induction l with|nil=>grind[nO]|cons a l c=>intro h m;cases m with|nil=>simp[nO]|cons b m=>grind[nO]
 rw[rN];constructor;cases x;cases y;simp_all;grind
def iX:Nat->Nat->bQ->bQ|0,_,t=>t|f+1,n,t=>if n<10 then UInt8.ofNat (48+n)::t else iX f (n/10) (UInt8.ofNat (48+n%10)::t)
def jM(n:Int):bQ:=(if n<0 then [45]else [])++iX 20 n.natAbs []
def fO:cY->bQ|[]=>[]|[x]=>x|x::r=>x++[44,32]++fO r
noncomputable def cM(v:aE):bQ:=v.fold λa n s c=>if a=0 then jM n else if a=1 then (if n=1 then [116,114,117,101]else [102,97,108,115,101])else if a=2 then [34]++s++[34]else [91]++fO c++[93]
def mB(v:aE):cM v=if v.c_=0 then jM v.n else if v.c_=1 then (if v.n=1 then [116,114,117,101]else [102,97,108,115,101])else if v.c_=2 then [34]++v.s++[34]else [91]++fO (v.l.map cM)++[93]:=aE.fold_eq _ v
noncomputable def jO(v:aE):bQ:=if v.c_=2 then v.s else cM v
def oM(n:Int):Int:=(n+9223372036854775808)%18446744073709551616-9223372036854775808
noncomputable def fZ(a b:aE):aE×Nat:=let v:=if a.c_=3 then bG (a.l++b.l)else bS (a.s++b.s)
 if 200<aK v then (aZ,6)else (v,0)
def jD(op:bQ)(x y:Int):aE×Nat:=if op=[43]then (bB (oM (x+y)),0) else if op=[45]then (bB (oM (x-y)),0) else if op=[42]then (bB (oM (x*y)),0) else if op=[60]then (cG (decide (x<y)),0) else if op=[60,61]then (cG (decide (x<=y)),0) else if y=0 then (aZ,3) else if op=[47]then (bB (oM (x.tdiv y)),0) else (bB (oM (x.tmod y)),0)
def fC:bQ->bQ->Bool|[],[]=>WD|[],_::_=>W1|_::_,[]=>WD|a::l,b::m=>if a.toNat<b.toNat then W1 else if b.toNat<a.toNat then WD else fC l m
noncomputable def dJ(op:bQ)(a b:aE):aE×Nat:=if op=[61,61]then (cG (cZ a b),0) else if op=[33,61]then (cG (!cZ a b),0) else if a.c_≠b.c_\/a.c_=1 then (aZ,2) else if a.c_=0 then jD op a.n b.n else if op=[43]then fZ a b else if a.c_=2/\op=[60]then (cG (fC a.s b.s),0) else if a.c_=2/\op=[60,61]then (cG (!fC b.s a.s),0) else (aZ,2)
def dH(op:bQ)(a:aE):aE×Nat:=if op=[45,120]/\a.c_=0 then (bB (oM (-a.n)),0) else if op=[33,120]/\a.c_=1 then (cG (decide (a.n=0)),0) else (aZ,2)
def jI:Nat->bQ->cY|0,_=>[]|f+1,l=>if l=[]then []else if bY l=0 then []else l.take (bY l)::jI f (l.drop (bY l))
def eE(l:bQ):cY:=jI (aA l) l
def dO(a:aE):aE×Nat:=if a.c_=3 then (bB (aA a.l),0)else if a.c_=2 then (bB (aA (eE a.s)),0)else (aZ,2)
def kL(a:aE):List aE:=if a.c_=2 then (eE a.s).map bS else a.l
def cB(a b:aE):aE×Nat:=if a.c_<2\/b.c_≠0 then (aZ,2) else if b.n<0\/(aA (kL a):Int)<=b.n then (aZ,4) else ((kL a).getD b.n.toNat aZ,0)
def cJ:List aE->aE->aE->aE×Nat|[],_,v=>(v,0)|i::at',wg,v=>if wg.c_≠3\/i.c_≠0 then (aZ,2) else if i.n<0\/(aA wg.l:Int)<=i.n then (aZ,4) else if (cJ at' (wg.l.getD i.n.toNat aZ) v).2≠0 then (aZ,(cJ at' (wg.l.getD i.n.toNat aZ) v).2) else (bG (wg.l.set i.n.toNat (cJ at' (wg.l.getD i.n.toNat aZ) v).1),0)
theorem qU:bY g<=aA g:=by grind[bY,iW]
theorem KW:∀(f:Nat) (l:bQ),aA l<=f->jI f l=eE l:=by
 have h:∀(n f g:Nat) (l:bQ),aA l<=n->aA l<=f->aA l<=g->jI f l=jI g l:=by intro n;induction n with|zero=>intro f g l b a c;have:l=[]:=(by grind);subst this;cases f<;>cases g<;>simp[jI]|succ n i=>intro f g l b a c;by_cases e:l=[];grind;have d:0<aA l:=(by grind);cases f with|zero=>exact Z|succ f=>cases g with|zero=>exact Z|succ g=>grind[jI]
 grind[eE]
theorem kG(b:g≠[])(c:bY g≠0):eE g=g.take (bY g)::eE (g.drop (bY g)):=by have a:0<aA g:=(by grind);have ⟨n,hn⟩:∃n,aA g=n+1:=⟨aA g-1,Z⟩;grind[KW,jI,eE]
theorem gF(h:g=[]\/bY g=0):eE g=[]:=by unfold eE;cases a:aA g with|zero=>rfl|succ n=>grind[jI]
def qC(l:bQ):aA (eE l)<=aA l:=by
 have h:∀(n:Nat) (l:bQ),aA l<=n->aA (eE l)<=aA l:=by intro n;induction n with|zero=>grind[gF]|succ n a=>grind[gF,kG]
 exact h (aA l) l (Z)
inductive aO where
 |begin (l_:Nat) (e_:cY)
 |push (v:aE)
 |load (slot:Nat)
 |declare (slot:Nat)
 |assign (slot n:Nat)
 |jump (to_:Nat)
 |skip (to_:Nat)
 |sw (when:Bool) (to_:Nat)
 |ue
 |unary (op:bQ)
 |binary (op:bQ)
 |index
 |list (n:Nat)
 |length
 |read
 |call (f:Nat) (n:Nat)
 |tw
 |drop
 |print
def aO.sg:aO->Bool|.begin _ _=>W1|_=>WD
structure eL where
 name:bQ
 code:List aO
structure aI where
 fn:eL
 next:Nat
 l_:Nat
 e_:cY
 g_:List aE
 ops:List aE
structure dC where
 f_:List aI
 tape:List Int
 out:cY
def aI.push(f:aI)(v:aE):aI:={f with ops:=f.ops++[v]}
def aI.last(f:aI):aE:=f.ops.getLast?.getD aZ
def aI.pop(f:aI):aI:={f with ops:=f.ops.dropLast}
def aI.many(f:aI)(n:Nat):List aE:=f.ops.drop (aA f.ops-n)
def aI.n_(f:aI)(n:Nat):aI:={f with ops:=f.ops.take (aA f.ops-n)}
noncomputable def jH(r:aE×Nat):aE×Nat:=if r.2=0 then if 200<aK r.1 then (aZ,6)else r else r
noncomputable def jJ(whole:aE)(at_:List aE)(to_:aE):aE×Nat:=jH (cJ at_ whole to_)
noncomputable def aS(i:aO)(f:aI):aI×Nat:=match i with
 |.begin l s=>({f with l_:=l,e_:=s},0)|.push v=>(f.push v,0)|.load k=>(f.push (f.g_[k]?.getD aZ),0)|.declare k=>({f.pop with g_:=f.g_.take k++[f.last]},0)|.assign k n=>let g:=f.pop.n_ n
 let r:=jJ (f.g_[k]?.getD aZ) (f.pop.many n) f.last
 if r.2=0 then ({g with g_:=f.g_.set k r.1},0)else (g,r.2)|.jump t=>({f with next:=t},0)|.skip t=>if f.last.c_=1 then (if f.last.n=1 then f.pop else {f.pop with next:=t},0)else (f.pop,2)|.sw w t=>if f.last.c_=1 then (if decide (f.last.n=1)=w then {f.pop.push f.last with next:=t} else f.pop,0)else (f.pop,2)|.ue=>if f.last.c_=1 then (f.pop.push f.last,0)else (f.pop,2)|.unary op=>let r:=dH (op++[120]) f.last;if r.2=0 then (f.pop.push r.1,0)else (f.pop,r.2)|.binary op=>let r:=dJ op f.pop.last f.last;if r.2=0 then (f.pop.pop.push r.1,0)else (f.pop.pop,r.2)|.index=>let r:=cB f.pop.last f.last;if r.2=0 then (f.pop.pop.push r.1,0)else (f.pop.pop,r.2)|.list n=>let r:=jH (bG (f.many n),0);if r.2=0 then ((f.n_ n).push r.1,0)else (f.n_ n,r.2)|.length=>let r:=dO f.last;if r.2=0 then (f.pop.push r.1,0)else (f.pop,r.2)|.drop=>(f.pop,0)|_=>(f,0)
noncomputable def cF(tz:List eL)(i:aO)(below:List aI)(f:aI)(tape:List Int)(out:cY):dC × Nat:=
 match i with
 |.read=>
  match tape with
  |[]=>(⟨below++[f],tape,out⟩,7)
  |t::r=>(⟨below++[f.push (bB t)],r,out⟩,0)
 |.call k n=>
  if aA below+1=16 then (⟨below++[f.n_ n],tape,out⟩,5)
  else (⟨below++[f.n_ n,⟨tz[k]?.getD ⟨[],[]⟩,0,0,[],f.many n,[]⟩],tape,out⟩,0)
 |.tw=>(⟨below.dropLast++(below.getLast?.map λg=>g.push f.last).toList,tape,out⟩,0)
 |.print=>if aA out=50 then (⟨below++[f.pop],tape,out⟩,8)else (⟨below++[f.pop],tape,out++[jO f.last]⟩,0)
 |i=>let r:=aS i f;(⟨below++[r.1],tape,out⟩,r.2)
def aI.tr(f:aI):Option (aO×aI):=f.fn.code[f.next]?.map λi=>(i,{f with next:=f.next+1})
noncomputable def fE(tz:List eL):Nat->dC->Option (dC×Nat)
 |0,_=>Wz|k+1,m=>match m.f_.getLast? with
 |none=>Wy (m,1)|some f=>match f.tr with
 |none=>Wz|some (i,g)=>let r:=cF tz i m.f_.dropLast g m.tape m.out
 if r.2≠0 then Wy r else if i.sg then Wy r else fE tz k r.1
structure bW where
 m_:Nat
 m:dC
 stop:Nat
def cD(m_ stop:Nat):Nat:=if stop=0/\m_=500 then 9 else stop
def dP:cY->bQ->Nat|[],_=>0|x::l,name=>if x=name then aA l else dP l name
def dW(fs:List aC)(name:bQ):Nat:=fs.findIdx λf=>f.x_==name
def bC(c:aC->Nat->List aO):List aC->Nat->List aO|[],_=>[]|a::l,p=>c a p++bC c l (p+aA (c a p))
def aG(fs:List aC)(e_:cY):Nat->aC->Nat->List aO|0,_,_=>[]|d+1,a,p=>let y_:=bC (aG fs e_ d) a.y_ p
 if a.op==[48]then [.push (bB (((dS 0 a.x_).getD 0:Nat):Int))] else if a.op==[115]then [.push (bS a.x_)] else if a.op==[98,111,111,108]then [.push (cG (a.x_==[116,114,117,101]))] else if a.op==[110,97,109,101]then [.load (dP e_ a.x_)] else if a.op==[108,105,115,116]then y_++[.list (aA a.y_)] else if a.op==[105,110,100,101,120]then y_++[.index] else if a.op==[45,120]then y_++[.unary [45]] else if a.op==[33,120]then y_++[.unary [33]] else if a.op==[99,97,108,108]then y_++[if a.x_==[108,101,110]then .length else if a.x_==[114,101,97,100]then .read else .call (dW fs a.x_) (aA a.y_)] else if a.op==[38,38]||a.op==[124,124]then match a.y_ with
 |[l,r]=>let cl:=aG fs e_ d l p
 let cr:=aG fs e_ d r (p+aA cl+1)
 cl++[.sw (a.op==[124,124]) (p+aA cl+1+aA cr+1)]++cr++[.ue]|_=>[] else y_++[.binary a.op]
def bM(c:cY->aC->Nat->List aO×cY):cY->List aC->Nat->List aO|_,[],_=>[]|e_,a::l,p=>(c e_ a p).1++bM c (c e_ a p).2 l (p+(c e_ a p).1.length)
def aU(fs:List aC):Nat->cY->aC->Nat->List aO×cY
 |0,e_,_,_=>([],e_)|d+1,e_,a,p=>let start:=aO.begin a.l_ e_
 let i_:=λ(b:aC) q=>bM (aU fs d) e_ b.y_ q
 if a.op==[118,97,114]then match a.y_ with|[t,v]=>(start::aG fs e_ d v (p+1)++[.declare (aA e_)],t.x_::e_)|_=>([],e_) else if a.op==[115,101,116]then (start::bC (aG fs e_ d) a.y_ (p+1)++[.assign (dP e_ a.x_) (aA a.y_-1)],e_) else if a.op==[105,102]then match a.y_ with
 |c::t::e=>let cc:=aG fs e_ d c (p+1)
 let ct:=i_ t (p+1+aA cc+1)
 let q:=p+1+aA cc+1+aA ct+1
 let ce:=match e with|[x]=>i_ x q|_=>[]
 (start::cc++[.skip q]++ct++[.jump (q+aA ce)]++ce,e_)|_=>([],e_) else if a.op==[119,104,105,108,101]then match a.y_ with
 |[c,b]=>let cc:=aG fs e_ d c (p+1)
 let cb:=i_ b (p+1+aA cc+1)
 (start::cc++[.skip (p+1+aA cc+1+aA cb+1)]++cb++[.jump p],e_)|_=>([],e_) else if a.op==[114,101,116,117,114,110]then match a.y_ with|[v]=>(start::aG fs e_ d v (p+1)++[.tw],e_)|_=>([start,.push (bB 0),.tw],e_) else if a.op==[112,114,105,110,116]then match a.y_ with|[v]=>(start::aG fs e_ d v (p+1)++[.print],e_)|_=>([],e_) else match a.y_ with|[c]=>(start::aG fs e_ d c (p+1)++[.drop],e_)|_=>([],e_)
def fQ(fs:List aC)(d:Nat)(f:aC):eL:=let e_:=(f.y_.dropLast.map (·.x_)).reverse
 ⟨f.x_,bM (aU fs d) e_ ((f.y_.getLast?.map (·.y_)).getD []) 0++[.push (bB 0),.tw]⟩
def dX(fs:List aC)(d:Nat):List eL:=fs.map (fQ fs d)
def jW(fs:List aC)(d:Nat)(tape:List Int):dC:=⟨[⟨(dX fs d)[dW fs [109,97,105,110]]?.getD ⟨[],[]⟩,0,0,[],[],[]⟩],tape,[]⟩
structure gQ where
 h:Nat
 v:Nat
 e:Option Nat
 b:Bool
def fP(D:bL)(T:Nat->gQ)(q h v:Nat)(e:Option Nat):Prop:=D q/\(T q).h=h/\(T q).v<=v/\((T q).e=Wz\/(T q).e=e)
def iZ(ar:Nat->Option Nat)(D:bL)(T:Nat->gQ)(p:Nat)(i:aO):Prop:=(T p).b=i.sg/\(T p).h<=p/\match i with|.begin _ s=>aA s<=(T p).v/\fP D T (p+1) (T p).h (T p).v (Wy (aA s))|.push _=>fP D T (p+1) ((T p).h+1) (T p).v (T p).e|.load k=>k<(T p).v/\fP D T (p+1) ((T p).h+1) (T p).v (T p).e|.declare k=>1<=(T p).h/\k<=(T p).v/\k<=90000/\(T p).e=Wy k/\fP D T (p+1) ((T p).h-1) (k+1) (T p).e|.assign k n=>n+1<=(T p).h/\k<(T p).v/\fP D T (p+1) ((T p).h-(n+1)) (T p).v (T p).e|.jump q=>(p<q\/(T q).b=W1)/\fP D T q (T p).h (T p).v (T p).e|.skip q=>1<=(T p).h/\p<q/\fP D T q ((T p).h-1) (T p).v (T p).e/\fP D T (p+1) ((T p).h-1) (T p).v (T p).e|.sw _ q=>1<=(T p).h/\p<q/\fP D T q (T p).h (T p).v (T p).e/\fP D T (p+1) ((T p).h-1) (T p).v (T p).e|.ue=>1<=(T p).h/\fP D T (p+1) (T p).h (T p).v (T p).e|.unary _=>1<=(T p).h/\fP D T (p+1) (T p).h (T p).v (T p).e|.length=>1<=(T p).h/\fP D T (p+1) (T p).h (T p).v (T p).e|.binary _=>2<=(T p).h/\fP D T (p+1) ((T p).h-1) (T p).v (T p).e|.index=>2<=(T p).h/\fP D T (p+1) ((T p).h-1) (T p).v (T p).e|.list n=>n<=(T p).h/\fP D T (p+1) ((T p).h-n+1) (T p).v (T p).e|.read=>fP D T (p+1) ((T p).h+1) (T p).v (T p).e|.call k n=>n<=(T p).h/\ar k=Wy n/\fP D T (p+1) ((T p).h-n+1) (T p).v (T p).e|.tw=>1<=(T p).h|.drop=>1<=(T p).h/\fP D T (p+1) ((T p).h-1) (T p).v (T p).e|.print=>1<=(T p).h/\fP D T (p+1) ((T p).h-1) (T p).v (T p).e
def pW(L:Nat->gQ->Prop)(lo hi:Nat)(q:Nat):Prop:=(lo<=q/\q<=hi)\/∃y,L q y
def cL(ar:Nat->Option Nat)(L:Nat->gQ->Prop)(p:Nat)(c:List aO)(h v:Nat)(e:Option Nat)(h' v':Nat)(e':Option Nat):Prop:=∃T:Nat->gQ,(∀q y,L q y->T q=y)/\(T p).h=h/\(T p).v<=v/\((T p).e=Wz\/(T p).e=e)/\(T (p+aA c)).h=h'/\(T (p+aA c)).v=v'/\(T (p+aA c)).e=e'/\∀j i,c[j]?=Wy i->iZ ar (pW L p (p+aA c)) T (p+j) i
def fP.same{D a:bL}{T T':Nat->gQ}(f:fP D T N X E Q)(b:D N->a N/\(T' N).h=(T N).h/\(T' N).v<=(T N).v/\((T' N).e=Wz\/(T' N).e=(T N).e)):fP a T' N X E Q:=by grind[fP]
def iZ.same{D b:bL}{T T':Nat->gQ}{i:aO}(f:iZ R D T N i)(d:T' N=T N) (c:∀q,D q->b q/\(T' q).h=(T q).h/\(T' q).v<=(T q).v/\((T' q).e=Wz\/(T' q).e=(T q).e)) (e:∀q,D q->q<=N->(T q).b=W1->(T' q).b=W1):iZ R b T' N i:=by have ⟨f1,f2,f3⟩:=f;grind[iZ,fP]
def cL.append{L:Nat->gQ->Prop}{c f:List aO}{r n u:Nat}{s:Option Nat}(a:cL R L N c X V Q W r P)(b:cL R L (N+aA c) f W r P n u s) (I:∀q y,L q y->q<=N\/N+aA c+aA f<=q) (M:c≠[]):cL R L N (c++f) X V Q n u s:=by obtain⟨T,J,D,E,F,K,H,G,C⟩:=a;have ⟨U,u1,u2,u3,u4,u5,u6,u7,u8⟩:=b;have A:0<aA c:=(by grind);have t:aA (c++f)=aA c+aA f:=et;refine⟨λq=>if q<N+aA c then T q else U q,λq y k=>?_,?_,?_,?_,?_,?_,?_,λj i g=>?_⟩;grind;grind;grind;grind;grind;grind;grind;rcases gw j (aA c) with d|d;rw[jy d]at g;refine(C j i g).same G_ (λq k=>?_) (λq k m B=>?_);grind[pW];grind;rw[jb d]at g;have w:=u8 (j-aA c) i g;rw[show N+aA c+(j-aA c)=N+j by omega]at w;have z:=(ik.1 g).1;refine w.same G_ (λq k=>?_) (λq k m B=>?_);grind[pW];grind[pW]
def cL.nil(a:Nat->Option Nat)(p h v:Nat)(e:Option Nat)(L:Nat->gQ->Prop)(f:∀q y,L q y->q=p->y.h=h/\y.v=v/\y.e=e)(d:∀q y z,L q y->L q z->y=z):cL a L p [] h v e h v e:=by classical refine⟨λq=>if hq:∃y,L q y then hq.choose else ⟨h,v,e,WD⟩,λq y b=>?_,?_⟩;have c:∃y,L q y:=⟨y,b⟩;grind;simp;split;grind;simp
structure oK(ar:Nat->Option Nat)(c:List aO)(T:Nat->gQ):Prop where
 ins:∀j i,c[j]?=Wy i->iZ ar (λq=>q<aA c) T j i
 len:aA c<=80000
def iY(c:List aO):Prop:=(∃l s r,c=.begin l s::r)\/∃v,c=[.push v,.tw]
structure eS(ar:Nat->Option Nat)(f:aI)(more:Nat):Prop where
 code:∃T,oK ar f.fn.code T/\(T f.next).h=aA f.ops+more/\(T f.next).v<=aA f.g_/\((T f.next).e=Wz\/(T f.next).e=Wy (aA f.e_))
 next:f.next<aA f.fn.code
 e_:aA f.e_<=aA f.g_
 g_:aA f.g_<=90001
structure mT(ar:Nat->Option Nat)(tz:List eL):Prop where
 fn:∀k n,ar k=Wy n->∃f T,tz[k]?=Wy f/\oK ar f.code T/\(T 0).h=0/\(T 0).v<=n/\(T 0).e=Wz/\
  iY f.code
structure sB(ar:Nat->Option Nat)(m:dC):Prop where
 low:∀f∈m.f_.dropLast,eS ar f 1
 top:∀f,m.f_.getLast?=Wy f->eS ar f 0
 deep:aA m.f_<=16
theorem nA(l:List y)(a:y):(l++[a]).getLast?=Wy a:=s_
def oT(l:List y)(a:y):(l++[a]).dropLast=l:=s_
theorem sB.snoc{a:List aI}{f:aI}(d:∀g∈a,eS R g 1)(c:eS R f 0)(e:aA a+1<=16):sB R ⟨a++[f],t,S⟩:=⟨G_,G_,G_⟩
def eS.wm{T:Nat->gQ}{f g:aI}(m:oK R f.fn.code T)(b:fP (λq=>q<aA f.fn.code) T g.next N X Q)(k:g.fn=f.fn)(i:N=aA g.ops)(l:X<=aA g.g_)(j:Q=Wz\/Q=Wy (aA g.e_)) (d:aA g.e_<=aA g.g_) (c:aA g.g_<=90001):eS R g 0:=by have ⟨f1,f2,f3,f4⟩:=b;refine⟨⟨T,G_,Z,Z,?_⟩,G_,d,c⟩;grind
theorem aI.yk(f:aI):aA f.pop.ops=aA f.ops-1:=by simp[aI.pop]
theorem aI.As(f:aI)(v:aE):(f.push v).ops.length=aA f.ops+1:=by simp[aI.push]
theorem aI.yt(f:aI)(n:Nat):(f.n_ n).ops.length=aA f.ops-n:=by simp[aI.n_]
def rH(Y_:a:=by simp only[aS]at hr' hi;split at hr';subst hr';exact⟨hs,λ_=>eS.wm (f:=f) hc hi.2 aJ (by grind[aI.push,aI.pop]) hv he hs hm⟩;grind[aI.pop]):a:=Y_
theorem MY{T:Nat->gQ}{f:aI}{i:aO}(hc:oK R f.fn.code T)(hi:iZ R (λq=>q<aA f.fn.code) T f.next i) (b:(T f.next).h=aA f.ops) (hv:(T f.next).v<=aA f.g_) (he:(T f.next).e=Wz\/(T f.next).e=Wy (aA f.e_)) (hs:aA f.e_<=aA f.g_) (hm:aA f.g_<=90001) (o:i≠.tw) (m:i≠.read) (h:i≠.print) (g:∀k n,i≠.call k n) (r:aI×Nat) (hr':r=aS i {f with next:=f.next+1}):(aA r.1.e_)<=aA r.1.g_/\(r.2=0->eS R r.1 0):=by have ⟨_,_,hi⟩:=hi;have d:=hs;cases i with|tw=>grind|read=>grind|print=>grind|call k n=>grind|begin l s=>simp[aS]at hr' hi;subst hr';exact⟨G_,λ_=>eS.wm (f:=f) hc hi.2 rfl b hv (dz rfl) G_ hm⟩|push v=>simp[aS]at hr' hi;subst hr';exact⟨hs,λ_=>eS.wm (f:=f) hc hi aJ rh hv he hs hm⟩|load k=>simp[aS]at hr' hi;subst hr';exact⟨hs,λ_=>eS.wm (f:=f) hc hi.2 aJ rh hv he hs hm⟩|declare k=>simp[aS]at hr' hi;subst hr';have ⟨i1,i2,i3,i4,i5⟩:=hi;have c:aA f.e_=k:=G_;have j:aA (f.g_.take k++[aI.last {f with next:=f.next+1}])=k+1:=G_;exact⟨qh,λ_=>eS.wm (f:=f) hc i5 rfl (by grind[aI.yk]) G_ he qh G_⟩|assign k n=>simp[aS]at hr' hi;split at hr';subst hr';refine⟨by grind[aI.n_,aI.pop],λ_=>eS.wm (f:=f) hc hi.2.2 rfl ?_ G_ he (by grind[aI.n_,aI.pop]) G_⟩;grind[aI.yt,aI.pop];grind[aI.n_,aI.pop]|jump q=>simp[aS]at hr' hi;subst hr';exact⟨hs,λ_=>eS.wm (f:=f) hc hi.2 aJ b hv he hs hm⟩|skip q=>simp[aS]at hr' hi;split at hr';subst hr';refine⟨?_,λ_=>?_⟩;split<;>exact hs;split;exact eS.wm (f:=f) hc hi.2.2.2 aJ qh hv he hs hm;exact eS.wm (f:=f) hc hi.2.2.1 aJ (by grind[aI.yk]) hv he hs hm;grind[aI.pop]|sw w q=>simp[aS]at hr' hi;split at hr';subst hr';refine⟨?_,λ_=>?_⟩;split<;>exact hs;split;exact eS.wm (f:=f) hc hi.2.2.1 aJ (by grind[aI.As,aI.yk]) hv he hs hm;exact eS.wm (f:=f) hc hi.2.2.2 aJ qh hv he hs hm;grind[aI.pop]|ue=>exact rH|unary e=>exact rH|length=>exact rH|binary e=>exact rH|index=>exact rH|list n=>simp[aS]at hr' hi;split at hr';subst hr';exact⟨hs,λ_=>eS.wm (f:=f) hc hi.2 aJ (by grind[aI.push,aI.n_]) hv he hs hm⟩;grind[aI.n_]|drop=>simp[aS]at hr' hi;subst hr';exact⟨hs,λ_=>eS.wm (f:=f) hc hi.2 aJ qh hv he hs hm⟩
structure iR(ar:Nat->Option Nat)(m:dC):Prop where
 ok:sB ar m
 start:∀f∈m.f_,iY f.fn.code
theorem eS.xt{f:aI}(h:eS R f 1)(v:aE):eS R (f.push v) 0:=by have ⟨⟨T,h1,h2,h3,h4⟩,h5,h6,h7⟩:=h;exact⟨rh,h5,h6,h7⟩
theorem oG{tz:List eL}{i:aO}{below:List aI}{f:aI}{o:cY}(c:i≠.tw)(b:i≠.read)(a:i≠.print)(d:∀k n,i≠.call k n):cF tz i below f t o=(⟨below++[(aS i f).1],t,o⟩,(aS i f).2):=by cases i<;>first|rfl|exact ep aJ c|exact ep aJ b|exact ep aJ a|grind
theorem tD(i:aO)(f:aI):(aS i f).1.fn=f.fn:=by cases i<;>simp [aS]<;>(repeat' split)<;>rfl
def DY{j:List eL}(F:mT R j){d:List aI}{f:aI}(h:iR R ⟨d++[f],t,S⟩){i:aO}{g:aI}(Q:f.tr=Wy (i,g)):(∀x∈(cF j i d g t S).1.f_,aA x.e_<=aA x.g_)/\(cF j i d g t S).1.f_.length<=16/\((cF j i d g t S).2=0->iR R (cF j i d g t S).1):=by
 have u:∀x∈d,eS R x 1:=by have:=h.ok.low;grind
 have w:=h.ok.top f (s_);have q:aA d+1<=16:=by have:=h.ok.deep;grind
 have C:∀x∈d,iY x.fn.code:=(by grind[iR.start]);have D:=h.start f s_;have ⟨⟨T,hc,hh,hv,he⟩,hnx,hs,hm⟩:=w;obtain⟨rfl,J⟩:g={f with next:=f.next+1}/\f.fn.code[f.next]?=Wy i:=by grind[aI.tr]
 have s:=hc.ins _ _ J;have N:∀x∈d,aA x.e_<=aA x.g_:=(by grind[eS.e_]);by_cases K:i=.tw
 .subst K;rcases hH d with rfl|⟨b,x,rfl⟩;refine⟨rB,rB,λ_=>⟨⟨rB,rB,rB⟩,rB⟩⟩;rw[jm]at*;have e:cF j .tw (b++[x]) {f with next:=f.next+1} t S=(⟨b++[x.push (aI.last {f with next:=f.next+1})],t,S⟩,0):=by simp[cF]
  rw[e];refine⟨λy z=>?_,G_,λ_=>⟨(by grind[sB.snoc,eS.xt]),λy z=>?_⟩⟩;grind[aI.push];grind[aI.push]
 have m:∀y:aI,aA y.e_<=aA y.g_->∀x∈d++[y],aA x.e_<=aA x.g_:=(by grind);have p:∀y:aI,eS R y 0->y.fn=f.fn->∀t S,iR R ⟨d++[y],t,S⟩:=λy z M t S=>⟨sB.snoc u z q,G_⟩;by_cases I:i=.read;.subst I;cases t with|nil=>grind[cF]|cons a r=>exact⟨m _ hs,by simp[cF];exact Z,λ_=>p (aI.push {f with next:=f.next+1} (bB a)) (eS.wm (f:=f) hc s.2.2 rfl rh hv he hs hm) rfl _ _⟩
 by_cases H:i=.print;.subst H;simp[cF];split;grind[aI.pop];exact⟨m _ hs,G_,λ_=>p (aI.pop {f with next:=f.next+1}) (eS.wm (f:=f) hc s.2.2.2 rfl qh hv he hs hm) rfl _ _⟩
 by_cases G:∃k n,i=.call k n
 .obtain⟨k,n,rfl⟩:=G;simp[cF];split;grind[aI.n_];rename_i P;have ⟨_,_,hio1,hio2,hio3⟩:=s;have ⟨c,U,c1,c2,c3,c4,c5,c6⟩:=F.fn k n hio2;have B:aA (aI.many {f with next:=f.next+1} n)=n:=by simp[aI.many];exact Z
  rw[c1];have v:eS R ⟨c,0,0,[],aI.many {f with next:=f.next+1} n,[]⟩ 0:=by refine⟨G_,?_,s_,by grind[oK.len]⟩;grind[iY]
  have A:eS R (aI.n_ {f with next:=f.next+1} n) 1:=by have ⟨f1,f2,f3,f4⟩:=hio3;refine⟨⟨T,hc,?_,em f3 hv,?_⟩,f1,hs,hm⟩;grind[aI.n_];grind[aI.n_]
  have L:d++[aI.n_ {f with next:=f.next+1} n,(⟨c,0,0,[],aI.many {f with next:=f.next+1} n,[]⟩:aI)]=(d++[aI.n_ {f with next:=f.next+1} n])++[(⟨c,0,0,[],aI.many {f with next:=f.next+1} n,[]⟩:aI)]:=s_;simp only[jc];rw[L];refine⟨λx E=>?_,G_,λ_=>⟨sB.snoc (λx E=>?_) v G_,λx E=>?_⟩⟩;grind[aI.n_];grind;grind[aI.n_]
 grind[oG,MY,tD]
def mM(f:aI):Nat:=if f.next=0 then 2 else if aA f.fn.code=2 then 1 else 4*(aA f.fn.code-f.next)
def oL(l:List aI):Nat:=(l.map mM).sum
def GG{T:Nat->gQ}{f:aI}{i:aO}(a:iZ R (λq=>q<aA f.fn.code) T f.next i) (g:i.sg=WD) (h:i≠.tw) (e:i≠.read) (c:i≠.print) (d:∀k n,i≠.call k n):(aS i {f with next:=f.next+1}).2=0->(f.next<(aS i {f with next:=f.next+1}).1.next/\(aS i {f with next:=f.next+1}).1.next<aA f.fn.code)\/(T (aS i {f with next:=f.next+1}).1.next).b=W1/\(aS i {f with next:=f.next+1}).1.next<aA f.fn.code:=by have ⟨_,_,a⟩:=a;grind[aS,fP,aI.pop,aI.n_,aI.push]
theorem tW(l:List aI)(f:aI):oL (l++[f])=oL l+mM f:=by simp[oL]
def IG{f:aI}(h:f.next<aA f.fn.code):1<=mM f:=by grind[mM]
theorem UJ(f:aI)(v:aE):mM (f.push v)=mM f:=rfl
def NV{f g:aI}{i:aO}(e:iY f.fn.code)(h:f.fn.code[f.next]?=Wy i)(d:i.sg=WD)(b:g.fn=f.fn)(a:f.next<g.next)(c:g.next<aA f.fn.code):mM g<mM f:=by grind[mM,aO.sg,iY]
def UK{f g:aI}(d:iY f.fn.code)(e:f.fn.code[f.next]?=Wy (.call N X))(b:g.fn=f.fn)(a:f.next<g.next)(c:g.next<aA f.fn.code):mM g+2<mM f:=by grind[mM,iY]
structure CW(ar:Nat->Option Nat)(r:dC × Nat):Prop where
 told:∀x∈r.1.f_,aA x.e_<=aA x.g_
 deep:aA r.1.f_<=16
 ok:r.2=0->iR ar r.1/\r.1.f_≠[]
def oS{l:List aI}(h:l≠[]):∃b f,l=b++[f]:=by rcases hH l with a|⟨b,f,a⟩;grind;grind
def FM{f:aI}(h:f.next<aA f.fn.code):f.tr=Wy (f.fn.code[f.next],{f with next:=f.next+1}):=by grind[aI.tr]
def AV{a:List eL}(e:mT R a){b:List aI}{f:aI}(h:iR R ⟨b++[f],t,S⟩){s:cY}(g:f.fn.code[f.next]?=Wy (.begin X s)):∃r,fE a (N+1) ⟨b++[f],t,S⟩=Wy r/\CW R r:=by
 have d:f.tr=Wy (.begin X s,{f with next:=f.next+1}):=by grind[aI.tr]
 have ⟨h1,h2,h3⟩:=DY e h d;refine⟨cF a (.begin X s) b {f with next:=f.next+1} t S,?_,h1,h2,(by grind[cF])⟩;grind[fE,aO.sg]
def pG{l:List eL}(s:mT R l):∀(k:Nat) (m:dC),iR R m->oL m.f_+2<=k->∃r,fE l k m=Wy r/\CW R r
 |0,_,_,H=>by omega|k+1,⟨W,t,o⟩,h,H=>by
  by_cases A:W=[];subst A;exact⟨(⟨[],t,o⟩,1),aJ,s_,s_,Z⟩;obtain⟨b,f,rfl⟩:=oS A;have d:eS R f 0:=h.ok.top f (s_);have v:iY f.fn.code:=h.start f s_;have Q:=FM d.next;have z:f.fn.code[f.next]?=Wy (f.fn.code[f.next]'d.next):=ey d.next;generalize f.fn.code[f.next]'d.next=i at Q z;obtain⟨V,S,X⟩:=DY s h Q;by_cases D:(cF l i b {f with next:=f.next+1} t o).2=0;rotate_left;refine⟨_,?_,V,S,Z⟩;grind[fE];cases M:i.sg;rotate_left;cases i<;>simp[aO.sg]at M;exact AV s h z;have e:fE l (k+1) ⟨b++[f],t,o⟩=fE l k (cF l i b {f with next:=f.next+1} t o).1:=by grind[fE]
  rw[e];have u:=X D;simp only at H;rw[tW]at H;have ⟨⟨T,hc,hh,hv,he⟩,hnx,hs,hm⟩:=d;have q:=hc.ins _ _ z;by_cases K:i=.tw;subst K;apply pG s k _ u;have F:=IG hnx;rcases hH b with rfl|⟨b',x,rfl⟩;grind[cF];grind[cF,UJ,oL];by_cases J:i=.read;.subst J;cases t with|nil=>simp[cF]at D|cons a r=>apply pG s k _ u;have F:=NV (g:=aI.push {f with next:=f.next+1} (bB a)) v z rfl rfl (Nat.lt_succ_self _) q.2.2.1;grind[tW,cF]
  by_cases I:i=.print;.subst I;apply pG s k _ u;have F:=NV (g:=aI.pop {f with next:=f.next+1}) v z rfl rfl (Nat.lt_succ_self _) q.2.2.2.1;grind[cF,tW]
  by_cases G:∃c n,i=.call c n;.obtain⟨c,n,rfl⟩:=G;apply pG s k _ u;have F:=UK (g:=aI.n_ {f with next:=f.next+1} n) v z rfl (Nat.lt_succ_self _) q.2.2.2.2.1;grind[cF,mM,oL]
  have B:∀k n,i≠.call k n:=(by grind);rw[oG K J I B]at D u⊢;have p:=GG q M K J I B D;have L:(aS i {f with next:=f.next+1}).1.fn=f.fn:=tD _ _;generalize aS i {f with next:=f.next+1}=y at D u p L⊢;rcases p with ⟨N,P⟩|⟨N,P⟩;apply pG s k _ u;grind[oL,iY,aO.sg,mM];have C:y.1.fn.code[y.1.next]?=Wy (f.fn.code[y.1.next]):=G_;have w:=(hc.ins _ _ (ey P)).1;rw[N]at w;have F:=IG hnx;obtain⟨j,rfl⟩:∃j,k=j+1:=⟨k-1,Z⟩;generalize f.fn.code[y.1.next]=i' at C w;cases i'<;>simp[aO.sg]at w;exact AV s u C
theorem cL.then{L:Nat->gQ->Prop}{c c':List aO}{i:Nat}{e l:Option Nat}(a:cL R L N c X E e V i l)(b:cL R L (N+aA c) c' V i l W F Q) (n:∀q y,L q y->q<=N\/N+aA c+aA c'<=q):cL R L N (c++c') X E e W F Q:=by by_cases m:c=[];subst m;have ⟨T,t1,t2,t3,t4,t5,t6,t7,t8⟩:=a;have ⟨U,u1,u2,u3,u4,u5,u6,u7,u8⟩:=b;simp at t5 t6 t7 u2 u3 u4 u5 u6 u7 u8;refine⟨U,u1,Z,Z,?_,u5,u6,u7,u8⟩;grind;exact a.append b n m
def cL.one{ar:Nat->Option Nat}{L:Nat->gQ->Prop}{p:Nat}{i:aO}{h' v':Nat}{e':Option Nat}(m:∀q y z,L q y->L q z->y=z)(k:∀y,L p y->y=⟨N,X,Q,i.sg⟩)(l:∀y,L (p+1) y->y.h=h'/\y.v=v'/\y.e=e') (n:∀T:Nat->gQ,T p=⟨N,X,Q,i.sg⟩->(T (p+1)).h=h'->(T (p+1)).v=v'->(T (p+1)).e=e'->(∀q y,L q y->T q=y)->iZ ar (pW L p (p+1)) T p i):cL ar L p [i] N X Q h' v' e':=by
 classical
  let T:=λq=>if hq:∃y,L q y then hq.choose else if q=p then ⟨N,X,Q,i.sg⟩else ⟨h',v',e',WD⟩;have f:∀q y,L q y->T q=y:=λq y g=>by have a:∃y,L q y:=⟨y,g⟩;grind
  have d:T p=⟨N,X,Q,i.sg⟩:=by by_cases a:∃y,L p y;grind;grind
  have c:(T (p+1)).h=h'/\(T (p+1)).v=v'/\(T (p+1)).e=e':=by by_cases a:∃y,L (p+1) y;grind;grind
  refine⟨T,f,by rw[d],G_,G_,c.1,c.2.1,c.2.2,λj x b=>?_⟩;match j,b with|0,b=>grind|j+1,b=>simp at b
structure eV(L:Nat->gQ->Prop)(lo hi:Nat):Prop where
 uniq:∀q y z,L q y->L q z->y=z
 out:∀q y,L q y->q<lo\/hi<q
theorem eV.sub{L:Nat->gQ->Prop}(h:eV L N X)(g:N<=E)(f:V<=X):eV L E V:=⟨h.uniq,λq y e=>by have:=h.out q y e;exact Z⟩
def gU(L:Nat->gQ->Prop)(q:Nat)(y:gQ):Nat->gQ->Prop:=λr z=>L r z\/(r=q/\z=y)
theorem gU.ok{L:Nat->gQ->Prop}{lo b:Nat}{y:gQ}(h:eV L lo N)(j:lo<=E)(g:E<=N)(l:lo<=X)(i:b<=N)(k:E<X\/b<E):eV (gU L E y) X b:=by refine⟨λr x z a d=>?_,λr x a=>?_⟩;rcases a with a|⟨rfl,rfl⟩<;>rcases d with d|⟨f,rfl⟩;exact h.uniq _ _ _ a d;have:=h.out _ _ a;exact Z;have:=h.out _ _ d;exact Z;rfl;rcases a with a|⟨rfl,rfl⟩;have:=h.out _ _ a;exact Z;exact Z
def cL.close{ar:Nat->Option Nat}{L:Nat->gQ->Prop}{p:Nat}{c:List aO}{q:Nat}{y:gQ}(s:cL ar (gU L q y) p c N X Q E V P)(l:p<=q)(k:q<=p+aA c):cL ar L p c N X Q E V P:=by have ⟨T,t1,t2,t3,t4,t5,t6,t7,t8⟩:=s;refine⟨T,λq y f=>t1 q y (ea f),t2,t3,t4,t5,t6,t7,λj i g=>(t8 j i g).same aJ (λr m=>⟨?_,aJ,Z,dz rfl⟩) (s_)⟩;grind[pW,gU]
def oF{L:Nat->gQ->Prop}:pW L N (N+1) (N+1):=(by grind[pW])
theorem cL.plain{L:Nat->gQ->Prop}{i:aO}(a:eV L N (N+1))(g:i.sg=WD)(f:X<=N) (j:∀(D:bL) (T:Nat->gQ),(T N).h=X->(T N).v=E->fP D T (N+1) V (T N).v (T N).e->(T N).b=WD->(T N).h<=N->iZ R D T N i):cL R L N [i] X E Q V E Q:=cL.one a.uniq (λy b=>ep (a.out _ _ b) Z) (λy b=>ep (a.out _ _ b) Z) (by grind[pW,fP])
def gD(fs:List aC)(k:Nat):Option Nat:=fs[k]?.map λf=>aA f.y_-1
def si(fs:List aC)(a_:Bool)(e_:cY):Nat->aC->Prop|0,_=>False|d+1,a=>((a.op=[48]\/a.op=[115]\/a.op=[98,111,111,108])/\a.y_=[])\/(a.op=[110,97,109,101]/\a.y_=[]/\a.x_∈e_)\/(a.op=[108,105,115,116]/\∀k∈a.y_,si fs a_ e_ d k)\/(a.op=[105,110,100,101,120]/\∃l r,a.y_=[l,r]/\si fs a_ e_ d l/\si fs a_ e_ d r)\/((a.op=[45,120]\/a.op=[33,120])/\∃l,a.y_=[l]/\si fs a_ e_ d l)\/(a.op=[99,97,108,108]/\(∀k∈a.y_,si fs a_ e_ d k)/\((a.x_=[108,101,110]/\aA a.y_=1)\/(a.x_=[114,101,97,100]/\a_=WD/\aA a.y_=0)\/(a.x_≠[108,101,110]/\a.x_≠[114,101,97,100]/\a_=WD/\gD fs (dW fs a.x_)=Wy (aA a.y_))))\/(cU a.op≠9/\∃l r,a.y_=[l,r]/\si fs a_ e_ d l/\si fs a_ e_ d r)
theorem qI:∀{a:cY}{x:bQ},x∈a->dP a x<aA a|y::l,x,h=>by unfold dP;split;simp;rcases ew.1 h with rfl|h;grind;have:=qI h;grind
def oR(h:cU g≠9):g=[124,124]\/g=[38,38]\/g=[61,61]\/g=[33,61]\/g=[60]\/g=[60,61]\/g=[43]\/g=[45]\/g=[42]\/g=[47]\/g=[37]:=by grind[cU]
def B4(fs:List aC)(a_:Bool)(e_:cY)(d:Nat):Prop:=∀(a:aC) (L:Nat->gQ->Prop) (p h v:Nat) (e:Option Nat),si fs a_ e_ d a->aA e_<=v->h<=p->eV L p (p+aA (aG fs e_ d a p))->cL (gD fs) L p (aG fs e_ d a p) h v e (h+1) v e/\1<=aA (aG fs e_ d a p)
def wH{f:List aC}{c:Bool}(j:B4 f c S N):∀(l:List aC) (L:Nat->gQ->Prop) (p h v:Nat) (e:Option Nat),(∀a∈l,si f c S N a)->aA S<=v->h<=p->eV L p (p+aA (bC (aG f S N) l p))->cL (gD f) L p (bC (aG f S N) l p) h v e (h+aA l) v e/\aA l<=aA (bC (aG f S N) l p)|[],L,p,h,v,e,_,_,_,g=>⟨cL.nil _ _ _ _ _ _ (λq y i u=>ep (g.out q y i) Z) g.uniq,s_⟩|a::l,L,p,h,v,e,w,k,r,g=>by simp only[bC,et]at g⊢;obtain⟨o,n⟩:=j a L p h v e (G_) k r (mg);obtain⟨m,s⟩:=wH j l L (p+aA (aG f S N a p)) (h+1) v e (G_) k Z (mg);refine⟨?_,G_⟩;have t:h+aA (a::l)=h+1+aA l:=G_;rw[t];exact o.then m λq y i=>by have:=g.out q y i;exact Z
theorem cL.snoc{L:Nat->gQ->Prop}{c:List aO}{i:aO}(a:cL R L N c X E Q V E Q)(m:eV L N (N+aA (c++[i])))(b:eV L (N+aA c) (N+aA c+1)->cL R L (N+aA c) [i] V E Q W F P):cL R L N (c++[i]) X E Q W F P:=by refine a.then (mg) λq y l=>?_;have:=m.out q y l;grind
def vQ(Y_:a:=by rw[hc]at hL⊢;exact⟨cL.plain hL aJ hp λD T t1 t2 f b hp=>⟨b,hp,G_⟩,s_⟩):a:=Y_
def uL(g:List aC)(j:Bool)(c:cY):∀d,B4 g j c d
 |0,_,_,_,_,_,_,h,_,_,_=>h.elim|d+1,a,L,p,h,v,e,ha,H,hp,hL=>by
  have C:=uL g j c d;have aa:∀l r:aC,a.y_=[l,r]->si g j c d l->si g j c d r->∀k∈a.y_,si g j c d k:=(by grind);have w:∀i:aO,i.sg=WD->aG g c (d+1) a p=bC (aG g c d) a.y_ p++[i]->(∀k∈a.y_,si g j c d k)->(∀(t:Nat) (D:bL) (T:Nat->gQ),(T t).h=h+aA a.y_->(T t).v=v->fP D T (t+1) (h+1) (T t).v (T t).e->(T t).b=WD->(T t).h<=t->iZ (gD g) D T t i)->cL (gD g) L p (aG g c (d+1) a p) h v e (h+1) v e/\1<=aA (aG g c (d+1) a p):=λi hb hc u hi=>by rw[hc]at hL⊢;obtain⟨h1,h2⟩:=wH C a.y_ L p h v e u H hp (mg);grind[cL.snoc,cL.plain]
  rcases ha with ⟨o|o|o,u⟩|⟨o,u,X⟩|⟨o,u⟩|⟨o,l,r,u,B,K⟩|⟨o|o,l,u,B⟩|⟨o,u,hc⟩|⟨o,l,r,u,B,K⟩;have hc:aG g c (d+1) a p=[.push (bB (((dS 0 a.x_).getD 0:Nat):Int))]:=by rw[aG];simp[o]
  exact vQ;have hc:aG g c (d+1) a p=[.push (bS a.x_)]:=by rw[aG];simp[o]
  exact vQ;have hc:aG g c (d+1) a p=[.push (cG (a.x_==[116,114,117,101]))]:=by rw[aG];simp[o]
  exact vQ;have hc:aG g c (d+1) a p=[.load (dP c a.x_)]:=by rw[aG];simp[o]
  rw[hc]at hL⊢;exact⟨cL.plain hL aJ hp λD T t1 t2 f b hp=>⟨b,hp,by rw[t2];have:=qI X;exact Z,G_⟩,s_⟩;grind[aG,aO.sg,iZ];grind[aG,aO.sg,iZ];grind[aG,aO.sg,iZ];grind[aG,aO.sg,fP,iZ];rcases hc with ⟨P,E⟩|⟨P,_,E⟩|⟨S,W,_,E⟩;refine w .length aJ (by rw[aG];grind) u λt D T t1 t2 f b hp=>⟨b,hp,Z,?_⟩;grind;refine w .read aJ (by rw[aG];grind) u λt D T t1 t2 f b hp=>⟨b,hp,?_⟩;grind;refine w (.call (dW g a.x_) (aA a.y_)) aJ (by grind[aG]) u λt D T t1 t2 f b hp=>⟨b,hp,Z,E,?_⟩;grind;by_cases G:a.op=[38,38]\/a.op=[124,124];rotate_left;have V:aG g c (d+1) a p=bC (aG g c d) a.y_ p++[.binary a.op]:=by rw[aG];rcases oR o with h|h|h|h|h|h|h|h|h|h|h<;>simp[h]at G⊢
  grind[aO.sg,iZ];have hc:aG g c (d+1) a p=aG g c d l p++[.sw (a.op==[124,124]) (p+aA (aG g c d l p)+1+aA (aG g c d r (p+aA (aG g c d l p)+1))+1)]++aG g c d r (p+aA (aG g c d l p)+1)++[.ue]:=by rw[aG];grind
  generalize I:aG g c d l p=m at hc;generalize F:aG g c d r (p+aA m+1)=n at hc;rw[hc]at hL⊢;have z:aA (m++[aO.sw (a.op==[124,124]) (p+aA m+1+aA n+1)]++n++[aO.ue])=aA m+1+aA n+1:=G_;rw[z]at hL;refine⟨cL.close (q:=p+aA m+1+aA n+1) (y:=⟨h+1,v,e,WD⟩) ?_ Z Z,Z⟩;have s:eV (gU L (p+aA m+1+aA n+1) ⟨h+1,v,e,WD⟩) p (p+aA m+1+aA n):=(by grind[gU.ok]);have ⟨s1,l1⟩:=C l (gU L (p+aA m+1+aA n+1) ⟨h+1,v,e,WD⟩) p h v e B H hp mg;rw[I]at s1 l1;have ⟨s3,l3⟩:=C r (gU L (p+aA m+1+aA n+1) ⟨h+1,v,e,WD⟩) (p+aA m+1) h v e K H Z mg;rw[F]at s3 l3;have s2:cL (gD g) (gU L (p+aA m+1+aA n+1) ⟨h+1,v,e,WD⟩) (p+aA m) [.sw (a.op==[124,124]) (p+aA m+1+aA n+1)] (h+1) v e h v e:=by refine cL.one s.uniq (λy x=>ep (s.out _ _ x) Z) (λy x=>ep (s.out _ _ x) Z) λT A t1 t2 N J=>?_;refine⟨by rw[A],G_,G_,Z,?_,oF,G_,G_,G_⟩;have:=J (p+aA m+1+aA n+1) ⟨h+1,v,e,WD⟩ (dz s_);exact⟨dz ⟨_,dz ⟨aJ,aJ⟩⟩,G_,G_,G_⟩
  have s4:cL (gD g) (gU L (p+aA m+1+aA n+1) ⟨h+1,v,e,WD⟩) (p+aA m+1+aA n) [.ue] (h+1) v e (h+1) v e:=by refine cL.one s.uniq (λy x=>ep (s.out _ _ x) Z) (λy x=>?_) λT A t1 t2 N J=>⟨by rw[A],G_,G_,oF,G_,G_,G_⟩;rcases x with x|⟨_,rfl⟩;exact ep (hL.out _ _ x) Z;simp
  have M:∀q y,gU L (p+aA m+1+aA n+1) ⟨h+1,v,e,WD⟩ q y->q<=p\/p+aA m+1+aA n+1<=q:=λq y Q=>by have:=s.out q y Q;exact Z
  grind[cL.then]
def cL.entry{L:Nat->gQ->Prop}{c:List aO}(s:cL R L N c X E Wz W F P)(i:E<=V):cL R L N c X V Q W F P:=by have ⟨T,t1,t2,t3,t4,t5⟩:=s;exact⟨T,t1,t2,Z,G_,t5⟩
def cL.exit{L:Nat->gQ->Prop}{c:List aO}(s:cL R L N c X E Q V W P)(D:F<=W)(b:Bool)(B:∀y,¬L (N+aA c) y):cL R (gU L (N+aA c) ⟨V,F,Wz,b⟩) N c X E Q V F Wz:=by obtain⟨T,A,t,u,w,C,z,x,n⟩:=s;refine⟨λq=>if q=N+aA c then ⟨V,F,Wz,b⟩else T q,λq y k=>?_,?_,?_,?_,s_,s_,s_,λj i o=>?_⟩;grind[gU];grind;grind;grind;refine(n j i o).same G_ (λq k=>?_) (G_);have r:pW (gU L (N+aA c) ⟨V,F,Wz,b⟩) N (N+aA c) q:=k.imp id λ⟨y,m⟩=>⟨y,ea m⟩;grind
def cS(e_:cY)(a:aC):cY:=if a.op=[118,97,114]then (a.y_.head?.map (·.x_)).toList++e_ else e_
def sq(S:cY->aC->Prop):cY->List aC->Prop|_,[]=>True|e_,a::l=>S e_ a/\sq S (cS e_ a) l
def cO(fs:List aC):Nat->cY->aC->Prop|0,_,_=>False|d+1,e_,a=>(a.op=[118,97,114]/\aA e_<=40000/\∃t v,a.y_=[t,v]/\si fs WD e_ d v/\t.x_∉e_)\/(a.op=[115,101,116]/\a.x_∈e_/\a.y_≠[]/\∀k∈a.y_,si fs WD e_ d k)\/(a.op=[105,102]/\∃c t,(a.y_=[c,t]\/∃x,a.y_=[c,t,x]/\sq (cO fs d) e_ x.y_)/\si fs WD e_ d c/\sq (cO fs d) e_ t.y_)\/(a.op=[119,104,105,108,101]/\∃c b,a.y_=[c,b]/\si fs WD e_ d c/\sq (cO fs d) e_ b.y_)\/(a.op=[114,101,116,117,114,110]/\(a.y_=[]\/∃v,a.y_=[v]/\si fs WD e_ d v))\/(a.op=[112,114,105,110,116]/\∃v,a.y_=[v]/\si fs WD e_ d v)\/(a.op=[100,111]/\∃c,a.y_=[c]/\si fs WD e_ d c)
def B1(fs:List aC)(d:Nat):Prop:=∀(e_:cY) (a:aC) (L:Nat->gQ->Prop) (p:Nat),cO fs d e_ a->eV L p (p+(aU fs d e_ a p).1.length)->cL (gD fs) L p (aU fs d e_ a p).1 0 (aA e_) Wz 0 (aA (cS e_ a)) Wz/\(aU fs d e_ a p).2=cS e_ a/\∃r,(aU fs d e_ a p).1=.begin a.l_ e_::r
def VT(b:cY)(a:aC):aA b<=aA (cS b a):=by grind[cS]
def fY:cY->List aC->cY|e_,[]=>e_|e_,a::l=>fY (cS e_ a) l
def pY:∀(l:List aC) (b:cY),aA b<=aA (fY b l)|[],_=>fh _|a::l,b=>em (VT b a) (pY l _)
theorem qH{c:List aC}(g:B1 c N):∀(l:List aC) (b:cY) (L:Nat->gQ->Prop) (p:Nat),sq (cO c N) b l->eV L p (p+aA (bM (aU c N) b l p))->cL (gD c) L p (bM (aU c N) b l p) 0 (aA b) Wz 0 (aA (fY b l)) Wz|[],b,L,p,_,e=>cL.nil _ _ _ _ _ _ (λq y f m=>ep (e.out q y f) Z) e.uniq|a::l,b,L,p,h,e=>by simp [bM]at e⊢;obtain⟨j,i,_⟩:=g b a L p h.1 (mg);rw[i]at e⊢;have k:=qH g l (cS b a) L (p+(aU c N b a p).1.length) h.2 (mg);exact j.then k λq y f=>by have:=e.out q y f;exact Z
def cL.q_{ar:Nat->Option Nat}{L:Nat->gQ->Prop}{p l:Nat}{e_:cY}(a:∀q y z,L q y->L q z->y=z)(b:∀y,L p y->y=⟨0,aA e_,Wz,W1⟩)(g:∀y,¬L (p+1) y):cL ar L p [.begin l e_] 0 (aA e_) Wz 0 (aA e_) (Wy (aA e_)):=cL.one a b (G_) λT c f d e _=>⟨by rw[c],G_,G_,oF,G_,G_,G_⟩
def Mt(i j:aO)(c:List aO):aA (i::c++[j])=aA c+2:=s_
def cL.stmt{L:Nat->gQ->Prop}{n:Nat}{c:List aO}{i:aO}(b:eV L N (N+aA (aO.begin X S::c++[i]))) (o:cL R L (N+1) c 0 (aA S) (Wy (aA S)) n (aA S) (Wy (aA S))) (k:eV L (N+1+aA c) (N+1+aA c+1)->cL R L (N+1+aA c) [i] n (aA S) (Wy (aA S)) 0 E Wz):cL R L N (aO.begin X S::c++[i]) 0 (aA S) Wz 0 E Wz:=by
 rw[Mt]at b;have j:cL R L N [.begin X S] 0 (aA S) Wz 0 (aA S) (Wy (aA S)):=cL.q_ b.uniq (λy f=>ep (b.out _ _ f) Z) (λy f=>ep (b.out _ _ f) Z);have h:=j.then (c':=c) o λq y e=>by have:=b.out q y e;grind
 have m:=h.then (c':=[i]) (by rw[show N+aA ([aO.begin X S]++c)=N+1+aA c by grind];exact k (mg)) λq y e=>by have:=b.out q y e;grind
 exact m
def cL.last{L:Nat->gQ->Prop}{n:Nat}{i:aO}(a:eV L N (N+1))(g:i.sg=WD)(f:n<=N) (h:∀(D:bL) (T:Nat->gQ),T N=⟨n,X,Q,WD⟩->D (N+1)->(T (N+1)).h=0->(T (N+1)).v=E->(T (N+1)).e=Wz->(T N).h<=N->iZ R D T N i):cL R L N [i] n X Q 0 E Wz:=cL.one a.uniq (λy b=>ep (a.out _ _ b) Z) (λy b=>ep (a.out _ _ b) Z) (by grind[pW])
theorem sS{c:List aC}{a:aC}{L:Nat->gQ->Prop}{p:Nat}{e:Option Nat}(f:si c WD S N a)(h:0<p)(g:eV L p (p+aA (aG c S N a p))):cL (gD c) L p (aG c S N a p) 0 (aA S) e 1 (aA S) e/\1<=aA (aG c S N a p):=uL c WD S N a L p 0 (aA S) e f (Z) Z g
def eV.none{L:Nat->gQ->Prop}{q:Nat}(h:eV L N X)(e:N<=q)(d:q<=X)(y:gQ):¬L q y:=λc=>by have:=h.out q y c;exact Z
def cL.ifs{L:Nat->gQ->Prop}{p l v1 v2:Nat}{c e n:List aO}
 (z:eV L p (p+1+aA c+1+aA e+1+aA n))
 (I:∀h,eV h (p+1) (p+1+aA c)->cL R h (p+1) c 0 (aA S) (Wy (aA S)) 1 (aA S) (Wy (aA S)))
 (G:∀h,eV h (p+1+aA c+1) (p+1+aA c+1+aA e)->cL R h (p+1+aA c+1) e 0 (aA S) Wz 0 v1 Wz) (N:aA S<=v1)
 (M:∀h,eV h (p+1+aA c+1+aA e+1) (p+1+aA c+1+aA e+1+aA n)->cL R h (p+1+aA c+1+aA e+1) n 0 (aA S) Wz 0 v2 Wz) (J:aA S<=v2):
 cL R L p (aO.begin l S::c++[.skip (p+1+aA c+1+aA e+1)]++e++[.jump (p+1+aA c+1+aA e+1+aA n)]++n) 0 (aA S) Wz 0 (aA S) Wz:=by
 generalize H:p+1+aA c+1+aA e+1=q at*;generalize K:q+aA n=r at*;have s:eV (gU L r ⟨0,aA S,Wz,WD⟩) p (r-1):=(by grind [gU.ok])
 have m:cL R (gU L r ⟨0,aA S,Wz,WD⟩) p (aO.begin l S::c++[aO.skip q]++e++[aO.jump r]) 0 (aA S) Wz 0 (aA S) Wz:=by
  have i:p+aA (aO.begin l S::c++[aO.skip q]++e++[aO.jump r])=q:=G_
  rcases Nat.eq_or_lt_of_le (show q<=r by omega)with o|o
  ·-- there is no else:one label
   subst o;have d :=s;have C:=cL.q_ (ar:=R) (l:=l) (p:=p) (e_:=S) d.uniq (λy b=>ep (d.out _ _ b) Z) (λy b=>ep (d.out _ _ b) Z)
   have w:=C.then (c':=c) (I _ (d.sub Z Z)) λx y f=>by have:=d.out x y f;grind
   have A:p+aA ([aO.begin l S]++c)=p+1+aA c:=G_
   have D:=w.then (c':=[aO.skip q]) (by
    rw[A];refine cL.one (h':=0) (v':=S.length) (e':=Wy (aA S)) d.uniq (λy b=>ep (d.out _ _ b) Z) (λy b=>ep (d.out _ _ b) Z) λT k B t u j=>?_
    have b:=j q ⟨0,aA S,Wz,WD⟩ (dz s_)
    exact⟨by rw[k],G_,G_,Z,⟨dz ⟨_,dz ⟨rfl,rfl⟩⟩,G_,G_,G_⟩,oF,G_,G_,G_⟩)
    λx y f=>by have:=d.out x y f;grind
   have E:p+aA ([aO.begin l S]++c++[aO.skip q])=p+1+aA c+1:=G_
   have v:=D.then (c':=e) (by rw[E];exact(G _ (mg)).entry (Z)) λx y f=>by have:=d.out x y f;exact Z
   have F:p+aA ([aO.begin l S]++c++[aO.skip q]++e)=p+1+aA c+1+aA e:=G_
   exact v.then (c':=[aO.jump q]) (by
    rw[F];refine cL.one d.uniq (λy b=>ep (d.out _ _ b) Z) (λy b=>?_) λT k B t u j=>?_
    .rw[show p+1+aA c+1+aA e+1=q from H]at b
     rcases b with b|⟨_,rfl⟩
     .exact ep b (z.none Z Z y)
     simp
    .have b:=j q ⟨0,aA S,Wz,WD⟩ (dz s_)
     exact⟨by rw[k],G_,Z,(by grind [pW]),G_,G_,G_⟩)
    λx y f=>by have:=d.out x y f;grind
  refine cL.close (q:=q) (y:=⟨0,aA S,Wz,WD⟩) ?_ Z Z;have d:eV (gU (gU L r ⟨0,aA S,Wz,WD⟩) q ⟨0,aA S,Wz,WD⟩) p (q-1):=(by grind [gU.ok])
  have C:=cL.q_ (ar:=R) (l:=l) (p:=p) (e_:=S) d.uniq (λy b=>ep (d.out _ _ b) Z) (λy b=>ep (d.out _ _ b) Z)
  have w:=C.then (c':=c) (I _ (d.sub Z Z)) λx y f=>by have:=d.out x y f;grind
  have A:p+aA ([aO.begin l S]++c)=p+1+aA c:=G_
  have D:=w.then (c':=[aO.skip q]) (by
   rw[A];refine cL.one (h':=0) (v':=S.length) (e':=Wy (aA S)) d.uniq (λy b=>ep (d.out _ _ b) Z) (λy b=>ep (d.out _ _ b) Z) λT k B t u j=>?_
   have b:=j q ⟨0,aA S,Wz,WD⟩ (dz s_)
   exact⟨by rw[k],G_,G_,Z,⟨dz ⟨_,dz ⟨rfl,rfl⟩⟩,G_,G_,G_⟩,oF,G_,G_,G_⟩)
   λx y f=>by have:=d.out x y f;grind
  have E:p+aA ([aO.begin l S]++c++[aO.skip q])=p+1+aA c+1:=G_
  have v:=D.then (c':=e) (by rw[E];exact(G _ (mg)).entry (Z)) λx y f=>by have:=d.out x y f;exact Z
  have F:p+aA ([aO.begin l S]++c++[aO.skip q]++e)=p+1+aA c+1+aA e:=G_
  exact v.then (c':=[aO.jump r]) (by
   rw[F];refine cL.one d.uniq (λy b=>ep (d.out _ _ b) Z) (λy b=>?_) λT k B t u j=>?_
   .rw[show p+1+aA c+1+aA e+1=q from H]at b
    rcases b with (b|⟨b,_⟩)|⟨_,rfl⟩
    .exact ep b (z.none Z Z y)
    .exact Z
    simp
   .have b:=j r ⟨0,aA S,Wz,WD⟩ ((by grind [gU]))
    exact⟨by rw[k],G_,Z,dz ⟨_,ea (dz ⟨rfl,rfl⟩)⟩,G_,G_,G_⟩)
   λx y f=>by have:=d.out x y f;grind
 have i:p+aA (aO.begin l S::c++[aO.skip q]++e++[aO.jump r])=q:=G_
 refine cL.close (q:=r) (y:=⟨0,aA S,Wz,WD⟩) ?_ Z G_
 refine m.then (c':=n) ?_ λx y f=>by have:=s.out x y f;exact Z
 rw[i];have:=(M L (mg)).exit J WD (by rw[K];exact z.none Z (Z))
 grind
def cL.Ck{L:Nat->gQ->Prop}{p l v1:Nat}{c e:List aO} (m:eV L p (p+1+aA c+1+aA e+1)) (E:∀h,eV h (p+1) (p+1+aA c)->cL R h (p+1) c 0 (aA S) (Wy (aA S)) 1 (aA S) (Wy (aA S))) (s:∀h,eV h (p+1+aA c+1) (p+1+aA c+1+aA e)->cL R h (p+1+aA c+1) e 0 (aA S) Wz 0 v1 Wz) (F:aA S<=v1):cL R L p (aO.begin l S::c++[.skip (p+1+aA c+1+aA e+1)]++e++[aO.jump p]) 0 (aA S) Wz 0 (aA S) Wz:=by
 generalize t:p+1+aA c+1+aA e+1=q at*;have k:p+aA (aO.begin l S::c++[aO.skip q]++e++[aO.jump p])=q:=G_;refine cL.close (q:=p) (y:=⟨0,aA S,Wz,W1⟩) (cL.close (q:=q) (y:=⟨0,aA S,Wz,WD⟩) ?_ Z Z) Z Z;have v:eV (gU L p ⟨0,aA S,Wz,W1⟩) (p+1) q:=(by grind[gU.ok]);have d:eV (gU (gU L p ⟨0,aA S,Wz,W1⟩) q ⟨0,aA S,Wz,WD⟩) (p+1) (q-1):=(by grind[gU.ok]);have A:=cL.q_ (ar:=R) (l:=l) (p:=p) (e_:=S) d.uniq (λy b=>by rcases b with (b|⟨_,rfl⟩)|⟨b,_⟩;exact ep b (m.none Z Z y);rfl;exact Z) (λy b=>ep (d.out _ _ b) Z);have u:=A.then (c':=c) (E _ (d.sub Z Z)) λx y f=>by have:=d.out x y f;grind
 have w:p+aA ([aO.begin l S]++c)=p+1+aA c:=G_;have B:=u.then (c':=[aO.skip q]) (by rw[w];refine cL.one (h':=0) (v':=S.length) (e':=Wy (aA S)) d.uniq (λy b=>ep (d.out _ _ b) Z) (λy b=>ep (d.out _ _ b) Z) λT j z n o i=>?_;have b:=i q ⟨0,aA S,Wz,WD⟩ (dz s_);exact⟨by rw[j],G_,G_,Z,⟨dz ⟨_,dz ⟨rfl,rfl⟩⟩,G_,G_,G_⟩,oF,G_,G_,G_⟩) λx y f=>by have:=d.out x y f;grind
 have C:p+aA ([aO.begin l S]++c++[aO.skip q])=p+1+aA c+1:=G_;have r:=B.then (c':=e) (by rw[C];exact(s _ (mg)).entry (Z)) λx y f=>by have:=d.out x y f;exact Z
 have D:p+aA ([aO.begin l S]++c++[aO.skip q]++e)=p+1+aA c+1+aA e:=G_;exact r.then (c':=[aO.jump p]) (by rw[D];refine cL.one d.uniq (λy b=>ep (d.out _ _ b) Z) (λy b=>?_) λT j z n o i=>?_;rw[show p+1+aA c+1+aA e+1=q from t]at b;rcases b with (b|⟨b,_⟩)|⟨_,rfl⟩;exact ep b (m.none Z Z y);exact Z;simp;have b:=i p ⟨0,aA S,Wz,W1⟩ ((by grind[gU]));exact⟨by rw[j],G_,G_,dz ⟨_,ea (dz ⟨rfl,rfl⟩)⟩,G_,G_,G_⟩) λx y f=>by have:=d.out x y f;grind
def vO(Y_:a:=by rw[hs]at hL⊢;rw[hn];simp only at hL⊢;obtain⟨s1,l1⟩:=sS (L:=L) (p:=p+1) (e:=Wy (aA e_)) hv Z (mg);refine⟨cL.stmt hL s1 λhl=>cL.last hl aJ Z λD T t0 d1 t1 t2 t3 tp=>⟨by rw[t0];rfl,tp,?_⟩,trivial,_,rfl⟩;grind[fP]):a:=Y_
def pJ(g:List aC):∀d,B1 g d
 |0,_,_,_,_,h,_=>h.elim|d+1,e_,a,L,p,C,hL=>by
  have B:=pJ g d;rcases C with ⟨k,w,t,v,i,hv,_⟩|⟨k,r,u,i⟩|⟨k,c,t,i,E,G⟩|⟨k,c,b,i,E,w⟩|⟨k,i|⟨v,i,hv⟩⟩|⟨k,v,i,hv⟩|⟨k,v,i,hv⟩;have hs:aU g (d+1) e_ a p=(aO.begin a.l_ e_::aG g e_ d v (p+1)++[aO.declare (aA e_)],t.x_::e_):=by rw[aU];grind
  have hn:cS e_ a=t.x_::e_:=by grind[cS]
  exact vO;have hs:aU g (d+1) e_ a p=(aO.begin a.l_ e_::bC (aG g e_ d) a.y_ (p+1)++[aO.assign (dP e_ a.x_) (aA a.y_-1)],e_):=by rw[aU];simp[k]
  have hn:cS e_ a=e_:=by grind[cS]
  rw[hs]at hL⊢;rw[hn];simp only at hL⊢;have ⟨s1,l1⟩:=wH (uL g WD e_ d) a.y_ L (p+1) 0 (aA e_) (Wy (aA e_)) i (Z) Z (mg);rw[ic]at s1;have s:0<aA a.y_:=(by grind);refine⟨cL.stmt hL s1 λhl=>cL.last hl aJ Z λD T t0 d1 t1 t2 t3 tp=>⟨by rw[t0];rfl,tp,?_⟩,trivial,_,rfl⟩;rw[t0];refine⟨?_,qI r,d1,?_,G_,ea t3⟩;grind;grind;have hn:cS e_ a=e_:=by grind[cS]
  rw[hn];have ⟨m,hs,he⟩:∃m,aU g (d+1) e_ a p=(aO.begin a.l_ e_::aG g e_ d c (p+1)++[aO.skip (p+1+aA (aG g e_ d c (p+1))+1+aA (bM (aU g d) e_ t.y_ (p+1+aA (aG g e_ d c (p+1))+1))+1)]++bM (aU g d) e_ t.y_ (p+1+aA (aG g e_ d c (p+1))+1)++[aO.jump (p+1+aA (aG g e_ d c (p+1))+1+aA (bM (aU g d) e_ t.y_ (p+1+aA (aG g e_ d c (p+1))+1))+1+aA m)]++m,e_)/\∃v2,aA e_<=v2/\∀l,eV l (p+1+aA (aG g e_ d c (p+1))+1+aA (bM (aU g d) e_ t.y_ (p+1+aA (aG g e_ d c (p+1))+1))+1) (p+1+aA (aG g e_ d c (p+1))+1+aA (bM (aU g d) e_ t.y_ (p+1+aA (aG g e_ d c (p+1))+1))+1+aA m)->cL (gD g) l (p+1+aA (aG g e_ d c (p+1))+1+aA (bM (aU g d) e_ t.y_ (p+1+aA (aG g e_ d c (p+1))+1))+1) m 0 (aA e_) Wz 0 v2 Wz:=by rcases i with i|⟨x,i,r⟩;refine⟨[],by rw[aU];grind,aA e_,Z,λl j=>cL.nil _ _ _ _ _ _ (λq y z F=>ep (j.out q y z) Z) j.uniq⟩;exact⟨_,by rw[aU];grind,_,pY x.y_ e_,λl j=>qH B x.y_ e_ l _ r j⟩
  have ⟨v2,hv2,he⟩:=he;rw[hs]at hL⊢;simp only at hL⊢;refine⟨cL.ifs (v1:=(fY e_ t.y_).length) (v2:=v2) ?_ ((by grind[sS])) ((by grind[qH])) (pY _ _) he hv2,trivial,_,rfl⟩;grind;have hs:aU g (d+1) e_ a p=(aO.begin a.l_ e_::aG g e_ d c (p+1)++[aO.skip (p+1+aA (aG g e_ d c (p+1))+1+aA (bM (aU g d) e_ b.y_ (p+1+aA (aG g e_ d c (p+1))+1))+1)]++bM (aU g d) e_ b.y_ (p+1+aA (aG g e_ d c (p+1))+1)++[aO.jump p],e_):=by rw[aU];grind
  have hn:cS e_ a=e_:=by grind[cS]
  rw[hs]at hL⊢;rw[hn];simp only at hL⊢;refine⟨cL.Ck (v1:=(fY e_ b.y_).length) ?_ ((by grind[sS])) ((by grind[qH])) (pY _ _),trivial,_,rfl⟩;grind;have hs:aU g (d+1) e_ a p=(aO.begin a.l_ e_::[aO.push (bB 0)]++[aO.tw],e_):=by rw[aU];grind
  have hn:cS e_ a=e_:=by grind[cS]
  rw[hs]at hL⊢;rw[hn];simp only at hL⊢;have o:eV L (p+1) (p+2):=(by grind[eV.sub]);refine⟨cL.stmt (n:=1) hL (cL.plain o aJ Z λD T t1 t2 f b A=>⟨b,A,G_⟩) λhl=>cL.last hl rfl Z λD T t0 d1 t1 t2 t3 tp=>⟨by rw[t0];rfl,tp,G_⟩,trivial,_,rfl⟩;have hs:aU g (d+1) e_ a p=(aO.begin a.l_ e_::aG g e_ d v (p+1)++[aO.tw],e_):=by rw[aU];grind
  have hn:cS e_ a=e_:=by grind[cS]
  rw[hs]at hL⊢;rw[hn];simp only at hL⊢;have ⟨s1,l1⟩:=sS (L:=L) (p:=p+1) (e:=Wy (aA e_)) hv Z (mg);exact⟨cL.stmt hL s1 λhl=>cL.last hl aJ Z λD T t0 d1 t1 t2 t3 tp=>⟨by rw[t0];rfl,tp,G_⟩,trivial,_,rfl⟩;have hs:aU g (d+1) e_ a p=(aO.begin a.l_ e_::aG g e_ d v (p+1)++[aO.print],e_):=by rw[aU];grind
  have hn:cS e_ a=e_:=by grind[cS]
  exact vO;have hs:aU g (d+1) e_ a p=(aO.begin a.l_ e_::aG g e_ d v (p+1)++[aO.drop],e_):=by rw[aU];grind
  have hn:cS e_ a=e_:=by grind[cS]
  exact vO
structure gY(fs:List aC)(d:Nat)(f:aC):Prop where
 y_:∃ps b,f.y_=ps++[b]/\sq (cO fs d) (ps.map (·.x_)).reverse b.y_/\(ps.map (·.x_)).Nodup
 len:(fQ fs d f).code.length<=80000
def Vj{m:List aC}{f:aC}(h:gY m N f):∃T,oK (gD m) (fQ m N f).code T/\(T 0).h=0/\(T 0).v<=aA f.y_-1/\(T 0).e=Wz/\iY (fQ m N f).code:=by
 have ⟨⟨ps,b,hk,hb,_⟩,hl⟩:=h;have n:(fQ m N f).code=bM (aU m N) (ps.map (·.x_)).reverse b.y_ 0++[.push (bB 0),.tw]:=by simp[fQ,hk]
 have y:aA f.y_-1=(ps.map (·.x_)).reverse.length:=by simp[hk]
 rw[y];generalize v:(ps.map (·.x_)).reverse=e at*;have x:=qH (pJ m N) b.y_ e (λ_ _=>False) 0 hb ⟨s_,s_⟩;have t:iY (fQ m N f).code:=by rw[n];cases u:b.y_ with|nil=>exact dz ⟨_,aJ⟩|cons a l=>rw[u]at hb;have ⟨r,hr⟩:=(pJ m N e a (λ_ _=>False) 0 hb.1 ⟨s_,s_⟩).2.2;grind[bM,iY]
 generalize A:bM (aU m N) e b.y_ 0=c at*;have ⟨T,t1,t2,t3,t4,t5,t6,t7,t8⟩:=x;rw[ic]at t5 t6 t7;have s:(fQ m N f).code.length=aA c+2:=G_;let B:Nat->gQ:=λq=>if q=aA c then ⟨0,(T q).v,Wz,WD⟩else if q=aA c+1 then ⟨1,(T (aA c)).v,Wz,WD⟩else T q;have u0:B (aA c)=⟨0,(T (aA c)).v,Wz,WD⟩:=by simp[B]
 have u1:B (aA c+1)=⟨1,(T (aA c)).v,Wz,WD⟩:=by simp[B]
 have u2:∀q,q<aA c->B q=T q:=(by grind);have w:(T 0).e=Wz:=G_;have p:(B 0).h=0/\(B 0).v<=aA e/\(B 0).e=Wz:=by grind
 refine⟨B,⟨λj i g=>?_,hl⟩,p.1,p.2.1,p.2.2,t⟩;rw[s];rw[n]at g;rcases gw j (aA c) with o|o;rw[jy o]at g;have:=t8 j i g;simp[ic]at this;refine this.same (T':=B) (u2 j o) (λq z=>?_) (G_);grind[pW];rw[jb o]at g;obtain⟨k,rfl⟩:∃k,j=aA c+k:=⟨j-aA c,Z⟩;rw[kk]at g;match k,g with|0,g=>simp at g;subst g;show iZ _ _ B (aA c) _;exact⟨by rw[u0];rfl,G_,Z,G_,G_,G_⟩|1,g=>simp at g;subst g;exact⟨by rw[u1];rfl,G_,G_⟩|k+2,g=>simp at g
def nX{a:List aC}(h:∀f∈a,gY a N f):mT (gD a) (dX a N):=by refine⟨λk n c=>?_⟩;unfold gD at c;cases b:a[k]? with|none=>grind|some f=>have ⟨T,h1,h2,h3,h4,h5⟩:=Vj (h f (jz b));grind[dX]
def uG{b:List aC}(h:∀f∈b,gY b N f)(c:gD b (dW b [109,97,105,110])=Wy 0)(a:List Int):iR (gD b) (jW b N a):=by
 have ⟨f,T,h1,h2,h3,h4,h5,h6⟩:=(nX h).fn _ _ c;have e:jW b N a=⟨[]++[⟨f,0,0,[],[],[]⟩],a,[]⟩:=by unfold jW;grind
 rw[e];refine⟨sB.snoc (s_) ⟨G_,?_,s_,s_⟩ s_,G_⟩;grind[iY]
inductive eU:bQ->Prop
 |nil:eU []
 |cons {l:bQ}:bY l≠0->eU (l.drop (bY l))->eU l
theorem Oc(h:f[N]?=g[N]?):iW f N X E=iW g N X E:=by unfold iW;rw[h]
def sA(h:bY g≠0)(a:∀i,i<bY g->f[i]?=g[i]?):bY f=bY g:=by have c:=a 0 Z;unfold bY at h a⊢;rw[c];cases d:g[0]? with|none=>simp|some b=>grind[Oc]
def lB(o t:bQ):Prop:=(o=[115]->aA t<=100/\eU t)/\(o=[48]->(∀c∈t,dM c=W1)/\aA t<=100000)
theorem lB.no(h:g≠[115])(a:g≠[48]):lB g f:=(by grind[lB])
end Go.Proofs.YthlhecfcnfjecaaGreatDoor.Hs
namespace Go.Proofs.YthlhecfcnfjecaaGreatDoor
open Hs
def sV:Nat->aC->Prop|0,_=>True|d+1,a=>lB a.op a.x_/\aA a.y_<=1000000/\∀k∈a.y_,sV d k
def jX(a:aC):Prop:=∀e,sV e a
theorem jX.uz{a k:aC}(h:jX a)(b:k∈a.y_):jX k:=λe=>(h (e+1)).2.2 k b
theorem jX.len{a:aC}(h:jX a):aA a.y_<=1000000:=(h 1).2.1
end Go.Proofs.YthlhecfcnfjecaaGreatDoor
namespace Go.Proofs.YthlhecfcnfjecaaGreatDoor.Hs
variable{I:Bool}{N:List aC}{D:Nat}{v:Type}{C:aC}{g j:aE}{f:aI}{z:aO}{e:aO->Prop}{i:bK}{b r:bQ}{E:cY}
theorem vL(h:bY r≠0):bY (r++b)=bY r:=sA h λ_ c=>jy ((by grind[qU]))
def zB(h:bY r≠0):bY (r.take (bY r))=bY r:=sA h λi a=>by grind
theorem eU.append(c:eU r)(d:eU b):eU (r++b):=by induction c with|nil=>exact d|@cons l f _ e=>apply eU.cons (by grind[vL]);grind[vL,qU]
theorem eU.one{l:bQ}(h:bY l≠0):eU (l.take (bY l)):=eU.cons (by rw[zB h];exact h) (by rw[zB h,List.drop_take];simp;exact eU.nil)
def eU.ne(h:eU r)(a:r≠[]):bY r≠0/\eU (r.drop (bY r)):=by cases h with|nil=>grind|cons c b=>grind
def ZV:∀(n:Nat) (l:bQ),aA l<=n->∀c∈eE l,eU c:=by intro n;induction n with|zero=>grind[gF]|succ n e=>intro l f c d;by_cases b:l=[];grind;by_cases a:bY l=0;grind[gF];rw[kG b a]at d;grind[eU.one]
def QM:Nat->aE->Prop|0,_=>True|d+1,v=>eU v.s/\∀x∈v.l,QM d x
structure cT(v:aE):Prop where
 all:∀d,QM d v
theorem cT.Ec(h:cT g):eU g.s:=(h.all 1).1
theorem cT.uz(h:cT g)(a:j∈g.l):cT j:=⟨λd=>(h.all (d+1)).2 j a⟩
theorem cT.mk'(a:eU g.s)(b:∀x∈g.l,cT x):cT g:=⟨λd=>by cases d with|zero=>trivial|succ d=>grind[cT.all,QM]⟩
theorem cT.num(n:Int):cT (bB n):=.mk' .nil λx a=>by cases a
theorem cT.yo(b:Bool):cT (cG b):=.mk' .nil λx a=>by cases a
theorem cT.nil:cT aZ:=.mk' .nil λx a=>by cases a
theorem cT.str(h:eU r):cT (bS r):=(by grind[cT.mk',bS])
theorem cT.wa{l:List aE}(h:∀x∈l,cT x):cT (bG l):=.mk' .nil h
theorem EI{l:List aE}(h:∀x∈l,cT x)(k:Nat):cT (l.getD k aZ):=by grind[cT.nil]
theorem IN{l:List aE}(h:∀x∈l,cT x)(k:Nat):cT (l[k]?.getD aZ):=by grind[cT.nil]
theorem K9(b:bQ)(a:aE):cT (dH b a).1:=by
 unfold dH;repeat' split
 all_goals first|exact cT.num _|exact cT.yo _|exact cT.nil
theorem XR(a:bQ)(x y:Int):cT (jD a x y).1:=by
 unfold jD;repeat' split
 all_goals first|exact cT.num _|exact cT.yo _|exact cT.nil
theorem MV(c:cT g)(d:cT j):cT (fZ g j).1:=by grind[fZ,cT.wa,cT.uz,cT.str,eU.append,cT.Ec,cT.nil]
theorem D7(c:bQ)(d:cT g)(e:cT j):cT (dJ c g j).1:=by grind[dJ,cT.yo,cT.nil,XR,MV]
theorem MS(a:aE):cT (dO a).1:=by
 unfold dO;repeat' split
 all_goals first|exact cT.num _|exact cT.nil
theorem SI(b:aE)(e:cT g):cT (cB g b).1:=by unfold cB;split;exact cT.nil;split;exact cT.nil;refine EI (λx d=>?_) _;unfold kL at d;split at d;obtain⟨c,f,rfl⟩:=iw.1 d;exact cT.str (ZV _ _ lZ c f);exact e.uz d
theorem xF:∀(l:List aE) (a b:aE),cT a->cT b->cT (cJ l a b).1|[],_,_,_,c=>c|i::l,a,b,e,c=>by unfold cJ;have d:=xF l (a.l.getD i.n.toNat aZ) b ((by grind[EI,cT.uz])) c;grind[cT.nil,cT.wa,cT.uz]
theorem SA{r:aE×Nat}(h:cT r.1):cT (jH r).1:=by grind[jH,cT.nil]
def xL(f:eL):Prop:=(∀v,aO.push v∈f.code->cT v)/\∀op,aO.unary op∈f.code->op=[45]\/op=[33]
structure cC(f:aI):Prop where
 fn:xL f.fn
 g_:∀v∈f.g_,cT v
 ops:∀v∈f.ops,cT v
def iQ(m:dC):Prop:=∀f∈m.f_,cC f
def lH(tz:List eL):Prop:=∀f∈tz,xL f
theorem cC.last(h:cC f):cT f.last:=by grind[aI.last,cT.nil,cC.ops]
theorem cC.pop(h:cC f):cC f.pop:=⟨h.fn,h.g_,λv a=>h.ops v (List.dropLast_subset _ a)⟩
theorem cC.n_(h:cC f)(n:Nat):cC (f.n_ n):=⟨h.fn,h.g_,(by grind[cC.ops,aI.n_])⟩
theorem cC.push(h:cC f){a:aE}(b:cT a):cC (f.push a):=⟨h.fn,h.g_,(by grind[cC.ops,aI.push])⟩
theorem cC.next(h:cC f)(n:Nat):cC {f with next:=n}:=⟨h.fn,h.g_,h.ops⟩
theorem cC.many(h:cC f)(n:Nat):∀v∈f.many n,cT v:=(by grind[cC.ops,aI.many])
def KN(h:cC f)(c:∀v,z=.push v->cT v):cC (aS z f).1:=by
 cases z<;>simp [aS];case begin l s=>exact⟨h.fn,h.g_,h.ops⟩
 case push v=>exact h.push (c v aJ)
 case load k=>exact h.push (IN h.g_ k)
 case declare k=>refine⟨h.fn,λv b=>?_,h.pop.ops⟩;grind[cC.g_,cC.last]
 case assign k n=>have a:=h.pop.n_ n;split;refine⟨a.fn,λv b=>?_,a.ops⟩;grind[cC.g_,SA,xF,IN,cC.last,jJ];exact Z
 case jump t=>exact h.next t
 case skip t=>grind[cC.pop,cC.next]
 case sw w t=>grind[cC.next,cC.push,cC.pop,cC.last]
 case ue=>grind[cC.push,cC.pop,cC.last]
 case unary op=>grind[cC.push,cC.pop,K9]
 case binary op=>grind[cC.push,cC.pop,D7,cC.last]
 case index=>grind[cC.push,cC.pop,SI,cC.last]
 case list n=>grind[cC.push,cC.n_,cT.wa,cC.many,jH]
 case length=>grind[cC.push,cC.pop,MS]
 case drop=>exact h.pop
 all_goals exact h
def KR{d:List eL}(p:lH d){b:List aI}{g:aI}{t:List Int}(h:iQ ⟨b++[f],t,E⟩)(u:f.tr=Wy (z,g)):iQ (cF d z b g t E).1:=by
 have q:∀x∈b,cC x:=(by grind[iQ]);have hf0:=h f s_;obtain⟨rfl,w⟩:g={f with next:=f.next+1}/\f.fn.code[f.next]?=Wy z:=by grind[aI.tr]
 have j:cC {f with next:=f.next+1}:=hf0.next _;have l:∀v,z=.push v->cT v:=λv e=>hf0.fn.1 v G_;have c:∀y,cC y->∀t E,iQ ⟨b++[y],t,E⟩:=(by grind[iQ]);cases z;case read=>cases t with|nil=>exact c _ j _ _|cons a r=>exact c _ (j.push (cT.num _)) _ _
 case call k n=>simp [cF];split;grind[cC.n_];intro x m;simp at m;rcases m with s|rfl|rfl;grind;exact j.n_ n;refine⟨?_,j.many n,s_⟩;grind[xL,lH]
 case tw=>grind[cF,List.dropLast_subset,cC.push,cC.last,iQ]
 case print=>grind[cF,cC.pop]
 all_goals exact c _ (KN j l) _ _
inductive fB:aC->Prop
 |leaf (a:aC) (h:a.op=[48]\/a.op=[115]\/a.op=[98,111,111,108]\/a.op=[110,97,109,101]) (hk:a.y_=[]) (ht:lB a.op a.x_):fB a
 |many (a:aC) (h:a.op=[108,105,115,116]\/a.op=[99,97,108,108]) (hk:∀k∈a.y_,fB k):fB a
 |one (a l:aC) (h:a.op=[45,120]\/a.op=[33,120]) (hk:a.y_=[l]) (hl:fB l):fB a
 |two (a l r:aC) (h:a.op=[105,110,100,101,120]\/cU a.op≠9) (hk:a.y_=[l,r]) (hl:fB l) (hr:fB r):fB a
inductive kI:aC->Prop
 |var (a t v:aC) (h:a.op=[118,97,114]) (hk:a.y_=[t,v]) (hv:fB v) (ht:t.op=[116,97,114,103,101,116]/\t.y_=[]):kI a
 |set (a:aC) (h:a.op=[115,101,116]) (hn:a.y_≠[]) (hk:∀k∈a.y_,fB k):kI a
 |Dx (a c t:aC) (h:a.op=[105,102]) (hk:a.y_=[c,t]) (hc:fB c) (ht:t.op=[98,108,111,99,107]) (htk:∀k∈t.y_,kI k):kI a
 |Dv (a c t x:aC) (h:a.op=[105,102]) (hk:a.y_=[c,t,x]) (hc:fB c) (ht:t.op=[98,108,111,99,107]) (htk:∀k∈t.y_,kI k) (hx:x.op=[98,108,111,99,107]) (hxk:∀k∈x.y_,kI k):kI a
 |Dq (a c t:aC) (h:a.op=[119,104,105,108,101]) (hk:a.y_=[c,t]) (hc:fB c) (ht:t.op=[98,108,111,99,107]) (htk:∀k∈t.y_,kI k):kI a
 |Bk (a:aC) (h:a.op=[114,101,116,117,114,110]) (hk:a.y_=[]):kI a
 |Bn (a v:aC) (h:a.op=[114,101,116,117,114,110]) (hk:a.y_=[v]) (hv:fB v):kI a
 |print (a v:aC) (h:a.op=[112,114,105,110,116]) (hk:a.y_=[v]) (hv:fB v):kI a
 |call (a c:aC) (h:a.op=[100,111]) (hk:a.y_=[c]) (hc:fB c) (ho:c.op=[99,97,108,108]):kI a
structure EF(b:aC):Prop where
 op:b.op=[98,108,111,99,107]
 y_:∀k∈b.y_,kI k
structure xM(f:aC):Prop where
 y_:∃ps b,f.y_=ps++[b]/\(∀x∈ps,x.op=[112,97,114,97,109])/\EF b/\∀x∈ps,x.y_=[]
def cN{α:Type}(P:α->Prop)(r:bU α):Prop:=∀a q,r=.ok (a,q)->P a
def cN.err{P:v->Prop}:cN P (.error D):=λa q h=>by cases h
theorem cN.bad{P:v->Prop}{b:List bH}:cN P (bad b D):=λa q h=>by cases h
def cN.tf{P:v->Prop}{a:v}(h:P a):cN P (.ok (a,D)):=(by grind[cN])
theorem cN.take{P:v->Prop}{ts:List bH}{x:bQ}{r:bU v}(h:cN P r):cN P (aQ ts x r):=by cases r with|error l=>exact cN.err|ok b=>grind[aQ,cN.bad,cN]
def cN.map{c:Type}{P:v->Prop}{Q:c->Prop}{r:bU v}{f:v->c}(h:cN P r)(e:∀a,P a->Q (f a)):cN Q (bV f r):=by cases r with|error l=>exact cN.err|ok d=>grind[cN,bV]
theorem cN.bind{c:Type}{P:v->Prop}{Q:c->Prop}{r:bU v}{f:v->Nat->bU c}(h:cN P r)(d:∀a q,P a->cN Q (f a q)):cN Q (bN r f):=by cases r with|error l=>exact cN.err|ok e=>grind[cN,bN]
def iI(P:aC->Prop)(l:List aC):Prop:=∀k∈l,P k
def iI.nil{P:aC->Prop}:iI P []:=λ_ h=>by cases h
def iI.snoc{P:aC->Prop}(h:iI P N)(b:P C):iI P (N++[C]):=(by grind[iI])
section
variable {ts:List bH} {E:Nat->bU aC}
def xK(ts:List bH):Prop:=∀p,lB [UInt8.ofNat (aR ts p).c_] (aR ts p).x_
theorem wO(c:∀q,cN fB (E q)):∀(g p:Nat) (b:List aC),iI fB b->cN (iI fB) (fJ E ts g p b)|0,p,b,_=>cN.err|g+1,p,b,f=>by rw[fJ];cases h:E p with|error l=>exact cN.err|ok d=>obtain⟨a,q⟩:=d;have e:=c p a q h;simp;split;exact wO c g (q+1) _ (f.snoc e);grind[cN,iI]
def wN(a:∀q,cN fB (E q))(p:Nat)(x y:bQ):cN (iI fB) (fU E ts p x y):=by grind[fU,cN.take,gL,wO,cN.bad,cN,iI]
theorem MM(b:xK ts)(c:∀q,cN fB (E q))(p:Nat):cN fB (eJ E ts p):=by unfold eJ;split;rename_i h;simp at h;rcases h with h|h;exact cN.tf (.leaf _ (ea (by rw[h];rfl)) rfl (b p));exact cN.tf (.leaf _ (dz (ea (by rw[h];rfl))) rfl (b p));split;exact cN.tf (.leaf _ ((by grind[aW])) rfl ((by grind[aW,lB])));split;exact(c (p+1)).take;split;exact cN.map (wN c p _ _) λa h=>.many _ (ea aJ) h;split;split;exact cN.map (wN c (p+1) _ _) λa h=>.many _ (dz aJ) h;exact cN.tf (.leaf _ ((by grind[aW])) rfl ((by grind[aW,lB])));exact cN.bad
theorem EY(b:∀q,cN fB (E q)):∀(g:Nat) (n:aC) (p:Nat),fB n->cN fB (eT E ts g n p)
 |0,n,p,_=>cN.err|g+1,n,p,a=>by
  rw[eT];split;have c:=(b (p+1)).take (ts:=ts) (x:=[93]);cases d:aQ ts [93] (E (p+1))with|error l=>grind|ok e=>obtain⟨i,q⟩:=e;exact EY b g _ q (.two _ n i (ea aJ) aJ a (c i q d))
  exact cN.tf a
def wL(b:xK ts)(c:∀q,cN fB (E q)):∀(g p:Nat),cN fB (iD E ts g p)|0,p=>cN.err|g+1,p=>by rw[iD];split;exact cN.map (wL b c g (p+1)) λa h=>.one _ a (ea aJ) aJ h;split;exact cN.map (wL b c g (p+1)) λa h=>.one _ a (dz aJ) aJ h;grind[cN.bind,MM,EY]
def vE{L:Nat->bU aC}{k:Nat}(a:k<9)(c:∀q,cN fB (L q)):∀(g:Nat) (n:aC) (q:Nat),fB n->cN fB (cH L ts k g n q)
 |0,n,q,_=>cN.err|g+1,n,q,b=>by
  rw[cH];split;cases i:L (q+1)with|error l=>grind|ok f=>obtain⟨r,d⟩:=f;have h:=c _ r d i;have e:fB (aW (aR ts q).x_ (aR ts q).l_ [] [n,r]):=.two _ n r ((by grind[aW])) rfl b h;simp;split;exact cN.tf e;exact vE a c g _ d e
  exact cN.tf b
def wP(b:xK ts)(c:∀q,cN fB (E q)):∀(j p:Nat),cN fB (iM E ts j p)|0,p=>wL b c _ p|j+1,p=>by exact cN.bind (wP b c j p) λa q d=>vE Z (λq=>wP b c j q) _ a q d
theorem JK(b:List bH)(a:xK b):∀(f p:Nat),cN fB (jQ b f p)|0,p=>cN.err|f+1,p=>by exact wP a (λq=>JK b a f q) 5 p
def yP(c:∀q,cN fB (E q)):∀(g p:Nat) (a:List aC),iI fB a->cN (iI fB) (fL E ts g p a)
 |0,p,a,_=>cN.err|g+1,p,a,b=>by
  rw[fL];split;have d:=(c (p+1)).take (ts:=ts) (x:=[93]);cases e:aQ ts [93] (E (p+1))with|error l=>exact cN.err|ok f=>obtain⟨i,q⟩:=f;exact yP c g q _ (b.snoc (d i q e))
  exact cN.tf b
def RG(b:∀q,cN fB (E q))(p:Nat):cN kI (fW E ts p):=by unfold fW;split;split;exact cN.take (cN.map (wN b (p+1) _ _) λa h=>.call _ _ aJ aJ (.many _ (dz aJ) h) aJ);refine cN.bind ((yP b _ (p+1) [] iI.nil).take) λl q d=>?_;exact cN.take (cN.map (b q) λv c=>.set _ aJ (by simp[aW]) (d.snoc c));exact cN.bad
def J3{B:Nat->bU aC}(a:∀q,cN fB (E q))(h:∀q,cN EF (B q))(p:Nat):cN kI (jU E B ts p):=by unfold jU;split;unfold sI;split;split;exact cN.take (cN.map (a (p+3)) λv e=>.var _ _ v aJ aJ e ⟨aJ,aJ⟩);exact cN.bad;exact cN.bad;split;refine cN.bind (a (p+1)) λc q f=>cN.bind (h q) λb k g=>?_;split;exact cN.map (h (k+1)) λd i=>.Dv _ c b d aJ aJ f g.op g.y_ i.op i.y_;exact cN.tf (.Dx _ c b aJ aJ f g.op g.y_);split;exact cN.bind (a (p+1)) λc q f=>cN.map (h q) λb j=>.Dq _ c b aJ aJ f j.op j.y_;split;unfold pM;split;exact cN.tf (.Bk _ aJ aJ);exact cN.take (cN.map (a (p+1)) λv e=>.Bn _ v aJ aJ e);split;exact cN.take (cN.map (a (p+1)) λv e=>.print _ v aJ aJ e);exact RG a p
def vF{S:Nat->bU aC}(c:∀q,cN kI (S q)):∀(g p:Nat) (a:List aC),iI kI a->cN (iI kI) (eX S ts g p a)|0,p,a,_=>cN.err|g+1,p,a,b=>by rw[eX];split;exact cN.tf b;cases d:S p with|error l=>exact cN.err|ok e=>obtain⟨s,q⟩:=e;exact vF c g q _ (b.snoc (c p s q d))
theorem EZ(a:∀q,cN fB (E q)):∀(f p:Nat),cN EF (iO E ts f p)|0,p=>cN.err|f+1,p=>by rw[iO];split;exact cN.map (cN.take (vF (λq=>J3 a (λq=>EZ a f q) q) _ (p+1) [] iI.nil)) λl h=>⟨aJ,h⟩;exact cN.bad
theorem vD:∀(g p:Nat) (a:List aC),iI (λx=>x.op=[112,97,114,97,109]/\x.y_=[]) a->cN (iI λx=>x.op=[112,97,114,97,109]/\x.y_=[]) (eC ts g p a)|0,p,a,_=>cN.err|g+1,p,a,c=>by have b:iI (λx=>x.op=[112,97,114,97,109]/\x.y_=[]) (a++[aW [112,97,114,97,109] (aR ts p).l_ (aR ts p).x_ []]):=c.snoc ⟨aJ,aJ⟩;rw[eC];split;split;exact vD g (p+2) _ b;exact cN.tf b;exact cN.bad
theorem J4{B:Nat->bU aC}(e:∀q,cN EF (B q))(p:Nat):cN xM (lW B ts p):=by
 unfold lW;split;split;split;have a:cN (iI λx=>x.op=[112,97,114,97,109]/\x.y_=[]) (kV ts (p+3)):=by grind[kV,cN.take,vD,cN,iI]
 exact cN.bind a λl q d=>cN.map (e q) λb f=>⟨l,b,aJ,λx c=>(d x c).1,f,λx c=>(d x c).2⟩;exact cN.bad;exact cN.bad;exact cN.bad
def wM{F:Nat->bU aC}(c:∀q,cN xM (F q)):∀(g p:Nat) (a:List aC),iI xM a->cN (iI xM) (fS F ts g p a)|0,p,a,_=>cN.err|g+1,p,a,b=>by rw[fS];split;exact cN.tf b;cases e:F p with|error l=>exact cN.err|ok d=>obtain⟨s,q⟩:=d;exact wM c g q _ (b.snoc (c p s q e))
end
def eU.split{c:UInt8}(o:c.toNat<128)(h:eU (r++c::b)):eU r/\eU b:=by
 generalize f:r++c::b=l at h;induction h generalizing r with|nil=>simp at f|cons n p k=>
  subst f;cases r with
  |nil=>
   have e:bY ([]++c::b)=1:=by simp[bY,o]
   exact⟨.nil,G_⟩|cons x r=>
   have m:bY (x::r++c::b)<=aA (x::r):=by have q:∀i d g,128<=d->i=aA r+1->iW (x::r++c::b) i d g=WD:=(by grind[iW]);grind[bY]
   have j:(x::r++c::b).drop (bY (x::r++c::b))=(x::r).drop (bY (x::r++c::b))++c::b:=G_;have ⟨k1,k2⟩:=k j.symm;refine⟨?_,k2⟩;have e:=sA n λi g=>(jy Z).symm;exact .cons Z G_
def uY:∀(f:Nat) (l:bQ) (p:Nat),aA l<=f->dU f l p=Wz->eU l|0,l,_,h,_=>by obtain rfl:l=[]:=(by grind);exact .nil|f+1,l,p,h,a=>by rw[dU]at a;split at a;obtain rfl:l=[]:=(by grind);exact .nil;split at a;cases a;rename_i b;exact .cons b (uY f _ _ G_ a)
def UV(f:Nat):∀(a l:bQ) (g:List bH),fF f a l=.ok g->eU (a++l)->aA (a++l)<=100000->∀t∈g,lB [UInt8.ofNat t.c_] t.x_:=by
 induction f with|zero=>intro a l g h;cases h|succ f v=>
  intro a l g h s w t d;by_cases i:aA l=0;rw[qW _ _ _ i]at h;cases h;rw[ie.1 d];grind[lB];cases b:(cW l).ok;grind[fF];rw[yM _ _ _ i b _ rfl]at h;generalize x:(cW l).size+cK (aA l) (l.drop (cW l).size)=m at h;cases j:fF f (a++l.take m) (l.drop m)with|error n=>rw[j]at h;cases h|ok u=>
   rw[j]at h;cases h;rcases ew.1 d with rfl|d;cases l with|nil=>simp at i|cons c r=>
    rw[cW]at b⊢;by_cases o:(dM c||eH c)=W1;rw[ec o];unfold iV;split;simp;split<;>exact .no d_ d_;grind[lN,dK,lB];rw[dy o]at b⊢;by_cases k:c.toNat=34;rw[ec k]at b⊢;simp [oN]at b;refine⟨λ_=>⟨by grind[oN],?_⟩,λe=>by cases e⟩;have q:r=r.take (bT iG r)++34::r.drop (bT iG r+1):=by grind[List.take_append_drop,List.drop_eq_getElem_cons]
    have p:=(s.split Z).2;rw[q]at p;exact(p.split d_).1;rw[dy k];unfold jS;split<;>exact .no s_ s_
   have e:a++List.take m l++List.drop m l=a++l:=s_;exact v _ _ u j G_ G_ t d
theorem LZ{a:List bH}(h:gS r=.ok a)(b:dU (aA r) r 0=Wz)(c:aA r<=100000):xK a:=λp=>by unfold aR;cases d:a[p]? with|none=>exact .no d_ d_|some t=>exact UV _ _ _ _ h (by rw[ku];exact uY _ _ _ (Z) b) G_ t (G_)
def BH(h:eB r=.ok N):∀f∈N,xM f:=by unfold eB at h;split at h;cases h;split at h;cases h;split at h;cases h;split at h;cases h;rename_i q b;cases h;exact wM ((by grind[J4,EZ,JK,LZ])) _ _ _ iI.nil _ _ b
theorem uJ(s:bK)(l k:Nat)(h:s.kind≠0):(s.found l k).kind≠0:=by grind[bK.found]
theorem vJ(s:bK)(n:aC)(h:s.kind≠0):(oo s n).kind≠0:=by grind[oo,uJ]
def XD(b:List aC)(a:Bool)(s:bK)(n:aC)(h:s.kind≠0):(cQ b a s n).kind≠0:=by grind[cQ,gG,uJ]
theorem kO{f:bK->aC->bK}(a:∀s k,s.kind≠0->(f s k).kind≠0):∀(l:List aC) (s:bK),s.kind≠0->(l.foldl f s).kind≠0|[],_,h=>h|k::l,s,h=>kO a l _ (a s k h)
theorem jA(b:List aC)(a:Bool):∀(d:Nat) (n:aC) (s:bK),s.kind≠0->(aT b a d n s).kind≠0|0,_,_,h=>h|d+1,n,s,h=>by rw[aT];split;split;exact jA b a d _ _ (vJ s _ h);exact h;have e:(n.y_.foldl (λs k=>aT b a d k s) (cQ b a s n)).kind≠0:=kO (λs k c=>jA b a d k s c) _ _ (XD b a s n h);grind
theorem si.up:∀{d e:Nat}{a:aC},si N I E d a->d<=e->si N I E e a|0,_,_,h,_=>h.elim|d+1,0,_,_,h=>by omega|d+1,e+1,a,h,i=>by have j:∀k,si N I E d k->si N I E e k:=λk g=>si.up g Z;grind[si]
theorem sq.up{S c:cY->aC->Prop}(h:∀s a,S s a->c s a):∀{l:List aC}{b:cY},sq S b l->sq c b l|[],_,_=>trivial|_::_,_,d=>⟨h _ _ d.1,sq.up h d.2⟩
theorem cO.up:∀{d e:Nat}{b:cY}{a:aC},cO N d b a->d<=e->cO N e b a|0,_,_,_,h,_=>h.elim|d+1,0,_,_,_,h=>by omega|d+1,e+1,b,a,h,g=>by have j:∀k,si N WD b d k->si N WD b e k:=(by grind[si.up]);have i:∀l,sq (cO N d) b l->sq (cO N e) b l:=λl f=>f.up λs a h=>cO.up h Z;grind[cO]
def yT{k:Nat}(a:k≠0)(h:(i.found D k).kind=0):False:=by grind[bK.found]
theorem uK{f:aC}{a:bQ}:∀{fs:List aC},dG fs a=Wy f->fs[dW fs a]?=Wy f|[],h=>by simp[dG]at h|x::l,h=>by unfold dG dW at*;rw[List.find?_cons]at h;rw[List.findIdx_cons];cases b:(x.x_==a)with|true=>grind|false=>rw[b]at h;exact uK (fs:=l) h
def tU(fs:List aC)(a_:Bool)(d:Nat)(a:aC):Prop:=∀sn,(aT fs a_ d a ⟨sn,0,0⟩).kind=0->aT fs a_ d a ⟨sn,0,0⟩=⟨sn,0,0⟩/\si fs a_ sn.reverse d a
def nB:∀(l:List aC) (c:cY),(∀k∈l,tU N I D k)->(l.foldl (λs k=>aT N I D k s) ⟨c,0,0⟩).kind=0->l.foldl (λs k=>aT N I D k s) ⟨c,0,0⟩=⟨c,0,0⟩/\∀k∈l,si N I c.reverse D k|[],c,_,_=>(by simp)|a::l,c,h,f=>by rw[ij]at f⊢;have h0:=il λg=>kO (λs k j=>jA N I D k s j) l _ g f;obtain⟨i,m⟩:=h a (s_) c h0;rw[i]at f⊢;obtain⟨o,n⟩:=nB l c (G_) f;grind
def kT(e:C.op≠[118,97,114])(c:C.op≠[98,108,111,99,107]):aT N I (D+1) C i=C.y_.foldl (λi k=>aT N I D k i) (cQ N I i C):=by grind[aT]
theorem tg(d:C.op≠[115,101,116])(c:C.op≠[110,97,109,101])(e:C.op≠[99,97,108,108]):cQ N I i C=i:=by grind[cQ]
def tS(j:∀f∈N,f.y_≠[])(p:I=W1->N=[]):∀(d:Nat) (a:aC),fB a->gC d a->tU N I d a
 |0,_,_,h=>h.elim|d+1,a,F,B=>by
  intro t i;have two:∀(l r:aC),a.y_=[l,r]->fB l->fB r->∀k∈a.y_,tU N I d k:=λl r u A E k c=>by have o:=B k c;rw[u]at c;rcases ew.1 c with rfl|c;exact tS j p d _ A o;obtain rfl:=ie.1 c;exact tS j p d _ E o
  have w:a.op≠[118,97,114]/\a.op≠[98,108,111,99,107]:=by
   cases F with
   |leaf _ h=>grind|many _ h=>grind|one _ l h=>grind|two _ l r h=>grind[cU]
  rw[kT w.1 w.2]at i⊢;have hl0:=il λx=>kO (λs k H=>jA N I d k s H) a.y_ _ x i;cases F with
  |leaf _ h u=>grind[cQ,si,bK.found]|many _ h u=>
   have z:=λk c=>tS j p d k (u k c) (B k c);rcases h with h|h;rw[tg G_ G_ G_]at i⊢;have ⟨h1,h2⟩:=nB a.y_ t z i;grind[si];have e:cQ N I ⟨t,0,0⟩ a=gG N I ⟨t,0,0⟩ a:=by grind[cQ]
   rw[e]at i hl0⊢;unfold gG at i hl0⊢;split at hl0;grind[bK.found];rename_i v;rw[dy v]at i⊢;split at hl0;grind[bK.found];rename_i g;rw[dy g]at i⊢;have ⟨h1,h2⟩:=nB a.y_ t z i;refine⟨h1,dz (dz (dz (dz (dz (ea ⟨h,h2,?_⟩)))))⟩;simp[ne_eq,Decidable.not_not]at g;unfold gN at v g;by_cases q:a.x_=[108,101,110];grind;rw[dy qo]at v g;by_cases D:a.x_=[114,101,97,100]/\I=WD;grind;have n:¬((a.x_==[114,101,97,100]&&!I)=W1):=by grind
   rw[dy n]at v g;cases C:dG N a.x_ with|none=>grind|some f=>
    rw[C]at v g;simp only at v g;have hmem:=ka C;have x:=j f hmem;have hpos:=Z;have y:I=WD:=by grind
    refine dz (dz ⟨q,G_,y,?_⟩);unfold gD;rw[uK C];grind
  |one _ l h u A=>
   have z:∀k∈a.y_,tU N I d k:=λk c=>by have o:=B k c;rw[u]at c;obtain rfl:=ie.1 c;exact tS j p d _ A o
   rw[tg pj pj pj]at i⊢;have ⟨h1,h2⟩:=nB a.y_ t z i;grind[si]|two _ l r h u A E=>
   have G:cQ N I ⟨t,0,0⟩ a=⟨t,0,0⟩:=by grind[cQ,cU]
   rw[G]at i⊢;have ⟨h1,h2⟩:=nB a.y_ t (G_) i;refine⟨h1,?_⟩;rcases h with h|h;exact dz (G_);exact dz (G_)
def yE(fs:List aC)(d:Nat)(a:aC):Prop:=∀sn,aA sn+cV d a<=40000->(aT fs WD d a ⟨sn,0,0⟩).kind=0->∃sn',aT fs WD d a ⟨sn,0,0⟩=⟨sn',0,0⟩/\sn'.reverse=cS sn.reverse a/\cO fs d sn.reverse a/\aA sn'<=aA sn+cV d a/\sn=sn'.take (aA sn)
def EO:∀(l:List aC) (b:cY),(∀k∈l,yE N D k)->aA b+(l.map (cV D)).sum<=40000->(l.foldl (λs k=>aT N WD D k s) ⟨b,0,0⟩).kind=0->∃c,l.foldl (λs k=>aT N WD D k s) ⟨b,0,0⟩=⟨c,0,0⟩/\sq (cO N D) b.reverse l/\aA c<=aA b+(l.map (cV D)).sum/\b=c.take (aA b)|[],b,_,_,_=>(by grind[sq])|a::l,b,h,j,f=>by rw[ij]at f⊢;simp at j⊢;have h0:=il λg=>kO (λs k n=>jA N WD D k s n) l _ g f;obtain⟨m,i,o,v,q,t⟩:=h a (s_) b Z h0;rw[i]at f⊢;obtain⟨p,w,r,u,x⟩:=EO l m (G_) Z f;grind[sq]
theorem LU{a:cY}(f:C.op=[98,108,111,99,107])(h:C.y_.foldl (λs k=>aT N WD D k s) ⟨E,0,0⟩=⟨a,0,0⟩)(g:E=a.take (aA E)):aT N WD (D+1) C ⟨E,0,0⟩=⟨E,0,0⟩:=by grind[aT,cQ]
def zJ(e:C.op=[98,108,111,99,107])(h:(aT N WD (D+1) C ⟨E,0,0⟩).kind=0):(C.y_.foldl (λs k=>aT N WD D k s) ⟨E,0,0⟩).kind=0:=by grind[aT,cQ]
def nP(f:C.op=[98,108,111,99,107])(g:∀k∈C.y_,yE N D k)(e:aA E+cV (D+1) C<=40000)(h:(aT N WD (D+1) C ⟨E,0,0⟩).kind=0):aT N WD (D+1) C ⟨E,0,0⟩=⟨E,0,0⟩/\sq (cO N D) E.reverse C.y_:=by rw[cV]at e;have ⟨s',h1,h2,h3,h4⟩:=EO C.y_ E g Z (zJ f h);grind[LU]
def UL{x y:aC}(c:C.y_=[x,y])(g:C.op≠[118,97,114])(f:C.op≠[98,108,111,99,107])(e:cQ N WD i C=i):aT N WD (D+1) C i=aT N WD D y (aT N WD D x i):=by grind[aT]
def Q5{x y z:aC}(c:C.y_=[x,y,z])(g:C.op≠[118,97,114])(f:C.op≠[98,108,111,99,107])(e:cQ N WD i C=i):aT N WD (D+1) C i=aT N WD D z (aT N WD D y (aT N WD D x i)):=by grind[aT]
def NS{d:Nat}{a k:aC}(h:k∈a.y_):cV d k+1<=cV (d+1) a:=by rw[cV];exact GP
theorem OD(C:∀f∈N,f.y_≠[]):∀(d:Nat) (a:aC),kI a->gC d a->yE N d a
 |0,_,_,h=>h.elim
 |1,a,J,D=>by
  have hno :=λk b=>D k b
  intro g K j;cases J with
  |var _ t v h b w=>exact(hno t mf).elim
  |set _ h I b=>cases A:a.y_ with|nil=>exact(I A).elim|cons x l=>exact(hno x (by rw[A];simp)).elim
  |Dx _ c t h b=>exact(hno c mf).elim
  |Dv _ c t x h b=>exact(hno c mf).elim
  |Dq _ c t h b=>exact(hno c mf).elim
  |Bn _ v h b=>exact(hno v mf).elim
  |print _ v h b=>exact(hno v mf).elim
  |call _ c h b=>exact(hno c mf).elim
  |Bk _ h b=>
   have o:cQ N WD ⟨g,0,0⟩ a=⟨g,0,0⟩:=tg lh lh lh
   refine⟨g,by rw[kT lh lh,o,b];rfl,by unfold cS;rw[dy lh],?_,Z,s_⟩
   exact dz (dz (dz (dz (ea ⟨h,ea b⟩))))
 |d+2,a,J,D=>by
  intro g K j;have p:∀k,k∈a.y_->fB k->tU N WD (d+1) k:=λk b M=>tS C (λh=>by cases h) (d+1) k M (D k b)
  have u:∀k,k∈a.y_->(∀x∈k.y_,kI x)->∀x∈k.y_,yE N d x:=λk b H x E=>OD C d x (H x E) (D k b x E)
  have r:∀k,k∈a.y_->aA g+cV (d+1) k<=40000:=λk b=>by have:cV (d+1) k+1<=cV (d+2) a:=NS (d:=d+1) b;exact Z
  have i:a.op≠[118,97,114]->g.reverse=cS g.reverse a:=λh=>by unfold cS;rw[dy h]
  cases J with
  |var _ t v h b w=>
   have e:aT N WD (d+2) a ⟨g,0,0⟩={ aT N WD (d+1) v (oo ⟨g,0,0⟩ t)with e_:=(aT N WD (d+1) v (oo ⟨g,0,0⟩ t)).e_++[t.x_] }:=by rw[aT,ec rm,b]
   rw[e]at j ⊢
   have hd0 :=il λm=>jA N WD (d+1) v _ m j
   have ⟨hd1,hns⟩:oo ⟨g,0,0⟩ t=⟨g,0,0⟩/\t.x_∉g:=by
    unfold oo at hd0 ⊢
    split at hd0
    .exact(yT d_ hd0).elim
    rename_i F;rw[dy F];simp at F;exact⟨aJ,F.2⟩
   rw[hd1]at j ⊢
   have ⟨h1,h2⟩:=p v mf w g j
   rw[h1];have L:cV (d+1) v+1<=cV (d+2) a:=NS (d:=d+1) (a:=a) (k:=v) mf
   refine⟨g++[t.x_],aJ,?_,ea ⟨h,la,t,v,b,h2,by simpa using hns⟩,la,s_⟩
   unfold cS;rw[ec h,b];simp
  |set _ h I b=>
   rw[kT lh lh]at j ⊢
   have hl0 :=il λm=>kO (λs k H=>jA N WD (d+1) k s H) a.y_ _ m j
   have o:cQ N WD ⟨g,0,0⟩ a=⟨g,0,0⟩/\a.x_∈g:=by
    unfold cQ at hl0 ⊢
    rw[ec rm]at hl0 ⊢
    split at hl0
    .rename_i y;rw[ec y];exact⟨aJ,by simpa using y⟩
    exact(yT d_ hl0).elim
   rw[o.1]at j ⊢
   have ⟨h1,h2⟩:=nB a.y_ g (λk B=>p k B (b k B)) j
   exact⟨g,h1,i lh,dz (ea ⟨h,by simpa using o.2,I,h2⟩),Z,s_⟩
  |Dx _ c t h b y z q=>
   have o:cQ N WD ⟨g,0,0⟩ a=⟨g,0,0⟩:=tg lh lh lh
   rw[UL b lh lh o]at j ⊢
   have h0 :=il λm=>jA N WD (d+1) t _ m j
   have ⟨h1,h2⟩:=p c mf y g h0
   rw[h1]at j ⊢
   have ⟨h3,h4⟩:=nP z (u t mf q) (r t mf) j
   exact⟨g,h3,i lh,dz (dz (ea ⟨h,c,t,ea b,h2,h4.up λs a h=>h.up Z⟩)),Z,s_⟩
  |Dv _ c t x h b y z q E G=>
   have o:cQ N WD ⟨g,0,0⟩ a=⟨g,0,0⟩:=tg lh lh lh
   rw[Q5 b lh lh o]at j ⊢
   have h00 :=il λm=>jA N WD (d+1) x _ m j
   have h0 :=il λm=>jA N WD (d+1) t _ m h00
   have ⟨h1,h2⟩:=p c mf y g h0
   rw[h1]at j h00 ⊢
   have ⟨h3,h4⟩:=nP z (u t mf q) (r t mf) h00
   rw[h3]at j ⊢
   have ⟨h5,h6⟩:=nP E (u x mf G) (r x mf) j
   exact⟨g,h5,i lh,dz (dz (ea ⟨h,c,t,dz ⟨x,b,h6.up λs a h=>h.up Z⟩,h2,h4.up λs a h=>h.up Z⟩)),Z,s_⟩
  |Dq _ c t h b y z q=>
   have o:cQ N WD ⟨g,0,0⟩ a=⟨g,0,0⟩:=tg lh lh lh
   rw[UL b lh lh o]at j ⊢
   have h0 :=il λm=>jA N WD (d+1) t _ m j
   have ⟨h1,h2⟩:=p c mf y g h0
   rw[h1]at j ⊢
   have ⟨h3,h4⟩:=nP z (u t mf q) (r t mf) j
   exact⟨g,h3,i lh,dz (dz (dz (ea ⟨h,c,t,b,h2,h4.up λs a h=>h.up Z⟩))),Z,s_⟩
  |Bk _ h b=>
   have o:cQ N WD ⟨g,0,0⟩ a=⟨g,0,0⟩:=tg lh lh lh
   refine⟨g,by rw[kT lh lh,o,b];rfl,i lh,?_,Z,s_⟩
   exact dz (dz (dz (dz (ea ⟨h,ea b⟩))))
  |Bn _ v h b w=>
   have o:cQ N WD ⟨g,0,0⟩ a=⟨g,0,0⟩:=tg lh lh lh
   rw[kT lh lh,o,b]at j ⊢
   simp[ij,List.foldl_nil]at j ⊢
   have ⟨h1,h2⟩:=p v mf w g j
   exact⟨g,h1,i lh,dz (dz (dz (dz (ea ⟨h,dz ⟨v,b,h2⟩⟩)))),Z,s_⟩
  |print _ v h b w=>
   have o:cQ N WD ⟨g,0,0⟩ a=⟨g,0,0⟩:=tg lh lh lh
   rw[kT lh lh,o,b]at j ⊢
   simp[ij,List.foldl_nil]at j ⊢
   have ⟨h1,h2⟩:=p v mf w g j
   exact⟨g,h1,i lh,dz (dz (dz (dz (dz (ea ⟨h,v,b,h2⟩))))),Z,s_⟩
  |call _ v h b w=>
   have o:cQ N WD ⟨g,0,0⟩ a=⟨g,0,0⟩:=tg lh lh lh
   rw[kT lh lh,o,b]at j ⊢
   simp[ij,List.foldl_nil]at j ⊢
   have ⟨h1,h2⟩:=p v mf w g j
   exact⟨g,h1,i lh,dz (dz (dz (dz (dz (dz ⟨h,v,b,h2⟩))))),Z,s_⟩
def kN:aC->Nat|⟨_,_,_,y_⟩=>1+(y_.attach.map λ⟨k,_⟩=>kN k).sum
theorem qJ(a:aC):kN a=1+(a.y_.map kN).sum:=by have ⟨op,l_,x_,y_⟩:=a;rw[kN];simp
def FG:∀(d:Nat) (a:aC),gC d a->kN a<=cV d a
 |0,_,h=>h.elim|d+1,a,h=>by
  rw[qJ,cV];have:∀l:List aC,(∀k∈l,kN k<=cV d k)->(l.map kN).sum<=(l.map (cV d)).sum:=by intro l;induction l with|nil=>simp|cons x l c=>grind
  have:=this a.y_ λk b=>FG d k (h k b);exact Z
def wI{c:aC->Nat->List aO}{m:Nat}(h:∀a p,aA (c a p)<=m*kN a):∀(l:List aC) (p:Nat),aA (bC c l p)<=m*(l.map kN).sum|[],_=>by simp[bC]|a::l,p=>by simp [bC,et,fk,fq,Nat.mul_add];have d:=h a p;have b:=wI h l (p+aA (c a p));exact Z
def uM(c:List aC)(b:cY):∀(d:Nat) (a:aC) (p:Nat),aA (aG c b d a p)<=2*kN a|0,_,_=>by simp[aG]|d+1,a,p=>by have e:=wI (m:=2) (λa p=>uM c b d a p) a.y_ p;have h:=qJ a;have f:=λl q=>uM c b d l q;rw[aG];by_cases g:(a.op==[48])=W1;grind;grind
def wA{c:cY->aC->Nat->List aO×cY}{m:Nat}(h:∀s a p,(c s a p).1.length<=m*kN a):∀(l:List aC) (s:cY) (p:Nat),aA (bM c s l p)<=m*(l.map kN).sum|[],_,_=>by simp[bM]|a::l,s,p=>by simp [bM,et,fk,fq,Nat.mul_add];have d:=h s a p;have b:=wA h l (c s a p).2 (p+(c s a p).1.length);exact Z
theorem IX(e:List aC):∀(d:Nat) (c:cY) (a:aC) (p:Nat),(aU e d c a p).1.length<=3*kN a
 |0,_,_,_=>by simp[aU]|d+1,c,a,p=>by
  have j:=qJ a;have g:=λ(b:aC) q=>wA (m:=3) (λs a p=>IX e d s a p) b.y_ c q;have f:=λ(x:aC) q=>uM e c d x q;have i:=λ(b:aC)=>qJ b;rw[aU];repeat' split
  all_goals try simp
  grind;have h:=wI (m:=2) (Z) a.y_ (p+1);exact Z;all_goals grind
theorem sN(a:List aC)(d:Nat)(s:bK)(k:aC)(h:s.kind≠0):(eP a d s k).kind≠0:=by grind[eP,vJ,jA]
def ZD(a:List aC)(d:Nat)(s:bK)(n:aC)(first:Bool)(h:s.kind≠0):(gP a d s n first).kind≠0:=by grind[gP,kO,sN,uJ]
theorem LG(c:List aC)(d:Nat):∀(a b:List aC) (s:bK),s.kind≠0->(eW c d b a s).kind≠0|[],_,_,h=>h|n::a,b,s,h=>LG c d a (b++[n]) _ (ZD c d s n _ h)
def wS:∀(c:List aC) (b:cY),(∀x∈c,x.op=[112,97,114,97,109])->(c.foldl (eP N D) ⟨b,0,0⟩).kind=0->c.foldl (eP N D) ⟨b,0,0⟩=⟨b++c.map (·.x_),0,0⟩/\(b.Nodup->(b++c.map (·.x_)).Nodup)
 |[],b,_,_=>by simp|a::l,b,h,f=>by
  rw[ij]at f⊢;have g:eP N D ⟨b,0,0⟩ a={oo ⟨b,0,0⟩ a with e_:=(oo ⟨b,0,0⟩ a).e_++[a.x_]}:=by grind[eP]
  have i:(eP N D ⟨b,0,0⟩ a).kind=0:=(by grind[kO,sN]);have ⟨hd1,hns⟩:oo ⟨b,0,0⟩ a=⟨b,0,0⟩/\a.x_∉b:=by grind[oo,bK.found]
  rw[g,hd1]at f⊢;have ⟨g1,g2⟩:=wS l (b++[a.x_]) (G_) f;grind
def YC(o:∀C∈N,xM C)(p:xM C)(r:gC (D+3) C)(s:∀e,cV e C<=2001)(i:(gP N (D+2) ⟨E,0,0⟩ C I).kind=0):gY N (D+2) C/\∃t,gP N (D+2) ⟨E,0,0⟩ C I=⟨t,0,0⟩:=by
 have ⟨ps,b,hk,hps,hb,_⟩:=p.y_;have u:∀C∈N,C.y_≠[]:=λC p=>by have ⟨ps,b,hk,_⟩:=(o C p).y_;rw[hk];simp
 unfold gP at i⊢;have y:({(if gM C.x_||!I then bK.found ⟨E,0,0⟩ C.l_ 6 else ⟨E,0,0⟩)with e_:=[]}:bK).kind=0:=(by grind[kO,sN]);have n:({(if gM C.x_||!I then bK.found ⟨E,0,0⟩ C.l_ 6 else ⟨E,0,0⟩)with e_:=[]}:bK)=⟨[],0,0⟩:=by grind[bK.found]
 rw[n,hk,List.foldl_append,ij,List.foldl_nil]at i⊢;have q:(ps.foldl (eP N (D+2)) ⟨[],0,0⟩).kind=0:=(by grind[sN]);have ⟨hpg,c⟩:=wS ps [] hps q;have c:=c List.nodup_nil;rw[ig]at hpg c;rw[hpg]at i⊢;have j:eP N (D+2) ⟨ps.map (·.x_),0,0⟩ b=aT N WD (D+2) b ⟨ps.map (·.x_),0,0⟩:=by grind[eP,EF.op]
 rw[j]at i⊢;have w:=r b G_;have h:=s (D+3);rw[cV,hk]at h;have k:∀l:List aC,aA l<=(l.map (cV (D+2))).sum:=by intro l;induction l with|nil=>simp|cons x l B=>grind[cV]
 have:=k ps;simp[ft,jn,fk,gg,fq,gr]at h;have ⟨h1,h2⟩:=nP hb.op ((by grind[OD,EF.y_,gC])) G_ i;refine⟨⟨(by grind[sq.up,cO.up]),?_⟩,_,h1⟩;have A:=FG _ _ r;have v:=s (D+3);have z:aA (bM (aU N (D+2)) (ps.map (·.x_)).reverse b.y_ 0)<=3*(b.y_.map kN).sum:=wA (m:=3) ((by grind[IX])) b.y_ (ps.map (·.x_)).reverse 0;grind[qJ,fQ]
theorem FY(c:∀f∈N,xM f):∀(a b:List aC) (k:cY),(∀f∈a,f∈N/\gC (D+3) f/\∀e,cV e f<=2001)->(eW N (D+2) b a ⟨k,0,0⟩).kind=0->∀f∈a,gY N (D+2) f|[],_,_,_,_,f,g=>by cases g|n::a,b,k,h,j,f,g=>by rw[eW]at j;have o:(gP N (D+2) ⟨k,0,0⟩ n (dG b n.x_).isNone).kind=0:=(by grind[LG]);obtain⟨q,m,s⟩:=h n (s_);obtain⟨r,l,p⟩:=YC c (c n q) m s o;rw[p]at j;rcases ew.1 g with rfl|g;exact r;exact FY c a (b++[n]) l (G_) j f g
def NR{e:Nat}{f:aC}:∀{l:List aC},f∈l->cV e f<=(l.map (cV e)).sum|x::l,h=>by simp [fk,fq];rcases ew.1 h with rfl|h;exact Z;have:=NR (e:=e) h;exact Z
def se.mem(h:se D N)(a:C∈N):rP D C:=λe=>⟨em (NR a) (h e).1,(h e).2 C a⟩
def RF(b:eB r=.ok N)(c:dQ r=(0,0)):(∀f∈N,gY N 2001 f)/\gD N (dW N [109,97,105,110])=Wy 0:=by unfold dQ at c;unfold lE at c;have h:=BH b;have g:=mX b;have d:∀f∈N,rP 2001 f:=λf e=>g.mem e;grind[FY,qB,gD,uK,rP]
def se.len(h:se D N):aA N<=D:=by
 have b:=(h 1).1;have:∀N:List aC,aA N<=(N.map (cV 1)).sum:=by intro N;induction N with|nil=>simp|cons x N a=>grind[cV]
 grind
def rP.y_{m:Nat}(h:rP m C):se m C.y_:=λe=>by have b:=(h (e+1)).1;simp [cV]at b;exact⟨Z,(h (e+1)).2.2⟩
def FI(h:C.op≠[115])(c:C.op≠[48])(b:C.y_=[]):∀d,sV d C|0=>trivial|d+1=>(by grind[lB.no,sV])
theorem mY(f:D<=1000000):∀(d:Nat) (a:aC),rP D a->fB a->sV d a
 |0,_,_,_=>trivial|d+1,a,g,i=>by
  refine⟨?_,em g.y_.len f,λk c=>mY f d k (g.y_.mem c) ?_⟩;cases i with|leaf _ h c j=>exact j|many _ h c=>grind[lB]|one _ l h c e=>grind[lB]|two _ l r h c e n=>exact .no ((by grind[cU])) (by grind[cU])
  cases i with|leaf _ h b j=>grind|many _ h b=>grind|one _ l h b e=>grind|two _ l r h b e n=>grind
def PF(j:D<=1000000):∀(d:Nat),(∀a,rP D a->kI a->sV d a)/\∀t,rP D t->t.op=[98,108,111,99,107]->(∀k∈t.y_,kI k)->sV d t
 |0=>(by grind[sV])|d+1=>by
  obtain⟨p,u⟩:=PF j d;refine⟨λa g n=>⟨?_,em g.y_.len j,λk e=>?_⟩,λt g q e=>⟨?_,em g.y_.len j,λk b=>p k (g.y_.mem b) (e k b)⟩⟩;cases n<;>rename_i h _<;>exact .no (by simp_all) (by simp_all);have s:=g.y_.mem e;cases n with|var _ t v h b o i=>rw[b]at e;rcases ew.1 e with rfl|e;exact FI G_ G_ i.2 d;grind[mY]|set _ h y b=>grind[mY]|Dx _ c t h b l i f=>grind[mY]|Dv _ c t x h b l i f w r=>grind[mY]|Dq _ c t h b l i f=>grind[mY]|Bk _ h b=>grind|Bn _ v h b o=>grind[mY]|print _ v h b o=>grind[mY]|call _ c h b l q=>grind[mY]
  grind[lB]
def MR(c:eB r=.ok N):∀f∈N,∀k∈f.y_,jX k:=λf g k a d=>by have hfk:=((mX c).mem g).y_.mem a;obtain⟨m,b,e,n,h,j⟩:=(BH c f g).y_;rw[e]at a;rcases fm.1 a with a|a;exact FI G_ G_ (j k a) d;obtain rfl:=ie.1 a;exact(PF Z d).2 _ hfk h.op h.y_
def jY(i:aO):Prop:=(∀v,i=.push v->cT v)/\∀op,i=.unary op->op=[45]\/op=[33]
def wJ{c:aC->Nat->List aO}:∀(l:List aC) (p:Nat),(∀a∈l,∀q,∀i∈c a q,e i)->∀i∈bC c l p,e i|[],_,_,i,b=>by cases b|a::l,p,h,i,b=>by rcases fm.1 b with b|b;grind;exact wJ l _ (G_) i b
def kW{c:Prop}[Decidable c]{l m:List aO}(b:c->∀i∈l,e i)(a:∀i∈m,e i):∀i∈(if c then l else m),e i:=by grind
def wF{l:List aO}(b:∀i∈l,e i)(a:e z):∀i∈l++[z],e i:=(by grind)
def rX(f:List aC)(b:cY):∀(d:Nat) (a:aC) (p:Nat),jX a->∀i∈aG f b d a p,jY i|0,_,_,_=>λi c=>by cases c|d+1,a,p,g=>by have j:∀i∈bC (aG f b d) a.y_ p,jY i:=wJ _ _ λk j q=>rX f b d k q (g.uz j);have n:∀x:aO,(∀v,x≠.push v)->(∀m,x≠.unary m)->jY x:=(by grind[jY]);have hs:=λh=>((g 1).1.1 h).2;refine kW ((by grind[cT.num,jY])) ?_;refine kW ((by grind[cT.str,jY])) ?_;refine kW ((by grind[cT.yo,jY])) ?_;refine kW (G_) ?_;refine kW (G_) ?_;refine kW (G_) ?_;refine kW ((by grind[jY])) ?_;refine kW ((by grind[jY])) ?_;refine kW (λ_=>wF j ?_) ?_;grind;refine kW (λ_=>?_) (G_);split;rename_i l r e;refine wF (λi c=>?_) (G_);rcases fm.1 c with c|c;exact wF (rX f b d l _ (g.uz G_)) (G_) i c;exact rX f b d r _ (g.uz G_) i c;simp
def wC{c:cY->aC->Nat->List aO×cY}:∀(l:List aC) (b:cY) (p:Nat),(∀a∈l,∀s q,∀i∈(c s a q).1,e i)->∀i∈bM c b l p,e i|[],_,_,_,i,d=>by cases d|a::l,b,p,h,i,d=>by rcases fm.1 d with d|d;grind;exact wC l _ _ (G_) i d
def VE(e:List aC):∀(d:Nat) (b:cY) (a:aC) (p:Nat),jX a->∀i∈(aU e d b a p).1,jY i|0,_,_,_,_,i,c=>by cases c|d+1,b,a,p,g,i,c=>by have j:∀{k:aC}{q:Nat},k∈a.y_->i∈aG e b d k q->jY i:=λf h=>rX e b d _ _ (g.uz f) i h;have m:∀{k:aC}{q:Nat},k∈a.y_->i∈bM (aU e d) b k.y_ q->jY i:=λf h=>wC _ _ _ (λx j s q=>VE e d s x q ((g.uz f).uz j)) i h;have n:∀{x:aO},(∀v,x≠.push v)->(∀l,x≠.unary l)->i=x->jY i:=(by grind[jY]);rw[aU]at c;split at c;grind;split at c;simp at c;rcases c with h|h|h;grind;exact wJ _ _ (λk f q=>rX e b d k q (g.uz f)) i h;grind;grind[cT.num,jY]
def E6(h:∀f∈N,∀k∈f.y_,jX k):lH (dX N D):=λg n=>by
 obtain⟨f,l,rfl⟩:=iw.1 n;have e:∀i∈(fQ N D f).code,jY i:=λi a=>by
  simp [fQ,jo]at a;rcases a with a|rfl|rfl;cases j:f.y_.getLast? with|none=>rw[j]at a;cases a|some b=>rw[j]at a;exact wC _ _ _ (λk m s q=>VE N D s k q ((h f l b (G_)).uz m)) i a
  grind[cT.num,jY];grind[jY]
 grind[xL,jY]
