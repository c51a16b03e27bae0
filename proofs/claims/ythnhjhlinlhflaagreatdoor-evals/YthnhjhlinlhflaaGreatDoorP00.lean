import Derived.Test.YthnhjhlinlhflaaGreatDoorB00
set_option linter.all false
set_option maxHeartbeats 0
set_option maxRecDepth 100000
open List renaming length->aA
open Option renaming some->Wj,none->Wk
open Bool renaming false->Wl,true->Wm
open Go renaming Value->Wo,World->Wp,Ending->Wq
namespace Go.Proofs.YthnhjhlinlhflaaGreatDoor
namespace Hs
end Hs
open Hs
def o_{p:Prop}(h:p:=by omega):p:=h
def s_{p:Prop}(h:p:=by simp):p:=h
def t_{p:Prop}(h:p:=by simp;omega):p:=h
def d_{p:Prop}(h:p:=by decide):p:=h
def k_{p:Prop}(h:p:=by kernel_rfl):p:=h
def r_{p:Prop}(h:p:=by rfl):p:=h
def G_{p:Prop}(h:p:=by grind):p:=h
def ku{p:Prop}(h:p:=by simp;exact Z):p:=h
def ky{p:Prop}(h:p:=by unfold maxLen;exact Z):p:=h
def kz{p:Prop}(h:p:=by rw[h];decide):p:=h
def la{p:Prop}(h:p:=by simp[results,results187,go_sem,k,j,l,i,A]):p:=h
def lg{p:Prop}(h:p:=by simp[go_sem]):p:=h
def lh{p:Prop}(h:p:=by simp[results,results236,go_sem]):p:=h
def lj{p:Prop}(h:p:=by go_num):p:=h
def ll{p:Prop}(h:p:=by simp[c]):p:=h
def lm{p:Prop}(h:p:=by grind[ej]):p:=h
def lq{p:Prop}(h:p:=by rw[b];simp):p:=h
def lr{p:Prop}(h:p:=by grind[eT.sub]):p:=h
def lu{p:Prop}(h:p:=by rw[b,jh];constructor<;>intro h<;>(try simp at h)<;>(try simp)<;>exact Z):p:=h
def lw{p:Prop}(h:p:=by generalize tf rr.c_=pa;generalize vk ⟨rr.c_,rr.x_,L⟩=pb;simp[results,results140,go_sem,z0,z1,z2,z3]):p:=h
def ly{p:Prop}(h:p:=by simp[Value.oneCell']):p:=h
def me{p:Prop}(h:p:=by simp[l]):p:=h
def mf{p:Prop}(h:p:=by simp[results,results185,go_sem];rfl):p:=h
def mg{p:Prop}(h:p:=by simp[results,results187,go_sem,k,j,l,i];rfl):p:=h
def mi{p:Prop}(h:p:=by simp[results,results136,go_sem,z0,z1,z2,z3]):p:=h
def mj{p:Prop}(h:p:=by simp[Rows.evalsRow]):p:=h
def ml{p:Prop}(h:p:=by simp[aZ,e]):p:=h
def mm{p:Prop}(h:p:=by unfold maxLen;simp;exact Z):p:=h
def mn{p:Prop}(h:p:=by simp[results,results79,go_sem,cS]):p:=h
def mq{p:Prop}(h:p:=by grind[eo,dw]):p:=h
def mr{p:Prop}(h:p:=by grind[eo,Below.vj,C4.rP,Below.size]):p:=h
def mt{p:Prop}(h:p:=by grind[dz,tz]):p:=h
def mw{p:Prop}(h:p:=by grind[vg.ok.many]):p:=h
def my{p:Prop}(h:p:=by rw[d];rfl):p:=h
def mz{p:Prop}(h:p:=by grind[dz]):p:=h
def ng{p:Prop}(h:p:=by simp[Value.ownBlock]):p:=h
def nh{p:Prop}(h:p:=by simp[results,results260,go_sem];rfl):p:=h
def ni{p:Prop}(h:p:=by simp[GX.U]):p:=h
def nj{p:Prop}(h:p:=by grind[dz,RV.num]):p:=h
def nk{p:Prop}(h:p:=by grind[World.grownBy.block]):p:=h
def nl{p:Prop}(h:p:=by grind[Value.ownBlock]):p:=h
def np{p:Prop}(h:p:=by grind[eh]):p:=h
def nr{p:Prop}(h:p:=by grind[World.ownsRow_made]):p:=h
def ns{p:Prop}(h:p:=by simp[results,results60,go_sem,z0,z1,z2,z3]):p:=h
def nt{p:Prop}(h:p:=by have:=o.rP.size;simp;exact Z):p:=h
def nu{p:Prop}(h:p:=by rw[j];simp):p:=h
def nw{p:Prop}(h:p:=by grind[Addr.add_lit,mD]):p:=h
def ny{p:Prop}(h:p:=by grind[dz,tz.walk]):p:=h
def nz{p:Prop}(h:p:=by grind[vg.ok.uo]):p:=h
def oa{p:Prop}(h:p:=by rw[i.out];simp):p:=h
def od{p:Prop}(h:p:=by first|decide|exact Z):p:=h
def oe{p:Prop}(h:p:=by simp[results,results186,go_sem];rfl):p:=h
def og{p:Prop}(h:p:=by grind[DM.sg]):p:=h
def oh{p:Prop}(h:p:=by rcases h with h|h<;>rw[h]<;>decide):p:=h
def oi{p:Prop}(h:p:=by grind[dz,RV.nil]):p:=h
def oj{p:Prop}(h:p:=by simp[results,results185,go_sem,a20,a21,a22,a23];rfl):p:=h
def om{p:Prop}(h:p:=by grind[ob]):p:=h
def oq{p:Prop}(h:p:=by rw[HF,e];rfl):p:=h
def ou{p:Prop}(h:p:=by rw[m];exact RV.nil _ _ _):p:=h
def ow{p:Prop}(h:p:=by simp[results,results220,go_sem,y0,y1,y2,y3,hzl2]):p:=h
def oy{p:Prop}(h:p:=by simp[results,results109,go_sem,y0,y1,y2,y3,hzl2]):p:=h
def oz{p:Prop}(h:p:=by simp[results,results64,go_sem,T,U,V,X,c4,SV.val]):p:=h
def pd{p:Prop}(h:p:=by simp[results,results115,go_sem,M,I,J,K,L,SV.val]):p:=h
def ph{p:Prop}(h:p:=by simp[yp];exact Z):p:=h
def pi{p:Prop}(h:p:=by simp[results,results219,go_sem,z0,z1,z2,z3];rfl):p:=h
def pj{p:Prop}(h:p:=by simp[results,results220,go_sem,z0,z1,z2,z3];rfl):p:=h
def pk{p:Prop}(h:p:=by simp[results,results168,go_sem,y0,y1,y2,y3];rfl):p:=h
def pm{p:Prop}(h:p:=by simp[results,results186,go_sem]):p:=h
def pp{p:Prop}(h:p:=by simp[results,results107,go_sem]):p:=h
def pq{p:Prop}(h:p:=by grind[aZ]):p:=h
def pt{p:Prop}(h:p:=by grind[bZ.heap]):p:=h
def pu{p:Prop}(h:p:=by simp;grind):p:=h
def pw{p:Prop}(h:p:=by grind[rz.node,sa.two]):p:=h
def py{p:Prop}(h:p:=by grind[rz.node,sa.one]):p:=h
def pz{p:Prop}(h:p:=by grind[aG.pop]):p:=h
def qa{p:Prop}(h:p:=by grind[LV.j_,ej,RV]):p:=h
def qb{p:Prop}(h:p:=by show k≠H_ w;exact Z):p:=h
def qc{p:Prop}(h:p:=by grind[Fr.setCell,Fr.below]):p:=h
def qd{p:Prop}(h:p:=by rw[aN (n7.trans h.n_)];rfl):p:=h
def qe{p:Prop}(h:p:=by grind[dJ.apart]):p:=h
def qf{p:Prop}(h:p:=by grind[cX.er]):p:=h
def qg{p:Prop}(h:p:=by simpa using h):p:=h
def qh{p:Prop}(h:p:=by simp[GX.U]at q⊢;exact Z):p:=h
def qi{p:Prop}(h:p:=by grind[si]):p:=h
def qj{p:Prop}(h:p:=by simp[f]):p:=h
def qk{p:Prop}(h:p:=by simp at q;exact Z):p:=h
def ql{p:Prop}(h:p:=by rw[g];exact RV.nil _ _ _):p:=h
def qm{p:Prop}(h:p:=by rw[m];exact RV.yes _ _ _):p:=h
def qn{p:Prop}(h:p:=by simp[u]):p:=h
def qo{p:Prop}(h:p:=by grind[ud.below,eo,dw]):p:=h
def qp{p:Prop}(h:p:=by rw[m];exact RV.no _ _ _):p:=h
def qq{p:Prop}(h:p:=by simp[results,results46]):p:=h
def qr{p:Prop}(h:p:=by grind[AY.at_,Nd]):p:=h
def qs{p:Prop}(h:p:=by rw[g];exact ey _ k.out):p:=h
def qt{p:Prop}(h:p:=by rw[m]):p:=h
def qu{p:Prop}(h:p:=by rw[yB];exact Z):p:=h
def qv{p:Prop}(h:p:=by grind[aG.push]):p:=h
def qw{p:Prop}(h:p:=by grind[ed]):p:=h
def qx{p:Prop}(h:p:=by rw[HS];exact hc):p:=h
def qy{p:Prop}(h:p:=by rw[HP]):p:=h
def qz{p:Prop}(h:p:=by rw[d];exact Z):p:=h
def ra{p:Prop}(h:p:=by simp[h]):p:=h
def re{p:Prop}(h:p:=by simp[gF,b];rfl):p:=h
def rg{p:Prop}(h:p:=by simp[i]):p:=h
def rh{p:Prop}(h:p:=by grind[RV.nil]):p:=h
def ri{p:Prop}(h:p:=by simp[q]):p:=h
def rj{p:Prop}(h:p:=by rw[z];rfl):p:=h
def rk{p:Prop}(h:p:=by rw[m];rfl):p:=h
def rl{p:Prop}(h:p:=by rw[C.out]):p:=h
def rm{p:Prop}(h:p:=by simp[b]):p:=h
def rn{p:Prop}(h:p:=by simp[cD]):p:=h
def ro{p:Prop}(h:p:=by simp[aZ]):p:=h
def rp{p:Prop}(h:p:=by rw[e];rfl):p:=h
def rq{p:Prop}(h:p:=by simp[y]):p:=h
def E_{a:Type}(x:a):∃y,y=x:=⟨x,rfl⟩
abbrev Y(n:Int):Wo:=.int .i64 n
abbrev aJ(b i:Nat):Addr:=⟨b,i,Wk⟩
abbrev aW(b:Nat):Wo:=.pointer (Wj ⟨b,0,Wk⟩)
abbrev cB(a b:Wp):Prop:=Go.RowKit.Below a.heap.size a b
abbrev eV:Wq:=.returned (.tuple #[])
abbrev lF:Type:=Wp->Prop
def bs(l:List UInt8):ByteArray:=⟨l.toArray⟩
abbrev H_(w:Wp):Nat:=w.heap.size
abbrev dL(x:ByteArray):List UInt8:=x.data.toList
abbrev bR:Wo:=.slice Wk 0 0
abbrev bP(v:Wo):Wq:=.returned v
abbrev bS:Type:=List UInt8
abbrev cU:Type:=List (List UInt8)
abbrev aL:Type:=Wp
abbrev aU:Type:=Wo
abbrev bI:Type:=Nat->Prop
abbrev iD:Type:=Nat->Wo
abbrev P_(a:Option Addr)(n c:Nat):Wo:=.slice a n c
abbrev Q_(s:ByteArray):Wo:=.string s
abbrev bM(c:Array Wo)(e:TypeId):Obj:=.cells c e
abbrev dA(t:TypeId)(v:Wo):Wo:=.iface t v
abbrev dZ(w:Wp)(c:Array Wo)(e:TypeId):Wp:=w.alloc (.cells c e)
abbrev eJ(w:Wp)(b i:Nat)(v:Wo):Prop:=w.cell? ⟨b,i,Wk⟩=Wj v
attribute [go_sem] P_ Q_ bM dA dZ H_ dL
def rB{P:Program}{f:FuncId}{a:Array Wo}{w:Wp}{v:Wq}{R:Wp->Prop}{Q:Wq->Wp->Prop}(h:Calls P f a w λe b=>e=v/\R b)(k:∀b,R b->Q v b):Calls P f a w Q:=h.mono λ_ b q=>q.1▸k b q.2
def pN{P:Program}{f:FuncId}{a:Array Wo}{w u:Wp}{v:Wq}{Q:Wq->Wp->Prop}(h:Calls P f a w λe b=>e=v/\b=u)(k:Q v u):Calls P f a w Q:=h.mono λ_ _ q=>q.1▸q.2▸k
def Z{p:Prop}(h:p:=by first|omega|(simp only[H_,dL]at*;omega)):p:=h
def i_.{u}{a:Sort u}{b:a}:b=b:=rfl
def Kn{a:Type}{p:a->Prop}:∀b,b∈([]:List a)->p b:=λ_ h=>nomatch h
def kB{n:Nat}:n<=n:=fk n
def zW{a:Type}{p:a->Prop}(b:a)(h:p b):p b:=h
open Go.RowKit
structure th(L:List Nat)(w w':aL):Prop where
 os:w'.os=w.os
 tape:w'.tape=w.tape
 output:w'.output=w.output
 size:w.heap.size<=w'.heap.size
 n_:∀k,k<w.heap.size->k∉L->w'.heap[k]?=w.heap[k]?
theorem th.below{w a:aL}(h:cB w a)(L:List Nat):th L w a:=⟨h.os,h.tape,h.output,h.size,λk b _=>h.block k b⟩
def th.alloc(w:aL)(o:Obj)(L:List Nat):th L w (w.alloc o):=(by grind[th.below,eo,dw])
def th.drew(w:aL)(L:List Nat):th L w w.drew:=⟨rfl,rfl,rfl,s_,λ_ _ _=>rfl⟩
def th.set(w:aL)(b:Nat)(v:aU):th [b] w (w.setCell (aJ b 0) v):=⟨rfl,rfl,rfl,s_,np⟩
def th.trans{L M:List Nat}{a b c:aL}(h:th L a b)(k:th M b c):th (L++M) a c:=⟨k.os.trans h.os,k.tape.trans h.tape,k.output.trans h.output,em h.size k.size,λi e d=>by rw[fg,not_or]at d;rw[k.n_ i (ef e h.size) d.2,h.n_ i e d.1]⟩
end Go.Proofs.YthnhjhlinlhflaaGreatDoor
namespace Go.Proofs.YthnhjhlinlhflaaGreatDoor.Hs
variable{t:List Int}{E F N V W X:Nat}{R:Nat->Option Nat}{P Q:Option Nat}{a:Prop}{j n:Type}{f g:bS}{S:cU}
def bD(l:bS):Nat:=1+l.count 10
def tX(a b:bS):bD (a++b)=bD a+b.count 10:=by grind[bD]
def BX(a:bS):bD a<=aA a+1:=by grind[bD]
def KO(a:bS)(c:UInt8):bD (a++[c])=bD a+if c=10 then 1 else 0:=by grind[bD]
def jB(l:bS)(i lo hi:Nat):Bool:=match l[i]? with|some b=>decide (lo<=b.toNat)&&decide (b.toNat<=hi)|none=>Wl
def bW(l:bS):Nat:=match l[0]? with|none=>0|some b=>if b.toNat<128 then 1 else if 194<=b.toNat/\b.toNat<=223 then if jB l 1 128 191 then 2 else 0 else if 224<=b.toNat/\b.toNat<=239 then if jB l 1 (if b.toNat=224 then 160 else 128) (if b.toNat=237 then 159 else 191)&&jB l 2 128 191 then 3 else 0 else if 240<=b.toNat/\b.toNat<=244 then if jB l 1 (if b.toNat=240 then 144 else 128) (if b.toNat=244 then 143 else 191)&&jB l 2 128 191&&jB l 3 128 191 then 4 else 0 else 0
def dS:Nat->bS->Nat->Option Nat|0,_,_=>Wk|f+1,l,p=>if aA l=0 then Wk else if bW l=0 then Wj p else dS f (l.drop (bW l)) (p+bW l)
def dM(c:UInt8):Bool:=decide (48<=c.toNat)&&decide (c.toNat<=57)
def eG(c:UInt8):Bool:=c.toNat==95||(decide (97<=c.toNat)&&decide (c.toNat<=122)||decide (65<=c.toNat)&&decide (c.toNat<=90))
def eF(l what:bS):Bool:=what.isPrefixOf l
def bO(p:UInt8->Bool):bS->Nat|[]=>0|c::r=>if p c then bO p r+1 else 0
theorem lR(p:UInt8->Bool):∀(l:bS),∀c∈l.take (bO p l),p c=Wm|[],c,h=>by simp at h|a::r,c,h=>by unfold bO at h;split at h;rename_i q;rcases fe.1 h with rfl|h;exact q;exact lR p r c h;cases h
theorem oO(p:UInt8->Bool)(l:bS):bO p l<=aA l:=by induction l with|nil=>simp[bO]|cons c r a=>grind[bO]
def fT(b:UInt8):Bool:=b.toNat !=10
def cJ:Nat->bS->Nat|0,_=>0|f+1,l=>match l with|[]=>0|c::r=>if c.toNat=32\/c.toNat=9\/c.toNat=10 then cJ f r+1 else if eF (c::r) [47,47]then bO fT (c::r)+cJ f ((c::r).drop (bO fT (c::r))) else 0
def rO:Nat:=9223372036854775807
def dQ:Nat->bS->Option Nat|n,[]=>Wj n|n,c::r=>if (rO-(c.toNat-48))/10<n then Wk else dQ (10*n+(c.toNat-48)) r
def fK:cU:=[[102,117,110,99],[118,97,114],[105,102],[101,108,115,101],[119,104,105,108,101],[114,101,116,117,114,110],[112,114,105,110,116],[116,114,117,101],[102,97,108,115,101]]
def eM:cU:=[[61,61],[33,61],[60,61],[38,38],[124,124],[40],[41],[123],[125],[91],[93],[44],[59],[61],[60],[43],[45],[42],[47],[37],[33]]
def dI(name:Bool)(b:UInt8):Bool:=dM b||name&&eG b
def iI(b:UInt8):Bool:=b.toNat !=34&&b.toNat !=10
structure bE where
 c_:Nat
 x_:bS
 l_:Nat
structure rG where
 c_:Nat
 x_:bS
 size:Nat
 ok:Bool
def iX(l:bS)(name:Bool):rG:=if name then {c_:=if fK.contains (l.take (bO (dI name) l))then 107 else 110,x_:=l.take (bO (dI name) l),size:=bO (dI name) l,ok:=decide (bO (dI name) l<=16)} else {c_:=48,x_:=l.take (bO (dI name) l),size:=bO (dI name) l,ok:=(dQ 0 (l.take (bO (dI name) l))).isSome}
def pC(r:bS):rG:={c_:=115,x_:=r.take (bO iI r),size:=bO iI r+2,ok:=decide (r[bO iI r]?=Wj 34)&&decide (bO iI r<=100)}
def kC(l:bS):rG:=match eM.find? (λo=>eF l o)with|some o=>{c_:=112,x_:=o,size:=aA o,ok:=Wm}|none=>{c_:=0,x_:=[],size:=0,ok:=Wl}
def cV:bS->rG|[]=>{c_:=0,x_:=[],size:=0,ok:=Wl}|c::r=>if dM c||eG c then iX (c::r) (eG c)else if c.toNat=34 then pC r else kC (c::r)
def fC:Nat->bS->bS->Except Nat (List bE)|0,_,_=>.error 0|f+1,pre,l=>if aA l=0 then .ok [{c_:=101,x_:=[],l_:=bD pre}] else if (cV l).ok then match fC f (pre++l.take ((cV l).size+cJ (aA l) (l.drop (cV l).size))) (l.drop ((cV l).size+cJ (aA l) (l.drop (cV l).size)))with|.ok ts=>.ok ({c_:=(cV l).c_,x_:=(cV l).x_,l_:=bD pre}::ts)|.error n=>.error n else .error (bD pre)
def gS(l:bS):Except Nat (List bE):=fC (aA l+1) (l.take (cJ (aA l) l)) (l.drop (cJ (aA l) l))
def wP(h:eF g f=Wm):aA f<=aA g:=(by grind[eF])
theorem rS(f:Nat):∀l:bS,cJ f l<=aA l:=by induction f with|zero=>simp[cJ]|succ f a=>intro l;cases l with|nil=>simp[cJ]|cons c r=>grind[oO,cJ]
theorem LQ(f:Nat):∀(g:Nat) (l:bS),aA l<=f->aA l<=g->cJ f l=cJ g l:=by induction f with|zero=>intro g l h _;obtain rfl:l=[]:=(by grind);cases g<;>rfl|succ f b=>intro g l d a;cases l with|nil=>grind|cons c r=>cases g with|zero=>simp at a|succ g=>grind[bO,fT,cJ]
def MI(l:bS)(b:Bool):(iX l b).size=bO (dI b) l:=by unfold iX;grind
theorem uL(l:bS)(h:(cV l).ok=Wm):1<=(cV l).size/\(cV l).size<=aA l:=by cases l with|nil=>simp[cV]at h|cons c r=>rw[cV]at h⊢;split;grind[oO,bO,dI,iX];split;grind[pC];unfold kC at h⊢;cases a:eM.find? (λo=>eF (c::r) o)with|none=>grind|some o=>have b:=List.find?_some a;refine⟨?_,wP b⟩;have:∀o∈eM,1<=aA o:=d_;grind
def jN(ts:List bE):Except Nat (List bE)->Except Nat (List bE)|.ok l=>.ok (ts++l)|.error n=>.error n
def wZ(x:Except Nat (List bE)):jN [] x=x:=by cases x<;>rfl
def vQ(a:List bE)(t:bE)(x:Except Nat (List bE)):jN (a++[t]) x=jN a (jN [t] x):=by cases x<;>simp[jN]
def rL(f:Nat)(a l:bS)(h:aA l=0):fC (f+1) a l=.ok [{c_:=101,x_:=[],l_:=bD a}]:=by rw[fC,ec h]
def BE(f:Nat)(a l:bS)(h:¬(aA l)=0)(b:(cV l).ok=Wl):fC (f+1) a l=.error (bD a):=by grind[fC]
def yX(f:Nat)(a l:bS)(h:¬(aA l)=0)(c:(cV l).ok=Wm)(m:Nat)(b:m=(cV l).size+cJ (aA l) (l.drop (cV l).size)):fC (f+1) a l=jN [{c_:=(cV l).c_,x_:=(cV l).x_,l_:=bD a}] (fC f (a++l.take m) (l.drop m)):=by grind[fC,jN]
structure aC where
 op:bS
 l_:Nat
 x_:bS
 y_:List aC
def aP(ts:List bE)(p:Nat):bE:=ts[p]?.getD {c_:=101,x_:=[],l_:=0}
def bX(ts:List bE)(p:Nat)(x:bS):Bool:=((aP ts p).c_==112||(aP ts p).c_==107)&&(aP ts p).x_==x
abbrev bN(α:Type):=Except Nat (α×Nat)
def bad{α:Type}(ts:List bE)(p:Nat):bN α:=.error (aP ts p).l_
def cR(x:bS):Nat:=if x==[124,124]then 0 else if x==[38,38]then 1 else if x==[61,61]||(x==[33,61]||(x==[60]||x==[60,61]))then 2 else if x==[43]||x==[45]then 3 else if x==[42]||(x==[47]||x==[37])then 4 else 9
def fG(E:Nat->bN aC)(ts:List bE):Nat->Nat->List aC->bN (List aC)|0,_,_=>.error 0|g+1,p,acc=>match E p with|.error l=>.error l|.ok (a,q)=>if bX ts q [44]then fG E ts g (q+1) (acc++[a])else .ok (acc++[a],q)
def gL(E:Nat->bN aC)(ts:List bE)(p:Nat)(shut:bS):bN (List aC):=if bX ts p shut then .ok ([],p)else fG E ts (aA ts+1) p []
def aQ{α:Type}(ts:List bE)(x:bS):bN α->bN α|.error l=>.error l|.ok (a,q)=>if bX ts q x then .ok (a,q+1)else bad ts q
def fU(E:Nat->bN aC)(ts:List bE)(p:Nat)(opens shut:bS):bN (List aC):=if bX ts p opens then aQ ts shut (gL E ts (p+1) shut)else bad ts p
def bQ{α β:Type}(f:α->β):bN α->bN β|.error l=>.error l|.ok (a,q)=>.ok (f a,q)
def bK{α β:Type}(x:bN α)(f:α->Nat->bN β):bN β:=match x with|.error l=>.error l|.ok (a,q)=>f a q
def aV(op:bS)(l_:Nat)(x_:bS)(y_:List aC):aC:={op:=op,l_:=l_,x_:=x_,y_:=y_}
def eL(E:Nat->bN aC)(ts:List bE)(p:Nat):bN aC:=if (aP ts p).c_==48||(aP ts p).c_==115 then .ok (aV [UInt8.ofNat (aP ts p).c_] (aP ts p).l_ (aP ts p).x_ [],p+1) else if bX ts p [116,114,117,101]||bX ts p [102,97,108,115,101]then .ok (aV [98,111,111,108] (aP ts p).l_ (aP ts p).x_ [],p+1) else if bX ts p [40]then aQ ts [41] (E (p+1)) else if bX ts p [91]then bQ (aV [108,105,115,116] (aP ts p).l_ (aP ts p).x_) (fU E ts p [91] [93]) else if (aP ts p).c_==110 then if bX ts (p+1) [40]then bQ (aV [99,97,108,108] (aP ts p).l_ (aP ts p).x_) (fU E ts (p+1) [40] [41]) else .ok (aV [110,97,109,101] (aP ts p).l_ (aP ts p).x_ [],p+1) else bad ts p
def eR(E:Nat->bN aC)(ts:List bE):Nat->aC->Nat->bN aC|0,_,_=>.error 0|g+1,n,p=>if bX ts p [91]then match aQ ts [93] (E (p+1))with|.error l=>.error l|.ok (i,q)=>eR E ts g (aV [105,110,100,101,120] (aP ts p).l_ [] [n,i]) q else .ok (n,p)
def iE(E:Nat->bN aC)(ts:List bE):Nat->Nat->bN aC|0,_=>.error 0|g+1,p=>if bX ts p [45]then bQ (λx=>aV [45,120] (aP ts p).l_ [] [x]) (iE E ts g (p+1)) else if bX ts p [33]then bQ (λx=>aV [33,120] (aP ts p).l_ [] [x]) (iE E ts g (p+1)) else bK (eL E ts p) (eR E ts (aA ts+1))
def cG(L:Nat->bN aC)(ts:List bE)(k:Nat):Nat->aC->Nat->bN aC|0,_,_=>.error 0|g+1,n,q=>if (aP ts q).c_==112&&cR (aP ts q).x_==k then match L (q+1)with|.error l=>.error l|.ok (r,q2)=>if k=2 then .ok (aV (aP ts q).x_ (aP ts q).l_ [] [n,r],q2)else cG L ts k g (aV (aP ts q).x_ (aP ts q).l_ [] [n,r]) q2 else .ok (n,q)
def iN(E:Nat->bN aC)(ts:List bE):Nat->Nat->bN aC|0,p=>iE E ts (aA ts+1) p|j+1,p=>bK (iN E ts j p) (cG (iN E ts j) ts (4-j) (aA ts+1))
def gK(ts:List bE):Nat->Nat->bN aC|0,_=>.error 0|f+1,p=>iN (gK ts f) ts 5 p
def fJ(E:Nat->bN aC)(ts:List bE):Nat->Nat->List aC->bN (List aC)|0,_,_=>.error 0|g+1,p,acc=>if bX ts p [91]then match aQ ts [93] (E (p+1))with|.error l=>.error l|.ok (i,q)=>fJ E ts g q (acc++[i]) else .ok (acc,p)
def fY(E:Nat->bN aC)(ts:List bE)(p:Nat):bN aC:=if (aP ts p).c_==110 then if bX ts (p+1) [40]then aQ ts [59] (bQ (λl=>aV [100,111] (aP ts p).l_ (aP ts p).x_ [aV [99,97,108,108] (aP ts p).l_ (aP ts p).x_ l]) (fU E ts (p+1) [40] [41])) else bK (aQ ts [61] (fJ E ts (aA ts+1) (p+1) [])) λidx q=>aQ ts [59] (bQ (λv=>aV [115,101,116] (aP ts p).l_ (aP ts p).x_ (idx++[v])) (E q)) else bad ts p
def sT(E:Nat->bN aC)(ts:List bE)(p:Nat):bN aC:=if (aP ts (p+1)).c_==110 then if bX ts (p+2) [61]then aQ ts [59] (bQ (λv=>aV [118,97,114] (aP ts p).l_ [] [aV [116,97,114,103,101,116] (aP ts (p+1)).l_ (aP ts (p+1)).x_ [],v]) (E (p+3))) else bad ts (p+2) else bad ts (p+1)
def AT(E B:Nat->bN aC)(ts:List bE)(p:Nat):bN aC:=bK (E (p+1)) λc q=>bK (B q) λb q2=>if bX ts q2 [101,108,115,101]then bQ (λd=>aV [105,102] (aP ts p).l_ [] [c,b,d]) (B (q2+1)) else .ok (aV [105,102] (aP ts p).l_ [] [c,b],q2)
def xZ(E B:Nat->bN aC)(ts:List bE)(p:Nat):bN aC:=bK (E (p+1)) λc q=>bQ (λb=>aV [119,104,105,108,101] (aP ts p).l_ [] [c,b]) (B q)
def pX(E:Nat->bN aC)(ts:List bE)(p:Nat):bN aC:=if bX ts (p+1) [59]then .ok (aV [114,101,116,117,114,110] (aP ts p).l_ [] [],p+2) else aQ ts [59] (bQ (λv=>aV [114,101,116,117,114,110] (aP ts p).l_ [] [v]) (E (p+1)))
def yC(E:Nat->bN aC)(ts:List bE)(p:Nat):bN aC:=aQ ts [59] (bQ (λv=>aV [112,114,105,110,116] (aP ts p).l_ [] [v]) (E (p+1)))
def kE(E B:Nat->bN aC)(ts:List bE)(p:Nat):bN aC:=if bX ts p [118,97,114]then sT E ts p else if bX ts p [105,102]then AT E B ts p else if bX ts p [119,104,105,108,101]then xZ E B ts p else if bX ts p [114,101,116,117,114,110]then pX E ts p else if bX ts p [112,114,105,110,116]then yC E ts p else fY E ts p
def eX(S:Nat->bN aC)(ts:List bE):Nat->Nat->List aC->bN (List aC)|0,_,_=>.error 0|g+1,p,acc=>if bX ts p [125]then .ok (acc,p) else match S p with|.error l=>.error l|.ok (s,q)=>eX S ts g q (acc++[s])
def iP(E:Nat->bN aC)(ts:List bE):Nat->Nat->bN aC|0,_=>.error 0|f+1,p=>if bX ts p [123]then bQ (aV [98,108,111,99,107] (aP ts p).l_ []) (aQ ts [125] (eX (kE E (iP E ts f) ts) ts (aA ts+1) (p+1) [])) else bad ts p
def eB(ts:List bE):Nat->Nat->List aC->bN (List aC)|0,_,_=>.error 0|g+1,p,acc=>if (aP ts p).c_==110 then if bX ts (p+1) [44]then eB ts g (p+2) (acc++[aV [112,97,114,97,109] (aP ts p).l_ (aP ts p).x_ []]) else .ok (acc++[aV [112,97,114,97,109] (aP ts p).l_ (aP ts p).x_ []],p+1) else bad ts p
def lC(ts:List bE)(p:Nat):bN (List aC):=aQ ts [41] (if bX ts p [41]then .ok ([],p)else eB ts (aA ts+1) p [])
def mC(B:Nat->bN aC)(ts:List bE)(p:Nat):bN aC:=if bX ts p [102,117,110,99]then if (aP ts (p+1)).c_==110 then if bX ts (p+2) [40]then bK (lC ts (p+3)) λl q=>bQ (λb=>aV [102,117,110,99] (aP ts (p+1)).l_ (aP ts (p+1)).x_ (l++[b])) (B q) else bad ts (p+2) else bad ts (p+1) else bad ts p
def fR(F:Nat->bN aC)(ts:List bE):Nat->Nat->List aC->bN (List aC)|0,_,_=>.error 0|g+1,p,acc=>if (aP ts p).c_==101 then .ok (acc,p) else match F p with|.error l=>.error l|.ok (s,q)=>fR F ts g q (acc++[s])
def lZ(ts:List bE):bN (List aC):=fR (mC (iP (gK ts (aA ts+1)) ts (aA ts+1)) ts) ts (aA ts+1) 0 []
structure bG(ts:List bE):Prop where
 next:∀p,p<aA ts->(aP ts p).c_≠101->p+1<aA ts
 l_:∀p,p<aA ts->(aP ts p).l_≠0
structure cX{α:Type}(N p:Nat)(r:bN α):Prop where
 er:∀l,r=.error l->l≠0
 ok:∀a q,r=.ok (a,q)->p<q/\q<N
structure gX{α:Type}(N p:Nat)(r:bN α):Prop where
 er:∀l,r=.error l->l≠0
 ok:∀a q,r=.ok (a,q)->p<=q/\q<N
theorem cX.xy{r:bN j}(h:cX N X r):gX N X r:=⟨h.er,λa q e=>by have:=h.ok a q e;exact Z⟩
def cX.ne{r:bN j}(h:cX N X r):r≠.error 0:=λe=>h.er 0 e rfl
theorem gX.ne{r:bN j}(h:gX N X r):r≠.error 0:=λe=>h.er 0 e rfl
theorem cX.low{r:bN j}(h:cX N X r)(d:V<=X):cX N V r:=⟨h.er,λa q e=>by have:=h.ok a q e;exact Z⟩
theorem gX.low{r:bN j}(h:gX N X r)(d:V<X):cX N V r:=⟨h.er,λa q e=>by have:=h.ok a q e;exact Z⟩
theorem cX.ss(a:j)(h:X<V)(c:V<N):cX N X (.ok (a,V):bN j):=⟨(s_),G_⟩
theorem gX.ss(a:j)(h:X<=V)(c:V<N):gX N X (.ok (a,V):bN j):=⟨(s_),G_⟩
theorem cX.map{c:Type}{p:Nat}{r:bN j}(f:j->c)(h:cX N p r):cX N p (bQ f r):=by cases r with|error l=>exact⟨(by grind[cX.er,bQ]),λa q e=>by cases e⟩|ok d=>exact⟨(λl e=>by cases e),λg i e=>by cases e;exact h.ok _ _ i_⟩
theorem bG.zj{a:List bE}(T:bG a){p:Nat}{x:bS}(b:p<aA a)(h:bX a p x=Wm):p+1<aA a:=by refine T.next p b λe=>?_;grind[bX]
theorem bG.bad{b:List bE}(T:bG b)(f:N<aA b):cX (aA b) X (bad b N:bN j):=⟨(by grind[bG.l_,Hs.bad]),λa q e=>by cases e⟩
theorem bG.take{ts:List bE}(T:bG ts){a:Type}{p:Nat}{x:bS}{r:bN a}(h:cX (aA ts) p r):cX (aA ts) p (aQ ts x r):=by cases r with|error l=>grind[aQ]|ok b=>grind[cX.ok,aQ,cX.ss,bG.zj,bG.bad]
theorem bG.zt{b:List bE}(T:bG b){p:Nat}{r:bN j}(h:gX (aA b) p r):cX (aA b) p (aQ b g r):=by cases r with|error l=>exact⟨(by grind[gX.er,aQ]),λa q e=>by cases e⟩|ok c=>have ⟨a,q⟩:=c;have f:=h.ok a q i_;grind[aQ,cX.ss,bG.zj,bG.bad]
theorem bG.yw{b:List bE}(T:bG b){E:Nat->bN aC}(e:∀q,N<q->q<aA b->cX (aA b) q (E q)):∀(g p:Nat) (acc:List aC),N<p->p<aA b->aA b<=p+g->cX (aA b) p (fG E b g p acc)|0,p,acc,_,c,f=>by omega|g+1,p,acc,h,c,f=>by have k:=e p h c;rw[fG];cases n:E p with|error l=>exact⟨qf,s_⟩|ok i=>obtain⟨a,q⟩:=i;have j:=k.ok a q n;simp;split;rename_i m;have:=T.zj j.2 m;exact(bG.yw T e g (q+1) (acc++[a]) Z this Z).low Z;grind[cX.ss]
def bG.Ci{a:List bE}(T:bG a){E:Nat->bN aC}(e:∀q,N<q->q<aA a->cX (aA a) q (E q)){p:Nat}(d:N<p)(c:p<aA a)(y:bS):gX (aA a) p (gL E a p y):=by grind[gL,gX.ss,cX.xy,bG.yw]
theorem bG.Am{a:List bE}(T:bG a){E:Nat->bN aC}{p0:Nat}(c:∀q,p0<q->q<aA a->cX (aA a) q (E q)){p:Nat}(e:p0<=p)(b:p<aA a)(x y:bS):cX (aA a) p (fU E a p x y):=by unfold fU;split;rename_i d;have:=T.zj b d;exact(T.zt (T.Ci c (p:=p+1) Z this y)).low Z;exact T.bad b
theorem bG.Bo{a:List bE}(T:bG a){E:Nat->bN aC}(d:∀q,N<q->q<aA a->cX (aA a) q (E q)){p:Nat}(e:N<=p)(c:p<aA a):cX (aA a) p (eL E a p):=by unfold eL;split;grind[cX.ss,bG.next];split;grind[cX.ss,bG.zj];split;grind[bG.zj,bG.take,cX.low];split;grind[cX.map,bG.Am];split;have hp:=T.next p c G_;split;exact((T.Am d (p:=p+1) Z hp _ _).low Z).map _;grind[cX.ss];exact T.bad c
theorem bG.index{a:List bE}(T:bG a){E:Nat->bN aC}(d:∀q,N<q->q<aA a->cX (aA a) q (E q)):∀(g:Nat) (n:aC) (p:Nat),N<=p->p<aA a->aA a<=p+g->gX (aA a) p (eR E a g n p)
 |0,n,p,_,b,e=>by omega|g+1,n,p,r,b,e=>by
  rw[eR];split;rename_i k;have h:=T.zj b k;have j:=T.take (x:=[93]) (d (p+1) Z h);cases m:aQ a [93] (E (p+1))with|error l=>exact⟨qf,s_⟩|ok o=>obtain⟨i,q⟩:=o;have f:=j.ok i q m;exact((bG.index T d g _ q Z f.2 Z).low (by omega:p<q)).xy
  grind[gX.ss]
theorem bG.bind{b:List bE}(_T:bG b){r:bN j}{f:j->Nat->bN n}(h:cX (aA b) N r)(g:∀a q,N<q->q<aA b->gX (aA b) q (f a q)):cX (aA b) N (bK r f):=by cases r with|error l=>exact⟨(by grind[cX.er,bK]),λa q e=>by cases e⟩|ok i=>grind[cX.ok,gX.low,bK]
theorem bG.unary{a:List bE}(T:bG a){E:Nat->bN aC}{p0:Nat}(e:∀q,p0<q->q<aA a->cX (aA a) q (E q)):∀(g p:Nat),p0<=p->p<aA a->aA a<=p+g->cX (aA a) p (iE E a g p)|0,p,_,c,f=>by omega|g+1,p,h,c,f=>by rw[iE];split;rename_i d;have b:=T.zj c d;exact((bG.unary T e g (p+1) Z b Z).low Z).map _;split;rename_i d;have b:=T.zj c d;exact((bG.unary T e g (p+1) Z b Z).low Z).map _;grind[bG.bind,bG.Bo,bG.index]
def bG.ya{a:List bE}(T:bG a){L:Nat->bN aC}{p0:Nat}(d:∀q,p0<=q->q<aA a->cX (aA a) q (L q)):∀(g:Nat) (n:aC) (q:Nat),p0<=q->q<aA a->aA a<=q+g->gX (aA a) q (cG L a N g n q)
 |0,n,q,_,c,f=>by omega|g+1,n,q,m,c,f=>by
  rw[cG];split;have hp:=T.next q c G_;have i:=d (q+1) Z hp;cases j:L (q+1)with|error l=>exact⟨qf,s_⟩|ok e=>obtain⟨r,b⟩:=e;have h:=i.ok r b j;simp;split;grind[gX.ss];exact((bG.ya T d g _ b Z h.2 Z).low (by omega:q<b)).xy
  grind[gX.ss]
def bG.level{b:List bE}(T:bG b){E:Nat->bN aC}{p0:Nat}(f:∀q,p0<q->q<aA b->cX (aA b) q (E q)):∀(j p:Nat),p0<=p->p<aA b->cX (aA b) p (iN E b j p)|0,p,d,c=>(by grind[bG.unary,iN])|j+1,p,d,c=>by exact T.bind (bG.level T f j p d c) λa q g e=>T.ya (p0:=p0) (λq d c=>bG.level T f j q d c) _ a q Z e Z
theorem bG.expr{a:List bE}(T:bG a):∀(f p:Nat),p<aA a->aA a<=p+f->cX (aA a) p (gK a f p)|0,p,c,e=>by omega|f+1,p,c,e=>by exact T.level (p0:=p) (λq d b=>bG.expr T f q b Z) 5 p (Z) c
theorem bG.exprs{a:List bE}(T:bG a):∀q,q<aA a->cX (aA a) q (gK a (aA a+1) q):=(by grind[bG.expr])
def bG.zy{ts:List bE}(T:bG ts){E:Nat->bN aC}(c:∀q,q<aA ts->cX (aA ts) q (E q)):∀(g p:Nat) (a:List aC),p<aA ts->aA ts<=p+g->gX (aA ts) p (fJ E ts g p a)
 |0,p,a,b,d=>by omega|g+1,p,a,b,d=>by
  rw[fJ];split;rename_i j;have f:=T.zj b j;have h:=T.take (x:=[93]) (c (p+1) f);cases k:aQ ts [93] (E (p+1))with|error l=>exact⟨qf,s_⟩|ok m=>obtain⟨i,q⟩:=m;have e:=h.ok i q k;exact((bG.zy T c g q _ e.2 Z).low (by omega:p<q)).xy
  grind[gX.ss]
theorem bG.simple{a:List bE}(T:bG a){E:Nat->bN aC}(c:∀q,q<aA a->cX (aA a) q (E q)){p:Nat}(b:p<aA a):cX (aA a) p (fY E a p):=by unfold fY;split;have hp:=T.next p b G_;split;exact T.take (((T.Am (p0:=p) (G_) (p:=p+1) Z hp _ _).low Z).map _);exact T.bind ((T.zt (T.zy c _ (p+1) [] hp Z)).low Z) (by grind[cX.xy,bG.take,cX.map]);exact T.bad b
def bG.stmt{a:List bE}(T:bG a){E B:Nat->bN aC}(d:∀q,q<aA a->cX (aA a) q (E q))(b:∀q,N<q->q<aA a->cX (aA a) q (B q))(c:N<aA a):cX (aA a) N (kE E B a N):=by unfold kE;split;grind[sT,bG.next,bG.take,cX.map,cX.low,bG.bad,bX];split;grind[bG.zj,AT,bG.bind,cX.low,cX.xy,cX.map,gX.ss];grind[bG.zj,xZ,bG.bind,cX.low,cX.xy,cX.map,pX,cX.ss,bG.take,yC,bG.simple]
def bG.yb{b:List bE}(_T:bG b){S:Nat->bN aC}{p0:Nat}(d:∀q,p0<q->q<aA b->cX (aA b) q (S q)):∀(g p:Nat) (a:List aC),p0<p->p<aA b->aA b<=p+g->gX (aA b) p (eX S b g p a)|0,p,a,_,c,e=>by omega|g+1,p,a,f,c,e=>by rw[eX];split;grind[gX.ss];have j:=d p f c;cases k:S p with|error l=>exact⟨qf,s_⟩|ok i=>obtain⟨s,q⟩:=i;have h:=j.ok s q k;exact((bG.yb _T d g q _ Z h.2 Z).low (by omega:p<q)).xy
theorem bG.block{a:List bE}(T:bG a){E:Nat->bN aC}(e:∀q,q<aA a->cX (aA a) q (E q)):∀(f p:Nat),p<aA a->aA a<=p+f->cX (aA a) p (iP E a f p)|0,p,b,i=>by omega|f+1,p,b,i=>by rw[iP];split;rename_i k;have g:=T.zj b k;refine((T.zt (T.yb (p0:=p) (λq h d=>T.stmt e (λj l c=>bG.block T e f j c Z) d) _ (p+1) [] Z g Z)).low Z).map _;exact T.bad b
theorem bG.xT{b:List bE}(T:bG b):∀(g p:Nat) (a:List aC),p<aA b->aA b<=p+g->cX (aA b) p (eB b g p a)|0,p,a,d,e=>by omega|g+1,p,a,d,e=>by rw[eB];split;have hp:=T.next p d G_;split;rename_i c;have hp2:=T.zj hp c;exact(bG.xT T g (p+2) _ hp2 Z).low Z;grind[cX.ss];exact T.bad d
theorem bG.func{a:List bE}(T:bG a){B:Nat->bN aC}(b:∀q,q<aA a->cX (aA a) q (B q))(c:N<aA a):cX (aA a) N (mC B a N):=by grind[mC,bG.next,lC,bG.zt,gX.ss,cX.xy,bG.xT,bG.bind,cX.low,cX.map,bG.bad,bX]
theorem bG.xj{a:List bE}(_T:bG a){F:Nat->bN aC}(d:∀q,q<aA a->cX (aA a) q (F q)):∀(g p:Nat) (b:List aC),p<aA a->aA a<=p+g->gX (aA a) p (fR F a g p b)|0,p,b,c,i=>by omega|g+1,p,b,c,i=>by rw[fR];split;grind[gX.ss];have e:=d p c;cases j:F p with|error l=>exact⟨qf,s_⟩|ok f=>obtain⟨s,q⟩:=f;have h:=e.ok s q j;exact((bG.xj _T d g q _ h.2 Z).low (by omega:p<q)).xy
def bG.prog{a:List bE}(T:bG a)(h:0<aA a):lZ a≠.error 0:=(by grind[gX.ne,bG.xj,bG.func,bG.block,bG.exprs,lZ])
structure qW(ts:List bE):Prop where
 some_:0<aA ts
 last:(aP ts (aA ts-1)).c_=101
 l_:∀p,p<aA ts->(aP ts p).l_≠0
theorem vJ(t:bE)(a:List bE)(p:Nat):aP (t::a) (p+1)=aP a p:=by simp[aP]
def RO(f:Nat):∀(a l:bS) (c:List bE),fC f a l=.ok c->qW c/\aA c<=f:=by induction f with|zero=>intro a l c h;cases h|succ f j=>intro a l c h;by_cases e:aA l=0;rw[rL _ _ _ e]at h;cases h;refine⟨⟨s_,rfl,λp g=>?_⟩,s_⟩;grind[bD,aP];cases i:(cV l).ok;grind[fC];rw[yX _ _ _ e i _ rfl]at h;cases d:fC f (a++l.take ((cV l).size+cJ (aA l) (l.drop (cV l).size))) (l.drop ((cV l).size+cJ (aA l) (l.drop (cV l).size)))with|error n=>rw[d]at h;cases h|ok b=>rw[d]at h;cases h;have ⟨h1,h2⟩:=j _ _ b d;refine⟨⟨s_,?_,λp g=>?_⟩,G_⟩;have:=h1.some_;show (aP (_::b) (aA (_::b)-1)).c_=101;rw[ff,show aA b+1-1=(aA b-1)+1 by omega,vJ];exact h1.last;cases p with|zero=>grind[bD,aP]|succ p=>grind[vJ,qW.l_]
def qW.ok{a:List bE}(h:qW a):bG a:=⟨λp b c=>by by_cases e:p=aA a-1;grind[qW.last];exact Z,h.l_⟩
def nS{a:List bE}(h:gS g=.ok a):qW a/\aA a<=aA g+1:=RO _ _ _ _ h
def eA(l:bS):Except (Nat×Nat) (List aC):=if 2000<aA l then .error (1,0) else match dS (aA l) l 0 with|some k=>.error (2,bD (l.take k))|none=>match gS l with|.error n=>.error (3,n)|.ok ts=>match lZ ts with|.error n=>.error (4,n)|.ok (ks,_)=>.ok ks
def jI(l:bS):Except (Nat×Nat) (List bE):=if 2000<aA l then .error (1,0) else match dS (aA l) l 0 with|some k=>.error (2,bD (l.take k))|none=>match gS l with|.error n=>.error (3,n)|.ok ts=>.ok ts
def mP(al:Bool)(ts:List bE):bN aC:=if al then match gK ts (aA ts+1) 0 with|.error n=>.error n|.ok (a,q)=>if (aP ts q).c_=101 then .ok (a,q)else .error (aP ts q).l_ else bQ (aV [112,114,111,103,114,97,109] 0 []) (lZ ts)
def eZ(al:Bool)(l:bS):Except (Nat×Nat) aC:=match jI l with|.error f=>.error f|.ok ts=>match mP al ts with|.error n=>.error (4,n)|.ok (a,_)=>.ok a
def zG(l:bS):eZ Wl l=match eA l with|.error f=>.error f|.ok a=>.ok (aV [112,114,111,103,114,97,109] 0 [] a):=by grind[eZ,jI,mP,eA,bQ]
structure bF where
 e_:cU
 kind:Nat
 l_:Nat
def bF.found(s:bF)(l_ kind:Nat):bF:=if s.kind=0 then {s with kind:=kind,l_:=l_} else s
def gM(x:bS):Bool:=x==[108,101,110]||x==[114,101,97,100]
def ru(s:bF)(n:aC):bF:=if gM n.x_||s.e_.contains n.x_ then s.found n.l_ 6 else s
def dE(fs:List aC)(name:bS):Option aC:=fs.find? λf=>f.x_==name
def gO(fs:List aC)(a_:Bool)(name:bS):Int:=if name==[108,101,110]then 1 else if name==[114,101,97,100]&&!a_ then 0 else match dE fs name with|some f=>(aA f.y_:Int)-1|none=>-1
def fX(fs:List aC)(a_:Bool)(s:bF)(n:aC):bF:=if gO fs a_ n.x_<0 then s.found n.l_ 6 else if gO fs a_ n.x_≠(aA n.y_:Int)then s.found n.l_ 7 else s
def cK(fs:List aC)(a_:Bool)(s:bF)(n:aC):bF:=if n.op==[115,101,116]||n.op==[110,97,109,101]then (if s.e_.contains n.x_ then s else s.found n.l_ 6) else if n.op==[99,97,108,108]then fX fs a_ s n else s
def aR(fs:List aC)(a_:Bool):Nat->aC->bF->bF
 |0,_,s=>s|d+1,n,s=>if n.op==[118,97,114]then match n.y_ with
 |t::v::_=>let s1:=aR fs a_ d v (ru s t);{s1 with e_:=s1.e_++[t.x_]}|_=>s else let s1:=n.y_.foldl (λs k=>aR fs a_ d k s) (cK fs a_ s n)
 if n.op==[98,108,111,99,107]then {s1 with e_:=s1.e_.take (aA s.e_)} else s1
def cT:Nat->aC->Nat|0,_=>0|d+1,n=>1+(n.y_.map (cT d)).sum
def vH:Nat->aC->Prop|0,_=>True|d+1,n=>(n.op=[118,97,114]->2<=aA n.y_)/\∀k∈n.y_,vH d k
def rz(m:Nat)(a:aC):Prop:=∀d,cT d a<=m/\vH d a
def sa(m:Nat)(l:List aC):Prop:=∀d,(l.map (cT d)).sum<=m/\∀k∈l,vH d k
def rz.le{m n:Nat}{a:aC}(h:rz m a)(b:m<=n):rz n a:=(by grind[rz])
def sa.le{m n:Nat}{a:List aC}(h:sa m a)(b:m<=n):sa n a:=(by grind[sa])
theorem sa.nil:sa 0 []:=(by grind[sa])
def sa.snoc{m:Nat}{l:List aC}{a:aC}(h:sa m l)(b:rz N a):sa (m+N) (l++[a]):=λd=>by grind[sa,rz]
theorem sa.one{a:aC}(b:rz N a):sa N [a]:=λd=>by grind[List.mem_singleton,rz]
theorem sa.two{a b:aC}(c:rz N a)(d:rz X b):sa (N+X) [a,b]:=(sa.one c).snoc d
def sa.three{m:Nat}{a b c:aC}(d:rz m a)(e:rz N b)(f:rz X c):sa (m+N+X) [a,b,c]:=(sa.two d e).snoc f
theorem rz.node{m:Nat}{l:List aC}(h:sa m l)(e:g=[118,97,114]->2<=aA l):rz (m+1) (aV g N f l):=λd=>by cases d with|zero=>grind[cT,vH]|succ d=>grind[cT,aV,vH,sa]
def cE{α:Type}(P:Nat->α->Prop)(p:Nat)(r:bN α):Prop:=∀a q,r=.ok (a,q)->∃m,p+m<=q/\P m a
theorem cE.bad{P:Nat->j->Prop}{b:List bE}:cE P N (bad b X):=λa q h=>by cases h
def cE.err{P:Nat->j->Prop}:cE P N (.error X):=λa q h=>by cases h
def cE.ss{P:Nat->j->Prop}{m:Nat}{a:j}(c:N+m<=X)(h:P m a):cE P N (.ok (a,X)):=(by grind[cE])
theorem cE.take{a:Type}{P:Nat->a->Prop}{p:Nat}{ts:List bE}{x:bS}{r:bN a}(h:cE P p r):cE P p (aQ ts x r):=by cases r with|error l=>exact cE.err|ok b=>grind[aQ,cE.bad,cE]
theorem cE.map{c:Type}{P:Nat->j->Prop}{Q:Nat->c->Prop}{p d k:Nat}{r:bN j}{f:j->c}(h:cE P p r)(e:d+k<=p)(g:∀m a,P m a->Q (m+k) (f a)):cE Q d (bQ f r):=by cases r with|error l=>exact cE.err|ok i=>grind[cE,bQ]
theorem cE.bind{P:Nat->j->Prop}{Q:Nat->n->Prop}{r:bN j}{f:j->Nat->bN n}(h:cE P N r)(e:∀m a q,P m a->N+m<=q->cE Q X (f a q)):cE Q X (bK r f):=by cases r with|error l=>exact cE.err|ok g=>grind[cE,bK]
def cE.low{P:Nat->j->Prop}{r:bN j}(h:cE P N r)(c:X<=N):cE P X r:=(by grind[cE])
section
variable {ts:List bE} {E:Nat->bN aC}
theorem wJ(f:∀q,cE rz q (E q)):∀(g p:Nat) (b:List aC) (c d:Nat),sa c b->d+c<=p->cE sa d (fG E ts g p b)|0,p,b,_,_,_,_=>cE.err|g+1,p,b,c,d,h,k=>by rw[fG];cases j:E p with|error l=>exact cE.err|ok i=>obtain⟨a,q⟩:=i;obtain⟨m,n,e⟩:=f p a q j;simp;split;exact wJ f g (q+1) _ (c+m) d (h.snoc e) Z;exact cE.ss (m:=c+m) Z (h.snoc e)
def wI(a:∀q,cE rz q (E q))(p:Nat)(x y:bS):cE sa (p+1) (fU E ts p x y):=by grind[fU,cE.take,gL,sa.nil,wJ,cE.bad,cE]
theorem pT{c b:bS}{a:Nat}(d:c≠[118,97,114]):rz 1 (aV c a b []):=(by grind[rz.node,sa.nil])
theorem MQ(a:∀q,cE rz q (E q))(p:Nat):cE rz p (eL E ts p):=by unfold eL;split;grind[pT,cE];split;grind[pT,cE];split;grind[cE.take,cE];split;exact cE.map (k:=1) (wI a p _ _) Z (by grind[rz.node]);split;split;exact cE.map (k:=1) (wI a (p+1) _ _) Z (by grind[rz.node]);grind[pT,cE];exact cE.bad
theorem EV(c:∀q,cE rz q (E q)):∀(g:Nat) (n:aC) (p b a:Nat),rz b n->a+b<=p->cE rz a (eR E ts g n p)
 |0,n,p,_,_,_,_=>cE.err|g+1,n,p,b,a,f,e=>by
  rw[eR];split;have d:=(c (p+1)).take (ts:=ts) (x:=[93]);cases h:aQ ts [93] (E (p+1))with|error l=>exact cE.err|ok j=>obtain⟨i,q⟩:=j;obtain⟨m,o,k⟩:=d i q h;exact EV c g _ q (b+m+1) a (pw) Z
  exact cE.ss e f
def wG(a:∀q,cE rz q (E q)):∀(g p:Nat),cE rz p (iE E ts g p)|0,p=>cE.err|g+1,p=>by rw[iE];split;exact cE.map (k:=1) (wG a g (p+1)) Z py;split;exact cE.map (k:=1) (wG a g (p+1)) Z py;grind[cE.bind,MQ,EV]
def vL{L:Nat->bN aC}{k:Nat}(d:∀q,cE rz q (L q)):∀(g:Nat) (n:aC) (q a c:Nat),rz a n->c+a<=q->cE rz c (cG L ts k g n q)
 |0,n,q,_,_,_,_=>cE.err|g+1,n,q,a,c,h,i=>by
  rw[cG];split;cases j:L (q+1)with|error l=>exact cE.err|ok f=>obtain⟨r,e⟩:=f;obtain⟨m,t,s⟩:=d _ r e j;have o:∀p b,rz (a+m+1) (aV p b [] [n,r]):=(by grind[rz.node,sa.two]);simp;split;grind[cE];exact vL d g _ e (a+m+1) c (o _ _) Z
  exact cE.ss i h
def wK(b:∀q,cE rz q (E q)):∀(j p:Nat),cE rz p (iN E ts j p)|0,p=>wG b _ p|j+1,p=>by exact cE.bind (wK b j p) λm a q d c=>vL (λq=>wK b j q) _ a q m p d c
theorem AE(a:List bE):∀(f p:Nat),cE rz p (gK a f p)|0,p=>cE.err|f+1,p=>by exact wK (λq=>AE a f q) 5 p
def yY(e:∀q,cE rz q (E q)):∀(g p:Nat) (a:List aC) (c b:Nat),sa c a->b+c<=p->cE sa b (fJ E ts g p a)
 |0,p,a,_,_,_,_=>cE.err|g+1,p,a,c,b,d,h=>by
  rw[fJ];split;have f:=(e (p+1)).take (ts:=ts) (x:=[93]);cases k:aQ ts [93] (E (p+1))with|error l=>exact cE.err|ok n=>obtain⟨i,q⟩:=n;obtain⟨m,o,j⟩:=f i q k;exact yY e g q _ (c+m) b (d.snoc j) Z
  exact cE.ss h d
def RQ(a:∀q,cE rz q (E q))(p:Nat):cE rz p (fY E ts p):=by unfold fY;split;split;exact cE.take (cE.map (k:=2) (wI a (p+1) _ _) Z (by grind[rz.node,sa.one,rz]));refine cE.bind ((yY a _ (p+1) [] 0 (p+1) sa.nil Z).take) λm l q c b=>?_;exact cE.take (cE.map (k:=m+1) (a q) Z (by grind[rz.node,rz,sa]));exact cE.bad
def F9{B:Nat->bN aC}(a:∀q,cE rz q (E q))(e:∀q,cE rz q (B q))(p:Nat):cE rz p (kE E B ts p):=by unfold kE;split;unfold sT;split;split;exact cE.take (cE.map (k:=2) (a (p+3)) Z λm v l=>rz.le (rz.node (sa.two (pT s_) l) s_) Z);exact cE.bad;exact cE.bad;split;refine cE.bind (a (p+1)) λm c q g i=>cE.bind (e q) λf b n j r=>?_;split;exact cE.map (k:=m+f+1) (e (n+1)) Z λo d h=>rz.le (rz.node (sa.three g j h) s_) Z;exact cE.ss (m:=m+f+1) Z (pw);split;exact cE.bind (a (p+1)) λm c q g i=>cE.map (k:=m+1) (e q) Z pw;split;unfold pX;grind[pT,cE.take,cE.map,rz.node,sa.one,cE,bX,aP];split;exact cE.take (cE.map (k:=1) (a (p+1)) Z py);exact RQ a p
def vM{S:Nat->bN aC}(e:∀q,cE rz q (S q)):∀(g p:Nat) (a:List aC) (c b:Nat),sa c a->b+c<=p->cE sa b (eX S ts g p a)|0,p,a,_,_,_,_=>cE.err|g+1,p,a,c,b,d,f=>by rw[eX];split;exact cE.ss f d;cases i:S p with|error l=>exact cE.err|ok j=>obtain⟨s,q⟩:=j;obtain⟨m,k,h⟩:=e p s q i;exact vM e g q _ (c+m) b (d.snoc h) Z
theorem EW(a:∀q,cE rz q (E q)):∀(f p:Nat),cE rz p (iP E ts f p)|0,p=>cE.err|f+1,p=>by rw[iP];split;exact cE.map (k:=1) (cE.take (vM (λq=>F9 a (λq=>EW a f q) q) _ (p+1) [] 0 (p+1) sa.nil Z)) Z (by grind[rz.node]);exact cE.bad
theorem vK:∀(g p:Nat) (a:List aC) (b c:Nat),sa b a->c+b<=p->cE sa c (eB ts g p a)|0,p,a,_,_,_,_=>cE.err|g+1,p,a,b,c,e,f=>by have d:sa (b+1) (a++[aV [112,97,114,97,109] (aP ts p).l_ (aP ts p).x_ []]):=e.snoc (pT s_);rw[eB];split;split;exact vK g (p+2) _ (b+1) c d Z;grind[cE];exact cE.bad
theorem G5{B:Nat->bN aC}(b:∀q,cE rz q (B q))(p:Nat):cE rz p (mC B ts p):=by
 unfold mC;split;split;split;have a:cE sa (p+3) (lC ts (p+3)):=by grind[lC,cE.take,sa.nil,vK,cE]
 exact cE.bind a λm l q d c=>cE.map (k:=m+1) (b q) Z (by grind[rz.node,rz,sa]);exact cE.bad;exact cE.bad;exact cE.bad
def wH{F:Nat->bN aC}(e:∀q,cE rz q (F q)):∀(g p:Nat) (a:List aC) (c b:Nat),sa c a->b+c<=p->cE sa b (fR F ts g p a)|0,p,a,_,_,_,_=>cE.err|g+1,p,a,c,b,d,f=>by rw[fR];split;exact cE.ss f d;cases j:F p with|error l=>exact cE.err|ok h=>obtain⟨s,q⟩:=h;obtain⟨m,k,i⟩:=e p s q j;exact wH e g q _ (c+m) b (d.snoc i) Z
end
def G0(a:List bE)(T:bG a)(c:0<aA a)(b:List aC)(q:Nat)(h:lZ a=.ok (b,q)):sa (aA a) b:=by have ⟨m,h1,h2⟩:=wH ((by grind[G5,EW,AE])) (aA a+1) 0 [] 0 0 sa.nil Z b q h;have:=(T.xj ((by grind[bG.func,bG.block,bG.exprs])) _ 0 [] c Z).ok b q h;exact h2.le Z
def nC{a:List aC}(h:eA g=.ok a):sa 2001 a:=by unfold eA at h;split at h;cases h;split at h;cases h;split at h;cases h;rename_i c d;have ⟨h1,h2⟩:=nS d;split at h;cases h;rename_i q b;cases h;exact(G0 c h1.ok h1.some_ _ _ b).le Z
def fN:Nat->aC->Prop|0,_=>False|d+1,n=>∀k∈n.y_,fN d k
def IE(Y_:a:=by
 have:∀l:List aC,k∈l->cT d k<=(l.map (cT d)).sum:=by intro l;induction l with|nil=>simp|cons x l ih=>grind
 grind):a:=Y_
theorem nW:∀(m:Nat) (a:aC),rz m a->fN m a
 |0,a,h=>by have:=(h 1).1;grind[cT]|m+1,a,h=>λk b=>nW m k λd=>by
  have e:=(h (d+1)).1;have c:=(h (d+1)).2.2 k b;have:cT d k<=(a.y_.map (cT d)).sum:=by exact IE
  grind[cT]
theorem rD{f g:n->j->n}:∀(l:List j) (b:n),(∀a∈l,∀b,f b a=g b a)->l.foldl f b=l.foldl g b|[],_,_=>rfl|a::l,b,h=>by rw[ic,ic,h a (s_)];exact rD l _ G_
theorem nR(c:List aC)(a:Bool):∀(d e:Nat) (n:aC) (s:bF),fN d n->d<=e->aR c a d n s=aR c a e n s|0,_,_,_,h,_=>h.elim|d+1,0,_,_,_,h=>by omega|d+1,e+1,n,s,h,f=>by rw[aR,aR];split;have b:=λk b s=>nR c a d e k s (h k b) Z;grind;rw[rD n.y_ _ λk b s=>nR c a d e k s (h k b) Z]
def eO(fs:List aC)(d:Nat)(s:bF)(k:aC):bF:=if k.op==[112,97,114,97,109]then {ru s k with e_:=(ru s k).e_++[k.x_]} else aR fs Wl d k s
def gQ(fs:List aC)(d:Nat)(s:bF)(n:aC)(first:Bool):bF:=n.y_.foldl (eO fs d) {(if gM n.x_||!first then s.found n.l_ 6 else s)with e_:=[]}
def eU(fs:List aC)(d:Nat):List aC->List aC->bF->bF|_,[],s=>s|pre,n::rest,s=>eU fs d (pre++[n]) rest (gQ fs d s n (dE pre n.x_).isNone)
def lJ(d:Nat)(ks:List aC):Nat×Nat:=match dE ks [109,97,105,110]with|none=>(5,0)|some m=>if 1<aA m.y_ then (5,0)else ((eU ks d [] ks ⟨[],0,0⟩).kind,(eU ks d [] ks ⟨[],0,0⟩).l_)
def dP(l:bS):Nat×Nat:=match eA l with|.error f=>f|.ok ks=>lJ 2001 ks
def pD(t:bE):Prop:=t.c_=112\/(t.c_=107/\fK.contains t.x_=Wm)\/t.c_=110\/(t.c_=48/\(dQ 0 t.x_).isSome=Wm)\/t.c_=115\/t.c_=101
def xS(ts:List bE):Prop:=∀t∈ts,pD t
theorem MO(l:bS)(l_:Nat)(h:(cV l).ok=Wm):pD {c_:=(cV l).c_,x_:=(cV l).x_,l_:=l_}:=by cases l with|nil=>simp[cV]at h|cons c r=>grind[cV,iX,kC,pD,pC]
def F2(f:Nat):∀(a l:bS) (b:List bE),fC f a l=.ok b->xS b:=by induction f with|zero=>intro a l b h;cases h|succ f c=>grind[pD,fC,MO,xS]
def ET{a:List bE}(h:gS g=.ok a):xS a:=F2 _ _ _ _ h
theorem xS.tk{a:List bE}(h:xS a)(p:Nat)(b:p<aA a):pD (aP a p):=by grind[aP,xS]
structure aD where
 c_:Nat
 n:Int
 s:bS
 l:List aD
def aD.ind{P:aD->Prop}(h:∀v,(∀x,x∈v.l->P x)->P v):∀v,P v|⟨a,b,c,l⟩=>h ⟨a,b,c,l⟩ λx _=>aD.ind h x
def bB(n:Int):aD:=⟨0,n,[],[]⟩
def cF(b:Bool):aD:=⟨1,if b then 1 else 0,[],[]⟩
def bT(s:bS):aD:=⟨2,0,s,[]⟩
def bH(l:List aD):aD:=⟨3,0,[],l⟩
def aY:aD:=⟨0,0,[],[]⟩
noncomputable def aD.fold{α:Type}(f:Nat->Int->bS->List α->α)(v:aD):α:=aD.rec (motive_1:=λ_=>α) (motive_2:=λ_=>List α) (λa n s _ c=>f a n s c) [] (λ_ _ h t=>h::t) v
def aD.fold_eq(f:Nat->Int->bS->List j->j)(v:aD):v.fold f=f v.c_ v.n v.s (v.l.map (aD.fold f)):=by have ⟨a,n,s,l⟩:=v;apply ey (f a n s);induction l with|nil=>rfl|cons x l c=>grind[aD.fold]
noncomputable def aI(v:aD):Nat:=v.fold λ_ _ s c=>1+aA s+c.sum
theorem dG(v:aD):aI v=1+aA v.s+(v.l.map aI).sum:=aD.fold_eq _ v
def TL:Nat->aD->Prop|0,_=>True|d+1,v=>-9223372036854775808<=v.n/\v.n<=9223372036854775807/\∀x∈v.l,TL d x
structure nM(v:aD):Prop where
 all:∀d,TL d v
def nM.lo{v:aD}(h:nM v):-9223372036854775808<=v.n:=(h.all 1).1
def nM.hi{v:aD}(h:nM v):v.n<=9223372036854775807:=(h.all 1).2.1
def nM.uu{v x:aD}(h:nM v)(a:x∈v.l):nM x:=⟨λd=>(h.all (d+1)).2.2 x a⟩
def nM.mk'{v:aD}(b:-9223372036854775808<=v.n)(a:v.n<=9223372036854775807)(c:∀x∈v.l,nM x):nM v:=⟨λd=>by cases d with|zero=>trivial|succ d=>grind[nM.all,TL]⟩
def nV{α:Type}:List (α->Bool)->List α->Bool|[],[]=>Wm|f::fs,x::xs=>f x&&nV fs xs|_,_=>Wl
noncomputable def cZ(x:aD):aD->Bool:=x.fold λa n s c y=>a==y.c_&&(n==y.n&&(s==y.s&&nV c y.l))
theorem sA(x y:aD):cZ x y=(x.c_==y.c_&&(x.n==y.n&&(x.s==y.s&&nV (x.l.map cZ) y.l))):=congrFun (aD.fold_eq _ x) y
theorem sX:∀x y:aD,cZ x y=Wm↔x=y:=by
 refine aD.ind λx e y=>?_;have d:∀(l:List aD),(∀v,v∈l->∀y,cZ v y=Wm↔v=y)->∀m:List aD,nV (l.map cZ) m=Wm↔l=m:=by intro l;induction l with|nil=>grind[nV]|cons a l c=>intro h m;cases m with|nil=>simp[nV]|cons b m=>grind[nV]
 rw[sA];constructor;cases x;cases y;simp_all;grind
def jD:Nat->Nat->bS->bS|0,_,t=>t|f+1,n,t=>if n<10 then UInt8.ofNat (48+n)::t else jD f (n/10) (UInt8.ofNat (48+n%10)::t)
def jV(n:Int):bS:=(if n<0 then [45]else [])++jD 20 n.natAbs []
def fM:cU->bS|[]=>[]|[x]=>x|x::r=>x++[44,32]++fM r
noncomputable def cW(v:aD):bS:=v.fold λa n s c=>if a=0 then jV n else if a=1 then (if n=1 then [116,114,117,101]else [102,97,108,115,101])else if a=2 then [34]++s++[34]else [91]++fM c++[93]
def mG(v:aD):cW v=if v.c_=0 then jV v.n else if v.c_=1 then (if v.n=1 then [116,114,117,101]else [102,97,108,115,101])else if v.c_=2 then [34]++v.s++[34]else [91]++fM (v.l.map cW)++[93]:=aD.fold_eq _ v
noncomputable def jX(v:aD):bS:=if v.c_=2 then v.s else cW v
def pB(n:Int):Int:=(n+9223372036854775808)%18446744073709551616-9223372036854775808
noncomputable def iK(a b:aD):aD×Nat:=let v:=if a.c_=3 then bH (a.l++b.l)else bT (a.s++b.s)
 if 200<aI v then (aY,6)else (v,0)
def jJ(op:bS)(x y:Int):aD×Nat:=if op=[43]then (bB (pB (x+y)),0) else if op=[45]then (bB (pB (x-y)),0) else if op=[42]then (bB (pB (x*y)),0) else if op=[60]then (cF (decide (x<y)),0) else if op=[60,61]then (cF (decide (x<=y)),0) else if y=0 then (aY,3) else if op=[47]then (bB (pB (x.tdiv y)),0) else (bB (pB (x.tmod y)),0)
def jA:bS->bS->Bool|[],[]=>Wl|[],_::_=>Wm|_::_,[]=>Wl|a::l,b::m=>if a.toNat<b.toNat then Wm else if b.toNat<a.toNat then Wl else jA l m
noncomputable def dH(op:bS)(a b:aD):aD×Nat:=if op=[61,61]then (cF (cZ a b),0) else if op=[33,61]then (cF (!cZ a b),0) else if a.c_≠b.c_\/a.c_=1 then (aY,2) else if a.c_=0 then jJ op a.n b.n else if op=[43]then iK a b else if a.c_=2/\op=[60]then (cF (jA a.s b.s),0) else if a.c_=2/\op=[60,61]then (cF (!jA b.s a.s),0) else (aY,2)
def dF(op:bS)(a:aD):aD×Nat:=if op=[45,120]/\a.c_=0 then (bB (pB (-a.n)),0) else if op=[33,120]/\a.c_=1 then (cF (decide (a.n=0)),0) else (aY,2)
def jP:Nat->bS->cU|0,_=>[]|f+1,l=>if l=[]then []else if bW l=0 then []else l.take (bW l)::jP f (l.drop (bW l))
def eD(l:bS):cU:=jP (aA l) l
def dO(a:aD):aD×Nat:=if a.c_=3 then (bB (aA a.l),0)else if a.c_=2 then (bB (aA (eD a.s)),0)else (aY,2)
def kU(a:aD):List aD:=if a.c_=2 then (eD a.s).map bT else a.l
def bY(a b:aD):aD×Nat:=if a.c_<2\/b.c_≠0 then (aY,2) else if b.n<0\/(aA (kU a):Int)<=b.n then (aY,4) else ((kU a).getD b.n.toNat aY,0)
def cI:List aD->aD->aD->aD×Nat|[],_,v=>(v,0)|i::at',wi,v=>if wi.c_≠3\/i.c_≠0 then (aY,2) else if i.n<0\/(aA wi.l:Int)<=i.n then (aY,4) else if (cI at' (wi.l.getD i.n.toNat aY) v).2≠0 then (aY,(cI at' (wi.l.getD i.n.toNat aY) v).2) else (bH (wi.l.set i.n.toNat (cI at' (wi.l.getD i.n.toNat aY) v).1),0)
theorem rF:bW g<=aA g:=by grind[bW,jB]
theorem LJ:∀(f:Nat) (l:bS),aA l<=f->jP f l=eD l:=by
 have h:∀(n f g:Nat) (l:bS),aA l<=n->aA l<=f->aA l<=g->jP f l=jP g l:=by intro n;induction n with|zero=>intro f g l b a c;have:l=[]:=(by grind);subst this;cases f<;>cases g<;>simp[jP]|succ n i=>intro f g l b a c;by_cases e:l=[];grind;have d:0<aA l:=(by grind);cases f with|zero=>exact Z|succ f=>cases g with|zero=>exact Z|succ g=>grind[jP]
 grind[eD]
theorem kO(b:g≠[])(c:bW g≠0):eD g=g.take (bW g)::eD (g.drop (bW g)):=by have a:0<aA g:=(by grind);have ⟨n,hn⟩:∃n,aA g=n+1:=⟨aA g-1,Z⟩;grind[LJ,jP,eD]
theorem gI(h:g=[]\/bW g=0):eD g=[]:=by unfold eD;cases a:aA g with|zero=>rfl|succ n=>grind[jP]
def qK(l:bS):aA (eD l)<=aA l:=by
 have h:∀(n:Nat) (l:bS),aA l<=n->aA (eD l)<=aA l:=by intro n;induction n with|zero=>grind[gI]|succ n a=>grind[gI,kO]
 exact h (aA l) l (Z)
inductive aM where
 |begin (l_:Nat) (e_:cU)
 |push (v:aD)
 |load (slot:Nat)
 |declare (slot:Nat)
 |assign (slot n:Nat)
 |jump (to_:Nat)
 |skip (to_:Nat)
 |sr (when:Bool) (to_:Nat)
 |tr
 |unary (op:bS)
 |binary (op:bS)
 |index
 |list (n:Nat)
 |length
 |read
 |call (f:Nat) (n:Nat)
 |tj
 |drop
 |print
def aM.sd:aM->Bool|.begin _ _=>Wm|_=>Wl
structure eI where
 name:bS
 code:List aM
structure aG where
 fn:eI
 next:Nat
 l_:Nat
 e_:cU
 g_:List aD
 ops:List aD
structure cY where
 f_:List aG
 tape:List Int
 out:cU
def aG.push(f:aG)(v:aD):aG:={f with ops:=f.ops++[v]}
def aG.last(f:aG):aD:=f.ops.getLast?.getD aY
def aG.pop(f:aG):aG:={f with ops:=f.ops.dropLast}
def aG.many(f:aG)(n:Nat):List aD:=f.ops.drop (aA f.ops-n)
def aG.p_(f:aG)(n:Nat):aG:={f with ops:=f.ops.take (aA f.ops-n)}
noncomputable def jO(r:aD×Nat):aD×Nat:=if r.2=0 then if 200<aI r.1 then (aY,6)else r else r
noncomputable def jQ(whole:aD)(at_:List aD)(to_:aD):aD×Nat:=jO (cI at_ whole to_)
noncomputable def aO(i:aM)(f:aG):aG×Nat:=match i with
 |.begin l s=>({f with l_:=l,e_:=s},0)|.push v=>(f.push v,0)|.load k=>(f.push (f.g_[k]?.getD aY),0)|.declare k=>({f.pop with g_:=f.g_.take k++[f.last]},0)|.assign k n=>let g:=f.pop.p_ n
 let r:=jQ (f.g_[k]?.getD aY) (f.pop.many n) f.last
 if r.2=0 then ({g with g_:=f.g_.set k r.1},0)else (g,r.2)|.jump t=>({f with next:=t},0)|.skip t=>if f.last.c_=1 then (if f.last.n=1 then f.pop else {f.pop with next:=t},0)else (f.pop,2)|.sr w t=>if f.last.c_=1 then (if decide (f.last.n=1)=w then {f.pop.push f.last with next:=t} else f.pop,0)else (f.pop,2)|.tr=>if f.last.c_=1 then (f.pop.push f.last,0)else (f.pop,2)|.unary op=>let r:=dF (op++[120]) f.last;if r.2=0 then (f.pop.push r.1,0)else (f.pop,r.2)|.binary op=>let r:=dH op f.pop.last f.last;if r.2=0 then (f.pop.pop.push r.1,0)else (f.pop.pop,r.2)|.index=>let r:=bY f.pop.last f.last;if r.2=0 then (f.pop.pop.push r.1,0)else (f.pop.pop,r.2)|.list n=>let r:=jO (bH (f.many n),0);if r.2=0 then ((f.p_ n).push r.1,0)else (f.p_ n,r.2)|.length=>let r:=dO f.last;if r.2=0 then (f.pop.push r.1,0)else (f.pop,r.2)|.drop=>(f.pop,0)|_=>(f,0)
noncomputable def cD(tg:List eI)(i:aM)(below:List aG)(f:aG)(tape:List Int)(out:cU):cY × Nat:=
 match i with
 |.read=>
  match tape with
  |[]=>(⟨below++[f],tape,out⟩,7)
  |t::r=>(⟨below++[f.push (bB t)],r,out⟩,0)
 |.call k n=>
  if aA below+1=16 then (⟨below++[f.p_ n],tape,out⟩,5)
  else (⟨below++[f.p_ n,⟨tg[k]?.getD ⟨[],[]⟩,0,0,[],f.many n,[]⟩],tape,out⟩,0)
 |.tj=>(⟨below.dropLast++(below.getLast?.map λg=>g.push f.last).toList,tape,out⟩,0)
 |.print=>if aA out=50 then (⟨below++[f.pop],tape,out⟩,8)else (⟨below++[f.pop],tape,out++[jX f.last]⟩,0)
 |i=>let r:=aO i f;(⟨below++[r.1],tape,out⟩,r.2)
def aG.su(f:aG):Option (aM×aG):=f.fn.code[f.next]?.map λi=>(i,{f with next:=f.next+1})
noncomputable def fB(tg:List eI):Nat->cY->Option (cY×Nat)
 |0,_=>Wk|k+1,m=>match m.f_.getLast? with
 |none=>Wj (m,1)|some f=>match f.su with
 |none=>Wk|some (i,g)=>let r:=cD tg i m.f_.dropLast g m.tape m.out
 if r.2≠0 then Wj r else if i.sd then Wj r else fB tg k r.1
structure bL where
 m_:Nat
 m:cY
 stop:Nat
def cC(m_ stop:Nat):Nat:=if stop=0/\m_=500 then 9 else stop
def dY:cU->bS->Nat|[],_=>0|x::l,name=>if x=name then aA l else dY l name
def dU(fs:List aC)(name:bS):Nat:=fs.findIdx λf=>f.x_==name
def bC(c:aC->Nat->List aM):List aC->Nat->List aM|[],_=>[]|a::l,p=>c a p++bC c l (p+aA (c a p))
def aF(fs:List aC)(e_:cU):Nat->aC->Nat->List aM|0,_,_=>[]|d+1,a,p=>let y_:=bC (aF fs e_ d) a.y_ p
 if a.op==[48]then [.push (bB (((dQ 0 a.x_).getD 0:Nat):Int))] else if a.op==[115]then [.push (bT a.x_)] else if a.op==[98,111,111,108]then [.push (cF (a.x_==[116,114,117,101]))] else if a.op==[110,97,109,101]then [.load (dY e_ a.x_)] else if a.op==[108,105,115,116]then y_++[.list (aA a.y_)] else if a.op==[105,110,100,101,120]then y_++[.index] else if a.op==[45,120]then y_++[.unary [45]] else if a.op==[33,120]then y_++[.unary [33]] else if a.op==[99,97,108,108]then y_++[if a.x_==[108,101,110]then .length else if a.x_==[114,101,97,100]then .read else .call (dU fs a.x_) (aA a.y_)] else if a.op==[38,38]||a.op==[124,124]then match a.y_ with
 |[l,r]=>let cl:=aF fs e_ d l p
 let cr:=aF fs e_ d r (p+aA cl+1)
 cl++[.sr (a.op==[124,124]) (p+aA cl+1+aA cr+1)]++cr++[.tr]|_=>[] else y_++[.binary a.op]
def bJ(c:cU->aC->Nat->List aM×cU):cU->List aC->Nat->List aM|_,[],_=>[]|e_,a::l,p=>(c e_ a p).1++bJ c (c e_ a p).2 l (p+(c e_ a p).1.length)
def aT(fs:List aC):Nat->cU->aC->Nat->List aM×cU
 |0,e_,_,_=>([],e_)|d+1,e_,a,p=>let start:=aM.begin a.l_ e_
 let n_:=λ(b:aC) q=>bJ (aT fs d) e_ b.y_ q
 if a.op==[118,97,114]then match a.y_ with|[t,v]=>(start::aF fs e_ d v (p+1)++[.declare (aA e_)],t.x_::e_)|_=>([],e_) else if a.op==[115,101,116]then (start::bC (aF fs e_ d) a.y_ (p+1)++[.assign (dY e_ a.x_) (aA a.y_-1)],e_) else if a.op==[105,102]then match a.y_ with
 |c::t::e=>let cc:=aF fs e_ d c (p+1)
 let ct:=n_ t (p+1+aA cc+1)
 let q:=p+1+aA cc+1+aA ct+1
 let ce:=match e with|[x]=>n_ x q|_=>[]
 (start::cc++[.skip q]++ct++[.jump (q+aA ce)]++ce,e_)|_=>([],e_) else if a.op==[119,104,105,108,101]then match a.y_ with
 |[c,b]=>let cc:=aF fs e_ d c (p+1)
 let cb:=n_ b (p+1+aA cc+1)
 (start::cc++[.skip (p+1+aA cc+1+aA cb+1)]++cb++[.jump p],e_)|_=>([],e_) else if a.op==[114,101,116,117,114,110]then match a.y_ with|[v]=>(start::aF fs e_ d v (p+1)++[.tj],e_)|_=>([start,.push (bB 0),.tj],e_) else if a.op==[112,114,105,110,116]then match a.y_ with|[v]=>(start::aF fs e_ d v (p+1)++[.print],e_)|_=>([],e_) else match a.y_ with|[c]=>(start::aF fs e_ d c (p+1)++[.drop],e_)|_=>([],e_)
def fP(fs:List aC)(d:Nat)(f:aC):eI:=let e_:=(f.y_.dropLast.map (·.x_)).reverse
 ⟨f.x_,bJ (aT fs d) e_ ((f.y_.getLast?.map (·.y_)).getD []) 0++[.push (bB 0),.tj]⟩
def dW(fs:List aC)(d:Nat):List eI:=fs.map (fP fs d)
def kG(fs:List aC)(d:Nat)(tape:List Int):cY:=⟨[⟨(dW fs d)[dU fs [109,97,105,110]]?.getD ⟨[],[]⟩,0,0,[],[],[]⟩],tape,[]⟩
structure gN where
 h:Nat
 v:Nat
 e:Option Nat
 b:Bool
def fI(D:bI)(T:Nat->gN)(q h v:Nat)(e:Option Nat):Prop:=D q/\(T q).h=h/\(T q).v<=v/\((T q).e=Wk\/(T q).e=e)
def iS(ar:Nat->Option Nat)(D:bI)(T:Nat->gN)(p:Nat)(i:aM):Prop:=(T p).b=i.sd/\(T p).h<=p/\match i with|.begin _ s=>aA s<=(T p).v/\fI D T (p+1) (T p).h (T p).v (Wj (aA s))|.push _=>fI D T (p+1) ((T p).h+1) (T p).v (T p).e|.load k=>k<(T p).v/\fI D T (p+1) ((T p).h+1) (T p).v (T p).e|.declare k=>1<=(T p).h/\k<=(T p).v/\k<=90000/\(T p).e=Wj k/\fI D T (p+1) ((T p).h-1) (k+1) (T p).e|.assign k n=>n+1<=(T p).h/\k<(T p).v/\fI D T (p+1) ((T p).h-(n+1)) (T p).v (T p).e|.jump q=>(p<q\/(T q).b=Wm)/\fI D T q (T p).h (T p).v (T p).e|.skip q=>1<=(T p).h/\p<q/\fI D T q ((T p).h-1) (T p).v (T p).e/\fI D T (p+1) ((T p).h-1) (T p).v (T p).e|.sr _ q=>1<=(T p).h/\p<q/\fI D T q (T p).h (T p).v (T p).e/\fI D T (p+1) ((T p).h-1) (T p).v (T p).e|.tr=>1<=(T p).h/\fI D T (p+1) (T p).h (T p).v (T p).e|.unary _=>1<=(T p).h/\fI D T (p+1) (T p).h (T p).v (T p).e|.length=>1<=(T p).h/\fI D T (p+1) (T p).h (T p).v (T p).e|.binary _=>2<=(T p).h/\fI D T (p+1) ((T p).h-1) (T p).v (T p).e|.index=>2<=(T p).h/\fI D T (p+1) ((T p).h-1) (T p).v (T p).e|.list n=>n<=(T p).h/\fI D T (p+1) ((T p).h-n+1) (T p).v (T p).e|.read=>fI D T (p+1) ((T p).h+1) (T p).v (T p).e|.call k n=>n<=(T p).h/\ar k=Wj n/\fI D T (p+1) ((T p).h-n+1) (T p).v (T p).e|.tj=>1<=(T p).h|.drop=>1<=(T p).h/\fI D T (p+1) ((T p).h-1) (T p).v (T p).e|.print=>1<=(T p).h/\fI D T (p+1) ((T p).h-1) (T p).v (T p).e
def qF(L:Nat->gN->Prop)(lo hi:Nat)(q:Nat):Prop:=(lo<=q/\q<=hi)\/∃y,L q y
def cL(ar:Nat->Option Nat)(L:Nat->gN->Prop)(p:Nat)(c:List aM)(h v:Nat)(e:Option Nat)(h' v':Nat)(e':Option Nat):Prop:=∃T:Nat->gN,(∀q y,L q y->T q=y)/\(T p).h=h/\(T p).v<=v/\((T p).e=Wk\/(T p).e=e)/\(T (p+aA c)).h=h'/\(T (p+aA c)).v=v'/\(T (p+aA c)).e=e'/\∀j i,c[j]?=Wj i->iS ar (qF L p (p+aA c)) T (p+j) i
def fI.same{D a:bI}{T T':Nat->gN}(f:fI D T N X V Q)(b:D N->a N/\(T' N).h=(T N).h/\(T' N).v<=(T N).v/\((T' N).e=Wk\/(T' N).e=(T N).e)):fI a T' N X V Q:=by grind[fI]
def iS.same{D b:bI}{T T':Nat->gN}{i:aM}(f:iS R D T N i)(d:T' N=T N) (c:∀q,D q->b q/\(T' q).h=(T q).h/\(T' q).v<=(T q).v/\((T' q).e=Wk\/(T' q).e=(T q).e)) (e:∀q,D q->q<=N->(T q).b=Wm->(T' q).b=Wm):iS R b T' N i:=by have ⟨f1,f2,f3⟩:=f;grind[iS,fI]
def cL.append{L:Nat->gN->Prop}{c f:List aM}{r n u:Nat}{s:Option Nat}(a:cL R L N c X V Q W r P)(b:cL R L (N+aA c) f W r P n u s) (I:∀q y,L q y->q<=N\/N+aA c+aA f<=q) (M:c≠[]):cL R L N (c++f) X V Q n u s:=by obtain⟨T,J,D,E,F,K,H,G,C⟩:=a;have ⟨U,u1,u2,u3,u4,u5,u6,u7,u8⟩:=b;have A:0<aA c:=(by grind);have t:aA (c++f)=aA c+aA f:=et;refine⟨λq=>if q<N+aA c then T q else U q,λq y k=>?_,?_,?_,?_,?_,?_,?_,λj i g=>?_⟩;grind;grind;grind;grind;grind;grind;grind;rcases gu j (aA c) with d|d;rw[jv d]at g;refine(C j i g).same G_ (λq k=>?_) (λq k m B=>?_);grind[qF];grind;rw[jd d]at g;have w:=u8 (j-aA c) i g;rw[show N+aA c+(j-aA c)=N+j by omega]at w;have z:=(ie.1 g).1;refine w.same G_ (λq k=>?_) (λq k m B=>?_);grind[qF];grind[qF]
def cL.nil(a:Nat->Option Nat)(p h v:Nat)(e:Option Nat)(L:Nat->gN->Prop)(f:∀q y,L q y->q=p->y.h=h/\y.v=v/\y.e=e)(d:∀q y z,L q y->L q z->y=z):cL a L p [] h v e h v e:=by classical refine⟨λq=>if hq:∃y,L q y then hq.choose else ⟨h,v,e,Wl⟩,λq y b=>?_,?_⟩;have c:∃y,L q y:=⟨y,b⟩;grind;simp;split;grind;simp
structure oX(ar:Nat->Option Nat)(c:List aM)(T:Nat->gN):Prop where
 ins:∀j i,c[j]?=Wj i->iS ar (λq=>q<aA c) T j i
 len:aA c<=80000
def jE(c:List aM):Prop:=(∃l s r,c=.begin l s::r)\/∃v,c=[.push v,.tj]
structure eQ(ar:Nat->Option Nat)(f:aG)(more:Nat):Prop where
 code:∃T,oX ar f.fn.code T/\(T f.next).h=aA f.ops+more/\(T f.next).v<=aA f.g_/\((T f.next).e=Wk\/(T f.next).e=Wj (aA f.e_))
 next:f.next<aA f.fn.code
 e_:aA f.e_<=aA f.g_
 g_:aA f.g_<=90001
structure mY(ar:Nat->Option Nat)(tg:List eI):Prop where
 fn:∀k n,ar k=Wj n->∃f T,tg[k]?=Wj f/\oX ar f.code T/\(T 0).h=0/\(T 0).v<=n/\(T 0).e=Wk/\
  jE f.code
structure sM(ar:Nat->Option Nat)(m:cY):Prop where
 low:∀f∈m.f_.dropLast,eQ ar f 1
 top:∀f,m.f_.getLast?=Wj f->eQ ar f 0
 deep:aA m.f_<=16
theorem nE(l:List j)(a:j):(l++[a]).getLast?=Wj a:=s_
def pJ(l:List j)(a:j):(l++[a]).dropLast=l:=s_
theorem sM.snoc{a:List aG}{f:aG}(d:∀g∈a,eQ R g 1)(c:eQ R f 0)(e:aA a+1<=16):sM R ⟨a++[f],t,S⟩:=⟨G_,G_,G_⟩
def eQ.we{T:Nat->gN}{f g:aG}(m:oX R f.fn.code T)(b:fI (λq=>q<aA f.fn.code) T g.next N X Q)(k:g.fn=f.fn)(i:N=aA g.ops)(l:X<=aA g.g_)(j:Q=Wk\/Q=Wj (aA g.e_)) (d:aA g.e_<=aA g.g_) (c:aA g.g_<=90001):eQ R g 0:=by have ⟨f1,f2,f3,f4⟩:=b;refine⟨⟨T,G_,Z,Z,?_⟩,G_,d,c⟩;grind
theorem aG.yg(f:aG):aA f.pop.ops=aA f.ops-1:=by simp[aG.pop]
theorem aG.Ap(f:aG)(v:aD):(f.push v).ops.length=aA f.ops+1:=by simp[aG.push]
theorem aG.yy(f:aG)(n:Nat):(f.p_ n).ops.length=aA f.ops-n:=by simp[aG.p_]
def rW(Y_:a:=by simp only[aO]at hr' hi;split at hr';subst hr';exact⟨hs,λ_=>eQ.we (f:=f) hc hi.2 i_ (by grind[aG.push,aG.pop]) hv he hs hm⟩;grind[aG.pop]):a:=Y_
theorem NL{T:Nat->gN}{f:aG}{i:aM}(hc:oX R f.fn.code T)(hi:iS R (λq=>q<aA f.fn.code) T f.next i) (b:(T f.next).h=aA f.ops) (hv:(T f.next).v<=aA f.g_) (he:(T f.next).e=Wk\/(T f.next).e=Wj (aA f.e_)) (hs:aA f.e_<=aA f.g_) (hm:aA f.g_<=90001) (o:i≠.tj) (m:i≠.read) (h:i≠.print) (g:∀k n,i≠.call k n) (r:aG×Nat) (hr':r=aO i {f with next:=f.next+1}):(aA r.1.e_)<=aA r.1.g_/\(r.2=0->eQ R r.1 0):=by have ⟨_,_,hi⟩:=hi;have d:=hs;cases i with|tj=>grind|read=>grind|print=>grind|call k n=>grind|begin l s=>simp[aO]at hr' hi;subst hr';exact⟨G_,λ_=>eQ.we (f:=f) hc hi.2 rfl b hv (dv rfl) G_ hm⟩|push v=>simp[aO]at hr' hi;subst hr';exact⟨hs,λ_=>eQ.we (f:=f) hc hi i_ qv hv he hs hm⟩|load k=>simp[aO]at hr' hi;subst hr';exact⟨hs,λ_=>eQ.we (f:=f) hc hi.2 i_ qv hv he hs hm⟩|declare k=>simp[aO]at hr' hi;subst hr';have ⟨i1,i2,i3,i4,i5⟩:=hi;have c:aA f.e_=k:=G_;have j:aA (f.g_.take k++[aG.last {f with next:=f.next+1}])=k+1:=G_;exact⟨pz,λ_=>eQ.we (f:=f) hc i5 rfl (by grind[aG.yg]) G_ he pz G_⟩|assign k n=>simp[aO]at hr' hi;split at hr';subst hr';refine⟨by grind[aG.p_,aG.pop],λ_=>eQ.we (f:=f) hc hi.2.2 rfl ?_ G_ he (by grind[aG.p_,aG.pop]) G_⟩;grind[aG.yy,aG.pop];grind[aG.p_,aG.pop]|jump q=>simp[aO]at hr' hi;subst hr';exact⟨hs,λ_=>eQ.we (f:=f) hc hi.2 i_ b hv he hs hm⟩|skip q=>simp[aO]at hr' hi;split at hr';subst hr';refine⟨?_,λ_=>?_⟩;split<;>exact hs;split;exact eQ.we (f:=f) hc hi.2.2.2 i_ pz hv he hs hm;exact eQ.we (f:=f) hc hi.2.2.1 i_ (by grind[aG.yg]) hv he hs hm;grind[aG.pop]|sr w q=>simp[aO]at hr' hi;split at hr';subst hr';refine⟨?_,λ_=>?_⟩;split<;>exact hs;split;exact eQ.we (f:=f) hc hi.2.2.1 i_ (by grind[aG.Ap,aG.yg]) hv he hs hm;exact eQ.we (f:=f) hc hi.2.2.2 i_ pz hv he hs hm;grind[aG.pop]|tr=>exact rW|unary e=>exact rW|length=>exact rW|binary e=>exact rW|index=>exact rW|list n=>simp[aO]at hr' hi;split at hr';subst hr';exact⟨hs,λ_=>eQ.we (f:=f) hc hi.2 i_ (by grind[aG.push,aG.p_]) hv he hs hm⟩;grind[aG.p_]|drop=>simp[aO]at hr' hi;subst hr';exact⟨hs,λ_=>eQ.we (f:=f) hc hi.2 i_ pz hv he hs hm⟩
structure iT(ar:Nat->Option Nat)(m:cY):Prop where
 ok:sM ar m
 start:∀f∈m.f_,jE f.fn.code
theorem eQ.xm{f:aG}(h:eQ R f 1)(v:aD):eQ R (f.push v) 0:=by have ⟨⟨T,h1,h2,h3,h4⟩,h5,h6,h7⟩:=h;exact⟨qv,h5,h6,h7⟩
theorem oT{tg:List eI}{i:aM}{below:List aG}{f:aG}{o:cU}(c:i≠.tj)(b:i≠.read)(a:i≠.print)(d:∀k n,i≠.call k n):cD tg i below f t o=(⟨below++[(aO i f).1],t,o⟩,(aO i f).2):=by cases i<;>first|rfl|exact ep i_ c|exact ep i_ b|exact ep i_ a|grind
theorem jT(i:aM)(f:aG):(aO i f).1.fn=f.fn:=by cases i<;>simp [aO]<;>(repeat' split)<;>rfl
def EJ{j:List eI}(F:mY R j){d:List aG}{f:aG}(h:iT R ⟨d++[f],t,S⟩){i:aM}{g:aG}(Q:f.su=Wj (i,g)):(∀x∈(cD j i d g t S).1.f_,aA x.e_<=aA x.g_)/\(cD j i d g t S).1.f_.length<=16/\((cD j i d g t S).2=0->iT R (cD j i d g t S).1):=by
 have u:∀x∈d,eQ R x 1:=by have:=h.ok.low;grind
 have w:=h.ok.top f (s_);have q:aA d+1<=16:=by have:=h.ok.deep;grind
 have C:∀x∈d,jE x.fn.code:=(by grind[iT.start]);have D:=h.start f s_;have ⟨⟨T,hc,hh,hv,he⟩,hnx,hs,hm⟩:=w;obtain⟨rfl,J⟩:g={f with next:=f.next+1}/\f.fn.code[f.next]?=Wj i:=by grind[aG.su]
 have s:=hc.ins _ _ J;have N:∀x∈d,aA x.e_<=aA x.g_:=(by grind[eQ.e_]);by_cases K:i=.tj
 .subst K;rcases gz d with rfl|⟨b,x,rfl⟩;refine⟨rn,rn,λ_=>⟨⟨rn,rn,rn⟩,rn⟩⟩;rw[jw]at*;have e:cD j .tj (b++[x]) {f with next:=f.next+1} t S=(⟨b++[x.push (aG.last {f with next:=f.next+1})],t,S⟩,0):=by simp[cD]
  rw[e];refine⟨λy z=>?_,G_,λ_=>⟨(by grind[sM.snoc,eQ.xm]),λy z=>?_⟩⟩;grind[aG.push];grind[aG.push]
 have m:∀y:aG,aA y.e_<=aA y.g_->∀x∈d++[y],aA x.e_<=aA x.g_:=(by grind);have p:∀y:aG,eQ R y 0->y.fn=f.fn->∀t S,iT R ⟨d++[y],t,S⟩:=λy z M t S=>⟨sM.snoc u z q,G_⟩;by_cases I:i=.read;.subst I;cases t with|nil=>grind[cD]|cons a r=>exact⟨m _ hs,by simp[cD];exact Z,λ_=>p (aG.push {f with next:=f.next+1} (bB a)) (eQ.we (f:=f) hc s.2.2 rfl qv hv he hs hm) rfl _ _⟩
 by_cases H:i=.print;.subst H;simp[cD];split;grind[aG.pop];exact⟨m _ hs,G_,λ_=>p (aG.pop {f with next:=f.next+1}) (eQ.we (f:=f) hc s.2.2.2 rfl pz hv he hs hm) rfl _ _⟩
 by_cases G:∃k n,i=.call k n
 .obtain⟨k,n,rfl⟩:=G;simp[cD];split;grind[aG.p_];rename_i P;have ⟨_,_,hio1,hio2,hio3⟩:=s;have ⟨c,U,c1,c2,c3,c4,c5,c6⟩:=F.fn k n hio2;have B:aA (aG.many {f with next:=f.next+1} n)=n:=by simp[aG.many];exact Z
  rw[c1];have v:eQ R ⟨c,0,0,[],aG.many {f with next:=f.next+1} n,[]⟩ 0:=by refine⟨G_,?_,s_,by grind[oX.len]⟩;grind[jE]
  have A:eQ R (aG.p_ {f with next:=f.next+1} n) 1:=by have ⟨f1,f2,f3,f4⟩:=hio3;refine⟨⟨T,hc,?_,em f3 hv,?_⟩,f1,hs,hm⟩;grind[aG.p_];grind[aG.p_]
  have L:d++[aG.p_ {f with next:=f.next+1} n,(⟨c,0,0,[],aG.many {f with next:=f.next+1} n,[]⟩:aG)]=(d++[aG.p_ {f with next:=f.next+1} n])++[(⟨c,0,0,[],aG.many {f with next:=f.next+1} n,[]⟩:aG)]:=s_;simp only[jf];rw[L];refine⟨λx E=>?_,G_,λ_=>⟨sM.snoc (λx E=>?_) v G_,λx E=>?_⟩⟩;grind[aG.p_];grind;grind[aG.p_]
 grind[oT,NL,jT]
def mU(f:aG):Nat:=if f.next=0 then 2 else if aA f.fn.code=2 then 1 else 4*(aA f.fn.code-f.next)
def pA(l:List aG):Nat:=(l.map mU).sum
def GR{T:Nat->gN}{f:aG}{i:aM}(a:iS R (λq=>q<aA f.fn.code) T f.next i) (g:i.sd=Wl) (h:i≠.tj) (e:i≠.read) (c:i≠.print) (d:∀k n,i≠.call k n):(aO i {f with next:=f.next+1}).2=0->(f.next<(aO i {f with next:=f.next+1}).1.next/\(aO i {f with next:=f.next+1}).1.next<aA f.fn.code)\/(T (aO i {f with next:=f.next+1}).1.next).b=Wm/\(aO i {f with next:=f.next+1}).1.next<aA f.fn.code:=by have ⟨_,_,a⟩:=a;grind[aO,fI,aG.pop,aG.p_,aG.push]
theorem uG(l:List aG)(f:aG):pA (l++[f])=pA l+mU f:=by simp[pA]
def IR{f:aG}(h:f.next<aA f.fn.code):1<=mU f:=by grind[mU]
theorem VD(f:aG)(v:aD):mU (f.push v)=mU f:=rfl
def OP{f g:aG}{i:aM}(e:jE f.fn.code)(h:f.fn.code[f.next]?=Wj i)(d:i.sd=Wl)(b:g.fn=f.fn)(a:f.next<g.next)(c:g.next<aA f.fn.code):mU g<mU f:=by grind[mU,aM.sd,jE]
def VE{f g:aG}(d:jE f.fn.code)(e:f.fn.code[f.next]?=Wj (.call N X))(b:g.fn=f.fn)(a:f.next<g.next)(c:g.next<aA f.fn.code):mU g+2<mU f:=by grind[mU,jE]
structure DO(ar:Nat->Option Nat)(r:cY × Nat):Prop where
 told:∀x∈r.1.f_,aA x.e_<=aA x.g_
 deep:aA r.1.f_<=16
 ok:r.2=0->iT ar r.1/\r.1.f_≠[]
def pH{l:List aG}(h:l≠[]):∃b f,l=b++[f]:=by rcases gz l with a|⟨b,f,a⟩;grind;grind
def FW{f:aG}(h:f.next<aA f.fn.code):f.su=Wj (f.fn.code[f.next],{f with next:=f.next+1}):=by grind[aG.su]
def BG{a:List eI}(e:mY R a){b:List aG}{f:aG}(h:iT R ⟨b++[f],t,S⟩){s:cU}(g:f.fn.code[f.next]?=Wj (.begin X s)):∃r,fB a (N+1) ⟨b++[f],t,S⟩=Wj r/\DO R r:=by
 have d:f.su=Wj (.begin X s,{f with next:=f.next+1}):=by grind[aG.su]
 have ⟨h1,h2,h3⟩:=EJ e h d;refine⟨cD a (.begin X s) b {f with next:=f.next+1} t S,?_,h1,h2,(by grind[cD])⟩;grind[fB,aM.sd]
def pR{l:List eI}(s:mY R l):∀(k:Nat) (m:cY),iT R m->pA m.f_+2<=k->∃r,fB l k m=Wj r/\DO R r
 |0,_,_,H=>by omega|k+1,⟨V,t,o⟩,h,H=>by
  by_cases A:V=[];subst A;exact⟨(⟨[],t,o⟩,1),i_,s_,s_,Z⟩;obtain⟨b,f,rfl⟩:=pH A;have d:eQ R f 0:=h.ok.top f (s_);have v:jE f.fn.code:=h.start f s_;have Q:=FW d.next;have z:f.fn.code[f.next]?=Wj (f.fn.code[f.next]'d.next):=ew d.next;generalize f.fn.code[f.next]'d.next=i at Q z;obtain⟨U,S,W⟩:=EJ s h Q;by_cases D:(cD l i b {f with next:=f.next+1} t o).2=0;rotate_left;refine⟨_,?_,U,S,Z⟩;grind[fB];cases M:i.sd;rotate_left;cases i<;>simp[aM.sd]at M;exact BG s h z;have e:fB l (k+1) ⟨b++[f],t,o⟩=fB l k (cD l i b {f with next:=f.next+1} t o).1:=by grind[fB]
  rw[e];have u:=W D;simp only at H;rw[uG]at H;have ⟨⟨T,hc,hh,hv,he⟩,hnx,hs,hm⟩:=d;have q:=hc.ins _ _ z;by_cases K:i=.tj;subst K;apply pR s k _ u;have F:=IR hnx;rcases gz b with rfl|⟨b',x,rfl⟩;grind[cD];grind[cD,VD,pA];by_cases J:i=.read;.subst J;cases t with|nil=>simp[cD]at D|cons a r=>apply pR s k _ u;have F:=OP (g:=aG.push {f with next:=f.next+1} (bB a)) v z rfl rfl (Nat.lt_succ_self _) q.2.2.1;grind[uG,cD]
  by_cases I:i=.print;.subst I;apply pR s k _ u;have F:=OP (g:=aG.pop {f with next:=f.next+1}) v z rfl rfl (Nat.lt_succ_self _) q.2.2.2.1;grind[cD,uG]
  by_cases G:∃c n,i=.call c n;.obtain⟨c,n,rfl⟩:=G;apply pR s k _ u;have F:=VE (g:=aG.p_ {f with next:=f.next+1} n) v z rfl (Nat.lt_succ_self _) q.2.2.2.2.1;grind[cD,mU,pA]
  have B:∀k n,i≠.call k n:=(by grind);rw[oT K J I B]at D u⊢;have p:=GR q M K J I B D;have L:(aO i {f with next:=f.next+1}).1.fn=f.fn:=jT _ _;generalize aO i {f with next:=f.next+1}=y at D u p L⊢;rcases p with ⟨N,P⟩|⟨N,P⟩;apply pR s k _ u;grind[pA,jE,aM.sd,mU];have C:y.1.fn.code[y.1.next]?=Wj (f.fn.code[y.1.next]):=G_;have w:=(hc.ins _ _ (ew P)).1;rw[N]at w;have F:=IR hnx;obtain⟨j,rfl⟩:∃j,k=j+1:=⟨k-1,Z⟩;generalize f.fn.code[y.1.next]=X at C w;cases X<;>simp[aM.sd]at w;exact BG s u C
theorem cL.then{L:Nat->gN->Prop}{c c':List aM}{i:Nat}{e l:Option Nat}(a:cL R L N c X V e W i l)(b:cL R L (N+aA c) c' W i l E F Q) (n:∀q y,L q y->q<=N\/N+aA c+aA c'<=q):cL R L N (c++c') X V e E F Q:=by by_cases m:c=[];subst m;have ⟨T,t1,t2,t3,t4,t5,t6,t7,t8⟩:=a;have ⟨U,u1,u2,u3,u4,u5,u6,u7,u8⟩:=b;simp at t5 t6 t7 u2 u3 u4 u5 u6 u7 u8;refine⟨U,u1,Z,Z,?_,u5,u6,u7,u8⟩;grind;exact a.append b n m
def cL.one{ar:Nat->Option Nat}{L:Nat->gN->Prop}{p:Nat}{i:aM}{h' v':Nat}{e':Option Nat}(m:∀q y z,L q y->L q z->y=z)(k:∀y,L p y->y=⟨N,X,Q,i.sd⟩)(l:∀y,L (p+1) y->y.h=h'/\y.v=v'/\y.e=e') (n:∀T:Nat->gN,T p=⟨N,X,Q,i.sd⟩->(T (p+1)).h=h'->(T (p+1)).v=v'->(T (p+1)).e=e'->(∀q y,L q y->T q=y)->iS ar (qF L p (p+1)) T p i):cL ar L p [i] N X Q h' v' e':=by
 classical
  let T:=λq=>if hq:∃y,L q y then hq.choose else if q=p then ⟨N,X,Q,i.sd⟩else ⟨h',v',e',Wl⟩;have f:∀q y,L q y->T q=y:=λq y g=>by have a:∃y,L q y:=⟨y,g⟩;grind
  have d:T p=⟨N,X,Q,i.sd⟩:=by by_cases a:∃y,L p y;grind;grind
  have c:(T (p+1)).h=h'/\(T (p+1)).v=v'/\(T (p+1)).e=e':=by by_cases a:∃y,L (p+1) y;grind;grind
  refine⟨T,f,by rw[d],G_,G_,c.1,c.2.1,c.2.2,λj x b=>?_⟩;match j,b with|0,b=>grind|j+1,b=>simp at b
structure eT(L:Nat->gN->Prop)(lo hi:Nat):Prop where
 uniq:∀q y z,L q y->L q z->y=z
 out:∀q y,L q y->q<lo\/hi<q
theorem eT.sub{L:Nat->gN->Prop}(h:eT L N X)(g:N<=V)(f:W<=X):eT L V W:=⟨h.uniq,λq y e=>by have:=h.out q y e;exact Z⟩
def gW(L:Nat->gN->Prop)(q:Nat)(y:gN):Nat->gN->Prop:=λr z=>L r z\/(r=q/\z=y)
theorem gW.ok{L:Nat->gN->Prop}{lo lo' hi':Nat}{y:gN}(h:eT L lo N)(g:lo<=X)(e:X<=N)(j:lo<=lo')(f:hi'<=N)(i:X<lo'\/hi'<X):eT (gW L X y) lo' hi':=by refine⟨λr x z a b=>?_,λr x a=>?_⟩;rcases a with a|⟨rfl,rfl⟩<;>rcases b with b|⟨d,rfl⟩;exact h.uniq _ _ _ a b;have:=h.out _ _ a;exact Z;have:=h.out _ _ b;exact Z;rfl;rcases a with a|⟨rfl,rfl⟩;have:=h.out _ _ a;exact Z;exact Z
def cL.close{ar:Nat->Option Nat}{L:Nat->gN->Prop}{p:Nat}{c:List aM}{q:Nat}{y:gN}(s:cL ar (gW L q y) p c N X Q V W P)(l:p<=q)(k:q<=p+aA c):cL ar L p c N X Q V W P:=by have ⟨T,t1,t2,t3,t4,t5,t6,t7,t8⟩:=s;refine⟨T,λq y f=>t1 q y (ea f),t2,t3,t4,t5,t6,t7,λj i g=>(t8 j i g).same i_ (λr m=>⟨?_,i_,Z,dv rfl⟩) (s_)⟩;grind[qF,gW]
def oS{L:Nat->gN->Prop}:qF L N (N+1) (N+1):=(by grind[qF])
theorem cL.plain{L:Nat->gN->Prop}{i:aM}(a:eT L N (N+1))(g:i.sd=Wl)(f:X<=N) (j:∀(D:bI) (T:Nat->gN),(T N).h=X->(T N).v=V->fI D T (N+1) W (T N).v (T N).e->(T N).b=Wl->(T N).h<=N->iS R D T N i):cL R L N [i] X V Q W V Q:=cL.one a.uniq (λy b=>ep (a.out _ _ b) Z) (λy b=>ep (a.out _ _ b) Z) (by grind[qF,fI])
def gC(fs:List aC)(k:Nat):Option Nat:=fs[k]?.map λf=>aA f.y_-1
def rE(fs:List aC)(a_:Bool)(e_:cU):Nat->aC->Prop|0,_=>False|d+1,a=>((a.op=[48]\/a.op=[115]\/a.op=[98,111,111,108])/\a.y_=[])\/(a.op=[110,97,109,101]/\a.y_=[]/\a.x_∈e_)\/(a.op=[108,105,115,116]/\∀k∈a.y_,rE fs a_ e_ d k)\/(a.op=[105,110,100,101,120]/\∃l r,a.y_=[l,r]/\rE fs a_ e_ d l/\rE fs a_ e_ d r)\/((a.op=[45,120]\/a.op=[33,120])/\∃l,a.y_=[l]/\rE fs a_ e_ d l)\/(a.op=[99,97,108,108]/\(∀k∈a.y_,rE fs a_ e_ d k)/\((a.x_=[108,101,110]/\aA a.y_=1)\/(a.x_=[114,101,97,100]/\a_=Wl/\aA a.y_=0)\/(a.x_≠[108,101,110]/\a.x_≠[114,101,97,100]/\a_=Wl/\gC fs (dU fs a.x_)=Wj (aA a.y_))))\/(cR a.op≠9/\∃l r,a.y_=[l,r]/\rE fs a_ e_ d l/\rE fs a_ e_ d r)
theorem qQ:∀{a:cU}{x:bS},x∈a->dY a x<aA a|y::l,x,h=>by unfold dY;split;simp;rcases fe.1 h with rfl|h;grind;have:=qQ h;grind
def pF(h:cR g≠9):g=[124,124]\/g=[38,38]\/g=[61,61]\/g=[33,61]\/g=[60]\/g=[60,61]\/g=[43]\/g=[45]\/g=[42]\/g=[47]\/g=[37]:=by grind[cR]
def C8(fs:List aC)(a_:Bool)(e_:cU)(d:Nat):Prop:=∀(a:aC) (L:Nat->gN->Prop) (p h v:Nat) (e:Option Nat),rE fs a_ e_ d a->aA e_<=v->h<=p->eT L p (p+aA (aF fs e_ d a p))->cL (gC fs) L p (aF fs e_ d a p) h v e (h+1) v e/\1<=aA (aF fs e_ d a p)
def wR{f:List aC}{c:Bool}(j:C8 f c S N):∀(l:List aC) (L:Nat->gN->Prop) (p h v:Nat) (e:Option Nat),(∀a∈l,rE f c S N a)->aA S<=v->h<=p->eT L p (p+aA (bC (aF f S N) l p))->cL (gC f) L p (bC (aF f S N) l p) h v e (h+aA l) v e/\aA l<=aA (bC (aF f S N) l p)|[],L,p,h,v,e,_,_,_,g=>⟨cL.nil _ _ _ _ _ _ (λq y i u=>ep (g.out q y i) Z) g.uniq,s_⟩|a::l,L,p,h,v,e,w,k,r,g=>by simp only[bC,et]at g⊢;obtain⟨o,n⟩:=j a L p h v e (G_) k r (lr);obtain⟨m,s⟩:=wR j l L (p+aA (aF f S N a p)) (h+1) v e (G_) k Z (lr);refine⟨?_,G_⟩;have t:h+aA (a::l)=h+1+aA l:=G_;rw[t];exact o.then m λq y i=>by have:=g.out q y i;exact Z
theorem cL.snoc{L:Nat->gN->Prop}{p:Nat}{c:List aM}{i:aM}(a:cL R L p c N X Q V X Q)(m:eT L p (p+aA (c++[i])))(b:eT L (p+aA c) (p+aA c+1)->cL R L (p+aA c) [i] V X Q W E P):cL R L p (c++[i]) N X Q W E P:=by refine a.then (lr) λq y l=>?_;have:=m.out q y l;grind
def wA(Y_:a:=by rw[hc]at hL⊢;exact⟨cL.plain hL i_ hp λD T t1 t2 f b hp=>⟨b,hp,G_⟩,s_⟩):a:=Y_
def rQ(g:List aC)(j:Bool)(c:cU):∀d,C8 g j c d
 |0,_,_,_,_,_,_,h,_,_,_=>h.elim|d+1,a,L,p,h,v,e,ha,H,hp,hL=>by
  have C:=rQ g j c d;have X:∀l r:aC,a.y_=[l,r]->rE g j c d l->rE g j c d r->∀k∈a.y_,rE g j c d k:=(by grind);have w:∀i:aM,i.sd=Wl->aF g c (d+1) a p=bC (aF g c d) a.y_ p++[i]->(∀k∈a.y_,rE g j c d k)->(∀(t:Nat) (D:bI) (T:Nat->gN),(T t).h=h+aA a.y_->(T t).v=v->fI D T (t+1) (h+1) (T t).v (T t).e->(T t).b=Wl->(T t).h<=t->iS (gC g) D T t i)->cL (gC g) L p (aF g c (d+1) a p) h v e (h+1) v e/\1<=aA (aF g c (d+1) a p):=λi hb hc u hi=>by rw[hc]at hL⊢;obtain⟨h1,h2⟩:=wR C a.y_ L p h v e u H hp (lr);grind[cL.snoc,cL.plain]
  rcases ha with ⟨o|o|o,u⟩|⟨o,u,W⟩|⟨o,u⟩|⟨o,l,r,u,B,K⟩|⟨o|o,l,u,B⟩|⟨o,u,hc⟩|⟨o,l,r,u,B,K⟩;have hc:aF g c (d+1) a p=[.push (bB (((dQ 0 a.x_).getD 0:Nat):Int))]:=by rw[aF];simp[o]
  exact wA;have hc:aF g c (d+1) a p=[.push (bT a.x_)]:=by rw[aF];simp[o]
  exact wA;have hc:aF g c (d+1) a p=[.push (cF (a.x_==[116,114,117,101]))]:=by rw[aF];simp[o]
  exact wA;have hc:aF g c (d+1) a p=[.load (dY c a.x_)]:=by rw[aF];simp[o]
  rw[hc]at hL⊢;exact⟨cL.plain hL i_ hp λD T t1 t2 f b hp=>⟨b,hp,by rw[t2];have:=qQ W;exact Z,G_⟩,s_⟩;grind[aF,aM.sd,iS];grind[aF,aM.sd,iS];grind[aF,aM.sd,iS];grind[aF,aM.sd,fI,iS];rcases hc with ⟨P,E⟩|⟨P,_,E⟩|⟨S,V,_,E⟩;refine w .length i_ (by rw[aF];grind) u λt D T t1 t2 f b hp=>⟨b,hp,Z,?_⟩;grind;refine w .read i_ (by rw[aF];grind) u λt D T t1 t2 f b hp=>⟨b,hp,?_⟩;grind;refine w (.call (dU g a.x_) (aA a.y_)) i_ (by grind[aF]) u λt D T t1 t2 f b hp=>⟨b,hp,Z,E,?_⟩;grind;by_cases G:a.op=[38,38]\/a.op=[124,124];rotate_left;have U:aF g c (d+1) a p=bC (aF g c d) a.y_ p++[.binary a.op]:=by rw[aF];rcases pF o with h|h|h|h|h|h|h|h|h|h|h<;>simp[h]at G⊢
  grind[aM.sd,iS];have hc:aF g c (d+1) a p=aF g c d l p++[.sr (a.op==[124,124]) (p+aA (aF g c d l p)+1+aA (aF g c d r (p+aA (aF g c d l p)+1))+1)]++aF g c d r (p+aA (aF g c d l p)+1)++[.tr]:=by rw[aF];grind
  generalize I:aF g c d l p=m at hc;generalize F:aF g c d r (p+aA m+1)=n at hc;rw[hc]at hL⊢;have z:aA (m++[aM.sr (a.op==[124,124]) (p+aA m+1+aA n+1)]++n++[aM.tr])=aA m+1+aA n+1:=G_;rw[z]at hL;refine⟨cL.close (q:=p+aA m+1+aA n+1) (y:=⟨h+1,v,e,Wl⟩) ?_ Z Z,Z⟩;have s:eT (gW L (p+aA m+1+aA n+1) ⟨h+1,v,e,Wl⟩) p (p+aA m+1+aA n):=(by grind[gW.ok]);have ⟨s1,l1⟩:=C l (gW L (p+aA m+1+aA n+1) ⟨h+1,v,e,Wl⟩) p h v e B H hp lr;rw[I]at s1 l1;have ⟨s3,l3⟩:=C r (gW L (p+aA m+1+aA n+1) ⟨h+1,v,e,Wl⟩) (p+aA m+1) h v e K H Z lr;rw[F]at s3 l3;have s2:cL (gC g) (gW L (p+aA m+1+aA n+1) ⟨h+1,v,e,Wl⟩) (p+aA m) [.sr (a.op==[124,124]) (p+aA m+1+aA n+1)] (h+1) v e h v e:=by refine cL.one s.uniq (λy x=>ep (s.out _ _ x) Z) (λy x=>ep (s.out _ _ x) Z) λT A t1 t2 N J=>?_;refine⟨by rw[A],G_,G_,Z,?_,oS,G_,G_,G_⟩;have:=J (p+aA m+1+aA n+1) ⟨h+1,v,e,Wl⟩ (dv s_);exact⟨dv ⟨_,dv ⟨i_,i_⟩⟩,G_,G_,G_⟩
  have s4:cL (gC g) (gW L (p+aA m+1+aA n+1) ⟨h+1,v,e,Wl⟩) (p+aA m+1+aA n) [.tr] (h+1) v e (h+1) v e:=by refine cL.one s.uniq (λy x=>ep (s.out _ _ x) Z) (λy x=>?_) λT A t1 t2 N J=>⟨by rw[A],G_,G_,oS,G_,G_,G_⟩;rcases x with x|⟨_,rfl⟩;exact ep (hL.out _ _ x) Z;simp
  have M:∀q y,gW L (p+aA m+1+aA n+1) ⟨h+1,v,e,Wl⟩ q y->q<=p\/p+aA m+1+aA n+1<=q:=λq y Q=>by have:=s.out q y Q;exact Z
  grind[cL.then]
def cL.entry{L:Nat->gN->Prop}{c:List aM}(s:cL R L N c X V Wk E F P)(i:V<=W):cL R L N c X W Q E F P:=by have ⟨T,t1,t2,t3,t4,t5⟩:=s;exact⟨T,t1,t2,Z,G_,t5⟩
def cL.exit{L:Nat->gN->Prop}{c:List aM}(s:cL R L N c X V Q W E P)(D:F<=E)(b:Bool)(B:∀y,¬L (N+aA c) y):cL R (gW L (N+aA c) ⟨W,F,Wk,b⟩) N c X V Q W F Wk:=by obtain⟨T,A,t,u,w,C,z,x,n⟩:=s;refine⟨λq=>if q=N+aA c then ⟨W,F,Wk,b⟩else T q,λq y k=>?_,?_,?_,?_,s_,s_,s_,λj i o=>?_⟩;grind[gW];grind;grind;grind;refine(n j i o).same G_ (λq k=>?_) (G_);have r:qF (gW L (N+aA c) ⟨W,F,Wk,b⟩) N (N+aA c) q:=k.imp id λ⟨y,m⟩=>⟨y,ea m⟩;grind
def cQ(e_:cU)(a:aC):cU:=if a.op=[118,97,114]then (a.y_.head?.map (·.x_)).toList++e_ else e_
def sj(S:cU->aC->Prop):cU->List aC->Prop|_,[]=>True|e_,a::l=>S e_ a/\sj S (cQ e_ a) l
def cO(fs:List aC):Nat->cU->aC->Prop|0,_,_=>False|d+1,e_,a=>(a.op=[118,97,114]/\aA e_<=40000/\∃t v,a.y_=[t,v]/\rE fs Wl e_ d v/\t.x_∉e_)\/(a.op=[115,101,116]/\a.x_∈e_/\a.y_≠[]/\∀k∈a.y_,rE fs Wl e_ d k)\/(a.op=[105,102]/\∃c t,(a.y_=[c,t]\/∃x,a.y_=[c,t,x]/\sj (cO fs d) e_ x.y_)/\rE fs Wl e_ d c/\sj (cO fs d) e_ t.y_)\/(a.op=[119,104,105,108,101]/\∃c b,a.y_=[c,b]/\rE fs Wl e_ d c/\sj (cO fs d) e_ b.y_)\/(a.op=[114,101,116,117,114,110]/\(a.y_=[]\/∃v,a.y_=[v]/\rE fs Wl e_ d v))\/(a.op=[112,114,105,110,116]/\∃v,a.y_=[v]/\rE fs Wl e_ d v)\/(a.op=[100,111]/\∃c,a.y_=[c]/\rE fs Wl e_ d c)
def C5(fs:List aC)(d:Nat):Prop:=∀(e_:cU) (a:aC) (L:Nat->gN->Prop) (p:Nat),cO fs d e_ a->eT L p (p+(aT fs d e_ a p).1.length)->cL (gC fs) L p (aT fs d e_ a p).1 0 (aA e_) Wk 0 (aA (cQ e_ a)) Wk/\(aT fs d e_ a p).2=cQ e_ a/\∃r,(aT fs d e_ a p).1=.begin a.l_ e_::r
def WL(b:cU)(a:aC):aA b<=aA (cQ b a):=by grind[cQ]
def gA:cU->List aC->cU|e_,[]=>e_|e_,a::l=>gA (cQ e_ a) l
def qH:∀(l:List aC) (b:cU),aA b<=aA (gA b l)|[],_=>fk _|a::l,b=>em (WL b a) (qH l _)
theorem qO{c:List aC}(g:C5 c N):∀(l:List aC) (b:cU) (L:Nat->gN->Prop) (p:Nat),sj (cO c N) b l->eT L p (p+aA (bJ (aT c N) b l p))->cL (gC c) L p (bJ (aT c N) b l p) 0 (aA b) Wk 0 (aA (gA b l)) Wk|[],b,L,p,_,e=>cL.nil _ _ _ _ _ _ (λq y f m=>ep (e.out q y f) Z) e.uniq|a::l,b,L,p,h,e=>by simp [bJ]at e⊢;obtain⟨j,i,_⟩:=g b a L p h.1 (lr);rw[i]at e⊢;have k:=qO g l (cQ b a) L (p+(aT c N b a p).1.length) h.2 (lr);exact j.then k λq y f=>by have:=e.out q y f;exact Z
def cL.ry{ar:Nat->Option Nat}{L:Nat->gN->Prop}{p l:Nat}{e_:cU}(a:∀q y z,L q y->L q z->y=z)(b:∀y,L p y->y=⟨0,aA e_,Wk,Wm⟩)(g:∀y,¬L (p+1) y):cL ar L p [.begin l e_] 0 (aA e_) Wk 0 (aA e_) (Wj (aA e_)):=cL.one a b (G_) λT c f d e _=>⟨by rw[c],G_,G_,oS,G_,G_,G_⟩
def Tg(i j:aM)(c:List aM):aA (i::c++[j])=aA c+2:=s_
def cL.stmt{L:Nat->gN->Prop}{n:Nat}{c:List aM}{i:aM}(b:eT L N (N+aA (aM.begin X S::c++[i]))) (o:cL R L (N+1) c 0 (aA S) (Wj (aA S)) n (aA S) (Wj (aA S))) (k:eT L (N+1+aA c) (N+1+aA c+1)->cL R L (N+1+aA c) [i] n (aA S) (Wj (aA S)) 0 V Wk):cL R L N (aM.begin X S::c++[i]) 0 (aA S) Wk 0 V Wk:=by
 rw[Tg]at b;have j:cL R L N [.begin X S] 0 (aA S) Wk 0 (aA S) (Wj (aA S)):=cL.ry b.uniq (λy f=>ep (b.out _ _ f) Z) (λy f=>ep (b.out _ _ f) Z);have h:=j.then (c':=c) o λq y e=>by have:=b.out q y e;grind
 have m:=h.then (c':=[i]) (by rw[show N+aA ([aM.begin X S]++c)=N+1+aA c by grind];exact k (lr)) λq y e=>by have:=b.out q y e;grind
 exact m
def cL.last{L:Nat->gN->Prop}{n:Nat}{i:aM}(a:eT L N (N+1))(g:i.sd=Wl)(f:n<=N) (h:∀(D:bI) (T:Nat->gN),T N=⟨n,X,Q,Wl⟩->D (N+1)->(T (N+1)).h=0->(T (N+1)).v=V->(T (N+1)).e=Wk->(T N).h<=N->iS R D T N i):cL R L N [i] n X Q 0 V Wk:=cL.one a.uniq (λy b=>ep (a.out _ _ b) Z) (λy b=>ep (a.out _ _ b) Z) (by grind[qF])
theorem tF{c:List aC}{a:aC}{L:Nat->gN->Prop}{p:Nat}{e:Option Nat}(f:rE c Wl S N a)(h:0<p)(g:eT L p (p+aA (aF c S N a p))):cL (gC c) L p (aF c S N a p) 0 (aA S) e 1 (aA S) e/\1<=aA (aF c S N a p):=rQ c Wl S N a L p 0 (aA S) e f (Z) Z g
def eT.none{L:Nat->gN->Prop}{q:Nat}(h:eT L N X)(e:N<=q)(d:q<=X)(y:gN):¬L q y:=λc=>by have:=h.out q y c;exact Z
def cL.ifs{L:Nat->gN->Prop}{p l v1 v2:Nat}{c e n:List aM}
 (z:eT L p (p+1+aA c+1+aA e+1+aA n))
 (I:∀h,eT h (p+1) (p+1+aA c)->cL R h (p+1) c 0 (aA S) (Wj (aA S)) 1 (aA S) (Wj (aA S)))
 (G:∀h,eT h (p+1+aA c+1) (p+1+aA c+1+aA e)->cL R h (p+1+aA c+1) e 0 (aA S) Wk 0 v1 Wk) (N:aA S<=v1)
 (M:∀h,eT h (p+1+aA c+1+aA e+1) (p+1+aA c+1+aA e+1+aA n)->cL R h (p+1+aA c+1+aA e+1) n 0 (aA S) Wk 0 v2 Wk) (J:aA S<=v2):
 cL R L p (aM.begin l S::c++[.skip (p+1+aA c+1+aA e+1)]++e++[.jump (p+1+aA c+1+aA e+1+aA n)]++n) 0 (aA S) Wk 0 (aA S) Wk:=by
 generalize H:p+1+aA c+1+aA e+1=q at*;generalize K:q+aA n=r at*;have s:eT (gW L r ⟨0,aA S,Wk,Wl⟩) p (r-1):=(by grind [gW.ok])
 have m:cL R (gW L r ⟨0,aA S,Wk,Wl⟩) p (aM.begin l S::c++[aM.skip q]++e++[aM.jump r]) 0 (aA S) Wk 0 (aA S) Wk:=by
  have i:p+aA (aM.begin l S::c++[aM.skip q]++e++[aM.jump r])=q:=G_
  rcases Nat.eq_or_lt_of_le (show q<=r by omega)with o|o
  ·-- there is no else:one label
   subst o;have d :=s;have C:=cL.ry (ar:=R) (l:=l) (p:=p) (e_:=S) d.uniq (λy b=>ep (d.out _ _ b) Z) (λy b=>ep (d.out _ _ b) Z)
   have w:=C.then (c':=c) (I _ (d.sub Z Z)) λx y f=>by have:=d.out x y f;grind
   have A:p+aA ([aM.begin l S]++c)=p+1+aA c:=G_
   have D:=w.then (c':=[aM.skip q]) (by
    rw[A];refine cL.one (h':=0) (v':=S.length) (e':=Wj (aA S)) d.uniq (λy b=>ep (d.out _ _ b) Z) (λy b=>ep (d.out _ _ b) Z) λT k B t u j=>?_
    have b:=j q ⟨0,aA S,Wk,Wl⟩ (dv s_)
    exact⟨by rw[k],G_,G_,Z,⟨dv ⟨_,dv ⟨rfl,rfl⟩⟩,G_,G_,G_⟩,oS,G_,G_,G_⟩)
    λx y f=>by have:=d.out x y f;grind
   have E:p+aA ([aM.begin l S]++c++[aM.skip q])=p+1+aA c+1:=G_
   have v:=D.then (c':=e) (by rw[E];exact(G _ (lr)).entry (Z)) λx y f=>by have:=d.out x y f;exact Z
   have F:p+aA ([aM.begin l S]++c++[aM.skip q]++e)=p+1+aA c+1+aA e:=G_
   exact v.then (c':=[aM.jump q]) (by
    rw[F];refine cL.one d.uniq (λy b=>ep (d.out _ _ b) Z) (λy b=>?_) λT k B t u j=>?_
    .rw[show p+1+aA c+1+aA e+1=q from H]at b
     rcases b with b|⟨_,rfl⟩
     .exact ep b (z.none Z Z y)
     simp
    .have b:=j q ⟨0,aA S,Wk,Wl⟩ (dv s_)
     exact⟨by rw[k],G_,Z,(by grind [qF]),G_,G_,G_⟩)
    λx y f=>by have:=d.out x y f;grind
  refine cL.close (q:=q) (y:=⟨0,aA S,Wk,Wl⟩) ?_ Z Z;have d:eT (gW (gW L r ⟨0,aA S,Wk,Wl⟩) q ⟨0,aA S,Wk,Wl⟩) p (q-1):=(by grind [gW.ok])
  have C:=cL.ry (ar:=R) (l:=l) (p:=p) (e_:=S) d.uniq (λy b=>ep (d.out _ _ b) Z) (λy b=>ep (d.out _ _ b) Z)
  have w:=C.then (c':=c) (I _ (d.sub Z Z)) λx y f=>by have:=d.out x y f;grind
  have A:p+aA ([aM.begin l S]++c)=p+1+aA c:=G_
  have D:=w.then (c':=[aM.skip q]) (by
   rw[A];refine cL.one (h':=0) (v':=S.length) (e':=Wj (aA S)) d.uniq (λy b=>ep (d.out _ _ b) Z) (λy b=>ep (d.out _ _ b) Z) λT k B t u j=>?_
   have b:=j q ⟨0,aA S,Wk,Wl⟩ (dv s_)
   exact⟨by rw[k],G_,G_,Z,⟨dv ⟨_,dv ⟨rfl,rfl⟩⟩,G_,G_,G_⟩,oS,G_,G_,G_⟩)
   λx y f=>by have:=d.out x y f;grind
  have E:p+aA ([aM.begin l S]++c++[aM.skip q])=p+1+aA c+1:=G_
  have v:=D.then (c':=e) (by rw[E];exact(G _ (lr)).entry (Z)) λx y f=>by have:=d.out x y f;exact Z
  have F:p+aA ([aM.begin l S]++c++[aM.skip q]++e)=p+1+aA c+1+aA e:=G_
  exact v.then (c':=[aM.jump r]) (by
   rw[F];refine cL.one d.uniq (λy b=>ep (d.out _ _ b) Z) (λy b=>?_) λT k B t u j=>?_
   .rw[show p+1+aA c+1+aA e+1=q from H]at b
    rcases b with (b|⟨b,_⟩)|⟨_,rfl⟩
    .exact ep b (z.none Z Z y)
    .exact Z
    simp
   .have b:=j r ⟨0,aA S,Wk,Wl⟩ ((by grind [gW]))
    exact⟨by rw[k],G_,Z,dv ⟨_,ea (dv ⟨rfl,rfl⟩)⟩,G_,G_,G_⟩)
   λx y f=>by have:=d.out x y f;grind
 have i:p+aA (aM.begin l S::c++[aM.skip q]++e++[aM.jump r])=q:=G_
 refine cL.close (q:=r) (y:=⟨0,aA S,Wk,Wl⟩) ?_ Z G_
 refine m.then (c':=n) ?_ λx y f=>by have:=s.out x y f;exact Z
 rw[i];have:=(M L (lr)).exit J Wl (by rw[K];exact z.none Z (Z))
 grind
def cL.Cl{L:Nat->gN->Prop}{p l v1:Nat}{c e:List aM} (m:eT L p (p+1+aA c+1+aA e+1)) (E:∀h,eT h (p+1) (p+1+aA c)->cL R h (p+1) c 0 (aA S) (Wj (aA S)) 1 (aA S) (Wj (aA S))) (s:∀h,eT h (p+1+aA c+1) (p+1+aA c+1+aA e)->cL R h (p+1+aA c+1) e 0 (aA S) Wk 0 v1 Wk) (F:aA S<=v1):cL R L p (aM.begin l S::c++[.skip (p+1+aA c+1+aA e+1)]++e++[aM.jump p]) 0 (aA S) Wk 0 (aA S) Wk:=by
 generalize t:p+1+aA c+1+aA e+1=q at*;have k:p+aA (aM.begin l S::c++[aM.skip q]++e++[aM.jump p])=q:=G_;refine cL.close (q:=p) (y:=⟨0,aA S,Wk,Wm⟩) (cL.close (q:=q) (y:=⟨0,aA S,Wk,Wl⟩) ?_ Z Z) Z Z;have v:eT (gW L p ⟨0,aA S,Wk,Wm⟩) (p+1) q:=(by grind[gW.ok]);have d:eT (gW (gW L p ⟨0,aA S,Wk,Wm⟩) q ⟨0,aA S,Wk,Wl⟩) (p+1) (q-1):=(by grind[gW.ok]);have A:=cL.ry (ar:=R) (l:=l) (p:=p) (e_:=S) d.uniq (λy b=>by rcases b with (b|⟨_,rfl⟩)|⟨b,_⟩;exact ep b (m.none Z Z y);rfl;exact Z) (λy b=>ep (d.out _ _ b) Z);have u:=A.then (c':=c) (E _ (d.sub Z Z)) λx y f=>by have:=d.out x y f;grind
 have w:p+aA ([aM.begin l S]++c)=p+1+aA c:=G_;have B:=u.then (c':=[aM.skip q]) (by rw[w];refine cL.one (h':=0) (v':=S.length) (e':=Wj (aA S)) d.uniq (λy b=>ep (d.out _ _ b) Z) (λy b=>ep (d.out _ _ b) Z) λT j z n o i=>?_;have b:=i q ⟨0,aA S,Wk,Wl⟩ (dv s_);exact⟨by rw[j],G_,G_,Z,⟨dv ⟨_,dv ⟨rfl,rfl⟩⟩,G_,G_,G_⟩,oS,G_,G_,G_⟩) λx y f=>by have:=d.out x y f;grind
 have C:p+aA ([aM.begin l S]++c++[aM.skip q])=p+1+aA c+1:=G_;have r:=B.then (c':=e) (by rw[C];exact(s _ (lr)).entry (Z)) λx y f=>by have:=d.out x y f;exact Z
 have D:p+aA ([aM.begin l S]++c++[aM.skip q]++e)=p+1+aA c+1+aA e:=G_;exact r.then (c':=[aM.jump p]) (by rw[D];refine cL.one d.uniq (λy b=>ep (d.out _ _ b) Z) (λy b=>?_) λT j z n o i=>?_;rw[show p+1+aA c+1+aA e+1=q from t]at b;rcases b with (b|⟨b,_⟩)|⟨_,rfl⟩;exact ep b (m.none Z Z y);exact Z;simp;have b:=i p ⟨0,aA S,Wk,Wm⟩ ((by grind[gW]));exact⟨by rw[j],G_,G_,dv ⟨_,ea (dv ⟨rfl,rfl⟩)⟩,G_,G_,G_⟩) λx y f=>by have:=d.out x y f;grind
def vY(Y_:a:=by rw[hs]at hL⊢;rw[hn];simp only at hL⊢;obtain⟨s1,l1⟩:=tF (L:=L) (p:=p+1) (e:=Wj (aA e_)) hv Z (lr);refine⟨cL.stmt hL s1 λhl=>cL.last hl i_ Z λD T t0 d1 t1 t2 t3 tp=>⟨by rw[t0];rfl,tp,?_⟩,trivial,_,rfl⟩;grind[fI]):a:=Y_
def pU(g:List aC):∀d,C5 g d
 |0,_,_,_,_,h,_=>h.elim|d+1,e_,a,L,p,C,hL=>by
  have B:=pU g d;rcases C with ⟨k,w,t,v,i,hv,_⟩|⟨k,r,u,i⟩|⟨k,c,t,i,E,G⟩|⟨k,c,b,i,E,w⟩|⟨k,i|⟨v,i,hv⟩⟩|⟨k,v,i,hv⟩|⟨k,v,i,hv⟩;have hs:aT g (d+1) e_ a p=(aM.begin a.l_ e_::aF g e_ d v (p+1)++[aM.declare (aA e_)],t.x_::e_):=by rw[aT];grind
  have hn:cQ e_ a=t.x_::e_:=by grind[cQ]
  exact vY;have hs:aT g (d+1) e_ a p=(aM.begin a.l_ e_::bC (aF g e_ d) a.y_ (p+1)++[aM.assign (dY e_ a.x_) (aA a.y_-1)],e_):=by rw[aT];simp[k]
  have hn:cQ e_ a=e_:=by grind[cQ]
  rw[hs]at hL⊢;rw[hn];simp only at hL⊢;have ⟨s1,l1⟩:=wR (rQ g Wl e_ d) a.y_ L (p+1) 0 (aA e_) (Wj (aA e_)) i (Z) Z (lr);rw[gp]at s1;have s:0<aA a.y_:=(by grind);refine⟨cL.stmt hL s1 λhl=>cL.last hl i_ Z λD T t0 d1 t1 t2 t3 tp=>⟨by rw[t0];rfl,tp,?_⟩,trivial,_,rfl⟩;rw[t0];refine⟨?_,qQ r,d1,?_,G_,ea t3⟩;grind;grind;have hn:cQ e_ a=e_:=by grind[cQ]
  rw[hn];have ⟨m,hs,he⟩:∃m,aT g (d+1) e_ a p=(aM.begin a.l_ e_::aF g e_ d c (p+1)++[aM.skip (p+1+aA (aF g e_ d c (p+1))+1+aA (bJ (aT g d) e_ t.y_ (p+1+aA (aF g e_ d c (p+1))+1))+1)]++bJ (aT g d) e_ t.y_ (p+1+aA (aF g e_ d c (p+1))+1)++[aM.jump (p+1+aA (aF g e_ d c (p+1))+1+aA (bJ (aT g d) e_ t.y_ (p+1+aA (aF g e_ d c (p+1))+1))+1+aA m)]++m,e_)/\∃v2,aA e_<=v2/\∀l,eT l (p+1+aA (aF g e_ d c (p+1))+1+aA (bJ (aT g d) e_ t.y_ (p+1+aA (aF g e_ d c (p+1))+1))+1) (p+1+aA (aF g e_ d c (p+1))+1+aA (bJ (aT g d) e_ t.y_ (p+1+aA (aF g e_ d c (p+1))+1))+1+aA m)->cL (gC g) l (p+1+aA (aF g e_ d c (p+1))+1+aA (bJ (aT g d) e_ t.y_ (p+1+aA (aF g e_ d c (p+1))+1))+1) m 0 (aA e_) Wk 0 v2 Wk:=by rcases i with i|⟨x,i,r⟩;refine⟨[],by rw[aT];grind,aA e_,Z,λl j=>cL.nil _ _ _ _ _ _ (λq y z F=>ep (j.out q y z) Z) j.uniq⟩;exact⟨_,by rw[aT];grind,_,qH x.y_ e_,λl j=>qO B x.y_ e_ l _ r j⟩
  have ⟨v2,hv2,he⟩:=he;rw[hs]at hL⊢;simp only at hL⊢;refine⟨cL.ifs (v1:=(gA e_ t.y_).length) (v2:=v2) ?_ ((by grind[tF])) ((by grind[qO])) (qH _ _) he hv2,trivial,_,rfl⟩;grind;have hs:aT g (d+1) e_ a p=(aM.begin a.l_ e_::aF g e_ d c (p+1)++[aM.skip (p+1+aA (aF g e_ d c (p+1))+1+aA (bJ (aT g d) e_ b.y_ (p+1+aA (aF g e_ d c (p+1))+1))+1)]++bJ (aT g d) e_ b.y_ (p+1+aA (aF g e_ d c (p+1))+1)++[aM.jump p],e_):=by rw[aT];grind
  have hn:cQ e_ a=e_:=by grind[cQ]
  rw[hs]at hL⊢;rw[hn];simp only at hL⊢;refine⟨cL.Cl (v1:=(gA e_ b.y_).length) ?_ ((by grind[tF])) ((by grind[qO])) (qH _ _),trivial,_,rfl⟩;grind;have hs:aT g (d+1) e_ a p=(aM.begin a.l_ e_::[aM.push (bB 0)]++[aM.tj],e_):=by rw[aT];grind
  have hn:cQ e_ a=e_:=by grind[cQ]
  rw[hs]at hL⊢;rw[hn];simp only at hL⊢;have o:eT L (p+1) (p+2):=(by grind[eT.sub]);refine⟨cL.stmt (n:=1) hL (cL.plain o i_ Z λD T t1 t2 f b A=>⟨b,A,G_⟩) λhl=>cL.last hl rfl Z λD T t0 d1 t1 t2 t3 tp=>⟨by rw[t0];rfl,tp,G_⟩,trivial,_,rfl⟩;have hs:aT g (d+1) e_ a p=(aM.begin a.l_ e_::aF g e_ d v (p+1)++[aM.tj],e_):=by rw[aT];grind
  have hn:cQ e_ a=e_:=by grind[cQ]
  rw[hs]at hL⊢;rw[hn];simp only at hL⊢;have ⟨s1,l1⟩:=tF (L:=L) (p:=p+1) (e:=Wj (aA e_)) hv Z (lr);exact⟨cL.stmt hL s1 λhl=>cL.last hl i_ Z λD T t0 d1 t1 t2 t3 tp=>⟨by rw[t0];rfl,tp,G_⟩,trivial,_,rfl⟩;have hs:aT g (d+1) e_ a p=(aM.begin a.l_ e_::aF g e_ d v (p+1)++[aM.print],e_):=by rw[aT];grind
  have hn:cQ e_ a=e_:=by grind[cQ]
  exact vY;have hs:aT g (d+1) e_ a p=(aM.begin a.l_ e_::aF g e_ d v (p+1)++[aM.drop],e_):=by rw[aT];grind
  have hn:cQ e_ a=e_:=by grind[cQ]
  exact vY
structure gY(fs:List aC)(d:Nat)(f:aC):Prop where
 y_:∃ps b,f.y_=ps++[b]/\sj (cO fs d) (ps.map (·.x_)).reverse b.y_/\(ps.map (·.x_)).Nodup
 len:(fP fs d f).code.length<=80000
def Hd{m:List aC}{f:aC}(h:gY m N f):∃T,oX (gC m) (fP m N f).code T/\(T 0).h=0/\(T 0).v<=aA f.y_-1/\(T 0).e=Wk/\jE (fP m N f).code:=by
 have ⟨⟨ps,b,hk,hb,_⟩,hl⟩:=h;have n:(fP m N f).code=bJ (aT m N) (ps.map (·.x_)).reverse b.y_ 0++[.push (bB 0),.tj]:=by simp[fP,hk]
 have y:aA f.y_-1=(ps.map (·.x_)).reverse.length:=by simp[hk]
 rw[y];generalize v:(ps.map (·.x_)).reverse=e at*;have x:=qO (pU m N) b.y_ e (λ_ _=>False) 0 hb ⟨s_,s_⟩;have t:jE (fP m N f).code:=by rw[n];cases u:b.y_ with|nil=>exact dv ⟨_,i_⟩|cons a l=>rw[u]at hb;have ⟨r,hr⟩:=(pU m N e a (λ_ _=>False) 0 hb.1 ⟨s_,s_⟩).2.2;grind[bJ,jE]
 generalize A:bJ (aT m N) e b.y_ 0=c at*;have ⟨T,t1,t2,t3,t4,t5,t6,t7,t8⟩:=x;rw[gp]at t5 t6 t7;have s:(fP m N f).code.length=aA c+2:=G_;let U:Nat->gN:=λq=>if q=aA c then ⟨0,(T q).v,Wk,Wl⟩else if q=aA c+1 then ⟨1,(T (aA c)).v,Wk,Wl⟩else T q;have u0:U (aA c)=⟨0,(T (aA c)).v,Wk,Wl⟩:=by simp[U]
 have u1:U (aA c+1)=⟨1,(T (aA c)).v,Wk,Wl⟩:=by simp[U]
 have u2:∀q,q<aA c->U q=T q:=(by grind);have w:(T 0).e=Wk:=G_;have p:(U 0).h=0/\(U 0).v<=aA e/\(U 0).e=Wk:=by grind
 refine⟨U,⟨λj i g=>?_,hl⟩,p.1,p.2.1,p.2.2,t⟩;rw[s];rw[n]at g;rcases gu j (aA c) with o|o;rw[jv o]at g;have:=t8 j i g;simp[gp]at this;refine this.same (T':=U) (u2 j o) (λq z=>?_) (G_);grind[qF];rw[jd o]at g;obtain⟨k,rfl⟩:∃k,j=aA c+k:=⟨j-aA c,Z⟩;rw[kg]at g;match k,g with|0,g=>simp at g;subst g;show iS _ _ U (aA c) _;exact⟨by rw[u0];rfl,G_,Z,G_,G_,G_⟩|1,g=>simp at g;subst g;exact⟨by rw[u1];rfl,G_,G_⟩|k+2,g=>simp at g
def oG{a:List aC}(h:∀f∈a,gY a N f):mY (gC a) (dW a N):=by refine⟨λk n c=>?_⟩;unfold gC at c;cases b:a[k]? with|none=>grind|some f=>have ⟨T,h1,h2,h3,h4,h5⟩:=Hd (h f (ir b));grind[dW]
def uS{b:List aC}(h:∀f∈b,gY b N f)(c:gC b (dU b [109,97,105,110])=Wj 0)(a:List Int):iT (gC b) (kG b N a):=by
 have ⟨f,T,h1,h2,h3,h4,h5,h6⟩:=(oG h).fn _ _ c;have e:kG b N a=⟨[]++[⟨f,0,0,[],[],[]⟩],a,[]⟩:=by unfold kG;grind
 rw[e];refine⟨sM.snoc (s_) ⟨G_,?_,s_,s_⟩ s_,G_⟩;grind[jE]
inductive eS:bS->Prop
 |nil:eS []
 |cons {l:bS}:bW l≠0->eS (l.drop (bW l))->eS l
theorem Lj(h:f[N]?=g[N]?):jB f N X V=jB g N X V:=by unfold jB;rw[h]
def sK(h:bW g≠0)(a:∀i,i<bW g->f[i]?=g[i]?):bW f=bW g:=by have c:=a 0 Z;unfold bW at h a⊢;rw[c];cases d:g[0]? with|none=>simp|some b=>grind[Lj]
def lG(o t:bS):Prop:=(o=[115]->aA t<=100/\eS t)/\(o=[48]->(∀c∈t,dM c=Wm)/\aA t<=100000)
theorem lG.no(h:g≠[115])(a:g≠[48]):lG g f:=(by grind[lG])
end Go.Proofs.YthnhjhlinlhflaaGreatDoor.Hs
namespace Go.Proofs.YthnhjhlinlhflaaGreatDoor
open Hs
def rK:Nat->aC->Prop|0,_=>True|d+1,a=>lG a.op a.x_/\aA a.y_<=1000000/\∀k∈a.y_,rK d k
def kD(a:aC):Prop:=∀e,rK e a
theorem kD.uu{a k:aC}(h:kD a)(b:k∈a.y_):kD k:=λe=>(h (e+1)).2.2 k b
theorem kD.len{a:aC}(h:kD a):aA a.y_<=1000000:=(h 1).2.1
end Go.Proofs.YthnhjhlinlhflaaGreatDoor
namespace Go.Proofs.YthnhjhlinlhflaaGreatDoor.Hs
variable{D:Bool}{N:List aC}{E:Nat}{j:Type}{C:aC}{g l:aD}{f:aG}{z:aM}{e:aM->Prop}{i:bF}{b r:bS}{F:cU}
theorem vV(h:bW r≠0):bW (r++b)=bW r:=sK h λ_ c=>jv ((by grind[rF]))
def zP(h:bW r≠0):bW (r.take (bW r))=bW r:=sK h λi a=>by grind
theorem eS.append(c:eS r)(d:eS b):eS (r++b):=by induction c with|nil=>exact d|@cons l f _ e=>apply eS.cons (by grind[vV]);grind[vV,rF]
theorem eS.one{l:bS}(h:bW l≠0):eS (l.take (bW l)):=eS.cons (by rw[zP h];exact h) (by rw[zP h,List.drop_take];simp;exact eS.nil)
def eS.ne(h:eS r)(a:r≠[]):bW r≠0/\eS (r.drop (bW r)):=by cases h with|nil=>grind|cons c b=>grind
def B0:∀(n:Nat) (l:bS),aA l<=n->∀c∈eD l,eS c:=by intro n;induction n with|zero=>grind[gI]|succ n e=>intro l f c d;by_cases b:l=[];grind;by_cases a:bW l=0;grind[gI];rw[kO b a]at d;grind[eS.one]
def RF:Nat->aD->Prop|0,_=>True|d+1,v=>eS v.s/\∀x∈v.l,RF d x
structure cP(v:aD):Prop where
 all:∀d,RF d v
theorem cP.Ei(h:cP g):eS g.s:=(h.all 1).1
theorem cP.uu(h:cP g)(a:l∈g.l):cP l:=⟨λd=>(h.all (d+1)).2 l a⟩
theorem cP.mk'(a:eS g.s)(b:∀x∈g.l,cP x):cP g:=⟨λd=>by cases d with|zero=>trivial|succ d=>grind[cP.all,RF]⟩
theorem cP.num(n:Int):cP (bB n):=.mk' .nil λx a=>by cases a
theorem cP.yj(b:Bool):cP (cF b):=.mk' .nil λx a=>by cases a
theorem cP.nil:cP aY:=.mk' .nil λx a=>by cases a
theorem cP.str(h:eS r):cP (bT r):=(by grind[cP.mk',bT])
theorem cP.vw{l:List aD}(h:∀x∈l,cP x):cP (bH l):=.mk' .nil h
theorem ER{l:List aD}(h:∀x∈l,cP x)(k:Nat):cP (l.getD k aY):=by grind[cP.nil]
theorem IW{l:List aD}(h:∀x∈l,cP x)(k:Nat):cP (l[k]?.getD aY):=by grind[cP.nil]
theorem L9(b:bS)(a:aD):cP (dF b a).1:=by
 unfold dF;repeat' split
 all_goals first|exact cP.num _|exact cP.yj _|exact cP.nil
theorem YG(a:bS)(x y:Int):cP (jJ a x y).1:=by
 unfold jJ;repeat' split
 all_goals first|exact cP.num _|exact cP.yj _|exact cP.nil
theorem NI(c:cP g)(d:cP l):cP (iK g l).1:=by grind[iK,cP.vw,cP.uu,cP.str,eS.append,cP.Ei,cP.nil]
theorem E9(c:bS)(d:cP g)(e:cP l):cP (dH c g l).1:=by grind[dH,cP.yj,cP.nil,YG,NI]
theorem NG(a:aD):cP (dO a).1:=by
 unfold dO;repeat' split
 all_goals first|exact cP.num _|exact cP.nil
theorem TF(b:aD)(e:cP g):cP (bY g b).1:=by unfold bY;split;exact cP.nil;split;exact cP.nil;refine ER (λx d=>?_) _;unfold kU at d;split at d;obtain⟨c,f,rfl⟩:=ig.1 d;exact cP.str (B0 _ _ kB c f);exact e.uu d
theorem xQ:∀(l:List aD) (a b:aD),cP a->cP b->cP (cI l a b).1|[],_,_,_,c=>c|i::l,a,b,e,c=>by unfold cI;have d:=xQ l (a.l.getD i.n.toNat aY) b ((by grind[ER,cP.uu])) c;grind[cP.nil,cP.vw,cP.uu]
theorem SY{r:aD×Nat}(h:cP r.1):cP (jO r).1:=by grind[jO,cP.nil]
def xX(f:eI):Prop:=(∀v,aM.push v∈f.code->cP v)/\∀op,aM.unary op∈f.code->op=[45]\/op=[33]
structure bU(f:aG):Prop where
 fn:xX f.fn
 g_:∀v∈f.g_,cP v
 ops:∀v∈f.ops,cP v
def iR(m:cY):Prop:=∀f∈m.f_,bU f
def lN(tg:List eI):Prop:=∀f∈tg,xX f
theorem bU.last(h:bU f):cP f.last:=by grind[aG.last,cP.nil,bU.ops]
theorem bU.pop(h:bU f):bU f.pop:=⟨h.fn,h.g_,λv a=>h.ops v (List.dropLast_subset _ a)⟩
theorem bU.p_(h:bU f)(n:Nat):bU (f.p_ n):=⟨h.fn,h.g_,(by grind[bU.ops,aG.p_])⟩
theorem bU.push(h:bU f){a:aD}(b:cP a):bU (f.push a):=⟨h.fn,h.g_,(by grind[bU.ops,aG.push])⟩
theorem bU.next(h:bU f)(n:Nat):bU {f with next:=n}:=⟨h.fn,h.g_,h.ops⟩
theorem bU.many(h:bU f)(n:Nat):∀v∈f.many n,cP v:=(by grind[bU.ops,aG.many])
def xI(h:bU f)(c:∀v,z=.push v->cP v):bU (aO z f).1:=by
 cases z<;>simp [aO];case begin l s=>exact⟨h.fn,h.g_,h.ops⟩
 case push v=>exact h.push (c v i_)
 case load k=>exact h.push (IW h.g_ k)
 case declare k=>refine⟨h.fn,λv b=>?_,h.pop.ops⟩;grind[bU.g_,bU.last]
 case assign k n=>have a:=h.pop.p_ n;split;refine⟨a.fn,λv b=>?_,a.ops⟩;grind[bU.g_,SY,xQ,IW,bU.last,jQ];exact Z
 case jump t=>exact h.next t
 case skip t=>grind[bU.pop,bU.next]
 case sr w t=>grind[bU.next,bU.push,bU.pop,bU.last]
 case tr=>grind[bU.push,bU.pop,bU.last]
 case unary op=>grind[bU.push,bU.pop,L9]
 case binary op=>grind[bU.push,bU.pop,E9,bU.last]
 case index=>grind[bU.push,bU.pop,TF,bU.last]
 case list n=>grind[bU.push,bU.p_,cP.vw,bU.many,jO]
 case length=>grind[bU.push,bU.pop,NG]
 case drop=>exact h.pop
 all_goals exact h
def LD{d:List eI}(p:lN d){b:List aG}{g:aG}{t:List Int}(h:iR ⟨b++[f],t,F⟩)(u:f.su=Wj (z,g)):iR (cD d z b g t F).1:=by
 have q:∀x∈b,bU x:=(by grind[iR]);have hf0:=h f s_;obtain⟨rfl,w⟩:g={f with next:=f.next+1}/\f.fn.code[f.next]?=Wj z:=by grind[aG.su]
 have j:bU {f with next:=f.next+1}:=hf0.next _;have l:∀v,z=.push v->cP v:=λv e=>hf0.fn.1 v G_;have c:∀y,bU y->∀t F,iR ⟨b++[y],t,F⟩:=(by grind[iR]);cases z;case read=>cases t with|nil=>exact c _ j _ _|cons a r=>exact c _ (j.push (cP.num _)) _ _
 case call k n=>simp [cD];split;grind[bU.p_];intro x m;simp at m;rcases m with s|rfl|rfl;grind;exact j.p_ n;refine⟨?_,j.many n,s_⟩;grind[xX,lN]
 case tj=>grind[cD,List.dropLast_subset,bU.push,bU.last,iR]
 case print=>grind[cD,bU.pop]
 all_goals exact c _ (xI j l) _ _
inductive uw:aC->Prop
 |leaf (a:aC) (h:a.op=[48]\/a.op=[115]\/a.op=[98,111,111,108]\/a.op=[110,97,109,101]) (hk:a.y_=[]) (ht:lG a.op a.x_):uw a
 |many (a:aC) (h:a.op=[108,105,115,116]\/a.op=[99,97,108,108]) (hk:∀k∈a.y_,uw k):uw a
 |one (a l:aC) (h:a.op=[45,120]\/a.op=[33,120]) (hk:a.y_=[l]) (hl:uw l):uw a
 |two (a l r:aC) (h:a.op=[105,110,100,101,120]\/cR a.op≠9) (hk:a.y_=[l,r]) (hl:uw l) (hr:uw r):uw a
inductive kQ:aC->Prop
 |var (a t v:aC) (h:a.op=[118,97,114]) (hk:a.y_=[t,v]) (hv:uw v) (ht:t.op=[116,97,114,103,101,116]/\t.y_=[]):kQ a
 |set (a:aC) (h:a.op=[115,101,116]) (hn:a.y_≠[]) (hk:∀k∈a.y_,uw k):kQ a
 |Dn (a c t:aC) (h:a.op=[105,102]) (hk:a.y_=[c,t]) (hc:uw c) (ht:t.op=[98,108,111,99,107]) (htk:∀k∈t.y_,kQ k):kQ a
 |Dv (a c t x:aC) (h:a.op=[105,102]) (hk:a.y_=[c,t,x]) (hc:uw c) (ht:t.op=[98,108,111,99,107]) (htk:∀k∈t.y_,kQ k) (hx:x.op=[98,108,111,99,107]) (hxk:∀k∈x.y_,kQ k):kQ a
 |Dm (a c t:aC) (h:a.op=[119,104,105,108,101]) (hk:a.y_=[c,t]) (hc:uw c) (ht:t.op=[98,108,111,99,107]) (htk:∀k∈t.y_,kQ k):kQ a
 |Bj (a:aC) (h:a.op=[114,101,116,117,114,110]) (hk:a.y_=[]):kQ a
 |Bl (a v:aC) (h:a.op=[114,101,116,117,114,110]) (hk:a.y_=[v]) (hv:uw v):kQ a
 |print (a v:aC) (h:a.op=[112,114,105,110,116]) (hk:a.y_=[v]) (hv:uw v):kQ a
 |call (a c:aC) (h:a.op=[100,111]) (hk:a.y_=[c]) (hc:uw c) (ho:c.op=[99,97,108,108]):kQ a
structure EO(b:aC):Prop where
 op:b.op=[98,108,111,99,107]
 y_:∀k∈b.y_,kQ k
structure xY(f:aC):Prop where
 y_:∃ps b,f.y_=ps++[b]/\(∀x∈ps,x.op=[112,97,114,97,109])/\EO b/\∀x∈ps,x.y_=[]
def cM{α:Type}(P:α->Prop)(r:bN α):Prop:=∀a q,r=.ok (a,q)->P a
def cM.err{P:j->Prop}:cM P (.error E):=λa q h=>by cases h
theorem cM.bad{P:j->Prop}{b:List bE}:cM P (bad b E):=λa q h=>by cases h
def cM.ss{P:j->Prop}{a:j}(h:P a):cM P (.ok (a,E)):=(by grind[cM])
theorem cM.take{a:Type}{P:a->Prop}{ts:List bE}{x:bS}{r:bN a}(h:cM P r):cM P (aQ ts x r):=by cases r with|error l=>exact cM.err|ok b=>grind[aQ,cM.bad,cM]
def cM.map{c:Type}{P:j->Prop}{Q:c->Prop}{r:bN j}{f:j->c}(h:cM P r)(e:∀a,P a->Q (f a)):cM Q (bQ f r):=by cases r with|error l=>exact cM.err|ok d=>grind[cM,bQ]
theorem cM.bind{c:Type}{P:j->Prop}{Q:c->Prop}{r:bN j}{f:j->Nat->bN c}(h:cM P r)(d:∀a q,P a->cM Q (f a q)):cM Q (bK r f):=by cases r with|error l=>exact cM.err|ok e=>grind[cM,bK]
def iJ(P:aC->Prop)(l:List aC):Prop:=∀k∈l,P k
def iJ.nil{P:aC->Prop}:iJ P []:=λ_ h=>by cases h
def iJ.snoc{P:aC->Prop}(h:iJ P N)(b:P C):iJ P (N++[C]):=(by grind[iJ])
section
variable {ts:List bE} {E:Nat->bN aC}
def xW(ts:List bE):Prop:=∀p,lG [UInt8.ofNat (aP ts p).c_] (aP ts p).x_
theorem wX(c:∀q,cM uw (E q)):∀(g p:Nat) (b:List aC),iJ uw b->cM (iJ uw) (fG E ts g p b)|0,p,b,_=>cM.err|g+1,p,b,f=>by rw[fG];cases h:E p with|error l=>exact cM.err|ok d=>obtain⟨a,q⟩:=d;have e:=c p a q h;simp;split;exact wX c g (q+1) _ (f.snoc e);grind[cM,iJ]
def wW(a:∀q,cM uw (E q))(p:Nat)(x y:bS):cM (iJ uw) (fU E ts p x y):=by grind[fU,cM.take,gL,wX,cM.bad,cM,iJ]
theorem NB(b:xW ts)(c:∀q,cM uw (E q))(p:Nat):cM uw (eL E ts p):=by unfold eL;split;rename_i h;simp at h;rcases h with h|h;exact cM.ss (.leaf _ (ea (by rw[h];rfl)) rfl (b p));exact cM.ss (.leaf _ (dv (ea (by rw[h];rfl))) rfl (b p));split;exact cM.ss (.leaf _ ((by grind[aV])) rfl ((by grind[aV,lG])));split;exact(c (p+1)).take;split;exact cM.map (wW c p _ _) λa h=>.many _ (ea i_) h;split;split;exact cM.map (wW c (p+1) _ _) λa h=>.many _ (dv i_) h;exact cM.ss (.leaf _ ((by grind[aV])) rfl ((by grind[aV,lG])));exact cM.bad
theorem FI(b:∀q,cM uw (E q)):∀(g:Nat) (n:aC) (p:Nat),uw n->cM uw (eR E ts g n p)
 |0,n,p,_=>cM.err|g+1,n,p,a=>by
  rw[eR];split;have c:=(b (p+1)).take (ts:=ts) (x:=[93]);cases d:aQ ts [93] (E (p+1))with|error l=>grind|ok e=>obtain⟨i,q⟩:=e;exact FI b g _ q (.two _ n i (ea i_) i_ a (c i q d))
  exact cM.ss a
def wU(b:xW ts)(c:∀q,cM uw (E q)):∀(g p:Nat),cM uw (iE E ts g p)|0,p=>cM.err|g+1,p=>by rw[iE];split;exact cM.map (wU b c g (p+1)) λa h=>.one _ a (ea i_) i_ h;split;exact cM.map (wU b c g (p+1)) λa h=>.one _ a (dv i_) i_ h;grind[cM.bind,NB,FI]
def vO{L:Nat->bN aC}{k:Nat}(a:k<9)(c:∀q,cM uw (L q)):∀(g:Nat) (n:aC) (q:Nat),uw n->cM uw (cG L ts k g n q)
 |0,n,q,_=>cM.err|g+1,n,q,b=>by
  rw[cG];split;cases i:L (q+1)with|error l=>grind|ok f=>obtain⟨r,d⟩:=f;have h:=c _ r d i;have e:uw (aV (aP ts q).x_ (aP ts q).l_ [] [n,r]):=.two _ n r ((by grind[aV])) rfl b h;simp;split;exact cM.ss e;exact vO a c g _ d e
  exact cM.ss b
def wY(b:xW ts)(c:∀q,cM uw (E q)):∀(j p:Nat),cM uw (iN E ts j p)|0,p=>wU b c _ p|j+1,p=>by exact cM.bind (wY b c j p) λa q d=>vO Z (λq=>wY b c j q) _ a q d
theorem uQ(b:List bE)(a:xW b):∀(f p:Nat),cM uw (gK b f p)|0,p=>cM.err|f+1,p=>by exact wY a (λq=>uQ b a f q) 5 p
def zA(c:∀q,cM uw (E q)):∀(g p:Nat) (a:List aC),iJ uw a->cM (iJ uw) (fJ E ts g p a)
 |0,p,a,_=>cM.err|g+1,p,a,b=>by
  rw[fJ];split;have d:=(c (p+1)).take (ts:=ts) (x:=[93]);cases e:aQ ts [93] (E (p+1))with|error l=>exact cM.err|ok f=>obtain⟨i,q⟩:=f;exact zA c g q _ (b.snoc (d i q e))
  exact cM.ss b
def SI(b:∀q,cM uw (E q))(p:Nat):cM kQ (fY E ts p):=by unfold fY;split;split;exact cM.take (cM.map (wW b (p+1) _ _) λa h=>.call _ _ i_ i_ (.many _ (dv i_) h) i_);refine cM.bind ((zA b _ (p+1) [] iJ.nil).take) λl q d=>?_;exact cM.take (cM.map (b q) λv c=>.set _ i_ (by simp[aV]) (d.snoc c));exact cM.bad
def J8{B:Nat->bN aC}(a:∀q,cM uw (E q))(h:∀q,cM EO (B q))(p:Nat):cM kQ (kE E B ts p):=by unfold kE;split;unfold sT;split;split;exact cM.take (cM.map (a (p+3)) λv e=>.var _ _ v i_ i_ e ⟨i_,i_⟩);exact cM.bad;exact cM.bad;split;refine cM.bind (a (p+1)) λc q f=>cM.bind (h q) λb k g=>?_;split;exact cM.map (h (k+1)) λd i=>.Dv _ c b d i_ i_ f g.op g.y_ i.op i.y_;exact cM.ss (.Dn _ c b i_ i_ f g.op g.y_);split;exact cM.bind (a (p+1)) λc q f=>cM.map (h q) λb j=>.Dm _ c b i_ i_ f j.op j.y_;split;unfold pX;split;exact cM.ss (.Bj _ i_ i_);exact cM.take (cM.map (a (p+1)) λv e=>.Bl _ v i_ i_ e);split;exact cM.take (cM.map (a (p+1)) λv e=>.print _ v i_ i_ e);exact SI a p
def vP{S:Nat->bN aC}(c:∀q,cM kQ (S q)):∀(g p:Nat) (a:List aC),iJ kQ a->cM (iJ kQ) (eX S ts g p a)|0,p,a,_=>cM.err|g+1,p,a,b=>by rw[eX];split;exact cM.ss b;cases d:S p with|error l=>exact cM.err|ok e=>obtain⟨s,q⟩:=e;exact vP c g q _ (b.snoc (c p s q d))
theorem FJ(a:∀q,cM uw (E q)):∀(f p:Nat),cM EO (iP E ts f p)|0,p=>cM.err|f+1,p=>by rw[iP];split;exact cM.map (cM.take (vP (λq=>J8 a (λq=>FJ a f q) q) _ (p+1) [] iJ.nil)) λl h=>⟨i_,h⟩;exact cM.bad
theorem vN:∀(g p:Nat) (a:List aC),iJ (λx=>x.op=[112,97,114,97,109]/\x.y_=[]) a->cM (iJ λx=>x.op=[112,97,114,97,109]/\x.y_=[]) (eB ts g p a)|0,p,a,_=>cM.err|g+1,p,a,c=>by have b:iJ (λx=>x.op=[112,97,114,97,109]/\x.y_=[]) (a++[aV [112,97,114,97,109] (aP ts p).l_ (aP ts p).x_ []]):=c.snoc ⟨i_,i_⟩;rw[eB];split;split;exact vN g (p+2) _ b;exact cM.ss b;exact cM.bad
theorem J9{B:Nat->bN aC}(e:∀q,cM EO (B q))(p:Nat):cM xY (mC B ts p):=by
 unfold mC;split;split;split;have a:cM (iJ λx=>x.op=[112,97,114,97,109]/\x.y_=[]) (lC ts (p+3)):=by grind[lC,cM.take,vN,cM,iJ]
 exact cM.bind a λl q d=>cM.map (e q) λb f=>⟨l,b,i_,λx c=>(d x c).1,f,λx c=>(d x c).2⟩;exact cM.bad;exact cM.bad;exact cM.bad
def wV{F:Nat->bN aC}(c:∀q,cM xY (F q)):∀(g p:Nat) (a:List aC),iJ xY a->cM (iJ xY) (fR F ts g p a)|0,p,a,_=>cM.err|g+1,p,a,b=>by rw[fR];split;exact cM.ss b;cases e:F p with|error l=>exact cM.err|ok d=>obtain⟨s,q⟩:=d;exact wV c g q _ (b.snoc (c p s q e))
end
def eS.split{c:UInt8}(o:c.toNat<128)(h:eS (r++c::b)):eS r/\eS b:=by
 generalize f:r++c::b=l at h;induction h generalizing r with|nil=>simp at f|cons n p k=>
  subst f;cases r with
  |nil=>
   have e:bW ([]++c::b)=1:=by simp[bW,o]
   exact⟨.nil,G_⟩|cons x r=>
   have m:bW (x::r++c::b)<=aA (x::r):=by have q:∀i d g,128<=d->i=aA r+1->jB (x::r++c::b) i d g=Wl:=(by grind[jB]);grind[bW]
   have j:(x::r++c::b).drop (bW (x::r++c::b))=(x::r).drop (bW (x::r++c::b))++c::b:=G_;have ⟨k1,k2⟩:=k j.symm;refine⟨?_,k2⟩;have e:=sK n λi g=>(jv Z).symm;exact .cons Z G_
def vI:∀(f:Nat) (l:bS) (p:Nat),aA l<=f->dS f l p=Wk->eS l|0,l,_,h,_=>by obtain rfl:l=[]:=(by grind);exact .nil|f+1,l,p,h,a=>by rw[dS]at a;split at a;obtain rfl:l=[]:=(by grind);exact .nil;split at a;cases a;rename_i b;exact .cons b (vI f _ _ G_ a)
def VO(f:Nat):∀(a l:bS) (g:List bE),fC f a l=.ok g->eS (a++l)->aA (a++l)<=100000->∀t∈g,lG [UInt8.ofNat t.c_] t.x_:=by
 induction f with|zero=>intro a l g h;cases h|succ f v=>
  intro a l g h s w t d;by_cases i:aA l=0;rw[rL _ _ _ i]at h;cases h;rw[hH.1 d];grind[lG];cases b:(cV l).ok;grind[fC];rw[yX _ _ _ i b _ rfl]at h;generalize x:(cV l).size+cJ (aA l) (l.drop (cV l).size)=m at h;cases j:fC f (a++l.take m) (l.drop m)with|error n=>rw[j]at h;cases h|ok u=>
   rw[j]at h;cases h;rcases fe.1 d with rfl|d;cases l with|nil=>simp at i|cons c r=>
    rw[cV]at b⊢;by_cases o:(dM c||eG c)=Wm;rw[ec o];unfold iX;split;simp;split<;>exact .no d_ d_;grind[lR,dI,lG];rw[dy o]at b⊢;by_cases k:c.toNat=34;rw[ec k]at b⊢;simp [pC]at b;refine⟨λ_=>⟨by grind[pC],?_⟩,λe=>by cases e⟩;have q:r=r.take (bO iI r)++34::r.drop (bO iI r+1):=by grind[List.take_append_drop,List.drop_eq_getElem_cons]
    have p:=(s.split Z).2;rw[q]at p;exact(p.split d_).1;rw[dy k];unfold kC;split<;>exact .no s_ s_
   have e:a++List.take m l++List.drop m l=a++l:=s_;exact v _ _ u j G_ G_ t d
theorem tJ{a:List bE}(h:gS r=.ok a)(b:dS (aA r) r 0=Wk)(c:aA r<=100000):xW a:=λp=>by unfold aP;cases d:a[p]? with|none=>exact .no d_ d_|some t=>exact VO _ _ _ _ h (by rw[km];exact vI _ _ _ (Z) b) G_ t (G_)
def BQ(h:eA r=.ok N):∀f∈N,xY f:=by unfold eA at h;split at h;cases h;split at h;cases h;split at h;cases h;split at h;cases h;rename_i q b;cases h;exact wV ((by grind[J9,FJ,uQ,tJ])) _ _ _ iJ.nil _ _ b
theorem uV(s:bF)(l k:Nat)(h:s.kind≠0):(s.found l k).kind≠0:=by grind[bF.found]
theorem vT(s:bF)(n:aC)(h:s.kind≠0):(ru s n).kind≠0:=by grind[ru,uV]
def XT(b:List aC)(a:Bool)(s:bF)(n:aC)(h:s.kind≠0):(cK b a s n).kind≠0:=by grind[cK,fX,uV]
theorem kX{f:bF->aC->bF}(a:∀s k,s.kind≠0->(f s k).kind≠0):∀(l:List aC) (s:bF),s.kind≠0->(l.foldl f s).kind≠0|[],_,h=>h|k::l,s,h=>kX a l _ (a s k h)
theorem jF(b:List aC)(a:Bool):∀(d:Nat) (n:aC) (s:bF),s.kind≠0->(aR b a d n s).kind≠0|0,_,_,h=>h|d+1,n,s,h=>by rw[aR];split;split;exact jF b a d _ _ (vT s _ h);exact h;have e:(n.y_.foldl (λs k=>aR b a d k s) (cK b a s n)).kind≠0:=kX (λs k c=>jF b a d k s c) _ _ (XT b a s n h);grind
theorem rE.up:∀{d e:Nat}{a:aC},rE N D F d a->d<=e->rE N D F e a|0,_,_,h,_=>h.elim|d+1,0,_,_,h=>by omega|d+1,e+1,a,h,i=>by have j:∀k,rE N D F d k->rE N D F e k:=λk g=>rE.up g Z;grind[rE]
theorem sj.up{S c:cU->aC->Prop}(h:∀s a,S s a->c s a):∀{l:List aC}{b:cU},sj S b l->sj c b l|[],_,_=>trivial|_::_,_,d=>⟨h _ _ d.1,sj.up h d.2⟩
theorem cO.up:∀{d e:Nat}{b:cU}{a:aC},cO N d b a->d<=e->cO N e b a|0,_,_,_,h,_=>h.elim|d+1,0,_,_,_,h=>by omega|d+1,e+1,b,a,h,g=>by have j:∀k,rE N Wl b d k->rE N Wl b e k:=(by grind[rE.up]);have i:∀l,sj (cO N d) b l->sj (cO N e) b l:=λl f=>f.up λs a h=>cO.up h Z;grind[cO]
def zF{k:Nat}(a:k≠0)(h:(i.found E k).kind=0):False:=by grind[bF.found]
theorem uW{f:aC}{a:bS}:∀{fs:List aC},dE fs a=Wj f->fs[dU fs a]?=Wj f|[],h=>by simp[dE]at h|x::l,h=>by unfold dE dU at*;rw[List.find?_cons]at h;rw[List.findIdx_cons];cases b:(x.x_==a)with|true=>grind|false=>rw[b]at h;exact uW (fs:=l) h
def uE(fs:List aC)(a_:Bool)(d:Nat)(a:aC):Prop:=∀sn,(aR fs a_ d a ⟨sn,0,0⟩).kind=0->aR fs a_ d a ⟨sn,0,0⟩=⟨sn,0,0⟩/\rE fs a_ sn.reverse d a
def nF:∀(l:List aC) (c:cU),(∀k∈l,uE N D E k)->(l.foldl (λs k=>aR N D E k s) ⟨c,0,0⟩).kind=0->l.foldl (λs k=>aR N D E k s) ⟨c,0,0⟩=⟨c,0,0⟩/\∀k∈l,rE N D c.reverse E k|[],c,_,_=>(by simp)|a::l,c,h,f=>by rw[ic]at f⊢;have h0:=ii λg=>kX (λs k j=>jF N D E k s j) l _ g f;obtain⟨i,m⟩:=h a (s_) c h0;rw[i]at f⊢;obtain⟨o,n⟩:=nF l c (G_) f;grind
def lA(e:C.op≠[118,97,114])(c:C.op≠[98,108,111,99,107]):aR N D (E+1) C i=C.y_.foldl (λi k=>aR N D E k i) (cK N D i C):=by grind[aR]
theorem sz(d:C.op≠[115,101,116])(c:C.op≠[110,97,109,101])(e:C.op≠[99,97,108,108]):cK N D i C=i:=by grind[cK]
def rU{fs:List aC}{a_:Bool}(i:∀f∈fs,f.y_≠[])(n:a_=Wm->fs=[]):∀(d:Nat) (a:aC),uw a->fN d a->uE fs a_ d a
 |0,_,_,h=>h.elim|d+1,a,D,z=>by
  intro p g;have two:∀(l r:aC),a.y_=[l,r]->uw l->uw r->∀k∈a.y_,uE fs a_ d k:=λl r q y C k b=>by have m:=z k b;rw[q]at b;rcases fe.1 b with rfl|b;exact rU i n d _ y m;obtain rfl:=hH.1 b;exact rU i n d _ C m
  have u:a.op≠[118,97,114]/\a.op≠[98,108,111,99,107]:=by cases D with|leaf _ h=>grind|many _ h=>grind|one _ l h=>grind|two _ l r h=>grind[cR]
  rw[lA u.1 u.2]at g⊢;have hl0:=ii λv=>kX (λs k F=>jF fs a_ d k s F) a.y_ _ v g;cases D with
  |leaf _ h q=>grind[cK,rE,bF.found]|many _ h q=>
   have x:=λk b=>rU i n d k (q k b) (z k b);rcases h with h|h;rw[sz G_ G_ G_]at g⊢;have ⟨h1,h2⟩:=nF a.y_ p x g;grind[rE];have e:cK fs a_ ⟨p,0,0⟩ a=fX fs a_ ⟨p,0,0⟩ a:=by grind[cK]
   rw[e]at g hl0⊢;unfold fX at g hl0⊢;split at hl0;grind[bF.found];rename_i t;rw[dy t]at g⊢;split at hl0;grind[bF.found];rename_i c;rw[dy c]at g⊢;have ⟨h1,h2⟩:=nF a.y_ p x g;refine⟨h1,dv (dv (dv (dv (dv (ea ⟨h,h2,?_⟩)))))⟩;simp[ne_eq,Decidable.not_not]at c;unfold gO at t c;by_cases o:a.x_=[108,101,110];grind;rw[dy (by simp[o])]at t c;by_cases B:a.x_=[114,101,97,100]/\a_=Wl;grind;have j:¬((a.x_==[114,101,97,100]&&!a_)=Wm):=by grind
   rw[dy j]at t c;cases A:dE fs a.x_ with|none=>grind|some f=>
    rw[A]at t c;simp only at t c;have hmem:=jx A;have v:=i f hmem;have hpos:=Z;have w:a_=Wl:=by grind
    refine dv (dv ⟨o,G_,w,?_⟩);unfold gC;rw[uW A];grind
  |one _ l h q y=>
   have x:∀k∈a.y_,uE fs a_ d k:=λk b=>by have m:=z k b;rw[q]at b;obtain rfl:=hH.1 b;exact rU i n d _ y m
   rw[sz oh oh oh]at g⊢;have ⟨h1,h2⟩:=nF a.y_ p x g;grind[rE]|two _ l r h q y C=>
   have E:cK fs a_ ⟨p,0,0⟩ a=⟨p,0,0⟩:=by grind[cK,cR]
   rw[E]at g⊢;have ⟨h1,h2⟩:=nF a.y_ p (G_) g;refine⟨h1,?_⟩;rcases h with h|h;exact dv (G_);exact dv (G_)
def yQ(fs:List aC)(d:Nat)(a:aC):Prop:=∀sn,aA sn+cT d a<=40000->(aR fs Wl d a ⟨sn,0,0⟩).kind=0->∃sn',aR fs Wl d a ⟨sn,0,0⟩=⟨sn',0,0⟩/\sn'.reverse=cQ sn.reverse a/\cO fs d sn.reverse a/\aA sn'<=aA sn+cT d a/\sn=sn'.take (aA sn)
def EY:∀(l:List aC) (b:cU),(∀k∈l,yQ N E k)->aA b+(l.map (cT E)).sum<=40000->(l.foldl (λs k=>aR N Wl E k s) ⟨b,0,0⟩).kind=0->∃c,l.foldl (λs k=>aR N Wl E k s) ⟨b,0,0⟩=⟨c,0,0⟩/\sj (cO N E) b.reverse l/\aA c<=aA b+(l.map (cT E)).sum/\b=c.take (aA b)|[],b,_,_,_=>(by grind[sj])|a::l,b,h,j,f=>by rw[ic]at f⊢;simp at j⊢;have h0:=ii λg=>kX (λs k n=>jF N Wl E k s n) l _ g f;obtain⟨m,i,o,v,q,t⟩:=h a (s_) b Z h0;rw[i]at f⊢;obtain⟨p,w,r,u,x⟩:=EY l m (G_) Z f;grind[sj]
theorem MJ{a:cU}(f:C.op=[98,108,111,99,107])(h:C.y_.foldl (λs k=>aR N Wl E k s) ⟨F,0,0⟩=⟨a,0,0⟩)(g:F=a.take (aA F)):aR N Wl (E+1) C ⟨F,0,0⟩=⟨F,0,0⟩:=by grind[aR,cK]
def zX(e:C.op=[98,108,111,99,107])(h:(aR N Wl (E+1) C ⟨F,0,0⟩).kind=0):(C.y_.foldl (λs k=>aR N Wl E k s) ⟨F,0,0⟩).kind=0:=by grind[aR,cK]
def nX(f:C.op=[98,108,111,99,107])(g:∀k∈C.y_,yQ N E k)(e:aA F+cT (E+1) C<=40000)(h:(aR N Wl (E+1) C ⟨F,0,0⟩).kind=0):aR N Wl (E+1) C ⟨F,0,0⟩=⟨F,0,0⟩/\sj (cO N E) F.reverse C.y_:=by rw[cT]at e;have ⟨s',h1,h2,h3,h4⟩:=EY C.y_ F g Z (zX f h);grind[MJ]
def VH{x y:aC}(c:C.y_=[x,y])(g:C.op≠[118,97,114])(f:C.op≠[98,108,111,99,107])(e:cK N Wl i C=i):aR N Wl (E+1) C i=aR N Wl E y (aR N Wl E x i):=by grind[aR]
def Vo{x y z:aC}(c:C.y_=[x,y,z])(g:C.op≠[118,97,114])(f:C.op≠[98,108,111,99,107])(e:cK N Wl i C=i):aR N Wl (E+1) C i=aR N Wl E z (aR N Wl E y (aR N Wl E x i)):=by grind[aR]
def OM{d:Nat}{a k:aC}(h:k∈a.y_):cT d k+1<=cT (d+1) a:=by rw[cT];exact IE
theorem OY(C:∀f∈N,f.y_≠[]):∀(d:Nat) (a:aC),kQ a->fN d a->yQ N d a
 |0,_,_,h=>h.elim
 |1,a,J,D=>by
  have hno :=λk b=>D k b
  intro g K j;cases J with
  |var _ t v h b w=>exact(hno t lq).elim
  |set _ h I b=>cases A:a.y_ with|nil=>exact(I A).elim|cons x l=>exact(hno x (by rw[A];simp)).elim
  |Dn _ c t h b=>exact(hno c lq).elim
  |Dv _ c t x h b=>exact(hno c lq).elim
  |Dm _ c t h b=>exact(hno c lq).elim
  |Bl _ v h b=>exact(hno v lq).elim
  |print _ v h b=>exact(hno v lq).elim
  |call _ c h b=>exact(hno c lq).elim
  |Bj _ h b=>
   have o:cK N Wl ⟨g,0,0⟩ a=⟨g,0,0⟩:=sz kz kz kz
   refine⟨g,by rw[lA kz kz,o,b];rfl,by unfold cQ;rw[dy kz],?_,Z,s_⟩
   exact dv (dv (dv (dv (ea ⟨h,ea b⟩))))
 |d+2,a,J,D=>by
  intro g K j;have p:∀k,k∈a.y_->uw k->uE N Wl (d+1) k:=λk b M=>rU C (λh=>by cases h) (d+1) k M (D k b)
  have u:∀k,k∈a.y_->(∀x∈k.y_,kQ x)->∀x∈k.y_,yQ N d x:=λk b H x E=>OY C d x (H x E) (D k b x E)
  have r:∀k,k∈a.y_->aA g+cT (d+1) k<=40000:=λk b=>by have:cT (d+1) k+1<=cT (d+2) a:=OM (d:=d+1) b;exact Z
  have i:a.op≠[118,97,114]->g.reverse=cQ g.reverse a:=λh=>by unfold cQ;rw[dy h]
  cases J with
  |var _ t v h b w=>
   have e:aR N Wl (d+2) a ⟨g,0,0⟩={ aR N Wl (d+1) v (ru ⟨g,0,0⟩ t)with e_:=(aR N Wl (d+1) v (ru ⟨g,0,0⟩ t)).e_++[t.x_] }:=by rw[aR,ec ra,b]
   rw[e]at j ⊢
   have hd0 :=ii λm=>jF N Wl (d+1) v _ m j
   have ⟨hd1,hns⟩:ru ⟨g,0,0⟩ t=⟨g,0,0⟩/\t.x_∉g:=by
    unfold ru at hd0 ⊢
    split at hd0
    .exact(zF d_ hd0).elim
    rename_i F;rw[dy F];simp at F;exact⟨i_,F.2⟩
   rw[hd1]at j ⊢
   have ⟨h1,h2⟩:=p v lq w g j
   rw[h1];have L:cT (d+1) v+1<=cT (d+2) a:=OM (d:=d+1) (a:=a) (k:=v) lq
   refine⟨g++[t.x_],i_,?_,ea ⟨h,ku,t,v,b,h2,by simpa using hns⟩,ku,s_⟩
   unfold cQ;rw[ec h,b];simp
  |set _ h I b=>
   rw[lA kz kz]at j ⊢
   have hl0 :=ii λm=>kX (λs k H=>jF N Wl (d+1) k s H) a.y_ _ m j
   have o:cK N Wl ⟨g,0,0⟩ a=⟨g,0,0⟩/\a.x_∈g:=by
    unfold cK at hl0 ⊢
    rw[ec ra]at hl0 ⊢
    split at hl0
    .rename_i y;rw[ec y];exact⟨i_,by simpa using y⟩
    exact(zF d_ hl0).elim
   rw[o.1]at j ⊢
   have ⟨h1,h2⟩:=nF a.y_ g (λk B=>p k B (b k B)) j
   exact⟨g,h1,i kz,dv (ea ⟨h,by simpa using o.2,I,h2⟩),Z,s_⟩
  |Dn _ c t h b y z q=>
   have o:cK N Wl ⟨g,0,0⟩ a=⟨g,0,0⟩:=sz kz kz kz
   rw[VH b kz kz o]at j ⊢
   have h0 :=ii λm=>jF N Wl (d+1) t _ m j
   have ⟨h1,h2⟩:=p c lq y g h0
   rw[h1]at j ⊢
   have ⟨h3,h4⟩:=nX z (u t lq q) (r t lq) j
   exact⟨g,h3,i kz,dv (dv (ea ⟨h,c,t,ea b,h2,h4.up λs a h=>h.up Z⟩)),Z,s_⟩
  |Dv _ c t x h b y z q E G=>
   have o:cK N Wl ⟨g,0,0⟩ a=⟨g,0,0⟩:=sz kz kz kz
   rw[Vo b kz kz o]at j ⊢
   have h00 :=ii λm=>jF N Wl (d+1) x _ m j
   have h0 :=ii λm=>jF N Wl (d+1) t _ m h00
   have ⟨h1,h2⟩:=p c lq y g h0
   rw[h1]at j h00 ⊢
   have ⟨h3,h4⟩:=nX z (u t lq q) (r t lq) h00
   rw[h3]at j ⊢
   have ⟨h5,h6⟩:=nX E (u x lq G) (r x lq) j
   exact⟨g,h5,i kz,dv (dv (ea ⟨h,c,t,dv ⟨x,b,h6.up λs a h=>h.up Z⟩,h2,h4.up λs a h=>h.up Z⟩)),Z,s_⟩
  |Dm _ c t h b y z q=>
   have o:cK N Wl ⟨g,0,0⟩ a=⟨g,0,0⟩:=sz kz kz kz
   rw[VH b kz kz o]at j ⊢
   have h0 :=ii λm=>jF N Wl (d+1) t _ m j
   have ⟨h1,h2⟩:=p c lq y g h0
   rw[h1]at j ⊢
   have ⟨h3,h4⟩:=nX z (u t lq q) (r t lq) j
   exact⟨g,h3,i kz,dv (dv (dv (ea ⟨h,c,t,b,h2,h4.up λs a h=>h.up Z⟩))),Z,s_⟩
  |Bj _ h b=>
   have o:cK N Wl ⟨g,0,0⟩ a=⟨g,0,0⟩:=sz kz kz kz
   refine⟨g,by rw[lA kz kz,o,b];rfl,i kz,?_,Z,s_⟩
   exact dv (dv (dv (dv (ea ⟨h,ea b⟩))))
  |Bl _ v h b w=>
   have o:cK N Wl ⟨g,0,0⟩ a=⟨g,0,0⟩:=sz kz kz kz
   rw[lA kz kz,o,b]at j ⊢
   simp[ic,List.foldl_nil]at j ⊢
   have ⟨h1,h2⟩:=p v lq w g j
   exact⟨g,h1,i kz,dv (dv (dv (dv (ea ⟨h,dv ⟨v,b,h2⟩⟩)))),Z,s_⟩
  |print _ v h b w=>
   have o:cK N Wl ⟨g,0,0⟩ a=⟨g,0,0⟩:=sz kz kz kz
   rw[lA kz kz,o,b]at j ⊢
   simp[ic,List.foldl_nil]at j ⊢
   have ⟨h1,h2⟩:=p v lq w g j
   exact⟨g,h1,i kz,dv (dv (dv (dv (dv (ea ⟨h,v,b,h2⟩))))),Z,s_⟩
  |call _ v h b w=>
   have o:cK N Wl ⟨g,0,0⟩ a=⟨g,0,0⟩:=sz kz kz kz
   rw[lA kz kz,o,b]at j ⊢
   simp[ic,List.foldl_nil]at j ⊢
   have ⟨h1,h2⟩:=p v lq w g j
   exact⟨g,h1,i kz,dv (dv (dv (dv (dv (dv ⟨h,v,b,h2⟩))))),Z,s_⟩
def kW:aC->Nat|⟨_,_,_,y_⟩=>1+(y_.attach.map λ⟨k,_⟩=>kW k).sum
theorem qS(a:aC):kW a=1+(a.y_.map kW).sum:=by have ⟨op,l_,x_,y_⟩:=a;rw[kW];simp
def xD:∀(d:Nat) (a:aC),fN d a->kW a<=cT d a
 |0,_,h=>h.elim|d+1,a,h=>by
  rw[qS,cT];have:∀l:List aC,(∀k∈l,kW k<=cT d k)->(l.map kW).sum<=(l.map (cT d)).sum:=by intro l;induction l with|nil=>simp|cons x l c=>grind
  have:=this a.y_ λk b=>xD d k (h k b);exact Z
def wS{c:aC->Nat->List aM}{m:Nat}(h:∀a p,aA (c a p)<=m*kW a):∀(l:List aC) (p:Nat),aA (bC c l p)<=m*(l.map kW).sum|[],_=>by simp[bC]|a::l,p=>by simp [bC,et,fi,fu,Nat.mul_add];have d:=h a p;have b:=wS h l (p+aA (c a p));exact Z
def rR(c:List aC)(b:cU):∀(d:Nat) (a:aC) (p:Nat),aA (aF c b d a p)<=2*kW a|0,_,_=>by simp[aF]|d+1,a,p=>by have e:=wS (m:=2) (λa p=>rR c b d a p) a.y_ p;have h:=qS a;have f:=λl q=>rR c b d l q;rw[aF];by_cases g:(a.op==[48])=Wm;grind;grind
def wL{c:cU->aC->Nat->List aM×cU}{m:Nat}(h:∀s a p,(c s a p).1.length<=m*kW a):∀(l:List aC) (s:cU) (p:Nat),aA (bJ c s l p)<=m*(l.map kW).sum|[],_,_=>by simp[bJ]|a::l,s,p=>by simp [bJ,et,fi,fu,Nat.mul_add];have d:=h s a p;have b:=wL h l (c s a p).2 (p+(c s a p).1.length);exact Z
theorem JF(e:List aC):∀(d:Nat) (c:cU) (a:aC) (p:Nat),(aT e d c a p).1.length<=3*kW a
 |0,_,_,_=>by simp[aT]|d+1,c,a,p=>by
  have j:=qS a;have g:=λ(b:aC) q=>wL (m:=3) (λs a p=>JF e d s a p) b.y_ c q;have f:=λ(x:aC) q=>rR e c d x q;have i:=λ(b:aC)=>qS b;rw[aT];repeat' split
  all_goals try simp
  grind;have h:=wS (m:=2) (Z) a.y_ (p+1);exact Z;all_goals grind
theorem tA(a:List aC)(d:Nat)(s:bF)(k:aC)(h:s.kind≠0):(eO a d s k).kind≠0:=by grind[eO,vT,jF]
def ZR(a:List aC)(d:Nat)(s:bF)(n:aC)(first:Bool)(h:s.kind≠0):(gQ a d s n first).kind≠0:=by grind[gQ,kX,tA,uV]
theorem LW(c:List aC)(d:Nat):∀(a b:List aC) (s:bF),s.kind≠0->(eU c d b a s).kind≠0|[],_,_,h=>h|n::a,b,s,h=>LW c d a (b++[n]) _ (ZR c d s n _ h)
def xB:∀(c:List aC) (b:cU),(∀x∈c,x.op=[112,97,114,97,109])->(c.foldl (eO N E) ⟨b,0,0⟩).kind=0->c.foldl (eO N E) ⟨b,0,0⟩=⟨b++c.map (·.x_),0,0⟩/\(b.Nodup->(b++c.map (·.x_)).Nodup)
 |[],b,_,_=>by simp|a::l,b,h,f=>by
  rw[ic]at f⊢;have g:eO N E ⟨b,0,0⟩ a={ru ⟨b,0,0⟩ a with e_:=(ru ⟨b,0,0⟩ a).e_++[a.x_]}:=by grind[eO]
  have i:(eO N E ⟨b,0,0⟩ a).kind=0:=(by grind[kX,tA]);have ⟨hd1,hns⟩:ru ⟨b,0,0⟩ a=⟨b,0,0⟩/\a.x_∉b:=by grind[ru,bF.found]
  rw[g,hd1]at f⊢;have ⟨g1,g2⟩:=xB l (b++[a.x_]) (G_) f;grind
def YP(o:∀C∈N,xY C)(p:xY C)(r:fN (E+3) C)(s:∀e,cT e C<=2001)(i:(gQ N (E+2) ⟨F,0,0⟩ C D).kind=0):gY N (E+2) C/\∃t,gQ N (E+2) ⟨F,0,0⟩ C D=⟨t,0,0⟩:=by
 have ⟨ps,b,hk,hps,hb,_⟩:=p.y_;have u:∀C∈N,C.y_≠[]:=λC p=>by have ⟨ps,b,hk,_⟩:=(o C p).y_;rw[hk];simp
 unfold gQ at i⊢;have y:({(if gM C.x_||!D then bF.found ⟨F,0,0⟩ C.l_ 6 else ⟨F,0,0⟩)with e_:=[]}:bF).kind=0:=(by grind[kX,tA]);have n:({(if gM C.x_||!D then bF.found ⟨F,0,0⟩ C.l_ 6 else ⟨F,0,0⟩)with e_:=[]}:bF)=⟨[],0,0⟩:=by grind[bF.found]
 rw[n,hk,List.foldl_append,ic,List.foldl_nil]at i⊢;have q:(ps.foldl (eO N (E+2)) ⟨[],0,0⟩).kind=0:=(by grind[tA]);have ⟨hpg,c⟩:=xB ps [] hps q;have c:=c List.nodup_nil;rw[ik]at hpg c;rw[hpg]at i⊢;have j:eO N (E+2) ⟨ps.map (·.x_),0,0⟩ b=aR N Wl (E+2) b ⟨ps.map (·.x_),0,0⟩:=by grind[eO,EO.op]
 rw[j]at i⊢;have w:=r b G_;have h:=s (E+3);rw[cT,hk]at h;have k:∀l:List aC,aA l<=(l.map (cT (E+2))).sum:=by intro l;induction l with|nil=>simp|cons x l B=>grind[cT]
 have:=k ps;simp[fo,jn,fi,gg,fu,gt]at h;have ⟨h1,h2⟩:=nX hb.op ((by grind[OY,EO.y_,fN])) G_ i;refine⟨⟨(by grind[sj.up,cO.up]),?_⟩,_,h1⟩;have A:=xD _ _ r;have v:=s (E+3);have z:aA (bJ (aT N (E+2)) (ps.map (·.x_)).reverse b.y_ 0)<=3*(b.y_.map kW).sum:=wL (m:=3) ((by grind[JF])) b.y_ (ps.map (·.x_)).reverse 0;grind[qS,fP]
theorem GG(c:∀f∈N,xY f):∀(a b:List aC) (k:cU),(∀f∈a,f∈N/\fN (E+3) f/\∀e,cT e f<=2001)->(eU N (E+2) b a ⟨k,0,0⟩).kind=0->∀f∈a,gY N (E+2) f|[],_,_,_,_,f,g=>by cases g|n::a,b,k,h,j,f,g=>by rw[eU]at j;have o:(gQ N (E+2) ⟨k,0,0⟩ n (dE b n.x_).isNone).kind=0:=(by grind[LW]);obtain⟨q,m,s⟩:=h n (s_);obtain⟨r,l,p⟩:=YP c (c n q) m s o;rw[p]at j;rcases fe.1 g with rfl|g;exact r;exact GG c a (b++[n]) l (G_) j f g
def OL{e:Nat}{f:aC}:∀{l:List aC},f∈l->cT e f<=(l.map (cT e)).sum|x::l,h=>by simp [fi,fu];rcases fe.1 h with rfl|h;exact Z;have:=OL (e:=e) h;exact Z
def sa.mem(h:sa E N)(a:C∈N):rz E C:=λe=>⟨em (OL a) (h e).1,(h e).2 C a⟩
def SG(b:eA r=.ok N)(c:dP r=(0,0)):(∀f∈N,gY N 2001 f)/\gC N (dU N [109,97,105,110])=Wj 0:=by unfold dP at c;unfold lJ at c;have h:=BQ b;have g:=nC b;have d:∀f∈N,rz 2001 f:=λf e=>g.mem e;grind[GG,nW,gC,uW,rz]
def sa.len(h:sa E N):aA N<=E:=by
 have b:=(h 1).1;have:∀N:List aC,aA N<=(N.map (cT 1)).sum:=by intro N;induction N with|nil=>simp|cons x N a=>grind[cT]
 grind
def rz.y_{m:Nat}(h:rz m C):sa m C.y_:=λe=>by have b:=(h (e+1)).1;simp [cT]at b;exact⟨Z,(h (e+1)).2.2⟩
def FQ(h:C.op≠[115])(c:C.op≠[48])(b:C.y_=[]):∀d,rK d C|0=>trivial|d+1=>(by grind[lG.no,rK])
theorem mL(f:E<=1000000):∀(d:Nat) (a:aC),rz E a->uw a->rK d a
 |0,_,_,_=>trivial|d+1,a,g,i=>by
  refine⟨?_,em g.y_.len f,λk c=>mL f d k (g.y_.mem c) ?_⟩;cases i with|leaf _ h c j=>exact j|many _ h c=>grind[lG]|one _ l h c e=>grind[lG]|two _ l r h c e n=>exact .no ((by grind[cR])) (by grind[cR])
  cases i with|leaf _ h b j=>grind|many _ h b=>grind|one _ l h b e=>grind|two _ l r h b e n=>grind
def QB(j:E<=1000000):∀(d:Nat),(∀a,rz E a->kQ a->rK d a)/\∀t,rz E t->t.op=[98,108,111,99,107]->(∀k∈t.y_,kQ k)->rK d t
 |0=>(by grind[rK])|d+1=>by
  obtain⟨p,u⟩:=QB j d;refine⟨λa g n=>⟨?_,em g.y_.len j,λk e=>?_⟩,λt g q e=>⟨?_,em g.y_.len j,λk b=>p k (g.y_.mem b) (e k b)⟩⟩;cases n<;>rename_i h _<;>exact .no (by simp_all) (by simp_all);have s:=g.y_.mem e;cases n with|var _ t v h b o i=>rw[b]at e;rcases fe.1 e with rfl|e;exact FQ G_ G_ i.2 d;grind[mL]|set _ h y b=>grind[mL]|Dn _ c t h b l i f=>grind[mL]|Dv _ c t x h b l i f w r=>grind[mL]|Dm _ c t h b l i f=>grind[mL]|Bj _ h b=>grind|Bl _ v h b o=>grind[mL]|print _ v h b o=>grind[mL]|call _ c h b l q=>grind[mL]
  grind[lG]
def NF(c:eA r=.ok N):∀f∈N,∀k∈f.y_,kD k:=λf g k a d=>by have hfk:=((nC c).mem g).y_.mem a;obtain⟨m,b,e,n,h,j⟩:=(BQ c f g).y_;rw[e]at a;rcases fg.1 a with a|a;exact FQ G_ G_ (j k a) d;obtain rfl:=hH.1 a;exact(QB Z d).2 _ hfk h.op h.y_
def kI(i:aM):Prop:=(∀v,i=.push v->cP v)/\∀op,i=.unary op->op=[45]\/op=[33]
def sW{c:aC->Nat->List aM}:∀(l:List aC) (p:Nat),(∀a∈l,∀q,∀i∈c a q,e i)->∀i∈bC c l p,e i|[],_,_,i,b=>by cases b|a::l,p,h,i,b=>by rcases fg.1 b with b|b;grind;exact sW l _ (G_) i b
def fL{c:Prop}[Decidable c]{l m:List aM}(b:c->∀i∈l,e i)(a:∀i∈m,e i):∀i∈(if c then l else m),e i:=by grind
def jY{l:List aM}(b:∀i∈l,e i)(a:e z):∀i∈l++[z],e i:=(by grind)
def oJ(f:List aC)(b:cU):∀(d:Nat) (a:aC) (p:Nat),kD a->∀i∈aF f b d a p,kI i|0,_,_,_=>λi c=>by cases c|d+1,a,p,g=>by have j:∀i∈bC (aF f b d) a.y_ p,kI i:=sW _ _ λk j q=>oJ f b d k q (g.uu j);have n:∀x:aM,(∀v,x≠.push v)->(∀m,x≠.unary m)->kI x:=(by grind[kI]);have hs:=λh=>((g 1).1.1 h).2;refine fL ((by grind[cP.num,kI])) ?_;refine fL ((by grind[cP.str,kI])) ?_;refine fL ((by grind[cP.yj,kI])) ?_;refine fL (G_) ?_;refine fL (G_) ?_;refine fL (G_) ?_;refine fL ((by grind[kI])) ?_;refine fL ((by grind[kI])) ?_;refine fL (λ_=>jY j ?_) ?_;grind;refine fL (λ_=>?_) (G_);split;rename_i l r e;refine jY (λi c=>?_) (G_);rcases fg.1 c with c|c;exact jY (oJ f b d l _ (g.uu G_)) (G_) i c;exact oJ f b d r _ (g.uu G_) i c;simp
def wN{c:cU->aC->Nat->List aM×cU}:∀(l:List aC) (b:cU) (p:Nat),(∀a∈l,∀s q,∀i∈(c s a q).1,e i)->∀i∈bJ c b l p,e i|[],_,_,_,i,d=>by cases d|a::l,b,p,h,i,d=>by rcases fg.1 d with d|d;grind;exact wN l _ _ (G_) i d
def VX(e:List aC):∀(d:Nat) (b:cU) (a:aC) (p:Nat),kD a->∀i∈(aT e d b a p).1,kI i|0,_,_,_,_,i,c=>by cases c|d+1,b,a,p,g,i,c=>by have j:∀{k:aC}{q:Nat},k∈a.y_->i∈aF e b d k q->kI i:=λf h=>oJ e b d _ _ (g.uu f) i h;have m:∀{k:aC}{q:Nat},k∈a.y_->i∈bJ (aT e d) b k.y_ q->kI i:=λf h=>wN _ _ _ (λx j s q=>VX e d s x q ((g.uu f).uu j)) i h;have n:∀{x:aM},(∀v,x≠.push v)->(∀l,x≠.unary l)->i=x->kI i:=(by grind[kI]);rw[aT]at c;split at c;grind;split at c;simp at c;rcases c with h|h|h;grind;exact sW _ _ (λk f q=>oJ e b d k q (g.uu f)) i h;grind;grind[cP.num,kI]
def F7(h:∀f∈N,∀k∈f.y_,kD k):lN (dW N E):=λg n=>by
 obtain⟨f,l,rfl⟩:=ig.1 n;have e:∀i∈(fP N E f).code,kI i:=λi a=>by
  simp [fP,jo]at a;rcases a with a|rfl|rfl;cases j:f.y_.getLast? with|none=>rw[j]at a;cases a|some b=>rw[j]at a;exact wN _ _ _ (λk m s q=>VX N E s k q ((h f l b (G_)).uu m)) i a
  grind[cP.num,kI];grind[kI]
 grind[xX,kI]
