/- Contracts of the document's answer, the first part: lines, characters. -/
import Derived.Test.YtblbkfdhjfppkaaGreatDoorB01
import Derived.Test.YtblbkfdhjfppkaaGreatDoorP00
set_option maxRecDepth 100000
namespace Go.Proofs.YtblbkfdhjfppkaaGreatDoor
open Hs
open Go.RowKit
theorem UQ(s:ByteArray)(k:Nat)(h:k<s.size):s.data.toList.take (k+1)=s.data.toList.take k++[s[k]]:=by
 rw[List.take_succ_eq_append_getElem (by simpa using h)];rfl
theorem TE{k:IntKind}{a b:Int}(h:a=b):Ending.returned (.int k a)=.returned (.int k b):=by rw[h]
theorem iJ{a b:Bool}(h:a=b):Ending.returned (.bool a)=.returned (.bool b):=by rw[h]
theorem O5(c d:UInt8):(c=d)↔((c.toNat:Int)=(d.toNat:Int)):=by
 rw[←UInt8.toNat_inj];omega
theorem mR(c:UInt8):(c.toNat:Int)≤255:=by have:=c.toNat_lt;omega
theorem xY(s:ByteArray)(k:Nat)(h:k<s.size):s.data.toList[k]?=some s[k]:=by
 simp[h];rfl
theorem DM(s:ByteArray)(n i:Nat)(h:n+i<s.size):(s.data.toList.drop n)[i]?=some s[n+i]:=by
 rw[List.getElem?_drop];exact xY s _ h
theorem RO{l:List UInt8}{i lo hi:Nat}(h:cY l i lo hi=true):i<l.length:=by
 unfold cY at h;by_cases hi':i<l.length
 ·exact hi'
 ·rw[List.getElem?_eq_none (by omega)] at h;cases h
theorem YA(l:List UInt8):bD l≤l.length:=by
 unfold bD;split
 ·omega
 ·rename_i b hb
  have h0:0<l.length:=by
   by_cases h:0<l.length
   ·exact h
   ·rw[List.getElem?_eq_none (by omega)] at hb;cases hb
  repeat' split
  all_goals first
   |omega
   |(have:=RO ‹cY l 1 _ _=true›;omega)
   |(have h:=‹(cY l 1 _ _ && cY l 2 _ _)=true›
     simp only[Bool.and_eq_true] at h;have:=RO h.2;omega)
   |(have h:=‹(cY l 1 _ _ && cY l 2 _ _ && cY l 3 _ _)=true›
     simp only[Bool.and_eq_true] at h;have:=RO h.2;omega)
theorem GT(l:List UInt8)(p f:Nat)(h:0<l.length)(hc:bD l≠0):dJ (f+1) l p=dJ f (l.drop (bD l)) (p+bD l):=by
 rw[dJ,if_neg (by omega),if_neg hc]
theorem KY(l:List UInt8)(p f:Nat)(h:0<l.length)(hc:bD l=0):dJ (f+1) l p=some p:=by
 rw[dJ,if_neg (by omega),if_pos hc]
theorem KX(l:List UInt8)(p f:Nat)(h:l.length=0):dJ f l p=none:=by
 cases f with
 |zero=>rfl
 |succ f=>rw[dJ,if_pos h]
theorem lE(x l:List UInt8)(h:x.length≤l.length):x.isPrefixOf l=(l.take x.length==x):=by
 induction x generalizing l with
 |nil=>simp
 |cons a x ih=>
  cases l with
  |nil=>simp at h
  |cons b l=>
   simp only[List.isPrefixOf,List.length_cons,List.take_succ_cons,List.cons_beq_cons];rw[ih l (by simpa using h),show (a==b)=(b==a) from Bool.beq_comm]
theorem xW(x l:List UInt8)(h:l.length<x.length):x.isPrefixOf l=false:=by
 rw[Bool.eq_false_iff];intro hh;have:=(List.isPrefixOf_iff_prefix.1 hh).length_le;omega
theorem jW(s:ByteArray)(k:Nat)(h:k<s.size):s.data.toList.drop k=s[k]::s.data.toList.drop (k+1):=by
 rw[List.drop_eq_getElem_cons (by simpa using h)];rfl
theorem ST(f:Nat):Hs.blankL f []=0:=by cases f<;>rfl
theorem JT(f:Nat)(c:UInt8)(r:List UInt8)(h:c.toNat=32∨c.toNat=9∨c.toNat=10):Hs.blankL (f+1) (c::r)=Hs.blankL f r+1:=by
 rw[Hs.blankL,if_pos h]
theorem ED(f:Nat)(c:UInt8)(r:List UInt8)(h:¬(c.toNat=32∨c.toNat=9∨c.toNat=10))(h2:cJ (c::r) [47,47]=true):
 Hs.blankL (f+1) (c::r)=bI dZ (c::r)+Hs.blankL f ((c::r).drop (bI dZ (c::r))):=by
 rw[Hs.blankL,if_neg h,if_pos h2]
theorem OO(f:Nat)(c:UInt8)(r:List UInt8)(h:¬(c.toNat=32∨c.toNat=9∨c.toNat=10))(h2:cJ (c::r) [47,47]=false):
 Hs.blankL (f+1) (c::r)=0:=by
 rw[Hs.blankL,if_neg h,if_neg (by rw[h2];simp)]
theorem qE(p:UInt8→Bool)(c:UInt8)(r:List UInt8)(h:p c=true):bI p (c::r)=bI p r+1:=by rw[bI,if_pos h]
theorem KZ(p:UInt8→Bool)(c:UInt8)(r:List UInt8)(h:p c=false):bI p (c::r)=0:=by rw[bI,if_neg (by rw[h];simp)]
theorem VW(b:UInt8):dZ b=((b.toNat:Int) != 10):=by
 unfold dZ;rw[Bool.eq_iff_iff];simp;omega
def bs(l:List UInt8):ByteArray:=⟨l.toArray⟩
theorem iV(l:List UInt8):(bs l).data.toList=l:=by simp[bs]
theorem gX(l:List UInt8):(bs l).size=l.length:=by simp[bs,ByteArray.size]
theorem E6{a b:ByteArray}(h:a.data.toList=b.data.toList):a=b:=by
 cases a;cases b;simp only at h;congr 1;exact Array.toList_inj.1 h
theorem BD(s:ByteArray)(a b:Nat):s.extract a b=bs ((s.data.toList.drop a).take (b-a)):=
 E6 (by rw[Lib.extract_data,iV])
theorem bZ(l:List UInt8):(bs l).toList=l:=by rw[Lib.toList_data,iV]
theorem qF(p:UInt8→Bool)(l:List UInt8):∀c∈l.take (bI p l),p c=true:=by
 induction l with
 |nil=>simp
 |cons a r ih=>
  intro c hc;by_cases h:p a=true
  ·rw[qE _ _ _ h,List.take_succ_cons] at hc;rcases List.mem_cons.1 hc with rfl|hc
   ·exact h
   ·exact ih c hc
  ·rw[KZ _ _ _ (by simpa using h)] at hc;simp at hc
theorem bcell{W w1:World}(hb:Below W.heap.size W w1):(∀b o,b<W.heap.size→w1.cell? ⟨b,o,none⟩=W.cell? ⟨b,o,none⟩)∧(∀b o,b<W.heap.size→w1.frozen? ⟨b,o,none⟩=W.frozen? ⟨b,o,none⟩):=
 ⟨fun b o h=>hb.cell (p:=⟨b,o,none⟩) h,fun b o h=>hb.frozen (p:=⟨b,o,none⟩) h⟩
theorem IL:∀k (h:k<21),(cI[k]'(by simpa [cI] using h)).length≤2:=by decide
def uZ(l:List UInt8)(k:Nat):Prop:=∀o∈cI.take k,cJ l o=false
theorem MA{l:List UInt8}{k:Nat}(h:k<21)(hn:uZ l k)(hk:cJ l (cI[k]'(by simpa [cI] using h))=false):uZ l (k+1):=by
 intro o ho;rw[List.take_succ_eq_append_getElem (by simpa [cI] using h)] at ho
 rcases List.mem_append.1 ho with ho|ho
 ·exact hn o ho
 ·rw[List.mem_singleton.1 ho];exact hk
theorem QL{l:List UInt8}{k:Nat}(h:k<21)(hn:uZ l k)(q:List UInt8)(hq:q=cI[k]'(by simpa [cI] using h))(hk:cJ l q=true):
 gA l={ sort:=112,text:=q,size:=q.length,ok:=true }:=by
 have e:cI.find? (fun o=>cJ l o)=some q:=by
  rw[List.find?_eq_some_iff_getElem];refine⟨hk,k,by simpa [cI] using h,hq.symm,fun j hj=>?_⟩
  have:=hn (cI[j]'(by have:cI.length=21:=rfl;omega)) (by
   rw[List.mem_take_iff_getElem];exact⟨j,by have:cI.length=21:=rfl;omega,rfl⟩)
  simp[this]
 unfold gA;rw[e]
theorem LU{l:List UInt8}(hn:uZ l 21):gA l={ sort:=0,text:=[],size:=0,ok:=false }:=by
 have e:cI.find? (fun o=>cJ l o)=none:=by
  rw[List.find?_eq_none];intro o ho;rw[hn o (by rw[List.take_of_length_le (by decide)];exact ho)];simp
 unfold gA;rw[e]
theorem ZA(s:ByteArray)(k f:Nat)(hk:k<s.size)(hok:(bU (s.data.toList.drop k)).ok=true)(m:Nat)
 (hm:m=k+(bU (s.data.toList.drop k)).size+Hs.blankL s.size (s.data.toList.drop (k+(bU (s.data.toList.drop k)).size))):
 eD (f+1) (s.data.toList.take k) (s.data.toList.drop k)=
  gV [{ sort:=(bU (s.data.toList.drop k)).sort,text:=(bU (s.data.toList.drop k)).text,line:=aZ (s.data.toList.take k) }] (eD f (s.data.toList.take m) (s.data.toList.drop m)):=by
 have hl:(s.data.toList.drop k).length=s.size-k:=by simp
 have hsz:=sS _ hok
 rw[kV f _ _ (by omega) hok (m-k) (by
  rw[hl,List.drop_drop,hm,BX s.size (s.size-k) _ (by simp) (by simp;omega)];omega)]
 rw[List.drop_drop,show k+(m-k)=m by omega,←List.take_add,show k+(m-k)=m by omega]
theorem iA{w w1:World}{b:Nat}{e:TypeId}{size:Nat}{v:Value}{n:Nat}{xs:List Value}(h:w.ownsRow b e size v n xs)(hb:Below w.heap.size w w1):w1.ownsRow b e size v n xs:=by
 refine⟨h.1,?_⟩;rcases h.2 with h2|⟨g,cap,cur,h1,h2,h3,h4⟩
 ·exact Or.inl h2
 ·refine Or.inr ⟨g,cap,cur,h1,h2,?_,h4⟩;rw[hb.block g ?_];exact h3;by_cases hx:g<w.heap.size
  ·exact hx
  ·rw[Array.getElem?_eq_none (by omega)] at h3;cases h3
theorem bX{w:World}{b:Nat}{e:TypeId}{size:Nat}{v:Value}{n:Nat}{xs:List Value}(h:w.ownsRow b e size v n xs):∀k,v.ownBlock=some k→b≤k:=by
 intro k hk;rcases h.2 with ⟨rfl,_⟩|⟨g,cap,cur,rfl,h2,_⟩
 ·cases hk
 ·have:g=k:=Option.some.inj hk;omega
theorem aB{p:Prop}(h:p):Hid p:=h
structure Ctx where
 pb:Nat
 g:Nat
 cap:Nat
 ts:List aV
structure Fr(pb:Nat)(w w':World):Prop where
 os:w'.os=w.os
 tape:w'.tape=w.tape
 output:w'.output=w.output
 size:w.heap.size≤w'.heap.size
 block:∀k,k<w.heap.size→k≠pb→w'.heap[k]?=w.heap[k]?
theorem Fr.refl(pb:Nat)(w:World):Fr pb w w:=⟨rfl,rfl,rfl,Nat.le_refl _,fun _ _ _=>rfl⟩
theorem Fr.trans{pb:Nat}{a b c:World}(h:Fr pb a b)(k:Fr pb b c):Fr pb a c:=
 ⟨k.os.trans h.os,k.tape.trans h.tape,k.output.trans h.output,Nat.le_trans h.size k.size,fun i hi hn=>(k.block i (Nat.lt_of_lt_of_le hi h.size) hn).trans (h.block i hi hn)⟩
theorem Fr.below{pb:Nat}{w w':World}(h:Below w.heap.size w w'):Fr pb w w':=⟨h.os,h.tape,h.output,h.size,fun k hk _=>h.block k hk⟩
theorem Fr.drew{pb:Nat}{a w:World}(h:Fr pb a w):Fr pb a w.drew:=⟨h.os,h.tape,h.output,h.size,h.block⟩
theorem Fr.drewN{pb:Nat}{a w:World}(h:Fr pb a w)(n:Nat):Fr pb a (w.drewN n):=⟨h.os,h.tape,h.output,h.size,h.block⟩
theorem Fr.alloc{pb:Nat}{a w:World}(h:Fr pb a w)(o:Obj):Fr pb a (w.alloc o):=h.trans (Fr.below ((Below.refl _ _).alloc (Nat.le_refl _) _))
theorem Fr.setCell{pb:Nat}{a w:World}(h:Fr pb a w){p:Addr}(hp:p.block=pb∨a.heap.size≤p.block)(u:Value):Fr pb a (w.setCell p u):=
 ⟨h.os,h.tape,h.output,by have:=h.size;simpa [World.setCell] using this,fun k hk hn=>by rw[Below.heap_setCell _ _ _ _ (by omega)];exact h.block k hk hn⟩
theorem aD{w:World}{b:Nat}{o:Obj}(h:w.heap[b]?=some o):b<w.heap.size:=by
 by_cases hx:b<w.heap.size
 ·exact hx
 ·rw[Array.getElem?_eq_none (by omega)] at h;cases h
theorem aA{w:World}{b i:Nat}{c:Array Value}{e:TypeId}(h:w.heap[b]?=some (.cells c e (0,0))){v:Value}(hv:c[i]?=some v):w.cell? ⟨b,i,none⟩=some v:=by
 simp[World.cell?,h,hv]
theorem aE{w:World}{b i:Nat}{c:Array Value}{e:TypeId}(h:w.heap[b]?=some (.cells c e (0,0))):w.frozen? ⟨b,i,none⟩=false:=by
 simp[World.frozen?,h]
theorem aQ{w:World}{b i:Nat}{c:Array Value}{e:TypeId}{f:Nat × Nat}(h:w.heap[b]?=some (.cells c e f)){u:Value}:(w.setCell ⟨b,i,none⟩ u).heap[b]?=some (.cells (c.setIfInBounds i u) e f):=by
 simp[World.setCell,Array.getElem?_modify,h]
def jH(R:Value→aC→Prop):List Value→List aC→Prop
 |[],[]=>True
 |v::vs,a::ks=>R v a∧jH R vs ks
 |_,_=>False
theorem jH.mono{R S:Value→aC→Prop}(h:∀v a,R v a→S v a):∀{vs ks},jH R vs ks→jH S vs ks
 |[],[],_=>trivial
 |_::_,_::_,⟨h1,h2⟩=>⟨h _ _ h1,jH.mono h h2⟩
 |[],_::_,h=>h.elim
 |_::_,[],h=>h.elim
theorem jH.snoc{R:Value→aC→Prop}:∀{vs ks} {v a},jH R vs ks→R v a→jH R (vs++[v]) (ks++[a])
 |[],[],_,_,_,h=>⟨h,trivial⟩
 |_::_,_::_,_,_,⟨h1,h2⟩,h=>⟨h1,jH.snoc h2 h⟩
 |[],_::_,_,_,h,_=>h.elim
 |_::_,[],_,_,h,_=>h.elim
def Btw(lo hi:Nat)(b:Nat):Prop:=lo≤b∧b<hi
end Go.Proofs.YtblbkfdhjfppkaaGreatDoor
