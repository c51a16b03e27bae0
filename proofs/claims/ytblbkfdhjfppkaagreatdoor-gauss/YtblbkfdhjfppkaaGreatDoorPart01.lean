/- Contracts of the document's answer: all tokens. -/
import Derived.Test.YtblbkfdhjfppkaaGreatDoorPart00
import Derived.Deep.RegionHeld3
import Derived.Deep.AppendLies
import Derived.Deep.DrawnRows
import Derived.Deep.LoopGhost
import Derived.Laws.IdiomStrings
import Derived.Deep.RegionLaw
import Derived.Deep.DeepCutAuto
set_option maxRecDepth 100000
namespace Go.Proofs.YtblbkfdhjfppkaaGreatDoor
open Hs
open Go.RowKit
theorem ZA(s:ByteArray)(k f:Nat)(hk:k<s.size)(hok:(bU (s.data.toList.drop k)).ok=true)(m:Nat)
 (hm:m=k+(bU (s.data.toList.drop k)).size+Hs.blankL s.size (s.data.toList.drop (k+(bU (s.data.toList.drop k)).size))):
 eD (f+1) (s.data.toList.take k) (s.data.toList.drop k)=
  gV [{ sort:=(bU (s.data.toList.drop k)).sort,text:=(bU (s.data.toList.drop k)).text,line:=aZ (s.data.toList.take k) }] (eD f (s.data.toList.take m) (s.data.toList.drop m)):=by
 have hl:(s.data.toList.drop k).length=s.size-k:=by simp
 have hsz:=sS _ hok
 rw[kV f _ _ (by omega) hok (m-k) (by
  rw[hl,List.drop_drop,hm,BX s.size (s.size-k) _ (by simp) (by simp;omega)];omega)]
 rw[List.drop_drop,show k+(m-k)=m by omega,←List.take_add,show k+(m-k)=m by omega]
theorem iA{w w1:World}{b:Nat}{e:TypeId}{size:Nat}{v:Value}{n:Nat}{xs:List Value}(h:w.ownsRow b e size v n xs)(hb:Below w.heap.size w w1):w1.ownsRow b e size v n xs:=by
 refine⟨h.1,?_⟩;rcases h.2 with h2|⟨g,cap,cur,h1,h2,h3,h4⟩
 ·exact Or.inl h2
 ·refine Or.inr ⟨g,cap,cur,h1,h2,?_,h4⟩;rw[hb.block g ?_];exact h3;by_cases hx:g<w.heap.size
  ·exact hx
  ·rw[Array.getElem?_eq_none (by omega)] at h3;cases h3
theorem bX{w:World}{b:Nat}{e:TypeId}{size:Nat}{v:Value}{n:Nat}{xs:List Value}(h:w.ownsRow b e size v n xs):∀k,v.ownBlock=some k→b≤k:=by
 intro k hk;rcases h.2 with ⟨rfl,_⟩|⟨g,cap,cur,rfl,h2,_⟩
 ·cases hk
 ·have:g=k:=Option.some.inj hk;omega
theorem aB{p:Prop}(h:p):Hid p:=h
structure Ctx where
 pb:Nat
 g:Nat
 cap:Nat
 ts:List aV
structure Fr(pb:Nat)(w w':World):Prop where
 os:w'.os=w.os
 tape:w'.tape=w.tape
 output:w'.output=w.output
 size:w.heap.size≤w'.heap.size
 block:∀k,k<w.heap.size→k≠pb→w'.heap[k]?=w.heap[k]?
theorem Fr.refl(pb:Nat)(w:World):Fr pb w w:=⟨rfl,rfl,rfl,Nat.le_refl _,fun _ _ _=>rfl⟩
theorem Fr.trans{pb:Nat}{a b c:World}(h:Fr pb a b)(k:Fr pb b c):Fr pb a c:=
 ⟨k.os.trans h.os,k.tape.trans h.tape,k.output.trans h.output,Nat.le_trans h.size k.size,fun i hi hn=>(k.block i (Nat.lt_of_lt_of_le hi h.size) hn).trans (h.block i hi hn)⟩
theorem Fr.below{pb:Nat}{w w':World}(h:Below w.heap.size w w'):Fr pb w w':=⟨h.os,h.tape,h.output,h.size,fun k hk _=>h.block k hk⟩
theorem Fr.drew{pb:Nat}{a w:World}(h:Fr pb a w):Fr pb a w.drew:=⟨h.os,h.tape,h.output,h.size,h.block⟩
theorem Fr.drewN{pb:Nat}{a w:World}(h:Fr pb a w)(n:Nat):Fr pb a (w.drewN n):=⟨h.os,h.tape,h.output,h.size,h.block⟩
theorem Fr.alloc{pb:Nat}{a w:World}(h:Fr pb a w)(o:Obj):Fr pb a (w.alloc o):=h.trans (Fr.below ((Below.refl _ _).alloc (Nat.le_refl _) _))
theorem Fr.setCell{pb:Nat}{a w:World}(h:Fr pb a w){p:Addr}(hp:p.block=pb∨a.heap.size≤p.block)(u:Value):Fr pb a (w.setCell p u):=
 ⟨h.os,h.tape,h.output,by have:=h.size;simpa [World.setCell] using this,fun k hk hn=>by rw[Below.heap_setCell _ _ _ _ (by omega)];exact h.block k hk hn⟩
theorem aD{w:World}{b:Nat}{o:Obj}(h:w.heap[b]?=some o):b<w.heap.size:=by
 by_cases hx:b<w.heap.size
 ·exact hx
 ·rw[Array.getElem?_eq_none (by omega)] at h;cases h
theorem aA{w:World}{b i:Nat}{c:Array Value}{e:TypeId}(h:w.heap[b]?=some (.cells c e (0,0))){v:Value}(hv:c[i]?=some v):w.cell? ⟨b,i,none⟩=some v:=by
 simp[World.cell?,h,hv]
theorem aE{w:World}{b i:Nat}{c:Array Value}{e:TypeId}(h:w.heap[b]?=some (.cells c e (0,0))):w.frozen? ⟨b,i,none⟩=false:=by
 simp[World.frozen?,h]
theorem aQ{w:World}{b i:Nat}{c:Array Value}{e:TypeId}{f:Nat × Nat}(h:w.heap[b]?=some (.cells c e f)){u:Value}:(w.setCell ⟨b,i,none⟩ u).heap[b]?=some (.cells (c.setIfInBounds i u) e f):=by
 simp[World.setCell,Array.getElem?_modify,h]
def jH(R:Value→aC→Prop):List Value→List aC→Prop
 |[],[]=>True
 |v::vs,a::ks=>R v a∧jH R vs ks
 |_,_=>False
theorem jH.mono{R S:Value→aC→Prop}(h:∀v a,R v a→S v a):∀{vs ks},jH R vs ks→jH S vs ks
 |[],[],_=>trivial
 |_::_,_::_,⟨h1,h2⟩=>⟨h _ _ h1,jH.mono h h2⟩
 |[],_::_,h=>h.elim
 |_::_,[],h=>h.elim
theorem jH.snoc{R:Value→aC→Prop}:∀{vs ks} {v a},jH R vs ks→R v a→jH R (vs++[v]) (ks++[a])
 |[],[],_,_,_,h=>⟨h,trivial⟩
 |_::_,_::_,_,_,⟨h1,h2⟩,h=>⟨h1,jH.snoc h2 h⟩
 |[],_::_,_,_,h,_=>h.elim
 |_::_,[],_,_,h,_=>h.elim
def Btw(lo hi:Nat)(b:Nat):Prop:=lo≤b∧b<hi
theorem aY{w w1:World}{b:Nat}{e:TypeId}{size:Nat}{v:Value}{n:Nat}{xs:List Value}(h:w.ownsRow b e size v n xs)(hb:∀k,v.ownBlock=some k→w1.heap[k]?=w.heap[k]?):w1.ownsRow b e size v n xs:=by
 refine⟨h.1,?_⟩;rcases h.2 with h2|⟨g,cap,cur,h1,h2,h3,h4⟩
 ·exact Or.inl h2
 ·refine Or.inr ⟨g,cap,cur,h1,h2,?_,h4⟩;rw[hb g (by rw[h1];rfl)];exact h3
theorem cG{w:World}{b:Nat}{e:TypeId}{size:Nat}{v:Value}{n:Nat}{xs:List Value}(h:w.ownsRow b e size v n xs):∀k,v.ownBlock=some k→k<w.heap.size:=by
 intro k hk;rcases h.2 with ⟨rfl,_⟩|⟨g,cap,cur,rfl,h2,h3,_⟩
 ·cases hk
 ·have:g=k:=Option.some.inj hk;subst this;exact aD h3
theorem Fr.grown{pb:Nat}{a w w':World}{row:Option Nat}(h:Fr pb a w)(hg:w.grownBy w' row)(hr:∀k,row=some k→a.heap.size≤k):Fr pb a w':=
 ⟨hg.os.trans h.os,hg.tape.trans h.tape,hg.output.trans h.output,Nat.le_trans h.size hg.size,fun k hk hn=>by
   rw[hg.block k (Nat.lt_of_lt_of_le hk h.size) (fun e=>by have:=hr k e.symm;omega)];exact h.block k hk hn⟩
theorem aR(X:World)(n:Nat)(hn:n=X.heap.size)(o1:Obj):(X.alloc o1).heap[n]?=some o1:=by
 subst hn;show (X.heap.push o1)[X.heap.size]?=_
 rw[Array.getElem?_push,if_pos rfl]
theorem nW(X:World)(n:Nat)(hn:n<X.heap.size)(o:Obj){b:Option Obj}(h:X.heap[n]?=b):(X.alloc o).heap[n]?=b:=by
 rw[Below.heap_alloc _ _ _ hn];exact h
theorem vO{w w':World}{b i:Nat}(h:w'.heap[b]?=w.heap[b]?):w'.cell? ⟨b,i,none⟩=w.cell? ⟨b,i,none⟩:=by simp[World.cell?,h]
def jR(l:List (List UInt8)):List Value:=l.map fun x=>.string (bs x)
theorem TO:(Tryz.prog.info? 9).map (fun i=>(i.zero,i.size,i.bytes))=some (some (.string (bs [])),1,16):=by kernel_rfl
theorem jH.get{R:Value→aC→Prop}:∀{vs ks} (i:Nat) (hi:i<ks.length),jH R vs ks→∃v,vs[i]?=some v∧R v ks[i]
 |v::vs,a::ks,0,_,h=>⟨v,rfl,h.1⟩
 |v::vs,a::ks,i+1,hi,h=>by
  obtain⟨u,h1,h2⟩:=jH.get (vs:=vs) (ks:=ks) i (by simpa using hi) h.2
  exact⟨u,by simpa using h1,by simpa using h2⟩
 |[],_::_,_,_,h=>h.elim
 |_::_,[],_,hi,_=>by simp at hi
 |[],[],_,hi,_=>by simp at hi
theorem mL(s:aX)(l k:Nat):(s.found l k).seen=s.seen:=by
 unfold aX.found;split<;>rfl
theorem SQ{fs:List aC}{alone:Bool}{s:aX}{a:aC}{W:Int}(h:kX fs alone a.text=W)(h0:W<0):dX fs alone s a=s.found a.line 6:=by
 unfold dX;rw[h,if_pos h0]
theorem YH{fs:List aC}{alone:Bool}{s:aX}{a:aC}{W:Int}(h:kX fs alone a.text=W)(h0:¬W<0)(h1:W≠(a.kids.length:Int)):dX fs alone s a=s.found a.line 7:=by
 unfold dX;rw[h,if_neg h0,if_pos h1]
theorem YI{fs:List aC}{alone:Bool}{s:aX}{a:aC}{W:Int}(h:kX fs alone a.text=W)(h0:¬W<0)(h1:W=(a.kids.length:Int)):dX fs alone s a=s:=by
 unfold dX;rw[h,if_neg h0,if_neg (by simpa using h1)]
end Go.Proofs.YtblbkfdhjfppkaaGreatDoor
