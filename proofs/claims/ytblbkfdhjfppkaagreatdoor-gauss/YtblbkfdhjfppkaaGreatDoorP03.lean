/- A list of nodes that is being gathered. -/
import Derived.Test.YtblbkfdhjfppkaaGreatDoorP02
set_option maxRecDepth 100000
namespace Go.Proofs.YtblbkfdhjfppkaaGreatDoor
open Hs
open Go.RowKit
theorem aY{w w1:World}{b:Nat}{e:TypeId}{size:Nat}{v:Value}{n:Nat}{xs:List Value}(h:w.ownsRow b e size v n xs)(hb:∀k,v.ownBlock=some k→w1.heap[k]?=w.heap[k]?):w1.ownsRow b e size v n xs:=by
 refine⟨h.1,?_⟩;rcases h.2 with h2|⟨g,cap,cur,h1,h2,h3,h4⟩
 ·exact Or.inl h2
 ·refine Or.inr ⟨g,cap,cur,h1,h2,?_,h4⟩;rw[hb g (by rw[h1];rfl)];exact h3
theorem cG{w:World}{b:Nat}{e:TypeId}{size:Nat}{v:Value}{n:Nat}{xs:List Value}(h:w.ownsRow b e size v n xs):∀k,v.ownBlock=some k→k<w.heap.size:=by
 intro k hk;rcases h.2 with ⟨rfl,_⟩|⟨g,cap,cur,rfl,h2,h3,_⟩
 ·cases hk
 ·have:g=k:=Option.some.inj hk;subst this;exact aD h3
theorem Fr.grown{pb:Nat}{a w w':World}{row:Option Nat}(h:Fr pb a w)(hg:w.grownBy w' row)(hr:∀k,row=some k→a.heap.size≤k):Fr pb a w':=
 ⟨hg.os.trans h.os,hg.tape.trans h.tape,hg.output.trans h.output,Nat.le_trans h.size hg.size,fun k hk hn=>by
   rw[hg.block k (Nat.lt_of_lt_of_le hk h.size) (fun e=>by have:=hr k e.symm;omega)];exact h.block k hk hn⟩
theorem aR(X:World)(n:Nat)(hn:n=X.heap.size)(o1:Obj):(X.alloc o1).heap[n]?=some o1:=by
 subst hn;show (X.heap.push o1)[X.heap.size]?=_
 rw[Array.getElem?_push,if_pos rfl]
theorem nW(X:World)(n:Nat)(hn:n<X.heap.size)(o:Obj){b:Option Obj}(h:X.heap[n]?=b):(X.alloc o).heap[n]?=b:=by
 rw[Below.heap_alloc _ _ _ hn];exact h
theorem vO{w w':World}{b i:Nat}(h:w'.heap[b]?=w.heap[b]?):w'.cell? ⟨b,i,none⟩=w.cell? ⟨b,i,none⟩:=by simp[World.cell?,h]
def jR(l:List (List UInt8)):List Value:=l.map fun x=>.string (bs x)
theorem TO:(Tryz.prog.info? 9).map (fun i=>(i.zero,i.size,i.bytes))=some (some (.string (bs [])),1,16):=by kernel_rfl
theorem jH.get{R:Value→aC→Prop}:∀{vs ks} (i:Nat) (hi:i<ks.length),jH R vs ks→∃v,vs[i]?=some v∧R v ks[i]
 |v::vs,a::ks,0,_,h=>⟨v,rfl,h.1⟩
 |v::vs,a::ks,i+1,hi,h=>by
  obtain⟨u,h1,h2⟩:=jH.get (vs:=vs) (ks:=ks) i (by simpa using hi) h.2
  exact⟨u,by simpa using h1,by simpa using h2⟩
 |[],_::_,_,_,h=>h.elim
 |_::_,[],_,hi,_=>by simp at hi
 |[],[],_,hi,_=>by simp at hi
theorem mL(s:aX)(l k:Nat):(s.found l k).seen=s.seen:=by
 unfold aX.found;split<;>rfl
theorem SQ{fs:List aC}{alone:Bool}{s:aX}{a:aC}{W:Int}(h:kX fs alone a.text=W)(h0:W<0):dX fs alone s a=s.found a.line 6:=by
 unfold dX;rw[h,if_pos h0]
theorem YH{fs:List aC}{alone:Bool}{s:aX}{a:aC}{W:Int}(h:kX fs alone a.text=W)(h0:¬W<0)(h1:W≠(a.kids.length:Int)):dX fs alone s a=s.found a.line 7:=by
 unfold dX;rw[h,if_neg h0,if_pos h1]
theorem YI{fs:List aC}{alone:Bool}{s:aX}{a:aC}{W:Int}(h:kX fs alone a.text=W)(h0:¬W<0)(h1:W=(a.kids.length:Int)):dX fs alone s a=s:=by
 unfold dX;rw[h,if_neg h0,if_neg (by simpa using h1)]
theorem RH(fs:List aC)(alone:Bool)(s:aX)(n:aC):(bY fs alone s n).seen=s.seen:=by
 unfold bY dX;repeat' split
 all_goals first|rfl|exact mL _ _ _
theorem mF(s:aX)(n:aC):(Hs.declaresL s n).seen=s.seen:=by
 unfold Hs.declaresL;split
 ·exact mL _ _ _
 ·rfl
def Adds(s s':aX)(m:Nat):Prop:=∃t,s'.seen=s.seen++t∧t.length≤m
theorem Adds.refl(s:aX):Adds s s 0:=⟨[],by simp,Nat.le_refl _⟩
theorem Adds.trans{a b c:aX}{m n:Nat}(h:Adds a b m)(k:Adds b c n):Adds a c (m+n):=by
 obtain⟨t,h1,h2⟩:=h;obtain⟨u,k1,k2⟩:=k;exact⟨t++u,by rw[k1,h1,List.append_assoc],by simp;omega⟩
theorem Adds.le{a b:aX}{m n:Nat}(h:Adds a b m)(hn:m≤n):Adds a b n:=by
 obtain⟨t,h1,h2⟩:=h;exact⟨t,h1,by omega⟩
theorem Adds.of_eq{a b:aX}(h:b.seen=a.seen):Adds a b 0:=⟨[],by simp[h],Nat.le_refl _⟩
theorem Adds.fold{f:aX→aC→aX}{g:aC→Nat}(h:∀s k,Adds s (f s k) (g k)):∀(l:List aC) (s:aX),Adds s (l.foldl f s) (l.map g).sum
 |[],s=>Adds.refl s
 |k::l,s=>by
  rw[List.foldl_cons,List.map_cons,List.sum_cons];exact(h s k).trans (Adds.fold h l _)
theorem fM(fs:List aC)(alone:Bool):∀(d:Nat) (n:aC) (s:aX),Adds s (aM fs alone d n s) (bS d n)
 |0,n,s=>Adds.refl s
 |d+1,n,s=>by
  rw[aM,bS];split
  ·match hn:n.kids with
   |t::v::r=>
    simp only;have h1:Adds s (Hs.declaresL s t) 0:=Adds.of_eq (mF s t);obtain⟨u,h2,h3⟩:=h1.trans (fM fs alone d v (Hs.declaresL s t));exact⟨u++[t.text],by simp[h2],by simp;omega⟩
   |[]=>exact(Adds.refl s).le (by omega)
   |[_]=>exact(Adds.refl s).le (by omega)
  ·have h1:Adds s (bY fs alone s n) 0:=Adds.of_eq (RH fs alone s n);have h2:=h1.trans (Adds.fold (f:=fun s k=>aM fs alone d k s) (g:=bS d) (fun s k=>fM fs alone d k s) n.kids (bY fs alone s n))
   split
   ·obtain⟨u,h3,h4⟩:=h2;exact⟨[],by simp[h3],by simp⟩
   ·exact h2.le (by omega)
theorem sC{f:aC→Nat}{k:aC}:∀{l:List aC},k∈l→f k≤(l.map f).sum
 |[],h=>by cases h
 |x::l,h=>by
  simp only[List.map_cons,List.sum_cons];rcases List.mem_cons.1 h with rfl|h
  ·omega
  ·have:=sC (f:=f) h;omega
theorem KS{w:World}{base:Nat}{v:Value}{l:List (List UInt8)}(h:w.ownsRow base 9 1 v l.length (jR l))(m:Nat)(hm:m≤l.length):
 ∃x c,v=.slice x l.length c∧l.length≤c∧c≤maxLen∧w.ownsRow base 9 1 (.slice x m c) m (jR (l.take m)):=by
 have hl:(jR (l.take m)).length=m*1:=by simp[jR];omega
 rcases h.2 with ⟨rfl,h0⟩|⟨g,cap,cur,rfl,h2,h3,h4,h5,h6,h7⟩
 ·refine⟨none,0,by rw[h0],by omega,by unfold maxLen;omega,hl,Or.inl ⟨?_,by omega⟩⟩
  rw[show m=0 by omega]
 ·refine⟨_,cap,rfl,h4,h5,hl,Or.inr ⟨g,cap,cur,rfl,h2,h3,by omega,h5,h6,?_⟩⟩
  have e:jR (l.take m)=(jR l).take m:=by simp[jR,List.map_take]
  rw[e,←h7,List.take_take];congr 1;omega
theorem MB(w:World)(x:List UInt8):∀j u,([.string (bs x)]:List Value)[j]?=some u→(w.alloc (.cells #[.string (bs x)] 9)).cell? ((⟨w.heap.size,0,none⟩:Addr).add j)=some u:=by
 intro j u hj;match j,hj with
 |0,hj=>simp at hj;subst hj;simp[Addr.add,go_sem]
 |j+1,hj=>simp at hj
theorem TH(x:List UInt8):∀u∈([.string (bs x)]:List Value),u.oneCell'=true:=by
 intro u hu;simp at hu;subst hu;rfl
theorem nU(d:Nat):∀l:List aC,l.length≤(l.map (bS (d+1))).sum
 |[]=>by simp
 |x::l=>by
  have:=nU d l;have h1:1≤bS (d+1) x:=by rw[bS];omega
  simp only[List.length_cons,List.map_cons,List.sum_cons];omega
theorem FineL.mem{m:Nat}{l:List aC}(h:Hs.FineL m l){f:aC}(hf:f∈l):Hs.FineA m f:=fun d=>⟨Nat.le_trans (sC hf) (h d).1,(h d).2 f hf⟩
theorem FineL.len{m:Nat}{l:List aC}(h:Hs.FineL m l):l.length≤m:=Nat.le_trans (nU 0 l) (h 1).1
end Go.Proofs.YtblbkfdhjfppkaaGreatDoor
