/- Contracts of the document's answer: names: trees. -/
import Derived.Test.YtblbkfdhjfppkaaGreatDoorPart01
import Derived.Deep.CutBlock
set_option maxRecDepth 100000
namespace Go.Proofs.YtblbkfdhjfppkaaGreatDoor
open Hs
open Go.RowKit
theorem RH(fs:List aC)(alone:Bool)(s:aX)(n:aC):(bY fs alone s n).seen=s.seen:=by
 unfold bY dX;repeat' split
 all_goals first|rfl|exact mL _ _ _
theorem mF(s:aX)(n:aC):(Hs.declaresL s n).seen=s.seen:=by
 unfold Hs.declaresL;split
 ·exact mL _ _ _
 ·rfl
def Adds(s s':aX)(m:Nat):Prop:=∃t,s'.seen=s.seen++t∧t.length≤m
theorem Adds.refl(s:aX):Adds s s 0:=⟨[],by simp,Nat.le_refl _⟩
theorem Adds.trans{a b c:aX}{m n:Nat}(h:Adds a b m)(k:Adds b c n):Adds a c (m+n):=by
 obtain⟨t,h1,h2⟩:=h;obtain⟨u,k1,k2⟩:=k;exact⟨t++u,by rw[k1,h1,List.append_assoc],by simp;omega⟩
theorem Adds.le{a b:aX}{m n:Nat}(h:Adds a b m)(hn:m≤n):Adds a b n:=by
 obtain⟨t,h1,h2⟩:=h;exact⟨t,h1,by omega⟩
theorem Adds.of_eq{a b:aX}(h:b.seen=a.seen):Adds a b 0:=⟨[],by simp[h],Nat.le_refl _⟩
theorem Adds.fold{f:aX→aC→aX}{g:aC→Nat}(h:∀s k,Adds s (f s k) (g k)):∀(l:List aC) (s:aX),Adds s (l.foldl f s) (l.map g).sum
 |[],s=>Adds.refl s
 |k::l,s=>by
  rw[List.foldl_cons,List.map_cons,List.sum_cons];exact(h s k).trans (Adds.fold h l _)
theorem fM(fs:List aC)(alone:Bool):∀(d:Nat) (n:aC) (s:aX),Adds s (aM fs alone d n s) (bS d n)
 |0,n,s=>Adds.refl s
 |d+1,n,s=>by
  rw[aM,bS];split
  ·match hn:n.kids with
   |t::v::r=>
    simp only;have h1:Adds s (Hs.declaresL s t) 0:=Adds.of_eq (mF s t);obtain⟨u,h2,h3⟩:=h1.trans (fM fs alone d v (Hs.declaresL s t));exact⟨u++[t.text],by simp[h2],by simp;omega⟩
   |[]=>exact(Adds.refl s).le (by omega)
   |[_]=>exact(Adds.refl s).le (by omega)
  ·have h1:Adds s (bY fs alone s n) 0:=Adds.of_eq (RH fs alone s n);have h2:=h1.trans (Adds.fold (f:=fun s k=>aM fs alone d k s) (g:=bS d) (fun s k=>fM fs alone d k s) n.kids (bY fs alone s n))
   split
   ·obtain⟨u,h3,h4⟩:=h2;exact⟨[],by simp[h3],by simp⟩
   ·exact h2.le (by omega)
theorem sC{f:aC→Nat}{k:aC}:∀{l:List aC},k∈l→f k≤(l.map f).sum
 |[],h=>by cases h
 |x::l,h=>by
  simp only[List.map_cons,List.sum_cons];rcases List.mem_cons.1 h with rfl|h
  ·omega
  ·have:=sC (f:=f) h;omega
theorem KS{w:World}{base:Nat}{v:Value}{l:List (List UInt8)}(h:w.ownsRow base 9 1 v l.length (jR l))(m:Nat)(hm:m≤l.length):
 ∃x c,v=.slice x l.length c∧l.length≤c∧c≤maxLen∧w.ownsRow base 9 1 (.slice x m c) m (jR (l.take m)):=by
 have hl:(jR (l.take m)).length=m*1:=by simp[jR];omega
 rcases h.2 with ⟨rfl,h0⟩|⟨g,cap,cur,rfl,h2,h3,h4,h5,h6,h7⟩
 ·refine⟨none,0,by rw[h0],by omega,by unfold maxLen;omega,hl,Or.inl ⟨?_,by omega⟩⟩
  rw[show m=0 by omega]
 ·refine⟨_,cap,rfl,h4,h5,hl,Or.inr ⟨g,cap,cur,rfl,h2,h3,by omega,h5,h6,?_⟩⟩
  have e:jR (l.take m)=(jR l).take m:=by simp[jR,List.map_take]
  rw[e,←h7,List.take_take];congr 1;omega
theorem MB(w:World)(x:List UInt8):∀j u,([.string (bs x)]:List Value)[j]?=some u→(w.alloc (.cells #[.string (bs x)] 9)).cell? ((⟨w.heap.size,0,none⟩:Addr).add j)=some u:=by
 intro j u hj;match j,hj with
 |0,hj=>simp at hj;subst hj;simp[Addr.add,go_sem]
 |j+1,hj=>simp at hj
theorem TH(x:List UInt8):∀u∈([.string (bs x)]:List Value),u.oneCell'=true:=by
 intro u hu;simp at hu;subst hu;rfl
theorem nU(d:Nat):∀l:List aC,l.length≤(l.map (bS (d+1))).sum
 |[]=>by simp
 |x::l=>by
  have:=nU d l;have h1:1≤bS (d+1) x:=by rw[bS];omega
  simp only[List.length_cons,List.map_cons,List.sum_cons];omega
theorem FineL.mem{m:Nat}{l:List aC}(h:Hs.FineL m l){f:aC}(hf:f∈l):Hs.FineA m f:=fun d=>⟨Nat.le_trans (sC hf) (h d).1,(h d).2 f hf⟩
theorem FineL.len{m:Nat}{l:List aC}(h:Hs.FineL m l):l.length≤m:=Nat.le_trans (nU 0 l) (h 1).1
end Go.Proofs.YtblbkfdhjfppkaaGreatDoor
