/- Contracts of the document's answer: an Int in decimals. -/
import Derived.Test.YtblbkfdhjfppkaaGreatDoorPart01
import Derived.Test.YtblbkfdhjfppkaaGreatDoorPart08
import Derived.Laws.BytesArg
import Derived.WalkLawsBesides
import Derived.Deep.CutBlock
import Derived.Deep.RegionLaw
import Derived.Deep.DeepCutAuto
import Derived.Handy
import Derived.Laws.AppendOwnNone
import Derived.Test.YtblbkfdhjfppkaaGreatDoorPart00
set_option maxRecDepth 100000
set_option maxHeartbeats 4000000
namespace Go.Proofs.YtblbkfdhjfppkaaGreatDoor
open Hs
open Go.RowKit
theorem jY(a b:List UInt8):bs a++bs b=bs (a++b):=by
 apply E6
 rw[iV,ByteArray.data_append];simp[bs]
theorem digitsF_len(f:Nat):∀n t,(Hs.digitsF f n t).length≤t.length+f:=by
 induction f with
 |zero=>intro n t;simp[Hs.digitsF]
 |succ f ih=>
  intro n t;rw[Hs.digitsF];split
  ·simp
  ·have:=ih (n/10) (UInt8.ofNat (48+n%10)::t);rw[List.length_cons] at this;omega
theorem JM(n:Int):(cA n).length≤21:=by
 unfold cA;have:=digitsF_len 20 n.natAbs [];rw[List.length_append];split<;>simp at this ⊢<;>omega
theorem sO(l:List aI)(h:∀x∈l,(cB x).length+2≤24*aJ x):(eZ (l.map cB)).length≤24*(l.map aJ).sum:=by
 induction l with
 |nil=>simp[eZ]
 |cons y r ih=>
  have h1:=h y (by simp)
  have h2:=ih fun x hx=>h x (by simp[hx])
  cases r with
  |nil=>simp[eZ];omega
  |cons z r=>
   simp only[List.map_cons,eZ,List.length_append,List.sum_cons,List.length_cons,List.length_nil] at h2 ⊢
   omega
theorem vQ:∀v:aI,(cB v).length+2≤24*aJ v:=by
 refine aI.ind fun v ih=>?_
 have hc:=sO v.l ih;have hd:=JM v.n;rw[jB,eN];split
 ·omega
 split
 ·split<;>simp<;>omega
 split
 ·simp;omega
 ·simp;omega
theorem VA(s:List UInt8):(⟨#[34]⟩:ByteArray)++bs s=bs (34::s):=jY [34] s
theorem VB(s:List UInt8):bs s++(⟨#[34]⟩:ByteArray)=bs (s++[34]):=jY s [34]
theorem OY(n:Int):kB n=wrap64 n:=by unfold kB wrap64;rfl
theorem Hs.oneL_neg{op:List UInt8}{a:aI}(h:op=[45,120])(h0:a.sort=0):fB op a=(bB (wrap64 (-a.n)),0):=by
 rw[←OY];unfold fB;rw[if_pos ⟨h,h0⟩]
theorem UB(n:Int)(h1: -9223372036854775808≤n)(h2:n≤9223372036854775807):kB n=n:=by unfold kB;omega
theorem ZD(x y:Int)(hx1: -9223372036854775808≤x)(hx2:x≤9223372036854775807): -9223372036854775808≤x.tmod y∧x.tmod y≤9223372036854775807:=by
 have h:(x.tmod y).natAbs=x.natAbs%y.natAbs:=Int.natAbs_tmod x y;have h2:x.natAbs%y.natAbs≤x.natAbs:=Nat.mod_le _ _;by_cases hn:0≤x
 ·have:=Int.tmod_nonneg y hn;omega
 ·have:x.tmod y≤0:=by
   have:=Int.tmod_nonneg y (show 0≤ -x by omega)
   rw[Int.neg_tmod] at this;omega
  omega
def Grow(F:Nat→Prop)(w w':World)(b:Nat):Prop:=F b∨(w.heap.size≤b∧b<w'.heap.size)
theorem sP:∀l m:List UInt8,Op.bytesLess l m=fV l m
 |[],[]=>rfl
 |[],_::_=>rfl
 |_::_,[]=>rfl
 |a::l,b::m=>by
  rw[Op.bytesLess,fV,sP l m];by_cases h1:a.toNat<b.toNat
  ·rw[if_pos h1,decide_eq_true (UInt8.lt_iff_toNat_lt.2 h1),Bool.true_or]
  ·rw[if_neg h1,decide_eq_false (fun h=>h1 (UInt8.lt_iff_toNat_lt.1 h)),Bool.false_or]
   by_cases h2:b.toNat<a.toNat
   ·rw[if_pos h2,beq_eq_false_iff_ne.2 (fun e=>by rw[e] at h2;omega),Bool.false_and]
   ·rw[if_neg h2,show a=b from UInt8.toNat_inj.1 (by omega),beq_self_eq_true,Bool.true_and]
theorem FW:∀l m:List UInt8,(fV l m || l==m)= !fV m l
 |[],[]=>rfl
 |[],_::_=>rfl
 |_::_,[]=>rfl
 |a::l,b::m=>by
  rw[fV,fV];by_cases h1:a.toNat<b.toNat
  ·rw[if_pos h1,if_neg (by omega),if_pos h1];rfl
  ·by_cases h2:b.toNat<a.toNat
   ·rw[if_neg h1,if_pos h2,if_pos h2];have:(a::l==b::m)=false:=beq_eq_false_iff_ne.2 (fun e=>by rw[List.cons.injEq] at e;rw[e.1] at h2;omega)
    rw[this];rfl
   ·rw[if_neg h1,if_neg h2,if_neg h2,if_neg h1,←FW l m,show a=b from UInt8.toNat_inj.1 (by omega)]
    simp
end Go.Proofs.YtblbkfdhjfppkaaGreatDoor
namespace Go.Proofs.YtblbkfdhjfppkaaGreatDoor.Hs
def gQ:Nat→List UInt8→List (List UInt8)
 |0,_=>[]
 |f+1,l=>if l=[] then [] else if bD l=0 then [] else l.take (bD l)::gQ f (l.drop (bD l))
def dO(l:List UInt8):List (List UInt8):=gQ l.length l
def dT(a:aI):aI × Nat:=
 if a.sort=3 then (bB a.l.length,0) else if a.sort=2 then (bB (dO a.s).length,0) else (bK,2)
def iP(a:aI):List aI:=if a.sort=2 then (dO a.s).map bH else a.l
def cV(a b:aI):aI × Nat:=
 if a.sort<2∨b.sort≠0 then (bK,2)
 else if b.n<0∨((iP a).length:Int)≤b.n then (bK,4)
 else ((iP a).getD b.n.toNat bK,0)
def cF:List aI→aI→aI→aI × Nat
 |[],_,v=>(v,0)
 |i::at',old,v=>
  if old.sort≠3∨i.sort≠0 then (bK,2)
  else if i.n<0∨(old.l.length:Int)≤i.n then (bK,4)
  else if (cF at' (old.l.getD i.n.toNat bK) v).2≠0 then (bK,(cF at' (old.l.getD i.n.toNat bK) v).2)
  else (aU (old.l.set i.n.toNat (cF at' (old.l.getD i.n.toNat bK) v).1),0)
theorem jJ{l:List UInt8}:bD l≤l.length:=by
 unfold bD;cases l with
 |nil=>simp
 |cons b r=>
  simp only[List.getElem?_cons_zero]
  have q:∀i lo hi,cY (b::r) i lo hi=true→i<(b::r).length:=by
   intro i lo hi h;unfold cY at h;rcases Nat.lt_or_ge i (b::r).length with h1|h1
   ·exact h1
   ·rw[List.getElem?_eq_none h1] at h;simp at h
  split
  ·simp
  split
  ·split
   ·have:=q 1 _ _ (by assumption);omega
   ·simp
  split
  ·generalize (if b.toNat=224 then 160 else 128)=x1
   generalize (if b.toNat=237 then 159 else 191)=x2
   split
   ·rename_i h;rw[Bool.and_eq_true] at h;have:=q 2 _ _ h.2;omega
   ·simp
  split
  ·generalize (if b.toNat=240 then 144 else 128)=x1
   generalize (if b.toNat=244 then 143 else 191)=x2
   split
   ·rename_i h;rw[Bool.and_eq_true] at h;have:=q 3 _ _ h.2;omega
   ·simp
  ·simp
theorem pX:∀(f:Nat) (l:List UInt8),l.length≤f→gQ f l=dO l:=by
 have h:∀(n f g:Nat) (l:List UInt8),l.length≤n→l.length≤f→l.length≤g→gQ f l=gQ g l:=by
  intro n;induction n with
  |zero=>
   intro f g l h0 hf hg;have:l=[]:=List.length_eq_zero_iff.1 (by omega)
   subst this;cases f<;>cases g<;>simp[gQ]
  |succ n ih=>
   intro f g l h0 hf hg;by_cases hl:l=[]
   ·subst hl;cases f<;>cases g<;>simp[gQ]
   ·have hp:0<l.length:=List.length_pos_iff.2 hl;cases f with
    |zero=>omega
    |succ f=>
     cases g with
     |zero=>omega
     |succ g=>
      rw[gQ,gQ,if_neg hl,if_neg hl];by_cases hc:bD l=0
      ·rw[if_pos hc,if_pos hc]
      ·rw[if_neg hc,if_neg hc,ih f g (l.drop (bD l)) (by rw[List.length_drop];omega) (by rw[List.length_drop];omega) (by rw[List.length_drop];omega)]
 exact fun f l hl=>h l.length f l.length l (Nat.le_refl _) hl (Nat.le_refl _)
theorem gP{l:List UInt8}(hl:l≠[])(hc:bD l≠0):dO l=l.take (bD l)::dO (l.drop (bD l)):=by
 have hp:0<l.length:=List.length_pos_iff.2 hl;obtain⟨n,hn⟩:∃n,l.length=n+1:=⟨l.length-1,by omega⟩
 rw[←pX (n+1) l (by omega),gQ,if_neg hl,if_neg hc,pX n _ (by rw[List.length_drop];omega)]
theorem dL{l:List UInt8}(h:l=[]∨bD l=0):dO l=[]:=by
 unfold dO;cases hn:l.length with
 |zero=>rfl
 |succ n=>
  rw[gQ];rcases h with h|h
  ·rw[if_pos h]
  ·rw[if_pos h];split<;>rfl
theorem rK(l:List UInt8):(dO l).length≤l.length:=by
 have h:∀(n:Nat) (l:List UInt8),l.length≤n→(dO l).length≤l.length:=by
  intro n;induction n with
  |zero=>
   intro l h0;rw[dL (Or.inl (List.length_eq_zero_iff.1 (by omega)))];simp
  |succ n ih=>
   intro l h0;by_cases hl:l=[]
   ·rw[dL (Or.inl hl)];simp
   by_cases hc:bD l=0
   ·rw[dL (Or.inr hc)];simp
   have hp:0<l.length:=List.length_pos_iff.2 hl;rw[gP hl hc,List.length_cons];have:=ih (l.drop (bD l)) (by rw[List.length_drop];omega)
   rw[List.length_drop] at this;have:= @jJ l;omega
 exact h l.length l (Nat.le_refl _)
end Go.Proofs.YtblbkfdhjfppkaaGreatDoor.Hs
namespace Go.Proofs.YtblbkfdhjfppkaaGreatDoor
open Hs
open Go.RowKit
abbrev fE(k:Nat):Ending:=.panicked [{ v:=.iface 353 (.int .i64 k),recovered:=false }]
def VLr(R:Value→aI→Prop)(F:Nat→Prop)(w:World)(sv:Value)(l:List aI):Prop:=
 (l=[]∧sv=.slice none 0 0)∨
 ∃g cap cur,sv=.slice (some ⟨g,0,none⟩) l.length cap∧F g∧w.heap[g]?=some (.cells cur 256 (0,0))∧l.length≤cap∧∀i (h:i<l.length),∃u,cur[i]?=some u∧R u l[i]
def VR:Nat→(Nat→Prop)→World→Value→aI→Prop
 |0,_,_,_,_=>False
 |d+1,F,w,v,a=>
  (∃n,v=.iface 315 (.int .i64 n)∧a=bB n∧ -9223372036854775808≤n∧n≤9223372036854775807)∨
  (∃b,v=.iface 316 (.bool b)∧a=bL b)∨
  (∃s,v=.iface 318 (.string (bs s))∧a=bH s)∨
  (∃sv l,v=.iface 319 sv∧a=aU l∧VLr (VR d F w) F w sv l)
theorem VLr.mono{R S:Value→aI→Prop}{F G:Nat→Prop}{w:World}{sv:Value}{l:List aI}(h:VLr R F w sv l)(hR:∀v a,R v a→S v a)(hF:∀b,F b→G b):VLr S G w sv l:=by
 rcases h with h|⟨g,cap,cur,h1,h2,h3,h4,h5⟩
 ·exact Or.inl h
 ·refine Or.inr ⟨g,cap,cur,h1,hF _ h2,h3,h4,fun i hi=>?_⟩
  obtain⟨u,k1,k2⟩:=h5 i hi;exact⟨u,k1,hR _ _ k2⟩
theorem VLr.keep{R:Value→aI→Prop}{F:Nat→Prop}{w w':World}{sv:Value}{l:List aI}(h:VLr R F w sv l)(hk:∀b,F b→w'.heap[b]?=w.heap[b]?):VLr R F w' sv l:=by
 rcases h with h|⟨g,cap,cur,h1,h2,h3,h4,h5⟩
 ·exact Or.inl h
 ·exact Or.inr ⟨g,cap,cur,h1,h2,by rw[hk g h2];exact h3,h4,h5⟩
theorem VR.mono{F G:Nat→Prop}{w:World}(hF:∀b,F b→G b):∀{d e:Nat} {v:Value} {a:aI},VR d F w v a→d≤e→VR e G w v a
 |0,_,_,_,h,_=>h.elim
 |d+1,0,_,_,_,h=>by omega
 |d+1,e+1,v,a,h,hde=>by
  rcases h with h|h|h|⟨sv,l,h1,h2,h3⟩
  ·exact Or.inl h
  ·exact Or.inr (Or.inl h)
  ·exact Or.inr (Or.inr (Or.inl h))
  ·exact Or.inr (Or.inr (Or.inr ⟨sv,l,h1,h2,h3.mono (fun _ _ h=>VR.mono hF h (by omega)) hF⟩))
theorem VR.keep{F:Nat→Prop}{w w':World}(hk:∀b,F b→w'.heap[b]?=w.heap[b]?):∀{d:Nat} {v:Value} {a:aI},VR d F w v a→VR d F w' v a
 |0,_,_,h=>h.elim
 |d+1,v,a,h=>by
  rcases h with h|h|h|⟨sv,l,h1,h2,h3⟩
  ·exact Or.inl h
  ·exact Or.inr (Or.inl h)
  ·exact Or.inr (Or.inr (Or.inl h))
  ·exact Or.inr (Or.inr (Or.inr ⟨sv,l,h1,h2,(h3.mono (fun _ _ h=>VR.keep hk h) (fun _ h=>h)).keep hk⟩))
def PV(F:Nat→Prop)(w:World)(v:Value)(a:aI):Prop:=∃d,VR d F w v a
theorem PV.mono{F G:Nat→Prop}{w:World}{v:Value}{a:aI}(h:PV F w v a)(hF:∀b,F b→G b):PV G w v a:=by
 obtain⟨d,h⟩:=h;exact⟨d,h.mono hF (Nat.le_refl _)⟩
theorem PV.keep{F:Nat→Prop}{w w':World}{v:Value}{a:aI}(h:PV F w v a)(hk:∀b,F b→w'.heap[b]?=w.heap[b]?):PV F w' v a:=by
 obtain⟨d,h⟩:=h;exact⟨d,h.keep hk⟩
theorem PV.num(F:Nat→Prop)(w:World)(n:Int)(h1: -9223372036854775808≤n)(h2:n≤9223372036854775807):PV F w (.iface 315 (.int .i64 n)) (bB n):=⟨1,Or.inl ⟨n,rfl,rfl,h1,h2⟩⟩
theorem PV.tru(F:Nat→Prop)(w:World)(b:Bool):PV F w (.iface 316 (.bool b)) (bL b):=⟨1,Or.inr (Or.inl ⟨b,rfl,rfl⟩)⟩
theorem PV.str(F:Nat→Prop)(w:World)(s:List UInt8):PV F w (.iface 318 (.string (bs s))) (bH s):=⟨1,Or.inr (Or.inr (Or.inl ⟨s,rfl,rfl⟩))⟩
def PVs(F:Nat→Prop)(w:World)(sv:Value)(l:List aI):Prop:=VLr (PV F w) F w sv l
theorem NX{F:Nat→Prop}{w:World}{cur:Array Value}:∀(l:List aI) (o:Nat),(∀i (h:i<l.length),∃u,cur[o+i]?=some u∧PV F w u l[i])→∃d,∀i (h:i<l.length),∃u,cur[o+i]?=some u∧VR d F w u l[i]
 |[],_,_=>⟨0,fun i h=>by simp at h⟩
 |a::l,o,h=>by
  obtain⟨u,hu,d,hd⟩:=h 0 (by simp)
  obtain⟨e,he⟩:=NX (F:=F) (w:=w) (cur:=cur) l (o+1) fun i hi=>by
   have:=h (i+1) (by simpa using hi)
   rw[show o+1+i=o+(i+1) by omega]
   simpa using this
  refine⟨max d e,fun i hi=>?_⟩
  cases i with
  |zero=>exact⟨u,hu,hd.mono (fun _ h=>h) (Nat.le_max_left _ _)⟩
  |succ i=>
   obtain⟨u',h1,h2⟩:=he i (by simpa using hi)
   rw[show o+1+i=o+(i+1) by omega] at h1
   exact⟨u',h1,h2.mono (fun _ h=>h) (Nat.le_max_right _ _)⟩
theorem PV.lst{F:Nat→Prop}{w:World}{sv:Value}{l:List aI}(h:PVs F w sv l):PV F w (.iface 319 sv) (aU l):=by
 rcases h with h|⟨g,cap,cur,h1,h2,h3,h4,h5⟩
 ·exact⟨1,Or.inr (Or.inr (Or.inr ⟨sv,l,rfl,rfl,Or.inl h⟩))⟩
 ·obtain⟨d,hd⟩:=NX (cur:=cur) l 0 (by simpa using h5)
  exact⟨d+1,Or.inr (Or.inr (Or.inr ⟨sv,l,rfl,rfl,Or.inr ⟨g,cap,cur,h1,h2,h3,h4,by simpa using hd⟩⟩))⟩
theorem PV.cases{F:Nat→Prop}{w:World}{v:Value}{a:aI}(h:PV F w v a):
 (∃n,v=.iface 315 (.int .i64 n)∧a=bB n∧ -9223372036854775808≤n∧n≤9223372036854775807)∨
 (∃b,v=.iface 316 (.bool b)∧a=bL b)∨
 (∃s,v=.iface 318 (.string (bs s))∧a=bH s)∨
 (∃x c l,v=.iface 319 (.slice x l.length c)∧a=aU l∧PVs F w (.slice x l.length c) l):=by
 obtain⟨d,h⟩:=h;cases d with
 |zero=>exact h.elim
 |succ d=>
  rcases h with h|h|h|⟨sv,l,h1,h2,h3⟩
  ·exact Or.inl h
  ·exact Or.inr (Or.inl h)
  ·exact Or.inr (Or.inr (Or.inl h))
  ·refine Or.inr (Or.inr (Or.inr ?_));have h4:PVs F w sv l:=h3.mono (fun _ _ h=>⟨d,h⟩) (fun _ h=>h)
   rcases h3 with ⟨rfl,rfl⟩|⟨g,cap,cur,rfl,_⟩
   ·exact⟨none,0,[],h1,h2,h4⟩
   ·exact⟨_,_,l,h1,h2,h4⟩
theorem nR(F:Nat→Prop)(v:Value)(a:aI)(w:World)(h:PV F w v a):
 Calls Tryz.prog 385 #[v] w fun e w'=>w'=w∧((a.sort=1∧e=.returned (.bool (decide (a.n=1))))∨(a.sort≠1∧e=fE 2)):=by
 rcases h.cases with ⟨n,rfl,rfl,_,_⟩|⟨b,rfl,rfl⟩|⟨s,rfl,rfl⟩|⟨x,c,l,rfl,rfl,_⟩
 ·clear h;have q:=KJ;go_enter Tryz.func385,Tryz.ntmps385;go_wp2_with fail;exact⟨rfl,rfl,Or.inr ⟨by simp[bB],rfl⟩⟩
 ·clear h;have q:=sR;go_enter Tryz.func385,Tryz.ntmps385;go_wp2_with fail;go_ret;exact⟨rfl,Or.inl ⟨rfl,by cases b<;>rfl⟩⟩
 ·clear h;have q:=vR;go_enter Tryz.func385,Tryz.ntmps385;go_wp2_with fail;exact⟨rfl,rfl,Or.inr ⟨by simp[bH],rfl⟩⟩
 ·clear h;have q:=sQ;go_enter Tryz.func385,Tryz.ntmps385;go_wp2_with fail;exact⟨rfl,rfl,Or.inr ⟨by simp[aU],rfl⟩⟩
def kK(F:Nat→Prop)(w:World)(r:aI × Nat)(e:Ending)(w':World):Prop:=w'=w∧((r.2=0∧∃u,e=.returned u∧PV F w u r.1)∨(r.2≠0∧e=fE r.2))
theorem kK.ok{F:Nat→Prop}{w:World}{r:aI × Nat}{u:Value}{a:aI}(hr:r=(a,0))(h:PV F w u a):kK F w r (.returned u) w:=by subst hr;exact⟨rfl,Or.inl ⟨rfl,u,rfl,h⟩⟩
theorem kK.stop{F:Nat→Prop}{w:World}{r:aI × Nat}{a:aI}{k:Nat}(hr:r=(a,k))(hk:k≠0):kK F w r (fE k) w:=by subst hr;exact⟨rfl,Or.inr ⟨hk,rfl⟩⟩
theorem SX(n:Int): -9223372036854775808≤kB n∧kB n≤9223372036854775807:=by unfold kB;omega
theorem PV.wrap(F:Nat→Prop)(w:World)(n:Int):PV F w (.iface 315 (.int .i64 (wrap64 n))) (bB (kB n)):=by
 rw[←OY];exact PV.num F w _ (SX n).1 (SX n).2
theorem VM(op:List UInt8)(F:Nat→Prop)(x y:Int)(w:World)(hx1: -9223372036854775808≤x)(hx2:x≤9223372036854775807)(hy1: -9223372036854775808≤y)(hy2:y≤9223372036854775807):
 Calls Tryz.prog 390 #[.string (bs op),.int .i64 x,.int .i64 y] w (kK F w (iL op x y)):=by
 have hbt:=bZ op;obtain⟨r,hr⟩:∃r,r=iL op x y:=⟨_,rfl⟩;rw[←hr];unfold iL at hr;by_cases o0:op=[43]
 ·rw[if_pos o0] at hr;have e_lt:((bs op).toList==[60])=false:=by rw[hbt,o0];rfl
  have e_le:((bs op).toList==[60,61])=false:=by rw[hbt,o0];rfl
  have e_add:((bs op).toList==[43])=true:=by rw[hbt,o0];rfl
  have e_sub:((bs op).toList==[45])=false:=by rw[hbt,o0];rfl
  have e_mul:((bs op).toList==[42])=false:=by rw[hbt,o0];rfl
  have HP:=aB hr;clear hbt hr o0;go_enter Tryz.func390,Tryz.ntmps390;go_wp2_with fail;go_ret;exact kK.ok HP.out (PV.wrap F w (x+y))
 rw[if_neg o0] at hr;have e_add:((bs op).toList==[43])=false:=by rw[hbt];simpa using o0
 clear o0;by_cases o1:op=[45]
 ·rw[if_pos o1] at hr;have e_lt:((bs op).toList==[60])=false:=by rw[hbt,o1];rfl
  have e_le:((bs op).toList==[60,61])=false:=by rw[hbt,o1];rfl
  have e_add:((bs op).toList==[43])=false:=by rw[hbt,o1];rfl
  have e_sub:((bs op).toList==[45])=true:=by rw[hbt,o1];rfl
  have e_mul:((bs op).toList==[42])=false:=by rw[hbt,o1];rfl
  have HP:=aB hr;clear hbt hr o1;go_enter Tryz.func390,Tryz.ntmps390;go_wp2_with fail;go_ret;exact kK.ok HP.out (PV.wrap F w (x-y))
 rw[if_neg o1] at hr;have e_sub:((bs op).toList==[45])=false:=by rw[hbt];simpa using o1
 clear o1;by_cases o2:op=[42]
 ·rw[if_pos o2] at hr;have e_lt:((bs op).toList==[60])=false:=by rw[hbt,o2];rfl
  have e_le:((bs op).toList==[60,61])=false:=by rw[hbt,o2];rfl
  have e_add:((bs op).toList==[43])=false:=by rw[hbt,o2];rfl
  have e_sub:((bs op).toList==[45])=false:=by rw[hbt,o2];rfl
  have e_mul:((bs op).toList==[42])=true:=by rw[hbt,o2];rfl
  have HP:=aB hr;clear hbt hr o2;go_enter Tryz.func390,Tryz.ntmps390;go_wp2_with fail;go_ret;exact kK.ok HP.out (PV.wrap F w (x*y))
 rw[if_neg o2] at hr;have e_mul:((bs op).toList==[42])=false:=by rw[hbt];simpa using o2
 clear o2;by_cases o3:op=[60]
 ·rw[if_pos o3] at hr;have e_lt:((bs op).toList==[60])=true:=by rw[hbt,o3];rfl
  have e_le:((bs op).toList==[60,61])=false:=by rw[hbt,o3];rfl
  have e_add:((bs op).toList==[43])=false:=by rw[hbt,o3];rfl
  have e_sub:((bs op).toList==[45])=false:=by rw[hbt,o3];rfl
  have e_mul:((bs op).toList==[42])=false:=by rw[hbt,o3];rfl
  have HP:=aB hr;clear hbt hr o3;go_enter Tryz.func390,Tryz.ntmps390;go_wp2_with fail;go_ret;exact kK.ok HP.out (PV.tru F w (decide (x<y)))
 rw[if_neg o3] at hr;have e_lt:((bs op).toList==[60])=false:=by rw[hbt];simpa using o3
 clear o3;by_cases o4:op=[60,61]
 ·rw[if_pos o4] at hr;have e_lt:((bs op).toList==[60])=false:=by rw[hbt,o4];rfl
  have e_le:((bs op).toList==[60,61])=true:=by rw[hbt,o4];rfl
  have e_add:((bs op).toList==[43])=false:=by rw[hbt,o4];rfl
  have e_sub:((bs op).toList==[45])=false:=by rw[hbt,o4];rfl
  have e_mul:((bs op).toList==[42])=false:=by rw[hbt,o4];rfl
  have HP:=aB hr;clear hbt hr o4;go_enter Tryz.func390,Tryz.ntmps390;go_wp2_with fail;go_ret;exact kK.ok HP.out (PV.tru F w (decide (x≤y)))
 rw[if_neg o4] at hr;have e_le:((bs op).toList==[60,61])=false:=by rw[hbt];simpa using o4
 clear o4;by_cases hz:y=0
 ·rw[if_pos hz] at hr;subst hz;have HP:=aB hr;clear hbt hr;go_enter Tryz.func390,Tryz.ntmps390;go_wp2_with fail;exact⟨rfl,kK.stop HP.out (by decide)⟩
 rw[if_neg hz] at hr;have ez:(y==0)=false:=by simpa using hz
 by_cases o5:op=[47]
 ·rw[if_pos o5] at hr;have e5:((bs op).toList==[47])=true:=by rw[hbt,o5];rfl
  have HP:=aB hr;clear hbt hr o5;go_enter Tryz.func390,Tryz.ntmps390;go_wp2_with fail;go_ret;exact kK.ok HP.out (PV.wrap F w (x.tdiv y))
 ·rw[if_neg o5] at hr;have e5:((bs op).toList==[47])=false:=by rw[hbt];simpa using o5
  have hm:=ZD x y hx1 hx2;rw[UB _ hm.1 hm.2] at hr;have HP:=aB hr;have HM:=aB hm;clear hbt hr o5 hm;go_enter Tryz.func390,Tryz.ntmps390;go_wp2_with fail;go_ret;exact kK.ok HP.out (PV.num F w (x.tmod y) HM.out.1 HM.out.2)
theorem AI(o:UInt8)(ho:o=45∨o=33)(F:Nat→Prop)(v:Value)(a:aI)(w:World)(h:PV F w v a):
 Calls Tryz.prog 384 #[.string (bs [o]),v] w (kK F w (fB [o,120] a)):=by
 rcases ho with rfl|rfl
 ·have e1:((bs [45]).toList==[33])=false:=by rw[bZ];rfl
  rcases h.cases with ⟨n,rfl,rfl,h1,h2⟩|⟨b,rfl,rfl⟩|⟨s,rfl,rfl⟩|⟨x,c,l,rfl,rfl,_⟩
  ·have HP:=aB (Hs.oneL_neg (op:=[45,120]) (a:=bB n) rfl rfl);have q:=kN;clear h;generalize fB [45,120] (bB n)=r at*;go_enter Tryz.func384,Tryz.ntmps384;go_wp2_with fail;go_ret;exact kK.ok HP.out (by have hh:=PV.wrap F w (-n);rw[OY] at hh;exact hh)
  ·have q:=jQ;clear h;go_enter Tryz.func384,Tryz.ntmps384;go_wp2_with fail;exact⟨rfl,kK.stop (a:=bK) (by unfold fB;simp[bL]) (by decide)⟩
  ·have q:=kM;clear h;go_enter Tryz.func384,Tryz.ntmps384;go_wp2_with fail;exact⟨rfl,kK.stop (a:=bK) (by unfold fB;simp[bH]) (by decide)⟩
  ·have q:=jO;clear h;go_enter Tryz.func384,Tryz.ntmps384;go_wp2_with fail;exact⟨rfl,kK.stop (a:=bK) (by unfold fB;simp[aU]) (by decide)⟩
 ·have e1:((bs [33]).toList==[33])=true:=by rw[bZ];rfl
  have HT:=aB (nR F v a w h);obtain⟨r,hr⟩:∃r,r=fB [33,120] a:=⟨_,rfl⟩;rw[←hr];have HR:=aB hr
  have hform:∃t u,v=.iface t u:=by
   rcases h.cases with ⟨n,rfl,_⟩|⟨b,rfl,_⟩|⟨s,rfl,_⟩|⟨x,c,l,rfl,_⟩<;>exact⟨_,_,rfl⟩
  obtain⟨t,u,rfl⟩:=hform;have HC:=aB h.cases;clear h hr;go_enter Tryz.func384,Tryz.ntmps384;go_wp2_with fail;refine HT.out.mono ?_;rintro e w1 ⟨rfl,⟨hs,rfl⟩|⟨hs,rfl⟩⟩
  ·have HS:=aB hs;clear hs;go_wp2_with fail;go_ret;refine kK.ok (a:=bL (!decide (a.n=1))) ?_ (PV.tru F w1 (!decide (a.n=1)));rw[HR.out];unfold fB;rw[if_neg (by simp),if_pos ⟨rfl,HS.out⟩]
   rcases HC.out with ⟨n,_,rfl,_⟩|⟨b,_,rfl⟩|⟨s,_,rfl⟩|⟨x,c,l,_,rfl,_⟩
   ·have:=HS.out;simp[bB] at this
   ·cases b<;>rfl
   ·have:=HS.out;simp[bH] at this
   ·have:=HS.out;simp[aU] at this
  ·have HS:=aB hs;clear hs;go_wp2_with fail;exact⟨rfl,kK.stop (a:=bK) (by rw[HR.out];unfold fB;rw[if_neg (by simp),if_neg (fun hh=>HS.out hh.2)]) (by decide)⟩
end Go.Proofs.YtblbkfdhjfppkaaGreatDoor
