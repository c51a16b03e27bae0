/- Contracts of the document's answer, the first part: lines, characters. -/
import Derived.Test.YtblbkfdhjfppkaaGreatDoorB04
import Derived.Test.YtblbkfdhjfppkaaGreatDoorP00
set_option linter.defProp false
set_option maxRecDepth 100000
namespace Go.Proofs.YtblbkfdhjfppkaaGreatDoor
open Hs
open _root_.Go.Proofs.Tryz
open Go.RowKit
def XZ(s:ByteArray)(k:Nat)(h:k<s.size):s.data.toList.take (k+1)=s.data.toList.take k++[s[k]]:=by
 rw[aT_ (by simpa using h)];rfl
def WO{k:IntKind}{a b:Int}(h:a=b):Ending.returned (.int k a)=.returned (.int k b):=by rw[h]
def iY{a b:Bool}(h:a=b):Ending.returned (.bool a)=.returned (.bool b):=by rw[h]
def j6(c d:UInt8):(c=d)↔((c.toNat:Int)=(d.toNat:Int)):=by
 rw[<-bT_];omega
def nP(c:UInt8):(c.toNat:Int)<=255:=by have:=c.toNat_lt;omega
def zT(s:ByteArray)(k:Nat)(h:k<s.size):s.data.toList[k]?=some s[k]:=by
 simp[h];rfl
def FN(s:ByteArray)(n i:Nat)(h:n+i<s.size):(s.data.toList.drop n)[i]?=some s[n+i]:=by
 rw[bU_];exact zT s _ h
def US{l:List UInt8}{i lo b:Nat}(h:dE l i lo b=true):i<l.length:=by
 unfold dE at h;by_cases a:i<l.length
 ·exact a
 ·rw[a4_ (by omega)] at h;cases h
def D8(l:List UInt8):bF l<=l.length:=by
 unfold bF;split
 ·omega
 ·rename_i b a
  have c:0<l.length:=by
   by_cases h:0<l.length
   ·exact h
   ·rw[a4_ (by omega)] at a;cases a
  repeat' split
  all_goals first
   |omega
   |(have:=US ‹dE l 1 _ _=true›;omega)
   |(have h:=‹(dE l 1 _ _ && dE l 2 _ _)=true›
     simp only[aX_] at h;have:=US h.2;omega)
   |(have h:=‹(dE l 1 _ _ && dE l 2 _ _ && dE l 3 _ _)=true›
     simp only[aX_] at h;have:=US h.2;omega)
def KB(l:List UInt8)(p f:Nat)(h:0<l.length)(a:bF l≠0):dN (f+1) l p=dN f (l.drop (bF l)) (p+bF l):=by
 rw[dN,if_neg (by omega),if_neg a]
def NL(l:List UInt8)(p f:Nat)(h:0<l.length)(a:bF l=0):dN (f+1) l p=some p:=by
 rw[dN,if_neg (by omega),if_pos a]
def NK(l:List UInt8)(p f:Nat)(h:l.length=0):dN f l p=none:=by
 cases f with
 |zero=>rfl
 |succ f=>rw[dN,if_pos h]
def lY(x l:List UInt8)(h:x.length<=l.length):x.isPrefixOf l=(l.take x.length==x):=by
 induction x generalizing l with
 |nil=>simp
 |cons a x c=>
  cases l with
  |nil=>simp at h
  |cons b l=>
   simp only[List.isPrefixOf,aB_,bu_,List.cons_beq_cons];rw[c l (by simpa using h),show (a==b)=(b==a) from Bool.beq_comm]
def zR(x l:List UInt8)(h:l.length<x.length):x.isPrefixOf l=false:=by
 rw[Bool.eq_false_iff];intro a;have:=(bX_.1 a).length_le;omega
def kO(s:ByteArray)(k:Nat)(h:k<s.size):s.data.toList.drop k=s[k]::s.data.toList.drop (k+1):=by
 rw[bL_ (by simpa using h)];rfl
def VY(f:Nat):Hs.blankL f []=0:=by cases f<;>rfl
def MB(f:Nat)(c:UInt8)(r:List UInt8)(h:c.toNat=32\/c.toNat=9\/c.toNat=10):Hs.blankL (f+1) (c::r)=Hs.blankL f r+1:=by
 rw[Hs.blankL,if_pos h]
def GH(f:Nat)(c:UInt8)(r:List UInt8)(h:¬(c.toNat=32\/c.toNat=9\/c.toNat=10))(a:cN (c::r) [47,47]=true):
 Hs.blankL (f+1) (c::r)=bL eD (c::r)+Hs.blankL f ((c::r).drop (bL eD (c::r))):=by
 rw[Hs.blankL,if_neg h,if_pos a]
def RL(f:Nat)(c:UInt8)(r:List UInt8)(h:¬(c.toNat=32\/c.toNat=9\/c.toNat=10))(a:cN (c::r) [47,47]=false):
 Hs.blankL (f+1) (c::r)=0:=by
 rw[Hs.blankL,if_neg h,if_neg (by rw[a];simp)]
def rM(p:UInt8->Bool)(c:UInt8)(r:List UInt8)(h:p c=true):bL p (c::r)=bL p r+1:=by rw[bL,if_pos h]
def NM(p:UInt8->Bool)(c:UInt8)(r:List UInt8)(h:p c=false):bL p (c::r)=0:=by rw[bL,if_neg (by rw[h];simp)]
def ZE(b:UInt8):eD b=((b.toNat:Int) != 10):=by
 unfold eD;rw[b0_];simp;omega
def bs(l:List UInt8):ByteArray:=⟨l.toArray⟩
def fS(l:List UInt8):(bs l).data.toList=l:=by simp[bs]
def gA(l:List UInt8):(bs l).size=l.length:=by simp[bs,ByteArray.size]
def P5{a b:ByteArray}(h:a.data.toList=b.data.toList):a=b:=by
 cases a;cases b;simp only at h;congr 1;exact Array.toList_inj.1 h
def DE(s:ByteArray)(a b:Nat):s.extract a b=bs ((s.data.toList.drop a).take (b-a)):=
 P5 (by rw[Lib.extract_data,fS])
def cA(l:List UInt8):(bs l).toList=l:=by rw[Lib.toList_data,fS]
def rN(p:UInt8->Bool)(l:List UInt8):∀c∈l.take (bL p l),p c=true:=by
 induction l with
 |nil=>simp
 |cons a r d=>
  intro c b;by_cases h:p a=true
  ·rw[rM _ _ _ h,bu_] at b;rcases aG_.1 b with rfl|b
   ·exact h
   ·exact d c b
  ·rw[NM _ _ _ (by simpa using h)] at b;simp at b
def bcell{W w1:World}(a:Below W.heap.size W w1):(∀b o,b<W.heap.size->w1.cell? ⟨b,o,none⟩=W.cell? ⟨b,o,none⟩)/\(∀b o,b<W.heap.size->w1.frozen? ⟨b,o,none⟩=W.frozen? ⟨b,o,none⟩):=
 ⟨fun b o h=>a.cell (p:=⟨b,o,none⟩) h,fun b o h=>a.frozen (p:=⟨b,o,none⟩) h⟩
def KT:∀k (h:k<21),(cM[k]'(by simpa [cM] using h)).length<=2:=by decide
def wQ(l:List UInt8)(k:Nat):Prop:=∀o∈cM.take k,cN l o=false
def OQ{l:List UInt8}{k:Nat}(h:k<21)(c:wQ l k)(b:cN l (cM[k]'(by simpa [cM] using h))=false):wQ l (k+1):=by
 intro o a;rw[aT_ (by simpa [cM] using h)] at a
 rcases aE_.1 a with a|a
 ·exact c o a
 ·rw[aD_.1 a];exact b
def TK{l:List UInt8}{k:Nat}(h:k<21)(c:wQ l k)(q:List UInt8)(b:q=cM[k]'(by simpa [cM] using h))(a:cN l q=true):
 gG l={ sort:=112,text:=q,size:=q.length,ok:=true }:=by
 have e:cM.find? (fun o=>cN l o)=some q:=by
  rw[List.find?_eq_some_iff_getElem];refine⟨a,k,by simpa [cM] using h,b.symm,fun j d=>?_⟩
  have:=c (cM[j]'(by have:cM.length=21:=rfl;omega)) (by
   rw[List.mem_take_iff_getElem];exact⟨j,by have:cM.length=21:=rfl;omega,rfl⟩)
  simp[this]
 unfold gG;rw[e]
def OJ{l:List UInt8}(b:wQ l 21):gG l={ sort:=0,text:=[],size:=0,ok:=false }:=by
 have e:cM.find? (fun o=>cN l o)=none:=by
  rw[bI_];intro o a;rw[b o (by rw[a0_ (by decide)];exact a)];simp
 unfold gG;rw[e]
def I0(s:ByteArray)(k f:Nat)(e:k<s.size)(a:(bY (s.data.toList.drop k)).ok=true)(m:Nat)
 (b:m=k+(bY (s.data.toList.drop k)).size+Hs.blankL s.size (s.data.toList.drop (k+(bY (s.data.toList.drop k)).size))):
 eI (f+1) (s.data.toList.take k) (s.data.toList.drop k)=
  iG [{ sort:=(bY (s.data.toList.drop k)).sort,text:=(bY (s.data.toList.drop k)).text,line:=bA (s.data.toList.take k) }] (eI f (s.data.toList.take m) (s.data.toList.drop m)):=by
 have c:(s.data.toList.drop k).length=s.size-k:=by simp
 have d:=uG _ a
 rw[lP f _ _ (by omega) a (m-k) (by
  rw[c,bH_,b,DY s.size (s.size-k) _ (by simp) (by simp;omega)];omega)]
 rw[bH_,show k+(m-k)=m by omega,<-List.take_add,show k+(m-k)=m by omega]
def gS{w w1:World}{b:Nat}{e:TypeId}{a:Nat}{v:Value}{n:Nat}{xs:List Value}(h:w.ownsRow b e a v n xs)(l:Below w.heap.size w w1):w1.ownsRow b e a v n xs:=by
 refine⟨h.1,?_⟩;rcases h.2 with d|⟨g,f,c,k,d,i,j⟩
 ·exact av_ d
 ·refine as_ ⟨g,f,c,k,d,?_,j⟩;rw[l.block g ?_];exact i;by_cases m:g<w.heap.size
  ·exact m
  ·rw[bj_ (by omega)] at i;cases i
def cC{w:World}{b:Nat}{e:TypeId}{a:Nat}{v:Value}{n:Nat}{xs:List Value}(h:w.ownsRow b e a v n xs):∀k,v.ownBlock=some k->b<=k:=by
 intro k c;rcases h.2 with ⟨rfl,_⟩|⟨g,f,d,rfl,i,_⟩
 ·cases c
 ·have:g=k:=Option.some.inj c;omega
def aB{p:Prop}(h:p):Hid p:=h
structure Ctx where
 pb:Nat
 g:Nat
 cap:Nat
 ts:List aX
structure Fr(pb:Nat)(w w':World):Prop where
 os:w'.os=w.os
 tape:w'.tape=w.tape
 output:w'.output=w.output
 size:w.heap.size<=w'.heap.size
 block:∀k,k<w.heap.size->k≠pb->w'.heap[k]?=w.heap[k]?
def Fr.refl(pb:Nat)(w:World):Fr pb w w:=⟨rfl,rfl,rfl,au_ _,fun _ _ _=>rfl⟩
def Fr.trans{pb:Nat}{a b c:World}(h:Fr pb a b)(k:Fr pb b c):Fr pb a c:=
 ⟨k.os.trans h.os,k.tape.trans h.tape,k.output.trans h.output,aF_ h.size k.size,fun i d e=>(k.block i (az_ d h.size) e).trans (h.block i d e)⟩
def Fr.below{pb:Nat}{w w':World}(h:Below w.heap.size w w'):Fr pb w w':=⟨h.os,h.tape,h.output,h.size,fun k a _=>h.block k a⟩
def Fr.drew{pb:Nat}{a w:World}(h:Fr pb a w):Fr pb a w.drew:=⟨h.os,h.tape,h.output,h.size,h.block⟩
def Fr.drewN{pb:Nat}{a w:World}(h:Fr pb a w)(n:Nat):Fr pb a (w.drewN n):=⟨h.os,h.tape,h.output,h.size,h.block⟩
def Fr.alloc{pb:Nat}{a w:World}(h:Fr pb a w)(o:Obj):Fr pb a (w.alloc o):=h.trans (Fr.below ((ay_ _ _).alloc (au_ _) _))
def Fr.setCell{pb:Nat}{a w:World}(h:Fr pb a w){p:Addr}(d:p.block=pb\/a.heap.size<=p.block)(u:Value):Fr pb a (w.setCell p u):=
 ⟨h.os,h.tape,h.output,by have:=h.size;simpa [World.setCell] using this,fun k b c=>by rw[ax_ _ _ _ _ (by omega)];exact h.block k b c⟩
def aD{w:World}{b:Nat}{o:Obj}(h:w.heap[b]?=some o):b<w.heap.size:=by
 by_cases a:b<w.heap.size
 ·exact a
 ·rw[bj_ (by omega)] at h;cases h
def aA{w:World}{b i:Nat}{c:Array Value}{e:TypeId}(h:w.heap[b]?=some (.cells c e (0,0))){v:Value}(a:c[i]?=some v):w.cell? ⟨b,i,none⟩=some v:=by
 simp[World.cell?,h,a]
def aE{w:World}{b i:Nat}{c:Array Value}{e:TypeId}(h:w.heap[b]?=some (.cells c e (0,0))):w.frozen? ⟨b,i,none⟩=false:=by
 simp[World.frozen?,h]
def aS{w:World}{b i:Nat}{c:Array Value}{e:TypeId}{f:Nat × Nat}(h:w.heap[b]?=some (.cells c e f)){u:Value}:(w.setCell ⟨b,i,none⟩ u).heap[b]?=some (.cells (c.setIfInBounds i u) e f):=by
 simp[World.setCell,Array.getElem?_modify,h]
def jX(R:Value->aC->Prop):List Value->List aC->Prop
 |[],[]=>True
 |v::vs,a::ks=>R v a/\jX R vs ks
 |_,_=>False
def jX.mono{R S:Value->aC->Prop}(h:∀v a,R v a->S v a):∀{vs ks},jX R vs ks->jX S vs ks
 |[],[],_=>trivial
 |_::_,_::_,⟨c,b⟩=>⟨h _ _ c,jX.mono h b⟩
 |[],_::_,h=>h.elim
 |_::_,[],h=>h.elim
def jX.snoc{R:Value->aC->Prop}:∀{vs ks} {v a},jX R vs ks->R v a->jX R (vs++[v]) (ks++[a])
 |[],[],_,_,_,h=>⟨h,trivial⟩
 |_::_,_::_,_,_,⟨c,b⟩,h=>⟨c,jX.snoc b h⟩
 |[],_::_,_,_,h,_=>h.elim
 |_::_,[],_,_,h,_=>h.elim
def Btw(lo hi:Nat)(b:Nat):Prop:=lo<=b/\b<hi
def aY{w w1:World}{b:Nat}{e:TypeId}{a:Nat}{v:Value}{n:Nat}{xs:List Value}(h:w.ownsRow b e a v n xs)(l:∀k,v.ownBlock=some k->w1.heap[k]?=w.heap[k]?):w1.ownsRow b e a v n xs:=by
 refine⟨h.1,?_⟩;rcases h.2 with d|⟨g,f,c,i,d,m,j⟩
 ·exact av_ d
 ·refine as_ ⟨g,f,c,i,d,?_,j⟩;rw[l g (by rw[i];rfl)];exact m
def cK{w:World}{b:Nat}{e:TypeId}{a:Nat}{v:Value}{n:Nat}{xs:List Value}(h:w.ownsRow b e a v n xs):∀k,v.ownBlock=some k->k<w.heap.size:=by
 intro k c;rcases h.2 with ⟨rfl,_⟩|⟨g,f,d,rfl,j,i,_⟩
 ·cases c
 ·have:g=k:=Option.some.inj c;subst this;exact aD i
def Fr.grown{pb:Nat}{a w w':World}{b:Option Nat}(h:Fr pb a w)(c:w.grownBy w' b)(f:∀k,b=some k->a.heap.size<=k):Fr pb a w':=
 ⟨c.os.trans h.os,c.tape.trans h.tape,c.output.trans h.output,aF_ h.size c.size,fun k d g=>by
   rw[c.block k (az_ d h.size) (fun e=>by have:=f k e.symm;omega)];exact h.block k d g⟩
def aM(X:World)(n:Nat)(b:n=X.heap.size)(a:Obj):(X.alloc a).heap[n]?=some a:=by
 subst b;show (X.heap.push a)[X.heap.size]?=_
 rw[Array.getElem?_push,if_pos rfl]
def oU(X:World)(n:Nat)(a:n<X.heap.size)(o:Obj){b:Option Obj}(h:X.heap[n]?=b):(X.alloc o).heap[n]?=b:=by
 rw[aA_ _ _ _ a];exact h
def xE{w w':World}{b i:Nat}(h:w'.heap[b]?=w.heap[b]?):w'.cell? ⟨b,i,none⟩=w.cell? ⟨b,i,none⟩:=by simp[World.cell?,h]
def kJ(l:List (List UInt8)):List Value:=l.map fun x=>.string (bs x)
def WY:(prog.info? 9).map (fun i=>(i.zero,i.size,i.bytes))=some (some (.string (bs [])),1,16):=by kernel_rfl
def jX.get{R:Value->aC->Prop}:∀{vs ks} (i:Nat) (b:i<ks.length),jX R vs ks->∃v,vs[i]?=some v/\R v ks[i]
 |v::vs,a::ks,0,_,h=>⟨v,rfl,h.1⟩
 |v::vs,a::ks,i+1,b,h=>by
  obtain⟨u,d,c⟩:=jX.get (vs:=vs) (ks:=ks) i (by simpa using b) h.2
  exact⟨u,by simpa using d,by simpa using c⟩
 |[],_::_,_,_,h=>h.elim
 |_::_,[],_,b,_=>by simp at b
 |[],[],_,b,_=>by simp at b
def nH(s:aZ)(l k:Nat):(s.found l k).seen=s.seen:=by
 unfold aZ.found;split<;>rfl
def VV{fs:List aC}{b:Bool}{s:aZ}{a:aC}{W:Int}(h:lS fs b a.text=W)(c:W<0):eB fs b s a=s.found a.line 6:=by
 unfold eB;rw[h,if_pos c]
def E6{fs:List aC}{b:Bool}{s:aZ}{a:aC}{W:Int}(h:lS fs b a.text=W)(d:¬W<0)(c:W≠(a.kids.length:Int)):eB fs b s a=s.found a.line 7:=by
 unfold eB;rw[h,if_neg d,if_pos c]
def E7{fs:List aC}{b:Bool}{s:aZ}{a:aC}{W:Int}(h:lS fs b a.text=W)(d:¬W<0)(c:W=(a.kids.length:Int)):eB fs b s a=s:=by
 unfold eB;rw[h,if_neg d,if_neg (by simpa using c)]
def UJ(fs:List aC)(a:Bool)(s:aZ)(n:aC):(cD fs a s n).seen=s.seen:=by
 unfold cD eB;repeat' split
 all_goals first|rfl|exact nH _ _ _
def nA(s:aZ)(n:aC):(Hs.declaresL s n).seen=s.seen:=by
 unfold Hs.declaresL;split
 ·exact nH _ _ _
 ·rfl
def Adds(s s':aZ)(m:Nat):Prop:=∃t,s'.seen=s.seen++t/\t.length<=m
def Adds.refl(s:aZ):Adds s s 0:=⟨[],by simp,au_ _⟩
def Adds.trans{a b c:aZ}{m n:Nat}(h:Adds a b m)(k:Adds b c n):Adds a c (m+n):=by
 obtain⟨t,e,g⟩:=h;obtain⟨u,d,f⟩:=k;exact⟨t++u,by rw[d,e,bd_],by simp;omega⟩
def Adds.le{a b:aZ}{m n:Nat}(h:Adds a b m)(e:m<=n):Adds a b n:=by
 obtain⟨t,c,d⟩:=h;exact⟨t,c,by omega⟩
def Adds.of_eq{a b:aZ}(h:b.seen=a.seen):Adds a b 0:=⟨[],by simp[h],au_ _⟩
def Adds.fold{f:aZ->aC->aZ}{g:aC->Nat}(h:∀s k,Adds s (f s k) (g k)):∀(l:List aC) (s:aZ),Adds s (l.foldl f s) (l.map g).sum
 |[],s=>Adds.refl s
 |k::l,s=>by
  rw[bD_,aM_,aO_];exact(h s k).trans (Adds.fold h l _)
def fN(fs:List aC)(a:Bool):∀(d:Nat) (n:aC) (s:aZ),Adds s (aO fs a d n s) (bW d n)
 |0,n,s=>Adds.refl s
 |d+1,n,s=>by
  rw[aO,bW];split
  ·match i:n.kids with
   |t::v::r=>
    simp only;have c:Adds s (Hs.declaresL s t) 0:=Adds.of_eq (nA s t);obtain⟨u,b,e⟩:=c.trans (fN fs a d v (Hs.declaresL s t));exact⟨u++[t.text],by simp[b],by simp;omega⟩
   |[]=>exact(Adds.refl s).le (by omega)
   |[_]=>exact(Adds.refl s).le (by omega)
  ·have c:Adds s (cD fs a s n) 0:=Adds.of_eq (UJ fs a s n);have b:=c.trans (Adds.fold (f:=fun s k=>aO fs a d k s) (g:=bW d) (fun s k=>fN fs a d k s) n.kids (cD fs a s n))
   split
   ·obtain⟨u,e,h⟩:=b;exact⟨[],by simp[e],by simp⟩
   ·exact b.le (by omega)
def tM{f:aC->Nat}{k:aC}:∀{l:List aC},k∈l->f k<=(l.map f).sum
 |[],h=>by cases h
 |x::l,h=>by
  simp only[aM_,aO_];rcases aG_.1 h with rfl|h
  ·omega
  ·have:=tM (f:=f) h;omega
def NC{w:World}{base:Nat}{v:Value}{l:List (List UInt8)}(h:w.ownsRow base 9 1 v l.length (kJ l))(m:Nat)(q:m<=l.length):
 ∃x c,v=.slice x l.length c/\l.length<=c/\c<=maxLen/\w.ownsRow base 9 1 (.slice x m c) m (kJ (l.take m)):=by
 have f:(kJ (l.take m)).length=m*1:=by simp[kJ];omega
 rcases h.2 with ⟨rfl,j⟩|⟨g,a,b,rfl,i,o,k,d,p,n⟩
 ·refine⟨none,0,by rw[j],by omega,by unfold maxLen;omega,f,av_ ⟨?_,by omega⟩⟩
  rw[show m=0 by omega]
 ·refine⟨_,a,rfl,k,d,f,as_ ⟨g,a,b,rfl,i,o,by omega,d,p,?_⟩⟩
  have e:kJ (l.take m)=(kJ l).take m:=by simp[kJ,List.map_take]
  rw[e,<-n,bO_];congr 1;omega
def OR(w:World)(x:List UInt8):∀j u,([.string (bs x)]:List Value)[j]?=some u->(w.alloc (.cells #[.string (bs x)] 9)).cell? ((⟨w.heap.size,0,none⟩:Addr).add j)=some u:=by
 intro j u a;match j,a with
 |0,a=>simp at a;subst a;simp[Addr.add,go_sem]
 |j+1,a=>simp at a
def WR(x:List UInt8):∀u∈([.string (bs x)]:List Value),u.oneCell'=true:=by
 intro u a;simp at a;subst a;rfl
def oS(d:Nat):∀l:List aC,l.length<=(l.map (bW (d+1))).sum
 |[]=>by simp
 |x::l=>by
  have:=oS d l;have a:1<=bW (d+1) x:=by rw[bW];omega
  simp only[aB_,aM_,aO_];omega
def FineL.mem{m:Nat}{l:List aC}(h:Hs.FineL m l){f:aC}(a:f∈l):Hs.FineA m f:=fun d=>⟨aF_ (tM a) (h d).1,(h d).2 f a⟩
def FineL.len{m:Nat}{l:List aC}(h:Hs.FineL m l):l.length<=m:=aF_ (oS 0 l) (h 1).1
end Go.Proofs.YtblbkfdhjfppkaaGreatDoor
