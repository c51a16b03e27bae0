/- Plain: an expression's instructions, on to their end. -/
import Derived.Test.YtddnpoiiimjpcaaGreatDoorB02
import Derived.Test.YtddnpoiiimjpcaaGreatDoorP02
set_option linter.defProp false
set_option maxRecDepth 100000
namespace Go.Proofs.YtddnpoiiimjpcaaGreatDoor.Hs
def aG.isEx:aG->Bool
 |.push _=>true
 |.load _=>true
 |.shortcut _ _=>true
 |.truth=>true
 |.unary _=>true
 |.binary _=>true
 |.index=>true
 |.list _=>true
 |.length=>true
 |_=>false
structure U9(i:aG)(f:aJ):Prop where
 ex:i.isEx=true
 ops:f.ops.length<=99000
 utf:dL f
 mem:i∈f.fn.code
 at_:∃(ar:Nat->Option Nat) (D:cC) (T:Nat->eF) (p:Nat),iG ar D T p i/\(T p).h=f.ops.length/\(T p).v<=f.vars.length
def digitsF_len(f:Nat):∀(n:Nat) (t:cE),(digitsF f n t).length<=f+t.length:=by
 induction f with
 |zero=>intro n t;simp[digitsF]
 |succ f a=>
  intro n t;simp only[digitsF];split
  ·simp;omega
  ·have:=a (n/10) (UInt8.ofNat (48+n%10)::t);rw[Y9] at this;omega
end Go.Proofs.YtddnpoiiimjpcaaGreatDoor.Hs
namespace Go.Proofs.YtddnpoiiimjpcaaGreatDoor
open Hs
open _root_.Go.Proofs.Tryz
open Go.RowKit
def VI(s:ByteArray)(k:Nat)(h:k<s.size):s.data.toList.take (k+1)=s.data.toList.take k++[s[k]]:=by
 rw[i6 (by simpa using h)];rfl
def TW{k:IntKind}{a b:Int}(h:a=b):Ending.returned (.int k a)=bE (.int k b):=by rw[h]
def jB{a b:Bool}(h:a=b):Ending.returned (.bool a)=bE (.bool b):=by rw[h]
def R6(c d:UInt8):(c=d)↔((c.toNat:Int)=(d.toNat:Int)):=by
 rw[<-aj_];omega
def nI(c:UInt8):(c.toNat:Int)<=255:=by have:=c.toNat_lt;omega
def yP(s:ByteArray)(k:Nat)(h:k<s.size):s.data.toList[k]?=some s[k]:=by
 simp[h];rfl
def ED(s:ByteArray)(n i:Nat)(h:n+i<s.size):(s.data.toList.drop n)[i]?=some s[n+i]:=by
 rw[ak_];exact yP s _ h
def SG{l:cE}{i lo b:Nat}(h:dI l i lo b=true):i<l.length:=by
 unfold dI at h;by_cases a:i<l.length
 ·exact a
 ·rw[j8 (by omega)] at h;cases h
def YR(l:cE):bG l<=l.length:=by
 unfold bG;split
 ·omega
 ·rename_i b a
  have c:0<l.length:=by
   by_cases h:0<l.length
   ·exact h
   ·rw[j8 (by omega)] at a;cases a
  repeat' split
  all_goals first
   |omega
   |(have:=SG ‹dI l 1 _ _=true›;omega)
   |(have h:=‹(dI l 1 _ _ && dI l 2 _ _)=true›
     simp only[j3] at h;have:=SG h.2;omega)
   |(have h:=‹(dI l 1 _ _ && dI l 2 _ _ && dI l 3 _ _)=true›
     simp only[j3] at h;have:=SG h.2;omega)
def IK(l:cE)(p f:Nat)(h:0<l.length)(a:bG l≠0):dU (f+1) l p=dU f (l.drop (bG l)) (p+bG l):=by
 rw[dU,if_neg (by omega),if_neg a]
def LO(l:cE)(p f:Nat)(h:0<l.length)(a:bG l=0):dU (f+1) l p=some p:=by
 rw[dU,if_neg (by omega),if_pos a]
def LN(l:cE)(p f:Nat)(h:l.length=0):dU f l p=none:=by
 cases f with
 |zero=>rfl
 |succ f=>rw[dU,if_pos h]
def lW(x l:cE)(h:x.length<=l.length):x.isPrefixOf l=(l.take x.length==x):=by
 induction x generalizing l with
 |nil=>simp
 |cons a x c=>
  cases l with
  |nil=>simp at h
  |cons b l=>
   simp only[List.isPrefixOf,Y9,v8,List.cons_beq_cons];rw[c l (by simpa using h),show (a==b)=(b==a) from Bool.beq_comm]
def yN(x l:cE)(h:l.length<x.length):x.isPrefixOf l=false:=by
 rw[Bool.eq_false_iff];intro a;have:=(ao_.1 a).length_le;omega
def kO(s:ByteArray)(k:Nat)(h:k<s.size):s.data.toList.drop k=s[k]::s.data.toList.drop (k+1):=by
 rw[aq_ (by simpa using h)];rfl
def TL(f:Nat):Hs.blankL f []=0:=by cases f<;>rfl
def KJ(f:Nat)(c:UInt8)(r:cE)(h:c.toNat=32\/c.toNat=9\/c.toNat=10):Hs.blankL (f+1) (c::r)=Hs.blankL f r+1:=by
 rw[Hs.blankL,if_pos h]
def EU(f:Nat)(c:UInt8)(r:cE)(h:¬(c.toNat=32\/c.toNat=9\/c.toNat=10))(a:cS (c::r) [47,47]=true):
 Hs.blankL (f+1) (c::r)=bL eL (c::r)+Hs.blankL f ((c::r).drop (bL eL (c::r))):=by
 rw[Hs.blankL,if_neg h,if_pos a]
def PE(f:Nat)(c:UInt8)(r:cE)(h:¬(c.toNat=32\/c.toNat=9\/c.toNat=10))(a:cS (c::r) [47,47]=false):
 Hs.blankL (f+1) (c::r)=0:=by
 rw[Hs.blankL,if_neg h,if_neg (by rw[a];simp)]
def qU(p:UInt8->Bool)(c:UInt8)(r:cE)(h:p c=true):bL p (c::r)=bL p r+1:=by rw[bL,if_pos h]
def LP(p:UInt8->Bool)(c:UInt8)(r:cE)(h:p c=false):bL p (c::r)=0:=by rw[bL,if_neg (by rw[h];simp)]
def WN(b:UInt8):eL b=((b.toNat:Int) != 10):=by
 unfold eL;rw[ar_];simp;omega
def bs(l:cE):ByteArray:=⟨l.toArray⟩
def jN(l:cE):(bs l).data.toList=l:=by simp[bs]
def iM(l:cE):(bs l).size=l.length:=by simp[bs,ByteArray.size]
def G8{a b:ByteArray}(h:a.data.toList=b.data.toList):a=b:=by
 cases a;cases b;simp only at h;congr 1;exact Array.toList_inj.1 h
def BU(s:ByteArray)(a b:Nat):s.extract a b=bs ((s.data.toList.drop a).take (b-a)):=
 G8 (by rw[Lib.extract_data,jN])
def cF(l:cE):(bs l).toList=l:=by rw[Lib.toList_data,jN]
def qV(p:UInt8->Bool)(l:cE):∀c∈l.take (bL p l),p c=true:=by
 induction l with
 |nil=>simp
 |cons a r d=>
  intro c b;by_cases h:p a=true
  ·rw[qU _ _ _ h,v8] at b;rcases Z6.1 b with rfl|b
   ·exact h
   ·exact d c b
  ·rw[LP _ _ _ (by simpa using h)] at b;simp at b
def bcell{W w1:aH}(a:Below W.heap.size W w1):(∀b o,b<W.heap.size->w1.cell? (aL b o)=W.cell? (aL b o))/\(∀b o,b<W.heap.size->w1.frozen? (aL b o)=W.frozen? (aL b o)):=
 ⟨fun b o h=>a.cell (p:=(aL b o)) h,fun b o h=>a.frozen (p:=(aL b o)) h⟩
def JC:∀k (h:k<21),(cR[k]'(by simpa [cR] using h)).length<=2:=by decide
def vP(l:cE)(k:Nat):Prop:=∀o∈cR.take k,cS l o=false
def MQ{l:cE}{k:Nat}(h:k<21)(c:vP l k)(b:cS l (cR[k]'(by simpa [cR] using h))=false):vP l (k+1):=by
 intro o a;rw[i6 (by simpa [cR] using h)] at a
 rcases Z2.1 a with a|a
 ·exact c o a
 ·rw[Z1.1 a];exact b
def RC{l:cE}{k:Nat}(h:k<21)(c:vP l k)(q:cE)(b:q=cR[k]'(by simpa [cR] using h))(a:cS l q=true):
 gO l={ sort:=112,text:=q,size:=q.length,ok:=true }:=by
 have e:cR.find? (fun o=>cS l o)=some q:=by
  rw[List.find?_eq_some_iff_getElem];refine⟨a,k,by simpa [cR] using h,b.symm,fun j d=>?_⟩
  have:=c (cR[j]'(by have:cR.length=21:=rfl;omega)) (by
   rw[List.mem_take_iff_getElem];exact⟨j,by have:cR.length=21:=rfl;omega,rfl⟩)
  simp[this]
 unfold gO;rw[e]
def MK{l:cE}(b:vP l 21):gO l={ sort:=0,text:=[],size:=0,ok:=false }:=by
 have e:cR.find? (fun o=>cS l o)=none:=by
  rw[ad_];intro o a;rw[b o (by rw[j7 (by decide)];exact a)];simp
 unfold gO;rw[e]
def ZT(s:ByteArray)(k f:Nat)(e:k<s.size)(a:(cA (s.data.toList.drop k)).ok=true)(m:Nat)
 (b:m=k+(cA (s.data.toList.drop k)).size+Hs.blankL s.size (s.data.toList.drop (k+(cA (s.data.toList.drop k)).size))):
 eP (f+1) (s.data.toList.take k) (s.data.toList.drop k)=
  iK [{ sort:=(cA (s.data.toList.drop k)).sort,text:=(cA (s.data.toList.drop k)).text,line:=bB (s.data.toList.take k) }] (eP f (s.data.toList.take m) (s.data.toList.drop m)):=by
 have c:(s.data.toList.drop k).length=s.size-k:=by simp
 have d:=tI _ a
 rw[lO f _ _ (by omega) a (m-k) (by
  rw[c,ab_,b,CS s.size (s.size-k) _ (by simp) (by simp;omega)];omega)]
 rw[ab_,show k+(m-k)=m by omega,<-List.take_add,show k+(m-k)=m by omega]
def iS{w w1:aH}{b:Nat}{e:TypeId}{a:Nat}{v:aQ}{n:Nat}{xs:List Value}(h:w.ownsRow b e a v n xs)(l:Below w.heap.size w w1):w1.ownsRow b e a v n xs:=by
 refine⟨h.1,?_⟩;rcases h.2 with d|⟨g,f,c,k,d,i,j⟩
 ·exact Y4 d
 ·refine Y3 ⟨g,f,c,k,d,?_,j⟩;rw[l.block g ?_];exact i;by_cases m:g<w.heap.size
  ·exact m
  ·rw[r8 (by omega)] at i;cases i
def cM{w:aH}{b:Nat}{e:TypeId}{a:Nat}{v:aQ}{n:Nat}{xs:List Value}(h:w.ownsRow b e a v n xs):∀k,v.ownBlock=some k->b<=k:=by
 intro k c;rcases h.2 with ⟨rfl,_⟩|⟨g,f,d,rfl,i,_⟩
 ·cases c
 ·have:g=k:=Option.some.inj c;omega
def aB{p:Prop}(h:p):Hid p:=h
structure Ctx where
 pb:Nat
 g:Nat
 cap:Nat
 ts:List aX
structure Fr(pb:Nat)(w w':aH):Prop where
 os:w'.os=w.os
 tape:w'.tape=w.tape
 output:w'.output=w.output
 size:w.heap.size<=w'.heap.size
 block:∀k,k<w.heap.size->k≠pb->w'.heap[k]?=w.heap[k]?
def Fr.refl(pb:Nat)(w:aH):Fr pb w w:=⟨rfl,rfl,rfl,dH,fun _ _ _=>rfl⟩
def Fr.trans{pb:Nat}{a b c:aH}(h:Fr pb a b)(k:Fr pb b c):Fr pb a c:=
 ⟨k.os.trans h.os,k.tape.trans h.tape,k.output.trans h.output,Z4 h.size k.size,fun i d e=>(k.block i (Y7 d h.size) e).trans (h.block i d e)⟩
def Fr.below{pb:Nat}{w w':aH}(h:Below w.heap.size w w'):Fr pb w w':=⟨h.os,h.tape,h.output,h.size,fun k a _=>h.block k a⟩
def Fr.drew{pb:Nat}{a w:aH}(h:Fr pb a w):Fr pb a w.drew:=⟨h.os,h.tape,h.output,h.size,h.block⟩
def Fr.drewN{pb:Nat}{a w:aH}(h:Fr pb a w)(n:Nat):Fr pb a (w.drewN n):=⟨h.os,h.tape,h.output,h.size,h.block⟩
def Fr.alloc{pb:Nat}{a w:aH}(h:Fr pb a w)(o:Obj):Fr pb a (w.alloc o):=h.trans (Fr.below ((Y8 _ _).alloc dH _))
def Fr.setCell{pb:Nat}{a w:aH}(h:Fr pb a w){p:Addr}(d:p.block=pb\/a.heap.size<=p.block)(u:aQ):Fr pb a (w.setCell p u):=
 ⟨h.os,h.tape,h.output,by have:=h.size;simpa [World.setCell] using this,fun k b c=>by rw[Y6 _ _ _ _ (by omega)];exact h.block k b c⟩
def aD{w:aH}{b:Nat}{o:Obj}(h:w.heap[b]?=some o):b<w.heap.size:=by
 by_cases a:b<w.heap.size
 ·exact a
 ·rw[r8 (by omega)] at h;cases h
def aA{w:aH}{b i:Nat}{c:Array Value}{e:TypeId}(h:w.heap[b]?=some (.cells c e (0,0))){v:aQ}(a:c[i]?=some v):w.cell? (aL b i)=some v:=by
 simp[World.cell?,h,a]
def aE{w:aH}{b i:Nat}{c:Array Value}{e:TypeId}(h:w.heap[b]?=some (.cells c e (0,0))):w.frozen? (aL b i)=false:=by
 simp[World.frozen?,h]
def aT{w:aH}{b i:Nat}{c:Array Value}{e:TypeId}{f:Nat × Nat}(h:w.heap[b]?=some (.cells c e f)){u:aQ}:(w.setCell (aL b i) u).heap[b]?=some (.cells (c.setIfInBounds i u) e f):=by
 simp[World.setCell,Array.getElem?_modify,h]
def jZ(R:Value->aC->Prop):List Value->List aC->Prop
 |[],[]=>True
 |v::vs,a::ks=>R v a/\jZ R vs ks
 |_,_=>False
def jZ.mono{R S:Value->aC->Prop}(h:∀v a,R v a->S v a):∀{vs ks},jZ R vs ks->jZ S vs ks
 |[],[],_=>trivial
 |_::_,_::_,⟨c,b⟩=>⟨h _ _ c,jZ.mono h b⟩
 |[],_::_,h=>h.elim
 |_::_,[],h=>h.elim
def jZ.snoc{R:Value->aC->Prop}:∀{vs ks} {v a},jZ R vs ks->R v a->jZ R (vs++[v]) (ks++[a])
 |[],[],_,_,_,h=>⟨h,trivial⟩
 |_::_,_::_,_,_,⟨c,b⟩,h=>⟨c,jZ.snoc b h⟩
 |[],_::_,_,_,h,_=>h.elim
 |_::_,[],_,_,h,_=>h.elim
def Btw(lo hi:Nat)(b:Nat):Prop:=lo<=b/\b<hi
def bA{w w1:aH}{b:Nat}{e:TypeId}{a:Nat}{v:aQ}{n:Nat}{xs:List Value}(h:w.ownsRow b e a v n xs)(l:∀k,v.ownBlock=some k->w1.heap[k]?=w.heap[k]?):w1.ownsRow b e a v n xs:=by
 refine⟨h.1,?_⟩;rcases h.2 with d|⟨g,f,c,i,d,m,j⟩
 ·exact Y4 d
 ·refine Y3 ⟨g,f,c,i,d,?_,j⟩;rw[l g (by rw[i];rfl)];exact m
def cP{w:aH}{b:Nat}{e:TypeId}{a:Nat}{v:aQ}{n:Nat}{xs:List Value}(h:w.ownsRow b e a v n xs):∀k,v.ownBlock=some k->k<w.heap.size:=by
 intro k c;rcases h.2 with ⟨rfl,_⟩|⟨g,f,d,rfl,j,i,_⟩
 ·cases c
 ·have:g=k:=Option.some.inj c;subst this;exact aD i
def Fr.grown{pb:Nat}{a w w':aH}{b:Option Nat}(h:Fr pb a w)(c:w.grownBy w' b)(f:∀k,b=some k->a.heap.size<=k):Fr pb a w':=
 ⟨c.os.trans h.os,c.tape.trans h.tape,c.output.trans h.output,Z4 h.size c.size,fun k d g=>by
   rw[c.block k (Y7 d h.size) (fun e=>by have:=f k e.symm;omega)];exact h.block k d g⟩
def aU(X:aH)(n:Nat)(b:n=X.heap.size)(a:Obj):(X.alloc a).heap[n]?=some a:=by
 subst b;show (X.heap.push a)[X.heap.size]?=_
 rw[Array.getElem?_push,if_pos rfl]
def oM(X:aH)(n:Nat)(a:n<X.heap.size)(o:Obj){b:Option Obj}(h:X.heap[n]?=b):(X.alloc o).heap[n]?=b:=by
 rw[Z3 _ _ _ a];exact h
def wF{w w':aH}{b i:Nat}(h:w'.heap[b]?=w.heap[b]?):w'.cell? (aL b i)=w.cell? ⟨b,i,none⟩:=by simp[World.cell?,h]
def kJ(l:cO):List Value:=l.map fun x=>.string (bs x)
def UH:(prog.info? 9).map (fun i=>(i.zero,i.size,i.bytes))=some (some (.string (bs [])),1,16):=by kernel_rfl
def jZ.get{R:Value->aC->Prop}:∀{vs ks} (i:Nat) (b:i<ks.length),jZ R vs ks->∃v,vs[i]?=some v/\R v ks[i]
 |v::vs,a::ks,0,_,h=>⟨v,rfl,h.1⟩
 |v::vs,a::ks,i+1,b,h=>by
  obtain⟨u,d,c⟩:=jZ.get (vs:=vs) (ks:=ks) i (by simpa using b) h.2
  exact⟨u,by simpa using d,by simpa using c⟩
 |[],_::_,_,_,h=>h.elim
 |_::_,[],_,b,_=>by simp at b
 |[],[],_,b,_=>by simp at b
def nC(s:aZ)(l k:Nat):(s.found l k).seen=s.seen:=by
 unfold aZ.found;split<;>rfl
def TI{fs:List aC}{b:Bool}{s:aZ}{a:aC}{W:Int}(h:iO fs b a.text=W)(c:W<0):eJ fs b s a=s.found a.line 6:=by
 unfold eJ;rw[h,if_pos c]
def YY{fs:List aC}{b:Bool}{s:aZ}{a:aC}{W:Int}(h:iO fs b a.text=W)(d:¬W<0)(c:W≠(a.kids.length:Int)):eJ fs b s a=s.found a.line 7:=by
 unfold eJ;rw[h,if_neg d,if_pos c]
def YZ{fs:List aC}{b:Bool}{s:aZ}{a:aC}{W:Int}(h:iO fs b a.text=W)(d:¬W<0)(c:W=(a.kids.length:Int)):eJ fs b s a=s:=by
 unfold eJ;rw[h,if_neg d,if_neg (by simpa using c)]
def RY(fs:List aC)(a:Bool)(s:aZ)(n:aC):(cG fs a s n).seen=s.seen:=by
 unfold cG eJ;repeat' split
 all_goals first|rfl|exact nC _ _ _
def mW(s:aZ)(n:aC):(Hs.declaresL s n).seen=s.seen:=by
 unfold Hs.declaresL;split
 ·exact nC _ _ _
 ·rfl
def Adds(s s':aZ)(m:Nat):Prop:=∃t,s'.seen=s.seen++t/\t.length<=m
def Adds.refl(s:aZ):Adds s s 0:=⟨[],by simp,dH⟩
def Adds.trans{a b c:aZ}{m n:Nat}(h:Adds a b m)(k:Adds b c n):Adds a c (m+n):=by
 obtain⟨t,e,g⟩:=h;obtain⟨u,d,f⟩:=k;exact⟨t++u,by rw[d,e,m8],by simp;omega⟩
def Adds.le{a b:aZ}{m n:Nat}(h:Adds a b m)(e:m<=n):Adds a b n:=by
 obtain⟨t,c,d⟩:=h;exact⟨t,c,by omega⟩
def Adds.of_eq{a b:aZ}(h:b.seen=a.seen):Adds a b 0:=⟨[],by simp[h],dH⟩
def Adds.fold{f:aZ->aC->aZ}{g:aC->Nat}(h:∀s k,Adds s (f s k) (g k)):∀(l:List aC) (s:aZ),Adds s (l.foldl f s) (l.map g).sum
 |[],s=>Adds.refl s
 |k::l,s=>by
  rw[z7,b9,d9];exact(h s k).trans (Adds.fold h l _)
def gA(fs:List aC)(a:Bool):∀(d:Nat) (n:aC) (s:aZ),Adds s (aN fs a d n s) (bY d n)
 |0,n,s=>Adds.refl s
 |d+1,n,s=>by
  rw[aN,bY];split
  ·match i:n.kids with
   |t::v::r=>
    simp only;have c:Adds s (Hs.declaresL s t) 0:=Adds.of_eq (mW s t);obtain⟨u,b,e⟩:=c.trans (gA fs a d v (Hs.declaresL s t));exact⟨u++[t.text],by simp[b],by simp;omega⟩
   |[]=>exact(Adds.refl s).le (by omega)
   |[_]=>exact(Adds.refl s).le (by omega)
  ·have c:Adds s (cG fs a s n) 0:=Adds.of_eq (RY fs a s n);have b:=c.trans (Adds.fold (f:=fun s k=>aN fs a d k s) (g:=bY d) (fun s k=>gA fs a d k s) n.kids (cG fs a s n))
   split
   ·obtain⟨u,e,h⟩:=b;exact⟨[],by simp[e],by simp⟩
   ·exact b.le (by omega)
def sS{f:aC->Nat}{k:aC}:∀{l:List aC},k∈l->f k<=(l.map f).sum
 |[],h=>by cases h
 |x::l,h=>by
  simp only[b9,d9];rcases Z6.1 h with rfl|h
  ·omega
  ·have:=sS (f:=f) h;omega
def LI{w:aH}{base:Nat}{v:aQ}{l:cO}(h:w.ownsRow base 9 1 v l.length (kJ l))(m:Nat)(q:m<=l.length):
 ∃x c,v=.slice x l.length c/\l.length<=c/\c<=maxLen/\w.ownsRow base 9 1 (.slice x m c) m (kJ (l.take m)):=by
 have f:(kJ (l.take m)).length=m*1:=by simp[kJ];omega
 rcases h.2 with ⟨rfl,j⟩|⟨g,a,b,rfl,i,o,k,d,p,n⟩
 ·refine⟨none,0,by rw[j],by omega,by unfold maxLen;omega,f,Y4 ⟨?_,by omega⟩⟩
  rw[show m=0 by omega]
 ·refine⟨_,a,rfl,k,d,f,Y3 ⟨g,a,b,rfl,i,o,by omega,d,p,?_⟩⟩
  have e:kJ (l.take m)=(kJ l).take m:=by simp[kJ,List.map_take]
  rw[e,<-n,ag_];congr 1;omega
def MR(w:aH)(x:cE):∀j u,([.string (bs x)]:List Value)[j]?=some u->(w.alloc (.cells #[.string (bs x)] 9)).cell? ((⟨w.heap.size,0,none⟩:Addr).add j)=some u:=by
 intro j u a;match j,a with
 |0,a=>simp at a;subst a;simp[Addr.add,go_sem]
 |j+1,a=>simp at a
def TZ(x:cE):∀u∈([.string (bs x)]:List Value),u.oneCell'=true:=by
 intro u a;simp at a;subst a;rfl
def oK(d:Nat):∀l:List aC,l.length<=(l.map (bY (d+1))).sum
 |[]=>by simp
 |x::l=>by
  have:=oK d l;have a:1<=bY (d+1) x:=by rw[bY];omega
  simp only[Y9,b9,d9];omega
def FineL.mem{m:Nat}{l:List aC}(h:Hs.FineL m l){f:aC}(a:f∈l):Hs.FineA m f:=fun d=>⟨Z4 (sS a) (h d).1,(h d).2 f a⟩
def FineL.len{m:Nat}{l:List aC}(h:Hs.FineL m l):l.length<=m:=Z4 (oK 0 l) (h 1).1
end Go.Proofs.YtddnpoiiimjpcaaGreatDoor
