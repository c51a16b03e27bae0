/- Plain: an operation of two Ints as an expression: its tokens, its tree, its instructions, what they come to. -/
import Derived.Test.YtblbkfdhjfppkaaGreatDoorB03
import Derived.Test.YtblbkfdhjfppkaaGreatDoorP01
set_option maxRecDepth 100000
namespace Go.Proofs.YtblbkfdhjfppkaaGreatDoor.Hs
theorem KT(y:Int):∃d s,cS y=d::s/\(bY d=true\/d=40):=by
 unfold cS;split
 ·exact⟨40,_,rfl,.inr rfl⟩
 ·split
  ·exact⟨40,_,rfl,.inr rfl⟩
  ·obtain⟨d,s,h1,h2⟩:=mB y.natAbs [];exact⟨d,s,by simpa using h1,.inl h2⟩
theorem BQ(f:Nat):∀(l:List UInt8) (p:Nat),(∀c∈l,c.toNat<128)->dE f l p=none:=by
 induction f with
 |zero=>intro l p _;rfl
 |succ f ih=>
  intro l p h;cases l with
  |nil=>rfl
  |cons c r=>
   have hc:bC (c::r)=1:=by
    unfold bC;simp only[bb_];rw[if_pos (h c (by simp))]
   unfold dE;rw[hc,if_neg (by simp),if_neg (by omega)]
   exact ih _ _ fun z hz=>h z (by simp at hz;simp[hz])
theorem fT{a b:List UInt8}(ha:∀c∈a,c.toNat<128)(hb:∀c∈b,c.toNat<128):∀c∈a++b,c.toNat<128:=by
 intro c hc;rcases o7.1 hc with h|h
 ·exact ha c h
 ·exact hb c h
theorem nI(n:Nat):∀c∈dO n,c.toNat<128:=by
 intro c hc;have:=lM n c hc;unfold bY at this;simp only[y6,decide_eq_true_eq] at this;omega
theorem xW(x:Int):∀c∈cS x,c.toNat<128:=by
 unfold cS;split
 ·exact fT (by decide) (fT (nI _) (fT (by decide) (fT (nI _) (by decide))))
 ·split
  ·exact fT (by decide) (fT (nI _) (by decide))
  ·exact nI _
theorem nG(x:Int):(cS x).length<=50:=by
 unfold cS;have h1:=nJ 9223372036854775807;have h2:=nJ 1;have h3:=nJ x.natAbs;split
 ·simp only[m6,n8,p6];omega
 ·split
  ·simp only[m6,n8,p6];omega
  ·omega
end Go.Proofs.YtblbkfdhjfppkaaGreatDoor.Hs
namespace Go.Proofs.YtblbkfdhjfppkaaGreatDoor
open Hs
open Tryz(prog)
open Go.RowKit
theorem XB(s:ByteArray)(k:Nat)(h:k<s.size):s.data.toList.take (k+1)=s.data.toList.take k++[s[k]]:=by
 rw[v7 (by simpa using h)];rfl
theorem VT{k:IntKind}{a b:Int}(h:a=b):Ending.returned (.int k a)=.returned (.int k b):=by rw[h]
theorem iZ{a b:Bool}(h:a=b):Ending.returned (.bool a)=.returned (.bool b):=by rw[h]
theorem X6(c d:UInt8):(c=d)↔((c.toNat:Int)=(d.toNat:Int)):=by
 rw[<-aU_];omega
theorem nK(c:UInt8):(c.toNat:Int)<=255:=by have:=c.toNat_lt;omega
theorem zO(s:ByteArray)(k:Nat)(h:k<s.size):s.data.toList[k]?=some s[k]:=by
 simp[h];rfl
theorem FM(s:ByteArray)(n i:Nat)(h:n+i<s.size):(s.data.toList.drop n)[i]?=some s[n+i]:=by
 rw[aV_];exact zO s _ h
theorem UG{l:List UInt8}{i lo hi:Nat}(h:dF l i lo hi=true):i<l.length:=by
 unfold dF at h;by_cases hi':i<l.length
 ·exact hi'
 ·rw[aa_ (by omega)] at h;cases h
theorem B1(l:List UInt8):bC l<=l.length:=by
 unfold bC;split
 ·omega
 ·rename_i b hb
  have h0:0<l.length:=by
   by_cases h:0<l.length
   ·exact h
   ·rw[aa_ (by omega)] at hb;cases hb
  repeat' split
  all_goals first
   |omega
   |(have:=UG ‹dF l 1 _ _=true›;omega)
   |(have h:=‹(dF l 1 _ _ && dF l 2 _ _)=true›
     simp only[y6] at h;have:=UG h.2;omega)
   |(have h:=‹(dF l 1 _ _ && dF l 2 _ _ && dF l 3 _ _)=true›
     simp only[y6] at h;have:=UG h.2;omega)
theorem JX(l:List UInt8)(p f:Nat)(h:0<l.length)(hc:bC l≠0):dE (f+1) l p=dE f (l.drop (bC l)) (p+bC l):=by
 rw[dE,if_neg (by omega),if_neg hc]
theorem NI(l:List UInt8)(p f:Nat)(h:0<l.length)(hc:bC l=0):dE (f+1) l p=some p:=by
 rw[dE,if_neg (by omega),if_pos hc]
theorem NH(l:List UInt8)(p f:Nat)(h:l.length=0):dE f l p=none:=by
 cases f with
 |zero=>rfl
 |succ f=>rw[dE,if_pos h]
theorem lU(x l:List UInt8)(h:x.length<=l.length):x.isPrefixOf l=(l.take x.length==x):=by
 induction x generalizing l with
 |nil=>simp
 |cons a x ih=>
  cases l with
  |nil=>simp at h
  |cons b l=>
   simp only[List.isPrefixOf,n8,aw_,List.cons_beq_cons];rw[ih l (by simpa using h),show (a==b)=(b==a) from Bool.beq_comm]
theorem zM(x l:List UInt8)(h:l.length<x.length):x.isPrefixOf l=false:=by
 rw[Bool.eq_false_iff];intro hh;have:=(aF_.1 hh).length_le;omega
theorem kL(s:ByteArray)(k:Nat)(h:k<s.size):s.data.toList.drop k=s[k]::s.data.toList.drop (k+1):=by
 rw[a0_ (by simpa using h)];rfl
theorem VJ(f:Nat):Hs.blankL f []=0:=by cases f<;>rfl
theorem MA(f:Nat)(c:UInt8)(r:List UInt8)(h:c.toNat=32\/c.toNat=9\/c.toNat=10):Hs.blankL (f+1) (c::r)=Hs.blankL f r+1:=by
 rw[Hs.blankL,if_pos h]
theorem GF(f:Nat)(c:UInt8)(r:List UInt8)(h:¬(c.toNat=32\/c.toNat=9\/c.toNat=10))(h2:cJ (c::r) [47,47]=true):
 Hs.blankL (f+1) (c::r)=bF eG (c::r)+Hs.blankL f ((c::r).drop (bF eG (c::r))):=by
 rw[Hs.blankL,if_neg h,if_pos h2]
theorem RB(f:Nat)(c:UInt8)(r:List UInt8)(h:¬(c.toNat=32\/c.toNat=9\/c.toNat=10))(h2:cJ (c::r) [47,47]=false):
 Hs.blankL (f+1) (c::r)=0:=by
 rw[Hs.blankL,if_neg h,if_neg (by rw[h2];simp)]
theorem rG(p:UInt8->Bool)(c:UInt8)(r:List UInt8)(h:p c=true):bF p (c::r)=bF p r+1:=by rw[bF,if_pos h]
theorem NJ(p:UInt8->Bool)(c:UInt8)(r:List UInt8)(h:p c=false):bF p (c::r)=0:=by rw[bF,if_neg (by rw[h];simp)]
theorem YF(b:UInt8):eG b=((b.toNat:Int) != 10):=by
 unfold eG;rw[a1_];simp;omega
def bs(l:List UInt8):ByteArray:=⟨l.toArray⟩
theorem jL(l:List UInt8):(bs l).data.toList=l:=by simp[bs]
theorem gI(l:List UInt8):(bs l).size=l.length:=by simp[bs,ByteArray.size]
theorem L9{a b:ByteArray}(h:a.data.toList=b.data.toList):a=b:=by
 cases a;cases b;simp only at h;congr 1;exact Array.toList_inj.1 h
theorem DB(s:ByteArray)(a b:Nat):s.extract a b=bs ((s.data.toList.drop a).take (b-a)):=
 L9 (by rw[Lib.extract_data,jL])
theorem cB(l:List UInt8):(bs l).toList=l:=by rw[Lib.toList_data,jL]
theorem rH(p:UInt8->Bool)(l:List UInt8):∀c∈l.take (bF p l),p c=true:=by
 induction l with
 |nil=>simp
 |cons a r ih=>
  intro c hc;by_cases h:p a=true
  ·rw[rG _ _ _ h,aw_] at hc;rcases p8.1 hc with rfl|hc
   ·exact h
   ·exact ih c hc
  ·rw[NJ _ _ _ (by simpa using h)] at hc;simp at hc
theorem bcell{W w1:World}(hb:Below W.heap.size W w1):(∀b o,b<W.heap.size->w1.cell? ⟨b,o,none⟩=W.cell? ⟨b,o,none⟩)/\(∀b o,b<W.heap.size->w1.frozen? ⟨b,o,none⟩=W.frozen? ⟨b,o,none⟩):=
 ⟨fun b o h=>hb.cell (p:=⟨b,o,none⟩) h,fun b o h=>hb.frozen (p:=⟨b,o,none⟩) h⟩
theorem KR:∀k (h:k<21),(cM[k]'(by simpa [cM] using h)).length<=2:=by decide
def wI(l:List UInt8)(k:Nat):Prop:=∀o∈cM.take k,cJ l o=false
theorem OK{l:List UInt8}{k:Nat}(h:k<21)(hn:wI l k)(hk:cJ l (cM[k]'(by simpa [cM] using h))=false):wI l (k+1):=by
 intro o ho;rw[v7 (by simpa [cM] using h)] at ho
 rcases o7.1 ho with ho|ho
 ·exact hn o ho
 ·rw[o8.1 ho];exact hk
theorem TB{l:List UInt8}{k:Nat}(h:k<21)(hn:wI l k)(q:List UInt8)(hq:q=cM[k]'(by simpa [cM] using h))(hk:cJ l q=true):
 gL l={ sort:=112,text:=q,size:=q.length,ok:=true }:=by
 have e:cM.find? (fun o=>cJ l o)=some q:=by
  rw[List.find?_eq_some_iff_getElem];refine⟨hk,k,by simpa [cM] using h,hq.symm,fun j hj=>?_⟩
  have:=hn (cM[j]'(by have:cM.length=21:=rfl;omega)) (by
   rw[List.mem_take_iff_getElem];exact⟨j,by have:cM.length=21:=rfl;omega,rfl⟩)
  simp[this]
 unfold gL;rw[e]
theorem OE{l:List UInt8}(hn:wI l 21):gL l={ sort:=0,text:=[],size:=0,ok:=false }:=by
 have e:cM.find? (fun o=>cJ l o)=none:=by
  rw[aP_];intro o ho;rw[hn o (by rw[z8 (by decide)];exact ho)];simp
 unfold gL;rw[e]
def j3(t:aP):List Value:=[.int .u8 t.sort,.string (bs t.text),.int .i64 t.line]
def toksC:List aP->List Value
 |[]=>[]
 |t::ts=>j3 t++toksC ts
theorem D8(s:ByteArray)(k f:Nat)(hk:k<s.size)(hok:(bJ (s.data.toList.drop k)).ok=true)(m:Nat)
 (hm:m=k+(bJ (s.data.toList.drop k)).size+Hs.blankL s.size (s.data.toList.drop (k+(bJ (s.data.toList.drop k)).size))):
 cU (f+1) (s.data.toList.take k) (s.data.toList.drop k)=
  cF [{ sort:=(bJ (s.data.toList.drop k)).sort,text:=(bJ (s.data.toList.drop k)).text,line:=aU (s.data.toList.take k) }] (cU f (s.data.toList.take m) (s.data.toList.drop m)):=by
 have hl:(s.data.toList.drop k).length=s.size-k:=by simp
 have hsz:=tX _ hok
 rw[gR f _ _ (by omega) hok (m-k) (by
  rw[hl,aN_,hm,DW s.size (s.size-k) _ (by simp) (by simp;omega)];omega)]
 rw[aN_,show k+(m-k)=m by omega,<-List.take_add,show k+(m-k)=m by omega]
theorem iP{w w1:World}{b:Nat}{e:TypeId}{size:Nat}{v:Value}{n:Nat}{xs:List Value}(h:w.ownsRow b e size v n xs)(hb:Below w.heap.size w w1):w1.ownsRow b e size v n xs:=by
 refine⟨h.1,?_⟩;rcases h.2 with h2|⟨g,cap,cur,h1,h2,h3,h4⟩
 ·exact Or.inl h2
 ·refine Or.inr ⟨g,cap,cur,h1,h2,?_,h4⟩;rw[hb.block g ?_];exact h3;by_cases hx:g<w.heap.size
  ·exact hx
  ·rw[au_ (by omega)] at h3;cases h3
theorem bX{w:World}{b:Nat}{e:TypeId}{size:Nat}{v:Value}{n:Nat}{xs:List Value}(h:w.ownsRow b e size v n xs):∀k,v.ownBlock=some k->b<=k:=by
 intro k hk;rcases h.2 with ⟨rfl,_⟩|⟨g,cap,cur,rfl,h2,_⟩
 ·cases hk
 ·have:g=k:=Option.some.inj hk;omega
theorem aB{p:Prop}(h:p):Hid p:=h
structure Ctx where
 pb:Nat
 g:Nat
 cap:Nat
 ts:List aP
structure Fr(pb:Nat)(w w':World):Prop where
 os:w'.os=w.os
 tape:w'.tape=w.tape
 output:w'.output=w.output
 size:w.heap.size<=w'.heap.size
 block:∀k,k<w.heap.size->k≠pb->w'.heap[k]?=w.heap[k]?
theorem Fr.refl(pb:Nat)(w:World):Fr pb w w:=⟨rfl,rfl,rfl,l9 _,fun _ _ _=>rfl⟩
theorem Fr.trans{pb:Nat}{a b c:World}(h:Fr pb a b)(k:Fr pb b c):Fr pb a c:=
 ⟨k.os.trans h.os,k.tape.trans h.tape,k.output.trans h.output,p7 h.size k.size,fun i hi hn=>(k.block i (m9 hi h.size) hn).trans (h.block i hi hn)⟩
theorem Fr.below{pb:Nat}{w w':World}(h:Below w.heap.size w w'):Fr pb w w':=⟨h.os,h.tape,h.output,h.size,fun k hk _=>h.block k hk⟩
theorem Fr.drew{pb:Nat}{a w:World}(h:Fr pb a w):Fr pb a w.drew:=⟨h.os,h.tape,h.output,h.size,h.block⟩
theorem Fr.drewN{pb:Nat}{a w:World}(h:Fr pb a w)(n:Nat):Fr pb a (w.drewN n):=⟨h.os,h.tape,h.output,h.size,h.block⟩
theorem Fr.alloc{pb:Nat}{a w:World}(h:Fr pb a w)(o:Obj):Fr pb a (w.alloc o):=h.trans (Fr.below ((m8 _ _).alloc (l9 _) _))
theorem Fr.setCell{pb:Nat}{a w:World}(h:Fr pb a w){p:Addr}(hp:p.block=pb\/a.heap.size<=p.block)(u:Value):Fr pb a (w.setCell p u):=
 ⟨h.os,h.tape,h.output,by have:=h.size;simpa [World.setCell] using this,fun k hk hn=>by rw[m7 _ _ _ _ (by omega)];exact h.block k hk hn⟩
theorem aD{w:World}{b:Nat}{o:Obj}(h:w.heap[b]?=some o):b<w.heap.size:=by
 by_cases hx:b<w.heap.size
 ·exact hx
 ·rw[au_ (by omega)] at h;cases h
theorem aA{w:World}{b i:Nat}{c:Array Value}{e:TypeId}(h:w.heap[b]?=some (.cells c e (0,0))){v:Value}(hv:c[i]?=some v):w.cell? ⟨b,i,none⟩=some v:=by
 simp[World.cell?,h,hv]
theorem aE{w:World}{b i:Nat}{c:Array Value}{e:TypeId}(h:w.heap[b]?=some (.cells c e (0,0))):w.frozen? ⟨b,i,none⟩=false:=by
 simp[World.frozen?,h]
theorem aS{w:World}{b i:Nat}{c:Array Value}{e:TypeId}{f:Nat × Nat}(h:w.heap[b]?=some (.cells c e f)){u:Value}:(w.setCell ⟨b,i,none⟩ u).heap[b]?=some (.cells (c.setIfInBounds i u) e f):=by
 simp[World.setCell,Array.getElem?_modify,h]
def jW(R:Value->aC->Prop):List Value->List aC->Prop
 |[],[]=>True
 |v::vs,a::ks=>R v a/\jW R vs ks
 |_,_=>False
theorem jW.mono{R S:Value->aC->Prop}(h:∀v a,R v a->S v a):∀{vs ks},jW R vs ks->jW S vs ks
 |[],[],_=>trivial
 |_::_,_::_,⟨h1,h2⟩=>⟨h _ _ h1,jW.mono h h2⟩
 |[],_::_,h=>h.elim
 |_::_,[],h=>h.elim
theorem jW.snoc{R:Value->aC->Prop}:∀{vs ks} {v a},jW R vs ks->R v a->jW R (vs++[v]) (ks++[a])
 |[],[],_,_,_,h=>⟨h,trivial⟩
 |_::_,_::_,_,_,⟨h1,h2⟩,h=>⟨h1,jW.snoc h2 h⟩
 |[],_::_,_,_,h,_=>h.elim
 |_::_,[],_,_,h,_=>h.elim
def Btw(lo hi:Nat)(b:Nat):Prop:=lo<=b/\b<hi
theorem bA{w w1:World}{b:Nat}{e:TypeId}{size:Nat}{v:Value}{n:Nat}{xs:List Value}(h:w.ownsRow b e size v n xs)(hb:∀k,v.ownBlock=some k->w1.heap[k]?=w.heap[k]?):w1.ownsRow b e size v n xs:=by
 refine⟨h.1,?_⟩;rcases h.2 with h2|⟨g,cap,cur,h1,h2,h3,h4⟩
 ·exact Or.inl h2
 ·refine Or.inr ⟨g,cap,cur,h1,h2,?_,h4⟩;rw[hb g (by rw[h1];rfl)];exact h3
theorem cK{w:World}{b:Nat}{e:TypeId}{size:Nat}{v:Value}{n:Nat}{xs:List Value}(h:w.ownsRow b e size v n xs):∀k,v.ownBlock=some k->k<w.heap.size:=by
 intro k hk;rcases h.2 with ⟨rfl,_⟩|⟨g,cap,cur,rfl,h2,h3,_⟩
 ·cases hk
 ·have:g=k:=Option.some.inj hk;subst this;exact aD h3
theorem Fr.grown{pb:Nat}{a w w':World}{row:Option Nat}(h:Fr pb a w)(hg:w.grownBy w' row)(hr:∀k,row=some k->a.heap.size<=k):Fr pb a w':=
 ⟨hg.os.trans h.os,hg.tape.trans h.tape,hg.output.trans h.output,p7 h.size hg.size,fun k hk hn=>by
   rw[hg.block k (m9 hk h.size) (fun e=>by have:=hr k e.symm;omega)];exact h.block k hk hn⟩
theorem aT(X:World)(n:Nat)(hn:n=X.heap.size)(o1:Obj):(X.alloc o1).heap[n]?=some o1:=by
 subst hn;show (X.heap.push o1)[X.heap.size]?=_
 rw[Array.getElem?_push,if_pos rfl]
theorem oS(X:World)(n:Nat)(hn:n<X.heap.size)(o:Obj){b:Option Obj}(h:X.heap[n]?=b):(X.alloc o).heap[n]?=b:=by
 rw[o9 _ _ _ hn];exact h
theorem wZ{w w':World}{b i:Nat}(h:w'.heap[b]?=w.heap[b]?):w'.cell? ⟨b,i,none⟩=w.cell? ⟨b,i,none⟩:=by simp[World.cell?,h]
def kG(l:List (List UInt8)):List Value:=l.map fun x=>.string (bs x)
theorem WC:(prog.info? 9).map (fun i=>(i.zero,i.size,i.bytes))=some (some (.string (bs [])),1,16):=by kernel_rfl
theorem jW.get{R:Value->aC->Prop}:∀{vs ks} (i:Nat) (hi:i<ks.length),jW R vs ks->∃v,vs[i]?=some v/\R v ks[i]
 |v::vs,a::ks,0,_,h=>⟨v,rfl,h.1⟩
 |v::vs,a::ks,i+1,hi,h=>by
  obtain⟨u,h1,h2⟩:=jW.get (vs:=vs) (ks:=ks) i (by simpa using hi) h.2
  exact⟨u,by simpa using h1,by simpa using h2⟩
 |[],_::_,_,_,h=>h.elim
 |_::_,[],_,hi,_=>by simp at hi
 |[],[],_,hi,_=>by simp at hi
theorem nA(s:aZ)(l k:Nat):(s.found l k).seen=s.seen:=by
 unfold aZ.found;split<;>rfl
theorem VG{fs:List aC}{alone:Bool}{s:aZ}{a:aC}{W:Int}(h:lO fs alone a.text=W)(h0:W<0):eF fs alone s a=s.found a.line 6:=by
 unfold eF;rw[h,if_pos h0]
theorem B8{fs:List aC}{alone:Bool}{s:aZ}{a:aC}{W:Int}(h:lO fs alone a.text=W)(h0:¬W<0)(h1:W≠(a.kids.length:Int)):eF fs alone s a=s.found a.line 7:=by
 unfold eF;rw[h,if_neg h0,if_pos h1]
theorem B9{fs:List aC}{alone:Bool}{s:aZ}{a:aC}{W:Int}(h:lO fs alone a.text=W)(h0:¬W<0)(h1:W=(a.kids.length:Int)):eF fs alone s a=s:=by
 unfold eF;rw[h,if_neg h0,if_neg (by simpa using h1)]
theorem TY(fs:List aC)(alone:Bool)(s:aZ)(n:aC):(bZ fs alone s n).seen=s.seen:=by
 unfold bZ eF;repeat' split
 all_goals first|rfl|exact nA _ _ _
theorem mV(s:aZ)(n:aC):(Hs.declaresL s n).seen=s.seen:=by
 unfold Hs.declaresL;split
 ·exact nA _ _ _
 ·rfl
def Adds(s s':aZ)(m:Nat):Prop:=∃t,s'.seen=s.seen++t/\t.length<=m
theorem Adds.refl(s:aZ):Adds s s 0:=⟨[],by simp,l9 _⟩
theorem Adds.trans{a b c:aZ}{m n:Nat}(h:Adds a b m)(k:Adds b c n):Adds a c (m+n):=by
 obtain⟨t,h1,h2⟩:=h;obtain⟨u,k1,k2⟩:=k;exact⟨t++u,by rw[k1,h1,y7],by simp;omega⟩
theorem Adds.le{a b:aZ}{m n:Nat}(h:Adds a b m)(hn:m<=n):Adds a b n:=by
 obtain⟨t,h1,h2⟩:=h;exact⟨t,h1,by omega⟩
theorem Adds.of_eq{a b:aZ}(h:b.seen=a.seen):Adds a b 0:=⟨[],by simp[h],l9 _⟩
theorem Adds.fold{f:aZ->aC->aZ}{g:aC->Nat}(h:∀s k,Adds s (f s k) (g k)):∀(l:List aC) (s:aZ),Adds s (l.foldl f s) (l.map g).sum
 |[],s=>Adds.refl s
 |k::l,s=>by
  rw[aK_,s5,s6];exact(h s k).trans (Adds.fold h l _)
theorem fS(fs:List aC)(alone:Bool):∀(d:Nat) (n:aC) (s:aZ),Adds s (aM fs alone d n s) (bT d n)
 |0,n,s=>Adds.refl s
 |d+1,n,s=>by
  rw[aM,bT];split
  ·match hn:n.kids with
   |t::v::r=>
    simp only;have h1:Adds s (Hs.declaresL s t) 0:=Adds.of_eq (mV s t);obtain⟨u,h2,h3⟩:=h1.trans (fS fs alone d v (Hs.declaresL s t));exact⟨u++[t.text],by simp[h2],by simp;omega⟩
   |[]=>exact(Adds.refl s).le (by omega)
   |[_]=>exact(Adds.refl s).le (by omega)
  ·have h1:Adds s (bZ fs alone s n) 0:=Adds.of_eq (TY fs alone s n);have h2:=h1.trans (Adds.fold (f:=fun s k=>aM fs alone d k s) (g:=bT d) (fun s k=>fS fs alone d k s) n.kids (bZ fs alone s n))
   split
   ·obtain⟨u,h3,h4⟩:=h2;exact⟨[],by simp[h3],by simp⟩
   ·exact h2.le (by omega)
theorem tF{f:aC->Nat}{k:aC}:∀{l:List aC},k∈l->f k<=(l.map f).sum
 |[],h=>by cases h
 |x::l,h=>by
  simp only[s5,s6];rcases p8.1 h with rfl|h
  ·omega
  ·have:=tF (f:=f) h;omega
theorem NA{w:World}{base:Nat}{v:Value}{l:List (List UInt8)}(h:w.ownsRow base 9 1 v l.length (kG l))(m:Nat)(hm:m<=l.length):
 ∃x c,v=.slice x l.length c/\l.length<=c/\c<=maxLen/\w.ownsRow base 9 1 (.slice x m c) m (kG (l.take m)):=by
 have hl:(kG (l.take m)).length=m*1:=by simp[kG];omega
 rcases h.2 with ⟨rfl,h0⟩|⟨g,cap,cur,rfl,h2,h3,h4,h5,h6,h7⟩
 ·refine⟨none,0,by rw[h0],by omega,by unfold maxLen;omega,hl,Or.inl ⟨?_,by omega⟩⟩
  rw[show m=0 by omega]
 ·refine⟨_,cap,rfl,h4,h5,hl,Or.inr ⟨g,cap,cur,rfl,h2,h3,by omega,h5,h6,?_⟩⟩
  have e:kG (l.take m)=(kG l).take m:=by simp[kG,List.map_take]
  rw[e,<-h7,aS_];congr 1;omega
theorem OL(w:World)(x:List UInt8):∀j u,([.string (bs x)]:List Value)[j]?=some u->(w.alloc (.cells #[.string (bs x)] 9)).cell? ((⟨w.heap.size,0,none⟩:Addr).add j)=some u:=by
 intro j u hj;match j,hj with
 |0,hj=>simp at hj;subst hj;simp[Addr.add,go_sem]
 |j+1,hj=>simp at hj
theorem VW(x:List UInt8):∀u∈([.string (bs x)]:List Value),u.oneCell'=true:=by
 intro u hu;simp at hu;subst hu;rfl
theorem oQ(d:Nat):∀l:List aC,l.length<=(l.map (bT (d+1))).sum
 |[]=>by simp
 |x::l=>by
  have:=oQ d l;have h1:1<=bT (d+1) x:=by rw[bT];omega
  simp only[n8,s5,s6];omega
theorem FineL.mem{m:Nat}{l:List aC}(h:Hs.FineL m l){f:aC}(hf:f∈l):Hs.FineA m f:=fun d=>⟨p7 (tF hf) (h d).1,(h d).2 f hf⟩
theorem FineL.len{m:Nat}{l:List aC}(h:Hs.FineL m l):l.length<=m:=p7 (oQ 0 l) (h 1).1
end Go.Proofs.YtblbkfdhjfppkaaGreatDoor
