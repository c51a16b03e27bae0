/- Plain: an operation of two Ints as an expression: its tokens, its tree, its instructions, what they come to. -/
import Derived.Test.YthbffcmfmjpncaaGreatDoorB01c
import Derived.Test.YthbffcmfmjpncaaGreatDoorP01c
set_option linter.defProp false
set_option maxRecDepth 100000
namespace Go.Proofs.YthbffcmfmjpncaaGreatDoor.Hs
def LU(y:Int):∃d s,cS y=d::s/\(cB d=true\/d=40):=by
 unfold cS;split
 ·exact⟨40,_,rfl,.inr rfl⟩
 ·split
  ·exact⟨40,_,rfl,.inr rfl⟩
  ·obtain⟨d,s,b,a⟩:=mJ y.natAbs [];exact⟨d,s,by simpa using b,.inl a⟩
def CJ(f:Nat):∀(l:List UInt8) (p:Nat),(∀c∈l,c.toNat<128)->dE f l p=none:=by
 induction f with
 |zero=>intro l p _;rfl
 |succ f b=>
  intro l p h;cases l with
  |nil=>rfl
  |cons c r=>
   have d:bC (c::r)=1:=by
    unfold bC;simp only[jx];rw[if_pos (h c s_)]
   unfold dE;rw[d,if_neg s_,if_neg o_]
   exact b _ _ λz a=>h z (by simp at a;simp[a])
def fU{a b:List UInt8}(d:∀c∈a,c.toNat<128)(e:∀c∈b,c.toNat<128):∀c∈a++b,c.toNat<128:=by
 intro c f;rcases eo.1 f with h|h
 ·exact d c h
 ·exact e c h
def nR(n:Nat):∀c∈dO n,c.toNat<128:=by
 intro c a;have:=lV n c a;unfold cB at this;simp only[fq,decide_eq_true_eq] at this;omega
def yL(x:Int):∀c∈cS x,c.toNat<128:=by
 unfold cS;split
 ·exact fU d_ (fU (nR _) (fU d_ (fU (nR _) d_)))
 ·split
  ·exact fU d_ (fU (nR _) d_)
  ·exact nR _
def nP(x:Int):(cS x).length<=50:=by
 unfold cS;have a:=nS 9223372036854775807;have c:=nS 1;have b:=nS x.natAbs;split
 ·simp only[ei,ek,ep];omega
 ·split
  ·simp only[ei,ek,ep];omega
  ·omega
end Go.Proofs.YthbffcmfmjpncaaGreatDoor.Hs
namespace Go.Proofs.YthbffcmfmjpncaaGreatDoor
open Hs
open _root_.Go.Proofs.Tryz
open Go.RowKit
variable{S:Except Nat Nat}{W:Int}{op x:List UInt8}{xs:List Value}{acc fs ks:List aC}{b b_ cb d g i l lo m n p pb q:Nat}{F G:Nat->Prop}{o:Obj}{e:TypeId}{c v:Value}{R:Value->aC->Prop}{w w' w1:World}{a:aC}{s:bA}
def YM(s:ByteArray)(k:Nat)(h:k<s.size):s.data.toList.take (k+1)=s.data.toList.take k++[s[k]]:=by
 rw[gl (by simpa using h)];rfl
def XD{k:IntKind}{a b:Int}(h:a=b):Ending.returned (.int k a)=.returned (.int k b):=by rw[h]
def jF{a b:Bool}(h:a=b):Ending.returned (.bool a)=.returned (.bool b):=by rw[h]
def j6(c d:UInt8):(c=d)↔((c.toNat:Int)=(d.toNat:Int)):=by
 rw[<-jc];omega
def nT(c:UInt8):(c.toNat:Int)<=255:=by have:=c.toNat_lt;omega
def AD(s:ByteArray)(k:Nat)(h:k<s.size):s.data.toList[k]?=some s[k]:=by
 simp[h];rfl
def GI(s:ByteArray)(n i:Nat)(h:n+i<s.size):(s.data.toList.drop n)[i]?=some s[n+i]:=by
 rw[jj];exact AD s _ h
def VO{l:List UInt8}(h:dF l i lo b=true):i<l.length:=by
 unfold dF at h;by_cases a:i<l.length
 ·exact a
 ·rw[gg o_] at h;cases h
def F3(l:List UInt8):bC l<=l.length:=by
 unfold bC;split
 ·omega
 ·rename_i b a
  have c:0<l.length:=by
   by_cases h:0<l.length
   ·exact h
   ·rw[gg o_] at a;cases a
  repeat' split
  all_goals first
   |omega
   |(have:=VO ‹dF l 1 _ _=true›;omega)
   |(have h:=‹(dF l 1 _ _ && dF l 2 _ _)=true›
     simp only[fq] at h;have:=VO h.2;omega)
   |(have h:=‹(dF l 1 _ _ && dF l 2 _ _ && dF l 3 _ _)=true›
     simp only[fq] at h;have:=VO h.2;omega)
def KY(l:List UInt8)(p f:Nat)(h:0<l.length)(a:bC l≠0):dE (f+1) l p=dE f (l.drop (bC l)) (p+bC l):=by
 rw[dE,if_neg o_,if_neg a]
def OO(l:List UInt8)(p f:Nat)(h:0<l.length)(a:bC l=0):dE (f+1) l p=some p:=by
 rw[dE,if_neg o_,if_pos a]
def ON(l:List UInt8)(p f:Nat)(h:l.length=0):dE f l p=none:=by
 cases f with
 |zero=>rfl
 |succ f=>rw[dE,if_pos h]
def mC(x l:List UInt8)(h:x.length<=l.length):x.isPrefixOf l=(l.take x.length==x):=by
 induction x generalizing l with
 |nil=>simp
 |cons a x c=>
  cases l with
  |nil=>simp at h
  |cons b l=>
   simp only[List.isPrefixOf,ek,ib,List.cons_beq_cons];rw[c l (by simpa using h),show (a==b)=(b==a) from Bool.beq_comm]
def AB(x l:List UInt8)(h:l.length<x.length):x.isPrefixOf l=false:=by
 rw[Bool.eq_false_iff];intro a;have:=(jg.1 a).length_le;omega
def kS(s:ByteArray)(k:Nat)(h:k<s.size):s.data.toList.drop k=s[k]::s.data.toList.drop (k+1):=by
 rw[jz (by simpa using h)];rfl
def WT(f:Nat):Hs.blankL f []=0:=by cases f<;>rfl
def NE(f:Nat)(c:UInt8)(r:List UInt8)(h:c.toNat=32\/c.toNat=9\/c.toNat=10):Hs.blankL (f+1) (c::r)=Hs.blankL f r+1:=by
 rw[Hs.blankL,if_pos h]
def GZ(f:Nat)(c:UInt8)(r:List UInt8)(h:¬(c.toNat=32\/c.toNat=9\/c.toNat=10))(a:cN (c::r) [47,47]=true):
 Hs.blankL (f+1) (c::r)=bF eH (c::r)+Hs.blankL f ((c::r).drop (bF eH (c::r))):=by
 rw[Hs.blankL,if_neg h,if_pos a]
def SJ(f:Nat)(c:UInt8)(r:List UInt8)(h:¬(c.toNat=32\/c.toNat=9\/c.toNat=10))(a:cN (c::r) [47,47]=false):
 Hs.blankL (f+1) (c::r)=0:=by
 rw[Hs.blankL,if_neg h,if_neg (by rw[a];simp)]
def rS(p:UInt8->Bool)(c:UInt8)(r:List UInt8)(h:p c=true):bF p (c::r)=bF p r+1:=by rw[bF,if_pos h]
def OP(p:UInt8->Bool)(c:UInt8)(r:List UInt8)(h:p c=false):bF p (c::r)=0:=by rw[bF,if_neg (by rw[h];simp)]
def ZR(b:UInt8):eH b=((b.toNat:Int) != 10):=by
 unfold eH;rw[jk];simp;omega
def bs(l:List UInt8):ByteArray:=⟨l.toArray⟩
def jR(l:List UInt8):(bs l).data.toList=l:=by simp[bs]
def gJ(l:List UInt8):(bs l).size=l.length:=by simp[bs,ByteArray.size]
def Q9{a b:ByteArray}(h:a.data.toList=b.data.toList):a=b:=by
 cases a;cases b;simp only at h;congr 1;exact Array.toList_inj.1 h
def DT(s:ByteArray)(a b:Nat):s.extract a b=bs ((s.data.toList.drop a).take (b-a)):=
 Q9 (by rw[Lib.extract_data,jR])
def cE(l:List UInt8):(bs l).toList=l:=by rw[Lib.toList_data,jR]
structure sF(w:World):Prop where
 kw:∀i (h:i<9),w.cell? ⟨2,i,none⟩=some (.string (bs (gN[i]'(by simpa [gN] using h))))
 ot:∀i (h:i<21),w.cell? ⟨0,i,none⟩=some (.string (bs (cA[i]'(by simpa [cA] using h))))
 big:11<=w.heap.size
def sF.below(h:sF w)(b:Below w.heap.size w w'):sF w':=
 ⟨λi a=>by rw[b.cell (by have:=h.big;show 2<_;omega)];exact h.kw i a,λi a=>by rw[b.cell (by have:=h.big;show 0<_;omega)];exact h.ot i a,by have:=b.size;have:=h.big;omega⟩
def rT(p:UInt8->Bool)(l:List UInt8):∀c∈l.take (bF p l),p c=true:=by
 induction l with
 |nil=>simp
 |cons a r d=>
  intro c b;by_cases h:p a=true
  ·rw[rS _ _ _ h,ib] at b;rcases en.1 b with rfl|b
   ·exact h
   ·exact d c b
  ·rw[OP _ _ _ (by simpa using h)] at b;simp at b
def bcell{W:World}(a:Below W.heap.size W w1):(∀b o,b<W.heap.size->w1.cell? ⟨b,o,none⟩=W.cell? ⟨b,o,none⟩)/\(∀b o,b<W.heap.size->w1.frozen? ⟨b,o,none⟩=W.frozen? ⟨b,o,none⟩):=
 ⟨λb o h=>a.cell (p:=⟨b,o,none⟩) h,λb o h=>a.frozen (p:=⟨b,o,none⟩) h⟩
def sF.alloc(h:sF w)(o:Obj):sF (w.alloc o):=h.below ((eh _ _).alloc (d7 _) _)
def LS:∀k (h:k<21),(cA[k]'(by simpa [cA] using h)).length<=2:=d_
def wV(l:List UInt8)(k:Nat):Prop:=∀o∈cA.take k,cN l o=false
def PR{l:List UInt8}{k:Nat}(h:k<21)(c:wV l k)(b:cN l (cA[k]'(by simpa [cA] using h))=false):wV l (k+1):=by
 intro o a;rw[gl (by simpa [cA] using h)] at a
 rcases eo.1 a with a|a
 ·exact c o a
 ·rw[et.1 a];exact b
def UK{l:List UInt8}{k:Nat}(h:k<21)(c:wV l k)(q:List UInt8)(b:q=cA[k]'(by simpa [cA] using h))(a:cN l q=true):
 gM l={ sort:=112,x_:=q,size:=q.length,ok:=true }:=by
 have e:cA.find? (λo=>cN l o)=some q:=by
  rw[List.find?_eq_some_iff_getElem];refine⟨a,k,by simpa [cA] using h,b.symm,λj d=>?_⟩
  have:=c (cA[j]'(by have:cA.length=21:=rfl;omega)) (by
   rw[List.mem_take_iff_getElem];exact⟨j,by have:cA.length=21:=rfl;omega,rfl⟩)
  simp[this]
 unfold gM;rw[e]
def PK{l:List UInt8}(b:wV l 21):gM l={ sort:=0,x_:=[],size:=0,ok:=false }:=by
 have e:cA.find? (λo=>cN l o)=none:=by
  rw[jd];intro o a;rw[b o (by rw[gp d_];exact a)];simp
 unfold gM;rw[e]
def J0(t:aP):List Value:=[.int .u8 t.sort,.string (bs t.x_),.int .i64 t.l_]
def toksC:List aP->List Value
 |[]=>[]
 |t::ts=>J0 t++toksC ts
def KI(a:List aP):(toksC a).length=a.length*3:=by
 induction a with
 |nil=>rfl
 |cons t a b=>simp[toksC,J0,b];omega
def I9(s:ByteArray)(k f:Nat)(e:k<s.size)(a:(bJ (s.data.toList.drop k)).ok=true)(m:Nat)
 (b:m=k+(bJ (s.data.toList.drop k)).size+Hs.blankL s.size (s.data.toList.drop (k+(bJ (s.data.toList.drop k)).size))):
 cU (f+1) (s.data.toList.take k) (s.data.toList.drop k)=
  cH [{ sort:=(bJ (s.data.toList.drop k)).sort,x_:=(bJ (s.data.toList.drop k)).x_,l_:=aU (s.data.toList.take k) }] (cU f (s.data.toList.take m) (s.data.toList.drop m)):=by
 have c:(s.data.toList.drop k).length=s.size-k:=s_
 have d:=uJ _ a
 rw[gV f _ _ o_ a (m-k) (by
  rw[c,ij,b,EP s.size (s.size-k) _ s_ t_];omega)]
 rw[ij,show k+(m-k)=m by omega,<-List.take_add,show k+(m-k)=m by omega]
def iW{a:Nat}(h:w.ownsRow b e a v n xs)(l:Below w.heap.size w w1):w1.ownsRow b e a v n xs:=by
 refine⟨h.1,?_⟩;rcases h.2 with d|⟨g,f,c,k,d,i,j⟩
 ·exact d6 d
 ·refine d5 ⟨g,f,c,k,d,?_,j⟩;rw[l.block g ?_];exact i;by_cases m:g<w.heap.size
  ·exact m
  ·rw[gx o_] at i;cases i
def bT{a:Nat}(h:w.ownsRow b e a v n xs):∀k,v.ownBlock=some k->b<=k:=by
 intro k c;rcases h.2 with ⟨rfl,_⟩|⟨g,f,d,rfl,i,_⟩
 ·cases c
 ·have:g=k:=Option.some.inj c;omega
def aB{p:Prop}(h:p):Hid p:=h
structure Ctx where
 pb:Nat
 g:Nat
 cap:Nat
 ts:List aP
structure At(C:Ctx)(w:World)(p bad:Nat):Prop where
 blk:w.heap[C.pb]?=some (.cells #[.slice (some ⟨C.g,0,none⟩) C.ts.length C.cap,.int .i64 p,.int .i64 bad] 112 (0,0))
 row:∃cur,w.heap[C.g]?=some (.cells cur 115 (0,0))/\cur.toList.take (C.ts.length*3)=toksC C.ts
 ne:C.g≠C.pb
 lt:p<C.ts.length
 len:C.ts.length<=3000
 cap:C.ts.length<=C.cap
 last:(aN C.ts (C.ts.length-1)).sort=101
 pos:∀q,q<C.ts.length->(aN C.ts q).l_≠0
structure Fr(pb:Nat)(w w':World):Prop where
 os:w'.os=w.os
 tape:w'.tape=w.tape
 output:w'.output=w.output
 size:w.heap.size<=w'.heap.size
 block:∀k,k<w.heap.size->k≠pb->w'.heap[k]?=w.heap[k]?
def Fr.refl(pb:Nat)(w:World):Fr pb w w:=⟨rfl,rfl,rfl,d7 _,λ_ _ _=>rfl⟩
def Fr.trans{a b c:World}(h:Fr pb a b)(k:Fr pb b c):Fr pb a c:=
 ⟨k.os.trans h.os,k.tape.trans h.tape,k.output.trans h.output,em h.size k.size,λi d e=>(k.block i (el d h.size) e).trans (h.block i d e)⟩
def Fr.below(h:Below w.heap.size w w'):Fr pb w w':=⟨h.os,h.tape,h.output,h.size,λk a _=>h.block k a⟩
def Fr.drew{a:World}(h:Fr pb a w):Fr pb a w.drew:=⟨h.os,h.tape,h.output,h.size,h.block⟩
def Fr.drewN{a:World}(h:Fr pb a w)(n:Nat):Fr pb a (w.drewN n):=⟨h.os,h.tape,h.output,h.size,h.block⟩
def Fr.alloc{a:World}(h:Fr pb a w)(o:Obj):Fr pb a (w.alloc o):=h.trans (Fr.below ((eh _ _).alloc (d7 _) _))
def Fr.setCell{a:World}(h:Fr pb a w){p:Addr}(d:p.block=pb\/a.heap.size<=p.block)(u:Value):Fr pb a (w.setCell p u):=
 ⟨h.os,h.tape,h.output,by have:=h.size;simpa [World.setCell] using this,λk b c=>by rw[ej _ _ _ _ o_];exact h.block k b c⟩
def aD(h:w.heap[b]?=some o):b<w.heap.size:=by
 by_cases a:b<w.heap.size
 ·exact a
 ·rw[gx o_] at h;cases h
def aA{c:Array Value}(h:w.heap[b]?=some (.cells c e (0,0)))(a:c[i]?=some v):w.cell? ⟨b,i,none⟩=some v:=by
 simp[World.cell?,h,a]
def aE{c:Array Value}(h:w.heap[b]?=some (.cells c e (0,0))):w.frozen? ⟨b,i,none⟩=false:=by
 simp[World.frozen?,h]
def aQ{c:Array Value}{f:Nat × Nat}(h:w.heap[b]?=some (.cells c e f)){u:Value}:(w.setCell ⟨b,i,none⟩ u).heap[b]?=some (.cells (c.setIfInBounds i u) e f):=by
 simp[World.setCell,Array.getElem?_modify,h]
def YH(ts:List aP)(p:Nat)(h:p<ts.length):(toksC ts)[p*3]?=some (.int .u8 (aN ts p).sort)/\(toksC ts)[p*3+1]?=some (.string (bs (aN ts p).x_))/\(toksC ts)[p*3+1+1]?=some (.int .i64 (aN ts p).l_):=by
 induction ts generalizing p with
 |nil=>simp at h
 |cons t ts a=>
  cases p with
  |zero=>simp[toksC,J0,aN]
  |succ p=>
   have:=a p (by simpa using h)
   have e:∀j,(toksC (t::ts))[(p+1)*3+j]?=(toksC ts)[p*3+j]?:=λj=>by
    rw[toksC,gh (by simp[J0];omega)]
    congr 1;simp[J0];omega
   have b:aN (t::ts) (p+1)=aN ts p:=by simp[aN]
   rw[b];exact⟨(e 0).trans this.1,(e 1).trans this.2.1,(e 2).trans this.2.2⟩
def At.tok{C:Ctx}{bad:Nat}(h:At C w p bad):w.cell? ⟨C.g,p*3,none⟩=some (.int .u8 (aN C.ts p).sort)/\w.cell? ⟨C.g,p*3+1,none⟩=some (.string (bs (aN C.ts p).x_))/\w.cell? ⟨C.g,p*3+1+1,none⟩=some (.int .i64 (aN C.ts p).l_):=by
 obtain⟨c,i,g⟩:=h.row;obtain⟨l,f,d⟩:=YH C.ts p h.lt;have m:=KI C.ts
 have e:∀j v,(toksC C.ts)[j]?=some v->w.cell? ⟨C.g,j,none⟩=some v:=λj v a=>by
  have b:j<C.ts.length*3:=by
   by_cases k:j<C.ts.length*3
   ·exact k
   ·rw[gg o_] at a;cases a
  refine aA i ?_;rw[<-g,fm,if_pos b] at a;simpa using a
 exact⟨e _ _ l,e _ _ f,e _ _ d⟩
def At.below{C:Ctx}{bad:Nat}(h:At C w p bad)(c:Below w.heap.size w w'):At C w' p bad:=by
 obtain⟨a,b,d⟩:=h.row;exact⟨by rw[c.block _ (aD h.blk)];exact h.blk,⟨a,by rw[c.block _ (aD b)];exact b,d⟩,h.ne,h.lt,h.len,h.cap,h.last,h.pos⟩
def At.cells{C:Ctx}{bad:Nat}(h:At C w p bad)(d:Below w.heap.size w w1):
 C.pb<w1.heap.size/\(∀o,(w1.alloc o).cell? ⟨C.pb,1,none⟩=some (.int .i64 p))/\(∀o,(w1.alloc o).cell? ⟨C.pb,2,none⟩=some (.int .i64 bad))/\w1.cell? ⟨C.pb,1,none⟩=some (.int .i64 p)/\w1.cell? ⟨C.pb,2,none⟩=some (.int .i64 bad)/\(∀i,(∀o,(w1.alloc o).frozen? ⟨C.pb,i,none⟩=false)/\w1.frozen? ⟨C.pb,i,none⟩=false):=by
 have a:=h.below d;have b:=aD a.blk;refine⟨b,λo=>?_,λo=>?_,aA a.blk rfl,aA a.blk rfl,λi=>⟨λo=>?_,aE a.blk⟩⟩
 ·rw[World.cell?_alloc_past _ _ _ b];exact aA a.blk rfl
 ·rw[World.cell?_alloc_past _ _ _ b];exact aA a.blk rfl
 ·have c:=a.below ((eh _ _).alloc (d7 _) o);exact aE c.blk
def At.move{C:Ctx}{bad:Nat}(h:At C w p bad)(c:Below w.heap.size w w1)(q:Nat)(e:q<C.ts.length):
 At C (w1.setCell ⟨C.pb,1,none⟩ (.int .i64 q)) q bad/\Fr C.pb w (w1.setCell ⟨C.pb,1,none⟩ (.int .i64 q)):=by
 have b:=h.below c;obtain⟨a,f,d⟩:=b.row;refine⟨⟨?_,⟨a,?_,d⟩,h.ne,e,h.len,h.cap,h.last,h.pos⟩,Fr.setCell (p:=⟨C.pb,1,none⟩) (Fr.below c) (d6 rfl) _⟩
 ·rw[aQ b.blk];rfl
 ·rw[ej _ _ _ _ h.ne];exact f
def At.next{C:Ctx}{bad:Nat}(h:At C w p bad)(c:(aN C.ts p).sort≠101):p+1<C.ts.length:=by
 have d:=h.lt;have b:=h.last;by_cases a:p=C.ts.length-1
 ·subst a;exact absurd b c
 ·omega
def gU(R:Value->aC->Prop):List Value->List aC->Prop
 |[],[]=>True
 |v::vs,a::ks=>R v a/\gU R vs ks
 |_,_=>False
def gU.mono{S:Value->aC->Prop}(h:∀v a,R v a->S v a):∀{vs ks},gU R vs ks->gU S vs ks
 |[],[],_=>trivial
 |_::_,_::_,⟨c,b⟩=>⟨h _ _ c,gU.mono h b⟩
 |[],_::_,h=>h.elim
 |_::_,[],h=>h.elim
def gU.length:∀{vs ks},gU R vs ks->vs.length=ks.length
 |[],[],_=>rfl
 |_::vs,_::ks,⟨_,a⟩=>by simp[gU.length a]
 |[],_::_,h=>h.elim
 |_::_,[],h=>h.elim
def gU.snoc:∀{vs ks} {v a},gU R vs ks->R v a->gU R (vs++[v]) (ks++[a])
 |[],[],_,_,_,h=>⟨h,trivial⟩
 |_::_,_::_,_,_,⟨c,b⟩,h=>⟨c,gU.snoc b h⟩
 |[],_::_,_,_,h,_=>h.elim
 |_::_,[],_,_,h,_=>h.elim
def AM(R:Value->aC->Prop)(F:Nat->Prop)(w:World)(kv:Value)(ks:List aC):Prop:=
 (kv=.slice none 0 0/\ks=[])\/
 ∃g cap cur vs,kv=.slice (some ⟨g,0,none⟩) ks.length cap/\F g/\w.heap[g]?=some (.cells cur 25 (0,0))/\ks.length<=cap/\cur.toList.take ks.length=vs/\gU R vs ks
def rM:Nat->(Nat->Prop)->World->Value->aC->Prop
 |0,_,_,_,_=>False
 |d+1,F,w,v,a=>∃b kv,v=.pointer (some ⟨b,0,none⟩)/\F b/\w.heap[b]?=some (.cells #[.string (bs a.op),.int .i64 a.l_,.string (bs a.x_),kv] 65 (0,0))/\AM (rM d F w) F w kv a.y_
def Rep(F:Nat->Prop)(w:World)(v:Value)(a:aC):Prop:=∃d,rM d F w v a
def AM.mono{S:Value->aC->Prop}{e:Value}(h:AM R F w e ks)(p:∀v a,R v a->S v a)(m:∀b,F b->G b):AM S G w e ks:=by
 rcases h with h|⟨g,c,d,i,k,f,n,j,l,o⟩
 ·exact d6 h
 ·exact d5 ⟨g,c,d,i,k,m _ f,n,j,l,o.mono p⟩
def rM.mono(c:∀b,F b->G b):∀{d e:Nat} {v a},rM d F w v a->d<=e->rM e G w v a
 |d+1,e+1,v,a,⟨b,f,k,i,l,j⟩,g=>⟨b,f,k,c _ i,l,j.mono (λ_ _ h=>rM.mono c h o_) c⟩
 |0,_,_,_,h,_=>h.elim
def rM.keep(c:∀b,F b->w'.heap[b]?=w.heap[b]?):∀{d:Nat} {v a},rM d F w v a->rM d F w' v a
 |d+1,v,a,⟨b,s,o,j,r,e⟩=>by
  refine⟨b,s,o,j,by rw[c b j];exact r,?_⟩
  rcases e with e|⟨g,f,i,m,l,k,n,t,p,q⟩
  ·exact d6 e
  ·exact d5 ⟨g,f,i,m,l,k,by rw[c g k];exact n,t,p,q.mono λ_ _ h=>rM.keep c h⟩
def Rep.mono(h:Rep F w v a)(c:∀b,F b->G b):Rep G w v a:=by
 obtain⟨d,h⟩:=h;exact⟨d,h.mono c (d7 _)⟩
def Rep.keep(h:Rep F w v a)(c:∀b,F b->w'.heap[b]?=w.heap[b]?):Rep F w' v a:=by
 obtain⟨d,h⟩:=h;exact⟨d,h.keep c⟩
def Rep.ptr(h:Rep F w v a):∃b,v=.pointer (some ⟨b,0,none⟩):=by
 obtain⟨d,h⟩:=h;cases d with
 |zero=>exact h.elim
 |succ d=>obtain⟨b,_,c,_⟩:=h;exact⟨b,c⟩
def gU.depth:∀{vs ks},gU (Rep F w) vs ks->∃d,gU (rM d F w) vs ks
 |[],[],_=>⟨0,trivial⟩
 |_::_,_::_,⟨⟨d,b⟩,a⟩=>by
  obtain⟨e,c⟩:=gU.depth a;exact⟨max d e,b.mono (λ_ h=>h) (Nat.le_max_left _ _),c.mono λ_ _ h=>h.mono (λ_ h=>h) (Nat.le_max_right _ _)⟩
 |[],_::_,h=>h.elim
 |_::_,[],h=>h.elim
def Kid(F:Nat->Prop)(w:World)(kv:Value)(ks:List aC):Prop:=AM (Rep F w) F w kv ks
def Kid.depth(h:Kid F w c ks):∃d,AM (rM d F w) F w c ks:=by
 rcases h with h|⟨g,b,a,f,l,i,n,j,m,e⟩
 ·exact⟨0,d6 h⟩
 ·obtain⟨d,k⟩:=e.depth;exact⟨d,d5 ⟨g,b,a,f,l,i,n,j,m,k⟩⟩
def Rep.mk(g:F b)(h:w.heap[b]?=some (.cells #[.string (bs a.op),.int .i64 a.l_,.string (bs a.x_),c] 65 (0,0)))(f:Kid F w c a.y_):Rep F w (.pointer (some ⟨b,0,none⟩)) a:=by
 obtain⟨d,e⟩:=f.depth;exact⟨d+1,b,c,rfl,g,h,e⟩
def Kid.mono{a:Value}(h:Kid F w a ks)(c:∀b,F b->G b):Kid G w a ks:=AM.mono h (λ_ _ h=>h.mono c) c
def Kid.keep{f:Value}(h:Kid F w f ks)(d:∀b,F b->w'.heap[b]?=w.heap[b]?):Kid F w' f ks:=by
 rcases h with h|⟨g,c,a,j,i,e,k,m,n,l⟩
 ·exact d6 h
 ·exact d5 ⟨g,c,a,j,i,e,by rw[d g e];exact k,m,n,l.mono λ_ _ h=>h.keep d⟩
def Btw(lo hi:Nat)(b:Nat):Prop:=lo<=b/\b<hi
def NR(C:Ctx)(w:World):Except Nat Nat->Prop
 |.ok q=>At C w q 0
 |.error l=>l≠0/\∃q,At C w q l
def m6{α:Type}:bQ α->Except Nat Nat
 |.ok (_,q)=>.ok q
 |.error l=>.error l
def BD(C:Ctx)(S:Except Nat Nat)(x:List UInt8):Except Nat Nat:=
 match S with
 |.ok q=>if aV C.ts q x then .ok (q+1) else .error (aN C.ts q).l_
 |.error l=>.error l
def NR.below{C:Ctx}(h:NR C w S)(a:Below w.heap.size w w'):NR C w' S:=by
 cases S with
 |ok q=>exact At.below h a
 |error l=>obtain⟨c,q,b⟩:=h;exact⟨c,q,b.below a⟩
def YN{C:Ctx}(h:aV C.ts q x=true):BD C (.ok q) x=.ok (q+1):=by unfold BD;simp only[h,if_true]
def J4{C:Ctx}(h:aV C.ts q x=false):BD C (.ok q) x=.error (aN C.ts q).l_:=by unfold BD;simp[h]
def JV(C:Ctx)(w:World)(r:bQ aC)(e:Ending)(w':World):Prop:=
 Fr C.pb w w'/\NR C w' (m6 r)/\∃b,e=.returned (.pointer (some ⟨b,0,none⟩))/\∀a q,r=.ok (a,q)->Rep (Btw w.heap.size w'.heap.size) w' (.pointer (some ⟨b,0,none⟩)) a
def Lst(b_:Nat)(w:World)(v:Value)(acc:List aC):Prop:=
 ∃vs F,w.ownsRow b_ 25 1 v acc.length vs/\gU (Rep F w) vs acc/\∀b,F b->b_<=b/\b<w.heap.size/\v.ownBlock≠some b
def Lst.nil(b_:Nat)(w:World):Lst b_ w (.slice none 0 0) []:=⟨[],λ_=>False,World.ownsRow_nil _ _ _ _,trivial,λ_ h=>h.elim⟩
def aX{a:Nat}(h:w.ownsRow b e a v n xs)(l:∀k,v.ownBlock=some k->w1.heap[k]?=w.heap[k]?):w1.ownsRow b e a v n xs:=by
 refine⟨h.1,?_⟩;rcases h.2 with d|⟨g,f,c,i,d,m,j⟩
 ·exact d6 d
 ·refine d5 ⟨g,f,c,i,d,?_,j⟩;rw[l g (by rw[i];rfl)];exact m
def cI{a:Nat}(h:w.ownsRow b e a v n xs):∀k,v.ownBlock=some k->k<w.heap.size:=by
 intro k c;rcases h.2 with ⟨rfl,_⟩|⟨g,f,d,rfl,j,i,_⟩
 ·cases c
 ·have:g=k:=Option.some.inj c;subst this;exact aD i
def Lst.keep(h:Lst b_ w v acc)(c:Fr pb w w1)(j:pb<b_):Lst b_ w1 v acc:=by
 obtain⟨g,F,d,i,e⟩:=h;refine⟨g,F,aX d λk f=>?_,i.mono λ_ _ h=>h.keep λb a=>?_,λb a=>?_⟩
 ·have:=bT d k f;exact c.block k (cI d k f) o_
 ·have:=e b a;have:=c.size;exact⟨o_,o_,(e b a).2.2⟩
 ·have:=e b a;exact c.block b this.2.1 o_
def Lst.snoc{r o:World}{p:Value}{vs:List Value}(t:gU (Rep F w) vs acc)(z:∀b,F b->b_<=b/\b<w.heap.size/\v.ownBlock≠some b)
 (y:Rep (Btw lo w.heap.size) w p a) (A:b_<=lo) (n:∀k,v.ownBlock=some k->k<lo) (q:∀k,k<w.heap.size->r.heap[k]?=w.heap[k]?) (x:w.heap.size<=r.heap.size)
 (l:o.ownsRow b_ 25 1 (.slice (some ⟨g,0,none⟩) (acc.length+1) m) (acc.length+1) (vs++[p]))
 (f:r.grownBy o v.ownBlock) (j:v.ownBlock=some g\/w.heap.size<=g):Lst b_ o (.slice (some ⟨g,0,none⟩) (acc.length+1) m) (acc++[a]):=by
 have s:∀b,(F b\/Btw lo w.heap.size b)->b_<=b/\b<w.heap.size/\v.ownBlock≠some b:=by
  rintro b (i|i)
  ·exact z b i
  ·exact⟨by have:=i.1;omega,i.2,λe=>by have:=n b e;have:=i.1;omega⟩
 have c:∀b,(F b\/Btw lo w.heap.size b)->o.heap[b]?=w.heap[b]?:=λb i=>by
  have d:=s b i;rw[f.block b o_ (λe=>d.2.2 e.symm),q b d.2.1]
 refine⟨vs++[p],λb=>F b\/Btw lo w.heap.size b,?_,?_,?_⟩
 ·rw[ei];exact l
 ·exact gU.snoc (t.mono λ_ _ h=>(h.mono (λ_=>d6)).keep c) ((y.mono (λ_=>d5)).keep c)
 ·intro b i;have d:=s b i;have:=f.size;refine⟨d.1,o_,λe=>?_⟩
  have u:g=b:=Option.some.inj e;rcases j with j|j
  ·exact d.2.2 (by rw[j,u])
  ·omega
def Lst.kid(h:Lst b_ w v acc):Kid (Btw b_ w.heap.size) w v acc:=by
 obtain⟨m,F,o,k,j⟩:=h;rcases o.2 with ⟨a,e⟩|⟨g,c,d,a,e,f,l,q,p,n⟩
 ·exact d6 ⟨a,ge e⟩
 ·exact d5 ⟨g,c,d,m,a,⟨e,aD f⟩,f,l,by rw[<-n,je],k.mono λ_ _ h=>h.mono λb i=>⟨(j b i).1,(j b i).2.1⟩⟩
def Fr.grown{a:World}{b:Option Nat}(h:Fr pb a w)(c:w.grownBy w' b)(f:∀k,b=some k->a.heap.size<=k):Fr pb a w':=
 ⟨c.os.trans h.os,c.tape.trans h.tape,c.output.trans h.output,em h.size c.size,λk d g=>by
   rw[c.block k (el d h.size) (λe=>by have:=f k e.symm;omega)];exact h.block k d g⟩
def At.grown{C:Ctx}{a:Option Nat}(h:At C w p l)(i:w.grownBy w' a)(n:∀k,a=some k->b_<=k)(m:C.pb<b_)(d:C.g<b_):At C w' p l:=by
 obtain⟨c,f,g⟩:=h.row;have b:∀k,k<w.heap.size->k<b_->w'.heap[k]?=w.heap[k]?:=λk j b=>i.block k j λe=>by have:=n k e.symm;omega
 exact⟨by rw[b _ (aD h.blk) m];exact h.blk,⟨c,by rw[b _ (aD f) d];exact f,g⟩,h.ne,h.lt,h.len,h.cap,h.last,h.pos⟩
def NR.grown{C:Ctx}{b:Option Nat}(h:NR C w S)(e:w.grownBy w' b)(d:∀k,b=some k->b_<=k)(c:C.pb<b_)(a:C.g<b_):NR C w' S:=by
 cases S with
 |ok q=>exact At.grown h e d c a
 |error l=>obtain⟨g,q,f⟩:=h;exact⟨g,q,f.grown e d c a⟩
def NR.alloc{C:Ctx}(h:NR C w S)(o:Obj):NR C (w.alloc o) S:=h.below ((eh _ _).alloc (d7 _) _)
def NR.bad{C:Ctx}(h:NR C w (.error l)):C.pb<w.heap.size/\∃c:Int,(c==0)=false/\w.cell? ⟨C.pb,2,none⟩=some (.int .i64 c):=by
 obtain⟨b,q,a⟩:=h;exact⟨aD a.blk,(l:Int),t_,aA a.blk rfl⟩
def Lst.slice(h:Lst b_ w v acc):∃x n c,v=.slice x n c:=by
 obtain⟨e,F,b,_⟩:=h;rcases b.2 with ⟨rfl,_⟩|⟨g,d,a,rfl,_⟩
 ·exact⟨_,_,_,rfl⟩
 ·exact⟨_,_,_,rfl⟩
def TD{c:Type}(C:Ctx)(x:List UInt8)(r:bQ c):BD C (m6 r) x=m6 (aL C.ts x r):=by
 cases r with
 |error l=>rfl
 |ok b=>
  obtain⟨a,q⟩:=b;show BD C (.ok q) x=m6 (if aV C.ts q x then .ok (a,q+1) else Hs.bad C.ts q)
  cases h:aV C.ts q x
  ·rw[J4 h];rfl
  ·rw[YN h];rfl
def OA{c:Type}{C:Ctx}{r:bQ c}{a:c}(h:aL C.ts x r=.ok (a,q)):∃b,r=.ok (a,b):=by
 cases r with
 |error l=>cases h
 |ok d=>
  obtain⟨e,b⟩:=d;unfold aL at h;simp only at h;split at h
  ·cases h;exact⟨b,rfl⟩
  ·cases h
def Fr.cells(h:Fr pb w w')(c:b<w.heap.size)(d:b≠pb):(∀i,w'.cell? ⟨b,i,none⟩=w.cell? ⟨b,i,none⟩)/\(∀i,w'.frozen? ⟨b,i,none⟩=w.frozen? ⟨b,i,none⟩):=
 ⟨λi=>World.cell?_of_block (a:=⟨b,i,none⟩) (h.block b c d),λi=>World.frozen?_of_block (a:=⟨b,i,none⟩) (h.block b c d)⟩
def At.two{C:Ctx}(h:At C w p l):C.pb<w.heap.size/\(∀b a,((w.alloc b).alloc a).cell? ⟨C.pb,1,none⟩=some (.int .i64 p))/\(∀b a,((w.alloc b).alloc a).cell? ⟨C.pb,2,none⟩=some (.int .i64 l))/\(∀b a,((w.alloc b).alloc a).frozen? ⟨C.pb,1,none⟩=false):=by
 have c:∀b a,At C ((w.alloc b).alloc a) p l:=λb a=>(h.below ((eh _ _).alloc (d7 _) b)).below ((eh _ _).alloc (d7 _) a)
 exact⟨aD h.blk,λb a=>aA (c b a).blk rfl,λb a=>aA (c b a).blk rfl,λb a=>aE (c b a).blk⟩
def Below.two(b a:Obj):Below w.heap.size w ((w.alloc b).alloc a):=((eh _ _).alloc (d7 _) b).alloc s_ a
def aS(X:World)(n:Nat)(b:n=X.heap.size)(a:Obj):(X.alloc a).heap[n]?=some a:=by
 subst b;show (X.heap.push a)[X.heap.size]?=_
 rw[Array.getElem?_push,if_pos rfl]
def lP(X:World)(n:Nat)(a:n<X.heap.size)(o:Obj){b:Option Obj}(h:X.heap[n]?=b):(X.alloc o).heap[n]?=b:=by
 rw[eq _ _ _ a];exact h
def At.step{C:Ctx}{bad:Nat}(h:At C w p bad)(c:Below w.heap.size w w1)(b:p+1<C.ts.length):
 At C (w1.setCell ⟨C.pb,1,none⟩ (.int .i64 ((p:Int)+1))) (p+1) bad/\Fr C.pb w (w1.setCell ⟨C.pb,1,none⟩ (.int .i64 ((p:Int)+1))):=by
 have a:=h.move c (p+1) b;rw[show (((p+1:Nat):Int))=(p:Int)+1 by simp] at a
 exact a
def xN(h:w'.heap[b]?=w.heap[b]?):w'.cell? ⟨b,i,none⟩=w.cell? ⟨b,i,none⟩:=by simp[World.cell?,h]
def At.other{C:Ctx}(h:At C w p l)(e:b≠C.pb)(d:b≠C.g)(v:Value):At C (w.setCell ⟨b,i,none⟩ v) p l:=by
 obtain⟨a,f,c⟩:=h.row;exact⟨by rw[ej _ _ _ _ (Ne.symm e)];exact h.blk,⟨a,by rw[ej _ _ _ _ (Ne.symm d)];exact f,c⟩,h.ne,h.lt,h.len,h.cap,h.last,h.pos⟩
def NR.other{C:Ctx}(h:NR C w S)(c:b≠C.pb)(a:b≠C.g)(v:Value):NR C (w.setCell ⟨b,i,none⟩ v) S:=by
 cases S with
 |ok q=>exact At.other h c a v
 |error l=>obtain⟨e,q,d⟩:=h;exact⟨e,q,d.other c a v⟩
def JV.take{C:Ctx}{i:World}{r:bQ aC}{e:Ending}(h:JV C w r e w1)(f:Fr C.pb w1 i)(d:NR C i (BD C (m6 r) x))(j:C.pb<w.heap.size):JV C w (aL C.ts x r) e i:=by
 obtain⟨m,s,b,n,l⟩:=h;refine⟨m.trans f,by rw[<-TD];exact d,b,n,λa q o=>?_⟩
 obtain⟨p,g⟩:=OA o;exact((l a p g).keep λk c=>f.block k c.2 (by have:=c.1;omega)).mono λk c=>⟨c.1,by have:=c.2;have:=f.size;omega⟩
def JV.later{C:Ctx}{f:World}{r:bQ aC}{e:Ending}(c:Fr C.pb w w1)(h:JV C w1 r e f):JV C w r e f:=by
 obtain⟨l,i,b,m,j⟩:=h;exact⟨c.trans l,i,b,m,λa q g=>(j a q g).mono λk d=>⟨by have:=d.1;have:=c.size;omega,d.2⟩⟩
def Rep.grow{c lo' hi':Nat}(h:Rep (Btw lo c) w v a)(d:∀k,lo<=k->k<c->w'.heap[k]?=w.heap[k]?)(f:lo'<=lo)(e:c<=hi'):Rep (Btw lo' hi') w' v a:=
 (h.keep λk b=>d k b.1 b.2).mono λk b=>⟨by have:=b.1;omega,by have:=b.2;omega⟩
attribute [local go_sem ↓] Go.wp_at_zero Go.wp_at_succ
structure Made(nb:Nat)(w:World)(op te:List UInt8)(li:Nat)(v:Value)(acc:List aC):Prop where
 blk:w.heap[nb]?=some (.cells #[.string (bs op),.int .i64 li,.string (bs te),v] 65 (0,0))
 lst:Lst (nb+1) w v acc
def Made.keep{a:Nat}{c:List UInt8}(h:Made a w op c b v acc)(d:Fr pb w w1)(e:pb<a):Made a w1 op c b v acc:=
 ⟨by rw[d.block a (aD h.blk) o_];exact h.blk,h.lst.keep d o_⟩
structure Kidded(C:Ctx)(w0:World)(nb:Nat)(op te:List UInt8)(li:Nat)(acc:List aC)(r:bQ aC)(wc:World):Prop where
 fr:Fr C.pb w0 wc
 at_:NR C wc (m6 r)
 blk:∃x n c,wc.heap[nb]?=some (.cells #[.string (bs op),.int .i64 li,.string (bs te),.slice x n c] 65 (0,0))/\∀a q,r=.ok (a,q)->Made nb wc op te li (.slice x n c) (acc++[a])
structure Part(nb:Nat)(w:World)(op te:List UInt8)(li:Nat)(v:Value)(len:Nat):Prop where
 blk:w.heap[nb]?=some (.cells #[.string (bs op),.int .i64 li,.string (bs te),v] 65 (0,0))
 own:∃vs,w.ownsRow (nb+1) 25 1 v len vs
def Part.keep{e:List UInt8}{a:Nat}(h:Part b w op e d v a)(f:Fr pb w w1)(j:pb<b):Part b w1 op e d v a:=by
 obtain⟨i,c⟩:=h.own;exact⟨by rw[f.block b (aD h.blk) o_];exact h.blk,i,aX c λk g=>f.block k (cI c k g) (by have:=bT c k g;omega)⟩
def Part.slice{j:Nat}{e:List UInt8}{a:Nat}(h:Part j w op e d v a):∃x n c,v=.slice x n c:=by
 obtain⟨k,f⟩:=h.own;rcases f.2 with ⟨rfl,_⟩|⟨g,i,b,rfl,_⟩
 ·exact⟨_,_,_,rfl⟩
 ·exact⟨_,_,_,rfl⟩
structure af_(C:Ctx)(w0:World)(nb:Nat)(op te:List UInt8)(li:Nat)(acc:List aC)(len:Nat)(r:bQ aC)(wc:World):Prop where
 fr:Fr C.pb w0 wc
 at_:NR C wc (m6 r)
 blk:∃x n c,Part nb wc op te li (.slice x n c) len/\∀a q,r=.ok (a,q)->Made nb wc op te li (.slice x n c) (acc++[a])
attribute [local go_sem ↓] Go.wp_at_zero Go.wp_at_succ
def Made.new{c:Nat}{b:List UInt8}{a:Nat}(h:w.heap[c]?=some (.cells #[.string (bs op),.int .i64 a,.string (bs b),.slice none 0 0] 65 (0,0))):Made c w op b a (.slice none 0 0) []:=⟨h,Lst.nil _ _⟩
def At.new{a:Nat}{ts:List aP}(c:w.ownsRow b_ 115 3 (.slice (some ⟨g,0,none⟩) ts.length a) ts.length (toksC ts))(b:oP ts)(d:ts.length<=3000):
 At ⟨w.heap.size,g,a,ts⟩ (w.alloc (.cells #[.slice (some ⟨g,0,none⟩) ts.length a,.int .i64 0,.int .i64 0] 112)) 0 0:=by
 rcases c.2 with ⟨e,_⟩|⟨o,h,f,e,m,i,k,n,p,l⟩
 ·cases e
 ·cases e;have j:=aD i;refine⟨aS _ _ rfl _,⟨f,lP _ _ j _ i,l⟩,?_,b.some_,d,k,b.last,b.l_⟩;show g≠w.heap.size
  omega
def iB(l:List (List UInt8)):List Value:=l.map λx=>.string (bs x)
def XM:(prog.info? 9).map (λi=>(i.zero,i.size,i.bytes))=some (some (.string (bs [])),1,16):=k_
structure T7(cb lo:Nat)(fs:List aC)(fv:Value)(a_:Bool)(w:World)(s:bA):Prop where
 blk:∃sv,w.heap[cb]?=some (.cells #[fv,sv,.bool a_,.int .i64 s.kind,.int .i64 s.l_] 67 (0,0))/\w.ownsRow (cb+1) 9 1 sv s.e_.length (iB s.e_)
 y_:Kid (Btw lo cb) w fv fs
def T7.put{g:Value}{a:Bool}{e:bA}{f:Value}(c:Kid (Btw lo cb) w g fs)(h:∀k,k≠cb->w'.heap[k]?=w.heap[k]?)
 (d:w'.heap[cb]?=some (.cells #[g,f,.bool a,.int .i64 e.kind,.int .i64 e.l_] 67 (0,0))) (b:w.ownsRow (cb+1) 9 1 f s.e_.length (iB s.e_)) (i:e.e_=s.e_):T7 cb lo fs g a w' e:=by
 refine⟨⟨f,d,?_⟩,c.keep λk c=>h k (by have:=c.2;omega)⟩
 rw[i];exact aX b λk c=>h k (by have:=bT b k c;omega)
def rM.cells(h:rM d F w v a):
 ∃f b e,d=f+1/\v=.pointer (some ⟨b,0,none⟩)/\F b/\b<w.heap.size/\w.cell? ⟨b,0,none⟩=some (.string (bs a.op))/\w.cell? ⟨b,1,none⟩=some (.int .i64 a.l_)/\w.cell? ⟨b,2,none⟩=some (.string (bs a.x_))/\w.cell? ⟨b,3,none⟩=some e/\AM (rM f F w) F w e a.y_:=by
 cases d with
 |zero=>exact h.elim
 |succ d=>
  obtain⟨b,e,j,g,c,i⟩:=h;exact⟨d,b,e,rfl,j,g,aD c,aA c rfl,aA c rfl,aA c rfl,aA c rfl,i⟩
def gU.get{R:Value->aC->Prop}:∀{vs ks} (i:Nat) (b:i<ks.length),gU R vs ks->∃v,vs[i]?=some v/\R v ks[i]
 |v::vs,a::ks,0,_,h=>⟨v,rfl,h.1⟩
 |v::vs,a::ks,i+1,b,h=>by
  obtain⟨u,d,c⟩:=gU.get (vs:=vs) (ks:=ks) i (by simpa using b) h.2
  exact⟨u,by simpa using d,by simpa using c⟩
 |[],_::_,_,_,h=>h.elim
 |_::_,[],_,b,_=>by simp at b
 |[],[],_,b,_=>by simp at b
def AM.get{b:Value}(h:AM R F w b ks):
 (b=.slice none 0 0/\ks=[])\/∃g a,b=.slice (some ⟨g,0,none⟩) ks.length a/\F g/\g<w.heap.size/\ks.length<=a/\∀i (c:i<ks.length),∃v,w.cell? ⟨g,i,none⟩=some v/\R v ks[i]:=by
 rcases h with h|⟨g,a,m,p,k,f,e,j,l,o⟩
 ·exact d6 h
 ·refine d5 ⟨g,a,k,f,aD e,j,λi c=>?_⟩
  obtain⟨v,d,n⟩:=gU.get i c o;refine⟨v,aA e ?_,n⟩;rw[<-l,fm,if_pos c] at d;simpa using d
def nJ(s:bA)(l k:Nat):(s.found l k).e_=s.e_:=by
 unfold bA.found;split<;>rfl
def AM.slice{b:Value}(h:AM R F w b ks):∃x c,b=.slice x ks.length c:=by
 rcases h.get with ⟨rfl,rfl⟩|⟨g,a,rfl,_⟩
 ·exact⟨none,0,rfl⟩
 ·exact⟨_,a,rfl⟩
def WQ{b:Bool}(h:lW fs b a.x_=W)(c:W<0):eG fs b s a=s.found a.l_ 6:=by
 unfold eG;rw[h,if_pos c]
def G0{b:Bool}(h:lW fs b a.x_=W)(d:¬W<0)(c:W≠(a.y_.length:Int)):eG fs b s a=s.found a.l_ 7:=by
 unfold eG;rw[h,if_neg d,if_pos c]
def G3{b:Bool}(h:lW fs b a.x_=W)(d:¬W<0)(c:W=(a.y_.length:Int)):eG fs b s a=s:=by
 unfold eG;rw[h,if_neg d,if_neg (by simpa using c)]
def VG(fs:List aC)(a:Bool)(s:bA)(n:aC):(cC fs a s n).e_=s.e_:=by
 unfold cC eG;repeat' split
 all_goals first|rfl|exact nJ _ _ _
def nE(s:bA)(n:aC):(Hs.declaresL s n).e_=s.e_:=by
 unfold Hs.declaresL;split
 ·exact nJ _ _ _
 ·rfl
def Adds(s s':bA)(m:Nat):Prop:=∃t,s'.e_=s.e_++t/\t.length<=m
def Adds.refl(s:bA):Adds s s 0:=⟨[],s_,d7 _⟩
def Adds.trans{a b c:bA}(h:Adds a b m)(k:Adds b c n):Adds a c (m+n):=by
 obtain⟨t,e,g⟩:=h;obtain⟨u,d,f⟩:=k;exact⟨t++u,by rw[d,e,fo],t_⟩
def Adds.le{a b:bA}(h:Adds a b m)(e:m<=n):Adds a b n:=by
 obtain⟨t,c,d⟩:=h;exact⟨t,c,o_⟩
def Adds.of_eq{a b:bA}(h:b.e_=a.e_):Adds a b 0:=⟨[],by simp[h],d7 _⟩
def Adds.fold{f:bA->aC->bA}{g:aC->Nat}(h:∀s k,Adds s (f s k) (g k)):∀(l:List aC) (s:bA),Adds s (l.foldl f s) (l.map g).sum
 |[],s=>Adds.refl s
 |k::l,s=>by
  rw[ig,ew,ey];exact(h s k).trans (Adds.fold h l _)
def fT(fs:List aC)(a:Bool):∀(d:Nat) (n:aC) (s:bA),Adds s (aM fs a d n s) (bU d n)
 |0,n,s=>Adds.refl s
 |d+1,n,s=>by
  rw[aM,bU];split
  ·match i:n.y_ with
   |t::v::r=>
    simp only;have c:Adds s (Hs.declaresL s t) 0:=Adds.of_eq (nE s t);obtain⟨u,b,e⟩:=c.trans (fT fs a d v (Hs.declaresL s t));exact⟨u++[t.x_],by simp[b],t_⟩
   |[]=>exact(Adds.refl s).le o_
   |[_]=>exact(Adds.refl s).le o_
  ·have c:Adds s (cC fs a s n) 0:=Adds.of_eq (VG fs a s n);have b:=c.trans (Adds.fold (f:=λs k=>aM fs a d k s) (g:=bU d) (λs k=>fT fs a d k s) n.y_ (cC fs a s n))
   split
   ·obtain⟨u,e,h⟩:=b;exact⟨[],by simp[e],s_⟩
   ·exact b.le o_
def tR{f:aC->Nat}{k:aC}:∀{l:List aC},k∈l->f k<=(l.map f).sum
 |[],h=>by cases h
 |x::l,h=>by
  simp only[ew,ey];rcases en.1 h with rfl|h
  ·omega
  ·have:=tR (f:=f) h;omega
def OG{l:List (List UInt8)}(h:w.ownsRow b_ 9 1 v l.length (iB l))(m:Nat)(q:m<=l.length):
 ∃x c,v=.slice x l.length c/\l.length<=c/\c<=maxLen/\w.ownsRow b_ 9 1 (.slice x m c) m (iB (l.take m)):=by
 have f:(iB (l.take m)).length=m*1:=by simp[iB];omega
 rcases h.2 with ⟨rfl,j⟩|⟨g,a,b,rfl,i,o,k,d,p,n⟩
 ·refine⟨none,0,by rw[j],o_,by unfold maxLen;omega,f,d6 ⟨?_,o_⟩⟩
  rw[show m=0 by omega]
 ·refine⟨_,a,rfl,k,d,f,d5 ⟨g,a,b,rfl,i,o,o_,d,p,?_⟩⟩
  have e:iB (l.take m)=(iB l).take m:=by simp[iB,List.map_take]
  rw[e,<-n,ir];congr 1;omega
def PT(w:World)(x:List UInt8):∀j u,([.string (bs x)]:List Value)[j]?=some u->(w.alloc (.cells #[.string (bs x)] 9)).cell? ((⟨w.heap.size,0,none⟩:Addr).add j)=some u:=by
 intro j u a;match j,a with
 |0,a=>simp at a;subst a;simp[Addr.add,go_sem]
 |j+1,a=>simp at a
def XG(x:List UInt8):∀u∈([.string (bs x)]:List Value),u.oneCell'=true:=by
 intro u a;simp at a;subst a;rfl
def P9{f:World}{d v1 v2 g v':Value}{vs:List Value}(h:w.heap[cb]?=some (.cells #[d,v1,v2,c,g] 67 (0,0)))(a:w.ownsRow (cb+1) 9 1 v' n vs)(i:(w.alloc o).grownBy f v'.ownBlock):
 f.heap[cb]?=some (.cells #[d,v1,v2,c,g] 67 (0,0)):=by
 have b:=aD h;rw[i.block cb t_ (λe=>by have:=bT a cb e.symm;omega)]
 exact lP _ _ b _ h
def T7.add{r:Value}{a:Bool}{j:World}{q:Value}(h:T7 cb lo fs r a w s)(f:w.heap[cb]?=some (.cells #[r,q,.bool a,.int .i64 s.kind,.int .i64 s.l_] 67 (0,0)))
 (d:w.ownsRow (cb+1) 9 1 q s.e_.length (iB s.e_)) (c:j.ownsRow (cb+1) 9 1 (.slice (some ⟨g,0,none⟩) (s.e_.length+1) b) (s.e_.length+1) (iB s.e_++[.string (bs x)])) (i:(w.alloc o).grownBy j q.ownBlock):
 Below cb w (j.setCell ⟨cb,1,none⟩ (.slice (some ⟨g,0,none⟩) (s.e_.length+1) b))/\T7 cb lo fs r a (j.setCell ⟨cb,1,none⟩ (.slice (some ⟨g,0,none⟩) (s.e_.length+1) b)) { s with e_:=s.e_++[x] }:=by
 have t:=aD f;have p:=P9 f d i
 have m:Below cb w j:=⟨i.os.trans rfl,i.tape.trans rfl,i.output.trans rfl,em s_ i.size,λk n=>by
  rw[i.block k t_ (λe=>by have:=bT d k e.symm;omega)]
  exact eq _ _ _ o_⟩
 have l:Below cb w (j.setCell ⟨cb,1,none⟩ (.slice (some ⟨g,0,none⟩) (s.e_.length+1) b)):=m.setCell s_ _
 refine⟨l,⟨.slice (some ⟨g,0,none⟩) (s.e_.length+1) b,?_,?_⟩,h.y_.keep λk n=>l.block k n.2⟩
 ·rw[aQ p];rfl
 ·have v:(s.e_++[x]).length=s.e_.length+1:=s_
  have u:iB (s.e_++[x])=iB s.e_++[.string (bs x)]:=by simp[iB]
  show World.ownsRow _ _ _ _ _ (s.e_++[x]).length (iB (s.e_++[x]))
  rw[v,u];exact aX c λk n=>ej _ _ _ _ (by have:=bT c k n;show k≠cb;omega)
def mX(d:Nat):∀l:List aC,l.length<=(l.map (bU (d+1))).sum
 |[]=>by simp
 |x::l=>by
  have:=mX d l;have a:1<=bU (d+1) x:=by rw[bU];omega
  simp only[ek,ew,ey];omega
def rM.dp:∀{d:Nat} {v:Value} {a:aC},rM d F w v a->eT d a
 |0,_,_,h=>h.elim
 |d+1,v,a,h=>λk l=>by
  obtain⟨n,b,q,p,_,_,_,_,_,_,_,e⟩:=h.cells;obtain rfl:d=n:=o_
  obtain⟨i,f,rfl⟩:=jt.1 l;rcases e.get with ⟨_,j⟩|⟨g,m,_,_,_,_,c⟩
  ·rw[j] at f;simp at f
  ·obtain⟨v,_,o⟩:=c i f;exact o.dp
def FineL.mem{l:List aC}(h:Hs.FineL m l){f:aC}(a:f∈l):Hs.FineA m f:=λd=>⟨em (tR a) (h d).1,(h d).2 f a⟩
def FineL.len{l:List aC}(h:Hs.FineL m l):l.length<=m:=em (mX 0 l) (h 1).1
def FineA.len(h:Hs.FineA m a):a.y_.length<=m:=by
 have c:1+(a.y_.map (bU (0+1))).sum<=m:=(h 2).1;have b:=mX 0 a.y_;omega
end Go.Proofs.YthbffcmfmjpncaaGreatDoor
