/- What stands in the leaves of a tree: plain words. -/
import Derived.Test.YtlflgmdcghfngaaGreatDoorP00
set_option linter.defProp false
set_option maxRecDepth 100000
namespace Go.Proofs.YtlflgmdcghfngaaGreatDoor.Hs
inductive dB:cC->Prop
 |nil:dB []
 |cons {l:cC}:bK l≠0->dB (l.drop (bK l))->dB l
def nW{l m:cC}{i lo hi:Nat}(h:m[i]?=l[i]?):dN m i lo hi=dN l i lo hi:=by unfold dN;rw[h]
def oN{l m:cC}(h:bK l≠0)(a:∀i,i<bK l->m[i]?=l[i]?):bK m=bK l:=by
 have o:=a 0 o_
 unfold bK at h a ⊢
 rw[o];cases n:l[0]? with
 |none=>exact absurd (by rw[n]) h
 |some b=>
  rw[n] at h a;simp only at h a ⊢
  by_cases e:b.toNat<128
  ·rw[if_pos e,if_pos e]
  rw[if_neg e] at h a;rw[if_neg e,if_neg e];by_cases c:194<=b.toNat/\b.toNat<=223
  ·rw[if_pos c] at h a;rw[if_pos c,if_pos c];by_cases g:dN l 1 128 191=true
   ·rw[if_pos g] at a;rw[nW (a 1 o_)]
   ·rw[if_neg g] at h;exact absurd rfl h
  rw[if_neg c] at h a;rw[if_neg c,if_neg c];by_cases d:224<=b.toNat/\b.toNat<=239
  ·rw[if_pos d] at h a;rw[if_pos d,if_pos d];by_cases k:(dN l 1 (if b.toNat=224 then 160 else 128) (if b.toNat=237 then 159 else 191) && dN l 2 128 191)=true
   ·rw[if_pos k] at a;rw[nW (a 1 o_),nW (a 2 o_)]
   ·rw[if_neg k] at h;exact absurd rfl h
  rw[if_neg d] at h a;rw[if_neg d,if_neg d];by_cases f:240<=b.toNat/\b.toNat<=244
  ·rw[if_pos f] at h a;rw[if_pos f,if_pos f];by_cases j:(dN l 1 (if b.toNat=240 then 144 else 128) (if b.toNat=244 then 143 else 191) && dN l 2 128 191 && dN l 3 128 191)=true
   ·rw[if_pos j] at a;rw[nW (a 1 o_),nW (a 2 o_),nW (a 3 o_)]
   ·rw[if_neg j] at h;exact absurd rfl h
  ·rw[if_neg f] at h;exact absurd rfl h
def QF(t:cC):Prop:=t.length<=100/\dB t
end Go.Proofs.YtlflgmdcghfngaaGreatDoor.Hs
namespace Go.Proofs.YtlflgmdcghfngaaGreatDoor
open Hs
def pI:Nat->aE->Prop
 |0,_=>True
 |d+1,a=>(a.op=[115]->a.x_.length<=100/\dB a.x_)/\a.y_.length<=1000000/\∀k∈a.y_,pI d k
def nC(a:aE):Prop:=∀e,pI e a
def nC.kid{a k:aE}(h:nC a)(b:k∈a.y_):nC k:=λe=>(h (e+1)).2.2 k b
def nC.len{a:aE}(h:nC a):a.y_.length<=1000000:=(h 1).2.1
end Go.Proofs.YtlflgmdcghfngaaGreatDoor
namespace Go.Proofs.YtlflgmdcghfngaaGreatDoor.Hs
variable{a_:Bool}{fs ks:List aE}{ts:List bC}{d m:Nat}{ar:Nat->Option Nat}{b c:Type}{a:aE}{P:aI->Prop}{f:aJ}{v:aM}{s:bD}{l:cC}
def rQ{a b:cC}(h:bK a≠0):bK (a++b)=bK a:=
 oN h λ_ c=>hQ (ej c kW)
def uZ(h:bK l≠0):bK (l.take (bK l))=bK l:=
 oN h λi a=>by rw[ga,if_pos a]
def dB.append{a b:cC}(e:dB a)(f:dB b):dB (a++b):=by
 induction e with
 |nil=>exact f
 |@cons l c _ d=>
  refine dB.cons (by rw[rQ c];exact c) ?_
  rw[rQ c,List.drop_append_of_le_length kW];exact d
def dB.one(h:bK l≠0):dB (l.take (bK l)):=
 dB.cons (by rw[uZ h];exact h) (by rw[uZ h,List.drop_take];simp;exact dB.nil)
def dB.ne(h:dB l)(a:l≠[]):bK l≠0/\dB (l.drop (bK l)):=by
 cases h with
 |nil=>exact absurd rfl a
 |cons c b=>exact⟨c,b⟩
def VI:∀(n:Nat) (l:cC),l.length<=n->∀c∈eG l,dB c:=by
 intro n;induction n with
 |zero=>
  intro l f c a;rw[eC (d7 (ja.1 o_))] at a
  cases a
 |succ n e=>
  intro l f c a;by_cases d:l=[]
  ·rw[eC (d7 d)] at a;cases a
  by_cases b:bK l=0
  ·rw[eC (d6 b)] at a;cases a
  rw[iT d b] at a;rcases eo.1 a with rfl|a
  ·exact dB.one b
  ·exact e _ (by rw[gw];omega) c a
def D6:Nat->aM->Prop
 |0,_=>True
 |d+1,v=>dB v.s/\∀x∈v.l,D6 d x
structure bU(v:aM):Prop where
 all:∀d,D6 d v
def bU.txt(h:bU v):dB v.s:=(h.all 1).1
def bU.kid{x:aM}(h:bU v)(a:x∈v.l):bU x:=⟨λd=>(h.all (d+1)).2 x a⟩
def bU.mk'(a:dB v.s)(b:∀x∈v.l,bU x):bU v:=
 ⟨λd=>by
   cases d with
   |zero=>trivial
   |succ d=>exact⟨a,λx c=>(b x c).all d⟩⟩
def bU.num(n:Int):bU (bH n):=.mk' .nil λx a=>by cases a
def bU.tru(b:Bool):bU (bV b):=.mk' .nil λx a=>by cases a
def bU.nil:bU bS:=.mk' .nil λx a=>by cases a
def bU.str{s:cC}(h:dB s):bU (bP s):=.mk' h λx a=>by cases a
def bU.lst{l:List aM}(h:∀x∈l,bU x):bU (bB l):=.mk' .nil h
def AB{l:List aM}(h:∀x∈l,bU x)(k:Nat):bU (l.getD k bS):=by
 rw[List.getD_eq_getElem?_getD];cases a:l[k]? with
 |none=>exact bU.nil
 |some x=>exact h x (gy a)
def DK{l:List aM}(h:∀x∈l,bU x)(k:Nat):bU (l[k]?.getD bS):=by
 cases a:l[k]? with
 |none=>exact bU.nil
 |some x=>exact h x (gy a)
def XW(op:cC)(a:aM):bU (fW op a).1:=by
 unfold fW;repeat' split
 all_goals first|exact bU.num _|exact bU.tru _|exact bU.nil
def TJ(op:cC)(x y:Int):bU (jZ op x y).1:=by
 unfold jZ;repeat' split
 all_goals first|exact bU.num _|exact bU.tru _|exact bU.nil
def JS{a b:aM}(c:bU a)(d:bU b):bU (jY a b).1:=by
 unfold jY;dsimp only;generalize e:(if a.sort=3 then bB (a.l++b.l) else bP (a.s++b.s))=v
 have f:bU v:=by
  rw[<-e];split
  ·refine bU.lst λx g=>?_
   rcases eu.1 g with h|h
   ·exact c.kid h
   ·exact d.kid h
  ·exact bU.str (c.txt.append d.txt)
 split
 ·exact bU.nil
 ·exact f
def WF(op:cC){a b:aM}(c:bU a)(d:bU b):bU (fA op a b).1:=by
 unfold fA;repeat' split
 all_goals first|exact bU.tru _|exact bU.nil|exact TJ _ _ _|exact JS c d
def JQ(a:aM):bU (eL a).1:=by
 unfold eL;repeat' split
 all_goals first|exact bU.num _|exact bU.nil
def OS{a:aM}(b:aM)(e:bU a):bU (dL a b).1:=by
 unfold dL;split
 ·exact bU.nil
 split
 ·exact bU.nil
 refine AB (λx d=>?_) _
 unfold kF at d;split at d
 ·obtain⟨c,f,rfl⟩:=gz.1 d;exact bU.str (VI _ _ cL c f)
 ·exact e.kid d
def tH:∀(l:List aM) (a b:aM),bU a->bU b->bU (cW l a b).1
 |[],_,_,_,c=>c
 |i::l,a,b,e,c=>by
  unfold cW;have f:=tH l (a.l.getD i.n.toNat bS) b (AB (λx d=>e.kid d) _) c
  split
  ·exact bU.nil
  split
  ·exact bU.nil
  split
  ·exact bU.nil
  ·refine bU.lst λx d=>?_
   rcases kr d with h|h
   ·exact e.kid h
   ·rw[h];exact f
def xG{r:aM × Nat}(h:bU r.1):bU (iS r).1:=by
 unfold iS;repeat' split
 all_goals first|exact bU.nil|exact h
def xV(f:eV):Prop:=(∀v,aI.push v∈f.code->bU v)/\∀op,aI.unary op∈f.code->op=[45]\/op=[33]
structure dF(f:aJ):Prop where
 fn:xV f.fn
 g_:∀v∈f.g_,bU v
 ops:∀v∈f.ops,bU v
def gK(m:cS):Prop:=∀f∈m.f_,dF f
def kK(tab:List eV):Prop:=∀f∈tab,xV f
def dF.last(h:dF f):bU f.last:=by
 unfold aJ.last;cases a:f.ops.getLast? with
 |none=>exact bU.nil
 |some x=>exact h.ops x (je a)
def dF.pop(h:dF f):dF f.pop:=⟨h.fn,h.g_,λv a=>h.ops v (List.dropLast_subset _ a)⟩
def dF.popMany(h:dF f)(n:Nat):dF (f.popMany n):=⟨h.fn,h.g_,λv a=>h.ops v (kg a)⟩
def dF.push(h:dF f){a:aM}(c:bU a):dF (f.push a):=⟨h.fn,h.g_,λv d=>by
 rcases eu.1 d with b|b
 ·exact h.ops v b
 ·rw[ew.1 b];exact c⟩
def dF.next(h:dF f)(n:Nat):dF { f with next:=n }:=⟨h.fn,h.g_,h.ops⟩
def dF.many(h:dF f)(n:Nat):∀v∈f.many n,bU v:=λv a=>h.ops v (List.mem_of_mem_drop a)
def sW{i:aI}(h:dF f)(hi:∀v,i=.push v->bU v):dF (aL i f).1:=by
 cases i<;>simp only[aL]
 case begin l s=>exact⟨h.fn,h.g_,h.ops⟩
 case push v=>exact h.push (hi v rfl)
 case load k=>exact h.push (DK h.g_ k)
 case declare k=>
  refine⟨h.fn,λv b=>?_,h.pop.ops⟩
  rcases eu.1 b with a|a
  ·exact h.g_ v (kg a)
  ·rw[ew.1 a];exact h.last
 case assign k n=>
  have c:=h.pop.popMany n;split
  ·refine⟨c.fn,λv b=>?_,c.ops⟩
   rcases kr b with a|a
   ·exact h.g_ v a
   ·rw[a];exact xG (tH _ _ _ (DK h.g_ k) h.last)
  ·exact c
 case jump t=>exact h.next t
 case skip t=>
  repeat' split
  ·exact h.pop
  ·exact h.pop.next t
  ·exact h.pop
 case shortcut w t=>
  repeat' split
  ·exact(h.pop.push h.last).next t
  ·exact h.pop
  ·exact h.pop
 case truth=>
  repeat' split
  ·exact h.pop.push h.last
  ·exact h.pop
 case unary op=>
  repeat' split
  ·exact h.pop.push (XW _ _)
  ·exact h.pop
 case binary op=>
  repeat' split
  ·exact h.pop.pop.push (WF _ h.pop.last h.last)
  ·exact h.pop.pop
 case index=>
  repeat' split
  ·exact h.pop.pop.push (OS _ h.pop.last)
  ·exact h.pop.pop
 case list n=>
  repeat' split
  ·exact(h.popMany n).push (xG (bU.lst (h.many n)))
  ·exact h.popMany n
 case length=>
  repeat' split
  ·exact h.pop.push (JQ _)
  ·exact h.pop
 case drop=>exact h.pop
 all_goals exact h
def GW{m:List eV}(B:kK m){b:List aJ}{g:aJ}{t:List Int}{o:cN}{i:aI}(h:gK ⟨b++[f],t,o⟩)(q:f.fetch=some (i,g)):gK (doI m i b g t o).1:=by
 have z:∀x∈b,dF x:=λx l=>h x (by simp[l])
 have u:dF f:=h f s_
 obtain⟨rfl,D⟩:g={ f with next:=f.next+1 }/\f.fn.code[f.next]?=some i:=by
  unfold aJ.fetch at q;cases l:f.fn.code[f.next]? with
  |none=>rw[l] at q;cases q
  |some j=>rw[l] at q;simp at q;exact⟨q.2.symm,by rw[q.1]⟩
 have p:dF { f with next:=f.next+1 }:=u.next _
 generalize { f with next:=f.next+1 }=g at p
 have A:∀v,i=.push v->bU v:=λv e=>u.fn.1 v (by rw[<-e];exact gy D)
 have d:∀y,dF y->∀t o,gK ⟨b++[y],t,o⟩:=λy C t o x l=>by
  rcases eu.1 l with c|c
  ·exact z x c
  ·rw[ew.1 c];exact C
 cases i
 case read=>
  cases t with
  |nil=>exact d _ p _ _
  |cons a r=>exact d _ (p.push (bU.num _)) _ _
 case call k n=>
  simp only[doI];split
  ·exact d _ (p.popMany n) _ _
  ·intro x l;simp only[eu,eo,fi,or_false] at l;rcases l with c|rfl|rfl
   ·exact z x c
   ·exact p.popMany n
   ·refine⟨?_,p.many n,λv w=>by cases w⟩
    show xV (m[k]?.getD ⟨[],[]⟩)
    cases s:m[k]? with
    |none=>exact ff (λv w=>absurd w s_) (λv w=>absurd w s_)
    |some y=>exact B y (gy s)
 case give=>
  simp only[doI];intro x l;rcases eu.1 l with c|c
  ·exact z x (List.dropLast_subset _ c)
  ·cases s:b.getLast? with
   |none=>rw[s] at c;cases c
   |some y=>
    rw[s] at c;simp at c;rw[c];exact(z y (je s)).push p.last
 case print=>
  simp only[doI];split<;>exact d _ p.pop _ _
 all_goals exact d _ (sW p A) _ _
inductive dJ:aE->Prop
 |leaf (a:aE) (h:a.op=[48]\/a.op=[115]\/a.op=[98,111,111,108]\/a.op=[110,97,109,101]) (hk:a.y_=[]) (ht:a.op=[115]->QF a.x_):dJ a
 |many (a:aE) (h:a.op=[108,105,115,116]\/a.op=[99,97,108,108]) (hk:∀k∈a.y_,dJ k):dJ a
 |one (a l:aE) (h:a.op=[45,120]\/a.op=[33,120]) (hk:a.y_=[l]) (hl:dJ l):dJ a
 |two (a l r:aE) (h:a.op=[105,110,100,101,120]\/cK a.op≠9) (hk:a.y_=[l,r]) (hl:dJ l) (hr:dJ r):dJ a
inductive iB:aE->Prop
 |var (a t v:aE) (h:a.op=[118,97,114]) (hk:a.y_=[t,v]) (hv:dJ v) (ht:t.op=[116,97,114,103,101,116]/\t.y_=[]):iB a
 |set (a:aE) (h:a.op=[115,101,116]) (hn:a.y_≠[]) (hk:∀k∈a.y_,dJ k):iB a
 |if2 (a c t:aE) (h:a.op=[105,102]) (hk:a.y_=[c,t]) (hc:dJ c) (ht:t.op=[98,108,111,99,107]) (htk:∀k∈t.y_,iB k):iB a
 |if3 (a c t x:aE) (h:a.op=[105,102]) (hk:a.y_=[c,t,x]) (hc:dJ c) (ht:t.op=[98,108,111,99,107]) (htk:∀k∈t.y_,iB k) (hx:x.op=[98,108,111,99,107]) (hxk:∀k∈x.y_,iB k):iB a
 |whl (a c t:aE) (h:a.op=[119,104,105,108,101]) (hk:a.y_=[c,t]) (hc:dJ c) (ht:t.op=[98,108,111,99,107]) (htk:∀k∈t.y_,iB k):iB a
 |ret0 (a:aE) (h:a.op=[114,101,116,117,114,110]) (hk:a.y_=[]):iB a
 |ret1 (a v:aE) (h:a.op=[114,101,116,117,114,110]) (hk:a.y_=[v]) (hv:dJ v):iB a
 |print (a v:aE) (h:a.op=[112,114,105,110,116]) (hk:a.y_=[v]) (hv:dJ v):iB a
 |call (a c:aE) (h:a.op=[100,111]) (hk:a.y_=[c]) (hc:dJ c) (ho:c.op=[99,97,108,108]):iB a
structure QM(b:aE):Prop where
 op:b.op=[98,108,111,99,107]
 y_:∀k∈b.y_,iB k
structure tO(f:aE):Prop where
 y_:∃ps b,f.y_=ps++[b]/\(∀x∈ps,x.op=[112,97,114,97,109])/\QM b/\∀x∈ps,x.y_=[]
def bR{α:Type}(P:α->Prop)(r:cD α):Prop:=∀a q,r=.ok (a,q)->P a
def bR.err{P:b->Prop}{n:Nat}:bR P (.error n):=λa q h=>by cases h
def bR.bad{P:c->Prop}{b:Nat}:bR P (bad ts b):=λa q h=>by cases h
def bR.of_ok{P:b->Prop}{q:Nat}{a:b}(h:P a):bR P (.ok (a,q)):=λc d e=>by cases e;exact h
def bR.take{P:b->Prop}{x:cC}{r:cD b}(h:bR P r):bR P (aS ts x r):=by
 cases r with
 |error l=>exact bR.err
 |ok c=>
  obtain⟨a,q⟩:=c;have:=h a q rfl;unfold aS;simp only;split
  ·exact bR.of_ok this
  ·exact bR.bad
def bR.map{P:b->Prop}{Q:c->Prop}{r:cD b}{f:b->c}(h:bR P r)(d:∀a,P a->Q (f a)):bR Q (cG f r):=by
 cases r with
 |error l=>exact bR.err
 |ok e=>obtain⟨a,q⟩:=e;exact bR.of_ok (d a (h a q rfl))
def bR.bind{P:b->Prop}{Q:c->Prop}{r:cD b}{f:b->Nat->cD c}(h:bR P r)(d:∀a q,P a->bR Q (f a q)):bR Q (bX r f):=by
 cases r with
 |error l=>exact bR.err
 |ok e=>obtain⟨a,q⟩:=e;exact d a q (h a q rfl)
def fE(P:aE->Prop)(l:List aE):Prop:=∀k∈l,P k
def fE.nil{P:aE->Prop}:fE P []:=λ_ h=>by cases h
def fE.snoc{P:aE->Prop}{l:List aE}(h:fE P l)(c:P a):fE P (l++[a]):=λk b=>by
 rcases eu.1 b with b|b
 ·exact h k b
 ·rw[ew.1 b];exact c
section
variable {ts:List bC} {E:Nat->cD aE}
def tN(ts:List bC):Prop:=∀p,(aT ts p).sort=115->QF (aT ts p).x_
def sP(d:∀q,bR dJ (E q)):∀(g p:Nat) (acc:List aE),fE dJ acc->bR (fE dJ) (dS E ts g p acc)
 |0,p,acc,_=>bR.err
 |g+1,p,acc,c=>by
  rw[dS];cases f:E p with
  |error l=>exact bR.err
  |ok e=>
   obtain⟨a,q⟩:=e;have b:=d p a q f;simp only;split
   ·exact sP d g (q+1) _ (c.snoc b)
   ·exact bR.of_ok (c.snoc b)
def sO(a:∀q,bR dJ (E q))(p:Nat)(x y:cC):bR (fE dJ) (eZ E ts p x y):=by
 unfold eZ;split
 ·refine bR.take ?_;unfold iR;split
  ·exact bR.of_ok fE.nil
  ·exact sP a _ _ _ fE.nil
 ·exact bR.bad
def JN(b:tN ts)(c:∀q,bR dJ (E q))(p:Nat):bR dJ (eH E ts p):=by
 unfold eH;split
 ·rename_i h;simp at h;rcases h with h|h
  ·refine bR.of_ok (.leaf _ (d7 (by show [UInt8.ofNat _]=_;rw[h];rfl)) rfl λe=>?_)
   have d:[UInt8.ofNat (aT ts p).sort]=[115]:=e;rw[h] at d;exact absurd d d_
  ·exact bR.of_ok (.leaf _ (d6 (d7 (by show [UInt8.ofNat _]=_;rw[h];rfl))) rfl λ_=>b p h)
 split
 ·exact bR.of_ok (.leaf _ (d6 (d6 (d7 rfl))) rfl λe=>by simp[aV] at e)
 split
 ·exact(c (p+1)).take
 split
 ·exact bR.map (sO c p _ _) λa h=>.many _ (d7 rfl) h
 split
 ·split
  ·exact bR.map (sO c (p+1) _ _) λa h=>.many _ (d6 rfl) h
  ·exact bR.of_ok (.leaf _ (d6 (d6 (d6 rfl))) rfl λe=>by simp[aV] at e)
 ·exact bR.bad
def AL(b:∀q,bR dJ (E q)):∀(g:Nat) (n:aE) (p:Nat),dJ n->bR dJ (dK E ts g n p)
 |0,n,p,_=>bR.err
 |g+1,n,p,a=>by
  rw[dK];split
  ·have c:=(b (p+1)).take (ts:=ts) (x:=[93]);cases d:aS ts [93] (E (p+1)) with
   |error l=>exact bR.err
   |ok e=>
    obtain⟨i,q⟩:=e;exact AL b g _ q (.two _ n i (d7 rfl) rfl a (c i q d))
  ·exact bR.of_ok a
def sM(b:tN ts)(c:∀q,bR dJ (E q)):∀(g p:Nat),bR dJ (eW E ts g p)
 |0,p=>bR.err
 |g+1,p=>by
  rw[eW];split
  ·exact bR.map (sM b c g (p+1)) λa h=>.one _ a (d7 rfl) rfl h
  split
  ·exact bR.map (sM b c g (p+1)) λa h=>.one _ a (d6 rfl) rfl h
  ·exact bR.bind (JN b c p) λa q d=>AL c _ a q d
def rJ{L:Nat->cD aE}{k:Nat}(b:k<9)(d:∀q,bR dJ (L q)):∀(g:Nat) (n:aE) (q:Nat),dJ n->bR dJ (bJ L ts k g n q)
 |0,n,q,_=>bR.err
 |g+1,n,q,c=>by
  rw[bJ];split
  ·rename_i a;cases j:L (q+1) with
   |error l=>exact bR.err
   |ok h=>
    obtain⟨r,e⟩:=h;have i:=d _ r e j;have f:dJ (aV (aT ts q).x_ (aT ts q).l_ [] [n,r]):=.two _ n r (d6 (by simp at a;show cK (aT ts q).x_≠9;rw[a.2];omega)) rfl c i
    simp only;split
    ·exact bR.of_ok f
    ·exact rJ b d g _ e f
  ·exact bR.of_ok c
def sQ(b:tN ts)(c:∀q,bR dJ (E q)):∀(j p:Nat),bR dJ (gH E ts j p)
 |0,p=>sM b c _ p
 |j+1,p=>by
  rw[gH];exact bR.bind (sQ b c j p) λa q d=>rJ o_ (λq=>sQ b c j q) _ a q d
def qL(ts:List bC)(a:tN ts):∀(f p:Nat),bR dJ (eM ts f p)
 |0,p=>bR.err
 |f+1,p=>by
  rw[eM];exact sQ a (λq=>qL ts a f q) 5 p
def uP(b:∀q,bR dJ (E q)):∀(g p:Nat) (acc:List aE),fE dJ acc->bR (fE dJ) (fH E ts g p acc)
 |0,p,acc,_=>bR.err
 |g+1,p,acc,a=>by
  rw[fH];split
  ·have c:=(b (p+1)).take (ts:=ts) (x:=[93]);cases d:aS ts [93] (E (p+1)) with
   |error l=>exact bR.err
   |ok e=>
    obtain⟨i,q⟩:=e;exact uP b g q _ (a.snoc (c i q d))
  ·exact bR.of_ok a
def OC(b:∀q,bR dJ (E q))(p:Nat):bR iB (gY E ts p):=by
 unfold gY;split
 ·split
  ·exact bR.take (bR.map (sO b (p+1) _ _) λa h=>.call _ _ rfl rfl (.many _ (d6 rfl) h) rfl)
  ·refine bR.bind ((uP b _ (p+1) [] fE.nil).take) λl q d=>?_
   exact bR.take (bR.map (b q) λv c=>.set _ rfl (by simp[aV]) (d.snoc c))
 ·exact bR.bad
def XN{B:Nat->cD aE}(a:∀q,bR dJ (E q))(h:∀q,bR QM (B q))(p:Nat):bR iB (jU E B ts p):=by
 unfold jU;split
 ·unfold tQ;split
  ·split
   ·exact bR.take (bR.map (a (p+3)) λv e=>.var _ _ v rfl rfl e ⟨rfl,rfl⟩)
   ·exact bR.bad
  ·exact bR.bad
 split
 ·unfold zF;refine bR.bind (a (p+1)) λc q f=>bR.bind (h q) λb k g=>?_
  split
  ·exact bR.map (h (k+1)) λd i=>.if3 _ c b d rfl rfl f g.op g.y_ i.op i.y_
  ·exact bR.of_ok (.if2 _ c b rfl rfl f g.op g.y_)
 split
 ·unfold pS;exact bR.bind (a (p+1)) λc q f=>bR.map (h q) λb j=>.whl _ c b rfl rfl f j.op j.y_
 split
 ·unfold mK;split
  ·exact bR.of_ok (.ret0 _ rfl rfl)
  ·exact bR.take (bR.map (a (p+1)) λv e=>.ret1 _ v rfl rfl e)
 split
 ·unfold pX;exact bR.take (bR.map (a (p+1)) λv e=>.print _ v rfl rfl e)
 ·exact OC a p
def rK{S:Nat->cD aE}(b:∀q,bR iB (S q)):∀(g p:Nat) (acc:List aE),fE iB acc->bR (fE iB) (dU S ts g p acc)
 |0,p,acc,_=>bR.err
 |g+1,p,acc,a=>by
  rw[dU];split
  ·exact bR.of_ok a
  ·cases c:S p with
   |error l=>exact bR.err
   |ok d=>
    obtain⟨s,q⟩:=d;exact rK b g q _ (a.snoc (b p s q c))
def AM(a:∀q,bR dJ (E q)):∀(f p:Nat),bR QM (jO E ts f p)
 |0,p=>bR.err
 |f+1,p=>by
  rw[jO];split
  ·exact bR.map (bR.take (rK (λq=>XN a (λq=>AM a f q) q) _ (p+1) [] fE.nil)) λl h=>⟨rfl,h⟩
  ·exact bR.bad
def rI:∀(g p:Nat) (acc:List aE),fE (λx=>x.op=[112,97,114,97,109]/\x.y_=[]) acc->bR (fE λx=>x.op=[112,97,114,97,109]/\x.y_=[]) (dD ts g p acc)
 |0,p,acc,_=>bR.err
 |g+1,p,acc,b=>by
  have a:fE (λx=>x.op=[112,97,114,97,109]/\x.y_=[]) (acc++[aV [112,97,114,97,109] (aT ts p).l_ (aT ts p).x_ []]):=b.snoc ⟨rfl,rfl⟩
  rw[dD];split
  ·split
   ·exact rI g (p+2) _ a
   ·exact bR.of_ok a
  ·exact bR.bad
def XO{B:Nat->cD aE}(e:∀q,bR QM (B q))(p:Nat):bR tO (kR B ts p):=by
 unfold kR;split
 ·split
  ·split
   ·have a:bR (fE λx=>x.op=[112,97,114,97,109]/\x.y_=[]) (iN ts (p+3)):=by
     unfold iN;refine bR.take ?_;split
     ·exact bR.of_ok fE.nil
     ·exact rI _ (p+3) [] fE.nil
    exact bR.bind a λl q d=>bR.map (e q) λb f=>⟨l,b,rfl,λx c=>(d x c).1,f,λx c=>(d x c).2⟩
   ·exact bR.bad
  ·exact bR.bad
 ·exact bR.bad
def sN{F:Nat->cD aE}(b:∀q,bR tO (F q)):∀(g p:Nat) (acc:List aE),fE tO acc->bR (fE tO) (fI F ts g p acc)
 |0,p,acc,_=>bR.err
 |g+1,p,acc,a=>by
  rw[fI];split
  ·exact bR.of_ok a
  ·cases d:F p with
   |error l=>exact bR.err
   |ok c=>
    obtain⟨s,q⟩:=c;exact sN b g q _ (a.snoc (b p s q d))
end
def dB.split{a b:cC}{c:UInt8}(G:c.toNat<128)(h:dB (a++c::b)):dB a/\dB b:=by
 generalize w:a++c::b=l at h;induction h generalizing a with
 |nil=>simp at w
 |cons o r F=>
  subst w;cases a with
  |nil=>
   have e:bK ([]++c::b)=1:=by simp[bK,G]
   rw[e] at r;exact⟨.nil,by simpa using r⟩
  |cons x a=>
   have q:bK (x::a++c::b)<=(x::a).length:=by
    refine Nat.le_of_not_lt λd=>?_
    have D:∀i g j,128<=g->i=a.length+1->dN (x::a++c::b) i g j=false:=λi g j s p=>by
     subst p;have:(x::a++c::b)[a.length+1]?=some c:=s_
     unfold dN;rw[this];simp;omega
    have f:∀i g j,128<=g->dN (x::a++c::b) i g j=true->i≠a.length+1:=λi g j s t e=>by rw[D i g j s e] at t;cases t
    unfold bK at o d;rw[ep] at d;simp only[gb,List.getElem?_cons_zero] at o d f;have k:∀n m:Nat,128<=m->128<=(if x.toNat=n then m else 128):=λn m h=>by split<;>omega
    by_cases u:x.toNat<128
    ·rw[if_pos u] at d;omega
    rw[if_neg u] at d;by_cases v:194<=x.toNat/\x.toNat<=223
    ·rw[if_pos v] at d;by_cases h:dN (x::(a++c::b)) 1 128 191=true
     ·rw[if_pos h] at d;have:=f _ _ _ o_ h;omega
     ·rw[if_neg h] at d;omega
    rw[if_neg v] at d;by_cases y:224<=x.toNat/\x.toNat<=239
    ·rw[if_pos y] at d;by_cases h:(dN (x::(a++c::b)) 1 (if x.toNat=224 then 160 else 128) (if x.toNat=237 then 159 else 191) && dN (x::(a++c::b)) 2 128 191)=true
     ·rw[if_pos h] at d;rw[fy] at h;have C:=f _ _ _ (k _ _ o_) h.1
      have H:=f _ _ _ o_ h.2
      omega
     ·rw[if_neg h] at d;omega
    rw[if_neg y] at d;by_cases z:240<=x.toNat/\x.toNat<=244
    ·rw[if_pos z] at d;by_cases h:(dN (x::(a++c::b)) 1 (if x.toNat=240 then 144 else 128) (if x.toNat=244 then 143 else 191) && dN (x::(a++c::b)) 2 128 191 && dN (x::(a++c::b)) 3 128 191)=true
     ·rw[if_pos h] at d;rw[fy,fy] at h;have C:=f _ _ _ (k _ _ o_) h.1.1
      have H:=f _ _ _ o_ h.1.2
      have I:=f _ _ _ o_ h.2
      omega
     ·rw[if_neg h] at d;omega
    ·rw[if_neg z] at d;omega
   have B:(x::a++c::b).drop (bK (x::a++c::b))=(x::a).drop (bK (x::a++c::b))++c::b:=by rw[List.drop_append_of_le_length q]
   obtain⟨A,E⟩:=F B.symm;refine⟨?_,E⟩;have e:bK (x::a)=bK (x::a++c::b):=oN o λi j=>(hQ o_).symm
   exact .cons (by rw[e];exact o) (by rw[e];exact A)
def rA:∀(f:Nat) (l:cC) (p:Nat),l.length<=f->dZ f l p=none->dB l
 |0,l,_,h,_=>by
  obtain rfl:l=[]:=gg o_
  exact .nil
 |f+1,l,p,h,a=>by
  rw[dZ] at a;split at a
  ·rename_i c;obtain rfl:l=[]:=gg c;exact .nil
  split at a
  ·cases a
  rename_i b;exact .cons b (rA f _ _ (by rw[gw];omega) a)
def QU(f:Nat):∀(b l:cC) (ts:List bC),eX f b l=.ok ts->dB (b++l)->∀t∈ts,t.sort=115->QF t.x_:=by
 induction f with
 |zero=>intro b l ts h;cases h
 |succ f w=>
  intro b l ts h q t e a;by_cases g:l.length=0
  ·rw[nH _ _ _ g] at h;cases h;rw[ew.1 e] at a;cases a
  ·cases d:(cH l).ok
   ·rw[nI _ _ _ g d] at h;cases h
   ·rw[mS _ _ _ g d _ rfl] at h;generalize x:(cH l).size+blankL l.length (l.drop (cH l).size)=m at h;cases j:eX f (b++l.take m) (l.drop m) with
    |error n=>rw[j] at h;cases h
    |ok v=>
     rw[j] at h;cases h;rcases eo.1 e with rfl|e
     ·cases l with
      |nil=>simp at g
      |cons c r=>
       rw[cH] at a d ⊢
       by_cases o:(eO c || fS c)=true
       ·rw[if_pos o] at a;exfalso;unfold iG at a;split at a
        ·simp only at a;split at a<;>omega
        ·simp at a
       rw[if_neg o] at a d ⊢
       by_cases k:c.toNat=34
       ·rw[if_pos k] at d ⊢
        simp only[oU,fy,decide_eq_true_eq] at d;refine⟨by simp only[oU,g8];omega,?_⟩
        have u:r=r.take (bQ fP r)++34::r.drop (bQ fP r+1):=by
         obtain⟨i,s⟩:=gq.1 d.1;conv=>lhs;rw[<-g9 (bQ fP r) r,kh i,s]
        have p:=(q.split o_).2
        rw[u] at p;exact(p.split d_).1
       ·rw[if_neg k] at a;exfalso;unfold iE at a;split at a<;>simp at a
     ·exact w _ _ v j (by rw[gr,g9];exact q) t e a
def pL(h:iD l=.ok ts)(c:dZ l.length l 0=none):tN ts:=λp a=>by
 unfold aT at a ⊢
 cases b:ts[p]? with
 |none=>rw[b] at a;cases a
 |some t=>
  rw[b] at a;exact QU _ _ _ _ h (by rw[g9];exact rA _ _ _ cL c) t (gy b) a
def xD(h:cO l=.ok ks):∀f∈ks,tO f:=by
 unfold cO at h;split at h
 ·cases h
 split at h
 ·cases h
 rename_i a;split at h
 ·cases h
 rename_i c d;split at h
 ·cases h
 rename_i q b;cases h;exact sN (λq=>XO (λe=>AM (λq=>qL c (pL d a) _ q) _ e) q) _ _ _ fE.nil _ _ b
def qR(s:bD)(l k:Nat)(h:s.kind≠0):(s.found l k).kind≠0:=by unfold bD.found;rw[if_neg h];exact h
def rM(s:bD)(n:aE)(h:s.kind≠0):(declaresL s n).kind≠0:=by
 unfold declaresL;split
 ·exact qR _ _ _ h
 ·exact h
def TA(fs:List aE)(a_:Bool)(s:bD)(n:aE)(h:s.kind≠0):(cM fs a_ s n).kind≠0:=by
 unfold cM eP;repeat' split
 all_goals first|exact qR _ _ _ h|exact h
def iK{f:bD->aE->bD}(a:∀s k,s.kind≠0->(f s k).kind≠0):∀(l:List aE) (s:bD),s.kind≠0->(l.foldl f s).kind≠0
 |[],_,h=>h
 |k::l,s,h=>iK a l _ (a s k h)
def fV(fs:List aE)(a_:Bool):∀(d:Nat) (n:aE) (s:bD),s.kind≠0->(aP fs a_ d n s).kind≠0
 |0,_,_,h=>h
 |d+1,n,s,h=>by
  rw[aP];split
  ·split
   ·exact fV fs a_ d _ _ (rM s _ h)
   ·exact h
  ·have a:(n.y_.foldl (λs k=>aP fs a_ d k s) (cM fs a_ s n)).kind≠0:=iK (λs k b=>fV fs a_ d k s b) _ _ (TA fs a_ s n h)
   simp only;split<;>exact a
def ExOk.up{e_:cN}:∀{d e:Nat} {a:aE},ExOk fs a_ e_ d a->d<=e->ExOk fs a_ e_ e a
 |0,_,_,h,_=>h.elim
 |d+1,0,_,_,h=>by omega
 |d+1,e+1,a,h,j=>by
  have f:∀k,ExOk fs a_ e_ d k->ExOk fs a_ e_ e k:=λk b=>ExOk.up b o_
  rcases h with h|h|⟨c,b⟩|⟨c,l,r,b,g,i⟩|⟨c,l,b,g⟩|⟨c,b,m⟩|⟨c,l,r,b,g,i⟩
  ·exact d7 h
  ·exact d6 (d7 h)
  ·exact d6 (d6 (d7 ⟨c,λk h=>f k (b k h)⟩))
  ·exact d6 (d6 (d6 (d7 ⟨c,l,r,b,f l g,f r i⟩)))
  ·exact d6 (d6 (d6 (d6 (d7 ⟨c,l,b,f l g⟩))))
  ·exact d6 (d6 (d6 (d6 (d6 (d7 ⟨c,λk h=>f k (b k h),m⟩)))))
  ·exact d6 (d6 (d6 (d6 (d6 (d6 ⟨c,l,r,b,f l g,f r i⟩)))))
def StsOk.up{S b:cN->aE->Prop}(h:∀s a,S s a->b s a):∀{l:List aE} {e_:cN},StsOk S e_ l->StsOk b e_ l
 |[],_,_=>trivial
 |_::_,_,c=>⟨h _ _ c.1,StsOk.up h c.2⟩
def dM.up:∀{d e:Nat} {e_:cN} {a:aE},dM fs d e_ a->d<=e->dM fs e e_ a
 |0,_,_,_,h,_=>h.elim
 |d+1,0,_,_,_,h=>by omega
 |d+1,e+1,e_,a,h,w=>by
  have j:∀k,ExOk fs false e_ d k->ExOk fs false e_ e k:=λk f=>f.up o_
  have i:∀l,StsOk (dM fs d) e_ l->StsOk (dM fs e) e_ l:=λl z=>z.up λs a h=>dM.up h o_
  rcases h with ⟨g,o,t,v,f,m,p⟩|⟨g,p,n,f⟩|⟨g,c,t,f,q,u⟩|⟨g,c,b,f,q,o⟩|⟨g,f|⟨v,f,m⟩⟩|⟨g,v,f,m⟩|⟨g,v,f,m⟩
  ·exact d7 ⟨g,o,t,v,f,j v m,p⟩
  ·exact d6 (d7 ⟨g,p,n,λk h=>j k (f k h)⟩)
  ·exact d6 (d6 (d7 ⟨g,c,t,f.imp id λ⟨x,y,r⟩=>⟨x,y,i _ r⟩,j c q,i _ u⟩))
  ·exact d6 (d6 (d6 (d7 ⟨g,c,b,f,j c q,i _ o⟩)))
  ·exact d6 (d6 (d6 (d6 (d7 ⟨g,d7 f⟩))))
  ·exact d6 (d6 (d6 (d6 (d7 ⟨g,d6 ⟨v,f,j v m⟩⟩))))
  ·exact d6 (d6 (d6 (d6 (d6 (d7 ⟨g,v,f,j v m⟩)))))
  ·exact d6 (d6 (d6 (d6 (d6 (d6 ⟨g,v,f,j v m⟩)))))
def iP{l k:Nat}(a:k≠0)(h:(s.found l k).kind=0):False:=by
 unfold bD.found at h;split at h
 ·exact a h
 ·rename_i b;exact b h
def wA{f:aE}{a:cC}:∀{fs:List aE},dT fs a=some f->fs[dG fs a]?=some f
 |[],h=>by simp[dT] at h
 |x::l,h=>by
  unfold dT dG at*;rw[List.find?_cons] at h;rw[List.findIdx_cons];cases b:(x.x_==a) with
  |true=>rw[b] at h;simp at h;simp[h]
  |false=>
   rw[b] at h;simp only[cond_false,List.getElem?_cons_succ];exact wA (fs:=l) h
def nZ(fs:List aE)(a_:Bool)(d:Nat)(a:aE):Prop:=
 ∀sn,(aP fs a_ d a ⟨sn,0,0⟩).kind=0->aP fs a_ d a ⟨sn,0,0⟩=⟨sn,0,0⟩/\ExOk fs a_ sn.reverse d a
def kI:∀(l:List aE) (b:cN),(∀k∈l,nZ fs a_ d k)->(l.foldl (λs k=>aP fs a_ d k s) ⟨b,0,0⟩).kind=0->
 l.foldl (λs k=>aP fs a_ d k s) ⟨b,0,0⟩=⟨b,0,0⟩/\∀k∈l,ExOk fs a_ b.reverse d k
 |[],b,_,_=>⟨rfl,λk c=>by cases c⟩
 |a::l,b,h,e=>by
  rw[ip] at e ⊢
  have i:(aP fs a_ d a ⟨b,0,0⟩).kind=0:=ia λf=>iK (λs k o=>fV fs a_ d k s o) l _ f e
  obtain⟨m,g⟩:=h a (fw ..) b i;rw[m] at e ⊢
  obtain⟨n,j⟩:=kI l b (λk c=>h k (fe _ c)) e
  refine⟨n,λk c=>?_⟩
  rcases eo.1 c with rfl|c
  ·exact g
  ·exact j k c
def gC{n:aE}(b:n.op≠[118,97,114])(a:n.op≠[98,108,111,99,107]):aP fs a_ (d+1) n s=n.y_.foldl (λs k=>aP fs a_ d k s) (cM fs a_ s n):=by
 rw[aP];rw[if_neg (by simpa using b)]
 simp only;rw[if_neg (by simpa using a)]
def look_plain{n:aE}(b:n.op≠[115,101,116])(a:n.op≠[110,97,109,101])(c:n.op≠[99,97,108,108]):cM fs a_ s n=s:=by
 unfold cM;rw[if_neg (by simp[b,a]),if_neg (by simpa using c)]
def nX(o:∀f∈fs,f.y_≠[])(q:a_=true->fs=[]):∀(d:Nat) (a:aE),dJ a->fG d a->nZ fs a_ d a
 |0,_,_,h=>h.elim
 |d+1,a,J,G=>by
  intro v m
  have two:∀(l r:aE),a.y_=[l,r]->dJ l->dJ r->∀k∈a.y_,nZ fs a_ d k:=λl r i C D k b=>by
   have w:=G k b;rw[i] at b;rcases eo.1 b with rfl|b
   ·exact nX o q d _ C w
   ·obtain rfl:=ew.1 b;exact nX o q d _ D w
  have B:a.op≠[118,97,114]/\a.op≠[98,108,111,99,107]:=by
   cases J with
   |leaf _ h=>rcases h with h|h|h|h<;>rw[h]<;>decide
   |many _ h=>rcases h with h|h<;>rw[h]<;>decide
   |one _ l h=>rcases h with h|h<;>rw[h]<;>decide
   |two _ l r h=>
    rcases h with h|h
    ·rw[h];decide
    ·exact⟨λe=>by rw[e] at h;exact h d_,λe=>by rw[e] at h;exact h d_⟩
  rw[gC B.1 B.2] at m ⊢
  have g:(cM fs a_ ⟨v,0,0⟩ a).kind=0:=ia λz=>iK (λs k M=>fV fs a_ d k s M) a.y_ _ z m
  cases J with
  |leaf _ h i=>
   rw[i] at m ⊢
   simp only[ju] at m ⊢
   rcases h with h|h|h|h
   ·exact⟨look_plain (by rw[h];decide) (by rw[h];decide) (by rw[h];decide),d7 ⟨d7 h,i⟩⟩
   ·exact⟨look_plain (by rw[h];decide) (by rw[h];decide) (by rw[h];decide),d7 ⟨d6 (d7 h),i⟩⟩
   ·exact⟨look_plain (by rw[h];decide) (by rw[h];decide) (by rw[h];decide),d7 ⟨d6 (d6 h),i⟩⟩
   ·unfold cM at g ⊢
    rw[if_pos (by simp[h])] at g ⊢
    split at g
    ·rename_i K;rw[if_pos K];exact⟨rfl,d6 (d7 ⟨h,i,by simpa using K⟩)⟩
    ·exact(iP d_ g).elim
  |many _ h i=>
   have E:∀k∈a.y_,nZ fs a_ d k:=λk b=>nX o q d k (i k b) (G k b)
   rcases h with h|h
   ·rw[look_plain (by rw[h];decide) (by rw[h];decide) (by rw[h];decide)] at m ⊢
    obtain⟨A,t⟩:=kI a.y_ v E m;exact⟨A,d6 (d6 (d7 ⟨h,t⟩))⟩
   ·have e:cM fs a_ ⟨v,0,0⟩ a=eP fs a_ ⟨v,0,0⟩ a:=by unfold cM;rw[if_neg (by simp[h]),if_pos (by simp[h])]
    rw[e] at m g ⊢
    unfold eP at m g ⊢
    split at g
    ·exact(iP d_ g).elim
    rename_i x;rw[if_neg x] at m ⊢
    split at g
    ·exact(iP d_ g).elim
    rename_i j;rw[if_neg j] at m ⊢
    obtain⟨A,t⟩:=kI a.y_ v E m;refine⟨A,d6 (d6 (d6 (d6 (d6 (d7 ⟨h,t,?_⟩)))))⟩;simp only[ne_eq,Decidable.not_not] at j;unfold jE at x j;by_cases n:a.x_=[108,101,110]
    ·rw[if_pos (by simp[n])] at j
     exact d7 ⟨n,o_⟩
    rw[if_neg (by simp[n])] at x j
    by_cases c:a.x_=[114,101,97,100]/\a_=false
    ·rw[if_pos (by simp[c])] at j
     exact d6 (d7 ⟨c.1,c.2,o_⟩)
    have u:¬((a.x_==[114,101,97,100] && !a_)=true):=by
     intro I;simp at I;exact c I
    rw[if_neg u] at x j;cases F:dT fs a.x_ with
    |none=>rw[F] at x;simp at x
    |some f=>
     rw[F] at x j;simp only at x j;have p:f∈fs:=iz F;have z:=o f p;have H:0<f.y_.length:=gx.2 z
     have y:a_=false:=by
      cases a_ with
      |false=>rfl
      |true=>rw[q rfl] at p;cases p
     refine d6 (d6 ⟨n,λD=>c ⟨D,y⟩,y,?_⟩)
     unfold fZ;rw[wA F];simp;omega
  |one _ l h i C=>
   have E:∀k∈a.y_,nZ fs a_ d k:=λk b=>by
    have w:=G k b;rw[i] at b;obtain rfl:=ew.1 b;exact nX o q d _ C w
   rw[look_plain (by rcases h with h|h<;>rw[h]<;>decide) (by rcases h with h|h<;>rw[h]<;>decide) (by rcases h with h|h<;>rw[h]<;>decide)] at m ⊢
   obtain⟨A,t⟩:=kI a.y_ v E m;exact⟨A,d6 (d6 (d6 (d6 (d7 ⟨h,l,i,t l (by rw[i];simp)⟩))))⟩
  |two _ l r h i C D=>
   have L:cM fs a_ ⟨v,0,0⟩ a=⟨v,0,0⟩:=by
    rcases h with h|h
    ·exact look_plain (by rw[h];decide) (by rw[h];decide) (by rw[h];decide)
    ·exact look_plain (λe=>by rw[e] at h;exact h d_) (λe=>by rw[e] at h;exact h d_) (λe=>by rw[e] at h;exact h d_)
   rw[L] at m ⊢
   obtain⟨A,t⟩:=kI a.y_ v (two l r i C D) m;refine⟨A,?_⟩;rcases h with h|h
   ·exact d6 (d6 (d6 (d7 ⟨h,l,r,i,t l (by rw[i];simp),t r (by rw[i];simp)⟩)))
   ·exact d6 (d6 (d6 (d6 (d6 (d6 ⟨h,l,r,i,t l (by rw[i];simp),t r (by rw[i];simp)⟩)))))
def uG(fs:List aE)(d:Nat)(a:aE):Prop:=
 ∀sn,sn.length+cF d a<=40000->(aP fs false d a ⟨sn,0,0⟩).kind=0->∃sn',aP fs false d a ⟨sn,0,0⟩=⟨sn',0,0⟩/\sn'.reverse=cZ sn.reverse a/\dM fs d sn.reverse a/\sn'.length<=sn.length+cF d a/\sn=sn'.take sn.length
def AH:∀(l:List aE) (b:cN),(∀k∈l,uG fs d k)->b.length+(l.map (cF d)).sum<=40000->(l.foldl (λs k=>aP fs false d k s) ⟨b,0,0⟩).kind=0->
 ∃c,l.foldl (λs k=>aP fs false d k s) ⟨b,0,0⟩=⟨c,0,0⟩/\StsOk (dM fs d) b.reverse l/\c.length<=b.length+(l.map (cF d)).sum/\b=c.take b.length
 |[],b,_,_,_=>⟨b,rfl,trivial,s_,s_⟩
 |a::l,b,h,t,f=>by
  rw[ip] at f ⊢
  simp only[fg,fm] at t ⊢
  have o:(aP fs false d a ⟨b,0,0⟩).kind=0:=ia λg=>iK (λs k v=>fV fs false d k s v) l _ g f
  obtain⟨i,q,n,u,z,m⟩:=h a (fw ..) b o_ o
  rw[q] at f ⊢
  obtain⟨j,w,r,A,x⟩:=AH l i (λk p=>h k (fe _ p)) o_ f
  refine⟨j,w,⟨u,by rw[<-n];exact r⟩,o_,?_⟩
  have y:b.length<=i.length:=by have:=congrArg List.length m;simp only[g8] at this;omega
  have e:i.take b.length=j.take b.length:=by
   conv=>lhs;rw[x]
   rw[jf];congr 1;omega
  rw[<-e];exact m
def IN{b:aE}{a c:cN}(e:b.op=[98,108,111,99,107])(h:b.y_.foldl (λs k=>aP fs false d k s) ⟨a,0,0⟩=⟨c,0,0⟩)(f:a=c.take a.length):aP fs false (d+1) b ⟨a,0,0⟩=⟨a,0,0⟩:=by
 rw[aP,if_neg (by simp[e])]
 have:cM fs false ⟨a,0,0⟩ b=⟨a,0,0⟩:=look_plain (by rw[e];decide) (by rw[e];decide) (by rw[e];decide)
 simp only[this,h];rw[if_pos (by simp[e])]
 congr 1
 exact f.symm
def vG{b:aE}{c:cN}(a:b.op=[98,108,111,99,107])(h:(aP fs false (d+1) b ⟨c,0,0⟩).kind=0):(b.y_.foldl (λs k=>aP fs false d k s) ⟨c,0,0⟩).kind=0:=by
 rw[aP,if_neg (by simp[a])] at h
 have:cM fs false ⟨c,0,0⟩ b=⟨c,0,0⟩:=look_plain (by rw[a];decide) (by rw[a];decide) (by rw[a];decide)
 simp only[this] at h;rw[if_pos (by simp[a])] at h
 exact h
def kT{b:aE}{a:cN}(c:b.op=[98,108,111,99,107])(j:∀k∈b.y_,uG fs d k)(e:a.length+cF (d+1) b<=40000)(h:(aP fs false (d+1) b ⟨a,0,0⟩).kind=0):
 aP fs false (d+1) b ⟨a,0,0⟩=⟨a,0,0⟩/\StsOk (dM fs d) a.reverse b.y_:=by
 rw[cF] at e;obtain⟨l,i,f,m,g⟩:=AH b.y_ a j o_ (vG c h)
 exact⟨IN c i g,f⟩
def QQ{x y:aE}(b:a.y_=[x,y])(f:a.op≠[118,97,114])(e:a.op≠[98,108,111,99,107])(c:cM fs false s a=s):aP fs false (d+1) a s=aP fs false d y (aP fs false d x s):=by
 rw[gC f e,c,b];rfl
def Z8{x y z:aE}(b:a.y_=[x,y,z])(f:a.op≠[118,97,114])(e:a.op≠[98,108,111,99,107])(c:cM fs false s a=s):aP fs false (d+1) a s=aP fs false d z (aP fs false d y (aP fs false d x s)):=by
 rw[gC f e,c,b];rfl
def KZ{k:aE}(h:k∈a.y_):cF d k+1<=cF (d+1) a:=by
 rw[cF]
 have:∀l:List aE,k∈l->cF d k<=(l.map (cF d)).sum:=by
  intro l;induction l with
  |nil=>intro h;cases h
  |cons x l b=>
   intro h;simp only[fg,fm];rcases eo.1 h with rfl|h
   ·omega
   ·have:=b h;omega
 have:=this _ h;omega
def LG(J:∀f∈fs,f.y_≠[]):∀(d:Nat) (a:aE),iB a->fG d a->uG fs d a
 |0,_,_,h=>h.elim
 |1,a,U,L=>by
  have o:∀k∈a.y_,False:=λk b=>L k b
  intro g W j;cases U with
  |var _ t v h b A=>exact(o t (by rw[b];simp)).elim
  |set _ h T b=>cases G:a.y_ with|nil=>exact(T G).elim|cons x l=>exact(o x (by rw[G];simp)).elim
  |if2 _ c t h b=>exact(o c (by rw[b];simp)).elim
  |if3 _ c t x h b=>exact(o c (by rw[b];simp)).elim
  |whl _ c t h b=>exact(o c (by rw[b];simp)).elim
  |ret1 _ v h b=>exact(o v (by rw[b];simp)).elim
  |print _ v h b=>exact(o v (by rw[b];simp)).elim
  |call _ c h b=>exact(o c (by rw[b];simp)).elim
  |ret0 _ h b=>
   have n:cM fs false ⟨g,0,0⟩ a=⟨g,0,0⟩:=look_plain (by rw[h];decide) (by rw[h];decide) (by rw[h];decide)
   refine⟨g,by rw[gC (by rw[h];decide) (by rw[h];decide),n,b];rfl,by unfold cZ;rw[if_neg (by rw[h];decide)],?_,o_,s_⟩
   exact d6 (d6 (d6 (d6 (d7 ⟨h,d7 b⟩))))
 |d+2,a,U,L=>by
  intro g W j;have p:∀k,k∈a.y_->dJ k->nZ fs false (d+1) k:=λk b Z=>nX J (λh=>by cases h) (d+1) k Z (L k b)
  have z:∀k,k∈a.y_->(∀x∈k.y_,iB x)->∀x∈k.y_,uG fs d x:=λk b S x M=>LG J d x (S x M) (L k b x M)
  have y:∀k,k∈a.y_->g.length+cF (d+1) k<=40000:=λk b=>by have:cF (d+1) k+1<=cF (d+2) a:=KZ (d:=d+1) b;omega
  have i:a.op≠[118,97,114]->g.reverse=cZ g.reverse a:=λh=>by unfold cZ;rw[if_neg h]
  cases U with
  |var _ t v h b A=>
   have e:aP fs false (d+2) a ⟨g,0,0⟩={ aP fs false (d+1) v (declaresL ⟨g,0,0⟩ t) with e_:=(aP fs false (d+1) v (declaresL ⟨g,0,0⟩ t)).e_++[t.x_] }:=by
    rw[aP,if_pos (by simp[h]),b]
   rw[e] at j ⊢
   have D:(declaresL ⟨g,0,0⟩ t).kind=0:=ia λm=>fV fs false (d+1) v _ m j
   obtain⟨N,O⟩:declaresL ⟨g,0,0⟩ t=⟨g,0,0⟩/\t.x_∉g:=by
    unfold declaresL at D ⊢
    split at D
    ·exact(iP d_ D).elim
    ·rename_i P;rw[if_neg P];simp at P;exact⟨rfl,P.2⟩
   rw[N] at j ⊢
   obtain⟨r,q⟩:=p v (by rw[b];simp) A g j
   rw[r];have X:cF (d+1) v+1<=cF (d+2) a:=KZ (d:=d+1) (a:=a) (k:=v) (by rw[b];simp)
   refine⟨g++[t.x_],rfl,?_,d7 ⟨h,t_,t,v,b,q,by simpa using O⟩,t_,s_⟩
   unfold cZ;rw[if_pos h,b];simp
  |set _ h T b=>
   rw[gC (by rw[h];decide) (by rw[h];decide)] at j ⊢
   have w:(cM fs false ⟨g,0,0⟩ a).kind=0:=ia λm=>iK (λs k S=>fV fs false (d+1) k s S) a.y_ _ m j
   have n:cM fs false ⟨g,0,0⟩ a=⟨g,0,0⟩/\a.x_∈g:=by
    unfold cM at w ⊢
    rw[if_pos (by simp[h])] at w ⊢
    split at w
    ·rename_i B;rw[if_pos B];exact⟨rfl,by simpa using B⟩
    ·exact(iP d_ w).elim
   rw[n.1] at j ⊢
   obtain⟨r,q⟩:=kI a.y_ g (λk H=>p k H (b k H)) j
   exact⟨g,r,i (by rw[h];decide),d6 (d7 ⟨h,by simpa using n.2,T,q⟩),o_,s_⟩
  |if2 _ c t h b B F u=>
   have n:cM fs false ⟨g,0,0⟩ a=⟨g,0,0⟩:=look_plain (by rw[h];decide) (by rw[h];decide) (by rw[h];decide)
   rw[QQ b (by rw[h];decide) (by rw[h];decide) n] at j ⊢
   have E:(aP fs false (d+1) c ⟨g,0,0⟩).kind=0:=ia λm=>fV fs false (d+1) t _ m j
   obtain⟨r,q⟩:=p c (by rw[b];simp) B g E
   rw[r] at j ⊢
   obtain⟨K,I⟩:=kT F (z t (by rw[b];simp) u) (y t (by rw[b];simp)) j
   exact⟨g,K,i (by rw[h];decide),d6 (d6 (d7 ⟨h,c,t,d7 b,q,I.up λs a h=>h.up o_⟩)),o_,s_⟩
  |if3 _ c t x h b B F u M Q=>
   have n:cM fs false ⟨g,0,0⟩ a=⟨g,0,0⟩:=look_plain (by rw[h];decide) (by rw[h];decide) (by rw[h];decide)
   rw[Z8 b (by rw[h];decide) (by rw[h];decide) n] at j ⊢
   have C:(aP fs false (d+1) t (aP fs false (d+1) c ⟨g,0,0⟩)).kind=0:=ia λm=>fV fs false (d+1) x _ m j
   have E:(aP fs false (d+1) c ⟨g,0,0⟩).kind=0:=ia λm=>fV fs false (d+1) t _ m C
   obtain⟨r,q⟩:=p c (by rw[b];simp) B g E
   rw[r] at j C ⊢
   obtain⟨K,I⟩:=kT F (z t (by rw[b];simp) u) (y t (by rw[b];simp)) C
   rw[K] at j ⊢
   obtain⟨V,Y⟩:=kT M (z x (by rw[b];simp) Q) (y x (by rw[b];simp)) j
   exact⟨g,V,i (by rw[h];decide),d6 (d6 (d7 ⟨h,c,t,d6 ⟨x,b,Y.up λs a h=>h.up o_⟩,q,I.up λs a h=>h.up o_⟩)),o_,s_⟩
  |whl _ c t h b B F u=>
   have n:cM fs false ⟨g,0,0⟩ a=⟨g,0,0⟩:=look_plain (by rw[h];decide) (by rw[h];decide) (by rw[h];decide)
   rw[QQ b (by rw[h];decide) (by rw[h];decide) n] at j ⊢
   have E:(aP fs false (d+1) c ⟨g,0,0⟩).kind=0:=ia λm=>fV fs false (d+1) t _ m j
   obtain⟨r,q⟩:=p c (by rw[b];simp) B g E
   rw[r] at j ⊢
   obtain⟨K,I⟩:=kT F (z t (by rw[b];simp) u) (y t (by rw[b];simp)) j
   exact⟨g,K,i (by rw[h];decide),d6 (d6 (d6 (d7 ⟨h,c,t,b,q,I.up λs a h=>h.up o_⟩))),o_,s_⟩
  |ret0 _ h b=>
   have n:cM fs false ⟨g,0,0⟩ a=⟨g,0,0⟩:=look_plain (by rw[h];decide) (by rw[h];decide) (by rw[h];decide)
   refine⟨g,by rw[gC (by rw[h];decide) (by rw[h];decide),n,b];rfl,i (by rw[h];decide),?_,o_,s_⟩
   exact d6 (d6 (d6 (d6 (d7 ⟨h,d7 b⟩))))
  |ret1 _ v h b A=>
   have n:cM fs false ⟨g,0,0⟩ a=⟨g,0,0⟩:=look_plain (by rw[h];decide) (by rw[h];decide) (by rw[h];decide)
   rw[gC (by rw[h];decide) (by rw[h];decide),n,b] at j ⊢
   simp only[ip,ju] at j ⊢
   obtain⟨r,q⟩:=p v (by rw[b];simp) A g j
   exact⟨g,r,i (by rw[h];decide),d6 (d6 (d6 (d6 (d7 ⟨h,d6 ⟨v,b,q⟩⟩)))),o_,s_⟩
  |print _ v h b A=>
   have n:cM fs false ⟨g,0,0⟩ a=⟨g,0,0⟩:=look_plain (by rw[h];decide) (by rw[h];decide) (by rw[h];decide)
   rw[gC (by rw[h];decide) (by rw[h];decide),n,b] at j ⊢
   simp only[ip,ju] at j ⊢
   obtain⟨r,q⟩:=p v (by rw[b];simp) A g j
   exact⟨g,r,i (by rw[h];decide),d6 (d6 (d6 (d6 (d6 (d7 ⟨h,v,b,q⟩))))),o_,s_⟩
  |call _ v h b A=>
   have n:cM fs false ⟨g,0,0⟩ a=⟨g,0,0⟩:=look_plain (by rw[h];decide) (by rw[h];decide) (by rw[h];decide)
   rw[gC (by rw[h];decide) (by rw[h];decide),n,b] at j ⊢
   simp only[ip,ju] at j ⊢
   obtain⟨r,q⟩:=p v (by rw[b];simp) A g j
   exact⟨g,r,i (by rw[h];decide),d6 (d6 (d6 (d6 (d6 (d6 ⟨h,v,b,q⟩))))),o_,s_⟩
def gN:aE->Nat
 |⟨_,_,_,y_⟩=>1+(y_.attach.map λ⟨k,_⟩=>gN k).sum
def lH(a:aE):gN a=1+(a.y_.map gN).sum:=by
 obtain⟨e,d,c,b⟩:=a;rw[gN];congr 2
 simp
def sS:∀(d:Nat) (a:aE),fG d a->gN a<=cF d a
 |0,_,h=>h.elim
 |d+1,a,h=>by
  rw[lH,cF]
  have:∀l:List aE,(∀k∈l,gN k<=cF d k)->(l.map gN).sum<=(l.map (cF d)).sum:=by
   intro l;induction l with
   |nil=>intro _;simp
   |cons x l c=>
    intro h;simp only[fg,fm];have f:=h x (fw ..);have e:=c λk b=>h k (fe _ b)
    omega
  have:=this a.y_ λk b=>sS d k (h k b)
  omega
def sK{c:aE->Nat->List aI}(h:∀a p,(c a p).length<=m*gN a):∀(l:List aE) (p:Nat),(bW c l p).length<=m*(l.map gN).sum
 |[],_=>by simp[bW]
 |a::l,p=>by
  simp only[bW,el,fg,fm,Nat.mul_add];have d:=h a p;have b:=sK h l (p+(c a p).length);omega
def lW(fs:List aE)(e_:cN):∀(d:Nat) (a:aE) (p:Nat),(aF fs e_ d a p).length<=2*gN a
 |0,_,_=>by simp[aF]
 |d+1,a,p=>by
  have z:=sK (m:=2) (λa p=>lW fs e_ d a p) a.y_ p
  have v:=lH a;have n:=λl q=>lW fs e_ d l q
  rw[aF];simp only;generalize bW (aF fs e_ d) a.y_ p=y at z ⊢
  generalize (if (a.x_==[108,101,110])=true then aI.length else if (a.x_==[114,101,97,100])=true then aI.read else aI.call (dG fs a.x_) a.y_.length)=g
  generalize aF fs e_ d=E at*;have c:∀i:aI,(y++[i]).length<=2*gN a:=λi=>by simp only[el,ep,ey];omega
  have b:∀i:aI,([i]:List aI).length<=2*gN a:=λi=>by simp only[ep,ey];omega
  by_cases o:(a.op==[48])=true
  ·rw[if_pos o];exact b _
  rw[if_neg o];by_cases s:(a.op==[115])=true
  ·rw[if_pos s];exact b _
  rw[if_neg s];by_cases t:(a.op==[98,111,111,108])=true
  ·rw[if_pos t];exact b _
  rw[if_neg t];by_cases x:(a.op==[110,97,109,101])=true
  ·rw[if_pos x];exact b _
  rw[if_neg x];by_cases u:(a.op==[108,105,115,116])=true
  ·rw[if_pos u];exact c _
  rw[if_neg u];by_cases w:(a.op==[105,110,100,101,120])=true
  ·rw[if_pos w];exact c _
  rw[if_neg w];by_cases k:(a.op==[45,120])=true
  ·rw[if_pos k];exact c _
  rw[if_neg k];by_cases h:(a.op==[33,120])=true
  ·rw[if_pos h];exact c _
  rw[if_neg h];by_cases j:(a.op==[99,97,108,108])=true
  ·rw[if_pos j];exact c _
  rw[if_neg j];by_cases e:(a.op==[38,38] || a.op==[124,124])=true
  ·rw[if_pos e];split
   ·rename_i l r f;have A:=n l p;have B:=n r (p+(E l p).length+1);rw[f] at v;simp only[fg,gd,fm,gh] at v;simp only[el,ep,ey];omega
   ·simp
  ·rw[if_neg e];exact c _
def sD{c:cN->aE->Nat->List aI × cN}(h:∀s a p,(c s a p).1.length<=m*gN a):∀(l:List aE) (s:cN) (p:Nat),(bL c s l p).length<=m*(l.map gN).sum
 |[],_,_=>by simp[bL]
 |a::l,s,p=>by
  simp only[bL,el,fg,fm,Nat.mul_add];have d:=h s a p;have b:=sD h l (c s a p).2 (p+(c s a p).1.length);omega
def EQ(fs:List aE):∀(d:Nat) (e_:cN) (a:aE) (p:Nat),(bA fs d e_ a p).1.length<=3*gN a
 |0,_,_,_=>by simp[bA]
 |d+1,e_,a,p=>by
  have f:=lH a;have j:=λ(b:aE) q=>sD (m:=3) (λs a p=>EQ fs d s a p) b.y_ e_ q
  have h:=λ(x:aE) q=>lW fs e_ d x q
  have i:=λ(b:aE)=>lH b
  rw[bA];simp only;repeat' split
  all_goals try simp only[el,ep,ey]
  all_goals try omega
  ·rename_i t v e;have g:=h v (p+1);rw[e] at f;simp only[fg,gd,fm,gh] at f;omega
  ·have g:=sK (m:=2) (λa p=>lW fs e_ d a p) a.y_ (p+1)
   omega
  ·rename_i c t _ x e;have g:=h c (p+1);have k:=j t (p+1+(aF fs e_ d c (p+1)).length+1);have l:=i t;have n:=i x;have o:=j x (p+1+(aF fs e_ d c (p+1)).length+1+(bL (bA fs d) e_ t.y_ (p+1+(aF fs e_ d c (p+1)).length+1)).length+1);rw[e] at f;simp only[fg,gd,fm,gh] at f;omega
  ·rename_i c t _ e _ _;have g:=h c (p+1);have k:=j t (p+1+(aF fs e_ d c (p+1)).length+1);have l:=i t;rw[e] at f;simp only[fg,fm] at f;omega
  ·rename_i c t e;have g:=h c (p+1);have k:=j t (p+1+(aF fs e_ d c (p+1)).length+1);have l:=i t;rw[e] at f;simp only[fg,gd,fm,gh] at f;omega
  all_goals
   rename_i v e;have g:=h v (p+1);rw[e] at f;simp only[fg,gd,fm,gh] at f;omega
def oY(fs:List aE)(d:Nat)(s:bD)(k:aE)(h:s.kind≠0):(eY fs d s k).kind≠0:=by
 unfold eY;split
 ·exact rM s k h
 ·exact fV fs false d k s h
def UR(fs:List aE)(d:Nat)(s:bD)(n:aE)(first:Bool)(h:s.kind≠0):(gO fs d s n first).kind≠0:=by
 unfold gO;refine iK (λs k a=>oY fs d s k a) _ _ ?_
 show (if _ then _ else _:bD).kind≠0
 split
 ·exact qR _ _ _ h
 ·exact h
def IF(fs:List aE)(d:Nat):∀(a b:List aE) (s:bD),s.kind≠0->(fL fs d b a s).kind≠0
 |[],_,_,h=>h
 |n::a,b,s,h=>IF fs d a (b++[n]) _ (UR fs d s n _ h)
def sR:∀(ps:List aE) (b:cN),(∀x∈ps,x.op=[112,97,114,97,109])->(ps.foldl (eY fs d) ⟨b,0,0⟩).kind=0->ps.foldl (eY fs d) ⟨b,0,0⟩=⟨b++ps.map (·.x_),0,0⟩/\(b.Nodup->(b++ps.map (·.x_)).Nodup)
 |[],b,_,_=>by simp
 |a::l,b,h,f=>by
  rw[ip] at f ⊢
  have q:eY fs d ⟨b,0,0⟩ a={ declaresL ⟨b,0,0⟩ a with e_:=(declaresL ⟨b,0,0⟩ a).e_++[a.x_] }:=by unfold eY;rw[if_pos (by simp[h a (fw ..)])]
  have o:(eY fs d ⟨b,0,0⟩ a).kind=0:=ia λg=>iK (λs k u=>oY fs d s k u) l _ g f
  have c:(declaresL ⟨b,0,0⟩ a).kind=0:=by rw[q] at o;exact o
  obtain⟨i,j⟩:declaresL ⟨b,0,0⟩ a=⟨b,0,0⟩/\a.x_∉b:=by
   unfold declaresL at c ⊢
   split at c
   ·exact(iP d_ c).elim
   ·rename_i m;rw[if_neg m];simp at m;exact⟨rfl,m.2⟩
  rw[q,i] at f ⊢
  obtain⟨r,p⟩:=sR l (b++[a.x_]) (λx n=>h x (fe _ n)) f
  rw[r];have e:b++[a.x_]++l.map (·.x_)=b++(a::l).map (·.x_):=s_
  rw[e] at p ⊢
  refine⟨rfl,λv=>p ?_⟩
  rw[gt];exact⟨v,s_,λx n y t=>by rw[ew.1 t];exact λe=>j (e▸n)⟩
def TV(A:∀f∈fs,tO f){f:aE}(B:tO f)(F:fG (d+3) f)(H:∀e,cF e f<=2001){o:cN}{first:Bool}(n:(gO fs (d+2) ⟨o,0,0⟩ f first).kind=0):jI fs (d+2) f/\∃I,gO fs (d+2) ⟨o,0,0⟩ f first=⟨I,0,0⟩:=by
 obtain⟨g,b,j,D,y,_⟩:=B.y_;have c:∀f∈fs,f.y_≠[]:=λf B=>by obtain⟨g,b,j,_⟩:=(A f B).y_;rw[j];simp
 unfold gO at n ⊢
 have G:({ (if gI f.x_ || !first then bD.found ⟨o,0,0⟩ f.l_ 6 else ⟨o,0,0⟩) with e_:=[] }:bD).kind=0:=ia λc=>iK (λs k N=>oY fs (d+2) s k N) f.y_ _ c n
 have z:({ (if gI f.x_ || !first then bD.found ⟨o,0,0⟩ f.l_ 6 else ⟨o,0,0⟩) with e_:=[] }:bD)=⟨[],0,0⟩:=by
  split at G
  ·exact(iP d_ G).elim
  ·rename_i M;rw[if_neg M]
 rw[z,j,List.foldl_append,ip,ju] at n ⊢
 have C:(g.foldl (eY fs (d+2)) ⟨[],0,0⟩).kind=0:=ia λc=>oY fs (d+2) _ b c n
 obtain⟨q,i⟩:=sR g [] D C;have i:=i List.nodup_nil;rw[ij] at q i;rw[q] at n ⊢
 have v:eY fs (d+2) ⟨g.map (·.x_),0,0⟩ b=aP fs false (d+2) b ⟨g.map (·.x_),0,0⟩:=by unfold eY;rw[if_neg (by simp[y.op])]
 rw[v] at n ⊢
 have E:fG (d+2) b:=F b (by rw[j];simp)
 have r:=H (d+3);rw[cF,j] at r
 have w:∀l:List aE,l.length<=(l.map (cF (d+2))).sum:=by
  intro l;induction l with
  |nil=>simp
  |cons x l O=>simp only[fg,fm,ep,cF];simp only[cF] at O;omega
 have:=w g;simp only[gi,io,fg,gd,fm,gh] at r;obtain⟨L,J⟩:=kT y.op (λk u=>LG c (d+1) k (y.y_ k u) (E k u)) (by show (g.map (·.x_)).length+cF (d+2) b<=_;simp only[List.length_map];omega) n
 refine⟨⟨⟨g,b,j,J.up λs a h=>h.up o_,i⟩,?_⟩,_,L⟩
 have T:=sS _ _ F;have K:=H (d+3);have S:(bL (bA fs (d+2)) (g.map (·.x_)).reverse b.y_ 0).length<=3*(b.y_.map gN).sum:=sD (m:=3) (λs a p=>EQ fs (d+2) s a p) b.y_ (g.map (·.x_)).reverse 0
 have t:=lH f;rw[j] at t;have P:=lH b;simp only[gi,io,fg,gd,fm,gh] at t;have Q:(fO fs (d+2) f).code.length=(bL (bA fs (d+2)) (g.map (·.x_)).reverse b.y_ 0).length+2:=by simp[fO,j]
 omega
def BE(c:∀f∈fs,tO f):∀(a b:List aE) (k:cN),(∀f∈a,f∈fs/\fG (d+3) f/\∀e,cF e f<=2001)->(fL fs (d+2) b a ⟨k,0,0⟩).kind=0->∀f∈a,jI fs (d+2) f
 |[],_,_,_,_,f,g=>by cases g
 |n::a,b,k,h,i,f,g=>by
  rw[fL] at i;have o:(gO fs (d+2) ⟨k,0,0⟩ n (dT b n.x_).isNone).kind=0:=ia λj=>IF fs (d+2) a _ _ j i
  obtain⟨q,m,s⟩:=h n (fw ..);obtain⟨r,l,p⟩:=TV c (c n q) m s o;rw[p] at i;rcases eo.1 g with rfl|g
  ·exact r
  ·exact BE c a (b++[n]) l (λf g=>h f (fe _ g)) i f g
def KY{e:Nat}{f:aE}:∀{l:List aE},f∈l->cF e f<=(l.map (cF e)).sum
 |x::l,h=>by
  simp only[fg,fm];rcases eo.1 h with rfl|h
  ·omega
  ·have:=KY (e:=e) h;omega
def FineL.mem{l:List aE}{f:aE}(h:FineL m l)(a:f∈l):FineA m f:=λe=>⟨em (KY a) (h e).1,(h e).2 f a⟩
def OA(h:cO l=.ok ks)(a:cE l=(0,0)):(∀f∈ks,jI ks 2001 f)/\fZ ks (dG ks [109,97,105,110])=some 0:=by
 unfold cE at a;rw[h] at a;simp only at a;unfold lI at a;have j:=xD h;have p:=lP h;have c:∀f∈ks,FineA 2001 f:=λf g=>p.mem g
 split at a
 ·cases a
 rename_i m i;split at a
 ·cases a
 rename_i o;have q:(fL ks 2001 [] ks ⟨[],0,0⟩).kind=0:=by simp only[Prod.mk.injEq] at a;exact a.1
 refine⟨λf g=>BE (d:=1999) j ks [] [] (λf g=>⟨g,?_,λe=>((c f g) e).1⟩) q f g,?_⟩
 ·have:=mV 2002 f ((c f g).le o_)
  exact this
 ·unfold fZ;rw[wA i];obtain⟨n,b,k,_⟩:=(j m (iz i)).y_;have:m.y_.length=n.length+1:=by rw[k];simp
  simp;omega
def FineL.len{l:List aE}(h:FineL m l):l.length<=m:=by
 have a:=(h 1).1
 have:∀l:List aE,l.length<=(l.map (cF 1)).sum:=by
  intro l;induction l with
  |nil=>simp
  |cons x l b=>simp only[fg,fm,ep];have:1<=cF 1 x:=by simp[cF]
               omega
 exact em (this l) a
def FineA.y_(h:FineA m a):FineL m a.y_:=λe=>by
 have b:=(h (e+1)).1;simp only[cF] at b;exact⟨o_,(h (e+1)).2.2⟩
def AS(h:a.op≠[115])(b:a.y_=[]):∀d,pI d a
 |0=>trivial
 |d+1=>⟨λe=>absurd e h,by simp[b],λk h=>by simp[b] at h⟩
def jK(g:m<=1000000):∀(d:Nat) (a:aE),FineA m a->dJ a->pI d a
 |0,_,_,_=>trivial
 |d+1,a,i,j=>by
  refine⟨λe=>?_,em i.y_.len g,λk c=>jK g d k (i.y_.mem c) ?_⟩
  ·cases j with
   |leaf _ h c o=>exact o e
   |many _ h c=>rw[e] at h;exact absurd h d_
   |one _ l h c f=>rw[e] at h;exact absurd h d_
   |two _ l r h c f n=>rw[e] at h;exact absurd h d_
  ·cases j with
   |leaf _ h b o=>rw[b] at c;cases c
   |many _ h b=>exact b k c
   |one _ l h b f=>rw[b,ew] at c;rw[c];exact f
   |two _ l r h b f n=>
    rw[b] at c;rcases eo.1 c with rfl|c
    ·exact f
    ·rw[ew.1 c];exact n
def LW(j:m<=1000000):∀(d:Nat),(∀a,FineA m a->iB a->pI d a)/\∀t,FineA m t->t.op=[98,108,111,99,107]->(∀k∈t.y_,iB k)->pI d t
 |0=>⟨λ_ _ _=>trivial,λ_ _ _ _=>trivial⟩
 |d+1=>by
  obtain⟨w,q⟩:=LW j d;refine⟨λa o u=>⟨λe=>?_,em o.y_.len j,λk f=>?_⟩,λt o s f=>⟨λe=>?_,em o.y_.len j,λk b=>w k (o.y_.mem b) (f k b)⟩⟩
  ·cases u<;>rename_i h _<;>simp_all
  ·have g:=o.y_.mem f;cases u with
   |var _ t v h b p l=>
    rw[b] at f;rcases eo.1 f with rfl|f
    ·exact AS (by rw[l.1];decide) l.2 d
    ·obtain rfl:=ew.1 f;exact jK j d _ g p
   |set _ h z b=>exact jK j d k g (b k f)
   |if2 _ c t h b n l i=>
    rw[b] at f;rcases eo.1 f with rfl|f
    ·exact jK j d _ g n
    ·obtain rfl:=ew.1 f;exact q _ g l i
   |if3 _ c t x h b n l i y r=>
    rw[b] at f;rcases eo.1 f with rfl|f
    ·exact jK j d _ g n
    rcases eo.1 f with rfl|f
    ·exact q _ g l i
    ·obtain rfl:=ew.1 f;exact q _ g y r
   |whl _ c t h b n l i=>
    rw[b] at f;rcases eo.1 f with rfl|f
    ·exact jK j d _ g n
    ·obtain rfl:=ew.1 f;exact q _ g l i
   |ret0 _ h b=>rw[b] at f;cases f
   |ret1 _ v h b p=>rw[b,ew] at f;subst f;exact jK j d _ g p
   |print _ v h b p=>rw[b,ew] at f;subst f;exact jK j d _ g p
   |call _ c h b n s=>rw[b,ew] at f;subst f;exact jK j d _ g n
  ·rw[s] at e;cases e
def JP(g:cO l=.ok ks):∀f∈ks,∀k∈f.y_,nC k:=λf h k a d=>by
 have c:FineA 2001 k:=((lP g).mem h).y_.mem a;obtain⟨n,b,e,j,i,m⟩:=(xD g f h).y_;rw[e] at a;rcases eu.1 a with a|a
 ·exact AS (by rw[j k a];decide) (m k a) d
 ·obtain rfl:=ew.1 a;exact(LW o_ d).2 _ c i.op i.y_
def pJ(i:aI):Prop:=(∀v,i=.push v->bU v)/\∀op,i=.unary op->op=[45]\/op=[33]
def oW{c:aE->Nat->List aI}:∀(l:List aE) (p:Nat),(∀a∈l,∀q,∀i∈c a q,P i)->∀i∈bW c l p,P i
 |[],_,_,i,d=>by cases d
 |a::l,p,h,i,d=>by
  rcases eu.1 d with d|d
  ·exact h a (fw ..) p i d
  ·exact oW l _ (λb e=>h b (fe _ e)) i d
def eA{c:Prop}[Decidable c]{l m:List aI}(b:c->∀i∈l,P i)(a:∀i∈m,P i):∀i∈(if c then l else m),P i:=by
 split
 ·exact b ‹_›
 ·exact a
def eD{l:List aI}{x:aI}(b:∀i∈l,P i)(a:P x):∀i∈l++[x],P i:=λi h=>by
 rcases eu.1 h with h|h
 ·exact b i h
 ·rw[ew.1 h];exact a
def jX{x:aI}(h:P x):∀i∈[x],P i:=eD (l:=[]) (λ_ h=>by cases h) h
def kY(fs:List aE)(e_:cN):∀(d:Nat) (a:aE) (p:Nat),nC a->∀i∈aF fs e_ d a p,pJ i
 |0,_,_,_=>λi b=>by cases b
 |d+1,a,p,j=>by
  have c:∀i∈bW (aF fs e_ d) a.y_ p,pJ i:=oW _ _ λk c q=>kY fs e_ d k q (j.kid c)
  have g:∀x:aI,(∀v,x≠.push v)->(∀f,x≠.unary f)->pJ x:=λx n m=>⟨λv e=>absurd e (n v),λf e=>absurd e (m f)⟩
  have o:a.op=[115]->dB a.x_:=λh=>((j 1).1 h).2
  rw[aF];simp only;refine eA (λ_=>jX ⟨λv e=>by cases e;exact bU.num _,λf e=>by cases e⟩) ?_
  refine eA (λh=>jX ⟨λv e=>by cases e;exact bU.str (o (by simpa using h)),λf e=>by cases e⟩) ?_
  refine eA (λ_=>jX ⟨λv e=>by cases e;exact bU.tru _,λf e=>by cases e⟩) ?_
  refine eA (λ_=>jX (g _ s_ s_)) ?_
  refine eA (λ_=>eD c (g _ s_ s_)) ?_
  refine eA (λ_=>eD c (g _ s_ s_)) ?_
  refine eA (λ_=>eD c ⟨λv e=>by (cases e),λf e=>by cases e;exact d7 rfl⟩) ?_
  refine eA (λ_=>eD c ⟨λv e=>by (cases e),λf e=>by cases e;exact d6 rfl⟩) ?_
  refine eA (λ_=>eD c ?_) ?_
  ·repeat' split
   all_goals exact g _ s_ s_
  refine eA (λ_=>?_) (eD c (g _ s_ s_))
  split
  ·rename_i l r e;refine eD (λi b=>?_) (g _ s_ s_)
   rcases eu.1 b with b|b
   ·exact eD (kY fs e_ d l _ (j.kid (by rw[e];simp))) (g _ s_ s_) i b
   ·exact kY fs e_ d r _ (j.kid (by rw[e];simp)) i b
  ·intro i b;cases b
def sF{c:cN->aE->Nat->List aI × cN}:∀(l:List aE) (e_:cN) (p:Nat),(∀a∈l,∀s q,∀i∈(c s a q).1,P i)->∀i∈bL c e_ l p,P i
 |[],_,_,_,i,d=>by cases d
 |a::l,e_,p,h,i,d=>by
  rcases eu.1 d with d|d
  ·exact h a (fw ..) e_ p i d
  ·exact sF l _ _ (λb e=>h b (fe _ e)) i d
def RH(fs:List aE):∀(d:Nat) (e_:cN) (a:aE) (p:Nat),nC a->∀i∈(bA fs d e_ a p).1,pJ i
 |0,_,_,_,_,i,f=>by cases f
 |d+1,e_,a,p,o,i,f=>by
  have j:∀{k:aE} {q:Nat},k∈a.y_->i∈aF fs e_ d k q->pJ i:=λl h=>kY fs e_ d _ _ (o.kid l) i h
  have n:∀{k:aE} {q:Nat},k∈a.y_->i∈bL (bA fs d) e_ k.y_ q->pJ i:=λl h=>sF _ _ _ (λx j s q=>RH fs d s x q ((o.kid l).kid j)) i h
  have g:∀{x:aI},(∀v,x≠.push v)->(∀m,x≠.unary m)->i=x->pJ i:=λw u e=>⟨λv z=>absurd (e▸z) (w v),λm y=>absurd (e▸y) (u m)⟩
  rw[bA] at f;dsimp only at f;split at f
  ·split at f
   ·rename_i t v e;simp only[eu,eo,fi,or_false,gb] at f;rcases f with h|h|h
    ·exact g s_ s_ h
    ·exact j (by rw[e];simp) h
    ·exact g s_ s_ h
   ·cases f
  split at f
  ·simp only[eu,eo,fi,or_false,gb] at f;rcases f with h|h|h
   ·exact g s_ s_ h
   ·exact oW _ _ (λk l q=>kY fs e_ d k q (o.kid l)) i h
   ·exact g s_ s_ h
  split at f
  ·split at f
   ·rename_i c t e r;simp only[eu,eo,fi,or_false,gb] at f;rcases f with h|(((h|h)|h)|h)|h
    ·exact g s_ s_ h
    ·exact j (by rw[r];simp) h
    ·exact g s_ s_ h
    ·exact n (by rw[r];simp) h
    ·exact g s_ s_ h
    ·split at h
     ·exact n (by rw[r];simp) h
     ·cases h
   ·cases f
  split at f
  ·split at f
   ·rename_i c b e;simp only[eu,eo,fi,or_false,gb] at f;rcases f with h|((h|h)|h)|h
    ·exact g s_ s_ h
    ·exact j (by rw[e];simp) h
    ·exact g s_ s_ h
    ·exact n (by rw[e];simp) h
    ·exact g s_ s_ h
   ·cases f
  split at f
  ·split at f
   ·rename_i v e;simp only[eu,eo,fi,or_false,gb] at f;rcases f with h|h|h
    ·exact g s_ s_ h
    ·exact j (by rw[e];simp) h
    ·exact g s_ s_ h
   ·simp only[eo,fi,or_false] at f;rcases f with h|h|h
    ·exact g s_ s_ h
    ·rw[h];exact⟨λv e=>by cases e;exact bU.num _,λm e=>by cases e⟩
    ·exact g s_ s_ h
  split at f
  ·split at f
   ·rename_i v e;simp only[eu,eo,fi,or_false,gb] at f;rcases f with h|h|h
    ·exact g s_ s_ h
    ·exact j (by rw[e];simp) h
    ·exact g s_ s_ h
   ·cases f
  ·split at f
   ·rename_i c e;simp only[eu,eo,fi,or_false,gb] at f;rcases f with h|h|h
    ·exact g s_ s_ h
    ·exact j (by rw[e];simp) h
    ·exact g s_ s_ h
   ·cases f
def WK(h:∀f∈ks,∀k∈f.y_,nC k):kK (dC ks d):=λg m=>by
 obtain⟨f,o,rfl⟩:=gz.1 m
 have a:∀i∈(fO ks d f).code,pJ i:=λi c=>by
  simp only[fO,eu,eo,fi,or_false] at c;rcases c with c|rfl|rfl
  ·cases j:f.y_.getLast? with
   |none=>rw[j] at c;cases c
   |some b=>
    rw[j] at c;exact sF _ _ _ (λk n s q=>RH ks d s k q ((h f o b (je j)).kid n)) i c
  ·exact⟨λv e=>by cases e;exact bU.num _,λl e=>by cases e⟩
  ·exact⟨λv e=>by (cases e),λl e=>by cases e⟩
 exact⟨λv r=>(a _ r).1 v rfl,λl p=>(a _ p).2 l rfl⟩
def stC_seen{e_:cN}{p:Nat}(h:dM fs d e_ a):(bA fs d e_ a p).2=cZ e_ a:=
 (mJ fs d e_ a (λ_ _=>False) p h ⟨λ_ _ _ h=>h.elim,λ_ _ h=>h.elim⟩).2.1
def MR:∃k:Nat,16*320000+2<=k:=⟨_,cL⟩
noncomputable def jP:Nat:=Classical.choose MR
def MQ:16*320000+2<=jP:=Classical.choose_spec MR
noncomputable def fB(tab:List eV)(m0:cS):Nat->Option aW
 |0=>(dR tab jP m0).map λr=>⟨0,r.1,cA 0 r.2⟩
 |t+1=>
  match fB tab m0 t with
  |none=>none
  |some s=>if s.stop=0 then (dR tab jP s.m).map λr=>⟨t+1,r.1,cA (t+1) r.2⟩ else none
structure VP(ar:Nat->Option Nat)(s:aW):Prop where
 told:∀x∈s.m.f_,x.e_.length<=x.g_.length
 deep:s.m.f_.length<=16
 ok:s.stop=0->fY ar s.m/\s.m.f_≠[]
 m_:s.m_<=500
def VZ{m:cS}(h:fY ar m):∃k,wgts m.f_<=m.f_.length*k/\k=320000:=by
 have d:∀f∈m.f_,kN f<=320000:=λf a=>by
  have n:f.fn.code.length<=80000:=by
   rcases jb m.f_ with c|⟨b,x,c⟩
   ·rw[c] at a;cases a
   ·rw[jc] at c;have i:=h.ok.low;have e:=h.ok.top x (by rw[c];exact fC _ _)
    rw[c,gE] at i;rw[c] at a;rcases eu.1 a with a|a
    ·obtain⟨T,g,_⟩:=(i f a).code;exact g.len
    ·obtain⟨T,g,_⟩:=e.code;rw[ew.1 a];exact g.len
  unfold kN;split
  ·omega
  ·split<;>omega
 have:∀l:List aJ,(∀f∈l,kN f<=320000)->wgts l<=l.length*320000:=by
  intro l;induction l with
  |nil=>intro _;simp[wgts]
  |cons x l j=>
   intro h;have i:=h x (fw ..);have e:=j λf a=>h f (fe _ a)
   unfold wgts at e ⊢
   simp only[fg,fm,ep,Nat.succ_mul];omega
 exact⟨320000,this m.f_ d,rfl⟩
def qI{a:List eV}(b:kU ar a){m:cS}(h:fY ar m):∃r,dR a jP m=some r/\QL ar r:=
 mG b jP m h (by
  obtain⟨k,d,c⟩:=VZ h;have e:=Nat.mul_le_mul_right k h.ok.deep;have:=MQ;omega)
def ER{b:List eV}(j:kU ar b){m0:cS}(m:fY ar m0):∀(t:Nat) (s:aW),fB b m0 t=some s->VP ar s/\s.m_=t
 |0,s,h=>by
  obtain⟨r,k,f⟩:=qI j m;simp only[fB,k,ir,Option.some.injEq] at h;subst h
  exact⟨⟨f.told,f.deep,λc=>f.ok (by simp only[cA] at c;split at c;·simp at c
                                    ·exact c),s_⟩,rfl⟩
 |t+1,s,h=>by
  rw[fB] at h;cases a:fB b m0 t with
  |none=>rw[a] at h;cases h
  |some p=>
   rw[a] at h;simp only at h;obtain⟨l,v⟩:=ER j m t p a;split at h
   ·rename_i c;obtain⟨r,k,f⟩:=qI j (l.ok c).1;rw[k] at h;simp only[ir,Option.some.injEq] at h;subst h
    refine⟨⟨f.told,f.deep,λd=>f.ok (by simp only[cA] at d;split at d;·simp at d
                                       ·exact d),?_⟩,rfl⟩
    show t+1<=500
    have q:t≠500:=by
     intro e;cases t with
     |zero=>simp at e
     |succ u=>
      rw[fB] at a;cases n:fB b m0 u with
      |none=>rw[n] at a;cases a
      |some o=>
       rw[n] at a;simp only at a;split at a
       ·cases g:dR b jP o.m with
        |none=>rw[g] at a;cases a
        |some w=>
         rw[g] at a;simp only[ir,Option.some.injEq] at a;subst a;simp only[cA] at c;split at c
         ·simp at c
         ·rename_i i;exact i ⟨c,e⟩
       ·cases a
    have:=l.m_;omega
   ·cases h
end Go.Proofs.YtlflgmdcghfngaaGreatDoor.Hs
