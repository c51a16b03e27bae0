/- What stands in the leaves of a tree: plain words. -/
import Derived.Test.YtddnpoiiimjpcaaGreatDoorP00
set_option linter.defProp false
set_option maxRecDepth 100000
namespace Go.Proofs.YtddnpoiiimjpcaaGreatDoor.Hs
inductive dB:cE->Prop
 |nil:dB []
 |cons {l:cE}:bL l≠0->dB (l.drop (bL l))->dB l
def nS{l m:cE}{i lo a:Nat}(h:m[i]?=l[i]?):dN m i lo a=dN l i lo a:=by unfold dN;rw[h]
def oG{l m:cE}(h:bL l≠0)(a:∀i,i<bL l->m[i]?=l[i]?):bL m=bL l:=by
 have o:=a 0 o_
 unfold bL at h a ⊢
 rw[o];cases n:l[0]? with
 |none=>exact absurd (by rw[n]) h
 |some b=>
  rw[n] at h a;simp only at h a ⊢
  by_cases e:b.toNat<128
  ·rw[if_pos e,if_pos e]
  rw[if_neg e] at h a;rw[if_neg e,if_neg e];by_cases c:194<=b.toNat/\b.toNat<=223
  ·rw[if_pos c] at h a;rw[if_pos c,if_pos c];by_cases g:dN l 1 128 191=true
   ·rw[if_pos g] at a;rw[nS (a 1 o_)]
   ·rw[if_neg g] at h;exact absurd rfl h
  rw[if_neg c] at h a;rw[if_neg c,if_neg c];by_cases d:224<=b.toNat/\b.toNat<=239
  ·rw[if_pos d] at h a;rw[if_pos d,if_pos d];by_cases k:(dN l 1 (if b.toNat=224 then 160 else 128) (if b.toNat=237 then 159 else 191) && dN l 2 128 191)=true
   ·rw[if_pos k] at a;rw[nS (a 1 o_),nS (a 2 o_)]
   ·rw[if_neg k] at h;exact absurd rfl h
  rw[if_neg d] at h a;rw[if_neg d,if_neg d];by_cases f:240<=b.toNat/\b.toNat<=244
  ·rw[if_pos f] at h a;rw[if_pos f,if_pos f];by_cases j:(dN l 1 (if b.toNat=240 then 144 else 128) (if b.toNat=244 then 143 else 191) && dN l 2 128 191 && dN l 3 128 191)=true
   ·rw[if_pos j] at a;rw[nS (a 1 o_),nS (a 2 o_),nS (a 3 o_)]
   ·rw[if_neg j] at h;exact absurd rfl h
  ·rw[if_neg f] at h;exact absurd rfl h
def PD(t:cE):Prop:=t.length<=100/\dB t
end Go.Proofs.YtddnpoiiimjpcaaGreatDoor.Hs
namespace Go.Proofs.YtddnpoiiimjpcaaGreatDoor
open Hs
def oZ:Nat->aC->Prop
 |0,_=>True
 |d+1,a=>(a.op=[115]->a.x_.length<=100/\dB a.x_)/\a.y_.length<=1000000/\∀k∈a.y_,oZ d k
def nD(a:aC):Prop:=∀e,oZ e a
def nD.kid{a k:aC}(h:nD a)(b:k∈a.y_):nD k:=λe=>(h (e+1)).2.2 k b
def nD.len{a:aC}(h:nD a):a.y_.length<=1000000:=(h 1).2.1
end Go.Proofs.YtddnpoiiimjpcaaGreatDoor
namespace Go.Proofs.YtddnpoiiimjpcaaGreatDoor.Hs
variable{a_:Bool}{fs ks:List aC}{ts:List bB}{d m:Nat}{ar:Nat->Option Nat}{b c:Type}{a:aC}{P:aH->Prop}{f:aJ}{v:aL}{s:bC}{l:cE}
def qZ{a b:cE}(h:bL a≠0):bL (a++b)=bL a:=
 oG h λ_ c=>hP (ej c kX)
def uH(h:bL l≠0):bL (l.take (bL l))=bL l:=
 oG h λi a=>by rw[fu,if_pos a]
def dB.append{a b:cE}(e:dB a)(f:dB b):dB (a++b):=by
 induction e with
 |nil=>exact f
 |@cons l c _ d=>
  refine dB.cons (by rw[qZ c];exact c) ?_
  rw[qZ c,List.drop_append_of_le_length kX];exact d
def dB.one(h:bL l≠0):dB (l.take (bL l)):=
 dB.cons (by rw[uH h];exact h) (by rw[uH h,List.drop_take];simp;exact dB.nil)
def dB.ne(h:dB l)(a:l≠[]):bL l≠0/\dB (l.drop (bL l)):=by
 cases h with
 |nil=>exact absurd rfl a
 |cons c b=>exact⟨c,b⟩
def UH:∀(n:Nat) (l:cE),l.length<=n->∀c∈eG l,dB c:=by
 intro n;induction n with
 |zero=>
  intro l f c a;rw[eC (d7 (ja.1 o_))] at a
  cases a
 |succ n e=>
  intro l f c a;by_cases d:l=[]
  ·rw[eC (d7 d)] at a;cases a
  by_cases b:bL l=0
  ·rw[eC (d6 b)] at a;cases a
  rw[iQ d b] at a;rcases eo.1 a with rfl|a
  ·exact dB.one b
  ·exact e _ (by rw[gt];omega) c a
def ZT:Nat->aL->Prop
 |0,_=>True
 |d+1,v=>dB v.s/\∀x∈v.l,ZT d x
structure bT(v:aL):Prop where
 all:∀d,ZT d v
def bT.txt(h:bT v):dB v.s:=(h.all 1).1
def bT.kid{x:aL}(h:bT v)(a:x∈v.l):bT x:=⟨λd=>(h.all (d+1)).2 x a⟩
def bT.mk'(a:dB v.s)(b:∀x∈v.l,bT x):bT v:=
 ⟨λd=>by
   cases d with
   |zero=>trivial
   |succ d=>exact⟨a,λx c=>(b x c).all d⟩⟩
def bT.num(n:Int):bT (bH n):=.mk' .nil λx a=>by cases a
def bT.tru(b:Bool):bT (bU b):=.mk' .nil λx a=>by cases a
def bT.nil:bT bS:=.mk' .nil λx a=>by cases a
def bT.str{s:cE}(h:dB s):bT (bP s):=.mk' h λx a=>by cases a
def bT.lst{l:List aL}(h:∀x∈l,bT x):bT (bA l):=.mk' .nil h
def zH{l:List aL}(h:∀x∈l,bT x)(k:Nat):bT (l.getD k bS):=by
 rw[List.getD_eq_getElem?_getD];cases a:l[k]? with
 |none=>exact bT.nil
 |some x=>exact h x (gv a)
def CM{l:List aL}(h:∀x∈l,bT x)(k:Nat):bT (l[k]?.getD bS):=by
 cases a:l[k]? with
 |none=>exact bT.nil
 |some x=>exact h x (gv a)
def WP(op:cE)(a:aL):bT (fU op a).1:=by
 unfold fU;repeat' split
 all_goals first|exact bT.num _|exact bT.tru _|exact bT.nil
def SE(op:cE)(x y:Int):bT (jX op x y).1:=by
 unfold jX;repeat' split
 all_goals first|exact bT.num _|exact bT.tru _|exact bT.nil
def IT{a b:aL}(c:bT a)(d:bT b):bT (jW a b).1:=by
 unfold jW;dsimp only;generalize e:(if a.sort=3 then bA (a.l++b.l) else bP (a.s++b.s))=v
 have f:bT v:=by
  rw[<-e];split
  ·refine bT.lst λx g=>?_
   rcases eq.1 g with h|h
   ·exact c.kid h
   ·exact d.kid h
  ·exact bT.str (c.txt.append d.txt)
 split
 ·exact bT.nil
 ·exact f
def VD(op:cE){a b:aL}(c:bT a)(d:bT b):bT (eZ op a b).1:=by
 unfold eZ;repeat' split
 all_goals first|exact bT.tru _|exact bT.nil|exact SE _ _ _|exact IT c d
def IR(a:aL):bT (eL a).1:=by
 unfold eL;repeat' split
 all_goals first|exact bT.num _|exact bT.nil
def NT{a:aL}(b:aL)(e:bT a):bT (dL a b).1:=by
 unfold dL;split
 ·exact bT.nil
 split
 ·exact bT.nil
 refine zH (λx d=>?_) _
 unfold kC at d;split at d
 ·obtain⟨c,f,rfl⟩:=hQ.1 d;exact bT.str (UH _ _ cK c f)
 ·exact e.kid d
def sT:∀(l:List aL) (a b:aL),bT a->bT b->bT (cV l a b).1
 |[],_,_,_,c=>c
 |i::l,a,b,e,c=>by
  unfold cV;have f:=sT l (a.l.getD i.n.toNat bS) b (zH (λx d=>e.kid d) _) c
  split
  ·exact bT.nil
  split
  ·exact bT.nil
  split
  ·exact bT.nil
  ·refine bT.lst λx d=>?_
   rcases ki d with h|h
   ·exact e.kid h
   ·rw[h];exact f
def wO{r:aL × Nat}(h:bT r.1):bT (iP r).1:=by
 unfold iP;repeat' split
 all_goals first|exact bT.nil|exact h
def xE(f:eU):Prop:=(∀v,aH.push v∈f.code->bT v)/\∀op,aH.unary op∈f.code->op=[45]\/op=[33]
structure dF(f:aJ):Prop where
 fn:xE f.fn
 g_:∀v∈f.g_,bT v
 ops:∀v∈f.ops,bT v
def gK(m:cR):Prop:=∀f∈m.f_,dF f
def kI(tab:List eU):Prop:=∀f∈tab,xE f
def dF.last(h:dF f):bT f.last:=by
 unfold aJ.last;cases a:f.ops.getLast? with
 |none=>exact bT.nil
 |some x=>exact h.ops x (jd a)
def dF.pop(h:dF f):dF f.pop:=⟨h.fn,h.g_,λv a=>h.ops v (List.dropLast_subset _ a)⟩
def dF.popMany(h:dF f)(n:Nat):dF (f.popMany n):=⟨h.fn,h.g_,λv a=>h.ops v (jy a)⟩
def dF.push(h:dF f){a:aL}(c:bT a):dF (f.push a):=⟨h.fn,h.g_,λv d=>by
 rcases eq.1 d with b|b
 ·exact h.ops v b
 ·rw[et.1 b];exact c⟩
def dF.next(h:dF f)(n:Nat):dF { f with next:=n }:=⟨h.fn,h.g_,h.ops⟩
def dF.many(h:dF f)(n:Nat):∀v∈f.many n,bT v:=λv a=>h.ops v (List.mem_of_mem_drop a)
def sJ{i:aH}(h:dF f)(d:∀v,i=.push v->bT v):dF (aK i f).1:=by
 cases i<;>simp only[aK]
 case begin l s=>exact⟨h.fn,h.g_,h.ops⟩
 case push v=>exact h.push (d v rfl)
 case load k=>exact h.push (CM h.g_ k)
 case declare k=>
  refine⟨h.fn,λv b=>?_,h.pop.ops⟩
  rcases eq.1 b with a|a
  ·exact h.g_ v (jy a)
  ·rw[et.1 a];exact h.last
 case assign k n=>
  have c:=h.pop.popMany n;split
  ·refine⟨c.fn,λv b=>?_,c.ops⟩
   rcases ki b with a|a
   ·exact h.g_ v a
   ·rw[a];exact wO (sT _ _ _ (CM h.g_ k) h.last)
  ·exact c
 case jump t=>exact h.next t
 case skip t=>
  repeat' split
  ·exact h.pop
  ·exact h.pop.next t
  ·exact h.pop
 case shortcut w t=>
  repeat' split
  ·exact(h.pop.push h.last).next t
  ·exact h.pop
  ·exact h.pop
 case truth=>
  repeat' split
  ·exact h.pop.push h.last
  ·exact h.pop
 case unary op=>
  repeat' split
  ·exact h.pop.push (WP _ _)
  ·exact h.pop
 case binary op=>
  repeat' split
  ·exact h.pop.pop.push (VD _ h.pop.last h.last)
  ·exact h.pop.pop
 case index=>
  repeat' split
  ·exact h.pop.pop.push (NT _ h.pop.last)
  ·exact h.pop.pop
 case list n=>
  repeat' split
  ·exact(h.popMany n).push (wO (bT.lst (h.many n)))
  ·exact h.popMany n
 case length=>
  repeat' split
  ·exact h.pop.push (IR _)
  ·exact h.pop
 case drop=>exact h.pop
 all_goals exact h
def FY{m:List eU}(B:kI m){b:List aJ}{g:aJ}{t:List Int}{o:cN}{i:aH}(h:gK ⟨b++[f],t,o⟩)(q:f.fetch=some (i,g)):gK (doI m i b g t o).1:=by
 have z:∀x∈b,dF x:=λx l=>h x (by simp[l])
 have u:dF f:=h f s_
 obtain⟨rfl,D⟩:g={ f with next:=f.next+1 }/\f.fn.code[f.next]?=some i:=by
  unfold aJ.fetch at q;cases l:f.fn.code[f.next]? with
  |none=>rw[l] at q;cases q
  |some j=>rw[l] at q;simp at q;exact⟨q.2.symm,by rw[q.1]⟩
 have p:dF { f with next:=f.next+1 }:=u.next _
 generalize { f with next:=f.next+1 }=g at p
 have A:∀v,i=.push v->bT v:=λv e=>u.fn.1 v (by rw[<-e];exact gv D)
 have d:∀y,dF y->∀t o,gK ⟨b++[y],t,o⟩:=λy C t o x l=>by
  rcases eq.1 l with c|c
  ·exact z x c
  ·rw[et.1 c];exact C
 cases i
 case read=>
  cases t with
  |nil=>exact d _ p _ _
  |cons a r=>exact d _ (p.push (bT.num _)) _ _
 case call k n=>
  simp only[doI];split
  ·exact d _ (p.popMany n) _ _
  ·intro x l;simp only[eq,eo,fh,or_false] at l;rcases l with c|rfl|rfl
   ·exact z x c
   ·exact p.popMany n
   ·refine⟨?_,p.many n,λv w=>by cases w⟩
    show xE (m[k]?.getD ⟨[],[]⟩)
    cases s:m[k]? with
    |none=>exact fe (λv w=>absurd w s_) (λv w=>absurd w s_)
    |some y=>exact B y (gv s)
 case give=>
  simp only[doI];intro x l;rcases eq.1 l with c|c
  ·exact z x (List.dropLast_subset _ c)
  ·cases s:b.getLast? with
   |none=>rw[s] at c;cases c
   |some y=>
    rw[s] at c;simp at c;rw[c];exact(z y (jd s)).push p.last
 case print=>
  simp only[doI];split<;>exact d _ p.pop _ _
 all_goals exact d _ (sJ p A) _ _
inductive dJ:aC->Prop
 |leaf (a:aC) (h:a.op=[48]\/a.op=[115]\/a.op=[98,111,111,108]\/a.op=[110,97,109,101]) (hk:a.y_=[]) (ht:a.op=[115]->PD a.x_):dJ a
 |many (a:aC) (h:a.op=[108,105,115,116]\/a.op=[99,97,108,108]) (hk:∀k∈a.y_,dJ k):dJ a
 |one (a l:aC) (h:a.op=[45,120]\/a.op=[33,120]) (hk:a.y_=[l]) (hl:dJ l):dJ a
 |two (a l r:aC) (h:a.op=[105,110,100,101,120]\/cJ a.op≠9) (hk:a.y_=[l,r]) (hl:dJ l) (hr:dJ r):dJ a
inductive gZ:aC->Prop
 |var (a t v:aC) (h:a.op=[118,97,114]) (hk:a.y_=[t,v]) (hv:dJ v) (ht:t.op=[116,97,114,103,101,116]/\t.y_=[]):gZ a
 |set (a:aC) (h:a.op=[115,101,116]) (hn:a.y_≠[]) (hk:∀k∈a.y_,dJ k):gZ a
 |if2 (a c t:aC) (h:a.op=[105,102]) (hk:a.y_=[c,t]) (hc:dJ c) (ht:t.op=[98,108,111,99,107]) (htk:∀k∈t.y_,gZ k):gZ a
 |if3 (a c t x:aC) (h:a.op=[105,102]) (hk:a.y_=[c,t,x]) (hc:dJ c) (ht:t.op=[98,108,111,99,107]) (htk:∀k∈t.y_,gZ k) (hx:x.op=[98,108,111,99,107]) (hxk:∀k∈x.y_,gZ k):gZ a
 |whl (a c t:aC) (h:a.op=[119,104,105,108,101]) (hk:a.y_=[c,t]) (hc:dJ c) (ht:t.op=[98,108,111,99,107]) (htk:∀k∈t.y_,gZ k):gZ a
 |ret0 (a:aC) (h:a.op=[114,101,116,117,114,110]) (hk:a.y_=[]):gZ a
 |ret1 (a v:aC) (h:a.op=[114,101,116,117,114,110]) (hk:a.y_=[v]) (hv:dJ v):gZ a
 |print (a v:aC) (h:a.op=[112,114,105,110,116]) (hk:a.y_=[v]) (hv:dJ v):gZ a
 |call (a c:aC) (h:a.op=[100,111]) (hk:a.y_=[c]) (hc:dJ c) (ho:c.op=[99,97,108,108]):gZ a
structure PK(b:aC):Prop where
 op:b.op=[98,108,111,99,107]
 y_:∀k∈b.y_,gZ k
structure sY(f:aC):Prop where
 y_:∃ps b,f.y_=ps++[b]/\(∀x∈ps,x.op=[112,97,114,97,109])/\PK b/\∀x∈ps,x.y_=[]
def bR{α:Type}(P:α->Prop)(r:cB α):Prop:=∀a q,r=.ok (a,q)->P a
def bR.err{P:b->Prop}{n:Nat}:bR P (.error n):=λa q h=>by cases h
def bR.bad{P:c->Prop}{b:Nat}:bR P (bad ts b):=λa q h=>by cases h
def bR.of_ok{P:b->Prop}{q:Nat}{a:b}(h:P a):bR P (.ok (a,q)):=λc d e=>by cases e;exact h
def bR.take{P:b->Prop}{x:cE}{r:cB b}(h:bR P r):bR P (aS ts x r):=by
 cases r with
 |error l=>exact bR.err
 |ok c=>
  obtain⟨a,q⟩:=c;have:=h a q rfl;unfold aS;simp only;split
  ·exact bR.of_ok this
  ·exact bR.bad
def bR.map{P:b->Prop}{Q:c->Prop}{r:cB b}{f:b->c}(h:bR P r)(d:∀a,P a->Q (f a)):bR Q (cF f r):=by
 cases r with
 |error l=>exact bR.err
 |ok e=>obtain⟨a,q⟩:=e;exact bR.of_ok (d a (h a q rfl))
def bR.bind{P:b->Prop}{Q:c->Prop}{r:cB b}{f:b->Nat->cB c}(h:bR P r)(d:∀a q,P a->bR Q (f a q)):bR Q (bW r f):=by
 cases r with
 |error l=>exact bR.err
 |ok e=>obtain⟨a,q⟩:=e;exact d a q (h a q rfl)
def fD(P:aC->Prop)(l:List aC):Prop:=∀k∈l,P k
def fD.nil{P:aC->Prop}:fD P []:=λ_ h=>by cases h
def fD.snoc{P:aC->Prop}{l:List aC}(h:fD P l)(c:P a):fD P (l++[a]):=λk b=>by
 rcases eq.1 b with b|b
 ·exact h k b
 ·rw[et.1 b];exact c
section
variable {ts:List bB} {E:Nat->cB aC}
def sX(ts:List bB):Prop:=∀p,(aT ts p).sort=115->PD (aT ts p).x_
def sB(d:∀q,bR dJ (E q)):∀(g p:Nat) (acc:List aC),fD dJ acc->bR (fD dJ) (dT E ts g p acc)
 |0,p,acc,_=>bR.err
 |g+1,p,acc,c=>by
  rw[dT];cases f:E p with
  |error l=>exact bR.err
  |ok e=>
   obtain⟨a,q⟩:=e;have b:=d p a q f;simp only;split
   ·exact sB d g (q+1) _ (c.snoc b)
   ·exact bR.of_ok (c.snoc b)
def sA(a:∀q,bR dJ (E q))(p:Nat)(x y:cE):bR (fD dJ) (eY E ts p x y):=by
 unfold eY;split
 ·refine bR.take ?_;unfold iO;split
  ·exact bR.of_ok fD.nil
  ·exact sB a _ _ _ fD.nil
 ·exact bR.bad
def IP(b:sX ts)(c:∀q,bR dJ (E q))(p:Nat):bR dJ (eH E ts p):=by
 unfold eH;split
 ·rename_i h;simp at h;rcases h with h|h
  ·refine bR.of_ok (.leaf _ (d7 (by show [UInt8.ofNat _]=_;rw[h];rfl)) rfl λe=>?_)
   have d:[UInt8.ofNat (aT ts p).sort]=[115]:=e;rw[h] at d;exact absurd d d_
  ·exact bR.of_ok (.leaf _ (d6 (d7 (by show [UInt8.ofNat _]=_;rw[h];rfl))) rfl λ_=>b p h)
 split
 ·exact bR.of_ok (.leaf _ (d6 (d6 (d7 rfl))) rfl λe=>by simp[aV] at e)
 split
 ·exact(c (p+1)).take
 split
 ·exact bR.map (sA c p _ _) λa h=>.many _ (d7 rfl) h
 split
 ·split
  ·exact bR.map (sA c (p+1) _ _) λa h=>.many _ (d6 rfl) h
  ·exact bR.of_ok (.leaf _ (d6 (d6 (d6 rfl))) rfl λe=>by simp[aV] at e)
 ·exact bR.bad
def zR(b:∀q,bR dJ (E q)):∀(g:Nat) (n:aC) (p:Nat),dJ n->bR dJ (dK E ts g n p)
 |0,n,p,_=>bR.err
 |g+1,n,p,a=>by
  rw[dK];split
  ·have c:=(b (p+1)).take (ts:=ts) (x:=[93]);cases d:aS ts [93] (E (p+1)) with
   |error l=>exact bR.err
   |ok e=>
    obtain⟨i,q⟩:=e;exact zR b g _ q (.two _ n i (d7 rfl) rfl a (c i q d))
  ·exact bR.of_ok a
def rY(b:sX ts)(c:∀q,bR dJ (E q)):∀(g p:Nat),bR dJ (eV E ts g p)
 |0,p=>bR.err
 |g+1,p=>by
  rw[eV];split
  ·exact bR.map (rY b c g (p+1)) λa h=>.one _ a (d7 rfl) rfl h
  split
  ·exact bR.map (rY b c g (p+1)) λa h=>.one _ a (d6 rfl) rfl h
  ·exact bR.bind (IP b c p) λa q d=>zR c _ a q d
def qU{L:Nat->cB aC}{k:Nat}(b:k<9)(d:∀q,bR dJ (L q)):∀(g:Nat) (n:aC) (q:Nat),dJ n->bR dJ (bK L ts k g n q)
 |0,n,q,_=>bR.err
 |g+1,n,q,c=>by
  rw[bK];split
  ·rename_i a;cases j:L (q+1) with
   |error l=>exact bR.err
   |ok h=>
    obtain⟨r,e⟩:=h;have i:=d _ r e j;have f:dJ (aV (aT ts q).x_ (aT ts q).l_ [] [n,r]):=.two _ n r (d6 (by simp at a;show cJ (aT ts q).x_≠9;rw[a.2];omega)) rfl c i
    simp only;split
    ·exact bR.of_ok f
    ·exact qU b d g _ e f
  ·exact bR.of_ok c
def sC(b:sX ts)(c:∀q,bR dJ (E q)):∀(j p:Nat),bR dJ (gH E ts j p)
 |0,p=>rY b c _ p
 |j+1,p=>by
  rw[gH];exact bR.bind (sC b c j p) λa q d=>qU o_ (λq=>sC b c j q) _ a q d
def qB(ts:List bB)(a:sX ts):∀(f p:Nat),bR dJ (eM ts f p)
 |0,p=>bR.err
 |f+1,p=>by
  rw[eM];exact sC a (λq=>qB ts a f q) 5 p
def tY(b:∀q,bR dJ (E q)):∀(g p:Nat) (acc:List aC),fD dJ acc->bR (fD dJ) (fG E ts g p acc)
 |0,p,acc,_=>bR.err
 |g+1,p,acc,a=>by
  rw[fG];split
  ·have c:=(b (p+1)).take (ts:=ts) (x:=[93]);cases d:aS ts [93] (E (p+1)) with
   |error l=>exact bR.err
   |ok e=>
    obtain⟨i,q⟩:=e;exact tY b g q _ (a.snoc (c i q d))
  ·exact bR.of_ok a
def ND(b:∀q,bR dJ (E q))(p:Nat):bR gZ (gV E ts p):=by
 unfold gV;split
 ·split
  ·exact bR.take (bR.map (sA b (p+1) _ _) λa h=>.call _ _ rfl rfl (.many _ (d6 rfl) h) rfl)
  ·refine bR.bind ((tY b _ (p+1) [] fD.nil).take) λl q d=>?_
   exact bR.take (bR.map (b q) λv c=>.set _ rfl (by simp[aV]) (d.snoc c))
 ·exact bR.bad
def WH{B:Nat->cB aC}(a:∀q,bR dJ (E q))(h:∀q,bR PK (B q))(p:Nat):bR gZ (jS E B ts p):=by
 unfold jS;split
 ·unfold tA;split
  ·split
   ·exact bR.take (bR.map (a (p+3)) λv e=>.var _ _ v rfl rfl e ⟨rfl,rfl⟩)
   ·exact bR.bad
  ·exact bR.bad
 split
 ·unfold yN;refine bR.bind (a (p+1)) λc q f=>bR.bind (h q) λb k g=>?_
  split
  ·exact bR.map (h (k+1)) λd i=>.if3 _ c b d rfl rfl f g.op g.y_ i.op i.y_
  ·exact bR.of_ok (.if2 _ c b rfl rfl f g.op g.y_)
 split
 ·unfold pI;exact bR.bind (a (p+1)) λc q f=>bR.map (h q) λb j=>.whl _ c b rfl rfl f j.op j.y_
 split
 ·unfold mL;split
  ·exact bR.of_ok (.ret0 _ rfl rfl)
  ·exact bR.take (bR.map (a (p+1)) λv e=>.ret1 _ v rfl rfl e)
 split
 ·unfold pP;exact bR.take (bR.map (a (p+1)) λv e=>.print _ v rfl rfl e)
 ·exact ND a p
def qV{S:Nat->cB aC}(b:∀q,bR gZ (S q)):∀(g p:Nat) (acc:List aC),fD gZ acc->bR (fD gZ) (dV S ts g p acc)
 |0,p,acc,_=>bR.err
 |g+1,p,acc,a=>by
  rw[dV];split
  ·exact bR.of_ok a
  ·cases c:S p with
   |error l=>exact bR.err
   |ok d=>
    obtain⟨s,q⟩:=d;exact qV b g q _ (a.snoc (b p s q c))
def zS(a:∀q,bR dJ (E q)):∀(f p:Nat),bR PK (jM E ts f p)
 |0,p=>bR.err
 |f+1,p=>by
  rw[jM];split
  ·exact bR.map (bR.take (qV (λq=>WH a (λq=>zS a f q) q) _ (p+1) [] fD.nil)) λl h=>⟨rfl,h⟩
  ·exact bR.bad
def qT:∀(g p:Nat) (acc:List aC),fD (λx=>x.op=[112,97,114,97,109]/\x.y_=[]) acc->bR (fD λx=>x.op=[112,97,114,97,109]/\x.y_=[]) (dD ts g p acc)
 |0,p,acc,_=>bR.err
 |g+1,p,acc,b=>by
  have a:fD (λx=>x.op=[112,97,114,97,109]/\x.y_=[]) (acc++[aV [112,97,114,97,109] (aT ts p).l_ (aT ts p).x_ []]):=b.snoc ⟨rfl,rfl⟩
  rw[dD];split
  ·split
   ·exact qT g (p+2) _ a
   ·exact bR.of_ok a
  ·exact bR.bad
def WI{B:Nat->cB aC}(e:∀q,bR PK (B q))(p:Nat):bR sY (kQ B ts p):=by
 unfold kQ;split
 ·split
  ·split
   ·have a:bR (fD λx=>x.op=[112,97,114,97,109]/\x.y_=[]) (iL ts (p+3)):=by
     unfold iL;refine bR.take ?_;split
     ·exact bR.of_ok fD.nil
     ·exact qT _ (p+3) [] fD.nil
    exact bR.bind a λl q d=>bR.map (e q) λb f=>⟨l,b,rfl,λx c=>(d x c).1,f,λx c=>(d x c).2⟩
   ·exact bR.bad
  ·exact bR.bad
 ·exact bR.bad
def rZ{F:Nat->cB aC}(b:∀q,bR sY (F q)):∀(g p:Nat) (acc:List aC),fD sY acc->bR (fD sY) (fH F ts g p acc)
 |0,p,acc,_=>bR.err
 |g+1,p,acc,a=>by
  rw[fH];split
  ·exact bR.of_ok a
  ·cases d:F p with
   |error l=>exact bR.err
   |ok c=>
    obtain⟨s,q⟩:=c;exact rZ b g q _ (a.snoc (b p s q d))
end
def dB.split{a b:cE}{c:UInt8}(G:c.toNat<128)(h:dB (a++c::b)):dB a/\dB b:=by
 generalize w:a++c::b=l at h;induction h generalizing a with
 |nil=>simp at w
 |cons o r F=>
  subst w;cases a with
  |nil=>
   have e:bL ([]++c::b)=1:=by simp[bL,G]
   rw[e] at r;exact⟨.nil,by simpa using r⟩
  |cons x a=>
   have q:bL (x::a++c::b)<=(x::a).length:=by
    refine Nat.le_of_not_lt λd=>?_
    have D:∀i g j,128<=g->i=a.length+1->dN (x::a++c::b) i g j=false:=λi g j s p=>by
     subst p;have:(x::a++c::b)[a.length+1]?=some c:=s_
     unfold dN;rw[this];simp;omega
    have f:∀i g j,128<=g->dN (x::a++c::b) i g j=true->i≠a.length+1:=λi g j s t e=>by rw[D i g j s e] at t;cases t
    unfold bL at o d;rw[ep] at d;simp only[ga,List.getElem?_cons_zero] at o d f;have k:∀n m:Nat,128<=m->128<=(if x.toNat=n then m else 128):=λn m h=>by split<;>omega
    by_cases u:x.toNat<128
    ·rw[if_pos u] at d;omega
    rw[if_neg u] at d;by_cases v:194<=x.toNat/\x.toNat<=223
    ·rw[if_pos v] at d;by_cases h:dN (x::(a++c::b)) 1 128 191=true
     ·rw[if_pos h] at d;have:=f _ _ _ o_ h;omega
     ·rw[if_neg h] at d;omega
    rw[if_neg v] at d;by_cases y:224<=x.toNat/\x.toNat<=239
    ·rw[if_pos y] at d;by_cases h:(dN (x::(a++c::b)) 1 (if x.toNat=224 then 160 else 128) (if x.toNat=237 then 159 else 191) && dN (x::(a++c::b)) 2 128 191)=true
     ·rw[if_pos h] at d;rw[fw] at h;have C:=f _ _ _ (k _ _ o_) h.1
      have H:=f _ _ _ o_ h.2
      omega
     ·rw[if_neg h] at d;omega
    rw[if_neg y] at d;by_cases z:240<=x.toNat/\x.toNat<=244
    ·rw[if_pos z] at d;by_cases h:(dN (x::(a++c::b)) 1 (if x.toNat=240 then 144 else 128) (if x.toNat=244 then 143 else 191) && dN (x::(a++c::b)) 2 128 191 && dN (x::(a++c::b)) 3 128 191)=true
     ·rw[if_pos h] at d;rw[fw,fw] at h;have C:=f _ _ _ (k _ _ o_) h.1.1
      have H:=f _ _ _ o_ h.1.2
      have I:=f _ _ _ o_ h.2
      omega
     ·rw[if_neg h] at d;omega
    ·rw[if_neg z] at d;omega
   have B:(x::a++c::b).drop (bL (x::a++c::b))=(x::a).drop (bL (x::a++c::b))++c::b:=by rw[List.drop_append_of_le_length q]
   obtain⟨A,E⟩:=F B.symm;refine⟨?_,E⟩;have e:bL (x::a)=bL (x::a++c::b):=oG o λi j=>(hP o_).symm
   exact .cons (by rw[e];exact o) (by rw[e];exact A)
def qN:∀(f:Nat) (l:cE) (p:Nat),l.length<=f->dZ f l p=none->dB l
 |0,l,_,h,_=>by
  obtain rfl:l=[]:=gd o_
  exact .nil
 |f+1,l,p,h,a=>by
  rw[dZ] at a;split at a
  ·rename_i c;obtain rfl:l=[]:=gd c;exact .nil
  split at a
  ·cases a
  rename_i b;exact .cons b (qN f _ _ (by rw[gt];omega) a)
def PR(f:Nat):∀(b l:cE) (ts:List bB),eW f b l=.ok ts->dB (b++l)->∀t∈ts,t.sort=115->PD t.x_:=by
 induction f with
 |zero=>intro b l ts h;cases h
 |succ f w=>
  intro b l ts h q t e a;by_cases g:l.length=0
  ·rw[nH _ _ _ g] at h;cases h;rw[et.1 e] at a;cases a
  ·cases d:(cG l).ok
   ·rw[nI _ _ _ g d] at h;cases h
   ·rw[mT _ _ _ g d _ rfl] at h;generalize x:(cG l).size+blankL l.length (l.drop (cG l).size)=m at h;cases j:eW f (b++l.take m) (l.drop m) with
    |error n=>rw[j] at h;cases h
    |ok v=>
     rw[j] at h;cases h;rcases eo.1 e with rfl|e
     ·cases l with
      |nil=>simp at g
      |cons c r=>
       rw[cG] at a d ⊢
       by_cases o:(eO c || fQ c)=true
       ·rw[if_pos o] at a;exfalso;unfold iD at a;split at a
        ·simp only at a;split at a<;>omega
        ·simp at a
       rw[if_neg o] at a d ⊢
       by_cases k:c.toNat=34
       ·rw[if_pos k] at d ⊢
        simp only[oO,fw,decide_eq_true_eq] at d;refine⟨by simp only[oO,gw];omega,?_⟩
        have u:r=r.take (bQ fO r)++34::r.drop (bQ fO r+1):=by
         obtain⟨i,s⟩:=gu.1 d.1;conv=>lhs;rw[<-gx (bQ fO r) r,jz i,s]
        have p:=(q.split o_).2
        rw[u] at p;exact(p.split d_).1
       ·rw[if_neg k] at a;exfalso;unfold iC at a;split at a<;>simp at a
     ·exact w _ _ v j (by rw[gl,gx];exact q) t e a
def pC(h:iB l=.ok ts)(c:dZ l.length l 0=none):sX ts:=λp a=>by
 unfold aT at a ⊢
 cases b:ts[p]? with
 |none=>rw[b] at a;cases a
 |some t=>
  rw[b] at a;exact PR _ _ _ _ h (by rw[gx];exact qN _ _ _ cK c) t (gv b) a
def wL(h:cW l=.ok ks):∀f∈ks,sY f:=by
 unfold cW at h;split at h
 ·cases h
 split at h
 ·cases h
 rename_i a;split at h
 ·cases h
 rename_i c d;split at h
 ·cases h
 rename_i q b;cases h;exact rZ (λq=>WI (λe=>zS (λq=>qB c (pC d a) _ q) _ e) q) _ _ _ fD.nil _ _ b
def qG(s:bC)(l k:Nat)(h:s.kind≠0):(s.found l k).kind≠0:=by unfold bC.found;rw[if_neg h];exact h
def qX(s:bC)(n:aC)(h:s.kind≠0):(declaresL s n).kind≠0:=by
 unfold declaresL;split
 ·exact qG _ _ _ h
 ·exact h
def RU(fs:List aC)(a_:Bool)(s:bC)(n:aC)(h:s.kind≠0):(cL fs a_ s n).kind≠0:=by
 unfold cL eP;repeat' split
 all_goals first|exact qG _ _ _ h|exact h
def iI{f:bC->aC->bC}(a:∀s k,s.kind≠0->(f s k).kind≠0):∀(l:List aC) (s:bC),s.kind≠0->(l.foldl f s).kind≠0
 |[],_,h=>h
 |k::l,s,h=>iI a l _ (a s k h)
def fT(fs:List aC)(a_:Bool):∀(d:Nat) (n:aC) (s:bC),s.kind≠0->(aP fs a_ d n s).kind≠0
 |0,_,_,h=>h
 |d+1,n,s,h=>by
  rw[aP];split
  ·split
   ·exact fT fs a_ d _ _ (qX s _ h)
   ·exact h
  ·have a:(n.y_.foldl (λs k=>aP fs a_ d k s) (cL fs a_ s n)).kind≠0:=iI (λs k b=>fT fs a_ d k s b) _ _ (RU fs a_ s n h)
   simp only;split<;>exact a
def ExOk.up{e_:cN}:∀{d e:Nat} {a:aC},ExOk fs a_ e_ d a->d<=e->ExOk fs a_ e_ e a
 |0,_,_,h,_=>h.elim
 |d+1,0,_,_,h=>by omega
 |d+1,e+1,a,h,j=>by
  have f:∀k,ExOk fs a_ e_ d k->ExOk fs a_ e_ e k:=λk b=>ExOk.up b o_
  rcases h with h|h|⟨c,b⟩|⟨c,l,r,b,g,i⟩|⟨c,l,b,g⟩|⟨c,b,m⟩|⟨c,l,r,b,g,i⟩
  ·exact d7 h
  ·exact d6 (d7 h)
  ·exact d6 (d6 (d7 ⟨c,λk h=>f k (b k h)⟩))
  ·exact d6 (d6 (d6 (d7 ⟨c,l,r,b,f l g,f r i⟩)))
  ·exact d6 (d6 (d6 (d6 (d7 ⟨c,l,b,f l g⟩))))
  ·exact d6 (d6 (d6 (d6 (d6 (d7 ⟨c,λk h=>f k (b k h),m⟩)))))
  ·exact d6 (d6 (d6 (d6 (d6 (d6 ⟨c,l,r,b,f l g,f r i⟩)))))
def StsOk.up{S b:cN->aC->Prop}(h:∀s a,S s a->b s a):∀{l:List aC} {e_:cN},StsOk S e_ l->StsOk b e_ l
 |[],_,_=>trivial
 |_::_,_,c=>⟨h _ _ c.1,StsOk.up h c.2⟩
def dM.up:∀{d e:Nat} {e_:cN} {a:aC},dM fs d e_ a->d<=e->dM fs e e_ a
 |0,_,_,_,h,_=>h.elim
 |d+1,0,_,_,_,h=>by omega
 |d+1,e+1,e_,a,h,w=>by
  have j:∀k,ExOk fs false e_ d k->ExOk fs false e_ e k:=λk f=>f.up o_
  have i:∀l,StsOk (dM fs d) e_ l->StsOk (dM fs e) e_ l:=λl z=>z.up λs a h=>dM.up h o_
  rcases h with ⟨g,o,t,v,f,m,p⟩|⟨g,p,n,f⟩|⟨g,c,t,f,q,u⟩|⟨g,c,b,f,q,o⟩|⟨g,f|⟨v,f,m⟩⟩|⟨g,v,f,m⟩|⟨g,v,f,m⟩
  ·exact d7 ⟨g,o,t,v,f,j v m,p⟩
  ·exact d6 (d7 ⟨g,p,n,λk h=>j k (f k h)⟩)
  ·exact d6 (d6 (d7 ⟨g,c,t,f.imp id λ⟨x,y,r⟩=>⟨x,y,i _ r⟩,j c q,i _ u⟩))
  ·exact d6 (d6 (d6 (d7 ⟨g,c,b,f,j c q,i _ o⟩)))
  ·exact d6 (d6 (d6 (d6 (d7 ⟨g,d7 f⟩))))
  ·exact d6 (d6 (d6 (d6 (d7 ⟨g,d6 ⟨v,f,j v m⟩⟩))))
  ·exact d6 (d6 (d6 (d6 (d6 (d7 ⟨g,v,f,j v m⟩)))))
  ·exact d6 (d6 (d6 (d6 (d6 (d6 ⟨g,v,f,j v m⟩)))))
def iN{l k:Nat}(a:k≠0)(h:(s.found l k).kind=0):False:=by
 unfold bC.found at h;split at h
 ·exact a h
 ·rename_i b;exact b h
def vI{f:aC}{a:cE}:∀{fs:List aC},dU fs a=some f->fs[dG fs a]?=some f
 |[],h=>by simp[dU] at h
 |x::l,h=>by
  unfold dU dG at*;rw[List.find?_cons] at h;rw[List.findIdx_cons];cases b:(x.x_==a) with
  |true=>rw[b] at h;simp at h;simp[h]
  |false=>
   rw[b] at h;simp only[cond_false,List.getElem?_cons_succ];exact vI (fs:=l) h
def nU(fs:List aC)(a_:Bool)(d:Nat)(a:aC):Prop:=
 ∀sn,(aP fs a_ d a ⟨sn,0,0⟩).kind=0->aP fs a_ d a ⟨sn,0,0⟩=⟨sn,0,0⟩/\ExOk fs a_ sn.reverse d a
def kF:∀(l:List aC) (b:cN),(∀k∈l,nU fs a_ d k)->(l.foldl (λs k=>aP fs a_ d k s) ⟨b,0,0⟩).kind=0->
 l.foldl (λs k=>aP fs a_ d k s) ⟨b,0,0⟩=⟨b,0,0⟩/\∀k∈l,ExOk fs a_ b.reverse d k
 |[],b,_,_=>⟨rfl,λk c=>by cases c⟩
 |a::l,b,h,e=>by
  rw[io] at e ⊢
  have i:(aP fs a_ d a ⟨b,0,0⟩).kind=0:=gz λf=>iI (λs k o=>fT fs a_ d k s o) l _ f e
  obtain⟨m,g⟩:=h a (fk ..) b i;rw[m] at e ⊢
  obtain⟨n,j⟩:=kF l b (λk c=>h k (ey _ c)) e
  refine⟨n,λk c=>?_⟩
  rcases eo.1 c with rfl|c
  ·exact g
  ·exact j k c
def gA{n:aC}(b:n.op≠[118,97,114])(a:n.op≠[98,108,111,99,107]):aP fs a_ (d+1) n s=n.y_.foldl (λs k=>aP fs a_ d k s) (cL fs a_ s n):=by
 rw[aP];rw[if_neg (by simpa using b)]
 simp only;rw[if_neg (by simpa using a)]
def look_plain{n:aC}(b:n.op≠[115,101,116])(a:n.op≠[110,97,109,101])(c:n.op≠[99,97,108,108]):cL fs a_ s n=s:=by
 unfold cL;rw[if_neg (by simp[b,a]),if_neg (by simpa using c)]
def nT(o:∀f∈fs,f.y_≠[])(q:a_=true->fs=[]):∀(d:Nat) (a:aC),dJ a->fF d a->nU fs a_ d a
 |0,_,_,h=>h.elim
 |d+1,a,J,G=>by
  intro v m
  have two:∀(l r:aC),a.y_=[l,r]->dJ l->dJ r->∀k∈a.y_,nU fs a_ d k:=λl r i C D k b=>by
   have w:=G k b;rw[i] at b;rcases eo.1 b with rfl|b
   ·exact nT o q d _ C w
   ·obtain rfl:=et.1 b;exact nT o q d _ D w
  have B:a.op≠[118,97,114]/\a.op≠[98,108,111,99,107]:=by
   cases J with
   |leaf _ h=>rcases h with h|h|h|h<;>rw[h]<;>decide
   |many _ h=>rcases h with h|h<;>rw[h]<;>decide
   |one _ l h=>rcases h with h|h<;>rw[h]<;>decide
   |two _ l r h=>
    rcases h with h|h
    ·rw[h];decide
    ·exact⟨λe=>by rw[e] at h;exact h d_,λe=>by rw[e] at h;exact h d_⟩
  rw[gA B.1 B.2] at m ⊢
  have g:(cL fs a_ ⟨v,0,0⟩ a).kind=0:=gz λz=>iI (λs k M=>fT fs a_ d k s M) a.y_ _ z m
  cases J with
  |leaf _ h i=>
   rw[i] at m ⊢
   simp only[jq] at m ⊢
   rcases h with h|h|h|h
   ·exact⟨look_plain (by rw[h];decide) (by rw[h];decide) (by rw[h];decide),d7 ⟨d7 h,i⟩⟩
   ·exact⟨look_plain (by rw[h];decide) (by rw[h];decide) (by rw[h];decide),d7 ⟨d6 (d7 h),i⟩⟩
   ·exact⟨look_plain (by rw[h];decide) (by rw[h];decide) (by rw[h];decide),d7 ⟨d6 (d6 h),i⟩⟩
   ·unfold cL at g ⊢
    rw[if_pos (by simp[h])] at g ⊢
    split at g
    ·rename_i K;rw[if_pos K];exact⟨rfl,d6 (d7 ⟨h,i,by simpa using K⟩)⟩
    ·exact(iN d_ g).elim
  |many _ h i=>
   have E:∀k∈a.y_,nU fs a_ d k:=λk b=>nT o q d k (i k b) (G k b)
   rcases h with h|h
   ·rw[look_plain (by rw[h];decide) (by rw[h];decide) (by rw[h];decide)] at m ⊢
    obtain⟨A,t⟩:=kF a.y_ v E m;exact⟨A,d6 (d6 (d7 ⟨h,t⟩))⟩
   ·have e:cL fs a_ ⟨v,0,0⟩ a=eP fs a_ ⟨v,0,0⟩ a:=by unfold cL;rw[if_neg (by simp[h]),if_pos (by simp[h])]
    rw[e] at m g ⊢
    unfold eP at m g ⊢
    split at g
    ·exact(iN d_ g).elim
    rename_i x;rw[if_neg x] at m ⊢
    split at g
    ·exact(iN d_ g).elim
    rename_i j;rw[if_neg j] at m ⊢
    obtain⟨A,t⟩:=kF a.y_ v E m;refine⟨A,d6 (d6 (d6 (d6 (d6 (d7 ⟨h,t,?_⟩)))))⟩;simp only[ne_eq,Decidable.not_not] at j;unfold jA at x j;by_cases n:a.x_=[108,101,110]
    ·rw[if_pos (by simp[n])] at j
     exact d7 ⟨n,o_⟩
    rw[if_neg (by simp[n])] at x j
    by_cases c:a.x_=[114,101,97,100]/\a_=false
    ·rw[if_pos (by simp[c])] at j
     exact d6 (d7 ⟨c.1,c.2,o_⟩)
    have u:¬((a.x_==[114,101,97,100] && !a_)=true):=by
     intro I;simp at I;exact c I
    rw[if_neg u] at x j;cases F:dU fs a.x_ with
    |none=>rw[F] at x;simp at x
    |some f=>
     rw[F] at x j;simp only at x j;have p:f∈fs:=iz F;have z:=o f p;have H:0<f.y_.length:=gy.2 z
     have y:a_=false:=by
      cases a_ with
      |false=>rfl
      |true=>rw[q rfl] at p;cases p
     refine d6 (d6 ⟨n,λD=>c ⟨D,y⟩,y,?_⟩)
     unfold fX;rw[vI F];simp;omega
  |one _ l h i C=>
   have E:∀k∈a.y_,nU fs a_ d k:=λk b=>by
    have w:=G k b;rw[i] at b;obtain rfl:=et.1 b;exact nT o q d _ C w
   rw[look_plain (by rcases h with h|h<;>rw[h]<;>decide) (by rcases h with h|h<;>rw[h]<;>decide) (by rcases h with h|h<;>rw[h]<;>decide)] at m ⊢
   obtain⟨A,t⟩:=kF a.y_ v E m;exact⟨A,d6 (d6 (d6 (d6 (d7 ⟨h,l,i,t l (by rw[i];simp)⟩))))⟩
  |two _ l r h i C D=>
   have L:cL fs a_ ⟨v,0,0⟩ a=⟨v,0,0⟩:=by
    rcases h with h|h
    ·exact look_plain (by rw[h];decide) (by rw[h];decide) (by rw[h];decide)
    ·exact look_plain (λe=>by rw[e] at h;exact h d_) (λe=>by rw[e] at h;exact h d_) (λe=>by rw[e] at h;exact h d_)
   rw[L] at m ⊢
   obtain⟨A,t⟩:=kF a.y_ v (two l r i C D) m;refine⟨A,?_⟩;rcases h with h|h
   ·exact d6 (d6 (d6 (d7 ⟨h,l,r,i,t l (by rw[i];simp),t r (by rw[i];simp)⟩)))
   ·exact d6 (d6 (d6 (d6 (d6 (d6 ⟨h,l,r,i,t l (by rw[i];simp),t r (by rw[i];simp)⟩)))))
def tN(fs:List aC)(d:Nat)(a:aC):Prop:=
 ∀sn,sn.length+cC d a<=40000->(aP fs false d a ⟨sn,0,0⟩).kind=0->∃sn',aP fs false d a ⟨sn,0,0⟩=⟨sn',0,0⟩/\sn'.reverse=cZ sn.reverse a/\dM fs d sn.reverse a/\sn'.length<=sn.length+cC d a/\sn=sn'.take sn.length
def zN:∀(l:List aC) (b:cN),(∀k∈l,tN fs d k)->b.length+(l.map (cC d)).sum<=40000->(l.foldl (λs k=>aP fs false d k s) ⟨b,0,0⟩).kind=0->
 ∃c,l.foldl (λs k=>aP fs false d k s) ⟨b,0,0⟩=⟨c,0,0⟩/\StsOk (dM fs d) b.reverse l/\c.length<=b.length+(l.map (cC d)).sum/\b=c.take b.length
 |[],b,_,_,_=>⟨b,rfl,trivial,s_,s_⟩
 |a::l,b,h,t,f=>by
  rw[io] at f ⊢
  simp only[e7,fg] at t ⊢
  have o:(aP fs false d a ⟨b,0,0⟩).kind=0:=gz λg=>iI (λs k v=>fT fs false d k s v) l _ g f
  obtain⟨i,q,n,u,z,m⟩:=h a (fk ..) b o_ o
  rw[q] at f ⊢
  obtain⟨j,w,r,A,x⟩:=zN l i (λk p=>h k (ey _ p)) o_ f
  refine⟨j,w,⟨u,by rw[<-n];exact r⟩,o_,?_⟩
  have y:b.length<=i.length:=by have:=congrArg List.length m;simp only[gw] at this;omega
  have e:i.take b.length=j.take b.length:=by
   conv=>lhs;rw[x]
   rw[je];congr 1;omega
  rw[<-e];exact m
def GO{b:aC}{a c:cN}(e:b.op=[98,108,111,99,107])(h:b.y_.foldl (λs k=>aP fs false d k s) ⟨a,0,0⟩=⟨c,0,0⟩)(f:a=c.take a.length):aP fs false (d+1) b ⟨a,0,0⟩=⟨a,0,0⟩:=by
 rw[aP,if_neg (by simp[e])]
 have:cL fs false ⟨a,0,0⟩ b=⟨a,0,0⟩:=look_plain (by rw[e];decide) (by rw[e];decide) (by rw[e];decide)
 simp only[this,h];rw[if_pos (by simp[e])]
 congr 1
 exact f.symm
def uO{b:aC}{c:cN}(a:b.op=[98,108,111,99,107])(h:(aP fs false (d+1) b ⟨c,0,0⟩).kind=0):(b.y_.foldl (λs k=>aP fs false d k s) ⟨c,0,0⟩).kind=0:=by
 rw[aP,if_neg (by simp[a])] at h
 have:cL fs false ⟨c,0,0⟩ b=⟨c,0,0⟩:=look_plain (by rw[a];decide) (by rw[a];decide) (by rw[a];decide)
 simp only[this] at h;rw[if_pos (by simp[a])] at h
 exact h
def kS{b:aC}{a:cN}(c:b.op=[98,108,111,99,107])(j:∀k∈b.y_,tN fs d k)(e:a.length+cC (d+1) b<=40000)(h:(aP fs false (d+1) b ⟨a,0,0⟩).kind=0):
 aP fs false (d+1) b ⟨a,0,0⟩=⟨a,0,0⟩/\StsOk (dM fs d) a.reverse b.y_:=by
 rw[cC] at e;obtain⟨l,i,f,m,g⟩:=zN b.y_ a j o_ (uO c h)
 exact⟨GO c i g,f⟩
def PO{x y:aC}(b:a.y_=[x,y])(f:a.op≠[118,97,114])(e:a.op≠[98,108,111,99,107])(c:cL fs false s a=s):aP fs false (d+1) a s=aP fs false d y (aP fs false d x s):=by
 rw[gA f e,c,b];rfl
def U1{x y z:aC}(b:a.y_=[x,y,z])(f:a.op≠[118,97,114])(e:a.op≠[98,108,111,99,107])(c:cL fs false s a=s):aP fs false (d+1) a s=aP fs false d z (aP fs false d y (aP fs false d x s)):=by
 rw[gA f e,c,b];rfl
def KD{k:aC}(h:k∈a.y_):cC d k+1<=cC (d+1) a:=by
 rw[cC]
 have:∀l:List aC,k∈l->cC d k<=(l.map (cC d)).sum:=by
  intro l;induction l with
  |nil=>intro h;cases h
  |cons x l b=>
   intro h;simp only[e7,fg];rcases eo.1 h with rfl|h
   ·omega
   ·have:=b h;omega
 have:=this _ h;omega
def KL(J:∀f∈fs,f.y_≠[]):∀(d:Nat) (a:aC),gZ a->fF d a->tN fs d a
 |0,_,_,h=>h.elim
 |1,a,U,L=>by
  have o:∀k∈a.y_,False:=λk b=>L k b
  intro g W j;cases U with
  |var _ t v h b A=>exact(o t (by rw[b];simp)).elim
  |set _ h T b=>cases G:a.y_ with|nil=>exact(T G).elim|cons x l=>exact(o x (by rw[G];simp)).elim
  |if2 _ c t h b=>exact(o c (by rw[b];simp)).elim
  |if3 _ c t x h b=>exact(o c (by rw[b];simp)).elim
  |whl _ c t h b=>exact(o c (by rw[b];simp)).elim
  |ret1 _ v h b=>exact(o v (by rw[b];simp)).elim
  |print _ v h b=>exact(o v (by rw[b];simp)).elim
  |call _ c h b=>exact(o c (by rw[b];simp)).elim
  |ret0 _ h b=>
   have n:cL fs false ⟨g,0,0⟩ a=⟨g,0,0⟩:=look_plain (by rw[h];decide) (by rw[h];decide) (by rw[h];decide)
   refine⟨g,by rw[gA (by rw[h];decide) (by rw[h];decide),n,b];rfl,by unfold cZ;rw[if_neg (by rw[h];decide)],?_,o_,s_⟩
   exact d6 (d6 (d6 (d6 (d7 ⟨h,d7 b⟩))))
 |d+2,a,U,L=>by
  intro g W j;have p:∀k,k∈a.y_->dJ k->nU fs false (d+1) k:=λk b Z=>nT J (λh=>by cases h) (d+1) k Z (L k b)
  have z:∀k,k∈a.y_->(∀x∈k.y_,gZ x)->∀x∈k.y_,tN fs d x:=λk b S x M=>KL J d x (S x M) (L k b x M)
  have y:∀k,k∈a.y_->g.length+cC (d+1) k<=40000:=λk b=>by have:cC (d+1) k+1<=cC (d+2) a:=KD (d:=d+1) b;omega
  have i:a.op≠[118,97,114]->g.reverse=cZ g.reverse a:=λh=>by unfold cZ;rw[if_neg h]
  cases U with
  |var _ t v h b A=>
   have e:aP fs false (d+2) a ⟨g,0,0⟩={ aP fs false (d+1) v (declaresL ⟨g,0,0⟩ t) with e_:=(aP fs false (d+1) v (declaresL ⟨g,0,0⟩ t)).e_++[t.x_] }:=by
    rw[aP,if_pos (by simp[h]),b]
   rw[e] at j ⊢
   have D:(declaresL ⟨g,0,0⟩ t).kind=0:=gz λm=>fT fs false (d+1) v _ m j
   obtain⟨N,O⟩:declaresL ⟨g,0,0⟩ t=⟨g,0,0⟩/\t.x_∉g:=by
    unfold declaresL at D ⊢
    split at D
    ·exact(iN d_ D).elim
    ·rename_i P;rw[if_neg P];simp at P;exact⟨rfl,P.2⟩
   rw[N] at j ⊢
   obtain⟨r,q⟩:=p v (by rw[b];simp) A g j
   rw[r];have X:cC (d+1) v+1<=cC (d+2) a:=KD (d:=d+1) (a:=a) (k:=v) (by rw[b];simp)
   refine⟨g++[t.x_],rfl,?_,d7 ⟨h,t_,t,v,b,q,by simpa using O⟩,t_,s_⟩
   unfold cZ;rw[if_pos h,b];simp
  |set _ h T b=>
   rw[gA (by rw[h];decide) (by rw[h];decide)] at j ⊢
   have w:(cL fs false ⟨g,0,0⟩ a).kind=0:=gz λm=>iI (λs k S=>fT fs false (d+1) k s S) a.y_ _ m j
   have n:cL fs false ⟨g,0,0⟩ a=⟨g,0,0⟩/\a.x_∈g:=by
    unfold cL at w ⊢
    rw[if_pos (by simp[h])] at w ⊢
    split at w
    ·rename_i B;rw[if_pos B];exact⟨rfl,by simpa using B⟩
    ·exact(iN d_ w).elim
   rw[n.1] at j ⊢
   obtain⟨r,q⟩:=kF a.y_ g (λk H=>p k H (b k H)) j
   exact⟨g,r,i (by rw[h];decide),d6 (d7 ⟨h,by simpa using n.2,T,q⟩),o_,s_⟩
  |if2 _ c t h b B F u=>
   have n:cL fs false ⟨g,0,0⟩ a=⟨g,0,0⟩:=look_plain (by rw[h];decide) (by rw[h];decide) (by rw[h];decide)
   rw[PO b (by rw[h];decide) (by rw[h];decide) n] at j ⊢
   have E:(aP fs false (d+1) c ⟨g,0,0⟩).kind=0:=gz λm=>fT fs false (d+1) t _ m j
   obtain⟨r,q⟩:=p c (by rw[b];simp) B g E
   rw[r] at j ⊢
   obtain⟨K,I⟩:=kS F (z t (by rw[b];simp) u) (y t (by rw[b];simp)) j
   exact⟨g,K,i (by rw[h];decide),d6 (d6 (d7 ⟨h,c,t,d7 b,q,I.up λs a h=>h.up o_⟩)),o_,s_⟩
  |if3 _ c t x h b B F u M Q=>
   have n:cL fs false ⟨g,0,0⟩ a=⟨g,0,0⟩:=look_plain (by rw[h];decide) (by rw[h];decide) (by rw[h];decide)
   rw[U1 b (by rw[h];decide) (by rw[h];decide) n] at j ⊢
   have C:(aP fs false (d+1) t (aP fs false (d+1) c ⟨g,0,0⟩)).kind=0:=gz λm=>fT fs false (d+1) x _ m j
   have E:(aP fs false (d+1) c ⟨g,0,0⟩).kind=0:=gz λm=>fT fs false (d+1) t _ m C
   obtain⟨r,q⟩:=p c (by rw[b];simp) B g E
   rw[r] at j C ⊢
   obtain⟨K,I⟩:=kS F (z t (by rw[b];simp) u) (y t (by rw[b];simp)) C
   rw[K] at j ⊢
   obtain⟨V,Y⟩:=kS M (z x (by rw[b];simp) Q) (y x (by rw[b];simp)) j
   exact⟨g,V,i (by rw[h];decide),d6 (d6 (d7 ⟨h,c,t,d6 ⟨x,b,Y.up λs a h=>h.up o_⟩,q,I.up λs a h=>h.up o_⟩)),o_,s_⟩
  |whl _ c t h b B F u=>
   have n:cL fs false ⟨g,0,0⟩ a=⟨g,0,0⟩:=look_plain (by rw[h];decide) (by rw[h];decide) (by rw[h];decide)
   rw[PO b (by rw[h];decide) (by rw[h];decide) n] at j ⊢
   have E:(aP fs false (d+1) c ⟨g,0,0⟩).kind=0:=gz λm=>fT fs false (d+1) t _ m j
   obtain⟨r,q⟩:=p c (by rw[b];simp) B g E
   rw[r] at j ⊢
   obtain⟨K,I⟩:=kS F (z t (by rw[b];simp) u) (y t (by rw[b];simp)) j
   exact⟨g,K,i (by rw[h];decide),d6 (d6 (d6 (d7 ⟨h,c,t,b,q,I.up λs a h=>h.up o_⟩))),o_,s_⟩
  |ret0 _ h b=>
   have n:cL fs false ⟨g,0,0⟩ a=⟨g,0,0⟩:=look_plain (by rw[h];decide) (by rw[h];decide) (by rw[h];decide)
   refine⟨g,by rw[gA (by rw[h];decide) (by rw[h];decide),n,b];rfl,i (by rw[h];decide),?_,o_,s_⟩
   exact d6 (d6 (d6 (d6 (d7 ⟨h,d7 b⟩))))
  |ret1 _ v h b A=>
   have n:cL fs false ⟨g,0,0⟩ a=⟨g,0,0⟩:=look_plain (by rw[h];decide) (by rw[h];decide) (by rw[h];decide)
   rw[gA (by rw[h];decide) (by rw[h];decide),n,b] at j ⊢
   simp only[io,jq] at j ⊢
   obtain⟨r,q⟩:=p v (by rw[b];simp) A g j
   exact⟨g,r,i (by rw[h];decide),d6 (d6 (d6 (d6 (d7 ⟨h,d6 ⟨v,b,q⟩⟩)))),o_,s_⟩
  |print _ v h b A=>
   have n:cL fs false ⟨g,0,0⟩ a=⟨g,0,0⟩:=look_plain (by rw[h];decide) (by rw[h];decide) (by rw[h];decide)
   rw[gA (by rw[h];decide) (by rw[h];decide),n,b] at j ⊢
   simp only[io,jq] at j ⊢
   obtain⟨r,q⟩:=p v (by rw[b];simp) A g j
   exact⟨g,r,i (by rw[h];decide),d6 (d6 (d6 (d6 (d6 (d7 ⟨h,v,b,q⟩))))),o_,s_⟩
  |call _ v h b A=>
   have n:cL fs false ⟨g,0,0⟩ a=⟨g,0,0⟩:=look_plain (by rw[h];decide) (by rw[h];decide) (by rw[h];decide)
   rw[gA (by rw[h];decide) (by rw[h];decide),n,b] at j ⊢
   simp only[io,jq] at j ⊢
   obtain⟨r,q⟩:=p v (by rw[b];simp) A g j
   exact⟨g,r,i (by rw[h];decide),d6 (d6 (d6 (d6 (d6 (d6 ⟨h,v,b,q⟩))))),o_,s_⟩
def gN:aC->Nat
 |⟨_,_,_,y_⟩=>1+(y_.attach.map λ⟨k,_⟩=>gN k).sum
def lI(a:aC):gN a=1+(a.y_.map gN).sum:=by
 obtain⟨e,d,c,b⟩:=a;rw[gN];congr 2
 simp
def sE:∀(d:Nat) (a:aC),fF d a->gN a<=cC d a
 |0,_,h=>h.elim
 |d+1,a,h=>by
  rw[lI,cC]
  have:∀l:List aC,(∀k∈l,gN k<=cC d k)->(l.map gN).sum<=(l.map (cC d)).sum:=by
   intro l;induction l with
   |nil=>intro _;simp
   |cons x l c=>
    intro h;simp only[e7,fg];have f:=h x (fk ..);have e:=c λk b=>h k (ey _ b)
    omega
  have:=this a.y_ λk b=>sE d k (h k b)
  omega
def rW{c:aC->Nat->List aH}(h:∀a p,(c a p).length<=m*gN a):∀(l:List aC) (p:Nat),(bV c l p).length<=m*(l.map gN).sum
 |[],_=>by simp[bV]
 |a::l,p=>by
  simp only[bV,ek,e7,fg,Nat.mul_add];have d:=h a p;have b:=rW h l (p+(c a p).length);omega
def lX(fs:List aC)(e_:cN):∀(d:Nat) (a:aC) (p:Nat),(aF fs e_ d a p).length<=2*gN a
 |0,_,_=>by simp[aF]
 |d+1,a,p=>by
  have z:=rW (m:=2) (λa p=>lX fs e_ d a p) a.y_ p
  have v:=lI a;have n:=λl q=>lX fs e_ d l q
  rw[aF];simp only;generalize bV (aF fs e_ d) a.y_ p=y at z ⊢
  generalize (if (a.x_==[108,101,110])=true then aH.length else if (a.x_==[114,101,97,100])=true then aH.read else aH.call (dG fs a.x_) a.y_.length)=g
  generalize aF fs e_ d=E at*;have c:∀i:aH,(y++[i]).length<=2*gN a:=λi=>by simp only[ek,ep,ew];omega
  have b:∀i:aH,([i]:List aH).length<=2*gN a:=λi=>by simp only[ep,ew];omega
  by_cases o:(a.op==[48])=true
  ·rw[if_pos o];exact b _
  rw[if_neg o];by_cases s:(a.op==[115])=true
  ·rw[if_pos s];exact b _
  rw[if_neg s];by_cases t:(a.op==[98,111,111,108])=true
  ·rw[if_pos t];exact b _
  rw[if_neg t];by_cases x:(a.op==[110,97,109,101])=true
  ·rw[if_pos x];exact b _
  rw[if_neg x];by_cases u:(a.op==[108,105,115,116])=true
  ·rw[if_pos u];exact c _
  rw[if_neg u];by_cases w:(a.op==[105,110,100,101,120])=true
  ·rw[if_pos w];exact c _
  rw[if_neg w];by_cases k:(a.op==[45,120])=true
  ·rw[if_pos k];exact c _
  rw[if_neg k];by_cases h:(a.op==[33,120])=true
  ·rw[if_pos h];exact c _
  rw[if_neg h];by_cases j:(a.op==[99,97,108,108])=true
  ·rw[if_pos j];exact c _
  rw[if_neg j];by_cases e:(a.op==[38,38] || a.op==[124,124])=true
  ·rw[if_pos e];split
   ·rename_i l r f;have A:=n l p;have B:=n r (p+(E l p).length+1);rw[f] at v;simp only[e7,fy,fg,ge] at v;simp only[ek,ep,ew];omega
   ·simp
  ·rw[if_neg e];exact c _
def rQ{c:cN->aC->Nat->List aH × cN}(h:∀s a p,(c s a p).1.length<=m*gN a):∀(l:List aC) (s:cN) (p:Nat),(bM c s l p).length<=m*(l.map gN).sum
 |[],_,_=>by simp[bM]
 |a::l,s,p=>by
  simp only[bM,ek,e7,fg,Nat.mul_add];have d:=h s a p;have b:=rQ h l (c s a p).2 (p+(c s a p).1.length);omega
def DU(fs:List aC):∀(d:Nat) (e_:cN) (a:aC) (p:Nat),(aZ fs d e_ a p).1.length<=3*gN a
 |0,_,_,_=>by simp[aZ]
 |d+1,e_,a,p=>by
  have f:=lI a;have j:=λ(b:aC) q=>rQ (m:=3) (λs a p=>DU fs d s a p) b.y_ e_ q
  have h:=λ(x:aC) q=>lX fs e_ d x q
  have i:=λ(b:aC)=>lI b
  rw[aZ];simp only;repeat' split
  all_goals try simp only[ek,ep,ew]
  all_goals try omega
  ·rename_i t v e;have g:=h v (p+1);rw[e] at f;simp only[e7,fy,fg,ge] at f;omega
  ·have g:=rW (m:=2) (λa p=>lX fs e_ d a p) a.y_ (p+1)
   omega
  ·rename_i c t _ x e;have g:=h c (p+1);have k:=j t (p+1+(aF fs e_ d c (p+1)).length+1);have l:=i t;have n:=i x;have o:=j x (p+1+(aF fs e_ d c (p+1)).length+1+(bM (aZ fs d) e_ t.y_ (p+1+(aF fs e_ d c (p+1)).length+1)).length+1);rw[e] at f;simp only[e7,fy,fg,ge] at f;omega
  ·rename_i c t _ e _ _;have g:=h c (p+1);have k:=j t (p+1+(aF fs e_ d c (p+1)).length+1);have l:=i t;rw[e] at f;simp only[e7,fg] at f;omega
  ·rename_i c t e;have g:=h c (p+1);have k:=j t (p+1+(aF fs e_ d c (p+1)).length+1);have l:=i t;rw[e] at f;simp only[e7,fy,fg,ge] at f;omega
  all_goals
   rename_i v e;have g:=h v (p+1);rw[e] at f;simp only[e7,fy,fg,ge] at f;omega
def oS(fs:List aC)(d:Nat)(s:bC)(k:aC)(h:s.kind≠0):(eX fs d s k).kind≠0:=by
 unfold eX;split
 ·exact qX s k h
 ·exact fT fs false d k s h
def TP(fs:List aC)(d:Nat)(s:bC)(n:aC)(first:Bool)(h:s.kind≠0):(gO fs d s n first).kind≠0:=by
 unfold gO;refine iI (λs k a=>oS fs d s k a) _ _ ?_
 show (if _ then _ else _:bC).kind≠0
 split
 ·exact qG _ _ _ h
 ·exact h
def GI(fs:List aC)(d:Nat):∀(a b:List aC) (s:bC),s.kind≠0->(fK fs d b a s).kind≠0
 |[],_,_,h=>h
 |n::a,b,s,h=>GI fs d a (b++[n]) _ (TP fs d s n _ h)
def sD:∀(ps:List aC) (b:cN),(∀x∈ps,x.op=[112,97,114,97,109])->(ps.foldl (eX fs d) ⟨b,0,0⟩).kind=0->ps.foldl (eX fs d) ⟨b,0,0⟩=⟨b++ps.map (·.x_),0,0⟩/\(b.Nodup->(b++ps.map (·.x_)).Nodup)
 |[],b,_,_=>by simp
 |a::l,b,h,f=>by
  rw[io] at f ⊢
  have q:eX fs d ⟨b,0,0⟩ a={ declaresL ⟨b,0,0⟩ a with e_:=(declaresL ⟨b,0,0⟩ a).e_++[a.x_] }:=by unfold eX;rw[if_pos (by simp[h a (fk ..)])]
  have o:(eX fs d ⟨b,0,0⟩ a).kind=0:=gz λg=>iI (λs k u=>oS fs d s k u) l _ g f
  have c:(declaresL ⟨b,0,0⟩ a).kind=0:=by rw[q] at o;exact o
  obtain⟨i,j⟩:declaresL ⟨b,0,0⟩ a=⟨b,0,0⟩/\a.x_∉b:=by
   unfold declaresL at c ⊢
   split at c
   ·exact(iN d_ c).elim
   ·rename_i m;rw[if_neg m];simp at m;exact⟨rfl,m.2⟩
  rw[q,i] at f ⊢
  obtain⟨r,p⟩:=sD l (b++[a.x_]) (λx n=>h x (ey _ n)) f
  rw[r];have e:b++[a.x_]++l.map (·.x_)=b++(a::l).map (·.x_):=s_
  rw[e] at p ⊢
  refine⟨rfl,λv=>p ?_⟩
  rw[gp];exact⟨v,s_,λx n y t=>by rw[et.1 t];exact λe=>j (e▸n)⟩
def SQ(A:∀f∈fs,sY f){f:aC}(B:sY f)(F:fF (d+3) f)(H:∀e,cC e f<=2001){o:cN}{first:Bool}(n:(gO fs (d+2) ⟨o,0,0⟩ f first).kind=0):jF fs (d+2) f/\∃I,gO fs (d+2) ⟨o,0,0⟩ f first=⟨I,0,0⟩:=by
 obtain⟨g,b,j,D,y,_⟩:=B.y_;have c:∀f∈fs,f.y_≠[]:=λf B=>by obtain⟨g,b,j,_⟩:=(A f B).y_;rw[j];simp
 unfold gO at n ⊢
 have G:({ (if gI f.x_ || !first then bC.found ⟨o,0,0⟩ f.l_ 6 else ⟨o,0,0⟩) with e_:=[] }:bC).kind=0:=gz λc=>iI (λs k N=>oS fs (d+2) s k N) f.y_ _ c n
 have z:({ (if gI f.x_ || !first then bC.found ⟨o,0,0⟩ f.l_ 6 else ⟨o,0,0⟩) with e_:=[] }:bC)=⟨[],0,0⟩:=by
  split at G
  ·exact(iN d_ G).elim
  ·rename_i M;rw[if_neg M]
 rw[z,j,List.foldl_append,io,jq] at n ⊢
 have C:(g.foldl (eX fs (d+2)) ⟨[],0,0⟩).kind=0:=gz λc=>oS fs (d+2) _ b c n
 obtain⟨q,i⟩:=sD g [] D C;have i:=i List.nodup_nil;rw[ip] at q i;rw[q] at n ⊢
 have v:eX fs (d+2) ⟨g.map (·.x_),0,0⟩ b=aP fs false (d+2) b ⟨g.map (·.x_),0,0⟩:=by unfold eX;rw[if_neg (by simp[y.op])]
 rw[v] at n ⊢
 have E:fF (d+2) b:=F b (by rw[j];simp)
 have r:=H (d+3);rw[cC,j] at r
 have w:∀l:List aC,l.length<=(l.map (cC (d+2))).sum:=by
  intro l;induction l with
  |nil=>simp
  |cons x l O=>simp only[e7,fg,ep,cC];simp only[cC] at O;omega
 have:=w g;simp only[gg,ik,e7,fy,fg,ge] at r;obtain⟨L,J⟩:=kS y.op (λk u=>KL c (d+1) k (y.y_ k u) (E k u)) (by show (g.map (·.x_)).length+cC (d+2) b<=_;simp only[List.length_map];omega) n
 refine⟨⟨⟨g,b,j,J.up λs a h=>h.up o_,i⟩,?_⟩,_,L⟩
 have T:=sE _ _ F;have K:=H (d+3);have S:(bM (aZ fs (d+2)) (g.map (·.x_)).reverse b.y_ 0).length<=3*(b.y_.map gN).sum:=rQ (m:=3) (λs a p=>DU fs (d+2) s a p) b.y_ (g.map (·.x_)).reverse 0
 have t:=lI f;rw[j] at t;have P:=lI b;simp only[gg,ik,e7,fy,fg,ge] at t;have Q:(fN fs (d+2) f).code.length=(bM (aZ fs (d+2)) (g.map (·.x_)).reverse b.y_ 0).length+2:=by simp[fN,j]
 omega
def AK(c:∀f∈fs,sY f):∀(a b:List aC) (k:cN),(∀f∈a,f∈fs/\fF (d+3) f/\∀e,cC e f<=2001)->(fK fs (d+2) b a ⟨k,0,0⟩).kind=0->∀f∈a,jF fs (d+2) f
 |[],_,_,_,_,f,g=>by cases g
 |n::a,b,k,h,i,f,g=>by
  rw[fK] at i;have o:(gO fs (d+2) ⟨k,0,0⟩ n (dU b n.x_).isNone).kind=0:=gz λj=>GI fs (d+2) a _ _ j i
  obtain⟨q,m,s⟩:=h n (fk ..);obtain⟨r,l,p⟩:=SQ c (c n q) m s o;rw[p] at i;rcases eo.1 g with rfl|g
  ·exact r
  ·exact AK c a (b++[n]) l (λf g=>h f (ey _ g)) i f g
def KC{e:Nat}{f:aC}:∀{l:List aC},f∈l->cC e f<=(l.map (cC e)).sum
 |x::l,h=>by
  simp only[e7,fg];rcases eo.1 h with rfl|h
  ·omega
  ·have:=KC (e:=e) h;omega
def FineL.mem{l:List aC}{f:aC}(h:FineL m l)(a:f∈l):FineA m f:=λe=>⟨el (KC a) (h e).1,(h e).2 f a⟩
def NB(h:cW l=.ok ks)(a:cI l=(0,0)):(∀f∈ks,jF ks 2001 f)/\fX ks (dG ks [109,97,105,110])=some 0:=by
 unfold cI at a;rw[h] at a;simp only at a;unfold lJ at a;have j:=wL h;have p:=lQ h;have c:∀f∈ks,FineA 2001 f:=λf g=>p.mem g
 split at a
 ·cases a
 rename_i m i;split at a
 ·cases a
 rename_i o;have q:(fK ks 2001 [] ks ⟨[],0,0⟩).kind=0:=by simp only[Prod.mk.injEq] at a;exact a.1
 refine⟨λf g=>AK (d:=1999) j ks [] [] (λf g=>⟨g,?_,λe=>((c f g) e).1⟩) q f g,?_⟩
 ·have:=mX 2002 f ((c f g).le o_)
  exact this
 ·unfold fX;rw[vI i];obtain⟨n,b,k,_⟩:=(j m (iz i)).y_;have:m.y_.length=n.length+1:=by rw[k];simp
  simp;omega
def FineL.len{l:List aC}(h:FineL m l):l.length<=m:=by
 have a:=(h 1).1
 have:∀l:List aC,l.length<=(l.map (cC 1)).sum:=by
  intro l;induction l with
  |nil=>simp
  |cons x l b=>simp only[e7,fg,ep];have:1<=cC 1 x:=by simp[cC]
               omega
 exact el (this l) a
def FineA.y_(h:FineA m a):FineL m a.y_:=λe=>by
 have b:=(h (e+1)).1;simp only[cC] at b;exact⟨o_,(h (e+1)).2.2⟩
def zX(h:a.op≠[115])(b:a.y_=[]):∀d,oZ d a
 |0=>trivial
 |d+1=>⟨λe=>absurd e h,by simp[b],λk h=>by simp[b] at h⟩
def jH(g:m<=1000000):∀(d:Nat) (a:aC),FineA m a->dJ a->oZ d a
 |0,_,_,_=>trivial
 |d+1,a,i,j=>by
  refine⟨λe=>?_,el i.y_.len g,λk c=>jH g d k (i.y_.mem c) ?_⟩
  ·cases j with
   |leaf _ h c o=>exact o e
   |many _ h c=>rw[e] at h;exact absurd h d_
   |one _ l h c f=>rw[e] at h;exact absurd h d_
   |two _ l r h c f n=>rw[e] at h;exact absurd h d_
  ·cases j with
   |leaf _ h b o=>rw[b] at c;cases c
   |many _ h b=>exact b k c
   |one _ l h b f=>rw[b,et] at c;rw[c];exact f
   |two _ l r h b f n=>
    rw[b] at c;rcases eo.1 c with rfl|c
    ·exact f
    ·rw[et.1 c];exact n
def LB(j:m<=1000000):∀(d:Nat),(∀a,FineA m a->gZ a->oZ d a)/\∀t,FineA m t->t.op=[98,108,111,99,107]->(∀k∈t.y_,gZ k)->oZ d t
 |0=>⟨λ_ _ _=>trivial,λ_ _ _ _=>trivial⟩
 |d+1=>by
  obtain⟨w,q⟩:=LB j d;refine⟨λa o u=>⟨λe=>?_,el o.y_.len j,λk f=>?_⟩,λt o s f=>⟨λe=>?_,el o.y_.len j,λk b=>w k (o.y_.mem b) (f k b)⟩⟩
  ·cases u<;>rename_i h _<;>simp_all
  ·have g:=o.y_.mem f;cases u with
   |var _ t v h b p l=>
    rw[b] at f;rcases eo.1 f with rfl|f
    ·exact zX (by rw[l.1];decide) l.2 d
    ·obtain rfl:=et.1 f;exact jH j d _ g p
   |set _ h z b=>exact jH j d k g (b k f)
   |if2 _ c t h b n l i=>
    rw[b] at f;rcases eo.1 f with rfl|f
    ·exact jH j d _ g n
    ·obtain rfl:=et.1 f;exact q _ g l i
   |if3 _ c t x h b n l i y r=>
    rw[b] at f;rcases eo.1 f with rfl|f
    ·exact jH j d _ g n
    rcases eo.1 f with rfl|f
    ·exact q _ g l i
    ·obtain rfl:=et.1 f;exact q _ g y r
   |whl _ c t h b n l i=>
    rw[b] at f;rcases eo.1 f with rfl|f
    ·exact jH j d _ g n
    ·obtain rfl:=et.1 f;exact q _ g l i
   |ret0 _ h b=>rw[b] at f;cases f
   |ret1 _ v h b p=>rw[b,et] at f;subst f;exact jH j d _ g p
   |print _ v h b p=>rw[b,et] at f;subst f;exact jH j d _ g p
   |call _ c h b n s=>rw[b,et] at f;subst f;exact jH j d _ g n
  ·rw[s] at e;cases e
def IQ(g:cW l=.ok ks):∀f∈ks,∀k∈f.y_,nD k:=λf h k a d=>by
 have c:FineA 2001 k:=((lQ g).mem h).y_.mem a;obtain⟨n,b,e,j,i,m⟩:=(wL g f h).y_;rw[e] at a;rcases eq.1 a with a|a
 ·exact zX (by rw[j k a];decide) (m k a) d
 ·obtain rfl:=et.1 a;exact(LB o_ d).2 _ c i.op i.y_
def pA(i:aH):Prop:=(∀v,i=.push v->bT v)/\∀op,i=.unary op->op=[45]\/op=[33]
def oQ{c:aC->Nat->List aH}:∀(l:List aC) (p:Nat),(∀a∈l,∀q,∀i∈c a q,P i)->∀i∈bV c l p,P i
 |[],_,_,i,d=>by cases d
 |a::l,p,h,i,d=>by
  rcases eq.1 d with d|d
  ·exact h a (fk ..) p i d
  ·exact oQ l _ (λb e=>h b (ey _ e)) i d
def eA{c:Prop}[Decidable c]{l m:List aH}(b:c->∀i∈l,P i)(a:∀i∈m,P i):∀i∈(if c then l else m),P i:=by
 split
 ·exact b ‹_›
 ·exact a
def eD{l:List aH}{x:aH}(b:∀i∈l,P i)(a:P x):∀i∈l++[x],P i:=λi h=>by
 rcases eq.1 h with h|h
 ·exact b i h
 ·rw[et.1 h];exact a
def jV{x:aH}(h:P x):∀i∈[x],P i:=eD (l:=[]) (λ_ h=>by cases h) h
def kZ(fs:List aC)(e_:cN):∀(d:Nat) (a:aC) (p:Nat),nD a->∀i∈aF fs e_ d a p,pA i
 |0,_,_,_=>λi b=>by cases b
 |d+1,a,p,j=>by
  have c:∀i∈bV (aF fs e_ d) a.y_ p,pA i:=oQ _ _ λk c q=>kZ fs e_ d k q (j.kid c)
  have g:∀x:aH,(∀v,x≠.push v)->(∀f,x≠.unary f)->pA x:=λx n m=>⟨λv e=>absurd e (n v),λf e=>absurd e (m f)⟩
  have o:a.op=[115]->dB a.x_:=λh=>((j 1).1 h).2
  rw[aF];simp only;refine eA (λ_=>jV ⟨λv e=>by cases e;exact bT.num _,λf e=>by cases e⟩) ?_
  refine eA (λh=>jV ⟨λv e=>by cases e;exact bT.str (o (by simpa using h)),λf e=>by cases e⟩) ?_
  refine eA (λ_=>jV ⟨λv e=>by cases e;exact bT.tru _,λf e=>by cases e⟩) ?_
  refine eA (λ_=>jV (g _ s_ s_)) ?_
  refine eA (λ_=>eD c (g _ s_ s_)) ?_
  refine eA (λ_=>eD c (g _ s_ s_)) ?_
  refine eA (λ_=>eD c ⟨λv e=>by (cases e),λf e=>by cases e;exact d7 rfl⟩) ?_
  refine eA (λ_=>eD c ⟨λv e=>by (cases e),λf e=>by cases e;exact d6 rfl⟩) ?_
  refine eA (λ_=>eD c ?_) ?_
  ·repeat' split
   all_goals exact g _ s_ s_
  refine eA (λ_=>?_) (eD c (g _ s_ s_))
  split
  ·rename_i l r e;refine eD (λi b=>?_) (g _ s_ s_)
   rcases eq.1 b with b|b
   ·exact eD (kZ fs e_ d l _ (j.kid (by rw[e];simp))) (g _ s_ s_) i b
   ·exact kZ fs e_ d r _ (j.kid (by rw[e];simp)) i b
  ·intro i b;cases b
def rS{c:cN->aC->Nat->List aH × cN}:∀(l:List aC) (e_:cN) (p:Nat),(∀a∈l,∀s q,∀i∈(c s a q).1,P i)->∀i∈bM c e_ l p,P i
 |[],_,_,_,i,d=>by cases d
 |a::l,e_,p,h,i,d=>by
  rcases eq.1 d with d|d
  ·exact h a (fk ..) e_ p i d
  ·exact rS l _ _ (λb e=>h b (ey _ e)) i d
def QE(fs:List aC):∀(d:Nat) (e_:cN) (a:aC) (p:Nat),nD a->∀i∈(aZ fs d e_ a p).1,pA i
 |0,_,_,_,_,i,f=>by cases f
 |d+1,e_,a,p,o,i,f=>by
  have j:∀{k:aC} {q:Nat},k∈a.y_->i∈aF fs e_ d k q->pA i:=λl h=>kZ fs e_ d _ _ (o.kid l) i h
  have n:∀{k:aC} {q:Nat},k∈a.y_->i∈bM (aZ fs d) e_ k.y_ q->pA i:=λl h=>rS _ _ _ (λx j s q=>QE fs d s x q ((o.kid l).kid j)) i h
  have g:∀{x:aH},(∀v,x≠.push v)->(∀m,x≠.unary m)->i=x->pA i:=λw u e=>⟨λv z=>absurd (e▸z) (w v),λm y=>absurd (e▸y) (u m)⟩
  rw[aZ] at f;dsimp only at f;split at f
  ·split at f
   ·rename_i t v e;simp only[eq,eo,fh,or_false,ga] at f;rcases f with h|h|h
    ·exact g s_ s_ h
    ·exact j (by rw[e];simp) h
    ·exact g s_ s_ h
   ·cases f
  split at f
  ·simp only[eq,eo,fh,or_false,ga] at f;rcases f with h|h|h
   ·exact g s_ s_ h
   ·exact oQ _ _ (λk l q=>kZ fs e_ d k q (o.kid l)) i h
   ·exact g s_ s_ h
  split at f
  ·split at f
   ·rename_i c t e r;simp only[eq,eo,fh,or_false,ga] at f;rcases f with h|(((h|h)|h)|h)|h
    ·exact g s_ s_ h
    ·exact j (by rw[r];simp) h
    ·exact g s_ s_ h
    ·exact n (by rw[r];simp) h
    ·exact g s_ s_ h
    ·split at h
     ·exact n (by rw[r];simp) h
     ·cases h
   ·cases f
  split at f
  ·split at f
   ·rename_i c b e;simp only[eq,eo,fh,or_false,ga] at f;rcases f with h|((h|h)|h)|h
    ·exact g s_ s_ h
    ·exact j (by rw[e];simp) h
    ·exact g s_ s_ h
    ·exact n (by rw[e];simp) h
    ·exact g s_ s_ h
   ·cases f
  split at f
  ·split at f
   ·rename_i v e;simp only[eq,eo,fh,or_false,ga] at f;rcases f with h|h|h
    ·exact g s_ s_ h
    ·exact j (by rw[e];simp) h
    ·exact g s_ s_ h
   ·simp only[eo,fh,or_false] at f;rcases f with h|h|h
    ·exact g s_ s_ h
    ·rw[h];exact⟨λv e=>by cases e;exact bT.num _,λm e=>by cases e⟩
    ·exact g s_ s_ h
  split at f
  ·split at f
   ·rename_i v e;simp only[eq,eo,fh,or_false,ga] at f;rcases f with h|h|h
    ·exact g s_ s_ h
    ·exact j (by rw[e];simp) h
    ·exact g s_ s_ h
   ·cases f
  ·split at f
   ·rename_i c e;simp only[eq,eo,fh,or_false,ga] at f;rcases f with h|h|h
    ·exact g s_ s_ h
    ·exact j (by rw[e];simp) h
    ·exact g s_ s_ h
   ·cases f
def VH(h:∀f∈ks,∀k∈f.y_,nD k):kI (dC ks d):=λg m=>by
 obtain⟨f,o,rfl⟩:=hQ.1 m
 have a:∀i∈(fN ks d f).code,pA i:=λi c=>by
  simp only[fN,eq,eo,fh,or_false] at c;rcases c with c|rfl|rfl
  ·cases j:f.y_.getLast? with
   |none=>rw[j] at c;cases c
   |some b=>
    rw[j] at c;exact rS _ _ _ (λk n s q=>QE ks d s k q ((h f o b (jd j)).kid n)) i c
  ·exact⟨λv e=>by cases e;exact bT.num _,λl e=>by cases e⟩
  ·exact⟨λv e=>by (cases e),λl e=>by cases e⟩
 exact⟨λv r=>(a _ r).1 v rfl,λl p=>(a _ p).2 l rfl⟩
def stC_seen{e_:cN}{p:Nat}(h:dM fs d e_ a):(aZ fs d e_ a p).2=cZ e_ a:=
 (mK fs d e_ a (λ_ _=>False) p h ⟨λ_ _ _ h=>h.elim,λ_ _ h=>h.elim⟩).2.1
def LY:∃k:Nat,16*320000+2<=k:=⟨_,cK⟩
noncomputable def jN:Nat:=Classical.choose LY
def LX:16*320000+2<=jN:=Classical.choose_spec LY
noncomputable def fA(tab:List eU)(m0:cR):Nat->Option aU
 |0=>(dR tab jN m0).map λr=>⟨0,r.1,bZ 0 r.2⟩
 |t+1=>
  match fA tab m0 t with
  |none=>none
  |some s=>if s.stop=0 then (dR tab jN s.m).map λr=>⟨t+1,r.1,bZ (t+1) r.2⟩ else none
structure UP(ar:Nat->Option Nat)(s:aU):Prop where
 told:∀x∈s.m.f_,x.e_.length<=x.g_.length
 deep:s.m.f_.length<=16
 ok:s.stop=0->fW ar s.m/\s.m.f_≠[]
 m_:s.m_<=500
def UX{m:cR}(h:fW ar m):∃k,wgts m.f_<=m.f_.length*k/\k=320000:=by
 have d:∀f∈m.f_,kL f<=320000:=λf a=>by
  have n:f.fn.code.length<=80000:=by
   rcases il m.f_ with c|⟨b,x,c⟩
   ·rw[c] at a;cases a
   ·rw[im] at c;have i:=h.ok.low;have e:=h.ok.top x (by rw[c];exact fB _ _)
    rw[c,gC] at i;rw[c] at a;rcases eq.1 a with a|a
    ·obtain⟨T,g,_⟩:=(i f a).code;exact g.len
    ·obtain⟨T,g,_⟩:=e.code;rw[et.1 a];exact g.len
  unfold kL;split
  ·omega
  ·split<;>omega
 have:∀l:List aJ,(∀f∈l,kL f<=320000)->wgts l<=l.length*320000:=by
  intro l;induction l with
  |nil=>intro _;simp[wgts]
  |cons x l j=>
   intro h;have i:=h x (fk ..);have e:=j λf a=>h f (ey _ a)
   unfold wgts at e ⊢
   simp only[e7,fg,ep,Nat.succ_mul];omega
 exact⟨320000,this m.f_ d,rfl⟩
def pZ{a:List eU}(b:kT ar a){m:cR}(h:fW ar m):∃r,dR a jN m=some r/\PI ar r:=
 mH b jN m h (by
  obtain⟨k,d,c⟩:=UX h;have e:=Nat.mul_le_mul_right k h.ok.deep;have:=LX;omega)
def DV{b:List eU}(j:kT ar b){m0:cR}(m:fW ar m0):∀(t:Nat) (s:aU),fA b m0 t=some s->UP ar s/\s.m_=t
 |0,s,h=>by
  obtain⟨r,k,f⟩:=pZ j m;simp only[fA,k,ir,Option.some.injEq] at h;subst h
  exact⟨⟨f.told,f.deep,λc=>f.ok (by simp only[bZ] at c;split at c;·simp at c
                                    ·exact c),s_⟩,rfl⟩
 |t+1,s,h=>by
  rw[fA] at h;cases a:fA b m0 t with
  |none=>rw[a] at h;cases h
  |some p=>
   rw[a] at h;simp only at h;obtain⟨l,v⟩:=DV j m t p a;split at h
   ·rename_i c;obtain⟨r,k,f⟩:=pZ j (l.ok c).1;rw[k] at h;simp only[ir,Option.some.injEq] at h;subst h
    refine⟨⟨f.told,f.deep,λd=>f.ok (by simp only[bZ] at d;split at d;·simp at d
                                       ·exact d),?_⟩,rfl⟩
    show t+1<=500
    have q:t≠500:=by
     intro e;cases t with
     |zero=>simp at e
     |succ u=>
      rw[fA] at a;cases n:fA b m0 u with
      |none=>rw[n] at a;cases a
      |some o=>
       rw[n] at a;simp only at a;split at a
       ·cases g:dR b jN o.m with
        |none=>rw[g] at a;cases a
        |some w=>
         rw[g] at a;simp only[ir,Option.some.injEq] at a;subst a;simp only[bZ] at c;split at c
         ·simp at c
         ·rename_i i;exact i ⟨c,e⟩
       ·cases a
    have:=l.m_;omega
   ·cases h
end Go.Proofs.YtddnpoiiimjpcaaGreatDoor.Hs
