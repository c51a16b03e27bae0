/- What stands in the leaves of a tree: plain words. -/
import Derived.Test.YtddnpoiiimjpcaaGreatDoorP01
set_option linter.defProp false
set_option maxRecDepth 100000
namespace Go.Proofs.YtddnpoiiimjpcaaGreatDoor.Hs
inductive cV:cE->Prop
 |nil:cV []
 |cons {l:cE}:bG l≠0->cV (l.drop (bG l))->cV l
def mJ{l m:cE}{i lo a:Nat}(h:m[i]?=l[i]?):dI m i lo a=dI l i lo a:=by unfold dI;rw[h]
def mY{l m:cE}(h:bG l≠0)(a:∀i,i<bG l->m[i]?=l[i]?):bG m=bG l:=by
 have o:=a 0 (by omega)
 unfold bG at h a ⊢
 rw[o];cases n:l[0]? with
 |none=>exact absurd (by rw[n]) h
 |some b=>
  rw[n] at h a;simp only at h a ⊢
  by_cases e:b.toNat<128
  ·rw[if_pos e,if_pos e]
  rw[if_neg e] at h a;rw[if_neg e,if_neg e];by_cases c:194<=b.toNat/\b.toNat<=223
  ·rw[if_pos c] at h a;rw[if_pos c,if_pos c];by_cases g:dI l 1 128 191=true
   ·rw[if_pos g] at a;rw[mJ (a 1 (by omega))]
   ·rw[if_neg g] at h;exact absurd rfl h
  rw[if_neg c] at h a;rw[if_neg c,if_neg c];by_cases d:224<=b.toNat/\b.toNat<=239
  ·rw[if_pos d] at h a;rw[if_pos d,if_pos d];by_cases k:(dI l 1 (if b.toNat=224 then 160 else 128) (if b.toNat=237 then 159 else 191) && dI l 2 128 191)=true
   ·rw[if_pos k] at a;rw[mJ (a 1 (by omega)),mJ (a 2 (by omega))]
   ·rw[if_neg k] at h;exact absurd rfl h
  rw[if_neg d] at h a;rw[if_neg d,if_neg d];by_cases f:240<=b.toNat/\b.toNat<=244
  ·rw[if_pos f] at h a;rw[if_pos f,if_pos f];by_cases j:(dI l 1 (if b.toNat=240 then 144 else 128) (if b.toNat=244 then 143 else 191) && dI l 2 128 191 && dI l 3 128 191)=true
   ·rw[if_pos j] at a;rw[mJ (a 1 (by omega)),mJ (a 2 (by omega)),mJ (a 3 (by omega))]
   ·rw[if_neg j] at h;exact absurd rfl h
  ·rw[if_neg f] at h;exact absurd rfl h
def KP(t:cE):Prop:=t.length<=100/\cV t
end Go.Proofs.YtddnpoiiimjpcaaGreatDoor.Hs
namespace Go.Proofs.YtddnpoiiimjpcaaGreatDoor
open Hs
def pG:Nat->aC->Prop
 |0,_=>True
 |d+1,a=>(a.op=[115]->a.text.length<=100/\cV a.text)/\a.kids.length<=1000000/\∀k∈a.kids,pG d k
def mF(a:aC):Prop:=∀e,pG e a
def mF.kid{a k:aC}(h:mF a)(b:k∈a.kids):mF k:=fun e=>(h (e+1)).2.2 k b
def mF.len{a:aC}(h:mF a):a.kids.length<=1000000:=(h 1).2.1
end Go.Proofs.YtddnpoiiimjpcaaGreatDoor
namespace Go.Proofs.YtddnpoiiimjpcaaGreatDoor.Hs
def pF{a b:cE}(h:bG a≠0):bG (a++b)=bG a:=
 mY h fun _ c=>l7 (Y7 c kB)
def sE{l:cE}(h:bG l≠0):bG (l.take (bG l))=bG l:=
 mY h fun i a=>by rw[i8,if_pos a]
def cV.append{a b:cE}(e:cV a)(f:cV b):cV (a++b):=by
 induction e with
 |nil=>exact f
 |@cons l c _ d=>
  refine cV.cons (by rw[pF c];exact c) ?_
  rw[pF c,List.drop_append_of_le_length kB];exact d
def cV.one{l:cE}(h:bG l≠0):cV (l.take (bG l)):=
 cV.cons (by rw[sE h];exact h) (by rw[sE h,List.drop_take];simp;exact cV.nil)
def cV.ne{l:cE}(h:cV l)(a:l≠[]):bG l≠0/\cV (l.drop (bG l)):=by
 cases h with
 |nil=>exact absurd rfl a
 |cons c b=>exact⟨c,b⟩
def OX:∀(n:Nat) (l:cE),l.length<=n->∀c∈dZ l,cV c:=by
 intro n;induction n with
 |zero=>
  intro l f c a;rw[dW (Y4 (s6.1 (by omega)))] at a
  cases a
 |succ n e=>
  intro l f c a;by_cases d:l=[]
  ·rw[dW (Y4 d)] at a;cases a
  by_cases b:bG l=0
  ·rw[dW (Y3 b)] at a;cases a
  rw[iD d b] at a;rcases Z6.1 a with rfl|a
  ·exact cV.one b
  ·exact e _ (by rw[o7];omega) c a
def TP:Nat->aI->Prop
 |0,_=>True
 |d+1,v=>cV v.s/\∀x∈v.l,TP d x
structure bQ(v:aI):Prop where
 all:∀d,TP d v
def bQ.txt{v:aI}(h:bQ v):cV v.s:=(h.all 1).1
def bQ.kid{v x:aI}(h:bQ v)(a:x∈v.l):bQ x:=⟨fun d=>(h.all (d+1)).2 x a⟩
def bQ.mk'{v:aI}(a:cV v.s)(b:∀x∈v.l,bQ x):bQ v:=
 ⟨fun d=>by
   cases d with
   |zero=>trivial
   |succ d=>exact⟨a,fun x c=>(b x c).all d⟩⟩
def bQ.num(n:Int):bQ (bD n):=.mk' .nil fun x a=>by cases a
def bQ.tru(b:Bool):bQ (bP b):=.mk' .nil fun x a=>by cases a
def bQ.nil:bQ bN:=.mk' .nil fun x a=>by cases a
def bQ.str{s:cE}(h:cV s):bQ (bK s):=.mk' h fun x a=>by cases a
def bQ.lst{l:List aI}(h:∀x∈l,bQ x):bQ (aW l):=.mk' .nil h
def wJ{l:List aI}(h:∀x∈l,bQ x)(k:Nat):bQ (l.getD k bN):=by
 rw[List.getD_eq_getElem?_getD];cases a:l[k]? with
 |none=>exact bQ.nil
 |some x=>exact h x (p8 a)
def zH{l:List aI}(h:∀x∈l,bQ x)(k:Nat):bQ (l[k]?.getD bN):=by
 cases a:l[k]? with
 |none=>exact bQ.nil
 |some x=>exact h x (p8 a)
def RD(op:cE)(a:aI):bQ (fO op a).1:=by
 unfold fO;repeat' split
 all_goals first|exact bQ.num _|exact bQ.tru _|exact bQ.nil
def NG(op:cE)(x y:Int):bQ (jD op x y).1:=by
 unfold jD;repeat' split
 all_goals first|exact bQ.num _|exact bQ.tru _|exact bQ.nil
def EB{a b:aI}(c:bQ a)(d:bQ b):bQ (jC a b).1:=by
 unfold jC;dsimp only;generalize e:(if a.sort=3 then aW (a.l++b.l) else bK (a.s++b.s))=v
 have f:bQ v:=by
  rw[<-e];split
  ·refine bQ.lst fun x g=>?_
   rcases Z2.1 g with h|h
   ·exact c.kid h
   ·exact d.kid h
  ·exact bQ.str (c.txt.append d.txt)
 split
 ·exact bQ.nil
 ·exact f
def PT(op:cE){a b:aI}(c:bQ a)(d:bQ b):bQ (eS op a b).1:=by
 unfold eS;repeat' split
 all_goals first|exact bQ.tru _|exact bQ.nil|exact NG _ _ _|exact EB c d
def DZ(a:aI):bQ (eG a).1:=by
 unfold eG;repeat' split
 all_goals first|exact bQ.num _|exact bQ.nil
def JK{a:aI}(b:aI)(e:bQ a):bQ (dE a b).1:=by
 unfold dE;split
 ·exact bQ.nil
 split
 ·exact bQ.nil
 refine wJ (fun x d=>?_) _
 unfold jH at d;split at d
 ·obtain⟨c,f,rfl⟩:=ac_.1 d;exact bQ.str (OX _ _ dH c f)
 ·exact e.kid d
def qO:∀(l:List aI) (a b:aI),bQ a->bQ b->bQ (cN l a b).1
 |[],_,_,_,c=>c
 |i::l,a,b,e,c=>by
  unfold cN;have f:=qO l (a.l.getD i.n.toNat bN) b (wJ (fun x d=>e.kid d) _) c
  split
  ·exact bQ.nil
  split
  ·exact bQ.nil
  split
  ·exact bQ.nil
  ·refine bQ.lst fun x d=>?_
   rcases ap_ d with h|h
   ·exact e.kid h
   ·rw[h];exact f
def uC{r:aI × Nat}(h:bQ r.1):bQ (iC r).1:=by
 unfold iC;repeat' split
 all_goals first|exact bQ.nil|exact h
def uO(f:eV):Prop:=(∀v,aG.push v∈f.code->bQ v)/\∀op,aG.unary op∈f.code->op=[45]\/op=[33]
structure dL(f:aJ):Prop where
 fn:uO f.fn
 vars:∀v∈f.vars,bQ v
 ops:∀v∈f.ops,bQ v
def fZ(m:cT):Prop:=∀f∈m.frames,dL f
def jO(tab:List eV):Prop:=∀f∈tab,uO f
def dL.last{f:aJ}(h:dL f):bQ f.last:=by
 unfold aJ.last;cases a:f.ops.getLast? with
 |none=>exact bQ.nil
 |some x=>exact h.ops x (List.mem_of_getLast? a)
def dL.pop{f:aJ}(h:dL f):dL f.pop:=⟨h.fn,h.vars,fun v a=>h.ops v (List.dropLast_subset _ a)⟩
def dL.popMany{f:aJ}(h:dL f)(n:Nat):dL (f.popMany n):=⟨h.fn,h.vars,fun v a=>h.ops v (an_ a)⟩
def dL.push{f:aJ}(h:dL f){a:aI}(c:bQ a):dL (f.push a):=⟨h.fn,h.vars,fun v d=>by
 rcases Z2.1 d with b|b
 ·exact h.ops v b
 ·rw[Z1.1 b];exact c⟩
def dL.next{f:aJ}(h:dL f)(n:Nat):dL { f with next:=n }:=⟨h.fn,h.vars,h.ops⟩
def dL.many{f:aJ}(h:dL f)(n:Nat):∀v∈f.many n,bQ v:=fun v a=>h.ops v (List.mem_of_mem_drop a)
def BP{i:aG}{f:aJ}(h:dL f)(d:∀v,i=.push v->bQ v):dL (aO i f).1:=by
 cases i<;>simp only[aO]
 case begin l s=>exact⟨h.fn,h.vars,h.ops⟩
 case push v=>exact h.push (d v rfl)
 case load k=>exact h.push (zH h.vars k)
 case declare k=>
  refine⟨h.fn,fun v b=>?_,h.pop.ops⟩
  rcases Z2.1 b with a|a
  ·exact h.vars v (an_ a)
  ·rw[Z1.1 a];exact h.last
 case assign k n=>
  have c:=h.pop.popMany n;split
  ·refine⟨c.fn,fun v b=>?_,c.ops⟩
   rcases ap_ b with a|a
   ·exact h.vars v a
   ·rw[a];exact uC (qO _ _ _ (zH h.vars k) h.last)
  ·exact c
 case jump t=>exact h.next t
 case skip t=>
  repeat' split
  ·exact h.pop
  ·exact h.pop.next t
  ·exact h.pop
 case shortcut w t=>
  repeat' split
  ·exact(h.pop.push h.last).next t
  ·exact h.pop
  ·exact h.pop
 case truth=>
  repeat' split
  ·exact h.pop.push h.last
  ·exact h.pop
 case unary op=>
  repeat' split
  ·exact h.pop.push (RD _ _)
  ·exact h.pop
 case binary op=>
  repeat' split
  ·exact h.pop.pop.push (PT _ h.pop.last h.last)
  ·exact h.pop.pop
 case index=>
  repeat' split
  ·exact h.pop.pop.push (JK _ h.pop.last)
  ·exact h.pop.pop
 case list n=>
  repeat' split
  ·exact(h.popMany n).push (uC (bQ.lst (h.many n)))
  ·exact h.popMany n
 case length=>
  repeat' split
  ·exact h.pop.push (DZ _)
  ·exact h.pop
 case drop=>exact h.pop
 all_goals exact h
def CM{m:List eV}(B:jO m){b:List aJ}{f g:aJ}{t:List Int}{o:cO}{i:aG}(h:fZ ⟨b++[f],t,o⟩)(q:f.fetch=some (i,g)):fZ (cJ m i b g t o).1:=by
 have z:∀x∈b,dL x:=fun x l=>h x (by simp[l])
 have u:dL f:=h f (by simp)
 obtain⟨rfl,D⟩:g={ f with next:=f.next+1 }/\f.fn.code[f.next]?=some i:=by
  unfold aJ.fetch at q;cases l:f.fn.code[f.next]? with
  |none=>rw[l] at q;cases q
  |some j=>rw[l] at q;simp at q;exact⟨q.2.symm,by rw[q.1]⟩
 have p:dL { f with next:=f.next+1 }:=u.next _
 generalize { f with next:=f.next+1 }=g at p
 have A:∀v,i=.push v->bQ v:=fun v e=>u.fn.1 v (by rw[<-e];exact p8 D)
 have d:∀y,dL y->∀t o,fZ ⟨b++[y],t,o⟩:=fun y C t o x l=>by
  rcases Z2.1 l with c|c
  ·exact z x c
  ·rw[Z1.1 c];exact C
 cases i
 case read=>
  cases t with
  |nil=>exact d _ p _ _
  |cons a r=>exact d _ (p.push (bQ.num _)) _ _
 case call k n=>
  simp only[cJ];split
  ·exact d _ (p.popMany n) _ _
  ·intro x l;simp only[Z2,Z6,e7,or_false] at l;rcases l with c|rfl|rfl
   ·exact z x c
   ·exact p.popMany n
   ·refine⟨?_,p.many n,fun v w=>by cases w⟩
    show uO (m[k]?.getD ⟨[],[]⟩)
    cases s:m[k]? with
    |none=>exact j6 (fun v w=>absurd w (by simp)) (fun v w=>absurd w (by simp))
    |some y=>exact B y (p8 s)
 case give=>
  simp only[cJ];intro x l;rcases Z2.1 l with c|c
  ·exact z x (List.dropLast_subset _ c)
  ·cases s:b.getLast? with
   |none=>rw[s] at c;cases c
   |some y=>
    rw[s] at c;simp at c;rw[c];exact(z y (List.mem_of_getLast? s)).push p.last
 case print=>
  simp only[cJ];split<;>exact d _ p.pop _ _
 all_goals exact d _ (BP p A) _ _
inductive dG:aC->Prop
 |leaf (a:aC) (h:a.op=[48]\/a.op=[115]\/a.op=[98,111,111,108]\/a.op=[110,97,109,101]) (hk:a.kids=[]) (ht:a.op=[115]->KP a.text):dG a
 |many (a:aC) (h:a.op=[108,105,115,116]\/a.op=[99,97,108,108]) (hk:∀k∈a.kids,dG k):dG a
 |one (a l:aC) (h:a.op=[45,120]\/a.op=[33,120]) (hk:a.kids=[l]) (hl:dG l):dG a
 |two (a l r:aC) (h:a.op=[105,110,100,101,120]\/cB a.op≠9) (hk:a.kids=[l,r]) (hl:dG l) (hr:dG r):dG a
inductive gK:aC->Prop
 |var (a t v:aC) (h:a.op=[118,97,114]) (hk:a.kids=[t,v]) (hv:dG v) (ht:t.op=[116,97,114,103,101,116]/\t.kids=[]):gK a
 |set (a:aC) (h:a.op=[115,101,116]) (hn:a.kids≠[]) (hk:∀k∈a.kids,dG k):gK a
 |if2 (a c t:aC) (h:a.op=[105,102]) (hk:a.kids=[c,t]) (hc:dG c) (ht:t.op=[98,108,111,99,107]) (htk:∀k∈t.kids,gK k):gK a
 |if3 (a c t x:aC) (h:a.op=[105,102]) (hk:a.kids=[c,t,x]) (hc:dG c) (ht:t.op=[98,108,111,99,107]) (htk:∀k∈t.kids,gK k) (hx:x.op=[98,108,111,99,107]) (hxk:∀k∈x.kids,gK k):gK a
 |whl (a c t:aC) (h:a.op=[119,104,105,108,101]) (hk:a.kids=[c,t]) (hc:dG c) (ht:t.op=[98,108,111,99,107]) (htk:∀k∈t.kids,gK k):gK a
 |ret0 (a:aC) (h:a.op=[114,101,116,117,114,110]) (hk:a.kids=[]):gK a
 |ret1 (a v:aC) (h:a.op=[114,101,116,117,114,110]) (hk:a.kids=[v]) (hv:dG v):gK a
 |print (a v:aC) (h:a.op=[112,114,105,110,116]) (hk:a.kids=[v]) (hv:dG v):gK a
 |call (a c:aC) (h:a.op=[100,111]) (hk:a.kids=[c]) (hc:dG c) (ho:c.op=[99,97,108,108]):gK a
structure KV(b:aC):Prop where
 op:b.op=[98,108,111,99,107]
 kids:∀k∈b.kids,gK k
structure qS(f:aC):Prop where
 kids:∃ps b,f.kids=ps++[b]/\(∀x∈ps,x.op=[112,97,114,97,109])/\KV b/\∀x∈ps,x.kids=[]
def bM{α:Type}(P:α->Prop)(r:bX α):Prop:=∀a q,r=.ok (a,q)->P a
def bM.err{b:Type}{P:b->Prop}{n:Nat}:bM P (.error n):=fun a q h=>by cases h
def bM.bad{c:Type}{P:c->Prop}{b:Nat}{ts:List aX}:bM P (bad ts b):=fun a q h=>by cases h
def bM.of_ok{b:Type}{P:b->Prop}{q:Nat}{a:b}(h:P a):bM P (.ok (a,q)):=fun c d e=>by cases e;exact h
def bM.take{b:Type}{P:b->Prop}{ts:List aX}{x:cE}{r:bX b}(h:bM P r):bM P (aM ts x r):=by
 cases r with
 |error l=>exact bM.err
 |ok c=>
  obtain⟨a,q⟩:=c;have:=h a q rfl;unfold aM;simp only;split
  ·exact bM.of_ok this
  ·exact bM.bad
def bM.map{b c:Type}{P:b->Prop}{Q:c->Prop}{r:bX b}{f:b->c}(h:bM P r)(d:∀a,P a->Q (f a)):bM Q (bZ f r):=by
 cases r with
 |error l=>exact bM.err
 |ok e=>obtain⟨a,q⟩:=e;exact bM.of_ok (d a (h a q rfl))
def bM.bind{b c:Type}{P:b->Prop}{Q:c->Prop}{r:bX b}{f:b->Nat->bX c}(h:bM P r)(d:∀a q,P a->bM Q (f a q)):bM Q (bR r f):=by
 cases r with
 |error l=>exact bM.err
 |ok e=>obtain⟨a,q⟩:=e;exact d a q (h a q rfl)
def eU(P:aC->Prop)(l:List aC):Prop:=∀k∈l,P k
def eU.nil{P:aC->Prop}:eU P []:=fun _ h=>by cases h
def eU.snoc{P:aC->Prop}{l:List aC}{a:aC}(h:eU P l)(c:P a):eU P (l++[a]):=fun k b=>by
 rcases Z2.1 b with b|b
 ·exact h k b
 ·rw[Z1.1 b];exact c
section
variable {ts:List aX} {E:Nat->bX aC}
def qR(ts:List aX):Prop:=∀p,(aR ts p).sort=115->KP (aR ts p).text
def qA(d:∀q,bM dG (E q)):∀(g p:Nat) (acc:List aC),eU dG acc->bM (eU dG) (dN E ts g p acc)
 |0,p,acc,_=>bM.err
 |g+1,p,acc,c=>by
  rw[dN];cases f:E p with
  |error l=>exact bM.err
  |ok e=>
   obtain⟨a,q⟩:=e;have b:=d p a q f;simp only;split
   ·exact qA d g (q+1) _ (c.snoc b)
   ·exact bM.of_ok (c.snoc b)
def pZ(a:∀q,bM dG (E q))(p:Nat)(x y:cE):bM (eU dG) (eR E ts p x y):=by
 unfold eR;split
 ·refine bM.take ?_;unfold iB;split
  ·exact bM.of_ok eU.nil
  ·exact qA a _ _ _ eU.nil
 ·exact bM.bad
def DX(b:qR ts)(c:∀q,bM dG (E q))(p:Nat):bM dG (eA E ts p):=by
 unfold eA;split
 ·rename_i h;simp at h;rcases h with h|h
  ·refine bM.of_ok (.leaf _ (Y4 (by show [UInt8.ofNat _]=_;rw[h];rfl)) rfl fun e=>?_)
   have d:[UInt8.ofNat (aR ts p).sort]=[115]:=e;rw[h] at d;exact absurd d (by decide)
  ·exact bM.of_ok (.leaf _ (Y3 (Y4 (by show [UInt8.ofNat _]=_;rw[h];rfl))) rfl fun _=>b p h)
 split
 ·exact bM.of_ok (.leaf _ (Y3 (Y3 (Y4 rfl))) rfl fun e=>by simp[aS] at e)
 split
 ·exact(c (p+1)).take
 split
 ·exact bM.map (pZ c p _ _) fun a h=>.many _ (Y4 rfl) h
 split
 ·split
  ·exact bM.map (pZ c (p+1) _ _) fun a h=>.many _ (Y3 rfl) h
  ·exact bM.of_ok (.leaf _ (Y3 (Y3 (Y3 rfl))) rfl fun e=>by simp[aS] at e)
 ·exact bM.bad
def wS(b:∀q,bM dG (E q)):∀(g:Nat) (n:aC) (p:Nat),dG n->bM dG (dC E ts g n p)
 |0,n,p,_=>bM.err
 |g+1,n,p,a=>by
  rw[dC];split
  ·have c:=(b (p+1)).take (ts:=ts) (x:=[93]);cases d:aM ts [93] (E (p+1)) with
   |error l=>exact bM.err
   |ok e=>
    obtain⟨i,q⟩:=e;exact wS b g _ q (.two _ n i (Y4 rfl) rfl a (c i q d))
  ·exact bM.of_ok a
def pX(b:qR ts)(c:∀q,bM dG (E q)):∀(g p:Nat),bM dG (eO E ts g p)
 |0,p=>bM.err
 |g+1,p=>by
  rw[eO];split
  ·exact bM.map (pX b c g (p+1)) fun a h=>.one _ a (Y4 rfl) rfl h
  split
  ·exact bM.map (pX b c g (p+1)) fun a h=>.one _ a (Y3 rfl) rfl h
  ·exact bM.bind (DX b c p) fun a q d=>wS c _ a q d
def pB{L:Nat->bX aC}{k:Nat}(b:k<9)(d:∀q,bM dG (L q)):∀(g:Nat) (n:aC) (q:Nat),dG n->bM dG (bF L ts k g n q)
 |0,n,q,_=>bM.err
 |g+1,n,q,c=>by
  rw[bF];split
  ·rename_i a;cases j:L (q+1) with
   |error l=>exact bM.err
   |ok h=>
    obtain⟨r,e⟩:=h;have i:=d _ r e j;have f:dG (aS (aR ts q).text (aR ts q).line [] [n,r]):=.two _ n r (Y3 (by simp at a;show cB (aR ts q).text≠9;rw[a.2];omega)) rfl c i
    simp only;split
    ·exact bM.of_ok f
    ·exact pB b d g _ e f
  ·exact bM.of_ok c
def qB(b:qR ts)(c:∀q,bM dG (E q)):∀(j p:Nat),bM dG (fX E ts j p)
 |0,p=>pX b c _ p
 |j+1,p=>by
  rw[fX];exact bM.bind (qB b c j p) fun a q d=>pB (by omega) (fun q=>qB b c j q) _ a q d
def BB(ts:List aX)(a:qR ts):∀(f p:Nat),bM dG (fK ts f p)
 |0,p=>bM.err
 |f+1,p=>by
  rw[fK];exact qB a (fun q=>BB ts a f q) 5 p
def rT(b:∀q,bM dG (E q)):∀(g p:Nat) (acc:List aC),eU dG acc->bM (eU dG) (eX E ts g p acc)
 |0,p,acc,_=>bM.err
 |g+1,p,acc,a=>by
  rw[eX];split
  ·have c:=(b (p+1)).take (ts:=ts) (x:=[93]);cases d:aM ts [93] (E (p+1)) with
   |error l=>exact bM.err
   |ok e=>
    obtain⟨i,q⟩:=e;exact rT b g q _ (a.snoc (c i q d))
  ·exact bM.of_ok a
def IT(b:∀q,bM dG (E q))(p:Nat):bM gK (eW E ts p):=by
 unfold eW;split
 ·split
  ·exact bM.take (bM.map (pZ b (p+1) _ _) fun a h=>.call _ _ rfl rfl (.many _ (Y3 rfl) h) rfl)
  ·refine bM.bind ((rT b _ (p+1) [] eU.nil).take) fun l q d=>?_
   exact bM.take (bM.map (b q) fun v c=>.set _ rfl (by simp[aS]) (d.snoc c))
 ·exact bM.bad
def QV{B:Nat->bX aC}(a:∀q,bM dG (E q))(h:∀q,bM KV (B q))(p:Nat):bM gK (iZ E B ts p):=by
 unfold iZ;split
 ·unfold oD;split
  ·split
   ·exact bM.take (bM.map (a (p+3)) fun v e=>.var _ _ v rfl rfl e ⟨rfl,rfl⟩)
   ·exact bM.bad
  ·exact bM.bad
 split
 ·unfold qH;refine bM.bind (a (p+1)) fun c q f=>bM.bind (h q) fun b k g=>?_
  split
  ·exact bM.map (h (k+1)) fun d i=>.if3 _ c b d rfl rfl f g.op g.kids i.op i.kids
  ·exact bM.of_ok (.if2 _ c b rfl rfl f g.op g.kids)
 split
 ·unfold kE;exact bM.bind (a (p+1)) fun c q f=>bM.map (h q) fun b j=>.whl _ c b rfl rfl f j.op j.kids
 split
 ·unfold gX;split
  ·exact bM.of_ok (.ret0 _ rfl rfl)
  ·exact bM.take (bM.map (a (p+1)) fun v e=>.ret1 _ v rfl rfl e)
 split
 ·unfold iR;exact bM.take (bM.map (a (p+1)) fun v e=>.print _ v rfl rfl e)
 ·exact IT a p
def pC{S:Nat->bX aC}(b:∀q,bM gK (S q)):∀(g p:Nat) (acc:List aC),eU gK acc->bM (eU gK) (dP S ts g p acc)
 |0,p,acc,_=>bM.err
 |g+1,p,acc,a=>by
  rw[dP];split
  ·exact bM.of_ok a
  ·cases c:S p with
   |error l=>exact bM.err
   |ok d=>
    obtain⟨s,q⟩:=d;exact pC b g q _ (a.snoc (b p s q c))
def wT(a:∀q,bM dG (E q)):∀(f p:Nat),bM KV (iV E ts f p)
 |0,p=>bM.err
 |f+1,p=>by
  rw[iV];split
  ·exact bM.map (bM.take (pC (fun q=>QV a (fun q=>wT a f q) q) _ (p+1) [] eU.nil)) fun l h=>⟨rfl,h⟩
  ·exact bM.bad
def pA:∀(g p:Nat) (acc:List aC),eU (fun x=>x.op=[112,97,114,97,109]/\x.kids=[]) acc->bM (eU fun x=>x.op=[112,97,114,97,109]/\x.kids=[]) (cX ts g p acc)
 |0,p,acc,_=>bM.err
 |g+1,p,acc,b=>by
  have a:eU (fun x=>x.op=[112,97,114,97,109]/\x.kids=[]) (acc++[aS [112,97,114,97,109] (aR ts p).line (aR ts p).text []]):=b.snoc ⟨rfl,rfl⟩
  rw[cX];split
  ·split
   ·exact pA g (p+2) _ a
   ·exact bM.of_ok a
  ·exact bM.bad
def QW{B:Nat->bX aC}(e:∀q,bM KV (B q))(p:Nat):bM qS (jV B ts p):=by
 unfold jV;split
 ·split
  ·split
   ·have a:bM (eU fun x=>x.op=[112,97,114,97,109]/\x.kids=[]) (gZ ts (p+3)):=by
     unfold gZ;refine bM.take ?_;split
     ·exact bM.of_ok eU.nil
     ·exact pA _ (p+3) [] eU.nil
    exact bM.bind a fun l q d=>bM.map (e q) fun b f=>⟨l,b,rfl,fun x c=>(d x c).1,f,fun x c=>(d x c).2⟩
   ·exact bM.bad
  ·exact bM.bad
 ·exact bM.bad
def pY{F:Nat->bX aC}(b:∀q,bM qS (F q)):∀(g p:Nat) (acc:List aC),eU qS acc->bM (eU qS) (eY F ts g p acc)
 |0,p,acc,_=>bM.err
 |g+1,p,acc,a=>by
  rw[eY];split
  ·exact bM.of_ok a
  ·cases d:F p with
   |error l=>exact bM.err
   |ok c=>
    obtain⟨s,q⟩:=c;exact pY b g q _ (a.snoc (b p s q d))
end
def cV.split{a b:cE}{c:UInt8}(G:c.toNat<128)(h:cV (a++c::b)):cV a/\cV b:=by
 generalize w:a++c::b=l at h;induction h generalizing a with
 |nil=>simp at w
 |cons o r F=>
  subst w;cases a with
  |nil=>
   have e:bG ([]++c::b)=1:=by simp[bG,G]
   rw[e] at r;exact⟨.nil,by simpa using r⟩
  |cons x a=>
   have q:bG (x::a++c::b)<=(x::a).length:=by
    refine Nat.le_of_not_lt fun d=>?_
    have D:∀i g j,128<=g->i=a.length+1->dI (x::a++c::b) i g j=false:=fun i g j s p=>by
     subst p;have:(x::a++c::b)[a.length+1]?=some c:=by simp
     unfold dI;rw[this];simp;omega
    have f:∀i g j,128<=g->dI (x::a++c::b) i g j=true->i≠a.length+1:=fun i g j s t e=>by rw[D i g j s e] at t;cases t
    unfold bG at o d;rw[Y9] at d;simp only[l9,List.getElem?_cons_zero] at o d f;have k:∀n m:Nat,128<=m->128<=(if x.toNat=n then m else 128):=fun n m h=>by split<;>omega
    by_cases u:x.toNat<128
    ·rw[if_pos u] at d;omega
    rw[if_neg u] at d;by_cases v:194<=x.toNat/\x.toNat<=223
    ·rw[if_pos v] at d;by_cases h:dI (x::(a++c::b)) 1 128 191=true
     ·rw[if_pos h] at d;have:=f _ _ _ (by omega) h;omega
     ·rw[if_neg h] at d;omega
    rw[if_neg v] at d;by_cases y:224<=x.toNat/\x.toNat<=239
    ·rw[if_pos y] at d;by_cases h:(dI (x::(a++c::b)) 1 (if x.toNat=224 then 160 else 128) (if x.toNat=237 then 159 else 191) && dI (x::(a++c::b)) 2 128 191)=true
     ·rw[if_pos h] at d;rw[j3] at h;have C:=f _ _ _ (k _ _ (by omega)) h.1
      have H:=f _ _ _ (by omega) h.2
      omega
     ·rw[if_neg h] at d;omega
    rw[if_neg y] at d;by_cases z:240<=x.toNat/\x.toNat<=244
    ·rw[if_pos z] at d;by_cases h:(dI (x::(a++c::b)) 1 (if x.toNat=240 then 144 else 128) (if x.toNat=244 then 143 else 191) && dI (x::(a++c::b)) 2 128 191 && dI (x::(a++c::b)) 3 128 191)=true
     ·rw[if_pos h] at d;rw[j3,j3] at h;have C:=f _ _ _ (k _ _ (by omega)) h.1.1
      have H:=f _ _ _ (by omega) h.1.2
      have I:=f _ _ _ (by omega) h.2
      omega
     ·rw[if_neg h] at d;omega
    ·rw[if_neg z] at d;omega
   have B:(x::a++c::b).drop (bG (x::a++c::b))=(x::a).drop (bG (x::a++c::b))++c::b:=by rw[List.drop_append_of_le_length q]
   obtain⟨A,E⟩:=F B.symm;refine⟨?_,E⟩;have e:bG (x::a)=bG (x::a++c::b):=mY o fun i j=>(l7 (by omega)).symm
   exact .cons (by rw[e];exact o) (by rw[e];exact A)
def oU:∀(f:Nat) (l:cE) (p:Nat),l.length<=f->dU f l p=none->cV l
 |0,l,_,h,_=>by
  obtain rfl:l=[]:=i7 (by omega)
  exact .nil
 |f+1,l,p,h,a=>by
  rw[dU] at a;split at a
  ·rename_i c;obtain rfl:l=[]:=i7 c;exact .nil
  split at a
  ·cases a
  rename_i b;exact .cons b (oU f _ _ (by rw[o7];omega) a)
def LA(f:Nat):∀(b l:cE) (ts:List aX),eP f b l=.ok ts->cV (b++l)->∀t∈ts,t.sort=115->KP t.text:=by
 induction f with
 |zero=>intro b l ts h;cases h
 |succ f w=>
  intro b l ts h q t e a;by_cases g:l.length=0
  ·rw[lX _ _ _ g] at h;cases h;rw[Z1.1 e] at a;cases a
  ·cases d:(cA l).ok
   ·rw[lY _ _ _ g d] at h;cases h
   ·rw[lO _ _ _ g d _ rfl] at h;generalize x:(cA l).size+blankL l.length (l.drop (cA l).size)=m at h;cases j:eP f (b++l.take m) (l.drop m) with
    |error n=>rw[j] at h;cases h
    |ok v=>
     rw[j] at h;cases h;rcases Z6.1 e with rfl|e
     ·cases l with
      |nil=>simp at g
      |cons c r=>
       rw[cA] at a d ⊢
       by_cases o:(eI c || fI c)=true
       ·rw[if_pos o] at a;exfalso;unfold gP at a;split at a
        ·simp only at a;split at a<;>omega
        ·simp at a
       rw[if_neg o] at a d ⊢
       by_cases k:c.toNat=34
       ·rw[if_pos k] at d ⊢
        simp only[nE,j3,decide_eq_true_eq] at d;refine⟨by simp only[nE,o9];omega,?_⟩
        have u:r=r.take (bL fH r)++34::r.drop (bL fH r+1):=by
         obtain⟨i,s⟩:=j4.1 d.1;conv=>lhs;rw[<-l8 (bL fH r) r,aq_ i,s]
        have p:=(q.split (by omega)).2
        rw[u] at p;exact(p.split (by decide)).1
       ·rw[if_neg k] at a;exfalso;unfold gO at a;split at a<;>simp at a
     ·exact w _ _ v j (by rw[m8,l8];exact q) t e a
def DB{l:cE}{ts:List aX}(h:gM l=.ok ts)(c:dU l.length l 0=none):qR ts:=fun p a=>by
 unfold aR at a ⊢
 cases b:ts[p]? with
 |none=>rw[b] at a;cases a
 |some t=>
  rw[b] at a;exact LA _ _ _ _ h (by rw[l8];exact oU _ _ _ dH c) t (p8 b) a
def uA{l:cE}{ks:List aC}(h:dA l=.ok ks):∀f∈ks,qS f:=by
 unfold dA at h;split at h
 ·cases h
 split at h
 ·cases h
 rename_i a;split at h
 ·cases h
 rename_i c d;split at h
 ·cases h
 rename_i q b;cases h;exact pY (fun q=>QW (fun e=>wT (fun q=>BB c (DB d a) _ q) _ e) q) _ _ _ eU.nil _ _ b
def oO(s:aZ)(l k:Nat)(h:s.kind≠0):(s.found l k).kind≠0:=by unfold aZ.found;rw[if_neg h];exact h
def pD(s:aZ)(n:aC)(h:s.kind≠0):(declaresL s n).kind≠0:=by
 unfold declaresL;split
 ·exact oO _ _ _ h
 ·exact h
def MX(fs:List aC)(a:Bool)(s:aZ)(n:aC)(h:s.kind≠0):(cG fs a s n).kind≠0:=by
 unfold cG eJ;repeat' split
 all_goals first|exact oO _ _ _ h|exact h
def gW{f:aZ->aC->aZ}(a:∀s k,s.kind≠0->(f s k).kind≠0):∀(l:List aC) (s:aZ),s.kind≠0->(l.foldl f s).kind≠0
 |[],_,h=>h
 |k::l,s,h=>gW a l _ (a s k h)
def fM(fs:List aC)(a:Bool):∀(d:Nat) (n:aC) (s:aZ),s.kind≠0->(aN fs a d n s).kind≠0
 |0,_,_,h=>h
 |d+1,n,s,h=>by
  rw[aN];split
  ·split
   ·exact fM fs a d _ _ (pD s _ h)
   ·exact h
  ·have b:(n.kids.foldl (fun s k=>aN fs a d k s) (cG fs a s n)).kind≠0:=gW (fun s k c=>fM fs a d k s c) _ _ (MX fs a s n h)
   simp only;split<;>exact b
def ExOk.up{fs:List aC}{b:Bool}{seen:cO}:∀{d e:Nat} {a:aC},ExOk fs b seen d a->d<=e->ExOk fs b seen e a
 |0,_,_,h,_=>h.elim
 |d+1,0,_,_,h=>by omega
 |d+1,e+1,a,h,m=>by
  have g:∀k,ExOk fs b seen d k->ExOk fs b seen e k:=fun k c=>ExOk.up c (by omega)
  rcases h with h|h|⟨f,c⟩|⟨f,l,r,c,i,j⟩|⟨f,l,c,i⟩|⟨f,c,n⟩|⟨f,l,r,c,i,j⟩
  ·exact Y4 h
  ·exact Y3 (Y4 h)
  ·exact Y3 (Y3 (Y4 ⟨f,fun k h=>g k (c k h)⟩))
  ·exact Y3 (Y3 (Y3 (Y4 ⟨f,l,r,c,g l i,g r j⟩)))
  ·exact Y3 (Y3 (Y3 (Y3 (Y4 ⟨f,l,c,g l i⟩))))
  ·exact Y3 (Y3 (Y3 (Y3 (Y3 (Y4 ⟨f,fun k h=>g k (c k h),n⟩)))))
  ·exact Y3 (Y3 (Y3 (Y3 (Y3 (Y3 ⟨f,l,r,c,g l i,g r j⟩)))))
def StsOk.up{S b:cO->aC->Prop}(h:∀s a,S s a->b s a):∀{l:List aC} {seen:cO},StsOk S seen l->StsOk b seen l
 |[],_,_=>trivial
 |_::_,_,c=>⟨h _ _ c.1,StsOk.up h c.2⟩
def dS.up{fs:List aC}:∀{d e:Nat} {seen:cO} {a:aC},dS fs d seen a->d<=e->dS fs e seen a
 |0,_,_,_,h,_=>h.elim
 |d+1,0,_,_,_,h=>by omega
 |d+1,e+1,seen,a,h,w=>by
  have j:∀k,ExOk fs false seen d k->ExOk fs false seen e k:=fun k f=>f.up (by omega)
  have i:∀l,StsOk (dS fs d) seen l->StsOk (dS fs e) seen l:=fun l z=>z.up fun s a h=>dS.up h (by omega)
  rcases h with ⟨g,o,t,v,f,m,p⟩|⟨g,p,n,f⟩|⟨g,c,t,f,q,u⟩|⟨g,c,b,f,q,o⟩|⟨g,f|⟨v,f,m⟩⟩|⟨g,v,f,m⟩|⟨g,v,f,m⟩
  ·exact Y4 ⟨g,o,t,v,f,j v m,p⟩
  ·exact Y3 (Y4 ⟨g,p,n,fun k h=>j k (f k h)⟩)
  ·exact Y3 (Y3 (Y4 ⟨g,c,t,f.imp id fun ⟨x,y,r⟩=>⟨x,y,i _ r⟩,j c q,i _ u⟩))
  ·exact Y3 (Y3 (Y3 (Y4 ⟨g,c,b,f,j c q,i _ o⟩)))
  ·exact Y3 (Y3 (Y3 (Y3 (Y4 ⟨g,Y4 f⟩))))
  ·exact Y3 (Y3 (Y3 (Y3 (Y4 ⟨g,Y3 ⟨v,f,j v m⟩⟩))))
  ·exact Y3 (Y3 (Y3 (Y3 (Y3 (Y4 ⟨g,v,f,j v m⟩)))))
  ·exact Y3 (Y3 (Y3 (Y3 (Y3 (Y3 ⟨g,v,f,j v m⟩)))))
def hP{s:aZ}{l k:Nat}(a:k≠0)(h:(s.found l k).kind=0):False:=by
 unfold aZ.found at h;split at h
 ·exact a h
 ·rename_i b;exact b h
def sZ{f:aC}{a:cE}:∀{fs:List aC},dO fs a=some f->fs[dD fs a]?=some f
 |[],h=>by simp[dO] at h
 |x::l,h=>by
  unfold dO dD at*;rw[List.find?_cons] at h;rw[List.findIdx_cons];cases b:(x.text==a) with
  |true=>rw[b] at h;simp at h;simp[h]
  |false=>
   rw[b] at h;simp only[cond_false,List.getElem?_cons_succ];exact sZ (fs:=l) h
def mK(fs:List aC)(alone:Bool)(d:Nat)(a:aC):Prop:=
 ∀sn,(aN fs alone d a ⟨sn,0,0⟩).kind=0->aN fs alone d a ⟨sn,0,0⟩=⟨sn,0,0⟩/\ExOk fs alone sn.reverse d a
def jL{fs:List aC}{b:Bool}{d:Nat}:∀(l:List aC) (c:cO),(∀k∈l,mK fs b d k)->(l.foldl (fun s k=>aN fs b d k s) ⟨c,0,0⟩).kind=0->
 l.foldl (fun s k=>aN fs b d k s) ⟨c,0,0⟩=⟨c,0,0⟩/\∀k∈l,ExOk fs b c.reverse d k
 |[],c,_,_=>⟨rfl,fun k e=>by cases e⟩
 |a::l,c,h,f=>by
  rw[z7] at f ⊢
  have j:(aN fs b d a ⟨c,0,0⟩).kind=0:=j5 fun g=>gW (fun s k p=>fM fs b d k s p) l _ g f
  obtain⟨n,i⟩:=h a (j0 ..) c j;rw[n] at f ⊢
  obtain⟨o,m⟩:=jL l c (fun k e=>h k (b8 _ e)) f
  refine⟨o,fun k e=>?_⟩
  rcases Z6.1 e with rfl|e
  ·exact i
  ·exact m k e
def fS{fs:List aC}{a:Bool}{d:Nat}{n:aC}{s:aZ}(c:n.op≠[118,97,114])(b:n.op≠[98,108,111,99,107]):aN fs a (d+1) n s=n.kids.foldl (fun s k=>aN fs a d k s) (cG fs a s n):=by
 rw[aN];rw[if_neg (by simpa using c)]
 simp only;rw[if_neg (by simpa using b)]
def look_plain{fs:List aC}{a:Bool}{n:aC}{s:aZ}(c:n.op≠[115,101,116])(b:n.op≠[110,97,109,101])(d:n.op≠[99,97,108,108]):cG fs a s n=s:=by
 unfold cG;rw[if_neg (by simp[c,b]),if_neg (by simpa using d)]
def oA{fs:List aC}{b:Bool}(p:∀f∈fs,f.kids≠[])(t:b=true->fs=[]):∀(d:Nat) (a:aC),dG a->fF d a->mK fs b d a
 |0,_,_,h=>h.elim
 |d+1,a,K,H=>by
  intro w n
  have two:∀(l r:aC),a.kids=[l,r]->dG l->dG r->∀k∈a.kids,mK fs b d k:=fun l r j D E k c=>by
   have x:=H k c;rw[j] at c;rcases Z6.1 c with rfl|c
   ·exact oA p t d _ D x
   ·obtain rfl:=Z1.1 c;exact oA p t d _ E x
  have C:a.op≠[118,97,114]/\a.op≠[98,108,111,99,107]:=by
   cases K with
   |leaf _ h=>rcases h with h|h|h|h<;>rw[h]<;>decide
   |many _ h=>rcases h with h|h<;>rw[h]<;>decide
   |one _ l h=>rcases h with h|h<;>rw[h]<;>decide
   |two _ l r h=>
    rcases h with h|h
    ·rw[h];decide
    ·exact⟨fun e=>by rw[e] at h;exact h (by decide),fun e=>by rw[e] at h;exact h (by decide)⟩
  rw[fS C.1 C.2] at n ⊢
  have i:(cG fs b ⟨w,0,0⟩ a).kind=0:=j5 fun A=>gW (fun s k N=>fM fs b d k s N) a.kids _ A n
  cases K with
  |leaf _ h j=>
   rw[j] at n ⊢
   simp only[ax_] at n ⊢
   rcases h with h|h|h|h
   ·exact⟨look_plain (by rw[h];decide) (by rw[h];decide) (by rw[h];decide),Y4 ⟨Y4 h,j⟩⟩
   ·exact⟨look_plain (by rw[h];decide) (by rw[h];decide) (by rw[h];decide),Y4 ⟨Y3 (Y4 h),j⟩⟩
   ·exact⟨look_plain (by rw[h];decide) (by rw[h];decide) (by rw[h];decide),Y4 ⟨Y3 (Y3 h),j⟩⟩
   ·unfold cG at i ⊢
    rw[if_pos (by simp[h])] at i ⊢
    split at i
    ·rename_i L;rw[if_pos L];exact⟨rfl,Y3 (Y4 ⟨h,j,by simpa using L⟩)⟩
    ·exact(hP (by decide) i).elim
  |many _ h j=>
   have F:∀k∈a.kids,mK fs b d k:=fun k c=>oA p t d k (j k c) (H k c)
   rcases h with h|h
   ·rw[look_plain (by rw[h];decide) (by rw[h];decide) (by rw[h];decide)] at n ⊢
    obtain⟨B,u⟩:=jL a.kids w F n;exact⟨B,Y3 (Y3 (Y4 ⟨h,u⟩))⟩
   ·have e:cG fs b ⟨w,0,0⟩ a=eJ fs b ⟨w,0,0⟩ a:=by unfold cG;rw[if_neg (by simp[h]),if_pos (by simp[h])]
    rw[e] at n i ⊢
    unfold eJ at n i ⊢
    split at i
    ·exact(hP (by decide) i).elim
    rename_i y;rw[if_neg y] at n ⊢
    split at i
    ·exact(hP (by decide) i).elim
    rename_i m;rw[if_neg m] at n ⊢
    obtain⟨B,u⟩:=jL a.kids w F n;refine⟨B,Y3 (Y3 (Y3 (Y3 (Y3 (Y4 ⟨h,u,?_⟩)))))⟩;simp only[ne_eq,Decidable.not_not] at m;unfold iO at y m;by_cases o:a.text=[108,101,110]
    ·rw[if_pos (by simp[o])] at m
     exact Y4 ⟨o,by omega⟩
    rw[if_neg (by simp[o])] at y m
    by_cases g:a.text=[114,101,97,100]/\b=false
    ·rw[if_pos (by simp[g])] at m
     exact Y3 (Y4 ⟨g.1,g.2,by omega⟩)
    have v:¬((a.text==[114,101,97,100] && !b)=true):=by
     intro J;simp at J;exact g J
    rw[if_neg v] at y m;cases G:dO fs a.text with
    |none=>rw[G] at y;simp at y
    |some f=>
     rw[G] at y m;simp only at y m;have q:f∈fs:=r9 G;have A:=p f q;have I:0<f.kids.length:=v7.2 A
     have z:b=false:=by
      cases b with
      |false=>rfl
      |true=>rw[t rfl] at q;cases q
     refine Y3 (Y3 ⟨o,fun E=>g ⟨E,z⟩,z,?_⟩)
     unfold fW;rw[sZ G];simp;omega
  |one _ l h j D=>
   have F:∀k∈a.kids,mK fs b d k:=fun k c=>by
    have x:=H k c;rw[j] at c;obtain rfl:=Z1.1 c;exact oA p t d _ D x
   rw[look_plain (by rcases h with h|h<;>rw[h]<;>decide) (by rcases h with h|h<;>rw[h]<;>decide) (by rcases h with h|h<;>rw[h]<;>decide)] at n ⊢
   obtain⟨B,u⟩:=jL a.kids w F n;exact⟨B,Y3 (Y3 (Y3 (Y3 (Y4 ⟨h,l,j,u l (by rw[j];simp)⟩))))⟩
  |two _ l r h j D E=>
   have M:cG fs b ⟨w,0,0⟩ a=⟨w,0,0⟩:=by
    rcases h with h|h
    ·exact look_plain (by rw[h];decide) (by rw[h];decide) (by rw[h];decide)
    ·exact look_plain (fun e=>by rw[e] at h;exact h (by decide)) (fun e=>by rw[e] at h;exact h (by decide)) (fun e=>by rw[e] at h;exact h (by decide))
   rw[M] at n ⊢
   obtain⟨B,u⟩:=jL a.kids w (two l r j D E) n;refine⟨B,?_⟩;rcases h with h|h
   ·exact Y3 (Y3 (Y3 (Y4 ⟨h,l,r,j,u l (by rw[j];simp),u r (by rw[j];simp)⟩)))
   ·exact Y3 (Y3 (Y3 (Y3 (Y3 (Y3 ⟨h,l,r,j,u l (by rw[j];simp),u r (by rw[j];simp)⟩)))))
def rG(fs:List aC)(d:Nat)(a:aC):Prop:=
 ∀sn,sn.length+bY d a<=40000->(aN fs false d a ⟨sn,0,0⟩).kind=0->∃sn',aN fs false d a ⟨sn,0,0⟩=⟨sn',0,0⟩/\sn'.reverse=cU sn.reverse a/\dS fs d sn.reverse a/\sn'.length<=sn.length+bY d a/\sn=sn'.take sn.length
def wO{fs:List aC}{d:Nat}:∀(l:List aC) (b:cO),(∀k∈l,rG fs d k)->b.length+(l.map (bY d)).sum<=40000->(l.foldl (fun s k=>aN fs false d k s) ⟨b,0,0⟩).kind=0->
 ∃c,l.foldl (fun s k=>aN fs false d k s) ⟨b,0,0⟩=⟨c,0,0⟩/\StsOk (dS fs d) b.reverse l/\c.length<=b.length+(l.map (bY d)).sum/\b=c.take b.length
 |[],b,_,_,_=>⟨b,rfl,trivial,by simp,by simp⟩
 |a::l,b,h,t,f=>by
  rw[z7] at f ⊢
  simp only[b9,d9] at t ⊢
  have o:(aN fs false d a ⟨b,0,0⟩).kind=0:=j5 fun g=>gW (fun s k v=>fM fs false d k s v) l _ g f
  obtain⟨i,q,n,u,z,m⟩:=h a (j0 ..) b (by omega) o
  rw[q] at f ⊢
  obtain⟨j,w,r,A,x⟩:=wO l i (fun k p=>h k (b8 _ p)) (by omega) f
  refine⟨j,w,⟨u,by rw[<-n];exact r⟩,by omega,?_⟩
  have y:b.length<=i.length:=by have:=congrArg List.length m;simp only[o9] at this;omega
  have e:i.take b.length=j.take b.length:=by
   conv=>lhs;rw[x]
   rw[ag_];congr 1;omega
  rw[<-e];exact m
def CZ{fs:List aC}{d:Nat}{b:aC}{a c:cO}(e:b.op=[98,108,111,99,107])(h:b.kids.foldl (fun s k=>aN fs false d k s) ⟨a,0,0⟩=⟨c,0,0⟩)(f:a=c.take a.length):aN fs false (d+1) b ⟨a,0,0⟩=⟨a,0,0⟩:=by
 rw[aN,if_neg (by simp[e])]
 have:cG fs false ⟨a,0,0⟩ b=⟨a,0,0⟩:=look_plain (by rw[e];decide) (by rw[e];decide) (by rw[e];decide)
 simp only[this,h];rw[if_pos (by simp[e])]
 congr 1
 exact f.symm
def sK{fs:List aC}{d:Nat}{b:aC}{c:cO}(a:b.op=[98,108,111,99,107])(h:(aN fs false (d+1) b ⟨c,0,0⟩).kind=0):(b.kids.foldl (fun s k=>aN fs false d k s) ⟨c,0,0⟩).kind=0:=by
 rw[aN,if_neg (by simp[a])] at h
 have:cG fs false ⟨c,0,0⟩ b=⟨c,0,0⟩:=look_plain (by rw[a];decide) (by rw[a];decide) (by rw[a];decide)
 simp only[this] at h;rw[if_pos (by simp[a])] at h
 exact h
def jW{fs:List aC}{d:Nat}{b:aC}{a:cO}(c:b.op=[98,108,111,99,107])(j:∀k∈b.kids,rG fs d k)(e:a.length+bY (d+1) b<=40000)(h:(aN fs false (d+1) b ⟨a,0,0⟩).kind=0):
 aN fs false (d+1) b ⟨a,0,0⟩=⟨a,0,0⟩/\StsOk (dS fs d) a.reverse b.kids:=by
 rw[bY] at e;obtain⟨l,i,f,m,g⟩:=wO b.kids a j (by omega) (sK c h)
 exact⟨CZ c i g,f⟩
def KY{fs:List aC}{d:Nat}{a x y:aC}{s:aZ}(b:a.kids=[x,y])(f:a.op≠[118,97,114])(e:a.op≠[98,108,111,99,107])(c:cG fs false s a=s):aN fs false (d+1) a s=aN fs false d y (aN fs false d x s):=by
 rw[fS f e,c,b];rfl
def ZL{fs:List aC}{d:Nat}{a x y z:aC}{s:aZ}(b:a.kids=[x,y,z])(f:a.op≠[118,97,114])(e:a.op≠[98,108,111,99,107])(c:cG fs false s a=s):aN fs false (d+1) a s=aN fs false d z (aN fs false d y (aN fs false d x s)):=by
 rw[fS f e,c,b];rfl
def FD{d:Nat}{a k:aC}(h:k∈a.kids):bY d k+1<=bY (d+1) a:=by
 rw[bY]
 have:∀l:List aC,k∈l->bY d k<=(l.map (bY d)).sum:=by
  intro l;induction l with
  |nil=>intro h;cases h
  |cons x l b=>
   intro h;simp only[b9,d9];rcases Z6.1 h with rfl|h
   ·omega
   ·have:=b h;omega
 have:=this _ h;omega
def FI{fs:List aC}(J:∀f∈fs,f.kids≠[]):∀(d:Nat) (a:aC),gK a->fF d a->rG fs d a
 |0,_,_,h=>h.elim
 |1,a,U,L=>by
  have o:∀k∈a.kids,False:=fun k b=>L k b
  intro g W j;cases U with
  |var _ t v h b A=>exact(o t (by rw[b];simp)).elim
  |set _ h T b=>cases G:a.kids with|nil=>exact(T G).elim|cons x l=>exact(o x (by rw[G];simp)).elim
  |if2 _ c t h b=>exact(o c (by rw[b];simp)).elim
  |if3 _ c t x h b=>exact(o c (by rw[b];simp)).elim
  |whl _ c t h b=>exact(o c (by rw[b];simp)).elim
  |ret1 _ v h b=>exact(o v (by rw[b];simp)).elim
  |print _ v h b=>exact(o v (by rw[b];simp)).elim
  |call _ c h b=>exact(o c (by rw[b];simp)).elim
  |ret0 _ h b=>
   have n:cG fs false ⟨g,0,0⟩ a=⟨g,0,0⟩:=look_plain (by rw[h];decide) (by rw[h];decide) (by rw[h];decide)
   refine⟨g,by rw[fS (by rw[h];decide) (by rw[h];decide),n,b];rfl,by unfold cU;rw[if_neg (by rw[h];decide)],?_,by omega,by simp⟩
   exact Y3 (Y3 (Y3 (Y3 (Y4 ⟨h,Y4 b⟩))))
 |d+2,a,U,L=>by
  intro g W j;have p:∀k,k∈a.kids->dG k->mK fs false (d+1) k:=fun k b Z=>oA J (fun h=>by cases h) (d+1) k Z (L k b)
  have z:∀k,k∈a.kids->(∀x∈k.kids,gK x)->∀x∈k.kids,rG fs d x:=fun k b S x M=>FI J d x (S x M) (L k b x M)
  have y:∀k,k∈a.kids->g.length+bY (d+1) k<=40000:=fun k b=>by have:bY (d+1) k+1<=bY (d+2) a:=FD (d:=d+1) b;omega
  have i:a.op≠[118,97,114]->g.reverse=cU g.reverse a:=fun h=>by unfold cU;rw[if_neg h]
  cases U with
  |var _ t v h b A=>
   have e:aN fs false (d+2) a ⟨g,0,0⟩={ aN fs false (d+1) v (declaresL ⟨g,0,0⟩ t) with seen:=(aN fs false (d+1) v (declaresL ⟨g,0,0⟩ t)).seen++[t.text] }:=by
    rw[aN,if_pos (by simp[h]),b]
   rw[e] at j ⊢
   have D:(declaresL ⟨g,0,0⟩ t).kind=0:=j5 fun m=>fM fs false (d+1) v _ m j
   obtain⟨N,O⟩:declaresL ⟨g,0,0⟩ t=⟨g,0,0⟩/\t.text∉g:=by
    unfold declaresL at D ⊢
    split at D
    ·exact(hP (by decide) D).elim
    ·rename_i P;rw[if_neg P];simp at P;exact⟨rfl,P.2⟩
   rw[N] at j ⊢
   obtain⟨r,q⟩:=p v (by rw[b];simp) A g j
   rw[r];have X:bY (d+1) v+1<=bY (d+2) a:=FD (d:=d+1) (a:=a) (k:=v) (by rw[b];simp)
   refine⟨g++[t.text],rfl,?_,Y4 ⟨h,by simp;omega,t,v,b,q,by simpa using O⟩,by simp;omega,by simp⟩
   unfold cU;rw[if_pos h,b];simp
  |set _ h T b=>
   rw[fS (by rw[h];decide) (by rw[h];decide)] at j ⊢
   have w:(cG fs false ⟨g,0,0⟩ a).kind=0:=j5 fun m=>gW (fun s k S=>fM fs false (d+1) k s S) a.kids _ m j
   have n:cG fs false ⟨g,0,0⟩ a=⟨g,0,0⟩/\a.text∈g:=by
    unfold cG at w ⊢
    rw[if_pos (by simp[h])] at w ⊢
    split at w
    ·rename_i B;rw[if_pos B];exact⟨rfl,by simpa using B⟩
    ·exact(hP (by decide) w).elim
   rw[n.1] at j ⊢
   obtain⟨r,q⟩:=jL a.kids g (fun k H=>p k H (b k H)) j
   exact⟨g,r,i (by rw[h];decide),Y3 (Y4 ⟨h,by simpa using n.2,T,q⟩),by omega,by simp⟩
  |if2 _ c t h b B F u=>
   have n:cG fs false ⟨g,0,0⟩ a=⟨g,0,0⟩:=look_plain (by rw[h];decide) (by rw[h];decide) (by rw[h];decide)
   rw[KY b (by rw[h];decide) (by rw[h];decide) n] at j ⊢
   have E:(aN fs false (d+1) c ⟨g,0,0⟩).kind=0:=j5 fun m=>fM fs false (d+1) t _ m j
   obtain⟨r,q⟩:=p c (by rw[b];simp) B g E
   rw[r] at j ⊢
   obtain⟨K,I⟩:=jW F (z t (by rw[b];simp) u) (y t (by rw[b];simp)) j
   exact⟨g,K,i (by rw[h];decide),Y3 (Y3 (Y4 ⟨h,c,t,Y4 b,q,I.up fun s a h=>h.up (by omega)⟩)),by omega,by simp⟩
  |if3 _ c t x h b B F u M Q=>
   have n:cG fs false ⟨g,0,0⟩ a=⟨g,0,0⟩:=look_plain (by rw[h];decide) (by rw[h];decide) (by rw[h];decide)
   rw[ZL b (by rw[h];decide) (by rw[h];decide) n] at j ⊢
   have C:(aN fs false (d+1) t (aN fs false (d+1) c ⟨g,0,0⟩)).kind=0:=j5 fun m=>fM fs false (d+1) x _ m j
   have E:(aN fs false (d+1) c ⟨g,0,0⟩).kind=0:=j5 fun m=>fM fs false (d+1) t _ m C
   obtain⟨r,q⟩:=p c (by rw[b];simp) B g E
   rw[r] at j C ⊢
   obtain⟨K,I⟩:=jW F (z t (by rw[b];simp) u) (y t (by rw[b];simp)) C
   rw[K] at j ⊢
   obtain⟨V,Y⟩:=jW M (z x (by rw[b];simp) Q) (y x (by rw[b];simp)) j
   exact⟨g,V,i (by rw[h];decide),Y3 (Y3 (Y4 ⟨h,c,t,Y3 ⟨x,b,Y.up fun s a h=>h.up (by omega)⟩,q,I.up fun s a h=>h.up (by omega)⟩)),by omega,by simp⟩
  |whl _ c t h b B F u=>
   have n:cG fs false ⟨g,0,0⟩ a=⟨g,0,0⟩:=look_plain (by rw[h];decide) (by rw[h];decide) (by rw[h];decide)
   rw[KY b (by rw[h];decide) (by rw[h];decide) n] at j ⊢
   have E:(aN fs false (d+1) c ⟨g,0,0⟩).kind=0:=j5 fun m=>fM fs false (d+1) t _ m j
   obtain⟨r,q⟩:=p c (by rw[b];simp) B g E
   rw[r] at j ⊢
   obtain⟨K,I⟩:=jW F (z t (by rw[b];simp) u) (y t (by rw[b];simp)) j
   exact⟨g,K,i (by rw[h];decide),Y3 (Y3 (Y3 (Y4 ⟨h,c,t,b,q,I.up fun s a h=>h.up (by omega)⟩))),by omega,by simp⟩
  |ret0 _ h b=>
   have n:cG fs false ⟨g,0,0⟩ a=⟨g,0,0⟩:=look_plain (by rw[h];decide) (by rw[h];decide) (by rw[h];decide)
   refine⟨g,by rw[fS (by rw[h];decide) (by rw[h];decide),n,b];rfl,i (by rw[h];decide),?_,by omega,by simp⟩
   exact Y3 (Y3 (Y3 (Y3 (Y4 ⟨h,Y4 b⟩))))
  |ret1 _ v h b A=>
   have n:cG fs false ⟨g,0,0⟩ a=⟨g,0,0⟩:=look_plain (by rw[h];decide) (by rw[h];decide) (by rw[h];decide)
   rw[fS (by rw[h];decide) (by rw[h];decide),n,b] at j ⊢
   simp only[z7,ax_] at j ⊢
   obtain⟨r,q⟩:=p v (by rw[b];simp) A g j
   exact⟨g,r,i (by rw[h];decide),Y3 (Y3 (Y3 (Y3 (Y4 ⟨h,Y3 ⟨v,b,q⟩⟩)))),by omega,by simp⟩
  |print _ v h b A=>
   have n:cG fs false ⟨g,0,0⟩ a=⟨g,0,0⟩:=look_plain (by rw[h];decide) (by rw[h];decide) (by rw[h];decide)
   rw[fS (by rw[h];decide) (by rw[h];decide),n,b] at j ⊢
   simp only[z7,ax_] at j ⊢
   obtain⟨r,q⟩:=p v (by rw[b];simp) A g j
   exact⟨g,r,i (by rw[h];decide),Y3 (Y3 (Y3 (Y3 (Y3 (Y4 ⟨h,v,b,q⟩))))),by omega,by simp⟩
  |call _ v h b A=>
   have n:cG fs false ⟨g,0,0⟩ a=⟨g,0,0⟩:=look_plain (by rw[h];decide) (by rw[h];decide) (by rw[h];decide)
   rw[fS (by rw[h];decide) (by rw[h];decide),n,b] at j ⊢
   simp only[z7,ax_] at j ⊢
   obtain⟨r,q⟩:=p v (by rw[b];simp) A g j
   exact⟨g,r,i (by rw[h];decide),Y3 (Y3 (Y3 (Y3 (Y3 (Y3 ⟨h,v,b,q⟩))))),by omega,by simp⟩
def gC:aC->Nat
 |⟨_,_,_,kids⟩=>1+(kids.attach.map fun ⟨k,_⟩=>gC k).sum
def kL(a:aC):gC a=1+(a.kids.map gC).sum:=by
 obtain⟨e,d,c,b⟩:=a;rw[gC];congr 2
 simp
def wX:∀(d:Nat) (a:aC),fF d a->gC a<=bY d a
 |0,_,h=>h.elim
 |d+1,a,h=>by
  rw[kL,bY]
  have:∀l:List aC,(∀k∈l,gC k<=bY d k)->(l.map gC).sum<=(l.map (bY d)).sum:=by
   intro l;induction l with
   |nil=>intro _;simp
   |cons x l c=>
    intro h;simp only[b9,d9];have f:=h x (j0 ..);have e:=c fun k b=>h k (b8 _ b)
    omega
  have:=this a.kids fun k b=>wX d k (h k b)
  omega
def pU{c:aC->Nat->List aG}{m:Nat}(h:∀a p,(c a p).length<=m*gC a):∀(l:List aC) (p:Nat),(bS c l p).length<=m*(l.map gC).sum
 |[],_=>by simp[bS]
 |a::l,p=>by
  simp only[bS,Y5,b9,d9,Nat.mul_add];have d:=h a p;have b:=pU h l (p+(c a p).length);omega
def mD(fs:List aC)(seen:cO):∀(d:Nat) (a:aC) (p:Nat),(aF fs seen d a p).length<=2*gC a
 |0,_,_=>by simp[aF]
 |d+1,a,p=>by
  have z:=pU (m:=2) (fun a p=>mD fs seen d a p) a.kids p
  have v:=kL a;have n:=fun l q=>mD fs seen d l q
  rw[aF];simp only;generalize bS (aF fs seen d) a.kids p=y at z ⊢
  generalize (if (a.text==[108,101,110])=true then aG.length else if (a.text==[114,101,97,100])=true then aG.read else aG.call (dD fs a.text) a.kids.length)=g
  generalize aF fs seen d=E at*;have c:∀i:aG,(y++[i]).length<=2*gC a:=fun i=>by simp only[Y5,Y9,Z5];omega
  have b:∀i:aG,([i]:List aG).length<=2*gC a:=fun i=>by simp only[Y9,Z5];omega
  by_cases o:(a.op==[48])=true
  ·rw[if_pos o];exact b _
  rw[if_neg o];by_cases s:(a.op==[115])=true
  ·rw[if_pos s];exact b _
  rw[if_neg s];by_cases t:(a.op==[98,111,111,108])=true
  ·rw[if_pos t];exact b _
  rw[if_neg t];by_cases x:(a.op==[110,97,109,101])=true
  ·rw[if_pos x];exact b _
  rw[if_neg x];by_cases u:(a.op==[108,105,115,116])=true
  ·rw[if_pos u];exact c _
  rw[if_neg u];by_cases w:(a.op==[105,110,100,101,120])=true
  ·rw[if_pos w];exact c _
  rw[if_neg w];by_cases k:(a.op==[45,120])=true
  ·rw[if_pos k];exact c _
  rw[if_neg k];by_cases h:(a.op==[33,120])=true
  ·rw[if_pos h];exact c _
  rw[if_neg h];by_cases j:(a.op==[99,97,108,108])=true
  ·rw[if_pos j];exact c _
  rw[if_neg j];by_cases e:(a.op==[38,38] || a.op==[124,124])=true
  ·rw[if_pos e];split
   ·rename_i l r f;have A:=n l p;have B:=n r (p+(E l p).length+1);rw[f] at v;simp only[b9,m7,d9,n9] at v;simp only[Y5,Y9,Z5];omega
   ·simp
  ·rw[if_neg e];exact c _
def pP{c:cO->aC->Nat->List aG × cO}{m:Nat}(h:∀s a p,(c s a p).1.length<=m*gC a):∀(l:List aC) (s:cO) (p:Nat),(bI c s l p).length<=m*(l.map gC).sum
 |[],_,_=>by simp[bI]
 |a::l,s,p=>by
  simp only[bI,Y5,b9,d9,Nat.mul_add];have d:=h s a p;have b:=pP h l (c s a p).2 (p+(c s a p).1.length);omega
def AN(fs:List aC):∀(d:Nat) (seen:cO) (a:aC) (p:Nat),(bC fs d seen a p).1.length<=3*gC a
 |0,_,_,_=>by simp[bC]
 |d+1,seen,a,p=>by
  have f:=kL a;have j:=fun (b:aC) q=>pP (m:=3) (fun s a p=>AN fs d s a p) b.kids seen q
  have h:=fun (x:aC) q=>mD fs seen d x q
  have i:=fun (b:aC)=>kL b
  rw[bC];simp only;repeat' split
  all_goals try simp only[Y5,Y9,Z5]
  all_goals try omega
  ·rename_i t v e;have g:=h v (p+1);rw[e] at f;simp only[b9,m7,d9,n9] at f;omega
  ·have g:=pU (m:=2) (fun a p=>mD fs seen d a p) a.kids (p+1)
   omega
  ·rename_i c t _ x e;have g:=h c (p+1);have k:=j t (p+1+(aF fs seen d c (p+1)).length+1);have l:=i t;have n:=i x;have o:=j x (p+1+(aF fs seen d c (p+1)).length+1+(bI (bC fs d) seen t.kids (p+1+(aF fs seen d c (p+1)).length+1)).length+1);rw[e] at f;simp only[b9,m7,d9,n9] at f;omega
  ·rename_i c t _ e _ _;have g:=h c (p+1);have k:=j t (p+1+(aF fs seen d c (p+1)).length+1);have l:=i t;rw[e] at f;simp only[b9,d9] at f;omega
  ·rename_i c t e;have g:=h c (p+1);have k:=j t (p+1+(aF fs seen d c (p+1)).length+1);have l:=i t;rw[e] at f;simp only[b9,m7,d9,n9] at f;omega
  all_goals
   rename_i v e;have g:=h v (p+1);rw[e] at f;simp only[b9,m7,d9,n9] at f;omega
def nG(fs:List aC)(d:Nat)(s:aZ)(k:aC)(h:s.kind≠0):(eQ fs d s k).kind≠0:=by
 unfold eQ;split
 ·exact pD s k h
 ·exact fM fs false d k s h
def OH(fs:List aC)(d:Nat)(s:aZ)(n:aC)(first:Bool)(h:s.kind≠0):(gD fs d s n first).kind≠0:=by
 unfold gD;refine gW (fun s k a=>nG fs d s k a) _ _ ?_
 show (if _ then _ else _:aZ).kind≠0
 split
 ·exact oO _ _ _ h
 ·exact h
def CV(fs:List aC)(d:Nat):∀(a b:List aC) (s:aZ),s.kind≠0->(fC fs d b a s).kind≠0
 |[],_,_,h=>h
 |n::a,b,s,h=>CV fs d a (b++[n]) _ (OH fs d s n _ h)
def qC{fs:List aC}{d:Nat}:∀(ps:List aC) (b:cO),(∀x∈ps,x.op=[112,97,114,97,109])->(ps.foldl (eQ fs d) ⟨b,0,0⟩).kind=0->ps.foldl (eQ fs d) ⟨b,0,0⟩=⟨b++ps.map (·.text),0,0⟩/\(b.Nodup->(b++ps.map (·.text)).Nodup)
 |[],b,_,_=>by simp
 |a::l,b,h,f=>by
  rw[z7] at f ⊢
  have q:eQ fs d ⟨b,0,0⟩ a={ declaresL ⟨b,0,0⟩ a with seen:=(declaresL ⟨b,0,0⟩ a).seen++[a.text] }:=by unfold eQ;rw[if_pos (by simp[h a (j0 ..)])]
  have o:(eQ fs d ⟨b,0,0⟩ a).kind=0:=j5 fun g=>gW (fun s k u=>nG fs d s k u) l _ g f
  have c:(declaresL ⟨b,0,0⟩ a).kind=0:=by rw[q] at o;exact o
  obtain⟨i,j⟩:declaresL ⟨b,0,0⟩ a=⟨b,0,0⟩/\a.text∉b:=by
   unfold declaresL at c ⊢
   split at c
   ·exact(hP (by decide) c).elim
   ·rename_i m;rw[if_neg m];simp at m;exact⟨rfl,m.2⟩
  rw[q,i] at f ⊢
  obtain⟨r,p⟩:=qC l (b++[a.text]) (fun x n=>h x (b8 _ n)) f
  rw[r];have e:b++[a.text]++l.map (·.text)=b++(a::l).map (·.text):=by simp
  rw[e] at p ⊢
  refine⟨rfl,fun v=>p ?_⟩
  rw[m9];exact⟨v,by simp,fun x n y t=>by rw[Z1.1 t];exact fun e=>j (e▸n)⟩
def NQ{fs:List aC}(A:∀f∈fs,qS f){d:Nat}{f:aC}(B:qS f)(F:fF (d+3) f)(H:∀e,bY e f<=2001){o:cO}{first:Bool}(n:(gD fs (d+2) ⟨o,0,0⟩ f first).kind=0):jY fs (d+2) f/\∃I,gD fs (d+2) ⟨o,0,0⟩ f first=⟨I,0,0⟩:=by
 obtain⟨g,b,j,D,y,_⟩:=B.kids;have c:∀f∈fs,f.kids≠[]:=fun f B=>by obtain⟨g,b,j,_⟩:=(A f B).kids;rw[j];simp
 unfold gD at n ⊢
 have G:({ (if fY f.text || !first then aZ.found ⟨o,0,0⟩ f.line 6 else ⟨o,0,0⟩) with seen:=[] }:aZ).kind=0:=j5 fun c=>gW (fun s k N=>nG fs (d+2) s k N) f.kids _ c n
 have z:({ (if fY f.text || !first then aZ.found ⟨o,0,0⟩ f.line 6 else ⟨o,0,0⟩) with seen:=[] }:aZ)=⟨[],0,0⟩:=by
  split at G
  ·exact(hP (by decide) G).elim
  ·rename_i M;rw[if_neg M]
 rw[z,j,List.foldl_append,z7,ax_] at n ⊢
 have C:(g.foldl (eQ fs (d+2)) ⟨[],0,0⟩).kind=0:=j5 fun c=>nG fs (d+2) _ b c n
 obtain⟨q,i⟩:=qC g [] D C;have i:=i List.nodup_nil;rw[ai_] at q i;rw[q] at n ⊢
 have v:eQ fs (d+2) ⟨g.map (·.text),0,0⟩ b=aN fs false (d+2) b ⟨g.map (·.text),0,0⟩:=by unfold eQ;rw[if_neg (by simp[y.op])]
 rw[v] at n ⊢
 have E:fF (d+2) b:=F b (by rw[j];simp)
 have r:=H (d+3);rw[bY,j] at r
 have w:∀l:List aC,l.length<=(l.map (bY (d+2))).sum:=by
  intro l;induction l with
  |nil=>simp
  |cons x l O=>simp only[b9,d9,Y9,bY];simp only[bY] at O;omega
 have:=w g;simp only[m6,z6,b9,m7,d9,n9] at r;obtain⟨L,J⟩:=jW y.op (fun k u=>FI c (d+1) k (y.kids k u) (E k u)) (by show (g.map (·.text)).length+bY (d+2) b<=_;simp only[List.length_map];omega) n
 refine⟨⟨⟨g,b,j,J.up fun s a h=>h.up (by omega),i⟩,?_⟩,_,L⟩
 have T:=wX _ _ F;have K:=H (d+3);have S:(bI (bC fs (d+2)) (g.map (·.text)).reverse b.kids 0).length<=3*(b.kids.map gC).sum:=pP (m:=3) (fun s a p=>AN fs (d+2) s a p) b.kids (g.map (·.text)).reverse 0
 have t:=kL f;rw[j] at t;have P:=kL b;simp only[m6,z6,b9,m7,d9,n9] at t;have Q:(fR fs (d+2) f).code.length=(bI (bC fs (d+2)) (g.map (·.text)).reverse b.kids 0).length+2:=by simp[fR,j]
 omega
def xH{fs:List aC}(c:∀f∈fs,qS f){d:Nat}:∀(a b:List aC) (k:cO),(∀f∈a,f∈fs/\fF (d+3) f/\∀e,bY e f<=2001)->(fC fs (d+2) b a ⟨k,0,0⟩).kind=0->∀f∈a,jY fs (d+2) f
 |[],_,_,_,_,f,g=>by cases g
 |n::a,b,k,h,i,f,g=>by
  rw[fC] at i;have o:(gD fs (d+2) ⟨k,0,0⟩ n (dO b n.text).isNone).kind=0:=j5 fun j=>CV fs (d+2) a _ _ j i
  obtain⟨q,m,s⟩:=h n (j0 ..);obtain⟨r,l,p⟩:=NQ c (c n q) m s o;rw[p] at i;rcases Z6.1 g with rfl|g
  ·exact r
  ·exact xH c a (b++[n]) l (fun f g=>h f (b8 _ g)) i f g
def FC{e:Nat}{f:aC}:∀{l:List aC},f∈l->bY e f<=(l.map (bY e)).sum
 |x::l,h=>by
  simp only[b9,d9];rcases Z6.1 h with rfl|h
  ·omega
  ·have:=FC (e:=e) h;omega
def FineL.mem{m:Nat}{l:List aC}{f:aC}(h:FineL m l)(a:f∈l):FineA m f:=fun e=>⟨Z4 (FC a) (h e).1,(h e).2 f a⟩
def IR{l:cE}{ks:List aC}(h:dA l=.ok ks)(a:dQ l=(0,0)):(∀f∈ks,jY ks 2001 f)/\fW ks (dD ks [109,97,105,110])=some 0:=by
 unfold dQ at a;rw[h] at a;simp only at a;unfold kM at a;have j:=uA h;have p:=kU h;have c:∀f∈ks,FineA 2001 f:=fun f g=>p.mem g
 split at a
 ·cases a
 rename_i m i;split at a
 ·cases a
 rename_i o;have q:(fC ks 2001 [] ks ⟨[],0,0⟩).kind=0:=by simp only[Prod.mk.injEq] at a;exact a.1
 refine⟨fun f g=>xH (d:=1999) j ks [] [] (fun f g=>⟨g,?_,fun e=>((c f g) e).1⟩) q f g,?_⟩
 ·have:=nN 2002 f ((c f g).le (by omega))
  exact this
 ·unfold fW;rw[sZ i];obtain⟨n,b,k,_⟩:=(j m (r9 i)).kids;have:m.kids.length=n.length+1:=by rw[k];simp
  simp;omega
def FineL.len{m:Nat}{l:List aC}(h:FineL m l):l.length<=m:=by
 have a:=(h 1).1
 have:∀l:List aC,l.length<=(l.map (bY 1)).sum:=by
  intro l;induction l with
  |nil=>simp
  |cons x l b=>simp only[b9,d9,Y9];have:1<=bY 1 x:=by simp[bY]
               omega
 exact Z4 (this l) a
def FineA.kids{m:Nat}{a:aC}(h:FineA m a):FineL m a.kids:=fun e=>by
 have b:=(h (e+1)).1;simp only[bY] at b;exact⟨by omega,(h (e+1)).2.2⟩
def wY{a:aC}(h:a.op≠[115])(b:a.kids=[]):∀d,pG d a
 |0=>trivial
 |d+1=>⟨fun e=>absurd e h,by simp[b],fun k h=>by simp[b] at h⟩
def jI{m:Nat}(g:m<=1000000):∀(d:Nat) (a:aC),FineA m a->dG a->pG d a
 |0,_,_,_=>trivial
 |d+1,a,i,j=>by
  refine⟨fun e=>?_,Z4 i.kids.len g,fun k c=>jI g d k (i.kids.mem c) ?_⟩
  ·cases j with
   |leaf _ h c o=>exact o e
   |many _ h c=>rw[e] at h;exact absurd h (by decide)
   |one _ l h c f=>rw[e] at h;exact absurd h (by decide)
   |two _ l r h c f n=>rw[e] at h;exact absurd h (by decide)
  ·cases j with
   |leaf _ h b o=>rw[b] at c;cases c
   |many _ h b=>exact b k c
   |one _ l h b f=>rw[b,Z1] at c;rw[c];exact f
   |two _ l r h b f n=>
    rw[b] at c;rcases Z6.1 c with rfl|c
    ·exact f
    ·rw[Z1.1 c];exact n
def FY{m:Nat}(j:m<=1000000):∀(d:Nat),(∀a,FineA m a->gK a->pG d a)/\∀t,FineA m t->t.op=[98,108,111,99,107]->(∀k∈t.kids,gK k)->pG d t
 |0=>⟨fun _ _ _=>trivial,fun _ _ _ _=>trivial⟩
 |d+1=>by
  obtain⟨w,q⟩:=FY j d;refine⟨fun a o u=>⟨fun e=>?_,Z4 o.kids.len j,fun k f=>?_⟩,fun t o s f=>⟨fun e=>?_,Z4 o.kids.len j,fun k b=>w k (o.kids.mem b) (f k b)⟩⟩
  ·cases u<;>rename_i h _<;>simp_all
  ·have g:=o.kids.mem f;cases u with
   |var _ t v h b p l=>
    rw[b] at f;rcases Z6.1 f with rfl|f
    ·exact wY (by rw[l.1];decide) l.2 d
    ·obtain rfl:=Z1.1 f;exact jI j d _ g p
   |set _ h z b=>exact jI j d k g (b k f)
   |if2 _ c t h b n l i=>
    rw[b] at f;rcases Z6.1 f with rfl|f
    ·exact jI j d _ g n
    ·obtain rfl:=Z1.1 f;exact q _ g l i
   |if3 _ c t x h b n l i y r=>
    rw[b] at f;rcases Z6.1 f with rfl|f
    ·exact jI j d _ g n
    rcases Z6.1 f with rfl|f
    ·exact q _ g l i
    ·obtain rfl:=Z1.1 f;exact q _ g y r
   |whl _ c t h b n l i=>
    rw[b] at f;rcases Z6.1 f with rfl|f
    ·exact jI j d _ g n
    ·obtain rfl:=Z1.1 f;exact q _ g l i
   |ret0 _ h b=>rw[b] at f;cases f
   |ret1 _ v h b p=>rw[b,Z1] at f;subst f;exact jI j d _ g p
   |print _ v h b p=>rw[b,Z1] at f;subst f;exact jI j d _ g p
   |call _ c h b n s=>rw[b,Z1] at f;subst f;exact jI j d _ g n
  ·rw[s] at e;cases e
def DY{l:cE}{ks:List aC}(g:dA l=.ok ks):∀f∈ks,∀k∈f.kids,mF k:=fun f h k a d=>by
 have c:FineA 2001 k:=((kU g).mem h).kids.mem a;obtain⟨n,b,e,j,i,m⟩:=(uA g f h).kids;rw[e] at a;rcases Z2.1 a with a|a
 ·exact wY (by rw[j k a];decide) (m k a) d
 ·obtain rfl:=Z1.1 a;exact(FY (by omega) d).2 _ c i.op i.kids
def nJ(i:aG):Prop:=(∀v,i=.push v->bQ v)/\∀op,i=.unary op->op=[45]\/op=[33]
def pV{P:aG->Prop}{c:aC->Nat->List aG}:∀(l:List aC) (p:Nat),(∀a∈l,∀q,∀i∈c a q,P i)->∀i∈bS c l p,P i
 |[],_,_,i,d=>by cases d
 |a::l,p,h,i,d=>by
  rcases Z2.1 d with d|d
  ·exact h a (j0 ..) p i d
  ·exact pV l _ (fun b e=>h b (b8 _ e)) i d
def hJ{P:aG->Prop}{c:Prop}[Decidable c]{l m:List aG}(b:c->∀i∈l,P i)(a:∀i∈m,P i):∀i∈(if c then l else m),P i:=by
 split
 ·exact b ‹_›
 ·exact a
def gU{P:aG->Prop}{l:List aG}{x:aG}(b:∀i∈l,P i)(a:P x):∀i∈l++[x],P i:=fun i h=>by
 rcases Z2.1 h with h|h
 ·exact b i h
 ·rw[Z1.1 h];exact a
def oI{P:aG->Prop}{x:aG}(h:P x):∀i∈[x],P i:=gU (l:=[]) (fun _ h=>by cases h) h
def mU(fs:List aC)(seen:cO):∀(d:Nat) (a:aC) (p:Nat),mF a->∀i∈aF fs seen d a p,nJ i
 |0,_,_,_=>fun i b=>by cases b
 |d+1,a,p,j=>by
  have c:∀i∈bS (aF fs seen d) a.kids p,nJ i:=pV _ _ fun k c q=>mU fs seen d k q (j.kid c)
  have g:∀x:aG,(∀v,x≠.push v)->(∀f,x≠.unary f)->nJ x:=fun x n m=>⟨fun v e=>absurd e (n v),fun f e=>absurd e (m f)⟩
  have o:a.op=[115]->cV a.text:=fun h=>((j 1).1 h).2
  rw[aF];simp only;refine hJ (fun _=>oI ⟨fun v e=>by cases e;exact bQ.num _,fun f e=>by cases e⟩) ?_
  refine hJ (fun h=>oI ⟨fun v e=>by cases e;exact bQ.str (o (by simpa using h)),fun f e=>by cases e⟩) ?_
  refine hJ (fun _=>oI ⟨fun v e=>by cases e;exact bQ.tru _,fun f e=>by cases e⟩) ?_
  refine hJ (fun _=>oI (g _ (by simp) (by simp))) ?_
  refine hJ (fun _=>gU c (g _ (by simp) (by simp))) ?_
  refine hJ (fun _=>gU c (g _ (by simp) (by simp))) ?_
  refine hJ (fun _=>gU c ⟨fun v e=>by (cases e),fun f e=>by cases e;exact Y4 rfl⟩) ?_
  refine hJ (fun _=>gU c ⟨fun v e=>by (cases e),fun f e=>by cases e;exact Y3 rfl⟩) ?_
  refine hJ (fun _=>gU c ?_) ?_
  ·repeat' split
   all_goals exact g _ (by simp) (by simp)
  refine hJ (fun _=>?_) (gU c (g _ (by simp) (by simp)))
  split
  ·rename_i l r e;refine gU (fun i b=>?_) (g _ (by simp) (by simp))
   rcases Z2.1 b with b|b
   ·exact gU (mU fs seen d l _ (j.kid (by rw[e];simp))) (g _ (by simp) (by simp)) i b
   ·exact mU fs seen d r _ (j.kid (by rw[e];simp)) i b
  ·intro i b;cases b
def pR{P:aG->Prop}{c:cO->aC->Nat->List aG × cO}:∀(l:List aC) (seen:cO) (p:Nat),(∀a∈l,∀s q,∀i∈(c s a q).1,P i)->∀i∈bI c seen l p,P i
 |[],_,_,_,i,d=>by cases d
 |a::l,seen,p,h,i,d=>by
  rcases Z2.1 d with d|d
  ·exact h a (j0 ..) seen p i d
  ·exact pR l _ _ (fun b e=>h b (b8 _ e)) i d
def LK(fs:List aC):∀(d:Nat) (seen:cO) (a:aC) (p:Nat),mF a->∀i∈(bC fs d seen a p).1,nJ i
 |0,_,_,_,_,i,f=>by cases f
 |d+1,seen,a,p,o,i,f=>by
  have j:∀{k:aC} {q:Nat},k∈a.kids->i∈aF fs seen d k q->nJ i:=fun l h=>mU fs seen d _ _ (o.kid l) i h
  have n:∀{k:aC} {q:Nat},k∈a.kids->i∈bI (bC fs d) seen k.kids q->nJ i:=fun l h=>pR _ _ _ (fun x j s q=>LK fs d s x q ((o.kid l).kid j)) i h
  have g:∀{x:aG},(∀v,x≠.push v)->(∀m,x≠.unary m)->i=x->nJ i:=fun w u e=>⟨fun v z=>absurd (e▸z) (w v),fun m y=>absurd (e▸y) (u m)⟩
  rw[bC] at f;dsimp only at f;split at f
  ·split at f
   ·rename_i t v e;simp only[Z2,Z6,e7,or_false,l9] at f;rcases f with h|h|h
    ·exact g (by simp) (by simp) h
    ·exact j (by rw[e];simp) h
    ·exact g (by simp) (by simp) h
   ·cases f
  split at f
  ·simp only[Z2,Z6,e7,or_false,l9] at f;rcases f with h|h|h
   ·exact g (by simp) (by simp) h
   ·exact pV _ _ (fun k l q=>mU fs seen d k q (o.kid l)) i h
   ·exact g (by simp) (by simp) h
  split at f
  ·split at f
   ·rename_i c t e r;simp only[Z2,Z6,e7,or_false,l9] at f;rcases f with h|(((h|h)|h)|h)|h
    ·exact g (by simp) (by simp) h
    ·exact j (by rw[r];simp) h
    ·exact g (by simp) (by simp) h
    ·exact n (by rw[r];simp) h
    ·exact g (by simp) (by simp) h
    ·split at h
     ·exact n (by rw[r];simp) h
     ·cases h
   ·cases f
  split at f
  ·split at f
   ·rename_i c b e;simp only[Z2,Z6,e7,or_false,l9] at f;rcases f with h|((h|h)|h)|h
    ·exact g (by simp) (by simp) h
    ·exact j (by rw[e];simp) h
    ·exact g (by simp) (by simp) h
    ·exact n (by rw[e];simp) h
    ·exact g (by simp) (by simp) h
   ·cases f
  split at f
  ·split at f
   ·rename_i v e;simp only[Z2,Z6,e7,or_false,l9] at f;rcases f with h|h|h
    ·exact g (by simp) (by simp) h
    ·exact j (by rw[e];simp) h
    ·exact g (by simp) (by simp) h
   ·simp only[Z6,e7,or_false] at f;rcases f with h|h|h
    ·exact g (by simp) (by simp) h
    ·rw[h];exact⟨fun v e=>by cases e;exact bQ.num _,fun m e=>by cases e⟩
    ·exact g (by simp) (by simp) h
  split at f
  ·split at f
   ·rename_i v e;simp only[Z2,Z6,e7,or_false,l9] at f;rcases f with h|h|h
    ·exact g (by simp) (by simp) h
    ·exact j (by rw[e];simp) h
    ·exact g (by simp) (by simp) h
   ·cases f
  ·split at f
   ·rename_i c e;simp only[Z2,Z6,e7,or_false,l9] at f;rcases f with h|h|h
    ·exact g (by simp) (by simp) h
    ·exact j (by rw[e];simp) h
    ·exact g (by simp) (by simp) h
   ·cases f
def PX{ks:List aC}{d:Nat}(h:∀f∈ks,∀k∈f.kids,mF k):jO (dV ks d):=fun g m=>by
 obtain⟨f,o,rfl⟩:=ac_.1 m
 have a:∀i∈(fR ks d f).code,nJ i:=fun i c=>by
  simp only[fR,Z2,Z6,e7,or_false] at c;rcases c with c|rfl|rfl
  ·cases j:f.kids.getLast? with
   |none=>rw[j] at c;cases c
   |some b=>
    rw[j] at c;exact pR _ _ _ (fun k n s q=>LK ks d s k q ((h f o b (List.mem_of_getLast? j)).kid n)) i c
  ·exact⟨fun v e=>by cases e;exact bQ.num _,fun l e=>by cases e⟩
  ·exact⟨fun v e=>by (cases e),fun l e=>by cases e⟩
 exact⟨fun v r=>(a _ r).1 v rfl,fun l p=>(a _ p).2 l rfl⟩
end Go.Proofs.YtddnpoiiimjpcaaGreatDoor.Hs
