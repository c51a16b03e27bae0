/- What stands in the leaves of a tree: plain words. -/
import Derived.Test.YtmjbnmpamlainaaGreatDoorB02
import Derived.Test.YtmjbnmpamlainaaGreatDoorP00
set_option linter.defProp false
set_option maxRecDepth 100000
namespace Go.Proofs.YtmjbnmpamlainaaGreatDoor.Hs
inductive dB:cD->Prop
 |nil:dB []
 |cons {l:cD}:bK l≠0->dB (l.drop (bK l))->dB l
def nR{l m:cD}{i lo hi:Nat}(h:m[i]?=l[i]?):dN m i lo hi=dN l i lo hi:=by unfold dN;rw[h]
def oG{l m:cD}(h:bK l≠0)(a:∀i,i<bK l->m[i]?=l[i]?):bK m=bK l:=by
 have o:=a 0 (by omega)
 unfold bK at h a ⊢
 rw[o];cases n:l[0]? with
 |none=>exact absurd (by rw[n]) h
 |some b=>
  rw[n] at h a;simp only at h a ⊢
  by_cases e:b.toNat<128
  ·rw[if_pos e,if_pos e]
  rw[if_neg e] at h a;rw[if_neg e,if_neg e];by_cases c:194<=b.toNat/\b.toNat<=223
  ·rw[if_pos c] at h a;rw[if_pos c,if_pos c];by_cases g:dN l 1 128 191=true
   ·rw[if_pos g] at a;rw[nR (a 1 (by omega))]
   ·rw[if_neg g] at h;exact absurd rfl h
  rw[if_neg c] at h a;rw[if_neg c,if_neg c];by_cases d:224<=b.toNat/\b.toNat<=239
  ·rw[if_pos d] at h a;rw[if_pos d,if_pos d];by_cases k:(dN l 1 (if b.toNat=224 then 160 else 128) (if b.toNat=237 then 159 else 191) && dN l 2 128 191)=true
   ·rw[if_pos k] at a;rw[nR (a 1 (by omega)),nR (a 2 (by omega))]
   ·rw[if_neg k] at h;exact absurd rfl h
  rw[if_neg d] at h a;rw[if_neg d,if_neg d];by_cases f:240<=b.toNat/\b.toNat<=244
  ·rw[if_pos f] at h a;rw[if_pos f,if_pos f];by_cases j:(dN l 1 (if b.toNat=240 then 144 else 128) (if b.toNat=244 then 143 else 191) && dN l 2 128 191 && dN l 3 128 191)=true
   ·rw[if_pos j] at a;rw[nR (a 1 (by omega)),nR (a 2 (by omega)),nR (a 3 (by omega))]
   ·rw[if_neg j] at h;exact absurd rfl h
  ·rw[if_neg f] at h;exact absurd rfl h
def OO(t:cD):Prop:=t.length<=100/\dB t
end Go.Proofs.YtmjbnmpamlainaaGreatDoor.Hs
namespace Go.Proofs.YtmjbnmpamlainaaGreatDoor
open Hs
open _root_.Go.Proofs.Tryz
def pA:Nat->aE->Prop
 |0,_=>True
 |d+1,a=>(a.op=[115]->a.text.length<=100/\dB a.text)/\a.kids.length<=1000000/\∀k∈a.kids,pA d k
def nB(a:aE):Prop:=∀e,pA e a
def nB.kid{a k:aE}(h:nB a)(b:k∈a.kids):nB k:=fun e=>(h (e+1)).2.2 k b
def nB.len{a:aE}(h:nB a):a.kids.length<=1000000:=(h 1).2.1
end Go.Proofs.YtmjbnmpamlainaaGreatDoor
namespace Go.Proofs.YtmjbnmpamlainaaGreatDoor.Hs
def rA{a b:cD}(h:bK a≠0):bK (a++b)=bK a:=
 oG h fun _ c=>cX_ (cn_ c kY)
def uE{l:cD}(h:bK l≠0):bK (l.take (bK l))=bK l:=
 oG h fun i a=>by rw[cM_,if_pos a]
def dB.append{a b:cD}(e:dB a)(f:dB b):dB (a++b):=by
 induction e with
 |nil=>exact f
 |@cons l c _ d=>
  refine dB.cons (by rw[rA c];exact c) ?_
  rw[rA c,List.drop_append_of_le_length kY];exact d
def dB.one{l:cD}(h:bK l≠0):dB (l.take (bK l)):=
 dB.cons (by rw[uE h];exact h) (by rw[uE h,List.drop_take];simp;exact dB.nil)
def dB.ne{l:cD}(h:dB l)(a:l≠[]):bK l≠0/\dB (l.drop (bK l)):=by
 cases h with
 |nil=>exact absurd rfl a
 |cons c b=>exact⟨c,b⟩
def TK:∀(n:Nat) (l:cD),l.length<=n->∀c∈eG l,dB c:=by
 intro n;induction n with
 |zero=>
  intro l f c a;rw[eB (cl_ (dh_.1 (by omega)))] at a
  cases a
 |succ n e=>
  intro l f c a;by_cases d:l=[]
  ·rw[eB (cl_ d)] at a;cases a
  by_cases b:bK l=0
  ·rw[eB (ck_ b)] at a;cases a
  rw[iS d b] at a;rcases cv_.1 a with rfl|a
  ·exact dB.one b
  ·exact e _ (by rw[c9_];omega) c a
def YQ:Nat->aM->Prop
 |0,_=>True
 |d+1,v=>dB v.s/\∀x∈v.l,YQ d x
structure bS(v:aM):Prop where
 all:∀d,YQ d v
def bS.txt{v:aM}(h:bS v):dB v.s:=(h.all 1).1
def bS.kid{v x:aM}(h:bS v)(a:x∈v.l):bS x:=⟨fun d=>(h.all (d+1)).2 x a⟩
def bS.mk'{v:aM}(a:dB v.s)(b:∀x∈v.l,bS x):bS v:=
 ⟨fun d=>by
   cases d with
   |zero=>trivial
   |succ d=>exact⟨a,fun x c=>(b x c).all d⟩⟩
def bS.num(n:Int):bS (bG n):=.mk' .nil fun x a=>by cases a
def bS.tru(b:Bool):bS (bT b):=.mk' .nil fun x a=>by cases a
def bS.nil:bS bR:=.mk' .nil fun x a=>by cases a
def bS.str{s:cD}(h:dB s):bS (bO s):=.mk' h fun x a=>by cases a
def bS.lst{l:List aM}(h:∀x∈l,bS x):bS (bA l):=.mk' .nil h
def zG{l:List aM}(h:∀x∈l,bS x)(k:Nat):bS (l.getD k bR):=by
 rw[List.getD_eq_getElem?_getD];cases a:l[k]? with
 |none=>exact bS.nil
 |some x=>exact h x (c0_ a)
def CJ{l:List aM}(h:∀x∈l,bS x)(k:Nat):bS (l[k]?.getD bR):=by
 cases a:l[k]? with
 |none=>exact bS.nil
 |some x=>exact h x (c0_ a)
def VT(op:cD)(a:aM):bS (fW op a).1:=by
 unfold fW;repeat' split
 all_goals first|exact bS.num _|exact bS.tru _|exact bS.nil
def RN(op:cD)(x y:Int):bS (kA op x y).1:=by
 unfold kA;repeat' split
 all_goals first|exact bS.num _|exact bS.tru _|exact bS.nil
def IS{a b:aM}(c:bS a)(d:bS b):bS (jZ a b).1:=by
 unfold jZ;dsimp only;generalize e:(if a.sort=3 then bA (a.l++b.l) else bO (a.s++b.s))=v
 have f:bS v:=by
  rw[<-e];split
  ·refine bS.lst fun x g=>?_
   rcases cu_.1 g with h|h
   ·exact c.kid h
   ·exact d.kid h
  ·exact bS.str (c.txt.append d.txt)
 split
 ·exact bS.nil
 ·exact f
def UG(op:cD){a b:aM}(c:bS a)(d:bS b):bS (eZ op a b).1:=by
 unfold eZ;repeat' split
 all_goals first|exact bS.tru _|exact bS.nil|exact RN _ _ _|exact IS c d
def IN(a:aM):bS (eK a).1:=by
 unfold eK;repeat' split
 all_goals first|exact bS.num _|exact bS.nil
def NG{a:aM}(b:aM)(e:bS a):bS (dL a b).1:=by
 unfold dL;split
 ·exact bS.nil
 split
 ·exact bS.nil
 refine zG (fun x d=>?_) _
 unfold kF at d;split at d
 ·obtain⟨c,f,rfl⟩:=dn_.1 d;exact bS.str (TK _ _ cL c f)
 ·exact e.kid d
def sT:∀(l:List aM) (a b:aM),bS a->bS b->bS (cV l a b).1
 |[],_,_,_,c=>c
 |i::l,a,b,e,c=>by
  unfold cV;have f:=sT l (a.l.getD i.n.toNat bR) b (zG (fun x d=>e.kid d) _) c
  split
  ·exact bS.nil
  split
  ·exact bS.nil
  split
  ·exact bS.nil
  ·refine bS.lst fun x d=>?_
   rcases dO_ d with h|h
   ·exact e.kid h
   ·rw[h];exact f
def wO{r:aM × Nat}(h:bS r.1):bS (iQ r).1:=by
 unfold iQ;repeat' split
 all_goals first|exact bS.nil|exact h
def xE(f:eU):Prop:=(∀v,aI.push v∈f.code->bS v)/\∀op,aI.unary op∈f.code->op=[45]\/op=[33]
structure dF(f:aJ):Prop where
 fn:xE f.fn
 vars:∀v∈f.vars,bS v
 ops:∀v∈f.ops,bS v
def gK(m:cR):Prop:=∀f∈m.frames,dF f
def kK(tab:List eU):Prop:=∀f∈tab,xE f
def dF.last{f:aJ}(h:dF f):bS f.last:=by
 unfold aJ.last;cases a:f.ops.getLast? with
 |none=>exact bS.nil
 |some x=>exact h.ops x (do_ a)
def dF.pop{f:aJ}(h:dF f):dF f.pop:=⟨h.fn,h.vars,fun v a=>h.ops v (List.dropLast_subset _ a)⟩
def dF.popMany{f:aJ}(h:dF f)(n:Nat):dF (f.popMany n):=⟨h.fn,h.vars,fun v a=>h.ops v (dM_ a)⟩
def dF.push{f:aJ}(h:dF f){a:aM}(c:bS a):dF (f.push a):=⟨h.fn,h.vars,fun v d=>by
 rcases cu_.1 d with b|b
 ·exact h.ops v b
 ·rw[cs_.1 b];exact c⟩
def dF.next{f:aJ}(h:dF f)(n:Nat):dF { f with next:=n }:=⟨h.fn,h.vars,h.ops⟩
def dF.many{f:aJ}(h:dF f)(n:Nat):∀v∈f.many n,bS v:=fun v a=>h.ops v (List.mem_of_mem_drop a)
def sI{i:aI}{f:aJ}(h:dF f)(hi:∀v,i=.push v->bS v):dF (aL i f).1:=by
 cases i<;>simp only[aL]
 case begin l s=>exact⟨h.fn,h.vars,h.ops⟩
 case push v=>exact h.push (hi v rfl)
 case load k=>exact h.push (CJ h.vars k)
 case declare k=>
  refine⟨h.fn,fun v b=>?_,h.pop.ops⟩
  rcases cu_.1 b with a|a
  ·exact h.vars v (dM_ a)
  ·rw[cs_.1 a];exact h.last
 case assign k n=>
  have c:=h.pop.popMany n;split
  ·refine⟨c.fn,fun v b=>?_,c.ops⟩
   rcases dO_ b with a|a
   ·exact h.vars v a
   ·rw[a];exact wO (sT _ _ _ (CJ h.vars k) h.last)
  ·exact c
 case jump t=>exact h.next t
 case skip t=>
  repeat' split
  ·exact h.pop
  ·exact h.pop.next t
  ·exact h.pop
 case shortcut w t=>
  repeat' split
  ·exact(h.pop.push h.last).next t
  ·exact h.pop
  ·exact h.pop
 case truth=>
  repeat' split
  ·exact h.pop.push h.last
  ·exact h.pop
 case unary op=>
  repeat' split
  ·exact h.pop.push (VT _ _)
  ·exact h.pop
 case binary op=>
  repeat' split
  ·exact h.pop.pop.push (UG _ h.pop.last h.last)
  ·exact h.pop.pop
 case index=>
  repeat' split
  ·exact h.pop.pop.push (NG _ h.pop.last)
  ·exact h.pop.pop
 case list n=>
  repeat' split
  ·exact(h.popMany n).push (wO (bS.lst (h.many n)))
  ·exact h.popMany n
 case length=>
  repeat' split
  ·exact h.pop.push (IN _)
  ·exact h.pop
 case drop=>exact h.pop
 all_goals exact h
def FX{m:List eU}(B:kK m){b:List aJ}{f g:aJ}{t:List Int}{o:cN}{i:aI}(h:gK ⟨b++[f],t,o⟩)(q:f.fetch=some (i,g)):gK (doI m i b g t o).1:=by
 have z:∀x∈b,dF x:=fun x l=>h x (by simp[l])
 have u:dF f:=h f (by simp)
 obtain⟨rfl,D⟩:g={ f with next:=f.next+1 }/\f.fn.code[f.next]?=some i:=by
  unfold aJ.fetch at q;cases l:f.fn.code[f.next]? with
  |none=>rw[l] at q;cases q
  |some j=>rw[l] at q;simp at q;exact⟨q.2.symm,by rw[q.1]⟩
 have p:dF { f with next:=f.next+1 }:=u.next _
 generalize { f with next:=f.next+1 }=g at p
 have A:∀v,i=.push v->bS v:=fun v e=>u.fn.1 v (by rw[<-e];exact c0_ D)
 have d:∀y,dF y->∀t o,gK ⟨b++[y],t,o⟩:=fun y C t o x l=>by
  rcases cu_.1 l with c|c
  ·exact z x c
  ·rw[cs_.1 c];exact C
 cases i
 case read=>
  cases t with
  |nil=>exact d _ p _ _
  |cons a r=>exact d _ (p.push (bS.num _)) _ _
 case call k n=>
  simp only[doI];split
  ·exact d _ (p.popMany n) _ _
  ·intro x l;simp only[cu_,cv_,cD_,or_false] at l;rcases l with c|rfl|rfl
   ·exact z x c
   ·exact p.popMany n
   ·refine⟨?_,p.many n,fun v w=>by cases w⟩
    show xE (m[k]?.getD ⟨[],[]⟩)
    cases s:m[k]? with
    |none=>exact cL_ (fun v w=>absurd w (by simp)) (fun v w=>absurd w (by simp))
    |some y=>exact B y (c0_ s)
 case give=>
  simp only[doI];intro x l;rcases cu_.1 l with c|c
  ·exact z x (List.dropLast_subset _ c)
  ·cases s:b.getLast? with
   |none=>rw[s] at c;cases c
   |some y=>
    rw[s] at c;simp at c;rw[c];exact(z y (do_ s)).push p.last
 case print=>
  simp only[doI];split<;>exact d _ p.pop _ _
 all_goals exact d _ (sI p A) _ _
inductive dJ:aE->Prop
 |leaf (a:aE) (h:a.op=[48]\/a.op=[115]\/a.op=[98,111,111,108]\/a.op=[110,97,109,101]) (hk:a.kids=[]) (ht:a.op=[115]->OO a.text):dJ a
 |many (a:aE) (h:a.op=[108,105,115,116]\/a.op=[99,97,108,108]) (hk:∀k∈a.kids,dJ k):dJ a
 |one (a l:aE) (h:a.op=[45,120]\/a.op=[33,120]) (hk:a.kids=[l]) (hl:dJ l):dJ a
 |two (a l r:aE) (h:a.op=[105,110,100,101,120]\/cJ a.op≠9) (hk:a.kids=[l,r]) (hl:dJ l) (hr:dJ r):dJ a
inductive iA:aE->Prop
 |var (a t v:aE) (h:a.op=[118,97,114]) (hk:a.kids=[t,v]) (hv:dJ v) (ht:t.op=[116,97,114,103,101,116]/\t.kids=[]):iA a
 |set (a:aE) (h:a.op=[115,101,116]) (hn:a.kids≠[]) (hk:∀k∈a.kids,dJ k):iA a
 |if2 (a c t:aE) (h:a.op=[105,102]) (hk:a.kids=[c,t]) (hc:dJ c) (ht:t.op=[98,108,111,99,107]) (htk:∀k∈t.kids,iA k):iA a
 |if3 (a c t x:aE) (h:a.op=[105,102]) (hk:a.kids=[c,t,x]) (hc:dJ c) (ht:t.op=[98,108,111,99,107]) (htk:∀k∈t.kids,iA k) (hx:x.op=[98,108,111,99,107]) (hxk:∀k∈x.kids,iA k):iA a
 |whl (a c t:aE) (h:a.op=[119,104,105,108,101]) (hk:a.kids=[c,t]) (hc:dJ c) (ht:t.op=[98,108,111,99,107]) (htk:∀k∈t.kids,iA k):iA a
 |ret0 (a:aE) (h:a.op=[114,101,116,117,114,110]) (hk:a.kids=[]):iA a
 |ret1 (a v:aE) (h:a.op=[114,101,116,117,114,110]) (hk:a.kids=[v]) (hv:dJ v):iA a
 |print (a v:aE) (h:a.op=[112,114,105,110,116]) (hk:a.kids=[v]) (hv:dJ v):iA a
 |call (a c:aE) (h:a.op=[100,111]) (hk:a.kids=[c]) (hc:dJ c) (ho:c.op=[99,97,108,108]):iA a
structure OV(b:aE):Prop where
 op:b.op=[98,108,111,99,107]
 kids:∀k∈b.kids,iA k
structure sY(f:aE):Prop where
 kids:∃ps b,f.kids=ps++[b]/\(∀x∈ps,x.op=[112,97,114,97,109])/\OV b/\∀x∈ps,x.kids=[]
def bQ{α:Type}(P:α->Prop)(r:cB α):Prop:=∀a q,r=.ok (a,q)->P a
def bQ.err{b:Type}{P:b->Prop}{n:Nat}:bQ P (.error n):=fun a q h=>by cases h
def bQ.bad{c:Type}{P:c->Prop}{b:Nat}{ts:List bB}:bQ P (bad ts b):=fun a q h=>by cases h
def bQ.of_ok{b:Type}{P:b->Prop}{q:Nat}{a:b}(h:P a):bQ P (.ok (a,q)):=fun c d e=>by cases e;exact h
def bQ.take{b:Type}{P:b->Prop}{ts:List bB}{x:cD}{r:cB b}(h:bQ P r):bQ P (aS ts x r):=by
 cases r with
 |error l=>exact bQ.err
 |ok c=>
  obtain⟨a,q⟩:=c;have:=h a q rfl;unfold aS;simp only;split
  ·exact bQ.of_ok this
  ·exact bQ.bad
def bQ.map{b c:Type}{P:b->Prop}{Q:c->Prop}{r:cB b}{f:b->c}(h:bQ P r)(d:∀a,P a->Q (f a)):bQ Q (cF f r):=by
 cases r with
 |error l=>exact bQ.err
 |ok e=>obtain⟨a,q⟩:=e;exact bQ.of_ok (d a (h a q rfl))
def bQ.bind{b c:Type}{P:b->Prop}{Q:c->Prop}{r:cB b}{f:b->Nat->cB c}(h:bQ P r)(d:∀a q,P a->bQ Q (f a q)):bQ Q (bW r f):=by
 cases r with
 |error l=>exact bQ.err
 |ok e=>obtain⟨a,q⟩:=e;exact d a q (h a q rfl)
def fD(P:aE->Prop)(l:List aE):Prop:=∀k∈l,P k
def fD.nil{P:aE->Prop}:fD P []:=fun _ h=>by cases h
def fD.snoc{P:aE->Prop}{l:List aE}{a:aE}(h:fD P l)(c:P a):fD P (l++[a]):=fun k b=>by
 rcases cu_.1 b with b|b
 ·exact h k b
 ·rw[cs_.1 b];exact c
section
variable {ts:List bB} {E:Nat->cB aE}
def sX(ts:List bB):Prop:=∀p,(aT ts p).sort=115->OO (aT ts p).text
def sB(d:∀q,bQ dJ (E q)):∀(g p:Nat) (acc:List aE),fD dJ acc->bQ (fD dJ) (dR E ts g p acc)
 |0,p,acc,_=>bQ.err
 |g+1,p,acc,c=>by
  rw[dR];cases f:E p with
  |error l=>exact bQ.err
  |ok e=>
   obtain⟨a,q⟩:=e;have b:=d p a q f;simp only;split
   ·exact sB d g (q+1) _ (c.snoc b)
   ·exact bQ.of_ok (c.snoc b)
def sA(a:∀q,bQ dJ (E q))(p:Nat)(x y:cD):bQ (fD dJ) (eY E ts p x y):=by
 unfold eY;split
 ·refine bQ.take ?_;unfold iP;split
  ·exact bQ.of_ok fD.nil
  ·exact sB a _ _ _ fD.nil
 ·exact bQ.bad
def IL(b:sX ts)(c:∀q,bQ dJ (E q))(p:Nat):bQ dJ (eH E ts p):=by
 unfold eH;split
 ·rename_i h;simp at h;rcases h with h|h
  ·refine bQ.of_ok (.leaf _ (cl_ (by show [UInt8.ofNat _]=_;rw[h];rfl)) rfl fun e=>?_)
   have d:[UInt8.ofNat (aT ts p).sort]=[115]:=e;rw[h] at d;exact absurd d (by decide)
  ·exact bQ.of_ok (.leaf _ (ck_ (cl_ (by show [UInt8.ofNat _]=_;rw[h];rfl))) rfl fun _=>b p h)
 split
 ·exact bQ.of_ok (.leaf _ (ck_ (ck_ (cl_ rfl))) rfl fun e=>by simp[aU] at e)
 split
 ·exact(c (p+1)).take
 split
 ·exact bQ.map (sA c p _ _) fun a h=>.many _ (cl_ rfl) h
 split
 ·split
  ·exact bQ.map (sA c (p+1) _ _) fun a h=>.many _ (ck_ rfl) h
  ·exact bQ.of_ok (.leaf _ (ck_ (ck_ (ck_ rfl))) rfl fun e=>by simp[aU] at e)
 ·exact bQ.bad
def zQ(b:∀q,bQ dJ (E q)):∀(g:Nat) (n:aE) (p:Nat),dJ n->bQ dJ (dK E ts g n p)
 |0,n,p,_=>bQ.err
 |g+1,n,p,a=>by
  rw[dK];split
  ·have c:=(b (p+1)).take (ts:=ts) (x:=[93]);cases d:aS ts [93] (E (p+1)) with
   |error l=>exact bQ.err
   |ok e=>
    obtain⟨i,q⟩:=e;exact zQ b g _ q (.two _ n i (cl_ rfl) rfl a (c i q d))
  ·exact bQ.of_ok a
def rY(b:sX ts)(c:∀q,bQ dJ (E q)):∀(g p:Nat),bQ dJ (eV E ts g p)
 |0,p=>bQ.err
 |g+1,p=>by
  rw[eV];split
  ·exact bQ.map (rY b c g (p+1)) fun a h=>.one _ a (cl_ rfl) rfl h
  split
  ·exact bQ.map (rY b c g (p+1)) fun a h=>.one _ a (ck_ rfl) rfl h
  ·exact bQ.bind (IL b c p) fun a q d=>zQ c _ a q d
def qW{L:Nat->cB aE}{k:Nat}(b:k<9)(d:∀q,bQ dJ (L q)):∀(g:Nat) (n:aE) (q:Nat),dJ n->bQ dJ (bJ L ts k g n q)
 |0,n,q,_=>bQ.err
 |g+1,n,q,c=>by
  rw[bJ];split
  ·rename_i a;cases j:L (q+1) with
   |error l=>exact bQ.err
   |ok h=>
    obtain⟨r,e⟩:=h;have i:=d _ r e j;have f:dJ (aU (aT ts q).text (aT ts q).line [] [n,r]):=.two _ n r (ck_ (by simp at a;show cJ (aT ts q).text≠9;rw[a.2];omega)) rfl c i
    simp only;split
    ·exact bQ.of_ok f
    ·exact qW b d g _ e f
  ·exact bQ.of_ok c
def sC(b:sX ts)(c:∀q,bQ dJ (E q)):∀(j p:Nat),bQ dJ (gI E ts j p)
 |0,p=>rY b c _ p
 |j+1,p=>by
  rw[gI];exact bQ.bind (sC b c j p) fun a q d=>qW (by omega) (fun q=>sC b c j q) _ a q d
def qC(ts:List bB)(a:sX ts):∀(f p:Nat),bQ dJ (eL ts f p)
 |0,p=>bQ.err
 |f+1,p=>by
  rw[eL];exact sC a (fun q=>qC ts a f q) 5 p
def tV(b:∀q,bQ dJ (E q)):∀(g p:Nat) (acc:List aE),fD dJ acc->bQ (fD dJ) (fH E ts g p acc)
 |0,p,acc,_=>bQ.err
 |g+1,p,acc,a=>by
  rw[fH];split
  ·have c:=(b (p+1)).take (ts:=ts) (x:=[93]);cases d:aS ts [93] (E (p+1)) with
   |error l=>exact bQ.err
   |ok e=>
    obtain⟨i,q⟩:=e;exact tV b g q _ (a.snoc (c i q d))
  ·exact bQ.of_ok a
def MP(b:∀q,bQ dJ (E q))(p:Nat):bQ iA (fG E ts p):=by
 unfold fG;split
 ·split
  ·exact bQ.take (bQ.map (sA b (p+1) _ _) fun a h=>.call _ _ rfl rfl (.many _ (ck_ rfl) h) rfl)
  ·refine bQ.bind ((tV b _ (p+1) [] fD.nil).take) fun l q d=>?_
   exact bQ.take (bQ.map (b q) fun v c=>.set _ rfl (by simp[aU]) (d.snoc c))
 ·exact bQ.bad
def VK{B:Nat->cB aE}(a:∀q,bQ dJ (E q))(h:∀q,bQ OV (B q))(p:Nat):bQ iA (jV E B ts p):=by
 unfold jV;split
 ·unfold pX;split
  ·split
   ·exact bQ.take (bQ.map (a (p+3)) fun v e=>.var _ _ v rfl rfl e ⟨rfl,rfl⟩)
   ·exact bQ.bad
  ·exact bQ.bad
 split
 ·unfold sJ;refine bQ.bind (a (p+1)) fun c q f=>bQ.bind (h q) fun b k g=>?_
  split
  ·exact bQ.map (h (k+1)) fun d i=>.if3 _ c b d rfl rfl f g.op g.kids i.op i.kids
  ·exact bQ.of_ok (.if2 _ c b rfl rfl f g.op g.kids)
 split
 ·unfold lD;exact bQ.bind (a (p+1)) fun c q f=>bQ.map (h q) fun b j=>.whl _ c b rfl rfl f j.op j.kids
 split
 ·unfold iK;split
  ·exact bQ.of_ok (.ret0 _ rfl rfl)
  ·exact bQ.take (bQ.map (a (p+1)) fun v e=>.ret1 _ v rfl rfl e)
 split
 ·unfold jH;exact bQ.take (bQ.map (a (p+1)) fun v e=>.print _ v rfl rfl e)
 ·exact MP a p
def qX{S:Nat->cB aE}(b:∀q,bQ iA (S q)):∀(g p:Nat) (acc:List aE),fD iA acc->bQ (fD iA) (dT S ts g p acc)
 |0,p,acc,_=>bQ.err
 |g+1,p,acc,a=>by
  rw[dT];split
  ·exact bQ.of_ok a
  ·cases c:S p with
   |error l=>exact bQ.err
   |ok d=>
    obtain⟨s,q⟩:=d;exact qX b g q _ (a.snoc (b p s q c))
def zR(a:∀q,bQ dJ (E q)):∀(f p:Nat),bQ OV (jO E ts f p)
 |0,p=>bQ.err
 |f+1,p=>by
  rw[jO];split
  ·exact bQ.map (bQ.take (qX (fun q=>VK a (fun q=>zR a f q) q) _ (p+1) [] fD.nil)) fun l h=>⟨rfl,h⟩
  ·exact bQ.bad
def qV:∀(g p:Nat) (acc:List aE),fD (fun x=>x.op=[112,97,114,97,109]/\x.kids=[]) acc->bQ (fD fun x=>x.op=[112,97,114,97,109]/\x.kids=[]) (dD ts g p acc)
 |0,p,acc,_=>bQ.err
 |g+1,p,acc,b=>by
  have a:fD (fun x=>x.op=[112,97,114,97,109]/\x.kids=[]) (acc++[aU [112,97,114,97,109] (aT ts p).line (aT ts p).text []]):=b.snoc ⟨rfl,rfl⟩
  rw[dD];split
  ·split
   ·exact qV g (p+2) _ a
   ·exact bQ.of_ok a
  ·exact bQ.bad
def VL{B:Nat->cB aE}(e:∀q,bQ OV (B q))(p:Nat):bQ sY (kS B ts p):=by
 unfold kS;split
 ·split
  ·split
   ·have a:bQ (fD fun x=>x.op=[112,97,114,97,109]/\x.kids=[]) (iM ts (p+3)):=by
     unfold iM;refine bQ.take ?_;split
     ·exact bQ.of_ok fD.nil
     ·exact qV _ (p+3) [] fD.nil
    exact bQ.bind a fun l q d=>bQ.map (e q) fun b f=>⟨l,b,rfl,fun x c=>(d x c).1,f,fun x c=>(d x c).2⟩
   ·exact bQ.bad
  ·exact bQ.bad
 ·exact bQ.bad
def rZ{F:Nat->cB aE}(b:∀q,bQ sY (F q)):∀(g p:Nat) (acc:List aE),fD sY acc->bQ (fD sY) (fI F ts g p acc)
 |0,p,acc,_=>bQ.err
 |g+1,p,acc,a=>by
  rw[fI];split
  ·exact bQ.of_ok a
  ·cases d:F p with
   |error l=>exact bQ.err
   |ok c=>
    obtain⟨s,q⟩:=c;exact rZ b g q _ (a.snoc (b p s q d))
end
def dB.split{a b:cD}{c:UInt8}(G:c.toNat<128)(h:dB (a++c::b)):dB a/\dB b:=by
 generalize w:a++c::b=l at h;induction h generalizing a with
 |nil=>simp at w
 |cons o r F=>
  subst w;cases a with
  |nil=>
   have e:bK ([]++c::b)=1:=by simp[bK,G]
   rw[e] at r;exact⟨.nil,by simpa using r⟩
  |cons x a=>
   have q:bK (x::a++c::b)<=(x::a).length:=by
    refine Nat.le_of_not_lt fun d=>?_
    have D:∀i g j,128<=g->i=a.length+1->dN (x::a++c::b) i g j=false:=fun i g j s p=>by
     subst p;have:(x::a++c::b)[a.length+1]?=some c:=by simp
     unfold dN;rw[this];simp;omega
    have f:∀i g j,128<=g->dN (x::a++c::b) i g j=true->i≠a.length+1:=fun i g j s t e=>by rw[D i g j s e] at t;cases t
    unfold bK at o d;rw[ct_] at d;simp only[cP_,List.getElem?_cons_zero] at o d f;have k:∀n m:Nat,128<=m->128<=(if x.toNat=n then m else 128):=fun n m h=>by split<;>omega
    by_cases u:x.toNat<128
    ·rw[if_pos u] at d;omega
    rw[if_neg u] at d;by_cases v:194<=x.toNat/\x.toNat<=223
    ·rw[if_pos v] at d;by_cases h:dN (x::(a++c::b)) 1 128 191=true
     ·rw[if_pos h] at d;have:=f _ _ _ (by omega) h;omega
     ·rw[if_neg h] at d;omega
    rw[if_neg v] at d;by_cases y:224<=x.toNat/\x.toNat<=239
    ·rw[if_pos y] at d;by_cases h:(dN (x::(a++c::b)) 1 (if x.toNat=224 then 160 else 128) (if x.toNat=237 then 159 else 191) && dN (x::(a++c::b)) 2 128 191)=true
     ·rw[if_pos h] at d;rw[cO_] at h;have C:=f _ _ _ (k _ _ (by omega)) h.1
      have H:=f _ _ _ (by omega) h.2
      omega
     ·rw[if_neg h] at d;omega
    rw[if_neg y] at d;by_cases z:240<=x.toNat/\x.toNat<=244
    ·rw[if_pos z] at d;by_cases h:(dN (x::(a++c::b)) 1 (if x.toNat=240 then 144 else 128) (if x.toNat=244 then 143 else 191) && dN (x::(a++c::b)) 2 128 191 && dN (x::(a++c::b)) 3 128 191)=true
     ·rw[if_pos h] at d;rw[cO_,cO_] at h;have C:=f _ _ _ (k _ _ (by omega)) h.1.1
      have H:=f _ _ _ (by omega) h.1.2
      have I:=f _ _ _ (by omega) h.2
      omega
     ·rw[if_neg h] at d;omega
    ·rw[if_neg z] at d;omega
   have B:(x::a++c::b).drop (bK (x::a++c::b))=(x::a).drop (bK (x::a++c::b))++c::b:=by rw[List.drop_append_of_le_length q]
   obtain⟨A,E⟩:=F B.symm;refine⟨?_,E⟩;have e:bK (x::a)=bK (x::a++c::b):=oG o fun i j=>(cX_ (by omega)).symm
   exact .cons (by rw[e];exact o) (by rw[e];exact A)
def qP:∀(f:Nat) (l:cD) (p:Nat),l.length<=f->dY f l p=none->dB l
 |0,l,_,h,_=>by
  obtain rfl:l=[]:=cF_ (by omega)
  exact .nil
 |f+1,l,p,h,a=>by
  rw[dY] at a;split at a
  ·rename_i c;obtain rfl:l=[]:=cF_ c;exact .nil
  split at a
  ·cases a
  rename_i b;exact .cons b (qP f _ _ (by rw[c9_];omega) a)
def PA(f:Nat):∀(b l:cD) (ts:List bB),eW f b l=.ok ts->dB (b++l)->∀t∈ts,t.sort=115->OO t.text:=by
 induction f with
 |zero=>intro b l ts h;cases h
 |succ f w=>
  intro b l ts h q t e a;by_cases g:l.length=0
  ·rw[nE _ _ _ g] at h;cases h;rw[cs_.1 e] at a;cases a
  ·cases d:(cG l).ok
   ·rw[nF _ _ _ g d] at h;cases h
   ·rw[mS _ _ _ g d _ rfl] at h;generalize x:(cG l).size+blankL l.length (l.drop (cG l).size)=m at h;cases j:eW f (b++l.take m) (l.drop m) with
    |error n=>rw[j] at h;cases h
    |ok v=>
     rw[j] at h;cases h;rcases cv_.1 e with rfl|e
     ·cases l with
      |nil=>simp at g
      |cons c r=>
       rw[cG] at a d ⊢
       by_cases o:(eN c || fS c)=true
       ·rw[if_pos o] at a;exfalso;unfold iE at a;split at a
        ·simp only at a;split at a<;>omega
        ·simp at a
       rw[if_neg o] at a d ⊢
       by_cases k:c.toNat=34
       ·rw[if_pos k] at d ⊢
        simp only[oP,cO_,decide_eq_true_eq] at d;refine⟨by simp only[oP,da_];omega,?_⟩
        have u:r=r.take (bP fQ r)++34::r.drop (bP fQ r+1):=by
         obtain⟨i,s⟩:=cQ_.1 d.1;conv=>lhs;rw[<-cY_ (bP fQ r) r,dC_ i,s]
        have p:=(q.split (by omega)).2
        rw[u] at p;exact(p.split (by decide)).1
       ·rw[if_neg k] at a;exfalso;unfold iD at a;split at a<;>simp at a
     ·exact w _ _ v j (by rw[c4_,cY_];exact q) t e a
def pF{l:cD}{ts:List bB}(h:iC l=.ok ts)(c:dY l.length l 0=none):sX ts:=fun p a=>by
 unfold aT at a ⊢
 cases b:ts[p]? with
 |none=>rw[b] at a;cases a
 |some t=>
  rw[b] at a;exact PA _ _ _ _ h (by rw[cY_];exact qP _ _ _ cL c) t (c0_ b) a
def wL{l:cD}{ks:List aE}(h:cW l=.ok ks):∀f∈ks,sY f:=by
 unfold cW at h;split at h
 ·cases h
 split at h
 ·cases h
 rename_i a;split at h
 ·cases h
 rename_i c d;split at h
 ·cases h
 rename_i q b;cases h;exact rZ (fun q=>VL (fun e=>zR (fun q=>qC c (pF d a) _ q) _ e) q) _ _ _ fD.nil _ _ b
def qH(s:bD)(l k:Nat)(h:s.kind≠0):(s.found l k).kind≠0:=by unfold bD.found;rw[if_neg h];exact h
def qY(s:bD)(n:aE)(h:s.kind≠0):(declaresL s n).kind≠0:=by
 unfold declaresL;split
 ·exact qH _ _ _ h
 ·exact h
def RD(fs:List aE)(alone:Bool)(s:bD)(n:aE)(h:s.kind≠0):(cK fs alone s n).kind≠0:=by
 unfold cK eO;repeat' split
 all_goals first|exact qH _ _ _ h|exact h
def iI{f:bD->aE->bD}(a:∀s k,s.kind≠0->(f s k).kind≠0):∀(l:List aE) (s:bD),s.kind≠0->(l.foldl f s).kind≠0
 |[],_,h=>h
 |k::l,s,h=>iI a l _ (a s k h)
def fV(fs:List aE)(alone:Bool):∀(d:Nat) (n:aE) (s:bD),s.kind≠0->(aP fs alone d n s).kind≠0
 |0,_,_,h=>h
 |d+1,n,s,h=>by
  rw[aP];split
  ·split
   ·exact fV fs alone d _ _ (qY s _ h)
   ·exact h
  ·have a:(n.kids.foldl (fun s k=>aP fs alone d k s) (cK fs alone s n)).kind≠0:=iI (fun s k b=>fV fs alone d k s b) _ _ (RD fs alone s n h)
   simp only;split<;>exact a
def ExOk.up{fs:List aE}{alone:Bool}{seen:cN}:∀{d e:Nat} {a:aE},ExOk fs alone seen d a->d<=e->ExOk fs alone seen e a
 |0,_,_,h,_=>h.elim
 |d+1,0,_,_,h=>by omega
 |d+1,e+1,a,h,j=>by
  have f:∀k,ExOk fs alone seen d k->ExOk fs alone seen e k:=fun k b=>ExOk.up b (by omega)
  rcases h with h|h|⟨c,b⟩|⟨c,l,r,b,g,i⟩|⟨c,l,b,g⟩|⟨c,b,m⟩|⟨c,l,r,b,g,i⟩
  ·exact cl_ h
  ·exact ck_ (cl_ h)
  ·exact ck_ (ck_ (cl_ ⟨c,fun k h=>f k (b k h)⟩))
  ·exact ck_ (ck_ (ck_ (cl_ ⟨c,l,r,b,f l g,f r i⟩)))
  ·exact ck_ (ck_ (ck_ (ck_ (cl_ ⟨c,l,b,f l g⟩))))
  ·exact ck_ (ck_ (ck_ (ck_ (ck_ (cl_ ⟨c,fun k h=>f k (b k h),m⟩)))))
  ·exact ck_ (ck_ (ck_ (ck_ (ck_ (ck_ ⟨c,l,r,b,f l g,f r i⟩)))))
def StsOk.up{S b:cN->aE->Prop}(h:∀s a,S s a->b s a):∀{l:List aE} {seen:cN},StsOk S seen l->StsOk b seen l
 |[],_,_=>trivial
 |_::_,_,c=>⟨h _ _ c.1,StsOk.up h c.2⟩
def dM.up{fs:List aE}:∀{d e:Nat} {seen:cN} {a:aE},dM fs d seen a->d<=e->dM fs e seen a
 |0,_,_,_,h,_=>h.elim
 |d+1,0,_,_,_,h=>by omega
 |d+1,e+1,seen,a,h,w=>by
  have j:∀k,ExOk fs false seen d k->ExOk fs false seen e k:=fun k f=>f.up (by omega)
  have i:∀l,StsOk (dM fs d) seen l->StsOk (dM fs e) seen l:=fun l z=>z.up fun s a h=>dM.up h (by omega)
  rcases h with ⟨g,o,t,v,f,m,p⟩|⟨g,p,n,f⟩|⟨g,c,t,f,q,u⟩|⟨g,c,b,f,q,o⟩|⟨g,f|⟨v,f,m⟩⟩|⟨g,v,f,m⟩|⟨g,v,f,m⟩
  ·exact cl_ ⟨g,o,t,v,f,j v m,p⟩
  ·exact ck_ (cl_ ⟨g,p,n,fun k h=>j k (f k h)⟩)
  ·exact ck_ (ck_ (cl_ ⟨g,c,t,f.imp id fun ⟨x,y,r⟩=>⟨x,y,i _ r⟩,j c q,i _ u⟩))
  ·exact ck_ (ck_ (ck_ (cl_ ⟨g,c,b,f,j c q,i _ o⟩)))
  ·exact ck_ (ck_ (ck_ (ck_ (cl_ ⟨g,cl_ f⟩))))
  ·exact ck_ (ck_ (ck_ (ck_ (cl_ ⟨g,ck_ ⟨v,f,j v m⟩⟩))))
  ·exact ck_ (ck_ (ck_ (ck_ (ck_ (cl_ ⟨g,v,f,j v m⟩)))))
  ·exact ck_ (ck_ (ck_ (ck_ (ck_ (ck_ ⟨g,v,f,j v m⟩)))))
def iO{s:bD}{l k:Nat}(a:k≠0)(h:(s.found l k).kind=0):False:=by
 unfold bD.found at h;split at h
 ·exact a h
 ·rename_i b;exact b h
def vF{f:aE}{a:cD}:∀{fs:List aE},dS fs a=some f->fs[dG fs a]?=some f
 |[],h=>by simp[dS] at h
 |x::l,h=>by
  unfold dS dG at*;rw[List.find?_cons] at h;rw[List.findIdx_cons];cases b:(x.text==a) with
  |true=>rw[b] at h;simp at h;simp[h]
  |false=>
   rw[b] at h;simp only[cond_false,List.getElem?_cons_succ];exact vF (fs:=l) h
def nT(fs:List aE)(alone:Bool)(d:Nat)(a:aE):Prop:=
 ∀sn,(aP fs alone d a ⟨sn,0,0⟩).kind=0->aP fs alone d a ⟨sn,0,0⟩=⟨sn,0,0⟩/\ExOk fs alone sn.reverse d a
def kI{fs:List aE}{alone:Bool}{d:Nat}:∀(l:List aE) (b:cN),(∀k∈l,nT fs alone d k)->(l.foldl (fun s k=>aP fs alone d k s) ⟨b,0,0⟩).kind=0->
 l.foldl (fun s k=>aP fs alone d k s) ⟨b,0,0⟩=⟨b,0,0⟩/\∀k∈l,ExOk fs alone b.reverse d k
 |[],b,_,_=>⟨rfl,fun k c=>by cases c⟩
 |a::l,b,h,e=>by
  rw[dt_] at e ⊢
  have i:(aP fs alone d a ⟨b,0,0⟩).kind=0:=cT_ fun f=>iI (fun s k o=>fV fs alone d k s o) l _ f e
  obtain⟨m,g⟩:=h a (cJ_ ..) b i;rw[m] at e ⊢
  obtain⟨n,j⟩:=kI l b (fun k c=>h k (cx_ _ c)) e
  refine⟨n,fun k c=>?_⟩
  rcases cv_.1 c with rfl|c
  ·exact g
  ·exact j k c
def gC{fs:List aE}{alone:Bool}{d:Nat}{n:aE}{s:bD}(b:n.op≠[118,97,114])(a:n.op≠[98,108,111,99,107]):aP fs alone (d+1) n s=n.kids.foldl (fun s k=>aP fs alone d k s) (cK fs alone s n):=by
 rw[aP];rw[if_neg (by simpa using b)]
 simp only;rw[if_neg (by simpa using a)]
def look_plain{fs:List aE}{alone:Bool}{n:aE}{s:bD}(b:n.op≠[115,101,116])(a:n.op≠[110,97,109,101])(c:n.op≠[99,97,108,108]):cK fs alone s n=s:=by
 unfold cK;rw[if_neg (by simp[b,a]),if_neg (by simpa using c)]
def nS{fs:List aE}{alone:Bool}(o:∀f∈fs,f.kids≠[])(q:alone=true->fs=[]):∀(d:Nat) (a:aE),dJ a->fF d a->nT fs alone d a
 |0,_,_,h=>h.elim
 |d+1,a,J,G=>by
  intro v m
  have two:∀(l r:aE),a.kids=[l,r]->dJ l->dJ r->∀k∈a.kids,nT fs alone d k:=fun l r i C D k b=>by
   have w:=G k b;rw[i] at b;rcases cv_.1 b with rfl|b
   ·exact nS o q d _ C w
   ·obtain rfl:=cs_.1 b;exact nS o q d _ D w
  have B:a.op≠[118,97,114]/\a.op≠[98,108,111,99,107]:=by
   cases J with
   |leaf _ h=>rcases h with h|h|h|h<;>rw[h]<;>decide
   |many _ h=>rcases h with h|h<;>rw[h]<;>decide
   |one _ l h=>rcases h with h|h<;>rw[h]<;>decide
   |two _ l r h=>
    rcases h with h|h
    ·rw[h];decide
    ·exact⟨fun e=>by rw[e] at h;exact h (by decide),fun e=>by rw[e] at h;exact h (by decide)⟩
  rw[gC B.1 B.2] at m ⊢
  have g:(cK fs alone ⟨v,0,0⟩ a).kind=0:=cT_ fun z=>iI (fun s k M=>fV fs alone d k s M) a.kids _ z m
  cases J with
  |leaf _ h i=>
   rw[i] at m ⊢
   simp only[dU_] at m ⊢
   rcases h with h|h|h|h
   ·exact⟨look_plain (by rw[h];decide) (by rw[h];decide) (by rw[h];decide),cl_ ⟨cl_ h,i⟩⟩
   ·exact⟨look_plain (by rw[h];decide) (by rw[h];decide) (by rw[h];decide),cl_ ⟨ck_ (cl_ h),i⟩⟩
   ·exact⟨look_plain (by rw[h];decide) (by rw[h];decide) (by rw[h];decide),cl_ ⟨ck_ (ck_ h),i⟩⟩
   ·unfold cK at g ⊢
    rw[if_pos (by simp[h])] at g ⊢
    split at g
    ·rename_i K;rw[if_pos K];exact⟨rfl,ck_ (cl_ ⟨h,i,by simpa using K⟩)⟩
    ·exact(iO (by decide) g).elim
  |many _ h i=>
   have E:∀k∈a.kids,nT fs alone d k:=fun k b=>nS o q d k (i k b) (G k b)
   rcases h with h|h
   ·rw[look_plain (by rw[h];decide) (by rw[h];decide) (by rw[h];decide)] at m ⊢
    obtain⟨A,t⟩:=kI a.kids v E m;exact⟨A,ck_ (ck_ (cl_ ⟨h,t⟩))⟩
   ·have e:cK fs alone ⟨v,0,0⟩ a=eO fs alone ⟨v,0,0⟩ a:=by unfold cK;rw[if_neg (by simp[h]),if_pos (by simp[h])]
    rw[e] at m g ⊢
    unfold eO at m g ⊢
    split at g
    ·exact(iO (by decide) g).elim
    rename_i x;rw[if_neg x] at m ⊢
    split at g
    ·exact(iO (by decide) g).elim
    rename_i j;rw[if_neg j] at m ⊢
    obtain⟨A,t⟩:=kI a.kids v E m;refine⟨A,ck_ (ck_ (ck_ (ck_ (ck_ (cl_ ⟨h,t,?_⟩)))))⟩;simp only[ne_eq,Decidable.not_not] at j;unfold jC at x j;by_cases n:a.text=[108,101,110]
    ·rw[if_pos (by simp[n])] at j
     exact cl_ ⟨n,by omega⟩
    rw[if_neg (by simp[n])] at x j
    by_cases c:a.text=[114,101,97,100]/\alone=false
    ·rw[if_pos (by simp[c])] at j
     exact ck_ (cl_ ⟨c.1,c.2,by omega⟩)
    have u:¬((a.text==[114,101,97,100] && !alone)=true):=by
     intro I;simp at I;exact c I
    rw[if_neg u] at x j;cases F:dS fs a.text with
    |none=>rw[F] at x;simp at x
    |some f=>
     rw[F] at x j;simp only at x j;have p:f∈fs:=df_ F;have z:=o f p;have H:0<f.kids.length:=c7_.2 z
     have y:alone=false:=by
      cases alone with
      |false=>rfl
      |true=>rw[q rfl] at p;cases p
     refine ck_ (ck_ ⟨n,fun D=>c ⟨D,y⟩,y,?_⟩)
     unfold fZ;rw[vF F];simp;omega
  |one _ l h i C=>
   have E:∀k∈a.kids,nT fs alone d k:=fun k b=>by
    have w:=G k b;rw[i] at b;obtain rfl:=cs_.1 b;exact nS o q d _ C w
   rw[look_plain (by rcases h with h|h<;>rw[h]<;>decide) (by rcases h with h|h<;>rw[h]<;>decide) (by rcases h with h|h<;>rw[h]<;>decide)] at m ⊢
   obtain⟨A,t⟩:=kI a.kids v E m;exact⟨A,ck_ (ck_ (ck_ (ck_ (cl_ ⟨h,l,i,t l (by rw[i];simp)⟩))))⟩
  |two _ l r h i C D=>
   have L:cK fs alone ⟨v,0,0⟩ a=⟨v,0,0⟩:=by
    rcases h with h|h
    ·exact look_plain (by rw[h];decide) (by rw[h];decide) (by rw[h];decide)
    ·exact look_plain (fun e=>by rw[e] at h;exact h (by decide)) (fun e=>by rw[e] at h;exact h (by decide)) (fun e=>by rw[e] at h;exact h (by decide))
   rw[L] at m ⊢
   obtain⟨A,t⟩:=kI a.kids v (two l r i C D) m;refine⟨A,?_⟩;rcases h with h|h
   ·exact ck_ (ck_ (ck_ (cl_ ⟨h,l,r,i,t l (by rw[i];simp),t r (by rw[i];simp)⟩)))
   ·exact ck_ (ck_ (ck_ (ck_ (ck_ (ck_ ⟨h,l,r,i,t l (by rw[i];simp),t r (by rw[i];simp)⟩)))))
def tM(fs:List aE)(d:Nat)(a:aE):Prop:=
 ∀sn,sn.length+cC d a<=40000->(aP fs false d a ⟨sn,0,0⟩).kind=0->∃sn',aP fs false d a ⟨sn,0,0⟩=⟨sn',0,0⟩/\sn'.reverse=cZ sn.reverse a/\dM fs d sn.reverse a/\sn'.length<=sn.length+cC d a/\sn=sn'.take sn.length
def zM{fs:List aE}{d:Nat}:∀(l:List aE) (b:cN),(∀k∈l,tM fs d k)->b.length+(l.map (cC d)).sum<=40000->(l.foldl (fun s k=>aP fs false d k s) ⟨b,0,0⟩).kind=0->
 ∃c,l.foldl (fun s k=>aP fs false d k s) ⟨b,0,0⟩=⟨c,0,0⟩/\StsOk (dM fs d) b.reverse l/\c.length<=b.length+(l.map (cC d)).sum/\b=c.take b.length
 |[],b,_,_,_=>⟨b,rfl,trivial,by simp,by simp⟩
 |a::l,b,h,t,f=>by
  rw[dt_] at f ⊢
  simp only[cE_,cH_] at t ⊢
  have o:(aP fs false d a ⟨b,0,0⟩).kind=0:=cT_ fun g=>iI (fun s k v=>fV fs false d k s v) l _ g f
  obtain⟨i,q,n,u,z,m⟩:=h a (cJ_ ..) b (by omega) o
  rw[q] at f ⊢
  obtain⟨j,w,r,A,x⟩:=zM l i (fun k p=>h k (cx_ _ p)) (by omega) f
  refine⟨j,w,⟨u,by rw[<-n];exact r⟩,by omega,?_⟩
  have y:b.length<=i.length:=by have:=congrArg List.length m;simp only[da_] at this;omega
  have e:i.take b.length=j.take b.length:=by
   conv=>lhs;rw[x]
   rw[dF_];congr 1;omega
  rw[<-e];exact m
def GM{fs:List aE}{d:Nat}{b:aE}{a c:cN}(e:b.op=[98,108,111,99,107])(h:b.kids.foldl (fun s k=>aP fs false d k s) ⟨a,0,0⟩=⟨c,0,0⟩)(f:a=c.take a.length):aP fs false (d+1) b ⟨a,0,0⟩=⟨a,0,0⟩:=by
 rw[aP,if_neg (by simp[e])]
 have:cK fs false ⟨a,0,0⟩ b=⟨a,0,0⟩:=look_plain (by rw[e];decide) (by rw[e];decide) (by rw[e];decide)
 simp only[this,h];rw[if_pos (by simp[e])]
 congr 1
 exact f.symm
def uL{fs:List aE}{d:Nat}{b:aE}{c:cN}(a:b.op=[98,108,111,99,107])(h:(aP fs false (d+1) b ⟨c,0,0⟩).kind=0):(b.kids.foldl (fun s k=>aP fs false d k s) ⟨c,0,0⟩).kind=0:=by
 rw[aP,if_neg (by simp[a])] at h
 have:cK fs false ⟨c,0,0⟩ b=⟨c,0,0⟩:=look_plain (by rw[a];decide) (by rw[a];decide) (by rw[a];decide)
 simp only[this] at h;rw[if_pos (by simp[a])] at h
 exact h
def kU{fs:List aE}{d:Nat}{b:aE}{a:cN}(c:b.op=[98,108,111,99,107])(j:∀k∈b.kids,tM fs d k)(e:a.length+cC (d+1) b<=40000)(h:(aP fs false (d+1) b ⟨a,0,0⟩).kind=0):
 aP fs false (d+1) b ⟨a,0,0⟩=⟨a,0,0⟩/\StsOk (dM fs d) a.reverse b.kids:=by
 rw[cC] at e;obtain⟨l,i,f,m,g⟩:=zM b.kids a j (by omega) (uL c h)
 exact⟨GM c i g,f⟩
def OY{fs:List aE}{d:Nat}{a x y:aE}{s:bD}(b:a.kids=[x,y])(f:a.op≠[118,97,114])(e:a.op≠[98,108,111,99,107])(c:cK fs false s a=s):aP fs false (d+1) a s=aP fs false d y (aP fs false d x s):=by
 rw[gC f e,c,b];rfl
def Q0{fs:List aE}{d:Nat}{a x y z:aE}{s:bD}(b:a.kids=[x,y,z])(f:a.op≠[118,97,114])(e:a.op≠[98,108,111,99,107])(c:cK fs false s a=s):aP fs false (d+1) a s=aP fs false d z (aP fs false d y (aP fs false d x s)):=by
 rw[gC f e,c,b];rfl
def JX{d:Nat}{a k:aE}(h:k∈a.kids):cC d k+1<=cC (d+1) a:=by
 rw[cC]
 have:∀l:List aE,k∈l->cC d k<=(l.map (cC d)).sum:=by
  intro l;induction l with
  |nil=>intro h;cases h
  |cons x l b=>
   intro h;simp only[cE_,cH_];rcases cv_.1 h with rfl|h
   ·omega
   ·have:=b h;omega
 have:=this _ h;omega
def KF{fs:List aE}(J:∀f∈fs,f.kids≠[]):∀(d:Nat) (a:aE),iA a->fF d a->tM fs d a
 |0,_,_,h=>h.elim
 |1,a,U,L=>by
  have o:∀k∈a.kids,False:=fun k b=>L k b
  intro g W j;cases U with
  |var _ t v h b A=>exact(o t (by rw[b];simp)).elim
  |set _ h T b=>cases G:a.kids with|nil=>exact(T G).elim|cons x l=>exact(o x (by rw[G];simp)).elim
  |if2 _ c t h b=>exact(o c (by rw[b];simp)).elim
  |if3 _ c t x h b=>exact(o c (by rw[b];simp)).elim
  |whl _ c t h b=>exact(o c (by rw[b];simp)).elim
  |ret1 _ v h b=>exact(o v (by rw[b];simp)).elim
  |print _ v h b=>exact(o v (by rw[b];simp)).elim
  |call _ c h b=>exact(o c (by rw[b];simp)).elim
  |ret0 _ h b=>
   have n:cK fs false ⟨g,0,0⟩ a=⟨g,0,0⟩:=look_plain (by rw[h];decide) (by rw[h];decide) (by rw[h];decide)
   refine⟨g,by rw[gC (by rw[h];decide) (by rw[h];decide),n,b];rfl,by unfold cZ;rw[if_neg (by rw[h];decide)],?_,by omega,by simp⟩
   exact ck_ (ck_ (ck_ (ck_ (cl_ ⟨h,cl_ b⟩))))
 |d+2,a,U,L=>by
  intro g W j;have p:∀k,k∈a.kids->dJ k->nT fs false (d+1) k:=fun k b Z=>nS J (fun h=>by cases h) (d+1) k Z (L k b)
  have z:∀k,k∈a.kids->(∀x∈k.kids,iA x)->∀x∈k.kids,tM fs d x:=fun k b S x M=>KF J d x (S x M) (L k b x M)
  have y:∀k,k∈a.kids->g.length+cC (d+1) k<=40000:=fun k b=>by have:cC (d+1) k+1<=cC (d+2) a:=JX (d:=d+1) b;omega
  have i:a.op≠[118,97,114]->g.reverse=cZ g.reverse a:=fun h=>by unfold cZ;rw[if_neg h]
  cases U with
  |var _ t v h b A=>
   have e:aP fs false (d+2) a ⟨g,0,0⟩={ aP fs false (d+1) v (declaresL ⟨g,0,0⟩ t) with seen:=(aP fs false (d+1) v (declaresL ⟨g,0,0⟩ t)).seen++[t.text] }:=by
    rw[aP,if_pos (by simp[h]),b]
   rw[e] at j ⊢
   have D:(declaresL ⟨g,0,0⟩ t).kind=0:=cT_ fun m=>fV fs false (d+1) v _ m j
   obtain⟨N,O⟩:declaresL ⟨g,0,0⟩ t=⟨g,0,0⟩/\t.text∉g:=by
    unfold declaresL at D ⊢
    split at D
    ·exact(iO (by decide) D).elim
    ·rename_i P;rw[if_neg P];simp at P;exact⟨rfl,P.2⟩
   rw[N] at j ⊢
   obtain⟨r,q⟩:=p v (by rw[b];simp) A g j
   rw[r];have X:cC (d+1) v+1<=cC (d+2) a:=JX (d:=d+1) (a:=a) (k:=v) (by rw[b];simp)
   refine⟨g++[t.text],rfl,?_,cl_ ⟨h,by simp;omega,t,v,b,q,by simpa using O⟩,by simp;omega,by simp⟩
   unfold cZ;rw[if_pos h,b];simp
  |set _ h T b=>
   rw[gC (by rw[h];decide) (by rw[h];decide)] at j ⊢
   have w:(cK fs false ⟨g,0,0⟩ a).kind=0:=cT_ fun m=>iI (fun s k S=>fV fs false (d+1) k s S) a.kids _ m j
   have n:cK fs false ⟨g,0,0⟩ a=⟨g,0,0⟩/\a.text∈g:=by
    unfold cK at w ⊢
    rw[if_pos (by simp[h])] at w ⊢
    split at w
    ·rename_i B;rw[if_pos B];exact⟨rfl,by simpa using B⟩
    ·exact(iO (by decide) w).elim
   rw[n.1] at j ⊢
   obtain⟨r,q⟩:=kI a.kids g (fun k H=>p k H (b k H)) j
   exact⟨g,r,i (by rw[h];decide),ck_ (cl_ ⟨h,by simpa using n.2,T,q⟩),by omega,by simp⟩
  |if2 _ c t h b B F u=>
   have n:cK fs false ⟨g,0,0⟩ a=⟨g,0,0⟩:=look_plain (by rw[h];decide) (by rw[h];decide) (by rw[h];decide)
   rw[OY b (by rw[h];decide) (by rw[h];decide) n] at j ⊢
   have E:(aP fs false (d+1) c ⟨g,0,0⟩).kind=0:=cT_ fun m=>fV fs false (d+1) t _ m j
   obtain⟨r,q⟩:=p c (by rw[b];simp) B g E
   rw[r] at j ⊢
   obtain⟨K,I⟩:=kU F (z t (by rw[b];simp) u) (y t (by rw[b];simp)) j
   exact⟨g,K,i (by rw[h];decide),ck_ (ck_ (cl_ ⟨h,c,t,cl_ b,q,I.up fun s a h=>h.up (by omega)⟩)),by omega,by simp⟩
  |if3 _ c t x h b B F u M Q=>
   have n:cK fs false ⟨g,0,0⟩ a=⟨g,0,0⟩:=look_plain (by rw[h];decide) (by rw[h];decide) (by rw[h];decide)
   rw[Q0 b (by rw[h];decide) (by rw[h];decide) n] at j ⊢
   have C:(aP fs false (d+1) t (aP fs false (d+1) c ⟨g,0,0⟩)).kind=0:=cT_ fun m=>fV fs false (d+1) x _ m j
   have E:(aP fs false (d+1) c ⟨g,0,0⟩).kind=0:=cT_ fun m=>fV fs false (d+1) t _ m C
   obtain⟨r,q⟩:=p c (by rw[b];simp) B g E
   rw[r] at j C ⊢
   obtain⟨K,I⟩:=kU F (z t (by rw[b];simp) u) (y t (by rw[b];simp)) C
   rw[K] at j ⊢
   obtain⟨V,Y⟩:=kU M (z x (by rw[b];simp) Q) (y x (by rw[b];simp)) j
   exact⟨g,V,i (by rw[h];decide),ck_ (ck_ (cl_ ⟨h,c,t,ck_ ⟨x,b,Y.up fun s a h=>h.up (by omega)⟩,q,I.up fun s a h=>h.up (by omega)⟩)),by omega,by simp⟩
  |whl _ c t h b B F u=>
   have n:cK fs false ⟨g,0,0⟩ a=⟨g,0,0⟩:=look_plain (by rw[h];decide) (by rw[h];decide) (by rw[h];decide)
   rw[OY b (by rw[h];decide) (by rw[h];decide) n] at j ⊢
   have E:(aP fs false (d+1) c ⟨g,0,0⟩).kind=0:=cT_ fun m=>fV fs false (d+1) t _ m j
   obtain⟨r,q⟩:=p c (by rw[b];simp) B g E
   rw[r] at j ⊢
   obtain⟨K,I⟩:=kU F (z t (by rw[b];simp) u) (y t (by rw[b];simp)) j
   exact⟨g,K,i (by rw[h];decide),ck_ (ck_ (ck_ (cl_ ⟨h,c,t,b,q,I.up fun s a h=>h.up (by omega)⟩))),by omega,by simp⟩
  |ret0 _ h b=>
   have n:cK fs false ⟨g,0,0⟩ a=⟨g,0,0⟩:=look_plain (by rw[h];decide) (by rw[h];decide) (by rw[h];decide)
   refine⟨g,by rw[gC (by rw[h];decide) (by rw[h];decide),n,b];rfl,i (by rw[h];decide),?_,by omega,by simp⟩
   exact ck_ (ck_ (ck_ (ck_ (cl_ ⟨h,cl_ b⟩))))
  |ret1 _ v h b A=>
   have n:cK fs false ⟨g,0,0⟩ a=⟨g,0,0⟩:=look_plain (by rw[h];decide) (by rw[h];decide) (by rw[h];decide)
   rw[gC (by rw[h];decide) (by rw[h];decide),n,b] at j ⊢
   simp only[dt_,dU_] at j ⊢
   obtain⟨r,q⟩:=p v (by rw[b];simp) A g j
   exact⟨g,r,i (by rw[h];decide),ck_ (ck_ (ck_ (ck_ (cl_ ⟨h,ck_ ⟨v,b,q⟩⟩)))),by omega,by simp⟩
  |print _ v h b A=>
   have n:cK fs false ⟨g,0,0⟩ a=⟨g,0,0⟩:=look_plain (by rw[h];decide) (by rw[h];decide) (by rw[h];decide)
   rw[gC (by rw[h];decide) (by rw[h];decide),n,b] at j ⊢
   simp only[dt_,dU_] at j ⊢
   obtain⟨r,q⟩:=p v (by rw[b];simp) A g j
   exact⟨g,r,i (by rw[h];decide),ck_ (ck_ (ck_ (ck_ (ck_ (cl_ ⟨h,v,b,q⟩))))),by omega,by simp⟩
  |call _ v h b A=>
   have n:cK fs false ⟨g,0,0⟩ a=⟨g,0,0⟩:=look_plain (by rw[h];decide) (by rw[h];decide) (by rw[h];decide)
   rw[gC (by rw[h];decide) (by rw[h];decide),n,b] at j ⊢
   simp only[dt_,dU_] at j ⊢
   obtain⟨r,q⟩:=p v (by rw[b];simp) A g j
   exact⟨g,r,i (by rw[h];decide),ck_ (ck_ (ck_ (ck_ (ck_ (ck_ ⟨h,v,b,q⟩))))),by omega,by simp⟩
def gO:aE->Nat
 |⟨_,_,_,kids⟩=>1+(kids.attach.map fun ⟨k,_⟩=>gO k).sum
def lK(a:aE):gO a=1+(a.kids.map gO).sum:=by
 obtain⟨e,d,c,b⟩:=a;rw[gO];congr 2
 simp
def sE:∀(d:Nat) (a:aE),fF d a->gO a<=cC d a
 |0,_,h=>h.elim
 |d+1,a,h=>by
  rw[lK,cC]
  have:∀l:List aE,(∀k∈l,gO k<=cC d k)->(l.map gO).sum<=(l.map (cC d)).sum:=by
   intro l;induction l with
   |nil=>intro _;simp
   |cons x l c=>
    intro h;simp only[cE_,cH_];have f:=h x (cJ_ ..);have e:=c fun k b=>h k (cx_ _ b)
    omega
  have:=this a.kids fun k b=>sE d k (h k b)
  omega
def rW{c:aE->Nat->List aI}{m:Nat}(h:∀a p,(c a p).length<=m*gO a):∀(l:List aE) (p:Nat),(bV c l p).length<=m*(l.map gO).sum
 |[],_=>by simp[bV]
 |a::l,p=>by
  simp only[bV,cp_,cE_,cH_,Nat.mul_add];have d:=h a p;have b:=rW h l (p+(c a p).length);omega
def lZ(fs:List aE)(seen:cN):∀(d:Nat) (a:aE) (p:Nat),(aF fs seen d a p).length<=2*gO a
 |0,_,_=>by simp[aF]
 |d+1,a,p=>by
  have z:=rW (m:=2) (fun a p=>lZ fs seen d a p) a.kids p
  have v:=lK a;have n:=fun l q=>lZ fs seen d l q
  rw[aF];simp only;generalize bV (aF fs seen d) a.kids p=y at z ⊢
  generalize (if (a.text==[108,101,110])=true then aI.length else if (a.text==[114,101,97,100])=true then aI.read else aI.call (dG fs a.text) a.kids.length)=g
  generalize aF fs seen d=E at*;have c:∀i:aI,(y++[i]).length<=2*gO a:=fun i=>by simp only[cp_,ct_,cA_];omega
  have b:∀i:aI,([i]:List aI).length<=2*gO a:=fun i=>by simp only[ct_,cA_];omega
  by_cases o:(a.op==[48])=true
  ·rw[if_pos o];exact b _
  rw[if_neg o];by_cases s:(a.op==[115])=true
  ·rw[if_pos s];exact b _
  rw[if_neg s];by_cases t:(a.op==[98,111,111,108])=true
  ·rw[if_pos t];exact b _
  rw[if_neg t];by_cases x:(a.op==[110,97,109,101])=true
  ·rw[if_pos x];exact b _
  rw[if_neg x];by_cases u:(a.op==[108,105,115,116])=true
  ·rw[if_pos u];exact c _
  rw[if_neg u];by_cases w:(a.op==[105,110,100,101,120])=true
  ·rw[if_pos w];exact c _
  rw[if_neg w];by_cases k:(a.op==[45,120])=true
  ·rw[if_pos k];exact c _
  rw[if_neg k];by_cases h:(a.op==[33,120])=true
  ·rw[if_pos h];exact c _
  rw[if_neg h];by_cases j:(a.op==[99,97,108,108])=true
  ·rw[if_pos j];exact c _
  rw[if_neg j];by_cases e:(a.op==[38,38] || a.op==[124,124])=true
  ·rw[if_pos e];split
   ·rename_i l r f;have A:=n l p;have B:=n r (p+(E l p).length+1);rw[f] at v;simp only[cE_,c1_,cH_,c6_] at v;simp only[cp_,ct_,cA_];omega
   ·simp
  ·rw[if_neg e];exact c _
def rN{c:cN->aE->Nat->List aI × cN}{m:Nat}(h:∀s a p,(c s a p).1.length<=m*gO a):∀(l:List aE) (s:cN) (p:Nat),(bL c s l p).length<=m*(l.map gO).sum
 |[],_,_=>by simp[bL]
 |a::l,s,p=>by
  simp only[bL,cp_,cE_,cH_,Nat.mul_add];have d:=h s a p;have b:=rN h l (c s a p).2 (p+(c s a p).1.length);omega
def DT(fs:List aE):∀(d:Nat) (seen:cN) (a:aE) (p:Nat),(aX fs d seen a p).1.length<=3*gO a
 |0,_,_,_=>by simp[aX]
 |d+1,seen,a,p=>by
  have f:=lK a;have j:=fun (b:aE) q=>rN (m:=3) (fun s a p=>DT fs d s a p) b.kids seen q
  have h:=fun (x:aE) q=>lZ fs seen d x q
  have i:=fun (b:aE)=>lK b
  rw[aX];simp only;repeat' split
  all_goals try simp only[cp_,ct_,cA_]
  all_goals try omega
  ·rename_i t v e;have g:=h v (p+1);rw[e] at f;simp only[cE_,c1_,cH_,c6_] at f;omega
  ·have g:=rW (m:=2) (fun a p=>lZ fs seen d a p) a.kids (p+1)
   omega
  ·rename_i c t _ x e;have g:=h c (p+1);have k:=j t (p+1+(aF fs seen d c (p+1)).length+1);have l:=i t;have n:=i x;have o:=j x (p+1+(aF fs seen d c (p+1)).length+1+(bL (aX fs d) seen t.kids (p+1+(aF fs seen d c (p+1)).length+1)).length+1);rw[e] at f;simp only[cE_,c1_,cH_,c6_] at f;omega
  ·rename_i c t _ e _ _;have g:=h c (p+1);have k:=j t (p+1+(aF fs seen d c (p+1)).length+1);have l:=i t;rw[e] at f;simp only[cE_,cH_] at f;omega
  ·rename_i c t e;have g:=h c (p+1);have k:=j t (p+1+(aF fs seen d c (p+1)).length+1);have l:=i t;rw[e] at f;simp only[cE_,c1_,cH_,c6_] at f;omega
  all_goals
   rename_i v e;have g:=h v (p+1);rw[e] at f;simp only[cE_,c1_,cH_,c6_] at f;omega
def oU(fs:List aE)(d:Nat)(s:bD)(k:aE)(h:s.kind≠0):(eX fs d s k).kind≠0:=by
 unfold eX;split
 ·exact qY s k h
 ·exact fV fs false d k s h
def SS(fs:List aE)(d:Nat)(s:bD)(n:aE)(first:Bool)(h:s.kind≠0):(gP fs d s n first).kind≠0:=by
 unfold gP;refine iI (fun s k a=>oU fs d s k a) _ _ ?_
 show (if _ then _ else _:bD).kind≠0
 split
 ·exact qH _ _ _ h
 ·exact h
def GG(fs:List aE)(d:Nat):∀(a b:List aE) (s:bD),s.kind≠0->(fM fs d b a s).kind≠0
 |[],_,_,h=>h
 |n::a,b,s,h=>GG fs d a (b++[n]) _ (SS fs d s n _ h)
def sD{fs:List aE}{d:Nat}:∀(ps:List aE) (b:cN),(∀x∈ps,x.op=[112,97,114,97,109])->(ps.foldl (eX fs d) ⟨b,0,0⟩).kind=0->ps.foldl (eX fs d) ⟨b,0,0⟩=⟨b++ps.map (·.text),0,0⟩/\(b.Nodup->(b++ps.map (·.text)).Nodup)
 |[],b,_,_=>by simp
 |a::l,b,h,f=>by
  rw[dt_] at f ⊢
  have q:eX fs d ⟨b,0,0⟩ a={ declaresL ⟨b,0,0⟩ a with seen:=(declaresL ⟨b,0,0⟩ a).seen++[a.text] }:=by unfold eX;rw[if_pos (by simp[h a (cJ_ ..)])]
  have o:(eX fs d ⟨b,0,0⟩ a).kind=0:=cT_ fun g=>iI (fun s k u=>oU fs d s k u) l _ g f
  have c:(declaresL ⟨b,0,0⟩ a).kind=0:=by rw[q] at o;exact o
  obtain⟨i,j⟩:declaresL ⟨b,0,0⟩ a=⟨b,0,0⟩/\a.text∉b:=by
   unfold declaresL at c ⊢
   split at c
   ·exact(iO (by decide) c).elim
   ·rename_i m;rw[if_neg m];simp at m;exact⟨rfl,m.2⟩
  rw[q,i] at f ⊢
  obtain⟨r,p⟩:=sD l (b++[a.text]) (fun x n=>h x (cx_ _ n)) f
  rw[r];have e:b++[a.text]++l.map (·.text)=b++(a::l).map (·.text):=by simp
  rw[e] at p ⊢
  refine⟨rfl,fun v=>p ?_⟩
  rw[c5_];exact⟨v,by simp,fun x n y t=>by rw[cs_.1 t];exact fun e=>j (e▸n)⟩
def RV{fs:List aE}(A:∀f∈fs,sY f){d:Nat}{f:aE}(B:sY f)(F:fF (d+3) f)(H:∀e,cC e f<=2001){o:cN}{first:Bool}(n:(gP fs (d+2) ⟨o,0,0⟩ f first).kind=0):jG fs (d+2) f/\∃I,gP fs (d+2) ⟨o,0,0⟩ f first=⟨I,0,0⟩:=by
 obtain⟨g,b,j,D,y,_⟩:=B.kids;have c:∀f∈fs,f.kids≠[]:=fun f B=>by obtain⟨g,b,j,_⟩:=(A f B).kids;rw[j];simp
 unfold gP at n ⊢
 have G:({ (if gJ f.text || !first then bD.found ⟨o,0,0⟩ f.line 6 else ⟨o,0,0⟩) with seen:=[] }:bD).kind=0:=cT_ fun c=>iI (fun s k N=>oU fs (d+2) s k N) f.kids _ c n
 have z:({ (if gJ f.text || !first then bD.found ⟨o,0,0⟩ f.line 6 else ⟨o,0,0⟩) with seen:=[] }:bD)=⟨[],0,0⟩:=by
  split at G
  ·exact(iO (by decide) G).elim
  ·rename_i M;rw[if_neg M]
 rw[z,j,List.foldl_append,dt_,dU_] at n ⊢
 have C:(g.foldl (eX fs (d+2)) ⟨[],0,0⟩).kind=0:=cT_ fun c=>oU fs (d+2) _ b c n
 obtain⟨q,i⟩:=sD g [] D C;have i:=i List.nodup_nil;rw[dk_] at q i;rw[q] at n ⊢
 have v:eX fs (d+2) ⟨g.map (·.text),0,0⟩ b=aP fs false (d+2) b ⟨g.map (·.text),0,0⟩:=by unfold eX;rw[if_neg (by simp[y.op])]
 rw[v] at n ⊢
 have E:fF (d+2) b:=F b (by rw[j];simp)
 have r:=H (d+3);rw[cC,j] at r
 have w:∀l:List aE,l.length<=(l.map (cC (d+2))).sum:=by
  intro l;induction l with
  |nil=>simp
  |cons x l O=>simp only[cE_,cH_,ct_,cC];simp only[cC] at O;omega
 have:=w g;simp only[cZ_,ds_,cE_,c1_,cH_,c6_] at r;obtain⟨L,J⟩:=kU y.op (fun k u=>KF c (d+1) k (y.kids k u) (E k u)) (by show (g.map (·.text)).length+cC (d+2) b<=_;simp only[List.length_map];omega) n
 refine⟨⟨⟨g,b,j,J.up fun s a h=>h.up (by omega),i⟩,?_⟩,_,L⟩
 have T:=sE _ _ F;have K:=H (d+3);have S:(bL (aX fs (d+2)) (g.map (·.text)).reverse b.kids 0).length<=3*(b.kids.map gO).sum:=rN (m:=3) (fun s a p=>DT fs (d+2) s a p) b.kids (g.map (·.text)).reverse 0
 have t:=lK f;rw[j] at t;have P:=lK b;simp only[cZ_,ds_,cE_,c1_,cH_,c6_] at t;have Q:(fP fs (d+2) f).code.length=(bL (aX fs (d+2)) (g.map (·.text)).reverse b.kids 0).length+2:=by simp[fP,j]
 omega
def AI{fs:List aE}(c:∀f∈fs,sY f){d:Nat}:∀(a b:List aE) (k:cN),(∀f∈a,f∈fs/\fF (d+3) f/\∀e,cC e f<=2001)->(fM fs (d+2) b a ⟨k,0,0⟩).kind=0->∀f∈a,jG fs (d+2) f
 |[],_,_,_,_,f,g=>by cases g
 |n::a,b,k,h,i,f,g=>by
  rw[fM] at i;have o:(gP fs (d+2) ⟨k,0,0⟩ n (dS b n.text).isNone).kind=0:=cT_ fun j=>GG fs (d+2) a _ _ j i
  obtain⟨q,m,s⟩:=h n (cJ_ ..);obtain⟨r,l,p⟩:=RV c (c n q) m s o;rw[p] at i;rcases cv_.1 g with rfl|g
  ·exact r
  ·exact AI c a (b++[n]) l (fun f g=>h f (cx_ _ g)) i f g
def JW{e:Nat}{f:aE}:∀{l:List aE},f∈l->cC e f<=(l.map (cC e)).sum
 |x::l,h=>by
  simp only[cE_,cH_];rcases cv_.1 h with rfl|h
  ·omega
  ·have:=JW (e:=e) h;omega
def FineL.mem{m:Nat}{l:List aE}{f:aE}(h:FineL m l)(a:f∈l):FineA m f:=fun e=>⟨cw_ (JW a) (h e).1,(h e).2 f a⟩
def MN{l:cD}{ks:List aE}(h:cW l=.ok ks)(a:cI l=(0,0)):(∀f∈ks,jG ks 2001 f)/\fZ ks (dG ks [109,97,105,110])=some 0:=by
 unfold cI at a;rw[h] at a;simp only at a;unfold lL at a;have j:=wL h;have p:=lS h;have c:∀f∈ks,FineA 2001 f:=fun f g=>p.mem g
 split at a
 ·cases a
 rename_i m i;split at a
 ·cases a
 rename_i o;have q:(fM ks 2001 [] ks ⟨[],0,0⟩).kind=0:=by simp only[Prod.mk.injEq] at a;exact a.1
 refine⟨fun f g=>AI (d:=1999) j ks [] [] (fun f g=>⟨g,?_,fun e=>((c f g) e).1⟩) q f g,?_⟩
 ·have:=mV 2002 f ((c f g).le (by omega))
  exact this
 ·unfold fZ;rw[vF i];obtain⟨n,b,k,_⟩:=(j m (df_ i)).kids;have:m.kids.length=n.length+1:=by rw[k];simp
  simp;omega
def FineL.len{m:Nat}{l:List aE}(h:FineL m l):l.length<=m:=by
 have a:=(h 1).1
 have:∀l:List aE,l.length<=(l.map (cC 1)).sum:=by
  intro l;induction l with
  |nil=>simp
  |cons x l b=>simp only[cE_,cH_,ct_];have:1<=cC 1 x:=by simp[cC]
               omega
 exact cw_ (this l) a
def FineA.kids{m:Nat}{a:aE}(h:FineA m a):FineL m a.kids:=fun e=>by
 have b:=(h (e+1)).1;simp only[cC] at b;exact⟨by omega,(h (e+1)).2.2⟩
def zW{a:aE}(h:a.op≠[115])(b:a.kids=[]):∀d,pA d a
 |0=>trivial
 |d+1=>⟨fun e=>absurd e h,by simp[b],fun k h=>by simp[b] at h⟩
def jJ{m:Nat}(g:m<=1000000):∀(d:Nat) (a:aE),FineA m a->dJ a->pA d a
 |0,_,_,_=>trivial
 |d+1,a,i,j=>by
  refine⟨fun e=>?_,cw_ i.kids.len g,fun k c=>jJ g d k (i.kids.mem c) ?_⟩
  ·cases j with
   |leaf _ h c o=>exact o e
   |many _ h c=>rw[e] at h;exact absurd h (by decide)
   |one _ l h c f=>rw[e] at h;exact absurd h (by decide)
   |two _ l r h c f n=>rw[e] at h;exact absurd h (by decide)
  ·cases j with
   |leaf _ h b o=>rw[b] at c;cases c
   |many _ h b=>exact b k c
   |one _ l h b f=>rw[b,cs_] at c;rw[c];exact f
   |two _ l r h b f n=>
    rw[b] at c;rcases cv_.1 c with rfl|c
    ·exact f
    ·rw[cs_.1 c];exact n
def KU{m:Nat}(j:m<=1000000):∀(d:Nat),(∀a,FineA m a->iA a->pA d a)/\∀t,FineA m t->t.op=[98,108,111,99,107]->(∀k∈t.kids,iA k)->pA d t
 |0=>⟨fun _ _ _=>trivial,fun _ _ _ _=>trivial⟩
 |d+1=>by
  obtain⟨w,q⟩:=KU j d;refine⟨fun a o u=>⟨fun e=>?_,cw_ o.kids.len j,fun k f=>?_⟩,fun t o s f=>⟨fun e=>?_,cw_ o.kids.len j,fun k b=>w k (o.kids.mem b) (f k b)⟩⟩
  ·cases u<;>rename_i h _<;>simp_all
  ·have g:=o.kids.mem f;cases u with
   |var _ t v h b p l=>
    rw[b] at f;rcases cv_.1 f with rfl|f
    ·exact zW (by rw[l.1];decide) l.2 d
    ·obtain rfl:=cs_.1 f;exact jJ j d _ g p
   |set _ h z b=>exact jJ j d k g (b k f)
   |if2 _ c t h b n l i=>
    rw[b] at f;rcases cv_.1 f with rfl|f
    ·exact jJ j d _ g n
    ·obtain rfl:=cs_.1 f;exact q _ g l i
   |if3 _ c t x h b n l i y r=>
    rw[b] at f;rcases cv_.1 f with rfl|f
    ·exact jJ j d _ g n
    rcases cv_.1 f with rfl|f
    ·exact q _ g l i
    ·obtain rfl:=cs_.1 f;exact q _ g y r
   |whl _ c t h b n l i=>
    rw[b] at f;rcases cv_.1 f with rfl|f
    ·exact jJ j d _ g n
    ·obtain rfl:=cs_.1 f;exact q _ g l i
   |ret0 _ h b=>rw[b] at f;cases f
   |ret1 _ v h b p=>rw[b,cs_] at f;subst f;exact jJ j d _ g p
   |print _ v h b p=>rw[b,cs_] at f;subst f;exact jJ j d _ g p
   |call _ c h b n s=>rw[b,cs_] at f;subst f;exact jJ j d _ g n
  ·rw[s] at e;cases e
def IM{l:cD}{ks:List aE}(g:cW l=.ok ks):∀f∈ks,∀k∈f.kids,nB k:=fun f h k a d=>by
 have c:FineA 2001 k:=((lS g).mem h).kids.mem a;obtain⟨n,b,e,j,i,m⟩:=(wL g f h).kids;rw[e] at a;rcases cu_.1 a with a|a
 ·exact zW (by rw[j k a];decide) (m k a) d
 ·obtain rfl:=cs_.1 a;exact(KU (by omega) d).2 _ c i.op i.kids
def pC(i:aI):Prop:=(∀v,i=.push v->bS v)/\∀op,i=.unary op->op=[45]\/op=[33]
def oR{P:aI->Prop}{c:aE->Nat->List aI}:∀(l:List aE) (p:Nat),(∀a∈l,∀q,∀i∈c a q,P i)->∀i∈bV c l p,P i
 |[],_,_,i,d=>by cases d
 |a::l,p,h,i,d=>by
  rcases cu_.1 d with d|d
  ·exact h a (cJ_ ..) p i d
  ·exact oR l _ (fun b e=>h b (cx_ _ e)) i d
def dZ{P:aI->Prop}{c:Prop}[Decidable c]{l m:List aI}(b:c->∀i∈l,P i)(a:∀i∈m,P i):∀i∈(if c then l else m),P i:=by
 split
 ·exact b ‹_›
 ·exact a
def eD{P:aI->Prop}{l:List aI}{x:aI}(b:∀i∈l,P i)(a:P x):∀i∈l++[x],P i:=fun i h=>by
 rcases cu_.1 h with h|h
 ·exact b i h
 ·rw[cs_.1 h];exact a
def jY{P:aI->Prop}{x:aI}(h:P x):∀i∈[x],P i:=eD (l:=[]) (fun _ h=>by cases h) h
def lA(fs:List aE)(seen:cN):∀(d:Nat) (a:aE) (p:Nat),nB a->∀i∈aF fs seen d a p,pC i
 |0,_,_,_=>fun i b=>by cases b
 |d+1,a,p,j=>by
  have c:∀i∈bV (aF fs seen d) a.kids p,pC i:=oR _ _ fun k c q=>lA fs seen d k q (j.kid c)
  have g:∀x:aI,(∀v,x≠.push v)->(∀f,x≠.unary f)->pC x:=fun x n m=>⟨fun v e=>absurd e (n v),fun f e=>absurd e (m f)⟩
  have o:a.op=[115]->dB a.text:=fun h=>((j 1).1 h).2
  rw[aF];simp only;refine dZ (fun _=>jY ⟨fun v e=>by cases e;exact bS.num _,fun f e=>by cases e⟩) ?_
  refine dZ (fun h=>jY ⟨fun v e=>by cases e;exact bS.str (o (by simpa using h)),fun f e=>by cases e⟩) ?_
  refine dZ (fun _=>jY ⟨fun v e=>by cases e;exact bS.tru _,fun f e=>by cases e⟩) ?_
  refine dZ (fun _=>jY (g _ (by simp) (by simp))) ?_
  refine dZ (fun _=>eD c (g _ (by simp) (by simp))) ?_
  refine dZ (fun _=>eD c (g _ (by simp) (by simp))) ?_
  refine dZ (fun _=>eD c ⟨fun v e=>by (cases e),fun f e=>by cases e;exact cl_ rfl⟩) ?_
  refine dZ (fun _=>eD c ⟨fun v e=>by (cases e),fun f e=>by cases e;exact ck_ rfl⟩) ?_
  refine dZ (fun _=>eD c ?_) ?_
  ·repeat' split
   all_goals exact g _ (by simp) (by simp)
  refine dZ (fun _=>?_) (eD c (g _ (by simp) (by simp)))
  split
  ·rename_i l r e;refine eD (fun i b=>?_) (g _ (by simp) (by simp))
   rcases cu_.1 b with b|b
   ·exact eD (lA fs seen d l _ (j.kid (by rw[e];simp))) (g _ (by simp) (by simp)) i b
   ·exact lA fs seen d r _ (j.kid (by rw[e];simp)) i b
  ·intro i b;cases b
def rR{P:aI->Prop}{c:cN->aE->Nat->List aI × cN}:∀(l:List aE) (seen:cN) (p:Nat),(∀a∈l,∀s q,∀i∈(c s a q).1,P i)->∀i∈bL c seen l p,P i
 |[],_,_,_,i,d=>by cases d
 |a::l,seen,p,h,i,d=>by
  rcases cu_.1 d with d|d
  ·exact h a (cJ_ ..) seen p i d
  ·exact rR l _ _ (fun b e=>h b (cx_ _ e)) i d
def PL(fs:List aE):∀(d:Nat) (seen:cN) (a:aE) (p:Nat),nB a->∀i∈(aX fs d seen a p).1,pC i
 |0,_,_,_,_,i,f=>by cases f
 |d+1,seen,a,p,o,i,f=>by
  have j:∀{k:aE} {q:Nat},k∈a.kids->i∈aF fs seen d k q->pC i:=fun l h=>lA fs seen d _ _ (o.kid l) i h
  have n:∀{k:aE} {q:Nat},k∈a.kids->i∈bL (aX fs d) seen k.kids q->pC i:=fun l h=>rR _ _ _ (fun x j s q=>PL fs d s x q ((o.kid l).kid j)) i h
  have g:∀{x:aI},(∀v,x≠.push v)->(∀m,x≠.unary m)->i=x->pC i:=fun w u e=>⟨fun v z=>absurd (e▸z) (w v),fun m y=>absurd (e▸y) (u m)⟩
  rw[aX] at f;dsimp only at f;split at f
  ·split at f
   ·rename_i t v e;simp only[cu_,cv_,cD_,or_false,cP_] at f;rcases f with h|h|h
    ·exact g (by simp) (by simp) h
    ·exact j (by rw[e];simp) h
    ·exact g (by simp) (by simp) h
   ·cases f
  split at f
  ·simp only[cu_,cv_,cD_,or_false,cP_] at f;rcases f with h|h|h
   ·exact g (by simp) (by simp) h
   ·exact oR _ _ (fun k l q=>lA fs seen d k q (o.kid l)) i h
   ·exact g (by simp) (by simp) h
  split at f
  ·split at f
   ·rename_i c t e r;simp only[cu_,cv_,cD_,or_false,cP_] at f;rcases f with h|(((h|h)|h)|h)|h
    ·exact g (by simp) (by simp) h
    ·exact j (by rw[r];simp) h
    ·exact g (by simp) (by simp) h
    ·exact n (by rw[r];simp) h
    ·exact g (by simp) (by simp) h
    ·split at h
     ·exact n (by rw[r];simp) h
     ·cases h
   ·cases f
  split at f
  ·split at f
   ·rename_i c b e;simp only[cu_,cv_,cD_,or_false,cP_] at f;rcases f with h|((h|h)|h)|h
    ·exact g (by simp) (by simp) h
    ·exact j (by rw[e];simp) h
    ·exact g (by simp) (by simp) h
    ·exact n (by rw[e];simp) h
    ·exact g (by simp) (by simp) h
   ·cases f
  split at f
  ·split at f
   ·rename_i v e;simp only[cu_,cv_,cD_,or_false,cP_] at f;rcases f with h|h|h
    ·exact g (by simp) (by simp) h
    ·exact j (by rw[e];simp) h
    ·exact g (by simp) (by simp) h
   ·simp only[cv_,cD_,or_false] at f;rcases f with h|h|h
    ·exact g (by simp) (by simp) h
    ·rw[h];exact⟨fun v e=>by cases e;exact bS.num _,fun m e=>by cases e⟩
    ·exact g (by simp) (by simp) h
  split at f
  ·split at f
   ·rename_i v e;simp only[cu_,cv_,cD_,or_false,cP_] at f;rcases f with h|h|h
    ·exact g (by simp) (by simp) h
    ·exact j (by rw[e];simp) h
    ·exact g (by simp) (by simp) h
   ·cases f
  ·split at f
   ·rename_i c e;simp only[cu_,cv_,cD_,or_false,cP_] at f;rcases f with h|h|h
    ·exact g (by simp) (by simp) h
    ·exact j (by rw[e];simp) h
    ·exact g (by simp) (by simp) h
   ·cases f
def UK{ks:List aE}{d:Nat}(h:∀f∈ks,∀k∈f.kids,nB k):kK (dC ks d):=fun g m=>by
 obtain⟨f,o,rfl⟩:=dn_.1 m
 have a:∀i∈(fP ks d f).code,pC i:=fun i c=>by
  simp only[fP,cu_,cv_,cD_,or_false] at c;rcases c with c|rfl|rfl
  ·cases j:f.kids.getLast? with
   |none=>rw[j] at c;cases c
   |some b=>
    rw[j] at c;exact rR _ _ _ (fun k n s q=>PL ks d s k q ((h f o b (do_ j)).kid n)) i c
  ·exact⟨fun v e=>by cases e;exact bS.num _,fun l e=>by cases e⟩
  ·exact⟨fun v e=>by (cases e),fun l e=>by cases e⟩
 exact⟨fun v r=>(a _ r).1 v rfl,fun l p=>(a _ p).2 l rfl⟩
def stC_seen{fs:List aE}{d:Nat}{seen:cN}{a:aE}{p:Nat}(h:dM fs d seen a):(aX fs d seen a p).2=cZ seen a:=
 (mL fs d seen a (fun _ _=>False) p h ⟨fun _ _ _ h=>h.elim,fun _ _ h=>h.elim⟩).2.1
def LL:∃k:Nat,16*320000+2<=k:=⟨_,cL⟩
noncomputable def jP:Nat:=Classical.choose LL
def LK:16*320000+2<=jP:=Classical.choose_spec LL
noncomputable def fA(tab:List eU)(m0:cR):Nat->Option bC
 |0=>(dQ tab jP m0).map fun r=>⟨0,r.1,bZ 0 r.2⟩
 |t+1=>
  match fA tab m0 t with
  |none=>none
  |some s=>if s.stop=0 then (dQ tab jP s.m).map fun r=>⟨t+1,r.1,bZ (t+1) r.2⟩ else none
structure TR(ar:Nat->Option Nat)(s:bC):Prop where
 told:∀x∈s.m.frames,x.seen.length<=x.vars.length
 deep:s.m.frames.length<=16
 ok:s.stop=0->fY ar s.m/\s.m.frames≠[]
 time:s.time<=500
def UA{ar:Nat->Option Nat}{m:cR}(h:fY ar m):∃k,wgts m.frames<=m.frames.length*k/\k=320000:=by
 have d:∀f∈m.frames,kO f<=320000:=fun f a=>by
  have n:f.fn.code.length<=80000:=by
   rcases dl_ m.frames with c|⟨b,x,c⟩
   ·rw[c] at a;cases a
   ·rw[dm_] at c;have i:=h.ok.low;have e:=h.ok.top x (by rw[c];exact fB _ _)
    rw[c,gE] at i;rw[c] at a;rcases cu_.1 a with a|a
    ·obtain⟨T,g,_⟩:=(i f a).code;exact g.len
    ·obtain⟨T,g,_⟩:=e.code;rw[cs_.1 a];exact g.len
  unfold kO;split
  ·omega
  ·split<;>omega
 have:∀l:List aJ,(∀f∈l,kO f<=320000)->wgts l<=l.length*320000:=by
  intro l;induction l with
  |nil=>intro _;simp[wgts]
  |cons x l j=>
   intro h;have i:=h x (cJ_ ..);have e:=j fun f a=>h f (cx_ _ a)
   unfold wgts at e ⊢
   simp only[cE_,cH_,ct_,Nat.succ_mul];omega
 exact⟨320000,this m.frames d,rfl⟩
def qA{ar:Nat->Option Nat}{a:List eU}(b:kV ar a){m:cR}(h:fY ar m):∃r,dQ a jP m=some r/\OU ar r:=
 mI b jP m h (by
  obtain⟨k,d,c⟩:=UA h;have e:=Nat.mul_le_mul_right k h.ok.deep;have:=LK;omega)
def DU{ar:Nat->Option Nat}{b:List eU}(j:kV ar b){m0:cR}(m:fY ar m0):∀(t:Nat) (s:bC),fA b m0 t=some s->TR ar s/\s.time=t
 |0,s,h=>by
  obtain⟨r,k,f⟩:=qA j m;simp only[fA,k,du_,Option.some.injEq] at h;subst h
  exact⟨⟨f.told,f.deep,fun c=>f.ok (by simp only[bZ] at c;split at c;·simp at c
                                       ·exact c),by simp⟩,rfl⟩
 |t+1,s,h=>by
  rw[fA] at h;cases a:fA b m0 t with
  |none=>rw[a] at h;cases h
  |some p=>
   rw[a] at h;simp only at h;obtain⟨l,v⟩:=DU j m t p a;split at h
   ·rename_i c;obtain⟨r,k,f⟩:=qA j (l.ok c).1;rw[k] at h;simp only[du_,Option.some.injEq] at h;subst h
    refine⟨⟨f.told,f.deep,fun d=>f.ok (by simp only[bZ] at d;split at d;·simp at d
                                          ·exact d),?_⟩,rfl⟩
    show t+1<=500
    have q:t≠500:=by
     intro e;cases t with
     |zero=>simp at e
     |succ u=>
      rw[fA] at a;cases n:fA b m0 u with
      |none=>rw[n] at a;cases a
      |some o=>
       rw[n] at a;simp only at a;split at a
       ·cases g:dQ b jP o.m with
        |none=>rw[g] at a;cases a
        |some w=>
         rw[g] at a;simp only[du_,Option.some.injEq] at a;subst a;simp only[bZ] at c;split at c
         ·simp at c
         ·rename_i i;exact i ⟨c,e⟩
       ·cases a
    have:=l.time;omega
   ·cases h
def zJ{a:List eU}{r:cR × Nat}(j:Nat):∀(k:Nat) (m:cR),dQ a k m=some r->dQ a (k+j) m=some r
 |0,_,h=>by cases h
 |k+1,m,h=>by
  rw[show k+1+j=(k+j)+1 by omega]
  rw[dQ] at h ⊢
  cases e:m.frames.getLast? with
  |none=>rw[e] at h;exact h
  |some f=>
   rw[e] at h;simp only at h ⊢
   cases d:f.fetch with
   |none=>rw[d] at h;cases h
   |some g=>
    rw[d] at h;simp only at h ⊢
    split at h
    ·rename_i c;rw[if_pos c];exact h
    rename_i c;rw[if_neg c];split at h
    ·rename_i b;rw[if_pos b];exact h
    rename_i b;rw[if_neg b];exact zJ j k _ h
noncomputable def wI(tab:List eU)(k:Nat):Nat->Nat->cR->Option bC
 |0,_,_=>none
 |n+1,t,m=>
  match dQ tab k m with
  |none=>none
  |some r=>if r.2=0/\t≠500 then wI tab k n (t+1) r.1 else some ⟨t,r.1,bZ t r.2⟩
def EG{a:List eU}{m0:cR}{k:Nat}(e:k<=jP){z:bC}:∀(n t:Nat) (m:cR),wI a k n t m=some z->(∀r,dQ a jP m=some r->fA a m0 t=some ⟨t,r.1,bZ t r.2⟩)->fA a m0 z.time=some z
 |0,_,_,h,_=>by cases h
 |n+1,t,m,h,g=>by
  rw[wI] at h;cases c:dQ a k m with
  |none=>rw[c] at h;cases h
  |some r=>
   rw[c] at h;simp only at h
   have f:dQ a jP m=some r:=by
    have:=zJ (jP-k) k m c;rwa [show k+(jP-k)=jP by omega] at this
   have d:=g r f;split at h
   ·rename_i i;refine EG e n (t+1) r.1 h fun l b=>?_
    have j:bZ t r.2=0:=by unfold bZ;rw[if_neg (by omega)];exact i.1
    rw[fA,d];simp only[j,if_true,b,du_]
   ·cases h;exact d
def zC(src:cD)(t:Nat)(out:cN):Prop:=∃ks tp,cW src=.ok ks/\cI src=(0,0)/\fA (dC ks 2001) (gD ks 2001 []) t=some ⟨t,⟨[],tp,out⟩,1⟩
noncomputable def SP(src:cD)(t:Nat)(out:cN):Bool:=
 match cW src with
 |.error _=>false
 |.ok ks=>
  decide (lL 2001 ks=(0,0)) && match wI (dC ks 2001) 100 200 0 (gD ks 2001 []) with
   |none=>false
   |some z=>z.time==t && (z.stop==1 && (z.m.frames.isEmpty && z.m.out==out))
def XP{a:cD}{t:Nat}{c:cN}(h:SP a t c=true):zC a t c:=by
 unfold SP at h;cases f:cW a with
 |error e=>rw[f] at h;cases h
 |ok d=>
  rw[f] at h;simp only[cO_,decide_eq_true_eq] at h;obtain⟨j,b⟩:=h;cases g:wI (dC d 2001) 100 200 0 (gD d 2001 []) with
  |none=>rw[g] at b;cases b
  |some z=>
   rw[g] at b;simp only[cO_,beq_iff_eq,List.isEmpty_iff] at b;have:=EG (m0:=gD d 2001 []) (by have:=LK;omega) 200 0 _ g fun r k=>by rw[fA,k];rfl
   obtain⟨n,⟨o,i,l⟩,m⟩:=z;simp only at b this;obtain⟨rfl,rfl,rfl,rfl⟩:=b;exact⟨d,i,f,by unfold cI;rw[f];exact j,this⟩
def YR:cD:=[102,117,110,99,32,102,40,120,41,32,123,32,114,101,116,117,114,110,32,91,120,44,32,34,195,169,34,93,59,32,125,10,102,117,110,99,32,109,97,105,110,40,41,32,123,32,118,97,114,32,97,32,61,32,102,40,50,41,59,32,112,114,105,110,116,32,97,59,32,112,114,105,110,116,32,108,101,110,40,97,91,49,93,41,59,32,125]
def YS:cD:=[102,117,110,99,32,109,97,105,110,40,41,32,123,10,32,112,114,105,110,116,32,120,59,32,125]
def UD:zC YR 4 [[91,50,44,32,34,195,169,34,93],[49]]:=XP (by decide+kernel)
def VW:cI YS=(6,2):=by decide+kernel
def jR(l:List aJ):List (cD × Nat):=l.map fun f=>(f.fn.name,f.line)
def oJ(s:cN):Prop:=s.Nodup/\s.length<=40001
def oJ.nil:oJ []:=⟨List.nodup_nil,by simp⟩
def bI(c:List aI):Prop:=∀l s,aI.begin l s∈c->oJ s
def bI.app{a b:List aI}(h:bI a)(k:bI b):bI (a++b):=fun l s c=>by
 rcases cu_.1 c with c|c
 ·exact h l s c
 ·exact k l s c
def bI.one{i:aI}(h:i.isBegin=false):bI [i]:=fun l s a=>by
 rw[cs_] at a;rw[<-a] at h;cases h
def bI.nil:bI []:=fun l s a=>by cases a
def uW{c:aE->Nat->List aI}(b:∀a p,bI (c a p)):∀(l:List aE) (p:Nat),bI (bV c l p)
 |[],_=>bI.nil
 |a::l,p=>(b a p).app (uW b l _)
def jI{c:Prop}[Decidable c]{a b:List aI}(h:bI a)(k:bI b):bI (if c then a else b):=by split<;>assumption
def oW(fs:List aE)(seen:cN):∀(d:Nat) (a:aE) (p:Nat),bI (aF fs seen d a p)
 |0,_,_=>bI.nil
 |d+1,a,p=>by
  have b:=uW (oW fs seen d) a.kids p;have o:∀i:aI,i.isBegin=false->bI [i]:=fun i h=>bI.one h
  rw[aF];refine jI (o _ rfl) (jI (o _ rfl) (jI (o _ rfl) (jI (o _ rfl) (jI (b.app (o _ rfl)) (jI (b.app (o _ rfl)) (jI (b.app (o _ rfl)) (jI (b.app (o _ rfl)) (jI (b.app (o _ ?_)) (jI ?_ (b.app (o _ rfl)))))))))))
  ·split
   ·rfl
   ·split<;>rfl
  ·split
   ·exact(((oW fs seen d _ _).app (o _ rfl)).app (oW fs seen d _ _)).app (o _ rfl)
   ·exact bI.nil
def bI.start{l:Nat}{s:cN}{c:List aI}(e:oJ s)(f:bI c):bI (.begin l s::c):=fun d b a=>by
 rcases cv_.1 a with a|a
 ·cases a;exact e
 ·exact f d b a
def ZP(fs:List aE)(d:Nat):Prop:=∀(seen:cN) (a:aE) (p:Nat),dM fs d seen a->oJ seen->bI (aX fs d seen a p).1/\oJ (aX fs d seen a p).2
def uV{fs:List aE}{d:Nat}(c:ZP fs d):∀(l:List aE) (seen:cN) (p:Nat),StsOk (dM fs d) seen l->oJ seen->bI (bL (aX fs d) seen l p)
 |[],_,_,_,_=>bI.nil
 |a::l,seen,p,h,e=>by
  obtain⟨f,b⟩:=c seen a p h.1 e;have g:(aX fs d seen a p).2=cZ seen a:=(mL fs d seen a (fun _ _=>False) p h.1 ⟨fun _ _ _ h=>h.elim,fun _ _ h=>h.elim⟩).2.1
  refine f.app ?_;rw[g] at b ⊢
  exact uV c l _ _ h.2 b
def KG(fs:List aE):∀d,ZP fs d
 |0=>fun _ _ _ h _=>h.elim
 |d+1=>by
  intro g a p h e;have j:=oW fs g d;have k:∀(b:aE) q,StsOk (dM fs d) g b.kids->bI (bL (aX fs d) g b.kids q):=fun b q l=>uV (KG fs d) b.kids g q l e
  have s:([115,101,116]==([118,97,114]:cD))=false:=rfl;rcases h with ⟨i,r,t,v,f,_,o⟩|⟨i,_⟩|⟨i,c,t,f,_,m⟩|⟨i,c,b,f,_,l⟩|⟨i,f⟩|⟨i,v,f,_⟩|⟨i,c,f,_⟩
  ·unfold aX;simp only[i,f,cP_];exact⟨bI.start e ((j v _).app (bI.one rfl)),⟨cB_.2 ⟨o,e.1⟩,by simp;omega⟩⟩
  ·unfold aX;simp only[i];exact⟨bI.start e ((uW j _ _).app (bI.one rfl)),e⟩
  ·unfold aX;simp only[i];rcases f with f|⟨x,f,n⟩<;>rw[f]
   ·exact⟨bI.start e ((((j c _).app (bI.one rfl)).app (k t _ m)).app (bI.one rfl) |>.app bI.nil),e⟩
   ·exact⟨bI.start e ((((j c _).app (bI.one rfl)).app (k t _ m)).app (bI.one rfl) |>.app (k x _ n)),e⟩
  ·unfold aX;simp only[i,f];exact⟨bI.start e (((j c _).app (bI.one rfl)).app (k b _ l) |>.app (bI.one rfl)),e⟩
  ·unfold aX;simp only[i];rcases f with f|⟨v,f,_⟩<;>rw[f]
   ·exact⟨bI.start e ((bI.one rfl).app (bI.one rfl)),e⟩
   ·exact⟨bI.start e ((j v _).app (bI.one rfl)),e⟩
  ·unfold aX;simp only[i,f];exact⟨bI.start e ((j v _).app (bI.one rfl)),e⟩
  ·unfold aX;simp only[i,f];exact⟨bI.start e ((j c _).app (bI.one rfl)),e⟩
def L6{fs:List aE}{d:Nat}{f:aE}(h:jG fs d f)(e:f.kids.length<=40000):bI (fP fs d f).code:=by
 obtain⟨⟨g,b,c,j,k⟩,_⟩:=h;have a:(fP fs d f).code=bL (aX fs d) (g.map (·.text)).reverse b.kids 0++[.push (bG 0),.give]:=by simp[fP,c]
 rw[a];exact(uV (KG fs d) b.kids _ 0 j ⟨List.pairwise_reverse.2 (k.imp fun h=>h.symm),by rw[c] at e;simp at e ⊢;omega⟩).app ((bI.one (i:=.push (bG 0)) rfl).app (bI.one (i:=.give) rfl))
def mD(m:cR):Prop:=∀f∈m.frames,oJ f.seen/\bI f.fn.code
def IW(i:aI)(f:aJ)(a:oJ f.seen)(hi:∀l s,i=.begin l s->oJ s):oJ (aL i f).1.seen:=by
 cases i with
 |begin l s=>exact hi l s rfl
 |_=>simp only[aL]<;>(repeat' split)<;>exact a
def M6{p:List eU}(D:∀f∈p,bI f.code){b:List aJ}{f:aJ}{t:List Int}{o:cN}{i:aI}(h:mD ⟨b++[f],t,o⟩)(hi:i∈f.fn.code)(k:Nat):mD (doI p i b { f with next:=k } t o).1:=by
 have u:∀x∈b,oJ x.seen/\bI x.fn.code:=fun x q=>h x (by simp[q])
 have m:=h f (by simp)
 have d:∀(y:aJ) v B,oJ y.seen->y.fn=f.fn->mD ⟨b++[y],v,B⟩:=fun y v B E C x q=>by
  rcases cu_.1 q with q|q
  ·exact u x q
  ·rw[cs_.1 q];exact⟨E,by rw[C];exact m.2⟩
 by_cases A:i=.give
 ·subst A;rcases dl_ b with rfl|⟨G,x,rfl⟩
  ·intro y j;simp[doI] at j
  ·rw[dm_] at*;intro y j;simp[doI] at j;rcases j with j|rfl
   ·exact u y (by simp[j])
   ·exact u x (by simp)
 by_cases z:i=.read
 ·subst z;cases t with
  |nil=>exact d _ _ _ m.1 rfl
  |cons a v=>exact d _ _ _ m.1 rfl
 by_cases w:i=.print
 ·subst w;simp only[doI];split<;>exact d _ _ _ m.1 rfl
 by_cases r:∃c n,i=.call c n
 ·obtain⟨c,n,rfl⟩:=r;simp only[doI];split
  ·exact d _ _ _ m.1 rfl
  ·intro y j;simp at j;rcases j with j|rfl|rfl
   ·exact u y j
   ·exact m
   ·refine⟨oJ.nil,?_⟩;cases F:p[c]? with
    |none=>exact bI.nil
    |some g=>exact D g (c0_ F)
 rw[tI A z w fun k n e=>r ⟨k,n,e⟩]
 exact d _ _ _ (IW i _ m.1 fun l s e=>m.2 l s (e▸hi)) (jL i _)
def xG{d:List eU}(n:∀f∈d,bI f.code):∀(k:Nat) (m:cR) (r:cR × Nat),mD m->dQ d k m=some r->mD r.1
 |0,_,_,_,h=>by simp[dQ] at h
 |k+1,⟨s,t,o⟩,r,p,h=>by
  by_cases e:s=[]
  ·subst e;simp only[dQ,List.getLast?_nil,Option.some.injEq] at h;subst h;exact p
  obtain⟨b,f,rfl⟩:=lY e;rw[dQ] at h;simp only[fB,gE] at h;cases a:f.fetch with
  |none=>rw[a] at h;cases h
  |some q=>
   obtain⟨i,g⟩:=q;rw[a] at h;simp only at h
   obtain⟨rfl,u⟩:g={ f with next:=f.next+1 }/\i∈f.fn.code:=by
    unfold aJ.fetch at a;cases l:f.fn.code[f.next]? with
    |none=>rw[l] at a;cases a
    |some j=>rw[l] at a;simp at a;exact⟨a.2.symm,by rw[<-a.1];exact c0_ l⟩
   have c:=M6 n p u (f.next+1)
   split at h
   ·cases h;exact c
   split at h
   ·cases h;exact c
   ·exact xG n k _ r c h
def DV{fs:List aE}{D:Nat}(i:∀f∈fs,jG fs D f)(m:∀f∈fs,f.kids.length<=40000)(b:List Int):∀(t:Nat) (s:bC),fA (dC fs D) (gD fs D b) t=some s->mD s.m:=by
 have e:∀f∈dC fs D,bI f.code:=fun f d=>by
  simp only[dC,dn_] at d;obtain⟨a,k,rfl⟩:=d;exact L6 (i a k) (m a k)
 intro t;induction t with
 |zero=>
  intro s h;rw[fA] at h;cases c:dQ (dC fs D) jP (gD fs D b) with
  |none=>rw[c] at h;cases h
  |some r=>
   rw[c] at h;cases h;refine xG e _ _ _ (fun f d=>?_) c
   simp only[gD,cs_] at d;subst d;refine⟨oJ.nil,?_⟩;cases o:(dC fs D)[dG fs [109,97,105,110]]? with
   |none=>exact bI.nil
   |some g=>exact e g (c0_ o)
 |succ t n=>
  intro s h;rw[fA] at h;cases j:fA (dC fs D) (gD fs D b) t with
  |none=>rw[j] at h;cases h
  |some l=>
   rw[j] at h;simp only at h;split at h
   ·cases c:dQ (dC fs D) jP l.m with
    |none=>rw[c] at h;cases h
    |some r=>rw[c] at h;cases h;exact xG e _ _ _ (n _ j) c
   ·cases h
def aI.isEx:aI->Bool
 |.push _=>true
 |.load _=>true
 |.shortcut _ _=>true
 |.truth=>true
 |.unary _=>true
 |.binary _=>true
 |.index=>true
 |.list _=>true
 |.length=>true
 |_=>false
def oX(fs:List aE)(seen:cN):∀(d:Nat) (a:aE) (p:Nat),ExOk fs true seen d a->∀i∈aF fs seen d a p,i.isEx=true
 |0,_,_,h=>h.elim
 |d+1,a,p,n=>by
  have c:∀k∈a.kids,ExOk fs true seen d k:=fun k b=>by
   rcases n with ⟨_,h⟩|⟨_,h,_⟩|⟨_,h⟩|⟨_,l,r,h,g,m⟩|⟨_,l,h,g⟩|⟨_,h,_⟩|⟨_,l,r,h,g,m⟩
   ·rw[h] at b;cases b
   ·rw[h] at b;cases b
   ·exact h k b
   ·rw[h] at b;rcases cv_.1 b with rfl|b
    ·exact g
    ·rw[cs_.1 b];exact m
   ·rw[h] at b;rw[cs_.1 b];exact g
   ·exact h k b
   ·rw[h] at b;rcases cv_.1 b with rfl|b
    ·exact g
    ·rw[cs_.1 b];exact m
  have j:a.op=[99,97,108,108]->a.text=[108,101,110]:=fun e=>by
   rcases n with ⟨h,_⟩|⟨h,_⟩|⟨h,_⟩|⟨h,_⟩|⟨h,_⟩|⟨_,_,h⟩|⟨h,_⟩
   ·rw[e] at h;simp at h
   ·rw[e] at h;simp at h
   ·rw[e] at h;simp at h
   ·rw[e] at h;simp at h
   ·rw[e] at h;simp at h
   ·rcases h with ⟨h,_⟩|⟨_,h,_⟩|⟨_,_,h,_⟩
    ·exact h
    ·cases h
    ·cases h
   ·rw[e] at h;exact absurd rfl h
  have b:∀i∈bV (aF fs seen d) a.kids p,i.isEx=true:=oR _ _ fun k b q=>oX fs seen d k q (c k b)
  rw[aF];simp only;refine dZ (fun _=>jY rfl) ?_
  refine dZ (fun _=>jY rfl) ?_
  refine dZ (fun _=>jY rfl) ?_
  refine dZ (fun _=>jY rfl) ?_
  refine dZ (fun _=>eD b rfl) ?_
  refine dZ (fun _=>eD b rfl) ?_
  refine dZ (fun _=>eD b rfl) ?_
  refine dZ (fun _=>eD b rfl) ?_
  refine dZ (fun h=>eD b ?_) ?_
  ·rw[j (by simpa using h)];rfl
  refine dZ (fun _=>?_) (eD b rfl)
  split
  ·rename_i l r e;refine eD (fun i f=>?_) rfl
   rcases cu_.1 f with f|f
   ·exact eD (oX fs seen d l _ (c l (by rw[e];simp))) rfl i f
   ·exact oX fs seen d r _ (c r (by rw[e];simp)) i f
  ·intro i f;cases f
structure p7(i:aI)(f:aJ):Prop where
 ex:i.isEx=true
 ops:f.ops.length<=99000
 utf:dF f
 mem:i∈f.fn.code
 at_:∃(ar:Nat->Option Nat) (D:bX) (T:Nat->eJ) (p:Nat),iJ ar D T p i/\(T p).h=f.ops.length/\(T p).v<=f.vars.length
structure pJ(f:aJ):Prop where
 code:∃(ar:Nat->Option Nat) (T:Nat->eJ),(∀j i,f.fn.code[j]?=some i->iJ ar (fun q=>q<=f.fn.code.length) T j i/\i.isEx=true)/\(T f.next).h=f.ops.length/\(T f.next).v<=f.vars.length/\(T f.fn.code.length).h=1
 len:f.fn.code.length<=90000
 next:f.next<=f.fn.code.length
 utf:dF f
noncomputable def fT:Nat->aJ->aJ × Nat
 |0,f=>(f,0)
 |k+1,f=>
  match f.fetch with
  |none=>(f,0)
  |some (i,g)=>if (aL i g).2=0 then fT k (aL i g).1 else aL i g
def wT{f:aJ}(h:f.fn.code.length<=f.next):∀k,fT k f=(f,0)
 |0=>rfl
 |k+1=>by
  have:f.fetch=none:=by unfold aJ.fetch;rw[cV_ h];rfl
  rw[fT,this]
def pJ.step{f:aJ}(h:pJ f)(C:f.next<f.fn.code.length):∃i g,f.fetch=some (i,g)/\g.fn=f.fn/\p7 i g/\(∀k,fT (k+1) f=if (aL i g).2=0 then fT k (aL i g).1 else aL i g)/\((aL i g).2=0->pJ (aL i g).1/\f.next<(aL i g).1.next):=by
 obtain⟨⟨y,T,E,s,N,O⟩,J,V,u⟩:=h;have B:=cz_ C;have A:f.fetch=some (f.fn.code[f.next],{ f with next:=f.next+1 }):=by unfold aJ.fetch;rw[B];rfl
 obtain⟨b,l⟩:=E _ _ B;have D:f.fn.code[f.next]∈f.fn.code:=cG_ C
 generalize f.fn.code[f.next]=i at*
 refine⟨i,_,A,rfl,⟨l,by have:=b.2.1;show f.ops.length<=99000;omega,u.next _,D,y,_,T,_,b,s,N⟩,fun k=>by rw[fT,A],fun n=>?_⟩
 have r:dF (aL i { f with next:=f.next+1 }).1:=sI (u.next _) fun v e=>by subst e;exact u.fn.1 v D
 have c:∀q p o z,eP (fun q=>q<=f.fn.code.length) T q p o z->(aL i { f with next:=f.next+1 }).1.next=q->f.next<q->(aL i { f with next:=f.next+1 }).1.ops.length=p->(aL i { f with next:=f.next+1 }).1.vars=f.vars->o=(T f.next).v->pJ (aL i { f with next:=f.next+1 }).1/\f.next<(aL i { f with next:=f.next+1 }).1.next:=fun q p o z t x U M P Q=>by
  obtain⟨H,L,W,_⟩:=t;have m:(aL i { f with next:=f.next+1 }).1.fn=f.fn:=jL _ _
  refine⟨⟨⟨y,T,?_,?_,?_,?_⟩,?_,?_,r⟩,by omega⟩
  ·rw[m];exact E
  ·rw[x,L,M]
  ·rw[x,P];omega
  ·rw[m];exact O
  ·rw[m];exact J
  ·rw[m,x];exact H
 obtain⟨-, -,b⟩:=b;cases i<;>first|(cases l;done)|skip
 case push a=>exact c _ _ _ _ b rfl (by omega) (by simp[aL,aJ.push,s]) rfl rfl
 case load k=>exact c _ _ _ _ b.2 rfl (by omega) (by simp[aL,aJ.push,s]) rfl rfl
 case shortcut w q=>
  obtain⟨S,F,K,I⟩:=b;by_cases d:({ f with next:=f.next+1 }:aJ).last.sort=1
  ·by_cases j:decide (({ f with next:=f.next+1 }:aJ).last.n=1)=w
   ·exact c _ _ _ _ K (by simp[aL,d,j]) F (by simp[aL,d,j,aJ.push,aJ.pop];omega) (by simp[aL,d,j,aJ.push,aJ.pop]) rfl
   ·exact c _ _ _ _ I (by simp[aL,d,j,aJ.pop]) (by omega) (by simp[aL,d,j,aJ.pop];omega) (by simp[aL,d,j,aJ.pop]) rfl
  ·simp[aL,d] at n
 case truth=>
  by_cases d:({ f with next:=f.next+1 }:aJ).last.sort=1
  ·exact c _ _ _ _ b.2 (by simp[aL,d,aJ.push,aJ.pop]) (by omega) (by simp[aL,d,aJ.push,aJ.pop];omega) (by simp[aL,d,aJ.push,aJ.pop]) rfl
  ·simp[aL,d] at n
 all_goals
  simp only[aL] at n c ⊢
  split at n
  ·rename_i G;simp only[G,if_true] at c ⊢
   refine c _ _ _ _ b.2 rfl (by omega) ?_ rfl rfl
   simp[aJ.push,aJ.pop,aJ.popMany];omega
  ·contradiction
def wS:∀(k:Nat) {f:aJ},pJ f->f.fn.code.length-f.next<=k->(fT k f).2=0->∃a,(fT k f).1.ops=[a]/\bS a
 |k,f,h,d,b=>by
  by_cases l:f.next<f.fn.code.length
  ·obtain⟨i,g,w,o,u,n,r⟩:=h.step l;match k,d with
   |0,d=>omega
   |k+1,d=>
    rw[n k] at b ⊢
    by_cases c:(aL i g).2=0
    ·rw[if_pos c] at b ⊢
     obtain⟨p,v⟩:=r c;have e:(aL i g).1.fn=f.fn:=(jL _ _).trans o;exact wS k p (by rw[e];omega) b
    ·rw[if_neg c] at b;exact absurd b c
  ·have e:f.next=f.fn.code.length:=dP_ h.next (Nat.le_of_not_lt l)
   rw[wT (dR_ e.symm)];obtain⟨⟨t,T,A,j,z,s⟩,x,y,q⟩:=h;rw[e,s] at j;obtain⟨a,m⟩:=List.length_eq_one_iff.1 j.symm;exact⟨a,m,q.ops a (by rw[m];simp)⟩
def M4{seen:cN}{a:List aM}{d:Nat}{A:aE}(c:ExOk [] true seen d A)(g:nB A)(w:seen.length<=a.length)(b:(aF [] seen d A 0).length<=90000)(u:∀v∈a,bS v):pJ ⟨⟨[],aF [] seen d A 0⟩,0,0,[],a,[]⟩/\1<=(aF [] seen d A 0).length:=by
 obtain⟨⟨T, -,p,n, -,k, -, -,o⟩,r⟩:=nL [] true seen d A (fun _ _=>False) 0 0 a.length none c w cL ⟨fun q y z h=>h.elim,fun q y h=>h.elim⟩
 rw[c8_] at k;refine⟨⟨⟨fZ [],T,fun j i l=>⟨?_,oX [] seen d A 0 c i (c0_ l)⟩,p,n,k⟩,b,cU_ _,⟨⟨fun v f=>(lA [] seen d A 0 g _ f).1 v rfl,fun x s=>(lA [] seen d A 0 g _ s).2 x rfl⟩,u,fun v f=>by cases f⟩⟩,r⟩
 have m:=o j i l;simp only[c8_] at m;refine m.same rfl (fun q e=>⟨?_,rfl,cL,ck_ rfl⟩) fun _ _ _ h=>h
 rcases e with e|⟨y,t⟩
 ·simpa using e.2
 ·exact t.elim
def ExOk.mem{fs:List aE}{alone:Bool}{s1 i:cN}(m:∀x,x∈s1->x∈i):∀{d:Nat} {a:aE},ExOk fs alone s1 d a->ExOk fs alone i d a
 |0,_,h=>h.elim
 |d+1,a,h=>by
  have f:∀k,ExOk fs alone s1 d k->ExOk fs alone i d k:=fun k g=>ExOk.mem m g
  rcases h with h|⟨c,b,e⟩|⟨c,b⟩|⟨c,l,r,b,e,j⟩|⟨c,l,b,e⟩|⟨c,b,e⟩|⟨c,l,r,b,e,j⟩
  ·exact cl_ h
  ·exact ck_ (cl_ ⟨c,b,m _ e⟩)
  ·exact ck_ (ck_ (cl_ ⟨c,fun k g=>f k (b k g)⟩))
  ·exact ck_ (ck_ (ck_ (cl_ ⟨c,l,r,b,f l e,f r j⟩)))
  ·exact ck_ (ck_ (ck_ (ck_ (cl_ ⟨c,l,b,f l e⟩))))
  ·exact ck_ (ck_ (ck_ (ck_ (ck_ (cl_ ⟨c,fun k g=>f k (b k g),e⟩)))))
  ·exact ck_ (ck_ (ck_ (ck_ (ck_ (ck_ ⟨c,l,r,b,f l e,f r j⟩)))))
end Go.Proofs.YtmjbnmpamlainaaGreatDoor.Hs
namespace Go.Proofs.YtmjbnmpamlainaaGreatDoor
open Hs
open _root_.Go.Proofs.Tryz
open Go.RowKit
def B5(s:ByteArray)(k:Nat)(h:k<s.size):s.data.toList.take (k+1)=s.data.toList.take k++[s[k]]:=by
 rw[cK_ (by simpa using h)];rfl
def YW{k:IntKind}{a b:Int}(h:a=b):Ending.returned (.int k a)=aZ (.int k b):=by rw[h]
def jX{a b:Bool}(h:a=b):Ending.returned (.bool a)=aZ (.bool b):=by rw[h]
def bk_(c d:UInt8):(c=d)↔((c.toNat:Int)=(d.toNat:Int)):=by
 rw[<-dJ_];omega
def oY(c:UInt8):(c.toNat:Int)<=255:=by have:=c.toNat_lt;omega
def BQ(s:ByteArray)(k:Nat)(h:k<s.size):s.data.toList[k]?=some s[k]:=by
 simp[h];rfl
def IX(s:ByteArray)(n i:Nat)(h:n+i<s.size):(s.data.toList.drop n)[i]?=some s[n+i]:=by
 rw[dK_];exact BQ s _ h
def XC{l:cD}{i lo hi:Nat}(h:dN l i lo hi=true):i<l.length:=by
 unfold dN at h;by_cases a:i<l.length
 ·exact a
 ·rw[cV_ (by omega)] at h;cases h
def N9(l:cD):bK l<=l.length:=by
 unfold bK;split
 ·omega
 ·rename_i b a
  have c:0<l.length:=by
   by_cases h:0<l.length
   ·exact h
   ·rw[cV_ (by omega)] at a;cases a
  repeat' split
  all_goals first
   |omega
   |(have:=XC ‹dN l 1 _ _=true›;omega)
   |(have h:=‹(dN l 1 _ _ && dN l 2 _ _)=true›
     simp only[cO_] at h;have:=XC h.2;omega)
   |(have h:=‹(dN l 1 _ _ && dN l 2 _ _ && dN l 3 _ _)=true›
     simp only[cO_] at h;have:=XC h.2;omega)
def MF(l:cD)(p f:Nat)(h:0<l.length)(a:bK l≠0):dY (f+1) l p=dY f (l.drop (bK l)) (p+bK l):=by
 rw[dY,if_neg (by omega),if_neg a]
def PQ(l:cD)(p f:Nat)(h:0<l.length)(a:bK l=0):dY (f+1) l p=some p:=by
 rw[dY,if_neg (by omega),if_pos a]
def PP(l:cD)(p f:Nat)(h:l.length=0):dY f l p=none:=by
 cases f with
 |zero=>rfl
 |succ f=>rw[dY,if_pos h]
def nD(x l:cD)(h:x.length<=l.length):x.isPrefixOf l=(l.take x.length==x):=by
 induction x generalizing l with
 |nil=>simp
 |cons a x c=>
  cases l with
  |nil=>simp at h
  |cons b l=>
   simp only[List.isPrefixOf,ct_,dj_,List.cons_beq_cons];rw[c l (by simpa using h),show (a==b)=(b==a) from Bool.beq_comm]
def BO(x l:cD)(h:l.length<x.length):x.isPrefixOf l=false:=by
 rw[Bool.eq_false_iff];intro a;have:=(dN_.1 a).length_le;omega
def lN(s:ByteArray)(k:Nat)(h:k<s.size):s.data.toList.drop k=s[k]::s.data.toList.drop (k+1):=by
 rw[dC_ (by simpa using h)];rfl
def YH(f:Nat):Hs.blankL f []=0:=by cases f<;>rfl
def OG(f:Nat)(c:UInt8)(r:cD)(h:c.toNat=32\/c.toNat=9\/c.toNat=10):Hs.blankL (f+1) (c::r)=Hs.blankL f r+1:=by
 rw[Hs.blankL,if_pos h]
def JP(f:Nat)(c:UInt8)(r:cD)(h:¬(c.toNat=32\/c.toNat=9\/c.toNat=10))(a:cY (c::r) [47,47]=true):
 Hs.blankL (f+1) (c::r)=bP eS (c::r)+Hs.blankL f ((c::r).drop (bP eS (c::r))):=by
 rw[Hs.blankL,if_neg h,if_pos a]
def TQ(f:Nat)(c:UInt8)(r:cD)(h:¬(c.toNat=32\/c.toNat=9\/c.toNat=10))(a:cY (c::r) [47,47]=false):
 Hs.blankL (f+1) (c::r)=0:=by
 rw[Hs.blankL,if_neg h,if_neg (by rw[a];simp)]
def tA(p:UInt8->Bool)(c:UInt8)(r:cD)(h:p c=true):bP p (c::r)=bP p r+1:=by rw[bP,if_pos h]
def PR(p:UInt8->Bool)(c:UInt8)(r:cD)(h:p c=false):bP p (c::r)=0:=by rw[bP,if_neg (by rw[h];simp)]
def F6(b:UInt8):eS b=((b.toNat:Int) != 10):=by
 unfold eS;rw[dA_];simp;omega
def bs(l:cD):ByteArray:=⟨l.toArray⟩
def fX(l:cD):(bs l).data.toList=l:=by simp[bs]
def gR(l:cD):(bs l).size=l.length:=by simp[bs,ByteArray.size]
def k9{a b:ByteArray}(h:a.data.toList=b.data.toList):a=b:=by
 cases a;cases b;simp only at h;congr 1;exact Array.toList_inj.1 h
def FE(s:ByteArray)(a b:Nat):s.extract a b=bs ((s.data.toList.drop a).take (b-a)):=
 k9 (by rw[Lib.extract_data,fX])
def cE(l:cD):(bs l).toList=l:=by rw[Lib.toList_data,fX]
def tB(p:UInt8->Bool)(l:cD):∀c∈l.take (bP p l),p c=true:=by
 induction l with
 |nil=>simp
 |cons a r d=>
  intro c b;by_cases h:p a=true
  ·rw[tA _ _ _ h,dj_] at b;rcases cv_.1 b with rfl|b
   ·exact h
   ·exact d c b
  ·rw[PR _ _ _ (by simpa using h)] at b;simp at b
def bcell{W w1:aG}(a:Below W.heap.size W w1):(∀b o,b<W.heap.size->w1.cell? (aH b o)=W.cell? (aH b o))/\(∀b o,b<W.heap.size->w1.frozen? (aH b o)=W.frozen? (aH b o)):=
 ⟨fun b o h=>a.cell (p:=(aH b o)) h,fun b o h=>a.frozen (p:=(aH b o)) h⟩
def MX:∀k (h:k<21),(cX[k]'(by simpa [cX] using h)).length<=2:=by decide
def yJ(l:cD)(k:Nat):Prop:=∀o∈cX.take k,cY l o=false
def QW{l:cD}{k:Nat}(h:k<21)(c:yJ l k)(b:cY l (cX[k]'(by simpa [cX] using h))=false):yJ l (k+1):=by
 intro o a;rw[cK_ (by simpa [cX] using h)] at a
 rcases cu_.1 a with a|a
 ·exact c o a
 ·rw[cs_.1 a];exact b
def VS{l:cD}{k:Nat}(h:k<21)(c:yJ l k)(q:cD)(b:q=cX[k]'(by simpa [cX] using h))(a:cY l q=true):
 iD l={ sort:=112,text:=q,size:=q.length,ok:=true }:=by
 have e:cX.find? (fun o=>cY l o)=some q:=by
  rw[List.find?_eq_some_iff_getElem];refine⟨a,k,by simpa [cX] using h,b.symm,fun j d=>?_⟩
  have:=c (cX[j]'(by have:cX.length=21:=rfl;omega)) (by
   rw[List.mem_take_iff_getElem];exact⟨j,by have:cX.length=21:=rfl;omega,rfl⟩)
  simp[this]
 unfold iD;rw[e]
def QQ{l:cD}(b:yJ l 21):iD l={ sort:=0,text:=[],size:=0,ok:=false }:=by
 have e:cX.find? (fun o=>cY l o)=none:=by
  rw[dy_];intro o a;rw[b o (by rw[cS_ (by decide)];exact a)];simp
 unfold iD;rw[e]
def R9(s:ByteArray)(k f:Nat)(e:k<s.size)(a:(cG (s.data.toList.drop k)).ok=true)(m:Nat)
 (b:m=k+(cG (s.data.toList.drop k)).size+Hs.blankL s.size (s.data.toList.drop (k+(cG (s.data.toList.drop k)).size))):
 eW (f+1) (s.data.toList.take k) (s.data.toList.drop k)=
  iX [{ sort:=(cG (s.data.toList.drop k)).sort,text:=(cG (s.data.toList.drop k)).text,line:=bE (s.data.toList.take k) }] (eW f (s.data.toList.take m) (s.data.toList.drop m)):=by
 have c:(s.data.toList.drop k).length=s.size-k:=by simp
 have d:=vR _ a
 rw[mS f _ _ (by omega) a (m-k) (by
  rw[c,dx_,b,GD s.size (s.size-k) _ (by simp) (by simp;omega)];omega)]
 rw[dx_,show k+(m-k)=m by omega,<-List.take_add,show k+(m-k)=m by omega]
def iN{w w1:aG}{b:Nat}{e:TypeId}{a:Nat}{v:aQ}{n:Nat}{xs:List Value}(h:w.ownsRow b e a v n xs)(l:Below w.heap.size w w1):w1.ownsRow b e a v n xs:=by
 refine⟨h.1,?_⟩;rcases h.2 with d|⟨g,f,c,k,d,i,j⟩
 ·exact cl_ d
 ·refine ck_ ⟨g,f,c,k,d,?_,j⟩;rw[l.block g ?_];exact i;by_cases m:g<w.heap.size
  ·exact m
  ·rw[dc_ (by omega)] at i;cases i
def cS{w:aG}{b:Nat}{e:TypeId}{a:Nat}{v:aQ}{n:Nat}{xs:List Value}(h:w.ownsRow b e a v n xs):∀k,v.ownBlock=some k->b<=k:=by
 intro k c;rcases h.2 with ⟨rfl,_⟩|⟨g,f,d,rfl,i,_⟩
 ·cases c
 ·have:g=k:=Option.some.inj c;omega
def aB{p:Prop}(h:p):Hid p:=h
structure Ctx where
 pb:Nat
 g:Nat
 cap:Nat
 ts:List bB
structure Fr(pb:Nat)(w w':aG):Prop where
 os:w'.os=w.os
 tape:w'.tape=w.tape
 output:w'.output=w.output
 size:w.heap.size<=w'.heap.size
 block:∀k,k<w.heap.size->k≠pb->w'.heap[k]?=w.heap[k]?
def Fr.refl(pb:Nat)(w:aG):Fr pb w w:=⟨rfl,rfl,rfl,cL,fun _ _ _=>rfl⟩
def Fr.trans{pb:Nat}{a b c:aG}(h:Fr pb a b)(k:Fr pb b c):Fr pb a c:=
 ⟨k.os.trans h.os,k.tape.trans h.tape,k.output.trans h.output,cw_ h.size k.size,fun i d e=>(k.block i (cn_ d h.size) e).trans (h.block i d e)⟩
def Fr.below{pb:Nat}{w w':aG}(h:Below w.heap.size w w'):Fr pb w w':=⟨h.os,h.tape,h.output,h.size,fun k a _=>h.block k a⟩
def Fr.drew{pb:Nat}{a w:aG}(h:Fr pb a w):Fr pb a w.drew:=⟨h.os,h.tape,h.output,h.size,h.block⟩
def Fr.drewN{pb:Nat}{a w:aG}(h:Fr pb a w)(n:Nat):Fr pb a (w.drewN n):=⟨h.os,h.tape,h.output,h.size,h.block⟩
def Fr.alloc{pb:Nat}{a w:aG}(h:Fr pb a w)(o:Obj):Fr pb a (w.alloc o):=h.trans (Fr.below ((co_ _ _).alloc cL _))
def Fr.setCell{pb:Nat}{a w:aG}(h:Fr pb a w){p:Addr}(d:p.block=pb\/a.heap.size<=p.block)(u:aQ):Fr pb a (w.setCell p u):=
 ⟨h.os,h.tape,h.output,by have:=h.size;simpa [World.setCell] using this,fun k b c=>by rw[cm_ _ _ _ _ (by omega)];exact h.block k b c⟩
def aC{w:aG}{b:Nat}{o:Obj}(h:w.heap[b]?=some o):b<w.heap.size:=by
 by_cases a:b<w.heap.size
 ·exact a
 ·rw[dc_ (by omega)] at h;cases h
def aA{w:aG}{b i:Nat}{c:Array Value}{e:TypeId}(h:w.heap[b]?=some (.cells c e (0,0))){v:aQ}(a:c[i]?=some v):w.cell? (aH b i)=some v:=by
 simp[World.cell?,h,a]
def aD{w:aG}{b i:Nat}{c:Array Value}{e:TypeId}(h:w.heap[b]?=some (.cells c e (0,0))):w.frozen? (aH b i)=false:=by
 simp[World.frozen?,h]
def aK{w:aG}{b i:Nat}{c:Array Value}{e:TypeId}{f:Nat × Nat}(h:w.heap[b]?=some (.cells c e f)){u:aQ}:(w.setCell (aH b i) u).heap[b]?=some (.cells (c.setIfInBounds i u) e f):=by
 simp[World.setCell,Array.getElem?_modify,h]
def kW(R:Value->aE->Prop):List Value->List aE->Prop
 |[],[]=>True
 |v::vs,a::ks=>R v a/\kW R vs ks
 |_,_=>False
def kW.mono{R S:Value->aE->Prop}(h:∀v a,R v a->S v a):∀{vs ks},kW R vs ks->kW S vs ks
 |[],[],_=>trivial
 |_::_,_::_,⟨c,b⟩=>⟨h _ _ c,kW.mono h b⟩
 |[],_::_,h=>h.elim
 |_::_,[],h=>h.elim
def kW.snoc{R:Value->aE->Prop}:∀{vs ks} {v a},kW R vs ks->R v a->kW R (vs++[v]) (ks++[a])
 |[],[],_,_,_,h=>⟨h,trivial⟩
 |_::_,_::_,_,_,⟨c,b⟩,h=>⟨c,kW.snoc b h⟩
 |[],_::_,_,_,h,_=>h.elim
 |_::_,[],_,_,h,_=>h.elim
def Btw(lo hi:Nat)(b:Nat):Prop:=lo<=b/\b<hi
def aW{w w1:aG}{b:Nat}{e:TypeId}{a:Nat}{v:aQ}{n:Nat}{xs:List Value}(h:w.ownsRow b e a v n xs)(l:∀k,v.ownBlock=some k->w1.heap[k]?=w.heap[k]?):w1.ownsRow b e a v n xs:=by
 refine⟨h.1,?_⟩;rcases h.2 with d|⟨g,f,c,i,d,m,j⟩
 ·exact cl_ d
 ·refine ck_ ⟨g,f,c,i,d,?_,j⟩;rw[l g (by rw[i];rfl)];exact m
def cP{w:aG}{b:Nat}{e:TypeId}{a:Nat}{v:aQ}{n:Nat}{xs:List Value}(h:w.ownsRow b e a v n xs):∀k,v.ownBlock=some k->k<w.heap.size:=by
 intro k c;rcases h.2 with ⟨rfl,_⟩|⟨g,f,d,rfl,j,i,_⟩
 ·cases c
 ·have:g=k:=Option.some.inj c;subst this;exact aC i
def Fr.grown{pb:Nat}{a w w':aG}{b:Option Nat}(h:Fr pb a w)(c:w.grownBy w' b)(f:∀k,b=some k->a.heap.size<=k):Fr pb a w':=
 ⟨c.os.trans h.os,c.tape.trans h.tape,c.output.trans h.output,cw_ h.size c.size,fun k d g=>by
   rw[c.block k (cn_ d h.size) (fun e=>by have:=f k e.symm;omega)];exact h.block k d g⟩
def aO(X:aG)(n:Nat)(b:n=X.heap.size)(a:Obj):(X.alloc a).heap[n]?=some a:=by
 subst b;show (X.heap.push a)[X.heap.size]?=_
 rw[Array.getElem?_push,if_pos rfl]
def eA(X:aG)(n:Nat)(a:n<X.heap.size)(o:Obj){b:Option Obj}(h:X.heap[n]?=b):(X.alloc o).heap[n]?=b:=by
 rw[cq_ _ _ _ a];exact h
def zB{w w':aG}{b i:Nat}(h:w'.heap[b]?=w.heap[b]?):w'.cell? (aH b i)=w.cell? ⟨b,i,none⟩:=by simp[World.cell?,h]
def lI(l:cN):List Value:=l.map fun x=>.string (bs x)
def ZF:(prog.info? 9).map (fun i=>(i.zero,i.size,i.bytes))=some (some (.string (bs [])),1,16):=by kernel_rfl
def kW.get{R:Value->aE->Prop}:∀{vs ks} (i:Nat) (hi:i<ks.length),kW R vs ks->∃v,vs[i]?=some v/\R v ks[i]
 |v::vs,a::ks,0,_,h=>⟨v,rfl,h.1⟩
 |v::vs,a::ks,i+1,hi,h=>by
  obtain⟨u,c,b⟩:=kW.get (vs:=vs) (ks:=ks) i (by simpa using hi) h.2
  exact⟨u,by simpa using c,by simpa using b⟩
 |[],_::_,_,_,h=>h.elim
 |_::_,[],_,hi,_=>by simp at hi
 |[],[],_,hi,_=>by simp at hi
def oL(s:bD)(l k:Nat):(s.found l k).seen=s.seen:=by
 unfold bD.found;split<;>rfl
def YE{fs:List aE}{alone:Bool}{s:bD}{a:aE}{W:Int}(h:jC fs alone a.text=W)(b:W<0):eO fs alone s a=s.found a.line 6:=by
 unfold eO;rw[h,if_pos b]
def O6{fs:List aE}{alone:Bool}{s:bD}{a:aE}{W:Int}(h:jC fs alone a.text=W)(c:¬W<0)(b:W≠(a.kids.length:Int)):eO fs alone s a=s.found a.line 7:=by
 unfold eO;rw[h,if_neg c,if_pos b]
def O7{fs:List aE}{alone:Bool}{s:bD}{a:aE}{W:Int}(h:jC fs alone a.text=W)(c:¬W<0)(b:W=(a.kids.length:Int)):eO fs alone s a=s:=by
 unfold eO;rw[h,if_neg c,if_neg (by simpa using b)]
def WS(fs:List aE)(alone:Bool)(s:bD)(n:aE):(cK fs alone s n).seen=s.seen:=by
 unfold cK eO;repeat' split
 all_goals first|rfl|exact oL _ _ _
def oD(s:bD)(n:aE):(Hs.declaresL s n).seen=s.seen:=by
 unfold Hs.declaresL;split
 ·exact oL _ _ _
 ·rfl
def Adds(s s':bD)(m:Nat):Prop:=∃t,s'.seen=s.seen++t/\t.length<=m
def Adds.refl(s:bD):Adds s s 0:=⟨[],by simp,cL⟩
def Adds.trans{a b c:bD}{m n:Nat}(h:Adds a b m)(k:Adds b c n):Adds a c (m+n):=by
 obtain⟨t,e,g⟩:=h;obtain⟨u,d,f⟩:=k;exact⟨t++u,by rw[d,e,c4_],by simp;omega⟩
def Adds.le{a b:bD}{m n:Nat}(h:Adds a b m)(e:m<=n):Adds a b n:=by
 obtain⟨t,c,d⟩:=h;exact⟨t,c,by omega⟩
def Adds.of_eq{a b:bD}(h:b.seen=a.seen):Adds a b 0:=⟨[],by simp[h],cL⟩
def Adds.fold{f:bD->aE->bD}{g:aE->Nat}(h:∀s k,Adds s (f s k) (g k)):∀(l:List aE) (s:bD),Adds s (l.foldl f s) (l.map g).sum
 |[],s=>Adds.refl s
 |k::l,s=>by
  rw[dt_,cE_,cH_];exact(h s k).trans (Adds.fold h l _)
def gL(fs:List aE)(alone:Bool):∀(d:Nat) (n:aE) (s:bD),Adds s (aP fs alone d n s) (cC d n)
 |0,n,s=>Adds.refl s
 |d+1,n,s=>by
  rw[aP,cC];split
  ·match h:n.kids with
   |t::v::r=>
    simp only;have b:Adds s (Hs.declaresL s t) 0:=Adds.of_eq (oD s t);obtain⟨u,a,c⟩:=b.trans (gL fs alone d v (Hs.declaresL s t));exact⟨u++[t.text],by simp[a],by simp;omega⟩
   |[]=>exact(Adds.refl s).le (by omega)
   |[_]=>exact(Adds.refl s).le (by omega)
  ·have b:Adds s (cK fs alone s n) 0:=Adds.of_eq (WS fs alone s n);have a:=b.trans (Adds.fold (f:=fun s k=>aP fs alone d k s) (g:=cC d) (fun s k=>gL fs alone d k s) n.kids (cK fs alone s n))
   split
   ·obtain⟨u,c,e⟩:=a;exact⟨[],by simp[c],by simp⟩
   ·exact a.le (by omega)
def uU{f:aE->Nat}{k:aE}:∀{l:List aE},k∈l->f k<=(l.map f).sum
 |[],h=>by cases h
 |x::l,h=>by
  simp only[cE_,cH_];rcases cv_.1 h with rfl|h
  ·omega
  ·have:=uU (f:=f) h;omega
def PH{w:aG}{base:Nat}{v:aQ}{l:cN}(h:w.ownsRow base 9 1 v l.length (lI l))(m:Nat)(q:m<=l.length):
 ∃x c,v=.slice x l.length c/\l.length<=c/\c<=maxLen/\w.ownsRow base 9 1 (.slice x m c) m (lI (l.take m)):=by
 have f:(lI (l.take m)).length=m*1:=by simp[lI];omega
 rcases h.2 with ⟨rfl,j⟩|⟨g,a,b,rfl,i,o,k,d,p,n⟩
 ·refine⟨none,0,by rw[j],by omega,by unfold maxLen;omega,f,cl_ ⟨?_,by omega⟩⟩
  rw[show m=0 by omega]
 ·refine⟨_,a,rfl,k,d,f,ck_ ⟨g,a,b,rfl,i,o,by omega,d,p,?_⟩⟩
  have e:lI (l.take m)=(lI l).take m:=by simp[lI,List.map_take]
  rw[e,<-n,dF_];congr 1;omega
def QY(w:aG)(x:cD):∀j u,([.string (bs x)]:List Value)[j]?=some u->(w.alloc (.cells #[.string (bs x)] 9)).cell? ((⟨w.heap.size,0,none⟩:Addr).add j)=some u:=by
 intro j u a;match j,a with
 |0,a=>simp at a;subst a;simp[Addr.add,go_sem]
 |j+1,a=>simp at a
def YZ(x:cD):∀u∈([.string (bs x)]:List Value),u.oneCell'=true:=by
 intro u a;simp at a;subst a;rfl
def qE(d:Nat):∀l:List aE,l.length<=(l.map (cC (d+1))).sum
 |[]=>by simp
 |x::l=>by
  have:=qE d l;have a:1<=cC (d+1) x:=by rw[cC];omega
  simp only[ct_,cE_,cH_];omega
def FineL.mem{m:Nat}{l:List aE}(h:Hs.FineL m l){f:aE}(a:f∈l):Hs.FineA m f:=fun d=>⟨cw_ (uU a) (h d).1,(h d).2 f a⟩
def FineL.len{m:Nat}{l:List aE}(h:Hs.FineL m l):l.length<=m:=cw_ (qE 0 l) (h 1).1
end Go.Proofs.YtmjbnmpamlainaaGreatDoor
