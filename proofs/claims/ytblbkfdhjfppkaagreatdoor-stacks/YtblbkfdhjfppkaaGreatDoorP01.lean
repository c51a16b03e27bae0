/- The shapes of trees that were read: plain facts. -/
import Derived.Test.YtblbkfdhjfppkaaGreatDoorP00
set_option linter.defProp false
set_option maxRecDepth 100000
namespace Go.Proofs.YtblbkfdhjfppkaaGreatDoor.Hs
inductive dC:aC->Prop
 |leaf (a:aC) (h:a.op=[48]\/a.op=[115]\/a.op=[98,111,111,108]\/a.op=[110,97,109,101]) (hk:a.kids=[]) (ht:a.op=[115]->MH a.text):dC a
 |many (a:aC) (h:a.op=[108,105,115,116]\/a.op=[99,97,108,108]) (hk:∀k∈a.kids,dC k):dC a
 |one (a l:aC) (h:a.op=[45,120]\/a.op=[33,120]) (hk:a.kids=[l]) (hl:dC l):dC a
 |two (a l r:aC) (h:a.op=[105,110,100,101,120]\/bZ a.op≠9) (hk:a.kids=[l,r]) (hl:dC l) (hr:dC r):dC a
inductive fZ:aC->Prop
 |var (a t v:aC) (h:a.op=[118,97,114]) (hk:a.kids=[t,v]) (hv:dC v) (ht:t.op=[116,97,114,103,101,116]/\t.kids=[]):fZ a
 |set (a:aC) (h:a.op=[115,101,116]) (hn:a.kids≠[]) (hk:∀k∈a.kids,dC k):fZ a
 |if2 (a c t:aC) (h:a.op=[105,102]) (hk:a.kids=[c,t]) (hc:dC c) (ht:t.op=[98,108,111,99,107]) (htk:∀k∈t.kids,fZ k):fZ a
 |if3 (a c t x:aC) (h:a.op=[105,102]) (hk:a.kids=[c,t,x]) (hc:dC c) (ht:t.op=[98,108,111,99,107]) (htk:∀k∈t.kids,fZ k) (hx:x.op=[98,108,111,99,107]) (hxk:∀k∈x.kids,fZ k):fZ a
 |whl (a c t:aC) (h:a.op=[119,104,105,108,101]) (hk:a.kids=[c,t]) (hc:dC c) (ht:t.op=[98,108,111,99,107]) (htk:∀k∈t.kids,fZ k):fZ a
 |ret0 (a:aC) (h:a.op=[114,101,116,117,114,110]) (hk:a.kids=[]):fZ a
 |ret1 (a v:aC) (h:a.op=[114,101,116,117,114,110]) (hk:a.kids=[v]) (hv:dC v):fZ a
 |print (a v:aC) (h:a.op=[112,114,105,110,116]) (hk:a.kids=[v]) (hv:dC v):fZ a
 |call (a c:aC) (h:a.op=[100,111]) (hk:a.kids=[c]) (hc:dC c) (ho:c.op=[99,97,108,108]):fZ a
structure MN(b:aC):Prop where
 op:b.op=[98,108,111,99,107]
 kids:∀k∈b.kids,fZ k
structure rK(f:aC):Prop where
 kids:∃ps b,f.kids=ps++[b]/\(∀x∈ps,x.op=[112,97,114,97,109])/\MN b/\∀x∈ps,x.kids=[]
def bM{α:Type}(P:α->Prop)(r:bU α):Prop:=∀a q,r=.ok (a,q)->P a
def bM.err{b:Type}{P:b->Prop}{n:Nat}:bM P (.error n):=fun a q h=>by cases h
def bM.bad{c:Type}{P:c->Prop}{b:Nat}{ts:List aX}:bM P (bad ts b):=fun a q h=>by cases h
def bM.of_ok{b:Type}{P:b->Prop}{q:Nat}{a:b}(h:P a):bM P (.ok (a,q)):=fun c d e=>by cases e;exact h
def bM.take{b:Type}{P:b->Prop}{ts:List aX}{x:List UInt8}{r:bU b}(h:bM P r):bM P (aN ts x r):=by
 cases r with
 |error l=>exact bM.err
 |ok c=>
  obtain⟨a,q⟩:=c;have:=h a q rfl;unfold aN;simp only;split
  ·exact bM.of_ok this
  ·exact bM.bad
def bM.map{b c:Type}{P:b->Prop}{Q:c->Prop}{r:bU b}{f:b->c}(h:bM P r)(d:∀a,P a->Q (f a)):bM Q (bX f r):=by
 cases r with
 |error l=>exact bM.err
 |ok e=>obtain⟨a,q⟩:=e;exact bM.of_ok (d a (h a q rfl))
def bM.bind{b c:Type}{P:b->Prop}{Q:c->Prop}{r:bU b}{f:b->Nat->bU c}(h:bM P r)(d:∀a q,P a->bM Q (f a q)):bM Q (bR r f):=by
 cases r with
 |error l=>exact bM.err
 |ok e=>obtain⟨a,q⟩:=e;exact d a q (h a q rfl)
def eN(P:aC->Prop)(l:List aC):Prop:=∀k∈l,P k
def eN.nil{P:aC->Prop}:eN P []:=fun _ h=>by cases h
def eN.snoc{P:aC->Prop}{l:List aC}{a:aC}(h:eN P l)(c:P a):eN P (l++[a]):=fun k b=>by
 rcases aE_.1 b with b|b
 ·exact h k b
 ·rw[aD_.1 b];exact c
section
variable {ts:List aX} {E:Nat->bU aC}
def rJ(ts:List aX):Prop:=∀p,(aP ts p).sort=115->MH (aP ts p).text
def qO(d:∀q,bM dC (E q)):∀(g p:Nat) (acc:List aC),eN dC acc->bM (eN dC) (dH E ts g p acc)
 |0,p,acc,_=>bM.err
 |g+1,p,acc,c=>by
  rw[dH];cases f:E p with
  |error l=>exact bM.err
  |ok e=>
   obtain⟨a,q⟩:=e;have b:=d p a q f;simp only;split
   ·exact qO d g (q+1) _ (c.snoc b)
   ·exact bM.of_ok (c.snoc b)
def qN(a:∀q,bM dC (E q))(p:Nat)(x y:List UInt8):bM (eN dC) (eK E ts p x y):=by
 unfold eK;split
 ·refine bM.take ?_;unfold gX;split
  ·exact bM.of_ok eN.nil
  ·exact qO a _ _ _ eN.nil
 ·exact bM.bad
def FF(b:rJ ts)(c:∀q,bM dC (E q))(p:Nat):bM dC (dT E ts p):=by
 unfold dT;split
 ·rename_i h;simp at h;rcases h with h|h
  ·refine bM.of_ok (.leaf _ (av_ (by show [UInt8.ofNat _]=_;rw[h];rfl)) rfl fun e=>?_)
   have d:[UInt8.ofNat (aP ts p).sort]=[115]:=e;rw[h] at d;exact absurd d (by decide)
  ·exact bM.of_ok (.leaf _ (as_ (av_ (by show [UInt8.ofNat _]=_;rw[h];rfl))) rfl fun _=>b p h)
 split
 ·exact bM.of_ok (.leaf _ (as_ (as_ (av_ rfl))) rfl fun e=>by simp[aR] at e)
 split
 ·exact(c (p+1)).take
 split
 ·exact bM.map (qN c p _ _) fun a h=>.many _ (av_ rfl) h
 split
 ·split
  ·exact bM.map (qN c (p+1) _ _) fun a h=>.many _ (as_ rfl) h
  ·exact bM.of_ok (.leaf _ (as_ (as_ (as_ rfl))) rfl fun e=>by simp[aR] at e)
 ·exact bM.bad
def xT(b:∀q,bM dC (E q)):∀(g:Nat) (n:aC) (p:Nat),dC n->bM dC (cZ E ts g n p)
 |0,n,p,_=>bM.err
 |g+1,n,p,a=>by
  rw[cZ];split
  ·have c:=(b (p+1)).take (ts:=ts) (x:=[93]);cases d:aN ts [93] (E (p+1)) with
   |error l=>exact bM.err
   |ok e=>
    obtain⟨i,q⟩:=e;exact xT b g _ q (.two _ n i (av_ rfl) rfl a (c i q d))
  ·exact bM.of_ok a
def qL(b:rJ ts)(c:∀q,bM dC (E q)):∀(g p:Nat),bM dC (eH E ts g p)
 |0,p=>bM.err
 |g+1,p=>by
  rw[eH];split
  ·exact bM.map (qL b c g (p+1)) fun a h=>.one _ a (av_ rfl) rfl h
  split
  ·exact bM.map (qL b c g (p+1)) fun a h=>.one _ a (as_ rfl) rfl h
  ·exact bM.bind (FF b c p) fun a q d=>xT c _ a q d
def pN{L:Nat->bU aC}{k:Nat}(b:k<9)(d:∀q,bM dC (L q)):∀(g:Nat) (n:aC) (q:Nat),dC n->bM dC (bE L ts k g n q)
 |0,n,q,_=>bM.err
 |g+1,n,q,c=>by
  rw[bE];split
  ·rename_i a;cases j:L (q+1) with
   |error l=>exact bM.err
   |ok h=>
    obtain⟨r,e⟩:=h;have i:=d _ r e j;have f:dC (aR (aP ts q).text (aP ts q).line [] [n,r]):=.two _ n r (as_ (by simp at a;show bZ (aP ts q).text≠9;rw[a.2];omega)) rfl c i
    simp only;split
    ·exact bM.of_ok f
    ·exact pN b d g _ e f
  ·exact bM.of_ok c
def qP(b:rJ ts)(c:∀q,bM dC (E q)):∀(j p:Nat),bM dC (fK E ts j p)
 |0,p=>qL b c _ p
 |j+1,p=>by
  rw[fK];exact bM.bind (qP b c j p) fun a q d=>pN (by omega) (fun q=>qP b c j q) _ a q d
def CF(ts:List aX)(a:rJ ts):∀(f p:Nat),bM dC (fB ts f p)
 |0,p=>bM.err
 |f+1,p=>by
  rw[fB];exact qP a (fun q=>CF ts a f q) 5 p
def sP(b:∀q,bM dC (E q)):∀(g p:Nat) (acc:List aC),eN dC acc->bM (eN dC) (eP E ts g p acc)
 |0,p,acc,_=>bM.err
 |g+1,p,acc,a=>by
  rw[eP];split
  ·have c:=(b (p+1)).take (ts:=ts) (x:=[93]);cases d:aN ts [93] (E (p+1)) with
   |error l=>exact bM.err
   |ok e=>
    obtain⟨i,q⟩:=e;exact sP b g q _ (a.snoc (c i q d))
  ·exact bM.of_ok a
def KK(b:∀q,bM dC (E q))(p:Nat):bM fZ (eO E ts p):=by
 unfold eO;split
 ·split
  ·exact bM.take (bM.map (qN b (p+1) _ _) fun a h=>.call _ _ rfl rfl (.many _ (as_ rfl) h) rfl)
  ·refine bM.bind ((sP b _ (p+1) [] eN.nil).take) fun l q d=>?_
   exact bM.take (bM.map (b q) fun v c=>.set _ rfl (by simp[aR]) (d.snoc c))
 ·exact bM.bad
def TE{B:Nat->bU aC}(a:∀q,bM dC (E q))(h:∀q,bM MN (B q))(p:Nat):bM fZ (iW E B ts p):=by
 unfold iW;split
 ·unfold oM;split
  ·split
   ·exact bM.take (bM.map (a (p+3)) fun v e=>.var _ _ v rfl rfl e ⟨rfl,rfl⟩)
   ·exact bM.bad
  ·exact bM.bad
 split
 ·unfold qU;refine bM.bind (a (p+1)) fun c q f=>bM.bind (h q) fun b k g=>?_
  split
  ·exact bM.map (h (k+1)) fun d i=>.if3 _ c b d rfl rfl f g.op g.kids i.op i.kids
  ·exact bM.of_ok (.if2 _ c b rfl rfl f g.op g.kids)
 split
 ·unfold kE;exact bM.bind (a (p+1)) fun c q f=>bM.map (h q) fun b j=>.whl _ c b rfl rfl f j.op j.kids
 split
 ·unfold gP;split
  ·exact bM.of_ok (.ret0 _ rfl rfl)
  ·exact bM.take (bM.map (a (p+1)) fun v e=>.ret1 _ v rfl rfl e)
 split
 ·unfold iM;exact bM.take (bM.map (a (p+1)) fun v e=>.print _ v rfl rfl e)
 ·exact KK a p
def pO{S:Nat->bU aC}(b:∀q,bM fZ (S q)):∀(g p:Nat) (acc:List aC),eN fZ acc->bM (eN fZ) (dI S ts g p acc)
 |0,p,acc,_=>bM.err
 |g+1,p,acc,a=>by
  rw[dI];split
  ·exact bM.of_ok a
  ·cases c:S p with
   |error l=>exact bM.err
   |ok d=>
    obtain⟨s,q⟩:=d;exact pO b g q _ (a.snoc (b p s q c))
def xU(a:∀q,bM dC (E q)):∀(f p:Nat),bM MN (iQ E ts f p)
 |0,p=>bM.err
 |f+1,p=>by
  rw[iQ];split
  ·exact bM.map (bM.take (pO (fun q=>TE a (fun q=>xU a f q) q) _ (p+1) [] eN.nil)) fun l h=>⟨rfl,h⟩
  ·exact bM.bad
def pM:∀(g p:Nat) (acc:List aC),eN (fun x=>x.op=[112,97,114,97,109]/\x.kids=[]) acc->bM (eN fun x=>x.op=[112,97,114,97,109]/\x.kids=[]) (cR ts g p acc)
 |0,p,acc,_=>bM.err
 |g+1,p,acc,b=>by
  have a:eN (fun x=>x.op=[112,97,114,97,109]/\x.kids=[]) (acc++[aR [112,97,114,97,109] (aP ts p).line (aP ts p).text []]):=b.snoc ⟨rfl,rfl⟩
  rw[cR];split
  ·split
   ·exact pM g (p+2) _ a
   ·exact bM.of_ok a
  ·exact bM.bad
def TF{B:Nat->bU aC}(e:∀q,bM MN (B q))(p:Nat):bM rK (jS B ts p):=by
 unfold jS;split
 ·split
  ·split
   ·have a:bM (eN fun x=>x.op=[112,97,114,97,109]/\x.kids=[]) (gR ts (p+3)):=by
     unfold gR;refine bM.take ?_;split
     ·exact bM.of_ok eN.nil
     ·exact pM _ (p+3) [] eN.nil
    exact bM.bind a fun l q d=>bM.map (e q) fun b f=>⟨l,b,rfl,fun x c=>(d x c).1,f,fun x c=>(d x c).2⟩
   ·exact bM.bad
  ·exact bM.bad
 ·exact bM.bad
def qM{F:Nat->bU aC}(b:∀q,bM rK (F q)):∀(g p:Nat) (acc:List aC),eN rK acc->bM (eN rK) (eQ F ts g p acc)
 |0,p,acc,_=>bM.err
 |g+1,p,acc,a=>by
  rw[eQ];split
  ·exact bM.of_ok a
  ·cases d:F p with
   |error l=>exact bM.err
   |ok c=>
    obtain⟨s,q⟩:=c;exact qM b g q _ (a.snoc (b p s q d))
end
def cQ.split{a b:List UInt8}{c:UInt8}(G:c.toNat<128)(h:cQ (a++c::b)):cQ a/\cQ b:=by
 generalize w:a++c::b=l at h;induction h generalizing a with
 |nil=>simp at w
 |cons o r F=>
  subst w;cases a with
  |nil=>
   have e:bF ([]++c::b)=1:=by simp[bF,G]
   rw[e] at r;exact⟨.nil,by simpa using r⟩
  |cons x a=>
   have q:bF (x::a++c::b)<=(x::a).length:=by
    refine Nat.le_of_not_lt fun d=>?_
    have D:∀i g j,128<=g->i=a.length+1->dE (x::a++c::b) i g j=false:=fun i g j s p=>by
     subst p;have:(x::a++c::b)[a.length+1]?=some c:=by simp
     unfold dE;rw[this];simp;omega
    have f:∀i g j,128<=g->dE (x::a++c::b) i g j=true->i≠a.length+1:=fun i g j s t e=>by rw[D i g j s e] at t;cases t
    unfold bF at o d;rw[aB_] at d;simp only[aY_,List.getElem?_cons_zero] at o d f;have k:∀n m:Nat,128<=m->128<=(if x.toNat=n then m else 128):=fun n m h=>by split<;>omega
    by_cases u:x.toNat<128
    ·rw[if_pos u] at d;omega
    rw[if_neg u] at d;by_cases v:194<=x.toNat/\x.toNat<=223
    ·rw[if_pos v] at d;by_cases h:dE (x::(a++c::b)) 1 128 191=true
     ·rw[if_pos h] at d;have:=f _ _ _ (by omega) h;omega
     ·rw[if_neg h] at d;omega
    rw[if_neg v] at d;by_cases y:224<=x.toNat/\x.toNat<=239
    ·rw[if_pos y] at d;by_cases h:(dE (x::(a++c::b)) 1 (if x.toNat=224 then 160 else 128) (if x.toNat=237 then 159 else 191) && dE (x::(a++c::b)) 2 128 191)=true
     ·rw[if_pos h] at d;rw[aX_] at h;have C:=f _ _ _ (k _ _ (by omega)) h.1
      have H:=f _ _ _ (by omega) h.2
      omega
     ·rw[if_neg h] at d;omega
    rw[if_neg y] at d;by_cases z:240<=x.toNat/\x.toNat<=244
    ·rw[if_pos z] at d;by_cases h:(dE (x::(a++c::b)) 1 (if x.toNat=240 then 144 else 128) (if x.toNat=244 then 143 else 191) && dE (x::(a++c::b)) 2 128 191 && dE (x::(a++c::b)) 3 128 191)=true
     ·rw[if_pos h] at d;rw[aX_,aX_] at h;have C:=f _ _ _ (k _ _ (by omega)) h.1.1
      have H:=f _ _ _ (by omega) h.1.2
      have I:=f _ _ _ (by omega) h.2
      omega
     ·rw[if_neg h] at d;omega
    ·rw[if_neg z] at d;omega
   have B:(x::a++c::b).drop (bF (x::a++c::b))=(x::a).drop (bF (x::a++c::b))++c::b:=by rw[List.drop_append_of_le_length q]
   obtain⟨A,E⟩:=F B.symm;refine⟨?_,E⟩;have e:bF (x::a)=bF (x::a++c::b):=nC o fun i j=>(a3_ (by omega)).symm
   exact .cons (by rw[e];exact o) (by rw[e];exact A)
def pF:∀(f:Nat) (l:List UInt8) (p:Nat),l.length<=f->dN f l p=none->cQ l
 |0,l,_,h,_=>by
  obtain rfl:l=[]:=aN_ (by omega)
  exact .nil
 |f+1,l,p,h,a=>by
  rw[dN] at a;split at a
  ·rename_i c;obtain rfl:l=[]:=aN_ c;exact .nil
  split at a
  ·cases a
  rename_i b;exact .cons b (pF f _ _ (by rw[bf_];omega) a)
def MU(f:Nat):∀(b l:List UInt8) (ts:List aX),eI f b l=.ok ts->cQ (b++l)->∀t∈ts,t.sort=115->MH t.text:=by
 induction f with
 |zero=>intro b l ts h;cases h
 |succ f w=>
  intro b l ts h q t e a;by_cases g:l.length=0
  ·rw[mB _ _ _ g] at h;cases h;rw[aD_.1 e] at a;cases a
  ·cases d:(bY l).ok
   ·rw[mC _ _ _ g d] at h;cases h
   ·rw[lP _ _ _ g d _ rfl] at h;generalize x:(bY l).size+blankL l.length (l.drop (bY l).size)=m at h;cases j:eI f (b++l.take m) (l.drop m) with
    |error n=>rw[j] at h;cases h
    |ok v=>
     rw[j] at h;cases h;rcases aG_.1 e with rfl|e
     ·cases l with
      |nil=>simp at g
      |cons c r=>
       rw[bY] at a d ⊢
       by_cases o:(eA c || fA c)=true
       ·rw[if_pos o] at a;exfalso;unfold gH at a;split at a
        ·simp only at a;split at a<;>omega
        ·simp at a
       rw[if_neg o] at a d ⊢
       by_cases k:c.toNat=34
       ·rw[if_pos k] at d ⊢
        simp only[nJ,aX_,decide_eq_true_eq] at d;refine⟨by simp only[nJ,bc_];omega,?_⟩
        have u:r=r.take (bL eZ r)++34::r.drop (bL eZ r+1):=by
         obtain⟨i,s⟩:=aZ_.1 d.1;conv=>lhs;rw[<-a5_ (bL eZ r) r,bL_ i,s]
        have p:=(q.split (by omega)).2
        rw[u] at p;exact(p.split (by decide)).1
       ·rw[if_neg k] at a;exfalso;unfold gG at a;split at a<;>simp at a
     ·exact w _ _ v j (by rw[bd_,a5_];exact q) t e a
def EI{l:List UInt8}{ts:List aX}(h:gE l=.ok ts)(c:dN l.length l 0=none):rJ ts:=fun p a=>by
 unfold aP at a ⊢
 cases b:ts[p]? with
 |none=>rw[b] at a;cases a
 |some t=>
  rw[b] at a;exact MU _ _ _ _ h (by rw[a5_];exact pF _ _ _ (au_ _) c) t (bb_ b) a
def uX{l:List UInt8}{ks:List aC}(h:cW l=.ok ks):∀f∈ks,rK f:=by
 unfold cW at h;split at h
 ·cases h
 split at h
 ·cases h
 rename_i a;split at h
 ·cases h
 rename_i c d;split at h
 ·cases h
 rename_i q b;cases h;exact qM (fun q=>TF (fun e=>xU (fun q=>CF c (EI d a) _ q) _ e) q) _ _ _ eN.nil _ _ b
def oV(s:aZ)(l k:Nat)(h:s.kind≠0):(s.found l k).kind≠0:=by unfold aZ.found;rw[if_neg h];exact h
def pP(s:aZ)(n:aC)(h:s.kind≠0):(declaresL s n).kind≠0:=by
 unfold declaresL;split
 ·exact oV _ _ _ h
 ·exact h
def OW(fs:List aC)(a:Bool)(s:aZ)(n:aC)(h:s.kind≠0):(cD fs a s n).kind≠0:=by
 unfold cD eB;repeat' split
 all_goals first|exact oV _ _ _ h|exact h
def gN{f:aZ->aC->aZ}(a:∀s k,s.kind≠0->(f s k).kind≠0):∀(l:List aC) (s:aZ),s.kind≠0->(l.foldl f s).kind≠0
 |[],_,h=>h
 |k::l,s,h=>gN a l _ (a s k h)
def fE(fs:List aC)(a:Bool):∀(d:Nat) (n:aC) (s:aZ),s.kind≠0->(aO fs a d n s).kind≠0
 |0,_,_,h=>h
 |d+1,n,s,h=>by
  rw[aO];split
  ·split
   ·exact fE fs a d _ _ (pP s _ h)
   ·exact h
  ·have b:(n.kids.foldl (fun s k=>aO fs a d k s) (cD fs a s n)).kind≠0:=gN (fun s k c=>fE fs a d k s c) _ _ (OW fs a s n h)
   simp only;split<;>exact b
def ExOk.up{fs:List aC}{b:Bool}{seen:List (List UInt8)}:∀{d e:Nat} {a:aC},ExOk fs b seen d a->d<=e->ExOk fs b seen e a
 |0,_,_,h,_=>h.elim
 |d+1,0,_,_,h=>by omega
 |d+1,e+1,a,h,m=>by
  have g:∀k,ExOk fs b seen d k->ExOk fs b seen e k:=fun k c=>ExOk.up c (by omega)
  rcases h with h|h|⟨f,c⟩|⟨f,l,r,c,i,j⟩|⟨f,l,c,i⟩|⟨f,c,n⟩|⟨f,l,r,c,i,j⟩
  ·exact av_ h
  ·exact as_ (av_ h)
  ·exact as_ (as_ (av_ ⟨f,fun k h=>g k (c k h)⟩))
  ·exact as_ (as_ (as_ (av_ ⟨f,l,r,c,g l i,g r j⟩)))
  ·exact as_ (as_ (as_ (as_ (av_ ⟨f,l,c,g l i⟩))))
  ·exact as_ (as_ (as_ (as_ (as_ (av_ ⟨f,fun k h=>g k (c k h),n⟩)))))
  ·exact as_ (as_ (as_ (as_ (as_ (as_ ⟨f,l,r,c,g l i,g r j⟩)))))
def StsOk.up{S b:List (List UInt8)->aC->Prop}(h:∀s a,S s a->b s a):∀{l:List aC} {seen:List (List UInt8)},StsOk S seen l->StsOk b seen l
 |[],_,_=>trivial
 |_::_,_,c=>⟨h _ _ c.1,StsOk.up h c.2⟩
def dD.up{fs:List aC}:∀{d e:Nat} {seen:List (List UInt8)} {a:aC},dD fs d seen a->d<=e->dD fs e seen a
 |0,_,_,_,h,_=>h.elim
 |d+1,0,_,_,_,h=>by omega
 |d+1,e+1,seen,a,h,w=>by
  have j:∀k,ExOk fs false seen d k->ExOk fs false seen e k:=fun k f=>f.up (by omega)
  have i:∀l,StsOk (dD fs d) seen l->StsOk (dD fs e) seen l:=fun l z=>z.up fun s a h=>dD.up h (by omega)
  rcases h with ⟨g,o,t,v,f,m,p⟩|⟨g,p,n,f⟩|⟨g,c,t,f,q,u⟩|⟨g,c,b,f,q,o⟩|⟨g,f|⟨v,f,m⟩⟩|⟨g,v,f,m⟩|⟨g,v,f,m⟩
  ·exact av_ ⟨g,o,t,v,f,j v m,p⟩
  ·exact as_ (av_ ⟨g,p,n,fun k h=>j k (f k h)⟩)
  ·exact as_ (as_ (av_ ⟨g,c,t,f.imp id fun ⟨x,y,r⟩=>⟨x,y,i _ r⟩,j c q,i _ u⟩))
  ·exact as_ (as_ (as_ (av_ ⟨g,c,b,f,j c q,i _ o⟩)))
  ·exact as_ (as_ (as_ (as_ (av_ ⟨g,av_ f⟩))))
  ·exact as_ (as_ (as_ (as_ (av_ ⟨g,as_ ⟨v,f,j v m⟩⟩))))
  ·exact as_ (as_ (as_ (as_ (as_ (av_ ⟨g,v,f,j v m⟩)))))
  ·exact as_ (as_ (as_ (as_ (as_ (as_ ⟨g,v,f,j v m⟩)))))
def gV{s:aZ}{l k:Nat}(a:k≠0)(h:(s.found l k).kind=0):False:=by
 unfold aZ.found at h;split at h
 ·exact a h
 ·rename_i b;exact b h
def tV{f:aC}{a:List UInt8}:∀{fs:List aC},dL fs a=some f->fs[cS fs a]?=some f
 |[],h=>by simp[dL] at h
 |x::l,h=>by
  unfold dL cS at*;rw[List.find?_cons] at h;rw[List.findIdx_cons];cases b:(x.text==a) with
  |true=>rw[b] at h;simp at h;simp[h]
  |false=>
   rw[b] at h;simp only[cond_false,List.getElem?_cons_succ];exact tV (fs:=l) h
def mO(fs:List aC)(alone:Bool)(d:Nat)(a:aC):Prop:=
 ∀sn,(aO fs alone d a ⟨sn,0,0⟩).kind=0->aO fs alone d a ⟨sn,0,0⟩=⟨sn,0,0⟩/\ExOk fs alone sn.reverse d a
def jK{fs:List aC}{b:Bool}{d:Nat}:∀(l:List aC) (c:List (List UInt8)),(∀k∈l,mO fs b d k)->(l.foldl (fun s k=>aO fs b d k s) ⟨c,0,0⟩).kind=0->
 l.foldl (fun s k=>aO fs b d k s) ⟨c,0,0⟩=⟨c,0,0⟩/\∀k∈l,ExOk fs b c.reverse d k
 |[],c,_,_=>⟨rfl,fun k e=>by cases e⟩
 |a::l,c,h,f=>by
  rw[bD_] at f ⊢
  have j:(aO fs b d a ⟨c,0,0⟩).kind=0:=a1_ fun g=>gN (fun s k p=>fE fs b d k s p) l _ g f
  obtain⟨n,i⟩:=h a (aS_ ..) c j;rw[n] at f ⊢
  obtain⟨o,m⟩:=jK l c (fun k e=>h k (aJ_ _ e)) f
  refine⟨o,fun k e=>?_⟩
  rcases aG_.1 e with rfl|e
  ·exact i
  ·exact m k e
def fI{fs:List aC}{a:Bool}{d:Nat}{n:aC}{s:aZ}(c:n.op≠[118,97,114])(b:n.op≠[98,108,111,99,107]):aO fs a (d+1) n s=n.kids.foldl (fun s k=>aO fs a d k s) (cD fs a s n):=by
 rw[aO];rw[if_neg (by simpa using c)]
 simp only;rw[if_neg (by simpa using b)]
def look_plain{fs:List aC}{a:Bool}{n:aC}{s:aZ}(c:n.op≠[115,101,116])(b:n.op≠[110,97,109,101])(d:n.op≠[99,97,108,108]):cD fs a s n=s:=by
 unfold cD;rw[if_neg (by simp[c,b]),if_neg (by simpa using d)]
def oJ{fs:List aC}{b:Bool}(p:∀f∈fs,f.kids≠[])(t:b=true->fs=[]):∀(d:Nat) (a:aC),dC a->eY d a->mO fs b d a
 |0,_,_,h=>h.elim
 |d+1,a,K,H=>by
  intro w n
  have two:∀(l r:aC),a.kids=[l,r]->dC l->dC r->∀k∈a.kids,mO fs b d k:=fun l r j D E k c=>by
   have x:=H k c;rw[j] at c;rcases aG_.1 c with rfl|c
   ·exact oJ p t d _ D x
   ·obtain rfl:=aD_.1 c;exact oJ p t d _ E x
  have C:a.op≠[118,97,114]/\a.op≠[98,108,111,99,107]:=by
   cases K with
   |leaf _ h=>rcases h with h|h|h|h<;>rw[h]<;>decide
   |many _ h=>rcases h with h|h<;>rw[h]<;>decide
   |one _ l h=>rcases h with h|h<;>rw[h]<;>decide
   |two _ l r h=>
    rcases h with h|h
    ·rw[h];decide
    ·exact⟨fun e=>by rw[e] at h;exact h (by decide),fun e=>by rw[e] at h;exact h (by decide)⟩
  rw[fI C.1 C.2] at n ⊢
  have i:(cD fs b ⟨w,0,0⟩ a).kind=0:=a1_ fun A=>gN (fun s k N=>fE fs b d k s N) a.kids _ A n
  cases K with
  |leaf _ h j=>
   rw[j] at n ⊢
   simp only[b2_] at n ⊢
   rcases h with h|h|h|h
   ·exact⟨look_plain (by rw[h];decide) (by rw[h];decide) (by rw[h];decide),av_ ⟨av_ h,j⟩⟩
   ·exact⟨look_plain (by rw[h];decide) (by rw[h];decide) (by rw[h];decide),av_ ⟨as_ (av_ h),j⟩⟩
   ·exact⟨look_plain (by rw[h];decide) (by rw[h];decide) (by rw[h];decide),av_ ⟨as_ (as_ h),j⟩⟩
   ·unfold cD at i ⊢
    rw[if_pos (by simp[h])] at i ⊢
    split at i
    ·rename_i L;rw[if_pos L];exact⟨rfl,as_ (av_ ⟨h,j,by simpa using L⟩)⟩
    ·exact(gV (by decide) i).elim
  |many _ h j=>
   have F:∀k∈a.kids,mO fs b d k:=fun k c=>oJ p t d k (j k c) (H k c)
   rcases h with h|h
   ·rw[look_plain (by rw[h];decide) (by rw[h];decide) (by rw[h];decide)] at n ⊢
    obtain⟨B,u⟩:=jK a.kids w F n;exact⟨B,as_ (as_ (av_ ⟨h,u⟩))⟩
   ·have e:cD fs b ⟨w,0,0⟩ a=eB fs b ⟨w,0,0⟩ a:=by unfold cD;rw[if_neg (by simp[h]),if_pos (by simp[h])]
    rw[e] at n i ⊢
    unfold eB at n i ⊢
    split at i
    ·exact(gV (by decide) i).elim
    rename_i y;rw[if_neg y] at n ⊢
    split at i
    ·exact(gV (by decide) i).elim
    rename_i m;rw[if_neg m] at n ⊢
    obtain⟨B,u⟩:=jK a.kids w F n;refine⟨B,as_ (as_ (as_ (as_ (as_ (av_ ⟨h,u,?_⟩)))))⟩;simp only[ne_eq,Decidable.not_not] at m;unfold lS at y m;by_cases o:a.text=[108,101,110]
    ·rw[if_pos (by simp[o])] at m
     exact av_ ⟨o,by omega⟩
    rw[if_neg (by simp[o])] at y m
    by_cases g:a.text=[114,101,97,100]/\b=false
    ·rw[if_pos (by simp[g])] at m
     exact as_ (av_ ⟨g.1,g.2,by omega⟩)
    have v:¬((a.text==[114,101,97,100] && !b)=true):=by
     intro J;simp at J;exact g J
    rw[if_neg v] at y m;cases G:dL fs a.text with
    |none=>rw[G] at y;simp at y
    |some f=>
     rw[G] at y m;simp only at y m;have q:f∈fs:=bn_ G;have A:=p f q;have I:0<f.kids.length:=bl_.2 A
     have z:b=false:=by
      cases b with
      |false=>rfl
      |true=>rw[t rfl] at q;cases q
     refine as_ (as_ ⟨o,fun E=>g ⟨E,z⟩,z,?_⟩)
     unfold fG;rw[tV G];simp;omega
  |one _ l h j D=>
   have F:∀k∈a.kids,mO fs b d k:=fun k c=>by
    have x:=H k c;rw[j] at c;obtain rfl:=aD_.1 c;exact oJ p t d _ D x
   rw[look_plain (by rcases h with h|h<;>rw[h]<;>decide) (by rcases h with h|h<;>rw[h]<;>decide) (by rcases h with h|h<;>rw[h]<;>decide)] at n ⊢
   obtain⟨B,u⟩:=jK a.kids w F n;exact⟨B,as_ (as_ (as_ (as_ (av_ ⟨h,l,j,u l (by rw[j];simp)⟩))))⟩
  |two _ l r h j D E=>
   have M:cD fs b ⟨w,0,0⟩ a=⟨w,0,0⟩:=by
    rcases h with h|h
    ·exact look_plain (by rw[h];decide) (by rw[h];decide) (by rw[h];decide)
    ·exact look_plain (fun e=>by rw[e] at h;exact h (by decide)) (fun e=>by rw[e] at h;exact h (by decide)) (fun e=>by rw[e] at h;exact h (by decide))
   rw[M] at n ⊢
   obtain⟨B,u⟩:=jK a.kids w (two l r j D E) n;refine⟨B,?_⟩;rcases h with h|h
   ·exact as_ (as_ (as_ (av_ ⟨h,l,r,j,u l (by rw[j];simp),u r (by rw[j];simp)⟩)))
   ·exact as_ (as_ (as_ (as_ (as_ (as_ ⟨h,l,r,j,u l (by rw[j];simp),u r (by rw[j];simp)⟩)))))
def sD(fs:List aC)(d:Nat)(a:aC):Prop:=
 ∀sn,sn.length+bW d a<=90000->(aO fs false d a ⟨sn,0,0⟩).kind=0->∃sn',aO fs false d a ⟨sn,0,0⟩=⟨sn',0,0⟩/\sn'.reverse=cO sn.reverse a/\dD fs d sn.reverse a/\sn'.length<=sn.length+bW d a/\sn=sn'.take sn.length
def xP{fs:List aC}{d:Nat}:∀(l:List aC) (b:List (List UInt8)),(∀k∈l,sD fs d k)->b.length+(l.map (bW d)).sum<=90000->(l.foldl (fun s k=>aO fs false d k s) ⟨b,0,0⟩).kind=0->
 ∃c,l.foldl (fun s k=>aO fs false d k s) ⟨b,0,0⟩=⟨c,0,0⟩/\StsOk (dD fs d) b.reverse l/\c.length<=b.length+(l.map (bW d)).sum/\b=c.take b.length
 |[],b,_,_,_=>⟨b,rfl,trivial,by simp,by simp⟩
 |a::l,b,h,t,f=>by
  rw[bD_] at f ⊢
  simp only[aM_,aO_] at t ⊢
  have o:(aO fs false d a ⟨b,0,0⟩).kind=0:=a1_ fun g=>gN (fun s k v=>fE fs false d k s v) l _ g f
  obtain⟨i,q,n,u,z,m⟩:=h a (aS_ ..) b (by omega) o
  rw[q] at f ⊢
  obtain⟨j,w,r,A,x⟩:=xP l i (fun k p=>h k (aJ_ _ p)) (by omega) f
  refine⟨j,w,⟨u,by rw[<-n];exact r⟩,by omega,?_⟩
  have y:b.length<=i.length:=by have:=congrArg List.length m;simp only[bc_] at this;omega
  have e:i.take b.length=j.take b.length:=by
   conv=>lhs;rw[x]
   rw[bO_];congr 1;omega
  rw[<-e];exact m
def EG{fs:List aC}{d:Nat}{b:aC}{a c:List (List UInt8)}(e:b.op=[98,108,111,99,107])(h:b.kids.foldl (fun s k=>aO fs false d k s) ⟨a,0,0⟩=⟨c,0,0⟩)(f:a=c.take a.length):aO fs false (d+1) b ⟨a,0,0⟩=⟨a,0,0⟩:=by
 rw[aO,if_neg (by simp[e])]
 have:cD fs false ⟨a,0,0⟩ b=⟨a,0,0⟩:=look_plain (by rw[e];decide) (by rw[e];decide) (by rw[e];decide)
 simp only[this,h];rw[if_pos (by simp[e])]
 congr 1
 exact f.symm
def tE{fs:List aC}{d:Nat}{b:aC}{c:List (List UInt8)}(a:b.op=[98,108,111,99,107])(h:(aO fs false (d+1) b ⟨c,0,0⟩).kind=0):(b.kids.foldl (fun s k=>aO fs false d k s) ⟨c,0,0⟩).kind=0:=by
 rw[aO,if_neg (by simp[a])] at h
 have:cD fs false ⟨c,0,0⟩ b=⟨c,0,0⟩:=look_plain (by rw[a];decide) (by rw[a];decide) (by rw[a];decide)
 simp only[this] at h;rw[if_pos (by simp[a])] at h
 exact h
def jU{fs:List aC}{d:Nat}{b:aC}{a:List (List UInt8)}(c:b.op=[98,108,111,99,107])(j:∀k∈b.kids,sD fs d k)(e:a.length+bW (d+1) b<=90000)(h:(aO fs false (d+1) b ⟨a,0,0⟩).kind=0):
 aO fs false (d+1) b ⟨a,0,0⟩=⟨a,0,0⟩/\StsOk (dD fs d) a.reverse b.kids:=by
 rw[bW] at e;obtain⟨l,i,f,m,g⟩:=xP b.kids a j (by omega) (tE c h)
 exact⟨EG c i g,f⟩
def MR{fs:List aC}{d:Nat}{a x y:aC}{s:aZ}(b:a.kids=[x,y])(f:a.op≠[118,97,114])(e:a.op≠[98,108,111,99,107])(c:cD fs false s a=s):aO fs false (d+1) a s=aO fs false d y (aO fs false d x s):=by
 rw[fI f e,c,b];rfl
def G0{fs:List aC}{d:Nat}{a x y z:aC}{s:aZ}(b:a.kids=[x,y,z])(f:a.op≠[118,97,114])(e:a.op≠[98,108,111,99,107])(c:cD fs false s a=s):aO fs false (d+1) a s=aO fs false d z (aO fs false d y (aO fs false d x s)):=by
 rw[fI f e,c,b];rfl
def GP{d:Nat}{a k:aC}(h:k∈a.kids):bW d k+1<=bW (d+1) a:=by
 rw[bW]
 have:∀l:List aC,k∈l->bW d k<=(l.map (bW d)).sum:=by
  intro l;induction l with
  |nil=>intro h;cases h
  |cons x l b=>
   intro h;simp only[aM_,aO_];rcases aG_.1 h with rfl|h
   ·omega
   ·have:=b h;omega
 have:=this _ h;omega
def GV{fs:List aC}(J:∀f∈fs,f.kids≠[]):∀(d:Nat) (a:aC),fZ a->eY d a->sD fs d a
 |0,_,_,h=>h.elim
 |1,a,U,L=>by
  have o:∀k∈a.kids,False:=fun k b=>L k b
  intro g W j;cases U with
  |var _ t v h b A=>exact(o t (by rw[b];simp)).elim
  |set _ h T b=>cases G:a.kids with|nil=>exact(T G).elim|cons x l=>exact(o x (by rw[G];simp)).elim
  |if2 _ c t h b=>exact(o c (by rw[b];simp)).elim
  |if3 _ c t x h b=>exact(o c (by rw[b];simp)).elim
  |whl _ c t h b=>exact(o c (by rw[b];simp)).elim
  |ret1 _ v h b=>exact(o v (by rw[b];simp)).elim
  |print _ v h b=>exact(o v (by rw[b];simp)).elim
  |call _ c h b=>exact(o c (by rw[b];simp)).elim
  |ret0 _ h b=>
   have n:cD fs false ⟨g,0,0⟩ a=⟨g,0,0⟩:=look_plain (by rw[h];decide) (by rw[h];decide) (by rw[h];decide)
   refine⟨g,by rw[fI (by rw[h];decide) (by rw[h];decide),n,b];rfl,by unfold cO;rw[if_neg (by rw[h];decide)],?_,by omega,by simp⟩
   exact as_ (as_ (as_ (as_ (av_ ⟨h,av_ b⟩))))
 |d+2,a,U,L=>by
  intro g W j;have p:∀k,k∈a.kids->dC k->mO fs false (d+1) k:=fun k b Z=>oJ J (fun h=>by cases h) (d+1) k Z (L k b)
  have z:∀k,k∈a.kids->(∀x∈k.kids,fZ x)->∀x∈k.kids,sD fs d x:=fun k b S x M=>GV J d x (S x M) (L k b x M)
  have y:∀k,k∈a.kids->g.length+bW (d+1) k<=90000:=fun k b=>by have:bW (d+1) k+1<=bW (d+2) a:=GP (d:=d+1) b;omega
  have i:a.op≠[118,97,114]->g.reverse=cO g.reverse a:=fun h=>by unfold cO;rw[if_neg h]
  cases U with
  |var _ t v h b A=>
   have e:aO fs false (d+2) a ⟨g,0,0⟩={ aO fs false (d+1) v (declaresL ⟨g,0,0⟩ t) with seen:=(aO fs false (d+1) v (declaresL ⟨g,0,0⟩ t)).seen++[t.text] }:=by
    rw[aO,if_pos (by simp[h]),b]
   rw[e] at j ⊢
   have D:(declaresL ⟨g,0,0⟩ t).kind=0:=a1_ fun m=>fE fs false (d+1) v _ m j
   obtain⟨N,O⟩:declaresL ⟨g,0,0⟩ t=⟨g,0,0⟩/\t.text∉g:=by
    unfold declaresL at D ⊢
    split at D
    ·exact(gV (by decide) D).elim
    ·rename_i P;rw[if_neg P];simp at P;exact⟨rfl,P.2⟩
   rw[N] at j ⊢
   obtain⟨r,q⟩:=p v (by rw[b];simp) A g j
   rw[r];have X:bW (d+1) v+1<=bW (d+2) a:=GP (d:=d+1) (a:=a) (k:=v) (by rw[b];simp)
   refine⟨g++[t.text],rfl,?_,av_ ⟨h,by simp;omega,t,v,b,q,by simpa using O⟩,by simp;omega,by simp⟩
   unfold cO;rw[if_pos h,b];simp
  |set _ h T b=>
   rw[fI (by rw[h];decide) (by rw[h];decide)] at j ⊢
   have w:(cD fs false ⟨g,0,0⟩ a).kind=0:=a1_ fun m=>gN (fun s k S=>fE fs false (d+1) k s S) a.kids _ m j
   have n:cD fs false ⟨g,0,0⟩ a=⟨g,0,0⟩/\a.text∈g:=by
    unfold cD at w ⊢
    rw[if_pos (by simp[h])] at w ⊢
    split at w
    ·rename_i B;rw[if_pos B];exact⟨rfl,by simpa using B⟩
    ·exact(gV (by decide) w).elim
   rw[n.1] at j ⊢
   obtain⟨r,q⟩:=jK a.kids g (fun k H=>p k H (b k H)) j
   exact⟨g,r,i (by rw[h];decide),as_ (av_ ⟨h,by simpa using n.2,T,q⟩),by omega,by simp⟩
  |if2 _ c t h b B F u=>
   have n:cD fs false ⟨g,0,0⟩ a=⟨g,0,0⟩:=look_plain (by rw[h];decide) (by rw[h];decide) (by rw[h];decide)
   rw[MR b (by rw[h];decide) (by rw[h];decide) n] at j ⊢
   have E:(aO fs false (d+1) c ⟨g,0,0⟩).kind=0:=a1_ fun m=>fE fs false (d+1) t _ m j
   obtain⟨r,q⟩:=p c (by rw[b];simp) B g E
   rw[r] at j ⊢
   obtain⟨K,I⟩:=jU F (z t (by rw[b];simp) u) (y t (by rw[b];simp)) j
   exact⟨g,K,i (by rw[h];decide),as_ (as_ (av_ ⟨h,c,t,av_ b,q,I.up fun s a h=>h.up (by omega)⟩)),by omega,by simp⟩
  |if3 _ c t x h b B F u M Q=>
   have n:cD fs false ⟨g,0,0⟩ a=⟨g,0,0⟩:=look_plain (by rw[h];decide) (by rw[h];decide) (by rw[h];decide)
   rw[G0 b (by rw[h];decide) (by rw[h];decide) n] at j ⊢
   have C:(aO fs false (d+1) t (aO fs false (d+1) c ⟨g,0,0⟩)).kind=0:=a1_ fun m=>fE fs false (d+1) x _ m j
   have E:(aO fs false (d+1) c ⟨g,0,0⟩).kind=0:=a1_ fun m=>fE fs false (d+1) t _ m C
   obtain⟨r,q⟩:=p c (by rw[b];simp) B g E
   rw[r] at j C ⊢
   obtain⟨K,I⟩:=jU F (z t (by rw[b];simp) u) (y t (by rw[b];simp)) C
   rw[K] at j ⊢
   obtain⟨V,Y⟩:=jU M (z x (by rw[b];simp) Q) (y x (by rw[b];simp)) j
   exact⟨g,V,i (by rw[h];decide),as_ (as_ (av_ ⟨h,c,t,as_ ⟨x,b,Y.up fun s a h=>h.up (by omega)⟩,q,I.up fun s a h=>h.up (by omega)⟩)),by omega,by simp⟩
  |whl _ c t h b B F u=>
   have n:cD fs false ⟨g,0,0⟩ a=⟨g,0,0⟩:=look_plain (by rw[h];decide) (by rw[h];decide) (by rw[h];decide)
   rw[MR b (by rw[h];decide) (by rw[h];decide) n] at j ⊢
   have E:(aO fs false (d+1) c ⟨g,0,0⟩).kind=0:=a1_ fun m=>fE fs false (d+1) t _ m j
   obtain⟨r,q⟩:=p c (by rw[b];simp) B g E
   rw[r] at j ⊢
   obtain⟨K,I⟩:=jU F (z t (by rw[b];simp) u) (y t (by rw[b];simp)) j
   exact⟨g,K,i (by rw[h];decide),as_ (as_ (as_ (av_ ⟨h,c,t,b,q,I.up fun s a h=>h.up (by omega)⟩))),by omega,by simp⟩
  |ret0 _ h b=>
   have n:cD fs false ⟨g,0,0⟩ a=⟨g,0,0⟩:=look_plain (by rw[h];decide) (by rw[h];decide) (by rw[h];decide)
   refine⟨g,by rw[fI (by rw[h];decide) (by rw[h];decide),n,b];rfl,i (by rw[h];decide),?_,by omega,by simp⟩
   exact as_ (as_ (as_ (as_ (av_ ⟨h,av_ b⟩))))
  |ret1 _ v h b A=>
   have n:cD fs false ⟨g,0,0⟩ a=⟨g,0,0⟩:=look_plain (by rw[h];decide) (by rw[h];decide) (by rw[h];decide)
   rw[fI (by rw[h];decide) (by rw[h];decide),n,b] at j ⊢
   simp only[bD_,b2_] at j ⊢
   obtain⟨r,q⟩:=p v (by rw[b];simp) A g j
   exact⟨g,r,i (by rw[h];decide),as_ (as_ (as_ (as_ (av_ ⟨h,as_ ⟨v,b,q⟩⟩)))),by omega,by simp⟩
  |print _ v h b A=>
   have n:cD fs false ⟨g,0,0⟩ a=⟨g,0,0⟩:=look_plain (by rw[h];decide) (by rw[h];decide) (by rw[h];decide)
   rw[fI (by rw[h];decide) (by rw[h];decide),n,b] at j ⊢
   simp only[bD_,b2_] at j ⊢
   obtain⟨r,q⟩:=p v (by rw[b];simp) A g j
   exact⟨g,r,i (by rw[h];decide),as_ (as_ (as_ (as_ (as_ (av_ ⟨h,v,b,q⟩))))),by omega,by simp⟩
  |call _ v h b A=>
   have n:cD fs false ⟨g,0,0⟩ a=⟨g,0,0⟩:=look_plain (by rw[h];decide) (by rw[h];decide) (by rw[h];decide)
   rw[fI (by rw[h];decide) (by rw[h];decide),n,b] at j ⊢
   simp only[bD_,b2_] at j ⊢
   obtain⟨r,q⟩:=p v (by rw[b];simp) A g j
   exact⟨g,r,i (by rw[h];decide),as_ (as_ (as_ (as_ (as_ (as_ ⟨h,v,b,q⟩))))),by omega,by simp⟩
def fQ:aC->Nat
 |⟨_,_,_,kids⟩=>1+(kids.attach.map fun ⟨k,_⟩=>fQ k).sum
def kL(a:aC):fQ a=1+(a.kids.map fQ).sum:=by
 obtain⟨e,d,c,b⟩:=a;rw[fQ];congr 2
 simp
def xZ:∀(d:Nat) (a:aC),eY d a->fQ a<=bW d a
 |0,_,h=>h.elim
 |d+1,a,h=>by
  rw[kL,bW]
  have:∀l:List aC,(∀k∈l,fQ k<=bW d k)->(l.map fQ).sum<=(l.map (bW d)).sum:=by
   intro l;induction l with
   |nil=>intro _;simp
   |cons x l c=>
    intro h;simp only[aM_,aO_];have f:=h x (aS_ ..);have e:=c fun k b=>h k (aJ_ _ b)
    omega
  have:=this a.kids fun k b=>xZ d k (h k b)
  omega
def qI{c:aC->Nat->List aH}{m:Nat}(h:∀a p,(c a p).length<=m*fQ a):∀(l:List aC) (p:Nat),(bP c l p).length<=m*(l.map fQ).sum
 |[],_=>by simp[bP]
 |a::l,p=>by
  simp only[bP,aw_,aM_,aO_,Nat.mul_add];have d:=h a p;have b:=qI h l (p+(c a p).length);omega
def mH(fs:List aC)(seen:List (List UInt8)):∀(d:Nat) (a:aC) (p:Nat),(aG fs seen d a p).length<=2*fQ a
 |0,_,_=>by simp[aG]
 |d+1,a,p=>by
  have z:=qI (m:=2) (fun a p=>mH fs seen d a p) a.kids p
  have v:=kL a;have n:=fun l q=>mH fs seen d l q
  rw[aG];simp only;generalize bP (aG fs seen d) a.kids p=y at z ⊢
  generalize (if (a.text==[108,101,110])=true then aH.length else if (a.text==[114,101,97,100])=true then aH.read else aH.call (cS fs a.text) a.kids.length)=g
  generalize aG fs seen d=E at*;have c:∀i:aH,(y++[i]).length<=2*fQ a:=fun i=>by simp only[aw_,aB_,aI_];omega
  have b:∀i:aH,([i]:List aH).length<=2*fQ a:=fun i=>by simp only[aB_,aI_];omega
  by_cases o:(a.op==[48])=true
  ·rw[if_pos o];exact b _
  rw[if_neg o];by_cases s:(a.op==[115])=true
  ·rw[if_pos s];exact b _
  rw[if_neg s];by_cases t:(a.op==[98,111,111,108])=true
  ·rw[if_pos t];exact b _
  rw[if_neg t];by_cases x:(a.op==[110,97,109,101])=true
  ·rw[if_pos x];exact b _
  rw[if_neg x];by_cases u:(a.op==[108,105,115,116])=true
  ·rw[if_pos u];exact c _
  rw[if_neg u];by_cases w:(a.op==[105,110,100,101,120])=true
  ·rw[if_pos w];exact c _
  rw[if_neg w];by_cases k:(a.op==[45,120])=true
  ·rw[if_pos k];exact c _
  rw[if_neg k];by_cases h:(a.op==[33,120])=true
  ·rw[if_pos h];exact c _
  rw[if_neg h];by_cases j:(a.op==[99,97,108,108])=true
  ·rw[if_pos j];exact c _
  rw[if_neg j];by_cases e:(a.op==[38,38] || a.op==[124,124])=true
  ·rw[if_pos e];split
   ·rename_i l r f;have A:=n l p;have B:=n r (p+(E l p).length+1);rw[f] at v;simp only[aM_,a8_,aO_,bg_] at v;simp only[aw_,aB_,aI_];omega
   ·simp
  ·rw[if_neg e];exact c _
def qC{c:List (List UInt8)->aC->Nat->List aH × List (List UInt8)}{m:Nat}(h:∀s a p,(c s a p).1.length<=m*fQ a):∀(l:List aC) (s:List (List UInt8)) (p:Nat),(bG c s l p).length<=m*(l.map fQ).sum
 |[],_,_=>by simp[bG]
 |a::l,s,p=>by
  simp only[bG,aw_,aM_,aO_,Nat.mul_add];have d:=h s a p;have b:=qC h l (c s a p).2 (p+(c s a p).1.length);omega
def BQ(fs:List aC):∀(d:Nat) (seen:List (List UInt8)) (a:aC) (p:Nat),(aU fs d seen a p).1.length<=3*fQ a
 |0,_,_,_=>by simp[aU]
 |d+1,seen,a,p=>by
  have f:=kL a;have j:=fun (b:aC) q=>qC (m:=3) (fun s a p=>BQ fs d s a p) b.kids seen q
  have h:=fun (x:aC) q=>mH fs seen d x q
  have i:=fun (b:aC)=>kL b
  rw[aU];simp only;repeat' split
  all_goals try simp only[aw_,aB_,aI_]
  all_goals try omega
  ·rename_i t v e;have g:=h v (p+1);rw[e] at f;simp only[aM_,a8_,aO_,bg_] at f;omega
  ·have g:=qI (m:=2) (fun a p=>mH fs seen d a p) a.kids (p+1)
   omega
  ·rename_i c t _ x e;have g:=h c (p+1);have k:=j t (p+1+(aG fs seen d c (p+1)).length+1);have l:=i t;have n:=i x;have o:=j x (p+1+(aG fs seen d c (p+1)).length+1+(bG (aU fs d) seen t.kids (p+1+(aG fs seen d c (p+1)).length+1)).length+1);rw[e] at f;simp only[aM_,a8_,aO_,bg_] at f;omega
  ·rename_i c t _ e _ _;have g:=h c (p+1);have k:=j t (p+1+(aG fs seen d c (p+1)).length+1);have l:=i t;rw[e] at f;simp only[aM_,aO_] at f;omega
  ·rename_i c t e;have g:=h c (p+1);have k:=j t (p+1+(aG fs seen d c (p+1)).length+1);have l:=i t;rw[e] at f;simp only[aM_,a8_,aO_,bg_] at f;omega
  all_goals
   rename_i v e;have g:=h v (p+1);rw[e] at f;simp only[aM_,a8_,aO_,bg_] at f;omega
def nM(fs:List aC)(d:Nat)(s:aZ)(k:aC)(h:s.kind≠0):(eJ fs d s k).kind≠0:=by
 unfold eJ;split
 ·exact pP s k h
 ·exact fE fs false d k s h
def QN(fs:List aC)(d:Nat)(s:aZ)(n:aC)(first:Bool)(h:s.kind≠0):(fR fs d s n first).kind≠0:=by
 unfold fR;refine gN (fun s k a=>nM fs d s k a) _ _ ?_
 show (if _ then _ else _:aZ).kind≠0
 split
 ·exact oV _ _ _ h
 ·exact h
def EA(fs:List aC)(d:Nat):∀(a b:List aC) (s:aZ),s.kind≠0->(eU fs d b a s).kind≠0
 |[],_,_,h=>h
 |n::a,b,s,h=>EA fs d a (b++[n]) _ (QN fs d s n _ h)
def qQ{fs:List aC}{d:Nat}:∀(ps:List aC) (b:List (List UInt8)),(∀x∈ps,x.op=[112,97,114,97,109])->(ps.foldl (eJ fs d) ⟨b,0,0⟩).kind=0->ps.foldl (eJ fs d) ⟨b,0,0⟩=⟨b++ps.map (·.text),0,0⟩/\(b.Nodup->(b++ps.map (·.text)).Nodup)
 |[],b,_,_=>by simp
 |a::l,b,h,f=>by
  rw[bD_] at f ⊢
  have q:eJ fs d ⟨b,0,0⟩ a={ declaresL ⟨b,0,0⟩ a with seen:=(declaresL ⟨b,0,0⟩ a).seen++[a.text] }:=by unfold eJ;rw[if_pos (by simp[h a (aS_ ..)])]
  have o:(eJ fs d ⟨b,0,0⟩ a).kind=0:=a1_ fun g=>gN (fun s k u=>nM fs d s k u) l _ g f
  have c:(declaresL ⟨b,0,0⟩ a).kind=0:=by rw[q] at o;exact o
  obtain⟨i,j⟩:declaresL ⟨b,0,0⟩ a=⟨b,0,0⟩/\a.text∉b:=by
   unfold declaresL at c ⊢
   split at c
   ·exact(gV (by decide) c).elim
   ·rename_i m;rw[if_neg m];simp at m;exact⟨rfl,m.2⟩
  rw[q,i] at f ⊢
  obtain⟨r,p⟩:=qQ l (b++[a.text]) (fun x n=>h x (aJ_ _ n)) f
  rw[r];have e:b++[a.text]++l.map (·.text)=b++(a::l).map (·.text):=by simp
  rw[e] at p ⊢
  refine⟨rfl,fun v=>p ?_⟩
  rw[be_];exact⟨v,by simp,fun x n y t=>by rw[aD_.1 t];exact fun e=>j (e▸n)⟩
def PP{fs:List aC}(A:∀f∈fs,rK f){d:Nat}{f:aC}(B:rK f)(F:eY (d+3) f)(H:∀e,bW e f<=2001){o:List (List UInt8)}{first:Bool}(n:(fR fs (d+2) ⟨o,0,0⟩ f first).kind=0):iC fs (d+2) f/\∃I,fR fs (d+2) ⟨o,0,0⟩ f first=⟨I,0,0⟩:=by
 obtain⟨g,b,j,D,y,_⟩:=B.kids;have c:∀f∈fs,f.kids≠[]:=fun f B=>by obtain⟨g,b,j,_⟩:=(A f B).kids;rw[j];simp
 unfold fR at n ⊢
 have G:({ (if fL f.text || !first then aZ.found ⟨o,0,0⟩ f.line 6 else ⟨o,0,0⟩) with seen:=[] }:aZ).kind=0:=a1_ fun c=>gN (fun s k N=>nM fs (d+2) s k N) f.kids _ c n
 have z:({ (if fL f.text || !first then aZ.found ⟨o,0,0⟩ f.line 6 else ⟨o,0,0⟩) with seen:=[] }:aZ)=⟨[],0,0⟩:=by
  split at G
  ·exact(gV (by decide) G).elim
  ·rename_i M;rw[if_neg M]
 rw[z,j,List.foldl_append,bD_,b2_] at n ⊢
 have C:(g.foldl (eJ fs (d+2)) ⟨[],0,0⟩).kind=0:=a1_ fun c=>nM fs (d+2) _ b c n
 obtain⟨q,i⟩:=qQ g [] D C;have i:=i List.nodup_nil;rw[by_] at q i;rw[q] at n ⊢
 have v:eJ fs (d+2) ⟨g.map (·.text),0,0⟩ b=aO fs false (d+2) b ⟨g.map (·.text),0,0⟩:=by unfold eJ;rw[if_neg (by simp[y.op])]
 rw[v] at n ⊢
 have E:eY (d+2) b:=F b (by rw[j];simp)
 have r:=H (d+3);rw[bW,j] at r
 have w:∀l:List aC,l.length<=(l.map (bW (d+2))).sum:=by
  intro l;induction l with
  |nil=>simp
  |cons x l O=>simp only[aM_,aO_,aB_,bW];simp only[bW] at O;omega
 have:=w g;simp only[a7_,bC_,aM_,a8_,aO_,bg_] at r;obtain⟨L,J⟩:=jU y.op (fun k u=>GV c (d+1) k (y.kids k u) (E k u)) (by show (g.map (·.text)).length+bW (d+2) b<=_;simp only[bR_];omega) n
 refine⟨⟨⟨g,b,j,J.up fun s a h=>h.up (by omega),i⟩,?_⟩,_,L⟩
 have T:=xZ _ _ F;have K:=H (d+3);have S:(bG (aU fs (d+2)) (g.map (·.text)).reverse b.kids 0).length<=3*(b.kids.map fQ).sum:=qC (m:=3) (fun s a p=>BQ fs (d+2) s a p) b.kids (g.map (·.text)).reverse 0
 have t:=kL f;rw[j] at t;have P:=kL b;simp only[a7_,bC_,aM_,a8_,aO_,bg_] at t;have Q:(eX fs (d+2) f).code.length=(bG (aU fs (d+2)) (g.map (·.text)).reverse b.kids 0).length+2:=by simp[eX,j]
 omega
def yL{fs:List aC}(c:∀f∈fs,rK f){d:Nat}:∀(a b:List aC) (k:List (List UInt8)),(∀f∈a,f∈fs/\eY (d+3) f/\∀e,bW e f<=2001)->(eU fs (d+2) b a ⟨k,0,0⟩).kind=0->∀f∈a,iC fs (d+2) f
 |[],_,_,_,_,f,g=>by cases g
 |n::a,b,k,h,i,f,g=>by
  rw[eU] at i;have o:(fR fs (d+2) ⟨k,0,0⟩ n (dL b n.text).isNone).kind=0:=a1_ fun j=>EA fs (d+2) a _ _ j i
  obtain⟨q,m,s⟩:=h n (aS_ ..);obtain⟨r,l,p⟩:=PP c (c n q) m s o;rw[p] at i;rcases aG_.1 g with rfl|g
  ·exact r
  ·exact yL c a (b++[n]) l (fun f g=>h f (aJ_ _ g)) i f g
def GO{e:Nat}{f:aC}:∀{l:List aC},f∈l->bW e f<=(l.map (bW e)).sum
 |x::l,h=>by
  simp only[aM_,aO_];rcases aG_.1 h with rfl|h
  ·omega
  ·have:=GO (e:=e) h;omega
def FineL.mem{m:Nat}{l:List aC}{f:aC}(h:FineL m l)(a:f∈l):FineA m f:=fun e=>⟨aF_ (GO a) (h e).1,(h e).2 f a⟩
def KI{l:List UInt8}{ks:List aC}(h:cW l=.ok ks)(a:cG l=(0,0)):(∀f∈ks,iC ks 2001 f)/\fG ks (cS ks [109,97,105,110])=some 0:=by
 unfold cG at a;rw[h] at a;simp only at a;unfold kM at a;have j:=uX h;have p:=kT h;have c:∀f∈ks,FineA 2001 f:=fun f g=>p.mem g
 split at a
 ·cases a
 rename_i m i;split at a
 ·cases a
 rename_i o;have q:(eU ks 2001 [] ks ⟨[],0,0⟩).kind=0:=by simp only[Prod.mk.injEq] at a;exact a.1
 refine⟨fun f g=>yL (d:=1999) j ks [] [] (fun f g=>⟨g,?_,fun e=>((c f g) e).1⟩) q f g,?_⟩
 ·have:=nW 2002 f ((c f g).le (by omega))
  exact this
 ·unfold fG;rw[tV i];obtain⟨n,b,k,_⟩:=(j m (bn_ i)).kids;have:m.kids.length=n.length+1:=by rw[k];simp
  simp;omega
def FineL.len{m:Nat}{l:List aC}(h:FineL m l):l.length<=m:=by
 have a:=(h 1).1
 have:∀l:List aC,l.length<=(l.map (bW 1)).sum:=by
  intro l;induction l with
  |nil=>simp
  |cons x l b=>simp only[aM_,aO_,aB_];have:1<=bW 1 x:=by simp[bW]
               omega
 exact aF_ (this l) a
def FineA.kids{m:Nat}{a:aC}(h:FineA m a):FineL m a.kids:=fun e=>by
 have b:=(h (e+1)).1;simp only[bW] at b;exact⟨by omega,(h (e+1)).2.2⟩
def yB{a:aC}(h:a.op≠[115])(b:a.kids=[]):∀d,pS d a
 |0=>trivial
 |d+1=>⟨fun e=>absurd e h,by simp[b],fun k h=>by simp[b] at h⟩
def jH{m:Nat}(g:m<=1000000):∀(d:Nat) (a:aC),FineA m a->dC a->pS d a
 |0,_,_,_=>trivial
 |d+1,a,i,j=>by
  refine⟨fun e=>?_,aF_ i.kids.len g,fun k c=>jH g d k (i.kids.mem c) ?_⟩
  ·cases j with
   |leaf _ h c o=>exact o e
   |many _ h c=>rw[e] at h;exact absurd h (by decide)
   |one _ l h c f=>rw[e] at h;exact absurd h (by decide)
   |two _ l r h c f n=>rw[e] at h;exact absurd h (by decide)
  ·cases j with
   |leaf _ h b o=>rw[b] at c;cases c
   |many _ h b=>exact b k c
   |one _ l h b f=>rw[b,aD_] at c;rw[c];exact f
   |two _ l r h b f n=>
    rw[b] at c;rcases aG_.1 c with rfl|c
    ·exact f
    ·rw[aD_.1 c];exact n
def IK{m:Nat}(j:m<=1000000):∀(d:Nat),(∀a,FineA m a->fZ a->pS d a)/\∀t,FineA m t->t.op=[98,108,111,99,107]->(∀k∈t.kids,fZ k)->pS d t
 |0=>⟨fun _ _ _=>trivial,fun _ _ _ _=>trivial⟩
 |d+1=>by
  obtain⟨w,q⟩:=IK j d;refine⟨fun a o u=>⟨fun e=>?_,aF_ o.kids.len j,fun k f=>?_⟩,fun t o s f=>⟨fun e=>?_,aF_ o.kids.len j,fun k b=>w k (o.kids.mem b) (f k b)⟩⟩
  ·cases u<;>rename_i h _<;>simp_all
  ·have g:=o.kids.mem f;cases u with
   |var _ t v h b p l=>
    rw[b] at f;rcases aG_.1 f with rfl|f
    ·exact yB (by rw[l.1];decide) l.2 d
    ·obtain rfl:=aD_.1 f;exact jH j d _ g p
   |set _ h z b=>exact jH j d k g (b k f)
   |if2 _ c t h b n l i=>
    rw[b] at f;rcases aG_.1 f with rfl|f
    ·exact jH j d _ g n
    ·obtain rfl:=aD_.1 f;exact q _ g l i
   |if3 _ c t x h b n l i y r=>
    rw[b] at f;rcases aG_.1 f with rfl|f
    ·exact jH j d _ g n
    rcases aG_.1 f with rfl|f
    ·exact q _ g l i
    ·obtain rfl:=aD_.1 f;exact q _ g y r
   |whl _ c t h b n l i=>
    rw[b] at f;rcases aG_.1 f with rfl|f
    ·exact jH j d _ g n
    ·obtain rfl:=aD_.1 f;exact q _ g l i
   |ret0 _ h b=>rw[b] at f;cases f
   |ret1 _ v h b p=>rw[b,aD_] at f;subst f;exact jH j d _ g p
   |print _ v h b p=>rw[b,aD_] at f;subst f;exact jH j d _ g p
   |call _ c h b n s=>rw[b,aD_] at f;subst f;exact jH j d _ g n
  ·rw[s] at e;cases e
def FG{l:List UInt8}{ks:List aC}(g:cW l=.ok ks):∀f∈ks,∀k∈f.kids,mJ k:=fun f h k a d=>by
 have c:FineA 2001 k:=((kT g).mem h).kids.mem a;obtain⟨n,b,e,j,i,m⟩:=(uX g f h).kids;rw[e] at a;rcases aE_.1 a with a|a
 ·exact yB (by rw[j k a];decide) (m k a) d
 ·obtain rfl:=aD_.1 a;exact(IK (by omega) d).2 _ c i.op i.kids
def nR(i:aH):Prop:=(∀v,i=.push v->bQ v)/\∀op,i=.unary op->op=[45]\/op=[33]
def qJ{P:aH->Prop}{c:aC->Nat->List aH}:∀(l:List aC) (p:Nat),(∀a∈l,∀q,∀i∈c a q,P i)->∀i∈bP c l p,P i
 |[],_,_,i,d=>by cases d
 |a::l,p,h,i,d=>by
  rcases aE_.1 d with d|d
  ·exact h a (aS_ ..) p i d
  ·exact qJ l _ (fun b e=>h b (aJ_ _ e)) i d
def gU{P:aH->Prop}{c:Prop}[Decidable c]{l m:List aH}(b:c->∀i∈l,P i)(a:∀i∈m,P i):∀i∈(if c then l else m),P i:=by
 split
 ·exact b ‹_›
 ·exact a
def gL{P:aH->Prop}{l:List aH}{x:aH}(b:∀i∈l,P i)(a:P x):∀i∈l++[x],P i:=fun i h=>by
 rcases aE_.1 h with h|h
 ·exact b i h
 ·rw[aD_.1 h];exact a
def oQ{P:aH->Prop}{x:aH}(h:P x):∀i∈[x],P i:=gL (l:=[]) (fun _ h=>by cases h) h
def mY(fs:List aC)(seen:List (List UInt8)):∀(d:Nat) (a:aC) (p:Nat),mJ a->∀i∈aG fs seen d a p,nR i
 |0,_,_,_=>fun i b=>by cases b
 |d+1,a,p,j=>by
  have c:∀i∈bP (aG fs seen d) a.kids p,nR i:=qJ _ _ fun k c q=>mY fs seen d k q (j.kid c)
  have g:∀x:aH,(∀v,x≠.push v)->(∀f,x≠.unary f)->nR x:=fun x n m=>⟨fun v e=>absurd e (n v),fun f e=>absurd e (m f)⟩
  have o:a.op=[115]->cQ a.text:=fun h=>((j 1).1 h).2
  rw[aG];simp only;refine gU (fun _=>oQ ⟨fun v e=>by cases e;exact bQ.num _,fun f e=>by cases e⟩) ?_
  refine gU (fun h=>oQ ⟨fun v e=>by cases e;exact bQ.str (o (by simpa using h)),fun f e=>by cases e⟩) ?_
  refine gU (fun _=>oQ ⟨fun v e=>by cases e;exact bQ.tru _,fun f e=>by cases e⟩) ?_
  refine gU (fun _=>oQ (g _ (by simp) (by simp))) ?_
  refine gU (fun _=>gL c (g _ (by simp) (by simp))) ?_
  refine gU (fun _=>gL c (g _ (by simp) (by simp))) ?_
  refine gU (fun _=>gL c ⟨fun v e=>by (cases e),fun f e=>by cases e;exact av_ rfl⟩) ?_
  refine gU (fun _=>gL c ⟨fun v e=>by (cases e),fun f e=>by cases e;exact as_ rfl⟩) ?_
  refine gU (fun _=>gL c ?_) ?_
  ·repeat' split
   all_goals exact g _ (by simp) (by simp)
  refine gU (fun _=>?_) (gL c (g _ (by simp) (by simp)))
  split
  ·rename_i l r e;refine gL (fun i b=>?_) (g _ (by simp) (by simp))
   rcases aE_.1 b with b|b
   ·exact gL (mY fs seen d l _ (j.kid (by rw[e];simp))) (g _ (by simp) (by simp)) i b
   ·exact mY fs seen d r _ (j.kid (by rw[e];simp)) i b
  ·intro i b;cases b
def qE{P:aH->Prop}{c:List (List UInt8)->aC->Nat->List aH × List (List UInt8)}:∀(l:List aC) (seen:List (List UInt8)) (p:Nat),(∀a∈l,∀s q,∀i∈(c s a q).1,P i)->∀i∈bG c seen l p,P i
 |[],_,_,_,i,d=>by cases d
 |a::l,seen,p,h,i,d=>by
  rcases aE_.1 d with d|d
  ·exact h a (aS_ ..) seen p i d
  ·exact qE l _ _ (fun b e=>h b (aJ_ _ e)) i d
def NH(fs:List aC):∀(d:Nat) (seen:List (List UInt8)) (a:aC) (p:Nat),mJ a->∀i∈(aU fs d seen a p).1,nR i
 |0,_,_,_,_,i,f=>by cases f
 |d+1,seen,a,p,o,i,f=>by
  have j:∀{k:aC} {q:Nat},k∈a.kids->i∈aG fs seen d k q->nR i:=fun l h=>mY fs seen d _ _ (o.kid l) i h
  have n:∀{k:aC} {q:Nat},k∈a.kids->i∈bG (aU fs d) seen k.kids q->nR i:=fun l h=>qE _ _ _ (fun x j s q=>NH fs d s x q ((o.kid l).kid j)) i h
  have g:∀{x:aH},(∀v,x≠.push v)->(∀m,x≠.unary m)->i=x->nR i:=fun w u e=>⟨fun v z=>absurd (e▸z) (w v),fun m y=>absurd (e▸y) (u m)⟩
  rw[aU] at f;dsimp only at f;split at f
  ·split at f
   ·rename_i t v e;simp only[aE_,aG_,aQ_,or_false,aY_] at f;rcases f with h|h|h
    ·exact g (by simp) (by simp) h
    ·exact j (by rw[e];simp) h
    ·exact g (by simp) (by simp) h
   ·cases f
  split at f
  ·simp only[aE_,aG_,aQ_,or_false,aY_] at f;rcases f with h|h|h
   ·exact g (by simp) (by simp) h
   ·exact qJ _ _ (fun k l q=>mY fs seen d k q (o.kid l)) i h
   ·exact g (by simp) (by simp) h
  split at f
  ·split at f
   ·rename_i c t e r;simp only[aE_,aG_,aQ_,or_false,aY_] at f;rcases f with h|(((h|h)|h)|h)|h
    ·exact g (by simp) (by simp) h
    ·exact j (by rw[r];simp) h
    ·exact g (by simp) (by simp) h
    ·exact n (by rw[r];simp) h
    ·exact g (by simp) (by simp) h
    ·split at h
     ·exact n (by rw[r];simp) h
     ·cases h
   ·cases f
  split at f
  ·split at f
   ·rename_i c b e;simp only[aE_,aG_,aQ_,or_false,aY_] at f;rcases f with h|((h|h)|h)|h
    ·exact g (by simp) (by simp) h
    ·exact j (by rw[e];simp) h
    ·exact g (by simp) (by simp) h
    ·exact n (by rw[e];simp) h
    ·exact g (by simp) (by simp) h
   ·cases f
  split at f
  ·split at f
   ·rename_i v e;simp only[aE_,aG_,aQ_,or_false,aY_] at f;rcases f with h|h|h
    ·exact g (by simp) (by simp) h
    ·exact j (by rw[e];simp) h
    ·exact g (by simp) (by simp) h
   ·simp only[aG_,aQ_,or_false] at f;rcases f with h|h|h
    ·exact g (by simp) (by simp) h
    ·rw[h];exact⟨fun v e=>by cases e;exact bQ.num _,fun m e=>by cases e⟩
    ·exact g (by simp) (by simp) h
  split at f
  ·split at f
   ·rename_i v e;simp only[aE_,aG_,aQ_,or_false,aY_] at f;rcases f with h|h|h
    ·exact g (by simp) (by simp) h
    ·exact j (by rw[e];simp) h
    ·exact g (by simp) (by simp) h
   ·cases f
  ·split at f
   ·rename_i c e;simp only[aE_,aG_,aQ_,or_false,aY_] at f;rcases f with h|h|h
    ·exact g (by simp) (by simp) h
    ·exact j (by rw[e];simp) h
    ·exact g (by simp) (by simp) h
   ·cases f
def SD{ks:List aC}{d:Nat}(h:∀f∈ks,∀k∈f.kids,mJ k):jN (cP ks d):=fun g m=>by
 obtain⟨f,o,rfl⟩:=bz_.1 m
 have a:∀i∈(eX ks d f).code,nR i:=fun i c=>by
  simp only[eX,aE_,aG_,aQ_,or_false] at c;rcases c with c|rfl|rfl
  ·cases j:f.kids.getLast? with
   |none=>rw[j] at c;cases c
   |some b=>
    rw[j] at c;exact qE _ _ _ (fun k n s q=>NH ks d s k q ((h f o b (bK_ j)).kid n)) i c
  ·exact⟨fun v e=>by cases e;exact bQ.num _,fun l e=>by cases e⟩
  ·exact⟨fun v e=>by (cases e),fun l e=>by cases e⟩
 exact⟨fun v r=>(a _ r).1 v rfl,fun l p=>(a _ p).2 l rfl⟩
def stC_seen{fs:List aC}{d:Nat}{seen:List (List UInt8)}{a:aC}{p:Nat}(h:dD fs d seen a):(aU fs d seen a p).2=cO seen a:=
 (lI fs d seen a (fun _ _=>False) p h ⟨fun _ _ _ h=>h.elim,fun _ _ h=>h.elim⟩).2.1
def NN{b c:List aI}{f a:aI}(h:b++[f]=c++[a]):b=c/\f=a:=by
 have:=bh_ h rfl;exact⟨this.1,by simpa using this.2⟩
def JE:∃k:Nat,16*320000+2<=k:=⟨_,au_ _⟩
noncomputable def gD:Nat:=Classical.choose JE
def xF:16*320000+2<=gD:=Classical.choose_spec JE
noncomputable def dQ(tab:List dY)(m0:cF):Nat->Option bI
 |0=>(cJ tab gD m0).map fun r=>⟨0,r.1,bT 0 r.2⟩
 |t+1=>
  match dQ tab m0 t with
  |none=>none
  |some s=>if s.stop=0 then (cJ tab gD s.m).map fun r=>⟨t+1,r.1,bT (t+1) r.2⟩ else none
structure RM(ar:Nat->Option Nat)(s:bI):Prop where
 told:∀x∈s.m.frames,x.seen.length<=x.vars.length
 deep:s.m.frames.length<=16
 ok:s.stop=0->eS ar s.m/\s.m.frames≠[]
 time:s.time<=500
def RU{ar:Nat->Option Nat}{m:cF}(h:eS ar m):∃k,wgts m.frames<=m.frames.length*k/\k=320000:=by
 have d:∀f∈m.frames,jP f<=320000:=fun f a=>by
  have n:f.fn.code.length<=80000:=by
   rcases bo_ m.frames with c|⟨b,x,c⟩
   ·rw[c] at a;cases a
   ·rw[bp_] at c;have i:=h.ok.low;have e:=h.ok.top x (by rw[c];exact dV _ _)
    rw[c,dA] at i;rw[c] at a;rcases aE_.1 a with a|a
    ·obtain⟨T,g,_⟩:=(i f a).code;exact g.len
    ·obtain⟨T,g,_⟩:=e.code;rw[aD_.1 a];exact g.len
  unfold jP;split
  ·omega
  ·split<;>omega
 have:∀l:List aI,(∀f∈l,jP f<=320000)->wgts l<=l.length*320000:=by
  intro l;induction l with
  |nil=>intro _;simp[wgts]
  |cons x l j=>
   intro h;have i:=h x (aS_ ..);have e:=j fun f a=>h f (aJ_ _ a)
   unfold wgts at e ⊢
   simp only[aM_,aO_,aB_,Nat.succ_mul];omega
 exact⟨320000,this m.frames d,rfl⟩
def oN{ar:Nat->Option Nat}{a:List dY}(b:iK ar a){m:cF}(h:eS ar m):∃r,cJ a gD m=some r/\MM ar r:=
 lG b gD m h (by
  obtain⟨k,d,c⟩:=RU h;have e:=Nat.mul_le_mul_right k h.ok.deep;have:=xF;omega)
def tO{ar:Nat->Option Nat}{b:List dY}(j:iK ar b){m0:cF}(m:eS ar m0):∀(t:Nat) (s:bI),dQ b m0 t=some s->RM ar s/\s.time=t
 |0,s,h=>by
  obtain⟨r,k,f⟩:=oN j m;simp only[dQ,k,bE_,Option.some.injEq] at h;subst h
  exact⟨⟨f.told,f.deep,fun c=>f.ok (by simp only[bT] at c;split at c;·simp at c
                                       ·exact c),by simp⟩,rfl⟩
 |t+1,s,h=>by
  rw[dQ] at h;cases a:dQ b m0 t with
  |none=>rw[a] at h;cases h
  |some p=>
   rw[a] at h;simp only at h;obtain⟨l,v⟩:=tO j m t p a;split at h
   ·rename_i c;obtain⟨r,k,f⟩:=oN j (l.ok c).1;rw[k] at h;simp only[bE_,Option.some.injEq] at h;subst h
    refine⟨⟨f.told,f.deep,fun d=>f.ok (by simp only[bT] at d;split at d;·simp at d
                                          ·exact d),?_⟩,rfl⟩
    show t+1<=500
    have q:t≠500:=by
     intro e;cases t with
     |zero=>simp at e
     |succ u=>
      rw[dQ] at a;cases n:dQ b m0 u with
      |none=>rw[n] at a;cases a
      |some o=>
       rw[n] at a;simp only at a;split at a
       ·cases g:cJ b gD o.m with
        |none=>rw[g] at a;cases a
        |some w=>
         rw[g] at a;simp only[bE_,Option.some.injEq] at a;subst a;simp only[bT] at c;split at c
         ·simp at c
         ·rename_i i;exact i ⟨c,e⟩
       ·cases a
    have:=l.time;omega
   ·cases h
def xM{a:List dY}{r:cF × Nat}(j:Nat):∀(k:Nat) (m:cF),cJ a k m=some r->cJ a (k+j) m=some r
 |0,_,h=>by cases h
 |k+1,m,h=>by
  rw[show k+1+j=(k+j)+1 by omega]
  rw[cJ] at h ⊢
  cases e:m.frames.getLast? with
  |none=>rw[e] at h;exact h
  |some f=>
   rw[e] at h;simp only at h ⊢
   cases d:f.fetch with
   |none=>rw[d] at h;cases h
   |some g=>
    rw[d] at h;simp only at h ⊢
    split at h
    ·rename_i c;rw[if_pos c];exact h
    rename_i c;rw[if_neg c];split at h
    ·rename_i b;rw[if_pos b];exact h
    rename_i b;rw[if_neg b];exact xM j k _ h
noncomputable def uV(tab:List dY)(k:Nat):Nat->Nat->cF->Option bI
 |0,_,_=>none
 |n+1,t,m=>
  match cJ tab k m with
  |none=>none
  |some r=>if r.2=0/\t≠500 then uV tab k n (t+1) r.1 else some ⟨t,r.1,bT t r.2⟩
def BZ{a:List dY}{m0:cF}{k:Nat}(e:k<=gD){z:bI}:∀(n t:Nat) (m:cF),uV a k n t m=some z->(∀r,cJ a gD m=some r->dQ a m0 t=some ⟨t,r.1,bT t r.2⟩)->dQ a m0 z.time=some z
 |0,_,_,h,_=>by cases h
 |n+1,t,m,h,g=>by
  rw[uV] at h;cases c:cJ a k m with
  |none=>rw[c] at h;cases h
  |some r=>
   rw[c] at h;simp only at h
   have f:cJ a gD m=some r:=by
    have:=xM (gD-k) k m c;rwa [show k+(gD-k)=gD by omega] at this
   have d:=g r f;split at h
   ·rename_i i;refine BZ e n (t+1) r.1 h fun l b=>?_
    have j:bT t r.2=0:=by unfold bT;rw[if_neg (by omega)];exact i.1
    rw[dQ,d];simp only[j,if_true,b,bE_]
   ·cases h;exact d
def xG(src:List UInt8)(t:Nat)(out:List (List UInt8)):Prop:=∃ks tp,cW src=.ok ks/\cG src=(0,0)/\dQ (cP ks 2001) (eT ks 2001 []) t=some ⟨t,⟨[],tp,out⟩,1⟩
noncomputable def QK(src:List UInt8)(t:Nat)(out:List (List UInt8)):Bool:=
 match cW src with
 |.error _=>false
 |.ok ks=>
  decide (kM 2001 ks=(0,0)) && match uV (cP ks 2001) 100 200 0 (eT ks 2001 []) with
   |none=>false
   |some z=>z.time==t && (z.stop==1 && (z.m.frames.isEmpty && z.m.out==out))
def VF{a:List UInt8}{t:Nat}{c:List (List UInt8)}(h:QK a t c=true):xG a t c:=by
 unfold QK at h;cases f:cW a with
 |error e=>rw[f] at h;cases h
 |ok d=>
  rw[f] at h;simp only[aX_,decide_eq_true_eq] at h;obtain⟨j,b⟩:=h;cases g:uV (cP d 2001) 100 200 0 (eT d 2001 []) with
  |none=>rw[g] at b;cases b
  |some z=>
   rw[g] at b;simp only[aX_,beq_iff_eq,List.isEmpty_iff] at b;have:=BZ (m0:=eT d 2001 []) (by have:=xF;omega) 200 0 _ g fun r k=>by rw[dQ,k];rfl
   obtain⟨n,⟨o,i,l⟩,m⟩:=z;simp only at b this;obtain⟨rfl,rfl,rfl,rfl⟩:=b;exact⟨d,i,f,by unfold cG;rw[f];exact j,this⟩
def WJ:List UInt8:=[102,117,110,99,32,102,40,120,41,32,123,32,114,101,116,117,114,110,32,91,120,44,32,34,195,169,34,93,59,32,125,10,102,117,110,99,32,109,97,105,110,40,41,32,123,32,118,97,114,32,97,32,61,32,102,40,50,41,59,32,112,114,105,110,116,32,97,59,32,112,114,105,110,116,32,108,101,110,40,97,91,49,93,41,59,32,125]
def WK:List UInt8:=[102,117,110,99,32,109,97,105,110,40,41,32,123,10,32,112,114,105,110,116,32,120,59,32,125]
def RW:xG WJ 4 [[91,50,44,32,34,195,169,34,93],[49]]:=VF (by decide+kernel)
def TO:cG WK=(6,2):=by decide+kernel
def bV(l:List aI):List (List UInt8 × Nat):=l.map fun f=>(f.fn.name,f.line)
def iD(l:List aI)(f:aI):bV (l++[f])=bV l++[(f.fn.name,f.line)]:=by simp[bV]
def rI(m0 m:List aI):Prop:=bV m<+:bV m0\/((bV m).dropLast<+:bV m0/\∃b f,m=b++[f]/\(f.next=0\/∃v,f.fn.code=[.push v,.give]))
def rI.drop{m0 m:List aI}(h:rI m0 m):(bV m).dropLast<+:bV m0:=by
 rcases h with h|h
 ·exact(List.dropLast_prefix _).trans h
 ·exact h.1
def CZ(i:aH)(f:aI)(h:i.isBegin=false):(aL i f).1.fn=f.fn/\(aL i f).1.line=f.line:=by
 refine⟨lR i f,?_⟩;cases i<;>simp[aH.isBegin] at h<;>simp only[aL]<;>(repeat' split)<;>rfl
structure kD(m0:cF)(m:cF):Prop where
 stack:(bV m.frames).dropLast<+:bV m0.frames
 out:m0.out<+:m.out
def kD.deep{m0 m:cF}(h:kD m0 m):m.frames.length<=m0.frames.length+1:=by
 have:=h.stack.length_le;simp[bV] at this;omega
def pV{ar:Nat->Option Nat}{j:List dY}(ht:iK ar j){m0:cF}:∀(k:Nat) (m:cF) (r:cF × Nat),eS ar m->rI m0.frames m.frames->m0.out<+:m.out->cJ j k m=some r->kD m0 r.1
 |0,_,_,_,_,_,h=>by simp[cJ] at h
 |k+1,⟨fr,t,o⟩,r,ha,N,u,h=>by
  by_cases F:fr=[]
  ·subst F;simp only[cJ,List.getLast?_nil,Option.some.injEq] at h;subst h;exact⟨by simp[bV],u⟩
  obtain⟨b,f,rfl⟩:=jB F;have g:cH ar f 0:=ha.ok.top f (dV _ _);have S:gW f.fn.code:=ha.start f (by simp)
  have V:=qW g.next
  have B:f.fn.code[f.next]?=some (f.fn.code[f.next]'g.next):=aH_ g.next
  generalize f.fn.code[f.next]'g.next=i at V B
  obtain⟨U,h2,h3⟩:=rW ht ha V;rw[cJ] at h;simp only[dV,V,dA] at h
  have p:bV b<+:bV m0.frames:=by
   have:=N.drop;rw[iD,dA] at this;exact this
  have A:kD m0 (doI j i b { f with next:=f.next+1 } t o).1/\((doI j i b { f with next:=f.next+1 } t o).2=0->i.isBegin=false->rI m0.frames (doI j i b { f with next:=f.next+1 } t o).1.frames):=by
   have same:∀y:aI,y.fn=f.fn->y.line=f.line->∀M X,m0.out<+:X->(y.next≠0->(∃v,f.fn.code=[.push v,.give])\/bV (b++[f])<+:bV m0.frames)->kD m0 ⟨b++[y],M,X⟩/\(y.next≠0->rI m0.frames (b++[y])):=fun y U h2 M X W O=>by
    refine⟨⟨by simp only[iD,dA];exact p,W⟩,fun P=>?_⟩
    rcases O P with ⟨v,E⟩|I
    ·exact as_ ⟨by rw[iD,dA];exact p,b,y,rfl,as_ ⟨v,by rw[U];exact E⟩⟩
    ·left
     rw[iD] at I ⊢
     rw[U,h2];exact I
   have d:i.isBegin=false->(∃v,f.fn.code=[.push v,.give])\/bV (b++[f])<+:bV m0.frames:=fun w=>by
    rcases N with N|⟨_,G,f',e,K⟩
    ·exact as_ N
    ·obtain⟨_,rfl⟩:=NN e;rcases K with K|K
     ·rcases S with ⟨l,s,r,e⟩|E
      ·rw[e,K] at B;simp at B;rw[<-B] at w;simp[aH.isBegin] at w
      ·exact av_ E
     ·exact av_ K
   by_cases P:i=.give
   ·subst P;rcases bo_ b with rfl|⟨G,x,rfl⟩
    ·exact⟨⟨by simp[doI,bV],by simpa [doI] using u⟩,fun _ _=>av_ (by simp[doI,bV])⟩
    ·rw[bp_] at*;have e:doI j .give (G++[x]) { f with next:=f.next+1 } t o=(⟨G++[x.push (aI.last { f with next:=f.next+1 })],t,o⟩,0):=by simp[doI]
     rw[e];have L:bV (G++[x.push (aI.last { f with next:=f.next+1 })])=bV (G++[x]):=by simp[bV,aI.push]
     exact⟨⟨by rw[L];exact(List.dropLast_prefix _).trans p,u⟩,fun _ _=>av_ (by rw[L];exact p)⟩
   by_cases hr:i=.read
   ·subst hr;have:=d rfl;cases t with
    |nil=>exact⟨(same { f with next:=f.next+1 } rfl rfl [] o u fun _=>this).1,fun q=>by simp[doI] at q⟩
    |cons a M=>
     have C:=same (aI.push { f with next:=f.next+1 } (bC a)) rfl rfl M o u fun _=>this
     exact⟨C.1,fun _ _=>C.2 (by simp[aI.push])⟩
   by_cases I:i=.print
   ·subst I;have:=d rfl;simp only[doI];split
    ·exact⟨(same (aI.pop { f with next:=f.next+1 }) rfl rfl t o u fun _=>this).1,fun q=>by simp at q⟩
    ·have C:=same (aI.pop { f with next:=f.next+1 }) rfl rfl t (o++[iV (aI.last { f with next:=f.next+1 })]) (u.trans (List.prefix_append _ _)) fun _=>this
     exact⟨C.1,fun _ _=>C.2 (by simp[aI.pop])⟩
   by_cases H:∃c n,i=.call c n
   ·obtain⟨c,n,rfl⟩:=H
    have D:bV (b++[f])<+:bV m0.frames:=by
     rcases d rfl with ⟨v,E⟩|h'
     ·rw[E] at B;have Q:f.next<2:=by have:=g.next;rw[E] at this;simpa using this
      match J:f.next,Q with
      |0,_=>rw[J] at B;simp at B
      |1,_=>rw[J] at B;simp at B
     ·exact h'
    simp only[doI];split
    ·exact⟨(same (aI.popMany { f with next:=f.next+1 } n) rfl rfl t o u fun _=>as_ D).1,fun q=>by simp at q⟩
    ·have Y:∀y z:aI,b++[y,z]=(b++[y])++[z]:=by simp
     have L:bV (b++[aI.popMany { f with next:=f.next+1 } n])=bV (b++[f]):=by simp[bV,aI.popMany]
     refine⟨⟨by rw[Y,iD,dA,L];exact D,u⟩,fun _ _=>as_ ⟨by rw[Y,iD,dA,L];exact D,b++[aI.popMany { f with next:=f.next+1 } n],_,Y _ _,av_ rfl⟩⟩
   have T:∀k n,i≠.call k n:=fun k n e=>H ⟨k,n,e⟩
   rw[rX P hr I T];cases w:i.isBegin
   ·obtain⟨s1,s2⟩:=CZ i { f with next:=f.next+1 } w
    have C:=same (aL i { f with next:=f.next+1 }).1 s1 s2 t o u fun _=>d w
    refine⟨C.1,fun q _=>?_⟩
    by_cases O:(aL i { f with next:=f.next+1 }).1.next=0
    ·exact as_ ⟨by rw[iD,dA];exact p,b,_,rfl,av_ O⟩
    ·exact C.2 O
   ·cases i<;>simp[aH.isBegin] at w
    exact⟨⟨by simp only[iD,dA];exact p,u⟩,fun _ Z=>by simp at Z⟩
  by_cases q:(doI j i b { f with next:=f.next+1 } t o).2=0
  ·rw[if_neg (by rw[q];simp)] at h
   cases w:i.isBegin
   ·rw[w] at h;simp only[Bool.false_eq_true,if_false] at h;exact pV ht k _ r (h3 q) (A.2 q w) A.1.out h
   ·rw[if_pos w] at h;cases h;exact A.1
  ·rw[if_pos q] at h;cases h;exact A.1
def nF(s:List (List UInt8)):Prop:=s.Nodup/\s.length<=90001
def nF.nil:nF []:=⟨List.nodup_nil,by simp⟩
def bD(c:List aH):Prop:=∀l s,aH.begin l s∈c->nF s
def bD.app{a b:List aH}(h:bD a)(k:bD b):bD (a++b):=fun l s c=>by
 rcases aE_.1 c with c|c
 ·exact h l s c
 ·exact k l s c
def bD.one{i:aH}(h:i.isBegin=false):bD [i]:=fun l s a=>by
 rw[aD_] at a;rw[<-a] at h;cases h
def bD.nil:bD []:=fun l s a=>by cases a
def tP{c:aC->Nat->List aH}(b:∀a p,bD (c a p)):∀(l:List aC) (p:Nat),bD (bP c l p)
 |[],_=>bD.nil
 |a::l,p=>(b a p).app (tP b l _)
def iN{c:Prop}[Decidable c]{a b:List aH}(h:bD a)(k:bD b):bD (if c then a else b):=by split<;>assumption
def nO(fs:List aC)(seen:List (List UInt8)):∀(d:Nat) (a:aC) (p:Nat),bD (aG fs seen d a p)
 |0,_,_=>bD.nil
 |d+1,a,p=>by
  have b:=tP (nO fs seen d) a.kids p;have o:∀i:aH,i.isBegin=false->bD [i]:=fun i h=>bD.one h
  rw[aG];refine iN (o _ rfl) (iN (o _ rfl) (iN (o _ rfl) (iN (o _ rfl) (iN (b.app (o _ rfl)) (iN (b.app (o _ rfl)) (iN (b.app (o _ rfl)) (iN (b.app (o _ rfl)) (iN (b.app (o _ ?_)) (iN ?_ (b.app (o _ rfl)))))))))))
  ·split
   ·rfl
   ·split<;>rfl
  ·split
   ·exact(((nO fs seen d _ _).app (o _ rfl)).app (nO fs seen d _ _)).app (o _ rfl)
   ·exact bD.nil
def bD.start{l:Nat}{s:List (List UInt8)}{c:List aH}(e:nF s)(f:bD c):bD (.begin l s::c):=fun d b a=>by
 rcases aG_.1 a with a|a
 ·cases a;exact e
 ·exact f d b a
def XI(fs:List aC)(d:Nat):Prop:=∀(seen:List (List UInt8)) (a:aC) (p:Nat),dD fs d seen a->nF seen->bD (aU fs d seen a p).1/\nF (aU fs d seen a p).2
def tN{fs:List aC}{d:Nat}(c:XI fs d):∀(l:List aC) (seen:List (List UInt8)) (p:Nat),StsOk (dD fs d) seen l->nF seen->bD (bG (aU fs d) seen l p)
 |[],_,_,_,_=>bD.nil
 |a::l,seen,p,h,e=>by
  obtain⟨f,b⟩:=c seen a p h.1 e;have g:(aU fs d seen a p).2=cO seen a:=(lI fs d seen a (fun _ _=>False) p h.1 ⟨fun _ _ _ h=>h.elim,fun _ _ h=>h.elim⟩).2.1
  refine f.app ?_;rw[g] at b ⊢
  exact tN c l _ _ h.2 b
def GW(fs:List aC):∀d,XI fs d
 |0=>fun _ _ _ h _=>h.elim
 |d+1=>by
  intro g a p h e;have j:=nO fs g d;have k:∀(b:aC) q,StsOk (dD fs d) g b.kids->bD (bG (aU fs d) g b.kids q):=fun b q l=>tN (GW fs d) b.kids g q l e
  have s:([115,101,116]==([118,97,114]:List UInt8))=false:=rfl;rcases h with ⟨i,r,t,v,f,_,o⟩|⟨i,_⟩|⟨i,c,t,f,_,m⟩|⟨i,c,b,f,_,l⟩|⟨i,f⟩|⟨i,v,f,_⟩|⟨i,c,f,_⟩
  ·unfold aU;simp only[i,f,aY_];exact⟨bD.start e ((j v _).app (bD.one rfl)),⟨aK_.2 ⟨o,e.1⟩,by simp;omega⟩⟩
  ·unfold aU;simp only[i];exact⟨bD.start e ((tP j _ _).app (bD.one rfl)),e⟩
  ·unfold aU;simp only[i];rcases f with f|⟨x,f,n⟩<;>rw[f]
   ·exact⟨bD.start e ((((j c _).app (bD.one rfl)).app (k t _ m)).app (bD.one rfl) |>.app bD.nil),e⟩
   ·exact⟨bD.start e ((((j c _).app (bD.one rfl)).app (k t _ m)).app (bD.one rfl) |>.app (k x _ n)),e⟩
  ·unfold aU;simp only[i,f];exact⟨bD.start e (((j c _).app (bD.one rfl)).app (k b _ l) |>.app (bD.one rfl)),e⟩
  ·unfold aU;simp only[i];rcases f with f|⟨v,f,_⟩<;>rw[f]
   ·exact⟨bD.start e ((bD.one rfl).app (bD.one rfl)),e⟩
   ·exact⟨bD.start e ((j v _).app (bD.one rfl)),e⟩
  ·unfold aU;simp only[i,f];exact⟨bD.start e ((j v _).app (bD.one rfl)),e⟩
  ·unfold aU;simp only[i,f];exact⟨bD.start e ((j c _).app (bD.one rfl)),e⟩
def B4{fs:List aC}{d:Nat}{f:aC}(h:iC fs d f)(e:f.kids.length<=90000):bD (eX fs d f).code:=by
 obtain⟨⟨g,b,c,j,k⟩,_⟩:=h;have a:(eX fs d f).code=bG (aU fs d) (g.map (·.text)).reverse b.kids 0++[.push (bC 0),.give]:=by simp[eX,c]
 rw[a];exact(tN (GW fs d) b.kids _ 0 j ⟨List.pairwise_reverse.2 (k.imp fun h=>h.symm),by rw[c] at e;simp at e ⊢;omega⟩).app ((bD.one (i:=.push (bC 0)) rfl).app (bD.one (i:=.give) rfl))
def jW(m:cF):Prop:=∀f∈m.frames,nF f.seen/\bD f.fn.code
def FM(i:aH)(f:aI)(a:nF f.seen)(b:∀l s,i=.begin l s->nF s):nF (aL i f).1.seen:=by
 cases i with
 |begin l s=>exact b l s rfl
 |_=>simp only[aL]<;>(repeat' split)<;>exact a
def C3{p:List dY}(D:∀f∈p,bD f.code){b:List aI}{f:aI}{t:List Int}{o:List (List UInt8)}{i:aH}(h:jW ⟨b++[f],t,o⟩)(F:i∈f.fn.code)(k:Nat):jW (doI p i b { f with next:=k } t o).1:=by
 have u:∀x∈b,nF x.seen/\bD x.fn.code:=fun x q=>h x (by simp[q])
 have m:=h f (by simp)
 have d:∀(y:aI) v B,nF y.seen->y.fn=f.fn->jW ⟨b++[y],v,B⟩:=fun y v B E C x q=>by
  rcases aE_.1 q with q|q
  ·exact u x q
  ·rw[aD_.1 q];exact⟨E,by rw[C];exact m.2⟩
 by_cases A:i=.give
 ·subst A;rcases bo_ b with rfl|⟨H,x,rfl⟩
  ·intro y j;simp[doI] at j
  ·rw[bp_] at*;intro y j;simp[doI] at j;rcases j with j|rfl
   ·exact u y (by simp[j])
   ·exact u x (by simp)
 by_cases z:i=.read
 ·subst z;cases t with
  |nil=>exact d _ _ _ m.1 rfl
  |cons a v=>exact d _ _ _ m.1 rfl
 by_cases w:i=.print
 ·subst w;simp only[doI];split<;>exact d _ _ _ m.1 rfl
 by_cases r:∃c n,i=.call c n
 ·obtain⟨c,n,rfl⟩:=r;simp only[doI];split
  ·exact d _ _ _ m.1 rfl
  ·intro y j;simp at j;rcases j with j|rfl|rfl
   ·exact u y j
   ·exact m
   ·refine⟨nF.nil,?_⟩;cases G:p[c]? with
    |none=>exact bD.nil
    |some g=>exact D g (bb_ G)
 rw[rX A z w fun k n e=>r ⟨k,n,e⟩]
 exact d _ _ _ (FM i _ m.1 fun l s e=>m.2 l s (e▸F)) (lR i _)
def vO{d:List dY}(n:∀f∈d,bD f.code):∀(k:Nat) (m:cF) (r:cF × Nat),jW m->cJ d k m=some r->jW r.1
 |0,_,_,_,h=>by simp[cJ] at h
 |k+1,⟨s,t,o⟩,r,p,h=>by
  by_cases e:s=[]
  ·subst e;simp only[cJ,List.getLast?_nil,Option.some.injEq] at h;subst h;exact p
  obtain⟨b,f,rfl⟩:=jB e;rw[cJ] at h;simp only[dV,dA] at h;cases a:f.fetch with
  |none=>rw[a] at h;cases h
  |some q=>
   obtain⟨i,g⟩:=q;rw[a] at h;simp only at h
   obtain⟨rfl,u⟩:g={ f with next:=f.next+1 }/\i∈f.fn.code:=by
    unfold aI.fetch at a;cases l:f.fn.code[f.next]? with
    |none=>rw[l] at a;cases a
    |some j=>rw[l] at a;simp at a;exact⟨a.2.symm,by rw[<-a.1];exact bb_ l⟩
   have c:=C3 n p u (f.next+1)
   split at h
   ·cases h;exact c
   split at h
   ·cases h;exact c
   ·exact vO n k _ r c h
def SQ{fs:List aC}{D:Nat}(i:∀f∈fs,iC fs D f)(m:∀f∈fs,f.kids.length<=90000)(b:List Int):∀(t:Nat) (s:bI),dQ (cP fs D) (eT fs D b) t=some s->jW s.m:=by
 have e:∀f∈cP fs D,bD f.code:=fun f d=>by
  simp only[cP,bz_] at d;obtain⟨a,k,rfl⟩:=d;exact B4 (i a k) (m a k)
 intro t;induction t with
 |zero=>
  intro s h;rw[dQ] at h;cases c:cJ (cP fs D) gD (eT fs D b) with
  |none=>rw[c] at h;cases h
  |some r=>
   rw[c] at h;cases h;refine vO e _ _ _ (fun f d=>?_) c
   simp only[eT,aD_] at d;subst d;refine⟨nF.nil,?_⟩;cases o:(cP fs D)[cS fs [109,97,105,110]]? with
   |none=>exact bD.nil
   |some g=>exact e g (bb_ o)
 |succ t n=>
  intro s h;rw[dQ] at h;cases j:dQ (cP fs D) (eT fs D b) t with
  |none=>rw[j] at h;cases h
  |some l=>
   rw[j] at h;simp only at h;split at h
   ·cases c:cJ (cP fs D) gD l.m with
    |none=>rw[c] at h;cases h
    |some r=>rw[c] at h;cases h;exact vO e _ _ _ (n _ j) c
   ·cases h
def pL{ar:Nat->Option Nat}{a:List dY}(d:iK ar a){m0:cF}(f:eS ar m0){t:Nat}{s c:bI}(h:dQ a m0 t=some s)(h':dQ a m0 (t+1)=some c):s.stop=0/\kD s.m c.m:=by
 rw[dQ,h] at h';simp only at h';split at h'
 ·rename_i e;cases b:cJ a gD s.m with
  |none=>rw[b] at h';cases h'
  |some r=>
   rw[b] at h';cases h';exact⟨e,pV d gD s.m r ((tO d f t s h).1.ok e).1 (av_ (bG_ _)) (bG_ _) b⟩
 ·cases h'
def SR{fs:List aC}{D:Nat}(g:∀f∈fs,iC fs D f)(m:fG fs (cS fs [109,97,105,110])=some 0)(a:List Int){s:bI}(h:dQ (cP fs D) (eT fs D a) 0=some s):s.m.out=[]:=by
 obtain⟨f,T,i,_,_,_,_,o⟩:=(iF g).fn _ _ m;have e:eT fs D a=⟨[⟨f,0,0,[],[],[]⟩],a,[]⟩:=by unfold eT;rw[i];rfl
 obtain⟨n,k⟩:∃n,gD=n+3:=⟨gD-3,by have:=xF;omega⟩
 rw[dQ,e,k] at h;generalize cP fs D=b at h;rcases o with ⟨l,j,r,c⟩|⟨v,c⟩
 ·have d:cJ b (n+3) ⟨[⟨f,0,0,[],[],[]⟩],a,[]⟩=some (⟨[⟨f,1,l,j,[],[]⟩],a,[]⟩,0):=by
   rw[cJ];simp[aI.fetch,c,doI,aL,aH.isBegin]
  rw[d] at h;cases h;rfl
 ·have d:cJ b (n+3) ⟨[⟨f,0,0,[],[],[]⟩],a,[]⟩=some (⟨[],a,[]⟩,1):=by
   rw[cJ];simp[aI.fetch,c,doI,aL,aH.isBegin,aI.push];rw[cJ];simp[aI.fetch,c,doI,aH.isBegin];rw[cJ];simp
  rw[d] at h;cases h;rfl
end Go.Proofs.YtblbkfdhjfppkaaGreatDoor.Hs
