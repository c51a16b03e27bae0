/- The shapes of trees that were read: plain facts. -/
import Derived.Test.YtblbkfdhjfppkaaGreatDoorP00
set_option linter.defProp false
set_option maxRecDepth 100000
namespace Go.Proofs.YtblbkfdhjfppkaaGreatDoor.Hs
inductive dC:aC->Prop
 |leaf (a:aC) (h:a.op=[48]\/a.op=[115]\/a.op=[98,111,111,108]\/a.op=[110,97,109,101]) (hk:a.kids=[]) (ht:a.op=[115]->MH a.text):dC a
 |many (a:aC) (h:a.op=[108,105,115,116]\/a.op=[99,97,108,108]) (hk:∀k∈a.kids,dC k):dC a
 |one (a l:aC) (h:a.op=[45,120]\/a.op=[33,120]) (hk:a.kids=[l]) (hl:dC l):dC a
 |two (a l r:aC) (h:a.op=[105,110,100,101,120]\/bZ a.op≠9) (hk:a.kids=[l,r]) (hl:dC l) (hr:dC r):dC a
inductive fZ:aC->Prop
 |var (a t v:aC) (h:a.op=[118,97,114]) (hk:a.kids=[t,v]) (hv:dC v) (ht:t.op=[116,97,114,103,101,116]/\t.kids=[]):fZ a
 |set (a:aC) (h:a.op=[115,101,116]) (hn:a.kids≠[]) (hk:∀k∈a.kids,dC k):fZ a
 |if2 (a c t:aC) (h:a.op=[105,102]) (hk:a.kids=[c,t]) (hc:dC c) (ht:t.op=[98,108,111,99,107]) (htk:∀k∈t.kids,fZ k):fZ a
 |if3 (a c t x:aC) (h:a.op=[105,102]) (hk:a.kids=[c,t,x]) (hc:dC c) (ht:t.op=[98,108,111,99,107]) (htk:∀k∈t.kids,fZ k) (hx:x.op=[98,108,111,99,107]) (hxk:∀k∈x.kids,fZ k):fZ a
 |whl (a c t:aC) (h:a.op=[119,104,105,108,101]) (hk:a.kids=[c,t]) (hc:dC c) (ht:t.op=[98,108,111,99,107]) (htk:∀k∈t.kids,fZ k):fZ a
 |ret0 (a:aC) (h:a.op=[114,101,116,117,114,110]) (hk:a.kids=[]):fZ a
 |ret1 (a v:aC) (h:a.op=[114,101,116,117,114,110]) (hk:a.kids=[v]) (hv:dC v):fZ a
 |print (a v:aC) (h:a.op=[112,114,105,110,116]) (hk:a.kids=[v]) (hv:dC v):fZ a
 |call (a c:aC) (h:a.op=[100,111]) (hk:a.kids=[c]) (hc:dC c) (ho:c.op=[99,97,108,108]):fZ a
structure MN(b:aC):Prop where
 op:b.op=[98,108,111,99,107]
 kids:∀k∈b.kids,fZ k
structure rK(f:aC):Prop where
 kids:∃ps b,f.kids=ps++[b]/\(∀x∈ps,x.op=[112,97,114,97,109])/\MN b/\∀x∈ps,x.kids=[]
def bM{α:Type}(P:α->Prop)(r:bU α):Prop:=∀a q,r=.ok (a,q)->P a
def bM.err{b:Type}{P:b->Prop}{n:Nat}:bM P (.error n):=fun a q h=>by cases h
def bM.bad{c:Type}{P:c->Prop}{b:Nat}{ts:List aX}:bM P (bad ts b):=fun a q h=>by cases h
def bM.of_ok{b:Type}{P:b->Prop}{q:Nat}{a:b}(h:P a):bM P (.ok (a,q)):=fun c d e=>by cases e;exact h
def bM.take{b:Type}{P:b->Prop}{ts:List aX}{x:List UInt8}{r:bU b}(h:bM P r):bM P (aN ts x r):=by
 cases r with
 |error l=>exact bM.err
 |ok c=>
  obtain⟨a,q⟩:=c;have:=h a q rfl;unfold aN;simp only;split
  ·exact bM.of_ok this
  ·exact bM.bad
def bM.map{b c:Type}{P:b->Prop}{Q:c->Prop}{r:bU b}{f:b->c}(h:bM P r)(e:∀a,P a->Q (f a)):bM Q (bX f r):=by
 cases r with
 |error l=>exact bM.err
 |ok d=>obtain⟨a,q⟩:=d;exact bM.of_ok (e a (h a q rfl))
def bM.bind{b c:Type}{P:b->Prop}{Q:c->Prop}{r:bU b}{f:b->Nat->bU c}(h:bM P r)(e:∀a q,P a->bM Q (f a q)):bM Q (bR r f):=by
 cases r with
 |error l=>exact bM.err
 |ok d=>obtain⟨a,q⟩:=d;exact e a q (h a q rfl)
def eN(P:aC->Prop)(l:List aC):Prop:=∀k∈l,P k
def eN.nil{P:aC->Prop}:eN P []:=fun _ h=>by cases h
def eN.snoc{P:aC->Prop}{l:List aC}{a:aC}(h:eN P l)(c:P a):eN P (l++[a]):=fun k b=>by
 rcases aE_.1 b with b|b
 ·exact h k b
 ·rw[aD_.1 b];exact c
section
variable {ts:List aX} {E:Nat->bU aC}
def rJ(ts:List aX):Prop:=∀p,(aP ts p).sort=115->MH (aP ts p).text
def qO(c:∀q,bM dC (E q)):∀(g p:Nat) (acc:List aC),eN dC acc->bM (eN dC) (dH E ts g p acc)
 |0,p,acc,_=>bM.err
 |g+1,p,acc,d=>by
  rw[dH];cases e:E p with
  |error l=>exact bM.err
  |ok f=>
   obtain⟨a,q⟩:=f;have b:=c p a q e;simp only;split
   ·exact qO c g (q+1) _ (d.snoc b)
   ·exact bM.of_ok (d.snoc b)
def qN(a:∀q,bM dC (E q))(p:Nat)(x y:List UInt8):bM (eN dC) (eK E ts p x y):=by
 unfold eK;split
 ·refine bM.take ?_;unfold gX;split
  ·exact bM.of_ok eN.nil
  ·exact qO a _ _ _ eN.nil
 ·exact bM.bad
def FF(c:rJ ts)(b:∀q,bM dC (E q))(p:Nat):bM dC (dT E ts p):=by
 unfold dT;split
 ·rename_i h;simp at h;rcases h with h|h
  ·refine bM.of_ok (.leaf _ (av_ (by show [UInt8.ofNat _]=_;rw[h];rfl)) rfl fun e=>?_)
   have d:[UInt8.ofNat (aP ts p).sort]=[115]:=e;rw[h] at d;exact absurd d (by decide)
  ·exact bM.of_ok (.leaf _ (as_ (av_ (by show [UInt8.ofNat _]=_;rw[h];rfl))) rfl fun _=>c p h)
 split
 ·exact bM.of_ok (.leaf _ (as_ (as_ (av_ rfl))) rfl fun e=>by simp[aR] at e)
 split
 ·exact(b (p+1)).take
 split
 ·exact bM.map (qN b p _ _) fun a h=>.many _ (av_ rfl) h
 split
 ·split
  ·exact bM.map (qN b (p+1) _ _) fun a h=>.many _ (as_ rfl) h
  ·exact bM.of_ok (.leaf _ (as_ (as_ (as_ rfl))) rfl fun e=>by simp[aR] at e)
 ·exact bM.bad
def xT(a:∀q,bM dC (E q)):∀(g:Nat) (n:aC) (p:Nat),dC n->bM dC (cZ E ts g n p)
 |0,n,p,_=>bM.err
 |g+1,n,p,b=>by
  rw[cZ];split
  ·have e:=(a (p+1)).take (ts:=ts) (x:=[93]);cases c:aN ts [93] (E (p+1)) with
   |error l=>exact bM.err
   |ok d=>
    obtain⟨i,q⟩:=d;exact xT a g _ q (.two _ n i (av_ rfl) rfl b (e i q c))
  ·exact bM.of_ok b
def qL(b:rJ ts)(c:∀q,bM dC (E q)):∀(g p:Nat),bM dC (eH E ts g p)
 |0,p=>bM.err
 |g+1,p=>by
  rw[eH];split
  ·exact bM.map (qL b c g (p+1)) fun a h=>.one _ a (av_ rfl) rfl h
  split
  ·exact bM.map (qL b c g (p+1)) fun a h=>.one _ a (as_ rfl) rfl h
  ·exact bM.bind (FF b c p) fun a q d=>xT c _ a q d
def pN{L:Nat->bU aC}{k:Nat}(b:k<9)(f:∀q,bM dC (L q)):∀(g:Nat) (n:aC) (q:Nat),dC n->bM dC (bE L ts k g n q)
 |0,n,q,_=>bM.err
 |g+1,n,q,c=>by
  rw[bE];split
  ·rename_i a;cases i:L (q+1) with
   |error l=>exact bM.err
   |ok h=>
    obtain⟨r,e⟩:=h;have j:=f _ r e i;have d:dC (aR (aP ts q).text (aP ts q).line [] [n,r]):=.two _ n r (as_ (by simp at a;show bZ (aP ts q).text≠9;rw[a.2];omega)) rfl c j
    simp only;split
    ·exact bM.of_ok d
    ·exact pN b f g _ e d
  ·exact bM.of_ok c
def qP(b:rJ ts)(c:∀q,bM dC (E q)):∀(j p:Nat),bM dC (fK E ts j p)
 |0,p=>qL b c _ p
 |j+1,p=>by
  rw[fK];exact bM.bind (qP b c j p) fun a q d=>pN (by omega) (fun q=>qP b c j q) _ a q d
def CF(ts:List aX)(a:rJ ts):∀(f p:Nat),bM dC (fB ts f p)
 |0,p=>bM.err
 |f+1,p=>by
  rw[fB];exact qP a (fun q=>CF ts a f q) 5 p
def sP(a:∀q,bM dC (E q)):∀(g p:Nat) (acc:List aC),eN dC acc->bM (eN dC) (eP E ts g p acc)
 |0,p,acc,_=>bM.err
 |g+1,p,acc,b=>by
  rw[eP];split
  ·have e:=(a (p+1)).take (ts:=ts) (x:=[93]);cases c:aN ts [93] (E (p+1)) with
   |error l=>exact bM.err
   |ok d=>
    obtain⟨i,q⟩:=d;exact sP a g q _ (b.snoc (e i q c))
  ·exact bM.of_ok b
def KK(b:∀q,bM dC (E q))(p:Nat):bM fZ (eO E ts p):=by
 unfold eO;split
 ·split
  ·exact bM.take (bM.map (qN b (p+1) _ _) fun a h=>.call _ _ rfl rfl (.many _ (as_ rfl) h) rfl)
  ·refine bM.bind ((sP b _ (p+1) [] eN.nil).take) fun l q c=>?_
   exact bM.take (bM.map (b q) fun v d=>.set _ rfl (by simp[aR]) (c.snoc d))
 ·exact bM.bad
def TE{B:Nat->bU aC}(a:∀q,bM dC (E q))(h:∀q,bM MN (B q))(p:Nat):bM fZ (iW E B ts p):=by
 unfold iW;split
 ·unfold oM;split
  ·split
   ·exact bM.take (bM.map (a (p+3)) fun v e=>.var _ _ v rfl rfl e ⟨rfl,rfl⟩)
   ·exact bM.bad
  ·exact bM.bad
 split
 ·unfold qU;refine bM.bind (a (p+1)) fun c q f=>bM.bind (h q) fun b k g=>?_
  split
  ·exact bM.map (h (k+1)) fun d j=>.if3 _ c b d rfl rfl f g.op g.kids j.op j.kids
  ·exact bM.of_ok (.if2 _ c b rfl rfl f g.op g.kids)
 split
 ·unfold kE;exact bM.bind (a (p+1)) fun c q f=>bM.map (h q) fun b i=>.whl _ c b rfl rfl f i.op i.kids
 split
 ·unfold gP;split
  ·exact bM.of_ok (.ret0 _ rfl rfl)
  ·exact bM.take (bM.map (a (p+1)) fun v e=>.ret1 _ v rfl rfl e)
 split
 ·unfold iM;exact bM.take (bM.map (a (p+1)) fun v e=>.print _ v rfl rfl e)
 ·exact KK a p
def pO{S:Nat->bU aC}(a:∀q,bM fZ (S q)):∀(g p:Nat) (acc:List aC),eN fZ acc->bM (eN fZ) (dI S ts g p acc)
 |0,p,acc,_=>bM.err
 |g+1,p,acc,b=>by
  rw[dI];split
  ·exact bM.of_ok b
  ·cases c:S p with
   |error l=>exact bM.err
   |ok d=>
    obtain⟨s,q⟩:=d;exact pO a g q _ (b.snoc (a p s q c))
def xU(a:∀q,bM dC (E q)):∀(f p:Nat),bM MN (iQ E ts f p)
 |0,p=>bM.err
 |f+1,p=>by
  rw[iQ];split
  ·exact bM.map (bM.take (pO (fun q=>TE a (fun q=>xU a f q) q) _ (p+1) [] eN.nil)) fun l h=>⟨rfl,h⟩
  ·exact bM.bad
def pM:∀(g p:Nat) (acc:List aC),eN (fun x=>x.op=[112,97,114,97,109]/\x.kids=[]) acc->bM (eN fun x=>x.op=[112,97,114,97,109]/\x.kids=[]) (cR ts g p acc)
 |0,p,acc,_=>bM.err
 |g+1,p,acc,b=>by
  have a:eN (fun x=>x.op=[112,97,114,97,109]/\x.kids=[]) (acc++[aR [112,97,114,97,109] (aP ts p).line (aP ts p).text []]):=b.snoc ⟨rfl,rfl⟩
  rw[cR];split
  ·split
   ·exact pM g (p+2) _ a
   ·exact bM.of_ok a
  ·exact bM.bad
def TF{B:Nat->bU aC}(f:∀q,bM MN (B q))(p:Nat):bM rK (jS B ts p):=by
 unfold jS;split
 ·split
  ·split
   ·have a:bM (eN fun x=>x.op=[112,97,114,97,109]/\x.kids=[]) (gR ts (p+3)):=by
     unfold gR;refine bM.take ?_;split
     ·exact bM.of_ok eN.nil
     ·exact pM _ (p+3) [] eN.nil
    exact bM.bind a fun l q d=>bM.map (f q) fun b e=>⟨l,b,rfl,fun x c=>(d x c).1,e,fun x c=>(d x c).2⟩
   ·exact bM.bad
  ·exact bM.bad
 ·exact bM.bad
def qM{F:Nat->bU aC}(a:∀q,bM rK (F q)):∀(g p:Nat) (acc:List aC),eN rK acc->bM (eN rK) (eQ F ts g p acc)
 |0,p,acc,_=>bM.err
 |g+1,p,acc,b=>by
  rw[eQ];split
  ·exact bM.of_ok b
  ·cases c:F p with
   |error l=>exact bM.err
   |ok d=>
    obtain⟨s,q⟩:=d;exact qM a g q _ (b.snoc (a p s q c))
end
def cQ.split{a b:List UInt8}{c:UInt8}(B:c.toNat<128)(h:cQ (a++c::b)):cQ a/\cQ b:=by
 generalize u:a++c::b=l at h;induction h generalizing a with
 |nil=>simp at u
 |cons o v C=>
  subst u;cases a with
  |nil=>
   have e:bF ([]++c::b)=1:=by simp[bF,B]
   rw[e] at v;exact⟨.nil,by simpa using v⟩
  |cons x a=>
   have p:bF (x::a++c::b)<=(x::a).length:=by
    refine Nat.le_of_not_lt fun d=>?_
    have G:∀i g j,128<=g->i=a.length+1->dE (x::a++c::b) i g j=false:=fun i g j s q=>by
     subst q;have:(x::a++c::b)[a.length+1]?=some c:=by simp
     unfold dE;rw[this];simp;omega
    have f:∀i g j,128<=g->dE (x::a++c::b) i g j=true->i≠a.length+1:=fun i g j s w e=>by rw[G i g j s e] at w;cases w
    unfold bF at o d;rw[aB_] at d;simp only[aY_,List.getElem?_cons_zero] at o d f;have k:∀n m:Nat,128<=m->128<=(if x.toNat=n then m else 128):=fun n m h=>by split<;>omega
    by_cases r:x.toNat<128
    ·rw[if_pos r] at d;omega
    rw[if_neg r] at d;by_cases y:194<=x.toNat/\x.toNat<=223
    ·rw[if_pos y] at d;by_cases h:dE (x::(a++c::b)) 1 128 191=true
     ·rw[if_pos h] at d;have:=f _ _ _ (by omega) h;omega
     ·rw[if_neg h] at d;omega
    rw[if_neg y] at d;by_cases z:224<=x.toNat/\x.toNat<=239
    ·rw[if_pos z] at d;by_cases h:(dE (x::(a++c::b)) 1 (if x.toNat=224 then 160 else 128) (if x.toNat=237 then 159 else 191) && dE (x::(a++c::b)) 2 128 191)=true
     ·rw[if_pos h] at d;rw[aX_] at h;have E:=f _ _ _ (k _ _ (by omega)) h.1
      have D:=f _ _ _ (by omega) h.2
      omega
     ·rw[if_neg h] at d;omega
    rw[if_neg z] at d;by_cases t:240<=x.toNat/\x.toNat<=244
    ·rw[if_pos t] at d;by_cases h:(dE (x::(a++c::b)) 1 (if x.toNat=240 then 144 else 128) (if x.toNat=244 then 143 else 191) && dE (x::(a++c::b)) 2 128 191 && dE (x::(a++c::b)) 3 128 191)=true
     ·rw[if_pos h] at d;rw[aX_,aX_] at h;have E:=f _ _ _ (k _ _ (by omega)) h.1.1
      have D:=f _ _ _ (by omega) h.1.2
      have I:=f _ _ _ (by omega) h.2
      omega
     ·rw[if_neg h] at d;omega
    ·rw[if_neg t] at d;omega
   have F:(x::a++c::b).drop (bF (x::a++c::b))=(x::a).drop (bF (x::a++c::b))++c::b:=by rw[List.drop_append_of_le_length p]
   obtain⟨A,H⟩:=C F.symm;refine⟨?_,H⟩;have e:bF (x::a)=bF (x::a++c::b):=nC o fun i j=>(a3_ (by omega)).symm
   exact .cons (by rw[e];exact o) (by rw[e];exact A)
def pF:∀(f:Nat) (l:List UInt8) (p:Nat),l.length<=f->dN f l p=none->cQ l
 |0,l,_,h,_=>by
  obtain rfl:l=[]:=aN_ (by omega)
  exact .nil
 |f+1,l,p,h,a=>by
  rw[dN] at a;split at a
  ·rename_i c;obtain rfl:l=[]:=aN_ c;exact .nil
  split at a
  ·cases a
  rename_i b;exact .cons b (pF f _ _ (by rw[bf_];omega) a)
def MU(f:Nat):∀(b l:List UInt8) (ts:List aX),eI f b l=.ok ts->cQ (b++l)->∀t∈ts,t.sort=115->MH t.text:=by
 induction f with
 |zero=>intro b l ts h;cases h
 |succ f u=>
  intro b l ts h p t g a;by_cases e:l.length=0
  ·rw[mB _ _ _ e] at h;cases h;rw[aD_.1 g] at a;cases a
  ·cases d:(bY l).ok
   ·rw[mC _ _ _ e d] at h;cases h
   ·rw[lP _ _ _ e d _ rfl] at h;generalize x:(bY l).size+blankL l.length (l.drop (bY l).size)=m at h;cases i:eI f (b++l.take m) (l.drop m) with
    |error n=>rw[i] at h;cases h
    |ok v=>
     rw[i] at h;cases h;rcases aG_.1 g with rfl|g
     ·cases l with
      |nil=>simp at e
      |cons c r=>
       rw[bY] at a d ⊢
       by_cases q:(eA c || fA c)=true
       ·rw[if_pos q] at a;exfalso;unfold gH at a;split at a
        ·simp only at a;split at a<;>omega
        ·simp at a
       rw[if_neg q] at a d ⊢
       by_cases k:c.toNat=34
       ·rw[if_pos k] at d ⊢
        simp only[nJ,aX_,decide_eq_true_eq] at d;refine⟨by simp only[nJ,bc_];omega,?_⟩
        have s:r=r.take (bL eZ r)++34::r.drop (bL eZ r+1):=by
         obtain⟨j,w⟩:=aZ_.1 d.1;conv=>lhs;rw[<-a5_ (bL eZ r) r,bL_ j,w]
        have o:=(p.split (by omega)).2
        rw[s] at o;exact(o.split (by decide)).1
       ·rw[if_neg k] at a;exfalso;unfold gG at a;split at a<;>simp at a
     ·exact u _ _ v i (by rw[bd_,a5_];exact p) t g a
def EI{l:List UInt8}{ts:List aX}(h:gE l=.ok ts)(c:dN l.length l 0=none):rJ ts:=fun p a=>by
 unfold aP at a ⊢
 cases b:ts[p]? with
 |none=>rw[b] at a;cases a
 |some t=>
  rw[b] at a;exact MU _ _ _ _ h (by rw[a5_];exact pF _ _ _ (au_ _) c) t (bb_ b) a
def uX{l:List UInt8}{ks:List aC}(h:cW l=.ok ks):∀f∈ks,rK f:=by
 unfold cW at h;split at h
 ·cases h
 split at h
 ·cases h
 rename_i a;split at h
 ·cases h
 rename_i b d;split at h
 ·cases h
 rename_i q c;cases h;exact qM (fun q=>TF (fun e=>xU (fun q=>CF b (EI d a) _ q) _ e) q) _ _ _ eN.nil _ _ c
def oV(s:aZ)(l k:Nat)(h:s.kind≠0):(s.found l k).kind≠0:=by unfold aZ.found;rw[if_neg h];exact h
def pP(s:aZ)(n:aC)(h:s.kind≠0):(declaresL s n).kind≠0:=by
 unfold declaresL;split
 ·exact oV _ _ _ h
 ·exact h
def OW(fs:List aC)(a:Bool)(s:aZ)(n:aC)(h:s.kind≠0):(cD fs a s n).kind≠0:=by
 unfold cD eB;repeat' split
 all_goals first|exact oV _ _ _ h|exact h
def gN{f:aZ->aC->aZ}(a:∀s k,s.kind≠0->(f s k).kind≠0):∀(l:List aC) (s:aZ),s.kind≠0->(l.foldl f s).kind≠0
 |[],_,h=>h
 |k::l,s,h=>gN a l _ (a s k h)
def fE(fs:List aC)(a:Bool):∀(d:Nat) (n:aC) (s:aZ),s.kind≠0->(aO fs a d n s).kind≠0
 |0,_,_,h=>h
 |d+1,n,s,h=>by
  rw[aO];split
  ·split
   ·exact fE fs a d _ _ (pP s _ h)
   ·exact h
  ·have b:(n.kids.foldl (fun s k=>aO fs a d k s) (cD fs a s n)).kind≠0:=gN (fun s k c=>fE fs a d k s c) _ _ (OW fs a s n h)
   simp only;split<;>exact b
def ExOk.up{fs:List aC}{b:Bool}{seen:List (List UInt8)}:∀{d e:Nat} {a:aC},ExOk fs b seen d a->d<=e->ExOk fs b seen e a
 |0,_,_,h,_=>h.elim
 |d+1,0,_,_,h=>by omega
 |d+1,e+1,a,h,n=>by
  have g:∀k,ExOk fs b seen d k->ExOk fs b seen e k:=fun k c=>ExOk.up c (by omega)
  rcases h with h|h|⟨f,c⟩|⟨f,l,r,c,i,j⟩|⟨f,l,c,i⟩|⟨f,c,m⟩|⟨f,l,r,c,i,j⟩
  ·exact av_ h
  ·exact as_ (av_ h)
  ·exact as_ (as_ (av_ ⟨f,fun k h=>g k (c k h)⟩))
  ·exact as_ (as_ (as_ (av_ ⟨f,l,r,c,g l i,g r j⟩)))
  ·exact as_ (as_ (as_ (as_ (av_ ⟨f,l,c,g l i⟩))))
  ·exact as_ (as_ (as_ (as_ (as_ (av_ ⟨f,fun k h=>g k (c k h),m⟩)))))
  ·exact as_ (as_ (as_ (as_ (as_ (as_ ⟨f,l,r,c,g l i,g r j⟩)))))
def StsOk.up{S b:List (List UInt8)->aC->Prop}(h:∀s a,S s a->b s a):∀{l:List aC} {seen:List (List UInt8)},StsOk S seen l->StsOk b seen l
 |[],_,_=>trivial
 |_::_,_,c=>⟨h _ _ c.1,StsOk.up h c.2⟩
def dD.up{fs:List aC}:∀{d e:Nat} {seen:List (List UInt8)} {a:aC},dD fs d seen a->d<=e->dD fs e seen a
 |0,_,_,_,h,_=>h.elim
 |d+1,0,_,_,_,h=>by omega
 |d+1,e+1,seen,a,h,w=>by
  have i:∀k,ExOk fs false seen d k->ExOk fs false seen e k:=fun k f=>f.up (by omega)
  have m:∀l,StsOk (dD fs d) seen l->StsOk (dD fs e) seen l:=fun l r=>r.up fun s a h=>dD.up h (by omega)
  rcases h with ⟨g,n,t,v,f,j,q⟩|⟨g,q,o,f⟩|⟨g,c,t,f,p,y⟩|⟨g,c,b,f,p,n⟩|⟨g,f|⟨v,f,j⟩⟩|⟨g,v,f,j⟩|⟨g,v,f,j⟩
  ·exact av_ ⟨g,n,t,v,f,i v j,q⟩
  ·exact as_ (av_ ⟨g,q,o,fun k h=>i k (f k h)⟩)
  ·exact as_ (as_ (av_ ⟨g,c,t,f.imp id fun ⟨x,z,u⟩=>⟨x,z,m _ u⟩,i c p,m _ y⟩))
  ·exact as_ (as_ (as_ (av_ ⟨g,c,b,f,i c p,m _ n⟩)))
  ·exact as_ (as_ (as_ (as_ (av_ ⟨g,av_ f⟩))))
  ·exact as_ (as_ (as_ (as_ (av_ ⟨g,as_ ⟨v,f,i v j⟩⟩))))
  ·exact as_ (as_ (as_ (as_ (as_ (av_ ⟨g,v,f,i v j⟩)))))
  ·exact as_ (as_ (as_ (as_ (as_ (as_ ⟨g,v,f,i v j⟩)))))
def gV{s:aZ}{l k:Nat}(a:k≠0)(h:(s.found l k).kind=0):False:=by
 unfold aZ.found at h;split at h
 ·exact a h
 ·rename_i b;exact b h
def tV{f:aC}{a:List UInt8}:∀{fs:List aC},dL fs a=some f->fs[cS fs a]?=some f
 |[],h=>by simp[dL] at h
 |x::l,h=>by
  unfold dL cS at*;rw[List.find?_cons] at h;rw[List.findIdx_cons];cases b:(x.text==a) with
  |true=>rw[b] at h;simp at h;simp[h]
  |false=>
   rw[b] at h;simp only[cond_false,List.getElem?_cons_succ];exact tV (fs:=l) h
def mO(fs:List aC)(alone:Bool)(d:Nat)(a:aC):Prop:=
 ∀sn,(aO fs alone d a ⟨sn,0,0⟩).kind=0->aO fs alone d a ⟨sn,0,0⟩=⟨sn,0,0⟩/\ExOk fs alone sn.reverse d a
def jK{fs:List aC}{b:Bool}{d:Nat}:∀(l:List aC) (c:List (List UInt8)),(∀k∈l,mO fs b d k)->(l.foldl (fun s k=>aO fs b d k s) ⟨c,0,0⟩).kind=0->
 l.foldl (fun s k=>aO fs b d k s) ⟨c,0,0⟩=⟨c,0,0⟩/\∀k∈l,ExOk fs b c.reverse d k
 |[],c,_,_=>⟨rfl,fun k e=>by cases e⟩
 |a::l,c,h,f=>by
  rw[bD_] at f ⊢
  have i:(aO fs b d a ⟨c,0,0⟩).kind=0:=a1_ fun g=>gN (fun s k n=>fE fs b d k s n) l _ g f
  obtain⟨o,j⟩:=h a (aS_ ..) c i;rw[o] at f ⊢
  obtain⟨m,p⟩:=jK l c (fun k e=>h k (aJ_ _ e)) f
  refine⟨m,fun k e=>?_⟩
  rcases aG_.1 e with rfl|e
  ·exact j
  ·exact p k e
def fI{fs:List aC}{a:Bool}{d:Nat}{n:aC}{s:aZ}(b:n.op≠[118,97,114])(c:n.op≠[98,108,111,99,107]):aO fs a (d+1) n s=n.kids.foldl (fun s k=>aO fs a d k s) (cD fs a s n):=by
 rw[aO];rw[if_neg (by simpa using b)]
 simp only;rw[if_neg (by simpa using c)]
def look_plain{fs:List aC}{a:Bool}{n:aC}{s:aZ}(b:n.op≠[115,101,116])(c:n.op≠[110,97,109,101])(d:n.op≠[99,97,108,108]):cD fs a s n=s:=by
 unfold cD;rw[if_neg (by simp[b,c]),if_neg (by simpa using d)]
def oJ{fs:List aC}{b:Bool}(p:∀f∈fs,f.kids≠[])(q:b=true->fs=[]):∀(d:Nat) (a:aC),dC a->eY d a->mO fs b d a
 |0,_,_,h=>h.elim
 |d+1,a,L,I=>by
  intro x n
  have A:∀(l r:aC),a.kids=[l,r]->dC l->dC r->∀k∈a.kids,mO fs b d k:=fun l r i F D k c=>by
   have v:=I k c;rw[i] at c;rcases aG_.1 c with rfl|c
   ·exact oJ p q d _ F v
   ·obtain rfl:=aD_.1 c;exact oJ p q d _ D v
  have E:a.op≠[118,97,114]/\a.op≠[98,108,111,99,107]:=by
   cases L with
   |leaf _ h=>rcases h with h|h|h|h<;>rw[h]<;>decide
   |many _ h=>rcases h with h|h<;>rw[h]<;>decide
   |one _ l h=>rcases h with h|h<;>rw[h]<;>decide
   |A _ l r h=>
    rcases h with h|h
    ·rw[h];decide
    ·exact⟨fun e=>by rw[e] at h;exact h (by decide),fun e=>by rw[e] at h;exact h (by decide)⟩
  rw[fI E.1 E.2] at n ⊢
  have j:(cD fs b ⟨x,0,0⟩ a).kind=0:=a1_ fun B=>gN (fun s k O=>fE fs b d k s O) a.kids _ B n
  cases L with
  |leaf _ h i=>
   rw[i] at n ⊢
   simp only[b2_] at n ⊢
   rcases h with h|h|h|h
   ·exact⟨look_plain (by rw[h];decide) (by rw[h];decide) (by rw[h];decide),av_ ⟨av_ h,i⟩⟩
   ·exact⟨look_plain (by rw[h];decide) (by rw[h];decide) (by rw[h];decide),av_ ⟨as_ (av_ h),i⟩⟩
   ·exact⟨look_plain (by rw[h];decide) (by rw[h];decide) (by rw[h];decide),av_ ⟨as_ (as_ h),i⟩⟩
   ·unfold cD at j ⊢
    rw[if_pos (by simp[h])] at j ⊢
    split at j
    ·rename_i K;rw[if_pos K];exact⟨rfl,as_ (av_ ⟨h,i,by simpa using K⟩)⟩
    ·exact(gV (by decide) j).elim
  |many _ h i=>
   have H:∀k∈a.kids,mO fs b d k:=fun k c=>oJ p q d k (i k c) (I k c)
   rcases h with h|h
   ·rw[look_plain (by rw[h];decide) (by rw[h];decide) (by rw[h];decide)] at n ⊢
    obtain⟨C,u⟩:=jK a.kids x H n;exact⟨C,as_ (as_ (av_ ⟨h,u⟩))⟩
   ·have e:cD fs b ⟨x,0,0⟩ a=eB fs b ⟨x,0,0⟩ a:=by unfold cD;rw[if_neg (by simp[h]),if_pos (by simp[h])]
    rw[e] at n j ⊢
    unfold eB at n j ⊢
    split at j
    ·exact(gV (by decide) j).elim
    rename_i y;rw[if_neg y] at n ⊢
    split at j
    ·exact(gV (by decide) j).elim
    rename_i m;rw[if_neg m] at n ⊢
    obtain⟨C,u⟩:=jK a.kids x H n;refine⟨C,as_ (as_ (as_ (as_ (as_ (av_ ⟨h,u,?_⟩)))))⟩;simp only[ne_eq,Decidable.not_not] at m;unfold lS at y m;by_cases o:a.text=[108,101,110]
    ·rw[if_pos (by simp[o])] at m
     exact av_ ⟨o,by omega⟩
    rw[if_neg (by simp[o])] at y m
    by_cases g:a.text=[114,101,97,100]/\b=false
    ·rw[if_pos (by simp[g])] at m
     exact as_ (av_ ⟨g.1,g.2,by omega⟩)
    have w:¬((a.text==[114,101,97,100] && !b)=true):=by
     intro M;simp at M;exact g M
    rw[if_neg w] at y m;cases G:dL fs a.text with
    |none=>rw[G] at y;simp at y
    |some f=>
     rw[G] at y m;simp only at y m;have t:f∈fs:=bn_ G;have B:=p f t;have J:0<f.kids.length:=bl_.2 B
     have z:b=false:=by
      cases b with
      |false=>rfl
      |true=>rw[q rfl] at t;cases t
     refine as_ (as_ ⟨o,fun D=>g ⟨D,z⟩,z,?_⟩)
     unfold fG;rw[tV G];simp;omega
  |one _ l h i F=>
   have H:∀k∈a.kids,mO fs b d k:=fun k c=>by
    have v:=I k c;rw[i] at c;obtain rfl:=aD_.1 c;exact oJ p q d _ F v
   rw[look_plain (by rcases h with h|h<;>rw[h]<;>decide) (by rcases h with h|h<;>rw[h]<;>decide) (by rcases h with h|h<;>rw[h]<;>decide)] at n ⊢
   obtain⟨C,u⟩:=jK a.kids x H n;exact⟨C,as_ (as_ (as_ (as_ (av_ ⟨h,l,i,u l (by rw[i];simp)⟩))))⟩
  |A _ l r h i F D=>
   have N:cD fs b ⟨x,0,0⟩ a=⟨x,0,0⟩:=by
    rcases h with h|h
    ·exact look_plain (by rw[h];decide) (by rw[h];decide) (by rw[h];decide)
    ·exact look_plain (fun e=>by rw[e] at h;exact h (by decide)) (fun e=>by rw[e] at h;exact h (by decide)) (fun e=>by rw[e] at h;exact h (by decide))
   rw[N] at n ⊢
   obtain⟨C,u⟩:=jK a.kids x (A l r i F D) n;refine⟨C,?_⟩;rcases h with h|h
   ·exact as_ (as_ (as_ (av_ ⟨h,l,r,i,u l (by rw[i];simp),u r (by rw[i];simp)⟩)))
   ·exact as_ (as_ (as_ (as_ (as_ (as_ ⟨h,l,r,i,u l (by rw[i];simp),u r (by rw[i];simp)⟩)))))
def sD(fs:List aC)(d:Nat)(a:aC):Prop:=
 ∀sn,sn.length+bW d a<=90000->(aO fs false d a ⟨sn,0,0⟩).kind=0->∃sn',aO fs false d a ⟨sn,0,0⟩=⟨sn',0,0⟩/\sn'.reverse=cO sn.reverse a/\dD fs d sn.reverse a/\sn'.length<=sn.length+bW d a/\sn=sn'.take sn.length
def xP{fs:List aC}{d:Nat}:∀(l:List aC) (b:List (List UInt8)),(∀k∈l,sD fs d k)->b.length+(l.map (bW d)).sum<=90000->(l.foldl (fun s k=>aO fs false d k s) ⟨b,0,0⟩).kind=0->
 ∃c,l.foldl (fun s k=>aO fs false d k s) ⟨b,0,0⟩=⟨c,0,0⟩/\StsOk (dD fs d) b.reverse l/\c.length<=b.length+(l.map (bW d)).sum/\b=c.take b.length
 |[],b,_,_,_=>⟨b,rfl,trivial,by simp,by simp⟩
 |a::l,b,h,r,f=>by
  rw[bD_] at f ⊢
  simp only[aM_,aO_] at r ⊢
  have n:(aO fs false d a ⟨b,0,0⟩).kind=0:=a1_ fun g=>gN (fun s k x=>fE fs false d k s x) l _ g f
  obtain⟨i,y,t,w,A,j⟩:=h a (aS_ ..) b (by omega) n
  rw[y] at f ⊢
  obtain⟨m,q,p,z,o⟩:=xP l i (fun k u=>h k (aJ_ _ u)) (by omega) f
  refine⟨m,q,⟨w,by rw[<-t];exact p⟩,by omega,?_⟩
  have v:b.length<=i.length:=by have:=congrArg List.length j;simp only[bc_] at this;omega
  have e:i.take b.length=m.take b.length:=by
   conv=>lhs;rw[o]
   rw[bO_];congr 1;omega
  rw[<-e];exact j
def EG{fs:List aC}{d:Nat}{b:aC}{a e:List (List UInt8)}(c:b.op=[98,108,111,99,107])(h:b.kids.foldl (fun s k=>aO fs false d k s) ⟨a,0,0⟩=⟨e,0,0⟩)(f:a=e.take a.length):aO fs false (d+1) b ⟨a,0,0⟩=⟨a,0,0⟩:=by
 rw[aO,if_neg (by simp[c])]
 have:cD fs false ⟨a,0,0⟩ b=⟨a,0,0⟩:=look_plain (by rw[c];decide) (by rw[c];decide) (by rw[c];decide)
 simp only[this,h];rw[if_pos (by simp[c])]
 congr 1
 exact f.symm
def tE{fs:List aC}{d:Nat}{b:aC}{c:List (List UInt8)}(a:b.op=[98,108,111,99,107])(h:(aO fs false (d+1) b ⟨c,0,0⟩).kind=0):(b.kids.foldl (fun s k=>aO fs false d k s) ⟨c,0,0⟩).kind=0:=by
 rw[aO,if_neg (by simp[a])] at h
 have:cD fs false ⟨c,0,0⟩ b=⟨c,0,0⟩:=look_plain (by rw[a];decide) (by rw[a];decide) (by rw[a];decide)
 simp only[this] at h;rw[if_pos (by simp[a])] at h
 exact h
def jU{fs:List aC}{d:Nat}{b:aC}{a:List (List UInt8)}(c:b.op=[98,108,111,99,107])(j:∀k∈b.kids,sD fs d k)(e:a.length+bW (d+1) b<=90000)(h:(aO fs false (d+1) b ⟨a,0,0⟩).kind=0):
 aO fs false (d+1) b ⟨a,0,0⟩=⟨a,0,0⟩/\StsOk (dD fs d) a.reverse b.kids:=by
 rw[bW] at e;obtain⟨l,f,g,m,i⟩:=xP b.kids a j (by omega) (tE c h)
 exact⟨EG c f i,g⟩
def MR{fs:List aC}{d:Nat}{a x y:aC}{s:aZ}(f:a.kids=[x,y])(c:a.op≠[118,97,114])(e:a.op≠[98,108,111,99,107])(b:cD fs false s a=s):aO fs false (d+1) a s=aO fs false d y (aO fs false d x s):=by
 rw[fI c e,b,f];rfl
def G0{fs:List aC}{d:Nat}{a x y z:aC}{s:aZ}(f:a.kids=[x,y,z])(c:a.op≠[118,97,114])(e:a.op≠[98,108,111,99,107])(b:cD fs false s a=s):aO fs false (d+1) a s=aO fs false d z (aO fs false d y (aO fs false d x s)):=by
 rw[fI c e,b,f];rfl
def GP{d:Nat}{a k:aC}(h:k∈a.kids):bW d k+1<=bW (d+1) a:=by
 rw[bW]
 have:∀l:List aC,k∈l->bW d k<=(l.map (bW d)).sum:=by
  intro l;induction l with
  |nil=>intro h;cases h
  |cons x l b=>
   intro h;simp only[aM_,aO_];rcases aG_.1 h with rfl|h
   ·omega
   ·have:=b h;omega
 have:=this _ h;omega
def GV{fs:List aC}(F:∀f∈fs,f.kids≠[]):∀(d:Nat) (a:aC),fZ a->eY d a->sD fs d a
 |0,_,_,h=>h.elim
 |1,a,S,L=>by
  have p:∀k∈a.kids,False:=fun k b=>L k b
  intro g W j;cases S with
  |var _ t v h b B=>exact(p t (by rw[b];simp)).elim
  |set _ h O b=>cases G:a.kids with|nil=>exact(O G).elim|cons x l=>exact(p x (by rw[G];simp)).elim
  |if2 _ c t h b=>exact(p c (by rw[b];simp)).elim
  |if3 _ c t x h b=>exact(p c (by rw[b];simp)).elim
  |whl _ c t h b=>exact(p c (by rw[b];simp)).elim
  |ret1 _ v h b=>exact(p v (by rw[b];simp)).elim
  |print _ v h b=>exact(p v (by rw[b];simp)).elim
  |call _ c h b=>exact(p c (by rw[b];simp)).elim
  |ret0 _ h b=>
   have n:cD fs false ⟨g,0,0⟩ a=⟨g,0,0⟩:=look_plain (by rw[h];decide) (by rw[h];decide) (by rw[h];decide)
   refine⟨g,by rw[fI (by rw[h];decide) (by rw[h];decide),n,b];rfl,by unfold cO;rw[if_neg (by rw[h];decide)],?_,by omega,by simp⟩
   exact as_ (as_ (as_ (as_ (av_ ⟨h,av_ b⟩))))
 |d+2,a,S,L=>by
  intro g W j;have o:∀k,k∈a.kids->dC k->mO fs false (d+1) k:=fun k b Y=>oJ F (fun h=>by cases h) (d+1) k Y (L k b)
  have w:∀k,k∈a.kids->(∀x∈k.kids,fZ x)->∀x∈k.kids,sD fs d x:=fun k b U x M=>GV F d x (U x M) (L k b x M)
  have z:∀k,k∈a.kids->g.length+bW (d+1) k<=90000:=fun k b=>by have:bW (d+1) k+1<=bW (d+2) a:=GP (d:=d+1) b;omega
  have i:a.op≠[118,97,114]->g.reverse=cO g.reverse a:=fun h=>by unfold cO;rw[if_neg h]
  cases S with
  |var _ t v h b B=>
   have e:aO fs false (d+2) a ⟨g,0,0⟩={ aO fs false (d+1) v (declaresL ⟨g,0,0⟩ t) with seen:=(aO fs false (d+1) v (declaresL ⟨g,0,0⟩ t)).seen++[t.text] }:=by
    rw[aO,if_pos (by simp[h]),b]
   rw[e] at j ⊢
   have D:(declaresL ⟨g,0,0⟩ t).kind=0:=a1_ fun m=>fE fs false (d+1) v _ m j
   obtain⟨Q,N⟩:declaresL ⟨g,0,0⟩ t=⟨g,0,0⟩/\t.text∉g:=by
    unfold declaresL at D ⊢
    split at D
    ·exact(gV (by decide) D).elim
    ·rename_i T;rw[if_neg T];simp at T;exact⟨rfl,T.2⟩
   rw[Q] at j ⊢
   obtain⟨r,q⟩:=o v (by rw[b];simp) B g j
   rw[r];have Z:bW (d+1) v+1<=bW (d+2) a:=GP (d:=d+1) (a:=a) (k:=v) (by rw[b];simp)
   refine⟨g++[t.text],rfl,?_,av_ ⟨h,by simp;omega,t,v,b,q,by simpa using N⟩,by simp;omega,by simp⟩
   unfold cO;rw[if_pos h,b];simp
  |set _ h O b=>
   rw[fI (by rw[h];decide) (by rw[h];decide)] at j ⊢
   have y:(cD fs false ⟨g,0,0⟩ a).kind=0:=a1_ fun m=>gN (fun s k U=>fE fs false (d+1) k s U) a.kids _ m j
   have n:cD fs false ⟨g,0,0⟩ a=⟨g,0,0⟩/\a.text∈g:=by
    unfold cD at y ⊢
    rw[if_pos (by simp[h])] at y ⊢
    split at y
    ·rename_i A;rw[if_pos A];exact⟨rfl,by simpa using A⟩
    ·exact(gV (by decide) y).elim
   rw[n.1] at j ⊢
   obtain⟨r,q⟩:=jK a.kids g (fun k J=>o k J (b k J)) j
   exact⟨g,r,i (by rw[h];decide),as_ (av_ ⟨h,by simpa using n.2,O,q⟩),by omega,by simp⟩
  |if2 _ c t h b A I u=>
   have n:cD fs false ⟨g,0,0⟩ a=⟨g,0,0⟩:=look_plain (by rw[h];decide) (by rw[h];decide) (by rw[h];decide)
   rw[MR b (by rw[h];decide) (by rw[h];decide) n] at j ⊢
   have E:(aO fs false (d+1) c ⟨g,0,0⟩).kind=0:=a1_ fun m=>fE fs false (d+1) t _ m j
   obtain⟨r,q⟩:=o c (by rw[b];simp) A g E
   rw[r] at j ⊢
   obtain⟨H,K⟩:=jU I (w t (by rw[b];simp) u) (z t (by rw[b];simp)) j
   exact⟨g,H,i (by rw[h];decide),as_ (as_ (av_ ⟨h,c,t,av_ b,q,K.up fun s a h=>h.up (by omega)⟩)),by omega,by simp⟩
  |if3 _ c t x h b A I u M P=>
   have n:cD fs false ⟨g,0,0⟩ a=⟨g,0,0⟩:=look_plain (by rw[h];decide) (by rw[h];decide) (by rw[h];decide)
   rw[G0 b (by rw[h];decide) (by rw[h];decide) n] at j ⊢
   have C:(aO fs false (d+1) t (aO fs false (d+1) c ⟨g,0,0⟩)).kind=0:=a1_ fun m=>fE fs false (d+1) x _ m j
   have E:(aO fs false (d+1) c ⟨g,0,0⟩).kind=0:=a1_ fun m=>fE fs false (d+1) t _ m C
   obtain⟨r,q⟩:=o c (by rw[b];simp) A g E
   rw[r] at j C ⊢
   obtain⟨H,K⟩:=jU I (w t (by rw[b];simp) u) (z t (by rw[b];simp)) C
   rw[H] at j ⊢
   obtain⟨V,X⟩:=jU M (w x (by rw[b];simp) P) (z x (by rw[b];simp)) j
   exact⟨g,V,i (by rw[h];decide),as_ (as_ (av_ ⟨h,c,t,as_ ⟨x,b,X.up fun s a h=>h.up (by omega)⟩,q,K.up fun s a h=>h.up (by omega)⟩)),by omega,by simp⟩
  |whl _ c t h b A I u=>
   have n:cD fs false ⟨g,0,0⟩ a=⟨g,0,0⟩:=look_plain (by rw[h];decide) (by rw[h];decide) (by rw[h];decide)
   rw[MR b (by rw[h];decide) (by rw[h];decide) n] at j ⊢
   have E:(aO fs false (d+1) c ⟨g,0,0⟩).kind=0:=a1_ fun m=>fE fs false (d+1) t _ m j
   obtain⟨r,q⟩:=o c (by rw[b];simp) A g E
   rw[r] at j ⊢
   obtain⟨H,K⟩:=jU I (w t (by rw[b];simp) u) (z t (by rw[b];simp)) j
   exact⟨g,H,i (by rw[h];decide),as_ (as_ (as_ (av_ ⟨h,c,t,b,q,K.up fun s a h=>h.up (by omega)⟩))),by omega,by simp⟩
  |ret0 _ h b=>
   have n:cD fs false ⟨g,0,0⟩ a=⟨g,0,0⟩:=look_plain (by rw[h];decide) (by rw[h];decide) (by rw[h];decide)
   refine⟨g,by rw[fI (by rw[h];decide) (by rw[h];decide),n,b];rfl,i (by rw[h];decide),?_,by omega,by simp⟩
   exact as_ (as_ (as_ (as_ (av_ ⟨h,av_ b⟩))))
  |ret1 _ v h b B=>
   have n:cD fs false ⟨g,0,0⟩ a=⟨g,0,0⟩:=look_plain (by rw[h];decide) (by rw[h];decide) (by rw[h];decide)
   rw[fI (by rw[h];decide) (by rw[h];decide),n,b] at j ⊢
   simp only[bD_,b2_] at j ⊢
   obtain⟨r,q⟩:=o v (by rw[b];simp) B g j
   exact⟨g,r,i (by rw[h];decide),as_ (as_ (as_ (as_ (av_ ⟨h,as_ ⟨v,b,q⟩⟩)))),by omega,by simp⟩
  |print _ v h b B=>
   have n:cD fs false ⟨g,0,0⟩ a=⟨g,0,0⟩:=look_plain (by rw[h];decide) (by rw[h];decide) (by rw[h];decide)
   rw[fI (by rw[h];decide) (by rw[h];decide),n,b] at j ⊢
   simp only[bD_,b2_] at j ⊢
   obtain⟨r,q⟩:=o v (by rw[b];simp) B g j
   exact⟨g,r,i (by rw[h];decide),as_ (as_ (as_ (as_ (as_ (av_ ⟨h,v,b,q⟩))))),by omega,by simp⟩
  |call _ v h b B=>
   have n:cD fs false ⟨g,0,0⟩ a=⟨g,0,0⟩:=look_plain (by rw[h];decide) (by rw[h];decide) (by rw[h];decide)
   rw[fI (by rw[h];decide) (by rw[h];decide),n,b] at j ⊢
   simp only[bD_,b2_] at j ⊢
   obtain⟨r,q⟩:=o v (by rw[b];simp) B g j
   exact⟨g,r,i (by rw[h];decide),as_ (as_ (as_ (as_ (as_ (as_ ⟨h,v,b,q⟩))))),by omega,by simp⟩
def fQ:aC->Nat
 |⟨_,_,_,kids⟩=>1+(kids.attach.map fun ⟨k,_⟩=>fQ k).sum
def kL(a:aC):fQ a=1+(a.kids.map fQ).sum:=by
 obtain⟨e,b,c,d⟩:=a;rw[fQ];congr 2
 simp
def xZ:∀(d:Nat) (a:aC),eY d a->fQ a<=bW d a
 |0,_,h=>h.elim
 |d+1,a,h=>by
  rw[kL,bW]
  have:∀l:List aC,(∀k∈l,fQ k<=bW d k)->(l.map fQ).sum<=(l.map (bW d)).sum:=by
   intro l;induction l with
   |nil=>intro _;simp
   |cons x l c=>
    intro h;simp only[aM_,aO_];have e:=h x (aS_ ..);have f:=c fun k b=>h k (aJ_ _ b)
    omega
  have:=this a.kids fun k b=>xZ d k (h k b)
  omega
def qI{c:aC->Nat->List aH}{m:Nat}(h:∀a p,(c a p).length<=m*fQ a):∀(l:List aC) (p:Nat),(bP c l p).length<=m*(l.map fQ).sum
 |[],_=>by simp[bP]
 |a::l,p=>by
  simp only[bP,aw_,aM_,aO_,Nat.mul_add];have b:=h a p;have d:=qI h l (p+(c a p).length);omega
def mH(fs:List aC)(seen:List (List UInt8)):∀(d:Nat) (a:aC) (p:Nat),(aG fs seen d a p).length<=2*fQ a
 |0,_,_=>by simp[aG]
 |d+1,a,p=>by
  have y:=qI (m:=2) (fun a p=>mH fs seen d a p) a.kids p
  have g:=kL a;have u:=fun l q=>mH fs seen d l q
  rw[aG];simp only;generalize bP (aG fs seen d) a.kids p=z at y ⊢
  generalize (if (a.text==[108,101,110])=true then aH.length else if (a.text==[114,101,97,100])=true then aH.read else aH.call (cS fs a.text) a.kids.length)=k
  generalize aG fs seen d=E at*;have c:∀i:aH,(z++[i]).length<=2*fQ a:=fun i=>by simp only[aw_,aB_,aI_];omega
  have b:∀i:aH,([i]:List aH).length<=2*fQ a:=fun i=>by simp only[aB_,aI_];omega
  by_cases h:(a.op==[48])=true
  ·rw[if_pos h];exact b _
  rw[if_neg h];by_cases w:(a.op==[115])=true
  ·rw[if_pos w];exact b _
  rw[if_neg w];by_cases x:(a.op==[98,111,111,108])=true
  ·rw[if_pos x];exact b _
  rw[if_neg x];by_cases j:(a.op==[110,97,109,101])=true
  ·rw[if_pos j];exact b _
  rw[if_neg j];by_cases n:(a.op==[108,105,115,116])=true
  ·rw[if_pos n];exact c _
  rw[if_neg n];by_cases s:(a.op==[105,110,100,101,120])=true
  ·rw[if_pos s];exact c _
  rw[if_neg s];by_cases o:(a.op==[45,120])=true
  ·rw[if_pos o];exact c _
  rw[if_neg o];by_cases t:(a.op==[33,120])=true
  ·rw[if_pos t];exact c _
  rw[if_neg t];by_cases v:(a.op==[99,97,108,108])=true
  ·rw[if_pos v];exact c _
  rw[if_neg v];by_cases e:(a.op==[38,38] || a.op==[124,124])=true
  ·rw[if_pos e];split
   ·rename_i l r f;have A:=u l p;have B:=u r (p+(E l p).length+1);rw[f] at g;simp only[aM_,a8_,aO_,bg_] at g;simp only[aw_,aB_,aI_];omega
   ·simp
  ·rw[if_neg e];exact c _
def qC{c:List (List UInt8)->aC->Nat->List aH × List (List UInt8)}{m:Nat}(h:∀s a p,(c s a p).1.length<=m*fQ a):∀(l:List aC) (s:List (List UInt8)) (p:Nat),(bG c s l p).length<=m*(l.map fQ).sum
 |[],_,_=>by simp[bG]
 |a::l,s,p=>by
  simp only[bG,aw_,aM_,aO_,Nat.mul_add];have b:=h s a p;have d:=qC h l (c s a p).2 (p+(c s a p).1.length);omega
def BQ(fs:List aC):∀(d:Nat) (seen:List (List UInt8)) (a:aC) (p:Nat),(aU fs d seen a p).1.length<=3*fQ a
 |0,_,_,_=>by simp[aU]
 |d+1,seen,a,p=>by
  have f:=kL a;have j:=fun (b:aC) q=>qC (m:=3) (fun s a p=>BQ fs d s a p) b.kids seen q
  have g:=fun (x:aC) q=>mH fs seen d x q
  have i:=fun (b:aC)=>kL b
  rw[aU];simp only;repeat' split
  all_goals try simp only[aw_,aB_,aI_]
  all_goals try omega
  ·rename_i t v e;have h:=g v (p+1);rw[e] at f;simp only[aM_,a8_,aO_,bg_] at f;omega
  ·have h:=qI (m:=2) (fun a p=>mH fs seen d a p) a.kids (p+1)
   omega
  ·rename_i c t _ x e;have h:=g c (p+1);have k:=j t (p+1+(aG fs seen d c (p+1)).length+1);have l:=i t;have o:=i x;have n:=j x (p+1+(aG fs seen d c (p+1)).length+1+(bG (aU fs d) seen t.kids (p+1+(aG fs seen d c (p+1)).length+1)).length+1);rw[e] at f;simp only[aM_,a8_,aO_,bg_] at f;omega
  ·rename_i c t _ e _ _;have h:=g c (p+1);have k:=j t (p+1+(aG fs seen d c (p+1)).length+1);have l:=i t;rw[e] at f;simp only[aM_,aO_] at f;omega
  ·rename_i c t e;have h:=g c (p+1);have k:=j t (p+1+(aG fs seen d c (p+1)).length+1);have l:=i t;rw[e] at f;simp only[aM_,a8_,aO_,bg_] at f;omega
  all_goals
   rename_i v e;have h:=g v (p+1);rw[e] at f;simp only[aM_,a8_,aO_,bg_] at f;omega
def nM(fs:List aC)(d:Nat)(s:aZ)(k:aC)(h:s.kind≠0):(eJ fs d s k).kind≠0:=by
 unfold eJ;split
 ·exact pP s k h
 ·exact fE fs false d k s h
def QN(fs:List aC)(d:Nat)(s:aZ)(n:aC)(first:Bool)(h:s.kind≠0):(fR fs d s n first).kind≠0:=by
 unfold fR;refine gN (fun s k a=>nM fs d s k a) _ _ ?_
 show (if _ then _ else _:aZ).kind≠0
 split
 ·exact oV _ _ _ h
 ·exact h
def EA(fs:List aC)(d:Nat):∀(a b:List aC) (s:aZ),s.kind≠0->(eU fs d b a s).kind≠0
 |[],_,_,h=>h
 |n::a,b,s,h=>EA fs d a (b++[n]) _ (QN fs d s n _ h)
def qQ{fs:List aC}{d:Nat}:∀(ps:List aC) (b:List (List UInt8)),(∀x∈ps,x.op=[112,97,114,97,109])->(ps.foldl (eJ fs d) ⟨b,0,0⟩).kind=0->ps.foldl (eJ fs d) ⟨b,0,0⟩=⟨b++ps.map (·.text),0,0⟩/\(b.Nodup->(b++ps.map (·.text)).Nodup)
 |[],b,_,_=>by simp
 |a::l,b,h,f=>by
  rw[bD_] at f ⊢
  have p:eJ fs d ⟨b,0,0⟩ a={ declaresL ⟨b,0,0⟩ a with seen:=(declaresL ⟨b,0,0⟩ a).seen++[a.text] }:=by unfold eJ;rw[if_pos (by simp[h a (aS_ ..)])]
  have o:(eJ fs d ⟨b,0,0⟩ a).kind=0:=a1_ fun i=>gN (fun s k v=>nM fs d s k v) l _ i f
  have c:(declaresL ⟨b,0,0⟩ a).kind=0:=by rw[p] at o;exact o
  obtain⟨j,g⟩:declaresL ⟨b,0,0⟩ a=⟨b,0,0⟩/\a.text∉b:=by
   unfold declaresL at c ⊢
   split at c
   ·exact(gV (by decide) c).elim
   ·rename_i m;rw[if_neg m];simp at m;exact⟨rfl,m.2⟩
  rw[p,j] at f ⊢
  obtain⟨u,q⟩:=qQ l (b++[a.text]) (fun x n=>h x (aJ_ _ n)) f
  rw[u];have e:b++[a.text]++l.map (·.text)=b++(a::l).map (·.text):=by simp
  rw[e] at q ⊢
  refine⟨rfl,fun r=>q ?_⟩
  rw[be_];exact⟨r,by simp,fun x n y t=>by rw[aD_.1 t];exact fun e=>g (e▸n)⟩
def PP{fs:List aC}(C:∀f∈fs,rK f){d:Nat}{f:aC}(z:rK f)(H:eY (d+3) f)(G:∀e,bW e f<=2001){o:List (List UInt8)}{first:Bool}(n:(fR fs (d+2) ⟨o,0,0⟩ f first).kind=0):iC fs (d+2) f/\∃M,fR fs (d+2) ⟨o,0,0⟩ f first=⟨M,0,0⟩:=by
 obtain⟨g,b,j,D,v,_⟩:=z.kids;have c:∀f∈fs,f.kids≠[]:=fun f z=>by obtain⟨g,b,j,_⟩:=(C f z).kids;rw[j];simp
 unfold fR at n ⊢
 have F:({ (if fL f.text || !first then aZ.found ⟨o,0,0⟩ f.line 6 else ⟨o,0,0⟩) with seen:=[] }:aZ).kind=0:=a1_ fun c=>gN (fun s k N=>nM fs (d+2) s k N) f.kids _ c n
 have y:({ (if fL f.text || !first then aZ.found ⟨o,0,0⟩ f.line 6 else ⟨o,0,0⟩) with seen:=[] }:aZ)=⟨[],0,0⟩:=by
  split at F
  ·exact(gV (by decide) F).elim
  ·rename_i L;rw[if_neg L]
 rw[y,j,List.foldl_append,bD_,b2_] at n ⊢
 have w:(g.foldl (eJ fs (d+2)) ⟨[],0,0⟩).kind=0:=a1_ fun c=>nM fs (d+2) _ b c n
 obtain⟨t,i⟩:=qQ g [] D w;have i:=i List.nodup_nil;rw[by_] at t i;rw[t] at n ⊢
 have B:eJ fs (d+2) ⟨g.map (·.text),0,0⟩ b=aO fs false (d+2) b ⟨g.map (·.text),0,0⟩:=by unfold eJ;rw[if_neg (by simp[v.op])]
 rw[B] at n ⊢
 have A:eY (d+2) b:=H b (by rw[j];simp)
 have q:=G (d+3);rw[bW,j] at q
 have E:∀l:List aC,l.length<=(l.map (bW (d+2))).sum:=by
  intro l;induction l with
  |nil=>simp
  |cons x l J=>simp only[aM_,aO_,aB_,bW];simp only[bW] at J;omega
 have:=E g;simp only[a7_,bC_,aM_,a8_,aO_,bg_] at q;obtain⟨O,I⟩:=jU v.op (fun k u=>GV c (d+1) k (v.kids k u) (A k u)) (by show (g.map (·.text)).length+bW (d+2) b<=_;simp only[bR_];omega) n
 refine⟨⟨⟨g,b,j,I.up fun s a h=>h.up (by omega),i⟩,?_⟩,_,O⟩
 have Q:=xZ _ _ H;have K:=G (d+3);have S:(bG (aU fs (d+2)) (g.map (·.text)).reverse b.kids 0).length<=3*(b.kids.map fQ).sum:=qC (m:=3) (fun s a p=>BQ fs (d+2) s a p) b.kids (g.map (·.text)).reverse 0
 have r:=kL f;rw[j] at r;have P:=kL b;simp only[a7_,bC_,aM_,a8_,aO_,bg_] at r;have T:(eX fs (d+2) f).code.length=(bG (aU fs (d+2)) (g.map (·.text)).reverse b.kids 0).length+2:=by simp[eX,j]
 omega
def yL{fs:List aC}(g:∀f∈fs,rK f){d:Nat}:∀(a b:List aC) (k:List (List UInt8)),(∀f∈a,f∈fs/\eY (d+3) f/\∀e,bW e f<=2001)->(eU fs (d+2) b a ⟨k,0,0⟩).kind=0->∀f∈a,iC fs (d+2) f
 |[],_,_,_,_,f,c=>by cases c
 |n::a,b,k,h,i,f,c=>by
  rw[eU] at i;have l:(fR fs (d+2) ⟨k,0,0⟩ n (dL b n.text).isNone).kind=0:=a1_ fun j=>EA fs (d+2) a _ _ j i
  obtain⟨s,m,q⟩:=h n (aS_ ..);obtain⟨p,r,o⟩:=PP g (g n s) m q l;rw[o] at i;rcases aG_.1 c with rfl|c
  ·exact p
  ·exact yL g a (b++[n]) r (fun f c=>h f (aJ_ _ c)) i f c
def GO{e:Nat}{f:aC}:∀{l:List aC},f∈l->bW e f<=(l.map (bW e)).sum
 |x::l,h=>by
  simp only[aM_,aO_];rcases aG_.1 h with rfl|h
  ·omega
  ·have:=GO (e:=e) h;omega
def FineL.mem{m:Nat}{l:List aC}{f:aC}(h:FineL m l)(a:f∈l):FineA m f:=fun e=>⟨aF_ (GO a) (h e).1,(h e).2 f a⟩
def KI{l:List UInt8}{ks:List aC}(h:cW l=.ok ks)(a:cG l=(0,0)):(∀f∈ks,iC ks 2001 f)/\fG ks (cS ks [109,97,105,110])=some 0:=by
 unfold cG at a;rw[h] at a;simp only at a;unfold kM at a;have i:=uX h;have n:=kT h;have c:∀f∈ks,FineA 2001 f:=fun f g=>n.mem g
 split at a
 ·cases a
 rename_i m j;split at a
 ·cases a
 rename_i k;have q:(eU ks 2001 [] ks ⟨[],0,0⟩).kind=0:=by simp only[Prod.mk.injEq] at a;exact a.1
 refine⟨fun f g=>yL (d:=1999) i ks [] [] (fun f g=>⟨g,?_,fun e=>((c f g) e).1⟩) q f g,?_⟩
 ·have:=nW 2002 f ((c f g).le (by omega))
  exact this
 ·unfold fG;rw[tV j];obtain⟨o,b,p,_⟩:=(i m (bn_ j)).kids;have:m.kids.length=o.length+1:=by rw[p];simp
  simp;omega
def FineL.len{m:Nat}{l:List aC}(h:FineL m l):l.length<=m:=by
 have a:=(h 1).1
 have:∀l:List aC,l.length<=(l.map (bW 1)).sum:=by
  intro l;induction l with
  |nil=>simp
  |cons x l b=>simp only[aM_,aO_,aB_];have:1<=bW 1 x:=by simp[bW]
               omega
 exact aF_ (this l) a
def FineA.kids{m:Nat}{a:aC}(h:FineA m a):FineL m a.kids:=fun e=>by
 have b:=(h (e+1)).1;simp only[bW] at b;exact⟨by omega,(h (e+1)).2.2⟩
def yB{a:aC}(h:a.op≠[115])(b:a.kids=[]):∀d,pS d a
 |0=>trivial
 |d+1=>⟨fun e=>absurd e h,by simp[b],fun k h=>by simp[b] at h⟩
def jH{m:Nat}(n:m<=1000000):∀(d:Nat) (a:aC),FineA m a->dC a->pS d a
 |0,_,_,_=>trivial
 |d+1,a,o,i=>by
  refine⟨fun e=>?_,aF_ o.kids.len n,fun k c=>jH n d k (o.kids.mem c) ?_⟩
  ·cases i with
   |leaf _ h c j=>exact j e
   |many _ h c=>rw[e] at h;exact absurd h (by decide)
   |one _ l h c f=>rw[e] at h;exact absurd h (by decide)
   |two _ l r h c f g=>rw[e] at h;exact absurd h (by decide)
  ·cases i with
   |leaf _ h b j=>rw[b] at c;cases c
   |many _ h b=>exact b k c
   |one _ l h b f=>rw[b,aD_] at c;rw[c];exact f
   |two _ l r h b f g=>
    rw[b] at c;rcases aG_.1 c with rfl|c
    ·exact f
    ·rw[aD_.1 c];exact g
def IK{m:Nat}(i:m<=1000000):∀(d:Nat),(∀a,FineA m a->fZ a->pS d a)/\∀t,FineA m t->t.op=[98,108,111,99,107]->(∀k∈t.kids,fZ k)->pS d t
 |0=>⟨fun _ _ _=>trivial,fun _ _ _ _=>trivial⟩
 |d+1=>by
  obtain⟨y,q⟩:=IK i d;refine⟨fun a o u=>⟨fun e=>?_,aF_ o.kids.len i,fun k f=>?_⟩,fun t o s f=>⟨fun e=>?_,aF_ o.kids.len i,fun k b=>y k (o.kids.mem b) (f k b)⟩⟩
  ·cases u<;>rename_i h _<;>simp_all
  ·have g:=o.kids.mem f;cases u with
   |var _ t v h b p l=>
    rw[b] at f;rcases aG_.1 f with rfl|f
    ·exact yB (by rw[l.1];decide) l.2 d
    ·obtain rfl:=aD_.1 f;exact jH i d _ g p
   |set _ h z b=>exact jH i d k g (b k f)
   |if2 _ c t h b n l j=>
    rw[b] at f;rcases aG_.1 f with rfl|f
    ·exact jH i d _ g n
    ·obtain rfl:=aD_.1 f;exact q _ g l j
   |if3 _ c t x h b n l j w r=>
    rw[b] at f;rcases aG_.1 f with rfl|f
    ·exact jH i d _ g n
    rcases aG_.1 f with rfl|f
    ·exact q _ g l j
    ·obtain rfl:=aD_.1 f;exact q _ g w r
   |whl _ c t h b n l j=>
    rw[b] at f;rcases aG_.1 f with rfl|f
    ·exact jH i d _ g n
    ·obtain rfl:=aD_.1 f;exact q _ g l j
   |ret0 _ h b=>rw[b] at f;cases f
   |ret1 _ v h b p=>rw[b,aD_] at f;subst f;exact jH i d _ g p
   |print _ v h b p=>rw[b,aD_] at f;subst f;exact jH i d _ g p
   |call _ c h b n s=>rw[b,aD_] at f;subst f;exact jH i d _ g n
  ·rw[s] at e;cases e
def FG{l:List UInt8}{ks:List aC}(h:cW l=.ok ks):∀f∈ks,∀k∈f.kids,mJ k:=fun f i k a d=>by
 have c:FineA 2001 k:=((kT h).mem i).kids.mem a;obtain⟨n,b,e,j,g,m⟩:=(uX h f i).kids;rw[e] at a;rcases aE_.1 a with a|a
 ·exact yB (by rw[j k a];decide) (m k a) d
 ·obtain rfl:=aD_.1 a;exact(IK (by omega) d).2 _ c g.op g.kids
def nR(i:aH):Prop:=(∀v,i=.push v->bQ v)/\∀op,i=.unary op->op=[45]\/op=[33]
def qJ{P:aH->Prop}{c:aC->Nat->List aH}:∀(l:List aC) (p:Nat),(∀a∈l,∀q,∀i∈c a q,P i)->∀i∈bP c l p,P i
 |[],_,_,i,d=>by cases d
 |a::l,p,h,i,d=>by
  rcases aE_.1 d with d|d
  ·exact h a (aS_ ..) p i d
  ·exact qJ l _ (fun b e=>h b (aJ_ _ e)) i d
def gU{P:aH->Prop}{c:Prop}[Decidable c]{l m:List aH}(a:c->∀i∈l,P i)(b:∀i∈m,P i):∀i∈(if c then l else m),P i:=by
 split
 ·exact a ‹_›
 ·exact b
def gL{P:aH->Prop}{l:List aH}{x:aH}(a:∀i∈l,P i)(b:P x):∀i∈l++[x],P i:=fun i h=>by
 rcases aE_.1 h with h|h
 ·exact a i h
 ·rw[aD_.1 h];exact b
def oQ{P:aH->Prop}{x:aH}(h:P x):∀i∈[x],P i:=gL (l:=[]) (fun _ h=>by cases h) h
def mY(fs:List aC)(seen:List (List UInt8)):∀(d:Nat) (a:aC) (p:Nat),mJ a->∀i∈aG fs seen d a p,nR i
 |0,_,_,_=>fun i b=>by cases b
 |d+1,a,p,j=>by
  have c:∀i∈bP (aG fs seen d) a.kids p,nR i:=qJ _ _ fun k c q=>mY fs seen d k q (j.kid c)
  have g:∀x:aH,(∀v,x≠.push v)->(∀f,x≠.unary f)->nR x:=fun x o m=>⟨fun v e=>absurd e (o v),fun f e=>absurd e (m f)⟩
  have n:a.op=[115]->cQ a.text:=fun h=>((j 1).1 h).2
  rw[aG];simp only;refine gU (fun _=>oQ ⟨fun v e=>by cases e;exact bQ.num _,fun f e=>by cases e⟩) ?_
  refine gU (fun h=>oQ ⟨fun v e=>by cases e;exact bQ.str (n (by simpa using h)),fun f e=>by cases e⟩) ?_
  refine gU (fun _=>oQ ⟨fun v e=>by cases e;exact bQ.tru _,fun f e=>by cases e⟩) ?_
  refine gU (fun _=>oQ (g _ (by simp) (by simp))) ?_
  refine gU (fun _=>gL c (g _ (by simp) (by simp))) ?_
  refine gU (fun _=>gL c (g _ (by simp) (by simp))) ?_
  refine gU (fun _=>gL c ⟨fun v e=>by (cases e),fun f e=>by cases e;exact av_ rfl⟩) ?_
  refine gU (fun _=>gL c ⟨fun v e=>by (cases e),fun f e=>by cases e;exact as_ rfl⟩) ?_
  refine gU (fun _=>gL c ?_) ?_
  ·repeat' split
   all_goals exact g _ (by simp) (by simp)
  refine gU (fun _=>?_) (gL c (g _ (by simp) (by simp)))
  split
  ·rename_i l r e;refine gL (fun i b=>?_) (g _ (by simp) (by simp))
   rcases aE_.1 b with b|b
   ·exact gL (mY fs seen d l _ (j.kid (by rw[e];simp))) (g _ (by simp) (by simp)) i b
   ·exact mY fs seen d r _ (j.kid (by rw[e];simp)) i b
  ·intro i b;cases b
def qE{P:aH->Prop}{c:List (List UInt8)->aC->Nat->List aH × List (List UInt8)}:∀(l:List aC) (seen:List (List UInt8)) (p:Nat),(∀a∈l,∀s q,∀i∈(c s a q).1,P i)->∀i∈bG c seen l p,P i
 |[],_,_,_,i,d=>by cases d
 |a::l,seen,p,h,i,d=>by
  rcases aE_.1 d with d|d
  ·exact h a (aS_ ..) seen p i d
  ·exact qE l _ _ (fun b e=>h b (aJ_ _ e)) i d
def NH(fs:List aC):∀(d:Nat) (seen:List (List UInt8)) (a:aC) (p:Nat),mJ a->∀i∈(aU fs d seen a p).1,nR i
 |0,_,_,_,_,i,f=>by cases f
 |d+1,seen,a,p,o,i,f=>by
  have j:∀{k:aC} {q:Nat},k∈a.kids->i∈aG fs seen d k q->nR i:=fun l h=>mY fs seen d _ _ (o.kid l) i h
  have n:∀{k:aC} {q:Nat},k∈a.kids->i∈bG (aU fs d) seen k.kids q->nR i:=fun l h=>qE _ _ _ (fun x j s q=>NH fs d s x q ((o.kid l).kid j)) i h
  have g:∀{x:aH},(∀v,x≠.push v)->(∀m,x≠.unary m)->i=x->nR i:=fun z w e=>⟨fun v y=>absurd (e▸y) (z v),fun m u=>absurd (e▸u) (w m)⟩
  rw[aU] at f;dsimp only at f;split at f
  ·split at f
   ·rename_i t v e;simp only[aE_,aG_,aQ_,or_false,aY_] at f;rcases f with h|h|h
    ·exact g (by simp) (by simp) h
    ·exact j (by rw[e];simp) h
    ·exact g (by simp) (by simp) h
   ·cases f
  split at f
  ·simp only[aE_,aG_,aQ_,or_false,aY_] at f;rcases f with h|h|h
   ·exact g (by simp) (by simp) h
   ·exact qJ _ _ (fun k l q=>mY fs seen d k q (o.kid l)) i h
   ·exact g (by simp) (by simp) h
  split at f
  ·split at f
   ·rename_i c t e r;simp only[aE_,aG_,aQ_,or_false,aY_] at f;rcases f with h|(((h|h)|h)|h)|h
    ·exact g (by simp) (by simp) h
    ·exact j (by rw[r];simp) h
    ·exact g (by simp) (by simp) h
    ·exact n (by rw[r];simp) h
    ·exact g (by simp) (by simp) h
    ·split at h
     ·exact n (by rw[r];simp) h
     ·cases h
   ·cases f
  split at f
  ·split at f
   ·rename_i c b e;simp only[aE_,aG_,aQ_,or_false,aY_] at f;rcases f with h|((h|h)|h)|h
    ·exact g (by simp) (by simp) h
    ·exact j (by rw[e];simp) h
    ·exact g (by simp) (by simp) h
    ·exact n (by rw[e];simp) h
    ·exact g (by simp) (by simp) h
   ·cases f
  split at f
  ·split at f
   ·rename_i v e;simp only[aE_,aG_,aQ_,or_false,aY_] at f;rcases f with h|h|h
    ·exact g (by simp) (by simp) h
    ·exact j (by rw[e];simp) h
    ·exact g (by simp) (by simp) h
   ·simp only[aG_,aQ_,or_false] at f;rcases f with h|h|h
    ·exact g (by simp) (by simp) h
    ·rw[h];exact⟨fun v e=>by cases e;exact bQ.num _,fun m e=>by cases e⟩
    ·exact g (by simp) (by simp) h
  split at f
  ·split at f
   ·rename_i v e;simp only[aE_,aG_,aQ_,or_false,aY_] at f;rcases f with h|h|h
    ·exact g (by simp) (by simp) h
    ·exact j (by rw[e];simp) h
    ·exact g (by simp) (by simp) h
   ·cases f
  ·split at f
   ·rename_i c e;simp only[aE_,aG_,aQ_,or_false,aY_] at f;rcases f with h|h|h
    ·exact g (by simp) (by simp) h
    ·exact j (by rw[e];simp) h
    ·exact g (by simp) (by simp) h
   ·cases f
def SD{ks:List aC}{d:Nat}(h:∀f∈ks,∀k∈f.kids,mJ k):jN (cP ks d):=fun g r=>by
 obtain⟨f,n,rfl⟩:=bz_.1 r
 have a:∀i∈(eX ks d f).code,nR i:=fun i c=>by
  simp only[eX,aE_,aG_,aQ_,or_false] at c;rcases c with c|rfl|rfl
  ·cases j:f.kids.getLast? with
   |none=>rw[j] at c;cases c
   |some b=>
    rw[j] at c;exact qE _ _ _ (fun k o s q=>NH ks d s k q ((h f n b (bK_ j)).kid o)) i c
  ·exact⟨fun v e=>by cases e;exact bQ.num _,fun l e=>by cases e⟩
  ·exact⟨fun v e=>by (cases e),fun l e=>by cases e⟩
 exact⟨fun v p=>(a _ p).1 v rfl,fun l m=>(a _ m).2 l rfl⟩
def stC_seen{fs:List aC}{d:Nat}{seen:List (List UInt8)}{a:aC}{p:Nat}(h:dD fs d seen a):(aU fs d seen a p).2=cO seen a:=
 (lI fs d seen a (fun _ _=>False) p h ⟨fun _ _ _ h=>h.elim,fun _ _ h=>h.elim⟩).2.1
def NN{b a:List aI}{f c:aI}(h:b++[f]=a++[c]):b=a/\f=c:=by
 have:=bh_ h rfl;exact⟨this.1,by simpa using this.2⟩
def JE:∃k:Nat,16*320000+2<=k:=⟨_,au_ _⟩
noncomputable def gD:Nat:=Classical.choose JE
def xF:16*320000+2<=gD:=Classical.choose_spec JE
noncomputable def dQ(tab:List dY)(m0:cF):Nat->Option bI
 |0=>(cJ tab gD m0).map fun r=>⟨0,r.1,bT 0 r.2⟩
 |t+1=>
  match dQ tab m0 t with
  |none=>none
  |some s=>if s.stop=0 then (cJ tab gD s.m).map fun r=>⟨t+1,r.1,bT (t+1) r.2⟩ else none
structure RM(ar:Nat->Option Nat)(s:bI):Prop where
 told:∀x∈s.m.frames,x.seen.length<=x.vars.length
 deep:s.m.frames.length<=16
 ok:s.stop=0->eS ar s.m/\s.m.frames≠[]
 time:s.time<=500
def RU{ar:Nat->Option Nat}{m:cF}(h:eS ar m):∃k,wgts m.frames<=m.frames.length*k/\k=320000:=by
 have d:∀f∈m.frames,jP f<=320000:=fun f a=>by
  have n:f.fn.code.length<=80000:=by
   rcases bo_ m.frames with c|⟨b,x,c⟩
   ·rw[c] at a;cases a
   ·rw[bp_] at c;have e:=h.ok.low;have g:=h.ok.top x (by rw[c];exact dV _ _)
    rw[c,dA] at e;rw[c] at a;rcases aE_.1 a with a|a
    ·obtain⟨T,i,_⟩:=(e f a).code;exact i.len
    ·obtain⟨T,i,_⟩:=g.code;rw[aD_.1 a];exact i.len
  unfold jP;split
  ·omega
  ·split<;>omega
 have:∀l:List aI,(∀f∈l,jP f<=320000)->wgts l<=l.length*320000:=by
  intro l;induction l with
  |nil=>intro _;simp[wgts]
  |cons x l j=>
   intro h;have e:=h x (aS_ ..);have g:=j fun f a=>h f (aJ_ _ a)
   unfold wgts at g ⊢
   simp only[aM_,aO_,aB_,Nat.succ_mul];omega
 exact⟨320000,this m.frames d,rfl⟩
def oN{ar:Nat->Option Nat}{a:List dY}(b:iK ar a){m:cF}(h:eS ar m):∃r,cJ a gD m=some r/\MM ar r:=
 lG b gD m h (by
  obtain⟨k,c,d⟩:=RU h;have e:=Nat.mul_le_mul_right k h.ok.deep;have:=xF;omega)
def tO{ar:Nat->Option Nat}{b:List dY}(k:iK ar b){m0:cF}(l:eS ar m0):∀(t:Nat) (s:bI),dQ b m0 t=some s->RM ar s/\s.time=t
 |0,s,h=>by
  obtain⟨r,i,f⟩:=oN k l;simp only[dQ,i,bE_,Option.some.injEq] at h;subst h
  exact⟨⟨f.told,f.deep,fun c=>f.ok (by simp only[bT] at c;split at c;·simp at c
                                       ·exact c),by simp⟩,rfl⟩
 |t+1,s,h=>by
  rw[dQ] at h;cases a:dQ b m0 t with
  |none=>rw[a] at h;cases h
  |some q=>
   rw[a] at h;simp only at h;obtain⟨n,w⟩:=tO k l t q a;split at h
   ·rename_i c;obtain⟨r,i,f⟩:=oN k (n.ok c).1;rw[i] at h;simp only[bE_,Option.some.injEq] at h;subst h
    refine⟨⟨f.told,f.deep,fun d=>f.ok (by simp only[bT] at d;split at d;·simp at d
                                          ·exact d),?_⟩,rfl⟩
    show t+1<=500
    have o:t≠500:=by
     intro e;cases t with
     |zero=>simp at e
     |succ u=>
      rw[dQ] at a;cases m:dQ b m0 u with
      |none=>rw[m] at a;cases a
      |some p=>
       rw[m] at a;simp only at a;split at a
       ·cases g:cJ b gD p.m with
        |none=>rw[g] at a;cases a
        |some v=>
         rw[g] at a;simp only[bE_,Option.some.injEq] at a;subst a;simp only[bT] at c;split at c
         ·simp at c
         ·rename_i j;exact j ⟨c,e⟩
       ·cases a
    have:=n.time;omega
   ·cases h
def xM{a:List dY}{r:cF × Nat}(j:Nat):∀(k:Nat) (m:cF),cJ a k m=some r->cJ a (k+j) m=some r
 |0,_,h=>by cases h
 |k+1,m,h=>by
  rw[show k+1+j=(k+j)+1 by omega]
  rw[cJ] at h ⊢
  cases d:m.frames.getLast? with
  |none=>rw[d] at h;exact h
  |some f=>
   rw[d] at h;simp only at h ⊢
   cases e:f.fetch with
   |none=>rw[e] at h;cases h
   |some g=>
    rw[e] at h;simp only at h ⊢
    split at h
    ·rename_i b;rw[if_pos b];exact h
    rename_i b;rw[if_neg b];split at h
    ·rename_i c;rw[if_pos c];exact h
    rename_i c;rw[if_neg c];exact xM j k _ h
noncomputable def uV(tab:List dY)(k:Nat):Nat->Nat->cF->Option bI
 |0,_,_=>none
 |n+1,t,m=>
  match cJ tab k m with
  |none=>none
  |some r=>if r.2=0/\t≠500 then uV tab k n (t+1) r.1 else some ⟨t,r.1,bT t r.2⟩
def BZ{a:List dY}{m0:cF}{k:Nat}(i:k<=gD){z:bI}:∀(n t:Nat) (m:cF),uV a k n t m=some z->(∀r,cJ a gD m=some r->dQ a m0 t=some ⟨t,r.1,bT t r.2⟩)->dQ a m0 z.time=some z
 |0,_,_,h,_=>by cases h
 |n+1,t,m,h,f=>by
  rw[uV] at h;cases b:cJ a k m with
  |none=>rw[b] at h;cases h
  |some r=>
   rw[b] at h;simp only at h
   have e:cJ a gD m=some r:=by
    have:=xM (gD-k) k m b;rwa [show k+(gD-k)=gD by omega] at this
   have d:=f r e;split at h
   ·rename_i g;refine BZ i n (t+1) r.1 h fun l c=>?_
    have j:bT t r.2=0:=by unfold bT;rw[if_neg (by omega)];exact g.1
    rw[dQ,d];simp only[j,if_true,c,bE_]
   ·cases h;exact d
def xG(src:List UInt8)(t:Nat)(out:List (List UInt8)):Prop:=∃ks tp,cW src=.ok ks/\cG src=(0,0)/\dQ (cP ks 2001) (eT ks 2001 []) t=some ⟨t,⟨[],tp,out⟩,1⟩
noncomputable def QK(src:List UInt8)(t:Nat)(out:List (List UInt8)):Bool:=
 match cW src with
 |.error _=>false
 |.ok ks=>
  decide (kM 2001 ks=(0,0)) && match uV (cP ks 2001) 100 200 0 (eT ks 2001 []) with
   |none=>false
   |some z=>z.time==t && (z.stop==1 && (z.m.frames.isEmpty && z.m.out==out))
def VF{a:List UInt8}{t:Nat}{c:List (List UInt8)}(h:QK a t c=true):xG a t c:=by
 unfold QK at h;cases d:cW a with
 |error e=>rw[d] at h;cases h
 |ok f=>
  rw[d] at h;simp only[aX_,decide_eq_true_eq] at h;obtain⟨k,b⟩:=h;cases i:uV (cP f 2001) 100 200 0 (eT f 2001 []) with
  |none=>rw[i] at b;cases b
  |some z=>
   rw[i] at b;simp only[aX_,beq_iff_eq,List.isEmpty_iff] at b;have:=BZ (m0:=eT f 2001 []) (by have:=xF;omega) 200 0 _ i fun r j=>by rw[dQ,j];rfl
   obtain⟨n,⟨m,g,o⟩,l⟩:=z;simp only at b this;obtain⟨rfl,rfl,rfl,rfl⟩:=b;exact⟨f,g,d,by unfold cG;rw[d];exact k,this⟩
def WJ:List UInt8:=[102,117,110,99,32,102,40,120,41,32,123,32,114,101,116,117,114,110,32,91,120,44,32,34,195,169,34,93,59,32,125,10,102,117,110,99,32,109,97,105,110,40,41,32,123,32,118,97,114,32,97,32,61,32,102,40,50,41,59,32,112,114,105,110,116,32,97,59,32,112,114,105,110,116,32,108,101,110,40,97,91,49,93,41,59,32,125]
def WK:List UInt8:=[102,117,110,99,32,109,97,105,110,40,41,32,123,10,32,112,114,105,110,116,32,120,59,32,125]
def RW:xG WJ 4 [[91,50,44,32,34,195,169,34,93],[49]]:=VF (by decide+kernel)
def TO:cG WK=(6,2):=by decide+kernel
def bV(l:List aI):List (List UInt8 × Nat):=l.map fun f=>(f.fn.name,f.line)
def iD(l:List aI)(f:aI):bV (l++[f])=bV l++[(f.fn.name,f.line)]:=by simp[bV]
def rI(m0 m:List aI):Prop:=bV m<+:bV m0\/((bV m).dropLast<+:bV m0/\∃b f,m=b++[f]/\(f.next=0\/∃v,f.fn.code=[.push v,.give]))
def rI.drop{m0 m:List aI}(h:rI m0 m):(bV m).dropLast<+:bV m0:=by
 rcases h with h|h
 ·exact(List.dropLast_prefix _).trans h
 ·exact h.1
def CZ(i:aH)(f:aI)(h:i.isBegin=false):(aL i f).1.fn=f.fn/\(aL i f).1.line=f.line:=by
 refine⟨lR i f,?_⟩;cases i<;>simp[aH.isBegin] at h<;>simp only[aL]<;>(repeat' split)<;>rfl
structure kD(m0:cF)(m:cF):Prop where
 stack:(bV m.frames).dropLast<+:bV m0.frames
 out:m0.out<+:m.out
def kD.deep{m0 m:cF}(h:kD m0 m):m.frames.length<=m0.frames.length+1:=by
 have:=h.stack.length_le;simp[bV] at this;omega
def pV{ar:Nat->Option Nat}{j:List dY}(ht:iK ar j){m0:cF}:∀(k:Nat) (m:cF) (r:cF × Nat),eS ar m->rI m0.frames m.frames->m0.out<+:m.out->cJ j k m=some r->kD m0 r.1
 |0,_,_,_,_,_,h=>by simp[cJ] at h
 |k+1,⟨fr,t,o⟩,r,V,N,q,h=>by
  by_cases K:fr=[]
  ·subst K;simp only[cJ,List.getLast?_nil,Option.some.injEq] at h;subst h;exact⟨by simp[bV],q⟩
  obtain⟨b,f,rfl⟩:=jB K;have g:cH ar f 0:=V.ok.top f (dV _ _);have S:gW f.fn.code:=V.start f (by simp)
  have Q:=qW g.next
  have B:f.fn.code[f.next]?=some (f.fn.code[f.next]'g.next):=aH_ g.next
  generalize f.fn.code[f.next]'g.next=i at Q B
  obtain⟨Z,h2,h3⟩:=rW ht V Q;rw[cJ] at h;simp only[dV,Q,dA] at h
  have p:bV b<+:bV m0.frames:=by
   have:=N.drop;rw[iD,dA] at this;exact this
  have A:kD m0 (doI j i b { f with next:=f.next+1 } t o).1/\((doI j i b { f with next:=f.next+1 } t o).2=0->i.isBegin=false->rI m0.frames (doI j i b { f with next:=f.next+1 } t o).1.frames):=by
   have same:∀y:aI,y.fn=f.fn->y.line=f.line->∀P W,m0.out<+:W->(y.next≠0->(∃v,f.fn.code=[.push v,.give])\/bV (b++[f])<+:bV m0.frames)->kD m0 ⟨b++[y],P,W⟩/\(y.next≠0->rI m0.frames (b++[y])):=fun y Z h2 P W T O=>by
    refine⟨⟨by simp only[iD,dA];exact p,T⟩,fun M=>?_⟩
    rcases O M with ⟨v,E⟩|G
    ·exact as_ ⟨by rw[iD,dA];exact p,b,y,rfl,as_ ⟨v,by rw[Z];exact E⟩⟩
    ·left
     rw[iD] at G ⊢
     rw[Z,h2];exact G
   have d:i.isBegin=false->(∃v,f.fn.code=[.push v,.give])\/bV (b++[f])<+:bV m0.frames:=fun w=>by
    rcases N with N|⟨_,F,f',e,H⟩
    ·exact as_ N
    ·obtain⟨_,rfl⟩:=NN e;rcases H with H|H
     ·rcases S with ⟨l,s,r,e⟩|E
      ·rw[e,H] at B;simp at B;rw[<-B] at w;simp[aH.isBegin] at w
      ·exact av_ E
     ·exact av_ H
   by_cases M:i=.give
   ·subst M;rcases bo_ b with rfl|⟨F,x,rfl⟩
    ·exact⟨⟨by simp[doI,bV],by simpa [doI] using q⟩,fun _ _=>av_ (by simp[doI,bV])⟩
    ·rw[bp_] at*;have e:doI j .give (F++[x]) { f with next:=f.next+1 } t o=(⟨F++[x.push (aI.last { f with next:=f.next+1 })],t,o⟩,0):=by simp[doI]
     rw[e];have L:bV (F++[x.push (aI.last { f with next:=f.next+1 })])=bV (F++[x]):=by simp[bV,aI.push]
     exact⟨⟨by rw[L];exact(List.dropLast_prefix _).trans p,q⟩,fun _ _=>av_ (by rw[L];exact p)⟩
   by_cases hr:i=.read
   ·subst hr;have:=d rfl;cases t with
    |nil=>exact⟨(same { f with next:=f.next+1 } rfl rfl [] o q fun _=>this).1,fun u=>by simp[doI] at u⟩
    |cons a P=>
     have C:=same (aI.push { f with next:=f.next+1 } (bC a)) rfl rfl P o q fun _=>this
     exact⟨C.1,fun _ _=>C.2 (by simp[aI.push])⟩
   by_cases G:i=.print
   ·subst G;have:=d rfl;simp only[doI];split
    ·exact⟨(same (aI.pop { f with next:=f.next+1 }) rfl rfl t o q fun _=>this).1,fun u=>by simp at u⟩
    ·have C:=same (aI.pop { f with next:=f.next+1 }) rfl rfl t (o++[iV (aI.last { f with next:=f.next+1 })]) (q.trans (List.prefix_append _ _)) fun _=>this
     exact⟨C.1,fun _ _=>C.2 (by simp[aI.pop])⟩
   by_cases J:∃c n,i=.call c n
   ·obtain⟨c,n,rfl⟩:=J
    have D:bV (b++[f])<+:bV m0.frames:=by
     rcases d rfl with ⟨v,E⟩|h'
     ·rw[E] at B;have Y:f.next<2:=by have:=g.next;rw[E] at this;simpa using this
      match I:f.next,Y with
      |0,_=>rw[I] at B;simp at B
      |1,_=>rw[I] at B;simp at B
     ·exact h'
    simp only[doI];split
    ·exact⟨(same (aI.popMany { f with next:=f.next+1 } n) rfl rfl t o q fun _=>as_ D).1,fun u=>by simp at u⟩
    ·have e1:∀y z:aI,b++[y,z]=(b++[y])++[z]:=by simp
     have L:bV (b++[aI.popMany { f with next:=f.next+1 } n])=bV (b++[f]):=by simp[bV,aI.popMany]
     refine⟨⟨by rw[e1,iD,dA,L];exact D,q⟩,fun _ _=>as_ ⟨by rw[e1,iD,dA,L];exact D,b++[aI.popMany { f with next:=f.next+1 } n],_,e1 _ _,av_ rfl⟩⟩
   have X:∀k n,i≠.call k n:=fun k n e=>J ⟨k,n,e⟩
   rw[rX M hr G X];cases w:i.isBegin
   ·obtain⟨s1,s2⟩:=CZ i { f with next:=f.next+1 } w
    have C:=same (aL i { f with next:=f.next+1 }).1 s1 s2 t o q fun _=>d w
    refine⟨C.1,fun u _=>?_⟩
    by_cases O:(aL i { f with next:=f.next+1 }).1.next=0
    ·exact as_ ⟨by rw[iD,dA];exact p,b,_,rfl,av_ O⟩
    ·exact C.2 O
   ·cases i<;>simp[aH.isBegin] at w
    exact⟨⟨by simp only[iD,dA];exact p,q⟩,fun _ U=>by simp at U⟩
  by_cases u:(doI j i b { f with next:=f.next+1 } t o).2=0
  ·rw[if_neg (by rw[u];simp)] at h
   cases w:i.isBegin
   ·rw[w] at h;simp only[Bool.false_eq_true,if_false] at h;exact pV ht k _ r (h3 u) (A.2 u w) A.1.out h
   ·rw[if_pos w] at h;cases h;exact A.1
  ·rw[if_pos u] at h;cases h;exact A.1
def nF(s:List (List UInt8)):Prop:=s.Nodup/\s.length<=90001
def nF.nil:nF []:=⟨List.nodup_nil,by simp⟩
def bD(c:List aH):Prop:=∀l s,aH.begin l s∈c->nF s
def bD.app{a b:List aH}(h:bD a)(k:bD b):bD (a++b):=fun l s c=>by
 rcases aE_.1 c with c|c
 ·exact h l s c
 ·exact k l s c
def bD.one{i:aH}(h:i.isBegin=false):bD [i]:=fun l s a=>by
 rw[aD_] at a;rw[<-a] at h;cases h
def bD.nil:bD []:=fun l s a=>by cases a
def tP{c:aC->Nat->List aH}(b:∀a p,bD (c a p)):∀(l:List aC) (p:Nat),bD (bP c l p)
 |[],_=>bD.nil
 |a::l,p=>(b a p).app (tP b l _)
def iN{c:Prop}[Decidable c]{a b:List aH}(h:bD a)(k:bD b):bD (if c then a else b):=by split<;>assumption
def nO(fs:List aC)(seen:List (List UInt8)):∀(d:Nat) (a:aC) (p:Nat),bD (aG fs seen d a p)
 |0,_,_=>bD.nil
 |d+1,a,p=>by
  have b:=tP (nO fs seen d) a.kids p;have o:∀i:aH,i.isBegin=false->bD [i]:=fun i h=>bD.one h
  rw[aG];refine iN (o _ rfl) (iN (o _ rfl) (iN (o _ rfl) (iN (o _ rfl) (iN (b.app (o _ rfl)) (iN (b.app (o _ rfl)) (iN (b.app (o _ rfl)) (iN (b.app (o _ rfl)) (iN (b.app (o _ ?_)) (iN ?_ (b.app (o _ rfl)))))))))))
  ·split
   ·rfl
   ·split<;>rfl
  ·split
   ·exact(((nO fs seen d _ _).app (o _ rfl)).app (nO fs seen d _ _)).app (o _ rfl)
   ·exact bD.nil
def bD.start{l:Nat}{s:List (List UInt8)}{c:List aH}(f:nF s)(d:bD c):bD (.begin l s::c):=fun b e a=>by
 rcases aG_.1 a with a|a
 ·cases a;exact f
 ·exact d b e a
def XI(fs:List aC)(d:Nat):Prop:=∀(seen:List (List UInt8)) (a:aC) (p:Nat),dD fs d seen a->nF seen->bD (aU fs d seen a p).1/\nF (aU fs d seen a p).2
def tN{fs:List aC}{d:Nat}(b:XI fs d):∀(l:List aC) (seen:List (List UInt8)) (p:Nat),StsOk (dD fs d) seen l->nF seen->bD (bG (aU fs d) seen l p)
 |[],_,_,_,_=>bD.nil
 |a::l,seen,p,h,g=>by
  obtain⟨e,c⟩:=b seen a p h.1 g;have f:(aU fs d seen a p).2=cO seen a:=(lI fs d seen a (fun _ _=>False) p h.1 ⟨fun _ _ _ h=>h.elim,fun _ _ h=>h.elim⟩).2.1
  refine e.app ?_;rw[f] at c ⊢
  exact tN b l _ _ h.2 c
def GW(fs:List aC):∀d,XI fs d
 |0=>fun _ _ _ h _=>h.elim
 |d+1=>by
  intro g a p h e;have j:=nO fs g d;have k:∀(b:aC) q,StsOk (dD fs d) g b.kids->bD (bG (aU fs d) g b.kids q):=fun b q l=>tN (GW fs d) b.kids g q l e
  have s:([115,101,116]==([118,97,114]:List UInt8))=false:=rfl;rcases h with ⟨i,r,t,v,f,_,n⟩|⟨i,_⟩|⟨i,c,t,f,_,m⟩|⟨i,c,b,f,_,l⟩|⟨i,f⟩|⟨i,v,f,_⟩|⟨i,c,f,_⟩
  ·unfold aU;simp only[i,f,aY_];exact⟨bD.start e ((j v _).app (bD.one rfl)),⟨aK_.2 ⟨n,e.1⟩,by simp;omega⟩⟩
  ·unfold aU;simp only[i];exact⟨bD.start e ((tP j _ _).app (bD.one rfl)),e⟩
  ·unfold aU;simp only[i];rcases f with f|⟨x,f,o⟩<;>rw[f]
   ·exact⟨bD.start e ((((j c _).app (bD.one rfl)).app (k t _ m)).app (bD.one rfl) |>.app bD.nil),e⟩
   ·exact⟨bD.start e ((((j c _).app (bD.one rfl)).app (k t _ m)).app (bD.one rfl) |>.app (k x _ o)),e⟩
  ·unfold aU;simp only[i,f];exact⟨bD.start e (((j c _).app (bD.one rfl)).app (k b _ l) |>.app (bD.one rfl)),e⟩
  ·unfold aU;simp only[i];rcases f with f|⟨v,f,_⟩<;>rw[f]
   ·exact⟨bD.start e ((bD.one rfl).app (bD.one rfl)),e⟩
   ·exact⟨bD.start e ((j v _).app (bD.one rfl)),e⟩
  ·unfold aU;simp only[i,f];exact⟨bD.start e ((j v _).app (bD.one rfl)),e⟩
  ·unfold aU;simp only[i,f];exact⟨bD.start e ((j c _).app (bD.one rfl)),e⟩
def B4{fs:List aC}{d:Nat}{f:aC}(h:iC fs d f)(e:f.kids.length<=90000):bD (eX fs d f).code:=by
 obtain⟨⟨k,b,c,g,j⟩,_⟩:=h;have a:(eX fs d f).code=bG (aU fs d) (k.map (·.text)).reverse b.kids 0++[.push (bC 0),.give]:=by simp[eX,c]
 rw[a];exact(tN (GW fs d) b.kids _ 0 g ⟨List.pairwise_reverse.2 (j.imp fun h=>h.symm),by rw[c] at e;simp at e ⊢;omega⟩).app ((bD.one (i:=.push (bC 0)) rfl).app (bD.one (i:=.give) rfl))
def jW(m:cF):Prop:=∀f∈m.frames,nF f.seen/\bD f.fn.code
def FM(i:aH)(f:aI)(b:nF f.seen)(a:∀l s,i=.begin l s->nF s):nF (aL i f).1.seen:=by
 cases i with
 |begin l s=>exact a l s rfl
 |_=>simp only[aL]<;>(repeat' split)<;>exact b
def C3{p:List dY}(F:∀f∈p,bD f.code){b:List aI}{f:aI}{t:List Int}{o:List (List UInt8)}{i:aH}(h:jW ⟨b++[f],t,o⟩)(E:i∈f.fn.code)(k:Nat):jW (doI p i b { f with next:=k } t o).1:=by
 have u:∀x∈b,nF x.seen/\bD x.fn.code:=fun x q=>h x (by simp[q])
 have m:=h f (by simp)
 have d:∀(y:aI) v B,nF y.seen->y.fn=f.fn->jW ⟨b++[y],v,B⟩:=fun y v B G C x q=>by
  rcases aE_.1 q with q|q
  ·exact u x q
  ·rw[aD_.1 q];exact⟨G,by rw[C];exact m.2⟩
 by_cases z:i=.give
 ·subst z;rcases bo_ b with rfl|⟨H,x,rfl⟩
  ·intro y j;simp[doI] at j
  ·rw[bp_] at*;intro y j;simp[doI] at j;rcases j with j|rfl
   ·exact u y (by simp[j])
   ·exact u x (by simp)
 by_cases w:i=.read
 ·subst w;cases t with
  |nil=>exact d _ _ _ m.1 rfl
  |cons a v=>exact d _ _ _ m.1 rfl
 by_cases A:i=.print
 ·subst A;simp only[doI];split<;>exact d _ _ _ m.1 rfl
 by_cases r:∃c n,i=.call c n
 ·obtain⟨c,n,rfl⟩:=r;simp only[doI];split
  ·exact d _ _ _ m.1 rfl
  ·intro y j;simp at j;rcases j with j|rfl|rfl
   ·exact u y j
   ·exact m
   ·refine⟨nF.nil,?_⟩;cases D:p[c]? with
    |none=>exact bD.nil
    |some g=>exact F g (bb_ D)
 rw[rX z w A fun k n e=>r ⟨k,n,e⟩]
 exact d _ _ _ (FM i _ m.1 fun l s e=>m.2 l s (e▸E)) (lR i _)
def vO{d:List dY}(p:∀f∈d,bD f.code):∀(k:Nat) (m:cF) (r:cF × Nat),jW m->cJ d k m=some r->jW r.1
 |0,_,_,_,h=>by simp[cJ] at h
 |k+1,⟨u,t,o⟩,r,n,h=>by
  by_cases e:u=[]
  ·subst e;simp only[cJ,List.getLast?_nil,Option.some.injEq] at h;subst h;exact n
  obtain⟨b,f,rfl⟩:=jB e;rw[cJ] at h;simp only[dV,dA] at h;cases a:f.fetch with
  |none=>rw[a] at h;cases h
  |some q=>
   obtain⟨i,g⟩:=q;rw[a] at h;simp only at h
   obtain⟨rfl,s⟩:g={ f with next:=f.next+1 }/\i∈f.fn.code:=by
    unfold aI.fetch at a;cases l:f.fn.code[f.next]? with
    |none=>rw[l] at a;cases a
    |some j=>rw[l] at a;simp at a;exact⟨a.2.symm,by rw[<-a.1];exact bb_ l⟩
   have c:=C3 p n s (f.next+1)
   split at h
   ·cases h;exact c
   split at h
   ·cases h;exact c
   ·exact vO p k _ r c h
def SQ{fs:List aC}{D:Nat}(e:∀f∈fs,iC fs D f)(l:∀f∈fs,f.kids.length<=90000)(b:List Int):∀(t:Nat) (s:bI),dQ (cP fs D) (eT fs D b) t=some s->jW s.m:=by
 have i:∀f∈cP fs D,bD f.code:=fun f d=>by
  simp only[cP,bz_] at d;obtain⟨a,k,rfl⟩:=d;exact B4 (e a k) (l a k)
 intro t;induction t with
 |zero=>
  intro s h;rw[dQ] at h;cases c:cJ (cP fs D) gD (eT fs D b) with
  |none=>rw[c] at h;cases h
  |some r=>
   rw[c] at h;cases h;refine vO i _ _ _ (fun f d=>?_) c
   simp only[eT,aD_] at d;subst d;refine⟨nF.nil,?_⟩;cases m:(cP fs D)[cS fs [109,97,105,110]]? with
   |none=>exact bD.nil
   |some g=>exact i g (bb_ m)
 |succ t n=>
  intro s h;rw[dQ] at h;cases j:dQ (cP fs D) (eT fs D b) t with
  |none=>rw[j] at h;cases h
  |some o=>
   rw[j] at h;simp only at h;split at h
   ·cases c:cJ (cP fs D) gD o.m with
    |none=>rw[c] at h;cases h
    |some r=>rw[c] at h;cases h;exact vO i _ _ _ (n _ j) c
   ·cases h
def pL{ar:Nat->Option Nat}{a:List dY}(c:iK ar a){m0:cF}(f:eS ar m0){t:Nat}{s d:bI}(h:dQ a m0 t=some s)(h':dQ a m0 (t+1)=some d):s.stop=0/\kD s.m d.m:=by
 rw[dQ,h] at h';simp only at h';split at h'
 ·rename_i e;cases b:cJ a gD s.m with
  |none=>rw[b] at h';cases h'
  |some r=>
   rw[b] at h';cases h';exact⟨e,pV c gD s.m r ((tO c f t s h).1.ok e).1 (av_ (bG_ _)) (bG_ _) b⟩
 ·cases h'
def SR{fs:List aC}{D:Nat}(d:∀f∈fs,iC fs D f)(k:fG fs (cS fs [109,97,105,110])=some 0)(a:List Int){s:bI}(h:dQ (cP fs D) (eT fs D a) 0=some s):s.m.out=[]:=by
 obtain⟨f,T,o,_,_,_,_,j⟩:=(iF d).fn _ _ k;have e:eT fs D a=⟨[⟨f,0,0,[],[],[]⟩],a,[]⟩:=by unfold eT;rw[o];rfl
 obtain⟨n,i⟩:∃n,gD=n+3:=⟨gD-3,by have:=xF;omega⟩
 rw[dQ,e,i] at h;generalize cP fs D=b at h;rcases j with ⟨l,m,r,c⟩|⟨v,c⟩
 ·have g:cJ b (n+3) ⟨[⟨f,0,0,[],[],[]⟩],a,[]⟩=some (⟨[⟨f,1,l,m,[],[]⟩],a,[]⟩,0):=by
   rw[cJ];simp[aI.fetch,c,doI,aL,aH.isBegin]
  rw[g] at h;cases h;rfl
 ·have g:cJ b (n+3) ⟨[⟨f,0,0,[],[],[]⟩],a,[]⟩=some (⟨[],a,[]⟩,1):=by
   rw[cJ];simp[aI.fetch,c,doI,aL,aH.isBegin,aI.push];rw[cJ];simp[aI.fetch,c,doI,aH.isBegin];rw[cJ];simp
  rw[g] at h;cases h;rfl
end Go.Proofs.YtblbkfdhjfppkaaGreatDoor.Hs
