/- The shapes of trees that were read: plain facts. -/
import Derived.Test.YthbffcmfmjpncaaGreatDoorP00
set_option linter.defProp false
set_option maxRecDepth 100000
namespace Go.Proofs.YthbffcmfmjpncaaGreatDoor.Hs
variable{o e_:List (List UInt8)}{t:List Int}{l:List UInt8}{fs ks:List aC}{c c':List aH}{ts:List aX}{d m n p:Nat}{ar:Nat->Option Nat}{b:Type}{a:aC}{i:aH}{P:aH->Prop}{f g:aI}{s:aZ}{m0:bV}
inductive dC:aC->Prop
 |leaf (a:aC) (h:a.op=[48]\/a.op=[115]\/a.op=[98,111,111,108]\/a.op=[110,97,109,101]) (hk:a.y_=[]) (ht:a.op=[115]->NN a.x_):dC a
 |many (a:aC) (h:a.op=[108,105,115,116]\/a.op=[99,97,108,108]) (hk:∀k∈a.y_,dC k):dC a
 |one (a l:aC) (h:a.op=[45,120]\/a.op=[33,120]) (hk:a.y_=[l]) (hl:dC l):dC a
 |two (a l r:aC) (h:a.op=[105,110,100,101,120]\/cB a.op≠9) (hk:a.y_=[l,r]) (hl:dC l) (hr:dC r):dC a
inductive gA:aC->Prop
 |var (a t v:aC) (h:a.op=[118,97,114]) (hk:a.y_=[t,v]) (hv:dC v) (ht:t.op=[116,97,114,103,101,116]/\t.y_=[]):gA a
 |set (a:aC) (h:a.op=[115,101,116]) (hn:a.y_≠[]) (hk:∀k∈a.y_,dC k):gA a
 |if2 (a c t:aC) (h:a.op=[105,102]) (hk:a.y_=[c,t]) (hc:dC c) (ht:t.op=[98,108,111,99,107]) (htk:∀k∈t.y_,gA k):gA a
 |if3 (a c t x:aC) (h:a.op=[105,102]) (hk:a.y_=[c,t,x]) (hc:dC c) (ht:t.op=[98,108,111,99,107]) (htk:∀k∈t.y_,gA k) (hx:x.op=[98,108,111,99,107]) (hxk:∀k∈x.y_,gA k):gA a
 |whl (a c t:aC) (h:a.op=[119,104,105,108,101]) (hk:a.y_=[c,t]) (hc:dC c) (ht:t.op=[98,108,111,99,107]) (htk:∀k∈t.y_,gA k):gA a
 |ret0 (a:aC) (h:a.op=[114,101,116,117,114,110]) (hk:a.y_=[]):gA a
 |ret1 (a v:aC) (h:a.op=[114,101,116,117,114,110]) (hk:a.y_=[v]) (hv:dC v):gA a
 |print (a v:aC) (h:a.op=[112,114,105,110,116]) (hk:a.y_=[v]) (hv:dC v):gA a
 |call (a c:aC) (h:a.op=[100,111]) (hk:a.y_=[c]) (hc:dC c) (ho:c.op=[99,97,108,108]):gA a
structure NT(b:aC):Prop where
 op:b.op=[98,108,111,99,107]
 y_:∀k∈b.y_,gA k
structure rZ(f:aC):Prop where
 y_:∃ps b,f.y_=ps++[b]/\(∀x∈ps,x.op=[112,97,114,97,109])/\NT b/\∀x∈ps,x.y_=[]
def bM{α:Type}(P:α->Prop)(r:bS α):Prop:=∀a q,r=.ok (a,q)->P a
def bM.err{P:b->Prop}:bM P (.error n):=λa q h=>by cases h
def bM.bad{c:Type}{P:c->Prop}{b:Nat}:bM P (bad ts b):=λa q h=>by cases h
def bM.of_ok{P:b->Prop}{q:Nat}{a:b}(h:P a):bM P (.ok (a,q)):=λc d e=>by cases e;exact h
def bM.take{P:b->Prop}{x:List UInt8}{r:bS b}(h:bM P r):bM P (aN ts x r):=by
 cases r with
 |error l=>exact bM.err
 |ok c=>
  obtain⟨a,q⟩:=c;have:=h a q rfl;unfold aN;simp only;split
  ·exact bM.of_ok this
  ·exact bM.bad
def bM.map{c:Type}{P:b->Prop}{Q:c->Prop}{r:bS b}{f:b->c}(h:bM P r)(d:∀a,P a->Q (f a)):bM Q (bZ f r):=by
 cases r with
 |error l=>exact bM.err
 |ok e=>obtain⟨a,q⟩:=e;exact bM.of_ok (d a (h a q rfl))
def bM.bind{c:Type}{P:b->Prop}{Q:c->Prop}{r:bS b}{f:b->Nat->bS c}(h:bM P r)(d:∀a q,P a->bM Q (f a q)):bM Q (bR r f):=by
 cases r with
 |error l=>exact bM.err
 |ok e=>obtain⟨a,q⟩:=e;exact d a q (h a q rfl)
def eN(P:aC->Prop)(l:List aC):Prop:=∀k∈l,P k
def eN.nil{P:aC->Prop}:eN P []:=λ_ h=>by cases h
def eN.snoc{P:aC->Prop}{l:List aC}(h:eN P l)(c:P a):eN P (l++[a]):=λk b=>by
 rcases eu.1 b with b|b
 ·exact h k b
 ·rw[ew.1 b];exact c
section
variable {ts:List aX} {E:Nat->bS aC}
def rY(ts:List aX):Prop:=∀p,(aP ts p).sort=115->NN (aP ts p).x_
def rA(d:∀q,bM dC (E q)):∀(g p:Nat) (acc:List aC),eN dC acc->bM (eN dC) (dI E ts g p acc)
 |0,p,acc,_=>bM.err
 |g+1,p,acc,c=>by
  rw[dI];cases f:E p with
  |error l=>exact bM.err
  |ok e=>
   obtain⟨a,q⟩:=e;have b:=d p a q f;simp only;split
   ·exact rA d g (q+1) _ (c.snoc b)
   ·exact bM.of_ok (c.snoc b)
def qZ(a:∀q,bM dC (E q))(p:Nat)(x y:List UInt8):bM (eN dC) (eK E ts p x y):=by
 unfold eK;split
 ·refine bM.take ?_;unfold iD;split
  ·exact bM.of_ok eN.nil
  ·exact rA a _ _ _ eN.nil
 ·exact bM.bad
def GD(b:rY ts)(c:∀q,bM dC (E q))(p:Nat):bM dC (dU E ts p):=by
 unfold dU;split
 ·rename_i h;simp at h;rcases h with h|h
  ·refine bM.of_ok (.leaf _ (d7 (by show [UInt8.ofNat _]=_;rw[h];rfl)) rfl λe=>?_)
   have d:[UInt8.ofNat (aP ts p).sort]=[115]:=e;rw[h] at d;exact absurd d d_
  ·exact bM.of_ok (.leaf _ (d6 (d7 (by show [UInt8.ofNat _]=_;rw[h];rfl))) rfl λ_=>b p h)
 split
 ·exact bM.of_ok (.leaf _ (d6 (d6 (d7 rfl))) rfl λe=>by simp[aS] at e)
 split
 ·exact(c (p+1)).take
 split
 ·exact bM.map (qZ c p _ _) λa h=>.many _ (d7 rfl) h
 split
 ·split
  ·exact bM.map (qZ c (p+1) _ _) λa h=>.many _ (d6 rfl) h
  ·exact bM.of_ok (.leaf _ (d6 (d6 (d6 rfl))) rfl λe=>by simp[aS] at e)
 ·exact bM.bad
def yJ(b:∀q,bM dC (E q)):∀(g:Nat) (n:aC) (p:Nat),dC n->bM dC (cZ E ts g n p)
 |0,n,p,_=>bM.err
 |g+1,n,p,a=>by
  rw[cZ];split
  ·have c:=(b (p+1)).take (ts:=ts) (x:=[93]);cases d:aN ts [93] (E (p+1)) with
   |error l=>exact bM.err
   |ok e=>
    obtain⟨i,q⟩:=e;exact yJ b g _ q (.two _ n i (d7 rfl) rfl a (c i q d))
  ·exact bM.of_ok a
def qX(b:rY ts)(c:∀q,bM dC (E q)):∀(g p:Nat),bM dC (eH E ts g p)
 |0,p=>bM.err
 |g+1,p=>by
  rw[eH];split
  ·exact bM.map (qX b c g (p+1)) λa h=>.one _ a (d7 rfl) rfl h
  split
  ·exact bM.map (qX b c g (p+1)) λa h=>.one _ a (d6 rfl) rfl h
  ·exact bM.bind (GD b c p) λa q d=>yJ c _ a q d
def pZ{L:Nat->bS aC}{k:Nat}(b:k<9)(d:∀q,bM dC (L q)):∀(g:Nat) (n:aC) (q:Nat),dC n->bM dC (bE L ts k g n q)
 |0,n,q,_=>bM.err
 |g+1,n,q,c=>by
  rw[bE];split
  ·rename_i a;cases j:L (q+1) with
   |error l=>exact bM.err
   |ok h=>
    obtain⟨r,e⟩:=h;have i:=d _ r e j;have f:dC (aS (aP ts q).x_ (aP ts q).l_ [] [n,r]):=.two _ n r (d6 (by simp at a;show cB (aP ts q).x_≠9;rw[a.2];omega)) rfl c i
    simp only;split
    ·exact bM.of_ok f
    ·exact pZ b d g _ e f
  ·exact bM.of_ok c
def rC(b:rY ts)(c:∀q,bM dC (E q)):∀(j p:Nat),bM dC (fL E ts j p)
 |0,p=>qX b c _ p
 |j+1,p=>by
  rw[fL];exact bM.bind (rC b c j p) λa q d=>pZ o_ (λq=>rC b c j q) _ a q d
def DD(ts:List aX)(a:rY ts):∀(f p:Nat),bM dC (fC ts f p)
 |0,p=>bM.err
 |f+1,p=>by
  rw[fC];exact rC a (λq=>DD ts a f q) 5 p
def tD(b:∀q,bM dC (E q)):∀(g p:Nat) (acc:List aC),eN dC acc->bM (eN dC) (eP E ts g p acc)
 |0,p,acc,_=>bM.err
 |g+1,p,acc,a=>by
  rw[eP];split
  ·have c:=(b (p+1)).take (ts:=ts) (x:=[93]);cases d:aN ts [93] (E (p+1)) with
   |error l=>exact bM.err
   |ok e=>
    obtain⟨i,q⟩:=e;exact tD b g q _ (a.snoc (c i q d))
  ·exact bM.of_ok a
def LN(b:∀q,bM dC (E q))(p:Nat):bM gA (eO E ts p):=by
 unfold eO;split
 ·split
  ·exact bM.take (bM.map (qZ b (p+1) _ _) λa h=>.call _ _ rfl rfl (.many _ (d6 rfl) h) rfl)
  ·refine bM.bind ((tD b _ (p+1) [] eN.nil).take) λl q d=>?_
   exact bM.take (bM.map (b q) λv c=>.set _ rfl (by simp[aS]) (d.snoc c))
 ·exact bM.bad
def UO{B:Nat->bS aC}(a:∀q,bM dC (E q))(h:∀q,bM NT (B q))(p:Nat):bM gA (jC E B ts p):=by
 unfold jC;split
 ·unfold pA;split
  ·split
   ·exact bM.take (bM.map (a (p+3)) λv e=>.var _ _ v rfl rfl e ⟨rfl,rfl⟩)
   ·exact bM.bad
  ·exact bM.bad
 split
 ·unfold rI;refine bM.bind (a (p+1)) λc q f=>bM.bind (h q) λb k g=>?_
  split
  ·exact bM.map (h (k+1)) λd i=>.if3 _ c b d rfl rfl f g.op g.y_ i.op i.y_
  ·exact bM.of_ok (.if2 _ c b rfl rfl f g.op g.y_)
 split
 ·unfold kM;exact bM.bind (a (p+1)) λc q f=>bM.map (h q) λb j=>.whl _ c b rfl rfl f j.op j.y_
 split
 ·unfold gU;split
  ·exact bM.of_ok (.ret0 _ rfl rfl)
  ·exact bM.take (bM.map (a (p+1)) λv e=>.ret1 _ v rfl rfl e)
 split
 ·unfold iU;exact bM.take (bM.map (a (p+1)) λv e=>.print _ v rfl rfl e)
 ·exact LN a p
def qA{S:Nat->bS aC}(b:∀q,bM gA (S q)):∀(g p:Nat) (acc:List aC),eN gA acc->bM (eN gA) (dJ S ts g p acc)
 |0,p,acc,_=>bM.err
 |g+1,p,acc,a=>by
  rw[dJ];split
  ·exact bM.of_ok a
  ·cases c:S p with
   |error l=>exact bM.err
   |ok d=>
    obtain⟨s,q⟩:=d;exact qA b g q _ (a.snoc (b p s q c))
def yK(a:∀q,bM dC (E q)):∀(f p:Nat),bM NT (iX E ts f p)
 |0,p=>bM.err
 |f+1,p=>by
  rw[iX];split
  ·exact bM.map (bM.take (qA (λq=>UO a (λq=>yK a f q) q) _ (p+1) [] eN.nil)) λl h=>⟨rfl,h⟩
  ·exact bM.bad
def pY:∀(g p:Nat) (acc:List aC),eN (λx=>x.op=[112,97,114,97,109]/\x.y_=[]) acc->bM (eN λx=>x.op=[112,97,114,97,109]/\x.y_=[]) (cR ts g p acc)
 |0,p,acc,_=>bM.err
 |g+1,p,acc,b=>by
  have a:eN (λx=>x.op=[112,97,114,97,109]/\x.y_=[]) (acc++[aS [112,97,114,97,109] (aP ts p).l_ (aP ts p).x_ []]):=b.snoc ⟨rfl,rfl⟩
  rw[cR];split
  ·split
   ·exact pY g (p+2) _ a
   ·exact bM.of_ok a
  ·exact bM.bad
def UP{B:Nat->bS aC}(e:∀q,bM NT (B q))(p:Nat):bM rZ (jZ B ts p):=by
 unfold jZ;split
 ·split
  ·split
   ·have a:bM (eN λx=>x.op=[112,97,114,97,109]/\x.y_=[]) (gW ts (p+3)):=by
     unfold gW;refine bM.take ?_;split
     ·exact bM.of_ok eN.nil
     ·exact pY _ (p+3) [] eN.nil
    exact bM.bind a λl q d=>bM.map (e q) λb f=>⟨l,b,rfl,λx c=>(d x c).1,f,λx c=>(d x c).2⟩
   ·exact bM.bad
  ·exact bM.bad
 ·exact bM.bad
def qY{F:Nat->bS aC}(b:∀q,bM rZ (F q)):∀(g p:Nat) (acc:List aC),eN rZ acc->bM (eN rZ) (eQ F ts g p acc)
 |0,p,acc,_=>bM.err
 |g+1,p,acc,a=>by
  rw[eQ];split
  ·exact bM.of_ok a
  ·cases d:F p with
   |error l=>exact bM.err
   |ok c=>
    obtain⟨s,q⟩:=c;exact qY b g q _ (a.snoc (b p s q d))
end
def cQ.split{a b:List UInt8}{c:UInt8}(G:c.toNat<128)(h:cQ (a++c::b)):cQ a/\cQ b:=by
 generalize w:a++c::b=l at h;induction h generalizing a with
 |nil=>simp at w
 |cons o r F=>
  subst w;cases a with
  |nil=>
   have e:bF ([]++c::b)=1:=by simp[bF,G]
   rw[e] at r;exact⟨.nil,by simpa using r⟩
  |cons x a=>
   have q:bF (x::a++c::b)<=(x::a).length:=by
    refine Nat.le_of_not_lt λd=>?_
    have D:∀i g j,128<=g->i=a.length+1->dE (x::a++c::b) i g j=false:=λi g j s p=>by
     subst p;have:(x::a++c::b)[a.length+1]?=some c:=s_
     unfold dE;rw[this];simp;omega
    have f:∀i g j,128<=g->dE (x::a++c::b) i g j=true->i≠a.length+1:=λi g j s t e=>by rw[D i g j s e] at t;cases t
    unfold bF at o d;rw[eo] at d;simp only[gb,List.getElem?_cons_zero] at o d f;have k:∀n m:Nat,128<=m->128<=(if x.toNat=n then m else 128):=λn m h=>by split<;>omega
    by_cases u:x.toNat<128
    ·rw[if_pos u] at d;omega
    rw[if_neg u] at d;by_cases v:194<=x.toNat/\x.toNat<=223
    ·rw[if_pos v] at d;by_cases h:dE (x::(a++c::b)) 1 128 191=true
     ·rw[if_pos h] at d;have:=f _ _ _ o_ h;omega
     ·rw[if_neg h] at d;omega
    rw[if_neg v] at d;by_cases y:224<=x.toNat/\x.toNat<=239
    ·rw[if_pos y] at d;by_cases h:(dE (x::(a++c::b)) 1 (if x.toNat=224 then 160 else 128) (if x.toNat=237 then 159 else 191) && dE (x::(a++c::b)) 2 128 191)=true
     ·rw[if_pos h] at d;rw[gd] at h;have C:=f _ _ _ (k _ _ o_) h.1
      have H:=f _ _ _ o_ h.2
      omega
     ·rw[if_neg h] at d;omega
    rw[if_neg y] at d;by_cases z:240<=x.toNat/\x.toNat<=244
    ·rw[if_pos z] at d;by_cases h:(dE (x::(a++c::b)) 1 (if x.toNat=240 then 144 else 128) (if x.toNat=244 then 143 else 191) && dE (x::(a++c::b)) 2 128 191 && dE (x::(a++c::b)) 3 128 191)=true
     ·rw[if_pos h] at d;rw[gd,gd] at h;have C:=f _ _ _ (k _ _ o_) h.1.1
      have H:=f _ _ _ o_ h.1.2
      have I:=f _ _ _ o_ h.2
      omega
     ·rw[if_neg h] at d;omega
    ·rw[if_neg z] at d;omega
   have B:(x::a++c::b).drop (bF (x::a++c::b))=(x::a).drop (bF (x::a++c::b))++c::b:=by rw[List.drop_append_of_le_length q]
   obtain⟨A,E⟩:=F B.symm;refine⟨?_,E⟩;have e:bF (x::a)=bF (x::a++c::b):=nM o λi j=>(g9 o_).symm
   exact .cons (by rw[e];exact o) (by rw[e];exact A)
def pR:∀(f:Nat) (l:List UInt8) (p:Nat),l.length<=f->dO f l p=none->cQ l
 |0,l,_,h,_=>by
  obtain rfl:l=[]:=ge o_
  exact .nil
 |f+1,l,p,h,a=>by
  rw[dO] at a;split at a
  ·rename_i c;obtain rfl:l=[]:=ge c;exact .nil
  split at a
  ·cases a
  rename_i b;exact .cons b (pR f _ _ (by rw[gt];omega) a)
def OB(f:Nat):∀(b l:List UInt8) (ts:List aX),eI f b l=.ok ts->cQ (b++l)->∀t∈ts,t.sort=115->NN t.x_:=by
 induction f with
 |zero=>intro b l ts h;cases h
 |succ f w=>
  intro b l ts h q t e a;by_cases g:l.length=0
  ·rw[mK _ _ _ g] at h;cases h;rw[ew.1 e] at a;cases a
  ·cases d:(cA l).ok
   ·rw[mL _ _ _ g d] at h;cases h
   ·rw[lY _ _ _ g d _ rfl] at h;generalize x:(cA l).size+blankL l.length (l.drop (cA l).size)=m at h;cases j:eI f (b++l.take m) (l.drop m) with
    |error n=>rw[j] at h;cases h
    |ok v=>
     rw[j] at h;cases h;rcases ep.1 e with rfl|e
     ·cases l with
      |nil=>simp at g
      |cons c r=>
       rw[cA] at a d ⊢
       by_cases o:(eA c || fB c)=true
       ·rw[if_pos o] at a;exfalso;unfold gJ at a;split at a
        ·simp only at a;split at a<;>omega
        ·simp at a
       rw[if_neg o] at a d ⊢
       by_cases k:c.toNat=34
       ·rw[if_pos k] at d ⊢
        simp only[nT,gd,decide_eq_true_eq] at d;refine⟨by simp only[nT,gr];omega,?_⟩
        have u:r=r.take (bL fA r)++34::r.drop (bL fA r+1):=by
         obtain⟨i,s⟩:=gv.1 d.1;conv=>lhs;rw[<-gz (bL fA r) r,jz i,s]
        have p:=(q.split o_).2
        rw[u] at p;exact(p.split d_).1
       ·rw[if_neg k] at a;exfalso;unfold gH at a;split at a<;>simp at a
     ·exact w _ _ v j (by rw[gl,gz];exact q) t e a
def FF(h:gF l=.ok ts)(c:dO l.length l 0=none):rY ts:=λp a=>by
 unfold aP at a ⊢
 cases b:ts[p]? with
 |none=>rw[b] at a;cases a
 |some t=>
  rw[b] at a;exact OB _ _ _ _ h (by rw[gz];exact pR _ _ _ (eh _) c) t (hC b) a
def vL(h:cW l=.ok ks):∀f∈ks,rZ f:=by
 unfold cW at h;split at h
 ·cases h
 split at h
 ·cases h
 rename_i a;split at h
 ·cases h
 rename_i c d;split at h
 ·cases h
 rename_i q b;cases h;exact qY (λq=>UP (λe=>yK (λq=>DD c (FF d a) _ q) _ e) q) _ _ _ eN.nil _ _ b
def pI(s:aZ)(l k:Nat)(h:s.kind≠0):(s.found l k).kind≠0:=by unfold aZ.found;rw[if_neg h];exact h
def qB(s:aZ)(n:aC)(h:s.kind≠0):(declaresL s n).kind≠0:=by
 unfold declaresL;split
 ·exact pI _ _ _ h
 ·exact h
def QH(fs:List aC)(a:Bool)(s:aZ)(n:aC)(h:s.kind≠0):(cF fs a s n).kind≠0:=by
 unfold cF eB;repeat' split
 all_goals first|exact pI _ _ _ h|exact h
def gP{f:aZ->aC->aZ}(a:∀s k,s.kind≠0->(f s k).kind≠0):∀(l:List aC) (s:aZ),s.kind≠0->(l.foldl f s).kind≠0
 |[],_,h=>h
 |k::l,s,h=>gP a l _ (a s k h)
def fF(fs:List aC)(a:Bool):∀(d:Nat) (n:aC) (s:aZ),s.kind≠0->(aO fs a d n s).kind≠0
 |0,_,_,h=>h
 |d+1,n,s,h=>by
  rw[aO];split
  ·split
   ·exact fF fs a d _ _ (qB s _ h)
   ·exact h
  ·have b:(n.y_.foldl (λs k=>aO fs a d k s) (cF fs a s n)).kind≠0:=gP (λs k c=>fF fs a d k s c) _ _ (QH fs a s n h)
   simp only;split<;>exact b
def ExOk.up{b:Bool}:∀{d e:Nat} {a:aC},ExOk fs b e_ d a->d<=e->ExOk fs b e_ e a
 |0,_,_,h,_=>h.elim
 |d+1,0,_,_,h=>by omega
 |d+1,e+1,a,h,m=>by
  have g:∀k,ExOk fs b e_ d k->ExOk fs b e_ e k:=λk c=>ExOk.up c o_
  rcases h with h|h|⟨f,c⟩|⟨f,l,r,c,i,j⟩|⟨f,l,c,i⟩|⟨f,c,n⟩|⟨f,l,r,c,i,j⟩
  ·exact d7 h
  ·exact d6 (d7 h)
  ·exact d6 (d6 (d7 ⟨f,λk h=>g k (c k h)⟩))
  ·exact d6 (d6 (d6 (d7 ⟨f,l,r,c,g l i,g r j⟩)))
  ·exact d6 (d6 (d6 (d6 (d7 ⟨f,l,c,g l i⟩))))
  ·exact d6 (d6 (d6 (d6 (d6 (d7 ⟨f,λk h=>g k (c k h),n⟩)))))
  ·exact d6 (d6 (d6 (d6 (d6 (d6 ⟨f,l,r,c,g l i,g r j⟩)))))
def StsOk.up{S b:List (List UInt8)->aC->Prop}(h:∀s a,S s a->b s a):∀{l:List aC} {e_:List (List UInt8)},StsOk S e_ l->StsOk b e_ l
 |[],_,_=>trivial
 |_::_,_,c=>⟨h _ _ c.1,StsOk.up h c.2⟩
def dD.up:∀{d e:Nat} {e_:List (List UInt8)} {a:aC},dD fs d e_ a->d<=e->dD fs e e_ a
 |0,_,_,_,h,_=>h.elim
 |d+1,0,_,_,_,h=>by omega
 |d+1,e+1,e_,a,h,w=>by
  have j:∀k,ExOk fs false e_ d k->ExOk fs false e_ e k:=λk f=>f.up o_
  have i:∀l,StsOk (dD fs d) e_ l->StsOk (dD fs e) e_ l:=λl z=>z.up λs a h=>dD.up h o_
  rcases h with ⟨g,o,t,v,f,m,p⟩|⟨g,p,n,f⟩|⟨g,c,t,f,q,u⟩|⟨g,c,b,f,q,o⟩|⟨g,f|⟨v,f,m⟩⟩|⟨g,v,f,m⟩|⟨g,v,f,m⟩
  ·exact d7 ⟨g,o,t,v,f,j v m,p⟩
  ·exact d6 (d7 ⟨g,p,n,λk h=>j k (f k h)⟩)
  ·exact d6 (d6 (d7 ⟨g,c,t,f.imp id λ⟨x,y,r⟩=>⟨x,y,i _ r⟩,j c q,i _ u⟩))
  ·exact d6 (d6 (d6 (d7 ⟨g,c,b,f,j c q,i _ o⟩)))
  ·exact d6 (d6 (d6 (d6 (d7 ⟨g,d7 f⟩))))
  ·exact d6 (d6 (d6 (d6 (d7 ⟨g,d6 ⟨v,f,j v m⟩⟩))))
  ·exact d6 (d6 (d6 (d6 (d6 (d7 ⟨g,v,f,j v m⟩)))))
  ·exact d6 (d6 (d6 (d6 (d6 (d6 ⟨g,v,f,j v m⟩)))))
def iA{l k:Nat}(a:k≠0)(h:(s.found l k).kind=0):False:=by
 unfold aZ.found at h;split at h
 ·exact a h
 ·rename_i b;exact b h
def uJ{f:aC}{a:List UInt8}:∀{fs:List aC},dM fs a=some f->fs[cS fs a]?=some f
 |[],h=>by simp[dM] at h
 |x::l,h=>by
  unfold dM cS at*;rw[List.find?_cons] at h;rw[List.findIdx_cons];cases b:(x.x_==a) with
  |true=>rw[b] at h;simp at h;simp[h]
  |false=>
   rw[b] at h;simp only[cond_false,List.getElem?_cons_succ];exact uJ (fs:=l) h
def mX(fs:List aC)(a_:Bool)(d:Nat)(a:aC):Prop:=
 ∀sn,(aO fs a_ d a ⟨sn,0,0⟩).kind=0->aO fs a_ d a ⟨sn,0,0⟩=⟨sn,0,0⟩/\ExOk fs a_ sn.reverse d a
def jQ{b:Bool}:∀(l:List aC) (c:List (List UInt8)),(∀k∈l,mX fs b d k)->(l.foldl (λs k=>aO fs b d k s) ⟨c,0,0⟩).kind=0->
 l.foldl (λs k=>aO fs b d k s) ⟨c,0,0⟩=⟨c,0,0⟩/\∀k∈l,ExOk fs b c.reverse d k
 |[],c,_,_=>⟨rfl,λk e=>by cases e⟩
 |a::l,c,h,f=>by
  rw[im] at f ⊢
  have j:(aO fs b d a ⟨c,0,0⟩).kind=0:=hH λg=>gP (λs k p=>fF fs b d k s p) l _ g f
  obtain⟨n,i⟩:=h a (ft ..) c j;rw[n] at f ⊢
  obtain⟨o,m⟩:=jQ l c (λk e=>h k (fg _ e)) f
  refine⟨o,λk e=>?_⟩
  rcases ep.1 e with rfl|e
  ·exact i
  ·exact m k e
def fJ{a:Bool}{n:aC}(c:n.op≠[118,97,114])(b:n.op≠[98,108,111,99,107]):aO fs a (d+1) n s=n.y_.foldl (λs k=>aO fs a d k s) (cF fs a s n):=by
 rw[aO];rw[if_neg (by simpa using c)]
 simp only;rw[if_neg (by simpa using b)]
def look_plain{a:Bool}{n:aC}(c:n.op≠[115,101,116])(b:n.op≠[110,97,109,101])(d:n.op≠[99,97,108,108]):cF fs a s n=s:=by
 unfold cF;rw[if_neg (by simp[c,b]),if_neg (by simpa using d)]
def oV{b:Bool}(p:∀f∈fs,f.y_≠[])(t:b=true->fs=[]):∀(d:Nat) (a:aC),dC a->eR d a->mX fs b d a
 |0,_,_,h=>h.elim
 |d+1,a,K,H=>by
  intro w n
  have two:∀(l r:aC),a.y_=[l,r]->dC l->dC r->∀k∈a.y_,mX fs b d k:=λl r j D E k c=>by
   have x:=H k c;rw[j] at c;rcases ep.1 c with rfl|c
   ·exact oV p t d _ D x
   ·obtain rfl:=ew.1 c;exact oV p t d _ E x
  have C:a.op≠[118,97,114]/\a.op≠[98,108,111,99,107]:=by
   cases K with
   |leaf _ h=>rcases h with h|h|h|h<;>rw[h]<;>decide
   |many _ h=>rcases h with h|h<;>rw[h]<;>decide
   |one _ l h=>rcases h with h|h<;>rw[h]<;>decide
   |two _ l r h=>
    rcases h with h|h
    ·rw[h];decide
    ·exact⟨λe=>by rw[e] at h;exact h d_,λe=>by rw[e] at h;exact h d_⟩
  rw[fJ C.1 C.2] at n ⊢
  have i:(cF fs b ⟨w,0,0⟩ a).kind=0:=hH λA=>gP (λs k N=>fF fs b d k s N) a.y_ _ A n
  cases K with
  |leaf _ h j=>
   rw[j] at n ⊢
   simp only[jr] at n ⊢
   rcases h with h|h|h|h
   ·exact⟨look_plain (by rw[h];decide) (by rw[h];decide) (by rw[h];decide),d7 ⟨d7 h,j⟩⟩
   ·exact⟨look_plain (by rw[h];decide) (by rw[h];decide) (by rw[h];decide),d7 ⟨d6 (d7 h),j⟩⟩
   ·exact⟨look_plain (by rw[h];decide) (by rw[h];decide) (by rw[h];decide),d7 ⟨d6 (d6 h),j⟩⟩
   ·unfold cF at i ⊢
    rw[if_pos (by simp[h])] at i ⊢
    split at i
    ·rename_i L;rw[if_pos L];exact⟨rfl,d6 (d7 ⟨h,j,by simpa using L⟩)⟩
    ·exact(iA d_ i).elim
  |many _ h j=>
   have F:∀k∈a.y_,mX fs b d k:=λk c=>oV p t d k (j k c) (H k c)
   rcases h with h|h
   ·rw[look_plain (by rw[h];decide) (by rw[h];decide) (by rw[h];decide)] at n ⊢
    obtain⟨B,u⟩:=jQ a.y_ w F n;exact⟨B,d6 (d6 (d7 ⟨h,u⟩))⟩
   ·have e:cF fs b ⟨w,0,0⟩ a=eB fs b ⟨w,0,0⟩ a:=by unfold cF;rw[if_neg (by simp[h]),if_pos (by simp[h])]
    rw[e] at n i ⊢
    unfold eB at n i ⊢
    split at i
    ·exact(iA d_ i).elim
    rename_i y;rw[if_neg y] at n ⊢
    split at i
    ·exact(iA d_ i).elim
    rename_i m;rw[if_neg m] at n ⊢
    obtain⟨B,u⟩:=jQ a.y_ w F n;refine⟨B,d6 (d6 (d6 (d6 (d6 (d7 ⟨h,u,?_⟩)))))⟩;simp only[ne_eq,Decidable.not_not] at m;unfold mB at y m;by_cases o:a.x_=[108,101,110]
    ·rw[if_pos (by simp[o])] at m
     exact d7 ⟨o,o_⟩
    rw[if_neg (by simp[o])] at y m
    by_cases g:a.x_=[114,101,97,100]/\b=false
    ·rw[if_pos (by simp[g])] at m
     exact d6 (d7 ⟨g.1,g.2,o_⟩)
    have v:¬((a.x_==[114,101,97,100] && !b)=true):=by
     intro J;simp at J;exact g J
    rw[if_neg v] at y m;cases G:dM fs a.x_ with
    |none=>rw[G] at y;simp at y
    |some f=>
     rw[G] at y m;simp only at y m;have q:f∈fs:=ja G;have A:=p f q;have I:0<f.y_.length:=ib.2 A
     have z:b=false:=by
      cases b with
      |false=>rfl
      |true=>rw[t rfl] at q;cases q
     refine d6 (d6 ⟨o,λE=>g ⟨E,z⟩,z,?_⟩)
     unfold fH;rw[uJ G];simp;omega
  |one _ l h j D=>
   have F:∀k∈a.y_,mX fs b d k:=λk c=>by
    have x:=H k c;rw[j] at c;obtain rfl:=ew.1 c;exact oV p t d _ D x
   rw[look_plain (by rcases h with h|h<;>rw[h]<;>decide) (by rcases h with h|h<;>rw[h]<;>decide) (by rcases h with h|h<;>rw[h]<;>decide)] at n ⊢
   obtain⟨B,u⟩:=jQ a.y_ w F n;exact⟨B,d6 (d6 (d6 (d6 (d7 ⟨h,l,j,u l (by rw[j];simp)⟩))))⟩
  |two _ l r h j D E=>
   have M:cF fs b ⟨w,0,0⟩ a=⟨w,0,0⟩:=by
    rcases h with h|h
    ·exact look_plain (by rw[h];decide) (by rw[h];decide) (by rw[h];decide)
    ·exact look_plain (λe=>by rw[e] at h;exact h d_) (λe=>by rw[e] at h;exact h d_) (λe=>by rw[e] at h;exact h d_)
   rw[M] at n ⊢
   obtain⟨B,u⟩:=jQ a.y_ w (two l r j D E) n;refine⟨B,?_⟩;rcases h with h|h
   ·exact d6 (d6 (d6 (d7 ⟨h,l,r,j,u l (by rw[j];simp),u r (by rw[j];simp)⟩)))
   ·exact d6 (d6 (d6 (d6 (d6 (d6 ⟨h,l,r,j,u l (by rw[j];simp),u r (by rw[j];simp)⟩)))))
def sQ(fs:List aC)(d:Nat)(a:aC):Prop:=
 ∀sn,sn.length+bX d a<=90000->(aO fs false d a ⟨sn,0,0⟩).kind=0->∃sn',aO fs false d a ⟨sn,0,0⟩=⟨sn',0,0⟩/\sn'.reverse=cO sn.reverse a/\dD fs d sn.reverse a/\sn'.length<=sn.length+bX d a/\sn=sn'.take sn.length
def yF:∀(l:List aC) (b:List (List UInt8)),(∀k∈l,sQ fs d k)->b.length+(l.map (bX d)).sum<=90000->(l.foldl (λs k=>aO fs false d k s) ⟨b,0,0⟩).kind=0->
 ∃c,l.foldl (λs k=>aO fs false d k s) ⟨b,0,0⟩=⟨c,0,0⟩/\StsOk (dD fs d) b.reverse l/\c.length<=b.length+(l.map (bX d)).sum/\b=c.take b.length
 |[],b,_,_,_=>⟨b,rfl,trivial,s_,s_⟩
 |a::l,b,h,t,f=>by
  rw[im] at f ⊢
  simp only[fe,ff] at t ⊢
  have o:(aO fs false d a ⟨b,0,0⟩).kind=0:=hH λg=>gP (λs k v=>fF fs false d k s v) l _ g f
  obtain⟨i,q,n,u,z,m⟩:=h a (ft ..) b o_ o
  rw[q] at f ⊢
  obtain⟨j,w,r,A,x⟩:=yF l i (λk p=>h k (fg _ p)) o_ f
  refine⟨j,w,⟨u,by rw[<-n];exact r⟩,o_,?_⟩
  have y:b.length<=i.length:=by have:=congrArg List.length m;simp only[gr] at this;omega
  have e:i.take b.length=j.take b.length:=by
   conv=>lhs;rw[x]
   rw[jd];congr 1;omega
  rw[<-e];exact m
def FD{b:aC}{a c:List (List UInt8)}(e:b.op=[98,108,111,99,107])(h:b.y_.foldl (λs k=>aO fs false d k s) ⟨a,0,0⟩=⟨c,0,0⟩)(f:a=c.take a.length):aO fs false (d+1) b ⟨a,0,0⟩=⟨a,0,0⟩:=by
 rw[aO,if_neg (by simp[e])]
 have:cF fs false ⟨a,0,0⟩ b=⟨a,0,0⟩:=look_plain (by rw[e];decide) (by rw[e];decide) (by rw[e];decide)
 simp only[this,h];rw[if_pos (by simp[e])]
 congr 1
 exact f.symm
def tS{b:aC}{c:List (List UInt8)}(a:b.op=[98,108,111,99,107])(h:(aO fs false (d+1) b ⟨c,0,0⟩).kind=0):(b.y_.foldl (λs k=>aO fs false d k s) ⟨c,0,0⟩).kind=0:=by
 rw[aO,if_neg (by simp[a])] at h
 have:cF fs false ⟨c,0,0⟩ b=⟨c,0,0⟩:=look_plain (by rw[a];decide) (by rw[a];decide) (by rw[a];decide)
 simp only[this] at h;rw[if_pos (by simp[a])] at h
 exact h
def kB{b:aC}{a:List (List UInt8)}(c:b.op=[98,108,111,99,107])(j:∀k∈b.y_,sQ fs d k)(e:a.length+bX (d+1) b<=90000)(h:(aO fs false (d+1) b ⟨a,0,0⟩).kind=0):
 aO fs false (d+1) b ⟨a,0,0⟩=⟨a,0,0⟩/\StsOk (dD fs d) a.reverse b.y_:=by
 rw[bX] at e;obtain⟨l,i,f,m,g⟩:=yF b.y_ a j o_ (tS c h)
 exact⟨FD c i g,f⟩
def NY{x y:aC}(b:a.y_=[x,y])(f:a.op≠[118,97,114])(e:a.op≠[98,108,111,99,107])(c:cF fs false s a=s):aO fs false (d+1) a s=aO fs false d y (aO fs false d x s):=by
 rw[fJ f e,c,b];rfl
def L7{x y z:aC}(b:a.y_=[x,y,z])(f:a.op≠[118,97,114])(e:a.op≠[98,108,111,99,107])(c:cF fs false s a=s):aO fs false (d+1) a s=aO fs false d z (aO fs false d y (aO fs false d x s)):=by
 rw[fJ f e,c,b];rfl
def IM{k:aC}(h:k∈a.y_):bX d k+1<=bX (d+1) a:=by
 rw[bX]
 have:∀l:List aC,k∈l->bX d k<=(l.map (bX d)).sum:=by
  intro l;induction l with
  |nil=>intro h;cases h
  |cons x l b=>
   intro h;simp only[fe,ff];rcases ep.1 h with rfl|h
   ·omega
   ·have:=b h;omega
 have:=this _ h;omega
def IT(J:∀f∈fs,f.y_≠[]):∀(d:Nat) (a:aC),gA a->eR d a->sQ fs d a
 |0,_,_,h=>h.elim
 |1,a,U,L=>by
  have o:∀k∈a.y_,False:=λk b=>L k b
  intro g W j;cases U with
  |var _ t v h b A=>exact(o t (by rw[b];simp)).elim
  |set _ h T b=>cases G:a.y_ with|nil=>exact(T G).elim|cons x l=>exact(o x (by rw[G];simp)).elim
  |if2 _ c t h b=>exact(o c (by rw[b];simp)).elim
  |if3 _ c t x h b=>exact(o c (by rw[b];simp)).elim
  |whl _ c t h b=>exact(o c (by rw[b];simp)).elim
  |ret1 _ v h b=>exact(o v (by rw[b];simp)).elim
  |print _ v h b=>exact(o v (by rw[b];simp)).elim
  |call _ c h b=>exact(o c (by rw[b];simp)).elim
  |ret0 _ h b=>
   have n:cF fs false ⟨g,0,0⟩ a=⟨g,0,0⟩:=look_plain (by rw[h];decide) (by rw[h];decide) (by rw[h];decide)
   refine⟨g,by rw[fJ (by rw[h];decide) (by rw[h];decide),n,b];rfl,by unfold cO;rw[if_neg (by rw[h];decide)],?_,o_,s_⟩
   exact d6 (d6 (d6 (d6 (d7 ⟨h,d7 b⟩))))
 |d+2,a,U,L=>by
  intro g W j;have p:∀k,k∈a.y_->dC k->mX fs false (d+1) k:=λk b Z=>oV J (λh=>by cases h) (d+1) k Z (L k b)
  have z:∀k,k∈a.y_->(∀x∈k.y_,gA x)->∀x∈k.y_,sQ fs d x:=λk b S x M=>IT J d x (S x M) (L k b x M)
  have y:∀k,k∈a.y_->g.length+bX (d+1) k<=90000:=λk b=>by have:bX (d+1) k+1<=bX (d+2) a:=IM (d:=d+1) b;omega
  have i:a.op≠[118,97,114]->g.reverse=cO g.reverse a:=λh=>by unfold cO;rw[if_neg h]
  cases U with
  |var _ t v h b A=>
   have e:aO fs false (d+2) a ⟨g,0,0⟩={ aO fs false (d+1) v (declaresL ⟨g,0,0⟩ t) with e_:=(aO fs false (d+1) v (declaresL ⟨g,0,0⟩ t)).e_++[t.x_] }:=by
    rw[aO,if_pos (by simp[h]),b]
   rw[e] at j ⊢
   have D:(declaresL ⟨g,0,0⟩ t).kind=0:=hH λm=>fF fs false (d+1) v _ m j
   obtain⟨N,O⟩:declaresL ⟨g,0,0⟩ t=⟨g,0,0⟩/\t.x_∉g:=by
    unfold declaresL at D ⊢
    split at D
    ·exact(iA d_ D).elim
    ·rename_i P;rw[if_neg P];simp at P;exact⟨rfl,P.2⟩
   rw[N] at j ⊢
   obtain⟨r,q⟩:=p v (by rw[b];simp) A g j
   rw[r];have X:bX (d+1) v+1<=bX (d+2) a:=IM (d:=d+1) (a:=a) (k:=v) (by rw[b];simp)
   refine⟨g++[t.x_],rfl,?_,d7 ⟨h,t_,t,v,b,q,by simpa using O⟩,t_,s_⟩
   unfold cO;rw[if_pos h,b];simp
  |set _ h T b=>
   rw[fJ (by rw[h];decide) (by rw[h];decide)] at j ⊢
   have w:(cF fs false ⟨g,0,0⟩ a).kind=0:=hH λm=>gP (λs k S=>fF fs false (d+1) k s S) a.y_ _ m j
   have n:cF fs false ⟨g,0,0⟩ a=⟨g,0,0⟩/\a.x_∈g:=by
    unfold cF at w ⊢
    rw[if_pos (by simp[h])] at w ⊢
    split at w
    ·rename_i B;rw[if_pos B];exact⟨rfl,by simpa using B⟩
    ·exact(iA d_ w).elim
   rw[n.1] at j ⊢
   obtain⟨r,q⟩:=jQ a.y_ g (λk H=>p k H (b k H)) j
   exact⟨g,r,i (by rw[h];decide),d6 (d7 ⟨h,by simpa using n.2,T,q⟩),o_,s_⟩
  |if2 _ c t h b B F u=>
   have n:cF fs false ⟨g,0,0⟩ a=⟨g,0,0⟩:=look_plain (by rw[h];decide) (by rw[h];decide) (by rw[h];decide)
   rw[NY b (by rw[h];decide) (by rw[h];decide) n] at j ⊢
   have E:(aO fs false (d+1) c ⟨g,0,0⟩).kind=0:=hH λm=>fF fs false (d+1) t _ m j
   obtain⟨r,q⟩:=p c (by rw[b];simp) B g E
   rw[r] at j ⊢
   obtain⟨K,I⟩:=kB F (z t (by rw[b];simp) u) (y t (by rw[b];simp)) j
   exact⟨g,K,i (by rw[h];decide),d6 (d6 (d7 ⟨h,c,t,d7 b,q,I.up λs a h=>h.up o_⟩)),o_,s_⟩
  |if3 _ c t x h b B F u M Q=>
   have n:cF fs false ⟨g,0,0⟩ a=⟨g,0,0⟩:=look_plain (by rw[h];decide) (by rw[h];decide) (by rw[h];decide)
   rw[L7 b (by rw[h];decide) (by rw[h];decide) n] at j ⊢
   have C:(aO fs false (d+1) t (aO fs false (d+1) c ⟨g,0,0⟩)).kind=0:=hH λm=>fF fs false (d+1) x _ m j
   have E:(aO fs false (d+1) c ⟨g,0,0⟩).kind=0:=hH λm=>fF fs false (d+1) t _ m C
   obtain⟨r,q⟩:=p c (by rw[b];simp) B g E
   rw[r] at j C ⊢
   obtain⟨K,I⟩:=kB F (z t (by rw[b];simp) u) (y t (by rw[b];simp)) C
   rw[K] at j ⊢
   obtain⟨V,Y⟩:=kB M (z x (by rw[b];simp) Q) (y x (by rw[b];simp)) j
   exact⟨g,V,i (by rw[h];decide),d6 (d6 (d7 ⟨h,c,t,d6 ⟨x,b,Y.up λs a h=>h.up o_⟩,q,I.up λs a h=>h.up o_⟩)),o_,s_⟩
  |whl _ c t h b B F u=>
   have n:cF fs false ⟨g,0,0⟩ a=⟨g,0,0⟩:=look_plain (by rw[h];decide) (by rw[h];decide) (by rw[h];decide)
   rw[NY b (by rw[h];decide) (by rw[h];decide) n] at j ⊢
   have E:(aO fs false (d+1) c ⟨g,0,0⟩).kind=0:=hH λm=>fF fs false (d+1) t _ m j
   obtain⟨r,q⟩:=p c (by rw[b];simp) B g E
   rw[r] at j ⊢
   obtain⟨K,I⟩:=kB F (z t (by rw[b];simp) u) (y t (by rw[b];simp)) j
   exact⟨g,K,i (by rw[h];decide),d6 (d6 (d6 (d7 ⟨h,c,t,b,q,I.up λs a h=>h.up o_⟩))),o_,s_⟩
  |ret0 _ h b=>
   have n:cF fs false ⟨g,0,0⟩ a=⟨g,0,0⟩:=look_plain (by rw[h];decide) (by rw[h];decide) (by rw[h];decide)
   refine⟨g,by rw[fJ (by rw[h];decide) (by rw[h];decide),n,b];rfl,i (by rw[h];decide),?_,o_,s_⟩
   exact d6 (d6 (d6 (d6 (d7 ⟨h,d7 b⟩))))
  |ret1 _ v h b A=>
   have n:cF fs false ⟨g,0,0⟩ a=⟨g,0,0⟩:=look_plain (by rw[h];decide) (by rw[h];decide) (by rw[h];decide)
   rw[fJ (by rw[h];decide) (by rw[h];decide),n,b] at j ⊢
   simp only[im,jr] at j ⊢
   obtain⟨r,q⟩:=p v (by rw[b];simp) A g j
   exact⟨g,r,i (by rw[h];decide),d6 (d6 (d6 (d6 (d7 ⟨h,d6 ⟨v,b,q⟩⟩)))),o_,s_⟩
  |print _ v h b A=>
   have n:cF fs false ⟨g,0,0⟩ a=⟨g,0,0⟩:=look_plain (by rw[h];decide) (by rw[h];decide) (by rw[h];decide)
   rw[fJ (by rw[h];decide) (by rw[h];decide),n,b] at j ⊢
   simp only[im,jr] at j ⊢
   obtain⟨r,q⟩:=p v (by rw[b];simp) A g j
   exact⟨g,r,i (by rw[h];decide),d6 (d6 (d6 (d6 (d6 (d7 ⟨h,v,b,q⟩))))),o_,s_⟩
  |call _ v h b A=>
   have n:cF fs false ⟨g,0,0⟩ a=⟨g,0,0⟩:=look_plain (by rw[h];decide) (by rw[h];decide) (by rw[h];decide)
   rw[fJ (by rw[h];decide) (by rw[h];decide),n,b] at j ⊢
   simp only[im,jr] at j ⊢
   obtain⟨r,q⟩:=p v (by rw[b];simp) A g j
   exact⟨g,r,i (by rw[h];decide),d6 (d6 (d6 (d6 (d6 (d6 ⟨h,v,b,q⟩))))),o_,s_⟩
def fR:aC->Nat
 |⟨_,_,_,y_⟩=>1+(y_.attach.map λ⟨k,_⟩=>fR k).sum
def kS(a:aC):fR a=1+(a.y_.map fR).sum:=by
 obtain⟨e,d,c,b⟩:=a;rw[fR];congr 2
 simp
def yP:∀(d:Nat) (a:aC),eR d a->fR a<=bX d a
 |0,_,h=>h.elim
 |d+1,a,h=>by
  rw[kS,bX]
  have:∀l:List aC,(∀k∈l,fR k<=bX d k)->(l.map fR).sum<=(l.map (bX d)).sum:=by
   intro l;induction l with
   |nil=>intro _;simp
   |cons x l c=>
    intro h;simp only[fe,ff];have f:=h x (ft ..);have e:=c λk b=>h k (fg _ b)
    omega
  have:=this a.y_ λk b=>yP d k (h k b)
  omega
def qU{c:aC->Nat->List aH}(h:∀a p,(c a p).length<=m*fR a):∀(l:List aC) (p:Nat),(bP c l p).length<=m*(l.map fR).sum
 |[],_=>by simp[bP]
 |a::l,p=>by
  simp only[bP,ej,fe,ff,Nat.mul_add];have d:=h a p;have b:=qU h l (p+(c a p).length);omega
def mQ(fs:List aC)(e_:List (List UInt8)):∀(d:Nat) (a:aC) (p:Nat),(aG fs e_ d a p).length<=2*fR a
 |0,_,_=>by simp[aG]
 |d+1,a,p=>by
  have z:=qU (m:=2) (λa p=>mQ fs e_ d a p) a.y_ p
  have v:=kS a;have n:=λl q=>mQ fs e_ d l q
  rw[aG];simp only;generalize bP (aG fs e_ d) a.y_ p=y at z ⊢
  generalize (if (a.x_==[108,101,110])=true then aH.length else if (a.x_==[114,101,97,100])=true then aH.read else aH.call (cS fs a.x_) a.y_.length)=g
  generalize aG fs e_ d=E at*;have c:∀i:aH,(y++[i]).length<=2*fR a:=λi=>by simp only[ej,eo,ex];omega
  have b:∀i:aH,([i]:List aH).length<=2*fR a:=λi=>by simp only[eo,ex];omega
  by_cases o:(a.op==[48])=true
  ·rw[if_pos o];exact b _
  rw[if_neg o];by_cases s:(a.op==[115])=true
  ·rw[if_pos s];exact b _
  rw[if_neg s];by_cases t:(a.op==[98,111,111,108])=true
  ·rw[if_pos t];exact b _
  rw[if_neg t];by_cases x:(a.op==[110,97,109,101])=true
  ·rw[if_pos x];exact b _
  rw[if_neg x];by_cases u:(a.op==[108,105,115,116])=true
  ·rw[if_pos u];exact c _
  rw[if_neg u];by_cases w:(a.op==[105,110,100,101,120])=true
  ·rw[if_pos w];exact c _
  rw[if_neg w];by_cases k:(a.op==[45,120])=true
  ·rw[if_pos k];exact c _
  rw[if_neg k];by_cases h:(a.op==[33,120])=true
  ·rw[if_pos h];exact c _
  rw[if_neg h];by_cases j:(a.op==[99,97,108,108])=true
  ·rw[if_pos j];exact c _
  rw[if_neg j];by_cases e:(a.op==[38,38] || a.op==[124,124])=true
  ·rw[if_pos e];split
   ·rename_i l r f;have A:=n l p;have B:=n r (p+(E l p).length+1);rw[f] at v;simp only[fe,ga,ff,gg] at v;simp only[ej,eo,ex];omega
   ·simp
  ·rw[if_neg e];exact c _
def qO{c:List (List UInt8)->aC->Nat->List aH × List (List UInt8)}(h:∀s a p,(c s a p).1.length<=m*fR a):∀(l:List aC) (s:List (List UInt8)) (p:Nat),(bG c s l p).length<=m*(l.map fR).sum
 |[],_,_=>by simp[bG]
 |a::l,s,p=>by
  simp only[bG,ej,fe,ff,Nat.mul_add];have d:=h s a p;have b:=qO h l (c s a p).2 (p+(c s a p).1.length);omega
def CO(fs:List aC):∀(d:Nat) (e_:List (List UInt8)) (a:aC) (p:Nat),(aW fs d e_ a p).1.length<=3*fR a
 |0,_,_,_=>by simp[aW]
 |d+1,e_,a,p=>by
  have f:=kS a;have j:=λ(b:aC) q=>qO (m:=3) (λs a p=>CO fs d s a p) b.y_ e_ q
  have h:=λ(x:aC) q=>mQ fs e_ d x q
  have i:=λ(b:aC)=>kS b
  rw[aW];simp only;repeat' split
  all_goals try simp only[ej,eo,ex]
  all_goals try omega
  ·rename_i t v e;have g:=h v (p+1);rw[e] at f;simp only[fe,ga,ff,gg] at f;omega
  ·have g:=qU (m:=2) (λa p=>mQ fs e_ d a p) a.y_ (p+1)
   omega
  ·rename_i c t _ x e;have g:=h c (p+1);have k:=j t (p+1+(aG fs e_ d c (p+1)).length+1);have l:=i t;have n:=i x;have o:=j x (p+1+(aG fs e_ d c (p+1)).length+1+(bG (aW fs d) e_ t.y_ (p+1+(aG fs e_ d c (p+1)).length+1)).length+1);rw[e] at f;simp only[fe,ga,ff,gg] at f;omega
  ·rename_i c t _ e _ _;have g:=h c (p+1);have k:=j t (p+1+(aG fs e_ d c (p+1)).length+1);have l:=i t;rw[e] at f;simp only[fe,ff] at f;omega
  ·rename_i c t e;have g:=h c (p+1);have k:=j t (p+1+(aG fs e_ d c (p+1)).length+1);have l:=i t;rw[e] at f;simp only[fe,ga,ff,gg] at f;omega
  all_goals
   rename_i v e;have g:=h v (p+1);rw[e] at f;simp only[fe,ga,ff,gg] at f;omega
def nW(fs:List aC)(d:Nat)(s:aZ)(k:aC)(h:s.kind≠0):(eJ fs d s k).kind≠0:=by
 unfold eJ;split
 ·exact qB s k h
 ·exact fF fs false d k s h
def RV(fs:List aC)(d:Nat)(s:aZ)(n:aC)(first:Bool)(h:s.kind≠0):(fS fs d s n first).kind≠0:=by
 unfold fS;refine gP (λs k a=>nW fs d s k a) _ _ ?_
 show (if _ then _ else _:aZ).kind≠0
 split
 ·exact pI _ _ _ h
 ·exact h
def EV(fs:List aC)(d:Nat):∀(a b:List aC) (s:aZ),s.kind≠0->(eV fs d b a s).kind≠0
 |[],_,_,h=>h
 |n::a,b,s,h=>EV fs d a (b++[n]) _ (RV fs d s n _ h)
def rD:∀(ps:List aC) (b:List (List UInt8)),(∀x∈ps,x.op=[112,97,114,97,109])->(ps.foldl (eJ fs d) ⟨b,0,0⟩).kind=0->ps.foldl (eJ fs d) ⟨b,0,0⟩=⟨b++ps.map (·.x_),0,0⟩/\(b.Nodup->(b++ps.map (·.x_)).Nodup)
 |[],b,_,_=>by simp
 |a::l,b,h,f=>by
  rw[im] at f ⊢
  have q:eJ fs d ⟨b,0,0⟩ a={ declaresL ⟨b,0,0⟩ a with e_:=(declaresL ⟨b,0,0⟩ a).e_++[a.x_] }:=by unfold eJ;rw[if_pos (by simp[h a (ft ..)])]
  have o:(eJ fs d ⟨b,0,0⟩ a).kind=0:=hH λg=>gP (λs k u=>nW fs d s k u) l _ g f
  have c:(declaresL ⟨b,0,0⟩ a).kind=0:=by rw[q] at o;exact o
  obtain⟨i,j⟩:declaresL ⟨b,0,0⟩ a=⟨b,0,0⟩/\a.x_∉b:=by
   unfold declaresL at c ⊢
   split at c
   ·exact(iA d_ c).elim
   ·rename_i m;rw[if_neg m];simp at m;exact⟨rfl,m.2⟩
  rw[q,i] at f ⊢
  obtain⟨r,p⟩:=rD l (b++[a.x_]) (λx n=>h x (fg _ n)) f
  rw[r];have e:b++[a.x_]++l.map (·.x_)=b++(a::l).map (·.x_):=s_
  rw[e] at p ⊢
  refine⟨rfl,λv=>p ?_⟩
  rw[gw];exact⟨v,s_,λx n y t=>by rw[ew.1 t];exact λe=>j (e▸n)⟩
def QZ(A:∀f∈fs,rZ f){f:aC}(B:rZ f)(F:eR (d+3) f)(H:∀e,bX e f<=2001){first:Bool}(n:(fS fs (d+2) ⟨o,0,0⟩ f first).kind=0):iI fs (d+2) f/\∃I,fS fs (d+2) ⟨o,0,0⟩ f first=⟨I,0,0⟩:=by
 obtain⟨g,b,j,D,y,_⟩:=B.y_;have c:∀f∈fs,f.y_≠[]:=λf B=>by obtain⟨g,b,j,_⟩:=(A f B).y_;rw[j];simp
 unfold fS at n ⊢
 have G:({ (if fM f.x_ || !first then aZ.found ⟨o,0,0⟩ f.l_ 6 else ⟨o,0,0⟩) with e_:=[] }:aZ).kind=0:=hH λc=>gP (λs k N=>nW fs (d+2) s k N) f.y_ _ c n
 have z:({ (if fM f.x_ || !first then aZ.found ⟨o,0,0⟩ f.l_ 6 else ⟨o,0,0⟩) with e_:=[] }:aZ)=⟨[],0,0⟩:=by
  split at G
  ·exact(iA d_ G).elim
  ·rename_i M;rw[if_neg M]
 rw[z,j,List.foldl_append,im,jr] at n ⊢
 have C:(g.foldl (eJ fs (d+2)) ⟨[],0,0⟩).kind=0:=hH λc=>nW fs (d+2) _ b c n
 obtain⟨q,i⟩:=rD g [] D C;have i:=i List.nodup_nil;rw[ii] at q i;rw[q] at n ⊢
 have v:eJ fs (d+2) ⟨g.map (·.x_),0,0⟩ b=aO fs false (d+2) b ⟨g.map (·.x_),0,0⟩:=by unfold eJ;rw[if_neg (by simp[y.op])]
 rw[v] at n ⊢
 have E:eR (d+2) b:=F b (by rw[j];simp)
 have r:=H (d+3);rw[bX,j] at r
 have w:∀l:List aC,l.length<=(l.map (bX (d+2))).sum:=by
  intro l;induction l with
  |nil=>simp
  |cons x l O=>simp only[fe,ff,eo,bX];simp only[bX] at O;omega
 have:=w g;simp only[gh,ij,fe,ga,ff,gg] at r;obtain⟨L,J⟩:=kB y.op (λk u=>IT c (d+1) k (y.y_ k u) (E k u)) (by show (g.map (·.x_)).length+bX (d+2) b<=_;simp only[ji];omega) n
 refine⟨⟨⟨g,b,j,J.up λs a h=>h.up o_,i⟩,?_⟩,_,L⟩
 have T:=yP _ _ F;have K:=H (d+3);have S:(bG (aW fs (d+2)) (g.map (·.x_)).reverse b.y_ 0).length<=3*(b.y_.map fR).sum:=qO (m:=3) (λs a p=>CO fs (d+2) s a p) b.y_ (g.map (·.x_)).reverse 0
 have t:=kS f;rw[j] at t;have P:=kS b;simp only[gh,ij,fe,ga,ff,gg] at t;have Q:(eY fs (d+2) f).code.length=(bG (aW fs (d+2)) (g.map (·.x_)).reverse b.y_ 0).length+2:=by simp[eY,j]
 omega
def zC(c:∀f∈fs,rZ f):∀(a b:List aC) (k:List (List UInt8)),(∀f∈a,f∈fs/\eR (d+3) f/\∀e,bX e f<=2001)->(eV fs (d+2) b a ⟨k,0,0⟩).kind=0->∀f∈a,iI fs (d+2) f
 |[],_,_,_,_,f,g=>by cases g
 |n::a,b,k,h,i,f,g=>by
  rw[eV] at i;have o:(fS fs (d+2) ⟨k,0,0⟩ n (dM b n.x_).isNone).kind=0:=hH λj=>EV fs (d+2) a _ _ j i
  obtain⟨q,m,s⟩:=h n (ft ..);obtain⟨r,l,p⟩:=QZ c (c n q) m s o;rw[p] at i;rcases ep.1 g with rfl|g
  ·exact r
  ·exact zC c a (b++[n]) l (λf g=>h f (fg _ g)) i f g
def IL{e:Nat}{f:aC}:∀{l:List aC},f∈l->bX e f<=(l.map (bX e)).sum
 |x::l,h=>by
  simp only[fe,ff];rcases ep.1 h with rfl|h
  ·omega
  ·have:=IL (e:=e) h;omega
def FineL.mem{l:List aC}{f:aC}(h:FineL m l)(a:f∈l):FineA m f:=λe=>⟨em (IL a) (h e).1,(h e).2 f a⟩
def LL(h:cW l=.ok ks)(a:cH l=(0,0)):(∀f∈ks,iI ks 2001 f)/\fH ks (cS ks [109,97,105,110])=some 0:=by
 unfold cH at a;rw[h] at a;simp only at a;unfold kT at a;have j:=vL h;have p:=lA h;have c:∀f∈ks,FineA 2001 f:=λf g=>p.mem g
 split at a
 ·cases a
 rename_i m i;split at a
 ·cases a
 rename_i o;have q:(eV ks 2001 [] ks ⟨[],0,0⟩).kind=0:=by simp only[Prod.mk.injEq] at a;exact a.1
 refine⟨λf g=>zC (d:=1999) j ks [] [] (λf g=>⟨g,?_,λe=>((c f g) e).1⟩) q f g,?_⟩
 ·have:=oH 2002 f ((c f g).le o_)
  exact this
 ·unfold fH;rw[uJ i];obtain⟨n,b,k,_⟩:=(j m (ja i)).y_;have:m.y_.length=n.length+1:=by rw[k];simp
  simp;omega
def FineL.len{l:List aC}(h:FineL m l):l.length<=m:=by
 have a:=(h 1).1
 have:∀l:List aC,l.length<=(l.map (bX 1)).sum:=by
  intro l;induction l with
  |nil=>simp
  |cons x l b=>simp only[fe,ff,eo];have:1<=bX 1 x:=by simp[bX]
               omega
 exact em (this l) a
def FineA.y_(h:FineA m a):FineL m a.y_:=λe=>by
 have b:=(h (e+1)).1;simp only[bX] at b;exact⟨o_,(h (e+1)).2.2⟩
def yR(h:a.op≠[115])(b:a.y_=[]):∀d,qE d a
 |0=>trivial
 |d+1=>⟨λe=>absurd e h,by simp[b],λk h=>by simp[b] at h⟩
def jN(g:m<=1000000):∀(d:Nat) (a:aC),FineA m a->dC a->qE d a
 |0,_,_,_=>trivial
 |d+1,a,i,j=>by
  refine⟨λe=>?_,em i.y_.len g,λk c=>jN g d k (i.y_.mem c) ?_⟩
  ·cases j with
   |leaf _ h c o=>exact o e
   |many _ h c=>rw[e] at h;exact absurd h d_
   |one _ l h c f=>rw[e] at h;exact absurd h d_
   |two _ l r h c f n=>rw[e] at h;exact absurd h d_
  ·cases j with
   |leaf _ h b o=>rw[b] at c;cases c
   |many _ h b=>exact b k c
   |one _ l h b f=>rw[b,ew] at c;rw[c];exact f
   |two _ l r h b f n=>
    rw[b] at c;rcases ep.1 c with rfl|c
    ·exact f
    ·rw[ew.1 c];exact n
def JH(j:m<=1000000):∀(d:Nat),(∀a,FineA m a->gA a->qE d a)/\∀t,FineA m t->t.op=[98,108,111,99,107]->(∀k∈t.y_,gA k)->qE d t
 |0=>⟨λ_ _ _=>trivial,λ_ _ _ _=>trivial⟩
 |d+1=>by
  obtain⟨w,q⟩:=JH j d;refine⟨λa o u=>⟨λe=>?_,em o.y_.len j,λk f=>?_⟩,λt o s f=>⟨λe=>?_,em o.y_.len j,λk b=>w k (o.y_.mem b) (f k b)⟩⟩
  ·cases u<;>rename_i h _<;>simp_all
  ·have g:=o.y_.mem f;cases u with
   |var _ t v h b p l=>
    rw[b] at f;rcases ep.1 f with rfl|f
    ·exact yR (by rw[l.1];decide) l.2 d
    ·obtain rfl:=ew.1 f;exact jN j d _ g p
   |set _ h z b=>exact jN j d k g (b k f)
   |if2 _ c t h b n l i=>
    rw[b] at f;rcases ep.1 f with rfl|f
    ·exact jN j d _ g n
    ·obtain rfl:=ew.1 f;exact q _ g l i
   |if3 _ c t x h b n l i y r=>
    rw[b] at f;rcases ep.1 f with rfl|f
    ·exact jN j d _ g n
    rcases ep.1 f with rfl|f
    ·exact q _ g l i
    ·obtain rfl:=ew.1 f;exact q _ g y r
   |whl _ c t h b n l i=>
    rw[b] at f;rcases ep.1 f with rfl|f
    ·exact jN j d _ g n
    ·obtain rfl:=ew.1 f;exact q _ g l i
   |ret0 _ h b=>rw[b] at f;cases f
   |ret1 _ v h b p=>rw[b,ew] at f;subst f;exact jN j d _ g p
   |print _ v h b p=>rw[b,ew] at f;subst f;exact jN j d _ g p
   |call _ c h b n s=>rw[b,ew] at f;subst f;exact jN j d _ g n
  ·rw[s] at e;cases e
def GE(g:cW l=.ok ks):∀f∈ks,∀k∈f.y_,mS k:=λf h k a d=>by
 have c:FineA 2001 k:=((lA g).mem h).y_.mem a;obtain⟨n,b,e,j,i,m⟩:=(vL g f h).y_;rw[e] at a;rcases eu.1 a with a|a
 ·exact yR (by rw[j k a];decide) (m k a) d
 ·obtain rfl:=ew.1 a;exact(JH o_ d).2 _ c i.op i.y_
def oB(i:aH):Prop:=(∀v,i=.push v->bQ v)/\∀op,i=.unary op->op=[45]\/op=[33]
def qV{c:aC->Nat->List aH}:∀(l:List aC) (p:Nat),(∀a∈l,∀q,∀i∈c a q,P i)->∀i∈bP c l p,P i
 |[],_,_,i,d=>by cases d
 |a::l,p,h,i,d=>by
  rcases eu.1 d with d|d
  ·exact h a (ft ..) p i d
  ·exact qV l _ (λb e=>h b (fg _ e)) i d
def gY{c:Prop}[Decidable c]{l m:List aH}(b:c->∀i∈l,P i)(a:∀i∈m,P i):∀i∈(if c then l else m),P i:=by
 split
 ·exact b ‹_›
 ·exact a
def gN{l:List aH}{x:aH}(b:∀i∈l,P i)(a:P x):∀i∈l++[x],P i:=λi h=>by
 rcases eu.1 h with h|h
 ·exact b i h
 ·rw[ew.1 h];exact a
def pF{x:aH}(h:P x):∀i∈[x],P i:=gN (l:=[]) (λ_ h=>by cases h) h
def nI(fs:List aC)(e_:List (List UInt8)):∀(d:Nat) (a:aC) (p:Nat),mS a->∀i∈aG fs e_ d a p,oB i
 |0,_,_,_=>λi b=>by cases b
 |d+1,a,p,j=>by
  have c:∀i∈bP (aG fs e_ d) a.y_ p,oB i:=qV _ _ λk c q=>nI fs e_ d k q (j.kid c)
  have g:∀x:aH,(∀v,x≠.push v)->(∀f,x≠.unary f)->oB x:=λx n m=>⟨λv e=>absurd e (n v),λf e=>absurd e (m f)⟩
  have o:a.op=[115]->cQ a.x_:=λh=>((j 1).1 h).2
  rw[aG];simp only;refine gY (λ_=>pF ⟨λv e=>by cases e;exact bQ.num _,λf e=>by cases e⟩) ?_
  refine gY (λh=>pF ⟨λv e=>by cases e;exact bQ.str (o (by simpa using h)),λf e=>by cases e⟩) ?_
  refine gY (λ_=>pF ⟨λv e=>by cases e;exact bQ.tru _,λf e=>by cases e⟩) ?_
  refine gY (λ_=>pF (g _ s_ s_)) ?_
  refine gY (λ_=>gN c (g _ s_ s_)) ?_
  refine gY (λ_=>gN c (g _ s_ s_)) ?_
  refine gY (λ_=>gN c ⟨λv e=>by (cases e),λf e=>by cases e;exact d7 rfl⟩) ?_
  refine gY (λ_=>gN c ⟨λv e=>by (cases e),λf e=>by cases e;exact d6 rfl⟩) ?_
  refine gY (λ_=>gN c ?_) ?_
  ·repeat' split
   all_goals exact g _ s_ s_
  refine gY (λ_=>?_) (gN c (g _ s_ s_))
  split
  ·rename_i l r e;refine gN (λi b=>?_) (g _ s_ s_)
   rcases eu.1 b with b|b
   ·exact gN (nI fs e_ d l _ (j.kid (by rw[e];simp))) (g _ s_ s_) i b
   ·exact nI fs e_ d r _ (j.kid (by rw[e];simp)) i b
  ·intro i b;cases b
def qQ{c:List (List UInt8)->aC->Nat->List aH × List (List UInt8)}:∀(l:List aC) (e_:List (List UInt8)) (p:Nat),(∀a∈l,∀s q,∀i∈(c s a q).1,P i)->∀i∈bG c e_ l p,P i
 |[],_,_,_,i,d=>by cases d
 |a::l,e_,p,h,i,d=>by
  rcases eu.1 d with d|d
  ·exact h a (ft ..) e_ p i d
  ·exact qQ l _ _ (λb e=>h b (fg _ e)) i d
def OP(fs:List aC):∀(d:Nat) (e_:List (List UInt8)) (a:aC) (p:Nat),mS a->∀i∈(aW fs d e_ a p).1,oB i
 |0,_,_,_,_,i,f=>by cases f
 |d+1,e_,a,p,o,i,f=>by
  have j:∀{k:aC} {q:Nat},k∈a.y_->i∈aG fs e_ d k q->oB i:=λl h=>nI fs e_ d _ _ (o.kid l) i h
  have n:∀{k:aC} {q:Nat},k∈a.y_->i∈bG (aW fs d) e_ k.y_ q->oB i:=λl h=>qQ _ _ _ (λx j s q=>OP fs d s x q ((o.kid l).kid j)) i h
  have g:∀{x:aH},(∀v,x≠.push v)->(∀m,x≠.unary m)->i=x->oB i:=λw u e=>⟨λv z=>absurd (e▸z) (w v),λm y=>absurd (e▸y) (u m)⟩
  rw[aW] at f;dsimp only at f;split at f
  ·split at f
   ·rename_i t v e;simp only[eu,ep,fk,or_false,gb] at f;rcases f with h|h|h
    ·exact g s_ s_ h
    ·exact j (by rw[e];simp) h
    ·exact g s_ s_ h
   ·cases f
  split at f
  ·simp only[eu,ep,fk,or_false,gb] at f;rcases f with h|h|h
   ·exact g s_ s_ h
   ·exact qV _ _ (λk l q=>nI fs e_ d k q (o.kid l)) i h
   ·exact g s_ s_ h
  split at f
  ·split at f
   ·rename_i c t e r;simp only[eu,ep,fk,or_false,gb] at f;rcases f with h|(((h|h)|h)|h)|h
    ·exact g s_ s_ h
    ·exact j (by rw[r];simp) h
    ·exact g s_ s_ h
    ·exact n (by rw[r];simp) h
    ·exact g s_ s_ h
    ·split at h
     ·exact n (by rw[r];simp) h
     ·cases h
   ·cases f
  split at f
  ·split at f
   ·rename_i c b e;simp only[eu,ep,fk,or_false,gb] at f;rcases f with h|((h|h)|h)|h
    ·exact g s_ s_ h
    ·exact j (by rw[e];simp) h
    ·exact g s_ s_ h
    ·exact n (by rw[e];simp) h
    ·exact g s_ s_ h
   ·cases f
  split at f
  ·split at f
   ·rename_i v e;simp only[eu,ep,fk,or_false,gb] at f;rcases f with h|h|h
    ·exact g s_ s_ h
    ·exact j (by rw[e];simp) h
    ·exact g s_ s_ h
   ·simp only[ep,fk,or_false] at f;rcases f with h|h|h
    ·exact g s_ s_ h
    ·rw[h];exact⟨λv e=>by cases e;exact bQ.num _,λm e=>by cases e⟩
    ·exact g s_ s_ h
  split at f
  ·split at f
   ·rename_i v e;simp only[eu,ep,fk,or_false,gb] at f;rcases f with h|h|h
    ·exact g s_ s_ h
    ·exact j (by rw[e];simp) h
    ·exact g s_ s_ h
   ·cases f
  ·split at f
   ·rename_i c e;simp only[eu,ep,fk,or_false,gb] at f;rcases f with h|h|h
    ·exact g s_ s_ h
    ·exact j (by rw[e];simp) h
    ·exact g s_ s_ h
   ·cases f
def TO(h:∀f∈ks,∀k∈f.y_,mS k):jT (cP ks d):=λg m=>by
 obtain⟨f,o,rfl⟩:=ia.1 m
 have a:∀i∈(eY ks d f).code,oB i:=λi c=>by
  simp only[eY,eu,ep,fk,or_false] at c;rcases c with c|rfl|rfl
  ·cases j:f.y_.getLast? with
   |none=>rw[j] at c;cases c
   |some b=>
    rw[j] at c;exact qQ _ _ _ (λk n s q=>OP ks d s k q ((h f o b (jp j)).kid n)) i c
  ·exact⟨λv e=>by cases e;exact bQ.num _,λl e=>by cases e⟩
  ·exact⟨λv e=>by (cases e),λl e=>by cases e⟩
 exact⟨λv r=>(a _ r).1 v rfl,λl p=>(a _ p).2 l rfl⟩
structure XN where
 name:List UInt8
 l_:Nat
 g_:List (List UInt8 × aJ)
structure kG where
 stack:List (List UInt8 × Nat)
 g_:List (List UInt8 × aJ)
 out:List (List UInt8)
 stop:Nat
structure eZ where
 f_:List XN
 tape:List Int
 out:List (List UInt8)
 moms:List kG
 stop:Nat
def eZ.g_(s:eZ):List (List UInt8 × aJ):=(s.f_.getLast?.map (·.g_)).getD []
def eZ.notes(s:eZ):eZ:={ s with moms:=s.moms++[⟨s.f_.map λf=>(f.name,f.l_),s.g_,s.out,s.stop⟩] }
def eZ.or(s:eZ)(stop:Nat):eZ:=if stop≠0/\s.stop=0 then { s with stop:=stop } else s
def xI(f:aI)(e_:List (List UInt8)):XN:=⟨f.fn.name,f.l_,e_.reverse.zip f.g_⟩
def gZ(l:List aI):List XN:=l.map λf=>xI f f.e_
def toldM(m:bV)(stop:Nat):kG:=⟨m.f_.map λf=>(f.fn.name,f.l_),((m.f_.getLast?.map λf=>f.e_.reverse.zip f.g_)).getD [],m.out,stop⟩
inductive lI (tab:List dG):bV->Nat->List kG->bV->Nat->Prop
 |refl (m:bV) (n:Nat):lI tab m n [] m n
 |step {b:List aI} {f g:aI} {t:List Int} {o:List (List UInt8)} {i:aH} {m1 m':bV} {n n':Nat} {ms:List kG} (hf:f.fetch=some (i,g)) (hb:i.isBegin=false) (hd:doI tab i b g t o=(m1,0)) (hr:lI tab m1 n ms m' n'):lI tab ⟨b++[f],t,o⟩ n ms m' n'
 |mom {b:List aI} {f g:aI} {t:List Int} {o:List (List UInt8)} {i:aH} {m1 m':bV} {n n':Nat} {ms:List kG} (hf:f.fetch=some (i,g)) (hb:i.isBegin=true) (hd:doI tab i b g t o=(m1,0)) (hn:n≠500) (hr:lI tab m1 (n+1) ms m' n'):lI tab ⟨b++[f],t,o⟩ n (toldM m1 0::ms) m' n'
def lI.trans{d:List dG}{a b c:bV}{o e:Nat}{m f:List kG}(h:lI d a n m b o)(k:lI d b o f c e):lI d a n (m++f) c e:=by
 induction h with
 |refl=>exact k
 |step i l g _ j=>exact .step i l g (j k)
 |mom i l g p _ j=>exact .mom i l g p (j k)
inductive AX (tab:List dG):bV->Nat->kG->Prop
 |stop {b:List aI} {f g:aI} {t:List Int} {o:List (List UInt8)} {i:aH} {m1:bV} {n st:Nat} (hf:f.fetch=some (i,g)) (hd:doI tab i b g t o=(m1,st)) (hs:st≠0):AX tab ⟨b++[f],t,o⟩ n (toldM m1 st)
 |done {t:List Int} {o:List (List UInt8)} {n:Nat}:AX tab ⟨[],t,o⟩ n (toldM ⟨[],t,o⟩ 1)
 |fuel {b:List aI} {f g:aI} {t:List Int} {o:List (List UInt8)} {i:aH} {m1:bV} (hf:f.fetch=some (i,g)) (hb:i.isBegin=true) (hd:doI tab i b g t o=(m1,0)):AX tab ⟨b++[f],t,o⟩ 500 (toldM m1 9)
def EZ(tab:List dG)(m:bV)(n:Nat)(ms:List kG):Prop:=∃m' n' ms' x,lI tab m n ms' m' n'/\AX tab m' n' x/\ms=ms'++[x]
def lI.halts{c:List dG}{a b:bV}{i:Nat}{e d:List kG}(h:lI c a n e b i)(k:EZ c b i d):EZ c a n (e++d):=by
 obtain⟨o,f,g,x,l,j,m⟩:=k;exact⟨o,f,e++g,x,h.trans l,j,by rw[m,gl]⟩
def eZ.final(s:eZ):List kG:=if s.stop=9 then s.moms else s.notes.moms
def gQ(tab:List dG)(m:bV)(s s':eZ)(m':bV):Prop:=
 (s'.stop=0/\∃ms,s'.moms=s.moms++ms/\lI tab m s.moms.length ms m' s'.moms.length)\/
 (s'.stop≠0/\∃ms,s.moms++ms=s'.final/\EZ tab m s.moms.length ms)
def gQ.refl(a:List dG)(m:bV)(s:eZ)(h:s.stop=0):gQ a m s s m:=d7 ⟨h,[],s_,lI.refl _ _⟩
def gQ.trans{a:List dG}{m p o:bV}{s c l:eZ}(h:gQ a m s c p)(k:c.stop=0->gQ a p c l o)(q:c.stop≠0->l=c):gQ a m s l o:=by
 rcases h with ⟨g,d,f,e⟩|⟨g,d,f,e⟩
 ·rcases k g with ⟨n,b,i,j⟩|⟨n,b,i,j⟩
  ·exact d7 ⟨n,d++b,by rw[i,f,gl],e.trans j⟩
  ·exact d6 ⟨n,d++b,by rw[<-i,f,gl],e.halts j⟩
 ·rw[q g];exact d6 ⟨g,d,f,e⟩
def gQ.step{a:List dG}{b:List aI}{e:bV}{s c:eZ}(j:f.fetch=some (i,g))(k:i.isBegin=false)(h:doI a i b g t o=(e,0))(l:c.stop=0)(d:c.moms=s.moms):gQ a ⟨b++[f],t,o⟩ s c e:=
 d7 ⟨l,[],by simp[d],.step j k h (by rw[d];exact .refl _ _)⟩
def gQ.stops{d:List dG}{b:List aI}{h n:bV}{c:Nat}{s a:eZ}(m:f.fetch=some (i,g))(k:doI d i b g t o=(h,c))(j:c≠0)(q:c≠9)
 (e:a.stop=c) (p:a.moms=s.moms) (l:(⟨a.f_.map λf=>(f.name,f.l_),a.g_,a.out,a.stop⟩:kG)=toldM h c):gQ d ⟨b++[f],t,o⟩ s a n:=by
 refine d6 ⟨by rw[e];exact j,[toldM h c],?_,_,_,[],_,.refl _ _,.stop m k j,rfl⟩
 unfold eZ.final;rw[if_neg (by rw[e];exact q)]
 unfold eZ.notes;simp only[p];rw[<-l]
def kK(code:List aH)(p:Nat)(c:List aH):Prop:=∀j i,c[j]?=some i->code[p+j]?=some i
def kK.left{a:List aH}(h:kK a p (c++c')):kK a p c:=λj i b=>h j i (by rw[g9 (gv.1 b).1];exact b)
def yU(h:f.fn.code[f.next]?=some i):f.fetch=some (i,{ f with next:=f.next+1 }):=by unfold aI.fetch;rw[h];rfl
structure wB(e_:List (List UInt8))(p:Nat)(c:List aH)(w_:List aI)(f:aI)(s:eZ):Prop where
 code:kK f.fn.code p c
 next:f.next=p
 sees:f.e_=e_
 nodup:e_.Nodup
 g_:e_.length<=f.g_.length
 stop:s.stop=0
 f_:s.f_=gZ (w_++[f])
 deep:w_.length+1<=16
def aI.had(f:aI)(n:Nat)(vs:List aJ):aI:={ f with next:=n,ops:=f.ops++vs }
def oY(tab:List dG)(w_:List aI)(f:aI)(n:Nat)(vs:List aJ)(s s':eZ):Prop:=
 (s'.stop=0->s'.f_=s.f_)/\gQ tab ⟨w_++[f],s.tape,s.out⟩ s s' ⟨w_++[f.had n vs],s'.tape,s'.out⟩
def wB.had{a:List aI}{s b:eZ}{vs:List aJ}(h:wB e_ p c a f s)(i:kK f.fn.code d c')(g:b.stop=0)(e:b.f_=s.f_):wB e_ d c' a (f.had d vs) b:=by
 refine⟨i,rfl,h.sees,h.nodup,h.g_,g,?_,h.deep⟩;rw[e,h.f_];simp[gZ,xI,aI.had]
def TG{a:List aI}{s:eZ}(h:s.f_=gZ (a++[f])):s.g_=f.e_.reverse.zip f.g_:=by
 unfold eZ.g_;rw[h];simp[gZ,xI]
def KK{a:List aI}{s:eZ}{b:Nat}(h:s.f_=gZ (a++[f]))(e:g.fn=f.fn)(c:g.l_=f.l_)(i:g.e_=f.e_)(d:g.g_=f.g_):
 (⟨s.f_.map λf=>(f.name,f.l_),s.g_,s.out,b⟩:kG)=toldM ⟨a++[g],t,s.out⟩ b:=by
 rw[TG h];unfold toldM;rw[h];simp[gZ,xI,e,c,i,d]
def oY.then{d:List dG}{a:List aI}{vs:List aJ}{s s1 p:eZ}{r:aJ × Nat}(h:oY d a f n vs s s1)(q:s.f_=gZ (a++[f]))
 (A:f.fn.code[n]?=some i) (v:i.isBegin=false) (y:s1.stop≠0->p=s1) (t:s1.stop=0->p=s1.or r.2) (z:r.2≠9)
 (u:s1.stop=0->(r.2=0->doI d i a { f.had n vs with next:=n+1 } s1.tape s1.out=(⟨a++[f.had (n+1) [r.1]],s1.tape,s1.out⟩,0))/\(r.2≠0->doI d i a { f.had n vs with next:=n+1 } s1.tape s1.out=(⟨a++[f.had (n+1) []],s1.tape,s1.out⟩,r.2))):
 oY d a f (n+1) [r.1] s p:=by
 by_cases c:s1.stop=0
 rotate_left
 ·rw[y c];refine⟨λo=>absurd o c,?_⟩
  rcases h.2 with ⟨w,_⟩|x
  ·exact absurd w c
  ·exact d6 x
 have j:=t c;have b:(f.had n vs).fetch=some (i,{ f.had n vs with next:=n+1 }):=yU (f:=f.had n vs) A
 have m:s1.f_=gZ (a++[f]):=(h.1 c).trans q;by_cases l:r.2=0
 ·have e:s1.or r.2=s1:=by unfold eZ.or;rw[if_neg (by rw[l];simp)]
  rw[e] at j;subst j;exact⟨λo=>h.1 o,h.2.trans (λ_=>gQ.step b v ((u c).1 l) c rfl) λk=>absurd c k⟩
 ·have e:s1.or r.2={ s1 with stop:=r.2 }:=by unfold eZ.or;rw[if_pos ⟨l,c⟩]
  rw[e] at j;subst j;refine⟨λo=>absurd o l,h.2.trans (λ_=>gQ.stops b ((u c).2 l) l z rfl rfl ?_) λk=>absurd c k⟩
  exact KK (s:={ s1 with stop:=r.2 }) (g:=f.had (n+1) []) m rfl rfl rfl rfl
structure af_(e_:List (List UInt8))(p:Nat)(c:List aH)(w_:List aI)(f:aI)(s:eZ):Prop where
 code:kK f.fn.code p c
 next:f.next=p
 nodup:e_.Nodup
 g_:e_.length<=f.g_.length
 stop:s.stop=0
 f_:s.f_=gZ w_++[xI f e_]
 deep:w_.length+1<=16
def gQ.any{a:List dG}{m e c:bV}{s b:eZ}(h:gQ a m s b e)(f:b.stop≠0):gQ a m s b c:=by
 rcases h with ⟨d,_⟩|h
 ·exact absurd d f
 ·exact d6 h
def oY.push{b:List dG}{a:List aI}{v:aJ}{s:eZ}(h:f.fn.code[p]?=some i)(c:f.next=p)(e:s.stop=0)(g:i.isBegin=false)(d:doI b i a { f with next:=p+1 } s.tape s.out=(⟨a++[f.had (p+1) [v]],s.tape,s.out⟩,0)):oY b a f (p+1) [v] s s:=
 ⟨λ_=>rfl,gQ.step (yU (f:=f) (by rw[c];exact h)) g (by rw[c];exact d) e rfl⟩
def wB.st{a:List aI}{s b:eZ}(h:wB e_ p c a f s)(i:kK f.fn.code d c')(g:b.stop=0)(e:b.f_=s.f_):af_ e_ d c' a (f.had d []) b:=
 ⟨i,rfl,h.nodup,h.g_,g,by rw[e,h.f_];simp[gZ,xI,aI.had,h.sees],h.deep⟩
def stC_seen(h:dD fs d e_ a):(aW fs d e_ a p).2=cO e_ a:=
 (lQ fs d e_ a (λ_ _=>False) p h ⟨λ_ _ _ h=>h.elim,λ_ _ h=>h.elim⟩).2.1
def OV{b c:List aI}{a:aI}(h:b++[f]=c++[a]):b=c/\f=a:=by
 have:=g8 h rfl;exact⟨this.1,by simpa using this.2⟩
def KA:∃k:Nat,16*320000+2<=k:=⟨_,eh _⟩
noncomputable def gE:Nat:=Classical.choose KA
def xV:16*320000+2<=gE:=Classical.choose_spec KA
noncomputable def dR(tab:List dG)(m0:bV):Nat->Option bI
 |0=>(cM tab gE m0).map λr=>⟨0,r.1,bU 0 r.2⟩
 |t+1=>
  match dR tab m0 t with
  |none=>none
  |some s=>if s.stop=0 then (cM tab gE s.m).map λr=>⟨t+1,r.1,bU (t+1) r.2⟩ else none
structure SW(ar:Nat->Option Nat)(s:bI):Prop where
 told:∀x∈s.m.f_,x.e_.length<=x.g_.length
 deep:s.m.f_.length<=16
 ok:s.stop=0->eT ar s.m/\s.m.f_≠[]
 m_:s.m_<=500
def TE{m:bV}(h:eT ar m):∃k,wgts m.f_<=m.f_.length*k/\k=320000:=by
 have d:∀f∈m.f_,jV f<=320000:=λf a=>by
  have n:f.fn.code.length<=80000:=by
   rcases ik m.f_ with c|⟨b,x,c⟩
   ·rw[c] at a;cases a
   ·rw[il] at c;have i:=h.ok.low;have e:=h.ok.top x (by rw[c];exact dW _ _)
    rw[c,dA] at i;rw[c] at a;rcases eu.1 a with a|a
    ·obtain⟨T,g,_⟩:=(i f a).code;exact g.len
    ·obtain⟨T,g,_⟩:=e.code;rw[ew.1 a];exact g.len
  unfold jV;split
  ·omega
  ·split<;>omega
 have:∀l:List aI,(∀f∈l,jV f<=320000)->wgts l<=l.length*320000:=by
  intro l;induction l with
  |nil=>intro _;simp[wgts]
  |cons x l j=>
   intro h;have i:=h x (ft ..);have e:=j λf a=>h f (fg _ a)
   unfold wgts at e ⊢
   simp only[fe,ff,eo,Nat.succ_mul];omega
 exact⟨320000,this m.f_ d,rfl⟩
def pB{a:List dG}(b:iS ar a){m:bV}(h:eT ar m):∃r,cM a gE m=some r/\NS ar r:=
 lO b gE m h (by
  obtain⟨k,d,c⟩:=TE h;have e:=Nat.mul_le_mul_right k h.ok.deep;have:=xV;omega)
def uC{b:List dG}(j:iS ar b)(m:eT ar m0):∀(t:Nat) (s:bI),dR b m0 t=some s->SW ar s/\s.m_=t
 |0,s,h=>by
  obtain⟨r,k,f⟩:=pB j m;simp only[dR,k,io,Option.some.injEq] at h;subst h
  exact⟨⟨f.told,f.deep,λc=>f.ok (by simp only[bU] at c;split at c;·simp at c
                                    ·exact c),s_⟩,rfl⟩
 |t+1,s,h=>by
  rw[dR] at h;cases a:dR b m0 t with
  |none=>rw[a] at h;cases h
  |some p=>
   rw[a] at h;simp only at h;obtain⟨l,v⟩:=uC j m t p a;split at h
   ·rename_i c;obtain⟨r,k,f⟩:=pB j (l.ok c).1;rw[k] at h;simp only[io,Option.some.injEq] at h;subst h
    refine⟨⟨f.told,f.deep,λd=>f.ok (by simp only[bU] at d;split at d;·simp at d
                                       ·exact d),?_⟩,rfl⟩
    show t+1<=500
    have q:t≠500:=by
     intro e;cases t with
     |zero=>simp at e
     |succ u=>
      rw[dR] at a;cases n:dR b m0 u with
      |none=>rw[n] at a;cases a
      |some o=>
       rw[n] at a;simp only at a;split at a
       ·cases g:cM b gE o.m with
        |none=>rw[g] at a;cases a
        |some w=>
         rw[g] at a;simp only[io,Option.some.injEq] at a;subst a;simp only[bU] at c;split at c
         ·simp at c
         ·rename_i i;exact i ⟨c,e⟩
       ·cases a
    have:=l.m_;omega
   ·cases h
def yC{a:List dG}{r:bV × Nat}(j:Nat):∀(k:Nat) (m:bV),cM a k m=some r->cM a (k+j) m=some r
 |0,_,h=>by cases h
 |k+1,m,h=>by
  rw[show k+1+j=(k+j)+1 by omega]
  rw[cM] at h ⊢
  cases e:m.f_.getLast? with
  |none=>rw[e] at h;exact h
  |some f=>
   rw[e] at h;simp only at h ⊢
   cases d:f.fetch with
   |none=>rw[d] at h;cases h
   |some g=>
    rw[d] at h;simp only at h ⊢
    split at h
    ·rename_i c;rw[if_pos c];exact h
    rename_i c;rw[if_neg c];split at h
    ·rename_i b;rw[if_pos b];exact h
    rename_i b;rw[if_neg b];exact yC j k _ h
noncomputable def vJ(tab:List dG)(k:Nat):Nat->Nat->bV->Option bI
 |0,_,_=>none
 |n+1,t,m=>
  match cM tab k m with
  |none=>none
  |some r=>if r.2=0/\t≠500 then vJ tab k n (t+1) r.1 else some ⟨t,r.1,bU t r.2⟩
def CZ{a:List dG}{k:Nat}(e:k<=gE){z:bI}:∀(n t:Nat) (m:bV),vJ a k n t m=some z->(∀r,cM a gE m=some r->dR a m0 t=some ⟨t,r.1,bU t r.2⟩)->dR a m0 z.m_=some z
 |0,_,_,h,_=>by cases h
 |n+1,t,m,h,g=>by
  rw[vJ] at h;cases c:cM a k m with
  |none=>rw[c] at h;cases h
  |some r=>
   rw[c] at h;simp only at h
   have f:cM a gE m=some r:=by
    have:=yC (gE-k) k m c;rwa [show k+(gE-k)=gE by omega] at this
   have d:=g r f;split at h
   ·rename_i i;refine CZ e n (t+1) r.1 h λl b=>?_
    have j:bU t r.2=0:=by unfold bU;rw[if_neg o_];exact i.1
    rw[dR,d];simp only[j,if_true,b,io]
   ·cases h;exact d
def xW(src:List UInt8)(t:Nat)(out:List (List UInt8)):Prop:=∃ks tp,cW src=.ok ks/\cH src=(0,0)/\dR (cP ks 2001) (eU ks 2001 []) t=some ⟨t,⟨[],tp,out⟩,1⟩
noncomputable def RS(src:List UInt8)(t:Nat)(out:List (List UInt8)):Bool:=
 match cW src with
 |.error _=>false
 |.ok ks=>
  decide (kT 2001 ks=(0,0)) && match vJ (cP ks 2001) 100 200 0 (eU ks 2001 []) with
   |none=>false
   |some z=>z.m_==t && (z.stop==1 && (z.m.f_.isEmpty && z.m.out==out))
def WQ{a:List UInt8}{t:Nat}{c:List (List UInt8)}(h:RS a t c=true):xW a t c:=by
 unfold RS at h;cases f:cW a with
 |error e=>rw[f] at h;cases h
 |ok d=>
  rw[f] at h;simp only[gd,decide_eq_true_eq] at h;obtain⟨j,b⟩:=h;cases g:vJ (cP d 2001) 100 200 0 (eU d 2001 []) with
  |none=>rw[g] at b;cases b
  |some z=>
   rw[g] at b;simp only[gd,beq_iff_eq,List.isEmpty_iff] at b;have:=CZ (m0:=eU d 2001 []) (by have:=xV;omega) 200 0 _ g λr k=>by rw[dR,k];rfl
   obtain⟨n,⟨o,i,l⟩,m⟩:=z;simp only at b this;obtain⟨rfl,rfl,rfl,rfl⟩:=b;exact⟨d,i,f,by unfold cH;rw[f];exact j,this⟩
def XU:List UInt8:=[102,117,110,99,32,102,40,120,41,32,123,32,114,101,116,117,114,110,32,91,120,44,32,34,195,169,34,93,59,32,125,10,102,117,110,99,32,109,97,105,110,40,41,32,123,32,118,97,114,32,97,32,61,32,102,40,50,41,59,32,112,114,105,110,116,32,97,59,32,112,114,105,110,116,32,108,101,110,40,97,91,49,93,41,59,32,125]
def XV:List UInt8:=[102,117,110,99,32,109,97,105,110,40,41,32,123,10,32,112,114,105,110,116,32,120,59,32,125]
def TH:xW XU 4 [[91,50,44,32,34,195,169,34,93],[49]]:=WQ (by decide+kernel)
def UY:cH XV=(6,2):=by decide+kernel
def bY(l:List aI):List (List UInt8 × Nat):=l.map λf=>(f.fn.name,f.l_)
def iJ(l:List aI)(f:aI):bY (l++[f])=bY l++[(f.fn.name,f.l_)]:=by simp[bY]
def rX(m0 m:List aI):Prop:=bY m<+:bY m0\/((bY m).dropLast<+:bY m0/\∃b f,m=b++[f]/\(f.next=0\/∃v,f.fn.code=[.push v,.give]))
def rX.drop{m0 m:List aI}(h:rX m0 m):(bY m).dropLast<+:bY m0:=by
 rcases h with h|h
 ·exact(List.dropLast_prefix _).trans h
 ·exact h.1
def DT(i:aH)(f:aI)(h:i.isBegin=false):(aM i f).1.fn=f.fn/\(aM i f).1.l_=f.l_:=by
 refine⟨mA i f,?_⟩;cases i<;>simp[aH.isBegin] at h<;>simp only[aM]<;>(repeat' split)<;>rfl
structure kL(m0:bV)(m:bV):Prop where
 stack:(bY m.f_).dropLast<+:bY m0.f_
 out:m0.out<+:m.out
def kL.deep{m:bV}(h:kL m0 m):m.f_.length<=m0.f_.length+1:=by
 have:=h.stack.length_le;simp[bY] at this;omega
def qH{j:List dG}(ht:iS ar j):∀(k:Nat) (m:bV) (r:bV × Nat),eT ar m->rX m0.f_ m.f_->m0.out<+:m.out->cM j k m=some r->kL m0 r.1
 |0,_,_,_,_,_,h=>by simp[cM] at h
 |k+1,⟨fr,t,o⟩,r,ha,N,u,h=>by
  by_cases F:fr=[]
  ·subst F;simp only[cM,List.getLast?_nil,Option.some.injEq] at h;subst h;exact⟨by simp[bY],u⟩
  obtain⟨b,f,rfl⟩:=jH F;have g:cI ar f 0:=ha.ok.top f (dW _ _);have S:iB f.fn.code:=ha.start f s_
  have V:=rK g.next
  have B:f.fn.code[f.next]?=some (f.fn.code[f.next]'g.next):=fi g.next
  generalize f.fn.code[f.next]'g.next=i at V B
  obtain⟨U,h2,h3⟩:=sJ ht ha V;rw[cM] at h;simp only[dW,V,dA] at h
  have p:bY b<+:bY m0.f_:=by
   have:=N.drop;rw[iJ,dA] at this;exact this
  have A:kL m0 (doI j i b { f with next:=f.next+1 } t o).1/\((doI j i b { f with next:=f.next+1 } t o).2=0->i.isBegin=false->rX m0.f_ (doI j i b { f with next:=f.next+1 } t o).1.f_):=by
   have same:∀y:aI,y.fn=f.fn->y.l_=f.l_->∀M X,m0.out<+:X->(y.next≠0->(∃v,f.fn.code=[.push v,.give])\/bY (b++[f])<+:bY m0.f_)->kL m0 ⟨b++[y],M,X⟩/\(y.next≠0->rX m0.f_ (b++[y])):=λy U h2 M X W O=>by
    refine⟨⟨by simp only[iJ,dA];exact p,W⟩,λP=>?_⟩
    rcases O P with ⟨v,E⟩|I
    ·exact d6 ⟨by rw[iJ,dA];exact p,b,y,rfl,d6 ⟨v,by rw[U];exact E⟩⟩
    ·left
     rw[iJ] at I ⊢
     rw[U,h2];exact I
   have d:i.isBegin=false->(∃v,f.fn.code=[.push v,.give])\/bY (b++[f])<+:bY m0.f_:=λw=>by
    rcases N with N|⟨_,G,f',e,K⟩
    ·exact d6 N
    ·obtain⟨_,rfl⟩:=OV e;rcases K with K|K
     ·rcases S with ⟨l,s,r,e⟩|E
      ·rw[e,K] at B;simp at B;rw[<-B] at w;simp[aH.isBegin] at w
      ·exact d7 E
     ·exact d7 K
   by_cases P:i=.give
   ·subst P;rcases ik b with rfl|⟨G,x,rfl⟩
    ·exact⟨⟨by simp[doI,bY],by simpa [doI] using u⟩,λ_ _=>d7 (by simp[doI,bY])⟩
    ·rw[il] at*;have e:doI j .give (G++[x]) { f with next:=f.next+1 } t o=(⟨G++[x.push (aI.last { f with next:=f.next+1 })],t,o⟩,0):=by simp[doI]
     rw[e];have L:bY (G++[x.push (aI.last { f with next:=f.next+1 })])=bY (G++[x]):=by simp[bY,aI.push]
     exact⟨⟨by rw[L];exact(List.dropLast_prefix _).trans p,u⟩,λ_ _=>d7 (by rw[L];exact p)⟩
   by_cases hr:i=.read
   ·subst hr;have:=d rfl;cases t with
    |nil=>exact⟨(same { f with next:=f.next+1 } rfl rfl [] o u λ_=>this).1,λq=>by simp[doI] at q⟩
    |cons a M=>
     have C:=same (aI.push { f with next:=f.next+1 } (bC a)) rfl rfl M o u λ_=>this
     exact⟨C.1,λ_ _=>C.2 (by simp[aI.push])⟩
   by_cases I:i=.print
   ·subst I;have:=d rfl;simp only[doI];split
    ·exact⟨(same (aI.pop { f with next:=f.next+1 }) rfl rfl t o u λ_=>this).1,λq=>by simp at q⟩
    ·have C:=same (aI.pop { f with next:=f.next+1 }) rfl rfl t (o++[jB (aI.last { f with next:=f.next+1 })]) (u.trans (List.prefix_append _ _)) λ_=>this
     exact⟨C.1,λ_ _=>C.2 (by simp[aI.pop])⟩
   by_cases H:∃c n,i=.call c n
   ·obtain⟨c,n,rfl⟩:=H
    have D:bY (b++[f])<+:bY m0.f_:=by
     rcases d rfl with ⟨v,E⟩|h'
     ·rw[E] at B;have Q:f.next<2:=by have:=g.next;rw[E] at this;simpa using this
      match J:f.next,Q with
      |0,_=>rw[J] at B;simp at B
      |1,_=>rw[J] at B;simp at B
     ·exact h'
    simp only[doI];split
    ·exact⟨(same (aI.popMany { f with next:=f.next+1 } n) rfl rfl t o u λ_=>d6 D).1,λq=>by simp at q⟩
    ·have Y:∀y z:aI,b++[y,z]=(b++[y])++[z]:=s_
     have L:bY (b++[aI.popMany { f with next:=f.next+1 } n])=bY (b++[f]):=by simp[bY,aI.popMany]
     refine⟨⟨by rw[Y,iJ,dA,L];exact D,u⟩,λ_ _=>d6 ⟨by rw[Y,iJ,dA,L];exact D,b++[aI.popMany { f with next:=f.next+1 } n],_,Y _ _,d7 rfl⟩⟩
   have T:∀k n,i≠.call k n:=λk n e=>H ⟨k,n,e⟩
   rw[sK P hr I T];cases w:i.isBegin
   ·obtain⟨s1,s2⟩:=DT i { f with next:=f.next+1 } w
    have C:=same (aM i { f with next:=f.next+1 }).1 s1 s2 t o u λ_=>d w
    refine⟨C.1,λq _=>?_⟩
    by_cases O:(aM i { f with next:=f.next+1 }).1.next=0
    ·exact d6 ⟨by rw[iJ,dA];exact p,b,_,rfl,d7 O⟩
    ·exact C.2 O
   ·cases i<;>simp[aH.isBegin] at w
    exact⟨⟨by simp only[iJ,dA];exact p,u⟩,λ_ Z=>by simp at Z⟩
  by_cases q:(doI j i b { f with next:=f.next+1 } t o).2=0
  ·rw[if_neg (by rw[q];simp)] at h
   cases w:i.isBegin
   ·rw[w] at h;simp only[Bool.false_eq_true,if_false] at h;exact qH ht k _ r (h3 q) (A.2 q w) A.1.out h
   ·rw[if_pos w] at h;cases h;exact A.1
  ·rw[if_pos q] at h;cases h;exact A.1
def nP(s:List (List UInt8)):Prop:=s.Nodup/\s.length<=90001
def nP.nil:nP []:=⟨List.nodup_nil,s_⟩
def bD(c:List aH):Prop:=∀l s,aH.begin l s∈c->nP s
def bD.app{a b:List aH}(h:bD a)(k:bD b):bD (a++b):=λl s c=>by
 rcases eu.1 c with c|c
 ·exact h l s c
 ·exact k l s c
def bD.one(h:i.isBegin=false):bD [i]:=λl s a=>by
 rw[ew] at a;rw[<-a] at h;cases h
def bD.nil:bD []:=λl s a=>by cases a
def uD{c:aC->Nat->List aH}(b:∀a p,bD (c a p)):∀(l:List aC) (p:Nat),bD (bP c l p)
 |[],_=>bD.nil
 |a::l,p=>(b a p).app (uD b l _)
def iV{c:Prop}[Decidable c]{a b:List aH}(h:bD a)(k:bD b):bD (if c then a else b):=by split<;>assumption
def nY(fs:List aC)(e_:List (List UInt8)):∀(d:Nat) (a:aC) (p:Nat),bD (aG fs e_ d a p)
 |0,_,_=>bD.nil
 |d+1,a,p=>by
  have b:=uD (nY fs e_ d) a.y_ p;have o:∀i:aH,i.isBegin=false->bD [i]:=λi h=>bD.one h
  rw[aG];refine iV (o _ rfl) (iV (o _ rfl) (iV (o _ rfl) (iV (o _ rfl) (iV (b.app (o _ rfl)) (iV (b.app (o _ rfl)) (iV (b.app (o _ rfl)) (iV (b.app (o _ rfl)) (iV (b.app (o _ ?_)) (iV ?_ (b.app (o _ rfl)))))))))))
  ·split
   ·rfl
   ·split<;>rfl
  ·split
   ·exact(((nY fs e_ d _ _).app (o _ rfl)).app (nY fs e_ d _ _)).app (o _ rfl)
   ·exact bD.nil
def bD.start{l:Nat}{s:List (List UInt8)}(e:nP s)(f:bD c):bD (.begin l s::c):=λd b a=>by
 rcases ep.1 a with a|a
 ·cases a;exact e
 ·exact f d b a
def YT(fs:List aC)(d:Nat):Prop:=∀(e_:List (List UInt8)) (a:aC) (p:Nat),dD fs d e_ a->nP e_->bD (aW fs d e_ a p).1/\nP (aW fs d e_ a p).2
def uB(c:YT fs d):∀(l:List aC) (e_:List (List UInt8)) (p:Nat),StsOk (dD fs d) e_ l->nP e_->bD (bG (aW fs d) e_ l p)
 |[],_,_,_,_=>bD.nil
 |a::l,e_,p,h,e=>by
  obtain⟨f,b⟩:=c e_ a p h.1 e;have g:(aW fs d e_ a p).2=cO e_ a:=(lQ fs d e_ a (λ_ _=>False) p h.1 ⟨λ_ _ _ h=>h.elim,λ_ _ h=>h.elim⟩).2.1
  refine f.app ?_;rw[g] at b ⊢
  exact uB c l _ _ h.2 b
def IU(fs:List aC):∀d,YT fs d
 |0=>λ_ _ _ h _=>h.elim
 |d+1=>by
  intro g a p h e;have j:=nY fs g d;have k:∀(b:aC) q,StsOk (dD fs d) g b.y_->bD (bG (aW fs d) g b.y_ q):=λb q l=>uB (IU fs d) b.y_ g q l e
  have s:([115,101,116]==([118,97,114]:List UInt8))=false:=rfl;rcases h with ⟨i,r,t,v,f,_,o⟩|⟨i,_⟩|⟨i,c,t,f,_,m⟩|⟨i,c,b,f,_,l⟩|⟨i,f⟩|⟨i,v,f,_⟩|⟨i,c,f,_⟩
  ·unfold aW;simp only[i,f,gb];exact⟨bD.start e ((j v _).app (bD.one rfl)),⟨ey.2 ⟨o,e.1⟩,t_⟩⟩
  ·unfold aW;simp only[i];exact⟨bD.start e ((uD j _ _).app (bD.one rfl)),e⟩
  ·unfold aW;simp only[i];rcases f with f|⟨x,f,n⟩<;>rw[f]
   ·exact⟨bD.start e ((((j c _).app (bD.one rfl)).app (k t _ m)).app (bD.one rfl) |>.app bD.nil),e⟩
   ·exact⟨bD.start e ((((j c _).app (bD.one rfl)).app (k t _ m)).app (bD.one rfl) |>.app (k x _ n)),e⟩
  ·unfold aW;simp only[i,f];exact⟨bD.start e (((j c _).app (bD.one rfl)).app (k b _ l) |>.app (bD.one rfl)),e⟩
  ·unfold aW;simp only[i];rcases f with f|⟨v,f,_⟩<;>rw[f]
   ·exact⟨bD.start e ((bD.one rfl).app (bD.one rfl)),e⟩
   ·exact⟨bD.start e ((j v _).app (bD.one rfl)),e⟩
  ·unfold aW;simp only[i,f];exact⟨bD.start e ((j v _).app (bD.one rfl)),e⟩
  ·unfold aW;simp only[i,f];exact⟨bD.start e ((j c _).app (bD.one rfl)),e⟩
def F7{f:aC}(h:iI fs d f)(e:f.y_.length<=90000):bD (eY fs d f).code:=by
 obtain⟨⟨g,b,c,j,k⟩,_⟩:=h;have a:(eY fs d f).code=bG (aW fs d) (g.map (·.x_)).reverse b.y_ 0++[.push (bC 0),.give]:=by simp[eY,c]
 rw[a];exact(uB (IU fs d) b.y_ _ 0 j ⟨List.pairwise_reverse.2 (k.imp λh=>h.symm),by rw[c] at e;simp at e ⊢;omega⟩).app ((bD.one (i:=.push (bC 0)) rfl).app (bD.one (i:=.give) rfl))
def kD(m:bV):Prop:=∀f∈m.f_,nP f.e_/\bD f.fn.code
def GK(i:aH)(f:aI)(a:nP f.e_)(b:∀l s,i=.begin l s->nP s):nP (aM i f).1.e_:=by
 cases i with
 |begin l s=>exact b l s rfl
 |_=>simp only[aM]<;>(repeat' split)<;>exact a
def G8{p:List dG}(D:∀f∈p,bD f.code){b:List aI}(h:kD ⟨b++[f],t,o⟩)(F:i∈f.fn.code)(k:Nat):kD (doI p i b { f with next:=k } t o).1:=by
 have u:∀x∈b,nP x.e_/\bD x.fn.code:=λx q=>h x (by simp[q])
 have m:=h f s_
 have d:∀(y:aI) v B,nP y.e_->y.fn=f.fn->kD ⟨b++[y],v,B⟩:=λy v B E C x q=>by
  rcases eu.1 q with q|q
  ·exact u x q
  ·rw[ew.1 q];exact⟨E,by rw[C];exact m.2⟩
 by_cases A:i=.give
 ·subst A;rcases ik b with rfl|⟨H,x,rfl⟩
  ·intro y j;simp[doI] at j
  ·rw[il] at*;intro y j;simp[doI] at j;rcases j with j|rfl
   ·exact u y (by simp[j])
   ·exact u x s_
 by_cases z:i=.read
 ·subst z;cases t with
  |nil=>exact d _ _ _ m.1 rfl
  |cons a v=>exact d _ _ _ m.1 rfl
 by_cases w:i=.print
 ·subst w;simp only[doI];split<;>exact d _ _ _ m.1 rfl
 by_cases r:∃c n,i=.call c n
 ·obtain⟨c,n,rfl⟩:=r;simp only[doI];split
  ·exact d _ _ _ m.1 rfl
  ·intro y j;simp at j;rcases j with j|rfl|rfl
   ·exact u y j
   ·exact m
   ·refine⟨nP.nil,?_⟩;cases G:p[c]? with
    |none=>exact bD.nil
    |some g=>exact D g (hC G)
 rw[sK A z w λk n e=>r ⟨k,n,e⟩]
 exact d _ _ _ (GK i _ m.1 λl s e=>m.2 l s (e▸F)) (mA i _)
def wD{d:List dG}(n:∀f∈d,bD f.code):∀(k:Nat) (m:bV) (r:bV × Nat),kD m->cM d k m=some r->kD r.1
 |0,_,_,_,h=>by simp[cM] at h
 |k+1,⟨s,t,o⟩,r,p,h=>by
  by_cases e:s=[]
  ·subst e;simp only[cM,List.getLast?_nil,Option.some.injEq] at h;subst h;exact p
  obtain⟨b,f,rfl⟩:=jH e;rw[cM] at h;simp only[dW,dA] at h;cases a:f.fetch with
  |none=>rw[a] at h;cases h
  |some q=>
   obtain⟨i,g⟩:=q;rw[a] at h;simp only at h
   obtain⟨rfl,u⟩:g={ f with next:=f.next+1 }/\i∈f.fn.code:=by
    unfold aI.fetch at a;cases l:f.fn.code[f.next]? with
    |none=>rw[l] at a;cases a
    |some j=>rw[l] at a;simp at a;exact⟨a.2.symm,by rw[<-a.1];exact hC l⟩
   have c:=G8 n p u (f.next+1)
   split at h
   ·cases h;exact c
   split at h
   ·cases h;exact c
   ·exact wD n k _ r c h
def UB{D:Nat}(i:∀f∈fs,iI fs D f)(m:∀f∈fs,f.y_.length<=90000)(b:List Int):∀(t:Nat) (s:bI),dR (cP fs D) (eU fs D b) t=some s->kD s.m:=by
 have e:∀f∈cP fs D,bD f.code:=λf d=>by
  simp only[cP,ia] at d;obtain⟨a,k,rfl⟩:=d;exact F7 (i a k) (m a k)
 intro t;induction t with
 |zero=>
  intro s h;rw[dR] at h;cases c:cM (cP fs D) gE (eU fs D b) with
  |none=>rw[c] at h;cases h
  |some r=>
   rw[c] at h;cases h;refine wD e _ _ _ (λf d=>?_) c
   simp only[eU,ew] at d;subst d;refine⟨nP.nil,?_⟩;cases o:(cP fs D)[cS fs [109,97,105,110]]? with
   |none=>exact bD.nil
   |some g=>exact e g (hC o)
 |succ t n=>
  intro s h;rw[dR] at h;cases j:dR (cP fs D) (eU fs D b) t with
  |none=>rw[j] at h;cases h
  |some l=>
   rw[j] at h;simp only at h;split at h
   ·cases c:cM (cP fs D) gE l.m with
    |none=>rw[c] at h;cases h
    |some r=>rw[c] at h;cases h;exact wD e _ _ _ (n _ j) c
   ·cases h
def pX{a:List dG}(d:iS ar a)(f:eT ar m0){t:Nat}{s c:bI}(h:dR a m0 t=some s)(h':dR a m0 (t+1)=some c):s.stop=0/\kL s.m c.m:=by
 rw[dR,h] at h';simp only at h';split at h'
 ·rename_i e;cases b:cM a gE s.m with
  |none=>rw[b] at h';cases h'
  |some r=>
   rw[b] at h';cases h';exact⟨e,qH d gE s.m r ((uC d f t s h).1.ok e).1 (d7 (je _)) (je _) b⟩
 ·cases h'
def UC{D:Nat}(g:∀f∈fs,iI fs D f)(m:fH fs (cS fs [109,97,105,110])=some 0)(a:List Int){s:bI}(h:dR (cP fs D) (eU fs D a) 0=some s):s.m.out=[]:=by
 obtain⟨f,T,i,_,_,_,_,o⟩:=(iL g).fn _ _ m;have e:eU fs D a=⟨[⟨f,0,0,[],[],[]⟩],a,[]⟩:=by unfold eU;rw[i];rfl
 obtain⟨n,k⟩:∃n,gE=n+3:=⟨gE-3,by have:=xV;omega⟩
 rw[dR,e,k] at h;generalize cP fs D=b at h;rcases o with ⟨l,j,r,c⟩|⟨v,c⟩
 ·have d:cM b (n+3) ⟨[⟨f,0,0,[],[],[]⟩],a,[]⟩=some (⟨[⟨f,1,l,j,[],[]⟩],a,[]⟩,0):=by
   rw[cM];simp[aI.fetch,c,doI,aM,aH.isBegin]
  rw[d] at h;cases h;rfl
 ·have d:cM b (n+3) ⟨[⟨f,0,0,[],[],[]⟩],a,[]⟩=some (⟨[],a,[]⟩,1):=by
   rw[cM];simp[aI.fetch,c,doI,aM,aH.isBegin,aI.push];rw[cM];simp[aI.fetch,c,doI,aH.isBegin];rw[cM];simp
  rw[d] at h;cases h;rfl
end Go.Proofs.YthbffcmfmjpncaaGreatDoor.Hs
