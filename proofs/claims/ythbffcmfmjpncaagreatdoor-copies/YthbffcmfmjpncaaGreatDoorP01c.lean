/- The shapes of trees that were read: plain facts. -/
import Derived.Test.YthbffcmfmjpncaaGreatDoorP00c
set_option linter.defProp false
set_option maxRecDepth 100000
namespace Go.Proofs.YthbffcmfmjpncaaGreatDoor.Hs
variable{o e_:List (List UInt8)}{t:List Int}{l:List UInt8}{fs ks:List aC}{ts:List aP}{d m n p:Nat}{ar:Nat->Option Nat}{b c:Type}{a:aC}{i:aH}{P:aH->Prop}{f g:aI}{s:bA}
inductive dD:aC->Prop
 |leaf (a:aC) (h:a.op=[48]\/a.op=[115]\/a.op=[98,111,111,108]\/a.op=[110,97,109,101]) (hk:a.y_=[]) (ht:a.op=[115]->NK a.x_):dD a
 |many (a:aC) (h:a.op=[108,105,115,116]\/a.op=[99,97,108,108]) (hk:∀k∈a.y_,dD k):dD a
 |one (a l:aC) (h:a.op=[45,120]\/a.op=[33,120]) (hk:a.y_=[l]) (hl:dD l):dD a
 |two (a l r:aC) (h:a.op=[105,110,100,101,120]\/bW a.op≠9) (hk:a.y_=[l,r]) (hl:dD l) (hr:dD r):dD a
inductive gI:aC->Prop
 |var (a t v:aC) (h:a.op=[118,97,114]) (hk:a.y_=[t,v]) (hv:dD v) (ht:t.op=[116,97,114,103,101,116]/\t.y_=[]):gI a
 |set (a:aC) (h:a.op=[115,101,116]) (hn:a.y_≠[]) (hk:∀k∈a.y_,dD k):gI a
 |if2 (a c t:aC) (h:a.op=[105,102]) (hk:a.y_=[c,t]) (hc:dD c) (ht:t.op=[98,108,111,99,107]) (htk:∀k∈t.y_,gI k):gI a
 |if3 (a c t x:aC) (h:a.op=[105,102]) (hk:a.y_=[c,t,x]) (hc:dD c) (ht:t.op=[98,108,111,99,107]) (htk:∀k∈t.y_,gI k) (hx:x.op=[98,108,111,99,107]) (hxk:∀k∈x.y_,gI k):gI a
 |whl (a c t:aC) (h:a.op=[119,104,105,108,101]) (hk:a.y_=[c,t]) (hc:dD c) (ht:t.op=[98,108,111,99,107]) (htk:∀k∈t.y_,gI k):gI a
 |ret0 (a:aC) (h:a.op=[114,101,116,117,114,110]) (hk:a.y_=[]):gI a
 |ret1 (a v:aC) (h:a.op=[114,101,116,117,114,110]) (hk:a.y_=[v]) (hv:dD v):gI a
 |print (a v:aC) (h:a.op=[112,114,105,110,116]) (hk:a.y_=[v]) (hv:dD v):gI a
 |call (a c:aC) (h:a.op=[100,111]) (hk:a.y_=[c]) (hc:dD c) (ho:c.op=[99,97,108,108]):gI a
structure NQ(b:aC):Prop where
 op:b.op=[98,108,111,99,107]
 y_:∀k∈b.y_,gI k
structure rQ(f:aC):Prop where
 y_:∃ps b,f.y_=ps++[b]/\(∀x∈ps,x.op=[112,97,114,97,109])/\NQ b/\∀x∈ps,x.y_=[]
def bK{α:Type}(P:α->Prop)(r:bQ α):Prop:=∀a q,r=.ok (a,q)->P a
def bK.err{P:b->Prop}:bK P (.error n):=λa q h=>by cases h
def bK.bad{P:c->Prop}{b:Nat}:bK P (bad ts b):=λa q h=>by cases h
def bK.of_ok{P:b->Prop}{q:Nat}{a:b}(h:P a):bK P (.ok (a,q)):=λc d e=>by cases e;exact h
def bK.take{P:b->Prop}{x:List UInt8}{r:bQ b}(h:bK P r):bK P (aL ts x r):=by
 cases r with
 |error l=>exact bK.err
 |ok c=>
  obtain⟨a,q⟩:=c;have:=h a q rfl;unfold aL;simp only;split
  ·exact bK.of_ok this
  ·exact bK.bad
def bK.map{P:b->Prop}{Q:c->Prop}{r:bQ b}{f:b->c}(h:bK P r)(d:∀a,P a->Q (f a)):bK Q (bV f r):=by
 cases r with
 |error l=>exact bK.err
 |ok e=>obtain⟨a,q⟩:=e;exact bK.of_ok (d a (h a q rfl))
def bK.bind{P:b->Prop}{Q:c->Prop}{r:bQ b}{f:b->Nat->bQ c}(h:bK P r)(d:∀a q,P a->bK Q (f a q)):bK Q (bO r f):=by
 cases r with
 |error l=>exact bK.err
 |ok e=>obtain⟨a,q⟩:=e;exact d a q (h a q rfl)
def eP(P:aC->Prop)(l:List aC):Prop:=∀k∈l,P k
def eP.nil{P:aC->Prop}:eP P []:=λ_ h=>by cases h
def eP.snoc{P:aC->Prop}{l:List aC}(h:eP P l)(c:P a):eP P (l++[a]):=λk b=>by
 rcases eo.1 b with b|b
 ·exact h k b
 ·rw[et.1 b];exact c
section
variable {ts:List aP} {E:Nat->bQ aC}
def rN(ts:List aP):Prop:=∀p,(aN ts p).sort=115->NK (aN ts p).x_
def qS(d:∀q,bK dD (E q)):∀(g p:Nat) (acc:List aC),eP dD acc->bK (eP dD) (dI E ts g p acc)
 |0,p,acc,_=>bK.err
 |g+1,p,acc,c=>by
  rw[dI];cases f:E p with
  |error l=>exact bK.err
  |ok e=>
   obtain⟨a,q⟩:=e;have b:=d p a q f;simp only;split
   ·exact qS d g (q+1) _ (c.snoc b)
   ·exact bK.of_ok (c.snoc b)
def qR(a:∀q,bK dD (E q))(p:Nat)(x y:List UInt8):bK (eP dD) (eM E ts p x y):=by
 unfold eM;split
 ·refine bK.take ?_;unfold iG;split
  ·exact bK.of_ok eP.nil
  ·exact qS a _ _ _ eP.nil
 ·exact bK.bad
def GB(b:rN ts)(c:∀q,bK dD (E q))(p:Nat):bK dD (dX E ts p):=by
 unfold dX;split
 ·rename_i h;simp at h;rcases h with h|h
  ·refine bK.of_ok (.leaf _ (d6 (by show [UInt8.ofNat _]=_;rw[h];rfl)) rfl λe=>?_)
   have d:[UInt8.ofNat (aN ts p).sort]=[115]:=e;rw[h] at d;exact absurd d d_
  ·exact bK.of_ok (.leaf _ (d5 (d6 (by show [UInt8.ofNat _]=_;rw[h];rfl))) rfl λ_=>b p h)
 split
 ·exact bK.of_ok (.leaf _ (d5 (d5 (d6 rfl))) rfl λe=>by simp[aR] at e)
 split
 ·exact(c (p+1)).take
 split
 ·exact bK.map (qR c p _ _) λa h=>.many _ (d6 rfl) h
 split
 ·split
  ·exact bK.map (qR c (p+1) _ _) λa h=>.many _ (d5 rfl) h
  ·exact bK.of_ok (.leaf _ (d5 (d5 (d5 rfl))) rfl λe=>by simp[aR] at e)
 ·exact bK.bad
def yD(b:∀q,bK dD (E q)):∀(g:Nat) (n:aC) (p:Nat),dD n->bK dD (cZ E ts g n p)
 |0,n,p,_=>bK.err
 |g+1,n,p,a=>by
  rw[cZ];split
  ·have c:=(b (p+1)).take (ts:=ts) (x:=[93]);cases d:aL ts [93] (E (p+1)) with
   |error l=>exact bK.err
   |ok e=>
    obtain⟨i,q⟩:=e;exact yD b g _ q (.two _ n i (d6 rfl) rfl a (c i q d))
  ·exact bK.of_ok a
def qP(b:rN ts)(c:∀q,bK dD (E q)):∀(g p:Nat),bK dD (eK E ts g p)
 |0,p=>bK.err
 |g+1,p=>by
  rw[eK];split
  ·exact bK.map (qP b c g (p+1)) λa h=>.one _ a (d6 rfl) rfl h
  split
  ·exact bK.map (qP b c g (p+1)) λa h=>.one _ a (d5 rfl) rfl h
  ·exact bK.bind (GB b c p) λa q d=>yD c _ a q d
def pS{L:Nat->bQ aC}{k:Nat}(b:k<9)(d:∀q,bK dD (L q)):∀(g:Nat) (n:aC) (q:Nat),dD n->bK dD (bD L ts k g n q)
 |0,n,q,_=>bK.err
 |g+1,n,q,c=>by
  rw[bD];split
  ·rename_i a;cases j:L (q+1) with
   |error l=>exact bK.err
   |ok h=>
    obtain⟨r,e⟩:=h;have i:=d _ r e j;have f:dD (aR (aN ts q).x_ (aN ts q).l_ [] [n,r]):=.two _ n r (d5 (by simp at a;show bW (aN ts q).x_≠9;rw[a.2];omega)) rfl c i
    simp only;split
    ·exact bK.of_ok f
    ·exact pS b d g _ e f
  ·exact bK.of_ok c
def qT(b:rN ts)(c:∀q,bK dD (E q)):∀(j p:Nat),bK dD (fQ E ts j p)
 |0,p=>qP b c _ p
 |j+1,p=>by
  rw[fQ];exact bK.bind (qT b c j p) λa q d=>pS o_ (λq=>qT b c j q) _ a q d
def DA(ts:List aP)(a:rN ts):∀(f p:Nat),bK dD (fD ts f p)
 |0,p=>bK.err
 |f+1,p=>by
  rw[fD];exact qT a (λq=>DA ts a f q) 5 p
def sQ(b:∀q,bK dD (E q)):∀(g p:Nat) (acc:List aC),eP dD acc->bK (eP dD) (eR E ts g p acc)
 |0,p,acc,_=>bK.err
 |g+1,p,acc,a=>by
  rw[eR];split
  ·have c:=(b (p+1)).take (ts:=ts) (x:=[93]);cases d:aL ts [93] (E (p+1)) with
   |error l=>exact bK.err
   |ok e=>
    obtain⟨i,q⟩:=e;exact sQ b g q _ (a.snoc (c i q d))
  ·exact bK.of_ok a
def LJ(b:∀q,bK dD (E q))(p:Nat):bK gI (eQ E ts p):=by
 unfold eQ;split
 ·split
  ·exact bK.take (bK.map (qR b (p+1) _ _) λa h=>.call _ _ rfl rfl (.many _ (d5 rfl) h) rfl)
  ·refine bK.bind ((sQ b _ (p+1) [] eP.nil).take) λl q d=>?_
   exact bK.take (bK.map (b q) λv c=>.set _ rfl (by simp[aR]) (d.snoc c))
 ·exact bK.bad
def UC{B:Nat->bQ aC}(a:∀q,bK dD (E q))(h:∀q,bK NQ (B q))(p:Nat):bK gI (jD E B ts p):=by
 unfold jD;split
 ·unfold oR;split
  ·split
   ·exact bK.take (bK.map (a (p+3)) λv e=>.var _ _ v rfl rfl e ⟨rfl,rfl⟩)
   ·exact bK.bad
  ·exact bK.bad
 split
 ·unfold rA;refine bK.bind (a (p+1)) λc q f=>bK.bind (h q) λb k g=>?_
  split
  ·exact bK.map (h (k+1)) λd i=>.if3 _ c b d rfl rfl f g.op g.y_ i.op i.y_
  ·exact bK.of_ok (.if2 _ c b rfl rfl f g.op g.y_)
 split
 ·unfold kJ;exact bK.bind (a (p+1)) λc q f=>bK.map (h q) λb j=>.whl _ c b rfl rfl f j.op j.y_
 split
 ·unfold gW;split
  ·exact bK.of_ok (.ret0 _ rfl rfl)
  ·exact bK.take (bK.map (a (p+1)) λv e=>.ret1 _ v rfl rfl e)
 split
 ·unfold iV;exact bK.take (bK.map (a (p+1)) λv e=>.print _ v rfl rfl e)
 ·exact LJ a p
def pT{S:Nat->bQ aC}(b:∀q,bK gI (S q)):∀(g p:Nat) (acc:List aC),eP gI acc->bK (eP gI) (dJ S ts g p acc)
 |0,p,acc,_=>bK.err
 |g+1,p,acc,a=>by
  rw[dJ];split
  ·exact bK.of_ok a
  ·cases c:S p with
   |error l=>exact bK.err
   |ok d=>
    obtain⟨s,q⟩:=d;exact pT b g q _ (a.snoc (b p s q c))
def yE(a:∀q,bK dD (E q)):∀(f p:Nat),bK NQ (iY E ts f p)
 |0,p=>bK.err
 |f+1,p=>by
  rw[iY];split
  ·exact bK.map (bK.take (pT (λq=>UC a (λq=>yE a f q) q) _ (p+1) [] eP.nil)) λl h=>⟨rfl,h⟩
  ·exact bK.bad
def pR:∀(g p:Nat) (acc:List aC),eP (λx=>x.op=[112,97,114,97,109]/\x.y_=[]) acc->bK (eP λx=>x.op=[112,97,114,97,109]/\x.y_=[]) (cR ts g p acc)
 |0,p,acc,_=>bK.err
 |g+1,p,acc,b=>by
  have a:eP (λx=>x.op=[112,97,114,97,109]/\x.y_=[]) (acc++[aR [112,97,114,97,109] (aN ts p).l_ (aN ts p).x_ []]):=b.snoc ⟨rfl,rfl⟩
  rw[cR];split
  ·split
   ·exact pR g (p+2) _ a
   ·exact bK.of_ok a
  ·exact bK.bad
def UD{B:Nat->bQ aC}(e:∀q,bK NQ (B q))(p:Nat):bK rQ (jY B ts p):=by
 unfold jY;split
 ·split
  ·split
   ·have a:bK (eP λx=>x.op=[112,97,114,97,109]/\x.y_=[]) (gY ts (p+3)):=by
     unfold gY;refine bK.take ?_;split
     ·exact bK.of_ok eP.nil
     ·exact pR _ (p+3) [] eP.nil
    exact bK.bind a λl q d=>bK.map (e q) λb f=>⟨l,b,rfl,λx c=>(d x c).1,f,λx c=>(d x c).2⟩
   ·exact bK.bad
  ·exact bK.bad
 ·exact bK.bad
def qQ{F:Nat->bQ aC}(b:∀q,bK rQ (F q)):∀(g p:Nat) (acc:List aC),eP rQ acc->bK (eP rQ) (eS F ts g p acc)
 |0,p,acc,_=>bK.err
 |g+1,p,acc,a=>by
  rw[eS];split
  ·exact bK.of_ok a
  ·cases d:F p with
   |error l=>exact bK.err
   |ok c=>
    obtain⟨s,q⟩:=c;exact qQ b g q _ (a.snoc (b p s q d))
end
def cP.split{a b:List UInt8}{c:UInt8}(G:c.toNat<128)(h:cP (a++c::b)):cP a/\cP b:=by
 generalize w:a++c::b=l at h;induction h generalizing a with
 |nil=>simp at w
 |cons o r F=>
  subst w;cases a with
  |nil=>
   have e:bC ([]++c::b)=1:=by simp[bC,G]
   rw[e] at r;exact⟨.nil,by simpa using r⟩
  |cons x a=>
   have q:bC (x::a++c::b)<=(x::a).length:=by
    refine Nat.le_of_not_lt λd=>?_
    have D:∀i g j,128<=g->i=a.length+1->dF (x::a++c::b) i g j=false:=λi g j s p=>by
     subst p;have:(x::a++c::b)[a.length+1]?=some c:=s_
     unfold dF;rw[this];simp;omega
    have f:∀i g j,128<=g->dF (x::a++c::b) i g j=true->i≠a.length+1:=λi g j s t e=>by rw[D i g j s e] at t;cases t
    unfold bC at o d;rw[ek] at d;simp only[fh,jx] at o d f;have k:∀n m:Nat,128<=m->128<=(if x.toNat=n then m else 128):=λn m h=>by split<;>omega
    by_cases u:x.toNat<128
    ·rw[if_pos u] at d;omega
    rw[if_neg u] at d;by_cases v:194<=x.toNat/\x.toNat<=223
    ·rw[if_pos v] at d;by_cases h:dF (x::(a++c::b)) 1 128 191=true
     ·rw[if_pos h] at d;have:=f _ _ _ o_ h;omega
     ·rw[if_neg h] at d;omega
    rw[if_neg v] at d;by_cases y:224<=x.toNat/\x.toNat<=239
    ·rw[if_pos y] at d;by_cases h:(dF (x::(a++c::b)) 1 (if x.toNat=224 then 160 else 128) (if x.toNat=237 then 159 else 191) && dF (x::(a++c::b)) 2 128 191)=true
     ·rw[if_pos h] at d;rw[fq] at h;have C:=f _ _ _ (k _ _ o_) h.1
      have H:=f _ _ _ o_ h.2
      omega
     ·rw[if_neg h] at d;omega
    rw[if_neg y] at d;by_cases z:240<=x.toNat/\x.toNat<=244
    ·rw[if_pos z] at d;by_cases h:(dF (x::(a++c::b)) 1 (if x.toNat=240 then 144 else 128) (if x.toNat=244 then 143 else 191) && dF (x::(a++c::b)) 2 128 191 && dF (x::(a++c::b)) 3 128 191)=true
     ·rw[if_pos h] at d;rw[fq,fq] at h;have C:=f _ _ _ (k _ _ o_) h.1.1
      have H:=f _ _ _ o_ h.1.2
      have I:=f _ _ _ o_ h.2
      omega
     ·rw[if_neg h] at d;omega
    ·rw[if_neg z] at d;omega
   have B:(x::a++c::b).drop (bC (x::a++c::b))=(x::a).drop (bC (x::a++c::b))++c::b:=by rw[List.drop_append_of_le_length q]
   obtain⟨A,E⟩:=F B.symm;refine⟨?_,E⟩;have e:bC (x::a)=bC (x::a++c::b):=nG o λi j=>(gy o_).symm
   exact .cons (by rw[e];exact o) (by rw[e];exact A)
def pL:∀(f:Nat) (l:List UInt8) (p:Nat),l.length<=f->dE f l p=none->cP l
 |0,l,_,h,_=>by
  obtain rfl:l=[]:=ge o_
  exact .nil
 |f+1,l,p,h,a=>by
  rw[dE] at a;split at a
  ·rename_i c;obtain rfl:l=[]:=ge c;exact .nil
  split at a
  ·cases a
  rename_i b;exact .cons b (pL f _ _ (by rw[gj];omega) a)
def NW(f:Nat):∀(b l:List UInt8) (ts:List aP),cU f b l=.ok ts->cP (b++l)->∀t∈ts,t.sort=115->NK t.x_:=by
 induction f with
 |zero=>intro b l ts h;cases h
 |succ f w=>
  intro b l ts h q t e a;by_cases g:l.length=0
  ·rw[kW _ _ _ g] at h;cases h;rw[et.1 e] at a;cases a
  ·cases d:(bJ l).ok
   ·rw[kX _ _ _ g d] at h;cases h
   ·rw[gV _ _ _ g d _ rfl] at h;generalize x:(bJ l).size+blankL l.length (l.drop (bJ l).size)=m at h;cases j:cU f (b++l.take m) (l.drop m) with
    |error n=>rw[j] at h;cases h
    |ok v=>
     rw[j] at h;cases h;rcases en.1 e with rfl|e
     ·cases l with
      |nil=>simp at g
      |cons c r=>
       rw[bJ] at a d ⊢
       by_cases o:(cB c || eC c)=true
       ·rw[if_pos o] at a;exfalso;unfold gD at a;split at a
        ·simp only at a;split at a<;>omega
        ·simp at a
       rw[if_neg o] at a d ⊢
       by_cases k:c.toNat=34
       ·rw[if_pos k] at d ⊢
        simp only[nL,fq,decide_eq_true_eq] at d;refine⟨by simp only[nL,gs];omega,?_⟩
        have u:r=r.take (bF fB r)++34::r.drop (bF fB r+1):=by
         obtain⟨i,s⟩:=gr.1 d.1;conv=>lhs;rw[<-gt (bF fB r) r,jz i,s]
        have p:=(q.split o_).2
        rw[u] at p;exact(p.split d_).1
       ·rw[if_neg k] at a;exfalso;unfold gM at a;split at a<;>simp at a
     ·exact w _ _ v j (by rw[fo,gt];exact q) t e a
def FC(h:fJ l=.ok ts)(c:dE l.length l 0=none):rN ts:=λp a=>by
 unfold aN at a ⊢
 cases b:ts[p]? with
 |none=>rw[b] at a;cases a
 |some t=>
  rw[b] at a;exact NW _ _ _ _ h (by rw[gt];exact pL _ _ _ (d7 _) c) t (g9 b) a
def vA(h:cX l=.ok ks):∀f∈ks,rQ f:=by
 unfold cX at h;split at h
 ·cases h
 split at h
 ·cases h
 rename_i a;split at h
 ·cases h
 rename_i c d;split at h
 ·cases h
 rename_i q b;cases h;exact qQ (λq=>UD (λe=>yE (λq=>DA c (FC d a) _ q) _ e) q) _ _ _ eP.nil _ _ b
def pE(s:bA)(l k:Nat)(h:s.kind≠0):(s.found l k).kind≠0:=by unfold bA.found;rw[if_neg h];exact h
def pU(s:bA)(n:aC)(h:s.kind≠0):(declaresL s n).kind≠0:=by
 unfold declaresL;split
 ·exact pE _ _ _ h
 ·exact h
def QA(fs:List aC)(a:Bool)(s:bA)(n:aC)(h:s.kind≠0):(cC fs a s n).kind≠0:=by
 unfold cC eG;repeat' split
 all_goals first|exact pE _ _ _ h|exact h
def gS{f:bA->aC->bA}(a:∀s k,s.kind≠0->(f s k).kind≠0):∀(l:List aC) (s:bA),s.kind≠0->(l.foldl f s).kind≠0
 |[],_,h=>h
 |k::l,s,h=>gS a l _ (a s k h)
def fG(fs:List aC)(a:Bool):∀(d:Nat) (n:aC) (s:bA),s.kind≠0->(aM fs a d n s).kind≠0
 |0,_,_,h=>h
 |d+1,n,s,h=>by
  rw[aM];split
  ·split
   ·exact fG fs a d _ _ (pU s _ h)
   ·exact h
  ·have b:(n.y_.foldl (λs k=>aM fs a d k s) (cC fs a s n)).kind≠0:=gS (λs k c=>fG fs a d k s c) _ _ (QA fs a s n h)
   simp only;split<;>exact b
def ExOk.up{b:Bool}:∀{d e:Nat} {a:aC},ExOk fs b e_ d a->d<=e->ExOk fs b e_ e a
 |0,_,_,h,_=>h.elim
 |d+1,0,_,_,h=>by omega
 |d+1,e+1,a,h,m=>by
  have g:∀k,ExOk fs b e_ d k->ExOk fs b e_ e k:=λk c=>ExOk.up c o_
  rcases h with h|h|⟨f,c⟩|⟨f,l,r,c,i,j⟩|⟨f,l,c,i⟩|⟨f,c,n⟩|⟨f,l,r,c,i,j⟩
  ·exact d6 h
  ·exact d5 (d6 h)
  ·exact d5 (d5 (d6 ⟨f,λk h=>g k (c k h)⟩))
  ·exact d5 (d5 (d5 (d6 ⟨f,l,r,c,g l i,g r j⟩)))
  ·exact d5 (d5 (d5 (d5 (d6 ⟨f,l,c,g l i⟩))))
  ·exact d5 (d5 (d5 (d5 (d5 (d6 ⟨f,λk h=>g k (c k h),n⟩)))))
  ·exact d5 (d5 (d5 (d5 (d5 (d5 ⟨f,l,r,c,g l i,g r j⟩)))))
def StsOk.up{S b:List (List UInt8)->aC->Prop}(h:∀s a,S s a->b s a):∀{l:List aC} {e_:List (List UInt8)},StsOk S e_ l->StsOk b e_ l
 |[],_,_=>trivial
 |_::_,_,c=>⟨h _ _ c.1,StsOk.up h c.2⟩
def dP.up:∀{d e:Nat} {e_:List (List UInt8)} {a:aC},dP fs d e_ a->d<=e->dP fs e e_ a
 |0,_,_,_,h,_=>h.elim
 |d+1,0,_,_,_,h=>by omega
 |d+1,e+1,e_,a,h,w=>by
  have j:∀k,ExOk fs false e_ d k->ExOk fs false e_ e k:=λk f=>f.up o_
  have i:∀l,StsOk (dP fs d) e_ l->StsOk (dP fs e) e_ l:=λl z=>z.up λs a h=>dP.up h o_
  rcases h with ⟨g,o,t,v,f,m,p⟩|⟨g,p,n,f⟩|⟨g,c,t,f,q,u⟩|⟨g,c,b,f,q,o⟩|⟨g,f|⟨v,f,m⟩⟩|⟨g,v,f,m⟩|⟨g,v,f,m⟩
  ·exact d6 ⟨g,o,t,v,f,j v m,p⟩
  ·exact d5 (d6 ⟨g,p,n,λk h=>j k (f k h)⟩)
  ·exact d5 (d5 (d6 ⟨g,c,t,f.imp id λ⟨x,y,r⟩=>⟨x,y,i _ r⟩,j c q,i _ u⟩))
  ·exact d5 (d5 (d5 (d6 ⟨g,c,b,f,j c q,i _ o⟩)))
  ·exact d5 (d5 (d5 (d5 (d6 ⟨g,d6 f⟩))))
  ·exact d5 (d5 (d5 (d5 (d6 ⟨g,d5 ⟨v,f,j v m⟩⟩))))
  ·exact d5 (d5 (d5 (d5 (d5 (d6 ⟨g,v,f,j v m⟩)))))
  ·exact d5 (d5 (d5 (d5 (d5 (d5 ⟨g,v,f,j v m⟩)))))
def hP{l k:Nat}(a:k≠0)(h:(s.found l k).kind=0):False:=by
 unfold bA.found at h;split at h
 ·exact a h
 ·rename_i b;exact b h
def tY{f:aC}{a:List UInt8}:∀{fs:List aC},dM fs a=some f->fs[dA fs a]?=some f
 |[],h=>by simp[dM] at h
 |x::l,h=>by
  unfold dM dA at*;rw[List.find?_cons] at h;rw[List.findIdx_cons];cases b:(x.x_==a) with
  |true=>rw[b] at h;simp at h;simp[h]
  |false=>
   rw[b] at h;simp only[cond_false,List.getElem?_cons_succ];exact tY (fs:=l) h
def mQ(fs:List aC)(a_:Bool)(d:Nat)(a:aC):Prop:=
 ∀sn,(aM fs a_ d a ⟨sn,0,0⟩).kind=0->aM fs a_ d a ⟨sn,0,0⟩=⟨sn,0,0⟩/\ExOk fs a_ sn.reverse d a
def jP{b:Bool}:∀(l:List aC) (c:List (List UInt8)),(∀k∈l,mQ fs b d k)->(l.foldl (λs k=>aM fs b d k s) ⟨c,0,0⟩).kind=0->
 l.foldl (λs k=>aM fs b d k s) ⟨c,0,0⟩=⟨c,0,0⟩/\∀k∈l,ExOk fs b c.reverse d k
 |[],c,_,_=>⟨rfl,λk e=>by cases e⟩
 |a::l,c,h,f=>by
  rw[ig] at f ⊢
  have j:(aM fs b d a ⟨c,0,0⟩).kind=0:=gu λg=>gS (λs k p=>fG fs b d k s p) l _ g f
  obtain⟨n,i⟩:=h a (fu ..) c j;rw[n] at f ⊢
  obtain⟨o,m⟩:=jP l c (λk e=>h k (fe _ e)) f
  refine⟨o,λk e=>?_⟩
  rcases en.1 e with rfl|e
  ·exact i
  ·exact m k e
def fM{a:Bool}{n:aC}(c:n.op≠[118,97,114])(b:n.op≠[98,108,111,99,107]):aM fs a (d+1) n s=n.y_.foldl (λs k=>aM fs a d k s) (cC fs a s n):=by
 rw[aM];rw[if_neg (by simpa using c)]
 simp only;rw[if_neg (by simpa using b)]
def look_plain{a:Bool}{n:aC}(c:n.op≠[115,101,116])(b:n.op≠[110,97,109,101])(d:n.op≠[99,97,108,108]):cC fs a s n=s:=by
 unfold cC;rw[if_neg (by simp[c,b]),if_neg (by simpa using d)]
def oO{b:Bool}(p:∀f∈fs,f.y_≠[])(t:b=true->fs=[]):∀(d:Nat) (a:aC),dD a->eT d a->mQ fs b d a
 |0,_,_,h=>h.elim
 |d+1,a,K,H=>by
  intro w n
  have two:∀(l r:aC),a.y_=[l,r]->dD l->dD r->∀k∈a.y_,mQ fs b d k:=λl r j D E k c=>by
   have x:=H k c;rw[j] at c;rcases en.1 c with rfl|c
   ·exact oO p t d _ D x
   ·obtain rfl:=et.1 c;exact oO p t d _ E x
  have C:a.op≠[118,97,114]/\a.op≠[98,108,111,99,107]:=by
   cases K with
   |leaf _ h=>rcases h with h|h|h|h<;>rw[h]<;>decide
   |many _ h=>rcases h with h|h<;>rw[h]<;>decide
   |one _ l h=>rcases h with h|h<;>rw[h]<;>decide
   |two _ l r h=>
    rcases h with h|h
    ·rw[h];decide
    ·exact⟨λe=>by rw[e] at h;exact h d_,λe=>by rw[e] at h;exact h d_⟩
  rw[fM C.1 C.2] at n ⊢
  have i:(cC fs b ⟨w,0,0⟩ a).kind=0:=gu λA=>gS (λs k N=>fG fs b d k s N) a.y_ _ A n
  cases K with
  |leaf _ h j=>
   rw[j] at n ⊢
   simp only[ji] at n ⊢
   rcases h with h|h|h|h
   ·exact⟨look_plain (by rw[h];decide) (by rw[h];decide) (by rw[h];decide),d6 ⟨d6 h,j⟩⟩
   ·exact⟨look_plain (by rw[h];decide) (by rw[h];decide) (by rw[h];decide),d6 ⟨d5 (d6 h),j⟩⟩
   ·exact⟨look_plain (by rw[h];decide) (by rw[h];decide) (by rw[h];decide),d6 ⟨d5 (d5 h),j⟩⟩
   ·unfold cC at i ⊢
    rw[if_pos (by simp[h])] at i ⊢
    split at i
    ·rename_i L;rw[if_pos L];exact⟨rfl,d5 (d6 ⟨h,j,by simpa using L⟩)⟩
    ·exact(hP d_ i).elim
  |many _ h j=>
   have F:∀k∈a.y_,mQ fs b d k:=λk c=>oO p t d k (j k c) (H k c)
   rcases h with h|h
   ·rw[look_plain (by rw[h];decide) (by rw[h];decide) (by rw[h];decide)] at n ⊢
    obtain⟨B,u⟩:=jP a.y_ w F n;exact⟨B,d5 (d5 (d6 ⟨h,u⟩))⟩
   ·have e:cC fs b ⟨w,0,0⟩ a=eG fs b ⟨w,0,0⟩ a:=by unfold cC;rw[if_neg (by simp[h]),if_pos (by simp[h])]
    rw[e] at n i ⊢
    unfold eG at n i ⊢
    split at i
    ·exact(hP d_ i).elim
    rename_i y;rw[if_neg y] at n ⊢
    split at i
    ·exact(hP d_ i).elim
    rename_i m;rw[if_neg m] at n ⊢
    obtain⟨B,u⟩:=jP a.y_ w F n;refine⟨B,d5 (d5 (d5 (d5 (d5 (d6 ⟨h,u,?_⟩)))))⟩;simp only[ne_eq,Decidable.not_not] at m;unfold lW at y m;by_cases o:a.x_=[108,101,110]
    ·rw[if_pos (by simp[o])] at m
     exact d6 ⟨o,o_⟩
    rw[if_neg (by simp[o])] at y m
    by_cases g:a.x_=[114,101,97,100]/\b=false
    ·rw[if_pos (by simp[g])] at m
     exact d5 (d6 ⟨g.1,g.2,o_⟩)
    have v:¬((a.x_==[114,101,97,100] && !b)=true):=by
     intro J;simp at J;exact g J
    rw[if_neg v] at y m;cases G:dM fs a.x_ with
    |none=>rw[G] at y;simp at y
    |some f=>
     rw[G] at y m;simp only at y m;have q:f∈fs:=im G;have A:=p f q;have I:0<f.y_.length:=ie.2 A
     have z:b=false:=by
      cases b with
      |false=>rfl
      |true=>rw[t rfl] at q;cases q
     refine d5 (d5 ⟨o,λE=>g ⟨E,z⟩,z,?_⟩)
     unfold fP;rw[tY G];simp;omega
  |one _ l h j D=>
   have F:∀k∈a.y_,mQ fs b d k:=λk c=>by
    have x:=H k c;rw[j] at c;obtain rfl:=et.1 c;exact oO p t d _ D x
   rw[look_plain (by rcases h with h|h<;>rw[h]<;>decide) (by rcases h with h|h<;>rw[h]<;>decide) (by rcases h with h|h<;>rw[h]<;>decide)] at n ⊢
   obtain⟨B,u⟩:=jP a.y_ w F n;exact⟨B,d5 (d5 (d5 (d5 (d6 ⟨h,l,j,u l (by rw[j];simp)⟩))))⟩
  |two _ l r h j D E=>
   have M:cC fs b ⟨w,0,0⟩ a=⟨w,0,0⟩:=by
    rcases h with h|h
    ·exact look_plain (by rw[h];decide) (by rw[h];decide) (by rw[h];decide)
    ·exact look_plain (λe=>by rw[e] at h;exact h d_) (λe=>by rw[e] at h;exact h d_) (λe=>by rw[e] at h;exact h d_)
   rw[M] at n ⊢
   obtain⟨B,u⟩:=jP a.y_ w (two l r j D E) n;refine⟨B,?_⟩;rcases h with h|h
   ·exact d5 (d5 (d5 (d6 ⟨h,l,r,j,u l (by rw[j];simp),u r (by rw[j];simp)⟩)))
   ·exact d5 (d5 (d5 (d5 (d5 (d5 ⟨h,l,r,j,u l (by rw[j];simp),u r (by rw[j];simp)⟩)))))
def sE(fs:List aC)(d:Nat)(a:aC):Prop:=
 ∀sn,sn.length+bU d a<=90000->(aM fs false d a ⟨sn,0,0⟩).kind=0->∃sn',aM fs false d a ⟨sn,0,0⟩=⟨sn',0,0⟩/\sn'.reverse=cO sn.reverse a/\dP fs d sn.reverse a/\sn'.length<=sn.length+bU d a/\sn=sn'.take sn.length
def xZ:∀(l:List aC) (b:List (List UInt8)),(∀k∈l,sE fs d k)->b.length+(l.map (bU d)).sum<=90000->(l.foldl (λs k=>aM fs false d k s) ⟨b,0,0⟩).kind=0->
 ∃c,l.foldl (λs k=>aM fs false d k s) ⟨b,0,0⟩=⟨c,0,0⟩/\StsOk (dP fs d) b.reverse l/\c.length<=b.length+(l.map (bU d)).sum/\b=c.take b.length
 |[],b,_,_,_=>⟨b,rfl,trivial,s_,s_⟩
 |a::l,b,h,t,f=>by
  rw[ig] at f ⊢
  simp only[ew,ey] at t ⊢
  have o:(aM fs false d a ⟨b,0,0⟩).kind=0:=gu λg=>gS (λs k v=>fG fs false d k s v) l _ g f
  obtain⟨i,q,n,u,z,m⟩:=h a (fu ..) b o_ o
  rw[q] at f ⊢
  obtain⟨j,w,r,A,x⟩:=xZ l i (λk p=>h k (fe _ p)) o_ f
  refine⟨j,w,⟨u,by rw[<-n];exact r⟩,o_,?_⟩
  have y:b.length<=i.length:=by have:=congrArg List.length m;simp only[gs] at this;omega
  have e:i.take b.length=j.take b.length:=by
   conv=>lhs;rw[x]
   rw[ir];congr 1;omega
  rw[<-e];exact m
def EX{b:aC}{a c:List (List UInt8)}(e:b.op=[98,108,111,99,107])(h:b.y_.foldl (λs k=>aM fs false d k s) ⟨a,0,0⟩=⟨c,0,0⟩)(f:a=c.take a.length):aM fs false (d+1) b ⟨a,0,0⟩=⟨a,0,0⟩:=by
 rw[aM,if_neg (by simp[e])]
 have:cC fs false ⟨a,0,0⟩ b=⟨a,0,0⟩:=look_plain (by rw[e];decide) (by rw[e];decide) (by rw[e];decide)
 simp only[this,h];rw[if_pos (by simp[e])]
 congr 1
 exact f.symm
def tI{b:aC}{c:List (List UInt8)}(a:b.op=[98,108,111,99,107])(h:(aM fs false (d+1) b ⟨c,0,0⟩).kind=0):(b.y_.foldl (λs k=>aM fs false d k s) ⟨c,0,0⟩).kind=0:=by
 rw[aM,if_neg (by simp[a])] at h
 have:cC fs false ⟨c,0,0⟩ b=⟨c,0,0⟩:=look_plain (by rw[a];decide) (by rw[a];decide) (by rw[a];decide)
 simp only[this] at h;rw[if_pos (by simp[a])] at h
 exact h
def jZ{b:aC}{a:List (List UInt8)}(c:b.op=[98,108,111,99,107])(j:∀k∈b.y_,sE fs d k)(e:a.length+bU (d+1) b<=90000)(h:(aM fs false (d+1) b ⟨a,0,0⟩).kind=0):
 aM fs false (d+1) b ⟨a,0,0⟩=⟨a,0,0⟩/\StsOk (dP fs d) a.reverse b.y_:=by
 rw[bU] at e;obtain⟨l,i,f,m,g⟩:=xZ b.y_ a j o_ (tI c h)
 exact⟨EX c i g,f⟩
def NU{x y:aC}(b:a.y_=[x,y])(f:a.op≠[118,97,114])(e:a.op≠[98,108,111,99,107])(c:cC fs false s a=s):aM fs false (d+1) a s=aM fs false d y (aM fs false d x s):=by
 rw[fM f e,c,b];rfl
def H9{x y z:aC}(b:a.y_=[x,y,z])(f:a.op≠[118,97,114])(e:a.op≠[98,108,111,99,107])(c:cC fs false s a=s):aM fs false (d+1) a s=aM fs false d z (aM fs false d y (aM fs false d x s)):=by
 rw[fM f e,c,b];rfl
def II{k:aC}(h:k∈a.y_):bU d k+1<=bU (d+1) a:=by
 rw[bU]
 have:∀l:List aC,k∈l->bU d k<=(l.map (bU d)).sum:=by
  intro l;induction l with
  |nil=>intro h;cases h
  |cons x l b=>
   intro h;simp only[ew,ey];rcases en.1 h with rfl|h
   ·omega
   ·have:=b h;omega
 have:=this _ h;omega
def IN(J:∀f∈fs,f.y_≠[]):∀(d:Nat) (a:aC),gI a->eT d a->sE fs d a
 |0,_,_,h=>h.elim
 |1,a,U,L=>by
  have o:∀k∈a.y_,False:=λk b=>L k b
  intro g W j;cases U with
  |var _ t v h b A=>exact(o t (by rw[b];simp)).elim
  |set _ h T b=>cases G:a.y_ with|nil=>exact(T G).elim|cons x l=>exact(o x (by rw[G];simp)).elim
  |if2 _ c t h b=>exact(o c (by rw[b];simp)).elim
  |if3 _ c t x h b=>exact(o c (by rw[b];simp)).elim
  |whl _ c t h b=>exact(o c (by rw[b];simp)).elim
  |ret1 _ v h b=>exact(o v (by rw[b];simp)).elim
  |print _ v h b=>exact(o v (by rw[b];simp)).elim
  |call _ c h b=>exact(o c (by rw[b];simp)).elim
  |ret0 _ h b=>
   have n:cC fs false ⟨g,0,0⟩ a=⟨g,0,0⟩:=look_plain (by rw[h];decide) (by rw[h];decide) (by rw[h];decide)
   refine⟨g,by rw[fM (by rw[h];decide) (by rw[h];decide),n,b];rfl,by unfold cO;rw[if_neg (by rw[h];decide)],?_,o_,s_⟩
   exact d5 (d5 (d5 (d5 (d6 ⟨h,d6 b⟩))))
 |d+2,a,U,L=>by
  intro g W j;have p:∀k,k∈a.y_->dD k->mQ fs false (d+1) k:=λk b Z=>oO J (λh=>by cases h) (d+1) k Z (L k b)
  have z:∀k,k∈a.y_->(∀x∈k.y_,gI x)->∀x∈k.y_,sE fs d x:=λk b S x M=>IN J d x (S x M) (L k b x M)
  have y:∀k,k∈a.y_->g.length+bU (d+1) k<=90000:=λk b=>by have:bU (d+1) k+1<=bU (d+2) a:=II (d:=d+1) b;omega
  have i:a.op≠[118,97,114]->g.reverse=cO g.reverse a:=λh=>by unfold cO;rw[if_neg h]
  cases U with
  |var _ t v h b A=>
   have e:aM fs false (d+2) a ⟨g,0,0⟩={ aM fs false (d+1) v (declaresL ⟨g,0,0⟩ t) with e_:=(aM fs false (d+1) v (declaresL ⟨g,0,0⟩ t)).e_++[t.x_] }:=by
    rw[aM,if_pos (by simp[h]),b]
   rw[e] at j ⊢
   have D:(declaresL ⟨g,0,0⟩ t).kind=0:=gu λm=>fG fs false (d+1) v _ m j
   obtain⟨N,O⟩:declaresL ⟨g,0,0⟩ t=⟨g,0,0⟩/\t.x_∉g:=by
    unfold declaresL at D ⊢
    split at D
    ·exact(hP d_ D).elim
    ·rename_i P;rw[if_neg P];simp at P;exact⟨rfl,P.2⟩
   rw[N] at j ⊢
   obtain⟨r,q⟩:=p v (by rw[b];simp) A g j
   rw[r];have X:bU (d+1) v+1<=bU (d+2) a:=II (d:=d+1) (a:=a) (k:=v) (by rw[b];simp)
   refine⟨g++[t.x_],rfl,?_,d6 ⟨h,t_,t,v,b,q,by simpa using O⟩,t_,s_⟩
   unfold cO;rw[if_pos h,b];simp
  |set _ h T b=>
   rw[fM (by rw[h];decide) (by rw[h];decide)] at j ⊢
   have w:(cC fs false ⟨g,0,0⟩ a).kind=0:=gu λm=>gS (λs k S=>fG fs false (d+1) k s S) a.y_ _ m j
   have n:cC fs false ⟨g,0,0⟩ a=⟨g,0,0⟩/\a.x_∈g:=by
    unfold cC at w ⊢
    rw[if_pos (by simp[h])] at w ⊢
    split at w
    ·rename_i B;rw[if_pos B];exact⟨rfl,by simpa using B⟩
    ·exact(hP d_ w).elim
   rw[n.1] at j ⊢
   obtain⟨r,q⟩:=jP a.y_ g (λk H=>p k H (b k H)) j
   exact⟨g,r,i (by rw[h];decide),d5 (d6 ⟨h,by simpa using n.2,T,q⟩),o_,s_⟩
  |if2 _ c t h b B F u=>
   have n:cC fs false ⟨g,0,0⟩ a=⟨g,0,0⟩:=look_plain (by rw[h];decide) (by rw[h];decide) (by rw[h];decide)
   rw[NU b (by rw[h];decide) (by rw[h];decide) n] at j ⊢
   have E:(aM fs false (d+1) c ⟨g,0,0⟩).kind=0:=gu λm=>fG fs false (d+1) t _ m j
   obtain⟨r,q⟩:=p c (by rw[b];simp) B g E
   rw[r] at j ⊢
   obtain⟨K,I⟩:=jZ F (z t (by rw[b];simp) u) (y t (by rw[b];simp)) j
   exact⟨g,K,i (by rw[h];decide),d5 (d5 (d6 ⟨h,c,t,d6 b,q,I.up λs a h=>h.up o_⟩)),o_,s_⟩
  |if3 _ c t x h b B F u M Q=>
   have n:cC fs false ⟨g,0,0⟩ a=⟨g,0,0⟩:=look_plain (by rw[h];decide) (by rw[h];decide) (by rw[h];decide)
   rw[H9 b (by rw[h];decide) (by rw[h];decide) n] at j ⊢
   have C:(aM fs false (d+1) t (aM fs false (d+1) c ⟨g,0,0⟩)).kind=0:=gu λm=>fG fs false (d+1) x _ m j
   have E:(aM fs false (d+1) c ⟨g,0,0⟩).kind=0:=gu λm=>fG fs false (d+1) t _ m C
   obtain⟨r,q⟩:=p c (by rw[b];simp) B g E
   rw[r] at j C ⊢
   obtain⟨K,I⟩:=jZ F (z t (by rw[b];simp) u) (y t (by rw[b];simp)) C
   rw[K] at j ⊢
   obtain⟨V,Y⟩:=jZ M (z x (by rw[b];simp) Q) (y x (by rw[b];simp)) j
   exact⟨g,V,i (by rw[h];decide),d5 (d5 (d6 ⟨h,c,t,d5 ⟨x,b,Y.up λs a h=>h.up o_⟩,q,I.up λs a h=>h.up o_⟩)),o_,s_⟩
  |whl _ c t h b B F u=>
   have n:cC fs false ⟨g,0,0⟩ a=⟨g,0,0⟩:=look_plain (by rw[h];decide) (by rw[h];decide) (by rw[h];decide)
   rw[NU b (by rw[h];decide) (by rw[h];decide) n] at j ⊢
   have E:(aM fs false (d+1) c ⟨g,0,0⟩).kind=0:=gu λm=>fG fs false (d+1) t _ m j
   obtain⟨r,q⟩:=p c (by rw[b];simp) B g E
   rw[r] at j ⊢
   obtain⟨K,I⟩:=jZ F (z t (by rw[b];simp) u) (y t (by rw[b];simp)) j
   exact⟨g,K,i (by rw[h];decide),d5 (d5 (d5 (d6 ⟨h,c,t,b,q,I.up λs a h=>h.up o_⟩))),o_,s_⟩
  |ret0 _ h b=>
   have n:cC fs false ⟨g,0,0⟩ a=⟨g,0,0⟩:=look_plain (by rw[h];decide) (by rw[h];decide) (by rw[h];decide)
   refine⟨g,by rw[fM (by rw[h];decide) (by rw[h];decide),n,b];rfl,i (by rw[h];decide),?_,o_,s_⟩
   exact d5 (d5 (d5 (d5 (d6 ⟨h,d6 b⟩))))
  |ret1 _ v h b A=>
   have n:cC fs false ⟨g,0,0⟩ a=⟨g,0,0⟩:=look_plain (by rw[h];decide) (by rw[h];decide) (by rw[h];decide)
   rw[fM (by rw[h];decide) (by rw[h];decide),n,b] at j ⊢
   simp only[ig,ji] at j ⊢
   obtain⟨r,q⟩:=p v (by rw[b];simp) A g j
   exact⟨g,r,i (by rw[h];decide),d5 (d5 (d5 (d5 (d6 ⟨h,d5 ⟨v,b,q⟩⟩)))),o_,s_⟩
  |print _ v h b A=>
   have n:cC fs false ⟨g,0,0⟩ a=⟨g,0,0⟩:=look_plain (by rw[h];decide) (by rw[h];decide) (by rw[h];decide)
   rw[fM (by rw[h];decide) (by rw[h];decide),n,b] at j ⊢
   simp only[ig,ji] at j ⊢
   obtain⟨r,q⟩:=p v (by rw[b];simp) A g j
   exact⟨g,r,i (by rw[h];decide),d5 (d5 (d5 (d5 (d5 (d6 ⟨h,v,b,q⟩))))),o_,s_⟩
  |call _ v h b A=>
   have n:cC fs false ⟨g,0,0⟩ a=⟨g,0,0⟩:=look_plain (by rw[h];decide) (by rw[h];decide) (by rw[h];decide)
   rw[fM (by rw[h];decide) (by rw[h];decide),n,b] at j ⊢
   simp only[ig,ji] at j ⊢
   obtain⟨r,q⟩:=p v (by rw[b];simp) A g j
   exact⟨g,r,i (by rw[h];decide),d5 (d5 (d5 (d5 (d5 (d5 ⟨h,v,b,q⟩))))),o_,s_⟩
def fW:aC->Nat
 |⟨_,_,_,y_⟩=>1+(y_.attach.map λ⟨k,_⟩=>fW k).sum
def kP(a:aC):fW a=1+(a.y_.map fW).sum:=by
 obtain⟨e,d,c,b⟩:=a;rw[fW];congr 2
 simp
def yI:∀(d:Nat) (a:aC),eT d a->fW a<=bU d a
 |0,_,h=>h.elim
 |d+1,a,h=>by
  rw[kP,bU]
  have:∀l:List aC,(∀k∈l,fW k<=bU d k)->(l.map fW).sum<=(l.map (bU d)).sum:=by
   intro l;induction l with
   |nil=>intro _;simp
   |cons x l c=>
    intro h;simp only[ew,ey];have f:=h x (fu ..);have e:=c λk b=>h k (fe _ b)
    omega
  have:=this a.y_ λk b=>yI d k (h k b)
  omega
def qM{c:aC->Nat->List aH}(h:∀a p,(c a p).length<=m*fW a):∀(l:List aC) (p:Nat),(bP c l p).length<=m*(l.map fW).sum
 |[],_=>by simp[bP]
 |a::l,p=>by
  simp only[bP,ei,ew,ey,Nat.mul_add];have d:=h a p;have b:=qM h l (p+(c a p).length);omega
def mI(fs:List aC)(e_:List (List UInt8)):∀(d:Nat) (a:aC) (p:Nat),(aG fs e_ d a p).length<=2*fW a
 |0,_,_=>by simp[aG]
 |d+1,a,p=>by
  have z:=qM (m:=2) (λa p=>mI fs e_ d a p) a.y_ p
  have v:=kP a;have n:=λl q=>mI fs e_ d l q
  rw[aG];simp only;generalize bP (aG fs e_ d) a.y_ p=y at z ⊢
  generalize (if (a.x_==[108,101,110])=true then aH.length else if (a.x_==[114,101,97,100])=true then aH.read else aH.call (dA fs a.x_) a.y_.length)=g
  generalize aG fs e_ d=E at*;have c:∀i:aH,(y++[i]).length<=2*fW a:=λi=>by simp only[ei,ek,ep];omega
  have b:∀i:aH,([i]:List aH).length<=2*fW a:=λi=>by simp only[ek,ep];omega
  by_cases o:(a.op==[48])=true
  ·rw[if_pos o];exact b _
  rw[if_neg o];by_cases s:(a.op==[115])=true
  ·rw[if_pos s];exact b _
  rw[if_neg s];by_cases t:(a.op==[98,111,111,108])=true
  ·rw[if_pos t];exact b _
  rw[if_neg t];by_cases x:(a.op==[110,97,109,101])=true
  ·rw[if_pos x];exact b _
  rw[if_neg x];by_cases u:(a.op==[108,105,115,116])=true
  ·rw[if_pos u];exact c _
  rw[if_neg u];by_cases w:(a.op==[105,110,100,101,120])=true
  ·rw[if_pos w];exact c _
  rw[if_neg w];by_cases k:(a.op==[45,120])=true
  ·rw[if_pos k];exact c _
  rw[if_neg k];by_cases h:(a.op==[33,120])=true
  ·rw[if_pos h];exact c _
  rw[if_neg h];by_cases j:(a.op==[99,97,108,108])=true
  ·rw[if_pos j];exact c _
  rw[if_neg j];by_cases e:(a.op==[38,38] || a.op==[124,124])=true
  ·rw[if_pos e];split
   ·rename_i l r f;have A:=n l p;have B:=n r (p+(E l p).length+1);rw[f] at v;simp only[ew,fw,ey,fy] at v;simp only[ei,ek,ep];omega
   ·simp
  ·rw[if_neg e];exact c _
def qG{c:List (List UInt8)->aC->Nat->List aH × List (List UInt8)}(h:∀s a p,(c s a p).1.length<=m*fW a):∀(l:List aC) (s:List (List UInt8)) (p:Nat),(bG c s l p).length<=m*(l.map fW).sum
 |[],_,_=>by simp[bG]
 |a::l,s,p=>by
  simp only[bG,ei,ew,ey,Nat.mul_add];have d:=h s a p;have b:=qG h l (c s a p).2 (p+(c s a p).1.length);omega
def CG(fs:List aC):∀(d:Nat) (e_:List (List UInt8)) (a:aC) (p:Nat),(bB fs d e_ a p).1.length<=3*fW a
 |0,_,_,_=>by simp[bB]
 |d+1,e_,a,p=>by
  have f:=kP a;have j:=λ(b:aC) q=>qG (m:=3) (λs a p=>CG fs d s a p) b.y_ e_ q
  have h:=λ(x:aC) q=>mI fs e_ d x q
  have i:=λ(b:aC)=>kP b
  rw[bB];simp only;repeat' split
  all_goals try simp only[ei,ek,ep]
  all_goals try omega
  ·rename_i t v e;have g:=h v (p+1);rw[e] at f;simp only[ew,fw,ey,fy] at f;omega
  ·have g:=qM (m:=2) (λa p=>mI fs e_ d a p) a.y_ (p+1)
   omega
  ·rename_i c t _ x e;have g:=h c (p+1);have k:=j t (p+1+(aG fs e_ d c (p+1)).length+1);have l:=i t;have n:=i x;have o:=j x (p+1+(aG fs e_ d c (p+1)).length+1+(bG (bB fs d) e_ t.y_ (p+1+(aG fs e_ d c (p+1)).length+1)).length+1);rw[e] at f;simp only[ew,fw,ey,fy] at f;omega
  ·rename_i c t _ e _ _;have g:=h c (p+1);have k:=j t (p+1+(aG fs e_ d c (p+1)).length+1);have l:=i t;rw[e] at f;simp only[ew,ey] at f;omega
  ·rename_i c t e;have g:=h c (p+1);have k:=j t (p+1+(aG fs e_ d c (p+1)).length+1);have l:=i t;rw[e] at f;simp only[ew,fw,ey,fy] at f;omega
  all_goals
   rename_i v e;have g:=h v (p+1);rw[e] at f;simp only[ew,fw,ey,fy] at f;omega
def nN(fs:List aC)(d:Nat)(s:bA)(k:aC)(h:s.kind≠0):(eL fs d s k).kind≠0:=by
 unfold eL;split
 ·exact pU s k h
 ·exact fG fs false d k s h
def RJ(fs:List aC)(d:Nat)(s:bA)(n:aC)(first:Bool)(h:s.kind≠0):(fX fs d s n first).kind≠0:=by
 unfold fX;refine gS (λs k a=>nN fs d s k a) _ _ ?_
 show (if _ then _ else _:bA).kind≠0
 split
 ·exact pE _ _ _ h
 ·exact h
def ES(fs:List aC)(d:Nat):∀(a b:List aC) (s:bA),s.kind≠0->(eX fs d b a s).kind≠0
 |[],_,_,h=>h
 |n::a,b,s,h=>ES fs d a (b++[n]) _ (RJ fs d s n _ h)
def qV:∀(ps:List aC) (b:List (List UInt8)),(∀x∈ps,x.op=[112,97,114,97,109])->(ps.foldl (eL fs d) ⟨b,0,0⟩).kind=0->ps.foldl (eL fs d) ⟨b,0,0⟩=⟨b++ps.map (·.x_),0,0⟩/\(b.Nodup->(b++ps.map (·.x_)).Nodup)
 |[],b,_,_=>by simp
 |a::l,b,h,f=>by
  rw[ig] at f ⊢
  have q:eL fs d ⟨b,0,0⟩ a={ declaresL ⟨b,0,0⟩ a with e_:=(declaresL ⟨b,0,0⟩ a).e_++[a.x_] }:=by unfold eL;rw[if_pos (by simp[h a (fu ..)])]
  have o:(eL fs d ⟨b,0,0⟩ a).kind=0:=gu λg=>gS (λs k u=>nN fs d s k u) l _ g f
  have c:(declaresL ⟨b,0,0⟩ a).kind=0:=by rw[q] at o;exact o
  obtain⟨i,j⟩:declaresL ⟨b,0,0⟩ a=⟨b,0,0⟩/\a.x_∉b:=by
   unfold declaresL at c ⊢
   split at c
   ·exact(hP d_ c).elim
   ·rename_i m;rw[if_neg m];simp at m;exact⟨rfl,m.2⟩
  rw[q,i] at f ⊢
  obtain⟨r,p⟩:=qV l (b++[a.x_]) (λx n=>h x (fe _ n)) f
  rw[r];have e:b++[a.x_]++l.map (·.x_)=b++(a::l).map (·.x_):=s_
  rw[e] at p ⊢
  refine⟨rfl,λv=>p ?_⟩
  rw[gi];exact⟨v,s_,λx n y t=>by rw[et.1 t];exact λe=>j (e▸n)⟩
def QR(A:∀f∈fs,rQ f){f:aC}(B:rQ f)(F:eT (d+3) f)(H:∀e,bU e f<=2001){first:Bool}(n:(fX fs (d+2) ⟨o,0,0⟩ f first).kind=0):kB fs (d+2) f/\∃I,fX fs (d+2) ⟨o,0,0⟩ f first=⟨I,0,0⟩:=by
 obtain⟨g,b,j,D,y,_⟩:=B.y_;have c:∀f∈fs,f.y_≠[]:=λf B=>by obtain⟨g,b,j,_⟩:=(A f B).y_;rw[j];simp
 unfold fX at n ⊢
 have G:({ (if fR f.x_ || !first then bA.found ⟨o,0,0⟩ f.l_ 6 else ⟨o,0,0⟩) with e_:=[] }:bA).kind=0:=gu λc=>gS (λs k N=>nN fs (d+2) s k N) f.y_ _ c n
 have z:({ (if fR f.x_ || !first then bA.found ⟨o,0,0⟩ f.l_ 6 else ⟨o,0,0⟩) with e_:=[] }:bA)=⟨[],0,0⟩:=by
  split at G
  ·exact(hP d_ G).elim
  ·rename_i M;rw[if_neg M]
 rw[z,j,List.foldl_append,ig,ji] at n ⊢
 have C:(g.foldl (eL fs (d+2)) ⟨[],0,0⟩).kind=0:=gu λc=>nN fs (d+2) _ b c n
 obtain⟨q,i⟩:=qV g [] D C;have i:=i List.nodup_nil;rw[gv] at q i;rw[q] at n ⊢
 have v:eL fs (d+2) ⟨g.map (·.x_),0,0⟩ b=aM fs false (d+2) b ⟨g.map (·.x_),0,0⟩:=by unfold eL;rw[if_neg (by simp[y.op])]
 rw[v] at n ⊢
 have E:eT (d+2) b:=F b (by rw[j];simp)
 have r:=H (d+3);rw[bU,j] at r
 have w:∀l:List aC,l.length<=(l.map (bU (d+2))).sum:=by
  intro l;induction l with
  |nil=>simp
  |cons x l O=>simp only[ew,ey,ek,bU];simp only[bU] at O;omega
 have:=w g;simp only[ga,ic,ew,fw,ey,fy] at r;obtain⟨L,J⟩:=jZ y.op (λk u=>IN c (d+1) k (y.y_ k u) (E k u)) (by show (g.map (·.x_)).length+bU (d+2) b<=_;simp only[List.length_map];omega) n
 refine⟨⟨⟨g,b,j,J.up λs a h=>h.up o_,i⟩,?_⟩,_,L⟩
 have T:=yI _ _ F;have K:=H (d+3);have S:(bG (bB fs (d+2)) (g.map (·.x_)).reverse b.y_ 0).length<=3*(b.y_.map fW).sum:=qG (m:=3) (λs a p=>CG fs (d+2) s a p) b.y_ (g.map (·.x_)).reverse 0
 have t:=kP f;rw[j] at t;have P:=kP b;simp only[ga,ic,ew,fw,ey,fy] at t;have Q:(fK fs (d+2) f).code.length=(bG (bB fs (d+2)) (g.map (·.x_)).reverse b.y_ 0).length+2:=by simp[fK,j]
 omega
def yU(c:∀f∈fs,rQ f):∀(a b:List aC) (k:List (List UInt8)),(∀f∈a,f∈fs/\eT (d+3) f/\∀e,bU e f<=2001)->(eX fs (d+2) b a ⟨k,0,0⟩).kind=0->∀f∈a,kB fs (d+2) f
 |[],_,_,_,_,f,g=>by cases g
 |n::a,b,k,h,i,f,g=>by
  rw[eX] at i;have o:(fX fs (d+2) ⟨k,0,0⟩ n (dM b n.x_).isNone).kind=0:=gu λj=>ES fs (d+2) a _ _ j i
  obtain⟨q,m,s⟩:=h n (fu ..);obtain⟨r,l,p⟩:=QR c (c n q) m s o;rw[p] at i;rcases en.1 g with rfl|g
  ·exact r
  ·exact yU c a (b++[n]) l (λf g=>h f (fe _ g)) i f g
def IG{e:Nat}{f:aC}:∀{l:List aC},f∈l->bU e f<=(l.map (bU e)).sum
 |x::l,h=>by
  simp only[ew,ey];rcases en.1 h with rfl|h
  ·omega
  ·have:=IG (e:=e) h;omega
def FineL.mem{l:List aC}{f:aC}(h:FineL m l)(a:f∈l):FineA m f:=λe=>⟨em (IG a) (h e).1,(h e).2 f a⟩
def LH(h:cX l=.ok ks)(a:dL l=(0,0)):(∀f∈ks,kB ks 2001 f)/\fP ks (dA ks [109,97,105,110])=some 0:=by
 unfold dL at a;rw[h] at a;simp only at a;unfold kQ at a;have j:=vA h;have p:=kY h;have c:∀f∈ks,FineA 2001 f:=λf g=>p.mem g
 split at a
 ·cases a
 rename_i m i;split at a
 ·cases a
 rename_i o;have q:(eX ks 2001 [] ks ⟨[],0,0⟩).kind=0:=by simp only[Prod.mk.injEq] at a;exact a.1
 refine⟨λf g=>yU (d:=1999) j ks [] [] (λf g=>⟨g,?_,λe=>((c f g) e).1⟩) q f g,?_⟩
 ·have:=nZ 2002 f ((c f g).le o_)
  exact this
 ·unfold fP;rw[tY i];obtain⟨n,b,k,_⟩:=(j m (im i)).y_;have:m.y_.length=n.length+1:=by rw[k];simp
  simp;omega
def FineL.len{l:List aC}(h:FineL m l):l.length<=m:=by
 have a:=(h 1).1
 have:∀l:List aC,l.length<=(l.map (bU 1)).sum:=by
  intro l;induction l with
  |nil=>simp
  |cons x l b=>simp only[ew,ey,ek];have:1<=bU 1 x:=by simp[bU]
               omega
 exact em (this l) a
def FineA.y_(h:FineA m a):FineL m a.y_:=λe=>by
 have b:=(h (e+1)).1;simp only[bU] at b;exact⟨o_,(h (e+1)).2.2⟩
def yK(h:a.op≠[115])(b:a.y_=[]):∀d,pX d a
 |0=>trivial
 |d+1=>⟨λe=>absurd e h,by simp[b],λk h=>by simp[b] at h⟩
def jM(g:m<=1000000):∀(d:Nat) (a:aC),FineA m a->dD a->pX d a
 |0,_,_,_=>trivial
 |d+1,a,i,j=>by
  refine⟨λe=>?_,em i.y_.len g,λk c=>jM g d k (i.y_.mem c) ?_⟩
  ·cases j with
   |leaf _ h c o=>exact o e
   |many _ h c=>rw[e] at h;exact absurd h d_
   |one _ l h c f=>rw[e] at h;exact absurd h d_
   |two _ l r h c f n=>rw[e] at h;exact absurd h d_
  ·cases j with
   |leaf _ h b o=>rw[b] at c;cases c
   |many _ h b=>exact b k c
   |one _ l h b f=>rw[b,et] at c;rw[c];exact f
   |two _ l r h b f n=>
    rw[b] at c;rcases en.1 c with rfl|c
    ·exact f
    ·rw[et.1 c];exact n
def JB(j:m<=1000000):∀(d:Nat),(∀a,FineA m a->gI a->pX d a)/\∀t,FineA m t->t.op=[98,108,111,99,107]->(∀k∈t.y_,gI k)->pX d t
 |0=>⟨λ_ _ _=>trivial,λ_ _ _ _=>trivial⟩
 |d+1=>by
  obtain⟨w,q⟩:=JB j d;refine⟨λa o u=>⟨λe=>?_,em o.y_.len j,λk f=>?_⟩,λt o s f=>⟨λe=>?_,em o.y_.len j,λk b=>w k (o.y_.mem b) (f k b)⟩⟩
  ·cases u<;>rename_i h _<;>simp_all
  ·have g:=o.y_.mem f;cases u with
   |var _ t v h b p l=>
    rw[b] at f;rcases en.1 f with rfl|f
    ·exact yK (by rw[l.1];decide) l.2 d
    ·obtain rfl:=et.1 f;exact jM j d _ g p
   |set _ h z b=>exact jM j d k g (b k f)
   |if2 _ c t h b n l i=>
    rw[b] at f;rcases en.1 f with rfl|f
    ·exact jM j d _ g n
    ·obtain rfl:=et.1 f;exact q _ g l i
   |if3 _ c t x h b n l i y r=>
    rw[b] at f;rcases en.1 f with rfl|f
    ·exact jM j d _ g n
    rcases en.1 f with rfl|f
    ·exact q _ g l i
    ·obtain rfl:=et.1 f;exact q _ g y r
   |whl _ c t h b n l i=>
    rw[b] at f;rcases en.1 f with rfl|f
    ·exact jM j d _ g n
    ·obtain rfl:=et.1 f;exact q _ g l i
   |ret0 _ h b=>rw[b] at f;cases f
   |ret1 _ v h b p=>rw[b,et] at f;subst f;exact jM j d _ g p
   |print _ v h b p=>rw[b,et] at f;subst f;exact jM j d _ g p
   |call _ c h b n s=>rw[b,et] at f;subst f;exact jM j d _ g n
  ·rw[s] at e;cases e
def GC(g:cX l=.ok ks):∀f∈ks,∀k∈f.y_,mL k:=λf h k a d=>by
 have c:FineA 2001 k:=((kY g).mem h).y_.mem a;obtain⟨n,b,e,j,i,m⟩:=(vA g f h).y_;rw[e] at a;rcases eo.1 a with a|a
 ·exact yK (by rw[j k a];decide) (m k a) d
 ·obtain rfl:=et.1 a;exact(JB o_ d).2 _ c i.op i.y_
def nU(i:aH):Prop:=(∀v,i=.push v->bN v)/\∀op,i=.unary op->op=[45]\/op=[33]
def qN{c:aC->Nat->List aH}:∀(l:List aC) (p:Nat),(∀a∈l,∀q,∀i∈c a q,P i)->∀i∈bP c l p,P i
 |[],_,_,i,d=>by cases d
 |a::l,p,h,i,d=>by
  rcases eo.1 d with d|d
  ·exact h a (fu ..) p i d
  ·exact qN l _ (λb e=>h b (fe _ e)) i d
def gZ{c:Prop}[Decidable c]{l m:List aH}(b:c->∀i∈l,P i)(a:∀i∈m,P i):∀i∈(if c then l else m),P i:=by
 split
 ·exact b ‹_›
 ·exact a
def gR{l:List aH}{x:aH}(b:∀i∈l,P i)(a:P x):∀i∈l++[x],P i:=λi h=>by
 rcases eo.1 h with h|h
 ·exact b i h
 ·rw[et.1 h];exact a
def oY{x:aH}(h:P x):∀i∈[x],P i:=gR (l:=[]) (λ_ h=>by cases h) h
def nB(fs:List aC)(e_:List (List UInt8)):∀(d:Nat) (a:aC) (p:Nat),mL a->∀i∈aG fs e_ d a p,nU i
 |0,_,_,_=>λi b=>by cases b
 |d+1,a,p,j=>by
  have c:∀i∈bP (aG fs e_ d) a.y_ p,nU i:=qN _ _ λk c q=>nB fs e_ d k q (j.kid c)
  have g:∀x:aH,(∀v,x≠.push v)->(∀f,x≠.unary f)->nU x:=λx n m=>⟨λv e=>absurd e (n v),λf e=>absurd e (m f)⟩
  have o:a.op=[115]->cP a.x_:=λh=>((j 1).1 h).2
  rw[aG];simp only;refine gZ (λ_=>oY ⟨λv e=>by cases e;exact bN.num _,λf e=>by cases e⟩) ?_
  refine gZ (λh=>oY ⟨λv e=>by cases e;exact bN.str (o (by simpa using h)),λf e=>by cases e⟩) ?_
  refine gZ (λ_=>oY ⟨λv e=>by cases e;exact bN.tru _,λf e=>by cases e⟩) ?_
  refine gZ (λ_=>oY (g _ s_ s_)) ?_
  refine gZ (λ_=>gR c (g _ s_ s_)) ?_
  refine gZ (λ_=>gR c (g _ s_ s_)) ?_
  refine gZ (λ_=>gR c ⟨λv e=>by (cases e),λf e=>by cases e;exact d6 rfl⟩) ?_
  refine gZ (λ_=>gR c ⟨λv e=>by (cases e),λf e=>by cases e;exact d5 rfl⟩) ?_
  refine gZ (λ_=>gR c ?_) ?_
  ·repeat' split
   all_goals exact g _ s_ s_
  refine gZ (λ_=>?_) (gR c (g _ s_ s_))
  split
  ·rename_i l r e;refine gR (λi b=>?_) (g _ s_ s_)
   rcases eo.1 b with b|b
   ·exact gR (nB fs e_ d l _ (j.kid (by rw[e];simp))) (g _ s_ s_) i b
   ·exact nB fs e_ d r _ (j.kid (by rw[e];simp)) i b
  ·intro i b;cases b
def qI{c:List (List UInt8)->aC->Nat->List aH × List (List UInt8)}:∀(l:List aC) (e_:List (List UInt8)) (p:Nat),(∀a∈l,∀s q,∀i∈(c s a q).1,P i)->∀i∈bG c e_ l p,P i
 |[],_,_,_,i,d=>by cases d
 |a::l,e_,p,h,i,d=>by
  rcases eo.1 d with d|d
  ·exact h a (fu ..) e_ p i d
  ·exact qI l _ _ (λb e=>h b (fe _ e)) i d
def OI(fs:List aC):∀(d:Nat) (e_:List (List UInt8)) (a:aC) (p:Nat),mL a->∀i∈(bB fs d e_ a p).1,nU i
 |0,_,_,_,_,i,f=>by cases f
 |d+1,e_,a,p,o,i,f=>by
  have j:∀{k:aC} {q:Nat},k∈a.y_->i∈aG fs e_ d k q->nU i:=λl h=>nB fs e_ d _ _ (o.kid l) i h
  have n:∀{k:aC} {q:Nat},k∈a.y_->i∈bG (bB fs d) e_ k.y_ q->nU i:=λl h=>qI _ _ _ (λx j s q=>OI fs d s x q ((o.kid l).kid j)) i h
  have g:∀{x:aH},(∀v,x≠.push v)->(∀m,x≠.unary m)->i=x->nU i:=λw u e=>⟨λv z=>absurd (e▸z) (w v),λm y=>absurd (e▸y) (u m)⟩
  rw[bB] at f;dsimp only at f;split at f
  ·split at f
   ·rename_i t v e;simp only[eo,en,ff,or_false,fh] at f;rcases f with h|h|h
    ·exact g s_ s_ h
    ·exact j (by rw[e];simp) h
    ·exact g s_ s_ h
   ·cases f
  split at f
  ·simp only[eo,en,ff,or_false,fh] at f;rcases f with h|h|h
   ·exact g s_ s_ h
   ·exact qN _ _ (λk l q=>nB fs e_ d k q (o.kid l)) i h
   ·exact g s_ s_ h
  split at f
  ·split at f
   ·rename_i c t e r;simp only[eo,en,ff,or_false,fh] at f;rcases f with h|(((h|h)|h)|h)|h
    ·exact g s_ s_ h
    ·exact j (by rw[r];simp) h
    ·exact g s_ s_ h
    ·exact n (by rw[r];simp) h
    ·exact g s_ s_ h
    ·split at h
     ·exact n (by rw[r];simp) h
     ·cases h
   ·cases f
  split at f
  ·split at f
   ·rename_i c b e;simp only[eo,en,ff,or_false,fh] at f;rcases f with h|((h|h)|h)|h
    ·exact g s_ s_ h
    ·exact j (by rw[e];simp) h
    ·exact g s_ s_ h
    ·exact n (by rw[e];simp) h
    ·exact g s_ s_ h
   ·cases f
  split at f
  ·split at f
   ·rename_i v e;simp only[eo,en,ff,or_false,fh] at f;rcases f with h|h|h
    ·exact g s_ s_ h
    ·exact j (by rw[e];simp) h
    ·exact g s_ s_ h
   ·simp only[en,ff,or_false] at f;rcases f with h|h|h
    ·exact g s_ s_ h
    ·rw[h];exact⟨λv e=>by cases e;exact bN.num _,λm e=>by cases e⟩
    ·exact g s_ s_ h
  split at f
  ·split at f
   ·rename_i v e;simp only[eo,en,ff,or_false,fh] at f;rcases f with h|h|h
    ·exact g s_ s_ h
    ·exact j (by rw[e];simp) h
    ·exact g s_ s_ h
   ·cases f
  ·split at f
   ·rename_i c e;simp only[eo,en,ff,or_false,fh] at f;rcases f with h|h|h
    ·exact g s_ s_ h
    ·exact j (by rw[e];simp) h
    ·exact g s_ s_ h
   ·cases f
def TE(h:∀f∈ks,∀k∈f.y_,mL k):jS (dS ks d):=λg m=>by
 obtain⟨f,o,rfl⟩:=ia.1 m
 have a:∀i∈(fK ks d f).code,nU i:=λi c=>by
  simp only[fK,eo,en,ff,or_false] at c;rcases c with c|rfl|rfl
  ·cases j:f.y_.getLast? with
   |none=>rw[j] at c;cases c
   |some b=>
    rw[j] at c;exact qI _ _ _ (λk n s q=>OI ks d s k q ((h f o b (List.mem_of_getLast? j)).kid n)) i c
  ·exact⟨λv e=>by cases e;exact bN.num _,λl e=>by cases e⟩
  ·exact⟨λv e=>by (cases e),λl e=>by cases e⟩
 exact⟨λv r=>(a _ r).1 v rfl,λl p=>(a _ p).2 l rfl⟩
structure WU where
 name:List UInt8
 l_:Nat
 g_:List (List UInt8 × aJ)
structure kF where
 stack:List (List UInt8 × Nat)
 g_:List (List UInt8 × aJ)
 out:List (List UInt8)
 stop:Nat
structure fF where
 f_:List WU
 tape:List Int
 out:List (List UInt8)
 moms:List kF
 stop:Nat
def fF.g_(s:fF):List (List UInt8 × aJ):=(s.f_.getLast?.map (·.g_)).getD []
def fF.notes(s:fF):fF:={ s with moms:=s.moms++[⟨s.f_.map λf=>(f.name,f.l_),s.g_,s.out,s.stop⟩] }
def fF.or(s:fF)(stop:Nat):fF:=if stop≠0/\s.stop=0 then { s with stop:=stop } else s
def wY(f:aI)(e_:List (List UInt8)):WU:=⟨f.fn.name,f.l_,e_.reverse.zip f.g_⟩
def hJ(l:List aI):List WU:=l.map λf=>wY f f.e_
def toldM(m:bX)(stop:Nat):kF:=⟨m.f_.map λf=>(f.fn.name,f.l_),((m.f_.getLast?.map λf=>f.e_.reverse.zip f.g_)).getD [],m.out,stop⟩
inductive lF (tab:List dQ):bX->Nat->List kF->bX->Nat->Prop
 |refl (m:bX) (n:Nat):lF tab m n [] m n
 |step {b:List aI} {f g:aI} {t:List Int} {o:List (List UInt8)} {i:aH} {m1 m':bX} {n n':Nat} {ms:List kF} (hf:f.fetch=some (i,g)) (hb:i.isBegin=false) (hd:bY tab i b g t o=(m1,0)) (hr:lF tab m1 n ms m' n'):lF tab ⟨b++[f],t,o⟩ n ms m' n'
 |mom {b:List aI} {f g:aI} {t:List Int} {o:List (List UInt8)} {i:aH} {m1 m':bX} {n n':Nat} {ms:List kF} (hf:f.fetch=some (i,g)) (hb:i.isBegin=true) (hd:bY tab i b g t o=(m1,0)) (hn:n≠500) (hr:lF tab m1 (n+1) ms m' n'):lF tab ⟨b++[f],t,o⟩ n (toldM m1 0::ms) m' n'
def lF.trans{d:List dQ}{a b c:bX}{o e:Nat}{m f:List kF}(h:lF d a n m b o)(k:lF d b o f c e):lF d a n (m++f) c e:=by
 induction h with
 |refl=>exact k
 |step i l g _ j=>exact .step i l g (j k)
 |mom i l g p _ j=>exact .mom i l g p (j k)
inductive AS (tab:List dQ):bX->Nat->kF->Prop
 |stop {b:List aI} {f g:aI} {t:List Int} {o:List (List UInt8)} {i:aH} {m1:bX} {n st:Nat} (hf:f.fetch=some (i,g)) (hd:bY tab i b g t o=(m1,st)) (hs:st≠0):AS tab ⟨b++[f],t,o⟩ n (toldM m1 st)
 |done {t:List Int} {o:List (List UInt8)} {n:Nat}:AS tab ⟨[],t,o⟩ n (toldM ⟨[],t,o⟩ 1)
 |fuel {b:List aI} {f g:aI} {t:List Int} {o:List (List UInt8)} {i:aH} {m1:bX} (hf:f.fetch=some (i,g)) (hb:i.isBegin=true) (hd:bY tab i b g t o=(m1,0)):AS tab ⟨b++[f],t,o⟩ 500 (toldM m1 9)
def EV(tab:List dQ)(m:bX)(n:Nat)(ms:List kF):Prop:=∃m' n' ms' x,lF tab m n ms' m' n'/\AS tab m' n' x/\ms=ms'++[x]
def lF.halts{c:List dQ}{a b:bX}{i:Nat}{e d:List kF}(h:lF c a n e b i)(k:EV c b i d):EV c a n (e++d):=by
 obtain⟨o,f,g,x,l,j,m⟩:=k;exact⟨o,f,e++g,x,h.trans l,j,by rw[m,fo]⟩
def fF.final(s:fF):List kF:=if s.stop=9 then s.moms else s.notes.moms
def iF(tab:List dQ)(m:bX)(s s':fF)(m':bX):Prop:=
 (s'.stop=0/\∃ms,s'.moms=s.moms++ms/\lF tab m s.moms.length ms m' s'.moms.length)\/
 (s'.stop≠0/\∃ms,s.moms++ms=s'.final/\EV tab m s.moms.length ms)
def iF.refl(a:List dQ)(m:bX)(s:fF)(h:s.stop=0):iF a m s s m:=d6 ⟨h,[],s_,lF.refl _ _⟩
def iF.trans{a:List dQ}{m p o:bX}{s c l:fF}(h:iF a m s c p)(k:c.stop=0->iF a p c l o)(q:c.stop≠0->l=c):iF a m s l o:=by
 rcases h with ⟨g,d,f,e⟩|⟨g,d,f,e⟩
 ·rcases k g with ⟨n,b,i,j⟩|⟨n,b,i,j⟩
  ·exact d6 ⟨n,d++b,by rw[i,f,fo],e.trans j⟩
  ·exact d5 ⟨n,d++b,by rw[<-i,f,fo],e.halts j⟩
 ·rw[q g];exact d5 ⟨g,d,f,e⟩
def iF.step{a:List dQ}{b:List aI}{e:bX}{s c:fF}(j:f.fetch=some (i,g))(k:i.isBegin=false)(h:bY a i b g t o=(e,0))(l:c.stop=0)(d:c.moms=s.moms):iF a ⟨b++[f],t,o⟩ s c e:=
 d6 ⟨l,[],by simp[d],.step j k h (by rw[d];exact .refl _ _)⟩
def iF.stops{d:List dQ}{b:List aI}{h n:bX}{c:Nat}{s a:fF}(m:f.fetch=some (i,g))(k:bY d i b g t o=(h,c))(j:c≠0)(q:c≠9)
 (e:a.stop=c) (p:a.moms=s.moms) (l:(⟨a.f_.map λf=>(f.name,f.l_),a.g_,a.out,a.stop⟩:kF)=toldM h c):iF d ⟨b++[f],t,o⟩ s a n:=by
 refine d5 ⟨by rw[e];exact j,[toldM h c],?_,_,_,[],_,.refl _ _,.stop m k j,rfl⟩
 unfold fF.final;rw[if_neg (by rw[e];exact q)]
 unfold fF.notes;simp only[p];rw[<-l]
def pJ(code:List aH)(p:Nat)(c:List aH):Prop:=∀j i,c[j]?=some i->code[p+j]?=some i
def QU(h:f.fn.code[f.next]?=some i):f.fetch=some (i,{ f with next:=f.next+1 }):=by unfold aI.fetch;rw[h];rfl
structure vT(e_:List (List UInt8))(p:Nat)(c:List aH)(w_:List aI)(f:aI)(s:fF):Prop where
 code:pJ f.fn.code p c
 next:f.next=p
 sees:f.e_=e_
 nodup:e_.Nodup
 g_:e_.length<=f.g_.length
 stop:s.stop=0
 f_:s.f_=hJ (w_++[f])
 deep:w_.length+1<=16
def aI.had(f:aI)(n:Nat)(vs:List aJ):aI:={ f with next:=n,ops:=f.ops++vs }
def xO(tab:List dQ)(w_:List aI)(f:aI)(n:Nat)(vs:List aJ)(s s':fF):Prop:=
 (s'.stop=0->s'.f_=s.f_)/\iF tab ⟨w_++[f],s.tape,s.out⟩ s s' ⟨w_++[f.had n vs],s'.tape,s'.out⟩
def vT.had{c c':List aH}{a:List aI}{s b:fF}{vs:List aJ}(h:vT e_ p c a f s)(i:pJ f.fn.code d c')(g:b.stop=0)(e:b.f_=s.f_):vT e_ d c' a (f.had d vs) b:=by
 refine⟨i,rfl,h.sees,h.nodup,h.g_,g,?_,h.deep⟩;rw[e,h.f_];simp[hJ,wY,aI.had]
def SU{a:List aI}{s:fF}(h:s.f_=hJ (a++[f])):s.g_=f.e_.reverse.zip f.g_:=by
 unfold fF.g_;rw[h];simp[hJ,wY]
def KE{a:List aI}{s:fF}{b:Nat}(h:s.f_=hJ (a++[f]))(e:g.fn=f.fn)(c:g.l_=f.l_)(i:g.e_=f.e_)(d:g.g_=f.g_):
 (⟨s.f_.map λf=>(f.name,f.l_),s.g_,s.out,b⟩:kF)=toldM ⟨a++[g],t,s.out⟩ b:=by
 rw[SU h];unfold toldM;rw[h];simp[hJ,wY,e,c,i,d]
def xO.then{d:List dQ}{a:List aI}{vs:List aJ}{s s1 p:fF}{r:aJ × Nat}(h:xO d a f n vs s s1)(q:s.f_=hJ (a++[f]))
 (A:f.fn.code[n]?=some i) (v:i.isBegin=false) (y:s1.stop≠0->p=s1) (t:s1.stop=0->p=s1.or r.2) (z:r.2≠9)
 (u:s1.stop=0->(r.2=0->bY d i a { f.had n vs with next:=n+1 } s1.tape s1.out=(⟨a++[f.had (n+1) [r.1]],s1.tape,s1.out⟩,0))/\(r.2≠0->bY d i a { f.had n vs with next:=n+1 } s1.tape s1.out=(⟨a++[f.had (n+1) []],s1.tape,s1.out⟩,r.2))):
 xO d a f (n+1) [r.1] s p:=by
 by_cases c:s1.stop=0
 rotate_left
 ·rw[y c];refine⟨λo=>absurd o c,?_⟩
  rcases h.2 with ⟨w,_⟩|x
  ·exact absurd w c
  ·exact d5 x
 have j:=t c;have b:(f.had n vs).fetch=some (i,{ f.had n vs with next:=n+1 }):=QU (f:=f.had n vs) A
 have m:s1.f_=hJ (a++[f]):=(h.1 c).trans q;by_cases l:r.2=0
 ·have e:s1.or r.2=s1:=by unfold fF.or;rw[if_neg (by rw[l];simp)]
  rw[e] at j;subst j;exact⟨λo=>h.1 o,h.2.trans (λ_=>iF.step b v ((u c).1 l) c rfl) λk=>absurd c k⟩
 ·have e:s1.or r.2={ s1 with stop:=r.2 }:=by unfold fF.or;rw[if_pos ⟨l,c⟩]
  rw[e] at j;subst j;refine⟨λo=>absurd o l,h.2.trans (λ_=>iF.stops b ((u c).2 l) l z rfl rfl ?_) λk=>absurd c k⟩
  exact KE (s:={ s1 with stop:=r.2 }) (g:=f.had (n+1) []) m rfl rfl rfl rfl
structure j4(e_:List (List UInt8))(p:Nat)(c:List aH)(w_:List aI)(f:aI)(s:fF):Prop where
 code:pJ f.fn.code p c
 next:f.next=p
 nodup:e_.Nodup
 g_:e_.length<=f.g_.length
 stop:s.stop=0
 f_:s.f_=hJ w_++[wY f e_]
 deep:w_.length+1<=16
def iF.any{a:List dQ}{m e c:bX}{s b:fF}(h:iF a m s b e)(f:b.stop≠0):iF a m s b c:=by
 rcases h with ⟨d,_⟩|h
 ·exact absurd d f
 ·exact d5 h
def vT.st{c c':List aH}{a:List aI}{s b:fF}(h:vT e_ p c a f s)(i:pJ f.fn.code d c')(g:b.stop=0)(e:b.f_=s.f_):j4 e_ d c' a (f.had d []) b:=
 ⟨i,rfl,h.nodup,h.g_,g,by rw[e,h.f_];simp[hJ,wY,aI.had,h.sees],h.deep⟩
def stC_seen(h:dP fs d e_ a):(bB fs d e_ a p).2=cO e_ a:=
 (mS fs d e_ a (λ_ _=>False) p h ⟨λ_ _ _ h=>h.elim,λ_ _ h=>h.elim⟩).2.1
def JT:∃k:Nat,16*320000+2<=k:=⟨_,d7 _⟩
noncomputable def jV:Nat:=Classical.choose JT
def JS:16*320000+2<=jV:=Classical.choose_spec JT
noncomputable def fN(tab:List dQ)(m0:bX):Nat->Option bZ
 |0=>(dV tab jV m0).map λr=>⟨0,r.1,bS 0 r.2⟩
 |t+1=>
  match fN tab m0 t with
  |none=>none
  |some s=>if s.stop=0 then (dV tab jV s.m).map λr=>⟨t+1,r.1,bS (t+1) r.2⟩ else none
structure SK(ar:Nat->Option Nat)(s:bZ):Prop where
 told:∀x∈s.m.f_,x.e_.length<=x.g_.length
 deep:s.m.f_.length<=16
 ok:s.stop=0->fI ar s.m/\s.m.f_≠[]
 m_:s.m_<=500
def SS{m:bX}(h:fI ar m):∃k,wgts m.f_<=m.f_.length*k/\k=320000:=by
 have d:∀f∈m.f_,jU f<=320000:=λf a=>by
  have n:f.fn.code.length<=80000:=by
   rcases ja m.f_ with c|⟨b,x,c⟩
   ·rw[c] at a;cases a
   ·rw[jb] at c;have i:=h.ok.low;have e:=h.ok.top x (by rw[c];exact fC _ _)
    rw[c,fY] at i;rw[c] at a;rcases eo.1 a with a|a
    ·obtain⟨T,g,_⟩:=(i f a).code;exact g.len
    ·obtain⟨T,g,_⟩:=e.code;rw[et.1 a];exact g.len
  unfold jU;split
  ·omega
  ·split<;>omega
 have:∀l:List aI,(∀f∈l,jU f<=320000)->wgts l<=l.length*320000:=by
  intro l;induction l with
  |nil=>intro _;simp[wgts]
  |cons x l j=>
   intro h;have i:=h x (fu ..);have e:=j λf a=>h f (fe _ a)
   unfold wgts at e ⊢
   simp only[ew,ey,ek,Nat.succ_mul];omega
 exact⟨320000,this m.f_ d,rfl⟩
def oS{a:List dQ}(b:kA ar a){m:bX}(h:fI ar m):∃r,dV a jV m=some r/\NP ar r:=
 lL b jV m h (by
  obtain⟨k,d,c⟩:=SS h;have e:=Nat.mul_le_mul_right k h.ok.deep;have:=JS;omega)
def CH{b:List dQ}(j:kA ar b){m0:bX}(m:fI ar m0):∀(t:Nat) (s:bZ),fN b m0 t=some s->SK ar s/\s.m_=t
 |0,s,h=>by
  obtain⟨r,k,f⟩:=oS j m;simp only[fN,k,ii,Option.some.injEq] at h;subst h
  exact⟨⟨f.told,f.deep,λc=>f.ok (by simp only[bS] at c;split at c;·simp at c
                                    ·exact c),s_⟩,rfl⟩
 |t+1,s,h=>by
  rw[fN] at h;cases a:fN b m0 t with
  |none=>rw[a] at h;cases h
  |some p=>
   rw[a] at h;simp only at h;obtain⟨l,v⟩:=CH j m t p a;split at h
   ·rename_i c;obtain⟨r,k,f⟩:=oS j (l.ok c).1;rw[k] at h;simp only[ii,Option.some.injEq] at h;subst h
    refine⟨⟨f.told,f.deep,λd=>f.ok (by simp only[bS] at d;split at d;·simp at d
                                       ·exact d),?_⟩,rfl⟩
    show t+1<=500
    have q:t≠500:=by
     intro e;cases t with
     |zero=>simp at e
     |succ u=>
      rw[fN] at a;cases n:fN b m0 u with
      |none=>rw[n] at a;cases a
      |some o=>
       rw[n] at a;simp only at a;split at a
       ·cases g:dV b jV o.m with
        |none=>rw[g] at a;cases a
        |some w=>
         rw[g] at a;simp only[ii,Option.some.injEq] at a;subst a;simp only[bS] at c;split at c
         ·simp at c
         ·rename_i i;exact i ⟨c,e⟩
       ·cases a
    have:=l.m_;omega
   ·cases h
def xW{a:List dQ}{r:bX × Nat}(j:Nat):∀(k:Nat) (m:bX),dV a k m=some r->dV a (k+j) m=some r
 |0,_,h=>by cases h
 |k+1,m,h=>by
  rw[show k+1+j=(k+j)+1 by omega]
  rw[dV] at h ⊢
  cases e:m.f_.getLast? with
  |none=>rw[e] at h;exact h
  |some f=>
   rw[e] at h;simp only at h ⊢
   cases d:f.fetch with
   |none=>rw[d] at h;cases h
   |some g=>
    rw[d] at h;simp only at h ⊢
    split at h
    ·rename_i c;rw[if_pos c];exact h
    rename_i c;rw[if_neg c];split at h
    ·rename_i b;rw[if_pos b];exact h
    rename_i b;rw[if_neg b];exact xW j k _ h
noncomputable def AO(tab:List dQ)(k:Nat):Nat->Nat->bX->Option bZ
 |0,_,_=>none
 |n+1,t,m=>
  match dV tab k m with
  |none=>none
  |some r=>if r.2=0/\t≠500 then AO tab k n (t+1) r.1 else some ⟨t,r.1,bS t r.2⟩
def CX{a:List dQ}{m0:bX}{k:Nat}(e:k<=jV){z:bZ}:∀(n t:Nat) (m:bX),AO a k n t m=some z->(∀r,dV a jV m=some r->fN a m0 t=some ⟨t,r.1,bS t r.2⟩)->fN a m0 z.m_=some z
 |0,_,_,h,_=>by cases h
 |n+1,t,m,h,g=>by
  rw[AO] at h;cases c:dV a k m with
  |none=>rw[c] at h;cases h
  |some r=>
   rw[c] at h;simp only at h
   have f:dV a jV m=some r:=by
    have:=xW (jV-k) k m c;rwa [show k+(jV-k)=jV by omega] at this
   have d:=g r f;split at h
   ·rename_i i;refine CX e n (t+1) r.1 h λl b=>?_
    have j:bS t r.2=0:=by unfold bS;rw[if_neg o_];exact i.1
    rw[fN,d];simp only[j,if_true,b,ii]
   ·cases h;exact d
def xP(src:List UInt8)(t:Nat)(out:List (List UInt8)):Prop:=∃ks tp,cX src=.ok ks/\dL src=(0,0)/\fN (dS ks 2001) (iD ks 2001 []) t=some ⟨t,⟨[],tp,out⟩,1⟩
def rH(f:Nat):∀(n:Nat) (t:List UInt8),digitsF f n t=digitsF f n []++t:=by
 induction f with
 |zero=>intro n t;rfl
 |succ f a=>
  intro n t;simp only[digitsF];split
  ·rfl
  ·rw[a (n/10) (_::t),a (n/10) [_]];simp
def nD(k:Nat)(h:k<10):(UInt8.ofNat (48+k)).toNat=48+k:=by
 rw[UInt8.toNat_ofNat'];omega
def vL(k:Nat)(h:k<10):cB (UInt8.ofNat (48+k))=true:=by
 unfold cB;rw[nD k h];simp;omega
def xL(f:Nat):∀(n:Nat) (t:List UInt8),(∀c∈t,cB c=true)->∀c∈digitsF f n t,cB c=true:=by
 induction f with
 |zero=>intro n t h;exact h
 |succ f b=>
  intro n t h;simp only[digitsF];split
  ·rename_i d;intro c a;rcases en.1 a with rfl|a
   ·exact vL n d
   ·exact h c a
  ·refine b _ _ λc a=>?_
   rcases en.1 a with rfl|a
   ·exact vL _ (Nat.mod_lt _ o_)
   ·exact h c a
def digitsF_len(f:Nat):∀(n:Nat) (t:List UInt8),(digitsF f n t).length<=f+t.length:=by
 induction f with
 |zero=>intro n t;simp[digitsF]
 |succ f a=>
  intro n t;simp only[digitsF];split
  ·simp;omega
  ·have:=a (n/10) (UInt8.ofNat (48+n%10)::t);rw[ek] at this;omega
def GS(f n:Nat):digitsF (f+1) n []≠[]:=by
 simp only[digitsF];split
 ·simp
 ·rw[rH];simp
def AV(d:List UInt8)(c:UInt8):∀(n m:Nat),cD n d=some m->10*m+(c.toNat-48)<=iE->c.toNat-48<=iE->cD n (d++[c])=some (10*m+(c.toNat-48)):=by
 induction d with
 |nil=>
  intro n m h a b;cases h;simp only[gv,cD];rw[if_neg o_]
 |cons x d e=>
  intro n m h a b;simp only[cD] at h;split at h
  ·cases h
  ·rename_i f;simp only[fh,cD];rw[if_neg f];exact e _ _ h a b
def xK(f:Nat):∀n:Nat,n<10 ^ f->n<=iE->cD 0 (digitsF f n [])=some n:=by
 induction f with
 |zero=>intro n h _;obtain rfl:n=0:=by simpa using h
        rfl
 |succ f c=>
  intro n h g;simp only[digitsF];split
  ·rename_i b;simp only[cD,nD n b];rw[if_neg (by unfold iE;omega)]
   congr 1;omega
  ·rename_i b;rw[rH];have e:n/10<10 ^ f:=by rw[Nat.pow_succ] at h;omega
   have d:=c (n/10) e o_
   have a:=nD (n%10) (Nat.mod_lt _ o_)
   rw[AV _ _ 0 (n/10) d (by rw[a];omega) (by rw[a];unfold iE;omega),a]
   congr 1;omega
def dO(n:Nat):List UInt8:=digitsF 20 n []
def sW(n:Nat)(h:n<=iE):cD 0 (dO n)=some n:=xK 20 n (by unfold iE at h;omega) h
def lV(n:Nat):∀c∈dO n,cB c=true:=xL 20 n [] s_
def pG(n:Nat):dO n≠[]:=GS 19 n
def nS(n:Nat):(dO n).length<=20:=by have:=digitsF_len 20 n [];rw[ep] at this;exact this
def iA(l:List UInt8):Prop:=∀c r,l=c::r->cB c=false/\eC c=false/\¬(c.toNat=32\/c.toNat=9\/c.toNat=10)/\cN (c::r) [47,47]=false
def iA.blank(h:iA l)(n:Nat):blankL n l=0:=by
 cases n with
 |zero=>rfl
 |succ n=>
  cases l with
  |nil=>rfl
  |cons c r=>
   obtain⟨_,_,b,a⟩:=h c r rfl;rw[gH,if_neg b,if_neg (by rw[a];simp)]
def zT(d a:List UInt8)(b:∀c∈d,cB c=true)(f:iA a):bF (dU false) (d++a)=d.length:=by
 induction d with
 |nil=>
  cases a with
  |nil=>rfl
  |cons c r=>
   obtain⟨g,_⟩:=f c r rfl;simp[bF,dU,g]
 |cons c d e=>
  simp only[fh,bF];rw[if_pos (by simp[dU,b c s_]),e λc h=>b c (by simp[h])]
  rfl
def vK(c:UInt8)(h:cB c=true):eC c=false:=by
 unfold cB at h;unfold eC;simp only[fq,decide_eq_true_eq] at h;obtain⟨a,b⟩:=h;simp only[Bool.or_eq_false_iff,beq_eq_false_iff_ne,Bool.and_eq_false_iff,decide_eq_false_iff_not];omega
def BB(d a:List UInt8)(n:Nat)(i:d≠[])(b:∀c∈d,cB c=true)(g:iA a)(f:cD 0 d=some n):
 bJ (d++a)=⟨48,d,d.length,true⟩:=by
 cases d with
 |nil=>exact absurd rfl i
 |cons c d=>
  have h:=zT (c::d) a b g;have e:=b c s_
  rw[fh,bJ,if_pos (by rw[e];rfl),vK c e]
  unfold gD;rw[if_neg s_]
  rw[<-fh,h];rw[List.take_left,f];rfl
def KF(f:Nat)(b w a:List UInt8)(s:Nat)(e:w≠[])(d:bJ (w++a)=⟨s,w,w.length,true⟩)(h:iA a):
 cU (f+1) b (w++a)=cH [⟨s,w,aU b⟩] (cU f (b++w) a):=by
 have g:¬(w++a).length=0:=by
  cases w with
  |nil=>exact absurd rfl e
  |cons c w=>simp
 rw[gV f b (w++a) g (by rw[d]) w.length (by rw[d];rw[List.drop_left,h.blank];rfl),d,List.take_left,List.drop_left]
def CN:List UInt8:=[40,41,43,45,42,47,37]
def lB(a b:List aP)(x:Except Nat (List aP)):cH (a++b) x=cH a (cH b x):=by cases x<;>simp[cH]
def FA(f:Nat)(b:List UInt8)(c:UInt8)(i:c∈CN)(a:List UInt8)(h:iA a\/∃d r,a=d::r/\cB d=true):
 cU (f+1) b (c::a)=cH [⟨112,[c],aU b⟩] (cU f (b++[c]) a):=by
 have k:∀n,blankL n a=0:=by
  intro n;rcases h with h|⟨d,r,rfl,g⟩
  ·exact h.blank n
  ·cases n with
   |zero=>rfl
   |succ n=>
    unfold cB at g;simp only[fq,decide_eq_true_eq] at g;rw[gH,if_neg o_,if_neg]
    intro j;have:=jg.1 j;obtain⟨t,e⟩:=this;simp only[fh,List.cons.injEq] at e;rw[<-e.1] at g;revert g;decide
 have e:bJ (c::a)=⟨112,[c],1,true⟩:=by
  simp only[CN,en,ff,or_false] at i;rcases i with rfl|rfl|rfl|rfl|rfl|rfl|rfl<;>rfl
 rw[gV f b (c::a) s_ (by rw[e]) 1 (by rw[e];show 1=1+blankL _ (List.drop 1 (c::a));rw[List.drop_one,List.tail_cons,k]),e]
 rfl
def cS(x:Int):List UInt8:=
 if x= -9223372036854775808 then [40,45]++(dO 9223372036854775807++([45]++(dO 1++[41])))
 else if x<0 then [40,45]++(dO x.natAbs++[41])
 else dO x.natAbs
def oZ(x:Int):List aP:=
 if x= -9223372036854775808 then [⟨112,[40],1⟩,⟨112,[45],1⟩,⟨48,dO 9223372036854775807,1⟩,⟨112,[45],1⟩,⟨48,dO 1,1⟩,⟨112,[41],1⟩]
 else if x<0 then [⟨112,[40],1⟩,⟨112,[45],1⟩,⟨48,dO x.natAbs,1⟩,⟨112,[41],1⟩]
 else [⟨48,dO x.natAbs,1⟩]
def pA(l:List UInt8)(h:∀c∈l,c≠10):aU l=1:=by
 unfold aU;rw[js.2 (λa=>h 10 a rfl)]
def iP(n:Nat):∀c∈dO n,c≠10:=by
 intro c a e;subst e;exact absurd (lV n 10 a) d_
def nQ(n:Nat):1<=(dO n).length:=by
 have:=pG n;cases h:dO n with
 |nil=>exact absurd h this
 |cons c r=>simp
def mJ(n:Nat)(r:List UInt8):∃d s,dO n++r=d::s/\cB d=true:=by
 cases h:dO n with
 |nil=>exact absurd h (pG n)
 |cons d s=>exact⟨d,s++r,rfl,lV n d (by rw[h];simp)⟩
def iA.sign(c:UInt8)(a:c=41\/c=45\/c=43\/c=42\/c=37\/c=40)(r:List UInt8):iA (c::r):=by
 intro x y h;obtain⟨rfl,rfl⟩:=List.cons.inj h;rcases a with rfl|rfl|rfl|rfl|rfl|rfl<;>refine⟨d_,d_,d_,rfl⟩
def iA.nil:iA []:=by intro c r h;cases h
def lT(f:Nat)(b:List UInt8)(n:Nat)(g:n<=iE)(a:List UInt8)(d:iA a)(e:∀c∈b,c≠10):
 cU (f+1) b (dO n++a)=cH [⟨48,dO n,1⟩] (cU f (b++dO n) a):=by
 rw[KF f b (dO n) a 48 (pG n) (BB _ _ n (pG n) (lV n) d (sW n g)) d,pA b e]
def cQ{a b:List UInt8}(d:∀c∈a,c≠10)(e:∀c∈b,c≠10):∀c∈a++b,c≠10:=by
 intro c f;rcases eo.1 f with h|h
 ·exact d c h
 ·exact e c h
def gE(f:Nat)(b:List UInt8)(c:UInt8)(h:c∈CN)(a:List UInt8)(g:iA a\/∃d r,a=d::r/\cB d=true)(e:∀c∈b,c≠10):
 cU (f+1) b (c::a)=cH [⟨112,[c],1⟩] (cU f (b++[c]) a):=by
 rw[FA f b c h a g,pA b e]
def VH(x:Int):∀c∈cS x,c≠10:=by
 unfold cS;split
 ·exact cQ d_ (cQ (iP _) (cQ d_ (cQ (iP _) d_)))
 ·split
  ·exact cQ d_ (cQ (iP _) d_)
  ·exact iP _
def KG(x:Int)(h: -9223372036854775808<=x)(g:x<=9223372036854775807)(a d:List UInt8)(e:iA d)(b:∀c∈a,c≠10):
 ∃k,k<=(cS x).length/\∀f,cU (f+k) a (cS x++d)=cH (oZ x) (cU f (a++cS x) d):=by
 unfold cS oZ;split
 ·have:=nQ 9223372036854775807;refine⟨6,by simp only[ei,ek,ep];have:=nQ 1;omega,λf=>?_⟩
  simp only[fo,fh,gv]
  rw[gE (f+5) a 40 d_ _ (.inl (iA.sign 45 s_ _)) b,
   gE (f+4) _ 45 d_ _ (.inr (mJ _ _)) (cQ b d_),
   lT (f+3) _ _ d_ _ (iA.sign 45 s_ _) (cQ (cQ b d_) d_),
   gE (f+2) _ 45 d_ _ (.inr (mJ _ _)) (cQ (cQ (cQ b d_) d_) (iP _)),
   lT (f+1) _ _ d_ _ (iA.sign 41 s_ _) (cQ (cQ (cQ (cQ b d_) d_) (iP _)) d_),
   gE f _ 41 d_ _ (.inl e) (cQ (cQ (cQ (cQ (cQ b d_) d_) (iP _)) d_) (iP _))]
  simp only[<-lB,fo,fh,gv]
 ·split
  ·refine⟨4,by simp only[ei,ek,ep];have:=nQ x.natAbs;omega,λf=>?_⟩
   simp only[fo,fh,gv]
   rw[gE (f+3) a 40 d_ _ (.inl (iA.sign 45 s_ _)) b,
    gE (f+2) _ 45 d_ _ (.inr (mJ _ _)) (cQ b d_),
    lT (f+1) _ _ (by unfold iE;omega) _ (iA.sign 41 s_ _) (cQ (cQ b d_) d_),
    gE f _ 41 d_ _ (.inl e) (cQ (cQ (cQ b d_) d_) (iP _))]
   simp only[<-lB,fo,fh,gv]
  ·refine⟨1,nQ _,λf=>?_⟩
   rw[lT f a _ (by unfold iE;omega) _ e b]
end Go.Proofs.YthbffcmfmjpncaaGreatDoor.Hs
