/- The shapes of trees that were read: plain facts. -/
import Derived.Test.YtblbkfdhjfppkaaGreatDoorP00
set_option maxRecDepth 100000
namespace Go.Proofs.YtblbkfdhjfppkaaGreatDoor.Hs
inductive dD:aC->Prop
 |leaf (a:aC) (h:a.op=[48]\/a.op=[115]\/a.op=[98,111,111,108]\/a.op=[110,97,109,101]) (hk:a.kids=[]) (ht:a.op=[115]->MG a.text):dD a
 |many (a:aC) (h:a.op=[108,105,115,116]\/a.op=[99,97,108,108]) (hk:∀k∈a.kids,dD k):dD a
 |one (a l:aC) (h:a.op=[45,120]\/a.op=[33,120]) (hk:a.kids=[l]) (hl:dD l):dD a
 |two (a l r:aC) (h:a.op=[105,110,100,101,120]\/bV a.op≠9) (hk:a.kids=[l,r]) (hl:dD l) (hr:dD r):dD a
inductive gH:aC->Prop
 |var (a t v:aC) (h:a.op=[118,97,114]) (hk:a.kids=[t,v]) (hv:dD v) (ht:t.op=[116,97,114,103,101,116]/\t.kids=[]):gH a
 |set (a:aC) (h:a.op=[115,101,116]) (hn:a.kids≠[]) (hk:∀k∈a.kids,dD k):gH a
 |if2 (a c t:aC) (h:a.op=[105,102]) (hk:a.kids=[c,t]) (hc:dD c) (ht:t.op=[98,108,111,99,107]) (htk:∀k∈t.kids,gH k):gH a
 |if3 (a c t x:aC) (h:a.op=[105,102]) (hk:a.kids=[c,t,x]) (hc:dD c) (ht:t.op=[98,108,111,99,107]) (htk:∀k∈t.kids,gH k) (hx:x.op=[98,108,111,99,107]) (hxk:∀k∈x.kids,gH k):gH a
 |whl (a c t:aC) (h:a.op=[119,104,105,108,101]) (hk:a.kids=[c,t]) (hc:dD c) (ht:t.op=[98,108,111,99,107]) (htk:∀k∈t.kids,gH k):gH a
 |ret0 (a:aC) (h:a.op=[114,101,116,117,114,110]) (hk:a.kids=[]):gH a
 |ret1 (a v:aC) (h:a.op=[114,101,116,117,114,110]) (hk:a.kids=[v]) (hv:dD v):gH a
 |print (a v:aC) (h:a.op=[112,114,105,110,116]) (hk:a.kids=[v]) (hv:dD v):gH a
 |call (a c:aC) (h:a.op=[100,111]) (hk:a.kids=[c]) (hc:dD c) (ho:c.op=[99,97,108,108]):gH a
structure MM(b:aC):Prop where
 op:b.op=[98,108,111,99,107]
 kids:∀k∈b.kids,gH k
structure rD(f:aC):Prop where
 kids:∃ps b,f.kids=ps++[b]/\(∀x∈ps,x.op=[112,97,114,97,109])/\MM b/\∀x∈ps,x.kids=[]
def bK{α:Type}(P:α->Prop)(r:bS α):Prop:=∀a q,r=.ok (a,q)->P a
theorem bK.err{α:Type}{P:α->Prop}{n:Nat}:bK P (.error n):=fun a q h=>by cases h
theorem bK.bad{α:Type}{P:α->Prop}{p':Nat}{ts:List aP}:bK P (bad ts p'):=fun a q h=>by cases h
theorem bK.of_ok{α:Type}{P:α->Prop}{q:Nat}{a:α}(h:P a):bK P (.ok (a,q)):=fun a' q' e=>by cases e;exact h
theorem bK.take{α:Type}{P:α->Prop}{ts:List aP}{x:List UInt8}{r:bS α}(h:bK P r):bK P (aL ts x r):=by
 cases r with
 |error l=>exact bK.err
 |ok aq=>
  obtain⟨a,q⟩:=aq;have:=h a q rfl;unfold aL;simp only;split
  ·exact bK.of_ok this
  ·exact bK.bad
theorem bK.map{α β:Type}{P:α->Prop}{Q:β->Prop}{r:bS α}{f:α->β}(h:bK P r)(hf:∀a,P a->Q (f a)):bK Q (bU f r):=by
 cases r with
 |error l=>exact bK.err
 |ok aq=>obtain⟨a,q⟩:=aq;exact bK.of_ok (hf a (h a q rfl))
theorem bK.bind{α β:Type}{P:α->Prop}{Q:β->Prop}{r:bS α}{f:α->Nat->bS β}(h:bK P r)(hf:∀a q,P a->bK Q (f a q)):bK Q (bO r f):=by
 cases r with
 |error l=>exact bK.err
 |ok aq=>obtain⟨a,q⟩:=aq;exact hf a q (h a q rfl)
def eO(P:aC->Prop)(l:List aC):Prop:=∀k∈l,P k
theorem eO.nil{P:aC->Prop}:eO P []:=fun _ h=>by cases h
theorem eO.snoc{P:aC->Prop}{l:List aC}{a:aC}(h:eO P l)(ha:P a):eO P (l++[a]):=fun k hk=>by
 rcases o7.1 hk with hk|hk
 ·exact h k hk
 ·rw[o8.1 hk];exact ha
section
variable {ts:List aP} {E:Nat->bS aC}
def rC(ts:List aP):Prop:=∀p,(aO ts p).sort=115->MG (aO ts p).text
theorem qI(HE:∀q,bK dD (E q)):∀(g p:Nat) (acc:List aC),eO dD acc->bK (eO dD) (dI E ts g p acc)
 |0,p,acc,_=>bK.err
 |g+1,p,acc,h0=>by
  rw[dI];cases hx:E p with
  |error l=>exact bK.err
  |ok aq=>
   obtain⟨a,q⟩:=aq;have h2:=HE p a q hx;simp only;split
   ·exact qI HE g (q+1) _ (h0.snoc h2)
   ·exact bK.of_ok (h0.snoc h2)
theorem qH(HE:∀q,bK dD (E q))(p:Nat)(x y:List UInt8):bK (eO dD) (eL E ts p x y):=by
 unfold eL;split
 ·refine bK.take ?_;unfold hP;split
  ·exact bK.of_ok eO.nil
  ·exact qI HE _ _ _ eO.nil
 ·exact bK.bad
theorem FF(hts:rC ts)(HE:∀q,bK dD (E q))(p:Nat):bK dD (dW E ts p):=by
 unfold dW;split
 ·rename_i h;simp at h;rcases h with h|h
  ·refine bK.of_ok (.leaf _ (Or.inl (by show [UInt8.ofNat _]=_;rw[h];rfl)) rfl fun e=>?_)
   have e':[UInt8.ofNat (aO ts p).sort]=[115]:=e;rw[h] at e';exact absurd e' (by decide)
  ·exact bK.of_ok (.leaf _ (Or.inr (Or.inl (by show [UInt8.ofNat _]=_;rw[h];rfl))) rfl fun _=>hts p h)
 split
 ·exact bK.of_ok (.leaf _ (Or.inr (Or.inr (Or.inl rfl))) rfl fun e=>by simp[aQ] at e)
 split
 ·exact(HE (p+1)).take
 split
 ·exact bK.map (qH HE p _ _) fun a h=>.many _ (Or.inl rfl) h
 split
 ·split
  ·exact bK.map (qH HE (p+1) _ _) fun a h=>.many _ (Or.inr rfl) h
  ·exact bK.of_ok (.leaf _ (Or.inr (Or.inr (Or.inr rfl))) rfl fun e=>by simp[aQ] at e)
 ·exact bK.bad
theorem xO(HE:∀q,bK dD (E q)):∀(g:Nat) (n:aC) (p:Nat),dD n->bK dD (cZ E ts g n p)
 |0,n,p,_=>bK.err
 |g+1,n,p,h0=>by
  rw[cZ];split
  ·have hE:=(HE (p+1)).take (ts:=ts) (x:=[93]);cases hx:aL ts [93] (E (p+1)) with
   |error l=>exact bK.err
   |ok iq=>
    obtain⟨i,q⟩:=iq;exact xO HE g _ q (.two _ n i (Or.inl rfl) rfl h0 (hE i q hx))
  ·exact bK.of_ok h0
theorem qF(hts:rC ts)(HE:∀q,bK dD (E q)):∀(g p:Nat),bK dD (eJ E ts g p)
 |0,p=>bK.err
 |g+1,p=>by
  rw[eJ];split
  ·exact bK.map (qF hts HE g (p+1)) fun a h=>.one _ a (Or.inl rfl) rfl h
  split
  ·exact bK.map (qF hts HE g (p+1)) fun a h=>.one _ a (Or.inr rfl) rfl h
  ·exact bK.bind (FF hts HE p) fun a q h1=>xO HE _ a q h1
theorem pI{L:Nat->bS aC}{k:Nat}(hk9:k<9)(HL:∀q,bK dD (L q)):∀(g:Nat) (n:aC) (q:Nat),dD n->bK dD (bD L ts k g n q)
 |0,n,q,_=>bK.err
 |g+1,n,q,h0=>by
  rw[bD];split
  ·rename_i hlev;cases hx:L (q+1) with
   |error l=>exact bK.err
   |ok rq=>
    obtain⟨r,q2⟩:=rq;have h2:=HL _ r q2 hx;have hn:dD (aQ (aO ts q).text (aO ts q).line [] [n,r]):=.two _ n r (Or.inr (by simp at hlev;show bV (aO ts q).text≠9;rw[hlev.2];omega)) rfl h0 h2
    simp only;split
    ·exact bK.of_ok hn
    ·exact pI hk9 HL g _ q2 hn
  ·exact bK.of_ok h0
theorem qJ(hts:rC ts)(HE:∀q,bK dD (E q)):∀(j p:Nat),bK dD (fP E ts j p)
 |0,p=>qF hts HE _ p
 |j+1,p=>by
  rw[fP];exact bK.bind (qJ hts HE j p) fun a q h1=>pI (by omega) (fun q=>qJ hts HE j q) _ a q h1
theorem CE(ts:List aP)(hts:rC ts):∀(f p:Nat),bK dD (fD ts f p)
 |0,p=>bK.err
 |f+1,p=>by
  rw[fD];exact qJ hts (fun q=>CE ts hts f q) 5 p
theorem sE(HE:∀q,bK dD (E q)):∀(g p:Nat) (acc:List aC),eO dD acc->bK (eO dD) (eR E ts g p acc)
 |0,p,acc,_=>bK.err
 |g+1,p,acc,h0=>by
  rw[eR];split
  ·have hE:=(HE (p+1)).take (ts:=ts) (x:=[93]);cases hx:aL ts [93] (E (p+1)) with
   |error l=>exact bK.err
   |ok iq=>
    obtain⟨i,q⟩:=iq;exact sE HE g q _ (h0.snoc (hE i q hx))
  ·exact bK.of_ok h0
theorem KI(HE:∀q,bK dD (E q))(p:Nat):bK gH (eQ E ts p):=by
 unfold eQ;split
 ·split
  ·exact bK.take (bK.map (qH HE (p+1) _ _) fun a h=>.call _ _ rfl rfl (.many _ (Or.inr rfl) h) rfl)
  ·refine bK.bind ((sE HE _ (p+1) [] eO.nil).take) fun l q h1=>?_
   exact bK.take (bK.map (HE q) fun v hv=>.set _ rfl (by simp[aQ]) (h1.snoc hv))
 ·exact bK.bad
theorem SS{B:Nat->bS aC}(HE:∀q,bK dD (E q))(HB:∀q,bK MM (B q))(p:Nat):bK gH (iX E B ts p):=by
 unfold iX;split
 ·unfold oG;split
  ·split
   ·exact bK.take (bK.map (HE (p+3)) fun v hv=>.var _ _ v rfl rfl hv ⟨rfl,rfl⟩)
   ·exact bK.bad
  ·exact bK.bad
 split
 ·unfold qQ;refine bK.bind (HE (p+1)) fun c q h1=>bK.bind (HB q) fun b q2 h3=>?_
  split
  ·exact bK.map (HB (q2+1)) fun d hd=>.if3 _ c b d rfl rfl h1 h3.op h3.kids hd.op hd.kids
  ·exact bK.of_ok (.if2 _ c b rfl rfl h1 h3.op h3.kids)
 split
 ·unfold kB;exact bK.bind (HE (p+1)) fun c q h1=>bK.map (HB q) fun b hb=>.whl _ c b rfl rfl h1 hb.op hb.kids
 split
 ·unfold gS;split
  ·exact bK.of_ok (.ret0 _ rfl rfl)
  ·exact bK.take (bK.map (HE (p+1)) fun v hv=>.ret1 _ v rfl rfl hv)
 split
 ·unfold iO;exact bK.take (bK.map (HE (p+1)) fun v hv=>.print _ v rfl rfl hv)
 ·exact KI HE p
theorem pJ{S:Nat->bS aC}(HS:∀q,bK gH (S q)):∀(g p:Nat) (acc:List aC),eO gH acc->bK (eO gH) (dJ S ts g p acc)
 |0,p,acc,_=>bK.err
 |g+1,p,acc,h0=>by
  rw[dJ];split
  ·exact bK.of_ok h0
  ·cases hx:S p with
   |error l=>exact bK.err
   |ok sq=>
    obtain⟨s,q⟩:=sq;exact pJ HS g q _ (h0.snoc (HS p s q hx))
theorem xP(HE:∀q,bK dD (E q)):∀(f p:Nat),bK MM (iS E ts f p)
 |0,p=>bK.err
 |f+1,p=>by
  rw[iS];split
  ·exact bK.map (bK.take (pJ (fun q=>SS HE (fun q=>xP HE f q) q) _ (p+1) [] eO.nil)) fun l h=>⟨rfl,h⟩
  ·exact bK.bad
theorem pH:∀(g p:Nat) (acc:List aC),eO (fun x=>x.op=[112,97,114,97,109]/\x.kids=[]) acc->bK (eO fun x=>x.op=[112,97,114,97,109]/\x.kids=[]) (cR ts g p acc)
 |0,p,acc,_=>bK.err
 |g+1,p,acc,h0=>by
  have hl:eO (fun x=>x.op=[112,97,114,97,109]/\x.kids=[]) (acc++[aQ [112,97,114,97,109] (aO ts p).line (aO ts p).text []]):=h0.snoc ⟨rfl,rfl⟩
  rw[cR];split
  ·split
   ·exact pH g (p+2) _ hl
   ·exact bK.of_ok hl
  ·exact bK.bad
theorem ST{B:Nat->bS aC}(HB:∀q,bK MM (B q))(p:Nat):bK rD (jS B ts p):=by
 unfold jS;split
 ·split
  ·split
   ·have hpar:bK (eO fun x=>x.op=[112,97,114,97,109]/\x.kids=[]) (gV ts (p+3)):=by
     unfold gV;refine bK.take ?_;split
     ·exact bK.of_ok eO.nil
     ·exact pH _ (p+3) [] eO.nil
    exact bK.bind hpar fun l q h1=>bK.map (HB q) fun b hb=>⟨l,b,rfl,fun x hx=>(h1 x hx).1,hb,fun x hx=>(h1 x hx).2⟩
   ·exact bK.bad
  ·exact bK.bad
 ·exact bK.bad
theorem qG{F:Nat->bS aC}(HF:∀q,bK rD (F q)):∀(g p:Nat) (acc:List aC),eO rD acc->bK (eO rD) (eS F ts g p acc)
 |0,p,acc,_=>bK.err
 |g+1,p,acc,h0=>by
  rw[eS];split
  ·exact bK.of_ok h0
  ·cases hx:F p with
   |error l=>exact bK.err
   |ok sq=>
    obtain⟨s,q⟩:=sq;exact qG HF g q _ (h0.snoc (HF p s q hx))
end
theorem cO.split{a b:List UInt8}{c:UInt8}(hc:c.toNat<128)(h:cO (a++c::b)):cO a/\cO b:=by
 generalize hl:a++c::b=l at h;induction h generalizing a with
 |nil=>simp at hl
 |cons h1 h2 ih=>
  subst hl;cases a with
  |nil=>
   have e:bC ([]++c::b)=1:=by simp[bC,hc]
   rw[e] at h2;exact⟨.nil,by simpa using h2⟩
  |cons x a=>
   have hle:bC (x::a++c::b)<=(x::a).length:=by
    refine Nat.le_of_not_lt fun hn=>?_
    have hx:∀i lo hi,128<=lo->i=a.length+1->dF (x::a++c::b) i lo hi=false:=fun i lo hi h0 hi'=>by
     subst hi';have:(x::a++c::b)[a.length+1]?=some c:=by simp
     unfold dF;rw[this];simp;omega
    have hx':∀i lo hi,128<=lo->dF (x::a++c::b) i lo hi=true->i≠a.length+1:=fun i lo hi h0 ht e=>by rw[hx i lo hi h0 e] at ht;cases ht
    unfold bC at h1 hn;rw[n8] at hn;simp only[s9,bb_] at h1 hn hx';have hlo:∀n m:Nat,128<=m->128<=(if x.toNat=n then m else 128):=fun n m h=>by split<;>omega
    by_cases c1:x.toNat<128
    ·rw[if_pos c1] at hn;omega
    rw[if_neg c1] at hn;by_cases c2:194<=x.toNat/\x.toNat<=223
    ·rw[if_pos c2] at hn;by_cases h:dF (x::(a++c::b)) 1 128 191=true
     ·rw[if_pos h] at hn;have:=hx' _ _ _ (by omega) h;omega
     ·rw[if_neg h] at hn;omega
    rw[if_neg c2] at hn;by_cases c3:224<=x.toNat/\x.toNat<=239
    ·rw[if_pos c3] at hn;by_cases h:(dF (x::(a++c::b)) 1 (if x.toNat=224 then 160 else 128) (if x.toNat=237 then 159 else 191) && dF (x::(a++c::b)) 2 128 191)=true
     ·rw[if_pos h] at hn;rw[y6] at h;have q1:=hx' _ _ _ (hlo _ _ (by omega)) h.1
      have q2:=hx' _ _ _ (by omega) h.2
      omega
     ·rw[if_neg h] at hn;omega
    rw[if_neg c3] at hn;by_cases c4:240<=x.toNat/\x.toNat<=244
    ·rw[if_pos c4] at hn;by_cases h:(dF (x::(a++c::b)) 1 (if x.toNat=240 then 144 else 128) (if x.toNat=244 then 143 else 191) && dF (x::(a++c::b)) 2 128 191 && dF (x::(a++c::b)) 3 128 191)=true
     ·rw[if_pos h] at hn;rw[y6,y6] at h;have q1:=hx' _ _ _ (hlo _ _ (by omega)) h.1.1
      have q2:=hx' _ _ _ (by omega) h.1.2
      have q3:=hx' _ _ _ (by omega) h.2
      omega
     ·rw[if_neg h] at hn;omega
    ·rw[if_neg c4] at hn;omega
   have hd:(x::a++c::b).drop (bC (x::a++c::b))=(x::a).drop (bC (x::a++c::b))++c::b:=by rw[List.drop_append_of_le_length hle]
   obtain⟨k1,k2⟩:=ih hd.symm;refine⟨?_,k2⟩;have e:bC (x::a)=bC (x::a++c::b):=mX h1 fun i hi=>(ad_ (by omega)).symm
   exact .cons (by rw[e];exact h1) (by rw[e];exact k1)
theorem pB:∀(f:Nat) (l:List UInt8) (p:Nat),l.length<=f->dE f l p=none->cO l
 |0,l,_,h,_=>by
  obtain rfl:l=[]:=v8 (by omega)
  exact .nil
 |f+1,l,p,h,hs=>by
  rw[dE] at hs;split at hs
  ·rename_i h0;obtain rfl:l=[]:=v8 h0;exact .nil
  split at hs
  ·cases hs
  rename_i h1;exact .cons h1 (pB f _ _ (by rw[al_];omega) hs)
theorem MR(f:Nat):∀(pre l:List UInt8) (ts:List aP),cU f pre l=.ok ts->cO (pre++l)->∀t∈ts,t.sort=115->MG t.text:=by
 induction f with
 |zero=>intro pre l ts h;cases h
 |succ f ih=>
  intro pre l ts h hx t ht hs;by_cases hl:l.length=0
  ·rw[kP _ _ _ hl] at h;cases h;rw[o8.1 ht] at hs;cases hs
  ·cases hk:(bJ l).ok
   ·rw[kQ _ _ _ hl hk] at h;cases h
   ·rw[gR _ _ _ hl hk _ rfl] at h;generalize hm:(bJ l).size+blankL l.length (l.drop (bJ l).size)=m at h;cases hy:cU f (pre++l.take m) (l.drop m) with
    |error n=>rw[hy] at h;cases h
    |ok us=>
     rw[hy] at h;cases h;rcases p8.1 ht with rfl|ht
     ·cases l with
      |nil=>simp at hl
      |cons c r=>
       rw[bJ] at hs hk ⊢
       by_cases h1:(bY c || eB c)=true
       ·rw[if_pos h1] at hs;exfalso;unfold gC at hs;split at hs
        ·simp only at hs;split at hs<;>omega
        ·simp at hs
       rw[if_neg h1] at hs hk ⊢
       by_cases h2:c.toNat=34
       ·rw[if_pos h2] at hk ⊢
        simp only[nC,y6,decide_eq_true_eq] at hk;refine⟨by simp only[nC,an_];omega,?_⟩
        have hr:r=r.take (bF fB r)++34::r.drop (bF fB r+1):=by
         obtain⟨hlt,hg⟩:=z6.1 hk.1;conv=>lhs;rw[<-ae_ (bF fB r) r,a0_ hlt,hg]
        have h3:=(hx.split (by omega)).2
        rw[hr] at h3;exact(h3.split (by decide)).1
       ·rw[if_neg h2] at hs;exfalso;unfold gL at hs;split at hs<;>simp at hs
     ·exact ih _ _ us hy (by rw[y7,ae_];exact hx) t ht hs
theorem EH{l:List UInt8}{ts:List aP}(h:fI l=.ok ts)(hs:dE l.length l 0=none):rC ts:=fun p hp=>by
 unfold aO at hp ⊢
 cases ht:ts[p]? with
 |none=>rw[ht] at hp;cases hp
 |some t=>
  rw[ht] at hp;exact MR _ _ _ _ h (by rw[ae_];exact pB _ _ _ (l9 _) hs) t (aq_ ht) hp
theorem uO{l:List UInt8}{ks:List aC}(h:cX l=.ok ks):∀f∈ks,rD f:=by
 unfold cX at h;split at h
 ·cases h
 split at h
 ·cases h
 rename_i hsp;split at h
 ·cases h
 rename_i ts ht;split at h
 ·cases h
 rename_i q hp;cases h;exact qG (fun q=>ST (fun q'=>xP (fun q=>CE ts (EH ht hsp) _ q) _ q') q) _ _ _ eO.nil _ _ hp
theorem oU(s:aZ)(l k:Nat)(h:s.kind≠0):(s.found l k).kind≠0:=by unfold aZ.found;rw[if_neg h];exact h
theorem pK(s:aZ)(n:aC)(h:s.kind≠0):(declaresL s n).kind≠0:=by
 unfold declaresL;split
 ·exact oU _ _ _ h
 ·exact h
theorem OR(fs:List aC)(alone:Bool)(s:aZ)(n:aC)(h:s.kind≠0):(bZ fs alone s n).kind≠0:=by
 unfold bZ eF;repeat' split
 all_goals first|exact oU _ _ _ h|exact h
theorem gQ{f:aZ->aC->aZ}(hf:∀s k,s.kind≠0->(f s k).kind≠0):∀(l:List aC) (s:aZ),s.kind≠0->(l.foldl f s).kind≠0
 |[],_,h=>h
 |k::l,s,h=>gQ hf l _ (hf s k h)
theorem fF(fs:List aC)(alone:Bool):∀(d:Nat) (n:aC) (s:aZ),s.kind≠0->(aM fs alone d n s).kind≠0
 |0,_,_,h=>h
 |d+1,n,s,h=>by
  rw[aM];split
  ·split
   ·exact fF fs alone d _ _ (pK s _ h)
   ·exact h
  ·have h1:(n.kids.foldl (fun s k=>aM fs alone d k s) (bZ fs alone s n)).kind≠0:=gQ (fun s k hs=>fF fs alone d k s hs) _ _ (OR fs alone s n h)
   simp only;split<;>exact h1
theorem ExOk.up{fs:List aC}{alone:Bool}{seen:List (List UInt8)}:∀{d e:Nat} {a:aC},ExOk fs alone seen d a->d<=e->ExOk fs alone seen e a
 |0,_,_,h,_=>h.elim
 |d+1,0,_,_,h=>by omega
 |d+1,e+1,a,h,hde=>by
  have up:∀k,ExOk fs alone seen d k->ExOk fs alone seen e k:=fun k hk=>ExOk.up hk (by omega)
  rcases h with h|h|⟨h0,hk⟩|⟨h0,l,r,hk,hl,hr⟩|⟨h0,l,hk,hl⟩|⟨h0,hk,hc⟩|⟨h0,l,r,hk,hl,hr⟩
  ·exact Or.inl h
  ·exact Or.inr (Or.inl h)
  ·exact Or.inr (Or.inr (Or.inl ⟨h0,fun k h=>up k (hk k h)⟩))
  ·exact Or.inr (Or.inr (Or.inr (Or.inl ⟨h0,l,r,hk,up l hl,up r hr⟩)))
  ·exact Or.inr (Or.inr (Or.inr (Or.inr (Or.inl ⟨h0,l,hk,up l hl⟩))))
  ·exact Or.inr (Or.inr (Or.inr (Or.inr (Or.inr (Or.inl ⟨h0,fun k h=>up k (hk k h),hc⟩)))))
  ·exact Or.inr (Or.inr (Or.inr (Or.inr (Or.inr (Or.inr ⟨h0,l,r,hk,up l hl,up r hr⟩)))))
theorem StsOk.up{S S':List (List UInt8)->aC->Prop}(h:∀s a,S s a->S' s a):∀{l:List aC} {seen:List (List UInt8)},StsOk S seen l->StsOk S' seen l
 |[],_,_=>trivial
 |_::_,_,h'=>⟨h _ _ h'.1,StsOk.up h h'.2⟩
theorem dP.up{fs:List aC}:∀{d e:Nat} {seen:List (List UInt8)} {a:aC},dP fs d seen a->d<=e->dP fs e seen a
 |0,_,_,_,h,_=>h.elim
 |d+1,0,_,_,_,h=>by omega
 |d+1,e+1,seen,a,h,hde=>by
  have up:∀k,ExOk fs false seen d k->ExOk fs false seen e k:=fun k hk=>hk.up (by omega)
  have ups:∀l,StsOk (dP fs d) seen l->StsOk (dP fs e) seen l:=fun l hl=>hl.up fun s a h=>dP.up h (by omega)
  rcases h with ⟨h0,hb,t,v,hk,hv,hx⟩|⟨h0,hx,hne,hk⟩|⟨h0,c,t,hk,hc,ht⟩|⟨h0,c,b,hk,hc,hb⟩|⟨h0,hk|⟨v,hk,hv⟩⟩|⟨h0,v,hk,hv⟩|⟨h0,v,hk,hv⟩
  ·exact Or.inl ⟨h0,hb,t,v,hk,up v hv,hx⟩
  ·exact Or.inr (Or.inl ⟨h0,hx,hne,fun k h=>up k (hk k h)⟩)
  ·exact Or.inr (Or.inr (Or.inl ⟨h0,c,t,hk.imp id fun ⟨x,h1,h2⟩=>⟨x,h1,ups _ h2⟩,up c hc,ups _ ht⟩))
  ·exact Or.inr (Or.inr (Or.inr (Or.inl ⟨h0,c,b,hk,up c hc,ups _ hb⟩)))
  ·exact Or.inr (Or.inr (Or.inr (Or.inr (Or.inl ⟨h0,Or.inl hk⟩))))
  ·exact Or.inr (Or.inr (Or.inr (Or.inr (Or.inl ⟨h0,Or.inr ⟨v,hk,up v hv⟩⟩))))
  ·exact Or.inr (Or.inr (Or.inr (Or.inr (Or.inr (Or.inl ⟨h0,v,hk,up v hv⟩)))))
  ·exact Or.inr (Or.inr (Or.inr (Or.inr (Or.inr (Or.inr ⟨h0,v,hk,up v hv⟩)))))
theorem gX{s:aZ}{l k:Nat}(hk:k≠0)(h:(s.found l k).kind=0):False:=by
 unfold aZ.found at h;split at h
 ·exact hk h
 ·rename_i h0;exact h0 h
theorem tM{f:aC}{name:List UInt8}:∀{fs:List aC},dM fs name=some f->fs[dA fs name]?=some f
 |[],h=>by simp[dM] at h
 |x::l,h=>by
  unfold dM dA at*;rw[List.find?_cons] at h;rw[List.findIdx_cons];cases hx:(x.text==name) with
  |true=>rw[hx] at h;simp at h;simp[h]
  |false=>
   rw[hx] at h;simp only[cond_false,List.getElem?_cons_succ];exact tM (fs:=l) h
def mI(fs:List aC)(alone:Bool)(d:Nat)(a:aC):Prop:=
 ∀sn,(aM fs alone d a ⟨sn,0,0⟩).kind=0->aM fs alone d a ⟨sn,0,0⟩=⟨sn,0,0⟩/\ExOk fs alone sn.reverse d a
theorem jJ{fs:List aC}{alone:Bool}{d:Nat}:∀(l:List aC) (sn:List (List UInt8)),(∀k∈l,mI fs alone d k)->(l.foldl (fun s k=>aM fs alone d k s) ⟨sn,0,0⟩).kind=0->
 l.foldl (fun s k=>aM fs alone d k s) ⟨sn,0,0⟩=⟨sn,0,0⟩/\∀k∈l,ExOk fs alone sn.reverse d k
 |[],sn,_,_=>⟨rfl,fun k hk=>by cases hk⟩
 |a::l,sn,h,hz=>by
  rw[aK_] at hz ⊢
  have h0:(aM fs alone d a ⟨sn,0,0⟩).kind=0:=z7 fun hne=>gQ (fun s k hs=>fF fs alone d k s hs) l _ hne hz
  obtain⟨h1,h2⟩:=h a (x9 ..) sn h0;rw[h1] at hz ⊢
  obtain⟨h3,h4⟩:=jJ l sn (fun k hk=>h k (r9 _ hk)) hz
  refine⟨h3,fun k hk=>?_⟩
  rcases p8.1 hk with rfl|hk
  ·exact h2
  ·exact h4 k hk
theorem fL{fs:List aC}{alone:Bool}{d:Nat}{n:aC}{s:aZ}(h1:n.op≠[118,97,114])(h2:n.op≠[98,108,111,99,107]):aM fs alone (d+1) n s=n.kids.foldl (fun s k=>aM fs alone d k s) (bZ fs alone s n):=by
 rw[aM];rw[if_neg (by simpa using h1)]
 simp only;rw[if_neg (by simpa using h2)]
theorem look_plain{fs:List aC}{alone:Bool}{n:aC}{s:aZ}(h1:n.op≠[115,101,116])(h2:n.op≠[110,97,109,101])(h3:n.op≠[99,97,108,108]):bZ fs alone s n=s:=by
 unfold bZ;rw[if_neg (by simp[h1,h2]),if_neg (by simpa using h3)]
theorem oE{fs:List aC}{alone:Bool}(hfs:∀f∈fs,f.kids≠[])(hal:alone=true->fs=[]):∀(d:Nat) (a:aC),dD a->eZ d a->mI fs alone d a
 |0,_,_,h=>h.elim
 |d+1,a,ha,hd=>by
  intro sn hz
  have two:∀(l r:aC),a.kids=[l,r]->dD l->dD r->∀k∈a.kids,mI fs alone d k:=fun l r hk hl hr k hk'=>by
   have hdk:=hd k hk';rw[hk] at hk';rcases p8.1 hk' with rfl|hk'
   ·exact oE hfs hal d _ hl hdk
   ·obtain rfl:=o8.1 hk';exact oE hfs hal d _ hr hdk
  have hbl:a.op≠[118,97,114]/\a.op≠[98,108,111,99,107]:=by
   cases ha with
   |leaf _ h=>rcases h with h|h|h|h<;>rw[h]<;>decide
   |many _ h=>rcases h with h|h<;>rw[h]<;>decide
   |one _ l h=>rcases h with h|h<;>rw[h]<;>decide
   |two _ l r h=>
    rcases h with h|h
    ·rw[h];decide
    ·exact⟨fun e=>by rw[e] at h;exact h (by decide),fun e=>by rw[e] at h;exact h (by decide)⟩
  rw[fL hbl.1 hbl.2] at hz ⊢
  have hl0:(bZ fs alone ⟨sn,0,0⟩ a).kind=0:=z7 fun hne=>gQ (fun s k hs=>fF fs alone d k s hs) a.kids _ hne hz
  cases ha with
  |leaf _ h hk=>
   rw[hk] at hz ⊢
   simp only[a8_] at hz ⊢
   rcases h with h|h|h|h
   ·exact⟨look_plain (by rw[h];decide) (by rw[h];decide) (by rw[h];decide),Or.inl ⟨Or.inl h,hk⟩⟩
   ·exact⟨look_plain (by rw[h];decide) (by rw[h];decide) (by rw[h];decide),Or.inl ⟨Or.inr (Or.inl h),hk⟩⟩
   ·exact⟨look_plain (by rw[h];decide) (by rw[h];decide) (by rw[h];decide),Or.inl ⟨Or.inr (Or.inr h),hk⟩⟩
   ·unfold bZ at hl0 ⊢
    rw[if_pos (by simp[h])] at hl0 ⊢
    split at hl0
    ·rename_i hc;rw[if_pos hc];exact⟨rfl,Or.inr (Or.inl ⟨h,hk,by simpa using hc⟩)⟩
    ·exact(gX (by decide) hl0).elim
  |many _ h hk=>
   have hg:∀k∈a.kids,mI fs alone d k:=fun k hk'=>oE hfs hal d k (hk k hk') (hd k hk')
   rcases h with h|h
   ·rw[look_plain (by rw[h];decide) (by rw[h];decide) (by rw[h];decide)] at hz ⊢
    obtain⟨h1,h2⟩:=jJ a.kids sn hg hz;exact⟨h1,Or.inr (Or.inr (Or.inl ⟨h,h2⟩))⟩
   ·have e:bZ fs alone ⟨sn,0,0⟩ a=eF fs alone ⟨sn,0,0⟩ a:=by unfold bZ;rw[if_neg (by simp[h]),if_pos (by simp[h])]
    rw[e] at hz hl0 ⊢
    unfold eF at hz hl0 ⊢
    split at hl0
    ·exact(gX (by decide) hl0).elim
    rename_i hw;rw[if_neg hw] at hz ⊢
    split at hl0
    ·exact(gX (by decide) hl0).elim
    rename_i hw2;rw[if_neg hw2] at hz ⊢
    obtain⟨h1,h2⟩:=jJ a.kids sn hg hz;refine⟨h1,Or.inr (Or.inr (Or.inr (Or.inr (Or.inr (Or.inl ⟨h,h2,?_⟩)))))⟩;simp only[ne_eq,Decidable.not_not] at hw2;unfold lO at hw hw2;by_cases hlen:a.text=[108,101,110]
    ·rw[if_pos (by simp[hlen])] at hw2
     exact Or.inl ⟨hlen,by omega⟩
    rw[if_neg (by simp[hlen])] at hw hw2
    by_cases hread:a.text=[114,101,97,100]/\alone=false
    ·rw[if_pos (by simp[hread])] at hw2
     exact Or.inr (Or.inl ⟨hread.1,hread.2,by omega⟩)
    have hread':¬((a.text==[114,101,97,100] && !alone)=true):=by
     intro hh;simp at hh;exact hread hh
    rw[if_neg hread'] at hw hw2;cases hf:dM fs a.text with
    |none=>rw[hf] at hw;simp at hw
    |some f=>
     rw[hf] at hw hw2;simp only at hw hw2;have hmem:f∈fs:=av_ hf;have hne:=hfs f hmem;have hpos:0<f.kids.length:=aB_.2 hne
     have hal':alone=false:=by
      cases alone with
      |false=>rfl
      |true=>rw[hal rfl] at hmem;cases hmem
     refine Or.inr (Or.inr ⟨hlen,fun hr=>hread ⟨hr,hal'⟩,hal',?_⟩)
     unfold fO;rw[tM hf];simp;omega
  |one _ l h hk hl=>
   have hg:∀k∈a.kids,mI fs alone d k:=fun k hk'=>by
    have hdk:=hd k hk';rw[hk] at hk';obtain rfl:=o8.1 hk';exact oE hfs hal d _ hl hdk
   rw[look_plain (by rcases h with h|h<;>rw[h]<;>decide) (by rcases h with h|h<;>rw[h]<;>decide) (by rcases h with h|h<;>rw[h]<;>decide)] at hz ⊢
   obtain⟨h1,h2⟩:=jJ a.kids sn hg hz;exact⟨h1,Or.inr (Or.inr (Or.inr (Or.inr (Or.inl ⟨h,l,hk,h2 l (by rw[hk];simp)⟩))))⟩
  |two _ l r h hk hl hr=>
   have hp:bZ fs alone ⟨sn,0,0⟩ a=⟨sn,0,0⟩:=by
    rcases h with h|h
    ·exact look_plain (by rw[h];decide) (by rw[h];decide) (by rw[h];decide)
    ·exact look_plain (fun e=>by rw[e] at h;exact h (by decide)) (fun e=>by rw[e] at h;exact h (by decide)) (fun e=>by rw[e] at h;exact h (by decide))
   rw[hp] at hz ⊢
   obtain⟨h1,h2⟩:=jJ a.kids sn (two l r hk hl hr) hz;refine⟨h1,?_⟩;rcases h with h|h
   ·exact Or.inr (Or.inr (Or.inr (Or.inl ⟨h,l,r,hk,h2 l (by rw[hk];simp),h2 r (by rw[hk];simp)⟩)))
   ·exact Or.inr (Or.inr (Or.inr (Or.inr (Or.inr (Or.inr ⟨h,l,r,hk,h2 l (by rw[hk];simp),h2 r (by rw[hk];simp)⟩)))))
def rS(fs:List aC)(d:Nat)(a:aC):Prop:=
 ∀sn,sn.length+bT d a<=90000->(aM fs false d a ⟨sn,0,0⟩).kind=0->∃sn',aM fs false d a ⟨sn,0,0⟩=⟨sn',0,0⟩/\sn'.reverse=cN sn.reverse a/\dP fs d sn.reverse a/\sn'.length<=sn.length+bT d a/\sn=sn'.take sn.length
theorem xK{fs:List aC}{d:Nat}:∀(l:List aC) (sn:List (List UInt8)),(∀k∈l,rS fs d k)->sn.length+(l.map (bT d)).sum<=90000->(l.foldl (fun s k=>aM fs false d k s) ⟨sn,0,0⟩).kind=0->
 ∃sn',l.foldl (fun s k=>aM fs false d k s) ⟨sn,0,0⟩=⟨sn',0,0⟩/\StsOk (dP fs d) sn.reverse l/\sn'.length<=sn.length+(l.map (bT d)).sum/\sn=sn'.take sn.length
 |[],sn,_,_,_=>⟨sn,rfl,trivial,by simp,by simp⟩
 |a::l,sn,h,hw,hz=>by
  rw[aK_] at hz ⊢
  simp only[s5,s6] at hw ⊢
  have h0:(aM fs false d a ⟨sn,0,0⟩).kind=0:=z7 fun hne=>gQ (fun s k hs=>fF fs false d k s hs) l _ hne hz
  obtain⟨s1,h1,h2,h3,h4,h5⟩:=h a (x9 ..) sn (by omega) h0
  rw[h1] at hz ⊢
  obtain⟨s2,h6,h7,h8,h9⟩:=xK l s1 (fun k hk=>h k (r9 _ hk)) (by omega) hz
  refine⟨s2,h6,⟨h3,by rw[<-h2];exact h7⟩,by omega,?_⟩
  have hle:sn.length<=s1.length:=by have:=congrArg List.length h5;simp only[an_] at this;omega
  have e:s1.take sn.length=s2.take sn.length:=by
   conv=>lhs;rw[h9]
   rw[aS_];congr 1;omega
  rw[<-e];exact h5
theorem ED{fs:List aC}{d:Nat}{b:aC}{sn sn':List (List UInt8)}(hb:b.op=[98,108,111,99,107])(h:b.kids.foldl (fun s k=>aM fs false d k s) ⟨sn,0,0⟩=⟨sn',0,0⟩)(hs:sn=sn'.take sn.length):aM fs false (d+1) b ⟨sn,0,0⟩=⟨sn,0,0⟩:=by
 rw[aM,if_neg (by simp[hb])]
 have:bZ fs false ⟨sn,0,0⟩ b=⟨sn,0,0⟩:=look_plain (by rw[hb];decide) (by rw[hb];decide) (by rw[hb];decide)
 simp only[this,h];rw[if_pos (by simp[hb])]
 congr 1
 exact hs.symm
theorem sW{fs:List aC}{d:Nat}{b:aC}{sn:List (List UInt8)}(hb:b.op=[98,108,111,99,107])(h:(aM fs false (d+1) b ⟨sn,0,0⟩).kind=0):(b.kids.foldl (fun s k=>aM fs false d k s) ⟨sn,0,0⟩).kind=0:=by
 rw[aM,if_neg (by simp[hb])] at h
 have:bZ fs false ⟨sn,0,0⟩ b=⟨sn,0,0⟩:=look_plain (by rw[hb];decide) (by rw[hb];decide) (by rw[hb];decide)
 simp only[this] at h;rw[if_pos (by simp[hb])] at h
 exact h
theorem jT{fs:List aC}{d:Nat}{b:aC}{sn:List (List UInt8)}(hb:b.op=[98,108,111,99,107])(hg:∀k∈b.kids,rS fs d k)(hw:sn.length+bT (d+1) b<=90000)(h:(aM fs false (d+1) b ⟨sn,0,0⟩).kind=0):
 aM fs false (d+1) b ⟨sn,0,0⟩=⟨sn,0,0⟩/\StsOk (dP fs d) sn.reverse b.kids:=by
 rw[bT] at hw;obtain⟨s',h1,h2,h3,h4⟩:=xK b.kids sn hg (by omega) (sW hb h)
 exact⟨ED hb h1 h4,h2⟩
theorem MP{fs:List aC}{d:Nat}{a x y:aC}{s:aZ}(hk:a.kids=[x,y])(h1:a.op≠[118,97,114])(h2:a.op≠[98,108,111,99,107])(hl:bZ fs false s a=s):aM fs false (d+1) a s=aM fs false d y (aM fs false d x s):=by
 rw[fL h1 h2,hl,hk];rfl
theorem C8{fs:List aC}{d:Nat}{a x y z:aC}{s:aZ}(hk:a.kids=[x,y,z])(h1:a.op≠[118,97,114])(h2:a.op≠[98,108,111,99,107])(hl:bZ fs false s a=s):aM fs false (d+1) a s=aM fs false d z (aM fs false d y (aM fs false d x s)):=by
 rw[fL h1 h2,hl,hk];rfl
theorem GN{d:Nat}{a k:aC}(h:k∈a.kids):bT d k+1<=bT (d+1) a:=by
 rw[bT]
 have:∀l:List aC,k∈l->bT d k<=(l.map (bT d)).sum:=by
  intro l;induction l with
  |nil=>intro h;cases h
  |cons x l ih=>
   intro h;simp only[s5,s6];rcases p8.1 h with rfl|h
   ·omega
   ·have:=ih h;omega
 have:=this _ h;omega
theorem GS{fs:List aC}(hfs:∀f∈fs,f.kids≠[]):∀(d:Nat) (a:aC),gH a->eZ d a->rS fs d a
 |0,_,_,h=>h.elim
 |1,a,ha,hd=>by
  have hno:∀k∈a.kids,False:=fun k hk=>hd k hk
  intro sn hw hz;cases ha with
  |var _ t v h hk hv=>exact(hno t (by rw[hk];simp)).elim
  |set _ h hn hk=>cases hkk:a.kids with|nil=>exact(hn hkk).elim|cons x l=>exact(hno x (by rw[hkk];simp)).elim
  |if2 _ c t h hk=>exact(hno c (by rw[hk];simp)).elim
  |if3 _ c t x h hk=>exact(hno c (by rw[hk];simp)).elim
  |whl _ c t h hk=>exact(hno c (by rw[hk];simp)).elim
  |ret1 _ v h hk=>exact(hno v (by rw[hk];simp)).elim
  |print _ v h hk=>exact(hno v (by rw[hk];simp)).elim
  |call _ c h hk=>exact(hno c (by rw[hk];simp)).elim
  |ret0 _ h hk=>
   have hl:bZ fs false ⟨sn,0,0⟩ a=⟨sn,0,0⟩:=look_plain (by rw[h];decide) (by rw[h];decide) (by rw[h];decide)
   refine⟨sn,by rw[fL (by rw[h];decide) (by rw[h];decide),hl,hk];rfl,by unfold cN;rw[if_neg (by rw[h];decide)],?_,by omega,by simp⟩
   exact Or.inr (Or.inr (Or.inr (Or.inr (Or.inl ⟨h,Or.inl hk⟩))))
 |d+2,a,ha,hd=>by
  intro sn hw hz;have hex:∀k,k∈a.kids->dD k->mI fs false (d+1) k:=fun k hk he=>oE hfs (fun h=>by cases h) (d+1) k he (hd k hk)
  have hbk:∀k,k∈a.kids->(∀x∈k.kids,gH x)->∀x∈k.kids,rS fs d x:=fun k hk hs x hx=>GS hfs d x (hs x hx) (hd k hk x hx)
  have hwk:∀k,k∈a.kids->sn.length+bT (d+1) k<=90000:=fun k hk=>by have:bT (d+1) k+1<=bT (d+2) a:=GN (d:=d+1) hk;omega
  have noseen:a.op≠[118,97,114]->sn.reverse=cN sn.reverse a:=fun h=>by unfold cN;rw[if_neg h]
  cases ha with
  |var _ t v h hk hv=>
   have e:aM fs false (d+2) a ⟨sn,0,0⟩={ aM fs false (d+1) v (declaresL ⟨sn,0,0⟩ t) with seen:=(aM fs false (d+1) v (declaresL ⟨sn,0,0⟩ t)).seen++[t.text] }:=by
    rw[aM,if_pos (by simp[h]),hk]
   rw[e] at hz ⊢
   have hd0:(declaresL ⟨sn,0,0⟩ t).kind=0:=z7 fun hne=>fF fs false (d+1) v _ hne hz
   obtain⟨hd1,hns⟩:declaresL ⟨sn,0,0⟩ t=⟨sn,0,0⟩/\t.text∉sn:=by
    unfold declaresL at hd0 ⊢
    split at hd0
    ·exact(gX (by decide) hd0).elim
    ·rename_i hh;rw[if_neg hh];simp at hh;exact⟨rfl,hh.2⟩
   rw[hd1] at hz ⊢
   obtain⟨h1,h2⟩:=hex v (by rw[hk];simp) hv sn hz
   rw[h1];have hwa:bT (d+1) v+1<=bT (d+2) a:=GN (d:=d+1) (a:=a) (k:=v) (by rw[hk];simp)
   refine⟨sn++[t.text],rfl,?_,Or.inl ⟨h,by simp;omega,t,v,hk,h2,by simpa using hns⟩,by simp;omega,by simp⟩
   unfold cN;rw[if_pos h,hk];simp
  |set _ h hn hk=>
   rw[fL (by rw[h];decide) (by rw[h];decide)] at hz ⊢
   have hl0:(bZ fs false ⟨sn,0,0⟩ a).kind=0:=z7 fun hne=>gQ (fun s k hs=>fF fs false (d+1) k s hs) a.kids _ hne hz
   have hl:bZ fs false ⟨sn,0,0⟩ a=⟨sn,0,0⟩/\a.text∈sn:=by
    unfold bZ at hl0 ⊢
    rw[if_pos (by simp[h])] at hl0 ⊢
    split at hl0
    ·rename_i hc;rw[if_pos hc];exact⟨rfl,by simpa using hc⟩
    ·exact(gX (by decide) hl0).elim
   rw[hl.1] at hz ⊢
   obtain⟨h1,h2⟩:=jJ a.kids sn (fun k hk'=>hex k hk' (hk k hk')) hz
   exact⟨sn,h1,noseen (by rw[h];decide),Or.inr (Or.inl ⟨h,by simpa using hl.2,hn,h2⟩),by omega,by simp⟩
  |if2 _ c t h hk hc ht htk=>
   have hl:bZ fs false ⟨sn,0,0⟩ a=⟨sn,0,0⟩:=look_plain (by rw[h];decide) (by rw[h];decide) (by rw[h];decide)
   rw[MP hk (by rw[h];decide) (by rw[h];decide) hl] at hz ⊢
   have h0:(aM fs false (d+1) c ⟨sn,0,0⟩).kind=0:=z7 fun hne=>fF fs false (d+1) t _ hne hz
   obtain⟨h1,h2⟩:=hex c (by rw[hk];simp) hc sn h0
   rw[h1] at hz ⊢
   obtain⟨h3,h4⟩:=jT ht (hbk t (by rw[hk];simp) htk) (hwk t (by rw[hk];simp)) hz
   exact⟨sn,h3,noseen (by rw[h];decide),Or.inr (Or.inr (Or.inl ⟨h,c,t,Or.inl hk,h2,h4.up fun s a h=>h.up (by omega)⟩)),by omega,by simp⟩
  |if3 _ c t x h hk hc ht htk hx hxk=>
   have hl:bZ fs false ⟨sn,0,0⟩ a=⟨sn,0,0⟩:=look_plain (by rw[h];decide) (by rw[h];decide) (by rw[h];decide)
   rw[C8 hk (by rw[h];decide) (by rw[h];decide) hl] at hz ⊢
   have h00:(aM fs false (d+1) t (aM fs false (d+1) c ⟨sn,0,0⟩)).kind=0:=z7 fun hne=>fF fs false (d+1) x _ hne hz
   have h0:(aM fs false (d+1) c ⟨sn,0,0⟩).kind=0:=z7 fun hne=>fF fs false (d+1) t _ hne h00
   obtain⟨h1,h2⟩:=hex c (by rw[hk];simp) hc sn h0
   rw[h1] at hz h00 ⊢
   obtain⟨h3,h4⟩:=jT ht (hbk t (by rw[hk];simp) htk) (hwk t (by rw[hk];simp)) h00
   rw[h3] at hz ⊢
   obtain⟨h5,h6⟩:=jT hx (hbk x (by rw[hk];simp) hxk) (hwk x (by rw[hk];simp)) hz
   exact⟨sn,h5,noseen (by rw[h];decide),Or.inr (Or.inr (Or.inl ⟨h,c,t,Or.inr ⟨x,hk,h6.up fun s a h=>h.up (by omega)⟩,h2,h4.up fun s a h=>h.up (by omega)⟩)),by omega,by simp⟩
  |whl _ c t h hk hc ht htk=>
   have hl:bZ fs false ⟨sn,0,0⟩ a=⟨sn,0,0⟩:=look_plain (by rw[h];decide) (by rw[h];decide) (by rw[h];decide)
   rw[MP hk (by rw[h];decide) (by rw[h];decide) hl] at hz ⊢
   have h0:(aM fs false (d+1) c ⟨sn,0,0⟩).kind=0:=z7 fun hne=>fF fs false (d+1) t _ hne hz
   obtain⟨h1,h2⟩:=hex c (by rw[hk];simp) hc sn h0
   rw[h1] at hz ⊢
   obtain⟨h3,h4⟩:=jT ht (hbk t (by rw[hk];simp) htk) (hwk t (by rw[hk];simp)) hz
   exact⟨sn,h3,noseen (by rw[h];decide),Or.inr (Or.inr (Or.inr (Or.inl ⟨h,c,t,hk,h2,h4.up fun s a h=>h.up (by omega)⟩))),by omega,by simp⟩
  |ret0 _ h hk=>
   have hl:bZ fs false ⟨sn,0,0⟩ a=⟨sn,0,0⟩:=look_plain (by rw[h];decide) (by rw[h];decide) (by rw[h];decide)
   refine⟨sn,by rw[fL (by rw[h];decide) (by rw[h];decide),hl,hk];rfl,noseen (by rw[h];decide),?_,by omega,by simp⟩
   exact Or.inr (Or.inr (Or.inr (Or.inr (Or.inl ⟨h,Or.inl hk⟩))))
  |ret1 _ v h hk hv=>
   have hl:bZ fs false ⟨sn,0,0⟩ a=⟨sn,0,0⟩:=look_plain (by rw[h];decide) (by rw[h];decide) (by rw[h];decide)
   rw[fL (by rw[h];decide) (by rw[h];decide),hl,hk] at hz ⊢
   simp only[aK_,a8_] at hz ⊢
   obtain⟨h1,h2⟩:=hex v (by rw[hk];simp) hv sn hz
   exact⟨sn,h1,noseen (by rw[h];decide),Or.inr (Or.inr (Or.inr (Or.inr (Or.inl ⟨h,Or.inr ⟨v,hk,h2⟩⟩)))),by omega,by simp⟩
  |print _ v h hk hv=>
   have hl:bZ fs false ⟨sn,0,0⟩ a=⟨sn,0,0⟩:=look_plain (by rw[h];decide) (by rw[h];decide) (by rw[h];decide)
   rw[fL (by rw[h];decide) (by rw[h];decide),hl,hk] at hz ⊢
   simp only[aK_,a8_] at hz ⊢
   obtain⟨h1,h2⟩:=hex v (by rw[hk];simp) hv sn hz
   exact⟨sn,h1,noseen (by rw[h];decide),Or.inr (Or.inr (Or.inr (Or.inr (Or.inr (Or.inl ⟨h,v,hk,h2⟩))))),by omega,by simp⟩
  |call _ v h hk hv=>
   have hl:bZ fs false ⟨sn,0,0⟩ a=⟨sn,0,0⟩:=look_plain (by rw[h];decide) (by rw[h];decide) (by rw[h];decide)
   rw[fL (by rw[h];decide) (by rw[h];decide),hl,hk] at hz ⊢
   simp only[aK_,a8_] at hz ⊢
   obtain⟨h1,h2⟩:=hex v (by rw[hk];simp) hv sn hz
   exact⟨sn,h1,noseen (by rw[h];decide),Or.inr (Or.inr (Or.inr (Or.inr (Or.inr (Or.inr ⟨h,v,hk,h2⟩))))),by omega,by simp⟩
def fV:aC->Nat
 |⟨_,_,_,kids⟩=>1+(kids.attach.map fun ⟨k,_⟩=>fV k).sum
theorem kI(a:aC):fV a=1+(a.kids.map fV).sum:=by
 obtain⟨op,line,text,kids⟩:=a;rw[fV];congr 2
 simp
theorem xT:∀(d:Nat) (a:aC),eZ d a->fV a<=bT d a
 |0,_,h=>h.elim
 |d+1,a,h=>by
  rw[kI,bT]
  have:∀l:List aC,(∀k∈l,fV k<=bT d k)->(l.map fV).sum<=(l.map (bT d)).sum:=by
   intro l;induction l with
   |nil=>intro _;simp
   |cons x l ih=>
    intro h;simp only[s5,s6];have h1:=h x (x9 ..);have h2:=ih fun k hk=>h k (r9 _ hk)
    omega
  have:=this a.kids fun k hk=>xT d k (h k hk)
  omega
theorem qC{c:aC->Nat->List aH}{m:Nat}(h:∀a p,(c a p).length<=m*fV a):∀(l:List aC) (p:Nat),(bP c l p).length<=m*(l.map fV).sum
 |[],_=>by simp[bP]
 |a::l,p=>by
  simp only[bP,m6,s5,s6,Nat.mul_add];have h1:=h a p;have h2:=qC h l (p+(c a p).length);omega
theorem mA(fs:List aC)(seen:List (List UInt8)):∀(d:Nat) (a:aC) (p:Nat),(aG fs seen d a p).length<=2*fV a
 |0,_,_=>by simp[aG]
 |d+1,a,p=>by
  have hk:=qC (m:=2) (fun a p=>mA fs seen d a p) a.kids p
  have hn:=kI a;have h1:=fun l q=>mA fs seen d l q
  rw[aG];simp only;generalize bP (aG fs seen d) a.kids p=ks at hk ⊢
  generalize (if (a.text==[108,101,110])=true then aH.length else if (a.text==[114,101,97,100])=true then aH.read else aH.call (dA fs a.text) a.kids.length)=last
  generalize aG fs seen d=E at*;have one:∀i:aH,(ks++[i]).length<=2*fV a:=fun i=>by simp only[m6,n8,p6];omega
  have lone:∀i:aH,([i]:List aH).length<=2*fV a:=fun i=>by simp only[n8,p6];omega
  by_cases c1:(a.op==[48])=true
  ·rw[if_pos c1];exact lone _
  rw[if_neg c1];by_cases c2:(a.op==[115])=true
  ·rw[if_pos c2];exact lone _
  rw[if_neg c2];by_cases c3:(a.op==[98,111,111,108])=true
  ·rw[if_pos c3];exact lone _
  rw[if_neg c3];by_cases c4:(a.op==[110,97,109,101])=true
  ·rw[if_pos c4];exact lone _
  rw[if_neg c4];by_cases c5:(a.op==[108,105,115,116])=true
  ·rw[if_pos c5];exact one _
  rw[if_neg c5];by_cases c6:(a.op==[105,110,100,101,120])=true
  ·rw[if_pos c6];exact one _
  rw[if_neg c6];by_cases c7:(a.op==[45,120])=true
  ·rw[if_pos c7];exact one _
  rw[if_neg c7];by_cases c8:(a.op==[33,120])=true
  ·rw[if_pos c8];exact one _
  rw[if_neg c8];by_cases c9:(a.op==[99,97,108,108])=true
  ·rw[if_pos c9];exact one _
  rw[if_neg c9];by_cases c10:(a.op==[38,38] || a.op==[124,124])=true
  ·rw[if_pos c10];split
   ·rename_i l r hkk;have h2:=h1 l p;have h3:=h1 r (p+(E l p).length+1);rw[hkk] at hn;simp only[s5,ah_,s6,ak_] at hn;simp only[m6,n8,p6];omega
   ·simp
  ·rw[if_neg c10];exact one _
theorem pW{c:List (List UInt8)->aC->Nat->List aH × List (List UInt8)}{m:Nat}(h:∀s a p,(c s a p).1.length<=m*fV a):∀(l:List aC) (s:List (List UInt8)) (p:Nat),(bG c s l p).length<=m*(l.map fV).sum
 |[],_,_=>by simp[bG]
 |a::l,s,p=>by
  simp only[bG,m6,s5,s6,Nat.mul_add];have h1:=h s a p;have h2:=pW h l (c s a p).2 (p+(c s a p).1.length);omega
theorem BO(fs:List aC):∀(d:Nat) (seen:List (List UInt8)) (a:aC) (p:Nat),(bB fs d seen a p).1.length<=3*fV a
 |0,_,_,_=>by simp[bB]
 |d+1,seen,a,p=>by
  have hn:=kI a;have hs:=fun (b:aC) q=>pW (m:=3) (fun s a p=>BO fs d s a p) b.kids seen q
  have he:=fun (x:aC) q=>mA fs seen d x q
  have hb:=fun (b:aC)=>kI b
  rw[bB];simp only;repeat' split
  all_goals try simp only[m6,n8,p6]
  all_goals try omega
  ·rename_i t v hkk;have h1:=he v (p+1);rw[hkk] at hn;simp only[s5,ah_,s6,ak_] at hn;omega
  ·have h1:=qC (m:=2) (fun a p=>mA fs seen d a p) a.kids (p+1)
   omega
  ·rename_i c t _ x hkk;have h1:=he c (p+1);have h2:=hs t (p+1+(aG fs seen d c (p+1)).length+1);have h3:=hb t;have h4:=hb x;have h5:=hs x (p+1+(aG fs seen d c (p+1)).length+1+(bG (bB fs d) seen t.kids (p+1+(aG fs seen d c (p+1)).length+1)).length+1);rw[hkk] at hn;simp only[s5,ah_,s6,ak_] at hn;omega
  ·rename_i c t _ hkk _ _;have h1:=he c (p+1);have h2:=hs t (p+1+(aG fs seen d c (p+1)).length+1);have h3:=hb t;rw[hkk] at hn;simp only[s5,s6] at hn;omega
  ·rename_i c t hkk;have h1:=he c (p+1);have h2:=hs t (p+1+(aG fs seen d c (p+1)).length+1);have h3:=hb t;rw[hkk] at hn;simp only[s5,ah_,s6,ak_] at hn;omega
  all_goals
   rename_i v hkk;have h1:=he v (p+1);rw[hkk] at hn;simp only[s5,ah_,s6,ak_] at hn;omega
theorem nE(fs:List aC)(d:Nat)(s:aZ)(k:aC)(h:s.kind≠0):(eK fs d s k).kind≠0:=by
 unfold eK;split
 ·exact pK s k h
 ·exact fF fs false d k s h
theorem QC(fs:List aC)(d:Nat)(s:aZ)(n:aC)(first:Bool)(h:s.kind≠0):(fW fs d s n first).kind≠0:=by
 unfold fW;refine gQ (fun s k hs=>nE fs d s k hs) _ _ ?_
 show (if _ then _ else _:aZ).kind≠0
 split
 ·exact oU _ _ _ h
 ·exact h
theorem DZ(fs:List aC)(d:Nat):∀(rest pre:List aC) (s:aZ),s.kind≠0->(eW fs d pre rest s).kind≠0
 |[],_,_,h=>h
 |n::rest,pre,s,h=>DZ fs d rest (pre++[n]) _ (QC fs d s n _ h)
theorem qL{fs:List aC}{d:Nat}:∀(ps:List aC) (sn:List (List UInt8)),(∀x∈ps,x.op=[112,97,114,97,109])->(ps.foldl (eK fs d) ⟨sn,0,0⟩).kind=0->ps.foldl (eK fs d) ⟨sn,0,0⟩=⟨sn++ps.map (·.text),0,0⟩/\(sn.Nodup->(sn++ps.map (·.text)).Nodup)
 |[],sn,_,_=>by simp
 |a::l,sn,h,hz=>by
  rw[aK_] at hz ⊢
  have hp:eK fs d ⟨sn,0,0⟩ a={ declaresL ⟨sn,0,0⟩ a with seen:=(declaresL ⟨sn,0,0⟩ a).seen++[a.text] }:=by unfold eK;rw[if_pos (by simp[h a (x9 ..)])]
  have h0:(eK fs d ⟨sn,0,0⟩ a).kind=0:=z7 fun hne=>gQ (fun s k hs=>nE fs d s k hs) l _ hne hz
  have hd0:(declaresL ⟨sn,0,0⟩ a).kind=0:=by rw[hp] at h0;exact h0
  obtain⟨hd1,hns⟩:declaresL ⟨sn,0,0⟩ a=⟨sn,0,0⟩/\a.text∉sn:=by
   unfold declaresL at hd0 ⊢
   split at hd0
   ·exact(gX (by decide) hd0).elim
   ·rename_i hh;rw[if_neg hh];simp at hh;exact⟨rfl,hh.2⟩
  rw[hp,hd1] at hz ⊢
  obtain⟨g1,g2⟩:=qL l (sn++[a.text]) (fun x hx=>h x (r9 _ hx)) hz
  rw[g1];have e:sn++[a.text]++l.map (·.text)=sn++(a::l).map (·.text):=by simp
  rw[e] at g2 ⊢
  refine⟨rfl,fun hn=>g2 ?_⟩
  rw[ai_];exact⟨hn,by simp,fun x hx y hy=>by rw[o8.1 hy];exact fun e=>hns (e▸hx)⟩
theorem PI{fs:List aC}(hfs:∀f∈fs,rD f){d:Nat}{f:aC}(hf:rD f)(hd:eZ (d+3) f)(hw:∀e,bT e f<=2001){sn:List (List UInt8)}{first:Bool}(hz:(fW fs (d+2) ⟨sn,0,0⟩ f first).kind=0):jV fs (d+2) f/\∃s',fW fs (d+2) ⟨sn,0,0⟩ f first=⟨s',0,0⟩:=by
 obtain⟨ps,b,hk,hps,hb,_⟩:=hf.kids;have hne:∀f∈fs,f.kids≠[]:=fun f hf=>by obtain⟨ps,b,hk,_⟩:=(hfs f hf).kids;rw[hk];simp
 unfold fW at hz ⊢
 have h0:({ (if fQ f.text || !first then aZ.found ⟨sn,0,0⟩ f.line 6 else ⟨sn,0,0⟩) with seen:=[] }:aZ).kind=0:=z7 fun hne=>gQ (fun s k hs=>nE fs (d+2) s k hs) f.kids _ hne hz
 have hs0:({ (if fQ f.text || !first then aZ.found ⟨sn,0,0⟩ f.line 6 else ⟨sn,0,0⟩) with seen:=[] }:aZ)=⟨[],0,0⟩:=by
  split at h0
  ·exact(gX (by decide) h0).elim
  ·rename_i hh;rw[if_neg hh]
 rw[hs0,hk,List.foldl_append,aK_,a8_] at hz ⊢
 have hp0:(ps.foldl (eK fs (d+2)) ⟨[],0,0⟩).kind=0:=z7 fun hne=>nE fs (d+2) _ b hne hz
 obtain⟨hpg,hnd⟩:=qL ps [] hps hp0;have hnd:=hnd List.nodup_nil;rw[ar_] at hpg hnd;rw[hpg] at hz ⊢
 have hpb:eK fs (d+2) ⟨ps.map (·.text),0,0⟩ b=aM fs false (d+2) b ⟨ps.map (·.text),0,0⟩:=by unfold eK;rw[if_neg (by simp[hb.op])]
 rw[hpb] at hz ⊢
 have hbd:eZ (d+2) b:=hd b (by rw[hk];simp)
 have hwf:=hw (d+3);rw[bT,hk] at hwf
 have hpl:∀l:List aC,l.length<=(l.map (bT (d+2))).sum:=by
  intro l;induction l with
  |nil=>simp
  |cons x l ih=>simp only[s5,s6,n8,bT];simp only[bT] at ih;omega
 have:=hpl ps;simp only[af_,aJ_,s5,ah_,s6,ak_] at hwf;obtain⟨h1,h2⟩:=jT hb.op (fun k hk'=>GS hne (d+1) k (hb.kids k hk') (hbd k hk')) (by show (ps.map (·.text)).length+bT (d+2) b<=_;simp only[List.length_map];omega) hz
 refine⟨⟨⟨ps,b,hk,h2.up fun s a h=>h.up (by omega),hnd⟩,?_⟩,_,h1⟩
 have hn:=xT _ _ hd;have hw3:=hw (d+3);have hl:(bG (bB fs (d+2)) (ps.map (·.text)).reverse b.kids 0).length<=3*(b.kids.map fV).sum:=pW (m:=3) (fun s a p=>BO fs (d+2) s a p) b.kids (ps.map (·.text)).reverse 0
 have hnf:=kI f;rw[hk] at hnf;have hnb:=kI b;simp only[af_,aJ_,s5,ah_,s6,ak_] at hnf;have hc:(fJ fs (d+2) f).code.length=(bG (bB fs (d+2)) (ps.map (·.text)).reverse b.kids 0).length+2:=by simp[fJ,hk]
 omega
theorem yF{fs:List aC}(hfs:∀f∈fs,rD f){d:Nat}:∀(rest pre:List aC) (sn:List (List UInt8)),(∀f∈rest,f∈fs/\eZ (d+3) f/\∀e,bT e f<=2001)->(eW fs (d+2) pre rest ⟨sn,0,0⟩).kind=0->∀f∈rest,jV fs (d+2) f
 |[],_,_,_,_,f,hf=>by cases hf
 |n::rest,pre,sn,h,hz,f,hf=>by
  rw[eW] at hz;have h0:(fW fs (d+2) ⟨sn,0,0⟩ n (dM pre n.text).isNone).kind=0:=z7 fun hne=>DZ fs (d+2) rest _ _ hne hz
  obtain⟨h1,h2,h3⟩:=h n (x9 ..);obtain⟨g1,s',g2⟩:=PI hfs (hfs n h1) h2 h3 h0;rw[g2] at hz;rcases p8.1 hf with rfl|hf
  ·exact g1
  ·exact yF hfs rest (pre++[n]) s' (fun f hf=>h f (r9 _ hf)) hz f hf
theorem GM{e:Nat}{f:aC}:∀{l:List aC},f∈l->bT e f<=(l.map (bT e)).sum
 |x::l,h=>by
  simp only[s5,s6];rcases p8.1 h with rfl|h
  ·omega
  ·have:=GM (e:=e) h;omega
theorem FineL.mem{m:Nat}{l:List aC}{f:aC}(h:FineL m l)(hf:f∈l):FineA m f:=fun e=>⟨p7 (GM hf) (h e).1,(h e).2 f hf⟩
theorem KG{l:List UInt8}{ks:List aC}(hp:cX l=.ok ks)(hr:dL l=(0,0)):(∀f∈ks,jV ks 2001 f)/\fO ks (dA ks [109,97,105,110])=some 0:=by
 unfold dL at hr;rw[hp] at hr;simp only at hr;unfold kJ at hr;have hS:=uO hp;have hF:=kR hp;have hone:∀f∈ks,FineA 2001 f:=fun f hf=>hF.mem hf
 split at hr
 ·cases hr
 rename_i m hm;split at hr
 ·cases hr
 rename_i hmk;have hz:(eW ks 2001 [] ks ⟨[],0,0⟩).kind=0:=by simp only[Prod.mk.injEq] at hr;exact hr.1
 refine⟨fun f hf=>yF (d:=1999) hS ks [] [] (fun f hf=>⟨hf,?_,fun e=>((hone f hf) e).1⟩) hz f hf,?_⟩
 ·have:=nP 2002 f ((hone f hf).le (by omega))
  exact this
 ·unfold fO;rw[tM hm];obtain⟨ps,b,hk,_⟩:=(hS m (av_ hm)).kids;have:m.kids.length=ps.length+1:=by rw[hk];simp
  simp;omega
theorem FineL.len{m:Nat}{l:List aC}(h:FineL m l):l.length<=m:=by
 have h1:=(h 1).1
 have:∀l:List aC,l.length<=(l.map (bT 1)).sum:=by
  intro l;induction l with
  |nil=>simp
  |cons x l ih=>simp only[s5,s6,n8];have:1<=bT 1 x:=by simp[bT]
                omega
 exact p7 (this l) h1
theorem FineA.kids{m:Nat}{a:aC}(h:FineA m a):FineL m a.kids:=fun e=>by
 have h1:=(h (e+1)).1;simp only[bT] at h1;exact⟨by omega,(h (e+1)).2.2⟩
theorem xV{a:aC}(h:a.op≠[115])(hk:a.kids=[]):∀d,pN d a
 |0=>trivial
 |d+1=>⟨fun e=>absurd e h,by simp[hk],fun k h=>by simp[hk] at h⟩
theorem jG{m:Nat}(hm:m<=1000000):∀(d:Nat) (a:aC),FineA m a->dD a->pN d a
 |0,_,_,_=>trivial
 |d+1,a,hf,he=>by
  refine⟨fun e=>?_,p7 hf.kids.len hm,fun k hk=>jG hm d k (hf.kids.mem hk) ?_⟩
  ·cases he with
   |leaf _ h hk ht=>exact ht e
   |many _ h hk=>rw[e] at h;exact absurd h (by decide)
   |one _ l h hk hl=>rw[e] at h;exact absurd h (by decide)
   |two _ l r h hk hl hr=>rw[e] at h;exact absurd h (by decide)
  ·cases he with
   |leaf _ h hk' ht=>rw[hk'] at hk;cases hk
   |many _ h hk'=>exact hk' k hk
   |one _ l h hk' hl=>rw[hk',o8] at hk;rw[hk];exact hl
   |two _ l r h hk' hl hr=>
    rw[hk'] at hk;rcases p8.1 hk with rfl|hk
    ·exact hl
    ·rw[o8.1 hk];exact hr
theorem IF{m:Nat}(hm:m<=1000000):∀(d:Nat),(∀a,FineA m a->gH a->pN d a)/\∀t,FineA m t->t.op=[98,108,111,99,107]->(∀k∈t.kids,gH k)->pN d t
 |0=>⟨fun _ _ _=>trivial,fun _ _ _ _=>trivial⟩
 |d+1=>by
  obtain⟨h1,h2⟩:=IF hm d;refine⟨fun a hf hs=>⟨fun e=>?_,p7 hf.kids.len hm,fun k hk=>?_⟩,fun t hf ho hk=>⟨fun e=>?_,p7 hf.kids.len hm,fun k hk'=>h1 k (hf.kids.mem hk') (hk k hk')⟩⟩
  ·cases hs<;>rename_i h _<;>simp_all
  ·have hfk:=hf.kids.mem hk;cases hs with
   |var _ t v h hk' hv ht=>
    rw[hk'] at hk;rcases p8.1 hk with rfl|hk
    ·exact xV (by rw[ht.1];decide) ht.2 d
    ·obtain rfl:=o8.1 hk;exact jG hm d _ hfk hv
   |set _ h hn hk'=>exact jG hm d k hfk (hk' k hk)
   |if2 _ c t h hk' hc ht htk=>
    rw[hk'] at hk;rcases p8.1 hk with rfl|hk
    ·exact jG hm d _ hfk hc
    ·obtain rfl:=o8.1 hk;exact h2 _ hfk ht htk
   |if3 _ c t x h hk' hc ht htk hx hxk=>
    rw[hk'] at hk;rcases p8.1 hk with rfl|hk
    ·exact jG hm d _ hfk hc
    rcases p8.1 hk with rfl|hk
    ·exact h2 _ hfk ht htk
    ·obtain rfl:=o8.1 hk;exact h2 _ hfk hx hxk
   |whl _ c t h hk' hc ht htk=>
    rw[hk'] at hk;rcases p8.1 hk with rfl|hk
    ·exact jG hm d _ hfk hc
    ·obtain rfl:=o8.1 hk;exact h2 _ hfk ht htk
   |ret0 _ h hk'=>rw[hk'] at hk;cases hk
   |ret1 _ v h hk' hv=>rw[hk',o8] at hk;subst hk;exact jG hm d _ hfk hv
   |print _ v h hk' hv=>rw[hk',o8] at hk;subst hk;exact jG hm d _ hfk hv
   |call _ c h hk' hc ho=>rw[hk',o8] at hk;subst hk;exact jG hm d _ hfk hc
  ·rw[ho] at e;cases e
theorem FG{l:List UInt8}{ks:List aC}(hp:cX l=.ok ks):∀f∈ks,∀k∈f.kids,mD k:=fun f hf k hk d=>by
 have hfk:FineA 2001 k:=((kR hp).mem hf).kids.mem hk;obtain⟨ps,b,e,h1,h2,h3⟩:=(uO hp f hf).kids;rw[e] at hk;rcases o7.1 hk with hk|hk
 ·exact xV (by rw[h1 k hk];decide) (h3 k hk) d
 ·obtain rfl:=o8.1 hk;exact(IF (by omega) d).2 _ hfk h2.op h2.kids
def nL(i:aH):Prop:=(∀v,i=.push v->bN v)/\∀op,i=.unary op->op=[45]\/op=[33]
theorem qD{P:aH->Prop}{c:aC->Nat->List aH}:∀(l:List aC) (p:Nat),(∀a∈l,∀q,∀i∈c a q,P i)->∀i∈bP c l p,P i
 |[],_,_,i,hi=>by cases hi
 |a::l,p,h,i,hi=>by
  rcases o7.1 hi with hi|hi
  ·exact h a (x9 ..) p i hi
  ·exact qD l _ (fun b hb=>h b (r9 _ hb)) i hi
theorem gW{P:aH->Prop}{c:Prop}[Decidable c]{l m:List aH}(h1:c->∀i∈l,P i)(h2:∀i∈m,P i):∀i∈(if c then l else m),P i:=by
 split
 ·exact h1 ‹_›
 ·exact h2
theorem gP{P:aH->Prop}{l:List aH}{x:aH}(h1:∀i∈l,P i)(h2:P x):∀i∈l++[x],P i:=fun i h=>by
 rcases o7.1 h with h|h
 ·exact h1 i h
 ·rw[o8.1 h];exact h2
theorem oM{P:aH->Prop}{x:aH}(h:P x):∀i∈[x],P i:=gP (l:=[]) (fun _ h=>by cases h) h
theorem mS(fs:List aC)(seen:List (List UInt8)):∀(d:Nat) (a:aC) (p:Nat),mD a->∀i∈aG fs seen d a p,nL i
 |0,_,_,_=>fun i hi=>by cases hi
 |d+1,a,p,hl=>by
  have hk:∀i∈bP (aG fs seen d) a.kids p,nL i:=qD _ _ fun k hk q=>mS fs seen d k q (hl.kid hk)
  have hn:∀x:aH,(∀v,x≠.push v)->(∀op,x≠.unary op)->nL x:=fun x h1 h2=>⟨fun v e=>absurd e (h1 v),fun op e=>absurd e (h2 op)⟩
  have hs:a.op=[115]->cO a.text:=fun h=>((hl 1).1 h).2
  rw[aG];simp only;refine gW (fun _=>oM ⟨fun v e=>by cases e;exact bN.num _,fun op e=>by cases e⟩) ?_
  refine gW (fun h=>oM ⟨fun v e=>by cases e;exact bN.str (hs (by simpa using h)),fun op e=>by cases e⟩) ?_
  refine gW (fun _=>oM ⟨fun v e=>by cases e;exact bN.tru _,fun op e=>by cases e⟩) ?_
  refine gW (fun _=>oM (hn _ (by simp) (by simp))) ?_
  refine gW (fun _=>gP hk (hn _ (by simp) (by simp))) ?_
  refine gW (fun _=>gP hk (hn _ (by simp) (by simp))) ?_
  refine gW (fun _=>gP hk ⟨fun v e=>by (cases e),fun op e=>by cases e;exact Or.inl rfl⟩) ?_
  refine gW (fun _=>gP hk ⟨fun v e=>by (cases e),fun op e=>by cases e;exact Or.inr rfl⟩) ?_
  refine gW (fun _=>gP hk ?_) ?_
  ·repeat' split
   all_goals exact hn _ (by simp) (by simp)
  refine gW (fun _=>?_) (gP hk (hn _ (by simp) (by simp)))
  split
  ·rename_i l r e;refine gP (fun i hi=>?_) (hn _ (by simp) (by simp))
   rcases o7.1 hi with hi|hi
   ·exact gP (mS fs seen d l _ (hl.kid (by rw[e];simp))) (hn _ (by simp) (by simp)) i hi
   ·exact mS fs seen d r _ (hl.kid (by rw[e];simp)) i hi
  ·intro i hi;cases hi
theorem pY{P:aH->Prop}{c:List (List UInt8)->aC->Nat->List aH × List (List UInt8)}:∀(l:List aC) (seen:List (List UInt8)) (p:Nat),(∀a∈l,∀s q,∀i∈(c s a q).1,P i)->∀i∈bG c seen l p,P i
 |[],_,_,_,i,hi=>by cases hi
 |a::l,seen,p,h,i,hi=>by
  rcases o7.1 hi with hi|hi
  ·exact h a (x9 ..) seen p i hi
  ·exact pY l _ _ (fun b hb=>h b (r9 _ hb)) i hi
theorem NC(fs:List aC):∀(d:Nat) (seen:List (List UInt8)) (a:aC) (p:Nat),mD a->∀i∈(bB fs d seen a p).1,nL i
 |0,_,_,_,_,i,hi=>by cases hi
 |d+1,seen,a,p,hl,i,hi=>by
  have hx:∀{k:aC} {q:Nat},k∈a.kids->i∈aG fs seen d k q->nL i:=fun hk h=>mS fs seen d _ _ (hl.kid hk) i h
  have hb:∀{k:aC} {q:Nat},k∈a.kids->i∈bG (bB fs d) seen k.kids q->nL i:=fun hk h=>pY _ _ _ (fun x hx s q=>NC fs d s x q ((hl.kid hk).kid hx)) i h
  have hn:∀{x:aH},(∀v,x≠.push v)->(∀op,x≠.unary op)->i=x->nL i:=fun h1 h2 e=>⟨fun v hv=>absurd (e▸hv) (h1 v),fun op ho=>absurd (e▸ho) (h2 op)⟩
  rw[bB] at hi;dsimp only at hi;split at hi
  ·split at hi
   ·rename_i t v e;simp only[o7,p8,s7,or_false,s9] at hi;rcases hi with h|h|h
    ·exact hn (by simp) (by simp) h
    ·exact hx (by rw[e];simp) h
    ·exact hn (by simp) (by simp) h
   ·cases hi
  split at hi
  ·simp only[o7,p8,s7,or_false,s9] at hi;rcases hi with h|h|h
   ·exact hn (by simp) (by simp) h
   ·exact qD _ _ (fun k hk q=>mS fs seen d k q (hl.kid hk)) i h
   ·exact hn (by simp) (by simp) h
  split at hi
  ·split at hi
   ·rename_i c t e he;simp only[o7,p8,s7,or_false,s9] at hi;rcases hi with h|(((h|h)|h)|h)|h
    ·exact hn (by simp) (by simp) h
    ·exact hx (by rw[he];simp) h
    ·exact hn (by simp) (by simp) h
    ·exact hb (by rw[he];simp) h
    ·exact hn (by simp) (by simp) h
    ·split at h
     ·exact hb (by rw[he];simp) h
     ·cases h
   ·cases hi
  split at hi
  ·split at hi
   ·rename_i c b e;simp only[o7,p8,s7,or_false,s9] at hi;rcases hi with h|((h|h)|h)|h
    ·exact hn (by simp) (by simp) h
    ·exact hx (by rw[e];simp) h
    ·exact hn (by simp) (by simp) h
    ·exact hb (by rw[e];simp) h
    ·exact hn (by simp) (by simp) h
   ·cases hi
  split at hi
  ·split at hi
   ·rename_i v e;simp only[o7,p8,s7,or_false,s9] at hi;rcases hi with h|h|h
    ·exact hn (by simp) (by simp) h
    ·exact hx (by rw[e];simp) h
    ·exact hn (by simp) (by simp) h
   ·simp only[p8,s7,or_false] at hi;rcases hi with h|h|h
    ·exact hn (by simp) (by simp) h
    ·rw[h];exact⟨fun v e=>by cases e;exact bN.num _,fun op e=>by cases e⟩
    ·exact hn (by simp) (by simp) h
  split at hi
  ·split at hi
   ·rename_i v e;simp only[o7,p8,s7,or_false,s9] at hi;rcases hi with h|h|h
    ·exact hn (by simp) (by simp) h
    ·exact hx (by rw[e];simp) h
    ·exact hn (by simp) (by simp) h
   ·cases hi
  ·split at hi
   ·rename_i c e;simp only[o7,p8,s7,or_false,s9] at hi;rcases hi with h|h|h
    ·exact hn (by simp) (by simp) h
    ·exact hx (by rw[e];simp) h
    ·exact hn (by simp) (by simp) h
   ·cases hi
theorem RT{ks:List aC}{d:Nat}(h:∀f∈ks,∀k∈f.kids,mD k):jM (dR ks d):=fun g hg=>by
 obtain⟨f,hf,rfl⟩:=aO_.1 hg
 have hall:∀i∈(fJ ks d f).code,nL i:=fun i hi=>by
  simp only[fJ,o7,p8,s7,or_false] at hi;rcases hi with hi|rfl|rfl
  ·cases hb:f.kids.getLast? with
   |none=>rw[hb] at hi;cases hi
   |some b=>
    rw[hb] at hi;exact pY _ _ _ (fun k hk s q=>NC ks d s k q ((h f hf b (List.mem_of_getLast? hb)).kid hk)) i hi
  ·exact⟨fun v e=>by cases e;exact bN.num _,fun op e=>by cases e⟩
  ·exact⟨fun v e=>by (cases e),fun op e=>by cases e⟩
 exact⟨fun v hv=>(hall _ hv).1 v rfl,fun op ho=>(hall _ ho).2 op rfl⟩
theorem stC_seen{fs:List aC}{d:Nat}{seen:List (List UInt8)}{a:aC}{p:Nat}(h:dP fs d seen a):(bB fs d seen a p).2=cN seen a:=
 (mK fs d seen a (fun _ _=>False) p h ⟨fun _ _ _ h=>h.elim,fun _ _ h=>h.elim⟩).2.1
theorem IZ:∃k:Nat,16*320000+2<=k:=⟨_,l9 _⟩
noncomputable def jP:Nat:=Classical.choose IZ
theorem IY:16*320000+2<=jP:=Classical.choose_spec IZ
noncomputable def fM(tab:List eP)(m0:cP):Nat->Option bW
 |0=>(dU tab jP m0).map fun r=>⟨0,r.1,bR 0 r.2⟩
 |t+1=>
  match fM tab m0 t with
  |none=>none
  |some s=>if s.stop=0 then (dU tab jP s.m).map fun r=>⟨t+1,r.1,bR (t+1) r.2⟩ else none
structure RC(ar:Nat->Option Nat)(s:bW):Prop where
 told:∀x∈s.m.frames,x.seen.length<=x.vars.length
 deep:s.m.frames.length<=16
 ok:s.stop=0->fH ar s.m/\s.m.frames≠[]
 time:s.time<=500
theorem RK{ar:Nat->Option Nat}{m:cP}(h:fH ar m):∃k,wgts m.frames<=m.frames.length*k/\k=320000:=by
 have hone:∀f∈m.frames,jO f<=320000:=fun f hf=>by
  have hc:f.fn.code.length<=80000:=by
   rcases aH_ m.frames with h'|⟨b,x,h'⟩
   ·rw[h'] at hf;cases hf
   ·rw[aI_] at h';have h1:=h.ok.low;have h2:=h.ok.top x (by rw[h'];exact fC _ _)
    rw[h',fX] at h1;rw[h'] at hf;rcases o7.1 hf with hf|hf
    ·obtain⟨T,hT,_⟩:=(h1 f hf).code;exact hT.len
    ·obtain⟨T,hT,_⟩:=h2.code;rw[o8.1 hf];exact hT.len
  unfold jO;split
  ·omega
  ·split<;>omega
 have:∀l:List aK,(∀f∈l,jO f<=320000)->wgts l<=l.length*320000:=by
  intro l;induction l with
  |nil=>intro _;simp[wgts]
  |cons x l ih=>
   intro h;have h1:=h x (x9 ..);have h2:=ih fun f hf=>h f (r9 _ hf)
   unfold wgts at h2 ⊢
   simp only[s5,s6,n8,Nat.succ_mul];omega
 exact⟨320000,this m.frames hone,rfl⟩
theorem oH{ar:Nat->Option Nat}{tab:List eP}(ht:jU ar tab){m:cP}(h:fH ar m):∃r,dU tab jP m=some r/\ML ar r:=
 lD ht jP m h (by
  obtain⟨k,h1,h2⟩:=RK h;have h3:=Nat.mul_le_mul_right k h.ok.deep;have:=IY;omega)
theorem BP{ar:Nat->Option Nat}{tab:List eP}(ht:jU ar tab){m0:cP}(h0:fH ar m0):∀(t:Nat) (s:bW),fM tab m0 t=some s->RC ar s/\s.time=t
 |0,s,h=>by
  obtain⟨r,hr,hc⟩:=oH ht h0;simp only[fM,hr,aL_,Option.some.injEq] at h;subst h
  exact⟨⟨hc.told,hc.deep,fun hz=>hc.ok (by simp only[bR] at hz;split at hz;·simp at hz
                                           ·exact hz),by simp⟩,rfl⟩
 |t+1,s,h=>by
  rw[fM] at h;cases hs:fM tab m0 t with
  |none=>rw[hs] at h;cases h
  |some s0=>
   rw[hs] at h;simp only at h;obtain⟨k1,k2⟩:=BP ht h0 t s0 hs;split at h
   ·rename_i hz;obtain⟨r,hr,hc⟩:=oH ht (k1.ok hz).1;rw[hr] at h;simp only[aL_,Option.some.injEq] at h;subst h
    refine⟨⟨hc.told,hc.deep,fun hz'=>hc.ok (by simp only[bR] at hz';split at hz';·simp at hz'
                                               ·exact hz'),?_⟩,rfl⟩
    show t+1<=500
    have ht5:t≠500:=by
     intro e;cases t with
     |zero=>simp at e
     |succ u=>
      rw[fM] at hs;cases hu:fM tab m0 u with
      |none=>rw[hu] at hs;cases hs
      |some su=>
       rw[hu] at hs;simp only at hs;split at hs
       ·cases hru:dU tab jP su.m with
        |none=>rw[hru] at hs;cases hs
        |some ru=>
         rw[hru] at hs;simp only[aL_,Option.some.injEq] at hs;subst hs;simp only[bR] at hz;split at hz
         ·simp at hz
         ·rename_i hno;exact hno ⟨hz,e⟩
       ·cases hs
    have:=k1.time;omega
   ·cases h
theorem xH{tab:List eP}{r:cP × Nat}(j:Nat):∀(k:Nat) (m:cP),dU tab k m=some r->dU tab (k+j) m=some r
 |0,_,h=>by cases h
 |k+1,m,h=>by
  rw[show k+1+j=(k+j)+1 by omega]
  rw[dU] at h ⊢
  cases hl:m.frames.getLast? with
  |none=>rw[hl] at h;exact h
  |some f=>
   rw[hl] at h;simp only at h ⊢
   cases hf:f.fetch with
   |none=>rw[hf] at h;cases h
   |some ig=>
    rw[hf] at h;simp only at h ⊢
    split at h
    ·rename_i h1;rw[if_pos h1];exact h
    rename_i h1;rw[if_neg h1];split at h
    ·rename_i h2;rw[if_pos h2];exact h
    rename_i h2;rw[if_neg h2];exact xH j k _ h
noncomputable def zY(tab:List eP)(k:Nat):Nat->Nat->cP->Option bW
 |0,_,_=>none
 |n+1,t,m=>
  match dU tab k m with
  |none=>none
  |some r=>if r.2=0/\t≠500 then zY tab k n (t+1) r.1 else some ⟨t,r.1,bR t r.2⟩
theorem CB{tab:List eP}{m0:cP}{k:Nat}(hk:k<=jP){z:bW}:∀(n t:Nat) (m:cP),zY tab k n t m=some z->(∀r,dU tab jP m=some r->fM tab m0 t=some ⟨t,r.1,bR t r.2⟩)->fM tab m0 z.time=some z
 |0,_,_,h,_=>by cases h
 |n+1,t,m,h,hs=>by
  rw[zY] at h;cases hr:dU tab k m with
  |none=>rw[hr] at h;cases h
  |some r=>
   rw[hr] at h;simp only at h
   have hb:dU tab jP m=some r:=by
    have:=xH (jP-k) k m hr;rwa [show k+(jP-k)=jP by omega] at this
   have h0:=hs r hb;split at h
   ·rename_i hc;refine CB hk n (t+1) r.1 h fun r' hr'=>?_
    have hz:bR t r.2=0:=by unfold bR;rw[if_neg (by omega)];exact hc.1
    rw[fM,h0];simp only[hz,if_true,hr',aL_]
   ·cases h;exact h0
def xA(src:List UInt8)(t:Nat)(out:List (List UInt8)):Prop:=∃ks tp,cX src=.ok ks/\dL src=(0,0)/\fM (dR ks 2001) (gZ ks 2001 []) t=some ⟨t,⟨[],tp,out⟩,1⟩
theorem qV(f:Nat):∀(n:Nat) (t:List UInt8),digitsF f n t=digitsF f n []++t:=by
 induction f with
 |zero=>intro n t;rfl
 |succ f ih=>
  intro n t;simp only[digitsF];split
  ·rfl
  ·rw[ih (n/10) (_::t),ih (n/10) [_]];simp
theorem mU(k:Nat)(h:k<10):(UInt8.ofNat (48+k)).toNat=48+k:=by
 rw[UInt8.toNat_ofNat'];omega
theorem uZ(k:Nat)(h:k<10):bY (UInt8.ofNat (48+k))=true:=by
 unfold bY;rw[mU k h];simp;omega
theorem wX(f:Nat):∀(n:Nat) (t:List UInt8),(∀c∈t,bY c=true)->∀c∈digitsF f n t,bY c=true:=by
 induction f with
 |zero=>intro n t h;exact h
 |succ f ih=>
  intro n t h;simp only[digitsF];split
  ·rename_i hn;intro c hc;rcases p8.1 hc with rfl|hc
   ·exact uZ n hn
   ·exact h c hc
  ·refine ih _ _ fun c hc=>?_
   rcases p8.1 hc with rfl|hc
   ·exact uZ _ (Nat.mod_lt _ (by omega))
   ·exact h c hc
theorem digitsF_len(f:Nat):∀(n:Nat) (t:List UInt8),(digitsF f n t).length<=f+t.length:=by
 induction f with
 |zero=>intro n t;simp[digitsF]
 |succ f ih=>
  intro n t;simp only[digitsF];split
  ·simp;omega
  ·have:=ih (n/10) (UInt8.ofNat (48+n%10)::t);rw[n8] at this;omega
theorem FY(f n:Nat):digitsF (f+1) n []≠[]:=by
 simp only[digitsF];split
 ·simp
 ·rw[qV];simp
theorem AE(d:List UInt8)(c:UInt8):∀(n m:Nat),cA n d=some m->10*m+(c.toNat-48)<=hJ->c.toNat-48<=hJ->cA n (d++[c])=some (10*m+(c.toNat-48)):=by
 induction d with
 |nil=>
  intro n m h hm hc;cases h;simp only[ar_,cA];rw[if_neg (by omega)]
 |cons x d ih=>
  intro n m h hm hc;simp only[cA] at h;split at h
  ·cases h
  ·rename_i hx;simp only[s9,cA];rw[if_neg hx];exact ih _ _ h hm hc
theorem wW(f:Nat):∀n:Nat,n<10 ^ f->n<=hJ->cA 0 (digitsF f n [])=some n:=by
 induction f with
 |zero=>intro n h _;obtain rfl:n=0:=by simpa using h
        rfl
 |succ f ih=>
  intro n h hm;simp only[digitsF];split
  ·rename_i hn;simp only[cA,mU n hn];rw[if_neg (by unfold hJ;omega)]
   congr 1;omega
  ·rename_i hn;rw[qV];have h1:n/10<10 ^ f:=by rw[Nat.pow_succ] at h;omega
   have h2:=ih (n/10) h1 (by omega)
   have hk:=mU (n%10) (Nat.mod_lt _ (by omega))
   rw[AE _ _ 0 (n/10) h2 (by rw[hk];omega) (by rw[hk];unfold hJ;omega),hk]
   congr 1;omega
def dO(n:Nat):List UInt8:=digitsF 20 n []
theorem sK(n:Nat)(h:n<=hJ):cA 0 (dO n)=some n:=wW 20 n (by unfold hJ at h;omega) h
theorem lM(n:Nat):∀c∈dO n,bY c=true:=wX 20 n [] (by simp)
theorem oW(n:Nat):dO n≠[]:=FY 19 n
theorem nJ(n:Nat):(dO n).length<=20:=by have:=digitsF_len 20 n [];rw[p6] at this;exact this
def iK(l:List UInt8):Prop:=∀c r,l=c::r->bY c=false/\eB c=false/\¬(c.toNat=32\/c.toNat=9\/c.toNat=10)/\cJ (c::r) [47,47]=false
theorem iK.blank{l:List UInt8}(h:iK l)(n:Nat):blankL n l=0:=by
 cases n with
 |zero=>rfl
 |succ n=>
  cases l with
  |nil=>rfl
  |cons c r=>
   obtain⟨_,_,h3,h4⟩:=h c r rfl;rw[gG,if_neg h3,if_neg (by rw[h4];simp)]
theorem zE(d rest:List UInt8)(hd:∀c∈d,bY c=true)(hr:iK rest):bF (dT false) (d++rest)=d.length:=by
 induction d with
 |nil=>
  cases rest with
  |nil=>rfl
  |cons c r=>
   obtain⟨h1,_⟩:=hr c r rfl;simp[bF,dT,h1]
 |cons c d ih=>
  simp only[s9,bF];rw[if_pos (by simp[dT,hd c (by simp)]),ih fun c hc=>hd c (by simp[hc])]
  rfl
theorem uY(c:UInt8)(h:bY c=true):eB c=false:=by
 unfold bY at h;unfold eB;simp only[y6,decide_eq_true_eq] at h;obtain⟨h1,h2⟩:=h;simp only[Bool.or_eq_false_iff,beq_eq_false_iff_ne,Bool.and_eq_false_iff,decide_eq_false_iff_not];omega
theorem AK(d rest:List UInt8)(n:Nat)(hn:d≠[])(hd:∀c∈d,bY c=true)(hr:iK rest)(hw:cA 0 d=some n):
 bJ (d++rest)=⟨48,d,d.length,true⟩:=by
 cases d with
 |nil=>exact absurd rfl hn
 |cons c d=>
  have h0:=zE (c::d) rest hd hr;have hc:=hd c (by simp)
  rw[s9,bJ,if_pos (by rw[hc];rfl),uY c hc]
  unfold gC;rw[if_neg (by simp)]
  rw[<-s9,h0];rw[List.take_left,hw];rfl
theorem JH(f:Nat)(pre w rest:List UInt8)(s:Nat)(hw:w≠[])(ht:bJ (w++rest)=⟨s,w,w.length,true⟩)(hr:iK rest):
 cU (f+1) pre (w++rest)=cF [⟨s,w,aU pre⟩] (cU f (pre++w) rest):=by
 have hl:¬(w++rest).length=0:=by
  cases w with
  |nil=>exact absurd rfl hw
  |cons c w=>simp
 rw[gR f pre (w++rest) hl (by rw[ht]) w.length (by rw[ht];rw[List.drop_left,hr.blank];rfl),ht,List.take_left,List.drop_left]
def BT:List UInt8:=[40,41,43,45,42,47,37]
theorem kU(a b:List aP)(x:Except Nat (List aP)):cF (a++b) x=cF a (cF b x):=by cases x<;>simp[cF]
theorem EG(f:Nat)(pre:List UInt8)(c:UInt8)(hc:c∈BT)(rest:List UInt8)(hr:iK rest\/∃d r,rest=d::r/\bY d=true):
 cU (f+1) pre (c::rest)=cF [⟨112,[c],aU pre⟩] (cU f (pre++[c]) rest):=by
 have hb:∀n,blankL n rest=0:=by
  intro n;rcases hr with hr|⟨d,r,rfl,hd⟩
  ·exact hr.blank n
  ·cases n with
   |zero=>rfl
   |succ n=>
    unfold bY at hd;simp only[y6,decide_eq_true_eq] at hd;rw[gG,if_neg (by omega),if_neg]
    intro hs;have:=aF_.1 hs;obtain⟨t,ht⟩:=this;simp only[s9,List.cons.injEq] at ht;rw[<-ht.1] at hd;revert hd;decide
 have ht:bJ (c::rest)=⟨112,[c],1,true⟩:=by
  simp only[BT,p8,s7,or_false] at hc;rcases hc with rfl|rfl|rfl|rfl|rfl|rfl|rfl<;>rfl
 rw[gR f pre (c::rest) (by simp) (by rw[ht]) 1 (by rw[ht];show 1=1+blankL _ (List.drop 1 (c::rest));rw[List.drop_one,List.tail_cons,hb]),ht]
 rfl
def cS(x:Int):List UInt8:=
 if x= -9223372036854775808 then [40,45]++(dO 9223372036854775807++([45]++(dO 1++[41])))
 else if x<0 then [40,45]++(dO x.natAbs++[41])
 else dO x.natAbs
def oN(x:Int):List aP:=
 if x= -9223372036854775808 then [⟨112,[40],1⟩,⟨112,[45],1⟩,⟨48,dO 9223372036854775807,1⟩,⟨112,[45],1⟩,⟨48,dO 1,1⟩,⟨112,[41],1⟩]
 else if x<0 then [⟨112,[40],1⟩,⟨112,[45],1⟩,⟨48,dO x.natAbs,1⟩,⟨112,[41],1⟩]
 else [⟨48,dO x.natAbs,1⟩]
theorem oO(l:List UInt8)(h:∀c∈l,c≠10):aU l=1:=by
 unfold aU;rw[a5_.2 (fun hc=>h 10 hc rfl)]
theorem iI(n:Nat):∀c∈dO n,c≠10:=by
 intro c hc e;subst e;exact absurd (lM n 10 hc) (by decide)
theorem nH(n:Nat):1<=(dO n).length:=by
 have:=oW n;cases h:dO n with
 |nil=>exact absurd h this
 |cons c r=>simp
theorem mB(n:Nat)(r:List UInt8):∃d s,dO n++r=d::s/\bY d=true:=by
 cases h:dO n with
 |nil=>exact absurd h (oW n)
 |cons d s=>exact⟨d,s++r,rfl,lM n d (by rw[h];simp)⟩
theorem iK.sign(c:UInt8)(hc:c=41\/c=45\/c=43\/c=42\/c=37\/c=40)(r:List UInt8):iK (c::r):=by
 intro x y h;obtain⟨rfl,rfl⟩:=List.cons.inj h;rcases hc with rfl|rfl|rfl|rfl|rfl|rfl<;>refine⟨by decide,by decide,by decide,rfl⟩
theorem lK(f:Nat)(pre:List UInt8)(n:Nat)(hn:n<=hJ)(rest:List UInt8)(hr:iK rest)(hp:∀c∈pre,c≠10):
 cU (f+1) pre (dO n++rest)=cF [⟨48,dO n,1⟩] (cU f (pre++dO n) rest):=by
 rw[JH f pre (dO n) rest 48 (oW n) (AK _ _ n (oW n) (lM n) hr (sK n hn)) hr,oO pre hp]
theorem cQ{a b:List UInt8}(ha:∀c∈a,c≠10)(hb:∀c∈b,c≠10):∀c∈a++b,c≠10:=by
 intro c hc;rcases o7.1 hc with h|h
 ·exact ha c h
 ·exact hb c h
theorem gD(f:Nat)(pre:List UInt8)(c:UInt8)(hc:c∈BT)(rest:List UInt8)(hr:iK rest\/∃d r,rest=d::r/\bY d=true)(hp:∀c∈pre,c≠10):
 cU (f+1) pre (c::rest)=cF [⟨112,[c],1⟩] (cU f (pre++[c]) rest):=by
 rw[EG f pre c hc rest hr,oO pre hp]
theorem TZ(x:Int):∀c∈cS x,c≠10:=by
 unfold cS;split
 ·exact cQ (by decide) (cQ (iI _) (cQ (by decide) (cQ (iI _) (by decide))))
 ·split
  ·exact cQ (by decide) (cQ (iI _) (by decide))
  ·exact iI _
theorem JI(x:Int)(h1: -9223372036854775808<=x)(h2:x<=9223372036854775807)(pre rest:List UInt8)(hr:iK rest)(hp:∀c∈pre,c≠10):
 ∃k,k<=(cS x).length/\∀f,cU (f+k) pre (cS x++rest)=cF (oN x) (cU f (pre++cS x) rest):=by
 unfold cS oN;split
 ·have:=nH 9223372036854775807;refine⟨6,by simp only[m6,n8,p6];have:=nH 1;omega,fun f=>?_⟩
  simp only[y7,s9,ar_]
  rw[gD (f+5) pre 40 (by decide) _ (.inl (iK.sign 45 (by simp) _)) hp,
   gD (f+4) _ 45 (by decide) _ (.inr (mB _ _)) (cQ hp (by decide)),
   lK (f+3) _ _ (by decide) _ (iK.sign 45 (by simp) _) (cQ (cQ hp (by decide)) (by decide)),
   gD (f+2) _ 45 (by decide) _ (.inr (mB _ _)) (cQ (cQ (cQ hp (by decide)) (by decide)) (iI _)),
   lK (f+1) _ _ (by decide) _ (iK.sign 41 (by simp) _) (cQ (cQ (cQ (cQ hp (by decide)) (by decide)) (iI _)) (by decide)),
   gD f _ 41 (by decide) _ (.inl hr) (cQ (cQ (cQ (cQ (cQ hp (by decide)) (by decide)) (iI _)) (by decide)) (iI _))]
  simp only[<-kU,y7,s9,ar_]
 ·split
  ·refine⟨4,by simp only[m6,n8,p6];have:=nH x.natAbs;omega,fun f=>?_⟩
   simp only[y7,s9,ar_]
   rw[gD (f+3) pre 40 (by decide) _ (.inl (iK.sign 45 (by simp) _)) hp,
    gD (f+2) _ 45 (by decide) _ (.inr (mB _ _)) (cQ hp (by decide)),
    lK (f+1) _ _ (by unfold hJ;omega) _ (iK.sign 41 (by simp) _) (cQ (cQ hp (by decide)) (by decide)),
    gD f _ 41 (by decide) _ (.inl hr) (cQ (cQ (cQ hp (by decide)) (by decide)) (iI _))]
   simp only[<-kU,y7,s9,ar_]
  ·refine⟨1,nH _,fun f=>?_⟩
   rw[lK f pre _ (by unfold hJ;omega) _ hr hp]
end Go.Proofs.YtblbkfdhjfppkaaGreatDoor.Hs
