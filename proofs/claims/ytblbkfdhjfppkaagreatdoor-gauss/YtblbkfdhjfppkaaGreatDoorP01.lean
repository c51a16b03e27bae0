/- The shapes of trees that were read: plain facts. -/
import Derived.Test.YtblbkfdhjfppkaaGreatDoorP00
set_option maxRecDepth 100000
namespace Go.Proofs.YtblbkfdhjfppkaaGreatDoor.Hs
inductive cX:aC→Prop
 |leaf (a:aC) (h:a.op=[48]∨a.op=[115]∨a.op=[98,111,111,108]∨a.op=[110,97,109,101]) (hk:a.kids=[]) (ht:a.op=[115]→JZ a.text):cX a
 |many (a:aC) (h:a.op=[108,105,115,116]∨a.op=[99,97,108,108]) (hk:∀k∈a.kids,cX k):cX a
 |one (a l:aC) (h:a.op=[45,120]∨a.op=[33,120]) (hk:a.kids=[l]) (hl:cX l):cX a
 |two (a l r:aC) (h:a.op=[105,110,100,101,120]∨bV a.op≠9) (hk:a.kids=[l,r]) (hl:cX l) (hr:cX r):cX a
inductive fW:aC→Prop
 |var (a t v:aC) (h:a.op=[118,97,114]) (hk:a.kids=[t,v]) (hv:cX v) (ht:t.op=[116,97,114,103,101,116]∧t.kids=[]):fW a
 |set (a:aC) (h:a.op=[115,101,116]) (hn:a.kids≠[]) (hk:∀k∈a.kids,cX k):fW a
 |if2 (a c t:aC) (h:a.op=[105,102]) (hk:a.kids=[c,t]) (hc:cX c) (ht:t.op=[98,108,111,99,107]) (htk:∀k∈t.kids,fW k):fW a
 |if3 (a c t x:aC) (h:a.op=[105,102]) (hk:a.kids=[c,t,x]) (hc:cX c) (ht:t.op=[98,108,111,99,107]) (htk:∀k∈t.kids,fW k) (hx:x.op=[98,108,111,99,107]) (hxk:∀k∈x.kids,fW k):fW a
 |whl (a c t:aC) (h:a.op=[119,104,105,108,101]) (hk:a.kids=[c,t]) (hc:cX c) (ht:t.op=[98,108,111,99,107]) (htk:∀k∈t.kids,fW k):fW a
 |ret0 (a:aC) (h:a.op=[114,101,116,117,114,110]) (hk:a.kids=[]):fW a
 |ret1 (a v:aC) (h:a.op=[114,101,116,117,114,110]) (hk:a.kids=[v]) (hv:cX v):fW a
 |print (a v:aC) (h:a.op=[112,114,105,110,116]) (hk:a.kids=[v]) (hv:cX v):fW a
 |call (a c:aC) (h:a.op=[100,111]) (hk:a.kids=[c]) (hc:cX c) (ho:c.op=[99,97,108,108]):fW a
structure KF(b:aC):Prop where
 op:b.op=[98,108,111,99,107]
 kids:∀k∈b.kids,fW k
structure qC(f:aC):Prop where
 kids:∃ps b,f.kids=ps++[b]∧(∀x∈ps,x.op=[112,97,114,97,109])∧KF b∧∀x∈ps,x.kids=[]
def bJ{α:Type}(P:α→Prop)(r:bR α):Prop:=∀a q,r=.ok (a,q)→P a
theorem bJ.err{α:Type}{P:α→Prop}{n:Nat}:bJ P (.error n):=fun a q h=>by cases h
theorem bJ.bad{α:Type}{P:α→Prop}{p':Nat}{ts:List aV}:bJ P (bad ts p'):=fun a q h=>by cases h
theorem bJ.of_ok{α:Type}{P:α→Prop}{q:Nat}{a:α}(h:P a):bJ P (.ok (a,q)):=fun a' q' e=>by cases e;exact h
theorem bJ.take{α:Type}{P:α→Prop}{ts:List aV}{x:List UInt8}{r:bR α}(h:bJ P r):bJ P (aL ts x r):=by
 cases r with
 |error l=>exact bJ.err
 |ok aq=>
  obtain⟨a,q⟩:=aq;have:=h a q rfl;unfold aL;simp only;split
  ·exact bJ.of_ok this
  ·exact bJ.bad
theorem bJ.map{α β:Type}{P:α→Prop}{Q:β→Prop}{r:bR α}{f:α→β}(h:bJ P r)(hf:∀a,P a→Q (f a)):bJ Q (bT f r):=by
 cases r with
 |error l=>exact bJ.err
 |ok aq=>obtain⟨a,q⟩:=aq;exact bJ.of_ok (hf a (h a q rfl))
theorem bJ.bind{α β:Type}{P:α→Prop}{Q:β→Prop}{r:bR α}{f:α→Nat→bR β}(h:bJ P r)(hf:∀a q,P a→bJ Q (f a q)):bJ Q (bN r f):=by
 cases r with
 |error l=>exact bJ.err
 |ok aq=>obtain⟨a,q⟩:=aq;exact hf a q (h a q rfl)
def eI(P:aC→Prop)(l:List aC):Prop:=∀k∈l,P k
theorem eI.nil{P:aC→Prop}:eI P []:=fun _ h=>by cases h
theorem eI.snoc{P:aC→Prop}{l:List aC}{a:aC}(h:eI P l)(ha:P a):eI P (l++[a]):=fun k hk=>by
 rcases List.mem_append.1 hk with hk|hk
 ·exact h k hk
 ·rw[List.mem_singleton.1 hk];exact ha
section
variable {ts:List aV} {E:Nat→bR aC}
def qB(ts:List aV):Prop:=∀p,(aO ts p).sort=115→JZ (aO ts p).text
theorem pK(HE:∀q,bJ cX (E q)):∀(g p:Nat) (acc:List aC),eI cX acc→bJ (eI cX) (dC E ts g p acc)
 |0,p,acc,_=>bJ.err
 |g+1,p,acc,h0=>by
  rw[dC];cases hx:E p with
  |error l=>exact bJ.err
  |ok aq=>
   obtain⟨a,q⟩:=aq;have h2:=HE p a q hx;simp only;split
   ·exact pK HE g (q+1) _ (h0.snoc h2)
   ·exact bJ.of_ok (h0.snoc h2)
theorem pJ(HE:∀q,bJ cX (E q))(p:Nat)(x y:List UInt8):bJ (eI cX) (eF E ts p x y):=by
 unfold eF;split
 ·refine bJ.take ?_;unfold gN;split
  ·exact bJ.of_ok eI.nil
  ·exact pK HE _ _ _ eI.nil
 ·exact bJ.bad
theorem DG(hts:qB ts)(HE:∀q,bJ cX (E q))(p:Nat):bJ cX (dP E ts p):=by
 unfold dP;split
 ·rename_i h;simp at h;rcases h with h|h
  ·refine bJ.of_ok (.leaf _ (Or.inl (by show [UInt8.ofNat _]=_;rw[h];rfl)) rfl fun e=>?_)
   have e':[UInt8.ofNat (aO ts p).sort]=[115]:=e;rw[h] at e';exact absurd e' (by decide)
  ·exact bJ.of_ok (.leaf _ (Or.inr (Or.inl (by show [UInt8.ofNat _]=_;rw[h];rfl))) rfl fun _=>hts p h)
 split
 ·exact bJ.of_ok (.leaf _ (Or.inr (Or.inr (Or.inl rfl))) rfl fun e=>by simp[aP] at e)
 split
 ·exact(HE (p+1)).take
 split
 ·exact bJ.map (pJ HE p _ _) fun a h=>.many _ (Or.inl rfl) h
 split
 ·split
  ·exact bJ.map (pJ HE (p+1) _ _) fun a h=>.many _ (Or.inr rfl) h
  ·exact bJ.of_ok (.leaf _ (Or.inr (Or.inr (Or.inr rfl))) rfl fun e=>by simp[aP] at e)
 ·exact bJ.bad
theorem wB(HE:∀q,bJ cX (E q)):∀(g:Nat) (n:aC) (p:Nat),cX n→bJ cX (cT E ts g n p)
 |0,n,p,_=>bJ.err
 |g+1,n,p,h0=>by
  rw[cT];split
  ·have hE:=(HE (p+1)).take (ts:=ts) (x:=[93]);cases hx:aL ts [93] (E (p+1)) with
   |error l=>exact bJ.err
   |ok iq=>
    obtain⟨i,q⟩:=iq;exact wB HE g _ q (.two _ n i (Or.inl rfl) rfl h0 (hE i q hx))
  ·exact bJ.of_ok h0
theorem pH(hts:qB ts)(HE:∀q,bJ cX (E q)):∀(g p:Nat),bJ cX (eC E ts g p)
 |0,p=>bJ.err
 |g+1,p=>by
  rw[eC];split
  ·exact bJ.map (pH hts HE g (p+1)) fun a h=>.one _ a (Or.inl rfl) rfl h
  split
  ·exact bJ.map (pH hts HE g (p+1)) fun a h=>.one _ a (Or.inr rfl) rfl h
  ·exact bJ.bind (DG hts HE p) fun a q h1=>wB HE _ a q h1
theorem oL{L:Nat→bR aC}{k:Nat}(hk9:k<9)(HL:∀q,bJ cX (L q)):∀(g:Nat) (n:aC) (q:Nat),cX n→bJ cX (bC L ts k g n q)
 |0,n,q,_=>bJ.err
 |g+1,n,q,h0=>by
  rw[bC];split
  ·rename_i hlev;cases hx:L (q+1) with
   |error l=>exact bJ.err
   |ok rq=>
    obtain⟨r,q2⟩:=rq;have h2:=HL _ r q2 hx;have hn:cX (aP (aO ts q).text (aO ts q).line [] [n,r]):=.two _ n r (Or.inr (by simp at hlev;show bV (aO ts q).text≠9;rw[hlev.2];omega)) rfl h0 h2
    simp only;split
    ·exact bJ.of_ok hn
    ·exact oL hk9 HL g _ q2 hn
  ·exact bJ.of_ok h0
theorem pL(hts:qB ts)(HE:∀q,bJ cX (E q)):∀(j p:Nat),bJ cX (fJ E ts j p)
 |0,p=>pH hts HE _ p
 |j+1,p=>by
  rw[fJ];exact bJ.bind (pL hts HE j p) fun a q h1=>oL (by omega) (fun q=>pL hts HE j q) _ a q h1
theorem AK(ts:List aV)(hts:qB ts):∀(f p:Nat),bJ cX (eX ts f p)
 |0,p=>bJ.err
 |f+1,p=>by
  rw[eX];exact pL hts (fun q=>AK ts hts f q) 5 p
theorem qZ(HE:∀q,bJ cX (E q)):∀(g p:Nat) (acc:List aC),eI cX acc→bJ (eI cX) (eL E ts g p acc)
 |0,p,acc,_=>bJ.err
 |g+1,p,acc,h0=>by
  rw[eL];split
  ·have hE:=(HE (p+1)).take (ts:=ts) (x:=[93]);cases hx:aL ts [93] (E (p+1)) with
   |error l=>exact bJ.err
   |ok iq=>
    obtain⟨i,q⟩:=iq;exact qZ HE g q _ (h0.snoc (hE i q hx))
  ·exact bJ.of_ok h0
theorem IB(HE:∀q,bJ cX (E q))(p:Nat):bJ fW (eK E ts p):=by
 unfold eK;split
 ·split
  ·exact bJ.take (bJ.map (pJ HE (p+1) _ _) fun a h=>.call _ _ rfl rfl (.many _ (Or.inr rfl) h) rfl)
  ·refine bJ.bind ((qZ HE _ (p+1) [] eI.nil).take) fun l q h1=>?_
   exact bJ.take (bJ.map (HE q) fun v hv=>.set _ rfl (by simp[aP]) (h1.snoc hv))
 ·exact bJ.bad
theorem QF{B:Nat→bR aC}(HE:∀q,bJ cX (E q))(HB:∀q,bJ KF (B q))(p:Nat):bJ fW (iH E B ts p):=by
 unfold iH;split
 ·unfold nN;split
  ·split
   ·exact bJ.take (bJ.map (HE (p+3)) fun v hv=>.var _ _ v rfl rfl hv ⟨rfl,rfl⟩)
   ·exact bJ.bad
  ·exact bJ.bad
 split
 ·unfold pR;refine bJ.bind (HE (p+1)) fun c q h1=>bJ.bind (HB q) fun b q2 h3=>?_
  split
  ·exact bJ.map (HB (q2+1)) fun d hd=>.if3 _ c b d rfl rfl h1 h3.op h3.kids hd.op hd.kids
  ·exact bJ.of_ok (.if2 _ c b rfl rfl h1 h3.op h3.kids)
 split
 ·unfold jM;exact bJ.bind (HE (p+1)) fun c q h1=>bJ.map (HB q) fun b hb=>.whl _ c b rfl rfl h1 hb.op hb.kids
 split
 ·unfold gI;split
  ·exact bJ.of_ok (.ret0 _ rfl rfl)
  ·exact bJ.take (bJ.map (HE (p+1)) fun v hv=>.ret1 _ v rfl rfl hv)
 split
 ·unfold hP;exact bJ.take (bJ.map (HE (p+1)) fun v hv=>.print _ v rfl rfl hv)
 ·exact IB HE p
theorem oM{S:Nat→bR aC}(HS:∀q,bJ fW (S q)):∀(g p:Nat) (acc:List aC),eI fW acc→bJ (eI fW) (dD S ts g p acc)
 |0,p,acc,_=>bJ.err
 |g+1,p,acc,h0=>by
  rw[dD];split
  ·exact bJ.of_ok h0
  ·cases hx:S p with
   |error l=>exact bJ.err
   |ok sq=>
    obtain⟨s,q⟩:=sq;exact oM HS g q _ (h0.snoc (HS p s q hx))
theorem wC(HE:∀q,bJ cX (E q)):∀(f p:Nat),bJ KF (iD E ts f p)
 |0,p=>bJ.err
 |f+1,p=>by
  rw[iD];split
  ·exact bJ.map (bJ.take (oM (fun q=>QF HE (fun q=>wC HE f q) q) _ (p+1) [] eI.nil)) fun l h=>⟨rfl,h⟩
  ·exact bJ.bad
theorem oK:∀(g p:Nat) (acc:List aC),eI (fun x=>x.op=[112,97,114,97,109]∧x.kids=[]) acc→bJ (eI fun x=>x.op=[112,97,114,97,109]∧x.kids=[]) (cN ts g p acc)
 |0,p,acc,_=>bJ.err
 |g+1,p,acc,h0=>by
  have hl:eI (fun x=>x.op=[112,97,114,97,109]∧x.kids=[]) (acc++[aP [112,97,114,97,109] (aO ts p).line (aO ts p).text []]):=h0.snoc ⟨rfl,rfl⟩
  rw[cN];split
  ·split
   ·exact oK g (p+2) _ hl
   ·exact bJ.of_ok hl
  ·exact bJ.bad
theorem QG{B:Nat→bR aC}(HB:∀q,bJ KF (B q))(p:Nat):bJ qC (jD B ts p):=by
 unfold jD;split
 ·split
  ·split
   ·have hpar:bJ (eI fun x=>x.op=[112,97,114,97,109]∧x.kids=[]) (gK ts (p+3)):=by
     unfold gK;refine bJ.take ?_;split
     ·exact bJ.of_ok eI.nil
     ·exact oK _ (p+3) [] eI.nil
    exact bJ.bind hpar fun l q h1=>bJ.map (HB q) fun b hb=>⟨l,b,rfl,fun x hx=>(h1 x hx).1,hb,fun x hx=>(h1 x hx).2⟩
   ·exact bJ.bad
  ·exact bJ.bad
 ·exact bJ.bad
theorem pI{F:Nat→bR aC}(HF:∀q,bJ qC (F q)):∀(g p:Nat) (acc:List aC),eI qC acc→bJ (eI qC) (eM F ts g p acc)
 |0,p,acc,_=>bJ.err
 |g+1,p,acc,h0=>by
  rw[eM];split
  ·exact bJ.of_ok h0
  ·cases hx:F p with
   |error l=>exact bJ.err
   |ok sq=>
    obtain⟨s,q⟩:=sq;exact pI HF g q _ (h0.snoc (HF p s q hx))
end
theorem cL.split{a b:List UInt8}{c:UInt8}(hc:c.toNat<128)(h:cL (a++c::b)):cL a∧cL b:=by
 generalize hl:a++c::b=l at h;induction h generalizing a with
 |nil=>simp at hl
 |cons h1 h2 ih=>
  subst hl;cases a with
  |nil=>
   have e:bD ([]++c::b)=1:=by simp[bD,hc]
   rw[e] at h2;exact⟨.nil,by simpa using h2⟩
  |cons x a=>
   have hle:bD (x::a++c::b)≤(x::a).length:=by
    refine Nat.le_of_not_lt fun hn=>?_
    have hx:∀i lo hi,128≤lo→i=a.length+1→cY (x::a++c::b) i lo hi=false:=fun i lo hi h0 hi'=>by
     subst hi';have:(x::a++c::b)[a.length+1]?=some c:=by simp
     unfold cY;rw[this];simp;omega
    have hx':∀i lo hi,128≤lo→cY (x::a++c::b) i lo hi=true→i≠a.length+1:=fun i lo hi h0 ht e=>by rw[hx i lo hi h0 e] at ht;cases ht
    unfold bD at h1 hn;rw[List.length_cons] at hn;simp only[List.cons_append,List.getElem?_cons_zero] at h1 hn hx';have hlo:∀n m:Nat,128≤m→128≤(if x.toNat=n then m else 128):=fun n m h=>by split<;>omega
    by_cases c1:x.toNat<128
    ·rw[if_pos c1] at hn;omega
    rw[if_neg c1] at hn;by_cases c2:194≤x.toNat∧x.toNat≤223
    ·rw[if_pos c2] at hn;by_cases h:cY (x::(a++c::b)) 1 128 191=true
     ·rw[if_pos h] at hn;have:=hx' _ _ _ (by omega) h;omega
     ·rw[if_neg h] at hn;omega
    rw[if_neg c2] at hn;by_cases c3:224≤x.toNat∧x.toNat≤239
    ·rw[if_pos c3] at hn;by_cases h:(cY (x::(a++c::b)) 1 (if x.toNat=224 then 160 else 128) (if x.toNat=237 then 159 else 191) && cY (x::(a++c::b)) 2 128 191)=true
     ·rw[if_pos h] at hn;rw[Bool.and_eq_true] at h;have q1:=hx' _ _ _ (hlo _ _ (by omega)) h.1
      have q2:=hx' _ _ _ (by omega) h.2
      omega
     ·rw[if_neg h] at hn;omega
    rw[if_neg c3] at hn;by_cases c4:240≤x.toNat∧x.toNat≤244
    ·rw[if_pos c4] at hn;by_cases h:(cY (x::(a++c::b)) 1 (if x.toNat=240 then 144 else 128) (if x.toNat=244 then 143 else 191) && cY (x::(a++c::b)) 2 128 191 && cY (x::(a++c::b)) 3 128 191)=true
     ·rw[if_pos h] at hn;rw[Bool.and_eq_true,Bool.and_eq_true] at h;have q1:=hx' _ _ _ (hlo _ _ (by omega)) h.1.1
      have q2:=hx' _ _ _ (by omega) h.1.2
      have q3:=hx' _ _ _ (by omega) h.2
      omega
     ·rw[if_neg h] at hn;omega
    ·rw[if_neg c4] at hn;omega
   have hd:(x::a++c::b).drop (bD (x::a++c::b))=(x::a).drop (bD (x::a++c::b))++c::b:=by rw[List.drop_append_of_le_length hle]
   obtain⟨k1,k2⟩:=ih hd.symm;refine⟨?_,k2⟩;have e:bD (x::a)=bD (x::a++c::b):=mH h1 fun i hi=>(List.getElem?_append_left (by omega)).symm
   exact .cons (by rw[e];exact h1) (by rw[e];exact k1)
theorem oE:∀(f:Nat) (l:List UInt8) (p:Nat),l.length≤f→dJ f l p=none→cL l
 |0,l,_,h,_=>by
  obtain rfl:l=[]:=List.eq_nil_of_length_eq_zero (by omega)
  exact .nil
 |f+1,l,p,h,hs=>by
  rw[dJ] at hs;split at hs
  ·rename_i h0;obtain rfl:l=[]:=List.eq_nil_of_length_eq_zero h0;exact .nil
  split at hs
  ·cases hs
  rename_i h1;exact .cons h1 (oE f _ _ (by rw[List.length_drop];omega) hs)
theorem KK(f:Nat):∀(pre l:List UInt8) (ts:List aV),eD f pre l=.ok ts→cL (pre++l)→∀t∈ts,t.sort=115→JZ t.text:=by
 induction f with
 |zero=>intro pre l ts h;cases h
 |succ f ih=>
  intro pre l ts h hx t ht hs;by_cases hl:l.length=0
  ·rw[lG _ _ _ hl] at h;cases h;rw[List.mem_singleton.1 ht] at hs;cases hs
  ·cases hk:(bU l).ok
   ·rw[lH _ _ _ hl hk] at h;cases h
   ·rw[kV _ _ _ hl hk _ rfl] at h;generalize hm:(bU l).size+blankL l.length (l.drop (bU l).size)=m at h;cases hy:eD f (pre++l.take m) (l.drop m) with
    |error n=>rw[hy] at h;cases h
    |ok us=>
     rw[hy] at h;cases h;rcases List.mem_cons.1 ht with rfl|ht
     ·cases l with
      |nil=>simp at hl
      |cons c r=>
       rw[bU] at hs hk ⊢
       by_cases h1:(dW c || eV c)=true
       ·rw[if_pos h1] at hs;exfalso;unfold gB at hs;split at hs
        ·simp only at hs;split at hs<;>omega
        ·simp at hs
       rw[if_neg h1] at hs hk ⊢
       by_cases h2:c.toNat=34
       ·rw[if_pos h2] at hk ⊢
        simp only[mN,Bool.and_eq_true,decide_eq_true_eq] at hk;refine⟨by simp only[mN,List.length_take];omega,?_⟩
        have hr:r=r.take (bI eU r)++34::r.drop (bI eU r+1):=by
         obtain⟨hlt,hg⟩:=List.getElem?_eq_some_iff.1 hk.1;conv=>lhs;rw[←List.take_append_drop (bI eU r) r,List.drop_eq_getElem_cons hlt,hg]
        have h3:=(hx.split (by omega)).2
        rw[hr] at h3;exact(h3.split (by decide)).1
       ·rw[if_neg h2] at hs;exfalso;unfold gA at hs;split at hs<;>simp at hs
     ·exact ih _ _ us hy (by rw[List.append_assoc,List.take_append_drop];exact hx) t ht hs
theorem CG{l:List UInt8}{ts:List aV}(h:fY l=.ok ts)(hs:dJ l.length l 0=none):qB ts:=fun p hp=>by
 unfold aO at hp ⊢
 cases ht:ts[p]? with
 |none=>rw[ht] at hp;cases hp
 |some t=>
  rw[ht] at hp;exact KK _ _ _ _ h (by rw[List.take_append_drop];exact oE _ _ _ (Nat.le_refl _) hs) t (List.mem_of_getElem? ht) hp
theorem tK{l:List UInt8}{ks:List aC}(h:cR l=.ok ks):∀f∈ks,qC f:=by
 unfold cR at h;split at h
 ·cases h
 split at h
 ·cases h
 rename_i hsp;split at h
 ·cases h
 rename_i ts ht;split at h
 ·cases h
 rename_i q hp;cases h;exact pI (fun q=>QG (fun q'=>wC (fun q=>AK ts (CG ht hsp) _ q) _ q') q) _ _ _ eI.nil _ _ hp
theorem nY(s:aX)(l k:Nat)(h:s.kind≠0):(s.found l k).kind≠0:=by unfold aX.found;rw[if_neg h];exact h
theorem oN(s:aX)(n:aC)(h:s.kind≠0):(declaresL s n).kind≠0:=by
 unfold declaresL;split
 ·exact nY _ _ _ h
 ·exact h
theorem MH(fs:List aC)(alone:Bool)(s:aX)(n:aC)(h:s.kind≠0):(bY fs alone s n).kind≠0:=by
 unfold bY dX;repeat' split
 all_goals first|exact nY _ _ _ h|exact h
theorem gH{f:aX→aC→aX}(hf:∀s k,s.kind≠0→(f s k).kind≠0):∀(l:List aC) (s:aX),s.kind≠0→(l.foldl f s).kind≠0
 |[],_,h=>h
 |k::l,s,h=>gH hf l _ (hf s k h)
theorem fA(fs:List aC)(alone:Bool):∀(d:Nat) (n:aC) (s:aX),s.kind≠0→(aM fs alone d n s).kind≠0
 |0,_,_,h=>h
 |d+1,n,s,h=>by
  rw[aM];split
  ·split
   ·exact fA fs alone d _ _ (oN s _ h)
   ·exact h
  ·have h1:(n.kids.foldl (fun s k=>aM fs alone d k s) (bY fs alone s n)).kind≠0:=gH (fun s k hs=>fA fs alone d k s hs) _ _ (MH fs alone s n h)
   simp only;split<;>exact h1
theorem ExOk.up{fs:List aC}{alone:Bool}{seen:List (List UInt8)}:∀{d e:Nat} {a:aC},ExOk fs alone seen d a→d≤e→ExOk fs alone seen e a
 |0,_,_,h,_=>h.elim
 |d+1,0,_,_,h=>by omega
 |d+1,e+1,a,h,hde=>by
  have up:∀k,ExOk fs alone seen d k→ExOk fs alone seen e k:=fun k hk=>ExOk.up hk (by omega)
  rcases h with h|h|⟨h0,hk⟩|⟨h0,l,r,hk,hl,hr⟩|⟨h0,l,hk,hl⟩|⟨h0,hk,hc⟩|⟨h0,l,r,hk,hl,hr⟩
  ·exact Or.inl h
  ·exact Or.inr (Or.inl h)
  ·exact Or.inr (Or.inr (Or.inl ⟨h0,fun k h=>up k (hk k h)⟩))
  ·exact Or.inr (Or.inr (Or.inr (Or.inl ⟨h0,l,r,hk,up l hl,up r hr⟩)))
  ·exact Or.inr (Or.inr (Or.inr (Or.inr (Or.inl ⟨h0,l,hk,up l hl⟩))))
  ·exact Or.inr (Or.inr (Or.inr (Or.inr (Or.inr (Or.inl ⟨h0,fun k h=>up k (hk k h),hc⟩)))))
  ·exact Or.inr (Or.inr (Or.inr (Or.inr (Or.inr (Or.inr ⟨h0,l,r,hk,up l hl,up r hr⟩)))))
theorem StsOk.up{S S':List (List UInt8)→aC→Prop}(h:∀s a,S s a→S' s a):∀{l:List aC} {seen:List (List UInt8)},StsOk S seen l→StsOk S' seen l
 |[],_,_=>trivial
 |_::_,_,h'=>⟨h _ _ h'.1,StsOk.up h h'.2⟩
theorem dI.up{fs:List aC}:∀{d e:Nat} {seen:List (List UInt8)} {a:aC},dI fs d seen a→d≤e→dI fs e seen a
 |0,_,_,_,h,_=>h.elim
 |d+1,0,_,_,_,h=>by omega
 |d+1,e+1,seen,a,h,hde=>by
  have up:∀k,ExOk fs false seen d k→ExOk fs false seen e k:=fun k hk=>hk.up (by omega)
  have ups:∀l,StsOk (dI fs d) seen l→StsOk (dI fs e) seen l:=fun l hl=>hl.up fun s a h=>dI.up h (by omega)
  rcases h with ⟨h0,hb,t,v,hk,hv,hx⟩|⟨h0,hx,hne,hk⟩|⟨h0,c,t,hk,hc,ht⟩|⟨h0,c,b,hk,hc,hb⟩|⟨h0,hk|⟨v,hk,hv⟩⟩|⟨h0,v,hk,hv⟩|⟨h0,v,hk,hv⟩
  ·exact Or.inl ⟨h0,hb,t,v,hk,up v hv,hx⟩
  ·exact Or.inr (Or.inl ⟨h0,hx,hne,fun k h=>up k (hk k h)⟩)
  ·exact Or.inr (Or.inr (Or.inl ⟨h0,c,t,hk.imp id fun ⟨x,h1,h2⟩=>⟨x,h1,ups _ h2⟩,up c hc,ups _ ht⟩))
  ·exact Or.inr (Or.inr (Or.inr (Or.inl ⟨h0,c,b,hk,up c hc,ups _ hb⟩)))
  ·exact Or.inr (Or.inr (Or.inr (Or.inr (Or.inl ⟨h0,Or.inl hk⟩))))
  ·exact Or.inr (Or.inr (Or.inr (Or.inr (Or.inl ⟨h0,Or.inr ⟨v,hk,up v hv⟩⟩))))
  ·exact Or.inr (Or.inr (Or.inr (Or.inr (Or.inr (Or.inl ⟨h0,v,hk,up v hv⟩)))))
  ·exact Or.inr (Or.inr (Or.inr (Or.inr (Or.inr (Or.inr ⟨h0,v,hk,up v hv⟩)))))
theorem gM{s:aX}{l k:Nat}(hk:k≠0)(h:(s.found l k).kind=0):False:=by
 unfold aX.found at h;split at h
 ·exact hk h
 ·rename_i h0;exact h0 h
theorem sJ{f:aC}{name:List UInt8}:∀{fs:List aC},dG fs name=some f→fs[cU fs name]?=some f
 |[],h=>by simp[dG] at h
 |x::l,h=>by
  unfold dG cU at*;rw[List.find?_cons] at h;rw[List.findIdx_cons];cases hx:(x.text==name) with
  |true=>rw[hx] at h;simp at h;simp[h]
  |false=>
   rw[hx] at h;simp only[cond_false,List.getElem?_cons_succ];exact sJ (fs:=l) h
def lT(fs:List aC)(alone:Bool)(d:Nat)(a:aC):Prop:=
 ∀sn,(aM fs alone d a ⟨sn,0,0⟩).kind=0→aM fs alone d a ⟨sn,0,0⟩=⟨sn,0,0⟩∧ExOk fs alone sn.reverse d a
theorem iT{fs:List aC}{alone:Bool}{d:Nat}:∀(l:List aC) (sn:List (List UInt8)),(∀k∈l,lT fs alone d k)→(l.foldl (fun s k=>aM fs alone d k s) ⟨sn,0,0⟩).kind=0→
 l.foldl (fun s k=>aM fs alone d k s) ⟨sn,0,0⟩=⟨sn,0,0⟩∧∀k∈l,ExOk fs alone sn.reverse d k
 |[],sn,_,_=>⟨rfl,fun k hk=>by cases hk⟩
 |a::l,sn,h,hz=>by
  rw[List.foldl_cons] at hz ⊢
  have h0:(aM fs alone d a ⟨sn,0,0⟩).kind=0:=Decidable.byContradiction fun hne=>gH (fun s k hs=>fA fs alone d k s hs) l _ hne hz
  obtain⟨h1,h2⟩:=h a (List.mem_cons_self ..) sn h0;rw[h1] at hz ⊢
  obtain⟨h3,h4⟩:=iT l sn (fun k hk=>h k (List.mem_cons_of_mem _ hk)) hz
  refine⟨h3,fun k hk=>?_⟩
  rcases List.mem_cons.1 hk with rfl|hk
  ·exact h2
  ·exact h4 k hk
theorem fF{fs:List aC}{alone:Bool}{d:Nat}{n:aC}{s:aX}(h1:n.op≠[118,97,114])(h2:n.op≠[98,108,111,99,107]):aM fs alone (d+1) n s=n.kids.foldl (fun s k=>aM fs alone d k s) (bY fs alone s n):=by
 rw[aM];rw[if_neg (by simpa using h1)]
 simp only;rw[if_neg (by simpa using h2)]
theorem look_plain{fs:List aC}{alone:Bool}{n:aC}{s:aX}(h1:n.op≠[115,101,116])(h2:n.op≠[110,97,109,101])(h3:n.op≠[99,97,108,108]):bY fs alone s n=s:=by
 unfold bY;rw[if_neg (by simp[h1,h2]),if_neg (by simpa using h3)]
theorem nK{fs:List aC}{alone:Bool}(hfs:∀f∈fs,f.kids≠[])(hal:alone=true→fs=[]):∀(d:Nat) (a:aC),cX a→eS d a→lT fs alone d a
 |0,_,_,h=>h.elim
 |d+1,a,ha,hd=>by
  intro sn hz
  have two:∀(l r:aC),a.kids=[l,r]→cX l→cX r→∀k∈a.kids,lT fs alone d k:=fun l r hk hl hr k hk'=>by
   have hdk:=hd k hk';rw[hk] at hk';rcases List.mem_cons.1 hk' with rfl|hk'
   ·exact nK hfs hal d _ hl hdk
   ·obtain rfl:=List.mem_singleton.1 hk';exact nK hfs hal d _ hr hdk
  have hbl:a.op≠[118,97,114]∧a.op≠[98,108,111,99,107]:=by
   cases ha with
   |leaf _ h=>rcases h with h|h|h|h<;>rw[h]<;>decide
   |many _ h=>rcases h with h|h<;>rw[h]<;>decide
   |one _ l h=>rcases h with h|h<;>rw[h]<;>decide
   |two _ l r h=>
    rcases h with h|h
    ·rw[h];decide
    ·exact⟨fun e=>by rw[e] at h;exact h (by decide),fun e=>by rw[e] at h;exact h (by decide)⟩
  rw[fF hbl.1 hbl.2] at hz ⊢
  have hl0:(bY fs alone ⟨sn,0,0⟩ a).kind=0:=Decidable.byContradiction fun hne=>gH (fun s k hs=>fA fs alone d k s hs) a.kids _ hne hz
  cases ha with
  |leaf _ h hk=>
   rw[hk] at hz ⊢
   simp only[List.foldl_nil] at hz ⊢
   rcases h with h|h|h|h
   ·exact⟨look_plain (by rw[h];decide) (by rw[h];decide) (by rw[h];decide),Or.inl ⟨Or.inl h,hk⟩⟩
   ·exact⟨look_plain (by rw[h];decide) (by rw[h];decide) (by rw[h];decide),Or.inl ⟨Or.inr (Or.inl h),hk⟩⟩
   ·exact⟨look_plain (by rw[h];decide) (by rw[h];decide) (by rw[h];decide),Or.inl ⟨Or.inr (Or.inr h),hk⟩⟩
   ·unfold bY at hl0 ⊢
    rw[if_pos (by simp[h])] at hl0 ⊢
    split at hl0
    ·rename_i hc;rw[if_pos hc];exact⟨rfl,Or.inr (Or.inl ⟨h,hk,by simpa using hc⟩)⟩
    ·exact(gM (by decide) hl0).elim
  |many _ h hk=>
   have hg:∀k∈a.kids,lT fs alone d k:=fun k hk'=>nK hfs hal d k (hk k hk') (hd k hk')
   rcases h with h|h
   ·rw[look_plain (by rw[h];decide) (by rw[h];decide) (by rw[h];decide)] at hz ⊢
    obtain⟨h1,h2⟩:=iT a.kids sn hg hz;exact⟨h1,Or.inr (Or.inr (Or.inl ⟨h,h2⟩))⟩
   ·have e:bY fs alone ⟨sn,0,0⟩ a=dX fs alone ⟨sn,0,0⟩ a:=by unfold bY;rw[if_neg (by simp[h]),if_pos (by simp[h])]
    rw[e] at hz hl0 ⊢
    unfold dX at hz hl0 ⊢
    split at hl0
    ·exact(gM (by decide) hl0).elim
    rename_i hw;rw[if_neg hw] at hz ⊢
    split at hl0
    ·exact(gM (by decide) hl0).elim
    rename_i hw2;rw[if_neg hw2] at hz ⊢
    obtain⟨h1,h2⟩:=iT a.kids sn hg hz;refine⟨h1,Or.inr (Or.inr (Or.inr (Or.inr (Or.inr (Or.inl ⟨h,h2,?_⟩)))))⟩;simp only[ne_eq,Decidable.not_not] at hw2;unfold kX at hw hw2;by_cases hlen:a.text=[108,101,110]
    ·rw[if_pos (by simp[hlen])] at hw2
     exact Or.inl ⟨hlen,by omega⟩
    rw[if_neg (by simp[hlen])] at hw hw2
    by_cases hread:a.text=[114,101,97,100]∧alone=false
    ·rw[if_pos (by simp[hread])] at hw2
     exact Or.inr (Or.inl ⟨hread.1,hread.2,by omega⟩)
    have hread':¬((a.text==[114,101,97,100] && !alone)=true):=by
     intro hh;simp at hh;exact hread hh
    rw[if_neg hread'] at hw hw2;cases hf:dG fs a.text with
    |none=>rw[hf] at hw;simp at hw
    |some f=>
     rw[hf] at hw hw2;simp only at hw hw2;have hmem:f∈fs:=List.mem_of_find?_eq_some hf;have hne:=hfs f hmem;have hpos:0<f.kids.length:=List.length_pos_iff.2 hne
     have hal':alone=false:=by
      cases alone with
      |false=>rfl
      |true=>rw[hal rfl] at hmem;cases hmem
     refine Or.inr (Or.inr ⟨hlen,fun hr=>hread ⟨hr,hal'⟩,hal',?_⟩)
     unfold fI;rw[sJ hf];simp;omega
  |one _ l h hk hl=>
   have hg:∀k∈a.kids,lT fs alone d k:=fun k hk'=>by
    have hdk:=hd k hk';rw[hk] at hk';obtain rfl:=List.mem_singleton.1 hk';exact nK hfs hal d _ hl hdk
   rw[look_plain (by rcases h with h|h<;>rw[h]<;>decide) (by rcases h with h|h<;>rw[h]<;>decide) (by rcases h with h|h<;>rw[h]<;>decide)] at hz ⊢
   obtain⟨h1,h2⟩:=iT a.kids sn hg hz;exact⟨h1,Or.inr (Or.inr (Or.inr (Or.inr (Or.inl ⟨h,l,hk,h2 l (by rw[hk];simp)⟩))))⟩
  |two _ l r h hk hl hr=>
   have hp:bY fs alone ⟨sn,0,0⟩ a=⟨sn,0,0⟩:=by
    rcases h with h|h
    ·exact look_plain (by rw[h];decide) (by rw[h];decide) (by rw[h];decide)
    ·exact look_plain (fun e=>by rw[e] at h;exact h (by decide)) (fun e=>by rw[e] at h;exact h (by decide)) (fun e=>by rw[e] at h;exact h (by decide))
   rw[hp] at hz ⊢
   obtain⟨h1,h2⟩:=iT a.kids sn (two l r hk hl hr) hz;refine⟨h1,?_⟩;rcases h with h|h
   ·exact Or.inr (Or.inr (Or.inr (Or.inl ⟨h,l,r,hk,h2 l (by rw[hk];simp),h2 r (by rw[hk];simp)⟩)))
   ·exact Or.inr (Or.inr (Or.inr (Or.inr (Or.inr (Or.inr ⟨h,l,r,hk,h2 l (by rw[hk];simp),h2 r (by rw[hk];simp)⟩)))))
def qO(fs:List aC)(d:Nat)(a:aC):Prop:=
 ∀sn,sn.length+bS d a≤90000→(aM fs false d a ⟨sn,0,0⟩).kind=0→∃sn',aM fs false d a ⟨sn,0,0⟩=⟨sn',0,0⟩∧sn'.reverse=cK sn.reverse a∧dI fs d sn.reverse a∧sn'.length≤sn.length+bS d a∧sn=sn'.take sn.length
theorem vX{fs:List aC}{d:Nat}:∀(l:List aC) (sn:List (List UInt8)),(∀k∈l,qO fs d k)→sn.length+(l.map (bS d)).sum≤90000→(l.foldl (fun s k=>aM fs false d k s) ⟨sn,0,0⟩).kind=0→
 ∃sn',l.foldl (fun s k=>aM fs false d k s) ⟨sn,0,0⟩=⟨sn',0,0⟩∧StsOk (dI fs d) sn.reverse l∧sn'.length≤sn.length+(l.map (bS d)).sum∧sn=sn'.take sn.length
 |[],sn,_,_,_=>⟨sn,rfl,trivial,by simp,by simp⟩
 |a::l,sn,h,hw,hz=>by
  rw[List.foldl_cons] at hz ⊢
  simp only[List.map_cons,List.sum_cons] at hw ⊢
  have h0:(aM fs false d a ⟨sn,0,0⟩).kind=0:=Decidable.byContradiction fun hne=>gH (fun s k hs=>fA fs false d k s hs) l _ hne hz
  obtain⟨s1,h1,h2,h3,h4,h5⟩:=h a (List.mem_cons_self ..) sn (by omega) h0
  rw[h1] at hz ⊢
  obtain⟨s2,h6,h7,h8,h9⟩:=vX l s1 (fun k hk=>h k (List.mem_cons_of_mem _ hk)) (by omega) hz
  refine⟨s2,h6,⟨h3,by rw[←h2];exact h7⟩,by omega,?_⟩
  have hle:sn.length≤s1.length:=by have:=congrArg List.length h5;simp only[List.length_take] at this;omega
  have e:s1.take sn.length=s2.take sn.length:=by
   conv=>lhs;rw[h9]
   rw[List.take_take];congr 1;omega
  rw[←e];exact h5
theorem CE{fs:List aC}{d:Nat}{b:aC}{sn sn':List (List UInt8)}(hb:b.op=[98,108,111,99,107])(h:b.kids.foldl (fun s k=>aM fs false d k s) ⟨sn,0,0⟩=⟨sn',0,0⟩)(hs:sn=sn'.take sn.length):aM fs false (d+1) b ⟨sn,0,0⟩=⟨sn,0,0⟩:=by
 rw[aM,if_neg (by simp[hb])]
 have:bY fs false ⟨sn,0,0⟩ b=⟨sn,0,0⟩:=look_plain (by rw[hb];decide) (by rw[hb];decide) (by rw[hb];decide)
 simp only[this,h];rw[if_pos (by simp[hb])]
 congr 1
 exact hs.symm
theorem rT{fs:List aC}{d:Nat}{b:aC}{sn:List (List UInt8)}(hb:b.op=[98,108,111,99,107])(h:(aM fs false (d+1) b ⟨sn,0,0⟩).kind=0):(b.kids.foldl (fun s k=>aM fs false d k s) ⟨sn,0,0⟩).kind=0:=by
 rw[aM,if_neg (by simp[hb])] at h
 have:bY fs false ⟨sn,0,0⟩ b=⟨sn,0,0⟩:=look_plain (by rw[hb];decide) (by rw[hb];decide) (by rw[hb];decide)
 simp only[this] at h;rw[if_pos (by simp[hb])] at h
 exact h
theorem jE{fs:List aC}{d:Nat}{b:aC}{sn:List (List UInt8)}(hb:b.op=[98,108,111,99,107])(hg:∀k∈b.kids,qO fs d k)(hw:sn.length+bS (d+1) b≤90000)(h:(aM fs false (d+1) b ⟨sn,0,0⟩).kind=0):
 aM fs false (d+1) b ⟨sn,0,0⟩=⟨sn,0,0⟩∧StsOk (dI fs d) sn.reverse b.kids:=by
 rw[bS] at hw;obtain⟨s',h1,h2,h3,h4⟩:=vX b.kids sn hg (by omega) (rT hb h)
 exact⟨CE hb h1 h4,h2⟩
theorem KI{fs:List aC}{d:Nat}{a x y:aC}{s:aX}(hk:a.kids=[x,y])(h1:a.op≠[118,97,114])(h2:a.op≠[98,108,111,99,107])(hl:bY fs false s a=s):aM fs false (d+1) a s=aM fs false d y (aM fs false d x s):=by
 rw[fF h1 h2,hl,hk];rfl
theorem YS{fs:List aC}{d:Nat}{a x y z:aC}{s:aX}(hk:a.kids=[x,y,z])(h1:a.op≠[118,97,114])(h2:a.op≠[98,108,111,99,107])(hl:bY fs false s a=s):aM fs false (d+1) a s=aM fs false d z (aM fs false d y (aM fs false d x s)):=by
 rw[fF h1 h2,hl,hk];rfl
theorem EL{d:Nat}{a k:aC}(h:k∈a.kids):bS d k+1≤bS (d+1) a:=by
 rw[bS]
 have:∀l:List aC,k∈l→bS d k≤(l.map (bS d)).sum:=by
  intro l;induction l with
  |nil=>intro h;cases h
  |cons x l ih=>
   intro h;simp only[List.map_cons,List.sum_cons];rcases List.mem_cons.1 h with rfl|h
   ·omega
   ·have:=ih h;omega
 have:=this _ h;omega
theorem EQ{fs:List aC}(hfs:∀f∈fs,f.kids≠[]):∀(d:Nat) (a:aC),fW a→eS d a→qO fs d a
 |0,_,_,h=>h.elim
 |1,a,ha,hd=>by
  have hno:∀k∈a.kids,False:=fun k hk=>hd k hk
  intro sn hw hz;cases ha with
  |var _ t v h hk hv=>exact(hno t (by rw[hk];simp)).elim
  |set _ h hn hk=>cases hkk:a.kids with|nil=>exact(hn hkk).elim|cons x l=>exact(hno x (by rw[hkk];simp)).elim
  |if2 _ c t h hk=>exact(hno c (by rw[hk];simp)).elim
  |if3 _ c t x h hk=>exact(hno c (by rw[hk];simp)).elim
  |whl _ c t h hk=>exact(hno c (by rw[hk];simp)).elim
  |ret1 _ v h hk=>exact(hno v (by rw[hk];simp)).elim
  |print _ v h hk=>exact(hno v (by rw[hk];simp)).elim
  |call _ c h hk=>exact(hno c (by rw[hk];simp)).elim
  |ret0 _ h hk=>
   have hl:bY fs false ⟨sn,0,0⟩ a=⟨sn,0,0⟩:=look_plain (by rw[h];decide) (by rw[h];decide) (by rw[h];decide)
   refine⟨sn,by rw[fF (by rw[h];decide) (by rw[h];decide),hl,hk];rfl,by unfold cK;rw[if_neg (by rw[h];decide)],?_,by omega,by simp⟩
   exact Or.inr (Or.inr (Or.inr (Or.inr (Or.inl ⟨h,Or.inl hk⟩))))
 |d+2,a,ha,hd=>by
  intro sn hw hz;have hex:∀k,k∈a.kids→cX k→lT fs false (d+1) k:=fun k hk he=>nK hfs (fun h=>by cases h) (d+1) k he (hd k hk)
  have hbk:∀k,k∈a.kids→(∀x∈k.kids,fW x)→∀x∈k.kids,qO fs d x:=fun k hk hs x hx=>EQ hfs d x (hs x hx) (hd k hk x hx)
  have hwk:∀k,k∈a.kids→sn.length+bS (d+1) k≤90000:=fun k hk=>by have:bS (d+1) k+1≤bS (d+2) a:=EL (d:=d+1) hk;omega
  have noseen:a.op≠[118,97,114]→sn.reverse=cK sn.reverse a:=fun h=>by unfold cK;rw[if_neg h]
  cases ha with
  |var _ t v h hk hv=>
   have e:aM fs false (d+2) a ⟨sn,0,0⟩={ aM fs false (d+1) v (declaresL ⟨sn,0,0⟩ t) with seen:=(aM fs false (d+1) v (declaresL ⟨sn,0,0⟩ t)).seen++[t.text] }:=by
    rw[aM,if_pos (by simp[h]),hk]
   rw[e] at hz ⊢
   have hd0:(declaresL ⟨sn,0,0⟩ t).kind=0:=Decidable.byContradiction fun hne=>fA fs false (d+1) v _ hne hz
   obtain⟨hd1,hns⟩:declaresL ⟨sn,0,0⟩ t=⟨sn,0,0⟩∧t.text∉sn:=by
    unfold declaresL at hd0 ⊢
    split at hd0
    ·exact(gM (by decide) hd0).elim
    ·rename_i hh;rw[if_neg hh];simp at hh;exact⟨rfl,hh.2⟩
   rw[hd1] at hz ⊢
   obtain⟨h1,h2⟩:=hex v (by rw[hk];simp) hv sn hz
   rw[h1];have hwa:bS (d+1) v+1≤bS (d+2) a:=EL (d:=d+1) (a:=a) (k:=v) (by rw[hk];simp)
   refine⟨sn++[t.text],rfl,?_,Or.inl ⟨h,by simp;omega,t,v,hk,h2,by simpa using hns⟩,by simp;omega,by simp⟩
   unfold cK;rw[if_pos h,hk];simp
  |set _ h hn hk=>
   rw[fF (by rw[h];decide) (by rw[h];decide)] at hz ⊢
   have hl0:(bY fs false ⟨sn,0,0⟩ a).kind=0:=Decidable.byContradiction fun hne=>gH (fun s k hs=>fA fs false (d+1) k s hs) a.kids _ hne hz
   have hl:bY fs false ⟨sn,0,0⟩ a=⟨sn,0,0⟩∧a.text∈sn:=by
    unfold bY at hl0 ⊢
    rw[if_pos (by simp[h])] at hl0 ⊢
    split at hl0
    ·rename_i hc;rw[if_pos hc];exact⟨rfl,by simpa using hc⟩
    ·exact(gM (by decide) hl0).elim
   rw[hl.1] at hz ⊢
   obtain⟨h1,h2⟩:=iT a.kids sn (fun k hk'=>hex k hk' (hk k hk')) hz
   exact⟨sn,h1,noseen (by rw[h];decide),Or.inr (Or.inl ⟨h,by simpa using hl.2,hn,h2⟩),by omega,by simp⟩
  |if2 _ c t h hk hc ht htk=>
   have hl:bY fs false ⟨sn,0,0⟩ a=⟨sn,0,0⟩:=look_plain (by rw[h];decide) (by rw[h];decide) (by rw[h];decide)
   rw[KI hk (by rw[h];decide) (by rw[h];decide) hl] at hz ⊢
   have h0:(aM fs false (d+1) c ⟨sn,0,0⟩).kind=0:=Decidable.byContradiction fun hne=>fA fs false (d+1) t _ hne hz
   obtain⟨h1,h2⟩:=hex c (by rw[hk];simp) hc sn h0
   rw[h1] at hz ⊢
   obtain⟨h3,h4⟩:=jE ht (hbk t (by rw[hk];simp) htk) (hwk t (by rw[hk];simp)) hz
   exact⟨sn,h3,noseen (by rw[h];decide),Or.inr (Or.inr (Or.inl ⟨h,c,t,Or.inl hk,h2,h4.up fun s a h=>h.up (by omega)⟩)),by omega,by simp⟩
  |if3 _ c t x h hk hc ht htk hx hxk=>
   have hl:bY fs false ⟨sn,0,0⟩ a=⟨sn,0,0⟩:=look_plain (by rw[h];decide) (by rw[h];decide) (by rw[h];decide)
   rw[YS hk (by rw[h];decide) (by rw[h];decide) hl] at hz ⊢
   have h00:(aM fs false (d+1) t (aM fs false (d+1) c ⟨sn,0,0⟩)).kind=0:=Decidable.byContradiction fun hne=>fA fs false (d+1) x _ hne hz
   have h0:(aM fs false (d+1) c ⟨sn,0,0⟩).kind=0:=Decidable.byContradiction fun hne=>fA fs false (d+1) t _ hne h00
   obtain⟨h1,h2⟩:=hex c (by rw[hk];simp) hc sn h0
   rw[h1] at hz h00 ⊢
   obtain⟨h3,h4⟩:=jE ht (hbk t (by rw[hk];simp) htk) (hwk t (by rw[hk];simp)) h00
   rw[h3] at hz ⊢
   obtain⟨h5,h6⟩:=jE hx (hbk x (by rw[hk];simp) hxk) (hwk x (by rw[hk];simp)) hz
   exact⟨sn,h5,noseen (by rw[h];decide),Or.inr (Or.inr (Or.inl ⟨h,c,t,Or.inr ⟨x,hk,h6.up fun s a h=>h.up (by omega)⟩,h2,h4.up fun s a h=>h.up (by omega)⟩)),by omega,by simp⟩
  |whl _ c t h hk hc ht htk=>
   have hl:bY fs false ⟨sn,0,0⟩ a=⟨sn,0,0⟩:=look_plain (by rw[h];decide) (by rw[h];decide) (by rw[h];decide)
   rw[KI hk (by rw[h];decide) (by rw[h];decide) hl] at hz ⊢
   have h0:(aM fs false (d+1) c ⟨sn,0,0⟩).kind=0:=Decidable.byContradiction fun hne=>fA fs false (d+1) t _ hne hz
   obtain⟨h1,h2⟩:=hex c (by rw[hk];simp) hc sn h0
   rw[h1] at hz ⊢
   obtain⟨h3,h4⟩:=jE ht (hbk t (by rw[hk];simp) htk) (hwk t (by rw[hk];simp)) hz
   exact⟨sn,h3,noseen (by rw[h];decide),Or.inr (Or.inr (Or.inr (Or.inl ⟨h,c,t,hk,h2,h4.up fun s a h=>h.up (by omega)⟩))),by omega,by simp⟩
  |ret0 _ h hk=>
   have hl:bY fs false ⟨sn,0,0⟩ a=⟨sn,0,0⟩:=look_plain (by rw[h];decide) (by rw[h];decide) (by rw[h];decide)
   refine⟨sn,by rw[fF (by rw[h];decide) (by rw[h];decide),hl,hk];rfl,noseen (by rw[h];decide),?_,by omega,by simp⟩
   exact Or.inr (Or.inr (Or.inr (Or.inr (Or.inl ⟨h,Or.inl hk⟩))))
  |ret1 _ v h hk hv=>
   have hl:bY fs false ⟨sn,0,0⟩ a=⟨sn,0,0⟩:=look_plain (by rw[h];decide) (by rw[h];decide) (by rw[h];decide)
   rw[fF (by rw[h];decide) (by rw[h];decide),hl,hk] at hz ⊢
   simp only[List.foldl_cons,List.foldl_nil] at hz ⊢
   obtain⟨h1,h2⟩:=hex v (by rw[hk];simp) hv sn hz
   exact⟨sn,h1,noseen (by rw[h];decide),Or.inr (Or.inr (Or.inr (Or.inr (Or.inl ⟨h,Or.inr ⟨v,hk,h2⟩⟩)))),by omega,by simp⟩
  |print _ v h hk hv=>
   have hl:bY fs false ⟨sn,0,0⟩ a=⟨sn,0,0⟩:=look_plain (by rw[h];decide) (by rw[h];decide) (by rw[h];decide)
   rw[fF (by rw[h];decide) (by rw[h];decide),hl,hk] at hz ⊢
   simp only[List.foldl_cons,List.foldl_nil] at hz ⊢
   obtain⟨h1,h2⟩:=hex v (by rw[hk];simp) hv sn hz
   exact⟨sn,h1,noseen (by rw[h];decide),Or.inr (Or.inr (Or.inr (Or.inr (Or.inr (Or.inl ⟨h,v,hk,h2⟩))))),by omega,by simp⟩
  |call _ v h hk hv=>
   have hl:bY fs false ⟨sn,0,0⟩ a=⟨sn,0,0⟩:=look_plain (by rw[h];decide) (by rw[h];decide) (by rw[h];decide)
   rw[fF (by rw[h];decide) (by rw[h];decide),hl,hk] at hz ⊢
   simp only[List.foldl_cons,List.foldl_nil] at hz ⊢
   obtain⟨h1,h2⟩:=hex v (by rw[hk];simp) hv sn hz
   exact⟨sn,h1,noseen (by rw[h];decide),Or.inr (Or.inr (Or.inr (Or.inr (Or.inr (Or.inr ⟨h,v,hk,h2⟩))))),by omega,by simp⟩
def fO:aC→Nat
 |⟨_,_,_,kids⟩=>1+(kids.attach.map fun ⟨k,_⟩=>fO k).sum
theorem jT(a:aC):fO a=1+(a.kids.map fO).sum:=by
 obtain⟨op,line,text,kids⟩:=a;rw[fO];congr 2
 simp
theorem wG:∀(d:Nat) (a:aC),eS d a→fO a≤bS d a
 |0,_,h=>h.elim
 |d+1,a,h=>by
  rw[jT,bS]
  have:∀l:List aC,(∀k∈l,fO k≤bS d k)→(l.map fO).sum≤(l.map (bS d)).sum:=by
   intro l;induction l with
   |nil=>intro _;simp
   |cons x l ih=>
    intro h;simp only[List.map_cons,List.sum_cons];have h1:=h x (List.mem_cons_self ..);have h2:=ih fun k hk=>h k (List.mem_cons_of_mem _ hk)
    omega
  have:=this a.kids fun k hk=>wG d k (h k hk)
  omega
theorem pE{c:aC→Nat→List aH}{m:Nat}(h:∀a p,(c a p).length≤m*fO a):∀(l:List aC) (p:Nat),(bO c l p).length≤m*(l.map fO).sum
 |[],_=>by simp[bO]
 |a::l,p=>by
  simp only[bO,List.length_append,List.map_cons,List.sum_cons,Nat.mul_add];have h1:=h a p;have h2:=pE h l (p+(c a p).length);omega
theorem lM(fs:List aC)(seen:List (List UInt8)):∀(d:Nat) (a:aC) (p:Nat),(aG fs seen d a p).length≤2*fO a
 |0,_,_=>by simp[aG]
 |d+1,a,p=>by
  have hk:=pE (m:=2) (fun a p=>lM fs seen d a p) a.kids p
  have hn:=jT a;have h1:=fun l q=>lM fs seen d l q
  rw[aG];simp only;generalize bO (aG fs seen d) a.kids p=ks at hk ⊢
  generalize (if (a.text==[108,101,110])=true then aH.length else if (a.text==[114,101,97,100])=true then aH.read else aH.call (cU fs a.text) a.kids.length)=last
  generalize aG fs seen d=E at*;have one:∀i:aH,(ks++[i]).length≤2*fO a:=fun i=>by simp only[List.length_append,List.length_cons,List.length_nil];omega
  have lone:∀i:aH,([i]:List aH).length≤2*fO a:=fun i=>by simp only[List.length_cons,List.length_nil];omega
  by_cases c1:(a.op==[48])=true
  ·rw[if_pos c1];exact lone _
  rw[if_neg c1];by_cases c2:(a.op==[115])=true
  ·rw[if_pos c2];exact lone _
  rw[if_neg c2];by_cases c3:(a.op==[98,111,111,108])=true
  ·rw[if_pos c3];exact lone _
  rw[if_neg c3];by_cases c4:(a.op==[110,97,109,101])=true
  ·rw[if_pos c4];exact lone _
  rw[if_neg c4];by_cases c5:(a.op==[108,105,115,116])=true
  ·rw[if_pos c5];exact one _
  rw[if_neg c5];by_cases c6:(a.op==[105,110,100,101,120])=true
  ·rw[if_pos c6];exact one _
  rw[if_neg c6];by_cases c7:(a.op==[45,120])=true
  ·rw[if_pos c7];exact one _
  rw[if_neg c7];by_cases c8:(a.op==[33,120])=true
  ·rw[if_pos c8];exact one _
  rw[if_neg c8];by_cases c9:(a.op==[99,97,108,108])=true
  ·rw[if_pos c9];exact one _
  rw[if_neg c9];by_cases c10:(a.op==[38,38] || a.op==[124,124])=true
  ·rw[if_pos c10];split
   ·rename_i l r hkk;have h2:=h1 l p;have h3:=h1 r (p+(E l p).length+1);rw[hkk] at hn;simp only[List.map_cons,List.map_nil,List.sum_cons,List.sum_nil] at hn;simp only[List.length_append,List.length_cons,List.length_nil];omega
   ·simp
  ·rw[if_neg c10];exact one _
theorem oZ{c:List (List UInt8)→aC→Nat→List aH × List (List UInt8)}{m:Nat}(h:∀s a p,(c s a p).1.length≤m*fO a):∀(l:List aC) (s:List (List UInt8)) (p:Nat),(bF c s l p).length≤m*(l.map fO).sum
 |[],_,_=>by simp[bF]
 |a::l,s,p=>by
  simp only[bF,List.length_append,List.map_cons,List.sum_cons,Nat.mul_add];have h1:=h s a p;have h2:=oZ h l (c s a p).2 (p+(c s a p).1.length);omega
theorem zW(fs:List aC):∀(d:Nat) (seen:List (List UInt8)) (a:aC) (p:Nat),(bA fs d seen a p).1.length≤3*fO a
 |0,_,_,_=>by simp[bA]
 |d+1,seen,a,p=>by
  have hn:=jT a;have hs:=fun (b:aC) q=>oZ (m:=3) (fun s a p=>zW fs d s a p) b.kids seen q
  have he:=fun (x:aC) q=>lM fs seen d x q
  have hb:=fun (b:aC)=>jT b
  rw[bA];simp only;repeat' split
  all_goals try simp only[List.length_append,List.length_cons,List.length_nil]
  all_goals try omega
  ·rename_i t v hkk;have h1:=he v (p+1);rw[hkk] at hn;simp only[List.map_cons,List.map_nil,List.sum_cons,List.sum_nil] at hn;omega
  ·have h1:=pE (m:=2) (fun a p=>lM fs seen d a p) a.kids (p+1)
   omega
  ·rename_i c t _ x hkk;have h1:=he c (p+1);have h2:=hs t (p+1+(aG fs seen d c (p+1)).length+1);have h3:=hb t;have h4:=hb x;have h5:=hs x (p+1+(aG fs seen d c (p+1)).length+1+(bF (bA fs d) seen t.kids (p+1+(aG fs seen d c (p+1)).length+1)).length+1);rw[hkk] at hn;simp only[List.map_cons,List.map_nil,List.sum_cons,List.sum_nil] at hn;omega
  ·rename_i c t _ hkk _ _;have h1:=he c (p+1);have h2:=hs t (p+1+(aG fs seen d c (p+1)).length+1);have h3:=hb t;rw[hkk] at hn;simp only[List.map_cons,List.sum_cons] at hn;omega
  ·rename_i c t hkk;have h1:=he c (p+1);have h2:=hs t (p+1+(aG fs seen d c (p+1)).length+1);have h3:=hb t;rw[hkk] at hn;simp only[List.map_cons,List.map_nil,List.sum_cons,List.sum_nil] at hn;omega
  all_goals
   rename_i v hkk;have h1:=he v (p+1);rw[hkk] at hn;simp only[List.map_cons,List.map_nil,List.sum_cons,List.sum_nil] at hn;omega
theorem mP(fs:List aC)(d:Nat)(s:aX)(k:aC)(h:s.kind≠0):(eE fs d s k).kind≠0:=by
 unfold eE;split
 ·exact oN s k h
 ·exact fA fs false d k s h
theorem NR(fs:List aC)(d:Nat)(s:aX)(n:aC)(first:Bool)(h:s.kind≠0):(fP fs d s n first).kind≠0:=by
 unfold fP;refine gH (fun s k hs=>mP fs d s k hs) _ _ ?_
 show (if _ then _ else _:aX).kind≠0
 split
 ·exact nY _ _ _ h
 ·exact h
theorem CA(fs:List aC)(d:Nat):∀(rest pre:List aC) (s:aX),s.kind≠0→(eP fs d pre rest s).kind≠0
 |[],_,_,h=>h
 |n::rest,pre,s,h=>CA fs d rest (pre++[n]) _ (NR fs d s n _ h)
theorem pM{fs:List aC}{d:Nat}:∀(ps:List aC) (sn:List (List UInt8)),(∀x∈ps,x.op=[112,97,114,97,109])→(ps.foldl (eE fs d) ⟨sn,0,0⟩).kind=0→ps.foldl (eE fs d) ⟨sn,0,0⟩=⟨sn++ps.map (·.text),0,0⟩∧(sn.Nodup→(sn++ps.map (·.text)).Nodup)
 |[],sn,_,_=>by simp
 |a::l,sn,h,hz=>by
  rw[List.foldl_cons] at hz ⊢
  have hp:eE fs d ⟨sn,0,0⟩ a={ declaresL ⟨sn,0,0⟩ a with seen:=(declaresL ⟨sn,0,0⟩ a).seen++[a.text] }:=by unfold eE;rw[if_pos (by simp[h a (List.mem_cons_self ..)])]
  have h0:(eE fs d ⟨sn,0,0⟩ a).kind=0:=Decidable.byContradiction fun hne=>gH (fun s k hs=>mP fs d s k hs) l _ hne hz
  have hd0:(declaresL ⟨sn,0,0⟩ a).kind=0:=by rw[hp] at h0;exact h0
  obtain⟨hd1,hns⟩:declaresL ⟨sn,0,0⟩ a=⟨sn,0,0⟩∧a.text∉sn:=by
   unfold declaresL at hd0 ⊢
   split at hd0
   ·exact(gM (by decide) hd0).elim
   ·rename_i hh;rw[if_neg hh];simp at hh;exact⟨rfl,hh.2⟩
  rw[hp,hd1] at hz ⊢
  obtain⟨g1,g2⟩:=pM l (sn++[a.text]) (fun x hx=>h x (List.mem_cons_of_mem _ hx)) hz
  rw[g1];have e:sn++[a.text]++l.map (·.text)=sn++(a::l).map (·.text):=by simp
  rw[e] at g2 ⊢
  refine⟨rfl,fun hn=>g2 ?_⟩
  rw[List.nodup_append];exact⟨hn,by simp,fun x hx y hy=>by rw[List.mem_singleton.1 hy];exact fun e=>hns (e▸hx)⟩
theorem NA{fs:List aC}(hfs:∀f∈fs,qC f){d:Nat}{f:aC}(hf:qC f)(hd:eS (d+3) f)(hw:∀e,bS e f≤2001){sn:List (List UInt8)}{first:Bool}(hz:(fP fs (d+2) ⟨sn,0,0⟩ f first).kind=0):jG fs (d+2) f∧∃s',fP fs (d+2) ⟨sn,0,0⟩ f first=⟨s',0,0⟩:=by
 obtain⟨ps,b,hk,hps,hb,_⟩:=hf.kids;have hne:∀f∈fs,f.kids≠[]:=fun f hf=>by obtain⟨ps,b,hk,_⟩:=(hfs f hf).kids;rw[hk];simp
 unfold fP at hz ⊢
 have h0:({ (if fK f.text || !first then aX.found ⟨sn,0,0⟩ f.line 6 else ⟨sn,0,0⟩) with seen:=[] }:aX).kind=0:=Decidable.byContradiction fun hne=>gH (fun s k hs=>mP fs (d+2) s k hs) f.kids _ hne hz
 have hs0:({ (if fK f.text || !first then aX.found ⟨sn,0,0⟩ f.line 6 else ⟨sn,0,0⟩) with seen:=[] }:aX)=⟨[],0,0⟩:=by
  split at h0
  ·exact(gM (by decide) h0).elim
  ·rename_i hh;rw[if_neg hh]
 rw[hs0,hk,List.foldl_append,List.foldl_cons,List.foldl_nil] at hz ⊢
 have hp0:(ps.foldl (eE fs (d+2)) ⟨[],0,0⟩).kind=0:=Decidable.byContradiction fun hne=>mP fs (d+2) _ b hne hz
 obtain⟨hpg,hnd⟩:=pM ps [] hps hp0;have hnd:=hnd List.nodup_nil;rw[List.nil_append] at hpg hnd;rw[hpg] at hz ⊢
 have hpb:eE fs (d+2) ⟨ps.map (·.text),0,0⟩ b=aM fs false (d+2) b ⟨ps.map (·.text),0,0⟩:=by unfold eE;rw[if_neg (by simp[hb.op])]
 rw[hpb] at hz ⊢
 have hbd:eS (d+2) b:=hd b (by rw[hk];simp)
 have hwf:=hw (d+3);rw[bS,hk] at hwf
 have hpl:∀l:List aC,l.length≤(l.map (bS (d+2))).sum:=by
  intro l;induction l with
  |nil=>simp
  |cons x l ih=>simp only[List.map_cons,List.sum_cons,List.length_cons,bS];simp only[bS] at ih;omega
 have:=hpl ps;simp only[List.map_append,List.sum_append,List.map_cons,List.map_nil,List.sum_cons,List.sum_nil] at hwf;obtain⟨h1,h2⟩:=jE hb.op (fun k hk'=>EQ hne (d+1) k (hb.kids k hk') (hbd k hk')) (by show (ps.map (·.text)).length+bS (d+2) b≤_;simp only[List.length_map];omega) hz
 refine⟨⟨⟨ps,b,hk,h2.up fun s a h=>h.up (by omega),hnd⟩,?_⟩,_,h1⟩
 have hn:=wG _ _ hd;have hw3:=hw (d+3);have hl:(bF (bA fs (d+2)) (ps.map (·.text)).reverse b.kids 0).length≤3*(b.kids.map fO).sum:=oZ (m:=3) (fun s a p=>zW fs (d+2) s a p) b.kids (ps.map (·.text)).reverse 0
 have hnf:=jT f;rw[hk] at hnf;have hnb:=jT b;simp only[List.map_append,List.sum_append,List.map_cons,List.map_nil,List.sum_cons,List.sum_nil] at hnf;have hc:(fD fs (d+2) f).code.length=(bF (bA fs (d+2)) (ps.map (·.text)).reverse b.kids 0).length+2:=by simp[fD,hk]
 omega
theorem wQ{fs:List aC}(hfs:∀f∈fs,qC f){d:Nat}:∀(rest pre:List aC) (sn:List (List UInt8)),(∀f∈rest,f∈fs∧eS (d+3) f∧∀e,bS e f≤2001)→(eP fs (d+2) pre rest ⟨sn,0,0⟩).kind=0→∀f∈rest,jG fs (d+2) f
 |[],_,_,_,_,f,hf=>by cases hf
 |n::rest,pre,sn,h,hz,f,hf=>by
  rw[eP] at hz;have h0:(fP fs (d+2) ⟨sn,0,0⟩ n (dG pre n.text).isNone).kind=0:=Decidable.byContradiction fun hne=>CA fs (d+2) rest _ _ hne hz
  obtain⟨h1,h2,h3⟩:=h n (List.mem_cons_self ..);obtain⟨g1,s',g2⟩:=NA hfs (hfs n h1) h2 h3 h0;rw[g2] at hz;rcases List.mem_cons.1 hf with rfl|hf
  ·exact g1
  ·exact wQ hfs rest (pre++[n]) s' (fun f hf=>h f (List.mem_cons_of_mem _ hf)) hz f hf
theorem EK{e:Nat}{f:aC}:∀{l:List aC},f∈l→bS e f≤(l.map (bS e)).sum
 |x::l,h=>by
  simp only[List.map_cons,List.sum_cons];rcases List.mem_cons.1 h with rfl|h
  ·omega
  ·have:=EK (e:=e) h;omega
theorem FineL.mem{m:Nat}{l:List aC}{f:aC}(h:FineL m l)(hf:f∈l):FineA m f:=fun e=>⟨Nat.le_trans (EK hf) (h e).1,(h e).2 f hf⟩
theorem GZ{l:List UInt8}{ks:List aC}(hp:cR l=.ok ks)(hr:dF l=(0,0)):(∀f∈ks,jG ks 2001 f)∧fI ks (cU ks [109,97,105,110])=some 0:=by
 unfold dF at hr;rw[hp] at hr;simp only at hr;unfold jU at hr;have hS:=tK hp;have hF:=kC hp;have hone:∀f∈ks,FineA 2001 f:=fun f hf=>hF.mem hf
 split at hr
 ·cases hr
 rename_i m hm;split at hr
 ·cases hr
 rename_i hmk;have hz:(eP ks 2001 [] ks ⟨[],0,0⟩).kind=0:=by simp only[Prod.mk.injEq] at hr;exact hr.1
 refine⟨fun f hf=>wQ (d:=1999) hS ks [] [] (fun f hf=>⟨hf,?_,fun e=>((hone f hf) e).1⟩) hz f hf,?_⟩
 ·have:=mW 2002 f ((hone f hf).le (by omega))
  exact this
 ·unfold fI;rw[sJ hm];obtain⟨ps,b,hk,_⟩:=(hS m (List.mem_of_find?_eq_some hm)).kids;have:m.kids.length=ps.length+1:=by rw[hk];simp
  simp;omega
theorem FineL.len{m:Nat}{l:List aC}(h:FineL m l):l.length≤m:=by
 have h1:=(h 1).1
 have:∀l:List aC,l.length≤(l.map (bS 1)).sum:=by
  intro l;induction l with
  |nil=>simp
  |cons x l ih=>simp only[List.map_cons,List.sum_cons,List.length_cons];have:1≤bS 1 x:=by simp[bS]
                omega
 exact Nat.le_trans (this l) h1
theorem FineA.kids{m:Nat}{a:aC}(h:FineA m a):FineL m a.kids:=fun e=>by
 have h1:=(h (e+1)).1;simp only[bS] at h1;exact⟨by omega,(h (e+1)).2.2⟩
theorem wH{a:aC}(h:a.op≠[115])(hk:a.kids=[]):∀d,oQ d a
 |0=>trivial
 |d+1=>⟨fun e=>absurd e h,by simp[hk],fun k h=>by simp[hk] at h⟩
theorem iQ{m:Nat}(hm:m≤1000000):∀(d:Nat) (a:aC),FineA m a→cX a→oQ d a
 |0,_,_,_=>trivial
 |d+1,a,hf,he=>by
  refine⟨fun e=>?_,Nat.le_trans hf.kids.len hm,fun k hk=>iQ hm d k (hf.kids.mem hk) ?_⟩
  ·cases he with
   |leaf _ h hk ht=>exact ht e
   |many _ h hk=>rw[e] at h;exact absurd h (by decide)
   |one _ l h hk hl=>rw[e] at h;exact absurd h (by decide)
   |two _ l r h hk hl hr=>rw[e] at h;exact absurd h (by decide)
  ·cases he with
   |leaf _ h hk' ht=>rw[hk'] at hk;cases hk
   |many _ h hk'=>exact hk' k hk
   |one _ l h hk' hl=>rw[hk',List.mem_singleton] at hk;rw[hk];exact hl
   |two _ l r h hk' hl hr=>
    rw[hk'] at hk;rcases List.mem_cons.1 hk with rfl|hk
    ·exact hl
    ·rw[List.mem_singleton.1 hk];exact hr
theorem FF{m:Nat}(hm:m≤1000000):∀(d:Nat),(∀a,FineA m a→fW a→oQ d a)∧∀t,FineA m t→t.op=[98,108,111,99,107]→(∀k∈t.kids,fW k)→oQ d t
 |0=>⟨fun _ _ _=>trivial,fun _ _ _ _=>trivial⟩
 |d+1=>by
  obtain⟨h1,h2⟩:=FF hm d;refine⟨fun a hf hs=>⟨fun e=>?_,Nat.le_trans hf.kids.len hm,fun k hk=>?_⟩,fun t hf ho hk=>⟨fun e=>?_,Nat.le_trans hf.kids.len hm,fun k hk'=>h1 k (hf.kids.mem hk') (hk k hk')⟩⟩
  ·cases hs<;>rename_i h _<;>simp_all
  ·have hfk:=hf.kids.mem hk;cases hs with
   |var _ t v h hk' hv ht=>
    rw[hk'] at hk;rcases List.mem_cons.1 hk with rfl|hk
    ·exact wH (by rw[ht.1];decide) ht.2 d
    ·obtain rfl:=List.mem_singleton.1 hk;exact iQ hm d _ hfk hv
   |set _ h hn hk'=>exact iQ hm d k hfk (hk' k hk)
   |if2 _ c t h hk' hc ht htk=>
    rw[hk'] at hk;rcases List.mem_cons.1 hk with rfl|hk
    ·exact iQ hm d _ hfk hc
    ·obtain rfl:=List.mem_singleton.1 hk;exact h2 _ hfk ht htk
   |if3 _ c t x h hk' hc ht htk hx hxk=>
    rw[hk'] at hk;rcases List.mem_cons.1 hk with rfl|hk
    ·exact iQ hm d _ hfk hc
    rcases List.mem_cons.1 hk with rfl|hk
    ·exact h2 _ hfk ht htk
    ·obtain rfl:=List.mem_singleton.1 hk;exact h2 _ hfk hx hxk
   |whl _ c t h hk' hc ht htk=>
    rw[hk'] at hk;rcases List.mem_cons.1 hk with rfl|hk
    ·exact iQ hm d _ hfk hc
    ·obtain rfl:=List.mem_singleton.1 hk;exact h2 _ hfk ht htk
   |ret0 _ h hk'=>rw[hk'] at hk;cases hk
   |ret1 _ v h hk' hv=>rw[hk',List.mem_singleton] at hk;subst hk;exact iQ hm d _ hfk hv
   |print _ v h hk' hv=>rw[hk',List.mem_singleton] at hk;subst hk;exact iQ hm d _ hfk hv
   |call _ c h hk' hc ho=>rw[hk',List.mem_singleton] at hk;subst hk;exact iQ hm d _ hfk hc
  ·rw[ho] at e;cases e
theorem DH{l:List UInt8}{ks:List aC}(hp:cR l=.ok ks):∀f∈ks,∀k∈f.kids,lO k:=fun f hf k hk d=>by
 have hfk:FineA 2001 k:=((kC hp).mem hf).kids.mem hk;obtain⟨ps,b,e,h1,h2,h3⟩:=(tK hp f hf).kids;rw[e] at hk;rcases List.mem_append.1 hk with hk|hk
 ·exact wH (by rw[h1 k hk];decide) (h3 k hk) d
 ·obtain rfl:=List.mem_singleton.1 hk;exact(FF (by omega) d).2 _ hfk h2.op h2.kids
def mS(i:aH):Prop:=(∀v,i=.push v→bM v)∧∀op,i=.unary op→op=[45]∨op=[33]
theorem pF{P:aH→Prop}{c:aC→Nat→List aH}:∀(l:List aC) (p:Nat),(∀a∈l,∀q,∀i∈c a q,P i)→∀i∈bO c l p,P i
 |[],_,_,i,hi=>by cases hi
 |a::l,p,h,i,hi=>by
  rcases List.mem_append.1 hi with hi|hi
  ·exact h a (List.mem_cons_self ..) p i hi
  ·exact pF l _ (fun b hb=>h b (List.mem_cons_of_mem _ hb)) i hi
theorem gL{P:aH→Prop}{c:Prop}[Decidable c]{l m:List aH}(h1:c→∀i∈l,P i)(h2:∀i∈m,P i):∀i∈(if c then l else m),P i:=by
 split
 ·exact h1 ‹_›
 ·exact h2
theorem gF{P:aH→Prop}{l:List aH}{x:aH}(h1:∀i∈l,P i)(h2:P x):∀i∈l++[x],P i:=fun i h=>by
 rcases List.mem_append.1 h with h|h
 ·exact h1 i h
 ·rw[List.mem_singleton.1 h];exact h2
theorem nS{P:aH→Prop}{x:aH}(h:P x):∀i∈[x],P i:=gF (l:=[]) (fun _ h=>by cases h) h
theorem mD(fs:List aC)(seen:List (List UInt8)):∀(d:Nat) (a:aC) (p:Nat),lO a→∀i∈aG fs seen d a p,mS i
 |0,_,_,_=>fun i hi=>by cases hi
 |d+1,a,p,hl=>by
  have hk:∀i∈bO (aG fs seen d) a.kids p,mS i:=pF _ _ fun k hk q=>mD fs seen d k q (hl.kid hk)
  have hn:∀x:aH,(∀v,x≠.push v)→(∀op,x≠.unary op)→mS x:=fun x h1 h2=>⟨fun v e=>absurd e (h1 v),fun op e=>absurd e (h2 op)⟩
  have hs:a.op=[115]→cL a.text:=fun h=>((hl 1).1 h).2
  rw[aG];simp only;refine gL (fun _=>nS ⟨fun v e=>by cases e;exact bM.num _,fun op e=>by cases e⟩) ?_
  refine gL (fun h=>nS ⟨fun v e=>by cases e;exact bM.str (hs (by simpa using h)),fun op e=>by cases e⟩) ?_
  refine gL (fun _=>nS ⟨fun v e=>by cases e;exact bM.tru _,fun op e=>by cases e⟩) ?_
  refine gL (fun _=>nS (hn _ (by simp) (by simp))) ?_
  refine gL (fun _=>gF hk (hn _ (by simp) (by simp))) ?_
  refine gL (fun _=>gF hk (hn _ (by simp) (by simp))) ?_
  refine gL (fun _=>gF hk ⟨fun v e=>by (cases e),fun op e=>by cases e;exact Or.inl rfl⟩) ?_
  refine gL (fun _=>gF hk ⟨fun v e=>by (cases e),fun op e=>by cases e;exact Or.inr rfl⟩) ?_
  refine gL (fun _=>gF hk ?_) ?_
  ·repeat' split
   all_goals exact hn _ (by simp) (by simp)
  refine gL (fun _=>?_) (gF hk (hn _ (by simp) (by simp)))
  split
  ·rename_i l r e;refine gF (fun i hi=>?_) (hn _ (by simp) (by simp))
   rcases List.mem_append.1 hi with hi|hi
   ·exact gF (mD fs seen d l _ (hl.kid (by rw[e];simp))) (hn _ (by simp) (by simp)) i hi
   ·exact mD fs seen d r _ (hl.kid (by rw[e];simp)) i hi
  ·intro i hi;cases hi
theorem pB{P:aH→Prop}{c:List (List UInt8)→aC→Nat→List aH × List (List UInt8)}:∀(l:List aC) (seen:List (List UInt8)) (p:Nat),(∀a∈l,∀s q,∀i∈(c s a q).1,P i)→∀i∈bF c seen l p,P i
 |[],_,_,_,i,hi=>by cases hi
 |a::l,seen,p,h,i,hi=>by
  rcases List.mem_append.1 hi with hi|hi
  ·exact h a (List.mem_cons_self ..) seen p i hi
  ·exact pB l _ _ (fun b hb=>h b (List.mem_cons_of_mem _ hb)) i hi
theorem KU(fs:List aC):∀(d:Nat) (seen:List (List UInt8)) (a:aC) (p:Nat),lO a→∀i∈(bA fs d seen a p).1,mS i
 |0,_,_,_,_,i,hi=>by cases hi
 |d+1,seen,a,p,hl,i,hi=>by
  have hx:∀{k:aC} {q:Nat},k∈a.kids→i∈aG fs seen d k q→mS i:=fun hk h=>mD fs seen d _ _ (hl.kid hk) i h
  have hb:∀{k:aC} {q:Nat},k∈a.kids→i∈bF (bA fs d) seen k.kids q→mS i:=fun hk h=>pB _ _ _ (fun x hx s q=>KU fs d s x q ((hl.kid hk).kid hx)) i h
  have hn:∀{x:aH},(∀v,x≠.push v)→(∀op,x≠.unary op)→i=x→mS i:=fun h1 h2 e=>⟨fun v hv=>absurd (e▸hv) (h1 v),fun op ho=>absurd (e▸ho) (h2 op)⟩
  rw[bA] at hi;dsimp only at hi;split at hi
  ·split at hi
   ·rename_i t v e;simp only[List.mem_append,List.mem_cons,List.not_mem_nil,or_false,List.cons_append] at hi;rcases hi with h|h|h
    ·exact hn (by simp) (by simp) h
    ·exact hx (by rw[e];simp) h
    ·exact hn (by simp) (by simp) h
   ·cases hi
  split at hi
  ·simp only[List.mem_append,List.mem_cons,List.not_mem_nil,or_false,List.cons_append] at hi;rcases hi with h|h|h
   ·exact hn (by simp) (by simp) h
   ·exact pF _ _ (fun k hk q=>mD fs seen d k q (hl.kid hk)) i h
   ·exact hn (by simp) (by simp) h
  split at hi
  ·split at hi
   ·rename_i c t e he;simp only[List.mem_append,List.mem_cons,List.not_mem_nil,or_false,List.cons_append] at hi;rcases hi with h|(((h|h)|h)|h)|h
    ·exact hn (by simp) (by simp) h
    ·exact hx (by rw[he];simp) h
    ·exact hn (by simp) (by simp) h
    ·exact hb (by rw[he];simp) h
    ·exact hn (by simp) (by simp) h
    ·split at h
     ·exact hb (by rw[he];simp) h
     ·cases h
   ·cases hi
  split at hi
  ·split at hi
   ·rename_i c b e;simp only[List.mem_append,List.mem_cons,List.not_mem_nil,or_false,List.cons_append] at hi;rcases hi with h|((h|h)|h)|h
    ·exact hn (by simp) (by simp) h
    ·exact hx (by rw[e];simp) h
    ·exact hn (by simp) (by simp) h
    ·exact hb (by rw[e];simp) h
    ·exact hn (by simp) (by simp) h
   ·cases hi
  split at hi
  ·split at hi
   ·rename_i v e;simp only[List.mem_append,List.mem_cons,List.not_mem_nil,or_false,List.cons_append] at hi;rcases hi with h|h|h
    ·exact hn (by simp) (by simp) h
    ·exact hx (by rw[e];simp) h
    ·exact hn (by simp) (by simp) h
   ·simp only[List.mem_cons,List.not_mem_nil,or_false] at hi;rcases hi with h|h|h
    ·exact hn (by simp) (by simp) h
    ·rw[h];exact⟨fun v e=>by cases e;exact bM.num _,fun op e=>by cases e⟩
    ·exact hn (by simp) (by simp) h
  split at hi
  ·split at hi
   ·rename_i v e;simp only[List.mem_append,List.mem_cons,List.not_mem_nil,or_false,List.cons_append] at hi;rcases hi with h|h|h
    ·exact hn (by simp) (by simp) h
    ·exact hx (by rw[e];simp) h
    ·exact hn (by simp) (by simp) h
   ·cases hi
  ·split at hi
   ·rename_i c e;simp only[List.mem_append,List.mem_cons,List.not_mem_nil,or_false,List.cons_append] at hi;rcases hi with h|h|h
    ·exact hn (by simp) (by simp) h
    ·exact hx (by rw[e];simp) h
    ·exact hn (by simp) (by simp) h
   ·cases hi
theorem PE{ks:List aC}{d:Nat}(h:∀f∈ks,∀k∈f.kids,lO k):iW (dK ks d):=fun g hg=>by
 obtain⟨f,hf,rfl⟩:=List.mem_map.1 hg
 have hall:∀i∈(fD ks d f).code,mS i:=fun i hi=>by
  simp only[fD,List.mem_append,List.mem_cons,List.not_mem_nil,or_false] at hi;rcases hi with hi|rfl|rfl
  ·cases hb:f.kids.getLast? with
   |none=>rw[hb] at hi;cases hi
   |some b=>
    rw[hb] at hi;exact pB _ _ _ (fun k hk s q=>KU ks d s k q ((h f hf b (List.mem_of_getLast? hb)).kid hk)) i hi
  ·exact⟨fun v e=>by cases e;exact bM.num _,fun op e=>by cases e⟩
  ·exact⟨fun v e=>by (cases e),fun op e=>by cases e⟩
 exact⟨fun v hv=>(hall _ hv).1 v rfl,fun op ho=>(hall _ ho).2 op rfl⟩
theorem stC_seen{fs:List aC}{d:Nat}{seen:List (List UInt8)}{a:aC}{p:Nat}(h:dI fs d seen a):(bA fs d seen a p).2=cK seen a:=
 (lV fs d seen a (fun _ _=>False) p h ⟨fun _ _ _ h=>h.elim,fun _ _ h=>h.elim⟩).2.1
theorem FZ:∃k:Nat,16*320000+2≤k:=⟨_,Nat.le_refl _⟩
noncomputable def iZ:Nat:=Classical.choose FZ
theorem FY:16*320000+2≤iZ:=Classical.choose_spec FZ
noncomputable def fG(tab:List eJ)(m0:cM):Nat→Option bW
 |0=>(dN tab iZ m0).map fun r=>⟨0,r.1,bQ 0 r.2⟩
 |t+1=>
  match fG tab m0 t with
  |none=>none
  |some s=>if s.stop=0 then (dN tab iZ s.m).map fun r=>⟨t+1,r.1,bQ (t+1) r.2⟩ else none
structure OP(ar:Nat→Option Nat)(s:bW):Prop where
 told:∀x∈s.m.frames,x.seen.length≤x.vars.length
 deep:s.m.frames.length≤16
 ok:s.stop=0→fC ar s.m∧s.m.frames≠[]
 time:s.time≤500
theorem OX{ar:Nat→Option Nat}{m:cM}(h:fC ar m):∃k,wgts m.frames≤m.frames.length*k∧k=320000:=by
 have hone:∀f∈m.frames,iY f≤320000:=fun f hf=>by
  have hc:f.fn.code.length≤80000:=by
   rcases List.eq_nil_or_concat m.frames with h'|⟨b,x,h'⟩
   ·rw[h'] at hf;cases hf
   ·rw[List.concat_eq_append] at h';have h1:=h.ok.low;have h2:=h.ok.top x (by rw[h'];exact eW _ _)
    rw[h',fQ] at h1;rw[h'] at hf;rcases List.mem_append.1 hf with hf|hf
    ·obtain⟨T,hT,_⟩:=(h1 f hf).code;exact hT.len
    ·obtain⟨T,hT,_⟩:=h2.code;rw[List.mem_singleton.1 hf];exact hT.len
  unfold iY;split
  ·omega
  ·split<;>omega
 have:∀l:List aK,(∀f∈l,iY f≤320000)→wgts l≤l.length*320000:=by
  intro l;induction l with
  |nil=>intro _;simp[wgts]
  |cons x l ih=>
   intro h;have h1:=h x (List.mem_cons_self ..);have h2:=ih fun f hf=>h f (List.mem_cons_of_mem _ hf)
   unfold wgts at h2 ⊢
   simp only[List.map_cons,List.sum_cons,List.length_cons,Nat.succ_mul];omega
 exact⟨320000,this m.frames hone,rfl⟩
theorem nO{ar:Nat→Option Nat}{tab:List eJ}(ht:jF ar tab){m:cM}(h:fC ar m):∃r,dN tab iZ m=some r∧KE ar r:=
 kO ht iZ m h (by
  obtain⟨k,h1,h2⟩:=OX h;have h3:=Nat.mul_le_mul_right k h.ok.deep;have:=FY;omega)
theorem zX{ar:Nat→Option Nat}{tab:List eJ}(ht:jF ar tab){m0:cM}(h0:fC ar m0):∀(t:Nat) (s:bW),fG tab m0 t=some s→OP ar s∧s.time=t
 |0,s,h=>by
  obtain⟨r,hr,hc⟩:=nO ht h0;simp only[fG,hr,Option.map_some,Option.some.injEq] at h;subst h
  exact⟨⟨hc.told,hc.deep,fun hz=>hc.ok (by simp only[bQ] at hz;split at hz;·simp at hz
                                           ·exact hz),by simp⟩,rfl⟩
 |t+1,s,h=>by
  rw[fG] at h;cases hs:fG tab m0 t with
  |none=>rw[hs] at h;cases h
  |some s0=>
   rw[hs] at h;simp only at h;obtain⟨k1,k2⟩:=zX ht h0 t s0 hs;split at h
   ·rename_i hz;obtain⟨r,hr,hc⟩:=nO ht (k1.ok hz).1;rw[hr] at h;simp only[Option.map_some,Option.some.injEq] at h;subst h
    refine⟨⟨hc.told,hc.deep,fun hz'=>hc.ok (by simp only[bQ] at hz';split at hz';·simp at hz'
                                               ·exact hz'),?_⟩,rfl⟩
    show t+1≤500
    have ht5:t≠500:=by
     intro e;cases t with
     |zero=>simp at e
     |succ u=>
      rw[fG] at hs;cases hu:fG tab m0 u with
      |none=>rw[hu] at hs;cases hs
      |some su=>
       rw[hu] at hs;simp only at hs;split at hs
       ·cases hru:dN tab iZ su.m with
        |none=>rw[hru] at hs;cases hs
        |some ru=>
         rw[hru] at hs;simp only[Option.map_some,Option.some.injEq] at hs;subst hs;simp only[bQ] at hz;split at hz
         ·simp at hz
         ·rename_i hno;exact hno ⟨hz,e⟩
       ·cases hs
    have:=k1.time;omega
   ·cases h
theorem vU{tab:List eJ}{r:cM × Nat}(j:Nat):∀(k:Nat) (m:cM),dN tab k m=some r→dN tab (k+j) m=some r
 |0,_,h=>by cases h
 |k+1,m,h=>by
  rw[show k+1+j=(k+j)+1 by omega]
  rw[dN] at h ⊢
  cases hl:m.frames.getLast? with
  |none=>rw[hl] at h;exact h
  |some f=>
   rw[hl] at h;simp only at h ⊢
   cases hf:f.fetch with
   |none=>rw[hf] at h;cases h
   |some ig=>
    rw[hf] at h;simp only at h ⊢
    split at h
    ·rename_i h1;rw[if_pos h1];exact h
    rename_i h1;rw[if_neg h1];split at h
    ·rename_i h2;rw[if_pos h2];exact h
    rename_i h2;rw[if_neg h2];exact vU j k _ h
noncomputable def tH(tab:List eJ)(k:Nat):Nat→Nat→cM→Option bW
 |0,_,_=>none
 |n+1,t,m=>
  match dN tab k m with
  |none=>none
  |some r=>if r.2=0∧t≠500 then tH tab k n (t+1) r.1 else some ⟨t,r.1,bQ t r.2⟩
theorem AH{tab:List eJ}{m0:cM}{k:Nat}(hk:k≤iZ){z:bW}:∀(n t:Nat) (m:cM),tH tab k n t m=some z→(∀r,dN tab iZ m=some r→fG tab m0 t=some ⟨t,r.1,bQ t r.2⟩)→fG tab m0 z.time=some z
 |0,_,_,h,_=>by cases h
 |n+1,t,m,h,hs=>by
  rw[tH] at h;cases hr:dN tab k m with
  |none=>rw[hr] at h;cases h
  |some r=>
   rw[hr] at h;simp only at h
   have hb:dN tab iZ m=some r:=by
    have:=vU (iZ-k) k m hr;rwa [show k+(iZ-k)=iZ by omega] at this
   have h0:=hs r hb;split at h
   ·rename_i hc;refine AH hk n (t+1) r.1 h fun r' hr'=>?_
    have hz:bQ t r.2=0:=by unfold bQ;rw[if_neg (by omega)];exact hc.1
    rw[fG,h0];simp only[hz,if_true,hr',Option.map_some]
   ·cases h;exact h0
def nL(src:List UInt8)(t:Nat)(out:List (List UInt8)):Prop:=∃ks tp,cR src=.ok ks∧dF src=(0,0)∧fG (dK ks 2001) (gG ks 2001 []) t=some ⟨t,⟨[],tp,out⟩,1⟩
noncomputable def tP(src:List UInt8)(t:Nat)(out:List (List UInt8)):Bool:=
 match cR src with
 |.error _=>false
 |.ok ks=>
  decide (jU 2001 ks=(0,0)) && match tH (dK ks 2001) 100 200 0 (gG ks 2001 []) with
   |none=>false
   |some z=>z.time==t && (z.stop==1 && (z.m.frames.isEmpty && z.m.out==out))
theorem BF{src:List UInt8}{t:Nat}{out:List (List UInt8)}(h:tP src t out=true):nL src t out:=by
 unfold tP at h;cases hp:cR src with
 |error e=>rw[hp] at h;cases h
 |ok ks=>
  rw[hp] at h;simp only[Bool.and_eq_true,decide_eq_true_eq] at h;obtain⟨h1,h2⟩:=h;cases hz:tH (dK ks 2001) 100 200 0 (gG ks 2001 []) with
  |none=>rw[hz] at h2;cases h2
  |some z=>
   rw[hz] at h2;simp only[Bool.and_eq_true,beq_iff_eq,List.isEmpty_iff] at h2;have:=AH (m0:=gG ks 2001 []) (by have:=FY;omega) 200 0 _ hz fun r hr=>by rw[fG,hr];rfl
   obtain⟨zt,⟨zf,ztp,zo⟩,zs⟩:=z;simp only at h2 this;obtain⟨rfl,rfl,rfl,rfl⟩:=h2;exact⟨ks,ztp,hp,by unfold dF;rw[hp];exact h1,this⟩
def yI(k:Nat):List UInt8:=[102,117,110,99,32,109,97,105,110,40,41,32,123,32,118,97,114,32,105,32,61,32,48,59,32,118,97,114,32,115,32,61,32,48,59,32,119,104,105,108,101,32,105,32,60,32]++cA k++[32,123,32,105,32,61,32,105,32,43,32,49,59,32,115,32,61,32,115,32,43,32,105,59,32,125,32,112,114,105,110,116,32,115,59,32,125]
def yJ(k:Nat):List UInt8:=[102,117,110,99,32,102,40,110,41,32,123,32,105,102,32,110,32,61,61,32,48,32,123,32,114,101,116,117,114,110,32,48,59,32,125,32,114,101,116,117,114,110,32,110,32,43,32,102,40,110,32,45,32,49,41,59,32,125,32,102,117,110,99,32,109,97,105,110,40,41,32,123,32,112,114,105,110,116,32,102,40]++cA k++[41,59,32,125]
theorem IP:∀k,k<40→nL (yI k) (4+3*k) [cA ((k*(k+1)/2:Nat):Int)]:=by
 have h:((List.range 40).all fun k=>tP (yI k) (4+3*k) [cA ((k*(k+1)/2:Nat):Int)])=true:=by decide+kernel
 exact fun k hk=>BF (List.all_eq_true.1 h k (List.mem_range.2 hk))
theorem EC:∀k,k<15→nL (yJ k) (3+2*k) [cA ((k*(k+1)/2:Nat):Int)]:=by
 have h:((List.range 15).all fun k=>tP (yJ k) (3+2*k) [cA ((k*(k+1)/2:Nat):Int)])=true:=by decide+kernel
 exact fun k hk=>BF (List.all_eq_true.1 h k (List.mem_range.2 hk))
theorem digitsF_len(f:Nat):∀(n:Nat) (t:List UInt8),(digitsF f n t).length≤f+t.length:=by
 induction f with
 |zero=>intro n t;simp[digitsF]
 |succ f ih=>
  intro n t;simp only[digitsF];split
  ·simp;omega
  ·have:=ih (n/10) (UInt8.ofNat (48+n%10)::t);rw[List.length_cons] at this;omega
end Go.Proofs.YtblbkfdhjfppkaaGreatDoor.Hs
