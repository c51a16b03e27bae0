/- The machine does what the document's run does: plain facts: blocks, the whole run. -/
import Derived.Test.YtddnpoiiimjpcaaGreatDoorP02
set_option linter.defProp false
set_option maxRecDepth 100000
namespace Go.Proofs.YtddnpoiiimjpcaaGreatDoor.Hs
def stC_seen{fs:List aC}{d:Nat}{seen:cO}{a:aC}{p:Nat}(h:dS fs d seen a):(bC fs d seen a p).2=cU seen a:=
 (mM fs d seen a (fun _ _=>False) p h ⟨fun _ _ _ h=>h.elim,fun _ _ h=>h.elim⟩).2.1
def GP:∃k:Nat,16*320000+2<=k:=⟨_,dH⟩
noncomputable def jR:Nat:=Classical.choose GP
def GO:16*320000+2<=jR:=Classical.choose_spec GP
noncomputable def fT(tab:List eV)(m0:cT):Nat->Option cD
 |0=>(dY tab jR m0).map fun r=>⟨0,r.1,bU 0 r.2⟩
 |t+1=>
  match fT tab m0 t with
  |none=>none
  |some s=>if s.stop=0 then (dY tab jR s.m).map fun r=>⟨t+1,r.1,bU (t+1) r.2⟩ else none
structure PF(ar:Nat->Option Nat)(s:cD):Prop where
 told:∀x∈s.m.frames,x.seen.length<=x.vars.length
 deep:s.m.frames.length<=16
 ok:s.stop=0->fQ ar s.m/\s.m.frames≠[]
 time:s.time<=500
def PO{ar:Nat->Option Nat}{m:cT}(h:fQ ar m):∃k,wgts m.frames<=m.frames.length*k/\k=320000:=by
 have d:∀f∈m.frames,jQ f<=320000:=fun f a=>by
  have n:f.fn.code.length<=80000:=by
   rcases y8 m.frames with c|⟨b,x,c⟩
   ·rw[c] at a;cases a
   ·rw[y9] at c;have i:=h.ok.low;have e:=h.ok.top x (by rw[c];exact fJ _ _)
    rw[c,gE] at i;rw[c] at a;rcases Z2.1 a with a|a
    ·obtain⟨T,g,_⟩:=(i f a).code;exact g.len
    ·obtain⟨T,g,_⟩:=e.code;rw[Z1.1 a];exact g.len
  unfold jQ;split
  ·omega
  ·split<;>omega
 have:∀l:List aJ,(∀f∈l,jQ f<=320000)->wgts l<=l.length*320000:=by
  intro l;induction l with
  |nil=>intro _;simp[wgts]
  |cons x l j=>
   intro h;have i:=h x (j0 ..);have e:=j fun f a=>h f (b8 _ a)
   unfold wgts at e ⊢
   simp only[b9,d9,Y9,Nat.succ_mul];omega
 exact⟨320000,this m.frames d,rfl⟩
def oE{ar:Nat->Option Nat}{a:List eV}(b:jX ar a){m:cT}(h:fQ ar m):∃r,dY a jR m=some r/\KU ar r:=
 lH b jR m h (by
  obtain⟨k,d,c⟩:=PO h;have e:=Nat.mul_le_mul_right k h.ok.deep;have:=GO;omega)
def AO{ar:Nat->Option Nat}{b:List eV}(j:jX ar b){m0:cT}(m:fQ ar m0):∀(t:Nat) (s:cD),fT b m0 t=some s->PF ar s/\s.time=t
 |0,s,h=>by
  obtain⟨r,k,f⟩:=oE j m;simp only[fT,k,z8,Option.some.injEq] at h;subst h
  exact⟨⟨f.told,f.deep,fun c=>f.ok (by simp only[bU] at c;split at c;·simp at c
                                       ·exact c),by simp⟩,rfl⟩
 |t+1,s,h=>by
  rw[fT] at h;cases a:fT b m0 t with
  |none=>rw[a] at h;cases h
  |some p=>
   rw[a] at h;simp only at h;obtain⟨l,v⟩:=AO j m t p a;split at h
   ·rename_i c;obtain⟨r,k,f⟩:=oE j (l.ok c).1;rw[k] at h;simp only[z8,Option.some.injEq] at h;subst h
    refine⟨⟨f.told,f.deep,fun d=>f.ok (by simp only[bU] at d;split at d;·simp at d
                                          ·exact d),?_⟩,rfl⟩
    show t+1<=500
    have q:t≠500:=by
     intro e;cases t with
     |zero=>simp at e
     |succ u=>
      rw[fT] at a;cases n:fT b m0 u with
      |none=>rw[n] at a;cases a
      |some o=>
       rw[n] at a;simp only at a;split at a
       ·cases g:dY b jR o.m with
        |none=>rw[g] at a;cases a
        |some w=>
         rw[g] at a;simp only[z8,Option.some.injEq] at a;subst a;simp only[bU] at c;split at c
         ·simp at c
         ·rename_i i;exact i ⟨c,e⟩
       ·cases a
    have:=l.time;omega
   ·cases h
end Go.Proofs.YtddnpoiiimjpcaaGreatDoor.Hs
