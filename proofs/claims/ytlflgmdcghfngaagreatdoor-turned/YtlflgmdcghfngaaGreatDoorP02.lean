/- Plain: how a program's run is reckoned out; the two programs of Gauss. -/
import Derived.Test.YtlflgmdcghfngaaGreatDoorP01
set_option linter.defProp false
set_option maxRecDepth 100000
namespace Go.Proofs.YtlflgmdcghfngaaGreatDoor.Hs
def AE{a:List eV}{r:cS × Nat}(j:Nat):∀(k:Nat) (m:cS),dR a k m=some r->dR a (k+j) m=some r
 |0,_,h=>by cases h
 |k+1,m,h=>by
  rw[show k+1+j=(k+j)+1 by omega]
  rw[dR] at h ⊢
  cases e:m.f_.getLast? with
  |none=>rw[e] at h;exact h
  |some f=>
   rw[e] at h;simp only at h ⊢
   cases d:f.fetch with
   |none=>rw[d] at h;cases h
   |some g=>
    rw[d] at h;simp only at h ⊢
    split at h
    ·rename_i c;rw[if_pos c];exact h
    rename_i c;rw[if_neg c];split at h
    ·rename_i b;rw[if_pos b];exact h
    rename_i b;rw[if_neg b];exact AE j k _ h
noncomputable def xB(tab:List eV)(k:Nat):Nat->Nat->cS->Option aW
 |0,_,_=>none
 |n+1,t,m=>
  match dR tab k m with
  |none=>none
  |some r=>if r.2=0/\t≠500 then xB tab k n (t+1) r.1 else some ⟨t,r.1,cA t r.2⟩
def FE{a:List eV}{m0:cS}{k:Nat}(e:k<=jP){z:aW}:∀(n t:Nat) (m:cS),xB a k n t m=some z->(∀r,dR a jP m=some r->fB a m0 t=some ⟨t,r.1,cA t r.2⟩)->fB a m0 z.m_=some z
 |0,_,_,h,_=>by cases h
 |n+1,t,m,h,g=>by
  rw[xB] at h;cases c:dR a k m with
  |none=>rw[c] at h;cases h
  |some r=>
   rw[c] at h;simp only at h
   have f:dR a jP m=some r:=by
    have:=AE (jP-k) k m c;rwa [show k+(jP-k)=jP by omega] at this
   have d:=g r f;split at h
   ·rename_i i;refine FE e n (t+1) r.1 h λl b=>?_
    have j:cA t r.2=0:=by unfold cA;rw[if_neg o_];exact i.1
    rw[fB,d];simp only[j,if_true,b,ir]
   ·cases h;exact d
def zW(src:cC)(t:Nat)(out:cN):Prop:=∃ks tp,cO src=.ok ks/\cE src=(0,0)/\fB (dC ks 2001) (gD ks 2001 []) t=some ⟨t,⟨[],tp,out⟩,1⟩
noncomputable def UP(src:cC)(t:Nat)(out:cN):Bool:=
 match cO src with
 |.error _=>false
 |.ok ks=>
  decide (lI 2001 ks=(0,0)) && match xB (dC ks 2001) 100 200 0 (gD ks 2001 []) with
   |none=>false
   |some z=>z.m_==t && (z.stop==1 && (z.m.f_.isEmpty && z.m.out==out))
def ZV{a:cC}{t:Nat}{c:cN}(h:UP a t c=true):zW a t c:=by
 unfold UP at h;cases f:cO a with
 |error e=>rw[f] at h;cases h
 |ok d=>
  rw[f] at h;simp only[fy,decide_eq_true_eq] at h;obtain⟨j,b⟩:=h;cases g:xB (dC d 2001) 100 200 0 (gD d 2001 []) with
  |none=>rw[g] at b;cases b
  |some z=>
   rw[g] at b;simp only[fy,beq_iff_eq,List.isEmpty_iff] at b;have:=FE (m0:=gD d 2001 []) (by have:=MQ;omega) 200 0 _ g λr k=>by rw[fB,k];rfl
   obtain⟨n,⟨o,i,l⟩,m⟩:=z;simp only at b this;obtain⟨rfl,rfl,rfl,rfl⟩:=b;exact⟨d,i,f,by unfold cE;rw[f];exact j,this⟩
end Go.Proofs.YtlflgmdcghfngaaGreatDoor.Hs
