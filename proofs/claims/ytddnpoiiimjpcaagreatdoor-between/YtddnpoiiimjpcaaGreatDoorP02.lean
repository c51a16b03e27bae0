/- Plain: how a program's run is reckoned out; the two programs of Gauss. -/
import Derived.Test.YtddnpoiiimjpcaaGreatDoorP01
set_option linter.defProp false
set_option maxRecDepth 100000
namespace Go.Proofs.YtddnpoiiimjpcaaGreatDoor.Hs
def zK{a:List eU}{r:cR × Nat}(j:Nat):∀(k:Nat) (m:cR),dR a k m=some r->dR a (k+j) m=some r
 |0,_,h=>by cases h
 |k+1,m,h=>by
  rw[show k+1+j=(k+j)+1 by omega]
  rw[dR] at h ⊢
  cases e:m.f_.getLast? with
  |none=>rw[e] at h;exact h
  |some f=>
   rw[e] at h;simp only at h ⊢
   cases d:f.fetch with
   |none=>rw[d] at h;cases h
   |some g=>
    rw[d] at h;simp only at h ⊢
    split at h
    ·rename_i c;rw[if_pos c];exact h
    rename_i c;rw[if_neg c];split at h
    ·rename_i b;rw[if_pos b];exact h
    rename_i b;rw[if_neg b];exact zK j k _ h
noncomputable def wI(tab:List eU)(k:Nat):Nat->Nat->cR->Option aU
 |0,_,_=>none
 |n+1,t,m=>
  match dR tab k m with
  |none=>none
  |some r=>if r.2=0/\t≠500 then wI tab k n (t+1) r.1 else some ⟨t,r.1,bZ t r.2⟩
def EG{a:List eU}{m0:cR}{k:Nat}(e:k<=jN){z:aU}:∀(n t:Nat) (m:cR),wI a k n t m=some z->(∀r,dR a jN m=some r->fA a m0 t=some ⟨t,r.1,bZ t r.2⟩)->fA a m0 z.m_=some z
 |0,_,_,h,_=>by cases h
 |n+1,t,m,h,g=>by
  rw[wI] at h;cases c:dR a k m with
  |none=>rw[c] at h;cases h
  |some r=>
   rw[c] at h;simp only at h
   have f:dR a jN m=some r:=by
    have:=zK (jN-k) k m c;rwa [show k+(jN-k)=jN by omega] at this
   have d:=g r f;split at h
   ·rename_i i;refine EG e n (t+1) r.1 h λl b=>?_
    have j:bZ t r.2=0:=by unfold bZ;rw[if_neg o_];exact i.1
    rw[fA,d];simp only[j,if_true,b,ir]
   ·cases h;exact d
def zD(src:cE)(t:Nat)(out:cN):Prop:=∃ks tp,cW src=.ok ks/\cI src=(0,0)/\fA (dC ks 2001) (gB ks 2001 []) t=some ⟨t,⟨[],tp,out⟩,1⟩
noncomputable def TM(src:cE)(t:Nat)(out:cN):Bool:=
 match cW src with
 |.error _=>false
 |.ok ks=>
  decide (lJ 2001 ks=(0,0)) && match wI (dC ks 2001) 100 200 0 (gB ks 2001 []) with
   |none=>false
   |some z=>z.m_==t && (z.stop==1 && (z.m.f_.isEmpty && z.m.out==out))
def YO{a:cE}{t:Nat}{c:cN}(h:TM a t c=true):zD a t c:=by
 unfold TM at h;cases f:cW a with
 |error e=>rw[f] at h;cases h
 |ok d=>
  rw[f] at h;simp only[fw,decide_eq_true_eq] at h;obtain⟨j,b⟩:=h;cases g:wI (dC d 2001) 100 200 0 (gB d 2001 []) with
  |none=>rw[g] at b;cases b
  |some z=>
   rw[g] at b;simp only[fw,beq_iff_eq,List.isEmpty_iff] at b;have:=EG (m0:=gB d 2001 []) (by have:=LX;omega) 200 0 _ g λr k=>by rw[fA,k];rfl
   obtain⟨n,⟨o,i,l⟩,m⟩:=z;simp only at b this;obtain⟨rfl,rfl,rfl,rfl⟩:=b;exact⟨d,i,f,by unfold cI;rw[f];exact j,this⟩
end Go.Proofs.YtddnpoiiimjpcaaGreatDoor.Hs
