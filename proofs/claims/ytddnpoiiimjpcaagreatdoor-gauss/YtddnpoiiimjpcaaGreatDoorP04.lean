/- Plain: how a program's run is reckoned out; the two programs of Gauss. -/
import Derived.Test.YtddnpoiiimjpcaaGreatDoorP03
set_option linter.defProp false
set_option maxRecDepth 100000
namespace Go.Proofs.YtddnpoiiimjpcaaGreatDoor.Hs
def wL{a:List eV}{r:cT × Nat}(j:Nat):∀(k:Nat) (m:cT),dY a k m=some r->dY a (k+j) m=some r
 |0,_,h=>by cases h
 |k+1,m,h=>by
  rw[show k+1+j=(k+j)+1 by omega]
  rw[dY] at h ⊢
  cases e:m.frames.getLast? with
  |none=>rw[e] at h;exact h
  |some f=>
   rw[e] at h;simp only at h ⊢
   cases d:f.fetch with
   |none=>rw[d] at h;cases h
   |some g=>
    rw[d] at h;simp only at h ⊢
    split at h
    ·rename_i c;rw[if_pos c];exact h
    rename_i c;rw[if_neg c];split at h
    ·rename_i b;rw[if_pos b];exact h
    rename_i b;rw[if_neg b];exact wL j k _ h
noncomputable def tX(tab:List eV)(k:Nat):Nat->Nat->cT->Option cD
 |0,_,_=>none
 |n+1,t,m=>
  match dY tab k m with
  |none=>none
  |some r=>if r.2=0/\t≠500 then tX tab k n (t+1) r.1 else some ⟨t,r.1,bU t r.2⟩
def AY{a:List eV}{m0:cT}{k:Nat}(e:k<=jR){z:cD}:∀(n t:Nat) (m:cT),tX a k n t m=some z->(∀r,dY a jR m=some r->fT a m0 t=some ⟨t,r.1,bU t r.2⟩)->fT a m0 z.time=some z
 |0,_,_,h,_=>by cases h
 |n+1,t,m,h,g=>by
  rw[tX] at h;cases c:dY a k m with
  |none=>rw[c] at h;cases h
  |some r=>
   rw[c] at h;simp only at h
   have f:dY a jR m=some r:=by
    have:=wL (jR-k) k m c;rwa [show k+(jR-k)=jR by omega] at this
   have d:=g r f;split at h
   ·rename_i i;refine AY e n (t+1) r.1 h fun l b=>?_
    have j:bU t r.2=0:=by unfold bU;rw[if_neg (by omega)];exact i.1
    rw[fT,d];simp only[j,if_true,b,z8]
   ·cases h;exact d
def oB(src:cE)(t:Nat)(out:cO):Prop:=∃ks tp,dA src=.ok ks/\dQ src=(0,0)/\fT (dV ks 2001) (gV ks 2001 []) t=some ⟨t,⟨[],tp,out⟩,1⟩
noncomputable def uF(src:cE)(t:Nat)(out:cO):Bool:=
 match dA src with
 |.error _=>false
 |.ok ks=>
  decide (kM 2001 ks=(0,0)) && match tX (dV ks 2001) 100 200 0 (gV ks 2001 []) with
   |none=>false
   |some z=>z.time==t && (z.stop==1 && (z.m.frames.isEmpty && z.m.out==out))
def BW{a:cE}{t:Nat}{c:cO}(h:uF a t c=true):oB a t c:=by
 unfold uF at h;cases f:dA a with
 |error e=>rw[f] at h;cases h
 |ok d=>
  rw[f] at h;simp only[j3,decide_eq_true_eq] at h;obtain⟨j,b⟩:=h;cases g:tX (dV d 2001) 100 200 0 (gV d 2001 []) with
  |none=>rw[g] at b;cases b
  |some z=>
   rw[g] at b;simp only[j3,beq_iff_eq,List.isEmpty_iff] at b;have:=AY (m0:=gV d 2001 []) (by have:=GO;omega) 200 0 _ g fun r k=>by rw[fT,k];rfl
   obtain⟨n,⟨o,i,l⟩,m⟩:=z;simp only at b this;obtain⟨rfl,rfl,rfl,rfl⟩:=b;exact⟨d,i,f,by unfold dQ;rw[f];exact j,this⟩
def yZ(k:Nat):cE:=[102,117,110,99,32,109,97,105,110,40,41,32,123,32,118,97,114,32,105,32,61,32,48,59,32,118,97,114,32,115,32,61,32,48,59,32,119,104,105,108,101,32,105,32,60,32]++cH k++[32,123,32,105,32,61,32,105,32,43,32,49,59,32,115,32,61,32,115,32,43,32,105,59,32,125,32,112,114,105,110,116,32,115,59,32,125]
def zA(k:Nat):cE:=[102,117,110,99,32,102,40,110,41,32,123,32,105,102,32,110,32,61,61,32,48,32,123,32,114,101,116,117,114,110,32,48,59,32,125,32,114,101,116,117,114,110,32,110,32,43,32,102,40,110,32,45,32,49,41,59,32,125,32,102,117,110,99,32,109,97,105,110,40,41,32,123,32,112,114,105,110,116,32,102,40]++cH k++[41,59,32,125]
def JF:∀k,k<40->oB (yZ k) (4+3*k) [cH ((k*(k+1)/2:Nat):Int)]:=by
 have h:((List.range 40).all fun k=>uF (yZ k) (4+3*k) [cH ((k*(k+1)/2:Nat):Int)])=true:=by decide+kernel
 exact fun k a=>BW (List.all_eq_true.1 h k (List.mem_range.2 a))
def ET:∀k,k<15->oB (zA k) (3+2*k) [cH ((k*(k+1)/2:Nat):Int)]:=by
 have h:((List.range 15).all fun k=>uF (zA k) (3+2*k) [cH ((k*(k+1)/2:Nat):Int)])=true:=by decide+kernel
 exact fun k a=>BW (List.all_eq_true.1 h k (List.mem_range.2 a))
end Go.Proofs.YtddnpoiiimjpcaaGreatDoor.Hs
