import Derived.Test.YthnhjhlinlhflaaGreatDoorP01
import Derived.Test.YthnhjhlinlhflaaGreatDoorP05
set_option linter.all false
set_option maxHeartbeats 0
set_option maxRecDepth 100000
open List renaming length->aA
namespace Go.Proofs.YthnhjhlinlhflaaGreatDoor.Hs
def QP{a:cU}{b:List aD}{d:Nat}{A:aC}(e:rE [] true a d A)(k:kD A)(x:aA a<=aA b)(c:aA (aF [] a d A 0)<=90000)(w:∀v∈b,cP v):rH ⟨⟨[],aF [] a d A 0⟩,0,0,[],b,[]⟩/\1<=aA (aF [] a d A 0):=by obtain⟨⟨T,-,r,o,-,l,-,-,p⟩,s⟩:=rQ [] true a d A (λ_ _=>False) 0 0 (aA b) none e x kB ⟨λq y z h=>h.elim,λq y h=>h.elim⟩;rw[gp]at l;refine⟨⟨⟨gC [],T,λj i m=>⟨?_,oQ [] a d A 0 e i (ir m)⟩,r,o,l⟩,c,Nat.zero_le _,⟨⟨λv g=>(oJ [] a d A 0 k _ g).1 v i_,λB t=>(oJ [] a d A 0 k _ t).2 B i_⟩,w,λv g=>by cases g⟩⟩,s⟩;have n:=p j i m;simp only[gp]at n;refine n.same i_ (λq f=>⟨?_,i_,kB,dv i_⟩) λ_ _ _ h=>h;rcases f with f|⟨y,u⟩;simpa using f.2;exact u.elim
def rE.mem{fs:List aC}{al:Bool}{m i:cU}(n:∀x,x∈m->x∈i):∀{d:Nat}{a:aC},rE fs true m d a->rE fs al i d a|0,_,h=>h.elim|d+1,a,h=>by have f:∀k,rE fs true m d k->rE fs al i d k:=λk g=>rE.mem n g;rcases h with h|⟨c,b,e⟩|⟨c,b⟩|⟨c,l,r,b,e,j⟩|⟨c,l,b,e⟩|⟨c,b,e⟩|⟨c,l,r,b,e,j⟩;exact ea h;exact dv (ea ⟨c,b,n _ e⟩);exact dv (dv (ea ⟨c,λk g=>f k (b k g)⟩));exact dv (dv (dv (ea ⟨c,l,r,b,f l e,f r j⟩)));exact dv (dv (dv (dv (ea ⟨c,l,b,f l e⟩))));exact dv (dv (dv (dv (dv (ea ⟨c,λk g=>f k (b k g),G_⟩)))));exact dv (dv (dv (dv (dv (dv ⟨c,l,r,b,f l e,f r j⟩)))))
end Go.Proofs.YthnhjhlinlhflaaGreatDoor.Hs
namespace Go.Proofs.YthnhjhlinlhflaaGreatDoor
open Hs
open Go.RowKit
variable{r:aC}
structure vX(A:aC):Prop where
 ex:Hs.uw A
 Cm:Hs.rz 2001 A
 lit:kD A
theorem yJ{l:bS}(h:eZ true l=.ok r):vX r:=by
 unfold eZ at h;split at h;cases h;rename_i c a;unfold jI at a;split at a;cases a;split at a;cases a;rename_i e;split at a;cases a;rename_i k b;cases a;obtain⟨q,f⟩:∃q,gK c (aA c+1) 0=.ok (r,q):=by grind[mP]
 obtain⟨i,n⟩:=nS b;obtain⟨m,p,j⟩:=AE c (aA c+1) 0 r q f;have o:=(i.ok.exprs 0 i.some_).ok r q f;have g:Hs.rz 2001 r:=j.le o_;exact⟨uQ c (tJ b e o_) _ 0 _ _ f,g,λd=>mL o_ d r g (uQ c (tJ b e o_) _ 0 _ _ f)⟩
def vX.dp(h:vX r):fN 2001 r:=nW _ _ h.Cm
def vX.wt(h:vX r)(d:Nat):cT d r<=2001:=(h.Cm d).1
def vX.len(h:vX r)(a:List (List UInt8))(d p:Nat):aA (aF [] a d r p)<=4002:=by have c:=rR [] a d r p;have b:=xD 2001 r h.dp;have e:=h.wt 2001;omega
def vX.ok(h:vX r){e_:List (List UInt8)}(c:(aR [] true 2001 r ⟨e_,0,0⟩).kind=0):Hs.rE [] true e_ 2001 r:=Hs.rE.mem (λx b=>List.mem_reverse.1 b) (rU (fs:=[]) (a_:=true) (λf a=>by cases a) (λ_=>rfl) 2001 r h.ex h.dp e_ c).2
def uw.nv:∀(d:Nat){A:aC},Hs.uw A->Z9 d A|0,_,_=>trivial|d+1,A,h=>by rcases h with ⟨_,h,a,f⟩|⟨_,h,a⟩|⟨_,l,h,a,b⟩|⟨_,l,r,h,a,b,c⟩;exact⟨G_,by simp[a]⟩;exact⟨G_,λk q=>uw.nv d (a k q)⟩;exact⟨G_,λk q=>uw.nv d G_⟩;exact⟨λe=>by rw[e]at h;revert h;decide,λk q=>uw.nv d G_⟩
end Go.Proofs.YthnhjhlinlhflaaGreatDoor
namespace Go.Proofs.YthnhjhlinlhflaaGreatDoor.Hs
variable{Q:Nat}
def GP{i:aM}(h:i.wj=true)(f:aG)(x:cU):aO i {f with e_:=x}=({(aO i f).1 with e_:=x},(aO i f).2):=by cases i<;>first|(cases h;done)|grind[aO,aG.push,aG.pop,aG.last,aG.many,aG.p_]
def zH(x:cU):∀(k:Nat) (f:aG),(∀i∈f.fn.code,i.wj=true)->fA k {f with e_:=x}=({(fA k f).1 with e_:=x},(fA k f).2)
 |0,f,_=>rfl|k+1,f,h=>by cases a:f.fn.code[f.next]? with|none=>simp[fA,aG.su,a]|some i=>have q:=GP (h i (ir a)) {f with next:=f.next+1} x;simp only[fA,aG.su,a,iu];simp only at q;rw[q];simp only;split;exact zH x k _ (by rw[jT];exact h);rfl
def zI:∀(k:Nat){f:aG},rH f->aA f.fn.code-f.next<=k->∀j,fA (k+j) f=fA k f
 |k,f,h,b,j=>by
  by_cases c:f.next<aA f.fn.code;obtain⟨i,g,n,m,o,d,l⟩:=h.step c;match k,b with|0,b=>exact Z|k+1,b=>rw[show k+1+j=k+j+1 by exact Z,d,d];by_cases a:(aO i g).2=0;have e:(aO i g).1.fn=f.fn:=(jT _ _).trans m;rw[ec a,ec a,zI k (l a).1 (by rw[e];have:=(l a).2;exact Z) j];rw[dy a,dy a]
  rw[pI (Nat.le_of_not_lt c),pI (Nat.le_of_not_lt c)]
def DI(m:cY)(f:aG):Prop:=m.f_=[f]/\∀i∈f.fn.code,i.wj=true
def yK{tg:List eI}{i:aM}{b:List aG}{f g:aG}{t:List Int}{o:cU}(d:f.su=some (i,g))(h:∀i∈f.fn.code,i.wj=true):cD tg i b g t o=(⟨b++[(aO i g).1],t,o⟩,(aO i g).2)/\i.sd=false/\(aO i g).1.fn=f.fn:=by
 have a:f.fn.code[f.next]?=some i/\g={f with next:=f.next+1}:=by grind[aG.su]
 have c:=h i (ir a.1);rw[jT,a.2];cases i<;>first|(cases c;done)|exact⟨i_,i_,i_⟩
def mO.ex{a:List eI}{m q:cY}{s:Nat}{c:List fO}(h:mO a m Q c q s):∀{f:aG},DI m f->c=[]/\∃k p,DI q p/\∀j,fA (k+j) f=fA j p:=by
 induction h with|refl m Q=>exact λh=>⟨i_,0,_,h,λj=>by rw[gp]⟩|@step b v g t o i E q Q s c l u r C w=>
  intro f h;obtain⟨A,d⟩:=h;obtain⟨rfl,rfl⟩:b=[]/\v=f:=by cases b<;>simp_all
  obtain⟨z,G,B⟩:=yK (tg:=a) (b:=[]) (t:=t) (o:=o) l d;rw[z]at r;obtain⟨rfl,x⟩:=gh r;obtain⟨e,k,p,D,y⟩:=w (f:=(aO i g).1) ⟨rfl,by rw[B];exact d⟩;refine⟨e,k+1,p,D,λj=>?_⟩;rw[show k+1+j=k+j+1 by exact Z,fA,l];simp only[x,if_true,y]|@wu b v g t o i E q Q s c l u r F C w=>
  intro f h;obtain⟨A,d⟩:=h;obtain⟨rfl,rfl⟩:b=[]/\v=f:=by cases b<;>simp_all
  rw[(yK (tg:=a) (b:=[]) (t:=t) (o:=o) l d).2.1]at u;cases u
def yR.ex{a:List eI}{m:cY}{x:fO}(h:yR a m Q x){f:aG}(c:DI m f):x.stop≠0/\∀j,(fA (j+1) f).2=x.stop:=by
 obtain⟨q,k⟩:=c;cases h with|@stop b e g t o i r _ s c d p=>
  obtain⟨rfl,rfl⟩:b=[]/\e=f:=by cases b<;>simp_all
  rw[(yK (tg:=a) (b:=[]) (t:=t) (o:=o) c k).1]at d;obtain⟨rfl,rfl⟩:=gh d;refine⟨p,λj=>?_⟩;rw[fA,c];simp only[p,if_false];rfl|done=>cases q|@fuel b e g t o i r c l d=>
  obtain⟨rfl,rfl⟩:b=[]/\e=f:=by cases b<;>simp_all
  rw[(yK (tg:=a) (b:=[]) (t:=t) (o:=o) c k).2.1]at l;cases l
section
variable {V:aC->aK->dV aD} {d:Nat} {e_:cU} (HV:∀a s v s',rE [] true e_ d a->V a s=some (v,s')->s'.sf=s.sf)
include HV
def GF:∀(l:List aC) (s:aK) (c:List aD) (b:aK),(∀a∈l,rE [] true e_ d a)->eY V l s=some (c,b)->b.sf=s.sf|[],s,c,b,_,h=>by cases h;rfl|a::l,s,c,b,e,h=>by have f:=GF l;grind[eY]
def MM{B:aC->aK->dV (aD×Bool)}{a:aC}{s c:aK}{v:aD}(p:rE [] true e_ (d+1) a)(h:gF [] V B a s=some (v,c)):c.sf=s.sf:=by
 have f:∀k∈a.y_,rE [] true e_ d k:=λk f=>by rcases p with ⟨_,h⟩|⟨_,h,_⟩|⟨_,h⟩|⟨_,l,r,h,o,t⟩|⟨_,l,h,o⟩|⟨_,h,_⟩|⟨_,l,r,h,o,t⟩<;>grind
 have g:a.op=[99,97,108,108]->a.x_=[108,101,110]:=λe=>by rcases p with ⟨h,_⟩|⟨h,_⟩|⟨h,_⟩|⟨h,_⟩|⟨h,_⟩|⟨_,_,h⟩|⟨h,_⟩<;>grind[cR]
 have y:=λi w=>GF HV a.y_ s i w f;have m:∀(s:aK) n,(s.or n).sf=s.sf:=λs n=>by unfold aK.or;split<;>rfl
 have u:∀b l r,a.y_=[l,r]->mK V b l r s=some (v,c)->c.sf=s.sf:=λb l r e q=>by have A:=λs v c=>HV l s v c (f l (by simp[e]));have C:=λs v c=>HV r s v c (f r (by simp[e]));clear HV h y f;grind[mK]
 have x:∀i j,jC [] B a i j=some (v,c)->c.sf=j.sf:=λi j q=>by
  unfold jC at q;repeat' split at q
  all_goals try(rename_i z;rw[g (by simpa using z),kA,ec d_]at q)
  all_goals(simp only[fq,gd]at q;rw[<-q.2];exact m _ _)
 clear HV;grind[gF]
end
def LB{b:cU}:∀(g d:Nat) (a:aC) (s:aK) (v:aD) (c:aK),rE [] true b d a->(nN [] g).1 a s=some (v,c)->c.sf=s.sf|0,_,_,_,_,_,_,h=>by cases h|_+1,0,_,_,_,_,e,_=>e.elim|g+1,d+1,_,_,_,_,e,h=>MM (λa s v c=>LB g d a s v c) e h
def Iu{e_:cU}{a:List aD}{A:aC}{v:aD}{d:aK}(n:rE [] true e_ 2001 A)(J:e_.Nodup)(H:aA e_<=aA a){f:aG}(c:f=⟨⟨[],aF [] e_ 2001 A 0⟩,0,0,[],a,[]⟩)(F:rH f) (h:(nN [] Q).1 A ⟨[⟨[],0,e_.reverse.zip a⟩],[],[],[],0⟩=some (v,d)):(fA (aA (aF [] e_ 2001 A 0)) f).2=d.stop/\(d.stop=0->(fA (aA (aF [] e_ 2001 A 0)) f).1.last=v):=by
 have P:=LB _ _ _ _ _ _ n h;have w:=(LC (fs:=[]) (D:=2001) s_ Q).1 2001 A e_ 0 [] {f with e_:=e_} _ v d (n.mem λ_ q=>q) ⟨by subst c;exact λj i q=>by simpa using q,by subst c;rfl,rfl,J,by subst c;exact H,i_,by subst c;rfl,d_⟩ h;have s:DI ⟨[]++[{f with e_:=e_}],[],[]⟩ {f with e_:=e_}:=⟨rfl,by subst c;exact oQ [] e_ 2001 A 0 n⟩;have E:aA (aF [] e_ 2001 A 0)=aA f.fn.code:=by subst c;rfl
 have m:=zI (aA f.fn.code) F (Nat.sub_le _ _);have l:=λk=>zH e_ k f (by subst c;exact oQ [] e_ 2001 A 0 n);have G:f.ops=[]:=by subst c;rfl
 rw[E]at w⊢;rcases w.2 with ⟨p,y,-,r⟩|⟨p,y,u,N,M,B,x,r,I,e⟩;obtain⟨-,k,t,⟨K,-⟩,b⟩:=r.ex s;obtain rfl:aG.sq {f with e_:=e_} (0+aA f.fn.code) [v]=t:=by simpa using K
 have b:=b (aA f.fn.code);rw[l,Nat.add_comm k,m,pI (f:=aG.sq {f with e_:=e_} (0+aA f.fn.code) [v]) (by simp[aG.sq])]at b;obtain⟨C,L⟩:=gh b;have:=ey aG.ops C;exact⟨by rw[L,p],λ_=>by simp[aG.sq,G]at this;simp[aG.last,this]⟩;obtain⟨rfl,k,t,z,b⟩:=r.ex s;have ⟨_,hj⟩:=I.ex z;have o:x.stop=d.stop:=by grind[aK.final,aK.notes]
 have b:=b (aA f.fn.code+1);rw[l]at b;have:=ey Prod.snd b;rw[hj,o,show k+(aA f.fn.code+1)=aA f.fn.code+(k+1) by exact Z,m]at this;exact⟨this,λq=>ep q p⟩
