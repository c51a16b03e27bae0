import Derived.Test.YthlhecfcnfjecaaGreatDoorP00
set_option linter.all false
set_option maxHeartbeats 0
set_option maxRecDepth 100000
open List renaming length->aA
open Option renaming some->Wy,none->Wz
open Bool renaming false->WD,true->W1
namespace Go.Proofs.YthlhecfcnfjecaaGreatDoor.Hs
variable{V:List Int}{R:List aC}{N:List aE}{T:List aI}{I l:List aO}{Q:List eL}{X p:Nat}{E:Nat->Option Nat}{c:Prop}{e j:Type}{S:aC}{b g:aE}{f:aI}{i:aO}{x:bQ}{P:cY}{F:dC}
def sJ(l:List aI):List (bQ×Nat):=l.map λf=>(f.fn.name,f.l_)
structure iU where
 name:bQ
 l_:Nat
 g_:List (bQ × aE)
structure fK where
 stack:List (bQ × Nat)
 g_:List (bQ × aE)
 out:cY
 stop:Nat
structure aM where
 f_:List iU
 tape:List Int
 out:cY
 sk:List fK
 stop:Nat
abbrev dZ(α:Type):=Option (α×aM)
def aM.g_(s:aM):List (bQ×aE):=(s.f_.getLast?.map (·.g_)).getD []
def aM.tj(s:aM)(f:iU->iU):aM:={s with f_:=s.f_.dropLast++(s.f_.getLast?.map f).toList}
def aM.notes(s:aM):aM:={s with sk:=s.sk++[⟨s.f_.map λf=>(f.name,f.l_),s.g_,s.out,s.stop⟩]}
def aM.q_(s:aM)(l_:Nat):aM:=let s1:=s.tj λf=>{f with l_:=l_}
 aM.notes (if aA s1.sk=500 then {s1 with stop:=9} else s1)
def aM.or(s:aM)(stop:Nat):aM:=if stop≠0/\s.stop=0 then {s with stop:=stop} else s
def jP(l:List (bQ×aE))(name:bQ):Nat:=match l.findIdx? λb=>b.1==name with|some i=>i|none=>0
def fD(V:aC->aM->dZ aE):List aC->aM->dZ (List aE)|[],s=>Wy ([],s)|a::l,s=>if s.stop≠0 then Wy ([],s) else match V a s with|none=>Wz|some (v,s1)=>match fD V l s1 with|none=>Wz|some (vs,s2)=>Wy (v::vs,s2)
def oE(V:aC->aM->dZ aE)(or:Bool)(l r:aC)(s:aM):dZ aE:=match V l s with|none=>Wz|some (a,s1)=>if s1.stop≠0\/a.c_≠1 then Wy (a,s1.or 2) else if decide (a.n=1)=or then Wy (a,s1) else match V r s1 with|none=>Wz|some (b,s2)=>if s2.stop≠0\/b.c_≠1 then Wy (b,s2.or 2)else Wy (b,s2)
def jV(fs:List aC)(B:aC->aM->dZ (aE×Bool))(name:bQ)(l:List aE)(s:aM):dZ aE:=if name==[108,101,110]then let r:=dO (l.head?.getD aZ);Wy (r.1,s.or r.2) else if name==[114,101,97,100]then match s.tape with|[]=>Wy (aZ,s.or 7)|t::r=>Wy (bB t,{s with tape:=r}) else if aA s.f_=16 then Wy (aZ,s.or 5) else match dG fs name with|none=>Wz|some f=>match B (f.y_.getLast?.getD f) {s with f_:=s.f_++[⟨name,0,(f.y_.map (·.x_)).zip l⟩]} with|none=>Wz|some ((v,_),s1)=>Wy (v,if s1.stop=0 then {s1 with f_:=s1.f_.dropLast} else s1)
noncomputable def jR(fs:List aC)(B:aC->aM->dZ (aE×Bool))(n:aC)(l:List aE)(s:aM):dZ aE:=if n.op==[108,105,115,116]then Wy (bG l,s.or (if 200<aK (bG l)then 6 else 0)) else if n.op==[99,97,108,108]then jV fs B n.x_ l s else if n.op==[105,110,100,101,120]then let r:=cB (l.head?.getD aZ) ((l.drop 1).head?.getD aZ);Wy (r.1,s.or r.2) else if n.op==[45,120]||n.op==[33,120]then let r:=dH n.op (l.head?.getD aZ);Wy (r.1,s.or r.2) else let r:=dJ n.op (l.head?.getD aZ) ((l.drop 1).head?.getD aZ);Wy (r.1,s.or r.2)
noncomputable def gR(fs:List aC)(V:aC->aM->dZ aE)(B:aC->aM->dZ (aE×Bool))(n:aC)(s:aM):dZ aE:=if n.op==[48]then Wy (bB (((dS 0 n.x_).getD 0:Nat):Int),s) else if n.op==[115]then Wy (bS n.x_,s) else if n.op==[98,111,111,108]then Wy (cG (n.x_==[116,114,117,101]),s) else if n.op==[110,97,109,101]then Wy ((s.g_[jP s.g_ n.x_]?.map (·.2)).getD aZ,s) else if n.op==[124,124]||n.op==[38,38]then match n.y_ with|[l,r]=>oE V (n.op==[124,124]) l r s|_=>Wz else match fD V n.y_ s with|none=>Wz|some (l,s1)=>if s1.stop≠0 then Wy (aZ,s1)else jR fs B n l s1
def kF(V:aC->aM->dZ aE)(n:aC)(s:aM):dZ Bool:=match V n s with|none=>Wz|some (c,s1)=>if s1.stop≠0\/c.c_≠1 then Wy (WD,s1.or 2)else Wy (decide (c.n=1),s1)
noncomputable def fX(n:aC)(l:List aE)(s:aM):aM:=let v:=l.getLast?.getD aZ
 if n.op==[118,97,114]then s.tj λf=>{f with g_:=f.g_++[((n.y_.head?.map (·.x_)).getD [],v)]} else if n.op==[112,114,105,110,116]then if aA s.out=50 then {s with stop:=8} else {s with out:=s.out++[jO v]} else if n.op==[115,101,116]then let i:=jP s.g_ n.x_
 let r:=cJ l.dropLast ((s.g_[i]?.map (·.2)).getD aZ) v
 let st:=if r.2=0/\200<aK r.1 then 6 else r.2
 if st=0 then s.tj λf=>{f with g_:=f.g_.set i (((f.g_[i]?.map (·.1)).getD []),r.1)} else {s with stop:=st} else s
def iL(V:aC->aM->dZ aE)(B:aC->aM->dZ (aE×Bool))(n c b:aC):Nat->Bool->aM->dZ (aE×Bool)|0,_,_=>Wz|k+1,t,s=>if t=WD\/s.stop≠0 then Wy ((aZ,WD),s) else match B b s with
 |none=>Wz|some ((v,e),s1)=>if e\/s1.stop≠0 then Wy ((v,e),s1) else let s2:=s1.q_ n.l_
 if s2.stop≠0 then iL V B n c b k t s2 else match kF V c s2 with|none=>Wz|some (t1,s3)=>iL V B n c b k t1 s3
noncomputable def mR(V:aC->aM->dZ aE)(B:aC->aM->dZ (aE × Bool))(n:aC)(s:aM):dZ (aE × Bool):=
 let s0:=s.q_ n.l_
 if s0.stop≠0 then Wy ((aZ,WD),s0)
 else if n.op==[105,102]then
  match n.y_ with
  |c::t::x=>
   match kF V c s0 with
   |none=>Wz
   |some (b,s1)=>
    if s1.stop≠0 then Wy ((aZ,WD),s1)
    else if b then B t s1
    else match x with
     |[y]=>B y s1
     |_=>Wy ((aZ,WD),s1)
  |_=>Wz
 else if n.op==[119,104,105,108,101]then
  match n.y_ with
  |[c,b]=>
   match kF V c s0 with
   |none=>Wz
   |some (t,s1)=>iL V B n c b 1000 t s1
  |_=>Wz
 else if n.op==[114,101,116,117,114,110]then
  match fD V n.y_ s0 with
  |none=>Wz
  |some (l,s1)=>Wy ((l.head?.getD aZ,W1),s1)
 else
  match fD V (if n.op==[118,97,114]then n.y_.drop 1 else n.y_) s0 with
  |none=>Wz
  |some (l,s1)=>Wy ((aZ,WD),if s1.stop=0 then fX n l s1 else s1)
def nT(D:aC->aM->dZ (aE×Bool))(mark:Nat):List aC->aM->dZ (aE×Bool)|[],s=>Wy ((aZ,WD),s.tj λf=>{f with g_:=f.g_.take mark})|a::l,s=>match D a s with|none=>Wz|some ((v,e),s1)=>if e\/s1.stop≠0 then Wy ((v,e),s1)else nT D mark l s1
noncomputable def qT(fs:List aC):Nat->(aC->aM->dZ aE)×(aC->aM->dZ (aE×Bool))
 |0=>(λ_ _=>Wz,λ_ _=>Wz)|g+1=>let V:=(qT fs g).1
 let B:=(qT fs g).2
 (λn s=>gR fs V B n s,λn s=>nT (mR V B) (aA s.g_) n.y_ s)
noncomputable def sM(fs:List aC)(g:Nat)(tape:List Int):Option (List fK):=match jV fs (qT fs g).2 [109,97,105,110] [] ⟨[],tape,[],[],0⟩with|none=>Wz|some (_,s)=>Wy (if s.stop=9 then s.sk else (aM.notes (if s.stop=0 then {s with stop:=1} else s)).sk)
def kK(f:aI)(e_:cY):iU:=⟨f.fn.name,f.l_,e_.reverse.zip f.g_⟩
def dA(l:List aI):List iU:=l.map λf=>kK f f.e_
def sy(m:dC)(stop:Nat):fK:=⟨m.f_.map λf=>(f.fn.name,f.l_),((m.f_.getLast?.map λf=>f.e_.reverse.zip f.g_)).getD [],m.out,stop⟩
inductive nJ (tz:List eL):dC->Nat->List fK->dC->Nat->Prop
 |refl (m:dC) (n:Nat):nJ tz m n [] m n
 |step {b:List aI} {f g:aI} {t:List Int} {o:cY} {i:aO} {m1 m':dC} {n n':Nat} {ms:List fK} (hf:f.tr=Wy (i,g)) (hb:i.sg=WD) (hd:cF tz i b g t o=(m1,0)) (hr:nJ tz m1 n ms m' n'):nJ tz ⟨b++[f],t,o⟩ n ms m' n'
 |wy {b:List aI} {f g:aI} {t:List Int} {o:cY} {i:aO} {m1 m':dC} {n n':Nat} {ms:List fK} (hf:f.tr=Wy (i,g)) (hb:i.sg=W1) (hd:cF tz i b g t o=(m1,0)) (hn:n≠500) (hr:nJ tz m1 (n+1) ms m' n'):nJ tz ⟨b++[f],t,o⟩ n (sy m1 0::ms) m' n'
theorem nJ.trans{tz:List eL}{a b c:dC}{n m d:Nat}{l e:List fK}(h:nJ tz a n l b m)(k:nJ tz b m e c d):nJ tz a n (l++e) c d:=by induction h with|refl=>exact k|step g j f _ i=>exact .step g j f (i k)|wy g j f o _ i=>exact .wy g j f o (i k)
inductive GM (tz:List eL):dC->Nat->fK->Prop
 |stop {b:List aI} {f g:aI} {t:List Int} {o:cY} {i:aO} {m1:dC} {n st:Nat} (hf:f.tr=Wy (i,g)) (hd:cF tz i b g t o=(m1,st)) (hs:st≠0):GM tz ⟨b++[f],t,o⟩ n (sy m1 st)
 |done {t:List Int} {o:cY} {n:Nat}:GM tz ⟨[],t,o⟩ n (sy ⟨[],t,o⟩ 1)
 |fuel {b:List aI} {f g:aI} {t:List Int} {o:cY} {i:aO} {m1:dC} (hf:f.tr=Wy (i,g)) (hb:i.sg=W1) (hd:cF tz i b g t o=(m1,0)):GM tz ⟨b++[f],t,o⟩ 500 (sy m1 9)
def nS(tz:List eL)(m:dC)(n:Nat)(ms:List fK):Prop:=∃m' n' ms' x,nJ tz m n ms' m' n'/\GM tz m' n' x/\ms=ms'++[x]
def aM.final(s:aM):List fK:=if s.stop=9 then s.sk else s.notes.sk
def cI(tz:List eL)(m:dC)(s s':aM)(m':dC):Prop:=(s'.stop=0/\∃ms,s'.sk=s.sk++ms/\nJ tz m (aA s.sk) ms m' (aA s'.sk))\/(s'.stop≠0/\∃ms,s.sk++ms=s'.final/\nS tz m (aA s.sk) ms)
theorem cI.refl(a:List eL)(m:dC)(s:aM)(h:s.stop=0):cI a m s s m:=ea ⟨h,[],s_,nJ.refl _ _⟩
theorem cI.trans{tz:List eL}{m m1 c:dC}{s a b:aM}(h:cI tz m s a m1)(k:a.stop=0->cI tz m1 a b c)(d:a.stop≠0->b=a):cI tz m s b c:=by grind[nJ.trans,cI,nS]
theorem cI.step{tz:List eL}{b:List aI}{g:aI}{m1:dC}{s a:aM}(e:f.tr=Wy (i,g))(h:i.sg=WD)(d:cF tz i b g V P=(m1,0))(j:a.stop=0)(c:a.sk=s.sk):cI tz ⟨b++[f],V,P⟩ s a m1:=ea ⟨j,[],me,.step e h d (by rw[c];exact .refl _ _)⟩
theorem cI.stops{g:aI}{m1:dC}{st:Nat}{s a:aM}(h:f.tr=Wy (i,g))(d:cF Q i T g V P=(m1,st))(j:st≠0)(n:st≠9) (e:a.stop=st) (m:a.sk=s.sk) (l:(⟨a.f_.map λf=>(f.name,f.l_),a.g_,a.out,a.stop⟩:fK)=sy m1 st):cI Q ⟨T++[f],V,P⟩ s a F:=by refine dz ⟨Z,[sy m1 st],?_,_,_,[],_,.refl _ _,.stop h d j,rfl⟩;grind[aM.final,aM.notes]
def eR(code:List aO)(p:Nat)(c:List aO):Prop:=∀j i,c[j]?=Wy i->code[p+j]?=Wy i
theorem eR.left{b:List aO}(h:eR I X (l++b)):eR I X l:=λj i d=>h j i G_
theorem eR.right{b:List aO}(h:eR I X (l++b)):eR I (X+aA l) b:=λj i d=>by have:=h (aA l+j) i G_;grind
def eR.zo(h:eR I X (i::l)):I[X]?=Wy i:=h 0 i rfl
def eR.tail(h:eR I X (i::l)):eR I (X+1) l:=λj k b=>by have:=h (j+1) k G_;grind
def jB(h:f.fn.code[f.next]?=Wy i):f.tr=Wy (i,{f with next:=f.next+1}):=by grind[aI.tr]
def BD:∀(a:cY) (b:List aE) (x:bQ),a.Nodup->x∈a->aA a<=aA b->jP (a.reverse.zip b) x=dP a x/\((a.reverse.zip b)[dP a x]?.map (·.2))=b[dP a x]?/\((a.reverse.zip b)[dP a x]?.map (·.1))=Wy x:=by
 intro a b x g d f;have c:a.reverse[dP a x]?=Wy x:=by induction a with|nil=>cases d|cons y l e=>grind[dP,qI]
 grind[jP,List.findIdx?_eq_some_iff_getElem,List.pairwise_iff_getElem]
structure gA(e_:cY)(p:Nat)(c:List aO)(below:List aI)(f:aI)(s:aM):Prop where
 code:eR f.fn.code p c
 next:f.next=p
 zj:f.e_=e_
 nodup:e_.Nodup
 g_:aA e_<=aA f.g_
 stop:s.stop=0
 f_:s.f_=dA (below++[f])
 deep:aA below+1<=16
def aI.su(f:aI)(n:Nat)(vs:List aE):aI:={f with next:=n,ops:=f.ops++vs}
def eO(tz:List eL)(below:List aI)(f:aI)(n:Nat)(vs:List aE)(s s':aM):Prop:=(s'.stop=0->s'.f_=s.f_)/\cI tz ⟨below++[f],s.tape,s.out⟩ s s' ⟨below++[f.su n vs],s'.tape,s'.out⟩
def mA(fs:List aC)(tz:List eL)(V:aC->aM->dZ aE):Prop:=∀(d:Nat) (a:aC) (e_:cY) (p:Nat) (below:List aI) (f:aI) (s:aM) (v:aE) (s':aM),si fs WD e_ d a->gA e_ p (aG fs e_ d a p) below f s->V a s=Wy (v,s')->eO tz below f (p+aA (aG fs e_ d a p)) [v] s s'
theorem gA.su{e:Nat}{c':List aO}{s d:aM}(h:gA P X I T f s)(j:eR f.fn.code e c')(i:d.stop=0)(g:d.f_=s.f_):gA P e c' T (f.su e N) d:=by refine⟨j,aJ,h.zj,h.nodup,h.g_,i,?_,h.deep⟩;rw[g,h.f_];simp[dA,kK,aI.su]
def zL{s:aM}(h:s.f_=dA (T++[f])):s.g_=f.e_.reverse.zip f.g_:=by grind[aM.g_,dA,kK]
theorem kM{g:aI}{s:aM}(h:s.f_=dA (T++[f]))(e:g.fn=f.fn)(c:g.l_=f.l_)(i:g.e_=f.e_)(d:g.g_=f.g_):(⟨s.f_.map λf=>(f.name,f.l_),s.g_,s.out,X⟩:fK)=sy ⟨T++[g],V,s.out⟩ X:=by rw[zL h];unfold sy;rw[h];simp[dA,kK,e,c,i,d]
def kY{V:aC->aM->dZ aE}(q:mA R Q V):∀(l:List aC) (p:Nat) (f:aI) (s:aM) (vs:List aE) (k:aM),(∀a∈l,si R WD P X a)->gA P p (bC (aG R P X) l p) T f s->fD V l s=Wy (vs,k)->eO Q T f (p+aA (bC (aG R P X) l p)) vs s k/\(k.stop=0->aA vs=aA l)
 |[],p,f,s,vs,k,_,h,n=>by
  simp [fD]at n;have e:f.su (p+aA (bC (aG R P X) [] p)) []=f:=by simp[aI.su,bC,<-h.next]
  grind[cI.refl,gA.stop,eO]|a::l,p,f,s,vs,k,A,h,n=>by
  rw[fD,dy (by rw[h.stop];simp)]at n;cases z:V a s with|none=>grind|some r=>
   have ⟨v,s1⟩:=r;cases x:fD V l s1 with|none=>grind|some y=>
    have ⟨ws,s2⟩:=y;have t:=h.code;have w:=q X a P p T f s v s1 (G_) {h with code:=t.left} z;have m:s1.stop≠0->s2=s1:=λu=>by cases l with|nil=>grind[fD]|cons b B=>grind[fD]
    by_cases o:s1.stop=0;have ⟨h2,h2l⟩:=kY q l (p+aA (aG R P X a p)) (f.su (p+aA (aG R P X a p)) [v]) s1 ws s2 (G_) (h.su (c':=bC (aG R P X) l (p+aA (aG R P X a p))) t.right o (w.1 o)) x;grind[aI.su,bC,cI.trans,eO];grind[cI,eO]
theorem kA(f:aI)(n:Nat)(v:aE):(f.su n [v]).last=v:=by simp[aI.su,aI.last]
theorem XB(f:aI)(n m:Nat)(a:List aE):aI.many {f.su n a with next:=m} (aA a)=a:=by simp[aI.su,aI.many]
theorem wR(f:aI)(n m:Nat)(a:List aE):aI.n_ {f.su n a with next:=m} (aA a)=f.su m []:=by simp[aI.su,aI.n_]
theorem lM(f:aI)(n:Nat)(v:aE):(f.su n []).push v=f.su n [v]:=by simp[aI.su,aI.push]
def eO.then{vs:List aE}{s b d:aM}{r:aE×Nat}(h:eO Q T f X vs s b)(e:s.f_=dA (T++[f])) (j:f.fn.code[X]?=Wy i) (m:i.sg=WD) (o:b.stop≠0->d=b) (g:b.stop=0->d=b.or r.2) (p:r.2≠9) (k:b.stop=0->(r.2=0->cF Q i T {f.su X vs with next:=X+1} b.tape b.out=(⟨T++[f.su (X+1) [r.1]],b.tape,b.out⟩,0))/\(r.2≠0->cF Q i T {f.su X vs with next:=X+1} b.tape b.out=(⟨T++[f.su (X+1) []],b.tape,b.out⟩,r.2))):eO Q T f (X+1) [r.1] s d:=by by_cases l:b.stop=0;rotate_left;grind[cI,eO];have hfetch:=jB (f:=f.su X vs) j;grind[aM.or,cI.trans,cI.step,cI.stops,kM,aI.su,eO]
def sP(below:List aI)(v:aE)(t:List Int)(o:cY):dC:=⟨below.dropLast++(below.getLast?.map λg=>g.push v).toList,t,o⟩
structure qE(e_:cY)(p:Nat)(c:List aO)(below:List aI)(f:aI)(s:aM):Prop where
 code:eR f.fn.code p c
 next:f.next=p
 nodup:e_.Nodup
 g_:aA e_<=aA f.g_
 stop:s.stop=0
 f_:s.f_=dA below++[kK f e_]
 deep:aA below+1<=16
def dT(tz:List eL)(below:List aI)(f:aI)(n:Nat)(seen':cY)(r:aE×Bool)(s s':aM):Prop:=(s'.stop=0/\r=(aZ,WD)/\∃f':aI,f'.fn=f.fn/\f'.next=n/\f'.ops=f.ops/\aA seen'<=aA f'.g_/\s'.f_=dA below++[kK f' seen']/\cI tz ⟨below++[f],s.tape,s.out⟩ s s' ⟨below++[f'],s'.tape,s'.out⟩)\/(s'.stop=0/\r.2=W1/\s'.f_.dropLast=dA below/\cI tz ⟨below++[f],s.tape,s.out⟩ s s' (sP below r.1 s'.tape s'.out))\/(s'.stop≠0/\∀m',cI tz ⟨below++[f],s.tape,s.out⟩ s s' m')
def qP(fs:List aC)(tz:List eL)(B:aC->aM->dZ (aE×Bool)):Prop:=∀(d:Nat) (b:aC) (e_:cY) (p:Nat) (below:List aI) (f:aI) (s:aM) (r:aE×Bool) (s':aM),sq (cO fs d) e_ b.y_->qE e_ p (bM (aU fs d) e_ b.y_ p) below f s->B b s=Wy (r,s')->dT tz below f (p+aA (bM (aU fs d) e_ b.y_ p)) e_ r s s'
theorem cI.any{tz:List eL}{c b:dC}{s a:aM}(h:cI tz F s a c)(d:a.stop≠0):cI tz F s a b:=by grind[cI]
theorem NY(h:dG R x=Wy S):(dX R X)[dW R x]?=Wy (fQ R X S):=by grind[dX,uK]
def BR(h:dG R x=Wy S):S.x_=x:=by grind[dG]
def uV(h:gD R (dW R x)=Wy X):∃f,dG R x=Wy f/\f∈R/\aA f.y_-1=X:=by grind[gD,dW,dG,List.find?_eq_some_iff_getElem]
theorem A0{D:Nat}(S:∀f∈R,gY R D f){B:aC->aM->dZ (aE × Bool)}(HB:qP R (dX R D) B){h:List aE}{c:List aI}{n:Nat}{s y:aM}{v:aE}(h1:x≠[108,101,110])(h2:x≠[114,101,97,100])
 (P:gD R (dW R x)=Wy (aA h)) (hc:f.fn.code[n]?=Wy (.call (dW R x) (aA h))) (X:s.stop=0) (C:s.f_=dA (c++[f])) (hd:aA c+1<=16) (j:jV R B x h s=Wy (v,y)):
 (y.stop=0->y.f_=s.f_)/\cI (dX R D) ⟨c++[f.su n h],s.tape,s.out⟩ s y ⟨c++[f.su (n+1) [v]],y.tape,y.out⟩:=by
 have i:(f.su n h).tr=Wy (.call (dW R x) (aA h),{ f.su n h with next:=n+1 }):=jB (f:=f.su n h) hc
 unfold jV at j;rw[dy G_,dy G_]at j
 have E:aA s.f_=aA c+1:=by rw[C];simp[dA]
 rw[E]at j;by_cases q:aA c+1=16
 .rw[ec q]at j;simp[fu,gd]at j;obtain⟨rfl,rfl⟩:=j;have e:s.or 5={ s with stop:=5 }:=by grind [aM.or]
  rw[e];refine⟨s_,cI.stops i (by rw[cF];simp only;rw[ec q]) s_ s_ rfl rfl ?_⟩
  rw[wR];exact kM (s:={ s with stop:=5 }) (g:=f.su (n+1) []) C rfl rfl rfl rfl
 rw[dy q]at j;have ⟨F,hF,hFm,hFk⟩:=uV P;rw[hF]at j;simp only at j;have ⟨⟨ps,b,hk,hb,hnd⟩,hl⟩:=S F hFm;have p:F.y_.getLast?.getD F=b:=G_
 rw[p]at j;have L:aA ps=aA h:=G_
 have G:(F.y_.map (·.x_)).zip h=(ps.map (·.x_)).zip h:=by
  rw[hk,ft,<-List.append_nil h,List.zip_append (by simp[L])]
  simp
 rw[G]at j;have r:(fQ R D F).code=bM (aU R D) (ps.map (·.x_)).reverse b.y_ 0++[.push (bB 0),.tw]:=by simp[fQ,hk]
 have Q:(fQ R D F).name=x:=BR hF;cases hB:B b { s with f_:=s.f_++[⟨x,0,(ps.map (·.x_)).zip h⟩] } with
 |none=>grind
 |some rr=>
  obtain⟨⟨W,e1⟩,k⟩:=rr;rw[hB]at j;simp only[fu,gd]at j;obtain⟨rfl,l⟩:=j;let T:aM:={ s with f_:=s.f_++[⟨x,0,(ps.map (·.x_)).zip h⟩] }
  let a:=c++[f.su (n+1) []]
  let H:aI:=⟨fQ R D F,0,0,[],h,[]⟩
  have N:qE (ps.map (·.x_)).reverse 0 (bM (aU R D) (ps.map (·.x_)).reverse b.y_ 0) a H T:=by
   refine⟨?_,aJ,G_,G_,X,?_,G_⟩
   .grind [eR]
   grind [dA,kK,aI.su]
  have V:=HB D b (ps.map (·.x_)).reverse 0 a H T (W,e1) k hb N hB
  have u:cF (dX R D) (.call (dW R x) (aA h)) c { f.su n h with next:=n+1 } s.tape s.out=(⟨a++[H],s.tape,s.out⟩,0):=by grind [cF,NY,wR,XB]
  have J:cI (dX R D) ⟨c++[f.su n h],s.tape,s.out⟩ s T ⟨a++[H],s.tape,s.out⟩:=cI.step i aJ u X aJ;have m:∀w t o,sP a w t o=⟨c++[f.su (n+1) [w]],t,o⟩:=(by grind [sP,lM])
  rcases V with ⟨z,ke,f',k1,k2,k3,k4,k5,I⟩|⟨z,ke,k5,I⟩|⟨z,I⟩
  ·-- the block has been done:0 is returned
   have K:W=aZ:=(by grind)
   rw[ec z]at l;subst l;refine⟨λ_=>?_,?_⟩
   .grind [dA,kK,aI.su]
   refine J.trans (λ_=>I.trans (λ_=>?_) Z) G_
   have c1:f'.fn.code[f'.next]?=Wy (.push (bB 0)):=by grind
   have c2:f'.fn.code[f'.next+1]?=Wy .tw:=by rw[k1,k2];show (fQ R D F).code[_]?=_;rw[r,jb Z];simp
   have M:cI (dX R D) ⟨a++[f'],k.tape,k.out⟩ k k ⟨a++[aI.push { f' with next:=f'.next+1 } (bB 0)],k.tape,k.out⟩:=cI.step (jB c1) rfl rfl z rfl
   refine M.trans (λ_=>?_) Z
   have hg:(aI.push { f' with next:=f'.next+1 } (bB 0)).tr=Wy (.tw,{ (aI.push { f' with next:=f'.next+1 } (bB 0))with next:=f'.next+1+1 }):=jB c2
   have A:cF (dX R D) .tw a { (aI.push { f' with next:=f'.next+1 } (bB 0))with next:=f'.next+1+1 } k.tape k.out=(sP a (bB 0) k.tape k.out,0):=by simp[cF,sP,aI.last,aI.push]
   rw[m]at A;rw[K];exact cI.step hg aJ A z aJ
  .rw[ec z]at l;subst l;refine⟨λ_=>?_,?_⟩
   .grind [dA,kK,aI.su]
   rw[m]at I;grind [cI.trans,cI]
  grind [cI.trans]
theorem SH(a:bQ)(x y:Int):(jD a x y).2≠9:=by grind[jD]
theorem KI(a b:aE):(fZ a b).2≠9:=by grind[fZ]
def UT(c:bQ)(a b:aE):(dJ c a b).2≠9:=by grind[dJ,SH,KI]
def WS(b:bQ)(a:aE):(dH b a).2≠9:=by grind[dH]
def MX(a b:aE):(cB a b).2≠9:=by grind[cB]
def KF(a:aE):(dO a).2≠9:=by grind[dO]
theorem vM:∀(b:List aE) (a v:aE),(cJ b a v).2≠9|[],_,_=>by simp[cJ]|i::r,a,v=>by have:=vM r (a.l.getD i.n.toNat aZ) v;grind[cJ]
def nD{n:Nat}{vs:List aE}(a:f.fn.code[n]?=Wy i):(f.su n vs).tr=Wy (i,f.su (n+1) vs):=jB (f:=f.su n vs) a
theorem lO(f:aI)(n:Nat)(v:aE):(f.su n [v]).pop=f.su n []:=by simp[aI.su,aI.pop]
def eO.push{a:List aI}{v:aE}{s:aM}(e:f.fn.code[X]?=Wy i)(g:f.next=X)(c:s.stop=0)(d:i.sg=WD)(h:cF Q i a {f with next:=X+1} s.tape s.out=(⟨a++[f.su (X+1) [v]],s.tape,s.out⟩,0)):eO Q a f (X+1) [v] s s:=⟨s_,cI.step (jB (f:=f) (by rw[g];exact e)) d G_ c rfl⟩
def RZ{y:List eL}{V:aC->aM->dZ aE}(HV:mA R y V){d:Nat}{l r:aC}{w:Bool}{j:cY}{c:List aI}{s:aM}{v:aE}{W:aM}(hl:si R WD j d l)(hr:si R WD j d r) (h:gA j p (aG R j d l p++[.sw w (p+aA (aG R j d l p)+1+aA (aG R j d r (p+aA (aG R j d l p)+1))+1)]++aG R j d r (p+aA (aG R j d l p)+1)++[.ue]) c f s) (u:oE V w l r s=Wy (v,W)):eO y c f (p+aA (aG R j d l p)+1+aA (aG R j d r (p+aA (aG R j d l p)+1))+1) [v] s W:=by
 generalize S:aG R j d l p=k at*;generalize Q:aG R j d r (p+aA k+1)=B at*;generalize hq:p+aA k+1+aA B+1=q at*;unfold oE at u;cases hv:V l s with|none=>grind|some x=>
  have ⟨a,s1⟩:=x;rw[hv]at u;simp only at u;have hc:=h.code;have N:=(hc.left.left.right).zo;have ac:eR f.fn.code (p+aA k+1) B:=by grind[eR.right,eR]
  have T:f.fn.code[p+aA k+1+aA B]?=Wy .ue:=by have:=hc.right.zo;grind
  have E:=HV d l j p c f s a s1 hl {h with code:=by grind[eR]} hv;rw[S]at E;by_cases L:s1.stop=0;rotate_left;grind[cI.any,eO,aM.or];have C:=(E.1 L).trans h.f_;have m:=nD (f:=f) (n:=p+aA k) (vs:=[a]) N;have ab:=λt o=>oG (tz:=y) (i:=.sw w q) (below:=c) (f:=f.su (p+aA k+1) [a]) (t:=t) (o:=o) s_ s_ s_ s_;have M:(f.su (p+aA k+1) [a]).last=a:=kA _ _ _;by_cases P:a.c_=1;rotate_left;rw[ec (Z)]at u;simp[fu,gd]at u;obtain⟨rfl,rfl⟩:=u;have e:s1.or 2={s1 with stop:=2}:=by grind[aM.or]
  rw[e];refine⟨s_,E.2.trans (λ_=>cI.stops (st:=2) (m1:=⟨c++[f.su (p+aA k+1) []],s1.tape,s1.out⟩) m ?_ d_ d_ rfl rfl ?_) Z⟩;grind[aS,lO];exact kM (s:={s1 with stop:=2}) (g:=f.su (p+aA k+1) []) C rfl rfl rfl rfl;rw[dy Z]at u;by_cases hw:decide (a.n=1)=w;rw[ec hw]at u;simp[fu,gd]at u;obtain⟨rfl,rfl⟩:=u;refine⟨E.1,E.2.trans (λ_=>cI.step m aJ ?_ L aJ) Z⟩;grind[aS,lO,lM,aI.su];rw[dy hw]at u;have hE:cI y ⟨c++[f],s.tape,s.out⟩ s s1 ⟨c++[f.su (p+aA k+1) []],s1.tape,s1.out⟩:=by refine E.2.trans (λ_=>cI.step m aJ ?_ L aJ) Z;grind[aS,lO]
  cases F:V r s1 with|none=>grind|some x2=>
   have ⟨b,s2⟩:=x2;rw[F]at u;simp only at u;have X:=HV d r j (p+aA k+1) c (f.su (p+aA k+1) []) s1 b s2 hr (by grind[gA.su,eO]) F;rw[Q]at X;have D:cI y ⟨c++[f],s.tape,s.out⟩ s s2 ⟨c++[(f.su (p+aA k+1) []).su (p+aA k+1+aA B) [b]],s2.tape,s2.out⟩:=(by grind[cI.trans,eO]);have H:(f.su (p+aA k+1) []).su (p+aA k+1+aA B) [b]=f.su (p+aA k+1+aA B) [b]:=by simp[aI.su]
   rw[H]at D;by_cases I:s2.stop=0;rotate_left;grind[eO,aM.or,cI];have G:=(X.1 I).trans C;have z:=nD (f:=f) (n:=p+aA k+1+aA B) (vs:=[b]) T;have aa:=λt o=>oG (tz:=y) (i:=.ue) (below:=c) (f:=f.su (p+aA k+1+aA B+1) [b]) (t:=t) (o:=o) s_ s_ s_ s_;have K:(f.su (p+aA k+1+aA B+1) [b]).last=b:=kA _ _ _;by_cases J:b.c_=1;rw[dy Z]at u;simp[fu,gd]at u;obtain⟨rfl,rfl⟩:=u;refine⟨(by grind[eO]),D.trans (λ_=>cI.step z rfl ?_ I rfl) Z⟩;grind[aS,lO,lM];rw[ec (Z)]at u;simp[fu,gd]at u;obtain⟨rfl,rfl⟩:=u;have e:s2.or 2={s2 with stop:=2}:=by grind[aM.or]
   rw[e];refine⟨s_,D.trans (λ_=>cI.stops (st:=2) (m1:=⟨c++[f.su (p+aA k+1+aA B+1) []],s2.tape,s2.out⟩) z ?_ d_ d_ rfl rfl ?_) Z⟩;grind[aS,lO];exact kM (s:={s2 with stop:=2}) (g:=f.su (p+aA k+1+aA B+1) []) G rfl rfl rfl rfl
theorem WF(f:aI)(n:Nat)(a:List aE):(f.su n a).n_ (aA a)=f.su n []:=by simp[aI.su,aI.n_]
theorem XY(f:aI)(n:Nat)(a:List aE):(f.su n a).many (aA a)=a:=by simp[aI.su,aI.many]
theorem XO(f:aI)(n:Nat)(v w:aE):(f.su n [v,w]).last=w:=by simp[aI.su,aI.last]
theorem Z3(f:aI)(n:Nat)(v w:aE):(f.su n [v,w]).pop=f.su n [v]:=by grind[aI.su,aI.pop]
def qK{B:aC->aM->dZ (aE×Bool)}{r:List aE->aE×Nat}(E:∀l s,jR R B S l s=Wy ((r l).1,s.or (r l).2))(A:∀l,(r l).2≠9){V:aC->aM->dZ aE} (D:mA R Q V){d:Nat}{c:cY}{p:Nat}{b:List aI}{f:aI}{s:aM}{v:aE}{q:aM} (C:∀k∈S.y_,si R WD c d k) (h:gA c p (bC (aG R c d) S.y_ p++[i]) b f s) (z:i.sg=WD) (m:(match fD V S.y_ s with|none=>Wz|some (l,s1)=>if s1.stop≠0 then Wy (aZ,s1)else jR R B S l s1)=Wy (v,q)) (y:∀(n:Nat) (g:List aE) t o,aA g=aA S.y_->((r g).2=0->cF Q i b (f.su n g) t o=(⟨b++[f.su n [(r g).1]],t,o⟩,0))/\((r g).2≠0->cF Q i b (f.su n g) t o=(⟨b++[f.su n []],t,o⟩,(r g).2))):eO Q b f (p+aA (bC (aG R c d) S.y_ p)+1) [v] s q:=by cases w:fD V S.y_ s with|none=>grind|some x=>have ⟨l,s1⟩:=x;rw[w]at m;simp only at m;have ⟨h1,h1l⟩:=kY D S.y_ p f s l s1 C {h with code:=h.code.left} w;by_cases u:s1.stop=0;rw[dy qv,E]at m;obtain⟨rfl,rfl⟩:=m;refine h1.then h.f_ (i:=i) (r:=r l) h.code.right.zo z (Z) (s_) (A l) λ_=>?_;exact y _ l _ _ (h1l u);grind[cI.any,eO]
def vP(Y_:c:=by simp only[fu,gd]at he;obtain⟨rfl,rfl⟩:=he;rw[hc]at h⊢;exact eO.push h.code.zo h.next h.stop aJ (by simp[cF,aS,aI.push,aI.su])):c:=Y_
def EG(Y_:c:=by rw[hlen];refine qK (r:=λl=>dH a.op (l.head?.getD aZ)) ((by grind[jR])) (λl=>WS _ _) HV G_ h rfl he λn vs t o hn=>?_;rw[hk]at hn;match vs,hn with|[x],_=>grind[aS,lO,kA,lM]):c:=Y_
def Rq(M:∀f∈R,gY R X f){V:aC->aM->dZ aE}{B:aC->aM->dZ (aE×Bool)}(HV:mA R (dX R X) V)(W:qP R (dX R X) B):mA R (dX R X) λn s=>gR R V B n s:=by
 intro d a b p q f s v T H h he;cases d with|zero=>exact H.elim|succ d=>
  simp only at he;unfold gR at he;have J:∀(i:aO) (g:aI) t o,i≠.tw->i≠.read->i≠.print->(∀k n,i≠.call k n)->cF (dX R X) i q g t o=(⟨q++[(aS i g).1],t,o⟩,(aS i g).2):=(by grind[oG]);rcases H with ⟨c|c|c,hk⟩|⟨c,hk,Q⟩|⟨c,hk⟩|⟨c,l,r,hk,w,G⟩|⟨c|c,l,hk,w⟩|⟨c,hk,hc⟩|⟨c,l,r,hk,w,G⟩;have hc:aG R b (d+1) a p=[.push (bB (((dS 0 a.x_).getD 0:Nat):Int))]:=by rw[aG];simp[c]
  rw[ec me]at he;exact vP;have hc:aG R b (d+1) a p=[.push (bS a.x_)]:=by rw[aG];simp[c]
  rw[dy me,ec me]at he;exact vP;have hc:aG R b (d+1) a p=[.push (cG (a.x_==[116,114,117,101]))]:=by rw[aG];simp[c]
  rw[dy me,dy me,ec me]at he;exact vP;have hc:aG R b (d+1) a p=[.load (dP b a.x_)]:=by rw[aG];simp[c]
  rw[dy me,dy me,dy me,ec me]at he;simp[fu,gd]at he;obtain⟨I,rfl⟩:=he;rw[hc]at h⊢;rw[zL h.f_,h.zj]at I;have ⟨e1,e2,_⟩:=BD b f.g_ a.x_ h.nodup Q h.g_;rw[e1,e2]at I;exact eO.push h.code.zo h.next h.stop aJ (by grind[aS,aI.push,aI.su]);have hc:aG R b (d+1) a p=bC (aG R b d) a.y_ p++[.list (aA a.y_)]:=by rw[aG];simp[c]
  rw[dy me,dy me,dy me,dy me,dy me]at he;rw[hc]at h⊢;have hlen:p+aA (bC (aG R b d) a.y_ p++[aO.list (aA a.y_)])=p+aA (bC (aG R b d) a.y_ p)+1:=G_;rw[hlen];refine qK (r:=λl=>(bG l,if 200<aK (bG l)then 6 else 0)) ((by grind[jR])) (G_) HV hk h rfl he λn vs t o hn=>?_;grind[aS,jH,WF,XY,lM];have hc:aG R b (d+1) a p=bC (aG R b d) a.y_ p++[.index]:=by rw[aG];simp[c]
  rw[dy me,dy me,dy me,dy me,dy me]at he;rw[hc]at h⊢;have hlen:p+aA (bC (aG R b d) a.y_ p++[aO.index])=p+aA (bC (aG R b d) a.y_ p)+1:=G_;rw[hlen];refine qK (r:=λl=>cB (l.head?.getD aZ) ((l.drop 1).head?.getD aZ)) ((by grind[jR])) (λl=>MX _ _) HV G_ h rfl he λn vs t o hn=>?_;rw[hk]at hn;match vs,hn with|[x,y],_=>grind[aS,XO,Z3,lO,kA,lM]
  have hc:aG R b (d+1) a p=bC (aG R b d) a.y_ p++[.unary [45]]:=by rw[aG];simp[c]
  rw[dy me,dy me,dy me,dy me,dy me]at he;rw[hc]at h⊢;have hlen:p+aA (bC (aG R b d) a.y_ p++[aO.unary [45]])=p+aA (bC (aG R b d) a.y_ p)+1:=G_;exact EG;have hc:aG R b (d+1) a p=bC (aG R b d) a.y_ p++[.unary [33]]:=by rw[aG];simp[c]
  rw[dy me,dy me,dy me,dy me,dy me]at he;rw[hc]at h⊢;have hlen:p+aA (bC (aG R b d) a.y_ p++[aO.unary [33]])=p+aA (bC (aG R b d) a.y_ p)+1:=G_;exact EG
  .rw[dy me,dy me,dy me,dy me,dy me]at he;have m:∀l s,jR R B a l s=jV R B a.x_ l s:=(by grind[jR]);have hlen:∀i:aO,p+aA (bC (aG R b d) a.y_ p++[i])=p+aA (bC (aG R b d) a.y_ p)+1:=(by grind);rcases hc with ⟨F,hn⟩|⟨F,_,hn⟩|⟨N,P,_,hn⟩;have hc:aG R b (d+1) a p=bC (aG R b d) a.y_ p++[.length]:=by rw[aG];grind
   rw[hc]at h⊢;rw[hlen];refine qK (r:=λl=>dO (l.head?.getD aZ)) ((by grind[jV])) (λl=>KF _) HV hk h rfl he λn vs t o C=>?_;rw[hn]at C;match vs,C with|[x],_=>grind[aS,lO,kA,lM]
   .have hc:aG R b (d+1) a p=bC (aG R b d) a.y_ p++[.read]:=by rw[aG];grind
    have hk0:=kf hn;rw[hk0]at he;simp only[fD]at he;rw[dy (by simp[h.stop]),m]at he;rw[hc,hk0]at h⊢;simp only[bC,ig,fg,fi]at h⊢;unfold jV at he;rw[dy (by simp[F]),ec (by simp[F])]at he;have hfetch:=jB (by rw[h.next];exact h.code.zo);cases u:s.tape with
    |nil=>
     rw[u]at he;simp[fu,gd]at he;obtain⟨rfl,rfl⟩:=he;have e:s.or 7={s with stop:=7}:=by grind[aM.or,gA.stop]
     rw[e];refine⟨s_,cI.stops (st:=7) hfetch (by rw[u];rfl) d_ d_ rfl rfl ?_⟩;exact kM (s:={s with stop:=7}) (g:={f with next:=f.next+1}) h.f_ rfl rfl rfl rfl|cons t r=>rw[u]at he;simp[fu,gd]at he;obtain⟨rfl,rfl⟩:=he;refine⟨s_,cI.step hfetch rfl ?_ h.stop rfl⟩;grind[cF,aI.push,aI.su,gA.next]
   have hc:aG R b (d+1) a p=bC (aG R b d) a.y_ p++[.call (dW R a.x_) (aA a.y_)]:=by grind[aG]
   rw[hc]at h⊢;rw[hlen];cases w:fD V a.y_ s with|none=>grind|some x=>have ⟨l,s1⟩:=x;rw[w]at he;simp only at he;have ⟨h1,h1l⟩:=kY HV a.y_ p f s l s1 hk {h with code:=h.code.left} w;by_cases A:s1.stop=0;rw[dy (by simp[A]),m]at he;have K:=h1l A;have L:=h.code.right.zo;grind[A0,gA.f_,gA.deep,cI.trans,eO];grind[cI.any,eO]
  have z:=oR c;have E:a.op≠[48]/\a.op≠[115]/\a.op≠[98,111,111,108]/\a.op≠[110,97,109,101]/\a.op≠[108,105,115,116]/\a.op≠[99,97,108,108]/\a.op≠[105,110,100,101,120]/\a.op≠[45,120]/\a.op≠[33,120]:=by rcases z with h|h|h|h|h|h|h|h|h|h|h<;>rw[h]<;>decide
  have ⟨n1,n2,n3,n4,n5,n6,n7,n8,n9⟩:=E;rw[dy G_,dy G_,dy G_,dy G_]at he;by_cases S:a.op=[38,38]\/a.op=[124,124];have hc:aG R b (d+1) a p=aG R b d l p++[.sw (a.op==[124,124]) (p+aA (aG R b d l p)+1+aA (aG R b d r (p+aA (aG R b d l p)+1))+1)]++aG R b d r (p+aA (aG R b d l p)+1)++[.ue]:=by grind[aG]
  rw[ec G_,hk]at he;simp only at he;rw[hc]at h⊢;have:=RZ HV w G h he;grind;have hc:aG R b (d+1) a p=bC (aG R b d) a.y_ p++[.binary a.op]:=by grind[aG]
  rw[dy G_]at he;rw[hc]at h⊢;have hlen:p+aA (bC (aG R b d) a.y_ p++[aO.binary a.op])=p+aA (bC (aG R b d) a.y_ p)+1:=G_;rw[hlen];refine qK (r:=λl=>dJ a.op (l.head?.getD aZ) ((l.drop 1).head?.getD aZ)) ((by grind[jR])) (λl=>UT _ _ _) HV G_ h rfl he λn vs t o hn=>?_;rw[hk]at hn;match vs,hn with|[x,y],_=>grind[aS,XO,Z3,lO,kA,lM]
def zI{tz:List eL}{e_:cY}{l_:Nat}{s:aM}(h:qE e_ X (.begin l_ e_::I) T f s):(s.q_ l_).tape=s.tape/\(s.q_ l_).out=s.out/\((s.q_ l_).stop=0->gA e_ (X+1) I T {f with next:=X+1,l_:=l_,e_:=e_} (s.q_ l_))/\cI tz ⟨T++[f],s.tape,s.out⟩ s (s.q_ l_) ⟨T++[{f with next:=X+1,l_:=l_,e_:=e_}],s.tape,s.out⟩:=by
 have hfetch:=jB (by rw[h.next];exact h.code.zo);have d:s.tj (λf=>{f with l_:=l_})={s with f_:=dA (T++[{f with next:=X+1,l_:=l_,e_:=e_}])}:=by unfold aM.tj;rw[h.f_];simp[dA,kK]
 have b:∀t o,cF tz (.begin l_ e_) T {f with next:=f.next+1} t o=(⟨T++[{f with next:=X+1,l_:=l_,e_:=e_}],t,o⟩,0):=(by grind[aS,qE.next,cF]);have j:∀i,(⟨(dA (T++[{f with next:=X+1,l_:=l_,e_:=e_}])).map λf=>(f.name,f.l_),aM.g_ {s with f_:=dA (T++[{f with next:=X+1,l_:=l_,e_:=e_}])},s.out,i⟩:fK)=sy ⟨T++[{f with next:=X+1,l_:=l_,e_:=e_}],s.tape,s.out⟩ i:=λi=>kM (s:={s with f_:=dA (T++[{f with next:=X+1,l_:=l_,e_:=e_}])}) (g:={f with next:=X+1,l_:=l_,e_:=e_}) rfl rfl rfl rfl rfl;unfold aM.q_;rw[d];simp;by_cases e:aA s.sk=500;.rw[ec e];refine⟨aJ,aJ,(by grind[aM.notes]),dz ⟨by simp[aM.notes],[sy ⟨T++[{f with next:=X+1,l_:=l_,e_:=e_}],s.tape,s.out⟩ 9],?_,_,_,[],_,.refl _ _,?_,rfl⟩⟩;grind[aM.final,aM.notes,aM.g_];rw[e];exact .fuel hfetch aJ (b _ _)
 rw[dy e];refine⟨aJ,aJ,λ_=>⟨h.code.tail,aJ,aJ,h.nodup,h.g_,h.stop,aJ,h.deep⟩,ea ⟨h.stop,[sy ⟨T++[{f with next:=X+1,l_:=l_,e_:=e_}],s.tape,s.out⟩ 0],?_,?_⟩⟩;grind[aM.notes,qE.stop];simp [aM.notes,et];exact .wy hfetch aJ (b _ _) e (.refl _ _)
theorem vr(l:List e)(m:List j):l.zip (m.take (aA l))=l.zip m:=by induction l generalizing m with|nil=>simp|cons a l d=>cases m with|nil=>simp|cons b m=>simp[d]
theorem IE:∀(l:List e) (m:List j) (k:Nat) (x:j) (a:e),l[k]?=Wy a->l.zip (m.set k x)=(l.zip m).set k (a,x)|[],_,_,_,_,h=>by simp at h|y::l,[],k,x,a,_=>by simp|y::l,b::m,0,x,a,h=>by simp at h;simp[h]|y::l,b::m,k+1,x,a,h=>by simp[IE l m k x a h]
def mC{V:aC->aM->dZ aE}(z:mA R Q V){c:cY}{s:aM}{l:List aC}{s1 n:aM}{x:Nat}(u:∀k∈l,si R WD P X k) (h:gA P p (bC (aG R P X) l p++[i]) T f s) (y:fD V l s=Wy (N,s1)) (B:i.sg=WD) (r:s1.stop=0) (v:(n.stop=0/\x=0/\n.sk=s1.sk/\∃g:aI,g.fn=f.fn/\g.ops=f.ops/\g.next=p+aA (bC (aG R P X) l p)+1/\aA c<=aA g.g_/\n.f_=dA T++[kK g c]/\cF Q i T (f.su (p+aA (bC (aG R P X) l p)+1) N) s1.tape s1.out=(⟨T++[g],n.tape,n.out⟩,0))\/(n={s1 with stop:=x}/\x≠0/\x≠9/\cF Q i T (f.su (p+aA (bC (aG R P X) l p)+1) N) s1.tape s1.out=(⟨T++[f.su (p+aA (bC (aG R P X) l p)+1) []],s1.tape,s1.out⟩,x))):dT Q T f (p+aA (bC (aG R P X) l p)+1) c (aZ,WD) s n:=by have ⟨h1,h1l⟩:=kY z l p f s N s1 u {h with code:=h.code.left} y;have j:=nD (f:=f) (vs:=N) h.code.right.zo;rcases v with ⟨D,_,q,g,F,C,I,E,H,A⟩|⟨rfl,q,w,t⟩;grind[cI.trans,cI.step,dT,eO];refine dz (dz ⟨q,λG=>h1.2.trans (λ_=>cI.stops (st:=x) j t q w aJ aJ ?_) Z⟩);exact kM (s:={s1 with stop:=x}) (g:=f.su (p+aA (bC (aG R P X) l p)+1) []) ((h1.1 r).trans h.f_) rfl rfl rfl rfl
theorem dT.after{f1:aI}{r:aE×Bool}{s d e:aM}(j:f1.fn=f.fn)(i:f1.ops=f.ops)(g:cI Q ⟨T++[f],s.tape,s.out⟩ s d ⟨T++[f1],d.tape,d.out⟩)(k:d.stop=0)(h:dT Q T f1 X P r d e):dT Q T f X P r s e:=by grind[cI.trans,dT]
theorem dT.halted{r:aE×Bool}{s d:aM}(e:cI Q ⟨T++[f],s.tape,s.out⟩ s d F)(g:d.stop≠0):dT Q T f X P r s d:=(by grind[dT,cI])
def xD{V:aC->aM->dZ aE}(z:mA R Q V){q:Nat}{below:List aI}{s:aM}{t:Bool}{l:aM}(A:si R WD P X S) (h:gA P p (aG R P X S p++[.skip q]) below f s) (n:kF V S s=Wy (t,l)):(l.stop=0->l.f_=s.f_)/\cI Q ⟨below++[f],s.tape,s.out⟩ s l ⟨below++[f.su (if t then p+aA (aG R P X S p)+1 else q) []],l.tape,l.out⟩/\(l.stop≠0->t=WD):=by
 unfold kF at n;cases w:V S s with|none=>grind|some x=>
  have ⟨a,s1⟩:=x;rw[w]at n;simp at n;have r:=z X S P p below f s a s1 A {h with code:=h.code.left} w;by_cases v:s1.stop=0;rotate_left;grind[cI,aM.or,eO];have j:=nD (f:=f) (vs:=[a]) h.code.right.zo;have y:=λt o=>oG (tz:=Q) (i:=.skip q) (below:=below) (f:=f.su (p+aA (aG R P X S p)+1) [a]) (t:=t) (o:=o) s_ s_ s_ s_;by_cases u:a.c_=1;rw[dy Z]at n;obtain⟨rfl,rfl⟩:=n;refine⟨r.1,r.2.trans (λ_=>cI.step j aJ ?_ v aJ) (Z),Z⟩;grind[aS,kA,lO,aI.su];rw[ec (Z)]at n;obtain⟨rfl,rfl⟩:=n;have e:s1.or 2={s1 with stop:=2}:=by grind[aM.or]
  rw[e];refine⟨s_,r.2.trans (λ_=>cI.stops (st:=2) (m1:=⟨below++[f.su (p+aA (aG R P X S p)+1) []],s1.tape,s1.out⟩) j ?_ d_ d_ rfl rfl ?_) (Z),s_⟩;grind[aS,kA,lO];exact kM (s:={s1 with stop:=2}) (g:=f.su (p+aA (aG R P X S p)+1) []) ((r.1 v).trans h.f_) rfl rfl rfl rfl
theorem gA.st{b:cY}{e:Nat}{g:List aO}{a:List aI}{s d:aM}(h:gA b X I a f s)(k:eR f.fn.code e g)(j:d.stop=0)(i:d.f_=s.f_):qE b e g a (f.su e []) d:=⟨k,rfl,h.nodup,h.g_,j,by rw[i,h.f_];simp[dA,kK,aI.su,h.zj],h.deep⟩
def lF(f:aI)(n:Nat):(f.su n []).ops=f.ops:=by simp[aI.su]
def FH{g:List eL}{V:aC->aM->dZ aE}{B:aC->aM->dZ (aE×Bool)}(HV:mA R g V)(HB:qP R g B){d:Nat}{n c b:aC}{e_:cY}{q:Nat}{a:List aI}{j:List aO}{f0:aI} (hc:si R WD e_ d c) (hb:sq (cO R d) e_ b.y_) (G:aG R e_ d c (p+1)=j) (D:bM (aU R d) e_ b.y_ (p+1+aA j+1)=I) (hq:q=p+1+aA j+1+aA I+1) (h:eR f0.fn.code p (.begin n.l_ e_::j++[.skip q]++I++[.jump p])) (C:e_.Nodup) (P:aA a+1<=16):∀(k:Nat) (t:Bool) (f:aI) (s:aM) (r:aE×Bool) (N:aM),f.fn=f0.fn->f.ops=f0.ops->f.e_=e_->aA e_<=aA f.g_->(s.stop≠0->t=WD)->s.stop=0->f.next=(if t then p+1+aA j+1 else q)->s.f_=dA (a++[f])->iL V B n c b k t s=Wy (r,N)->dT g a f q e_ r s N
 |0,_,_,_,_,_,_,_,_,_,_,_,_,_,i=>by simp[iL]at i|k+1,t,f,s,r,N,K,F,ad,Q,ae,hs,J,ac,i=>by
  rw[iL]at i;cases t with|false=>grind[cI.refl,dA,dT]|true=>
   rw[dy (by simp[hs])]at i;simp only[if_true]at J;have c1:eR f.fn.code (p+1+aA j+1) I:=by rw[K];have:=h.left.right;grind
   have c2:f.fn.code[p+1+aA j+1+aA I]?=Wy (.jump p):=by rw[K];have:=h.right.zo;grind
   cases hB:B b s with|none=>grind|some x=>
    have ⟨⟨v,e⟩,s1⟩:=x;rw[hB]at i;simp only at i;have M:=HB d b e_ (p+1+aA j+1) a f s (v,e) s1 hb ⟨G_,J,C,Q,hs,by grind[dA],P⟩ hB;rw[D]at M;rcases M with ⟨H,ke,f',k1,k2,k3,k4,k5,k6⟩|⟨H,ke,k5,k6⟩|⟨H,k6⟩
    .obtain⟨rfl,rfl⟩:=gi ke;rw[dy (by simp[H])]at i;have W:f'.fn.code[f'.next]?=Wy (.jump p):=G_;have hj:cI g ⟨a++[f'],s1.tape,s1.out⟩ s1 s1 ⟨a++[{f' with next:=p}],s1.tape,s1.out⟩:=cI.step (jB W) rfl rfl H rfl;have S:qE e_ p (.begin n.l_ e_::(j++[.skip q])) a {f' with next:=p} s1:=⟨by grind[eR.left],rfl,C,k4,H,by rw[k5];rfl,P⟩;have ⟨b1,b2,b3,b4⟩:=zI (tz:=g) S;generalize ag:({f' with next:=p+1,l_:=n.l_,e_:=e_}:aI)=o at*;have hE:cI g ⟨a++[f],s.tape,s.out⟩ s (s1.q_ n.l_) ⟨a++[o],(s1.q_ n.l_).tape,(s1.q_ n.l_).out⟩:=by grind[cI.trans]
     generalize s1.q_ n.l_=T at*;by_cases z:T.stop=0;rotate_left;rw[ec z]at i;cases k with|zero=>simp[iL]at i|succ k=>grind[iL,dT.halted]
     rw[dy (by simp[z])]at i;cases L:kF V c T with|none=>grind|some y=>have ⟨t1,s3⟩:=y;rw[L]at i;simp only at i;have X:=b3 z;have E:gA e_ (p+1) (aG R e_ d c (p+1)++[.skip q]) a o T:=G_;have ⟨d1,d2,d3⟩:=xD HV hc E L;rw[G]at d2;have af:=hE.trans (λ_=>d2) Z;have aa:o.fn=f.fn:=G_;have u:o.ops=f.ops:=G_;have m:o.e_=e_:=G_;have l:aA e_<=aA o.g_:=G_;by_cases w:s3.stop=0;have ab:=FH HV HB hc hb G D hq h C P k t1 (o.su (if t1 then p+1+aA j+1 else q) []) s3 r N (by show o.fn=_;grind) (by rw[lF,u,F]) m l d3 w rfl (by rw[d1 w,X.f_];simp[dA,kK,aI.su]) i;grind[dT.after,aI.su];have:=d3 w;subst this;cases k with|zero=>simp[iL]at i|succ k=>grind[iL,dT.halted]
    grind[dT];grind[dT]
theorem XW(f:aI)(n:Nat)(a:List aE)(v:aE):(f.su n (a++[v])).last=v:=by grind[aI.su,aI.last]
theorem Q9(f:aI)(n:Nat)(a:List aE)(v:aE):(f.su n (a++[v])).pop=f.su n a:=by grind[aI.su,aI.pop]
def I0{V:aC->aM->dZ aE}(D:mA R Q V){s:aM}{s1:aM}(y:S.op=[115,101,116])(G:S.x_∈P)(H:S.y_≠[])(A:∀k∈S.y_,si R WD P X k) (h:gA P p (bC (aG R P X) S.y_ p++[.assign (dP P S.x_) (aA S.y_-1)]) T f s) (C:fD V S.y_ s=Wy (N,s1)) (u:s1.stop=0):dT Q T f (p+aA (bC (aG R P X) S.y_ p)+1) P (aZ,WD) s (fX S N s1):=by
 have ⟨h1,h1l⟩:=kY D S.y_ p f s N s1 A {h with code:=h.code.left} C;have I:=h1l u;have q:=(h1.1 u).trans h.f_;have m:s1.g_=P.reverse.zip f.g_:=by rw[zL q,h.zj]
 have ⟨e1,e2,e3⟩:=BD P f.g_ S.x_ h.nodup G h.g_;have E:N≠[]:=(by grind);obtain⟨i,v,rfl⟩:∃i v,N=i++[v]:=by rcases hH N with J|⟨b,x,J⟩;grind;grind
 have z:aA S.y_-1=aA i:=G_;rw[z]at h;have K:=qI G;generalize w:p+aA (bC (aG R P X) S.y_ p)+1=B;have j:fX S (i++[v]) s1=(let r:=jJ (f.g_[dP P S.x_]?.getD aZ) i v;if r.2=0 then s1.tj (λf=>{f with g_:=f.g_.set (dP P S.x_) (((f.g_[dP P S.x_]?.map (·.1)).getD []),r.1)})else {s1 with stop:=r.2}):=by unfold fX;rw[dy (by simp[y]),dy (by simp[y]),ec (by simp[y]),m,e1];have L:(i++[v]).getLast?.getD aZ=v:=s_;have M:(i++[v]).dropLast=i:=(by simp);grind[jJ,jH]
 rw[j];have g:cF Q (.assign (dP P S.x_) (aA i)) T (f.su B (i++[v])) s1.tape s1.out=(let r:=jJ (f.g_[dP P S.x_]?.getD aZ) i v;if r.2=0 then (⟨T++[{f.su B []with g_:=f.g_.set (dP P S.x_) r.1}],s1.tape,s1.out⟩,0)else (⟨T++[f.su B []],s1.tape,s1.out⟩,r.2)):=by grind[aI.su,aS,XW,Q9,XY,WF,cF]
 have t:(jJ (f.g_[dP P S.x_]?.getD aZ) i v).2≠9:=by grind[jJ,jH,vM]
 simp only at g⊢;generalize jJ (f.g_[dP P S.x_]?.getD aZ) i v=r at g t⊢;by_cases F:r.2=0;rw[ec F]at g⊢;rw[<-w]at g⊢;refine mC D (x:=0) A h C aJ u (ea ⟨u,aJ,aJ,{f.su (p+aA (bC (aG R P X) S.y_ p)+1) []with g_:=f.g_.set (dP P S.x_) r.1},rfl,?_,rfl,?_,?_,g⟩);simp[aI.su];grind[gA.g_];unfold aM.tj;rw[q];simp[dA,ft,fk,gg,List.getLast?_append,km,Option.some_or,jd,Option.toList_some,List.dropLast_concat];grind[kK,aI.su,gA.zj,IE];rw[dy F]at g⊢;rw[<-w]at g⊢;exact mC D (x:=r.2) A h C aJ u (G_)
def LK(fs:List aC)(tz:List eL)(S:aC->aM->dZ (aE×Bool)):Prop:=∀(d:Nat) (a:aC) (e_:cY) (p:Nat) (below:List aI) (f:aI) (s:aM) (r:aE×Bool) (s':aM),cO fs d e_ a->qE e_ p (aU fs d e_ a p).1 below f s->S a s=Wy (r,s')->dT tz below f (p+(aU fs d e_ a p).1.length) (cS e_ a) r s s'
def uW{V:aC->aM->dZ aE}{s b:aM}(h:fD V [S] s=Wy (N,b))(c:s.stop=0):∃x,N=[x]:=by grind[fD]
def uC(c:aC->Nat->List aO)(v:aC)(p:Nat):bC c [v] p=c v p:=by simp[bC]
def T8{A:List eL}{V:aC->aM->dZ aE}{B:aC->aM->dZ (aE × Bool)}(G:mA R A V)(HB:qP R A B):LK R A λn s=>mR V B n s:=by
 intro d a e_ p below f s r s' ha h i;cases d with
 |zero=>exact ha.elim
 |succ d=>
 simp only at i;unfold mR at i;simp only at i
 have j:∀(c:List aO),(aU R (d+1) e_ a p).1=.begin a.l_ e_::c->((s.q_ a.l_).stop=0->gA e_ (p+1) c below { f with next:=p+1,l_:=a.l_,e_:=e_ } (s.q_ a.l_)->
  dT A below { f with next:=p+1,l_:=a.l_,e_:=e_ } (p+(aU R (d+1) e_ a p).1.length) (cS e_ a) r (s.q_ a.l_) s')->dT A below f (p+(aU R (d+1) e_ a p).1.length) (cS e_ a) r s s':=λc S k=>by
  rw[S]at h;obtain⟨b1,b2,b3,b4⟩:=zI (tz:=A) h;rw[<-b1,<-b2]at b4;by_cases l:(s.q_ a.l_).stop=0
  .refine dT.after (f1:={ f with next:=p+1,l_:=a.l_,e_:=e_ }) rfl rfl ?_ l (G_)
   grind
  grind [dT,cI]
 have T:a.op≠[118,97,114]->cS e_ a=e_:=(by grind [cS])
 rcases ha with ⟨l,hb,t,v,w,hv,aj⟩|⟨l,hx,aa,w⟩|⟨l,c,t,w,S,ht⟩|⟨l,c,b,w,S,hb⟩|⟨l,w⟩|⟨l,v,w,hv⟩|⟨l,v,w,hv⟩
 .have C:(aU R (d+1) e_ a p).1=aO.begin a.l_ e_::(aG R e_ d v (p+1)++[aO.declare (aA e_)]):=by rw[aU];grind
  refine j _ C λu hat=>?_
  rw[dy qv,dy mr,dy mr,dy mr,ec mr,w]at i
  simp only[List.drop_succ_cons,List.drop_zero]at i;have ab:cS e_ a=t.x_::e_:=by grind [cS]
  cases o:fD V [v] (s.q_ a.l_)with
  |none=>grind
  |some y=>
   obtain⟨vs,s1⟩:=y;rw[o]at i;simp only[fu,gd]at i;obtain⟨rfl,i⟩:=i;obtain⟨x,rfl⟩:=uW o u;have hat':gA e_ (p+1) (bC (aG R e_ d) [v] (p+1)++[.declare (aA e_)]) below { f with next:=p+1,l_:=a.l_,e_:=e_ } (s.q_ a.l_):=by rw[uC];exact hat
   have z:∀k∈[v],si R WD e_ d k:=(by grind)
   obtain⟨M,N⟩:=kY G [v] (p+1) _ _ _ _ z { hat' with code:=hat'.code.left } o
   have E:p+(aU R (d+1) e_ a p).1.length=p+1+aA (bC (aG R e_ d) [v] (p+1))+1:=by grind [bC]
   rw[E];by_cases e:s1.stop=0
   rotate_left
   .grind [dT.halted,eO]
   rw[ec e]at i;have hfr :=(M.1 e).trans hat.f_;have m:fX a [x] s1=s1.tj λf=>{ f with g_:=f.g_++[(t.x_,x)] }:=by grind [fX]
   rw[m]at i;subst i;generalize Q:({ f with next:=p+1,l_:=a.l_,e_:=e_ }:aI)=f1 at*
   have hvl :=hat.g_;have ah:aA (f1.g_.take (aA e_)++[x])=aA e_+1:=G_
   refine mC G (x:=0) z hat' o aJ e (ea ⟨e,aJ,aJ,{ f1.su (p+1+aA (bC (aG R e_ d) [v] (p+1))+1) []with g_:=f1.g_.take (aA e_)++[x] },rfl,by simp[aI.su],rfl,?_,?_,?_⟩)
   .grind
   .unfold aM.tj;rw[hfr,ab];simp only[dA,ft,fk,gg,List.getLast?_append,km,Option.some_or,jd,Option.toList_some,List.dropLast_concat];congr 1
    simp only[kK,hat.zj,aI.su,List.reverse_cons];rw[List.zip_append G_]
    have:=vr e_.reverse f1.g_;rw[List.length_reverse]at this;rw[this];simp
   grind [aS,kA,lO,cF,aI.su,aM.tj]
 .have C:(aU R (d+1) e_ a p).1=aO.begin a.l_ e_::(bC (aG R e_ d) a.y_ (p+1)++[aO.assign (dP e_ a.x_) (aA a.y_-1)]):=by rw[aU];simp[l]
  refine j _ C λu hat=>?_
  rw[dy qv,dy mr,dy mr,dy mr,dy mr]at i
  rw[T G_]
  cases o:fD V a.y_ (s.q_ a.l_)with
  |none=>grind
  |some y=>
   obtain⟨vs,s1⟩:=y;rw[o]at i;simp[fu,gd]at i;obtain⟨rfl,i⟩:=i;have E:p+(aU R (d+1) e_ a p).1.length=p+1+aA (bC (aG R e_ d) a.y_ (p+1))+1:=G_
   rw[E];by_cases e:s1.stop=0
   .rw[ec e]at i;subst i;exact I0 G l hx aa w hat o e
   rw[dy e]at i;subst i;exact dT.halted (kY G a.y_ (p+1) _ _ _ _ w { hat with code:=hat.code.left } o).1.2 e
 ·-- if
  rw[T G_]at j ⊢
  have ⟨K,C,x,hx1,hx2⟩:∃K,(aU R (d+1) e_ a p).1=aO.begin a.l_ e_::(aG R e_ d c (p+1)++[aO.skip (p+1+aA (aG R e_ d c (p+1))+1+aA (bM (aU R d) e_ t.y_ (p+1+aA (aG R e_ d c (p+1))+1))+1)]++bM (aU R d) e_ t.y_ (p+1+aA (aG R e_ d c (p+1))+1)++
        [aO.jump (p+1+aA (aG R e_ d c (p+1))+1+aA (bM (aU R d) e_ t.y_ (p+1+aA (aG R e_ d c (p+1))+1))+1+aA K)]++K)/\
        ∃x,a.y_=c::t::x/\((x=[]/\K=[])\/∃y,x=[y]/\sq (cO R d) e_ y.y_/\K=bM (aU R d) e_ y.y_ (p+1+aA (aG R e_ d c (p+1))+1+aA (bM (aU R d) e_ t.y_ (p+1+aA (aG R e_ d c (p+1))+1))+1)):=by
   rcases w with w|⟨y,w,hy⟩
   .exact⟨[],by rw[aU];grind,[],w,s_⟩
   exact⟨_,by rw[aU];grind,[y],w,dz ⟨y,rfl,hy,rfl⟩⟩
  refine j _ C λu hat=>?_
  rw[dy qv,ec mr,hx1]at i
  simp only at i;generalize F:aG R e_ d c (p+1)=H at*;generalize P:bM (aU R d) e_ t.y_ (p+1+aA H+1)=ct at*;generalize hq:p+1+aA H+1+aA ct+1=q at*;have I:p+(aU R (d+1) e_ a p).1.length=q+aA K:=G_
  rw[I];cases J:kF V c (s.q_ a.l_)with
  |none=>grind
  |some y=>
   have ⟨b,s1⟩:=y;rw[J]at i;simp only at i;generalize Q:({ f with next:=p+1,l_:=a.l_,e_:=e_ }:aI)=f1 at*
   have ⟨k1,k2,k3⟩:=xD G (q:=q) S (p:=p+1) (below:=below) (f:=f1) (by rw[F];exact { hat with code:=hat.code.left.left.left }) J
   rw[F]at k2;by_cases e:s1.stop=0
   rotate_left
   .grind [dT,cI]
   rw[dy (by simp[e])]at i
   have D:=hat.code
   have af:eR f1.fn.code (p+1+aA H+1) ct:=by have:=D.left.left.right;grind
   have ad:f1.fn.code[p+1+aA H+1+aA ct]?=Wy (.jump (q+aA K)):=by have:=D.left.right.zo;grind
   have ae:eR f1.fn.code q K:=by have:=D.right;grind
   cases b with
   |true=>
    simp[if_true]at i k2;have W:=HB d t e_ (p+1+aA H+1) below (f1.su (p+1+aA H+1) []) s1 r s' ht (by grind [gA.st]) i
    rw[P]at W;refine dT.after (f1:=f1.su (p+1+aA H+1) []) aJ (lF _ _) k2 e ?_;rcases W with ⟨j0,je,f',j1,j2,j3,j4,j5,j6⟩|hh
    .have ac:f'.fn.code[f'.next]?=Wy (.jump (q+aA K)):=by rw[j1,j2];exact ad
     refine ea ⟨j0,je,{ f' with next:=q+aA K },j1,rfl,j3,j4,j5,j6.trans (λ_=>cI.step (jB ac) rfl rfl j0 rfl) Z⟩
    exact dz hh
   |false=>
    simp[jf,if_false]at i k2;refine dT.after (f1:=f1.su q []) aJ (lF _ _) k2 e ?_;rcases hx2 with ⟨rfl,rfl⟩|⟨y,rfl,hy,ai⟩
    .simp[fu,gd]at i;obtain⟨rfl,rfl⟩:=i;refine ea ⟨e,aJ,f1.su q [],aJ,aJ,aJ,hat.g_,?_,cI.refl _ _ _ e⟩;grind [gA.f_,dA,kK,aI.su]
    grind [gA.st,qP]
 ·-- while
  rw[T G_]at j ⊢
  have C:(aU R (d+1) e_ a p).1=aO.begin a.l_ e_::(aG R e_ d c (p+1)++[aO.skip (p+1+aA (aG R e_ d c (p+1))+1+aA (bM (aU R d) e_ b.y_ (p+1+aA (aG R e_ d c (p+1))+1))+1)]++bM (aU R d) e_ b.y_ (p+1+aA (aG R e_ d c (p+1))+1)++[aO.jump p]):=by rw[aU];grind
  have L:=h.code;refine j _ C λu hat=>?_
  rw[dy qv,dy mr,ec mr,w]at i
  simp only at i;rw[C]at L;generalize F:aG R e_ d c (p+1)=H at*;generalize P:bM (aU R d) e_ b.y_ (p+1+aA H+1)=cb at*;generalize hq:p+1+aA H+1+aA cb+1=q at*;have I:p+(aU R (d+1) e_ a p).1.length=q:=G_
  rw[I];cases J:kF V c (s.q_ a.l_)with
  |none=>grind
  |some y=>
   have ⟨tt,s1⟩:=y;rw[J]at i;simp only at i;generalize Q:({ f with next:=p+1,l_:=a.l_,e_:=e_ }:aI)=f1 at*
   have ag:f1.fn=f.fn:=G_
   have ⟨k1,k2,k3⟩:=xD G (q:=q) S (p:=p+1) (below:=below) (f:=f1) (by rw[F];exact { hat with code:=hat.code.left.left }) J
   rw[F]at k2;by_cases e:s1.stop=0
   rotate_left
   .grind [iL,dT,cI]
   have o:=FH G HB (f0:=f1) S hb F P hq.symm G_ hat.nodup hat.deep 1000 tt (f1.su (if tt then p+1+aA H+1 else q) []) s1 r s' rfl (lF _ _) hat.zj hat.g_ k3 e rfl (by grind [gA.f_,dA,kK,aI.su]) i
   grind [dT.after,aI.su]
 ·-- return
  rw[T G_]at j ⊢
  rcases w with w|⟨v,w,hv⟩
  .have C:(aU R (d+1) e_ a p).1=aO.begin a.l_ e_::[.push (bB 0),.tw]:=by rw[aU];grind
   refine j _ C λu hat=>?_
   rw[dy qv,dy mr,dy mr,ec mr,w]at i
   simp[fD,fu,gd]at i;obtain⟨rfl,rfl⟩:=i;generalize Q:({ f with next:=p+1,l_:=a.l_,e_:=e_ }:aI)=f1 at*
   refine dz (ea ⟨u,aJ,by rw[hat.f_];simp[dA],?_⟩)
   have e1:cI A ⟨below++[f1],(s.q_ a.l_).tape,(s.q_ a.l_).out⟩ (s.q_ a.l_) (s.q_ a.l_) ⟨below++[f1.su (p+1+1) [bB 0]],(s.q_ a.l_).tape,(s.q_ a.l_).out⟩:=(eO.push (v:=bB 0) hat.code.zo hat.next u aJ (by simp[cF,aS,aI.push,aI.su])).2
   refine e1.trans (λ_=>cI.step (nD hat.code.tail.zo) aJ ?_ u aJ) Z
   simp[cF,sP,aI.su,aI.last,aZ,bB]
  have C:(aU R (d+1) e_ a p).1=aO.begin a.l_ e_::(aG R e_ d v (p+1)++[.tw]):=by rw[aU];grind
  refine j _ C λu hat=>?_
  rw[dy qv,dy mr,dy mr,ec mr,w]at i
  cases o:fD V [v] (s.q_ a.l_)with
  |none=>grind
  |some y=>
   have ⟨vs,s1⟩:=y;rw[o]at i;simp[fu,gd]at i;obtain⟨rfl,rfl⟩:=i;obtain⟨x,rfl⟩:=uW o u;have hat':gA e_ (p+1) (bC (aG R e_ d) [v] (p+1)++[.tw]) below { f with next:=p+1,l_:=a.l_,e_:=e_ } (s.q_ a.l_):=by rw[uC];exact hat
   have ⟨M,N⟩:=kY G [v] (p+1) _ _ _ _ (G_) { hat' with code:=hat'.code.left } o
   by_cases e:s1.stop=0
   .refine dz (ea ⟨e,aJ,by rw[M.1 e,hat.f_];simp[dA],M.2.trans (λ_=>cI.step (nD hat'.code.right.zo) rfl ?_ e rfl) Z⟩)
    simp[cF,sP,aI.su,aI.last]
   exact dT.halted M.2 e
 ·-- print
  rw[T G_]at j ⊢
  have C:(aU R (d+1) e_ a p).1=aO.begin a.l_ e_::(aG R e_ d v (p+1)++[.print]):=by rw[aU];grind
  refine j _ C λu hat=>?_
  rw[dy qv,dy mr,dy mr,dy mr,dy mr,w]at i
  cases o:fD V [v] (s.q_ a.l_)with
  |none=>grind
  |some y=>
   have ⟨vs,s1⟩:=y;rw[o]at i;simp[fu,gd]at i;obtain⟨rfl,i⟩:=i;obtain⟨x,rfl⟩:=uW o u;have hat':gA e_ (p+1) (bC (aG R e_ d) [v] (p+1)++[.print]) below { f with next:=p+1,l_:=a.l_,e_:=e_ } (s.q_ a.l_):=by rw[uC];exact hat
   have z:∀k∈[v],si R WD e_ d k:=(by grind)
   have ⟨M,N⟩:=kY G [v] (p+1) _ _ _ _ z { hat' with code:=hat'.code.left } o
   have E:p+(aU R (d+1) e_ a p).1.length=p+1+aA (bC (aG R e_ d) [v] (p+1))+1:=by grind [bC]
   rw[E];by_cases e:s1.stop=0
   rotate_left
   .grind [dT.halted,eO]
   rw[ec e]at i;have m:fX a [x] s1=if aA s1.out=50 then { s1 with stop:=8 } else { s1 with out:=s1.out++[jO x] }:=by grind [fX]
   rw[m]at i;by_cases X:aA s1.out=50
   .rw[ec X]at i;subst i;refine mC G (x:=8) z hat' o aJ e (dz ⟨aJ,d_,d_,?_⟩)
    grind [cF,lO]
   rw[dy X]at i;subst i;refine mC G (x:=0) z hat' o aJ e (ea ⟨e,aJ,aJ,aI.su { f with next:=p+1,l_:=a.l_,e_:=e_ } (p+1+aA (bC (aG R e_ d) [v] (p+1))+1) [],rfl,lF _ _,rfl,hat.g_,?_,?_⟩)
   .rw[M.1 e,hat.f_];simp[dA,kK,aI.su]
   grind [cF,lO,kA]
 rw[T G_]at j ⊢
 have C:(aU R (d+1) e_ a p).1=aO.begin a.l_ e_::(aG R e_ d v (p+1)++[.drop]):=by rw[aU];grind
 refine j _ C λu hat=>?_
 rw[dy qv,dy mr,dy mr,dy mr,dy mr,w]at i
 cases o:fD V [v] (s.q_ a.l_)with
 |none=>grind
 |some y=>
  have ⟨vs,s1⟩:=y;rw[o]at i;simp[fu,gd]at i;obtain⟨rfl,i⟩:=i;obtain⟨x,rfl⟩:=uW o u;have hat':gA e_ (p+1) (bC (aG R e_ d) [v] (p+1)++[.drop]) below { f with next:=p+1,l_:=a.l_,e_:=e_ } (s.q_ a.l_):=by rw[uC];exact hat
  have z:∀k∈[v],si R WD e_ d k:=(by grind)
  have ⟨M,N⟩:=kY G [v] (p+1) _ _ _ _ z { hat' with code:=hat'.code.left } o
  have E:p+(aU R (d+1) e_ a p).1.length=p+1+aA (bC (aG R e_ d) [v] (p+1))+1:=by grind [bC]
  rw[E];by_cases e:s1.stop=0
  rotate_left
  .grind [dT.halted,eO]
  rw[ec e]at i;have m:fX a [x] s1=s1:=by grind [fX]
  rw[m]at i;subst i;refine mC G (x:=0) z hat' o aJ e (ea ⟨e,aJ,aJ,aI.su { f with next:=p+1,l_:=a.l_,e_:=e_ } (p+1+aA (bC (aG R e_ d) [v] (p+1))+1) [],rfl,lF _ _,rfl,hat.g_,?_,?_⟩)
  .rw[M.1 e,hat.f_];simp[dA,kK,aI.su]
  grind [aS,lO,cF]
def wu(h:cO R X P S):(aU R X P S p).2=cS P S:=(pJ R X P S (λ_ _=>False) p h ⟨s_,s_⟩).2.1
def JC(h:cO R X P S)(e:P.Nodup):(cS P S).Nodup:=by
 unfold cS;split;cases X with|zero=>exact h.elim|succ X=>grind[cO]
 exact Z
def qQ(b:cY)(a:aC):∃n,cS b a=n++b:=by unfold cS;split;simp;simp
def OA{S:aC->aM->dZ (aE×Bool)}(F:LK R Q S):∀(l:List aC) (c:cY) (p:Nat) (f:aI) (s:aM) (r:aE×Bool) (n:aM),sq (cO R X) (c++P) l->qE (c++P) p (bM (aU R X) (c++P) l p) T f s->nT S (aA P) l s=Wy (r,n)->dT Q T f (p+aA (bM (aU R X) (c++P) l p)) P r s n
 |[],c,p,f,s,r,n,_,h,k=>by obtain⟨rfl,rfl⟩:=k;have L:=h.g_;rw[et]at L;refine ea ⟨h.stop,aJ,f,aJ,by simp[bM,h.next],rfl,Z,?_,ea ⟨h.stop,[],by simp[aM.tj],nJ.refl _ _⟩⟩;unfold aM.tj;rw[h.f_];grind[kK,List.zip_eq_zipWith,vr]|a::l,c,p,f,s,r,n,w,h,k=>by
  rw[nT]at k;have z:=wu (p:=p) w.1;cases C:S a s with|none=>grind|some y=>
   obtain⟨⟨v,e⟩,E⟩:=y;rw[C]at k;simp at k;have x:=h.code;rw[bM,z]at x;have I:=F X a (c++P) p T f s (v,e) E w.1 {h with code:=x.left} C;have q:p+aA (bM (aU R X) (c++P) (a::l) p)=p+(aU R X (c++P) a p).1.length+aA (bM (aU R X) (cS (c++P) a) l (p+(aU R X (c++P) a p).1.length)):=by grind[bM]
   rw[q];rcases I with ⟨u,B,J,H,K,N,G,A,D⟩|⟨u,B,A,D⟩|⟨u,D⟩;obtain⟨rfl,rfl⟩:=gi B;rw[dy qv]at k;have ⟨n',hn'⟩:=qQ (c++P) a;have j:cS (c++P) a=(n'++c)++P:=G_;have o:=w.2;have t:=JC w.1 h.nodup;rw[j]at o G A t x⊢;have M:=OA F l (n'++c) (p+(aU R X (c++P) a p).1.length) J E r n o ⟨by rw[H];exact x.right,K,t,G,u,A,h.deep⟩ k;grind[dT.after];grind[dT];grind[dT]
def Lc{S:aC->aM->dZ (aE×Bool)}(l:LK R Q S):qP R Q λn s=>nT S (aA s.g_) n.y_ s:=by
 intro d b c p e f s r j m h g;simp at g;have k:aA s.g_=aA c:=by unfold aM.g_;rw[h.f_];grind[kK,qE.g_]
 rw[k]at g;exact OA l b.y_ [] p f s r j m h g
def YQ(b:∀f∈R,gY R X f):∀g,mA R (dX R X) (qT R g).1/\qP R (dX R X) (qT R g).2|0=>(by grind[qT,mA,qP])|g+1=>by obtain⟨d,c⟩:=YQ b g;exact⟨Rq b d c,Lc (T8 d c)⟩
def I8(j:∀f∈R,gY R X f)(J:gD R (dW R [109,97,105,110])=Wy 0){g:Nat}{l:List fK}(h:sM R g V=Wy l):nS (dX R X) (jW R X V) 0 l:=by
 have ⟨F,hF,hFm,hFk⟩:=uV J;have ⟨⟨ps,b,hk,hb,hnd⟩,hl⟩:=j F hFm;have s:ps=[]:=by rw[hk]at hFk;simp at hFk;exact hFk
 subst s;rw[ig]at hk;unfold sM jV at h;rw[dy d_,dy d_]at h;simp only[fi]at h;rw[dy d_,hF]at h;simp[hk,km,jc,List.zip_nil_right,ig]at h;cases x:(qT R g).2 b ⟨[⟨[109,97,105,110],0,[]⟩],V,[],[],0⟩with|none=>grind|some y=>
  have ⟨⟨v,e⟩,s1⟩:=y;rw[x]at h;simp[fu]at h;have u:(fQ R X F).code=bM (aU R X) [] b.y_ 0++[.push (bB 0),.tw]:=by simp[fQ,hk]
  have d:(fQ R X F).name=[109,97,105,110]:=BR hF;have r:jW R X V=⟨[]++[⟨fQ R X F,0,0,[],[],[]⟩],V,[]⟩:=by grind[jW,NY]
  have A:=(YQ j g).2 X b [] 0 [] ⟨fQ R X F,0,0,[],[],[]⟩ ⟨[⟨[109,97,105,110],0,[]⟩],V,[],[],0⟩ (v,e) s1 hb ⟨by grind[eR],rfl,s_,s_,rfl,by simp[dA,kK,d],s_⟩ x;rw[r];have i:∀t o n,s1.stop=0->s1.f_.dropLast=dA []->t=s1.tape->o=s1.out->n=aA s1.sk->nJ (dX R X) ⟨[]++[⟨fQ R X F,0,0,[],[],[]⟩],V,[]⟩ 0 s1.sk ⟨[],t,o⟩ n->nS (dX R X) ⟨[]++[⟨fQ R X F,0,0,[],[],[]⟩],V,[]⟩ 0 l:=λt o n q z K M N H=>by refine⟨_,_,_,_,H,.done,?_⟩;grind[aM.notes,sy,dA,aM.g_]
  rcases A with ⟨q,B,f',z,P,L,Q,C,m⟩|⟨q,B,C,m⟩|⟨q,m⟩
  .have E:f'.fn.code[f'.next]?=Wy (.push (bB 0)):=by grind
   have G:f'.fn.code[f'.next+1]?=Wy .tw:=by grind
   rcases m with ⟨_,w,m1,p⟩|⟨k,_⟩
   .simp only[ig,fi]at m1 p;subst m1;refine i s1.tape s1.out (aA s1.sk) q G_ rfl rfl rfl ?_;have I:nJ (dX R X) ⟨[]++[f'],s1.tape,s1.out⟩ (aA s1.sk) [] ⟨[],s1.tape,s1.out⟩ (aA s1.sk):=by refine .step (jB E) aJ (m1:=⟨[]++[aI.push {f' with next:=f'.next+1} (bB 0)],s1.tape,s1.out⟩) rfl ?_;exact .step (jB (f:=aI.push {f' with next:=f'.next+1} (bB 0)) G) rfl rfl (.refl _ _)
    have:=p.trans I;grind
   exact Z
  rcases m with ⟨_,w,m1,p⟩|⟨k,_⟩;grind[sP];exact Z;rcases m ⟨[],[],[]⟩with ⟨k,_⟩|⟨_,w,m1,p⟩;exact Z;grind[aM.final]
def tE:∀(k:Nat) (m:dC) (n:Nat) (p:List fK) (r:dC×Nat),fE Q k m=Wy r->nS Q m n p->∃a,p=sy r.1 (cD n r.2)::a/\(cD n r.2=0->nS Q r.1 (n+1) a)/\(cD n r.2≠0->a=[])
 |0,_,_,_,_,h,_=>by simp[fE]at h|k+1,m,n,p,r,h,w=>by
  obtain⟨C,B,v,x,y,A,rfl⟩:=w;cases y with
  |refl=>
   cases A with
   |@stop b f g t o i l _ u e c z=>
    rw[fE]at h;simp only[nA,e,oT,c]at h;rw[ec z]at h;cases h;have:cD n u=u:=by grind[cD]
    rw[this];exact⟨[],aJ,Z,s_⟩|done=>
    cases h;have:cD n 1=1:=by grind[cD]
    rw[this];simp|@fuel b f g t o i l e j c=>rw[fE]at h;simp only[nA,e,oT,c]at h;rw[dy s_,ec j]at h;cases h;have:cD 500 0=9:=rfl;rw[this];simp
  |@step b f g t o i l _ _ _ _ e j c q=>rw[fE]at h;simp only[nA,e,oT,c]at h;rw[dy s_,j]at h;exact tE k l n _ r h (by grind[nS])|@wy b f g t o i l _ _ _ s e j c D q=>
   rw[fE]at h;simp only[nA,e,oT,c]at h;rw[dy s_,ec j]at h;cases h;have:cD n 0=0:=by grind[cD]
   rw[this];exact⟨s++[x],aJ,(by grind[nS]),Z⟩
def Kt:∃k:Nat,16*320000+2<=k:=⟨_,lZ⟩
noncomputable def oB:Nat:=Classical.choose Kt
def L_:16*320000+2<=oB:=(by grind[oB])
noncomputable def iB(tz:List eL)(m0:dC):Nat->Option bW|0=>(fE tz oB m0).map λr=>⟨0,r.1,cD 0 r.2⟩|t+1=>match iB tz m0 t with|none=>Wz|some s=>if s.stop=0 then (fE tz oB s.m).map λr=>⟨t+1,r.1,cD (t+1) r.2⟩else Wz
structure LJ(ar:Nat->Option Nat)(s:bW):Prop where
 told:∀x∈s.m.f_,aA x.e_<=aA x.g_
 deep:aA s.m.f_<=16
 ok:s.stop=0->iR ar s.m/\s.m.f_≠[]
 m_:s.m_<=500
def C0(h:iR E F):∃k,oL F.f_<=aA F.f_*k/\k=320000:=by
 have a:∀f∈F.f_,mM f<=320000:=λf e=>by
  have n:aA f.fn.code<=80000:=by rcases hH F.f_ with c|⟨b,x,c⟩;grind;have j:=h.ok.low;have g:=h.ok.top x G_;grind[eS.code,oK.len]
  grind[mM]
 have:∀l:List aI,(∀f∈l,mM f<=320000)->oL l<=aA l*320000:=by intro l;induction l with|nil=>simp[oL]|cons x l i=>grind[oL]
 grind
def pF(c:mT E Q)(h:iR E F):∃r,fE Q oB F=Wy r/\CW E r:=pG c oB F h (by obtain⟨k,e,d⟩:=C0 h;have f:=im k h.ok.deep;have:=L_;exact Z)
def zS(g:mT E Q)(j:iR E F):∀(t:Nat) (s:bW),iB Q F t=Wy s->LJ E s/\s.m_=t
 |0,s,h=>by obtain⟨r,i,c⟩:=pF g j;simp [iB,i,jd]at h;subst h;exact⟨⟨c.told,c.deep,(by grind[CW.ok,cD]),s_⟩,rfl⟩|t+1,s,h=>by
  rw[iB]at h;cases b:iB Q F t with|none=>grind|some m=>
   rw[b]at h;simp only at h;obtain⟨k,v⟩:=zS g j t m b;split at h;rename_i o;obtain⟨r,i,c⟩:=pF g (k.ok o).1;rw[i]at h;simp at h;subst h;refine⟨⟨c.told,c.deep,(by grind[CW.ok,cD]),?_⟩,rfl⟩;have n:t≠500:=by
    intro e;cases t with|zero=>simp at e|succ u=>
     rw[iB]at b;cases p:iB Q F u with|none=>grind|some l=>
      rw[p]at b;simp only at b;split at b;cases q:fE Q oB l.m with|none=>grind|some w=>grind[cD]
      grind
   grind[LJ.m_];cases h
def wD(e:mT E Q)(i:iR E F){l:List fK}(p:nS Q F 0 l):∀t,(t<aA l->∃s,iB Q F t=Wy s/\l[t]?=Wy (sy s.m s.stop)/\∃d,l=d++l.drop (t+1)/\(s.stop=0->nS Q s.m (t+1) (l.drop (t+1)))/\(s.stop≠0->l.drop (t+1)=[]))/\(aA l<=t->iB Q F t=Wz)
 |0=>by obtain⟨r,f,y⟩:=pF e i;obtain⟨b,n,u,w⟩:=tE oB F 0 l r f p;refine⟨λ_=>⟨⟨0,r.1,cD 0 r.2⟩,by simp[iB,f],G_,[sy r.1 (cD 0 r.2)],G_,G_,G_⟩,λh=>?_⟩;grind|t+1=>by
  obtain⟨x,A⟩:=wD e i p t;by_cases g:t<aA l;obtain⟨s,v,B,d,D,q,C⟩:=x g;have k:=(zS e i t s v);by_cases o:s.stop=0;obtain⟨r,f,y⟩:=pF e (k.1.ok o).1;obtain⟨b,n,u,w⟩:=tE oB s.m (t+1) _ r f (q o);have j:iB Q F (t+1)=Wy ⟨t+1,r.1,cD (t+1) r.2⟩:=by grind[iB]
  have z:l.drop (t+2)=b:=by have:=fe (List.drop 1) n;grind[List.drop_drop]
  refine⟨λ_=>⟨_,j,?_,l.take (t+2),s_,G_,G_⟩,λh=>?_⟩;grind;grind;grind[iB];grind[iB]
def Nd(s:cY):Prop:=s.Nodup/\aA s<=40001
def Nd.nil:Nd []:=(by grind[Nd])
def dB(c:List aO):Prop:=∀l s,aO.begin l s∈c->Nd s
def dB.app{a b:List aO}(h:dB a)(k:dB b):dB (a++b):=(by grind[dB])
def dB.one(h:i.sg=WD):dB [i]:=(by grind[dB,aO.sg])
def dB.nil:dB []:=λl s a=>by cases a
theorem zU{c:aC->Nat->List aO}(b:∀a p,dB (c a p)):∀(l:List aC) (p:Nat),dB (bC c l p)|[],_=>dB.nil|a::l,p=>(b a p).app (zU b l _)
def mE[Decidable c](h:dB I)(k:dB l):dB (if c then I else l):=G_
def sR(e:List aC)(b:cY):∀(d:Nat) (a:aC) (p:Nat),dB (aG e b d a p)|0,_,_=>dB.nil|d+1,a,p=>by have c:=zU (sR e b d) a.y_ p;have o:∀i:aO,i.sg=WD->dB [i]:=λi h=>dB.one h;refine mE (o _ aJ) (mE (o _ aJ) (mE (o _ aJ) (mE (o _ aJ) (mE (c.app (o _ aJ)) (mE (c.app (o _ aJ)) (mE (c.app (o _ aJ)) (mE (c.app (o _ aJ)) (mE (c.app (o _ ?_)) (mE ?_ (c.app (o _ aJ)))))))))));grind[aO.sg];split;exact(((sR e b d _ _).app (o _ aJ)).app (sR e b d _ _)).app (o _ aJ);exact dB.nil
def p8(fs:List aC)(d:Nat):Prop:=∀(e_:cY) (a:aC) (p:Nat),cO fs d e_ a->Nd e_->dB (aU fs d e_ a p).1/\Nd (aU fs d e_ a p).2
def zQ(f:p8 R X):∀(l:List aC) (b:cY) (p:Nat),sq (cO R X) b l->Nd b->dB (bM (aU R X) b l p)|[],_,_,_,_=>dB.nil|a::l,b,p,h,g=>by obtain⟨i,e⟩:=f b a p h.1 g;have h3:=(pJ R X b a (λ_ _=>False) p h.1 ⟨s_,s_⟩).2.1;refine i.app ?_;rw[h3]at e⊢;exact zQ f l _ _ h.2 e
def OE(i:List aC):∀d,p8 i d|0=>λ_ _ _ h _=>h.elim|d+1=>by intro e a p h k;have m:=sR i e d;have r:∀(b:aC) q,sq (cO i d) e b.y_->dB (bM (aU i d) e b.y_ q):=λb q j=>zQ (OE i d) b.y_ e q j k;rcases h with ⟨f,o,t,v,g,_,n⟩|⟨f,_⟩|⟨f,c,t,g,_,l⟩|⟨f,c,b,g,_,j⟩|⟨f,g⟩|⟨f,v,g,_⟩|⟨f,c,g,_⟩;grind[aU,dB,Nd];grind[aU,zU,dB];grind[aU,dB];grind[aU,dB];grind[aU,dB];grind[aU,dB];grind[aU,dB]
theorem Tw(h:gY R X S)(e:aA S.y_<=40000):dB (fQ R X S).code:=by
 have ⟨⟨ps,b,hk,hb,hn⟩,_⟩:=h;have a:(fQ R X S).code=bM (aU R X) (ps.map (·.x_)).reverse b.y_ 0++[.push (bB 0),.tw]:=by simp[fQ,hk]
 rw[a];exact(zQ (OE R X) b.y_ _ 0 hb (by grind[Nd])).app ((by grind[dB]))
def lI(m:dC):Prop:=∀f∈m.f_,Nd f.e_/\dB f.fn.code
theorem MZ(i:aO)(f:aI)(a:Nd f.e_)(b:∀l s,i=.begin l s->Nd s):Nd (aS i f).1.e_:=by cases i with|begin l s=>exact b l s aJ|_=>simp [aS]<;>(repeat' split)<;>exact a
def Jt(r:∀f∈Q,dB f.code)(h:lI ⟨T++[f],V,P⟩)(w:i∈f.fn.code)(k:Nat):lI (cF Q i T {f with next:=k} V P).1:=by
 have u:∀x∈T,Nd x.e_/\dB x.fn.code:=(by grind[lI]);have j:=h f s_;have d:∀(y:aI) g q,Nd y.e_->y.fn=f.fn->lI ⟨T++[y],g,q⟩:=(by grind[lI]);by_cases z:i=.tw;rcases hH T with rfl|⟨s,x,rfl⟩;grind[cF,lI];intro y m;simp[cF]at m;grind[aI.push];by_cases p:i=.read;subst p;cases V with|nil=>exact d _ _ _ j.1 aJ|cons a g=>exact d _ _ _ j.1 aJ
 by_cases v:i=.print;grind[cF,aI.pop];by_cases l:∃c n,i=.call c n;grind[cF,lI,Nd,dB,aI.n_];grind[oG,MZ,tD,dB]
theorem DF(e:∀f∈Q,dB f.code):∀(k:Nat) (m:dC) (r:dC×Nat),lI m->fE Q k m=Wy r->lI r.1
 |0,_,_,_,h=>by simp[fE]at h|k+1,⟨l,t,o⟩,r,q,h=>by
  by_cases c:l=[];grind[fE];obtain⟨b,f,rfl⟩:=oS c;rw[fE]at h;simp only[nA,oT]at h;cases n:f.tr with|none=>grind|some j=>
   obtain⟨i,g⟩:=j;rw[n]at h;simp only at h;obtain⟨rfl,p⟩:g={f with next:=f.next+1}/\i∈f.fn.code:=by grind[aI.tr]
   have d:=Jt e q p (f.next+1);split at h;grind;split at h;grind;exact DF e k _ r d h
def G0(d:∀f∈R,gY R X f)(k:∀f∈R,aA f.y_<=40000)(a:List Int):∀(t:Nat) (s:bW),iB (dX R X) (jW R X a) t=Wy s->lI s.m:=by
 have g:∀f∈dX R X,dB f.code:=(by grind[dX,Tw]);intro t;induction t with
 |zero=>intro s h;rw[iB]at h;cases c:fE (dX R X) oB (jW R X a)with|none=>grind|some r=>rw[c]at h;cases h;refine DF g _ _ _ (λf j=>?_) c;grind[jW,Nd,dB]
 |succ t l=>
  intro s h;rw[iB]at h;cases i:iB (dX R X) (jW R X a) t with|none=>grind|some e=>
   rw[i]at h;simp only at h;split at h;cases c:fE (dX R X) oB e.m with|none=>grind|some r=>grind[DF]
   cases h
def L5:Nat->aE->Prop|0,_=>True|d+1,v=>(-9223372036854775808<=v.n/\v.n<=9223372036854775807)/\(v.c_=2->v.l=[])/\∀x∈v.l,L5 d x
structure dY(v:aE):Prop where
 all:∀d,L5 d v
def dY.fit(h:dY g):nG g:=by refine⟨λd=>?_⟩;have:=h.all d;induction d generalizing g with|zero=>trivial|succ d b=>exact⟨this.1.1,this.1.2,λx a=>b ⟨λe=>(h.all (e+1)).2.2 x a⟩ (this.2.2 x a)⟩
theorem dY.uz(h:dY g)(a:b∈g.l):dY b:=⟨λd=>(h.all (d+1)).2.2 b a⟩
theorem dY.mk'(h:-9223372036854775808<=g.n/\g.n<=9223372036854775807)(a:g.c_=2->g.l=[])(b:∀x∈g.l,dY x):dY g:=⟨λd=>by cases d with|zero=>trivial|succ d=>grind[dY.all,L5]⟩
theorem dY.flat{v:aE}(h:-9223372036854775808<=v.n/\v.n<=9223372036854775807)(a:v.l=[]):dY v:=(by grind[dY.mk'])
theorem mD:dY aZ:=.flat d_ rfl
theorem xS(b:Bool):dY (cG b):=(by grind[dY.flat,cG])
theorem DN(s:bQ):dY (bS s):=.flat (by simp[bS]) rfl
theorem DO(h:∀x∈N,dY x):dY (bG N):=.mk' (by simp[bG]) (by simp[bG]) h
theorem OT(n:Int):dY (bB (oM n)):=(by grind[dY.flat,oM,bB])
def Mo:dY (dH x g).1:=by grind[dH,OT,xS,mD]
def Td(h:dY g)(d:dY b):dY (dJ x g b).1:=by
 unfold dJ jD fZ;repeat'(first|split|dsimp only;split)
 all_goals first|exact xS _|exact mD|exact OT _|exact DN _|grind[DO,dY.uz]
def WU(h:dY g):dY (cB g b).1:=by grind[cB,mD,kL,DN,dY.uz]
theorem RS(h:(dO g).1.n<=9223372036854775807):dY (dO g).1:=by grind[dO,dY.flat,bB,aZ]
def yQ:∀(l:List aE){a v:aE},dY a->dY v->dY (cJ l a v).1
 |[],_,_,_,h=>h|i::l,a,v,c,d=>by
  unfold cJ;repeat' split
  exact mD;exact mD;exact mD;refine DO λx b=>?_;rcases List.mem_or_eq_of_mem_set b with b|rfl;exact c.uz b;refine yQ l ?_ d;grind[dY.uz]
structure CX(s:aM):Prop where
 fr:aA s.f_<=16
 mo:aA s.sk<=501
 va:aA s.g_<=50000
structure sr(k:Nat)(e_:cY)(s:aM):Prop where
 stop:s.stop=0
 names:∃fr f,s.f_=fr++[f]/\f.g_.map (·.1)=e_.reverse
 deep:aA s.f_+k=16
 sk:aA s.sk<=500
 sl:aA e_<=50000
theorem sr.bd{k:Nat}{e_:cY}{s:aM}(h:sr k e_ s):CX s:=by have ⟨fr,f,hf,hv⟩:=h.names;refine⟨by have:=h.deep;exact Z,by have:=h.sk;exact Z,?_⟩;have:=fe List.length hv;grind[sr.sl,aM.g_]
structure eD(s s':aM):Prop where
 le:aA s.sk<=aA s'.sk
 bd:CX s'
 go:s'.stop=0->s'.f_=s.f_/\aA s'.sk<=500
theorem eD.refl{s:aM}(h:aA s.sk<=500)(a:CX s):eD s s:=⟨Z,a,G_⟩
theorem eD.or{s a:aM}(h:eD s a)(n:Nat):eD s (a.or n):=by unfold aM.or;split;exact⟨h.le,⟨h.bd.fr,h.bd.mo,h.bd.va⟩,G_⟩;exact h
theorem eD.trans{s b c:aM}(h:eD s b)(d:b.stop=0)(a:eD b c):eD s c:=⟨em h.le a.le,a.bd,λe=>⟨(a.go e).1.trans (h.go d).1,(a.go e).2⟩⟩
theorem sr.next{s b:aM}(h:sr X P s)(f:eD s b)(e:b.stop=0):sr X P b:=⟨e,by grind[eD.go,sr.names],by rw[(f.go e).1];exact h.deep,(f.go e).2,h.sl⟩
def oZ(fs:List aC)(D g:Nat)(V:aC->aM->dZ aE):Prop:=∀(k d:Nat) (e_:cY) (n:aC) (s:aM),si fs WD e_ d n->sr k e_ s->k*(D+2)+d<=g->∃v s',V n s=Wy (v,s')/\eD s s'
structure fG(e_:cY)(s s':aM)(e:Bool):Prop where
 le:aA s.sk<=aA s'.sk
 bd:CX s'
 go:s'.stop=0->aA s'.sk<=500/\∃fr f f',s.f_=fr++[f]/\s'.f_=fr++[f']/\f'.name=f.name/\(e=WD->f'.g_.map (·.1)=e_.reverse)
def GB(fs:List aC)(D g:Nat)(B:aC->aM->dZ (aE×Bool)):Prop:=∀(k d:Nat) (e_:cY) (b:aC) (s:aM),sq (cO fs d) e_ b.y_->sr k e_ s->k*(D+2)+d+1<=g->∃v e s',B b s=Wy ((v,e),s')/\fG e_ s s' e
theorem vR:∀(l m:List e) (k:List j),aA l=aA k->(l++m).zip k=l.zip k|[],m,[],_=>by simp|a::l,m,b::k,h=>by simp[vR l m k G_]
section
variable {fs:List aC} {D g:Nat} {V:aC->aM->dZ aE} {B:aC->aM->dZ (aE × Bool)}
def lQ(m:oZ fs D g V){k d:Nat}{e_:cY}(f:k*(D+2)+d<=g):∀(l:List aC) (s:aM),(∀a∈l,si fs WD e_ d a)->sr k e_ s->∃c b,fD V l s=Wy (c,b)/\eD s b/\(b.stop=0->aA c=aA l)|[],s,_,h=>⟨[],s,rfl,.refl h.sk h.bd,Z⟩|a::l,s,q,h=>by obtain⟨v,e,n,i⟩:=m k d e_ a s (G_) h f;unfold fD;rw[dy (by simp[h.stop]),n];by_cases j:e.stop=0;obtain⟨c,o,p,r,t⟩:=lQ m f l e (G_) (h.next i j);grind[eD.trans];refine⟨[v],e,?_,i,Z⟩;cases l<;>simp[fD,j]
theorem tF(u:GB fs D g B)(h:∀f∈fs,gY fs D f){k:Nat}{s:aM}(A:s.stop=0)(G:aA s.f_+k=16)(E:aA s.sk<=500)(c:CX s)(m:∀f∈fs,aA f.y_<=40000)(H:k*(D+2)<=g)(x:bQ)(l:List aE)(C:x=[108,101,110]\/x=[114,101,97,100]\/gD fs (dW fs x)=Wy (aA l)):∃v d,jV fs B x l s=Wy (v,d)/\eD s d:=by
 unfold jV;split;grind[eD.or,eD.refl];split;cases s.tape with|nil=>grind[eD.or,eD.refl]|cons t r=>exact⟨_,_,aJ,s_,⟨c.fr,c.mo,c.va⟩,G_⟩
 split;grind[eD.or,eD.refl];rename_i y i K;have ⟨f,hf,hmm,hn⟩:=uV (C.resolve_left (by simpa using y) |>.resolve_left (by simpa using i));obtain⟨p,b,q,o,-⟩:=(h f hmm).y_;obtain⟨k,rfl⟩:∃j,k=j+1:=⟨k-1,Z⟩;rw[hf];have ⟨v,e,d,he,hF⟩:=u k D (p.map (·.x_)).reverse b {s with f_:=s.f_++[⟨x,0,(f.y_.map (·.x_)).zip l⟩]} o ⟨A,(by grind[vR,List.map_fst_zip]),G_,E,G_⟩ G_;simp [q,Option.some_or]at he⊢;rw[he];refine⟨v,_,aJ,?_,?_,?_⟩;split<;>exact hF.le;split;rename_i n;obtain⟨z,J,a,I,w,F,-⟩:=hF.go n;obtain⟨rfl,-⟩:=fw w rfl;exact⟨G_,hF.bd.mo,by simpa [aM.g_,F]using c.va⟩;exact hF.bd;grind[fG.go,List.append_inj']
def NF(i:GB fs D g B)(e:∀f∈fs,gY fs D f){k:Nat}{s:aM}(j:s.stop=0)(h:aA s.f_+k=16)(c:aA s.sk<=500)(a:CX s)(d:∀f∈fs,aA f.y_<=40000)(m:k*(D+2)<=g)(n:aC)(l:List aE) (o:n.op=[99,97,108,108]->n.x_=[108,101,110]\/n.x_=[114,101,97,100]\/gD fs (dW fs n.x_)=Wy (aA l)):∃v b,jR fs B n l s=Wy (v,b)/\eD s b:=by unfold jR;split;grind[eD.or,eD.refl];split;grind[tF];split;grind[eD.or,eD.refl];split<;>exact⟨_,_,aJ,(eD.refl c a).or _⟩
def KC(f:oZ fs D g V){k d:Nat}{c:cY}(i:k*(D+2)+d<=g)(or:Bool){a b:aC}{s:aM}(h:sr k c s)(j:si fs WD c d a)(m:si fs WD c d b):∃v e,oE V or a b s=Wy (v,e)/\eD s e:=by have ⟨v,s1,e1,f1⟩:=f k d c a s j h i;unfold oE;simp [e1];split;grind[eD.or];have l:s1.stop=0:=Z;split;grind;have ⟨u,s2,e2,f2⟩:=f k d c b s1 m (h.next f1 l) i;grind[eD.or,eD.trans]
def IL(A:oZ fs D g V)(E:GB fs D g B)(u:∀f∈fs,gY fs D f)(t:∀f∈fs,aA f.y_<=40000):oZ fs D (g+1) λn s=>gR fs V B n s:=by
 intro k d m n s z h M;cases d with|zero=>exact z.elim|succ d=>
  have p:=eD.refl h.sk h.bd;have j:k*(D+2)+d<=g:=Z;have c:(n.op≠[48]/\n.op≠[115]/\n.op≠[98,111,111,108]/\n.op≠[110,97,109,101]/\n.op≠[124,124]/\n.op≠[38,38])->(∀a∈n.y_,si fs WD m d a)->(n.op=[99,97,108,108]->n.x_=[108,101,110]\/n.x_=[114,101,97,100]\/gD fs (dW fs n.x_)=Wy (aA n.y_))->∃v q,gR fs V B n s=Wy (v,q)/\eD s q:=by rintro⟨G,C,J,F,H,K⟩ i L;have ⟨vs,s1,e1,f1,f2⟩:=lQ A j n.y_ s i h;unfold gR;simp [G,C,J,F,H,K,e1];by_cases x:s1.stop=0;have o:=h.next f1 x;have ⟨v,s2,e2,f3⟩:=NF E u o.stop o.deep o.sk o.bd t Z n vs G_;grind[eD.trans];exact⟨_,_,by simp[x];rfl,f1⟩
  rcases z with ⟨b|b|b,-⟩|⟨b,-,-⟩|⟨b,i⟩|⟨b,l,r,i,w,y⟩|⟨b,l,i,w⟩|⟨b,i,L⟩|⟨b,l,r,i,w,y⟩;exact⟨_,_,rn,p⟩;exact⟨_,_,rn,p⟩;exact⟨_,_,rn,p⟩;exact⟨_,_,rn,p⟩;exact c ro i ro;exact c ro G_ ro;exact c G_ G_ G_;exact c ro i G_;by_cases I:n.op=[124,124]\/n.op=[38,38];have ⟨v,q,e,f⟩:=KC A j (n.op==[124,124]) h w y;grind[gR];refine c ?_ G_ ?_;grind[cU];grind[cU]
def oV(s:aM)(n:Nat):(s.q_ n).sk.length=aA s.sk+1:=by grind[aM.q_,aM.notes,aM.tj]
def uU{k:Nat}{a:cY}{s:aM}(h:sr k a s)(n:Nat):CX (s.q_ n):=by
 have ⟨fr,f,hf,hv⟩:=h.names;have c:=oV s n;have e:=h.sk;have d:=h.bd.va;have b:(s.q_ n).f_=fr++[{f with l_:=n}]:=by grind[aM.q_,aM.notes,aM.tj]
 refine⟨by grind[sr.deep],Z,?_⟩;grind[aM.g_]
def rD{k:Nat}{a:cY}{s:aM}(h:sr k a s){n:Nat}(c:(s.q_ n).stop=0):sr k a (s.q_ n)/\fG a s (s.q_ n) WD:=by
 have ⟨fr,f,hf,hv⟩:=h.names;have e:=oV s n;have g:aA s.sk≠500:=by grind[aM.q_,aM.notes]
 have b:(s.q_ n).f_=fr++[{f with l_:=n}]:=by grind[aM.q_,aM.notes,aM.tj]
 have:=h.sk;have d:=h.deep;exact⟨⟨c,G_,G_,Z,h.sl⟩,Z,uU h n,G_⟩
theorem fG.trans{b a:cY}{s c g:aM}{e i:Bool}(h:fG b s c e)(j:c.stop=0)(d:fG a c g i):fG a s g i:=by refine⟨em h.le d.le,d.bd,λl=>?_⟩;obtain⟨-,p,f,k,m,o,n,-⟩:=h.go j;grind[fG.go,List.append_inj']
theorem eD.Bi{k:Nat}{a:cY}{s b:aM}{e:Bool}(h:eD s b)(g:sr k a s):fG a s b e:=⟨h.le,h.bd,λc=>by obtain⟨i,f,q,d⟩:=g.names;exact⟨(h.go c).2,i,f,f,q,by rw[(h.go c).1];exact q,aJ,λ_=>d⟩⟩
def fG.end{b a:cY}{s c:aM}{e:Bool}(h:fG b s c e):fG a s c W1:=⟨h.le,h.bd,(by grind[fG.go])⟩
def sr.zv{k:Nat}{d c:cY}{s g:aM}(h:sr k d s)(f:fG c s g WD)(e:g.stop=0):sr k c g:=by have m:=f.bd.va;obtain⟨j,p,a,b,o,n,-,i⟩:=f.go e;have l:=h.deep;exact⟨e,G_,G_,j,by have:=fe List.length (i aJ);grind[aM.g_]⟩
def kB(e:oZ fs D g V){k d:Nat}{a:cY}(f:k*(D+2)+d<=g){n:aC}{s:aM}(h:sr k a s)(i:si fs WD a d n):∃b c,kF V n s=Wy (b,c)/\eD s c:=by have ⟨v,s1,e1,f1⟩:=e k d a n s i h f;unfold kF;simp only[e1];split;grind[eD.or];grind
def tC(y:oZ fs D g V)(w:GB fs D g B){k d:Nat}{a:cY}(u:k*(D+2)+d+1<=g){n c b:aC}(z:si fs WD a d c)(q:sq (cO fs d) a b.y_):∀(r:Nat) (t:Bool) (s:aM),1<=r->(s.stop=0->sr k a s/\502<=r+aA s.sk)->∃v e p,iL V B n c b r t s=Wy ((v,e),p)/\aA s.sk<=aA p.sk/\(s.stop=0->fG a s p e)
 |0,_,_,h,_=>by omega|r+1,t,s,_,h=>by
  unfold iL;split;grind[eD.Bi,eD.refl,sr.sk,sr.bd];have G:s.stop=0:=Z;obtain⟨h,J⟩:=h G;obtain⟨v,e,i,I,f⟩:=w k d a b s q h u;simp only[I];split;exact⟨_,_,_,aJ,f.le,λ_=>f⟩;obtain⟨rfl,E⟩:e=WD/\i.stop=0:=G_;have A:=h.zv f E;have K:=oV i n.l_;have:=f.le;have:=h.sk;split;obtain⟨v,e,j,l,m,-⟩:=tC y w u z q r t (i.q_ n.l_) Z (Z);obtain rfl:j=i.q_ n.l_:=by cases r with|zero=>exact Z|succ r=>unfold iL at l;grind
  exact⟨v,e,_,l,Z,λ_=>⟨Z,uU A _,Z⟩⟩;have C:(i.q_ n.l_).stop=0:=Z;have ⟨k2,f2⟩:=rD A C;have ⟨t1,j,l,m⟩:=kB y Z k2 z;simp only[l];have:=m.le;obtain⟨v,e,F,o,L,H⟩:=tC y w u z q r t1 j Z ((by grind[sr.next]));refine⟨v,e,F,o,Z,λ_=>?_⟩;by_cases x:j.stop=0;exact(f.trans E (f2.trans C (m.Bi k2 (e:=WD)))).trans x (H x);cases r with|zero=>exact Z|succ r=>unfold iL at o;rw[ec (dz x)]at o;cases o;exact⟨Z,m.bd,Z⟩
theorem wT{k:Nat}{b a:cY}{s:aM}(h:sr k b s)(F:iU->iU)(d:∀f,(F f).name=f.name/\(f.g_.map (·.1)=b.reverse->(F f).g_.map (·.1)=a.reverse))(g:aA a<=50000):fG a s (s.tj F) WD:=by have ⟨fr,f,hf,hv⟩:=h.names;have e:=fe List.length ((d f).2 hv);have c:=h.bd;exact⟨fh _,⟨by grind[CX.fr,aM.tj],c.mo,by grind[aM.tj,aM.g_]⟩,(by grind[sr.sk,aM.tj])⟩
theorem EP{a:cY}{s:aM}{n:Nat}(b:CX s)(c:n≠0){e:Bool}:fG a s {s with stop:=n} e:=⟨s_,⟨b.fr,b.mo,b.va⟩,G_⟩
theorem RA{l:List (bQ×aE)}{i:Nat}{v:aE}:(l.set i (((l[i]?.map (·.1)).getD []),v)).map (·.1)=l.map (·.1):=by grind[List.map_set,List.set_getElem_self,List.set_eq_of_length_le]
def MH{k:Nat}{b:cY}{s:aM}(h:sr k b s)(n:aC)(l:List aE)(g:n.op=[118,97,114]->n.y_≠[])(c:aA (cS b n)<=50000):fG (cS b n) s (fX n l s) WD:=by
 have d:∀{e},fG b s s e:=(eD.refl h.sk h.bd).Bi h;unfold fX cS at*;simp;split;cases f:n.y_ with|nil=>grind|cons a r=>grind[wT]
 split;split;exact EP h.bd d_;exact⟨s_,⟨h.bd.fr,h.bd.mo,h.bd.va⟩,d.go⟩;grind[wT,RA,EP,sr.bd]
def EU{b:cY}{a:aC}(h:a.op≠[118,97,114]):cS b a=b:=by unfold cS;grind
def EV{d:Nat}{b:cY}{a:aC}(h:cO fs d b a)(c:aA b<=50000):aA (cS b a)<=50000:=by cases d with|zero=>exact h.elim|succ d=>grind[cS,cO]
def yW(C:oZ fs D g V)(K:GB fs D g B){k d:Nat}{f:cY}(T:k*(D+2)+d<=g){n:aC}{s:aM}(F:cO fs d f n)(h:sr k f s):∃v e u,mR V B n s=Wy ((v,e),u)/\fG (cS f n) s u e:=by
 cases d with|zero=>exact F.elim|succ d=>
  have X:=oV s n.l_;unfold mR;simp only[beq_iff_eq];split;rename_i z;exact⟨_,_,_,aJ,Z,uU h _,Z⟩;rename_i z;have z:(s.q_ n.l_).stop=0:=Z;have ⟨k0,f0⟩:=rD h z;have H:=EV F h.sl;have q:∀l,(∀a∈l,si fs WD f d a)->(n.op=[118,97,114]->n.y_≠[])->∃w m,fD V l (s.q_ n.l_)=Wy (w,m)/\fG (cS f n) s (if m.stop=0 then fX n w m else m) WD:=by intro l N I;obtain⟨w,m,o,j,-⟩:=lQ C Z l _ N k0;refine⟨w,m,o,?_⟩;by_cases r:m.stop=0;rw[ec r];exact(f0.trans z (j.Bi k0 (e:=WD))).trans r (MH (k0.next j r) n w I H);rw[dy r];exact⟨by have:=j.le;exact Z,j.bd,Z⟩
  unfold cO at F;rcases F with ⟨i,-,t,v,p,I,-⟩|⟨i,-,-,p⟩|⟨i,c,t,p,E,S⟩|⟨i,c,b,p,E,J⟩|⟨i,p⟩|⟨i,v,p,I⟩|⟨i,c,p,E⟩;obtain⟨w,m,o,j⟩:=q [v] G_ (by simp[p]);exact⟨_,_,_,by simp[i,p,o];rfl,j⟩;obtain⟨w,m,o,j⟩:=q n.y_ p rp;exact⟨_,_,_,by simp[i,o];rfl,j⟩
  .rw[ec i,EU rp];have ⟨b,m,o,j⟩:=kB C Z k0 E;have J:∀y,sq (cO fs d) f y.y_->m.stop=0->∃v e u,B y m=Wy ((v,e),u)/\fG f s u e:=λy P r=>by have ⟨v,e,u,A,L⟩:=K k d f y m P (k0.next j r) Z;exact⟨v,e,u,A,(f0.trans z (j.Bi k0 (e:=WD))).trans r L⟩
   have G:∃v e u,Wy ((aZ,WD),m)=Wy ((v,e),u)/\fG f s u e:=(by grind[fG.trans,eD.Bi]);rcases p with p|⟨x,p,W⟩;all_goals rw[p];simp only[o];split;exact G;grind
  rw[dy rp,ec i,EU rp,p];have ⟨t,m,o,j⟩:=kB C Z k0 E;simp only[o];have:=j.le;obtain⟨v,e,M,A,L,Q⟩:=tC C K (k:=k) (d:=d) Z E J (n:=n) 1000 t m d_ ((by grind[sr.next]));refine⟨v,e,M,A,?_⟩;by_cases r:m.stop=0;exact(f0.trans z (j.Bi k0 (e:=WD))).trans r (Q r);unfold iL at A;rw[ec (dz r)]at A;cases A;exact⟨Z,j.bd,Z⟩;rw[dy rp,dy rp,ec i];obtain⟨w,m,o,j,-⟩:=lQ C (k:=k) (d:=d) (e_:=f) Z n.y_ _ G_ k0;simp[o];grind[fG.trans,eD.Bi,cS];obtain⟨w,m,o,j⟩:=q n.y_ G_ rp;exact⟨_,_,_,by simp[i,o];rfl,j⟩;obtain⟨w,m,o,j⟩:=q n.y_ G_ rp;exact⟨_,_,_,by simp[i,o];rfl,j⟩
def AX(r:oZ fs D g V)(o:GB fs D g B){k d:Nat}{b:cY}(n:k*(D+2)+d<=g):∀(l:List aC) (c:cY) (s:aM),sq (cO fs d) (c++b) l->sr k (c++b) s->∃v e j,nT (mR V B) (aA b) l s=Wy ((v,e),j)/\fG b s j e|[],c,s,_,h=>⟨_,_,_,rfl,wT h _ ((by grind[List.map_take])) (by have:=h.sl;grind)⟩|a::l,c,s,p,h=>by obtain⟨v,e,q,u,i⟩:=yW r o n p.1 h;unfold nT;simp only[u];split;refine⟨_,_,_,aJ,i.le,i.bd,λw=>?_⟩;grind[fG.go];obtain⟨rfl,t⟩:e=WD/\q.stop=0:=G_;have ⟨m,hm⟩:=qQ (c++b) a;rw[hm,<-gz]at i;have f:=p.2;rw[hm,<-gz]at f;have ⟨v,e,s2,e2,f2⟩:=AX r o n l (m++c) q f (h.zv i t);grind[fG.trans]
def sT(i:∀f∈fs,gY fs D f)(c:∀f∈fs,aA f.y_<=40000):∀g,oZ fs D g (qT fs g).1/\GB fs D g (qT fs g).2
 |0=>⟨λk d a n s p _ o=>by obtain rfl:d=0:=Z;exact p.elim,(by grind[GB])⟩|g+1=>by
  obtain⟨l,j⟩:=sT i c g;refine⟨IL l j i c,λk d a b s m h o=>?_⟩;obtain⟨t,f,u,q⟩:=h.names;have:aA s.g_=aA a:=by have:=fe List.length q;grind[aM.g_]
  show ∃v e r,nT _ (aA s.g_) b.y_ s=_/\_;rw[this];exact AX l j Z b.y_ [] s m h
def MI(c:∀f∈fs,gY fs D f)(b:∀f∈fs,aA f.y_<=40000)(d:gD fs (dW fs [109,97,105,110])=Wy 0)(a:List Int):∃l,sM fs (16*(D+2)) a=Wy l:=by obtain⟨v,g,e,-⟩:=tF (sT c b (16*(D+2))).2 c (k:=16) (s:=⟨[],a,[],[],0⟩) rfl rfl s_ ⟨s_,s_,by simp[aM.g_]⟩ b (Z) [109,97,105,110] [] (by simp[d]);exact⟨_,by unfold sM;rw[e]⟩
end
def aO.Cq:aO->Bool|.push _=>W1|.load _=>W1|.sw _ _=>W1|.ue=>W1|.unary _=>W1|.binary _=>W1|.index=>W1|.list _=>W1|.length=>W1|_=>WD
structure Iz(i:aO)(f:aI):Prop where
 ex:i.Cq=W1
 ops:aA f.ops<=99000
 Bf:cC f
 mem:i∈f.fn.code
 at_:∃(ar:Nat->Option Nat) (D:bL) (T:Nat->gQ) (p:Nat),iZ ar D T p i/\(T p).h=aA f.ops/\(T p).v<=aA f.g_
