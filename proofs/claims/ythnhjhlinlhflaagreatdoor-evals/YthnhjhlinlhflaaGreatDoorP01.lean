import Derived.Test.YthnhjhlinlhflaaGreatDoorP00
set_option linter.all false
set_option maxHeartbeats 0
set_option maxRecDepth 100000
open List renaming length->aA
open Option renaming some->Wj,none->Wk
open Bool renaming false->Wl,true->Wm
namespace Go.Proofs.YthnhjhlinlhflaaGreatDoor.Hs
variable{T:List Int}{W:List aC}{N:List aD}{Q:List aG}{I l:List aM}{R:List eI}{U X:Nat}{E:Nat->Option Nat}{c:Prop}{g j:Type}{S:aC}{b e:aD}{f:aG}{i:aM}{x:bS}{P:cU}{F:cY}
structure iW where
 name:bS
 l_:Nat
 g_:List (bS × aD)
structure fO where
 stack:List (bS × Nat)
 g_:List (bS × aD)
 out:cU
 stop:Nat
structure aK where
 f_:List iW
 tape:List Int
 out:cU
 sf:List fO
 stop:Nat
abbrev dV(α:Type):=Option (α×aK)
def aK.g_(s:aK):List (bS×aD):=(s.f_.getLast?.map (·.g_)).getD []
def aK.td(s:aK)(f:iW->iW):aK:={s with f_:=s.f_.dropLast++(s.f_.getLast?.map f).toList}
def aK.notes(s:aK):aK:={s with sf:=s.sf++[⟨s.f_.map λf=>(f.name,f.l_),s.g_,s.out,s.stop⟩]}
def aK.ry(s:aK)(l_:Nat):aK:=let s1:=s.td λf=>{f with l_:=l_}
 aK.notes (if aA s1.sf=500 then {s1 with stop:=9} else s1)
def aK.or(s:aK)(stop:Nat):aK:=if stop≠0/\s.stop=0 then {s with stop:=stop} else s
def jZ(l:List (bS×aD))(name:bS):Nat:=match l.findIdx? λb=>b.1==name with|some i=>i|none=>0
def eY(V:aC->aK->dV aD):List aC->aK->dV (List aD)|[],s=>Wj ([],s)|a::l,s=>if s.stop≠0 then Wj ([],s) else match V a s with|none=>Wk|some (v,s1)=>match eY V l s1 with|none=>Wk|some (vs,s2)=>Wj (v::vs,s2)
def mK(V:aC->aK->dV aD)(or:Bool)(l r:aC)(s:aK):dV aD:=match V l s with|none=>Wk|some (a,s1)=>if s1.stop≠0\/a.c_≠1 then Wj (a,s1.or 2) else if decide (a.n=1)=or then Wj (a,s1) else match V r s1 with|none=>Wk|some (b,s2)=>if s2.stop≠0\/b.c_≠1 then Wj (b,s2.or 2)else Wj (b,s2)
def kA(fs:List aC)(B:aC->aK->dV (aD×Bool))(name:bS)(l:List aD)(s:aK):dV aD:=if name==[108,101,110]then let r:=dO (l.head?.getD aY);Wj (r.1,s.or r.2) else if name==[114,101,97,100]then match s.tape with|[]=>Wj (aY,s.or 7)|t::r=>Wj (bB t,{s with tape:=r}) else if aA s.f_=16 then Wj (aY,s.or 5) else match dE fs name with|none=>Wk|some f=>match B (f.y_.getLast?.getD f) {s with f_:=s.f_++[⟨name,0,(f.y_.map (·.x_)).zip l⟩]} with|none=>Wk|some ((v,_),s1)=>Wj (v,if s1.stop=0 then {s1 with f_:=s1.f_.dropLast} else s1)
noncomputable def jC(fs:List aC)(B:aC->aK->dV (aD×Bool))(n:aC)(l:List aD)(s:aK):dV aD:=if n.op==[108,105,115,116]then Wj (bH l,s.or (if 200<aI (bH l)then 6 else 0)) else if n.op==[99,97,108,108]then kA fs B n.x_ l s else if n.op==[105,110,100,101,120]then let r:=bY (l.head?.getD aY) ((l.drop 1).head?.getD aY);Wj (r.1,s.or r.2) else if n.op==[45,120]||n.op==[33,120]then let r:=dF n.op (l.head?.getD aY);Wj (r.1,s.or r.2) else let r:=dH n.op (l.head?.getD aY) ((l.drop 1).head?.getD aY);Wj (r.1,s.or r.2)
noncomputable def gF(fs:List aC)(V:aC->aK->dV aD)(B:aC->aK->dV (aD×Bool))(n:aC)(s:aK):dV aD:=if n.op==[48]then Wj (bB (((dQ 0 n.x_).getD 0:Nat):Int),s) else if n.op==[115]then Wj (bT n.x_,s) else if n.op==[98,111,111,108]then Wj (cF (n.x_==[116,114,117,101]),s) else if n.op==[110,97,109,101]then Wj ((s.g_[jZ s.g_ n.x_]?.map (·.2)).getD aY,s) else if n.op==[124,124]||n.op==[38,38]then match n.y_ with|[l,r]=>mK V (n.op==[124,124]) l r s|_=>Wk else match eY V n.y_ s with|none=>Wk|some (l,s1)=>if s1.stop≠0 then Wj (aY,s1)else jC fs B n l s1
def kN(V:aC->aK->dV aD)(n:aC)(s:aK):dV Bool:=match V n s with|none=>Wk|some (c,s1)=>if s1.stop≠0\/c.c_≠1 then Wj (Wl,s1.or 2)else Wj (decide (c.n=1),s1)
noncomputable def fZ(n:aC)(l:List aD)(s:aK):aK:=let v:=l.getLast?.getD aY
 if n.op==[118,97,114]then s.td λf=>{f with g_:=f.g_++[((n.y_.head?.map (·.x_)).getD [],v)]} else if n.op==[112,114,105,110,116]then if aA s.out=50 then {s with stop:=8} else {s with out:=s.out++[jX v]} else if n.op==[115,101,116]then let i:=jZ s.g_ n.x_
 let r:=cI l.dropLast ((s.g_[i]?.map (·.2)).getD aY) v
 let st:=if r.2=0/\200<aI r.1 then 6 else r.2
 if st=0 then s.td λf=>{f with g_:=f.g_.set i (((f.g_[i]?.map (·.1)).getD []),r.1)} else {s with stop:=st} else s
def iM(V:aC->aK->dV aD)(B:aC->aK->dV (aD×Bool))(n c b:aC):Nat->Bool->aK->dV (aD×Bool)|0,_,_=>Wk|k+1,t,s=>if t=Wl\/s.stop≠0 then Wj ((aY,Wl),s) else match B b s with
 |none=>Wk|some ((v,e),s1)=>if e\/s1.stop≠0 then Wj ((v,e),s1) else let s2:=s1.ry n.l_
 if s2.stop≠0 then iM V B n c b k t s2 else match kN V c s2 with|none=>Wk|some (t1,s3)=>iM V B n c b k t1 s3
noncomputable def mW(V:aC->aK->dV aD)(B:aC->aK->dV (aD × Bool))(n:aC)(s:aK):dV (aD × Bool):=
 let s0:=s.ry n.l_
 if s0.stop≠0 then Wj ((aY,Wl),s0)
 else if n.op==[105,102]then
  match n.y_ with
  |c::t::x=>
   match kN V c s0 with
   |none=>Wk
   |some (b,s1)=>
    if s1.stop≠0 then Wj ((aY,Wl),s1)
    else if b then B t s1
    else match x with
     |[y]=>B y s1
     |_=>Wj ((aY,Wl),s1)
  |_=>Wk
 else if n.op==[119,104,105,108,101]then
  match n.y_ with
  |[c,b]=>
   match kN V c s0 with
   |none=>Wk
   |some (t,s1)=>iM V B n c b 1000 t s1
  |_=>Wk
 else if n.op==[114,101,116,117,114,110]then
  match eY V n.y_ s0 with
  |none=>Wk
  |some (l,s1)=>Wj ((l.head?.getD aY,Wm),s1)
 else
  match eY V (if n.op==[118,97,114]then n.y_.drop 1 else n.y_) s0 with
  |none=>Wk
  |some (l,s1)=>Wj ((aY,Wl),if s1.stop=0 then fZ n l s1 else s1)
def oC(D:aC->aK->dV (aD×Bool))(mark:Nat):List aC->aK->dV (aD×Bool)|[],s=>Wj ((aY,Wl),s.td λf=>{f with g_:=f.g_.take mark})|a::l,s=>match D a s with|none=>Wk|some ((v,e),s1)=>if e\/s1.stop≠0 then Wj ((v,e),s1)else oC D mark l s1
noncomputable def nN(fs:List aC):Nat->(aC->aK->dV aD)×(aC->aK->dV (aD×Bool))
 |0=>(λ_ _=>Wk,λ_ _=>Wk)|g+1=>let V:=(nN fs g).1
 let B:=(nN fs g).2
 (λn s=>gF fs V B n s,λn s=>oC (mW V B) (aA s.g_) n.y_ s)
noncomputable def sY(fs:List aC)(g:Nat)(tape:List Int):Option (List fO):=match kA fs (nN fs g).2 [109,97,105,110] [] ⟨[],tape,[],[],0⟩with|none=>Wk|some (_,s)=>Wj (if s.stop=9 then s.sf else (aK.notes (if s.stop=0 then {s with stop:=1} else s)).sf)
def kS(f:aG)(e_:cU):iW:=⟨f.fn.name,f.l_,e_.reverse.zip f.g_⟩
def dB(l:List aG):List iW:=l.map λf=>kS f f.e_
def uf(m:cY)(stop:Nat):fO:=⟨m.f_.map λf=>(f.fn.name,f.l_),((m.f_.getLast?.map λf=>f.e_.reverse.zip f.g_)).getD [],m.out,stop⟩
inductive mO (tg:List eI):cY->Nat->List fO->cY->Nat->Prop
 |refl (m:cY) (n:Nat):mO tg m n [] m n
 |step {b:List aG} {f g:aG} {t:List Int} {o:cU} {i:aM} {m1 m':cY} {n n':Nat} {ms:List fO} (hf:f.su=Wj (i,g)) (hb:i.sd=Wl) (hd:cD tg i b g t o=(m1,0)) (hr:mO tg m1 n ms m' n'):mO tg ⟨b++[f],t,o⟩ n ms m' n'
 |wu {b:List aG} {f g:aG} {t:List Int} {o:cU} {i:aM} {m1 m':cY} {n n':Nat} {ms:List fO} (hf:f.su=Wj (i,g)) (hb:i.sd=Wm) (hd:cD tg i b g t o=(m1,0)) (hn:n≠500) (hr:mO tg m1 (n+1) ms m' n'):mO tg ⟨b++[f],t,o⟩ n (uf m1 0::ms) m' n'
theorem mO.trans{tg:List eI}{a b c:cY}{n m d:Nat}{l e:List fO}(h:mO tg a n l b m)(k:mO tg b m e c d):mO tg a n (l++e) c d:=by induction h with|refl=>exact k|step g j f _ i=>exact .step g j f (i k)|wu g j f o _ i=>exact .wu g j f o (i k)
inductive yR (tg:List eI):cY->Nat->fO->Prop
 |stop {b:List aG} {f g:aG} {t:List Int} {o:cU} {i:aM} {m1:cY} {n st:Nat} (hf:f.su=Wj (i,g)) (hd:cD tg i b g t o=(m1,st)) (hs:st≠0):yR tg ⟨b++[f],t,o⟩ n (uf m1 st)
 |done {t:List Int} {o:cU} {n:Nat}:yR tg ⟨[],t,o⟩ n (uf ⟨[],t,o⟩ 1)
 |fuel {b:List aG} {f g:aG} {t:List Int} {o:cU} {i:aM} {m1:cY} (hf:f.su=Wj (i,g)) (hb:i.sd=Wm) (hd:cD tg i b g t o=(m1,0)):yR tg ⟨b++[f],t,o⟩ 500 (uf m1 9)
def oA(tg:List eI)(m:cY)(n:Nat)(ms:List fO):Prop:=∃m' n' ms' x,mO tg m n ms' m' n'/\yR tg m' n' x/\ms=ms'++[x]
def aK.final(s:aK):List fO:=if s.stop=9 then s.sf else s.notes.sf
def cH(tg:List eI)(m:cY)(s s':aK)(m':cY):Prop:=(s'.stop=0/\∃ms,s'.sf=s.sf++ms/\mO tg m (aA s.sf) ms m' (aA s'.sf))\/(s'.stop≠0/\∃ms,s.sf++ms=s'.final/\oA tg m (aA s.sf) ms)
theorem cH.refl(a:List eI)(m:cY)(s:aK)(h:s.stop=0):cH a m s s m:=ea ⟨h,[],s_,mO.refl _ _⟩
theorem cH.trans{tg:List eI}{m m1 c:cY}{s a b:aK}(h:cH tg m s a m1)(k:a.stop=0->cH tg m1 a b c)(d:a.stop≠0->b=a):cH tg m s b c:=by grind[mO.trans,cH,oA]
theorem cH.step{tg:List eI}{b:List aG}{g:aG}{t:List Int}{o:cU}{m1:cY}{s a:aK}(e:f.su=Wj (i,g))(h:i.sd=Wl)(d:cD tg i b g t o=(m1,0))(j:a.stop=0)(c:a.sf=s.sf):cH tg ⟨b++[f],t,o⟩ s a m1:=ea ⟨j,[],ll,.step e h d (by rw[c];exact .refl _ _)⟩
theorem cH.stops{g:aG}{m1:cY}{st:Nat}{s a:aK}(h:f.su=Wj (i,g))(d:cD R i Q g T P=(m1,st))(j:st≠0)(n:st≠9) (e:a.stop=st) (m:a.sf=s.sf) (l:(⟨a.f_.map λf=>(f.name,f.l_),a.g_,a.out,a.stop⟩:fO)=uf m1 st):cH R ⟨Q++[f],T,P⟩ s a F:=by refine dv ⟨Z,[uf m1 st],?_,_,_,[],_,.refl _ _,.stop h d j,rfl⟩;grind[aK.final,aK.notes]
def eP(code:List aM)(p:Nat)(c:List aM):Prop:=∀j i,c[j]?=Wj i->code[p+j]?=Wj i
theorem eP.left{b:List aM}(h:eP I X (l++b)):eP I X l:=λj i d=>h j i G_
theorem eP.right{b:List aM}(h:eP I X (l++b)):eP I (X+aA l) b:=λj i d=>by have:=h (aA l+j) i G_;grind
def eP.zd(h:eP I X (i::l)):I[X]?=Wj i:=h 0 i rfl
def eP.tail(h:eP I X (i::l)):eP I (X+1) l:=λj k b=>by have:=h (j+1) k G_;grind
def jG(h:f.fn.code[f.next]?=Wj i):f.su=Wj (i,{f with next:=f.next+1}):=by grind[aG.su]
def BM:∀(a:cU) (b:List aD) (x:bS),a.Nodup->x∈a->aA a<=aA b->jZ (a.reverse.zip b) x=dY a x/\((a.reverse.zip b)[dY a x]?.map (·.2))=b[dY a x]?/\((a.reverse.zip b)[dY a x]?.map (·.1))=Wj x:=by
 intro a b x g d f;have c:a.reverse[dY a x]?=Wj x:=by induction a with|nil=>cases d|cons y l e=>grind[dY,qQ]
 grind[jZ,List.findIdx?_eq_some_iff_getElem,List.pairwise_iff_getElem]
structure gD(e_:cU)(p:Nat)(c:List aM)(below:List aG)(f:aG)(s:aK):Prop where
 code:eP f.fn.code p c
 next:f.next=p
 zg:f.e_=e_
 nodup:e_.Nodup
 g_:aA e_<=aA f.g_
 stop:s.stop=0
 f_:s.f_=dB (below++[f])
 deep:aA below+1<=16
def aG.sq(f:aG)(n:Nat)(vs:List aD):aG:={f with next:=n,ops:=f.ops++vs}
def eN(tg:List eI)(below:List aG)(f:aG)(n:Nat)(vs:List aD)(s s':aK):Prop:=(s'.stop=0->s'.f_=s.f_)/\cH tg ⟨below++[f],s.tape,s.out⟩ s s' ⟨below++[f.sq n vs],s'.tape,s'.out⟩
def mF(fs:List aC)(tg:List eI)(V:aC->aK->dV aD):Prop:=∀(d:Nat) (a:aC) (e_:cU) (p:Nat) (below:List aG) (f:aG) (s:aK) (v:aD) (s':aK),rE fs Wl e_ d a->gD e_ p (aF fs e_ d a p) below f s->V a s=Wj (v,s')->eN tg below f (p+aA (aF fs e_ d a p)) [v] s s'
theorem gD.sq{c':List aM}{s d:aK}(h:gD P X I Q f s)(j:eP f.fn.code U c')(i:d.stop=0)(g:d.f_=s.f_):gD P U c' Q (f.sq U N) d:=by refine⟨j,i_,h.zg,h.nodup,h.g_,i,?_,h.deep⟩;rw[g,h.f_];simp[dB,kS,aG.sq]
def AA{s:aK}(h:s.f_=dB (Q++[f])):s.g_=f.e_.reverse.zip f.g_:=by grind[aK.g_,dB,kS]
theorem kV{g:aG}{s:aK}(h:s.f_=dB (Q++[f]))(e:g.fn=f.fn)(c:g.l_=f.l_)(i:g.e_=f.e_)(d:g.g_=f.g_):(⟨s.f_.map λf=>(f.name,f.l_),s.g_,s.out,X⟩:fO)=uf ⟨Q++[g],T,s.out⟩ X:=by rw[AA h];unfold uf;rw[h];simp[dB,kS,e,c,i,d]
def lE{V:aC->aK->dV aD}(q:mF W R V):∀(l:List aC) (p:Nat) (f:aG) (s:aK) (vs:List aD) (k:aK),(∀a∈l,rE W Wl P X a)->gD P p (bC (aF W P X) l p) Q f s->eY V l s=Wj (vs,k)->eN R Q f (p+aA (bC (aF W P X) l p)) vs s k/\(k.stop=0->aA vs=aA l)
 |[],p,f,s,vs,k,_,h,n=>by
  simp [eY]at n;have e:f.sq (p+aA (bC (aF W P X) [] p)) []=f:=by simp[aG.sq,bC,<-h.next]
  grind[cH.refl,gD.stop,eN]|a::l,p,f,s,vs,k,A,h,n=>by
  rw[eY,dy (by rw[h.stop];simp)]at n;cases z:V a s with|none=>grind|some r=>
   have ⟨v,s1⟩:=r;cases x:eY V l s1 with|none=>grind|some y=>
    have ⟨ws,s2⟩:=y;have t:=h.code;have w:=q X a P p Q f s v s1 (G_) {h with code:=t.left} z;have m:s1.stop≠0->s2=s1:=λu=>by cases l with|nil=>grind[eY]|cons b B=>grind[eY]
    by_cases o:s1.stop=0;have ⟨h2,h2l⟩:=lE q l (p+aA (aF W P X a p)) (f.sq (p+aA (aF W P X a p)) [v]) s1 ws s2 (G_) (h.sq (c':=bC (aF W P X) l (p+aA (aF W P X a p))) t.right o (w.1 o)) x;grind[aG.sq,bC,cH.trans,eN];grind[cH,eN]
theorem kJ(f:aG)(n:Nat)(v:aD):(f.sq n [v]).last=v:=by simp[aG.sq,aG.last]
theorem XR(f:aG)(n m:Nat)(a:List aD):aG.many {f.sq n a with next:=m} (aA a)=a:=by simp[aG.sq,aG.many]
theorem xA(f:aG)(n m:Nat)(a:List aD):aG.p_ {f.sq n a with next:=m} (aA a)=f.sq m []:=by simp[aG.sq,aG.p_]
theorem lQ(f:aG)(n:Nat)(v:aD):(f.sq n []).push v=f.sq n [v]:=by simp[aG.sq,aG.push]
def eN.then{vs:List aD}{s b d:aK}{r:aD×Nat}(h:eN R Q f X vs s b)(e:s.f_=dB (Q++[f])) (j:f.fn.code[X]?=Wj i) (m:i.sd=Wl) (o:b.stop≠0->d=b) (g:b.stop=0->d=b.or r.2) (p:r.2≠9) (k:b.stop=0->(r.2=0->cD R i Q {f.sq X vs with next:=X+1} b.tape b.out=(⟨Q++[f.sq (X+1) [r.1]],b.tape,b.out⟩,0))/\(r.2≠0->cD R i Q {f.sq X vs with next:=X+1} b.tape b.out=(⟨Q++[f.sq (X+1) []],b.tape,b.out⟩,r.2))):eN R Q f (X+1) [r.1] s d:=by by_cases l:b.stop=0;rotate_left;grind[cH,eN];have hfetch:=jG (f:=f.sq X vs) j;grind[aK.or,cH.trans,cH.step,cH.stops,kV,aG.sq,eN]
def tC(below:List aG)(v:aD)(t:List Int)(o:cU):cY:=⟨below.dropLast++(below.getLast?.map λg=>g.push v).toList,t,o⟩
structure qM(e_:cU)(p:Nat)(c:List aM)(below:List aG)(f:aG)(s:aK):Prop where
 code:eP f.fn.code p c
 next:f.next=p
 nodup:e_.Nodup
 g_:aA e_<=aA f.g_
 stop:s.stop=0
 f_:s.f_=dB below++[kS f e_]
 deep:aA below+1<=16
def dR(tg:List eI)(below:List aG)(f:aG)(n:Nat)(seen':cU)(r:aD×Bool)(s s':aK):Prop:=(s'.stop=0/\r=(aY,Wl)/\∃f':aG,f'.fn=f.fn/\f'.next=n/\f'.ops=f.ops/\aA seen'<=aA f'.g_/\s'.f_=dB below++[kS f' seen']/\cH tg ⟨below++[f],s.tape,s.out⟩ s s' ⟨below++[f'],s'.tape,s'.out⟩)\/(s'.stop=0/\r.2=Wm/\s'.f_.dropLast=dB below/\cH tg ⟨below++[f],s.tape,s.out⟩ s s' (tC below r.1 s'.tape s'.out))\/(s'.stop≠0/\∀m',cH tg ⟨below++[f],s.tape,s.out⟩ s s' m')
def qY(fs:List aC)(tg:List eI)(B:aC->aK->dV (aD×Bool)):Prop:=∀(d:Nat) (b:aC) (e_:cU) (p:Nat) (below:List aG) (f:aG) (s:aK) (r:aD×Bool) (s':aK),sj (cO fs d) e_ b.y_->qM e_ p (bJ (aT fs d) e_ b.y_ p) below f s->B b s=Wj (r,s')->dR tg below f (p+aA (bJ (aT fs d) e_ b.y_ p)) e_ r s s'
theorem cH.any{tg:List eI}{c b:cY}{s a:aK}(h:cH tg F s a c)(d:a.stop≠0):cH tg F s a b:=by grind[cH]
theorem OT(h:dE W x=Wj S):(dW W X)[dU W x]?=Wj (fP W X S):=by grind[dW,uW]
def CF(h:dE W x=Wj S):S.x_=x:=by grind[dE]
def vE(h:gC W (dU W x)=Wj X):∃f,dE W x=Wj f/\f∈W/\aA f.y_-1=X:=by grind[gC,dU,dE,List.find?_eq_some_iff_getElem]
theorem B4{d:List aC}{D:Nat}(S:∀f∈d,gY d D f){B:aC->aK->dV (aD × Bool)}(HB:qY d (dW d D) B){h:List aD}{c:List aG}{n:Nat}{s y:aK}{v:aD}(h1:x≠[108,101,110])(h2:x≠[114,101,97,100])
 (P:gC d (dU d x)=Wj (aA h)) (hc:f.fn.code[n]?=Wj (.call (dU d x) (aA h))) (W:s.stop=0) (C:s.f_=dB (c++[f])) (hd:aA c+1<=16) (j:kA d B x h s=Wj (v,y)):
 (y.stop=0->y.f_=s.f_)/\cH (dW d D) ⟨c++[f.sq n h],s.tape,s.out⟩ s y ⟨c++[f.sq (n+1) [v]],y.tape,y.out⟩:=by
 have i:(f.sq n h).su=Wj (.call (dU d x) (aA h),{ f.sq n h with next:=n+1 }):=jG (f:=f.sq n h) hc
 unfold kA at j;rw[dy G_,dy G_]at j
 have E:aA s.f_=aA c+1:=by rw[C];simp[dB]
 rw[E]at j;by_cases q:aA c+1=16
 .rw[ec q]at j;simp[fq,gd]at j;obtain⟨rfl,rfl⟩:=j;have e:s.or 5={ s with stop:=5 }:=by grind [aK.or]
  rw[e];refine⟨s_,cH.stops i (by rw[cD];simp only;rw[ec q]) s_ s_ rfl rfl ?_⟩
  rw[xA];exact kV (s:={ s with stop:=5 }) (g:=f.sq (n+1) []) C rfl rfl rfl rfl
 rw[dy q]at j;have ⟨F,hF,hFm,hFk⟩:=vE P;rw[hF]at j;simp only at j;have ⟨⟨ps,b,hk,hb,hnd⟩,hl⟩:=S F hFm;have p:F.y_.getLast?.getD F=b:=G_
 rw[p]at j;have L:aA ps=aA h:=G_
 have G:(F.y_.map (·.x_)).zip h=(ps.map (·.x_)).zip h:=by
  rw[hk,fo,<-List.append_nil h,List.zip_append (by simp[L])]
  simp
 rw[G]at j;have r:(fP d D F).code=bJ (aT d D) (ps.map (·.x_)).reverse b.y_ 0++[.push (bB 0),.tj]:=by simp[fP,hk]
 have Q:(fP d D F).name=x:=CF hF;cases X:B b { s with f_:=s.f_++[⟨x,0,(ps.map (·.x_)).zip h⟩] } with
 |none=>grind
 |some rr=>
  obtain⟨⟨V,e1⟩,k⟩:=rr;rw[X]at j;simp only[fq,gd]at j;obtain⟨rfl,l⟩:=j;let T:aK:={ s with f_:=s.f_++[⟨x,0,(ps.map (·.x_)).zip h⟩] }
  let a:=c++[f.sq (n+1) []]
  let H:aG:=⟨fP d D F,0,0,[],h,[]⟩
  have N:qM (ps.map (·.x_)).reverse 0 (bJ (aT d D) (ps.map (·.x_)).reverse b.y_ 0) a H T:=by
   refine⟨?_,i_,G_,G_,W,?_,G_⟩
   .grind [eP]
   grind [dB,kS,aG.sq]
  have U:=HB D b (ps.map (·.x_)).reverse 0 a H T (V,e1) k hb N X
  have u:cD (dW d D) (.call (dU d x) (aA h)) c { f.sq n h with next:=n+1 } s.tape s.out=(⟨a++[H],s.tape,s.out⟩,0):=by grind [cD,OT,xA,XR]
  have J:cH (dW d D) ⟨c++[f.sq n h],s.tape,s.out⟩ s T ⟨a++[H],s.tape,s.out⟩:=cH.step i i_ u W i_;have m:∀w t o,tC a w t o=⟨c++[f.sq (n+1) [w]],t,o⟩:=(by grind [tC,lQ])
  rcases U with ⟨z,ke,f',k1,k2,k3,k4,k5,I⟩|⟨z,ke,k5,I⟩|⟨z,I⟩
  ·-- the block has been done:0 is returned
   have K:V=aY:=(by grind)
   rw[ec z]at l;subst l;refine⟨λ_=>?_,?_⟩
   .grind [dB,kS,aG.sq]
   refine J.trans (λ_=>I.trans (λ_=>?_) Z) G_
   have c1:f'.fn.code[f'.next]?=Wj (.push (bB 0)):=by grind
   have c2:f'.fn.code[f'.next+1]?=Wj .tj:=by rw[k1,k2];show (fP d D F).code[_]?=_;rw[r,jd Z];simp
   have M:cH (dW d D) ⟨a++[f'],k.tape,k.out⟩ k k ⟨a++[aG.push { f' with next:=f'.next+1 } (bB 0)],k.tape,k.out⟩:=cH.step (jG c1) rfl rfl z rfl
   refine M.trans (λ_=>?_) Z
   have hg:(aG.push { f' with next:=f'.next+1 } (bB 0)).su=Wj (.tj,{ (aG.push { f' with next:=f'.next+1 } (bB 0))with next:=f'.next+1+1 }):=jG c2
   have A:cD (dW d D) .tj a { (aG.push { f' with next:=f'.next+1 } (bB 0))with next:=f'.next+1+1 } k.tape k.out=(tC a (bB 0) k.tape k.out,0):=by simp[cD,tC,aG.last,aG.push]
   rw[m]at A;rw[K];exact cH.step hg i_ A z i_
  .rw[ec z]at l;subst l;refine⟨λ_=>?_,?_⟩
   .grind [dB,kS,aG.sq]
   rw[m]at I;grind [cH.trans,cH]
  grind [cH.trans]
theorem TE(a:bS)(x y:Int):(jJ a x y).2≠9:=by grind[jJ]
theorem KS(a b:aD):(iK a b).2≠9:=by grind[iK]
def VN(c:bS)(a b:aD):(dH c a b).2≠9:=by grind[dH,TE,KS]
def XI(b:bS)(a:aD):(dF b a).2≠9:=by grind[dF]
def NK(a b:aD):(bY a b).2≠9:=by grind[bY]
def KP(a:aD):(dO a).2≠9:=by grind[dO]
theorem vW:∀(b:List aD) (a v:aD),(cI b a v).2≠9|[],_,_=>by simp[cI]|i::r,a,v=>by have:=vW r (a.l.getD i.n.toNat aY) v;grind[cI]
def nH{n:Nat}{vs:List aD}(a:f.fn.code[n]?=Wj i):(f.sq n vs).su=Wj (i,f.sq (n+1) vs):=jG (f:=f.sq n vs) a
theorem lT(f:aG)(n:Nat)(v:aD):(f.sq n [v]).pop=f.sq n []:=by simp[aG.sq,aG.pop]
def eN.push{a:List aG}{v:aD}{s:aK}(e:f.fn.code[X]?=Wj i)(g:f.next=X)(c:s.stop=0)(d:i.sd=Wl)(h:cD R i a {f with next:=X+1} s.tape s.out=(⟨a++[f.sq (X+1) [v]],s.tape,s.out⟩,0)):eN R a f (X+1) [v] s s:=⟨s_,cH.step (jG (f:=f) (by rw[g];exact e)) d G_ c rfl⟩
def SX{A:List aC}{V:aC->aK->dV aD}(HV:mF A R V){d:Nat}{l r:aC}{w:Bool}{j:cU}{p:Nat}{c:List aG}{s:aK}{v:aD}{U:aK}(hl:rE A Wl j d l)(hr:rE A Wl j d r) (h:gD j p (aF A j d l p++[.sr w (p+aA (aF A j d l p)+1+aA (aF A j d r (p+aA (aF A j d l p)+1))+1)]++aF A j d r (p+aA (aF A j d l p)+1)++[.tr]) c f s) (u:mK V w l r s=Wj (v,U)):eN R c f (p+aA (aF A j d l p)+1+aA (aF A j d r (p+aA (aF A j d l p)+1))+1) [v] s U:=by
 generalize S:aF A j d l p=k at*;generalize Q:aF A j d r (p+aA k+1)=B at*;generalize hq:p+aA k+1+aA B+1=q at*;unfold mK at u;cases hv:V l s with|none=>grind|some x=>
  have ⟨a,s1⟩:=x;rw[hv]at u;simp only at u;have hc:=h.code;have N:=(hc.left.left.right).zd;have ac:eP f.fn.code (p+aA k+1) B:=by grind[eP.right,eP]
  have T:f.fn.code[p+aA k+1+aA B]?=Wj .tr:=by have:=hc.right.zd;grind
  have E:=HV d l j p c f s a s1 hl {h with code:=by grind[eP]} hv;rw[S]at E;by_cases L:s1.stop=0;rotate_left;grind[cH.any,eN,aK.or];have C:=(E.1 L).trans h.f_;have m:=nH (f:=f) (n:=p+aA k) (vs:=[a]) N;have ab:=λt o=>oT (tg:=R) (i:=.sr w q) (below:=c) (f:=f.sq (p+aA k+1) [a]) (t:=t) (o:=o) s_ s_ s_ s_;have M:(f.sq (p+aA k+1) [a]).last=a:=kJ _ _ _;by_cases P:a.c_=1;rotate_left;rw[ec (Z)]at u;simp[fq,gd]at u;obtain⟨rfl,rfl⟩:=u;have e:s1.or 2={s1 with stop:=2}:=by grind[aK.or]
  rw[e];refine⟨s_,E.2.trans (λ_=>cH.stops (st:=2) (m1:=⟨c++[f.sq (p+aA k+1) []],s1.tape,s1.out⟩) m ?_ d_ d_ rfl rfl ?_) Z⟩;grind[aO,lT];exact kV (s:={s1 with stop:=2}) (g:=f.sq (p+aA k+1) []) C rfl rfl rfl rfl;rw[dy Z]at u;by_cases X:decide (a.n=1)=w;rw[ec X]at u;simp[fq,gd]at u;obtain⟨rfl,rfl⟩:=u;refine⟨E.1,E.2.trans (λ_=>cH.step m i_ ?_ L i_) Z⟩;grind[aO,lT,lQ,aG.sq];rw[dy X]at u;have hE:cH R ⟨c++[f],s.tape,s.out⟩ s s1 ⟨c++[f.sq (p+aA k+1) []],s1.tape,s1.out⟩:=by refine E.2.trans (λ_=>cH.step m i_ ?_ L i_) Z;grind[aO,lT]
  cases F:V r s1 with|none=>grind|some x2=>
   have ⟨b,s2⟩:=x2;rw[F]at u;simp only at u;have W:=HV d r j (p+aA k+1) c (f.sq (p+aA k+1) []) s1 b s2 hr (by grind[gD.sq,eN]) F;rw[Q]at W;have D:cH R ⟨c++[f],s.tape,s.out⟩ s s2 ⟨c++[(f.sq (p+aA k+1) []).sq (p+aA k+1+aA B) [b]],s2.tape,s2.out⟩:=(by grind[cH.trans,eN]);have H:(f.sq (p+aA k+1) []).sq (p+aA k+1+aA B) [b]=f.sq (p+aA k+1+aA B) [b]:=by simp[aG.sq]
   rw[H]at D;by_cases I:s2.stop=0;rotate_left;grind[eN,aK.or,cH];have G:=(W.1 I).trans C;have z:=nH (f:=f) (n:=p+aA k+1+aA B) (vs:=[b]) T;have aa:=λt o=>oT (tg:=R) (i:=.tr) (below:=c) (f:=f.sq (p+aA k+1+aA B+1) [b]) (t:=t) (o:=o) s_ s_ s_ s_;have K:(f.sq (p+aA k+1+aA B+1) [b]).last=b:=kJ _ _ _;by_cases J:b.c_=1;rw[dy Z]at u;simp[fq,gd]at u;obtain⟨rfl,rfl⟩:=u;refine⟨(by grind[eN]),D.trans (λ_=>cH.step z rfl ?_ I rfl) Z⟩;grind[aO,lT,lQ];rw[ec (Z)]at u;simp[fq,gd]at u;obtain⟨rfl,rfl⟩:=u;have e:s2.or 2={s2 with stop:=2}:=by grind[aK.or]
   rw[e];refine⟨s_,D.trans (λ_=>cH.stops (st:=2) (m1:=⟨c++[f.sq (p+aA k+1+aA B+1) []],s2.tape,s2.out⟩) z ?_ d_ d_ rfl rfl ?_) Z⟩;grind[aO,lT];exact kV (s:={s2 with stop:=2}) (g:=f.sq (p+aA k+1+aA B+1) []) G rfl rfl rfl rfl
theorem WW(f:aG)(n:Nat)(a:List aD):(f.sq n a).p_ (aA a)=f.sq n []:=by simp[aG.sq,aG.p_]
theorem YL(f:aG)(n:Nat)(a:List aD):(f.sq n a).many (aA a)=a:=by simp[aG.sq,aG.many]
theorem YD(f:aG)(n:Nat)(v w:aD):(f.sq n [v,w]).last=w:=by simp[aG.sq,aG.last]
theorem Z5(f:aG)(n:Nat)(v w:aD):(f.sq n [v,w]).pop=f.sq n [v]:=by grind[aG.sq,aG.pop]
def qT{B:aC->aK->dV (aD×Bool)}{r:List aD->aD×Nat}(E:∀l s,jC W B S l s=Wj ((r l).1,s.or (r l).2))(A:∀l,(r l).2≠9){V:aC->aK->dV aD} (D:mF W R V){d:Nat}{c:cU}{p:Nat}{b:List aG}{f:aG}{s:aK}{v:aD}{q:aK} (C:∀k∈S.y_,rE W Wl c d k) (h:gD c p (bC (aF W c d) S.y_ p++[i]) b f s) (z:i.sd=Wl) (m:(match eY V S.y_ s with|none=>Wk|some (l,s1)=>if s1.stop≠0 then Wj (aY,s1)else jC W B S l s1)=Wj (v,q)) (y:∀(n:Nat) (g:List aD) t o,aA g=aA S.y_->((r g).2=0->cD R i b (f.sq n g) t o=(⟨b++[f.sq n [(r g).1]],t,o⟩,0))/\((r g).2≠0->cD R i b (f.sq n g) t o=(⟨b++[f.sq n []],t,o⟩,(r g).2))):eN R b f (p+aA (bC (aF W c d) S.y_ p)+1) [v] s q:=by cases w:eY V S.y_ s with|none=>grind|some x=>have ⟨l,s1⟩:=x;rw[w]at m;simp only at m;have ⟨h1,h1l⟩:=lE D S.y_ p f s l s1 C {h with code:=h.code.left} w;by_cases u:s1.stop=0;rw[dy qn,E]at m;obtain⟨rfl,rfl⟩:=m;refine h1.then h.f_ (i:=i) (r:=r l) h.code.right.zd z (Z) (s_) (A l) λ_=>?_;exact y _ l _ _ (h1l u);grind[cH.any,eN]
def vZ(Y_:c:=by simp only[fq,gd]at he;obtain⟨rfl,rfl⟩:=he;rw[hc]at h⊢;exact eN.push h.code.zd h.next h.stop i_ (by simp[cD,aO,aG.push,aG.sq])):c:=Y_
def EP(Y_:c:=by rw[hlen];refine qT (r:=λl=>dF a.op (l.head?.getD aY)) ((by grind[jC])) (λl=>XI _ _) HV G_ h rfl he λn vs t o hn=>?_;rw[hk]at hn;match vs,hn with|[x],_=>grind[aO,lT,kJ,lQ]):c:=Y_
def Se(M:∀f∈W,gY W X f){V:aC->aK->dV aD}{B:aC->aK->dV (aD×Bool)}(HV:mF W (dW W X) V)(U:qY W (dW W X) B):mF W (dW W X) λn s=>gF W V B n s:=by
 intro d a b p q f s v T H h he;cases d with|zero=>exact H.elim|succ d=>
  simp only at he;unfold gF at he;have J:∀(i:aM) (g:aG) t o,i≠.tj->i≠.read->i≠.print->(∀k n,i≠.call k n)->cD (dW W X) i q g t o=(⟨q++[(aO i g).1],t,o⟩,(aO i g).2):=(by grind[oT]);rcases H with ⟨c|c|c,hk⟩|⟨c,hk,Q⟩|⟨c,hk⟩|⟨c,l,r,hk,w,G⟩|⟨c|c,l,hk,w⟩|⟨c,hk,hc⟩|⟨c,l,r,hk,w,G⟩;have hc:aF W b (d+1) a p=[.push (bB (((dQ 0 a.x_).getD 0:Nat):Int))]:=by rw[aF];simp[c]
  rw[ec ll]at he;exact vZ;have hc:aF W b (d+1) a p=[.push (bT a.x_)]:=by rw[aF];simp[c]
  rw[dy ll,ec ll]at he;exact vZ;have hc:aF W b (d+1) a p=[.push (cF (a.x_==[116,114,117,101]))]:=by rw[aF];simp[c]
  rw[dy ll,dy ll,ec ll]at he;exact vZ;have hc:aF W b (d+1) a p=[.load (dY b a.x_)]:=by rw[aF];simp[c]
  rw[dy ll,dy ll,dy ll,ec ll]at he;simp[fq,gd]at he;obtain⟨I,rfl⟩:=he;rw[hc]at h⊢;rw[AA h.f_,h.zg]at I;have ⟨e1,e2,_⟩:=BM b f.g_ a.x_ h.nodup Q h.g_;rw[e1,e2]at I;exact eN.push h.code.zd h.next h.stop i_ (by grind[aO,aG.push,aG.sq]);have hc:aF W b (d+1) a p=bC (aF W b d) a.y_ p++[.list (aA a.y_)]:=by rw[aF];simp[c]
  rw[dy ll,dy ll,dy ll,dy ll,dy ll]at he;rw[hc]at h⊢;have hlen:p+aA (bC (aF W b d) a.y_ p++[aM.list (aA a.y_)])=p+aA (bC (aF W b d) a.y_ p)+1:=G_;rw[hlen];refine qT (r:=λl=>(bH l,if 200<aI (bH l)then 6 else 0)) ((by grind[jC])) (G_) HV hk h rfl he λn vs t o hn=>?_;grind[aO,jO,WW,YL,lQ];have hc:aF W b (d+1) a p=bC (aF W b d) a.y_ p++[.index]:=by rw[aF];simp[c]
  rw[dy ll,dy ll,dy ll,dy ll,dy ll]at he;rw[hc]at h⊢;have hlen:p+aA (bC (aF W b d) a.y_ p++[aM.index])=p+aA (bC (aF W b d) a.y_ p)+1:=G_;rw[hlen];refine qT (r:=λl=>bY (l.head?.getD aY) ((l.drop 1).head?.getD aY)) ((by grind[jC])) (λl=>NK _ _) HV G_ h rfl he λn vs t o hn=>?_;rw[hk]at hn;match vs,hn with|[x,y],_=>grind[aO,YD,Z5,lT,kJ,lQ]
  have hc:aF W b (d+1) a p=bC (aF W b d) a.y_ p++[.unary [45]]:=by rw[aF];simp[c]
  rw[dy ll,dy ll,dy ll,dy ll,dy ll]at he;rw[hc]at h⊢;have hlen:p+aA (bC (aF W b d) a.y_ p++[aM.unary [45]])=p+aA (bC (aF W b d) a.y_ p)+1:=G_;exact EP;have hc:aF W b (d+1) a p=bC (aF W b d) a.y_ p++[.unary [33]]:=by rw[aF];simp[c]
  rw[dy ll,dy ll,dy ll,dy ll,dy ll]at he;rw[hc]at h⊢;have hlen:p+aA (bC (aF W b d) a.y_ p++[aM.unary [33]])=p+aA (bC (aF W b d) a.y_ p)+1:=G_;exact EP
  .rw[dy ll,dy ll,dy ll,dy ll,dy ll]at he;have m:∀l s,jC W B a l s=kA W B a.x_ l s:=(by grind[jC]);have hlen:∀i:aM,p+aA (bC (aF W b d) a.y_ p++[i])=p+aA (bC (aF W b d) a.y_ p)+1:=(by grind);rcases hc with ⟨F,hn⟩|⟨F,_,hn⟩|⟨N,P,_,hn⟩;have hc:aF W b (d+1) a p=bC (aF W b d) a.y_ p++[.length]:=by rw[aF];grind
   rw[hc]at h⊢;rw[hlen];refine qT (r:=λl=>dO (l.head?.getD aY)) ((by grind[kA])) (λl=>KP _) HV hk h rfl he λn vs t o C=>?_;rw[hn]at C;match vs,C with|[x],_=>grind[aO,lT,kJ,lQ]
   .have hc:aF W b (d+1) a p=bC (aF W b d) a.y_ p++[.read]:=by rw[aF];grind
    have hk0:=jp hn;rw[hk0]at he;simp only[eY]at he;rw[dy (by simp[h.stop]),m]at he;rw[hc,hk0]at h⊢;simp only[bC,ik,ff,fh]at h⊢;unfold kA at he;rw[dy (by simp[F]),ec (by simp[F])]at he;have hfetch:=jG (by rw[h.next];exact h.code.zd);cases u:s.tape with
    |nil=>
     rw[u]at he;simp[fq,gd]at he;obtain⟨rfl,rfl⟩:=he;have e:s.or 7={s with stop:=7}:=by grind[aK.or,gD.stop]
     rw[e];refine⟨s_,cH.stops (st:=7) hfetch (by rw[u];rfl) d_ d_ rfl rfl ?_⟩;exact kV (s:={s with stop:=7}) (g:={f with next:=f.next+1}) h.f_ rfl rfl rfl rfl|cons t r=>rw[u]at he;simp[fq,gd]at he;obtain⟨rfl,rfl⟩:=he;refine⟨s_,cH.step hfetch rfl ?_ h.stop rfl⟩;grind[cD,aG.push,aG.sq,gD.next]
   have hc:aF W b (d+1) a p=bC (aF W b d) a.y_ p++[.call (dU W a.x_) (aA a.y_)]:=by grind[aF]
   rw[hc]at h⊢;rw[hlen];cases w:eY V a.y_ s with|none=>grind|some x=>have ⟨l,s1⟩:=x;rw[w]at he;simp only at he;have ⟨h1,h1l⟩:=lE HV a.y_ p f s l s1 hk {h with code:=h.code.left} w;by_cases A:s1.stop=0;rw[dy (by simp[A]),m]at he;have K:=h1l A;have L:=h.code.right.zd;grind[B4,gD.f_,gD.deep,cH.trans,eN];grind[cH.any,eN]
  have z:=pF c;have E:a.op≠[48]/\a.op≠[115]/\a.op≠[98,111,111,108]/\a.op≠[110,97,109,101]/\a.op≠[108,105,115,116]/\a.op≠[99,97,108,108]/\a.op≠[105,110,100,101,120]/\a.op≠[45,120]/\a.op≠[33,120]:=by rcases z with h|h|h|h|h|h|h|h|h|h|h<;>rw[h]<;>decide
  have ⟨n1,n2,n3,n4,n5,n6,n7,n8,n9⟩:=E;rw[dy G_,dy G_,dy G_,dy G_]at he;by_cases S:a.op=[38,38]\/a.op=[124,124];have hc:aF W b (d+1) a p=aF W b d l p++[.sr (a.op==[124,124]) (p+aA (aF W b d l p)+1+aA (aF W b d r (p+aA (aF W b d l p)+1))+1)]++aF W b d r (p+aA (aF W b d l p)+1)++[.tr]:=by grind[aF]
  rw[ec G_,hk]at he;simp only at he;rw[hc]at h⊢;have:=SX HV w G h he;grind;have hc:aF W b (d+1) a p=bC (aF W b d) a.y_ p++[.binary a.op]:=by grind[aF]
  rw[dy G_]at he;rw[hc]at h⊢;have hlen:p+aA (bC (aF W b d) a.y_ p++[aM.binary a.op])=p+aA (bC (aF W b d) a.y_ p)+1:=G_;rw[hlen];refine qT (r:=λl=>dH a.op (l.head?.getD aY) ((l.drop 1).head?.getD aY)) ((by grind[jC])) (λl=>VN _ _ _) HV G_ h rfl he λn vs t o hn=>?_;rw[hk]at hn;match vs,hn with|[x,y],_=>grind[aO,YD,Z5,lT,kJ,lQ]
def zV{tg:List eI}{e_:cU}{l_:Nat}{s:aK}(h:qM e_ X (.begin l_ e_::I) Q f s):(s.ry l_).tape=s.tape/\(s.ry l_).out=s.out/\((s.ry l_).stop=0->gD e_ (X+1) I Q {f with next:=X+1,l_:=l_,e_:=e_} (s.ry l_))/\cH tg ⟨Q++[f],s.tape,s.out⟩ s (s.ry l_) ⟨Q++[{f with next:=X+1,l_:=l_,e_:=e_}],s.tape,s.out⟩:=by
 have hfetch:=jG (by rw[h.next];exact h.code.zd);have d:s.td (λf=>{f with l_:=l_})={s with f_:=dB (Q++[{f with next:=X+1,l_:=l_,e_:=e_}])}:=by unfold aK.td;rw[h.f_];simp[dB,kS]
 have b:∀t o,cD tg (.begin l_ e_) Q {f with next:=f.next+1} t o=(⟨Q++[{f with next:=X+1,l_:=l_,e_:=e_}],t,o⟩,0):=(by grind[aO,qM.next,cD]);have j:∀i,(⟨(dB (Q++[{f with next:=X+1,l_:=l_,e_:=e_}])).map λf=>(f.name,f.l_),aK.g_ {s with f_:=dB (Q++[{f with next:=X+1,l_:=l_,e_:=e_}])},s.out,i⟩:fO)=uf ⟨Q++[{f with next:=X+1,l_:=l_,e_:=e_}],s.tape,s.out⟩ i:=λi=>kV (s:={s with f_:=dB (Q++[{f with next:=X+1,l_:=l_,e_:=e_}])}) (g:={f with next:=X+1,l_:=l_,e_:=e_}) rfl rfl rfl rfl rfl;unfold aK.ry;rw[d];simp;by_cases e:aA s.sf=500;.rw[ec e];refine⟨i_,i_,(by grind[aK.notes]),dv ⟨by simp[aK.notes],[uf ⟨Q++[{f with next:=X+1,l_:=l_,e_:=e_}],s.tape,s.out⟩ 9],?_,_,_,[],_,.refl _ _,?_,rfl⟩⟩;grind[aK.final,aK.notes,aK.g_];rw[e];exact .fuel hfetch i_ (b _ _)
 rw[dy e];refine⟨i_,i_,λ_=>⟨h.code.tail,i_,i_,h.nodup,h.g_,h.stop,i_,h.deep⟩,ea ⟨h.stop,[uf ⟨Q++[{f with next:=X+1,l_:=l_,e_:=e_}],s.tape,s.out⟩ 0],?_,?_⟩⟩;grind[aK.notes,qM.stop];simp [aK.notes,et];exact .wu hfetch i_ (b _ _) e (.refl _ _)
theorem vq(l:List g)(m:List j):l.zip (m.take (aA l))=l.zip m:=by induction l generalizing m with|nil=>simp|cons a l d=>cases m with|nil=>simp|cons b m=>simp[d]
theorem IP:∀(l:List g) (m:List j) (k:Nat) (x:j) (a:g),l[k]?=Wj a->l.zip (m.set k x)=(l.zip m).set k (a,x)|[],_,_,_,_,h=>by simp at h|y::l,[],k,x,a,_=>by simp|y::l,b::m,0,x,a,h=>by simp at h;simp[h]|y::l,b::m,k+1,x,a,h=>by simp[IP l m k x a h]
def mH{V:aC->aK->dV aD}(z:mF W R V){c:cU}{s:aK}{l:List aC}{s1 n:aK}{x:Nat}(u:∀k∈l,rE W Wl P X k) (h:gD P U (bC (aF W P X) l U++[i]) Q f s) (y:eY V l s=Wj (N,s1)) (B:i.sd=Wl) (r:s1.stop=0) (v:(n.stop=0/\x=0/\n.sf=s1.sf/\∃g:aG,g.fn=f.fn/\g.ops=f.ops/\g.next=U+aA (bC (aF W P X) l U)+1/\aA c<=aA g.g_/\n.f_=dB Q++[kS g c]/\cD R i Q (f.sq (U+aA (bC (aF W P X) l U)+1) N) s1.tape s1.out=(⟨Q++[g],n.tape,n.out⟩,0))\/(n={s1 with stop:=x}/\x≠0/\x≠9/\cD R i Q (f.sq (U+aA (bC (aF W P X) l U)+1) N) s1.tape s1.out=(⟨Q++[f.sq (U+aA (bC (aF W P X) l U)+1) []],s1.tape,s1.out⟩,x))):dR R Q f (U+aA (bC (aF W P X) l U)+1) c (aY,Wl) s n:=by have ⟨h1,h1l⟩:=lE z l U f s N s1 u {h with code:=h.code.left} y;have j:=nH (f:=f) (vs:=N) h.code.right.zd;rcases v with ⟨D,_,q,g,F,C,I,E,H,A⟩|⟨rfl,q,w,t⟩;grind[cH.trans,cH.step,dR,eN];refine dv (dv ⟨q,λG=>h1.2.trans (λ_=>cH.stops (st:=x) j t q w i_ i_ ?_) Z⟩);exact kV (s:={s1 with stop:=x}) (g:=f.sq (U+aA (bC (aF W P X) l U)+1) []) ((h1.1 r).trans h.f_) rfl rfl rfl rfl
theorem dR.after{f1:aG}{r:aD×Bool}{s d e:aK}(j:f1.fn=f.fn)(i:f1.ops=f.ops)(g:cH R ⟨Q++[f],s.tape,s.out⟩ s d ⟨Q++[f1],d.tape,d.out⟩)(k:d.stop=0)(h:dR R Q f1 X P r d e):dR R Q f X P r s e:=by grind[cH.trans,dR]
theorem dR.halted{r:aD×Bool}{s d:aK}(e:cH R ⟨Q++[f],s.tape,s.out⟩ s d F)(g:d.stop≠0):dR R Q f X P r s d:=(by grind[dR,cH])
def xO{V:aC->aK->dV aD}(z:mF W R V){p q:Nat}{below:List aG}{s:aK}{t:Bool}{l:aK}(A:rE W Wl P X S) (h:gD P p (aF W P X S p++[.skip q]) below f s) (n:kN V S s=Wj (t,l)):(l.stop=0->l.f_=s.f_)/\cH R ⟨below++[f],s.tape,s.out⟩ s l ⟨below++[f.sq (if t then p+aA (aF W P X S p)+1 else q) []],l.tape,l.out⟩/\(l.stop≠0->t=Wl):=by
 unfold kN at n;cases w:V S s with|none=>grind|some x=>
  have ⟨a,s1⟩:=x;rw[w]at n;simp at n;have r:=z X S P p below f s a s1 A {h with code:=h.code.left} w;by_cases v:s1.stop=0;rotate_left;grind[cH,aK.or,eN];have j:=nH (f:=f) (vs:=[a]) h.code.right.zd;have y:=λt o=>oT (tg:=R) (i:=.skip q) (below:=below) (f:=f.sq (p+aA (aF W P X S p)+1) [a]) (t:=t) (o:=o) s_ s_ s_ s_;by_cases u:a.c_=1;rw[dy Z]at n;obtain⟨rfl,rfl⟩:=n;refine⟨r.1,r.2.trans (λ_=>cH.step j i_ ?_ v i_) (Z),Z⟩;grind[aO,kJ,lT,aG.sq];rw[ec (Z)]at n;obtain⟨rfl,rfl⟩:=n;have e:s1.or 2={s1 with stop:=2}:=by grind[aK.or]
  rw[e];refine⟨s_,r.2.trans (λ_=>cH.stops (st:=2) (m1:=⟨below++[f.sq (p+aA (aF W P X S p)+1) []],s1.tape,s1.out⟩) j ?_ d_ d_ rfl rfl ?_) (Z),s_⟩;grind[aO,kJ,lT];exact kV (s:={s1 with stop:=2}) (g:=f.sq (p+aA (aF W P X S p)+1) []) ((r.1 v).trans h.f_) rfl rfl rfl rfl
theorem gD.st{b:cU}{g:List aM}{a:List aG}{s d:aK}(h:gD b X I a f s)(k:eP f.fn.code U g)(j:d.stop=0)(i:d.f_=s.f_):qM b U g a (f.sq U []) d:=⟨k,rfl,h.nodup,h.g_,j,by rw[i,h.f_];simp[dB,kS,aG.sq,h.zg],h.deep⟩
def lK(f:aG)(n:Nat):(f.sq n []).ops=f.ops:=by simp[aG.sq]
def FP{A:List aC}{V:aC->aK->dV aD}{B:aC->aK->dV (aD×Bool)}(HV:mF A R V)(HB:qY A R B){d:Nat}{n c b:aC}{e_:cU}{p q:Nat}{a:List aG}{j:List aM}{f0:aG} (hc:rE A Wl e_ d c) (hb:sj (cO A d) e_ b.y_) (G:aF A e_ d c (p+1)=j) (D:bJ (aT A d) e_ b.y_ (p+1+aA j+1)=I) (hq:q=p+1+aA j+1+aA I+1) (h:eP f0.fn.code p (.begin n.l_ e_::j++[.skip q]++I++[.jump p])) (C:e_.Nodup) (P:aA a+1<=16):∀(k:Nat) (t:Bool) (f:aG) (s:aK) (r:aD×Bool) (N:aK),f.fn=f0.fn->f.ops=f0.ops->f.e_=e_->aA e_<=aA f.g_->(s.stop≠0->t=Wl)->s.stop=0->f.next=(if t then p+1+aA j+1 else q)->s.f_=dB (a++[f])->iM V B n c b k t s=Wj (r,N)->dR R a f q e_ r s N
 |0,_,_,_,_,_,_,_,_,_,_,_,_,_,i=>by simp[iM]at i|k+1,t,f,s,r,N,K,F,ad,Q,ae,hs,J,ac,i=>by
  rw[iM]at i;cases t with|false=>grind[cH.refl,dB,dR]|true=>
   rw[dy (by simp[hs])]at i;simp only[if_true]at J;have c1:eP f.fn.code (p+1+aA j+1) I:=by rw[K];have:=h.left.right;grind
   have c2:f.fn.code[p+1+aA j+1+aA I]?=Wj (.jump p):=by rw[K];have:=h.right.zd;grind
   cases hB:B b s with|none=>grind|some x=>
    have ⟨⟨v,e⟩,s1⟩:=x;rw[hB]at i;simp only at i;have M:=HB d b e_ (p+1+aA j+1) a f s (v,e) s1 hb ⟨G_,J,C,Q,hs,by grind[dB],P⟩ hB;rw[D]at M;rcases M with ⟨H,X,f',k1,k2,k3,k4,k5,k6⟩|⟨H,X,k5,k6⟩|⟨H,k6⟩
    .obtain⟨rfl,rfl⟩:=gh X;rw[dy (by simp[H])]at i;have U:f'.fn.code[f'.next]?=Wj (.jump p):=G_;have hj:cH R ⟨a++[f'],s1.tape,s1.out⟩ s1 s1 ⟨a++[{f' with next:=p}],s1.tape,s1.out⟩:=cH.step (jG U) rfl rfl H rfl;have S:qM e_ p (.begin n.l_ e_::(j++[.skip q])) a {f' with next:=p} s1:=⟨by grind[eP.left],rfl,C,k4,H,by rw[k5];rfl,P⟩;have ⟨b1,b2,b3,b4⟩:=zV (tg:=R) S;generalize ag:({f' with next:=p+1,l_:=n.l_,e_:=e_}:aG)=o at*;have hE:cH R ⟨a++[f],s.tape,s.out⟩ s (s1.ry n.l_) ⟨a++[o],(s1.ry n.l_).tape,(s1.ry n.l_).out⟩:=by grind[cH.trans]
     generalize s1.ry n.l_=T at*;by_cases z:T.stop=0;rotate_left;rw[ec z]at i;cases k with|zero=>simp[iM]at i|succ k=>grind[iM,dR.halted]
     rw[dy (by simp[z])]at i;cases L:kN V c T with|none=>grind|some y=>have ⟨t1,s3⟩:=y;rw[L]at i;simp only at i;have W:=b3 z;have E:gD e_ (p+1) (aF A e_ d c (p+1)++[.skip q]) a o T:=G_;have ⟨d1,d2,d3⟩:=xO HV hc E L;rw[G]at d2;have af:=hE.trans (λ_=>d2) Z;have aa:o.fn=f.fn:=G_;have u:o.ops=f.ops:=G_;have m:o.e_=e_:=G_;have l:aA e_<=aA o.g_:=G_;by_cases w:s3.stop=0;have ab:=FP HV HB hc hb G D hq h C P k t1 (o.sq (if t1 then p+1+aA j+1 else q) []) s3 r N (by show o.fn=_;grind) (by rw[lK,u,F]) m l d3 w rfl (by rw[d1 w,W.f_];simp[dB,kS,aG.sq]) i;grind[dR.after,aG.sq];have:=d3 w;subst this;cases k with|zero=>simp[iM]at i|succ k=>grind[iM,dR.halted]
    grind[dR];grind[dR]
theorem YJ(f:aG)(n:Nat)(a:List aD)(v:aD):(f.sq n (a++[v])).last=v:=by grind[aG.sq,aG.last]
theorem R8(f:aG)(n:Nat)(a:List aD)(v:aD):(f.sq n (a++[v])).pop=f.sq n a:=by grind[aG.sq,aG.pop]
def I8{V:aC->aK->dV aD}(D:mF W R V){s:aK}{s1:aK}(y:S.op=[115,101,116])(G:S.x_∈P)(H:S.y_≠[])(A:∀k∈S.y_,rE W Wl P X k) (h:gD P U (bC (aF W P X) S.y_ U++[.assign (dY P S.x_) (aA S.y_-1)]) Q f s) (C:eY V S.y_ s=Wj (N,s1)) (u:s1.stop=0):dR R Q f (U+aA (bC (aF W P X) S.y_ U)+1) P (aY,Wl) s (fZ S N s1):=by
 have ⟨h1,h1l⟩:=lE D S.y_ U f s N s1 A {h with code:=h.code.left} C;have I:=h1l u;have q:=(h1.1 u).trans h.f_;have m:s1.g_=P.reverse.zip f.g_:=by rw[AA q,h.zg]
 have ⟨e1,e2,e3⟩:=BM P f.g_ S.x_ h.nodup G h.g_;have E:N≠[]:=(by grind);obtain⟨i,v,rfl⟩:∃i v,N=i++[v]:=by rcases gz N with J|⟨b,x,J⟩;grind;grind
 have z:aA S.y_-1=aA i:=G_;rw[z]at h;have K:=qQ G;generalize w:U+aA (bC (aF W P X) S.y_ U)+1=B;have j:fZ S (i++[v]) s1=(let r:=jQ (f.g_[dY P S.x_]?.getD aY) i v;if r.2=0 then s1.td (λf=>{f with g_:=f.g_.set (dY P S.x_) (((f.g_[dY P S.x_]?.map (·.1)).getD []),r.1)})else {s1 with stop:=r.2}):=by unfold fZ;rw[dy rq,dy rq,ec rq,m,e1];have L:(i++[v]).getLast?.getD aY=v:=s_;have M:(i++[v]).dropLast=i:=(by simp);grind[jQ,jO]
 rw[j];have g:cD R (.assign (dY P S.x_) (aA i)) Q (f.sq B (i++[v])) s1.tape s1.out=(let r:=jQ (f.g_[dY P S.x_]?.getD aY) i v;if r.2=0 then (⟨Q++[{f.sq B []with g_:=f.g_.set (dY P S.x_) r.1}],s1.tape,s1.out⟩,0)else (⟨Q++[f.sq B []],s1.tape,s1.out⟩,r.2)):=by grind[aG.sq,aO,YJ,R8,YL,WW,cD]
 have t:(jQ (f.g_[dY P S.x_]?.getD aY) i v).2≠9:=by grind[jQ,jO,vW]
 simp only at g⊢;generalize jQ (f.g_[dY P S.x_]?.getD aY) i v=r at g t⊢;by_cases F:r.2=0;rw[ec F]at g⊢;rw[<-w]at g⊢;refine mH D (x:=0) A h C i_ u (ea ⟨u,i_,i_,{f.sq (U+aA (bC (aF W P X) S.y_ U)+1) []with g_:=f.g_.set (dY P S.x_) r.1},rfl,?_,rfl,?_,?_,g⟩);simp[aG.sq];grind[gD.g_];unfold aK.td;rw[q];simp[dB,fo,fi,gg,List.getLast?_append,kh,Option.some_or,iu,Option.toList_some,List.dropLast_concat];grind[kS,aG.sq,gD.zg,IP];rw[dy F]at g⊢;rw[<-w]at g⊢;exact mH D (x:=r.2) A h C i_ u (G_)
def MB(fs:List aC)(tg:List eI)(S:aC->aK->dV (aD×Bool)):Prop:=∀(d:Nat) (a:aC) (e_:cU) (p:Nat) (below:List aG) (f:aG) (s:aK) (r:aD×Bool) (s':aK),cO fs d e_ a->qM e_ p (aT fs d e_ a p).1 below f s->S a s=Wj (r,s')->dR tg below f (p+(aT fs d e_ a p).1.length) (cQ e_ a) r s s'
def vF{V:aC->aK->dV aD}{s b:aK}(h:eY V [S] s=Wj (N,b))(c:s.stop=0):∃x,N=[x]:=by grind[eY]
def uN(c:aC->Nat->List aM)(v:aC)(p:Nat):bC c [v] p=c v p:=by simp[bC]
def U6{g:List aC}{V:aC->aK->dV aD}{B:aC->aK->dV (aD × Bool)}(G:mF g R V)(HB:qY g R B):MB g R λn s=>mW V B n s:=by
 intro d a e_ p below f s r s' ha h i;cases d with
 |zero=>exact ha.elim
 |succ d=>
 simp only at i;unfold mW at i;simp only at i
 have j:∀(c:List aM),(aT g (d+1) e_ a p).1=.begin a.l_ e_::c->((s.ry a.l_).stop=0->gD e_ (p+1) c below { f with next:=p+1,l_:=a.l_,e_:=e_ } (s.ry a.l_)->
  dR R below { f with next:=p+1,l_:=a.l_,e_:=e_ } (p+(aT g (d+1) e_ a p).1.length) (cQ e_ a) r (s.ry a.l_) s')->dR R below f (p+(aT g (d+1) e_ a p).1.length) (cQ e_ a) r s s':=λc S k=>by
  rw[S]at h;obtain⟨b1,b2,b3,b4⟩:=zV (tg:=R) h;rw[<-b1,<-b2]at b4;by_cases l:(s.ry a.l_).stop=0
  .refine dR.after (f1:={ f with next:=p+1,l_:=a.l_,e_:=e_ }) rfl rfl ?_ l (G_)
   grind
  grind [dR,cH]
 have T:a.op≠[118,97,114]->cQ e_ a=e_:=(by grind [cQ])
 rcases ha with ⟨l,hb,t,v,w,hv,aj⟩|⟨l,hx,aa,w⟩|⟨l,c,t,w,S,ht⟩|⟨l,c,b,w,S,hb⟩|⟨l,w⟩|⟨l,v,w,hv⟩|⟨l,v,w,hv⟩
 .have C:(aT g (d+1) e_ a p).1=aM.begin a.l_ e_::(aF g e_ d v (p+1)++[aM.declare (aA e_)]):=by rw[aT];grind
  refine j _ C λu hat=>?_
  rw[dy qn,dy me,dy me,dy me,ec me,w]at i
  simp only[List.drop_succ_cons,List.drop_zero]at i;have ab:cQ e_ a=t.x_::e_:=by grind [cQ]
  cases o:eY V [v] (s.ry a.l_)with
  |none=>grind
  |some y=>
   obtain⟨X,s1⟩:=y;rw[o]at i;simp only[fq,gd]at i;obtain⟨rfl,i⟩:=i;obtain⟨x,rfl⟩:=vF o u;have hat':gD e_ (p+1) (bC (aF g e_ d) [v] (p+1)++[.declare (aA e_)]) below { f with next:=p+1,l_:=a.l_,e_:=e_ } (s.ry a.l_):=by rw[uN];exact hat
   have z:∀k∈[v],rE g Wl e_ d k:=(by grind)
   obtain⟨M,N⟩:=lE G [v] (p+1) _ _ _ _ z { hat' with code:=hat'.code.left } o
   have E:p+(aT g (d+1) e_ a p).1.length=p+1+aA (bC (aF g e_ d) [v] (p+1))+1:=by grind [bC]
   rw[E];by_cases e:s1.stop=0
   rotate_left
   .grind [dR.halted,eN]
   rw[ec e]at i;have hfr :=(M.1 e).trans hat.f_;have m:fZ a [x] s1=s1.td λf=>{ f with g_:=f.g_++[(t.x_,x)] }:=by grind [fZ]
   rw[m]at i;subst i;generalize Q:({ f with next:=p+1,l_:=a.l_,e_:=e_ }:aG)=f1 at*
   have hvl :=hat.g_;have ah:aA (f1.g_.take (aA e_)++[x])=aA e_+1:=G_
   refine mH G (x:=0) z hat' o i_ e (ea ⟨e,i_,i_,{ f1.sq (p+1+aA (bC (aF g e_ d) [v] (p+1))+1) []with g_:=f1.g_.take (aA e_)++[x] },rfl,by simp[aG.sq],rfl,?_,?_,?_⟩)
   .grind
   .unfold aK.td;rw[hfr,ab];simp only[dB,fo,fi,gg,List.getLast?_append,kh,Option.some_or,iu,Option.toList_some,List.dropLast_concat];congr 1
    simp only[kS,hat.zg,aG.sq,List.reverse_cons];rw[List.zip_append G_]
    have:=vq e_.reverse f1.g_;rw[List.length_reverse]at this;rw[this];simp
   grind [aO,kJ,lT,cD,aG.sq,aK.td]
 .have C:(aT g (d+1) e_ a p).1=aM.begin a.l_ e_::(bC (aF g e_ d) a.y_ (p+1)++[aM.assign (dY e_ a.x_) (aA a.y_-1)]):=by rw[aT];simp[l]
  refine j _ C λu hat=>?_
  rw[dy qn,dy me,dy me,dy me,dy me]at i
  rw[T G_]
  cases o:eY V a.y_ (s.ry a.l_)with
  |none=>grind
  |some y=>
   obtain⟨X,s1⟩:=y;rw[o]at i;simp[fq,gd]at i;obtain⟨rfl,i⟩:=i;have E:p+(aT g (d+1) e_ a p).1.length=p+1+aA (bC (aF g e_ d) a.y_ (p+1))+1:=G_
   rw[E];by_cases e:s1.stop=0
   .rw[ec e]at i;subst i;exact I8 G l hx aa w hat o e
   rw[dy e]at i;subst i;exact dR.halted (lE G a.y_ (p+1) _ _ _ _ w { hat with code:=hat.code.left } o).1.2 e
 ·-- if
  rw[T G_]at j ⊢
  have ⟨K,C,x,hx1,hx2⟩:∃K,(aT g (d+1) e_ a p).1=aM.begin a.l_ e_::(aF g e_ d c (p+1)++[aM.skip (p+1+aA (aF g e_ d c (p+1))+1+aA (bJ (aT g d) e_ t.y_ (p+1+aA (aF g e_ d c (p+1))+1))+1)]++bJ (aT g d) e_ t.y_ (p+1+aA (aF g e_ d c (p+1))+1)++
        [aM.jump (p+1+aA (aF g e_ d c (p+1))+1+aA (bJ (aT g d) e_ t.y_ (p+1+aA (aF g e_ d c (p+1))+1))+1+aA K)]++K)/\
        ∃x,a.y_=c::t::x/\((x=[]/\K=[])\/∃y,x=[y]/\sj (cO g d) e_ y.y_/\K=bJ (aT g d) e_ y.y_ (p+1+aA (aF g e_ d c (p+1))+1+aA (bJ (aT g d) e_ t.y_ (p+1+aA (aF g e_ d c (p+1))+1))+1)):=by
   rcases w with w|⟨y,w,hy⟩
   .exact⟨[],by rw[aT];grind,[],w,s_⟩
   exact⟨_,by rw[aT];grind,[y],w,dv ⟨y,rfl,hy,rfl⟩⟩
  refine j _ C λu hat=>?_
  rw[dy qn,ec me,hx1]at i
  simp only at i;generalize F:aF g e_ d c (p+1)=H at*;generalize P:bJ (aT g d) e_ t.y_ (p+1+aA H+1)=ct at*;generalize hq:p+1+aA H+1+aA ct+1=q at*;have I:p+(aT g (d+1) e_ a p).1.length=q+aA K:=G_
  rw[I];cases J:kN V c (s.ry a.l_)with
  |none=>grind
  |some y=>
   have ⟨b,s1⟩:=y;rw[J]at i;simp only at i;generalize Q:({ f with next:=p+1,l_:=a.l_,e_:=e_ }:aG)=f1 at*
   have ⟨k1,k2,k3⟩:=xO G (q:=q) S (p:=p+1) (below:=below) (f:=f1) (by rw[F];exact { hat with code:=hat.code.left.left.left }) J
   rw[F]at k2;by_cases e:s1.stop=0
   rotate_left
   .grind [dR,cH]
   rw[dy (by simp[e])]at i
   have D:=hat.code
   have af:eP f1.fn.code (p+1+aA H+1) ct:=by have:=D.left.left.right;grind
   have ad:f1.fn.code[p+1+aA H+1+aA ct]?=Wj (.jump (q+aA K)):=by have:=D.left.right.zd;grind
   have ae:eP f1.fn.code q K:=by have:=D.right;grind
   cases b with
   |true=>
    simp[if_true]at i k2;have U:=HB d t e_ (p+1+aA H+1) below (f1.sq (p+1+aA H+1) []) s1 r s' ht (by grind [gD.st]) i
    rw[P]at U;refine dR.after (f1:=f1.sq (p+1+aA H+1) []) i_ (lK _ _) k2 e ?_;rcases U with ⟨j0,je,f',j1,j2,j3,j4,j5,j6⟩|hh
    .have ac:f'.fn.code[f'.next]?=Wj (.jump (q+aA K)):=by rw[j1,j2];exact ad
     refine ea ⟨j0,je,{ f' with next:=q+aA K },j1,rfl,j3,j4,j5,j6.trans (λ_=>cH.step (jG ac) rfl rfl j0 rfl) Z⟩
    exact dv hh
   |false=>
    simp[jg,if_false]at i k2;refine dR.after (f1:=f1.sq q []) i_ (lK _ _) k2 e ?_;rcases hx2 with ⟨rfl,rfl⟩|⟨y,rfl,hy,ai⟩
    .simp[fq,gd]at i;obtain⟨rfl,rfl⟩:=i;refine ea ⟨e,i_,f1.sq q [],i_,i_,i_,hat.g_,?_,cH.refl _ _ _ e⟩;grind [gD.f_,dB,kS,aG.sq]
    grind [gD.st,qY]
 ·-- while
  rw[T G_]at j ⊢
  have C:(aT g (d+1) e_ a p).1=aM.begin a.l_ e_::(aF g e_ d c (p+1)++[aM.skip (p+1+aA (aF g e_ d c (p+1))+1+aA (bJ (aT g d) e_ b.y_ (p+1+aA (aF g e_ d c (p+1))+1))+1)]++bJ (aT g d) e_ b.y_ (p+1+aA (aF g e_ d c (p+1))+1)++[aM.jump p]):=by rw[aT];grind
  have L:=h.code;refine j _ C λu hat=>?_
  rw[dy qn,dy me,ec me,w]at i
  simp only at i;rw[C]at L;generalize F:aF g e_ d c (p+1)=H at*;generalize P:bJ (aT g d) e_ b.y_ (p+1+aA H+1)=cb at*;generalize hq:p+1+aA H+1+aA cb+1=q at*;have I:p+(aT g (d+1) e_ a p).1.length=q:=G_
  rw[I];cases J:kN V c (s.ry a.l_)with
  |none=>grind
  |some y=>
   have ⟨tt,s1⟩:=y;rw[J]at i;simp only at i;generalize Q:({ f with next:=p+1,l_:=a.l_,e_:=e_ }:aG)=f1 at*
   have ag:f1.fn=f.fn:=G_
   have ⟨k1,k2,k3⟩:=xO G (q:=q) S (p:=p+1) (below:=below) (f:=f1) (by rw[F];exact { hat with code:=hat.code.left.left }) J
   rw[F]at k2;by_cases e:s1.stop=0
   rotate_left
   .grind [iM,dR,cH]
   have o:=FP G HB (f0:=f1) S hb F P hq.symm G_ hat.nodup hat.deep 1000 tt (f1.sq (if tt then p+1+aA H+1 else q) []) s1 r s' rfl (lK _ _) hat.zg hat.g_ k3 e rfl (by grind [gD.f_,dB,kS,aG.sq]) i
   grind [dR.after,aG.sq]
 ·-- return
  rw[T G_]at j ⊢
  rcases w with w|⟨v,w,hv⟩
  .have C:(aT g (d+1) e_ a p).1=aM.begin a.l_ e_::[.push (bB 0),.tj]:=by rw[aT];grind
   refine j _ C λu hat=>?_
   rw[dy qn,dy me,dy me,ec me,w]at i
   simp[eY,fq,gd]at i;obtain⟨rfl,rfl⟩:=i;generalize Q:({ f with next:=p+1,l_:=a.l_,e_:=e_ }:aG)=f1 at*
   refine dv (ea ⟨u,i_,by rw[hat.f_];simp[dB],?_⟩)
   have e1:cH R ⟨below++[f1],(s.ry a.l_).tape,(s.ry a.l_).out⟩ (s.ry a.l_) (s.ry a.l_) ⟨below++[f1.sq (p+1+1) [bB 0]],(s.ry a.l_).tape,(s.ry a.l_).out⟩:=(eN.push (v:=bB 0) hat.code.zd hat.next u i_ (by simp[cD,aO,aG.push,aG.sq])).2
   refine e1.trans (λ_=>cH.step (nH hat.code.tail.zd) i_ ?_ u i_) Z
   simp[cD,tC,aG.sq,aG.last,aY,bB]
  have C:(aT g (d+1) e_ a p).1=aM.begin a.l_ e_::(aF g e_ d v (p+1)++[.tj]):=by rw[aT];grind
  refine j _ C λu hat=>?_
  rw[dy qn,dy me,dy me,ec me,w]at i
  cases o:eY V [v] (s.ry a.l_)with
  |none=>grind
  |some y=>
   have ⟨X,s1⟩:=y;rw[o]at i;simp[fq,gd]at i;obtain⟨rfl,rfl⟩:=i;obtain⟨x,rfl⟩:=vF o u;have hat':gD e_ (p+1) (bC (aF g e_ d) [v] (p+1)++[.tj]) below { f with next:=p+1,l_:=a.l_,e_:=e_ } (s.ry a.l_):=by rw[uN];exact hat
   have ⟨M,N⟩:=lE G [v] (p+1) _ _ _ _ (G_) { hat' with code:=hat'.code.left } o
   by_cases e:s1.stop=0
   .refine dv (ea ⟨e,i_,by rw[M.1 e,hat.f_];simp[dB],M.2.trans (λ_=>cH.step (nH hat'.code.right.zd) rfl ?_ e rfl) Z⟩)
    simp[cD,tC,aG.sq,aG.last]
   exact dR.halted M.2 e
 ·-- print
  rw[T G_]at j ⊢
  have C:(aT g (d+1) e_ a p).1=aM.begin a.l_ e_::(aF g e_ d v (p+1)++[.print]):=by rw[aT];grind
  refine j _ C λu hat=>?_
  rw[dy qn,dy me,dy me,dy me,dy me,w]at i
  cases o:eY V [v] (s.ry a.l_)with
  |none=>grind
  |some y=>
   have ⟨X,s1⟩:=y;rw[o]at i;simp[fq,gd]at i;obtain⟨rfl,i⟩:=i;obtain⟨x,rfl⟩:=vF o u;have hat':gD e_ (p+1) (bC (aF g e_ d) [v] (p+1)++[.print]) below { f with next:=p+1,l_:=a.l_,e_:=e_ } (s.ry a.l_):=by rw[uN];exact hat
   have z:∀k∈[v],rE g Wl e_ d k:=(by grind)
   have ⟨M,N⟩:=lE G [v] (p+1) _ _ _ _ z { hat' with code:=hat'.code.left } o
   have E:p+(aT g (d+1) e_ a p).1.length=p+1+aA (bC (aF g e_ d) [v] (p+1))+1:=by grind [bC]
   rw[E];by_cases e:s1.stop=0
   rotate_left
   .grind [dR.halted,eN]
   rw[ec e]at i;have m:fZ a [x] s1=if aA s1.out=50 then { s1 with stop:=8 } else { s1 with out:=s1.out++[jX x] }:=by grind [fZ]
   rw[m]at i;by_cases W:aA s1.out=50
   .rw[ec W]at i;subst i;refine mH G (x:=8) z hat' o i_ e (dv ⟨i_,d_,d_,?_⟩)
    grind [cD,lT]
   rw[dy W]at i;subst i;refine mH G (x:=0) z hat' o i_ e (ea ⟨e,i_,i_,aG.sq { f with next:=p+1,l_:=a.l_,e_:=e_ } (p+1+aA (bC (aF g e_ d) [v] (p+1))+1) [],rfl,lK _ _,rfl,hat.g_,?_,?_⟩)
   .rw[M.1 e,hat.f_];simp[dB,kS,aG.sq]
   grind [cD,lT,kJ]
 rw[T G_]at j ⊢
 have C:(aT g (d+1) e_ a p).1=aM.begin a.l_ e_::(aF g e_ d v (p+1)++[.drop]):=by rw[aT];grind
 refine j _ C λu hat=>?_
 rw[dy qn,dy me,dy me,dy me,dy me,w]at i
 cases o:eY V [v] (s.ry a.l_)with
 |none=>grind
 |some y=>
  have ⟨X,s1⟩:=y;rw[o]at i;simp[fq,gd]at i;obtain⟨rfl,i⟩:=i;obtain⟨x,rfl⟩:=vF o u;have hat':gD e_ (p+1) (bC (aF g e_ d) [v] (p+1)++[.drop]) below { f with next:=p+1,l_:=a.l_,e_:=e_ } (s.ry a.l_):=by rw[uN];exact hat
  have z:∀k∈[v],rE g Wl e_ d k:=(by grind)
  have ⟨M,N⟩:=lE G [v] (p+1) _ _ _ _ z { hat' with code:=hat'.code.left } o
  have E:p+(aT g (d+1) e_ a p).1.length=p+1+aA (bC (aF g e_ d) [v] (p+1))+1:=by grind [bC]
  rw[E];by_cases e:s1.stop=0
  rotate_left
  .grind [dR.halted,eN]
  rw[ec e]at i;have m:fZ a [x] s1=s1:=by grind [fZ]
  rw[m]at i;subst i;refine mH G (x:=0) z hat' o i_ e (ea ⟨e,i_,i_,aG.sq { f with next:=p+1,l_:=a.l_,e_:=e_ } (p+1+aA (bC (aF g e_ d) [v] (p+1))+1) [],rfl,lK _ _,rfl,hat.g_,?_,?_⟩)
  .rw[M.1 e,hat.f_];simp[dB,kS,aG.sq]
  grind [aO,lT,cD]
def wo{p:Nat}(h:cO W X P S):(aT W X P S p).2=cQ P S:=(pU W X P S (λ_ _=>False) p h ⟨s_,s_⟩).2.1
def JK(h:cO W X P S)(e:P.Nodup):(cQ P S).Nodup:=by
 unfold cQ;split;cases X with|zero=>exact h.elim|succ X=>grind[cO]
 exact Z
def qZ(b:cU)(a:aC):∃n,cQ b a=n++b:=by unfold cQ;split;simp;simp
def OV{S:aC->aK->dV (aD×Bool)}(F:MB W R S):∀(l:List aC) (c:cU) (p:Nat) (f:aG) (s:aK) (r:aD×Bool) (n:aK),sj (cO W X) (c++P) l->qM (c++P) p (bJ (aT W X) (c++P) l p) Q f s->oC S (aA P) l s=Wj (r,n)->dR R Q f (p+aA (bJ (aT W X) (c++P) l p)) P r s n
 |[],c,p,f,s,r,n,_,h,k=>by obtain⟨rfl,rfl⟩:=k;have L:=h.g_;rw[et]at L;refine ea ⟨h.stop,i_,f,i_,by simp[bJ,h.next],rfl,Z,?_,ea ⟨h.stop,[],by simp[aK.td],mO.refl _ _⟩⟩;unfold aK.td;rw[h.f_];grind[kS,List.zip_eq_zipWith,vq]|a::l,c,p,f,s,r,n,w,h,k=>by
  rw[oC]at k;have z:=wo (p:=p) w.1;cases C:S a s with|none=>grind|some y=>
   obtain⟨⟨v,e⟩,E⟩:=y;rw[C]at k;simp at k;have x:=h.code;rw[bJ,z]at x;have I:=F X a (c++P) p Q f s (v,e) E w.1 {h with code:=x.left} C;have q:p+aA (bJ (aT W X) (c++P) (a::l) p)=p+(aT W X (c++P) a p).1.length+aA (bJ (aT W X) (cQ (c++P) a) l (p+(aT W X (c++P) a p).1.length)):=by grind[bJ]
   rw[q];rcases I with ⟨u,B,J,H,K,N,G,A,D⟩|⟨u,B,A,D⟩|⟨u,D⟩;obtain⟨rfl,rfl⟩:=gh B;rw[dy qn]at k;have ⟨n',hn'⟩:=qZ (c++P) a;have j:cQ (c++P) a=(n'++c)++P:=G_;have o:=w.2;have t:=JK w.1 h.nodup;rw[j]at o G A t x⊢;have M:=OV F l (n'++c) (p+(aT W X (c++P) a p).1.length) J E r n o ⟨by rw[H];exact x.right,K,t,G,u,A,h.deep⟩ k;grind[dR.after];grind[dR];grind[dR]
def Ph{S:aC->aK->dV (aD×Bool)}(l:MB W R S):qY W R λn s=>oC S (aA s.g_) n.y_ s:=by
 intro d b c p e f s r j m h g;simp at g;have k:aA s.g_=aA c:=by unfold aK.g_;rw[h.f_];grind[kS,qM.g_]
 rw[k]at g;exact OV l b.y_ [] p f s r j m h g
def LC{fs:List aC}{D:Nat}(a:∀f∈fs,gY fs D f):∀g,mF fs (dW fs D) (nN fs g).1/\qY fs (dW fs D) (nN fs g).2|0=>(by grind[nN,mF,qY])|g+1=>by obtain⟨c,b⟩:=LC a g;exact⟨Se a c b,Ph (U6 c b)⟩
def J3(j:∀f∈W,gY W X f)(J:gC W (dU W [109,97,105,110])=Wj 0){l:List fO}(h:sY W U T=Wj l):oA (dW W X) (kG W X T) 0 l:=by
 have ⟨F,hF,hFm,hFk⟩:=vE J;have ⟨⟨ps,b,hk,hb,hnd⟩,hl⟩:=j F hFm;have s:ps=[]:=by rw[hk]at hFk;simp at hFk;exact hFk
 subst s;rw[ik]at hk;unfold sY kA at h;rw[dy d_,dy d_]at h;simp only[fh]at h;rw[dy d_,hF]at h;simp[hk,kh,jf,List.zip_nil_right,ik]at h;cases x:(nN W U).2 b ⟨[⟨[109,97,105,110],0,[]⟩],T,[],[],0⟩with|none=>grind|some y=>
  have ⟨⟨v,e⟩,s1⟩:=y;rw[x]at h;simp[fq]at h;have u:(fP W X F).code=bJ (aT W X) [] b.y_ 0++[.push (bB 0),.tj]:=by simp[fP,hk]
  have d:(fP W X F).name=[109,97,105,110]:=CF hF;have r:kG W X T=⟨[]++[⟨fP W X F,0,0,[],[],[]⟩],T,[]⟩:=by grind[kG,OT]
  have A:=(LC j U).2 X b [] 0 [] ⟨fP W X F,0,0,[],[],[]⟩ ⟨[⟨[109,97,105,110],0,[]⟩],T,[],[],0⟩ (v,e) s1 hb ⟨by grind[eP],rfl,s_,s_,rfl,by simp[dB,kS,d],s_⟩ x;rw[r];have i:∀t o n,s1.stop=0->s1.f_.dropLast=dB []->t=s1.tape->o=s1.out->n=aA s1.sf->mO (dW W X) ⟨[]++[⟨fP W X F,0,0,[],[],[]⟩],T,[]⟩ 0 s1.sf ⟨[],t,o⟩ n->oA (dW W X) ⟨[]++[⟨fP W X F,0,0,[],[],[]⟩],T,[]⟩ 0 l:=λt o n q z K M N H=>by refine⟨_,_,_,_,H,.done,?_⟩;grind[aK.notes,uf,dB,aK.g_]
  rcases A with ⟨q,B,f',z,P,L,Q,C,m⟩|⟨q,B,C,m⟩|⟨q,m⟩
  .have E:f'.fn.code[f'.next]?=Wj (.push (bB 0)):=by grind
   have G:f'.fn.code[f'.next+1]?=Wj .tj:=by grind
   rcases m with ⟨_,w,m1,p⟩|⟨k,_⟩
   .simp only[ik,fh]at m1 p;subst m1;refine i s1.tape s1.out (aA s1.sf) q G_ rfl rfl rfl ?_;have I:mO (dW W X) ⟨[]++[f'],s1.tape,s1.out⟩ (aA s1.sf) [] ⟨[],s1.tape,s1.out⟩ (aA s1.sf):=by refine .step (jG E) i_ (m1:=⟨[]++[aG.push {f' with next:=f'.next+1} (bB 0)],s1.tape,s1.out⟩) rfl ?_;exact .step (jG (f:=aG.push {f' with next:=f'.next+1} (bB 0)) G) rfl rfl (.refl _ _)
    have:=p.trans I;grind
   exact Z
  rcases m with ⟨_,w,m1,p⟩|⟨k,_⟩;grind[tC];exact Z;rcases m ⟨[],[],[]⟩with ⟨k,_⟩|⟨_,w,m1,p⟩;exact Z;grind[aK.final]
def tP:∀(k:Nat) (m:cY) (n:Nat) (p:List fO) (r:cY×Nat),fB R k m=Wj r->oA R m n p->∃a,p=uf r.1 (cC n r.2)::a/\(cC n r.2=0->oA R r.1 (n+1) a)/\(cC n r.2≠0->a=[])
 |0,_,_,_,_,h,_=>by simp[fB]at h|k+1,m,n,p,r,h,w=>by
  obtain⟨C,B,v,x,y,A,rfl⟩:=w;cases y with
  |refl=>
   cases A with
   |@stop b f g t o i l _ u e c z=>
    rw[fB]at h;simp only[nE,e,pJ,c]at h;rw[ec z]at h;cases h;have:cC n u=u:=by grind[cC]
    rw[this];exact⟨[],i_,Z,s_⟩|done=>
    cases h;have:cC n 1=1:=by grind[cC]
    rw[this];simp|@fuel b f g t o i l e j c=>rw[fB]at h;simp only[nE,e,pJ,c]at h;rw[dy s_,ec j]at h;cases h;have:cC 500 0=9:=rfl;rw[this];simp
  |@step b f g t o i l _ _ _ _ e j c q=>rw[fB]at h;simp only[nE,e,pJ,c]at h;rw[dy s_,j]at h;exact tP k l n _ r h (by grind[oA])|@wu b f g t o i l _ _ _ s e j c D q=>
   rw[fB]at h;simp only[nE,e,pJ,c]at h;rw[dy s_,ec j]at h;cases h;have:cC n 0=0:=by grind[cC]
   rw[this];exact⟨s++[x],i_,(by grind[oA]),Z⟩
def Lu:∃k:Nat,16*320000+2<=k:=⟨_,kB⟩
noncomputable def oL:Nat:=Classical.choose Lu
def N_:16*320000+2<=oL:=(by grind[oL])
noncomputable def iC(tg:List eI)(m0:cY):Nat->Option bL|0=>(fB tg oL m0).map λr=>⟨0,r.1,cC 0 r.2⟩|t+1=>match iC tg m0 t with|none=>Wk|some s=>if s.stop=0 then (fB tg oL s.m).map λr=>⟨t+1,r.1,cC (t+1) r.2⟩else Wk
structure MA(ar:Nat->Option Nat)(s:bL):Prop where
 told:∀x∈s.m.f_,aA x.e_<=aA x.g_
 deep:aA s.m.f_<=16
 ok:s.stop=0->iT ar s.m/\s.m.f_≠[]
 m_:s.m_<=500
def D9(h:iT E F):∃k,pA F.f_<=aA F.f_*k/\k=320000:=by
 have a:∀f∈F.f_,mU f<=320000:=λf e=>by
  have n:aA f.fn.code<=80000:=by rcases gz F.f_ with c|⟨b,x,c⟩;grind;have j:=h.ok.low;have g:=h.ok.top x G_;grind[eQ.code,oX.len]
  grind[mU]
 have:∀l:List aG,(∀f∈l,mU f<=320000)->pA l<=aA l*320000:=by intro l;induction l with|nil=>simp[pA]|cons x l i=>grind[pA]
 grind
def pQ(c:mY E R)(h:iT E F):∃r,fB R oL F=Wj r/\DO E r:=pR c oL F h (by obtain⟨k,e,d⟩:=D9 h;have f:=iw k h.ok.deep;have:=N_;exact Z)
def AI(g:mY E R)(j:iT E F):∀(t:Nat) (s:bL),iC R F t=Wj s->MA E s/\s.m_=t
 |0,s,h=>by obtain⟨r,i,c⟩:=pQ g j;simp [iC,i,iu]at h;subst h;exact⟨⟨c.told,c.deep,(by grind[DO.ok,cC]),s_⟩,rfl⟩|t+1,s,h=>by
  rw[iC]at h;cases b:iC R F t with|none=>grind|some m=>
   rw[b]at h;simp only at h;obtain⟨k,v⟩:=AI g j t m b;split at h;rename_i o;obtain⟨r,i,c⟩:=pQ g (k.ok o).1;rw[i]at h;simp at h;subst h;refine⟨⟨c.told,c.deep,(by grind[DO.ok,cC]),?_⟩,rfl⟩;have n:t≠500:=by
    intro e;cases t with|zero=>simp at e|succ u=>
     rw[iC]at b;cases p:iC R F u with|none=>grind|some l=>
      rw[p]at b;simp only at b;split at b;cases q:fB R oL l.m with|none=>grind|some w=>grind[cC]
      grind
   grind[MA.m_];cases h
def wO(e:mY E R)(i:iT E F){l:List fO}(p:oA R F 0 l):∀t,(t<aA l->∃s,iC R F t=Wj s/\l[t]?=Wj (uf s.m s.stop)/\∃d,l=d++l.drop (t+1)/\(s.stop=0->oA R s.m (t+1) (l.drop (t+1)))/\(s.stop≠0->l.drop (t+1)=[]))/\(aA l<=t->iC R F t=Wk)
 |0=>by obtain⟨r,f,y⟩:=pQ e i;obtain⟨b,n,u,w⟩:=tP oL F 0 l r f p;refine⟨λ_=>⟨⟨0,r.1,cC 0 r.2⟩,by simp[iC,f],G_,[uf r.1 (cC 0 r.2)],G_,G_,G_⟩,λh=>?_⟩;grind|t+1=>by
  obtain⟨x,A⟩:=wO e i p t;by_cases g:t<aA l;obtain⟨s,v,B,d,D,q,C⟩:=x g;have k:=(AI e i t s v);by_cases o:s.stop=0;obtain⟨r,f,y⟩:=pQ e (k.1.ok o).1;obtain⟨b,n,u,w⟩:=tP oL s.m (t+1) _ r f (q o);have j:iC R F (t+1)=Wj ⟨t+1,r.1,cC (t+1) r.2⟩:=by grind[iC]
  have z:l.drop (t+2)=b:=by have:=ey (List.drop 1) n;grind[List.drop_drop]
  refine⟨λ_=>⟨_,j,?_,l.take (t+2),s_,G_,G_⟩,λh=>?_⟩;grind;grind;grind[iC];grind[iC]
def Nd(s:cU):Prop:=s.Nodup/\aA s<=40001
def Nd.nil:Nd []:=(by grind[Nd])
def dC(c:List aM):Prop:=∀l s,aM.begin l s∈c->Nd s
def dC.app(h:dC I)(k:dC l):dC (I++l):=(by grind[dC])
def dC.one(h:i.sd=Wl):dC [i]:=(by grind[dC,aM.sd])
def dC.nil:dC []:=λl s a=>by cases a
theorem AK{c:aC->Nat->List aM}(b:∀a p,dC (c a p)):∀(l:List aC) (p:Nat),dC (bC c l p)|[],_=>dC.nil|a::l,p=>(b a p).app (AK b l _)
def mJ[Decidable c](h:dC I)(k:dC l):dC (if c then I else l):=G_
def tE(e:List aC)(b:cU):∀(d:Nat) (a:aC) (p:Nat),dC (aF e b d a p)|0,_,_=>dC.nil|d+1,a,p=>by have c:=AK (tE e b d) a.y_ p;have o:∀i:aM,i.sd=Wl->dC [i]:=λi h=>dC.one h;refine mJ (o _ i_) (mJ (o _ i_) (mJ (o _ i_) (mJ (o _ i_) (mJ (c.app (o _ i_)) (mJ (c.app (o _ i_)) (mJ (c.app (o _ i_)) (mJ (c.app (o _ i_)) (mJ (c.app (o _ ?_)) (mJ ?_ (c.app (o _ i_)))))))))));grind[aM.sd];split;exact(((tE e b d _ _).app (o _ i_)).app (tE e b d _ _)).app (o _ i_);exact dC.nil
def p9(fs:List aC)(d:Nat):Prop:=∀(e_:cU) (a:aC) (p:Nat),cO fs d e_ a->Nd e_->dC (aT fs d e_ a p).1/\Nd (aT fs d e_ a p).2
def AG(f:p9 W X):∀(l:List aC) (b:cU) (p:Nat),sj (cO W X) b l->Nd b->dC (bJ (aT W X) b l p)|[],_,_,_,_=>dC.nil|a::l,b,p,h,g=>by obtain⟨i,e⟩:=f b a p h.1 g;have h3:=(pU W X b a (λ_ _=>False) p h.1 ⟨s_,s_⟩).2.1;refine i.app ?_;rw[h3]at e⊢;exact AG f l _ _ h.2 e
def OZ(i:List aC):∀d,p9 i d|0=>λ_ _ _ h _=>h.elim|d+1=>by intro e a p h k;have m:=tE i e d;have r:∀(b:aC) q,sj (cO i d) e b.y_->dC (bJ (aT i d) e b.y_ q):=λb q j=>AG (OZ i d) b.y_ e q j k;rcases h with ⟨f,o,t,v,g,_,n⟩|⟨f,_⟩|⟨f,c,t,g,_,l⟩|⟨f,c,b,g,_,j⟩|⟨f,g⟩|⟨f,v,g,_⟩|⟨f,c,g,_⟩;grind[aT,dC,Nd];grind[aT,AK,dC];grind[aT,dC];grind[aT,dC];grind[aT,dC];grind[aT,dC];grind[aT,dC]
theorem Na(h:gY W X S)(e:aA S.y_<=40000):dC (fP W X S).code:=by
 have ⟨⟨ps,b,hk,hb,hn⟩,_⟩:=h;have a:(fP W X S).code=bJ (aT W X) (ps.map (·.x_)).reverse b.y_ 0++[.push (bB 0),.tj]:=by simp[fP,hk]
 rw[a];exact(AG (OZ W X) b.y_ _ 0 hb (by grind[Nd])).app ((by grind[dC]))
def oB(m:cY):Prop:=∀f∈m.f_,Nd f.e_/\dC f.fn.code
theorem NM(i:aM)(f:aG)(a:Nd f.e_)(b:∀l s,i=.begin l s->Nd s):Nd (aO i f).1.e_:=by cases i with|begin l s=>exact b l s i_|_=>simp [aO]<;>(repeat' split)<;>exact a
def Ig(r:∀f∈R,dC f.code)(h:oB ⟨Q++[f],T,P⟩)(w:i∈f.fn.code)(k:Nat):oB (cD R i Q {f with next:=k} T P).1:=by
 have u:∀x∈Q,Nd x.e_/\dC x.fn.code:=(by grind[oB]);have j:=h f s_;have d:∀(y:aG) g q,Nd y.e_->y.fn=f.fn->oB ⟨Q++[y],g,q⟩:=(by grind[oB]);by_cases z:i=.tj;rcases gz Q with rfl|⟨s,x,rfl⟩;grind[cD,oB];intro y m;simp[cD]at m;grind[aG.push];by_cases p:i=.read;subst p;cases T with|nil=>exact d _ _ _ j.1 i_|cons a g=>exact d _ _ _ j.1 i_
 by_cases v:i=.print;grind[cD,aG.pop];by_cases l:∃c n,i=.call c n;grind[cD,oB,Nd,dC,aG.p_];grind[oT,NM,jT,dC]
theorem DX(e:∀f∈R,dC f.code):∀(k:Nat) (m:cY) (r:cY×Nat),oB m->fB R k m=Wj r->oB r.1
 |0,_,_,_,h=>by simp[fB]at h|k+1,⟨l,t,o⟩,r,q,h=>by
  by_cases c:l=[];grind[fB];obtain⟨b,f,rfl⟩:=pH c;rw[fB]at h;simp only[nE,pJ]at h;cases n:f.su with|none=>grind|some j=>
   obtain⟨i,g⟩:=j;rw[n]at h;simp only at h;obtain⟨rfl,p⟩:g={f with next:=f.next+1}/\i∈f.fn.code:=by grind[aG.su]
   have d:=Ig e q p (f.next+1);split at h;grind;split at h;grind;exact DX e k _ r d h
def JG(d:∀f∈W,gY W X f)(k:∀f∈W,aA f.y_<=40000)(a:List Int):∀(t:Nat) (s:bL),iC (dW W X) (kG W X a) t=Wj s->oB s.m:=by
 have g:∀f∈dW W X,dC f.code:=(by grind[dW,Na]);intro t;induction t with
 |zero=>intro s h;rw[iC]at h;cases c:fB (dW W X) oL (kG W X a)with|none=>grind|some r=>rw[c]at h;cases h;refine DX g _ _ _ (λf j=>?_) c;grind[kG,Nd,dC]
 |succ t l=>
  intro s h;rw[iC]at h;cases i:iC (dW W X) (kG W X a) t with|none=>grind|some e=>
   rw[i]at h;simp only at h;split at h;cases c:fB (dW W X) oL e.m with|none=>grind|some r=>grind[DX]
   cases h
def M2:Nat->aD->Prop|0,_=>True|d+1,v=>(-9223372036854775808<=v.n/\v.n<=9223372036854775807)/\(v.c_=2->v.l=[])/\∀x∈v.l,M2 d x
structure dX(v:aD):Prop where
 all:∀d,M2 d v
def dX.fit{v:aD}(h:dX v):nM v:=by refine⟨λd=>?_⟩;have:=h.all d;induction d generalizing v with|zero=>trivial|succ d b=>exact⟨this.1.1,this.1.2,λx a=>b ⟨λe=>(h.all (e+1)).2.2 x a⟩ (this.2.2 x a)⟩
theorem dX.uu(h:dX e)(a:b∈e.l):dX b:=⟨λd=>(h.all (d+1)).2.2 b a⟩
theorem dX.mk'(h:-9223372036854775808<=e.n/\e.n<=9223372036854775807)(a:e.c_=2->e.l=[])(b:∀x∈e.l,dX x):dX e:=⟨λd=>by cases d with|zero=>trivial|succ d=>grind[dX.all,M2]⟩
theorem dX.flat{v:aD}(h:-9223372036854775808<=v.n/\v.n<=9223372036854775807)(a:v.l=[]):dX v:=(by grind[dX.mk'])
theorem mI:dX aY:=.flat d_ rfl
theorem yD(b:Bool):dX (cF b):=(by grind[dX.flat,cF])
theorem EC(s:bS):dX (bT s):=.flat (by simp[bT]) rfl
theorem ED(h:∀x∈N,dX x):dX (bH N):=.mk' (by simp[bH]) (by simp[bH]) h
theorem PS(n:Int):dX (bB (pB n)):=(by grind[dX.flat,pB,bB])
def S_:dX (dF x e).1:=by grind[dF,PS,yD,mI]
def RC(h:dX e)(d:dX b):dX (dH x e b).1:=by
 unfold dH jJ iK;repeat'(first|split|dsimp only;split)
 all_goals first|exact yD _|exact mI|exact PS _|exact EC _|grind[ED,dX.uu]
def XK(h:dX e):dX (bY e b).1:=by grind[bY,mI,kU,EC,dX.uu]
theorem SS(h:(dO e).1.n<=9223372036854775807):dX (dO e).1:=by grind[dO,dX.flat,bB,aY]
def zB:∀(l:List aD){a v:aD},dX a->dX v->dX (cI l a v).1
 |[],_,_,_,h=>h|i::l,a,v,c,d=>by
  unfold cI;repeat' split
  exact mI;exact mI;exact mI;refine ED λx b=>?_;rcases List.mem_or_eq_of_mem_set b with b|rfl;exact c.uu b;refine zB l ?_ d;grind[dX.uu]
structure DT(s:aK):Prop where
 fr:aA s.f_<=16
 mo:aA s.sf<=501
 va:aA s.g_<=50000
structure sk(k:Nat)(e_:cU)(s:aK):Prop where
 stop:s.stop=0
 names:∃fr f,s.f_=fr++[f]/\f.g_.map (·.1)=e_.reverse
 deep:aA s.f_+k=16
 sf:aA s.sf<=500
 sl:aA e_<=50000
theorem sk.bd{k:Nat}{e_:cU}{s:aK}(h:sk k e_ s):DT s:=by have ⟨fr,f,hf,hv⟩:=h.names;refine⟨by have:=h.deep;exact Z,by have:=h.sf;exact Z,?_⟩;have:=ey List.length hv;grind[sk.sl,aK.g_]
structure eC(s s':aK):Prop where
 le:aA s.sf<=aA s'.sf
 bd:DT s'
 go:s'.stop=0->s'.f_=s.f_/\aA s'.sf<=500
theorem eC.refl{s:aK}(h:aA s.sf<=500)(a:DT s):eC s s:=⟨Z,a,G_⟩
theorem eC.or{s a:aK}(h:eC s a)(n:Nat):eC s (a.or n):=by unfold aK.or;split;exact⟨h.le,⟨h.bd.fr,h.bd.mo,h.bd.va⟩,G_⟩;exact h
theorem eC.trans{s b c:aK}(h:eC s b)(d:b.stop=0)(a:eC b c):eC s c:=⟨em h.le a.le,a.bd,λe=>⟨(a.go e).1.trans (h.go d).1,(a.go e).2⟩⟩
theorem sk.next{s b:aK}(h:sk X P s)(f:eC s b)(e:b.stop=0):sk X P b:=⟨e,by grind[eC.go,sk.names],by rw[(f.go e).1];exact h.deep,(f.go e).2,h.sl⟩
def pM(fs:List aC)(D g:Nat)(V:aC->aK->dV aD):Prop:=∀(k d:Nat) (e_:cU) (n:aC) (s:aK),rE fs Wl e_ d n->sk k e_ s->k*(D+2)+d<=g->∃v s',V n s=Wj (v,s')/\eC s s'
structure fD(e_:cU)(s s':aK)(e:Bool):Prop where
 le:aA s.sf<=aA s'.sf
 bd:DT s'
 go:s'.stop=0->aA s'.sf<=500/\∃fr f f',s.f_=fr++[f]/\s'.f_=fr++[f']/\f'.name=f.name/\(e=Wl->f'.g_.map (·.1)=e_.reverse)
def GB(fs:List aC)(D g:Nat)(B:aC->aK->dV (aD×Bool)):Prop:=∀(k d:Nat) (e_:cU) (b:aC) (s:aK),sj (cO fs d) e_ b.y_->sk k e_ s->k*(D+2)+d+1<=g->∃v e s',B b s=Wj ((v,e),s')/\fD e_ s s' e
theorem wB:∀(l m:List g) (k:List j),aA l=aA k->(l++m).zip k=l.zip k|[],m,[],_=>by simp|a::l,m,b::k,h=>by simp[wB l m k G_]
section
variable {fs:List aC} {D g:Nat} {V:aC->aK->dV aD} {B:aC->aK->dV (aD × Bool)}
def lW(m:pM fs D g V){k d:Nat}{e_:cU}(f:k*(D+2)+d<=g):∀(l:List aC) (s:aK),(∀a∈l,rE fs Wl e_ d a)->sk k e_ s->∃c b,eY V l s=Wj (c,b)/\eC s b/\(b.stop=0->aA c=aA l)|[],s,_,h=>⟨[],s,rfl,.refl h.sf h.bd,Z⟩|a::l,s,q,h=>by obtain⟨v,e,n,i⟩:=m k d e_ a s (G_) h f;unfold eY;rw[dy (by simp[h.stop]),n];by_cases j:e.stop=0;obtain⟨c,o,p,r,t⟩:=lW m f l e (G_) (h.next i j);grind[eC.trans];refine⟨[v],e,?_,i,Z⟩;cases l<;>simp[eY,j]
theorem tQ(u:GB fs D g B)(h:∀f∈fs,gY fs D f){k:Nat}{s:aK}(A:s.stop=0)(G:aA s.f_+k=16)(E:aA s.sf<=500)(c:DT s)(m:∀f∈fs,aA f.y_<=40000)(H:k*(D+2)<=g)(x:bS)(l:List aD)(C:x=[108,101,110]\/x=[114,101,97,100]\/gC fs (dU fs x)=Wj (aA l)):∃v d,kA fs B x l s=Wj (v,d)/\eC s d:=by
 unfold kA;split;grind[eC.or,eC.refl];split;cases s.tape with|nil=>grind[eC.or,eC.refl]|cons t r=>exact⟨_,_,i_,s_,⟨c.fr,c.mo,c.va⟩,G_⟩
 split;grind[eC.or,eC.refl];rename_i y i K;have ⟨f,hf,hmm,hn⟩:=vE (C.resolve_left (by simpa using y) |>.resolve_left (by simpa using i));obtain⟨p,b,q,o,-⟩:=(h f hmm).y_;obtain⟨k,rfl⟩:∃j,k=j+1:=⟨k-1,Z⟩;rw[hf];have ⟨v,e,d,he,hF⟩:=u k D (p.map (·.x_)).reverse b {s with f_:=s.f_++[⟨x,0,(f.y_.map (·.x_)).zip l⟩]} o ⟨A,(by grind[wB,List.map_fst_zip]),G_,E,G_⟩ G_;simp [q,Option.some_or]at he⊢;rw[he];refine⟨v,_,i_,?_,?_,?_⟩;split<;>exact hF.le;split;rename_i n;obtain⟨z,J,a,I,w,F,-⟩:=hF.go n;obtain⟨rfl,-⟩:=fw w rfl;exact⟨G_,hF.bd.mo,by simpa [aK.g_,F]using c.va⟩;exact hF.bd;grind[fD.go,List.append_inj']
def NU(i:GB fs D g B)(e:∀f∈fs,gY fs D f){k:Nat}{s:aK}(j:s.stop=0)(h:aA s.f_+k=16)(c:aA s.sf<=500)(a:DT s)(d:∀f∈fs,aA f.y_<=40000)(m:k*(D+2)<=g)(n:aC)(l:List aD) (o:n.op=[99,97,108,108]->n.x_=[108,101,110]\/n.x_=[114,101,97,100]\/gC fs (dU fs n.x_)=Wj (aA l)):∃v b,jC fs B n l s=Wj (v,b)/\eC s b:=by unfold jC;split;grind[eC.or,eC.refl];split;grind[tQ];split;grind[eC.or,eC.refl];split<;>exact⟨_,_,i_,(eC.refl c a).or _⟩
def KL(f:pM fs D g V){k d:Nat}{c:cU}(i:k*(D+2)+d<=g)(or:Bool){a b:aC}{s:aK}(h:sk k c s)(j:rE fs Wl c d a)(m:rE fs Wl c d b):∃v e,mK V or a b s=Wj (v,e)/\eC s e:=by have ⟨v,s1,e1,f1⟩:=f k d c a s j h i;unfold mK;simp [e1];split;grind[eC.or];have l:s1.stop=0:=Z;split;grind;have ⟨u,s2,e2,f2⟩:=f k d c b s1 m (h.next f1 l) i;grind[eC.or,eC.trans]
def IV(A:pM fs D g V)(E:GB fs D g B)(u:∀f∈fs,gY fs D f)(t:∀f∈fs,aA f.y_<=40000):pM fs D (g+1) λn s=>gF fs V B n s:=by
 intro k d m n s z h M;cases d with|zero=>exact z.elim|succ d=>
  have p:=eC.refl h.sf h.bd;have j:k*(D+2)+d<=g:=Z;have c:(n.op≠[48]/\n.op≠[115]/\n.op≠[98,111,111,108]/\n.op≠[110,97,109,101]/\n.op≠[124,124]/\n.op≠[38,38])->(∀a∈n.y_,rE fs Wl m d a)->(n.op=[99,97,108,108]->n.x_=[108,101,110]\/n.x_=[114,101,97,100]\/gC fs (dU fs n.x_)=Wj (aA n.y_))->∃v q,gF fs V B n s=Wj (v,q)/\eC s q:=by rintro⟨G,C,J,F,H,K⟩ i L;have ⟨vs,s1,e1,f1,f2⟩:=lW A j n.y_ s i h;unfold gF;simp [G,C,J,F,H,K,e1];by_cases x:s1.stop=0;have o:=h.next f1 x;have ⟨v,s2,e2,f3⟩:=NU E u o.stop o.deep o.sf o.bd t Z n vs G_;grind[eC.trans];exact⟨_,_,by simp[x];rfl,f1⟩
  rcases z with ⟨b|b|b,-⟩|⟨b,-,-⟩|⟨b,i⟩|⟨b,l,r,i,w,y⟩|⟨b,l,i,w⟩|⟨b,i,L⟩|⟨b,l,r,i,w,y⟩;exact⟨_,_,re,p⟩;exact⟨_,_,re,p⟩;exact⟨_,_,re,p⟩;exact⟨_,_,re,p⟩;exact c rm i rm;exact c rm G_ rm;exact c G_ G_ G_;exact c rm i G_;by_cases I:n.op=[124,124]\/n.op=[38,38];have ⟨v,q,e,f⟩:=KL A j (n.op==[124,124]) h w y;grind[gF];refine c ?_ G_ ?_;grind[cR];grind[cR]
def pK(s:aK)(n:Nat):(s.ry n).sf.length=aA s.sf+1:=by grind[aK.ry,aK.notes,aK.td]
def vD{k:Nat}{a:cU}{s:aK}(h:sk k a s)(n:Nat):DT (s.ry n):=by
 have ⟨fr,f,hf,hv⟩:=h.names;have c:=pK s n;have e:=h.sf;have d:=h.bd.va;have b:(s.ry n).f_=fr++[{f with l_:=n}]:=by grind[aK.ry,aK.notes,aK.td]
 refine⟨by grind[sk.deep],Z,?_⟩;grind[aK.g_]
def rT{k:Nat}{a:cU}{s:aK}(h:sk k a s){n:Nat}(c:(s.ry n).stop=0):sk k a (s.ry n)/\fD a s (s.ry n) Wl:=by
 have ⟨fr,f,hf,hv⟩:=h.names;have e:=pK s n;have g:aA s.sf≠500:=by grind[aK.ry,aK.notes]
 have b:(s.ry n).f_=fr++[{f with l_:=n}]:=by grind[aK.ry,aK.notes,aK.td]
 have:=h.sf;have d:=h.deep;exact⟨⟨c,G_,G_,Z,h.sl⟩,Z,vD h n,G_⟩
theorem fD.trans{e_ a:cU}{s b d:aK}{e g:Bool}(h:fD e_ s b e)(i:b.stop=0)(c:fD a b d g):fD a s d g:=by refine⟨em h.le c.le,c.bd,λk=>?_⟩;obtain⟨-,o,f,j,l,n,m,-⟩:=h.go i;grind[fD.go,List.append_inj']
theorem eC.Bb{k:Nat}{a:cU}{s b:aK}{e:Bool}(h:eC s b)(g:sk k a s):fD a s b e:=⟨h.le,h.bd,λc=>by obtain⟨i,f,q,d⟩:=g.names;exact⟨(h.go c).2,i,f,f,q,by rw[(h.go c).1];exact q,i_,λ_=>d⟩⟩
def fD.end{b a:cU}{s c:aK}{e:Bool}(h:fD b s c e):fD a s c Wm:=⟨h.le,h.bd,(by grind[fD.go])⟩
def sk.zw{k:Nat}{d c:cU}{s g:aK}(h:sk k d s)(f:fD c s g Wl)(e:g.stop=0):sk k c g:=by have m:=f.bd.va;obtain⟨j,p,a,b,o,n,-,i⟩:=f.go e;have l:=h.deep;exact⟨e,G_,G_,j,by have:=ey List.length (i i_);grind[aK.g_]⟩
def kK(e:pM fs D g V){k d:Nat}{a:cU}(f:k*(D+2)+d<=g){n:aC}{s:aK}(h:sk k a s)(i:rE fs Wl a d n):∃b c,kN V n s=Wj (b,c)/\eC s c:=by have ⟨v,s1,e1,f1⟩:=e k d a n s i h f;unfold kN;simp only[e1];split;grind[eC.or];grind
def tO(y:pM fs D g V)(w:GB fs D g B){k d:Nat}{a:cU}(u:k*(D+2)+d+1<=g){n c b:aC}(z:rE fs Wl a d c)(q:sj (cO fs d) a b.y_):∀(r:Nat) (t:Bool) (s:aK),1<=r->(s.stop=0->sk k a s/\502<=r+aA s.sf)->∃v e p,iM V B n c b r t s=Wj ((v,e),p)/\aA s.sf<=aA p.sf/\(s.stop=0->fD a s p e)
 |0,_,_,h,_=>by omega|r+1,t,s,_,h=>by
  unfold iM;split;grind[eC.Bb,eC.refl,sk.sf,sk.bd];have G:s.stop=0:=Z;obtain⟨h,J⟩:=h G;obtain⟨v,e,i,I,f⟩:=w k d a b s q h u;simp only[I];split;exact⟨_,_,_,i_,f.le,λ_=>f⟩;obtain⟨rfl,E⟩:e=Wl/\i.stop=0:=G_;have A:=h.zw f E;have K:=pK i n.l_;have:=f.le;have:=h.sf;split;obtain⟨v,e,j,l,m,-⟩:=tO y w u z q r t (i.ry n.l_) Z (Z);obtain rfl:j=i.ry n.l_:=by cases r with|zero=>exact Z|succ r=>unfold iM at l;grind
  exact⟨v,e,_,l,Z,λ_=>⟨Z,vD A _,Z⟩⟩;have C:(i.ry n.l_).stop=0:=Z;have ⟨k2,f2⟩:=rT A C;have ⟨t1,j,l,m⟩:=kK y Z k2 z;simp only[l];have:=m.le;obtain⟨v,e,F,o,L,H⟩:=tO y w u z q r t1 j Z ((by grind[sk.next]));refine⟨v,e,F,o,Z,λ_=>?_⟩;by_cases x:j.stop=0;exact(f.trans E (f2.trans C (m.Bb k2 (e:=Wl)))).trans x (H x);cases r with|zero=>exact Z|succ r=>unfold iM at o;rw[ec (dv x)]at o;cases o;exact⟨Z,m.bd,Z⟩
theorem xC{k:Nat}{b a:cU}{s:aK}(h:sk k b s)(F:iW->iW)(d:∀f,(F f).name=f.name/\(f.g_.map (·.1)=b.reverse->(F f).g_.map (·.1)=a.reverse))(g:aA a<=50000):fD a s (s.td F) Wl:=by have ⟨fr,f,hf,hv⟩:=h.names;have e:=ey List.length ((d f).2 hv);have c:=h.bd;exact⟨fk _,⟨by grind[DT.fr,aK.td],c.mo,by grind[aK.td,aK.g_]⟩,(by grind[sk.sf,aK.td])⟩
theorem EZ{a:cU}{s:aK}{n:Nat}(b:DT s)(c:n≠0){e:Bool}:fD a s {s with stop:=n} e:=⟨s_,⟨b.fr,b.mo,b.va⟩,G_⟩
theorem SA{l:List (bS×aD)}{i:Nat}{v:aD}:(l.set i (((l[i]?.map (·.1)).getD []),v)).map (·.1)=l.map (·.1):=by grind[List.map_set,List.set_getElem_self,List.set_eq_of_length_le]
def MW{k:Nat}{b:cU}{s:aK}(h:sk k b s)(n:aC)(l:List aD)(g:n.op=[118,97,114]->n.y_≠[])(c:aA (cQ b n)<=50000):fD (cQ b n) s (fZ n l s) Wl:=by
 have d:∀{e},fD b s s e:=(eC.refl h.sf h.bd).Bb h;unfold fZ cQ at*;simp;split;cases f:n.y_ with|nil=>grind|cons a r=>grind[xC]
 split;split;exact EZ h.bd d_;exact⟨s_,⟨h.bd.fr,h.bd.mo,h.bd.va⟩,d.go⟩;grind[xC,SA,EZ,sk.bd]
def FE{b:cU}{a:aC}(h:a.op≠[118,97,114]):cQ b a=b:=by unfold cQ;grind
def FF{d:Nat}{b:cU}{a:aC}(h:cO fs d b a)(c:aA b<=50000):aA (cQ b a)<=50000:=by cases d with|zero=>exact h.elim|succ d=>grind[cQ,cO]
def zM(C:pM fs D g V)(K:GB fs D g B){k d:Nat}{f:cU}(T:k*(D+2)+d<=g){n:aC}{s:aK}(F:cO fs d f n)(h:sk k f s):∃v e u,mW V B n s=Wj ((v,e),u)/\fD (cQ f n) s u e:=by
 cases d with|zero=>exact F.elim|succ d=>
  have W:=pK s n.l_;unfold mW;simp only[beq_iff_eq];split;rename_i z;exact⟨_,_,_,i_,Z,vD h _,Z⟩;rename_i z;have z:(s.ry n.l_).stop=0:=Z;have ⟨k0,f0⟩:=rT h z;have H:=FF F h.sl;have q:∀l,(∀a∈l,rE fs Wl f d a)->(n.op=[118,97,114]->n.y_≠[])->∃w m,eY V l (s.ry n.l_)=Wj (w,m)/\fD (cQ f n) s (if m.stop=0 then fZ n w m else m) Wl:=by intro l N I;obtain⟨w,m,o,j,-⟩:=lW C Z l _ N k0;refine⟨w,m,o,?_⟩;by_cases r:m.stop=0;rw[ec r];exact(f0.trans z (j.Bb k0 (e:=Wl))).trans r (MW (k0.next j r) n w I H);rw[dy r];exact⟨by have:=j.le;exact Z,j.bd,Z⟩
  unfold cO at F;rcases F with ⟨i,-,t,v,p,I,-⟩|⟨i,-,-,p⟩|⟨i,c,t,p,E,S⟩|⟨i,c,b,p,E,J⟩|⟨i,p⟩|⟨i,v,p,I⟩|⟨i,c,p,E⟩;obtain⟨w,m,o,j⟩:=q [v] G_ (by simp[p]);exact⟨_,_,_,by simp[i,p,o];rfl,j⟩;obtain⟨w,m,o,j⟩:=q n.y_ p rg;exact⟨_,_,_,by simp[i,o];rfl,j⟩
  .rw[ec i,FE rg];have ⟨b,m,o,j⟩:=kK C Z k0 E;have J:∀y,sj (cO fs d) f y.y_->m.stop=0->∃v e u,B y m=Wj ((v,e),u)/\fD f s u e:=λy P r=>by have ⟨v,e,u,A,L⟩:=K k d f y m P (k0.next j r) Z;exact⟨v,e,u,A,(f0.trans z (j.Bb k0 (e:=Wl))).trans r L⟩
   have G:∃v e u,Wj ((aY,Wl),m)=Wj ((v,e),u)/\fD f s u e:=(by grind[fD.trans,eC.Bb]);rcases p with p|⟨x,p,U⟩;all_goals rw[p];simp only[o];split;exact G;grind
  rw[dy rg,ec i,FE rg,p];have ⟨t,m,o,j⟩:=kK C Z k0 E;simp only[o];have:=j.le;obtain⟨v,e,M,A,L,Q⟩:=tO C K (k:=k) (d:=d) Z E J (n:=n) 1000 t m d_ ((by grind[sk.next]));refine⟨v,e,M,A,?_⟩;by_cases r:m.stop=0;exact(f0.trans z (j.Bb k0 (e:=Wl))).trans r (Q r);unfold iM at A;rw[ec (dv r)]at A;cases A;exact⟨Z,j.bd,Z⟩;rw[dy rg,dy rg,ec i];obtain⟨w,m,o,j,-⟩:=lW C (k:=k) (d:=d) (e_:=f) Z n.y_ _ G_ k0;simp[o];grind[fD.trans,eC.Bb,cQ];obtain⟨w,m,o,j⟩:=q n.y_ G_ rg;exact⟨_,_,_,by simp[i,o];rfl,j⟩;obtain⟨w,m,o,j⟩:=q n.y_ G_ rg;exact⟨_,_,_,by simp[i,o];rfl,j⟩
def BI(r:pM fs D g V)(o:GB fs D g B){k d:Nat}{b:cU}(n:k*(D+2)+d<=g):∀(l:List aC) (c:cU) (s:aK),sj (cO fs d) (c++b) l->sk k (c++b) s->∃v e j,oC (mW V B) (aA b) l s=Wj ((v,e),j)/\fD b s j e|[],c,s,_,h=>⟨_,_,_,rfl,xC h _ ((by grind[List.map_take])) (by have:=h.sl;grind)⟩|a::l,c,s,p,h=>by obtain⟨v,e,q,u,i⟩:=zM r o n p.1 h;unfold oC;simp only[u];split;refine⟨_,_,_,i_,i.le,i.bd,λw=>?_⟩;grind[fD.go];obtain⟨rfl,t⟩:e=Wl/\q.stop=0:=G_;have ⟨m,hm⟩:=qZ (c++b) a;rw[hm,<-gv]at i;have f:=p.2;rw[hm,<-gv]at f;have ⟨v,e,s2,e2,f2⟩:=BI r o n l (m++c) q f (h.zw i t);grind[fD.trans]
def oR(i:∀f∈fs,gY fs D f)(c:∀f∈fs,aA f.y_<=40000):∀g,pM fs D g (nN fs g).1/\GB fs D g (nN fs g).2
 |0=>⟨λk d a n s p _ o=>by obtain rfl:d=0:=Z;exact p.elim,(by grind[GB])⟩|g+1=>by
  obtain⟨l,j⟩:=oR i c g;refine⟨IV l j i c,λk d a b s m h o=>?_⟩;obtain⟨t,f,u,q⟩:=h.names;have:aA s.g_=aA a:=by have:=ey List.length q;grind[aK.g_]
  show ∃v e r,oC _ (aA s.g_) b.y_ s=_/\_;rw[this];exact BI l j Z b.y_ [] s m h
def MY(c:∀f∈fs,gY fs D f)(b:∀f∈fs,aA f.y_<=40000)(d:gC fs (dU fs [109,97,105,110])=Wj 0)(a:List Int):∃l,sY fs (16*(D+2)) a=Wj l:=by obtain⟨v,g,e,-⟩:=tQ (oR c b (16*(D+2))).2 c (k:=16) (s:=⟨[],a,[],[],0⟩) rfl rfl s_ ⟨s_,s_,by simp[aK.g_]⟩ b (Z) [109,97,105,110] [] (by simp[d]);exact⟨_,by unfold sY;rw[e]⟩
end
def aM.wj:aM->Bool|.push _=>Wm|.load _=>Wm|.sr _ _=>Wm|.tr=>Wm|.unary _=>Wm|.binary _=>Wm|.index=>Wm|.list _=>Wm|.length=>Wm|_=>Wl
def oQ(g:List aC)(b:List (List UInt8)):∀(d:Nat) (a:aC) (p:Nat),rE g Wm b d a->∀i∈aF g b d a p,i.wj=Wm
 |0,_,_,h=>h.elim|d+1,a,p,o=>by
  have c:∀k∈a.y_,rE g Wm b d k:=λk f=>by rcases o with ⟨_,h⟩|⟨_,h,_⟩|⟨_,h⟩|⟨_,l,r,h,n,s⟩|⟨_,l,h,n⟩|⟨_,h,_⟩|⟨_,l,r,h,n,s⟩<;>grind
  have m:a.op=[99,97,108,108]->a.x_=[108,101,110]:=λe=>by rcases o with ⟨h,_⟩|⟨h,_⟩|⟨h,_⟩|⟨h,_⟩|⟨h,_⟩|⟨_,_,h⟩|⟨h,_⟩<;>grind[cR]
  have f:∀i∈bC (aF g b d) a.y_ p,i.wj=Wm:=sW _ _ λk f q=>oQ g b d k q (c k f);rw[aF];simp only;refine fL (λ_=>by simp[aM.wj]) ?_;refine fL (λ_=>by simp[aM.wj]) ?_;refine fL (λ_=>by simp[aM.wj]) ?_;refine fL (λ_=>by simp[aM.wj]) ?_;refine fL (λ_=>jY f rfl) ?_;refine fL (λ_=>jY f rfl) ?_;refine fL (λ_=>jY f rfl) ?_;refine fL (λ_=>jY f rfl) ?_;refine fL (λh=>jY f ?_) ?_;rw[m qg];rfl;refine fL (λ_=>?_) (jY f rfl);split;rename_i l r e;refine jY (λi j=>?_) rfl;rcases fg.1 j with j|j;exact jY (oQ g b d l _ (c l (by rw[e];simp))) rfl i j;exact oQ g b d r _ (c r (by rw[e];simp)) i j;intro i j;cases j
structure Gi(i:aM)(f:aG):Prop where
 ex:i.wj=Wm
 ops:aA f.ops<=99000
 zh:bU f
 mem:i∈f.fn.code
 at_:∃(ar:Nat->Option Nat) (D:bI) (T:Nat->gN) (p:Nat),iS ar D T p i/\(T p).h=aA f.ops/\(T p).v<=aA f.g_
structure rH(f:aG):Prop where
 code:∃(ar:Nat->Option Nat) (T:Nat->gN),(∀j i,f.fn.code[j]?=Wj i->iS ar (λq=>q<=aA f.fn.code) T j i/\i.wj=Wm)/\(T f.next).h=aA f.ops/\(T f.next).v<=aA f.g_/\(T (aA f.fn.code)).h=1
 len:aA f.fn.code<=90000
 next:f.next<=aA f.fn.code
 zh:bU f
noncomputable def fA:Nat->aG->aG×Nat|0,f=>(f,0)|k+1,f=>match f.su with|none=>(f,0)|some (i,g)=>if (aO i g).2=0 then fA k (aO i g).1 else aO i g
def pI(h:aA f.fn.code<=f.next):∀k,fA k f=(f,0)
 |0=>rfl|k+1=>by
  have:f.su=Wk:=by unfold aG.su;rw[ix h];rfl
  rw[fA,this]
def rH.step(h:rH f)(x:f.next<aA f.fn.code):∃i g,f.su=Wj (i,g)/\g.fn=f.fn/\Gi i g/\(∀k,fA (k+1) f=if (aO i g).2=0 then fA k (aO i g).1 else aO i g)/\((aO i g).2=0->rH (aO i g).1/\f.next<(aO i g).1.next):=by
 have ⟨⟨ar,T,hc,hh,hv,he⟩,hl,hx,hu⟩:=h;have u:=ew x;have p:f.su=Wj (f.fn.code[f.next],{f with next:=f.next+1}):=by grind[aG.su]
 have ⟨b,hex⟩:=hc _ _ u;have r:f.fn.code[f.next]∈f.fn.code:=(by simp);generalize f.fn.code[f.next]=i at*;refine⟨i,_,p,i_,⟨hex,by have:=b.2.1;grind,hu.next _,r,ar,_,T,_,b,hh,hv⟩,λk=>by rw[fA,p],λo=>?_⟩;have l:bU (aO i {f with next:=f.next+1}).1:=xI (hu.next _) λv e=>by subst e;exact hu.fn.1 v r
 have c:∀q j d n,fI (λq=>q<=aA f.fn.code) T q j d n->(aO i {f with next:=f.next+1}).1.next=q->f.next<q->(aO i {f with next:=f.next+1}).1.ops.length=j->(aO i {f with next:=f.next+1}).1.g_=f.g_->d=(T f.next).v->rH (aO i {f with next:=f.next+1}).1/\f.next<(aO i {f with next:=f.next+1}).1.next:=λq j d n m A z B C y=>by have ⟨f1,f2,f3,_⟩:=m;have t:(aO i {f with next:=f.next+1}).1.fn=f.fn:=jT _ _;refine⟨⟨⟨ar,T,?_,?_,?_,?_⟩,?_,?_,l⟩,Z⟩;rw[t];exact hc;grind;grind;grind;grind;grind
 obtain⟨-,-,b⟩:=b;cases i<;>first|(cases hex;done)|skip
 case push a=>grind[aO,aG.push]
 case load k=>grind[aO,aG.push]
 case sr w q=>grind[aO,aG.push,aG.pop]
 case tr=>grind[aO,aG.push,aG.pop]
 all_goals simp[aO]at o c⊢;split at o;rename_i s;simp[s,if_true]at c⊢;refine c _ _ _ _ b.2 i_ Z ?_ rfl rfl;simp[aG.push,aG.pop,aG.p_];exact Z;contradiction
def CJ:∀(k:Nat){f:aG},rH f->aA f.fn.code-f.next<=k->(fA k f).2=0->∃a,(fA k f).1.ops=[a]/\cP a
 |k,f,h,d,b=>by
  by_cases l:f.next<aA f.fn.code;obtain⟨i,g,w,o,u,n,r⟩:=h.step l;match k,d with|0,d=>omega|k+1,d=>rw[n k]at b⊢;by_cases c:(aO i g).2=0;rw[ec c]at b⊢;obtain⟨p,v⟩:=r c;have e:(aO i g).1.fn=f.fn:=(jT _ _).trans o;exact CJ k p (by rw[e];omega) b;rw[dy c]at b;exact ep b c
  have e:f.next=aA f.fn.code:=Nat.le_antisymm h.next (Nat.le_of_not_lt l);rw[pI (Nat.le_of_eq e.symm)];obtain⟨⟨t,T,A,j,z,s⟩,x,y,q⟩:=h;rw[e,s]at j;obtain⟨a,m⟩:=List.length_eq_one_iff.1 j.symm;exact⟨a,m,q.ops a (by rw[m];simp)⟩
