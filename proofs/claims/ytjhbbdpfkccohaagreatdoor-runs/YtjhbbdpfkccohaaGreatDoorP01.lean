import Derived.Test.YtjhbbdpfkccohaaGreatDoorP00
set_option linter.all false
set_option maxRecDepth 100000
open List renaming length->Ty
open Option renaming some->Ua,none->Ub
open Bool renaming false->Uc
namespace Go.Proofs.YtjhbbdpfkccohaaGreatDoor.Hs
variable{t:List Int}{R:List aC}{Z:List aE}{W:List aI}{O l:List aO}{T:List eM}{U p:Nat}{E:Nat->Option Nat}{c:Prop}{Y:aC}{f:aI}{i:aO}{x:bP}{X:cY}{F:dA}
structure iW where
 name:bP
 l_:Nat
 g_:List (bP × aE)
structure gC where
 stack:List (bP × Nat)
 g_:List (bP × aE)
 out:cY
 stop:Nat
structure aM where
 f_:List iW
 tape:List Int
 out:cY
 rm:List gC
 stop:Nat
abbrev dZ(α:Type):=Option (α × aM)
def aM.g_(s:aM):List (bP × aE):=(s.f_.getLast?.map (·.g_)).getD []
def aM.sd(s:aM)(f:iW->iW):aM:={ s with f_:=s.f_.dropLast++(s.f_.getLast?.map f).toList }
def aM.notes(s:aM):aM:={ s with rm:=s.rm++[⟨s.f_.map λf=>(f.name,f.l_),s.g_,s.out,s.stop⟩] }
def aM.q_(s:aM)(l_:Nat):aM:=
 let s1:=s.sd λf=>{ f with l_:=l_ }
 aM.notes (if Ty s1.rm=500 then { s1 with stop:=9 } else s1)
def aM.or(s:aM)(stop:Nat):aM:=if stop≠0/\s.stop=0 then { s with stop:=stop } else s
def jO(l:List (bP × aE))(name:bP):Nat:=
 match l.findIdx? λb=>b.1==name with
 |some i=>i
 |none=>0
def fF(V:aC->aM->dZ aE):List aC->aM->dZ (List aE)
 |[],s=>Ua ([],s)
 |a::l,s=>
  if s.stop≠0 then Ua ([],s)
  else
   match V a s with
   |none=>Ub
   |some (v,s1)=>
    match fF V l s1 with
    |none=>Ub
    |some (vs,s2)=>Ua (v::vs,s2)
def oG(V:aC->aM->dZ aE)(or:Bool)(l r:aC)(s:aM):dZ aE:=
 match V l s with
 |none=>Ub
 |some (a,s1)=>
  if s1.stop≠0\/a.c_≠1 then Ua (a,s1.or 2)
  else if decide (a.n=1)=or then Ua (a,s1)
  else
   match V r s1 with
   |none=>Ub
   |some (b,s2)=>if s2.stop≠0\/b.c_≠1 then Ua (b,s2.or 2)else Ua (b,s2)
def jV(fs:List aC)(B:aC->aM->dZ (aE × Bool))(name:bP)(l:List aE)(s:aM):dZ aE:=
 if name==[108,101,110]then let r:=dO (l.head?.getD aY);Ua (r.1,s.or r.2)
 else if name==[114,101,97,100]then
  match s.tape with
  |[]=>Ua (aY,s.or 7)
  |t::r=>Ua (bA t,{ s with tape:=r })
 else if Ty s.f_=16 then Ua (aY,s.or 5)
 else
  match dG fs name with
  |none=>Ub
  |some f=>
   match B (f.y_.getLast?.getD f) { s with f_:=s.f_++[⟨name,0,(f.y_.map (·.x_)).zip l⟩] } with
   |none=>Ub
   |some ((v,_),s1)=>Ua (v,if s1.stop=0 then { s1 with f_:=s1.f_.dropLast } else s1)
noncomputable def jQ(fs:List aC)(B:aC->aM->dZ (aE × Bool))(n:aC)(l:List aE)(s:aM):dZ aE:=
 if n.op==[108,105,115,116]then Ua (bG l,s.or (if 200<aK (bG l)then 6 else 0))
 else if n.op==[99,97,108,108]then jV fs B n.x_ l s
 else if n.op==[105,110,100,101,120]then let r:=cA (l.head?.getD aY) ((l.drop 1).head?.getD aY);Ua (r.1,s.or r.2)
 else if n.op==[45,120] || n.op==[33,120]then let r:=dI n.op (l.head?.getD aY);Ua (r.1,s.or r.2)
 else let r:=dJ n.op (l.head?.getD aY) ((l.drop 1).head?.getD aY);Ua (r.1,s.or r.2)
noncomputable def gR(fs:List aC)(V:aC->aM->dZ aE)(B:aC->aM->dZ (aE × Bool))(n:aC)(s:aM):dZ aE:=
 if n.op==[48]then Ua (bA (((dS 0 n.x_).getD 0:Nat):Int),s)
 else if n.op==[115]then Ua (bQ n.x_,s)
 else if n.op==[98,111,111,108]then Ua (cG (n.x_==[116,114,117,101]),s)
 else if n.op==[110,97,109,101]then Ua ((s.g_[jO s.g_ n.x_]?.map (·.2)).getD aY,s)
 else if n.op==[124,124] || n.op==[38,38]then
  match n.y_ with
  |[l,r]=>oG V (n.op==[124,124]) l r s
  |_=>Ub
 else
  match fF V n.y_ s with
  |none=>Ub
  |some (l,s1)=>if s1.stop≠0 then Ua (aY,s1)else jQ fs B n l s1
def kF(V:aC->aM->dZ aE)(n:aC)(s:aM):dZ Bool:=
 match V n s with
 |none=>Ub
 |some (c,s1)=>if s1.stop≠0\/c.c_≠1 then Ua (Uc,s1.or 2)else Ua (decide (c.n=1),s1)
noncomputable def fY(n:aC)(l:List aE)(s:aM):aM:=
 let v:=l.getLast?.getD aY
 if n.op==[118,97,114]then s.sd λf=>{ f with g_:=f.g_++[((n.y_.head?.map (·.x_)).getD [],v)] }
 else if n.op==[112,114,105,110,116]then if Ty s.out=50 then { s with stop:=8 } else { s with out:=s.out++[jN v] }
 else if n.op==[115,101,116]then
  let i:=jO s.g_ n.x_
  let r:=cI l.dropLast ((s.g_[i]?.map (·.2)).getD aY) v
  let st:=if r.2=0/\200<aK r.1 then 6 else r.2
  if st=0 then s.sd λf=>{ f with g_:=f.g_.set i (((f.g_[i]?.map (·.1)).getD []),r.1) } else { s with stop:=st }
 else s
def iL(V:aC->aM->dZ aE)(B:aC->aM->dZ (aE × Bool))(n c b:aC):Nat->Bool->aM->dZ (aE × Bool)
 |0,_,_=>Ub
 |k+1,t,s=>
  if t=Uc\/s.stop≠0 then Ua ((aY,Uc),s)
  else
   match B b s with
   |none=>Ub
   |some ((v,e),s1)=>
    if e\/s1.stop≠0 then Ua ((v,e),s1)
    else
     let s2:=s1.q_ n.l_
     if s2.stop≠0 then iL V B n c b k t s2
     else
      match kF V c s2 with
      |none=>Ub
      |some (t1,s3)=>iL V B n c b k t1 s3
noncomputable def mR(V:aC->aM->dZ aE)(B:aC->aM->dZ (aE × Bool))(n:aC)(s:aM):dZ (aE × Bool):=
 let s0:=s.q_ n.l_
 if s0.stop≠0 then Ua ((aY,Uc),s0)
 else if n.op==[105,102]then
  match n.y_ with
  |c::t::x=>
   match kF V c s0 with
   |none=>Ub
   |some (b,s1)=>
    if s1.stop≠0 then Ua ((aY,Uc),s1)
    else if b then B t s1
    else match x with
     |[y]=>B y s1
     |_=>Ua ((aY,Uc),s1)
  |_=>Ub
 else if n.op==[119,104,105,108,101]then
  match n.y_ with
  |[c,b]=>
   match kF V c s0 with
   |none=>Ub
   |some (t,s1)=>iL V B n c b 1000 t s1
  |_=>Ub
 else if n.op==[114,101,116,117,114,110]then
  match fF V n.y_ s0 with
  |none=>Ub
  |some (l,s1)=>Ua ((l.head?.getD aY,true),s1)
 else
  match fF V (if n.op==[118,97,114]then n.y_.drop 1 else n.y_) s0 with
  |none=>Ub
  |some (l,s1)=>Ua ((aY,Uc),if s1.stop=0 then fY n l s1 else s1)
def nU(D:aC->aM->dZ (aE × Bool))(mark:Nat):List aC->aM->dZ (aE × Bool)
 |[],s=>Ua ((aY,Uc),s.sd λf=>{ f with g_:=f.g_.take mark })
 |a::l,s=>
  match D a s with
  |none=>Ub
  |some ((v,e),s1)=>if e\/s1.stop≠0 then Ua ((v,e),s1)else nU D mark l s1
noncomputable def qT(fs:List aC):Nat->(aC->aM->dZ aE) × (aC->aM->dZ (aE × Bool))
 |0=>(λ_ _=>Ub,λ_ _=>Ub)
 |g+1=>
  let V:=(qT fs g).1
  let B:=(qT fs g).2
  (λn s=>gR fs V B n s,λn s=>nU (mR V B) (Ty s.g_) n.y_ s)
noncomputable def sM(fs:List aC)(g:Nat)(tape:List Int):Option (List gC):=
 match jV fs (qT fs g).2 [109,97,105,110] [] ⟨[],tape,[],[],0⟩with
 |none=>Ub
 |some (_,s)=>Ua (if s.stop=9 then s.rm else (aM.notes (if s.stop=0 then { s with stop:=1 } else s)).rm)
def kL(f:aI)(e_:cY):iW:=⟨f.fn.name,f.l_,e_.reverse.zip f.g_⟩
def cW(l:List aI):List iW:=l.map λf=>kL f f.e_
def rz(m:dA)(stop:Nat):gC:=⟨m.f_.map λf=>(f.fn.name,f.l_),((m.f_.getLast?.map λf=>f.e_.reverse.zip f.g_)).getD [],m.out,stop⟩
inductive nJ (si:List eM):dA->Nat->List gC->dA->Nat->Prop
 |refl (m:dA) (n:Nat):nJ si m n [] m n
 |step {b:List aI} {f g:aI} {t:List Int} {o:cY} {i:aO} {m1 m':dA} {n n':Nat} {ms:List gC} (hf:f.se=Ua (i,g)) (hb:i.rj=Uc) (hd:cF si i b g t o=(m1,0)) (hr:nJ si m1 n ms m' n'):nJ si ⟨b++[f],t,o⟩ n ms m' n'
 |vo {b:List aI} {f g:aI} {t:List Int} {o:cY} {i:aO} {m1 m':dA} {n n':Nat} {ms:List gC} (hf:f.se=Ua (i,g)) (hb:i.rj=true) (hd:cF si i b g t o=(m1,0)) (hn:n≠500) (hr:nJ si m1 (n+1) ms m' n'):nJ si ⟨b++[f],t,o⟩ n (rz m1 0::ms) m' n'
theorem nJ.trans{si:List eM}{a b c:dA}{n m d:Nat}{l e:List gC}(h:nJ si a n l b m)(k:nJ si b m e c d):nJ si a n (l++e) c d:=by
 induction h with
 |refl=>exact k
 |step g j f _ i=>exact .step g j f (i k)
 |vo g j f o _ i=>exact .vo g j f o (i k)
inductive GA (si:List eM):dA->Nat->gC->Prop
 |stop {b:List aI} {f g:aI} {t:List Int} {o:cY} {i:aO} {m1:dA} {n st:Nat} (hf:f.se=Ua (i,g)) (hd:cF si i b g t o=(m1,st)) (hs:st≠0):GA si ⟨b++[f],t,o⟩ n (rz m1 st)
 |done {t:List Int} {o:cY} {n:Nat}:GA si ⟨[],t,o⟩ n (rz ⟨[],t,o⟩ 1)
 |fuel {b:List aI} {f g:aI} {t:List Int} {o:cY} {i:aO} {m1:dA} (hf:f.se=Ua (i,g)) (hb:i.rj=true) (hd:cF si i b g t o=(m1,0)):GA si ⟨b++[f],t,o⟩ 500 (rz m1 9)
def nT(si:List eM)(m:dA)(n:Nat)(ms:List gC):Prop:=∃m' n' ms' x,nJ si m n ms' m' n'/\GA si m' n' x/\ms=ms'++[x]
def aM.final(s:aM):List gC:=if s.stop=9 then s.rm else s.notes.rm
def cE(si:List eM)(m:dA)(s s':aM)(m':dA):Prop:=
 (s'.stop=0/\∃ms,s'.rm=s.rm++ms/\nJ si m (Ty s.rm) ms m' (Ty s'.rm))\/
 (s'.stop≠0/\∃ms,s.rm++ms=s'.final/\nT si m (Ty s.rm) ms)
theorem cE.refl(a:List eM)(m:dA)(s:aM)(h:s.stop=0):cE a m s s m:=ed ⟨h,[],s_,nJ.refl _ _⟩
theorem cE.trans{si:List eM}{m m1 c:dA}{s a b:aM}(h:cE si m s a m1)(k:a.stop=0->cE si m1 a b c)(d:a.stop≠0->b=a):cE si m s b c:=by grind [nJ.trans,cE,nT]
theorem cE.step{si:List eM}{b:List aI}{g:aI}{m1:dA}{s a:aM}(e:f.se=Ua (i,g))(h:i.rj=Uc)(d:cF si i b g t X=(m1,0))(j:a.stop=0)(c:a.rm=s.rm):cE si ⟨b++[f],t,X⟩ s a m1:=
 ed ⟨j,[],lg,.step e h d (by rw[c];exact .refl _ _)⟩
theorem cE.stops{g:aI}{m1:dA}{st:Nat}{s a:aM}(h:f.se=Ua (i,g))(d:cF T i W g t X=(m1,st))(j:st≠0)(n:st≠9)
 (e:a.stop=st) (m:a.rm=s.rm) (l:(⟨a.f_.map λf=>(f.name,f.l_),a.g_,a.out,a.stop⟩:gC)=rz m1 st):cE T ⟨W++[f],t,X⟩ s a F:=by
 refine ec ⟨aD,[rz m1 st],?_,_,_,[],_,.refl _ _,.stop h d j,rfl⟩;grind [aM.final,aM.notes]
def eR(code:List aO)(p:Nat)(c:List aO):Prop:=∀j i,c[j]?=Ua i->code[p+j]?=Ua i
theorem eR.left{b:List aO}(h:eR l U (O++b)):eR l U O:=λj i d=>h j i G_
theorem eR.right{b:List aO}(h:eR l U (O++b)):eR l (U+Ty O) b:=λj i d=>by
 have:=h (Ty O+j) i G_
 grind
def eR.xz(h:eR l U (i::O)):l[U]?=Ua i:=h 0 i rfl
def eR.tail(h:eR l U (i::O)):eR l (U+1) O:=λj k b=>by
 have:=h (j+1) k G_
 grind
def jC(h:f.fn.code[f.next]?=Ua i):f.se=Ua (i,{ f with next:=f.next+1 }):=by grind [aI.se]
def BD:∀(a:cY) (b:List aE) (x:bP),a.Nodup->x∈a->Ty a<=Ty b->jO (a.reverse.zip b) x=dQ a x/\((a.reverse.zip b)[dQ a x]?.map (·.2))=b[dQ a x]?/\((a.reverse.zip b)[dQ a x]?.map (·.1))=Ua x:=by
 intro a b x g d f
 have c:a.reverse[dQ a x]?=Ua x:=by
  induction a with
  |nil=>cases d
  |cons y l e=>
   grind [dQ,qK]
 grind [jO,List.findIdx?_eq_some_iff_getElem,List.pairwise_iff_getElem]
structure gD(e_:cY)(p:Nat)(c:List aO)(below:List aI)(f:aI)(s:aM):Prop where
 code:eR f.fn.code p c
 next:f.next=p
 xw:f.e_=e_
 nodup:e_.Nodup
 g_:Ty e_<=Ty f.g_
 stop:s.stop=0
 f_:s.f_=cW (below++[f])
 deep:Ty below+1<=16
def aI.ry(f:aI)(n:Nat)(vs:List aE):aI:={ f with next:=n,ops:=f.ops++vs }
def eP(si:List eM)(below:List aI)(f:aI)(n:Nat)(vs:List aE)(s s':aM):Prop:=
 (s'.stop=0->s'.f_=s.f_)/\cE si ⟨below++[f],s.tape,s.out⟩ s s' ⟨below++[f.ry n vs],s'.tape,s'.out⟩
def lZ(fs:List aC)(si:List eM)(V:aC->aM->dZ aE):Prop:=
 ∀(d:Nat) (a:aC) (e_:cY) (p:Nat) (below:List aI) (f:aI) (s:aM) (v:aE) (s':aM),rk fs Uc e_ d a->gD e_ p (aG fs e_ d a p) below f s->V a s=Ua (v,s')->
  eP si below f (p+Ty (aG fs e_ d a p)) [v] s s'
theorem gD.ry{e:Nat}{c':List aO}{s d:aM}(h:gD X U l W f s)(j:eR f.fn.code e c')(i:d.stop=0)(g:d.f_=s.f_):gD X e c' W (f.ry e Z) d:=by refine⟨j,aJ,h.xw,h.nodup,h.g_,i,?_,h.deep⟩;rw[g,h.f_];simp[cW,kL,aI.ry]
def zL{s:aM}(h:s.f_=cW (W++[f])):s.g_=f.e_.reverse.zip f.g_:=by grind [aM.g_,cW,kL]
theorem kN{g:aI}{s:aM}(h:s.f_=cW (W++[f]))(e:g.fn=f.fn)(c:g.l_=f.l_)(i:g.e_=f.e_)(d:g.g_=f.g_):
 (⟨s.f_.map λf=>(f.name,f.l_),s.g_,s.out,U⟩:gC)=rz ⟨W++[g],t,s.out⟩ U:=by
 rw[zL h];unfold rz;rw[h];simp[cW,kL,e,c,i,d]
def kY{V:aC->aM->dZ aE}(u:lZ R T V):∀(l:List aC) (p:Nat) (f:aI) (s:aM) (vs:List aE) (m:aM),(∀a∈l,rk R Uc X U a)->gD X p (bB (aG R X U) l p) W f s->fF V l s=Ua (vs,m)->
 eP T W f (p+Ty (bB (aG R X U) l p)) vs s m/\(m.stop=0->Ty vs=Ty l)
 |[],p,f,s,vs,m,_,h,o=>by
  simp [fF]at o;have e:f.ry (p+Ty (bB (aG R X U) [] p)) []=f:=by simp[aI.ry,bB,<-h.next]
  grind [cE.refl,gD.stop,eP]
 |a::l,p,f,s,vs,m,F,h,o=>by
  rw[fF,ea (by rw[h.stop];simp)]at o
  cases D:V a s with
  |none=>grind
  |some r=>
   obtain⟨v,j⟩:=r;cases A:fF V l j with
   |none=>grind
   |some C=>
    obtain⟨z,t⟩:=C;have w:=h.code;have y:=u U a X p W f s v j (G_) { h with code:=w.left } D
    have n:j.stop≠0->t=j:=λx=>by
     cases l with
     |nil=>grind [fF]
     |cons b G=>grind [fF]
    by_cases q:j.stop=0
    .obtain⟨E,B⟩:=kY u l (p+Ty (aG R X U a p)) (f.ry (p+Ty (aG R X U a p)) [v]) j z t (G_) (h.ry (c':=bB (aG R X U) l (p+Ty (aG R X U a p))) w.right q (y.1 q)) A
     grind [aI.ry,bB,cE.trans,eP]
    grind [cE,eP]
theorem kA(f:aI)(n:Nat)(v:aE):(f.ry n [v]).last=v:=by simp[aI.ry,aI.last]
theorem VY(f:aI)(n m:Nat)(a:List aE):aI.many { f.ry n a with next:=m } (Ty a)=a:=by simp[aI.ry,aI.many]
theorem wS(f:aI)(n m:Nat)(a:List aE):aI.n_ { f.ry n a with next:=m } (Ty a)=f.ry m []:=by simp[aI.ry,aI.n_]
theorem lM(f:aI)(n:Nat)(v:aE):(f.ry n []).push v=f.ry n [v]:=by simp[aI.ry,aI.push]
def eP.then{vs:List aE}{s b d:aM}{r:aE × Nat}(h:eP T W f U vs s b)(e:s.f_=cW (W++[f]))
 (j:f.fn.code[U]?=Ua i) (m:i.rj=Uc) (o:b.stop≠0->d=b) (g:b.stop=0->d=b.or r.2) (p:r.2≠9)
 (k:b.stop=0->(r.2=0->cF T i W { f.ry U vs with next:=U+1 } b.tape b.out=(⟨W++[f.ry (U+1) [r.1]],b.tape,b.out⟩,0))/\(r.2≠0->cF T i W { f.ry U vs with next:=U+1 } b.tape b.out=(⟨W++[f.ry (U+1) []],b.tape,b.out⟩,r.2))):
 eP T W f (U+1) [r.1] s d:=by
 by_cases l:b.stop=0
 rotate_left
 .grind [cE,eP]
 have hfetch :=jC (f:=f.ry U vs) j;grind [aM.or,cE.trans,cE.step,cE.stops,kN,aI.ry,eP]
def sQ(below:List aI)(v:aE)(t:List Int)(o:cY):dA:=⟨below.dropLast++(below.getLast?.map λg=>g.push v).toList,t,o⟩
structure qG(e_:cY)(p:Nat)(c:List aO)(below:List aI)(f:aI)(s:aM):Prop where
 code:eR f.fn.code p c
 next:f.next=p
 nodup:e_.Nodup
 g_:Ty e_<=Ty f.g_
 stop:s.stop=0
 f_:s.f_=cW below++[kL f e_]
 deep:Ty below+1<=16
def dT(si:List eM)(below:List aI)(f:aI)(n:Nat)(seen':cY)(r:aE × Bool)(s s':aM):Prop:=
 (s'.stop=0/\r=(aY,Uc)/\∃f':aI,f'.fn=f.fn/\f'.next=n/\f'.ops=f.ops/\Ty seen'<=Ty f'.g_/\s'.f_=cW below++[kL f' seen']/\cE si ⟨below++[f],s.tape,s.out⟩ s s' ⟨below++[f'],s'.tape,s'.out⟩)\/
 (s'.stop=0/\r.2=true/\s'.f_.dropLast=cW below/\cE si ⟨below++[f],s.tape,s.out⟩ s s' (sQ below r.1 s'.tape s'.out))\/
 (s'.stop≠0/\∀m',cE si ⟨below++[f],s.tape,s.out⟩ s s' m')
def qP(fs:List aC)(si:List eM)(B:aC->aM->dZ (aE × Bool)):Prop:=
 ∀(d:Nat) (b:aC) (e_:cY) (p:Nat) (below:List aI) (f:aI) (s:aM) (r:aE × Bool) (s':aM),rp (cO fs d) e_ b.y_->qG e_ p (bK (aU fs d) e_ b.y_ p) below f s->B b s=Ua (r,s')->
  dT si below f (p+Ty (bK (aU fs d) e_ b.y_ p)) e_ r s s'
theorem cE.any{si:List eM}{c b:dA}{s a:aM}(h:cE si F s a c)(d:a.stop≠0):cE si F s a b:=by grind [cE]
theorem NE(h:dG R x=Ua Y):(dW R U)[dV R x]?=Ua (fR R U Y):=by grind [dW,uI]
def BP(h:dG R x=Ua Y):Y.x_=x:=by grind [dG]
def uT(h:gE R (dV R x)=Ua U):∃f,dG R x=Ua f/\f∈R/\Ty f.y_-1=U:=by grind [gE,dV,dG,List.find?_eq_some_iff_getElem]
theorem YV{D:Nat}(T:∀f∈R,gX R D f){B:aC->aM->dZ (aE × Bool)}(HB:qP R (dW R D) B){h:List aE}{c:List aI}{n:Nat}{s z:aM}{v:aE}(h1:x≠[108,101,110])(h2:x≠[114,101,97,100])
 (Q:gE R (dV R x)=Ua (Ty h)) (hc:f.fn.code[n]?=Ua (.call (dV R x) (Ty h))) (Z:s.stop=0) (E:s.f_=cW (c++[f])) (hd:Ty c+1<=16) (j:jV R B x h s=Ua (v,z)):
 (z.stop=0->z.f_=s.f_)/\cE (dW R D) ⟨c++[f.ry n h],s.tape,s.out⟩ s z ⟨c++[f.ry (n+1) [v]],z.tape,z.out⟩:=by
 have i:(f.ry n h).se=Ua (.call (dV R x) (Ty h),{ f.ry n h with next:=n+1 }):=jC (f:=f.ry n h) hc
 unfold jV at j;rw[ea G_,ea G_]at j
 have G:Ty s.f_=Ty c+1:=by rw[E];simp[cW]
 rw[G]at j;by_cases r:Ty c+1=16
 .rw[ef r]at j;simp only[ga,gh]at j;obtain⟨rfl,rfl⟩:=j;have e:s.or 5={ s with stop:=5 }:=by grind [aM.or]
  rw[e];refine⟨s_,cE.stops i (by rw[cF];simp only;rw[ef r]) s_ s_ rfl rfl ?_⟩
  rw[wS];exact kN (s:={ s with stop:=5 }) (g:=f.ry (n+1) []) E rfl rfl rfl rfl
 rw[ea r]at j;obtain⟨F,Y,N,ab⟩:=uT Q;rw[Y]at j;simp only at j;obtain⟨⟨p,b,W,hb,aa⟩,hl⟩:=T F N;have q:F.y_.getLast?.getD F=b:=G_
 rw[q]at j;have M:Ty p=Ty h:=G_
 have H:(F.y_.map (·.x_)).zip h=(p.map (·.x_)).zip h:=by
  rw[W,fw,<-List.append_nil h,List.zip_append (by simp[M])]
  simp
 rw[H]at j;have u:(fR R D F).code=bK (aU R D) (p.map (·.x_)).reverse b.y_ 0++[.push (bA 0),.sg]:=by simp[fR,W]
 have S:(fR R D F).name=x:=BP Y;cases hB:B b { s with f_:=s.f_++[⟨x,0,(p.map (·.x_)).zip h⟩] } with
 |none=>grind
 |some rr=>
  obtain⟨⟨X,e1⟩,k⟩:=rr;rw[hB]at j;simp only[ga,gh]at j;obtain⟨rfl,l⟩:=j;let U:aM:={ s with f_:=s.f_++[⟨x,0,(p.map (·.x_)).zip h⟩] }
  let a:=c++[f.ry (n+1) []]
  let I:aI:=⟨fR R D F,0,0,[],h,[]⟩
  have P:qG (p.map (·.x_)).reverse 0 (bK (aU R D) (p.map (·.x_)).reverse b.y_ 0) a I U:=by
   refine⟨?_,aJ,G_,G_,Z,?_,G_⟩
   .grind [eR]
   grind [cW,kL,aI.ry]
  have V:=HB D b (p.map (·.x_)).reverse 0 a I U (X,e1) k hb P hB
  have y:cF (dW R D) (.call (dV R x) (Ty h)) c { f.ry n h with next:=n+1 } s.tape s.out=(⟨a++[I],s.tape,s.out⟩,0):=by grind [cF,NE,wS,VY]
  have K:cE (dW R D) ⟨c++[f.ry n h],s.tape,s.out⟩ s U ⟨a++[I],s.tape,s.out⟩:=cE.step i aJ y Z aJ;have m:∀w t o,sQ a w t o=⟨c++[f.ry (n+1) [w]],t,o⟩:=(by grind [sQ,lM])
  rcases V with ⟨A,ke,f',k1,k2,k3,k4,k5,J⟩|⟨A,ke,k5,J⟩|⟨A,J⟩
  ·-- the block has been done:0 is returned
   have L:X=aY:=(by grind)
   rw[ef A]at l;subst l;refine⟨λ_=>?_,?_⟩
   .grind [cW,kL,aI.ry]
   refine K.trans (λ_=>J.trans (λ_=>?_) aD) G_
   have c1:f'.fn.code[f'.next]?=Ua (.push (bA 0)):=by grind
   have c2:f'.fn.code[f'.next+1]?=Ua .sg:=by rw[k1,k2];show (fR R D F).code[_]?=_;rw[u,ip aD];simp
   have O:cE (dW R D) ⟨a++[f'],k.tape,k.out⟩ k k ⟨a++[aI.push { f' with next:=f'.next+1 } (bA 0)],k.tape,k.out⟩:=cE.step (jC c1) rfl rfl A rfl
   refine O.trans (λ_=>?_) aD
   have hg:(aI.push { f' with next:=f'.next+1 } (bA 0)).se=Ua (.sg,{ (aI.push { f' with next:=f'.next+1 } (bA 0))with next:=f'.next+1+1 }):=jC c2
   have C:cF (dW R D) .sg a { (aI.push { f' with next:=f'.next+1 } (bA 0))with next:=f'.next+1+1 } k.tape k.out=(sQ a (bA 0) k.tape k.out,0):=by simp[cF,sQ,aI.last,aI.push]
   rw[m]at C;rw[L];exact cE.step hg aJ C A aJ
  .rw[ef A]at l;subst l;refine⟨λ_=>?_,?_⟩
   .grind [cW,kL,aI.ry]
   rw[m]at J;grind [cE.trans,cE]
  grind [cE.trans]
theorem QZ(a:bP)(x y:Int):(jE a x y).2≠9:=by grind [jE]
theorem JP(a b:aE):(gA a b).2≠9:=by grind [gA]
def TT(c:bP)(a b:aE):(dJ c a b).2≠9:=by grind [dJ,QZ,JP]
def VP(b:bP)(a:aE):(dI b a).2≠9:=by grind [dI]
def MB(a b:aE):(cA a b).2≠9:=by grind [cA]
def JN(a:aE):(dO a).2≠9:=by grind [dO]
theorem vK:∀(b:List aE) (a v:aE),(cI b a v).2≠9
 |[],_,_=>by simp[cI]
 |i::r,a,v=>by have:=vK r (a.l.getD i.n.toNat aY) v;grind [cI]
def nD{n:Nat}{vs:List aE}(a:f.fn.code[n]?=Ua i):(f.ry n vs).se=Ua (i,f.ry (n+1) vs):=jC (f:=f.ry n vs) a
theorem lO(f:aI)(n:Nat)(v:aE):(f.ry n [v]).pop=f.ry n []:=by simp[aI.ry,aI.pop]
def eP.push{a:List aI}{v:aE}{s:aM}(e:f.fn.code[U]?=Ua i)(g:f.next=U)(c:s.stop=0)(d:i.rj=Uc)(h:cF T i a { f with next:=U+1 } s.tape s.out=(⟨a++[f.ry (U+1) [v]],s.tape,s.out⟩,0)):eP T a f (U+1) [v] s s:=
 ⟨s_,cE.step (jC (f:=f) (by rw[g];exact e)) d G_ c rfl⟩
def QS{y:List eM}{V:aC->aM->dZ aE}(Z:lZ R y V){d:Nat}{l r:aC}{w:Bool}{j:cY}{c:List aI}{s:aM}{v:aE}{T:aM}(hl:rk R Uc j d l)(hr:rk R Uc j d r)
 (h:gD j p (aG R j d l p++[.rs w (p+Ty (aG R j d l p)+1+Ty (aG R j d r (p+Ty (aG R j d l p)+1))+1)]++aG R j d r (p+Ty (aG R j d l p)+1)++[.sk]) c f s) (u:oG V w l r s=Ua (v,T)):
 eP y c f (p+Ty (aG R j d l p)+1+Ty (aG R j d r (p+Ty (aG R j d l p)+1))+1) [v] s T:=by
 generalize Q:aG R j d l p=k at*;generalize P:aG R j d r (p+Ty k+1)=B at*;generalize hq:p+Ty k+1+Ty B+1=q at*;unfold oG at u;cases Y:V l s with
 |none=>grind
 |some x=>
  obtain⟨a,s1⟩:=x;rw[Y]at u;simp only at u;have hc:=h.code;have N:f.fn.code[p+Ty k]?=Ua (.rs w q):=(hc.left.left.right).xz
  have ab:eR f.fn.code (p+Ty k+1) B:=by grind [eR.right,eR]
  have S:f.fn.code[p+Ty k+1+Ty B]?=Ua .sk:=by have:=hc.right.xz;grind
  have E:=Z d l j p c f s a s1 hl { h with code:=by grind [eR] } Y
  rw[Q]at E;by_cases L:s1.stop=0
  rotate_left
  .grind [cE.any,eP,aM.or]
  have C:s1.f_=cW (c++[f]):=(E.1 L).trans h.f_;have m:=nD (f:=f) (n:=p+Ty k) (vs:=[a]) N;have aa:=λt o=>oI (si:=y) (i:=.rs w q) (below:=c) (f:=f.ry (p+Ty k+1) [a]) (t:=t) (o:=o) s_ s_ s_ s_
  have M:(f.ry (p+Ty k+1) [a]).last=a:=kA _ _ _;by_cases O:a.c_=1
  rotate_left
  .rw[ef (aD)]at u;simp only[ga,gh]at u;obtain⟨rfl,rfl⟩:=u;have e:s1.or 2={ s1 with stop:=2 }:=by grind [aM.or]
   rw[e];refine⟨s_,E.2.trans (λ_=>cE.stops (st:=2) (m1:=⟨c++[f.ry (p+Ty k+1) []],s1.tape,s1.out⟩) m ?_ d_ d_ rfl rfl ?_) aD⟩
   .grind [aR,lO]
   exact kN (s:={ s1 with stop:=2 }) (g:=f.ry (p+Ty k+1) []) C rfl rfl rfl rfl
  rw[ea aD]at u;by_cases W:decide (a.n=1)=w
  .rw[ef W]at u;simp only[ga,gh]at u;obtain⟨rfl,rfl⟩:=u;refine⟨E.1,E.2.trans (λ_=>cE.step m aJ ?_ L aJ) aD⟩
   grind [aR,lO,lM,aI.ry]
  rw[ea W]at u
  have hE:cE y ⟨c++[f],s.tape,s.out⟩ s s1 ⟨c++[f.ry (p+Ty k+1) []],s1.tape,s1.out⟩:=by
   refine E.2.trans (λ_=>cE.step m aJ ?_ L aJ) aD
   grind [aR,lO]
  cases F:V r s1 with
  |none=>grind
  |some x2=>
   obtain⟨b,s2⟩:=x2;rw[F]at u;simp only at u;have U:=Z d r j (p+Ty k+1) c (f.ry (p+Ty k+1) []) s1 b s2 hr (by grind [gD.ry,eP]) F
   rw[P]at U;have D:cE y ⟨c++[f],s.tape,s.out⟩ s s2 ⟨c++[(f.ry (p+Ty k+1) []).ry (p+Ty k+1+Ty B) [b]],s2.tape,s2.out⟩:=(by grind [cE.trans,eP])
   have H:(f.ry (p+Ty k+1) []).ry (p+Ty k+1+Ty B) [b]=f.ry (p+Ty k+1+Ty B) [b]:=by simp[aI.ry]
   rw[H]at D;by_cases I:s2.stop=0
   rotate_left
   .grind [eP,aM.or,cE]
   have G:s2.f_=cW (c++[f]):=(U.1 I).trans C;have z:=nD (f:=f) (n:=p+Ty k+1+Ty B) (vs:=[b]) S;have X:=λt o=>oI (si:=y) (i:=.sk) (below:=c) (f:=f.ry (p+Ty k+1+Ty B+1) [b]) (t:=t) (o:=o) s_ s_ s_ s_
   have K:(f.ry (p+Ty k+1+Ty B+1) [b]).last=b:=kA _ _ _;by_cases J:b.c_=1
   .rw[ea aD]at u;simp only[ga,gh]at u;obtain⟨rfl,rfl⟩:=u;refine⟨(by grind [eP]),D.trans (λ_=>cE.step z rfl ?_ I rfl) aD⟩
    grind [aR,lO,lM]
   rw[ef (aD)]at u;simp only[ga,gh]at u;obtain⟨rfl,rfl⟩:=u;have e:s2.or 2={ s2 with stop:=2 }:=by grind [aM.or]
   rw[e];refine⟨s_,D.trans (λ_=>cE.stops (st:=2) (m1:=⟨c++[f.ry (p+Ty k+1+Ty B+1) []],s2.tape,s2.out⟩) z ?_ d_ d_ rfl rfl ?_) aD⟩
   .grind [aR,lO]
   exact kN (s:={ s2 with stop:=2 }) (g:=f.ry (p+Ty k+1+Ty B+1) []) G rfl rfl rfl rfl
theorem VB(f:aI)(n:Nat)(a:List aE):(f.ry n a).n_ (Ty a)=f.ry n []:=by simp[aI.ry,aI.n_]
theorem WU(f:aI)(n:Nat)(a:List aE):(f.ry n a).many (Ty a)=a:=by simp[aI.ry,aI.many]
theorem WK(f:aI)(n:Nat)(v w:aE):(f.ry n [v,w]).last=w:=by simp[aI.ry,aI.last]
theorem U8(f:aI)(n:Nat)(v w:aE):(f.ry n [v,w]).pop=f.ry n [v]:=by grind [aI.ry,aI.pop]
def qM{B:aC->aM->dZ (aE × Bool)}{r:List aE->aE × Nat}(H:∀l s,jQ R B Y l s=Ua ((r l).1,s.or (r l).2))(E:∀l,(r l).2≠9)
 {V:aC->aM->dZ aE} (G:lZ R T V) {d:Nat} {c:cY} {p:Nat} {b:List aI} {f:aI} {s:aM} {v:aE} {w:aM} (F:∀k∈Y.y_,rk R Uc c d k)
 (h:gD c p (bB (aG R c d) Y.y_ p++[i]) b f s) (C:i.rj=Uc) (q:(match fF V Y.y_ s with|none=>Ub|some (l,m)=>if m.stop≠0 then Ua (aY,m)else jQ R B Y l m)=Ua (v,w))
 (A:∀(n:Nat) (g:List aE) t o,Ty g=Ty Y.y_->((r g).2=0->cF T i b (f.ry n g) t o=(⟨b++[f.ry n [(r g).1]],t,o⟩,0))/\((r g).2≠0->cF T i b (f.ry n g) t o=(⟨b++[f.ry n []],t,o⟩,(r g).2))):
 eP T b f (p+Ty (bB (aG R c d) Y.y_ p)+1) [v] s w:=by
 cases z:fF V Y.y_ s with
 |none=>grind
 |some x=>
  obtain⟨l,m⟩:=x;rw[z]at q;simp only at q;obtain⟨D,u⟩:=kY G Y.y_ p f s l m F { h with code:=h.code.left } z
  by_cases y:m.stop=0
  .rw[ea (by simp[y]),H]at q
   obtain⟨rfl,rfl⟩:=q;refine D.then h.f_ (i:=i) (r:=r l) h.code.right.xz C (aD) (s_) (E l) λ_=>?_
   exact A _ l _ _ (u y)
  grind [cE.any,eP]
def vP(Y_:c:=by
 simp only[ga,gh]at he;obtain⟨rfl,rfl⟩:=he;rw[hc]at h ⊢
 exact eP.push h.code.xz h.next h.stop aJ (by simp[cF,aR,aI.push,aI.ry])):c:=Y_
def EA(Y_:c:=by
 rw[hlen];refine qM (r:=λl=>dI a.op (l.head?.getD aY)) ((by grind [jQ])) (λl=>VP _ _) HV G_ h rfl he λn vs t o hn=>?_
 rw[hk]at hn;match vs,hn with
 |[x],_=>
  grind [aR,lO,kA,lM]):c:=Y_
def Nv{D:Nat}(O:∀f∈R,gX R D f){V:aC->aM->dZ aE}{B:aC->aM->dZ (aE × Bool)}(HV:lZ R (dW R D) V)(HB:qP R (dW R D) B):lZ R (dW R D) λn s=>gR R V B n s:=by
 intro d a b p q f s v X J h he;cases d with
 |zero=>exact J.elim
 |succ d=>
 simp only at he;unfold gR at he;have L:∀(i:aO) (g:aI) t o,i≠.sg->i≠.read->i≠.print->(∀k n,i≠.call k n)->cF (dW R D) i q g t o=(⟨q++[(aR i g).1],t,o⟩,(aR i g).2):=(by grind [oI])
 rcases J with ⟨c|c|c,hk⟩|⟨c,hk,T⟩|⟨c,hk⟩|⟨c,l,r,hk,w,H⟩|⟨c|c,l,hk,w⟩|⟨c,hk,hc⟩|⟨c,l,r,hk,w,H⟩
 .have hc:aG R b (d+1) a p=[.push (bA (((dS 0 a.x_).getD 0:Nat):Int))]:=by rw[aG];simp[c]
  rw[ef lg]at he
  exact vP
 .have hc:aG R b (d+1) a p=[.push (bQ a.x_)]:=by rw[aG];simp[c]
  rw[ea lg,ef lg]at he
  exact vP
 .have hc:aG R b (d+1) a p=[.push (cG (a.x_==[116,114,117,101]))]:=by rw[aG];simp[c]
  rw[ea lg,ea lg,ef lg]at he
  exact vP
 .have hc:aG R b (d+1) a p=[.load (dQ b a.x_)]:=by rw[aG];simp[c]
  rw[ea lg,ea lg,ea lg,ef lg]at he
  simp only[ga,gh]at he;obtain⟨K,rfl⟩:=he;rw[hc]at h ⊢
  rw[zL h.f_,h.xw]at K;obtain⟨U,P,_⟩:=BD b f.g_ a.x_ h.nodup T h.g_;rw[U,P]at K;exact eP.push h.code.xz h.next h.stop aJ (by grind [aR,aI.push,aI.ry])
 .have hc:aG R b (d+1) a p=bB (aG R b d) a.y_ p++[.list (Ty a.y_)]:=by rw[aG];simp[c]
  rw[ea lg,ea lg,ea lg,ea lg,ea lg]at he
  rw[hc]at h ⊢
  have hlen:p+Ty (bB (aG R b d) a.y_ p++[aO.list (Ty a.y_)])=p+Ty (bB (aG R b d) a.y_ p)+1:=G_
  rw[hlen];refine qM (r:=λl=>(bG l,if 200<aK (bG l)then 6 else 0)) ((by grind [jQ])) (G_) HV hk h rfl he λn vs t o hn=>?_
  grind [aR,jG,VB,WU,lM]
 .have hc:aG R b (d+1) a p=bB (aG R b d) a.y_ p++[.index]:=by rw[aG];simp[c]
  rw[ea lg,ea lg,ea lg,ea lg,ea lg]at he
  rw[hc]at h ⊢
  have hlen:p+Ty (bB (aG R b d) a.y_ p++[aO.index])=p+Ty (bB (aG R b d) a.y_ p)+1:=G_
  rw[hlen];refine qM (r:=λl=>cA (l.head?.getD aY) ((l.drop 1).head?.getD aY)) ((by grind [jQ])) (λl=>MB _ _) HV G_ h rfl he λn vs t o hn=>?_
  rw[hk]at hn;match vs,hn with
  |[x,y],_=>
   grind [aR,WK,U8,lO,kA,lM]
 .have hc:aG R b (d+1) a p=bB (aG R b d) a.y_ p++[.unary [45]]:=by rw[aG];simp[c]
  rw[ea lg,ea lg,ea lg,ea lg,ea lg]at he
  rw[hc]at h ⊢
  have hlen:p+Ty (bB (aG R b d) a.y_ p++[aO.unary [45]])=p+Ty (bB (aG R b d) a.y_ p)+1:=G_
  exact EA
 .have hc:aG R b (d+1) a p=bB (aG R b d) a.y_ p++[.unary [33]]:=by rw[aG];simp[c]
  rw[ea lg,ea lg,ea lg,ea lg,ea lg]at he
  rw[hc]at h ⊢
  have hlen:p+Ty (bB (aG R b d) a.y_ p++[aO.unary [33]])=p+Ty (bB (aG R b d) a.y_ p)+1:=G_
  exact EA
 .rw[ea lg,ea lg,ea lg,ea lg,ea lg]at he
  have m:∀l s,jQ R B a l s=jV R B a.x_ l s:=(by grind [jQ])
  have hlen:∀i:aO,p+Ty (bB (aG R b d) a.y_ p++[i])=p+Ty (bB (aG R b d) a.y_ p)+1:=(by grind)
  rcases hc with ⟨F,hn⟩|⟨F,_,hn⟩|⟨Q,S,_,hn⟩
  .have hc:aG R b (d+1) a p=bB (aG R b d) a.y_ p++[.length]:=by rw[aG];grind
   rw[hc]at h ⊢
   rw[hlen];refine qM (r:=λl=>dO (l.head?.getD aY)) ((by grind [jV])) (λl=>JN _) HV hk h rfl he λn vs t o C=>?_
   rw[hn]at C;match vs,C with
   |[x],_=>
    grind [aR,lO,kA,lM]
  .have hc:aG R b (d+1) a p=bB (aG R b d) a.y_ p++[.read]:=by rw[aG];grind
   have hk0 :=jt hn;rw[hk0]at he;simp only[fF]at he;rw[ea (by simp[h.stop]),m]at he
   rw[hc,hk0]at h ⊢
   simp only[bB,ie,fk,fq]at h ⊢
   unfold jV at he;rw[ea (by simp[F]),ef (by simp[F])]at he
   have hfetch :=jC (by rw[h.next];exact h.code.xz)
   cases u:s.tape with
   |nil=>
    rw[u]at he;simp only[ga,gh]at he;obtain⟨rfl,rfl⟩:=he;have e:s.or 7={ s with stop:=7 }:=by grind [aM.or,gD.stop]
    rw[e];refine⟨s_,cE.stops (st:=7) hfetch (by rw[u];rfl) d_ d_ rfl rfl ?_⟩
    exact kN (s:={ s with stop:=7 }) (g:={ f with next:=f.next+1 }) h.f_ rfl rfl rfl rfl
   |cons t r=>
    rw[u]at he;simp only[ga,gh]at he;obtain⟨rfl,rfl⟩:=he;refine⟨s_,cE.step hfetch rfl ?_ h.stop rfl⟩
    grind [cF,aI.push,aI.ry,gD.next]
  have hc:aG R b (d+1) a p=bB (aG R b d) a.y_ p++[.call (dV R a.x_) (Ty a.y_)]:=by grind [aG]
  rw[hc]at h ⊢
  rw[hlen];cases w:fF V a.y_ s with
  |none=>grind
  |some x=>
   obtain⟨l,I⟩:=x;rw[w]at he;simp only at he;obtain⟨h1,G⟩:=kY HV a.y_ p f s l I hk { h with code:=h.code.left } w
   by_cases A:I.stop=0
   .rw[ea (by simp[A]),m]at he
    have M:=G A;have N:=h.code.right.xz;grind [YV,gD.f_,gD.deep,cE.trans,eP]
   grind [cE.any,eP]
 have z:=oT c
 have E:a.op≠[48]/\a.op≠[115]/\a.op≠[98,111,111,108]/\a.op≠[110,97,109,101]/\a.op≠[108,105,115,116]/\a.op≠[99,97,108,108]/\a.op≠[105,110,100,101,120]/\a.op≠[45,120]/\a.op≠[33,120]:=by rcases z with h|h|h|h|h|h|h|h|h|h|h<;>rw[h]<;>decide
 obtain⟨n1,n2,Z,n4,Y,n6,n7,n8,n9⟩:=E;rw[ea G_,ea G_,ea G_,ea G_]at he
 by_cases W:a.op=[38,38]\/a.op=[124,124]
 .have hc:aG R b (d+1) a p=aG R b d l p++[.rs (a.op==[124,124]) (p+Ty (aG R b d l p)+1+Ty (aG R b d r (p+Ty (aG R b d l p)+1))+1)]++aG R b d r (p+Ty (aG R b d l p)+1)++[.sk]:=by grind [aG]
  rw[ef G_,hk]at he
  simp only at he;rw[hc]at h ⊢
  have:=QS HV w H h he;grind
 have hc:aG R b (d+1) a p=bB (aG R b d) a.y_ p++[.binary a.op]:=by grind [aG]
 rw[ea G_]at he
 rw[hc]at h ⊢
 have hlen:p+Ty (bB (aG R b d) a.y_ p++[aO.binary a.op])=p+Ty (bB (aG R b d) a.y_ p)+1:=G_
 rw[hlen];refine qM (r:=λl=>dJ a.op (l.head?.getD aY) ((l.drop 1).head?.getD aY)) ((by grind [jQ])) (λl=>TT _ _ _) HV G_ h rfl he λn vs t o hn=>?_
 rw[hk]at hn;match vs,hn with
 |[x,y],_=>
  grind [aR,WK,U8,lO,kA,lM]
def zI{si:List eM}{e_:cY}{l_:Nat}{s:aM}(h:qG e_ U (.begin l_ e_::l) W f s):
 (s.q_ l_).tape=s.tape/\(s.q_ l_).out=s.out/\((s.q_ l_).stop=0->gD e_ (U+1) l W { f with next:=U+1,l_:=l_,e_:=e_ } (s.q_ l_))/\
 cE si ⟨W++[f],s.tape,s.out⟩ s (s.q_ l_) ⟨W++[{ f with next:=U+1,l_:=l_,e_:=e_ }],s.tape,s.out⟩:=by
 have hfetch :=jC (by rw[h.next];exact h.code.xz)
 have d:s.sd (λf=>{ f with l_:=l_ })={ s with f_:=cW (W++[{ f with next:=U+1,l_:=l_,e_:=e_ }]) }:=by unfold aM.sd;rw[h.f_];simp[cW,kL]
 have b:∀t o,cF si (.begin l_ e_) W { f with next:=f.next+1 } t o=(⟨W++[{ f with next:=U+1,l_:=l_,e_:=e_ }],t,o⟩,0):=(by grind [aR,qG.next,cF])
 have j:∀i,(⟨(cW (W++[{ f with next:=U+1,l_:=l_,e_:=e_ }])).map λf=>(f.name,f.l_),aM.g_ { s with f_:=cW (W++[{ f with next:=U+1,l_:=l_,e_:=e_ }]) },s.out,i⟩:gC)=rz ⟨W++[{ f with next:=U+1,l_:=l_,e_:=e_ }],s.tape,s.out⟩ i:=λi=>
  kN (s:={ s with f_:=cW (W++[{ f with next:=U+1,l_:=l_,e_:=e_ }]) }) (g:={ f with next:=U+1,l_:=l_,e_:=e_ }) rfl rfl rfl rfl rfl
 unfold aM.q_;rw[d];simp;by_cases e:Ty s.rm=500
 .rw[ef e];refine⟨aJ,aJ,(by grind [aM.notes]),ec ⟨by simp[aM.notes],[rz ⟨W++[{ f with next:=U+1,l_:=l_,e_:=e_ }],s.tape,s.out⟩ 9],?_,_,_,[],_,.refl _ _,?_,rfl⟩⟩
  .grind [aM.final,aM.notes,aM.g_]
  rw[e];exact .fuel hfetch aJ (b _ _)
 rw[ea e];refine⟨aJ,aJ,λ_=>⟨h.code.tail,aJ,aJ,h.nodup,h.g_,h.stop,aJ,h.deep⟩,ed ⟨h.stop,[rz ⟨W++[{ f with next:=U+1,l_:=l_,e_:=e_ }],s.tape,s.out⟩ 0],?_,?_⟩⟩
 .grind [aM.notes,qG.stop]
 simp [aM.notes,ew];exact .vo hfetch aJ (b _ _) e (.refl _ _)
theorem uo{e c:Type}(l:List e)(m:List c):l.zip (m.take (Ty l))=l.zip m:=by
 induction l generalizing m with
 |nil=>simp
 |cons a l d=>cases m with
  |nil=>simp
  |cons b m=>simp[d]
theorem GN{d c:Type}:∀(l:List d) (m:List c) (k:Nat) (x:c) (a:d),l[k]?=Ua a->l.zip (m.set k x)=(l.zip m).set k (a,x)
 |[],_,_,_,_,h=>by simp at h
 |y::l,[],k,x,a,_=>by simp
 |y::l,b::m,0,x,a,h=>by simp at h;simp[h]
 |y::l,b::m,k+1,x,a,h=>by simp[GN l m k x a h]
def mB{V:aC->aM->dZ aE}(B:lZ R T V){c:cY}{s:aM}{l:List aC}{s1 n:aM}{x:Nat}(w:∀k∈l,rk R Uc X U k)
 (h:gD X p (bB (aG R X U) l p++[i]) W f s) (A:fF V l s=Ua (Z,s1)) (D:i.rj=Uc) (t:s1.stop=0)
 (y:(n.stop=0/\x=0/\n.rm=s1.rm/\∃g:aI,g.fn=f.fn/\g.ops=f.ops/\g.next=p+Ty (bB (aG R X U) l p)+1/\Ty c<=Ty g.g_/\n.f_=cW W++[kL g c]/\cF T i W (f.ry (p+Ty (bB (aG R X U) l p)+1) Z) s1.tape s1.out=(⟨W++[g],n.tape,n.out⟩,0))\/
   (n={ s1 with stop:=x }/\x≠0/\x≠9/\cF T i W (f.ry (p+Ty (bB (aG R X U) l p)+1) Z) s1.tape s1.out=(⟨W++[f.ry (p+Ty (bB (aG R X U) l p)+1) []],s1.tape,s1.out⟩,x))):
 dT T W f (p+Ty (bB (aG R X U) l p)+1) c (aY,Uc) s n:=by
 obtain⟨r,u⟩:=kY B l p f s Z s1 w { h with code:=h.code.left } A
 have j:=nD (f:=f) (vs:=Z) h.code.right.xz;rcases y with ⟨F,_,q,g,H,E,K,G,J,C⟩|⟨rfl,q,z,v⟩
 .grind [cE.trans,cE.step,dT,eP]
 refine ec (ec ⟨q,λI=>r.2.trans (λ_=>cE.stops (st:=x) j v q z aJ aJ ?_) aD⟩)
 exact kN (s:={ s1 with stop:=x }) (g:=f.ry (p+Ty (bB (aG R X U) l p)+1) []) ((r.1 t).trans h.f_) rfl rfl rfl rfl
theorem dT.after{a:List aI}{f1:aI}{b:cY}{r:aE × Bool}{s d e:aM}(j:f1.fn=f.fn)(i:f1.ops=f.ops)(g:cE T ⟨a++[f],s.tape,s.out⟩ s d ⟨a++[f1],d.tape,d.out⟩)(k:d.stop=0)(h:dT T a f1 U b r d e):dT T a f U b r s e:=by grind [cE.trans,dT]
theorem dT.halted{r:aE × Bool}{s d:aM}(e:cE T ⟨W++[f],s.tape,s.out⟩ s d F)(g:d.stop≠0):dT T W f U X r s d:=(by grind [dT,cE])
def xE{V:aC->aM->dZ aE}(z:lZ R T V){q:Nat}{below:List aI}{s:aM}{t:Bool}{l:aM}(A:rk R Uc X U Y)
 (h:gD X p (aG R X U Y p++[.skip q]) below f s) (n:kF V Y s=Ua (t,l)):
 (l.stop=0->l.f_=s.f_)/\cE T ⟨below++[f],s.tape,s.out⟩ s l ⟨below++[f.ry (if t then p+Ty (aG R X U Y p)+1 else q) []],l.tape,l.out⟩/\(l.stop≠0->t=Uc):=by
 unfold kF at n;cases w:V Y s with
 |none=>grind
 |some x=>
  obtain⟨a,s1⟩:=x;rw[w]at n;simp at n;have r:=z U Y X p below f s a s1 A { h with code:=h.code.left } w
  by_cases v:s1.stop=0
  rotate_left
  .grind [cE,aM.or,eP]
  have j:=nD (f:=f) (vs:=[a]) h.code.right.xz;have y:=λt o=>oI (si:=T) (i:=.skip q) (below:=below) (f:=f.ry (p+Ty (aG R X U Y p)+1) [a]) (t:=t) (o:=o) s_ s_ s_ s_
  by_cases u:a.c_=1
  .rw[ea aD]at n;obtain⟨rfl,rfl⟩:=n;refine⟨r.1,r.2.trans (λ_=>cE.step j aJ ?_ v aJ) (aD),aD⟩
   grind [aR,kA,lO,aI.ry]
  rw[ef (aD)]at n;obtain⟨rfl,rfl⟩:=n;have e:s1.or 2={ s1 with stop:=2 }:=by grind [aM.or]
  rw[e];refine⟨s_,r.2.trans (λ_=>cE.stops (st:=2) (m1:=⟨below++[f.ry (p+Ty (aG R X U Y p)+1) []],s1.tape,s1.out⟩) j ?_ d_ d_ rfl rfl ?_) (aD),s_⟩
  .grind [aR,kA,lO]
  exact kN (s:={ s1 with stop:=2 }) (g:=f.ry (p+Ty (aG R X U Y p)+1) []) ((r.1 v).trans h.f_) rfl rfl rfl rfl
theorem gD.st{b:cY}{e:Nat}{g:List aO}{a:List aI}{s d:aM}(h:gD b U l a f s)(k:eR f.fn.code e g)(j:d.stop=0)(i:d.f_=s.f_):qG b e g a (f.ry e []) d:=
 ⟨k,rfl,h.nodup,h.g_,j,by rw[i,h.f_];simp[cW,kL,aI.ry,h.xw],h.deep⟩
def lF(f:aI)(n:Nat):(f.ry n []).ops=f.ops:=by simp[aI.ry]
def EX{g:List eM}{V:aC->aM->dZ aE}{B:aC->aM->dZ (aE × Bool)}(HV:lZ R g V)(HB:qP R g B){d:Nat}{n c b:aC}{e_:cY}{q:Nat}{a:List aI}{f0:aI}
 (hc:rk R Uc e_ d c) (hb:rp (cO R d) e_ b.y_) (M:aG R e_ d c (p+1)=l) (L:bK (aU R d) e_ b.y_ (p+1+Ty l+1)=O) (hq:q=p+1+Ty l+1+Ty O+1)
 (h:eR f0.fn.code p (.begin n.l_ e_::l++[.skip q]++O++[.jump p])) (D:e_.Nodup) (T:Ty a+1<=16):
 ∀(k:Nat) (t:Bool) (f:aI) (s:aM) (r:aE × Bool) (P:aM),f.fn=f0.fn->f.ops=f0.ops->f.e_=e_->Ty e_<=Ty f.g_->(s.stop≠0->t=Uc)->s.stop=0->f.next=(if t then p+1+Ty l+1 else q)->s.f_=cW (a++[f])->iL V B n c b k t s=Ua (r,P)->
  dT g a f q e_ r s P
 |0,_,_,_,_,_,_,_,_,_,_,_,_,_,i=>by simp[iL]at i
 |k+1,t,f,s,r,P,J,H,ad,U,ae,hs,F,ag,i=>by
  rw[iL]at i;cases t with
  |false=>
   grind [cE.refl,cW,dT]
  |true=>
   rw[ea (by simp[hs])]at i
   simp only[if_true]at F
   have c1:eR f.fn.code (p+1+Ty l+1) O:=by rw[J];have:=h.left.right;grind
   have c2:f.fn.code[p+1+Ty l+1+Ty O]?=Ua (.jump p):=by rw[J];have:=h.right.xz;grind
   cases hB:B b s with
   |none=>grind
   |some x=>
    obtain⟨⟨v,e⟩,j⟩:=x;rw[hB]at i;simp only at i;have E:=HB d b e_ (p+1+Ty l+1) a f s (v,e) j hb ⟨G_,F,D,U,hs,by grind [cW],T⟩ hB
    rw[L]at E;rcases E with ⟨N,ke,f',k1,k2,k3,k4,k5,k6⟩|⟨N,ke,k5,k6⟩|⟨N,k6⟩
    .obtain⟨rfl,rfl⟩:=gn ke;rw[ea (by simp[N])]at i
     have Q:f'.fn.code[f'.next]?=Ua (.jump p):=G_
     have hj:cE g ⟨a++[f'],j.tape,j.out⟩ j j ⟨a++[{ f' with next:=p }],j.tape,j.out⟩:=cE.step (jC Q) rfl rfl N rfl
     have W:qG e_ p (.begin n.l_ e_::(l++[.skip q])) a { f' with next:=p } j:=⟨by grind [eR.left],rfl,D,k4,N,by rw[k5];rfl,T⟩
     obtain⟨b1,b2,b3,b4⟩:=zI (si:=g) W;generalize af:({ f' with next:=p+1,l_:=n.l_,e_:=e_ }:aI)=m at*
     have hE:cE g ⟨a++[f],s.tape,s.out⟩ s (j.q_ n.l_) ⟨a++[m],(j.q_ n.l_).tape,(j.q_ n.l_).out⟩:=by grind [cE.trans]
     generalize j.q_ n.l_=X at*;by_cases z:X.stop=0
     rotate_left
     .rw[ef z]at i;cases k with
      |zero=>simp[iL]at i
      |succ k=>
       grind [iL,dT.halted]
     rw[ea pz]at i
     cases K:kF V c X with
     |none=>grind
     |some y=>
      obtain⟨S,I⟩:=y;rw[K]at i;simp only at i;have Y:=b3 z;have G:gD e_ (p+1) (aG R e_ d c (p+1)++[.skip q]) a m X:=G_
      obtain⟨d1,Z,d3⟩:=xE HV hc G K;rw[M]at Z;have ac:cE g ⟨a++[f],s.tape,s.out⟩ s I ⟨a++[m.ry (if S then p+1+Ty l+1 else q) []],I.tape,I.out⟩:=hE.trans (λ_=>Z) aD
      have ab:m.fn=f.fn:=G_
      have A:m.ops=f.ops:=G_
      have u:m.e_=e_:=G_
      have o:Ty e_<=Ty m.g_:=G_
      by_cases w:I.stop=0
      .have aa:=EX HV HB hc hb M L hq h D T k S (m.ry (if S then p+1+Ty l+1 else q) []) I r P (by show m.fn=_;grind) (by rw[lF,A,H]) u o d3 w rfl (by rw[d1 w,Y.f_];simp[cW,kL,aI.ry]) i
       grind [dT.after,aI.ry]
      have:=d3 w;subst this;cases k with
      |zero=>simp[iL]at i
      |succ k=>
       grind [iL,dT.halted]
    .grind [dT]
    grind [dT]
theorem WS(f:aI)(n:Nat)(a:List aE)(v:aE):(f.ry n (a++[v])).last=v:=by grind [aI.ry,aI.last]
theorem M9(f:aI)(n:Nat)(a:List aE)(v:aE):(f.ry n (a++[v])).pop=f.ry n a:=by grind [aI.ry,aI.pop]
def D5{V:aC->aM->dZ aE}(E:lZ R T V){s:aM}{s1:aM}(y:Y.op=[115,101,116])(H:Y.x_∈X)(I:Y.y_≠[])(B:∀k∈Y.y_,rk R Uc X U k)
 (h:gD X p (bB (aG R X U) Y.y_ p++[.assign (dQ X Y.x_) (Ty Y.y_-1)]) W f s) (D:fF V Y.y_ s=Ua (Z,s1)) (u:s1.stop=0):
 dT T W f (p+Ty (bB (aG R X U) Y.y_ p)+1) X (aY,Uc) s (fY Y Z s1):=by
 obtain⟨M,A⟩:=kY E Y.y_ p f s Z s1 B { h with code:=h.code.left } D
 have J:=A u;have q:s1.f_=cW (W++[f]):=(M.1 u).trans h.f_;have m:s1.g_=X.reverse.zip f.g_:=by rw[zL q,h.xw]
 obtain⟨N,P,S⟩:=BD X f.g_ Y.x_ h.nodup H h.g_;have F:Z≠[]:=(by grind)
 obtain⟨i,v,rfl⟩:∃i v,Z=i++[v]:=by
  rcases gB Z with K|⟨b,x,K⟩
  .grind
  grind
 have z:Ty Y.y_-1=Ty i:=G_
 rw[z]at h;have L:=qK H;generalize w:p+Ty (bB (aG R X U) Y.y_ p)+1=C
 have j:fY Y (i++[v]) s1=(let r:=jI (f.g_[dQ X Y.x_]?.getD aY) i v;if r.2=0 then s1.sd (λf=>{ f with g_:=f.g_.set (dQ X Y.x_) (((f.g_[dQ X Y.x_]?.map (·.1)).getD []),r.1) })else { s1 with stop:=r.2 }):=by
  unfold fY;rw[ea (by simp[y]),ea (by simp[y]),ef (by simp[y]),m,N]
  have O:(i++[v]).getLast?.getD aY=v:=s_
  have Q:(i++[v]).dropLast=i:=(by simp)
  grind [jI,jG]
 rw[j]
 have g:cF T (.assign (dQ X Y.x_) (Ty i)) W (f.ry C (i++[v])) s1.tape s1.out=(let r:=jI (f.g_[dQ X Y.x_]?.getD aY) i v;if r.2=0 then (⟨W++[{ f.ry C []with g_:=f.g_.set (dQ X Y.x_) r.1 }],s1.tape,s1.out⟩,0)else (⟨W++[f.ry C []],s1.tape,s1.out⟩,r.2)):=by grind [aI.ry,aR,WS,M9,WU,VB,cF]
 have t:(jI (f.g_[dQ X Y.x_]?.getD aY) i v).2≠9:=by grind [jI,jG,vK]
 simp only at g ⊢
 generalize jI (f.g_[dQ X Y.x_]?.getD aY) i v=r at g t ⊢
 by_cases G:r.2=0
 .rw[ef G]at g ⊢
  rw[<-w]at g ⊢
  refine mB E (x:=0) B h D aJ u (ed ⟨u,aJ,aJ,{ f.ry (p+Ty (bB (aG R X U) Y.y_ p)+1) []with g_:=f.g_.set (dQ X Y.x_) r.1 },rfl,?_,rfl,?_,?_,g⟩)
  .simp[aI.ry]
  .grind [gD.g_]
  unfold aM.sd;rw[q];simp only[cW,fw,fm,gg,List.getLast?_append,jz,Option.some_or,iu,Option.toList_some,List.dropLast_concat];grind [kL,aI.ry,gD.xw,GN]
 rw[ea G]at g ⊢
 rw[<-w]at g ⊢
 exact mB E (x:=r.2) B h D aJ u (G_)
def KQ(fs:List aC)(si:List eM)(S:aC->aM->dZ (aE × Bool)):Prop:=
 ∀(d:Nat) (a:aC) (e_:cY) (p:Nat) (below:List aI) (f:aI) (s:aM) (r:aE × Bool) (s':aM),cO fs d e_ a->qG e_ p (aU fs d e_ a p).1 below f s->S a s=Ua (r,s')->
  dT si below f (p+(aU fs d e_ a p).1.length) (cR e_ a) r s s'
def uU{V:aC->aM->dZ aE}{s b:aM}(h:fF V [Y] s=Ua (Z,b))(c:s.stop=0):∃x,Z=[x]:=by grind [fF]
def uA(c:aC->Nat->List aO)(v:aC)(p:Nat):bB c [v] p=c v p:=by simp[bB]
def P0{D:List eM}{V:aC->aM->dZ aE}{B:aC->aM->dZ (aE × Bool)}(I:lZ R D V)(HB:qP R D B):KQ R D λn s=>mR V B n s:=by
 intro d a e_ p j f s r s' ha h i;cases d with
 |zero=>exact ha.elim
 |succ d=>
 simp only at i;unfold mR at i;simp only at i
 have l:∀(c:List aO),(aU R (d+1) e_ a p).1=.begin a.l_ e_::c->((s.q_ a.l_).stop=0->gD e_ (p+1) c j { f with next:=p+1,l_:=a.l_,e_:=e_ } (s.q_ a.l_)->
  dT D j { f with next:=p+1,l_:=a.l_,e_:=e_ } (p+(aU R (d+1) e_ a p).1.length) (cR e_ a) r (s.q_ a.l_) s')->dT D j f (p+(aU R (d+1) e_ a p).1.length) (cR e_ a) r s s':=λc U k=>by
  rw[U]at h;obtain⟨b1,b2,b3,b4⟩:=zI (si:=D) h;rw[<-b1,<-b2]at b4;by_cases m:(s.q_ a.l_).stop=0
  .refine dT.after (f1:={ f with next:=p+1,l_:=a.l_,e_:=e_ }) rfl rfl ?_ m (G_)
   grind
  grind [dT,cE]
 have W:a.op≠[118,97,114]->cR e_ a=e_:=(by grind [cR])
 rcases ha with ⟨m,hb,t,v,A,hv,al⟩|⟨m,hx,ab,A⟩|⟨m,c,t,A,U,ht⟩|⟨m,c,b,A,U,hb⟩|⟨m,A⟩|⟨m,v,A,hv⟩|⟨m,v,A,hv⟩
 .have E:(aU R (d+1) e_ a p).1=aO.begin a.l_ e_::(aG R e_ d v (p+1)++[aO.declare (Ty e_)]):=by rw[aU];grind
  refine l _ E λz hat=>?_
  rw[ea pz,ea lu,ea lu,ea lu,ef lu,A]at i
  simp only[List.drop_succ_cons,List.drop_zero]at i;have ac:cR e_ a=t.x_::e_:=by grind [cR]
  cases w:fF V [v] (s.q_ a.l_)with
  |none=>grind
  |some y=>
   obtain⟨Z,s1⟩:=y;rw[w]at i;simp only[ga,gh]at i;obtain⟨rfl,i⟩:=i;obtain⟨x,rfl⟩:=uU w z;have hat':gD e_ (p+1) (bB (aG R e_ d) [v] (p+1)++[.declare (Ty e_)]) j { f with next:=p+1,l_:=a.l_,e_:=e_ } (s.q_ a.l_):=by rw[uA];exact hat
   have C:∀k∈[v],rk R Uc e_ d k:=(by grind)
   obtain⟨O,Q⟩:=kY I [v] (p+1) _ _ _ _ C { hat' with code:=hat'.code.left } w
   have G:p+(aU R (d+1) e_ a p).1.length=p+1+Ty (bB (aG R e_ d) [v] (p+1))+1:=by grind [bB]
   rw[G];by_cases e:s1.stop=0
   rotate_left
   .grind [dT.halted,eP]
   rw[ef e]at i;have hfr :=(O.1 e).trans hat.f_;have o:fY a [x] s1=s1.sd λf=>{ f with g_:=f.g_++[(t.x_,x)] }:=by grind [fY]
   rw[o]at i;subst i;generalize T:({ f with next:=p+1,l_:=a.l_,e_:=e_ }:aI)=u at*
   have hvl :=hat.g_;have aj:Ty (u.g_.take (Ty e_)++[x])=Ty e_+1:=G_
   refine mB I (x:=0) C hat' w aJ e (ed ⟨e,aJ,aJ,{ u.ry (p+1+Ty (bB (aG R e_ d) [v] (p+1))+1) []with g_:=u.g_.take (Ty e_)++[x] },rfl,by simp[aI.ry],rfl,?_,?_,?_⟩)
   .grind
   .unfold aM.sd;rw[hfr,ac];simp only[cW,fw,fm,gg,List.getLast?_append,jz,Option.some_or,iu,Option.toList_some,List.dropLast_concat];congr 1
    simp only[kL,hat.xw,aI.ry,List.reverse_cons];rw[List.zip_append G_]
    have:=uo e_.reverse u.g_;rw[List.length_reverse]at this;rw[this];simp
   grind [aR,kA,lO,cF,aI.ry,aM.sd]
 .have E:(aU R (d+1) e_ a p).1=aO.begin a.l_ e_::(bB (aG R e_ d) a.y_ (p+1)++[aO.assign (dQ e_ a.x_) (Ty a.y_-1)]):=by rw[aU];simp[m]
  refine l _ E λz hat=>?_
  rw[ea pz,ea lu,ea lu,ea lu,ea lu]at i
  rw[W G_]
  cases w:fF V a.y_ (s.q_ a.l_)with
  |none=>grind
  |some y=>
   obtain⟨Z,s1⟩:=y;rw[w]at i;simp only[ga,gh]at i;obtain⟨rfl,i⟩:=i;have G:p+(aU R (d+1) e_ a p).1.length=p+1+Ty (bB (aG R e_ d) a.y_ (p+1))+1:=G_
   rw[G];by_cases e:s1.stop=0
   .rw[ef e]at i;subst i;exact D5 I m hx ab A hat w e
   rw[ea e]at i;subst i;exact dT.halted (kY I a.y_ (p+1) _ _ _ _ A { hat with code:=hat.code.left } w).1.2 e
 ·-- if
  rw[W G_]at l ⊢
  obtain⟨M,E,x,af,aa⟩:∃M,(aU R (d+1) e_ a p).1=aO.begin a.l_ e_::(aG R e_ d c (p+1)++[aO.skip (p+1+Ty (aG R e_ d c (p+1))+1+Ty (bK (aU R d) e_ t.y_ (p+1+Ty (aG R e_ d c (p+1))+1))+1)]++bK (aU R d) e_ t.y_ (p+1+Ty (aG R e_ d c (p+1))+1)++
   [aO.jump (p+1+Ty (aG R e_ d c (p+1))+1+Ty (bK (aU R d) e_ t.y_ (p+1+Ty (aG R e_ d c (p+1))+1))+1+Ty M)]++M)/\
   ∃x,a.y_=c::t::x/\((x=[]/\M=[])\/∃y,x=[y]/\rp (cO R d) e_ y.y_/\M=bK (aU R d) e_ y.y_ (p+1+Ty (aG R e_ d c (p+1))+1+Ty (bK (aU R d) e_ t.y_ (p+1+Ty (aG R e_ d c (p+1))+1))+1)):=by
   rcases A with A|⟨y,A,hy⟩
   .exact⟨[],by rw[aU];grind,[],A,s_⟩
   exact⟨_,by rw[aU];grind,[y],A,ec ⟨y,rfl,hy,rfl⟩⟩
  refine l _ E λz hat=>?_
  rw[ea pz,ef lu,af]at i
  simp only at i;generalize H:aG R e_ d c (p+1)=J at*;generalize S:bK (aU R d) e_ t.y_ (p+1+Ty J+1)=ct at*;generalize hq:p+1+Ty J+1+Ty ct+1=q at*;have K:p+(aU R (d+1) e_ a p).1.length=q+Ty M:=G_
  rw[K];cases L:kF V c (s.q_ a.l_)with
  |none=>grind
  |some y=>
   obtain⟨b,s1⟩:=y;rw[L]at i;simp only at i;generalize T:({ f with next:=p+1,l_:=a.l_,e_:=e_ }:aI)=u at*
   obtain⟨k1,P,k3⟩:=xE I (q:=q) U (p:=p+1) (below:=j) (f:=u) (by rw[H];exact { hat with code:=hat.code.left.left.left }) L
   rw[H]at P;by_cases e:s1.stop=0
   rotate_left
   .grind [dT,cE]
   rw[ea (by simp[e])]at i
   have F:=hat.code
   have ah:eR u.fn.code (p+1+Ty J+1) ct:=by have:=F.left.left.right;grind
   have ae:u.fn.code[p+1+Ty J+1+Ty ct]?=Ua (.jump (q+Ty M)):=by have:=F.left.right.xz;grind
   have ag:eR u.fn.code q M:=by have:=F.right;grind
   cases b with
   |true=>
    simp only[if_true]at i P;have X:=HB d t e_ (p+1+Ty J+1) j (u.ry (p+1+Ty J+1) []) s1 r s' ht (by grind [gD.st]) i
    rw[S]at X;refine dT.after (f1:=u.ry (p+1+Ty J+1) []) aJ (lF _ _) P e ?_;rcases X with ⟨j0,je,f',j1,j2,j3,j4,j5,j6⟩|hh
    .have ad:f'.fn.code[f'.next]?=Ua (.jump (q+Ty M)):=by rw[j1,j2];exact ae
     refine ed ⟨j0,je,{ f' with next:=q+Ty M },j1,rfl,j3,j4,j5,j6.trans (λ_=>cE.step (jC ad) rfl rfl j0 rfl) aD⟩
    exact ec hh
   |false=>
    simp only[Bool.false_eq_true,if_false]at i P;refine dT.after (f1:=u.ry q []) aJ (lF _ _) P e ?_;rcases aa with ⟨rfl,rfl⟩|⟨y,rfl,hy,ak⟩
    .simp only[ga,gh]at i;obtain⟨rfl,rfl⟩:=i;refine ed ⟨e,aJ,u.ry q [],aJ,aJ,aJ,hat.g_,?_,cE.refl _ _ _ e⟩;grind [gD.f_,cW,kL,aI.ry]
    grind [gD.st,qP]
 ·-- while
  rw[W G_]at l ⊢
  have E:(aU R (d+1) e_ a p).1=aO.begin a.l_ e_::(aG R e_ d c (p+1)++[aO.skip (p+1+Ty (aG R e_ d c (p+1))+1+Ty (bK (aU R d) e_ b.y_ (p+1+Ty (aG R e_ d c (p+1))+1))+1)]++bK (aU R d) e_ b.y_ (p+1+Ty (aG R e_ d c (p+1))+1)++[aO.jump p]):=by rw[aU];grind
  have N:=h.code;refine l _ E λz hat=>?_
  rw[ea pz,ea lu,ef lu,A]at i
  simp only at i;rw[E]at N;generalize H:aG R e_ d c (p+1)=J at*;generalize S:bK (aU R d) e_ b.y_ (p+1+Ty J+1)=cb at*;generalize hq:p+1+Ty J+1+Ty cb+1=q at*;have K:p+(aU R (d+1) e_ a p).1.length=q:=G_
  rw[K];cases L:kF V c (s.q_ a.l_)with
  |none=>grind
  |some y=>
   obtain⟨tt,s1⟩:=y;rw[L]at i;simp only at i;generalize T:({ f with next:=p+1,l_:=a.l_,e_:=e_ }:aI)=u at*
   have ai:u.fn=f.fn:=G_
   obtain⟨k1,P,k3⟩:=xE I (q:=q) U (p:=p+1) (below:=j) (f:=u) (by rw[H];exact { hat with code:=hat.code.left.left }) L
   rw[H]at P;by_cases e:s1.stop=0
   rotate_left
   .grind [iL,dT,cE]
   have w:=EX I HB (f0:=u) U hb H S hq.symm G_ hat.nodup hat.deep 1000 tt (u.ry (if tt then p+1+Ty J+1 else q) []) s1 r s' rfl (lF _ _) hat.xw hat.g_ k3 e rfl (by grind [gD.f_,cW,kL,aI.ry]) i
   grind [dT.after,aI.ry]
 ·-- return
  rw[W G_]at l ⊢
  rcases A with A|⟨v,A,hv⟩
  .have E:(aU R (d+1) e_ a p).1=aO.begin a.l_ e_::[.push (bA 0),.sg]:=by rw[aU];grind
   refine l _ E λz hat=>?_
   rw[ea pz,ea lu,ea lu,ef lu,A]at i
   simp only[fF,ga,gh]at i;obtain⟨rfl,rfl⟩:=i;generalize T:({ f with next:=p+1,l_:=a.l_,e_:=e_ }:aI)=u at*
   refine ec (ed ⟨z,aJ,by rw[hat.f_];simp[cW],?_⟩)
   have e1:cE D ⟨j++[u],(s.q_ a.l_).tape,(s.q_ a.l_).out⟩ (s.q_ a.l_) (s.q_ a.l_) ⟨j++[u.ry (p+1+1) [bA 0]],(s.q_ a.l_).tape,(s.q_ a.l_).out⟩:=(eP.push (v:=bA 0) hat.code.xz hat.next z aJ (by simp[cF,aR,aI.push,aI.ry])).2
   refine e1.trans (λ_=>cE.step (nD hat.code.tail.xz) aJ ?_ z aJ) aD
   simp[cF,sQ,aI.ry,aI.last,aY,bA]
  have E:(aU R (d+1) e_ a p).1=aO.begin a.l_ e_::(aG R e_ d v (p+1)++[.sg]):=by rw[aU];grind
  refine l _ E λz hat=>?_
  rw[ea pz,ea lu,ea lu,ef lu,A]at i
  cases w:fF V [v] (s.q_ a.l_)with
  |none=>grind
  |some y=>
   obtain⟨Z,s1⟩:=y;rw[w]at i;simp only[ga,gh]at i;obtain⟨rfl,rfl⟩:=i;obtain⟨x,rfl⟩:=uU w z;have hat':gD e_ (p+1) (bB (aG R e_ d) [v] (p+1)++[.sg]) j { f with next:=p+1,l_:=a.l_,e_:=e_ } (s.q_ a.l_):=by rw[uA];exact hat
   obtain⟨O,Q⟩:=kY I [v] (p+1) _ _ _ _ (G_) { hat' with code:=hat'.code.left } w
   by_cases e:s1.stop=0
   .refine ec (ed ⟨e,aJ,by rw[O.1 e,hat.f_];simp[cW],O.2.trans (λ_=>cE.step (nD hat'.code.right.xz) rfl ?_ e rfl) aD⟩)
    simp[cF,sQ,aI.ry,aI.last]
   exact dT.halted O.2 e
 ·-- print
  rw[W G_]at l ⊢
  have E:(aU R (d+1) e_ a p).1=aO.begin a.l_ e_::(aG R e_ d v (p+1)++[.print]):=by rw[aU];grind
  refine l _ E λz hat=>?_
  rw[ea pz,ea lu,ea lu,ea lu,ea lu,A]at i
  cases w:fF V [v] (s.q_ a.l_)with
  |none=>grind
  |some y=>
   obtain⟨Z,s1⟩:=y;rw[w]at i;simp only[ga,gh]at i;obtain⟨rfl,i⟩:=i;obtain⟨x,rfl⟩:=uU w z;have hat':gD e_ (p+1) (bB (aG R e_ d) [v] (p+1)++[.print]) j { f with next:=p+1,l_:=a.l_,e_:=e_ } (s.q_ a.l_):=by rw[uA];exact hat
   have C:∀k∈[v],rk R Uc e_ d k:=(by grind)
   obtain⟨O,Q⟩:=kY I [v] (p+1) _ _ _ _ C { hat' with code:=hat'.code.left } w
   have G:p+(aU R (d+1) e_ a p).1.length=p+1+Ty (bB (aG R e_ d) [v] (p+1))+1:=by grind [bB]
   rw[G];by_cases e:s1.stop=0
   rotate_left
   .grind [dT.halted,eP]
   rw[ef e]at i;have o:fY a [x] s1=if Ty s1.out=50 then { s1 with stop:=8 } else { s1 with out:=s1.out++[jN x] }:=by grind [fY]
   rw[o]at i;by_cases Y:Ty s1.out=50
   .rw[ef Y]at i;subst i;refine mB I (x:=8) C hat' w aJ e (ec ⟨aJ,d_,d_,?_⟩)
    grind [cF,lO]
   rw[ea Y]at i;subst i;refine mB I (x:=0) C hat' w aJ e (ed ⟨e,aJ,aJ,aI.ry { f with next:=p+1,l_:=a.l_,e_:=e_ } (p+1+Ty (bB (aG R e_ d) [v] (p+1))+1) [],rfl,lF _ _,rfl,hat.g_,?_,?_⟩)
   .rw[O.1 e,hat.f_];simp[cW,kL,aI.ry]
   grind [cF,lO,kA]
 rw[W G_]at l ⊢
 have E:(aU R (d+1) e_ a p).1=aO.begin a.l_ e_::(aG R e_ d v (p+1)++[.drop]):=by rw[aU];grind
 refine l _ E λz hat=>?_
 rw[ea pz,ea lu,ea lu,ea lu,ea lu,A]at i
 cases w:fF V [v] (s.q_ a.l_)with
 |none=>grind
 |some y=>
  obtain⟨Z,s1⟩:=y;rw[w]at i;simp only[ga,gh]at i;obtain⟨rfl,i⟩:=i;obtain⟨x,rfl⟩:=uU w z;have hat':gD e_ (p+1) (bB (aG R e_ d) [v] (p+1)++[.drop]) j { f with next:=p+1,l_:=a.l_,e_:=e_ } (s.q_ a.l_):=by rw[uA];exact hat
  have C:∀k∈[v],rk R Uc e_ d k:=(by grind)
  obtain⟨O,Q⟩:=kY I [v] (p+1) _ _ _ _ C { hat' with code:=hat'.code.left } w
  have G:p+(aU R (d+1) e_ a p).1.length=p+1+Ty (bB (aG R e_ d) [v] (p+1))+1:=by grind [bB]
  rw[G];by_cases e:s1.stop=0
  rotate_left
  .grind [dT.halted,eP]
  rw[ef e]at i;have o:fY a [x] s1=s1:=by grind [fY]
  rw[o]at i;subst i;refine mB I (x:=0) C hat' w aJ e (ed ⟨e,aJ,aJ,aI.ry { f with next:=p+1,l_:=a.l_,e_:=e_ } (p+1+Ty (bB (aG R e_ d) [v] (p+1))+1) [],rfl,lF _ _,rfl,hat.g_,?_,?_⟩)
  .rw[O.1 e,hat.f_];simp[cW,kL,aI.ry]
  grind [aR,lO,cF]
def vk(h:cO R U X Y):(aU R U X Y p).2=cR X Y:=
 (pK R U X Y (λ_ _=>False) p h ⟨s_,s_⟩).2.1
def IM(h:cO R U X Y)(e:X.Nodup):(cR X Y).Nodup:=by
 unfold cR;split
 .cases U with
  |zero=>exact h.elim
  |succ U=>
   grind [cO]
 exact aD
def qQ(b:cY)(a:aC):∃n,cR b a=n++b:=by
 unfold cR;split
 .simp
 simp
def NG{S:aC->aM->dZ (aE × Bool)}(G:KQ R T S):∀(l:List aC) (c:cY) (p:Nat) (f:aI) (s:aM) (r:aE × Bool) (n:aM),rp (cO R U) (c++X) l->qG (c++X) p (bK (aU R U) (c++X) l p) W f s->nU S (Ty X) l s=Ua (r,n)->
 dT T W f (p+Ty (bK (aU R U) (c++X) l p)) X r s n
 |[],c,p,f,s,r,n,_,h,k=>by
  obtain⟨rfl,rfl⟩:=k;have N:=h.g_;rw[ew]at N;refine ed ⟨h.stop,aJ,f,aJ,by simp[bK,h.next],rfl,aD,?_,ed ⟨h.stop,[],by simp[aM.sd],nJ.refl _ _⟩⟩
  unfold aM.sd;rw[h.f_];grind [kL,List.zip_eq_zipWith,uo]
 |a::l,c,p,f,s,r,n,w,h,k=>by
  rw[nU]at k;have z:=vk (p:=p) w.1;cases D:S a s with
  |none=>grind
  |some y=>
   obtain⟨⟨v,e⟩,F⟩:=y;rw[D]at k;simp at k;have x:=h.code;rw[bK,z]at x;have J:=G U a (c++X) p W f s (v,e) F w.1 { h with code:=x.left } D
   have q:p+Ty (bK (aU R U) (c++X) (a::l) p)=p+(aU R U (c++X) a p).1.length+Ty (bK (aU R U) (cR (c++X) a) l (p+(aU R U (c++X) a p).1.length)):=by grind [bK]
   rw[q];rcases J with ⟨u,C,L,I,M,P,H,A,E⟩|⟨u,C,A,E⟩|⟨u,E⟩
   .obtain⟨rfl,rfl⟩:=gn C;rw[ea (by simp[u])]at k
    obtain⟨B,K⟩:=qQ (c++X) a;have j:cR (c++X) a=(B++c)++X:=G_
    have o:=w.2;have t:=IM w.1 h.nodup;rw[j]at o H A t x ⊢
    have O:=NG G l (B++c) (p+(aU R U (c++X) a p).1.length) L F r n o ⟨by rw[I];exact x.right,M,t,H,u,A,h.deep⟩ k
    grind [dT.after]
   .grind [dT]
   grind [dT]
def Pv{S:aC->aM->dZ (aE × Bool)}(l:KQ R T S):qP R T λn s=>nU S (Ty s.g_) n.y_ s:=by
 intro d b c p e f s r j m h g;simp at g
 have k:Ty s.g_=Ty c:=by unfold aM.g_;rw[h.f_];grind [kL,qG.g_]
 rw[k]at g;exact NG l b.y_ [] p f s r j m h g
def XL(b:∀f∈R,gX R U f):∀g,lZ R (dW R U) (qT R g).1/\qP R (dW R U) (qT R g).2
 |0=>(by grind [qT,lZ,qP])
 |g+1=>by obtain⟨d,c⟩:=XL b g;exact⟨Nv b d c,Pv (P0 d c)⟩
def E4{D:Nat}(p:∀f∈R,gX R D f)(T:gE R (dV R [109,97,105,110])=Ua 0){g:Nat}{a:List Int}{l:List gC}(h:sM R g a=Ua l):nT (dW R D) (jW R D a) 0 l:=by
 obtain⟨F,E,x,m⟩:=uT T;obtain⟨⟨L,b,u,K,Q⟩,X⟩:=p F x;have A:L=[]:=by rw[u]at m;simp at m;exact m
 subst A;rw[ie]at u;unfold sM jV at h;rw[ea d_,ea d_]at h
 simp only[fq]at h;rw[ea d_,E]at h
 simp only[u,jz,ir,List.zip_nil_right,ie]at h;cases G:(qT R g).2 b ⟨[⟨[109,97,105,110],0,[]⟩],a,[],[],0⟩with
 |none=>grind
 |some y=>
  obtain⟨⟨v,e⟩,d⟩:=y;rw[G]at h;simp only[ga]at h;have B:(fR R D F).code=bK (aU R D) [] b.y_ 0++[.push (bA 0),.sg]:=by simp[fR,u]
  have i:(fR R D F).name=[109,97,105,110]:=BP E;have z:jW R D a=⟨[]++[⟨fR R D F,0,0,[],[],[]⟩],a,[]⟩:=by grind [jW,NE]
  have I:=(XL p g).2 D b [] 0 [] ⟨fR R D F,0,0,[],[],[]⟩ ⟨[⟨[109,97,105,110],0,[]⟩],a,[],[],0⟩ (v,e) d K ⟨by grind [eR],rfl,s_,s_,rfl,by simp[cW,kL,i],s_⟩ G
  rw[z]
  have j:∀t o n,d.stop=0->d.f_.dropLast=cW []->t=d.tape->o=d.out->n=Ty d.rm->nJ (dW R D) ⟨[]++[⟨fR R D F,0,0,[],[],[]⟩],a,[]⟩ 0 d.rm ⟨[],t,o⟩ n->nT (dW R D) ⟨[]++[⟨fR R D F,0,0,[],[],[]⟩],a,[]⟩ 0 l:=λt o n w H U W Y P=>by refine⟨_,_,_,_,P,.done,?_⟩;grind [aM.notes,rz,cW,aM.g_]
  rcases I with ⟨w,J,f',H,Z,V,k4,M,q⟩|⟨w,J,M,q⟩|⟨w,q⟩
  .have N:f'.fn.code[f'.next]?=Ua (.push (bA 0)):=by grind
   have O:f'.fn.code[f'.next+1]?=Ua .sg:=by grind
   rcases q with ⟨_,C,r,s⟩|⟨k,_⟩
   .simp only[ie,fq]at r s;subst r;refine j d.tape d.out (Ty d.rm) w G_ rfl rfl rfl ?_
    have S:nJ (dW R D) ⟨[]++[f'],d.tape,d.out⟩ (Ty d.rm) [] ⟨[],d.tape,d.out⟩ (Ty d.rm):=by
     refine .step (jC N) aJ (m1:=⟨[]++[aI.push { f' with next:=f'.next+1 } (bA 0)],d.tape,d.out⟩) rfl ?_
     exact .step (jC (f:=aI.push { f' with next:=f'.next+1 } (bA 0)) O) rfl rfl (.refl _ _)
    have:=s.trans S;grind
   exact aD
  .rcases q with ⟨_,C,r,s⟩|⟨k,_⟩
   .grind [sQ]
   exact aD
  rcases q ⟨[],[],[]⟩with ⟨k,_⟩|⟨_,C,r,s⟩
  .exact aD
  grind [aM.final]
def tD:∀(k:Nat) (m:dA) (n:Nat) (p:List gC) (r:dA × Nat),fG T k m=Ua r->nT T m n p->
 ∃a,p=rz r.1 (cB n r.2)::a/\(cB n r.2=0->nT T r.1 (n+1) a)/\(cB n r.2≠0->a=[])
 |0,_,_,_,_,h,_=>by simp[fG]at h
 |k+1,m,n,p,r,h,w=>by
  obtain⟨C,B,v,x,y,A,rfl⟩:=w;cases y with
  |refl=>
   cases A with
   |@stop b f g t o i l _ u e c z=>
    rw[fG]at h;simp only[nA,e,oV,c]at h;rw[ef z]at h;cases h;have:cB n u=u:=by grind [cB]
    rw[this];exact⟨[],aJ,aD,s_⟩
   |done=>
    cases h;have:cB n 1=1:=by grind [cB]
    rw[this];simp
   |@fuel b f g t o i l e j c=>
    rw[fG]at h;simp only[nA,e,oV,c]at h;rw[ea s_,ef j]at h
    cases h;have:cB 500 0=9:=rfl;rw[this];simp
  |@step b f g t o i l _ _ _ _ e j c q=>
   rw[fG]at h;simp only[nA,e,oV,c]at h;rw[ea s_,j]at h
   exact tD k l n _ r h (by grind [nT])
  |@vo b f g t o i l _ _ _ s e j c D q=>
   rw[fG]at h;simp only[nA,e,oV,c]at h;rw[ea s_,ef j]at h
   cases h;have:cB n 0=0:=by grind [cB]
   rw[this];exact⟨s++[x],aJ,(by grind [nT]),aD⟩
def Kj:∃k:Nat,16*320000+2<=k:=⟨_,mJ⟩
noncomputable def oC:Nat:=Classical.choose Kj
def SM:16*320000+2<=oC:=(by grind [oC])
noncomputable def iB(si:List eM)(m0:dA):Nat->Option dB
 |0=>(fG si oC m0).map λr=>⟨0,r.1,cB 0 r.2⟩
 |t+1=>
  match iB si m0 t with
  |none=>Ub
  |some s=>if s.stop=0 then (fG si oC s.m).map λr=>⟨t+1,r.1,cB (t+1) r.2⟩else Ub
structure KP(ar:Nat->Option Nat)(s:dB):Prop where
 told:∀x∈s.m.f_,Ty x.e_<=Ty x.g_
 deep:Ty s.m.f_<=16
 ok:s.stop=0->iS ar s.m/\s.m.f_≠[]
 m_:s.m_<=500
def ZN(h:iS E F):∃k,oO F.f_<=Ty F.f_*k/\k=320000:=by
 have a:∀f∈F.f_,mN f<=320000:=λf e=>by
  have n:Ty f.fn.code<=80000:=by
   rcases gB F.f_ with c|⟨b,x,c⟩
   .grind
   have j:=h.ok.low;have g:=h.ok.top x G_
   grind [eI.code,oM.len]
  grind [mN]
 have:∀l:List aI,(∀f∈l,mN f<=320000)->oO l<=Ty l*320000:=by
  intro l;induction l with
  |nil=>simp[oO]
  |cons x l i=>
   grind [oO]
 grind
def pG(c:mT E T)(h:iS E F):∃r,fG T oC F=Ua r/\CS E r:=
 pH c oC F h (by obtain⟨k,e,d⟩:=ZN h;have f:=ic k h.ok.deep;have:=SM;exact aD)
def zS(g:mT E T)(j:iS E F):∀(t:Nat) (s:dB),iB T F t=Ua s->KP E s/\s.m_=t
 |0,s,h=>by obtain⟨r,i,c⟩:=pG g j;simp [iB,i,iu]at h;subst h;exact⟨⟨c.told,c.deep,(by grind [CS.ok,cB]),s_⟩,rfl⟩
 |t+1,s,h=>by
  rw[iB]at h;cases b:iB T F t with
  |none=>grind
  |some m=>
   rw[b]at h;simp only at h;obtain⟨k,v⟩:=zS g j t m b;split at h
   .rename_i o;obtain⟨r,i,c⟩:=pG g (k.ok o).1;rw[i]at h;simp at h;subst h;refine⟨⟨c.told,c.deep,(by grind [CS.ok,cB]),?_⟩,rfl⟩
    have n:t≠500:=by
     intro e;cases t with
     |zero=>simp at e
     |succ u=>
      rw[iB]at b;cases p:iB T F u with
      |none=>grind
      |some l=>
       rw[p]at b;simp only at b;split at b
       .cases q:fG T oC l.m with
        |none=>grind
        |some w=>
         grind [cB]
       grind
    grind [KP.m_]
   cases h
def wD(e:mT E T)(i:iS E F){l:List gC}(p:nT T F 0 l):∀t,(t<Ty l->∃s,iB T F t=Ua s/\l[t]?=Ua (rz s.m s.stop)/\∃d,l=d++l.drop (t+1)/\(s.stop=0->nT T s.m (t+1) (l.drop (t+1)))/\(s.stop≠0->l.drop (t+1)=[]))/\(Ty l<=t->iB T F t=Ub)
 |0=>by
  obtain⟨r,f,y⟩:=pG e i;obtain⟨b,n,u,w⟩:=tD oC F 0 l r f p;refine⟨λ_=>⟨⟨0,r.1,cB 0 r.2⟩,by simp[iB,f],G_,[rz r.1 (cB 0 r.2)],G_,G_,G_⟩,λh=>?_⟩
  grind
 |t+1=>by
  obtain⟨x,A⟩:=wD e i p t;by_cases g:t<Ty l
  .obtain⟨s,v,B,d,D,q,C⟩:=x g;have k:=(zS e i t s v);by_cases o:s.stop=0
   .obtain⟨r,f,y⟩:=pG e (k.1.ok o).1;obtain⟨b,n,u,w⟩:=tD oC s.m (t+1) _ r f (q o);have j:iB T F (t+1)=Ua ⟨t+1,r.1,cB (t+1) r.2⟩:=by grind [iB]
    have z:l.drop (t+2)=b:=by have:=fg (List.drop 1) n;grind [List.drop_drop]
    refine⟨λ_=>⟨_,j,?_,l.take (t+2),s_,G_,G_⟩,λh=>?_⟩
    .grind
    grind
   grind [iB]
  grind [iB]
def kJ(l:List aI):List (bP × Nat):=l.map λf=>(f.fn.name,f.l_)
def KS(m0 m:List aI):Prop:=kJ m<+:kJ m0\/((kJ m).dropLast<+:kJ m0/\∃b f,m=b++[f]/\(f.next=0\/∃v,f.fn.code=[.push v,.sg]))
def KS.drop{m:List aI}(h:KS W m):(kJ m).dropLast<+:kJ W:=by grind [KS]
structure KU(m0:dA)(m:dA):Prop where
 stack:(kJ m.f_).dropLast<+:kJ m0.f_
 out:m0.out<+:m.out
def KU.deep{m:dA}(h:KU F m):Ty m.f_<=Ty F.f_+1:=by have:=h.stack.length_le;simp[kJ]at this;exact aD
def Nd(s:cY):Prop:=s.Nodup/\Ty s<=40001
def Nd.nil:Nd []:=(by grind [Nd])
def dC(c:List aO):Prop:=∀l s,aO.begin l s∈c->Nd s
def dC.app{a b:List aO}(h:dC a)(k:dC b):dC (a++b):=(by grind [dC])
def dC.one(h:i.rj=Uc):dC [i]:=(by grind [dC,aO.rj])
def dC.nil:dC []:=λl s a=>by cases a
theorem zU{c:aC->Nat->List aO}(b:∀a p,dC (c a p)):∀(l:List aC) (p:Nat),dC (bB c l p)
 |[],_=>dC.nil
 |a::l,p=>(b a p).app (zU b l _)
def mD[Decidable c](h:dC l)(k:dC O):dC (if c then l else O):=G_
def sS(e:List aC)(b:cY):∀(d:Nat) (a:aC) (p:Nat),dC (aG e b d a p)
 |0,_,_=>dC.nil
 |d+1,a,p=>by
  have c:=zU (sS e b d) a.y_ p;have o:∀i:aO,i.rj=Uc->dC [i]:=λi h=>dC.one h
  refine mD (o _ aJ) (mD (o _ aJ) (mD (o _ aJ) (mD (o _ aJ) (mD (c.app (o _ aJ)) (mD (c.app (o _ aJ)) (mD (c.app (o _ aJ)) (mD (c.app (o _ aJ)) (mD (c.app (o _ ?_)) (mD ?_ (c.app (o _ aJ)))))))))))
  .grind [aO.rj]
  split
  .exact(((sS e b d _ _).app (o _ aJ)).app (sS e b d _ _)).app (o _ aJ)
  exact dC.nil
def Y3(fs:List aC)(d:Nat):Prop:=∀(e_:cY) (a:aC) (p:Nat),cO fs d e_ a->Nd e_->dC (aU fs d e_ a p).1/\Nd (aU fs d e_ a p).2
def zQ(f:Y3 R U):∀(l:List aC) (b:cY) (p:Nat),rp (cO R U) b l->Nd b->dC (bK (aU R U) b l p)
 |[],_,_,_,_=>dC.nil
 |a::l,b,p,h,g=>by
  obtain⟨i,e⟩:=f b a p h.1 g;have h3 :=(pK R U b a (λ_ _=>False) p h.1 ⟨s_,s_⟩).2.1
  refine i.app ?_;rw[h3]at e ⊢
  exact zQ f l _ _ h.2 e
def NK(i:List aC):∀d,Y3 i d
 |0=>λ_ _ _ h _=>h.elim
 |d+1=>by
  intro e a p h k;have m:=sS i e d;have r:∀(b:aC) q,rp (cO i d) e b.y_->dC (bK (aU i d) e b.y_ q):=λb q j=>zQ (NK i d) b.y_ e q j k
  rcases h with ⟨f,o,t,v,g,_,n⟩|⟨f,_⟩|⟨f,c,t,g,_,l⟩|⟨f,c,b,g,_,j⟩|⟨f,g⟩|⟨f,v,g,_⟩|⟨f,c,g,_⟩
  .grind [aU,dC,Nd]
  .grind [aU,zU,dC]
  .grind [aU,dC]
  .grind [aU,dC]
  .grind [aU,dC]
  .grind [aU,dC]
  grind [aU,dC]
theorem Qm(h:gX R U Y)(j:Ty Y.y_<=40000):dC (fR R U Y).code:=by
 obtain⟨⟨e,b,g,i,k⟩,_⟩:=h;have a:(fR R U Y).code=bK (aU R U) (e.map (·.x_)).reverse b.y_ 0++[.push (bA 0),.sg]:=by simp[fR,g]
 rw[a];exact(zQ (NK R U) b.y_ _ 0 i (by grind [Nd])).app ((by grind [dC]))
def lI(m:dA):Prop:=∀f∈m.f_,Nd f.e_/\dC f.fn.code
theorem ME(i:aO)(f:aI)(a:Nd f.e_)(b:∀l s,i=.begin l s->Nd s):Nd (aR i f).1.e_:=by
 cases i with
 |begin l s=>exact b l s aJ
 |_=>simp [aR]<;>(repeat' split)<;>exact a
def Ig(r:∀f∈T,dC f.code)(h:lI ⟨W++[f],t,X⟩)(w:i∈f.fn.code)(k:Nat):lI (cF T i W { f with next:=k } t X).1:=by
 have u:∀x∈W,Nd x.e_/\dC x.fn.code:=(by grind [lI])
 have j:=h f s_
 have d:∀(y:aI) g q,Nd y.e_->y.fn=f.fn->lI ⟨W++[y],g,q⟩:=(by grind [lI])
 by_cases z:i=.sg
 .rcases gB W with rfl|⟨s,x,rfl⟩
  .grind [cF,lI]
  intro y m;simp[cF]at m;grind [aI.push]
 by_cases p:i=.read
 .subst p;cases t with
  |nil=>exact d _ _ _ j.1 aJ
  |cons a g=>exact d _ _ _ j.1 aJ
 by_cases v:i=.print
 .grind [cF,aI.pop]
 by_cases l:∃c n,i=.call c n
 .grind [cF,lI,Nd,dC,aI.n_]
 grind [oI,ME,qC,dC]
theorem CY(e:∀f∈T,dC f.code):∀(k:Nat) (m:dA) (r:dA × Nat),lI m->fG T k m=Ua r->lI r.1
 |0,_,_,_,h=>by simp[fG]at h
 |k+1,⟨l,t,o⟩,r,q,h=>by
  by_cases c:l=[]
  .grind [fG]
  obtain⟨b,f,rfl⟩:=oU c;rw[fG]at h;simp only[nA,oV]at h;cases n:f.se with
  |none=>grind
  |some j=>
   obtain⟨i,g⟩:=j;rw[n]at h;simp only at h
   obtain⟨rfl,p⟩:g={ f with next:=f.next+1 }/\i∈f.fn.code:=by grind [aI.se]
   have d:=Ig e q p (f.next+1)
   split at h
   .grind
   split at h
   .grind
   exact CY e k _ r d h
def C4(d:∀f∈R,gX R U f)(k:∀f∈R,Ty f.y_<=40000)(a:List Int):∀(t:Nat) (s:dB),iB (dW R U) (jW R U a) t=Ua s->lI s.m:=by
 have g:∀f∈dW R U,dC f.code:=(by grind [dW,Qm])
 intro t;induction t with
 |zero=>
  intro s h;rw[iB]at h;cases c:fG (dW R U) oC (jW R U a)with
  |none=>grind
  |some r=>
   rw[c]at h;cases h;refine CY g _ _ _ (λf j=>?_) c
   grind [jW,Nd,dC]
 |succ t l=>
  intro s h;rw[iB]at h;cases i:iB (dW R U) (jW R U a) t with
  |none=>grind
  |some e=>
   rw[i]at h;simp only at h;split at h
   .cases c:fG (dW R U) oC e.m with
    |none=>grind
    |some r=>grind [CY]
   cases h
