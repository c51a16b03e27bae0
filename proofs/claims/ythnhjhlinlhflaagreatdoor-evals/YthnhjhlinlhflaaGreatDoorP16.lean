import Derived.Test.YthnhjhlinlhflaaGreatDoorP11
import Derived.Test.YthnhjhlinlhflaaGreatDoorP07
set_option linter.all false
set_option maxRecDepth 100000
set_option maxHeartbeats 0
open List renaming length->aA
open Option renaming some->Wj
open Bool renaming false->Wl,true->Wm
open Go renaming Calls->Wn,Value->Wo,Addr->Ws
open Go.RowKit renaming Hid->Wu
open Go.Proofs.Tryz renaming prog->Ww
open Go.Value renaming slice->Wz,string->WD,iface->Xb,bool->Xc
namespace Go.Proofs.YthnhjhlinlhflaaGreatDoor
open Hs _root_.Go.Proofs.Tryz Go.RowKit
variable{C:List Wo}{D:List aD}{I n:Nat}{a:Prop}{H:TypeId}{G b:aD}{J R:aL}{E:aU}{y:bI}{f:bS}
abbrev iY(k:Nat):Ending:=.panicked [{v:=Xb 269 (Y k),recovered:=Wl}]
def Ao(R:Wo->aD->Prop)(F:bI)(w:aL)(sv:aU)(l:List aD):Prop:=(l=[]/\sv=bR)\/∃g cap cur,sv=Wz (Wj (aJ g 0)) (aA l) cap/\F g/\w.heap[g]?=Wj (.cells cur 264)/\aA l<=cap/\∀i (h:i<aA l),∃u,cur[i]?=Wj u/\R u l[i]
def VR:Nat->(Nat->Prop)->World->Wo->aD->Prop|0,_,_,_,_=>False|d+1,F,w,v,a=>(∃n,v=Xb 262 (Y n)/\a=bB n/\-9223372036854775808<=n/\n<=9223372036854775807)\/(∃b,v=Xb 320 (Xc b)/\a=cF b)\/(∃s,v=Xb 322 (WD (bs s))/\a=bT s)\/(∃sv l,v=Xb 323 sv/\a=bH l/\Ao (VR d F w) F w sv l)
theorem Ao.mono{R S:Wo->aD->Prop}{F G:bI}{w:aL}{sv:aU}{l:List aD}(h:Ao R F w sv l)(p:∀v a,R v a->S v a)(k:∀b,F b->G b):Ao S G w sv l:=by rcases h with h|⟨g,c,d,j,e,m,f,n⟩;exact ea h;refine dv ⟨g,c,d,j,k _ e,m,f,λi o=>?_⟩;grind
def Ao.j_{R:Wo->aD->Prop}{F:bI}{w w':aL}{d:aU}(h:Ao R F w d D)(k:∀b,F b->w'.heap[b]?=w.heap[b]?):Ao R F w' d D:=by rcases h with h|⟨g,c,a,i,e,m,f,j⟩;exact ea h;exact dv ⟨g,c,a,i,e,G_,f,j⟩
theorem VR.mono{F G:bI}{w:aL}(c:∀b,F b->G b):∀{d e:Nat}{v:aU}{a:aD},VR d F w v a->d<=e->VR e G w v a|0,_,_,_,h,_=>h.elim|d+1,0,_,_,_,h=>by omega|d+1,e+1,v,a,h,f=>by rcases h with h|h|h|⟨i,l,j,g,k⟩;exact ea h;exact dv (ea h);grind[VR];exact dv (dv (dv ⟨i,l,j,g,k.mono (λ_ _ h=>VR.mono c h Z) c⟩))
def VR.j_{F:bI}{w w':aL}(c:∀b,F b->w'.heap[b]?=w.heap[b]?):∀{d:Nat}{v:aU}{a:aD},VR d F w v a->VR d F w' v a|0,_,_,h=>h.elim|d+1,v,a,h=>by rcases h with h|h|h|⟨f,l,g,e,i⟩;exact ea h;exact dv (ea h);grind[VR];exact dv (dv (dv ⟨f,l,g,e,(i.mono (λ_ _ h=>VR.j_ c h) (s_)).j_ c⟩))
def PV(F:bI)(w:aL)(v:aU)(a:aD):Prop:=∃d,VR d F w v a
theorem PV.mono{F G:bI}{w:aL}{v:aU}{a:aD}(h:PV F w v a)(c:∀b,F b->G b):PV G w v a:=by have ⟨d,h⟩:=h;exact⟨d,h.mono c (Z)⟩
theorem PV.j_{F:bI}{w w':aL}{v:aU}{a:aD}(h:PV F w v a)(c:∀b,F b->w'.heap[b]?=w.heap[b]?):PV F w' v a:=by have ⟨d,h⟩:=h;exact⟨d,h.j_ c⟩
theorem PV.num(F:bI)(w:aL)(n:Int)(b:-9223372036854775808<=n)(a:n<=9223372036854775807):PV F w (Xb 262 (Y n)) (bB n):=⟨1,(by grind[VR])⟩
theorem PV.yj(F:bI)(w:aL)(b:Bool):PV F w (Xb 320 (Xc b)) (cF b):=⟨1,(by grind[VR])⟩
theorem PV.str(F:bI)(w:aL)(s:bS):PV F w (Xb 322 (WD (bs s))) (bT s):=⟨1,(by grind[VR])⟩
def vd(F:bI)(w:aL)(sv:aU)(l:List aD):Prop:=Ao (PV F w) F w sv l
def ZY{F:bI}{w:aL}{cur:Array Wo}:∀(l:List aD) (o:Nat),(∀i (h:i<aA l),∃u,cur[o+i]?=Wj u/\PV F w u l[i])->∃d,∀i (h:i<aA l),∃u,cur[o+i]?=Wj u/\VR d F w u l[i]
 |[],_,_=>(by simp)|a::l,o,h=>by
  obtain⟨u,m,d,f⟩:=h 0 s_;obtain⟨e,b⟩:=ZY (F:=F) (w:=w) (cur:=cur) l (o+1) λi c=>by have:=h (i+1) G_;grind
  refine⟨max d e,λi c=>?_⟩;cases i with|zero=>grind[VR.mono]|succ i=>obtain⟨g,k,j⟩:=b i G_;grind[VR.mono]
theorem PV.vw{F:bI}{l:List aD}(h:vd F R E l):PV F R (Xb 323 E) (bH l):=by rcases h with h|⟨g,b,cur,f,c,j,e,i⟩;exact⟨1,dv ((by grind[Ao]))⟩;obtain⟨d,k⟩:=ZY (cur:=cur) l 0 (by simpa using i);exact⟨d+1,dv (dv (dv ⟨E,l,i_,i_,dv ⟨g,b,cur,f,c,j,e,G_⟩⟩))⟩
theorem PV.cases{F:bI}{w:aL}{v:aU}{a:aD}(h:PV F w v a):(∃n,v=Xb 262 (Y n)/\a=bB n/\-9223372036854775808<=n/\n<=9223372036854775807)\/(∃b,v=Xb 320 (Xc b)/\a=cF b)\/(∃s,v=Xb 322 (WD (bs s))/\a=bT s)\/(∃x c l,v=Xb 323 (Wz x (aA l) c)/\a=bH l/\vd F w (Wz x (aA l) c) l):=by have ⟨d,h⟩:=h;cases d with|zero=>exact h.elim|succ d=>rcases h with h|h|h|⟨o,l,j,f,e⟩;grind;grind;grind;refine dv (dv (dv ?_));have i:vd F w o l:=e.mono (λ_ _ h=>⟨d,h⟩) (s_);rcases e with ⟨rfl,rfl⟩|⟨g,k,m,rfl,_⟩;exact⟨none,0,[],j,f,i⟩;grind
def uP(F:bI)(v:aU)(a:aD)(w:aL)(h:PV F w v a):Wn Ww 367 #[v] w λe d=>d=w/\((a.c_=1/\e=bP (Xc (decide (a.n=1))))\/(a.c_≠1/\e=iY 2)):=by
 rcases h.cases with ⟨n,rfl,rfl,_,_⟩|⟨b,rfl,rfl⟩|⟨s,rfl,rfl⟩|⟨x,c,l,rfl,rfl,_⟩;.go_in;go_wp;exact⟨i_,i_,(by grind[bB])⟩
 .go_in;go_wp2;go_ret;exact⟨i_,ea ⟨i_,by cases b<;>rfl⟩⟩
 .go_in;go_wp;exact⟨i_,i_,(by grind[bT])⟩
 go_in;go_wp;exact⟨i_,i_,(by grind[bH])⟩
def nZ(F:bI)(w:aL)(r:aD×Nat)(e:Ending)(w':aL):Prop:=w'=w/\((r.2=0/\∃u,e=bP u/\PV F w u r.1)\/(r.2≠0/\e=iY r.2))
def nZ.ok{F:bI}{r:aD×Nat}{u:aU}{a:aD}(b:r=(a,0))(h:PV F R u a):nZ F R r (bP u) R:=by grind[nZ]
def nZ.stop{r:aD×Nat}{a:aD}(c:r=(a,n))(b:n≠0):nZ y R r (iY n) R:=by grind[nZ]
def PV.wrap(F:bI)(w:aL)(n:Int):PV F w (dA 262 (Y (wrap64 n))) (bB (pB n)):=by grind[zY,PV.num,pB]
def Rm(a:bS)(F:bI)(x y:Int)(w:aL)(s:-9223372036854775808<=x)(q:x<=9223372036854775807)(z:-9223372036854775808<=y)(A:y<=9223372036854775807):Wn Ww 379 #[Q_ (bs a),Y x,Y y] w (nZ F w (jJ a x y)):=by
 have e:=bA a;have ⟨r,hr⟩:∃r,r=jJ a x y:=(by simp);rw[<-hr];unfold jJ at hr;by_cases p:a=[43];.rw[ec p]at hr;have f:((bs a).toList==[60])=Wl:=G_;have g:((bs a).toList==[60,61])=Wl:=G_;have d:((bs a).toList==[43])=Wm:=G_;have c:((bs a).toList==[45])=Wl:=G_;have b:((bs a).toList==[42])=Wl:=G_;have i:=O hr;clear e hr p;go_in;go_wp2;go_ret;exact nZ.ok i (PV.wrap F w (x+y))
 rw[dy p]at hr;have d:((bs a).toList==[43])=Wl:=G_;clear p;by_cases l:a=[45];.rw[ec l]at hr;have f:((bs a).toList==[60])=Wl:=G_;have g:((bs a).toList==[60,61])=Wl:=G_;have d:((bs a).toList==[43])=Wl:=Z;have c:((bs a).toList==[45])=Wm:=G_;have b:((bs a).toList==[42])=Wl:=G_;have i:=O hr;clear e hr l;go_in;go_wp2;go_ret;exact nZ.ok i (PV.wrap F w (x-y))
 rw[dy l]at hr;have c:((bs a).toList==[45])=Wl:=G_;clear l;by_cases k:a=[42];.rw[ec k]at hr;have f:((bs a).toList==[60])=Wl:=G_;have g:((bs a).toList==[60,61])=Wl:=G_;have d:((bs a).toList==[43])=Wl:=Z;have c:((bs a).toList==[45])=Wl:=Z;have b:((bs a).toList==[42])=Wm:=G_;have i:=O hr;clear e hr k;go_in;go_wp2;go_ret;exact nZ.ok i (PV.wrap F w (x*y))
 rw[dy k]at hr;have b:((bs a).toList==[42])=Wl:=G_;clear k;by_cases m:a=[60];.rw[ec m]at hr;have f:((bs a).toList==[60])=Wm:=G_;have g:((bs a).toList==[60,61])=Wl:=G_;have d:((bs a).toList==[43])=Wl:=Z;have c:((bs a).toList==[45])=Wl:=Z;have b:((bs a).toList==[42])=Wl:=Z;have i:=O hr;clear e hr m;go_in;go_wp2;go_ret;exact nZ.ok i (PV.yj F w (decide (x<y)))
 rw[dy m]at hr;have f:((bs a).toList==[60])=Wl:=G_;clear m;by_cases n:a=[60,61];.rw[ec n]at hr;have f:((bs a).toList==[60])=Wl:=Z;have g:((bs a).toList==[60,61])=Wm:=G_;have d:((bs a).toList==[43])=Wl:=Z;have c:((bs a).toList==[45])=Wl:=Z;have b:((bs a).toList==[42])=Wl:=Z;have i:=O hr;clear e hr n;go_in;go_wp2;go_ret;exact nZ.ok i (PV.yj F w (decide (x<=y)))
 rw[dy n]at hr;have g:((bs a).toList==[60,61])=Wl:=G_;clear n;by_cases t:y=0;.rw[ec t]at hr;subst t;have i:=O hr;clear e hr;go_in;go_wp;exact⟨i_,nZ.stop i d_⟩
 rw[dy t]at hr;have B:(y==0)=Wl:=G_;by_cases j:a=[47];.rw[ec j]at hr;have v:((bs a).toList==[47])=Wm:=G_;have i:=O hr;clear e hr j;go_in;go_wp2;go_ret;exact nZ.ok i (PV.wrap F w (x.tdiv y))
 rw[dy j]at hr;have v:((bs a).toList==[47])=Wl:=G_;have o:=VS x y s q;rw[DV _ o.1 o.2]at hr;have i:=O hr;have u:=O o;clear e hr j o;go_in;go_wp2;go_ret;exact nZ.ok i (PV.num F w (x.tmod y) u.1 u.2)
def JQ(o:UInt8)(k:o=45\/o=33)(F:bI)(v:aU)(a:aD)(w:aL)(h:PV F w v a):Wn Ww 366 #[Q_ (bs [o]),v] w (nZ F w (dF [o,120] a)):=by
 rcases k with rfl|rfl
 .have p:((bs [45]).toList==[33])=Wl:=by rw[bA];rfl
  rcases h.cases with ⟨n,rfl,rfl,z,y⟩|⟨b,rfl,rfl⟩|⟨s,rfl,rfl⟩|⟨x,c,l,rfl,rfl,_⟩;.have j:=O (Hs.yv (op:=[45,120]) (a:=bB n) i_ i_);clear h;generalize dF [45,120] (bB n)=r at*;go_in;go_wp2;go_ret;exact nZ.ok j (by have g:=PV.wrap F w (-n);rw[zY]at g;exact g)
  .clear h;go_in;go_wp;exact⟨i_,(by grind[dF,cF,nZ])⟩
  .clear h;go_in;go_wp;exact⟨i_,(by grind[dF,bT,nZ])⟩
  clear h;go_in;go_wp;exact⟨i_,(by grind[dF,bH,nZ])⟩
 have p:((bs [33]).toList==[33])=Wm:=by rw[bA];rfl
 have q:=O (uP F v a w h);have ⟨r,hr⟩:∃r,r=dF [33,120] a:=(by simp);rw[<-hr];have A:=O hr;have d:∃t u,v=dA t u:=by grind[PV.cases]
 obtain⟨t,u,rfl⟩:=d;have B:=O h.cases;clear h hr;go_in;go_wp;apply q.mono;rintro e i ⟨rfl,⟨f,rfl⟩|⟨f,rfl⟩⟩;.have m:=O f;clear f;go_wp2;go_ret;refine nZ.ok (a:=cF (!decide (a.n=1))) ?_ (PV.yj F i (!decide (a.n=1)));grind[dz,dF,bB,bT,bH,cF]
 have m:=O f;clear f;go_wp;exact⟨i_,(by grind[dz,dF,nZ])⟩
def vd.get{x:Option Ws}(h:vd y R (Wz x n I) D)(i:Nat)(d:i<aA D):∃g u,x=Wj (aJ g 0)/\n=aA D/\y g/\g<R.heap.size/\aA D<=I/\R.cell? (aJ g i)=Wj u/\PV y R u D[i]:=by rcases h with ⟨rfl,_⟩|⟨g,a,b,j,e,m,f,k⟩;simp at d;grind[aB]
theorem PV.form(h:PV y R E G):∃t u,E=Xb t u:=by rcases h.cases with ⟨n,rfl,_⟩|⟨b,rfl,_⟩|⟨s,rfl,_⟩|⟨x,c,l,rfl,_⟩<;>exact⟨_,_,i_⟩
theorem vd.j_{F:bI}{w w':aL}(h:vd F w E D)(a:∀b,F b->w'.heap[b]?=w.heap[b]?):vd F w' E D:=(Ao.mono h (λ_ _ h=>h.j_ a) (s_)).j_ a
def vd.mono{F G:bI}{w:aL}{sv:aU}{l:List aD}(h:vd F w sv l)(a:∀b,F b->G b):vd G w sv l:=(by grind[Ao.mono,PV.mono,vd])
def Pw(n:Int):aI (bB n)=1:=by rw[dG];simp[bB]
def St(b:Bool):aI (cF b)=1:=by rw[dG];simp[cF]
theorem oV(s:bS):aI (bT s)=1+aA s:=by rw[dG];simp[bT]
theorem mM(l:List aD):aI (bH l)=1+(l.map aI).sum:=by rw[dG];simp[bH]
def qE(h:G∈D):aI G<=(D.map aI).sum:=by induction D with|nil=>cases h|cons x D b=>grind
theorem yN(a:aD):1<=aI a:=by rw[dG];exact Z
def nD(l:List aD):aA l<=(l.map aI).sum:=by induction l with|nil=>simp|cons x l a=>grind[yN]
def ID(F:bI)(k:Nat):Prop:=∀(v:aU) (a:aD) (w:aL),PV F w v a->aI a<=k->k<=1000000000->Wn Ww 354 #[v] w λe w'=>w'=w/\e=bP (Y (aI a:Nat))
def XA(F:bI)(k:Nat)(d:ID F k):ID F (k+1):=by
 intro v a w h o M;rcases h.cases with ⟨n,rfl,rfl,N,K⟩|⟨b,rfl,rfl⟩|⟨s,rfl,rfl⟩|⟨x,c,l,rfl,rfl,C⟩;.rw[Pw];clear h d o;go_in;go_wp2;go_ret;simp
 .rw[St];clear h d o;go_in;go_wp2;go_ret;simp
 .have T:=iU s;rw[oV]at o⊢;clear h d;go_in;go_wp2;go_ret;simp
 have B:=nD l;rw[mM]at o⊢;have y:=O d;have H:=O C;clear h d C;go_in;go_wp2;go_loopg [5,7,20] (aA l) (λgk s _ i wr=>∃j:Nat,j+gk=aA l/\i=Y j/\s=Y ((1+((l.map aI).take j).sum:Nat):Int)/\wr=w);case atStart=>simp
 case round=>
  obtain⟨j,V,rfl,rfl,rfl⟩:=hrel;by_cases p:j<aA l
  .obtain⟨m,rfl⟩:∃m,gk=m+1:=⟨gk-1,Z⟩;obtain⟨g,u,rfl,U,S,L,A,r,z⟩:=H.get j p;have f:l[j]∈l:=(by simp);have D:=qE f;have I:=O (y u l[j] wr z Z Z);obtain⟨t,Q,rfl⟩:=z.form;have E:((l.map aI).take (j+1)).sum=((l.map aI).take j).sum+aI l[j]:=by grind[List.take_succ_eq_append_getElem]
   have G:((l.map aI).take (j+1)).sum<=(l.map aI).sum:=by grind[List.take_append_drop]
   generalize aI l[j]=P at*;clear z;go_wp;apply I.mono;rintro e J ⟨rfl,rfl⟩;go_wp2;go_roundg m;case measure=>exact Z
   grind
  have q:j=aA l:=Z;subst q;go_wp2;go_ret;exact⟨i_,by rw[ij s_];rfl⟩
def JX(F:bI):∀k,ID F k|0=>(by grind[yN,ID])|k+1=>XA F k (JX F k)
def sF:(prog.info? 264).map (λi=>(i.zero,i.size,i.bytes))=Wj (Wj .nilIface,1,16):=k_
def EA{P:Program}(w:aL)(t u r e:TypeId)(i:TypeInfo)(z:aU)(j:P.underlying t=Wj (.slice e))(q:P.underlying u=Wj (.int .i64))(s:P.info? e=Wj i)(o:i.zero=Wj z)(m:i.size=1) (n:Nat) (k:0<n) (v:n<=1000000000) (l:i.bytes<=64):(Builtin.append_ #[t,u] r #[bR,Y n]).run P w=.ok (P_ (Wj (aJ (H_ w) 0)) n (grownCap w n 0 e)) (dZ w.drew (Builtin.zeroCells z.cells n++Builtin.zeroCells z.cells (grownCap w n 0 e-n)) e):=by
 have g:n≠0:=Z;have h:=Nat.mul_le_mul v l;have d:¬(281474976710656<Builtin.nextslicecap n 0*i.bytes):=by rw[nextslicecap_zero k];exact Z
 have f:¬(9223372036854775807<(n:Int)):=Z;have p:IntKind.i64.wrap (n:Int)=n:=by rw[IntKind.wrap_i64];exact Z
 have c:¬(281474976710656<(n:Int)*(i.bytes:Int)):=by exact Z
 have b:¬((n:Int)<0):=Z;have a:max (n:Int) 0=n:=Z;simp[Builtin.append_,run_underlying j,run_underlying q,sizeOf,typeInfo,zeroValue,s,o,m,p,asInt,asIntOf,b,a,g,f,d,c,Question.forced,run_firstCells_none,newRow,grownCap]
def yT{P:Program}{c:Array Oper}{b:List Oper}{o:Oper}{a:Act}{Q:Exit->Act->World->Prop}(f:o.guard=none)(s x:Operand)(t u:TypeId) (q:o.op=.call {callee:=.builtin .append,args:=#[s,x],argTypes:=#[t,u]}) (e:TypeId) (i:TypeInfo) (z:aU) (g:P.underlying t=Wj (.slice e)) (r:P.underlying u=Wj (.int .i64)) (y:P.info? e=Wj i) (p:i.zero=Wj z) (l:i.size=1) (n:Nat) (j:0<n) (B:n<=1000000000) (k:i.bytes<=64) (v:a.eval s=bR) (A:a.eval x=Y n) (h:wpList P c Q b (a.put o.dst (P_ (Wj (aJ (H_ R) 0)) n (grownCap R n 0 e))) (dZ R.drew (Builtin.zeroCells z.cells n++Builtin.zeroCells z.cells (grownCap R n 0 e-n)) e)):wpList P c Q (o::b) a R:=by refine wpList_plain f λK m=>?_;have d:=EA (P:=P) R t u o.type e i z g r y p l n j B k;unfold Oper.wp;simp[execOp,q,resolve,invoke,builtin,v,A,d];exact m _ _ h
def U_(n:Nat)(i:n<=1000000)(w:aL):Wn Ww 384 #[bR,Y n] w λe d=>∃v,e=bP v/\d.ownsRow (H_ w) 264 1 v 0 []/\cB w d:=by
 have ⟨i0,hi,hz0,hz1,hz2⟩:=info_parts sF;rcases ju n with rfl|f;.go_in;go_wp2;go_ret;exact⟨_,i_,World.ownsRow_nil _ _ _ _,dw _ _⟩
 have b:=grownCap_ge w n 0 264;have a:=grownCap_le_maxLen w n 0 264 ky;generalize g:grownCap w n 0 264=c at b a;go_in;go_wp2_with (apply yT r_ _ _ 323 3 r_ 264 i0 .nilIface underlying323 underlying3 hi hz0 hz1 n f Z Z r_ r_);go_ret;refine⟨_,i_,⟨i_,dv ⟨H_ w,c,_,i_,Z,aS _ _ rfl _,Z,a,?_,rfl⟩⟩,?_⟩;grind[size_zeroCells];exact((dw _ _).drew).alloc s_ _
def iG(F:bI)(w:aL)(xs:List Wo)(l:List aD):Prop:=aA xs=aA l/\∀i (h:i<aA l),∃u,xs[i]?=Wj u/\PV F w u l[i]
def iG.nil(F:bI)(w:aL):iG F w [] []:=(by grind[iG])
theorem iG.j_{F:bI}{w w':aL}{a:List Wo}(h:iG F w a D)(c:∀b,F b->w'.heap[b]?=w.heap[b]?):iG F w' a D:=(by grind[PV.j_,iG])
theorem iG.mono{F G:bI}{w:aL}{a:List Wo}{l:List aD}(h:iG F w a l)(c:∀b,F b->G b):iG G w a l:=(by grind[PV.mono,iG])
def iG.append{a:List Wo}{m:List aD}(h:iG y R C D)(k:iG y R a m):iG y R (C++a) (D++m):=by refine⟨by simp[h.1,k.1],λi e=>?_⟩;rcases gu i (aA D) with c|c;grind[iG];have d:i-aA D<aA m:=G_;grind[iG]
def vd.row(h:vd y R E D):(D=[]/\E=bR)\/∃g a d,E=Wz (Wj (aJ g 0)) (aA D) a/\y g/\g<R.heap.size/\iG y R d D/\∀j u,d[j]?=Wj u->R.cell? (aJ g j)=Wj u:=by
 rcases h with h|⟨g,a,b,f,e,o,m,n⟩;grind;have k:aA D<=b.size:=by grind
 refine dv ⟨g,a,b.toList.take (aA D),f,e,G_,⟨G_,λi p=>?_⟩,λj u q=>?_⟩;grind;grind[aB]
theorem vd.ofRow{F:bI}{b_:Nat}{xs:List Wo}{l:List aD}(h:R.ownsRow b_ 264 1 E (aA l) xs)(p:iG F R xs l)(f:∀k,E.ownBlock=Wj k->F k):vd F R E l:=by rcases h.2 with ⟨a,j⟩|⟨g,b,c,a,j,d,e,o,m,n⟩;exact ea G_;refine dv ⟨g,b,c,a,f g (by rw[a];rfl),d,e,λi q=>?_⟩;grind[iG]
def tY(h:iG y R C D):∀u∈C,u.oneCell'=Wm:=by intro u c;obtain⟨j,a,rfl⟩:=jz.1 c;have ⟨u',e1,e2⟩:=h.2 j (by rw[<-h.1];exact a);rw[ew a]at e1;cases e1;have ⟨t,z,e⟩:=e2.form;rw[e];rfl
def LS{q:Array Oper}{f:List Oper}{o:Oper}{a:Act}{Q:Exit->Act->World->Prop}(p:o.guard=none)(s x:Operand)(t:TypeId)(B:prog.underlying t=Wj (.slice 264)) (E:o.op=.call {callee:=.builtin .append,args:=#[s,x],argTypes:=#[t,t]}) (c:Nat) (v:aU) (l m:List aD) (n:List Wo) (F:bI) (H:a.eval s=v) (e:R.ownsRow c 264 1 v (aA l) n) (J:iG F R n l) (G:aU) (I:a.eval x=G) (K:vd F R G m) (N:∀b,F b->b<H_ R/\v.ownBlock≠Wj b) (D:aA l+aA m<=1000000000) (j:c<=H_ R) (h:∀u i r,i.ownsRow c 264 1 u (aA (l++m)) r->iG F i r (l++m)->R.grownBy i v.ownBlock->wpList Ww q Q f (a.put o.dst u) i):wpList Ww q Q (o::f) a R:=by have ⟨i0,hi,hz0,hz1,hz2⟩:=info_parts sF;rcases K.row with ⟨rfl,rfl⟩|⟨g,y,r,rfl,M,L,d,z⟩;apply wpList_append_own_none p s x t E c 264 i0 1 B hi v (aA l) n H e I;exact h v R n G_ G_ ⟨rfl,rfl,rfl,Z,s_⟩;refine wpList_append_own _ p s x t E c 264 i0 _ 1 16 B hi hz0 hz1 hz2 i_ d_ v (aA l) n H e (aJ g 0) (aA m) y r I (by rw[d.1];exact Z) ((by grind[Addr.add_lit])) (tY d) ky Z j ?_;intro u i A k _;have C:∀b,F b->i.heap[b]?=R.heap[b]?:=(by grind[World.grownBy.block]);exact h u i (n++r) G_ ((J.j_ C).append (d.j_ C)) k
def qG(F:bI)(w:aL)(ls:List aD)(v:aU)(wr:aL):Prop:=∃ys,wr.ownsRow w.heap.size 264 1 v (aA ls) ys/\iG F wr ys ls/\cB w wr
theorem qG.step{a:aL}{b:List aD}{d:aU}(h:qG y R b E J)(e:a.ownsRow (H_ R) 264 1 d (aA (b++D)) C)(f:iG y a C (b++D))(g:J.grownBy a E.ownBlock):qG y R (b++D) d a:=by grind[Below.grown,Below.size,cA,qG]
theorem gG{b_:Nat}(h:R.ownsRow b_ H I E n C):∃x c,E=Wz x n c:=by rcases h.2 with ⟨d,f⟩|⟨g,e,a,d,_⟩;grind;grind
def WY(F:bI)(b:Nat)(x y:Option Ws)(c d:Nat)(l m:List aD)(w:aL)(D:w.heap[b]?=Wj (bM #[P_ x (aA l) c,P_ y (aA m) d] 323))(W:vd F w (P_ x (aA l) c) l)(X:vd F w (P_ y (aA m) d) m)(V:∀k,F k->k<H_ w)(ac:aA l+aA m<=1000000):Wn Ww 383 #[P_ (Wj (aJ b 0)) 2 2] w λe w'=>∃z,e=bP z/\qG F w (l++m) z w':=by
 have f:=aH D;have P:=aB D (i:=0) i_;have Q:=aB D (i:=1) i_;have HL:=O W;have HM:=O X;have T:=O V;have U:=O (U_ (aA l+aA m) Z w);have K:=O D;clear W X V D;go_in;go_wp2;go_loopg [3,5,11] 2 (λgk s _ i wr=>wr=w/\((gk=2/\i=Y 0/\s=Y 0)\/(gk=1/\i=Y 1/\s=Y (aA l:Nat))\/(gk=0/\i=Y 2/\s=Y ((aA l+aA m:Nat):Int))));case atStart=>simp
 case round=>
  obtain⟨hw,hrel⟩:=hrel;obtain rfl:=hw.symm;rcases hrel with ⟨rfl,rfl,rfl⟩|⟨rfl,rfl,rfl⟩|⟨rfl,rfl,rfl⟩
  .have e:decide ((aA l:Int)<0)=Wl:=(by simp);go_wp2;go_roundg 1;case measure=>exact Z
   simp
  .have e:decide ((aA l:Int)+(aA m:Int)<0)=Wl:=(by grind);go_wp2;go_roundg 0;case measure=>exact Z
   simp
  go_wp;apply U.mono;rintro e w1 ⟨v1,rfl,a,J⟩;obtain⟨x1,L,rfl⟩:∃x c,v1=P_ x 0 c:=by rcases a.2 with ⟨r1,_⟩|⟨g,aa,ab,r1,_⟩;grind;grind
  have N:Wu (qG F w [] (P_ x1 0 L) w1):=⟨[],a,iG.nil _ _,J⟩;clear a J U P Q;go_wp2;go_loopg [6,8,27] 2 (λgk s _ i M=>(gk=2/\i=Y 0/\qG F w [] s M)\/(gk=1/\i=Y 1/\qG F w l s M)\/(gk=0/\i=Y 2/\qG F w (l++m) s M));case atStart=>grind[dz]
  case round=>
   rcases hrel with ⟨rfl,rfl,r⟩|⟨rfl,rfl,r⟩|⟨rfl,rfl,r⟩
   .have p:=r;have ⟨ys,ho,hr,hbw⟩:=r;obtain⟨A,B,rfl⟩:=gG ho;have P:eJ wr b 0 (P_ x (aA l) c):=aB ((hbw.block b f).trans K) i_;have Q:eJ wr b 1 (P_ y (aA m) d):=aB ((hbw.block b f).trans K) i_;have G:=ef f hbw.size;have I:=O ho;have H:=O hr;have n:=O hbw;have v:=O p;have j:=O (HL.j_ (w':=wr) λk E=>hbw.block k (T k E));have q:Wu (∀k,F k->k<H_ wr/\(Value.slice A (aA ([]:List aD)) B).ownBlock≠Wj k):=λk E=>(by grind[Nat.lt_of_lt_of_le,dz,Below.size,cA]);clear ho hr hbw p N;go_wp2_with (at_builtin;apply LS r_ _ _ 323 underlying323 r_ (H_ w) (P_ A (aA ([]:List aD)) B) ([]:List aD) l ys F r_ I H _ r_ j q G_ n.size);intro z w' S o t u;have C:Wu (qG F w (([]:List aD)++l) z w'):=(by grind[qG.step,dz]);obtain⟨x',c',rfl⟩:=gG o;clear o t u I H j q n v;go_wp2;go_roundg 1;case measure=>exact Z
    grind[dz]
   .have p:=r;have ⟨ys,ho,hr,hbw⟩:=r;obtain⟨A,B,rfl⟩:=gG ho;have P:eJ wr b 0 (P_ x (aA l) c):=aB ((hbw.block b f).trans K) i_;have Q:eJ wr b 1 (P_ y (aA m) d):=aB ((hbw.block b f).trans K) i_;have G:=ef f hbw.size;have I:=O ho;have H:=O hr;have n:=O hbw;have v:=O p;have j:=O (HM.j_ (w':=wr) λk E=>hbw.block k (T k E));have q:Wu (∀k,F k->k<H_ wr/\(Value.slice A (aA (l)) B).ownBlock≠Wj k):=λk E=>(by grind[Nat.lt_of_lt_of_le,dz,Below.size,cA]);clear ho hr hbw p N;go_wp2_with (at_builtin;apply LS r_ _ _ 323 underlying323 r_ (H_ w) (P_ A (aA (l)) B) (l) m ys F r_ I H _ r_ j q Z n.size);intro z w' S o t u;have C:Wu (qG F w (l++m) z w'):=(by grind[qG.step,dz,iG]);obtain⟨x',c',rfl⟩:=gG o;clear o t u I H j q n v;go_wp2;go_roundg 0;case measure=>exact Z
    case rel=>exact dv (dv ⟨i_,i_,C⟩)
   have HC:=O r;have ⟨ys,ho,_⟩:=r;obtain⟨A,B,rfl⟩:=gG ho;clear ho N;go_wp2;go_ret;exact⟨_,i_,HC⟩
theorem mD{a:Ws}(o:Obj)(h:R.cell? a=Wj E):(R.alloc o).cell? a=Wj E:=by grind[World.block_lt_of_cell?,World.cell?_of_block,ed]
def OC(g d n c:Nat)(b:List Wo)(w:aL)(t:aA b=n*1)(x:n<=1000000)(y:∀j u,b[j]?=Wj u->eJ w g (d+j) u)(r:∀u∈b,u.oneCell'=Wm):Wn Ww 356 #[P_ (Wj (aJ g d)) n c] w λe l=>∃k,e=bP k/\l.ownsRow w.heap.size 264 1 k n b/\cB w l:=by have ⟨i0,hi,hz0,hz1,hz2⟩:=info_parts sF;have q:∀(w:aL) (a:Option Ws) (n c m o:Nat),(binOp .eql 323 (P_ a n c) (P_ none m o)).run Ww w=.ok (Xc a.isNone) w:=(by grind[Lib.run_eql_slice_nil,underlying323]);go_in;go_wp2_with (refine wpList_append_own _ r_ _ _ 323 r_ w.heap.size 264 i0 _ 1 16 underlying323 hi hz0 hz1 hz2 rfl d_ (P_ (Wj (aJ w.heap.size 0)) 0 0) 0 [] r_ (nr) (aJ g d) n c b r_ t (nw) r ky Z s_ ?_);intro k v i f _;have s:=O i;have p:=O f;go_wp2;go_ret;refine⟨_,i_,by simpa using s.out,?_⟩;exact((dw _ w).alloc (Z) _).grown p.out s_ nl
def zO(g d n c:Nat)(b:List Wo)(w:aL)(t:aA b=n*1)(x:n<=1000000)(y:∀j u,b[j]?=Wj u->eJ w g (d+j) u)(r:∀u∈b,u.oneCell'=Wm):Wn Ww 276 #[P_ (Wj (aJ g d)) n c] w λe l=>∃k,e=bP k/\l.ownsRow w.heap.size 264 1 k n b/\cB w l:=by have ⟨i0,hi,hz0,hz1,hz2⟩:=info_parts sF;have q:∀(w:aL) (a:Option Ws) (n c m o:Nat),(binOp .eql 110 (P_ a n c) (P_ none m o)).run Ww w=.ok (Xc a.isNone) w:=(by grind[Lib.run_eql_slice_nil,underlying110]);go_in;go_wp2_with (refine wpList_append_own _ r_ _ _ 110 r_ w.heap.size 264 i0 _ 1 16 underlying110 hi hz0 hz1 hz2 rfl d_ (P_ (Wj (aJ w.heap.size 0)) 0 0) 0 [] r_ (nr) (aJ g d) n c b r_ t (nw) r ky Z s_ ?_);intro k v i f _;have s:=O i;have p:=O f;go_wp2;go_ret;refine⟨_,i_,by simpa using s.out,?_⟩;exact((dw _ w).alloc (Z) _).grown p.out s_ nl
def zN(w:aL):Wn Ww 276 #[bR] w λe d=>e=bP (bR)/\d=w:=by have f:∀(w:aL) (a:Option Ws) (n c b g:Nat),(binOp .eql 110 (P_ a n c) (P_ none b g)).run Ww w=.ok (Xc a.isNone) w:=(by grind[Lib.run_eql_slice_nil,underlying110]);go_in;go_wp2;go_ret;simp
def oY(w:aL):Prop:=Lib.TabIs Ww w "internal/strconv.uint64pow10" .u64 Lib.pow10Tab
theorem oY.j_{w w':aL}(h:oY w)(b:prog.globalNamed "internal/strconv.uint64pow10"=Wj n)(a:w'.heap[n]?=w.heap[n]?):oY w':=by grind[oY,Lib.TabIs,World.var?]
def oY.below{a:aL}(h:oY R)(b:cB R a):oY a:=by grind[Program.globalNamed,oY,Lib.TabIs,World.var?,ej]
theorem FY:∀(f n:Nat) (t:bS),n<10^(f+1)->jD (f+1) n t=Lib.decDigits n++t|0,n,t,h=>by grind[jD,Lib.decDigits]|f+1,n,t,h=>by rw[jD,Lib.decDigits];by_cases a:n<10;grind;rw[dy a,dif_neg a,FY f (n/10) _ Z];simp
def NJ(n:Int)(a:-9223372036854775808<=n)(b:n<=9223372036854775807):Lib.itoa n=jV n:=by grind[Lib.itoa,jV,FY]
def FU:∀l:cU,Lib.join l [44,32]=fM l|[]=>rfl|[x]=>by simp[Lib.join,fM]|x::y::l=>by have a:=FU (y::l);grind[Lib.join,List.intercalate,List.intersperse_cons_cons,fM]
def i6(l:cU):Lib.join ((l.map bs).map λx=>dL x) (bs [44,32]).data.toList=fM l:=by rw[<-FU,List.map_map];have e:((λx:ByteArray=>dL x) ∘ bs)=id:=(by grind[bs]);grind[List.map_id,bs]
def EE(w:aL)(x:bS):∀j u,([Q_ (bs x)]:List Wo)[j]?=Wj u->(dZ w #[Q_ (bs x)] 9).cell? ((⟨H_ w,0,none⟩:Ws).add j)=Wj u:=by intro j v a;match j,a with|0,a=>simp at a;subst a;simp[Addr.add]|j+1,a=>simp at a
def KE(x:bS):∀u∈([Q_ (bs x)]:List Wo),u.oneCell'=Wm:=by intro u a;simp at a;rw[a];rfl
def CB:(prog.info? 9).map (λi=>(i.zero,i.size,i.bytes))=Wj (Wj (Q_ ⟨#[]⟩),1,16):=k_
def JB(l:cU):List Wo:=l.map λx=>Value.string (bs x)
def uC(F:bI)(k:Nat):Prop:=∀(v:aU) (a:aD) (w:aL),PV F w v a->(∀b,F b->b<w.heap.size)->oY w->aI a<=k->k<=1000000->Wn Ww 170 #[v] w λe w'=>e=bP (WD (bs (cW a)))/\cB w w'
def SO(F:bI)(k:Nat)(X:uC F k)(x:Option Ws)(c:Nat)(l:List aD)(w:aL)(hl:vd F w (P_ x (aA l) c) l)(hF:∀b,F b->b<H_ w)(hp:oY w)(hc:(l.map aI).sum<=k)(hk:k<=1000000):Wn Ww 224 #[P_ x (aA l) c] w λe w'=>e=bP (Q_ (bs (fM (l.map cW))))/\cB w w':=by
 have ⟨i0,hi,hz0,hz1,hz2⟩:=info_parts CB;have W:=nD l;have v:=O X;have T:=O hl;have HF:=O hF;have HP:=O hp;clear X hl hF hp;go_in;go_wp2;go_loopg [3,5,8] (aA l) (λgk s _ i wr=>∃j:Nat,j+gk=aA l/\i=Y j/\(∃y d,s=P_ y j d)/\wr.ownsRow (H_ w) 9 1 s j (JB ((l.map cW).take j))/\cB w wr);case atStart=>grind[World.ownsRow_nil,dw,JB]
 case round=>
  obtain⟨j,hj,rfl,⟨y,d,rfl⟩,n,f⟩:=hrel;by_cases M:j<aA l
  .obtain⟨m,rfl⟩:∃m,gk=m+1:=⟨gk-1,Z⟩;have D:=T.j_ λb H=>f.block b (HF b H);obtain⟨g,u,rfl,hn,ad,hg,V,N,S⟩:=D.get j M;have B:l[j]∈l:=(by simp);have ae:=qE B;have HX:=O (v u l[j] wr S (λb H=>ef (HF b H) f.size) (HP.below f) Z Z);obtain⟨t,u',rfl⟩:=S.form;have K:=f.size;have HO:=O n;have G:=O f;have C:JB ((l.map cW).take (j+1))=JB ((l.map cW).take j)++[Q_ (bs (cW l[j]))]:=by grind[List.take_succ_eq_append_getElem,JB]
   have I:=O C;clear S n f C D;go_wp;refine rB HX λE r=>?_;have aa:=r.size;have q:=lD HO r;have z:=O q;clear q;generalize cW l[j]=tx at*;go_wp2_with (at_builtin;refine wpList_append_lies _ r_ _ _ 51 r_ (H_ w) 9 i0 _ 1 16 underlying51 hi hz0 hz1 hz2 rfl d_ (P_ y j d) j _ r_ (z.alloc _) (aJ (H_ E) 0) 1 1 [Q_ (bs tx)] r_ r_ (EE E _) (KE _) d_ ky Z ku (H_ E+1) s_ ?_);intro g4 ab w4 p o A ag;have P:=O p;have Q:=O o;clear p o A;go_wp2;go_roundg m;case measure=>exact Z
   case rel=>refine⟨j+1,Z,lj,s_,by rw[I];exact P,?_⟩;exact((G.trans (r.mono Z)).alloc Z _).grown Q ku λk hk=>(z.lt k hk).1
  have J:j=aA l:=Z;subst J;have K:=f.size;rw[ij s_]at n;have G:=O f;have af:=uY l λa _=>sS a;rcases n.2 with ⟨U,r2⟩|⟨g,cp,ac,U,r2,r3,r4,r5,r6,r7⟩;.have e1:l=[]:=(by grind);subst e1;cases U;clear n f T v;go_wp;apply pN (strings_Join_none _ _ _ _);go_wp2;go_ret;exact⟨i_,G⟩
  cases U;have HJ:=O (strings_Join g 0 d ((l.map cW).map bs) (bs [44,32]) wr (λi x hx=>by
   apply aB r3;have e2:(JB (l.map cW))[i]?=Wj (Q_ x):=by grind[JB]
   grind) (G_) G_ G_ (by rw[i6];exact Z));have L:aA ((l.map cW).map bs)=aA l:=s_;rw[L,i6]at HJ;clear n f T v r3 r6 r7;go_wp;refine rB HJ λE r=>?_;go_wp2;go_ret;exact⟨i_,G.trans (r.mono Z)⟩
def R9{a:Array Obj}(h:J=Sort.grow (R.drewN n) a):cB R J:=by subst h;refine⟨i_,i_,i_,?_,λi c=>?_⟩;simp;show (R.heap++a)[i]?=R.heap[i]?;grind
def Vp:(⟨(Lib.formatBool Wl).toArray⟩:ByteArray)=bs [102,97,108,115,101]:=k_
def Sr:(⟨(Lib.formatBool Wm).toArray⟩:ByteArray)=bs [116,114,117,101]:=k_
def NA(F:bI)(k:Nat)(f:uC F k):uC F (k+1):=by
 intro v a w h q e i B;rcases h.cases with ⟨n,rfl,rfl,p,o⟩|⟨b,rfl,rfl⟩|⟨s,rfl,rfl⟩|⟨x,c,l,rfl,rfl,r⟩
 .have d:cW (bB n)=jV n:=by rw[mG];rfl
  have m:=O (strconv_FormatInt_10 n p o w e);rw[d];clear h f i e;go_in;go_wp2_with fail;refine rB m λt ⟨A,C,g⟩=>?_;have j:=R9 g;clear g;go_wp2;go_ret;exact⟨by rw[NJ n p o];rfl,j⟩
 .have d:cW (cF b)=if b then [116,114,117,101]else [102,97,108,115,101]:=by rw[mG];cases b<;>rfl
  rw[d];clear h f i e;cases b;all_goals go_in;go_wp;apply pN (strconv_FormatBool _ _);go_wp2;go_ret;exact⟨by first|(rw[Vp];rfl)|(rw[Sr];rfl),dw _ _⟩
 .have d:cW (bT s)=[34]++s++[34]:=by rw[mG];rfl
  have y:=iU s;rw[oV]at i;rw[d];clear h f e;go_in;go_wp2;go_ret;refine⟨?_,dw _ _⟩;rw[PL,PM];rfl
 have d:cW (bH l)=[91]++fM (l.map cW)++[93]:=by rw[mG];rfl
 have u:=uY l λa _=>sS a;rw[mM]at i;have m:=O (SO F k f x c l w r q e Z Z);have y:(bs (fM (l.map cW))).size=aA (fM (l.map cW)):=iU _;rw[d];generalize fM (l.map cW)=z at*;clear h f e r q;go_in;go_wp;refine rB m λt j=>?_;go_wp2;go_ret;refine⟨?_,j⟩;show Ending.returned (Q_ (bs [91]++bs z++bs [93]))=_;grind[nI]
def uO(F:bI):∀k,uC F k|0=>(by grind[yN,uC])|k+1=>NA F k (uO F k)
def MT(F:bI)(v:aU)(a:aD)(w:aL)(h:PV F w v a)(j:∀b,F b->b<H_ w)(k:oY w)(m:aI a<=100000):Wn Ww 358 #[v] w λe i=>e=bP (Q_ (bs (jX a)))/\cB w i:=by
 have f:=O (uO F 100000 v a w h j k m Z);rcases h.cases with ⟨n,rfl,rfl,p,o⟩|⟨b,rfl,rfl⟩|⟨s,rfl,rfl⟩|⟨x,c,l,rfl,rfl,q⟩;.go_in;go_wp;refine rB f λg d=>?_;go_wp2;go_ret;exact⟨i_,d⟩
 .go_in;go_wp;refine rB f λg d=>?_;go_wp2;go_ret;exact⟨i_,d⟩
 .go_in;go_wp2;go_ret;exact⟨i_,dw _ _⟩
 go_in;go_wp;refine rB f λg d=>?_;go_wp2;go_ret;exact⟨i_,d⟩
def U2(n m:Int)(w:aL):(binOp .eql 264 (dA 262 (Y n)) (dA 262 (Y m))).run Ww w=.ok (Xc (n==m)) w:=k_
def TQ(n m:Bool)(w:aL):(binOp .eql 264 (dA 320 (Xc n)) (dA 320 (Xc m))).run Ww w=.ok (Xc (n==m)) w:=k_
def ZF(n m:ByteArray)(w:aL):(binOp .eql 264 (dA 322 (Q_ n)) (dA 322 (Q_ m))).run Ww w=.ok (Xc (n==m)) w:=k_
def T9(a b:bS)(w:aL):(binOp .eql 264 (dA 322 (Q_ (bs a))) (dA 322 (Q_ (bs b)))).run Ww w=.ok (Xc (a==b)) w:=by rw[ZF];have h:(bs a==bs b)=((bs a).data==(bs b).data):=rfl;rw[h];simp[bs]
def ZJ(u v:aU)(w:aL):(binOp .eql 264 (dA 262 u) (dA 320 v)).run Ww w=.ok (Xc Wl) w:=k_
def U1(u v:aU)(w:aL):(binOp .eql 264 (dA 262 u) (dA 322 v)).run Ww w=.ok (Xc Wl) w:=k_
def ZI(u v:aU)(w:aL):(binOp .eql 264 (dA 262 u) (dA 323 v)).run Ww w=.ok (Xc Wl) w:=k_
def ZL(u v:aU)(w:aL):(binOp .eql 264 (dA 320 u) (dA 262 v)).run Ww w=.ok (Xc Wl) w:=k_
def ZK(u v:aU)(w:aL):(binOp .eql 264 (dA 320 u) (dA 322 v)).run Ww w=.ok (Xc Wl) w:=k_
def TP(u v:aU)(w:aL):(binOp .eql 264 (dA 320 u) (dA 323 v)).run Ww w=.ok (Xc Wl) w:=k_
def U0(u v:aU)(w:aL):(binOp .eql 264 (dA 322 u) (dA 262 v)).run Ww w=.ok (Xc Wl) w:=k_
def ZH(u v:aU)(w:aL):(binOp .eql 264 (dA 322 u) (dA 320 v)).run Ww w=.ok (Xc Wl) w:=k_
def ZG(u v:aU)(w:aL):(binOp .eql 264 (dA 322 u) (dA 323 v)).run Ww w=.ok (Xc Wl) w:=k_
def sE(h:G=b):cZ G b=Wm:=(sX G b).2 h
def fF(h:G≠b):cZ G b=Wl:=by grind[sX]
def IT{m:List aD}:bH D=bH m↔D=m:=by simp[bH]
def IC(F:bI)(k:Nat):Prop:=∀(u v:aU) (a b:aD) (w:aL),PV F w u a->PV F w v b->aI a<=k->k<=1000000000->aI b<=1000000000->Wn Ww 378 #[u,v] w λe w'=>w'=w/\e=bP (Xc (cZ a b))
def JW(F:bI)(k:Nat)(Q:IC F k)(x y:Option Ws)(c d:Nat)(l m:List aD)(w:aL)(P:vd F w (P_ x (aA l) c) l)(E:vd F w (P_ y (aA m) d) m)(hc:aI (bH l)<=k+1)(hk:k<=1000000000)(X:aI (bH m)<=1000000000):Wn Ww 382 #[P_ x (aA l) c,P_ y (aA m) d,.func (.func 378) #[] #[]] w λe w'=>w'=w/\e=bP (Xc (cZ (bH l) (bH m))):=by
 have h1:=nD l;have h2:=nD m;rw[mM]at hc X;by_cases f:aA l=aA m
 .have J:((aA l:Int) !=(aA l:Int))=Wl:=s_;rw[<-f]at E⊢;have HL:=O P;have HM:=O E;have M:=O Q;have v:=O f;clear P E Q f;go_in;go_wp2;go_loopg [6,7,8,9,17] (aA l) (λgk _ _ _ _ i wr=>∃j:Nat,j+gk=aA l/\i=Y j/\wr=w/\Wu (l.take j=m.take j));case atStart=>exact⟨0,Z,rfl,rfl,by simp[Wu]⟩
  case round=>
   obtain⟨j,hj,rfl,rfl,I⟩:=hrel;by_cases n:j<aA l
   .obtain⟨q,rfl⟩:∃q,gk=q+1:=⟨gk-1,Z⟩;obtain⟨g,u,rfl,hn,hF,hg,W,L,S⟩:=HL.get j n;obtain⟨g',u',rfl,N,aa,ab,T,H,B⟩:=HM.get j (by rw[<-v];exact n);have K:=qE (ga n);have r:j<aA m:=by rw[<-v];exact n
    have D:=qE (ga r);have G:=O (M u u' l[j] (m[j]'r) wr S B Z hk Z);obtain⟨t,z,rfl⟩:=S.form;obtain⟨t',z',rfl⟩:=B.form;have A:=gw n;have p:=gw r;have s:=ew n;have C:=ew r;generalize l[j]=a at*;generalize m[j]'r=b at*;clear S B K D hn N;by_cases o:a=b
    .rw[sE o]at G;have V:Wu (l.take (j+1)=m.take (j+1)):=by show _=_;rw[A,p,I,o]
     clear A p s C I o;go_wp;apply G.mono;rintro e w1 ⟨rfl,rfl⟩;go_wp2;go_roundg q;case measure=>exact Z
     case rel=>exact⟨j+1,Z,lj,rfl,V⟩
    rw[fF o]at G;have U:Wu (l≠m):=by show _≠_;intro e;rw[e,C]at s;cases s;exact o i_
    clear A p s C I o;go_wp;apply G.mono;rintro e w1 ⟨rfl,rfl⟩;go_wp2;go_ret;exact⟨i_,by rw[fF λe=>U (IT.1 e)];rfl⟩
   have HE:Wu (l=m):=by have:=I.out;rw[ij Z,ij (by rw[<-v];exact Z)]at this;exact this
   go_wp2;go_ret;exact⟨i_,by rw[sE (IT.2 HE.out)];rfl⟩
 have J:((aA l:Int) !=(aA m:Int))=Wm:=by simp;exact Z
 have U:Wu (l≠m):=by show _≠_;intro e;exact f (by rw[e])
 clear P E Q;go_in;go_wp2;go_ret;exact⟨i_,by rw[fF λe=>U (IT.1 e)];rfl⟩
def WX(F:bI)(k:Nat)(j:IC F k):IC F (k+1):=by
 intro u v a b w m g o G i;rcases m.cases with ⟨n,rfl,rfl,H,E⟩|⟨s,rfl,rfl⟩|⟨s,rfl,rfl⟩|⟨x,c,l,rfl,rfl,y⟩
 .rcases g.cases with ⟨p,rfl,rfl,_,_⟩|⟨f,rfl,rfl⟩|⟨f,rfl,rfl⟩|⟨B,A,q,rfl,rfl,_⟩
  .have t:=U2
   have d:Wu (cZ (bB n) (bB p)=(n==p)):=by
    show _=_
    by_cases e:n=p
    .rw[sE (by rw[e]),e,beq_self_eq_true]
    rw[fF (by simp[bB,e]),beq_eq_false_iff_ne.2 e]
   clear m g j o i;generalize cZ (bB n) (bB p)=r at*;go_in
   go_wp2
   go_ret;exact⟨i_,my⟩
  .have t:=ZJ;have d:Wu (cZ (bB n) (cF f)=Wl):=fF (by simp[bB,cF])
   clear m g j o i;generalize cZ (bB n) (cF f)=r at*;go_in
   go_wp2
   go_ret;exact⟨i_,my⟩
  .have t:=U1;have d:Wu (cZ (bB n) (bT f)=Wl):=fF (by simp[bB,bT])
   clear m g j o i;generalize cZ (bB n) (bT f)=r at*;go_in
   go_wp2
   go_ret;exact⟨i_,my⟩
  have t:=ZI;have d:Wu (cZ (bB n) (bH q)=Wl):=fF (by simp[bB,bH])
  clear m g j o i;generalize cZ (bB n) (bH q)=r at*;go_in
  go_wp2
  go_ret;exact⟨i_,my⟩
 .rcases g.cases with ⟨p,rfl,rfl,_,_⟩|⟨f,rfl,rfl⟩|⟨f,rfl,rfl⟩|⟨B,A,q,rfl,rfl,_⟩
  .have t:=ZL;have d:Wu (cZ (cF s) (bB p)=Wl):=fF (by simp[cF,bB])
   clear m g j o i;generalize cZ (cF s) (bB p)=r at*;go_in
   go_wp2
   go_ret;exact⟨i_,my⟩
  .have t:=TQ
   have d:Wu (cZ (cF s) (cF f)=(s==f)):=by
    show _=_
    cases s<;>cases f<;>first|exact sE i_|exact fF (by simp[cF])
   clear m g j o i;generalize cZ (cF s) (cF f)=r at*;go_in
   go_wp2
   go_ret;exact⟨i_,my⟩
  .have t:=ZK;have d:Wu (cZ (cF s) (bT f)=Wl):=fF (by simp[cF,bT])
   clear m g j o i;generalize cZ (cF s) (bT f)=r at*;go_in
   go_wp2
   go_ret;exact⟨i_,my⟩
  have t:=TP;have d:Wu (cZ (cF s) (bH q)=Wl):=fF (by simp[cF,bH])
  clear m g j o i;generalize cZ (cF s) (bH q)=r at*;go_in
  go_wp2
  go_ret;exact⟨i_,my⟩
 .rcases g.cases with ⟨p,rfl,rfl,_,_⟩|⟨f,rfl,rfl⟩|⟨f,rfl,rfl⟩|⟨B,A,q,rfl,rfl,_⟩
  .have t:=U0;have d:Wu (cZ (bT s) (bB p)=Wl):=fF (by simp[bT,bB])
   clear m g j o i;generalize cZ (bT s) (bB p)=r at*;go_in
   go_wp2
   go_ret;exact⟨i_,my⟩
  .have t:=ZH;have d:Wu (cZ (bT s) (cF f)=Wl):=fF (by simp[bT,cF])
   clear m g j o i;generalize cZ (bT s) (cF f)=r at*;go_in
   go_wp2
   go_ret;exact⟨i_,my⟩
  .have t:=T9
   have d:Wu (cZ (bT s) (bT f)=(s==f)):=by
    show _=_
    by_cases e:s=f
    .rw[sE (by rw[e]),e,beq_self_eq_true]
    rw[fF (by simp[bT,e]),beq_eq_false_iff_ne.2 e]
   clear m g j o i;generalize cZ (bT s) (bT f)=r at*;go_in
   go_wp2
   go_ret;exact⟨i_,my⟩
  have t:=ZG;have d:Wu (cZ (bT s) (bH q)=Wl):=fF (by simp[bT,bH])
  clear m g j o i;generalize cZ (bT s) (bH q)=r at*;go_in
  go_wp2
  go_ret;exact⟨i_,my⟩
 rcases g.cases with ⟨p,rfl,rfl,_,_⟩|⟨f,rfl,rfl⟩|⟨f,rfl,rfl⟩|⟨B,A,q,rfl,rfl,z⟩
 .have d:Wu (cZ (bH l) (bB p)=Wl):=fF (by simp[bH,bB])
  clear m g y j o i;generalize cZ (bH l) (bB p)=r at*;go_in
  go_wp2
  go_ret;exact⟨i_,my⟩
 .have d:Wu (cZ (bH l) (cF f)=Wl):=fF (by simp[bH,cF])
  clear m g y j o i;generalize cZ (bH l) (cF f)=r at*;go_in
  go_wp2
  go_ret;exact⟨i_,my⟩
 .have d:Wu (cZ (bH l) (bT f)=Wl):=fF (by simp[bH,bT])
  clear m g y j o i;generalize cZ (bH l) (bT f)=r at*;go_in
  go_wp2
  go_ret;exact⟨i_,my⟩
 have C:=O (JW F k j x B c A l q w y z o Z i);clear m g y z j o i;generalize cZ (bH l) (bH q)=r at*;go_in
 go_wp2_with fail;apply C.mono
 rintro e D ⟨rfl,rfl⟩;go_wp2
 go_ret;exact⟨i_,i_⟩
def AM(F:bI):∀k,IC F k|0=>λu v a b w _ _ h=>by have:=yN a;exact Z|k+1=>WX F k (AM F k)
def rN(F:bI)(v:aU)(a:aD)(w:aL)(h:PV F w v a)(g:aI a<=1000000000):Wn Ww 352 #[v] w λe d=>d=w/\((aI a<=200/\e=bP v)\/(200<aI a/\e=iY 6)):=by
 have b:=O (JX F 1000000000 v a w h g (Z));generalize aI a=n at*;by_cases f:n<=200;.go_in;go_wp;apply b.mono;rintro e c ⟨rfl,rfl⟩;go_wp2;go_ret;exact⟨i_,ea ⟨f,i_⟩⟩
 go_in;go_wp;apply b.mono;rintro e c ⟨rfl,rfl⟩;go_wp21;exact⟨i_,i_,G_⟩
def AL(F:bI)(v:aU)(a:aD)(n:Nat)(w:aL)(h:PV F w v a)(_hn:n<=1000000000):Wn Ww 355 #[v,Y n] w λe d=>d=w/\((a.c_≠0/\e=iY 2)\/(a.c_=0/\(a.n<0\/(n:Int)<=a.n)/\e=iY 4)\/(a.c_=0/\∃k:Nat,k<n/\a.n=k/\e=bP (Y k))):=by
 rcases h.cases with ⟨m,rfl,rfl,o,j⟩|⟨b,rfl,rfl⟩|⟨s,rfl,rfl⟩|⟨x,c,l,rfl,rfl,_⟩
 .clear h;by_cases p:m<0;.have i:decide (m<0)=Wm:=(by grind);go_in;go_wp;exact⟨i_,i_,(by grind[bB])⟩
  have i:decide (m<0)=Wl:=(by grind);by_cases f:(n:Int)<=m;.have g:decide ((n:Int)<=m)=Wm:=(by grind);go_in;go_wp;exact⟨i_,i_,(by grind[bB])⟩
  have g:decide ((n:Int)<=m)=Wl:=(by grind);go_in;go_wp2;go_ret;exact⟨i_,dv (dv ⟨i_,m.toNat,Z,by show m=_;exact Z,by rw[Int.toNat_of_nonneg Z];rfl⟩)⟩
 .clear h;go_in;go_wp;exact⟨i_,i_,(by grind[cF])⟩
 .clear h;go_in;go_wp;exact⟨i_,i_,(by grind[bT])⟩
 clear h;go_in;go_wp;exact⟨i_,i_,(by grind[bH])⟩
def SN(F:bI)(x:Option Ws)(c:Nat)(l:List aD)(w:aL)(h:vd F w (Wz x (aA l) c) l)(d:aI (bH l)<=1000000000):Wn Ww 362 #[Wz x (aA l) c] w λe b=>b=w/\((aI (bH l)<=200/\e=bP (Xb 323 (Wz x (aA l) c)))\/(200<aI (bH l)/\e=iY 6)):=by
 have f:=O (rN F _ _ w (PV.vw h) d);go_in;go_wp;apply f.mono;rintro e g ⟨rfl,⟨a,rfl⟩|⟨a,rfl⟩⟩;.go_wp2;go_ret;exact⟨i_,ea ⟨a,i_⟩⟩
 exact⟨i_,i_,G_⟩
noncomputable def OW(op:bS)(a b:bS):aD×Nat:=if op=[60]then (cF (jA a b),0) else if op=[60,61]then (cF (!jA b a),0) else if op=[43]then (if 200<aI (bT (a++b))then (aY,6)else (bT (a++b),0)) else (aY,2)
def Rw(d:bS)(F:bI)(a b:bS)(w:aL)(q:aA a+aA b<=1000000):Wn Ww 380 #[Q_ (bs d),Q_ (bs a),Q_ (bs b)] w (nZ F w (OW d a b)):=by
 have c:=bA d;have ⟨r,hr⟩:∃r,r=OW d a b:=⟨_,rfl⟩;rw[<-hr];unfold OW at hr;by_cases g:d=[60]
 .rw[ec g]at hr;have p:((bs d).toList==[60])=Wm:=by rw[c,g];rfl
  have i:Wu (Op.bytesLess (bs a).toList (bs b).toList=jA a b):=by show _=_;rw[bA,bA,sL]
  have f:=O hr;clear c hr g;generalize jA a b=t at*;go_in;go_wp2;go_ret;exact nZ.ok f (by rw[<-i];exact PV.yj F w _)
 rw[dy g]at hr;have p:((bs d).toList==[60])=Wl:=by rw[c];simpa using g
 by_cases j:d=[60,61]
 .rw[ec j]at hr;have v:((bs d).toList==[60,61])=Wm:=by rw[c,j];rfl
  have i:Wu ((Op.bytesLess (bs a).toList (bs b).toList||(bs a).toList==(bs b).toList)=!jA b a):=by show _=_;rw[bA,bA,sL,EL]
  have f:=O hr;clear c hr g j;generalize jA b a=t at*;go_in;go_wp2;go_ret;exact nZ.ok f (by rw[<-i];exact PV.yj F w _)
 rw[dy j]at hr;have v:((bs d).toList==[60,61])=Wl:=by rw[c];simpa using j
 by_cases k:d=[43]
 .rw[ec k]at hr;have u:((bs d).toList==[43])=Wm:=by rw[c,k];rfl
  have l:=oV (a++b);have x:=O (rN F (dA 322 (Q_ (bs (a++b)))) _ w (PV.str F w (a++b)) (by rw[l,et];exact Z));have f:=O hr;have s:=iU;clear c hr g j k l;go_in;go_wp;apply x.mono;rintro e o ⟨rfl,⟨m,rfl⟩|⟨m,rfl⟩⟩
  .have n:Wu (r=(bT (a++b),0)):=by show _=_;rw[f,dy Z]
   clear m f;go_wp2;go_ret;exact nZ.ok n (PV.str F o (a++b))
  have n:Wu (r=(aY,6)):=by show _=_;rw[f,ec m]
  clear m f;go_wp;exact⟨i_,nZ.stop n d_⟩
 rw[dy k]at hr;have u:((bs d).toList==[43])=Wl:=by rw[c];simpa using k
 have f:=O hr;clear c hr g j k;go_in;go_wp;exact⟨i_,nZ.stop f d_⟩
def jK(F:bI)(w:aL)(r:aD×Nat)(e:Ending)(w':aL):Prop:=cB w w'/\((r.2=0/\∃u,e=bP u/\PV (tu F w w') w' u r.1)\/(r.2≠0/\e=iY r.2))
def jK.ok{F:bI}{b:aL}{r:aD×Nat}{u:aU}{a:aD}(d:cB R b)(c:r=(a,0))(h:PV (tu F R b) b u a):jK F R r (bP u) b:=by grind[jK]
def jK.stop{b:aL}{r:aD×Nat}{a:aD}(e:cB R b)(d:r=(a,n))(c:n≠0):jK y R r (iY n) b:=by grind[jK]
noncomputable def EF(op:bS)(l m:List aD):aD×Nat:=if op=[43]then (if 200<aI (bH (l++m))then (aY,6)else (bH (l++m),0))else (aY,2)
def IL(Y_:a:=by go_wp2_with fail;exact⟨i_,(by grind[dz,jK])⟩):a:=Y_
def K5(a:bS)(F:bI)(x y:Option Ws)(c d:Nat)(l m:List aD)(w:aL)(G:vd F w (P_ x (aA l) c) l)(H:vd F w (P_ y (aA m) d) m)(C:∀k,F k->k<H_ w)(S:aI (bH l)+aI (bH m)<=1000000):Wn Ww 381 #[Q_ (bs a),P_ x (aA l) c,P_ y (aA m) d] w (jK F w (EF a l m)):=by
 have p:=bA a;have ⟨r,hr⟩:∃r,r=EF a l m:=(by simp);rw[<-hr];unfold EF at hr;by_cases u:a=[43]
 .rw[ec u]at hr;have J:((bs a).toList==[43])=Wm:=G_;have B:((bs a).toList !=[43])=Wl:=G_;have K:=nD l;have N:=nD m;rw[mM,mM]at S;have P:aI (bH (l++m))=1+((l.map aI).sum+(m.map aI).sum):=by grind[mM]
  have g:cB w (dZ w #[P_ x (aA l) c,P_ y (aA m) d] 323):=(by grind[eo,dw]);have I:=O (WY F (H_ w) x y c d l m (dZ w #[P_ x (aA l) c,P_ y (aA m) d] 323) (aS _ _ i_ _) ((by grind[vd.j_,ej])) ((by grind[vd.j_,ej])) (λk j=>ef (C k j) g.size) Z);have f:=O g;have A:=O hr;clear p hr u G H C g;go_in;go_wp;apply I.mono;rintro e t ⟨T,rfl,U,q,o,s⟩;obtain⟨Q,L,rfl⟩:=gG q;have b:=f.trans (s.mono f.size);have i:vd (tu F w t) t (P_ Q (aA (l++m)) L) (l++m):=vd.ofRow q (o.mono λk j=>ea j) λk j=>dv ⟨by have:=cA q k j;have:=f.size;exact Z,dT q k j⟩;have M:=O (rN (tu F w t) _ _ t (PV.vw i) Z);have v:=O i;have D:=O b;clear q o s b i I;generalize (aA (l++m))=n at*;go_wp21;apply M.mono;rintro e V ⟨rfl,⟨z,rfl⟩|⟨z,rfl⟩⟩;.have E:Wu (r=(bH (l++m),0)):=G_;clear z A;go_wp2;go_ret;exact jK.ok D E (PV.vw v)
  have E:Wu (r=(aY,6)):=G_;clear z A;exact IL
 rw[dy u]at hr;have J:((bs a).toList==[43])=Wl:=G_;have B:((bs a).toList !=[43])=Wm:=G_;have A:=O hr;clear p hr u G H C;go_in;go_wp;exact⟨i_,(by grind[dw,dz,jK])⟩
def jK.Dq{r:aD×Nat}{e:Ending}(h:nZ y R r e J):jK y R r e J:=by obtain⟨rfl,⟨c,u,b,d⟩|⟨c,b⟩⟩:=h;exact⟨dw _ _,(by grind[PV.mono,tu])⟩;grind[dw,jK]
def Uh(c:f≠[61,61])(b:f≠[33,61])(n m:Int):dH f (bB n) (bB m)=jJ f n m:=by grind[dH,bB]
def Ht(e:f≠[61,61])(d:f≠[33,61])(a b:bS):dH f (bT a) (bT b)=OW f a b:=by grind[dH,OW,iK,bT]
def Ku(e:f≠[61,61])(d:f≠[33,61])(a b:List aD):dH f (bH a) (bH b)=EF f a b:=by grind[dH,EF,iK,bH]
def kM(e:f≠[61,61])(d:f≠[33,61])(h:G.c_≠b.c_\/G.c_=1):dH f G b=(aY,2):=by grind[dH]
def XB(q:bS)(F:bI)(u v:aU)(a b:aD)(w:aL)(m:PV F w u a)(j:PV F w v b)(p:∀k,F k->k<H_ w)(d:aI a<=400000)(i:aI b<=400000):Wn Ww 377 #[Q_ (bs q),u,v] w (jK F w (dH q a b)):=by
 have y:=bA q;by_cases f:q=[61,61]
 .have V:((bs q).toList==[61,61])=Wm:=by rw[y,f];rfl
  have E:Wu (dH q a b=(cF (cZ a b),0)):=by show _=_;unfold dH;rw[ec f]
  have J:=O (AM F 400000 u v a b w m j d Z Z);obtain⟨t,z,rfl⟩:=m.form;obtain⟨X,z',rfl⟩:=j.form;clear m j y f;rw[E];generalize cZ a b=s at*;go_in;go_wp;apply J.mono;rintro e M ⟨rfl,rfl⟩;go_wp2;go_ret;exact jK.ok (dw _ _) i_ (PV.yj _ _ s)
 have V:((bs q).toList==[61,61])=Wl:=by rw[y];simpa using f
 by_cases g:q=[33,61]
 .have e1:((bs q).toList==[33,61])=Wm:=by rw[y,g];rfl
  have E:Wu (dH q a b=(cF (!cZ a b),0)):=by show _=_;unfold dH;rw[dy f,ec g]
  have J:=O (AM F 400000 u v a b w m j d Z Z);obtain⟨t,z,rfl⟩:=m.form;obtain⟨X,z',rfl⟩:=j.form;clear m j y f g;rw[E];generalize cZ a b=s at*;go_in;go_wp;apply J.mono;rintro e M ⟨rfl,rfl⟩;go_wp2;go_ret;exact jK.ok (dw _ _) i_ (PV.yj _ _ (!s))
 have e1:((bs q).toList==[33,61])=Wl:=by rw[y];simpa using g
 clear y;rcases m.cases with ⟨n,rfl,rfl,h1,W⟩|⟨s,rfl,rfl⟩|⟨s,rfl,rfl⟩|⟨x,c,l,rfl,rfl,U⟩
 .rcases j.cases with ⟨K,rfl,rfl,H,G⟩|⟨D,rfl,rfl⟩|⟨D,rfl,rfl⟩|⟨P,N,L,rfl,rfl,B⟩
  .rw[Uh f g];have J:=O (Rm q F n K w h1 W H G);generalize jJ q n K=r at*;clear m j p f g d i;go_in;go_wp;apply J.mono;rintro e M ⟨rfl,⟨o,u1,rfl,A⟩|⟨o,rfl⟩⟩;.have E:=O A;have C:=O o;obtain⟨T,S,rfl⟩:=A.form;clear A o;go_wp2;go_ret;exact jK.Dq ⟨i_,ea ⟨C,_,i_,E⟩⟩
   have C:=O o;clear o;go_wp;exact⟨i_,jK.Dq ⟨i_,dv ⟨C,i_⟩⟩⟩
  .rw[kM f g (by simp[bB,cF])];clear m j p f g d i;go_in;go_wp;exact⟨i_,jK.stop (dw _ _) i_ d_⟩
  .rw[kM f g (by simp[bB,bT])];clear m j p f g d i;go_in;go_wp;exact⟨i_,jK.stop (dw _ _) i_ d_⟩
  rw[kM f g (by simp[bB,bH])];clear m j p f g d i;go_in;go_wp;exact⟨i_,jK.stop (dw _ _) i_ d_⟩
 .rcases j.cases with ⟨K,rfl,rfl,H,G⟩|⟨D,rfl,rfl⟩|⟨D,rfl,rfl⟩|⟨P,N,L,rfl,rfl,B⟩;.rw[kM f g (by simp[cF,bB])];clear m j p f g d i;go_in;go_wp;exact⟨i_,jK.stop (dw _ _) i_ d_⟩
  .rw[kM f g (by simp[cF])];clear m j p f g d i;go_in;go_wp;exact⟨i_,jK.stop (dw _ _) i_ d_⟩
  .rw[kM f g (by simp[cF,bT])];clear m j p f g d i;go_in;go_wp;exact⟨i_,jK.stop (dw _ _) i_ d_⟩
  rw[kM f g (by simp[cF,bH])];clear m j p f g d i;go_in;go_wp;exact⟨i_,jK.stop (dw _ _) i_ d_⟩
 .rcases j.cases with ⟨K,rfl,rfl,H,G⟩|⟨D,rfl,rfl⟩|⟨D,rfl,rfl⟩|⟨P,N,L,rfl,rfl,B⟩;.rw[kM f g (by simp[bT,bB])];clear m j p f g d i;go_in;go_wp;exact⟨i_,jK.stop (dw _ _) i_ d_⟩
  .rw[kM f g (by simp[bT,cF])];clear m j p f g d i;go_in;go_wp;exact⟨i_,jK.stop (dw _ _) i_ d_⟩
  .rw[Ht f g];rw[oV]at d i;have J:=O (Rw q F s D w Z);generalize OW q s D=r at*;clear m j p f g d i;go_in;go_wp;apply J.mono;rintro e M ⟨rfl,⟨o,u1,rfl,A⟩|⟨o,rfl⟩⟩;.have E:=O A;have C:=O o;obtain⟨T,S,rfl⟩:=A.form;clear A o;go_wp2;go_ret;exact jK.Dq ⟨i_,ea ⟨C,_,i_,E⟩⟩
   have C:=O o;clear o;go_wp;exact⟨i_,jK.Dq ⟨i_,dv ⟨C,i_⟩⟩⟩
  rw[kM f g (by simp[bT,bH])];clear m j p f g d i;go_in;go_wp;exact⟨i_,jK.stop (dw _ _) i_ d_⟩
 rcases j.cases with ⟨K,rfl,rfl,H,G⟩|⟨D,rfl,rfl⟩|⟨D,rfl,rfl⟩|⟨P,N,L,rfl,rfl,B⟩;.rw[kM f g (by simp[bH,bB])];clear m j p f g d i;go_in;go_wp;exact⟨i_,jK.stop (dw _ _) i_ d_⟩
 .rw[kM f g (by simp[bH,cF])];clear m j p f g d i;go_in;go_wp;exact⟨i_,jK.stop (dw _ _) i_ d_⟩
 .rw[kM f g (by simp[bH,bT])];clear m j p f g d i;go_in;go_wp;exact⟨i_,jK.stop (dw _ _) i_ d_⟩
 rw[Ku f g];have J:=O (K5 q F x P c N l L w U B p Z);generalize EF q l L=r at*;clear m j p f g d i U B;go_in;go_wp;apply J.mono;rintro e M ⟨I,⟨o,u1,rfl,A⟩|⟨o,rfl⟩⟩;.have E:=O A;have C:=O o;have Q:=O I;obtain⟨T,S,rfl⟩:=A.form;clear A o I;go_wp2;go_ret;exact⟨Q,ea ⟨C,_,i_,E⟩⟩
 have C:=O o;have Q:=O I;clear o I;go_wp;exact⟨i_,Q,dv ⟨C,i_⟩⟩
def C7(F:bI)(w:aL)(sv:aU)(l:List aD):Prop:=(l=[]/\∃x c,sv=Wz x 0 c)\/∃g o c,sv=Wz (Wj (aJ g o)) (aA l) c/\aA l<=c/\g<w.heap.size/\∀i (h:i<aA l),∃u,w.cell? (aJ g (o+i))=Wj u/\PV F w u l[i]
def C7.below{a:aL}{b:aU}(h:C7 y R b D)(j:cB R a)(p:∀k,y k->k<R.heap.size):C7 y a b D:=by rcases h with h|⟨g,o,c,e,d,f,m⟩;exact ea h;refine dv ⟨g,o,c,e,d,ef f j.size,λi n=>?_⟩;grind[Below.cell,PV.j_,ej]
def CW{a:aD}:cI (G::D) a b=if a.c_≠3\/G.c_≠0 then (aY,2)else if G.n<0\/(aA a.l:Int)<=G.n then (aY,4)else if (cI D (a.l.getD G.n.toNat aY) b).2≠0 then (aY,(cI D (a.l.getD G.n.toNat aY) b).2)else (bH (a.l.set G.n.toNat (cI D (a.l.getD G.n.toNat aY) b).1),0):=by rw[cI]
def Tn{g b k:Nat}{u:aU}(h:R.ownsRow I H 1 (P_ (Wj (aJ g 0)) n b) n C)(_hk:k<n):(R.setCell (aJ g k) u).ownsRow I H 1 (P_ (Wj (aJ g 0)) n b) n (C.set k u):=by rcases h.2 with ⟨c,_⟩|⟨q,e,d,c,m,i,j,l,o,p⟩;cases c;cases c;refine⟨G_,dv ⟨g,b,d.setIfInBounds k u,rfl,m,?_,j,l,G_,?_⟩⟩;rw[aN i];grind[List.take_set]
def iG.set{F:bI}{b:List Wo}{l:List aD}{u:aU}(h:iG F R b l)(k:Nat)(c:PV F R u G):iG F R (b.set k u) (l.set k G):=by grind[iG]
def Ko{F:bI}{c:aL}{k:Nat}{r:aD×Nat}(h:cB R J)(p:Below (H_ J) J.drew c) (e:J.ownsRow (H_ R) 264 1 (P_ (Wj (aJ I 0)) (aA D) n) (aA D) C) (z:iG F R C D) (y:PV (tu F J.drew c) c (dA H E) G) (a:r=(bH (D.set k G),0)) (B:∀q,F q->q<H_ R) (v:k<aA D):jK F R r (bP (dA 323 (P_ (Wj (aJ I 0)) (aA D) n))) (c.setCell (aJ I k) (dA H E)):=by have hg1:=cA e I i_;have hg1l:=dT e I i_;have hb2':=((dw _ J).drew).trans p;have h12:=hb2'.size;have hb:=h.trans (hb2'.mono h.size);have t:cB R (c.setCell (aJ I k) (dA H E)):=hb.setCell hg1 _;have s:c.ownsRow (H_ R) 264 1 (P_ (Wj (aJ I 0)) (aA D) n) (aA D) C:=(by grind[aX,ej,dT]);have j:=Tn (u:=dA H E) s v;have x:(c.setCell (aJ I k) (dA H E)).heap.size=H_ c:=s_;refine jK.ok t a (PV.vw ?_);have g:aA (D.set k G)=aA D:=List.length_set;have:=vd.ofRow (F:=tu F R (c.setCell (aJ I k) (dA H E))) (l:=D.set k G) (by rw[g];exact j) ?_ ?_;exact this;apply iG.set ((z.j_ lm).mono λq a=>ea a) k;refine(y.j_ λq a=>?_).mono λq a=>?_;apply eh _ _ _ _;rcases a with a|⟨a,_⟩;grind;have:H_ J<=q:=a;exact Z;rcases a with a|⟨a,A⟩;grind;have:H_ J<=q:=a;exact Z;intro q a;obtain rfl:I=q:=fm a;grind[tu]
def yS(F:bI)(l:List aD):Prop:=∀(sv u v:aU) (a b:aD) (w:aL),C7 F w sv l->PV F w u a->PV F w v b->(∀k,F k->k<w.heap.size)->aI a<=400000->aA l<=1000000->Wn Ww 353 #[u,sv,v] w (jK F w (cI l a b))
def TV(F:bI):yS F []:=by
 intro e u v a b w j k d m l i;obtain⟨x,c,rfl⟩:∃x c,e=P_ x 0 c:=by grind[C7]
 have f:=O d;go_in;go_wp2;go_ret;exact jK.ok (dw _ _) i_ (f.mono λ_ g=>ea g)
def rV(Y_:a:=by go_wp2_with fail;exact⟨i_,(by grind[dw,dz,jK])⟩):a:=Y_
def TW(F:bI)(i:aD)(l:List aD)(V:∀F,yS F l):yS F (i::l):=by
 intro sv u v a b w hi hu S X hc hl;simp[ff]at hl;obtain⟨g,o,c,rfl,ay,hg,f⟩:∃g o c,sv=P_ (Wj (aJ g o)) (aA l+1) c/\aA l+1<=c/\g<H_ w/\∀j (h:j<aA (i::l)),∃u,eJ w g (o+j) u/\PV F w u (i::l)[j]:=by grind[C7]
 have ⟨ui,ci,hpi⟩:=f 0 s_;simp[hQ,jc]at ci hpi;have az:(((aA l+1:Nat):Int)==0)=Wl:=G_;have ⟨r,hr⟩:∃r,r=cI (i::l) a b:=(by simp);rw[<-hr];rw[CW]at hr;obtain⟨t',z',rfl⟩:=S.form;obtain⟨ti,zi,rfl⟩:=hpi.form;have d:a.c_≠3->Wu (r=(aY,2)):=λh=>by show _=_;grind
 rcases hu.cases with ⟨n,rfl,rfl,_,_⟩|⟨s,rfl,rfl⟩|⟨s,rfl,rfl⟩|⟨x,cx,m,rfl,rfl,hm⟩;.have HP:=d (by simp[bB]);clear hu S hi X f hpi hr d V;go_in;exact rV
 .have HP:=d (by simp[cF]);clear hu S hi X f hpi hr d V;go_in;exact rV
 .have HP:=d (by simp[bT]);clear hu S hi X f hpi hr d V;go_in;exact rV
 have be:=nD m;rw[mM]at hc;have ab:=O (AL F _ i (aA m) w hpi Z);have HR:=O hr;have HM:=O hm;have HV:=O S;have HF:=O X;have W:=O f;have U:=O V;clear hu S hi X f hpi hr d V hm;go_in;go_wp;apply ab.mono;rintro e B ⟨Q,⟨h2,rfl⟩|⟨h2,h3,rfl⟩|⟨h2,k,G,af,rfl⟩⟩;obtain rfl:=Q.symm;have HP:Wu (r=(aY,2)):=G_;clear h2 Q;exact rV;obtain rfl:=Q.symm;have HP:Wu (r=(aY,4)):=by grind[bH]
 clear h2 h3 Q;exact rV;obtain rfl:=Q.symm;have ⟨gm,uk0,hx0,_⟩:=HM.get k G;rcases HM.row with ⟨rfl,_⟩|⟨aw,bb,xs,am,ar,bc,z,E⟩;simp at G;cases am;have ⟨uk,hxk,hpk⟩:=z.2 k G;have ae:=O (OC aw 0 (aA m) cx xs w (by rw[z.1];exact Z) Z (G_) (tY z));have ak:aI m[k]<=400000:=by have:=qE (ga G);exact Z
 have L:Wu (r=if (cI l m[k] b).2≠0 then (aY,(cI l m[k] b).2)else (bH (m.set k (cI l m[k] b).1),0)):=by grind[bH]
 obtain⟨tk,zk,rfl⟩:=hpk.form;have ag:=O z;have aa:=O hpk;have av:=O hxk;clear Q h2 af HR ab E z hpk hxk ar hx0;go_wp21;apply ae.mono;rintro e B ⟨v1,rfl,D,H⟩;rcases D.2 with ⟨r1,r2⟩|⟨g1,c1,ah,rfl,bd,t,aq,ap,an,au⟩;exact Z;have I:ah[k]?=Wj (dA tk zk):=by grind[dz]
 have d0:=aB t I;have ac:=aH t;have aj:Wu (∀q,F q->q<B.drew.heap.size):=λq hq=>ef (HF q hq) H.size;have A:=H.drew;have ⟨P,sq⟩:∃P:Option Ws,(if c=1 then Wj (⟨g,o,none⟩:Ws)else Wj (aJ g (o+1)))=P:=(by simp);have T:C7 F B.drew (P_ P (aA l) (c-1)) l:=by by_cases h1:c=1;grind[List.length_eq_zero_iff,C7];rw[dy h1]at sq;subst sq;refine dv ⟨g,o+1,c-1,i_,Z,ef hg A.size,λj hj=>?_⟩;have ⟨u,e1,e2⟩:=W (j+1) G_;grind[Below.cell,PV.j_,ej,dz]
 have bf:(1:Int)<=(aA l:Int)+1:=Z;have ba:(aA l:Int)+1<=(c:Int):=Z;have HX:=O (U F (P_ P (aA l) (c-1)) (dA tk zk) (dA t' z') m[k] b B.drew T (aa.j_ λk G=>A.block k (HF k G)) (HV.j_ λk G=>A.block k (HF k G)) aj ak Z);generalize cI l m[k] b=N at HX L;have HOWN:=O D;have HBLK:=O t;have K:=O H;clear D t H A T ae U W aa an au aq ap av;by_cases hz:N.2=0
 .have J:Wu (Wn Ww 353 #[dA tk zk,P_ P (aA l) (c-1),dA t' z'] B.drew λe w'=>Below (H_ B) B.drew w'/\∃t2 u2,e=bP (dA t2 u2)/\PV (tu F B.drew w') w' (dA t2 u2) N.1):=by apply HX.mono;rintro e M ⟨y,⟨_,u2,rfl,C⟩|⟨al,rfl⟩⟩;obtain⟨t2,z2,rfl⟩:=C.form;exact⟨y,t2,z2,i_,C⟩;exact Z
  have HQ:Wu (r=(bH (m.set k N.1),0)):=G_;clear HX L hz;go_wp2;go_region_law (go_simp;go_at_call 353;apply J.mono;rintro e M ⟨y,t2,u2,rfl,C⟩;have p:=(y.block g1 ac).trans HBLK;have d2:=aB p I;have bg:=aE p (i:=k);have ax:=aH p;have ai:=O C;have ao:=O y;have HBLK2:=O p;clear C y p);all_goals go_wp2;go_ret;exact Ko K ao HOWN ag ai HQ HF G
 have J:Wu (Wn Ww 353 #[dA tk zk,P_ P (aA l) (c-1),dA t' z'] B.drew λe w'=>Below (H_ B) B.drew w'/\e=iY N.2):=by apply HX.mono;rintro e M ⟨y,⟨al,_⟩|⟨_,rfl⟩⟩;exact Z;exact⟨y,i_⟩
 have HQ:Wu (r=(aY,N.2)):=G_;have HS:Wu (∀M,Below (H_ B) B.drew M->jK F w r (iY N.2) M):=λM h=>jK.stop (K.drew.trans (h.mono K.size)) HQ hz;clear HX L hz;go_wp21;go_region_dies;all_goals(apply J.mono;rintro e M ⟨y,rfl⟩;exact⟨i_,HS _ y⟩)
def GC:∀(l:List aD) (F:bI),yS F l|[],F=>TV F|i::l,F=>TW F i l (GC l)
def Sn(l:List aD)(k:Nat)(x:aD):((l.set k x).map aI).sum<=(l.map aI).sum+aI x:=by induction l generalizing k with|nil=>simp|cons a l b=>cases k with|zero=>grind|succ k=>grind
def zQ:∀(l:List aD) (a b:aD),aI (cI l a b).1<=(aA l+1)*(aI a+aI b+1)
 |[],a,b=>by grind[cI]|i::l,a,b=>by
  rw[CW];have c:aI aY=1:=by rw[dG];simp[aY]
  repeat' split
  grind;grind;grind;have f:i.n.toNat<aA a.l:=Z;have j:=zQ l (a.l.getD i.n.toNat aY) b;have d:=qE (ga f);have g:=dG a;rw[mM];have e:=Sn a.l i.n.toNat (cI l (a.l.getD i.n.toNat aY) b).1;have h:(aA l+1)*(aI a.l[i.n.toNat]+aI b+1)<=(aA l+1)*(aI a+aI b+1):=Nat.mul_le_mul_left _ Z;grind[Nat.succ_mul]
def WZ(F:bI)(l:List aD)(j u v:aU)(a b:aD)(w:aL)(D:C7 F w j l)(s:PV F w u a)(y:PV F w v b)(C:∀k,F k->k<w.heap.size)(H:aI a<=400)(E:aI b<=400)(S:aA l<=100000):Wn Ww 350 #[u,j,v] w (jK F w (jQ a l b)):=by
 have q:=zQ l a b;have G:(aA l+1)*(aI a+aI b+1)<=100001*801:=Nat.mul_le_mul Z Z;have n:=O (GC l F j u v a b w D s y C Z Z);obtain⟨r,m⟩:∃r,r=jQ a l b:=(by simp);rw[<-m];unfold jQ jO at m;have J:=O m;obtain⟨x,c,rfl⟩:∃x c,j=Wz x (aA l) c:=by grind[C7]
 obtain⟨t,z,rfl⟩:=s.form;obtain⟨M,N,rfl⟩:=y.form;generalize cI l a b=g at n J q;clear D s y C m;go_in;go_wp2_with fail;apply n.mono;rintro e A ⟨d,⟨f,u1,rfl,i⟩|⟨f,rfl⟩⟩
 .have K:=O (rN (tu F w A) u1 g.1 A i Z);obtain⟨Q,P,rfl⟩:=i.form;have I:=O i;have B:=O d;have L:=O f;clear i d f n;go_wp21;apply K.mono;rintro e T ⟨rfl,⟨o,rfl⟩|⟨o,rfl⟩⟩
  .have p:Wu (r=(g.1,0)):=by grind[dz]
   clear o;go_wp2;go_ret;exact jK.ok B p I
  have p:Wu (r=(aY,6)):=by grind[dz]
  clear o;go_wp;exact⟨i_,(by grind[dz,jK])⟩
 have p:Wu (r=(g.1,g.2)):=G_;have L:=O f;have B:=O d;clear f d n;go_wp;exact⟨i_,(by grind[dz,jK])⟩
def BA(Y_:a:=by go_in;go_wp2_with fail;exact⟨i_,(by grind[dw,jK])⟩):a:=Y_
def Ix(F:bI)(v:aU)(a:aD)(w:aL)(h:PV F w v a)(g:cP a)(j:aI a<=1000000):Wn Ww 371 #[v] w (jK F w (dO a)):=by
 rcases h.cases with ⟨m,rfl,rfl,u,r⟩|⟨b,rfl,rfl⟩|⟨s,rfl,rfl⟩|⟨x,c,l,rfl,rfl,p⟩;have d:dO (bB m)=(aY,2):=rfl;rw[d];clear h g j;exact BA;have d:dO (cF b)=(aY,2):=rfl;rw[d];clear h g j;exact BA
 .have t:eS s:=g.Ei;have d:dO (bT s)=(bB (aA (eD s)),0):=rfl;have y:(bs s).size=aA s:=iU s;rw[oV]at j;have f:=qK s;have e:Lib.runeCount (bs s)=aA (eD s):=by grind[Lib.runeCount,kH,FZ]
  have k:=O (utf8_RuneCountInString (bs s) w Z);rw[e]at k;rw[d];clear h g e;go_in;go_wp;refine rB k λn ⟨q,i⟩=>?_;have o:cB w n:=by rw[i];exact(dw _ w).alloc (Z) _
  clear i;go_wp2;go_ret;exact jK.ok o i_ (PV.num _ _ _ Z Z)
 have d:dO (bH l)=(bB (aA l),0):=rfl;have f:=nD l;rw[mM]at j;rw[d];clear h g p;go_in;go_wp2;go_ret;exact jK.ok (dw _ _) i_ (PV.num _ _ _ Z Z)
def Q1(F:bI)(x:Option Ws)(c:Nat)(l:List aD)(v:aU)(b:aD)(w:aL)(p:vd F w (P_ x (aA l) c) l)(j:PV F w v b)(M:aA l<=1000000):Wn Ww 364 #[dA 323 (P_ x (aA l) c),v] w (jK F w (bY (bH l) b)):=by
 have y:=O (AL F v b (aA l) w j Z);obtain⟨t,z,rfl⟩:=j.form;have s:=O p;have q:bY (bH l) b=if b.c_≠0 then (aY,2)else if b.n<0\/(aA l:Int)<=b.n then (aY,4)else (l.getD b.n.toNat aY,0):=by simp[bY,kU,bH]
 have B:=O q;generalize bY (bH l) b=r at B;clear j p q;go_in;go_wp;apply y.mono;rintro e D ⟨rfl,⟨n,rfl⟩|⟨n,m,rfl⟩|⟨n,k,m,K,rfl⟩⟩;exact rV;exact rV;obtain⟨g,u,rfl,_,J,H,o,f,i⟩:=s.get k m;obtain⟨E,G,rfl⟩:=i.form;have C:=O i;have d:l.getD b.n.toNat aY=l[k]:=G_;have a:r=(l[k],0):=by grind[dz]
 have HRes:=O a;have L:(0:Int)<=(k:Int):=Z;have I:(k:Int)<(aA l:Int):=Z;clear i d a s y;go_wp2;go_ret;exact jK.ok (dw _ _) HRes (C.mono λk A=>ea A)
def Sx(r:Nat)(W:aL):(convert 21 322 (.int .i32 (r:Int))).run Ww W=.ok (WD (bs (NR r))) W:=by
 have a:Utf8.encode (Int.ofNat r)=bs (NR r):=by
  have:∀x:ByteArray,x=bs x.data.toList:=λx=>by cases x;simp[bs]
  exact this _
 rw[Int.ofNat_eq_natCast]at a;simp[convert,run_underlying underlying21,run_underlying underlying322,Conv.intToString,a]
def Sp(F:bI)(s:bS)(v:aU)(b:aD)(w:aL)(E:PV F w v b)(S:eS s)(hc:aA s<=1000000)(U:∀k,F k->k<H_ w):Wn Ww 364 #[dA 322 (Q_ (bs s)),v] w (jK F w (bY (bT s) b)):=by
 have X:(bs s).size=aA s:=iU s;have u:(bs s).data.toList=s:=by simp[kH]
 have ⟨rs,r1,l,r3,g⟩:=FH (bs s) (bs s).size 0 #[] Z G_;rw[List.drop_zero,u]at l g;have f:(Conv.runesFrom (bs s) (bs s).size 0 #[]).size=aA rs:=G_;have p:=qK s;have a:=run_runes_of_string (P:=Ww) w 322 484 21 (bs s) underlying322 underlying484 underlying21 (by rw[f];exact Z);rw[f,r1]at a;generalize grownCap w (aA rs) 0 21=N at a;generalize i:(Obj.cells ((#[]++(rs.map λr=>Value.int .i32 (Int.ofNat r)).toArray)++Array.replicate (N-aA rs) (.int .i32 0)) 21)=ob at a;have c:∀k (h:k<aA rs),eJ (w.drew.alloc ob) (H_ w) k (.int .i32 ((rs[k]:Nat):Int)):=λk h=>by rw[<-i];apply aB (aS _ _ i_ _);grind
 have y:cB w (w.drew.alloc ob):=((dw _ w).drew).alloc kB _;have q:=O (AL F v b (aA rs) (w.drew.alloc ob) ((by grind[PV.j_,ej])) Z);obtain⟨t,z,rfl⟩:=E.form;have D:bY (bT s) b=if b.c_≠0 then (aY,2)else if b.n<0\/(aA rs:Int)<=b.n then (aY,4)else (((eD s).map bT).getD b.n.toNat aY,0):=by grind[bY,kU,bT]
 have J:=O D;have G:aA rs<=1000000:=Z;have I:=O l;have L:=O g;have o:=O c;have A:=O y;generalize bY (bT s) b=r at J;generalize j:w.drew.alloc ob=H at a q o A;have C:H_ w<H_ H:=by rw[<-j];simp
 clear E D c y j i r1 f u l g p;go_in;go_wp;apply q.mono;rintro e Q ⟨rfl,⟨B,rfl⟩|⟨B,x,rfl⟩|⟨B,k,x,W,rfl⟩⟩;exact IL;exact IL;have K:=o k x;have l:=I.out;have g:=L.out;have n:NR rs[k]=(eD s)[k]'Z:=by grind
 have m:((eD s).map bT).getD b.n.toNat aY=bT (NR rs[k]):=by grind
 have d:r=(bT (NR rs[k]),0):=by grind[dz]
 have M:=Sx rs[k] Q;have HRes:=O d;have e1:(0:Int)<=(k:Int):=Z;have V:(k:Int)<(aA rs:Int):=Z;clear m d n q o l g;generalize rs[k]=T at*;go_wp2;go_ret;exact jK.ok A HRes (PV.str _ _ _)
def Qg(F:bI)(u v:aU)(a b:aD)(w:aL)(j:PV F w u a)(d:PV F w v b)(f:cP a)(e:aI a<=1000000)(g:∀k,F k->k<H_ w):Wn Ww 364 #[u,v] w (jK F w (bY a b)):=by
 rcases j.cases with ⟨m,rfl,rfl,o,n⟩|⟨x,rfl,rfl⟩|⟨s,rfl,rfl⟩|⟨x,c,l,rfl,rfl,h⟩;have i:bY (bB m) b=(aY,2):=by simp[bY,bB]
 exact BA;have i:bY (cF x) b=(aY,2):=by simp[bY,cF]
 exact BA;rw[oV]at e;exact Sp F s v b w d f.Ei Z g;rw[mM]at e;have:=nD l;exact Q1 F x c l v b w h d Z
