import Derived.Test.YthlhecfcnfjecaaGreatDoorP13
import Derived.Test.YthlhecfcnfjecaaGreatDoorP08
set_option linter.all false
set_option maxRecDepth 100000
set_option maxHeartbeats 0
open List renaming length->aA
open Option renaming some->Wy
open Bool renaming false->WD,true->W1
open Go renaming Calls->W_,Value->Xa,Addr->Xe
open Go.RowKit renaming Hid->Xg
open Go.Proofs.Tryz renaming prog->Xi
open Go.Value renaming slice->Xl,string->Xm,iface->Xq,bool->Xr
namespace Go.Proofs.YthlhecfcnfjecaaGreatDoor
open Hs _root_.Go.Proofs.Tryz Go.RowKit
variable{C:List Xa}{D:List aE}{I n:Nat}{a:Prop}{H:TypeId}{G b:aE}{J R:aN}{E:aX}{y:bL}{f:bQ}
abbrev jC(k:Nat):Ending:=.panicked [{v:=Xq 270 (Y k),recovered:=WD}]
def Bb(R:Xa->aE->Prop)(F:bL)(w:aN)(sv:aX)(l:List aE):Prop:=(l=[]/\sv=bP)\/∃g cap cur,sv=Xl (Wy (aL g 0)) (aA l) cap/\F g/\w.heap[g]?=Wy (.cells cur 265)/\aA l<=cap/\∀i (h:i<aA l),∃u,cur[i]?=Wy u/\R u l[i]
def VR:Nat->(Nat->Prop)->World->Xa->aE->Prop|0,_,_,_,_=>False|d+1,F,w,v,a=>(∃n,v=Xq 263 (Y n)/\a=bB n/\-9223372036854775808<=n/\n<=9223372036854775807)\/(∃b,v=Xq 321 (Xr b)/\a=cG b)\/(∃s,v=Xq 323 (Xm (bs s))/\a=bS s)\/(∃sv l,v=Xq 324 sv/\a=bG l/\Bb (VR d F w) F w sv l)
theorem Bb.mono{R S:Xa->aE->Prop}{F G:bL}{w:aN}{l:List aE}(h:Bb R F w E l)(q:∀v a,R v a->S v a)(m:∀b,F b->G b):Bb S G w E l:=by rcases h with h|⟨g,c,d,k,f,n,j,o⟩;exact ea h;refine dz ⟨g,c,d,k,m _ f,n,j,λi p=>?_⟩;grind
def Bb.h_{R:Xa->aE->Prop}{w w':aN}{d:aX}(h:Bb R y w d D)(k:∀b,y b->w'.heap[b]?=w.heap[b]?):Bb R y w' d D:=by rcases h with h|⟨g,c,a,i,e,m,f,j⟩;exact ea h;exact dz ⟨g,c,a,i,e,G_,f,j⟩
theorem VR.mono{F G:bL}{w:aN}(c:∀b,F b->G b):∀{d e:Nat}{v:aX}{a:aE},VR d F w v a->d<=e->VR e G w v a|0,_,_,_,h,_=>h.elim|d+1,0,_,_,_,h=>by omega|d+1,e+1,v,a,h,f=>by rcases h with h|h|h|⟨i,l,j,g,k⟩;exact ea h;exact dz (ea h);grind[VR];exact dz (dz (dz ⟨i,l,j,g,k.mono (λ_ _ h=>VR.mono c h Z) c⟩))
def VR.h_{w w':aN}(c:∀b,y b->w'.heap[b]?=w.heap[b]?):∀{d:Nat}{v:aX}{a:aE},VR d y w v a->VR d y w' v a|0,_,_,h=>h.elim|d+1,v,a,h=>by rcases h with h|h|h|⟨f,l,g,e,i⟩;exact ea h;exact dz (ea h);grind[VR];exact dz (dz (dz ⟨f,l,g,e,(i.mono (λ_ _ h=>VR.h_ c h) (s_)).h_ c⟩))
def PV(F:bL)(w:aN)(v:aX)(a:aE):Prop:=∃d,VR d F w v a
theorem PV.mono{F G:bL}{w:aN}{v:aX}{a:aE}(h:PV F w v a)(c:∀b,F b->G b):PV G w v a:=by have ⟨d,h⟩:=h;exact⟨d,h.mono c (Z)⟩
theorem PV.h_{w w':aN}{v:aX}{a:aE}(h:PV y w v a)(c:∀b,y b->w'.heap[b]?=w.heap[b]?):PV y w' v a:=by have ⟨d,h⟩:=h;exact⟨d,h.h_ c⟩
theorem PV.num(F:bL)(w:aN)(n:Int)(b:-9223372036854775808<=n)(a:n<=9223372036854775807):PV F w (Xq 263 (Y n)) (bB n):=⟨1,(by grind[VR])⟩
theorem PV.yo(F:bL)(w:aN)(b:Bool):PV F w (Xq 321 (Xr b)) (cG b):=⟨1,(by grind[VR])⟩
theorem PV.str(F:bL)(w:aN)(s:bQ):PV F w (Xq 323 (Xm (bs s))) (bS s):=⟨1,(by grind[VR])⟩
def vg(F:bL)(w:aN)(sv:aX)(l:List aE):Prop:=Bb (PV F w) F w sv l
def ZK{F:bL}{w:aN}{cur:Array Xa}:∀(l:List aE) (o:Nat),(∀i (h:i<aA l),∃u,cur[o+i]?=Wy u/\PV F w u l[i])->∃d,∀i (h:i<aA l),∃u,cur[o+i]?=Wy u/\VR d F w u l[i]
 |[],_,_=>(by simp)|a::l,o,h=>by
  obtain⟨u,m,d,f⟩:=h 0 s_;obtain⟨e,b⟩:=ZK (F:=F) (w:=w) (cur:=cur) l (o+1) λi c=>by have:=h (i+1) G_;grind
  refine⟨max d e,λi c=>?_⟩;cases i with|zero=>grind[VR.mono]|succ i=>obtain⟨g,k,j⟩:=b i G_;grind[VR.mono]
theorem PV.wa{F:bL}{l:List aE}(h:vg F R E l):PV F R (Xq 324 E) (bG l):=by rcases h with h|⟨g,b,cur,f,c,j,e,i⟩;exact⟨1,dz ((by grind[Bb]))⟩;obtain⟨d,k⟩:=ZK (cur:=cur) l 0 (by simpa using i);exact⟨d+1,dz (dz (dz ⟨E,l,aJ,aJ,dz ⟨g,b,cur,f,c,j,e,G_⟩⟩))⟩
theorem PV.cases{F:bL}{w:aN}{v:aX}{a:aE}(h:PV F w v a):(∃n,v=Xq 263 (Y n)/\a=bB n/\-9223372036854775808<=n/\n<=9223372036854775807)\/(∃b,v=Xq 321 (Xr b)/\a=cG b)\/(∃s,v=Xq 323 (Xm (bs s))/\a=bS s)\/(∃x c l,v=Xq 324 (Xl x (aA l) c)/\a=bG l/\vg F w (Xl x (aA l) c) l):=by have ⟨d,h⟩:=h;cases d with|zero=>exact h.elim|succ d=>rcases h with h|h|h|⟨o,l,j,f,e⟩;grind;grind;grind;refine dz (dz (dz ?_));have i:vg F w o l:=e.mono (λ_ _ h=>⟨d,h⟩) (s_);rcases e with ⟨rfl,rfl⟩|⟨g,k,m,rfl,_⟩;exact⟨none,0,[],j,f,i⟩;grind
def uE(F:bL)(v:aX)(a:aE)(w:aN)(h:PV F w v a):W_ Xi 368 #[v] w λe d=>d=w/\((a.c_=1/\e=bR (Xr (decide (a.n=1))))\/(a.c_≠1/\e=jC 2)):=by
 rcases h.cases with ⟨n,rfl,rfl,_,_⟩|⟨b,rfl,rfl⟩|⟨s,rfl,rfl⟩|⟨x,c,l,rfl,rfl,_⟩;.go_in;go_wp;exact⟨aJ,aJ,(by grind[bB])⟩
 .go_in;go_wp2;go_ret;exact⟨aJ,ea ⟨aJ,by cases b<;>rfl⟩⟩
 .go_in;go_wp;exact⟨aJ,aJ,(by grind[bS])⟩
 go_in;go_wp;exact⟨aJ,aJ,(by grind[bG])⟩
def nR(F:bL)(w:aN)(r:aE×Nat)(e:Ending)(w':aN):Prop:=w'=w/\((r.2=0/\∃u,e=bR u/\PV F w u r.1)\/(r.2≠0/\e=jC r.2))
def nR.ok{F:bL}{r:aE×Nat}{u:aX}{a:aE}(b:r=(a,0))(h:PV F R u a):nR F R r (bR u) R:=by grind[nR]
def nR.stop{r:aE×Nat}{a:aE}(c:r=(a,n))(b:n≠0):nR y R r (jC n) R:=by grind[nR]
def PV.wrap(F:bL)(w:aN)(n:Int):PV F w (dI 263 (Y (wrap64 n))) (bB (oM n)):=by grind[zK,PV.num,oM]
def Kw(a:bQ)(F:bL)(x y:Int)(w:aN)(s:-9223372036854775808<=x)(q:x<=9223372036854775807)(z:-9223372036854775808<=y)(A:y<=9223372036854775807):W_ Xi 380 #[Q_ (bs a),Y x,Y y] w (nR F w (jD a x y)):=by
 have e:=bA a;have ⟨r,hr⟩:∃r,r=jD a x y:=(by simp);rw[<-hr];unfold jD at hr;by_cases p:a=[43];.rw[ec p]at hr;have f:((bs a).toList==[60])=WD:=G_;have g:((bs a).toList==[60,61])=WD:=G_;have d:((bs a).toList==[43])=W1:=G_;have c:((bs a).toList==[45])=WD:=G_;have b:((bs a).toList==[42])=WD:=G_;have i:=O hr;clear e hr p;go_in;go_wp2;go_ret;exact nR.ok i (PV.wrap F w (x+y))
 rw[dy p]at hr;have d:((bs a).toList==[43])=WD:=G_;clear p;by_cases l:a=[45];.rw[ec l]at hr;have f:((bs a).toList==[60])=WD:=G_;have g:((bs a).toList==[60,61])=WD:=G_;have d:((bs a).toList==[43])=WD:=Z;have c:((bs a).toList==[45])=W1:=G_;have b:((bs a).toList==[42])=WD:=G_;have i:=O hr;clear e hr l;go_in;go_wp2;go_ret;exact nR.ok i (PV.wrap F w (x-y))
 rw[dy l]at hr;have c:((bs a).toList==[45])=WD:=G_;clear l;by_cases k:a=[42];.rw[ec k]at hr;have f:((bs a).toList==[60])=WD:=G_;have g:((bs a).toList==[60,61])=WD:=G_;have d:((bs a).toList==[43])=WD:=Z;have c:((bs a).toList==[45])=WD:=Z;have b:((bs a).toList==[42])=W1:=G_;have i:=O hr;clear e hr k;go_in;go_wp2;go_ret;exact nR.ok i (PV.wrap F w (x*y))
 rw[dy k]at hr;have b:((bs a).toList==[42])=WD:=G_;clear k;by_cases m:a=[60];.rw[ec m]at hr;have f:((bs a).toList==[60])=W1:=G_;have g:((bs a).toList==[60,61])=WD:=G_;have d:((bs a).toList==[43])=WD:=Z;have c:((bs a).toList==[45])=WD:=Z;have b:((bs a).toList==[42])=WD:=Z;have i:=O hr;clear e hr m;go_in;go_wp2;go_ret;exact nR.ok i (PV.yo F w (decide (x<y)))
 rw[dy m]at hr;have f:((bs a).toList==[60])=WD:=G_;clear m;by_cases n:a=[60,61];.rw[ec n]at hr;have f:((bs a).toList==[60])=WD:=Z;have g:((bs a).toList==[60,61])=W1:=G_;have d:((bs a).toList==[43])=WD:=Z;have c:((bs a).toList==[45])=WD:=Z;have b:((bs a).toList==[42])=WD:=Z;have i:=O hr;clear e hr n;go_in;go_wp2;go_ret;exact nR.ok i (PV.yo F w (decide (x<=y)))
 rw[dy n]at hr;have g:((bs a).toList==[60,61])=WD:=G_;clear n;by_cases t:y=0;.rw[ec t]at hr;subst t;have i:=O hr;clear e hr;go_in;go_wp;exact⟨aJ,nR.stop i d_⟩
 rw[dy t]at hr;have B:(y==0)=WD:=G_;by_cases j:a=[47];.rw[ec j]at hr;have v:((bs a).toList==[47])=W1:=G_;have i:=O hr;clear e hr j;go_in;go_wp2;go_ret;exact nR.ok i (PV.wrap F w (x.tdiv y))
 rw[dy j]at hr;have v:((bs a).toList==[47])=WD:=G_;have o:=UZ x y s q;rw[CZ _ o.1 o.2]at hr;have i:=O hr;have u:=O o;clear e hr j o;go_in;go_wp2;go_ret;exact nR.ok i (PV.num F w (x.tmod y) u.1 u.2)
def JI(o:UInt8)(k:o=45\/o=33)(F:bL)(v:aX)(a:aE)(w:aN)(h:PV F w v a):W_ Xi 367 #[Q_ (bs [o]),v] w (nR F w (dH [o,120] a)):=by
 rcases k with rfl|rfl
 .have p:((bs [45]).toList==[33])=WD:=by rw[bA];rfl
  rcases h.cases with ⟨n,rfl,rfl,z,y⟩|⟨b,rfl,rfl⟩|⟨s,rfl,rfl⟩|⟨x,c,l,rfl,rfl,_⟩;.have j:=O (Hs.yz (op:=[45,120]) (a:=bB n) aJ aJ);clear h;generalize dH [45,120] (bB n)=r at*;go_in;go_wp2;go_ret;exact nR.ok j (by have g:=PV.wrap F w (-n);rw[zK]at g;exact g)
  .clear h;go_in;go_wp;exact⟨aJ,(by grind[dH,cG,nR])⟩
  .clear h;go_in;go_wp;exact⟨aJ,(by grind[dH,bS,nR])⟩
  clear h;go_in;go_wp;exact⟨aJ,(by grind[dH,bG,nR])⟩
 have p:((bs [33]).toList==[33])=W1:=by rw[bA];rfl
 have q:=O (uE F v a w h);have ⟨r,hr⟩:∃r,r=dH [33,120] a:=(by simp);rw[<-hr];have A:=O hr;have d:∃t u,v=dI t u:=by grind[PV.cases]
 obtain⟨t,u,rfl⟩:=d;have B:=O h.cases;clear h hr;go_in;go_wp;apply q.mono;rintro e i ⟨rfl,⟨f,rfl⟩|⟨f,rfl⟩⟩;.have m:=O f;clear f;go_wp2;go_ret;refine nR.ok (a:=cG (!decide (a.n=1))) ?_ (PV.yo F i (!decide (a.n=1)));grind[dw,dH,bB,bS,bG,cG]
 have m:=O f;clear f;go_wp;exact⟨aJ,(by grind[dw,dH,nR])⟩
def vg.get{x:Option Xe}(h:vg y R (Xl x n I) D)(i:Nat)(d:i<aA D):∃g u,x=Wy (aL g 0)/\n=aA D/\y g/\g<R.heap.size/\aA D<=I/\R.cell? (aL g i)=Wy u/\PV y R u D[i]:=by rcases h with ⟨rfl,_⟩|⟨g,a,b,j,e,m,f,k⟩;simp at d;grind[aB]
theorem PV.form(h:PV y R E G):∃t u,E=Xq t u:=by rcases h.cases with ⟨n,rfl,_⟩|⟨b,rfl,_⟩|⟨s,rfl,_⟩|⟨x,c,l,rfl,_⟩<;>exact⟨_,_,aJ⟩
theorem vg.h_{w w':aN}(h:vg y w E D)(a:∀b,y b->w'.heap[b]?=w.heap[b]?):vg y w' E D:=(Bb.mono h (λ_ _ h=>h.h_ a) (s_)).h_ a
def vg.mono{F G:bL}{w:aN}{a:aX}{l:List aE}(h:vg F w a l)(c:∀b,F b->G b):vg G w a l:=(by grind[Bb.mono,PV.mono,vg])
def K_(n:Int):aK (bB n)=1:=by rw[dE];simp[bB]
def Ui(b:Bool):aK (cG b)=1:=by rw[dE];simp[cG]
theorem oI(s:bQ):aK (bS s)=1+aA s:=by rw[dE];simp[bS]
theorem mF(l:List aE):aK (bG l)=1+(l.map aK).sum:=by rw[dE];simp[bG]
def pS(h:G∈D):aK G<=(D.map aK).sum:=by induction D with|nil=>cases h|cons x D b=>grind
theorem yB(a:aE):1<=aK a:=by rw[dE];exact Z
def mZ(l:List aE):aA l<=(l.map aK).sum:=by induction l with|nil=>simp|cons x l a=>grind[yB]
def GO(F:bL)(k:Nat):Prop:=∀(v:aX) (a:aE) (w:aN),PV F w v a->aK a<=k->k<=1000000000->W_ Xi 355 #[v] w λe w'=>w'=w/\e=bR (Y (aK a:Nat))
def WJ(F:bL)(k:Nat)(d:GO F k):GO F (k+1):=by
 intro v a w h o M;rcases h.cases with ⟨n,rfl,rfl,N,K⟩|⟨b,rfl,rfl⟩|⟨s,rfl,rfl⟩|⟨x,c,l,rfl,rfl,C⟩;.rw[K_];clear h d o;go_in;go_wp2;go_ret;simp
 .rw[Ui];clear h d o;go_in;go_wp2;go_ret;simp
 .have T:=iS s;rw[oI]at o⊢;clear h d;go_in;go_wp2;go_ret;simp
 have B:=mZ l;rw[mF]at o⊢;have y:=O d;have H:=O C;clear h d C;go_in;go_wp2;go_loopg [5,7,20] (aA l) (λgk s _ i wr=>∃j:Nat,j+gk=aA l/\i=Y j/\s=Y ((1+((l.map aK).take j).sum:Nat):Int)/\wr=w);case atStart=>simp
 case round=>
  obtain⟨j,W,rfl,rfl,rfl⟩:=hrel;by_cases p:j<aA l
  .obtain⟨m,rfl⟩:∃m,gk=m+1:=⟨gk-1,Z⟩;obtain⟨g,u,rfl,V,S,L,A,r,z⟩:=H.get j p;have f:l[j]∈l:=(by simp);have D:=pS f;have I:=O (y u l[j] wr z Z Z);obtain⟨t,Q,rfl⟩:=z.form;have E:((l.map aK).take (j+1)).sum=((l.map aK).take j).sum+aK l[j]:=by grind[List.take_succ_eq_append_getElem]
   have G:((l.map aK).take (j+1)).sum<=(l.map aK).sum:=by grind[List.take_append_drop]
   generalize aK l[j]=P at*;clear z;go_wp;apply I.mono;rintro e J ⟨rfl,rfl⟩;go_wp2;go_roundg m;case measure=>exact Z
   grind
  have q:j=aA l:=Z;subst q;go_wp2;go_ret;exact⟨aJ,by rw[ii s_];rfl⟩
def JP(F:bL):∀k,GO F k|0=>(by grind[yB,GO])|k+1=>WJ F k (JP F k)
def qY(F:bL)(v:aX)(a:aE)(w:aN)(h:PV F w v a)(g:aK a<=1000000000):W_ Xi 353 #[v] w λe d=>d=w/\((aK a<=200/\e=bR v)\/(200<aK a/\e=jC 6)):=by
 have b:=O (JP F 1000000000 v a w h g (Z));generalize aK a=n at*;by_cases f:n<=200;.go_in;go_wp;apply b.mono;rintro e c ⟨rfl,rfl⟩;go_wp2;go_ret;exact⟨aJ,ea ⟨f,aJ⟩⟩
 go_in;go_wp;apply b.mono;rintro e c ⟨rfl,rfl⟩;go_wp21;exact⟨aJ,aJ,G_⟩
def zV(F:bL)(v:aX)(a:aE)(n:Nat)(w:aN)(h:PV F w v a)(_hn:n<=1000000000):W_ Xi 356 #[v,Y n] w λe d=>d=w/\((a.c_≠0/\e=jC 2)\/(a.c_=0/\(a.n<0\/(n:Int)<=a.n)/\e=jC 4)\/(a.c_=0/\∃k:Nat,k<n/\a.n=k/\e=bR (Y k))):=by
 rcases h.cases with ⟨m,rfl,rfl,o,j⟩|⟨b,rfl,rfl⟩|⟨s,rfl,rfl⟩|⟨x,c,l,rfl,rfl,_⟩
 .clear h;by_cases p:m<0;.have i:decide (m<0)=W1:=(by grind);go_in;go_wp;exact⟨aJ,aJ,(by grind[bB])⟩
  have i:decide (m<0)=WD:=(by grind);by_cases f:(n:Int)<=m;.have g:decide ((n:Int)<=m)=W1:=(by grind);go_in;go_wp;exact⟨aJ,aJ,(by grind[bB])⟩
  have g:decide ((n:Int)<=m)=WD:=(by grind);go_in;go_wp2;go_ret;exact⟨aJ,dz (dz ⟨aJ,m.toNat,Z,by show m=_;exact Z,by rw[Int.toNat_of_nonneg Z];rfl⟩)⟩
 .clear h;go_in;go_wp;exact⟨aJ,aJ,(by grind[cG])⟩
 .clear h;go_in;go_wp;exact⟨aJ,aJ,(by grind[bS])⟩
 clear h;go_in;go_wp;exact⟨aJ,aJ,(by grind[bG])⟩
def RL(F:bL)(x:Option Xe)(c:Nat)(l:List aE)(w:aN)(h:vg F w (Xl x (aA l) c) l)(d:aK (bG l)<=1000000000):W_ Xi 363 #[Xl x (aA l) c] w λe b=>b=w/\((aK (bG l)<=200/\e=bR (Xq 324 (Xl x (aA l) c)))\/(200<aK (bG l)/\e=jC 6)):=by
 have f:=O (qY F _ _ w (PV.wa h) d);go_in;go_wp;apply f.mono;rintro e g ⟨rfl,⟨a,rfl⟩|⟨a,rfl⟩⟩;.go_wp2;go_ret;exact⟨aJ,ea ⟨a,aJ⟩⟩
 exact⟨aJ,aJ,G_⟩
noncomputable def OB(op:bQ)(a b:bQ):aE×Nat:=if op=[60]then (cG (fC a b),0) else if op=[60,61]then (cG (!fC b a),0) else if op=[43]then (if 200<aK (bS (a++b))then (aZ,6)else (bS (a++b),0)) else (aZ,2)
def Vl(d:bQ)(F:bL)(a b:bQ)(w:aN)(q:aA a+aA b<=1000000):W_ Xi 381 #[Q_ (bs d),Q_ (bs a),Q_ (bs b)] w (nR F w (OB d a b)):=by
 have c:=bA d;have ⟨r,hr⟩:∃r,r=OB d a b:=⟨_,rfl⟩;rw[<-hr];unfold OB at hr;by_cases g:d=[60]
 .rw[ec g]at hr;have p:((bs d).toList==[60])=W1:=by rw[c,g];rfl
  have i:Xg (Op.bytesLess (bs a).toList (bs b).toList=fC a b):=by show _=_;rw[bA,bA,pU]
  have f:=O hr;clear c hr g;generalize fC a b=t at*;go_in;go_wp2;go_ret;exact nR.ok f (by rw[<-i];exact PV.yo F w _)
 rw[dy g]at hr;have p:((bs d).toList==[60])=WD:=by rw[c];simpa using g
 by_cases j:d=[60,61]
 .rw[ec j]at hr;have v:((bs d).toList==[60,61])=W1:=by rw[c,j];rfl
  have i:Xg ((Op.bytesLess (bs a).toList (bs b).toList||(bs a).toList==(bs b).toList)=!fC b a):=by show _=_;rw[bA,bA,pU,EA]
  have f:=O hr;clear c hr g j;generalize fC b a=t at*;go_in;go_wp2;go_ret;exact nR.ok f (by rw[<-i];exact PV.yo F w _)
 rw[dy j]at hr;have v:((bs d).toList==[60,61])=WD:=by rw[c];simpa using j
 by_cases k:d=[43]
 .rw[ec k]at hr;have u:((bs d).toList==[43])=W1:=by rw[c,k];rfl
  have l:=oI (a++b);have x:=O (qY F (dI 323 (Q_ (bs (a++b)))) _ w (PV.str F w (a++b)) (by rw[l,et];exact Z));have f:=O hr;have s:=iS;clear c hr g j k l;go_in;go_wp;apply x.mono;rintro e o ⟨rfl,⟨m,rfl⟩|⟨m,rfl⟩⟩
  .have n:Xg (r=(bS (a++b),0)):=by show _=_;rw[f,dy Z]
   clear m f;go_wp2;go_ret;exact nR.ok n (PV.str F o (a++b))
  have n:Xg (r=(aZ,6)):=by show _=_;rw[f,ec m]
  clear m f;go_wp;exact⟨aJ,nR.stop n d_⟩
 rw[dy k]at hr;have u:((bs d).toList==[43])=WD:=by rw[c];simpa using k
 have f:=O hr;clear c hr g j k;go_in;go_wp;exact⟨aJ,nR.stop f d_⟩
def rU:(prog.info? 265).map (λi=>(i.zero,i.size,i.bytes))=Wy (Wy .nilIface,1,16):=k_
def DK{P:Program}(w:aN)(t u r e:TypeId)(i:TypeInfo)(z:aX)(j:P.underlying t=Wy (.slice e))(q:P.underlying u=Wy (.int .i64))(s:P.info? e=Wy i)(o:i.zero=Wy z)(m:i.size=1) (n:Nat) (k:0<n) (v:n<=1000000000) (l:i.bytes<=64):(Builtin.append_ #[t,u] r #[bP,Y n]).run P w=.ok (P_ (Wy (aL (H_ w) 0)) n (grownCap w n 0 e)) (eF w.drew (Builtin.zeroCells z.cells n++Builtin.zeroCells z.cells (grownCap w n 0 e-n)) e):=by
 have g:n≠0:=Z;have h:=Nat.mul_le_mul v l;have d:¬(281474976710656<Builtin.nextslicecap n 0*i.bytes):=by rw[nextslicecap_zero k];exact Z
 have f:¬(9223372036854775807<(n:Int)):=Z;have p:IntKind.i64.wrap (n:Int)=n:=by rw[IntKind.wrap_i64];exact Z
 have c:¬(281474976710656<(n:Int)*(i.bytes:Int)):=by exact Z
 have b:¬((n:Int)<0):=Z;have a:max (n:Int) 0=n:=Z;simp[Builtin.append_,run_underlying j,run_underlying q,sizeOf,typeInfo,zeroValue,s,o,m,p,asInt,asIntOf,b,a,g,f,d,c,Question.forced,run_firstCells_none,newRow,grownCap]
def yG{P:Program}{c:Array Oper}{b:List Oper}{o:Oper}{a:Act}{Q:Exit->Act->World->Prop}(f:o.guard=none)(s x:Operand)(t u:TypeId) (q:o.op=.call {callee:=.builtin .append,args:=#[s,x],argTypes:=#[t,u]}) (e:TypeId) (i:TypeInfo) (z:aX) (g:P.underlying t=Wy (.slice e)) (r:P.underlying u=Wy (.int .i64)) (y:P.info? e=Wy i) (p:i.zero=Wy z) (l:i.size=1) (n:Nat) (j:0<n) (B:n<=1000000000) (k:i.bytes<=64) (v:a.eval s=bP) (A:a.eval x=Y n) (h:wpList P c Q b (a.put o.dst (P_ (Wy (aL (H_ R) 0)) n (grownCap R n 0 e))) (eF R.drew (Builtin.zeroCells z.cells n++Builtin.zeroCells z.cells (grownCap R n 0 e-n)) e)):wpList P c Q (o::b) a R:=by refine wpList_plain f λK m=>?_;have d:=DK (P:=P) R t u o.type e i z g r y p l n j B k;unfold Oper.wp;simp[execOp,q,resolve,invoke,builtin,v,A,d];exact m _ _ h
def Vf(n:Nat)(i:n<=1000000)(w:aN):W_ Xi 385 #[bP,Y n] w λe d=>∃v,e=bR v/\d.ownsRow (H_ w) 265 1 v 0 []/\R_ w d:=by
 have ⟨i0,hi,hz0,hz1,hz2⟩:=info_parts rU;rcases jv n with rfl|f;.go_in;go_wp2;go_ret;exact⟨_,aJ,World.ownsRow_nil _ _ _ _,dv _ _⟩
 have b:=grownCap_ge w n 0 265;have a:=grownCap_le_maxLen w n 0 265 lg;generalize g:grownCap w n 0 265=c at b a;go_in;go_wp2_with (apply yG r_ _ _ 324 3 r_ 265 i0 .nilIface underlying324 underlying3 hi hz0 hz1 n f Z Z r_ r_);go_ret;refine⟨_,aJ,⟨aJ,dz ⟨H_ w,c,_,aJ,Z,aV _ _ rfl _,Z,a,?_,rfl⟩⟩,?_⟩;grind[size_zeroCells];exact((dv _ _).drew).alloc s_ _
def iH(F:bL)(w:aN)(xs:List Xa)(l:List aE):Prop:=aA xs=aA l/\∀i (h:i<aA l),∃u,xs[i]?=Wy u/\PV F w u l[i]
def iH.nil(F:bL)(w:aN):iH F w [] []:=(by grind[iH])
theorem iH.h_{w w':aN}{a:List Xa}(h:iH y w a D)(c:∀b,y b->w'.heap[b]?=w.heap[b]?):iH y w' a D:=(by grind[PV.h_,iH])
theorem iH.mono{F G:bL}{w:aN}{a:List Xa}{l:List aE}(h:iH F w a l)(c:∀b,F b->G b):iH G w a l:=(by grind[PV.mono,iH])
def iH.append{a:List Xa}{m:List aE}(h:iH y R C D)(k:iH y R a m):iH y R (C++a) (D++m):=by refine⟨by simp[h.1,k.1],λi e=>?_⟩;rcases gw i (aA D) with c|c;grind[iH];have d:i-aA D<aA m:=G_;grind[iH]
def vg.row(h:vg y R E D):(D=[]/\E=bP)\/∃g a d,E=Xl (Wy (aL g 0)) (aA D) a/\y g/\g<R.heap.size/\iH y R d D/\∀j u,d[j]?=Wy u->R.cell? (aL g j)=Wy u:=by
 rcases h with h|⟨g,a,b,f,e,o,m,n⟩;grind;have k:aA D<=b.size:=by grind
 refine dz ⟨g,a,b.toList.take (aA D),f,e,G_,⟨G_,λi p=>?_⟩,λj u q=>?_⟩;grind;grind[aB]
theorem vg.ofRow{F:bL}{b_:Nat}{xs:List Xa}{l:List aE}(h:R.ownsRow b_ 265 1 E (aA l) xs)(p:iH F R xs l)(f:∀k,E.ownBlock=Wy k->F k):vg F R E l:=by rcases h.2 with ⟨a,j⟩|⟨g,b,c,a,j,d,e,o,m,n⟩;exact ea G_;refine dz ⟨g,b,c,a,f g (by rw[a];rfl),d,e,λi q=>?_⟩;grind[iH]
def tO(h:iH y R C D):∀u∈C,u.oneCell'=W1:=by intro u c;obtain⟨j,a,rfl⟩:=kg.1 c;have ⟨u',e1,e2⟩:=h.2 j (by rw[<-h.1];exact a);rw[ey a]at e1;cases e1;have ⟨t,z,e⟩:=e2.form;rw[e];rfl
def LF{q:Array Oper}{f:List Oper}{o:Oper}{a:Act}{Q:Exit->Act->World->Prop}(p:o.guard=none)(s x:Operand)(t:TypeId)(B:prog.underlying t=Wy (.slice 265)) (E:o.op=.call {callee:=.builtin .append,args:=#[s,x],argTypes:=#[t,t]}) (c:Nat) (v:aX) (l m:List aE) (n:List Xa) (F:bL) (H:a.eval s=v) (e:R.ownsRow c 265 1 v (aA l) n) (J:iH F R n l) (G:aX) (I:a.eval x=G) (K:vg F R G m) (N:∀b,F b->b<H_ R/\v.ownBlock≠Wy b) (D:aA l+aA m<=1000000000) (j:c<=H_ R) (h:∀u i r,i.ownsRow c 265 1 u (aA (l++m)) r->iH F i r (l++m)->R.grownBy i v.ownBlock->wpList Xi q Q f (a.put o.dst u) i):wpList Xi q Q (o::f) a R:=by have ⟨i0,hi,hz0,hz1,hz2⟩:=info_parts rU;rcases K.row with ⟨rfl,rfl⟩|⟨g,y,r,rfl,M,L,d,z⟩;apply wpList_append_own_none p s x t E c 265 i0 1 B hi v (aA l) n H e I;exact h v R n G_ G_ ⟨rfl,rfl,rfl,Z,s_⟩;refine wpList_append_own _ p s x t E c 265 i0 _ 1 16 B hi hz0 hz1 hz2 aJ d_ v (aA l) n H e (aL g 0) (aA m) y r I (by rw[d.1];exact Z) ((by grind[Addr.add_lit])) (tO d) lg Z j ?_;intro u i A k _;have C:∀b,F b->i.heap[b]?=R.heap[b]?:=(by grind[World.grownBy.block]);exact h u i (n++r) G_ ((J.h_ C).append (d.h_ C)) k
def pX(F:bL)(w:aN)(ls:List aE)(v:aX)(wr:aN):Prop:=∃ys,wr.ownsRow w.heap.size 265 1 v (aA ls) ys/\iH F wr ys ls/\R_ w wr
theorem pX.step{a:aN}{b:List aE}{d:aX}(h:pX y R b E J)(e:a.ownsRow (H_ R) 265 1 d (aA (b++D)) C)(f:iH y a C (b++D))(g:J.grownBy a E.ownBlock):pX y R (b++D) d a:=by grind[Below.grown,Below.size,bX,pX]
theorem fV{b_:Nat}(h:R.ownsRow b_ H I E n C):∃x c,E=Xl x n c:=by rcases h.2 with ⟨d,f⟩|⟨g,e,a,d,_⟩;grind;grind
def WH(F:bL)(b:Nat)(x y:Option Xe)(c d:Nat)(l m:List aE)(w:aN)(D:w.heap[b]?=Wy (bO #[P_ x (aA l) c,P_ y (aA m) d] 324))(X:vg F w (P_ x (aA l) c) l)(hm:vg F w (P_ y (aA m) d) m)(W:∀k,F k->k<H_ w)(ac:aA l+aA m<=1000000):W_ Xi 384 #[P_ (Wy (aL b 0)) 2 2] w λe w'=>∃z,e=bR z/\pX F w (l++m) z w':=by
 have f:=aH D;have P:=aB D (i:=0) aJ;have Q:=aB D (i:=1) aJ;have HL:=O X;have HM:=O hm;have T:=O W;have V:=O (Vf (aA l+aA m) Z w);have K:=O D;clear X hm W D;go_in;go_wp2;go_loopg [3,5,11] 2 (λgk s _ i wr=>wr=w/\((gk=2/\i=Y 0/\s=Y 0)\/(gk=1/\i=Y 1/\s=Y (aA l:Nat))\/(gk=0/\i=Y 2/\s=Y ((aA l+aA m:Nat):Int))));case atStart=>simp
 case round=>
  obtain⟨hw,hrel⟩:=hrel;obtain rfl:=hw.symm;rcases hrel with ⟨rfl,rfl,rfl⟩|⟨rfl,rfl,rfl⟩|⟨rfl,rfl,rfl⟩
  .have e:decide ((aA l:Int)<0)=WD:=(by simp);go_wp2;go_roundg 1;case measure=>exact Z
   simp
  .have e:decide ((aA l:Int)+(aA m:Int)<0)=WD:=(by grind);go_wp2;go_roundg 0;case measure=>exact Z
   simp
  go_wp;apply V.mono;rintro e w1 ⟨v1,rfl,a,J⟩;obtain⟨x1,L,rfl⟩:∃x c,v1=P_ x 0 c:=by rcases a.2 with ⟨r1,_⟩|⟨g,aa,ab,r1,_⟩;grind;grind
  have N:Xg (pX F w [] (P_ x1 0 L) w1):=⟨[],a,iH.nil _ _,J⟩;clear a J V P Q;go_wp2;go_loopg [6,8,27] 2 (λgk s _ i M=>(gk=2/\i=Y 0/\pX F w [] s M)\/(gk=1/\i=Y 1/\pX F w l s M)\/(gk=0/\i=Y 2/\pX F w (l++m) s M));case atStart=>grind[dw]
  case round=>
   rcases hrel with ⟨rfl,rfl,r⟩|⟨rfl,rfl,r⟩|⟨rfl,rfl,r⟩
   .have p:=r;have ⟨ys,ho,hr,hbw⟩:=r;obtain⟨A,B,rfl⟩:=fV ho;have P:dR wr b 0 (P_ x (aA l) c):=aB ((hbw.block b f).trans K) aJ;have Q:dR wr b 1 (P_ y (aA m) d):=aB ((hbw.block b f).trans K) aJ;have G:=eh f hbw.size;have I:=O ho;have H:=O hr;have n:=O hbw;have v:=O p;have j:=O (HL.h_ (w':=wr) λk E=>hbw.block k (T k E));have q:Xg (∀k,F k->k<H_ wr/\(Value.slice A (aA ([]:List aE)) B).ownBlock≠Wy k):=λk E=>(by grind[Nat.lt_of_lt_of_le,dw,Below.size,bX]);clear ho hr hbw p N;go_wp2_with (at_builtin;apply LF r_ _ _ 324 underlying324 r_ (H_ w) (P_ A (aA ([]:List aE)) B) ([]:List aE) l ys F r_ I H _ r_ j q G_ n.size);intro z w' S o t u;have C:Xg (pX F w (([]:List aE)++l) z w'):=(by grind[pX.step,dw]);obtain⟨x',c',rfl⟩:=fV o;clear o t u I H j q n v;go_wp2;go_roundg 1;case measure=>exact Z
    grind[dw]
   .have p:=r;have ⟨ys,ho,hr,hbw⟩:=r;obtain⟨A,B,rfl⟩:=fV ho;have P:dR wr b 0 (P_ x (aA l) c):=aB ((hbw.block b f).trans K) aJ;have Q:dR wr b 1 (P_ y (aA m) d):=aB ((hbw.block b f).trans K) aJ;have G:=eh f hbw.size;have I:=O ho;have H:=O hr;have n:=O hbw;have v:=O p;have j:=O (HM.h_ (w':=wr) λk E=>hbw.block k (T k E));have q:Xg (∀k,F k->k<H_ wr/\(Value.slice A (aA (l)) B).ownBlock≠Wy k):=λk E=>(by grind[Nat.lt_of_lt_of_le,dw,Below.size,bX]);clear ho hr hbw p N;go_wp2_with (at_builtin;apply LF r_ _ _ 324 underlying324 r_ (H_ w) (P_ A (aA (l)) B) (l) m ys F r_ I H _ r_ j q Z n.size);intro z w' S o t u;have C:Xg (pX F w (l++m) z w'):=(by grind[pX.step,dw,iH]);obtain⟨x',c',rfl⟩:=fV o;clear o t u I H j q n v;go_wp2;go_roundg 0;case measure=>exact Z
    case rel=>exact dz (dz ⟨aJ,aJ,C⟩)
   have HC:=O r;have ⟨ys,ho,_⟩:=r;obtain⟨A,B,rfl⟩:=fV ho;clear ho N;go_wp2;go_ret;exact⟨_,aJ,HC⟩
def jE(F:bL)(w:aN)(r:aE×Nat)(e:Ending)(w':aN):Prop:=R_ w w'/\((r.2=0/\∃u,e=bR u/\PV (Grow F w w') w' u r.1)\/(r.2≠0/\e=jC r.2))
def jE.ok{F:bL}{b:aN}{r:aE×Nat}{u:aX}{a:aE}(d:R_ R b)(c:r=(a,0))(h:PV (Grow F R b) b u a):jE F R r (bR u) b:=by grind[jE]
def jE.stop{b:aN}{r:aE×Nat}{a:aE}(e:R_ R b)(d:r=(a,n))(c:n≠0):jE y R r (jC n) b:=by grind[jE]
noncomputable def DT(op:bQ)(l m:List aE):aE×Nat:=if op=[43]then (if 200<aK (bG (l++m))then (aZ,6)else (bG (l++m),0))else (aZ,2)
def IB(Y_:a:=by go_wp2_with fail;exact⟨aJ,(by grind[dw,jE])⟩):a:=Y_
def J7(a:bQ)(F:bL)(x y:Option Xe)(c d:Nat)(l m:List aE)(w:aN)(G:vg F w (P_ x (aA l) c) l)(H:vg F w (P_ y (aA m) d) m)(C:∀k,F k->k<H_ w)(S:aK (bG l)+aK (bG m)<=1000000):W_ Xi 382 #[Q_ (bs a),P_ x (aA l) c,P_ y (aA m) d] w (jE F w (DT a l m)):=by
 have p:=bA a;have ⟨r,hr⟩:∃r,r=DT a l m:=(by simp);rw[<-hr];unfold DT at hr;by_cases u:a=[43]
 .rw[ec u]at hr;have J:((bs a).toList==[43])=W1:=G_;have B:((bs a).toList !=[43])=WD:=G_;have K:=mZ l;have N:=mZ m;rw[mF,mF]at S;have P:aK (bG (l++m))=1+((l.map aK).sum+(m.map aK).sum):=by grind[mF]
  have g:R_ w (eF w #[P_ x (aA l) c,P_ y (aA m) d] 324):=(by grind[eo,dv]);have I:=O (WH F (H_ w) x y c d l m (eF w #[P_ x (aA l) c,P_ y (aA m) d] 324) (aV _ _ aJ _) ((by grind[vg.h_,ef])) ((by grind[vg.h_,ef])) (λk j=>eh (C k j) g.size) Z);have f:=O g;have A:=O hr;clear p hr u G H C g;go_in;go_wp;apply I.mono;rintro e t ⟨T,rfl,V,q,o,s⟩;obtain⟨Q,L,rfl⟩:=fV q;have b:=f.trans (s.mono f.size);have i:vg (Grow F w t) t (P_ Q (aA (l++m)) L) (l++m):=vg.ofRow q (o.mono λk j=>ea j) λk j=>dz ⟨by have:=bX q k j;have:=f.size;exact Z,eI q k j⟩;have M:=O (qY (Grow F w t) _ _ t (PV.wa i) Z);have v:=O i;have D:=O b;clear q o s b i I;generalize (aA (l++m))=n at*;go_wp21;apply M.mono;rintro e W ⟨rfl,⟨z,rfl⟩|⟨z,rfl⟩⟩;.have E:Xg (r=(bG (l++m),0)):=G_;clear z A;go_wp2;go_ret;exact jE.ok D E (PV.wa v)
  have E:Xg (r=(aZ,6)):=G_;clear z A;exact IB
 rw[dy u]at hr;have J:((bs a).toList==[43])=WD:=G_;have B:((bs a).toList !=[43])=W1:=G_;have A:=O hr;clear p hr u G H C;go_in;go_wp;exact⟨aJ,(by grind[dv,dw,jE])⟩
theorem lY{a:Xe}(o:Obj)(h:R.cell? a=Wy E):(R.alloc o).cell? a=Wy E:=by grind[World.block_lt_of_cell?,World.cell?_of_block,ed]
def NL(g d n c:Nat)(b:List Xa)(w:aN)(t:aA b=n*1)(x:n<=1000000)(y:∀j u,b[j]?=Wy u->dR w g (d+j) u)(r:∀u∈b,u.oneCell'=W1):W_ Xi 357 #[P_ (Wy (aL g d)) n c] w λe l=>∃k,e=bR k/\l.ownsRow w.heap.size 265 1 k n b/\R_ w l:=by have ⟨i0,hi,hz0,hz1,hz2⟩:=info_parts rU;have q:∀(w:aN) (a:Option Xe) (n c m o:Nat),(binOp .eql 324 (P_ a n c) (P_ none m o)).run Xi w=.ok (Xr a.isNone) w:=(by grind[Lib.run_eql_slice_nil,underlying324]);go_in;go_wp2_with (refine wpList_append_own _ r_ _ _ 324 r_ w.heap.size 265 i0 _ 1 16 underlying324 hi hz0 hz1 hz2 rfl d_ (P_ (Wy (aL w.heap.size 0)) 0 0) 0 [] r_ (ny) (aL g d) n c b r_ t (oi) r lg Z s_ ?_);intro k v i f _;have s:=O i;have p:=O f;go_wp2;go_ret;refine⟨_,aJ,by simpa using s.out,?_⟩;exact((dv _ w).alloc (Z) _).grown p.out s_ nu
def yY(g d n c:Nat)(b:List Xa)(w:aN)(t:aA b=n*1)(x:n<=1000000)(y:∀j u,b[j]?=Wy u->dR w g (d+j) u)(r:∀u∈b,u.oneCell'=W1):W_ Xi 277 #[P_ (Wy (aL g d)) n c] w λe l=>∃k,e=bR k/\l.ownsRow w.heap.size 265 1 k n b/\R_ w l:=by have ⟨i0,hi,hz0,hz1,hz2⟩:=info_parts rU;have q:∀(w:aN) (a:Option Xe) (n c m o:Nat),(binOp .eql 111 (P_ a n c) (P_ none m o)).run Xi w=.ok (Xr a.isNone) w:=(by grind[Lib.run_eql_slice_nil,underlying111]);go_in;go_wp2_with (refine wpList_append_own _ r_ _ _ 111 r_ w.heap.size 265 i0 _ 1 16 underlying111 hi hz0 hz1 hz2 rfl d_ (P_ (Wy (aL w.heap.size 0)) 0 0) 0 [] r_ (ny) (aL g d) n c b r_ t (oi) r lg Z s_ ?_);intro k v i f _;have s:=O i;have p:=O f;go_wp2;go_ret;refine⟨_,aJ,by simpa using s.out,?_⟩;exact((dv _ w).alloc (Z) _).grown p.out s_ nu
def yX(w:aN):W_ Xi 277 #[bP] w λe d=>e=bR (bP)/\d=w:=by have f:∀(w:aN) (a:Option Xe) (n c b g:Nat),(binOp .eql 111 (P_ a n c) (P_ none b g)).run Xi w=.ok (Xr a.isNone) w:=(by grind[Lib.run_eql_slice_nil,underlying111]);go_in;go_wp2;go_ret;simp
def B2(F:bL)(w:aN)(sv:aX)(l:List aE):Prop:=(l=[]/\∃x c,sv=Xl x 0 c)\/∃g o c,sv=Xl (Wy (aL g o)) (aA l) c/\aA l<=c/\g<w.heap.size/\∀i (h:i<aA l),∃u,w.cell? (aL g (o+i))=Wy u/\PV F w u l[i]
def B2.below{a:aN}{b:aX}(h:B2 y R b D)(j:R_ R a)(p:∀k,y k->k<R.heap.size):B2 y a b D:=by rcases h with h|⟨g,o,c,e,d,f,m⟩;exact ea h;refine dz ⟨g,o,c,e,d,eh f j.size,λi n=>?_⟩;grind[Below.cell,PV.h_,ef]
def CG{a:aE}:cJ (G::D) a b=if a.c_≠3\/G.c_≠0 then (aZ,2)else if G.n<0\/(aA a.l:Int)<=G.n then (aZ,4)else if (cJ D (a.l.getD G.n.toNat aZ) b).2≠0 then (aZ,(cJ D (a.l.getD G.n.toNat aZ) b).2)else (bG (a.l.set G.n.toNat (cJ D (a.l.getD G.n.toNat aZ) b).1),0):=by rw[cJ]
def Te{g b k:Nat}{u:aX}(h:R.ownsRow I H 1 (P_ (Wy (aL g 0)) n b) n C)(_hk:k<n):(R.setCell (aL g k) u).ownsRow I H 1 (P_ (Wy (aL g 0)) n b) n (C.set k u):=by rcases h.2 with ⟨c,_⟩|⟨q,e,d,c,m,i,j,l,o,p⟩;cases c;cases c;refine⟨G_,dz ⟨g,b,d.setIfInBounds k u,rfl,m,?_,j,l,G_,?_⟩⟩;rw[aP i];grind[List.take_set]
def iH.set{F:bL}{b:List Xa}{l:List aE}{u:aX}(h:iH F R b l)(k:Nat)(c:PV F R u G):iH F R (b.set k u) (l.set k G):=by grind[iH]
def Tj{F:bL}{c:aN}{k:Nat}{r:aE×Nat}(h:R_ R J)(p:Below (H_ J) J.drew c) (e:J.ownsRow (H_ R) 265 1 (P_ (Wy (aL I 0)) (aA D) n) (aA D) C) (z:iH F R C D) (y:PV (Grow F J.drew c) c (dI H E) G) (a:r=(bG (D.set k G),0)) (B:∀q,F q->q<H_ R) (v:k<aA D):jE F R r (bR (dI 324 (P_ (Wy (aL I 0)) (aA D) n))) (c.setCell (aL I k) (dI H E)):=by have hg1:=bX e I aJ;have hg1l:=eI e I aJ;have hb2':=((dv _ J).drew).trans p;have h12:=hb2'.size;have hb:=h.trans (hb2'.mono h.size);have t:R_ R (c.setCell (aL I k) (dI H E)):=hb.setCell hg1 _;have s:c.ownsRow (H_ R) 265 1 (P_ (Wy (aL I 0)) (aA D) n) (aA D) C:=(by grind[bE,ef,eI]);have j:=Te (u:=dI H E) s v;have x:(c.setCell (aL I k) (dI H E)).heap.size=H_ c:=s_;refine jE.ok t a (PV.wa ?_);have g:aA (D.set k G)=aA D:=List.length_set;have:=vg.ofRow (F:=Grow F R (c.setCell (aL I k) (dI H E))) (l:=D.set k G) (by rw[g];exact j) ?_ ?_;exact this;apply iH.set ((z.h_ lm).mono λq a=>ea a) k;refine(y.h_ λq a=>?_).mono λq a=>?_;apply ej _ _ _ _;rcases a with a|⟨a,_⟩;grind;have:H_ J<=q:=a;exact Z;rcases a with a|⟨a,A⟩;grind;have:H_ J<=q:=a;exact Z;intro q a;obtain rfl:I=q:=fo a;grind[Grow]
def yF(F:bL)(l:List aE):Prop:=∀(sv u v:aX) (a b:aE) (w:aN),B2 F w sv l->PV F w u a->PV F w v b->(∀k,F k->k<w.heap.size)->aK a<=400000->aA l<=1000000->W_ Xi 354 #[u,sv,v] w (jE F w (cJ l a b))
def TC(F:bL):yF F []:=by
 intro e u v a b w j k d m l i;obtain⟨x,c,rfl⟩:∃x c,e=P_ x 0 c:=by grind[B2]
 have f:=O d;go_in;go_wp2;go_ret;exact jE.ok (dv _ _) aJ (f.mono λ_ g=>ea g)
def rG(Y_:a:=by go_wp2_with fail;exact⟨aJ,(by grind[dv,dw,jE])⟩):a:=Y_
def TD(F:bL)(i:aE)(l:List aE)(W:∀F,yF F l):yF F (i::l):=by
 intro sv u v a b w hi hu S hF hc hl;simp[fg]at hl;obtain⟨g,o,c,rfl,ay,hg,f⟩:∃g o c,sv=P_ (Wy (aL g o)) (aA l+1) c/\aA l+1<=c/\g<H_ w/\∀j (h:j<aA (i::l)),∃u,dR w g (o+j) u/\PV F w u (i::l)[j]:=by grind[B2]
 have ⟨ui,ci,hpi⟩:=f 0 s_;simp[gu,ja]at ci hpi;have az:(((aA l+1:Nat):Int)==0)=WD:=G_;have ⟨r,hr⟩:∃r,r=cJ (i::l) a b:=(by simp);rw[<-hr];rw[CG]at hr;obtain⟨t',z',rfl⟩:=S.form;obtain⟨ti,zi,rfl⟩:=hpi.form;have d:a.c_≠3->Xg (r=(aZ,2)):=λh=>by show _=_;grind
 rcases hu.cases with ⟨n,rfl,rfl,_,_⟩|⟨s,rfl,rfl⟩|⟨s,rfl,rfl⟩|⟨x,cx,m,rfl,rfl,hm⟩;.have HP:=d (by simp[bB]);clear hu S hi hF f hpi hr d W;go_in;exact rG
 .have HP:=d (by simp[cG]);clear hu S hi hF f hpi hr d W;go_in;exact rG
 .have HP:=d (by simp[bS]);clear hu S hi hF f hpi hr d W;go_in;exact rG
 have be:=mZ m;rw[mF]at hc;have ab:=O (zV F _ i (aA m) w hpi Z);have HR:=O hr;have HM:=O hm;have HV:=O S;have HF:=O hF;have X:=O f;have V:=O W;clear hu S hi hF f hpi hr d W hm;go_in;go_wp;apply ab.mono;rintro e B ⟨Q,⟨h2,rfl⟩|⟨h2,h3,rfl⟩|⟨h2,k,G,af,rfl⟩⟩;obtain rfl:=Q.symm;have HP:Xg (r=(aZ,2)):=G_;clear h2 Q;exact rG;obtain rfl:=Q.symm;have HP:Xg (r=(aZ,4)):=by grind[bG]
 clear h2 h3 Q;exact rG;obtain rfl:=Q.symm;have ⟨gm,uk0,hx0,_⟩:=HM.get k G;rcases HM.row with ⟨rfl,_⟩|⟨aw,bb,xs,am,ar,bc,z,E⟩;simp at G;cases am;have ⟨uk,hxk,hpk⟩:=z.2 k G;have ae:=O (NL aw 0 (aA m) cx xs w (by rw[z.1];exact Z) Z (G_) (tO z));have ak:aK m[k]<=400000:=by have:=pS (ga G);exact Z
 have L:Xg (r=if (cJ l m[k] b).2≠0 then (aZ,(cJ l m[k] b).2)else (bG (m.set k (cJ l m[k] b).1),0)):=by grind[bG]
 obtain⟨tk,zk,rfl⟩:=hpk.form;have ag:=O z;have aa:=O hpk;have av:=O hxk;clear Q h2 af HR ab E z hpk hxk ar hx0;go_wp21;apply ae.mono;rintro e B ⟨v1,rfl,D,H⟩;rcases D.2 with ⟨r1,r2⟩|⟨g1,c1,ah,rfl,bd,t,aq,ap,an,au⟩;exact Z;have I:ah[k]?=Wy (dI tk zk):=by grind[dw]
 have d0:=aB t I;have ac:=aH t;have aj:Xg (∀q,F q->q<B.drew.heap.size):=λq hq=>eh (HF q hq) H.size;have A:=H.drew;have ⟨P,su⟩:∃P:Option Xe,(if c=1 then Wy (⟨g,o,none⟩:Xe)else Wy (aL g (o+1)))=P:=(by simp);have T:B2 F B.drew (P_ P (aA l) (c-1)) l:=by by_cases h1:c=1;grind[List.length_eq_zero_iff,B2];rw[dy h1]at su;subst su;refine dz ⟨g,o+1,c-1,aJ,Z,eh hg A.size,λj hj=>?_⟩;have ⟨u,e1,e2⟩:=X (j+1) G_;grind[Below.cell,PV.h_,ef,dw]
 have bf:(1:Int)<=(aA l:Int)+1:=Z;have ba:(aA l:Int)+1<=(c:Int):=Z;have HX:=O (V F (P_ P (aA l) (c-1)) (dI tk zk) (dI t' z') m[k] b B.drew T (aa.h_ λk G=>A.block k (HF k G)) (HV.h_ λk G=>A.block k (HF k G)) aj ak Z);generalize cJ l m[k] b=N at HX L;have HOWN:=O D;have HBLK:=O t;have K:=O H;clear D t H A T ae V X aa an au aq ap av;by_cases hz:N.2=0
 .have J:Xg (W_ Xi 354 #[dI tk zk,P_ P (aA l) (c-1),dI t' z'] B.drew λe w'=>Below (H_ B) B.drew w'/\∃t2 u2,e=bR (dI t2 u2)/\PV (Grow F B.drew w') w' (dI t2 u2) N.1):=by apply HX.mono;rintro e M ⟨y,⟨_,u2,rfl,C⟩|⟨al,rfl⟩⟩;obtain⟨t2,z2,rfl⟩:=C.form;exact⟨y,t2,z2,aJ,C⟩;exact Z
  have HQ:Xg (r=(bG (m.set k N.1),0)):=G_;clear HX L hz;go_wp2;go_region_law (go_simp;go_at_call 354;apply J.mono;rintro e M ⟨y,t2,u2,rfl,C⟩;have p:=(y.block g1 ac).trans HBLK;have d2:=aB p I;have bg:=aF p (i:=k);have ax:=aH p;have ai:=O C;have ao:=O y;have HBLK2:=O p;clear C y p);all_goals go_wp2;go_ret;exact Tj K ao HOWN ag ai HQ HF G
 have J:Xg (W_ Xi 354 #[dI tk zk,P_ P (aA l) (c-1),dI t' z'] B.drew λe w'=>Below (H_ B) B.drew w'/\e=jC N.2):=by apply HX.mono;rintro e M ⟨y,⟨al,_⟩|⟨_,rfl⟩⟩;exact Z;exact⟨y,aJ⟩
 have HQ:Xg (r=(aZ,N.2)):=G_;have HS:Xg (∀M,Below (H_ B) B.drew M->jE F w r (jC N.2) M):=λM h=>jE.stop (K.drew.trans (h.mono K.size)) HQ hz;clear HX L hz;go_wp21;go_region_dies;all_goals(apply J.mono;rintro e M ⟨y,rfl⟩;exact⟨aJ,HS _ y⟩)
def FT:∀(l:List aE) (F:bL),yF F l|[],F=>TC F|i::l,F=>TD F i l (FT l)
def Ts(l:List aE)(k:Nat)(x:aE):((l.set k x).map aK).sum<=(l.map aK).sum+aK x:=by induction l generalizing k with|nil=>simp|cons a l b=>cases k with|zero=>grind|succ k=>grind
def zC:∀(l:List aE) (a b:aE),aK (cJ l a b).1<=(aA l+1)*(aK a+aK b+1)
 |[],a,b=>by grind[cJ]|i::l,a,b=>by
  rw[CG];have c:aK aZ=1:=by rw[dE];simp[aZ]
  repeat' split
  grind;grind;grind;have f:i.n.toNat<aA a.l:=Z;have j:=zC l (a.l.getD i.n.toNat aZ) b;have d:=pS (ga f);have g:=dE a;rw[mF];have e:=Ts a.l i.n.toNat (cJ l (a.l.getD i.n.toNat aZ) b).1;have h:(aA l+1)*(aK a.l[i.n.toNat]+aK b+1)<=(aA l+1)*(aK a+aK b+1):=Nat.mul_le_mul_left _ Z;grind[Nat.succ_mul]
def WI(F:bL)(l:List aE)(j u v:aX)(a b:aE)(w:aN)(D:B2 F w j l)(s:PV F w u a)(y:PV F w v b)(C:∀k,F k->k<w.heap.size)(H:aK a<=400)(E:aK b<=400)(S:aA l<=100000):W_ Xi 351 #[u,j,v] w (jE F w (jJ a l b)):=by
 have q:=zC l a b;have G:(aA l+1)*(aK a+aK b+1)<=100001*801:=Nat.mul_le_mul Z Z;have n:=O (FT l F j u v a b w D s y C Z Z);obtain⟨r,m⟩:∃r,r=jJ a l b:=(by simp);rw[<-m];unfold jJ jH at m;have J:=O m;obtain⟨x,c,rfl⟩:∃x c,j=Xl x (aA l) c:=by grind[B2]
 obtain⟨t,z,rfl⟩:=s.form;obtain⟨M,N,rfl⟩:=y.form;generalize cJ l a b=g at n J q;clear D s y C m;go_in;go_wp2_with fail;apply n.mono;rintro e A ⟨d,⟨f,u1,rfl,i⟩|⟨f,rfl⟩⟩
 .have K:=O (qY (Grow F w A) u1 g.1 A i Z);obtain⟨Q,P,rfl⟩:=i.form;have I:=O i;have B:=O d;have L:=O f;clear i d f n;go_wp21;apply K.mono;rintro e T ⟨rfl,⟨o,rfl⟩|⟨o,rfl⟩⟩
  .have p:Xg (r=(g.1,0)):=by grind[dw]
   clear o;go_wp2;go_ret;exact jE.ok B p I
  have p:Xg (r=(aZ,6)):=by grind[dw]
  clear o;go_wp;exact⟨aJ,(by grind[dw,jE])⟩
 have p:Xg (r=(g.1,g.2)):=G_;have L:=O f;have B:=O d;clear f d n;go_wp;exact⟨aJ,(by grind[dw,jE])⟩
def oY(w:aN):Prop:=Lib.TabIs Xi w "internal/strconv.uint64pow10" .u64 Lib.pow10Tab
theorem oY.h_{w w':aN}(h:oY w)(b:prog.globalNamed "internal/strconv.uint64pow10"=Wy n)(a:w'.heap[n]?=w.heap[n]?):oY w':=by grind[oY,Lib.TabIs,World.var?]
def oY.below{a:aN}(h:oY R)(b:R_ R a):oY a:=by grind[Program.globalNamed,oY,Lib.TabIs,World.var?,ef]
theorem FP:∀(f n:Nat) (t:bQ),n<10^(f+1)->iX (f+1) n t=Lib.decDigits n++t|0,n,t,h=>by grind[iX,Lib.decDigits]|f+1,n,t,h=>by rw[iX,Lib.decDigits];by_cases a:n<10;grind;rw[dy a,dif_neg a,FP f (n/10) _ Z];simp
def MW(n:Int)(a:-9223372036854775808<=n)(b:n<=9223372036854775807):Lib.itoa n=jM n:=by grind[Lib.itoa,jM,FP]
def FL:∀l:cY,Lib.join l [44,32]=fO l|[]=>rfl|[x]=>by simp[Lib.join,fO]|x::y::l=>by have a:=FL (y::l);grind[Lib.join,List.intercalate,List.intersperse_cons_cons,fO]
def b8(l:cY):Lib.join ((l.map bs).map λx=>eA x) (bs [44,32]).data.toList=fO l:=by rw[<-FL,List.map_map];have e:((λx:ByteArray=>eA x) ∘ bs)=id:=(by grind[bs]);grind[List.map_id,bs]
def OV(w:aN)(x:bQ):∀j u,([Q_ (bs x)]:List Xa)[j]?=Wy u->(eF w #[Q_ (bs x)] 9).cell? ((⟨H_ w,0,none⟩:Xe).add j)=Wy u:=by intro j v a;match j,a with|0,a=>simp at a;subst a;simp[Addr.add]|j+1,a=>simp at a
def WQ(x:bQ):∀u∈([Q_ (bs x)]:List Xa),u.oneCell'=W1:=by intro u a;simp at a;rw[a];rfl
def KL:(prog.info? 9).map (λi=>(i.zero,i.size,i.bytes))=Wy (Wy (Q_ ⟨#[]⟩),1,16):=k_
def IU(l:cY):List Xa:=l.map λx=>Value.string (bs x)
def tT(F:bL)(k:Nat):Prop:=∀(v:aX) (a:aE) (w:aN),PV F w v a->(∀b,F b->b<w.heap.size)->oY w->aK a<=k->k<=1000000->W_ Xi 171 #[v] w λe w'=>e=bR (Xm (bs (cM a)))/\R_ w w'
def RN(F:bL)(k:Nat)(IH:tT F k)(x:Option Xe)(c:Nat)(l:List aE)(w:aN)(hl:vg F w (P_ x (aA l) c) l)(hF:∀b,F b->b<H_ w)(hp:oY w)(hc:(l.map aK).sum<=k)(hk:k<=1000000):W_ Xi 225 #[P_ x (aA l) c] w λe w'=>e=bR (Q_ (bs (fO (l.map cM))))/\R_ w w':=by
 have ⟨i0,hi,hz0,hz1,hz2⟩:=info_parts KL;have X:=mZ l;have v:=O IH;have T:=O hl;have HF:=O hF;have HP:=O hp;clear IH hl hF hp;go_in;go_wp2;go_loopg [3,5,8] (aA l) (λgk s _ i wr=>∃j:Nat,j+gk=aA l/\i=Y j/\(∃y d,s=P_ y j d)/\wr.ownsRow (H_ w) 9 1 s j (IU ((l.map cM).take j))/\R_ w wr);case atStart=>grind[World.ownsRow_nil,dv,IU]
 case round=>
  obtain⟨j,hj,rfl,⟨y,d,rfl⟩,n,f⟩:=hrel;by_cases M:j<aA l
  .obtain⟨m,rfl⟩:∃m,gk=m+1:=⟨gk-1,Z⟩;have D:=T.h_ λb H=>f.block b (HF b H);obtain⟨g,u,rfl,hn,ad,hg,W,N,S⟩:=D.get j M;have B:l[j]∈l:=(by simp);have ae:=pS B;have HX:=O (v u l[j] wr S (λb H=>eh (HF b H) f.size) (HP.below f) Z Z);obtain⟨t,u',rfl⟩:=S.form;have K:=f.size;have HO:=O n;have G:=O f;have C:IU ((l.map cM).take (j+1))=IU ((l.map cM).take j)++[Q_ (bs (cM l[j]))]:=by grind[List.take_succ_eq_append_getElem,IU]
   have I:=O C;clear S n f C D;go_wp;refine sa HX λE r=>?_;have aa:=r.size;have q:=jZ HO r;have z:=O q;clear q;generalize cM l[j]=tx at*;go_wp2_with (at_builtin;refine wpList_append_lies _ r_ _ _ 52 r_ (H_ w) 9 i0 _ 1 16 underlying52 hi hz0 hz1 hz2 rfl d_ (P_ y j d) j _ r_ (z.alloc _) (aL (H_ E) 0) 1 1 [Q_ (bs tx)] r_ r_ (OV E _) (WQ _) d_ lg Z la (H_ E+1) s_ ?_);intro g4 ab w4 p o A ag;have P:=O p;have Q:=O o;clear p o A;go_wp2;go_roundg m;case measure=>exact Z
   case rel=>refine⟨j+1,Z,ll,s_,by rw[I];exact P,?_⟩;exact((G.trans (r.mono Z)).alloc Z _).grown Q la λk hk=>(z.lt k hk).1
  have J:j=aA l:=Z;subst J;have K:=f.size;rw[ii s_]at n;have G:=O f;have af:=uO l λa _=>sH a;rcases n.2 with ⟨V,r2⟩|⟨g,cp,ac,V,r2,r3,r4,r5,r6,r7⟩;.have e1:l=[]:=(by grind);subst e1;cases V;clear n f T v;go_wp;apply mJ (strings_Join_none _ _ _ _);go_wp2;go_ret;exact⟨aJ,G⟩
  cases V;have HJ:=O (strings_Join g 0 d ((l.map cM).map bs) (bs [44,32]) wr (λi x hx=>by
   apply aB r3;have e2:(IU (l.map cM))[i]?=Wy (Q_ x):=by grind[IU]
   grind) (G_) G_ G_ (by rw[b8];exact Z));have L:aA ((l.map cM).map bs)=aA l:=s_;rw[L,b8]at HJ;clear n f T v r3 r6 r7;go_wp;refine sa HJ λE r=>?_;go_wp2;go_ret;exact⟨aJ,G.trans (r.mono Z)⟩
def R1{a:Array Obj}(h:J=Sort.grow (R.drewN n) a):R_ R J:=by subst h;refine⟨aJ,aJ,aJ,?_,λi c=>?_⟩;simp;show (R.heap++a)[i]?=R.heap[i]?;grind
def On:(⟨(Lib.formatBool WD).toArray⟩:ByteArray)=bs [102,97,108,115,101]:=k_
def Pt:(⟨(Lib.formatBool W1).toArray⟩:ByteArray)=bs [116,114,117,101]:=k_
def ML(F:bL)(k:Nat)(f:tT F k):tT F (k+1):=by
 intro v a w h q e i B;rcases h.cases with ⟨n,rfl,rfl,p,o⟩|⟨b,rfl,rfl⟩|⟨s,rfl,rfl⟩|⟨x,c,l,rfl,rfl,r⟩
 .have d:cM (bB n)=jM n:=by rw[mB];rfl
  have m:=O (strconv_FormatInt_10 n p o w e);rw[d];clear h f i e;go_in;go_wp2_with fail;refine sa m λt ⟨A,C,g⟩=>?_;have j:=R1 g;clear g;go_wp2;go_ret;exact⟨by rw[MW n p o];rfl,j⟩
 .have d:cM (cG b)=if b then [116,114,117,101]else [102,97,108,115,101]:=by rw[mB];cases b<;>rfl
  rw[d];clear h f i e;cases b;all_goals go_in;go_wp;apply mJ (strconv_FormatBool _ _);go_wp2;go_ret;exact⟨by first|(rw[On];rfl)|(rw[Pt];rfl),dv _ _⟩
 .have d:cM (bS s)=[34]++s++[34]:=by rw[mB];rfl
  have y:=iS s;rw[oI]at i;rw[d];clear h f e;go_in;go_wp2;go_ret;refine⟨?_,dv _ _⟩;rw[OO,OP];rfl
 have d:cM (bG l)=[91]++fO (l.map cM)++[93]:=by rw[mB];rfl
 have u:=uO l λa _=>sH a;rw[mF]at i;have m:=O (RN F k f x c l w r q e Z Z);have y:(bs (fO (l.map cM))).size=aA (fO (l.map cM)):=iS _;rw[d];generalize fO (l.map cM)=z at*;clear h f e r q;go_in;go_wp;refine sa m λt j=>?_;go_wp2;go_ret;refine⟨?_,j⟩;show Ending.returned (Q_ (bs [91]++bs z++bs [93]))=_;grind[nE]
def uD(F:bL):∀k,tT F k|0=>(by grind[yB,tT])|k+1=>ML F k (uD F k)
def Nc(F:bL)(v:aX)(a:aE)(w:aN)(h:PV F w v a)(j:∀b,F b->b<H_ w)(k:oY w)(m:aK a<=100000):W_ Xi 359 #[v] w λe i=>e=bR (Q_ (bs (jO a)))/\R_ w i:=by
 have f:=O (uD F 100000 v a w h j k m Z);rcases h.cases with ⟨n,rfl,rfl,p,o⟩|⟨b,rfl,rfl⟩|⟨s,rfl,rfl⟩|⟨x,c,l,rfl,rfl,q⟩;.go_in;go_wp;refine sa f λg d=>?_;go_wp2;go_ret;exact⟨aJ,d⟩
 .go_in;go_wp;refine sa f λg d=>?_;go_wp2;go_ret;exact⟨aJ,d⟩
 .go_in;go_wp2;go_ret;exact⟨aJ,dv _ _⟩
 go_in;go_wp;refine sa f λg d=>?_;go_wp2;go_ret;exact⟨aJ,d⟩
def AN(Y_:a:=by go_in;go_wp2_with fail;exact⟨aJ,(by grind[dv,jE])⟩):a:=Y_
def Qq(F:bL)(v:aX)(a:aE)(w:aN)(h:PV F w v a)(g:cT a)(j:aK a<=1000000):W_ Xi 372 #[v] w (jE F w (dO a)):=by
 rcases h.cases with ⟨m,rfl,rfl,u,r⟩|⟨b,rfl,rfl⟩|⟨s,rfl,rfl⟩|⟨x,c,l,rfl,rfl,p⟩;have d:dO (bB m)=(aZ,2):=rfl;rw[d];clear h g j;exact AN;have d:dO (cG b)=(aZ,2):=rfl;rw[d];clear h g j;exact AN
 .have t:eU s:=g.Ec;have d:dO (bS s)=(bB (aA (eE s)),0):=rfl;have y:(bs s).size=aA s:=iS s;rw[oI]at j;have f:=qC s;have e:Lib.runeCount (bs s)=aA (eE s):=by grind[Lib.runeCount,jT,FQ]
  have k:=O (utf8_RuneCountInString (bs s) w Z);rw[e]at k;rw[d];clear h g e;go_in;go_wp;refine sa k λn ⟨q,i⟩=>?_;have o:R_ w n:=by rw[i];exact(dv _ w).alloc (Z) _
  clear i;go_wp2;go_ret;exact jE.ok o aJ (PV.num _ _ _ Z Z)
 have d:dO (bG l)=(bB (aA l),0):=rfl;have f:=mZ l;rw[mF]at j;rw[d];clear h g p;go_in;go_wp2;go_ret;exact jE.ok (dv _ _) aJ (PV.num _ _ _ Z Z)
def Qo(F:bL)(x:Option Xe)(c:Nat)(l:List aE)(v:aX)(b:aE)(w:aN)(p:vg F w (P_ x (aA l) c) l)(j:PV F w v b)(M:aA l<=1000000):W_ Xi 365 #[dI 324 (P_ x (aA l) c),v] w (jE F w (cB (bG l) b)):=by
 have y:=O (zV F v b (aA l) w j Z);obtain⟨t,z,rfl⟩:=j.form;have s:=O p;have q:cB (bG l) b=if b.c_≠0 then (aZ,2)else if b.n<0\/(aA l:Int)<=b.n then (aZ,4)else (l.getD b.n.toNat aZ,0):=by simp[cB,kL,bG]
 have B:=O q;generalize cB (bG l) b=r at B;clear j p q;go_in;go_wp;apply y.mono;rintro e D ⟨rfl,⟨n,rfl⟩|⟨n,m,rfl⟩|⟨n,k,m,K,rfl⟩⟩;exact rG;exact rG;obtain⟨g,u,rfl,_,J,H,o,f,i⟩:=s.get k m;obtain⟨E,G,rfl⟩:=i.form;have C:=O i;have d:l.getD b.n.toNat aZ=l[k]:=G_;have a:r=(l[k],0):=by grind[dw]
 have HRes:=O a;have L:(0:Int)<=(k:Int):=Z;have I:(k:Int)<(aA l:Int):=Z;clear i d a s y;go_wp2;go_ret;exact jE.ok (dv _ _) HRes (C.mono λk A=>ea A)
def PJ(r:Nat)(W:aN):(convert 21 323 (.int .i32 (r:Int))).run Xi W=.ok (Xm (bs (ND r))) W:=by
 have a:Utf8.encode (Int.ofNat r)=bs (ND r):=by
  have:∀x:ByteArray,x=bs x.data.toList:=λx=>by cases x;simp[bs]
  exact this _
 rw[Int.ofNat_eq_natCast]at a;simp[convert,run_underlying underlying21,run_underlying underlying323,Conv.intToString,a]
def Io(F:bL)(s:bQ)(v:aX)(b:aE)(w:aN)(E:PV F w v b)(S:eU s)(hc:aA s<=1000000)(V:∀k,F k->k<H_ w):W_ Xi 365 #[dI 323 (Q_ (bs s)),v] w (jE F w (cB (bS s) b)):=by
 have hs:(bs s).size=aA s:=iS s;have u:(bs s).data.toList=s:=by simp[jT]
 have ⟨rs,r1,l,r3,g⟩:=EX (bs s) (bs s).size 0 #[] Z G_;rw[List.drop_zero,u]at l g;have f:(Conv.runesFrom (bs s) (bs s).size 0 #[]).size=aA rs:=G_;have p:=qC s;have a:=run_runes_of_string (P:=Xi) w 323 485 21 (bs s) underlying323 underlying485 underlying21 (by rw[f];exact Z);rw[f,r1]at a;generalize grownCap w (aA rs) 0 21=N at a;generalize i:(Obj.cells ((#[]++(rs.map λr=>Value.int .i32 (Int.ofNat r)).toArray)++Array.replicate (N-aA rs) (.int .i32 0)) 21)=ob at a;have c:∀k (h:k<aA rs),dR (w.drew.alloc ob) (H_ w) k (.int .i32 ((rs[k]:Nat):Int)):=λk h=>by rw[<-i];apply aB (aV _ _ aJ _);grind
 have y:R_ w (w.drew.alloc ob):=((dv _ w).drew).alloc lZ _;have q:=O (zV F v b (aA rs) (w.drew.alloc ob) ((by grind[PV.h_,ef])) Z);obtain⟨t,z,rfl⟩:=E.form;have D:cB (bS s) b=if b.c_≠0 then (aZ,2)else if b.n<0\/(aA rs:Int)<=b.n then (aZ,4)else (((eE s).map bS).getD b.n.toNat aZ,0):=by grind[cB,kL,bS]
 have J:=O D;have G:aA rs<=1000000:=Z;have I:=O l;have L:=O g;have o:=O c;have A:=O y;generalize cB (bS s) b=r at J;generalize j:w.drew.alloc ob=H at a q o A;have C:H_ w<H_ H:=by rw[<-j];simp
 clear E D c y j i r1 f u l g p;go_in;go_wp;apply q.mono;rintro e Q ⟨rfl,⟨B,rfl⟩|⟨B,x,rfl⟩|⟨B,k,x,X,rfl⟩⟩;exact IB;exact IB;have K:=o k x;have l:=I.out;have g:=L.out;have n:ND rs[k]=(eE s)[k]'Z:=by grind
 have m:((eE s).map bS).getD b.n.toNat aZ=bS (ND rs[k]):=by grind
 have d:r=(bS (ND rs[k]),0):=by grind[dw]
 have M:=PJ rs[k] Q;have HRes:=O d;have e1:(0:Int)<=(k:Int):=Z;have W:(k:Int)<(aA rs:Int):=Z;clear m d n q o l g;generalize rs[k]=T at*;go_wp2;go_ret;exact jE.ok A HRes (PV.str _ _ _)
def Sb(F:bL)(u v:aX)(a b:aE)(w:aN)(j:PV F w u a)(d:PV F w v b)(f:cT a)(e:aK a<=1000000)(g:∀k,F k->k<H_ w):W_ Xi 365 #[u,v] w (jE F w (cB a b)):=by
 rcases j.cases with ⟨m,rfl,rfl,o,n⟩|⟨x,rfl,rfl⟩|⟨s,rfl,rfl⟩|⟨x,c,l,rfl,rfl,h⟩;have i:cB (bB m) b=(aZ,2):=by simp[cB,bB]
 exact AN;have i:cB (cG x) b=(aZ,2):=by simp[cB,cG]
 exact AN;rw[oI]at e;exact Io F s v b w d f.Ec Z g;rw[mF]at e;have:=mZ l;exact Qo F x c l v b w h d Z
def S9(n m:Int)(w:aN):(binOp .eql 265 (dI 263 (Y n)) (dI 263 (Y m))).run Xi w=.ok (Xr (n==m)) w:=k_
def SX(n m:Bool)(w:aN):(binOp .eql 265 (dI 321 (Xr n)) (dI 321 (Xr m))).run Xi w=.ok (Xr (n==m)) w:=k_
def YR(n m:ByteArray)(w:aN):(binOp .eql 265 (dI 323 (Q_ n)) (dI 323 (Q_ m))).run Xi w=.ok (Xr (n==m)) w:=k_
def S6(a b:bQ)(w:aN):(binOp .eql 265 (dI 323 (Q_ (bs a))) (dI 323 (Q_ (bs b)))).run Xi w=.ok (Xr (a==b)) w:=by rw[YR];have h:(bs a==bs b)=((bs a).data==(bs b).data):=rfl;rw[h];simp[bs]
def YV(u v:aX)(w:aN):(binOp .eql 265 (dI 263 u) (dI 321 v)).run Xi w=.ok (Xr WD) w:=k_
def S8(u v:aX)(w:aN):(binOp .eql 265 (dI 263 u) (dI 323 v)).run Xi w=.ok (Xr WD) w:=k_
def YU(u v:aX)(w:aN):(binOp .eql 265 (dI 263 u) (dI 324 v)).run Xi w=.ok (Xr WD) w:=k_
def YX(u v:aX)(w:aN):(binOp .eql 265 (dI 321 u) (dI 263 v)).run Xi w=.ok (Xr WD) w:=k_
def YW(u v:aX)(w:aN):(binOp .eql 265 (dI 321 u) (dI 323 v)).run Xi w=.ok (Xr WD) w:=k_
def SU(u v:aX)(w:aN):(binOp .eql 265 (dI 321 u) (dI 324 v)).run Xi w=.ok (Xr WD) w:=k_
def S7(u v:aX)(w:aN):(binOp .eql 265 (dI 323 u) (dI 263 v)).run Xi w=.ok (Xr WD) w:=k_
def YT(u v:aX)(w:aN):(binOp .eql 265 (dI 323 u) (dI 321 v)).run Xi w=.ok (Xr WD) w:=k_
def YS(u v:aX)(w:aN):(binOp .eql 265 (dI 323 u) (dI 324 v)).run Xi w=.ok (Xr WD) w:=k_
def rT(h:G=b):cZ G b=W1:=(sL G b).2 h
def fH(h:G≠b):cZ G b=WD:=by grind[sL]
def II{m:List aE}:bG D=bG m↔D=m:=by simp[bG]
def GN(F:bL)(k:Nat):Prop:=∀(u v:aX) (a b:aE) (w:aN),PV F w u a->PV F w v b->aK a<=k->k<=1000000000->aK b<=1000000000->W_ Xi 379 #[u,v] w λe w'=>w'=w/\e=bR (Xr (cZ a b))
def JO(F:bL)(k:Nat)(Q:GN F k)(x y:Option Xe)(c d:Nat)(l m:List aE)(w:aN)(P:vg F w (P_ x (aA l) c) l)(E:vg F w (P_ y (aA m) d) m)(hc:aK (bG l)<=k+1)(hk:k<=1000000000)(hd:aK (bG m)<=1000000000):W_ Xi 383 #[P_ x (aA l) c,P_ y (aA m) d,.func (.func 379) #[] #[]] w λe w'=>w'=w/\e=bR (Xr (cZ (bG l) (bG m))):=by
 have h1:=mZ l;have h2:=mZ m;rw[mF]at hc hd;by_cases f:aA l=aA m
 .have J:((aA l:Int) !=(aA l:Int))=WD:=s_;rw[<-f]at E⊢;have HL:=O P;have HM:=O E;have M:=O Q;have v:=O f;clear P E Q f;go_in;go_wp2;go_loopg [6,7,8,9,17] (aA l) (λgk _ _ _ _ i wr=>∃j:Nat,j+gk=aA l/\i=Y j/\wr=w/\Xg (l.take j=m.take j));case atStart=>exact⟨0,Z,rfl,rfl,by simp[Xg]⟩
  case round=>
   obtain⟨j,hj,rfl,rfl,I⟩:=hrel;by_cases n:j<aA l
   .obtain⟨q,rfl⟩:∃q,gk=q+1:=⟨gk-1,Z⟩;obtain⟨g,u,rfl,hn,hF,hg,X,L,S⟩:=HL.get j n;obtain⟨g',u',rfl,N,aa,ab,T,H,B⟩:=HM.get j (by rw[<-v];exact n);have K:=pS (ga n);have r:j<aA m:=by rw[<-v];exact n
    have D:=pS (ga r);have G:=O (M u u' l[j] (m[j]'r) wr S B Z hk Z);obtain⟨t,z,rfl⟩:=S.form;obtain⟨t',z',rfl⟩:=B.form;have A:=hQ n;have p:=hQ r;have s:=ey n;have C:=ey r;generalize l[j]=a at*;generalize m[j]'r=b at*;clear S B K D hn N;by_cases o:a=b
    .rw[rT o]at G;have W:Xg (l.take (j+1)=m.take (j+1)):=by show _=_;rw[A,p,I,o]
     clear A p s C I o;go_wp;apply G.mono;rintro e w1 ⟨rfl,rfl⟩;go_wp2;go_roundg q;case measure=>exact Z
     case rel=>exact⟨j+1,Z,ll,rfl,W⟩
    rw[fH o]at G;have V:Xg (l≠m):=by show _≠_;intro e;rw[e,C]at s;cases s;exact o aJ
    clear A p s C I o;go_wp;apply G.mono;rintro e w1 ⟨rfl,rfl⟩;go_wp2;go_ret;exact⟨aJ,by rw[fH λe=>V (II.1 e)];rfl⟩
   have HE:Xg (l=m):=by have:=I.out;rw[ii Z,ii (by rw[<-v];exact Z)]at this;exact this
   go_wp2;go_ret;exact⟨aJ,by rw[rT (II.2 HE.out)];rfl⟩
 have J:((aA l:Int) !=(aA m:Int))=W1:=by simp;exact Z
 have V:Xg (l≠m):=by show _≠_;intro e;exact f (by rw[e])
 clear P E Q;go_in;go_wp2;go_ret;exact⟨aJ,by rw[fH λe=>V (II.1 e)];rfl⟩
def WG(F:bL)(k:Nat)(j:GN F k):GN F (k+1):=by
 intro u v a b w m g o G i;rcases m.cases with ⟨n,rfl,rfl,H,E⟩|⟨s,rfl,rfl⟩|⟨s,rfl,rfl⟩|⟨x,c,l,rfl,rfl,y⟩
 .rcases g.cases with ⟨p,rfl,rfl,_,_⟩|⟨f,rfl,rfl⟩|⟨f,rfl,rfl⟩|⟨B,A,q,rfl,rfl,_⟩
  .have t:=S9
   have d:Xg (cZ (bB n) (bB p)=(n==p)):=by
    show _=_
    by_cases e:n=p
    .rw[rT (by rw[e]),e,beq_self_eq_true]
    rw[fH (by simp[bB,e]),beq_eq_false_iff_ne.2 e]
   clear m g j o i;generalize cZ (bB n) (bB p)=r at*;go_in
   go_wp2
   go_ret;exact⟨aJ,nl⟩
  .have t:=YV;have d:Xg (cZ (bB n) (cG f)=WD):=fH (by simp[bB,cG])
   clear m g j o i;generalize cZ (bB n) (cG f)=r at*;go_in
   go_wp2
   go_ret;exact⟨aJ,nl⟩
  .have t:=S8;have d:Xg (cZ (bB n) (bS f)=WD):=fH (by simp[bB,bS])
   clear m g j o i;generalize cZ (bB n) (bS f)=r at*;go_in
   go_wp2
   go_ret;exact⟨aJ,nl⟩
  have t:=YU;have d:Xg (cZ (bB n) (bG q)=WD):=fH (by simp[bB,bG])
  clear m g j o i;generalize cZ (bB n) (bG q)=r at*;go_in
  go_wp2
  go_ret;exact⟨aJ,nl⟩
 .rcases g.cases with ⟨p,rfl,rfl,_,_⟩|⟨f,rfl,rfl⟩|⟨f,rfl,rfl⟩|⟨B,A,q,rfl,rfl,_⟩
  .have t:=YX;have d:Xg (cZ (cG s) (bB p)=WD):=fH (by simp[cG,bB])
   clear m g j o i;generalize cZ (cG s) (bB p)=r at*;go_in
   go_wp2
   go_ret;exact⟨aJ,nl⟩
  .have t:=SX
   have d:Xg (cZ (cG s) (cG f)=(s==f)):=by
    show _=_
    cases s<;>cases f<;>first|exact rT aJ|exact fH (by simp[cG])
   clear m g j o i;generalize cZ (cG s) (cG f)=r at*;go_in
   go_wp2
   go_ret;exact⟨aJ,nl⟩
  .have t:=YW;have d:Xg (cZ (cG s) (bS f)=WD):=fH (by simp[cG,bS])
   clear m g j o i;generalize cZ (cG s) (bS f)=r at*;go_in
   go_wp2
   go_ret;exact⟨aJ,nl⟩
  have t:=SU;have d:Xg (cZ (cG s) (bG q)=WD):=fH (by simp[cG,bG])
  clear m g j o i;generalize cZ (cG s) (bG q)=r at*;go_in
  go_wp2
  go_ret;exact⟨aJ,nl⟩
 .rcases g.cases with ⟨p,rfl,rfl,_,_⟩|⟨f,rfl,rfl⟩|⟨f,rfl,rfl⟩|⟨B,A,q,rfl,rfl,_⟩
  .have t:=S7;have d:Xg (cZ (bS s) (bB p)=WD):=fH (by simp[bS,bB])
   clear m g j o i;generalize cZ (bS s) (bB p)=r at*;go_in
   go_wp2
   go_ret;exact⟨aJ,nl⟩
  .have t:=YT;have d:Xg (cZ (bS s) (cG f)=WD):=fH (by simp[bS,cG])
   clear m g j o i;generalize cZ (bS s) (cG f)=r at*;go_in
   go_wp2
   go_ret;exact⟨aJ,nl⟩
  .have t:=S6
   have d:Xg (cZ (bS s) (bS f)=(s==f)):=by
    show _=_
    by_cases e:s=f
    .rw[rT (by rw[e]),e,beq_self_eq_true]
    rw[fH (by simp[bS,e]),beq_eq_false_iff_ne.2 e]
   clear m g j o i;generalize cZ (bS s) (bS f)=r at*;go_in
   go_wp2
   go_ret;exact⟨aJ,nl⟩
  have t:=YS;have d:Xg (cZ (bS s) (bG q)=WD):=fH (by simp[bS,bG])
  clear m g j o i;generalize cZ (bS s) (bG q)=r at*;go_in
  go_wp2
  go_ret;exact⟨aJ,nl⟩
 rcases g.cases with ⟨p,rfl,rfl,_,_⟩|⟨f,rfl,rfl⟩|⟨f,rfl,rfl⟩|⟨B,A,q,rfl,rfl,z⟩
 .have d:Xg (cZ (bG l) (bB p)=WD):=fH (by simp[bG,bB])
  clear m g y j o i;generalize cZ (bG l) (bB p)=r at*;go_in
  go_wp2
  go_ret;exact⟨aJ,nl⟩
 .have d:Xg (cZ (bG l) (cG f)=WD):=fH (by simp[bG,cG])
  clear m g y j o i;generalize cZ (bG l) (cG f)=r at*;go_in
  go_wp2
  go_ret;exact⟨aJ,nl⟩
 .have d:Xg (cZ (bG l) (bS f)=WD):=fH (by simp[bG,bS])
  clear m g y j o i;generalize cZ (bG l) (bS f)=r at*;go_in
  go_wp2
  go_ret;exact⟨aJ,nl⟩
 have C:=O (JO F k j x B c A l q w y z o Z i);clear m g y z j o i;generalize cZ (bG l) (bG q)=r at*;go_in
 go_wp2_with fail;apply C.mono
 rintro e D ⟨rfl,rfl⟩;go_wp2
 go_ret;exact⟨aJ,aJ⟩
def zX(F:bL):∀k,GN F k|0=>λu v a b w _ _ h=>by have:=yB a;exact Z|k+1=>WG F k (zX F k)
def jE.Du{r:aE×Nat}{e:Ending}(h:nR y R r e J):jE y R r e J:=by obtain⟨rfl,⟨c,u,b,d⟩|⟨c,b⟩⟩:=h;exact⟨dv _ _,(by grind[PV.mono,Grow])⟩;grind[dv,jE]
def Oe(c:f≠[61,61])(b:f≠[33,61])(n m:Int):dJ f (bB n) (bB m)=jD f n m:=by grind[dJ,bB]
def Sw(e:f≠[61,61])(d:f≠[33,61])(a b:bQ):dJ f (bS a) (bS b)=OB f a b:=by grind[dJ,OB,fZ,bS]
def I2(e:f≠[61,61])(d:f≠[33,61])(a b:List aE):dJ f (bG a) (bG b)=DT f a b:=by grind[dJ,DT,fZ,bG]
def kD(e:f≠[61,61])(d:f≠[33,61])(h:G.c_≠b.c_\/G.c_=1):dJ f G b=(aZ,2):=by grind[dJ]
def WK(q:bQ)(F:bL)(u v:aX)(a b:aE)(w:aN)(m:PV F w u a)(j:PV F w v b)(p:∀k,F k->k<H_ w)(d:aK a<=400000)(i:aK b<=400000):W_ Xi 378 #[Q_ (bs q),u,v] w (jE F w (dJ q a b)):=by
 have y:=bA q;by_cases f:q=[61,61]
 .have W:((bs q).toList==[61,61])=W1:=by rw[y,f];rfl
  have E:Xg (dJ q a b=(cG (cZ a b),0)):=by show _=_;unfold dJ;rw[ec f]
  have J:=O (zX F 400000 u v a b w m j d Z Z);obtain⟨t,z,rfl⟩:=m.form;obtain⟨t',z',rfl⟩:=j.form;clear m j y f;rw[E];generalize cZ a b=s at*;go_in;go_wp;apply J.mono;rintro e M ⟨rfl,rfl⟩;go_wp2;go_ret;exact jE.ok (dv _ _) aJ (PV.yo _ _ s)
 have W:((bs q).toList==[61,61])=WD:=by rw[y];simpa using f
 by_cases g:q=[33,61]
 .have e1:((bs q).toList==[33,61])=W1:=by rw[y,g];rfl
  have E:Xg (dJ q a b=(cG (!cZ a b),0)):=by show _=_;unfold dJ;rw[dy f,ec g]
  have J:=O (zX F 400000 u v a b w m j d Z Z);obtain⟨t,z,rfl⟩:=m.form;obtain⟨t',z',rfl⟩:=j.form;clear m j y f g;rw[E];generalize cZ a b=s at*;go_in;go_wp;apply J.mono;rintro e M ⟨rfl,rfl⟩;go_wp2;go_ret;exact jE.ok (dv _ _) aJ (PV.yo _ _ (!s))
 have e1:((bs q).toList==[33,61])=WD:=by rw[y];simpa using g
 clear y;rcases m.cases with ⟨n,rfl,rfl,h1,X⟩|⟨s,rfl,rfl⟩|⟨s,rfl,rfl⟩|⟨x,c,l,rfl,rfl,V⟩
 .rcases j.cases with ⟨K,rfl,rfl,H,G⟩|⟨D,rfl,rfl⟩|⟨D,rfl,rfl⟩|⟨P,N,L,rfl,rfl,B⟩
  .rw[Oe f g];have J:=O (Kw q F n K w h1 X H G);generalize jD q n K=r at*;clear m j p f g d i;go_in;go_wp;apply J.mono;rintro e M ⟨rfl,⟨o,u1,rfl,A⟩|⟨o,rfl⟩⟩;.have E:=O A;have C:=O o;obtain⟨T,S,rfl⟩:=A.form;clear A o;go_wp2;go_ret;exact jE.Du ⟨aJ,ea ⟨C,_,aJ,E⟩⟩
   have C:=O o;clear o;go_wp;exact⟨aJ,jE.Du ⟨aJ,dz ⟨C,aJ⟩⟩⟩
  .rw[kD f g (by simp[bB,cG])];clear m j p f g d i;go_in;go_wp;exact⟨aJ,jE.stop (dv _ _) aJ d_⟩
  .rw[kD f g (by simp[bB,bS])];clear m j p f g d i;go_in;go_wp;exact⟨aJ,jE.stop (dv _ _) aJ d_⟩
  rw[kD f g (by simp[bB,bG])];clear m j p f g d i;go_in;go_wp;exact⟨aJ,jE.stop (dv _ _) aJ d_⟩
 .rcases j.cases with ⟨K,rfl,rfl,H,G⟩|⟨D,rfl,rfl⟩|⟨D,rfl,rfl⟩|⟨P,N,L,rfl,rfl,B⟩;.rw[kD f g (by simp[cG,bB])];clear m j p f g d i;go_in;go_wp;exact⟨aJ,jE.stop (dv _ _) aJ d_⟩
  .rw[kD f g (by simp[cG])];clear m j p f g d i;go_in;go_wp;exact⟨aJ,jE.stop (dv _ _) aJ d_⟩
  .rw[kD f g (by simp[cG,bS])];clear m j p f g d i;go_in;go_wp;exact⟨aJ,jE.stop (dv _ _) aJ d_⟩
  rw[kD f g (by simp[cG,bG])];clear m j p f g d i;go_in;go_wp;exact⟨aJ,jE.stop (dv _ _) aJ d_⟩
 .rcases j.cases with ⟨K,rfl,rfl,H,G⟩|⟨D,rfl,rfl⟩|⟨D,rfl,rfl⟩|⟨P,N,L,rfl,rfl,B⟩;.rw[kD f g (by simp[bS,bB])];clear m j p f g d i;go_in;go_wp;exact⟨aJ,jE.stop (dv _ _) aJ d_⟩
  .rw[kD f g (by simp[bS,cG])];clear m j p f g d i;go_in;go_wp;exact⟨aJ,jE.stop (dv _ _) aJ d_⟩
  .rw[Sw f g];rw[oI]at d i;have J:=O (Vl q F s D w Z);generalize OB q s D=r at*;clear m j p f g d i;go_in;go_wp;apply J.mono;rintro e M ⟨rfl,⟨o,u1,rfl,A⟩|⟨o,rfl⟩⟩;.have E:=O A;have C:=O o;obtain⟨T,S,rfl⟩:=A.form;clear A o;go_wp2;go_ret;exact jE.Du ⟨aJ,ea ⟨C,_,aJ,E⟩⟩
   have C:=O o;clear o;go_wp;exact⟨aJ,jE.Du ⟨aJ,dz ⟨C,aJ⟩⟩⟩
  rw[kD f g (by simp[bS,bG])];clear m j p f g d i;go_in;go_wp;exact⟨aJ,jE.stop (dv _ _) aJ d_⟩
 rcases j.cases with ⟨K,rfl,rfl,H,G⟩|⟨D,rfl,rfl⟩|⟨D,rfl,rfl⟩|⟨P,N,L,rfl,rfl,B⟩;.rw[kD f g (by simp[bG,bB])];clear m j p f g d i;go_in;go_wp;exact⟨aJ,jE.stop (dv _ _) aJ d_⟩
 .rw[kD f g (by simp[bG,cG])];clear m j p f g d i;go_in;go_wp;exact⟨aJ,jE.stop (dv _ _) aJ d_⟩
 .rw[kD f g (by simp[bG,bS])];clear m j p f g d i;go_in;go_wp;exact⟨aJ,jE.stop (dv _ _) aJ d_⟩
 rw[I2 f g];have J:=O (J7 q F x P c N l L w V B p Z);generalize DT q l L=r at*;clear m j p f g d i V B;go_in;go_wp;apply J.mono;rintro e M ⟨I,⟨o,u1,rfl,A⟩|⟨o,rfl⟩⟩;.have E:=O A;have C:=O o;have Q:=O I;obtain⟨T,S,rfl⟩:=A.form;clear A o I;go_wp2;go_ret;exact⟨Q,ea ⟨C,_,aJ,E⟩⟩
 have C:=O o;have Q:=O I;clear o I;go_wp;exact⟨aJ,Q,dz ⟨C,aJ⟩⟩
