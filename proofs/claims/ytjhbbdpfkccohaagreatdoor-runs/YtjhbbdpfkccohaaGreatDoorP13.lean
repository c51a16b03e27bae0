import Derived.Test.YtjhbbdpfkccohaaGreatDoorP11
import Derived.Test.YtjhbbdpfkccohaaGreatDoorP05
set_option linter.all false
set_option maxRecDepth 100000
set_option maxHeartbeats 4000000
open List renaming length->Ty
open Option renaming some->Ua
open Bool renaming false->Uc,true->Ud
open Go renaming Calls->Ue,Value->Uf,Addr->Uj
open Go.RowKit renaming Hid->Ul
open Go.Proofs.Tryz renaming prog->Un
open Go.Value renaming slice->Uq,string->Ur,iface->Uv,bool->Uw
namespace Go.Proofs.YtjhbbdpfkccohaaGreatDoor
open Hs
open _root_.Go.Proofs.Tryz
open Go.RowKit
variable{D:List Uf}{C:List aE}{J n:Nat}{a:Prop}{H:TypeId}{G b:aE}{I R:aN}{E:aW}{y:bN}{f:bP}
abbrev jD(k:Nat):Ending:=.panicked [{ v:=Uv 268 (I_ k),recovered:=Uc }]
def zg(R:Uf->aE->Prop)(F:bN)(w:aN)(sv:aW)(l:List aE):Prop:=
 (l=[]/\sv=bO)\/
 ∃g cap cur,sv=Uq (Ua (aL g 0)) (Ty l) cap/\F g/\w.heap[g]?=Ua (.cells cur 263)/\Ty l<=cap/\∀i (h:i<Ty l),∃u,cur[i]?=Ua u/\R u l[i]
def VR:Nat->(Nat->Prop)->World->Uf->aE->Prop
 |0,_,_,_,_=>False
 |d+1,F,w,v,a=>
  (∃n,v=Uv 261 (I_ n)/\a=bA n/\ -9223372036854775808<=n/\n<=9223372036854775807)\/
  (∃b,v=Uv 319 (Uw b)/\a=cG b)\/
  (∃s,v=Uv 321 (Ur (bs s))/\a=bQ s)\/
  (∃sv l,v=Uv 322 sv/\a=bG l/\zg (VR d F w) F w sv l)
theorem zg.mono{R S:Uf->aE->Prop}{F G:bN}{w:aN}{l:List aE}(h:zg R F w E l)(q:∀v a,R v a->S v a)(m:∀b,F b->G b):zg S G w E l:=by
 rcases h with h|⟨g,c,d,k,f,n,j,o⟩
 .exact ed h
 refine ec ⟨g,c,d,k,m _ f,n,j,λi p=>?_⟩
 grind
def zg.h_{R:Uf->aE->Prop}{w w':aN}{d:aW}(h:zg R y w d C)(k:∀b,y b->w'.heap[b]?=w.heap[b]?):zg R y w' d C:=by
 rcases h with h|⟨g,c,a,i,e,m,f,j⟩
 .exact ed h
 exact ec ⟨g,c,a,i,e,G_,f,j⟩
theorem VR.mono{F G:bN}{w:aN}(c:∀b,F b->G b):∀{d e:Nat} {v:aW} {a:aE},VR d F w v a->d<=e->VR e G w v a
 |0,_,_,_,h,_=>h.elim
 |d+1,0,_,_,_,h=>by omega
 |d+1,e+1,v,a,h,f=>by
  rcases h with h|h|h|⟨i,l,j,g,k⟩
  .exact ed h
  .exact ec (ed h)
  .grind [VR]
  exact ec (ec (ec ⟨i,l,j,g,k.mono (λ_ _ h=>VR.mono c h aD) c⟩))
def VR.h_{w w':aN}(c:∀b,y b->w'.heap[b]?=w.heap[b]?):∀{d:Nat} {v:aW} {a:aE},VR d y w v a->VR d y w' v a
 |0,_,_,h=>h.elim
 |d+1,v,a,h=>by
  rcases h with h|h|h|⟨f,l,g,e,i⟩
  .exact ed h
  .exact ec (ed h)
  .grind [VR]
  exact ec (ec (ec ⟨f,l,g,e,(i.mono (λ_ _ h=>VR.h_ c h) (s_)).h_ c⟩))
def PV(F:bN)(w:aN)(v:aW)(a:aE):Prop:=∃d,VR d F w v a
theorem PV.mono{F G:bN}{w:aN}{v:aW}{a:aE}(h:PV F w v a)(c:∀b,F b->G b):PV G w v a:=by obtain⟨d,h⟩:=h;exact⟨d,h.mono c (aD)⟩
theorem PV.h_{w w':aN}{v:aW}{a:aE}(h:PV y w v a)(c:∀b,y b->w'.heap[b]?=w.heap[b]?):PV y w' v a:=by obtain⟨d,h⟩:=h;exact⟨d,h.h_ c⟩
theorem PV.num(F:bN)(w:aN)(n:Int)(b: -9223372036854775808<=n)(a:n<=9223372036854775807):PV F w (Uv 261 (I_ n)) (bA n):=⟨1,(by grind [VR])⟩
theorem PV.xd(F:bN)(w:aN)(b:Bool):PV F w (Uv 319 (Uw b)) (cG b):=⟨1,(by grind [VR])⟩
theorem PV.str(F:bN)(w:aN)(s:bP):PV F w (Uv 321 (Ur (bs s))) (bQ s):=⟨1,(by grind [VR])⟩
def tw(F:bN)(w:aN)(sv:aW)(l:List aE):Prop:=zg (PV F w) F w sv l
theorem YF{F:bN}{w:aN}{cur:Array Uf}:∀(l:List aE) (o:Nat),(∀i (h:i<Ty l),∃u,cur[o+i]?=Ua u/\PV F w u l[i])->∃d,∀i (h:i<Ty l),∃u,cur[o+i]?=Ua u/\VR d F w u l[i]
 |[],_,_=>(by simp)
 |a::l,o,h=>by
  obtain⟨u,m,d,f⟩:=h 0 s_
  obtain⟨e,b⟩:=YF (F:=F) (w:=w) (cur:=cur) l (o+1) λi c=>by
   have:=h (i+1) G_
   grind
  refine⟨max d e,λi c=>?_⟩
  cases i with
  |zero=>grind [VR.mono]
  |succ i=>
   obtain⟨g,k,j⟩:=b i G_
   grind [VR.mono]
theorem PV.uw{F:bN}{l:List aE}(h:tw F R E l):PV F R (Uv 322 E) (bG l):=by
 rcases h with h|⟨g,c,a,i,e,k,f,j⟩
 .exact⟨1,ec ((by grind [zg]))⟩
 obtain⟨d,m⟩:=YF (cur:=a) l 0 (by simpa using j)
 exact⟨d+1,ec (ec (ec ⟨E,l,aJ,aJ,ec ⟨g,c,a,i,e,k,f,G_⟩⟩))⟩
theorem PV.cases{F:bN}{w:aN}{v:aW}{a:aE}(h:PV F w v a):
 (∃n,v=Uv 261 (I_ n)/\a=bA n/\ -9223372036854775808<=n/\n<=9223372036854775807)\/
 (∃b,v=Uv 319 (Uw b)/\a=cG b)\/
 (∃s,v=Uv 321 (Ur (bs s))/\a=bQ s)\/
 (∃x c l,v=Uv 322 (Uq x (Ty l) c)/\a=bG l/\tw F w (Uq x (Ty l) c) l):=by
 obtain⟨d,h⟩:=h;cases d with
 |zero=>exact h.elim
 |succ d=>
  rcases h with h|h|h|⟨o,l,j,f,e⟩
  .grind
  .grind
  .grind
  refine ec (ec (ec ?_));have i:tw F w o l:=e.mono (λ_ _ h=>⟨d,h⟩) (s_)
  rcases e with ⟨rfl,rfl⟩|⟨g,k,m,rfl,_⟩
  .exact⟨none,0,[],j,f,i⟩
  grind
def uC(F:bN)(v:aW)(a:aE)(w:aN)(h:PV F w v a):
 Ue Un 367 #[v] w λe d=>d=w/\((a.c_=1/\e=bY (Uw (decide (a.n=1))))\/(a.c_≠1/\e=jD 2)):=by
 rcases h.cases with ⟨n,rfl,rfl,_,_⟩|⟨b,rfl,rfl⟩|⟨s,rfl,rfl⟩|⟨x,c,l,rfl,rfl,_⟩
 .go_in
  go_wp2_with fail;exact⟨aJ,aJ,(by grind [bA])⟩
 .go_in
  go_wp2
  go_ret;exact⟨aJ,ed ⟨aJ,by cases b<;>rfl⟩⟩
 .go_in
  go_wp2_with fail;exact⟨aJ,aJ,(by grind [bQ])⟩
 go_in
 go_wp2_with fail;exact⟨aJ,aJ,(by grind [bG])⟩
def nS(F:bN)(w:aN)(r:aE × Nat)(e:Ending)(w':aN):Prop:=w'=w/\((r.2=0/\∃u,e=bY u/\PV F w u r.1)\/(r.2≠0/\e=jD r.2))
def nS.ok{r:aE × Nat}{F:bN}{u:aW}{a:aE}(b:r=(a,0))(h:PV F R u a):nS F R r (bY u) R:=by grind [nS]
def nS.stop{r:aE × Nat}{a:aE}(c:r=(a,n))(b:n≠0):nS y R r (jD n) R:=by grind [nS]
theorem PV.wrap(F:bN)(w:aN)(n:Int):PV F w (dH 261 (I_ (wrap64 n))) (bA (oP n)):=by grind [zK,PV.num,oP]
def Sr(a:bP)(F:bN)(x y:Int)(w:aN)(t: -9223372036854775808<=x)(s:x<=9223372036854775807)(A: -9223372036854775808<=y)(B:y<=9223372036854775807):
 Ue Un 379 #[Q_ (bs a),I_ x,I_ y] w (nS F w (jE a x y)):=by
 have f:=aX a;obtain⟨r,b⟩:∃r,r=jE a x y:=(by simp)
 rw[<-b];unfold jE at b;by_cases q:a=[43]
 .rw[ef q]at b;have g:((bs a).toList==[60])=Uc:=G_
  have i:((bs a).toList==[60,61])=Uc:=G_
  have e:((bs a).toList==[43])=Ud:=G_
  have d:((bs a).toList==[45])=Uc:=G_
  have c:((bs a).toList==[42])=Uc:=G_
  have j:=aB b;clear f b q;go_in
  go_wp2
  go_ret;exact nS.ok j (PV.wrap F w (x+y))
 rw[ea q]at b;have e:((bs a).toList==[43])=Uc:=G_
 clear q;by_cases m:a=[45]
 .rw[ef m]at b;have g:((bs a).toList==[60])=Uc:=G_
  have i:((bs a).toList==[60,61])=Uc:=G_
  have e:((bs a).toList==[43])=Uc:=aD;have d:((bs a).toList==[45])=Ud:=G_
  have c:((bs a).toList==[42])=Uc:=G_
  have j:=aB b;clear f b m;go_in
  go_wp2
  go_ret;exact nS.ok j (PV.wrap F w (x-y))
 rw[ea m]at b;have d:((bs a).toList==[45])=Uc:=G_
 clear m;by_cases l:a=[42]
 .rw[ef l]at b;have g:((bs a).toList==[60])=Uc:=G_
  have i:((bs a).toList==[60,61])=Uc:=G_
  have e:((bs a).toList==[43])=Uc:=aD;have d:((bs a).toList==[45])=Uc:=aD;have c:((bs a).toList==[42])=Ud:=G_
  have j:=aB b;clear f b l;go_in
  go_wp2
  go_ret;exact nS.ok j (PV.wrap F w (x*y))
 rw[ea l]at b;have c:((bs a).toList==[42])=Uc:=G_
 clear l;by_cases n:a=[60]
 .rw[ef n]at b;have g:((bs a).toList==[60])=Ud:=G_
  have i:((bs a).toList==[60,61])=Uc:=G_
  have e:((bs a).toList==[43])=Uc:=aD;have d:((bs a).toList==[45])=Uc:=aD;have c:((bs a).toList==[42])=Uc:=aD;have j:=aB b;clear f b n;go_in
  go_wp2
  go_ret;exact nS.ok j (PV.xd F w (decide (x<y)))
 rw[ea n]at b;have g:((bs a).toList==[60])=Uc:=G_
 clear n;by_cases o:a=[60,61]
 .rw[ef o]at b;have g:((bs a).toList==[60])=Uc:=aD;have i:((bs a).toList==[60,61])=Ud:=G_
  have e:((bs a).toList==[43])=Uc:=aD;have d:((bs a).toList==[45])=Uc:=aD;have c:((bs a).toList==[42])=Uc:=aD;have j:=aB b;clear f b o;go_in
  go_wp2
  go_ret;exact nS.ok j (PV.xd F w (decide (x<=y)))
 rw[ea o]at b;have i:((bs a).toList==[60,61])=Uc:=G_
 clear o;by_cases u:y=0
 .rw[ef u]at b;subst u;have j:=aB b;clear f b;go_in
  go_wp2_with fail;exact⟨aJ,nS.stop j d_⟩
 rw[ea u]at b;have C:(y==0)=Uc:=G_
 by_cases k:a=[47]
 .rw[ef k]at b;have z:((bs a).toList==[47])=Ud:=G_
  have j:=aB b;clear f b k;go_in
  go_wp2
  go_ret;exact nS.ok j (PV.wrap F w (x.tdiv y))
 rw[ea k]at b;have z:((bs a).toList==[47])=Uc:=G_
 have p:=TZ x y t s;rw[CW _ p.1 p.2]at b;have j:=aB b;have v:=aB p;clear f b k p;go_in
 go_wp2
 go_ret;exact nS.ok j (PV.num F w (x.tmod y) v.1 v.2)
def IR(o:UInt8)(m:o=45\/o=33)(F:bN)(v:aW)(a:aE)(w:aN)(h:PV F w v a):
 Ue Un 366 #[Q_ (bs [o]),v] w (nS F w (dI [o,120] a)):=by
 rcases m with rfl|rfl
 .have q:((bs [45]).toList==[33])=Uc:=by rw[aX];rfl
  rcases h.cases with ⟨n,rfl,rfl,A,z⟩|⟨b,rfl,rfl⟩|⟨s,rfl,rfl⟩|⟨x,c,l,rfl,rfl,_⟩
  .have k:=aB (Hs.xm (op:=[45,120]) (a:=bA n) aJ aJ);clear h;generalize dI [45,120] (bA n)=r at*;go_in
   go_wp2
   go_ret;exact nS.ok k (by have i:=PV.wrap F w (-n);rw[zK]at i;exact i)
  .clear h;go_in
   go_wp2_with fail;exact⟨aJ,(by grind [dI,cG,nS])⟩
  .clear h;go_in
   go_wp2_with fail;exact⟨aJ,(by grind [dI,bQ,nS])⟩
  clear h;go_in
  go_wp2_with fail;exact⟨aJ,(by grind [dI,bG,nS])⟩
 have q:((bs [33]).toList==[33])=Ud:=by rw[aX];rfl
 have y:=aB (uC F v a w h);obtain⟨r,g⟩:∃r,r=dI [33,120] a:=(by simp)
 rw[<-g];have B:=aB g
 have d:∃t u,v=dH t u:=by grind [PV.cases]
 obtain⟨t,u,rfl⟩:=d;have C:=aB h.cases;clear h g;go_in
 go_wp2_with fail;apply y.mono
 rintro e j ⟨rfl,⟨f,rfl⟩|⟨f,rfl⟩⟩
 .have p:=aB f;clear f;go_wp2
  go_ret;refine nS.ok (a:=cG (!decide (a.n=1))) ?_ (PV.xd F j (!decide (a.n=1)));grind [d7,dI,bA,bQ,bG,cG]
 have p:=aB f;clear f;go_wp2_with fail;exact⟨aJ,(by grind [d7,dI,nS])⟩
def tw.get{x:Option Uj}(h:tw y R (Uq x n J) C)(i:Nat)(d:i<Ty C):∃g u,x=Ua (aL g 0)/\n=Ty C/\y g/\g<R.heap.size/\Ty C<=J/\R.cell? (aL g i)=Ua u/\PV y R u C[i]:=by
 rcases h with ⟨rfl,_⟩|⟨g,a,b,j,e,m,f,k⟩
 .simp at d
 grind [aA]
theorem PV.form(h:PV y R E G):∃t u,E=Uv t u:=by rcases h.cases with ⟨n,rfl,_⟩|⟨b,rfl,_⟩|⟨s,rfl,_⟩|⟨x,c,l,rfl,_⟩<;>exact⟨_,_,aJ⟩
theorem tw.h_{w w':aN}(h:tw y w E C)(a:∀b,y b->w'.heap[b]?=w.heap[b]?):tw y w' E C:=(zg.mono h (λ_ _ h=>h.h_ a) (s_)).h_ a
def tw.mono{F G:bN}{w:aN}{a:aW}{l:List aE}(h:tw F w a l)(c:∀b,F b->G b):tw G w a l:=(by grind [zg.mono,PV.mono,tw])
def Re(n:Int):aK (bA n)=1:=by rw[dE];simp[bA]
def Fe(b:Bool):aK (cG b)=1:=by rw[dE];simp[cG]
theorem oK(s:bP):aK (bQ s)=1+Ty s:=by rw[dE];simp[bQ]
theorem mE(l:List aE):aK (bG l)=1+(l.map aK).sum:=by rw[dE];simp[bG]
theorem pT(h:G∈C):aK G<=(C.map aK).sum:=by
 induction C with
 |nil=>cases h
 |cons x C b=>
  grind
theorem yB(a:aE):1<=aK a:=by rw[dE];exact aD
def mZ(l:List aE):Ty l<=(l.map aK).sum:=by
 induction l with
 |nil=>simp
 |cons x l a=>grind [yB]
def GD(F:bN)(k:Nat):Prop:=∀(v:aW) (a:aE) (w:aN),PV F w v a->aK a<=k->k<=1000000000->Ue Un 354 #[v] w λe w'=>w'=w/\e=bY (I_ (aK a:Nat))
def VG(F:bN)(k:Nat)(d:GD F k):GD F (k+1):=by
 intro v a w h o M;rcases h.cases with ⟨n,rfl,rfl,N,K⟩|⟨b,rfl,rfl⟩|⟨s,rfl,rfl⟩|⟨x,c,l,rfl,rfl,C⟩
 .rw[Re];clear h d o;go_in
  go_wp2
  go_ret;simp
 .rw[Fe];clear h d o;go_in
  go_wp2
  go_ret;simp
 .have S:(bs s).size=Ty s:=iT s;rw[oK]at o ⊢
  clear h d;go_in
  go_wp2
  go_ret;simp
 have B:=mZ l;rw[mE]at o ⊢
 have y:=aB d;have H:=aB C;clear h d C;go_in
 go_wp2
 go_loopg [5,7,20] (Ty l) (λgk s _ i wr=>∃j:Nat,j+gk=Ty l/\i=I_ j/\s=I_ ((1+((l.map aK).take j).sum:Nat):Int)/\wr=w)
 case atStart=>simp
 case round=>
  obtain⟨j,U,rfl,rfl,rfl⟩:=hrel;by_cases p:j<Ty l
  .obtain⟨m,rfl⟩:∃m,gk=m+1:=⟨gk-1,aD⟩;obtain⟨g,u,rfl,T,Q,L,A,r,z⟩:=H.get j p;have f:l[j]∈l:=(by simp)
   have D:=pT f;have I:=aB (y u l[j] wr z aD aD);obtain⟨t,P,rfl⟩:=z.form
   have E:((l.map aK).take (j+1)).sum=((l.map aK).take j).sum+aK l[j]:=by grind [List.take_succ_eq_append_getElem]
   have G:((l.map aK).take (j+1)).sum<=(l.map aK).sum:=by grind [List.take_append_drop]
   generalize aK l[j]=O at*;clear z;go_wp2_with fail;apply I.mono
   rintro e J ⟨rfl,rfl⟩;go_wp2
   go_roundg m
   case measure=>exact aD
   grind
  have q:j=Ty l:=aD;subst q;go_wp2
  go_ret;exact⟨aJ,by rw[hQ s_];rfl⟩
def IY(F:bN):∀k,GD F k
 |0=>(by grind [yB,GD])
 |k+1=>VG F k (IY F k)
def qZ(F:bN)(v:aW)(a:aE)(w:aN)(h:PV F w v a)(g:aK a<=1000000000):
 Ue Un 352 #[v] w λe d=>d=w/\((aK a<=200/\e=bY v)\/(200<aK a/\e=jD 6)):=by
 have b:=aB (IY F 1000000000 v a w h g (aD));generalize aK a=n at*;by_cases f:n<=200
 .go_in
  go_wp2_with fail;apply b.mono
  rintro e c ⟨rfl,rfl⟩;go_wp2
  go_ret;exact⟨aJ,ed ⟨f,aJ⟩⟩
 go_in
 go_wp2_with fail;apply b.mono
 rintro e c ⟨rfl,rfl⟩;go_wp2_with fail;exact⟨aJ,aJ,G_⟩
def zV(F:bN)(v:aW)(a:aE)(n:Nat)(w:aN)(h:PV F w v a)(_hn:n<=1000000000):
 Ue Un 355 #[v,I_ n] w λe d=>d=w/\((a.c_≠0/\e=jD 2)\/(a.c_=0/\(a.n<0\/(n:Int)<=a.n)/\e=jD 4)\/(a.c_=0/\∃k:Nat,k<n/\a.n=k/\e=bY (I_ k))):=by
 rcases h.cases with ⟨m,rfl,rfl,o,j⟩|⟨b,rfl,rfl⟩|⟨s,rfl,rfl⟩|⟨x,c,l,rfl,rfl,_⟩
 .clear h;by_cases p:m<0
  .have i:decide (m<0)=Ud:=(by grind)
   go_in
   go_wp2_with fail;exact⟨aJ,aJ,(by grind [bA])⟩
  have i:decide (m<0)=Uc:=(by grind)
  by_cases f:(n:Int)<=m
  .have g:decide ((n:Int)<=m)=Ud:=(by grind)
   go_in
   go_wp2_with fail;exact⟨aJ,aJ,(by grind [bA])⟩
  have g:decide ((n:Int)<=m)=Uc:=(by grind)
  go_in
  go_wp2
  go_ret;exact⟨aJ,ec (ec ⟨aJ,m.toNat,aD,by show m=_;exact aD,by rw[Int.toNat_of_nonneg aD];rfl⟩)⟩
 .clear h;go_in
  go_wp2_with fail;exact⟨aJ,aJ,(by grind [cG])⟩
 .clear h;go_in
  go_wp2_with fail;exact⟨aJ,aJ,(by grind [bQ])⟩
 clear h;go_in
 go_wp2_with fail;exact⟨aJ,aJ,(by grind [bG])⟩
def QK(F:bN)(x:Option Uj)(c:Nat)(l:List aE)(w:aN)(h:tw F w (Uq x (Ty l) c) l)(d:aK (bG l)<=1000000000):
 Ue Un 362 #[Uq x (Ty l) c] w λe b=>b=w/\((aK (bG l)<=200/\e=bY (Uv 322 (Uq x (Ty l) c)))\/(200<aK (bG l)/\e=jD 6)):=by
 have f:=aB (qZ F _ _ w (PV.uw h) d);go_in
 go_wp2_with fail;apply f.mono
 rintro e g ⟨rfl,⟨a,rfl⟩|⟨a,rfl⟩⟩
 .go_wp2
  go_ret;exact⟨aJ,ed ⟨a,aJ⟩⟩
 exact⟨aJ,aJ,G_⟩
noncomputable def NH(op:bP)(a b:bP):aE × Nat:=
 if op=[60]then (cG (fE a b),0)
 else if op=[60,61]then (cG (!fE b a),0)
 else if op=[43]then (if 200<aK (bQ (a++b))then (aY,6)else (bQ (a++b),0))
 else (aY,2)
def Ht(f:bP)(F:bN)(a b:bP)(w:aN)(s:Ty a+Ty b<=1000000):
 Ue Un 380 #[Q_ (bs f),Q_ (bs a),Q_ (bs b)] w (nS F w (NH f a b)):=by
 have c:=aX f;obtain⟨r,d⟩:=E_ (NH f a b);rw[<-d];unfold NH at d;by_cases i:f=[60]
 .rw[ef i]at d;have q:((bs f).toList==[60])=Ud:=by rw[c,i];rfl
  have j:Ul (Op.bytesLess (bs a).toList (bs b).toList=fE a b):=by show _=_;rw[aX,aX,pV]
  have g:=aB d;clear c d i;generalize fE a b=u at*;go_in
  go_wp2
  go_ret;exact nS.ok g (by rw[<-j];exact PV.xd F w _)
 rw[ea i]at d;have q:((bs f).toList==[60])=Uc:=by rw[c];simpa using i
 by_cases k:f=[60,61]
 .rw[ef k]at d;have x:((bs f).toList==[60,61])=Ud:=by rw[c,k];rfl
  have j:Ul ((Op.bytesLess (bs a).toList (bs b).toList || (bs a).toList==(bs b).toList)= !fE b a):=by show _=_;rw[aX,aX,pV,DV]
  have g:=aB d;clear c d i k;generalize fE b a=u at*;go_in
  go_wp2
  go_ret;exact nS.ok g (by rw[<-j];exact PV.xd F w _)
 rw[ea k]at d;have x:((bs f).toList==[60,61])=Uc:=by rw[c];simpa using k
 by_cases l:f=[43]
 .rw[ef l]at d;have v:((bs f).toList==[43])=Ud:=by rw[c,l];rfl
  have m:=oK (a++b);have y:=aB (qZ F (dH 321 (Q_ (bs (a++b)))) _ w (PV.str F w (a++b)) (by rw[m,ew];exact aD))
  have g:=aB d;have t:=iT;clear c d i k l m;go_in
  go_wp2_with fail;apply y.mono
  rintro e p ⟨rfl,⟨n,rfl⟩|⟨n,rfl⟩⟩
  .have o:Ul (r=(bQ (a++b),0)):=by show _=_;rw[g,ea aD]
   clear n g;go_wp2
   go_ret;exact nS.ok o (PV.str F p (a++b))
  have o:Ul (r=(aY,6)):=by show _=_;rw[g,ef n]
  clear n g;go_wp2_with fail;exact⟨aJ,nS.stop o d_⟩
 rw[ea l]at d;have v:((bs f).toList==[43])=Uc:=by rw[c];simpa using l
 have g:=aB d;clear c d i k l;go_in
 go_wp2_with fail;exact⟨aJ,nS.stop g d_⟩
def rV:(prog.info? 263).map (λi=>(i.zero,i.size,i.bytes))=Ua (Ua .nilIface,1,16):=k_
def DF{P:Program}(w:aN)(t u r e:TypeId)(i:TypeInfo)(z:aW)(j:P.underlying t=Ua (.slice e))(q:P.underlying u=Ua (.int .i64))(s:P.info? e=Ua i)(o:i.zero=Ua z)(m:i.size=1)
 (n:Nat) (k:0<n) (v:n<=1000000000) (l:i.bytes<=64):
 (Builtin.append_ #[t,u] r #[bO,I_ n]).run P w=
   .ok (P_ (Ua (aL (H_ w) 0)) n (grownCap w n 0 e)) (eH w.drew (Builtin.zeroCells z.cells n++Builtin.zeroCells z.cells (grownCap w n 0 e-n)) e):=by
 have g:n≠0:=aD;have h:n*i.bytes<=1000000000*64:=Nat.mul_le_mul v l;have d:¬(281474976710656<Builtin.nextslicecap n 0*i.bytes):=by rw[nextslicecap_zero k];exact aD
 have f:¬(9223372036854775807<(n:Int)):=aD
 have p:IntKind.i64.wrap (n:Int)=n:=by rw[IntKind.wrap_i64];exact aD
 have c:¬(281474976710656<(n:Int)*(i.bytes:Int)):=by exact aD
 have b:¬((n:Int)<0):=aD;have a:max (n:Int) 0=n:=aD;simp[Builtin.append_,run_underlying j,run_underlying q,sizeOf,typeInfo,zeroValue,s,o,m,p,asInt,asIntOf,b,a,g,f,d,c,Question.forced,run_firstCells_none,newRow,grownCap]
def yG{P:Program}{c:Array Oper}{b:List Oper}{o:Oper}{a:Act}{Q:Exit->Act->World->Prop}(f:o.guard=none)(s x:Operand)(t u:TypeId)
 (q:o.op=.call { callee:=.builtin .append,args:= #[s,x],argTypes:= #[t,u] })
 (e:TypeId) (i:TypeInfo) (z:aW) (g:P.underlying t=Ua (.slice e)) (r:P.underlying u=Ua (.int .i64)) (y:P.info? e=Ua i) (p:i.zero=Ua z) (l:i.size=1)
 (n:Nat) (j:0<n) (B:n<=1000000000) (k:i.bytes<=64) (v:a.eval s=bO) (A:a.eval x=I_ n)
 (h:wpList P c Q b (a.put o.dst (P_ (Ua (aL (H_ R) 0)) n (grownCap R n 0 e))) (eH R.drew (Builtin.zeroCells z.cells n++Builtin.zeroCells z.cells (grownCap R n 0 e-n)) e)):wpList P c Q (o::b) a R:=by
 refine wpList_plain f λK m=>?_
 have d:=DF (P:=P) R t u o.type e i z g r y p l n j B k;unfold Oper.wp;simp[execOp,q,resolve,invoke,builtin,v,A,d];exact m _ _ h
def Kc(n:Nat)(o:n<=1000000)(w:aN):
 Ue Un 384 #[bO,I_ n] w λe g=>∃v,e=bY v/\g.ownsRow (H_ w) 263 1 v 0 []/\R_ w g:=by
 obtain⟨i,m,c,d,j⟩:=info_parts rV;rcases jn n with rfl|k
 .go_in
  go_wp2
  go_ret;exact⟨_,aJ,World.ownsRow_nil _ _ _ _,dz _ _⟩
 have b:=grownCap_ge w n 0 263;have a:=grownCap_le_maxLen w n 0 263 kk
 generalize l:grownCap w n 0 263=f at b a;go_in
 go_wp2_with (refine yG r_ _ _ 322 3 r_ 263 i .nilIface underlying322 underlying3 m c d n k aD aD r_ r_ ?_)
 go_ret;refine⟨_,aJ,⟨aJ,ec ⟨H_ w,f,_,aJ,aD,aZ _ _ rfl _,aD,a,?_,rfl⟩⟩,?_⟩
 .grind [size_zeroCells]
 exact((dz _ _).drew).alloc s_ _
def iE(F:bN)(w:aN)(xs:List Uf)(l:List aE):Prop:=Ty xs=Ty l/\∀i (h:i<Ty l),∃u,xs[i]?=Ua u/\PV F w u l[i]
def iE.nil(F:bN)(w:aN):iE F w [] []:=(by grind [iE])
theorem iE.h_{w w':aN}{a:List Uf}(h:iE y w a C)(c:∀b,y b->w'.heap[b]?=w.heap[b]?):iE y w' a C:=
 (by grind [PV.h_,iE])
theorem iE.mono{F G:bN}{w:aN}{a:List Uf}{l:List aE}(h:iE F w a l)(c:∀b,F b->G b):iE G w a l:=
 (by grind [PV.mono,iE])
def iE.append{a:List Uf}{m:List aE}(h:iE y R D C)(k:iE y R a m):iE y R (D++a) (C++m):=by
 refine⟨by simp[h.1,k.1],λi e=>?_⟩
 rcases gz i (Ty C) with c|c
 .grind [iE]
 have d:i-Ty C<Ty m:=G_
 grind [iE]
def tw.row(h:tw y R E C):(C=[]/\E=bO)\/∃g a d,E=Uq (Ua (aL g 0)) (Ty C) a/\y g/\g<R.heap.size/\iE y R d C/\∀j u,d[j]?=Ua u->R.cell? (aL g j)=Ua u:=by
 rcases h with h|⟨g,a,b,f,e,o,m,n⟩
 .grind
 have k:Ty C<=b.size:=by grind
 refine ec ⟨g,a,b.toList.take (Ty C),f,e,G_,⟨G_,λi p=>?_⟩,λj u q=>?_⟩
 .grind
 grind [aA]
theorem tw.ofRow{F:bN}{b_:Nat}{xs:List Uf}{l:List aE}(h:R.ownsRow b_ 263 1 E (Ty l) xs)(p:iE F R xs l)(f:∀k,E.ownBlock=Ua k->F k):tw F R E l:=by
 rcases h.2 with ⟨a,j⟩|⟨g,b,c,a,j,d,e,o,m,n⟩
 .exact ed G_
 refine ec ⟨g,b,c,a,f g (by rw[a];rfl),d,e,λi q=>?_⟩
 grind [iE]
def tM(h:iE y R D C):∀u∈D,u.oneCell'=Ud:=by
 intro u d;obtain⟨j,b,rfl⟩:=ju.1 d;obtain⟨g,a,f⟩:=h.2 j (by rw[<-h.1];exact b)
 rw[fe b]at a;cases a;obtain⟨t,z,e⟩:=f.form;rw[e];rfl
def KJ{q:Array Oper}{f:List Oper}{o:Oper}{a:Act}{Q:Exit->Act->World->Prop}(p:o.guard=none)(s x:Operand)(t:TypeId)(E:prog.underlying t=Ua (.slice 263))
 (J:o.op=.call { callee:=.builtin .append,args:= #[s,x],argTypes:= #[t,t] })
 (c:Nat) (v:aW) (l m:List aE) (n:List Uf) (F:bN) (L:a.eval s=v) (e:R.ownsRow c 263 1 v (Ty l) n) (O:iE F R n l)
 (K:aW) (N:a.eval x=K) (P:tw F R K m) (U:∀b,F b->b<H_ R/\v.ownBlock≠Ua b) (H:Ty l+Ty m<=1000000000) (j:c<=H_ R)
 (h:∀u i r,i.ownsRow c 263 1 u (Ty (l++m)) r->iE F i r (l++m)->R.grownBy i v.ownBlock->wpList Un q Q f (a.put o.dst u) i):
 wpList Un q Q (o::f) a R:=by
 obtain⟨I,M,y,A,C⟩:=info_parts rV;rcases P.row with ⟨rfl,rfl⟩|⟨g,z,r,rfl,T,S,d,B⟩
 .refine wpList_append_own_none p s x t J c 263 I 1 E M v (Ty l) n L e N ?_;exact h v R n G_ G_ ⟨rfl,rfl,rfl,aD,s_⟩
 refine wpList_append_own _ p s x t J c 263 I _ 1 16 E M y A C aJ d_ v (Ty l) n L e (aL g 0) (Ty m) z r N (by rw[d.1];exact aD) ((by grind [Addr.add_lit])) (tM d) kk aD j ?_
 intro u i D k _;have G:∀b,F b->i.heap[b]?=R.heap[b]?:=(by grind [World.grownBy.block])
 exact h u i (n++r) G_ ((O.h_ G).append (d.h_ G)) k
def pY(F:bN)(w:aN)(ls:List aE)(v:aW)(wr:aN):Prop:=
 ∃ys,wr.ownsRow w.heap.size 263 1 v (Ty ls) ys/\iE F wr ys ls/\R_ w wr
theorem pY.step{a:aN}{b:List aE}{d:aW}(h:pY y R b E I)(e:a.ownsRow (H_ R) 263 1 d (Ty (b++C)) D)(f:iE y a D (b++C))(g:I.grownBy a E.ownBlock):pY y R (b++C) d a:=by grind [Below.grown,Below.size,bX,pY]
theorem fW{b_:Nat}(h:R.ownsRow b_ H J E n D):∃x c,E=Uq x n c:=by
 rcases h.2 with ⟨d,f⟩|⟨g,e,a,d,_⟩
 .grind
 grind
def VE(F:bN)(b:Nat)(x y:Option Uj)(c d:Nat)(l m:List aE)(w:aN)(H:w.heap[b]?=Ua (cD #[P_ x (Ty l) c,P_ y (Ty m) d] 322))(hl:tw F w (P_ x (Ty l) c) l)(hm:tw F w (P_ y (Ty m) d) m)(Z:∀k,F k->k<H_ w)(ac:Ty l+Ty m<=1000000):
 Ue Un 383 #[P_ (Ua (aL b 0)) 2 2] w λe v=>∃C,e=bY C/\pY F w (l++m) C v:=by
 have j:=aH H;have U:=aA H (i:=0) aJ;have V:=aA H (i:=1) aJ;have HL:=aB hl;have HM:=aB hm;have X:=aB Z;have Y:=aB (Kc (Ty l+Ty m) aD w);have O:=aB H;clear hl hm Z H;go_in
 go_wp2
 go_loopg [3,5,11] 2 (λgk s _ i wr=>wr=w/\((gk=2/\i=I_ 0/\s=I_ 0)\/(gk=1/\i=I_ 1/\s=I_ (Ty l:Nat))\/(gk=0/\i=I_ 2/\s=I_ ((Ty l+Ty m:Nat):Int))))
 case atStart=>simp
 case round=>
  obtain⟨hw,hrel⟩:=hrel;obtain rfl:=hw.symm;rcases hrel with ⟨rfl,rfl,rfl⟩|⟨rfl,rfl,rfl⟩|⟨rfl,rfl,rfl⟩
  .have e:decide ((Ty l:Int)<0)=Uc:=(by simp)
   go_wp2
   go_roundg 1
   case measure=>exact aD
   simp
  .have e:decide ((Ty l:Int)+(Ty m:Int)<0)=Uc:=(by grind)
   go_wp2
   go_roundg 0
   case measure=>exact aD
   simp
  go_wp2_with fail;apply Y.mono
  rintro e w1 ⟨v1,rfl,f,N⟩
  obtain⟨x1,Q,rfl⟩:∃x c,v1=P_ x 0 c:=by
   rcases f.2 with ⟨r1,_⟩|⟨g,aa,ab,r1,_⟩
   .grind
   grind
  have T:Ul (pY F w [] (P_ x1 0 Q) w1):=⟨[],f,iE.nil _ _,N⟩;clear f N Y U V;go_wp2
  go_loopg [6,8,27] 2 (λgk s _ i S=>(gk=2/\i=I_ 0/\pY F w [] s S)\/(gk=1/\i=I_ 1/\pY F w l s S)\/(gk=0/\i=I_ 2/\pY F w (l++m) s S))
  case atStart=>grind [d7]
  case round=>
   rcases hrel with ⟨rfl,rfl,u⟩|⟨rfl,rfl,u⟩|⟨rfl,rfl,u⟩
   .have q:=u;obtain⟨P,t,M,a⟩:=u;obtain⟨D,E,rfl⟩:=fW t;have U:dP wr b 0 (P_ x (Ty l) c):=aA ((a.block b j).trans O) aJ;have V:dP wr b 1 (P_ y (Ty m) d):=aA ((a.block b j).trans O) aJ;have J:b<H_ wr:=ej j a.size;have L:=aB t;have K:=aB M;have o:=aB a;have B:=aB q;have n:=aB (HL.h_ (w':=wr) λk I=>a.block k (X k I))
    have r:Ul (∀k,F k->k<H_ wr/\(Value.slice D (Ty ([]:List aE)) E).ownBlock≠Ua k):=λk I=>(by grind [Nat.lt_of_lt_of_le,d7,Below.size,bX])
    clear t M a q T;go_wp2_with (at_builtin;refine KJ r_ _ _ 322 underlying322 r_ (H_ w) (P_ D (Ty ([]:List aE)) E) ([]:List aE) l P F r_ L K _ r_ n r G_ o.size ?_)
    intro C v W p z A;have G:Ul (pY F w (([]:List aE)++l) C v):=(by grind [pY.step,d7])
    obtain⟨x',c',rfl⟩:=fW p;clear p z A L K n r o B;go_wp2
    go_roundg 1
    case measure=>exact aD
    grind [d7]
   .have q:=u;obtain⟨P,t,M,a⟩:=u;obtain⟨D,E,rfl⟩:=fW t;have U:dP wr b 0 (P_ x (Ty l) c):=aA ((a.block b j).trans O) aJ;have V:dP wr b 1 (P_ y (Ty m) d):=aA ((a.block b j).trans O) aJ;have J:b<H_ wr:=ej j a.size;have L:=aB t;have K:=aB M;have o:=aB a;have B:=aB q;have n:=aB (HM.h_ (w':=wr) λk I=>a.block k (X k I))
    have r:Ul (∀k,F k->k<H_ wr/\(Value.slice D (Ty (l)) E).ownBlock≠Ua k):=λk I=>(by grind [Nat.lt_of_lt_of_le,d7,Below.size,bX])
    clear t M a q T;go_wp2_with (at_builtin;refine KJ r_ _ _ 322 underlying322 r_ (H_ w) (P_ D (Ty (l)) E) (l) m P F r_ L K _ r_ n r aD o.size ?_)
    intro C v W p z A;have G:Ul (pY F w (l++m) C v):=(by grind [pY.step,d7,iE])
    obtain⟨x',c',rfl⟩:=fW p;clear p z A L K n r o B;go_wp2
    go_roundg 0
    case measure=>exact aD
    case rel=>exact ec (ec ⟨aJ,aJ,G⟩)
   have HC:=aB u;obtain⟨P,t,_⟩:=u;obtain⟨D,E,rfl⟩:=fW t;clear t T;go_wp2
   go_ret;exact⟨_,aJ,HC⟩
def jA(F:bN)(w:aN)(r:aE × Nat)(e:Ending)(w':aN):Prop:=R_ w w'/\((r.2=0/\∃u,e=bY u/\PV (Grow F w w') w' u r.1)\/(r.2≠0/\e=jD r.2))
def jA.ok{r:aE × Nat}{F:bN}{b:aN}{u:aW}{a:aE}(d:R_ R b)(c:r=(a,0))(h:PV (Grow F R b) b u a):jA F R r (bY u) b:=by grind [jA]
def jA.stop{r:aE × Nat}{a:aE}(e:R_ R I)(d:r=(a,n))(c:n≠0):jA y R r (jD n) I:=by grind [jA]
noncomputable def DK(op:bP)(l m:List aE):aE × Nat:=if op=[43]then (if 200<aK (bG (l++m))then (aY,6)else (bG (l++m),0))else (aY,2)
def GK(Y_:a:=by go_wp2_with fail;exact⟨aJ,(by grind [d7,jA])⟩):a:=Y_
def F3(a:bP)(F:bN)(x y:Option Uj)(c d:Nat)(l m:List aE)(w:aN)(H:tw F w (P_ x (Ty l) c) l)(I:tw F w (P_ y (Ty m) d) m)(D:∀k,F k->k<H_ w)(S:aK (bG l)+aK (bG m)<=1000000):
 Ue Un 381 #[Q_ (bs a),P_ x (Ty l) c,P_ y (Ty m) d] w (jA F w (DK a l m)):=by
 have q:=aX a;obtain⟨r,f⟩:∃r,r=DK a l m:=(by simp)
 rw[<-f];unfold DK at f;by_cases v:a=[43]
 .rw[ef v]at f;have K:((bs a).toList==[43])=Ud:=G_
  have C:((bs a).toList != [43])=Uc:=G_
  have L:=mZ l;have O:=mZ m;rw[mE,mE]at S;have P:aK (bG (l++m))=1+((l.map aK).sum+(m.map aK).sum):=by grind [mE]
  have i:R_ w (eH w #[P_ x (Ty l) c,P_ y (Ty m) d] 322):=(by grind [ep,dz])
  have J:=aB (VE F (H_ w) x y c d l m (eH w #[P_ x (Ty l) c,P_ y (Ty m) d] 322) (aZ _ _ aJ _) ((by grind [tw.h_,eg])) ((by grind [tw.h_,eg])) (λk o=>ej (D k o) i.size) aD)
  have g:=aB i;have B:=aB f;clear q f v H I D i;go_in
  go_wp2_with fail;apply J.mono
  rintro e u ⟨T,rfl,U,s,p,t⟩;obtain⟨Q,M,rfl⟩:=fW s;have b:=g.trans (t.mono g.size);have j:tw (Grow F w u) u (P_ Q (Ty (l++m)) M) (l++m):=tw.ofRow s (p.mono λk o=>ed o) λk o=>ec ⟨by have:=bX s k o;have:=g.size;exact aD,eG s k o⟩
  have N:=aB (qZ (Grow F w u) _ _ u (PV.uw j) aD);have A:=aB j;have E:=aB b;clear s p t b j J;generalize (Ty (l++m))=n at*;go_wp2_with fail;apply N.mono
  rintro e V ⟨rfl,⟨z,rfl⟩|⟨z,rfl⟩⟩
  .have G:Ul (r=(bG (l++m),0)):=G_
   clear z B;go_wp2
   go_ret;exact jA.ok E G (PV.uw A)
  have G:Ul (r=(aY,6)):=G_
  clear z B;exact GK
 rw[ea v]at f;have K:((bs a).toList==[43])=Uc:=G_
 have C:((bs a).toList != [43])=Ud:=G_
 have B:=aB f;clear q f v H I D;go_in
 go_wp2_with fail;exact⟨aJ,(by grind [dz,d7,jA])⟩
theorem lY{a:Uj}(o:Obj)(h:R.cell? a=Ua E):(R.alloc o).cell? a=Ua E:=by grind [World.block_lt_of_cell?,World.cell?_of_block,eh]
def MP(g d n c:Nat)(b:List Uf)(w:aN)(z:Ty b=n*1)(C:n<=1000000)(D:∀j u,b[j]?=Ua u->dP w g (d+j) u)(v:∀u∈b,u.oneCell'=Ud):
 Ue Un 356 #[P_ (Ua (aL g d)) n c] w λe p=>∃k,e=bY k/\p.ownsRow w.heap.size 263 1 k n b/\R_ w p:=by
 obtain⟨x,A,l,m,o⟩:=info_parts rV;have t:∀(w:aN) (a:Option Uj) (n c q r:Nat),(binOp .eql 322 (P_ a n c) (P_ none q r)).run Un w=.ok (Uw a.isNone) w:=(by grind [Lib.run_eql_slice_nil,underlying322])
 go_in
 go_wp2_with (refine wpList_append_own _ r_ _ _ 322 r_ w.heap.size 263 x _ 1 16 underlying322 A l m o rfl d_ (P_ (Ua (aL w.heap.size 0)) 0 0) 0 [] r_ (ng) (aL g d) n c b r_ z (nn) v kk aD s_ ?_)
 intro k B i f _;have y:=aB i;have s:=aB f;go_wp2
 go_ret;refine⟨_,aJ,by simpa using y.out,?_⟩
 exact((dz _ w).alloc (aD) _).grown s.out s_ nc
def yY(g d n c:Nat)(b:List Uf)(w:aN)(z:Ty b=n*1)(C:n<=1000000)(D:∀j u,b[j]?=Ua u->dP w g (d+j) u)(v:∀u∈b,u.oneCell'=Ud):
 Ue Un 276 #[P_ (Ua (aL g d)) n c] w λe p=>∃k,e=bY k/\p.ownsRow w.heap.size 263 1 k n b/\R_ w p:=by
 obtain⟨x,A,l,m,o⟩:=info_parts rV;have t:∀(w:aN) (a:Option Uj) (n c q r:Nat),(binOp .eql 109 (P_ a n c) (P_ none q r)).run Un w=.ok (Uw a.isNone) w:=(by grind [Lib.run_eql_slice_nil,underlying109])
 go_in
 go_wp2_with (refine wpList_append_own _ r_ _ _ 109 r_ w.heap.size 263 x _ 1 16 underlying109 A l m o rfl d_ (P_ (Ua (aL w.heap.size 0)) 0 0) 0 [] r_ (ng) (aL g d) n c b r_ z (nn) v kk aD s_ ?_)
 intro k B i f _;have y:=aB i;have s:=aB f;go_wp2
 go_ret;refine⟨_,aJ,by simpa using y.out,?_⟩
 exact((dz _ w).alloc (aD) _).grown s.out s_ nc
def yX(w:aN):
 Ue Un 276 #[bO] w λe d=>e=bY (bO)/\d=w:=by
 have f:∀(w:aN) (a:Option Uj) (n c b g:Nat),(binOp .eql 109 (P_ a n c) (P_ none b g)).run Un w=.ok (Uw a.isNone) w:=(by grind [Lib.run_eql_slice_nil,underlying109])
 go_in
 go_wp2
 go_ret;simp
def ZF(F:bN)(w:aN)(sv:aW)(l:List aE):Prop:=
 (l=[]/\∃x c,sv=Uq x 0 c)\/∃g o c,sv=Uq (Ua (aL g o)) (Ty l) c/\Ty l<=c/\g<w.heap.size/\∀i (h:i<Ty l),∃u,w.cell? (aL g (o+i))=Ua u/\PV F w u l[i]
def ZF.below{a:aN}{b:aW}(h:ZF y R b C)(j:R_ R a)(p:∀k,y k->k<R.heap.size):ZF y a b C:=by
 rcases h with h|⟨g,o,c,e,d,f,m⟩
 .exact ed h
 refine ec ⟨g,o,c,e,d,ej f j.size,λi n=>?_⟩
 grind [Below.cell,PV.h_,eg]
def CE{a:aE}:cI (G::C) a b=if a.c_≠3\/G.c_≠0 then (aY,2)else if G.n<0\/(Ty a.l:Int)<=G.n then (aY,4)else if (cI C (a.l.getD G.n.toNat aY) b).2≠0 then (aY,(cI C (a.l.getD G.n.toNat aY) b).2)else (bG (a.l.set G.n.toNat (cI C (a.l.getD G.n.toNat aY) b).1),0):=by rw[cI]
def Jg{g b k:Nat}{u:aW}(h:R.ownsRow J H 1 (P_ (Ua (aL g 0)) n b) n D)(_hk:k<n):
 (R.setCell (aL g k) u).ownsRow J H 1 (P_ (Ua (aL g 0)) n b) n (D.set k u):=by
 rcases h.2 with ⟨c,_⟩|⟨q,e,d,c,m,i,j,l,o,p⟩
 .cases c
 cases c;refine⟨G_,ec ⟨g,b,d.setIfInBounds k u,rfl,m,?_,j,l,G_,?_⟩⟩
 .rw[aP i]
 grind [List.take_set]
def iE.set{F:bN}{l:List aE}{u:aW}(h:iE F R D l)(k:Nat)(c:PV F R u G):iE F R (D.set k u) (l.set k G):=by grind [iE]
def Is{r:aE × Nat}{F:bN}{c:aN}{k:Nat}(h:R_ R I)(p:Below (H_ I) I.drew c)
 (e:I.ownsRow (H_ R) 263 1 (P_ (Ua (aL J 0)) (Ty C) n) (Ty C) D) (z:iE F R D C) (y:PV (Grow F I.drew c) c (dH H E) G) (a:r=(bG (C.set k G),0)) (B:∀q,F q->q<H_ R) (v:k<Ty C):
 jA F R r (bY (dH 322 (P_ (Ua (aL J 0)) (Ty C) n))) (c.setCell (aL J k) (dH H E)):=by
 have hg1 :=bX e J aJ;have hg1l :=eG e J aJ;have hb2' :=((dz _ I).drew).trans p;have h12 :=hb2'.size;have hb :=h.trans (hb2'.mono h.size);have t:R_ R (c.setCell (aL J k) (dH H E)):=hb.setCell hg1 _;have s:c.ownsRow (H_ R) 263 1 (P_ (Ua (aL J 0)) (Ty C) n) (Ty C) D:=(by grind [bC,eg,eG])
 have j:=Jg (u:=dH H E) s v;have x:(c.setCell (aL J k) (dH H E)).heap.size=H_ c:=s_
 refine jA.ok t a (PV.uw ?_);have g:Ty (C.set k G)=Ty C:=List.length_set;have:=tw.ofRow (F:=Grow F R (c.setCell (aL J k) (dH H E))) (l:=C.set k G) (by rw[g];exact j) ?_ ?_
 .exact this
 .refine iE.set ((z.h_ ku).mono λq a=>ed a) k ?_
  refine(y.h_ λq a=>?_).mono λq a=>?_
  .refine em _ _ _ _ ?_;show q≠J
   rcases a with a|⟨a,_⟩
   .grind
   have:H_ I<=q:=a;exact aD
  rcases a with a|⟨a,A⟩
  .grind
  have:H_ I<=q:=a;exact aD
 intro q a;obtain rfl:J=q:=ft a;grind [Grow]
def yF(F:bN)(l:List aE):Prop:=∀(sv u v:aW) (a b:aE) (w:aN),ZF F w sv l->PV F w u a->PV F w v b->(∀k,F k->k<w.heap.size)->aK a<=400000->Ty l<=1000000->
 Ue Un 353 #[u,sv,v] w (jA F w (cI l a b))
def RU(F:bN):yF F []:=by
 intro e u v a b w j k d m l i
 obtain⟨x,c,rfl⟩:∃x c,e=P_ x 0 c:=by grind [ZF]
 have f:=aB d;go_in
 go_wp2
 go_ret;exact jA.ok (dz _ _) aJ (f.mono λ_ g=>ed g)
def rH(Y_:a:=by go_wp2_with fail;exact⟨aJ,(by grind [dz,d7,jA])⟩):a:=Y_
def RY(F:bN)(i:aE)(l:List aE)(X:∀F,yF F l):yF F (i::l):=by
 intro sv u v a b w hi hu U hF hc hl;simp only[fk]at hl
 obtain⟨g,o,c,rfl,ba,hg,f⟩:∃g o c,sv=P_ (Ua (aL g o)) (Ty l+1) c/\Ty l+1<=c/\g<H_ w/\∀j (h:j<Ty (i::l)),∃u,dP w g (o+j) u/\PV F w u (i::l)[j]:=by grind [ZF]
 obtain⟨ui,ci,A⟩:=f 0 s_
 simp only[gu,im]at ci A;have bb:(((Ty l+1:Nat):Int)==0)=Uc:=G_
 obtain⟨r,M⟩:∃r,r=cI (i::l) a b:=(by simp)
 rw[<-M];rw[CE]at M;obtain⟨t',z',rfl⟩:=U.form;obtain⟨ti,zi,rfl⟩:=A.form;have d:a.c_≠3->Ul (r=(aY,2)):=λh=>by show _=_;grind
 rcases hu.cases with ⟨n,rfl,rfl,_,_⟩|⟨s,rfl,rfl⟩|⟨s,rfl,rfl⟩|⟨x,cx,m,rfl,rfl,hm⟩
 .have HP:=d (by simp[bA])
  clear hu U hi hF f A M d X;go_in
  exact rH
 .have HP:=d (by simp[cG])
  clear hu U hi hF f A M d X;go_in
  exact rH
 .have HP:=d (by simp[bQ])
  clear hu U hi hF f A M d X;go_in
  exact rH
 have bg:=mZ m;rw[mE]at hc;have ac:=aB (zV F _ i (Ty m) w A aD);have HR:=aB M;have HM:=aB hm;have HV:=aB U;have HF:=aB hF;have aa:=aB f;have W:=aB X;clear hu U hi hF f A M d X hm;go_in
 go_wp2_with fail;apply ac.mono
 rintro e B ⟨T,⟨h2,rfl⟩|⟨h2,h3,rfl⟩|⟨h2,k,H,ag,rfl⟩⟩
 .obtain rfl:=T.symm;have HP:Ul (r=(aY,2)):=G_
  clear h2 T;exact rH
 .obtain rfl:=T.symm;have HP:Ul (r=(aY,4)):=by grind [bG]
  clear h2 h3 T;exact rH
 obtain rfl:=T.symm;obtain⟨gm,bh,ak,_⟩:=HM.get k H;rcases HM.row with ⟨rfl,_⟩|⟨ay,bd,xs,ao,av,be,z,G⟩
 .simp at H
 cases ao;obtain⟨uk,Y,N⟩:=z.2 k H;have af:=aB (MP ay 0 (Ty m) cx xs w (by rw[z.1];exact aD) aD (G_) (tM z))
 have am:aK m[k]<=400000:=by have:=pT (ge H);exact aD
 have O:Ul (r=if (cI l m[k] b).2≠0 then (aY,(cI l m[k] b).2)else (bG (m.set k (cI l m[k] b).1),0)):=by grind [bG]
 obtain⟨tk,zk,rfl⟩:=N.form;have ah:=aB z;have ab:=aB N;have ax:=aB Y;clear T h2 ag HR ac G z N Y av ak;go_wp2_with fail;apply af.mono
 rintro e B ⟨v1,rfl,E,I⟩;rcases E.2 with ⟨r1,r2⟩|⟨g1,c1,ai,rfl,bf,t,au,ar,ap,aw⟩
 .exact aD
 have J:ai[k]?=Ua (dH tk zk):=by grind [d7]
 have d0:dP B g1 k (dH tk zk):=aA t J;have ae:=aH t;have al:Ul (∀q,F q->q<B.drew.heap.size):=λq hq=>ej (HF q hq) I.size
 have C:R_ w B.drew:=I.drew;obtain⟨S,Z⟩:∃S:Option Uj,(if c=1 then Ua (⟨g,o,none⟩:Uj)else Ua (aL g (o+1)))=S:=(by simp)
 have V:ZF F B.drew (P_ S (Ty l) (c-1)) l:=by
  by_cases h1:c=1
  .grind [List.length_eq_zero_iff,ZF]
  rw[ea h1]at Z;subst Z;refine ec ⟨g,o+1,c-1,aJ,aD,ej hg C.size,λj hj=>?_⟩
  obtain⟨u,e1,e2⟩:=aa (j+1) G_
  grind [Below.cell,PV.h_,eg,d7]
 have bi:(1:Int)<=(Ty l:Int)+1:=aD;have bc:(Ty l:Int)+1<=(c:Int):=aD;have HX:=aB (W F (P_ S (Ty l) (c-1)) (dH tk zk) (dH t' z') m[k] b B.drew V (ab.h_ λk H=>C.block k (HF k H)) (HV.h_ λk H=>C.block k (HF k H)) al am aD)
 generalize cI l m[k] b=Q at HX O;have HOWN:=aB E;have HBLK:=aB t;have L:=aB I;clear E t I C V af W aa ab ap aw au ar ax;by_cases hz:Q.2=0
 .have K:Ul (Ue Un 353 #[dH tk zk,P_ S (Ty l) (c-1),dH t' z'] B.drew λe w'=>Below (H_ B) B.drew w'/\∃t2 u2,e=bY (dH t2 u2)/\PV (Grow F B.drew w') w' (dH t2 u2) Q.1):=by
   apply HX.mono
   rintro e P ⟨y,⟨_,u2,rfl,D⟩|⟨an,rfl⟩⟩
   .obtain⟨t2,z2,rfl⟩:=D.form;exact⟨y,t2,z2,aJ,D⟩
   exact aD
  have HQ:Ul (r=(bG (m.set k Q.1),0)):=G_
  clear HX O hz;go_wp2
  go_region_law (go_simp;go_at_call 353;apply K.mono;rintro e P ⟨y,t2,u2,rfl,D⟩;have p:=(y.block g1 ae).trans HBLK;have d2:=aA p J;have bj:=aF p (i:=k);have az:=aH p;have aj:=aB D;have aq:=aB y;have HBLK2:=aB p;clear D y p)
  all_goals
   go_wp2
   go_ret;exact Is L aq HOWN ah aj HQ HF H
 have K:Ul (Ue Un 353 #[dH tk zk,P_ S (Ty l) (c-1),dH t' z'] B.drew λe w'=>Below (H_ B) B.drew w'/\e=jD Q.2):=by
  apply HX.mono
  rintro e P ⟨y,⟨an,_⟩|⟨_,rfl⟩⟩
  .exact aD
  exact⟨y,aJ⟩
 have HQ:Ul (r=(aY,Q.2)):=G_
 have HS:Ul (∀P,Below (H_ B) B.drew P->jA F w r (jD Q.2) P):=λP h=>jA.stop (L.drew.trans (h.mono L.size)) HQ hz
 clear HX O hz;go_wp2_with fail;go_region_dies
 all_goals (apply K.mono;rintro e P ⟨y,rfl⟩;exact⟨aJ,HS _ y⟩)
def FI:∀(l:List aE) (F:bN),yF F l
 |[],F=>RU F
 |i::l,F=>RY F i l (FI l)
def Ky(l:List aE)(k:Nat)(x:aE):((l.set k x).map aK).sum<=(l.map aK).sum+aK x:=by
 induction l generalizing k with
 |nil=>simp
 |cons a l b=>
  cases k with
  |zero=>grind
  |succ k=>grind
def zC:∀(l:List aE) (a b:aE),aK (cI l a b).1<=(Ty l+1)*(aK a+aK b+1)
 |[],a,b=>by grind [cI]
 |i::l,a,b=>by
  rw[CE];have c:aK aY=1:=by rw[dE];simp[aY]
  repeat' split
  .grind
  .grind
  .grind
  have f:i.n.toNat<Ty a.l:=aD;have j:=zC l (a.l.getD i.n.toNat aY) b;have d:=pT (ge f);have g:=dE a;rw[mE];have e:=Ky a.l i.n.toNat (cI l (a.l.getD i.n.toNat aY) b).1;have h:(Ty l+1)*(aK a.l[i.n.toNat]+aK b+1)<=(Ty l+1)*(aK a+aK b+1):=Nat.mul_le_mul_left _ aD;grind [Nat.succ_mul]
def VF(F:bN)(l:List aE)(j u v:aW)(a b:aE)(w:aN)(D:ZF F w j l)(s:PV F w u a)(y:PV F w v b)(C:∀k,F k->k<w.heap.size)(H:aK a<=400)(E:aK b<=400)(Q:Ty l<=100000):
 Ue Un 350 #[u,j,v] w (jA F w (jI a l b)):=by
 have q:=zC l a b;have G:(Ty l+1)*(aK a+aK b+1)<=100001*801:=Nat.mul_le_mul aD aD;have n:=aB (FI l F j u v a b w D s y C aD aD);obtain⟨r,m⟩:∃r,r=jI a l b:=(by simp)
 rw[<-m];unfold jI jG at m;have J:=aB m
 obtain⟨x,c,rfl⟩:∃x c,j=Uq x (Ty l) c:=by grind [ZF]
 obtain⟨t,z,rfl⟩:=s.form;obtain⟨M,N,rfl⟩:=y.form;generalize cI l a b=g at n J q;clear D s y C m;go_in
 go_wp2_with fail;apply n.mono
 rintro e A ⟨d,⟨f,u1,rfl,i⟩|⟨f,rfl⟩⟩
 .have K:=aB (qZ (Grow F w A) u1 g.1 A i aD);obtain⟨P,O,rfl⟩:=i.form;have I:=aB i;have B:=aB d;have L:=aB f;clear i d f n;go_wp2_with fail;apply K.mono
  rintro e S ⟨rfl,⟨o,rfl⟩|⟨o,rfl⟩⟩
  .have p:Ul (r=(g.1,0)):=by grind [d7]
   clear o;go_wp2
   go_ret;exact jA.ok B p I
  have p:Ul (r=(aY,6)):=by grind [d7]
  clear o;go_wp2_with fail;exact⟨aJ,(by grind [d7,jA])⟩
 have p:Ul (r=(g.1,g.2)):=G_
 have L:=aB f;have B:=aB d;clear f d n;go_wp2_with fail;exact⟨aJ,(by grind [d7,jA])⟩
def pA(w:aN):Prop:=Lib.TabIs Un w "internal/strconv.uint64pow10" .u64 Lib.pow10Tab
theorem pA.h_{w w':aN}(h:pA w)(b:prog.globalNamed "internal/strconv.uint64pow10"=Ua n)(a:w'.heap[n]?=w.heap[n]?):pA w':=by grind [pA,Lib.TabIs,World.var?]
def pA.below{a:aN}(h:pA R)(b:R_ R a):pA a:=by grind [Program.globalNamed,pA,Lib.TabIs,World.var?,eg]
theorem FF:∀(f n:Nat) (t:bP),n<10 ^ (f+1)->iZ (f+1) n t=Lib.decDigits n++t
 |0,n,t,h=>by grind [iZ,Lib.decDigits]
 |f+1,n,t,h=>by
  rw[iZ,Lib.decDigits];by_cases a:n<10
  .grind
  rw[ea a,dif_neg a,FF f (n/10) _ aD];simp
def MA(n:Int)(a: -9223372036854775808<=n)(b:n<=9223372036854775807):Lib.itoa n=jL n:=by grind [Lib.itoa,jL,FF]
def FC:∀l:cY,Lib.join l [44,32]=fQ l
 |[]=>rfl
 |[x]=>by simp[Lib.join,fQ]
 |x::y::l=>by have a:=FC (y::l);grind [Lib.join,List.intercalate,List.intersperse_cons_cons,fQ]
def V8(l:cY):Lib.join ((l.map bs).map λx=>dY x) (bs [44,32]).data.toList=fQ l:=by
 rw[<-FC,List.map_map];have e:((λx:ByteArray=>dY x) ∘ bs)=id:=(by grind [bs])
 grind [List.map_id,bs]
def NW(w:aN)(x:bP):∀j u,([Q_ (bs x)]:List Uf)[j]?=Ua u->(eH w #[Q_ (bs x)] 9).cell? ((⟨H_ w,0,none⟩:Uj).add j)=Ua u:=by
 intro j v a;match j,a with
 |0,a=>simp at a;subst a;simp[Addr.add]
 |j+1,a=>simp at a
def VN(x:bP):∀u∈([Q_ (bs x)]:List Uf),u.oneCell'=Ud:=by intro u a;simp at a;rw[a];rfl
def JR:(prog.info? 9).map (λi=>(i.zero,i.size,i.bytes))=Ua (Ua (Q_ ⟨#[]⟩),1,16):=k_
def IE(l:cY):List Uf:=l.map λx=>Value.string (bs x)
def tR(F:bN)(k:Nat):Prop:=∀(v:aW) (a:aE) (w:aN),PV F w v a->(∀b,F b->b<w.heap.size)->pA w->aK a<=k->k<=1000000->Ue Un 170 #[v] w λe w'=>e=bY (Ur (bs (cM a)))/\R_ w w'
def QL(F:bN)(k:Nat)(Z:tR F k)(x:Option Uj)(c:Nat)(l:List aE)(w:aN)(hl:tw F w (P_ x (Ty l) c) l)(hF:∀b,F b->b<H_ w)(hp:pA w)(hc:(l.map aK).sum<=k)(hk:k<=1000000):
 Ue Un 224 #[P_ x (Ty l) c] w λe w'=>e=bY (Q_ (bs (fQ (l.map cM))))/\R_ w w':=by
 obtain⟨i0,hi,N,W,S⟩:=info_parts JR;have Y:=mZ l;have v:=aB Z;have U:=aB hl;have HF:=aB hF;have HP:=aB hp;clear Z hl hF hp;go_in
 go_wp2
 go_loopg [3,5,8] (Ty l) (λgk s _ i wr=>∃j:Nat,j+gk=Ty l/\i=I_ j/\(∃y d,s=P_ y j d)/\wr.ownsRow (H_ w) 9 1 s j (IE ((l.map cM).take j))/\R_ w wr)
 case atStart=>grind [World.ownsRow_nil,dz,IE]
 case round=>
  obtain⟨j,hj,rfl,⟨y,d,rfl⟩,n,f⟩:=hrel;by_cases M:j<Ty l
  .obtain⟨m,rfl⟩:∃m,gk=m+1:=⟨gk-1,aD⟩;have D:=U.h_ λb H=>f.block b (HF b H)
   obtain⟨g,u,rfl,hn,ad,hg,X,O,T⟩:=D.get j M;have B:l[j]∈l:=(by simp)
   have ae:=pT B;have HX:=aB (v u l[j] wr T (λb H=>ej (HF b H) f.size) (HP.below f) aD aD)
   obtain⟨t,u',rfl⟩:=T.form;have K:=f.size;have HO:=aB n;have G:=aB f
   have C:IE ((l.map cM).take (j+1))=IE ((l.map cM).take j)++[Q_ (bs (cM l[j]))]:=by grind [List.take_succ_eq_append_getElem,IE]
   have I:=aB C;clear T n f C D;go_wp2_with fail;refine rf HX λE r=>?_
   have aa:=r.size;have q:=jZ HO r;have z:=aB q;clear q;generalize cM l[j]=tx at*;go_wp2_with (at_builtin;refine wpList_append_lies _ r_ _ _ 54 r_ (H_ w) 9 i0 _ 1 16 underlying54 hi N W S rfl d_ (P_ y j d) j _ r_ (z.alloc _) (aL (H_ E) 0) 1 1 [Q_ (bs tx)] r_ r_ (NW E _) (VN _) d_ kk aD kj (H_ E+1) s_ ?_)
   intro g4 ab w4 p o A ag;have P:=aB p;have Q:=aB o;clear p o A;go_wp2
   go_roundg m
   case measure=>exact aD
   case rel=>
    refine⟨j+1,aD,la,s_,by rw[I];exact P,?_⟩
    exact((G.trans (r.mono aD)).alloc aD _).grown Q kj λk hk=>(z.lt k hk).1
  have J:j=Ty l:=aD;subst J;have K:=f.size;rw[hQ s_]at n
  have G:=aB f;have af:=uM l λa _=>sI a
  rcases n.2 with ⟨V,r2⟩|⟨g,cp,ac,V,r2,r3,r4,r5,r6,r7⟩
  .have e1:l=[]:=(by grind)
   subst e1;cases V;clear n f U v;go_wp2_with fail;refine oN (strings_Join_none _ _ _ _) ?_;go_wp2
   go_ret;exact⟨aJ,G⟩
  cases V
  have HJ:=aB (strings_Join g 0 d ((l.map cM).map bs) (bs [44,32]) wr (λi x hx=>by
   refine aA r3 ?_
   have e2:(IE (l.map cM))[i]?=Ua (Q_ x):=by grind [IE]
   grind) (G_) G_ G_ (by rw[V8];exact aD))
  have L:Ty ((l.map cM).map bs)=Ty l:=s_
  rw[L,V8]at HJ;clear n f U v r3 r6 r7;go_wp2_with fail;refine rf HJ λE r=>?_
  go_wp2
  go_ret;exact⟨aJ,G.trans (r.mono aD)⟩
def N4{a:Array Obj}(h:I=Sort.grow (R.drewN n) a):R_ R I:=by
 subst h;refine⟨aJ,aJ,aJ,?_,λi c=>?_⟩
 .simp
 show (R.heap++a)[i]?=R.heap[i]?
 grind
def Rh:(⟨(Lib.formatBool Uc).toArray⟩:ByteArray)=bs [102,97,108,115,101]:=k_
def Mo:(⟨(Lib.formatBool Ud).toArray⟩:ByteArray)=bs [116,114,117,101]:=k_
def LP(F:bN)(k:Nat)(f:tR F k):tR F (k+1):=by
 intro v a w h q e i B;rcases h.cases with ⟨n,rfl,rfl,p,o⟩|⟨b,rfl,rfl⟩|⟨s,rfl,rfl⟩|⟨x,c,l,rfl,rfl,r⟩
 .have d:cM (bA n)=jL n:=by rw[mA];rfl
  have m:=aB (strconv_FormatInt_10 n p o w e);rw[d];clear h f i e;go_in
  go_wp2_with fail;refine rf m λt ⟨A,C,g⟩=>?_
  have j:=N4 g;clear g;go_wp2
  go_ret;exact⟨by rw[MA n p o];rfl,j⟩
 .have d:cM (cG b)=if b then [116,114,117,101]else [102,97,108,115,101]:=by rw[mA];cases b<;>rfl
  rw[d];clear h f i e;cases b
  all_goals
   go_in
   go_wp2_with fail;refine oN (strconv_FormatBool _ _) ?_;go_wp2
   go_ret;exact⟨by first|(rw[Rh];rfl)|(rw[Mo];rfl),dz _ _⟩
 .have d:cM (bQ s)=[34]++s++[34]:=by rw[mA];rfl
  have y:(bs s).size=Ty s:=iT s;rw[oK]at i;rw[d];clear h f e;go_in
  go_wp2
  go_ret;refine⟨?_,dz _ _⟩;show Ending.returned (Q_ ((⟨#[34]⟩:ByteArray)++bs s++(⟨#[34]⟩:ByteArray)))=_
  rw[NP,NQ];rfl
 have d:cM (bG l)=[91]++fQ (l.map cM)++[93]:=by rw[mA];rfl
 have u:=uM l λa _=>sI a
 rw[mE]at i;have m:=aB (QL F k f x c l w r q e aD aD);have y:(bs (fQ (l.map cM))).size=Ty (fQ (l.map cM)):=iT _;rw[d];generalize fQ (l.map cM)=z at*;clear h f e r q;go_in
 go_wp2_with fail;refine rf m λt j=>?_
 go_wp2
 go_ret;refine⟨?_,j⟩;show Ending.returned (Q_ (bs [91]++bs z++bs [93]))=_
 grind [nE]
def uB(F:bN):∀k,tR F k
 |0=>(by grind [yB,tR])
 |k+1=>LP F k (uB F k)
def z8(F:bN)(v:aW)(a:aE)(w:aN)(h:PV F w v a)(j:∀b,F b->b<H_ w)(k:pA w)(m:aK a<=100000):
 Ue Un 358 #[v] w λe i=>e=bY (Q_ (bs (jN a)))/\R_ w i:=by
 have f:=aB (uB F 100000 v a w h j k m aD);rcases h.cases with ⟨n,rfl,rfl,p,o⟩|⟨b,rfl,rfl⟩|⟨s,rfl,rfl⟩|⟨x,c,l,rfl,rfl,q⟩
 .go_in
  go_wp2_with fail;refine rf f λg d=>?_
  go_wp2
  go_ret;exact⟨aJ,d⟩
 .go_in
  go_wp2_with fail;refine rf f λg d=>?_
  go_wp2
  go_ret;exact⟨aJ,d⟩
 .go_in
  go_wp2
  go_ret;exact⟨aJ,dz _ _⟩
 go_in
 go_wp2_with fail;refine rf f λg d=>?_
 go_wp2
 go_ret;exact⟨aJ,d⟩
def AM(Y_:a:=by
 go_in
 go_wp2_with fail;exact⟨aJ,(by grind [dz,jA])⟩):a:=Y_
def Sp(F:bN)(v:aW)(a:aE)(w:aN)(h:PV F w v a)(g:cS a)(j:aK a<=1000000):Ue Un 371 #[v] w (jA F w (dO a)):=by
 rcases h.cases with ⟨m,rfl,rfl,u,r⟩|⟨b,rfl,rfl⟩|⟨s,rfl,rfl⟩|⟨x,c,l,rfl,rfl,p⟩
 .have d:dO (bA m)=(aY,2):=rfl;rw[d];clear h g j;exact AM
 .have d:dO (cG b)=(aY,2):=rfl;rw[d];clear h g j;exact AM
 .have t:eT s:=g.Dl;have d:dO (bQ s)=(bA (Ty (eD s)),0):=rfl;have y:(bs s).size=Ty s:=iT s;rw[oK]at j;have f:=qE s
  have e:Lib.runeCount (bs s)=Ty (eD s):=by grind [Lib.runeCount,jT,FG]
  have k:=aB (utf8_RuneCountInString (bs s) w aD);rw[e]at k;rw[d];clear h g e;go_in
  go_wp2_with fail;refine rf k λn ⟨q,i⟩=>?_
  have o:R_ w n:=by rw[i];exact(dz _ w).alloc (aD) _
  clear i;go_wp2
  go_ret;exact jA.ok o aJ (PV.num _ _ _ aD aD)
 have d:dO (bG l)=(bA (Ty l),0):=rfl;have f:=mZ l;rw[mE]at j;rw[d];clear h g p;go_in
 go_wp2
 go_ret;exact jA.ok (dz _ _) aJ (PV.num _ _ _ aD aD)
def PJ(F:bN)(x:Option Uj)(c:Nat)(l:List aE)(v:aW)(b:aE)(w:aN)(p:tw F w (P_ x (Ty l) c) l)(j:PV F w v b)(M:Ty l<=1000000):Ue Un 364 #[dH 322 (P_ x (Ty l) c),v] w (jA F w (cA (bG l) b)):=by
 have y:=aB (zV F v b (Ty l) w j aD);obtain⟨t,z,rfl⟩:=j.form;have s:=aB p
 have q:cA (bG l) b=if b.c_≠0 then (aY,2)else if b.n<0\/(Ty l:Int)<=b.n then (aY,4)else (l.getD b.n.toNat aY,0):=by simp[cA,kM,bG]
 have B:=aB q;generalize cA (bG l) b=r at B;clear j p q;go_in
 go_wp2_with fail;apply y.mono
 rintro e D ⟨rfl,⟨n,rfl⟩|⟨n,m,rfl⟩|⟨n,k,m,K,rfl⟩⟩
 .exact rH
 .exact rH
 obtain⟨g,u,rfl,_,J,H,o,f,i⟩:=s.get k m;obtain⟨E,G,rfl⟩:=i.form;have C:=aB i;have d:l.getD b.n.toNat aY=l[k]:=G_
 have a:r=(l[k],0):=by grind [d7]
 have HRes:=aB a;have L:(0:Int)<=(k:Int):=aD;have I:(k:Int)<(Ty l:Int):=aD;clear i d a s y;go_wp2
 go_ret;exact jA.ok (dz _ _) HRes (C.mono λk A=>ed A)
def Lh(r:Nat)(W:aN):(convert 21 321 (.int .i32 (r:Int))).run Un W=.ok (Ur (bs (MI r))) W:=by
 have a:Utf8.encode (Int.ofNat r)=bs (MI r):=by
  have:∀x:ByteArray,x=bs x.data.toList:=λx=>by cases x;simp[bs]
  exact this _
 rw[Int.ofNat_eq_natCast]at a;simp[convert,run_underlying underlying21,run_underlying underlying321,Conv.intToString,a]
def Su(F:bN)(s:bP)(v:aW)(b:aE)(w:aN)(H:PV F w v b)(U:eT s)(hc:Ty s<=1000000)(W:∀k,F k->k<H_ w):Ue Un 364 #[dH 321 (Q_ (bs s)),v] w (jA F w (cA (bQ s) b)):=by
 have Z:(bs s).size=Ty s:=iT s;have x:(bs s).data.toList=s:=by simp[jT]
 obtain⟨c,A,m,T,i⟩:=EO (bs s) (bs s).size 0 #[] aD G_
 rw[List.drop_zero,x]at m i;have g:(Conv.runesFrom (bs s) (bs s).size 0 #[]).size=Ty c:=G_
 have q:=qE s;have a:=run_runes_of_string (P:=Un) w 321 483 21 (bs s) underlying321 underlying483 underlying21 (by rw[g];exact aD)
 rw[g,A]at a;generalize grownCap w (Ty c) 0 21=Q at a;generalize j:(Obj.cells ((#[]++(c.map λr=>Value.int .i32 (Int.ofNat r)).toArray)++Array.replicate (Q-Ty c) (.int .i32 0)) 21)=ob at a
 have d:∀k (h:k<Ty c),dP (w.drew.alloc ob) (H_ w) k (.int .i32 ((c[k]:Nat):Int)):=λk h=>by rw[<-j];refine aA (aZ _ _ aJ _) ?_;grind
 have B:R_ w (w.drew.alloc ob):=((dz _ w).drew).alloc mJ _;have u:=aB (zV F v b (Ty c) (w.drew.alloc ob) ((by grind [PV.h_,eg])) aD)
 obtain⟨t,z,rfl⟩:=H.form
 have G:cA (bQ s) b=if b.c_≠0 then (aY,2)else if b.n<0\/(Ty c:Int)<=b.n then (aY,4)else (((eD s).map bQ).getD b.n.toNat aY,0):=by grind [cA,kM,bQ]
 have L:=aB G;have I:Ty c<=1000000:=aD;have K:=aB m;have N:=aB i;have p:=aB d;have C:=aB B;generalize cA (bQ s) b=r at L;generalize l:w.drew.alloc ob=J at a u p C;have E:H_ w<H_ J:=by rw[<-l];simp
 clear H G d B l j A g x m i q;go_in
 go_wp2_with fail;apply u.mono
 rintro e S ⟨rfl,⟨D,rfl⟩|⟨D,y,rfl⟩|⟨D,k,y,Y,rfl⟩⟩
 .exact GK
 .exact GK
 have M:=p k y;have m:=K.out;have i:=N.out
 have o:MI c[k]=(eD s)[k]'aD:=by grind
 have n:((eD s).map bQ).getD b.n.toNat aY=bQ (MI c[k]):=by grind
 have f:r=(bQ (MI c[k]),0):=by grind [d7]
 have O:=Lh c[k] S;have HRes:=aB f;have e1:(0:Int)<=(k:Int):=aD;have X:(k:Int)<(Ty c:Int):=aD;clear n f o u p m i;generalize c[k]=V at*;go_wp2
 go_ret;exact jA.ok C HRes (PV.str _ _ _)
def Jd(F:bN)(u v:aW)(a b:aE)(w:aN)(j:PV F w u a)(d:PV F w v b)(f:cS a)(e:aK a<=1000000)(g:∀k,F k->k<H_ w):Ue Un 364 #[u,v] w (jA F w (cA a b)):=by
 rcases j.cases with ⟨m,rfl,rfl,o,n⟩|⟨x,rfl,rfl⟩|⟨s,rfl,rfl⟩|⟨x,c,l,rfl,rfl,h⟩
 .have i:cA (bA m) b=(aY,2):=by simp[cA,bA]
  exact AM
 .have i:cA (cG x) b=(aY,2):=by simp[cA,cG]
  exact AM
 .rw[oK]at e;exact Su F s v b w d f.Dl aD g
 rw[mE]at e;have:=mZ l;exact PJ F x c l v b w h d aD
def O6(n m:Int)(w:aN):(binOp .eql 263 (dH 261 (I_ n)) (dH 261 (I_ m))).run Un w=.ok (Uw (n==m)) w:=k_
def RO(n m:Bool)(w:aN):(binOp .eql 263 (dH 319 (Uw n)) (dH 319 (Uw m))).run Un w=.ok (Uw (n==m)) w:=k_
def XN(n m:ByteArray)(w:aN):(binOp .eql 263 (dH 321 (Q_ n)) (dH 321 (Q_ m))).run Un w=.ok (Uw (n==m)) w:=k_
def O3(a b:bP)(w:aN):(binOp .eql 263 (dH 321 (Q_ (bs a))) (dH 321 (Q_ (bs b)))).run Un w=.ok (Uw (a==b)) w:=by rw[XN];have h:(bs a==bs b)=((bs a).data==(bs b).data):=rfl;rw[h];simp[bs]
def XR(u v:aW)(w:aN):(binOp .eql 263 (dH 261 u) (dH 319 v)).run Un w=.ok (Uw Uc) w:=k_
def O5(u v:aW)(w:aN):(binOp .eql 263 (dH 261 u) (dH 321 v)).run Un w=.ok (Uw Uc) w:=k_
def XQ(u v:aW)(w:aN):(binOp .eql 263 (dH 261 u) (dH 322 v)).run Un w=.ok (Uw Uc) w:=k_
def XT(u v:aW)(w:aN):(binOp .eql 263 (dH 319 u) (dH 261 v)).run Un w=.ok (Uw Uc) w:=k_
def XS(u v:aW)(w:aN):(binOp .eql 263 (dH 319 u) (dH 321 v)).run Un w=.ok (Uw Uc) w:=k_
def RN(u v:aW)(w:aN):(binOp .eql 263 (dH 319 u) (dH 322 v)).run Un w=.ok (Uw Uc) w:=k_
def O4(u v:aW)(w:aN):(binOp .eql 263 (dH 321 u) (dH 261 v)).run Un w=.ok (Uw Uc) w:=k_
def XP(u v:aW)(w:aN):(binOp .eql 263 (dH 321 u) (dH 319 v)).run Un w=.ok (Uw Uc) w:=k_
def XO(u v:aW)(w:aN):(binOp .eql 263 (dH 321 u) (dH 322 v)).run Un w=.ok (Uw Uc) w:=k_
def rU(h:G=b):cZ G b=Ud:=(sL G b).2 h
def fJ(h:G≠b):cZ G b=Uc:=by grind [sL]
def GQ{m:List aE}:bG C=bG m↔C=m:=by simp[bG]
def GC(F:bN)(k:Nat):Prop:=∀(u v:aW) (a b:aE) (w:aN),PV F w u a->PV F w v b->aK a<=k->k<=1000000000->aK b<=1000000000->
 Ue Un 378 #[u,v] w λe w'=>w'=w/\e=bY (Uw (cZ a b))
def IX(F:bN)(k:Nat)(P:GC F k)(x y:Option Uj)(c d:Nat)(l m:List aE)(w:aN)(O:tw F w (P_ x (Ty l) c) l)(E:tw F w (P_ y (Ty m) d) m)(hc:aK (bG l)<=k+1)(hk:k<=1000000000)(W:aK (bG m)<=1000000000):
 Ue Un 382 #[P_ x (Ty l) c,P_ y (Ty m) d,.func (.func 378) #[] #[]] w λe Y=>Y=w/\e=bY (Uw (cZ (bG l) (bG m))):=by
 have h1:=mZ l;have h2:=mZ m;rw[mE]at hc W;by_cases n:Ty l=Ty m
 .have J:((Ty l:Int) != (Ty l:Int))=Uc:=s_
  rw[<-n]at E ⊢
  have HL:=aB O;have HM:=aB E;have M:=aB P;have v:=aB n;clear O E P n;go_in
  go_wp2
  go_loopg [6,7,8,9,17] (Ty l) (λgk _ _ _ _ i wr=>∃j:Nat,j+gk=Ty l/\i=I_ j/\wr=w/\Ul (l.take j=m.take j))
  case atStart=>exact⟨0,aD,rfl,rfl,by simp[Ul]⟩
  case round=>
   obtain⟨j,hj,rfl,rfl,I⟩:=hrel;by_cases o:j<Ty l
   .obtain⟨q,rfl⟩:∃q,gk=q+1:=⟨gk-1,aD⟩;obtain⟨g,u,rfl,hn,hF,hg,V,L,Q⟩:=HL.get j o;obtain⟨g',u',rfl,N,Z,aa,S,H,B⟩:=HM.get j (by rw[<-v];exact o)
    have K:=pT (ge o);have f:j<Ty m:=by rw[<-v];exact o
    have D:=pT (ge f);have G:=aB (M u u' l[j] (m[j]'f) wr Q B aD hk aD);obtain⟨t,z,rfl⟩:=Q.form;obtain⟨t',z',rfl⟩:=B.form;have A:l.take (j+1)=l.take j++[l[j]]:=g9 o;have r:m.take (j+1)=m.take j++[m[j]'f]:=g9 f;have s:l[j]?=Ua l[j]:=fe o;have C:m[j]?=Ua (m[j]'f):=fe f;generalize l[j]=a at*;generalize m[j]'f=b at*;clear Q B K D hn N;by_cases p:a=b
    .rw[rU p]at G;have U:Ul (l.take (j+1)=m.take (j+1)):=by show _=_;rw[A,r,I,p]
     clear A r s C I p;go_wp2_with fail;apply G.mono
     rintro e X ⟨rfl,rfl⟩;go_wp2
     go_roundg q
     case measure=>exact aD
     case rel=>exact⟨j+1,aD,la,rfl,U⟩
    rw[fJ p]at G;have T:Ul (l≠m):=by show _≠_;intro e;rw[e,C]at s;cases s;exact p aJ
    clear A r s C I p;go_wp2_with fail;apply G.mono
    rintro e X ⟨rfl,rfl⟩;go_wp2
    go_ret;exact⟨aJ,by rw[fJ λe=>T (GQ.1 e)];rfl⟩
   have HE:Ul (l=m):=by
    show _=_
    have:=I.out;rw[hQ aD,hQ (by rw[<-v];exact aD)]at this
    exact this
   go_wp2
   go_ret;exact⟨aJ,by rw[rU (GQ.2 HE.out)];rfl⟩
 have J:((Ty l:Int) != (Ty m:Int))=Ud:=by simp;exact aD
 have T:Ul (l≠m):=by show _≠_;intro e;exact n (by rw[e])
 clear O E P;go_in
 go_wp2
 go_ret;exact⟨aJ,by rw[fJ λe=>T (GQ.1 e)];rfl⟩
def Tm(Y_:a:=by
 go_in
 go_wp2
 go_ret;exact⟨aJ,by rw[HS];rfl⟩):a:=Y_
def VD(F:bN)(k:Nat)(j:GC F k):GC F (k+1):=by
 intro u v a b w m g o G i;rcases m.cases with ⟨n,rfl,rfl,H,E⟩|⟨s,rfl,rfl⟩|⟨s,rfl,rfl⟩|⟨x,c,l,rfl,rfl,y⟩
 .rcases g.cases with ⟨p,rfl,rfl,_,_⟩|⟨f,rfl,rfl⟩|⟨f,rfl,rfl⟩|⟨B,A,q,rfl,rfl,_⟩
  .have t:=O6
   have d:Ul (cZ (bA n) (bA p)=(n==p)):=by
    show _=_
    by_cases e:n=p
    .rw[rU (by rw[e]),e,beq_self_eq_true]
    rw[fJ (by simp[bA,e]),beq_eq_false_iff_ne.2 e]
   clear m g j o i;generalize cZ (bA n) (bA p)=r at*;go_in
   go_wp2
   go_ret;exact⟨aJ,mq⟩
  .have t:=XR;have d:Ul (cZ (bA n) (cG f)=Uc):=fJ (by simp[bA,cG])
   clear m g j o i;generalize cZ (bA n) (cG f)=r at*;go_in
   go_wp2
   go_ret;exact⟨aJ,mq⟩
  .have t:=O5;have d:Ul (cZ (bA n) (bQ f)=Uc):=fJ (by simp[bA,bQ])
   clear m g j o i;generalize cZ (bA n) (bQ f)=r at*;go_in
   go_wp2
   go_ret;exact⟨aJ,mq⟩
  have t:=XQ;have d:Ul (cZ (bA n) (bG q)=Uc):=fJ (by simp[bA,bG])
  clear m g j o i;generalize cZ (bA n) (bG q)=r at*;go_in
  go_wp2
  go_ret;exact⟨aJ,mq⟩
 .rcases g.cases with ⟨p,rfl,rfl,_,_⟩|⟨f,rfl,rfl⟩|⟨f,rfl,rfl⟩|⟨B,A,q,rfl,rfl,_⟩
  .have t:=XT;have d:Ul (cZ (cG s) (bA p)=Uc):=fJ (by simp[cG,bA])
   clear m g j o i;generalize cZ (cG s) (bA p)=r at*;go_in
   go_wp2
   go_ret;exact⟨aJ,mq⟩
  .have t:=RO
   have d:Ul (cZ (cG s) (cG f)=(s==f)):=by
    show _=_
    cases s<;>cases f<;>first|exact rU aJ|exact fJ (by simp[cG])
   clear m g j o i;generalize cZ (cG s) (cG f)=r at*;go_in
   go_wp2
   go_ret;exact⟨aJ,mq⟩
  .have t:=XS;have d:Ul (cZ (cG s) (bQ f)=Uc):=fJ (by simp[cG,bQ])
   clear m g j o i;generalize cZ (cG s) (bQ f)=r at*;go_in
   go_wp2
   go_ret;exact⟨aJ,mq⟩
  have t:=RN;have d:Ul (cZ (cG s) (bG q)=Uc):=fJ (by simp[cG,bG])
  clear m g j o i;generalize cZ (cG s) (bG q)=r at*;go_in
  go_wp2
  go_ret;exact⟨aJ,mq⟩
 .rcases g.cases with ⟨p,rfl,rfl,_,_⟩|⟨f,rfl,rfl⟩|⟨f,rfl,rfl⟩|⟨B,A,q,rfl,rfl,_⟩
  .have t:=O4;have d:Ul (cZ (bQ s) (bA p)=Uc):=fJ (by simp[bQ,bA])
   clear m g j o i;generalize cZ (bQ s) (bA p)=r at*;go_in
   go_wp2
   go_ret;exact⟨aJ,mq⟩
  .have t:=XP;have d:Ul (cZ (bQ s) (cG f)=Uc):=fJ (by simp[bQ,cG])
   clear m g j o i;generalize cZ (bQ s) (cG f)=r at*;go_in
   go_wp2
   go_ret;exact⟨aJ,mq⟩
  .have t:=O3
   have d:Ul (cZ (bQ s) (bQ f)=(s==f)):=by
    show _=_
    by_cases e:s=f
    .rw[rU (by rw[e]),e,beq_self_eq_true]
    rw[fJ (by simp[bQ,e]),beq_eq_false_iff_ne.2 e]
   clear m g j o i;generalize cZ (bQ s) (bQ f)=r at*;go_in
   go_wp2
   go_ret;exact⟨aJ,mq⟩
  have t:=XO;have d:Ul (cZ (bQ s) (bG q)=Uc):=fJ (by simp[bQ,bG])
  clear m g j o i;generalize cZ (bQ s) (bG q)=r at*;go_in
  go_wp2
  go_ret;exact⟨aJ,mq⟩
 rcases g.cases with ⟨p,rfl,rfl,_,_⟩|⟨f,rfl,rfl⟩|⟨f,rfl,rfl⟩|⟨B,A,q,rfl,rfl,z⟩
 .have d:Ul (cZ (bG l) (bA p)=Uc):=fJ (by simp[bG,bA])
  clear m g y j o i;generalize cZ (bG l) (bA p)=r at*;go_in
  go_wp2
  go_ret;exact⟨aJ,mq⟩
 .have d:Ul (cZ (bG l) (cG f)=Uc):=fJ (by simp[bG,cG])
  clear m g y j o i;generalize cZ (bG l) (cG f)=r at*;go_in
  go_wp2
  go_ret;exact⟨aJ,mq⟩
 .have d:Ul (cZ (bG l) (bQ f)=Uc):=fJ (by simp[bG,bQ])
  clear m g y j o i;generalize cZ (bG l) (bQ f)=r at*;go_in
  go_wp2
  go_ret;exact⟨aJ,mq⟩
 have C:=aB (IX F k j x B c A l q w y z o aD i);clear m g y z j o i;generalize cZ (bG l) (bG q)=r at*;go_in
 go_wp2_with fail;apply C.mono
 rintro e D ⟨rfl,rfl⟩;go_wp2
 go_ret;exact⟨aJ,aJ⟩
def zX(F:bN):∀k,GC F k
 |0=>λu v a b w _ _ h=>by have:=yB a;exact aD
 |k+1=>VD F k (zX F k)
def jA.Bo{r:aE × Nat}{e:Ending}(h:nS y R r e I):jA y R r e I:=by
 obtain⟨rfl,⟨c,u,b,d⟩|⟨c,b⟩⟩:=h
 .exact⟨dz _ _,(by grind [PV.mono,Grow])⟩
 grind [dz,jA]
def Rn(c:f≠[61,61])(b:f≠[33,61])(n m:Int):dJ f (bA n) (bA m)=jE f n m:=by grind [dJ,bA]
def Nj(e:f≠[61,61])(d:f≠[33,61])(a b:bP):dJ f (bQ a) (bQ b)=NH f a b:=by grind [dJ,NH,gA,bQ]
def i8(e:f≠[61,61])(d:f≠[33,61])(a b:List aE):dJ f (bG a) (bG b)=DK f a b:=by grind [dJ,DK,gA,bG]
def kD(e:f≠[61,61])(d:f≠[33,61])(h:G.c_≠b.c_\/G.c_=1):dJ f G b=(aY,2):=by grind [dJ]
def S3(Y_:a:=by
 clear hu hv hF o0 o1 hca hcb;go_in
 go_wp2_with fail;exact⟨aJ,jA.stop (dz _ _) aJ d_⟩):a:=Y_
def Tk(Y_:a:=by
 clear hu hv hF o0 o1 hca hcb;go_in
 go_wp2_with fail;apply HX.mono
 rintro e w1 ⟨rfl,⟨hk,u1,rfl,hp⟩|⟨hk,rfl⟩⟩
 .have HP:=aB hp;have HK:=aB hk;obtain⟨t1,z1,rfl⟩:=hp.form;clear hp hk;go_wp2
  go_ret;exact jA.Bo ⟨aJ,ed ⟨HK,_,aJ,HP⟩⟩
 have HK:=aB hk;clear hk;go_wp2_with fail;exact⟨aJ,jA.Bo ⟨aJ,ec ⟨HK,aJ⟩⟩⟩):a:=Y_
def VH(q:bP)(F:bN)(u v:aW)(a b:aE)(w:aN)(m:PV F w u a)(j:PV F w v b)(p:∀k,F k->k<H_ w)(d:aK a<=400000)(i:aK b<=400000):
 Ue Un 377 #[Q_ (bs q),u,v] w (jA F w (dJ q a b)):=by
 have y:=aX q;by_cases f:q=[61,61]
 .have U:((bs q).toList==[61,61])=Ud:=by rw[y,f];rfl
  have E:Ul (dJ q a b=(cG (cZ a b),0)):=by show _=_;unfold dJ;rw[ef f]
  have J:=aB (zX F 400000 u v a b w m j d aD aD);obtain⟨t,z,rfl⟩:=m.form;obtain⟨W,X,rfl⟩:=j.form;clear m j y f;rw[E];generalize cZ a b=s at*;go_in
  go_wp2_with fail;apply J.mono
  rintro e M ⟨rfl,rfl⟩;go_wp2
  go_ret;exact jA.ok (dz _ _) aJ (PV.xd _ _ s)
 have U:((bs q).toList==[61,61])=Uc:=by rw[y];simpa using f
 by_cases g:q=[33,61]
 .have Z:((bs q).toList==[33,61])=Ud:=by rw[y,g];rfl
  have E:Ul (dJ q a b=(cG (!cZ a b),0)):=by show _=_;unfold dJ;rw[ea f,ef g]
  have J:=aB (zX F 400000 u v a b w m j d aD aD);obtain⟨t,z,rfl⟩:=m.form;obtain⟨W,X,rfl⟩:=j.form;clear m j y f g;rw[E];generalize cZ a b=s at*;go_in
  go_wp2_with fail;apply J.mono
  rintro e M ⟨rfl,rfl⟩;go_wp2
  go_ret;exact jA.ok (dz _ _) aJ (PV.xd _ _ (!s))
 have Z:((bs q).toList==[33,61])=Uc:=by rw[y];simpa using g
 clear y;rcases m.cases with ⟨n,rfl,rfl,Y,V⟩|⟨s,rfl,rfl⟩|⟨s,rfl,rfl⟩|⟨x,c,l,rfl,rfl,T⟩
 .rcases j.cases with ⟨K,rfl,rfl,H,G⟩|⟨D,rfl,rfl⟩|⟨D,rfl,rfl⟩|⟨O,N,L,rfl,rfl,B⟩
  .rw[Rn f g];have J:=aB (Sr q F n K w Y V H G);generalize jE q n K=r at*;clear m j p f g d i;go_in
   go_wp2_with fail;apply J.mono
   rintro e M ⟨rfl,⟨o,u1,rfl,A⟩|⟨o,rfl⟩⟩
   .have E:=aB A;have C:=aB o;obtain⟨S,Q,rfl⟩:=A.form;clear A o;go_wp2
    go_ret;exact jA.Bo ⟨aJ,ed ⟨C,_,aJ,E⟩⟩
   have C:=aB o;clear o;go_wp2_with fail;exact⟨aJ,jA.Bo ⟨aJ,ec ⟨C,aJ⟩⟩⟩
  .rw[kD f g (by simp[bA,cG])]
   clear m j p f g d i;go_in
   go_wp2_with fail;exact⟨aJ,jA.stop (dz _ _) aJ d_⟩
  .rw[kD f g (by simp[bA,bQ])]
   clear m j p f g d i;go_in
   go_wp2_with fail;exact⟨aJ,jA.stop (dz _ _) aJ d_⟩
  rw[kD f g (by simp[bA,bG])]
  clear m j p f g d i;go_in
  go_wp2_with fail;exact⟨aJ,jA.stop (dz _ _) aJ d_⟩
 .rcases j.cases with ⟨K,rfl,rfl,H,G⟩|⟨D,rfl,rfl⟩|⟨D,rfl,rfl⟩|⟨O,N,L,rfl,rfl,B⟩
  .rw[kD f g (by simp[cG,bA])]
   clear m j p f g d i;go_in
   go_wp2_with fail;exact⟨aJ,jA.stop (dz _ _) aJ d_⟩
  .rw[kD f g (by simp[cG])]
   clear m j p f g d i;go_in
   go_wp2_with fail;exact⟨aJ,jA.stop (dz _ _) aJ d_⟩
  .rw[kD f g (by simp[cG,bQ])]
   clear m j p f g d i;go_in
   go_wp2_with fail;exact⟨aJ,jA.stop (dz _ _) aJ d_⟩
  rw[kD f g (by simp[cG,bG])]
  clear m j p f g d i;go_in
  go_wp2_with fail;exact⟨aJ,jA.stop (dz _ _) aJ d_⟩
 .rcases j.cases with ⟨K,rfl,rfl,H,G⟩|⟨D,rfl,rfl⟩|⟨D,rfl,rfl⟩|⟨O,N,L,rfl,rfl,B⟩
  .rw[kD f g (by simp[bQ,bA])]
   clear m j p f g d i;go_in
   go_wp2_with fail;exact⟨aJ,jA.stop (dz _ _) aJ d_⟩
  .rw[kD f g (by simp[bQ,cG])]
   clear m j p f g d i;go_in
   go_wp2_with fail;exact⟨aJ,jA.stop (dz _ _) aJ d_⟩
  .rw[Nj f g];rw[oK]at d i;have J:=aB (Ht q F s D w aD);generalize NH q s D=r at*;clear m j p f g d i;go_in
   go_wp2_with fail;apply J.mono
   rintro e M ⟨rfl,⟨o,u1,rfl,A⟩|⟨o,rfl⟩⟩
   .have E:=aB A;have C:=aB o;obtain⟨S,Q,rfl⟩:=A.form;clear A o;go_wp2
    go_ret;exact jA.Bo ⟨aJ,ed ⟨C,_,aJ,E⟩⟩
   have C:=aB o;clear o;go_wp2_with fail;exact⟨aJ,jA.Bo ⟨aJ,ec ⟨C,aJ⟩⟩⟩
  rw[kD f g (by simp[bQ,bG])]
  clear m j p f g d i;go_in
  go_wp2_with fail;exact⟨aJ,jA.stop (dz _ _) aJ d_⟩
 rcases j.cases with ⟨K,rfl,rfl,H,G⟩|⟨D,rfl,rfl⟩|⟨D,rfl,rfl⟩|⟨O,N,L,rfl,rfl,B⟩
 .rw[kD f g (by simp[bG,bA])]
  clear m j p f g d i;go_in
  go_wp2_with fail;exact⟨aJ,jA.stop (dz _ _) aJ d_⟩
 .rw[kD f g (by simp[bG,cG])]
  clear m j p f g d i;go_in
  go_wp2_with fail;exact⟨aJ,jA.stop (dz _ _) aJ d_⟩
 .rw[kD f g (by simp[bG,bQ])]
  clear m j p f g d i;go_in
  go_wp2_with fail;exact⟨aJ,jA.stop (dz _ _) aJ d_⟩
 rw[i8 f g];have J:=aB (F3 q F x O c N l L w T B p aD);generalize DK q l L=r at*;clear m j p f g d i T B;go_in
 go_wp2_with fail;apply J.mono
 rintro e M ⟨I,⟨o,u1,rfl,A⟩|⟨o,rfl⟩⟩
 .have E:=aB A;have C:=aB o;have P:=aB I;obtain⟨S,Q,rfl⟩:=A.form;clear A o I;go_wp2
  go_ret;exact⟨P,ed ⟨C,_,aJ,E⟩⟩
 have C:=aB o;have P:=aB I;clear o I;go_wp2_with fail;exact⟨aJ,P,ec ⟨C,aJ⟩⟩
