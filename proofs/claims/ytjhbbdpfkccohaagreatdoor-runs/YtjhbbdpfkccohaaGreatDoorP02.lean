import Derived.Test.YtjhbbdpfkccohaaGreatDoorP01
set_option linter.all false
set_option maxRecDepth 100000
set_option maxHeartbeats 4000000
open List renaming length->Ty
open Go.World renaming setCell->Tz,cell?->T_
open Option renaming some->Ua
open Bool renaming false->Uc,true->Ud
open Go renaming Calls->Ue,Value->Uf,Ending->Uh
open Go.RowKit renaming Hid->Ul
open Go.Proofs.Tryz renaming prog->Un
open Go.Value renaming slice->Uq,string->Ur,agg->Us,tuple->Uu,bool->Uw,int->Ux
open Go.Obj renaming cells->Uy
namespace Go.Proofs.YtjhbbdpfkccohaaGreatDoor.Hs
variable{b f:aE}{e:aM}
def G8:Nat->aE->Prop
 |0,_=>True
 |d+1,v=>(-9223372036854775808<=v.n/\v.n<=9223372036854775807)/\(v.c_=2->v.l=[])/\∀x∈v.l,G8 d x
structure dX(v:aE):Prop where
 all:∀d,G8 d v
def dX.fit(h:dX f):nG f:=by
 refine⟨λd=>?_⟩
 have:=h.all d;induction d generalizing f with
 |zero=>trivial
 |succ d b=>exact⟨this.1.1,this.1.2,λx a=>b ⟨λe=>(h.all (e+1)).2.2 x a⟩ (this.2.2 x a)⟩
theorem dX.tm(h:dX f)(a:b∈f.l):dX b:=⟨λd=>(h.all (d+1)).2.2 b a⟩
theorem dX.mk'(h: -9223372036854775808<=f.n/\f.n<=9223372036854775807)(a:f.c_=2->f.l=[])(b:∀x∈f.l,dX x):dX f:=
 ⟨λd=>by cases d with
   |zero=>trivial
   |succ d=>grind [dX.all,G8]⟩
theorem dX.flat{v:aE}(h: -9223372036854775808<=v.n/\v.n<=9223372036854775807)(a:v.l=[]):dX v:=(by grind [dX.mk'])
theorem mC:dX aY:=.flat d_ rfl
theorem xS(b:Bool):dX (cG b):=(by grind [dX.flat,cG])
theorem DI(s:bP):dX (bQ s):=.flat (by simp[bQ]) rfl
theorem DJ{l:List aE}(h:∀x∈l,dX x):dX (bG l):=.mk' (by simp[bG]) (by simp[bG]) h
theorem NU(n:Int):dX (bA (oP n)):=(by grind [dX.flat,oP,bA])
def Np{b:bP}:dX (dI b f).1:=by grind [dI,NU,xS,mC]
def Fi{c:bP}(h:dX f)(d:dX b):dX (dJ c f b).1:=by
 unfold dJ jE gA;repeat' (first|split|dsimp only;split)
 all_goals first|exact xS _|exact mC|exact NU _|exact DI _|grind [DJ,dX.tm]
def VS(h:dX f):dX (cA f b).1:=by grind [cA,mC,kM,DI,dX.tm]
theorem QQ(h:(dO f).1.n<=9223372036854775807):dX (dO f).1:=by grind [dO,dX.flat,bA,aY]
def yQ:∀(l:List aE) {a v:aE},dX a->dX v->dX (cI l a v).1
 |[],_,_,_,h=>h
 |i::l,a,v,c,d=>by
  unfold cI;repeat' split
  .exact mC
  .exact mC
  .exact mC
  refine DJ λx b=>?_
  rcases List.mem_or_eq_of_mem_set b with b|rfl
  .exact c.tm b
  refine yQ l ?_ d;grind [dX.tm]
structure CU(s:aM):Prop where
 fr:Ty s.f_<=16
 mo:Ty s.rm<=501
 va:Ty s.g_<=50000
structure rq(k:Nat)(e_:cY)(s:aM):Prop where
 stop:s.stop=0
 names:∃fr f,s.f_=fr++[f]/\f.g_.map (·.1)=e_.reverse
 deep:Ty s.f_+k=16
 rm:Ty s.rm<=500
 sl:Ty e_<=50000
theorem rq.bd{k:Nat}{e_:cY}(h:rq k e_ e):CU e:=by
 obtain⟨c,f,b,a⟩:=h.names;refine⟨by have:=h.deep;exact aD,by have:=h.rm;exact aD,?_⟩
 have:=fg List.length a;grind [rq.sl,aM.g_]
structure eC(s s':aM):Prop where
 le:Ty s.rm<=Ty s'.rm
 bd:CU s'
 go:s'.stop=0->s'.f_=s.f_/\Ty s'.rm<=500
theorem eC.refl(h:Ty e.rm<=500)(a:CU e):eC e e:=⟨aD,a,G_⟩
theorem eC.or{s:aM}(h:eC s e)(n:Nat):eC s (e.or n):=by
 unfold aM.or;split
 .exact⟨h.le,⟨h.bd.fr,h.bd.mo,h.bd.va⟩,G_⟩
 exact h
theorem eC.trans{s b c:aM}(h:eC s b)(d:b.stop=0)(a:eC b c):eC s c:=
 ⟨eo h.le a.le,a.bd,λe=>⟨(a.go e).1.trans (h.go d).1,(a.go e).2⟩⟩
theorem rq.next{k:Nat}{a:cY}{s b:aM}(h:rq k a s)(f:eC s b)(e:b.stop=0):rq k a b:=
 ⟨e,by grind [eC.go,rq.names],by rw[(f.go e).1];exact h.deep,(f.go e).2,h.sl⟩
def pB(fs:List aC)(D g:Nat)(V:aC->aM->dZ aE):Prop:=
 ∀(k d:Nat) (e_:cY) (n:aC) (s:aM),rk fs Uc e_ d n->rq k e_ s->k*(D+2)+d<=g->∃v s',V n s=Ua (v,s')/\eC s s'
structure fI(e_:cY)(s s':aM)(e:Bool):Prop where
 le:Ty s.rm<=Ty s'.rm
 bd:CU s'
 go:s'.stop=0->Ty s'.rm<=500/\∃fr f f',s.f_=fr++[f]/\s'.f_=fr++[f']/\f'.name=f.name/\(e=Uc->f'.g_.map (·.1)=e_.reverse)
def vM(fs:List aC)(D g:Nat)(B:aC->aM->dZ (aE × Bool)):Prop:=
 ∀(k d:Nat) (e_:cY) (b:aC) (s:aM),rp (cO fs d) e_ b.y_->rq k e_ s->k*(D+2)+d+1<=g->∃v e s',B b s=Ua ((v,e),s')/\fI e_ s s' e
theorem vR{d c:Type}:∀(l m:List d) (k:List c),Ty l=Ty k->(l++m).zip k=l.zip k
 |[],m,[],_=>by simp
 |a::l,m,b::k,h=>by simp[vR l m k G_]
section
variable {fs:List aC} {D g:Nat} {V:aC->aM->dZ aE} {B:aC->aM->dZ (aE × Bool)}
def lQ(m:pB fs D g V){k d:Nat}{e_:cY}(f:k*(D+2)+d<=g):∀(l:List aC) (s:aM),(∀a∈l,rk fs Uc e_ d a)->rq k e_ s->∃c b,fF V l s=Ua (c,b)/\eC s b/\(b.stop=0->Ty c=Ty l)
 |[],s,_,h=>⟨[],s,rfl,.refl h.rm h.bd,aD⟩
 |a::l,s,q,h=>by
  obtain⟨v,e,n,i⟩:=m k d e_ a s (G_) h f
  unfold fF;rw[ea (by simp[h.stop]),n]
  by_cases j:e.stop=0
  .obtain⟨c,o,p,r,t⟩:=lQ m f l e (G_) (h.next i j)
   grind [eC.trans]
  refine⟨[v],e,?_,i,aD⟩;cases l<;>simp[fF,j]
theorem tE(z:vM fs D g B)(m:∀f∈fs,gX fs D f){k:Nat}{s:aM}(G:s.stop=0)(K:Ty s.f_+k=16)(I:Ty s.rm<=500)(c:CU s)(p:∀f∈fs,Ty f.y_<=40000)(L:k*(D+2)<=g)(x:bP)(l:List aE)(H:x=[108,101,110]\/x=[114,101,97,100]\/gE fs (dV fs x)=Ua (Ty l)):
 ∃v h,jV fs B x l s=Ua (v,h)/\eC s h:=by
 unfold jV;split
 .grind [eC.or,eC.refl]
 split
 .cases s.tape with
  |nil=>grind [eC.or,eC.refl]
  |cons t r=>exact⟨_,_,aJ,s_,⟨c.fr,c.mo,c.va⟩,G_⟩
 split
 .grind [eC.or,eC.refl]
 rename_i C o O;obtain⟨f,E,i,P⟩:=uT (H.resolve_left (by simpa using C) |>.resolve_left (by simpa using o))
 obtain⟨w,b,y,u, -⟩:=(m f i).y_;obtain⟨k,rfl⟩:∃j,k=j+1:=⟨k-1,aD⟩;rw[E]
 obtain⟨v,e,h,n,d⟩:=z k D (w.map (·.x_)).reverse b { s with f_:=s.f_++[⟨x,0,(f.y_.map (·.x_)).zip l⟩] } u
  ⟨G,(by grind [vR,List.map_fst_zip]),G_,I,G_⟩ G_
 simp [y,Option.some_or]at n ⊢
 rw[n];refine⟨v,_,aJ,?_,?_,?_⟩
 .split<;>exact d.le
 .split
  .rename_i q;obtain⟨F,N,a,M,A,J, -⟩:=d.go q;obtain⟨rfl, -⟩:=gd A rfl;exact⟨G_,d.bd.mo,by simpa [aM.g_,J]using c.va⟩
  exact d.bd
 grind [fI.go,List.append_inj']
def MJ(i:vM fs D g B)(e:∀f∈fs,gX fs D f){k:Nat}{s:aM}(j:s.stop=0)(h:Ty s.f_+k=16)(c:Ty s.rm<=500)(a:CU s)(d:∀f∈fs,Ty f.y_<=40000)(m:k*(D+2)<=g)(n:aC)(l:List aE)
 (o:n.op=[99,97,108,108]->n.x_=[108,101,110]\/n.x_=[114,101,97,100]\/gE fs (dV fs n.x_)=Ua (Ty l)):∃v b,jQ fs B n l s=Ua (v,b)/\eC s b:=by
 unfold jQ;split
 .grind [eC.or,eC.refl]
 split
 .grind [tE]
 split
 .grind [eC.or,eC.refl]
 split<;>exact⟨_,_,aJ,(eC.refl c a).or _⟩
def JK(j:pB fs D g V){k d:Nat}{c:cY}(f:k*(D+2)+d<=g)(or:Bool){a b:aC}{s:aM}(h:rq k c s)(p:rk fs Uc c d a)(l:rk fs Uc c d b):∃v e,oG V or a b s=Ua (v,e)/\eC s e:=by
 obtain⟨v,i,o,n⟩:=j k d c a s p h f;unfold oG;simp [o];split
 .grind [eC.or]
 have m:i.stop=0:=aD;split
 .grind
 obtain⟨u,q,r,t⟩:=j k d c b i l (h.next n m) f
 grind [eC.or,eC.trans]
def GU(C:pB fs D g V)(G:vM fs D g B)(u:∀f∈fs,gX fs D f)(t:∀f∈fs,Ty f.y_<=40000):pB fs D (g+1) λn s=>gR fs V B n s:=by
 intro k d m n s A h Q;cases d with
 |zero=>exact A.elim
 |succ d=>
 have p:=eC.refl h.rm h.bd;have j:k*(D+2)+d<=g:=aD
 have c:(n.op≠[48]/\n.op≠[115]/\n.op≠[98,111,111,108]/\n.op≠[110,97,109,101]/\n.op≠[124,124]/\n.op≠[38,38])->(∀a∈n.y_,rk fs Uc m d a)->
  (n.op=[99,97,108,108]->n.x_=[108,101,110]\/n.x_=[114,101,97,100]\/gE fs (dV fs n.x_)=Ua (Ty n.y_))->∃v q,gR fs V B n s=Ua (v,q)/\eC s q:=by
  rintro⟨I,E,M,H,J,N⟩ i P;obtain⟨F,L,O,y,U⟩:=lQ C j n.y_ s i h;unfold gR;simp [I,E,M,H,J,N,O];by_cases x:L.stop=0
  .have o:=h.next y x
   obtain⟨v,S,T,W⟩:=MJ G u o.stop o.deep o.rm o.bd t aD n F G_
   grind [eC.trans]
  exact⟨_,_,by simp[x];rfl,y⟩
 rcases A with ⟨b|b|b, -⟩|⟨b, -, -⟩|⟨b,i⟩|⟨b,l,r,i,w,z⟩|⟨b,l,i,w⟩|⟨b,i,P⟩|⟨b,l,r,i,w,z⟩
 .exact⟨_,_,qr,p⟩
 .exact⟨_,_,qr,p⟩
 .exact⟨_,_,qr,p⟩
 .exact⟨_,_,qr,p⟩
 .exact c qw i qw
 .exact c qw G_ qw
 .exact c G_ G_ G_
 .exact c qw i G_
 by_cases K:n.op=[124,124]\/n.op=[38,38]
 .obtain⟨v,q,e,f⟩:=JK C j (n.op==[124,124]) h w z;grind [gR]
 refine c ?_ G_ ?_
 .grind [cU]
 grind [cU]
def oX(s:aM)(n:Nat):(s.q_ n).rm.length=Ty s.rm+1:=by grind [aM.q_,aM.notes,aM.sd]
def uS{k:Nat}{a:cY}{s:aM}(h:rq k a s)(n:Nat):CU (s.q_ n):=by
 obtain⟨c,f,e,g⟩:=h.names;have d:=oX s n;have j:=h.rm;have i:=h.bd.va
 have b:(s.q_ n).f_=c++[{ f with l_:=n }]:=by grind [aM.q_,aM.notes,aM.sd]
 refine⟨by grind [rq.deep],aD,?_⟩
 grind [aM.g_]
def rF{k:Nat}{a:cY}{s:aM}(h:rq k a s){n:Nat}(c:(s.q_ n).stop=0):rq k a (s.q_ n)/\fI a s (s.q_ n) Uc:=by
 obtain⟨d,f,i,j⟩:=h.names;have g:=oX s n
 have l:Ty s.rm≠500:=by grind [aM.q_,aM.notes]
 have b:(s.q_ n).f_=d++[{ f with l_:=n }]:=by grind [aM.q_,aM.notes,aM.sd]
 have:=h.rm;have e:=h.deep;exact⟨⟨c,G_,G_,aD,h.sl⟩,aD,uS h n,G_⟩
theorem fI.trans{b a:cY}{s c g:aM}{e i:Bool}(h:fI b s c e)(j:c.stop=0)(d:fI a c g i):fI a s g i:=by
 refine⟨eo h.le d.le,d.bd,λl=>?_⟩
 obtain⟨-,p,f,k,m,o,n, -⟩:=h.go j;grind [fI.go,List.append_inj']
theorem eC.Ae{k:Nat}{a:cY}{s b:aM}{e:Bool}(h:eC s b)(g:rq k a s):fI a s b e:=
 ⟨h.le,h.bd,λc=>by obtain⟨i,f,q,d⟩:=g.names;exact⟨(h.go c).2,i,f,f,q,by rw[(h.go c).1];exact q,aJ,λ_=>d⟩⟩
def fI.end{b a:cY}{s c:aM}{e:Bool}(h:fI b s c e):fI a s c Ud:=
 ⟨h.le,h.bd,(by grind [fI.go])⟩
def rq.yh{k:Nat}{d c:cY}{s g:aM}(h:rq k d s)(f:fI c s g Uc)(e:g.stop=0):rq k c g:=by have m:=f.bd.va;obtain⟨j,p,a,b,o,n, -,i⟩:=f.go e;have l:=h.deep;exact⟨e,G_,G_,j,by have:=fg List.length (i aJ);grind [aM.g_]⟩
def kB(f:pB fs D g V){k d:Nat}{a:cY}(i:k*(D+2)+d<=g){n:aC}{s:aM}(h:rq k a s)(j:rk fs Uc a d n):∃b c,kF V n s=Ua (b,c)/\eC s c:=by
 obtain⟨v,m,e,l⟩:=f k d a n s j h i;unfold kF;simp only[e];split
 .grind [eC.or]
 grind
def tC(y:pB fs D g V)(w:vM fs D g B){k d:Nat}{a:cY}(u:k*(D+2)+d+1<=g){n c b:aC}(z:rk fs Uc a d c)(q:rp (cO fs d) a b.y_):
 ∀(r:Nat) (t:Bool) (s:aM),1<=r->(s.stop=0->rq k a s/\502<=r+Ty s.rm)->∃v e p,iL V B n c b r t s=Ua ((v,e),p)/\Ty s.rm<=Ty p.rm/\(s.stop=0->fI a s p e)
 |0,_,_,h,_=>by omega
 |r+1,t,s,_,h=>by
  unfold iL;split
  .grind [eC.Ae,eC.refl,rq.rm,rq.bd]
  have H:s.stop=0:=aD;obtain⟨h,M⟩:=h H;obtain⟨v,e,i,L,f⟩:=w k d a b s q h u;simp only[L];split
  .exact⟨_,_,_,aJ,f.le,λ_=>f⟩
  obtain⟨rfl,E⟩:e=Uc/\i.stop=0:=G_
  have A:=h.yh f E;have N:=oX i n.l_;have:=f.le;have:=h.rm;split
  .obtain⟨v,e,j,l,m, -⟩:=tC y w u z q r t (i.q_ n.l_) aD (aD)
   obtain rfl:j=i.q_ n.l_:=by
    cases r with
    |zero=>exact aD
    |succ r=>unfold iL at l;grind
   exact⟨v,e,_,l,aD,λ_=>⟨aD,uS A _,aD⟩⟩
  have C:(i.q_ n.l_).stop=0:=aD;obtain⟨F,K⟩:=rF A C;obtain⟨I,j,l,m⟩:=kB y aD F z;simp only[l];have:=m.le;obtain⟨v,e,G,o,O,J⟩:=tC y w u z q r I j aD ((by grind [rq.next]))
  refine⟨v,e,G,o,aD,λ_=>?_⟩
  by_cases x:j.stop=0
  .exact(f.trans E (K.trans C (m.Ae F (e:=Uc)))).trans x (J x)
  cases r with
  |zero=>exact aD
  |succ r=>
   unfold iL at o;rw[ef (ec x)]at o;cases o;exact⟨aD,m.bd,aD⟩
theorem wU{k:Nat}{b a:cY}{s:aM}(h:rq k b s)(F:iW->iW)(e:∀f,(F f).name=f.name/\(f.g_.map (·.1)=b.reverse->(F f).g_.map (·.1)=a.reverse))(j:Ty a<=50000):fI a s (s.sd F) Uc:=by obtain⟨l,f,g,c⟩:=h.names;have i:=fg List.length ((e f).2 c);have d:=h.bd;exact⟨fi _,⟨by grind [CU.fr,aM.sd],d.mo,by grind [aM.sd,aM.g_]⟩,(by grind [rq.rm,aM.sd])⟩
theorem EJ{a:cY}{s:aM}{n:Nat}(b:CU s)(c:n≠0){e:Bool}:fI a s { s with stop:=n } e:=⟨s_,⟨b.fr,b.mo,b.va⟩,G_⟩
theorem QB{l:List (bP × aE)}{i:Nat}{v:aE}:(l.set i (((l[i]?.map (·.1)).getD []),v)).map (·.1)=l.map (·.1):=by grind [List.map_set,List.set_getElem_self,List.set_eq_of_length_le]
def LM{k:Nat}{b:cY}{s:aM}(h:rq k b s)(n:aC)(l:List aE)(g:n.op=[118,97,114]->n.y_≠[])(c:Ty (cR b n)<=50000):fI (cR b n) s (fY n l s) Uc:=by
 have d:∀{e},fI b s s e:=(eC.refl h.rm h.bd).Ae h;unfold fY cR at*;simp;split
 .cases f:n.y_ with
  |nil=>grind
  |cons a r=>grind [wU]
 split
 .split
  .exact EJ h.bd d_
  exact⟨s_,⟨h.bd.fr,h.bd.mo,h.bd.va⟩,d.go⟩
 grind [wU,QB,EJ,rq.bd]
def EL{b:cY}{a:aC}(h:a.op≠[118,97,114]):cR b a=b:=by unfold cR;grind
def EM{d:Nat}{b:cY}{a:aC}(h:cO fs d b a)(c:Ty b<=50000):Ty (cR b a)<=50000:=by
 cases d with
 |zero=>exact h.elim
 |succ d=>
  grind [cR,cO]
def yW(E:pB fs D g V)(M:vM fs D g B){k d:Nat}{f:cY}(U:k*(D+2)+d<=g){n:aC}{s:aM}(G:cO fs d f n)(h:rq k f s):∃v e u,mR V B n s=Ua ((v,e),u)/\fI (cR f n) s u e:=by
 cases d with
 |zero=>exact G.elim
 |succ d=>
 have X:=oX s n.l_;unfold mR;simp only[beq_iff_eq];split
 .rename_i A;exact⟨_,_,_,aJ,aD,uS h _,aD⟩
 rename_i A;have A:(s.q_ n.l_).stop=0:=aD;obtain⟨z,I⟩:=rF h A;have J:=EM G h.sl
 have q:∀l,(∀a∈l,rk fs Uc f d a)->(n.op=[118,97,114]->n.y_≠[])->∃w m,fF V l (s.q_ n.l_)=Ua (w,m)/\fI (cR f n) s (if m.stop=0 then fY n w m else m) Uc:=by
  intro l P K;obtain⟨w,m,o,j, -⟩:=lQ E aD l _ P z;refine⟨w,m,o,?_⟩;by_cases r:m.stop=0
  .rw[ef r];exact(I.trans A (j.Ae z (e:=Uc))).trans r (LM (z.next j r) n w K J)
  rw[ea r];exact⟨by have:=j.le;exact aD,j.bd,aD⟩
 unfold cO at G;rcases G with ⟨i, -,t,v,p,K, -⟩|⟨i, -, -,p⟩|⟨i,c,t,p,F,T⟩|⟨i,c,b,p,F,L⟩|⟨i,p⟩|⟨i,v,p,K⟩|⟨i,c,p,F⟩
 .obtain⟨w,m,o,j⟩:=q [v] G_ (by simp[p])
  exact⟨_,_,_,by simp[i,p,o];rfl,j⟩
 .obtain⟨w,m,o,j⟩:=q n.y_ p qs
  exact⟨_,_,_,by simp[i,o];rfl,j⟩
 .rw[ef i,EL qs]
  obtain⟨b,m,o,j⟩:=kB E aD z F
  have L:∀y,rp (cO fs d) f y.y_->m.stop=0->∃v e u,B y m=Ua ((v,e),u)/\fI f s u e:=λy Q r=>by
   obtain⟨v,e,u,C,N⟩:=M k d f y m Q (z.next j r) aD
   exact⟨v,e,u,C,(I.trans A (j.Ae z (e:=Uc))).trans r N⟩
  have H:∃v e u,Ua ((aY,Uc),m)=Ua ((v,e),u)/\fI f s u e:=(by grind [fI.trans,eC.Ae])
  rcases p with p|⟨x,p,W⟩
  all_goals
   rw[p];simp only[o];split
   .exact H
   grind
 .rw[ea qs,ef i,EL qs,p]
  obtain⟨t,m,o,j⟩:=kB E aD z F;simp only[o];have:=j.le;obtain⟨v,e,O,C,N,S⟩:=tC E M (k:=k) (d:=d) aD F L (n:=n) 1000 t m d_ ((by grind [rq.next]))
  refine⟨v,e,O,C,?_⟩;by_cases r:m.stop=0
  .exact(I.trans A (j.Ae z (e:=Uc))).trans r (S r)
  unfold iL at C;rw[ef (ec r)]at C;cases C;exact⟨aD,j.bd,aD⟩
 .rw[ea qs,ea qs,ef i]
  obtain⟨w,m,o,j, -⟩:=lQ E (k:=k) (d:=d) (e_:=f) aD n.y_ _ G_ z
  simp only[o];grind [fI.trans,eC.Ae,cR]
 .obtain⟨w,m,o,j⟩:=q n.y_ G_ qs
  exact⟨_,_,_,by simp[i,o];rfl,j⟩
 obtain⟨w,m,o,j⟩:=q n.y_ G_ qs
 exact⟨_,_,_,by simp[i,o];rfl,j⟩
def AX(t:pB fs D g V)(o:vM fs D g B){k d:Nat}{b:cY}(n:k*(D+2)+d<=g):∀(l:List aC) (c:cY) (s:aM),rp (cO fs d) (c++b) l->rq k (c++b) s->∃v e j,nU (mR V B) (Ty b) l s=Ua ((v,e),j)/\fI b s j e
 |[],c,s,_,h=>⟨_,_,_,rfl,wU h _ ((by grind [List.map_take])) (by have:=h.sl;grind)⟩
 |a::l,c,s,p,h=>by
  obtain⟨v,e,q,w,i⟩:=yW t o n p.1 h;unfold nU;simp only[w];split
  .refine⟨_,_,_,aJ,i.le,i.bd,λx=>?_⟩
   grind [fI.go]
  obtain⟨rfl,u⟩:e=Uc/\q.stop=0:=G_
  obtain⟨m,r⟩:=qQ (c++b) a;rw[r,<-gw]at i;have f:=p.2;rw[r,<-gw]at f;obtain⟨v,e,y,z,A⟩:=AX t o n l (m++c) q f (h.yh i u);grind [fI.trans]
def sU(i:∀f∈fs,gX fs D f)(c:∀f∈fs,Ty f.y_<=40000):∀g,pB fs D g (qT fs g).1/\vM fs D g (qT fs g).2
 |0=>⟨λk d a n s p _ o=>by obtain rfl:d=0:=aD;exact p.elim,(by grind [vM])⟩
 |g+1=>by
  obtain⟨l,j⟩:=sU i c g;refine⟨GU l j i c,λk d a b s m h o=>?_⟩
  obtain⟨t,f,u,q⟩:=h.names
  have:Ty s.g_=Ty a:=by have:=fg List.length q;grind [aM.g_]
  show ∃v e r,nU _ (Ty s.g_) b.y_ s=_/\_
  rw[this];exact AX l j aD b.y_ [] s m h
def LN(c:∀f∈fs,gX fs D f)(b:∀f∈fs,Ty f.y_<=40000)(d:gE fs (dV fs [109,97,105,110])=Ua 0)(a:List Int):∃l,sM fs (16*(D+2)) a=Ua l:=by
 obtain⟨v,g,e, -⟩:=tE (sU c b (16*(D+2))).2 c (k:=16) (s:=⟨[],a,[],[],0⟩) rfl rfl s_ ⟨s_,s_,by simp[aM.g_]⟩ b (aD) [109,97,105,110] [] (by simp[d])
 exact⟨_,by unfold sM;rw[e]⟩
end
def aO.Ak:aO->Bool
 |.push _=>Ud
 |.load _=>Ud
 |.rs _ _=>Ud
 |.sk=>Ud
 |.unary _=>Ud
 |.binary _=>Ud
 |.index=>Ud
 |.list _=>Ud
 |.length=>Ud
 |_=>Uc
structure Ei(i:aO)(f:aI):Prop where
 ex:i.Ak=Ud
 ops:Ty f.ops<=99000
 yz:bU f
 mem:i∈f.fn.code
 at_:∃(ar:Nat->Option Nat) (D:bN) (T:Nat->gM) (p:Nat),iR ar D T p i/\(T p).h=Ty f.ops/\(T p).v<=Ty f.g_
structure SO(f:aI):Prop where
 code:∃(ar:Nat->Option Nat) (T:Nat->gM),(∀j i,f.fn.code[j]?=Ua i->iR ar (λq=>q<=Ty f.fn.code) T j i/\i.Ak=Ud)/\(T f.next).h=Ty f.ops/\(T f.next).v<=Ty f.g_/\(T (Ty f.fn.code)).h=1
 len:Ty f.fn.code<=90000
 next:f.next<=Ty f.fn.code
 yz:bU f
noncomputable def BS:Nat->aI->aI × Nat
 |0,f=>(f,0)
 |k+1,f=>
  match f.se with
  |none=>(f,0)
  |some (i,g)=>if (aR i g).2=0 then BS k (aR i g).1 else aR i g
def SO.step{f:aI}(h:SO f)(C:f.next<Ty f.fn.code):∃i g,f.se=Ua (i,g)/\g.fn=f.fn/\Ei i g/\(∀k,BS (k+1) f=if (aR i g).2=0 then BS k (aR i g).1 else aR i g)/\((aR i g).2=0->SO (aR i g).1/\f.next<(aR i g).1.next):=by
 obtain⟨⟨p,T,x,A,D,M⟩,H,I,o⟩:=h;have B:=fe C;have t:f.se=Ua (f.fn.code[f.next],{ f with next:=f.next+1 }):=by grind [aI.se]
 obtain⟨b,d⟩:=x _ _ B;have u:f.fn.code[f.next]∈f.fn.code:=(by simp)
 generalize f.fn.code[f.next]=i at*
 refine⟨i,_,t,aJ,⟨d,by have:=b.2.1;grind,o.next _,u,p,_,T,_,b,A,D⟩,λk=>by rw[BS,t],λs=>?_⟩
 have m:bU (aR i { f with next:=f.next+1 }).1:=wZ (o.next _) λv e=>by subst e;exact o.fn.1 v u
 have c:∀q l j r,fO (λq=>q<=Ty f.fn.code) T q l j r->(aR i { f with next:=f.next+1 }).1.next=q->f.next<q->(aR i { f with next:=f.next+1 }).1.ops.length=l->(aR i { f with next:=f.next+1 }).1.g_=f.g_->j=(T f.next).v->SO (aR i { f with next:=f.next+1 }).1/\f.next<(aR i { f with next:=f.next+1 }).1.next:=λq l j r n K G L O E=>by
  obtain⟨F,J,N,_⟩:=n;have z:(aR i { f with next:=f.next+1 }).1.fn=f.fn:=qC _ _
  refine⟨⟨⟨p,T,?_,?_,?_,?_⟩,?_,?_,m⟩,aD⟩
  .rw[z];exact x
  .grind
  .grind
  .grind
  .grind
  grind
 obtain⟨-, -,b⟩:=b;cases i<;>first|(cases d;done)|skip
 case push a=>grind [aR,aI.push]
 case load k=>grind [aR,aI.push]
 case rs w q=>
  grind [aR,aI.push,aI.pop]
 case sk=>
  grind [aR,aI.push,aI.pop]
 all_goals
  simp only[aR]at s c ⊢
  split at s
  .rename_i y;simp only[y,if_true]at c ⊢
   refine c _ _ _ _ b.2 aJ aD ?_ rfl rfl;simp[aI.push,aI.pop,aI.n_];exact aD
  contradiction
end Go.Proofs.YtjhbbdpfkccohaaGreatDoor.Hs
namespace Go.Proofs.YtjhbbdpfkccohaaGreatDoor
open Hs
open _root_.Go.Proofs.Tryz
open Go.RowKit
variable{c:Array Uf}{y:Uh}{F:Except Nat Nat}{S:List Uf}{X:List aC}{J M R Y:Nat}{x:Option Addr}{n:Option Nat}{P:Prop}{g:Type}{e:TypeId}{j:Uf->aC->Prop}{a:aC}{K T Z:aN}{C U:aW}{W:bN}{L V:bP}{r:bS aC}
theorem aB{p:Prop}(h:p):Ul p:=h
def nV{k:IntKind}{a b:Int}(h:a=b):Ending.returned (Ux k a)=bY (Ux k b):=by rw[h]
def gO{a b:Bool}(h:a=b):Ending.returned (Uw a)=bY (Uw b):=by rw[h]
theorem ND(s:ByteArray)(k:Nat)(h:k<s.size):(dY s).take (k+1)=(dY s).take k++[s[k]]:=by rw[g9 qm];rfl
def Cz(c d:UInt8):(c=d)↔((c.toNat:Int)=(d.toNat:Int)):=by grind [UInt8.toNat_inj]
def mH(c:UInt8):(c.toNat:Int)<=255:=by have:=c.toNat_lt;exact aD
theorem lV(s:ByteArray)(k:Nat)(h:k<s.size):s.data.toList[k]?=Ua s[k]:=by simp[h];rfl
theorem gF(s:ByteArray)(k:Nat)(h:k<s.size):s.data.toList.drop k=s[k]::s.data.toList.drop (k+1):=iw qm
def K9(s:ByteArray)(n:Nat)(w:aN)(f:s.size<=2000000000)(g:n<=s.size):
 Ue Un 97 #[Q_ s,I_ n] w λe w'=>e=bY (I_ (bD (s.data.toList.take n)))/\w'=w:=by
 go_in
 go_wp2
 go_loop [5,6] (λt i=>∃k:Nat,k<=n/\i=I_ k/\t=I_ (bD (s.data.toList.take k))) (λ_ i=>n-(intOf i).toNat)
 case atStart=>exact⟨0,aD,rfl,rfl⟩
 case round=>
  obtain⟨k,c,rfl,rfl⟩:=hrel;have d:=BM (s.data.toList.take k);have:=List.length_take_le k s.data.toList;by_cases a:k<n
  .have b:Ul (bD (s.data.toList.take (k+1))=bD (s.data.toList.take k)+if s[k]=10 then 1 else 0):=by rw[ND s k aD,JM];rfl
   go_wp2
   all_goals
    go_round
    case rel=>exact⟨k+1,aD,la,by rw[b];simp_all [Cz]⟩
    grind [intOf]
  go_wp2
  go_ret;exact⟨nV G_,rfl⟩
def ZL(s:ByteArray)(n a b:Nat)(w:aN)(_hs:s.size<=2000000000):
 Ue Un 206 #[Q_ s,I_ n,I_ a,I_ b] w λe w'=>e=bY (Uw (iY (dY s) n a b))/\w'=w:=by
 by_cases f:n<s.size
 .have d:=mH s[n];have c:=aB (show iY (dY s) n a b=(decide (a<=s[n].toNat) && decide (s[n].toNat<=b)) by grind [iY,lV])
  go_in
  go_wp2
  all_goals
   go_ret;exact⟨gO (by rw[c];simp[*]),rfl⟩
 have c:=aB (show iY (dY s) n a b=Uc by unfold iY;rw[ix kj])
 go_in
 go_wp2
 go_ret;exact⟨gO (by rw[c]),rfl⟩
def LU(l:bP)(n lo hi k:Nat):Bool:=iY l (n+1) lo hi && (List.range (k-2)).all λj=>iY l (n+(j+2)) 128 191
def Kk(l:bP)(n a b k:Nat)(h:2<=k):LU l n a b (k+1)=(LU l n a b k && iY l (n+k) 128 191):=by obtain⟨j,rfl⟩:∃j,k=j+2:=⟨k-2,aD⟩;grind [LU]
def Ad(c:Nat):Nat × Nat × Nat:=(if 194<=c/\c<=223 then 2 else if 224<=c/\c<=239 then 3 else if 240<=c/\c<=244 then 4 else 0,if c=224 then 160 else if c=240 then 144 else 128,if c=237 then 159 else if c=244 then 143 else 191)
def Sd(l:bP)(n i a b:Nat):iY (l.drop n) i a b=iY l (n+i) a b:=by grind [iY]
def Pa(s:ByteArray)(n:Nat)(e:n<s.size)(h:¬s[n].toNat<128):bW ((dY s).drop n)=if LU (dY s) n (Ad s[n].toNat).2.1 (Ad s[n].toNat).2.2 (Ad s[n].toNat).1 then (Ad s[n].toNat).1 else 0:=by
 unfold bW;rw[List.getElem?_drop,gu,lV s n e];simp only[h,Sd];generalize s[n].toNat=c at h ⊢
 unfold LU Ad;by_cases b:194<=c/\c<=223
 .grind
 by_cases a:224<=c/\c<=239
 .grind
 by_cases d:240<=c/\c<=244
 .have:c≠224/\c≠237:=aD;simp[b,a,d,this,List.range_succ,Bool.and_assoc]
 simp[b,a,d]
def KC(s:ByteArray)(n:Nat)(w:aN)(F:s.size<=2000000000)(G:n<s.size):
 Ue Un 159 #[Ur s,I_ n] w λe w'=>e=bY (I_ (bW (s.data.toList.drop n)))/\w'=w:=by
 have z:=mH s[n];by_cases o:s[n].toNat<128
 .have r:(s[n].toNat:Int)<128:=aD;go_in
  go_wp2
  go_ret;exact⟨nV (by grind [bW,lV]),rfl⟩
 have D:=aB (Pa s n G o);have r:¬(s[n].toNat:Int)<128:=aD;obtain⟨N,m⟩:∃N,N=(Ad s[n].toNat).1:=(by simp)
 obtain⟨f,j⟩:∃N,N=(Ad s[n].toNat).2.1:=(by simp)
 obtain⟨c,g⟩:∃N,N=(Ad s[n].toNat).2.2:=(by simp)
 have p:=aB (dy m (dy j g));have I:N<=4/\N≠1:=by grind [Ad]
 rw[<-m,<-j,<-g]at D;clear m j g o;go_in
 go_upto_block 0 with fail
 go_cut [6,7,8] (λa b d B=>B=w/\a=I_ N/\b=I_ f/\d=I_ c)
 case first=>
  go_wp2
  all_goals
   go_meet
   case rel=>
    obtain⟨y,H,u⟩:=p.out;subst y H u;refine⟨aJ,?_,?_,?_⟩<;>simp only[Ad,beq_iff_eq,beq_eq_false_iff_ne]at* <;>(repeat' split)<;>first|rfl|exact aD
 case rest=>
  obtain⟨rfl,rfl,rfl,rfl⟩:=hcut;have q:∀i f c:Nat,Ue Un 206 #[Ur s,I_ ((n:Int)+i),I_ f,I_ c] wc _:=λi f c=>ZL s (n+i) f c wc F
  clear p r z;go_wp2_with (apply (q 1 _ _).mono;rintro e w' ⟨rfl,rfl⟩)
  go_loopg [9,10] 3 (λgk ok i wr=>∃k:Nat,2<=k/\k+gk=5/\(k<=N\/k=2)/\i=I_ k/\ok=Uw (LU s.data.toList n f c k)/\wr=w')
  case atStart=>exact⟨2,aD,aD,aD,rfl,by simp[LU],rfl⟩
  case round=>
   obtain⟨k,A,x,v,rfl,rfl,rfl⟩:=hrel;by_cases t:k<N
   .have E:=aB (Kk s.data.toList n f c k A);have C:(k:Int)<(N:Int):=aD;go_wp2_with (apply (q k 128 191).mono;rintro e w' ⟨rfl,rfl⟩)
    all_goals
     go_roundg (4-k)
     case measure=>exact aD
     case rel=>exact⟨k+1,aD,aD,aD,la,by rw[E];simp[*],rfl⟩
   have C:¬(k:Int)<(N:Int):=aD
   have J:Ul (bW (s.data.toList.drop n)=if LU s.data.toList n f c k then N else 0):=by grind [LU]
   cases l:LU s.data.toList n f c k
   all_goals
    go_wp2
    go_ret;exact⟨nV (by rw[J,l];rfl),rfl⟩
theorem yR(s:ByteArray)(n i:Nat)(h:n+i<s.size):((dY s).drop n)[i]?=Ua s[n+i]:=by grind [lV]
theorem AE(s:ByteArray)(n i:Nat)(h:s.size<=n+i):((dY s).drop n)[i]?=none:=by simpa using h
theorem xZ(l:bP):bW l<=Ty l:=by grind [bW,iY]
def IW:Option Nat->Int
 |some k=>k
 |none=> -1
def BA(l:bP)(p f:Nat)(h:0<Ty l)(a:bW l≠0):dU (f+1) l p=dU f (l.drop (bW l)) (p+bW l):=by grind [dU]
def UH(l:bP)(p f:Nat)(h:0<Ty l)(a:bW l=0):dU (f+1) l p=Ua p:=by grind [dU]
theorem EK(l:bP)(p f:Nat)(h:Ty l=0):dU f l p=none:=by
 cases f with
 |zero=>rfl
 |succ f=>rw[dU,ef h]
def zT(s:ByteArray)(w:aN)(n:s.size<=2000000000):
 Ue Un 96 #[Ur s] w λe w'=>e=bY (I_ (IW (dU s.size s.data.toList 0)))/\w'=w:=by
 have l:Ty s.data.toList=s.size:=s_
 go_in
 go_wp2
 go_loop [3] (λi=>∃k f:Nat,k<=s.size/\s.size<=k+f/\i=I_ k/\Ul (dU s.size s.data.toList 0=dU f (s.data.toList.drop k) k)) (λi=>s.size-(intOf i).toNat)
 case atStart=>exact⟨0,s.size,aD,aD,rfl,rfl⟩
 case round=>
  obtain⟨k,f,u,v,rfl,m⟩:=hrel;by_cases a:k<s.size
  .have g:Ty (s.data.toList.drop k)=s.size-k:=s_
   have d:=xZ (s.data.toList.drop k);obtain⟨f,rfl⟩:∃t,f=t+1:=⟨f-1,aD⟩;by_cases o:bW (s.data.toList.drop k)=0
   .have b:=UH _ k f aD o;have p:Ul (dU s.size s.data.toList 0=Ua k):=G_
    clear b m;go_wp2_with (go_at_call 159;refine(KC s k _ n a).mono ?_;rintro e w' ⟨rfl,rfl⟩)
    go_ret;exact⟨nV (by rw[p];rfl),rfl⟩
   have b:=BA _ k f aD o
   have p:Ul (dU s.size s.data.toList 0=dU f (s.data.toList.drop (k+bW (s.data.toList.drop k))) (k+bW (s.data.toList.drop k))):=by grind [List.drop_drop]
   clear b m;rw[g]at d;clear g;generalize j:bW (s.data.toList.drop k)=c at*;have r:Ul (bW (s.data.toList.drop k)=c):=j;clear j;have q:((c:Int)==0)=Uc:=G_
   go_wp2_with (go_at_call 159;refine(KC s k _ n a).mono ?_;rw[r];rintro e w' ⟨rfl,rfl⟩)
   grind [intOf]
  go_wp2
  go_ret;exact⟨nV (by grind [d7,EK,IW]),rfl⟩
def oJ(c:UInt8)(w:aN):
 Ue Un 208 #[Ux .u8 c.toNat] w λe w'=>e=bY (Uw (dL c))/\w'=w:=by
 go_wp2
 all_goals
  go_ret;exact⟨gO (by grind [dL]),rfl⟩
def oA(c:UInt8)(w:aN):
 Ue Un 209 #[Ux .u8 c.toNat] w λe w'=>e=bY (Uw (eF c))/\w'=w:=by
 have b:(c.toNat:Int)<=255:=mH c;have a:Ul (eF c=(c.toNat==95 || (decide (97<=c.toNat) && decide (c.toNat<=122) || decide (65<=c.toNat) && decide (c.toNat<=90)))):=rfl
 go_in
 go_wp2
 all_goals
  go_ret;exact⟨gO (by rw[a,jg];constructor<;>intro h<;>(try simp at h)<;>(try simp)<;>exact aD),rfl⟩
theorem nX(x l:bP)(h:Ty x<=Ty l):x.isPrefixOf l=(l.take (Ty x)==x):=by
 induction x generalizing l with
 |nil=>simp
 |cons a x c=>
  cases l with
  |nil=>simp at h
  |cons b l=>
   grind
def vF(x l:bP)(h:Ty l<Ty x):x.isPrefixOf l=Uc:=by grind
def tZ(s x:ByteArray)(n:Nat)(w:aN)(b:s.size<=2000000000)(c:x.size<=100)(d:n<=s.size):
 Ue Un 207 #[Ur s,I_ n,Ur x] w λe w'=>e=bY (Uw (eE (s.data.toList.drop n) x.data.toList))/\w'=w:=by
 by_cases h:x.size<=s.size-n
 .have a:Ul (eE (s.data.toList.drop n) x.data.toList=((s.extract n (n+x.size)).toList==x.toList)):=by
   unfold eE Ul;rw[nX _ _ qm,Lib.extract_toList,Lib.toList_data]
   simp
  go_wp2
  go_ret;exact⟨gO (by rw[a]),rfl⟩
 have a:Ul (eE (s.data.toList.drop n) x.data.toList=Uc):=by exact vF _ _ kj
 go_wp2
 go_ret;exact⟨gO (by rw[a]),rfl⟩
def KH(f:Nat):cJ f []=0:=by cases f<;>rfl
def CG(f:Nat)(c:UInt8)(r:bP)(h:c.toNat=32\/c.toNat=9\/c.toNat=10):cJ (f+1) (c::r)=cJ f r+1:=by rw[cJ,ef h]
def zH(f:Nat)(c:UInt8)(r:bP)(h:¬(c.toNat=32\/c.toNat=9\/c.toNat=10))(a:eE (c::r) [47,47]=Ud):
 cJ (f+1) (c::r)=bR fT (c::r)+cJ f ((c::r).drop (bR fT (c::r))):=by
 grind [cJ]
def FL(f:Nat)(c:UInt8)(r:bP)(h:¬(c.toNat=32\/c.toNat=9\/c.toNat=10))(a:eE (c::r) [47,47]=Uc):
 cJ (f+1) (c::r)=0:=by
 grind [cJ]
def pL(p:UInt8->Bool)(c:UInt8)(r:bP)(h:p c=Ud):bR p (c::r)=bR p r+1:=by rw[bR,ef h]
def IJ(p:UInt8->Bool)(c:UInt8)(r:bP)(h:p c=Uc):bR p (c::r)=0:=by grind [bR]
def NV(b:UInt8):fT b=((b.toNat:Int) != 10):=by grind [fT]
def OX(s:ByteArray)(n:Nat)(w:aN)(x:s.size<=2000000000)(B:n<=s.size):
 Ue Un 160 #[Ur s,I_ n] w λe w'=>e=bY (I_ ((n+cJ s.size (s.data.toList.drop n):Nat)))/\w'=w:=by
 go_in
 go_wp2
 go_loop [1] (λi=>∃k f:Nat,k<=s.size/\s.size<=k+f/\i=I_ k/\Ul (n+cJ s.size (s.data.toList.drop n)=k+cJ f (s.data.toList.drop k))) (λi=>s.size-(intOf i).toNat)
 case atStart=>exact⟨n,s.size,B,aD,rfl,rfl⟩
 case round=>
  obtain⟨k,f,q,I,rfl,a⟩:=hrel;by_cases d:k<s.size
  .have G:(s[k].toNat:Int)<=255:=mH s[k];obtain⟨f,rfl⟩:∃A,f=A+1:=⟨f-1,aD⟩;rw[gF s k d]at a;by_cases l:s[k].toNat=32\/s[k].toNat=9\/s[k].toNat=10
   .rw[CG _ _ _ l]at a
    have o:Ul (n+cJ s.size (s.data.toList.drop n)=k+1+cJ f (s.data.toList.drop (k+1))):=by grind
    clear a;rcases l with l|l|l
    all_goals
     have v:((s[k].toNat:Int))=_:=fg _ l;clear l;go_wp2_with fail;grind [intOf]
   have H:((s[k].toNat:Int)==32)=Uc:=G_
   have F:((s[k].toNat:Int)==9)=Uc:=G_
   have J:((s[k].toNat:Int)==10)=Uc:=G_
   cases b:eE (s[k]::s.data.toList.drop (k+1)) [47,47]
   .rw[FL _ _ _ l b]at a;rw[<-gF s k d]at b;go_wp2_with (go_at_call 207;refine(tZ s _ k _ x d_ q).mono ?_;rw[b];rintro e w' ⟨rfl,rfl⟩)
    go_ret;exact⟨nV (by have:=a.out;exact aD),rfl⟩
   rw[zH _ _ _ l b]at a
   have y:Ul (1<=bR fT (s.data.toList.drop k)):=by rw[gF s k d,pL _ _ _ (by unfold fT;grind)];show _<=_;exact aD
   rw[<-gF s k d]at b a;rw[jh]at a;go_wp2_with (go_at_call 207;refine(tZ s _ k _ x d_ q).mono ?_;rw[b];rintro e w' ⟨rfl,rfl⟩)
   go_loop [1] (λi=>∃j:Nat,k<=j/\j<=s.size/\i=I_ j/\Ul (k+bR fT (s.data.toList.drop k)=j+bR fT (s.data.toList.drop j))) (λi=>s.size-(intOf i).toNat)
   case atStart=>exact⟨k,aD,q,rfl,rfl⟩
   case round=>
    obtain⟨j,z,E,rfl,g⟩:=hrel;by_cases C:j<s.size
    .have D:(s[j].toNat:Int)<=255:=mH s[j];rw[gF s j C]at g;have c:=NV s[j];cases m:fT s[j]
     .rw[IJ _ _ _ m]at g;rw[m]at c;have v:((s[j].toNat:Int) != 10)=Uc:=c.symm;clear c m;have t:k<j:=G_
      have o:Ul (n+cJ s.size (s.data.toList.drop n)=j+cJ f (s.data.toList.drop j)):=by
       have u:=g.out;have r:=a.out;rw[show k+bR fT (s.data.toList.drop k)=j by omega]at r
       show _=_;exact aD
      clear g a y;go_wp2_with fail;go_round
      case rel=>exact⟨j,f,aD,aD,rfl,o⟩
      case measure=>simp[intOf];exact aD
     rw[pL _ _ _ m]at g;rw[m]at c;have v:((s[j].toNat:Int) != 10)=Ud:=c.symm;clear c m
     have o:Ul (k+bR fT (s.data.toList.drop k)=j+1+bR fT (s.data.toList.drop (j+1))):=by grind
     clear g;go_wp2_with fail;grind [intOf]
    have p:s.data.toList.drop j=[]:=gp kj
    rw[p]at g;have t:k<j:=aD
    have o:Ul (n+cJ s.size (s.data.toList.drop n)=j+cJ f (s.data.toList.drop j)):=by
     have u:=g.out;have r:=a.out;rw[show k+bR fT (s.data.toList.drop k)=j by rw[u];rfl]at r
     have K:k+bR fT (s.data.toList.drop k)=j:=by rw[u];rfl
     show _=_;exact aD
    clear g a y p;go_wp2_with fail;go_round
    case rel=>exact⟨j,f,aD,aD,rfl,o⟩
    case measure=>simp[intOf];exact aD
  have p:s.data.toList.drop k=[]:=gp kj
  rw[p,KH]at a;go_wp2
  go_ret;exact⟨nV (by have:=a.out;exact aD),rfl⟩
def GO:Option Nat->Uf
 |some n=>Uu #[I_ n,Uw Ud]
 |none=>Uu #[I_ 0,Uw Uc]
def CV(s:ByteArray)(w:aN)(m:s.size<=2000000000)(a:∀k (h:k<s.size),dL s[k]=Ud):
 Ue Un 130 #[Ur s] w λe w'=>e=bY (GO (dS 0 s.data.toList))/\w'=w:=by
 have p:Ul (∀k (h:k<s.size),dL s[k]=Ud):=a;clear a;go_in
 go_wp2
 go_loop [4,5] (λx i=>∃k n:Nat,k<=s.size/\n<=9223372036854775807/\i=I_ k/\x=I_ n/\Ul (dS 0 s.data.toList=dS n (s.data.toList.drop k))) (λ_ i=>s.size-(intOf i).toNat)
 case atStart=>exact⟨0,0,aD,aD,rfl,rfl,rfl⟩
 case round=>
  obtain⟨k,n,l,o,rfl,rfl,b⟩:=hrel;by_cases c:k<s.size
  .have d:48<=(s[k].toNat:Int)/\(s[k].toNat:Int)<=57:=by grind [d7,dL]
   obtain⟨j,g⟩:=d;rw[gF s k c,dS]at b;go_wp2_with fail
   .have f:(9223372036854775807-((s[k].toNat:Int)-48))/10<(n:Int):=by assumption
    go_ret2
    refine⟨?_,aJ⟩;rw[b,ef (by unfold rA;exact aD)];rfl
   grind [rA,intOf]
  have a:s.data.toList.drop k=[]:=gp kj
  rw[a,dS]at b;go_wp2
  go_ret2
  exact⟨by rw[b];rfl,rfl⟩
theorem jT(l:bP):(bs l).data.toList=l:=by simp[bs]
theorem iT(l:bP):(bs l).size=Ty l:=by simp[bs,ByteArray.size]
theorem SB{a b:ByteArray}(h:a.data.toList=b.data.toList):a=b:=by cases a;cases b;grind [Array.toList_inj]
theorem rW(s:ByteArray)(a b:Nat):s.extract a b=bs (((dY s).drop a).take (b-a)):=
 SB (by rw[Lib.extract_data,jT])
theorem aX(l:bP):(bs l).toList=l:=by rw[Lib.toList_data,jT]
structure fN(w:aN):Prop where
 kw:∀i (h:i<9),T_ w (aL 4 i)=Ua (Ur (bs (fC[i]'(by simpa [fC]using h))))
 ot:∀i (h:i<21),T_ w (aL 0 i)=Ua (Ur (bs (eK[i]'(by simpa [eK]using h))))
 wv:11<=w.heap.size
theorem fN.below{c:aN}(h:fN T)(b:R_ T c):fN c:=
 ⟨λi a=>by rw[b.cell (by grind [fN.wv])];exact h.kw i a,λi a=>by rw[b.cell (by grind [fN.wv])];exact h.ot i a,by have:=b.size;have:=h.wv;exact aD⟩
def S6(l:bP)(h:∀c∈l,dK Uc c=Ud):∀k (a:k<(bs l).size),dL (bs l)[k]=Ud:=by
 intro k a;have e:(bs l)[k]=l[k]'(by exact a):=r_
 grind [List.getElem_mem,dK]
def Q6(s:ByteArray)(n:Nat)(w:aN)(F:s.size<=2000000000)(G:n<s.size)(A:eF s[n]=Uc)(t:bP)(z:Nat)(o:Option Nat)
 (C:Ul (t=((dY s).drop n).take z)) (p:Ul (z=bR (dK Uc) ((dY s).drop n))) (q:Ul (dS 0 t=o)):
 Ue Un 210 #[Q_ s,I_ n] w λe w'=>
  e=bY (Uu #[Us #[Ux .u8 48,Q_ (bs t),I_ 0],I_ ((n+z:Nat)),Uw o.isSome])/\R_ w w':=by
 go_in
 go_wp2_with (first|(go_at_call 209;apply (oA _ _).mono;rw[A];rintro e w' ⟨rfl,rfl⟩))
 go_loop [7] (λi=>∃j:Nat,n<=j/\j<=s.size/\i=I_ j/\Ul (n+bR (dK Uc) ((dY s).drop n)=j+bR (dK Uc) ((dY s).drop j))) (λi=>s.size-(intOf i).toNat)
 case atStart=>exact⟨n,aD,aD,rfl,rfl⟩
 case round=>
  obtain⟨j,B,D,rfl,b⟩:=hrel
  have a:bR (dK Uc) ((dY s).drop j)=0->Ul (n+z=j):=λh=>by have:=b.out;rw[h]at this;rw[p.out];exact this
  by_cases l:∃h:j<s.size,dL s[j]=Ud
  .obtain⟨m,f⟩:=l;rw[gF s j m]at b a;have c:dK Uc s[j]=Ud:=by simp[dK,f]
   rw[pL _ _ _ c]at b
   have E:Ul (n+bR (dK Uc) ((dY s).drop n)=j+1+bR (dK Uc) ((dY s).drop (j+1))):=by grind
   clear b a c;go_wp2_with (first|(go_at_call 208;apply (oJ _ _).mono;rw[f];rintro e w' ⟨rfl,rfl⟩))
   grind [intOf]
  have g:n+z=j:=by
   refine(a ?_).out;by_cases m:j<s.size
   .grind [gF,dK,bR]
   rw[gp kj];rfl
  have y:Ul (s.extract n j=bs t):=by grind [rW,d7]
  have u:Ul (∀k (h:k<(bs t).size),dL (bs t)[k]=Ud):=by refine S6 t ?_;grind [d7,lN]
  have d:(bs t).size<=2000000000:=by grind [iT,d7]
  have r:Ul (dS 0 (bs t).data.toList=o):=by rw[jT];exact q
  have x:Ul (((n+z:Nat):Int)=j):=by show _=_;exact aD
  clear b a C p q g;by_cases m:j<s.size
  .have f:dL s[j]=Uc:=G_
   clear l;cases o
   all_goals
    go_wp2_with (first|(go_at_call 208;refine(oJ _ _).mono ?_;rw[f];rintro e w' ⟨rfl,rfl⟩)|(go_at_call 130;rw[y];refine(CV _ _ d u).mono ?_;rw[r,GO];rintro e w' ⟨rfl,rfl⟩))
    rw[x];refine bodyPost_ret (v:=Uu #[Us #[Ux .u8 48,Q_ (bs t),I_ 0],I_ j,Uw _]) (by simp[results,results210,go_sem]) rfl ⟨rfl,?_⟩
    exact(((dz _ _).alloc (aD) _).alloc s_ _)
  clear l;cases o
  all_goals
   go_wp2_with (first|(go_at_call 130;rw[y];apply (CV _ _ d u).mono;rw[r,GO];rintro e w' ⟨rfl,rfl⟩))
   rw[x];refine bodyPost_ret (v:=Uu #[Us #[Ux .u8 48,Q_ (bs t),I_ 0],I_ j,Uw _]) (by simp[results,results210,go_sem]) rfl ⟨rfl,?_⟩
   exact(((dz _ _).alloc (aD) _).alloc s_ _)
def mF(t:bP)(k:Nat):Nat:=if (fC.take k).contains t then 107 else 110
def wF(t:bP):mF t 0=110:=rfl
def MO(l:cY)(q t:bP):(l++[q]).contains t=(l.contains t || (t==q)):=by
 induction l with
 |nil=>rw[ie,List.contains_cons];simp
 |cons a l b=>rw[iy,List.contains_cons,List.contains_cons,b,Bool.or_assoc]
def wG(t:bP)(k:Nat)(h:k<9)(q:bP)(a:q=fC[k]'(by simpa [fC]using h)):mF t (k+1)=if q==t then 107 else mF t k:=by
 unfold mF;rw[g9 (by simpa [fC]using h),<-a,MO]
 by_cases e:q=t
 .subst e;simp
 have b:(q==t)=Uc:=by simpa using e
 have c:(t==q)=Uc:=by simpa using λx=>e x.symm
 rw[b,c];simp
theorem UJ(t:bP):mF t 9=if fC.contains t then 107 else 110:=rfl
def Tx(Y_:P:=by
 rw[HE];go_loopw [12] (λi wr=>∃k:Nat,k<=9/\i=I_ k/\R_ w wr/\H_ w+1<H_ wr/\dP wr (H_ w) 0 (Ux .u8 0)/\dP wr (H_ w) 1 (Ur { data:= #[] })/\dP wr (H_ w) 2 (I_ 0)/\wr.frozen? (aL (H_ w) 0)=Uc/\wr.frozen? (aL (H_ w) 1)=Uc/\wr.frozen? (aL (H_ w) 2)=Uc/\dP wr (H_ w+1) 0 (Ux .u8 (mF t k))/\dP wr (H_ w+1) 1 (Q_ (bs t))/\dP wr (H_ w+1) 2 (I_ 0)/\wr.frozen? (aL (H_ w+1) 0)=Uc/\wr.frozen? (aL (H_ w+1) 1)=Uc/\wr.frozen? (aL (H_ w+1) 2)=Uc) (λi _=>9-(intOf i).toNat)
 case atStart=>exact⟨0,aD,rfl,((dz _ _).alloc mJ _).alloc s_ _,s_,kt,kt,kt,kt,kt,kt,by simp[go_sem,wF],kt,kt,kt,kt,kt⟩
 case round=>
  obtain⟨k,hk,rfl,hbw,hsz,r0,r1,r2,f0,f1,f2,c0,c1,c2,g0,g1,g2⟩:=hrel;by_cases hk9:k<9
  .obtain⟨q,hq⟩:=E_ (fC[k]'(by simpa [fC]using hk9))
   have hkc:dP wr 4 k (Q_ (bs q)):=by rw[hq,hbw.cell (by show 4<_;exact aD)];exact HG.kw k hk9
   have HS:Ul (mF t (k+1)=if q==t then 107 else mF t k):=wG t k hk9 q hq
   clear hq;cases hqt:(q==t)
   .have hE:((bs q).toList==(bs t).toList)=Uc:=by rw[aX,aX];exact hqt
    rw[hqt]at HS;clear hqt;go_wp2_with fail;go_quiet (fail)
    go_wp2_with fail;go_roundw
    case rel=>exact⟨k+1,aD,la,below_drewN hbw _,hsz,r0,r1,r2,f0,f1,f2,by rw[HS];exact c0,c1,c2,g0,g1,g2⟩
    case measure=>simp[intOf];exact aD
   have hE:((bs q).toList==(bs t).toList)=Ud:=by rw[aX,aX];exact hqt
   rw[hqt]at HS;clear hqt;go_wp2_with fail;go_quiet (fail)
   go_wp2_with fail;go_roundw
   case rel=>
    refine⟨k+1,aD,la,(below_drewN hbw _).setCell s_ _,by simpa using hsz,?_,?_,?_,?_,?_,?_,?_,?_,?_,?_,?_,?_⟩
    all_goals first|(rw[HS];simp[go_sem,c0];done)|(simp[go_sem, *];done)
   case measure=>simp[intOf];exact aD
  obtain rfl:k=9:=aD;go_wp2
  go_region
  go_wp2_with fail;rw[HZ,show decide (z<=16)=decide (((bs t).size:Int)<=16) by rw[HL];simp;exact aD]
  refine bodyPost_ret (v:=Uu #[Us #[Ux .u8 (mF t 9),Q_ (bs t),I_ 0],I_ j,Uw _]) oe rfl ⟨rfl,?_⟩
  exact(((hbw.setCell s_ _).setCell s_ _).setCell s_ _).drew):P:=Y_
def Y8(s:ByteArray)(n:Nat)(w:aN)(D:fN w)(hs:s.size<=2000000000)(hn:n<s.size)(Y:eF s[n]=Ud)(t:bP)(z:Nat)
 (C:Ul (t=(s.data.toList.drop n).take z)) (U:Ul (z=bR (dK Ud) (s.data.toList.drop n))):
 Ue Un 210 #[Q_ s,I_ n] w λe w'=>
  e=bY (Uu #[Us #[Ux .u8 (mF t 9),Q_ (bs t),I_ 0],I_ ((n+z:Nat)),Uw (decide (z<=16))])/\R_ w w':=by
 go_in
 go_wp2_with (first|(go_at_call 209;refine(oA _ _).mono ?_;rw[Y];rintro e w' ⟨rfl,rfl⟩))
 go_loop [7] (λi=>∃j:Nat,n<=j/\j<=s.size/\i=I_ j/\Ul (n+bR (dK Ud) (s.data.toList.drop n)=j+bR (dK Ud) (s.data.toList.drop j))) (λi=>s.size-(intOf i).toNat)
 case atStart=>exact⟨n,mJ,aD,rfl,rfl⟩
 case round=>
  obtain⟨j,Z,ab,rfl,x⟩:=hrel
  have d:bR (dK Ud) (s.data.toList.drop j)=0->Ul (n+z=j):=λh=>by have:=x.out;rw[h]at this;rw[U.out];exact this
  by_cases A:∃h:j<s.size,dK Ud s[j]=Ud
  .obtain⟨l,u⟩:=A;rw[gF s j l]at x d;rw[pL _ _ _ u]at x
   have S:Ul (n+bR (dK Ud) (s.data.toList.drop n)=j+1+bR (dK Ud) (s.data.toList.drop (j+1))):=by rw[x];show _=_;exact aD
   clear x d;cases f:dL s[j]
   .have r:eF s[j]=Ud:=by simpa [dK,f]using u
    clear u;go_wp2_with (first|(go_at_call 208;refine(oJ _ _).mono ?_;rw[f];rintro e w' ⟨rfl,rfl⟩)|(go_at_call 209;refine(oA _ _).mono ?_;rw[r];rintro e w' ⟨rfl,rfl⟩))
    go_round
    case rel=>exact⟨j+1,aD,aD,la,S⟩
    case measure=>simp[intOf];exact aD
   clear u;go_wp2_with (first|(go_at_call 208;refine(oJ _ _).mono ?_;rw[f];rintro e w' ⟨rfl,rfl⟩))
   go_round
   case rel=>exact⟨j+1,aD,aD,la,S⟩
   case measure=>simp[intOf];exact aD
  have M:n+z=j:=by
   refine(d ?_).out;by_cases l:j<s.size
   .rw[gF s j l];exact IJ _ _ _ (by simpa using λh=>A ⟨l,h⟩)
   rw[gp kj];rfl
  have X:Ul (s.extract n j=bs t):=by
   show _=_
   rw[rW,C.out,show j-n=z by omega]
  have V:Ul ((bs t).size=z):=by
   show _=_
   rw[iT,C.out,hH,ji];simp;exact aD
  have W:Ul (((n+z:Nat):Int)=j):=by show _=_;exact aD
  clear x d C U M
  have o:(∃h:j<s.size,dL s[j]=Uc/\eF s[j]=Uc)\/¬j<s.size:=by
   by_cases l:j<s.size
   .have u:dK Ud s[j]=Uc:=by simpa using λh=>A ⟨l,h⟩
    exact ed ⟨l,by revert u;unfold dK;cases dL s[j]<;>simp,by revert u;unfold dK;cases eF s[j]<;>simp⟩
   exact ec l
  clear A;have aa:=D.wv;have T:Ul (fN w):=D;clear D;rcases o with ⟨l,f,r⟩|l
  .go_wp2_with (first|(go_at_call 208;refine(oJ _ _).mono ?_;rw[f];rintro e w' ⟨rfl,rfl⟩)|(go_at_call 209;refine(oA _ _).mono ?_;rw[r];rintro e w' ⟨rfl,rfl⟩))
   rw[X];go_loopw [12] (λi wr=>∃k:Nat,k<=9/\i=I_ k/\R_ w wr/\w.heap.size+1<wr.heap.size/\T_ wr (aL w.heap.size 0)=Ua (Ux .u8 0)/\T_ wr (aL w.heap.size 1)=Ua (Ur { data:= #[] })/\T_ wr (aL w.heap.size 2)=Ua (I_ 0)/\wr.frozen? (aL w.heap.size 0)=Uc/\wr.frozen? (aL w.heap.size 1)=Uc/\wr.frozen? (aL w.heap.size 2)=Uc/\T_ wr (aL (w.heap.size+1) 0)=Ua (Ux .u8 (mF t k))/\T_ wr (aL (w.heap.size+1) 1)=Ua (Q_ (bs t))/\T_ wr (aL (w.heap.size+1) 2)=Ua (I_ 0)/\wr.frozen? (aL (w.heap.size+1) 0)=Uc/\wr.frozen? (aL (w.heap.size+1) 1)=Uc/\wr.frozen? (aL (w.heap.size+1) 2)=Uc) (λi _=>9-(intOf i).toNat)
   case atStart=>exact⟨0,aD,rfl,((dz _ _).alloc mJ _).alloc s_ _,s_,kt,kt,kt,kt,kt,kt,by simp[go_sem,wF],kt,kt,kt,kt,kt⟩
   case round=>
    obtain⟨k,hk,rfl,b,g,J,B,P,E,G,Q,y,K,L,I,O,F⟩:=hrel;by_cases c:k<9
    .obtain⟨q,p⟩:=E_ (fC[k]'(by simpa [fC]using c))
     have H:T_ wr (aL 4 k)=Ua (Q_ (bs q)):=by rw[p,b.cell (by show 4<_;exact aD)];exact T.kw k c
     have m:Ul (mF t (k+1)=if q==t then 107 else mF t k):=wG t k c q p
     clear p;cases a:(q==t)
     .have N:((bs q).toList==(bs t).toList)=Uc:=by rw[aX,aX];exact a
      rw[a]at m;clear a;go_wp2_with fail;go_quiet (fail)
      go_wp2_with fail;go_roundw
      case rel=>exact⟨k+1,aD,la,below_drewN b _,g,J,B,P,E,G,Q,by rw[m];exact y,K,L,I,O,F⟩
      case measure=>simp[intOf];exact aD
     have N:((bs q).toList==(bs t).toList)=Ud:=by rw[aX,aX];exact a
     rw[a]at m;clear a;go_wp2_with fail;go_quiet (fail)
     go_wp2_with fail;go_roundw
     case rel=>
      refine⟨k+1,aD,la,(below_drewN b _).setCell s_ _,by simpa using g,?_,?_,?_,?_,?_,?_,?_,?_,?_,?_,?_,?_⟩
      all_goals first|(rw[m];simp[go_sem,y];done)|(simp[go_sem, *];done)
     case measure=>simp[intOf];exact aD
    obtain rfl:k=9:=aD;go_wp2
    go_region
    go_wp2_with fail;rw[W,show decide (z<=16)=decide (((bs t).size:Int)<=16) by rw[V];simp;exact aD]
    refine bodyPost_ret (v:=Uu #[Us #[Ux .u8 (mF t 9),Q_ (bs t),I_ 0],I_ j,Uw _]) oe rfl ⟨rfl,?_⟩
    exact(((b.setCell s_ _).setCell s_ _).setCell s_ _).drew
  go_wp2_with fail;rw[X];go_loopw [12] (λi wr=>∃k:Nat,k<=9/\i=I_ k/\R_ w wr/\w.heap.size+1<wr.heap.size/\T_ wr (aL w.heap.size 0)=Ua (Ux .u8 0)/\T_ wr (aL w.heap.size 1)=Ua (Ur { data:= #[] })/\T_ wr (aL w.heap.size 2)=Ua (I_ 0)/\wr.frozen? (aL w.heap.size 0)=Uc/\wr.frozen? (aL w.heap.size 1)=Uc/\wr.frozen? (aL w.heap.size 2)=Uc/\T_ wr (aL (w.heap.size+1) 0)=Ua (Ux .u8 (mF t k))/\T_ wr (aL (w.heap.size+1) 1)=Ua (Q_ (bs t))/\T_ wr (aL (w.heap.size+1) 2)=Ua (I_ 0)/\wr.frozen? (aL (w.heap.size+1) 0)=Uc/\wr.frozen? (aL (w.heap.size+1) 1)=Uc/\wr.frozen? (aL (w.heap.size+1) 2)=Uc) (λi _=>9-(intOf i).toNat)
  case atStart=>exact⟨0,aD,rfl,((dz _ _).alloc mJ _).alloc s_ _,s_,kt,kt,kt,kt,kt,kt,by simp[go_sem,wF],kt,kt,kt,kt,kt⟩
  case round=>
   obtain⟨k,hk,rfl,b,g,J,B,P,E,G,Q,y,K,L,I,O,F⟩:=hrel;by_cases c:k<9
   .obtain⟨q,p⟩:=E_ (fC[k]'(by simpa [fC]using c))
    have H:T_ wr (aL 4 k)=Ua (Q_ (bs q)):=by rw[p,b.cell (by show 4<_;exact aD)];exact T.kw k c
    have m:Ul (mF t (k+1)=if q==t then 107 else mF t k):=wG t k c q p
    clear p;cases a:(q==t)
    .have N:((bs q).toList==(bs t).toList)=Uc:=by rw[aX,aX];exact a
     rw[a]at m;clear a;go_wp2_with fail;go_quiet (fail)
     go_wp2_with fail;go_roundw
     case rel=>exact⟨k+1,aD,la,below_drewN b _,g,J,B,P,E,G,Q,by rw[m];exact y,K,L,I,O,F⟩
     case measure=>simp[intOf];exact aD
    have N:((bs q).toList==(bs t).toList)=Ud:=by rw[aX,aX];exact a
    rw[a]at m;clear a;go_wp2_with fail;go_quiet (fail)
    go_wp2_with fail;go_roundw
    case rel=>
     refine⟨k+1,aD,la,(below_drewN b _).setCell s_ _,by simpa using g,?_,?_,?_,?_,?_,?_,?_,?_,?_,?_,?_,?_⟩
     all_goals first|(rw[m];simp[go_sem,y];done)|(simp[go_sem, *];done)
    case measure=>simp[intOf];exact aD
   obtain rfl:k=9:=aD;go_wp2
   go_region
   go_wp2_with fail;rw[W,show decide (z<=16)=decide (((bs t).size:Int)<=16) by rw[V];simp;exact aD]
   refine bodyPost_ret (v:=Uu #[Us #[Ux .u8 (mF t 9),Q_ (bs t),I_ 0],I_ j,Uw _]) oe rfl ⟨rfl,?_⟩
   exact(((b.setCell s_ _).setCell s_ _).setCell s_ _).drew
def LO(r:qV)(n:Nat):Uf:=
 Uu #[Us #[Ux .u8 r.c_,Ur (bs r.x_),I_ 0],I_ ((n+r.size:Nat)),Uw r.ok]
def Pt(s:ByteArray)(n:Nat)(w:aN)(d:fN w)(b:s.size<=2000000000)(c:n<s.size):
 Ue Un 210 #[Q_ s,I_ n] w λe w'=>
  e=bY (LO (iX ((dY s).drop n) (eF s[n])) n)/\R_ w w':=by
 cases a:eF s[n]
 .exact Q6 s n w b c a _ _ _ aJ aJ aJ
 apply (Y8 s n w d b c a _ _ aJ aJ).mono
 grind [LO,iX,UJ]
def ve(c:R_ T Z):(∀b o,b<H_ T->T_ Z (aL b o)=T_ T (aL b o))/\(∀b o,b<H_ T->Z.frozen? (aL b o)=T.frozen? (aL b o)):=
 (by grind [Below.cell,Below.frozen])
def fN.alloc{w:aN}(h:fN w)(o:Obj):fN (w.alloc o):=(by grind [fN.below,ep,dz])
def Oe(s:ByteArray)(n:Nat)(w:aN)(c:fN w)(l:s.size<=2000000000)(m:n<s.size)(f:(dL s[n] || eF s[n])=Ud)(r:qV)
 (k:Ul (iX ((dY s).drop n) (eF s[n])=r)):
 Ue Un 161 #[Q_ s,I_ n] w λe w'=>e=bY (LO r n)/\R_ w w':=by
 have j:Ul (∀o,fN (w.alloc o)):=λo=>c.alloc o
 clear c
 have a:dL s[n]=Ud\/(dL s[n]=Uc/\eF s[n]=Ud):=by grind
 clear f;rcases a with d|⟨d,i⟩
 all_goals
  go_in
  go_wp2_with (first|(go_at_call 208;refine(oJ _ _).mono ?_;rw[d];rintro e w' ⟨rfl,rfl⟩)|(go_at_call 209;refine(oA _ _).mono ?_;rw[i];rintro e w' ⟨rfl,rfl⟩))
  apply (Pt s n _ (j _) l m).mono
  rw[k.out,LO];rintro e g ⟨rfl,b⟩;obtain⟨p,t⟩:=ve b;have q:H_ w<H_ g:=by have:=b.size;simp at this;exact aD
  go_wp2
  refine bodyPost_ret (v:=Uu #[Us #[Ux .u8 r.c_,Q_ (bs r.x_),I_ 0],I_ ((n+r.size:Nat)),Uw r.ok]) (by simp[results,results161,go_sem,p]) rfl ⟨rfl,?_⟩
  exact((((((dz _ _).alloc (aD) _).trans (b.mono s_)).setCell s_ _).setCell s_ _).setCell s_ _)
def UB(b:UInt8):iG b=(((b.toNat:Int) != 34) && ((b.toNat:Int) != 10)):=by grind [iG]
def GM(Y_:P:=by
 go_wp2_with fail;rw[HE];go_region
 go_wp2_with fail;rw[HZ,HK2];refine bodyPost_ret (v:=Uu #[Us #[Ux .u8 115,Q_ (bs t),I_ 0],I_ ((j:Int)+1),Uw _]) (by simp[results,results161,go_sem]) rfl ⟨rfl,?_⟩
 exact(((dz _ _).alloc (aD) _).alloc s_ _).drew):P:=Y_
def Js(s:ByteArray)(n:Nat)(w:aN)(H:s.size<=2000000000)(I:n<s.size)(x:dL s[n]=Uc)(u:eF s[n]=Uc)(B:s[n].toNat=34)(t:bP)(z:Nat)(ok:Bool)
 (k:Ul (t=((dY s).drop (n+1)).take z)) (m:Ul (z=bR iG ((dY s).drop (n+1)))) (c:Ul (ok=(decide (((dY s).drop (n+1))[z]?=Ua 34) && decide (z<=100)))):
 Ue Un 161 #[Q_ s,I_ n] w λe w'=>e=bY (Uu #[Us #[Ux .u8 115,Q_ (bs t),I_ 0],I_ ((n+(z+2):Nat)),Uw ok])/\R_ w w':=by
 have D:((s[n].toNat:Int)==34)=Ud:=G_
 clear B;go_in
 go_wp2_with (first|(go_at_call 208;refine(oJ _ _).mono ?_;rw[x];rintro e w' ⟨rfl,rfl⟩)|(go_at_call 209;refine(oA _ _).mono ?_;rw[u];rintro e w' ⟨rfl,rfl⟩))
 go_loop [8] (λi=>∃j:Nat,n+1<=j/\j<=s.size/\i=I_ j/\Ul (n+1+bR iG ((dY s).drop (n+1))=j+bR iG ((dY s).drop j))) (λi=>s.size-(intOf i).toNat)
 case atStart=>exact⟨n+1,aD,aD,la,rfl⟩
 case round=>
  obtain⟨j,v,F,rfl,d⟩:=hrel
  have a:bR iG ((dY s).drop j)=0->Ul (n+1+z=j):=λh=>by have:=d.out;rw[h]at this;rw[m.out];exact this
  by_cases o:∃h:j<s.size,iG s[j]=Ud
  .obtain⟨p,b⟩:=o;have q:(s[j].toNat:Int)<=255:=mH s[j];rw[gF s j p]at d a;rw[pL _ _ _ b]at d
   have G:Ul (n+1+bR iG ((dY s).drop (n+1))=j+1+bR iG ((dY s).drop (j+1))):=by grind
   clear d a;rw[UB,Bool.and_eq_true]at b;obtain⟨r,A⟩:=b;go_wp2_with fail;grind [intOf]
  have f:n+1+z=j:=by
   refine(a ?_).out;by_cases p:j<s.size
   .grind [gF,bR]
   rw[gp kj];rfl
  have HE:Ul (s.extract (n+1) j=bs t):=by grind [rW,d7]
  have C:Ul ((bs t).size=z):=by
   show _=_
   rw[iT,k.out,hH,ji];simp;exact aD
  have HZ:Ul (((n+(z+2):Nat):Int)=(j:Int)+1):=by show _=_;exact aD
  by_cases p:j<s.size
  .have q:(s[j].toNat:Int)<=255:=mH s[j]
   have g:Ul (ok=(decide (s[j]=34) && decide (z<=100))):=by
    show _=_
    rw[c.out,yR s (n+1) z aD];grind
   have b:iG s[j]=Uc:=G_
   rw[UB]at b;clear d a k m f o c;by_cases l:s[j].toNat=34
   .have E:((s[j].toNat:Int) != 34)=Uc:=G_
    have y:((s[j].toNat:Int)==34)=Ud:=G_
    have HK2:Ul (ok=decide (((bs t).size:Int)<=100)):=by
     show _=_
     rw[g,C,show s[j]=34 from jj.1 G_];grind
    clear l g b;exact GM
   have E:((s[j].toNat:Int) != 34)=Ud:=G_
   have y:((s[j].toNat:Int)==34)=Uc:=G_
   have J:((s[j].toNat:Int) != 10)=Uc:=G_
   have HK2:Ul (ok=Uc):=by
    show _=_
    rw[g,show decide (s[j]=34)=Uc from gi λe=>l (by rw[e];rfl)];rfl
   clear l g b;exact GM
  have HK2:Ul (ok=Uc):=by grind [AE]
  clear d a k m f o c;exact GM
theorem BJ:∀k (h:k<21),Ty (eK[k]'(by simpa [eK]using h))<=2:=d_
def tB(l:bP)(k:Nat):Prop:=∀o∈eK.take k,eE l o=Uc
theorem EV(h:R<21)(b:tB V R)(a:eE V (eK[R]'(by simpa [eK]using h))=Uc):tB V (R+1):=by grind [List.take_succ_eq_append_getElem,tB]
theorem JF(h:R<21)(c:tB V R)(q:bP)(b:q=eK[R]'(by simpa [eK]using h))(a:eE V q=Ud):
 jS V={ c_:=112,x_:=q,size:=Ty q,ok:=Ud }:=by
 have e:eK.find? (λo=>eE V o)=Ua q:=by grind [List.find?_eq_some_iff_getElem,List.mem_take_iff_getElem,tB]
 unfold jS;rw[e]
theorem EU(b:tB V 21):jS V={ c_:=0,x_:=[],size:=0,ok:=Uc }:=by
 have e:eK.find? (λo=>eE V o)=none:=by rw[List.find?_eq_none];intro o a;rw[b o (by exact a)];simp
 unfold jS;rw[e]
def I3(s:ByteArray)(n:Nat)(w:aN)(g:fN w)(m:s.size<=2000000000)(E:n<s.size)(u:dL s[n]=Uc)(p:eF s[n]=Uc)(y:¬s[n].toNat=34)(r:qV)
 (D:Ul (jS ((dY s).drop n)=r)):
 Ue Un 161 #[Q_ s,I_ n] w λe w'=>e=bY (LO r n)/\R_ w w':=by
 have z:((s[n].toNat:Int)==34)=Uc:=G_
 clear y;have C:Ul (∀o,fN (w.alloc o)):=λo=>g.alloc o
 clear g;go_in
 go_wp2_with (first|(go_at_call 208;refine(oJ _ _).mono ?_;rw[u];rintro e w' ⟨rfl,rfl⟩)|(go_at_call 209;refine(oA _ _).mono ?_;rw[p];rintro e w' ⟨rfl,rfl⟩))
 go_loop [10] (λi=>∃k:Nat,k<=21/\i=I_ k/\Ul (tB ((dY s).drop n) k)) (λi=>21-(intOf i).toNat)
 case atStart=>exact⟨0,aD,rfl,λo x=>by simp at x⟩
 case round=>
  obtain⟨k,B,rfl,f⟩:=hrel;by_cases d:k<21
  .obtain⟨q,l⟩:∃q,q=eK[k]'(by simpa [eK]using d):=(by simp)
   have t:∀o,dP (w.alloc o) 0 k (Q_ (bs q)):=(by grind [fN.ot,d7])
   have A:Ty q<=2:=by grind [BJ]
   have b:(bs q).size<=100:=by rw[iT];exact aD
   have j:Ul (q=eK[k]'(by grind)):=l
   clear l;cases a:eE ((dY s).drop n) q
   .have c:Ul (tB ((dY s).drop n) (k+1)):=(by grind [EV,d7])
    clear f j;go_wp2_with (first|(go_at_call 207;apply (tZ s _ n _ m b aD).mono;rw[jT,a];rintro e w' ⟨rfl,rfl⟩))
    grind [intOf]
   have c:Ul (r={ c_:=112,x_:=q,size:=Ty q,ok:=Ud }):=by grind [d7,JF]
   clear f j;go_wp2_with (first|(go_at_call 207;apply (tZ s _ n _ m b aD).mono;rw[jT,a];rintro e w' ⟨rfl,rfl⟩))
   go_region
   go_wp2_with fail;rw[c,LO];refine bodyPost_ret (v:=Uu #[Us #[Ux .u8 112,Q_ (bs q),I_ 0],I_ ((n+Ty q:Nat)),Uw Ud]) (by simp[results,results161,go_sem,iT]) rfl ⟨rfl,?_⟩
   grind [Below.drew,ep,dz]
  obtain rfl:k=21:=aD;have c:Ul (r={ c_:=0,x_:=[],size:=0,ok:=Uc }):=by grind [d7,EU]
  clear f;go_wp2_with fail;rw[c,LO];refine bodyPost_ret (v:=Uu #[Us #[Ux .u8 0,Q_ (bs []),I_ 0],I_ ((n:Nat)),Uw Uc]) (by simp[results,results161,go_sem,bs]) rfl ⟨rfl,?_⟩
  grind [ep,dz]
def VT(s:ByteArray)(n:Nat)(w:aN)(g:fN w)(d:s.size<=2000000000)(c:n<s.size):
 Ue Un 161 #[Q_ s,I_ n] w λe w'=>e=bY (LO (cT ((dY s).drop n)) n)/\R_ w w':=by
 have e :=gF s n c;cases a:(dL s[n] || eF s[n])
 .rw[Bool.or_eq_false_iff]at a;by_cases f:s[n].toNat=34
  .have b:cT ((dY s).drop n)=oQ ((dY s).drop (n+1)):=by grind [cT]
   rw[b];exact Js s n w d c a.1 a.2 f _ _ _ aJ aJ aJ
  have b:cT ((dY s).drop n)=jS ((dY s).drop n):=by grind [cT]
  rw[b];exact I3 s n w g d c a.1 a.2 f _ aJ
 have b:cT ((dY s).drop n)=iX ((dY s).drop n) (eF s[n]):=by rw[e,cT,ef a]
 rw[b];exact Oe s n w g d c a _ aJ
def Ol:(prog.info? 218).map (λi=>(i.zero,i.size,i.bytes))=Ua (Ua (Us #[Ux .u8 0,Q_ (bs []),I_ 0]),3,32):=k_
def zN(t:bH):List Uf:=[Ux .u8 t.c_,Ur (bs t.x_),I_ t.l_]
def qI:List bH->List Uf
 |[]=>[]
 |t::ts=>zN t++qI ts
def AT(a b:List bH):qI (a++b)=qI a++qI b:=by
 induction a with
 |nil=>rfl
 |cons t a c=>simp[qI,c]
def R8(s:ByteArray)(w:aN)(c:s.size<=2000000000)(b:Nat)(a:Ul (cJ s.size (dY s)=b)):
 Ue Un 160 #[Q_ s,I_ 0] w λe w'=>e=bY (I_ b)/\w'=w:=by
 have h:=OX s 0 w c (aD);rw[List.drop_zero,a.out,h9]at h;exact h
def KK(s:ByteArray)(x:Int)(n:Nat)(c:x=n)(w:aN)(b:s.size<=2000000000)(d:n<=s.size)(m:Nat)(a:Ul (n+cJ s.size ((dY s).drop n)=m)):
 Ue Un 160 #[Q_ s,I_ x] w λe w'=>e=bY (I_ m)/\w'=w:=by
 subst c;have h:=OX s n w b d;rw[a.out]at h;exact h
def xV(s:ByteArray)(x:Int)(n:Nat)(b:x=n)(w:aN)(a:s.size<=2000000000)(c:n<=s.size):
 Ue Un 97 #[Q_ s,I_ x] w λe w'=>e=bY (I_ (bD ((dY s).take n)))/\w'=w:=by
 subst b;exact K9 s n w a c
def TW(s:ByteArray)(k f:Nat)(b:k<s.size)(a:(cT ((dY s).drop k)).ok=Ud)(m:Nat)
 (c:m=k+(cT ((dY s).drop k)).size+cJ s.size ((dY s).drop (k+(cT ((dY s).drop k)).size))):
 fH (f+1) ((dY s).take k) ((dY s).drop k)=
  jF [{ c_:=(cT ((dY s).drop k)).c_,x_:=(cT ((dY s).drop k)).x_,l_:=bD ((dY s).take k) }] (fH f ((dY s).take m) ((dY s).drop m)):=by
 have d:Ty ((dY s).drop k)=s.size-k:=s_
 grind [List.drop_drop,KI,fH,jF]
def jZ(h:T.ownsRow R e Y U J S)(m:R_ T Z):Z.ownsRow R e Y U J S:=by
 refine⟨h.1,?_⟩;rcases h.2 with i|⟨g,d,c,l,i,o,k⟩
 .grind
 refine ec ⟨g,d,c,l,i,?_,k⟩;grind [eg]
theorem bX(h:T.ownsRow R e Y U J S):∀k,U.ownBlock=Ua k->R<=k:=by
 intro k c;rcases h.2 with ⟨rfl,_⟩|⟨g,i,d,rfl,j,_⟩
 .cases c
 have:g=k:=ft c;exact aD
def A6(x:Except Nat (List bH))(w:aN)(e:Uh)(w':aN):Prop:=
 R_ w w'/\
    match x with
    |.error n=>e=bY (Uu #[bO,I_ n])
    |.ok ts=>∃v,e=bY (Uu #[v,I_ 0])/\w'.ownsRow w.heap.size 218 3 v (Ty ts) (qI ts)
def IA(s:ByteArray)(w:aN)(Y:fN w)(hs:s.size<=2000):
 Ue Un 98 #[Q_ s] w (A6 (gS (dY s)) w):=by
 have d:s.size<=2000000000:=aD;obtain⟨T,V,t,y,z⟩:=info_parts Ol;have HG:Ul (fN w):=Y;have K:cJ s.size (dY s)<=s.size:=by have:=rD s.size (dY s);simpa using this
 have HB:Ul (gS (dY s)=fH (s.size+1) ((dY s).take (cJ s.size (dY s))) ((dY s).drop (cJ s.size (dY s)))):=by
  show _=_
  unfold gS;simp
 generalize O:cJ s.size (dY s)=S at*;have HB1 :=O;generalize gS (dY s)=B at*;go_in
 go_wp2_with (go_at_call 160;refine rf (R8 s _ d S HB1) λE q=>?_;obtain rfl:=q.symm)
 go_loopw [4,5] (λv i wr=>∃(k f:Nat) (o:List bH),k<=s.size/\s.size+1<=k+f/\Ty o<=k/\i=I_ k/\wr.ownsRow (H_ w) 218 3 v (Ty o) (qI o)/\R_ w wr/\Ul (B=jF o (fH f ((dY s).take k) ((dY s).drop k)))) (λ_ i _=>s.size-(intOf i).toNat)
 case atStart=>exact⟨S,s.size+1,[],K,aD,s_,rfl,World.ownsRow_nil _ _ _ _,dz _ _,by rw[HB,wR];rfl⟩
 case round=>
  obtain⟨k,f,o,Q,hf,Z,rfl,n,b,D⟩:=hrel;by_cases p:k<s.size
  .obtain⟨f,rfl⟩:∃L,f=L+1:=⟨f-1,aD⟩;have hgr :=HG.below b;have U:Ty ((dY s).drop k)=s.size-k:=s_
   cases l:(cT ((dY s).drop k)).ok
   .have C:Ul (B=.error (bD ((dY s).take k))):=by rw[D,AS _ _ _ aD l];rfl
    have M:Ul ((cT ((dY s).drop k)).ok=Uc):=l;have I:Ul (fN wr):=hgr;go_wp2_with fail;apply (VT s k _ I d p).mono
    rw[LO,M];generalize cT ((dY s).drop k)=r;rintro e P ⟨rfl,x⟩;go_wp2_with (go_at_call 97;refine oN (xV s _ k aJ _ d Q) ?_)
    go_ret2
    refine⟨(b.trans (x.mono (by have:=b.size;exact aD))).alloc (by have:=b.size;have:=x.size;exact aD) _,?_⟩
    rw[C];exact aJ
   have J:=tY _ l;rw[U]at J;obtain⟨m,N⟩:∃m,m=k+(cT ((dY s).drop k)).size+cJ s.size ((dY s).drop (k+(cT ((dY s).drop k)).size)):=(by simp)
   have aa:m<=s.size:=by grind [rD]
   have X:=TW s k f p l m N
   have C:Ul (B=jF (o++[{ c_:=(cT ((dY s).drop k)).c_,x_:=(cT ((dY s).drop k)).x_,l_:=bD ((dY s).take k) }]) (fH f ((dY s).take m) ((dY s).drop m))):=by rw[D,X,vE];rfl
   have M:Ul ((cT ((dY s).drop k)).ok=Ud):=l;have I:Ul (fN wr):=hgr;have HM :=N.symm;clear D l U hgr X N;go_wp2_with fail;apply (VT s k _ I d p).mono
   rw[LO,M];generalize cT ((dY s).drop k)=r at*;rintro e P ⟨rfl,x⟩;have hown1 :=jZ n x;have hbw1 :=b.trans (x.mono b.size);go_wp2_with (first|(go_at_call 97;refine rf (xV s _ k aJ _ d Q) λE q=>?_;obtain rfl:=q.symm)|(at_builtin;refine wpList_append_own _ aJ _ _ 210 aJ (H_ w) 218 T _ 3 32 underlying210 V t y z aJ d_ _ _ _ rfl ((hown1.alloc _).alloc _) (aL (H_ P+1) 0) 1 1 (zN { c_:=r.c_,x_:=r.x_,l_:=bD ((dY s).take k) }) rfl rfl ?c1 ?c2 ?c3 ?c4 ?c5 ?_))
   case c1=>
    intro j u a;match j,a with
    |0,a=>simp[zN]at a;subst a;simp[Addr.add,go_sem]
    |1,a=>simp[zN]at a;subst a;simp[Addr.add,go_sem]
    |2,a=>simp[zN]at a;subst a;simp[Addr.add,go_sem]
    |j+3,a=>simp[zN]at a
   case c2=>
    intro u A;simp only[zN,ff,jf,or_false]at A;rcases A with rfl|rfl|rfl<;>rfl
   case c3=>unfold maxLen;exact aD
   case c4=>exact aD
   case c5=>have:=hbw1.size;simp;exact aD
   intro F W c g _;have hbw2 :=((hbw1.alloc hbw1.size _).alloc (by have:=hbw1.size;simp;exact aD) _).grown g (by have:=hbw1.size;simp;exact aD) (bX hown1)
   have G:W.ownsRow (H_ w) 218 3 F (Ty (o++[({ c_:=r.c_,x_:=r.x_,l_:=bD ((dY s).take k) }:bH)])) (qI (o++[{ c_:=r.c_,x_:=r.x_,l_:=bD ((dY s).take k) }])):=by rw[AT,ew];exact c
   have H:k+r.size<=s.size:=aD;go_wp2_with (first|(go_at_call 160;refine rf (KK s _ (k+r.size) s_ _ d H m HM) λE q=>?_;obtain rfl:=q.symm))
   grind [intOf]
  obtain rfl:k=s.size:=aD;obtain⟨f,rfl⟩:∃L,f=L+1:=⟨f-1,aD⟩
  have C:Ul (B=.ok (o++[{ c_:=101,x_:=[],l_:=bD ((dY s).take s.size) }])):=by rw[D,qX _ _ _ s_];rfl
  go_wp2_with (first|(go_at_call 97;refine rf (xV s _ s.size aJ _ d (aD)) λE q=>?_;obtain rfl:=q.symm)|(at_builtin;refine wpList_append_own _ aJ _ _ 210 aJ (H_ w) 218 T _ 3 32 underlying210 V t y z aJ d_ _ _ _ rfl (n.alloc _) (aL (H_ wr) 0) 1 1 (zN { c_:=101,x_:=[],l_:=bD ((dY s).take s.size) }) rfl rfl ?c1 ?c2 ?c3 ?c4 ?c5 ?_))
  case c1=>
   intro j u a;match j,a with
   |0,a=>simp[zN]at a;subst a;simp[Addr.add,go_sem]
   |1,a=>simp[zN,bs]at a;subst a;simp[Addr.add,go_sem]
   |2,a=>simp[zN]at a;subst a;simp[Addr.add,go_sem]
   |j+3,a=>simp[zN]at a
  case c2=>
   intro u A;simp only[zN,ff,jf,or_false]at A;rcases A with rfl|rfl|rfl<;>rfl
  case c3=>unfold maxLen;exact aD
  case c4=>exact aD
  case c5=>have:=b.size;simp;exact aD
  intro F W c g _;go_wp2
  go_ret2
  refine⟨(b.alloc b.size _).grown g (by have:=b.size;simp;exact aD) (bX n),?_⟩
  rw[C];refine⟨F,aJ,?_⟩;rw[AT,ew];exact c
structure Ctx where
 pb:Nat
 g:Nat
 cap:Nat
 ts:List bH
structure At(C:Ctx)(w:aN)(p bad:Nat):Prop where
 i_:w.heap[C.pb]?=Ua (Uy #[Uq (Ua (aL C.g 0)) (Ty C.ts) C.cap,I_ p,I_ bad] 215)
 row:∃cur,w.heap[C.g]?=Ua (Uy cur 218)/\cur.toList.take (Ty C.ts*3)=qI C.ts
 ne:C.g≠C.pb
 lt:p<Ty C.ts
 len:Ty C.ts<=3000
 cap:Ty C.ts<=C.cap
 last:(aS C.ts (Ty C.ts-1)).c_=101
 pos:∀q,q<Ty C.ts->(aS C.ts q).l_≠0
structure Fr(pb:Nat)(w w':aN):Prop where
 os:w'.os=w.os
 tape:w'.tape=w.tape
 output:w'.output=w.output
 size:w.heap.size<=w'.heap.size
 block:∀k,k<w.heap.size->k≠pb->w'.heap[k]?=w.heap[k]?
theorem Fr.refl(pb:Nat)(w:aN):Fr pb w w:=⟨rfl,rfl,rfl,aD,s_⟩
theorem Fr.trans{pb:Nat}{a b c:aN}(h:Fr pb a b)(k:Fr pb b c):Fr pb a c:=
 ⟨k.os.trans h.os,k.tape.trans h.tape,k.output.trans h.output,eo h.size k.size,λi d e=>(k.block i (ej d h.size) e).trans (h.block i d e)⟩
theorem Fr.below{pb:Nat}{a:aN}(h:R_ T a):Fr pb T a:=⟨h.os,h.tape,h.output,h.size,λk b _=>h.block k b⟩
theorem Fr.drew{b:Nat}{a:aN}(h:Fr b a T):Fr b a T.drew:=⟨h.os,h.tape,h.output,h.size,h.block⟩
theorem Fr.drewN(h:Fr R T Z)(n:Nat):Fr R T (Z.drewN n):=⟨h.os,h.tape,h.output,h.size,h.block⟩
theorem Fr.alloc{pb:Nat}{a w:aN}(h:Fr pb a w)(o:Obj):Fr pb a (w.alloc o):=(by grind [Fr.trans,Fr.below,ep,dz])
theorem Fr.setCell{b:Nat}(h:Fr b T Z){p:Addr}(c:p.block=b\/T.heap.size<=p.block)(u:aW):Fr b T (Z.setCell p u):=
 ⟨h.os,h.tape,h.output,by have:=h.size;grind [World.setCell],(by grind [em,Fr.block])⟩
def aH{b:Nat}{o:Obj}(h:T.heap[b]?=Ua o):b<T.heap.size:=by grind
theorem aA{w:aN}{b i:Nat}(h:w.heap[b]?=Ua (Uy c e)){v:aW}(a:c[i]?=Ua v):T_ w (aL b i)=Ua v:=by simp[World.cell?,h,a]
theorem aF{b i:Nat}(h:T.heap[b]?=Ua (Uy c e)):T.frozen? (aL b i)=Uc:=by simp[World.frozen?,h]
theorem aP{i:Nat}{f:Nat × Nat}(h:T.heap[R]?=Ua (Uy c e f)){u:aW}:(Tz T (aL R i) u).heap[R]?=Ua (Uy (c.setIfInBounds i u) e f):=by grind [World.setCell]
def l7(a:List bH)(p:Nat)(h:p<Ty a):(qI a)[p*3]?=Ua (Ux .u8 (aS a p).c_)/\(qI a)[p*3+1]?=Ua (Q_ (bs (aS a p).x_))/\(qI a)[p*3+1+1]?=Ua (I_ (aS a p).l_):=by
 induction a generalizing p with
 |nil=>simp at h
 |cons t a b=>
  cases p with
  |zero=>simp[qI,zN,aS]
  |succ p=>
   grind [qI,zN,aS]
def At.tok{C:Ctx}(h:At C T R Y):dP T C.g (R*3) (Ux .u8 (aS C.ts R).c_)/\dP T C.g (R*3+1) (Q_ (bs (aS C.ts R).x_))/\dP T C.g (R*3+1+1) (I_ (aS C.ts R).l_):=by obtain⟨a,e,d⟩:=h.row;obtain⟨f,c,b⟩:=l7 C.ts R h.lt;grind [aA]
theorem At.below{C:Ctx}{a:aN}(h:At C T R Y)(e:R_ T a):At C a R Y:=by obtain⟨b,d,c⟩:=h.row;exact⟨by grind [eg,At.i_],ku,h.ne,h.lt,h.len,h.cap,h.last,h.pos⟩
def zM(t:bH):Uf:=Us #[Ux .u8 t.c_,Ur (bs t.x_),I_ t.l_]
def F4(f g d p n:Nat)(w:aN)(a c:Int)(b:ByteArray)(x:p<n)(_hn:n<=3000)(_hnc:n<=d)(j:f<H_ w)(q:g<H_ w)
 (r:dP w f 0 (P_ (Ua (aL g 0)) n d)) (k:dP w f 1 (I_ p))
 (l:dP w g (p*3) (Ux .u8 a)) (m:dP w g (p*3+1) (Q_ b)) (i:dP w g (p*3+1+1) (I_ c)):
  Ue Un 163 #[bF f] w λe w'=>e=bY (Us #[Ux .u8 a,Q_ b,I_ c])/\R_ w w':=by
 have y:∀o,dP (w.alloc o) f 0 (P_ (Ua (aL g 0)) n d):=λo=>by grind [World.cell?_alloc_past]
 have t:∀o,dP (w.alloc o) f 1 (I_ p):=λo=>by grind [World.cell?_alloc_past]
 have s:∀o,dP (w.alloc o) g (p*3) (Ux .u8 a):=λo=>by grind [World.cell?_alloc_past]
 have z:∀o,dP (w.alloc o) g (p*3+1) (Q_ b):=λo=>by grind [World.cell?_alloc_past]
 have u:∀o,dP (w.alloc o) g (p*3+1+1) (I_ c):=λo=>by grind [World.cell?_alloc_past]
 clear r k l m i;go_in
 go_wp2
 go_region
 go_wp2
 refine bodyPost_ret (v:=Us #[Ux .u8 a,Q_ b,I_ c]) (by simp[results,results163,go_sem]) rfl ⟨rfl,?_⟩
 grind [Below.drew,ep,dz]
def lU(C:Ctx)(w:aN)(p bad:Nat)(h:At C w p bad):
 Ue Un 163 #[bF C.pb] w λe w'=>e=bY (zM (aS C.ts p))/\R_ w w':=
 F4 C.pb C.g C.cap p (Ty C.ts) w _ _ _ h.lt h.len h.cap (aH h.i_) (by grind [At.row]) (aA h.i_ rfl) (aA h.i_ rfl) h.tok.1 h.tok.2.1 h.tok.2.2
def At.cells{C:Ctx}{w a:aN}(h:At C w R Y)(e:R_ w a):
 C.pb<a.heap.size/\(∀o,T_ (a.alloc o) (aL C.pb 1)=Ua (I_ R))/\(∀o,T_ (a.alloc o) (aL C.pb 2)=Ua (I_ Y))/\T_ a (aL C.pb 1)=Ua (I_ R)/\T_ a (aL C.pb 2)=Ua (I_ Y)/\(∀i,(∀o,(a.alloc o).frozen? (aL C.pb i)=Uc)/\a.frozen? (aL C.pb i)=Uc):=by
 have b:=h.below e;have c:=aH b.i_;refine⟨c,λo=>?_,λo=>?_,aA b.i_ aJ,aA b.i_ aJ,λi=>⟨λo=>?_,aF b.i_⟩⟩
 .rw[World.cell?_alloc_past _ _ _ c];exact aA b.i_ aJ
 .rw[World.cell?_alloc_past _ _ _ c];exact aA b.i_ aJ
 have d:=b.below ((dz _ _).alloc mJ o);exact aF d.i_
def AC(C:Ctx)(w:aN)(p bad:Nat)(x:ByteArray)(h:At C w p bad):
 Ue Un 215 #[bF C.pb,Q_ x] w λe w'=>e=bY (Uw (decide (bad=0) && bZ C.ts p (dY x)))/\R_ w w':=by
 have i:Ul (bZ C.ts p (dY x)=(((aS C.ts p).c_==112 || (aS C.ts p).c_==107) && (aS C.ts p).x_==dY x)):=rfl
 have q:Ul (((bs (aS C.ts p).x_).toList==x.toList)=((aS C.ts p).x_==dY x)):=by show _=_;rw[aX,Lib.toList_data]
 have f:=lU C w p bad h;rw[zM]at f;have b:Ul (Ue Un 163 #[bF C.pb] w λe w'=>e=bY (Us #[Ux .u8 (aS C.ts p).c_,Q_ (bs (aS C.ts p).x_),I_ (aS C.ts p).l_])/\R_ w w'):=f
 clear f;have m:Ul (At C w p bad):=h;clear h;generalize aS C.ts p=t at*;obtain⟨c,o,n⟩:=t;simp only at i q b;go_in
 go_wp2_with fail;refine rf b λj d=>?_
 obtain⟨u, -,y, -, -, -⟩:=m.cells d;clear b;have a:R_ w (eH j #[Ux .u8 c,Q_ (bs o),I_ n] 218):=d.alloc d.size _;by_cases g:bad=0
 .subst g;by_cases l:c=112
  .subst l;go_wp2
   go_ret;exact⟨gO mg,a⟩
  have v:((c:Int)==112)=Uc:=G_
  by_cases k:c=107
  .subst k;go_wp2
   go_ret;exact⟨gO mg,a⟩
  have s:((c:Int)==107)=Uc:=G_
  go_wp2
  go_ret;exact⟨gO (by rw[i];grind),a⟩
 have r:((bad:Int)==0)=Uc:=G_
 go_wp2
 go_ret;exact⟨gO (by simp[g]),a⟩
def At.move{C:Ctx}(h:At C T R Y)(f:R_ T Z)(q:Nat)(e:q<Ty C.ts):
 At C (Tz Z (aL C.pb 1) (I_ q)) q Y/\Fr C.pb T (Tz Z (aL C.pb 1) (I_ q)):=by
 have c:=h.below f;obtain⟨a,g,d⟩:=c.row;refine⟨⟨?_,⟨a,?_,d⟩,h.ne,e,h.len,h.cap,h.last,h.pos⟩,pu⟩
 .rw[aP c.i_];rfl
 grind [em,At.ne]
theorem At.Ca{C:Ctx}(h:At C T R Y)(e:R_ T Z)(q:Nat):
 At C (Tz Z (aL C.pb 2) (I_ q)) R q/\Fr C.pb T (Tz Z (aL C.pb 2) (I_ q)):=by
 have c:=h.below e;obtain⟨a,f,d⟩:=c.row;refine⟨⟨?_,⟨a,?_,d⟩,h.ne,h.lt,h.len,h.cap,h.last,h.pos⟩,pu⟩
 .rw[aP c.i_];rfl
 grind [em,At.ne]
def BR(a:Int)(b:ByteArray)(c:Int)(w:aN):(Instr.field 218 (Us #[Ux .u8 a,Q_ b,I_ c]) 2).run Un w=.ok (I_ c) w:=k_
def DO(C:Ctx)(w:aN)(p:Nat)(h:At C w p 0):
 Ue Un 100 #[bF C.pb] w λe w'=>e=fD/\At C w' p (aS C.ts p).l_/\Fr C.pb w w':=by
 obtain⟨m, -, -, -,n,j⟩:=h.cells (dz _ w);have b:=lU C w p 0 h;rw[zM]at b;have g:Ul (At C w p 0):=h;have a:=aB b;go_in
 go_wp2_with fail;refine rf a λl i=>?_
 obtain⟨c, -, -, -,k,d⟩:=g.cells i;have f:=BR;go_wp2
 go_end0;grind [At.Ca,d7]
def XF(C:Ctx)(w:aN)(p bad:Nat)(h:At C w p bad)(c:bad≠0):
 Ue Un 100 #[bF C.pb] w λe w'=>e=fD/\w'=w:=by
 obtain⟨b, -, -, -,d,a⟩:=h.cells (dz _ w);go_in
 go_wp2
 go_end0;simp
def At.next{C:Ctx}{p:Nat}(h:At C T p R)(a:(aS C.ts p).c_≠101):p+1<Ty C.ts:=by grind [At.last,aS]
def JQ{a:List bH}(h:bZ a R V=Ud):(aS a R).c_≠101:=by grind [bZ]
theorem Fr.vp(h:R_ T Z)(k:Fr R Z K):Fr R T K:=(Fr.below h).trans k
theorem Fr.sm(h:Fr R T Z)(k:R_ Z K):Fr R T K:=h.trans (Fr.below k)
def Ld(C:Ctx)(w:aN)(p:Nat)(x:ByteArray)(h:At C w p 0)(f:bZ C.ts p (dY x)=Ud):
 Ue Un 213 #[bF C.pb,Q_ x] w λe w'=>e=fD/\At C w' (p+1) 0/\Fr C.pb w w':=by
 have hp :=h.next (JQ f)
 have b:=h.len;have g:=AC C w p 0 x h;have a:=aB g;have c:=aB h;go_in
 go_wp2_with fail;refine rf a λj d=>?_
 obtain⟨k, -, -,l,m,i⟩:=c.cells d;go_wp2
 go_end0;have:=c.move d (p+1) hp;grind
def Ng(C:Ctx)(w:aN)(p:Nat)(x:ByteArray)(h:At C w p 0)(k:bZ C.ts p (dY x)=Uc):
 Ue Un 213 #[bF C.pb,Q_ x] w λe w'=>e=fD/\At C w' p (aS C.ts p).l_/\Fr C.pb w w':=by
 have g:=AC C w p 0 x h;have a:=aB g;have d:=aB h;go_in
 go_wp2_with fail;refine rf a λb f=>?_
 have j:=aB (DO C b p (d.below f));go_wp2_with fail;refine rf j λl ⟨i,c⟩=>?_
 go_wp2
 refine bodyPost_ret (results_none aJ _ _ _) aJ ?_;grind [Fr.vp]
def Oc(C:Ctx)(w:aN)(p bad:Nat)(x:ByteArray)(h:At C w p bad)(c:bad≠0):
 Ue Un 213 #[bF C.pb,Q_ x] w λe w'=>e=fD/\At C w' p bad/\Fr C.pb w w':=by
 have g:=AC C w p bad x h;have a:=aB g;have d:=aB h;go_in
 go_wp2_with fail;refine rf a λb f=>?_
 have i:=aB (XF C b p bad (d.below f) c);go_wp2_with fail;refine rf i λk j=>?_
 go_wp2
 refine bodyPost_ret (results_none aJ _ _ _) aJ ?_;grind [At.below,Fr.below]
def Ju(C:Ctx)(w:aN)(p:Nat)(x:ByteArray)(h:At C w p 0)(c:bZ C.ts p (dY x)=Ud):
 Ue Un 216 #[bF C.pb,Q_ x] w λe w'=>e=bY (Uw Ud)/\At C w' (p+1) 0/\Fr C.pb w w':=by
 have j:p+1<Ty C.ts:=h.next (JQ c)
 have i:=h.len;have b:=AC C w p 0 x h;rw[c]at b;have a:=aB b;have g:=aB h;clear h b c;go_in
 go_wp2_with fail;refine rf a λl d=>?_
 obtain⟨n, -, -,m,o,f⟩:=g.cells d;have k:=(f 1).2;clear f a;go_wp2
 go_ret;refine⟨aJ,?_⟩;have:=g.move d (p+1) j;grind
def Ep(C:Ctx)(w:aN)(p bad:Nat)(x:ByteArray)(h:At C w p bad)(f:(decide (bad=0) && bZ C.ts p (dY x))=Uc):
 Ue Un 216 #[bF C.pb,Q_ x] w λe w'=>e=bY (Uw Uc)/\R_ w w':=by
 have c:=AC C w p bad x h;have a:=aB c;go_in
 go_wp2_with fail;refine rf a λd b=>?_
 go_wp2
 go_ret;exact⟨aJ,b⟩
def Qw(C:Ctx)(w:aN)(p:Nat)(h:At C w p 0)(i:(aS C.ts p).c_=110):
 Ue Un 214 #[bF C.pb] w λe w'=>e=bY (Uu #[Q_ (bs (aS C.ts p).x_),I_ (aS C.ts p).l_])/\At C w' (p+1) 0/\Fr C.pb w w':=by
 have j:p+1<Ty C.ts:=h.next aD
 have g:=h.len;have b:=lU C w p 0 h;rw[zM,i]at b;have a:=aB b;have f:=aB h;clear h b i;go_in
 go_wp2_with fail;refine rf a λl c=>?_
 obtain⟨n,m,q, -, -,d⟩:=f.cells c;have k:=(d 1).1;clear d a;go_wp2_with fail;go_quiet (fail)
 go_wp2
 go_ret2
 refine⟨aJ,?_⟩;have o:=f.move c (p+1) j;grind [below_drewN,ep,dz,At.below,Fr.sm]
def Mk(C:Ctx)(w:aN)(p:Nat)(h:At C w p 0)(l:(aS C.ts p).c_≠110):
 Ue Un 214 #[bF C.pb] w λe w'=>e=bY (Uu #[Q_ (bs []),I_ 0])/\At C w' p (aS C.ts p).l_/\Fr C.pb w w':=by
 have f:=lU C w p 0 h;rw[zM]at f;have a:=aB f;have g:=aB h;have q:(((aS C.ts p).c_:Int) != 110)=Ud:=G_
 clear h f l;go_in
 go_wp2_with fail;refine rf a λi b=>?_
 obtain⟨n,m,s, -, -,k⟩:=g.cells b;clear k a;have j:=aB (λo=>DO C (i.alloc o) p ((g.below b).below (lr)))
 go_wp2_with fail;refine rf (j _) λr ⟨d,c⟩=>?_
 go_wp2
 go_ret2
 exact⟨aJ,d,Fr.vp (b.alloc b.size _) c⟩
def Hc(C:Ctx)(w:aN)(p bad:Nat)(h:At C w p bad)(j:bad≠0):
 Ue Un 214 #[bF C.pb] w λe w'=>e=bY (Uu #[Q_ (bs []),I_ 0])/\At C w' p bad/\Fr C.pb w w':=by
 have g:=lU C w p bad h;rw[zM]at g;have d:=aB g;have f:=aB h;go_in
 go_wp2_with fail;refine rf d λi b=>?_
 obtain⟨q,m,s, -, -,l⟩:=f.cells b;have a:=λo=>(f.below b).below ((dz _ _).alloc mJ o)
 have k:=aB (λo=>XF C (i.alloc o) p bad (a o) j)
 have c:=aB a;go_wp2_with fail;refine rf (k _) λr n=>?_
 go_wp2
 go_ret2
 exact⟨aJ,c _,Fr.below (b.alloc b.size _)⟩
def jM(R:Uf->aC->Prop):List Uf->List aC->Prop
 |[],[]=>True
 |v::vs,a::ks=>R v a/\jM R vs ks
 |_,_=>False
theorem jM.mono{S:Uf->aC->Prop}(h:∀v a,j v a->S v a):∀{vs b},jM j vs b->jM S vs b
 |[],[],_=>trivial
 |_::_,_::_,⟨d,c⟩=>⟨h _ _ d,jM.mono h c⟩
 |[],_::_,h=>h.elim
 |_::_,[],h=>h.elim
def jM.length{R:Uf->aC->Prop}:∀{vs ks},jM R vs ks->Ty vs=Ty ks
 |[],[],_=>rfl
 |_::vs,_::ks,⟨_,a⟩=>by simp[jM.length a]
 |[],_::_,h=>h.elim
 |_::_,[],h=>h.elim
def jM.snoc:∀{b c} {v a},jM j b c->j v a->jM j (b++[v]) (c++[a])
 |[],[],_,_,_,h=>⟨h,trivial⟩
 |_::_,_::_,_,_,⟨e,d⟩,h=>⟨e,jM.snoc d h⟩
 |[],_::_,_,_,h,_=>h.elim
 |_::_,[],_,_,h,_=>h.elim
def nK(R:Uf->aC->Prop)(F:bN)(w:aN)(kv:aW)(ks:List aC):Prop:=
 (kv=bO/\ks=[])\/
 ∃g cap cur vs,kv=Uq (Ua (aL g 0)) (Ty ks) cap/\F g/\w.heap[g]?=Ua (Uy cur 66)/\Ty ks<=cap/\cur.toList.take (Ty ks)=vs/\jM R vs ks
def eZ:Nat->(Nat->Prop)->World->Uf->aC->Prop
 |0,_,_,_,_=>False
 |d+1,F,w,v,a=>∃b kv,v=bF b/\F b/\w.heap[b]?=Ua (Uy #[Ur (bs a.op),I_ a.l_,Ur (bs a.x_),kv] 119)/\nK (eZ d F w) F w kv a.y_
def tu(F:bN)(w:aN)(v:aW)(a:aC):Prop:=∃d,eZ d F w v a
def TH(Y_:P:=by
 rcases h with h|⟨g,cap,cur,vs,h1,h2,h3,h4,h5,h6⟩
 .exact ed h
 exact ec ⟨g,cap,cur,vs,h1,hF _ h2,h3,h4,h5,h6.mono hR⟩):P:=Y_
def nK.mono{S:Uf->aC->Prop}{F G:bN}{w:aN}{d:aW}(h:nK j F w d X)(hR:∀v a,j v a->S v a)(hF:∀b,F b->G b):nK S G w d X:=by exact TH
theorem eZ.mono{F G:bN}{w:aN}(c:∀b,F b->G b):∀{d e:Nat} {v a},eZ d F w v a->d<=e->eZ e G w v a
 |d+1,e+1,v,a,⟨b,f,k,i,l,j⟩,g=>⟨b,f,k,c _ i,l,j.mono (λ_ _ h=>eZ.mono c h aD) c⟩
 |0,_,_,_,h,_=>h.elim
theorem eZ.h_{w w':aN}(k:∀b,W b->w'.heap[b]?=w.heap[b]?):∀{d:Nat} {v a},eZ d W w v a->eZ d W w' v a
 |d+1,v,a,⟨b,p,m,j,t,c⟩=>by
  refine⟨b,p,m,j,G_,?_⟩
  rcases c with c|⟨g,e,f,l,i,q,s,r,n,o⟩
  .exact ed c
  exact ec ⟨g,e,f,l,i,q,G_,r,n,o.mono λ_ _ h=>eZ.h_ k h⟩
theorem tu.mono{F G:bN}{w:aN}{v:aW}(h:tu F w v a)(c:∀b,F b->G b):tu G w v a:=by obtain⟨d,h⟩:=h;exact⟨d,h.mono c (aD)⟩
theorem tu.h_{w w':aN}{v:aW}(h:tu W w v a)(c:∀b,W b->w'.heap[b]?=w.heap[b]?):tu W w' v a:=by obtain⟨d,h⟩:=h;exact⟨d,h.h_ c⟩
def tu.ptr(h:tu W T U a):∃b,U=bF b:=by
 obtain⟨d,h⟩:=h;cases d with
 |zero=>exact h.elim
 |succ d=>grind [eZ]
def jM.depth:∀{a b},jM (tu W T) a b->∃d,jM (eZ d W T) a b
 |[],[],_=>⟨0,trivial⟩
 |_::_,_::_,⟨⟨d,f⟩,c⟩=>by obtain⟨e,g⟩:=jM.depth c;exact⟨max d e,(by grind [eZ.mono]),(by grind [jM.mono,eZ.mono])⟩
 |[],_::_,h=>h.elim
 |_::_,[],h=>h.elim
def w_(F:bN)(w:aN)(kv:aW)(ks:List aC):Prop:=nK (tu F w) F w kv ks
def w_.depth(h:w_ W T U X):∃d,nK (eZ d W T) W T U X:=by
 rcases h with h|⟨g,b,a,i,m,j,o,k,n,f⟩
 .exact⟨0,ed h⟩
 obtain⟨d,l⟩:=f.depth;exact⟨d,ec ⟨g,b,a,i,m,j,o,k,n,l⟩⟩
def tu.mk{kv:aW}(f:W R)(h:T.heap[R]?=Ua (cD #[Q_ (bs a.op),I_ a.l_,Q_ (bs a.x_),kv] 119))(e:w_ W T kv a.y_):tu W T (bF R) a:=by obtain⟨d,c⟩:=e.depth;exact⟨d+1,R,kv,aJ,f,h,c⟩
theorem w_.mono{F G:bN}{w:aN}{a:List aC}(h:w_ F w U a)(d:∀b,F b->G b):w_ G w U a:=nK.mono h (λ_ _ h=>h.mono d) d
theorem w_.h_{w w':aN}{d:List aC}(h:w_ W w U d)(i:∀b,W b->w'.heap[b]?=w.heap[b]?):w_ W w' U d:=by
 rcases h with h|⟨g,c,a,k,f,j,o,m,n,l⟩
 .exact ed h
 exact ec ⟨g,c,a,k,f,j,G_,m,n,l.mono λ_ _ h=>h.h_ i⟩
def rn(lo hi:Nat)(b:Nat):Prop:=lo<=b/\b<hi
def lK(C:Ctx)(w:aN):Except Nat Nat->Prop
 |.ok q=>At C w q 0
 |.error l=>l≠0/\∃q,At C w q l
def nL{α:Type}:bS α->Except Nat Nat
 |.ok (_,q)=>.ok q
 |.error l=>.error l
def fL{α:Type}(S:Except Nat Nat)(X:Nat->bS α):bS α:=
 match S with
 |.ok q=>X q
 |.error l=>.error l
def sG(C:Ctx)(S:Except Nat Nat)(x:bP):Bool:=
 match S with
 |.ok q=>bZ C.ts q x
 |.error _=>Uc
def uL(C:Ctx)(S:Except Nat Nat)(x:bP):Except Nat Nat:=
 match S with
 |.ok q=>if bZ C.ts q x then .ok (q+1)else .ok q
 |.error l=>.error l
def fS(C:Ctx)(S:Except Nat Nat)(x:bP):Except Nat Nat:=
 match S with
 |.ok q=>if bZ C.ts q x then .ok (q+1)else .error (aS C.ts q).l_
 |.error l=>.error l
def nM(C:Ctx)(S:Except Nat Nat):Except Nat Nat:=
 match S with
 |.ok q=>if (aS C.ts q).c_==110 then .ok (q+1)else .error (aS C.ts q).l_
 |.error l=>.error l
def nF(C:Ctx)(S:Except Nat Nat):bP:=
 match S with
 |.ok q=>if (aS C.ts q).c_==110 then (aS C.ts q).x_ else []
 |.error _=>[]
def oS(C:Ctx)(S:Except Nat Nat):Nat:=
 match S with
 |.ok q=>if (aS C.ts q).c_==110 then (aS C.ts q).l_ else 0
 |.error _=>0
theorem lK.below{C:Ctx}{a:aN}{S:Except Nat Nat}(h:lK C T S)(b:R_ T a):lK C a S:=by
 cases S with
 |ok q=>exact At.below h b
 |error l=>obtain⟨d,q,c⟩:=h;exact⟨d,q,c.below b⟩
def Ra(C:Ctx)(q:Nat)(x:bP):sG C (.ok q) x=bZ C.ts q x:=rfl
theorem mW{C:Ctx}{x:bP}(h:bZ C.ts R x=Ud):fS C (.ok R) x=.ok (R+1):=by grind [fS]
theorem vU{C:Ctx}(h:bZ C.ts R V=Uc):fS C (.ok R) V=.error (aS C.ts R).l_:=by unfold fS;simp[h]
def BW{C:Ctx}(h:bZ C.ts R V=Ud):uL C (.ok R) V=.ok (R+1):=by grind [uL]
def BX{C:Ctx}(h:bZ C.ts R V=Uc):uL C (.ok R) V=.ok R:=by unfold uL;simp[h]
def OA{C:Ctx}(h:(aS C.ts R).c_=110):nM C (.ok R)=.ok (R+1)/\nF C (.ok R)=(aS C.ts R).x_/\oS C (.ok R)=(aS C.ts R).l_:=by unfold nM nF oS;simp[h]
def JI{C:Ctx}(h:(aS C.ts R).c_≠110):nM C (.ok R)=.error (aS C.ts R).l_/\nF C (.ok R)=[]/\oS C (.ok R)=0:=by grind [nM,nF,oS]
def Bd(C:Ctx)(w:aN)(S:Except Nat Nat)(x:ByteArray)(h:lK C w S):
 Ue Un 215 #[bF C.pb,Q_ x] w λe w'=>e=bY (Uw (sG C S (dY x)))/\R_ w w':=by
 cases S with
 |ok q=>
  have:=AC C w q 0 x h;exact this
 |error l=>
  obtain⟨b,q,a⟩:=h;have:=AC C w q l x a;rw[gi b]at this;exact this
def zO(C:Ctx)(w:aN)(S:Except Nat Nat)(x:ByteArray)(h:lK C w S):
 Ue Un 213 #[bF C.pb,Ur x] w λe w'=>e=fD/\lK C w' (fS C S x.data.toList)/\Fr C.pb w w':=by
 cases S with
 |ok q=>
  have h' :=h;cases a:bZ C.ts q x.data.toList
  .rw[vU a];exact(Ng C w q x h' a).mono (by grind [At.pos,At.lt,lK])
  rw[mW a];exact Ld C w q x h' a
 |error l=>
  obtain⟨c,q,b⟩:=h;exact(Oc C w q l x b c).mono (by grind [lK,fS])
def Dc(C:Ctx)(w:aN)(S:Except Nat Nat)(x:ByteArray)(h:lK C w S):
 Ue Un 216 #[bF C.pb,Q_ x] w λe w'=>e=bY (Uw (sG C S (dY x)))/\lK C w' (uL C S (dY x))/\Fr C.pb w w':=by
 cases S with
 |ok q=>
  have h' :=h;rw[Ra];cases a:bZ C.ts q (dY x)
  .rw[BX a];exact(Ep C w q 0 x h' G_).mono (by grind [lK.below,Fr.below])
  rw[BW a];exact Ju C w q x h' a
 |error l=>
  obtain⟨f,q,c⟩:=h;exact(Ep C w q l x c G_).mono λe w' ⟨d,b⟩=>⟨d,⟨f,q,c.below b⟩,Fr.below b⟩
def Ed(C:Ctx)(w:aN)(S:Except Nat Nat)(h:lK C w S):
 Ue Un 214 #[bF C.pb] w λe w'=>e=bY (Uu #[Q_ (bs (nF C S)),I_ (oS C S)])/\lK C w' (nM C S)/\Fr C.pb w w':=by
 cases S with
 |ok q=>
  have h' :=h;by_cases a:(aS C.ts q).c_=110
  .obtain⟨b,d,c⟩:=OA a;rw[b,d,c];exact Qw C w q h' a
  obtain⟨b,d,c⟩:=JI a;exact(Mk C w q h' a).mono (by grind [At.pos,At.lt,lK])
 |error l=>
  obtain⟨g,q,f⟩:=h;exact(Hc C w q l f g).mono (by grind [nF,oS,lK,nM])
def F5(C:Ctx)(w:aN)(S:Except Nat Nat)(h:lK C w S):
 Ue Un 163 #[bF C.pb] w λe w'=>(∃t,e=bY (Us #[Ux .u8 (bH.c_ t),Q_ (bs t.x_),I_ t.l_])/\∀q,S=.ok q->t=aS C.ts q)/\R_ w w':=by
 cases S with
 |ok q=>exact(lU C w q 0 h).mono (by grind [zM])
 |error l=>
  obtain⟨b,q,a⟩:=h;exact(lU C w q l a).mono (by grind [zM])
def eN(C:Ctx)(w:aN)(r:bS aC)(e:Uh)(w':aN):Prop:=
 Fr C.pb w w'/\lK C w' (nL r)/\∃b,e=bY (bF b)/\∀a q,r=.ok (a,q)->tu (rn w.heap.size w'.heap.size) w' (bF b) a
def vL(C:Ctx)(w:aN)(r:bS (List aC))(e:Uh)(w':aN):Prop:=
 Fr C.pb w w'/\lK C w' (nL r)/\∃x n c,e=bY (Uq x n c)/\∀ks q,r=.ok (ks,q)->w_ (rn w.heap.size w'.heap.size) w' (Uq x n c) ks
def Reads(C:Ctx)(f:Nat)(X:Nat->bS aC):Prop:=
 ∀(w:aN) (S:Except Nat Nat),lK C w S->fL S X≠.error 0->Ue Un f #[bF C.pb] w (eN C w (fL S X))
def W4:(prog.info? 66).map (λi=>(i.zero,i.size,i.bytes))=Ua (Ua (.pointer none),1,8):=k_
def vr(b_:Nat)(w:aN)(v:aW)(acc:List aC):Prop:=
 ∃vs F,w.ownsRow b_ 66 1 v (Ty acc) vs/\jM (tu F w) vs acc/\∀b,F b->b_<=b/\b<w.heap.size/\v.ownBlock≠Ua b
theorem vr.nil(a:Nat)(w:aN):vr a w (bO) []:=⟨[],λ_=>False,World.ownsRow_nil _ _ _ _,trivial,s_⟩
theorem bC{w1:aN}{j:List Uf}(h:T.ownsRow R e Y U J j)(m:∀k,U.ownBlock=Ua k->w1.heap[k]?=T.heap[k]?):w1.ownsRow R e Y U J j:=by
 refine⟨h.1,?_⟩;rcases h.2 with f|⟨g,d,c,i,f,o,l⟩
 .grind
 refine ec ⟨g,d,c,i,f,?_,l⟩;rw[m g (by rw[i];rfl)];exact o
theorem eG(h:T.ownsRow R e Y U J S):∀k,U.ownBlock=Ua k->k<H_ T:=by
 intro k c;rcases h.2 with ⟨rfl,_⟩|⟨g,i,d,rfl,j,l,_⟩
 .cases c
 have :=ft c;grind
def U1(Y_:P:=by
 obtain⟨vs,F,h1,h2,h3⟩:=h;refine⟨vs,F,bC h1 λk hk=>?_,h2.mono λ_ _ h=>h.h_ λb hb=>?_,λb hb=>?_⟩
 .grind [bX,Fr.block,eG]
 .have:=hf.size;grind
 grind [Fr.block]):P:=Y_
theorem vr.h_{a d:Nat}{w:aN}{v:aW}{b:List aC}(h:vr a w v b)(hf:Fr d w T)(e:d<a):vr a T v b:=by exact U1
def vr.snoc{b_ lo:Nat}{m:List Uf}(r:jM (tu W T) m X)(B:∀b,W b->b_<=b/\b<T.heap.size/\U.ownBlock≠Ua b)
 (z:tu (rn lo T.heap.size) T C a) (A:b_<=lo) (q:∀k,U.ownBlock=Ua k->k<lo) (y:∀k,k<T.heap.size->Z.heap[k]?=T.heap[k]?) (x:T.heap.size<=Z.heap.size)
 (p:K.ownsRow b_ 66 1 (Uq (Ua (aL R 0)) (Ty X+1) Y) (Ty X+1) (m++[C]))
 (f:Z.grownBy K U.ownBlock) (t:U.ownBlock=Ua R\/T.heap.size<=R):vr b_ K (Uq (Ua (aL R 0)) (Ty X+1) Y) (X++[a]):=by
 have u:∀b,(W b\/rn lo T.heap.size b)->b_<=b/\b<T.heap.size/\U.ownBlock≠Ua b:=by grind [rn]
 have d:∀b,(W b\/rn lo T.heap.size b)->K.heap[b]?=T.heap[b]?:=(by grind [World.grownBy.block])
 refine⟨m++[C],λb=>W b\/rn lo T.heap.size b,?_,?_,?_⟩
 .grind
 .exact jM.snoc (r.mono λ_ _ h=>(h.mono (G_)).h_ d) ((z.mono (G_)).h_ d)
 intro b s;have n:=u b s;have:=f.size;refine⟨n.1,aD,λe=>?_⟩
 have e' :=ft e;grind
theorem vr.tm(h:vr R T U X):w_ (rn R T.heap.size) T U X:=by
 obtain⟨k,F,l,m,q⟩:=h;rcases l.2 with ⟨e,f⟩|⟨g,c,d,e,f,i,j,p,n,o⟩
 .exact ed G_
 exact ec ⟨g,c,d,k,e,⟨f,G_⟩,i,j,G_,(by grind [jM.mono,tu.mono,rn])⟩
def Fr.grown(h:Fr R T Z)(c:Z.grownBy K n)(i:∀k,n=Ua k->H_ T<=k):Fr R T K:=
 ⟨c.os.trans h.os,c.tape.trans h.tape,c.output.trans h.output,eo h.size c.size,λk d g=>by rw[c.block k (ej d h.size) (G_)];exact h.block k d g⟩
theorem At.grown{C:Ctx}{b_:Nat}(h:At C T R Y)(m:T.grownBy Z n)(g:∀k,n=Ua k->b_<=k)(e:C.pb<b_)(d:C.g<b_):At C Z R Y:=by
 obtain⟨c,i,f⟩:=h.row;have j:∀k,k<H_ T->k<b_->Z.heap[k]?=T.heap[k]?:=(by grind [World.grownBy.block])
 exact⟨by grind [At.i_],G_,h.ne,h.lt,h.len,h.cap,h.last,h.pos⟩
def lK.grown{C:Ctx}{b_:Nat}(h:lK C T F)(i:T.grownBy Z n)(e:∀k,n=Ua k->b_<=k)(d:C.pb<b_)(b:C.g<b_):lK C Z F:=by
 cases F with
 |ok q=>grind [At.grown,lK]
 |error l=>obtain⟨g,q,f⟩:=h;exact⟨g,q,f.grown i e d b⟩
theorem lK.facts{C:Ctx}{S:Except Nat Nat}(h:lK C T S):C.pb<T.heap.size/\C.g<T.heap.size/\Ty C.ts<=3000:=by
 have a:∀q l,At C T q l->C.pb<T.heap.size/\C.g<T.heap.size/\Ty C.ts<=3000:=λq l h=>by obtain⟨b,c,_⟩:=h.row;exact⟨aH h.i_,G_,h.len⟩
 cases S with
 |ok q=>exact a q 0 h
 |error l=>grind [lK]
theorem lK.alloc{C:Ctx}{w:aN}{S:Except Nat Nat}(h:lK C w S)(o:Obj):lK C (w.alloc o) S:=(by grind [lK.below,ep,dz])
def lK.bad{C:Ctx}(h:lK C T (.error R)):C.pb<T.heap.size/\∃c:Int,(c==0)=Uc/\T_ T (aL C.pb 2)=Ua (I_ c):=by obtain⟨b,q,a⟩:=h;exact⟨aH a.i_,(R:Int),G_,aA a.i_ rfl⟩
def At.wb{C:Ctx}(h:At C T R 0):C.pb<T.heap.size/\T_ T (aL C.pb 2)=Ua (I_ 0):=⟨aH h.i_,aA h.i_ rfl⟩
def Lx(C:Ctx)(E:Nat->bS aC)(w:aN)(r:bS (List aC))(k:Nat)(v more:aW)(wr:aN):Prop:=
 Fr C.pb w wr/\
 ((∃q acc,more=Uw Ud/\At C wr q 0/\r=fM E C.ts k q acc/\Ty acc+k<=4000/\vr w.heap.size wr v acc)\/
  (∃b x n c,more=Uw b/\v=Uq x n c/\(b=Ud->∃l,r=.error l)/\lK C wr (nL r)/\∀acc q,r=.ok (acc,q)->vr w.heap.size wr v acc))
def vr.slice{w:aN}{v:aW}{b:List aC}(h:vr R w v b):∃x n c,v=Uq x n c:=by
 obtain⟨i,F,e,_⟩:=h;rcases e.2 with ⟨rfl,_⟩|⟨g,f,d,rfl,_⟩
 .simp
 simp
theorem IB(C:Ctx)(x:bP)(r:bS g):fS C (nL r) x=nL (aQ C.ts x r):=by
 cases r with
 |error l=>rfl
 |ok b=>
  grind [nL,Hs.bad,vU,mW,aQ]
theorem EE{C:Ctx}{r:bS g}{a:g}(h:aQ C.ts V r=.ok (a,R)):∃c,r=.ok (a,c):=by
 cases r with
 |error l=>cases h
 |ok d=>
  grind [aQ,Hs.bad]
def JL{C:Ctx}{w2:aN}{a r:bS (List aC)}(k:r=aQ C.ts V a)(j:Fr C.pb T w2)(i:lK C Z (fS C (nL a) V))(h:Fr C.pb w2 Z)
 (d:∀acc q,a=.ok (acc,q)->vr (H_ T) w2 (P_ x R Y) acc) (g:C.pb<H_ T):vL C T r (bY (P_ x R Y)) Z:=by
 grind [Fr.trans,IB,EE,vr.tm,vr.h_,vL]
def Fm(C:Ctx)(E:Nat->bS aC)(HE:Reads C 99 E)(w:aN)(S:Except Nat Nat)(x y:ByteArray)(h:lK C w S)(D r:bS (List aC))
 (h0:Ul (D=fL (fS C S (dY x)) λq=>gK E C.ts q (dY y))) (h1:Ul (r=aQ C.ts (dY y) D)) (hr:D≠.error 0):
 Ue Un 284 #[bF C.pb,Q_ x,Q_ y] w (vL C w r):=by
 obtain⟨i0,hi,ad,al,ah⟩:=info_parts W4;obtain⟨m,an,ao⟩:=h.facts;have HT:=aB (zO C w S x h);have ai:=aB HE;have H:=aB hr;generalize fS C S (dY x)=P at*;go_in
 go_wp2_with fail;refine rf HT λw1 ⟨V,aj⟩=>?_
 have HI:=aB (Bd C w1 P y V);have HA:=aB V;have HF:=aB aj;go_wp2_with fail;refine rf HI λw2 hb=>?_
 have M:=aB (HA.below hb);have Y:=aB (HF.sm hb);cases B:sG C P (dY y)
 .have HB:=aB B;go_wp2
  go_loopg [7,8] (Ty C.ts+1) (λk v o wr=>Lx C E w D k v o wr)
  case atStart=>
   refine⟨Y,?_⟩;cases P with
   |ok q=>
    grind [d7,vr.nil,gK,lK,fL,sG]
   |error l=>
    have e :=h0.out;exact ec ⟨Ud,none,0,0,aJ,aJ,λ_=>⟨l,e⟩,by rw[e];exact M,(by grind [fL])⟩
  case round=>
   obtain⟨W,hrel⟩:=hrel;have z:=aB W;have O:=W.size;rcases hrel with ⟨q,A,rfl,hq,s,au,T⟩|⟨b,x1,n1,c1,rfl,rfl,Z,hS,Q⟩
   ·-- one expression o
    obtain⟨k,rfl⟩:∃k,gk=k+1:=by
     cases gk with
     |zero=>exact eu s H
     |succ k=>simp
    obtain⟨ab,ae⟩:=hq.wb
    have hEq :=λe=>H (by rw[s,fM];rw[show E q=.error 0 from e])
    have HC:=aB (ai wr (.ok q) hq hEq);have aw:=aB s;have HL:=aB T;obtain⟨x1,n1,c1,rfl⟩:=T.slice;go_wp2_with fail;apply HC.mono
    rintro e I ⟨d,f,b3,rfl,L⟩;obtain⟨vs,F,p,K,hF⟩:=HL.h_ d m;have aq:=d.size;have U:=aB d;have J:=aB f;have HREP:=aB L;have HALL:=aB (dy K hF)
    have am:∀g,(Value.slice x1 n1 c1).ownBlock=Ua g->g<H_ wr:=by grind [eG,vr]
    have aa:=aB am;go_wp2_with (at_builtin;refine wpList_append_lies _ r_ _ _ 117 r_ (H_ w) 66 i0 _ 1 8 underlying117 hi ad al ah rfl d_ _ _ _ r_ (p.alloc _) (aL (H_ I) 0) 1 1 [bF b3] r_ r_ ?c1 ?c2 d_ ?c3 ?c4 ?c5 (H_ I+1) s_ ?_)
    case c1=>
     intro j u G;match j,G with
     |0,G=>simp at G;subst G;simp[Addr.add,go_sem]
     |j+1,G=>simp at G
    case c2=>intro u hu;simp at hu;subst hu;rfl
    case c3=>unfold maxLen;exact aD
    case c4=>exact aD
    case c5=>simp;exact aD
    intro g ak w4 t i ap az;have hge :=bX p;have af:=aB ((J.alloc _).grown i hge m an);have ag:=aB (((z.trans U).alloc _).grown i hge)
    have av:Ul (∀a q1,E q=.ok (a,q1)->vr (H_ w) w4 (P_ (Ua (aL g 0)) (Ty A+1) ak) (A++[a])):=λa q1 ha=>
     vr.snoc (lo:=H_ wr) HALL.1 HALL.2 (HREP a q1 ha) O aa (λk hk=>eh _ _ _ hk) s_ t i (G_)
    have HX:=aB (Dc C w4 _ ⟨#[44]⟩ af);go_wp2_with fail;refine rf HX λw5 ⟨ar,N⟩=>?_
    go_wp2
    go_roundg k
    case measure=>exact aD
    case rel=>
     have hbig :=ag.trans N;refine⟨hbig,?_⟩;grind [d7,fM,fL,vr.h_,nL,sG,lK,uL]
   have HROW:=aB Q;have n:=aB (zO C wr (nL D) y hS);cases b
   .go_wp2_with fail;refine rf n λI ⟨f,d⟩=>?_
    go_wp2
    go_ret;exact JL h1 z f d HROW m
   obtain⟨l,hl⟩:=Z rfl;have X:=hS;rw[hl]at X;obtain⟨ab,c,ax,ae⟩:=lK.bad X;go_wp2_with fail;refine rf n λI ⟨f,d⟩=>?_
   go_wp2
   go_ret;exact JL h1 z f d HROW m
 obtain⟨q,rfl,hq⟩:∃q,P=.ok q/\bZ C.ts q (dY y)=Ud:=by
  cases P with
  |ok q=>exact⟨q,aJ,B⟩
  |error l=>cases B
 have n:=aB (zO C w2 (.ok q) y M)
 have e0:D=.ok ([],q):=by grind [d7,gK,fL]
 have ac:=aB e0;go_wp2_with fail;refine rf n λI ⟨f,d⟩=>?_
 go_wp2
 go_ret;refine JL (w2:=w2) h1 Y (by rw[ac];exact f) d (λA q' ay=>?_) m
 grind [vr.nil]
def K8(C:Ctx)(E:Nat->bS aC)(c:Reads C 99 E)(w:aN)(S:Except Nat Nat)(x y:ByteArray)(h:lK C w S)(a:fL S (λq=>fU E C.ts q x.data.toList y.data.toList)≠.error 0):
 Ue Un 284 #[bF C.pb,Ur x,Ur y] w (vL C w (fL S λq=>fU E C.ts q x.data.toList y.data.toList)):=by
 have e:fL S (λq=>fU E C.ts q x.data.toList y.data.toList)=aQ C.ts y.data.toList (fL (fS C S x.data.toList) λq=>gK E C.ts q y.data.toList):=by
  cases S with
  |ok q=>
   grind [fU,aQ,Hs.bad,fL,fS]
  |error l=>rfl
 refine Fm C E c w S x y h _ _ aJ e λb=>a ?_
 rw[e,b];rfl
theorem Fr.cells{w:aN}(h:Fr R w T){b:Nat}(d:b<w.heap.size)(f:b≠R):(∀i,T_ T (aL b i)=T_ w (aL b i))/\(∀i,T.frozen? (aL b i)=w.frozen? (aL b i)):=
 ⟨λi=>World.cell?_of_block (a:=(aL b i)) (h.block b d f),λi=>World.frozen?_of_block (a:=(aL b i)) (h.block b d f)⟩
def uD{c a:aW}(h:T.heap[R]?=Ua (cD #[U,C,c,a] 119)):
 R<H_ T/\dP T R 0 U/\dP T R 1 C/\dP T R 2 c/\dP T R 3 a/\T.frozen? (aL R 0)=Uc/\T.frozen? (aL R 2)=Uc/\T.frozen? (aL R 3)=Uc:=
 (by grind [aA,aF])
def At.two{C:Ctx}(h:At C T R Y):C.pb<H_ T/\(∀b a,dP ((T.alloc b).alloc a) C.pb 1 (I_ R))/\(∀b a,dP ((T.alloc b).alloc a) C.pb 2 (I_ Y))/\(∀b a,((T.alloc b).alloc a).frozen? (aL C.pb 1)=Uc):=by
 have c:∀b a,At C ((T.alloc b).alloc a) R Y:=λb a=>(h.below (lr)).below ((dz _ _).alloc mJ a)
 exact⟨aH h.i_,λb a=>aA (c b a).i_ aJ,λb a=>aA (c b a).i_ aJ,λb a=>aF (c b a).i_⟩
theorem Below.two(b a:Obj):R_ T ((T.alloc b).alloc a):=((dz _ _).alloc (aD) b).alloc s_ a
theorem aZ(X:aN)(n:Nat)(b:n=X.heap.size)(a:Obj):(X.alloc a).heap[n]?=Ua a:=by
 subst b;show (X.heap.push a)[X.heap.size]?=_
 simp
def xA(X:aN)(n:Nat)(c:n=H_ X+1)(b a:Obj):((X.alloc b).alloc a).heap[n]?=Ua a:=
 (by grind [World.alloc])
def kX(X:aN)(n:Nat)(a:n<H_ X)(o:Obj){b:Option Obj}(h:X.heap[n]?=b):(X.alloc o).heap[n]?=b:=by grind [eh]
def Below.three(c b a:Obj):R_ T (((T.alloc c).alloc b).alloc a):=(Below.two c b).alloc kj a
def At.step{C:Ctx}(h:At C T R Y)(c:R_ T Z)(b:R+1<Ty C.ts):
 At C (Tz Z (aL C.pb 1) (I_ ((R:Int)+1))) (R+1) Y/\Fr C.pb T (Tz Z (aL C.pb 1) (I_ ((R:Int)+1))):=by
 have d:=h.move c (R+1) b;grind
theorem UN(w:aN)(a:Addr)(v:aW):(w.setCell a v).heap.size=H_ w:=s_
def Lb(a:aN)(d c:Obj)(b:UInt8):
 (convert 191 9 (P_ (Ua (aL (H_ a+1+1) 0)) 1 1)).run Un (eH ((a.alloc d).alloc c) #[Ux .u8 b.toNat] 5)=.ok (Q_ (bs [b])) (eH ((a.alloc d).alloc c) #[Ux .u8 b.toNat] 5):=by
 refine run_convert_bytes_back (P:=Un) _ 191 9 5 (aL (H_ a+1+1) 0) 1 [b] underlying191 underlying5 underlying9 λj e=>?_
 obtain rfl:j=0:=G_
 simp[go_sem]
def Mf{C:Ctx}{b q:Nat}(g:Fr C.pb T Z)(f:At C Z q 0)(h:H_ T<=b)(i:a.y_=[])
 (c:Z.heap[b]?=Ua (cD #[Q_ (bs a.op),I_ a.l_,Q_ (bs a.x_),bO] 119)):eN C T (.ok (a,q)) (bY (bF b)) Z:=
 ⟨g,f,b,rfl,λj k e=>by cases e;exact tu.mk ⟨h,G_⟩ c (ed G_)⟩
theorem iN{w w':aN}{i:Nat}(h:w'.heap[R]?=w.heap[R]?):T_ w' (aL R i)=T_ w ⟨R,i,none⟩:=by simp[World.cell?,h]
def At.other{C:Ctx}(h:At C T R Y){b:Nat}(e:b≠C.pb)(d:b≠C.g)(v:aW):At C (Tz T (aL b J) v) R Y:=by obtain⟨a,f,c⟩:=h.row;exact⟨by grind [em,At.i_],nj,h.ne,h.lt,h.len,h.cap,h.last,h.pos⟩
theorem lK.other{C:Ctx}(h:lK C T F){b:Nat}(c:b≠C.pb)(a:b≠C.g)(v:aW):lK C (Tz T (aL b R) v) F:=by
 cases F with
 |ok q=>exact At.other h c a v
 |error l=>obtain⟨e,q,d⟩:=h;exact⟨e,q,d.other c a v⟩
def lK.Ac{C:Ctx}(h:lK C T F)(a:H_ T<=R):R≠C.pb/\R≠C.g:=by have:=h.facts;exact aD
theorem eN.take{C:Ctx}{f:aN}{x:bP}(h:eN C T r y f)(i:Fr C.pb f Z)(l:lK C Z (fS C (nL r) x))(j:C.pb<T.heap.size):eN C T (aQ C.ts x r) y Z:=by
 obtain⟨n,t,b,o,m⟩:=h;refine⟨n.trans i,by grind [IB],b,o,λa q p=>?_⟩
 obtain⟨s,c⟩:=EE p;exact((m a s c).h_ (by grind [Fr.block,rn])).mono λk g=>⟨g.1,by have:=g.2;have:=i.size;exact aD⟩
def eN.later{C:Ctx}(d:Fr C.pb T Z)(h:eN C Z r y K):eN C T r y K:=by obtain⟨m,j,b,n,l⟩:=h;exact⟨d.trans m,j,b,n,λa q i=>(l a q i).mono λk f=>⟨by have:=f.1;have:=d.size;exact aD,f.2⟩⟩
structure Made(nb:Nat)(w:aN)(op te:bP)(li:Nat)(v:aW)(acc:List aC):Prop where
 i_:w.heap[nb]?=Ua (Uy #[Ur (bs op),I_ li,Ur (bs te),v] 119)
 uw:vr (nb+1) w v acc
theorem Made.h_{b i:Nat}{w d:aN}{v:aW}{a:List aC}(h:Made b w V L R v a)(g:Fr i w d)(j:i<b):Made b d V L R v a:=
 ⟨by rw[g.block b (aH h.i_) aD];exact h.i_,h.uw.h_ g aD⟩
def Made.Mq(h:Made R T V L J U X)(b:Y<=R):tu (rn Y (H_ T)) T (bF R) (aV V J L X):=
 tu.mk ⟨b,aH h.i_⟩ h.i_ (h.uw.tm.mono qa)
def Made.snoc{x l:aN}{s:bP}{r:Nat}{y:aW}{g f:Nat}(h:Made R T V s r U X)(P:Fr Y T Z)(O:Y<R)
 (D:jM (tu W Z) S X) (H:∀b,W b->R+1<=b/\b<Z.heap.size/\U.ownBlock≠Ua b) (t:∀k,k<Z.heap.size->x.heap[k]?=Z.heap[k]?) (q:Z.heap.size<=x.heap.size)
 (m:l.ownsRow (R+1) 66 1 (Uq (Ua (aL g 0)) (Ty X+1) f) (Ty X+1) (S++[y])) (j:x.grownBy l U.ownBlock) (p:U.ownBlock=Ua g\/Z.heap.size<=g)
 (a:aC) (E:tu (rn T.heap.size Z.heap.size) Z y a):
 Made R (Tz l (aL R 3) (Uq (Ua (aL g 0)) (Ty X+1) f)) V s r (Uq (Ua (aL g 0)) (Ty X+1) f) (X++[a]):=by
 have K:=aH h.i_;obtain⟨J,M,n,_,_⟩:=h.uw;have C:=bX n;have o:=eG n
 have i:l.heap[R]?=Ua (Uy #[Ur (bs V),I_ r,Ur (bs s),U] 119):=by grind [World.grownBy.block,Fr.block,Made.i_]
 have w:=vr.snoc (lo:=T.heap.size) D H E aD o t q m j p;refine⟨by rw[aP i];rfl,?_⟩
 obtain⟨I,G,L,Q,N⟩:=w;have B:∀k,R+1<=k->(Tz l (aL R 3) (Uq (Ua (aL g 0)) (Ty X+1) f)).heap[k]?=l.heap[k]?:=(by grind [em])
 exact⟨I,G,(by grind [bC,bX]),(by grind [jM.mono,tu.h_]),G_⟩
def GF(Y_:P:=by
 intro j u hj;match j,hj with
 |0,hj=>simp at hj;subst hj;simp[Addr.add]
 |j+1,hj=>simp at hj):P:=Y_
def JT(w:aN)(b:Nat):∀j u,([bF b]:List Uf)[j]?=Ua u->T_ (eH w #[bF b] 66) ((⟨H_ w,0,none⟩:Addr).add j)=Ua u:=by exact GF
def Qd(b:Nat):∀u∈([bF b]:List Uf),u.oneCell'=Ud:=by intro u a;simp at a;subst a;rfl
def I0{o:Obj}{g v f:aW}(k:T.heap[R]?=Ua (cD #[U,C,g,v] 119))(a:T.ownsRow (R+1) 66 1 f Y S)(m:(T.alloc o).grownBy Z f.ownBlock):
 Z.heap[R]?=Ua (cD #[U,C,g,v] 119):=by
 have d:=aH k;rw[m.block R kj λe=>by have:=bX a R e.symm;exact aD]
 exact kX _ _ d _ k
def VL{o:List Uf}(h:T.ownsRow R e Y U J S)(k:T.ownsRow R e Y U M o):J=M/\S=o:=by
 rcases h.2 with ⟨rfl,rfl⟩|⟨g,f,i,rfl,q,B,t,x,C,u⟩
 .rcases k.2 with ⟨_,rfl⟩|⟨g,f,i,d,_⟩
  .exact⟨aJ,by have a:=h.1;have R:=k.1;grind⟩
  grind
 rcases k.2 with ⟨d,_⟩|⟨z,j,p,d,D,s,E,y,A,r⟩
 .cases d
 grind
structure Part(nb:Nat)(w:aN)(op te:bP)(li:Nat)(v:aW)(len:Nat):Prop where
 i_:w.heap[nb]?=Ua (Uy #[Ur (bs op),I_ li,Ur (bs te),v] 119)
 own:∃vs,w.ownsRow (nb+1) 66 1 v len vs
def Part.h_{b:Nat}{w:aN}{d:bP}{v:aW}{a:Nat}(h:Part b w d V Y v a)(i:Fr R w T)(n:R<b):Part b T d V Y v a:=by obtain⟨m,c⟩:=h.own;exact⟨by rw[i.block b (aH h.i_) aD];exact h.i_,m,bC c λk j=>i.block k (eG c k j) (by have:=bX c k j;exact aD)⟩
def Made.part(h:Made R T V L Y U X):Part R T V L Y U (Ty X):=by obtain⟨f,F,g,_⟩:=h.uw;exact⟨h.i_,f,g⟩
structure AK(C:Ctx)(w0:aN)(nb:Nat)(op te:bP)(li m:Nat)(acc:List aC)(S:Except Nat Nat)(x:Option Addr)(n c:Nat)(w:aN):Prop where
 fr:Fr C.pb w0 w
 at_:lK C w S
 lo:w0.heap.size<=nb/\C.pb<nb/\C.g<nb
 i_:∃k l,k<=m/\Part nb w op te l (Uq x n c) k
 made:∀q,S=.ok q->Made nb w op te li (Uq x n c) acc
def Nd(C:Ctx)(w0:aN)(nb:Nat)(op te:bP)(li m:Nat)(acc:List aC)(S:Except Nat Nat)(w:aN):Prop:=∃x n c,AK C w0 nb op te li m acc S x n c w
section
variable {C:Ctx} {w0 w w':aN} {nb li m n c b4:Nat} {op te:bP} {acc:List aC} {S S':Except Nat Nat} {x:Option Addr} {r:bS aC}
theorem Nd.new{l:Nat}(d:Fr C.pb w0 w)(c:lK C w S)(a b:bP)(e:Nat)(g:∀q,S=.ok q->l=e)(i:C.pb<w0.heap.size)(h:C.g<w0.heap.size):Nd C w0 w.heap.size a b e 0 [] S (w.alloc (Uy #[Ur (bs a),I_ l,Ur (bs b),bO] 119)):=by have:=d.size;have f:Made w.heap.size (w.alloc (Uy #[Ur (bs a),I_ l,Ur (bs b),bO] 119)) a b l (bO) []:=⟨aZ w _ aJ _,vr.nil _ _⟩;exact⟨_,_,_,d.alloc _,c.alloc _,aD,⟨0,l,aD,f.part⟩,G_⟩
theorem AK.go(h:AK C w0 nb op te li m acc S x n c w)(b:Fr C.pb w w')(a:lK C w' S')(p:∀q,S'=.ok q->∃i,S=.ok i):AK C w0 nb op te li m acc S' x n c w':=by obtain⟨f,o,d,⟨k,l,e,g⟩,j⟩:=h;exact⟨f.trans b,a,d,⟨k,l,e,g.h_ b d.2.1⟩,(by grind [Made.h_])⟩
theorem Nd.go(h:Nd C w0 nb op te li m acc S w)(b:Fr C.pb w w')(a:lK C w' S')(d:∀q,S'=.ok q->∃e,S=.ok e):Nd C w0 nb op te li m acc S' w':=by obtain⟨x,n,c,h⟩:=h;exact⟨x,n,c,h.go b a d⟩
def mh{P:Program}{f:Nat}{a:Array Uf}{v:Uh}{R:mL}{Q:Uh->World->Prop}(h:Ue P f a w λe w'=>e=v/\R w')(k:∀w',Ul (R w')->Q v w'):Ue P f a w Q:=
 h.mono λ_ w' ⟨c,b⟩=>c▸k w' b
def X4(h:Nd C w0 nb op te li m acc S w)(x:ByteArray):Ue Un 216 #[bF C.pb,Q_ x] w λe w'=>e=bY (Uw (sG C S (dY x)))/\Nd C w0 nb op te li m acc (uL C S (dY x)) w':=
 (Dc C w S x (qk)).mono λ_ _ ⟨b,a,c⟩=>⟨b,h.go c a λq e=>by cases S with|ok p=>simp|error l=>cases e⟩
def pI(h:Nd C w0 nb op te li m acc S w)(x:ByteArray):Ue Un 213 #[bF C.pb,Q_ x] w λe w'=>e=fD/\Nd C w0 nb op te li m acc (fS C S (dY x)) w':=
 (zO C w S x (qk)).mono λ_ _ ⟨b,a,c⟩=>⟨b,h.go c a λq e=>by cases S with|ok p=>simp|error l=>cases e⟩
def yk(h:Nd C w0 nb op te li m acc S w)(x:ByteArray):Ue Un 215 #[bF C.pb,Ur x] w λe w'=>e=bY (Uw (sG C S x.data.toList))/\Nd C w0 nb op te li m acc S w':=
 (Bd C w S x (qk)).mono (by grind [Nd.go,Fr.below,lK.below,AK.at_,Nd])
def J1(h:Nd C w0 nb op te li m acc S w):Ue Un 214 #[bF C.pb] w λe w'=>e=bY (Uu #[Q_ (bs (nF C S)),I_ (oS C S)])/\Nd C w0 nb op te li m acc (nM C S) w':=
 (Ed C w S (qk)).mono λ_ _ ⟨b,a,c⟩=>⟨b,h.go c a λq e=>by cases S with|ok p=>simp|error l=>cases e⟩
def AK.drew(h:AK C w0 nb op te li m acc S x n c w):AK C w0 nb op te li m acc S x n c w.drew:=(by grind [AK.go,Fr.drew,Fr.refl,lK.below,AK.at_,Below.drew,dz])
def AK.cells(h:AK C w0 nb op te li m acc S x n c w):nb<w.heap.size/\T_ w (aL nb 3)=Ua (Uq x n c)/\w.frozen? (aL nb 3)=Uc:=by obtain⟨k,l,_,h⟩:=h.i_;obtain⟨d, -, -, -,b, -, -,a⟩:=uD h.i_;grind
def Nd.Ab(h:Nd C w0 nb op te li m acc S w):nb<w.heap.size/\(∃v,T_ w (aL nb 0)=Ua (Ur v))/\w.frozen? (aL nb 0)=Uc/\(∃v,T_ w (aL nb 2)=Ua (Ur v))/\w.frozen? (aL nb 2)=Uc:=by obtain⟨x,n,c,h⟩:=h;obtain⟨k,l,_,h⟩:=h.i_;obtain⟨e,d, -,a, -,f,b, -⟩:=uD h.i_;grind
theorem Made.set{i:Nat}{u:aW}{a b:bP}{v:aW}(h:Made nb w op te li v acc)(e:(Tz w (aL nb i) u).heap[nb]?=Ua (Uy #[Ur (bs a),I_ li,Ur (bs b),v] 119)):Made nb (Tz w (aL nb i) u) a b li v acc:=by
 obtain⟨d,G,f,g,j⟩:=h.uw;have c:∀k,nb+1<=k->(Tz w (aL nb i) u).heap[k]?=w.heap[k]?:=(by grind [em])
 exact⟨e,d,G,(by grind [bC,bX]),(by grind [jM.mono,tu.h_]),G_⟩
def AK.set{i:Nat}{u:aW}{d b:bP}(h:AK C w0 nb op te e m acc S x n c w)(j:∀a (e:Nat),w.heap[nb]?=Ua (Uy #[Ur (bs op),I_ e,Ur (bs te),a] 119)->(Tz w (aL nb i) u).heap[nb]?=Ua (Uy #[Ur (bs d),I_ e,Ur (bs b),a] 119)):AK C w0 nb d b e m acc S x n c (Tz w (aL nb i) u):=by obtain⟨r,t,g,⟨k,l,q,s,p,f⟩,v⟩:=h;exact⟨r.setCell (ec g.1) _,(by grind [lK.other]),g,⟨k,l,q,j _ _ s,p,bC f λk o=>em _ _ _ _ (by have:=bX f k o;grind)⟩,(by grind [Made.set,Made.i_])⟩
def Nd.Bm(h:Nd C w0 nb op te li m acc S w)(o:ByteArray):Nd C w0 nb o.data.toList te li m acc S (Tz w (aL nb 0) (Ur o)):=by obtain⟨x,n,c,h⟩:=h;exact⟨x,n,c,h.set λ_ _ e=>by rw[aP e];rfl⟩
def Nd.Fp(h:Nd C w0 nb op te li m acc S w)(o:bP):Nd C w0 nb op o li m acc S (Tz w (aL nb 2) (Q_ (bs o))):=by obtain⟨x,n,c,h⟩:=h;exact⟨x,n,c,h.set λ_ _ e=>by rw[aP e];rfl⟩
def Nd.post(h:Nd C w0 nb op te li m acc S w)(b:r=fL S λq=>.ok (aV op li te acc,q)):eN C w0 r (bY (bF nb)) w:=by
 obtain⟨x,n,c,h⟩:=h;subst b;cases S with
 |error l=>exact⟨h.fr,h.at_,nb,aJ,λa q e=>by cases e⟩
 |ok p=>exact⟨h.fr,h.at_,nb,aJ,λa q e=>by cases e;exact(h.made _ aJ).Mq h.lo.1⟩
def eN.ptr{e:Uh}(h:eN C w r e w'):∃b,e=bY (bF b):=(by grind [eN])
def AK.after{E:Nat->bS aC}{e:Uh}(h:AK C w0 nb op te li m acc S x n c w)(a:eN C w (fL S E) e w'):AK C w0 nb op te li m acc (nL (fL S E)) x n c w':=h.go a.1 a.2.1 λq e=>by cases S with|ok q=>simp|error l=>cases e
def iV(r:bS aC):List aC:=
 match r with
 |.ok (a,_)=>[a]
 |.error _=>[]
def AK.tm{i j:aN}{g p k:Nat}{D:List Uf}(h:AK C w0 nb op te li m acc S x n c w)(U:∀a q,r=.ok (a,q)->∃v,S=.ok v)(d:Fr C.pb w i)(o:lK C i (nL r))(u:∀a q,r=.ok (a,q)->tu (rn w.heap.size i.heap.size) i (bF b4) a)(I:k<=m)
 (e:i.ownsRow (nb+1) 66 1 (Uq x n c) k D)
 (f:j.ownsRow (nb+1) 66 1 (Uq (Ua (aL g 0)) (k+1) p) (k+1) (D++[bF b4]))
 (b:(i.alloc (Uy #[bF b4] 66)).grownBy j (Value.slice x n c).ownBlock) (E:(Value.slice x n c).ownBlock=Ua g\/g=i.heap.size+1):
 Nd C w0 nb op te li (m+1) (acc++iV r) (nL r) (Tz j (aL nb 3) (Uq (Ua (aL g 0)) (k+1) p))/\nb<j.heap.size/\T_ j (aL nb 3)=Ua (Uq x n c)/\j.frozen? (aL nb 3)=Uc:=by
 obtain⟨M, -,⟨N,y,V⟩,⟨_,l, -,z⟩,A⟩:=h;have hge :=bX e;have s:=I0 (z.h_ d y).i_ e b;obtain⟨P, -, -, -,K, -, -,J⟩:=uD s;refine⟨⟨_,_,_,?_,?_,aD,⟨k+1,l,aD,by rw[aP s];rfl,_,bC f λk I=>em _ _ _ _ ?_⟩,λq T=>?_⟩,P,K,J⟩
 .exact Fr.setCell (((M.trans d).alloc _).grown b (G_)) (ec N) _
 .exact((o.alloc _).grown (b_:=nb+1) b hge aD aD).other aD aD _
 .grind [bX]
 cases r with
 |error l=>cases T
 |ok H=>
  obtain⟨a,q⟩:=H;obtain⟨v,L⟩:=U a q rfl;have G:=A v L;obtain⟨Q,F,O,t,B⟩:=(G.h_ d y).uw;obtain⟨rfl,rfl⟩:=VL O e;exact Made.snoc G d y t B (qo) s_ f b (G_) a (G_)
variable {w4:aN} {ops:Array Oper} {rest:List Oper} {o:Oper} {a:Act} {K:Act->World->Prop} {Q:Exit->Act->World->Prop} {F:Prop} {s y:Operand} {E:Nat->bS aC} {k4:Nat}
def DA(h:AK C w0 nb op te li m acc S x n c w)(Z:m<4000)(O:eN C w (fL S E) (bY (bF b4)) w4)(D:H_ w4=k4)
 (P:o.op=.call { callee:=.builtin .append,args:= #[s,y],argTypes:= #[117,117] }) (U:a.eval s=P_ x n c) (T:a.eval y=P_ (Ua (aL k4 0)) 1 1)
 (L:∀t g k p,Ul (Nd C w0 nb op te li (m+1) (acc++iV (fL S E)) (nL (fL S E)) (Tz t (aL nb 3) (P_ (Ua (aL g 0)) k p)))->nb<H_ t->dP t nb 3 (P_ x n c)->t.frozen? (aL nb 3)=Uc->K (a.put o.dst (P_ (Ua (aL g 0)) k p)) t):
 Oper.wp Un o a (eH w4 #[bF b4] 66) K Q:=by
 subst D;obtain⟨N,V,A,B,F⟩:=info_parts W4;obtain⟨k,l,H,W⟩:=h.i_;obtain⟨i,u,b,e,j⟩:=O;cases e;have v:=W.h_ i h.lo.2.1;obtain⟨I,f⟩:=v.own;have Y:=aH v.i_;refine wp_append_lies _ _ _ _ P (nb+1) 66 N _ 1 8 underlying117 V A B F aJ d_ (P_ x n c) k I U (f.alloc _) (aL (H_ w4) 0) 1 1 [bF b4] T rfl (JT _ _) (Qd _) d_ kk aD kj (H_ w4+1) s_ ?_
 intro g p t r d z _;obtain⟨G,J,X,M⟩:=h.tm (λa q e=>by cases S with|ok q=>simp|error l=>cases e) i u j H f r d z
 exact L _ _ _ _ G J X M
def DL(h:AK C w0 nb op te li m acc S x n c w)(i:Ul (eN C w (fL S E) (bY (bF b4)) w4))
 (q:∀d g k b,Ul (Nd C w0 nb op te li (m+1) (acc++iV (fL S E)) (nL (fL S E)) (Tz d (aL nb 3) (P_ (Ua (aL g 0)) k b)))->nb<H_ d->dP d nb 3 (P_ x n c)->d.frozen? (aL nb 3)=Uc->K (a.put o.dst (P_ (Ua (aL g 0)) k b)) d)
 (j:m<4000:=by omega) (l:o.op=.call { callee:=.builtin .append,args:= #[s,y],argTypes:= #[117,117] }:=by rfl) (r:a.eval s=P_ x n c:=by rfl) (p:a.eval y=P_ (Ua (aL k4 0)) 1 1:=by rfl) (e:o.guard=none:=by rfl) (f:H_ w4=k4:=by simp):
 if Region.wanted o (yielded ops a.tmps)=Ud then Oper.wp Un o a (eH w4 #[bF b4] 66) K Q else F:=by
 rw[ef (by simp[Region.wanted,e])]
 exact DA h j i f l r p q
def Ef(h:AK C w0 nb op te li m acc S x n c w)(i:Ul (eN C w (fL S E) (bY (bF b4)) w4))
 (t:∀d g k b,Ul (Nd C w0 nb op te li (m+1) (acc++iV (fL S E)) (nL (fL S E)) (Tz d (aL nb 3) (P_ (Ua (aL g 0)) k b)))->nb<H_ d->dP d nb 3 (P_ x n c)->d.frozen? (aL nb 3)=Uc->wpList Un ops Q rest (a.put o.dst (P_ (Ua (aL g 0)) k b)) d)
 (j:m<4000:=by omega) (l:o.op=.call { callee:=.builtin .append,args:= #[s,y],argTypes:= #[117,117] }:=by rfl) (q:a.eval s=P_ x n c:=by rfl) (p:a.eval y=P_ (Ua (aL k4 0)) 1 1:=by rfl) (e:o.guard=none:=by rfl) (f:H_ w4=k4:=by simp):
 wpList Un ops Q (o::rest) a (eH w4 #[bF b4] 66):=
 wpList_plain e λ_ r=>DA h j i f l q p G_
def FT{f:Nat}{Q:Uh->World->Prop}(h:AK C w0 nb op te li m acc S x n c w)(l:Reads C f E)(g:fL S E≠.error 0)(k:∀w' b,Ul (eN C w (fL S E) (bY (bF b)) w')->nb<H_ w'->dP w' nb 3 (P_ x n c)->w'.frozen? (aL nb 3)=Uc->Q (bY (bF b)) w'):Ue Un f #[bF C.pb] w Q:=
 (l w S h.at_ g).mono λe w' a=>by obtain⟨b,rfl⟩:=a.ptr;obtain⟨j,i,d⟩:=(h.after a).cells;exact k w' b a j i d
def Nd.pre(h:Nd C w0 nb op te li m acc S w):∃x n c,Ul (AK C w0 nb op te li m acc S x n c w.drew)/\nb<H_ w/\dP w nb 3 (P_ x n c)/\w.frozen? (aL nb 3)=Uc:=by obtain⟨x,n,c,h⟩:=h;exact⟨x,n,c,h.drew,h.cells⟩
end
def sR(C:Ctx)(S:Except Nat Nat):Nat:=
 match S with
 |.ok q=>(aS C.ts q).l_
 |.error _=>0
def Sb{c:Type}(C:Ctx)(x:bP)(a:g)(q:Nat)(f:g->c):bT f (aQ C.ts x (.ok (a,q)))=fL (fS C (.ok q) x) λq=>.ok (f a,q):=by grind [aQ,bT,Hs.bad,fL,fS]
def DB(C:Ctx)(w:aN)(S:Except Nat Nat)(h:lK C w S):
 Ue Un 163 #[bF C.pb] w λe w'=>∃t,e=bY (Us #[Ux .u8 (bH.c_ t),Q_ (bs t.x_),I_ t.l_])/\Ul (∀op te,Nd C w (H_ w') op te (sR C S) 0 [] S (eH w' #[Q_ (bs op),I_ t.l_,Q_ (bs te),bO] 119)):=
 (F5 C w S h).mono λ_ _ ⟨⟨t,a,b⟩,c⟩=>⟨t,a,λop te=>(by grind [Nd.new,Fr.below,lK.below,lK.facts,sR])⟩
def FE{C:Ctx}{A B:bS aC}{Q:Uh->World->Prop}(h:Nd C T R V L Y J X F Z)(x:ByteArray)(t:Ul (r=if sG C F x.data.toList then A else B))(E:∀w',Ul (Nd C T R V L Y J X F w')->Ul (r=B)->Q (bY (Uw Uc)) w')
 (k:∀p,F=.ok p->∀w' z,R<w'.heap.size->T_ w' (aL R 0)=Ua (Ur z)->w'.frozen? (aL R 0)=Uc->Ul (∀o:ByteArray,Nd C T R o.data.toList L Y J X (.ok (p+1)) (Tz w' (aL R 0) (Ur o)))->Ul (r=A)->Ul (Nd C T R V L Y J X (.ok (p+1)) w')->Q (bY (Uw Ud)) w'):
 Ue Un 216 #[bF C.pb,Ur x] Z Q:=by
 refine mh (X4 h x) λD u=>?_
 have j:=t.out;have c:=u.out;cases g:sG C F x.data.toList<;>rw[g]at j
 .rw[show uL C F x.data.toList=F by cases F with|ok q=>exact BX g|error l=>rfl]at c
  grind
 cases F with
 |error l=>cases g
 |ok p=>
  rw[BW g]at c;obtain⟨s,⟨v,y⟩,n, -⟩:=c.Ab;exact k p aJ _ v s y n (λo=>c.Bm o) j c
def My{C:Ctx}{r:bS (List aC)}(G:Fr C.pb T Z)(y:vL C Z r (bY (P_ x J M)) K)
 (z:H_ T<=R) (k:R<H_ Z) (d:R≠C.pb/\R≠C.g) (g:Z.heap[R]?=Ua (cD #[Q_ (bs V),I_ Y,Q_ (bs L),U] 119)):
 eN C T (bT (aV V Y L) r) (bY (bF R)) (Tz K (aL R 3) (P_ x J M)):=by
 obtain⟨v,B,F,A,D,H,E⟩:=y;have hblk4 :=(v.block R k d.1).trans g;refine⟨(by grind [Fr.setCell,Fr.trans]),?_,R,rfl,λa q o=>?_⟩
 .have e:nL (bT (aV V Y L) r)=nL r:=by cases r<;>rfl
  grind [lK.other]
 cases r with
 |error l=>cases o
 |ok t=>
  obtain⟨s,I⟩:=t;cases o;refine tu.mk (kv:=P_ x J M) (by grind [UN,rn]) (by rw[aP hblk4];rfl) ?_
  have p:w_ (rn (H_ Z) (H_ K)) (Tz K (aL R 3) (P_ x J M)) (P_ x J M) s:=(by grind [w_.h_,em,rn])
  grind [w_.mono,UN,rn,aV]
def Nd.list{C:Ctx}{l:aN}{n:Nat}{f:List aC}{r:bS (List aC)}(h:Nd C l R V L Y J f F T)(u:∃q,F=.ok q)(i:vL C T r (bY (Uq x n M)) Z):Ul (eN C l (bT (aV V Y L) r) (bY (bF R)) (Tz Z (aL R 3) (Uq x n M)))/\R<Z.heap.size/\(∃v,T_ Z (aL R 3)=Ua v)/\Z.frozen? (aL R 3)=Uc:=by
 obtain⟨A,y,z,h⟩:=h;obtain⟨q,e⟩:=u;have d:=(h.made q e).i_;have g:=aH d;obtain⟨t, -, -, -,s, -, -,p⟩:=uD ((i.1.block R g (by have:=h.lo;exact aD)).trans d)
 exact⟨My h.fr i h.lo.1 g (by have:=h.lo;exact aD) d,t,⟨_,s⟩,p⟩
def IU(C:Ctx)(w:aN)(l:Nat)(h:lK C w (.error l)):
 Ue Un 256 #[bF C.pb] w (eN C w (.error l)):=by
 have b:=aB (F5 C w (.error l) h);have c:=aB h;clear h;go_in
 go_wp2_with fail;apply b.mono
 rintro e g ⟨⟨t,rfl, -⟩,d⟩;obtain⟨k,q,a⟩:=c.out;obtain⟨j, -,f, -⟩:=(a.below d).two;have i:((l:Int) != 0)=Ud:=G_
 clear a b;go_wp2
 go_ret;exact⟨(by grind [Fr.below,ep,Below.size]),(c.below d).below (Below.two _ _),_,rfl,s_⟩
def ER(C:Ctx)(w:aN)(p:Nat)(h:At C w p 0)(b:UInt8)(k:(aS C.ts p).c_=b.toNat)(a:b=48\/b=115):
 Ue Un 256 #[bF C.pb] w (eN C w (.ok (aV [b] (aS C.ts p).l_ (aS C.ts p).x_ [],p+1))):=by
 have r:p+1<Ty C.ts:=h.next (by rcases a with rfl|rfl<;>(grind))
 have j:=h.len;have l:=aB (lU C w p 0 h);have i:=aB h;clear h;generalize aS C.ts p=t at*;obtain⟨z,F,E⟩:=t;simp only[zM]at l k ⊢
 subst k
 have c:(((b.toNat:Int)==48)=Ud)\/(((b.toNat:Int)==48)=Uc/\((b.toNat:Int)==115)=Ud):=by
  rcases a with rfl|rfl
  .simp
  simp
 clear a;rcases c with v|⟨v,A⟩
 all_goals
  go_in
  go_wp2_with fail;refine rf l λe f=>?_
  obtain⟨G, -, -,B,D,g⟩:=i.cells f;have y:=(g 1).2;clear g;have x:=λs n=>Lb e s n b
  have m:C.pb<H_ e+1:=aD;have u:C.pb<H_ e+1+1:=aD;go_wp2
  go_ret;have d:=i.step f r;have o:=f.size;refine Mf (q:=p+1) (b:=H_ e+1) (d.2.sm (Below.three _ _ _)) (d.1.below (Below.three _ _ _)) aD rfl ?_;exact kX _ _ s_ _ (xA _ _ s_ _ _)
def Nd.step{C:Ctx}{f:aN}{g:Nat}{b:bP}(h:Nd C f g b V R Y X (.ok J) T)(i:J+1<Ty C.ts):Nd C f g b V R Y X (.ok (J+1)) (Tz T (aL C.pb 1) (I_ ((J:Int)+1))):=by obtain⟨x,n,c,k⟩:=h;have:=At.step k.at_ (dz _ _) i;exact⟨x,n,c,k.go this.2 this.1 s_⟩
def Rz(C:Ctx)(p:Nat)(E:Nat->bS aC)(b:(aS C.ts p).c_≠48)(a:(aS C.ts p).c_≠115):eJ E C.ts p=if sG C (.ok p) [116,114,117,101]then .ok (aV [98,111,111,108] (aS C.ts p).l_ (aS C.ts p).x_ [],p+1)else if sG C (.ok p) [102,97,108,115,101]then .ok (aV [98,111,111,108] (aS C.ts p).l_ (aS C.ts p).x_ [],p+1)else if sG C (.ok p) [40]then aQ C.ts [41] (E (p+1))else if sG C (.ok p) [91]then bT (aV [108,105,115,116] (aS C.ts p).l_ (aS C.ts p).x_) (fU E C.ts p [91] [93])else if (aS C.ts p).c_==110 then if sG C (.ok (p+1)) [40]then bT (aV [99,97,108,108] (aS C.ts p).l_ (aS C.ts p).x_) (fU E C.ts (p+1) [40] [41])else .ok (aV [110,97,109,101] (aS C.ts p).l_ (aS C.ts p).x_ [],p+1)else Hs.bad C.ts p:=by grind [eJ,sG]
def To(Y_:P:=by
 rintro e w6 hp;obtain⟨x6,n6,c6,rfl⟩:∃x n c,e=bY (P_ x n c):=by grind [vL]
 obtain⟨HX,z0,⟨z,z1⟩,z2⟩:=HN.list s_ hp
 clear hp hn s0 s1 s2;go_wp2
 go_ret;exact eN.later HL (HR▸HX)):P:=Y_
def QJ(C:Ctx)(E:Nat->bS aC)(Q:Ul (Reads C 99 E))(w:aN)(p:Nat)(h:At C w p 0)(Z:(aS C.ts p).c_≠48)(X:(aS C.ts p).c_≠115)(r:bS aC)(f:Ul (r=eJ E C.ts p))(h0:Ul (r≠.error 0)):
 Ue Un 256 #[bF C.pb] w (eN C w r):=by
 have f:=aB (f.trans (Rz C p E Z X));obtain⟨aa,ag,W⟩:=lK.facts (S:=.ok p) h;have HP:=aB (lU C w p 0 h);have K:=aB h;have e1:(((aS C.ts p).c_:Int)==48)=Uc:=G_
 have e2:(((aS C.ts p).c_:Int)==115)=Uc:=G_
 clear h Z X;go_in
 go_wp2_with fail;refine HP.mono ?_;rw[zM];rintro e l ⟨rfl,G⟩;obtain⟨hl, -, -,c1,c2,M⟩:=K.cells G;have ae:C.pb<l.heap.size+1:=aD;have ac:C.pb<l.heap.size+1+1:=aD;have ab:=G.size;have d:=aB λo=>Nd.new (S:=.ok p) (Fr.refl C.pb (l.alloc o)) ((lK.below (S:=.ok p) K G).alloc o) [] (aS C.ts p).x_ (aS C.ts p).l_ (λ_ _=>aJ) kj kj
 have m:=aB λo=>(Fr.below (pb:=C.pb) G).alloc o
 clear M HP G;go_wp2_with fail;have g:=d (cD #[Ux .u8 (aS C.ts p).c_,Q_ (bs (aS C.ts p).x_),I_ (aS C.ts p).l_] 218);have F:=m (cD #[Ux .u8 (aS C.ts p).c_,Q_ (bs (aS C.ts p).x_),I_ (aS C.ts p).l_] 218);have N:=aZ l _ aJ (cD #[Ux .u8 (aS C.ts p).c_,Q_ (bs (aS C.ts p).x_),I_ (aS C.ts p).l_] 218);rw[show (l.alloc _).heap.size=l.heap.size+1 by simp]at g
 generalize hW:l.alloc (cD #[Ux .u8 (aS C.ts p).c_,Q_ (bs (aS C.ts p).x_),I_ (aS C.ts p).l_] 218)=W0 at*
 have HT:Ul (∀U,Fr C.pb W0 U->T_ U (aL l.heap.size 0)=Ua (Ux .u8 (aS C.ts p).c_)):=λU hf=>by grind [Fr.cells,aA]
 have m:=aB F;have d:=aB g;clear g F N hW c1 c2;refine FE d ⟨#[116,114,117,101]⟩ f ?_ ?_
 .clear d f;intro D d f;go_wp2_with fail;refine FE d ⟨#[102,97,108,115,101]⟩ f ?_ ?_
  .clear d f;intro D d f;go_wp2_with fail;refine FE d ⟨#[40]⟩ f ?_ ?_
   .clear d f;intro D d f;go_wp2_with fail;refine mh (yk d ⟨#[91]⟩) λY d=>?_
    have B:=f.out;obtain⟨v,⟨L,y⟩,A, -⟩:=d.Ab;cases I:sG C (.ok p) [91]<;>rw[I]at B<;>have f:=aB B<;>clear B I
    .obtain⟨x,n,c,g⟩:=d.out;have N:=HT Y g.fr;by_cases s:(aS C.ts p).c_=110
     .have e3:(((aS C.ts p).c_:Int)==110)=Ud:=G_
      have f:=aB (f.trans ((ea s_).trans (ef (by rw[s];rfl))))
      have i:=At.next g.at_ aD
      obtain⟨af, -, -,d1,d2,M⟩:=At.cells g.at_ (dz _ _);have V:=(M 1).2;have ah:¬C.pb=l.heap.size+1:=aD;have ad:¬l.heap.size+1=C.pb:=aD;have d:=aB ((d.Bm ⟨#[110,97,109,101]⟩).step i);clear g M;go_wp2_with fail;refine mh (yk d ⟨#[40]⟩) λv3 d=>?_
      have B:=f.out;clear v y A N d1 d2 V;obtain⟨v,⟨L,y⟩,A, -⟩:=d.Ab;cases I:sG C (.ok (p+1)) [40]<;>rw[I]at B<;>have f:=aB B<;>clear B I
      .go_wp2
       go_ret;exact eN.later m (d.post f)
      have t:Ul (fL (.ok (p+1)) (λq=>fU E C.ts q [40] [41])≠.error 0):=λe=>(by grind [d7,bT,fL])
      have d:=aB (d.Bm ⟨#[99,97,108,108]⟩);go_wp2_with fail;obtain⟨x,n,c,g⟩:=d.out;refine(K8 C E Q _ (.ok (p+1)) ⟨#[40]⟩ ⟨#[41]⟩ g.at_ t).mono ?_;rintro e P i;obtain⟨x6,n6,c6,rfl⟩:∃x n c,e=bY (P_ x n c):=by grind [vL]
      obtain⟨J,z0,⟨z,z1⟩,z2⟩:=d.list s_ i
      clear i g v y A;go_wp2
      go_ret;exact eN.later m (f▸J)
     have e3:(((aS C.ts p).c_:Int)==110)=Uc:=G_
     have HF:=aB (DO C Y p g.at_);have J:Ul (r=Hs.bad C.ts p):=(by grind)
     have u:=aB (m.trans g.fr);have H:=K.pos p K.lt;clear g s;go_wp2_with fail;refine HF.mono ?_;rintro e P ⟨rfl,j,k⟩;go_wp2
     go_ret;rw[J];exact⟨u.trans k,⟨H,p,j⟩,_,aJ,λa q h=>by cases h⟩
    have t:Ul (fL (.ok p) (λq=>fU E C.ts q [91] [93])≠.error 0):=λe=>(by grind [d7,bT,fL])
    have d:=aB (d.Bm ⟨#[108,105,115,116]⟩);go_wp2_with fail;obtain⟨x,n,c,g⟩:=d.out;refine(K8 C E Q _ (.ok p) ⟨#[91]⟩ ⟨#[93]⟩ g.at_ t).mono ?_;rintro e P i;obtain⟨x6,n6,c6,rfl⟩:∃x n c,e=bY (P_ x n c):=by grind [vL]
    obtain⟨J,z0,⟨z,z1⟩,z2⟩:=d.list s_ i
    clear i g v y A;go_wp2
    go_ret;exact eN.later m (f▸J)
   rintro q e D L v y A-f d;cases e;obtain⟨x,n,c,g⟩:=d.out;have HC:=aB (Q D (.ok (p+1)) g.at_ (by grind [d7,fL,aQ]))
   have u:=aB (m.trans g.fr);have hz:=g.fr.size;clear g;go_wp2_with fail;refine HC.mono ?_;rintro e w5 i;obtain⟨b,rfl⟩:=i.ptr;have O:=aB (zO C w5 _ ⟨#[41]⟩ i.2.1);have T:=aB i;clear i;go_wp2_with fail;refine O.mono ?_;rintro e P ⟨rfl,j,k⟩;go_wp2
   go_ret;rw[f];exact eN.later u (eN.take T k j aD)
  rintro q e D L v y A d f -;cases e;go_wp2
  go_ret;exact eN.later m ((d ⟨#[98,111,111,108]⟩).post f)
 rintro q e D L v y A d f -;cases e;go_wp2
 go_ret;exact eN.later m ((d ⟨#[98,111,111,108]⟩).post f)
def LR(C:Ctx)(E:Nat->bS aC)(d:Reads C 99 E):Reads C 256 (eJ E C.ts):=by
 intro w S h c;cases S with
 |error l=>exact IU C w l h
 |ok p=>
  by_cases b:(aS C.ts p).c_=48
  .have:=ER C w p h 48 b (.inl aJ);show Ue _ _ _ _ (eN C w (eJ E C.ts p))
   unfold eJ;rw[ef G_,b];exact this
  by_cases a:(aS C.ts p).c_=115
  .have:=ER C w p h 115 a (.inr aJ);show Ue _ _ _ _ (eN C w (eJ E C.ts p))
   unfold eJ;rw[ef G_,a];exact this
  exact QJ C E d w p h b a _ aJ c
theorem tu.grow{d c:Nat}(h:tu (rn d R) T U a)(g:∀k,d<=k->k<R->Z.heap[k]?=T.heap[k]?)(j:Y<=d)(i:R<=c):tu (rn Y c) Z U a:=
 (h.h_ qa).mono qa
def Qq{b:aC}(f h:bP)(g:Nat)(l:tu (rn R (H_ T)) T U a)(m:tu (rn R (H_ T)) T C b)(i:R<=H_ T):
 tu (rn R (H_ T+2)) (eH (eH T #[U,C] 66) #[Q_ (bs f),I_ g,Q_ (bs h),P_ (Ua (aL (H_ T) 0)) 2 2] 119) (bF (H_ T+1)) (aV f g h [a,b]):=by
 have j:∀k,R<=k->k<H_ T->(eH (eH T #[U,C] 66) #[Q_ (bs f),I_ g,Q_ (bs h),P_ (Ua (aL (H_ T) 0)) 2 2] 119).heap[k]?=T.heap[k]?:=(by grind [eg,Below.two])
 refine tu.mk ⟨aD,aD⟩ (xA _ _ rfl _ _) (ec ⟨H_ T,2,#[U,C],[U,C],rfl,⟨i,aD⟩,?_,mJ,rfl,?_⟩)
 .exact kX _ _ s_ _ (aZ _ _ rfl _)
 grind [tu.grow,jM,aV]
def Sv(d f:bP)(e:Nat)(i:tu (rn R (H_ T)) T U a)(g:R<=H_ T):
 tu (rn R (H_ T+2)) (eH (eH T #[U] 66) #[Q_ (bs d),I_ e,Q_ (bs f),P_ (Ua (aL (H_ T) 0)) 1 1] 119) (bF (H_ T+1)) (aV d e f [a]):=by
 have h:∀k,R<=k->k<H_ T->(eH (eH T #[U] 66) #[Q_ (bs d),I_ e,Q_ (bs f),P_ (Ua (aL (H_ T) 0)) 1 1] 119).heap[k]?=T.heap[k]?:=(by grind [eg,Below.two])
 refine tu.mk ⟨aD,aD⟩ (xA _ _ rfl _ _) (ec ⟨H_ T,1,#[U],[U],rfl,⟨g,aD⟩,?_,mJ,rfl,?_⟩)
 .exact kX _ _ s_ _ (aZ _ _ rfl _)
 grind [tu.grow,jM,aV]
def eN.one{C:Ctx}{w:aN}{b:Nat}(h:eN C w r (bY (bF b)) T)(d:bP)(f:Nat):
 eN C w (bT (λx=>aV d f [] [x]) r) (bY (bF (T.heap.size+1))) ((T.alloc (Uy #[bF b] 66)).alloc (Uy #[Ur (bs d),I_ f,Ur (bs []),Uq (Ua (aL T.heap.size 0)) 1 1] 119)):=by
 obtain⟨g,j,_,e,k⟩:=h;cases e;cases r with
 |error l=>grind [Fr.sm,Below.two,lK.below,eN,bT]
 |ok m=>exact⟨g.sm (Below.two _ _),j.below (Below.two _ _),_,aJ,λa q i=>by cases i;exact(Sv d [] f (k _ _ aJ) g.size).mono s_⟩
def eN.two{C:Ctx}{c:aN}(o:Fr C.pb T Z)(E:tu (rn (H_ T) (H_ Z)) Z (bF R) a)(z:C.pb<H_ T)(d:Fr C.pb Z K)(h:eN C K r (bY (bF Y)) c)(i:bP)(f:Nat):
 eN C T (bT (λx=>aV i f [] [a,x]) r) (bY (bF (H_ c+1))) (eH (eH c #[bF R,bF Y] 66) #[Q_ (bs i),I_ f,Q_ (bs []),P_ (Ua (aL (H_ c) 0)) 2 2] 119):=by
 obtain⟨n,s,_,e,B⟩:=h;have D:=o.size;have y:=d.size;have u:=n.size;have t:=((o.trans d).trans n).sm (Below.two (cD #[bF R,bF Y] 66) (cD #[Q_ (bs i),I_ f,Q_ (bs []),P_ (Ua (aL (H_ c) 0)) 2 2] 119));cases r with
 |error l=>grind [lK.below,Below.two,eN,bT]
 |ok A=>
  refine⟨t,s.below (Below.two _ _),_,aJ,λv q e=>?_⟩
  cases e;exact(Qq i [] f ((by grind [tu.grow,Fr.block])) ((by grind [tu.mono,rn])) aD).mono λk m=>⟨m.1,by have:=m.2;simp;exact aD⟩
theorem eN.h_{C:Ctx}{a w w':aN}(h:eN C a r y w)(b:R_ w w'):eN C a r y w':=by grind [Fr.sm,lK.below,tu.grow,eg,Below.size,eN]
def eN.is{C:Ctx}(h:eN C T r y Z)(x:ByteArray):Ue Un 215 #[bF C.pb,Q_ x] Z λb w'=>b=bY (Uw (sG C (nL r) (dY x)))/\eN C T r y w':=
 (Bd C Z _ x h.2.1).mono (by grind [eN.h_])
def Dr{C:Ctx}{A B:bS aC}{Q:Uh->World->Prop}(h:Ul (Fr C.pb T Z/\lK C Z F))(x:ByteArray)(e:Ul (r=if sG C F (dY x)then A else B))(i:∀w',Ul (Fr C.pb T w'/\lK C w' F)->Ul (r=B)->Q (bY (Uw Uc)) w')
 (g:∀p,F=.ok p->∀w',Ul (Fr C.pb T w'/\lK C w' (.ok (p+1)))->Ul (r=A)->Q (bY (Uw Ud)) w'):
 Ue Un 216 #[bF C.pb,Q_ x] Z Q:=by
 refine rf (Dc C Z F x h.2) λf ⟨c,j⟩=>?_
 have d:=e.out;cases b:sG C F (dY x)<;>rw[b]at d
 .rw[show uL C F (dY x)=F by cases F with|ok q=>exact BX b|error l=>rfl]at c
  grind [Fr.trans,d7]
 cases F with
 |error l=>cases b
 |ok p=>
  grind [Fr.trans,d7,uL,sG]
def Gy(C:Ctx)(E:Nat->bS aC)(w:aN)(S:Except Nat Nat)(h:lK C w S)(b:∀q,S=.ok q->Reads C 99 E)(a:fL S (eJ E C.ts)≠.error 0):Ue Un 256 #[bF C.pb] w (eN C w (fL S (eJ E C.ts))):=by
 cases S with
 |error l=>exact IU C w l h
 |ok p=>exact LR C E (b p aJ) w _ h a
def PO(C:Ctx)(E X:Nat->bS aC)(w:aN)(S:Except Nat Nat)(h:lK C w S)(V:Ul (∀q,S=.ok q->Reads C 99 E))(Y:Ul (∀q,S=.ok q->Reads C 211 X))(r:bS aC)
 (f:Ul (r=if sG C S [45]then fL S λp=>bT (λx=>aV [45,120] (aS C.ts p).l_ [] [x]) (X (p+1))else if sG C S [33]then fL S λp=>bT (λx=>aV [33,120] (aS C.ts p).l_ [] [x]) (X (p+1))else bL (fL S (eJ E C.ts)) (eS E C.ts (Ty C.ts+1)))) (G:Ul (r≠.error 0)):
 Ue Un 211 #[bF C.pb] w (eN C w r):=by
 obtain⟨D,ac,Q⟩:=h.facts;have W:=aB (F5 C w S h);have HA:=aB h;have aa:=BR;clear h;go_in
 go_wp2_with fail;apply W.mono
 rintro e w1 ⟨⟨t,rfl,M⟩,I⟩;have O:=aB M;have H:=aB (dy (Fr.below (pb:=C.pb) I) (HA.below I));clear I W M;go_wp2_with fail;refine Dr H ⟨#[45]⟩ f ?_ ?_
 .clear H f;intro A H f;go_wp2_with fail;refine Dr H ⟨#[33]⟩ f ?_ ?_
  .clear H f;intro F H f;have g:=aB (Gy C E F S H.2 V (by grind [d7,bL]))
   go_wp2_with fail;apply g.mono
   rintro e w4 d;obtain⟨b4,rfl⟩:=d.ptr;have u:=aB (eN.later H.1 d);clear d g;go_wp2
   go_loopg [8] (Ty C.ts+1) (λk v wr=>∃j b,v=bF b/\r=bL j (eS E C.ts k)/\(∀a q,j=.ok (a,q)->∃p,S=.ok p)/\eN C w j (bY v) wr)
   case atStart=>exact⟨_,b4,aJ,f,λa q e=>(by cases S with|ok p=>simp|error l=>cases e),u⟩
   case round=>
    obtain⟨j,b,rfl,y,U,d⟩:=hrel;have c:=aB d;have i:=aB y;have HS:=aB U;clear d y U u f H;go_wp2_with fail;refine mh (c.is ⟨#[91]⟩) λw5 c=>?_
    cases m:sG C (nL j) [91]
    .have e:r=j:=by
      rw[i];cases j with
      |error l=>rfl
      |ok s=>
       cases gk with
       |zero=>exact eu i G
       |succ k=>show eS E C.ts (k+1) s.1 s.2=_;rw[eS,show bZ C.ts s.2 [91]=Uc from m];rfl
     subst e;clear m;go_wp2
     go_ret;exact c
    cases j with
    |error l=>cases m
    |ok s=>
     obtain⟨a,q⟩:=s;have m:bZ C.ts q [91]=Ud:=m;obtain⟨p,rfl⟩:=HS a q rfl;cases gk with
     |zero=>exact eu i G
     |succ k=>
      have e:r=bL (aQ C.ts [93] (bT (λx=>aV [105,110,100,101,120] (aS C.ts q).l_ [] [a,x]) (E (q+1)))) (eS E C.ts k):=by
       rw[i];show eS E C.ts (k+1) a q=_
       rw[eS,m,ef rfl];cases E (q+1)with
       |error l=>rfl
       |ok iq=>simp only[aQ,bT];cases bZ C.ts iq.2 [93]<;>rfl
      have B:q+1<Ty C.ts:=At.next c.2.1 (JQ m)
      have z:=aB (lU C w5 q 0 c.2.1);have H1:=aB e;clear e m;go_wp2_with fail;apply z.mono
      rw[zM];rintro e w6 ⟨rfl,n⟩;obtain⟨ab, -, -,d1,Z,N⟩:=At.cells c.2.1 n;have L:=(N 1).2;have o:=aB (At.step c.2.1 n B);have g:=aB (V p aJ _ (.ok (q+1)) o.1 λe=>G (by rw[H1,show E (q+1)=.error 0 from e];rfl))
      clear n N z;go_wp2_with fail;apply g.mono
      rintro e w7 d;obtain⟨b7,rfl⟩:=d.ptr;have J:Ul (∀K,eN C w (bT (λx=>aV [105,110,100,101,120] K [] [a,x]) (E (q+1))) _ _):=λK=>eN.two c.1 (by obtain⟨_,_,_,e,h⟩:=c.out;cases e;exact h a q aJ) D o.2 d [105,110,100,101,120] K
      clear d g d1 Z L;go_wp2_with fail;apply (zO C _ _ ⟨#[93]⟩ (J _).2.1).mono
      rintro e w8 ⟨rfl,P,T⟩;go_wp2
      go_roundg k
      case measure=>exact aD
      grind [d7,eN.take]
  rintro p rfl A H f;have g:=aB (Y p aJ A (.ok (p+1)) H.2 (by grind [d7,fL,bT]))
  go_wp2_with fail;apply g.mono
  rintro e F d;obtain⟨b3,rfl⟩:=d.ptr;have c:=aB (eN.later H.1 d);clear d g;go_wp2
  go_ret;rw[f,O p rfl];exact c.one _ _
 rintro p rfl A H f;have g:=aB (Y p aJ A (.ok (p+1)) H.2 (by grind [d7,fL,bT]))
 go_wp2_with fail;apply g.mono
 rintro e F d;obtain⟨b3,rfl⟩:=d.ptr;have c:=aB (eN.later H.1 d);clear d g;go_wp2
 go_ret;rw[f,O p rfl];exact c.one _ _
def TQ(C:Ctx)(E:Nat->bS aC)(c:Reads C 99 E)(g:Nat):Reads C 211 (iC E C.ts g):=by
 induction g with
 |zero=>
  intro w S h a;cases S with
  |ok p=>exact eu aJ a
  |error l=>exact PO C E E w _ h (λ_ e=>by cases e) (λ_ e=>by cases e) _ rfl a
 |succ g b=>
  intro w S h a;refine PO C E _ w S h (λ_ _=>c) (λ_ _=>b) _ ?_ a
  cases S<;>rfl
def It(C:Ctx)(w:aN)(l:Nat)(h:lK C w (.error l)):Ue Un 211 #[bF C.pb] w (eN C w (.error l)):=
 PO C (λ_=>.error 0) (λ_=>.error 0) w _ h (λ_ e=>by cases e) (λ_ e=>by cases e) _ rfl λe=>h.1 G_
def Bs(x:bP):Int:=if cU x=9 then -1 else (cU x:Int)
def FA(x:bP)(w:aN):
 Ue Un 212 #[Q_ (bs x)] w λe w'=>e=bY (I_ (Bs x))/\w'=w:=by
 have a:(bs x).toList=x:=aX x;go_in
 go_wp2
 all_goals
  go_ret;refine⟨nV ?_,aJ⟩;clear a;unfold Bs cU;simp_all
def Rc(x:bP)(k:Nat)(a:k<=4):(Bs x != (k:Int))= !(cU x==k):=by grind [Bs]
def S9(P:Prop)(C:Ctx)(k:Int)(X:Nat->bS aC):Prop:=
 ∀(w:aN) (S:Except Nat Nat),lK C w S->(∀q,S=.ok q->P)->fL S X≠.error 0->Ue Un 162 #[bF C.pb,I_ k] w (eN C w (fL S X))
def L4(C:Ctx)(g:Nat)(H:g<=4)(L:Nat->bS aC)(HL:Ul (S9 P C ((g:Int)+1) L))(w:aN)(S:Except Nat Nat)(h:lK C w S)(hP:Ul (∀q,S=.ok q->P))(r:bS aC)
 (W:Ul (r=bL (fL S L) (cH L C.ts g (Ty C.ts+1)))) (Q:Ul (r≠.error 0)):
 Ue Un 162 #[bF C.pb,I_ g] w (eN C w r):=by
 obtain⟨G,ac,V⟩:=h.facts;have Y:=aB (HL w S h hP (by grind [d7,bL]))
 clear h;go_in
 go_wp2_with fail;apply Y.mono
 rintro e w4 f;obtain⟨b4,rfl⟩:=f.ptr;have D:=aB f;clear f Y;go_wp2
 go_loopg [5] (Ty C.ts+1) (λk v wr=>∃A b,v=bF b/\r=bL A (cH L C.ts g k)/\(∀a q,A=.ok (a,q)->P)/\eN C w A (bY v) wr)
 case atStart=>exact⟨_,b4,aJ,W,λa q e=>(by cases S with|ok p=>exact hP p aJ|error l=>cases e),D⟩
 case round=>
  obtain⟨A,b,rfl,j,hS,f⟩:=hrel;have m:=aB f;have d:=aB j;have HS:=aB hS;clear j hS D W;cases A with
  |error l=>
   obtain⟨M,c,aa,K⟩:=lK.bad f.2.1;clear f;go_wp2
   go_ret;rw[d];exact m
  |ok aq=>
   obtain⟨a,q⟩:=aq;have O:=aB (lU C wr q 0 f.2.1);obtain⟨M,K⟩:=At.wb f.2.1;clear f;cases gk with
   |zero=>exact eu d Q
   |succ k=>
    have j:r=cH L C.ts g (k+1) a q:=d.out;rw[cH]at j;have s:=Rc (aS C.ts q).x_ g H;cases u:((aS C.ts q).c_==112 && cU (aS C.ts q).x_==g)<;>rw[u]at j<;>have d:=aB j<;>clear j
    .have hx:(((aS C.ts q).c_:Int) != 112)=Ud\/(((aS C.ts q).c_:Int) != 112)=Uc/\(Bs (aS C.ts q).x_ != (g:Int))=Ud:=by
      by_cases h:(aS C.ts q).c_=112
      .rw[h]at u ⊢;exact .inr ⟨aJ,by rw[s];simpa using u⟩
      exact .inl kj
     clear u s;rcases hx with e1|⟨e1,e2⟩
     all_goals
      go_wp2_with fail;apply O.mono
      rw[zM];rintro e E ⟨rfl,n⟩;go_wp2_with (go_at_call 212;refine rf (FA _ _) λw' J=>?_;obtain rfl:=J.symm)
      go_ret;rw[d];exact m.h_ (n.alloc n.size _)
    obtain⟨X,Z⟩:(aS C.ts q).c_=112/\cU (aS C.ts q).x_=g:=by simpa using u
    have e1:(((aS C.ts q).c_:Int) != 112)=Uc:=by rw[X];rfl
    have e2:(Bs (aS C.ts q).x_ != (g:Int))=Uc:=by rw[s,Z];simp
    have F:q+1<Ty C.ts:=At.next m.2.1 aD
    clear u s X Z;go_wp2_with fail;apply O.mono
    rw[zM];rintro e E ⟨rfl,n⟩;obtain⟨ab, -, -,d1,d2,U⟩:=At.cells m.2.1 n;have N:=(U 1).2;have y:=aB (At.step m.2.1 n F);clear U n O;go_wp2_with (go_at_call 212;refine rf (FA _ _) λw' J=>?_;obtain rfl:=J.symm)
    have z:=aB λo=>(dz (Tz E (aL C.pb 1) (I_ ((q:Int)+1))).heap.size _).alloc mJ o
    apply (HL _ (.ok (q+1)) (y.1.below (z _)) (λ_ _=>HS a q aJ) λe=>Q (by rw[d,show L (q+1)=.error 0 from e];rfl)).mono
    rintro e T f;obtain⟨b7,rfl⟩:=f.ptr;have t:∀i,T_ T (aL (H_ E) i)=_:=λi=>(f.1.cells (b:=H_ E) s_ aD).1 i
    have t1:=t 1;have t2:=t 2;have ad:H_ E<H_ T:=by have:=f.1.size;simp at this;exact aD
    have I:=aB (eN.two m.1 (by obtain⟨_,_,_,e,h⟩:=m.out;cases e;exact h a q aJ) G (y.2.sm (z _)) f (aS C.ts q).x_ (aS C.ts q).l_)
    clear f t d1 d2 N;by_cases B:g=2
    .have ek:((g:Int)==2)=Ud:=by simp;exact aD
     have e:r=bT (λx=>aV (aS C.ts q).x_ (aS C.ts q).l_ [] [a,x]) (L (q+1)):=by rw[d];cases L (q+1)<;>simp[B,bT]
     have H1:=aB e;clear e;go_wp2
     go_ret;rw[H1];exact I
    have ek:((g:Int)==2)=Uc:=by simp;exact aD
    have e:r=bL (bT (λx=>aV (aS C.ts q).x_ (aS C.ts q).l_ [] [a,x]) (L (q+1))) (cH L C.ts g k):=by rw[d];cases L (q+1)<;>simp[B,bT,bL]
    have H1:=aB e;clear e;go_wp2
    go_roundg k
    case measure=>exact aD
    grind [d7,bs,fL]
def L5(C:Ctx)(E:Nat->bS aC)(j:P->Reads C 99 E):S9 P C 5 (iM E C.ts 0):=by
 intro w S h i d
 have f:Ul (Ue Un 211 #[bF C.pb] w (eN C w (fL S (iM E C.ts 0)))):=by
  cases S with
  |error l=>exact It C w l h
  |ok p=>exact TQ C E (G_) (Ty C.ts+1) w _ h d
 go_in
 go_wp2_with fail;apply f.mono
 intro e g a;obtain⟨b,rfl⟩:=a.ptr;have c:=aB a;go_wp2
 go_ret;exact c
def EZ(C:Ctx)(E:Nat->bS aC)(b:P->Reads C 99 E):∀j,j<=5->S9 P C (((5-j:Nat)):Int) (iM E C.ts j)
 |0,_=>L5 C E b
 |j+1,e=>by
  have a:=EZ C E b j aD;intro w S h c d;rw[show (5-(j+1))=4-j by omega]
  rw[show (((5-j:Nat)):Int)=((4-j:Nat):Int)+1 by omega]at a
  exact L4 C (4-j) aD _ a w S h c _ (by cases S<;>rfl) d
def OR(C:Ctx)(E:Nat->bS aC)(g:P->Reads C 99 E)(w:aN)(S:Except Nat Nat)(h:lK C w S)(c:∀q,S=.ok q->P)(f:fL S (iM E C.ts 5)≠.error 0):Ue Un 99 #[bF C.pb] w (eN C w (fL S (iM E C.ts 5))):=by
 have i:=aB (EZ C E g 5 (aD) w S h c f);go_in
 go_wp2_with fail;apply i.mono
 intro e j a;obtain⟨b,rfl⟩:=a.ptr;have d:=aB a;go_wp2
 go_ret;exact d
def N9(C:Ctx)(f:Nat):Reads C 99 (jP C.ts f):=by
 induction f with
 |zero=>
  intro w S h a;cases S with
  |ok p=>exact eu aJ a
  |error l=>exact OR (P:=False) C (λ_=>.error 0) (s_) w _ h (s_) a
 |succ f b=>exact λw S h a=>OR (P:=True) C _ (λ_=>b) w S h (s_) a
