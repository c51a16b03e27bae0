import Derived.Test.YtjhbbdpfkccohaaGreatDoorP16
set_option linter.all false
set_option maxRecDepth 100000
set_option maxHeartbeats 4000000
open List renaming length->Ty
open Go.World renaming setCell->Tz,alloc->T6,cell?->T_
open Option renaming some->Ua,none->Ub
open Bool renaming false->Uc
open Go renaming Calls->Ue,Value->Uf,World->Ug
open Go.Proofs.Tryz renaming prog->Un
open Go.Value renaming slice->Uq,string->Ur,agg->Us,pointer->Ut
open Go.Obj renaming cells->Uy
namespace Go.Proofs.YtjhbbdpfkccohaaGreatDoor
open Hs
open _root_.Go.Proofs.Tryz
open Go.RowKit
variable{i:List aC}{R:Nat}{W w:aN}{L:aW}{F:bN}{j:iU}
def vk{b:cY}{a:aC}(p:Nat)(h:cO i R b a):(aU i R b a p).2=cR b a:=
 (pK i R b a (λ_ _=>False) p h ⟨s_,s_⟩).2.1
def rp.split{S:cY->aC->Prop}:∀{l m:List aC} {a:cY},Hs.rp S a (l++m)->Hs.rp S a l/\Hs.rp S (fZ a l) m
 |[],_,_,h=>⟨trivial,h⟩
 |_::_,_,_,h=>by obtain⟨d,b⟩:=h;obtain⟨e,c⟩:=rp.split b;exact⟨⟨d,e⟩,c⟩
def wL:∀(l m:List aC) (b:cY),fZ b (l++m)=fZ (fZ b l) m
 |[],_,_=>rfl
 |a::l,m,b=>wL l m (cR b a)
theorem wB:∀{l:List aC} (m:List aC) {b:cY} (p:Nat),Hs.rp (cO i R) b l->bK (aU i R) b (l++m) p=bK (aU i R) b l p++bK (aU i R) (fZ b l) m (p+Ty (bK (aU i R) b l p))
 |[],m,b,p,_=>by simp[bK,fZ]
 |a::l,m,b,p,h=>by obtain⟨f,e⟩:=h;rw[iy,bK,bK,vk p f,wB m _ e,gw,ew,Nat.add_assoc];rfl
def yL(fp:iU)(fb:Nat->Nat)(nms:cY)(cb:Nat)(F:bN)(w:aN)(code:List (Option aO))(e_:cY)(w':aN):Prop:=
 ∃G,(∀k,F k->G k)/\iF fp fb nms cb G w code e_ w'
def SI(fp:iU)(fb:Nat->Nat)(fs:List aC)(cb lo:Nat)(d:Nat):Prop:=
 ∀(F:bN) (e_:cY) (v:aW) (a:aC) (code:List (Option aO)) (w:aN),CP fp fb (fs.map (·.x_)) cb F w code e_->PN (rn lo cb) w v a->cO fs d e_ a->jX a->Ty e_<=90001->Ty code+(aU fs d e_ a (Ty code)).1.length<=1000000->
  Ue Un 203 #[bF cb,v] w λe w'=>e=fD/\yL fp fb (fs.map (·.x_)) cb F w (code++(aU fs d e_ a (Ty code)).1.map Ua) (aU fs d e_ a (Ty code)).2 w'
section
variable {fp:iU} {fb:Nat->Nat} {fs:List aC} {cb lo:Nat} {F:bN} {e_:cY} {d:Nat}
theorem yL.then{w c d:aN}{b:cY}{a:List (Option aO)}(e:FB cb cb w c)(h:yL fp fb b cb F c a e_ d):yL fp fb b cb F w a e_ d:=by obtain⟨G,f,h⟩:=h;exact⟨G,f,h.then e⟩
def yL.more{G:bN}{w c:aN}{b:cY}{a:List (Option aO)}(d:∀k,F k->G k)(h:yL fp fb b cb G w a e_ c):yL fp fb b cb F w a e_ c:=by grind [yL]
def r9{c:List aC}{d:Nat}{b:cY}{a:aC}(h:cO c d b a)(e:Ty b<=90001):Ty (cR b a)<=90001:=by
 cases d with
 |zero=>exact h.elim
 |succ d=>
  grind [cR,cO]
def EN{f:List aC}{d:Nat}:∀{l:List aC} {e_:cY},Hs.rp (cO f d) e_ l->Ty e_<=90001->Ty (fZ e_ l)<=90001
 |[],_,_,h=>h
 |a::l,e_,c,h=>by obtain⟨e,b⟩:=c;exact EN (l:=l) (e_:=cR e_ a) b (r9 e h)
def vI(E:SI fp fb fs cb lo d)(v:aW)(l:List aC)(b:List (Option aO))(w:aN)(h:CP fp fb (fs.map (·.x_)) cb F w b e_)(K:rP (rn lo cb) w v l)(P:Hs.rp (cO fs d) e_ l)(N:∀a∈l,jX a)(D:Ty l<=1000000)(o:Ty e_<=90001)(S:Ty b+Ty (bK (aU fs d) e_ l (Ty b))<=1000000):
 Ue Un 149 #[bF cb,v] w λe y=>e=fD/\yL fp fb (fs.map (·.x_)) cb F w (b++(bK (aU fs d) e_ l (Ty b)).map Ua) (fZ e_ l) y:=by
 rcases K.get with ⟨rfl,rfl⟩|⟨g,q,rfl,z,s,t,O⟩
 .refine oN (IF w cb) ?_;exact⟨aJ,F,s_,by grind [bK,fZ],FB.refl _⟩
 refine(FQ w cb g (Ty l) q (λj W=>j<=Ty l/\yL fp fb (fs.map (·.x_)) cb F w (b++(bK (aU fs d) e_ (l.take j) (Ty b)).map Ua) (fZ e_ (l.take j)) W) D ⟨aD,F,s_,by grind [bK,fZ],FB.refl _⟩ λj W B L=>?_).mono ?_
 .obtain⟨_,G,Q,m,f⟩:=B;obtain⟨u,H,i⟩:=O j L;obtain⟨T,C,rfl⟩:=i.form;have n:l.take (j+1)=l.take j++[l[j]]:=(by simp)
  have c:Hs.rp (cO fs d) e_ (l.take j++(l[j]::l.drop (j+1))):=by grind [List.take_append_drop]
  obtain⟨r,k,_⟩:=rp.split c;have J:bK (aU fs d) e_ (l.take (j+1)) (Ty b)=bK (aU fs d) e_ (l.take j) (Ty b)++(aU fs d (fZ e_ (l.take j)) l[j] (Ty b+Ty (bK (aU fs d) e_ (l.take j) (Ty b)))).1:=by grind [wB,bK]
  have x:Ty (bK (aU fs d) e_ (l.take (j+1)) (Ty b))<=Ty (bK (aU fs d) e_ l (Ty b)):=by
   have I:Hs.rp (cO fs d) e_ (l.take (j+1)++l.drop (j+1)):=G_
   grind [wB,List.take_append_drop,bK]
  have M:Ty (b++(bK (aU fs d) e_ (l.take j) (Ty b)).map Ua)=Ty b+Ty (bK (aU fs d) e_ (l.take j) (Ty b)):=s_
  have A:fZ e_ (l.take (j+1))=(aU fs d (fZ e_ (l.take j)) l[j] (Ty b+Ty (bK (aU fs d) e_ (l.take j) (Ty b)))).2:=by rw[n,wL,vk _ k];rfl
  refine⟨ej s f.re.size,T,Us C,by rw[f.re.cell (p:=(aL g j)) z.2];exact H,(E G _ _ l[j] _ W m (i.below f.re) k (G_) (EN r o) ?_).mono ?_⟩
  .grind
  grind [yL.then,yL]
 simp
def Q9(I:SI fp fb fs cb lo d)(v:aW)(l:List aC)(f:List (Option aO))(w:aN)(h:CP fp fb (fs.map (·.x_)) cb F w f e_)(u:rP (rn lo cb) w v l)(E:Hs.rp (cO fs d) e_ l)(s:∀a∈l,jX a)(H:Ty l<=1000000)(m:Ty e_<=90001)(L:Ty f+Ty (bK (aU fs d) e_ l (Ty f))<=1000000):
 Ue Un 283 #[bF cb,v] w λe y=>e=fD/\yL fp fb (fs.map (·.x_)) cb F w (f++(bK (aU fs d) e_ l (Ty f)).map Ua) e_ y:=by
 obtain⟨x,c,rfl⟩:=u.s5;have n:=vI I _ l f w h u E s H m L;obtain⟨T,Q,P,D,_,C,_⟩:=h.i_;obtain⟨p,rfl⟩:=C.form;refine R6 w cb p x (Ty l) c _ _ (aA D aJ) n (λW B=>?_)
 obtain⟨G,K,g,j⟩:=B;obtain⟨r,q,O,i,⟨J,t,N⟩,S,M⟩:=g.i_;refine⟨⟨_,aA i aJ⟩,aF i,G_,G,K,⟨⟨r,q,Ut p,aP i,⟨J,?_,?_⟩,?_,?_⟩,λk o=>?_⟩,?_⟩
 all_goals have o:∀k,k≠cb->(Tz W (aL cb 2) (Ut p)).heap[k]?=W.heap[k]?:=(by grind [em])
 all_goals have hGk :=λb z=>o b (g.fix b z).2.1
 all_goals have A:lT cb (Tz W (aL cb 2) (Ut p))=lT cb W:=by rw[rR (aP i),rR i]
 .exact bC t λk e=>o k (by have:=(t.lt k e).1;exact aD)
 .exact N.h_ hGk s_
 .grind [gQ.h_,CP.fixed]
 .exact M.h_ hGk (s_) s_
 .grind [CP.fix]
 refine j.trans ⟨⟨aJ,aJ,aJ,s_,G_⟩,G_,G_⟩
end
section
variable {fp:iU} {fb:Nat->Nat} {fs:List aC} {cb lo:Nat} {F:bN} {a_:Bool} {e_:cY} {d:Nat}
def Gr(S:KV fp fb fs cb lo F a_ e_ d)(V:Ty fs<=1000000)(X:∀k,k<Ty fs->fp k=bF (fb k))(a:aC)(L:aW)(l:Int)(b:List (Option aO))(w:aN)(z:CP fp fb (fs.map (·.x_)) cb F w b e_)(s:a.op=[99,97,108,108])(K:rP (rn lo cb) w L a.y_)(H:Hs.rk fs a_ e_ (d+1) a)(I:sW (d+1) a)(m:Ty b+Ty (aG fs e_ (d+1) a (Ty b))<=1000000):
 Ue Un 254 #[bF cb,Us #[I_ l,Q_ (bs a.x_),L]] w λe q=>e=fD/\iF fp fb (fs.map (·.x_)) cb F w (b++(aG fs e_ (d+1) a (Ty b)).map Ua) e_ q:=by
 have j:=rk.op H;obtain⟨_,A,v⟩:=I;rw[JV fs e_ d a _ s]at m ⊢
 rw[ew,hJ]at m;have C:=j.1;have n:=j.2.2 s;obtain⟨x,c,rfl⟩:=K.s5;obtain⟨f,r⟩:=z.new (cD #[I_ l,Q_ (bs a.x_),P_ x (Ty a.y_) c] 341);have u:∀{W:aN},FB cb cb (eH w #[I_ l,Q_ (bs a.x_),P_ x (Ty a.y_) c] 341) W->W.heap[H_ w]?=Ua (cD #[I_ l,Q_ (bs a.x_),P_ x (Ty a.y_) c] 341):=λB=>(f.step B).i_
 have g:Ue Un 250 #[bF cb,P_ x (Ty a.y_) c] (eH w #[I_ l,Q_ (bs a.x_),P_ x (Ty a.y_) c] 341) λe q=>e=fD/\(iF fp fb (fs.map (·.x_)) cb F w (b++(bB (aG fs e_ d) a.y_ (Ty b)).map Ua) e_ q/\q.heap[H_ w]?=Ua (cD #[I_ l,Q_ (bs a.x_),P_ x (Ty a.y_) c] 341)):=by
  apply (xX S _ _ _ _ r (K.below f.fb.re) C v A aD).mono
  rintro e q ⟨U,t⟩;exact⟨U,t.then f.fb,u t.2⟩
 have M:∀{i:aO} {e:Ending} {W:aN},(e=fD/\iF fp fb (fs.map (·.x_)) cb F w ((b++(bB (aG fs e_ d) a.y_ (Ty b)).map Ua)++[Ua i]) e_ W)->e=fD/\iF fp fb (fs.map (·.x_)) cb F w (b++(bB (aG fs e_ d) a.y_ (Ty b)++[i]).map Ua) e_ W:=(by simp)
 have p:Ty (b++(bB (aG fs e_ d) a.y_ (Ty b)).map Ua)+1<=1000000:=G_
 rcases n with o|o|⟨D,E,O⟩
 .rw[o]at g ⊢
  apply (YW w cb (Ty a.y_) c l x _ _ g (λW h=>(by grind [aA])) λW h=>tg (i:=.length) h.1 rfl p).mono
  simp
 .rw[o]at g ⊢
  apply (OV w cb (Ty a.y_) c l x _ _ g (λW h=>(by grind [aA])) λW h=>tg (i:=.read) h.1 rfl p).mono
  simp
 have Q:dV fs a.x_<Ty fs:=by grind [gE]
 have y:a.x_∈fs.map (·.x_):=by grind [dV]
 have T:(a.x_==[108,101,110])=Uc:=G_
 have P:(a.x_==[114,101,97,100])=Uc:=G_
 rw[T,P];refine(KF w cb (Ty a.y_) c (fb (dV fs a.x_)) l a.x_ x (λW=>iF fp fb (fs.map (·.x_)) cb F w ((b++(bB (aG fs e_ d) a.y_ (Ty b)).map Ua)++[Ua (.call (dV fs a.x_) (Ty a.y_))]) e_ W) _ D E g (λW h=>(by grind [aA])) (λW J h N=>?_) λW J h N=>?_).mono ?_
 .apply (zF a.x_ (h.1.1.grow N.below) y G_).mono
  grind [JS]
 .have G:iF fp fb (fs.map (·.x_)) cb F w (b++(bB (aG fs e_ d) a.y_ (Ty b)).map Ua) e_ J:=(by grind [CP.grow,bV.below,FB.trans,FB.of_lt,CP.lt,iF])
  exact tg (i:=.call (dV fs a.x_) (Ty a.y_)) G (by show _=_;grind) p
 simp
end
section
variable (fs:List aC) (e_:cY) (d:Nat) (a:aC) (p:Nat)
def Oo(t v:aC)(h:a.op=[118,97,114])(b:a.y_=[t,v]):aU fs (d+1) e_ a p=(.begin a.l_ e_::aG fs e_ d v (p+1)++[.declare (Ty e_)],t.x_::e_):=by rw[aU];grind
def Iv(h:a.op=[115,101,116]):aU fs (d+1) e_ a p=(.begin a.l_ e_::bB (aG fs e_ d) a.y_ (p+1)++[.assign (dQ e_ a.x_) (Ty a.y_-1)],e_):=by rw[aU];simp[h]
def K_(c t:aC)(h:a.op=[105,102])(b:a.y_=[c,t]):aU fs (d+1) e_ a p=
 (.begin a.l_ e_::aG fs e_ d c (p+1)++[.skip (p+1+Ty (aG fs e_ d c (p+1))+1+Ty (bK (aU fs d) e_ t.y_ (p+1+Ty (aG fs e_ d c (p+1))+1))+1)]++bK (aU fs d) e_ t.y_ (p+1+Ty (aG fs e_ d c (p+1))+1)++[.jump (p+1+Ty (aG fs e_ d c (p+1))+1+Ty (bK (aU fs d) e_ t.y_ (p+1+Ty (aG fs e_ d c (p+1))+1))+1)],e_):=by rw[aU];grind
def Jw(c t x:aC)(h:a.op=[105,102])(b:a.y_=[c,t,x]):aU fs (d+1) e_ a p=
 (.begin a.l_ e_::aG fs e_ d c (p+1)++[.skip (p+1+Ty (aG fs e_ d c (p+1))+1+Ty (bK (aU fs d) e_ t.y_ (p+1+Ty (aG fs e_ d c (p+1))+1))+1)]++bK (aU fs d) e_ t.y_ (p+1+Ty (aG fs e_ d c (p+1))+1)++[.jump (p+1+Ty (aG fs e_ d c (p+1))+1+Ty (bK (aU fs d) e_ t.y_ (p+1+Ty (aG fs e_ d c (p+1))+1))+1+Ty (bK (aU fs d) e_ x.y_ (p+1+Ty (aG fs e_ d c (p+1))+1+Ty (bK (aU fs d) e_ t.y_ (p+1+Ty (aG fs e_ d c (p+1))+1))+1)))]++
   bK (aU fs d) e_ x.y_ (p+1+Ty (aG fs e_ d c (p+1))+1+Ty (bK (aU fs d) e_ t.y_ (p+1+Ty (aG fs e_ d c (p+1))+1))+1),e_):=by rw[aU];grind
def o8(c b:aC)(h:a.op=[119,104,105,108,101])(e:a.y_=[c,b]):aU fs (d+1) e_ a p=
 (.begin a.l_ e_::aG fs e_ d c (p+1)++[.skip (p+1+Ty (aG fs e_ d c (p+1))+1+Ty (bK (aU fs d) e_ b.y_ (p+1+Ty (aG fs e_ d c (p+1))+1))+1)]++bK (aU fs d) e_ b.y_ (p+1+Ty (aG fs e_ d c (p+1))+1)++[.jump p],e_):=by rw[aU];grind
def UF(h:a.op=[114,101,116,117,114,110])(b:a.y_=[]):aU fs (d+1) e_ a p=([.begin a.l_ e_,.push (bA 0),.sg],e_):=by rw[aU];grind
def UE(v:aC)(h:a.op=[114,101,116,117,114,110])(b:a.y_=[v]):aU fs (d+1) e_ a p=(.begin a.l_ e_::aG fs e_ d v (p+1)++[.sg],e_):=by rw[aU];grind
def o9(v:aC)(h:a.op=[112,114,105,110,116])(b:a.y_=[v]):aU fs (d+1) e_ a p=(.begin a.l_ e_::aG fs e_ d v (p+1)++[.print],e_):=by rw[aU];grind
def Gn(c:aC)(h:a.op=[100,111])(b:a.y_=[c]):aU fs (d+1) e_ a p=(.begin a.l_ e_::aG fs e_ d c (p+1)++[.drop],e_):=by rw[aU];grind
end
section
variable {fp:iU} {fb:Nat->Nat} {fs:List aC} {cb lo:Nat} {F:bN} {e_:cY} {d:Nat}
def sF(fp:iU)(fb:Nat->Nat)(nms:cY)(cb:Nat)(F:bN)(w w1:aN)(b:Nat)(o:Obj)(e_:cY)(c:List (Option aO))(W:aN):Prop:=
 ∃G,(∀k,F k->G k)/\iF fp fb nms cb G w c e_ W/\Loc cb cb w1 b o W
def sF.emit{d:cY}{w f W:aN}{b:Nat}{o:Obj}{c:List (Option aO)}(j:sF fp fb d cb F w f b o e_ c W){u:aW}{i:Option aO}(m:∀G,Cr fp G W u i)(p:Ty c<=1000000):
 Ue Un 150 #[bF cb,u] W λe g=>e=bY (I_ (Ty c))/\sF fp fb d cb F w f b o e_ (c++[i]) g:=by
 obtain⟨G,n,a,l⟩:=j;apply (xD (o:=i) a.1 (m G) p).mono
 rintro e g ⟨q,k,h⟩;exact⟨q,G,n,⟨k,a.2.trans h⟩,l.step h⟩
def sF.patch{e:cY}{w l W:aN}{b:Nat}{o:Obj}{d a:List (Option aO)}(x:sF fp fb e cb F w l b o e_ (d++Ub::a) W)(k:Nat)(v:k=Ty d)(m:TypeId)(i:Nat->aO)(B:∀G n,lR fp G W (dH m (Us #[I_ (n:Nat)])) (i n))(D:Ty (d++Ub::a)<=1000000):
 cb<H_ W/\∃g n c,dP W cb 1 (P_ (Ua (aL g 0)) n c)/\k<n/\n<=1000000/\(∃u,dP W g k u)/\W.frozen? (aL g k)=Uc/\g<H_ W/\∀h,bV (Tz W (aL g k) (dH m (Us #[I_ (n:Nat)]))) h->sF fp fb e cb F w l b o e_ (d++Ua (i (Ty (d++Ub::a)))::a) h:=by
 obtain⟨G,C,⟨f,j⟩,z⟩:=x;obtain⟨g,c,A,t,q,s,r⟩:=f.patch;subst v;refine⟨f.lt,g,_,c,A,s_,D,t,q,s,λh E=>?_⟩
 obtain⟨y,p⟩:=r _ _ h (B G _) E;exact⟨G,C,⟨y,j.trans p⟩,z.step p⟩
def sF.zd(r:SI fp fb fs cb lo d){w j W:aN}{b:Nat}{o:Obj}{c:List (Option aO)}(m:sF fp fb (fs.map (·.x_)) cb F w j b o e_ c W)(v:aW)(l:List aC)(t:rP (rn lo cb) w v l)(p:Hs.rp (cO fs d) e_ l)(i:∀a∈l,jX a)(q:Ty l<=1000000)(h:Ty e_<=90001)(s:Ty c+Ty (bK (aU fs d) e_ l (Ty c))<=1000000):
 Ue Un 283 #[bF cb,v] W λe k=>e=fD/\sF fp fb (fs.map (·.x_)) cb F w j b o e_ (c++(bK (aU fs d) e_ l (Ty c)).map Ua) k:=by
 obtain⟨G,y,g,n⟩:=m;apply (Q9 r v l c W g.1 (t.below g.2.re) p i q h s).mono
 rintro e k ⟨u,H,x,f⟩;exact⟨u,H,G_,f.then g.2,n.step f.2⟩
def sF.wu{w l W:aN}{b:Nat}{o:Obj}{c:List (Option aO)}(p:sF fp fb (fs.map (·.x_)) cb F w l b o e_ c W)(h:Ty fs<=1000000)(i:∀k,k<Ty fs->fp k=bF (fb k))(n:Ty e_<=90001)(v:aW)(a:aC)(u:PN (rn lo cb) w v a)(r:Hs.rk fs Uc e_ d a)(j:jX a)(t:Ty c+Ty (aG fs e_ d a (Ty c))<=1000000):
 Ue Un 234 #[bF cb,v] W λe m=>e=fD/\sF fp fb (fs.map (·.x_)) cb F w l b o e_ (c++(aG fs e_ d a (Ty c)).map Ua) m:=by
 obtain⟨G,s,g,q⟩:=p;apply (yA aD h i d v a c W g.1 (u.below g.2.re) r (j d) t).mono
 rintro e m ⟨x,f⟩;exact⟨x,G,s,f.then g.2,q.step f.2⟩
def sF.Bf{w i W:aN}{b:Nat}{o:Obj}{c:List (Option aO)}(n:sF fp fb (fs.map (·.x_)) cb F w i b o e_ c W)(x:Ty fs<=1000000)(A:∀k,k<Ty fs->fp k=bF (fb k))(m:Ty e_<=90001)(v:aW)(l:List aC)(u:rP (rn lo cb) w v l)(q:∀a∈l,Hs.rk fs Uc e_ d a)(h:∀a∈l,jX a)(r:Ty l<=1000000)(t:Ty c+Ty (bB (aG fs e_ d) l (Ty c))<=1000000):
 Ue Un 250 #[bF cb,v] W λe j=>e=fD/\sF fp fb (fs.map (·.x_)) cb F w i b o e_ (c++(bB (aG fs e_ d) l (Ty c)).map Ua) j:=by
 obtain⟨G,s,g,p⟩:=n;apply (xX ((by grind [yA])) v l c W g.1 (u.below g.2.re) q (λa z=>h a z d) r t).mono
 rintro e j ⟨y,f⟩;exact⟨y,G,s,f.then g.2,p.step f.2⟩
theorem sF.box{a:cY}{w e W:aN}{b:Nat}{d:Array Uf}{T:TypeId}{c:List (Option aO)}(f:sF fp fb a cb F w e b (cD d T) e_ c W):W.heap[b]?=Ua (cD d T):=by grind [Loc.i_,sF]
def CP.yp{c:cY}{w:aN}{a:List (Option aO)}(h:CP fp fb c cb F w a e_)(o:Obj):sF fp fb c cb F w w (H_ w) o e_ a (w.alloc o):=by obtain⟨b,d⟩:=h.new o;exact⟨F,s_,⟨d,b.fb⟩,b⟩
def TE{Z_:Prop}(Y_:Z_:=by
 have hcl:Ty (code++cc.map Ua++[Ub])=Ty code+Ty cc+1:=G_
 have:=hq.zd IH _ lt ht ho1 hl1 hn1 hsn G_
 rw[hcl,hct]at this;exact this):Z_:=Y_
def FK(IH:SI fp fb fs cb lo d)(C:Ty fs<=1000000)(D:∀k,k<Ty fs->fp k=bF (fb k))(hsn:Ty e_<=90001)(l:Int)(H I G:aW)(c:aC)(lt g:List aC)(code:List (Option aO))(w:aN)(h:CP fp fb (fs.map (·.x_)) cb F w code e_)
 (J:PN (rn lo cb) w H c) (ht:rP (rn lo cb) w I lt) (K:rP (rn lo cb) w G g) (M:Hs.rk fs Uc e_ d c) (ho1:Hs.rp (cO fs d) e_ lt) (E:Hs.rp (cO fs d) e_ g) (N:jX c) (hl1:∀a∈lt,jX a) (x:∀a∈g,jX a) (hn1:Ty lt<=1000000) (B:Ty g<=1000000)
 (cc b j:List aO) (v:aG fs e_ d c (Ty code)=cc) (hct:bK (aU fs d) e_ lt (Ty code+Ty cc+1)=b) (y:bK (aU fs d) e_ g (Ty code+Ty cc+1+Ty b+1)=j) (O:Ty code+Ty cc+1+Ty b+1+Ty j<=1000000):
 Ue Un 252 #[bF cb,Us #[I_ l,H,I,G]] w λe L=>e=fD/\yL fp fb (fs.map (·.x_)) cb F w (code++(cc++[aO.skip (Ty code+Ty cc+1+Ty b+1)]++b++[aO.jump (Ty code+Ty cc+1+Ty b+1+Ty j)]++j).map Ua) e_ L:=by
 obtain⟨m,f,rfl⟩:=J.form;obtain⟨r,o,rfl⟩:=ht.s5;obtain⟨q,p,rfl⟩:=K.s5;have z:=h.yp (cD #[I_ l,dH m (Us f),P_ r (Ty lt) o,P_ q (Ty g) p] 334)
 refine(YO w cb (Ty code+Ty cc) (Ty code+Ty cc+1+Ty b) l m (Us f) r q (Ty lt) (Ty g) o p
  (λW=>yL fp fb (fs.map (·.x_)) cb F w ((code++cc.map Ua++Ua (aO.skip (Ty code+Ty cc+1+Ty b+1))::b.map Ua)++Ua (aO.jump (Ty code+Ty cc+1+Ty b+1+Ty j))::j.map Ua) e_ W)
  (sF fp fb (fs.map (·.x_)) cb F w w (H_ w) (cD #[I_ l,dH m (Us f),P_ r (Ty lt) o,P_ q (Ty g) p] 334) e_ (code++cc.map Ua))
  (sF fp fb (fs.map (·.x_)) cb F w w (H_ w) (cD #[I_ l,dH m (Us f),P_ r (Ty lt) o,P_ q (Ty g) p] 334) e_ (code++cc.map Ua++[Ub]))
  (sF fp fb (fs.map (·.x_)) cb F w w (H_ w) (cD #[I_ l,dH m (Us f),P_ r (Ty lt) o,P_ q (Ty g) p] 334) e_ (code++cc.map Ua++[Ub]++b.map Ua))
  (sF fp fb (fs.map (·.x_)) cb F w w (H_ w) (cD #[I_ l,dH m (Us f),P_ r (Ty lt) o,P_ q (Ty g) p] 334) e_ (code++cc.map Ua++[Ub]++b.map Ua++[Ub]))
  (sF fp fb (fs.map (·.x_)) cb F w w (H_ w) (cD #[I_ l,dH m (Us f),P_ r (Ty lt) o,P_ q (Ty g) p] 334) e_ (code++cc.map Ua++Ua (aO.skip (Ty code+Ty cc+1+Ty b+1))::(b.map Ua++[Ub])))
  (sF fp fb (fs.map (·.x_)) cb F w w (H_ w) (cD #[I_ l,dH m (Us f),P_ r (Ty lt) o,P_ q (Ty g) p] 334) e_ (code++cc.map Ua++Ua (aO.skip (Ty code+Ty cc+1+Ty b+1))::(b.map Ua++[Ub])++j.map Ua))
  ?_ (λW hq=>?_) (λW hq=>?_) (λW hq=>?_) (λW hq=>?_) (λW hq=>?_) (λW hq=>?_) (λW hq=>?_) λW hq=>?_).mono ?_
 .have:=z.wu C D hsn _ c J M N G_
  rw[v]at this;exact this
 .have:=hq.emit (u:=.nilIface) (i:=Ub) (λ_=>aJ) G_
  rw[rZ]at this;exact this
 .grind [aA,sF.box]
 .exact TE
 .have hcl:Ty (code++cc.map Ua++[Ub]++b.map Ua)=Ty code+Ty cc+1+Ty b:=G_
  have:=hq.emit (u:=.nilIface) (i:=Ub) (λ_=>aJ) aD
  rw[hcl]at this;exact this
 .have s:code++cc.map Ua++[Ub]++b.map Ua++[Ub]=(code++cc.map Ua)++Ub::(b.map Ua++[Ub]):=s_
  rw[s]at hq;have A:Ty ((code++cc.map Ua)++Ub::(b.map Ua++[Ub]))=Ty code+Ty cc+1+Ty b+1:=G_
  have:=hq.patch (Ty code+Ty cc) s_ 407 (λn=>.skip n) (λ_ _=>rfl) aD
  grind
 .grind [aA,sF.box]
 .have hcl:Ty (code++cc.map Ua++Ua (aO.skip (Ty code+Ty cc+1+Ty b+1))::(b.map Ua++[Ub]))=Ty code+Ty cc+1+Ty b+1:=G_
  have:=hq.zd IH _ g K E x B hsn G_
  rw[hcl,y]at this;exact this
 .have s:code++cc.map Ua++Ua (aO.skip (Ty code+Ty cc+1+Ty b+1))::(b.map Ua++[Ub])++j.map Ua=(code++cc.map Ua++Ua (aO.skip (Ty code+Ty cc+1+Ty b+1))::b.map Ua)++Ub::j.map Ua:=s_
  rw[s]at hq;have A:Ty ((code++cc.map Ua++Ua (aO.skip (Ty code+Ty cc+1+Ty b+1))::b.map Ua)++Ub::j.map Ua)=Ty code+Ty cc+1+Ty b+1+Ty j:=G_
  have t:Ty code+Ty cc+1+Ty b=Ty (code++cc.map Ua++Ua (aO.skip (Ty code+Ty cc+1+Ty b+1))::b.map Ua):=G_
  have:=hq.patch (Ty code+Ty cc+1+Ty b) t 408 (λn=>.jump n) (λ_ _=>aJ) aD
  grind [yL,sF]
 simp
def Jf(IH:SI fp fb fs cb lo d)(r:Ty fs<=1000000)(s:∀k,k<Ty fs->fp k=bF (fb k))(hsn:Ty e_<=90001)(l:Int)(b:Nat)(t v:aW)(c:aC)(lt:List aC)(code:List (Option aO))(w:aN)(h:CP fp fb (fs.map (·.x_)) cb F w code e_)
 (x:PN (rn lo cb) w t c) (ht:rP (rn lo cb) w v lt) (A:Hs.rk fs Uc e_ d c) (ho1:Hs.rp (cO fs d) e_ lt) (B:jX c) (hl1:∀a∈lt,jX a) (hn1:Ty lt<=1000000)
 (cc f:List aO) (p:aG fs e_ d c (Ty code)=cc) (hct:bK (aU fs d) e_ lt (Ty code+Ty cc+1)=f) (D:Ty code+Ty cc+1+Ty f+1<=1000000):
 Ue Un 253 #[bF cb,Us #[I_ l,t,v],I_ b] w λe z=>e=fD/\yL fp fb (fs.map (·.x_)) cb F w (code++(cc++[aO.skip (Ty code+Ty cc+1+Ty f+1)]++f++[aO.jump b]).map Ua) e_ z:=by
 obtain⟨j,g,rfl⟩:=x.form;obtain⟨o,m,rfl⟩:=ht.s5;have q:=h.yp (cD #[I_ l,dH j (Us g),P_ o (Ty lt) m] 336)
 refine(Ij w cb (Ty code+Ty cc) b l j (Us g) o (Ty lt) m
  (λW=>yL fp fb (fs.map (·.x_)) cb F w ((code++cc.map Ua)++Ua (aO.skip (Ty code+Ty cc+1+Ty f+1))::(f.map Ua++[Ua (aO.jump b)])) e_ W)
  (sF fp fb (fs.map (·.x_)) cb F w w (H_ w) (cD #[I_ l,dH j (Us g),P_ o (Ty lt) m] 336) e_ (code++cc.map Ua))
  (sF fp fb (fs.map (·.x_)) cb F w w (H_ w) (cD #[I_ l,dH j (Us g),P_ o (Ty lt) m] 336) e_ (code++cc.map Ua++[Ub]))
  (sF fp fb (fs.map (·.x_)) cb F w w (H_ w) (cD #[I_ l,dH j (Us g),P_ o (Ty lt) m] 336) e_ (code++cc.map Ua++[Ub]++f.map Ua))
  (sF fp fb (fs.map (·.x_)) cb F w w (H_ w) (cD #[I_ l,dH j (Us g),P_ o (Ty lt) m] 336) e_ (code++cc.map Ua++[Ub]++f.map Ua++[Ua (aO.jump b)]))
  ?_ (λW hq=>?_) (λW hq=>?_) (λW hq=>?_) (λW hq=>?_) λW hq=>?_).mono ?_
 .have:=q.wu r s hsn _ c x A B G_
  rw[p]at this;exact this
 .have:=hq.emit (u:=.nilIface) (i:=Ub) (λ_=>aJ) G_
  rw[rZ]at this;exact this
 .grind [aA,sF.box]
 .exact TE
 .have hcl:Ty (code++cc.map Ua++[Ub]++f.map Ua)=Ty code+Ty cc+1+Ty f:=G_
  apply (hq.emit (u:=dH 408 (Us #[I_ b])) (i:=Ua (aO.jump b)) (λ_=>aJ) aD).mono
  grind
 .have y:code++cc.map Ua++[Ub]++f.map Ua++[Ua (aO.jump b)]=(code++cc.map Ua)++Ub::(f.map Ua++[Ua (aO.jump b)]):=s_
  rw[y]at hq;have C:Ty ((code++cc.map Ua)++Ub::(f.map Ua++[Ua (aO.jump b)]))=Ty code+Ty cc+1+Ty f+1:=G_
  have:=hq.patch (Ty code+Ty cc) s_ 407 (λn=>.skip n) (λ_ _=>rfl) aD
  grind [yL,sF]
 simp
end
section
variable {fp:iU} {fb:Nat->Nat} {fs:List aC} {cb lo:Nat} {d:Nat}
def ua.ok.below{w a:aN}{p:ua}(h:ua.ok (rn lo cb) w p)(e:Below cb w a):ua.ok (rn lo cb) a p:=by
 rcases h with ⟨d,b,c,f⟩|⟨d,c⟩
 .exact ed (by grind [PN.below])
 exact ec ⟨d,rP.below c e⟩
def iF.yp{F:bN}{b:cY}{d:cY}{w W:aN}{a:List (Option aO)}(h:iF fp fb d cb F w a b W)(o:Obj):sF fp fb d cb F w W (H_ W) o b a (W.alloc o):=by obtain⟨c,e⟩:=h.1.new o;exact⟨F,s_,⟨e,h.2.trans c.fb⟩,c⟩
def L_(IH:SI fp fb fs cb lo d)(P:Ty fs<=1000000)(O:∀k,k<Ty fs->fp k=bF (fb k)):SI fp fb fs cb lo (d+1):=by
 intro F f v a g w h ar ae E Q q;obtain⟨T,cs,ps,rfl,au,C⟩:=ar.parts;obtain⟨fv,cv,sp,U,_,h4,_⟩:=h.i_;obtain⟨p,rfl⟩:=h4.form;have K:=h.lt;have N:=aA (i:=2) U aJ
 have M:Ty g+1<=1000000->Ue Un 150 #[bF cb,dH 276 (Us #[I_ a.l_,Ut p])] (eH w.drew #[I_ a.l_] 177) λe w'=>e=bY (I_ (Ty g))/\iF fp fb (fs.map (·.x_)) cb F w (g++[Ua (.begin a.l_ f)]) f w':=λhn=>by
  have hb:R_ w (eH w.drew #[I_ a.l_] 177):=((dz _ w).drew).alloc mJ _;have h':=h.grow hb;apply (xD (o:=Ua (.begin a.l_ f)) h' ⟨_,aJ,gQ.h_ (λb ap=>hb.block b (h.fix b ap).1) (s_) h4⟩ aD).mono
  rintro e w' ⟨Y,q1,q2⟩;exact⟨Y,q1,(FB.of_lt hb K).trans q2⟩
 have al:Ty (g++[Ua (aO.begin a.l_ f)])=Ty g+1:=s_
 have aa:Ty f<=1000000:=aD;have no:∀{x y:bP} {p:Prop},a.op=x->x≠y->a.op=y->p:=(by grind)
 rcases au with ⟨_,_,_,n,_⟩|⟨_,_,n,_⟩|⟨_,_,n,_⟩|⟨_,_,_,n,_⟩|⟨_,_,_,n,_⟩|⟨_,_,n,_⟩|⟨_,_,_,_,_,_,_,n,_⟩|⟨_,o,_,_,_,ay,n,_⟩|⟨_,_,_,_,_,_,_,n,_⟩|⟨rfl,X,t,r,rfl,n,m,rfl⟩|⟨rfl,sv,X,l,r,rfl,n,m,rfl⟩|⟨rfl,X,s1,r,H,rfl,n,ak,m,rfl⟩|⟨rfl,X,s1,s2,r,H,b2,rfl,n,ak,az,m,rfl⟩|⟨rfl,X,s1,r,H,rfl,n,ak,m,rfl⟩|⟨rfl,l,rfl,n,m,rfl⟩|⟨rfl,X,r,rfl,n,m,rfl⟩|⟨rfl,X,r,rfl,n,m,rfl⟩|⟨rfl,sv,c,rfl,n,am,aw,m,ab,rfl⟩
 iterate 7
  .exfalso;rcases ae with ⟨U,_⟩|⟨U,_⟩|⟨U,_⟩|⟨U,_⟩|⟨U,_⟩|⟨U,_⟩|⟨U,_⟩<;>exact no n d_ U
 .exfalso;grind [cO]
 .exfalso;rcases ae with ⟨U,_⟩|⟨U,_⟩|⟨U,_⟩|⟨U,_⟩|⟨U,_⟩|⟨U,_⟩|⟨U,_⟩<;>(rw[U]at n;exact n aJ)
 ·-- var
  have I:Hs.rk fs Uc f d r/\Ty f<=90000:=by grind [cO]
  have A:=Oo fs f d a (Ty g) t r n m;rw[A]at q ⊢
  simp only[ew,fk,fq]at q;have hp:=C ⟨X,[r],true⟩ s_
  obtain⟨L,z,rfl⟩:=hp.tf.form;have D:=E.tm (k:=r) nl
  refine(IG w cb (Ty g) a.l_ p t.l_ (bs t.x_) L (Us z) (Ty f) (λW=>yL fp fb (fs.map (·.x_)) cb F w (g++(aO.begin a.l_ f::aG fs f d r (Ty g+1)++[aO.declare (Ty f)]).map Ua) (t.x_::f) W) _
   (λb W=>∃J,sF fp fb (fs.map (·.x_)) cb F w J b (cD #[I_ a.l_,I_ t.l_,Q_ (bs t.x_),dH L (Us z)] 329) f ((g++[Ua (.begin a.l_ f)])++(aG fs f d r (Ty g+1)).map Ua) W)
   (λb W=>∃J,sF fp fb (fs.map (·.x_)) cb F w J b (cD #[I_ a.l_,I_ t.l_,Q_ (bs t.x_),dH L (Us z)] 329) f ((g++[Ua (.begin a.l_ f)])++(aG fs f d r (Ty g+1)).map Ua++[Ua (.declare (Ty f))]) W)
   K N (M aD) (λW s=>?_) (λb W s=>?_) (λb W s=>?_) (λb W s=>?_) λb W s=>?_)
  .apply ((s.yp _).wu P O Q _ r hp.tf I.1 D G_).mono
   grind
  .obtain⟨J,G,Z,j,_⟩:=s;exact WZ j.1 aa
  .obtain⟨J,s⟩:=s;apply (s.emit (u:=dH 368 (Us #[I_ (Ty f)])) (i:=Ua (.declare (Ty f))) (λ_=>aJ) G_).mono
   rintro e w' ⟨Y,h2⟩;exact⟨⟨_,Y⟩,J,h2⟩
  .grind [aA,sF.box]
  obtain⟨J,G,Z,j,_⟩:=s;apply (U6 t.x_ j.1 aa).mono
  rintro e w' ⟨Y,q1,q2⟩;refine⟨Y,λk=>G k\/k=H_ W,G_,?_,j.2.trans q2⟩
  grind
 ·-- an assignment
  have I:a.x_∈f/\∀k∈a.y_,Hs.rk fs Uc f d k:=by grind [cO]
  have A:=Iv fs f d a (Ty g) n;have aq:Ty (l++[r])-1=Ty l:=s_
  rw[m,sK,IL]at A;rw[aq]at A;rw[A]at q ⊢
  simp only[ew,fk,fq]at q;have hp:=C ⟨sv,l,Uc⟩ s_
  have B:=C ⟨X,[r],true⟩ s_
  obtain⟨L,z,rfl⟩:=B.tf.form;obtain⟨x,c,rfl⟩:=hp.many.s5;have ao:=E.len;rw[m,ew]at ao;generalize bb:bB (aG fs f d) l (Ty g+1)=q1 at*;generalize ax:aG fs f d r (Ty g+1+Ty q1)=q2 at*
  refine(LL w cb (Ty g) a.l_ p (bs a.x_) x (Ty l) c (dQ f a.x_) L (Us z) (λW=>yL fp fb (fs.map (·.x_)) cb F w (g++(aO.begin a.l_ f::(q1++q2)++[aO.assign (dQ f a.x_) (Ty l)]).map Ua) f W) _
   (λb W=>∃J,sF fp fb (fs.map (·.x_)) cb F w J b (cD #[I_ a.l_,Q_ (bs a.x_),P_ x (Ty l) c,dH L (Us z)] 332) f ((g++[Ua (.begin a.l_ f)])++q1.map Ua) W)
   (λb W=>∃J,sF fp fb (fs.map (·.x_)) cb F w J b (cD #[I_ a.l_,Q_ (bs a.x_),P_ x (Ty l) c,dH L (Us z)] 332) f ((g++[Ua (.begin a.l_ f)])++q1.map Ua++q2.map Ua) W)
   K N (M aD) (λW s=>?_) (λb W s=>?_) (λb W s=>?_) (λb W s=>?_) (λb W W' s hS=>?_) λb W W' s hS=>?_)
  .apply ((s.yp _).Bf P O Q _ l hp.many (λk hk=>I.2 k (by rw[m];simp[hk])) ((by grind [jX.tm])) aD G_).mono
   grind
  .grind [aA,sF.box]
  .obtain⟨J,s⟩:=s;have av:Ty ((g++[Ua (aO.begin a.l_ f)])++q1.map Ua)=Ty g+1+Ty q1:=G_
   apply (s.wu P O Q _ r B.tf (I.2 r nl) (E.tm G_) G_).mono
   grind
  .grind [aA,sF.box]
  .obtain⟨J,G,Z,j,_⟩:=s;exact UL a.x_ (j.1.grow hS.below) I.1 aa
  obtain⟨J,G,Z,j,hL⟩:=s;have ag:iF fp fb (fs.map (·.x_)) cb G w ((g++[Ua (.begin a.l_ f)])++q1.map Ua++q2.map Ua) f W':=⟨j.1.grow hS.below,j.2.trans (FB.of_lt hS.below j.1.lt)⟩
  apply (tg (i:=.assign (dQ f a.x_) (Ty l)) ag aJ G_).mono
  grind [yL]
 ·-- if,without else
  have I:Hs.rk fs Uc f d r/\Hs.rp (cO fs d) f H.y_:=by grind [cO]
  have A:=K_ fs f d a (Ty g) r H n m;rw[A]at q ⊢
  have B:=C ⟨X,[r],true⟩ s_
  have S:=C ⟨s1,H.y_,Uc⟩ s_
  have D:=E.tm (k:=r) nl
  have V:=E.tm (k:=H) nl
  obtain⟨L,z,rfl⟩:=B.tf.form;obtain⟨x,c,rfl⟩:=S.many.s5;generalize ai:aG fs f d r (Ty g+1)=cc at*;generalize aj:bK (aU fs d) f H.y_ (Ty g+1+Ty cc+1)=ct at*;simp only[ew,fk,fq]at q;refine NI w cb (Ty g) a.l_ p L (Us z) x Ub (Ty H.y_) 0 c 0 _ _ K N (M aD) (λW s=>?_)
  obtain⟨G,Z,j,_⟩:=s.yp (cD #[I_ a.l_,dH L (Us z),P_ x (Ty H.y_) c,bO] 334);apply (FK (d:=d) IH P O Q a.l_ _ _ _ r H.y_ [] _ _ j.1 (B.tf.below j.2.re) (S.many.below j.2.re) (ed s_) I.1 I.2 trivial D (λk hk=>V.tm hk) (s_) V.len s_ cc ct [] G_ G_ rfl G_).mono
  grind [yL.then,yL,iF]
 ·-- if,with else
  have I:Hs.rk fs Uc f d r/\Hs.rp (cO fs d) f H.y_/\Hs.rp (cO fs d) f b2.y_:=by grind [cO]
  have A:=Jw fs f d a (Ty g) r H b2 n m;rw[A]at q ⊢
  have B:=C ⟨X,[r],true⟩ s_
  have S:=C ⟨s1,H.y_,Uc⟩ s_
  have ac:=C ⟨s2,b2.y_,Uc⟩ s_
  have D:=E.tm (k:=r) nl
  have V:=E.tm (k:=H) nl
  have ad:=E.tm (k:=b2) nl
  obtain⟨L,z,rfl⟩:=B.tf.form;obtain⟨x,c,rfl⟩:=S.many.s5;obtain⟨x2,af,rfl⟩:=ac.many.s5;generalize ai:aG fs f d r (Ty g+1)=cc at*;generalize aj:bK (aU fs d) f H.y_ (Ty g+1+Ty cc+1)=ct at*;generalize bc:bK (aU fs d) f b2.y_ (Ty g+1+Ty cc+1+Ty ct+1)=ce at*;simp only[ew,fk,fq]at q;refine NI w cb (Ty g) a.l_ p L (Us z) x x2 (Ty H.y_) (Ty b2.y_) c af _ _ K N (M aD) (λW s=>?_)
  obtain⟨G,Z,j,_⟩:=s.yp (cD #[I_ a.l_,dH L (Us z),P_ x (Ty H.y_) c,P_ x2 (Ty b2.y_) af] 334);apply (FK (d:=d) IH P O Q a.l_ _ _ _ r H.y_ b2.y_ _ _ j.1 (B.tf.below j.2.re) (S.many.below j.2.re) (ac.many.below j.2.re) I.1 I.2.1 I.2.2 D (λk hk=>V.tm hk) (λk hk=>ad.tm hk) V.len ad.len cc ct ce G_ G_ G_ aD).mono
  rintro e w' ⟨Y,h2⟩;refine⟨Y,?_⟩;have h3:=(h2.then j.2).more Z
  rw[al]at h3;grind
 ·-- while
  have I:Hs.rk fs Uc f d r/\Hs.rp (cO fs d) f H.y_:=by grind [cO]
  have A:=o8 fs f d a (Ty g) r H n m;rw[A]at q ⊢
  have B:=C ⟨X,[r],true⟩ s_
  have S:=C ⟨s1,H.y_,Uc⟩ s_
  have D:=E.tm (k:=r) nl
  have V:=E.tm (k:=H) nl
  obtain⟨L,z,rfl⟩:=B.tf.form;obtain⟨x,c,rfl⟩:=S.many.s5;generalize ai:aG fs f d r (Ty g+1)=cc at*;generalize aj:bK (aU fs d) f H.y_ (Ty g+1+Ty cc+1)=ct at*;simp only[ew,fk,fq]at q;refine PW w cb (Ty g) a.l_ p L (Us z) x (Ty H.y_) c _ _ K N (M aD) (λW s=>?_)
  obtain⟨G,Z,j,_⟩:=s.yp (cD #[I_ a.l_,dH L (Us z),P_ x (Ty H.y_) c] 336);apply (Jf (d:=d) IH P O Q a.l_ (Ty g) _ _ r H.y_ _ _ j.1 (B.tf.below j.2.re) (S.many.below j.2.re) I.1 I.2 D (λk hk=>V.tm hk) V.len cc ct G_ G_ aD).mono
  grind [yL.then,yL,iF]
 ·-- return,without a value
  have A:=UF fs f d a (Ty g) n m;rw[A]at q ⊢
  simp only[fk,fq]at q;refine yO w cb (Ty g) a.l_ p _ _ _ _ (λW=>yL fp fb (fs.map (·.x_)) cb F w ((g++[Ua (aO.begin a.l_ f)])++[Ua (.push (bA 0))]) f W) K N (M aD) (λW s=>?_) (λW s=>?_)
  .obtain⟨G,Z,j,_⟩:=s.yp (cD #[I_ a.l_,dH 365 (Us #[I_ l,I_ 0])] 338);obtain⟨G2,ba,ah,_⟩:=j.yp (cD #[I_ l,I_ 0] 365);apply (yU _ cb l 0 _ (tg (i:=.push (bA 0)) ah (by grind [PV.num,uO,lR]) aD)).mono
   grind [yL]
  obtain⟨G,Z,j⟩:=s;apply (tg (i:=.sg) j aJ G_).mono
  grind [yL]
 ·-- return
  have I:Hs.rk fs Uc f d r:=by grind [cO]
  have A:=UE fs f d a (Ty g) r n m;rw[A]at q ⊢
  have B:=C ⟨X,[r],true⟩ s_
  have D:=E.tm (k:=r) nl
  obtain⟨L,z,rfl⟩:=B.tf.form;simp only[ew,fk,fq]at q;refine yO w cb (Ty g) a.l_ p _ _ _ _ (λW=>∃J,sF fp fb (fs.map (·.x_)) cb F w J (H_ J) (cD #[I_ a.l_,dH L (Us z)] 338) f ((g++[Ua (aO.begin a.l_ f)])++(aG fs f d r (Ty g+1)).map Ua) W) K N (M aD) (λW s=>?_) (λW s=>?_)
  .apply ((s.yp _).wu P O Q _ r B.tf I D G_).mono
   grind
  obtain⟨J,s⟩:=s;apply (s.emit (u:=dH 267 (Us #[])) (i:=Ua .sg) (λ_=>aJ) G_).mono
  rintro e w' ⟨Y,h2⟩;refine⟨⟨_,Y⟩,?_⟩;grind [yL,sF]
 ·-- print
  have I:Hs.rk fs Uc f d r:=by grind [cO]
  have A:=o9 fs f d a (Ty g) r n m;rw[A]at q ⊢
  have B:=C ⟨X,[r],true⟩ s_
  have D:=E.tm (k:=r) nl
  obtain⟨L,z,rfl⟩:=B.tf.form;simp only[ew,fk,fq]at q;refine PX w cb (Ty g) a.l_ p _ _ _ _ (λW=>∃J,sF fp fb (fs.map (·.x_)) cb F w J (H_ J) (cD #[I_ a.l_,dH L (Us z)] 339) f ((g++[Ua (aO.begin a.l_ f)])++(aG fs f d r (Ty g+1)).map Ua) W) K N (M aD) (λW s=>?_) (λW s=>?_)
  .apply ((s.yp _).wu P O Q _ r B.tf I D G_).mono
   grind
  obtain⟨J,s⟩:=s;apply (s.emit (u:=dH 373 (Us #[])) (i:=Ua .print) (λ_=>aJ) G_).mono
  rintro e w' ⟨Y,h2⟩;refine⟨⟨_,Y⟩,?_⟩;grind [yL,sF]
 have I:Hs.rk fs Uc f d c:=by grind [cO]
 have A:=Gn fs f d a (Ty g) c n m;rw[A]at q ⊢
 rw[<-am];have hp:=C ⟨sv,c.y_,Uc⟩ s_
 have D:=E.tm (k:=c) nl
 obtain⟨x,cp,rfl⟩:=hp.many.s5;simp only[ew,fk,fq]at q;refine UC w cb (Ty g) a.l_ p _ _ _ _ _ _ (λW=>yL fp fb (fs.map (·.x_)) cb F w ((g++[Ua (aO.begin a.l_ f)])++(aG fs f d c (Ty g+1)).map Ua) f W) K N (M aD) (λW s=>?_) (λW s=>?_)
 .cases d with
  |zero=>exact I.elim
  |succ d=>
   obtain⟨G,Z,j,_⟩:=s.yp (cD #[I_ a.l_,Q_ (bs c.x_),P_ x (Ty c.y_) cp] 341);apply (Gr ((by grind [yA])) P O c _ a.l_ _ _ j.1 ab (hp.many.below j.2.re) I (D _) G_).mono
   rintro e w' ⟨Y,h2⟩;rw[al]at h2;exact⟨Y,G,Z,h2.then j.2⟩
 obtain⟨G,Z,j⟩:=s;apply (tg (i:=.drop) j aJ G_).mono
 grind [yL]
def X6(a:Ty fs<=1000000)(b:∀k,k<Ty fs->fp k=bF (fb k)):∀d,SI fp fb fs cb lo d
 |0=>(by grind [SI,cO])
 |d+1=>L_ (X6 a b d) a b
end
def Hf(w:aN)(a:Nat)(l:Int)(N:ByteArray)(t p:Option Addr)(d L r s:Nat)(P:Uf->Ug->Prop)(I:Nat->Ug->Prop)(Q R S:mL)(hl:a<H_ w)(X:d<=1000000)
 (z:∃u,dP w a 1 u) (A:∃u,dP w a 2 u) (f1:w.frozen? (aL a 1)=Uc) (f2:w.frozen? (aL a 2)=Uc)
 (HI:Hid (I 0 (eH (Tz (Tz w (aL a 1) (bO)) (aL a 2) (Ut Ub)) #[I_ l,Q_ N,P_ t d L,P_ p r s] 183)))
 (HP:Hid (∀j W,I j W->j<d->∃g F o,t=Ua (aL g 0)/\g<H_ W/\dP W g (j*2) (I_ F)/\dP W g (j*2+1) (Q_ o)/\Ue Un 148 #[bF a,Q_ o] (eH W #[I_ F,Q_ o] 179) λe f=>e=fD/\I (j+1) f))
 (HB:Hid (∀W,I d W->dP W (H_ w) 3 (P_ p r s)/\H_ w<H_ W/\Ue Un 149 #[bF a,P_ p r s] W λe f=>e=fD/\Q f))
 (HE:Hid (∀W,Q W->Ue Un 150 #[bF a,dH 265 (Us #[dH 261 (I_ 0)])] W λe f=>(∃k:Nat,e=bY (I_ k))/\R f))
 (Z:Hid (∀W,R W->Ue Un 150 #[bF a,dH 267 (Us #[])] W λe f=>(∃k:Nat,e=bY (I_ k))/\S f))
 (HS:Hid (∀W,S W->a<H_ W/\∃x n c,dP W a 1 (P_ x n c)/\P (P_ x n c) W)):
 Ue Un 90 #[bF a,Us #[I_ l,Q_ N,P_ t d L,P_ p r s]] w λe f=>∃H,e=bY H/\P H f:=by
 obtain⟨u1,z⟩:=z;obtain⟨u2,A⟩:=A;have U:¬a=H_ w:=aD;have M:¬(H_ w)=a:=aD;go_in
 go_wp2
 go_loopg [6,16] d (λgk _ i wr=>∃j:Nat,j+gk=d/\i=I_ j/\I j wr)
 case atStart=>grind [d7]
 case round=>
  obtain⟨j,hj,rfl,q⟩:=hrel;clear z A f1 f2 HI;by_cases v:j<d
  .obtain⟨m,rfl⟩:∃m,gk=m+1:=⟨gk-1,aD⟩;obtain⟨g,F,o,rfl,hg,J,T,b⟩:=HP _ _ q v;have E:=aB b;have e1:(0:Int)<=(j:Int):=aD;have e2:(j:Int)<(d:Int):=aD;clear q b;go_wp2_with fail;refine rf E λV y=>?_
   go_wp2
   go_roundg m
   case measure=>exact aD
   grind
  have B:j=d:=aD;subst B;obtain⟨J,T,b⟩:=HB _ q;have E:=aB b;clear q b;go_wp2_with fail;refine rf E λV y=>?_
  have D:=aB (HE _ y);clear y J;go_wp2_with fail;apply D.mono
  rintro e w2 ⟨⟨k,rfl⟩,G⟩;have C:=aB (Z _ G);clear G;go_wp2_with fail;apply C.mono
  rintro e w3 ⟨⟨k2,rfl⟩,K⟩;obtain⟨g1,x,n,c,g2,O⟩:=HS _ K;have Y:=aB O;clear K O;go_wp2
  go_ret;exact⟨_,aJ,Y⟩
def Qy:(prog.info? 104).map (λi=>(i.zero,i.size,i.bytes))=Ua (Ua (Ut Ub),1,8):=k_
def RR(w:aN)(q n ae:Nat)(P:Uf->Ug->Prop)(I:Nat->Ug->Prop)(K:Nat->Ug->Prop)(hn:n<=1000000)
 (H0:Hid (I 0 (T6 w (Uy #[bO,bO,Ut Ub] 196))))
 (Y:Hid (∀j W,I j W->j<n->H_ w<H_ W/\q<H_ W/\∃l t A y s r z o x c M O L,T_ W (aL q (j*4))=Ua (I_ l)/\T_ W (aL q (j*4+1))=Ua (Ur t)/\T_ W (aL q (j*4+1+1))=Ua (Uq A y s)/\T_ W (aL q (j*4+1+1+1))=Ua (Uq r z o)/\
   W.heap[H_ w]?=Ua (Uy #[Uq x j c,O,L] 196)/\W.ownsRow (H_ w+1) 104 1 (Uq x j c) j M/\
   ∀W3 G d E,W3=T6 (T6 (T6 W (Uy #[I_ l,Ur t,Uq A y s,Uq r z o] 183)) (Uy #[Ur t,bO] 198)) (Uy #[bF (H_ W+1)] 104)->
    E.ownsRow (H_ w+1) 104 1 (Uq (Ua (aL G 0)) (j+1) d) (j+1) (M++[bF (H_ W+1)])->W3.grownBy E (Value.slice x j c).ownBlock->((Value.slice x j c).ownBlock=Ua G\/G=H_ W+3)->E.heap[H_ w]?=Ua (Uy #[Uq x j c,O,L] 196)->I (j+1) (Tz E (aL (H_ w) 0) (Uq (Ua (aL G 0)) (j+1) d))))
 (J:Hid (∀W,I n W->K 0 W))
 (H2:Hid (∀j W,K j W->j<n->H_ w<H_ W/\q<H_ W/\∃l t A y s r z o g c fb,T_ W (aL q (j*4))=Ua (I_ l)/\T_ W (aL q (j*4+1))=Ua (Ur t)/\T_ W (aL q (j*4+1+1))=Ua (Uq A y s)/\T_ W (aL q (j*4+1+1+1))=Ua (Uq r z o)/\
   W.cell? (aL (H_ w) 0)=Ua (Uq (Ua (aL g 0)) n c)/\g<H_ W/\T_ W (aL g j)=Ua (bF fb)/\
   ∀W',bV (T6 W (Uy #[I_ l,Ur t,Uq A y s,Uq r z o] 183)) W'->Ue Un 90 #[bF (H_ w),Us #[I_ l,Ur t,Uq A y s,Uq r z o]] W' λe f=>∃x n3 c3,e=bY (Uq x n3 c3)/\
    (H_ w)<H_ f/\(∃Q o,T_ f (aL (H_ w) 0)=Ua (Uq (Ua (aL Q 0)) n o)/\Q<H_ f/\T_ f (aL Q j)=Ua (bF fb))/\g<H_ f/\T_ f (aL g j)=Ua (bF fb)/\fb<H_ f/\(∃u,T_ f (aL fb 1)=Ua u)/\f.frozen? (aL fb 1)=Uc/\K (j+1) (Tz f (aL fb 1) (Uq x n3 c3))))
 (H3:Hid (∀W,K n W->Ue Un 91 #[bF (H_ w),Ur ⟨#[109,97,105,110]⟩] W λe f=>∃v,e=bY (Ut v)/\P (Ut v) f)):
 Ue Un 52 #[Uq (Ua (aL q 0)) n ae] w λe f=>∃v,e=bY v/\P v f:=by
 obtain⟨i0,hi,aa,af,ac⟩:=info_parts Qy;go_in
 go_wp2
 go_loopg [5,10] n (λgk _ i wr=>∃j:Nat,j+gk=n/\i=I_ j/\I j wr)
 case atStart=>exact⟨0,aD,rfl,H0⟩
 case round=>
  obtain⟨j,hj,rfl,B⟩:=hrel;clear H0;by_cases F:j<n
  .obtain⟨m,rfl⟩:∃m,gk=m+1:=⟨gk-1,aD⟩;obtain⟨H,Z,l,t,A,y,s,r,z,o,x,c,M,O,L,d1,d2,d3,d4,N,V,U⟩:=Y _ _ B F;have HO:=aB V;have HB:=aB N;have HK:=aB U;have q0:=aA (i:=0) N aJ;have e1:(0:Int)<=(j:Int):=aD;have e2:(j:Int)<(n:Int):=aD;clear B N V U Y;have HN:Hid (∀W:aN,W.heap[H_ wr+1+1]?=Ua (Uy #[bF (H_ wr+1)] 104)->∀k v,([bF (H_ wr+1)]:List Uf)[k]?=Ua v->T_ W ((⟨H_ wr+1+1,0,Ub⟩:Addr).add k)=Ua v):=λW hW k v hk=>World.news_of_block hW k v aD
   have HL:Hid ((T6 (T6 (T6 wr (Uy #[I_ l,Ur t,Uq A y s,Uq r z o] 183)) (Uy #[Ur t,bO] 198)) (Uy #[bF (H_ wr+1)] 104)).heap[H_ wr+1+1]?=Ua (Uy #[bF (H_ wr+1)] 104)):=aZ _ _ s_ _
   have C:∀v∈([bF (H_ wr+1)]:List Uf),v.oneCell'=true:=λv hv=>by simp at hv;rw[hv];rfl
   have HONE:=aB C;clear C;go_wp2_with (at_builtin;refine wpList_append_lies _ r_ _ _ 193 r_ (H_ w+1) 104 i0 _ 1 8 underlying193 hi aa af ac rfl d_ (Uq x j c) j M r_ (((HO.alloc _).alloc _).alloc _) (aL (H_ wr+1+1) 0) 1 1 [_] r_ r_ (HN _ HL) HONE d_ kk aD kj (H_ wr+3) s_ ?_)
   intro G d E p b D ad;have T:Ua (H_ w)≠(Value.slice x j c).ownBlock:=λe=>by have:=(HO.lt _ e.symm).1;exact aD
   have a:E.heap[H_ w]?=Ua (Uy #[Uq x j c,O,L] 196):=by rw[b.block _ kj T,eh _ _ _ kj,eh _ _ _ kj,eh _ _ _ H];exact HB
   have ah:=aA (i:=0) a aJ;have aj:=aF a (i:=0);have ag:=aH a;have HFIN:=aB (HK _ G d E aJ p b D a);clear p b D a ad q0 d1 d2 d3 d4;go_wp2
   go_roundg m
   case measure=>exact aD
   case rel=>exact⟨j+1,aD,la,HFIN⟩
  have X:j=n:=aD;subst X;have ab:=aB (J _ B);clear B J Y;go_wp2
  go_loopg [6,7,27] j (λgk _ _ i wr=>∃k:Nat,k+gk=j/\i=I_ k/\K k wr)
  case atStart=>grind [d7]
  case round=>
   obtain⟨k,ak,rfl,B⟩:=hrel;clear ab;by_cases F:k<j
   .obtain⟨m,rfl⟩:∃m,gk=m+1:=⟨gk-1,aD⟩;obtain⟨H,Z,l,t,A,y,s,r,z,o,g,c,fb,d1,d2,d3,d4,N,V,U,d8⟩:=H2 _ _ B F;have HX:=aB (d8 _ (bV.drew _));have e1:(0:Int)<=(k:Int):=aD;have e2:(k:Int)<(j:Int):=aD;clear B d8 H2 H3;go_wp2
    go_region_law (go_simp;go_at_call 90;apply HX.mono;rintro e w1 ⟨x,n3,c3,rfl,a1,⟨Q,ai,b1,b2,b3⟩,a3,a4,a5,⟨u,a6⟩,a7,a8⟩;have HF:=aB a8;clear a8)
    all_goals
     go_wp2
     go_roundg m
     case measure=>exact aD
     case rel=>exact⟨k+1,aD,la,HF⟩
   have S:k=j:=aD;subst S;have HX:=aB (H3 _ B);clear B H2 H3;go_wp2_with fail;apply HX.mono
   rintro e w1 ⟨v,rfl,h1⟩;have HF:=aB h1;clear h1;go_wp2
   go_ret;exact⟨_,aJ,HF⟩
section
variable {fp:iU} {fb:Nat->Nat} {fs:List aC} {cb lo d:Nat} {F:bN}
def CQ(fp:iU)(fb:Nat->Nat)(nms:cY)(cb:Nat)(F:bN)(w:aN):Prop:=
 (∃fv cv sp,w.heap[cb]?=Ua (Uy #[fv,cv,sp] 196)/\FN fp fb nms F w fv)/\∀k,F k->k<w.heap.size/\k≠cb
def OL(c:List aC)(d:Nat){f b:aC}{a:List aC}(e:f.y_=a++[b]):(fR c d f).code=bK (aU c d) (a.map (·.x_)).reverse b.y_ 0++[.push (bA 0),.sg]:=by simp[fR,e]
def Ph(ae:Ty fs<=1000000)(ab:∀k,k<Ty fs->fp k=bF (fb k)){w:aN}(h:CQ fp fb (fs.map (·.x_)) cb F w)(f:aC)(v:aW)(hv:CN (rn lo cb) w v f)(V:gX fs d f)(af:∀k∈f.y_,jX k)(I:Ty f.y_<=90000):
 Ue Un 90 #[bF cb,v] w λe o=>∃N,e=bY N/\∃G n,(∀k,F k->G k)/\CP fp fb (fs.map (·.x_)) cb G o ((fR fs d f).code.map Ua) n/\T_ o (aL cb 1)=Ua N/\Below cb w o/\∀k,F k->o.heap[k]?=w.heap[k]?:=by
 obtain⟨⟨fv,ao,ax,g,E⟩,ak⟩:=h;obtain⟨pv,bv,ps,b,rfl,Z,D,ap,L⟩:=hv;obtain⟨P,pc,rfl⟩:=D.slice;obtain⟨O,S,rfl⟩:=L.s5;obtain⟨⟨c,r,an,Y,_⟩,u⟩:=V
 obtain⟨rfl,U⟩:c=ps/\r=b:=by grind [List.append_inj']
 subst U;rw[OL fs d Z]at u ⊢
 simp only[ew,fk,fq]at u;rw[Z]at I;simp only[ew,fk,fq]at I;have ag:=aH g;obtain⟨m,H⟩:∃m,m=Tz (Tz w (aL cb 1) (bO)) (aL cb 2) (Ut Ub):=(by simp)
 have C:Below cb w m:=by grind [Below.setCell,dz]
 have T:m.heap.size=w.heap.size:=by rw[H];simp
 have al:∀k,k≠cb->m.heap[k]?=w.heap[k]?:=(by grind [em])
 have Q:∀k,F k->m.heap[k]?=w.heap[k]?:=(by grind)
 have y:m.heap[cb]?=Ua (Uy #[fv,bO,Ut Ub] 196):=by rw[H,aP (aP g)];rfl
 have J:CP fp fb (fs.map (·.x_)) cb F m [] []:=by
  refine⟨⟨fv,_,_,y,⟨[],World.ownsRow_nil _ _ _ _,aJ,s_⟩,rfl,E.h_ Q (s_) aD⟩,λk Z=>⟨G_,G_,?_⟩⟩
  grind [Value.ownBlock,lT]
 obtain⟨aa,am⟩:=J.new (Uy #[I_ f.l_,Ur (bs f.x_),Uq P (Ty c) pc,Uq O (Ty r.y_) S] 183);rw[T]at aa
 refine(Hf w cb f.l_ (bs f.x_) P O (Ty c) pc (Ty r.y_) S (λN o=>∃G n,(∀k,F k->G k)/\CP fp fb (fs.map (·.x_)) cb G o ((bK (aU fs d) (c.map λa=>a.x_).reverse r.y_ 0++[aO.push (bA 0),aO.sg]).map Ua) n/\T_ o (aL cb 1)=Ua N/\Below cb w o/\∀k,F k->o.heap[k]?=w.heap[k]?)
  (λj W=>∃G,(∀k,F k->G k)/\CP fp fb (fs.map (·.x_)) cb G W [] ((c.take j).map λa=>a.x_).reverse/\Loc cb cb m w.heap.size (Uy #[I_ f.l_,Ur (bs f.x_),Uq P (Ty c) pc,Uq O (Ty r.y_) S] 183) W)
  (λW=>∃G n,(∀k,F k->G k)/\iF fp fb (fs.map (·.x_)) cb G m ((bK (aU fs d) (c.map λa=>a.x_).reverse r.y_ 0).map Ua) n W)
  (λW=>∃G n,(∀k,F k->G k)/\iF fp fb (fs.map (·.x_)) cb G m ((bK (aU fs d) (c.map λa=>a.x_).reverse r.y_ 0).map Ua++[Ua (aO.push (bA 0))]) n W)
  (λW=>∃G n,(∀k,F k->G k)/\iF fp fb (fs.map (·.x_)) cb G m ((bK (aU fs d) (c.map λa=>a.x_).reverse r.y_ 0).map Ua++[Ua (aO.push (bA 0))]++[Ua aO.sg]) n W)
  ag aD ⟨_,aA g rfl⟩ ⟨_,aA g rfl⟩ (aF g) (aF g) ?_ (λj W t X=>?_) (λW t=>?_) (λW t=>?_) (λW t=>?_) λW t=>?_)
 .show ∃G,_
  grind
 .obtain⟨G,M,s,z⟩:=t;rcases D.get with ⟨_,B⟩|⟨pg,aj,ai,K,av,aw,x⟩
  .rw[B]at X;simp at X
  cases ai;obtain⟨ah,ad⟩:=x j X;have q:Below cb w W:=C.trans z.fb.re;refine⟨pg,_,_,aJ,ej (aD) q.size,(q.cell (p:=(aL pg (j*2))) K.2).trans ah,(q.cell (p:=(aL pg (j*2+1))) K.2).trans ad,?_⟩;obtain⟨ac,A⟩:=s.new (Uy #[I_ c[j].l_,Ur (bs c[j].x_)] 179);apply (U6 c[j].x_ A G_).mono
  rintro e o ⟨he,q1,q2⟩;refine⟨he,λk=>G k\/k=(T6 W (Uy #[I_ c[j].l_,Ur (bs c[j].x_)] 179)).heap.size,G_,?_,z.step (ac.fb.trans q2)⟩
  grind [List.take_succ_eq_append_getElem]
 .obtain⟨G,M,s,z⟩:=t;rw[hQ (aD)]at s;have q:Below cb w W:=C.trans z.fb.re;refine⟨aA z.i_ aJ,aH z.i_,?_⟩;apply (vI (X6 ae ab d) _ r.y_ [] W s (L.below q) Y (λa ha=>(af r G_).tm ha) (by grind [jX.len]) G_ G_).mono
  rintro e o ⟨he,G2,ar,l⟩;exact⟨he,G2,_,G_,by simpa using l.then z.fb⟩
 .obtain⟨G,n,M,l⟩:=t;apply (tg (i:=.push (bA 0)) l (by grind [PV.num,uO,lR]) G_).mono
  grind
 .obtain⟨G,n,M,l⟩:=t;apply (tg (i:=.sg) l aJ G_).mono
  grind
 obtain⟨G,n,M,l⟩:=t;obtain⟨au,aq,ay,g1,⟨xs,g2,g3⟩,g4,g5⟩:=l.1.i_;grind [fW,aA,Below.trans,FB.re,CP.fixed,iF]
end
def PF(w:aN)(b:Nat):Prop:=∀c,w.heap[b]?≠Ua (Uy c 198)
def gQ.vy:∀{l:cY} {v:aW},gQ F W v l->gQ (λb=>F b/\PF W b) W v l
 |[],_,h=>h
 |_::_,_,⟨b,o,c,e,d,a⟩=>⟨b,o,c,(by grind [PF]),d,gQ.vy a⟩
def VR.vy:∀{d:Nat} {v:aW} {a:aE},VR d F W v a->VR d (λb=>F b/\PF W b) W v a
 |0,_,_,h=>h.elim
 |d+1,v,a,h=>by
  rcases h with h|h|h|⟨o,l,n,m,f⟩
  .exact ed h
  .exact ec (ed h)
  .grind [VR]
  refine ec (ec (ec ⟨o,l,n,m,?_⟩));rcases f with f|⟨g,c,e,r,x,s,t,k⟩
  .exact ed f
  refine ec ⟨g,c,e,r,(by grind [PF]),s,t,λi p=>?_⟩
  obtain⟨u,j,q⟩:=k i p;exact⟨u,j,VR.vy q⟩
theorem lR.vy{i:aO}(h:lR j F W L i):lR j (λb=>F b/\PF W b) W L i:=by
 cases i<;>first
  |exact h
  |(obtain⟨f,c,a⟩:=h;exact⟨f,c,a.vy⟩)
  |(obtain⟨u,c,⟨d,a⟩,g⟩:=h;exact⟨u,c,⟨d,a.vy⟩,g⟩)
def lR.A_{G:bN}{u:aW}{i:aO}{o:Nat}{c:Array Uf}(h:lR j F W L i)(d:W.heap[R]?=Ua (cD c 198))(e:∀R,F R->G R):lR j G (Tz W (aL R o) u) L i:=
 (by grind [lR.h_,lR.vy,em,PF])
section
variable {fp:iU} {fb:Nat->Nat} {nms:cY} {cb:Nat} {F:bN} {w:aN}
def RZ(a:bP)(h:CQ fp fb nms cb F w)(z:a∈nms)(K:Ty nms<=1000000):
 Ue Un 91 #[bF cb,Ur (bs a)] w λe q=>e=bY (fp (nms.findIdx λx=>x==a))/\q=w:=by
 obtain⟨⟨N,I,H,l,r⟩,_⟩:=h;rcases r with ⟨rfl,_⟩|⟨g,f,rfl,D,n,E,c⟩
 .cases z
 have J:=aH l;have O:=aA (i:=0) l aJ;have s:=aB c;go_in
 go_wp2
 go_loopg [6,12] (Ty nms) (λgk _ i wr=>∃j:Nat,j+gk=Ty nms/\i=I_ j/\j<=nms.findIdx (λx=>x==a)/\wr=w)
 case atStart=>simp
 case round=>
  obtain⟨j,M,rfl,C,rfl⟩:=hrel;have G:nms.findIdx (λx=>x==a)<Ty nms:=(by grind)
  have d:j<Ty nms:=aD;obtain⟨m,rfl⟩:∃m,gk=m+1:=⟨gk-1,aD⟩;obtain⟨A,o,L,x,B⟩:=s j d;rw[o]at A;have u:=aA (i:=0) B aJ;by_cases v:nms[j]=a
  .have k:nms.findIdx (λx=>x==a)=j:=by grind
   have t:=aB o;rw[v]at u;go_wp2
   go_ret;exact⟨by rw[k,t.out];rfl,rfl⟩
  have p:((bs nms[j]).toList==(bs a).toList)=Uc:=by grind [aX]
  have b:j+1<=nms.findIdx (λx=>x==a):=by grind
  generalize nms[j]=y at*;go_wp2
  go_roundg m
  case measure=>exact aD
  case rel=>exact⟨j+1,aD,la,b,rfl⟩
end
def sH(bl:List Nat)(k:Nat):Nat:=bl[k]?.getD 0
def MG(bl:List Nat)(k:Nat):Uf:=bF (sH bl k)
theorem XD{a:List Nat}(h:R<Ty a):sH a R=a[R]:=by simp[sH,h]
def A1(w:aN)(fs:List aC)(j:Nat)(W:aN):Prop:=
 ∃(x:Option Addr) (c:Nat) (bl:List Nat),j<=Ty fs/\W.heap[w.heap.size]?=Ua (Uy #[Uq x j c,bO,Ut Ub] 196)/\Ty bl=j/\W.ownsRow (w.heap.size+1) 104 1 (Uq x j c) j (bl.map λb=>bF b)/\bl.Nodup/\
  (∀i (h:i<Ty fs),∀b,bl[i]?=Ua b->W.heap[b]?=Ua (Uy #[Ur (bs fs[i].x_),bO] 198)/\w.heap.size<b/\b<W.heap.size/\(Value.slice x j c).ownBlock≠Ua b)/\R_ w W
def Bk(w:aN)(fs:List aC)(d j:Nat)(W:aN):Prop:=
 ∃(bl:List Nat) (F:bN),Ty bl=Ty fs/\(bl.Nodup/\∀b∈bl,w.heap.size<b)/\j<=Ty fs/\CQ (MG bl) (sH bl) (fs.map (·.x_)) w.heap.size F W/\R_ w W/\∀i (h:i<Ty fs),i<j->ZG (MG bl) F W (MG bl i) (fR fs d fs[i])
def A1.zero(w:aN)(a:List aC):A1 w a 0 (T6 w (Uy #[bO,bO,Ut Ub] 196)):=
 ⟨Ub,0,[],aD,aZ _ _ rfl _,rfl,World.ownsRow_nil _ _ _ _,List.nodup_nil,s_,lr⟩
theorem A1.next{v u:aN}{r:List aC}{j d:Nat}{x:Option Addr}{c:Nat}{g:List Nat}{K M:Obj}(N:j<Ty r)
 (o:Ty g=j) (z:g.Nodup) (s:∀i (h:i<Ty r),∀b,g[i]?=Ua b->W.heap[b]?=Ua (Uy #[Ur (bs r[i].x_),bO] 198)/\H_ w<b/\b<H_ W/\(Value.slice x j c).ownBlock≠Ua b) (t:R_ w W) (G:H_ w<H_ W)
 (n:W.ownsRow (H_ w+1) 104 1 (Uq x j c) j (g.map λb=>bF b))
 (A:v=(T6 (W.alloc K) (Uy #[Ur (bs r[j].x_),bO] 198)).alloc M)
 (E:u.ownsRow (H_ w+1) 104 1 (Uq (Ua (aL R 0)) (j+1) d) (j+1) ((g.map λb=>bF b)++[bF (H_ W+1)]))
 (f:v.grownBy u (Value.slice x j c).ownBlock) (I:(Value.slice x j c).ownBlock=Ua R\/R=H_ W+3)
 (C:u.heap[H_ w]?=Ua (Uy #[Uq x j c,bO,Ut Ub] 196)):
 A1 w r (j+1) (Tz u (aL (H_ w) 0) (Uq (Ua (aL R 0)) (j+1) d)):=by
 have H:H_ v=H_ W+3:=by rw[A];simp
 have L:=f.size;have p:R≠H_ w:=by have:=(E.lt R aJ).1;exact aD
 have D:R_ W v:=by rw[A];exact(((dz _ _).alloc (aD) _).alloc s_ _).alloc kj _
 refine⟨Ua (aL R 0),d,g++[H_ W+1],N,?_,by simp[o],?_,?_,λi F b m=>?_,?_⟩
 .rw[aP C];rfl
 .rw[fw];exact bC E λk J=>em _ _ _ _ (by cases J;exact p)
 .refine ja.2 ⟨z,s_,λa O b m=>?_⟩
  simp at m;obtain⟨i,F,rfl⟩:=jx O;have:=(s i aD _ (fe F)).2.2.1;exact aD
 .rcases gz i (Ty g) with q|q
  .grind [em,World.grownBy.block,eg,Value.ownBlock]
  rw[ip q]at m
  have y:i=j:=by grind
  subst y;rw[o,Nat.sub_self]at m;simp at m;subst m;have B:(Value.slice x i c).ownBlock≠Ua (H_ W+1):=λe=>by have:=(n.lt _ e).2;exact aD
  refine⟨?_,aD,kj,λe=>?_⟩
  .rw[em _ _ _ _ (G_),f.block _ aD (G_),A,eh _ _ _ s_]
   exact aZ _ _ s_ _
  grind [Value.ownBlock]
 refine((t.trans (D.mono aD)).trans ?_).setCell (s_) _
 exact⟨f.os,f.tape,f.output,aD,(by grind [World.grownBy.block,World.ownsRow.lt])⟩
def Ql(a:List aC)(k:Nat)(h:k<Ty (a.map (·.x_))):(a.map (·.x_))[k]=(a[k]'(by simpa using h)).x_:=s_
theorem SH(g j:Nat):(⟨g,0,Ub⟩:Addr).add j=⟨g,j,Ub⟩:=by grind [Addr.add]
def Bk.zero{f:List aC}(m:f≠[])(h:A1 w f (Ty f) W):Bk w f R 0 W:=by
 obtain⟨x,c,e,_,A,u,s,z,p,E⟩:=h;have hpos :=List.length_pos_iff.2 m;have a:=s;rcases s.2 with ⟨v,D⟩|⟨g,o,C,v,D,H,I,J⟩
 .exact aD
 obtain⟨rfl,rfl⟩:x=Ua (aL g 0)/\c=o:=G_
 have r:=a.lt g aJ;refine⟨e,λk=>k=g\/k∈e,u,⟨z,λb y=>?_⟩,aD,⟨⟨_,_,_,A,ec ⟨g,c,s_,ed rfl,G_,r.2,λk l=>?_⟩⟩,λk l=>?_⟩,E,aD⟩
 .obtain⟨i,q,rfl⟩:=jx y;exact(p i aD e[i] (fe q)).2.1
 .have n:k<Ty f:=G_
  have j:k<Ty e:=aD;obtain⟨t,B,F,G⟩:=p k n e[k] (fe j);refine⟨?_,aJ,(by grind [sH]),_,by rw[XD j,t,Ql]⟩
  have:=a.cells (g:=g) aJ k (MG e k) (by grind [MG,XD])
  grind [SH]
 rcases l with rfl|l
 .exact aD
 obtain⟨i,q,rfl⟩:=jx l;obtain⟨t,B,F,G⟩:=p i aD e[i] (fe q);exact aD
def Bk.next{l:aN}{a:List aC}{j:Nat}{c:List Nat}{G:bN}{sn:cY}(hj:j<Ty a)(H:Ty c=Ty a)(P:c.Nodup/\∀b∈c,H_ w<b)(Q:R_ w W)(s:∀i (h:i<Ty a),i<j->ZG (MG c) F W (MG c i) (fR a R a[i]))
 (O:∀k,F k->G k) (n:CP (MG c) (sH c) (a.map (·.x_)) (H_ w) G l ((fR a R a[j]).code.map Ua) sn) (ac:T_ l (aL (H_ w) 1)=Ua L) (ag:Below (H_ w) W l) (C:∀k,F k->l.heap[k]?=W.heap[k]?) (S:0<(fR a R a[j]).code.length):
 Bk w a R (j+1) (Tz l (aL (sH c j) 1) L):=by
 have ad:j<Ty c:=aD;obtain⟨fv,E,sp,h1,⟨xs,h2,Y⟩,h4,h5⟩:=n.i_
 obtain rfl:E=L:=by grind [aA]
 have y:j<Ty (a.map (·.x_)):=G_
 rcases h5 with ⟨e,_⟩|⟨g,N,rfl,k1,Z,k3,J⟩
 .grind
 obtain⟨m1,m2,U,x,A⟩:=J j y;have ae:=n.fix _ U;rcases h2.2 with ⟨_,r2⟩|⟨m,f,v,rfl,r2,r3,r4,r5,r6,r7⟩
 .grind
 have aa:m≠sH c j:=(by grind)
 have T:∀k (h:k<Ty (a.map (·.x_))),g≠sH c k:=λk r e=>by obtain⟨z1,z2,z3,z,X⟩:=J k r;obtain⟨y1,_⟩:=J 0 aD;have:=aA X (i:=0) aJ;grind
 have B:∀k,k≠sH c j->(Tz l (aL (sH c j) 1) (Uq (Ua (aL m 0)) (Ty ((fR a R a[j]).code.map Ua)) f)).heap[k]?=l.heap[k]?:=(by grind [em])
 have af:(Tz l (aL (sH c j) 1) (Uq (Ua (aL m 0)) (Ty ((fR a R a[j]).code.map Ua)) f)).heap[sH c j]?=Ua (Uy #[Ur (bs (a.map (·.x_))[j]),Uq (Ua (aL m 0)) (Ty ((fR a R a[j]).code.map Ua)) f] 198):=by rw[aP A];rfl
 have K:∀i (V:i<Ty c),i≠j->sH c i≠sH c j:=(by grind [List.getElem_inj,sH])
 refine⟨c,λk=>G k\/k=m,H,P,hj,⟨⟨_,_,_,by rw[B _ (aD)];exact h1,ec ⟨g,N,aJ,ed k1,Z,G_,λk r=>?_⟩⟩,λk r=>?_⟩,?_,λi V ab=>?_⟩
 .grind [World.cell?_of_block]
 .rcases r with r|rfl
  .grind [CP.fix]
  grind
 .grind [Below.setCell,Below.trans,List.getElem_mem,sH]
 by_cases o:i=j
 .subst o;refine⟨sH c i,m,f,v,aJ,ed U,?_,ec aJ,G_,λq M=>?_⟩
  .grind [fR]
  obtain⟨u,u1,u2⟩:=Y.2 q (Ua (fR a R a[i]).code[q]) (by simp[M])
  refine⟨u,?_,lR.A_ u2 A G_⟩
  grind
 obtain⟨D,I,t,p,a1,a2,a3,a4,a5,a6⟩:=s i V aD;obtain rfl:D=sH c i:=G_
 have b3 :=(C _ a2).trans a3;have b5 :=(C _ a4).trans a5;refine⟨sH c i,I,t,p,aJ,G_,G_,G_,G_,λq M=>?_⟩
 obtain⟨u,u1,u2⟩:=a6 q M;exact⟨u,u1,lR.A_ (u2.h_ C O) A G_⟩
def YJ{lo d:Nat}{a:List aC}(v:aW)(w:aN)(h:uj (rn lo w.heap.size) w v a)(ak:Ty a<=90000)(ai:∀f∈a,gX a d f)(am:∀f∈a,∀k∈f.y_,jX k)(an:∀f∈a,Ty f.y_<=90000)(hm:[109,97,105,110]∈a.map (·.x_)):
 Ue Un 52 #[v] w λe q=>∃fp F,e=bY (fp (dV a [109,97,105,110]))/\oD fp F q (dW a d)/\R_ w q/\∀k,F k->k<q.heap.size:=by
 have C:a≠[]:=(by grind)
 rcases h.cells with ⟨_,e⟩|⟨I,aa,rfl,ah,aj,ae,hc⟩
 .exact eu e C
 refine(RR w I (Ty a) aa (λv q=>∃fp F,v=fp (dV a [109,97,105,110])/\oD fp F q (dW a d)/\R_ w q/\∀k,F k->k<q.heap.size) (A1 w a) (Bk w a d) aD (A1.zero w a) (λj W y L=>?_) (λW y=>Bk.zero C y) (λj W y L=>?_) λW y=>?_).mono ?_
 .obtain⟨x,c,B,h0,N,Y,P,A,E,h6⟩:=y;obtain⟨pv,bv,ps,b,O,Q,e2,e3,p,t,T,z⟩:=hc j L;obtain⟨px,pc,rfl⟩:=t.slice;obtain⟨bx,bc,rfl⟩:=z.s5;have l:∀o u,T_ w (aL I o)=Ua u->T_ W (aL I o)=Ua u:=(by grind [Below.cell])
  exact⟨G_,G_,_,_,_,_,_,_,_,_,_,_,_,_,_,l _ _ O,l _ _ Q,l _ _ e2,l _ _ e3,N,P,(by grind [A1.next])⟩
 .obtain⟨B,F,N,Y,P,A,E,h6⟩:=y;obtain⟨pv,bv,ps,b,O,Q,e2,e3,p,t,T,z⟩:=hc j L;have ac:CN (rn lo w.heap.size) w (Us #[I_ a[j].l_,Ur (bs a[j].x_),pv,bv]) a[j]:=(by grind [CN])
  obtain⟨px,pc,rfl⟩:=t.slice;obtain⟨bx,bc,rfl⟩:=z.s5;have l:∀o u,T_ w (aL I o)=Ua u->T_ W (aL I o)=Ua u:=(by grind [Below.cell])
  have Z:=A;obtain⟨⟨fv,cv,sp,q1,q2⟩,q3⟩:=A;have s:j<Ty (a.map (·.x_)):=G_
  rcases q2 with ⟨e,_⟩|⟨g,c,rfl,k1,k2,k3,k4⟩
  .rw[e]at s;simp at s
  obtain⟨m1,m2,m3,x,m4⟩:=k4 j s;rw[m2]at m1;have J:Ty (a.map (·.x_))=Ty a:=s_
  refine⟨G_,G_,_,_,_,_,_,_,_,_,g,c,sH B j,l _ _ O,l _ _ Q,l _ _ e2,l _ _ e3,by rw[<-J];exact aA q1 aJ,k3,m1,λW' hS=>?_⟩
  have m:R_ W W':=((dz _ _).alloc (aD) _).trans (hS.below.mono s_)
  have H:CQ (MG B) (sH B) (a.map (·.x_)) w.heap.size F W':=by obtain⟨⟨fv,cv,sp,z1,z2⟩,V⟩:=Z;exact⟨⟨fv,cv,sp,by rw[m.block _ (G_)];exact z1,z2.h_ (λk n=>m.block k (V k n).1) (s_) m.size⟩,λk n=>⟨ej (V k n).1 m.size,(V k n).2⟩⟩
  have af:=aH q1;apply (Ph (lo:=lo) (d:=d) aD (λk _=>rfl) H a[j] _ (ac.h_ (λk n=>(E.trans (m.mono aD)).block k n.2) s_) (G_) (G_) (G_)).mono
  rintro e q ⟨U,M,G,sn,ab,r,X,ad,hF⟩;have D:0<(fR a d a[j]).code.length:=by rw[OL a d p];simp
  have ag:=r;obtain⟨al,S,ao,y1,⟨xs,y2,y3⟩,y4,y5⟩:=r.i_
  obtain rfl:S=U:=by have:=aA y1 (i:=1) aJ;grind
  obtain⟨x',c',rfl⟩:=fW y2;have K:∀k,F k->q.heap[k]?=W.heap[k]?:=λk n=>by rw[hF k n,m.block k (q3 k n).1]
  rcases y5 with ⟨e,_⟩|⟨g2,c2,rfl,l1,l2,l3,l4⟩
  .grind
  obtain⟨n1,n2,n3,x2,n4⟩:=l4 j s;rw[n2]at n1;refine⟨x',_,c',M,r.lt,⟨g2,c2,by rw[<-J];exact aA y1 aJ,l3,n1⟩,G_,?_,G_,⟨_,aA n4 rfl⟩,aF n4,?_⟩
  .rw[World.cell?_of_block (K g k1)];exact m1
  exact Bk.next L N Y E h6 ab r X ((m.mono aD).trans ad) K D
 .obtain⟨B,F,N,Y,P,A,E,h6⟩:=y;apply (RZ [109,97,105,110] A hm G_).mono
  rintro e q ⟨M,rfl⟩;rw[JS]at M;refine⟨_,M,MG B,F,aJ,λk f hf=>?_,E,λk n=>(A.2 k n).1⟩
  grind [dW]
 grind
def B6(w:aN)(E:Option Addr)(O c0:Nat)(x1:Option Addr)(Z Q:Nat)(P:Uf->Ug->Prop)(A:Uf->Ug->Prop)(T:Uf->Nat->Uf->Ug->Prop)(B:Nat->Ug->Prop)
 (HC:Hid (Ue Un 52 #[Uq E O c0] (T6 w (Uy #[I_ 0,bO,bO,bO,I_ 0] 57)) λe g=>∃p,e=bY (Ut p)/\A (Ut p) g))
 (HT:Hid (∀p W,A (Ut p) W->Ue Un 53 #[Uq x1 Z Q] (T6 W (Uy #[Ut p,I_ 0,I_ 0,Ut Ub,bO,bO] 111)) λe g=>∃x n c,e=bY (Uq x n c)/\T (Ut p) W.heap.size (Uq x n c) g))
 (HG:Hid (∀p v x n c W,T (Ut p) v (Uq x n c) W->Ue Un 54 #[bF W.heap.size] (T6 W (Uy #[I_ 0,Uq (Ua (aL v 0)) 1 1,Uq x n c,bO,I_ 0] 57)) λe g=>e=fD/\B W.heap.size g))
 (HB:Hid (∀b W,B b W->∃(q:Nat) (f t o:aW) (r:Nat),W.heap[b]?=Ua (Uy #[I_ q,f,t,o,I_ r] 57)/\(∃x l c,f=Uq x l c)/\(∃x l c,t=Uq x l c)/\(∃x l c,o=Uq x l c)/\W.heap[w.heap.size]?=Ua (Uy #[I_ 0,bO,bO,bO,I_ 0] 57)/\b≠w.heap.size/\
   ∀s,Kept [w.heap.size] W s->s.heap.size=W.heap.size->P (Us #[I_ q,f,t,o,I_ r]) s)):
 Ue Un 17 #[Uq E O c0,Uq x1 Z Q] w λe g=>∃G,e=bY G/\P G g:=by
 go_in
 go_wp2_with fail;apply HC.mono
 rintro e w1 ⟨p,rfl,N⟩;have m:=aB (HT _ _ N);generalize ab:w1.heap.size=v at m;clear N;go_wp2_with fail;apply m.mono
 rintro e w2 ⟨x,n,c,rfl,H⟩;have k:=aB (HG _ _ _ _ _ _ H);generalize hb:w2.heap.size=b at k;clear H;go_wp2_with fail;refine rf k λd L=>?_
 obtain⟨q,f,t,o,r,j,⟨M,I,U,rfl⟩,⟨J,X,K,rfl⟩,⟨V,F,Y,rfl⟩,a,q3,S⟩:=HB _ _ L;have HQ:=aB S;have aa:=aA (i:=0) j aJ;have am:=aA (i:=1) j aJ;have ah:=aA (i:=2) j aJ;have al:=aA (i:=3) j aJ;have af:=aA (i:=4) j aJ;have u:=aA (i:=0) a aJ;have C:=aA (i:=1) a aJ;have y:=aA (i:=2) a aJ;have D:=aA (i:=3) a aJ;have z:=aA (i:=4) a aJ;have ae:=aF (i:=0) a;have ak:=aF (i:=1) a;have ai:=aF (i:=2) a;have ac:=aF (i:=3) a;have ag:=aF (i:=4) a;have aj:=aH j;have ad:=aH a;clear L S j a;go_wp2_with fail;refine⟨aJ,Us #[I_ q,Uq M I U,Uq J X K,Uq V F Y,I_ r],?_,_,aJ,HQ _ ?_ s_⟩
 .simp[results,results17,go_sem,u,C,y,D,z]
 grind [Kept.setCell,Kept.refl]
def KO(w:aN)(v:aW)(l:List Int):Prop:=
 (l=[]/\v=bO)\/∃g o c,v=Uq (Ua (aL g o)) (Ty l) c/\g<w.heap.size/\∀i (h:i<Ty l),T_ w (aL g (o+i))=Ua (I_ l[i])/\ -9223372036854775808<=l[i]/\l[i]<=9223372036854775807
def LH(w:aN)(v:aW)(l:List Int)(h:KO w v l)(t:Ty l<=17592186044416):∃x n c,v=Uq x n c/\Ue Un 53 #[Uq x n c] w λe b=>∃x n c,e=bY (Uq x n c)/\R_ w b/\pF (λk=>w.heap.size<=k/\k<b.heap.size) b (Uq x n c) l:=by
 rcases h with ⟨rfl,rfl⟩|⟨g,o,c,rfl,E,B⟩
 .refine⟨Ub,0,0,aJ,(MQ w).mono ?_⟩;grind [dz,pF]
 refine⟨_,_,_,aJ,(MR g o (Ty l) c (l.map λn=>Value.int .i64 n) w s_ t (λj u F=>?_) λu y=>?_).mono ?_⟩
 .grind
 .obtain⟨n,_,rfl⟩:=ik.1 y;rfl
 rintro e b ⟨D,rfl,a,q⟩;obtain⟨x,p,rfl⟩:=fW a;refine⟨x,_,p,aJ,q,?_⟩;rcases a.2 with ⟨d,A⟩|⟨m,f,s,d,A,C,r⟩
 .grind [pF]
 refine ec ⟨m,0,f,d,r.1,G_,λi z=>⟨?_,(B i z).2⟩⟩
 have:=a.cells (g:=m) mq i (I_ l[i]) (by simp )
 grind [SH]
theorem ZG.ptr{f:eM}(h:ZG j F W L f):∃p,L=Ut p:=by grind [ZG]
def Kept.below{own:List Nat}{a:aN}(h:Kept own W a)(c:R<=W.heap.size)(b:∀k∈own,R<=k):Below R W a:=
 ⟨h.os,h.tape,h.output,h.size,(by grind [Kept.block])⟩
def yu(w:aN)(b:Nat):Prop:=∃c t,w.heap[b]?=Ua (Uy c t)/\(t=291\/t=263\/t=198\/t=270)
section
variable {fp:iU} {F:bN} {w:aN}
def gQ.ty:∀{l:cY} {v:aW},gQ F w v l->gQ (λb=>F b/\yu w b) w v l
 |[],_,h=>h
 |_::_,_,⟨b,o,c,e,d,a⟩=>⟨b,o,c,(by grind [yu]),d,gQ.ty a⟩
def VR.ty:∀{d:Nat} {v:aW} {a:aE},VR d F w v a->VR d (λb=>F b/\yu w b) w v a
 |0,_,_,h=>h.elim
 |d+1,v,a,h=>by
  rcases h with h|h|h|⟨o,l,n,m,f⟩
  .exact ed h
  .exact ec (ed h)
  .grind [VR]
  refine ec (ec (ec ⟨o,l,n,m,?_⟩));rcases f with f|⟨g,c,e,r,x,s,t,k⟩
  .exact ed f
  refine ec ⟨g,c,e,r,(by grind [yu]),s,t,λi p=>?_⟩
  obtain⟨u,j,q⟩:=k i p;exact⟨u,j,VR.ty q⟩
theorem lR.ty{v:aW}{i:aO}(h:lR fp F w v i):lR fp (λb=>F b/\yu w b) w v i:=by
 cases i<;>first
  |exact h
  |(obtain⟨e,c,a⟩:=h;exact⟨e,c,a.ty⟩)
  |(obtain⟨u,c,⟨d,a⟩,f⟩:=h;exact⟨u,c,⟨d,a.ty⟩,f⟩)
def oD.ty{a:List eM}(h:oD fp F w a):oD fp (λb=>F b/\yu w b) w a:=λk f c=>by grind [lR.ty,ZG,yu,oD]
end
def yr(w:aN)(b:Nat):Prop:=w.heap.size<b\/(b<w.heap.size/\yu w b)
def yr.ne(h:yr W R):R≠H_ W:=by grind [yr]
def Nw(w:aN)(b:Nat):Prop:=w.heap.size<=b\/yu w b
theorem Nw.of{b:Nat}(e:R_ w W)(h:Nw W b):Nw w b:=by
 rcases gz b (H_ w)with a|a
 .rcases h with h|⟨c,t,d,f⟩
  .have:=e.size;exact aD
  rw[e.block _ a]at d;exact ec ⟨c,t,d,f⟩
 exact ed a
def J2{lo d:Nat}{a:List Int}{r:dA × Nat}(v tv:aW)(w:aN)(h:uj (rn lo w.heap.size) w v i)(ao:Ty i<=90000)(K:∀f∈i,gX i d f)(ap:∀f∈i,∀R∈f.y_,jX R)(aq:∀f∈i,Ty f.y_<=90000)(hm:gE i (dV i [109,97,105,110])=Ua 0)
 (ht:KO w tv a) (ar:Ty a<=17592186044416) (hp:pA w) (hU:lH (dW i d)) (u:fG (dW i d) R (jW i d a)=Ua r) (hr:r.2<=1000):
 Ue Un 17 #[v,tv] w λe z=>∃v',e=bY v'/\R_ w z/\∃fp G,(∀b,G b->b<z.heap.size/\yr w b)/\oD fp G z (dW i d)/\pC fp G z v' ⟨0,r.1,cB 0 r.2⟩:=by
 have ay:dV i [109,97,105,110]<Ty i:=by grind [gE]
 have Y:[109,97,105,110]∈i.map (·.x_):=by grind [dV]
 obtain⟨x0,c0,rfl⟩:∃x c,v=Uq x (Ty i) c:=by grind [uj]
 obtain⟨x1,n1,c1,rfl⟩:∃x n c,tv=Uq x n c:=by grind [KO]
 generalize av:(dW i d)[dV i [109,97,105,110]]?.getD ⟨[],[]⟩=f0
 have ai:(dW i d)[dV i [109,97,105,110]]?=Ua f0:=by grind [dW]
 have ad:jW i d a=⟨[⟨f0,0,0,[],[],[]⟩],a,[]⟩:=by rw[<-av];rfl
 have X:=uE K hm a
 have ah:iQ (jW i d a):=by rw[ad];intro f hf;simp at hf;subst hf;exact⟨(by grind [lH]),s_,s_⟩
 rw[ad]at X ah u;obtain⟨m,U⟩:∃m,m=T6 w (Uy #[I_ 0,bO,bO,bO,I_ 0] 57):=(by simp)
 have S:R_ w m:=by grind [ep,dz]
 have bb:m.heap.size=w.heap.size+1:=by rw[U];simp
 have az:m.heap[w.heap.size]?=Ua (Uy #[I_ 0,bO,bO,bO,I_ 0] 57):=by grind [aZ]
 have aj:uj (rn lo m.heap.size) m (Uq x0 (Ty i) c0) i:=(by grind [uj.grow,eg,rn])
 refine(B6 w x0 (Ty i) c0 x1 n1 c1 (λv' z=>R_ w z/\∃fp G,(∀b,G b->b<z.heap.size/\yr w b)/\oD fp G z (dW i d)/\pC fp G z v' ⟨0,r.1,cB 0 r.2⟩)
  (λp W=>∃fp F,p=fp (dV i [109,97,105,110])/\oD fp F W (dW i d)/\R_ m W/\∀R,F R->R<W.heap.size)
  (λp l D W=>∃fp F,p=fp (dV i [109,97,105,110])/\oD fp F W (dW i d)/\R_ m W/\(∀R,F R->R<W.heap.size/\R≠l)/\m.heap.size<=l/\l<W.heap.size/\W.heap[l]?=Ua (Uy #[p,I_ 0,I_ 0,Ut Ub,bO,bO] 111)/\pF F W D a/\∀R,F R->yr w R)
  (λb W=>∃fp F l ae D j t,R_ m W/\m.heap.size<=b/\dM Uc fp F m.heap.size W b l ae (I_ ((0:Nat):Int)) D j (I_ (cB 0 r.2)) t r.1/\oD fp F W (dW i d)/\(∀R∈bE Uc b l j t,m.heap.size<=R)/\∀R,F R->yr w R)
  ?_ (λp W hq=>?_) (λp l x n c W hq=>?_) λb W hq=>?_)
 .rw[<-U];apply (YJ (lo:=lo) (d:=d) _ m aj ao K ap aq Y).mono
  grind [ZG.ptr,oD]
 .obtain⟨fp,F,O,hT,B,hF⟩:=hq;have bc:=hT.ty;have hN:∀R,yu W R->yr w R:=(by grind [eg,yu,yr])
  generalize N:T6 W (Uy #[Ut p,I_ 0,I_ 0,Ut Ub,bO,bO] 111)=y;have s:R_ W y:=by grind [ep,dz]
  have ak:y.heap.size=W.heap.size+1:=by rw[<-N];simp
  have Q:y.heap[W.heap.size]?=Ua (Uy #[Ut p,I_ 0,I_ 0,Ut Ub,bO,bO] 111):=by grind [aZ]
  have hwW :=S.trans ((B.mono aD).trans (s.mono (by have:=B.size;exact aD)))
  have au:KO y (Uq x1 n1 c1) a:=by
   rcases ht with ht|⟨g,o,c,e,hg,hc⟩
   .exact ed ht
   exact ec ⟨g,o,c,e,ej hg hwW.size,(by grind [Below.cell])⟩
  obtain⟨x,n,c,e,ax⟩:=LH y _ a au ar;rw[e];apply ax.mono
  rintro e z ⟨x',n',c',he,L,J⟩;have hbw :=s.trans (L.mono aD)
  refine⟨x',n',c',he,fp,λR=>(F R/\yu W R)\/(y.heap.size<=R/\R<z.heap.size),O,(by grind [oD.h_,eg]),B.trans (hbw.mono B.size),λR u=>?_,B.size,by have:=L.size;exact aD,by rw[L.block _ aD];exact Q,J.h_ (s_) aD,λR u=>by
   rcases u with P|P
   .grind
   have:=B.size;exact ed aD⟩
  grind [Below.size]
 .obtain⟨fp,F,O,hT,B,hF,an,aw,am,J,bd⟩:=hq;generalize N:T6 W (Uy #[I_ 0,Uq (Ua (aL l 0)) 1 1,Uq x n c,bO,I_ 0] 57)=y;have s:R_ W y:=by grind [ep,dz]
  have ak:y.heap.size=W.heap.size+1:=by rw[<-N];simp
  have Q:y.heap[W.heap.size]?=Ua (Uy #[I_ 0,Uq (Ua (aL l 0)) 1 1,Uq x n c,bO,I_ 0] 57):=by grind [aZ]
  have hTW :=hT.h_ (λR u=>s.block R (hF R u).1) MW
  have ac:bE Uc W.heap.size l (bO) [⟨Ut p,I_ 0,I_ 0,Ut Ub,bO,bO⟩]=[W.heap.size,l]:=rfl;have E:oZ F m.heap.size y (bO) []:=⟨⟨[],World.ownsRow_nil _ _ _ _,iE.nil _ _⟩,s_⟩
  have aa:dM Uc fp F m.heap.size y W.heap.size l 1 (I_ ((0:Nat):Int)) (Uq x n c) (bO) (I_ 0) [⟨Ut p,I_ 0,I_ 0,Ut Ub,bO,bO⟩] ⟨[⟨f0,0,0,[],[],[]⟩],a,[]⟩:=by
   refine⟨Q,⟨aJ,ec ⟨l,1,_,aJ,an,by rw[s.block _ aw];exact am,s_,kk,rfl,rfl⟩⟩,⟨⟨?_,rfl,rfl,rfl,E,E⟩,trivial⟩,J.h_ (λR u=>s.block R (hF R u).1) s_,World.ownsRow_nil _ _ _ _,?_,?_,λR u=>?_⟩
   .rw[O];exact hTW _ _ ai
   .grind
   .grind
   grind
  have hb0 :=B.trans (s.mono B.size);have hbw0 :=S.trans (hb0.mono aD);refine(WT (nY K) hU aa hTW (DX.of hp hbw0 λR u=>?_) hb0.size X ah s_ aD u aD hr).mono ?_
  .grind
  rintro e z ⟨he,M,G,ag,V,af,A,H,d1,d2,d3⟩;rw[ac]at d3 M;have ab:∀x∈bE Uc W.heap.size ag A H,m.heap.size<=x:=(by grind)
  have al:∀R∈[W.heap.size,l],m.heap.size<=R:=(by grind)
  refine⟨he,fp,G,ag,V,af,A,H,hb0.trans (M.below hb0.size al),B.size,d2,?_,ab,λR u=>?_⟩
  .refine hTW.h_ (λR u=>M.block R (G_) λhm=>?_) d1.sub
   grind
  grind [ss.new,yr]
 obtain⟨fp,F,l,ae,D,j,t,g1,g2,T,gT,g6,g7⟩:=hq;have Z:=T.i_;refine⟨_,_,_,_,_,Z,s_,?_,zZ T.out,ku,aD,λy C ba=>?_⟩
 .rcases T.tape with ⟨_,x,c,e⟩|⟨g,o,c,e,_⟩<;>exact⟨_,_,_,e⟩
 have hb0 :=S.trans (g1.mono aD);have hS:=T.kept (G:=λR=>F R\/(R∈bE Uc b l j t/\R≠b)) (λ_ h=>ed h) (λR q hn=>ec ⟨q,hn⟩)
 have I:∀R,(F R\/(R∈bE Uc b l j t/\R≠b))->yr w R/\R<W.heap.size:=λR q=>by
  rcases q with P|⟨P,_⟩
  .exact⟨g7 R P,(T.apart R P).1⟩
  have:=g6 R P;exact⟨ed aD,T.lt R P⟩
 have hkk :=λR q=>C.block R (I R q).2 (by simpa using (I R q).1.ne)
 refine⟨⟨C.os.trans hb0.os,C.tape.trans hb0.tape,C.output.trans hb0.output,G_,λR q=>?_⟩,fp,λR=>F R\/(R∈bE Uc b l j t/\R≠b),G_,(by grind [oD.h_]),hS.h_ hkk s_⟩
 grind [Kept.block,eg]
