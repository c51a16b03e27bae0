import Derived.Test.YtjhbbdpfkccohaaGreatDoorB03
import Derived.Test.YtjhbbdpfkccohaaGreatDoorP14
set_option linter.all false
set_option maxRecDepth 100000
set_option maxHeartbeats 4000000
open List renaming length->Ty
open Go.World renaming setCell->Tz,alloc->T6,cell?->T_
open Option renaming some->Ua
open Bool renaming false->Uc,true->Ud
open Go renaming Calls->Ue,Value->Uf,World->Ug,TypeId->Ui,Addr->Uj
open Go.RowKit renaming Hid->Ul
open Go.Proofs.Tryz renaming prog->Un
open Go.Value renaming slice->Uq,agg->Us,pointer->Ut,tuple->Uu,iface->Uv,bool->Uw
open Go.Obj renaming cells->Uy
namespace Go.Proofs.YtjhbbdpfkccohaaGreatDoor
open Hs
open _root_.Go.Proofs.Tryz
open Instr(typeAssert)
open Go.RowKit
variable{I:List j_}{e:List Int}{m:List Nat}{l:List aI}{A:List eM}{J K L R:Nat}{f:Type}{o:Ui}{g:aI}{j w:aN}{i:aO}{v:aW}{F p:bN}{n:cY}{s:dB}{H:iU}
def KY(w:aN)(fa fj d m g n c:Nat)(W:aN):Prop:=
 W.cell? (aL w.heap.size 0)=Ua (I_ d)/\T_ W (aL w.heap.size 1)=Ua (I_ m)/\T_ W (aL fa (fj+4))=Ua (Uq (Ua (aL g 0)) n c)
def KY.same{e:aN}{g n c:Nat}(h:KY w R J K L g n c j)(f:bV j e):KY w R J K L g n c e:=
 (by grind [eO,bV.heap,KY])
def MV(w O:aN)(sb o p d m g n c k:Nat)(J:Ui)(N:aW)(ac:d<n)(P S:mL)(Q:Ui->Uf->Ug->Prop)(R:Ui->Uf->Option Uj->Nat->Ug->Prop)(U:Ui->Uf->Ug->Prop)(Y:T6 w (Uy #[I_ d,I_ m] 370)=O)
 (HT:Ul (pW O sb o p))
 (HP:Ul (AJ O o p Q))
 (HQ:Ul (∀W t z,Q t z W->KY w o p d m g n c W/\T_ W (aL g d)=Ua (Uv J N)))
 (X:Ul (∀W W' t z,Q t z W->bV W W'->Ue Un 351 #[Ut (Ua (aL o p)),I_ m] W' λe q=>∃x y,e=bY (Uq x m y)/\R t z x y q))
 (Z:Ul (∀W t z x y,R t z x y W->KY w o p d m g n c W/\T_ W (aL g d)=Ua (Uv J N)))
 (HV:Ul (∀W t z x y,R t z x y W->Ue Un 350 #[Uv J N,Uq x m y,Uv t z] W λe q=>(∃I H,e=bY (Uv I H)/\U I H q)\/(e=jD k/\S q)))
 (HU:Ul (∀W t z,U t z W->KY w o p d m g n c W/\(∃u,T_ W (aL g d)=Ua u)/\W.frozen? (aL g d)=Uc/\g<W.heap.size/\KY w o p d m g n c (Tz W (aL g d) (Uv t z))))
 (HN:Ul (∀W t z,U t z W->P (Tz W (aL g d) (Uv t z)))):
 Ue Un 349 #[Us #[I_ d,I_ m],bF sb] w λe q=>(e=fD/\P q)\/(e=jD k/\S q):=by
 have HW:=aB Y;clear Y;go_in
 go_wp2_with fail;rw[HW];refine rf (HT _ (bV.refl _)) λw1 M=>?_
 go_wp2_with fail;apply (HP _ M).mono
 rintro e T ⟨t,z,rfl,V⟩;have E:=aB V;have hq:=HQ _ _ _ V;have F:=hq.1.same (bV.drew T);go_wp2_with fail;refine wp_region_held_drew (S:=λW=>T_ W (aL w.heap.size 0)=Ua (I_ d)/\T_ W (aL w.heap.size 1)=Ua (I_ m)/\T_ W (aL o (p+4))=Ua (Uq (Ua (aL g 0)) n c)) k_ F (λa=>?_)
 refine eU 0 ?_;refine eU 1 ?_;refine eU 2 ?_;refine eU 4 ?_;refine eU 6 ?_;refine eU 7 ?_;refine eU 8 ?_;refine eU 10 ?_;refine eU 14 ?_;refine eU 15 ?_;refine eU 18 ?_;refine eU 3 ?_;refine eU 5 ?_;refine eU 9 ?_;refine eU 11 ?_;refine eU 12 ?_;refine eU 16 ?_;refine Az 13 17 (λK f=>?_) λK f=>?_
 .go_simp;refine f.out _ _ F (λa=>?_)
  refine sN 17 λK f=>?_
  go_simp;go_at_call 351
  apply (X _ _ _ _ E (bV.drew T)).mono
  rintro e w3 ⟨x,y,rfl,G⟩;have B:=aB G;have l:=Z _ _ _ _ _ G;have j:=l.1;have ad:=l.2;go_wp2_with fail;refine f.out _ _ j (λa=>?_)
  refine sN 19 λK f=>?_
  go_simp;go_at_call 350
  apply (HV _ _ _ _ _ B).mono
  rintro e w4 (⟨I,H,rfl,A⟩|⟨rfl,A⟩)
  rotate_left
  exact⟨aJ,G_⟩
  have s:=aB A;have b:=HU _ _ _ A;have C:=b.1;obtain⟨u4,L⟩:=b.2.1;have aa:=b.2.2.1;have ab:=b.2.2.2.1;have r:=b.2.2.2.2;go_wp2_with fail;refine f.out _ _ C (λa=>?_)
  refine wpAnyH_take (i:=20) (v:=?_) aJ k_ k_ k_ (λ_ _ _ h=>h) (ed ⟨r_,?_⟩) a ?_
  rotate_left
  .intro w D;(try dsimp only at D);go_simp<;>with_reducible rfl
  refine sN 21 λK f=>?_
  go_simp;refine f.out _ _ r (λa=>?_)
  refine wpAnyH_done k_ ?_ _
  go_wp2
  go_end0;exact ed ⟨aJ,HN _ _ _ s⟩
 go_simp;go_at_call 351
 apply (X _ _ _ _ E (bV.drew T)).mono
 rintro e w3 ⟨x,y,rfl,G⟩;have B:=aB G;have l:=Z _ _ _ _ _ G;have j:=l.1;go_wp2_with fail;refine f.out _ _ j (λa=>?_)
 refine sN 13 λK f=>?_
 go_simp;refine f.out _ _ j (λa=>?_)
 refine sN 19 λK f=>?_
 go_simp;go_at_call 350
 apply (HV _ _ _ _ _ B).mono
 rintro e w4 (⟨I,H,rfl,A⟩|⟨rfl,A⟩)
 rotate_left
 exact⟨aJ,G_⟩
 have s:=aB A;have b:=HU _ _ _ A;have C:=b.1;obtain⟨u4,L⟩:=b.2.1;have r:=b.2.2.2.2;go_wp2_with fail;refine f.out _ _ C (λa=>?_)
 refine wpAnyH_take (i:=20) (v:=?_) aJ k_ k_ k_ (λ_ _ _ h=>h) (ed ⟨r_,?_⟩) a ?_
 rotate_left
 .intro w D;(try dsimp only at D);go_simp<;>with_reducible rfl
 refine sN 21 λK f=>?_
 go_simp;refine f.out _ _ r (λa=>?_)
 refine wpAnyH_done k_ ?_ _
 go_wp2
 go_end0;exact ed ⟨aJ,HN _ _ _ s⟩
def ZF.ofRow{b_:Nat}{xs:List Uf}{l:List aE}(h:w.ownsRow b_ 263 1 v (Ty l) xs)(k:iE F w xs l):ZF F w v l:=by
 rcases h.2 with ⟨d,a⟩|⟨g,c,b,d,a,i,e,m,f,j⟩
 .grind [ZF]
 grind [aA,ZF,iE]
section
variable {fp:iU} {F:bN} {b_:Nat} {w:aN} {sb gf cap:Nat} {t0 tv u_ s0:aW} {v_:List j_} {below:List aI} {f:aI} {tape:List Int} {out:cY}
def dM.zz{n:List j_}{v:j_}{vs us:List aE}(h:dM Uc fp F b_ w sb gf cap t0 tv u_ s0 (n++[v]) ⟨below++[f],tape,out⟩)(D:f.ops=vs++us)(r:Ty f.ops<=100000):
 Ue Un 351 #[Ut (Ua (aL gf (Ty n*6))),I_ (Ty us)] w λe q=>∃x y c,e=bY (Uq x (Ty us) y)/\c.ownBlock=v.ov.ownBlock/\ZF F q (Uq x (Ty us) y) us/\(∀a∈us,aK a<=200)/\
  dM Uc fp F b_ q sb gf cap t0 tv u_ s0 (n++[{ v with ov:=c }]) ⟨below++[f.n_ (Ty us)],tape,out⟩/\Kept (bE Uc sb gf u_ (n++[v])) w q/\∀k,k<w.heap.size->k≠gf->q.heap[k]?=w.heap[k]?:=by
 obtain⟨X,v0,C,e,Y,N,P,l,L,k0,k1,k2,k3,k4,U⟩:=h.top;obtain⟨rfl,V⟩:=gd e rfl;cases V;obtain⟨⟨Z,g,s⟩,m⟩:=N.ops;rw[D]at g s m;obtain⟨o,M,rfl,H,B,W,p⟩:=s.split;rw[D,ew]at r;rw[ew]at g;apply (BQ b_ gf (Ty n*6) (Ty vs) (Ty us) C v.ov o M w l U g H B (tM p) aD).mono
 rintro e q ⟨Q,c,K,he,z,E,rfl,p2,J⟩;have O:(f.n_ (Ty us)).ops=vs:=by simp[aI.n_,D]
 have I:=h.grow z (s_) (λ_ h=>ed h)
 have u:SN Uc fp F b_ K { v with ov:=c } (f.n_ (Ty us)):=by
  have t :=λb G=>z.block b (h.apart b G).1
  have S:∀k∈(v.ri Uc),k<w.heap.size:=λk t=>h.lt k (by simp[bE,dD,t])
  have i:=N.h_ t MW ku
  refine⟨i.fn,i.nx,i.ln,i.sp,i.g_,⟨o,?_,?_⟩,G_⟩
  .grind [bC,eg,j_.ri]
  grind [iE.h_]
 obtain⟨T,q2⟩:=I.vm (j:=5) (x:=c) (v':={ v with ov:=c }) aD rfl (by simp[j_.ri,J]) u
 have hgf :=aH l;have A:∀k,F k->(Tz K (aL gf (Ty n*6+5)) c).heap[k]?=w.heap[k]?:=(by grind [em,dM.apart,bE,eg])
 obtain⟨x,d,rfl⟩:=fW E;refine⟨x,d,c,he,J,ZF.ofRow (b_:=w.heap.size) (xs:=M) (bC E λk t=>em _ _ _ _ ?_) (p.h_ A),G_,T,(Kept.p_ z).trans q2 G_,(by grind [em,eg])⟩
 have:=bX E k t;grind
def dM.assigned{j:List j_}{v:j_}{g n c d:Nat}{u:aW}{a:aE}(h:dM Uc fp F b_ w sb gf cap t0 tv u_ s0 (j++[v]) ⟨below++[f],tape,out⟩)(p:v.vv=Uq (Ua (aL g 0)) n c)(S:PV F w u a)(K:aK a<=200):
 dM Uc fp F b_ (Tz w (aL g d) u) sb gf cap t0 tv u_ s0 (j++[v]) ⟨below++[{ f with g_:=f.g_.set d a }],tape,out⟩/\Kept (bE Uc sb gf u_ (j++[v])) w (Tz w (aL g d) u):=by
 obtain⟨O,v0,N,e,P,l,I,E,D,k0,V,k2,Z,k4,k5⟩:=h.top;obtain⟨rfl,L⟩:=gd e rfl;cases L;have x:v.vv.ownBlock=Ua g:=by rw[p];rfl
 have z:g∈(v.ri Uc):=by simp[j_.ri,x]
 have o:∀k∈(v.ri Uc),k∈bE Uc sb gf u_ (j++[v]):=(by grind [bE,dD])
 have U:gf∉(v.ri Uc):=λy=>by have:=(ey.1 (ey.1 h.nodup).2).1;grind [dD]
 have r:(v.ri Uc).Nodup:=by grind [dM.nodup,bE,dD]
 have C:∀k,k≠g->(Tz w (aL g d) u).heap[k]?=w.heap[k]?:=(by grind [em])
 have hFk :=λb A=>C b λe=>(h.apart b A).2 (o b (by rw[e];exact z))
 have B:∀k,v.ov.ownBlock=Ua k->k≠g:=(by grind [j_.ri])
 have i:=h.row;rw[show Ty (j++[v])=Ty j+1 by simp]at i
 obtain⟨⟨Q,m,s⟩,t⟩:=l.g_;refine⟨h.step (G:=F) s_ (G_) (bC i λk e=>C k ?_) ?_ (λk y=>⟨ej (h.lt k (o k y)) s_,ed y⟩) r (s_) (G_),⟨rfl,rfl,rfl,s_,G_⟩⟩
 .cases e;grind
 refine⟨l.fn.h_ hFk s_,l.nx,l.ln,gQ.h_ hFk (s_) l.sp,⟨⟨Q.set d u,?_,(iE.set s d S).h_ hFk⟩,λb A=>?_⟩,l.ops.h_ hFk (s_) G_⟩
 .rcases m.2 with ⟨q,H⟩|⟨g',W,T,q,H,J,Y,M,X,r7⟩
  .grind
  rw[p]at q;cases q;refine⟨G_,ec ⟨g,c,_,?_,H,aP J,G_,M,G_,?_⟩⟩
  .grind
  grind [List.take_set]
 grind
def tT(fp:iU)(F:bN)(b_ sb gf cap:Nat)(t0 tv u_ s0:aW)(fb:List j_)(v:j_)(below:List aI)(f:aI)(tape:List Int)(out:cY)(w0:aN)(W:aN):Prop:=
 ∃ov',ov'.ownBlock=v.ov.ownBlock/\dM Uc fp F b_ W sb gf cap t0 tv u_ s0 (fb++[{ v with ov:=ov' }]) ⟨below++[f],tape,out⟩/\Kept (bE Uc sb gf u_ (fb++[v])) w0 W/\∀k,k<w0.heap.size->k≠gf->W.heap[k]?=w0.heap[k]?
def tT.grow{G:bN}{e:List j_}{v:j_}{c W b:aN}(h:tT fp F b_ sb gf cap t0 tv u_ s0 e v below f tape out c W)(d:R_ W b)(m:∀k,F k->G k)(l:∀k,G k->F k\/(W.heap.size<=k/\k<b.heap.size)):tT fp G b_ sb gf cap t0 tv u_ s0 e v below f tape out c b:=by obtain⟨a,i,g,j,n⟩:=h;exact⟨a,i,g.grow d m l,j.trans (Kept.p_ (own:=[]) d) (s_),ku⟩
theorem tT.reads{b:List j_}{v:j_}{a W:aN}{g n c d m:Nat}{x:aW}(h:tT fp F b_ sb gf cap t0 tv u_ s0 b v below f tape out a W)(o:gf<w.heap.size)(y:a=T6 w (Uy #[I_ d,I_ m] 370))(z:v.vv=Uq (Ua (aL g 0)) n c)(B:g<w.heap.size)(s:g≠gf)(K:T_ a (aL g d)=Ua x):
 KY w gf (Ty b*6) d m g n c W/\T_ W (aL g d)=Ua x/\∀u,KY w gf (Ty b*6) d m g n c (Tz W (aL g d) u):=by
 obtain⟨t,G,l,J,D⟩:=h;obtain⟨q,N,p,e,r,M,k,j,i,E,A,L,C,O,H⟩:=l.top;obtain⟨rfl,I⟩:=gd e rfl;grind [aZ,KY,aA,World.cell?_of_block,em]
theorem tT.done{G:bN}{a:List j_}{v:j_}{W:aN}{ob:Obj}{b:aI}(h:tT fp G b_ sb gf cap t0 tv u_ s0 a v below b tape out (w.alloc ob) W)(f:ss F G w.heap.size):sw fp F b_ sb t0 s0 (bE Uc sb gf u_ (a++[v])) w ⟨below++[b],tape,out⟩ W:=by obtain⟨e,i,c,d,g⟩:=h;exact⟨(Kept.p_ (own:=bE Uc sb gf u_ (a++[v])) (lr)).trans d G_,G,gf,cap,tv,u_,_,f,c,(by grind [bE,dD,j_.ri])⟩
def Hq(d:Nat)(H i:List aE)(b:aE)(h:dM Uc fp F b_ w sb gf cap t0 tv u_ s0 v_ ⟨below++[f],tape,out⟩)(M:Ty below<=15)(D:b_<=w.heap.size)(ao:Ty f.ops<=99000)(hf:f.ops=H++i++[b])(hd:d<Ty f.g_):
 Ue Un 349 #[Us #[I_ d,I_ (Ty i)],bF sb] w (zy fp F b_ sb t0 s0 (bE Uc sb gf u_ v_) w below tape out (aR (.assign d (Ty i)) f)):=by
 have hM:=h.xg D (cD #[I_ d,I_ (Ty i)] 370);obtain⟨n,v,ab,rfl,ae, -⟩:=h.top;have hgw :=h.lt gf (by simp[bE])
 have h0:=h.grow ((dz _ w).alloc mJ (cD #[I_ d,I_ (Ty i)] 370)) (s_) (λ_ h=>ed h)
 have hT:=hM.uh M;rw[<-ae]at hT;obtain⟨ar,v0,ab,e, -,hv,O,X,am,k0,k1,k2,k3,k4,k5⟩:=h0.top;obtain⟨rfl,Y⟩:=gd e rfl;cases Y;generalize o:T6 w (cD #[I_ d,I_ (Ty i)] 370)=J at h0 hT hv O X;obtain⟨⟨xs,T,ak⟩,ah⟩:=hv.g_
 have aw:v.vv.ownBlock≠Ua gf:=λe=>by have:=(ey.1 (ey.1 h.nodup).2).1;grind [dD,j_.ri]
 obtain⟨u,ax,K⟩:=ak.2 d hd;obtain⟨ta,za,rfl⟩:=K.form;have hpo :=BI (by rw[hf])
 have C:f.pop.many (Ty i)=i:=by simp[aI.many,hpo]
 have hlast :=nW (by rw[hf])
 have an:Ty H+Ty i+1<=99000:=G_
 have aa:f.g_[d]?.getD aY=f.g_[d]:=G_
 obtain⟨r,hr⟩:∃r,r=jI f.g_[d] i b:=(by simp)
 have P:aR (.assign d (Ty i)) f=if r.2=0 then ({ f.pop.n_ (Ty i) with g_:=f.g_.set d r.1 },0)else (f.pop.n_ (Ty i),r.2):=by simp only[aR,C,hlast,aa,<-hr]
 have ag:r.2=0->aK r.1<=200:=λs=>by rw[hr]at s ⊢;exact WG _ s
 rw[P];rcases T.2 with ⟨Z,r2⟩|⟨g,c,ad,Z,aq,Q,ap,av,au,ay⟩
 .exact aD
 have al:v.vv.ownBlock=Ua g:=by rw[Z];rfl
 have ai:g≠gf:=(by grind)
 have hgl :=h.lt g (by simp[bE,dD,j_.ri,al])
 have aj:ad[d]?=Ua (dH ta za):=by grind
 have hx :=aA Q aj
 have N:∀{W:aN} {f':aI},tT fp F b_ sb gf cap t0 tv u_ s0 n v below f' tape out J W->∀k,F k->k<W.heap.size:=λj k l=>by obtain⟨_,_,A,_⟩:=j;exact(A.apart k l).1
 have U:∀{W:aN} {f':aI},tT fp F b_ sb gf cap t0 tv u_ s0 n v below f' tape out J W->PV F W (dH ta za) f.g_[d]:=λj=>by obtain⟨_,_,_,q,I⟩:=j;exact K.h_ λk l=>I k (by rw[<-o];exact ej (h.apart k l).1 s_) λe=>(h.apart k l).2 mi
 refine(MV w J sb gf (Ty n*6) d (Ty i) g (Ty f.g_) c r.2 ta za hd
  (λE=>r.2=0/\sw fp F b_ sb t0 s0 (bE Uc sb gf u_ (n++[v])) w ⟨below++[{ f.pop.n_ (Ty i) with g_:=f.g_.set d r.1 }],tape,out⟩ E)
  (λE=>r.2≠0/\sw fp F b_ sb t0 s0 (bE Uc sb gf u_ (n++[v])) w ⟨below++[f.pop.n_ (Ty i)],tape,out⟩ E)
  (λt z W=>(PV F W (dH t z) b/\aK b<=200)/\tT fp F b_ sb gf cap t0 tv u_ s0 n v below f.pop tape out J W)
  (λt z x y W=>((PV F W (dH t z) b/\aK b<=200)/\ZF F W (P_ x (Ty i) y) i)/\tT fp F b_ sb gf cap t0 tv u_ s0 n v below (f.pop.n_ (Ty i)) tape out J W)
  (λt z W=>r.2=0/\∃G,ss F G w.heap.size/\PV G W (dH t z) r.1/\tT fp G b_ sb gf cap t0 tv u_ s0 n v below (f.pop.n_ (Ty i)) tape out J W)
  o hT (λW B=>?_) (λW t z j=>?_) (λW W' t z j B=>?_) (λW t z x y j=>?_) (λW t z x y j=>?_) (λW t z j=>?_) λW t z j=>?_).mono ?_
 .refine((h0.grow B.below (s_) λ_ h=>ed h).Ag (vs:=H++i) (a:=b) (by rw[hf]) aD).mono ?_
  rintro e E ⟨t,z,p,he,s,A,q,I,h5,h6⟩;exact⟨t,z,he,G_,p,q,I,(Kept.p_ (own:=bE Uc sb gf u_ (n++[v])) B.below).trans h5 G_,λk _ l=>by rw[h6 k l,B.heap]⟩
 .grind [tT.reads]
 .obtain⟨⟨V,p2⟩,p,s,A,q,I⟩:=j;refine((A.grow B.below (s_) λ_ h=>ed h).zz (vs:=H) (us:=i) hpo G_).mono ?_
  rintro e E ⟨x,y,af,he,q1,S,q3,q4,q5,q6⟩;have m:bE Uc sb gf u_ (n++[{ v with ov:=p }])=bE Uc sb gf u_ (n++[v]):=by simp[bE,dD,j_.ri,s]
  rw[m]at q5;have ac:W.heap.size=W'.heap.size:=by rw[B.heap]
  refine⟨x,y,he,⟨⟨V.h_ λk l=>?_,p2⟩,S⟩,af,G_,q4,(q.trans (Kept.p_ (own:=[]) B.below) (s_)).trans q5 G_,nz⟩
  rw[q6 k (by rw[<-ac];exact(A.apart k l).1) λe=>(A.apart k l).2 mi,B.heap]
 .grind [tT.reads]
 .obtain⟨⟨⟨V,p2⟩,p3⟩,j⟩:=j;refine(VF F i _ _ _ f.g_[d] b W p3 (U j) V (N j) (G_) aD aD).mono ?_
  rintro e E ⟨hb,⟨L,u,rfl,e3⟩|⟨L,Y⟩⟩
  .rw[<-hr]at L e3;obtain⟨t1,z1,rfl⟩:=e3.form;exact ed ⟨t1,z1,aJ,L,Grow F W E,⟨λk l=>ed l,λk l=>l.imp_right λs=>eo (by obtain⟨_,_,_,q,_⟩:=j;rw[<-o]at q;exact eo s_ q.size) s.1⟩,e3,j.grow hb (λk l=>ed l) λk l=>l⟩
  rw[<-hr]at L Y;subst o;exact ec ⟨Y,L,(j.grow hb (s_) (G_)).done (ss.refl _ _)⟩
 .obtain⟨_,G,hG,_,j⟩:=j;obtain⟨q1,S,q3⟩:=j.reads hgw o.symm Z hgl ai hx;obtain⟨_,_,_,_,I⟩:=j;grind [aF]
 .obtain⟨hz,G,hG,V,p,s,A,q,I⟩:=j;obtain⟨q1,S⟩:=A.assigned (d:=d) (a:=r.1) (u:=dH t z) Z V (ag hz);have m:bE Uc sb gf u_ (n++[{ v with ov:=p }])=bE Uc sb gf u_ (n++[v]):=by simp[bE,dD,j_.ri,s]
  rw[m]at S;subst o;refine⟨hz,((Kept.p_ (own:=bE Uc sb gf u_ (n++[v])) ((dz _ w).alloc (aD) _)).trans q G_).trans S G_,G,gf,cap,tv,u_,_,hG,q1,G_⟩
 grind [zy.ok,zy.stop]
end
def QH(w C:aN)(f E H a n c:Nat)(x:Option Uj)(k:bP)(hn:n<50)(P:mL)(Q:Ui->Uf->Ug->Prop)(R:mL)(B:List Uf)(F:T6 w (cD #[] 373)=C)
 (Y:Ul (pW C f E H))
 (X:Ul (AJ C E H Q))
 (J:Ul (∀W t z,Q t z W->T_ W (aL f 3)=Ua (P_ x n c)/\f<W.heap.size))
 (U:Ul (∀W W' t z,Q t z W->bV W W'->Ue Un 358 #[dH t z] W' λe m=>e=bY (Q_ (bs k))/\R m))
 (L:Ul (∀W,R W->T_ W (aL f 3)=Ua (P_ x n c)/\f<W.heap.size/\a<=W.heap.size))
 (O:Ul (∀W,R W->W.ownsRow a 9 1 (P_ x n c) n B))
 (K:Ul (∀W,R W->∀d:aN,(T6 W (cD #[Q_ (bs k)] 9)).grownBy d (Value.slice x n c).ownBlock->(∃u,T_ d (aL f 3)=Ua u)/\d.frozen? (aL f 3)=Uc/\f<d.heap.size))
 (HN:Ul (∀W,R W->∀j b (d:aN),d.ownsRow a 9 1 (P_ (Ua (aL j 0)) (n+1) b) (n+1) (B++[Q_ (bs k)])->(T6 W (cD #[Q_ (bs k)] 9)).grownBy d (Value.slice x n c).ownBlock->((Value.slice x n c).ownBlock=Ua j\/W.heap.size+1<=j)->P (Tz d (aL f 3) (P_ (Ua (aL j 0)) (n+1) b)))):
 Ue Un 357 #[Us #[],bF f] w λe m=>e=fD/\P m:=by
 obtain⟨N,S,q,s,v⟩:=info_parts JR;have T:=aB F;have I:¬(n:Int)=50:=aD;clear F;go_in
 go_wp2_with fail;rw[T];refine(Y _ (bV.refl _)).mono ?_;rintro e Z ⟨rfl,y⟩;go_wp2_with fail;refine(X _ y).mono ?_;rintro e w2 ⟨t,z,rfl,o⟩;obtain⟨c1,l1⟩:=J _ _ _ o;have r:=aB o;clear o;go_wp2
 go_region_law (first|(go_simp;go_at_call 358;refine(U _ _ _ _ r (bV.drew _)).mono ?_;rintro e p ⟨rfl,D⟩;have i:=aB D;have l:=L _ D;have b1:=l.1;have b2:=l.2.1;have b3:=l.2.2;clear l D)|(refine step_append_lies _ r_ _ _ 54 r_ a 9 N _ 1 16 underlying54 S q s v rfl d_ (Uq x n c) n B r_ ((O _ i).alloc _) (aL p.heap.size 0) 1 1 [.string (bs k)] r_ r_ (NW p _) (VN _) d_ kk aD kj (p.heap.size+1) s_ ?_;intro j b d A g G V;have M:=K _ i d g;obtain⟨⟨u5,y1⟩,y2,y3⟩:=M))
 all_goals
  go_wp2
  go_end0;grind [d7]
def QI(w f:aN)(a i k c:Nat)(x:Option Uj)(P:mL)(Q:Ui->Uf->Ug->Prop)(j:T6 w (cD #[] 373)=f)
 (q:Ul (pW f a i k))
 (p:Ul (AJ f i k Q))
 (m:Ul (∀W t z,Q t z W->T_ W (aL a 3)=Ua (P_ x 50 c)/\a<W.heap.size))
 (n:Ul (∀W t z,Q t z W->P W)):
 Ue Un 357 #[Us #[],bF a] w λe l=>e=jD 8/\P l:=by
 have o:=aB j;clear j;go_in
 go_wp2_with fail;rw[o];refine(q _ (bV.refl _)).mono ?_;rintro e r ⟨rfl,d⟩;go_wp2_with fail;refine(p _ d).mono ?_;rintro e v ⟨t,z,rfl,g⟩;obtain⟨s,u⟩:=m _ _ _ g;have b:=aB g;go_wp2_with fail;exact⟨aJ,aJ,n _ _ _ b⟩
def DX(own:List Nat)(w:aN):Prop:=∀W,Kept own w W->pA W
theorem DX.step{a:List Nat}{b:aN}(h:DX m w)(c:Kept m w b)(d:∀x∈a,x∈m\/H_ w<=x):DX a b:=(by grind [Kept.trans,DX])
section
variable {fp:iU} {F:bN} {b_:Nat} {w:aN} {sb gf cap:Nat} {t0 tv u_ s0:aW} {v_:List j_} {below:List aI} {f:aI} {tape:List Int} {out:cY}
def dM.printed{m:dA}{f:aN}{ob:Obj}{c a:Nat}{tx:bP}(h:dM Uc fp F b_ w sb gf cap t0 tv u_ s0 v_ m)
 (t:f.ownsRow b_ 9 1 (P_ (Ua (aL c 0)) (Ty m.out+1) a) (Ty m.out+1) (pD m.out++[Q_ (bs tx)])) (g:(w.alloc ob).grownBy f u_.ownBlock) (x:u_.ownBlock=Ua c\/H_ w+1<=c):
 dM Uc fp F b_ (Tz f (aL sb 3) (P_ (Ua (aL c 0)) (Ty m.out+1) a)) sb gf cap t0 tv (P_ (Ua (aL c 0)) (Ty m.out+1) a) s0 v_ ⟨m.f_,m.tape,m.out++[tx]⟩/\Kept (bE Uc sb gf u_ v_) w (Tz f (aL sb 3) (P_ (Ua (aL c 0)) (Ty m.out+1) a))/\
  ∀k∈bE Uc sb gf (P_ (Ua (aL c 0)) (Ty m.out+1) a) v_,k∈bE Uc sb gf u_ v_\/H_ w<=k:=by
 obtain⟨J,A⟩:=ey.1 h.nodup;obtain⟨G,y⟩:=ey.1 A;obtain⟨E,H,I⟩:=ja.1 y
 have z:∀k,k<H_ w->Ua k≠u_.ownBlock->f.heap[k]?=w.heap[k]?:=λk q l=>by rw[g.block k kj l,eh _ _ _ q]
 have j:∀k,k<H_ w->Ua k≠u_.ownBlock->k≠sb->(Tz f (aL sb 3) (P_ (Ua (aL c 0)) (Ty m.out+1) a)).heap[k]?=w.heap[k]?:=(by grind [em])
 have hsbl :=h.lt sb (by simp[bE])
 have i:Ua sb≠u_.ownBlock:=(by grind)
 have u:Ua gf≠u_.ownBlock:=(by grind)
 have B:gf≠sb:=(by grind)
 have hblk :=(z sb hsbl i).trans h.i_;have s:∀k∈dD Uc v_,k<H_ w/\Ua k≠u_.ownBlock/\k≠sb/\k≠gf:=(by grind [dM.lt,bE])
 have D:c≠sb/\c≠gf/\c∉dD Uc v_:=by grind [dM.lt,bE]
 have hFk :=λb n=>
  j b (h.apart b n).1 (λe=>(h.apart b n).2 (by simp[bE,<-e])) λe=>(h.apart b n).2 mi
 have r:H_ w<=H_ f:=eo s_ g.size
 have p:(Value.slice (Ua (aL c 0)) (Ty m.out+1) a).ownBlock=Ua c:=rfl;have hg5l :=(t.lt c p).2;refine⟨⟨aP hblk,bC h.row λk e=>?_,h.uy.h_ hFk (s_) λv C k d=>?_,h.tape.h_ hFk (s_),?_,?_,λk d=>?_,λk o=>?_⟩,⟨g.os.trans rfl,g.tape.trans rfl,g.output.trans rfl,by simpa using r,λk q l=>?_⟩,λk d=>?_⟩
 .cases e;grind [dM.lt,bE]
 .have hm :=jo.2 ⟨v,C,d⟩;grind [dD]
 .rw[ew];have e:pD (m.out++[tx])=pD m.out++[Q_ (bs tx)]:=by simp[pD]
  rw[e];exact bC t nj
 .grind [bE]
 .grind [World.setCell,bE,dM.lt]
 .obtain⟨q,l⟩:=h.apart k o;grind [bE]
 .grind [bE]
 grind [bE]
def Kv(n:List eM){vs:List aE}{b:aE}(h:dM Uc fp F b_ w sb gf cap t0 tv u_ s0 v_ ⟨below++[f],tape,out⟩)(hp:DX (bE Uc sb gf u_ v_) w)(u:Ty below<=15)(i:b_<=w.heap.size)(T:Ty f.ops<=99000)(Y:f.ops=vs++[b])(aa:Ty out<=50):
 Ue Un 357 #[Us #[],bF sb] w (Ai fp F b_ sb t0 s0 (bE Uc sb gf u_ v_) w (cF n .print below f tape out)):=by
 have hM:=h.xg i (cD #[] 373);obtain⟨g,v,ab,rfl,L, -⟩:=h.top;have U:=h.grow ((dz _ w).alloc mJ (cD #[] 373)) (s_) (λ_ h=>ed h)
 have D:=hM.uh u;rw[<-L]at D;have p:Kept (bE Uc sb gf u_ (g++[v])) w (T6 w (cD #[] 373)):=(by grind [Kept.p_,ep,dz])
 generalize B:T6 w (cD #[] 373)=m at U D p;obtain⟨x,c,rfl⟩:=fW h.out;have hlast :=nW Y
 have Q:Ul (∀W,bV m W->Ue Un 182 #[Ut (Ua (aL gf (Ty g*6)))] W λe l=>∃t z,e=bY (dH t z)/\(PV F l (dH t z) b/\aK b<=200/\tT fp F b_ sb gf cap t0 tv (P_ x (Ty out) c) s0 g v below f.pop tape out m l)):=λW A=>by
  refine((U.grow A.below (s_) λ_ h=>ed h).Ag Y aD).mono ?_
  rintro e l ⟨t,z,j,P,K,a,r,V,h5,h6⟩;exact⟨t,z,P,K,a,j,r,V,(Kept.p_ (own:=bE Uc sb gf (P_ x (Ty out) c) (g++[v])) A.below).trans h5 G_,nz⟩
 have M:∀{W:aN} {f':aI},tT fp F b_ sb gf cap t0 tv (P_ x (Ty out) c) s0 g v below f' tape out m W->T_ W (aL sb 3)=Ua (P_ x (Ty out) c)/\sb<W.heap.size/\b_<=W.heap.size/\Kept (bE Uc sb gf (P_ x (Ty out) c) (g++[v])) w W:=λd=>by obtain⟨j,_,a,r,_⟩:=d;exact⟨aA a.i_ aJ,aH a.i_,eo i (eo p.size r.size),(by grind [Kept.trans])⟩
 by_cases q:Ty out=50
 .rw[q]at M Q;refine(QI w m sb gf (Ty g*6) c x (λl=>sw fp F b_ sb t0 s0 (bE Uc sb gf (P_ x (Ty out) c) (g++[v])) w ⟨below++[f.pop],tape,out⟩ l) (λt z W=>PV F W (dH t z) b/\aK b<=200/\tT fp F b_ sb gf cap t0 tv (P_ x 50 c) s0 g v below f.pop tape out m W) B D Q (λW t z d=>?_) λW t z d=>?_).mono ?_
  .grind
  .grind [tT.done,ss.refl]
  rintro e l ⟨rfl,a⟩;have O:cF n .print below f tape out=(⟨below++[f.pop],tape,out⟩,8):=by simp[cF,q]
  rw[O];exact⟨(by grind [T7]),a⟩
 refine(QH w m sb gf (Ty g*6) b_ (Ty out) c x (jN b) aD (λl=>sw fp F b_ sb t0 s0 (bE Uc sb gf (P_ x (Ty out) c) (g++[v])) w ⟨below++[f.pop],tape,out++[jN b]⟩ l) (λt z W=>PV F W (dH t z) b/\aK b<=200/\tT fp F b_ sb gf cap t0 tv (P_ x (Ty out) c) s0 g v below f.pop tape out m W) (λW=>tT fp F b_ sb gf cap t0 tv (P_ x (Ty out) c) s0 g v below f.pop tape out m W) (pD out) B D Q (λW t z d=>?_) (λW H t z d A=>?_) (λW d=>?_) (λW d=>?_) (λW d=>?_) λW d=>?_).mono ?_
 .grind
 .obtain⟨p1,S,d⟩:=d;have s:=d.grow A.below (s_) (λ_ h=>ed h)
  have y:∀k,F k->k<H.heap.size:=λk I=>by obtain⟨_,_,a,_⟩:=s;exact(a.apart k I).1
  refine(z8 F _ b H (p1.h_ λk _=>by rw[A.heap]) y (hp H G_) aD).mono ?_
  rintro e l ⟨P,hb⟩;exact⟨P,s.grow hb (s_) (G_)⟩
 .grind
 .obtain⟨_,_,a,_⟩:=d;exact a.out
 .intro w5 E;obtain⟨j,_,a,_⟩:=d;have J:=aH a.i_;have C:Ua sb≠(Value.slice x (Ty out) c).ownBlock:=λe=>(ey.1 a.nodup).1 G_
  have e5 :=(E.block sb kj C).trans ((eh _ _ _ J).trans a.i_)
  exact⟨⟨_,aA e5 aJ⟩,aF e5,G_⟩
 .intro g5 Z w5 S E G;obtain⟨j,K,a,r,V⟩:=d;obtain⟨q1,q2,X⟩:=a.printed (tx:=jN b) S E G;have o:bE Uc sb gf (P_ x (Ty out) c) (g++[{ v with ov:=j }])=bE Uc sb gf (P_ x (Ty out) c) (g++[v]):=by simp[bE,dD,j_.ri,K]
  rw[o]at q2 X;have N:=p.trans r λ_ h=>ed h
  exact⟨(by grind [Kept.trans]),F,gf,cap,tv,_,_,ss.refl _ _,q1,λk I=>(X k I).imp_right λh=>eo N.size h⟩
 rintro e l ⟨rfl,a⟩;have O:cF n .print below f tape out=(⟨below++[f.pop],tape,out++[jN b]⟩,0):=by simp[cF,q,hlast]
 rw[O];exact⟨ed s_,a⟩
end
def AG{W:aN}{s:SV}(h:W.heap[R]?=Ua (cD s.cells o)):dP W R 0 (I_ s.t)/\dP W R 1 (P_ s.x1 s.n1 s.c1)/\dP W R 2 (P_ s.x2 s.n2 s.c2)/\dP W R 3 (P_ s.x3 s.n3 s.c3)/\dP W R 4 (I_ s.q):=
 (by grind [aA,SV.cells])
def VX(w:aN)(s:SV)(P A3:SV->Ug->Prop)(Z:Option Uj->Nat->Nat->Ug->Prop)(A2:Option Uj->Nat->Nat->Option Uj->Nat->Nat->Ug->Prop)
 (X:Ul (∀W,bV (eH (eH w s.cells 57) #[I_ 0,bO,bO,bO,I_ 0] 73) W->Ue Un 112 #[s.val] W λe y=>∃x n c,e=bY (P_ x n c)/\Z x n c y))
 (HV:Ul (∀x n c W,Z x n c W->W.heap[H_ w]?=Ua (cD s.cells 57)/\Ue Un 113 #[s.val] W λe y=>∃j k d,e=bY (P_ j k d)/\A2 x n c j k d y))
 (HC:Ul (∀x n c j k d W,A2 x n c j k d W->W.heap[H_ w]?=Ua (cD s.cells 57)/\Ue Un 114 #[P_ s.x3 s.n3 s.c3] W λe y=>∃q r p,e=bY (P_ q r p)/\A3 ⟨s.t,x,j,q,n,k,r,c,d,p,s.q⟩ y))
 (HP:Ul (∀m W,A3 m W->W.heap[H_ w]?=Ua (cD s.cells 57)/\(∃c,W.heap[H_ w+1]?=Ua (cD c 73)/\c.size=5)/\P m (jR W (H_ w+1) m))):
 Ue Un 62 #[s.val] w λe y=>∃m:SV,e=bY m.val/\P m y:=by
 unfold SV.val SV.cells at X;have o:=HV;unfold SV.val at o;unfold SV.val;go_in
 go_wp2_with fail;have HH:=aB (bV.drew (eH (eH w #[I_ s.t,P_ s.x1 s.n1 s.c1,P_ s.x2 s.n2 s.c2,P_ s.x3 s.n3 s.c3,I_ s.q] 57) #[I_ 0,bO,bO,bO,I_ 0] 73));have F:(eH (eH w #[I_ s.t,P_ s.x1 s.n1 s.c1,P_ s.x2 s.n2 s.c2,P_ s.x3 s.n3 s.c3,I_ s.q] 57) #[I_ 0,bO,bO,bO,I_ 0] 73).drew.heap[H_ w]?=Ua (cD (SV.cells s) 57):=(eh _ _ _ s_).trans (aZ _ _ rfl _)
 have d:=AG F;clear F;refine wp_region_held_drew (S:=λW=>dP W (H_ w) 0 (I_ s.t)/\dP W (H_ w) 1 (P_ s.x1 s.n1 s.c1)/\dP W (H_ w) 2 (P_ s.x2 s.n2 s.c2)/\dP W (H_ w) 3 (P_ s.x3 s.n3 s.c3)/\dP W (H_ w) 4 (I_ s.q)) k_ d (λb=>?_)
 clear d;refine eU 0 ?_;refine eU 1 ?_;refine eU 2 ?_;refine eU 4 ?_;refine eU 6 ?_;refine eU 7 ?_;refine eU 9 ?_;refine eU 10 ?_;refine sN 3 λK g=>?_
 go_simp;go_at_call 112
 apply (X _ HH).mono
 rintro e w3 ⟨U,T,Q,rfl,h3⟩;obtain⟨G,I⟩:=o _ _ _ _ h3;have z:=aB I;have N:=AG G;clear h3 G I X HV o HH;go_wp2_with fail;refine g.out _ _ N (λb=>?_)
 clear g K N;refine sN 5 λK g=>?_
 go_simp;go_at_call 113
 apply z.mono
 rintro e w4 ⟨j,k,d,rfl,h4⟩;obtain⟨O,E⟩:=HC _ _ _ _ _ _ _ h4;have D:=aB E;have B:=AG O;clear h4 O E HC z;go_wp2_with fail;refine g.out _ _ B (λb=>?_)
 clear g K B;refine sN 8 λK g=>?_
 go_simp;go_at_call 114
 apply D.mono
 rintro e V ⟨q,r,p,rfl,h5⟩;obtain⟨M,⟨c,A,aa⟩,L⟩:=HP _ _ h5;have C:=AG M;have u:=aB L;have a:=aB A;clear h5 M L HP D;go_wp2_with fail;refine g.out _ _ C (λb=>?_)
 clear g K;refine eU 11 ?_;refine sN 12 λK g=>?_
 have g0:=aA (i:=0) a (fh aD);have g1:=aA (i:=1) a (fh aD);have g2:=aA (i:=2) a (fh aD);have g3:=aA (i:=3) a (fh aD);have g4:=aA (i:=4) a (fh aD);have f0:=aF (i:=0) a;have f1:=aF (i:=1) a;have f2:=aF (i:=2) a;have f3:=aF (i:=3) a;have f4:=aF (i:=4) a;have l5:=aH a;have hs:=mO (W:=V) (s:=⟨s.t,U,j,q,T,k,r,Q,d,p,s.q⟩) a aD rfl;have H:∀i,T_ (jR V (H_ w+1) ⟨s.t,U,j,q,T,k,r,Q,d,p,s.q⟩) (aL (H_ w) i)=T_ V ⟨H_ w,i,none⟩:=λi=>World.cell?_of_block ((by grind [gZ]))
 have t:=aB hs;have J:=aB H;clear A hs H;unfold jR at t u J;go_simp;refine g.out _ _ mg (λb=>?_)
 refine wpAnyH_done k_ ?_ _
 have l:=t.out;have f:=u.out;clear t u a J g0 g1 g2 g3 g4 f0 f1 f2 f3 f4 b g C;generalize (Tz (Tz (Tz (Tz V (aL (H_ w+1) 0) (I_ s.t)) (aL (H_ w+1) 1) (P_ U T Q)) (aL (H_ w+1) 2) (P_ j k d)) (aL (H_ w+1) 3) (P_ q r p)).setCell (aL (H_ w+1) 4) (I_ s.q)=W6 at l f ⊢
 obtain⟨r0,r1,r2,r3,r4⟩:=l;have Y:=aB f;clear f;go_wp2
 exact bodyPost_ret (v:=Us #[I_ s.t,P_ U T Q,P_ j k d,P_ q r p,I_ s.q]) (by simp[results,results62,go_sem,r0,r1,r2,r3,r4]) rfl ⟨_,rfl,Y⟩
def YP:∀(n:Nat) (l:bP),Ty l<=n->∀c∈eD l,Ty c<=Ty l:=by
 intro n;induction n with
 |zero=>
  grind [gG]
 |succ n e=>
  intro l f c d;by_cases b:l=[]
  .grind
  by_cases a:bW l=0
  .grind [gG]
  rw[kG b a]at d;grind
def WQ(a b:aE)(h:aK a<=200):aK (cA a b).1<=200:=by
 unfold cA;split
 .exact oB
 split
 .exact oB
 have f:∀x∈kM a,aK x<=200:=λx d=>by
  unfold kM at d;rw[dE]at h;split at d
  .obtain⟨c,e,rfl⟩:=ik.1 d;have:=YP _ _ mJ c e;rw[oK];exact aD
  have:=pT d;exact aD
 grind
def QU(a:aE):aK (dO a).1<=200:=by
 unfold dO;repeat' split
 all_goals first|(exact aD)|exact oB
section
variable {sh:Bool} {fp:iU} {F:bN} {b_:Nat} {w:aN} {sb gf cap:Nat} {t0 tv u_ s0:aW} {v_:List j_} {below:List aI} {f:aI} {tape:List Int} {out:cY}
def Qr(h:dM sh fp F b_ w sb gf cap t0 tv u_ s0 v_ ⟨below++[f],tape,out⟩)(p:Ty below<=15)(d:b_<=H_ w)(j:Ty f.ops<=99000)(x:∃B a b,f.ops=B++[a,b]/\cS a):
 Ue Un 363 #[Us #[],bF sb] w (lJ sh fp F b_ sb gf t0 s0 (bE sh sb gf u_ v_) w below tape out (aR .index f)):=by
 obtain⟨B,a,b,s,A⟩:=x;have s:f.ops=(B++[a])++[b]:=G_
 have I:=h.xg d (cD #[] 400);have hf2 :=BI s;have n:=j;rw[s,ew,ew]at n;have H:Ty f.pop.ops<=100000:=G_
 have C:Ty f.pop.pop.ops<=100000:=by rw[BI hf2];exact aD
 have Q:aR .index f=if (cA a b).2=0 then (f.pop.pop.push (cA a b).1,0)else (f.pop.pop,(cA a b).2):=by grind [aR,nW]
 have hcl :=WQ a b;have m:∀(W:aN) (u v:aW),PV F W u a->PV F W v b->(∀k,F k->k<H_ W)->aK a<=200->aK b<=200->Ue Un 364 #[u,v] W (jA F W (cA a b)):=λW u v c g o L q=>Jd F u v a b W c g A aD o
 generalize cA a b=r at m Q hcl
 refine(RB w _ sb gf (Ty below*6) r.2 (λi=>r.2=0/\kS sh fp F b_ sb gf t0 s0 (bE sh sb gf u_ v_) w ⟨below++[f.pop.pop.push r.1],tape,out⟩ i) (λi=>r.2≠0/\kS sh fp F b_ sb gf t0 s0 (bE sh sb gf u_ v_) w ⟨below++[f.pop.pop],tape,out⟩ i)
  (λt z W=>PV F W (dH t z) b/\aK b<=200/\eL sh fp b_ sb gf (Ty below) t0 s0 (bE sh sb gf u_ v_) (eH w #[] 400) F ⟨below++[f.pop],tape,out⟩ W)
  (λt z J K W=>PV F W (dH t z) b/\aK b<=200/\PV F W (dH J K) a/\aK a<=200/\eL sh fp b_ sb gf (Ty below) t0 s0 (bE sh sb gf u_ v_) (eH w #[] 400) F ⟨below++[f.pop.pop],tape,out⟩ W)
  (λt z W=>(r.2=0/\aK r.1<=200)/\∃G,ss F G (H_ w)/\PV G W (dH t z) r.1/\eL sh fp b_ sb gf (Ty below) t0 s0 (bE sh sb gf u_ v_) (eH w #[] 400) G ⟨below++[f.pop.pop],tape,out⟩ W) rfl (I.uh p) (λW S=>?_) (λW t z l=>?_) (λW t z J K l=>?_) λW t z l=>?_).mono ?_
 .apply ((I.same S).pop s aD).mono
  simp
 .obtain⟨c,g,o⟩:=l;apply (o.Bb hf2 H).mono
  grind [PV.h_]
 .obtain⟨c,g,o,L,q⟩:=l;apply (m W _ _ o c (λk y=>(q.apart k y).1) L g).mono
  rintro e i ⟨N,⟨D,u,rfl,M⟩|⟨D,rfl⟩⟩
  .obtain⟨P,O,rfl⟩:=M.form;exact ed ⟨P,O,aJ,aD,Grow F W i,⟨λ_=>ed,λk y=>y.imp_right λc=>eo (eo s_ q.1.size) c.1⟩,M,(by grind [eL.grow,Grow])⟩
  exact ec ⟨aJ,D,(q.grow N (s_) G_).su (ss.refl _ _)⟩
 .obtain⟨⟨D,E⟩,G,T,c,g⟩:=l;apply (g.push c E C).mono
  grind [eL.su]
 grind [lJ.ok,lJ.stop]
def Pk(h:dM sh fp F b_ w sb gf cap t0 tv u_ s0 v_ ⟨below++[f],tape,out⟩)(d:Ty below<=15)(b:b_<=H_ w)(m:Ty f.ops<=99000)(g:∃n a,f.ops=n++[a]/\cS a):
 Ue Un 370 #[Us #[],bF sb] w (lJ sh fp F b_ sb gf t0 s0 (bE sh sb gf u_ v_) w below tape out (aR .length f)):=by
 obtain⟨n,a,o,j⟩:=g;have l:=h.xg b (cD #[] 409);have p:Ty f.pop.ops<=100000:=by grind [aI.pop]
 have q:aR .length f=if (dO a).2=0 then (f.pop.push (dO a).1,0)else (f.pop,(dO a).2):=by simp[aR,nW o]
 have e:=QU a;have c:∀(W:aN) (u:aW),PV F W u a->aK a<=200->Ue Un 371 #[u] W (jA F W (dO a)):=λW u h1 v=>Sp F u a W h1 j aD
 generalize dO a=r at c q e
 refine(LY w _ sb gf (Ty below*6) r.2 (λw'=>r.2=0/\kS sh fp F b_ sb gf t0 s0 (bE sh sb gf u_ v_) w ⟨below++[f.pop.push r.1],tape,out⟩ w') (λw'=>r.2≠0/\kS sh fp F b_ sb gf t0 s0 (bE sh sb gf u_ v_) w ⟨below++[f.pop],tape,out⟩ w')
  (λt z W=>PV F W (dH t z) a/\aK a<=200/\eL sh fp b_ sb gf (Ty below) t0 s0 (bE sh sb gf u_ v_) (eH w #[] 409) F ⟨below++[f.pop],tape,out⟩ W)
  (λt z W=>r.2=0/\∃G,ss F G (H_ w)/\PV G W (dH t z) r.1/\eL sh fp b_ sb gf (Ty below) t0 s0 (bE sh sb gf u_ v_) (eH w #[] 409) G ⟨below++[f.pop],tape,out⟩ W) rfl (l.uh d) (λW s=>?_) (λW t z k=>?_) λW t z k=>?_).mono ?_
 .apply ((l.same s).pop o aD).mono
  simp
 .obtain⟨h1,i,h5⟩:=k;apply (c W _ h1 i).mono
  exact TA
 .obtain⟨hz,G,x,h1,i⟩:=k;apply (i.push h1 e p).mono
  grind [eL.su]
 grind [lJ.ok,lJ.stop]
end
def ud(t:Ui)(f:Nat):Prop:=(∀recv w,(Go.method 596 t recv "hindsight/machine.do").run Un w=.ok (f,recv) w)/\∀a b w,(callFunc f #[a,b]).run Un w=.ok (.enter f #[a,b]) w
def iP(t:Ui):Prop:=∀v w,(typeAssert (Uv t v) 270 276 Ud).run Un w=.ok (Uu #[Us #[I_ 0,Ut none],Uw Uc]) w
def Hr(v:aW)(w:aN):(typeAssert (dH 276 v) 270 276 Ud).run Un w=.ok (Uu #[v,Uw Ud]) w:=k_
def P6:ud 276 344:=⟨λ_ _=>by kernel_rfl,s_⟩
def Km:ud 265 341:=⟨λ_ _=>by kernel_rfl,s_⟩
def Mz:ud 397 360:=⟨λ_ _=>by kernel_rfl,s_⟩
def RP:ud 368 348:=⟨λ_ _=>by kernel_rfl,s_⟩
def YD:ud 370 349:=⟨λ_ _=>by kernel_rfl,s_⟩
def Kg:ud 408 369:=⟨λ_ _=>by kernel_rfl,s_⟩
def YA:ud 407 368:=⟨λ_ _=>by kernel_rfl,s_⟩
def MK:ud 434 386:=⟨λ_ _=>by kernel_rfl,s_⟩
def P4:ud 432 385:=⟨λ_ _=>by kernel_rfl,s_⟩
def P3:ud 402 365:=⟨λ_ _=>by kernel_rfl,s_⟩
def YC:ud 431 376:=⟨λ_ _=>by kernel_rfl,s_⟩
def P5:ud 400 363:=⟨λ_ _=>by kernel_rfl,s_⟩
def Jo:ud 399 361:=⟨λ_ _=>by kernel_rfl,s_⟩
def YB:ud 409 370:=⟨λ_ _=>by kernel_rfl,s_⟩
def Kh:ud 410 373:=⟨λ_ _=>by kernel_rfl,s_⟩
def Om:ud 412 374:=⟨λ_ _=>by kernel_rfl,s_⟩
def Mw:ud 267 343:=⟨λ_ _=>by kernel_rfl,s_⟩
def Sl:ud 374 359:=⟨λ_ _=>by kernel_rfl,s_⟩
def ML:ud 373 357:=⟨λ_ _=>by kernel_rfl,s_⟩
def Ll:iP 265:=λ_ _=>by kernel_rfl
def Oj:iP 397:=λ_ _=>by kernel_rfl
def I8:iP 368:=λ_ _=>by kernel_rfl
def Jj:iP 370:=λ_ _=>by kernel_rfl
def Ga:iP 408:=λ_ _=>by kernel_rfl
def Gx:iP 407:=λ_ _=>by kernel_rfl
def VV:iP 434:=λ_ _=>by kernel_rfl
def RC:iP 432:=λ_ _=>by kernel_rfl
def Md:iP 402:=λ_ _=>by kernel_rfl
def Qx:iP 431:=λ_ _=>by kernel_rfl
def Jr:iP 400:=λ_ _=>by kernel_rfl
def Fl:iP 399:=λ_ _=>by kernel_rfl
def Jk:iP 409:=λ_ _=>by kernel_rfl
def Im:iP 410:=λ_ _=>by kernel_rfl
def Nx:iP 412:=λ_ _=>by kernel_rfl
def Ow:iP 267:=λ_ _=>by kernel_rfl
def Fw:iP 374:=λ_ _=>by kernel_rfl
def VW:iP 373:=λ_ _=>by kernel_rfl
def Db(t:Ui)(z:aW)(b:Bool):Prop:=(t=276/\(∃l p,z=Us #[I_ l,Ut p])/\b=Ud)\/(iP t/\b=Uc)
def Q3(w:aN)(i:Nat)(L:Nat->Ug->Prop)(P:mL)(S:Nat->Ug->Prop)(M:Nat->Nat->Nat->Ug->Prop)(N:Nat->Ui->Uf->Nat->Bool->Ug->Prop)(J:Nat)(o:L J w)
 (HL:Ul (∀k W,L k W->∃x n c,dP W i 1 (P_ x n c)/\i<H_ W/\n<=16/\(n=0->S 1 W)/\(n≠0->∃j,k=j+1/\∃f g,M j f g W)))
 (V:Ul (∀j f g W,M j f g W->Ue Un 152 #[bF i] W λe d=>e=bY (Ut (Ua (aL f g)))/\M j f g d))
 (Y:Ul (∀j f g W,M j f g W->Ue Un 153 #[Ut (Ua (aL f g))] W λe d=>∃t z a b,e=bY (dH t z)/\ud t a/\Db t z b/\N j t z a b d))
 (Z:Ul (∀j t z a b W,N j t z a b W->Ue Un a #[z,bF i] W λe d=>(e=fD/\(b=Ud->∀ob,P (d.alloc ob))/\(b=Uc->∀ob,L j (d.alloc ob)))\/(∃q,e=jD q/\S q d))):
 Ue Un 93 #[bF i] w λe d=>(e=fD/\P d)\/(∃q,e=jD q/\S q d):=by
 have U:=aB o;clear o;go_in
 go_wp2
 go_loopg [2,3,4] J (λgk _ _ _ wr=>L gk wr)
 case atStart=>exact U
 case round=>
  obtain⟨x,n,c,c1,hl,hn,C,E⟩:=HL _ _ hrel;by_cases o:n=0
  .subst o;have HZ:=aB (C aJ);clear hrel C E;go_wp2_with fail;exact⟨aJ,ec ⟨1,aJ,HZ⟩⟩
  obtain⟨j,rfl,f,g,Q⟩:=E o;have D:=aB (V _ _ _ _ Q);have K:(0:Int)<(n:Int):=aD;clear hrel C E Q;go_wp2_with fail;refine rf D λw1 O=>?_
  have F:=aB (Y _ _ _ _ O);clear O;go_wp2_with fail;apply F.mono
  rintro e T ⟨t,z,a,b,rfl,v,X,H⟩;have G:=aB (Z _ _ _ _ _ _ H);have r:=v.1 z T;have m:=v.2 z (bF i) T;clear H v;go_wp2_with fail;apply G.mono
  rintro e I (⟨rfl,u,y⟩|⟨q,rfl,u⟩)
  .rcases X with ⟨rfl,⟨l,p,rfl⟩,rfl⟩|⟨s,rfl⟩
   .have A:=Hr (Us #[I_ l,Ut p]) I;have B:=aB (u aJ);clear u y r m;go_wp2_with fail;exact⟨aJ,_,results_none r_ _ _ _,ed ⟨rfl,B _⟩⟩
   have A:=s z I;have B:=aB (y aJ);clear u y r m s;go_wp2
   go_roundg j
   case measure=>exact aD
   case rel=>exact B _
  go_wp2_with fail;exact⟨aJ,G_⟩
def tA{l:List f}(h:1<=Ty l):∃c a,l=c++[a]:=by
 rcases gB l with e|⟨b,x,e⟩
 .grind
 grind
def QA{l:List f}{n:Nat}(h:n<=Ty l):∃b a,l=b++a/\Ty a=n:=
 ⟨l.take (Ty l-n),l.drop (Ty l-n),s_,G_⟩
def Dt{l:List f}(h:2<=Ty l):∃c a b,l=c++[a,b]:=by
 obtain⟨c,d,e,g⟩:=QA h;match d,g with
 |[a,b],_=>grind
section
variable {fp:iU} {F:bN} {b_:Nat} {w:aN} {sb gf cap:Nat} {t0 tv u_ s0:aW} {v_:List j_} {below:List aI} {f0 f:aI} {tape:List Int} {out:cY}
def Pd{r:Bool}{i:aO}{v:aW}(B:Ei i f)(h:dM r fp F b_ w sb gf cap t0 tv u_ s0 v_ ⟨below++[f],tape,out⟩)(d:Ty below<=15)(c:b_<=H_ w)(j:lR fp F w v i):
 ∃t z m,v=dH t z/\ud t m/\iP t/\Ue Un m #[z,bF sb] w (lJ r fp F b_ sb gf t0 s0 (bE r sb gf u_ v_) w below tape out (aR i f)):=by
 obtain⟨G,g,A,o,I,D,T,p,⟨-, -,H⟩,J,K⟩:=B;cases i<;>first|(cases G)|skip
 case push a=>
  obtain⟨u,rfl,y,x⟩:=j;refine⟨_,_,_,aJ,Km,Ll,(E7 fp F b_ w sb gf cap t0 tv u_ s0 v_ below _ tape out u a h y x aD d c).mono ?_⟩;grind [lJ.ok,aR]
 case load k=>
  obtain rfl:=j;exact⟨_,_,_,aJ,Mz,Oj,Jp k h d c g aD⟩
 case rs wh q=>
  obtain rfl:=j;exact⟨_,_,_,aJ,MK,VV,UO wh q h d c g (tA aD)⟩
 case sk=>
  obtain rfl:=j;exact⟨_,_,_,aJ,P4,RC,Jt h d c g (tA aD)⟩
 case unary op=>
  obtain rfl:=j;exact⟨_,_,_,aJ,P3,Md,Mj op (A.fn.2 op o) h d c g (tA aD)⟩
 case binary op=>
  obtain rfl:=j;exact⟨_,_,_,aJ,YC,Qx,Hn op h d c g (Dt aD)⟩
 case index=>
  obtain rfl:=j;obtain⟨s,a,b,e⟩:=Dt (l:=f.ops) aD;exact⟨_,_,_,aJ,P5,Jr,Qr h d c g (by grind [bU.ops])⟩
 case list n=>
  obtain rfl:=j;obtain⟨s,C,E,rfl⟩:=QA (l:=f.ops) (n:=n) aD;exact⟨_,_,_,aJ,Jo,Fl,Gi s C h d c g E⟩
 case length=>
  obtain rfl:=j;obtain⟨s,a,e⟩:=tA (l:=f.ops) aD;exact⟨_,_,_,aJ,YB,Jk,Pk h d c g (by grind [bU.ops])⟩
def Lz{A:Nat->Option Nat}{m:List eM}{i:aO}{v:aW}(Z:mT A m)(N:iS A ⟨below++[f0],tape,out⟩)(ac:f0.se=Ua (i,f))(hU:iQ ⟨below++[f0],tape,out⟩)
 (h:dM Uc fp F b_ w sb gf cap t0 tv u_ s0 v_ ⟨below++[f],tape,out⟩) (hT:oD fp F w m) (hp:DX (bE Uc sb gf u_ v_) w) (c:b_<=H_ w) (L:Ty out<=50) (M:Ty tape<=17592186044416) (r:lR fp F w v i):
 ∃t z u b,v=dH t z/\ud t u/\Db t z b/\b=i.rj/\Ue Un u #[z,bF sb] w (Ai fp F b_ sb t0 s0 (bE Uc sb gf u_ v_) w (cF m i below f tape out)):=by
 have y:∀x∈below,eI A x 1:=by have:=N.ok.low;grind
 have H:eI A f0 0:=N.ok.top f0 (s_)
 have d:Ty below<=15:=by have:=N.ok.deep;grind
 have Q:bU f0:=hU f0 s_
 obtain⟨⟨T,Y,hh,hv,he⟩,aa,hs,hm⟩:=H
 obtain⟨rfl,hi⟩:f={ f0 with next:=f0.next+1 }/\f0.fn.code[f0.next]?=Ua i:=by grind [aI.se]
 obtain⟨G,S,I⟩:=Y.ins _ _ hi;have ab:=Y.len;have j:Ty f0.ops<=99000:=aD
 have P:∀g∈below,Ty g.ops<=99000:=λg hg=>by obtain⟨⟨T',D,ad,_⟩,O,_⟩:=y g hg;have h1:=(D.ins _ _ (fe O)).2.1;have h2:=D.len;exact aD
 have C:i∈f0.fn.code:=(by grind)
 by_cases o:i.Ak=Ud
 .obtain⟨t,z,u,K,W,X,e4⟩:=Pd (f:={ f0 with next:=f0.next+1 }) ⟨o,j,Q.next _,C,A,_,T,_,⟨G,S,I⟩,hh,hv⟩ h d c r
  refine⟨t,z,u,Uc,K,W,ec G_,(by grind [aO.rj,aO.Ak]),e4.mono λ_ _ h=>?_⟩
  rw[oI (by rintro rfl;cases o) (by rintro rfl;cases o) (by rintro rfl;cases o) (by rintro k n rfl;cases o)]
  exact h.Cm
 clear G;cases i<;>first|(exact eu aJ o;done)|skip
 case begin l s=>
  obtain⟨sp,rfl,E⟩:=r;obtain⟨p,rfl⟩:=E.form;exact⟨_,_,_,Ud,aJ,P6,(by grind [Db]),rfl,(Lj l _ s h d c E).mono λ_ _ h=>h.Cm⟩
 case declare k=>
  obtain rfl:=r;exact⟨_,_,_,Uc,aJ,RP,ec ⟨I8,aJ⟩,aJ,P7 k h d c j (tA G_) G_ hm⟩
 case assign k n=>
  obtain rfl:=r;obtain⟨J,U,K,W⟩:=QA (l:=f0.ops) (n:=n+1) aD;obtain⟨B,b,rfl⟩:=tA (l:=U) aD;have X:Ty B=n:=G_
  subst X;exact⟨_,_,_,Uc,aJ,YD,ec ⟨Jj,aJ⟩,aJ,Hq k J B b h d c j G_ G_⟩
 case jump q=>
  obtain rfl:=r;exact⟨_,_,_,Uc,aJ,Kg,ec ⟨Ga,aJ⟩,aJ,(Hl q h d c).mono λ_ _ h=>h.Cm⟩
 case skip q=>
  obtain rfl:=r;exact⟨_,_,_,Uc,aJ,YA,ec ⟨Gx,aJ⟩,aJ,(i6 q h d c j (tA G_)).mono λ_ _ h=>h.Cm⟩
 case read=>
  obtain rfl:=r;exact⟨_,_,_,Uc,aJ,Kh,ec ⟨Im,aJ⟩,aJ,Qa m h d c j M⟩
 case call k n=>
  obtain rfl:=r;obtain⟨J,U,K,rfl⟩:=QA (l:=f0.ops) (n:=n) aD;obtain⟨fn,_,V,_⟩:=Z.fn k _ I.2.1;exact⟨_,_,_,Uc,aJ,Om,ec ⟨Nx,aJ⟩,aJ,Fo m k fn J U h d c j K hT V⟩
 case sg=>
  obtain rfl:=r;exact⟨_,_,_,Uc,aJ,Mw,ec ⟨Ow,aJ⟩,aJ,Hy m h d c j (tA G_) P⟩
 case drop=>
  obtain rfl:=r;exact⟨_,_,_,Uc,aJ,Sl,ec ⟨Fw,aJ⟩,aJ,(Sa h d c j (tA G_)).mono λ_ _ h=>h.Cm⟩
 case print=>
  obtain rfl:=r;obtain⟨J,a,e⟩:=tA (l:=f0.ops) aD;exact⟨_,_,_,Uc,aJ,ML,ec ⟨VW,aJ⟩,aJ,Kv m h hp d c j e L⟩
end
def Sw{f:aI}{r:dA × Nat}(h:fG A (R+1) ⟨l++[g],e,n⟩=Ua r)(d:g.se=Ua (i,f)):
 ((cF A i l f e n).2≠0->r=cF A i l f e n)/\((cF A i l f e n).2=0->i.rj=Ud->r=cF A i l f e n)/\((cF A i l f e n).2=0->i.rj=Uc->fG A R (cF A i l f e n).1=Ua r):=by
 grind [fG]
def X5(c:Ty n<=50):(cF A i l g e n).1.out.length<=50:=by cases i<;>simp [cF]<;>(repeat' split)<;>first|exact c|grind
def XZ:(cF A i l g e n).1.tape.length<=Ty e:=by cases i<;>simp [cF]<;>(repeat' split)<;>first|exact fi _|simp
section
variable {fp:iU} {F:bN} {b_:Nat} {w:aN} {sb gf cap:Nat} {t0 tv u_ s0:aW} {v_:List j_} {below:List aI} {f0 f:aI} {tape:List Int} {out:cY}
def dM.Au{c:Bool}{i:aO}(h:dM c fp F b_ w sb gf cap t0 tv u_ s0 v_ ⟨below++[f0],tape,out⟩)(V:f0.se=Ua (i,f))(G:Ty f0.fn.code<=1000000):
 Ue Un 153 #[Ut (Ua (aL gf (Ty below*6)))] w λe k=>∃v a,e=bY v/\lR fp F k v i/\dM c fp F b_ k sb gf cap t0 tv u_ s0 a ⟨below++[f],tape,out⟩/\Kept (bE c sb gf u_ v_) w k/\bE c sb gf u_ a=bE c sb gf u_ v_:=by
 obtain⟨I,v,n,rfl,o,p,B,d,A,z,y,W,S,Y,T⟩:=h.top;rw[<-o]
 obtain⟨J,rfl⟩:f0.fn.code[f0.next]?=Ua i/\f={ f0 with next:=f0.next+1 }:=by grind [aI.se]
 obtain⟨g,r⟩:=hZ.1 J;obtain⟨l,H,O,N,K,U,L,X,C,D⟩:=p.fn;obtain⟨u,u1,u2⟩:=D f0.next g
 rw[r]at u2;rw[K]at z;rw[p.nx]at y;apply (Sf gf (Ty I*6) l H (Ty f0.fn.code) O f0.next n _ u w d z y L (aA C u1) u2.form g G).mono
 rintro e k ⟨M,q,rfl⟩;have s:=bV.drewN w q;have t:=h.grow s.below (s_) (λ_ h=>ed h)
 have hv1 :=p.h_ (λb _=>by rw[s.heap]) MW s_
 have m:SN c fp F b_ (w.drewN q) { v with nx:=I_ ((f0.next+1:Nat):Int) } { f0 with next:=f0.next+1 }:=⟨hv1.fn,rfl,hv1.ln,hv1.sp,hv1.g_,hv1.ops⟩
 obtain⟨E,P⟩:=t.vm (j:=1) (x:=I_ ((f0.next+1:Nat):Int)) (v':={ v with nx:=I_ ((f0.next+1:Nat):Int) }) aD rfl rfl m
 refine⟨u,_,M,u2.h_ (λb Q=>?_) (s_),E,(Kept.p_ s.below).trans P G_,by simp[bE,dD,j_.ri]⟩
 grind [em,dM.apart,bE,bV.heap]
def E2(fp:iU)(F0:bN)(b_ sb:Nat)(t0 s0:aW)(own0:List Nat)(w0:aN)(ar:Nat->Option Nat)(si:List eM)(m:dA)(W:aN):Prop:=
 ∃F gf cap tv u_ v_,ss F0 F w0.heap.size/\dM Uc fp F b_ W sb gf cap t0 tv u_ s0 v_ m/\oD fp F W si/\Kept own0 w0 W/\(∀x∈bE Uc sb gf u_ v_,x∈own0\/w0.heap.size<=x)/\iS ar m/\iQ m/\Ty m.out<=50/\Ty m.tape<=17592186044416
def FP{Y:Nat->Option Nat}{n:List eM}{m:dA}{k:Nat}{r:dA × Nat}(ht:mT Y n)(ac:lH n)(h:dM Uc fp F b_ w sb gf cap t0 tv u_ s0 v_ m)(hT:oD fp F w n)(hp:DX (bE Uc sb gf u_ v_) w)(M:b_<=H_ w)
 (hA:iS Y m) (hU:iQ m) (af:Ty m.out<=50) (ag:Ty m.tape<=17592186044416) (B:fG n k m=Ua r):
 Ue Un 93 #[bF sb] w (Ai fp F b_ sb t0 s0 (bE Uc sb gf u_ v_) w r):=by
 generalize ad:bE Uc sb gf u_ v_=d at hp
 refine(Q3 w sb (λk W=>∃m,E2 fp F b_ sb t0 s0 d w Y n m W/\fG n k m=Ua r)
  (λW=>r.2=0/\sw fp F b_ sb t0 s0 d w r.1 W) (λq W=>q=r.2/\r.2≠0/\sw fp F b_ sb t0 s0 d w r.1 W)
  (λj Q fj W=>∃y gf cap tv u_ v_ a u c g,Q=gf/\fj=Ty a*6/\(ss F y (H_ w)/\dM Uc fp y b_ W sb gf cap t0 tv u_ s0 v_ ⟨a++[u],c,g⟩/\oD fp y W n/\Kept d w W/\(∀x∈bE Uc sb gf u_ v_,x∈d\/H_ w<=x))/\(iS Y ⟨a++[u],c,g⟩/\iQ ⟨a++[u],c,g⟩/\Ty g<=50/\Ty c<=17592186044416)/\fG n (j+1) ⟨a++[u],c,g⟩=Ua r)
  (λj t z D b W=>∃y gf cap tv u_ v_ a u f i c g,(ss F y (H_ w)/\dM Uc fp y b_ W sb gf cap t0 tv u_ s0 v_ ⟨a++[f],c,g⟩/\oD fp y W n/\Kept d w W/\(∀x∈bE Uc sb gf u_ v_,x∈d\/H_ w<=x))/\(iS Y ⟨a++[u],c,g⟩/\iQ ⟨a++[u],c,g⟩/\Ty g<=50/\Ty c<=17592186044416)/\fG n (j+1) ⟨a++[u],c,g⟩=Ua r/\u.se=Ua (i,f)/\b=i.rj/\
    Ue Un D #[z,bF sb] W (Ai fp y b_ sb t0 s0 (bE Uc sb gf u_ v_) W (cF n i a f c g)))
  k (by grind [ss.refl,Kept.refl,E2]) (λk W hL=>?_) (λj Q fj W hM=>?_) (λj Q fj W hM=>?_) λj t z D b W hN=>?_).mono ?_
 .obtain⟨m,⟨y,gf,cap,tv,u_,v_,S,A,U,E,N,H,V,g8,Z⟩,B⟩:=hL;have P:=A.count;have hd:=H.ok.deep;refine⟨_,_,_,aA A.i_ aJ,aH A.i_,aD,λh0=>?_,λh0=>?_⟩
  .have hm:m.f_=[]:=(by grind)
   cases k with
   |zero=>rw[fG]at B;cases B
   |succ j=>
    grind [fG,sw]
  obtain⟨b,f,e⟩:=oU (l:=m.f_) (G_)
  obtain⟨fr,t,o⟩:=m;simp only at e;subst e;cases k with
  |zero=>rw[fG]at B;cases B
  |succ j=>exact⟨j,aJ,gf,Ty b*6,y,gf,cap,tv,u_,v_,b,f,t,o,aJ,aJ,G_,G_,B⟩
 .obtain⟨y,gf,cap,tv,u_,v_,b,f,t,o,rfl,rfl,⟨S,A,U,E,N⟩,⟨H,V,g8,Z⟩,B⟩:=hM;have P:=A.count;have hd:=H.ok.deep;have K:=A.i_;rw[P,ew,hJ]at K;simp at hd;apply (AR sb Q (Ty b) cap W (aA K aJ) aD).mono
  rintro e w' ⟨he,q,rfl⟩;have hS:=bV.drewN W q;exact⟨he,y,Q,cap,tv,u_,v_,b,f,t,o,aJ,aJ,⟨S,A.grow hS.below (s_) (G_),U.h_ (s_) (s_),E.trans (Kept.p_ (own:=[]) hS.below) (s_),N⟩,G_,B⟩
 .obtain⟨y,gf,cap,tv,u_,v_,b,u,t,o,rfl,rfl,⟨S,A,U,E,N⟩,⟨H,V,g8,Z⟩,B⟩:=hM;have htop :=H.ok.top u (s_)
  have J:=FD htop.next
  obtain⟨T,P, -⟩:=htop.code;have ah:=P.len;generalize u.fn.code[u.next]'htop.next=i at J
  apply (A.Au J aD).mono
  rintro e w' ⟨v,p,he,q1,q2,q3,q4⟩;have g3' :=U.h_ (λx C=>q3.block x (A.apart x C).1 (A.apart x C).2) MW
  have hk' :=E.trans q3 N;have hp' :=hp.step hk' (λx C=>N x (by rw[<-q4];exact C))
  obtain⟨t',z,D,bb,e1,e2,e3,e4,e5⟩:=Lz ht H J V q2 g3' hp' (eo M hk'.size) g8 Z q1;exact⟨t',z,D,bb,G_,e2,e3,y,Q,cap,tv,u_,p,b,u,_,i,t,o,G_,G_,B,J,e4,e5⟩
 .obtain⟨y,gf,cap,tv,u_,v_,a,u,f,i,tp,o,⟨S,A,U,E,N⟩,⟨H,V,g8,Z⟩,B,J,hb,P⟩:=hN;obtain⟨s1,s2,s3⟩:=Sw B J;apply P.mono
  rintro e w' ⟨he,aa,G,O,I,X,s,p,d1,d2,d3⟩;have hk' :=E.trans aa N
  have L:∀x∈bE Uc sb O s p,x∈d\/H_ w<=x:=λx C=>by
   rcases d3 x C with h1|h1
   .grind
   exact ec (eo E.size h1)
  have hTab :=U.h_ (λx C=>aa.block x (A.apart x C).1 (A.apart x C).2) d1.sub
  have hal :=λob=>(dz _ w').alloc mJ ob
  rcases he with ⟨hz,rfl⟩|⟨hz,rfl⟩
  .refine ed ⟨aJ,λab ob=>?_,λae ob=>?_⟩
   .have hr:=s2 hz (by rw[<-hb];exact ab)
    rw[hr];exact⟨hz,hk'.trans (Kept.p_ (own:=[]) (hal ob)) (s_),G,O,I,X,s,p,S.trans d1 E.size,d2.grow (hal ob) (s_) (G_),L⟩
   refine⟨_,⟨G,O,I,X,s,p,S.trans d1 E.size,d2.grow (hal ob) (s_) (G_),hTab.h_ (λx C=>(hal ob).block x (d2.apart x C).1) (s_),hk'.trans (Kept.p_ (own:=[]) (hal ob)) (s_),L,(DT ht H J).2.2 hz,JW ac V J,X5 g8,eo XZ Z⟩,G_⟩
  grind [ss.trans,Kept.size,sw]
 rintro e w' (⟨rfl,h1,h2⟩|⟨q,rfl,rfl,h1,h2⟩)
 .exact⟨ed G_,h2⟩
 exact⟨ec G_,h2⟩
end
def Og(v:aW)(w:aN):(typeAssert (dH 268 v) 20 268 Ud).run Un w=.ok (Uu #[v,Uw Ud]) w:=k_
def V5(b:Fn)(first a:Array Uf)(w:aN):(Instr.makeFunc b first a).run Un w=.ok (.func b first a) w:=rfl
def R0(p k:Nat)(a:List PanicEntry)(w:aN)(b:w.heap[p]?=Ua (cD #[I_ 0] 55)):
 CallsD Un 151 #[bF p] (.panicking ({ v:=dH 268 (I_ k),recovered:=Uc }::a)) w λe j d=>
  e=fD/\j=.panicking ({ v:=dH 268 (I_ k),recovered:=Ud }::a)/\d=Tz w (aL p 0) (I_ k):=by
 have n:=aA (i:=0) b aJ;have o:=aF (i:=0) b;have l:=aH b;have f:=Og;refine callsD_of_wpS func151 aJ λc m g=>?_
 apply wpS_seq
 apply wpS_region
 simp[wpOpsS,go_sem,recoverD,g,ntmps151,Exit.thenS];refine wpS_of_wp ?_;clear b;go_wp2_with fail;exact⟨aJ,_,aJ,Uu #[],by simp[results,results151],rfl,rfl,rfl⟩
def R1(p:Uj)(w:aN):
 CallsD Un 151 #[Ut (Ua p)] .returning w λe d c=>e=fD/\d=.returning/\c=w:=by
 refine callsD_of_wpS func151 aJ λa f b=>?_
 apply wpS_seq
 apply wpS_region
 simp[wpOpsS,recoverD,b,ntmps151];refine wpS_of_wp ?_;go_wp2_with fail;exact⟨aJ,a.mode,aJ,Uu #[],by simp[results],rfl,b,rfl⟩
def B4(b:Nat)(p:Uj)(w:aN)(R:Nat->Ug->Prop)(c:∀a W,(callFunc b #[a]).run Un W=.ok (.enter b #[a]) W)
 (l:Ue Un b #[Ut (Ua p)] (eH w #[I_ 0] 55) λe g=>∃k,T7 k e/\R k g/\g.heap[H_ w]?=Ua (cD #[I_ 0] 55)):
 Ue Un 92 #[.func (.func b) #[Ut (Ua p)] #[]] w λe g=>∃(k:Nat) (d:aN),e=bY (I_ k)/\R k d/\g=Tz d (aL (H_ w) 0) (I_ k):=by
 have r:=V5;have s:=c (Ut (Ua p)) (eH w #[I_ 0] 55);have n:=aB l;clear l c;go_enter_defers func92,ntmps92
 go_wp2_with fail;apply n.mono
 rintro e d ⟨k,o,q,j⟩;have x:=aB q;have m:=aA (i:=0) j aJ;have v:=aF (i:=0) j;have y:=aH j;clear q n;rcases o with ⟨rfl,rfl⟩|⟨o,rfl⟩
 .go_wp2_with fail;refine leaves_cons (f:=151) (args:= #[bF (H_ w)]) s_ kt ?_
  apply (R1 (aL (H_ w) 0) _).mono
  rintro e t u ⟨rfl,rfl,rfl⟩;simp[Leaves,settle,results,results92,go_sem,m];grind [d7]
 go_wp2_with fail;refine leaves_cons (f:=151) (args:= #[bF (H_ w)]) s_ kt ?_
 apply (R0 (H_ w) k [] _ j).mono
 rintro e t z ⟨rfl,rfl,rfl⟩;simp[Leaves,settle,results,results92,go_sem,m];grind [d7]
def Rb:(prog.info? 3).map (λi=>(i.zero,i.size,i.bytes))=Ua (Ua (I_ 0),1,8):=k_
def zA(g d n c:Nat)(b:List Uf)(w:aN)(y:Ty b=n*1)(B:n<=1000000)(C:∀j u,b[j]?=Ua u->T_ w (aL g (d+j))=Ua u)(t:∀u∈b,u.oneCell'=Ud):
 Ue Un 114 #[Uq (Ua (aL g d)) n c] w λe o=>∃v',e=bY v'/\o.ownsRow w.heap.size 9 1 v' n b/\R_ w o:=by
 obtain⟨v,z,k,l,m⟩:=info_parts JR;have s:∀(w:aN) (a:Option Uj) (n c p q:Nat),(binOp .eql 54 (Uq a n c) (Uq none p q)).run Un w=.ok (Uw a.isNone) w:=(by grind [Lib.run_eql_slice_nil,underlying54])
 go_in
 go_wp2_with (refine wpList_append_own _ r_ _ _ 54 r_ w.heap.size 9 v _ 1 16 underlying54 z k l m rfl d_ (Uq (Ua (aL w.heap.size 0)) 0 0) 0 [] r_ (ng) (aL g d) n c b r_ y (nn) t kk aD s_ ?_)
 intro v' A i f _;have x:=aB i;have r:=aB f;go_wp2
 go_ret;refine⟨_,aJ,by simpa using x.out,?_⟩
 exact((dz _ w).alloc (aD) _).grown r.out s_ nc
def yZ(w:aN):
 Ue Un 114 #[bO] w λe d=>e=bY (bO)/\d=w:=by
 have f:∀(w:aN) (a:Option Uj) (n c b g:Nat),(binOp .eql 54 (P_ a n c) (P_ none b g)).run Un w=.ok (Uw a.isNone) w:=(by grind [Lib.run_eql_slice_nil,underlying54])
 go_in
 go_wp2
 go_ret;simp
def MR(g d n c:Nat)(b:List Uf)(w:aN)(y:Ty b=n*1)(B:n<=17592186044416)(C:∀j u,b[j]?=Ua u->dP w g (d+j) u)(t:∀u∈b,u.oneCell'=Ud):
 Ue Un 53 #[P_ (Ua (aL g d)) n c] w λe o=>∃v',e=bY v'/\o.ownsRow w.heap.size 3 1 v' n b/\R_ w o:=by
 obtain⟨v,z,k,l,m⟩:=info_parts Rb;have s:∀(w:aN) (a:Option Uj) (n c p q:Nat),(binOp .eql 22 (P_ a n c) (P_ none p q)).run Un w=.ok (Uw a.isNone) w:=(by grind [Lib.run_eql_slice_nil,underlying22])
 go_in
 go_wp2_with (refine wpList_append_own _ r_ _ _ 22 r_ w.heap.size 3 v _ 1 8 underlying22 z k l m rfl d_ (P_ (Ua (aL w.heap.size 0)) 0 0) 0 [] r_ (ng) (aL g d) n c b r_ y (nn) t kk aD s_ ?_)
 intro v' A i f _;have x:=aB i;have r:=aB f;go_wp2
 go_ret;refine⟨_,aJ,by simpa using x.out,?_⟩
 exact((dz _ w).alloc (aD) _).grown r.out s_ nc
def MQ(w:aN):
 Ue Un 53 #[bO] w λe d=>e=bY (bO)/\d=w:=by
 have f:∀(w:aN) (a:Option Uj) (n c b g:Nat),(binOp .eql 22 (P_ a n c) (P_ none b g)).run Un w=.ok (Uw a.isNone) w:=(by grind [Lib.run_eql_slice_nil,underlying22])
 go_in
 go_wp2
 go_ret;simp
def MS(g d n c:Nat)(b:List Uf)(w:aN)(y:Ty b=n*6)(B:n<=1000000)(C:∀j u,b[j]?=Ua u->T_ w (aL g (d+j))=Ua u)(t:∀u∈b,u.oneCell'=Ud):
 Ue Un 275 #[Uq (Ua (aL g d)) n c] w λe o=>∃v',e=bY v'/\o.ownsRow w.heap.size 111 6 v' n b/\R_ w o:=by
 obtain⟨v,z,k,l,m⟩:=info_parts OH;have s:∀(w:aN) (a:Option Uj) (n c p q:Nat),(binOp .eql 53 (Uq a n c) (Uq none p q)).run Un w=.ok (Uw a.isNone) w:=(by grind [Lib.run_eql_slice_nil,underlying53])
 go_in
 go_wp2_with (refine wpList_append_own _ r_ _ _ 53 r_ w.heap.size 111 v _ 6 80 underlying53 z k l m rfl d_ (Uq (Ua (aL w.heap.size 0)) 0 0) 0 [] r_ (ng) (aL g d) n c b r_ y (nn) t kk aD s_ ?_)
 intro v' A i f _;have x:=aB i;have r:=aB f;go_wp2
 go_ret;refine⟨_,aJ,by simpa using x.out,?_⟩
 exact((dz _ w).alloc (aD) _).grown r.out s_ nc
def Hm(w:aN)(b a:Nat)(R:Nat->Ug->Prop)(P:mL)(r:a<=1000000)
 (n:Ul (Ue Un 92 #[.func (.func 93) #[bF b] #[]] w λe f=>∃k:Nat,k<=1000/\e=bY (I_ k)/\R k f))
 (m:Ul (∀k W,R k W->(∃u,dP W b 4 u)/\W.frozen? (aL b 4)=Uc/\b<H_ W/\dP W b 0 (I_ a)))
 (j:Ul (∀k W,R k W->¬(k=0/\a=500)->P (Tz W (aL b 4) (I_ k))))
 (p:Ul (∀W,R 0 W->a=500->P (Tz (Tz W (aL b 4) (I_ 0)) (aL b 4) (I_ 9)))):
 Ue Un 54 #[bF b] w λe f=>e=fD/\P f:=by
 have l:=V5;go_in
 go_wp2_with fail;apply n.mono
 rintro e q ⟨k,s,rfl,c⟩;obtain⟨⟨u,x⟩,t,y,v⟩:=m _ _ c;by_cases g:k=0
 .subst g;by_cases i:a=500
  .subst i;have d:=aB (p _ c aJ);clear c;go_wp2
   go_end0;exact⟨aJ,d⟩
  have d:=aB (j _ _ c λh=>i h.2)
  have o:¬(a:Int)=500:=aD;clear c;go_wp2
  go_end0;exact⟨aJ,d⟩
 have d:=aB (j _ _ c λh=>g h.1)
 have o:¬(k:Int)=0:=aD;clear c;go_wp2
 go_end0;exact⟨aJ,d⟩
section
variable {fp:iU} {F:bN} {b_:Nat} {w:aN} {sb gf cap:Nat} {t0 tv u_ s0:aW} {v_:List j_}
def dM.wy{m:dA}(h:dM Uc fp F b_ w sb gf cap t0 tv u_ s0 v_ m)(x:aW):dM Uc fp F b_ (Tz w (aL sb 4) x) sb gf cap t0 tv u_ x v_ m/\Kept (bE Uc sb gf u_ v_) w (Tz w (aL sb 4) x):=by
 obtain⟨g,i⟩:=ey.1 h.nodup;have a:∀k,k≠sb->(Tz w (aL sb 4) x).heap[k]?=w.heap[k]?:=(by grind [em])
 have hFk :=λb d=>a b λe=>(h.apart b d).2 mi
 refine⟨⟨aP h.i_,bC h.row λk e=>a k ?_,h.uy.h_ hFk (s_) λv f k c=>a k ?_,h.tape.h_ hFk (s_),bC h.out λk e=>a k ?_,h.nodup,λk a=>by simpa using h.lt k a,pw⟩,⟨rfl,rfl,rfl,s_,pi⟩⟩
 .cases e;grind
 .grind [dD]
 grind
def Je(a:aW)(W:aN):(callFunc 93 #[a]).run Un W=.ok (.enter 93 #[a]) W:=k_
def WT{K:Nat->Option Nat}{j:List eM}{m:dA}{k a:Nat}{r:dA × Nat}(V:mT K j)(D:lH j)(h:dM Uc fp F b_ w sb gf cap (I_ a) tv u_ s0 v_ m)(hT:oD fp F w j)(hp:DX (bE Uc sb gf u_ v_) w)(o:b_<=w.heap.size)
 (hA:iS K m) (hU:iQ m) (B:Ty m.out<=50) (C:Ty m.tape<=17592186044416) (L:fG j k m=Ua r) (I:a<=1000000) (ab:r.2<=1000):
 Ue Un 54 #[bF sb] w λe z=>e=fD/\sw fp F b_ sb (I_ a) (I_ (cB a r.2)) (bE Uc sb gf u_ v_) w r.1 z:=by
 have t:R_ w (T6 w (Uy #[I_ 0] 55)):=(by grind [ep,dz])
 have X:=h.grow t (s_) (λ_ h=>ed h)
 have E:oD fp F (T6 w (Uy #[I_ 0] 55)) j:=hT.h_ ((by grind [eg,dM.apart])) s_
 have n:Kept (bE Uc sb gf u_ v_) w (T6 w (Uy #[I_ 0] 55)):=Kept.p_ t;have Y:=FP V D X E ((by grind [DX.step])) (eo o n.size) hA hU B C L
 have A:(T6 w (Uy #[I_ 0] 55)).heap[w.heap.size]?=Ua (Uy #[I_ 0] 55):=aZ _ _ aJ _;have N:w.heap.size∉bE Uc sb gf u_ v_:=λhm=>by have:=h.lt _ hm;exact aD
 have hS:=B4 93 (aL sb 0) w (λk W=>k=r.2/\sw fp F b_ sb (I_ a) s0 (bE Uc sb gf u_ v_) (T6 w (Uy #[I_ 0] 55)) r.1 W) Je (Y.mono λe z J=>by grind [Kept.block,sw,Ai])
 generalize ac:T6 w (Uy #[I_ 0] 55)=O at*
 have hD:∀W x,sw fp F b_ sb (I_ a) s0 (bE Uc sb gf u_ v_) O r.1 W->sw fp F b_ sb (I_ a) s0 (bE Uc sb gf u_ v_) w r.1 (Tz W (aL w.heap.size 0) x):=λW x J=>by
  obtain⟨p,G,g,f,l,c,d,y,i,s⟩:=J;have aa:w.heap.size<O.heap.size:=G_
  have Z:¬F w.heap.size:=λhF=>by have:=(h.apart _ hF).1;exact aD
  have T:w.heap.size∉bE Uc sb g c d:=(by grind)
  have P:∀b,G b->b≠w.heap.size:=(by grind [ss.new])
  have L:∀k,k≠w.heap.size->(Tz W (aL w.heap.size 0) x).heap[k]?=W.heap[k]?:=(by grind [em])
  have H:∀k∈bE Uc sb g c d,(Tz W (aL w.heap.size 0) x).heap[k]?=W.heap[k]?:=(by grind)
  have u:∀b,G b->(Tz W (aL w.heap.size 0) x).heap[b]?=W.heap[b]?:=(by grind)
  refine⟨⟨p.os.trans n.os,p.tape.trans n.tape,p.output.trans n.output,(by grind [Nat.le_trans,Kept.size]),λk h1 h2=>?_⟩,G,g,f,l,c,d,y.le (aD),⟨by grind [bE,dM.i_],bC i.row λk e=>?_,i.uy.h_ u (s_) λv hv k U=>H k ?_,i.tape.h_ u (s_),bC i.out pi,i.nodup,(by grind [dM.lt]),pw⟩,G_⟩
  .grind [Kept.block]
  .cases e;grind [bE]
  grind [dD,bE]
 refine(Hm w sb a (λk W=>k=r.2/\sw fp F b_ sb (I_ a) s0 (bE Uc sb gf u_ v_) w r.1 W) (λz=>sw fp F b_ sb (I_ a) (I_ (cB a r.2)) (bE Uc sb gf u_ v_) w r.1 z) I (hS.mono ?_) (λk W q=>?_) (λk W q Q=>?_) λW q Q=>?_)
 .grind
 .obtain⟨_,_,G,g,f,l,c,d,_,i,_⟩:=q;exact⟨⟨_,aA i.i_ aJ⟩,aF i.i_,aH i.i_,aA i.i_ aJ⟩
 .obtain⟨rfl,p,G,g,f,l,c,d,y,i,s⟩:=q;obtain⟨M,S⟩:=i.wy (I_ r.2);grind [cB,Kept.trans,sw]
 obtain⟨hz,p,G,g,f,l,c,d,y,i,s⟩:=q;obtain⟨M,S⟩:=i.wy (I_ 0);obtain⟨q3,q4⟩:=M.wy (I_ 9);have e:cB a r.2=9:=ef ⟨hz.symm,Q⟩;rw[e];exact⟨(p.trans S s).trans q4 s,G,g,f,l,c,d,y,q3,s⟩
end
structure Ax(fp:iU)(F:bN)(w:aN)(v:j_)(f:aI):Prop where
 fn:ZG fp F w v.fp f.fn
 nx:v.nx=I_ f.next
 ln:v.ln=I_ f.l_
 sp:gQ F w v.sp f.e_
 g_:tw F w v.vv f.g_
 zt:∀a∈f.g_,aK a<=200
 ops:tw F w v.ov f.ops
 Cj:∀a∈f.ops,aK a<=200
def Ax.h_{d:iU}{w':aN}{v:j_}(h:Ax d F w v g)(a:∀b,F b->w'.heap[b]?=w.heap[b]?)(c:∀b,F b->p b):Ax d p w' v g:=
 ⟨h.fn.h_ a c,h.nx,h.ln,gQ.h_ a c h.sp,(h.g_.h_ a).mono c,h.zt,(h.ops.h_ a).mono c,h.Cj⟩
def yJ(fp:iU)(F:bN)(w:aN):List j_->List aI->Prop
 |[],[]=>True
 |v::vs,f::fs=>Ax fp F w v f/\yJ fp F w vs fs
 |_,_=>False
def yJ.h_{d:iU}{w':aN}(a:∀b,F b->w'.heap[b]?=w.heap[b]?)(f:∀b,F b->p b):∀{c:List j_} {e:List aI},yJ d F w c e->yJ d p w' c e
 |[],[],_=>trivial
 |_::_,_::_,⟨i,g⟩=>⟨i.h_ a f,yJ.h_ a f g⟩
 |[],_::_,h=>h.elim
 |_::_,[],h=>h.elim
def yJ.length{b:iU}:∀{vs:List j_} {a:List aI},yJ b F w vs a->Ty vs=Ty a
 |[],[],_=>rfl
 |_::_,_::_,⟨_,h⟩=>by simp[yJ.length h]
 |[],_::_,h=>h.elim
 |_::_,[],h=>h.elim
def yJ.get:∀{vs:List j_} {c:List aI},yJ H F w vs c->∀(i:Nat) v f,vs[i]?=Ua v->c[i]?=Ua f->Ax H F w v f
 |[],[],_,i,v,f,a,_=>by simp at a
 |_::_,_::_,⟨h,_⟩,0,v,f,a,d=>by grind
 |_::_,_::_,⟨_,h⟩,i+1,v,f,a,d=>yJ.get h i v f G_ G_
 |[],_::_,h,_,_,_,_,_=>h.elim
 |_::_,[],h,_,_,_,_,_=>h.elim
def CO(F:bN)(w:aN)(v:aW)(v_:List j_):Prop:=
 (v_=[]/\∃x c,v=Uq x 0 c)\/∃g c cur,v=Uq (Ua (aL g 0)) (Ty v_) c/\F g/\w.heap[g]?=Ua (Uy cur 111)/\Ty v_<=c/\cur.toList.take (Ty v_*6)=kQ v_
def CO.h_{w':aN}{a:List j_}(h:CO F w v a)(k:∀b,F b->w'.heap[b]?=w.heap[b]?)(j:∀b,F b->p b):CO p w' v a:=by
 rcases h with h|⟨g,c,d,i,e,l,f⟩
 .exact ed h
 exact ec ⟨g,c,d,i,j g e,G_,f⟩
def CJ(F:bN)(w:aN)(v:aW)(l:cY):Prop:=
 (l=[]/\v=bO)\/∃g c cur,v=Uq (Ua (aL g 0)) (Ty l) c/\F g/\w.heap[g]?=Ua (Uy cur 9)/\Ty l<=c/\cur.toList.take (Ty l)=pD l
def CJ.h_{w':aN}(h:CJ F w v n)(j:∀b,F b->w'.heap[b]?=w.heap[b]?)(i:∀b,F b->p b):CJ p w' v n:=by
 rcases h with h|⟨g,c,a,f,d,k,e⟩
 .exact ed h
 exact ec ⟨g,c,a,f,i g d,G_,e⟩
def pC(fp:iU)(F:bN)(w:aN)(v:aW)(s:dB):Prop:=
 ∃fv tv u_ v_,v=Us #[I_ s.m_,fv,tv,u_,I_ s.stop]/\CO F w fv v_/\yJ fp F w v_ s.m.f_/\pF F w tv s.m.tape/\CJ F w u_ s.m.out
theorem pC.h_{w':aN}(h:pC H F w v s)(c:∀b,F b->w'.heap[b]?=w.heap[b]?)(d:∀b,F b->p b):pC H p w' v s:=by obtain⟨n,i,a,e,k,g,m,j,l⟩:=h;exact⟨n,i,a,e,k,g.h_ c d,m.h_ c d,j.h_ c d,l.h_ c d⟩
def lS.kept{G:bN}(d:∀k,F k->G k):∀{c:List j_} {f:List aI},lS Uc H F R w c f->(∀v∈c,∀k∈(v.ri Uc),G k)->yJ H G w c f
 |[],[],_,_=>trivial
 |v::_,_::_,⟨a,g⟩,l=>by have q:=l v (jk ..);obtain⟨⟨n,r,s⟩,j⟩:=a.g_;obtain⟨⟨p,m,o⟩,i⟩:=a.ops;exact⟨⟨a.fn.h_ (s_) d,a.nx,a.ln,gQ.h_ (s_) d a.sp,(by grind [tw.ofRow,iE.mono,j_.ri]),j,(by grind [tw.ofRow,iE.mono,j_.ri]),i⟩,lS.kept d g G_⟩
 |[],_::_,h,_=>h.elim
 |_::_,[],h,_=>h.elim
def dM.kept{r:iU}{G:bN}{c b:Nat}{p a:aW}{m:dA}(h:dM Uc r F R w J K L (I_ c) p a (I_ b) I m)(u:∀k,F k->G k)(C:∀k∈bE Uc J K a I,k≠J->G k):
 pC r G w (Us #[I_ c,Uq (Ua (aL K 0)) (Ty I) L,p,a,I_ b]) ⟨c,m,b⟩:=by
 obtain⟨E,H⟩:=ey.1 h.nodup;have y:∀k,k∈K::(a.ownBlock.toList++dD Uc I)->G k:=(by grind [bE])
 refine⟨_,p,a,I,aJ,?_,lS.kept u h.uy λv D k B=>y k ?_,h.tape.h_ (s_) u,?_⟩
 .rcases h.row.2 with ⟨i,_⟩|⟨t,e,g,i,x,n,o,A,z,s⟩
  .cases i
  cases i;exact ec ⟨K,L,g,aJ,G_,n,o,s⟩
 .grind [dD]
 rcases h.out.2 with ⟨i,x⟩|⟨t,e,g,i,x,n,o,A,z,s⟩
 .grind [CJ]
 exact ec ⟨t,e,g,i,nc,n,o,G_⟩
theorem Kept.setCell{W:aN}(h:Kept m w W)(p:Uj)(x:aW)(a:p.block∈m):Kept m w (W.setCell p x):=
 ⟨h.os,h.tape,h.output,by simpa using h.size,(by grind [em,Kept.block])⟩
def YI(w w2:aN)(b a x0 n c0:Nat)(I z B:aW)(P:Uf->Ug->Prop)(A:Nat->Nat->Ug->Prop)(C E:Nat->Nat->Nat->Ug->Prop)(D1 D2:Nat->Nat->Nat->Option Uj->Nat->Nat->Ug->Prop)(O:Nat->Nat->Option Uj->Nat->Nat->Ug->Prop)(hn:n<=100)
 (ab:I=Uq (Ua (aL x0 0)) n c0) (U:∃xa xl xc,B=Uq xa xl xc) (aa:∃Q Z K,z=Uq Q Z K)
 (hW:T6 (T6 w (Uy #[I_ b,I,z,B,I_ a] 57)) (Uy #[I_ 0,bO,bO,bO,I_ 0] 57)=w2)
 (HC:Ul (Ue Un 275 #[I] w2 λe p=>∃g cap,e=bY (Uq (Ua (aL g 0)) n cap)/\A g cap p))
 (HA:Ul (∀g cap W,A g cap W->(∃u,T_ W (aL w.heap.size 1)=Ua u)/\W.frozen? (aL w.heap.size 1)=Uc/\w.heap.size<W.heap.size/\C g cap 0 (Tz W (aL w.heap.size 1) (Uq (Ua (aL g 0)) n cap))))
 (HR:Ul (∀g cap j W,C g cap j W->T_ W (aL w.heap.size 1)=Ua (Uq (Ua (aL g 0)) n cap)/\w.heap.size<W.heap.size/\g<W.heap.size))
 (HV:Ul (∀g cap j W,C g cap j W->j<n->∃x l c,T_ W (aL g (j*6+4))=Ua (Uq x l c)/\Ue Un 276 #[Uq x l c] W λe p=>∃k f,e=bY (Uq k l f)/\D1 g cap j k l f p))
 (V:Ul (∀g cap j x l c W,D1 g cap j x l c W->(∃u,T_ W (aL g (j*6+4))=Ua u)/\W.frozen? (aL g (j*6+4))=Uc/\g<W.heap.size/\E g cap j (Tz W (aL g (j*6+4)) (Uq x l c))))
 (HE:Ul (∀g cap j W,E g cap j W->∃x l c,T_ W (aL g (j*6+5))=Ua (Uq x l c)/\g<W.heap.size/\Ue Un 276 #[Uq x l c] W λe p=>∃k f,e=bY (Uq k l f)/\D2 g cap j k l f p))
 (J:Ul (∀g cap j x l c W,D2 g cap j x l c W->(∃u,T_ W (aL g (j*6+5))=Ua u)/\W.frozen? (aL g (j*6+5))=Uc/\g<W.heap.size/\C g cap (j+1) (Tz W (aL g (j*6+5)) (Uq x l c))))
 (HO:Ul (∀g cap W,C g cap n W->T_ W (aL w.heap.size 3)=Ua B/\Ue Un 114 #[B] W λe p=>∃k H f,e=bY (Uq k H f)/\O g cap k H f p))
 (HF:Ul (∀g cap x l c W,O g cap x l c W->(T_ W (aL w.heap.size 0)=Ua (I_ b)/\T_ W (aL w.heap.size 1)=Ua (Uq (Ua (aL g 0)) n cap)/\T_ W (aL w.heap.size 2)=Ua z/\(∃u,T_ W (aL w.heap.size 3)=Ua u)/\T_ W (aL w.heap.size 4)=Ua (I_ a)/\W.frozen? (aL w.heap.size 3)=Uc/\w.heap.size+1<W.heap.size)/\
   (W.heap[w.heap.size+1]?=Ua (Uy #[I_ 0,bO,bO,bO,I_ 0] 57))))
 (HP:Ul (∀g cap x l c W W',O g cap x l c W->Kept [w.heap.size,w.heap.size+1] W W'->W'.heap.size=W.heap.size->P (Us #[I_ b,Uq (Ua (aL g 0)) n cap,z,Uq x l c,I_ a]) W')):
 Ue Un 228 #[Us #[I_ b,I,z,B,I_ a]] w λe p=>∃v,e=bY v/\P v p:=by
 obtain⟨xa,xl,xc,rfl⟩:=U;obtain⟨Q,Z,K,rfl⟩:=aa;subst ab;have HW:=aB hW;clear hW;go_in
 go_wp2_with fail;rw[HW];apply HC.mono
 rintro e w3 ⟨g,cap,rfl,h3⟩;obtain⟨⟨u3,a1⟩,a2,a3,Y⟩:=HA _ _ _ h3;obtain⟨b1,b2,b3⟩:=HR _ _ _ _ Y;have H4:=aB Y;clear h3 Y;generalize D:Tz w3 (aL w.heap.size 1) (Uq (Ua (aL g 0)) n cap)=w4 at H4 b1 b2 b3;have M:=aB D;clear D;go_wp2_with fail;rw[M];go_wp2
 go_loopg [3,4,12] n (λgk _ _ i wr=>∃j:Nat,j+gk=n/\i=I_ j/\C g cap j wr)
 case atStart=>grind [d7]
 case round=>
  obtain⟨j,hj,rfl,G⟩:=hrel;obtain⟨b1,b2,b3⟩:=HR _ _ _ _ G;by_cases N:j<n
  .obtain⟨m,rfl⟩:∃m,gk=m+1:=⟨gk-1,aD⟩;obtain⟨x,l,c,c1,o⟩:=HV _ _ _ _ G N;have s:=aB o;have e1:(0:Int)<=(j:Int):=aD;have e2:(j:Int)<(n:Int):=aD;clear G o;go_wp2_with fail;apply s.mono
   rintro e r ⟨k,f,rfl,t⟩;obtain⟨⟨u5,d1⟩,d2,d3,h6⟩:=V _ _ _ _ _ _ _ t;obtain⟨y,l2,c2,y1,y2,q⟩:=HE _ _ _ _ h6;have F:=aB q;have aj:T_ r (aL g (j*6+5))=Ua (Uq y l2 c2):=by simpa [go_sem]using y1
   clear t h6 q y1 y2;go_wp2_with fail;apply F.mono
   rintro e w7 ⟨y',d',rfl,h7⟩;obtain⟨⟨u7,f1⟩,f2,f3,h8⟩:=J _ _ _ _ _ _ _ h7;have H8:=aB h8;clear h7 h8;go_wp2
   go_roundg m
   case measure=>exact aD
   case rel=>exact⟨j+1,aD,la,H8⟩
  have L:j=n:=aD;subst L;obtain⟨o1,o⟩:=HO _ _ _ G;have s:=aB o;clear G o;go_wp2_with fail;apply s.mono
  rintro e r ⟨k,H,f,rfl,t⟩;obtain⟨⟨p0,p1,p2,⟨u3,p3⟩,p4,pf,pl⟩,d⟩:=HF _ _ _ _ _ _ t;have S:=aA (i:=0) d aJ;have ad:=aA (i:=1) d aJ;have T:=aA (i:=2) d aJ;have X:=aA (i:=3) d aJ;have ac:=aA (i:=4) d aJ;have ai:=aF (i:=0) d;have ak:=aF (i:=1) d;have ah:=aF (i:=2) d;have af:=aF (i:=3) d;have ag:=aF (i:=4) d;have H5:=aB t;clear t d;have ae:w.heap.size<r.heap.size:=aD;go_wp2_with fail;refine⟨aJ,Us #[I_ b,Uq (Ua (aL g 0)) j cap,Uq Q Z K,Uq k H f,I_ a],?_,_,aJ,HP _ _ _ _ _ _ _ H5 ?_ s_⟩
  .simp[results,results228,go_sem,S,ad,T,X,ac]
  exact((((((Kept.refl _ _).setCell _ _ s_).setCell _ _ s_).setCell _ _ s_).setCell _ _ s_).setCell _ _ s_).setCell _ _ s_
def XB(a b:List j_)(v:j_)(i:Nat)(c:i<6):(kQ (a++v::b))[Ty a*6+i]?=v.cells[i]?:=by grind [nC,jK,Nat.add_sub_cancel_left,j_.cells,kQ]
def Nu(a b:List j_)(v c:j_)(i:Nat)(x:aW)(e:i<6)(d:c.cells=v.cells.set i x):(kQ (a++v::b)).set (Ty a*6+i) x=kQ (a++c::b):=by
 rw[nC,nC,List.set_append_right _ _ (by rw[jK];exact aD),jK,jy]
 grind [kQ,j_.cells]
structure CI(w:aN)(m_ stop n g cap:Nat)(tv xo:aW)(fvs':List j_)(own:List Nat)(W:aN):Prop where
 row:W.ownsRow (w.heap.size+2) 111 6 (Uq (Ua (aL g 0)) n cap) n (kQ fvs')
 nodup:(g::own).Nodup
 wi:∀k∈g::own,w.heap.size+2<=k/\k<W.heap.size
 re:R_ w W
 b1:W.heap[w.heap.size]?=Ua (Uy #[I_ m_,Uq (Ua (aL g 0)) n cap,tv,xo,I_ stop] 57)
 b2:W.heap[w.heap.size+1]?=Ua (Uy #[I_ 0,bO,bO,bO,I_ 0] 57)
section
variable {w:aN} {m_ stop n g cap:Nat} {tv xo:aW} {own:List Nat} {W W':aN} {a b:List j_} {v v':j_}
def CI.cell(h:CI w m_ stop n g cap tv xo (a++v::b) own W)(i:Nat)(d:i<6):T_ W (aL g (Ty a*6+i))=v.cells[i]?/\W.frozen? (aL g (Ty a*6+i))=Uc/\g<W.heap.size:=by
 refine⟨?_,h.row.frozenAt _,(h.wi g s_).2⟩
 have c:=h.row.1;rw[jK,ew,fk]at c;rw[h.row.cellAt (Ty a*6+i) aD,XB a b v i d]
def CI.grow{a:List j_}(h:CI w m_ stop n g cap tv xo a own W)(c:R_ W W')(o:Option Nat)(l:∀k,o=Ua k->W.heap.size<=k/\k<W'.heap.size):CI w m_ stop n g cap tv xo a (own++o.toList) W':=by
 have d:=h.re.size;have i:=aH h.b1;have f:=aH h.b2;refine⟨jZ h.row c,?_,λk b=>?_,h.re.trans (c.mono d),by rw[c.block _ i];exact h.b1,by rw[c.block _ f];exact h.b2⟩
 .refine ja.2 ⟨h.nodup,G_,λx j y m e=>?_⟩
  have:=(h.wi x j).2;grind
 rw[<-iy]at b;rcases fo.1 b with b|b
 .exact⟨(h.wi k b).1,ej (h.wi k b).2 c.size⟩
 grind
def CI.set(h:CI w m_ stop n g cap tv xo (a++v::b) own W)(i:Nat)(e:i<6)(x:aW)(d:v'.cells=v.cells.set i x):CI w m_ stop n g cap tv xo (a++v'::b) own (Tz W (aL g (Ty a*6+i)) x):=by
 have f:=(h.wi g s_).1
 have c:∀k,k≠g->(Tz W (aL g (Ty a*6+i)) x).heap[k]?=W.heap[k]?:=(by grind [em])
 refine⟨?_,h.nodup,λk c=>⟨(h.wi k c).1,by simpa using (h.wi k c).2⟩,(by grind [Below.setCell,CI.re]),by grind [CI.b1],by grind [CI.b2]⟩
 rw[<-Nu a b v v' i x e d];exact(h.row.stored _ _).1
def CI.h_{a:List j_}(h:CI w m_ stop n g cap tv xo a own W):w.heap.size<W.heap.size/\w.heap.size+1<W.heap.size:=⟨aH h.b1,aH h.b2⟩
end
structure KW(fp:iU)(F:bN)(b_:Nat)(w:aN)(gf cap:Nat)(tv u_:aW)(v_:List j_)(m:dA):Prop where
 row:w.ownsRow b_ 111 6 (Uq (Ua (aL gf 0)) (Ty v_) cap) (Ty v_) (kQ v_)
 uy:lS Uc fp F b_ w v_ m.f_
 tape:pF F w tv m.tape
 out:w.ownsRow b_ 9 1 u_ (Ty m.out) (pD m.out)
 nodup:(gf::(u_.ownBlock.toList++dD Uc v_)).Nodup
 wi:∀k∈gf::(u_.ownBlock.toList++dD Uc v_),b_<=k/\k<w.heap.size
def tw.cells{l:List aE}(h:tw F w v l)(k:Ty l<=1000000):
 ∃x c,v=Uq x (Ty l) c/\Ue Un 276 #[Uq x (Ty l) c] w λe a=>∃f d j,e=bY (Uq f (Ty l) d)/\a.ownsRow w.heap.size 263 1 (Uq f (Ty l) d) (Ty l) j/\iE F w j l/\R_ w a:=by
 rcases h.row with ⟨rfl,rfl⟩|⟨g,b,m,rfl,o,n,i,p⟩
 .refine⟨none,0,aJ,(yX w).mono ?_⟩;rintro e a ⟨rfl,rfl⟩;exact⟨none,0,[],aJ,World.ownsRow_nil _ _ _ _,iE.nil _ _,dz _ _⟩
 refine⟨_,_,aJ,(yY g 0 (Ty l) b m w (by rw[i.1];exact aD) k (G_) (tM i)).mono ?_⟩
 grind [fW]
theorem pR(h:lS Uc H F R w I l)(g:∀b,F b->j.heap[b]?=w.heap[b]?)(i:∀k∈dD Uc I,j.heap[k]?=w.heap[k]?):lS Uc H F R j I l:=
 h.h_ g (s_) (by grind [dD])
def QP(a:List j_)(v:j_):dD Uc (a++[v])=dD Uc a++(v.ri Uc):=by simp[dD]
def lP{i:List Uf}(h:w.ownsRow R o K v L i)(m:J<=R):w.ownsRow J o K v L i:=by
 refine⟨h.1,?_⟩;rcases h.2 with h|⟨g,f,d,j,l,k⟩
 .grind
 exact ec ⟨g,f,d,j,aD,k⟩
def DP(fp:iU)(F:bN)(w:aN)(m_ stop n:Nat)(tv xo:aW)(v_:List j_)(f_:List aI)(g cap j:Nat)(W:aN):Prop:=
 ∃us:List j_,Ty us=j/\CI w m_ stop n g cap tv xo (us++v_.drop j) (dD Uc us) W/\lS Uc fp F (w.heap.size+2) W us (f_.take j)
def Ge(fp:iU)(F:bN)(w:aN)(m_ stop n:Nat)(tv xo:aW)(v_:List j_)(f_:List aI)(g cap j:Nat)(W:aN):Prop:=
 ∃(us:List j_) (v:j_) (f:aI) (x:aW),Ty us=j/\v_[j]?=Ua v/\f_[j]?=Ua f/\CI w m_ stop n g cap tv xo (us++{ v with vv:=x }::v_.drop (j+1)) (dD Uc us++x.ownBlock.toList) W/\lS Uc fp F (w.heap.size+2) W us (f_.take j)/\oZ F (w.heap.size+2) W x f.g_
def P9{B:iU}(h:pC B F w v s)(hF:∀k,F k->k<w.heap.size)(bg:s.m.f_≠[])(bl:Ty s.m.f_<=16)(hb:∀f∈s.m.f_,Ty f.g_<=90001/\Ty f.ops<=99000)(bj:Ty s.m.out<=50):
 Ue Un 228 #[v] w λe z=>∃v',e=bY v'/\∃gf cap tv u_ v_,v'=Us #[I_ s.m_,Uq (Ua (aL gf 0)) (Ty v_) cap,tv,u_,I_ s.stop]/\R_ w z/\KW B F w.heap.size z gf cap tv u_ v_ s.m:=by
 obtain⟨fv,tv,J,v_,rfl,am,K,ba,aw⟩:=h;have ae:=K.length
 have M:0<Ty v_:=by grind
 rcases am with ⟨e,_⟩|⟨x0,c0,bh,rfl,bn,bf,be,bm⟩
 .rw[e]at M;simp at M
 have af:∃ta tl tc,tv=Uq ta tl tc:=by grind [pF]
 have al:∃xa xl xc,J=Uq xa xl xc:=by grind [CJ]
 generalize U:T6 (T6 w (Uy #[I_ s.m_,Uq (Ua (aL x0 0)) (Ty v_) c0,tv,J,I_ s.stop] 57)) (Uy #[I_ 0,bO,bO,bO,I_ 0] 57)=w2;have az:R_ w w2:=by rw[<-U];exact((dz _ w).alloc (aD) _).alloc s_ _
 have au:w2.heap.size=w.heap.size+2:=by rw[<-U];simp
 have aq:w2.heap[w.heap.size]?=Ua (Uy #[I_ s.m_,Uq (Ua (aL x0 0)) (Ty v_) c0,tv,J,I_ s.stop] 57):=by grind [eh,aZ]
 have ax:w2.heap[w.heap.size+1]?=Ua (Uy #[I_ 0,bO,bO,bO,I_ 0] 57):=by rw[<-U];exact aZ _ _ s_ _
 have hFk2 :=λb hb=>az.block b (hF b hb)
 have T:∀{W:aN},R_ w W->∀b,F b->W.heap[b]?=w.heap[b]?:=(by grind [eg])
 have O:∀u∈kQ v_,u.oneCell'=Ud:=by
  have bd:∀(vs:List j_) (G:List aI),yJ B F w vs G->∀u∈kQ vs,u.oneCell'=Ud:=by
   intro vs;induction vs with
   |nil=>intro G _ u V;cases V
   |cons v vs ih=>
    intro G K u V;cases G with
    |nil=>exact K.elim
    |cons f G=>
     obtain⟨C,h2⟩:=K;rcases fo.1 V with V|V
     .obtain⟨bk,gc,cp,bi,D,_⟩:=C.fn;obtain⟨p,hp⟩:=C.sp.form
      have bc:∃x n c,v.vv=Uq x n c:=by rcases C.g_.row with ⟨_,e⟩|⟨g,c,xs,e,_⟩<;>exact⟨_,_,_,e⟩
      have av:∃x n c,v.ov=Uq x n c:=by rcases C.ops.row with ⟨_,e⟩|⟨g,c,xs,e,_⟩<;>exact⟨_,_,_,e⟩
      obtain⟨x1,n1,Y,Q⟩:=bc;obtain⟨x2,n2,c2,e3⟩:=av;simp only[j_.cells,D,C.nx,C.ln,hp,Q,e3,ff,jf,or_false]at V;rcases V with rfl|rfl|rfl|rfl|rfl|rfl<;>rfl
     grind
  grind
 have A:∀j (I:j<Ty v_),∃v f,v_[j]?=Ua v/\s.m.f_[j]?=Ua f/\Ax B F w v f/\f∈s.m.f_/\v_.drop j=v::v_.drop (j+1)/\s.m.f_.take (j+1)=s.m.f_.take j++[f]:=λj I=>by have an:j<Ty s.m.f_:=aD;refine⟨v_[j],s.m.f_[j],fe I,fe an,K.get j _ _ (fe I) (fe an),s_,s_,s_⟩
 have hR:∀g cap j W,DP B F w s.m_ s.stop (Ty v_) tv J v_ s.m.f_ g cap j W->T_ W (aL w.heap.size 1)=Ua (Uq (Ua (aL g 0)) (Ty v_) cap)/\w.heap.size<W.heap.size/\g<W.heap.size:=λg cap j W t=>by obtain⟨i,_,a,_⟩:=t;exact⟨aA a.b1 aJ,aH a.b1,(a.wi g s_).2⟩
 refine(YI w w2 s.m_ s.stop x0 (Ty v_) c0 (Uq (Ua (aL x0 0)) (Ty v_) c0) tv J
  (λv' z=>∃gf cap tv u_ v_,v'=Us #[I_ s.m_,Uq (Ua (aL gf 0)) (Ty v_) cap,tv,u_,I_ s.stop]/\R_ w z/\KW B F w.heap.size z gf cap tv u_ v_ s.m)
  (λg cap W=>W.ownsRow (w.heap.size+2) 111 6 (Uq (Ua (aL g 0)) (Ty v_) cap) (Ty v_) (kQ v_)/\R_ w2 W)
  (DP B F w s.m_ s.stop (Ty v_) tv J v_ s.m.f_) (Ge B F w s.m_ s.stop (Ty v_) tv J v_ s.m.f_)
  (λg cap j x l c W=>∃i v f,Ty i=j/\v_[j]?=Ua v/\s.m.f_[j]?=Ua f/\CI w s.m_ s.stop (Ty v_) g cap tv J (i++v::v_.drop (j+1)) (dD Uc i++(Value.slice x l c).ownBlock.toList) W/\lS Uc B F (w.heap.size+2) W i (s.m.f_.take j)/\oZ F (w.heap.size+2) W (Uq x l c) f.g_)
  (λg cap j x l c W=>∃i v f y,Ty i=j/\v_[j]?=Ua v/\s.m.f_[j]?=Ua f/\CI w s.m_ s.stop (Ty v_) g cap tv J (i++{ v with vv:=y }::v_.drop (j+1)) (dD Uc i++y.ownBlock.toList++(Value.slice x l c).ownBlock.toList) W/\lS Uc B F (w.heap.size+2) W i (s.m.f_.take j)/\oZ F (w.heap.size+2) W y f.g_/\oZ F (w.heap.size+2) W (Uq x l c) f.ops)
  (λg cap x l c W=>∃i,Ty i=Ty v_/\CI w s.m_ s.stop (Ty v_) g cap tv J i (dD Uc i++(Value.slice x l c).ownBlock.toList) W/\lS Uc B F (w.heap.size+2) W i s.m.f_/\W.ownsRow (w.heap.size+2) 9 1 (Uq x l c) (Ty s.m.out) (pD s.m.out))
  aD rfl al af U ?_ (λg cap W t=>?_) hR (λg cap j W t I=>?_) (λg cap j x l c W t=>?_) (λg cap j W t=>?_) (λg cap j x l c W t=>?_) (λg cap W t=>?_) (λg cap x l c W t=>?_) λg cap x l c W W' t o S=>?_)
 .refine(MS x0 0 (Ty v_) c0 (kQ v_) w2 (by rw[jK]) aD (λj u I=>?_) O).mono ?_
  .grind [aA]
  rintro e z ⟨v',rfl,r,m⟩;rw[au]at r;rcases r.2 with ⟨r1,r2⟩|⟨g,cp,cu,r1,_⟩
  .exact aD
  grind
 .obtain⟨r,m⟩:=t;have hg:=r.lt g aJ;have hb1 :=(m.block _ aD).trans aq;have hb2' :=(m.block _ aD).trans ax;refine⟨⟨_,aA hb1 aJ⟩,aF hb1,aD,[],rfl,⟨?_,by simp[dD],λk o=>?_,?_,aP hb1,?_⟩,trivial⟩
  .exact bC r λk e=>em _ _ _ _ (by cases e;grind)
  .simp[dD]at o;subst o;exact⟨hg.1,by simpa using hg.2⟩
  .grind [Below.setCell,Below.trans,Below.mono]
  grind [em]
 .obtain⟨i,rfl,a,q⟩:=t;obtain⟨v,f,D,Q,hv,ai,e3,e4⟩:=A (Ty i) I;rw[e3]at a;obtain⟨Y,c2,c3⟩:=a.cell 4 aD;have ab:=hv.h_ (T a.re) MW;obtain⟨x,c,e5,ad⟩:=ab.g_.cells G_
  refine⟨x,Ty f.g_,c,Y.trans (by rw[<-e5];rfl),ad.mono ?_⟩
  rintro e z ⟨x',c',ys,he,r,hr,m⟩;have hobl :=λk o=>r.lt k o
  have S:=a.h_;refine⟨x',c',he,i,v,f,aJ,D,Q,a.grow m _ hobl,pR q (ku) ((by grind [eg,CI.wi])),⟨ys,lP r aD,hr.h_ ku⟩,hv.zt⟩
 .obtain⟨i,v,f,rfl,D,Q,a,q,L⟩:=t;obtain⟨Y,c2,c3⟩:=a.cell 4 aD;have ah:∀k∈dD Uc i++(Value.slice x l c).ownBlock.toList,k≠g:=λk o e=>(ey.1 a.nodup).1 G_
  have Z:∀k,k≠g->(Tz W (aL g (Ty i*6+4)) (Uq x l c)).heap[k]?=W.heap[k]?:=(by grind [em])
  have aj:∀b,F b->b≠g:=(by grind [CI.wi])
  refine⟨⟨_,Y⟩,c2,c3,i,v,f,_,aJ,D,Q,a.set 4 aD _ rfl,(by grind [pR]),L.h_ (G_) (s_) G_⟩
 .obtain⟨i,v,f,x,rfl,D,Q,a,q,L⟩:=t;obtain⟨Y,c2,c3⟩:=a.cell 5 aD;have I :=(hZ.1 D).1;obtain⟨v',f',P,H,hv,ai,e3,e4⟩:=A (Ty i) I;rw[D]at P;cases P;rw[Q]at H;cases H;have ab:=hv.h_ (T a.re) MW;obtain⟨y,d,e5,ad⟩:=ab.ops.cells G_
  refine⟨y,Ty f.ops,d,Y.trans (by rw[<-e5];rfl),c3,ad.mono ?_⟩
  rintro e z ⟨y',d',ys,he,r,hr,m⟩;have hobl :=λk o=>r.lt k o
  have S:=a.h_;have hFw :=λb E=>m.block b (ej (hF b E) a.re.size)
  refine⟨y',d',he,i,v,f,x,aJ,D,Q,a.grow m _ hobl,pR q hFw λk o=>m.block k (a.wi k (G_)).2,L.h_ hFw (s_) λk o=>m.block k (a.wi k (by simp[o])).2,⟨ys,lP r aD,hr.h_ hFw⟩,hv.Cj⟩
 .obtain⟨i,v,f,y,rfl,D,Q,a,q,L,ay⟩:=t;obtain⟨Y,c2,c3⟩:=a.cell 5 aD;have I :=(hZ.1 D).1;obtain⟨v',f',P,H,hv,ai,e3,e4⟩:=A (Ty i) I;rw[D]at P;cases P;rw[Q]at H;cases H;have ah:∀k∈dD Uc i++y.ownBlock.toList++(Value.slice x l c).ownBlock.toList,k≠g:=λk o e=>(ey.1 a.nodup).1 G_
  have Z:∀k,k≠g->(Tz W (aL g (Ty i*6+5)) (Uq x l c)).heap[k]?=W.heap[k]?:=λk o=>em _ _ _ _ o
  have aj:∀b,F b->b≠g:=(by grind [CI.wi])
  have hFs :=λb E=>Z b (aj b E)
  have ac:=a.set (v':={ v with vv:=y,ov:=Uq x l c }) 5 aD (Uq x l c) rfl
  have X:=hv.h_ (T (ac.re)) MW;refine⟨⟨_,Y⟩,c2,c3,i++[{ v with vv:=y,ov:=Uq x l c }],s_,?_,?_⟩
  .have e5:dD Uc (i++[{ v with vv:=y,ov:=Uq x l c }])=dD Uc i++y.ownBlock.toList++(Value.slice x l c).ownBlock.toList:=by rw[QP,gw];rfl
   grind
  rw[e4];refine(pR q hFs (G_)).snoc ⟨X.fn,X.nx,X.ln,X.sp,L.h_ hFs (s_) G_,ay.h_ hFs (s_) G_⟩
 .obtain⟨i,N,a,q⟩:=t;rw[List.drop_of_length_le (aD),List.append_nil]at a;rw[ae,hQ (aD)]at q;have S:=a.h_;have ag:=aw.h_ (T a.re) MW;refine⟨aA a.b1 aJ,?_⟩
  have ak:∀x' l' c' (z:aN),z.ownsRow W.heap.size 9 1 (Uq x' l' c') (Ty s.m.out) (pD s.m.out)->R_ W z->∃i,Ty i=Ty v_/\CI w s.m_ s.stop (Ty v_) g cap tv J i (dD Uc i++(Value.slice x' l' c').ownBlock.toList) z/\lS Uc B F (w.heap.size+2) z i s.m.f_/\z.ownsRow (w.heap.size+2) 9 1 (Uq x' l' c') (Ty s.m.out) (pD s.m.out):=λx' l' c' z r m=>
   ⟨i,N,a.grow m _ λk o=>r.lt k o,(by grind [pR,eg,CI.wi]),lP r aD⟩
  rcases ag with ⟨D,rfl⟩|⟨go,co,cu,rfl,C,h2,h3,h4⟩
  .refine oN (yZ W) ?_;exact⟨none,0,0,aJ,ak _ _ _ _ (by grind [World.ownsRow_nil,pD]) (dz _ _)⟩
  refine(zA go 0 (Ty s.m.out) co (pD s.m.out) W (by simp[pD]) aD (λj u I=>?_) λu V=>?_).mono ?_
  .grind [aA]
  .obtain⟨y,_,rfl⟩:=ik.1 V;rfl
  grind [fW]
 .obtain⟨i,N,a,q,r⟩:=t;exact⟨⟨aA a.b1 aJ,aA a.b1 aJ,aA a.b1 aJ,⟨_,aA a.b1 aJ⟩,aA a.b1 aJ,aF a.b1,aH a.b2⟩,a.b2⟩
 obtain⟨i,N,a,q,r⟩:=t;have ao:∀k∈g::(dD Uc i++(Value.slice x l c).ownBlock.toList),k∉[w.heap.size,w.heap.size+1]:=(by grind [CI.wi])
 have hkk :=λk aa=>o.block k (a.wi k aa).2 (ao k aa)
 have hFW :=λb E=>o.block b (ej (hF b E) a.re.size) (by have:=hF b E;simp;exact aD)
 have bb:R_ w W':=⟨o.os.trans a.re.os,o.tape.trans a.re.tape,o.output.trans a.re.output,by rw[S];exact a.re.size,(by grind [Kept.block,CI.re,eg])⟩
 have ar:∀k,k∈g::((Value.slice x l c).ownBlock.toList++dD Uc i)↔k∈g::(dD Uc i++(Value.slice x l c).ownBlock.toList):=(by grind)
 have ap:∀(u:List j_) (G:List aI),lS Uc B F (w.heap.size+2) W' u G->lS Uc B F w.heap.size W' u G:=by
  intro u;induction u with
  |nil=>grind [lS]
  |cons v vs ih=>intro G h;cases G with
   |nil=>exact h.elim
   |cons f G=>
    obtain⟨C,h2⟩:=h;obtain⟨⟨xs,a1,a2⟩,a3⟩:=C.g_;obtain⟨⟨ys,b1,b2⟩,b3⟩:=C.ops;exact⟨⟨C.fn,C.nx,C.ln,C.sp,⟨⟨xs,lP a1 aD,a2⟩,a3⟩,⟨⟨ys,lP b1 aD,b2⟩,b3⟩⟩,ih G h2⟩
 refine⟨g,cap,tv,Uq x l c,i,by rw[N],bb,⟨?_,(by grind [pR]),ba.h_ (G_) (s_),?_,?_,λk aa=>?_⟩⟩
 .rw[N];exact lP (bC a.row λk e=>by cases e;grind) aD
 .exact lP (bC r λk e=>hkk k (by simp[e])) aD
 .grind [CI.nodup]
 grind [CI.wi]
def Ff(w:aN)(b a:Nat)(k i j:aW)(s:a≠0)(f:∃x l c,k=P_ x l c)(d:∃x l c,i=P_ x l c)(g:∃x l c,j=P_ x l c):
 Ue Un 174 #[Us #[I_ b,k,i,j,I_ a]] w λe m=>e=bY (Uu #[Us #[I_ 0,bO,bO,bO,I_ 0],Uw Uc])/\R_ w m:=by
 obtain⟨z,v,o,rfl⟩:=f;obtain⟨t,y,q,rfl⟩:=d;obtain⟨n,p,r,rfl⟩:=g;have u:¬(a:Int)=0:=aD;go_in
 go_wp2_with fail;refine⟨aJ,Uu #[Us #[I_ 0,bO,bO,bO,I_ 0],Uw Uc],?_,aJ,((dz _ w).alloc (aD) _).alloc s_ _⟩
 simp[results,results174,go_sem]
def J_(w Z:aN)(a:Nat)(y u v:aW)(P:Uf->Ug->Prop)(A:Nat->Nat->Nat->Uf->Uf->Ug->Prop)(B:Nat->Ug->Prop)(ht:a<=1000000)(G:∃x l c,y=Uq x l c)(F:∃x l c,u=Uq x l c)(D:∃x l c,v=Uq x l c)
 (T:T6 (T6 w (Uy #[I_ a,y,u,v,I_ 0] 57)) (Uy #[I_ 0,bO,bO,bO,I_ 0] 57)=Z)
 (HC:Ul (Ue Un 228 #[Us #[I_ a,y,u,v,I_ 0]] Z λe s=>∃gf n cap d g,e=bY (Us #[I_ a,Uq (Ua (aL gf 0)) n cap,d,g,I_ 0])/\(∃x l c,d=Uq x l c)/\(∃x l c,g=Uq x l c)/\A gf n cap d g s))
 (HG:Ul (∀gf n cap d g W,A gf n cap d g W->Ue Un 54 #[bF (H_ W)] (T6 W (Uy #[I_ ((a+1:Nat):Int),Uq (Ua (aL gf 0)) n cap,d,g,I_ 0] 57)) λe s=>e=fD/\B (H_ W) s))
 (HB:Ul (∀b W,B b W->∃(q:Nat) (f t o:aW) (r:Nat),W.heap[b]?=Ua (Uy #[I_ q,f,t,o,I_ r] 57)/\(∃x l c,f=Uq x l c)/\(∃x l c,t=Uq x l c)/\(∃x l c,o=Uq x l c)/\W.heap[H_ w+1]?=Ua (Uy #[I_ 0,bO,bO,bO,I_ 0] 57)/\b≠H_ w+1/\
   ∀W',Kept [H_ w+1] W W'->H_ W'=H_ W->P (Us #[I_ q,f,t,o,I_ r]) W')):
 Ue Un 174 #[Us #[I_ a,y,u,v,I_ 0]] w λe s=>∃v',e=bY (Uu #[v',Uw Ud])/\P v' s:=by
 obtain⟨x1,l1,c1,rfl⟩:=G;obtain⟨x2,l2,c2,rfl⟩:=F;obtain⟨x3,l3,c3,rfl⟩:=D;have HW:=aB T;clear T;go_in
 go_wp2_with fail;rw[HW];apply HC.mono
 rintro e w3 ⟨gf,n,cap,d,g,rfl,⟨y2,m2,d2,rfl⟩,⟨y3,m3,d3,rfl⟩,J⟩;have m:=aB (HG _ _ _ _ _ _ J);generalize hb:H_ w3=b at m;clear J;rw[show ((a+1:Nat):Int)=(a:Int)+1 by omega]at m
 go_wp2_with fail;refine rf m λk M=>?_
 obtain⟨q,f,t,o,r,p,⟨N,S,O,rfl⟩,⟨U,Y,V,rfl⟩,⟨K,L,Q,rfl⟩,j,q3,X⟩:=HB _ _ M;have HQ:=aB X;have ah:=aA (i:=0) p aJ;have al:=aA (i:=1) p aJ;have ae:=aA (i:=2) p aJ;have ag:=aA (i:=3) p aJ;have ac:=aA (i:=4) p aJ;have z:=aA (i:=0) j aJ;have I:=aA (i:=1) j aJ;have C:=aA (i:=2) j aJ;have E:=aA (i:=3) j aJ;have H:=aA (i:=4) j aJ;have aj:=aF (i:=0) j;have ak:=aF (i:=1) j;have af:=aF (i:=2) j;have ab:=aF (i:=3) j;have ad:=aF (i:=4) j;have aa:=aH p;have ai:=aH j;clear M X p j;go_wp2_with fail;refine⟨aJ,Uu #[Us #[I_ q,Uq N S O,Uq U Y V,Uq K L Q,I_ r],Uw Ud],?_,_,aJ,HQ _ ?_ s_⟩
 .simp[results,results174,go_sem,z,I,C,E,H]
 grind [Kept.setCell,Kept.refl]
def zZ{b:List Uf}(h:w.ownsRow R o K v J b):∃x l c,v=Uq x l c:=by grind [fW]
theorem DX.of(h:pA w)(c:R_ w j)(f:∀k∈m,w.heap.size<=k):DX m j:=λW d=>by
 cases e:prog.globalNamed "internal/strconv.uint64pow10" with
 |none=>grind [pA,Lib.TabIs,World.var?]
 |some g=>
  have a:g<w.heap.size:=by grind [pA,Lib.TabIs,World.var?]
  refine h.h_ e ?_;rw[d.block g (ej a c.size) (G_),c.block g a]
def pC.form(h:pC H F w v s):∃a tv xo,v=Us #[I_ s.m_,a,tv,xo,I_ s.stop]/\(∃x l c,a=Uq x l c)/\(∃x l c,tv=Uq x l c)/\(∃x l c,xo=Uq x l c):=by grind [pC,CO,pF,CJ]
def KW.run{j a:aW}{m:dA}(h:KW H F R w J K j a I m)(u:∀b,F b->b<R)(q:R<=H_ w)(p o:aW):
 dM Uc H F R (T6 w (Uy #[p,Uq (Ua (aL J 0)) (Ty I) K,j,a,o] 57)) (H_ w) J K p j a o I m/\∀k∈bE Uc (H_ w) J a I,R<=k:=by
 generalize t:T6 w (Uy #[p,Uq (Ua (aL J 0)) (Ty I) K,j,a,o] 57)=W;have y:R_ w W:=by grind [ep,dz]
 have v:H_ W=H_ w+1:=by rw[<-t];simp
 have l:W.heap[H_ w]?=Ua (Uy #[p,Uq (Ua (aL J 0)) (Ty I) K,j,a,o] 57):=by grind [aZ]
 have n:∀b,F b->W.heap[b]?=w.heap[b]?:=(by grind [eg])
 have x:∀k∈J::(a.ownBlock.toList++dD Uc I),W.heap[k]?=w.heap[k]?:=(by grind [eg,KW.wi])
 refine⟨⟨l,bC h.row λk e=>by cases e;grind,pR h.uy n G_,h.tape.h_ n (s_),bC h.out G_,?_,λk g=>?_,λk g=>?_⟩,λk g=>?_⟩
 .grind [KW.nodup,bE]
 .rcases ff.1 g with rfl|g
  .exact aD
  have:=(h.wi k g).2;exact aD
 .have z:=u k g;refine⟨aD,λr=>?_⟩
  rcases ff.1 r with rfl|r
  .exact aD
  have:=(h.wi k r).1;exact aD
 rcases ff.1 g with rfl|g
 .exact aD
 exact(h.wi k g).1
def C0{ar:Nat->Option Nat}{r:dA × Nat}(ht:mT ar A)(ad:lH A)(h:pC H F w v s)(hF:∀b,F b->b<w.heap.size)(hT:oD H F w A)(hp:pA w)(hs:s.stop=0)
 (hA:iS ar s.m) (Q:s.m.f_≠[]) (hU:iQ s.m) (S:Ty s.m.out<=50) (af:Ty s.m.tape<=17592186044416) (hk:fG A R s.m=Ua r) (aq:s.m_+1<=1000000) (hr:r.2<=1000):
 Ue Un 174 #[v] w λe D=>∃v',e=bY (Uu #[v',Uw Ud])/\R_ w D/\∃G,ss F G w.heap.size/\(∀b,G b->b<D.heap.size)/\pC H G D v' ⟨s.m_+1,r.1,cB (s.m_+1) r.2⟩:=by
 obtain⟨fv,tv,xo,rfl,f1,f2,f3⟩:=h.form
 have X:∀f∈s.m.f_,Ty f.g_<=90001/\Ty f.ops<=99000:=λf hf=>by
  have Z:∃I,eI ar f I:=by obtain⟨b,g,e⟩:=oU Q;rw[e]at hf;have ah:=hA.ok.low;have al:=hA.ok.top;grind [nA]
  obtain⟨I,⟨T,K,hh,_⟩,hn,_,hv⟩:=Z;have u:=(K.ins _ _ (fe hn)).2.1;grind [oM.len]
 rw[hs]at h ⊢
 generalize B:T6 (T6 w (cD #[I_ s.m_,fv,tv,xo,I_ (0:Nat)] 57)) (cD #[I_ 0,bO,bO,bO,I_ 0] 57)=p;have z:R_ w p:=by rw[<-B];exact((dz _ w).alloc (aD) _).alloc s_ _
 have an:p.heap.size=w.heap.size+2:=by rw[<-B];simp
 have ao:p.heap[w.heap.size+1]?=Ua (cD #[I_ 0,bO,bO,bO,I_ 0] 57):=by rw[<-B];exact aZ _ _ s_ _
 have ac:∀b,F b->b<p.heap.size:=(by grind)
 have h2:pC H F p (Us #[I_ s.m_,fv,tv,xo,I_ (0:Nat)]) s:=by
  have:=h.h_ (λb hb=>z.block b (hF b hb)) MW
  exact this
 refine(J_ w p s.m_ fv tv xo (λv' D=>R_ w D/\∃G,ss F G w.heap.size/\(∀b,G b->b<D.heap.size)/\pC H G D v' ⟨s.m_+1,r.1,cB (s.m_+1) r.2⟩)
  (λt n l j N W=>∃a,n=Ty a/\R_ p W/\KW H F p.heap.size W t l j N a s.m)
  (λb W=>∃W0 t l j i a G,(R_ p W/\p.heap.size<=b)/\(p.heap.size<=W0/\ss F G W0)/\dM Uc H G p.heap.size W b t l (I_ ((s.m_+1:Nat):Int)) j i (I_ (cB (s.m_+1) r.2)) a r.1/\∀R∈bE Uc b t i a,p.heap.size<=R)
  aD f1 f2 f3 B ?_ (λt n l j N W Z=>?_) λb W Z=>?_)
 .refine(P9 h2 ac Q hA.ok.deep X S).mono ?_;rintro e D ⟨v',rfl,t,l,j,i,a,rfl,q,K⟩;rw[hs];refine⟨t,Ty a,l,j,i,aJ,?_,zZ K.out,a,aJ,q,K⟩;rcases K.tape with ⟨_,x,c,e⟩|⟨g,o,c,e,_⟩<;>exact⟨_,_,_,e⟩
 .obtain⟨a,rfl,q,K⟩:=Z;obtain⟨J,aj⟩:=K.run ac q.size (I_ ((s.m_+1:Nat):Int)) (I_ 0);generalize ap:T6 W (cD #[I_ ((s.m_+1:Nat):Int),P_ (Ua (aL t 0)) (Ty a) l,j,N,I_ 0] 57)=P at J;have ag:R_ W P:=by grind [ep,dz]
  have d:R_ p P:=q.trans (ag.mono q.size);have ai:R_ w P:=z.trans (d.mono z.size);have ae:oD H F P A:=hT.h_ (ku) s_
  refine(WT ht ad J ae ((by grind [DX.of])) d.size hA hU S af hk aD hr).mono ?_
  rintro e D ⟨he,C,G,ab,U,aa,y,E,d1,d2,d3⟩
  have Y:∀x∈bE Uc W.heap.size ab y E,p.heap.size<=x:=λx hx=>by
   rcases d3 x hx with u|u
   .grind
   exact eo d.size u
  refine⟨he,P.heap.size,ab,U,aa,y,E,G,⟨⟨C.os.trans d.os,C.tape.trans d.tape,C.output.trans d.output,eo d.size C.size,λR m=>?_⟩,q.size⟩,⟨d.size,d1⟩,d2,Y⟩
  grind [Kept.block,eg]
 obtain⟨W0,t,l,j,i,a,G,⟨g1,g2⟩,⟨g3,g4⟩,O,g6⟩:=Z;have V:=O.i_;refine⟨_,_,_,_,_,V,s_,?_,zZ O.out,ku,aD,λP L am=>?_⟩
 .rcases O.tape with ⟨_,x,c,e⟩|⟨g,o,c,e,_⟩<;>exact⟨_,_,_,e⟩
 have M:R_ w W:=z.trans (g1.mono z.size);have hS:=O.kept (G:=λR=>G R\/(R∈bE Uc b t i a/\R≠b)) (G_) (G_)
 have ak:∀R,(G R\/(R∈bE Uc b t i a/\R≠b))->R≠w.heap.size+1/\R<W.heap.size:=λR m=>by
  rcases m with u|⟨u,_⟩
  .refine⟨?_,(O.apart R u).1⟩;rcases g4.new R u with h3|h3
   .grind
   exact aD
  have:=g6 R u;exact⟨aD,O.lt R u⟩
 refine⟨⟨L.os.trans M.os,L.tape.trans M.tape,L.output.trans M.output,G_,λR m=>?_⟩,λR=>G R\/(R∈bE Uc b t i a/\R≠b),⟨λR m=>ed (g4.sub R m),λR m=>?_⟩,G_,hS.h_ ((by grind [Kept.block])) s_⟩
 .grind [Kept.block,eg]
 rcases m with u|⟨u,_⟩
 .rcases g4.new R u with h3|h3
  .grind
  exact aD
 grind
