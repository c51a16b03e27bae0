import Derived.Test.YtjhbbdpfkccohaaGreatDoorP08
set_option linter.all false
set_option maxRecDepth 100000
set_option maxHeartbeats 4000000
open List renaming length->Ty
open Go.World renaming setCell->Tz,alloc->T6,cell?->T_
open Option renaming some->Ua,none->Ub
open Bool renaming false->Uc,true->Ud
open Go renaming Calls->Ue,Value->Uf
open Go.RowKit renaming Hid->Ul,Below->Um
open Go.Proofs.Tryz renaming prog->Un
open Go.Value renaming slice->Uq,string->Ur,agg->Us,tuple->Uu,bool->Uw,int->Ux
open Go.Obj renaming cells->Uy
namespace Go.Proofs.YtjhbbdpfkccohaaGreatDoor
open Hs
open _root_.Go.Proofs.Tryz
open Instr(typeAssert)
open Go.RowKit
variable{b:Bool}{z:List aC}{A E F:Nat}{e:TypeId}{j:aC}{B:aN}{C:aW}{g:bJ}{t:bN}{l:bP}{D:cY}
theorem rP.get(h:rP t B C z):(C=bO/\z=[])\/∃g a,C=Uq (Ua (aL g 0)) (Ty z) a/\t g/\g<H_ B/\Ty z<=a/\∀k (c:k<Ty z),∃u,T_ B (aL g k)=Ua u/\PN t B u z[k]:=by
 rcases h with h|⟨g,a,b,e,j,f,n,i,m,d⟩
 .grind
 grind [jM.get,aA]
abbrev nO(fs:List aC)(al:Bool)(d:Nat)(l:List aC)(s:bJ):bJ:=l.foldl (λs k=>aT fs al d k s) s
def qF(cb tp lo:Nat)(fs:List aC)(fv:aW)(d:Nat):Prop:=
 ∀(v:aW) (l:List aC) (e_:cY) (w:aN),CK cb tp lo fs fv w e_->rP (rn lo tp) w v l->(∀k∈l,fV d k)->Ty e_+(l.map (cV d)).sum<=90000->Ty l<=90000->
  Ue Un 201 #[bF cb,v] w (gJ cb tp lo fs fv w (nO fs (mI fv) d l ⟨e_,0,0⟩))
def Y7(cb tp lo:Nat)(fs:List aC)(fv:aW)(d:Nat)(w:aN)(l:List aC)(c:bJ)(gk:Nat)(i:aW)(wr:aN):Prop:=
 ∃k s,k+gk=Ty l/\i=I_ (k:Nat)/\FB cb tp w wr/\CK cb tp lo fs fv wr s/\c=nO fs (mI fv) d (l.drop k) ⟨s,0,0⟩/\Ty s+((l.drop k).map (cV d)).sum<=90000
theorem G9(y r x:Nat)(m:List aC)(n:aW)(d:Nat)(IH:mU y r x m n d)(g B:Nat)(l:List aC)(b:cY)(w:aN)(h:CK y r x m n w b)(L:g<r)(_hcap:Ty l<=B)(hc:∀k (Q:k<Ty l),∃u,dP w g k u/\PN (rn x r) w u l[k])(O:∀k∈l,fV d k)(Y:Ty b+(l.map (cV d)).sum<=90000)(hl:Ty l<=90000):
 Ue Un 201 #[bF y,P_ (Ua (aL g 0)) (Ty l) B] w (gJ y r x m n w (nO m (mI n) d l ⟨b,0,0⟩)):=by
 have S:Ul (Y7 y r x m n d w l (nO m (mI n) d l ⟨b,0,0⟩) (Ty l) (I_ (0:Nat)) w):=⟨0,b,aD,rfl,FB.refl _,h,s_,G_⟩
 have X:=aB hc;have Z:=aB O;have F:=aB IH;have A:=h.lt;generalize nO m (mI n) d l ⟨b,0,0⟩=c at*;go_in
 go_wp2
 go_loopg [5,8] (Ty l) (λgk _ i wr=>Y7 y r x m n d w l c gk i wr)
 case atStart=>exact S
 case round=>
  obtain⟨k,s,Q,rfl,o,z,v,C⟩:=hrel;have I:=aB o;have V:=aB z;by_cases t:k<Ty l
  .obtain⟨j,rfl⟩:∃j,gk=j+1:=⟨gk-1,aD⟩;obtain⟨u,N,H⟩:=X k t;obtain⟨T,U,rfl⟩:=H.form;have hcell :=(o.re.cell (p:=(aL g k)) L).trans N;have hgr :=ej (Nat.lt_trans (ej L A.2) A.1) o.re.size;have hdk :=(List.getElem_cons_drop t).symm;have D:=Z l[k] (ge t);rw[hdk]at v C;simp only[fm,fu]at C;generalize l[k]=a at*;have HX:=aB (F (dH T (Us U)) a s wr z (H.below o.re) D aD);have q:=gY m (mI n) d a ⟨s,0,0⟩;have HADD:=aB q;have f:c=nO m (mI n) d (l.drop (k+1)) (aT m (mI n) d a ⟨s,0,0⟩):=v;have K:=aB f;have ab:=aB C;clear o z H N hdk v f q C;generalize aT m (mI n) d a ⟨s,0,0⟩=c1 at*;go_wp2_with fail;apply HX.mono
   rintro e P ⟨J,⟨s1,rfl,rfl,M⟩|⟨E,rfl⟩⟩
   rotate_left
   .have aa:=aB (I.trans J);have W:=aB E;go_wp2_with fail;exact⟨aJ,(by grind [gJ.fault,d7,sq.fold,sq.walk])⟩
   have G:Ul (Y7 y r x m n d w l c j (I_ ((k+1:Nat):Int)) P):=by grind [FB.trans,d7,Y7,sj]
   go_wp2
   go_roundg j
   case measure=>exact aD
   case rel=>exact G
  have f:c=⟨s,0,0⟩:=by grind [List.drop_eq_nil_of_le]
  have K:=aB f;go_wp2
  go_end0;grind [gJ]
theorem H9(b c f:Nat)(d:List aC)(e:aW)(a:cY)(w:aN)(h:CK b c f d e w a):
 Ue Un 201 #[bF b,bO] w (gJ b c f d e w ⟨a,0,0⟩):=by
 go_in
 go_wp2
 go_loop [5,8] (λ_ i=>i=I_ 0) (λ_ _=>0)
 case atStart=>rfl
 case round=>
  go_wp2
  go_end0;grind [FB.refl,gJ]
theorem xU(a b f:Nat)(c:List aC)(e:aW)(d:Nat)(g:mU a b f c e d):qF a b f c e d:=by grind [rP.get,H9,G9,qF,rn]
def OK(b:List aC)(a:Bool)(d:Nat)(l:List aC)(s:bJ):sj s (nO b a d l s) (l.map (cV d)).sum:=(by grind [sj.fold,gY])
def CK.back(m:Nat)(u:m<=Ty D){d:Option Addr}{e:Nat}(h:CK A E F z C B D)(f:B.heap[A]?=Ua (cD #[C,P_ d (Ty D) e] 189))(i:B.ownsRow E 9 1 (P_ d (Ty D) e) (Ty D) (kE D)):
 FB A E B (Tz B (aL A 1) (P_ d m e))/\CK A E F z C (Tz B (aL A 1) (P_ d m e)) (D.take m):=by
 obtain⟨n,o⟩:(Value.slice d (Ty D) e).ownBlock≠Ua A/\E<=A:=by grind [CK.i_]
 have r:(Value.slice d m e).ownBlock≠Ua A:=by cases d<;>exact n
 obtain⟨x,c,y, -, -,v⟩:=rL i m u;have p:Um E B (Tz B (aL A 1) (P_ d m e)):=(dz _ _).setCell o _;have s:(Tz B (aL A 1) (P_ d m e)).heap[A]?=Ua (cD #[C,P_ d m e] 189):=by rw[aP f];rfl
 refine⟨⟨p,nj,λk j=>ed ?_⟩,⟨P_ d m e,s,?_⟩,h.vh.h_ λk j=>p.block k j.2⟩
 .rw[rS s]at j;rw[rS f,<-j];cases d<;>rfl
 grind [bC,em]
theorem FH(o p q:Nat)(g:List aC)(i:aW)(d:Nat)(O:qF o p q g i d)(v:aW)(l:List aC)(e_:cY)(w:aN)(h:CK o p q g i w e_)(C:rP (rn q p) w v l)(H:∀k∈l,fV d k)(y:Ty e_+(l.map (cV d)).sum<=90000)(N:Ty l<=90000):
 Ue Un 147 #[bF o,v] w (gJ o p q g i w { nO g (mI i) d l ⟨e_,0,0⟩with e_:=(nO g (mI i) d l ⟨e_,0,0⟩).e_.take (Ty e_) }):=by
 obtain⟨V,X,rfl⟩:=C.slice;have T:=aB (O _ l e_ w h C H y N);have j:=OK g (mI i) d l ⟨e_,0,0⟩;have HADD:=aB j;obtain⟨W,Y,n,Q,F,B, -⟩:=h.cut;obtain⟨r,L,M,J⟩:=mS n;generalize nO g (mI i) d l ⟨e_,0,0⟩=c at*;go_in
 go_wp2_with fail;apply T.mono
 rintro e U ⟨m,⟨E,rfl,rfl,b⟩|⟨s,rfl⟩⟩
 rotate_left
 .have z:=aB m;have K:=aB s;go_wp2_with fail;exact⟨aJ,(by grind [gJ])⟩
 obtain⟨x,t,I⟩:=HADD.out;have D:E=e_++x:=t;have A:Ty e_<=Ty E:=G_
 obtain⟨S,P,a,G,u,f, -⟩:=b.cut;have HFIN:=aB (b.back (Ty e_) A a f);have z:=aB m;obtain⟨r,L,M,J⟩:=mS a;go_wp2
 go_end0;grind [FB.trans,d7,gJ]
def uj.y_(h:uj t B C z):∀f∈z,1<=Ty f.y_:=by grind [uj.cells,List.mem_iff_getElem,KT]
def Y9(b:∀f∈z,1<=Ty f.y_)(x:bP):gN z Uc x=match pP z x with|some n=>(n:Int)|none=> -1:=by grind [gN,pP,dG]
def U9(b:∀f∈z,Ty f.y_<=90000){x:bP}{n:Nat}(h:pP z x=Ua n):n<=90000:=by
 unfold pP at h;split at h
 .grind
 split at h
 .grind
 cases c:dG z x with
 |none=>grind
 |some f=>
  grind [dG]
def F2(x:bP)(W:aN):Ue Un 178 #[Q_ (bs x)] W λe a=>e=bY (Uu #[I_ (1:Nat),Uw (x==[108,101,110])])/\R_ W a:=by
 have hx :=aX x
 all_goals
  go_in
  go_wp2
  exact bodyPost_ret (v:=Uu #[I_ (1:Nat),Uw _]) (by simp[results,results178]) rfl ⟨rfl,dz _ _⟩
def Q7(cb N L:Nat)(m:List aC)(q:aW)(ag:Ty m<=90000)(I:∀f∈m,Ty f.y_<=90000)(d:Nat)(HN:qF cb N L m q d)(c:aC)(v:aW)(b:cY)(w:aN)(h:CK cb N L m q w b)(X:rP (rn L N) w v c.y_)(hd:∀k∈c.y_,fV d k)(ab:Ty b+(c.y_.map (cV d)).sum<=90000)(Q:Ty c.y_<=90000):
 Ue Un 233 #[bF cb,Us #[I_ c.l_,Q_ (bs c.x_),v]] w (gJ cb N L m q w (nO m (mI q) d c.y_ (gH m (mI q) ⟨b,0,0⟩ c))):=by
 obtain⟨s,y,rfl⟩:=X.slice;have A:=h.lt;have G:R_ w (eH w #[I_ c.l_,Q_ (bs c.x_),P_ s (Ty c.y_) y] 341):=(by grind [ep,dz])
 have Z:=h.grow G;have H:=aB G;have J:Ul ((eH w #[I_ c.l_,Q_ (bs c.x_),P_ s (Ty c.y_) y] 341).heap[H_ w]?=Ua (cD #[I_ c.l_,Q_ (bs c.x_),P_ s (Ty c.y_) y] 341)):=aZ _ _ aJ _;obtain⟨sx,sc,D,ae,ac,S, -⟩:=Z.cut;obtain⟨af,c0,c1,f1⟩:=mS D
 obtain⟨P,Y,z,V,p⟩:∃(P:Option Nat) (Y:Nat),(∀n,P=Ua n->Y=n/\n<=90000)/\gN m (mI q) c.x_=(match P with|some n=>(n:Int)|none=> -1)/\((∃C B,q=FV (Uq C (Ty m) B)/\Ul (Ue Un 87 #[Uq C (Ty m) B,Ur (bs c.x_)] (eH w #[I_ c.l_,Ur (bs c.x_),Uq s (Ty c.y_) y] 341).drew λe w'=>e=bY (Uu #[I_ (Y:Nat),Uw P.isSome])/\Um (eH w #[I_ c.l_,Ur (bs c.x_),Uq s (Ty c.y_) y] 341).drew.heap.size (eH w #[I_ c.l_,Ur (bs c.x_),Uq s (Ty c.y_) y] 341).drew w'))\/(q=zw/\Ul (Ue Un 178 #[Ur (bs c.x_)] (eH w #[I_ c.l_,Ur (bs c.x_),Uq s (Ty c.y_) y] 341).drew λe w'=>e=bY (Uu #[I_ (Y:Nat),Uw P.isSome])/\Um (eH w #[I_ c.l_,Ur (bs c.x_),Uq s (Ty c.y_) y] 341).drew.heap.size (eH w #[I_ c.l_,Ur (bs c.x_),Uq s (Ty c.y_) y] 341).drew w'))):=by
  rcases(Z.grow (dz _ _).drew).vh with ⟨pv,rfl,U⟩|⟨rfl,rfl⟩
  .obtain⟨C,B,rfl⟩:∃x c,pv=P_ x (Ty m) c:=by grind [uj]
   exact⟨pP m c.x_,_,λn hn=>⟨G_,U9 I hn⟩,Y9 U.y_ c.x_,ed ⟨C,B,rfl,JD m (rn L N) (P_ C (Ty m) B) c.x_ _ aD I U⟩⟩
  have Q:=F2 c.x_ (eH w #[I_ c.l_,Q_ (bs c.x_),P_ s (Ty c.y_) y] 341).drew
  have O:gN [] (mI zw) c.x_=if c.x_==[108,101,110]then 1 else -1:=by grind [gN,dG,mI]
  rw[O];cases hx:(c.x_==[108,101,110])<;>rw[hx]at Q
  .exact⟨Ub,1,s_,rfl,ec ⟨rfl,Q⟩⟩
  exact⟨Ua 1,1,s_,rfl,ec ⟨rfl,Q⟩⟩
 have u:=aB V;clear V;have H0:=aB Z;have HK:=aB X;have aa:=aB (λW (hb:R_ w W)=>HN (P_ s (Ty c.y_) y) c.y_ b W (h.grow hb) (X.below (hb.mono aD)) hd ab Q)
 clear h X hd HN G Z D S I;cases P with
 |none=>
  have F:Ul (gH m (mI q) ⟨b,0,0⟩ c=⟨b,6,c.l_⟩):=by
   show _=_
   rw[uQ (W:= -1) u d_];rfl
  simp only[Option.isSome_none]at p;rw[F];clear u F z;rcases p with ⟨C,B,rfl,o⟩|⟨rfl,o⟩
  all_goals
   go_in
   go_wp2
   go_region_law (go_simp;(first|go_at_call 87|go_at_call 178);refine rf o λw1 g=>?_;have l:=aB (H.trans ((dz _ _).drew.trans (g.mono s_)));have a:=aB ((g.block (H_ w) s_).trans J);have m0:=aA a (i:=0) aJ;have m1:=aA a (i:=1) aJ;have m2:=aA a (i:=2) aJ;have T:=aH a;clear g)
   all_goals
    go_wp2_with fail;refine rf (wY c.l_ _) λw2 j=>?_
    have t:=aB (l.trans (j.mono l.size));clear j;go_wp2_with (go_at_call 88;refine rf (lD 6 c.l_ _) λw3 O=>?_;obtain rfl:=O.symm)
    exact⟨aJ,gJ.fault (c1:=⟨b,6,c.l_⟩) (FB.p_ t A) s_ ((by grind [sq.fold,sq.walk]))⟩
 |some n=>
  simp only[Option.isSome_some]at p;obtain⟨K,hn⟩:=z n rfl;rw[K]at p;clear K;by_cases he:n=Ty c.y_
  .have F:Ul (gH m (mI q) ⟨b,0,0⟩ c=⟨b,0,0⟩):=by grind [d7,gH]
   rw[F];subst he;clear u F z;generalize nO m (mI q) d c.y_ ⟨b,0,0⟩=r at*;rcases p with ⟨C,B,rfl,o⟩|⟨rfl,o⟩
   all_goals
    go_in
    go_wp2
    go_region_law (go_simp;(first|go_at_call 87|go_at_call 178);refine rf o λw1 g=>?_;have l:=aB (H.trans ((dz _ _).drew.trans (g.mono s_)));have a:=aB ((g.block (H_ w) s_).trans J);have m0:=aA a (i:=0) aJ;have m1:=aA a (i:=1) aJ;have m2:=aA a (i:=2) aJ;have T:=aH a;clear g)
    all_goals
     go_wp2_with fail;apply (aa _ l).mono
     rintro e w2 ⟨j,⟨s2,rfl,rfl,E⟩|⟨M,rfl⟩⟩
     .have t:=aB ((FB.p_ l A).trans j);have ah:=aB E;clear j E;go_wp2
      go_end0;grind [d7,gJ]
     have t:=aB ((FB.p_ l A).trans j);have ai:=aB M;clear j M;go_wp2_with fail;exact⟨aJ,(by grind [d7,gJ])⟩
  have F:Ul (gH m (mI q) ⟨b,0,0⟩ c=⟨b,7,c.l_⟩):=by
   show _=_
   rw[yD (W:=n) u aD aD];rfl
  rw[F];have ad:((n:Int) != (Ty c.y_:Int))=Ud:=G_
  clear u F z;rcases p with ⟨C,B,rfl,o⟩|⟨rfl,o⟩
  all_goals
   go_in
   go_wp2
   go_region_law (go_simp;(first|go_at_call 87|go_at_call 178);refine rf o λw1 g=>?_;have l:=aB (H.trans ((dz _ _).drew.trans (g.mono s_)));have a:=aB ((g.block (H_ w) s_).trans J);have m0:=aA a (i:=0) aJ;have m1:=aA a (i:=1) aJ;have m2:=aA a (i:=2) aJ;have T:=aH a;clear g)
   all_goals
    go_wp2_with fail;refine rf (wY c.l_ _) λw2 j=>?_
    have t:=aB (l.trans (j.mono l.size));clear j;go_wp2_with (go_at_call 88;refine rf (lD 7 c.l_ _) λw3 O=>?_;obtain rfl:=O.symm)
    exact⟨aJ,gJ.fault (c1:=⟨b,7,c.l_⟩) (FB.p_ t A) s_ ((by grind [sq.fold,sq.walk]))⟩
def PN.parts(h:PN t B C j):∃T c b,C=.iface T (Us c)/\Shape T c j b/\∀p∈b,p.ok t B:=by
 obtain⟨d,h⟩:=h;cases d with
 |zero=>exact h.elim
 |succ d=>
  obtain⟨T,c,b,g,f,i⟩:=h;exact⟨T,c,b,g,f,λp e=>(i p e).mono (λ_ _ h=>⟨d,h⟩) (s_)⟩
structure Loc(cb tp:Nat)(w0:aN)(b:Nat)(o:Obj)(W:aN):Prop where
 fb:FB cb tp w0 W
 i_:W.heap[b]?=Ua o
 row:lT cb W≠Ua b
 ne:b≠cb
def Loc.new{c k:Nat}{a:cY}(h:CK c A k z C B a)(o:Obj):Loc c A B B.heap.size o (B.alloc o)/\CK c A k z C (B.alloc o) a:=by
 have b:=h.lt;have g:R_ B (B.alloc o):=(by grind [ep,dz])
 refine⟨⟨FB.p_ g b,aZ _ _ aJ _,λe=>?_,aD⟩,h.grow g⟩
 obtain⟨m,d,l,_⟩:=h.i_;rw[IN (g.block c b.1),rS d]at e;have:=eG l _ e;exact aD
theorem Loc.step{b:Nat}{o:Obj}{f g:aN}(h:Loc A E f b o B)(d:FB A E B g):Loc A E f b o g:=
 ⟨h.fb.trans d,(d.i_ b (aH h.i_) h.ne h.row).trans h.i_,λe=>by
   rcases d.row _ e with e|e
   .exact h.row e
   have:=aH h.i_;exact aD,h.ne⟩
def sX(cb tp lo:Nat)(fs:List aC)(fv:aW)(d:Nat):Prop:=
 ∀(v:aW) (b:aC) (e_:cY) (w:aN),CK cb tp lo fs fv w e_->b.op=[98,108,111,99,107]->rP (rn lo tp) w v b.y_->fV d b->Ty e_+cV d b<=90000->
  Ue Un 147 #[bF cb,v] w (gJ cb tp lo fs fv w (aT fs (mI fv) d b ⟨e_,0,0⟩))
theorem BN(h:∀k∈z,fV A k):Ty z<=(z.map (cV A)).sum:=by
 cases A with
 |zero=>
  cases z with
  |nil=>simp
  |cons x z=>exact(h x (s_)).elim
 |succ A=>exact pQ A z
theorem ZC{d:Nat}(g:qF A E F z C d):sX A E F z C (d+1):=by grind [cV,aT,cQ,BN,FH,sX,fV]
def Ps(d:Nat)(i:qF A E F z C d)(e_:cY)(w:aN)(h:CK A E F z C w e_)(j:Ty e_<=90000):
 Ue Un 147 #[bF A,bO] w (gJ A E F z C w ⟨e_,0,0⟩):=by
 have:=FH A E F z C d i (bO) [] e_ w h (ed s_) (s_) G_ s_
 have e:({ nO z (mI C) d [] ⟨e_,0,0⟩with e_:=(nO z (mI C) d [] ⟨e_,0,0⟩).e_.take (Ty e_) }:bJ)=⟨e_,0,0⟩:=by simp
 rw[e]at this;exact this
def oY{t:cY}(h:sj g ⟨t,0,0⟩ A)(b:g.e_=D)(c:Ty D+(A+F)<=E):Ty t+F<=E:=by grind [sj]
def PM(s:bJ)(l:Nat)(x:bP):bJ:=if s.e_.contains x then s else s.found l 6
def d9(s:bJ)(l:Nat)(x:bP):sj s (PM s l x) 0:=(by grind [sj.of_eq,PM,sD])
def Eb(b c f:Nat)(d:List aC)(e:aW)(w:aN)(a:cY)(h:CK b c f d e w a)(g:Ty a<=100000)(l:Nat)(x:bP):
 Ue Un 232 #[bF b,Us #[I_ l,Q_ (bs x)]] w (gJ b c f d e w (PM ⟨a,0,0⟩ l x)):=Hh b c f d e w a h g l x
section
variable {cb tp lo d l:Nat} {fs:List aC} {fv v1 v2 v3:aW} {w W:aN} {e_:cY} {c c0:bJ} {a1 a2 a3:aC}
def tz{b f:Nat}{o:Obj}{x:Array Uf}{s:cY}{Q:Ending->World->Prop}(m:Ue Un f x W (gJ cb tp lo fs fv W c0))(H:Ul (Loc cb tp w b o W/\CK cb tp lo fs fv W s))(j:sq c0 c)(g:∀k l a,Ul (gJ cb tp lo fs fv w c (iD k l) a)->Q (iD k l) a)
 (n:∀s a,Ul (c0=⟨s,0,0⟩)->Ul (Loc cb tp w b o a/\CK cb tp lo fs fv a s)->Q (fD) a):Ue Un f x W Q:=
 m.mono λe a h=>by
  obtain⟨i,⟨s,d,rfl,p⟩|⟨d,rfl⟩⟩:=h
  .grind [Loc.step,d7]
  exact g _ _ a (gJ.fault (H.1.fb.trans i) d j)
def Er{b:Nat}{a c d:aW}{t:TypeId}(h:W.heap[b]?=Ua (cD #[a,c,d] t)):dP W b 0 a/\dP W b 1 c/\dP W b 2 d/\b<H_ W:=(by grind [aA])
def KG{b:Nat}{a c e d:aW}{t:TypeId}(h:W.heap[b]?=Ua (cD #[a,c,e,d] t)):dP W b 0 a/\dP W b 1 c/\dP W b 2 e/\dP W b 3 d/\b<H_ W:=(by grind [aA])
def GI{Z_:Prop}(Y_:Z_:=by
 have H:=aB h;clear h;go_in
 go_wp2
 go_end0;exact gJ.done (FB.refl _) aJ H):Z_:=Y_
def NY{k:Nat}(h:CK cb tp lo fs fv w e_):Ue Un 179 #[bF cb,dH 365 (Us #[I_ l,I_ k])] w (gJ cb tp lo fs fv w ⟨e_,0,0⟩):=by exact GI
def Ro{x:ByteArray}(h:CK cb tp lo fs fv w e_):Ue Un 179 #[bF cb,dH 394 (Us #[I_ l,Q_ x])] w (gJ cb tp lo fs fv w ⟨e_,0,0⟩):=by exact GI
def Jb{x:Bool}(h:CK cb tp lo fs fv w e_):Ue Un 179 #[bF cb,dH 396 (Us #[I_ l,Uw x])] w (gJ cb tp lo fs fv w ⟨e_,0,0⟩):=by exact GI
def RW(j:qF cb tp lo fs fv d)(h:CK cb tp lo fs fv w e_){a:List aC}(f:rP (rn lo tp) w v1 a)(b:∀k∈a,fV d k)(i:Ty e_+((a.map (cV d)).sum+0)<=90000)(q:Ul (c=nO fs (mI fv) d a ⟨e_,0,0⟩)):
 Ue Un 179 #[bF cb,dH 346 (Us #[I_ l,v1])] w (gJ cb tp lo fs fv w c):=by
 obtain⟨m,n,rfl⟩:=f.slice;have e:Ul (_/\_):=Loc.new h (cD #[I_ l,P_ m (Ty a) n] 346);clear h;go_in
 go_wp2_with fail;refine tz (c:=c) (j _ a e_ _ e.2 (f.below e.1.fb.re) b aD (by have:=BN b;exact aD)) e mm (λk l g H=>?_) λp g o e=>?_
 .go_wp2_with fail;exact⟨aJ,H⟩
 go_wp2
 go_end0;grind [Loc.fb,d7,gJ]
def Sk{x:ByteArray}(j:mU cb tp lo fs fv d)(h:CK cb tp lo fs fv w e_)(f:PN (rn lo tp) w v1 a1)(b:fV d a1)(i:Ty e_+(cV d a1+0)<=90000)(p:Ul (c=aT fs (mI fv) d a1 ⟨e_,0,0⟩)):
 Ue Un 179 #[bF cb,dH 350 (Us #[I_ l,Q_ x,v1])] w (gJ cb tp lo fs fv w c):=by
 obtain⟨m,e,rfl⟩:=f.form;have a:Ul (_/\_):=Loc.new h (cD #[I_ l,Q_ x,dH m (Us e)] 350);clear h;go_in
 go_wp2_with fail;refine tz (c:=c) (j _ a1 e_ _ a.2 (f.below a.1.fb.re) b aD) a mm (λk l g H=>?_) λo g n a=>?_
 .go_wp2_with fail;exact⟨aJ,H⟩
 go_wp2
 go_end0;grind [Loc.fb,d7,gJ]
def Kl(j:mU cb tp lo fs fv d)(h:CK cb tp lo fs fv w e_)(f:PN (rn lo tp) w v1 a1)(b:fV d a1)(i:Ty e_+(cV d a1+0)<=90000)(p:Ul (c=aT fs (mI fv) d a1 ⟨e_,0,0⟩)):
 Ue Un 179 #[bF cb,dH 338 (Us #[I_ l,v1])] w (gJ cb tp lo fs fv w c):=by
 obtain⟨m,e,rfl⟩:=f.form;have a:Ul (_/\_):=Loc.new h (cD #[I_ l,dH m (Us e)] 338);clear h;go_in
 go_wp2_with fail;refine tz (c:=c) (j _ a1 e_ _ a.2 (f.below a.1.fb.re) b aD) a mm (λk l g H=>?_) λo g n a=>?_
 .go_wp2_with fail;exact⟨aJ,H⟩
 go_wp2
 go_end0;grind [Loc.fb,d7,gJ]
def Ob(j:mU cb tp lo fs fv d)(h:CK cb tp lo fs fv w e_)(f:PN (rn lo tp) w v1 a1)(b:fV d a1)(i:Ty e_+(cV d a1+0)<=90000)(p:Ul (c=aT fs (mI fv) d a1 ⟨e_,0,0⟩)):
 Ue Un 179 #[bF cb,dH 339 (Us #[I_ l,v1])] w (gJ cb tp lo fs fv w c):=by
 obtain⟨m,e,rfl⟩:=f.form;have a:Ul (_/\_):=Loc.new h (cD #[I_ l,dH m (Us e)] 339);clear h;go_in
 go_wp2_with fail;refine tz (c:=c) (j _ a1 e_ _ a.2 (f.below a.1.fb.re) b aD) a mm (λk l g H=>?_) λo g n a=>?_
 .go_wp2_with fail;exact⟨aJ,H⟩
 go_wp2
 go_end0;grind [Loc.fb,d7,gJ]
def Lr(q:mU cb tp lo fs fv d)(h:CK cb tp lo fs fv w e_)(p:PN (rn lo tp) w v1 a1)(g:fV d a1)(m:PN (rn lo tp) w v2 a2)(e:fV d a2)(b:Ty e_+(cV d a1+(cV d a2+0))<=90000)(A:Ul (c=aT fs (mI fv) d a2 (aT fs (mI fv) d a1 ⟨e_,0,0⟩))):
 Ue Un 179 #[bF cb,dH 348 (Us #[I_ l,v1,v2])] w (gJ cb tp lo fs fv w c):=by
 obtain⟨s,i,rfl⟩:=p.form;obtain⟨x,f,rfl⟩:=m.form;have a:Ul (_/\_):=Loc.new h (cD #[I_ l,dH s (Us i),dH x (Us f)] 348);clear h;go_in
 go_wp2_with fail;refine tz (c:=c) (q _ a1 e_ _ a.2 (p.below a.1.fb.re) g aD) a np (λk l j H=>?_) λu j v a=>?_
 .go_wp2_with fail;exact⟨aJ,H⟩
 replace b:=oY (v.out▸gY fs (mI fv) d a1 ⟨e_,0,0⟩) rfl b
 obtain⟨r,n,o,t⟩:=Er a.1.i_;go_wp2_with fail;refine tz (c:=c) (q _ a2 u _ a.2 (m.below a.1.fb.re) e aD) a mm (λk l j H=>?_) λy B z a=>?_
 .go_wp2_with fail;exact⟨aJ,H⟩
 go_wp2
 go_end0;grind [Loc.fb,d7,gJ]
def Ov{x:ByteArray}(r:mU cb tp lo fs fv d)(h:CK cb tp lo fs fv w e_)(q:PN (rn lo tp) w v1 a1)(g:fV d a1)(m:PN (rn lo tp) w v2 a2)(e:fV d a2)(b:Ty e_+(cV d a1+(cV d a2+0))<=90000)(C:Ul (c=aT fs (mI fv) d a2 (aT fs (mI fv) d a1 ⟨e_,0,0⟩))):
 Ue Un 179 #[bF cb,dH 352 (Us #[I_ l,Q_ x,v1,v2])] w (gJ cb tp lo fs fv w c):=by
 obtain⟨t,i,rfl⟩:=q.form;obtain⟨z,f,rfl⟩:=m.form;have a:Ul (_/\_):=Loc.new h (cD #[I_ l,Q_ x,dH t (Us i),dH z (Us f)] 352);clear h;go_in
 go_wp2_with fail;refine tz (c:=c) (r _ a1 e_ _ a.2 (q.below a.1.fb.re) g aD) a np (λk l j H=>?_) λv j y a=>?_
 .go_wp2_with fail;exact⟨aJ,H⟩
 replace b:=oY (y.out▸gY fs (mI fv) d a1 ⟨e_,0,0⟩) rfl b
 obtain⟨s,n,o,p,u⟩:=KG a.1.i_;go_wp2_with fail;refine tz (c:=c) (r _ a2 v _ a.2 (m.below a.1.fb.re) e aD) a mm (λk l j H=>?_) λA D B a=>?_
 .go_wp2_with fail;exact⟨aJ,H⟩
 go_wp2
 go_end0;grind [Loc.fb,d7,gJ]
def Ns(u:mU cb tp lo fs fv d)(g:sX cb tp lo fs fv d)(h:CK cb tp lo fs fv w e_)(q:PN (rn lo tp) w v1 a1)(f:fV d a1)(j:a2.op=[98,108,111,99,107])(n:rP (rn lo tp) w v2 a2.y_)(e:fV d a2)(b:Ty e_+(cV d a1+(cV d a2+0))<=90000)(C:Ul (c=aT fs (mI fv) d a2 (aT fs (mI fv) d a1 ⟨e_,0,0⟩))):
 Ue Un 179 #[bF cb,dH 336 (Us #[I_ l,v1,v2])] w (gJ cb tp lo fs fv w c):=by
 obtain⟨s,i,rfl⟩:=q.form;obtain⟨x,z,rfl⟩:=n.slice;have a:Ul (_/\_):=Loc.new h (cD #[I_ l,dH s (Us i),P_ x (Ty a2.y_) z] 336);clear h;go_in
 go_wp2_with fail;refine tz (c:=c) (u _ a1 e_ _ a.2 (q.below a.1.fb.re) f aD) a np (λk l m H=>?_) λv m y a=>?_
 .go_wp2_with fail;exact⟨aJ,H⟩
 replace b:=oY (y.out▸gY fs (mI fv) d a1 ⟨e_,0,0⟩) rfl b
 obtain⟨r,o,p,t⟩:=Er a.1.i_;go_wp2_with fail;refine tz (c:=c) (g _ a2 v _ a.2 j (n.below a.1.fb.re) e aD) a mm (λk l m H=>?_) λA D B a=>?_
 .go_wp2_with fail;exact⟨aJ,H⟩
 go_wp2
 go_end0;grind [Loc.fb,d7,gJ]
def Ii(K:mU cb tp lo fs fv d)(e:sX cb tp lo fs fv d)(h:CK cb tp lo fs fv w e_)(u:PN (rn lo tp) w v1 a1)(m:fV d a1)(o:a2.op=[98,108,111,99,107])(q:rP (rn lo tp) w v2 a2.y_)(f:fV d a2)(i:a3.op=[98,108,111,99,107])(y:rP (rn lo tp) w v3 a3.y_)(j:fV d a3)(b:Ty e_+(cV d a1+(cV d a2+(cV d a3+0)))<=90000)(P:Ul (c=aT fs (mI fv) d a3 (aT fs (mI fv) d a2 (aT fs (mI fv) d a1 ⟨e_,0,0⟩)))):
 Ue Un 179 #[bF cb,dH 334 (Us #[I_ l,v1,v2,v3])] w (gJ cb tp lo fs fv w c):=by
 obtain⟨C,n,rfl⟩:=u.form;obtain⟨L,N,rfl⟩:=q.slice;obtain⟨D,E,rfl⟩:=y.slice;have a:Ul (_/\_):=Loc.new h (cD #[I_ l,dH C (Us n),P_ L (Ty a2.y_) N,P_ D (Ty a3.y_) E] 334);clear h;go_in
 go_wp2_with fail;refine tz (c:=c) (K _ a1 e_ _ a.2 (u.below a.1.fb.re) m aD) a (by grind [d7,sq.walk,sq]) (λk l g H=>?_) λx g M a=>?_
 .go_wp2_with fail;exact⟨aJ,H⟩
 replace b:=oY (M.out▸gY fs (mI fv) d a1 ⟨e_,0,0⟩) rfl b
 obtain⟨v,r,s,t,G⟩:=KG a.1.i_;go_wp2_with fail;refine tz (c:=c) (e _ a2 x _ a.2 o (q.below a.1.fb.re) f aD) a np (λk l g H=>?_) λF T I a=>?_
 .go_wp2_with fail;exact⟨aJ,H⟩
 replace b:=oY (I.out▸gY fs (mI fv) d a2 ⟨x,0,0⟩) rfl b
 obtain⟨z,p,A,B,J⟩:=KG a.1.i_;go_wp2_with fail;refine tz (c:=c) (e _ a3 F _ a.2 i (y.below a.1.fb.re) j aD) a mm (λk l g H=>?_) λQ O S a=>?_
 .go_wp2_with fail;exact⟨aJ,H⟩
 go_wp2
 go_end0;grind [Loc.fb,d7,gJ]
def Li(E:mU cb tp lo fs fv d)(F:qF cb tp lo fs fv d)(i:sX cb tp lo fs fv d)(h:CK cb tp lo fs fv w e_)(s:PN (rn lo tp) w v1 a1)(g:fV d a1)(m:a2.op=[98,108,111,99,107])(o:rP (rn lo tp) w v2 a2.y_)(e:fV d a2)(b:Ty e_+(cV d a1+(cV d a2+(0+0)))<=90000)(L:Ul (c=aT fs (mI fv) d a2 (aT fs (mI fv) d a1 ⟨e_,0,0⟩))):
 Ue Un 179 #[bF cb,dH 334 (Us #[I_ l,v1,v2,bO])] w (gJ cb tp lo fs fv w c):=by
 obtain⟨z,j,rfl⟩:=s.form;obtain⟨G,J,rfl⟩:=o.slice;have a:Ul (_/\_):=Loc.new h (cD #[I_ l,dH z (Us j),P_ G (Ty a2.y_) J,bO] 334);clear h;go_in
 go_wp2_with fail;refine tz (c:=c) (E _ a1 e_ _ a.2 (s.below a.1.fb.re) g aD) a np (λk l f H=>?_) λu f I a=>?_
 .go_wp2_with fail;exact⟨aJ,H⟩
 replace b:=oY (I.out▸gY fs (mI fv) d a1 ⟨e_,0,0⟩) rfl b
 obtain⟨t,p,q,r,B⟩:=KG a.1.i_;go_wp2_with fail;refine tz (c:=c) (i _ a2 u _ a.2 m (o.below a.1.fb.re) e aD) a mm (λk l f H=>?_) λA O C a=>?_
 .go_wp2_with fail;exact⟨aJ,H⟩
 replace b:=oY (C.out▸gY fs (mI fv) d a2 ⟨u,0,0⟩) rfl b
 obtain⟨v,n,x,y,D⟩:=KG a.1.i_;go_wp2_with fail;refine tz (c:=c) (Ps d F A _ a.2 aD) a (by grind [sq]) (λk l f H=>?_) λM K N a=>?_
 .go_wp2_with fail;exact⟨aJ,H⟩
 go_wp2
 go_end0;grind [Loc.fb,d7,gJ]
def VU{x:bP}(h:CK cb tp lo fs fv w e_)(d:Ty e_+(0+0)<=90000)(g:Ul (c=PM ⟨e_,0,0⟩ l x)):
 Ue Un 179 #[bF cb,dH 344 (Us #[I_ l,Q_ (bs x)])] w (gJ cb tp lo fs fv w c):=by
 have a:Ul (_/\_):=Loc.new h (cD #[I_ l,Q_ (bs x)] 344);clear h;go_in
 go_wp2_with fail;refine tz (c:=c) (Eb cb tp lo fs fv _ e_ a.2 aD l x) a mm (λk l b H=>?_) λf b e a=>?_
 .go_wp2_with fail;exact⟨aJ,H⟩
 go_wp2
 go_end0;grind [Loc.fb,d7,gJ]
def Si{x:bP}(E:mU cb tp lo fs fv d)(F:qF cb tp lo fs fv d)(h:CK cb tp lo fs fv w e_){e:List aC}(n:rP (rn lo tp) w v2 e)(f:∀k∈e,fV d k)(r:PN (rn lo tp) w v1 a1)(i:fV d a1)(b:Ty e_+(0+((e.map (cV d)).sum+(cV d a1+0)))<=90000)(L:Ul (c=aT fs (mI fv) d a1 (nO fs (mI fv) d e (PM ⟨e_,0,0⟩ l x)))):
 Ue Un 179 #[bF cb,dH 332 (Us #[I_ l,Q_ (bs x),v2,v1])] w (gJ cb tp lo fs fv w c):=by
 obtain⟨G,J,rfl⟩:=n.slice;obtain⟨z,j,rfl⟩:=r.form;have a:Ul (_/\_):=Loc.new h (cD #[I_ l,Q_ (bs x),P_ G (Ty e) J,dH z (Us j)] 332);clear h;go_in
 go_wp2_with fail;refine tz (c:=c) (Eb cb tp lo fs fv _ e_ a.2 aD l x) a (by grind [d7,sq.fold,sq.walk,sq]) (λk l g H=>?_) λt g I a=>?_
 .go_wp2_with fail;exact⟨aJ,H⟩
 replace b:=oY (I.out▸d9 ⟨e_,0,0⟩ l x) rfl b
 obtain⟨s,o,p,q,B⟩:=KG a.1.i_;go_wp2_with fail;refine tz (c:=c) (F _ e t _ a.2 (n.below a.1.fb.re) f aD (by have:=BN f;exact aD)) a np (λk l g H=>?_) λA O C a=>?_
 .go_wp2_with fail;exact⟨aJ,H⟩
 replace b:=oY (C.out▸OK fs (mI fv) d e ⟨t,0,0⟩) rfl b
 obtain⟨u,m,v,y,D⟩:=KG a.1.i_;go_wp2_with fail;refine tz (c:=c) (E _ a1 A _ a.2 (r.below a.1.fb.re) i aD) a mm (λk l g H=>?_) λM K N a=>?_
 .go_wp2_with fail;exact⟨aJ,H⟩
 go_wp2
 go_end0;grind [Loc.fb,d7,gJ]
end
section
variable {cb tp lo d l m:Nat} {fs:List aC} {fv v v1:aW} {w:aN} {e_:cY} {c:bJ} {a t a1:aC}
def V0(g:Ty fs<=90000)(i:∀f∈fs,Ty f.y_<=90000)(q:qF cb tp lo fs fv d)(h:CK cb tp lo fs fv w e_)(m:rP (rn lo tp) w v a.y_)(j:∀k∈a.y_,fV d k)(e:Ty e_+(a.y_.map (cV d)).sum<=90000)(n:Ul (c=nO fs (mI fv) d a.y_ (gH fs (mI fv) ⟨e_,0,0⟩ a))):
 Ue Un 179 #[bF cb,dH 341 (Us #[I_ a.l_,Q_ (bs a.x_),v])] w (gJ cb tp lo fs fv w c):=by
 obtain⟨p,r,rfl⟩:=m.slice;have b:Ul (_/\_):=Loc.new h (cD #[I_ a.l_,Q_ (bs a.x_),P_ p (Ty a.y_) r] 341);have t:=aB (Q7 cb tp lo fs fv g i d q a _ e_ _ b.2 (m.below b.1.fb.re) j e (by have:=BN j;exact aD))
 clear h;go_in
 go_wp2_with fail;refine tz (c:=c) t b (by rw[n];exact sq.refl _) (λk l o H=>?_) λu o s b=>?_
 .go_wp2_with fail;exact⟨aJ,H⟩
 go_wp2
 go_end0;exact gJ.done b.1.fb (by rw[n,s.out]) b.2
def I7(n:mU cb tp lo fs fv d)(h:CK cb tp lo fs fv w e_)(g:PN (rn lo tp) w v1 a1)(b:fV d a1)(e:Ty e_+cV d a1<=90000)(i:Ul (c=({ aT fs (mI fv) d a1 (Hs.oo ⟨e_,0,0⟩ t)with e_:=(aT fs (mI fv) d a1 (Hs.oo ⟨e_,0,0⟩ t)).e_++[t.x_] }:bJ))):
 Ue Un 179 #[bF cb,dH 329 (Us #[I_ l,I_ t.l_,Q_ (bs t.x_),v1])] w (gJ cb tp lo fs fv w c):=by
 obtain⟨o,f,rfl⟩:=g.form;have a:Ul (_/\_):=Loc.new h (cD #[I_ l,I_ t.l_,Q_ (bs t.x_),dH o (Us f)] 329);have p:=aB (YG cb tp lo fs fv d n _ e_ a.2 l t a1 _ (g.below a.1.fb.re) b e);clear h;go_in
 go_wp2_with fail;refine tz (c:=c) p a (by rw[i];exact sq.refl _) (λk l j H=>?_) λq j m a=>?_
 .go_wp2_with fail;exact⟨aJ,H⟩
 go_wp2
 go_end0;exact gJ.done a.1.fb (by rw[i,m.out]) a.2
def I6(h:CK cb tp lo fs fv w e_):
 Ue Un 179 #[bF cb,dH 338 (Us #[I_ l,dH 365 (Us #[I_ m,I_ 0])])] w (gJ cb tp lo fs fv w ⟨e_,0,0⟩):=by
 have a:Ul (_/\_):=Loc.new h (cD #[I_ l,dH 365 (Us #[I_ m,I_ 0])] 338);have e:=aB (NY (l:=m) (k:=0) a.2);clear h;go_in
 go_wp2_with fail;refine tz (c:=⟨e_,0,0⟩) e a (sq.refl _) (λk l b H=>?_) λf b d a=>?_
 .go_wp2_with fail;exact⟨aJ,H⟩
 go_wp2
 go_end0;exact gJ.done a.1.fb d a.2
end
def tV(e:(j.op==[118,97,114])=Uc)(f:(j.op==[98,108,111,99,107])=Uc):aT z b (A+1) j g=nO z b A j.y_ (cQ z b g j):=by grind [aT]
theorem sa(e:(j.op==[115,101,116])=Uc)(d:(j.op==[110,97,109,101])=Uc)(f:(j.op==[99,97,108,108])=Uc):cQ z b g j=g:=by grind [cQ]
theorem VZ(h:(j.op==[115,101,116] || j.op==[110,97,109,101])=Ud):cQ z b g j=PM g j.l_ j.x_:=by unfold cQ;rw[h];rfl
def OC(h:j.op=[99,97,108,108]):cQ z b g j=gH z b g j:=by grind [cQ]
def VM{y:bP}(h:cU l≠9)(a:cU y=9):(l==y)=Uc:=by grind
def pO(h:j.op=l)(k:(l==[118,97,114] || l==[98,108,111,99,107] || l==[115,101,116] || l==[110,97,109,101] || l==[99,97,108,108])=Uc:=by decide):aT z b (A+1) j g=nO z b A j.y_ g:=by grind [sa,aT]
theorem Nk(B D G:Nat)(m:List aC)(n:aW)(C:Ty m<=90000)(E:∀f∈m,Ty f.y_<=90000)(d:Nat)(IHs:∀e,e<=d->mU B D G m n e):mU B D G m n (d+1):=by
 intro v a e_ w h N y i;obtain⟨T,X,V,rfl,K,q⟩:=N.parts;have r:=IHs d mJ;have H:=xU B D G m n d r
 have x:sX B D G m n d:=by
  cases d with
  |zero=>grind [sX,fV]
  |succ e=>grind [ZC,xU]
 rw[cV]at i;have j:∀k∈a.y_,fV d k:=y;clear N y;rcases K with ⟨rfl,k,rfl,g,U,b,rfl⟩|⟨rfl,rfl,g,b,rfl⟩|⟨rfl,rfl,g,b,rfl⟩|⟨rfl,I,rfl,g,rfl⟩|⟨rfl,I,rfl,g,rfl⟩|⟨rfl,rfl,g,b,rfl⟩|⟨rfl,l,u,Q,p,S,rfl,g,b,rfl⟩|⟨rfl,o,u,p,rfl,Y,g,b,rfl⟩|⟨rfl,l,u,Q,p,S,rfl,g,b,rfl⟩|⟨rfl,u,t,p,rfl,g,b,rfl⟩|⟨rfl,I,u,l,p,rfl,g,b,rfl⟩|⟨rfl,u,M,p,L,rfl,g,s,b,rfl⟩|⟨rfl,u,M,W,p,L,Z,rfl,g,s,J,b,rfl⟩|⟨rfl,u,M,p,L,rfl,g,s,b,rfl⟩|⟨rfl,l,rfl,g,b,rfl⟩|⟨rfl,u,p,rfl,g,b,rfl⟩|⟨rfl,u,p,rfl,g,b,rfl⟩|⟨rfl,I,c,rfl,g,P,O,b,z,rfl⟩
 .have e:aT m (mI n) (d+1) a ⟨e_,0,0⟩=⟨e_,0,0⟩:=by rw[pO g,b];rfl
  rw[e];exact NY h
 .have e:aT m (mI n) (d+1) a ⟨e_,0,0⟩=⟨e_,0,0⟩:=by rw[pO g,b];rfl
  rw[e];exact Ro h
 .have e:aT m (mI n) (d+1) a ⟨e_,0,0⟩=⟨e_,0,0⟩:=by rw[pO g,b];rfl
  rw[e];exact Jb h
 .rw[pO g];exact RW H h mn j aD rfl
 .rw[tV G_ G_,OC g]
  exact V0 C E H h mn j aD rfl
 .have e:aT m (mI n) (d+1) a ⟨e_,0,0⟩=PM ⟨e_,0,0⟩ a.l_ a.x_:=by grind [VZ,aT]
  rw[e];exact VU h aD rfl
 .rw[pO g,b];rw[b]at i j;simp only[fm,gg,fu,gr]at i;exact Lr r h (q _ s_).tf (G_) nr (G_) aD rfl
 .have F:a.op=[45,120]\/a.op=[33,120]:=G_
  have e:aT m (mI n) (d+1) a ⟨e_,0,0⟩=aT m (mI n) d p ⟨e_,0,0⟩:=by rcases F with g|g<;>(rw[pO g,b];rfl)
  rw[e];rw[b]at i j;simp only[fm,gg,fu,gr]at i;exact Sk r h (q _ s_).tf (G_) aD rfl
 .rw[tV (VM g d_) (VM g d_),sa (VM g d_) (VM g d_) (VM g d_),b]
  rw[b]at i j;simp only[fm,gg,fu,gr]at i;exact Ov r h (q _ s_).tf (G_) nr (G_) aD rfl
 .have e:aT m (mI n) (d+1) a ⟨e_,0,0⟩={ aT m (mI n) d p (Hs.oo ⟨e_,0,0⟩ t)with e_:=(aT m (mI n) d p (Hs.oo ⟨e_,0,0⟩ t)).e_++[t.x_] }:=by grind [aT]
  rw[e];rw[b]at i j;simp only[fm,gg,fu,gr]at i;exact I7 r h (q _ s_).tf (G_) aD rfl
 .rw[tV G_ G_,VZ G_,b]
  rw[b]at i j;simp only[fw,fm,gg,jd,fu,gr]at i
  have e:nO m (mI n) d (l++[p]) (PM ⟨e_,0,0⟩ a.l_ a.x_)=aT m (mI n) d p (nO m (mI n) d l (PM ⟨e_,0,0⟩ a.l_ a.x_)):=by simp
  rw[e];exact Si r H h mn (G_) nr (G_) aD rfl
 .rw[pO g,b];rw[b]at i j;simp only[fm,gg,fu,gr]at i;exact Li r H x h nr (G_) s mn (G_) aD rfl
 .rw[pO g,b];rw[b]at i j;simp only[fm,gg,fu,gr]at i;exact Ii r x h nr (G_) s mn (G_) J mn (G_) aD rfl
 .rw[pO g,b];rw[b]at i j;simp only[fm,gg,fu,gr]at i;exact Ns r x h nr (G_) s mn (G_) aD rfl
 .have e:aT m (mI n) (d+1) a ⟨e_,0,0⟩=⟨e_,0,0⟩:=by rw[pO g,b];rfl
  rw[e];exact I6 h
 .rw[pO g,b];rw[b]at i j;simp only[fm,gg,fu,gr]at i;exact Kl r h (q _ s_).tf (G_) aD rfl
 .rw[pO g,b];rw[b]at i j;simp only[fm,gg,fu,gr]at i;exact Ob r h (q _ s_).tf (G_) aD rfl
 rw[pO g,b];rw[b]at i j;simp only[fm,gg,fu,gr]at i;have A:=j c s_
 cases d with
 |zero=>exact A.elim
 |succ e=>
  show Ue _ _ _ _ (gJ B D G m n w (aT m (mI n) (e+1) c ⟨e_,0,0⟩))
  rw[cV]at i;rw[tV G_ G_,OC z]
  exact V0 C E ((by grind [xU])) h mn A aD rfl
theorem Rs(b g i:Nat)(a:List aC)(h:aW)(e:Ty a<=90000)(c:∀f∈a,Ty f.y_<=90000)(d:Nat):mU b g i a h d:=by
 induction d using Nat.strongRecOn with
 |_ d j=>
  cases d with
  |zero=>grind [mU,fV]
  |succ d=>grind [Nk]
def Mc(k:Nat)(c:k<Ty z):(Aq z)[k*2]?=Ua (I_ z[k].l_)/\(Aq z)[k*2+1]?=Ua (Q_ (bs z[k].x_)):=by
 induction z generalizing k with
 |nil=>simp at c
 |cons a z d=>
  grind [Aq]
def xq.get(h:xq t B C z):(C=bO/\z=[])\/∃g a,C=P_ (Ua (aL g 0)) (Ty z) a/\t g/\g<H_ B/\Ty z<=a/\∀k (c:k<Ty z),dP B g (k*2) (I_ z[k].l_)/\dP B g (k*2+1) (Q_ (bs z[k].x_)):=by
 obtain⟨_,h|⟨g,a,d,i,e,n,f,l⟩⟩:=h
 .grind
 refine ec ⟨g,a,i,e,G_,f,λk c=>?_⟩
 obtain⟨j,m⟩:=Mc k c;grind [aA]
def JU:∀{a:List Uf} {c:List aC} (i:Nat),jM (CN t B) a c->i<=Ty c->(pE a).take (i*4)=pE (a.take i)
 |[],[],i,_,h=>by simp[pE]
 |u::a,f::c,0,_,_=>by simp[pE]
 |u::a,f::c,i+1,⟨⟨l,j,d,b,g,_⟩,h⟩,k=>by
  have e:=JU i h G_
  grind [pE,KD]
 |[],_::_,_,h,_=>h.elim
 |_::_,[],_,h,_=>h.elim
def jM.take{R:Uf->aC->Prop}:∀{a b} (i:Nat),jM R a b->jM R (a.take i) (b.take i)
 |_,_,0,_=>by simp[jM]
 |[],[],_+1,_=>trivial
 |_::_,_::_,i+1,⟨d,c⟩=>⟨d,jM.take i c⟩
 |[],_::_,_,h=>h.elim
 |_::_,[],_,h=>h.elim
def uj.take{g:Nat}(h:uj t B (Uq (Ua (aL g 0)) (Ty z) A) z)(i:Nat)(n:i<=Ty z):uj t B (Uq (Ua (aL g 0)) i A) (z.take i):=by
 rcases h with ⟨c,_⟩|⟨q,e,d,o,c,k,m,p,l,j⟩
 .cases c
 cases c;have f:Ty (z.take i)=i:=G_
 refine ec ⟨g,A,d,o.take i,by rw[f],k,m,aD,?_,j.take i⟩
 rw[f,<-JU i j n,<-l,List.take_take];grind
def CK.reset{m:aW}(h:CK A E F z C B D)(c:B.heap[A]?=Ua (cD #[C,m] 189)):
 FB A E B (Tz B (aL A 1) (bO))/\CK A E F z C (Tz B (aL A 1) (bO)) []:=by
 have i:Um E B (Tz B (aL A 1) (bO)):=(dz _ _).setCell h.lt.2 _;have l:(Tz B (aL A 1) (bO)).heap[A]?=Ua (cD #[C,bO] 189):=by rw[aP c];rfl
 refine⟨⟨i,nj,λk d=>?_⟩,⟨bO,l,World.ownsRow_nil _ _ _ _,og,h.lt.2⟩,h.vh.h_ λk d=>i.block k d.2⟩
 rw[rS l]at d;cases d
def G0(a:List aC)(x:bP):(pP a x).isSome=(gL x || !(dG a x).isNone):=by grind [pP,gL]
theorem IZ(a:List aC)(d:Nat)(s:bJ)(k:aC):sq s (eQ a d s k):=by grind [eQ,sq.declares,sq.walk,sq]
def Pn(a:List aC)(d:Nat)(s:bJ)(k:aC)(h:k.op=[112,97,114,97,109]):eQ a d s k={ Hs.oo s k with e_:=(Hs.oo s k).e_++[k.x_] }:=by grind [eQ]
def Mm(a:List aC)(d:Nat)(s:bJ)(k:aC)(h:k.op=[98,108,111,99,107]):eQ a d s k=aT a Uc d k s:=by grind [eQ]
def Ez(cb tp lo:Nat)(fs:List aC)(fv:aW)(d:Nat)(w:aN)(b0:Nat)(o:Obj)(ps:List aC)(b:aC)(c:bJ)(gk:Nat)(i:aW)(wr:aN):Prop:=
 ∃k s,k+gk=Ty ps/\i=I_ (k:Nat)/\Loc cb tp w b0 o wr/\CK cb tp lo fs fv wr s/\c=(ps.drop k++[b]).foldl (eQ fs d) ⟨s,0,0⟩/\Ty s=k
def O9(b:List aC)(d:Nat)(a:cY)(f:aC)(first:Bool)(h:(gL f.x_ || !first)=Ud):sq ⟨[],6,f.l_⟩ (gP b d ⟨a,0,0⟩ f first):=by unfold gP;rw[h];exact sq.fold (IZ b d) _ _
def Qe(b:List aC)(d:Nat)(a:cY)(f:aC)(first:Bool)(h:(gL f.x_ || !first)=Uc):gP b d ⟨a,0,0⟩ f first=f.y_.foldl (eQ b d) ⟨[],0,0⟩:=by grind [gP]
def Qn(x E L:Nat)(c:List aC)(g m:Nat)(ds:Ty c<=90000)(bb:∀f∈c,Ty f.y_<=90000)(d i:Nat)(hi:i<Ty c)(n:cY)(w:aN)(h:CK x E L c (FV (P_ (Ua (aL g 0)) (Ty c) m)) w n)
 (hd:∀k∈c[i].y_,fV d k) (hw:c[i].y_.length+(c[i].y_.map (cV d)).sum<=90000):
 Ue Un 89 #[bF x,P_ (Ua (aL g 0)) (Ty c) m,I_ i] w (gJ x E L c (FV (P_ (Ua (aL g 0)) (Ty c) m)) w (gP c d ⟨n,0,0⟩ c[i] (dG (c.take i) c[i].x_).isNone)):=by
 obtain⟨_,H,ab⟩|⟨H,_⟩:=h.vh
 rotate_left
 .cases H
 cases H;rcases ab.cells with ⟨h1,_⟩|⟨g',dc,h1,ct,dn,cy,hc⟩
 .cases h1
 cases h1;obtain⟨pv,bv,q,b,e0,e1,e2,e3,G,ac,am,ai⟩:=hc i hi;obtain⟨Q,V,rfl⟩:=ac.slice;obtain⟨J,K,rfl⟩:=ai.slice;have ar:=aB (G0 (c.take i) c[i].x_);have du:=bb c[i] (ge hi);have bm:=aB (ab.take i aD);generalize dt:c[i]=f at*;have dj:=aB (λhx=>O9 c d n f (dG (c.take i) f.x_).isNone hx)
 have cd:=aB (λhx=>Qe c d n f (dG (c.take i) f.x_).isNone hx)
 have dv:=h.lt;obtain⟨aj,ao⟩:=Loc.new h (cD #[I_ f.l_,Q_ (bs f.x_),P_ Q (Ty q) V,P_ J (Ty b.y_) K] 183);obtain⟨sx,sc,S,dl,db,be, -⟩:=h.cut;obtain⟨z,c0,c1,f1⟩:=mS S;have bp:=aB aj;have br:=aB ao;have av:=aB ac;have cr:=aB ai;have ap:=aB am;have ah:=aB G;have HD:=aB hd;have HW:=aB hw;have ca:i<=m:=aD
 have HBLK:Ul (sX x E L c (FV (P_ (Ua (aL g 0)) (Ty c) m)) d):=by
  cases d with
  |zero=>exact λ_ _ _ _ _ _ _ hd _=>hd.elim
  |succ e=>grind [ZC,xU,Rs]
 have de:Ty q<=90000:=G_
 have cj:Ul (R_ w (eH w #[I_ f.l_,Q_ (bs f.x_),P_ Q (Ty q) V,P_ J (Ty b.y_) K] 183)):=(dz _ _).alloc (aD) _;have P:=aB (JD (c.take i) (rn L E) (P_ (Ua (aL g 0)) i m) f.x_ (eH w #[I_ f.l_,Q_ (bs f.x_),P_ Q (Ty q) V,P_ J (Ty b.y_) K] 183).drew G_ (G_) (bm.h_ λk hk=>by have:=hk.2;exact eh _ _ _ aD))
 rw[ar]at P;generalize cw:((pP (List.take i c) f.x_).getD 0)=pn at P;obtain⟨tk,ag⟩:∃tk,tk=(gL f.x_ || !(dG (c.take i) f.x_).isNone):=(by simp)
 rw[<-ag]at P;have bo:=aB ag;obtain⟨Z,o⟩:∃Z,Z=gP c d ⟨n,0,0⟩ f (dG (c.take i) f.x_).isNone:=(by simp)
 rw[<-o];have ci:=aB o;clear cw ag o h aj ao ac ai am G hd hw bb ab hc S be ar bm ct;go_in
 go_wp2
 go_cut [7,8] (λ_ tv wc=>tv=Uw tk/\R_ w wc/\Loc x E w (H_ w) (cD #[I_ f.l_,Q_ (bs f.x_),P_ Q (Ty q) V,P_ J (Ty b.y_) K] 183) wc/\CK x E L c (FV (P_ (Ua (aL g 0)) (Ty c) m)) wc n)
 case first=>
  go_region_law (go_simp;go_at_call 87;refine rf P λw1 cx=>?_;have af:=aB ((dz (eH w #[I_ f.l_,Q_ (bs f.x_),P_ Q (Ty q) V,P_ J (Ty b.y_) K] 183).heap.size (eH w #[I_ f.l_,Q_ (bs f.x_),P_ Q (Ty q) V,P_ J (Ty b.y_) K] 183)).drew.trans cx))
  all_goals
   go_wp2_with fail;go_meet
   case rel=>exact⟨aJ,cj.trans (af.mono s_),bp.step (FB.p_ af kj),br.grow af⟩
 case rest=>
  obtain⟨rfl,bq,A,bn⟩:=hcut;obtain⟨dm,dk,B,dg,cq,ce, -⟩:=bn.cut;obtain⟨z,c0,c1,f1⟩:=mS B;have cg:=aB A;have m0:=aA A.i_ (i:=0) aJ;have m1:=aA A.i_ (i:=1) aJ;have m2:=aA A.i_ (i:=2) aJ;have m3:=aA A.i_ (i:=3) aJ;have bi:=aH A.i_;have al:=aB (bn.reset B);have bj:=aB bq;cases tk;rotate_left
  .go_wp2_with fail;refine rf (wY f.l_ _) λI t=>?_
   have v:=aB (bj.trans (t.mono bj.size));go_wp2_with (go_at_call 88;refine rf (lD 6 f.l_ _) λw3 hw=>?_;obtain rfl:=hw.symm)
   exact⟨aJ,(by grind [FB.p_,d7,gJ,sq])⟩
  have HI:Ul (Ez x E L c (FV (P_ (Ua (aL g 0)) (Ty c) m)) d w (H_ w) (cD #[I_ f.l_,Q_ (bs f.x_),P_ Q (Ty q) V,P_ J (Ty b.y_) K] 183) q b Z (Ty q) (I_ (0:Nat)) (Tz wc (aL x 1) (bO))):=
   ⟨0,[],aD,rfl,cg.step al.1,al.2,by rw[ci,cd bo.symm,ah];rfl,rfl⟩
  have dd:¬x=H_ w:=aD;obtain⟨i0,cu,bw,bd,co⟩:=info_parts FY;go_wp2
  go_loopg [10,37] (Ty q) (λgk _ iv wr=>Ez x E L c (FV (P_ (Ua (aL g 0)) (Ty c) m)) d w (H_ w) (cD #[I_ f.l_,Q_ (bs f.x_),P_ Q (Ty q) V,P_ J (Ty b.y_) K] 183) q b Z gk iv wr)
  case atStart=>exact HI
  case round=>
   obtain⟨k,s,hk,rfl,l,O,o,an⟩:=hrel;have bh:=aB an;have da:Ty s<=90000:=aD;clear an;have N:=aB l;have az:=aB o;have m0:=aA l.i_ (i:=0) aJ;have m1:=aA l.i_ (i:=1) aJ;have m2:=aA l.i_ (i:=2) aJ;have m3:=aA l.i_ (i:=3) aJ;have bi:=aH l.i_;by_cases z:k<Ty q
   .obtain⟨j,rfl⟩:∃j,gk=j+1:=⟨gk-1,aD⟩;rcases av.get with ⟨_,ak⟩|⟨pg,cz,H,bk,ck,cs,D⟩
    .rw[ak]at z;simp at z
    obtain⟨bf,ay⟩:=D k z;have bg:=av.1 q[k] (s_)
    have hdk :=(List.getElem_cons_drop z).symm;have U:Z=(q.drop (k+1)++[b]).foldl (eQ c d) (eQ c d ⟨s,0,0⟩ q[k]):=by rw[o,hdk];rfl
    generalize q[k]=a at*;cases H;have r0 :=(l.fb.re.cell (p:=(aL pg (k*2))) bk.2).trans bf;have r1 :=(l.fb.re.cell (p:=(aL pg (k*2+1))) bk.2).trans ay;have hpgl :=aD;obtain⟨ax,M⟩:=Loc.new O (cD #[I_ a.l_,Q_ (bs a.x_)] 179);have ad:=aB ax;have HM:=aB (wV x E L c _ (eH wr #[I_ a.l_,Q_ (bs a.x_)] 179) s M aD a.l_ a.x_);have au:Ul (Hs.oo ⟨s,0,0⟩ a=if gL a.x_ || s.contains a.x_ then bJ.found ⟨s,0,0⟩ a.l_ 6 else ⟨s,0,0⟩):=rfl
    rw[<-au]at HM;have W:=aB (Pn c d ⟨s,0,0⟩ a bg);have aw:=lG ⟨s,0,0⟩ a;have ch:=aB aw;have r:=aB U;clear o U hdk bf ay D cs ck az aw au ax M l O bg;generalize Hs.oo ⟨s,0,0⟩ a=c1 at*;go_wp2_with fail;apply HM.mono
    rintro e I ⟨t,⟨s2,rfl,rfl,u⟩|⟨Y,rfl⟩⟩
    rotate_left
    .have cm:=aB (N.fb.trans (ad.fb.trans t));have HK:=aB Y;go_wp2_with fail;exact⟨aJ,gJ.fault (c1:=c1) cm HK (by rw[r,W];exact(sq.e_ _ _).trans (sq.fold (IZ c d) _ _))⟩
    obtain rfl:s2=s:=ch.out;have cv:=aB (ad.step t);have HLb:=aB ((N.step ad.fb).step t);obtain⟨bt,bz,C,di,bu,X,bl⟩:=u.cut;obtain⟨dh,c0,c1,f1⟩:=mS C;have n1:=aA cv.i_ (i:=1) aJ;have bi:=aH HLb.i_;have v:=aB (show I.drew.heap[x]?=_ from C)
    have aq:=aB (show I.drew.ownsRow _ _ _ _ _ _ from X)
    have F:=aB (show CK x E L c (FV (P_ (Ua (aL g 0)) (Ty c) m)) I.drew s2 from u.grow (dz _ _).drew)
    have cp:=aB bl;have cl:=aB (FB.p_ (cb:=x) (dz (H_ I) I).drew u.lt);go_wp2
    go_region_law (refine step_append_lies _ r_ _ _ 54 r_ E 9 i0 _ 1 16 underlying54 cu bw bd co rfl d_ (P_ bt (Ty s2) bz) (Ty s2) (kE s2) r_ (aq.alloc _) (aL (H_ I) 0) 1 1 [Q_ (bs a.x_)] r_ r_ (BL I.drew _) (FX _) d_ kk aD kj (H_ I+1) s_ ?_;intro g5 df w5 ae y ba dw;have cn:=KE v y cp;obtain⟨dr, -,q1,dq⟩:=mS cn)
    all_goals
     go_wp2
     go_roundg j
     case measure=>exact aD
     case rel=>
      have T:=F.add v aq ae y (ba.imp_right λe=>by show H_ I<=g5;exact aD)
      exact⟨k+1,s2++[a.x_],aD,la,(HLb.step cl).step T.1,T.2,by rw[r,W],by have:=bh.out;grind⟩
   have aa:fV d b/\Ty s+cV d b<=90000:=by
    have h1:=HW.out;have h2:=HD b (by rw[ah];simp)
    rw[ah]at h1;simp only[ew,fw,jd,fm,gg,fu,gr,fk,fq]at h1;have:=bh.out;grind
   have HX:=aB (HBLK (P_ J (Ty b.y_) K) b s wr O ap (cr.below l.fb.re) aa.1 aa.2)
   have r:Ul (Z=aT c (mI (FV (P_ (Ua (aL g 0)) (Ty c) m))) d b ⟨s,0,0⟩):=by rw[o,gp aD];exact Mm c d _ b ap
   rw[<-r]at HX;clear l O o az r aa;go_wp2_with fail;apply HX.mono
   rintro e I ⟨t,⟨s2,M,rfl,u⟩|⟨Y,rfl⟩⟩
   .have v:=aB (N.fb.trans t);have F:=aB u;have cf:=aB M;go_wp2
    go_end0;exact gJ.done v cf F
   have v:=aB (N.fb.trans t);have F:=aB Y;go_wp2_with fail;exact⟨aJ,gJ.fault (c1:=Z) v F (sq.refl _)⟩
def wW(fs:List aC):Bool:=pP fs [109,97,105,110]==Ua 0
def SZ{Z_:Prop}(Y_:Z_:=by
 go_in
 go_wp2_with fail;refine rf HP λw1 hb1=>?_
 have HB:=aB hb1;clear hb1;go_wp2_with (go_at_call 88;refine rf (lD 5 0 _) λw3 hw=>?_;obtain rfl:=hw.symm)
 exact⟨aJ,HB,s_⟩):Z_:=Y_
def Q0(a:List aC)(F:bN)(k:aW)(w:aN)(p:Ty a<=90000)(g:∀f∈a,Ty f.y_<=90000)(h:uj F w k a):
 Ue Un 49 #[k] w λe o=>R_ w o/\((wW a=Ud/\e=fD)\/(wW a=Uc/\e=iD 5 0)):=by
 have HP:=aB (JD a F k [109,97,105,110] w aD g h);have d:Ul (wW a=(pP a [109,97,105,110]==Ua 0)):=rfl;have b:=aB (λn m=>U9 g (x:=[109,97,105,110]) (n:=n) m)
 clear h g;rw[show bs [109,97,105,110]=⟨#[109,97,105,110]⟩from rfl]at HP
 obtain⟨i,j⟩:∃i,i=wW a:=(by simp)
 rw[<-j]at d ⊢
 clear j;cases c:pP a [109,97,105,110]with
 |none=>
  obtain rfl:i=Uc:=by rw[d,c];rfl
  rw[c]at HP;simp only[Option.getD_none,Option.isSome_none]at HP;clear c d b;exact SZ
 |some n=>
  have m:=b n c;rw[c]at HP;simp only[ir,Option.isSome_some]at HP;cases n with
  |zero=>
   obtain rfl:i=Ud:=by rw[d,c];rfl
   clear c d b;go_in
   go_wp2_with fail;refine rf HP λw1 hb1=>?_
   have HB:=aB hb1;clear hb1;go_wp2
   go_end0;grind [d7]
  |succ n=>
   obtain rfl:i=Uc:=by rw[d,c];rfl
   clear c d b;have l:decide ((0:Int)<((n:Int)+1))=Ud:=(by simp)
   exact SZ
theorem Y2(c:List aC)(d:Nat):∀(a b:List aC) (s:bJ),sq s (eW c d b a s)
 |[],_,s=>sq.refl s
 |n::a,b,s=>by refine sq.trans ?_ (Y2 c d a _ _);grind [gP,sq.fold,IZ,sq.found,sq]
def SQ(cb tp lo:Nat)(fs:List aC)(fv:aW)(d:Nat)(w:aN)(c:bJ)(gk:Nat)(i:aW)(wr:aN):Prop:=
 ∃k s,k+gk=Ty fs/\i=I_ (k:Nat)/\Um cb w wr/\CK cb tp lo fs fv wr s/\c=eW fs d (fs.take k) (fs.drop k) ⟨s,0,0⟩
def YM(v:Nat)(a:List aC)(J:aW)(w:aN)(d:Nat)(C:Ty a<=90000)(u:∀f∈a,Ty f.y_<=90000)(h:uj (rn v (H_ w)) w J a)(K:∀f∈a,∀k∈f.y_,fV d k)(M:∀f∈a,Ty f.y_+(f.y_.map (cV d)).sum<=90000):
 Ue Un 50 #[J] w λe P=>R_ w P/\(((eW a d [] a ⟨[],0,0⟩).kind=0/\(eW a d [] a ⟨[],0,0⟩).l_=0/\e=fD)\/((eW a d [] a ⟨[],0,0⟩).kind≠0/\e=iD (eW a d [] a ⟨[],0,0⟩).kind (eW a d [] a ⟨[],0,0⟩).l_)):=by
 obtain⟨t,n,rfl⟩:∃x c,J=P_ x (Ty a) c:=by grind [uj]
 obtain⟨c,L⟩:∃c,c=eW a d [] a ⟨[],0,0⟩:=(by simp)
 have r:R_ w (eH w #[FV (P_ t (Ty a) n),bO] 189):=(by grind [ep,dz])
 have Q:Ul (SQ (H_ w) (H_ w) v a (FV (P_ t (Ty a) n)) d w c (Ty a) (I_ (0:Nat)) (eH w #[FV (P_ t (Ty a) n),bO] 189)):=
  ⟨0,[],aD,rfl,r,⟨(by grind [aZ,World.ownsRow_nil,Value.ownBlock,kE]),(by grind [uj.h_,eg,Br,rn])⟩,G_⟩
 rw[<-L];have W:=aB h;have H:=aB u;have U:=aB K;have V:=aB M;clear h r L u K M;go_in
 go_wp2
 go_loopg [3,9] (Ty a) (λgk _ i wr=>SQ (H_ w) (H_ w) v a (FV (P_ t (Ty a) n)) d w c gk i wr)
 case atStart=>exact Q
 case round=>
  obtain⟨k,s,X,rfl,A,m,p⟩:=hrel;have S:=aB A;by_cases y:k<Ty a
  .obtain⟨j,rfl⟩:∃j,gk=j+1:=⟨gk-1,aD⟩
   obtain⟨g,rfl⟩:∃g,t=Ua ⟨g,0,Ub⟩:=by grind [d7,uj]
   have F:a[k]∈a:=(by simp)
   have N:=aB (Qn (H_ w) (H_ w) v a g n C H d k y s wr m (U _ F) (V _ F));have G:a.drop k=a[k]::a.drop (k+1):=(by simp)
   have b:c=eW a d (a.take (k+1)) (a.drop (k+1)) (gP a d ⟨s,0,0⟩ a[k] (dG (a.take k) a[k].x_).isNone):=by grind [eW]
   have I:=aB b;clear A m p b G F;generalize gP a d ⟨s,0,0⟩ a[k] (dG (a.take k) a[k].x_).isNone=T at*;go_wp2_with fail;apply N.mono
   rintro e O ⟨l,⟨Z,rfl,rfl,q⟩|⟨o,rfl⟩⟩
   rotate_left
   .have D:=aB (S.trans l.re);have B:=aB o;have z:Ul (sq T c):=by grind [d7,Y2]
    clear l o;go_wp2_with fail;obtain⟨e1,Y⟩:=z B;exact⟨aJ,D,mg⟩
   have E:Ul (SQ (H_ w) (H_ w) v a (FV (P_ (Ua (aL g 0)) (Ty a) n)) d w c j (I_ ((k+1:Nat):Int)) O):=(by grind [Below.trans,d7,FB.re,SQ])
   clear l q N;go_wp2
   go_roundg j
   case measure=>exact aD
   case rel=>exact E
  have b:c=⟨s,0,0⟩:=by grind [List.drop_eq_nil_of_le,eW]
  have I:=aB b;clear A m p b;go_wp2
  go_end0;grind [d7]
structure vb(w:aN):Prop where
 er:∃te pe,T_ w (aL 8 0)=Ua (.iface te pe)
 wv:11<=w.heap.size
def vb.fr{a:aN}{sb:Nat}(h:vb B)(b:Fr sb B a)(e:11<=sb):vb a:=by obtain⟨c,f,d⟩:=h.er;have:=h.wv;have:=b.size;exact⟨(by grind [iN,Fr.block]),aD⟩
def Pf(l:bP)(d:∀c∈l,dL c=Ud)(a:l≠[])(m:Ty l<=100000)(w:aN)(k:vb w):
 Ue Un 243 #[Q_ (bs l),I_ 10,I_ 64] w λe i=>R_ w i/\((∃v,dS 0 l=Ua v/\e=bY (Uu #[I_ (v:Nat),.nilIface]))\/(dS 0 l=Ub/\∃x T p,e=bY (Uu #[I_ x,dH T p]))):=by
 have hsz :=iT l;rcases Gu l d a with ⟨v,j,b⟩|⟨j,b⟩
 .apply (strconv_ParseInt_10_at64_ok (bs l) aD v (by exact b) w).mono
  grind [dz,Lib.bytesWorld_below]
 obtain⟨f,g,h⟩:=k.er;apply (strconv_ParseInt_10_at64_range (bs l) aD (by exact b) (dH f g) w h (s_)).mono
 grind
def ZK(c:UInt8):dK Uc c=dL c:=by unfold dK;simp
def TY(d:Nat)(a:ByteArray)(n L:Nat)(w:aN)(h:SC d a n L w)(H:vb w)(z:11<=d)(hs:a.size<=100000)(hn:n<a.size)(F:dL a[n]=Ud):
 Ue Un 195 #[bF d] w (Ci d a n L w (iX ((dY a).drop n) Uc)):=by
 obtain⟨j,t⟩:∃j,j=bR (dK Uc) ((dY a).drop n):=(by simp)
 have ac:j<=a.size-n:=by have:=oE (dK Uc) ((dY a).drop n);rw[t];simpa using this
 have J:1<=j:=by grind [gF,bR,dK]
 have ab:n<=a.size:=aD;have aa:=(SC.cells h).1;have hrb:H_ w≠d:=aD;have D:SC d a n L (eH w #[I_ 0,Q_ ⟨#[]⟩,I_ 0,I_ 0] 174):=by grind [SC,eh]
 obtain⟨G,K,M,O,I,Q⟩:=D.cells;have HZD:Ul (wm (eH w #[I_ 0,Q_ ⟨#[]⟩,I_ 0,I_ 0] 174).drew (H_ w)):=aZ _ _ aJ _;have HSP:=aB (λw=>BB (dK Uc) 194 (s_) (λc w=>by rw[ZK];exact zY c w) (a.extract n a.size) w qq)
 rw[rX,<-t]at HSP;have HTK:=aB (tH d a n L j (eH w #[I_ 0,Q_ ⟨#[]⟩,I_ 0,I_ 0] 174).drew D aD aD);obtain⟨g,o⟩:∃g,g=((dY a).drop n).take j:=(by simp)
 rw[<-o]at HTK;have l:Ty g=j:=by rw[o,hH];simp;exact aD
 have u:=aB (λW (V:vb W)=>Pf g ((by grind [lN,dK])) (G_) aD W V)
 have P:Ul (iX ((dY a).drop n) Uc={ c_:=48,x_:=g,size:=j,ok:=(dS 0 g).isSome }):=by
  show _=_
  grind [iX]
 rw[P];have HF0:Ul (Fr d w (eH w #[I_ 0,Q_ ⟨#[]⟩,I_ 0,I_ 0] 174)):=(Fr.refl _ _).alloc _;have X:=aB H;have U:(bs g).size=j:=by rw[iT];exact l
 clear h D t o P H l F;obtain⟨N,r⟩:∃N:qV,N={ c_:=48,x_:=g,size:=j,ok:=(dS 0 g).isSome }:=(by simp)
 rw[<-r];have A:=aB r;clear r;go_in
 go_wp2
 go_cut [3] (λv wc=>v=Q_ (bs g)/\SC d a (n+j) L wc/\Fr d w wc/\wm wc (H_ w))
 case first=>
  exact TC
 case rest=>
  obtain⟨rfl,hs2,hf2,y⟩:=hcut;have HS2:=aB hs2;have HF2:=aB hf2;have HZ2:=aB y;have q:=aB (u wc (X.fr hf2 z));clear K M O I Q G hs2 hf2 y HTK HSP HZD u;go_wp2_with fail;apply q.mono
  rintro e C ⟨f,⟨v,B,rfl⟩|⟨B,x,T,p,rfl⟩⟩
  .have k:Ul (SC d a (n+j) L C):=(f.block d (aH HS2)).trans HS2;have b:Ul (wm C (H_ w)):=(f.block _ (aH HZ2)).trans HZ2;have s:=aB (HF2.trans (Fr.below f));obtain⟨G,K,M,O,I,Q⟩:=k.cells;have z0:=aA b (i:=0) aJ;have Y:=aA b (i:=1) aJ;have Z:=aA b (i:=2) aJ;have z3:=aA b (i:=3) aJ;have y0:=aF (i:=0) b;have y1:=aF (i:=1) b;have y2:=aF (i:=2) b;have y3:=aF (i:=3) b;have ad:=aH b;have S:=aB B;clear f B q;go_wp2_with fail;rw[A];refine bodyPost_ret (v:=Us #[I_ 2,Q_ (bs g),I_ v,I_ L]) (by simp[results,results195,go_sem,z0,Y,Z,z3]) rfl ?_
   have m:=tX s k mJ hrb (I_ 2) (Q_ (bs g)) (I_ v) (I_ L);refine⟨m.1,ed ⟨by show (dS 0 g).isSome=Ud;rw[S];rfl,?_,m.2⟩⟩
   show _=Ending.returned (Us #[I_ 2,Q_ (bs g),I_ (ug ⟨48,g,L⟩),I_ L])
   grind [ug,d7]
  have k:Ul (SC d a (n+j) L C):=(f.block d (aH HS2)).trans HS2;have s:=aB (HF2.trans (Fr.below f));have E:=aB (xP d a (n+j) L C k);have S:=aB B;clear f B q;go_wp2_with fail;refine rf E λw4 hw=>?_
  obtain rfl:=hw.symm;go_wp2_with fail;rw[A];exact⟨aJ,s,mg⟩
def GG{Z_:Prop}(Y_:Z_:=by
 go_in
 go_wp2_with fail;go_quiet (fail)
 go_wp2_with fail;refine rf (HPL _) λw1 hw=>?_
 obtain rfl:=hw.symm;go_wp2_with fail;refine rf (HPD _) λw1 hw=>?_
 obtain rfl:=hw.symm;go_wp2_with fail;apply (HX _).mono
 rintro e w2 ⟨hf2,⟨hok,rfl,hs2⟩|⟨hok,rfl⟩⟩
 .have HF2:=aB ((HF0.drewN _).trans hf2);have HS2:=aB hs2;have HZ2:=aB (hf2.we (HZD _) hrb);have HOK:=aB hok;have z0:=aA HZ2 (i:=0) aJ;have z1:=aA HZ2 (i:=1) aJ;have z2:=aA HZ2 (i:=2) aJ;have z3:=aA HZ2 (i:=3) aJ;have y0:=aF (i:=0) HZ2;have y1:=aF (i:=1) HZ2;have y2:=aF (i:=2) HZ2;have y3:=aF (i:=3) HZ2;have hzz:=aH HZ2;simp only[tI];go_wp2
  refine bodyPost_ret (v:=Us #[I_ (sf rr.c_),Q_ (bs rr.x_),I_ (ug ⟨rr.c_,rr.x_,L⟩),I_ L]) lq rfl ?_
  have hfin:=tX HF2 HS2 mJ hrb (I_ (sf rr.c_)) (Q_ (bs rr.x_)) (I_ (ug ⟨rr.c_,rr.x_,L⟩)) (I_ L);exact⟨hfin.1,(by grind [tI])⟩
 have HF2:=aB ((HF0.drewN _).trans hf2);have HOK:=aB hok;go_wp2_with fail;exact⟨aJ,HF2,G_⟩):Z_:=Y_
def l8(c:Nat)(a:ByteArray)(n L:Nat)(w:aN)(h:SC c a n L w)(t:vb w)(x:vq w)(b:11<=c)(A:a.size<=100000)(o:n<a.size):
 Ue Un 140 #[bF c] w (Ci c a n L w (cT ((dY a).drop n))):=by
 have z:=(SC.cells h).1;have hrb:H_ w≠c:=aD;have p:SC c a n L (eH w #[I_ 0,Q_ ⟨#[]⟩,I_ 0,I_ 0] 174):=by grind [SC,eh]
 obtain⟨B,D,E,F,C,G⟩:=p.cells;have HZD:Ul (∀q,wm ((eH w #[I_ 0,Q_ ⟨#[]⟩,I_ 0,I_ 0] 174).drewN q) (H_ w)):=λ_=>aZ _ _ aJ _
 have d:Fr c w (eH w #[I_ 0,Q_ ⟨#[]⟩,I_ 0,I_ 0] 174):=(Fr.refl _ _).alloc _;have HF0:=aB d;have y:Ul (∀q,vb ((eH w #[I_ 0,Q_ ⟨#[]⟩,I_ 0,I_ 0] 174).drewN q)):=λq=>t.fr (d.drewN q) b
 have s:Ul (∀q,vq ((eH w #[I_ 0,Q_ ⟨#[]⟩,I_ 0,I_ 0] 174).drewN q)):=λq=>x.fr (d.drewN q) b
 have m:=aB p;obtain⟨rr,l⟩:∃rr,rr=cT ((dY a).drop n):=(by simp)
 rw[<-l];have g:rr=if dL a[n] || eF a[n]then iX ((dY a).drop n) (eF a[n])else if a[n].toNat=34 then oQ ((dY a).drop (n+1))else jS ((dY a).drop n):=by rw[l,gF a n o];rfl
 have f:=aB g;have HPL:=aB (ES a[n]);have HPD:=aB (zY a[n]);clear h p t x l g d;cases j:eF a[n]
 .cases k:dL a[n]
  .by_cases r:a[n].toNat=34
   .have e:rr=oQ ((dY a).drop (n+1)):=by grind [d7]
    have HX:=aB (λq=>j9 c a n L ((eH w #[I_ 0,Q_ ⟨#[]⟩,I_ 0,I_ 0] 174).drewN q) m aD o)
    rw[<-e]at HX;rw[j]at HPL;rw[k]at HPD;have u:((a[n].toNat:Int)==34)=Ud:=G_
    clear j k e f r;exact GG
   have e:jS ((dY a).drop n)=rr:=by grind [d7]
   have HX:=aB (λq=>m8 c a n L ((eH w #[I_ 0,Q_ ⟨#[]⟩,I_ 0,I_ 0] 174).drewN q) m (s q) aD o rr e)
   rw[j]at HPL;rw[k]at HPD;exact GG
  have e:rr=iX ((dY a).drop n) Uc:=by rw[f,j,k];rfl
  have HX:=aB (λq=>TY c a n L ((eH w #[I_ 0,Q_ ⟨#[]⟩,I_ 0,I_ 0] 174).drewN q) m (y q) b A o k)
  rw[<-e]at HX;rw[j]at HPL;rw[k]at HPD;clear j k e f;exact GG
 have e:rr=iX ((dY a).drop n) Ud:=by grind [d7]
 have HX:=aB (λq=>m6 c a n L ((eH w #[I_ 0,Q_ ⟨#[]⟩,I_ 0,I_ 0] 174).drewN q) m aD aD)
 rw[<-e]at HX;rw[j]at HPL;clear j e f HPD;go_in
 go_wp2_with fail;go_quiet (fail)
 go_wp2_with fail;refine rf (HPL _) λw1 hw=>?_
 obtain rfl:=hw.symm;go_wp2_with fail;apply (HX _).mono
 rintro e w2 ⟨hf2,⟨hok,rfl,hs2⟩|⟨hok,rfl⟩⟩
 .have HF2:=aB ((HF0.drewN _).trans hf2);have HS2:=aB hs2;have HZ2:=aB (hf2.we (HZD _) hrb);have HOK:=aB hok;have z0:=aA HZ2 (i:=0) aJ;have z1:=aA HZ2 (i:=1) aJ;have z2:=aA HZ2 (i:=2) aJ;have z3:=aA HZ2 (i:=3) aJ;have y0:=aF (i:=0) HZ2;have y1:=aF (i:=1) HZ2;have y2:=aF (i:=2) HZ2;have y3:=aF (i:=3) HZ2;simp only[tI];go_wp2
  refine bodyPost_ret (v:=Us #[I_ (sf rr.c_),Q_ (bs rr.x_),I_ (ug ⟨rr.c_,rr.x_,L⟩),I_ L]) lq rfl ?_
  have hfin:=tX HF2 HS2 mJ hrb (I_ (sf rr.c_)) (Q_ (bs rr.x_)) (I_ (ug ⟨rr.c_,rr.x_,L⟩)) (I_ L);exact⟨hfin.1,(by grind [tI])⟩
 have HF2:=aB ((HF0.drewN _).trans hf2);have HOK:=aB hok;go_wp2_with fail;exact⟨aJ,HF2,G_⟩
def Fa:(prog.info? 174).map (λi=>(i.zero,i.size,i.bytes))=Ua (Ua (Us #[I_ 0,Q_ (bs []),I_ 0,I_ 0]),4,40):=k_
def NX(w:aN)(a b c d:aW):∀j u,([a,b,c,d]:List Uf)[j]?=Ua u->T_ (eH w #[a,b,c,d] 174) ((⟨H_ w,0,Ub⟩:Addr).add j)=Ua u:=by
 intro j u e;match j,e with
 |0,e=>simp at e;subst e;simp[Addr.add]
 |1,e=>simp at e;subst e;simp[Addr.add]
 |2,e=>simp at e;subst e;simp[Addr.add]
 |3,e=>simp at e;subst e;simp[Addr.add]
 |j+4,e=>simp at e
def VO(l m n:Int)(b:ByteArray):∀u∈([I_ l,Q_ b,I_ m,I_ n]:List Uf),u.oneCell'=Ud:=by intro u a;simp at a;rcases a with rfl|rfl|rfl|rfl<;>rfl
def v8{i:List Uf}(h:B.ownsRow A e E C F i):∃x c,C=P_ x F c:=by
 rcases h.2 with ⟨f,k⟩|⟨g,j,d,f,_⟩
 .grind
 grind
def AF(h:∀c∈l,c≠10):l.count 10=0:=(by grind)
def A7(l:bP)(h:(cT l).ok=Ud):(l.take (cT l).size).count 10=0:=by
 cases l with
 |nil=>simp
 |cons c r=>
  rw[cT]at h ⊢
  split
  .rw[KZ];refine AF λx a=>?_
   have:=lN _ _ x a;intro e;subst e;revert this
   cases eF c<;>decide
  rename_i f;rw[ea f]at h;split
  .rename_i b;rw[ef b]at h;have d:(decide (r[bR iG r]?=Ua 34) && decide (bR iG r<=100))=Ud:=h;rw[Bool.and_eq_true,decide_eq_true_eq]at d;show ((c::r).take (bR iG r+1+1)).count 10=0
   rw[List.take_succ_cons,List.take_add_one,d.1];refine AF λx a=>?_
   rcases ff.1 a with rfl|a
   .intro e;rw[e]at b;grind
   rcases fo.1 a with a|a
   .have:=lN _ _ x a;intro e;subst e;grind [iG]
   grind
  unfold jS at h ⊢
  cases g:eK.find? (λo=>eE (c::r) o)with
  |none=>simp
  |some o=>
   have i:(c::r).take (Ty o)=o:=by grind [eE,nX]
   have:∀o∈eK,o.count 10=0:=d_
   grind
def Kf(x:Except Nat (List bH))(w:aN)(e:Ending)(w':aN):Prop:=
 R_ w w'/\
  match x with
  |.error n=>e=iD 3 n
  |.ok ts=>∃v,e=bY v/\w'.ownsRow (w.heap.size+1) 174 4 v (Ty ts) (th ts)
def Df(src:ByteArray)(w:aN)(TS:Except Nat (List bH))(gk:Nat)(v:aW)(wr:aN):Prop:=
 ∃(k f:Nat) (ts:List bH),k<=src.size/\src.size+1<=k+f/\src.size<=k+gk/\Ty ts<=k/\SC w.heap.size src k (bD (src.data.toList.take k)) wr/\Fr w.heap.size w wr/\wr.ownsRow (w.heap.size+1) 174 4 v (Ty ts) (th ts)/\TS=jF ts (fH f (src.data.toList.take k) (src.data.toList.drop k))
def Fr.xj{a:aN}(h:Fr (H_ B) B a):R_ B a:=⟨h.os,h.tape,h.output,h.size,(by grind [Fr.block])⟩
def Ja(a:ByteArray)(w:aN)(hg:vb w)(U:vq w)(hs:a.size<=2000):
 Ue Un 84 #[Ur a] w (Kf (gS a.data.toList) w):=by
 obtain⟨i0,Z,Q,ab,Y⟩:=info_parts Fa;have u:=hg.wv;have h0:SC w.heap.size a 0 (bD (a.data.toList.take 0)) (T6 w (Uy #[Ur a,I_ 0,I_ 1] 252)):=aZ _ _ aJ _;have g:=aB (UM w.heap.size a 0 (T6 w (Uy #[Ur a,I_ 0,I_ 1] 252)) h0 aD (aD));simp only[List.drop_zero,h9]at g;obtain⟨K,A⟩:∃K,K=cJ a.size a.data.toList:=(by simp)
 have ac:K<=a.size:=by have:=rD a.size a.data.toList;rw[A];simpa using this
 rw[<-A]at g;obtain⟨z,p⟩:∃z,z=gS a.data.toList:=(by simp)
 have t:Ul (z=fH (a.size+1) (a.data.toList.take K) (a.data.toList.drop K)):=by
  show _=_
  rw[p];unfold gS;rw[show Ty a.data.toList=a.size by simp,<-A]
 rw[<-p];have ao:Ul (Fr w.heap.size w (T6 w (Uy #[Ur a,I_ 0,I_ 1] 252))):=(Fr.refl _ _).alloc _;have HG:=aB hg;have HM:=aB U;clear h0 hg U A p;go_in
 go_wp2_with fail;apply g.out.mono
 rintro e w1 ⟨rfl,ap,ax⟩;have HI:Ul (Df a w z a.size (bO) w1):=⟨K,a.size+1,[],ac,aD,aD,s_,ap,ao.out.trans ax,World.ownsRow_nil _ _ _ _,by rw[t.out,wR]⟩
 go_wp2
 go_loopg [4] a.size (λgk v wr=>Df a w z gk v wr)
 case atStart=>exact HI.out
 case round=>
  obtain⟨k,f,y,hk,hf,ba,az,E,H,l,p⟩:=hrel;obtain⟨h0,c0,c1,c2,f1,f2⟩:=E.cells;have ay:=H.size;have au:=aB E;have q:=aB H;have t:=aB p;obtain⟨x,c,rfl⟩:=v8 l;have hge :=bX l;clear HI E H p;by_cases P:k<a.size
  .obtain⟨f,rfl⟩:∃f',f=f'+1:=⟨f-1,aD⟩;obtain⟨j,rfl⟩:∃j,gk=j+1:=⟨gk-1,aD⟩;have hlt' :=ig aD;have hl:Ty (a.data.toList.drop k)=a.size-k:=s_
   have N:=aB (l8 w.heap.size a k (bD (a.data.toList.take k)) wr au.out (HG.out.fr q.out u) (HM.out.fr q.out u) u aD P);cases o:(cT (a.data.toList.drop k)).ok
   .have S:Ul (z=.error (bD (a.data.toList.take k))):=by rw[t.out,AS _ _ _ aD o];rfl
    have G:=aB o;generalize bD (a.data.toList.take k)=L at*;go_wp2_with fail;apply N.out.mono
    rintro e w2 ⟨B,⟨d,_,_⟩|⟨d,rfl⟩⟩
    .rw[G.out]at d;cases d
    have I:=aB (q.out.trans B);go_wp2_with fail;rw[S.out];exact⟨aJ,I.out.xj,aJ⟩
   have ae:=tY _ o;rw[hl]at ae;have av:=A7 _ o;obtain⟨m,U⟩:∃m,m=k+(cT (a.data.toList.drop k)).size+cJ a.size (a.data.toList.drop (k+(cT (a.data.toList.drop k)).size)):=(by simp)
   have al:m<=a.size:=by grind [rD]
   have HT:=TW a k f P o m U
   have S:Ul (z=jF (y++[{ c_:=(cT (a.data.toList.drop k)).c_,x_:=(cT (a.data.toList.drop k)).x_,l_:=bD (a.data.toList.take k) }]) (fH f (a.data.toList.take m) (a.data.toList.drop m))):=by
    show _=_
    rw[t.out,HT,vE]
   have af:bD (a.data.toList.take (k+(cT (a.data.toList.drop k)).size))=bD (a.data.toList.take k):=by rw[List.take_add,tL,av];rfl
   have g:=aB (λW (hW:SC w.heap.size a (k+(cT (a.data.toList.drop k)).size) (bD (a.data.toList.take (k+(cT (a.data.toList.drop k)).size))) W)=>UM w.heap.size a _ W hW aD aD)
   rw[af]at g;simp only[<-U]at g;have G:=aB o;generalize cT (a.data.toList.drop k)=r at*;obtain⟨pa,J⟩:∃pa,pa=sf r.c_:=(by simp)
   obtain⟨X,C⟩:∃X,X=ug ⟨r.c_,r.x_,bD (a.data.toList.take k)⟩:=(by simp)
   have am:Ul (tI ⟨r.c_,r.x_,bD (a.data.toList.take k)⟩=Us #[I_ pa,Ur (bs r.x_),I_ X,I_ (bD (a.data.toList.take k))]):=by rw[J,C];rfl
   have aj:Ul (Aa ⟨r.c_,r.x_,bD (a.data.toList.take k)⟩=[I_ pa,Ur (bs r.x_),I_ X,I_ (bD (a.data.toList.take k))]):=by rw[J,C];rfl
   clear J C;generalize bD (a.data.toList.take k)=L at*;have ak:=aB hge;have aa:=aB l;go_wp2_with fail;apply N.out.mono
   rintro e w2 ⟨B,⟨d,rfl,O⟩|⟨d,rfl⟩⟩
   rotate_left
   .rw[G.out]at d;cases d
   rw[am.out];have D:=bC (w1:=w2) aa.out λi Z=>B.block i (eG aa.out i Z) (by have:=ak.out i Z;exact aD)
   have I:=aB (q.out.trans B);have ah:=aB O;have V:=aH O;go_wp2_with (at_builtin;refine wpList_append_lies _ r_ _ _ 98 r_ (w.heap.size+1) 174 i0 _ 4 40 underlying98 Z Q ab Y rfl d_ _ _ _ r_ (D.alloc _) (aL w2.heap.size 0) 1 1 [I_ pa,Ur (bs r.x_),I_ X,I_ L] r_ r_ (NX _ _ _ _ _) (VO _ _ _ _) d_ kk aD kj (w2.heap.size+1) s_ ?_)
   intro g7 n M s b ad an;have F:=aB ((I.out.alloc _).grown b (G_))
   have aw:Ul (SC w.heap.size a (k+r.size) L M):=by
    show _=_
    rw[b.block _ kj (G_),eh _ _ _ V]
    exact ah.out
   have T:Ul (M.ownsRow (w.heap.size+1) 174 4 (Uq (Ua (aL g7 0)) (Ty y+1) n) (Ty (y++[(⟨r.c_,r.x_,L⟩:bH)])) (th (y++[⟨r.c_,r.x_,L⟩]))):=by rw[IS,aj.out,ew];grind
   have ar:=aB (g.out M aw.out);go_wp2_with fail;apply ar.out.mono
   rintro e w8 ⟨rfl,ai,ag⟩
   have aq:Ul (Df a w z j (Uq (Ua (aL g7 0)) (Ty y+1) n) w8):=by
    refine⟨m,f,y++[⟨r.c_,r.x_,L⟩],al,aD,aD,G_,ai,F.out.trans ag,?_,S.out⟩
    grind [bC,d7,Fr.block,eG,bX]
   go_wp2
   go_roundg j
   case measure=>exact aD
   case rel=>exact aq.out
  obtain⟨f,rfl⟩:∃f',f=f'+1:=⟨f-1,aD⟩
  have S:Ul (z=.ok (y++[{ c_:=101,x_:=[],l_:=bD (a.data.toList.take k) }])):=by rw[t.out,qX _ _ _ kj];rfl
  have hlt' :=gi aD;generalize bD (a.data.toList.take k)=L at*;go_wp2_with (at_builtin;refine wpList_append_lies _ r_ _ _ 98 r_ (w.heap.size+1) 174 i0 _ 4 40 underlying98 Z Q ab Y rfl d_ _ _ _ r_ (l.alloc _) (aL wr.heap.size 0) 1 1 [I_ 4,Ur ⟨#[]⟩,I_ 0,I_ L] r_ r_ (NX _ _ _ _ _) (VO _ _ _ _) d_ kk aD kj (wr.heap.size+1) s_ ?_)
  intro g7 n M s b ad an;have F:=aB ((q.out.alloc _).grown b (G_))
  have T:Ul (M.ownsRow (w.heap.size+1) 174 4 (Uq (Ua (aL g7 0)) (Ty y+1) n) (Ty (y++[(⟨101,[],L⟩:bH)])) (th (y++[⟨101,[],L⟩]))):=by rw[IS,ew];exact s
  go_wp2
  go_ret;rw[S.out];exact⟨F.out.xj,_,aJ,T.out⟩
def L6(a:ByteArray)(w:aN)(_hs:a.size<=maxLen):
 Ue Un 82 #[Ur a] w λe b=>b=w/\((a.size<=2000/\e=fD)\/(2000<a.size/\e=iD 1 0)):=by
 by_cases h:a.size<=2000
 .go_in
  go_wp2
  go_end0;grind
 go_in
 go_wp2_with (refine rf (lD 1 0 _) λd c=>?_)
 exact⟨aJ,aJ,G_⟩
def QR{x:UInt8}(h:x∈l.take A):∃i,i<A/\l[i]?=Ua x:=by obtain⟨i,b,e⟩:=ju.1 h;have a:=b;rw[hH]at a;refine⟨i,aD,?_⟩;grind
def YR(h:2<=bW l):(l.take (bW l)).count 10=0:=by
 refine AF λx c=>?_
 obtain⟨i,a,e⟩:=QR c;suffices 128<=x.toNat by intro e;rw[e]at this;grind
 revert h a
 unfold bW;cases d:l[0]? with
 |none=>simp
 |some b=>
  grind [iY]
theorem Od(n a b c d:Nat)(e:a<256):(Lib.decodeN n a b c d).1<=1114111:=by grind [Lib.decodeN]
def Ih(a:ByteArray)(k:Nat)(d:k<a.size):∃r z,Lib.decodeGo (a.extract k a.size)=(r,z)/\r<=1114111/\
 ((bW (a.data.toList.drop k)=0/\r=65533/\z=1)\/(bW (a.data.toList.drop k)≠0/\z=bW (a.data.toList.drop k)/\¬(r=65533/\z=1)/\(r=10↔a[k].toNat=10))):=by
 have b:(a.extract k a.size).size=a.size-k:=s_
 have c:((a.extract k a.size).get! 0).toNat=a[k].toNat:=by grind [tO,ByteArray.getElem_extract]
 grind [I2,rX,Lib.decodeGo,Lib.decode_at,Ox,UInt8.toNat_lt,Od]
def IC{b:aN}(h:Lib.Utf8Tabs 1 2 B)(a:R_ B b)(f:11<=B.heap.size):Lib.Utf8Tabs 1 2 b:=
 ⟨λc e=>(a.cell (p:=(aL 1 c)) G_).trans (h.1 c e),λi d=>⟨(a.cell (p:=(aL 2 (2*i))) G_).trans (h.2 i d).1,(a.cell (p:=(aL 2 (2*i+1))) G_).trans (h.2 i d).2⟩⟩
def X3(x:Option Nat)(l:bP)(w:aN)(e:Ending)(w':aN):Prop:=
 R_ w w'/\
  match x with
  |none=>e=fD
  |some k=>e=iD 2 (bD (l.take k))
def Hx(a:ByteArray)(w:aN)(G:Lib.Utf8Tabs 1 2 w)(U:11<=w.heap.size)(hs:a.size<=2000):
 Ue Un 83 #[Ur a] w (X3 (dU a.size a.data.toList 0) a.data.toList w):=by
 have N:=aB G;obtain⟨X,x⟩:∃X,X=dU a.size a.data.toList 0:=(by simp)
 rw[<-x];have O:Ul (X=dU a.size (a.data.toList.drop 0) 0):=x;clear G x;go_in
 go_wp2
 go_loopg [2,3,4,5] a.size (λgk lv Z _ _ wr=>∃k f:Nat,k<=a.size/\a.size<=k+f/\a.size<=k+gk/\Z=I_ k/\lv=I_ (bD (a.data.toList.take k))/\R_ w wr/\Ul (X=dU f (a.data.toList.drop k) k))
 case atStart=>grind [dz,bD]
 case round=>
  obtain⟨k,f,hk,hf,S,rfl,rfl,F,I⟩:=hrel
  have hL:bD (a.data.toList.take k)<=k+1:=by grind [List.length_take_le,bD]
  have m:=aB F;by_cases g:k<a.size
  .obtain⟨f,rfl⟩:∃W,f=W+1:=⟨f-1,aD⟩;obtain⟨j,rfl⟩:∃j,gk=j+1:=⟨gk-1,aD⟩;have o:0<Ty (a.data.toList.drop k):=by simp;exact aD
   obtain⟨r,z,K,hr,hc⟩:=Ih a k g;have s:=aB (utf8_DecodeRuneInString (a.extract k a.size) wr (IC N F U));rw[K]at s;rcases hc with ⟨n,rfl,rfl⟩|⟨n,i,P,b⟩
   .have q:Ul (X=Ua k):=by grind [dU]
    generalize u:bD (a.data.toList.take k)=L at*;have M:=aB u;go_wp2_with fail;refine rf s λE c=>?_
    have d:=aB (m.trans (c.mono m.size));go_wp2_with (go_at_call 88;refine rf (lD 2 L _) λw3 V=>?_;obtain rfl:=V.symm)
    rw[q];exact⟨aJ,d,G_⟩
   have q:Ul (X=dU f (a.data.toList.drop (k+z)) (k+z)):=by
    show _=_
    rw[I,BA _ _ _ o n,jh,<-i]
   have T:z<=a.size-k:=by rw[i];have:=xZ (a.data.toList.drop k);simpa using this
   have C:bD (a.data.toList.take (k+z))=bD (a.data.toList.take k)+if r=10 then 1 else 0:=by
    by_cases h2:2<=z
    .have D:=YR (l:=a.data.toList.drop k) aD;rw[<-i]at D;rw[List.take_add,tL,D];rw[ea];intro e;have Q:=b.1 e
     have h5:a[k]∈(a.data.toList.drop k).take z:=by rw[gF a k g];obtain⟨y,rfl⟩:∃y,z=y+1:=⟨z-1,aD⟩;simp
     exact List.count_eq_zero.1 D (by have:a[k]=10:=jj.1 Q;grind)
    obtain rfl:z=1:=aD;rw[OE a k g];congr 1
    by_cases t:r=10
    .rw[ef t,ef (jj.1 (b.1 t))]
    rw[ea t,ea λe=>t (b.2 (by rw[e];rfl))]
   have v:=aB C;generalize bD (a.data.toList.take k)=L at*
   have p:((r:Int)==65533)=Uc\/((r:Int)==65533)=Ud/\((z:Int)==1)=Uc:=by grind
   have J:Ty (a.data.toList.drop k)=a.size-k:=s_
   by_cases B:r=10
   .have Y:((r:Int)==10)=Ud:=G_
    have H:((r:Int)==65533)=Uc:=G_
    have A:Ul (bD (a.data.toList.take (k+z))=L+1):=G_
    go_wp2_with fail;refine rf s λE c=>?_
    have d:=aB (m.trans (c.mono m.size));go_wp2
    go_roundg j
    case measure=>exact aD
    case rel=>exact⟨k+z,f,aD,aD,aD,la,G_,d,q⟩
   have Y:((r:Int)==10)=Uc:=G_
   have A:Ul (bD (a.data.toList.take (k+z))=L):=by rw[v,ea B];rfl
   rcases p with H|⟨H,e3⟩
   all_goals
    go_wp2_with fail;refine rf s λE c=>?_
    have d:=aB (m.trans (c.mono m.size));go_wp2
    go_roundg j
    case measure=>exact aD
    grind [d7]
  have q:Ul (X=Ub):=by show _=_;rw[I,EK _ _ _ kj]
  have hlt' :=gi aD;generalize bD (a.data.toList.take k)=L at*;go_wp2
  go_end0;grind [d7,X3]
structure qH(w:aN):Prop where
 n:vb w
 p:vq w
 u:Lib.Utf8Tabs 1 2 w
def qH.below{c:aN}(h:qH B)(a:R_ B c):qH c:=
 ⟨h.n.fr (sb:=B.heap.size) ⟨a.os,a.tape,a.output,a.size,λk b _=>a.block k b⟩ h.n.wv,h.p.fr (sb:=B.heap.size) ⟨a.os,a.tape,a.output,a.size,λk b _=>a.block k b⟩ h.n.wv,IC h.u a h.n.wv⟩
def ra.tm{k:aC}(h:Hs.ra A j)(a:k∈j.y_):Hs.ra A k:=λd=>by have b:=h (d+1);grind [cV,zP,uV]
def ra.y_{m:Nat}{f:aC}(h:Hs.ra m f)(d:Nat):Ty f.y_<=m/\(f.y_.map (cV d)).sum<=m:=by have b:=(h (d+1)).1;have a:=(h 2).1;grind [cV,pQ]
def yH(l:bP):Except (Nat × Nat) (List bH):=
 if 2000<Ty l then .error (1,0)
 else match dU (Ty l) l 0 with
  |some k=>.error (2,bD (l.take k))
  |none=>
   match gS l with
   |.error n=>.error (3,n)
   |.ok ts=>.ok ts
theorem JA(l:bP):eA l=match yH l with
 |.error f=>.error f
 |.ok a=>match lC a with
  |.error n=>.error (4,n)
  |.ok (b,_)=>.ok b:=by
 grind [eA,yH]
def U2{a:List bH}(h:yH l=.ok a):gS l=.ok a/\Ty l<=2000:=by grind [yH]
def l9{f:Nat × Nat}(h:yH l=.error f):f.1≠0:=by grind [yH]
def F8(l:bP)(w:aN)(e:Ending)(w':aN):Prop:=
 R_ w w'/\
  match yH l with
  |.error f=>e=iD f.1 f.2
  |.ok ts=>∃v,e=bY (Us #[v,I_ 0])/\w'.ownsRow w.heap.size 174 4 v (Ty ts) (th ts)
def NR(l:bP)(w:aN)(e:Ending)(w':aN):Prop:=
 R_ w w'/\((dR l=(0,0)/\∃v ks,e=bY v/\eA l=.ok ks/\uj (rn w.heap.size w'.heap.size) w' v ks)\/((dR l).1≠0/\e=iD (dR l).1 (dR l).2))
def I9(d:Nat)(h:wW z=Uc)(b:∀f∈z,1<=Ty f.y_):lE d z=(5,0):=by grind [lE,wW,pP]
def So(d:Nat)(h:wW z=Ud):lE d z=((eW z d [] z ⟨[],0,0⟩).kind,(eW z d [] z ⟨[],0,0⟩).l_):=by grind [lE,wW,pP]
theorem uj.grow{G:bN}{d:aN}(h:uj t B C z)(j:∀b,t b->d.heap[b]?=B.heap[b]?)(e:∀b,t b->G b):uj G d C z:=by
 rcases h with h|⟨g,a,c,o,l,i,p,k,m,n⟩
 .exact ed h
 exact ec ⟨g,a,c,o,l,e g i,G_,k,m,n.mono λ_ _ h=>h.h_ j e⟩
def Qt{c:List bH}(h:B.ownsRow A 174 4 C (Ty c) (th c))(i:0<Ty c):∃g d a,C=P_ (Ua (aL g 0)) (Ty c) d/\A<=g/\Ty c<=d/\B.heap[g]?=Ua (cD a 174)/\a.toList.take (Ty c*4)=th c:=by
 rcases h.2 with ⟨f,e⟩|⟨g,d,a,f,e,l,j,n,k,m⟩
 .exact aD
 grind
def QM(b:ByteArray)(w:aN)(T:qH w)(hs:b.size<=maxLen):
 Ue Un 47 #[Q_ b] w (F8 b.data.toList w):=by
 have D:Ty b.data.toList=b.size:=s_
 obtain⟨l,O⟩:∃l,l=b.data.toList:=(by simp)
 rw[<-O]at D ⊢
 obtain⟨t,u⟩:∃t,t=T6 w (cD #[bO,I_ 0] 100):=(by simp)
 have s:R_ w t:=by grind [ep,dz]
 have j:t.heap[w.heap.size]?=Ua (cD #[bO,I_ 0] 100):=by grind [aZ]
 have W:t.heap.size=w.heap.size+1:=by rw[u];simp
 have L:=aB (L6 b t hs);have X:=aB O;have I:=aB (T.below s);have d:=aB s;have ab:=aB j;have K:=aB u;clear O T s j u;go_in
 go_wp2_with fail;rw[<-K];refine L.mono ?_;rintro e Q ⟨V,⟨r,rfl⟩|⟨r,rfl⟩⟩
 rotate_left
 .obtain rfl:=V.symm
  have y:Ul (yH l=.error (1,0)):=by
   show _=_
   grind [yH]
  go_wp2_with fail;exact⟨aJ,d,by rw[y];rfl⟩
 obtain rfl:=V.symm;have Y:=aB (Hx b t I.u I.n.wv r);rw[<-X,<-D]at Y;have U:¬2000<Ty l:=aD;go_wp2_with fail;refine Y.mono ?_;rintro e Q ⟨p,o⟩;cases G:dU (Ty l) l 0 with
 |some k=>
  rw[G]at o;obtain rfl:e=iD 2 (bD (l.take k)):=o;have y:Ul (yH l=.error (2,bD (l.take k))):=by show _=_;grind [yH]
  have f:=aB (d.trans (p.mono d.size));go_wp2_with fail;exact⟨aJ,f,by rw[y];rfl⟩
 |none=>
  rw[G]at o;obtain rfl:e=fD:=o;have C:=aB (Ja b Q (I.below p).n (I.below p).p r);rw[<-X]at C;have f:=aB p
  have P:yH l=match gS l with
   |.error n=>.error (3,n)
   |.ok H=>.ok H:=by grind [yH]
  have aa:=aB P;go_wp2_with fail;refine C.mono ?_;rintro e w2 ⟨E,m⟩;cases z:gS l with
  |error n=>
   rw[z]at m;obtain rfl:e=iD 3 n:=m;have y:Ul (yH l=.error (3,n)):=G_
   have F:=aB (d.trans ((f.trans (E.mono f.size)).mono d.size));go_wp2_with fail;exact⟨aJ,F,G_⟩
  |ok H=>
   rw[z]at m;obtain⟨v,rfl,q⟩:=m
   obtain⟨x,c,rfl⟩:∃x c,v=P_ x (Ty H) c:=by
    rcases q.2 with ⟨J,r2⟩|⟨g,A,B,J,_⟩
    .grind
    grind
   have y:Ul (yH l=.ok H):=G_
   have S:=f.size
   have a:w2.heap[w.heap.size]?=Ua (cD #[bO,I_ 0] 100):=by grind [eg,d7]
   have m0:=aA a (i:=0) aJ;have m1:=aA a (i:=1) aJ;have fz:=aF a (i:=0);have ac:=aF a (i:=1);have F:=aB (d.trans ((f.trans (E.mono f.size)).mono d.size));have M:=aB q;go_wp2
   refine bodyPost_ret (v:=Us #[P_ x (Ty H) c,I_ 0]) (by simp[results,results47,go_sem,m0,m1]) rfl ?_
   refine⟨(by grind [Below.setCell,d7]),?_⟩
   rw[y];refine⟨_,aJ,?_⟩;have N:=M.out;rcases N.2 with hn|⟨g,A,B,J,r2,r3,Z⟩
   .exact⟨N.1,ed hn⟩
   refine⟨N.1,ec ⟨g,A,B,J,aD,?_,Z⟩⟩;grind [em]
def GB(o:ByteArray)(w:aN)(hT:qH w)(hs:o.size<=maxLen):
 Ue Un 15 #[Q_ o] w (NR o.data.toList w):=by
 have K:=aB (QM o w hT hs);obtain⟨l,hl⟩:∃l,l=o.data.toList:=(by simp)
 rw[<-hl]at K ⊢
 clear hl hT;go_in
 go_wp2_with fail;apply K.mono
 rintro e I ⟨M,A⟩
 cases j:yH l with
  |error f=>
   rw[j]at A;obtain rfl:e=iD f.1 f.2:=A;have V:Ul (dR l=f):=by show _=_;grind [dR,JA]
   have HK:=aB (l9 j);have u:=aB M;go_wp2_with fail;exact⟨aJ,u,mg⟩
  |ok D=>
   rw[j]at A;obtain⟨v,rfl,S⟩:=A;have T:=(U2 j).1;have an:=(U2 j).2;have i:=sZ T
   have ad:eA l=match lC D with
    |.error n=>.error (4,n)
    |.ok (a,_)=>.ok a:=by rw[JA,j]
   have ao:=aB ad;obtain⟨g,r,X,rfl,hg,J,C,U⟩:=Qt S i.1.some_;have Z:=aH C
   have aj:sr ⟨I.heap.size,g,r,D⟩ (eH I #[P_ (Ua (aL g 0)) (Ty D) r,I_ 0] 100) 0:=
    ⟨aZ _ _ rfl _,⟨X,kX _ _ Z _ C,U⟩,G_,i.1.some_,G_,J,i.1,TX T⟩
   have HP:=aB (UX ⟨I.heap.size,g,r,D⟩ (eH I #[P_ (Ua (aL g 0)) (Ty D) r,I_ 0] 100) aj (bI.prog i.1.ok i.1.some_));have u:=aB M;go_wp2_with fail;apply HP.mono
   rintro e w3 ⟨t,y⟩;have ae:R_ I w3:=⟨t.os.trans aJ,t.tape.trans aJ,t.output.trans aJ,eo s_ t.size,(by grind [Fr.block,eh])⟩
   have p:=aB (u.trans (ae.mono u.size));cases P:lC D with
   |error n=>
    rw[P]at y;obtain rfl:e=iD 4 n:=y;have V:Ul (dR l=(4,n)):=by grind [dR]
    go_wp2_with fail;exact⟨aJ,p,by grind [dR]⟩
   |ok kq=>
    obtain⟨a,q⟩:=kq;rw[P]at y;obtain⟨_,v3,rfl,ah⟩:=y;have N:eA l=.ok a:=G_
    have d:=mX N;have V:Ul (dR l=lE 2001 a):=by grind [dR]
    have ap:=rh.len d;have Q:∀f∈a,Ty f.y_<=90000:=λf L=>by have:=(ra.y_ (rh.mem d L) 0).1;exact aD
    have af:∀f∈a,∀k∈f.y_,fV 2001 k:=λf L k hk=>qD 2001 k (ra.tm (rh.mem d L) hk)
    have aa:∀f∈a,Ty f.y_+(f.y_.map (cV 2001)).sum<=90000:=λf L=>by have:=ra.y_ (rh.mem d L) 2001;exact aD
    have hfs :=ah
    obtain⟨fx,fc,rfl⟩:∃x c,v3=P_ x (Ty a) c:=by grind [uj.cells,Y4]
    have W:=aB hfs.y_;have HM:=aB (Q0 a _ _ w3 aD Q hfs);have al:=aB hfs;have ac:=aB Q;have ak:=aB af;have Y:=aB aa;have ab:=aB N;go_wp2_with fail;apply HM.mono
    rintro e w4 ⟨B,⟨E,rfl⟩|⟨E,rfl⟩⟩
    rotate_left
    .have m:=aB (p.trans (B.mono p.size));have H:Ul (dR l=(5,0)):=by show _=_;rw[V,I9 2001 E W]
     go_wp2_with fail;exact⟨aJ,m,by rw[H];simp⟩
    have m:=aB (p.trans (B.mono p.size));have H:Ul (dR l=((eW a 2001 [] a ⟨[],0,0⟩).kind,(eW a 2001 [] a ⟨[],0,0⟩).l_)):=by show _=_;rw[V,So 2001 E]
    have HN:=aB (YM (eH I #[P_ (Ua (aL g 0)) (Ty D) r,I_ 0] 100).heap.size a (P_ fx (Ty a) fc) w4 2001 aD ac ((by grind [uj.grow,eg,Nat.lt_of_lt_of_le,Below.size,rn,Y4])) ak Y)
    have ag:=aB (al.grow (G:=rn w.heap.size w4.heap.size) (λb s=>B.block b s.2) λb s=>⟨by have h1:=s.1;simp at h1;exact aD,ej s.2 B.size⟩)
    generalize (eW a 2001 [] a ⟨[],0,0⟩).kind=kd at*;generalize (eW a 2001 [] a ⟨[],0,0⟩).l_=ld at*;go_wp2_with fail;apply HN.mono
    rintro e w5 ⟨z,⟨O,ar,rfl⟩|⟨O,rfl⟩⟩
    .have F:=aB (m.trans (z.mono m.size));have am:Ul (dR l=(0,0)):=G_
     have ai:=aB (ag.grow (G:=rn w.heap.size w5.heap.size) (λb s=>z.block b s.2) λb s=>⟨s.1,ej s.2 z.size⟩)
     go_wp2
     go_ret;exact⟨F,ed ⟨am,_,a,aJ,ab,ai⟩⟩
    have F:=aB (m.trans (z.mono m.size));have aq:=aB O;go_wp2_with fail;exact⟨aJ,F,by rw[H];grind⟩
def wX{o:Obj}(h:B.heap[A]?=Ua o):A<H_ B:=by grind
def qN{i:Nat}{c:Array Uf}(h:B.heap[A]?=Ua (cD c e))(a:c[i]?=Ua C):T_ B (aL A i)=Ua C:=by simp[World.cell?,h,a]
def uG{i:Nat}{c:Array Uf}(h:B.heap[A]?=Ua (cD c e)):B.frozen? (aL A i)=Uc:=by simp[World.frozen?,h]
def MT(p q k n:Nat)(w:World)(a:w.heap[p]?=Ua (Uy #[Ux .i64 0] 39 (0,0)))(b:w.heap[q]?=Ua (Uy #[Ux .i64 0] 3 (0,0)))(d:p<q):
 Um p w (T6 (Tz (Tz w ⟨p,0,Ub⟩ (Ux .i64 k)) ⟨q,0,Ub⟩ (Ux .i64 n)) (Uy #[Ux .i64 k,Ux .i64 n] 97)).drew
 /\(T6 (Tz (Tz w ⟨p,0,Ub⟩ (Ux .i64 k)) ⟨q,0,Ub⟩ (Ux .i64 n)) (Uy #[Ux .i64 k,Ux .i64 n] 97)).drew.cell? ⟨p,0,Ub⟩=Ua (Ux .i64 k)
 /\(T6 (Tz (Tz w ⟨p,0,Ub⟩ (Ux .i64 k)) ⟨q,0,Ub⟩ (Ux .i64 n)) (Uy #[Ux .i64 k,Ux .i64 n] 97)).drew.cell? ⟨q,0,Ub⟩=Ua (Ux .i64 n):=by
 have f:T_ w ⟨p,0,Ub⟩=Ua (Ux .i64 0):=qN a rfl;have g:T_ w ⟨q,0,Ub⟩=Ua (Ux .i64 0):=qN b rfl;have c:=wX a;have e:=wX b;refine⟨((((dz p w).setCell (s_) _).setCell (G_) _).alloc kj _).drew,?_,?_⟩
 .simp[go_sem,f,c]
 simp[go_sem,g,e]
def Le(p q k n:Nat)(w:World)(a:w.heap[p]?=Ua (Uy #[Ux .i64 0] 39 (0,0)))(b:w.heap[q]?=Ua (Uy #[Ux .i64 0] 3 (0,0)))(d:p<q):
 Um p w (T6 (Tz (Tz w ⟨q,0,Ub⟩ (Ux .i64 n)) ⟨p,0,Ub⟩ (Ux .i64 k)) (Uy #[Ux .i64 k,Ux .i64 n] 97)).drew
 /\(T6 (Tz (Tz w ⟨q,0,Ub⟩ (Ux .i64 n)) ⟨p,0,Ub⟩ (Ux .i64 k)) (Uy #[Ux .i64 k,Ux .i64 n] 97)).drew.cell? ⟨p,0,Ub⟩=Ua (Ux .i64 k)
 /\(T6 (Tz (Tz w ⟨q,0,Ub⟩ (Ux .i64 n)) ⟨p,0,Ub⟩ (Ux .i64 k)) (Uy #[Ux .i64 k,Ux .i64 n] 97)).drew.cell? ⟨q,0,Ub⟩=Ua (Ux .i64 n):=by
 have f:T_ w ⟨p,0,Ub⟩=Ua (Ux .i64 0):=qN a rfl;have g:T_ w ⟨q,0,Ub⟩=Ua (Ux .i64 0):=qN b rfl;have c:=wX a;have e:=wX b;refine⟨((((dz p w).setCell (G_) _).setCell (s_) _).alloc kj _).drew,?_,?_⟩
 .simp[go_sem,f,c]
 simp[go_sem,g,e]
def Io(v:aW)(w:aN):(typeAssert (dH 97 v) 20 97 Ud).run Un w=.ok (Uu #[v,Uw Ud]) w:=k_
def YU(p q k n:Nat)(a:List PanicEntry)(w:aN)(c:w.heap[p]?=Ua (cD #[I_ 0] 39))(b:w.heap[q]?=Ua (cD #[I_ 0] 3))(d:p<q):
 CallsD Un 46 #[bF p,bF q] (.panicking ({ v:=dH 97 (Us #[I_ k,I_ n]),recovered:=Uc }::a)) w λe x f=>
  e=fD/\x=.panicking ({ v:=dH 97 (Us #[I_ k,I_ n]),recovered:=Ud }::a)/\Um p w f/\dP f p 0 (I_ k)/\dP f q 0 (I_ n):=by
 have I:=qN c (i:=0) aJ;have F:=qN b (i:=0) aJ;have C:=uG (i:=0) c;have D:=uG (i:=0) b;have G:=wX c;have H:=wX b;have B:=Io;refine callsD_of_wpS func46 aJ λs E z=>?_
 apply wpS_seq
 apply wpS_region
 simp[wpOpsS,go_sem,recoverD,z,ntmps46,Exit.thenS];refine wpS_of_wp ?_;have u:¬p=q:=aD;have A:¬q=p:=aD;have y:¬p=H_ w:=aD;have t:¬q=H_ w:=aD;obtain⟨r,l,o⟩:=MT p q k n w c b d;obtain⟨g,m,j⟩:=Le p q k n w c b d;clear c b;go_wp2
 go_region
 all_goals
  go_wp2_with fail;first
  |exact⟨aJ,_,aJ,Uu #[],qi,rfl,rfl,r,l,o⟩
  |exact⟨aJ,_,aJ,Uu #[],qi,rfl,rfl,g,m,j⟩
def R3(p q:Addr)(w:aN):
 CallsD Un 46 #[.pointer (Ua p),.pointer (Ua q)] .returning w λe d c=>e=fD/\d=.returning/\c=w:=by
 refine callsD_of_wpS func46 aJ λa f b=>?_
 apply wpS_seq
 apply wpS_region
 simp[wpOpsS,go_sem,recoverD,b,ntmps46,Exit.thenS];refine wpS_of_wp ?_;go_wp2_with fail;exact⟨aJ,a.mode,aJ,Uu #[],qi,rfl,b,rfl⟩
theorem tP(w:aN)(o a:Obj):((w.alloc o).alloc a).heap[w.heap.size]?=Ua o:=by
 rw[eh _ _ _ s_]
 show (w.heap.push o)[w.heap.size]?=_
 simp
theorem pM(w:aN)(o a:Obj):((w.alloc o).alloc a).heap[w.heap.size+1]?=Ua a:=by grind [World.alloc]
def Ev(b:Fn)(first a:Array Uf)(w:aN):(Instr.makeFunc b first a).run Un w=.ok (.func b first a) w:=rfl
