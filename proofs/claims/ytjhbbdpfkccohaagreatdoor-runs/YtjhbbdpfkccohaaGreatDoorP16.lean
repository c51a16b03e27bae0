import Derived.Test.YtjhbbdpfkccohaaGreatDoorP09
import Derived.Test.YtjhbbdpfkccohaaGreatDoorP15
set_option linter.all false
set_option maxRecDepth 100000
set_option maxHeartbeats 4000000
open List renaming length->Ty
open Go.World renaming setCell->Tz,alloc->T6,cell?->T_
open Option renaming some->Ua,none->Ub
open Bool renaming false->Uc,true->Ud
open Go renaming Calls->Ue,TypeId->Ui,Addr->Uj
open Go.RowKit renaming Hid->Ul
open Go.Proofs.Tryz renaming prog->Un
open Go.Value renaming slice->Uq,string->Ur,agg->Us,pointer->Ut,iface->Uv
open Go.Obj renaming cells->Uy
namespace Go.Proofs.YtjhbbdpfkccohaaGreatDoor
open Hs
open _root_.Go.Proofs.Tryz
open Go.RowKit
def XE(a:Nat)(p q:Option Uj)(w:aN)(Q:mL)(E:Nat->Nat->Prop)
 (b:∀W,(callFunc a #[Ut p,Ut q]).run Un W=.ok (.enter a #[Ut p,Ut q]) W)
 (u:∀o,o=T6 (T6 w (Uy #[I_ 0] 39)) (Uy #[I_ 0] 3)->Ue Un a #[Ut p,Ut q] o λe w'=>
   (e=fD/\w'.heap[w.heap.size]?=Ua (Uy #[I_ 0] 39)/\w'.heap[w.heap.size+1]?=Ua (Uy #[I_ 0] 3)/\Q w')\/
   ∃k n,k≠0/\e=.panicked [{ v:=Uv 97 (Us #[I_ (k:Nat),I_ (n:Nat)]),recovered:=Uc }]/\R_ o w'/\E k n):
 Ue Un 13 #[.func (.func a) #[] #[Ut p,Ut q]] w λe w'=>
  (e=bY (.tuple #[I_ 0,I_ 0])/\∃c,Q c/\w'=Tz (Tz c (aL w.heap.size 0) (I_ 0)) (aL (w.heap.size+1) 0) (I_ 0))\/
  ∃k n,k≠0/\e=bY (.tuple #[I_ (k:Nat),I_ (n:Nat)])/\R_ w w'/\E k n:=by
 have B:=Ev;have l:R_ w (T6 (T6 w (Uy #[I_ 0] 39)) (Uy #[I_ 0] 3)):=((dz _ w).alloc (aD) _).alloc s_ _
 have z:=aB (u _ aJ);have F:=b (T6 (T6 w (Uy #[I_ 0] 39)) (Uy #[I_ 0] 3));clear u b;go_enter_defers func13,ntmps13
 go_wp2_with fail;apply z.mono
 rintro e c (⟨rfl,g,d,x⟩|⟨k,n,y,rfl,m,A⟩)
 .have J:=aB x;clear x;have r:=qN g (i:=0) aJ;have s:=qN d (i:=0) aJ;have K:=uG (i:=0) g;have L:=uG (i:=0) d;have M:=wX g;have N:=wX d;go_wp2_with fail;refine leaves_cons (f:=46) (args:= #[bF w.heap.size,bF (w.heap.size+1)]) s_ kt ?_
  apply (R3 (aL w.heap.size 0) (aL (w.heap.size+1) 0) _).mono
  rintro e D H ⟨rfl,rfl,rfl⟩;simp[Leaves,settle,results,results13,go_sem,r,s];grind [d7]
 have g:c.heap[w.heap.size]?=Ua (Uy #[I_ 0] 39):=by grind [eg,tP]
 have d:c.heap[w.heap.size+1]?=Ua (Uy #[I_ 0] 3):=by grind [eg,pM]
 have C:R_ w c:=l.trans (m.mono kj)
 have I:=aB (dy y A);clear m l z A y;go_wp2_with fail;refine leaves_cons (f:=46) (args:= #[bF w.heap.size,bF (w.heap.size+1)]) s_ kt ?_
 apply (YU w.heap.size (w.heap.size+1) k n [] _ g d (aD)).mono
 rintro e D o ⟨rfl,rfl,t,r,s⟩;have G:=C.trans t;simp[Leaves,settle,results,results13,go_sem,r,s];obtain⟨j,rfl⟩:∃j,k=j+1:=⟨k-1,by have:=I.1;exact aD⟩
 grind [d7]
theorem FB.of_lt{a:Nat}{w b:aN}(h:R_ w b)(c:a<H_ w):FB a a w b:=(by grind [FB.p_])
def CR(fp:iU)(F:bN)(w:aN)(xs:List Value)(code:List (Option aO)):Prop:=
 (Ty xs)=Ty code/\∀(i:Nat) o,code[i]?=Ua o->∃u,xs[i]?=Ua u/\(match o with|none=>u=.nilIface|some i=>lR fp F w u i)
theorem CR.h_{d:iU}{F G:bN}{w w':aN}{c:List Value}{a:List (Option aO)}(h:CR d F w c a)(e:∀b,F b->w'.heap[b]?=w.heap[b]?)(g:∀b,F b->G b):CR d G w' c a:=
 ⟨h.1,λi o f=>by grind [lR.h_,CR]⟩
def FN(fp:iU)(fb:Nat->Nat)(nms:cY)(F:bN)(w:aN)(fv:aW):Prop:=
 (nms=[]/\fv=bO)\/∃g cap,fv=Uq (Ua (aL g 0)) (Ty nms) cap/\F g/\Ty nms<=cap/\g<w.heap.size/\∀k (h:k<Ty nms),T_ w (aL g k)=Ua (fp k)/\fp k=bF (fb k)/\F (fb k)/\∃x,w.heap[fb k]?=Ua (Uy #[Ur (bs nms[k]),x] 198)
theorem FN.h_{c:iU}{e:Nat->Nat}{a:cY}{F G:bN}{w w':aN}{d:aW}(h:FN c e a F w d)(f:∀b,F b->w'.heap[b]?=w.heap[b]?)(i:∀b,F b->G b)(g:w.heap.size<=w'.heap.size):FN c e a G w' d:=by grind [World.cell?_of_block,FN]
structure CP(fp:iU)(fb:Nat->Nat)(nms:cY)(cb:Nat)(F:bN)(w:aN)(code:List (Option aO))(e_:cY):Prop where
 i_:∃fv cv sp,w.heap[cb]?=Ua (Uy #[fv,cv,sp] 196)/\(∃xs,w.ownsRow (cb+1) 270 1 cv (Ty code) xs/\CR fp F w xs code)/\gQ F w sp e_/\FN fp fb nms F w fv
 fix:∀k,F k->k<w.heap.size/\k≠cb/\lT cb w≠Ua k
section
variable {fp:iU} {fb:Nat->Nat} {nms:cY} {cb:Nat} {F:bN} {w w':aN} {code:List (Option aO)} {e_:cY}
theorem CP.lt(h:CP fp fb nms cb F w code e_):cb<w.heap.size:=by grind [CP.i_]
def rR{c a b:aW}(h:w.heap[cb]?=Ua (cD #[c,a,b] 196)):lT cb w=a.ownBlock:=by unfold lT;grind
theorem CP.grow(h:CP fp fb nms cb F w code e_)(c:R_ w w'):CP fp fb nms cb F w' code e_:=by
 obtain⟨l,m,e,q,⟨g,f,j⟩,p,i⟩:=h.i_;have hF :=λb a=>c.block b (h.fix b a).1
 refine⟨⟨l,m,e,ku,⟨g,jZ f c,j.h_ hF s_⟩,(by grind [gQ.h_]),i.h_ hF (s_) c.size⟩,λk d=>?_⟩
 obtain⟨n,r,o⟩:=h.fix k d;grind [eg,lT]
def CP.new(h:CP fp fb nms cb F w code e_)(o:Obj):Loc cb cb w w.heap.size o (w.alloc o)/\CP fp fb nms cb F (w.alloc o) code e_:=by
 have a:=h.lt;have b:R_ w (w.alloc o):=(by grind [ep,dz])
 refine⟨⟨FB.of_lt b a,aZ _ _ aJ _,λe=>?_,aD⟩,h.grow b⟩
 obtain⟨i,j,f,d,⟨g,c,_⟩,_⟩:=h.i_;rw[IN (b.block cb a),rR d]at e;have:=eG c _ e;exact aD
def Jv:(prog.info? 270).map (λi=>(i.zero,i.size,i.bytes))=Ua (Ua .nilIface,1,16):=k_
def Nf(w:aN)(u:aW):∀j v,([u]:List Value)[j]?=Ua v->T_ (eH w #[u] 270) ((⟨H_ w,0,Ub⟩:Uj).add j)=Ua v:=by
 intro j v a;match j,a with
 |0,a=>simp at a;subst a;simp[Addr.add]
 |j+1,a=>simp at a
def Cr(fp:iU)(F:bN)(w:aN)(u:aW):Option aO->Prop
 |none=>u=.nilIface
 |some i=>lR fp F w u i
def Cr.one{u:aW}{o:Option aO}(h:Cr fp F w u o):u.oneCell'=Ud/\(u=.nilIface\/∃t z,u=Uv t z):=by
 cases o with
 |none=>rw[show u=.nilIface from h];exact⟨aJ,ed aJ⟩
 |some i=>obtain⟨t,z,rfl⟩:=lR.form h;exact⟨aJ,s_⟩
def Lt(a n:Nat)(C M A u:aW)(B:List Value)(w:aN)(g:w.heap[a]?=Ua (cD #[C,M,A] 196))(j:w.ownsRow (a+1) 270 1 M n B)(S:u.oneCell'=Ud)(Y:u=.nilIface\/∃t z,u=dH t z)(hn:n<=1000000):
 Ue Un 150 #[bF a,u] w λe w'=>e=bY (I_ n)/\∃f,w'.heap[a]?=Ua (cD #[C,f,A] 196)/\w'.ownsRow (a+1) 270 1 f (n+1) (B++[u])/\FB a a w w':=by
 obtain⟨X,Z,E,F,H⟩:=info_parts Jv;obtain⟨x,c,rfl⟩:=fW j;have K:=aH g;have c1:=aA (i:=1) g aJ;have I:=aB j;have O:=aB g;have y:∀v∈([u]:List Value),v.oneCell'=Ud:=(by grind)
 have HONE:=aB y
 have p:∀o:aW,u=o->(o=.nilIface\/∃t z,o=dH t z)->Ue Un 150 #[bF a,o] w λe w'=>e=bY (I_ n)/\∃f,w'.heap[a]?=Ua (cD #[C,f,A] 196)/\w'.ownsRow (a+1) 270 1 f (n+1) (B++[o])/\FB a a w w':=by
  intro o e G;subst e;rcases G with rfl|⟨t,z,rfl⟩
  all_goals
   go_in
   go_wp2_with (at_builtin;refine wpList_append_lies _ r_ _ _ 194 r_ (a+1) 270 X _ 1 16 underlying194 Z E F H rfl d_ (P_ x n c) n B r_ (I.alloc _) (aL (H_ w) 0) 1 1 [_] r_ r_ (Nf w _) HONE d_ kk aD kj (H_ w+1) s_ ?_)
   intro P r L m d q V;have D:Ua a≠(Value.slice x n c).ownBlock:=λe=>by have:=(I.lt a e.symm).1;exact aD
   have b:L.heap[a]?=Ua (cD #[C,P_ x n c,A] 196):=by rw[d.block a kj D,eh _ _ _ K];exact aD
   have U:=aA (i:=1) b aJ;have aa:=aF b (i:=1)
   have J:P≠a:=by grind
   have HOWN:=aB m;have N:=aB d;have T:=aB q;have s:=aB b;go_wp2
   go_ret;refine⟨la,P_ (Ua (aL P 0)) (n+1) r,aP s,bC HOWN λk l=>em _ _ _ _ (by cases l;exact J),⟨?_,λk l W Q=>?_,λk l=>?_⟩⟩
   .exact(((dz a w).alloc aD _).grown N kj λk l=>by have:=(I.lt k l).1;exact aD).setCell (by exact fi a) _
   .rw[rR O]at Q;rw[em _ _ _ _ W,N.block k kj (G_),eh _ _ _ l]
   rw[rR (aP s.out),rR O]at*;cases l;grind
 exact p u aJ Y
def CP.step{a:List (Option aO)}{i b d:aW}{xs':List Value}(h:CP fp fb nms cb F w code e_)(c:FB cb cb w w')(g:w'.heap[cb]?=Ua (Uy #[i,b,d] 196))(f:w'.ownsRow (cb+1) 270 1 b (Ty a) xs')(q:CR fp F w' xs' a)(l:gQ F w' d e_)(m:FN fp fb nms F w' i):CP fp fb nms cb F w' a e_:=
 ⟨G_,λk j=>by
   obtain⟨n,o,p⟩:=h.fix k j;refine⟨ej n c.re.size,o,λe=>?_⟩
   grind [FB.row]⟩
theorem CP.fixed(h:CP fp fb nms cb F w code e_)(a:FB cb cb w w'):∀b,F b->w'.heap[b]?=w.heap[b]?:=(by grind [CP.fix,FB.i_])
def xD{u:aW}{o:Option aO}(h:CP fp fb nms cb F w code e_)(f:Cr fp F w u o)(z:Ty code<=1000000):
 Ue Un 150 #[bF cb,u] w λe w'=>e=bY (I_ (Ty code))/\CP fp fb nms cb F w' (code++[o]) e_/\FB cb cb w w':=by
 obtain⟨B,n,l,q,⟨v,m,g⟩,D,r⟩:=h.i_;obtain⟨t,s⟩:=f.one;apply (Lt cb (Ty code) B n l u v w q m t s z).mono
 rintro e w' ⟨A,x,p,C,a⟩;have d:=h.fixed a;refine⟨A,h.step a p (by rw[ew];exact C) ?_ ((by grind [gQ.h_])) (r.h_ d (s_) a.re.size),a⟩
 have y:=g.h_ d MW;refine⟨by simp[g.1],λi E b=>?_⟩
 rcases gz i (Ty code) with k|k
 .grind [CR]
 rw[ip k]at b
 have c:i-Ty code=0:=by grind
 rw[c]at b;simp at b;subst b;refine⟨u,by grind [CR],?_⟩
 cases o with
 |none=>exact f
 |some j=>exact lR.h_ f d s_
def WZ(h:CP fp fb nms cb F w code e_)(g:Ty e_<=1000000):
 Ue Un 202 #[bF cb] w λe w'=>e=bY (I_ (Ty e_))/\w'=w:=by
 obtain⟨p,k,c,f, -,d, -⟩:=h.i_;have n:=aA (i:=2) f aJ;cases e_ with
 |nil=>
  obtain rfl:c=Ut Ub:=d;go_in
  go_wp2
  go_ret;simp
 |cons x l=>
  obtain⟨b,o,rfl,j,a,i⟩:=d;have m:=aA (i:=1) a aJ;simp at g;go_in
  go_wp2
  go_ret;simp
end
section
variable {fp:iU} {fb:Nat->Nat} {nms:cY} {cb:Nat} {F:bN} {w w':aN} {code:List (Option aO)} {e_:cY}
def Sy(w:aN)(a n:Nat)(x:bP)(p:Option Uj)(f:a<H_ w)(c:dP w a 2 (Ut p))(d:w.frozen? (aL a 2)=Uc)
 (b:Ul (Ue Un 202 #[bF a] w.drew λe w'=>e=bY (I_ n)/\w'=w.drew)):
 Ue Un 148 #[bF a,Q_ (bs x)] w λe w'=>e=fD/\bV (eH (Tz w (aL a 2) (bF (H_ w))) #[Q_ (bs x),I_ n,Ut p] 291) w':=by
 go_in
 go_wp2
 go_region_law (go_simp;go_at_call 202;refine oN b ?_)
 all_goals
  go_wp2
  go_end0;grind [bV.drew]
def bV.block{W a:aN}(h:bV W a)(k:Nat):a.heap[k]?=W.heap[k]?:=by rw[h.heap]
def U6(x:bP)(h:CP fp fb nms cb F w code e_)(v:Ty e_<=1000000):
 Ue Un 148 #[bF cb,Q_ (bs x)] w λe w'=>e=fD/\CP fp fb nms cb (λk=>F k\/k=w.heap.size) w' code (x::e_)/\FB cb cb w w':=by
 have d:=h.lt;obtain⟨m,j,z,f,⟨t,i,D⟩,r,B⟩:=h.i_;obtain⟨p,rfl⟩:=r.form;have n:CP fp fb nms cb F w.drew code e_:=h.grow (bV.drew w).below;apply (Sy w cb (Ty e_) x p d (aA f aJ) (aF f) (WZ n v)).mono
 rintro e w' ⟨y,a⟩;generalize c:eH (Tz w (aL cb 2) (bF w.heap.size)) #[Q_ (bs x),I_ (Ty e_),Ut p] 291=W at a
 have A:∀k,k<w.heap.size->k≠cb->w'.heap[k]?=w.heap[k]?:=λk f i=>by rw[a.heap,<-c,eh _ _ _ (by simpa using f),em _ _ _ _ i]
 have g:w'.heap[cb]?=Ua (cD #[m,j,bF w.heap.size] 196):=by rw[a.heap,<-c,eh _ _ _ (by simpa using d)];exact aP f
 have l:w'.heap[w.heap.size]?=Ua (cD #[Q_ (bs x),I_ (Ty e_),Ut p] 291):=by rw[a.heap,<-c];exact aZ _ _ s_ _
 have s:w'.heap.size=w.heap.size+1:=by rw[a.heap,<-c];simp
 have o:lT cb w'=lT cb w:=by grind [lT]
 have C:∀b,F b->w'.heap[b]?=w.heap[b]?:=(by grind [CP.fix])
 have u:=λk (e:j.ownBlock=Ua k)=>i.lt k e
 refine⟨y,⟨⟨m,j,_,g,⟨t,(by grind [bC]),(by grind [CR.h_])⟩,(by grind [gQ.h_,gQ]),(by grind [FN.h_])⟩,λk q=>?_⟩,⟨?_,G_,G_⟩⟩
 .grind [CP.fix,lT]
 refine⟨by rw[a.os,<-c];rfl,by rw[a.tape,<-c];rfl,by rw[a.output,<-c];rfl,aD,G_⟩
def Mp{x y:bP}{l:cY}(h:y∈x::l)(a:x≠y):y∈l/\dQ (x::l) y=dQ l y:=by grind [dQ]
def UL(a:bP)(h:CP fp fb nms cb F w code e_)(n:a∈e_)(_hn:Ty e_<=1000000):
 Ue Un 251 #[bF cb,Ur (bs a)] w λe w'=>e=bY (I_ (dQ e_ a))/\w'=w:=by
 obtain⟨L,C,k,j, -,i, -⟩:=h.i_;have J:=aH j;have H:=aA (i:=2) j aJ;have D:Ul (gQ F w k e_/\a∈e_):=⟨i,n⟩;obtain⟨p,rfl⟩:=i.form;clear h j i n;go_in
 go_wp2
 go_loopg [5] (Ty e_) (λgk v wr=>∃l,Ty l=gk/\gQ F w v l/\a∈l/\dQ l a=dQ e_ a/\wr=w)
 case atStart=>grind [d7]
 case round=>
  obtain⟨l,u,y,d,g,rfl⟩:=hrel;cases l with
  |nil=>cases d
  |cons x l=>
   obtain⟨b,o,rfl,B,c,f⟩:=y;obtain⟨q,rfl⟩:=f.form;have I:=aA (i:=0) c aJ;have G:=aA (i:=1) c aJ;have A:=aA (i:=2) c aJ;have r:=aH c;by_cases m:x=a
   .subst m;have t:dQ (x::l) x=Ty l:=by rw[dQ,ef rfl]
    rw[t]at g;clear c f d;go_wp2
    go_ret;simp
   obtain⟨E,z⟩:=Mp d m;have s:((bs x).toList==(bs a).toList)=Uc:=by grind [aX]
   have K:Ul (gQ F wr (Ut q) l):=f;rw[z]at g;clear c f d;go_wp2
   go_roundg (Ty l)
   case measure=>grind
   grind [d7]
def zF(a:bP)(h:CP fp fb nms cb F w code e_)(A:a∈nms)(L:Ty nms<=1000000):
 Ue Un 91 #[bF cb,Ur (bs a)] w λe w'=>e=bY (fp (nms.findIdx λx=>x==a))/\w'=w:=by
 obtain⟨P,J,H,l, -, -,t⟩:=h.i_;rcases t with ⟨rfl,_⟩|⟨g,n,rfl,D,p,E,b⟩
 .cases A
 have K:=aH l;have Q:=aA (i:=0) l aJ;have q:=aB b;clear h l b;go_in
 go_wp2
 go_loopg [6,12] (Ty nms) (λgk _ i wr=>∃j:Nat,j+gk=Ty nms/\i=I_ j/\j<=nms.findIdx (λx=>x==a)/\wr=w)
 case atStart=>simp
 case round=>
  obtain⟨j,O,rfl,C,rfl⟩:=hrel;have G:nms.findIdx (λx=>x==a)<Ty nms:=(by grind)
  have k:j<Ty nms:=aD;obtain⟨m,rfl⟩:∃m,gk=m+1:=⟨gk-1,aD⟩;obtain⟨B,d,N,x,f⟩:=q j k;rw[d]at B;have v:=aA (i:=0) f aJ;have r:=aH f;have M:(0:Int)<=(j:Int):=aD;have I:(j:Int)<(Ty nms:Int):=aD;by_cases z:nms[j]=a
  .have o:nms.findIdx (λx=>x==a)=j:=by grind
   have u:=aB d;rw[z]at v;clear f d q;go_wp2
   go_ret;exact⟨by rw[o,u.out];rfl,rfl⟩
  have s:((bs nms[j]).toList==(bs a).toList)=Uc:=by grind [aX]
  have c:j+1<=nms.findIdx (λx=>x==a):=by grind
  generalize nms[j]=y at*;clear f d;go_wp2
  go_roundg m
  case measure=>exact aD
  case rel=>exact⟨j+1,aD,la,c,rfl⟩
end
def yU(w:aN)(a:Nat)(l k:Int)(P:mL)
 (b:Ul (Ue Un 150 #[bF a,Uv 265 (Us #[Uv 261 (I_ k)])] (T6 w (Uy #[I_ l,I_ k] 365)) λe w'=>(∃k:Nat,e=bY (I_ k))/\P w')):
 Ue Un 234 #[bF a,Uv 365 (Us #[I_ l,I_ k])] w λe w'=>e=fD/\P w':=by
 go_in
 go_wp2_with fail;apply b.mono
 rintro e c ⟨⟨m,rfl⟩,d⟩;go_wp2
 go_end0;grind
def MH(w:aN)(a:Nat)(l:Int)(s:ByteArray)(P:mL)
 (b:Ul (Ue Un 150 #[bF a,Uv 265 (Us #[Uv 321 (Ur s)])] (T6 w (Uy #[I_ l,Ur s] 394)) λe w'=>(∃k:Nat,e=bY (I_ k))/\P w')):
 Ue Un 234 #[bF a,Uv 394 (Us #[I_ l,Ur s])] w λe w'=>e=fD/\P w':=by
 go_in
 go_wp2_with fail;apply b.mono
 rintro e c ⟨⟨m,rfl⟩,d⟩;go_wp2
 go_end0;grind
def XK(w:aN)(a:Nat)(l:Int)(b:Bool)(P:mL)
 (c:Ul (Ue Un 150 #[bF a,Uv 265 (Us #[Uv 319 (.bool b)])] (T6 w (Uy #[I_ l,.bool b] 396)) λe w'=>(∃k:Nat,e=bY (I_ k))/\P w')):
 Ue Un 234 #[bF a,Uv 396 (Us #[I_ l,.bool b])] w λe w'=>e=fD/\P w':=by
 go_in
 go_wp2_with fail;apply c.mono
 rintro e d ⟨⟨m,rfl⟩,f⟩;go_wp2
 go_end0;grind
def FW(w:aN)(a:Nat)(l:Int)(s:ByteArray)(k:Nat)(P:mL)
 (c:Ul (Ue Un 251 #[bF a,Ur s] (T6 w (Uy #[I_ l,Ur s] 344)) λe w'=>e=bY (I_ k)/\w'=T6 w (Uy #[I_ l,Ur s] 344)))
 (b:Ul (Ue Un 150 #[bF a,Uv 397 (Us #[I_ k])] (T6 w (Uy #[I_ l,Ur s] 344)) λe w'=>(∃k:Nat,e=bY (I_ k))/\P w')):
 Ue Un 234 #[bF a,Uv 344 (Us #[I_ l,Ur s])] w λe w'=>e=fD/\P w':=by
 go_in
 go_wp2_with fail;refine oN c ?_;go_wp2_with fail;apply b.mono
 rintro e f ⟨⟨m,rfl⟩,d⟩;go_wp2
 go_end0;grind
def XJ(w:aN)(d n c:Nat)(l:Int)(x:Option Uj)(P Q:mL)
 (i:Ul (Ue Un 250 #[bF d,Uq x n c] (T6 w (Uy #[I_ l,Uq x n c] 346)) λe w'=>e=fD/\Q w'))
 (f:Ul (∀W,Q W->T_ W (aL (H_ w) 1)=Ua (Uq x n c)/\H_ w<H_ W))
 (g:Ul (∀W,Q W->Ue Un 150 #[bF d,Uv 399 (Us #[I_ n])] W λe w'=>(∃k:Nat,e=bY (I_ k))/\P w')):
 Ue Un 234 #[bF d,Uv 346 (Us #[I_ l,Uq x n c])] w λe w'=>e=fD/\P w':=by
 go_in
 go_wp2_with fail;refine rf i λj b=>?_
 obtain⟨o,q⟩:=f _ b;have a:=aB (g _ b);clear b;go_wp2_with fail;apply a.mono
 rintro e r ⟨⟨m,rfl⟩,p⟩;go_wp2
 go_end0;grind
def RL(w:aN)(c:Nat)(l:Int)(j a:Ui)(f b:aW)(P Q R:mL)
 (r:Ul (Ue Un 234 #[bF c,Uv j f] (T6 w (Uy #[I_ l,Uv j f,Uv a b] 348)) λe w'=>e=fD/\Q w'))
 (o:Ul (∀W,Q W->T_ W (aL (H_ w) 2)=Ua (Uv a b)/\H_ w<H_ W))
 (p:Ul (∀W,Q W->Ue Un 234 #[bF c,Uv a b] W λe w'=>e=fD/\R w'))
 (q:Ul (∀W,R W->Ue Un 150 #[bF c,Uv 400 (Us #[])] W λe w'=>(∃k:Nat,e=bY (I_ k))/\P w')):
 Ue Un 234 #[bF c,Uv 348 (Us #[I_ l,Uv j f,Uv a b])] w λe w'=>e=fD/\P w':=by
 go_in
 go_wp2_with fail;refine rf r λs g=>?_
 obtain⟨t,v⟩:=o _ g;have i:=aB (p _ g);clear g;go_wp2_with fail;refine rf i λy n=>?_
 have d:=aB (q _ n);clear n;go_wp2_with fail;apply d.mono
 rintro e u ⟨⟨m,rfl⟩,x⟩;go_wp2
 go_end0;grind
def RJ(w:aN)(f:Nat)(l:Int)(a:ByteArray)(g:Ui)(c:aW)(P Q:mL)
 (n:Ul (Ue Un 234 #[bF f,Uv g c] (T6 w (Uy #[I_ l,Ur a,Uv g c] 350)) λe w'=>e=fD/\Q w'))
 (i:Ul (∀W,Q W->T_ W (aL (H_ w) 1)=Ua (Ur a)/\H_ w<H_ W))
 (j:Ul (∀W,Q W->Ue Un 150 #[bF f,Uv 402 (Us #[Ur a])] W λe w'=>(∃k:Nat,e=bY (I_ k))/\P w')):
 Ue Un 234 #[bF f,Uv 350 (Us #[I_ l,Ur a,Uv g c])] w λe w'=>e=fD/\P w':=by
 go_in
 go_wp2_with fail;refine rf n λo d=>?_
 obtain⟨p,r⟩:=i _ d;have b:=aB (j _ d);clear d;go_wp2_with fail;apply b.mono
 rintro e q ⟨⟨m,rfl⟩,s⟩;go_wp2
 go_end0;grind
def yV(w:aN)(g:Nat)(l:Int)(a:ByteArray)(d b:Ui)(f c:aW)(P:mL)
 (i:Ul (Ue Un 279 #[bF g,Us #[I_ l,Ur a,Uv d f,Uv b c]] (T6 w (Uy #[I_ l,Ur a,Uv d f,Uv b c] 352)) λe w'=>e=fD/\P w')):
 Ue Un 234 #[bF g,Uv 352 (Us #[I_ l,Ur a,Uv d f,Uv b c])] w λe w'=>e=fD/\P w':=by
 go_in
 go_wp2_with fail;refine rf i λj k=>?_
 go_wp2
 go_end0;grind
def xC(w:aN)(a n c:Nat)(l:Int)(s:ByteArray)(x:Option Uj)(P:mL)
 (b:Ul (Ue Un 254 #[bF a,Us #[I_ l,Ur s,Uq x n c]] (T6 w (Uy #[I_ l,Ur s,Uq x n c] 341)) λe w'=>e=fD/\P w')):
 Ue Un 234 #[bF a,Uv 341 (Us #[I_ l,Ur s,Uq x n c])] w λe w'=>e=fD/\P w':=by
 go_in
 go_wp2_with fail;refine rf b λd f=>?_
 go_wp2
 go_end0;grind
def TF{Z_:Prop}(Y_:Z_:=by
 obtain⟨j,hj,rfl,hC⟩:=hrel;by_cases hlt:j<n
 .obtain⟨m,rfl⟩:∃m,gk=m+1:=⟨gk-1,aD⟩;obtain⟨hg,t,z,c1,hcl⟩:=HC _ _ hC hlt;have HX:=aB hcl;have e1:(0:Int)<=(j:Int):=aD;have e2:(j:Int)<(n:Int):=aD;clear hC hcl;go_wp2_with fail;refine rf HX λw1 h1=>?_
  go_wp2
  go_roundg m
  case measure=>exact aD
  grind
 have hjn:j=n:=aD;subst hjn;have HC':=aB hC;clear hC;go_wp2
 go_end0;exact⟨aJ,HC'⟩):Z_:=Y_
def N8(w:aN)(c g n a:Nat)(C:Nat->World->Prop)(f:n<=1000000)(b:C 0 w)
 (HC:Ul (∀j W,C j W->j<n->g<H_ W/\∃t z,T_ W (aL g j)=Ua (Uv t z)/\Ue Un 234 #[bF c,Uv t z] W λe w'=>e=fD/\C (j+1) w')):
 Ue Un 250 #[bF c,Uq (Ua (aL g 0)) n a] w λe w'=>e=fD/\C n w':=by
 have d:=aB b;clear b;go_in
 go_wp2
 go_loopg [5,8] n (λgk _ i wr=>∃j:Nat,j+gk=n/\i=I_ j/\C j wr)
 case atStart=>grind [d7]
 case round=>
  exact TF
def Gg(w:aN)(a:Nat):Ue Un 250 #[bF a,bO] w λe w'=>e=fD/\w'=w:=by
 go_in
 go_wp2
 go_loopg [5,8] 0 (λ_ _ i wr=>i=I_ 0/\wr=w)
 case atStart=>simp
 case round=>
  go_wp2
  go_end0;simp
def YW(w:aN)(d n c:Nat)(l:Int)(x:Option Uj)(P Q:mL)
 (i:Ul (Ue Un 250 #[bF d,Uq x n c] (T6 w (Uy #[I_ l,Ur (bs [108,101,110]),Uq x n c] 341)) λe w'=>e=fD/\Q w'))
 (f:Ul (∀W,Q W->T_ W (aL (H_ w) 1)=Ua (Ur (bs [108,101,110]))/\H_ w<H_ W))
 (g:Ul (∀W,Q W->Ue Un 150 #[bF d,Uv 409 (Us #[])] W λe w'=>(∃k:Nat,e=bY (I_ k))/\P w')):
 Ue Un 254 #[bF d,Us #[I_ l,Ur (bs [108,101,110]),Uq x n c]] w λe w'=>e=fD/\P w':=by
 have r:((bs [108,101,110]).toList==[108,101,110])=Ud:=by rw[aX];rfl
 generalize bs [108,101,110]=t at*;go_in
 go_wp2_with fail;refine rf i λj b=>?_
 obtain⟨o,q⟩:=f _ b;have a:=aB (g _ b);clear b;go_wp2_with fail;apply a.mono
 rintro e s ⟨⟨m,rfl⟩,p⟩;go_wp2
 go_end0;grind
def OV(w:aN)(d n c:Nat)(l:Int)(x:Option Uj)(P Q:mL)
 (i:Ul (Ue Un 250 #[bF d,Uq x n c] (T6 w (Uy #[I_ l,Ur (bs [114,101,97,100]),Uq x n c] 341)) λe w'=>e=fD/\Q w'))
 (f:Ul (∀W,Q W->T_ W (aL (H_ w) 1)=Ua (Ur (bs [114,101,97,100]))/\H_ w<H_ W))
 (g:Ul (∀W,Q W->Ue Un 150 #[bF d,Uv 410 (Us #[])] W λe w'=>(∃k:Nat,e=bY (I_ k))/\P w')):
 Ue Un 254 #[bF d,Us #[I_ l,Ur (bs [114,101,97,100]),Uq x n c]] w λe w'=>e=fD/\P w':=by
 have s:((bs [114,101,97,100]).toList==[108,101,110])=Uc:=by rw[aX];rfl
 have q:((bs [114,101,97,100]).toList==[114,101,97,100])=Ud:=by rw[aX];rfl
 generalize bs [114,101,97,100]=u at*;go_in
 go_wp2_with fail;refine rf i λj b=>?_
 obtain⟨o,r⟩:=f _ b;have a:=aB (g _ b);clear b;go_wp2_with fail;apply a.mono
 rintro e t ⟨⟨m,rfl⟩,p⟩;go_wp2
 go_end0;grind
def KF(w:aN)(f n c i:Nat)(l:Int)(a:bP)(x:Option Uj)(P Q:mL)(d:a≠[108,101,110])(j:a≠[114,101,97,100])
 (r:Ul (Ue Un 250 #[bF f,Uq x n c] (T6 w (Uy #[I_ l,Ur (bs a),Uq x n c] 341)) λe w'=>e=fD/\Q w'))
 (p:Ul (∀W,Q W->T_ W (aL (H_ w) 1)=Ua (Ur (bs a))/\T_ W (aL (H_ w) 2)=Ua (Uq x n c)/\H_ w<H_ W))
 (o:Ul (∀W b,Q W->bV W b->Ue Un 91 #[bF f,Ur (bs a)] b λe w'=>e=bY (bF i)/\w'=b))
 (q:Ul (∀W b,Q W->bV W b->Ue Un 150 #[bF f,Uv 412 (Us #[bF i,I_ n])] b λe w'=>(∃k:Nat,e=bY (I_ k))/\P w')):
 Ue Un 254 #[bF f,Us #[I_ l,Ur (bs a),Uq x n c]] w λe w'=>e=fD/\P w':=by
 have B:((bs a).toList==[108,101,110])=Uc:=by grind [aX]
 have y:((bs a).toList==[114,101,97,100])=Uc:=by grind [aX]
 clear d j;go_in
 go_wp2_with fail;refine rf r λs d=>?_
 obtain⟨t,z,v⟩:=p _ d;have g:=aB d;clear d;go_wp2
 go_region_law (go_simp;first|(go_at_call 91;refine oN (o _ _ g (bV.drew _)) ?_)|(go_at_call 150;apply (q _ _ g (bV.drew _)).mono;rintro e u ⟨⟨m,rfl⟩,A⟩))
 all_goals
  go_wp2
  go_end0;grind
def SF(w:aN)(g:Nat)(l:Int)(a:bP)(o d:Ui)(j f:aW)(P Q R:mL)(c:a≠[38,38])(b:a≠[124,124])
 (u:Ul (Ue Un 234 #[bF g,Uv o j] (T6 w (Uy #[I_ l,Ur (bs a),Uv o j,Uv d f] 352)) λe w'=>e=fD/\Q w'))
 (q:Ul (∀W,Q W->T_ W (aL (H_ w) 1)=Ua (Ur (bs a))/\T_ W (aL (H_ w) 3)=Ua (Uv d f)/\H_ w<H_ W))
 (r:Ul (∀W,Q W->Ue Un 234 #[bF g,Uv d f] W λe w'=>e=fD/\R w'))
 (p:Ul (∀W,R W->T_ W (aL (H_ w) 1)=Ua (Ur (bs a))/\H_ w<H_ W))
 (t:Ul (∀W,R W->Ue Un 150 #[bF g,Uv 431 (Us #[Ur (bs a)])] W λe w'=>(∃k:Nat,e=bY (I_ k))/\P w')):
 Ue Un 279 #[bF g,Us #[I_ l,Ur (bs a),Uv o j,Uv d f]] w λe w'=>e=fD/\P w':=by
 have E:((bs a).toList==[38,38])=Uc:=by grind [aX]
 have C:((bs a).toList==[124,124])=Uc:=by grind [aX]
 clear c b;generalize bs a=ob at*;go_in
 go_wp2_with fail;refine rf u λx c=>?_
 obtain⟨y,D,A⟩:=q _ c;have n:=aB (r _ c);clear c;go_wp2_with fail;refine rf n λF b=>?_
 obtain⟨B,v⟩:=p _ b;have i:=aB (t _ b);clear b;go_wp2_with fail;apply i.mono
 rintro e z ⟨⟨m,rfl⟩,s⟩;go_wp2_with fail;exact⟨aJ,_,results_none r_ _ _ _,rfl,s⟩
def SE(w:aN)(a k:Nat)(l:Int)(b:Bool)(d:bP)(x j:Ui)(s o:aW)(P Q z R S:mL)(r:d=if b then [124,124]else [38,38])
 (G:Ul (Ue Un 234 #[bF a,Uv x s] (T6 w (Uy #[I_ l,Ur (bs d),Uv x s,Uv j o] 352)) λe w'=>e=fD/\Q w'))
 (B:Ul (∀W,Q W->T_ W (aL (H_ w) 1)=Ua (Ur (bs d))/\H_ w<H_ W))
 (I:Ul (∀W,Q W->Ue Un 150 #[bF a,.nilIface] W λe w'=>e=bY (I_ k)/\z w'))
 (y:Ul (∀W,z W->T_ W (aL (H_ w) 3)=Ua (Uv j o)/\H_ w<H_ W))
 (H:Ul (∀W,z W->Ue Un 234 #[bF a,Uv j o] W λe w'=>e=fD/\R w'))
 (L:Ul (∀W,R W->Ue Un 150 #[bF a,Uv 432 (Us #[])] W λe w'=>(∃k:Nat,e=bY (I_ k))/\S w'))
 (i:Ul (∀W,S W->T_ W (aL (H_ w) 1)=Ua (Ur (bs d))/\H_ w<H_ W/\a<H_ W/\∃g n c,T_ W (aL a 1)=Ua (Uq (Ua (aL g 0)) n c)/\k<n/\n<=1000000/\(∃u,T_ W (aL g k)=Ua u)/\W.frozen? (aL g k)=Uc/\g<H_ W/\∀F,bV (Tz W (aL g k) (Uv 434 (Us #[.bool b,I_ n]))) F->P F)):
 Ue Un 279 #[bF a,Us #[I_ l,Ur (bs d),Uv x s,Uv j o]] w λe w'=>e=fD/\P w':=by
 have J:∃ob:ByteArray,ob=bs d/\(ob.toList==[38,38])= !b/\(ob.toList==[124,124])=b:=(by grind [aX])
 obtain⟨ob,D,K,e2⟩:=J;rw[<-D]at G B i ⊢
 clear D r;cases b
 all_goals
  simp only[Bool.not_true,Bool.not_false]at K;go_in
  go_wp2_with fail;refine rf G λU t=>?_
  obtain⟨O,b2⟩:=B _ t;have A:=aB (I _ t);clear t;go_wp2_with fail;refine rf A λw2 q=>?_
  obtain⟨d1,N⟩:=y _ q;have v:=aB (H _ q);clear q;go_wp2_with fail;refine rf v λV E=>?_
  have p:=aB (L _ E);clear E;go_wp2_with fail;apply p.mono
  rintro e M ⟨⟨m,rfl⟩,C⟩;obtain⟨Z,f2,f3,g,n,c,f4,f5,f6,⟨u,Y⟩,T,f9,f⟩:=i _ C;have HP:=aB f;have i1:(0:Int)<=(k:Int):=aD;have X:(k:Int)<(n:Int):=aD;clear C f;go_wp2
  go_region
  all_goals
   go_wp2
   go_end0;grind [d7,bV.drew]
theorem sK(c:aC->Nat->List aO):∀(l m:List aC) (p:Nat),bB c (l++m) p=bB c l p++bB c m (p+Ty (bB c l p))
 |[],m,p=>by simp[bB]
 |a::l,m,p=>by rw[iy,bB,bB,sK c l m,gw,ew,Nat.add_assoc]
def IL(c:aC->Nat->List aO)(a:aC)(p:Nat):bB c [a] p=c a p:=by simp[bB]
def UP(c:aC->Nat->List aO)(a b:aC)(p:Nat):bB c [a,b] p=c a p++c b (p+Ty (c a p)):=by simp[bB]
section
variable (fs:List aC) (e_:cY) (d:Nat) (a:aC) (p:Nat)
def Nh(h:a.op=[48]):aG fs e_ (d+1) a p=[.push (bA (((dS 0 a.x_).getD 0:Nat):Int))]:=by rw[aG];simp[h]
def R2(h:a.op=[115]):aG fs e_ (d+1) a p=[.push (bQ a.x_)]:=by rw[aG];simp[h]
def O1(h:a.op=[98,111,111,108]):aG fs e_ (d+1) a p=[.push (cG (a.x_==[116,114,117,101]))]:=by rw[aG];simp[h]
def Gm(h:a.op=[110,97,109,101]):aG fs e_ (d+1) a p=[.load (dQ e_ a.x_)]:=by rw[aG];simp[h]
def O0(h:a.op=[108,105,115,116]):aG fs e_ (d+1) a p=bB (aG fs e_ d) a.y_ p++[.list (Ty a.y_)]:=by rw[aG];simp[h]
def XI(h:a.op=[105,110,100,101,120]):aG fs e_ (d+1) a p=bB (aG fs e_ d) a.y_ p++[.index]:=by rw[aG];simp[h]
def XG(o:UInt8)(b:o=45\/o=33)(h:a.op=[o,120]):aG fs e_ (d+1) a p=bB (aG fs e_ d) a.y_ p++[.unary [o]]:=by grind [aG]
def JV(h:a.op=[99,97,108,108]):aG fs e_ (d+1) a p=bB (aG fs e_ d) a.y_ p++[if a.x_==[108,101,110]then .length else if a.x_==[114,101,97,100]then .read else .call (dV fs a.x_) (Ty a.y_)]:=by rw[aG];simp[h]
def XH(b:Bool)(l r:aC)(h:a.op=if b then [124,124]else [38,38])(c:a.y_=[l,r]):aG fs e_ (d+1) a p=
 aG fs e_ d l p++[.rs b (p+Ty (aG fs e_ d l p)+1+Ty (aG fs e_ d r (p+Ty (aG fs e_ d l p)+1))+1)]++aG fs e_ d r (p+Ty (aG fs e_ d l p)+1)++[.sk]:=by
 rw[aG];cases b<;>simp[h,c]
def RI(h:cU a.op≠9)(b:a.op≠[38,38])(c:a.op≠[124,124]):aG fs e_ (d+1) a p=bB (aG fs e_ d) a.y_ p++[.binary a.op]:=by
 rcases oT h with e|e|e|e|e|e|e|e|e|e|e
 all_goals first|exact eu e c|exact eu e b|(rw[aG];simp[e])
end
def NA:∀(l:bP) (n k:Nat),n<=9223372036854775807->dS n l=Ua k->k<=9223372036854775807
 |[],n,k,a,h=>by grind [dS]
 |c::r,n,k,a,h=>by
  rw[dS]at h;split at h
  .cases h
  refine NA r _ k ?_ h;grind [UInt8.toNat_lt,rA]
section
variable {fp:iU} {fb:Nat->Nat} {nms:cY} {cb:Nat} {F:bN} {w w':aN} {code:List (Option aO)} {e_:cY}
def CP.patch{a b:List (Option aO)}(h:CP fp fb nms cb F w (a++Ub::b) e_):
 ∃g c,T_ w (aL cb 1)=Ua (Uq (Ua (aL g 0)) (Ty (a++Ub::b)) c)/\(∃x,T_ w (aL g (Ty a))=Ua x)/\w.frozen? (aL g (Ty a))=Uc/\g<H_ w/\
  ∀u i e,lR fp F w u i->bV (Tz w (aL g (Ty a)) u) e->CP fp fb nms cb F e (a++Ua i::b) e_/\FB cb cb w e:=by
 obtain⟨X,N,M,r,⟨H,C,J⟩,S,E⟩:=h.i_;have B:=h.lt;have V:Ty (a++Ub::b)=Ty a+Ty b+1:=G_
 rcases C.2 with ⟨_,A⟩|⟨g,c,l,rfl,A,n,P,G,O,Q⟩
 .exact aD
 have z:=aH n;have m:∃x,l[Ty a]?=Ua x:=⟨_,fh aD⟩;obtain⟨x,K⟩:=m;refine⟨g,c,aA r aJ,⟨x,aA n K⟩,aF n,z,λu i e I f=>?_⟩
 have q:∀k,k≠g->e.heap[k]?=w.heap[k]?:=λk q=>by rw[f.heap,em _ _ _ _ q]
 have D:lT cb w=Ua g:=rR r;have p:e.heap[cb]?=_:=(q cb aD).trans r;have d:FB cb cb w e:=⟨⟨f.os.trans aJ,f.tape.trans aJ,f.output.trans aJ,by rw[f.heap];simp,G_⟩,G_,(by grind [lT])⟩
 have s:=h.fixed d;refine⟨h.step (xs':=H.set (Ty a) u) d p ⟨G_,ec ⟨g,c,l.setIfInBounds (Ty a) u,s_,A,by rw[f.heap];exact aP n,G_,G,G_,?_⟩⟩ ?_ ((by grind [gQ.h_])) (E.h_ s (s_) d.re.size),d⟩
 .grind [List.take_set]
 have y:=J.h_ s MW;refine⟨G_,λj o t=>?_⟩
 by_cases L:j=Ty a
 .subst L;rw[ip (aD)]at t;simp at t;subst t;exact⟨u,G_,lR.h_ I s s_⟩
 have v:(a++Ub::b)[j]?=Ua o:=by grind
 obtain⟨U,W,T⟩:=y.2 j o v;grind
end
def iF(fp:iU)(fb:Nat->Nat)(nms:cY)(cb:Nat)(F:bN)(w:aN)(code:List (Option aO))(e_:cY)(w':aN):Prop:=
 CP fp fb nms cb F w' code e_/\FB cb cb w w'
def KV(fp:iU)(fb:Nat->Nat)(fs:List aC)(cb lo:Nat)(F:bN)(a_:Bool)(e_:cY)(d:Nat):Prop:=
 ∀(v:aW) (a:aC) (code:List (Option aO)) (w:aN),CP fp fb (fs.map (·.x_)) cb F w code e_->PN (rn lo cb) w v a->Hs.rk fs a_ e_ d a->sW d a->Ty code+Ty (aG fs e_ d a (Ty code))<=1000000->
  Ue Un 234 #[bF cb,v] w λe w'=>e=fD/\iF fp fb (fs.map (·.x_)) cb F w (code++(aG fs e_ d a (Ty code)).map Ua) e_ w'
section
variable {fp:iU} {fb:Nat->Nat} {fs:List aC} {cb lo:Nat} {F:bN} {a_:Bool} {e_:cY} {d:Nat}
theorem iF.then{w c d:aN}{b:cY}{a:List (Option aO)}(e:FB cb cb w c)(h:iF fp fb b cb F c a e_ d):iF fp fb b cb F w a e_ d:=⟨h.1,e.trans h.2⟩
def rP.s5{F:bN}{w:aN}{v:aW}{l:List aC}(h:rP F w v l):∃x c,v=Uq x (Ty l) c:=by grind [rP.get]
def rk.op{g:List aC}{c:Bool}{b:cY}{d:Nat}{a:aC}(h:Hs.rk g c b (d+1) a):
 (∀k∈a.y_,Hs.rk g c b d k)/\(a.op=[110,97,109,101]->a.x_∈b)/\
   (a.op=[99,97,108,108]->a.x_=[108,101,110]\/a.x_=[114,101,97,100]\/(a.x_≠[108,101,110]/\a.x_≠[114,101,97,100]/\gE g (dV g a.x_)=Ua (Ty a.y_))):=by
 rcases h with ⟨e,i⟩|⟨e,i,f⟩|⟨e,f⟩|⟨e,l,r,i,f,j⟩|⟨e,l,i,f⟩|⟨e,f,j⟩|⟨e,l,r,i,f,j⟩
 .grind
 .grind
 .grind
 .grind
 .grind
 .grind
 grind [cU]
def xX(y:KV fp fb fs cb lo F a_ e_ d)(v:aW)(l:List aC)(b:List (Option aO))(w:aN)(h:CP fp fb (fs.map (·.x_)) cb F w b e_)(B:rP (rn lo cb) w v l)(E:∀a∈l,Hs.rk fs a_ e_ d a)(C:∀a∈l,sW d a)(x:Ty l<=1000000)(G:Ty b+Ty (bB (aG fs e_ d) l (Ty b))<=1000000):
 Ue Un 250 #[bF cb,v] w λe w'=>e=fD/\iF fp fb (fs.map (·.x_)) cb F w (b++(bB (aG fs e_ d) l (Ty b)).map Ua) e_ w':=by
 rcases B.get with ⟨rfl,rfl⟩|⟨g,k,rfl,r,m,n,D⟩
 .apply (Gg w cb).mono
  grind [bB,FB.refl,iF]
 refine(N8 w cb g (Ty l) k (λj W=>j<=Ty l/\iF fp fb (fs.map (·.x_)) cb F w (b++(bB (aG fs e_ d) (l.take j) (Ty b)).map Ua) e_ W) x (by grind [bB,FB.refl,iF]) λj W s q=>?_).mono ?_
 .obtain⟨_,i,c⟩:=s;obtain⟨u,z,f⟩:=D j q;obtain⟨T,t,rfl⟩:=f.form;have htk :=g9 q;have A:bB (aG fs e_ d) (l.take (j+1)) (Ty b)=bB (aG fs e_ d) (l.take j) (Ty b)++aG fs e_ d l[j] (Ty b+Ty (bB (aG fs e_ d) (l.take j) (Ty b))):=by rw[htk,sK,IL]
  have o:Ty (bB (aG fs e_ d) (l.take (j+1)) (Ty b))<=Ty (bB (aG fs e_ d) l (Ty b)):=by grind [List.take_append_drop,sK]
  refine⟨ej m c.re.size,T,Us t,by rw[c.re.cell (p:=(aL g j)) r.2];exact z,(y _ l[j] _ W i (f.below c.re) (G_) (G_) ?_).mono ?_⟩
  .grind
  grind [iF.then]
 simp
def tg{b:cY}{w W:aN}{a:List (Option aO)}{u:aW}{i:aO}(c:iF fp fb b cb F w a e_ W)(d:lR fp F W u i)(f:Ty a+1<=1000000):
 Ue Un 150 #[bF cb,u] W λe w'=>(∃k:Nat,e=bY (I_ k))/\iF fp fb b cb F w (a++[Ua i]) e_ w':=by
 apply (xD (o:=Ua i) c.1 d aD).mono
 grind [FB.trans,iF]
theorem JS(a:List aC)(x:bP):(a.map (·.x_)).findIdx (λy=>y==x)=dV a x:=by
 unfold dV;induction a with
 |nil=>rfl
 |cons f a b=>grind
def rZ(a:List (Option aO))(c:List aO):Ty (a++c.map Ua)=Ty a+Ty c:=s_
def Q8(IH:KV fp fb fs cb lo F a_ e_ d)(ay:Ty e_<=1000000)(bx:Ty fs<=1000000)(bu:∀k,k<Ty fs->fp k=bF (fb k)):KV fp fb fs cb lo F a_ e_ (d+1):=by
 intro v a f w h bk am bg m;obtain⟨T,t,ps,rfl,bl,ba⟩:=bk.parts;obtain⟨bo,aj,K⟩:=bg;have A:=rk.op am;obtain⟨P,ac⟩:=h.new (cD t T)
 have u:∀p∈ps,ua.ok (rn lo cb) (T6 w (cD t T)) p:=λp Q=>by
  rcases ba p Q with ⟨X,b,h2,h3⟩|⟨X,h2⟩
  .exact ed ⟨X,b,h2,h3.below P.fb.re⟩
  exact ec ⟨X,rP.below h2 P.fb.re⟩
 have bw:∀{W:aN} {c:List (Option aO)},iF fp fb (fs.map (·.x_)) cb F (T6 w (cD t T)) c e_ W->W.heap[w.heap.size]?=Ua (cD t T):=λB=>(P.step B.2).i_
 have C:∀{c:List (Option aO)} {e:Ending} {W:aN},(e=fD/\iF fp fb (fs.map (·.x_)) cb F (T6 w (cD t T)) c e_ W)->(e=fD/\iF fp fb (fs.map (·.x_)) cb F w c e_ W):=λj=>⟨j.1,j.2.then P.fb⟩
 have z:iF fp fb (fs.map (·.x_)) cb F (T6 w (cD t T)) f e_ (T6 w (cD t T)):=⟨ac,FB.refl _⟩
 have ah:∀{W:aN} {v:aW} {k:aC} {c:List (Option aO)},iF fp fb (fs.map (·.x_)) cb F (T6 w (cD t T)) c e_ W->ua.ok (rn lo cb) (T6 w (cD t T)) ⟨v,[k],Ud⟩->Hs.rk fs a_ e_ d k->sW d k->Ty c+Ty (aG fs e_ d k (Ty c))<=1000000->
  Ue Un 234 #[bF cb,v] W λe w'=>e=fD/\iF fp fb (fs.map (·.x_)) cb F (T6 w (cD t T)) (c++(aG fs e_ d k (Ty c)).map Ua) e_ w':=λB Q hx hl hn=>
  (IH _ _ _ _ B.1 (Q.tf.below B.2.re) hx hl hn).mono (by grind [iF.then,iF])
 have ad:∀{W:aN} {v:aW} {l:List aC} {c:List (Option aO)},iF fp fb (fs.map (·.x_)) cb F (T6 w (cD t T)) c e_ W->ua.ok (rn lo cb) (T6 w (cD t T)) ⟨v,l,Uc⟩->(∀k∈l,Hs.rk fs a_ e_ d k)->(∀k∈l,sW d k)->Ty l<=1000000->Ty c+Ty (bB (aG fs e_ d) l (Ty c))<=1000000->
  Ue Un 250 #[bF cb,v] W λe w'=>e=fD/\iF fp fb (fs.map (·.x_)) cb F (T6 w (cD t T)) (c++(bB (aG fs e_ d) l (Ty c)).map Ua) e_ w':=λB Q hx hl bh hn=>
  (xX IH _ _ _ _ B.1 (Q.many.below B.2.re) hx hl bh hn).mono (by grind [iF.then,iF])
 rcases bl with ⟨rfl,k,rfl,q,al,r,rfl⟩|⟨rfl,rfl,q,r,rfl⟩|⟨rfl,rfl,q,r,rfl⟩|⟨rfl,sv,rfl,q,rfl⟩|⟨rfl,sv,rfl,q,rfl⟩|⟨rfl,rfl,q,r,rfl⟩|⟨rfl,l,v1,v2,Z,a2,rfl,q,r,rfl⟩|⟨rfl,o,v1,Z,rfl,aw,q,r,rfl⟩|⟨rfl,l,v1,v2,Z,a2,rfl,q,r,rfl⟩|av
 ·-- a number
  rw[Nh fs e_ d a _ q,al]at m ⊢
  have hk:=NA _ _ _ aD al;exact(yU w cb a.l_ k _ (tg (i:=.push (bA k)) z (by grind [PV.num,uO,lR]) aD)).mono λ_ _=>C
 .rw[R2 fs e_ d a _ q]at m ⊢
  exact(MH w cb a.l_ _ _ (tg (i:=.push (bQ a.x_)) z (by grind [PV.str,oK,lR,lB]) aD)).mono λ_ _=>C
 .rw[O1 fs e_ d a _ q]at m ⊢
  exact(XK w cb a.l_ _ _ (tg (i:=.push (cG (a.x_==[116,114,117,101]))) z (by grind [PV.xd,pS,lR]) aD)).mono λ_ _=>C
 ·-- a list
  rw[O0 fs e_ d a _ q]at m ⊢
  rw[ew,hJ]at m;have E:=A.1;have Q:=u ⟨sv,a.y_,Uc⟩ s_
  obtain⟨x,c,rfl⟩:=Q.many.s5;refine(XJ w cb (Ty a.y_) c a.l_ x _ _ (ad z Q E K aj aD) (λW j=>(by grind [aA])) λW j=>tg (i:=.list (Ty a.y_)) j rfl G_).mono ?_
  intro e W j;rw[fw,<-gw];exact C j
 ·-- a call
  rw[JV fs e_ d a _ q]at m ⊢
  rw[ew,hJ]at m;have E:=A.1;have ai:=A.2.2 q;have Q:=u ⟨sv,a.y_,Uc⟩ s_
  obtain⟨x,c,rfl⟩:=Q.many.s5;obtain⟨s,O⟩:=ac.new (cD #[I_ a.l_,Q_ (bs a.x_),P_ x (Ty a.y_) c] 341);generalize I:T6 w (cD #[I_ a.l_,Q_ (bs a.x_),P_ x (Ty a.y_) c] 341)=n at*;have ab:iF fp fb (fs.map (·.x_)) cb F n f e_ (T6 n (cD #[I_ a.l_,Q_ (bs a.x_),P_ x (Ty a.y_) c] 341)):=⟨O,s.fb⟩
  have hx:=ad ab Q E K aj aD;have bp:∀{W:aN},FB cb cb (T6 n (cD #[I_ a.l_,Q_ (bs a.x_),P_ x (Ty a.y_) c] 341)) W->W.heap[n.heap.size]?=Ua (cD #[I_ a.l_,Q_ (bs a.x_),P_ x (Ty a.y_) c] 341):=λbi=>(s.step bi).i_
  have H:Ue Un 250 #[bF cb,P_ x (Ty a.y_) c] (T6 n (cD #[I_ a.l_,Q_ (bs a.x_),P_ x (Ty a.y_) c] 341)) λe w'=>e=fD/\(iF fp fb (fs.map (·.x_)) cb F n (f++(bB (aG fs e_ d) a.y_ (Ty f)).map Ua) e_ w'/\w'.heap[n.heap.size]?=Ua (cD #[I_ a.l_,Q_ (bs a.x_),P_ x (Ty a.y_) c] 341)):=by refine(xX IH _ _ _ _ O (Q.many.below s.fb.re) E K aj aD).mono ?_;grind [iF.then,iF]
  have aa:∀{i:aO} {e:Ending} {W:aN},(e=fD/\iF fp fb (fs.map (·.x_)) cb F n ((f++(bB (aG fs e_ d) a.y_ (Ty f)).map Ua)++[Ua i]) e_ W)->e=fD/\iF fp fb (fs.map (·.x_)) cb F w (f++(bB (aG fs e_ d) a.y_ (Ty f)++[i]).map Ua) e_ W:=λj=>by rw[fw,<-gw];exact C j
  have af:Ty (f++(bB (aG fs e_ d) a.y_ (Ty f)).map Ua)+1<=1000000:=G_
  rcases ai with ae|ae|⟨bd,be,bq⟩
  .rw[ae]at H I ⊢
   refine(xC w cb (Ty a.y_) c a.l_ _ x (λW=>iF fp fb (fs.map (·.x_)) cb F n ((f++(bB (aG fs e_ d) a.y_ (Ty f)).map Ua)++[Ua .length]) e_ W) (by rw[I];exact YW n cb (Ty a.y_) c a.l_ x _ _ H (λW j=>(by grind [aA])) λW j=>tg (i:=.length) j.1 rfl af)).mono ?_
   intro e W j;exact aa j
  .rw[ae]at H I ⊢
   refine(xC w cb (Ty a.y_) c a.l_ _ x (λW=>iF fp fb (fs.map (·.x_)) cb F n ((f++(bB (aG fs e_ d) a.y_ (Ty f)).map Ua)++[Ua .read]) e_ W) (by rw[I];exact OV n cb (Ty a.y_) c a.l_ x _ _ H (λW j=>(by grind [aA])) λW j=>tg (i:=.read) j.1 rfl af)).mono ?_
   intro e W j;exact aa j
  have bt:dV fs a.x_<Ty fs:=by grind [gE]
  have ap:a.x_∈fs.map (·.x_):=by grind [dV]
  have e1:(a.x_==[108,101,110])=Uc:=G_
  have e2:(a.x_==[114,101,97,100])=Uc:=G_
  rw[e1,e2];refine(xC w cb (Ty a.y_) c a.l_ _ x (λW=>iF fp fb (fs.map (·.x_)) cb F n ((f++(bB (aG fs e_ d) a.y_ (Ty f)).map Ua)++[Ua (.call (dV fs a.x_) (Ty a.y_))]) e_ W) ?_).mono ?_
  .rw[I];refine KF n cb (Ty a.y_) c (fb (dV fs a.x_)) a.l_ a.x_ x _ _ bd be H (λW j=>(by grind [aA])) (λW W' j hS=>?_) (λW W' j hS=>?_)
   .refine(zF a.x_ (j.1.1.grow hS.below) ap G_).mono ?_
    grind [JS]
   have bf:iF fp fb (fs.map (·.x_)) cb F n (f++(bB (aG fs e_ d) a.y_ (Ty f)).map Ua) e_ W':=(by grind [CP.grow,bV.below,FB.trans,FB.of_lt,CP.lt,iF])
   exact tg (i:=.call (dV fs a.x_) (Ty a.y_)) bf (by show _=_;grind) af
  intro e W j;exact aa j
 ·-- a variable
  rw[Gm fs e_ d a _ q]at m ⊢
  have hm:=A.2.1 q;exact(FW w cb a.l_ _ (dQ e_ a.x_) _ (UL a.x_ ac hm ay) (tg (i:=.load (dQ e_ a.x_)) z aJ aD)).mono λ_ _=>C
 ·-- an index
  rw[XI fs e_ d a _ q,r,UP]at m ⊢
  rw[ew,ew,hJ]at m;have E:=A.1;have G:=u ⟨v1,[Z],Ud⟩ s_
  have V:=u ⟨v2,[a2],Ud⟩ s_
  obtain⟨T1,M,rfl⟩:=G.tf.form;obtain⟨T2,N,rfl⟩:=V.tf.form;refine(RL w cb l T1 T2 _ _ _ _ _ (ah z G (G_) (G_) aD) (λW j=>(by grind [aA])) (λW j=>ah j V (G_) (G_) G_) λW j=>tg (i:=.index) j rfl G_).mono ?_
  intro e W j;rw[rZ]at j;rw[fw,fw,<-gw,<-gw];exact C j
 ·-- one operand
  rw[XG fs e_ d a _ o aw q,r,IL]at m ⊢
  rw[ew,hJ]at m;have E:=A.1;have G:=u ⟨v1,[Z],Ud⟩ s_
  obtain⟨T1,M,rfl⟩:=G.tf.form;refine(RJ w cb a.l_ _ T1 _ _ _ (ah z G (G_) (G_) aD) (λW j=>(by grind [aA])) λW j=>tg (i:=.unary [o]) j rfl G_).mono ?_
  intro e W j;rw[fw,<-gw];exact C j
 ·-- two operands
  have E:=A.1;have G:=u ⟨v1,[Z],Ud⟩ s_
  have V:=u ⟨v2,[a2],Ud⟩ s_
  obtain⟨T1,M,rfl⟩:=G.tf.form;obtain⟨T2,N,rfl⟩:=V.tf.form;have au:=E Z (by rw[r];simp)
  have H:=E a2 (by rw[r];simp)
  have ao:=K Z (by rw[r];simp)
  have aq:=K a2 (by rw[r];simp)
  generalize J:(#[I_ (l:Nat),Q_ (bs a.op),dH T1 (Us M),dH T2 (Us N)]:Array Value)=t at*;obtain⟨s,O⟩:=ac.new (cD t 352);have ab:iF fp fb (fs.map (·.x_)) cb F (T6 w (cD t 352)) f e_ (T6 (T6 w (cD t 352)) (cD t 352)):=⟨O,s.fb⟩
  generalize I:T6 w (cD t 352)=n at*
  have S:∀{W:aN} {v:aW} {k:aC} {c:List (Option aO)},(iF fp fb (fs.map (·.x_)) cb F n c e_ W/\Loc cb cb n n.heap.size (cD t 352) W)->ua.ok (rn lo cb) n ⟨v,[k],Ud⟩->Hs.rk fs a_ e_ d k->sW d k->Ty c+Ty (aG fs e_ d k (Ty c))<=1000000->
   Ue Un 234 #[bF cb,v] W λe w'=>e=fD/\(iF fp fb (fs.map (·.x_)) cb F n (c++(aG fs e_ d k (Ty c)).map Ua) e_ w'/\Loc cb cb n n.heap.size (cD t 352) w'):=λB Q hx hl hn=>
   (IH _ _ _ _ B.1.1 (Q.tf.below B.1.2.re) hx hl hn).mono (by grind [iF.then,Loc.step,iF])
  have ag:∀{W:aN},Loc cb cb n n.heap.size (cD t 352) W->T_ W (aL n.heap.size 1)=Ua (Q_ (bs a.op))/\T_ W (aL n.heap.size 3)=Ua (dH T2 (Us N))/\n.heap.size<W.heap.size:=(by grind [aA,Loc.i_])
  by_cases Y:a.op=[38,38]\/a.op=[124,124]
  .obtain⟨b,hb⟩:∃b:Bool,a.op=if b then [124,124]else [38,38]:=by
    rcases Y with e|e
    .exact⟨Uc,e⟩
    exact⟨Ud,e⟩
   rw[XH fs e_ d a _ b Z a2 hb r]at m ⊢
   generalize bn:aG fs e_ d Z (Ty f)=D at*;generalize bm:aG fs e_ d a2 (Ty f+Ty D+1)=U at*;simp only[ew,hJ]at m
   have L:=SE n cb (Ty f+Ty D) l b a.op T1 T2 (Us M) (Us N) (λW=>iF fp fb (fs.map (·.x_)) cb F n (f++D.map Ua++Ua (.rs b (Ty f+Ty D+1+Ty U+1))::(U.map Ua++[Ua .sk])) e_ W)
    (λW=>iF fp fb (fs.map (·.x_)) cb F n (f++D.map Ua) e_ W/\Loc cb cb n n.heap.size (cD t 352) W)
    (λW=>iF fp fb (fs.map (·.x_)) cb F n (f++D.map Ua++[Ub]) e_ W/\Loc cb cb n n.heap.size (cD t 352) W)
    (λW=>iF fp fb (fs.map (·.x_)) cb F n (f++D.map Ua++[Ub]++U.map Ua) e_ W/\Loc cb cb n n.heap.size (cD t 352) W)
    (λW=>iF fp fb (fs.map (·.x_)) cb F n (f++D.map Ua++[Ub]++U.map Ua++[Ua .sk]) e_ W/\Loc cb cb n n.heap.size (cD t 352) W) hb
    (by
      rw[J];have:=S (c:=f) ⟨ab,s⟩ G au ao G_
      rw[bn]at this;exact this)
    (λW j=>(by grind))
    (λW j=>(xD (o:=Ub) j.1.1 rfl G_).mono λe w' hr=>⟨by rw[hr.1,rZ],⟨hr.2.1,j.1.2.trans hr.2.2⟩,j.2.step hr.2.2⟩)
    (λW j=>(by grind))
    (λW j=>by
      have bb:Ty (f++D.map Ua++[Ub])=Ty f+Ty D+1:=by simp;exact aD
      have:=S j V H aq G_
      rw[bb,bm]at this;exact this)
    (λW j=>(xD (o:=Ua .sk) j.1.1 rfl kj).mono λe w' hr=>⟨G_,⟨hr.2.1,j.1.2.trans hr.2.2⟩,j.2.step hr.2.2⟩)
    (λW j=>by
      obtain⟨⟨ak,az⟩,hL⟩:=j;have e0:f++D.map Ua++[Ub]++U.map Ua++[Ua aO.sk]=(f++D.map Ua)++Ub::(U.map Ua++[Ua aO.sk]):=s_
      rw[e0]at ak;have ax:=ak.lt;obtain⟨g,c,p1,p2,p3,p4,p5⟩:=ak.patch;have bc:Ty (f++D.map Ua)=Ty f+Ty D:=(by simp)
      have bj:Ty ((f++D.map Ua)++Ub::(U.map Ua++[Ua aO.sk]))=Ty f+Ty D+1+Ty U+1:=G_
      rw[bc]at p2 p3 p5;rw[bj]at p1;refine⟨G_,G_,ax,g,_,c,p1,aD,aD,p2,p3,p4,λW' hS=>?_⟩
      obtain⟨q1,q2⟩:=p5 _ (.rs b (Ty f+Ty D+1+Ty U+1)) W' rfl hS;exact⟨q1,az.trans q2⟩)
   rw[J]at L;rw[<-J];refine(yV w cb l (bs a.op) T1 T2 (Us M) (Us N) _ (by rw[J,I];exact L)).mono ?_
   intro e W j;have e9:f++(D++[aO.rs b (Ty f+Ty D+1+Ty U+1)]++U++[aO.sk]).map Ua=f++D.map Ua++Ua (.rs b (Ty f+Ty D+1+Ty U+1))::(U.map Ua++[Ua .sk]):=s_
   rw[e9];exact C j
  have hn1 :=λe=>Y (ed e)
  have hn2 :=λe=>Y (ec e)
  rw[RI fs e_ d a _ q hn1 hn2,r,UP]at m ⊢
  simp only[ew,hJ]at m
  have L:=SF n cb l a.op T1 T2 (Us M) (Us N) (λW=>iF fp fb (fs.map (·.x_)) cb F n (f++(aG fs e_ d Z (Ty f)).map Ua++(aG fs e_ d a2 (Ty f+Ty (aG fs e_ d Z (Ty f)))).map Ua++[Ua (.binary a.op)]) e_ W) _ _ hn1 hn2
   (by rw[J];exact S (c:=f) G_ G au ao aD)
   (λW j=>ag j.2)
   (λW j=>S j V H aq (by rw[rZ];exact aD))
   (λW j=>(by grind))
   (λW j=>by obtain⟨ar,bv⟩:=j;rw[rZ]at ar;exact tg (i:=.binary a.op) ar aJ (by simp only[rZ];exact aD))
  rw[J]at L;rw[<-J];refine(yV w cb l (bs a.op) T1 T2 (Us M) (Us N) _ (by rw[J,I];exact L)).mono ?_
  intro e W j;rw[fw,fw,<-gw,<-gw];exact C j
 exfalso
 have br:∀x∈([[118,97,114],[115,101,116],[105,102],[119,104,105,108,101],[114,101,116,117,114,110],[112,114,105,110,116],[100,111]]:cY),a.op≠x:=λx hx e=>by
  have hc:∀y∈([[48],[115],[98,111,111,108],[110,97,109,101],[108,105,115,116],[105,110,100,101,120],[45,120],[33,120],[99,97,108,108],[124,124],[38,38],[61,61],[33,61],[60],[60,61],[43],[45],[42],[47],[37]]:cY),a.op≠y:=λy hy e2=>by rw[e]at e2;subst e2;simp at hx hy;rcases hx with rfl|rfl|rfl|rfl|rfl|rfl|rfl<;>simp at hy
  rcases am with ⟨X,_⟩|⟨X,_⟩|⟨X,_⟩|⟨X,_⟩|⟨X,_⟩|⟨X,_⟩|⟨X,_⟩
  .grind
  .grind
  .grind
  .grind
  .grind
  .exact hc _ s_ X
  rcases oT X with e|e|e|e|e|e|e|e|e|e|e<;>exact hc _ s_ e
 grind
theorem yA(c:Ty e_<=1000000)(a:Ty fs<=1000000)(b:∀k,k<Ty fs->fp k=bF (fb k)):∀d,KV fp fb fs cb lo F a_ e_ d
 |0=>λ_ _ _ _ _ _ h=>h.elim
 |d+1=>Q8 (yA c a b d) c a b
end
def C7(l:Int)(a b c:aW)(w:aN):(Go.method 596 329 (Us #[I_ l,a,b,c]) "Line").run Un w=.ok (145,Us #[I_ l]) w:=k_
def q8(l:Int)(a b c:aW)(w:aN):(Go.method 596 332 (Us #[I_ l,a,b,c]) "Line").run Un w=.ok (145,Us #[I_ l]) w:=k_
def Jq(l:Int)(a b c:aW)(w:aN):(Go.method 596 334 (Us #[I_ l,a,b,c]) "Line").run Un w=.ok (145,Us #[I_ l]) w:=k_
def Ma(l:Int)(a b:aW)(w:aN):(Go.method 596 336 (Us #[I_ l,a,b]) "Line").run Un w=.ok (145,Us #[I_ l]) w:=k_
def p9(l:Int)(a:aW)(w:aN):(Go.method 596 338 (Us #[I_ l,a]) "Line").run Un w=.ok (145,Us #[I_ l]) w:=k_
def Nc(l:Int)(a:aW)(w:aN):(Go.method 596 339 (Us #[I_ l,a]) "Line").run Un w=.ok (145,Us #[I_ l]) w:=k_
def Se(l:Int)(a b:aW)(w:aN):(Go.method 596 341 (Us #[I_ l,a,b]) "Line").run Un w=.ok (145,Us #[I_ l]) w:=k_
def rN(a:aW)(w:aN):(callFunc 145 #[a]).run Un w=.ok (.enter 145 #[a]) w:=k_
def kU(l:Int)(w:aN):Ue Un 145 #[Us #[I_ l]] w λe w'=>e=bY (I_ l)/\w'=eH w #[I_ l] 177:=by
 go_in
 go_wp2
 go_ret;exact⟨aJ,aJ⟩
def yO(w:aN)(b a:Nat)(l:Int)(p:Option Uj)(g:Ui)(f:aW)(P:mL)(Q:mL)(R:mL)(y:b<H_ w)(x:dP w b 2 (Ut p))
 (n:Ul (Ue Un 150 #[bF b,dH 276 (Us #[I_ l,Ut p])] (eH w.drew #[I_ l] 177) λe w'=>e=bY (I_ a)/\Q w'))
 (s:Ul (∀W,Q W->Ue Un 234 #[bF b,dH g f] (eH W #[I_ l,dH g f] 338) λe w'=>e=fD/\R w'))
 (r:Ul (∀W,R W->Ue Un 150 #[bF b,dH 267 (Us #[])] W λe w'=>(∃k:Nat,e=bY (I_ k))/\P w')):
 Ue Un 203 #[bF b,dH 338 (Us #[I_ l,dH g f])] w λe w'=>e=fD/\P w':=by
 have v:=p9;have q:=rN;go_in
 go_wp2
 go_region_law (go_simp;first|(go_at_call 145;refine oN (kU l _) ?_)|(go_at_call 150;refine rf n λz i=>?_))
 all_goals
  have d:=aB (s _ i);clear i;go_wp2_with fail;refine rf d λu j=>?_
  have c:=aB (r _ j);clear j;go_wp2_with fail;apply c.mono
  rintro e t ⟨⟨m,rfl⟩,o⟩;go_wp2
  go_end0;exact⟨aJ,o⟩
def PX(w:aN)(b a:Nat)(l:Int)(p:Option Uj)(g:Ui)(f:aW)(P:mL)(Q:mL)(R:mL)(y:b<H_ w)(x:dP w b 2 (Ut p))
 (n:Ul (Ue Un 150 #[bF b,dH 276 (Us #[I_ l,Ut p])] (eH w.drew #[I_ l] 177) λe w'=>e=bY (I_ a)/\Q w'))
 (s:Ul (∀W,Q W->Ue Un 234 #[bF b,dH g f] (eH W #[I_ l,dH g f] 339) λe w'=>e=fD/\R w'))
 (r:Ul (∀W,R W->Ue Un 150 #[bF b,dH 373 (Us #[])] W λe w'=>(∃k:Nat,e=bY (I_ k))/\P w')):
 Ue Un 203 #[bF b,dH 339 (Us #[I_ l,dH g f])] w λe w'=>e=fD/\P w':=by
 have v:=Nc;have q:=rN;go_in
 go_wp2
 go_region_law (go_simp;first|(go_at_call 145;refine oN (kU l _) ?_)|(go_at_call 150;refine rf n λz i=>?_))
 all_goals
  have d:=aB (s _ i);clear i;go_wp2_with fail;refine rf d λu j=>?_
  have c:=aB (r _ j);clear j;go_wp2_with fail;apply c.mono
  rintro e t ⟨⟨m,rfl⟩,o⟩;go_wp2
  go_end0;exact⟨aJ,o⟩
def UC(w:aN)(b a:Nat)(l:Int)(p:Option Uj)(g:ByteArray)(x:Option Uj)(n c:Nat)(P:mL)(Q:mL)(R:mL)(A:b<H_ w)(z:dP w b 2 (Ut p))
 (o:Ul (Ue Un 150 #[bF b,dH 276 (Us #[I_ l,Ut p])] (eH w.drew #[I_ l] 177) λe w'=>e=bY (I_ a)/\Q w'))
 (t:Ul (∀W,Q W->Ue Un 254 #[bF b,Us #[I_ l,Q_ g,P_ x n c]] (eH W #[I_ l,Q_ g,P_ x n c] 341) λe w'=>e=fD/\R w'))
 (s:Ul (∀W,R W->Ue Un 150 #[bF b,dH 374 (Us #[])] W λe w'=>(∃k:Nat,e=bY (I_ k))/\P w')):
 Ue Un 203 #[bF b,dH 341 (Us #[I_ l,Q_ g,P_ x n c])] w λe w'=>e=fD/\P w':=by
 have y:=Se;have r:=rN;go_in
 go_wp2
 go_region_law (go_simp;first|(go_at_call 145;refine oN (kU l _) ?_)|(go_at_call 150;refine rf o λB i=>?_))
 all_goals
  have f:=aB (t _ i);clear i;go_wp2_with fail;refine rf f λv j=>?_
  have d:=aB (s _ j);clear j;go_wp2_with fail;apply d.mono
  rintro e u ⟨⟨m,rfl⟩,q⟩;go_wp2
  go_end0;exact⟨aJ,q⟩
def NI(w:aN)(c b:Nat)(l:Int)(p:Option Uj)(i:Ui)(f:aW)(m j:Option Uj)(k n g a:Nat)(P:mL)(Q:mL)(y:c<H_ w)(x:dP w c 2 (Ut p))
 (q:Ul (Ue Un 150 #[bF c,dH 276 (Us #[I_ l,Ut p])] (eH w.drew #[I_ l] 177) λe w'=>e=bY (I_ b)/\Q w'))
 (t:Ul (∀W,Q W->Ue Un 252 #[bF c,Us #[I_ l,dH i f,P_ m k g,P_ j n a]] (eH W #[I_ l,dH i f,P_ m k g,P_ j n a] 334) λe w'=>e=fD/\P w')):
 Ue Un 203 #[bF c,dH 334 (Us #[I_ l,dH i f,P_ m k g,P_ j n a])] w λe w'=>e=fD/\P w':=by
 have v:=Jq;have r:=rN;go_in
 go_wp2
 go_region_law (go_simp;first|(go_at_call 145;refine oN (kU l _) ?_)|(go_at_call 150;refine rf q λz o=>?_))
 all_goals
  have d:=aB (t _ o);clear o;go_wp2_with fail;refine rf d λu s=>?_
  go_wp2
  go_end0;exact⟨aJ,s⟩
def PW(w:aN)(b a:Nat)(l:Int)(p:Option Uj)(g:Ui)(d:aW)(j:Option Uj)(i f:Nat)(P:mL)(Q:mL)(u:b<H_ w)(t:dP w b 2 (Ut p))
 (m:Ul (Ue Un 150 #[bF b,dH 276 (Us #[I_ l,Ut p])] (eH w.drew #[I_ l] 177) λe w'=>e=bY (I_ a)/\Q w'))
 (q:Ul (∀W,Q W->Ue Un 253 #[bF b,Us #[I_ l,dH g d,P_ j i f],I_ a] (eH W #[I_ l,dH g d,P_ j i f] 336) λe w'=>e=fD/\P w')):
 Ue Un 203 #[bF b,dH 336 (Us #[I_ l,dH g d,P_ j i f])] w λe w'=>e=fD/\P w':=by
 have s:=Ma;have n:=rN;go_in
 go_wp2
 go_region_law (go_simp;first|(go_at_call 145;refine oN (kU l _) ?_)|(go_at_call 150;refine rf m λv k=>?_))
 all_goals
  have c:=aB (q _ k);clear k;go_wp2_with fail;refine rf c λr o=>?_
  go_wp2
  go_end0;exact⟨aJ,o⟩
def IG(w:aN)(a c:Nat)(l:Int)(p:Option Uj)(v:Int)(f:ByteArray)(r:Ui)(j:aW)(n:Nat)(P:mL)(Q:mL)(R i:Nat->World->Prop)(N:a<H_ w)(M:dP w a 2 (Ut p))
 (x:Ul (Ue Un 150 #[bF a,dH 276 (Us #[I_ l,Ut p])] (eH w.drew #[I_ l] 177) λe w'=>e=bY (I_ c)/\Q w'))
 (F:Ul (∀W,Q W->Ue Un 234 #[bF a,dH r j] (eH W #[I_ l,I_ v,Q_ f,dH r j] 329) λe w'=>e=fD/\R (H_ W) w'))
 (y:Ul (∀b W,R b W->Ue Un 202 #[bF a] W λe w'=>e=bY (I_ n)/\w'=W))
 (D:Ul (∀b W,R b W->Ue Un 150 #[bF a,dH 368 (Us #[I_ n])] W λe w'=>(∃k:Nat,e=bY (I_ k))/\i b w'))
 (z:Ul (∀b W,i b W->dP W b 2 (Q_ f)/\b<H_ W))
 (B:Ul (∀b W,i b W->Ue Un 148 #[bF a,Q_ f] W λe w'=>e=fD/\P w')):
 Ue Un 203 #[bF a,dH 329 (Us #[I_ l,I_ v,Q_ f,dH r j])] w λe w'=>e=fD/\P w':=by
 have K:=C7;have A:=rN;go_in
 go_wp2
 go_region_law (go_simp;first|(go_at_call 145;refine oN (kU l _) ?_)|(go_at_call 150;refine rf x λE u=>?_))
 all_goals
  have d:=aB (F _ u);generalize I:H_ E=b at d;clear u;go_wp2_with fail;refine rf d λH s=>?_
  have t:=aB (y _ _ s);have g:=aB (D _ _ s);clear s;go_wp2_with fail;refine oN t ?_;go_wp2_with fail;apply g.mono
  rintro e O ⟨⟨m,rfl⟩,o⟩;obtain⟨L,G⟩:=z _ _ o;have q:=aB (B _ _ o);clear o;go_wp2_with fail;refine rf q λJ C=>?_
  go_wp2
  go_end0;exact⟨aJ,C⟩
def LL(w:aN)(a d:Nat)(l:Int)(p:Option Uj)(i:ByteArray)(x:Option Uj)(n c k:Nat)(q:Ui)(o:aW)(P:mL)(Q:mL)(R j:Nat->World->Prop)(U:a<H_ w)(T:dP w a 2 (Ut p))
 (z:Ul (Ue Un 150 #[bF a,dH 276 (Us #[I_ l,Ut p])] (eH w.drew #[I_ l] 177) λe w'=>e=bY (I_ d)/\Q w'))
 (H:Ul (∀W,Q W->Ue Un 250 #[bF a,P_ x n c] (eH W #[I_ l,Q_ i,P_ x n c,dH q o] 332) λe w'=>e=fD/\R (H_ W) w'))
 (A:Ul (∀b W,R b W->dP W b 3 (dH q o)/\b<H_ W))
 (B:Ul (∀b W,R b W->Ue Un 234 #[bF a,dH q o] W λe w'=>e=fD/\j b w'))
 (u:Ul (∀b W,j b W->dP W b 1 (Q_ i)/\dP W b 2 (P_ x n c)/\b<H_ W))
 (D:Ul (∀b W f,j b W->bV W f->Ue Un 251 #[bF a,Q_ i] f λe w'=>e=bY (I_ k)/\w'=f))
 (F:Ul (∀b W f,j b W->bV W f->Ue Un 150 #[bF a,dH 370 (Us #[I_ k,I_ n])] f λe w'=>(∃k:Nat,e=bY (I_ k))/\P w')):
 Ue Un 203 #[bF a,dH 332 (Us #[I_ l,Q_ i,P_ x n c,dH q o])] w λe w'=>e=fD/\P w':=by
 have N:=q8;have C:=rN;go_in
 go_wp2
 go_region_law (go_simp;first|(go_at_call 145;refine oN (kU l _) ?_)|(go_at_call 150;refine rf z λG v=>?_))
 all_goals
  have g:=aB (H _ v);generalize M:H_ G=b at g;clear v;go_wp2_with fail;refine rf g λK t=>?_
  obtain⟨S,J⟩:=A _ _ t;have s:=aB (B _ _ t);clear t;go_wp2_with fail;refine rf s λI r=>?_
  obtain⟨O,V,X⟩:=u _ _ r;have y:=aB r;clear r;go_wp2
  go_region_law (go_simp;first|(go_at_call 251;refine oN (D _ _ _ y (bV.drew _)) ?_)|(go_at_call 150;apply (F _ _ _ y (bV.drew _)).mono;rintro e L ⟨⟨m,rfl⟩,E⟩))
  all_goals
   go_wp2
   go_end0;exact⟨aJ,E⟩
def FQ(w:aN)(c g n a:Nat)(C:Nat->World->Prop)(f:n<=1000000)(b:C 0 w)
 (HC:Ul (∀j W,C j W->j<n->g<H_ W/\∃t z,T_ W (aL g j)=Ua (Uv t z)/\Ue Un 203 #[bF c,Uv t z] W λe w'=>e=fD/\C (j+1) w')):
 Ue Un 149 #[bF c,Uq (Ua (aL g 0)) n a] w λe w'=>e=fD/\C n w':=by
 have d:=aB b;clear b;go_in
 go_wp2
 go_loopg [5,8] n (λgk _ i wr=>∃j:Nat,j+gk=n/\i=I_ j/\C j wr)
 case atStart=>grind [d7]
 case round=>
  exact TF
def IF(w:aN)(a:Nat):Ue Un 149 #[bF a,bO] w λe w'=>e=fD/\w'=w:=by
 go_in
 go_wp2
 go_loopg [5,8] 0 (λ_ _ i wr=>i=I_ 0/\wr=w)
 case atStart=>simp
 case round=>
  go_wp2
  go_end0;simp
def R6(w:aN)(a:Nat)(p x:Option Uj)(n c:Nat)(P Q:mL)(m:dP w a 2 (Ut p))
 (i:Ul (Ue Un 149 #[bF a,P_ x n c] w λe w'=>e=fD/\Q w'))
 (d:Ul (∀W,Q W->(∃u,dP W a 2 u)/\W.frozen? (aL a 2)=Uc/\a<H_ W/\P (Tz W (aL a 2) (Ut p)))):
 Ue Un 283 #[bF a,P_ x n c] w λe w'=>e=fD/\P w':=by
 go_in
 go_wp2_with fail;refine rf i λj f=>?_
 obtain⟨⟨u,k⟩,o,l,b⟩:=d _ f;have g:=aB b;go_wp2
 go_end0;exact⟨aJ,g⟩
def YO(w:aN)(a d f:Nat)(l:Int)(C:Ui)(B:aW)(r m:Option Uj)(p q o k:Nat)(P O G H I t N:mL)
 (HX:Ul (Ue Un 234 #[bF a,dH C B] (eH w #[I_ l,dH C B,P_ r p o,P_ m q k] 334) λe w'=>e=fD/\O w'))
 (y:Ul (∀W,O W->Ue Un 150 #[bF a,.nilIface] W λe w'=>e=bY (I_ d)/\G w'))
 (z:Ul (∀W,G W->dP W (H_ w) 2 (P_ r p o)/\H_ w<H_ W))
 (HT:Ul (∀W,G W->Ue Un 283 #[bF a,P_ r p o] W λe w'=>e=fD/\H w'))
 (v:Ul (∀W,H W->Ue Un 150 #[bF a,.nilIface] W λe w'=>e=bY (I_ f)/\I w'))
 (F:Ul (∀W,I W->a<H_ W/\∃g n c,dP W a 1 (P_ (Ua (aL g 0)) n c)/\d<n/\n<=1000000/\(∃u,dP W g d u)/\W.frozen? (aL g d)=Uc/\g<H_ W/\∀i,bV (Tz W (aL g d) (dH 407 (Us #[I_ n]))) i->t i))
 (E:Ul (∀W,t W->dP W (H_ w) 3 (P_ m q k)/\H_ w<H_ W))
 (HL:Ul (∀W,t W->Ue Un 283 #[bF a,P_ m q k] W λe w'=>e=fD/\N w'))
 (s:Ul (∀W,N W->a<H_ W/\∃g n c,dP W a 1 (P_ (Ua (aL g 0)) n c)/\f<n/\n<=1000000/\(∃u,dP W g f u)/\W.frozen? (aL g f)=Uc/\g<H_ W/\∀i,bV (Tz W (aL g f) (dH 408 (Us #[I_ n]))) i->P i)):
 Ue Un 252 #[bF a,Us #[I_ l,dH C B,P_ r p o,P_ m q k]] w λe w'=>e=fD/\P w':=by
 go_in
 go_wp2_with fail;refine rf HX λw1 M=>?_
 have V:=aB (y _ M);clear M;go_wp2_with fail;refine rf V λw2 A=>?_
 obtain⟨b1,b2⟩:=z _ A;have H2:=aB (HT _ A);clear A;go_wp2_with fail;refine rf H2 λw3 J=>?_
 have H3:=aB (v _ J);clear J;go_wp2_with fail;refine rf H3 λw4 K=>?_
 obtain⟨f3,g,n,c,f4,f5,f6,⟨u,f7⟩,f8,f9,j⟩:=F _ K;have HP:=aB j;have i1:(0:Int)<=(d:Int):=aD;have i2:(d:Int)<(n:Int):=aD;clear K j;go_wp2
 go_region
 all_goals
  have x:=HP _ (bV.drew _);obtain⟨d1,d2⟩:=E _ x;have T:=aB (HL _ x);clear x;generalize L:(Tz w4 (aL g d) (dH 407 (Us #[I_ n]))).drew=w5 at*;have HW:=aB L;clear L;go_wp2_with fail;refine rf T λw6 Q=>?_
  obtain⟨ae,g',X,c',Z,ad,U,⟨u',ac⟩,aa,S,b⟩:=s _ Q;have D:=aB b;have ab:(0:Int)<=(f:Int):=aD;have Y:(f:Int)<(X:Int):=aD;clear Q b;go_wp2
  go_region
  all_goals
   go_wp2
   go_end0;exact⟨aJ,D _ (bV.drew _)⟩
def Ij(w:aN)(b k a:Nat)(l:Int)(r:Ui)(p:aW)(j:Option Uj)(i f:Nat)(P C v x y:mL)
 (I:Ul (Ue Un 234 #[bF b,dH r p] (eH w #[I_ l,dH r p,P_ j i f] 336) λe w'=>e=fD/\C w'))
 (q:Ul (∀W,C W->Ue Un 150 #[bF b,.nilIface] W λe w'=>e=bY (I_ k)/\v w'))
 (t:Ul (∀W,v W->dP W (H_ w) 2 (P_ j i f)/\H_ w<H_ W))
 (J:Ul (∀W,v W->Ue Un 283 #[bF b,P_ j i f] W λe w'=>e=fD/\x w'))
 (E:Ul (∀W,x W->Ue Un 150 #[bF b,dH 408 (Us #[I_ a])] W λe w'=>(∃k:Nat,e=bY (I_ k))/\y w'))
 (s:Ul (∀W,y W->b<H_ W/\∃g n c,dP W b 1 (P_ (Ua (aL g 0)) n c)/\k<n/\n<=1000000/\(∃u,dP W g k u)/\W.frozen? (aL g k)=Uc/\g<H_ W/\∀D,bV (Tz W (aL g k) (dH 407 (Us #[I_ n]))) D->P D)):
 Ue Un 253 #[bF b,Us #[I_ l,dH r p,P_ j i f],I_ a] w λe w'=>e=fD/\P w':=by
 go_in
 go_wp2_with fail;refine rf I λL A=>?_
 have G:=aB (q _ A);clear A;go_wp2_with fail;refine rf G λw2 o=>?_
 obtain⟨M,V⟩:=t _ o;have H:=aB (J _ o);clear o;go_wp2_with fail;refine rf H λO B=>?_
 have F:=aB (E _ B);clear B;go_wp2_with fail;apply F.mono
 rintro e K ⟨⟨m,rfl⟩,z⟩;obtain⟨f3,g,n,c,Z,U,X,⟨u,S⟩,N,f9,d⟩:=s _ z;have T:=aB d;have Y:(0:Int)<=(k:Int):=aD;have Q:(k:Int)<(n:Int):=aD;clear z d;go_wp2
 go_region
 all_goals
  go_wp2
  go_end0;grind [d7,bV.drew]
