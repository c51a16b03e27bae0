import Derived.Test.YtjhbbdpfkccohaaGreatDoorB02
import Derived.Test.YtjhbbdpfkccohaaGreatDoorP02
set_option linter.all false
set_option maxRecDepth 100000
set_option maxHeartbeats 4000000
open List renaming length->Ty
open Go.World renaming setCell->Tz,alloc->T6,cell?->T_
open Option renaming some->Ua,none->Ub
open Bool renaming false->Uc,true->Ud
open Go renaming Calls->Ue,Value->Uf,World->Ug
open Go.Value renaming slice->Uq,string->Ur,agg->Us,bool->Uw,int->Ux
open Go.Obj renaming cells->Uy
namespace Go.Proofs.YtjhbbdpfkccohaaGreatDoor
open Hs
open _root_.Go.Proofs.Tryz
open Go.RowKit
variable{c:Array Uf}{l:List aE}{A D:Nat}{a:Prop}{n:TypeId}{o p:Uf}{R:Ug}{b m:aE}{C:aN}{z:bN}
structure SV where
 t:Nat
 x1:Option Addr
 x2:Option Addr
 x3:Option Addr
 n1:Nat
 n2:Nat
 n3:Nat
 c1:Nat
 c2:Nat
 c3:Nat
 q:Nat
def SV.cells(s:SV):Array Uf:= #[I_ s.t,Uq s.x1 s.n1 s.c1,Uq s.x2 s.n2 s.c2,Uq s.x3 s.n3 s.c3,I_ s.q]
def SV.val(s:SV):Uf:=Us #[I_ s.t,Uq s.x1 s.n1 s.c1,Uq s.x2 s.n2 s.c2,Uq s.x3 s.n3 s.c3,I_ s.q]
def jR(W:aN)(b:Nat)(s:SV):aN:=Tz (Tz (Tz (Tz (Tz W (aL b 0) (I_ s.t)) (aL b 1) (Uq s.x1 s.n1 s.c1)) (aL b 2) (Uq s.x2 s.n2 s.c2)) (aL b 3) (Uq s.x3 s.n3 s.c3)) (aL b 4) (I_ s.q)
def DD{s:SV}{z:Nat × Nat}(h:C.heap[A]?=Ua (Uy c n z)):(jR C A s).heap[A]?=Ua (Uy (((((c.setIfInBounds 0 (I_ s.t)).setIfInBounds 1 (P_ s.x1 s.n1 s.c1)).setIfInBounds 2 (P_ s.x2 s.n2 s.c2)).setIfInBounds 3 (P_ s.x3 s.n3 s.c3)).setIfInBounds 4 (I_ s.q)) n z):=
 (by grind [aP,jR])
def Ms{s:SV}{z:Nat × Nat}(h:C.heap[A]?=Ua (Uy c n z))(a:c.size=5):(jR C A s).heap[A]?=Ua (Uy s.cells n z):=by
 rw[DD h];obtain⟨l⟩:=c;match l,a with
 |[e,f,g,i,d],_=>rfl
def mO{W V:aN}{s:SV}(h:W.heap[A]?=Ua (Uy c n))(e:5<=c.size)(d:V.heap[A]?=(jR W A s).heap[A]?):T_ V (aL A 0)=Ua (I_ s.t)/\T_ V (aL A 1)=Ua (Uq s.x1 s.n1 s.c1)/\T_ V (aL A 2)=Ua (Uq s.x2 s.n2 s.c2)/\T_ V (aL A 3)=Ua (Uq s.x3 s.n3 s.c3)/\T_ V (aL A 4)=Ua (I_ s.q):=by
 have a:=d.trans (DD (s:=s) h);obtain⟨l⟩:=c;rcases l with _|⟨g,_|⟨i,_|⟨j,_|⟨k,_|⟨f,r⟩⟩⟩⟩⟩
 case cons.cons.cons.cons.cons=>
  exact⟨aA a s_,aA a s_,aA a s_,aA a s_,aA a s_⟩
 all_goals simp at e
theorem gZ(W:aN)(b:Nat)(s:SV)(k:Nat)(h:k≠b):(jR W b s).heap[k]?=W.heap[k]?:=by unfold jR;grind [em]
theorem nZ(W:aN)(b:Nat)(s:SV):(jR W b s).heap.size=H_ W/\(jR W b s).os=W.os/\(jR W b s).tape=W.tape/\(jR W b s).output=W.output:=by grind [World.setCell,jR]
attribute [local go_sem] Oper.semAt_some
def SV.val_inj{a b:SV}(h:a.val=b.val):a=b:=by cases a;cases b;grind [SV.val]
def IK(w:aN)(O:Nat)(s:SV)(P N:SV->Bool->Ug->Prop)
 (t:Hid (Ue prog 174 #[s.val] (T6 (T6 w (cD s.cells 57)) (cD #[I_ 0,bO,bO,bO,I_ 0] 57)) λe f=>∃a ok,e=bY (.tuple #[SV.val a,Uw ok])/\N a ok f))
 (u:Hid (∀a W,N a Uc W->(∃c,W.heap[w.heap.size+1]?=Ua (cD c 57)/\5<=c.size)/\P a Uc (T6 (jR W (w.heap.size+1) a) (cD a.cells 57))))
 (I:Hid (∀a W,N a Ud W->Ue prog 18 #[bF O,a.val] (T6 W (cD a.cells 57)) λe f=>e=fD/\f.heap[W.heap.size]?=Ua (cD a.cells 57)/\(∃c,f.heap[w.heap.size+1]?=Ua (cD c 57)/\5<=c.size)/\w.heap.size+1<W.heap.size/\P a Ud (jR f (w.heap.size+1) a))):
 Ue prog 116 #[bF O,s.val] w λe f=>∃a ok,e=bY (.tuple #[SV.val a,Uw ok])/\P a ok f:=by
 unfold SV.val SV.cells at t;unfold SV.val;go_in
 go_wp2_with fail;refine t.mono ?_;rintro e o ⟨a,ok,rfl,r⟩;cases ok
 .obtain⟨⟨c,b,m⟩,p⟩:=u _ _ r;have n:=aB p;unfold jR SV.cells at n;have A:=aA (i:=0) b (fh aD);have G:=aA (i:=1) b (fh aD);have y:=aA (i:=2) b (fh aD);have M:=aA (i:=3) b (fh aD);have F:=aA (i:=4) b (fh aD);have x:=aF (i:=0) b;have z:=aF (i:=1) b;have J:=aF (i:=2) b;have L:=aF (i:=3) b;have K:=aF (i:=4) b;have X:=aH b;have n1:o.heap.size≠w.heap.size+1:=aD;have q:=mO (W:=o) (V:=T6 (jR o (w.heap.size+1) a) (cD a.cells 57)) (s:=a) b m ((by grind [eh,nZ]))
  have j:=aB q;unfold jR SV.cells at j;clear p r t u I b q;go_wp2_with fail;have d:=j.out;have k:=n.out;clear j n A G y M F x z J L K;generalize (Tz (Tz (Tz (Tz (Tz o (aL (w.heap.size+1) 0) (I_ a.t)) (aL (w.heap.size+1) 1) (P_ a.x1 a.n1 a.c1)) (aL (w.heap.size+1) 2) (P_ a.x2 a.n2 a.c2)) (aL (w.heap.size+1) 3) (P_ a.x3 a.n3 a.c3)) (aL (w.heap.size+1) 4) (I_ a.q)).alloc (cD #[I_ a.t,P_ a.x1 a.n1 a.c1,P_ a.x2 a.n2 a.c2,P_ a.x3 a.n3 a.c3,I_ a.q] 57)=Z at d k ⊢
  obtain⟨B,C,E,H,D⟩:=d;exact bodyPost_ret (v:=.tuple #[Us #[I_ a.t,P_ a.x1 a.n1 a.c1,P_ a.x2 a.n2 a.c2,P_ a.x3 a.n3 a.c3,I_ a.q],Uw Uc]) (by simp[results,results116,go_sem,B,C,E,H,D]) rfl G_
 have g:=aB (I _ _ r);unfold SV.val SV.cells at g;clear r t u I;go_wp2_with fail;refine g.mono ?_;rintro e Q ⟨rfl,l,⟨c,b,m⟩,l1,p⟩;have n:=aB p;unfold jR at n;have Y:=aA (i:=0) l aJ;have U:=aA (i:=1) l aJ;have S:=aA (i:=2) l aJ;have T:=aA (i:=3) l aJ;have d4:=aA (i:=4) l aJ;have A:=aA (i:=0) b (fh aD);have G:=aA (i:=1) b (fh aD);have y:=aA (i:=2) b (fh aD);have M:=aA (i:=3) b (fh aD);have F:=aA (i:=4) b (fh aD);have x:=aF (i:=0) b;have z:=aF (i:=1) b;have J:=aF (i:=2) b;have L:=aF (i:=3) b;have K:=aF (i:=4) b;have X:=aH b;have l4:=aH l;have n1:o.heap.size≠w.heap.size+1:=aD;have q:=mO (W:=Q) (s:=a) b m aJ;have j:=aB q;unfold jR at j;clear p g l b q;go_wp2_with fail;have d:=j.out;have k:=n.out;clear j n A G y M F x z J L K Y U S T d4;generalize (Tz (Tz (Tz (Tz Q (aL (w.heap.size+1) 0) (I_ a.t)) (aL (w.heap.size+1) 1) (P_ a.x1 a.n1 a.c1)) (aL (w.heap.size+1) 2) (P_ a.x2 a.n2 a.c2)) (aL (w.heap.size+1) 3) (P_ a.x3 a.n3 a.c3)).setCell (aL (w.heap.size+1) 4) (I_ a.q)=Z at d k ⊢
 obtain⟨B,C,E,H,D⟩:=d;exact bodyPost_ret (v:=.tuple #[Us #[I_ a.t,P_ a.x1 a.n1 a.c1,P_ a.x2 a.n2 a.c2,P_ a.x3 a.n3 a.c3,I_ a.q],Uw Ud]) (by simp[results,results116,go_sem,B,C,E,H,D]) rfl G_
section
variable {P:Program} {ops:Array Oper} {Q:Exit->Act->Ug->Prop} {md:Region.Mode} {S:mL} {o:Oper} {v:aW} {fuel:Nat} {listed:Array Bool} {a:Act} {w:aN}
def eU(i:Nat)(h:wpAnyH P md ops Q S fuel (listed.setIfInBounds i Ud) (a.put o.dst v) w)(l:ops[i]?=Ua o:=by rfl)(j:Region.noSelect ops=Ud:=by kernel_rfl)(d:Region.free md ops listed i=Ud:=by kernel_rfl)(g:(Region.ready md ops listed).contains i=Ud:=by kernel_rfl)
 (k:∀c a w,Q (.panic c) (a.put o.dst v) w->Q (.panic c) a w:=by exact λ_ _ _ h=>h) (e:YieldsIf P ops S o v a:=by (refine ed ⟨r_,?_⟩;intro w b;(try dsimp only at b);go_simp<;>with_reducible rfl)) (f:S w:=by assumption):wpAnyH P md ops Q S (fuel+1) listed a w:=wpAnyH_take l j d g k e f h
def sN(i:Nat)(h:∀b:Act->Ug->Prop,Shut (∀a w,S w->(S w->wpAnyH P md ops Q S fuel (listed.setIfInBounds i Ud) a w)->b a w)->if Region.wanted o (yielded ops a.tmps)=Ud then Oper.wp P o a w b Q else b (a.put o.dst undef) w)(c:ops[i]?=Ua o:=by rfl)(d:Region.ready md ops listed=[i]:=by kernel_rfl):wpAnyH P md ops Q S (fuel+1) listed a w:=wpAnyH_ready d s_ (AllReadyH.cons c h AllReadyH.nil)
def Az(i j:Nat){c:Oper}(h:∀b:Act->Ug->Prop,Shut (∀a w,S w->(S w->wpAnyH P md ops Q S fuel (listed.setIfInBounds i Ud) a w)->b a w)->if Region.wanted o (yielded ops a.tmps)=Ud then Oper.wp P o a w b Q else b (a.put o.dst undef) w)
 (e:∀b:Act->Ug->Prop,Shut (∀a w,S w->(S w->wpAnyH P md ops Q S fuel (listed.setIfInBounds j Ud) a w)->b a w)->if Region.wanted c (yielded ops a.tmps)=Ud then Oper.wp P c a w b Q else b (a.put c.dst undef) w) (f:ops[i]?=Ua o:=by rfl) (d:ops[j]?=Ua c:=by rfl) (g:Region.ready md ops listed=[i,j]:=by kernel_rfl):wpAnyH P md ops Q S (fuel+1) listed a w:=wpAnyH_ready g s_ (AllReadyH.cons f h (AllReadyH.cons d e AllReadyH.nil))
end
def LV:Nat->(Nat->Prop)->Ug->Uf->List aE->Prop
 |0,_,_,lv,l=>l=[]/\lv=bO
 |d+1,F,w,lv,l=>(l=[]/\lv=bO)\/∃g o cap cur,l≠[]/\lv=Uq (Ua (aL g o)) (Ty l) cap/\Ty l<=cap/\F g/\w.heap[g]?=Ua (Uy cur 130)/\
   ∀i (h:i<Ty l),∃kv,cur[o+i*4]?=Ua (I_ l[i].c_)/\cur[o+i*4+1]?=Ua (I_ l[i].n)/\cur[o+i*4+2]?=Ua (Ur (bs l[i].s))/\cur[o+i*4+3]?=Ua kv/\LV d F w kv l[i].l
def RV(d:Nat)(F:bN)(w:aN)(v:aW)(a:aE):Prop:=
 ∃lv,v=Us #[I_ a.c_,I_ a.n,Ur (bs a.s),lv]/\LV d F w lv a.l
theorem LV.empty(d:Nat)(F:bN)(w:aN):LV d F w (bO) []:=by
 cases d with
 |zero=>exact⟨aJ,aJ⟩
 |succ d=>exact ed s_
theorem LV.mono{F G:bN}{w:aN}(k:∀b,F b->G b):∀{d e:Nat} {v:aW} {l:List aE},LV d F w v l->d<=e->LV e G w v l
 |0,e,v,l,⟨j,f⟩,_=>by grind [LV.empty]
 |d+1,0,_,_,_,h=>by omega
 |d+1,e+1,v,l,h,q=>by
  rcases h with h|⟨g,o,a,c,n,j,f,u,r,s⟩
  .exact ed h
  refine ec ⟨g,o,a,c,n,j,f,k _ u,r,λi y=>?_⟩
  obtain⟨x,m,z,p,A,t⟩:=s i y;exact⟨x,m,z,p,A,LV.mono k t aD⟩
theorem LV.h_{w w':aN}(k:∀b,z b->w'.heap[b]?=w.heap[b]?):∀{d:Nat} {v:aW} {l:List aE},LV d z w v l->LV d z w' v l
 |0,v,l,h=>h
 |d+1,v,l,h=>by
  rcases h with h|⟨g,o,a,c,j,n,f,r,y,p⟩
  .exact ed h
  refine ec ⟨g,o,a,c,j,n,f,r,G_,λi t=>?_⟩
  obtain⟨s,e,u,m,x,q⟩:=p i t;exact⟨s,e,u,m,x,LV.h_ k q⟩
theorem LV.slice{d:Nat}{F:bN}{w:aN}{v:aW}(h:LV d F w v l):∃x c,v=Uq x (Ty l) c:=by
 cases d with
 |zero=>grind [LV]
 |succ d=>
  grind [LV]
def LV.Di{c:Nat}(h:LV A z C (Uq Ub D c) l):D=0/\c=0/\l=[]:=by
 cases A with
 |zero=>grind [LV]
 |succ A=>
  grind [LV]
def LV.isNil{v:aW}(h:LV A z C v []):v=bO:=by
 cases A with
 |zero=>exact h.2
 |succ A=>
  grind [LV]
def LV.elem{d:Nat}{x:Option Addr}(h:LV d z C (Uq x A D) l)(i:Nat)(k:i<Ty l):
 ∃e g o a,d=e+1/\A=Ty l/\x=Ua (aL g o)/\Ty l<=D/\z g/\T_ C (aL g (o+i*4))=Ua (I_ l[i].c_)/\T_ C (aL g (o+i*4+1))=Ua (I_ l[i].n)/\T_ C (aL g (o+i*4+2))=Ua (Ur (bs l[i].s))/\T_ C (aL g (o+i*4+3))=Ua a/\LV e z C a l[i].l:=by
 cases d with
 |zero=>grind [LV]
 |succ d=>
  rcases h with ⟨rfl,_⟩|⟨g,o,f,j,p,b,m,s,q,r⟩
  .simp at k
  cases b;grind [World.cell?]
def RV.h_{d:Nat}{w w':aN}{v:aW}{a:aE}(h:RV d z w v a)(c:∀b,z b->w'.heap[b]?=w.heap[b]?):RV d z w' v a:=by grind [LV.h_,RV]
theorem RV.mono{d:Nat}{F G:bN}{w:aN}{v:aW}{a:aE}(h:RV d F w v a)(f:∀b,F b->G b)(c:d<=A):RV A G w v a:=by grind [LV.mono,RV]
def LJ(l:List aE)(k:Nat)(h:k<Ty l):((l.take (k+1)).map aK).sum=((l.take k).map aK).sum+aK l[k]:=by grind [List.take_succ_eq_append_getElem]
theorem EH(l:List aE)(k:Nat):((l.take k).map aK).sum<=(l.map aK).sum:=by grind [List.take_append_drop]
def AW(l:List aE)(h:m∈l):aK m<=(l.map aK).sum:=by
 induction l with
 |nil=>simp at h
 |cons y l a=>
  grind
theorem jJ(l:List aE):Ty l<=(l.map aK).sum:=by
 induction l with
 |nil=>simp
 |cons y l a=>grind [dE]
def tW:∀(d:Nat) (F:bN) (v:aW) (a:aE) (w:aN),RV d F w v a->(∀b,F b->b<H_ w)->aK a<=1000000000->
 Ue prog 184 #[v] w λe H=>e=bY (I_ (aK a))/\R_ w H:=by
 intro d;induction d using Nat.strongRecOn with
 |_ d M=>
  intro F v a w h J hc;obtain⟨lv,rfl,A⟩:=h;obtain⟨x,c,rfl⟩:=A.slice;have p:=dE a;have T:(bs a.s).size=Ty a.s:=by simp[bs,ByteArray.size]
  have N:Ty a.s<=1000000000:=aD;have D:=jJ a.l;have U:Ty a.l<=1000000000:=aD;have Y:=aB A;have O:=aB J;have X:=aB M;have l:=aB p;clear A J M p D;go_in
  go_wp2
  go_loopg [3,4,5] (Ty a.l) (λgk V iv _ wr=>∃k:Nat,k+gk=Ty a.l/\iv=I_ k/\V=I_ ((1+Ty a.s+((a.l.take k).map aK).sum:Nat):Int)/\R_ w wr/\H_ w<H_ wr/\T_ wr (aL (H_ w) 3)=Ua (Uq x (Ty a.l) c))
  case atStart=>exact⟨0,aD,rfl,s_,lr,s_,s_⟩
  case round=>
   obtain⟨k,hk,rfl,rfl,s,K,r⟩:=hrel;have t:=aB s;clear s;by_cases i:k<Ty a.l
   .obtain⟨j,rfl⟩:∃j,gk=j+1:=⟨gk-1,aD⟩;obtain⟨e,g,o,L,rfl, -,rfl,I,Z,P,Q,S,W,n⟩:=(Y.h_ (w':=wr) (by grind [eg,d7])).elem k i
    have B:=AW a.l (ge i);have m:=LJ a.l k i;have y:=EH a.l (k+1);have E:aK a.l[k]<=1000000000:=by have:=l.out;exact aD
    have f:1+Ty a.s+((a.l.take k).map aK).sum+aK a.l[k]<=1000000000:=by have:=l.out;exact aD
    have HX:=aB (X e aD F (Us #[I_ a.l[k].c_,I_ a.l[k].n,Ur (bs a.l[k].s),L]) a.l[k] wr ⟨L,rfl,n⟩ (λb s=>ej (O b s) t.size) E)
    have u:=aB m;clear n m y B;generalize ((a.l.take k).map aK).sum=s0 at*;generalize aK a.l[k]=s1 at*;go_wp2_with fail;refine rf HX λG f=>?_
    have C:=aB (t.trans (f.mono t.size));have z:H_ w<H_ G:=ej K f.size;have q:T_ G (aL (H_ w) 3)=Ua (Uq (Ua (aL g o)) (Ty a.l) c):=by rw[f.cell (by exact K)];exact r
    clear f r P Q S W;go_wp2
    go_roundg j
    case measure=>exact aD
    case rel=>exact⟨k+1,aD,la,by rw[u];go_num,C,z,q⟩
   obtain rfl:k=Ty a.l:=aD;rw[iz]at*;go_wp2
   go_ret;exact⟨by rw[l];rfl,t⟩
def Gw(x y:bP):((bs x).toList==(bs y).toList)=(x==y):=by rw[aX,aX]
def Lv{c:Type}{b:List (c->Bool)}{a:List c}(d:Ty b=Ty a):nP b a=Ud↔∀i (h:i<Ty a),(b[i]'aD) a[i]=Ud:=by
 induction b generalizing a with
 |nil=>grind [nP]
 |cons f b e=>cases a with
  |nil=>simp at d
  |cons x a=>
   simp [nP];rw[e G_]
   constructor
   .rintro⟨j,g⟩ i k;cases i with
    |zero=>exact j
    |succ i=>exact g i G_
   intro h;exact⟨h 0 s_,λi k=>h (i+1) G_⟩
def D9(g:m.c_=b.c_)(f:m.n=b.n)(d:m.s=b.s)(l:Ty m.l=Ty b.l):cZ m b=Ud↔∀(i:Nat) x y,m.l[i]?=Ua x->b.l[i]?=Ua y->cZ x y=Ud:=by
 rw[rO];simp [g,f,d,beq_self_eq_true];rw[Lv G_]
 constructor
 .intro h i x y j e;obtain⟨c,rfl⟩:=hZ.1 e;obtain⟨k,rfl⟩:=hZ.1 j;simpa using h i c
 intro h i c;simpa using h i (m.l[i]'aD) b.l[i] (fe aD) (fe c)
def E0{x y:aE}(d:m.l[A]?=Ua x)(c:b.l[A]?=Ua y)(h:cZ x y=Uc):cZ m b=Uc:=by grind [sL]
def Qc(h:Ty m.l≠Ty b.l):cZ m b=Uc:=by grind [sL]
def Z3:∀(d:Nat) (F:bN) (u v:aW) (a b:aE) (w:aN),RV d F w u a->RV d F w v b->(∀b,F b->b<H_ w)->Ty a.l<=1000000000->Ty b.l<=1000000000->(∀x∈a.l,aK x<=1000000000)->(∀x∈b.l,aK x<=1000000000)->
 Ue prog 235 #[u,v] w λe W=>e=bY (Uw (cZ a b))/\R_ w W:=by
 intro d;induction d using Nat.strongRecOn with
 |_ d J=>
  intro F u v a b w h h' K ar au m r;obtain⟨lv,rfl,H⟩:=h;obtain⟨ap,rfl,f⟩:=h';obtain⟨x,c,rfl⟩:=H.slice;obtain⟨x',c',rfl⟩:=f.slice;have n:R_ w (T6 (T6 w (Uy #[I_ a.c_,I_ a.n,Ur (bs a.s),Uq x (Ty a.l) c] 130)) (Uy #[I_ b.c_,I_ b.n,Ur (bs b.s),Uq x' (Ty b.l) c'] 130)):=((dz _ w).alloc (aD) _).alloc s_ _
  have A:=aB n;have t:=Gw a.s b.s;by_cases I:a.c_=b.c_
  rotate_left
  .have e0:((a.c_:Int) != (b.c_:Int))=Ud:=G_
   have z:Hid (cZ a b=Uc):=by grind [rO]
   clear H f n K J t m r;have H0:=aB I;clear I;go_in
   go_wp2
   go_ret;exact⟨qt,A⟩
  have e0:((a.c_:Int) != (b.c_:Int))=Uc:=G_
  by_cases h1:a.n=b.n
  rotate_left
  .have e1:(a.n != b.n)=Ud:=G_
   have z:Hid (cZ a b=Uc):=by grind [rO]
   clear H f n K J t m r I;go_in
   go_wp2
   go_ret;exact⟨qt,A⟩
  have e1:(a.n != b.n)=Uc:=G_
  by_cases h2:a.s=b.s
  rotate_left
  .have e2:((bs a.s).toList==(bs b.s).toList)=Uc:=G_
   have z:Hid (cZ a b=Uc):=by grind [rO]
   clear H f n K J t m r I h1;go_in
   go_wp2
   go_ret;exact⟨qt,A⟩
  have e2:((bs a.s).toList==(bs b.s).toList)=Ud:=G_
  by_cases Y:Ty a.l=Ty b.l
  rotate_left
  .have e3:((Ty a.l:Int) != (Ty b.l:Int))=Ud:=G_
   have z:=aB (Qc Y);clear H f n K J t m r I h1 h2;go_in
   go_wp2
   go_ret;exact⟨qt,A⟩
  have e3:((Ty a.l:Int) != (Ty b.l:Int))=Uc:=G_
  have HP:=aB (D9 I h1 h2 Y);have HL:=aB H;have ad:=aB f;have O:=aB K;have IH:=aB J;have P:=aB m;have N:=aB r;have H3:=aB Y;clear H f K J t m r I h1 h2 Y n;go_in
  go_wp2
  go_loopg [5,6] (Ty a.l) (λgk iv _ wr=>∃k:Nat,k+gk=Ty a.l/\iv=I_ k/\Hid (∀i,i<k->∀p q,a.l[i]?=Ua p->b.l[i]?=Ua q->cZ p q=Ud)/\R_ w wr/\H_ w+1<H_ wr/\T_ wr (aL (H_ w) 3)=Ua (Uq x (Ty a.l) c)/\T_ wr (aL (H_ w+1) 3)=Ua (Uq x' (Ty b.l) c'))
  case atStart=>exact⟨0,aD,rfl,λi hi=>by omega,A,s_,s_,s_⟩
  case round=>
   obtain⟨k,hk,rfl,Z,s,hz,aj,M⟩:=hrel;have E:=aB s;clear s;by_cases B:k<Ty a.l
   .obtain⟨j,rfl⟩:∃j,gk=j+1:=⟨gk-1,aD⟩;have l:k<Ty b.l:=G_
    obtain⟨e,g,o,kv,aq, -,rfl,ak,ao,c0,c1,c2,c3,T⟩:=(HL.h_ (w':=wr) λb s=>E.block b (O b s)).elem k B
    obtain⟨e',g',o',U,al, -,rfl,ag,am,ab,ah,ac,ai,D⟩:=(ad.h_ (w':=wr) λb s=>E.block b (O b s)).elem k l
    obtain rfl:e=e':=aD;have gx:a.l[k]?=Ua a.l[k]:=fe B;have gy:b.l[k]?=Ua b.l[k]:=fe l
    have ma:∀y∈a.l[k].l,aK y<=1000000000:=λy hy=>by have:=P _ (ge B);rw[dE]at this;have:=AW _ hy;exact aD
    have mb:∀y∈b.l[k].l,aK y<=1000000000:=λy hy=>by have:=N _ (ge l);rw[dE]at this;have:=AW _ hy;exact aD
    have na:a.l[k].l.length<=1000000000:=by have:=P _ (ge B);rw[dE]at this;have:=jJ a.l[k].l;exact aD
    have nb:b.l[k].l.length<=1000000000:=by have:=N _ (ge l);rw[dE]at this;have:=jJ b.l[k].l;exact aD
    have HX:Hid (∀L,R_ wr L->Ue prog 235 #[Us #[I_ a.l[k].c_,I_ a.l[k].n,Ur (bs a.l[k].s),kv],Us #[I_ b.l[k].c_,I_ b.l[k].n,Ur (bs b.l[k].s),U]] L λe W=>e=bY (Uw (cZ a.l[k] b.l[k]))/\R_ L W):=λL G=>
     IH e aD F _ _ a.l[k] b.l[k] L ⟨kv,rfl,T.h_ λb s=>G.block b (ej (O b s) E.size)⟩ ⟨U,rfl,D.h_ λb s=>G.block b (ej (O b s) E.size)⟩ (λb s=>ej (O b s) (eo E.size G.size)) na nb ma mb
    have GX:=aB gx;have GY:=aB gy;clear T D gx gy ma mb na nb;generalize a.l[k]=p at*;generalize b.l[k]=q at*;generalize hs:cZ p q=sb at*;have ae:=aB hs;clear hs;go_wp2
    go_cut [6] (λsv wc=>sv=Uw sb/\R_ w wc/\H_ w+1<H_ wc/\T_ wc (aL (H_ w) 3)=Ua (Uq (Ua (aL g o)) (Ty a.l) c)/\T_ wc (aL (H_ w+1) 3)=Ua (Uq (Ua (aL g' o')) (Ty b.l) c'))
    case first=>
     go_region_law (go_simp;go_at_call 235;refine rf (HX _ (by exact(dz _ _).drew)) λL X=>?_;have C:=aB X;clear X)
     all_goals
      go_wp2_with fail;go_meet
      case rel=>exact⟨aJ,E.trans ((dz _ _).drew.trans (C.mono E.size)),ej hz C.size,by rw[C.cell (by show H_ w<H_ wr;exact aD)];exact aj,by rw[C.cell (by show H_ w+1<H_ wr;exact aD)];exact M⟩
    case rest=>
     obtain⟨rfl,Q,af,hd,aa⟩:=hcut;have S:=aB Q;have HQ:=Z;clear Q HX Z c0 c1 c2 c3 ab ah ac ai;cases sb with
     |false=>
      have z:=aB (E0 GX GY ae);go_wp2
      go_ret;exact⟨qt,S⟩
     |true=>
      go_wp2
      go_roundg j
      case measure=>exact aD
      case rel=>exact⟨k+1,aD,la,λi hi p' q' an V=>by grind [d7],S,af,hd,aa⟩
   obtain rfl:k=Ty a.l:=aD;have z:Hid (cZ a b=Ud):=HP.2 λi p q hp V=>Z.out i G_ p q hp V
   clear Z;go_wp2
   go_ret;exact⟨qt,E⟩
def Kn(z:Int)(w:aN):(convert 191 9 (Uq (Ua (aL (H_ w) 0)) 1 1)).run prog (T6 w (Uy #[Ux .u8 z] 5))=.ok (Ur (strOfNums [z])) (T6 w (Uy #[Ux .u8 z] 5)):=
 run_convert_bytes_arg _ 191 5 underlying191 underlying5 (H_ w) 0 1 1 [z] rfl (s_) 9 underlying9
theorem nE(a b:bP):bs a++bs b=bs (a++b):=by grind [SB,jT,ByteArray.data_append]
def xY(z:Int)(d:Nat)(a:z=48+d)(t:bP):strOfNums [z]++bs t=bs (UInt8.ofNat (48+d)::t):=by
 have e:strOfNums [z]=bs [UInt8.ofNat (48+d)]:=by grind [SB,strOfNums_data,jT]
 rw[e,nE];rfl
def Oh(t:bP):(⟨#[45]⟩:ByteArray)++bs t=bs (45::t):=nE [45] t
def Gc(m:Int):(m.tmod 10<0-> -m.tmod 10=(m.natAbs%10:Nat))/\(¬m.tmod 10<0->m.tmod 10=(m.natAbs%10:Nat))/\(m.tdiv 10).natAbs=m.natAbs/10:=by grind
def Tn(Y_:a:=by
 rw[<-hdg]at hs1;clear t1 t2 hdg;by_cases hn:n<0
 .have HNN:=aB hn;go_wp2
  go_ret;exact⟨by rw[HFIN,ef HNN];rfl,HB.alloc HB.size _⟩
 have HNN:=aB hn;go_wp2
 go_ret;exact⟨by rw[HFIN,ea aD];rfl,HB.alloc HB.size _⟩):a:=Y_
def LC(n:Int)(w:aN)(J: -9223372036854775808<=n)(C:n<=9223372036854775807):
 Ue prog 137 #[I_ n] w λe B=>e=bY (Ur (bs (jL n)))/\R_ w B:=by
 have V:=Kn;have H:=iT;have S:=Oh;have G:∀z,(strOfNums [z]).size=1:=λz=>strOfNums_size [z]
 go_in
 go_wp2
 go_loopg [0,3,5] 20 (λgk O F _ wr=>∃(m:Int) (t:bP),O=I_ m/\F=Ur (bs t)/\ -9223372036854775808<=m/\m<=9223372036854775807/\1<=gk/\gk<=20/\Hid (m.natAbs<10 ^ gk)/\Ty t<=20-gk/\Hid (iZ gk m.natAbs t=iZ 20 n.natAbs [])/\R_ w wr)
 case atStart=>exact⟨n,[],aJ,aJ,J,C,aD,aD,by show n.natAbs<10 ^ 20;exact aD,s_,rfl,dz _ _⟩
 case round=>
  obtain⟨m,t,rfl,rfl,K,N,L,M,v,E,r,x⟩:=hrel;have i:=aB x;obtain⟨j,rfl⟩:∃j,gk=j+1:=⟨gk-1,aD⟩;obtain⟨l,k,s⟩:=Gc m;have p:m.natAbs%10<10:=aD;obtain⟨o,f⟩:∃o,o=m.natAbs%10:=(by simp)
  rw[<-f]at l k p;have W: -9<=m.tmod 10:=aD;have Y:m.tmod 10<=9:=aD;have A:Ty t<=1000:=aD;have P:=aB s;have I:=aB f;obtain⟨u,a⟩:∃u,u=UInt8.ofNat (48+o):=(by simp)
  have X: -9223372036854775808<=m.tdiv 10/\m.tdiv 10<=9223372036854775807:=aD;by_cases y:m.tdiv 10=0
  .have HFIN:Hid (jL n=(if n<0 then [45]else [])++(u::t)):=by
    show _=_
    have c:m.natAbs<10:=aD;have h:=r.out;rw[iZ,ef c]at h;unfold jL;rw[<-h,a,f,Nat.mod_eq_of_lt c]
   have T:(m.tdiv 10==0)=Ud:=G_
   clear y r x s f;by_cases b:m.tmod 10<0
   .have d:=xY (48+ -m.tmod 10) o (by rw[l b])
    rw[<-a]at d;clear l k a;by_cases q:n<0
    .have g:=aB q;go_wp2
     go_ret;exact⟨by rw[HFIN.out,ef g.out];rfl,i.out.alloc i.out.size _⟩
    have g:=aB q;go_wp2
    go_ret;exact⟨by rw[HFIN.out,ea aD];rfl,i.out.alloc i.out.size _⟩
   have d:=xY (48+m.tmod 10) o (by rw[k b])
   rw[<-a]at d;clear l k a;by_cases q:n<0
   .have g:=aB q;go_wp2
    go_ret;exact⟨by rw[HFIN.out,ef g.out];rfl,i.out.alloc i.out.size _⟩
   have g:=aB q;go_wp2
   go_ret;exact⟨by rw[HFIN.out,ea aD];rfl,i.out.alloc i.out.size _⟩
  have c:¬m.natAbs<10:=aD
  have D:Hid (1<=j/\(m.tdiv 10).natAbs<10 ^ j/\iZ j (m.tdiv 10).natAbs (u::t)=iZ 20 n.natAbs []):=by
   have h:=r.out;have Q:=v.out;rw[iZ,ea c,<-f,<-s,<-a]at h;rw[Nat.pow_succ]at Q
   have U:1<=j:=by grind
   exact⟨U,aD,h⟩
  have T:(m.tdiv 10==0)=Uc:=G_
  clear y r x s f c;by_cases b:m.tmod 10<0
  .have d:=xY (48+ -m.tmod 10) o (by rw[l b])
   rw[<-a]at d;clear l k a;go_wp2
   go_roundg j
   case measure=>exact aD
   grind [d7,ep,Below.size]
  have d:=xY (48+m.tmod 10) o (by rw[k b])
  rw[<-a]at d;clear l k a;go_wp2
  go_roundg j
  case measure=>exact aD
  grind [d7,ep,Below.size]
def YL(l:cY)(x:bP)(h:l≠[]):fQ (l++[x])=fQ l++[44,32]++x:=by
 induction l with
 |nil=>grind
 |cons y r a=>
  cases r with
  |nil=>simp[fQ]
  |cons z r=>
   grind [fQ]
theorem YE(f:Nat):∀n t,Ty (iZ f n t)<=Ty t+f:=by
 induction f with
 |zero=>grind [iZ]
 |succ f a=>
  grind [iZ]
def RQ(n:Int):Ty (jL n)<=21:=by grind [jL,YE]
theorem uM(l:List aE)(h:∀x∈l,Ty (cM x)+2<=24*aK x):Ty (fQ (l.map cM))<=24*(l.map aK).sum:=by
 induction l with
 |nil=>simp[fQ]
 |cons y r a=>
  have b:=h y s_
  cases r with
  |nil=>simp[fQ];exact aD
  |cons z r=>
   grind [fQ]
theorem sI:∀v:aE,Ty (cM v)+2<=24*aK v:=by
 refine aE.ind λv a=>?_
 have c:=uM v.l a;have b:=RQ v.n;rw[mA,dE];grind
noncomputable def ZJ(l:List aE)(k:Nat):bP:=91::fQ ((l.take k).map cM)
def Gt(l:List aE)(k:Nat)(h:k<Ty l)(a:k=0):ZJ l (k+1)=91::cM l[k]:=by
 subst a;unfold ZJ;cases l with
 |nil=>simp at h
 |cons x l=>simp[fQ]
def Fb(l:List aE)(k:Nat)(h:k<Ty l)(a:0<k):ZJ l (k+1)=ZJ l k++[44,32]++cM l[k]:=by
 unfold ZJ;rw[g9 h,fw,List.map_singleton,YL]
 .simp
 grind [List.length_map]
theorem Sh(l:List aE)(k:Nat):Ty (ZJ l k)<=1+24*(l.map aK).sum:=by grind [ZJ,uM,sI,EH]
def NP(s:bP):(⟨#[34]⟩:ByteArray)++bs s=bs (34::s):=nE [34] s
def NQ(s:bP):bs s++(⟨#[34]⟩:ByteArray)=bs (s++[34]):=nE s [34]
def Mb(s:bP):bs s++(⟨#[44,32]⟩:ByteArray)=bs (s++[44,32]):=nE s [44,32]
def Pe(s:bP):bs s++(⟨#[93]⟩:ByteArray)=bs (s++[93]):=nE s [93]
def AO:∀(d:Nat) (F:bN) (v:aW) (a:aE) (w:aN),RV d F w v a->(∀b,F b->b<H_ w)->aK a<=1000000000->nG a->
 Ue prog 80 #[v] w λe w'=>e=bY (Ur (bs (cM a)))/\R_ w w':=by
 intro d;induction d using Nat.strongRecOn with
 |_ d L=>
  intro F v a w h M U l;obtain⟨lv,rfl,E⟩:=h;obtain⟨x,c,rfl⟩:=E.slice;have t:=dE a;have f:=mA a;have r:R_ w (T6 w (Uy #[I_ a.c_,I_ a.n,Ur (bs a.s),Uq x (Ty a.l) c] 130)):=(by grind [ep,dz])
  have n:=aB r;by_cases B:a.c_=0
  .have e0:((a.c_:Int)==0)=Ud:=by simp[B]
   rw[ef B]at f;have m:=aB f;have HD:=aB (LC a.n (T6 w (Uy #[I_ a.c_,I_ a.n,Ur (bs a.s),Uq x (Ty a.l) c] 130)) l.lo l.hi);clear E M L U t f r B l;go_in
   go_wp2_with fail;refine rf HD λG i=>?_
   have q:=aB (n.trans (i.mono n.size));clear i;go_wp2
   go_ret;exact⟨qu,q⟩
  have e0:((a.c_:Int)==0)=Uc:=G_
  rw[ea B]at f;by_cases I:a.c_=1
  .have e1:((a.c_:Int)==1)=Ud:=by simp[I]
   rw[ef I]at f;clear E M L U t r B I l;by_cases J:a.n=1
   .have en:(a.n==1)=Ud:=by simp[J]
    rw[ef J]at f;have m:=aB f;clear f J;go_in
    go_wp2
    go_ret;exact⟨qu,n⟩
   have en:(a.n==1)=Uc:=by simp[J]
   rw[ea J]at f;have m:=aB f;clear f J;go_in
   go_wp2
   go_ret;exact⟨qu,n⟩
  have e1:((a.c_:Int)==1)=Uc:=G_
  rw[ea I]at f;by_cases O:a.c_=2
  .have e2:((a.c_:Int)==2)=Ud:=by simp[O]
   rw[ef O]at f;have m:=aB f;have aa:Ty a.s<=1000000000:=aD;have S:=iT;have q1:=NP;have q2:=NQ;clear E M L U t r B I O l f;go_in
   go_wp2
   go_ret;exact⟨qu,n⟩
  have e2:((a.c_:Int)==2)=Uc:=G_
  rw[ea O]at f;have m:=aB f;have S:=iT;have q3:=Mb;have q4:=Pe;have q5:=nE;have W:=jJ a.l;have ab:Ty a.l<=1000000000:=aD;have s:∀k,Ty (ZJ a.l k)<=24000000001:=(by grind [Sh])
  have HL:=aB E;have HF:=aB M;have IH:=aB L;have V:=aB t;have HFIT:=aB l;clear E M L t W r B I O l f;go_in
  go_wp2
  go_loopg [3,4,5] (Ty a.l) (λgk tv iv _ wr=>∃k:Nat,k+gk=Ty a.l/\iv=I_ k/\tv=Ur (bs (ZJ a.l k))/\R_ w wr/\H_ w<H_ wr/\T_ wr (aL (H_ w) 3)=Ua (Uq x (Ty a.l) c))
  case atStart=>exact⟨0,aD,rfl,rfl,n,s_,s_⟩
  case round=>
   obtain⟨k,hk,rfl,rfl,P,Q,y⟩:=hrel;have H:=aB P;clear P;by_cases u:k<Ty a.l
   .obtain⟨j,rfl⟩:∃j,gk=j+1:=⟨gk-1,aD⟩;obtain⟨e,g,o,kv,rfl, -,rfl,Y,ad,c0,c1,Z,c3,A⟩:=(HL.h_ (w':=wr) (by grind [eg,d7])).elem k u
    have K:=AW a.l (ge u);have X:aK a.l[k]<=1000000000:=by have:=V.out;exact aD
    have ac:Ty (cM a.l[k])<=24000000000:=by have:=sI a.l[k];exact aD
    have N:=s k;have HX:=aB (IH e aD F (Us #[I_ a.l[k].c_,I_ a.l[k].n,Ur (bs a.l[k].s),kv]) a.l[k] wr ⟨kv,rfl,A⟩ (λb P=>ej (HF b P) H.size) X (HFIT.tm (s_)))
    by_cases z:k=0
    .have D:=aB (Gt a.l k u z);have T:Hid (ZJ a.l k=[91]):=by show _=_;rw[z];simp[ZJ,fQ]
     have ae:k<=0:=aD;clear A K s z;generalize cM a.l[k]=s1 at*;generalize ZJ a.l k=s0 at*;go_wp2_with fail;refine rf HX λG i=>?_
     have q:=aB (H.trans (i.mono H.size));have C:H_ w<H_ G:=ej Q i.size;have p:T_ G (aL (H_ w) 3)=Ua (Uq (Ua (aL g o)) (Ty a.l) c):=by rw[i.cell (by exact Q)];exact y
     clear i y c0 c1 Z c3;go_wp2
     go_roundg j
     case measure=>exact aD
     case rel=>exact⟨k+1,aD,la,by rw[D,T];rfl,q,C,p⟩
    have D:=aB (Fb a.l k u aD);clear A K s;generalize cM a.l[k]=s1 at*;generalize ZJ a.l k=s0 at*;go_wp2_with fail;refine rf HX λG i=>?_
    have q:=aB (H.trans (i.mono H.size));have C:H_ w<H_ G:=ej Q i.size;have p:T_ G (aL (H_ w) 3)=Ua (Uq (Ua (aL g o)) (Ty a.l) c):=by rw[i.cell (by exact Q)];exact y
    clear i y c0 c1 Z c3;go_wp2
    go_roundg j
    case measure=>exact aD
    case rel=>exact⟨k+1,aD,la,by rw[D];simp,q,C,p⟩
   obtain rfl:k=Ty a.l:=aD;have N:=s (Ty a.l);have T:Hid (cM a=ZJ a.l (Ty a.l)++[93]):=by grind [ZJ]
   clear s;generalize ZJ a.l (Ty a.l)=s0 at*;go_wp2
   go_ret;exact⟨by rw[T];rfl,H⟩
def Z1(d:Nat)(F:bN)(v:aW)(a:aE)(w:aN)(h:RV d F w v a)(l:∀b,F b->b<w.heap.size)(t:aK a<=1000000000)(i:nG a):
 Ue prog 259 #[v] w λe p=>e=bY (Ur (bs (jN a)))/\R_ w p:=by
 obtain⟨y,rfl,m⟩:=h;obtain⟨x,c,rfl⟩:=m.slice;have f:R_ w (T6 w (Uy #[I_ a.c_,I_ a.n,Ur (bs a.s),Uq x (Ty a.l) c] 130)):=(by grind [ep,dz])
 have g:=aB f;by_cases k:a.c_=2
 .have r:((a.c_:Int)==2)=Ud:=by simp[k]
  have o:Hid (jN a=a.s):=by grind [jN]
  clear m l f k;go_in
  go_wp2
  go_ret;exact⟨by rw[o];rfl,g⟩
 have r:((a.c_:Int)==2)=Uc:=G_
 have o:Hid (jN a=cM a):=by grind [jN]
 have s:=aB (AO d F (Us #[I_ a.c_,I_ a.n,Ur (bs a.s),Uq x (Ty a.l) c]) a (T6 w (Uy #[I_ a.c_,I_ a.n,Ur (bs a.s),Uq x (Ty a.l) c] 130)) pt (λb q=>ej (l b q) f.size) t i)
 clear m l f k;go_in
 go_wp2_with fail;refine rf s λu j=>?_
 have n:=aB (g.trans (j.mono g.size));clear j;go_wp2
 go_ret;exact⟨by rw[o];rfl,n⟩
abbrev cK(c_:Nat)(n:Int)(s:bP):Uf:=Us #[I_ c_,I_ n,Ur (bs s),bO]
def RV.plain(d:Nat)(F:bN)(w:aN)(a:Nat)(n:Int)(s:bP):RV d F w (cK a n s) ⟨a,n,s,[]⟩:=(by grind [LV.empty,RV])
theorem RV.num(d:Nat)(F:bN)(w:aN)(n:Int):RV d F w (cK 0 n []) (bA n):=RV.plain d F w 0 n []
def RV.xd(d:Nat)(F:bN)(w:aN)(b:Bool):RV d F w (cK 1 (if b then 1 else 0) []) (cG b):=RV.plain d F w 1 _ []
theorem RV.yes(d:Nat)(F:bN)(w:aN):RV d F w (cK 1 1 []) (cG Ud):=RV.plain d F w 1 1 []
theorem RV.no(d:Nat)(F:bN)(w:aN):RV d F w (cK 1 0 []) (cG Uc):=RV.plain d F w 1 0 []
theorem RV.nil(d:Nat)(F:bN)(w:aN):RV d F w (cK 0 0 []) aY:=RV.plain d F w 0 0 []
theorem RV.str(d:Nat)(F:bN)(w:aN)(s:bP):RV d F w (cK 2 0 s) (bQ s):=RV.plain d F w 2 0 s
def iK(n:Int)(w:aN):
 Ue prog 108 #[I_ n] w λe a=>e=bY (cK 0 n [])/\a=T6 w (Uy #[I_ 0,I_ n,Ur (bs []),bO] 130):=by
 go_in
 go_wp2
 exact bodyPost_ret (v:=cK 0 n []) (by simp[results,results108,go_sem];rfl) rfl ⟨rfl,rfl⟩
def iI(b:Bool)(w:aN):
 Ue prog 132 #[Uw b] w λe a=>e=bY (cK 1 (if b then 1 else 0) [])/\a=T6 w (Uy #[I_ 1,I_ (if b then 1 else 0),Ur (bs []),bO] 130):=by
 cases b
 .go_in
  go_wp2
  exact bodyPost_ret (v:=cK 1 0 []) (by simp[results,results132,go_sem];rfl) rfl ⟨rfl,rfl⟩
 go_in
 go_wp2
 exact bodyPost_ret (v:=cK 1 1 []) (by simp[results,results132,go_sem];rfl) rfl ⟨rfl,rfl⟩
def AP(s:List UInt8)(w:Ug):
 Ue prog 131 #[Ur (bs s)] w λe a=>e=.returned (cK 2 0 s)/\a=T6 w (Uy #[Ux .i64 2,Ux .i64 0,Ur (bs s),Uq Ub 0 0] 130):=by
 go_enter func131,ntmps131;go_wp2_with fail;exact bodyPost_ret (v:=cK 2 0 s) (by simp[results,results131,go_sem]) rfl s_
def CX(x:Option Addr)(n c:Nat)(w:Ug):
 Ue prog 183 #[Uq x n c] w λe a=>e=.returned (Us #[Ux .i64 3,Ux .i64 0,Ur (bs []),Uq x n c])/\a=T6 w (Uy #[Ux .i64 3,Ux .i64 0,Ur (bs []),Uq x n c] 130):=by
 go_enter func183,ntmps183;go_wp2_with fail;exact bodyPost_ret (v:=Us #[Ux .i64 3,Ux .i64 0,Ur (bs []),Uq x n c]) (by simp[results,results183,go_sem];rfl) rfl ⟨rfl,rfl⟩
abbrev fA(v:aW)(stop:Nat):Uf:=.tuple #[v,I_ stop]
theorem zK(n:Int):oP n=wrap64 n:=by unfold oP wrap64;rfl
def Hs.xm{op:bP}{a:aE}(h:op=[45,120])(b:a.c_=0):dI op a=(bA (wrap64 (-a.n)),0):=by grind [zK,dI]
def Hs.zu{b:bP}(h:b=[33,120])(c:m.c_=1):dI b m=(cG (decide (m.n=0)),0):=by grind [dI]
def Hs.Aj{b:bP}(h:¬(b=[45,120]/\m.c_=0))(c:¬(b=[33,120]/\m.c_=1)):dI b m=(aY,2):=by grind [dI]
def Y6(d:Nat)(F:bN)(w:aN)(r:aE × Nat)(e:Ending)(w':aN):Prop:=
 (∃u,e=bY (fA u r.2)/\RV d F w' u r.1)/\R_ w w'
def Ti(Y_:a:=by
 go_in
 go_wp2
 exact bodyPost_ret (v:=fA (cK 0 0 []) 2) mr rfl ⟨⟨_,oj,qc⟩,ko⟩):a:=Y_
def Ib(e:bP)(d:Nat)(F:bN)(v:aW)(a:aE)(w:aN)(h:RV d F w v a):
 Ue prog 186 #[Ur (bs e),v] w (Y6 d F w (dI e a)):=by
 obtain⟨t,rfl,q⟩:=h;obtain⟨x,c,rfl⟩:=q.slice;clear q;have b:=aX e;by_cases j:e=[45,120]/\a.c_=0
 .obtain⟨f,i⟩:=j;have g:=aB (Hs.xm f i);have p:((bs e).toList==[45,120])=Ud:=by rw[b,f];rfl
  have n:((a.c_:Int)==0)=Ud:=by simp[i]
  clear b f i;generalize dI e a=r at*;go_in
  go_wp2_with (go_at_call 108;refine oN (iK _ _) ?_)
  exact bodyPost_ret (v:=fA (cK 0 (wrap64 (-a.n)) []) 0) pd rfl ⟨⟨_,by rw[g],by rw[g];exact RV.num _ _ _ (wrap64 (-a.n))⟩,ko⟩
 by_cases l:e=[33,120]/\a.c_=1
 .obtain⟨f,i⟩:=l;have g:=aB (Hs.zu f i);have p:((bs e).toList==[45,120])=Uc:=by rw[b,f];rfl
  have o:((bs e).toList==[33,120])=Ud:=by rw[b,f];rfl
  have n:((a.c_:Int)==1)=Ud:=by simp[i]
  clear b f i j;generalize dI e a=r at*;by_cases k:a.n=0
  .have s:(a.n==0)=Ud:=by simpa using k
   rw[ig k]at g;clear k;go_in
   go_wp2_with (go_at_call 132;refine oN (iI _ _) ?_)
   exact bodyPost_ret (v:=fA (cK 1 1 []) 0) pd rfl ⟨⟨_,by rw[g],by rw[g];exact RV.yes _ _ _⟩,ko⟩
  have s:(a.n==0)=Uc:=by simpa using k
  rw[gi k]at g;clear k;go_in
  go_wp2_with (go_at_call 132;refine oN (iI _ _) ?_)
  exact bodyPost_ret (v:=fA (cK 1 0 []) 0) pd rfl ⟨⟨_,by rw[g],by rw[g];exact RV.no _ _ _⟩,ko⟩
 have g:=aB (Hs.Aj j l);generalize dI e a=r at*;by_cases f:e=[45,120]
 .have p:((bs e).toList==[45,120])=Ud:=by rw[b,f];rfl
  have o:((bs e).toList==[33,120])=Uc:=by rw[b,f];rfl
  have n:((a.c_:Int)==0)=Uc:=by simp;intro h;exact j ⟨f,h⟩
  clear b f j l;go_in
  go_wp2
  exact bodyPost_ret (v:=fA (cK 0 0 []) 2) mr rfl ⟨⟨_,by rw[g],qe⟩,ko⟩
 have p:((bs e).toList==[45,120])=Uc:=by rw[b];simpa using f
 by_cases m:e=[33,120]
 .have o:((bs e).toList==[33,120])=Ud:=by rw[b,m];rfl
  have n:((a.c_:Int)==1)=Uc:=by simp;intro h;exact l ⟨m,aD⟩
  clear b f j l m;go_in
  go_wp2
  exact bodyPost_ret (v:=fA (cK 0 0 []) 2) mr rfl ⟨⟨_,by rw[g],qe⟩,ko⟩
 have o:((bs e).toList==[33,120])=Uc:=by rw[b];simpa using m
 clear b f j l m;go_in
 go_wp2
 exact bodyPost_ret (v:=fA (cK 0 0 []) 2) mr rfl ⟨⟨_,by rw[g],qe⟩,ko⟩
def CW(n:Int)(a: -9223372036854775808<=n)(b:n<=9223372036854775807):oP n=n:=by unfold oP;exact aD
def Qb(x y:Int)(c: -9223372036854775808<=x)(a:x<=9223372036854775807)(f:y≠0)(e:y≠ -1): -9223372036854775808<=x.tdiv y/\x.tdiv y<=9223372036854775807:=by
 have h:(x.tdiv y).natAbs=x.natAbs/y.natAbs:=Int.natAbs_tdiv x y;by_cases d:y=1
 .grind
 have b:2<=y.natAbs:=aD;have g:x.natAbs/y.natAbs<=x.natAbs/2:=Nat.div_le_div_left b aD;exact aD
def TZ(x y:Int)(b: -9223372036854775808<=x)(a:x<=9223372036854775807): -9223372036854775808<=x.tmod y/\x.tmod y<=9223372036854775807:=by
 have h:(x.tmod y).natAbs=x.natAbs%y.natAbs:=(by simp)
 have c:x.natAbs%y.natAbs<=x.natAbs:=Nat.mod_le _ _;by_cases d:0<=x
 .exact aD
 have:x.tmod y<=0:=by
  have:=Int.tmod_nonneg y (show 0<= -x by exact aD)
  grind [Int.neg_tmod]
 exact aD
def TG(Y_:a:=by
 go_in
 go_wp2_with (go_at_call 132;refine oN (iI _ _) ?_)
 exact bodyPost_ret (v:=fA (cK 1 1 []) 0) lf rfl ⟨⟨_,oj,by grind [d7,RV.yes]⟩,ko⟩):a:=Y_
def SU(Y_:a:=by
 go_in
 go_wp2_with (go_at_call 132;refine oN (iI _ _) ?_)
 exact bodyPost_ret (v:=fA (cK 1 0 []) 0) lf rfl ⟨⟨_,oj,by grind [d7,RV.no]⟩,ko⟩):a:=Y_
def Z4(b:bP)(d:Nat)(F:bN)(x y:Int)(w:aN)(m: -9223372036854775808<=x)(l:x<=9223372036854775807)(_hy1: -9223372036854775808<=y)(_hy2:y<=9223372036854775807):
 Ue prog 236 #[Ur (bs b),I_ x,I_ y] w (Y6 d F w (jE b x y)):=by
 have c:=aX b;obtain⟨r,a⟩:∃r,r=jE b x y:=(by simp)
 rw[<-a];unfold jE at a;by_cases t:b=[43]
 .rw[ef t]at a;have C:((bs b).toList==[43])=Ud:=G_
  have A:((bs b).toList==[45])=Uc:=G_
  have z:((bs b).toList==[42])=Uc:=G_
  have u:((bs b).toList==[60])=Uc:=G_
  have p:((bs b).toList==[60,61])=Uc:=G_
  have g:((bs b).toList==[47])=Uc:=G_
  rw[zK]at a;have HP:=aB a;clear c a t;go_in
  go_wp2_with (go_at_call 108;refine oN (iK _ _) ?_)
  exact bodyPost_ret (v:=fA (cK 0 (wrap64 (x+y)) []) 0) lf rfl ⟨⟨_,oj,mw⟩,ko⟩
 rw[ea t]at a;have C:((bs b).toList==[43])=Uc:=G_
 clear t;by_cases s:b=[45]
 .rw[ef s]at a;have A:((bs b).toList==[45])=Ud:=G_
  have z:((bs b).toList==[42])=Uc:=G_
  have u:((bs b).toList==[60])=Uc:=G_
  have p:((bs b).toList==[60,61])=Uc:=G_
  have g:((bs b).toList==[47])=Uc:=G_
  rw[zK]at a;have HP:=aB a;clear c a s;go_in
  go_wp2_with (go_at_call 108;refine oN (iK _ _) ?_)
  exact bodyPost_ret (v:=fA (cK 0 (wrap64 (x-y)) []) 0) lf rfl ⟨⟨_,oj,mw⟩,ko⟩
 rw[ea s]at a;have A:((bs b).toList==[45])=Uc:=G_
 clear s;by_cases q:b=[42]
 .rw[ef q]at a;have z:((bs b).toList==[42])=Ud:=G_
  have u:((bs b).toList==[60])=Uc:=G_
  have p:((bs b).toList==[60,61])=Uc:=G_
  have g:((bs b).toList==[47])=Uc:=G_
  rw[zK]at a;have HP:=aB a;clear c a q;go_in
  go_wp2_with (go_at_call 108;refine oN (iK _ _) ?_)
  exact bodyPost_ret (v:=fA (cK 0 (wrap64 (x*y)) []) 0) lf rfl ⟨⟨_,oj,mw⟩,ko⟩
 rw[ea q]at a;have z:((bs b).toList==[42])=Uc:=G_
 clear q;by_cases n:b=[60]
 .rw[ef n]at a;have u:((bs b).toList==[60])=Ud:=G_
  have p:((bs b).toList==[60,61])=Uc:=G_
  have g:((bs b).toList==[47])=Uc:=G_
  by_cases H:x<y
  .have j:decide (x<y)=Ud:=(by grind)
   rw[j]at a;have HP:=aB a;clear c a n;exact TG
  have j:decide (x<y)=Uc:=(by grind)
  rw[j]at a;have HP:=aB a;clear c a n;exact SU
 rw[ea n]at a;have u:((bs b).toList==[60])=Uc:=G_
 clear n;by_cases o:b=[60,61]
 .rw[ef o]at a;have p:((bs b).toList==[60,61])=Ud:=G_
  have g:((bs b).toList==[47])=Uc:=G_
  by_cases H:x<=y
  .have j:decide (x<=y)=Ud:=(by grind)
   rw[j]at a;have HP:=aB a;clear c a o;exact TG
  have j:decide (x<=y)=Uc:=(by grind)
  rw[j]at a;have HP:=aB a;clear c a o;exact SU
 rw[ea o]at a;have p:((bs b).toList==[60,61])=Uc:=G_
 clear o;by_cases f:y=0
 .rw[ef f]at a;have D:(y==0)=Ud:=G_
  have HP:=aB a;clear c a f;go_in
  go_wp2
  exact bodyPost_ret (v:=fA (cK 0 0 []) 3) (by simp[results,results236,go_sem];rfl) rfl ⟨⟨_,oj,my⟩,ko⟩
 rw[ea f]at a;have D:(y==0)=Uc:=G_
 have I:¬y=0:=f;by_cases k:y= -1
 .have E:(y== -1)=Ud:=G_
  by_cases e:b=[47]
  .rw[ef e]at a;have g:((bs b).toList==[47])=Ud:=G_
   rw[zK,k,Int.tdiv_neg,Int.tdiv_one]at a;have HP:=aB a;clear c a f k e;go_in
   go_wp2_with (go_at_call 108;refine oN (iK _ _) ?_)
   exact bodyPost_ret (v:=fA (cK 0 (wrap64 (-x)) []) 0) lf rfl ⟨⟨_,oj,mw⟩,ko⟩
  rw[ea e]at a;have g:((bs b).toList==[47])=Uc:=G_
  rw[k,Int.tmod_neg,Int.tmod_one]at a;have HP:=aB a;clear c a f k e;go_in
  go_wp2_with (go_at_call 108;refine oN (iK _ _) ?_)
  exact bodyPost_ret (v:=fA (cK 0 0 []) 0) lf rfl ⟨⟨_,oj,by rw[HP];exact RV.num _ _ _ 0⟩,ko⟩
 have E:(y== -1)=Uc:=G_
 by_cases e:b=[47]
 .rw[ef e]at a;have g:((bs b).toList==[47])=Ud:=G_
  have i:=Qb x y m l f k;rw[CW _ i.1 i.2]at a;have HP:=aB a;obtain⟨G,B⟩:=i;clear c a f k e;go_in
  go_wp2_with (go_at_call 108;refine oN (iK _ _) ?_)
  exact bodyPost_ret (v:=fA (cK 0 (x.tdiv y) []) 0) lf rfl ⟨⟨_,oj,mw⟩,ko⟩
 rw[ea e]at a;have g:((bs b).toList==[47])=Uc:=G_
 have i:=TZ x y m l;rw[CW _ i.1 i.2]at a;have HP:=aB a;obtain⟨G,B⟩:=i;clear c a f k e;go_in
 go_wp2_with (go_at_call 108;refine oN (iK _ _) ?_)
 exact bodyPost_ret (v:=fA (cK 0 (x.tmod y) []) 0) lf rfl ⟨⟨_,oj,mw⟩,ko⟩
def mM(d:Nat)(F:bN)(w:aN)(xs:List Uf)(l:List aE):Prop:=
 (Ty xs)=Ty l*4/\∀i (h:i<Ty l),∃kv,xs[i*4]?=Ua (I_ l[i].c_)/\xs[i*4+1]?=Ua (I_ l[i].n)/\xs[i*4+2]?=Ua (Ur (bs l[i].s))/\xs[i*4+3]?=Ua kv/\LV d F w kv l[i].l
def mM.nil(d:Nat)(F:bN)(w:aN):mM d F w [] []:=(by grind [mM])
def mM.mono{d:Nat}{F G:bN}{w:aN}{a:List Uf}(h:mM d F w a l)(f:∀b,F b->G b)(c:d<=A):mM A G w a l:=
 (by grind [LV.mono,mM])
def mM.h_{d:Nat}{w w':aN}{a:List Uf}(h:mM d z w a l)(c:∀b,z b->w'.heap[b]?=w.heap[b]?):mM d z w' a l:=
 (by grind [LV.h_,mM])
def mM.append{a b:List Uf}{m:List aE}(h:mM A z C a l)(k:mM A z C b m):mM A z C (a++b) (l++m):=by
 refine⟨by grind [mM],λi c=>?_⟩
 have j:=h.1;by_cases n:i<Ty l
 .grind [mM]
 rw[ew]at c;obtain⟨o,g,e,p,f,q⟩:=k.2 (i-Ty l) aD;grind
def mM.one{d:Nat}{F:bN}{w:aN}{a:aE}{b:aW}(h:LV d F w b a.l):mM d F w [I_ a.c_,I_ a.n,Ur (bs a.s),b] [a]:=
 (by grind [mM])
def mM.zh{b:List Uf}(h:mM A z C b l):∀u∈b,u.oneCell'=Ud:=by
 intro u i;obtain⟨j,m,rfl⟩:=ju.1 i;have p:=h.1;obtain⟨r,g,e,k,f,n⟩:=h.2 (j/4) aD;obtain⟨x,c,a⟩:=n.slice;have hx :=fe m;generalize b[j]=u at*;by_cases o:j%4=0
 .rw[show j=j/4*4 by omega,g]at hx
  rw[<-ft hx];rfl
 by_cases s:j%4=1
 .rw[show j=j/4*4+1 by omega,e]at hx
  rw[<-ft hx];rfl
 by_cases q:j%4=2
 .rw[show j=j/4*4+2 by omega,k]at hx
  rw[<-ft hx];rfl
 rw[show j=j/4*4+3 by omega,f,a]at hx
 rw[<-ft hx];rfl
def LV.row{f:Addr}{n:Nat}(h:LV A z C (Uq (Ua f) n D) l):
 n=Ty l/\∃k,mM A z C k l/\∀j u,k[j]?=Ua u->T_ C (f.add j)=Ua u:=by
 cases A with
 |zero=>
  grind [LV]
 |succ A=>
  rcases h with ⟨rfl,a⟩|⟨g,o,m,b,e,a,q,v,s,p⟩
  .cases a
  cases a;refine⟨aJ,(b.toList.drop o).take (Ty l*4),⟨?_,λi y=>?_⟩,λj u t=>?_⟩
  .rw[hH,ji];rcases jn (Ty l) with e|e
   .exact aD
   obtain⟨x,_,_,_,r,_⟩:=p (Ty l-1) aD;grind
  .grind [LV.mono]
  grind [Addr.add,World.cell?]
def LV.ofRow{F:bN}{b_:Nat}{v:aW}{xs:List Uf}(h:C.ownsRow b_ 130 4 v (Ty l) xs)(p:mM A F C xs l)(f:∀g,v.ownBlock=Ua g->F g)(r:l=[]->v=bO):LV (A+1) F C v l:=by
 by_cases a:l=[]
 .grind [LV]
 rcases h.2 with ⟨rfl,k⟩|⟨g,b,c,rfl,n,e,j,m,o,s⟩
 .grind
 refine ec ⟨g,0,b,c,a,aJ,j,f g aJ,e,λi q=>?_⟩
 grind [mM]
def Grow(F:bN)(w w':aN)(b:Nat):Prop:=F b\/(w.heap.size<=b/\b<w'.heap.size)
def Grow.uz{a:aN}(h:z A):Grow z C a A:=ed h
def Grow.lt{F:bN}{w w':aN}(c:∀b,F b->b<w.heap.size)(a:w.heap.size<=w'.heap.size):∀b,Grow F w w' b->b<w'.heap.size:=(by grind [Grow])
def RX(F:bN)(w:aN)(v:aW)(a:aE):Prop:=∃d,RV d F w v a
def RX.h_{w w':aN}{v:aW}{a:aE}(h:RX z w v a)(c:∀b,z b->w'.heap[b]?=w.heap[b]?):RX z w' v a:=by obtain⟨d,h⟩:=h;exact⟨d,h.h_ c⟩
def RX.mono{F G:bN}{w:aN}{v:aW}{a:aE}(h:RX F w v a)(c:∀b,F b->G b):RX G w v a:=by obtain⟨d,h⟩:=h;exact⟨d,h.mono c (aD)⟩
def CL(F:bN)(w:aN)(r:aE × Nat)(e:Ending)(w':aN):Prop:=
 (∃u,e=bY (fA u r.2)/\RX (Grow F w w') w' u r.1)/\R_ w w'
def Y6.Qg{r:aE × Nat}{e:Ending}{a:aN}(h:Y6 A z C r e a):CL z C r e a:=by obtain⟨⟨u,b,f⟩,c⟩:=h;exact⟨⟨u,b,A,(by grind [RV.mono,Grow])⟩,c⟩
def V9:(prog.info? 130).map (λi=>(i.zero,i.size,i.bytes))=Ua (Ua (Us #[Ux .i64 0,Ux .i64 0,Ur (bs []),Uq Ub 0 0]),4,56):=k_
def xH{r:Array Oper}{g:List Oper}{o:Oper}{a:Act}{Q:Exit->Act->Ug->Prop}(p:o.guard=Ub)(s x:Operand)
 (E:o.op=.call { callee:=.builtin .append,args:= #[s,x],argTypes:= #[128,128] })
 (e:Nat) (v:Uf) (l m:List aE) (n:List Uf) (d:Nat) (F:Nat->Prop) (H:a.eval s=v) (f:R.ownsRow e 130 4 v (Ty l) n) (M:mM d F R n l)
 (G:Uf) (J:a.eval x=G) (A:LV d F R G m) (P:∀b,F b->b<R.heap.size/\v.ownBlock≠Ua b) (C:Ty l+Ty m<=1000000000) (i:e<=R.heap.size) (S:l=[]->v=Uq Ub 0 0)
 (h:∀q k t,k.ownsRow e 130 4 q (Ty (l++m)) t->mM d F k t (l++m)->R.grownBy k v.ownBlock->(l++m=[]->q=Uq Ub 0 0)->wpList prog r Q g (a.put o.dst q) k):
 wpList prog r Q (o::g) a R:=by
 obtain⟨D,I,j⟩:=ka.1 V9;have hz0 :=(gn j).1;have hz1 :=(gn (gn j).2).1;have hz2 :=(gn (gn j).2).2;obtain⟨N,c,rfl⟩:=A.slice;cases N with
 |none=>
  obtain⟨u,rfl,rfl⟩:=A.Di;refine wpList_append_own_none p s x 128 E e 130 D 4 underlying128 I v (Ty l) n H f J ?_;exact h v R n G_ G_ ⟨rfl,rfl,rfl,o_,s_⟩ (G_)
 |some L=>
  obtain⟨u,t,y,O⟩:=A.row;refine wpList_append_own _ p s x 128 E e 130 D _ 4 56 underlying128 I hz0 hz1 hz2 rfl d_ v (Ty l) n H f L (Ty m) c t J y.1 O y.zh (by unfold maxLen;omega) o_ i ?_
  intro q k z K B;exact h q k (n++t) G_ ((M.append y).h_ mz) K (G_)
theorem Below.tj{a:Ug}(h:Below A R a)(g:A<=D)(f e d c:Uf):Below A R (Tz (Tz (Tz (Tz a ⟨D,0,Ub⟩ f) ⟨D,1,Ub⟩ e) ⟨D,2,Ub⟩ d) ⟨D,3,Ub⟩ c):=
 (by grind [Below.setCell])
theorem bM(w:Ug)(o:Obj)(h:A=w.heap.size):(w.alloc o).heap[A]?=Ua o:=by
 subst h;show (w.heap.push o)[w.heap.size]?=_
 simp
def kR{w:Ug}{b:Nat}{d a:Uf}(h:w.heap[b]?=Ua (Uy #[o,d,p,a] n (0,0))):
 b<w.heap.size/\T_ w ⟨b,0,Ub⟩=Ua o/\T_ w ⟨b,1,Ub⟩=Ua d/\T_ w ⟨b,2,Ub⟩=Ua p/\T_ w ⟨b,3,Ub⟩=Ua a/\w.frozen? ⟨b,0,Ub⟩=Uc/\w.frozen? ⟨b,1,Ub⟩=Uc/\w.frozen? ⟨b,2,Ub⟩=Uc/\w.frozen? ⟨b,3,Ub⟩=Uc:=
 (by grind [aA,aF])
theorem dF(w:Ug)(h:D≠A)(e d c a:Uf):(Tz (Tz (Tz (Tz w ⟨A,0,Ub⟩ e) ⟨A,1,Ub⟩ d) ⟨A,2,Ub⟩ c) ⟨A,3,Ub⟩ a).heap[D]?=w.heap[D]?:=by grind [em]
def rC{u2 u3:Uf}(h:R.heap[A]?=Ua (Uy #[o,p,u2,u3] n (0,0)))(e d c a:Uf):(Tz (Tz (Tz (Tz R ⟨A,0,Ub⟩ e) ⟨A,1,Ub⟩ d) ⟨A,2,Ub⟩ c) ⟨A,3,Ub⟩ a).heap[A]?=Ua (Uy #[e,d,c,a] n (0,0)):=by have k:=aP (i:=0) (u:=e) h;have j:=aP (i:=1) (u:=d) k;have g:=aP (i:=2) (u:=c) j;have l:=aP (i:=3) (u:=a) g;exact l
def PQ{F:Nat->Prop}(h:RX F R o m)(g:RX F R p b):∃d e c,o=Us #[Ux .i64 m.c_,Ux .i64 m.n,Ur (bs m.s),e]/\p=Us #[Ux .i64 b.c_,Ux .i64 b.n,Ur (bs b.s),c]/\LV d F R e m.l/\LV d F R c b.l:=by obtain⟨i,e,rfl,k⟩:=h;obtain⟨f,c,rfl,j⟩:=g;exact⟨i+f,e,c,rfl,rfl,(by grind [LV.mono]),(by grind [LV.mono])⟩
def TN(F:Nat->Prop)(u v:Uf)(a b:aE)(w:Ug)(h:RX F w u a)(h':RX F w v b)(hF:∀b,F b->b<w.heap.size)(ca:aK a<=1000000)(ck:aK b<=1000000):
 Ue prog 237 #[u,v] w (CL F w (gA a b)):=by
 obtain⟨d,lv,cg,rfl,rfl,hl,ag⟩:=PQ h h';clear h h';obtain⟨x,c,rfl⟩:=hl.slice;obtain⟨H,G,rfl⟩:=ag.slice;have bf:=dE a;have T:=dE b;have bt:=jJ a.l;have bx:=jJ b.l;have ch:Ty a.s<=1000000:=o_
 have ci:Ty b.s<=1000000:=o_
 have bv:Ty a.l+Ty b.l<=1000000000:=o_
 have q5:=nE a.s b.s;have cb:=iT;by_cases h3:a.c_=3
 .have e3:((a.c_:Int)==3)=Ud:=by simp[h3]
  have s:Hid (gA a b=if 200<aK (bG (a.l++b.l))then (aY,6)else (bG (a.l++b.l),0)):=by show _=_;grind [gA]
  have M:Hid (Below w.heap.size w (T6 (T6 (T6 (T6 (T6 w (Uy #[Ux .i64 a.c_,Ux .i64 a.n,Ur (bs a.s),Uq x (Ty a.l) c] 130)) (Uy #[Ux .i64 b.c_,Ux .i64 b.n,Ur (bs b.s),Uq H (Ty b.l) G] 130)) (Uy #[Ux .i64 0,Ux .i64 0,Ur ⟨#[]⟩,Uq Ub 0 0] 130)) (Uy #[Ux .i64 2,Ux .i64 0,Ur (bs (a.s++b.s)),Uq Ub 0 0] 130)) (Uy #[Ux .i64 2,Ux .i64 0,Ur (bs (a.s++b.s)),Uq Ub 0 0] 130))):=by show Below _ _ _;go_grown
  have al:LV d F (T6 (T6 (T6 (T6 (T6 w (Uy #[Ux .i64 a.c_,Ux .i64 a.n,Ur (bs a.s),Uq x (Ty a.l) c] 130)) (Uy #[Ux .i64 b.c_,Ux .i64 b.n,Ur (bs b.s),Uq H (Ty b.l) G] 130)) (Uy #[Ux .i64 0,Ux .i64 0,Ur ⟨#[]⟩,Uq Ub 0 0] 130)) (Uy #[Ux .i64 2,Ux .i64 0,Ur (bs (a.s++b.s)),Uq Ub 0 0] 130)) (Uy #[Ux .i64 2,Ux .i64 0,Ur (bs (a.s++b.s)),Uq Ub 0 0] 130)) (Uq x (Ty a.l) c) a.l:=(by grind [LV.h_,eg,d7])
  have S:LV d F (T6 (T6 (T6 (T6 (T6 w (Uy #[Ux .i64 a.c_,Ux .i64 a.n,Ur (bs a.s),Uq x (Ty a.l) c] 130)) (Uy #[Ux .i64 b.c_,Ux .i64 b.n,Ur (bs b.s),Uq H (Ty b.l) G] 130)) (Uy #[Ux .i64 0,Ux .i64 0,Ur ⟨#[]⟩,Uq Ub 0 0] 130)) (Uy #[Ux .i64 2,Ux .i64 0,Ur (bs (a.s++b.s)),Uq Ub 0 0] 130)) (Uy #[Ux .i64 2,Ux .i64 0,Ur (bs (a.s++b.s)),Uq Ub 0 0] 130)) (Uq H (Ty b.l) G) b.l:=(by grind [LV.h_,eg,d7])
  have ac:aK (bG (a.l++b.l))=1+((a.l.map aK).sum+(b.l.map aK).sum):=by rw[dE];simp[bG]
  have Q:aK (bG (a.l++b.l))<=1000000000:=o_
  have ax:=aB al;have W:=aB S;have HF:=aB hF;clear hl ag bf T hF ac h3 al S;obtain⟨k,aa⟩:∃k,aK (bG (a.l++b.l))=k:=(by simp)
  rw[aa]at Q s;have HK:=aB aa;clear aa;generalize gA a b=r at*;go_enter func237,ntmps237;have aw:∀q,F q->q<(T6 (T6 (T6 (T6 (T6 w (Uy #[Ux .i64 a.c_,Ux .i64 a.n,Ur (bs a.s),Uq x (Ty a.l) c] 130)) (Uy #[Ux .i64 b.c_,Ux .i64 b.n,Ur (bs b.s),Uq H (Ty b.l) G] 130)) (Uy #[Ux .i64 0,Ux .i64 0,Ur ⟨#[]⟩,Uq Ub 0 0] 130)) (Uy #[Ux .i64 2,Ux .i64 0,Ur (bs (a.s++b.s)),Uq Ub 0 0] 130)) (Uy #[Ux .i64 2,Ux .i64 0,Ur (bs (a.s++b.s)),Uq Ub 0 0] 130)).heap.size/\(Value.slice Ub 0 0).ownBlock≠Ua q:=λq f=>⟨ej (HF.out q f) M.out.size,og⟩
  have af:=aB aw;clear aw;go_wp2_with (first|(go_at_call 131;refine(AP _ _).mono ?_;rintro e E ⟨rfl,rfl⟩)|(at_builtin;refine xH r_ _ _ r_ (T6 (T6 (T6 (T6 (T6 w (Uy #[Ux .i64 a.c_,Ux .i64 a.n,Ur (bs a.s),Uq x (Ty a.l) c] 130)) (Uy #[Ux .i64 b.c_,Ux .i64 b.n,Ur (bs b.s),Uq H (Ty b.l) G] 130)) (Uy #[Ux .i64 0,Ux .i64 0,Ur ⟨#[]⟩,Uq Ub 0 0] 130)) (Uy #[Ux .i64 2,Ux .i64 0,Ur (bs (a.s++b.s)),Uq Ub 0 0] 130)) (Uy #[Ux .i64 2,Ux .i64 0,Ur (bs (a.s++b.s)),Uq Ub 0 0] 130)).heap.size (Uq Ub 0 0) [] a.l [] d F r_ (World.ownsRow_nil _ _ _ _) (mM.nil _ _ _) _ r_ ax.out af.out G_ (o_) (s_) ?_))
  intro v1 w2 bp l C z V;have be:=aB V;clear V;have A:Below (T6 (T6 (T6 (T6 (T6 w (Uy #[Ux .i64 a.c_,Ux .i64 a.n,Ur (bs a.s),Uq x (Ty a.l) c] 130)) (Uy #[Ux .i64 b.c_,Ux .i64 b.n,Ur (bs b.s),Uq H (Ty b.l) G] 130)) (Uy #[Ux .i64 0,Ux .i64 0,Ur ⟨#[]⟩,Uq Ub 0 0] 130)) (Uy #[Ux .i64 2,Ux .i64 0,Ur (bs (a.s++b.s)),Uq Ub 0 0] 130)) (Uy #[Ux .i64 2,Ux .i64 0,Ur (bs (a.s++b.s)),Uq Ub 0 0] 130)).heap.size (T6 (T6 (T6 (T6 (T6 w (Uy #[Ux .i64 a.c_,Ux .i64 a.n,Ur (bs a.s),Uq x (Ty a.l) c] 130)) (Uy #[Ux .i64 b.c_,Ux .i64 b.n,Ur (bs b.s),Uq H (Ty b.l) G] 130)) (Uy #[Ux .i64 0,Ux .i64 0,Ur ⟨#[]⟩,Uq Ub 0 0] 130)) (Uy #[Ux .i64 2,Ux .i64 0,Ur (bs (a.s++b.s)),Uq Ub 0 0] 130)) (Uy #[Ux .i64 2,Ux .i64 0,Ur (bs (a.s++b.s)),Uq Ub 0 0] 130)) w2:=⟨z.os,z.tape,z.output,z.size,(by grind [World.grownBy.block,Value.ownBlock])⟩
  obtain⟨bl,bo⟩:=ve A;have br:=A.size;have U:=aB (W.out.h_ λq f=>A.block q (af.out q f).1)
  have bd:Hid (∀q,F q->q<w2.heap.size/\v1.ownBlock≠Ua q):=λq f=>⟨mg,λe=>by have h1:=bX l q e;grind [d7]⟩
  have HOWN:=aB l;have HROW:=aB C;have K:=aB A;have bc:w.heap.size+1+1+1+1+1<=w2.heap.size:=by simpa using br
  clear l C z A ax W af;go_wp2_with (at_builtin;refine xH r_ _ _ r_ (w.heap.size+1+1+1+1+1) v1 a.l b.l bp d F r_ HOWN.out HROW.out _ r_ U.out bd.out bv bc be.out ?_)
  intro v2 p ce i B o ar;have ad:Below (w.heap.size+1+1+1+1+1) w2 p:=⟨o.os,o.tape,o.output,o.size,λk n=>o.block k o_ λe=>by have h1:=bX HOWN.out k e.symm;omega⟩
  have X:∀k,k<w.heap.size+1+1+1+1+1->p.heap[k]?=(T6 (T6 (T6 (T6 (T6 w (Uy #[Ux .i64 a.c_,Ux .i64 a.n,Ur (bs a.s),Uq x (Ty a.l) c] 130)) (Uy #[Ux .i64 b.c_,Ux .i64 b.n,Ur (bs b.s),Uq H (Ty b.l) G] 130)) (Uy #[Ux .i64 0,Ux .i64 0,Ur ⟨#[]⟩,Uq Ub 0 0] 130)) (Uy #[Ux .i64 2,Ux .i64 0,Ur (bs (a.s++b.s)),Uq Ub 0 0] 130)) (Uy #[Ux .i64 2,Ux .i64 0,Ur (bs (a.s++b.s)),Uq Ub 0 0] 130)).heap[k]?:=λk n=>(ad.block k n).trans (K.out.block k (by simpa using n))
  have ae:=(X (w.heap.size+1+1+1+1) o_).trans (bM _ _ s_)
  have Y:=(X (w.heap.size+1+1) o_).trans ((eh _ _ _ s_).trans ((eh _ _ _ s_).trans (bM _ _ s_)))
  obtain⟨g4,an,ai,ao,am,bg,au,ak,ap⟩:=kR ae;obtain⟨g2,L,J,N,I,bb,aq,av,ay⟩:=kR Y;have bn:=aB ae;have bk:=aB Y;clear ae Y;have bu:¬w.heap.size+1+1+1+1=p.heap.size:=o_
  have bw:¬w.heap.size+1+1=p.heap.size:=o_
  have cd:w.heap.size+1+1+1+1+1<=p.heap.size:=(by omega)
  have aj:Ty (a.l++b.l)=Ty a.l+Ty b.l:=ew;have ah:LV (d+1) (λq=>F q\/v2.ownBlock=Ua q) p v2 (a.l++b.l):=LV.ofRow (by rw[aj];exact i) (B.mono (G_) (o_)) (G_) G_
  clear ar;obtain⟨y,t,rfl⟩:=ah.slice
  have bh:∀q,(F q\/(Value.slice y (Ty (a.l++b.l)) t).ownBlock=Ua q)->q≠w.heap.size+1+1+1+1/\q≠w.heap.size+1+1/\q<p.heap.size:=λq f=>by
   rcases f with f|f
   .have:=HF.out q f;omega
   .have h1:=bX i q f;refine⟨o_,o_,?_⟩
    rcases i.2 with ⟨e,_⟩|⟨g,cl,cc,e,_,e2,_⟩
    .rw[e]at f;cases f
    .rw[e]at f;obtain rfl:g=q:=ft f;grind
  have bi:=aB ah;have bm:=aB (bX i);have O:=aB bh;have bq:=aB (M.out.trans ((K.out.trans (ad.mono s_)).mono M.out.size))
  clear i B o ad ah bh aj U bd HOWN HROW K bl bo X;generalize (Ty (a.l++b.l))=D at*;go_wp2_with (go_at_call 183;refine(CX _ _ _ _).mono ?_;rintro e E ⟨rfl,rfl⟩)
  have ab:∀q,(F q\/(Value.slice y D t).ownBlock=Ua q)->(T6 (Tz (Tz (Tz (Tz p ⟨w.heap.size+1+1+1+1,0,Ub⟩ (Ux .i64 3)) ⟨w.heap.size+1+1+1+1,1,Ub⟩ (Ux .i64 0)) ⟨w.heap.size+1+1+1+1,2,Ub⟩ (Ur (bs []))) ⟨w.heap.size+1+1+1+1,3,Ub⟩ (Uq y D t)) (Uy #[Ux .i64 3,Ux .i64 0,Ur (bs []),Uq y D t] 130)).heap[q]?=p.heap[q]?:=(by grind [d7,eh,dF])
  have HX:=aB (tW (d+1) (λq=>F q\/(Value.slice y D t).ownBlock=Ua q) (Us #[Ux .i64 3,Ux .i64 0,Ur (bs []),Uq y D t]) (bG (a.l++b.l)) (T6 (Tz (Tz (Tz (Tz p ⟨w.heap.size+1+1+1+1,0,Ub⟩ (Ux .i64 3)) ⟨w.heap.size+1+1+1+1,1,Ub⟩ (Ux .i64 0)) ⟨w.heap.size+1+1+1+1,2,Ub⟩ (Ur (bs []))) ⟨w.heap.size+1+1+1+1,3,Ub⟩ (Uq y D t)) (Uy #[Ux .i64 3,Ux .i64 0,Ur (bs []),Uq y D t] 130)) ⟨_,rfl,bi.out.h_ ab⟩ (λq f=>by have h1:=O.out q f;grind) (by rw[HK.out];exact Q))
  have Z:Hid (Below w.heap.size w (T6 (Tz (Tz (Tz (Tz p ⟨w.heap.size+1+1+1+1,0,Ub⟩ (Ux .i64 3)) ⟨w.heap.size+1+1+1+1,1,Ub⟩ (Ux .i64 0)) ⟨w.heap.size+1+1+1+1,2,Ub⟩ (Ur (bs []))) ⟨w.heap.size+1+1+1+1,3,Ub⟩ (Uq y D t)) (Uy #[Ux .i64 3,Ux .i64 0,Ur (bs []),Uq y D t] 130))):=by show Below _ _ _;exact(Below.tj bq.out o_ _ _ _ _).alloc t_ _
  refine HX.out.mono ?_;rintro e w7 ⟨rfl,m⟩;have b4:=m.block (w.heap.size+1+1+1+1) t_
  rw[eh _ _ _ t_,rC bn.out]at b4
  have b2:=m.block (w.heap.size+1+1) t_
  rw[eh _ _ _ t_,dF _ o_,bk.out]at b2
  have az:=aB ((bi.out.h_ ab).h_ λq f=>m.block q (by have h1:=O.out q f;grind))
  have bz:p.heap.size<=w7.heap.size:=by have h3:=m.size;simp at h3;omega
  have ba:=aB (Z.out.trans (m.mono Z.out.size));have cf:=m.size;clear m an ai ao am bg au ak ap L J N I bb aq av ay g4 g2 bu bw ab HX Z;obtain⟨g4,an,ai,ao,am,bg,au,ak,ap⟩:=kR b4;obtain⟨g2,L,J,N,I,bb,aq,av,ay⟩:=kR b2;have K:=aB b2;clear b4 b2;rw[HK.out];by_cases n:200<k
  .have ek:decide ((200:Int)<(k:Int))=Ud:=(by grind)
   rw[ef n]at s;clear n;go_wp2_with fail;exact bodyPost_ret (v:=fA (cK 0 0 []) 6) (by simp[results,results237,go_sem,L,J,N,I];rfl) rfl ⟨⟨_,by rw[s.out],0,by rw[s.out];exact RV.nil _ _ _⟩,Below.tj ba.out o_ _ _ _ _⟩
  .have ek:decide ((200:Int)<(k:Int))=Uc:=(by grind)
   rw[ea n]at s;clear n;go_wp2_with fail;refine bodyPost_ret (v:=fA (Us #[Ux .i64 3,Ux .i64 0,Ur (bs []),Uq y D t]) 0) (by simp[results,results237,go_sem,L,J,N,I]) rfl ⟨⟨_,by rw[s.out],d+1,?_⟩,Below.tj ba.out o_ _ _ _ _⟩
   rw[s.out];refine⟨_,rfl,LV.mono (λq f=>?_) (az.out.h_ λq f=>dF _ (O.out q f).2.1 _ _ _ _) (o_)⟩
   rcases f with f|f
   .exact ed f
   .have h1:=O.out q (ec f);have h2:=bm.out q f;exact ec ⟨o_,t_⟩
 .have e3:((a.c_:Int)==3)=Uc:=G_
  have ac:aK (bQ (a.s++b.s))=1+Ty (a.s++b.s):=by rw[dE];simp[bQ]
  have Q:aK (bQ (a.s++b.s))<=1000000000:=G_
  have HX:Hid (∀E,Ue prog 184 #[cK 2 0 (a.s++b.s)] E λe w'=>e=.returned (Ux .i64 (aK (bQ (a.s++b.s))))/\Below E.heap.size E w'):=λE=>tW 0 (λ_=>False) _ _ E (RV.str 0 _ E _) (s_) Q
  have s:Hid (gA a b=if 200<aK (bQ (a.s++b.s))then (aY,6)else (bQ (a.s++b.s),0)):=by show _=_;grind [gA]
  clear hl ag bf T hF ac h3 bt bx;generalize aK (bQ (a.s++b.s))=k at*;generalize gA a b=r at*;go_enter func237,ntmps237;go_wp2_with (go_at_call 131;refine(AP _ _).mono ?_;rintro e E ⟨rfl,rfl⟩)
  refine(HX.out _).mono ?_;rintro e E ⟨rfl,P⟩;obtain⟨bj,cm⟩:=ve P;have hz:=P.size;have cj:=aB P;have M:Hid (Below w.heap.size w (T6 (T6 (T6 (T6 (T6 w (Uy #[Ux .i64 a.c_,Ux .i64 a.n,Ur (bs a.s),Uq x (Ty a.l) c] 130)) (Uy #[Ux .i64 b.c_,Ux .i64 b.n,Ur (bs b.s),Uq H (Ty b.l) G] 130)) (Uy #[Ux .i64 0,Ux .i64 0,Ur ⟨#[]⟩,Uq Ub 0 0] 130)) (Uy #[Ux .i64 2,Ux .i64 0,Ur (bs (a.s++b.s)),Uq Ub 0 0] 130)) (Uy #[Ux .i64 2,Ux .i64 0,Ur (bs (a.s++b.s)),Uq Ub 0 0] 130))):=by show Below _ _ _;go_grown
  clear P;by_cases n:200<k
  .have ek:decide ((200:Int)<(k:Int))=Ud:=(by grind)
   rw[ef n]at s;clear n;go_wp2_with fail;exact bodyPost_ret (v:=fA (cK 0 0 []) 6) (by simp[results,results237,go_sem,bj];rfl) rfl ⟨⟨_,by rw[s.out],0,my⟩,nt⟩
  .have ek:decide ((200:Int)<(k:Int))=Uc:=(by grind)
   rw[ea n]at s;clear n;go_wp2_with fail;exact bodyPost_ret (v:=fA (cK 2 0 (a.s++b.s)) 0) (by simp[results,results237,go_sem,bj]) rfl ⟨⟨_,by rw[s.out],0,by grind [d7,RV.str]⟩,nt⟩
