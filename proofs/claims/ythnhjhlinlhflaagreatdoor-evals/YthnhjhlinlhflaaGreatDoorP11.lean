import Derived.Test.YthnhjhlinlhflaaGreatDoorB02
import Derived.Test.YthnhjhlinlhflaaGreatDoorP02
set_option linter.all false
set_option maxRecDepth 100000
set_option maxHeartbeats 0
open List renaming length->aA
open Go.World renaming setCell->c9,alloc->h_,cell?->i9
open Go renaming bodyPost_ret->Wi,Calls->Wn,Value->Wo,World->Wp
open Option renaming some->Wj,none->Wk
open Bool renaming false->Wl,true->Wm
open Go.Proofs.Tryz renaming prog->Ww
open Go.Value renaming slice->Wz,string->WD,agg->W1,tuple->Xa,bool->Xc,int->Xd
open Go.Obj renaming cells->Xe
namespace Go.Proofs.YthnhjhlinlhflaaGreatDoor
open Hs _root_.Go.Proofs.Tryz Go.RowKit
variable{G:Array Wo}{l:List aD}{C q z:Nat}{c:Type}{n:TypeId}{o p:Wo}{M:Wp}{b m:aD}{R i:aL}{T:aU}{y:bI}
structure SV where
 t:Nat
 x1:Option Addr
 x2:Option Addr
 x3:Option Addr
 n1:Nat
 n2:Nat
 n3:Nat
 c1:Nat
 c2:Nat
 c3:Nat
 q:Nat
def SV.cells(s:SV):Array Wo:=#[Y s.t,Wz s.x1 s.n1 s.c1,Wz s.x2 s.n2 s.c2,Wz s.x3 s.n3 s.c3,Y s.q]
def SV.val(s:SV):Wo:=W1 #[Y s.t,Wz s.x1 s.n1 s.c1,Wz s.x2 s.n2 s.c2,Wz s.x3 s.n3 s.c3,Y s.q]
def jH(W:aL)(b:Nat)(s:SV):aL:=c9 (c9 (c9 (c9 (c9 W (aJ b 0) (Y s.t)) (aJ b 1) (Wz s.x1 s.n1 s.c1)) (aJ b 2) (Wz s.x2 s.n2 s.c2)) (aJ b 3) (Wz s.x3 s.n3 s.c3)) (aJ b 4) (Y s.q)
def DZ{s:SV}{z:Nat×Nat}(h:R.heap[C]?=Wj (Xe G n z)):(jH R C s).heap[C]?=Wj (Xe (((((G.setIfInBounds 0 (Y s.t)).setIfInBounds 1 (P_ s.x1 s.n1 s.c1)).setIfInBounds 2 (P_ s.x2 s.n2 s.c2)).setIfInBounds 3 (P_ s.x3 s.n3 s.c3)).setIfInBounds 4 (Y s.q)) n z):=(by grind[aN,jH])
def wQ{s:SV}{z:Nat×Nat}(h:R.heap[C]?=Wj (Xe G n z))(a:G.size=5):(jH R C s).heap[C]?=Wj (Xe s.cells n z):=by rw[DZ h];have ⟨l⟩:=G;match l,a with|[e,f,g,i,d],_=>rfl
def pW{W V:aL}{s:SV}(h:W.heap[C]?=Wj (Xe G n))(e:5<=G.size)(d:V.heap[C]?=(jH W C s).heap[C]?):i9 V (aJ C 0)=Wj (Y s.t)/\i9 V (aJ C 1)=Wj (Wz s.x1 s.n1 s.c1)/\i9 V (aJ C 2)=Wj (Wz s.x2 s.n2 s.c2)/\i9 V (aJ C 3)=Wj (Wz s.x3 s.n3 s.c3)/\i9 V (aJ C 4)=Wj (Y s.q):=by
 have a:=d.trans (DZ (s:=s) h);obtain⟨l⟩:=G;rcases l with _|⟨g,_|⟨i,_|⟨j,_|⟨k,_|⟨f,r⟩⟩⟩⟩⟩;case cons.cons.cons.cons.cons=>exact⟨aB a s_,aB a s_,aB a s_,aB a s_,aB a s_⟩
 all_goals simp at e
theorem iZ(W:aL)(b:Nat)(s:SV)(k:Nat)(h:k≠b):(jH W b s).heap[k]?=W.heap[k]?:=by unfold jH;grind[eh]
theorem oH(W:aL)(b:Nat)(s:SV):(jH W b s).heap.size=H_ W/\(jH W b s).os=W.os/\(jH W b s).tape=W.tape/\(jH W b s).output=W.output:=by grind[World.setCell,jH]
attribute [local go_sem] Oper.semAt_some
def SV.val_inj{a b:SV}(h:a.val=b.val):a=b:=by cases a;cases b;grind[SV.val]
def JI(w:aL)(Q:Nat)(s:SV)(P N:SV->Bool->Wp->Prop) (t:Hid (Wn Ww 174 #[s.val] (h_ (h_ w (bM s.cells 54)) (bM #[Y 0,bR,bR,bR,Y 0] 54)) λe f=>∃a ok,e=bP (Xa #[SV.val a,Xc ok])/\N a ok f)) (u:Hid (∀a W,N a Wl W->(∃c,W.heap[w.heap.size+1]?=Wj (bM c 54)/\5<=c.size)/\P a Wl (h_ (jH W (w.heap.size+1) a) (bM a.cells 54)))) (I:Hid (∀a W,N a Wm W->Wn Ww 18 #[aW Q,a.val] (h_ W (bM a.cells 54)) λe f=>e=eV/\f.heap[W.heap.size]?=Wj (bM a.cells 54)/\(∃c,f.heap[w.heap.size+1]?=Wj (bM c 54)/\5<=c.size)/\w.heap.size+1<W.heap.size/\P a Wm (jH f (w.heap.size+1) a))):Wn Ww 116 #[aW Q,s.val] w λe f=>∃a ok,e=bP (Xa #[SV.val a,Xc ok])/\P a ok f:=by
 unfold SV.val SV.cells at t;unfold SV.val;go_in;go_wp;apply t.mono;rintro e o ⟨a,ok,rfl,r⟩;cases ok;.have ⟨⟨c,b,m⟩,p⟩:=u _ _ r;have n:=O p;unfold jH SV.cells at n;have A:=aB (i:=0) b (ft Z);have G:=aB (i:=1) b (ft Z);have y:=aB (i:=2) b (ft Z);have M:=aB (i:=3) b (ft Z);have F:=aB (i:=4) b (ft Z);have x:=aE (i:=0) b;have z:=aE (i:=1) b;have J:=aE (i:=2) b;have L:=aE (i:=3) b;have K:=aE (i:=4) b;have l3:=aH b;have n1:o.heap.size≠w.heap.size+1:=Z;have q:=pW (W:=o) (V:=h_ (jH o (w.heap.size+1) a) (bM a.cells 54)) (s:=a) b m ((by grind[ed,oH]));have j:=O q;unfold jH SV.cells at j;clear p r t u I b q;go_wp21;have d:=j.out;have k:=n.out;clear j n A G y M F x z J L K;generalize (c9 (c9 (c9 (c9 (c9 o (aJ (w.heap.size+1) 0) (Y a.t)) (aJ (w.heap.size+1) 1) (P_ a.x1 a.n1 a.c1)) (aJ (w.heap.size+1) 2) (P_ a.x2 a.n2 a.c2)) (aJ (w.heap.size+1) 3) (P_ a.x3 a.n3 a.c3)) (aJ (w.heap.size+1) 4) (Y a.q)).alloc (bM #[Y a.t,P_ a.x1 a.n1 a.c1,P_ a.x2 a.n2 a.c2,P_ a.x3 a.n3 a.c3,Y a.q] 54)=W3 at d k⊢;obtain⟨B,C,E,H,D⟩:=d;exact Wi (v:=Xa #[W1 #[Y a.t,P_ a.x1 a.n1 a.c1,P_ a.x2 a.n2 a.c2,P_ a.x3 a.n3 a.c3,Y a.q],Xc Wl]) (by simp[results,results116,go_sem,B,C,E,H,D]) rfl G_
 have g:=O (I _ _ r);unfold SV.val SV.cells at g;clear r t u I;go_wp2_with fail;refine g.mono ?_;rintro e S ⟨rfl,l,⟨c,b,m⟩,l1,p⟩;have n:=O p;unfold jH at n;have d0:=aB (i:=0) l i_;have X:=aB (i:=1) l i_;have T:=aB (i:=2) l i_;have U:=aB (i:=3) l i_;have d4:=aB (i:=4) l i_;have A:=aB (i:=0) b (ft Z);have G:=aB (i:=1) b (ft Z);have y:=aB (i:=2) b (ft Z);have M:=aB (i:=3) b (ft Z);have F:=aB (i:=4) b (ft Z);have x:=aE (i:=0) b;have z:=aE (i:=1) b;have J:=aE (i:=2) b;have L:=aE (i:=3) b;have K:=aE (i:=4) b;have l3:=aH b;have l4:=aH l;have n1:o.heap.size≠w.heap.size+1:=Z;have q:=pW (W:=S) (s:=a) b m i_;have j:=O q;unfold jH at j;clear p g l b q;go_wp21;have d:=j.out;have k:=n.out;clear j n A G y M F x z J L K d0 X T U d4;generalize (c9 (c9 (c9 (c9 S (aJ (w.heap.size+1) 0) (Y a.t)) (aJ (w.heap.size+1) 1) (P_ a.x1 a.n1 a.c1)) (aJ (w.heap.size+1) 2) (P_ a.x2 a.n2 a.c2)) (aJ (w.heap.size+1) 3) (P_ a.x3 a.n3 a.c3)).setCell (aJ (w.heap.size+1) 4) (Y a.q)=W3 at d k⊢;obtain⟨B,C,E,H,D⟩:=d;exact Wi (v:=Xa #[W1 #[Y a.t,P_ a.x1 a.n1 a.c1,P_ a.x2 a.n2 a.c2,P_ a.x3 a.n3 a.c3,Y a.q],Xc Wm]) (by simp[results,results116,go_sem,B,C,E,H,D]) rfl G_
section
variable {P:Program} {ops:Array Oper} {Q:Exit->Act->Wp->Prop} {md:Region.Mode} {S:lF} {o:Oper} {v:aU} {fuel:Nat} {listed:Array Bool} {a:Act} {w:aL}
def fV(i:Nat)(h:wpAnyH P md ops Q S fuel (listed.setIfInBounds i Wm) (a.put o.dst v) w)(l:ops[i]?=Wj o:=by rfl)(j:Region.noSelect ops=Wm:=by kernel_rfl)(d:Region.free md ops listed i=Wm:=by kernel_rfl)(g:(Region.ready md ops listed).contains i=Wm:=by kernel_rfl) (k:∀c a w,Q (.panic c) (a.put o.dst v) w->Q (.panic c) a w:=by exact λ_ _ _ h=>h) (e:YieldsIf P ops S o v a:=by(refine ea ⟨r_,?_⟩;intro w b;(try dsimp only at b);go_simp<;>with_reducible rfl)) (f:S w:=by assumption):wpAnyH P md ops Q S (fuel+1) listed a w:=wpAnyH_take l j d g k e f h
def yU(i:Nat)(h:∀b:Act->Wp->Prop,Shut (∀a w,S w->(S w->wpAnyH P md ops Q S fuel (listed.setIfInBounds i Wm) a w)->b a w)->if Region.wanted o (yielded ops a.tmps)=Wm then Oper.wp P o a w b Q else b (a.put o.dst undef) w)(c:ops[i]?=Wj o:=by rfl)(d:Region.ready md ops listed=[i]:=by kernel_rfl):wpAnyH P md ops Q S (fuel+1) listed a w:=wpAnyH_ready d s_ (AllReadyH.cons c h AllReadyH.nil)
def Cg(i j:Nat){c:Oper}(h:∀b:Act->Wp->Prop,Shut (∀a w,S w->(S w->wpAnyH P md ops Q S fuel (listed.setIfInBounds i Wm) a w)->b a w)->if Region.wanted o (yielded ops a.tmps)=Wm then Oper.wp P o a w b Q else b (a.put o.dst undef) w) (e:∀b:Act->Wp->Prop,Shut (∀a w,S w->(S w->wpAnyH P md ops Q S fuel (listed.setIfInBounds j Wm) a w)->b a w)->if Region.wanted c (yielded ops a.tmps)=Wm then Oper.wp P c a w b Q else b (a.put c.dst undef) w) (f:ops[i]?=Wj o:=by rfl) (d:ops[j]?=Wj c:=by rfl) (g:Region.ready md ops listed=[i,j]:=by kernel_rfl):wpAnyH P md ops Q S (fuel+1) listed a w:=wpAnyH_ready g s_ (AllReadyH.cons f h (AllReadyH.cons d e AllReadyH.nil))
end
def LV:Nat->(Nat->Prop)->Wp->Wo->List aD->Prop|0,_,_,lv,l=>l=[]/\lv=bR|d+1,F,w,lv,l=>(l=[]/\lv=bR)\/∃g o cap cur,l≠[]/\lv=Wz (Wj (aJ g o)) (aA l) cap/\aA l<=cap/\F g/\w.heap[g]?=Wj (Xe cur 131)/\∀i (h:i<aA l),∃kv,cur[o+i*4]?=Wj (Y l[i].c_)/\cur[o+i*4+1]?=Wj (Y l[i].n)/\cur[o+i*4+2]?=Wj (WD (bs l[i].s))/\cur[o+i*4+3]?=Wj kv/\LV d F w kv l[i].l
def RV(d:Nat)(F:bI)(w:aL)(v:aU)(a:aD):Prop:=∃lv,v=W1 #[Y a.c_,Y a.n,WD (bs a.s),lv]/\LV d F w lv a.l
theorem LV.empty(d:Nat)(F:bI)(w:aL):LV d F w (bR) []:=by cases d with|zero=>exact⟨i_,i_⟩|succ d=>exact ea s_
theorem LV.mono{F G:bI}{w:aL}(k:∀b,F b->G b):∀{d e:Nat}{v:aU}{l:List aD},LV d F w v l->d<=e->LV e G w v l|0,e,v,l,⟨j,f⟩,_=>by grind[LV.empty]|d+1,0,_,_,_,h=>by omega|d+1,e+1,v,l,h,q=>by rcases h with h|⟨g,o,a,c,n,j,f,u,r,s⟩;exact ea h;refine dv ⟨g,o,a,c,n,j,f,k _ u,r,λi y=>?_⟩;obtain⟨x,m,z,p,A,t⟩:=s i y;exact⟨x,m,z,p,A,LV.mono k t Z⟩
theorem LV.j_{F:bI}{w w':aL}(k:∀b,F b->w'.heap[b]?=w.heap[b]?):∀{d:Nat}{v:aU}{l:List aD},LV d F w v l->LV d F w' v l|0,v,l,h=>h|d+1,v,l,h=>by rcases h with h|⟨g,o,a,c,j,n,f,r,y,p⟩;exact ea h;refine dv ⟨g,o,a,c,j,n,f,r,G_,λi t=>?_⟩;obtain⟨s,e,u,m,x,q⟩:=p i t;exact⟨s,e,u,m,x,LV.j_ k q⟩
theorem LV.slice{d:Nat}{F:bI}{w:aL}{v:aU}(h:LV d F w v l):∃x c,v=Wz x (aA l) c:=by cases d with|zero=>grind[LV]|succ d=>grind[LV]
def LV.Dy(h:LV C y R (Wz Wk z q) l):z=0/\q=0/\l=[]:=by cases C with|zero=>grind[LV]|succ C=>grind[LV]
def LV.isNil(h:LV C y R T []):T=bR:=by cases C with|zero=>exact h.2|succ C=>grind[LV]
def LV.elem{d:Nat}{x:Option Addr}(h:LV d y R (Wz x C z) l)(i:Nat)(k:i<aA l):∃e g o a,d=e+1/\C=aA l/\x=Wj (aJ g o)/\aA l<=z/\y g/\i9 R (aJ g (o+i*4))=Wj (Y l[i].c_)/\i9 R (aJ g (o+i*4+1))=Wj (Y l[i].n)/\i9 R (aJ g (o+i*4+2))=Wj (WD (bs l[i].s))/\i9 R (aJ g (o+i*4+3))=Wj a/\LV e y R a l[i].l:=by cases d with|zero=>grind[LV]|succ d=>rcases h with ⟨rfl,_⟩|⟨g,o,f,j,p,b,m,s,q,r⟩;simp at k;cases b;grind[World.cell?]
def RV.j_{d:Nat}{F:bI}{w w':aL}{v:aU}{a:aD}(h:RV d F w v a)(c:∀b,F b->w'.heap[b]?=w.heap[b]?):RV d F w' v a:=by grind[LV.j_,RV]
theorem RV.mono{d:Nat}{F G:bI}{w:aL}{v:aU}{a:aD}(h:RV d F w v a)(f:∀b,F b->G b)(c:d<=C):RV C G w v a:=by grind[LV.mono,RV]
def MR(l:List aD)(k:Nat)(h:k<aA l):((l.take (k+1)).map aI).sum=((l.take k).map aI).sum+aI l[k]:=by grind[List.take_succ_eq_append_getElem]
theorem EX(l:List aD)(k:Nat):((l.take k).map aI).sum<=(l.map aI).sum:=by grind[List.take_append_drop]
def BH(l:List aD)(h:m∈l):aI m<=(l.map aI).sum:=by induction l with|nil=>simp at h|cons y l a=>grind
theorem jS(l:List aD):aA l<=(l.map aI).sum:=by induction l with|nil=>simp|cons y l a=>grind[dG]
def zZ:∀(d:Nat) (F:bI) (v:aU) (a:aD) (w:aL),RV d F w v a->(∀b,F b->b<H_ w)->aI a<=1000000000->Wn Ww 184 #[v] w λe w'=>e=bP (Y (aI a))/\cB w w':=by
 intro d;induction d using Nat.strongRecOn with|_ d L=>
  intro F v a w h I hc;obtain⟨lv,rfl,A⟩:=h;obtain⟨x,c,rfl⟩:=A.slice;have p:=dG a;have T:(bs a.s).size=aA a.s:=by simp[bs,ByteArray.size]
  have M:aA a.s<=1000000000:=Z;have D:=jS a.l;have U:aA a.l<=1000000000:=Z;have HL:=O A;have N:=O I;have X:=O L;have l:=O p;clear A I L p D;go_in;go_wp2;go_loopg [3,4,5] (aA a.l) (λgk V iv _ wr=>∃k:Nat,k+gk=aA a.l/\iv=Y k/\V=Y ((1+aA a.s+((a.l.take k).map aI).sum:Nat):Int)/\cB w wr/\H_ w<H_ wr/\i9 wr (aJ (H_ w) 3)=Wj (Wz x (aA a.l) c));case atStart=>exact⟨0,Z,rfl,s_,mq,s_,s_⟩
  case round=>
   obtain⟨k,hk,rfl,rfl,s,J,r⟩:=hrel;have t:=O s;clear s;by_cases i:k<aA a.l
   .obtain⟨j,rfl⟩:∃j,gk=j+1:=⟨gk-1,Z⟩;obtain⟨e,g,o,K,rfl,-,rfl,H,aa,P,Q,S,W,n⟩:=(HL.j_ (w':=wr) (by grind[ej,dz])).elem k i;have B:=BH a.l (ga i);have m:=MR a.l k i;have y:=EX a.l (k+1);have E:aI a.l[k]<=1000000000:=by have:=l.out;exact Z
    have f:1+aA a.s+((a.l.take k).map aI).sum+aI a.l[k]<=1000000000:=by have:=l.out;exact Z
    have HX:=O (X e Z F (W1 #[Y a.l[k].c_,Y a.l[k].n,WD (bs a.l[k].s),K]) a.l[k] wr ⟨K,rfl,n⟩ (λb s=>ef (N b s) t.size) E);have u:=O m;clear n m y B;generalize ((a.l.take k).map aI).sum=s0 at*;generalize aI a.l[k]=s1 at*;go_wp;refine rB HX λG f=>?_;have C:=O (t.trans (f.mono t.size));have z:H_ w<H_ G:=ef J f.size;have q:i9 G (aJ (H_ w) 3)=Wj (Wz (Wj (aJ g o)) (aA a.l) c):=by rw[f.cell (by exact J)];exact r
    clear f r P Q S W;go_wp2;go_roundg j;case measure=>exact Z
    case rel=>exact⟨k+1,Z,lj,by rw[u];go_num,C,z,q⟩
   obtain rfl:k=aA a.l:=Z;rw[iy]at*;go_wp2;go_ret;exact⟨by rw[l];rfl,t⟩
def Kc(x y:bS):((bs x).toList==(bs y).toList)=(x==y):=by rw[bA,bA]
def Mu{b:List (c->Bool)}{a:List c}(d:aA b=aA a):nV b a=Wm↔∀i (h:i<aA a),(b[i]'Z) a[i]=Wm:=by
 induction b generalizing a with|nil=>grind[nV]|cons f b e=>
  cases a with|nil=>simp at d|cons x a=>
   simp [nV];rw[e G_];constructor;rintro⟨j,g⟩ i k;cases i with|zero=>exact j|succ i=>exact g i G_
   intro h;exact⟨h 0 s_,λi k=>h (i+1) G_⟩
def J1(g:m.c_=b.c_)(f:m.n=b.n)(d:m.s=b.s)(l:aA m.l=aA b.l):cZ m b=Wm↔∀(i:Nat) x y,m.l[i]?=Wj x->b.l[i]?=Wj y->cZ x y=Wm:=by rw[sA];simp [g,f,d,beq_self_eq_true];rw[Mu G_];constructor;intro h i x y j e;obtain⟨c,rfl⟩:=ie.1 e;obtain⟨k,rfl⟩:=ie.1 j;simpa using h i c;intro h i c;simpa using h i (m.l[i]'Z) b.l[i] (ew Z) (ew c)
def J2{x y:aD}(d:m.l[C]?=Wj x)(c:b.l[C]?=Wj y)(h:cZ x y=Wl):cZ m b=Wl:=by grind[sX]
def SM(h:aA m.l≠aA b.l):cZ m b=Wl:=by grind[sX]
def x9:∀(d:Nat) (F:bI) (u v:aU) (a b:aD) (w:aL),RV d F w u a->RV d F w v b->(∀b,F b->b<H_ w)->aA a.l<=1000000000->aA b.l<=1000000000->(∀x∈a.l,aI x<=1000000000)->(∀x∈b.l,aI x<=1000000000)->Wn Ww 235 #[u,v] w λe w'=>e=bP (Xc (cZ a b))/\cB w w':=by
 intro d;induction d using Nat.strongRecOn with|_ d J=>
  intro F u v a b w h h' K ar au m r;obtain⟨lv,rfl,H⟩:=h;obtain⟨ap,rfl,f⟩:=h';obtain⟨x,c,rfl⟩:=H.slice;obtain⟨x',c',rfl⟩:=f.slice;have n:cB w (h_ (h_ w (Xe #[Y a.c_,Y a.n,WD (bs a.s),Wz x (aA a.l) c] 131)) (Xe #[Y b.c_,Y b.n,WD (bs b.s),Wz x' (aA b.l) c'] 131)):=((dw _ w).alloc (Z) _).alloc s_ _;have A:=O n;have t:=Kc a.s b.s;by_cases I:a.c_=b.c_;rotate_left
  .have e0:((a.c_:Int) !=(b.c_:Int))=Wm:=G_;have z:Hid (cZ a b=Wl):=by grind[sA]
   clear H f n K J t m r;have H0:=O I;clear I;go_in;go_wp2;go_ret;exact⟨rj,A⟩
  have e0:((a.c_:Int) !=(b.c_:Int))=Wl:=G_;by_cases h1:a.n=b.n;rotate_left
  .have e1:(a.n !=b.n)=Wm:=G_;have z:Hid (cZ a b=Wl):=by grind[sA]
   clear H f n K J t m r I;go_in;go_wp2;go_ret;exact⟨rj,A⟩
  have e1:(a.n !=b.n)=Wl:=G_;by_cases h2:a.s=b.s;rotate_left
  .have e2:((bs a.s).toList==(bs b.s).toList)=Wl:=G_;have z:Hid (cZ a b=Wl):=by grind[sA]
   clear H f n K J t m r I h1;go_in;go_wp2;go_ret;exact⟨rj,A⟩
  have e2:((bs a.s).toList==(bs b.s).toList)=Wm:=G_;by_cases h3:aA a.l=aA b.l;rotate_left;.have e3:((aA a.l:Int) !=(aA b.l:Int))=Wm:=G_;have z:=O (SM h3);clear H f n K J t m r I h1 h2;go_in;go_wp2;go_ret;exact⟨rj,A⟩
  have e3:((aA a.l:Int) !=(aA b.l:Int))=Wl:=G_;have HP:=O (J1 I h1 h2 h3);have HL:=O H;have ad:=O f;have P:=O K;have IH:=O J;have Q:=O m;have N:=O r;have H3:=O h3;clear H f K J t m r I h1 h2 h3 n;go_in;go_wp2;go_loopg [5,6] (aA a.l) (λgk iv _ wr=>∃k:Nat,k+gk=aA a.l/\iv=Y k/\Hid (∀i,i<k->∀p q,a.l[i]?=Wj p->b.l[i]?=Wj q->cZ p q=Wm)/\cB w wr/\H_ w+1<H_ wr/\i9 wr (aJ (H_ w) 3)=Wj (Wz x (aA a.l) c)/\i9 wr (aJ (H_ w+1) 3)=Wj (Wz x' (aA b.l) c'));case atStart=>exact⟨0,Z,rfl,λi hi=>by omega,A,s_,s_,s_⟩
  case round=>
   obtain⟨k,hk,rfl,hq,s,hz,aj,M⟩:=hrel;have E:=O s;clear s;by_cases B:k<aA a.l
   .obtain⟨j,rfl⟩:∃j,gk=j+1:=⟨gk-1,Z⟩;have l:k<aA b.l:=G_;obtain⟨e,g,o,kv,aq,-,rfl,ak,ao,c0,c1,c2,c3,U⟩:=(HL.j_ (w':=wr) λb s=>E.block b (P b s)).elem k B;obtain⟨e',g',o',V,al,-,rfl,ag,am,ab,ah,ac,ai,D⟩:=(ad.j_ (w':=wr) λb s=>E.block b (P b s)).elem k l;obtain rfl:e=e':=Z;have gx:a.l[k]?=Wj a.l[k]:=ew B;have gy:=ew l;have ma:∀y∈a.l[k].l,aI y<=1000000000:=λy hy=>by have:=Q _ (ga B);rw[dG]at this;have:=BH _ hy;exact Z
    have mb:∀y∈b.l[k].l,aI y<=1000000000:=λy hy=>by have:=N _ (ga l);rw[dG]at this;have:=BH _ hy;exact Z
    have na:a.l[k].l.length<=1000000000:=by have:=Q _ (ga B);rw[dG]at this;have:=jS a.l[k].l;exact Z
    have nb:b.l[k].l.length<=1000000000:=by have:=N _ (ga l);rw[dG]at this;have:=jS b.l[k].l;exact Z
    have HX:Hid (∀L,cB wr L->Wn Ww 235 #[W1 #[Y a.l[k].c_,Y a.l[k].n,WD (bs a.l[k].s),kv],W1 #[Y b.l[k].c_,Y b.l[k].n,WD (bs b.l[k].s),V]] L λe w'=>e=bP (Xc (cZ a.l[k] b.l[k]))/\cB L w'):=λL G=>IH e Z F _ _ a.l[k] b.l[k] L ⟨kv,rfl,U.j_ λb s=>G.block b (ef (P b s) E.size)⟩ ⟨V,rfl,D.j_ λb s=>G.block b (ef (P b s) E.size)⟩ (λb s=>ef (P b s) (em E.size G.size)) na nb ma mb;have GX:=O gx;have GY:=O gy;clear U D gx gy ma mb na nb;generalize a.l[k]=p at*;generalize b.l[k]=q at*;generalize hs:cZ p q=sb at*;have ae:=O hs;clear hs;go_wp2;go_cut [6] (λsv wc=>sv=Xc sb/\cB w wc/\H_ w+1<H_ wc/\i9 wc (aJ (H_ w) 3)=Wj (Wz (Wj (aJ g o)) (aA a.l) c)/\i9 wc (aJ (H_ w+1) 3)=Wj (Wz (Wj (aJ g' o')) (aA b.l) c'));case first=>go_region_law (go_simp;go_at_call 235;refine rB (HX _ (by exact(dw _ _).drew)) λL X=>?_;have C:=O X;clear X);all_goals go_wp;go_meet;case rel=>exact⟨i_,E.trans ((dw _ _).drew.trans (C.mono E.size)),ef hz C.size,by rw[C.cell (by show H_ w<H_ wr;exact Z)];exact aj,by rw[C.cell (by show H_ w+1<H_ wr;exact Z)];exact M⟩
    case rest=>
     obtain⟨rfl,S,af,hd,aa⟩:=hcut;have T:=O S;have HQ:=hq;clear S HX hq c0 c1 c2 c3 ab ah ac ai;cases sb with|false=>have z:=O (J2 GX GY ae);go_wp2;go_ret;exact⟨rj,T⟩|true=>
      go_wp2;go_roundg j;case measure=>exact Z
      case rel=>exact⟨k+1,Z,lj,λi hi p' q' an W=>by grind[dz],T,af,hd,aa⟩
   obtain rfl:k=aA a.l:=Z;have z:=HP.2 λi p q hp W=>hq.out i G_ p q hp W;clear hq;go_wp2;go_ret;exact⟨rj,E⟩
def He(z:Int)(w:aL):(convert 192 9 (Wz (Wj (aJ (H_ w) 0)) 1 1)).run Ww (h_ w (Xe #[Xd .u8 z] 5))=.ok (WD (strOfNums [z])) (h_ w (Xe #[Xd .u8 z] 5)):=run_convert_bytes_arg _ 192 5 underlying192 underlying5 (H_ w) 0 1 1 [z] rfl (s_) 9 underlying9
theorem nI(a b:bS):bs a++bs b=bs (a++b):=by grind[UA,kH,ByteArray.data_append]
def yL(z:Int)(d:Nat)(a:z=48+d)(t:bS):strOfNums [z]++bs t=bs (UInt8.ofNat (48+d)::t):=by
 have e:strOfNums [z]=bs [UInt8.ofNat (48+d)]:=by grind[UA,strOfNums_data,kH]
 rw[e,nI];rfl
def Ip(t:bS):(⟨#[45]⟩:ByteArray)++bs t=bs (45::t):=nI [45] t
def JT(m:Int):(m.tmod 10<0->-m.tmod 10=(m.natAbs%10:Nat))/\(¬m.tmod 10<0->m.tmod 10=(m.natAbs%10:Nat))/\(m.tdiv 10).natAbs=m.natAbs/10:=by grind
def MK(n:Int)(w:aL)(E:-9223372036854775808<=n)(v:n<=9223372036854775807):Wn Ww 137 #[Y n] w λe u=>e=bP (WD (bs (jV n)))/\cB w u:=by
 have Q:=He;have C:=iU;have M:=Ip;have B:∀z,(strOfNums [z]).size=1:=λz=>strOfNums_size [z];go_in;go_wp2;go_loopg [0,3,5] 20 (λgk J A _ wr=>∃(m:Int) (t:bS),J=Y m/\A=WD (bs t)/\-9223372036854775808<=m/\m<=9223372036854775807/\1<=gk/\gk<=20/\Hid (m.natAbs<10^gk)/\aA t<=20-gk/\Hid (jD gk m.natAbs t=jD 20 n.natAbs [])/\cB w wr);case atStart=>exact⟨n,[],i_,i_,E,v,Z,Z,by show n.natAbs<10^20;exact Z,s_,rfl,dw _ _⟩
 case round=>
  obtain⟨m,t,rfl,rfl,F,I,G,H,p,y,l,q⟩:=hrel;have f:=O q;obtain⟨j,rfl⟩:∃j,gk=j+1:=⟨gk-1,Z⟩;have ⟨t1,t2,t3⟩:=JT m;have i:m.natAbs%10<10:=Z;have ⟨g,hdd⟩:∃g,g=m.natAbs%10:=(by simp);rw[<-hdd]at t1 t2 i;have S:-9<=m.tmod 10:=Z;have U:m.tmod 10<=9:=Z;have s:aA t<=1000:=Z;have K:=O t3;have D:=O hdd;have ⟨o,hdg⟩:∃o,o=UInt8.ofNat (48+g):=(by simp);have T:-9223372036854775808<=m.tdiv 10/\m.tdiv 10<=9223372036854775807:=Z;by_cases r:m.tdiv 10=0
  .have HFIN:Hid (jV n=(if n<0 then [45]else [])++(o::t)):=by show _=_;have b:m.natAbs<10:=Z;have h:=l.out;rw[jD,ec b]at h;unfold jV;rw[<-h,hdg,hdd,Nat.mod_eq_of_lt b]
   have N:(m.tdiv 10==0)=Wm:=G_;clear r l q t3 hdd;by_cases a:m.tmod 10<0
   .have c:=yL (48+-m.tmod 10) g (by rw[t1 a]);rw[<-hdg]at c;clear t1 t2 hdg;by_cases k:n<0;.have d:=O k;go_wp2;go_ret;exact⟨by rw[HFIN.out,ec d.out];rfl,f.out.alloc f.out.size _⟩
    have d:=O k;go_wp2;go_ret;exact⟨by rw[HFIN.out,dy Z];rfl,f.out.alloc f.out.size _⟩
   have c:=yL (48+m.tmod 10) g (by rw[t2 a]);rw[<-hdg]at c;clear t1 t2 hdg;by_cases k:n<0;.have d:=O k;go_wp2;go_ret;exact⟨by rw[HFIN.out,ec d.out];rfl,f.out.alloc f.out.size _⟩
   have d:=O k;go_wp2;go_ret;exact⟨by rw[HFIN.out,dy Z];rfl,f.out.alloc f.out.size _⟩
  have b:¬m.natAbs<10:=Z;have x:Hid (1<=j/\(m.tdiv 10).natAbs<10^j/\jD j (m.tdiv 10).natAbs (o::t)=jD 20 n.natAbs []):=by
   have h:=l.out;have L:=p.out;rw[jD,dy b,<-hdd,<-t3,<-hdg]at h;rw[Nat.pow_succ]at L;have P:1<=j:=by grind
   exact⟨P,Z,h⟩
  have N:(m.tdiv 10==0)=Wl:=G_;clear r l q t3 hdd b;by_cases a:m.tmod 10<0
  .have c:=yL (48+-m.tmod 10) g (by rw[t1 a]);rw[<-hdg]at c;clear t1 t2 hdg;go_wp2;go_roundg j;case measure=>exact Z
   grind[dz,eo,Below.size]
  have c:=yL (48+m.tmod 10) g (by rw[t2 a]);rw[<-hdg]at c;clear t1 t2 hdg;go_wp2;go_roundg j;case measure=>exact Z
  grind[dz,eo,Below.size]
def A5(l:cU)(x:bS)(h:l≠[]):fM (l++[x])=fM l++[44,32]++x:=by induction l with|nil=>grind|cons y r a=>cases r with|nil=>simp[fM]|cons z r=>grind[fM]
theorem ZX(f:Nat):∀n t,aA (jD f n t)<=aA t+f:=by induction f with|zero=>grind[jD]|succ f a=>grind[jD]
def TT(n:Int):aA (jV n)<=21:=by grind[jV,ZX]
theorem uY(l:List aD)(h:∀x∈l,aA (cW x)+2<=24*aI x):aA (fM (l.map cW))<=24*(l.map aI).sum:=by induction l with|nil=>simp[fM]|cons y r a=>have b:=h y s_;cases r with|nil=>simp[fM];exact Z|cons z r=>grind[fM]
theorem sS:∀v:aD,aA (cW v)+2<=24*aI v:=by refine aD.ind λv a=>?_;have c:=uY v.l a;have b:=TT v.n;rw[mG,dG];grind
noncomputable def D5(l:List aD)(k:Nat):bS:=91::fM ((l.take k).map cW)
def Ss(l:List aD)(k:Nat)(h:k<aA l)(a:k=0):D5 l (k+1)=91::cW l[k]:=by subst a;unfold D5;cases l with|nil=>simp at h|cons x l=>simp[fM]
def Vj(l:List aD)(k:Nat)(h:k<aA l)(a:0<k):D5 l (k+1)=D5 l k++[44,32]++cW l[k]:=by unfold D5;rw[gw h,fo,List.map_singleton,A5];simp;grind[List.length_map]
theorem Ry(l:List aD)(k:Nat):aA (D5 l k)<=1+24*(l.map aI).sum:=by grind[D5,uY,sS,EX]
def PL(s:bS):(⟨#[34]⟩:ByteArray)++bs s=bs (34::s):=nI [34] s
def PM(s:bS):bs s++(⟨#[34]⟩:ByteArray)=bs (s++[34]):=nI s [34]
def Vl(s:bS):bs s++(⟨#[44,32]⟩:ByteArray)=bs (s++[44,32]):=nI s [44,32]
def Hf(s:bS):bs s++(⟨#[93]⟩:ByteArray)=bs (s++[93]):=nI s [93]
def uI:∀(d:Nat) (F:bI) (v:aU) (a:aD) (w:aL),RV d F w v a->(∀b,F b->b<H_ w)->aI a<=1000000000->nM a->Wn Ww 80 #[v] w λe w'=>e=bP (WD (bs (cW a)))/\cB w w':=by
 intro d;induction d using Nat.strongRecOn with|_ d L=>
  intro F v a w h M V l;obtain⟨lv,rfl,E⟩:=h;obtain⟨x,c,rfl⟩:=E.slice;have t:=dG a;have f:=mG a;have r:cB w (h_ w (Xe #[Y a.c_,Y a.n,WD (bs a.s),Wz x (aA a.l) c] 131)):=(by grind[eo,dw]);have n:=O r;by_cases B:a.c_=0
  .have e0:((a.c_:Int)==0)=Wm:=by simp[B]
   rw[ec B]at f;have m:=O f;have HD:=O (MK a.n (h_ w (Xe #[Y a.c_,Y a.n,WD (bs a.s),Wz x (aA a.l) c] 131)) l.lo l.hi);clear E M L V t f r B l;go_in;go_wp;refine rB HD λG i=>?_;have q:=O (n.trans (i.mono n.size));clear i;go_wp2;go_ret;exact⟨rk,q⟩
  have e0:((a.c_:Int)==0)=Wl:=G_;rw[dy B]at f;by_cases I:a.c_=1
  .have e1:((a.c_:Int)==1)=Wm:=by simp[I]
   rw[ec I]at f;clear E M L V t r B I l;by_cases J:a.n=1
   .have en:(a.n==1)=Wm:=by simp[J]
    rw[ec J]at f;have m:=O f;clear f J;go_in;go_wp2;go_ret;exact⟨rk,n⟩
   have en:(a.n==1)=Wl:=by simp[J]
   rw[dy J]at f;have m:=O f;clear f J;go_in;go_wp2;go_ret;exact⟨rk,n⟩
  have e1:((a.c_:Int)==1)=Wl:=G_;rw[dy I]at f;by_cases P:a.c_=2
  .have e2:((a.c_:Int)==2)=Wm:=by simp[P]
   rw[ec P]at f;have m:=O f;have ac:aA a.s<=1000000000:=Z;have T:=iU;have q1:=PL;have q2:=PM;clear E M L V t r B I P l f;go_in;go_wp2;go_ret;exact⟨rk,n⟩
  have e2:((a.c_:Int)==2)=Wl:=G_;rw[dy P]at f;have m:=O f;have T:=iU;have q3:=Vl;have q4:=Hf;have q5:=nI;have X:=jS a.l;have ad:aA a.l<=1000000000:=Z;have s:∀k,aA (D5 a.l k)<=24000000001:=(by grind[Ry]);have HL:=O E;have HF:=O M;have IH:=O L;have W:=O t;have HFIT:=O l;clear E M L t X r B I P l f;go_in;go_wp2;go_loopg [3,4,5] (aA a.l) (λgk tv iv _ wr=>∃k:Nat,k+gk=aA a.l/\iv=Y k/\tv=WD (bs (D5 a.l k))/\cB w wr/\H_ w<H_ wr/\i9 wr (aJ (H_ w) 3)=Wj (Wz x (aA a.l) c));case atStart=>exact⟨0,Z,rfl,rfl,n,s_,s_⟩
  case round=>
   obtain⟨k,hk,rfl,rfl,Q,S,y⟩:=hrel;have H:=O Q;clear Q;by_cases u:k<aA a.l
   .obtain⟨j,rfl⟩:∃j,gk=j+1:=⟨gk-1,Z⟩;obtain⟨e,g,o,kv,rfl,-,rfl,ab,af,c0,c1,c2,c3,A⟩:=(HL.j_ (w':=wr) (by grind[ej,dz])).elem k u;have K:=BH a.l (ga u);have aa:aI a.l[k]<=1000000000:=by have:=W.out;exact Z
    have ae:aA (cW a.l[k])<=24000000000:=by have:=sS a.l[k];exact Z
    have N:=s k;have HX:=O (IH e Z F (W1 #[Y a.l[k].c_,Y a.l[k].n,WD (bs a.l[k].s),kv]) a.l[k] wr ⟨kv,rfl,A⟩ (λb Q=>ef (HF b Q) H.size) aa (HFIT.uu (s_)));by_cases z:k=0
    .have D:=O (Ss a.l k u z);have U:Hid (D5 a.l k=[91]):=by show _=_;rw[z];simp[D5,fM]
     have ag:k<=0:=Z;clear A K s z;generalize cW a.l[k]=s1 at*;generalize D5 a.l k=s0 at*;go_wp;refine rB HX λG i=>?_;have q:=O (H.trans (i.mono H.size));have C:H_ w<H_ G:=ef S i.size;have p:i9 G (aJ (H_ w) 3)=Wj (Wz (Wj (aJ g o)) (aA a.l) c):=by rw[i.cell (by exact S)];exact y
     clear i y c0 c1 c2 c3;go_wp2;go_roundg j;case measure=>exact Z
     case rel=>exact⟨k+1,Z,lj,by rw[D,U];rfl,q,C,p⟩
    have D:=O (Vj a.l k u Z);clear A K s;generalize cW a.l[k]=s1 at*;generalize D5 a.l k=s0 at*;go_wp;refine rB HX λG i=>?_;have q:=O (H.trans (i.mono H.size));have C:H_ w<H_ G:=ef S i.size;have p:i9 G (aJ (H_ w) 3)=Wj (Wz (Wj (aJ g o)) (aA a.l) c):=by rw[i.cell (by exact S)];exact y
    clear i y c0 c1 c2 c3;go_wp2;go_roundg j;case measure=>exact Z
    case rel=>exact⟨k+1,Z,lj,by rw[D];simp,q,C,p⟩
   obtain rfl:k=aA a.l:=Z;have N:=s (aA a.l);have U:Hid (cW a=D5 a.l (aA a.l)++[93]):=by grind[D5]
   clear s;generalize D5 a.l (aA a.l)=s0 at*;go_wp2;go_ret;exact⟨by rw[U];rfl,H⟩
def v8(d:Nat)(F:bI)(v:aU)(a:aD)(w:aL)(h:RV d F w v a)(l:∀b,F b->b<w.heap.size)(t:aI a<=1000000000)(i:nM a):Wn Ww 259 #[v] w λe p=>e=bP (WD (bs (jX a)))/\cB w p:=by
 obtain⟨y,rfl,m⟩:=h;obtain⟨x,c,rfl⟩:=m.slice;have f:cB w (h_ w (Xe #[Y a.c_,Y a.n,WD (bs a.s),Wz x (aA a.l) c] 131)):=(by grind[eo,dw]);have g:=O f;by_cases k:a.c_=2
 .have r:((a.c_:Int)==2)=Wm:=by simp[k]
  have o:Hid (jX a=a.s):=by grind[jX]
  clear m l f k;go_in;go_wp2;go_ret;exact⟨by rw[o];rfl,g⟩
 have r:((a.c_:Int)==2)=Wl:=G_;have o:Hid (jX a=cW a):=by grind[jX]
 have s:=O (uI d F (W1 #[Y a.c_,Y a.n,WD (bs a.s),Wz x (aA a.l) c]) a (h_ w (Xe #[Y a.c_,Y a.n,WD (bs a.s),Wz x (aA a.l) c] 131)) qa (λb q=>ef (l b q) f.size) t i);clear m l f k;go_in;go_wp;refine rB s λu j=>?_;have n:=O (g.trans (j.mono g.size));clear j;go_wp2;go_ret;exact⟨by rw[o];rfl,n⟩
abbrev cS(c_:Nat)(n:Int)(s:bS):Wo:=W1 #[Y c_,Y n,WD (bs s),bR]
def RV.plain(d:Nat)(F:bI)(w:aL)(a:Nat)(n:Int)(s:bS):RV d F w (cS a n s) ⟨a,n,s,[]⟩:=(by grind[LV.empty,RV])
theorem RV.num(d:Nat)(F:bI)(w:aL)(n:Int):RV d F w (cS 0 n []) (bB n):=RV.plain d F w 0 n []
def RV.yj(d:Nat)(F:bI)(w:aL)(b:Bool):RV d F w (cS 1 (if b then 1 else 0) []) (cF b):=RV.plain d F w 1 _ []
theorem RV.yes(d:Nat)(F:bI)(w:aL):RV d F w (cS 1 1 []) (cF Wm):=RV.plain d F w 1 1 []
theorem RV.no(d:Nat)(F:bI)(w:aL):RV d F w (cS 1 0 []) (cF Wl):=RV.plain d F w 1 0 []
theorem RV.nil(d:Nat)(F:bI)(w:aL):RV d F w (cS 0 0 []) aY:=RV.plain d F w 0 0 []
def RV.str(d:Nat)(F:bI)(w:aL)(s:bS):RV d F w (cS 2 0 s) (bT s):=RV.plain d F w 2 0 s
def iL(n:Int)(w:aL):Wn Ww 108 #[Y n] w λe a=>e=bP (cS 0 n [])/\a=h_ w (Xe #[Y 0,Y n,WD (bs []),bR] 131):=by go_in;go_wp2;exact Wi (v:=cS 0 n []) (by simp[results,results108,go_sem];rfl) rfl ⟨rfl,rfl⟩
def jM(b:Bool)(w:aL):Wn Ww 132 #[Xc b] w λe a=>e=bP (cS 1 (if b then 1 else 0) [])/\a=h_ w (Xe #[Y 1,Y (if b then 1 else 0),WD (bs []),bR] 131):=by
 cases b;.go_in;go_wp2;exact Wi (v:=cS 1 0 []) (by simp[results,results132,go_sem];rfl) rfl ⟨rfl,rfl⟩
 go_in;go_wp2;exact Wi (v:=cS 1 1 []) (by simp[results,results132,go_sem];rfl) rfl ⟨rfl,rfl⟩
def IS(s:List UInt8)(w:Wp):Wn Ww 131 #[WD (bs s)] w λe a=>e=.returned (cS 2 0 s)/\a=h_ w (Xe #[Xd .i64 2,Xd .i64 0,WD (bs s),Wz Wk 0 0] 131):=by go_enter func131,ntmps131;go_wp;exact Wi (v:=cS 2 0 s) (by simp[results,results131,go_sem]) rfl s_
def DW(x:Option Addr)(n c:Nat)(w:Wp):Wn Ww 183 #[Wz x n c] w λe a=>e=.returned (W1 #[Xd .i64 3,Xd .i64 0,WD (bs []),Wz x n c])/\a=h_ w (Xe #[Xd .i64 3,Xd .i64 0,WD (bs []),Wz x n c] 131):=by go_enter func183,ntmps183;go_wp;exact Wi (v:=W1 #[Xd .i64 3,Xd .i64 0,WD (bs []),Wz x n c]) (by simp[results,results183,go_sem];rfl) rfl ⟨rfl,rfl⟩
abbrev fS(v:aU)(stop:Nat):Wo:=Xa #[v,Y stop]
theorem zY(n:Int):pB n=wrap64 n:=by unfold pB wrap64;rfl
def Hs.yv{op:bS}{a:aD}(h:op=[45,120])(b:a.c_=0):dF op a=(bB (wrap64 (-a.n)),0):=by grind[zY,dF]
def Hs.Ay{b:bS}(h:b=[33,120])(c:m.c_=1):dF b m=(cF (decide (m.n=0)),0):=by grind[dF]
def Hs.Bp{b:bS}(h:¬(b=[45,120]/\m.c_=0))(c:¬(b=[33,120]/\m.c_=1)):dF b m=(aY,2):=by grind[dF]
def r9(d:Nat)(F:bI)(w:aL)(r:aD×Nat)(e:Ending)(w':aL):Prop:=(∃u,e=bP (fS u r.2)/\RV d F w' u r.1)/\cB w w'
def Mo(e:bS)(d:Nat)(F:bI)(v:aU)(a:aD)(w:aL)(h:RV d F w v a):Wn Ww 186 #[WD (bs e),v] w (r9 d F w (dF e a)):=by
 obtain⟨t,rfl,q⟩:=h;obtain⟨x,c,rfl⟩:=q.slice;clear q;have b:=bA e;by_cases j:e=[45,120]/\a.c_=0
 .obtain⟨f,i⟩:=j;have g:=O (Hs.yv f i);have p:((bs e).toList==[45,120])=Wm:=by rw[b,f];rfl
  have n:((a.c_:Int)==0)=Wm:=by simp[i]
  clear b f i;generalize dF e a=r at*;go_in;go_wp2_with (go_at_call 108;apply pN (iL _ _));exact Wi (v:=fS (cS 0 (wrap64 (-a.n)) []) 0) pm rfl ⟨⟨_,by rw[g],by rw[g];exact RV.num _ _ _ (wrap64 (-a.n))⟩,by go_grown⟩
 by_cases l:e=[33,120]/\a.c_=1
 .obtain⟨f,i⟩:=l;have g:=O (Hs.Ay f i);have p:((bs e).toList==[45,120])=Wl:=by rw[b,f];rfl
  have o:((bs e).toList==[33,120])=Wm:=by rw[b,f];rfl
  have n:((a.c_:Int)==1)=Wm:=by simp[i]
  clear b f i j;generalize dF e a=r at*;by_cases k:a.n=0
  .have s:(a.n==0)=Wm:=by simpa using k
   rw[im k]at g;clear k;go_in;go_wp2_with (go_at_call 132;refine pN (jM _ _) ?_);exact Wi (v:=fS (cS 1 1 []) 0) pm rfl ⟨⟨_,by rw[g],by rw[g];exact RV.yes _ _ _⟩,by go_grown⟩
  have s:(a.n==0)=Wl:=by simpa using k
  rw[gi k]at g;clear k;go_in;go_wp2_with (go_at_call 132;refine pN (jM _ _) ?_);exact Wi (v:=fS (cS 1 0 []) 0) pm rfl ⟨⟨_,by rw[g],by rw[g];exact RV.no _ _ _⟩,by go_grown⟩
 have g:=O (Hs.Bp j l);generalize dF e a=r at*;by_cases f:e=[45,120]
 .have p:((bs e).toList==[45,120])=Wm:=by rw[b,f];rfl
  have o:((bs e).toList==[33,120])=Wl:=by rw[b,f];rfl
  have n:((a.c_:Int)==0)=Wl:=by simp;intro h;exact j ⟨f,h⟩
  clear b f j l;go_in;go_wp2;exact Wi (v:=fS (cS 0 0 []) 2) oe rfl ⟨⟨_,by rw[g],ql⟩,by go_grown⟩
 have p:((bs e).toList==[45,120])=Wl:=by rw[b];simpa using f
 by_cases m:e=[33,120]
 .have o:((bs e).toList==[33,120])=Wm:=by rw[b,m];rfl
  have n:((a.c_:Int)==1)=Wl:=by simp;intro h;exact l ⟨m,Z⟩
  clear b f j l m;go_in;go_wp2;exact Wi (v:=fS (cS 0 0 []) 2) oe rfl ⟨⟨_,by rw[g],ql⟩,by go_grown⟩
 have o:((bs e).toList==[33,120])=Wl:=by rw[b];simpa using m
 clear b f j l m;go_in;go_wp2;exact Wi (v:=fS (cS 0 0 []) 2) oe rfl ⟨⟨_,by rw[g],ql⟩,by go_grown⟩
def DV(n:Int)(a:-9223372036854775808<=n)(b:n<=9223372036854775807):pB n=n:=by unfold pB;exact Z
def Pr(x y:Int)(c:-9223372036854775808<=x)(a:x<=9223372036854775807)(f:y≠0)(e:y≠-1):-9223372036854775808<=x.tdiv y/\x.tdiv y<=9223372036854775807:=by have h:(x.tdiv y).natAbs=x.natAbs/y.natAbs:=Int.natAbs_tdiv x y;by_cases d:y=1;grind;have b:2<=y.natAbs:=Z;have g:x.natAbs/y.natAbs<=x.natAbs/2:=Nat.div_le_div_left b Z;exact Z
def VS(x y:Int)(b:-9223372036854775808<=x)(a:x<=9223372036854775807):-9223372036854775808<=x.tmod y/\x.tmod y<=9223372036854775807:=by
 have h:(x.tmod y).natAbs=x.natAbs%y.natAbs:=(by simp);have c:x.natAbs%y.natAbs<=x.natAbs:=Nat.mod_le _ _;by_cases d:0<=x;exact Z;have:x.tmod y<=0:=by have:=Int.tmod_nonneg y (show 0<=-x by exact Z);grind[Int.neg_tmod]
 exact Z
def UZ{Z_:Prop}(Y_:Z_:=by go_in;go_wp2_with (go_at_call 132;refine pN (jM _ _) ?_);exact Wi (v:=fS (cS 1 1 []) 0) lh rfl ⟨⟨_,qy,by grind[dz,RV.yes]⟩,by go_grown⟩):Z_:=Y_
def UP{Z_:Prop}(Y_:Z_:=by go_in;go_wp2_with (go_at_call 132;refine pN (jM _ _) ?_);exact Wi (v:=fS (cS 1 0 []) 0) lh rfl ⟨⟨_,qy,by grind[dz,RV.no]⟩,by go_grown⟩):Z_:=Y_
def y9(a:bS)(d:Nat)(F:bI)(x y:Int)(w:aL)(l:-9223372036854775808<=x)(k:x<=9223372036854775807)(_hy1:-9223372036854775808<=y)(_hy2:y<=9223372036854775807):Wn Ww 236 #[WD (bs a),Y x,Y y] w (r9 d F w (jJ a x y)):=by
 have b:=bA a;have ⟨r,hr⟩:∃r,r=jJ a x y:=(by simp);rw[<-hr];unfold jJ at hr;by_cases s:a=[43];.rw[ec s]at hr;have A:((bs a).toList==[43])=Wm:=G_;have z:((bs a).toList==[45])=Wl:=G_;have u:((bs a).toList==[42])=Wl:=G_;have t:((bs a).toList==[60])=Wl:=G_;have o:((bs a).toList==[60,61])=Wl:=G_;have f:((bs a).toList==[47])=Wl:=G_;rw[zY]at hr;have HP:=O hr;clear b hr s;go_in;go_wp2_with (go_at_call 108;apply pN (iL _ _));exact Wi (v:=fS (cS 0 (wrap64 (x+y)) []) 0) lh rfl ⟨⟨_,qy,nj⟩,by go_grown⟩
 rw[dy s]at hr;have A:((bs a).toList==[43])=Wl:=G_;clear s;by_cases q:a=[45];.rw[ec q]at hr;have z:((bs a).toList==[45])=Wm:=G_;have u:((bs a).toList==[42])=Wl:=G_;have t:((bs a).toList==[60])=Wl:=G_;have o:((bs a).toList==[60,61])=Wl:=G_;have f:((bs a).toList==[47])=Wl:=G_;rw[zY]at hr;have HP:=O hr;clear b hr q;go_in;go_wp2_with (go_at_call 108;apply pN (iL _ _));exact Wi (v:=fS (cS 0 (wrap64 (x-y)) []) 0) lh rfl ⟨⟨_,qy,nj⟩,by go_grown⟩
 rw[dy q]at hr;have z:((bs a).toList==[45])=Wl:=G_;clear q;by_cases p:a=[42];.rw[ec p]at hr;have u:((bs a).toList==[42])=Wm:=G_;have t:((bs a).toList==[60])=Wl:=G_;have o:((bs a).toList==[60,61])=Wl:=G_;have f:((bs a).toList==[47])=Wl:=G_;rw[zY]at hr;have HP:=O hr;clear b hr p;go_in;go_wp2_with (go_at_call 108;apply pN (iL _ _));exact Wi (v:=fS (cS 0 (wrap64 (x*y)) []) 0) lh rfl ⟨⟨_,qy,nj⟩,by go_grown⟩
 rw[dy p]at hr;have u:((bs a).toList==[42])=Wl:=G_;clear p;by_cases m:a=[60];rw[ec m]at hr;have t:((bs a).toList==[60])=Wm:=G_;have o:((bs a).toList==[60,61])=Wl:=G_;have f:((bs a).toList==[47])=Wl:=G_;by_cases D:x<y;have i:decide (x<y)=Wm:=(by grind);rw[i]at hr;have HP:=O hr;clear b hr m;exact UZ;have i:decide (x<y)=Wl:=(by grind);rw[i]at hr;have HP:=O hr;clear b hr m;exact UP;rw[dy m]at hr;have t:((bs a).toList==[60])=Wl:=G_;clear m;by_cases n:a=[60,61];rw[ec n]at hr;have o:((bs a).toList==[60,61])=Wm:=G_;have f:((bs a).toList==[47])=Wl:=G_;by_cases D:x<=y;have i:decide (x<=y)=Wm:=(by grind);rw[i]at hr;have HP:=O hr;clear b hr n;exact UZ;have i:decide (x<=y)=Wl:=(by grind);rw[i]at hr;have HP:=O hr;clear b hr n;exact UP;rw[dy n]at hr;have o:((bs a).toList==[60,61])=Wl:=G_;clear n;by_cases e:y=0
 .rw[ec e]at hr;have B:(y==0)=Wm:=G_;have HP:=O hr;clear b hr e;go_in;go_wp2;exact Wi (v:=fS (cS 0 0 []) 3) (by simp[results,results236,go_sem];rfl) rfl ⟨⟨_,qy,oi⟩,by go_grown⟩
 rw[dy e]at hr;have B:(y==0)=Wl:=G_;have E:=e;by_cases j:y=-1
 .have C:(y==-1)=Wm:=G_;by_cases c:a=[47];.rw[ec c]at hr;have f:((bs a).toList==[47])=Wm:=G_;rw[zY,j,Int.tdiv_neg,Int.tdiv_one]at hr;have HP:=O hr;clear b hr e j c;go_in;go_wp2_with (go_at_call 108;apply pN (iL _ _));exact Wi (v:=fS (cS 0 (wrap64 (-x)) []) 0) lh rfl ⟨⟨_,qy,nj⟩,by go_grown⟩
  rw[dy c]at hr;have f:((bs a).toList==[47])=Wl:=G_;rw[j,Int.tmod_neg,Int.tmod_one]at hr;have HP:=O hr;clear b hr e j c;go_in;go_wp2_with (go_at_call 108;apply pN (iL _ _));exact Wi (v:=fS (cS 0 0 []) 0) lh rfl ⟨⟨_,qy,by rw[HP];exact RV.num _ _ _ 0⟩,by go_grown⟩
 have C:(y==-1)=Wl:=G_;by_cases c:a=[47];.rw[ec c]at hr;have f:((bs a).toList==[47])=Wm:=G_;have g:=Pr x y l k e j;rw[DV _ g.1 g.2]at hr;have HP:=O hr;have ⟨d1,d2⟩:=g;clear b hr e j c;go_in;go_wp2_with (go_at_call 108;apply pN (iL _ _));exact Wi (v:=fS (cS 0 (x.tdiv y) []) 0) lh rfl ⟨⟨_,qy,nj⟩,by go_grown⟩
 rw[dy c]at hr;have f:((bs a).toList==[47])=Wl:=G_;have g:=VS x y l k;rw[DV _ g.1 g.2]at hr;have HP:=O hr;have ⟨d1,d2⟩:=g;clear b hr e j c;go_in;go_wp2_with (go_at_call 108;apply pN (iL _ _));exact Wi (v:=fS (cS 0 (x.tmod y) []) 0) lh rfl ⟨⟨_,qy,nj⟩,by go_grown⟩
def mS(d:Nat)(F:bI)(w:aL)(xs:List Wo)(l:List aD):Prop:=(aA xs)=aA l*4/\∀i (h:i<aA l),∃kv,xs[i*4]?=Wj (Y l[i].c_)/\xs[i*4+1]?=Wj (Y l[i].n)/\xs[i*4+2]?=Wj (WD (bs l[i].s))/\xs[i*4+3]?=Wj kv/\LV d F w kv l[i].l
def mS.nil(d:Nat)(F:bI)(w:aL):mS d F w [] []:=(by grind[mS])
def mS.mono{d:Nat}{F G:bI}{w:aL}{a:List Wo}(h:mS d F w a l)(f:∀b,F b->G b)(c:d<=C):mS C G w a l:=(by grind[LV.mono,mS])
def mS.j_{d:Nat}{F:bI}{w w':aL}{a:List Wo}(h:mS d F w a l)(c:∀b,F b->w'.heap[b]?=w.heap[b]?):mS d F w' a l:=(by grind[LV.j_,mS])
def mS.append{b a:List Wo}{m:List aD}(h:mS C y R b l)(k:mS C y R a m):mS C y R (b++a) (l++m):=by refine⟨by grind[mS],λi c=>?_⟩;have f:=h.1;by_cases e:i<aA l;grind[mS];rw[et]at c;have ⟨kv,k0,k1,k2,k3,k4⟩:=k.2 (i-aA l) Z;grind
def mS.one{d:Nat}{F:bI}{w:aL}{a:aD}{b:aU}(h:LV d F w b a.l):mS d F w [Y a.c_,Y a.n,WD (bs a.s),b] [a]:=(by grind[mS])
def mS.A1{a:List Wo}(h:mS C y R a l):∀u∈a,u.oneCell'=Wm:=by intro u e;obtain⟨j,b,rfl⟩:=jz.1 e;have i:=h.1;have ⟨kv,k0,k1,k2,k3,k4⟩:=h.2 (j/4) Z;have ⟨x,c,hkv⟩:=k4.slice;have hx:=ew b;generalize a[j]=u at*;by_cases f:j%4=0;rw[show j=j/4*4 by omega,k0]at hx;rw[<-fm hx];rfl;by_cases g:j%4=1;rw[show j=j/4*4+1 by omega,k1]at hx;rw[<-fm hx];rfl;by_cases k:j%4=2;rw[show j=j/4*4+2 by omega,k2]at hx;rw[<-fm hx];rfl;rw[show j=j/4*4+3 by omega,k3,hkv]at hx;rw[<-fm hx];rfl
def LV.row{f:Addr}{n:Nat}(h:LV C y R (Wz (Wj f) n z) l):n=aA l/\∃k,mS C y R k l/\∀j u,k[j]?=Wj u->i9 R (f.add j)=Wj u:=by cases C with|zero=>grind[LV]|succ C=>rcases h with ⟨rfl,a⟩|⟨g,o,m,b,e,a,q,t,r,p⟩;cases a;cases a;refine⟨i_,(b.toList.drop o).take (aA l*4),⟨?_,λi v=>?_⟩,λj u s=>?_⟩;rw[ia,List.length_drop];rcases ju (aA l) with e|e;exact Z;have ⟨kv,_,_,_,k3,_⟩:=p (aA l-1) Z;grind;grind[LV.mono];grind[Addr.add,World.cell?]
def LV.ofRow{F:bI}{b_:Nat}{xs:List Wo}(h:R.ownsRow b_ 131 4 T (aA l) xs)(p:mS C F R xs l)(f:∀g,T.ownBlock=Wj g->F g)(r:l=[]->T=bR):LV (C+1) F R T l:=by by_cases a:l=[];grind[LV];rcases h.2 with ⟨rfl,k⟩|⟨g,b,c,rfl,n,e,j,m,o,s⟩;grind;refine dv ⟨g,0,b,c,a,i_,j,f g i_,e,λi q=>?_⟩;grind[mS]
def tu(F:bI)(w w':aL)(b:Nat):Prop:=F b\/(w.heap.size<=b/\b<w'.heap.size)
def tu.wi(h:y C):tu y R i C:=ea h
def tu.lt{F:bI}{w w':aL}(c:∀b,F b->b<w.heap.size)(a:w.heap.size<=w'.heap.size):∀b,tu F w w' b->b<w'.heap.size:=(by grind[tu])
def RX(F:bI)(w:aL)(v:aU)(a:aD):Prop:=∃d,RV d F w v a
def RX.j_{F:bI}{w w':aL}{v:aU}{a:aD}(h:RX F w v a)(c:∀b,F b->w'.heap[b]?=w.heap[b]?):RX F w' v a:=by have ⟨d,h⟩:=h;exact⟨d,h.j_ c⟩
def RX.mono{F G:bI}{w:aL}{v:aU}{a:aD}(h:RX F w v a)(c:∀b,F b->G b):RX G w v a:=by have ⟨d,h⟩:=h;exact⟨d,h.mono c (Z)⟩
def DD(F:bI)(w:aL)(r:aD×Nat)(e:Ending)(w':aL):Prop:=(∃u,e=bP (fS u r.2)/\RX (tu F w w') w' u r.1)/\cB w w'
def r9.Tx{r:aD×Nat}{e:Ending}(h:r9 C y R r e i):DD y R r e i:=by have ⟨⟨u,h1,h2⟩,h3⟩:=h;exact⟨⟨u,h1,C,(by grind[RV.mono,tu])⟩,h3⟩
def J4{τ:Type}(t:τ)(D:Nat)(B:τ->Array Wo->Wp->Prop)(Bx:τ->Code->Array Wo->Wp->Prop)(x:Array Wo)(W:aL):Exit->Act->Wp->Prop|.normal,_,W'=>(W'.heap[D]?=W.heap[D]?/\W'.heap[D+1]?=W.heap[D+1]?)/\B t x W'|.ret,_,W'=>(W'.heap[D]?=W.heap[D]?/\W'.heap[D+1]?=W.heap[D+1]?)/\Bx t .ret x W'|.exit id,_,W'=>(W'.heap[D]?=W.heap[D]?/\W'.heap[D+1]?=W.heap[D+1]?)/\Bx t (.exit id) x W'|_,_,_=>False
def JN{τ:Type}{P:Program}{g:Operand}{ps:Array Tmp}{assign body:Code}{Q:Exit->Act->Wp->Prop}{a:Act}{gf:Nat}{lb:Array Wo} (hg:a.eval g=.func (.func gf) #[] lb) (eg:∀args R,(callFunc gf args).run P R=.ok (.enter gf args) R) (A B:τ->Array Wo->Wp->Prop) (Ax:τ->Array Wo->Act->Wp->Prop) (Bx:τ->Code->Array Wo->Wp->Prop) (ag:lF) (ac:∀t x W,A t x W->x.size=ps.size) (af:∀t x q W r,Ax t x q W->Ax t x q (W.putObj (R.heap.size+1) (.loop r))) (hB:∀t x W r,B t x W->B t x (W.putObj (R.heap.size+1) (.loop r))) (F:∀t c x W r,Bx t c x W->Bx t c x (W.putObj (R.heap.size+1) (.loop r))) (hZ:∀W r,ag W->ag (W.putObj (R.heap.size+1) (.loop r))) (l:∀t x W (K:Act->Wp->Prop),A t x W->(∀q i,i.heap[R.heap.size]?=W.heap[R.heap.size]?->i.heap[R.heap.size+1]?=W.heap[R.heap.size+1]?->Ax t x q i->K q i)->assign.wpIn (Fence.wide.inRound (R.heap.size+1)) 0 P (Exit.then K λ_ _ _=>False) {tmps:=(ps.zip x).foldl (λt (p,v)=>t.setIfInBounds p v) a.tmps,defers:=[]} W) (z:∀t x q W,Ax t x q W->R.heap.size+1<W.heap.size->body.wpIn (Fence.wide.inRound (R.heap.size+1)) 0 P (J4 t R.heap.size B Bx x W) q W) (V:∀(R0:Loop) (Rdy:lF) (Don:Code->Wp->Prop),(∀W i,Rdy W->i.heap[R.heap.size]?=W.heap[R.heap.size]?->i.heap[R.heap.size+1]?=W.heap[R.heap.size+1]?->Rdy i)->(∀W,Rdy W->R.heap.size+1<W.heap.size)->(∀c W i,Don c W->i.heap[R.heap.size]?=W.heap[R.heap.size]?->i.heap[R.heap.size+1]?=W.heap[R.heap.size+1]?->Don c i)->(∀c W,Don c W->R.heap.size+1<W.heap.size)->Rdy ((R.alloc (.deferred (Wj []))).alloc (.loop R0))->(∀t x W,A t x W->Rdy W->YieldAt Fence.wide 0 P (R.heap.size+1) x W λe i=>(e=bP (Xc Wm)/\B t x i/\Rdy i)\/(e=bP (Xc Wl)/\∃c,Bx t c x i/\Don c i))->CallsIn Fence.wide 0 P gf (#[.func (.yield (R.heap.size+1)) #[] #[]]++lb) ((R.alloc (.deferred (Wj []))).alloc (.loop R0)) λe i=>(∃v,e=bP v)/\((ag i/\Rdy i)\/∃t c x,Bx t c x i/\Don c i)) (E:∀W,ag W->W.heap[R.heap.size]?=Wj (.deferred (Wj []))->R.heap.size+1<W.heap.size->Q .normal {a with defers:={target:=.collected R.heap.size,args:=#[]}::a.defers} W) (H:∀t c x W,Bx t c x W->W.heap[R.heap.size]?=Wj (.deferred (Wj []))->R.heap.size+1<W.heap.size->c.wpIn Fence.wide 0 P Q {a with defers:={target:=.collected R.heap.size,args:=#[]}::a.defers} W):(Code.rangeFunc g ps assign body).wpIn Fence.wide 0 P Q a R:=by
 refine wpIn_rangeFunc ?_;intro fn ae;obtain⟨d,f⟩:∃d:LoopState->Option Code->Loop,d=λst pe=>{state:=st,pending:=pe,fn,tmps:=a.tmps,params:=ps,assign,body,defers:=R.heap.size}:=⟨_,rfl⟩;obtain⟨G,u⟩:∃G,(R.alloc (.deferred (Wj []))).alloc (.loop (d .ready Wk))=G:=⟨_,rfl⟩;have ab:G.heap[R.heap.size+1]?=Wj (.loop (d .ready Wk)):=by rw[<-u];have:=World.alloc_heap_new (R.alloc (.deferred (Wj []))) (.loop (d .ready Wk));rwa [World.size_alloc]at this
 have aa:G.heap[R.heap.size]?=Wj (.deferred (Wj [])):=by rw[<-u];exact(ed _ _ _ s_).trans (World.alloc_heap_new R _)
 refine⟨R.heap.size+1,[{target:=.collected R.heap.size,args:=#[]}],G,{target:=.fn (.func gf) lb,args:=#[.func (.yield (R.heap.size+1)) #[] #[]]},G,gf,#[.func (.yield (R.heap.size+1)) #[] #[]]++lb,G,?_,?_,λ_ _=>trivial,?_,λh=>by simp[Fence.wide]at h,?_⟩;rw[<-u,f];exact run_enterLoop_outer _ _ _ _ _;.simp only[resolve,hg];simp[go_sem]
 .simp[invoke,go_sem,eg]
 have hs:=V (d .ready Wk) (λW=>W.heap[R.heap.size+1]?=Wj (.loop (d .ready Wk))/\W.heap[R.heap.size]?=Wj (.deferred (Wj []))) (λc W=>W.heap[R.heap.size+1]?=Wj (.loop (d .done (Wj c)))/\W.heap[R.heap.size]?=Wj (.deferred (Wj []))) (λW i h L T=>⟨by rw[T];exact h.1,by rw[L];exact h.2⟩) (λW h=>(ja.1 h.1).1) (λc W i h L T=>⟨by rw[T];exact h.1,by rw[L];exact h.2⟩) (λc W h=>(ja.1 h.1).1);rw[u]at hs;refine(hs ⟨ab,aa⟩ ?_).mono ?_;rintro t x W N ⟨s,I⟩;have hy:=run_yield (P:=P) (args:=x) s (by rw[f];exact ac t x W N);rw[f]at hy;refine⟨fn,_,assign,body,hy,roundIn_of_wpIn ae (l t x W _ N ?_)⟩;clear hy;intro q Wa L T S;rw[<-T]at s;rw[<-L]at I;have k:R.heap.size+1<Wa.heap.size:=(ja.1 s).1;refine⟨_,run_beginRound s (by rw[f]),?_⟩;have y:(Wa.putObj (R.heap.size+1) (.loop {d .ready Wk with state:=.busy})).heap[R.heap.size+1]?=Wj (.loop {d .ready Wk with state:=.busy}):=World.putObj_heap_same k;have C:(Wa.putObj (R.heap.size+1) (.loop {d .ready Wk with state:=.busy})).heap[R.heap.size]?=Wj (.deferred (Wj [])):=(World.putObj_heap_other Z).trans I;refine wpIn_mono (z t x q _ (af _ _ _ _ _ S) (ja.1 y).1) ?_;have D:∀(b:Option Code) (j:aL),j.heap[R.heap.size]?=Wj (.deferred (Wj []))->j.heap[R.heap.size+1]?=Wj (.loop {d .ready Wk with state:=.busy})->(Instr.endRound (R.heap.size+1) b).run P j=.ok (Xc b.isNone) (j.putObj (R.heap.size+1) (.loop (d (if b.isNone then .ready else .done) b)))/\(j.putObj (R.heap.size+1) (.loop (d (if b.isNone then .ready else .done) b))).heap[R.heap.size+1]?=Wj (.loop (d (if b.isNone then .ready else .done) b))/\(j.putObj (R.heap.size+1) (.loop (d (if b.isNone then .ready else .done) b))).heap[R.heap.size]?=Wj (.deferred (Wj [])):=λb j ad M=>by have:=run_endRound (P:=P) b M;rw[f]at this⊢;exact⟨this,World.putObj_heap_same (ja.1 M).1,(World.putObj_heap_other Z).trans ad⟩
 rintro e a3 j J;cases e with|normal=>obtain⟨⟨X,U⟩,o⟩:=J;obtain⟨hr,m,n⟩:=D Wk j (X.trans C) (U.trans y);exact⟨_,_,hr,.inl ⟨i_,hB _ _ _ _ o,m,n⟩⟩|ret=>obtain⟨⟨X,U⟩,o⟩:=J;obtain⟨hr,m,n⟩:=D (Wj .ret) j (X.trans C) (U.trans y);exact⟨_,_,hr,.inr ⟨i_,.ret,F _ _ _ _ _ o,m,n⟩⟩|exit id=>obtain⟨⟨X,U⟩,o⟩:=J;obtain⟨hr,m,n⟩:=D (Wj (.exit id)) j (X.trans C) (U.trans y);exact⟨_,_,hr,.inr ⟨i_,.exit id,F _ _ _ _ _ o,m,n⟩⟩|goto t=>exact J.elim|panic ch=>exact J.elim|outgrown=>exact J.elim
 rintro e W2 ⟨⟨v,rfl⟩,(⟨hz,s,I⟩|⟨t,c,x,hi,s,I⟩)⟩;have k:=(ja.1 s).1;exact⟨Wk,_,by have:=run_endLoop (P:=P) s (by rw[f];simp);rw[f]at this;exact this,E _ (hZ _ _ hz) ((World.putObj_heap_other Z).trans I) (by simpa using k)⟩;have k:=(ja.1 s).1;exact⟨Wj c,_,by have:=run_endLoop (P:=P) s (by rw[f];simp);rw[f]at this;exact this,H t _ x _ (F _ _ _ _ _ hi) ((World.putObj_heap_other Z).trans I) (by simpa using k)⟩
def Gu(h:R.heap[C]?=Wj (Xe G n))(d:5<=G.size):∃g:Nat->Wo,(∀i,i<5->i9 R (aJ C i)=Wj (g i))/\(∀i,R.frozen? (aJ C i)=Wl)/\C<R.heap.size:=⟨λi=>G[i]?.getD undef,λi a=>by rw[(bk h).1];simp[show i<G.size by exact Z],(bk h).2⟩
def MX(s:SV)(ev:aU)(mb:Nat):Array Wo:=#[Y s.t,Wz s.x1 s.n1 s.c1,Wz s.x2 s.n2 s.c2,Wz s.x3 s.n3 s.c3,Y s.q,ev,.map (Wj mb)]
attribute [local go_sem] Oper.semAt_some
def YB{l U K0:Nat}{s:SV}(L:Nat->Nat->SV->Bool->Wp->Prop)(B:Nat->Nat->SV->Wp->Prop)(aa:lF) (t:R.heap[z]?=Wj (bM #[aW q] 31)) (C:R.heap[q]?=Wj (bM (MX s T U) 61)) (k:Hid (Wn Ww 116 #[aW q,s.val] R.drew λe f=>∃a ok,e=bP (Xa #[SV.val a,Xc ok])/\L K0 (H_ f) a ok (dZ f a.cells 54))) (i:Hid (∀c,c.size=5->Wn Ww 116 #[aW q,s.val] (dZ R.drew c 54) λe f=>∃a ok,e=bP (Xa #[SV.val a,Xc ok])/\f.heap[H_ R]?=Wj (bM c 54)/\L K0 (H_ R) a ok (jH f (H_ R) a))) (HL:Hid (∀gk b a wr,L gk b a Wm wr->wr.heap[b]?=Wj (bM a.cells 54)/\YieldAt Fence.wide 0 Ww l #[a.val] wr λe G=>(e=bP (Xc Wm)/\B gk b a G)\/(e=bP (Xc Wl)/\aa G))) (HZ:Hid (∀gk b a wr,L gk b a Wl wr->aa wr)) (V:Hid (∀gk b a wr,B gk b a wr->eJ wr z 0 (aW q)/\wr.heap[b]?=Wj (bM a.cells 54)/\∃j,gk=j+1/\Wn Ww 116 #[aW q,a.val] wr λe f=>∃g ok,e=bP (Xa #[SV.val g,Xc ok])/\f.heap[b]?=wr.heap[b]?/\L j b g ok (jH f b g))):Wn Ww 117 #[.func (.yield l) #[] #[],aW z] R λe f=>e=eV/\aa f:=by
 unfold SV.val SV.cells at k;unfold SV.val jH at i;unfold MX at C;have ⟨b1,b2,b3⟩:=bk t;have ⟨k1,k2,k3⟩:=bk C;clear t C b2 k2;go_in;go_upto_region 0 with fail;go_cut [3,4]from 5 (λs3 y w=>∃b a ok,s3=aW b/\y=Xc ok/\L K0 b a ok w);case first=>
  go_region_law (go_simp;go_at_call 116;first|(apply (i _ i_).mono;rintro e S ⟨a,ok,rfl,K,p⟩;have ⟨d1,d2,d3⟩:=bk K;clear K)|(apply k.mono;rintro e S ⟨a,ok,rfl,p⟩));all_goals(try clear d1 d2)
  all_goals(have A:=O p;clear p k1 b1 k i)
  all_goals(go_simp;go_step;go_meet)
  all_goals exact⟨_,_,_,i_,i_,A⟩
 case rest=>
  obtain⟨b,s1,X,rfl,rfl,p⟩:=hcut;have A:=O p;clear p k i k1 b1;go_wp2;go_loopg [4] K0 (λgk y wr=>∃a ok,y=Xc ok/\L gk b a ok wr);case atStart=>exact⟨_,_,i_,A⟩
  case round=>
   obtain⟨a,ok,rfl,m⟩:=hrel;cases ok
   .have E:=O (HZ _ _ _ _ m);clear m;go_wp2;go_end0;exact⟨i_,E⟩
   obtain⟨d,fn,H,v,F,J,N⟩:=HL _ _ _ _ m;have I:=O N;unfold SV.cells at d;have ⟨d1,d2,d3⟩:=bk d;unfold SV.val at J;clear m N d;refine(wpIn_wide (n:=0)).1 ?_;gi_wp2;refine⟨i_,I.mono ?_⟩;rintro e W3 (⟨rfl,u⟩|⟨rfl,D⟩)
   .obtain⟨e1,x,j,rfl,M⟩:=V _ _ _ _ u;have o:=O M;have P:=O x;unfold SV.cells at x;unfold SV.val at o;have ⟨d1,d2,d3⟩:=bk x;clear u M J I x;gi_wp2;refine⟨trivial,i_,(callsIn_wide.2 o).mono ?_⟩;rintro e w4 ⟨g,ok,rfl,Q,m⟩;have r:=O m;unfold jH at r;have ⟨g1,g2,g3⟩:=bk (Q.trans P);unfold SV.cells at g1;clear m o e1 Q d1 d2 P;gi_wp2;go_roundg j;case measure=>exact Z
    case rel=>exact⟨_,_,i_,r⟩
   gi_wp2;go_end0;exact⟨i_,D⟩
attribute [local go_sem] Oper.semAt_some
def Gw{τ:Type}(gf:Nat)(lb:Array Wo)(w:aL)(A:τ->SV->Wp->Prop)(B E:τ->Wp->Prop):Prop:=∀(R0:Loop) (Rdy Don:lF),(∀W W',W'.heap[w.heap.size]?=W.heap[w.heap.size]?->W'.heap[w.heap.size+1]?=W.heap[w.heap.size+1]?->(Rdy W->Rdy W')/\(Don W->Don W'))->Rdy ((w.alloc (.deferred (Wj []))).alloc (.loop R0))->(∀t s W,A t s W->Rdy W->YieldAt Fence.wide 0 Ww (w.heap.size+1) #[s.val] W λe W'=>(e=bP (Xc Wm)/\B t W'/\Rdy W')\/(e=bP (Xc Wl)/\E t W'/\Don W'))->Wn Ww gf (#[.func (.yield (w.heap.size+1)) #[] #[]]++lb) ((w.alloc (.deferred (Wj []))).alloc (.loop R0)) λe W'=>e=eV/\∃t,E t W'/\(Rdy W'\/Don W')
def S2{τ:Type}{w:aL}{i mb y:Nat}{H I:Array Wo}{s:SV}{ev:aU}{R:Bool->Wp->Prop}(A:τ->SV->Wp->Prop)(B:τ->Wp->Prop)(J:τ->SV->Nat->Wp->Prop)(E:τ->Wp->Prop) (hs:w.heap[i]?=Wj (bM (MX s ev mb) 61)) (ab:∀f W,(callFunc q f).run Ww W=.ok (.enter q f) W) (ac:∀f W,(callFunc y f).run Ww W=.ok (.enter y f) W) (F:Hid (∀W r,(∀t a b,J t a b W->J t a b (W.putObj (w.heap.size+4) (.loop r)))/\(∀t,B t W->B t (W.putObj (w.heap.size+4) (.loop r)))/\∀t,E t W->E t (W.putObj (w.heap.size+4) (.loop r)))) (HA:Hid (∀t a W,A t a W->J t a W.heap.size (h_ W (bM a.cells 54))/\w.heap.size+4<W.heap.size)) (z:Hid (∀t a b W,J t a b W->W.heap[b]?=Wj (bM a.cells 54)/\W.heap[w.heap.size]?=Wj (bM #[.func (.func y) I G] 144)/\(∃c,W.heap[w.heap.size+1]?=Wj (bM c 54)/\5<=c.size)/\(∃v,W.heap[w.heap.size+1+1]?=Wj (bM #[v] 4))/\b≠w.heap.size/\b≠w.heap.size+1/\b≠w.heap.size+1+1/\Wn Ww y (I++#[a.val]++G) (c9 (jH W (w.heap.size+1) a) (aJ (w.heap.size+1+1) 0) (Xc Wm)) λe k=>∃r,e=bP (Xc r)/\(k.heap[w.heap.size+3]?=W.heap[w.heap.size+3]?/\k.heap[w.heap.size+3+1]?=W.heap[w.heap.size+3+1]?)/\(r=Wm->E t k)/\(r=Wl->B t k))) (L:Hid (∀t W,E t W->∃p fd,W.heap[w.heap.size+1]?=Wj (bM (SV.cells p) 54)/\W.heap[w.heap.size+1+1]?=Wj (bM #[Xc fd] 4)/\(∃c T,W.heap[i]?=Wj (bM c T)/\5<=c.size)/\R fd ((jH W i p).putObj (w.heap.size+3) (.deferred Wk)))) (M:Hid (Gw q H (h_ (h_ (h_ w (bM #[.func (.func y) I G] 144)) (bM s.cells 54)) (bM #[Xc Wl] 4)) A B E)):Wn Ww 66 #[aW i,.func (.func q) #[] H,.func (.func y) I G] w λe w'=>∃b,e=bP (Xc b)/\R b w':=by
 have ad:=aH hs;unfold MX at hs;have ⟨k1,k2,k3⟩:=bk hs;unfold SV.cells at M;refine(callsIn_wide (n:=0)).1 (callsIn_of_wp_marks func66 i_ trivial ?_ i_);simp only[ntmps66,List.size_toArray,ff,fh,Nat.reduceAdd,Nat.reduceSub,Array.replicate_succ,Array.replicate_zero,List.push_toArray,List.append_toArray,ik,il];refine wpIn_wide.2 ?_;clear hs;go_wp2_with fail;generalize Q:h_ (h_ (h_ w (bM #[.func (.func y) I G] 144)) (bM #[Y s.t,P_ s.x1 s.n1 s.c1,P_ s.x2 s.n2 s.c2,P_ s.x3 s.n3 s.c3,Y s.q] 54)) (bM #[Xc Wl] 4)=W0 at M⊢;have d:W0.heap.size=w.heap.size+3:=by rw[<-Q];simp
 clear Q k1 k2;refine wpIn_wide.1 (JN (P:=Ww) (gf:=q) (lb:=H) i_ ab (λt x W=>∃a,x=#[SV.val a]/\A t a W) (λt _ W=>B t W) (λt x a' W=>∃a b,x=#[SV.val a]/\a'={tmps:=#[aW i,.func (.func q) #[] H,.func (.func y) I G,undef,undef,aW w.heap.size,Xc Wl,aW (w.heap.size+1),aW (w.heap.size+1+1),aW b,aW i,aW i,aW i,s.val,.func (.func q) #[] H,SV.val a,undef,undef,undef,undef,undef,undef,undef,undef,undef],defers:=[]}/\J t a b W) (λt c _ W=>c=.exit 0/\E t W) (λW=>∃t,E t W) ?hps ?hAx ?hB ?hBx ?hZ ?hassign ?hbody ?hseq ?hdone ?hstop);case hps=>rintro t x W ⟨a,rfl,_⟩;rfl
 case hAx=>rintro t x a' W r ⟨a,b,rfl,rfl,h⟩;rw[d];exact⟨a,b,i_,i_,(F _ _).1 _ _ _ h⟩
 case hB=>intro t x W r h;rw[d];exact(F _ _).2.1 _ h
 case hBx=>rintro t c x W r ⟨rfl,h⟩;rw[d];exact⟨i_,(F _ _).2.2 _ h⟩
 case hZ=>rintro W r ⟨t,h⟩;rw[d];exact⟨t,(F _ _).2.2 _ h⟩
 case hassign=>rintro t x W K ⟨a,rfl,h⟩ hK;obtain⟨q1,q2⟩:=HA _ _ _ h;have S:=O (hK _ _ (ed _ _ _ qz) (ed _ _ _ qz) ⟨a,_,rfl,rfl,q1⟩);unfold SV.val SV.cells at S;clear hK q1 h;unfold SV.val;gi_wp2;exact S
 case hbody=>
  rintro t x a' W ⟨a,b,rfl,rfl,h⟩ o;obtain⟨j,u,⟨c,V,C⟩,⟨v,e4⟩,n1,n2,n3,hF⟩:=z _ _ _ _ h;rw[d];have HF:=O hF;unfold jH SV.val at HF;unfold SV.val;unfold SV.cells at j;have ⟨d1,d2,d3⟩:=bk j;have ⟨c1,c2,c3⟩:=bk u;have ⟨g,g1,g2,g3⟩:=Gu V C;have ⟨o1,o2,o3⟩:=bk e4;clear h hF j u V e4 HA z L F M;gi_wp2;refine⟨trivial,i_,(CallsIn.inRound _ (callsIn_wide.2 HF)).mono ?_⟩;rintro e k ⟨r,rfl,hq,D,hB⟩;have HB:=O hB;have L:=O D;clear hB D HF d1 d2 c1 c2 g1 g2 o1 o2;cases r;.gi_wp2;exact⟨hq,HB trivial⟩
  gi_wp2;exact⟨hq,i_,L trivial⟩
 case hseq=>intro R0 Rdy Don h1 h2 h3 h4 h5 hY;refine callsIn_wide.2 ((M R0 Rdy (Don (Code.exit 0)) (λW k j u=>⟨λh=>h1 W k h j u,λh=>h3 _ W k h j u⟩) h5 λt a W hA hR=>?_).mono ?_);obtain⟨fn,tmps,m,N,hy,hr⟩:=hY t #[SV.val a] W ⟨a,rfl,hA⟩ hR;refine⟨fn,tmps,m,N,hy,hr.mono ?_⟩;rintro e k (⟨rfl,hB,aa⟩|⟨rfl,c,⟨rfl,D⟩,l⟩);exact ea ⟨i_,hB,aa⟩;exact dv ⟨i_,D,l⟩;rintro e k ⟨rfl,t,D,hr|l⟩;exact⟨⟨_,i_⟩,ea ⟨⟨t,D⟩,hr⟩⟩;exact⟨⟨_,i_⟩,dv ⟨t,_,#[],⟨i_,D⟩,l⟩⟩
 case hstop=>rintro t c x W ⟨rfl,X⟩ l o;exact wpIn_wide.2 (wp_exit (?hdone W ⟨t,X⟩ l o))
 case hdone=>rintro W ⟨t,X⟩ l o;rw[d]at l o⊢;obtain⟨p,fd,j,u,⟨c,T,V,C⟩,hR⟩:=L _ _ X;have HR:=O hR;unfold jH at HR;unfold SV.cells at j;have ⟨d1,d2,d3⟩:=bk j;have ⟨c1,c2,c3⟩:=bk u;have ⟨g,g1,g2,g3⟩:=Gu V C;have n1:w.heap.size+1≠i:=Z;have n2:w.heap.size+1+1≠i:=Z;have U:=O ((iZ W i p _ (show w.heap.size+3≠i by exact Z)).trans l);unfold jH at U;clear hR j u V L HA z F M X l;go_wp2_with fail;refine⟨s_,.inl ⟨_,_,rfl,run_takeDeferred U,?_⟩⟩;exact⟨_,results_tmp i_ _ _ _,_,i_,HR⟩
def i7:(prog.info? 131).map (λi=>(i.zero,i.size,i.bytes))=Wj (Wj (W1 #[Xd .i64 0,Xd .i64 0,WD (bs []),Wz Wk 0 0]),4,56):=k_
def xR{q:Array Oper}{g:List Oper}{o:Oper}{a:Act}{Q:Exit->Act->Wp->Prop}(n:o.guard=Wk)(s x:Operand) (B:o.op=.call {callee:=.builtin .append,args:=#[s,x],argTypes:=#[129,129]}) (e:Nat) (v:Wo) (l m:List aD) (k:List Wo) (d:Nat) (F:Nat->Prop) (D:a.eval s=v) (f:M.ownsRow e 131 4 v (aA l) k) (I:mS d F M k l) (C:Wo) (E:a.eval x=C) (y:LV d F M C m) (K:∀b,F b->b<M.heap.size/\v.ownBlock≠Wj b) (A:aA l+aA m<=1000000000) (i:e<=M.heap.size) (L:l=[]->v=Wz Wk 0 0) (h:∀p j r,j.ownsRow e 131 4 p (aA (l++m)) r->mS d F j r (l++m)->M.grownBy j v.ownBlock->(l++m=[]->p=Wz Wk 0 0)->wpList Ww q Q g (a.put o.dst p) j):wpList Ww q Q (o::g) a M:=by have ⟨i0,hi,hii⟩:=ki.1 i7;have hz0:=(gh hii).1;have hz1:=(gh (gh hii).2).1;have hz2:=(gh (gh hii).2).2;obtain⟨J,c,rfl⟩:=y.slice;cases J with|none=>obtain⟨t,rfl,rfl⟩:=y.Dy;apply wpList_append_own_none n s x 129 B e 131 i0 4 underlying129 hi v (aA l) k D f E;exact h v M k G_ G_ ⟨rfl,rfl,rfl,o_,s_⟩ (G_)|some H=>have ⟨t,r,hy,hc⟩:=y.row;refine wpList_append_own _ n s x 129 B e 131 i0 _ 4 56 underlying129 hi hz0 hz1 hz2 rfl d_ v (aA l) k D f H (aA m) c r E hy.1 hc hy.A1 (by unfold maxLen;omega) o_ i ?_;intro p j u G z;exact h p j (k++r) G_ ((I.append hy).j_ nk) G (G_)
theorem Below.vj{a:Wp}(h:Below C M a)(g:C<=z)(f e d c:Wo):Below C M (c9 (c9 (c9 (c9 a ⟨z,0,Wk⟩ f) ⟨z,1,Wk⟩ e) ⟨z,2,Wk⟩ d) ⟨z,3,Wk⟩ c):=(by grind[Below.setCell])
theorem bV(w:Wp)(o:Obj)(h:C=w.heap.size):(w.alloc o).heap[C]?=Wj o:=by subst h;show (w.heap.push o)[w.heap.size]?=_;simp
def mE{w:Wp}{b:Nat}{d a:Wo}(h:w.heap[b]?=Wj (Xe #[o,d,p,a] n (0,0))):b<w.heap.size/\i9 w ⟨b,0,Wk⟩=Wj o/\i9 w ⟨b,1,Wk⟩=Wj d/\i9 w ⟨b,2,Wk⟩=Wj p/\i9 w ⟨b,3,Wk⟩=Wj a/\w.frozen? ⟨b,0,Wk⟩=Wl/\w.frozen? ⟨b,1,Wk⟩=Wl/\w.frozen? ⟨b,2,Wk⟩=Wl/\w.frozen? ⟨b,3,Wk⟩=Wl:=(by grind[aB,aE])
theorem dK(w:Wp)(h:z≠C)(e d c a:Wo):(c9 (c9 (c9 (c9 w ⟨C,0,Wk⟩ e) ⟨C,1,Wk⟩ d) ⟨C,2,Wk⟩ c) ⟨C,3,Wk⟩ a).heap[z]?=w.heap[z]?:=by grind[eh]
def pG{u2 u3:Wo}(h:M.heap[C]?=Wj (Xe #[o,p,u2,u3] n (0,0)))(e d c a:Wo):(c9 (c9 (c9 (c9 M ⟨C,0,Wk⟩ e) ⟨C,1,Wk⟩ d) ⟨C,2,Wk⟩ c) ⟨C,3,Wk⟩ a).heap[C]?=Wj (Xe #[e,d,c,a] n (0,0)):=by have k:=aN (i:=0) (u:=e) h;have j:=aN (i:=1) (u:=d) k;have g:=aN (i:=2) (u:=c) j;have l:=aN (i:=3) (u:=a) g;exact l
def RJ{F:Nat->Prop}(h:RX F M o m)(g:RX F M p b):∃d e c,o=W1 #[Xd .i64 m.c_,Xd .i64 m.n,WD (bs m.s),e]/\p=W1 #[Xd .i64 b.c_,Xd .i64 b.n,WD (bs b.s),c]/\LV d F M e m.l/\LV d F M c b.l:=by obtain⟨i,e,rfl,k⟩:=h;obtain⟨f,c,rfl,j⟩:=g;exact⟨i+f,e,c,rfl,rfl,(by grind[LV.mono]),(by grind[LV.mono])⟩
def SD{u1 u2 u3 e d c a:aU}(h:R.heap[C]?=Wj (bM #[T,u1,u2,u3] n))(g:c9 (c9 (c9 (c9 R (aJ C 0) e) (aJ C 1) d) (aJ C 2) c) (aJ C 3) a=i):i.heap[C]?=Wj (bM #[e,d,c,a] n)/\(∀k,k≠C->i.heap[k]?=R.heap[k]?)/\(∀B,B<=C->Below B R i)/\H_ i=H_ R:=by subst g;exact⟨pG h _ _ _ _,λk q=>dK R q _ _ _ _,λB q=>Below.vj (dw _ _) q _ _ _ _,s_⟩
def Te{a b c d e:Obj}(h:((((R.alloc a).alloc b).alloc c).alloc d).alloc e=i):cB R i/\i.heap[H_ R]?=Wj a/\i.heap[H_ R+1]?=Wj b/\i.heap[H_ R+2]?=Wj c/\i.heap[H_ R+4]?=Wj e/\H_ i=H_ R+5:=by subst h;exact⟨by go_grown,by grind[World.alloc]⟩
def VJ(F:Nat->Prop)(u v:Wo)(a b:aD)(w:Wp)(h:RX F w u a)(h':RX F w v b)(hF:∀b,F b->b<w.heap.size)(ae:aI a<=1000000)(an:aI b<=1000000):Wn Ww 237 #[u,v] w (DD F w (iK a b)):=by
 obtain⟨d,lv,ah,rfl,rfl,hl,B⟩:=RJ h h';obtain⟨x,c,rfl⟩:=hl.slice;obtain⟨x',c',rfl⟩:=B.slice;have ac:=dG a;have K:=dG b;have am:=jS a.l;have ao:=jS b.l;have ai:aA a.s<=1000000:=Z;have aj:aA b.s<=1000000:=Z;have ab:aA a.l+aA b.l<=1000000000:=Z;have q5:=nI a.s b.s;have af:=iU;obtain⟨r,hr⟩:=E_ (if a.c_=3 then bH (a.l++b.l)else bT (a.s++b.s));have ad:aI r<=1000000000:=by rw[hr,dG];split<;>simp[bH,bT]<;>omega
 have HJ:Hid (iK a b=if 200<aI r then (aY,6)else (r,0)):=by show _=_;grind[iK]
 have o:=O (du hr (du hl (du B hF)));clear h h' hr hl B hF ac K;go_in;go_upto_if 17 with (go_at_call 131;refine pN (IS _ _) ?_);generalize hW:World.alloc _ _=W;have ⟨hb0,k0,k1,k2,k4,hz⟩:=Te hW;have ⟨a1,_,a3⟩:=bk k0;have ⟨b1,_,b3⟩:=bk k1;have ⟨e1,e2,e3⟩:=bk k4;have n:=O (du hb0 (du k2 (du k4 k1)));clear hb0 k0 k1 k2 k4 hW;go_cut [] (λH=>∃d lv,H.heap[H_ w+4]?=Wj (bM #[Y r.c_,Y r.n,Q_ (bs r.s),lv] 131)/\LV d (λq=>F q\/(H_ w+5<=q/\q<H_ H)) H lv r.l/\H.heap[H_ w+2]?=Wj (bM #[Y 0,Y 0,Q_ ⟨#[]⟩,bR] 131)/\cB w H);case first=>
  by_cases T:a.c_=3
  .have e3:((a.c_:Int)==3)=Wm:=by simp[T]
   have H3:=O T;clear T;have kF:∀V,cB W V->∀q,F q->V.heap[q]?=w.heap[q]?:=λV y q z=>(y.block q (by have:=o.2.2.2 q z;exact Z)).trans (n.1.block q (o.2.2.2 q z));have N:=O (o.2.1.j_ (kF W (dw _ _)));have l:Hid (∀q,F q->q<H_ W/\bR.ownBlock≠Wj q):=λq y=>⟨by have:=o.2.2.2 q y;exact Z,ng⟩;have HK:=O kF;clear kF;go_wp2_with (at_builtin;apply xR r_ _ _ r_ (H_ w+5) bR [] a.l [] d F r_ (World.ownsRow_nil _ _ _ _) (mS.nil _ _ _) _ r_ N l ku Z s_);intro S w2 aa o1 r1 G n1;have i:cB W w2:=⟨G.os,G.tape,G.output,G.size,λk y=>G.block k y ng⟩;have ⟨b1',_,b3'⟩:=bk ((i.block _ b3).trans n.2.2.2);have J:=O (du o1 (du r1 n1));have t:=O (o.2.2.1.j_ (HK w2 i));have P:Hid (∀q,F q->q<H_ w2/\S.ownBlock≠Wj q):=λq y=>⟨ef (l q y).1 i.size,λe=>by have:=cA o1 q e;have:=l.out q y;exact Z⟩;have ak:=i.size;have L:=O i;clear o1 r1 n1 G i a1 b1 N l;go_wp2_with (at_builtin;apply xR r_ _ _ r_ (H_ w+5) S a.l b.l aa d F r_ J.1 J.2.1 _ r_ t P ab Z J.2.2);intro v2 I ag o2 r2 m n2;have M:Below (H_ W) w2 I:=⟨m.os,m.tape,m.output,m.size,λk y=>m.block k Z λe=>by have:=cA J.1 k e.symm;exact Z⟩;have C:=L.trans M;have D:=(C.block (H_ w+4) Z).trans n.2.2.1;have ⟨c1,c2,c3⟩:=bk D;have f:LV (d+1) (λq=>F q\/(H_ w+5<=q/\q<H_ I)) I v2 (a.l++b.l):=LV.ofRow (by simpa using o2) (r2.mono (λq=>.inl) kB) (λg e=>.inr ⟨by have:=cA o2 g e;exact Z,by have:=dT o2 g e;exact Z⟩) (by simpa using n2);have U:=O (du C (du D f));obtain⟨x2,k2,rfl⟩:=f.slice;clear o2 r2 m n2 M C D f J t P L b1' HK;go_wp2_with (go_at_call 183;refine pN (DW _ _ _ _) ?_);go_meet;have:=o.1;rw[ec H3.out]at this;subst this;generalize Q:World.setCell _ _ _=V;have ⟨y1,y2,y3,y4⟩:=SD U.2.1 Q;have hL:=U.2.2;rw[et]at hL;have hq:∀q,(F q\/(H_ w+5<=q/\q<H_ I))->q<H_ I/\q≠H_ w+4:=λq y=>by rcases y with y|y;have:=o.2.2.2 q y;exact Z;exact Z
   have s:=(n.1.trans (U.1.mono n.1.size)).trans (y3 _ Z);exact⟨d+1,_,(ed _ _ _ Z).trans y1,(hL.j_ λq y=>(ed _ _ _ (by have:=(hq q y).1;exact Z)).trans (y2 q (hq q y).2)).mono (λq y=>y.imp id λz=>⟨z.1,ku⟩) kB,(ed _ _ _ Z).trans ((y2 _ Z).trans ((U.1.block _ Z).trans n.2.1)),s.alloc s.size _⟩
  have e3:((a.c_:Int)==3)=Wl:=G_;go_wp2;go_meet;have:=o.1;rw[dy T]at this;subst this;exact⟨0,_,n.2.2.1,LV.empty _ _ _,n.2.1,n.1⟩
 case rest=>
  obtain⟨d1,al,g4,f,m,s⟩:=hcut;obtain⟨x1,c1,rfl⟩:=f.slice;have ⟨S,v2,v3⟩:=bk g4;have A:∀q,(F q\/(H_ w+5<=q/\q<H_ wc))->q<H_ wc/\q≠H_ w+2:=λq y=>by rcases y with y|y;have:=o.2.2.2 q y;have:=s.size;exact Z;exact Z
  have HX:=O (zZ d1 _ (W1 #[Y r.c_,Y r.n,Q_ (bs r.s),P_ x1 (aA r.l) c1]) r wc ⟨_,rfl,f⟩ (λq y=>(A q y).1) ad);have j:=O (du g4 (du m (du s (du f A))));clear g4 f m s A a1 b1 e1 e2;go_wp2_with fail;refine rB HX λw7 p=>?_;have D:=(p.block _ (aH j.1)).trans j.1;have t2:=(p.block _ (aH j.2.1)).trans j.2.1;have ⟨m1,m2,m3⟩:=bk D;have ⟨n1,n2,n3⟩:=bk t2;have E:=O (du t2 p);clear D t2 p HX S v2;by_cases X:200<aI r;.have ek:decide ((200:Int)<(aI r:Int))=Wm:=G_;go_wp21;generalize Q:World.setCell _ _ _=V;have ⟨y1,y2,y3,_⟩:=SD E.1 Q;exact Wi (v:=fS (cS 0 0 []) 6) (by simp[results,results237,go_sem,(bk y1).1];rfl) rfl ⟨⟨_,by rw[HJ,ec X],0,by rw[HJ,ec X];exact RV.nil _ _ _⟩,(j.2.2.1.trans (E.2.mono j.2.2.1.size)).trans (y3 _ Z)⟩
  have ek:decide ((200:Int)<(aI r:Int))=Wl:=G_;go_wp21;generalize Q:World.setCell _ _ _=V;have ⟨y1,y2,y3,y4⟩:=SD E.1 Q;have s:=j.2.2.1.trans (E.2.mono j.2.2.1.size);refine Wi (v:=fS (W1 #[Y r.c_,Y r.n,Q_ (bs r.s),P_ x1 (aA r.l) c1]) 0) (by simp[results,results237,go_sem,(bk y1).1]) rfl ⟨⟨_,by rw[HJ,dy X],d1,?_⟩,s.trans (y3 _ Z)⟩;rw[HJ,dy X];exact⟨_,rfl,(j.2.2.2.1.j_ λq y=>(y2 q (j.2.2.2.2 q y).2).trans (E.2.block q (j.2.2.2.2 q y).1)).mono (λq y=>y.imp id λz=>⟨Z,by have:=E.2.size;exact Z⟩) kB⟩
