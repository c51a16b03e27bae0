/- Contracts of the program: an expression is worked out at a moment: the whole. -/
import Derived.Test.YtmjbnmpamlainaaGreatDoorP26
set_option linter.defProp false
set_option maxRecDepth 100000
namespace Go.Proofs.YtmjbnmpamlainaaGreatDoor
open Hs
open _root_.Go.Proofs.Tryz
open Go.RowKit
def mW(s:bC):List aM:=match s.m.frames.getLast? with
 |none=>[]
 |some f=>f.vars
def EvF(F:bX)(w:aG)(code:List aI)(p:aQ)(W:aG):Prop:=
 ∃G:Nat->Prop,(∀k,F k->G k)/\Below w.heap.size w W/\YL fp0 G W p ⟨[],code⟩/\∀k,G k->k<W.heap.size
def FH{d lo:Nat}{A:aE}{seen:cN}{F:bX}{p0:Option Addr}{t:TypeId}{z:aQ}(w W:aG)(j:Below w.heap.size w W)(aa:w.heap.size+1<W.heap.size)(v:∀b,F b->b<w.heap.size)(J:eF F w (.pointer p0) seen)(K:seen.length<=1000000)(hn:PN (Btw lo w.heap.size) w (.iface t z) A)(P:Hs.ExOk [] true seen d A)(Q:pA d A)(hl:(aF [] seen d A 0).length<=1000000)(V:1<=(aF [] seen d A 0).length):
 Calls prog 96 #[bH W.heap.size,.iface t z] (W.alloc (.cells #[bF,bF,.pointer p0] 167)) fun e m=>e=aZ (.tuple #[])/\∃x n c,m.cell? (aH W.heap.size 1)=some (.slice x n c)/\W.heap.size<m.heap.size/\Below W.heap.size W m/\
  ∀y,Fr (w.heap.size+1) m y->y.heap[m.heap.size]?=some (.cells #[.string (bs []),.slice x n c] 136 (0,0))->EvF F w (aF [] seen d A 0) (bH m.heap.size) y:=by
 have s:Below W.heap.size W (W.alloc (.cells #[bF,bF,.pointer p0] 167)):=(co_ _ _).alloc cL _;have r:(W.alloc (.cells #[bF,bF,.pointer p0] 167)).heap[W.heap.size]?=some (.cells #[bF,bF,.pointer p0] 167 (0,0)):=aO _ _ rfl _
 have M:∀b,F b->(W.alloc (.cells #[bF,bF,.pointer p0] 167)).heap[b]?=w.heap[b]?:=fun b h=>by
  have:=v b h;rw[s.block b (by omega),j.block b this]
 have H:CP fp0 (fun _=>0) (([]:List aE).map (·.text)) W.heap.size F (W.alloc (.cells #[bF,bF,.pointer p0] 167)) [] seen:=
  ⟨⟨_,_,_,r,⟨[],World.ownsRow_nil _ _ _ _,rfl,fun i o h=>by simp at h⟩,eF.keep M dX J,cl_ ⟨rfl,rfl⟩⟩,fun k p=>⟨by have:=v k p;simp;omega,by have:=v k p;omega,by rw[jD r];simp[Value.ownBlock]⟩⟩
 have O:PN (Btw lo W.heap.size) (W.alloc (.cells #[bF,bF,.pointer p0] 167)) (.iface t z) A:=PN.grow hn (fun k _ p=>((j.trans (s.mono j.size)).block k p)) cL j.size
 refine(pU (fp:=fp0) (fb:=fun _=>0) (fs:=[]) (cb:=W.heap.size) (lo:=lo) (F:=F) (alone:=true) (seen:=seen) K (by simp) (fun k p=>by simp at p) d (.iface t z) A [] _ H O P Q (by simpa using hl)).mono ?_
 rintro e m ⟨rfl,C,I⟩;obtain⟨fv,Y,sp,T,⟨xs,U,Z⟩, -, -⟩:=C.blk;have B:([]++(aF [] seen d A ([]:List (Option aI)).length).map some).length=(aF [] seen d A 0).length:=by simp
 rw[B] at U
 obtain⟨g,q,l,rfl,N,G,L⟩:∃g q l,Y=.slice (some (aH g 0)) (aF [] seen d A 0).length q/\W.heap.size+1<=g/\m.heap[g]?=some (.cells l 206 (0,0))/\l.toList.take ((aF [] seen d A 0).length*1)=xs:=by
  rcases U.2 with ⟨_,N⟩|⟨g,q,l,X,N,G,r4,r5,r6,L⟩
  ·omega
  ·exact⟨g,q,l,X,N,G,L⟩
 have a:Below W.heap.size W m:=s.trans I.bel;have S:=aC G;refine⟨rfl,_,_,_,aA T rfl,aC T,a,fun y f E=>⟨fun k=>F k\/k=m.heap.size\/k=g,fun _ h=>cl_ h,?_,?_,fun k p=>?_⟩⟩
 ·have ab:=j.size;have ad:=a.size;refine⟨f.os.trans (a.os.trans j.os),f.tape.trans (a.tape.trans j.tape),f.output.trans (a.output.trans j.output),by have:=f.size;omega,fun k p=>?_⟩
  rw[f.block k (by omega) (by omega),a.block k (by omega),j.block k p]
 ·refine⟨m.heap.size,g,q,l,rfl,ck_ (cl_ rfl),E,ck_ (ck_ rfl),by rw[f.block g S (by omega)];exact G,fun i hi=>?_⟩
  obtain⟨u,u1,u2⟩:=Z.2 i (some (aF [] seen d A 0)[i]) (by simp[cz_ hi])
  rw[<-L] at u1;refine⟨u,?_,lQ.keep (F:=F) u2 (fun b D=>f.block b ?_ ?_) fun b j=>cl_ j⟩
  ·rw[cM_] at u1;split at u1
   ·simpa using u1
   ·cases u1
  ·have:=v b D;have:=j.size;have:=a.size;omega
  ·have:=v b D;omega
 ·have ac:m.heap.size<y.heap.size:=aC E;rcases p with p|rfl|rfl
  ·have:=v k p;have:=j.size;have:=a.size;omega
  ·omega
  ·omega
section
variable {fp:eQ} {F:bX} {w:aG} {s1:SV} {s:bC}
def SH{d lo:Nat}{A:aE}{t:TypeId}{z:aQ}(h:jT fp F w s1.val s)(H:∀b,F b->b<w.heap.size)(hd:s.m.frames.length<=16)(k:(fE s).length<=1000000)(hn:PN (Btw lo w.heap.size) w (.iface t z) A)(r:Hs.ExOk [] true (fE s) d A)(G:pA d A)(Y:(aF [] (fE s) d A 0).length<=1000000)(i:1<=(aF [] (fE s) d A 0).length):
 ∃y vn B,PVs F w (.slice y vn B) (mW s)/\(∀a∈mW s,aN a<=200)/\Calls prog 60 #[s1.val,.iface t z] w fun e C=>∃p,e=aZ (.agg #[.pointer p,Iv0 0,Iv0 0,.pointer none,.slice y vn B,bF])/\EvF F w (aF [] (fE s) d A 0) (.pointer p) C:=by
 obtain⟨p0,I,u⟩:=PY h H hd;by_cases J:s.m.frames=[]
 ·have h0:=h.none J;obtain⟨a,x1,x2,L,n1,S,M,U,V,Z,q⟩:=s1;simp only at h0;subst h0;have P:fE s=[]:=by unfold fE;rw[J];rfl
  have f:mW s=[]:=by unfold mW;rw[J];rfl
  rw[P] at I r Y i k ⊢
  have e0:p0=none:=by cases I;rfl
  subst e0;rw[f];refine⟨none,0,0,cl_ ⟨rfl,rfl⟩,(fun a ha=>by cases ha),(EZ w a q x1 x2 L U S V M Z t z (fun v W=>∃p,v=.agg #[.pointer p,Iv0 0,Iv0 0,.pointer none,bF,bF]/\EvF F w (aF [] [] d A 0) (.pointer p) W) (fun W N o=>?_)).mono ?_⟩
  ·refine(FH w W N o H I k hn r G Y i).mono ?_;rintro e C ⟨rfl,x,n,c,K,k2,Q,k4⟩;exact⟨rfl,x,n,c,K,k2,Q,fun O l D=>⟨_,rfl,k4 O l D⟩⟩
  ·rintro e C ⟨v,rfl,p,rfl,h⟩;exact⟨p,rfl,h⟩
 ·obtain⟨m,hm⟩:∃m,s.m.frames.length=m+1:=⟨s.m.frames.length-1,by have:=c7_.2 J;omega⟩
  have j:s.m.frames.getLast?=some (s.m.frames[m]'(by omega)):=by
   rw[dQ_,show s.m.frames.length-1=m by omega];exact cz_ _
  obtain⟨gf,v,e1,T,e3,X,a5⟩:=h.frame m (by omega)
  have f:mW s=s.m.frames[m].vars:=by unfold mW;rw[j]
  obtain⟨y,B,E⟩:∃x c,v.vv=.slice x s.m.frames[m].vars.length c:=by
   rcases PVs.row X.vars with ⟨l,D⟩|⟨g,aa,xs,l,_⟩
   ·exact⟨none,0,by rw[l];exact D⟩
   ·exact⟨_,_,l⟩
  have hc:=a5 4 v.vv (by omega) rfl
  rw[E] at hc;obtain⟨a,x1,x2,L,n1,S,M,U,V,Z,q⟩:=s1;simp only at e1 T;rw[hm] at T;subst e1 T;refine⟨y,_,B,by rw[f,<-E];exact X.vars,by rw[f];exact X.varsB,(EY w a q x2 L U S V M Z gf m p0 y s.m.frames[m].vars.length B t z (fun v W=>∃p,v=.agg #[.pointer p,Iv0 0,Iv0 0,.pointer none,.slice y s.m.frames[m].vars.length B,bF]/\EvF F w (aF [] (fE s) d A 0) (.pointer p) W) (by omega) (H gf e3) hc u (fun W N o=>?_)).mono ?_⟩
  ·refine(FH w W N o H I k hn r G Y i).mono ?_;rintro e C ⟨rfl,x,n,c,K,k2,Q,k4⟩;exact⟨rfl,x,n,c,K,k2,Q,fun O l D=>⟨_,rfl,k4 O l D⟩⟩
  ·rintro e C ⟨v,rfl,p,rfl,h⟩;exact⟨p,rfl,h⟩
end
noncomputable def ZI(s:bC)(A:aE):cD × Nat:=
 (if (fT (aF [] (fE s) 2001 A 0).length ⟨⟨[],aF [] (fE s) 2001 A 0⟩,0,0,[],mW s,[]⟩).2=0 then cH (fT (aF [] (fE s) 2001 A 0).length ⟨⟨[],aF [] (fE s) 2001 A 0⟩,0,0,[],mW s,[]⟩).1.last else [],(fT (aF [] (fE s) 2001 A 0).length ⟨⟨[],aF [] (fE s) 2001 A 0⟩,0,0,[],mW s,[]⟩).2)
structure OQ(s:bC):Prop where
 deep:s.m.frames.length<=16
 few:(fE s).length<=80000
 told:(fE s).length<=(mW s).length
 utf:∀v∈mW s,bS v
def I7{fp:eQ}{F:bX}{w:aG}{s1:SV}{s:bC}{lo:Nat}{A:aE}{t:TypeId}{z:aQ}(h:jT fp F w s1.val s)(S:∀b,F b->b<w.heap.size)(y:OQ s)(N:rC A)(hz:(aP [] true 2001 A ⟨fE s,0,0⟩).kind=0)(hn:PN (Btw lo w.heap.size) w (.iface t z) A)(hp:kM w):
 Calls prog 35 #[s1.val,.iface t z] w fun e w'=>e=aZ (.tuple #[.string (bs (ZI s A).1),Iv0 (ZI s A).2])/\Below w.heap.size w w':=by
 have D:=N.ok hz;have aa:=N.len (fE s) 2001 0;have ab:=y.few;obtain⟨hx,O⟩:=M4 D N.lit y.told (by omega) y.utf
 have c:=wS (aF [] (fE s) 2001 A 0).length hx cL;have J:ZI s A=(if (fT (aF [] (fE s) 2001 A 0).length ⟨⟨[],aF [] (fE s) 2001 A 0⟩,0,0,[],mW s,[]⟩).2=0 then cH (fT (aF [] (fE s) 2001 A 0).length ⟨⟨[],aF [] (fE s) 2001 A 0⟩,0,0,[],mW s,[]⟩).1.last else [],(fT (aF [] (fE s) 2001 A 0).length ⟨⟨[],aF [] (fE s) 2001 A 0⟩,0,0,[],mW s,[]⟩).2):=rfl
 rw[J];clear J;generalize hr:fT (aF [] (fE s) 2001 A 0).length ⟨⟨[],aF [] (fE s) 2001 A 0⟩,0,0,[],mW s,[]⟩=r at*;have d:Below w.heap.size w (w.alloc (.cells s1.cells 49)):=(co_ _ _).alloc cL _;have h0:jT fp F (w.alloc (.cells s1.cells 49)) s1.val s:=h.keep (fun b B=>d.block b (S b B)) dX
 obtain⟨vx,vn,vc,x,I,X⟩:=SH h0 (fun b B=>cn_ (S b B) d.size) y.deep (by omega) (PN.grow hn (fun k _ H=>d.block k H) (cy_ lo) d.size) D (N.lit 2001) (by omega) O
 obtain⟨a,x1,x2,x3,n1,n2,n3,c1,c2,c3,q⟩:=s1
 refine(WR w a q x1 x2 x3 n1 c1 n2 c2 n3 c3 vx vn vc t z (fun v W=>v=.tuple #[.string (bs (if r.2=0 then cH r.1.last else [])),Iv0 r.2]/\Below w.heap.size w W)
  (fun p W=>EvF F (w.alloc (.cells (SV.cells ⟨a,x1,x2,x3,n1,n2,n3,c1,c2,c3,q⟩) 49)) (aF [] (fE s) 2001 A 0) p W) (EvB w r) X (fun p W hq=>?_) (fun s f W y I=>?_) (fun f W I=>?_)).mono ?_
 ·obtain⟨G,u,h2,h3,h4⟩:=hq;exact XK w W (d.trans (h2.mono d.size)) h3 h4 ((x.keep fun k H=>h2.block k (cn_ (S k H) d.size)).mono u) I hx hr
 ·obtain⟨e,u,_⟩:=I;exact⟨by rw[if_neg (by rw[<-e];exact y),e],u⟩
 ·obtain⟨E,u,P,G,K,tv,i,C,Y,ho⟩:=I;obtain⟨l,c, -⟩:=c E.symm;have o:r.1.last=l:=by unfold aJ.last;rw[c];rfl
  have hc:=Y.count;have g:=Y.blk;rw[hc] at g;refine(oN (f+1) f 0 K W (aA g rfl) (by omega)).mono ?_
  rintro e w1 ⟨he,j,rfl⟩;have Z:=aV.drewN W j;have M:=Y.grow Z.below dX (fun _ h=>cl_ h)
  have Q:f<=(W.drewN j).heap.size:=by have:=M.lt f (by simp[aR]);omega
  have hM:dV true fp0 f (f+1) f 0 (Iv0 0) (Iv0 0) (aR true (f+1) f i C) (W.drewN j) G ⟨[]++[r.1],[],[]⟩ (W.drewN j):=⟨Kept.refl _ _,Q,K,tv,i,C,by simpa using hc,M,fun _ h=>cl_ h⟩
  refine⟨by simpa using he,?_⟩
  refine(hM.pop (vs:=[]) (a:=l) c (by rw[c];simp)).mono ?_
  rintro e w2 ⟨t2,z2,rfl,x,T,L⟩;have m:Below w.heap.size w w2:=(u.trans (Z.below.mono u.size)).trans ((L.1.belowE (n:=w.heap.size) (cw_ u.size Z.below.size) fun k H=>cw_ P (ho k H)))
  refine⟨t2,z2,rfl,(nI G 200 (.iface t2 z2) l w2 x (fun b B=>?_) (hp.below m) T (by omega)).mono ?_⟩
  ·obtain⟨_,_,_,_,_,_,_,V,_⟩:=L;exact(V.apart b B).1
  rintro e w3 ⟨rfl,U⟩;exact⟨_,rfl,by rw[<-E,if_pos rfl,o];rfl,m.trans (U.mono m.size)⟩
 ·rintro e w' ⟨v,rfl,rfl,h⟩;exact⟨rfl,h⟩
def OQ.of{ks:List aE}{a:List Int}{t:Nat}{s:bC}(e:Good ks)(h:bU ks a t=some s):OQ s:=by
 obtain⟨g,j,i,k⟩:=e.sta h;have d:=DV e.ok e.kl a t s h;refine⟨g.deep,?_,?_,fun v c=>?_⟩
 ·unfold fE;cases b:s.m.frames.getLast? with
  |none=>simp
  |some f=>exact cw_ (d f (do_ b)).1.2 (by omega)
 ·unfold fE mW;cases b:s.m.frames.getLast? with
  |none=>simp
  |some f=>exact g.told f (do_ b)
 ·unfold mW at c;cases b:s.m.frames.getLast? with
  |none=>rw[b] at c;cases c
  |some f=>rw[b] at c;exact(i.utf f (do_ b)).vars v c
def lX(s:bC)(A:aE):Nat × Nat:=((aP [] true 2001 A ⟨fE s,0,0⟩).kind,(aP [] true 2001 A ⟨fE s,0,0⟩).line)
noncomputable def fL(s:bC)(A:aE):(cD × Nat) × Nat × Nat:=if (lX s A).1=0 then (ZI s A,0,0) else (([],0),lX s A)
abbrev YN(r:(cD × Nat) × Nat × Nat):Value:=.agg #[.string (bs r.1.1),Iv0 r.1.2,Iv0 r.2.1,Iv0 r.2.2]
def qM{fp:eQ}{F:bX}{w:aG}{s1:SV}{s:bC}{lo:Nat}{A:aE}{t:TypeId}{z:aQ}(h:jT fp F w s1.val s)(hF:∀b,F b->b<w.heap.size)(hs:OQ s)(X:rC A)(hn:PN (Btw lo w.heap.size) w (.iface t z) A)(hp:kM w):
 Calls prog 16 #[s1.val,.iface t z] w fun e j=>e=aZ (YN (fL s A))/\Below w.heap.size w j:=by
 have ac:=hs.few;have ae:=X.wt 2001;have stAt:∀W,Below w.heap.size w W->jT fp F W s1.val s/\(∀b,F b->b<W.heap.size)/\PN (Btw lo W.heap.size) W (.iface t z) A:=fun W g=>⟨h.keep (fun b d=>g.block b (hF b d)) dX,fun b d=>cn_ (hF b d) g.size,PN.grow hn (fun k _ C=>g.block k C) (cy_ lo) g.size⟩
 have L:∀V i,Below w.heap.size w V->aV V i->Calls prog 34 #[s1.val] i fun e j=>∃x n c,e=aZ (.slice x n c)/\Below V.heap.size V j/\Calls prog 33 #[.iface t z,.slice x n c] j fun e u=>Below V.heap.size V u/\(((lX s A).1=0/\e=aZ (.tuple #[]))\/((lX s A).1≠0/\e=cT (lX s A).1 (lX s A).2)):=fun V i E D=>by
  have ab:Below w.heap.size w i:=E.trans (D.below.mono E.size);obtain⟨P,k2,U⟩:=stAt i ab;refine(I6 P k2 hs.deep (by omega)).mono ?_
  rintro e j ⟨y,c,rfl,r,m⟩;have aa:Below V.heap.size V j:=D.below.trans (m.mono D.below.size);refine⟨_,_,_,rfl,aa,(JO j t z A lo i.heap.size y c (fE s) 2001 (U.below m) r m.size X.dp (by omega)).mono ?_⟩
  rintro e u ⟨M,K⟩;exact⟨D.below.trans ((m.trans M).mono D.below.size),K⟩
 obtain⟨a,x1,x2,Q,n1,n2,S,Y,c2,c3,q⟩:=s1;refine(JS w a q x1 x2 Q n1 Y n2 c2 S c3 t z (fun v W=>v=YN (fL s A)/\Below w.heap.size w W) (fun k l W=>(k=(lX s A).1/\(k≠0->l=(lX s A).2)/\(k=0->l=0))/\Below w.heap.size w W) (fun W g I N ad=>?_) (fun k l W T C G g=>?_) (fun l W T G p=>?_)).mono ?_
 ·refine(sL 32 (some (aH (w.heap.size+1) 0)) (some (aH w.heap.size 0)) W (fun i=>(lX s A).1=0/\Below (W.heap.size+2) ((W.alloc (.cells #[Iv0 0] 30)).alloc (.cells #[Iv0 0] 3)) i) (fun k n=>k=(lX s A).1/\n=(lX s A).2) (fun W=>a9_ _ _ W) (fun V E=>?_)).mono ?_
  ·have B:Below W.heap.size W V:=by rw[E];exact vM _ _ _
   have Z:V.heap.size=W.heap.size+2:=by rw[E];simp
   have hK:V.heap[W.heap.size]?=some (.cells #[Iv0 0] 30 (0,0)):=by rw[E];exact jM _ _ _
   have hI:V.heap[W.heap.size+1]?=some (.cells #[Iv0 0] 3 (0,0)):=by rw[E];exact gM _ _ _
   have O:Below w.heap.size w V:=g.trans (B.mono g.size);by_cases H:(lX s A).1=0
   ·refine(GF V (w.heap.size+1) w.heap.size a q x1 x2 Q n1 Y n2 c2 S c3 t z (fun i=>Below V.heap.size V i) (by rw[B.block _ (by omega)];exact N) (by rw[B.block _ (by omega)];exact I) (fun i D=>(L V i O D).mono ?_)).mono ?_
    ·rintro e j ⟨x,n,c,rfl,r,m⟩;refine⟨x,n,c,rfl,r,m.mono ?_⟩;rintro e u ⟨M,⟨_,rfl⟩|⟨K,_⟩⟩
     ·exact⟨rfl,M⟩
     ·exact absurd H K
    ·rintro e j ⟨rfl,d⟩;exact cl_ ⟨rfl,by rw[d.block _ (by omega)];exact hK,by rw[d.block _ (by omega)];exact hI,H,by rw[<-E,<-Z];exact d⟩
   ·refine(BY V (w.heap.size+1) w.heap.size a q x1 x2 Q n1 Y n2 c2 S c3 t z (lX s A).1 (lX s A).2 (fun i=>Below V.heap.size V i) (by rw[B.block _ (by omega)];exact N) (by rw[B.block _ (by omega)];exact I) (fun i D=>(L V i O D).mono ?_)).mono ?_
    ·rintro e j ⟨x,n,c,rfl,r,m⟩;refine⟨x,n,c,rfl,r,m.mono ?_⟩;rintro e u ⟨M,⟨K,_⟩|⟨_,rfl⟩⟩
     ·exact absurd K H
     ·exact⟨rfl,M⟩
    ·rintro e j ⟨rfl,d⟩;exact ck_ ⟨_,_,H,rfl,d,rfl,rfl⟩
  ·rintro e j (⟨rfl,w1,⟨H,m⟩,rfl⟩|⟨k,n,C,rfl,d,rfl,rfl⟩)
   ·have J:Below W.heap.size W ((w1.setCell (aH W.heap.size 0) (Iv0 0)).setCell (aH (W.heap.size+1) 0) (Iv0 0)):=
     (((vM W _ _).trans (m.mono (by omega))).setCell (by show _<=W.heap.size;omega) _).setCell (by show _<=W.heap.size+1;omega) _
    exact⟨0,0,rfl,J,⟨H.symm,fun h=>absurd rfl h,fun _=>rfl⟩,g.trans (J.mono g.size)⟩
   ·exact⟨_,_,rfl,d,⟨rfl,fun _=>rfl,fun h=>absurd h C⟩,g.trans (d.mono g.size)⟩
 ·obtain⟨⟨r,m, -⟩,f⟩:=G;refine⟨?_,f.trans g⟩;unfold fL;rw[if_neg (by rw[<-r];exact C),r,m C]
  rfl
 ·obtain⟨⟨r, -,m⟩,f⟩:=G;obtain rfl:=m rfl
  have o:Below w.heap.size w T:=⟨p.os.trans f.os,p.tape.trans f.tape,p.output.trans f.output,cw_ f.size p.size,fun k C=>by
   rw[p.block k (cn_ C f.size) (by omega),f.block k C]⟩
  obtain⟨P,k2,U⟩:=stAt T o;refine(I7 P k2 hs X r.symm U (hp.below o)).mono ?_;rintro e j ⟨rfl,g⟩;refine⟨_,_,rfl,g,fun u d=>⟨?_,(o.trans (g.mono o.size)).trans d⟩⟩
  unfold fL;rw[if_pos r.symm];rfl
 ·rintro e j ⟨v,rfl,rfl,h⟩;exact⟨rfl,h⟩
noncomputable def gG(s:bC)(l:cD):(cD × Nat) × Nat × Nat:=match iR l with
 |.error f=>(([],0),f)
 |.ok A=>fL s A
def C6{fp:eQ}{F:bX}{w:aG}{sb O n:Nat}{M:Obj}{V:Nat->Option bC}{s:bC}(h:kL fp F w sb O M V s n)(U:OQ s)(S:kM w)(P:gS w)(c:ByteArray)(T:c.size<=maxLen):
 Calls prog 8 #[bH sb,.string c] w fun e m=>e=aZ (.tuple #[.string (bs (gG s c.data.toList).1.1),Iv0 (gG s c.data.toList).1.2,Iv0 (gG s c.data.toList).2.1,Iv0 (gG s c.data.toList).2.2])/\Below w.heap.size w m:=by
 obtain⟨H,u,Q,L,Y,N,k4,_⟩:=h.cells;have i:=h.lt;have k:∀b,F b->b<w.heap.size:=fun b g=>(h.fix b g).1
 obtain⟨a,K,I,y,J,C,B,D,E,G,q⟩:=H
 refine(VH w sb c a q K I y J D C E B G (fun v W=>v=.tuple #[.string (bs (gG s c.data.toList).1.1),Iv0 (gG s c.data.toList).1.2,Iv0 (gG s c.data.toList).2.1,Iv0 (gG s c.data.toList).2.2]/\Below w.heap.size w W)
  (fun t z W=>∃A,iR c.data.toList=.ok A/\Below w.heap.size w W/\PN (Btw w.heap.size W.heap.size) W (.iface t z) A) ((wK c w P T).mono ?_) (fun t z W o=>?_)).mono ?_
 ·rintro e m ⟨g,⟨f,r,p,rfl⟩|⟨A,t,z,r,rfl,p⟩⟩
  ·refine cl_ ⟨f.1,f.2,p,rfl,?_,g⟩;unfold gG;rw[r];rfl
  ·exact ck_ ⟨t,z,rfl,A,r,g,p⟩
 ·obtain⟨A,o,g,X⟩:=o;have l:∀j v,w.cell? (aH sb j)=some v->W.cell? (aH sb j)=some v:=fun j v Z=>(World.cell?_of_block (g.block sb i)).trans Z
  refine⟨l _ _ Q,l _ _ L,l _ _ Y,l _ _ N,l _ _ k4,cn_ i g.size,(qM (s1:=⟨a,K,I,y,J,C,B,D,E,G,q⟩) (u.keep (fun b d=>g.block b (k b d)) dX) (fun b d=>cn_ (k b d) g.size) U (yO o) X (S.below g)).mono ?_⟩
  rintro e m ⟨rfl,d⟩;refine⟨_,_,_,_,rfl,fun W' x=>⟨?_,g.trans ((d.trans (x.mono d.size)).mono g.size)⟩⟩
  unfold gG;rw[o]
 ·rintro e m ⟨v,rfl,rfl,h⟩;exact⟨rfl,h⟩
end Go.Proofs.YtmjbnmpamlainaaGreatDoor
