/- Contracts of the program: the moment is told where there is no frame. -/
import Derived.Test.YtddnpoiiimjpcaaGreatDoorP34
import Derived.Test.YtddnpoiiimjpcaaGreatDoorP04
set_option linter.defProp false
set_option maxRecDepth 100000
set_option maxHeartbeats 4000000
namespace Go.Proofs.YtddnpoiiimjpcaaGreatDoor
open Hs
open _root_.Go.Proofs.Tryz
open Go.RowKit
def EX(base:Nat)(w:aH)(v:aQ)(l:cO):Prop:=∃x c,v=.slice x l.length c/\∀i (h:i<l.length),∃g,x=some (aL g 0)/\w.cell? (aL g i)=some (.string (bs l[i]))/\base<=g/\g<w.heap.size
def EX.keep{base:Nat}{w w':aH}{v:aQ}{l:cO}(h:EX base w v l)(f:∀k,base<=k->k<w.heap.size->w'.heap[k]?=w.heap[k]?)(n:w.heap.size<=w'.heap.size):EX base w' v l:=by
 obtain⟨x,c,j,d⟩:=h;refine⟨x,c,j,fun i o=>?_⟩
 obtain⟨g,e,m,a,b⟩:=d i o;exact⟨g,e,by rw[World.cell?_of_block (f g a b)];exact m,a,Y7 b n⟩
def KE{F:cC}{w:aH}{v:aQ}{l:cO}(h:GQ F w v l)(B:l.length<=1000000):
 Calls prog 53 #[v] w fun e b=>∃x n c,e=bE (.slice x n c)/\EX w.heap.size b (.slice x n c) l/\Below w.heap.size w b:=by
 rcases h with ⟨rfl,rfl⟩|⟨g,c,A,rfl,E,C,H,z⟩
 ·refine(sB w).mono ?_;rintro e b ⟨rfl,rfl⟩;exact⟨none,0,0,rfl,⟨none,0,rfl,fun i k=>by simp at k⟩,Y8 _ _⟩
 ·refine(sC g 0 l.length c (lS l) w (by simp[lS]) B (fun j u a=>?_) (fun u q=>?_)).mono ?_
  ·rw[x9];refine aA C ?_;rw[<-z,i8] at a;split at a
   ·rw[Array.getElem?_toList] at a;exact a
   ·cases a
  ·simp only[lS,ac_] at q;obtain⟨x,_,rfl⟩:=q;rfl
  ·rintro e b ⟨D,rfl,f,y⟩;obtain⟨x,m,rfl⟩:=cY f;refine⟨x,_,m,rfl,⟨x,m,rfl,fun i k=>?_⟩,y⟩
   rcases f.2 with ⟨d,r⟩|⟨p,o,s,d,r,t,G⟩
   ·simp only[Value.slice.injEq] at d;omega
   ·cases d;refine⟨p,rfl,?_,r,aD t⟩;have:=f.cells (g:=p) rfl i (.string (bs l[i])) (by simp[lS,k])
    rw[zC] at this;exact this
def QN(w:aH)(s:SV)(h:s.n1=0):Calls prog 80 #[s.val] w fun e a=>e=bE (.pointer none)/\Below w.heap.size w a:=by
 obtain⟨t,g,c,i,d,j,k,l,b,f,q⟩:=s;subst h;unfold SV.val;go_in
 go_wp2
 go_ret;exact⟨rfl,(Y8 _ _).alloc dH _⟩
def UV(w:aH)(s:SV)(h:s.n1=0):Calls prog 52 #[s.val] w fun e d=>e=bE (bV)/\Below w.heap.size w d:=by
 have a:=aB fun W=>QN W s h
 have g:=aB fun W=>AnyF.slices_SortFunc_none (P:=prog) (ρ:=sortL_ren) { sortL with } none 0 (.func (.func 84) #[] #[]) W
 obtain⟨t,r,o,i,p,x,j,l,m,n,q⟩:=s;subst h;unfold SV.val at a;unfold SV.val;go_in
 go_wp2_with fail;refine(a _).mono ?_;rintro e c ⟨rfl,b⟩;have f:=aB b;clear b a;go_wp2_with fail;go_loopg [3,4] 1 (fun k v s wr=>v=bV/\s=.pointer none/\wr=c)
 case atStart=>exact⟨rfl,rfl,rfl⟩
 case round=>
  obtain⟨rfl,rfl,rfl⟩:=hrel;go_wp2_with fail;refine(g _).mono ?_;rintro e u ⟨rfl,rfl⟩;go_wp2
  go_ret;exact⟨rfl,((Y8 _ _).alloc dH _).trans (f.mono (by simp))⟩
def QI(w:aH)(s:SV)(h:s.n1=0):Calls prog 51 #[s.val] w fun e b=>e=bE (bV)/\Below w.heap.size w b:=by
 obtain⟨t,o,m,d,n,p,f,g,j,l,q⟩:=s;subst h;unfold SV.val;go_in
 go_wp2_with fail;go_loopg [3,9] 1 (fun k v i wr=>v=bV/\i=Iv0 0/\Below w.heap.size w wr)
 case atStart=>exact⟨rfl,rfl,(Y8 _ _).alloc dH _⟩
 case round=>
  obtain⟨rfl,rfl,a⟩:=hrel;have c:=aB a;clear a;go_wp2
  go_ret;exact⟨rfl,c⟩
def C3(w:aH)(sb:Nat)(s:SV)(P:SV->World->Prop)(H:sb<w.heap.size)
 (k0:w.cell? (aL sb 0)=some (Iv0 s.t)) (o:w.cell? (aL sb 1)=some (.slice s.x1 s.n1 s.c1)) (E:w.cell? (aL sb 2)=some (.slice s.x2 s.n2 s.c2)) (r:w.cell? (aL sb 3)=some (.slice s.x3 s.n3 s.c3)) (I:w.cell? (aL sb 4)=some (Iv0 s.q))
 (g:Hid (Calls prog 30 #[s.val] (w.alloc (.cells #[Iv0 0,bV,bV,bV,Iv0 0] 35)) fun e f=>∃m:SV,e=bE m.val/\(∃c,f.heap[w.heap.size]?=some (.cells c 35 (0,0))/\c.size=5)/\P m (fG f w.heap.size m))):
 Calls prog 8 #[bO sb] w fun e f=>∃m:SV,e=bE m.val/\P m f:=by
 unfold SV.val at g;go_in
 go_wp2_with fail;refine g.mono ?_;rintro e k ⟨m,rfl,⟨c,a,N⟩,l⟩;have u:=aA (i:=0) a (Z0 (by omega))
 have B:=aA (i:=1) a (Z0 (by omega))
 have q:=aA (i:=2) a (Z0 (by omega))
 have K:=aA (i:=3) a (Z0 (by omega))
 have A:=aA (i:=4) a (Z0 (by omega))
 have p:=aE (i:=0) a;have t:=aE (i:=1) a;have D:=aE (i:=2) a;have G:=aE (i:=3) a;have F:=aE (i:=4) a;have L:=aD a;have n:=oF (W:=k) (s:=m) a (by omega) rfl
 have h:=aB n;have j:=aB l;unfold fG at h j;clear n l a g k0 o E r I;go_wp2_with fail;have b:=h;have d:=j;clear h j u B q K A p t D G F;generalize ((((k.setCell (aL w.heap.size 0) (Iv0 m.t)).setCell (aL w.heap.size 1) (.slice m.x1 m.n1 m.c1)).setCell (aL w.heap.size 2) (.slice m.x2 m.n2 m.c2)).setCell (aL w.heap.size 3) (.slice m.x3 m.n3 m.c3)).setCell (aL w.heap.size 4) (Iv0 m.q)=M at b d ⊢
 obtain⟨J,x,z,C,y⟩:=b;exact bodyPost_ret (v:=.agg #[Iv0 m.t,.slice m.x1 m.n1 m.c1,.slice m.x2 m.n2 m.c2,.slice m.x3 m.n3 m.c3,Iv0 m.q]) (by simp[results,results8,go_sem,J,x,z,C,y]) rfl ⟨m,rfl,d⟩
def CT{w W:aH}{b:Nat}(s:SV)(h:Below w.heap.size w W)(g:w.heap.size<=b):Below w.heap.size w (fG W b s):=by
 obtain⟨e,c,f,d⟩:=iJ W b s;exact⟨c.trans h.os,f.trans h.tape,d.trans h.output,by rw[e];exact h.size,fun k a=>by rw[eC _ _ _ k (by omega)];exact h.block k a⟩
def C4{fp:fN}{F:cC}{w:aH}{sb mb n:Nat}{mo:Obj}{st:Nat->Option cD}{s:cD}(h:kS fp F w sb mb mo st s n)(X:s.m.frames=[])(ho:s.m.out.length<=1000000):
 Calls prog 8 #[bO sb] w fun e p=>∃m:SV,e=bE m.val/\Below w.heap.size w p/\m.t=s.time/\m.q=s.stop/\m.n1=0/\m.n2=0/\EX w.heap.size p (.slice m.x3 m.n3 m.c3) s.m.out:=by
 obtain⟨o,D,k0,k1,k2,k3,k4,_⟩:=h.cells;have O:=h.lt;obtain⟨ac,e0,e1,e2⟩:=D.sv;obtain rfl:=SV.val_inj e0
 have E:o.n1=0:=by
  obtain⟨fv,tv,ov,y,t,K,H,N,M⟩:=D;rw[X] at H
  have Y:y=[]:=by
   cases y with
   |nil=>rfl
   |cons v l=>exact H.elim
  subst Y;simp only[SV.val,Value.agg.injEq] at t;simp at t;rcases K with ⟨_,x,c,e⟩|⟨g,c,ab,e,_⟩
  ·have:=t.2.1.trans e;simp at this;exact this.2.1
  ·have:=t.2.1.trans e;simp at this;exact this.2.1
 have V:∀W,Below w.heap.size w W->GQ F W (.slice o.x3 o.n3 o.c3) s.m.out:=fun W u=>by
  obtain⟨fv,tv,ov,y,t,K,H,N,M⟩:=D;simp only[SV.val,Value.agg.injEq] at t;simp at t;rw[t.2.2.2.1];exact M.keep (fun b a=>u.block b (h.fix b a).1) eD
 generalize q:w.alloc (.cells #[Iv0 0,bV,bV,bV,Iv0 0] 35)=f;have r:Below w.heap.size w f:=by rw[<-q];exact(Y8 _ w).alloc dH _
 have ae:f.heap.size=w.heap.size+1:=by rw[<-q];simp
 have Z:f.heap[w.heap.size]?=some (.cells #[Iv0 0,bV,bV,bV,Iv0 0] 35 (0,0)):=by rw[<-q];exact aU _ _ rfl _
 refine C3 w sb o _ O k0 k1 k2 k3 k4 ?_;rw[q];generalize j:(f.alloc (.cells o.cells 60)).alloc (.cells #[Iv0 0,bV,bV,bV,Iv0 0] 35)=d;have A:Below f.heap.size f d:=by rw[<-j];exact((Y8 _ f).alloc dH _).alloc (by simp) _
 have ad:d.heap.size=f.heap.size+2:=by rw[<-j];simp
 have z:d.heap[f.heap.size]?=some (.cells o.cells 60 (0,0)):=by rw[<-j];exact nY _ _ _
 have Q:d.heap[f.heap.size+1]?=some (.cells #[Iv0 0,bV,bV,bV,Iv0 0] 35 (0,0)):=by rw[<-j];exact lK _ _ _
 refine MV f o (fun m p=>(∃c,p.heap[w.heap.size]?=some (.cells c 35 (0,0))/\c.size=5)/\Below w.heap.size w (fG p w.heap.size m)/\m.t=s.time/\m.q=s.stop/\m.n1=0/\m.n2=0/\EX w.heap.size (fG p w.heap.size m) (.slice m.x3 m.n3 m.c3) s.m.out)
  (fun m W=>Below d.heap.size d W/\m.t=s.time/\m.q=s.stop/\m.n1=0/\m.n2=0/\EX d.heap.size W (.slice m.x3 m.n3 m.c3) s.m.out)
  (fun x n c W=>n=0/\Below d.heap.size d W) (fun x n c x2 n2 c2 W=>n=0/\n2=0/\Below d.heap.size d W) (fun W u=>?_) (fun x n c W G=>?_) (fun x n c x2 n2 c2 W G=>?_) (fun m W G=>?_)
 ·rw[j] at u;refine(QI W o E).mono ?_;rintro e p ⟨rfl,a⟩;have I:Below d.heap.size d W:=⟨u.os,u.tape,u.output,by rw[u.heap];exact Z7 _,fun k _=>by rw[u.heap]⟩
  exact⟨none,0,0,rfl,rfl,I.trans (a.mono I.size)⟩
 ·obtain⟨rfl,a⟩:=G;refine⟨by rw[a.block _ (by omega)];exact z,(UV W o E).mono ?_⟩
  rintro e p ⟨rfl,B⟩;exact⟨none,0,0,rfl,rfl,rfl,a.trans (B.mono a.size)⟩
 ·obtain⟨rfl,rfl,a⟩:=G;have C:Below w.heap.size w W:=r.trans ((A.mono r.size).trans (a.mono (by omega)))
  refine⟨by rw[a.block _ (by omega)];exact z,(KE (V W C) ho).mono ?_⟩
  rintro e p ⟨x3,n3,c3,rfl,hO,B⟩;refine⟨x3,n3,c3,rfl,a.trans (B.mono a.size),e1,e2,rfl,rfl,?_⟩;obtain⟨x,c,L,J⟩:=hO;refine⟨x,c,L,fun i T=>?_⟩
  obtain⟨g,P,U,a3,S⟩:=J i T;exact⟨g,P,U,Z4 a.size a3,S⟩
 ·obtain⟨a,K,H,N,M,q5⟩:=G;have aa:=a.size;refine⟨by rw[a.block _ (by omega)];exact z,⟨_,by rw[a.block _ (by omega)];exact Q,by simp⟩,⟨_,by rw[eC _ _ _ _ (by omega),a.block _ (by omega),A.block _ (by omega)];exact Z,by simp⟩,?_,K,H,N,M,?_⟩
  ·have C:Below w.heap.size w W:=r.trans ((A.mono r.size).trans (a.mono (by omega)))
   exact CT m (CT m C (by omega)) dH
  ·have hq:=q5.keep (w':=fG (fG W (f.heap.size+1) m) w.heap.size m) (fun k L J=>by rw[eC _ _ _ _ (by omega),eC _ _ _ _ (by omega)]) (by rw[(iJ _ _ _).1,(iJ _ _ _).1];exact Z7 _)
   obtain⟨x,c,L,J⟩:=hq;refine⟨x,c,L,fun i T=>?_⟩
   obtain⟨g,P,U,a3,S⟩:=J i T;exact⟨g,P,U,by omega,S⟩
def UI{l:cE}{ks:List aC}(b:dA l=.ok ks)(e:dQ l=(0,0)):Good ks:=by
 obtain⟨g,d⟩:=IR b e;have a:=DY b;have h:=(kU b).len;exact⟨by omega,g,a,fun f c=>by have:=((kU b).mem c).kids.len;omega,d,PX a⟩
def IG{ks:List aC}{a:List Int}:∀(d t:Nat) (z:cD),dM ks a (t+1+d)=some z->∃x,dM ks a t=some x/\x.stop=0
 |0,t,z,h=>by
  unfold dM at h ⊢
  rw[Nat.add_zero,fT] at h;cases b:fT (dV ks 2001) (gV ks 2001 a) t with
  |none=>rw[b] at h;cases h
  |some x=>
   rw[b] at h;simp only at h;split at h
   ·rename_i e;exact⟨x,rfl,e⟩
   ·cases h
 |d+1,t,z,h=>by
  obtain⟨x,c,_⟩:=IG 0 (t+1+d) z (by rw[show t+1+d+1+0=t+1+(d+1) by omega];exact h)
  exact IG d t x c
def A0{ks:List aC}{a:List Int}{t u:Nat}{z:cD}(h:dM ks a u=some z)(b:t<u):∃x,dM ks a t=some x/\x.stop=0:=IG (u-t-1) t z (by rw[show t+1+(u-t-1)=u by omega];exact h)
def XT{ks:List aC}{a:List Int}{s τ:cD}{b:Bool}(k:dM ks a s.time=some s)(h:ZF (dM ks a) (fun _=>true) s τ b):(b=true/\τ.time=s.time+1/\s.stop=0)\/(b=false/\τ=s/\s.stop≠0):=by
 rcases h with ⟨f,e,d⟩|⟨f,e,d,i,_⟩
 ·exact Y3 ⟨f,e,d⟩
 ·refine Y4 ⟨f,?_,?_⟩
  ·rcases l6 (s.time+1) τ.time with g|g
   ·obtain⟨x,c,_⟩:=A0 d g;have:=i _ x (by omega) g c
    cases this
   ·omega
  ·obtain⟨x,c,j⟩:=A0 d e;rw[k] at c;cases c;exact j
def Below.fs{w W b:aH}{sb:Nat}(h:Below w.heap.size w W)(a:FS sb W b)(f:w.heap.size<=sb)(d:∀k,lV sb W=some k->sb<k):Below w.heap.size w b:=
 ⟨a.os.trans h.os,a.tape.trans h.tape,a.output.trans h.output,Z4 h.size a.size,fun k c=>by
   have:=h.size;rw[a.blk k (by omega) (by omega) fun e=>by have:=d k e;omega];exact h.block k c⟩
def MC(w:aH)(j:cE)(T:Nat)(h:cO)(hE:oB j T h)(hT:lD w)(hp:lB w)(aa:9<=w.heap.size):
 Calls prog 13 #[.string (bs j)] w fun e o=>∃x n c,e=bE (.tuple #[.slice x n c,Iv0 T,.bool true])/\EX w.heap.size o (.slice x n c) h/\Below w.heap.size w o:=by
 obtain⟨N,V,l,D,I⟩:=hE;have U:=UI l D;have d:dM N [] T=some ⟨T,⟨[],V,h⟩,1⟩:=I;have E:=U.sta d;have K:T<=500:=E.1.time
 have Q:j.length<=2000:=by
  unfold dA at l;split at l
  ·cases l
  ·omega
 refine(IU w (bs j) T K (fun m W=>EX w.heap.size W (.slice m.x3 m.n3 m.c3) h/\Below w.heap.size w W)
  (fun t A W=>∃u G y B n s,Live u G W A y B N [] s n []/\s.time=t/\t<=T/\w.heap.size<=A/\Below w.heap.size w W)
  (fun A W=>∃u G y B n,Live u G W A y B N [] ⟨T,⟨[],V,h⟩,1⟩ n []/\Below w.heap.size w W) ?_ (fun t A W hL=>?_) (fun A W hM=>?_)).mono ?_
 ·refine(SI (bs j) (bV) [] w hT hp (by rw[iM];omega) (Y4 ⟨rfl,rfl⟩) (by simp) (fun M r f=>?_)).mono ?_
  ·rw[jN] at r f;exact UI r f
  ·rintro e o ⟨v,rfl,C,Z⟩;rw[jN] at Z;rcases Z with ⟨_,M,u,G,A,y,F,rfl,L,P,q4,s,q5,q6,_⟩|⟨p,_⟩
   ·rw[l] at F;cases F;exact⟨A,rfl,u,G,y,_,1,s,⟨q5,q4,hp.below C,⟨by omega,by omega⟩,by omega,fun b C=>by cases C⟩,q6,by omega,L,C⟩
   ·rw[D] at p;exact absurd rfl p
 ·obtain⟨u,G,y,B,n,s,r,f,h3,X,h5⟩:=hL;refine(ZZ U (by simp) r).mono ?_
  rintro e o ⟨b,rfl,O,S,τ,F,L,P⟩;have z:Below w.heap.size w o:=Below.fs h5 P X fun k J=>(r.row J).1
  have a:=r.ses.now;rcases XT a L with ⟨rfl,Y,H⟩|⟨rfl,rfl,H⟩
  ·refine Y4 ⟨?_,rfl,u,O,y,B,S,τ,F,by omega,?_,X,z⟩
   all_goals
    refine Nat.lt_of_le_of_ne h3 fun e=>?_
    rw[f,e,d] at a;cases a;exact absurd H (by simp)
  ·have ht:t=T:=by
    rcases l6 t T with h6|h6
    ·obtain⟨x,h7,h8⟩:=A0 d h6;rw[<-f,a] at h7;cases h7;exact absurd h8 H
    ·omega
   subst ht;rw[f,d] at a;cases a;exact Y3 ⟨rfl,rfl,u,O,y,B,S,F,z⟩
 ·obtain⟨u,G,y,B,n,r,f⟩:=hM;refine(C4 r.ses rfl (by have:=E.2.2.1.out;simp only at this ⊢;omega)).mono ?_
  rintro e o ⟨m,rfl,C,e1,Y,H,e4,ho⟩;refine⟨m,rfl,e1,Y,H,fun q=>⟨?_,?_⟩⟩
  ·have p:EX w.heap.size o (.slice m.x3 m.n3 m.c3) h:=by
    obtain⟨x,c,a1,a2⟩:=ho;refine⟨x,c,a1,fun i hi=>?_⟩
    obtain⟨g,b1,b2,b3,b4⟩:=a2 i hi;exact⟨g,b1,b2,Z4 f.size b3,b4⟩
   refine p.keep (fun k _ J=>?_) ?_
   ·exact Z3 o (.cells m.cells 35) k J
   ·show o.heap.size<=(o.alloc (.cells m.cells 35)).heap.size
    simp
  ·have p:=(f.trans (C.mono f.size)).alloc (f.trans (C.mono f.size)).size (.cells m.cells 35);exact⟨p.os,p.tape,p.output,p.size,p.block⟩
 ·rintro e o ⟨m,rfl,r,f⟩;exact⟨_,_,_,rfl,r,f⟩
def E3(n:Int)(c: -9223372036854775808<=n)(b:n<=9223372036854775807)(w:aH)(d:lB w):
 Calls prog 14 #[Iv0 n] w fun e f=>e=bE (.string (bs (cH n)))/\Below w.heap.size w f:=by
 refine(strconv_Itoa n c b w d).mono ?_;rintro e h ⟨rfl,g,i,a⟩;exact⟨by rw[rV n c b];rfl,BQ a⟩
end Go.Proofs.YtddnpoiiimjpcaaGreatDoor
