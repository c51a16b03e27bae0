/- Contracts of the program: the moment is told where there is no frame. -/
import Derived.Test.YtblbkfdhjfppkaaGreatDoorP23
set_option linter.defProp false
set_option maxRecDepth 100000
set_option maxHeartbeats 4000000
namespace Go.Proofs.YtblbkfdhjfppkaaGreatDoor
open Hs
open _root_.Go.Proofs.Tryz
open Go.RowKit
def pB(base:Nat)(w:World)(v:Value)(l:List (List UInt8)):Prop:=∃x c,v=.slice x l.length c/\∀i (h:i<l.length),∃g,x=some ⟨g,0,none⟩/\w.cell? ⟨g,i,none⟩=some (.string (bs l[i]))/\base<=g/\g<w.heap.size
def pB.keep{base:Nat}{w w':World}{v:Value}{l:List (List UInt8)}(h:pB base w v l)(f:∀k,base<=k->k<w.heap.size->w'.heap[k]?=w.heap[k]?)(n:w.heap.size<=w'.heap.size):pB base w' v l:=by
 obtain⟨x,c,j,d⟩:=h;refine⟨x,c,j,fun i o=>?_⟩
 obtain⟨g,e,m,a,b⟩:=d i o;exact⟨g,e,by rw[World.cell?_of_block (f g a b)];exact m,a,az_ b n⟩
def vG{F:Nat->Prop}{w:World}{v:Value}{l:List (List UInt8)}(h:EC F w v l)(B:l.length<=1000000):
 Calls prog 109 #[v] w fun e b=>∃x n c,e=.returned (.slice x n c)/\pB w.heap.size b (.slice x n c) l/\Below w.heap.size w b:=by
 rcases h with ⟨rfl,rfl⟩|⟨g,c,A,rfl,E,C,H,z⟩
 ·refine(sV w).mono ?_;rintro e b ⟨rfl,rfl⟩;exact⟨none,0,0,rfl,⟨none,0,rfl,fun i k=>by simp at k⟩,ay_ _ _⟩
 ·refine(sW g 0 l.length c (lV l) w (by simp[lV]) B (fun j u a=>?_) (fun u q=>?_)).mono ?_
  ·rw[bk_];refine aA C ?_;rw[<-z,aU_] at a;split at a
   ·rw[Array.getElem?_toList] at a;exact a
   ·cases a
  ·simp only[lV,bz_] at q;obtain⟨x,_,rfl⟩:=q;rfl
  ·rintro e b ⟨D,rfl,f,y⟩;obtain⟨x,m,rfl⟩:=cU f;refine⟨x,_,m,rfl,⟨x,m,rfl,fun i k=>?_⟩,y⟩
   rcases f.2 with ⟨d,r⟩|⟨p,o,s,d,r,t,G⟩
   ·simp only[Value.slice.injEq] at d;omega
   ·cases d;refine⟨p,rfl,?_,r,aD t⟩;have:=f.cells (g:=p) rfl i (.string (bs l[i])) (by simp[lV,k])
    rw[nQ] at this;exact this
def SX(w:World)(s:SV)(h:s.n1=0):Calls prog 156 #[s.val] w fun e a=>e=.returned (.pointer none)/\Below w.heap.size w a:=by
 obtain⟨t,g,c,i,d,j,k,l,b,f,q⟩:=s;subst h;unfold SV.val;go_enter func156,ntmps156;go_wp2_with fail;go_ret;exact⟨rfl,(ay_ _ _).alloc (au_ _) _⟩
def GR(w:World)(s:SV)(h:s.n1=0):Calls prog 108 #[s.val] w fun e d=>e=.returned (.slice none 0 0)/\Below w.heap.size w d:=by
 have a:=aB fun W=>SX W s h
 have g:=aB fun W=>AnyF.slices_SortFunc_none (P:=prog) (ρ:=sortL_ren) { sortL with } none 0 (.func (.func 160) #[] #[]) W
 obtain⟨t,r,o,i,p,x,j,l,m,n,q⟩:=s;subst h;unfold SV.val at a;unfold SV.val;go_enter func108,ntmps108;go_wp2_with fail;refine(a.out _).mono ?_;rintro e c ⟨rfl,b⟩;have f:=aB b;clear b a;go_wp2_with fail;go_loopg [3,4] 1 (fun k v s wr=>v=.slice none 0 0/\s=.pointer none/\wr=c)
 case atStart=>exact⟨rfl,rfl,rfl⟩
 case round=>
  obtain⟨rfl,rfl,rfl⟩:=hrel;go_wp2_with fail;refine(g.out _).mono ?_;rintro e u ⟨rfl,rfl⟩;go_wp2_with fail;go_ret;exact⟨rfl,((ay_ _ _).alloc (au_ _) _).trans (f.out.mono (by simp))⟩
def BO(w:World)(s:SV)(h:s.n1=0):Calls prog 107 #[s.val] w fun e b=>e=.returned (.slice none 0 0)/\Below w.heap.size w b:=by
 obtain⟨t,o,m,d,n,p,f,g,j,l,q⟩:=s;subst h;unfold SV.val;go_enter func107,ntmps107;go_wp2_with fail;go_loopg [3,9] 1 (fun k v i wr=>v=.slice none 0 0/\i=.int .i64 0/\Below w.heap.size w wr)
 case atStart=>exact⟨rfl,rfl,(ay_ _ _).alloc (au_ _) _⟩
 case round=>
  obtain⟨rfl,rfl,a⟩:=hrel;have c:=aB a;clear a;go_wp2_with fail;go_ret;exact⟨rfl,c.out⟩
def OP(w:World)(sb:Nat)(s:SV)(P:SV->World->Prop)(H:sb<w.heap.size)
 (k0:w.cell? ⟨sb,0,none⟩=some (.int .i64 s.t)) (o:w.cell? ⟨sb,1,none⟩=some (.slice s.x1 s.n1 s.c1)) (E:w.cell? ⟨sb,2,none⟩=some (.slice s.x2 s.n2 s.c2)) (r:w.cell? ⟨sb,3,none⟩=some (.slice s.x3 s.n3 s.c3)) (I:w.cell? ⟨sb,4,none⟩=some (.int .i64 s.q))
 (g:Hid (Calls prog 60 #[s.val] (w.alloc (.cells #[.int .i64 0,.slice none 0 0,.slice none 0 0,.slice none 0 0,.int .i64 0] 63)) fun e f=>∃m:SV,e=.returned m.val/\(∃c,f.heap[w.heap.size]?=some (.cells c 63 (0,0))/\c.size=5)/\P m (dR f w.heap.size m))):
 Calls prog 23 #[.pointer (some ⟨sb,0,none⟩)] w fun e f=>∃m:SV,e=.returned m.val/\P m f:=by
 unfold SV.val at g;go_enter func23,ntmps23;go_wp2_with fail;refine g.out.mono ?_;rintro e k ⟨m,rfl,⟨c,a,N⟩,l⟩;have u:=aA (i:=0) a (aC_ (by omega))
 have B:=aA (i:=1) a (aC_ (by omega))
 have q:=aA (i:=2) a (aC_ (by omega))
 have K:=aA (i:=3) a (aC_ (by omega))
 have A:=aA (i:=4) a (aC_ (by omega))
 have p:=aE (i:=0) a;have t:=aE (i:=1) a;have D:=aE (i:=2) a;have G:=aE (i:=3) a;have F:=aE (i:=4) a;have L:=aD a;have n:=mR (W:=k) (s:=m) a (by omega) rfl
 have h:=aB n;have j:=aB l;unfold dR at h j;clear n l a g k0 o E r I;go_wp2_with fail;have b:=h.out;have d:=j.out;clear h j u B q K A p t D G F;generalize ((((k.setCell ⟨w.heap.size,0,none⟩ (.int .i64 m.t)).setCell ⟨w.heap.size,1,none⟩ (.slice m.x1 m.n1 m.c1)).setCell ⟨w.heap.size,2,none⟩ (.slice m.x2 m.n2 m.c2)).setCell ⟨w.heap.size,3,none⟩ (.slice m.x3 m.n3 m.c3)).setCell ⟨w.heap.size,4,none⟩ (.int .i64 m.q)=M at b d ⊢
 obtain⟨J,x,z,C,y⟩:=b;exact bodyPost_ret (v:=.agg #[.int .i64 m.t,.slice m.x1 m.n1 m.c1,.slice m.x2 m.n2 m.c2,.slice m.x3 m.n3 m.c3,.int .i64 m.q]) (by simp[results,results23,go_sem,J,x,z,C,y]) rfl ⟨m,rfl,d⟩
def lO{w W:World}{b:Nat}(s:SV)(h:Below w.heap.size w W)(g:w.heap.size<=b):Below w.heap.size w (dR W b s):=by
 obtain⟨e,c,f,d⟩:=fO W b s;exact⟨c.trans h.os,f.trans h.tape,d.trans h.output,by rw[e];exact h.size,fun k a=>by rw[cV _ _ _ k (by omega)];exact h.block k a⟩
def L4{fp:Nat->Value}{F:Nat->Prop}{w:World}{sb mb n:Nat}{mo:Obj}{st:Nat->Option bI}{s:bI}(h:jV fp F w sb mb mo st s n)(X:s.m.frames=[])(ho:s.m.out.length<=1000000):
 Calls prog 23 #[.pointer (some ⟨sb,0,none⟩)] w fun e p=>∃m:SV,e=.returned m.val/\Below w.heap.size w p/\m.t=s.time/\m.q=s.stop/\m.n1=0/\m.n2=0/\pB w.heap.size p (.slice m.x3 m.n3 m.c3) s.m.out:=by
 obtain⟨o,D,k0,k1,k2,k3,k4,_⟩:=h.cells;have O:=h.lt;obtain⟨ac,e0,e1,e2⟩:=D.sv;obtain rfl:=SV.val_inj e0
 have E:o.n1=0:=by
  obtain⟨fv,tv,ov,y,t,K,H,N,M⟩:=D;rw[X] at H
  have Y:y=[]:=by
   cases y with
   |nil=>rfl
   |cons v l=>exact H.elim
  subst Y;simp only[SV.val,Value.agg.injEq] at t;simp at t;rcases K with ⟨_,x,c,e⟩|⟨g,c,ab,e,_⟩
  ·have:=t.2.1.trans e;simp at this;exact this.2.1
  ·have:=t.2.1.trans e;simp at this;exact this.2.1
 have V:∀W,Below w.heap.size w W->EC F W (.slice o.x3 o.n3 o.c3) s.m.out:=fun W u=>by
  obtain⟨fv,tv,ov,y,t,K,H,N,M⟩:=D;simp only[SV.val,Value.agg.injEq] at t;simp at t;rw[t.2.2.2.1];exact M.keep (fun b a=>u.block b (h.fix b a).1) fun _ h=>h
 generalize q:w.alloc (.cells #[.int .i64 0,.slice none 0 0,.slice none 0 0,.slice none 0 0,.int .i64 0] 63)=f;have r:Below w.heap.size w f:=by rw[<-q];exact(ay_ _ w).alloc (au_ _) _
 have ae:f.heap.size=w.heap.size+1:=by rw[<-q];simp
 have Z:f.heap[w.heap.size]?=some (.cells #[.int .i64 0,.slice none 0 0,.slice none 0 0,.slice none 0 0,.int .i64 0] 63 (0,0)):=by rw[<-q];exact aM _ _ rfl _
 refine OP w sb o _ O k0 k1 k2 k3 k4 ?_;rw[q];generalize j:(f.alloc (.cells o.cells 108)).alloc (.cells #[.int .i64 0,.slice none 0 0,.slice none 0 0,.slice none 0 0,.int .i64 0] 63)=d;have A:Below f.heap.size f d:=by rw[<-j];exact((ay_ _ f).alloc (au_ _) _).alloc (by simp) _
 have ad:d.heap.size=f.heap.size+2:=by rw[<-j];simp
 have z:d.heap[f.heap.size]?=some (.cells o.cells 108 (0,0)):=by rw[<-j];exact jM _ _ _
 have Q:d.heap[f.heap.size+1]?=some (.cells #[.int .i64 0,.slice none 0 0,.slice none 0 0,.slice none 0 0,.int .i64 0] 63 (0,0)):=by rw[<-j];exact gO _ _ _
 refine yA f o (fun m p=>(∃c,p.heap[w.heap.size]?=some (.cells c 63 (0,0))/\c.size=5)/\Below w.heap.size w (dR p w.heap.size m)/\m.t=s.time/\m.q=s.stop/\m.n1=0/\m.n2=0/\pB w.heap.size (dR p w.heap.size m) (.slice m.x3 m.n3 m.c3) s.m.out)
  (fun m W=>Below d.heap.size d W/\m.t=s.time/\m.q=s.stop/\m.n1=0/\m.n2=0/\pB d.heap.size W (.slice m.x3 m.n3 m.c3) s.m.out)
  (fun x n c W=>n=0/\Below d.heap.size d W) (fun x n c x2 n2 c2 W=>n=0/\n2=0/\Below d.heap.size d W) (fun W u=>?_) (fun x n c W G=>?_) (fun x n c x2 n2 c2 W G=>?_) (fun m W G=>?_)
 ·rw[j] at u;refine(BO W o E).mono ?_;rintro e p ⟨rfl,a⟩;have I:Below d.heap.size d W:=⟨u.os,u.tape,u.output,by rw[u.heap];exact au_ _,fun k _=>by rw[u.heap]⟩
  exact⟨none,0,0,rfl,rfl,I.trans (a.mono I.size)⟩
 ·obtain⟨rfl,a⟩:=G;refine⟨by rw[a.block _ (by omega)];exact z,(GR W o E).mono ?_⟩
  rintro e p ⟨rfl,B⟩;exact⟨none,0,0,rfl,rfl,rfl,a.trans (B.mono a.size)⟩
 ·obtain⟨rfl,rfl,a⟩:=G;have C:Below w.heap.size w W:=r.trans ((A.mono r.size).trans (a.mono (by omega)))
  refine⟨by rw[a.block _ (by omega)];exact z,(vG (V W C) ho).mono ?_⟩
  rintro e p ⟨x3,n3,c3,rfl,hO,B⟩;refine⟨x3,n3,c3,rfl,a.trans (B.mono a.size),e1,e2,rfl,rfl,?_⟩;obtain⟨x,c,L,J⟩:=hO;refine⟨x,c,L,fun i T=>?_⟩
  obtain⟨g,P,U,a3,S⟩:=J i T;exact⟨g,P,U,aF_ a.size a3,S⟩
 ·obtain⟨a,K,H,N,M,q5⟩:=G;have aa:=a.size;refine⟨by rw[a.block _ (by omega)];exact z,⟨_,by rw[a.block _ (by omega)];exact Q,by simp⟩,⟨_,by rw[cV _ _ _ _ (by omega),a.block _ (by omega),A.block _ (by omega)];exact Z,by simp⟩,?_,K,H,N,M,?_⟩
  ·have C:Below w.heap.size w W:=r.trans ((A.mono r.size).trans (a.mono (by omega)))
   exact lO m (lO m C (by omega)) (au_ _)
  ·have hq:=q5.keep (w':=dR (dR W (f.heap.size+1) m) w.heap.size m) (fun k L J=>by rw[cV _ _ _ _ (by omega),cV _ _ _ _ (by omega)]) (by rw[(fO _ _ _).1,(fO _ _ _).1];exact au_ _)
   obtain⟨x,c,L,J⟩:=hq;refine⟨x,c,L,fun i T=>?_⟩
   obtain⟨g,P,U,a3,S⟩:=J i T;exact⟨g,P,U,by omega,S⟩
def AD{l:List UInt8}{ks:List aC}(b:cW l=.ok ks)(e:cG l=(0,0)):Good ks:=by
 obtain⟨g,d⟩:=KI b e;have a:=FG b;have h:=(kT b).len;exact⟨by omega,g,a,fun f c=>by have:=((kT b).mem c).kids.len;omega,d,SD a⟩
def JY{ks:List aC}{a:List Int}:∀(d t:Nat) (z:bI),cE ks a (t+1+d)=some z->∃x,cE ks a t=some x/\x.stop=0
 |0,t,z,h=>by
  unfold cE at h ⊢
  rw[Nat.add_zero,dQ] at h;cases b:dQ (cP ks 2001) (eT ks 2001 a) t with
  |none=>rw[b] at h;cases h
  |some x=>
   rw[b] at h;simp only at h;split at h
   ·rename_i e;exact⟨x,rfl,e⟩
   ·cases h
 |d+1,t,z,h=>by
  obtain⟨x,c,_⟩:=JY 0 (t+1+d) z (by rw[show t+1+d+1+0=t+1+(d+1) by omega];exact h)
  exact JY d t x c
def WI{ks:List aC}{a:List Int}{t u:Nat}{z:bI}(h:cE ks a u=some z)(b:t<u):∃x,cE ks a t=some x/\x.stop=0:=JY (u-t-1) t z (by rw[show t+1+(u-t-1)=u by omega];exact h)
def IR{ks:List aC}{a:List Int}{s τ:bI}{b:Bool}(k:cE ks a s.time=some s)(h:F5 (cE ks a) (fun _=>true) s τ b):(b=true/\τ.time=s.time+1/\s.stop=0)\/(b=false/\τ=s/\s.stop≠0):=by
 rcases h with ⟨f,e,d⟩|⟨f,e,d,i,_⟩
 ·exact as_ ⟨f,e,d⟩
 ·refine av_ ⟨f,?_,?_⟩
  ·rcases a6_ (s.time+1) τ.time with g|g
   ·obtain⟨x,c,_⟩:=WI d g;have:=i _ x (by omega) g c
    cases this
   ·omega
  ·obtain⟨x,c,j⟩:=WI d e;rw[k] at c;cases c;exact j
def Below.fs{w W b:World}{sb:Nat}(h:Below w.heap.size w W)(a:Fs sb W b)(f:w.heap.size<=sb)(d:∀k,lX sb W=some k->sb<k):Below w.heap.size w b:=
 ⟨a.os.trans h.os,a.tape.trans h.tape,a.output.trans h.output,aF_ h.size a.size,fun k c=>by
   have:=h.size;rw[a.blk k (by omega) (by omega) fun e=>by have:=d k e;omega];exact h.block k c⟩
def OB(w:World)(j:List UInt8)(T:Nat)(h:List (List UInt8))(hE:xG j T h)(hT:iT w)(hp:kC w)(aa:11<=w.heap.size):
 Calls prog 35 #[.string (bs j)] w fun e o=>∃x n c,e=.returned (.tuple #[.slice x n c,.int .i64 T,.bool true])/\pB w.heap.size o (.slice x n c) h/\Below w.heap.size w o:=by
 obtain⟨N,V,l,D,I⟩:=hE;have U:=AD l D;have d:cE N [] T=some ⟨T,⟨[],V,h⟩,1⟩:=I;have E:=U.sta d;have K:T<=500:=E.1.time
 have Q:j.length<=2000:=by
  unfold cW at l;split at l
  ·cases l
  ·omega
 refine(KL w (bs j) T K (fun m W=>pB w.heap.size W (.slice m.x3 m.n3 m.c3) h/\Below w.heap.size w W)
  (fun t A W=>∃u G y B n s,Live u G W A y B N [] s n []/\s.time=t/\t<=T/\w.heap.size<=A/\Below w.heap.size w W)
  (fun A W=>∃u G y B n,Live u G W A y B N [] ⟨T,⟨[],V,h⟩,1⟩ n []/\Below w.heap.size w W) ?_ (fun t A W hL=>?_) (fun A W hM=>?_)).mono ?_
 ·refine(DA (bs j) (.slice none 0 0) [] w hT hp (by rw[gA];omega) (av_ ⟨rfl,rfl⟩) (by simp) (fun M r f=>?_)).mono ?_
  ·rw[fS] at r f;exact AD r f
  ·rintro e o ⟨v,rfl,C,Z⟩;rw[fS] at Z;rcases Z with ⟨_,M,u,G,A,y,F,rfl,L,P,q4,s,q5,q6⟩|⟨p,_⟩
   ·rw[l] at F;cases F;exact⟨A,rfl,u,G,y,_,1,s,⟨q5,q4,hp.below C,⟨by omega,by omega⟩,by omega,fun b C=>by cases C⟩,q6,by omega,L,C⟩
   ·rw[D] at p;exact absurd rfl p
 ·obtain⟨u,G,y,B,n,s,r,f,h3,X,h5⟩:=hL;refine(NE U (by simp) r).mono ?_
  rintro e o ⟨b,rfl,O,S,τ,F,L,P⟩;have z:Below w.heap.size w o:=Below.fs h5 P X fun k J=>(r.row J).1
  have a:=r.ses.now;rcases IR a L with ⟨rfl,Y,H⟩|⟨rfl,rfl,H⟩
  ·refine av_ ⟨?_,rfl,u,O,y,B,S,τ,F,by omega,?_,X,z⟩
   all_goals
    refine Nat.lt_of_le_of_ne h3 fun e=>?_
    rw[f,e,d] at a;cases a;exact absurd H (by simp)
  ·have ht:t=T:=by
    rcases a6_ t T with h6|h6
    ·obtain⟨x,h7,h8⟩:=WI d h6;rw[<-f,a] at h7;cases h7;exact absurd h8 H
    ·omega
   subst ht;rw[f,d] at a;cases a;exact as_ ⟨rfl,rfl,u,O,y,B,S,F,z⟩
 ·obtain⟨u,G,y,B,n,r,f⟩:=hM;refine(L4 r.ses rfl (by have:=E.2.2.1.out;simp only at this ⊢;omega)).mono ?_
  rintro e o ⟨m,rfl,C,e1,Y,H,e4,ho⟩;refine⟨m,rfl,e1,Y,H,fun q=>⟨?_,?_⟩⟩
  ·have p:pB w.heap.size o (.slice m.x3 m.n3 m.c3) h:=by
    obtain⟨x,c,a1,a2⟩:=ho;refine⟨x,c,a1,fun i hi=>?_⟩
    obtain⟨g,b1,b2,b3,b4⟩:=a2 i hi;exact⟨g,b1,b2,aF_ f.size b3,b4⟩
   refine p.keep (fun k _ J=>?_) ?_
   ·exact aA_ o (.cells m.cells 63) k J
   ·show o.heap.size<=(o.alloc (.cells m.cells 63)).heap.size
    simp
  ·have p:=(f.trans (C.mono f.size)).alloc (f.trans (C.mono f.size)).size (.cells m.cells 63);exact⟨p.os,p.tape,p.output,p.size,p.block⟩
 ·rintro e o ⟨m,rfl,r,f⟩;exact⟨_,_,_,rfl,r,f⟩
open Go.RowKit Go.Sort
def XN(x y a b:ByteArray)(w:World):
 Calls prog 160 #[.agg #[.string x,.string a],.agg #[.string y,.string b]] w fun e d=>e=.returned (.int .i64 (Lib.compareBytes x.data.toList y.data.toList))/\∃q c,d=grow (w.drewN q) c:=by
 go_enter func160,ntmps160;go_wp2_with fail;refine(strings_Compare x y _).mono ?_;rintro e f ⟨rfl,rfl⟩;go_wp2_with fail;go_ret;refine⟨rfl,0,#[Obj.cells #[.string x,.string a] 120,Obj.cells #[.string y,.string b] 120],?_⟩;rw[alloc_eq_grow,alloc_eq_grow,grow_grow];rfl
def XE:∀a:List UInt8,Lib.compareBytes a a=0
 |[]=>rfl
 |a::l=>by rw[Lib.compareBytes,if_neg (UInt8.lt_irrefl a),if_neg (UInt8.lt_irrefl a)];exact XE l
def sA:∀a b:List UInt8,Lib.compareBytes b a= -Lib.compareBytes a b
 |[],[]=>rfl
 |[],_::_=>rfl
 |_::_,[]=>rfl
 |a::l,b::m=>by
  rw[Lib.compareBytes,Lib.compareBytes];by_cases c:a<b
  ·rw[if_pos c,if_neg (UInt8.lt_asymm c),if_pos c];rfl
  ·by_cases d:b<a
   ·rw[if_pos d,if_neg c,if_pos d]
   ·rw[if_neg c,if_neg d,if_neg c,if_neg d];exact sA l m
def RG:∀a b:List UInt8,Lib.compareBytes a b=0->a=b
 |[],[],_=>rfl
 |[],_::_,h=>by simp[Lib.compareBytes] at h
 |_::_,[],h=>by simp[Lib.compareBytes] at h
 |a::l,b::m,h=>by
  rw[Lib.compareBytes] at h;by_cases c:a<b
  ·rw[if_pos c] at h;cases h
  ·by_cases d:b<a
   ·rw[if_neg c,if_pos d] at h;cases h
   ·rw[if_neg c,if_neg d] at h;obtain rfl:a=b:=b3_ (bQ_.1 d) (bQ_.1 c);rw[RG l m h]
def vI:∀a b c:List UInt8,Lib.compareBytes a b<0->Lib.compareBytes b c<0->Lib.compareBytes a c<0
 |[],[],_,h,_=>by simp[Lib.compareBytes] at h
 |_::_,[],_,h,_=>by simp[Lib.compareBytes] at h
 |_,_::_,[],_,h=>by simp[Lib.compareBytes] at h
 |[],_::_,_::_,_,_=>by simp[Lib.compareBytes]
 |a::l,b::m,c::n,h,k=>by
  rw[Lib.compareBytes] at h k ⊢
  by_cases f:a<b
  ·by_cases d:b<c
   ·rw[if_pos (UInt8.lt_trans f d)];decide
   ·rw[if_neg d] at k;by_cases e:c<b
    ·rw[if_pos e] at k;omega
    ·obtain rfl:b=c:=b3_ (bQ_.1 e) (bQ_.1 d);rw[if_pos f];decide
  ·rw[if_neg f] at h;by_cases d:b<a
   ·rw[if_pos d] at h;omega
   ·obtain rfl:a=b:=b3_ (bQ_.1 d) (bQ_.1 f);rw[if_neg d] at h;by_cases e:a<c
    ·rw[if_pos e];decide
    ·rw[if_neg e] at k ⊢
     by_cases g:c<a
     ·rw[if_pos g] at k;omega
     ·rw[if_neg g] at k ⊢
      exact vI l m n h k
def X0:SWO (fun x y:List UInt8=>decide (Lib.compareBytes x y<0)):=by
 refine⟨fun x=>by simp[XE],fun x y z h k=>?_,fun x y z h k=>?_⟩
 ·simp only[decide_eq_true_eq] at h k ⊢
  exact vI x y z h k
 ·simp only[decide_eq_false_iff_not] at h k ⊢
  intro a;by_cases e:Lib.compareBytes x y=0
  ·rw[RG x y e] at a;exact k a
  ·have b:Lib.compareBytes y x<0:=by rw[sA x y];omega
   exact k (vI y x z b a)
def TW(x y:List UInt8)(h:decide (Lib.compareBytes x y<0)=false)(k:decide (Lib.compareBytes y x<0)=false):x=y:=by
 simp only[decide_eq_false_iff_not] at h k;rw[sA x y] at k;exact RG x y (by omega)
def kY(l:List (Value × Value)):List Value:=l.flatMap fun p=>[p.1,p.2]
def yI(l:List (Value × Value))(p:Value × Value):kY (l++[p])=kY l++[p.1,p.2]:=by simp[kY]
def kV(l:List (List UInt8 × Nat)):List (Value × Value):=l.map fun p=>(Value.string (bs p.1),Value.int .i64 p.2)
def Y2:(prog.info? 118).map (fun i=>(i.zero,i.size,i.bytes))=some (some (.agg #[.string ⟨#[]⟩,.int .i64 0]),2,24):=by kernel_rfl
def L9(w:World)(a b:Value):∀j u,([a,b]:List Value)[j]?=some u->(w.alloc (.cells #[a,b] 118)).cell? ((⟨w.heap.size,0,none⟩:Addr).add j)=some u:=by
 intro j u c;exact World.news_of_block (cs:= #[a,b]) (aM _ _ rfl _) j u c
def U8(x:ByteArray)(n:Int):∀u∈([.string x,.int .i64 n]:List Value),u.oneCell'=true:=by
 intro u a;simp at a;rcases a with rfl|rfl<;>rfl
def SO(w:World)(s:SV)(gf:Nat)(l:List (List UInt8 × Nat))(hx:s.x1=some ⟨gf,0,none⟩)(hn:s.n1=l.length)(hl:l.length<=16)
 (P:Hid (∀W,Below w.heap.size w W->∀j (h:j<l.length),gf<W.heap.size/\∃n B C E I H G D K,W.cell? ⟨gf,j*6,none⟩=some (.pointer (some ⟨n,0,none⟩))/\W.cell? ⟨gf,j*6+1,none⟩=some (.int .i64 B)/\W.cell? ⟨gf,j*6+2,none⟩=some (.int .i64 (l[j].2:Nat))/\W.cell? ⟨gf,j*6+3,none⟩=some (.pointer C)/\W.cell? ⟨gf,j*6+4,none⟩=some (.slice E I H)/\W.cell? ⟨gf,j*6+5,none⟩=some (.slice G D K)/\W.cell? ⟨n,0,none⟩=some (.string (bs l[j].1))/\n<w.heap.size)):
 Calls prog 107 #[s.val] w fun e Z=>∃x c,e=.returned (.slice x l.length c)/\Z.ownsRow w.heap.size 118 2 (.slice x l.length c) l.length (kY (kV l))/\Below w.heap.size w Z:=by
 obtain⟨i0,hi,O,T,Q⟩:=info_parts Y2;obtain⟨t,x1,x2,x3,n1,n2,n3,c1,c2,c3,q⟩:=s;subst hx hn;unfold SV.val;go_enter func107,ntmps107;go_wp2_with fail;go_loopg [3,9] l.length (fun gk v i wr=>∃j:Nat,j+gk=l.length/\i=.int .i64 j/\(∃y d,v=.slice y j d)/\wr.ownsRow w.heap.size 118 2 v j (kY (kV (l.take j)))/\Below w.heap.size w wr)
 case atStart=>exact⟨0,by omega,rfl,⟨none,0,rfl⟩,World.ownsRow_nil _ _ _ _,(ay_ _ _).alloc (au_ _) _⟩
 case round=>
  obtain⟨j,hj,rfl,⟨y,d,rfl⟩,b,a⟩:=hrel;by_cases z:j<l.length
  ·obtain⟨m,rfl⟩:∃m,gk=m+1:=⟨gk-1,by omega⟩
   obtain⟨k0,n,B,C,E,I,H,G,D,K,k1,k2,k3,k4,k5,k6,U,k8⟩:=P.out wr a j z;have N:=a.size;have F:=aB b;have J:=aB a;clear b a;have e1:(0:Int)<=(j:Int):=by omega
   have e2:(j:Int)<(l.length:Int):=by omega
   go_wp2_with fail;generalize f:wr.alloc (.cells #[.pointer (some ⟨n,0,none⟩),.int .i64 B,.int .i64 (l[j].2:Nat),.pointer C,.slice E I H,.slice G D K] 195)=o;have p:o.heap[wr.heap.size]?=some (.cells #[.pointer (some ⟨n,0,none⟩),.int .i64 B,.int .i64 (l[j].2:Nat),.pointer C,.slice E I H,.slice G D K] 195 (0,0)):=by rw[<-f];exact aM _ _ rfl _
   have Y:wr.heap.size<o.heap.size:=by rw[<-f];simp
   have a0:=aA (i:=0) p rfl;have a2:=aA (i:=2) p rfl;have a7:o.cell? ⟨n,0,none⟩=some (.string (bs l[j].1)):=by rw[<-f];exact(World.cell?_of_block (aA_ wr _ n (by omega))).trans U
   have u:Hid (o.drew.ownsRow w.heap.size 118 2 (.slice y j d) j (kY (kV (l.take j)))):=aB (by rw[<-f];exact F.out.alloc _)
   have S:Hid (Below w.heap.size w o):=aB (by rw[<-f];exact J.out.alloc N _)
   have A:kV (l.take (j+1))=kV (l.take j)++[(.string (bs l[j].1),.int .i64 (l[j].2:Nat))]:=by
    rw[aT_ z];simp only[kV,a7_,aM_,a8_]
   have L:=aB A;clear p k1 k2 k3 k4 k5 k6 U k0 f F J A P;generalize l[j].1=nm at*;generalize l[j].2=ln at*;go_region_law (refine step_append_lies _ (by rfl) _ _ 58 (by rfl) w.heap.size 118 i0 _ 2 24 underlying58 hi O T Q rfl (by decide) (.slice y j d) j _ (by rfl) (u.out.alloc _) ⟨o.heap.size,0,none⟩ 1 1 [.string (bs nm),.int .i64 (ln:Nat)] (by rfl) (by rfl) (L9 o.drew _ _) (U8 _ _) (by decide) (by unfold maxLen;omega) (by omega) (by simp;omega) (o.heap.size+1) (by simp) ?_;intro g5 V w5 r g X aa)
   all_goals
    go_wp2_with fail;go_roundg m
    case measure=>omega
    case rel=>
     refine⟨j+1,by omega,by go_num,⟨_,_,rfl⟩,by rw[L.out,yI];exact r,?_⟩
     exact(S.out.drew.alloc (by simp;omega) _).grown g (by simp;omega) fun k hk=>(u.out.lt k hk).1
  ·have M:j=l.length:=by omega
   subst M;rw[a0_ (au_ _)] at b;have F:=aB b;have J:=aB a;clear b a P;go_wp2_with fail;go_ret;exact⟨_,_,rfl,F.out,J.out⟩
def YI(w:World)(s:SV)(gf n:Nat)(b:Option Addr)(f:s.x1=some ⟨gf,0,none⟩)(g:s.n1=n+1)(c:n<=1000)(u:w.cell? ⟨gf,n*6+3,none⟩=some (.pointer b))(a:gf<w.heap.size):
 Calls prog 156 #[s.val] w fun e h=>e=.returned (.pointer b)/\Below w.heap.size w h:=by
 obtain⟨t,B,p,i,A,r,j,d,m,o,q⟩:=s;simp only at f g;subst f g;unfold SV.val;have z:(((n+1:Nat):Int)==0)=false:=by simp;omega
 have x:=aB fun (W:World) k=>uF w.heap.size gf n d W k c
 go_enter func156,ntmps156;go_wp2_with fail;refine(x.out _ ?_).mono ?_
 ·simp[go_sem]
 rintro e y ⟨rfl,l,rfl⟩
 have v:((w.alloc (.cells #[.int .i64 t,.slice (some ⟨gf,0,none⟩) (n+1) d,.slice p r m,.slice i j o,.int .i64 q] 108)).drewN l).cell? ⟨gf,n*6+3,none⟩=some (.pointer b):=by
  show (w.alloc _).cell? _=_
  rw[World.cell?_of_block (aA_ _ _ _ a)];exact u
 go_wp2_with fail;go_ret;refine⟨rfl,((ay_ w.heap.size w).alloc (au_ _) _).trans ⟨rfl,rfl,rfl,au_ _,fun _ _=>rfl⟩⟩
def lD(val:List UInt8->List UInt8)(l:List (List UInt8)):List (Value × Value):=l.map fun x=>(Value.string (bs x),Value.string (bs (val x)))
def X9:(prog.info? 120).map (fun i=>(i.zero,i.size,i.bytes))=some (some (.agg #[.string ⟨#[]⟩,.string ⟨#[]⟩]),2,32):=by kernel_rfl
def L6(w:World)(a b:Value):∀j u,([a,b]:List Value)[j]?=some u->(w.alloc (.cells #[a,b] 120)).cell? ((⟨w.heap.size,0,none⟩:Addr).add j)=some u:=by
 intro j u c;exact World.news_of_block (cs:= #[a,b]) (aM _ _ rfl _) j u c
def U6(x y:ByteArray):∀u∈([.string x,.string y]:List Value),u.oneCell'=true:=by
 intro u a;simp at a;rcases a with rfl|rfl<;>rfl
def XM(w B:World)(F:Nat->Prop)(s:SV)(gf n:Nat)(p0:Option Addr)(seen:List (List UInt8))(j:List UInt8->List UInt8)(S:Option Addr->Nat->World->Prop)
 (hx:s.x1=some ⟨gf,0,none⟩) (hn:s.n1=n+1) (au:n<=1000) (u:w.alloc (.cells s.cells 108)=B) (hF:∀b,F b->b<w.heap.size) (hs:eE F w (.pointer p0) seen) (hl:seen.length<=90001)
 (HS:Hid (Calls prog 156 #[s.val] B fun e G=>e=.returned (.pointer p0)/\Below B.heap.size B G))
 (HV:Hid (∀W a x l,Below B.heap.size B W->seen=a++x::l->∃g4 n4 c4 t z,W.cell? ⟨gf,n*6+4,none⟩=some (.slice (some ⟨g4,0,none⟩) n4 c4)/\gf<W.heap.size/\l.length<n4/\W.cell? ⟨g4,l.length,none⟩=some (.iface t z)/\g4<W.heap.size/\Calls prog 157 #[.iface t z] W fun e G=>e=.returned (.string (bs (j x)))/\Below W.heap.size W G))
 (HO:Hid (∀W y d,W.ownsRow B.heap.size 120 2 (.slice y seen.length d) seen.length (kY (lD j seen))->Below B.heap.size B W->Calls prog 159 #[.slice y seen.length d,.func (.func 160) #[] #[]] W fun e G=>e=.returned (.tuple #[])/\S y d G)):
 Calls prog 108 #[s.val] w fun e G=>∃y d,e=.returned (.slice y seen.length d)/\S y d G:=by
 obtain⟨i0,hi,ae,ap,aj⟩:=info_parts X9;obtain⟨t,x1,x2,x3,n1,n2,n3,c1,c2,c3,q⟩:=s;simp only at hx hn;subst hx hn;unfold SV.cells at u;unfold SV.val at HS;unfold SV.val;have A:B.heap[w.heap.size]?=some (.cells #[.int .i64 t,.slice (some ⟨gf,0,none⟩) (n+1) c1,.slice x2 n2 c2,.slice x3 n3 c3,.int .i64 q] 108 (0,0)):=by rw[<-u];exact aM _ _ rfl _
 have ay:B.heap.size=w.heap.size+1:=by rw[<-u];simp
 have T:Below w.heap.size w B:=by rw[<-u];exact(ay_ _ w).alloc (au_ _) _
 have HW:=aB u;have af:=aB hs;have HF:=aB hF;have ai:=aB T;have am:=aB A;have c0:=aA (i:=0) A rfl;have ao:=aA (i:=1) A rfl;have ag:=aA (i:=2) A rfl;have aw:=aA (i:=3) A rfl;have O:=aA (i:=4) A rfl;clear u hs hF T A;go_enter func108,ntmps108;go_wp2_with fail;rw[HW.out];go_wp2_with fail;refine HS.out.mono ?_;rintro e w1 ⟨rfl,Z⟩;have al:=aB Z;clear Z HS c0 ao ag aw O;go_wp2_with fail;go_loopg [3,4] seen.length (fun gk v p wr=>∃a r,seen=a++r/\r.length=gk/\eE F w p r/\(∃y d,v=.slice y a.length d)/\wr.ownsRow B.heap.size 120 2 v a.length (kY (lD j a))/\Below B.heap.size B wr)
 case atStart=>exact⟨[],seen,rfl,rfl,af.out,⟨none,0,rfl⟩,World.ownsRow_nil _ _ _ _,al.out⟩
 case round=>
  obtain⟨a,r,N,U,K,⟨y,d,rfl⟩,D,f⟩:=hrel;cases r with
  |nil=>
   rw[bY_] at N;subst N;have ar:_=Value.pointer none:=K;subst ar;have HX:=aB (HO.out wr y d D f);clear D f HO HV K;go_wp2_with fail;refine HX.out.mono ?_;rintro e w2 ⟨rfl,h2⟩;have H2:=aB h2;clear h2;go_wp2_with fail;go_ret;exact⟨_,_,rfl,H2.out⟩
  |cons x l=>
   obtain⟨b,o,rfl,ad,Y,M⟩:=K;obtain⟨po,rfl⟩:=M.form;obtain⟨m,rfl⟩:∃m,gk=m+1:=⟨gk-1,by simp at U;omega⟩
   obtain⟨g4,n4,c4,ty,z,v1,v2,v3,v4,v5,ah⟩:=HV.out wr a x l f N;have X:=HF.out b ad;have C:wr.heap[b]?=some (.cells #[.string (bs x),.int .i64 l.length,.pointer po] 253 (0,0)):=by rw[f.block b (by omega),ai.out.block b X];exact Y
   have k0:=aA (i:=0) C rfl;have k1:=aA (i:=1) C rfl;have k2:=aA (i:=2) C rfl;have an:=aD C;have P:wr.heap[w.heap.size]?=_:=(f.block _ (by omega)).trans am.out
   have kb:=aA (i:=1) P rfl;have ab:=f.size;have ba:a.length<=90001:=by have:=congrArg List.length N;simp at this;omega
   have ak:=aB D;have HB:=aB f;clear D f Y C P;have e1:(0:Int)<=(l.length:Int):=by omega
   have e2:(l.length:Int)<(n4:Int):=by omega
   have HT:Hid (∀W,aQ wr W->Calls prog 158 #[.pointer (some ⟨w.heap.size,0,none⟩)] W fun e G=>e=.returned (.pointer (some ⟨gf,n*6,none⟩))/\aQ wr G):=aB fun W u=>(uF w.heap.size gf n c1 W (bB u.heap kb) au).mono fun e G ⟨he,q,hq⟩=>⟨he,by rw[hq];exact u.trans (aQ.drewN _ _)⟩
   have HR:Hid (∀W,aQ wr W->Calls prog 157 #[.iface ty z] W fun e G=>e=.returned (.string (bs (j x)))/\Below wr.heap.size wr G):=aB fun W u=>by
    have aq:Below B.heap.size B W:=HB.out.trans ⟨u.os,u.tape,u.output,by rw[u.heap];exact au_ _,fun k _=>by rw[u.heap]⟩
    obtain⟨bb,bc,O,bd,z',r1,r2,r3,r4,r5,r6⟩:=HV.out W a x l aq N;rw[bB u.heap v1] at r1;cases r1;rw[bB u.heap v4] at r4;cases r4;refine r6.mono fun e G ⟨he,hb⟩=>⟨he,?_⟩
    exact Below.trans (b:=W) ⟨u.os,u.tape,u.output,by rw[u.heap];exact au_ _,fun k _=>by rw[u.heap]⟩ (by rw[<-u.heap];exact hb)
   have K0:=aB k0;have K1:=aB k1;have K2:=aB k2;have V1:=aB v1;have V4:=aB v4;clear ah HV HO kb v2 v5
   have aa:Hid (∀(W:World) (g c:Nat),W.ownsRow B.heap.size 120 2 (.slice (some ⟨g,0,none⟩) (a.length+1) c) (a.length+1) (kY (lD j a)++[.string (bs x),.string (bs (j x))])->W.ownsRow B.heap.size 120 2 (.slice (some ⟨g,0,none⟩) (a.length+1) c) (a++[x]).length (kY (lD j (a++[x])))):=aB fun W g c h=>by
    have e:lD j (a++[x])=lD j a++[(.string (bs x),.string (bs (j x)))]:=by simp[lD]
    rw[e,yI,aw_];exact h
   generalize j x=tx at*;go_wp2_with fail;go_region_law (first|(refine step_append_lies _ (by rfl) _ _ 59 (by rfl) B.heap.size 120 i0 _ 2 32 underlying59 hi ae ap aj rfl (by decide) (.slice y a.length d) a.length _ (by rfl) (Q.out.alloc _) ⟨w2.heap.size,0,none⟩ 1 1 [.string (bs x),.string (bs tx)] (by rfl) (by rfl) (L6 w2 _ _) (U6 _ _) (by decide) (by unfold maxLen;omega) (by omega) (by simp;omega) (w2.heap.size+1) (by simp) ?_;intro g5 V w5 J E az be)|(go_simp;first|(go_at_call 158;refine(HT.out _ (aQ.drew _)).mono ?_;rintro e w1 ⟨rfl,I⟩;have d0:=bB I.heap K0.out;have d1:=bB I.heap K1.out;have d2:=bB I.heap V1.out;have d3:=bB I.heap V4.out)|(go_at_call 157;refine(HR.out _ I).mono ?_;rintro e w2 ⟨rfl,H⟩;have d4:=(World.cell?_of_block (H.block b an)).trans K0.out;have ax:=H.size;have Q:=aB (gS ak.out H))))
   all_goals
    have L:Below B.heap.size B w5:=((HB.out.trans (H.mono ab)).alloc (by omega) _).grown E (by simp;omega) fun k hk=>(Q.out.lt k hk).1
    have k5:w5.cell? ⟨b,2,none⟩=some (.pointer po):=(World.cell?_of_block ((L.block b (by omega)).trans (HB.out.block b (by omega)).symm)).trans K2.out
    have H5:=aB L;have ac:=aB J;have av:=aB M;clear L J E M H;go_wp2_with fail;go_roundg m
    case measure=>omega
    case rel=>exact⟨a++[x],l,by rw[N];simp,by simp at U;omega,av.out,⟨some ⟨g5,0,none⟩,V,by simp⟩,aa.out _ _ _ ac.out,H5.out⟩
def fU(base:Nat)(w:World)(v:Value)(l:List (Value × Value)):Prop:=∃x c,v=.slice x l.length c/\∀i (h:i<l.length),∃g,x=some ⟨g,0,none⟩/\w.cell? ⟨g,i*2,none⟩=some l[i].1/\w.cell? ⟨g,i*2+1,none⟩=some l[i].2/\base<=g/\g<w.heap.size
def fU.keep{base:Nat}{w w':World}{v:Value}{l:List (Value × Value)}(h:fU base w v l)(d:∀k,base<=k->k<w.heap.size->w'.heap[k]?=w.heap[k]?)(o:w.heap.size<=w'.heap.size):fU base w' v l:=by
 obtain⟨x,c,m,f⟩:=h;refine⟨x,c,m,fun i p=>?_⟩
 obtain⟨g,e,n,j,a,b⟩:=f i p;exact⟨g,e,by rw[World.cell?_of_block (d g a b)];exact n,by rw[World.cell?_of_block (d g a b)];exact j,a,az_ b o⟩
def oY:∀(l:List (Value × Value)) (i:Nat) (h:i<l.length),(kY l)[i*2]?=some l[i].1/\(kY l)[i*2+1]?=some l[i].2
 |[],_,h=>by simp at h
 |p::l,0,_=>⟨rfl,rfl⟩
 |p::l,i+1,h=>by
  have:=oY l i (by simpa using h)
  rw[show (i+1)*2=i*2+1+1 by omega]
  exact this
def ZA{w:World}{base:Nat}{T:TypeId}{x:Option Addr}{c:Nat}{l:List (Value × Value)}(h:w.ownsRow base T 2 (.slice x l.length c) l.length (kY l)):fU base w (.slice x l.length c) l:=by
 refine⟨x,c,rfl,fun i f=>?_⟩
 rcases h.2 with ⟨e,a⟩|⟨g,m,j,e,a,k,n⟩
 ·omega
 ·cases e;have b:=h.cells (g:=g) rfl (i*2) _ (oY l i f).1;have d:=h.cells (g:=g) rfl (i*2+1) _ (oY l i f).2;rw[nQ] at b d;exact⟨g,rfl,b,d,a,aD k⟩
def gB(l:List (List UInt8)):List (List UInt8):=l.mergeSort fun x y=> !decide (Lib.compareBytes y x<0)
def lJ(l:List (List UInt8)):(gB l).length=l.length:=by simp[gB]
def qY(val:List UInt8->List UInt8)(x:List UInt8):List Value:=[.string (bs x),.string (bs (val x))]
def KC(W:World)(base:Nat)(y:Option Addr)(d:Nat)(seen:List (List UInt8))(a:List UInt8->List UInt8)(h:W.ownsRow base 120 2 (.slice y seen.length d) seen.length (kY (lD a seen)))(Q:seen.length<=90001):
 Calls prog 159 #[.slice y seen.length d,.func (.func 160) #[] #[]] W fun e t=>e=.returned (.tuple #[])/\fU base t (.slice y seen.length d) (lD a (gB seen))/\Below base W t:=by
 have D:(lD a seen).length=seen.length:=by simp[lD]
 have f:(lD a (gB seen)).length=seen.length:=by simp[lD,lJ]
 rcases h.2 with ⟨E,B⟩|⟨g,K,L,E,B,s,N⟩
 ·have e:seen=[]:=aN_ B;subst e;refine(AnyF.slices_SortFunc_none (P:=prog) (ρ:=sortL_ren) { sortL with } y d (.func (.func 160) #[] #[]) W).mono ?_
  rintro e t ⟨rfl,rfl⟩;exact⟨rfl,⟨y,d,by rw[f],fun i b=>by rw[f] at b;simp at b⟩,ay_ _ _⟩
 ·cases E
  have G:HoldsK (qY a) 2 W g 0 seen.toArray:=fun j I=>by
   rw[size_flatK,List.size_toArray] at I;refine⟨?_,aE s⟩;rw[get_flatK _ _ _ _ (by simpa using I)]
   have b:j/2<(lD a seen).length:=by rw[D];omega
   obtain⟨r,u⟩:=oY (lD a seen) (j/2) b;have C:seen.toArray[j/2]! =seen[j/2]'(by omega):=by simp[getElem!_pos,show j/2<seen.length by omega]
   rw[C];rcases Nat.mod_two_eq_zero_or_one j with o|o
   ·have:=h.cells (g:=g) rfl j _ (by rw[show j=j/2*2 by omega];exact r)
    rw[nQ] at this;rw[o,bk_,this];simp[lD,qY]
   ·have:=h.cells (g:=g) rfl j _ (by rw[show j=j/2*2+1 by omega];exact u)
    rw[nQ] at this;rw[o,bk_,this];simp[lD,qY]
  have A:seen.length=seen.toArray.size:=by simp
  have F:=AnyQ.slices_SortFunc_total (P:=prog) (ρ:=sortL_ren) { sortL with } 2 isAgg120 sizeOf120 (qY a) (fun _=>rfl) (fun x v J=>by simp[qY] at J;rcases J with rfl|rfl<;>rfl) (fun x y=>Lib.compareBytes x y) X0 160 #[] g 0 d seen.toArray W
   (enters_of func160 (by kernel_rfl) rfl) (fun m l M _ x y=>by
     have:=XN (bs x) (bs y) (bs (a x)) (bs (a y)) (sortWorldK (qY a) 2 W g 0 m M l);rw[fS,fS] at this;exact this) G (aD s) (by simp;omega) TW
  rw[<-A] at F;refine F.mono ?_;rintro e t ⟨rfl,n,l,rfl⟩;have H:HoldsK (qY a) 2 (putRowK (qY a) 2 (Go.Sort.ahead W n) g 0 (gB seen).toArray) g 0 (gB seen).toArray:=holdsK_putRowK (qY a) 2 (Go.Sort.ahead W n) g 0 seen.toArray _ G (by simp[lJ])
  have q:g<(putRowK (qY a) 2 (Go.Sort.ahead W n) g 0 (gB seen).toArray).heap.size:=by rw[size_putRowK];exact aD s
  refine⟨rfl,⟨some ⟨g,0,none⟩,d,by rw[f],fun i b=>?_⟩,?_⟩
  ·rw[f] at b;have p:i<(gB seen).toArray.size:=by simp[lJ,b]
   have C:(gB seen).toArray[i]! =(gB seen)[i]'(by rw[lJ];exact b):=by simp[getElem!_pos,lJ,b]
   have r:=H.cell (i:=i) (c:=0) p (by omega)
   have u:=H.cell (i:=i) (c:=1) p (by omega)
   rw[C] at r u;refine⟨g,rfl,?_,?_,B,?_⟩
   ·show (grow (putRowK (qY a) 2 (Go.Sort.ahead W n) g 0 (gB seen).toArray) l).cell? ⟨g,i*2,none⟩=_
    rw[cell?_grow _ _ ⟨g,i*2,none⟩ q];simpa [lD,qY] using r.1
   ·show (grow (putRowK (qY a) 2 (Go.Sort.ahead W n) g 0 (gB seen).toArray) l).cell? ⟨g,i*2+1,none⟩=_
    rw[cell?_grow _ _ ⟨g,i*2+1,none⟩ q];simpa [lD,qY] using u.1
   ·show g<(grow (putRowK (qY a) 2 (Go.Sort.ahead W n) g 0 (gB seen).toArray) l).heap.size
    rw[size_grow];omega
  ·refine⟨rfl,rfl,rfl,?_,fun k O=>?_⟩
   ·show W.heap.size<=(grow (putRowK (qY a) 2 (Go.Sort.ahead W n) g 0 (gB seen).toArray) l).heap.size
    rw[size_grow,size_putRowK];exact Nat.le_add_right _ _
   ·show (grow (putRowK (qY a) 2 (Go.Sort.ahead W n) g 0 (gB seen).toArray) l).heap[k]?=W.heap[k]?
    have z:k≠g:=by omega
    have w:k<W.heap.size:=by have:=aD s;omega
    rw[heap_grow_old _ _ (by rw[size_putRowK];exact w)]
    simp only[putRowK,putRow,mapBlock,Array.getElem?_modify];rw[if_neg (Ne.symm z)];rfl
def EE.cells{F:Nat->Prop}{w:World}{x:Option Addr}{n c:Nat}{a:List FVal}(h:EE F w (.slice x n c) a)(i:Nat)(b:i<a.length):∃g,x=some ⟨g,0,none⟩/\n=a.length/\F g/\∀j u,j<6->a[i].cells[j]?=some u->w.cell? ⟨g,i*6+j,none⟩=some u:=by
 rcases h with ⟨rfl,_⟩|⟨g,s,m,k,f,q,t,l⟩
 ·simp at b
 ·cases k;refine⟨g,rfl,rfl,f,fun j u r p=>?_⟩
  refine aA q ?_;have e:a=a.take i++a[i]::a.drop (i+1):=by rw[<-bL_ b,a5_]
  have o:(a.take i).length=i:=by rw[bc_];omega
  have d:=PU (a.take i) (a.drop (i+1)) a[i] j r;rw[<-e,o,p,<-l,List.getElem?_take_of_lt (by omega),Array.getElem?_toList] at d
  exact d
def PVs.sl{F:Nat->Prop}{w:World}{v:Value}{l:List aJ}(h:PVs F w v l):∃x n c,v=.slice x n c:=by
 rcases h with ⟨_,e⟩|⟨g,b,a,e,_⟩<;>exact⟨_,_,_,e⟩
section
variable {fp:Nat->Value} {F:Nat->Prop} {w:World} {s1:SV} {s:bI}
def kR.parts(h:kR fp F w s1.val s):∃a,EE F w (.slice s1.x1 s1.n1 s1.c1) a/\uC fp F w a s.m.frames/\EC F w (.slice s1.x3 s1.n3 s1.c3) s.m.out:=by
 obtain⟨j,f,i,a,b,d,e,g,c⟩:=h;simp only[SV.val,Value.agg.injEq] at b;simp at b;rw[b.2.1,b.2.2.2.1];exact⟨a,d,e,c⟩
def kR.none(h:kR fp F w s1.val s)(f:s.m.frames=[]):s1.n1=0:=by
 obtain⟨a,j,i,_⟩:=h.parts;have b:=i.length;rw[f] at b;have:a=[]:=aN_ b;subst this;rcases j with ⟨_,x,c,e⟩|⟨g,c,d,e,_⟩
 ·simp at e;exact e.2.1
 ·simp at e;exact e.2.1
def kR.frame(h:kR fp F w s1.val s)(i:Nat)(k:i<s.m.frames.length):∃g v,s1.x1=some ⟨g,0,Option.none⟩/\s1.n1=s.m.frames.length/\F g/\s9 fp F w v s.m.frames[i]/\∀j u,j<6->v.cells[j]?=some u->w.cell? ⟨g,i*6+j,Option.none⟩=some u:=by
 obtain⟨f,e,a,_⟩:=h.parts;have l:=a.length;obtain⟨g,b,m,c,d⟩:=e.cells i (by omega)
 exact⟨g,_,b,by omega,c,a.get i _ _ (aH_ (by omega)) (aH_ k),d⟩
def YB(h:kR fp F w s1.val s)(r:∀b,F b->b<w.heap.size)(D:s.m.frames.length<=16):
 Calls prog 107 #[s1.val] w fun e k=>∃x n c,e=.returned (.slice x n c)/\fU w.heap.size k (.slice x n c) (kV (bV s.m.frames))/\Below w.heap.size w k:=by
 have a:(bV s.m.frames).length=s.m.frames.length:=by simp[bV]
 have u:(kV (bV s.m.frames)).length=(bV s.m.frames).length:=by simp[kV]
 by_cases o:s.m.frames=[]
 ·refine(BO w s1 (h.none o)).mono ?_;rintro e k ⟨rfl,l⟩;exact⟨Option.none,0,0,rfl,⟨Option.none,0,by rw[o];rfl,fun i A=>by rw[o] at A;simp[kV,bV] at A⟩,l⟩
 ·have m:0<s.m.frames.length:=bl_.2 o;obtain⟨Q,v,B,O,e3,_,_⟩:=h.frame 0 m;refine(SO w s1 Q (bV s.m.frames) B (by rw[a];exact O) (by rw[a];exact D) fun W y j q=>?_).mono ?_
  ·rw[a] at q;have t:=h.keep (w':=W) (fun b l=>y.block b (r b l)) fun _ h=>h
   obtain⟨g,v,C,a2,N,f,d⟩:=t.frame j q;rw[B] at C;cases C;obtain⟨V,Z,M,P,E,T,K,_⟩:=f.fn;obtain⟨p,U⟩:=eE.form f.sp;obtain⟨I,L,Y,G⟩:=PVs.sl f.vars;obtain⟨X,H,S,J⟩:=PVs.sl f.ops;refine⟨az_ (r _ N) y.size,V,s.m.frames[j].next,p,I,L,Y,X,H,S,d 0 _ (by omega) ?_,d 1 _ (by omega) ?_,d 2 _ (by omega) ?_,d 3 _ (by omega) ?_,d 4 _ (by omega) ?_,d 5 _ (by omega) ?_,?_,r _ T⟩
   ·rw[<-E];rfl
   ·rw[<-f.nx];rfl
   ·rw[show ((bV s.m.frames)[j]'(by rw[a];exact q)).2=s.m.frames[j].line by simp[bV],<-f.ln];rfl
   ·rw[<-U];rfl
   ·rw[<-G];rfl
   ·rw[<-J];rfl
   ·rw[show ((bV s.m.frames)[j]'(by rw[a];exact q)).1=s.m.frames[j].fn.name by simp[bV]]
    exact aA K rfl
  ·rintro e k ⟨x,c,rfl,z,l⟩;refine⟨x,_,c,rfl,?_,l⟩;rw[<-u] at z ⊢
   exact ZA z
noncomputable def JH(f:aI)(x:List UInt8):List UInt8:=cB (f.vars[dK f.seen x]?.getD bN)
noncomputable def pE(s:bI):List (Value × Value):=match s.m.frames.getLast? with
 |Option.none=>[]
 |some f=>lD (JH f) (gB f.seen)
def I8{a l:List (List UInt8)}{x:List UInt8}(h:(a++x::l).Nodup):dK (a++x::l) x=l.length:=by
 induction a with
 |nil=>simp[dK]
 |cons y a b=>
  rw[aY_,aK_] at h;rw[aY_,dK,if_neg fun e=>h.1 (by rw[e];simp)]
  exact b h.2
def G3(h:kR fp F w s1.val s)(A:∀b,F b->b<w.heap.size)(hd:s.m.frames.length<=16)(hp:kC w)(S:jW s.m)(ht:∀x∈s.m.frames,x.seen.length<=x.vars.length):
 Calls prog 108 #[s1.val] w fun e E=>∃x n c,e=.returned (.slice x n c)/\fU w.heap.size E (.slice x n c) (pE s)/\Below w.heap.size w E:=by
 by_cases L:s.m.frames=[]
 ·refine(GR w s1 (h.none L)).mono ?_;rintro e E ⟨rfl,B⟩;refine⟨Option.none,0,0,rfl,?_,B⟩;unfold pE;rw[L];exact⟨Option.none,0,rfl,fun i Q=>by simp at Q⟩
 ·obtain⟨n,hn⟩:∃n,s.m.frames.length=n+1:=⟨s.m.frames.length-1,by have:=bl_.2 L;omega⟩
  have r:s.m.frames.getLast?=some (s.m.frames[n]'(by omega)):=by
   rw[List.getLast?_eq_getElem?,show s.m.frames.length-1=n by omega];exact aH_ _
  obtain⟨M,v,H,e2,T,Y,a5⟩:=h.frame n (by omega)
  have k:s.m.frames[n]'(by omega)∈s.m.frames:=aR_ _
  obtain⟨⟨I,j⟩,_⟩:=S _ k;have aa:=ht _ k;obtain⟨p,Z⟩:=eE.form Y.sp;have K:pE s=lD (JH (s.m.frames[n]'(by omega))) (gB (s.m.frames[n]'(by omega)).seen):=by unfold pE;rw[r]
  rw[K];have J:∀W,Below w.heap.size w W->kR fp F W s1.val s:=fun W G=>h.keep (fun b B=>G.block b (A b B)) fun _ h=>h
  generalize D:w.alloc (.cells s1.cells 108)=m;have a:Below w.heap.size w m:=by rw[<-D];exact(ay_ _ w).alloc (au_ _) _
  have o:w.heap.size<=m.heap.size:=a.size;refine(XM w m F s1 M n p (s.m.frames[n]'(by omega)).seen (JH (s.m.frames[n]'(by omega))) (fun y d W=>fU m.heap.size W (.slice y (s.m.frames[n]'(by omega)).seen.length d) (lD (JH (s.m.frames[n]'(by omega))) (gB (s.m.frames[n]'(by omega)).seen))/\Below m.heap.size m W) H (by omega) (by omega) D A (by rw[<-Z];exact Y.sp) j ?_ (fun W ab x l G N=>?_) (fun W y d hO G=>?_)).mono ?_
  ·refine YI m s1 M n p H (by omega) (by omega) ?_ (az_ (A _ T) o)
   rw[World.cell?_of_block (a.block M (A _ T))];exact a5 3 _ (by omega) (by rw[<-Z];rfl)
  ·have f:Below w.heap.size w W:=a.trans (G.mono o);obtain⟨g,v',X,d2,d3,O,d5⟩:=(J W f).frame n (by omega)
   rw[H] at X;cases X
   have q:l.length<(s.m.frames[n]'(by omega)).vars.length:=by
    have:=congrArg List.length N;simp at this;omega
   obtain⟨x4,n4,c4,V⟩:=PVs.sl O.vars;have C:=O.vars;rw[V] at C;obtain⟨g4,u,f1,f2,f3,f4,f5,f6,U⟩:=C.get l.length q;obtain⟨t,z,rfl⟩:=U.form;refine⟨g4,n4,c4,t,z,d5 4 _ (by omega) (by rw[<-f1,<-V];rfl),az_ (A _ T) f.size,by omega,f6,f4,?_⟩
   have he:JH (s.m.frames[n]'(by omega)) x=cB ((s.m.frames[n]'(by omega)).vars[l.length]'q):=by
    unfold JH;rw[N,I8 (by rw[<-N];exact I),aH_ q];rfl
   rw[he];exact oO F 200 _ _ W U (fun b B=>az_ (A b B) f.size) (hp.below f) (O.varsB _ (aR_ _)) (by omega)
  ·refine(KC W m.heap.size y d _ _ hO j).mono ?_;rintro e E ⟨rfl,h1,P⟩;exact⟨rfl,h1,G.trans P⟩
  ·rintro e E ⟨y,d,rfl,⟨x,c,g1,g2⟩,P⟩;refine⟨_,_,_,rfl,⟨x,c,g1,fun i Q=>?_⟩,a.trans (P.mono o)⟩
   obtain⟨g,k1,k2,k3,k4,k5⟩:=g2 i Q;exact⟨g,k1,k2,k3,by omega,k5⟩
end
structure oK(base:Nat)(w:World)(m:SV)(s:bI):Prop where
 t:m.t=s.time
 q:m.q=s.stop
 stack:fU base w (.slice m.x1 m.n1 m.c1) (kV (bV s.m.frames))
 vars:fU base w (.slice m.x2 m.n2 m.c2) (pE s)
 out:pB base w (.slice m.x3 m.n3 m.c3) s.m.out
def oK.keep{base:Nat}{w w':World}{m:SV}{s:bI}(h:oK base w m s)(a:∀k,base<=k->k<w.heap.size->w'.heap[k]?=w.heap[k]?)(b:w.heap.size<=w'.heap.size):oK base w' m s:=
 ⟨h.t,h.q,h.stack.keep a b,h.vars.keep a b,h.out.keep a b⟩
def fU.low{a b:Nat}{w:World}{v:Value}{l:List (Value × Value)}(h:fU a w v l)(d:b<=a):fU b w v l:=by
 obtain⟨x,c,k,f⟩:=h;refine⟨x,c,k,fun i o=>?_⟩
 obtain⟨g,e,n,j,m,p⟩:=f i o;exact⟨g,e,n,j,aF_ d m,p⟩
def pB.low{a b:Nat}{w:World}{v:Value}{l:List (List UInt8)}(h:pB a w v l)(d:b<=a):pB b w v l:=by
 obtain⟨x,c,k,f⟩:=h;refine⟨x,c,k,fun i o=>?_⟩
 obtain⟨g,e,n,j,m⟩:=f i o;exact⟨g,e,n,aF_ d j,m⟩
def oK.low{a b:Nat}{w:World}{m:SV}{s:bI}(h:oK a w m s)(c:b<=a):oK b w m s:=⟨h.t,h.q,h.stack.low c,h.vars.low c,h.out.low c⟩
def U9{P:Nat->Value}{F:Nat->Prop}{w:World}{sb mb n:Nat}{U:Obj}{st:Nat->Option bI}{s:bI}(h:jV P F w sb mb U st s n)(O:s.m.frames.length<=16)(hp:kC w)(K:jW s.m)(Y:∀x∈s.m.frames,x.seen.length<=x.vars.length)(ho:s.m.out.length<=1000000):
 Calls prog 23 #[.pointer (some ⟨sb,0,none⟩)] w fun e o=>∃m:SV,e=.returned m.val/\Below w.heap.size w o/\oK w.heap.size o m s:=by
 obtain⟨A,z,k0,Q,k2,k3,k4,_⟩:=h.cells;have J:=h.lt;obtain⟨T,S,e1,e2⟩:=z.sv;obtain rfl:=SV.val_inj S;have t:∀b,F b->b<w.heap.size:=fun b a=>(h.fix b a).1
 have r:∀W,Below w.heap.size w W->kR P F W A.val s:=fun W q=>z.keep (fun b a=>q.block b (t b a)) fun _ h=>h
 generalize p:w.alloc (.cells #[.int .i64 0,.slice none 0 0,.slice none 0 0,.slice none 0 0,.int .i64 0] 63)=i;have D:Below w.heap.size w i:=by rw[<-p];exact(ay_ _ w).alloc (au_ _) _
 have aa:i.heap.size=w.heap.size+1:=by rw[<-p];simp
 have N:i.heap[w.heap.size]?=some (.cells #[.int .i64 0,.slice none 0 0,.slice none 0 0,.slice none 0 0,.int .i64 0] 63 (0,0)):=by rw[<-p];exact aM _ _ rfl _
 refine OP w sb A _ J k0 Q k2 k3 k4 ?_;rw[p];generalize j:(i.alloc (.cells A.cells 108)).alloc (.cells #[.int .i64 0,.slice none 0 0,.slice none 0 0,.slice none 0 0,.int .i64 0] 63)=f;have B:Below i.heap.size i f:=by rw[<-j];exact((ay_ _ i).alloc (au_ _) _).alloc (by simp) _
 have ab:f.heap.size=i.heap.size+2:=by rw[<-j];simp
 have u:f.heap[i.heap.size]?=some (.cells A.cells 108 (0,0)):=by rw[<-j];exact jM _ _ _
 have I:f.heap[i.heap.size+1]?=some (.cells #[.int .i64 0,.slice none 0 0,.slice none 0 0,.slice none 0 0,.int .i64 0] 63 (0,0)):=by rw[<-j];exact gO _ _ _
 have g:∀W,Below f.heap.size f W->Below w.heap.size w W:=fun W a=>D.trans ((B.mono D.size).trans (a.mono (by omega)))
 refine yA i A (fun m o=>(∃c,o.heap[w.heap.size]?=some (.cells c 63 (0,0))/\c.size=5)/\Below w.heap.size w (dR o w.heap.size m)/\oK w.heap.size (dR o w.heap.size m) m s)
  (fun m W=>Below f.heap.size f W/\oK f.heap.size W m s)
  (fun x n c W=>fU f.heap.size W (.slice x n c) (kV (bV s.m.frames))/\Below f.heap.size f W)
  (fun x n c G H E W=>fU f.heap.size W (.slice x n c) (kV (bV s.m.frames))/\fU f.heap.size W (.slice G H E) (pE s)/\Below f.heap.size f W) (fun W q=>?_) (fun x n c W y=>?_) (fun x n c G H E W y=>?_) (fun m W y=>?_)
 ·rw[j] at q;have l:Below f.heap.size f W:=⟨q.os,q.tape,q.output,by rw[q.heap];exact au_ _,fun k _=>by rw[q.heap]⟩
  refine(YB (r W (g W l)) (fun b a=>az_ (t b a) (g W l).size) O).mono ?_
  rintro e o ⟨x,n,c,rfl,C,a⟩;exact⟨x,n,c,rfl,C.low l.size,l.trans (a.mono l.size)⟩
 ·obtain⟨C,a⟩:=y;refine⟨by rw[a.block _ (by omega)];exact u,(G3 (r W (g W a)) (fun b d=>az_ (t b d) (g W a).size) O (hp.below (g W a)) K Y).mono ?_⟩
  rintro e o ⟨G,H,E,rfl,L,d⟩;exact⟨G,H,E,rfl,C.keep (fun k _ v=>d.block k v) d.size,L.low a.size,a.trans (d.mono a.size)⟩
 ·obtain⟨C,L,a⟩:=y;obtain⟨ac,_,_,M⟩:=(r W (g W a)).parts;refine⟨by rw[a.block _ (by omega)];exact u,(vG M ho).mono ?_⟩
  rintro e o ⟨Z,n3,c3,rfl,hO,d⟩;exact⟨Z,n3,c3,rfl,a.trans (d.mono a.size),e1,e2,C.keep (fun k _ v=>d.block k v) d.size,L.keep (fun k _ v=>d.block k v) d.size,hO.low a.size⟩
 ·obtain⟨a,X⟩:=y;have V:=a.size;refine⟨by rw[a.block _ (by omega)];exact u,⟨_,by rw[a.block _ (by omega)];exact I,by simp⟩,⟨_,by rw[cV _ _ _ _ (by omega),a.block _ (by omega),B.block _ (by omega)];exact N,by simp⟩,?_,?_⟩
  ·exact lO m (lO m (g W a) (by omega)) (au_ _)
  ·exact(X.keep (w':=dR (dR W (i.heap.size+1) m) w.heap.size m) (fun k h1 h2=>by rw[cV _ _ _ _ (by omega),cV _ _ _ _ (by omega)]) (by rw[(fO _ _ _).1,(fO _ _ _).1];exact au_ _)).low (by omega)
end Go.Proofs.YtblbkfdhjfppkaaGreatDoor
