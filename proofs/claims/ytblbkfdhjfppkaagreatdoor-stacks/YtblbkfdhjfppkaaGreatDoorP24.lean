/- Contracts of the program: the moment is told where there is no frame. -/
import Derived.Test.YtblbkfdhjfppkaaGreatDoorP23
set_option linter.defProp false
set_option maxRecDepth 100000
set_option maxHeartbeats 4000000
namespace Go.Proofs.YtblbkfdhjfppkaaGreatDoor
open Hs
open _root_.Go.Proofs.Tryz(prog)
open Go.RowKit
def pB(base:Nat)(w:World)(v:Value)(l:List (List UInt8)):Prop:=∃x c,v=.slice x l.length c/\∀i (h:i<l.length),∃g,x=some ⟨g,0,none⟩/\w.cell? ⟨g,i,none⟩=some (.string (bs l[i]))/\base<=g/\g<w.heap.size
def pB.keep{base:Nat}{w w':World}{v:Value}{l:List (List UInt8)}(h:pB base w v l)(d:∀k,base<=k->k<w.heap.size->w'.heap[k]?=w.heap[k]?)(n:w.heap.size<=w'.heap.size):pB base w' v l:=by
 obtain⟨x,c,o,f⟩:=h;refine⟨x,c,o,fun i j=>?_⟩
 obtain⟨g,e,m,b,a⟩:=f i j;exact⟨g,e,by rw[World.cell?_of_block (d g b a)];exact m,b,az_ a n⟩
def vG{F:Nat->Prop}{w:World}{v:Value}{l:List (List UInt8)}(h:EC F w v l)(z:l.length<=1000000):
 Calls prog 109 #[v] w fun e b=>∃x n c,e=.returned (.slice x n c)/\pB w.heap.size b (.slice x n c) l/\Below w.heap.size w b:=by
 rcases h with ⟨rfl,rfl⟩|⟨g,c,A,rfl,D,B,H,y⟩
 ·refine(sV w).mono ?_;rintro e b ⟨rfl,rfl⟩;exact⟨none,0,0,rfl,⟨none,0,rfl,fun i k=>by simp at k⟩,ay_ _ _⟩
 ·refine(sW g 0 l.length c (lV l) w (by simp[lV]) z (fun j u a=>?_) (fun u o=>?_)).mono ?_
  ·rw[bk_];refine aA B ?_;rw[<-y,aU_] at a;split at a
   ·rw[Array.getElem?_toList] at a;exact a
   ·cases a
  ·simp only[lV,bz_] at o;obtain⟨x,_,rfl⟩:=o;rfl
  ·rintro e b ⟨E,rfl,d,t⟩;obtain⟨x,r,rfl⟩:=cU d;refine⟨x,_,r,rfl,⟨x,r,rfl,fun i k=>?_⟩,t⟩
   rcases d.2 with ⟨f,s⟩|⟨q,p,m,f,s,C,G⟩
   ·simp only[Value.slice.injEq] at f;omega
   ·cases f;refine⟨q,rfl,?_,s,aD C⟩;have:=d.cells (g:=q) rfl i (.string (bs l[i])) (by simp[lV,k])
    rw[nQ] at this;exact this
def SX(w:World)(s:SV)(h:s.n1=0):Calls prog 156 #[s.val] w fun e a=>e=.returned (.pointer none)/\Below w.heap.size w a:=by
 obtain⟨t,l,j,f,c,d,b,g,i,k,q⟩:=s;subst h;unfold SV.val;go_enter Tryz.func156,Tryz.ntmps156;go_wp2_with fail;go_ret;exact⟨rfl,(ay_ _ _).alloc (au_ _) _⟩
def GR(w:World)(s:SV)(h:s.n1=0):Calls prog 108 #[s.val] w fun e c=>e=.returned (.slice none 0 0)/\Below w.heap.size w c:=by
 have a:=aB fun W=>SX W s h
 have f:=aB fun W=>AnyF.slices_SortFunc_none (P:=prog) (ρ:=Tryz.sortL_ren) { Tryz.sortL with } none 0 (.func (.func 160) #[] #[]) W
 obtain⟨t,p,o,j,r,i,m,l,u,x,q⟩:=s;subst h;unfold SV.val at a;unfold SV.val;go_enter Tryz.func108,Tryz.ntmps108;go_wp2_with fail;refine(a.out _).mono ?_;rintro e d ⟨rfl,b⟩;have g:=aB b;clear b a;go_wp2_with fail;go_loopg [3,4] 1 (fun k v s wr=>v=.slice none 0 0/\s=.pointer none/\wr=d)
 case atStart=>exact⟨rfl,rfl,rfl⟩
 case round=>
  obtain⟨rfl,rfl,rfl⟩:=hrel;go_wp2_with fail;refine(f.out _).mono ?_;rintro e n ⟨rfl,rfl⟩;go_wp2_with fail;go_ret;exact⟨rfl,((ay_ _ _).alloc (au_ _) _).trans (g.out.mono (by simp))⟩
def BO(w:World)(s:SV)(h:s.n1=0):Calls prog 107 #[s.val] w fun e b=>e=.returned (.slice none 0 0)/\Below w.heap.size w b:=by
 obtain⟨t,m,l,f,n,d,j,g,o,p,q⟩:=s;subst h;unfold SV.val;go_enter Tryz.func107,Tryz.ntmps107;go_wp2_with fail;go_loopg [3,9] 1 (fun k v i wr=>v=.slice none 0 0/\i=.int .i64 0/\Below w.heap.size w wr)
 case atStart=>exact⟨rfl,rfl,(ay_ _ _).alloc (au_ _) _⟩
 case round=>
  obtain⟨rfl,rfl,a⟩:=hrel;have c:=aB a;clear a;go_wp2_with fail;go_ret;exact⟨rfl,c.out⟩
def OP(w:World)(sb:Nat)(s:SV)(P:SV->World->Prop)(B:sb<w.heap.size)
 (k0:w.cell? ⟨sb,0,none⟩=some (.int .i64 s.t)) (K:w.cell? ⟨sb,1,none⟩=some (.slice s.x1 s.n1 s.c1)) (I:w.cell? ⟨sb,2,none⟩=some (.slice s.x2 s.n2 s.c2)) (H:w.cell? ⟨sb,3,none⟩=some (.slice s.x3 s.n3 s.c3)) (u:w.cell? ⟨sb,4,none⟩=some (.int .i64 s.q))
 (j:Hid (Calls prog 60 #[s.val] (w.alloc (.cells #[.int .i64 0,.slice none 0 0,.slice none 0 0,.slice none 0 0,.int .i64 0] 63)) fun e f=>∃m:SV,e=.returned m.val/\(∃c,f.heap[w.heap.size]?=some (.cells c 63 (0,0))/\c.size=5)/\P m (dR f w.heap.size m))):
 Calls prog 23 #[.pointer (some ⟨sb,0,none⟩)] w fun e f=>∃m:SV,e=.returned m.val/\P m f:=by
 unfold SV.val at j;go_enter Tryz.func23,Tryz.ntmps23;go_wp2_with fail;refine j.out.mono ?_;rintro e n ⟨m,rfl,⟨c,a,N⟩,k⟩;have r:=aA (i:=0) a (aC_ (by omega))
 have G:=aA (i:=1) a (aC_ (by omega))
 have D:=aA (i:=2) a (aC_ (by omega))
 have C:=aA (i:=3) a (aC_ (by omega))
 have E:=aA (i:=4) a (aC_ (by omega))
 have p:=aE (i:=0) a;have y:=aE (i:=1) a;have t:=aE (i:=2) a;have A:=aE (i:=3) a;have x:=aE (i:=4) a;have L:=aD a;have l:=mR (W:=n) (s:=m) a (by omega) rfl
 have h:=aB l;have g:=aB k;unfold dR at h g;clear l k a j k0 K I H u;go_wp2_with fail;have d:=h.out;have b:=g.out;clear h g r G D C E p y t A x;generalize ((((n.setCell ⟨w.heap.size,0,none⟩ (.int .i64 m.t)).setCell ⟨w.heap.size,1,none⟩ (.slice m.x1 m.n1 m.c1)).setCell ⟨w.heap.size,2,none⟩ (.slice m.x2 m.n2 m.c2)).setCell ⟨w.heap.size,3,none⟩ (.slice m.x3 m.n3 m.c3)).setCell ⟨w.heap.size,4,none⟩ (.int .i64 m.q)=M at d b ⊢
 obtain⟨F,q,J,o,z⟩:=d;exact bodyPost_ret (v:=.agg #[.int .i64 m.t,.slice m.x1 m.n1 m.c1,.slice m.x2 m.n2 m.c2,.slice m.x3 m.n3 m.c3,.int .i64 m.q]) (by simp[results,Tryz.results23,go_sem,F,q,J,o,z]) rfl ⟨m,rfl,b⟩
def lO{w W:World}{b:Nat}(s:SV)(h:Below w.heap.size w W)(g:w.heap.size<=b):Below w.heap.size w (dR W b s):=by
 obtain⟨a,f,e,d⟩:=fO W b s;exact⟨f.trans h.os,e.trans h.tape,d.trans h.output,by rw[a];exact h.size,fun k c=>by rw[cV _ _ _ k (by omega)];exact h.block k c⟩
def L4{fp:Nat->Value}{F:Nat->Prop}{w:World}{sb mb n:Nat}{mo:Obj}{st:Nat->Option bI}{s:bI}(h:jV fp F w sb mb mo st s n)(O:s.m.frames=[])(ho:s.m.out.length<=1000000):
 Calls prog 23 #[.pointer (some ⟨sb,0,none⟩)] w fun e p=>∃m:SV,e=.returned m.val/\Below w.heap.size w p/\m.t=s.time/\m.q=s.stop/\m.n1=0/\m.n2=0/\pB w.heap.size p (.slice m.x3 m.n3 m.c3) s.m.out:=by
 obtain⟨o,y,k0,k1,k2,k3,k4,_⟩:=h.cells;have Z:=h.lt;obtain⟨ae,e0,e1,e2⟩:=y.sv;obtain rfl:=SV.val_inj e0
 have G:o.n1=0:=by
  obtain⟨fv,tv,ov,A,t,K,H,N,L⟩:=y;rw[O] at H
  have Q:A=[]:=by
   cases A with
   |nil=>rfl
   |cons v l=>exact H.elim
  subst Q;simp only[SV.val,Value.agg.injEq] at t;simp at t;rcases K with ⟨_,x,c,e⟩|⟨g,c,aa,e,_⟩
  ·have:=t.2.1.trans e;simp at this;exact this.2.1
  ·have:=t.2.1.trans e;simp at this;exact this.2.1
 have X:∀W,Below w.heap.size w W->EC F W (.slice o.x3 o.n3 o.c3) s.m.out:=fun W u=>by
  obtain⟨fv,tv,ov,A,t,K,H,N,L⟩:=y;simp only[SV.val,Value.agg.injEq] at t;simp at t;rw[t.2.2.2.1];exact L.keep (fun b a=>u.block b (h.fix b a).1) fun _ h=>h
 generalize r:w.alloc (.cells #[.int .i64 0,.slice none 0 0,.slice none 0 0,.slice none 0 0,.int .i64 0] 63)=f;have q:Below w.heap.size w f:=by rw[<-r];exact(ay_ _ w).alloc (au_ _) _
 have ac:f.heap.size=w.heap.size+1:=by rw[<-r];simp
 have Y:f.heap[w.heap.size]?=some (.cells #[.int .i64 0,.slice none 0 0,.slice none 0 0,.slice none 0 0,.int .i64 0] 63 (0,0)):=by rw[<-r];exact aM _ _ rfl _
 refine OP w sb o _ Z k0 k1 k2 k3 k4 ?_;rw[r];generalize j:(f.alloc (.cells o.cells 108)).alloc (.cells #[.int .i64 0,.slice none 0 0,.slice none 0 0,.slice none 0 0,.int .i64 0] 63)=d;have B:Below f.heap.size f d:=by rw[<-j];exact((ay_ _ f).alloc (au_ _) _).alloc (by simp) _
 have ab:d.heap.size=f.heap.size+2:=by rw[<-j];simp
 have z:d.heap[f.heap.size]?=some (.cells o.cells 108 (0,0)):=by rw[<-j];exact jM _ _ _
 have P:d.heap[f.heap.size+1]?=some (.cells #[.int .i64 0,.slice none 0 0,.slice none 0 0,.slice none 0 0,.int .i64 0] 63 (0,0)):=by rw[<-j];exact gO _ _ _
 refine yA f o (fun m p=>(∃c,p.heap[w.heap.size]?=some (.cells c 63 (0,0))/\c.size=5)/\Below w.heap.size w (dR p w.heap.size m)/\m.t=s.time/\m.q=s.stop/\m.n1=0/\m.n2=0/\pB w.heap.size (dR p w.heap.size m) (.slice m.x3 m.n3 m.c3) s.m.out)
  (fun m W=>Below d.heap.size d W/\m.t=s.time/\m.q=s.stop/\m.n1=0/\m.n2=0/\pB d.heap.size W (.slice m.x3 m.n3 m.c3) s.m.out)
  (fun x n c W=>n=0/\Below d.heap.size d W) (fun x n c x2 n2 c2 W=>n=0/\n2=0/\Below d.heap.size d W) (fun W u=>?_) (fun x n c W E=>?_) (fun x n c x2 n2 c2 W E=>?_) (fun m W E=>?_)
 ·rw[j] at u;refine(BO W o G).mono ?_;rintro e p ⟨rfl,a⟩;have I:Below d.heap.size d W:=⟨u.os,u.tape,u.output,by rw[u.heap];exact au_ _,fun k _=>by rw[u.heap]⟩
  exact⟨none,0,0,rfl,rfl,I.trans (a.mono I.size)⟩
 ·obtain⟨rfl,a⟩:=E;refine⟨by rw[a.block _ (by omega)];exact z,(GR W o G).mono ?_⟩
  rintro e p ⟨rfl,D⟩;exact⟨none,0,0,rfl,rfl,rfl,a.trans (D.mono a.size)⟩
 ·obtain⟨rfl,rfl,a⟩:=E;have C:Below w.heap.size w W:=q.trans ((B.mono q.size).trans (a.mono (by omega)))
  refine⟨by rw[a.block _ (by omega)];exact z,(vG (X W C) ho).mono ?_⟩
  rintro e p ⟨x3,n3,c3,rfl,hO,D⟩;refine⟨x3,n3,c3,rfl,a.trans (D.mono a.size),e1,e2,rfl,rfl,?_⟩;obtain⟨x,c,M,J⟩:=hO;refine⟨x,c,M,fun i U=>?_⟩
  obtain⟨g,T,V,a3,S⟩:=J i U;exact⟨g,T,V,aF_ a.size a3,S⟩
 ·obtain⟨a,K,H,N,L,q5⟩:=E;have ad:=a.size;refine⟨by rw[a.block _ (by omega)];exact z,⟨_,by rw[a.block _ (by omega)];exact P,by simp⟩,⟨_,by rw[cV _ _ _ _ (by omega),a.block _ (by omega),B.block _ (by omega)];exact Y,by simp⟩,?_,K,H,N,L,?_⟩
  ·have C:Below w.heap.size w W:=q.trans ((B.mono q.size).trans (a.mono (by omega)))
   exact lO m (lO m C (by omega)) (au_ _)
  ·have hq:=q5.keep (w':=dR (dR W (f.heap.size+1) m) w.heap.size m) (fun k M J=>by rw[cV _ _ _ _ (by omega),cV _ _ _ _ (by omega)]) (by rw[(fO _ _ _).1,(fO _ _ _).1];exact au_ _)
   obtain⟨x,c,M,J⟩:=hq;refine⟨x,c,M,fun i U=>?_⟩
   obtain⟨g,T,V,a3,S⟩:=J i U;exact⟨g,T,V,by omega,S⟩
def AD{l:List UInt8}{ks:List aC}(b:cW l=.ok ks)(c:cG l=(0,0)):Good ks:=by
 obtain⟨d,e⟩:=KI b c;have a:=FG b;have h:=(kT b).len;exact⟨by omega,d,a,fun f g=>by have:=((kT b).mem g).kids.len;omega,e,SD a⟩
def JY{ks:List aC}{a:List Int}:∀(d t:Nat) (z:bI),cE ks a (t+1+d)=some z->∃x,cE ks a t=some x/\x.stop=0
 |0,t,z,h=>by
  unfold cE at h ⊢
  rw[Nat.add_zero,dQ] at h;cases b:dQ (cP ks 2001) (eT ks 2001 a) t with
  |none=>rw[b] at h;cases h
  |some x=>
   rw[b] at h;simp only at h;split at h
   ·rename_i e;exact⟨x,rfl,e⟩
   ·cases h
 |d+1,t,z,h=>by
  obtain⟨x,c,_⟩:=JY 0 (t+1+d) z (by rw[show t+1+d+1+0=t+1+(d+1) by omega];exact h)
  exact JY d t x c
def WI{ks:List aC}{a:List Int}{t u:Nat}{z:bI}(h:cE ks a u=some z)(b:t<u):∃x,cE ks a t=some x/\x.stop=0:=JY (u-t-1) t z (by rw[show t+1+(u-t-1)=u by omega];exact h)
def IR{ks:List aC}{a:List Int}{s τ:bI}{b:Bool}(k:cE ks a s.time=some s)(h:F5 (cE ks a) (fun _=>true) s τ b):(b=true/\τ.time=s.time+1/\s.stop=0)\/(b=false/\τ=s/\s.stop≠0):=by
 rcases h with ⟨e,f,d⟩|⟨e,f,d,j,_⟩
 ·exact as_ ⟨e,f,d⟩
 ·refine av_ ⟨e,?_,?_⟩
  ·rcases a6_ (s.time+1) τ.time with g|g
   ·obtain⟨x,c,_⟩:=WI d g;have:=j _ x (by omega) g c
    cases this
   ·omega
  ·obtain⟨x,c,i⟩:=WI d f;rw[k] at c;cases c;exact i
def Below.fs{w W b:World}{sb:Nat}(h:Below w.heap.size w W)(a:FS sb W b)(f:w.heap.size<=sb)(c:∀k,lX sb W=some k->sb<k):Below w.heap.size w b:=
 ⟨a.os.trans h.os,a.tape.trans h.tape,a.output.trans h.output,aF_ h.size a.size,fun k d=>by
   have:=h.size;rw[a.blk k (by omega) (by omega) fun e=>by have:=c k e;omega];exact h.block k d⟩
def OB(w:World)(j:List UInt8)(T:Nat)(h:List (List UInt8))(hE:xG j T h)(hT:iT w)(hp:kC w)(Z:11<=w.heap.size):
 Calls prog 35 #[.string (bs j)] w fun e l=>∃x n c,e=.returned (.tuple #[.slice x n c,.int .i64 T,.bool true])/\pB w.heap.size l (.slice x n c) h/\Below w.heap.size w l:=by
 obtain⟨K,tp,o,H,L⟩:=hE;have Y:=AD o H;have f:cE K [] T=some ⟨T,⟨[],tp,h⟩,1⟩:=L;have E:=Y.sta f;have N:T<=500:=E.1.time
 have aa:j.length<=2000:=by
  unfold cW at o;split at o
  ·cases o
  ·omega
 refine(KL w (bs j) T N (fun m W=>pB w.heap.size W (.slice m.x3 m.n3 m.c3) h/\Below w.heap.size w W)
  (fun t z W=>∃u G y C n s,Live u G W z y C K [] s n []/\s.time=t/\t<=T/\w.heap.size<=z/\Below w.heap.size w W)
  (fun z W=>∃u G y C n,Live u G W z y C K [] ⟨T,⟨[],tp,h⟩,1⟩ n []/\Below w.heap.size w W) ?_ (fun t z W hL=>?_) (fun z W hM=>?_)).mono ?_
 ·refine(DA (bs j) (.slice none 0 0) [] w hT hp (by rw[gA];omega) (av_ ⟨rfl,rfl⟩) (by simp) (fun J r d=>?_)).mono ?_
  ·rw[fS] at r d;exact AD r d
  ·rintro e l ⟨v,rfl,B,X⟩;rw[fS] at X;rcases X with ⟨_,J,u,G,z,y,D,rfl,M,P,q4,s,q5,q6⟩|⟨p,_⟩
   ·rw[o] at D;cases D;exact⟨z,rfl,u,G,y,_,1,s,⟨q5,q4,hp.below B,⟨by omega,by omega⟩,by omega,fun b B=>by cases B⟩,q6,by omega,M,B⟩
   ·rw[H] at p;exact absurd rfl p
 ·obtain⟨u,G,y,C,n,s,r,d,h3,V,h5⟩:=hL;refine(NE Y (by simp) r).mono ?_
  rintro e l ⟨b,rfl,U,Q,τ,D,M,P⟩;have A:Below w.heap.size w l:=Below.fs h5 P V fun k I=>(r.row I).1
  have a:=r.ses.now;rcases IR a M with ⟨rfl,S,F⟩|⟨rfl,rfl,F⟩
  ·refine av_ ⟨?_,rfl,u,U,y,C,Q,τ,D,by omega,?_,V,A⟩
   all_goals
    refine Nat.lt_of_le_of_ne h3 fun e=>?_
    rw[d,e,f] at a;cases a;exact absurd F (by simp)
  ·have ht:t=T:=by
    rcases a6_ t T with O|O
    ·obtain⟨x,h7,h8⟩:=WI f O;rw[<-d,a] at h7;cases h7;exact absurd h8 F
    ·omega
   subst ht;rw[d,f] at a;cases a;exact as_ ⟨rfl,rfl,u,U,y,C,Q,D,A⟩
 ·obtain⟨u,G,y,C,n,r,d⟩:=hM;refine(L4 r.ses rfl (by have:=E.2.2.1.out;simp only at this ⊢;omega)).mono ?_
  rintro e l ⟨m,rfl,B,e1,S,F,e4,ho⟩;refine⟨m,rfl,e1,S,F,fun q=>⟨?_,?_⟩⟩
  ·have p:pB w.heap.size l (.slice m.x3 m.n3 m.c3) h:=by
    obtain⟨x,c,a1,a2⟩:=ho;refine⟨x,c,a1,fun i hi=>?_⟩
    obtain⟨g,b1,b2,b3,b4⟩:=a2 i hi;exact⟨g,b1,b2,aF_ d.size b3,b4⟩
   refine p.keep (fun k _ I=>?_) ?_
   ·exact aA_ l (.cells m.cells 63) k I
   ·show l.heap.size<=(l.alloc (.cells m.cells 63)).heap.size
    simp
  ·have p:=(d.trans (B.mono d.size)).alloc (d.trans (B.mono d.size)).size (.cells m.cells 63);exact⟨p.os,p.tape,p.output,p.size,p.block⟩
 ·rintro e l ⟨m,rfl,r,d⟩;exact⟨_,_,_,rfl,r,d⟩
open Go.RowKit Go.Sort
def XN(x y a b:ByteArray)(w:World):
 Calls prog 160 #[.agg #[.string x,.string a],.agg #[.string y,.string b]] w fun e d=>e=.returned (.int .i64 (Lib.compareBytes x.data.toList y.data.toList))/\∃q c,d=grow (w.drewN q) c:=by
 go_enter Tryz.func160,Tryz.ntmps160;go_wp2_with fail;refine(Tryz.strings_Compare x y _).mono ?_;rintro e f ⟨rfl,rfl⟩;go_wp2_with fail;go_ret;refine⟨rfl,0,#[Obj.cells #[.string x,.string a] 120,Obj.cells #[.string y,.string b] 120],?_⟩;rw[alloc_eq_grow,alloc_eq_grow,grow_grow];rfl
def XE:∀a:List UInt8,Lib.compareBytes a a=0
 |[]=>rfl
 |a::l=>by rw[Lib.compareBytes,if_neg (UInt8.lt_irrefl a),if_neg (UInt8.lt_irrefl a)];exact XE l
def sA:∀a b:List UInt8,Lib.compareBytes b a= -Lib.compareBytes a b
 |[],[]=>rfl
 |[],_::_=>rfl
 |_::_,[]=>rfl
 |a::l,b::m=>by
  rw[Lib.compareBytes,Lib.compareBytes];by_cases c:a<b
  ·rw[if_pos c,if_neg (UInt8.lt_asymm c),if_pos c];rfl
  ·by_cases d:b<a
   ·rw[if_pos d,if_neg c,if_pos d]
   ·rw[if_neg c,if_neg d,if_neg c,if_neg d];exact sA l m
def RG:∀a b:List UInt8,Lib.compareBytes a b=0->a=b
 |[],[],_=>rfl
 |[],_::_,h=>by simp[Lib.compareBytes] at h
 |_::_,[],h=>by simp[Lib.compareBytes] at h
 |a::l,b::m,h=>by
  rw[Lib.compareBytes] at h;by_cases c:a<b
  ·rw[if_pos c] at h;cases h
  ·by_cases d:b<a
   ·rw[if_neg c,if_pos d] at h;cases h
   ·rw[if_neg c,if_neg d] at h;obtain rfl:a=b:=b3_ (bQ_.1 d) (bQ_.1 c);rw[RG l m h]
def vI:∀a b c:List UInt8,Lib.compareBytes a b<0->Lib.compareBytes b c<0->Lib.compareBytes a c<0
 |[],[],_,h,_=>by simp[Lib.compareBytes] at h
 |_::_,[],_,h,_=>by simp[Lib.compareBytes] at h
 |_,_::_,[],_,h=>by simp[Lib.compareBytes] at h
 |[],_::_,_::_,_,_=>by simp[Lib.compareBytes]
 |a::l,b::m,c::n,h,k=>by
  rw[Lib.compareBytes] at h k ⊢
  by_cases f:a<b
  ·by_cases d:b<c
   ·rw[if_pos (UInt8.lt_trans f d)];decide
   ·rw[if_neg d] at k;by_cases e:c<b
    ·rw[if_pos e] at k;omega
    ·obtain rfl:b=c:=b3_ (bQ_.1 e) (bQ_.1 d);rw[if_pos f];decide
  ·rw[if_neg f] at h;by_cases d:b<a
   ·rw[if_pos d] at h;omega
   ·obtain rfl:a=b:=b3_ (bQ_.1 d) (bQ_.1 f);rw[if_neg d] at h;by_cases e:a<c
    ·rw[if_pos e];decide
    ·rw[if_neg e] at k ⊢
     by_cases g:c<a
     ·rw[if_pos g] at k;omega
     ·rw[if_neg g] at k ⊢
      exact vI l m n h k
def X0:SWO (fun x y:List UInt8=>decide (Lib.compareBytes x y<0)):=by
 refine⟨fun x=>by simp[XE],fun x y z h k=>?_,fun x y z h k=>?_⟩
 ·simp only[decide_eq_true_eq] at h k ⊢
  exact vI x y z h k
 ·simp only[decide_eq_false_iff_not] at h k ⊢
  intro a;by_cases e:Lib.compareBytes x y=0
  ·rw[RG x y e] at a;exact k a
  ·have b:Lib.compareBytes y x<0:=by rw[sA x y];omega
   exact k (vI y x z b a)
def TW(x y:List UInt8)(h:decide (Lib.compareBytes x y<0)=false)(k:decide (Lib.compareBytes y x<0)=false):x=y:=by
 simp only[decide_eq_false_iff_not] at h k;rw[sA x y] at k;exact RG x y (by omega)
def kY(l:List (Value × Value)):List Value:=l.flatMap fun p=>[p.1,p.2]
def yI(l:List (Value × Value))(p:Value × Value):kY (l++[p])=kY l++[p.1,p.2]:=by simp[kY]
def kV(l:List (List UInt8 × Nat)):List (Value × Value):=l.map fun p=>(Value.string (bs p.1),Value.int .i64 p.2)
def Y2:(prog.info? 118).map (fun i=>(i.zero,i.size,i.bytes))=some (some (.agg #[.string ⟨#[]⟩,.int .i64 0]),2,24):=by kernel_rfl
def L9(w:World)(a b:Value):∀j u,([a,b]:List Value)[j]?=some u->(w.alloc (.cells #[a,b] 118)).cell? ((⟨w.heap.size,0,none⟩:Addr).add j)=some u:=by
 intro j u c;exact World.news_of_block (cs:= #[a,b]) (aM _ _ rfl _) j u c
def U8(x:ByteArray)(n:Int):∀u∈([.string x,.int .i64 n]:List Value),u.oneCell'=true:=by
 intro u a;simp at a;rcases a with rfl|rfl<;>rfl
def SO(w:World)(s:SV)(gf:Nat)(l:List (List UInt8 × Nat))(hx:s.x1=some ⟨gf,0,none⟩)(hn:s.n1=l.length)(hl:l.length<=16)
 (P:Hid (∀W,Below w.heap.size w W->∀j (h:j<l.length),gf<W.heap.size/\∃n I H F C B E G D,W.cell? ⟨gf,j*6,none⟩=some (.pointer (some ⟨n,0,none⟩))/\W.cell? ⟨gf,j*6+1,none⟩=some (.int .i64 I)/\W.cell? ⟨gf,j*6+2,none⟩=some (.int .i64 (l[j].2:Nat))/\W.cell? ⟨gf,j*6+3,none⟩=some (.pointer H)/\W.cell? ⟨gf,j*6+4,none⟩=some (.slice F C B)/\W.cell? ⟨gf,j*6+5,none⟩=some (.slice E G D)/\W.cell? ⟨n,0,none⟩=some (.string (bs l[j].1))/\n<w.heap.size)):
 Calls prog 107 #[s.val] w fun e Y=>∃x c,e=.returned (.slice x l.length c)/\Y.ownsRow w.heap.size 118 2 (.slice x l.length c) l.length (kY (kV l))/\Below w.heap.size w Y:=by
 obtain⟨i0,hi,T,Q,M⟩:=info_parts Y2;obtain⟨t,x1,x2,x3,n1,n2,n3,c1,c2,c3,q⟩:=s;subst hx hn;unfold SV.val;go_enter Tryz.func107,Tryz.ntmps107;go_wp2_with fail;go_loopg [3,9] l.length (fun gk v i wr=>∃j:Nat,j+gk=l.length/\i=.int .i64 j/\(∃y d,v=.slice y j d)/\wr.ownsRow w.heap.size 118 2 v j (kY (kV (l.take j)))/\Below w.heap.size w wr)
 case atStart=>exact⟨0,by omega,rfl,⟨none,0,rfl⟩,World.ownsRow_nil _ _ _ _,(ay_ _ _).alloc (au_ _) _⟩
 case round=>
  obtain⟨j,hj,rfl,⟨y,d,rfl⟩,b,a⟩:=hrel;by_cases z:j<l.length
  ·obtain⟨m,rfl⟩:∃m,gk=m+1:=⟨gk-1,by omega⟩
   obtain⟨k0,n,I,H,F,C,B,E,G,D,k1,k2,k3,k4,k5,k6,U,k8⟩:=P.out wr a j z;have S:=a.size;have J:=aB b;have K:=aB a;clear b a;have e1:(0:Int)<=(j:Int):=by omega
   have e2:(j:Int)<(l.length:Int):=by omega
   go_wp2_with fail;generalize f:wr.alloc (.cells #[.pointer (some ⟨n,0,none⟩),.int .i64 I,.int .i64 (l[j].2:Nat),.pointer H,.slice F C B,.slice E G D] 195)=o;have r:o.heap[wr.heap.size]?=some (.cells #[.pointer (some ⟨n,0,none⟩),.int .i64 I,.int .i64 (l[j].2:Nat),.pointer H,.slice F C B,.slice E G D] 195 (0,0)):=by rw[<-f];exact aM _ _ rfl _
   have Z:wr.heap.size<o.heap.size:=by rw[<-f];simp
   have a0:=aA (i:=0) r rfl;have a2:=aA (i:=2) r rfl;have a7:o.cell? ⟨n,0,none⟩=some (.string (bs l[j].1)):=by rw[<-f];exact(World.cell?_of_block (aA_ wr _ n (by omega))).trans U
   have A:Hid (o.drew.ownsRow w.heap.size 118 2 (.slice y j d) j (kY (kV (l.take j)))):=aB (by rw[<-f];exact J.out.alloc _)
   have L:Hid (Below w.heap.size w o):=aB (by rw[<-f];exact K.out.alloc S _)
   have u:kV (l.take (j+1))=kV (l.take j)++[(.string (bs l[j].1),.int .i64 (l[j].2:Nat))]:=by
    rw[aT_ z];simp only[kV,a7_,aM_,a8_]
   have O:=aB u;clear r k1 k2 k3 k4 k5 k6 U k0 f J K u P;generalize l[j].1=nm at*;generalize l[j].2=ln at*;go_region_law (refine step_append_lies _ (by rfl) _ _ 58 (by rfl) w.heap.size 118 i0 _ 2 24 Tryz.underlying58 hi T Q M rfl (by decide) (.slice y j d) j _ (by rfl) (A.out.alloc _) ⟨o.heap.size,0,none⟩ 1 1 [.string (bs nm),.int .i64 (ln:Nat)] (by rfl) (by rfl) (L9 o.drew _ _) (U8 _ _) (by decide) (by unfold maxLen;omega) (by omega) (by simp;omega) (o.heap.size+1) (by simp) ?_;intro g5 V w5 p g X aa)
   all_goals
    go_wp2_with fail;go_roundg m
    case measure=>omega
    case rel=>
     refine⟨j+1,by omega,by go_num,⟨_,_,rfl⟩,by rw[O.out,yI];exact p,?_⟩
     exact(L.out.drew.alloc (by simp;omega) _).grown g (by simp;omega) fun k hk=>(A.out.lt k hk).1
  ·have N:j=l.length:=by omega
   subst N;rw[a0_ (au_ _)] at b;have J:=aB b;have K:=aB a;clear b a P;go_wp2_with fail;go_ret;exact⟨_,_,rfl,J.out,K.out⟩
def YI(w:World)(s:SV)(gf n:Nat)(b:Option Addr)(g:s.x1=some ⟨gf,0,none⟩)(d:s.n1=n+1)(a:n<=1000)(l:w.cell? ⟨gf,n*6+3,none⟩=some (.pointer b))(c:gf<w.heap.size):
 Calls prog 156 #[s.val] w fun e h=>e=.returned (.pointer b)/\Below w.heap.size w h:=by
 obtain⟨t,z,m,j,B,i,k,f,v,x,q⟩:=s;simp only at g d;subst g d;unfold SV.val;have y:(((n+1:Nat):Int)==0)=false:=by simp;omega
 have r:=aB fun (W:World) u=>uF w.heap.size gf n f W u a
 go_enter Tryz.func156,Tryz.ntmps156;go_wp2_with fail;refine(r.out _ ?_).mono ?_
 ·simp[go_sem]
 rintro e A ⟨rfl,o,rfl⟩
 have p:((w.alloc (.cells #[.int .i64 t,.slice (some ⟨gf,0,none⟩) (n+1) f,.slice m i v,.slice j k x,.int .i64 q] 108)).drewN o).cell? ⟨gf,n*6+3,none⟩=some (.pointer b):=by
  show (w.alloc _).cell? _=_
  rw[World.cell?_of_block (aA_ _ _ _ c)];exact l
 go_wp2_with fail;go_ret;refine⟨rfl,((ay_ w.heap.size w).alloc (au_ _) _).trans ⟨rfl,rfl,rfl,au_ _,fun _ _=>rfl⟩⟩
def lD(val:List UInt8->List UInt8)(l:List (List UInt8)):List (Value × Value):=l.map fun x=>(Value.string (bs x),Value.string (bs (val x)))
def X9:(prog.info? 120).map (fun i=>(i.zero,i.size,i.bytes))=some (some (.agg #[.string ⟨#[]⟩,.string ⟨#[]⟩]),2,32):=by kernel_rfl
def L6(w:World)(a b:Value):∀j u,([a,b]:List Value)[j]?=some u->(w.alloc (.cells #[a,b] 120)).cell? ((⟨w.heap.size,0,none⟩:Addr).add j)=some u:=by
 intro j u c;exact World.news_of_block (cs:= #[a,b]) (aM _ _ rfl _) j u c
def U6(x y:ByteArray):∀u∈([.string x,.string y]:List Value),u.oneCell'=true:=by
 intro u a;simp at a;rcases a with rfl|rfl<;>rfl
def XM(w B:World)(F:Nat->Prop)(s:SV)(gf n:Nat)(p0:Option Addr)(seen:List (List UInt8))(j:List UInt8->List UInt8)(S:Option Addr->Nat->World->Prop)
 (hx:s.x1=some ⟨gf,0,none⟩) (hn:s.n1=n+1) (ao:n<=1000) (u:w.alloc (.cells s.cells 108)=B) (hF:∀b,F b->b<w.heap.size) (hs:eE F w (.pointer p0) seen) (hl:seen.length<=90001)
 (HS:Hid (Calls prog 156 #[s.val] B fun e G=>e=.returned (.pointer p0)/\Below B.heap.size B G))
 (HV:Hid (∀W a x l,Below B.heap.size B W->seen=a++x::l->∃g4 n4 c4 t z,W.cell? ⟨gf,n*6+4,none⟩=some (.slice (some ⟨g4,0,none⟩) n4 c4)/\gf<W.heap.size/\l.length<n4/\W.cell? ⟨g4,l.length,none⟩=some (.iface t z)/\g4<W.heap.size/\Calls prog 157 #[.iface t z] W fun e G=>e=.returned (.string (bs (j x)))/\Below W.heap.size W G))
 (HO:Hid (∀W y d,W.ownsRow B.heap.size 120 2 (.slice y seen.length d) seen.length (kY (lD j seen))->Below B.heap.size B W->Calls prog 159 #[.slice y seen.length d,.func (.func 160) #[] #[]] W fun e G=>e=.returned (.tuple #[])/\S y d G)):
 Calls prog 108 #[s.val] w fun e G=>∃y d,e=.returned (.slice y seen.length d)/\S y d G:=by
 obtain⟨i0,hi,ap,al,ae⟩:=info_parts X9;obtain⟨t,x1,x2,x3,n1,n2,n3,c1,c2,c3,q⟩:=s;simp only at hx hn;subst hx hn;unfold SV.cells at u;unfold SV.val at HS;unfold SV.val;have A:B.heap[w.heap.size]?=some (.cells #[.int .i64 t,.slice (some ⟨gf,0,none⟩) (n+1) c1,.slice x2 n2 c2,.slice x3 n3 c3,.int .i64 q] 108 (0,0)):=by rw[<-u];exact aM _ _ rfl _
 have ay:B.heap.size=w.heap.size+1:=by rw[<-u];simp
 have Y:Below w.heap.size w B:=by rw[<-u];exact(ay_ _ w).alloc (au_ _) _
 have HW:=aB u;have aa:=aB hs;have HF:=aB hF;have ak:=aB Y;have ac:=aB A;have c0:=aA (i:=0) A rfl;have an:=aA (i:=1) A rfl;have au:=aA (i:=2) A rfl;have aq:=aA (i:=3) A rfl;have P:=aA (i:=4) A rfl;clear u hs hF Y A;go_enter Tryz.func108,Tryz.ntmps108;go_wp2_with fail;rw[HW.out];go_wp2_with fail;refine HS.out.mono ?_;rintro e w1 ⟨rfl,X⟩;have ab:=aB X;clear X HS c0 an au aq P;go_wp2_with fail;go_loopg [3,4] seen.length (fun gk v p wr=>∃a r,seen=a++r/\r.length=gk/\eE F w p r/\(∃y d,v=.slice y a.length d)/\wr.ownsRow B.heap.size 120 2 v a.length (kY (lD j a))/\Below B.heap.size B wr)
 case atStart=>exact⟨[],seen,rfl,rfl,aa.out,⟨none,0,rfl⟩,World.ownsRow_nil _ _ _ _,ab.out⟩
 case round=>
  obtain⟨a,r,N,U,L,⟨y,d,rfl⟩,E,f⟩:=hrel;cases r with
  |nil=>
   rw[bY_] at N;subst N;have ag:_=Value.pointer none:=L;subst ag;have HX:=aB (HO.out wr y d E f);clear E f HO HV L;go_wp2_with fail;refine HX.out.mono ?_;rintro e w2 ⟨rfl,h2⟩;have H2:=aB h2;clear h2;go_wp2_with fail;go_ret;exact⟨_,_,rfl,H2.out⟩
  |cons x l=>
   obtain⟨b,o,rfl,ah,T,M⟩:=L;obtain⟨po,rfl⟩:=M.form;obtain⟨m,rfl⟩:∃m,gk=m+1:=⟨gk-1,by simp at U;omega⟩
   obtain⟨g4,n4,c4,ty,z,v1,v2,v3,v4,v5,ad⟩:=HV.out wr a x l f N;have Z:=HF.out b ah;have C:wr.heap[b]?=some (.cells #[.string (bs x),.int .i64 l.length,.pointer po] 253 (0,0)):=by rw[f.block b (by omega),ak.out.block b Z];exact T
   have k0:=aA (i:=0) C rfl;have k1:=aA (i:=1) C rfl;have k2:=aA (i:=2) C rfl;have aw:=aD C;have V:wr.heap[w.heap.size]?=_:=(f.block _ (by omega)).trans ac.out
   have kb:=aA (i:=1) V rfl;have am:=f.size;have ba:a.length<=90001:=by have:=congrArg List.length N;simp at this;omega
   have ai:=aB E;have HB:=aB f;clear E f T C V;have e1:(0:Int)<=(l.length:Int):=by omega
   have e2:(l.length:Int)<(n4:Int):=by omega
   have HT:Hid (∀W,aQ wr W->Calls prog 158 #[.pointer (some ⟨w.heap.size,0,none⟩)] W fun e G=>e=.returned (.pointer (some ⟨gf,n*6,none⟩))/\aQ wr G):=aB fun W u=>(uF w.heap.size gf n c1 W (bB u.heap kb) ao).mono fun e G ⟨he,q,hq⟩=>⟨he,by rw[hq];exact u.trans (aQ.drewN _ _)⟩
   have HR:Hid (∀W,aQ wr W->Calls prog 157 #[.iface ty z] W fun e G=>e=.returned (.string (bs (j x)))/\Below wr.heap.size wr G):=aB fun W u=>by
    have av:Below B.heap.size B W:=HB.out.trans ⟨u.os,u.tape,u.output,by rw[u.heap];exact au_ _,fun k _=>by rw[u.heap]⟩
    obtain⟨bc,be,P,bd,z',r1,r2,r3,r4,r5,r6⟩:=HV.out W a x l av N;rw[bB u.heap v1] at r1;cases r1;rw[bB u.heap v4] at r4;cases r4;refine r6.mono fun e G ⟨he,hb⟩=>⟨he,?_⟩
    exact Below.trans (b:=W) ⟨u.os,u.tape,u.output,by rw[u.heap];exact au_ _,fun k _=>by rw[u.heap]⟩ (by rw[<-u.heap];exact hb)
   have K0:=aB k0;have K1:=aB k1;have K2:=aB k2;have V1:=aB v1;have V4:=aB v4;clear ad HV HO kb v2 v5
   have af:Hid (∀(W:World) (g c:Nat),W.ownsRow B.heap.size 120 2 (.slice (some ⟨g,0,none⟩) (a.length+1) c) (a.length+1) (kY (lD j a)++[.string (bs x),.string (bs (j x))])->W.ownsRow B.heap.size 120 2 (.slice (some ⟨g,0,none⟩) (a.length+1) c) (a++[x]).length (kY (lD j (a++[x])))):=aB fun W g c h=>by
    have e:lD j (a++[x])=lD j a++[(.string (bs x),.string (bs (j x)))]:=by simp[lD]
    rw[e,yI,aw_];exact h
   generalize j x=tx at*;go_wp2_with fail;go_region_law (first|(refine step_append_lies _ (by rfl) _ _ 59 (by rfl) B.heap.size 120 i0 _ 2 32 Tryz.underlying59 hi ap al ae rfl (by decide) (.slice y a.length d) a.length _ (by rfl) (O.out.alloc _) ⟨w2.heap.size,0,none⟩ 1 1 [.string (bs x),.string (bs tx)] (by rfl) (by rfl) (L6 w2 _ _) (U6 _ _) (by decide) (by unfold maxLen;omega) (by omega) (by simp;omega) (w2.heap.size+1) (by simp) ?_;intro g5 Q w5 I D ax bb)|(go_simp;first|(go_at_call 158;refine(HT.out _ (aQ.drew _)).mono ?_;rintro e w1 ⟨rfl,H⟩;have d0:=bB H.heap K0.out;have d1:=bB H.heap K1.out;have d2:=bB H.heap V1.out;have d3:=bB H.heap V4.out)|(go_at_call 157;refine(HR.out _ H).mono ?_;rintro e w2 ⟨rfl,J⟩;have d4:=(World.cell?_of_block (J.block b aw)).trans K0.out;have az:=J.size;have O:=aB (gS ai.out J))))
   all_goals
    have K:Below B.heap.size B w5:=((HB.out.trans (J.mono am)).alloc (by omega) _).grown D (by simp;omega) fun k hk=>(O.out.lt k hk).1
    have k5:w5.cell? ⟨b,2,none⟩=some (.pointer po):=(World.cell?_of_block ((K.block b (by omega)).trans (HB.out.block b (by omega)).symm)).trans K2.out
    have H5:=aB K;have aj:=aB I;have ar:=aB M;clear K I D M J;go_wp2_with fail;go_roundg m
    case measure=>omega
    case rel=>exact⟨a++[x],l,by rw[N];simp,by simp at U;omega,ar.out,⟨some ⟨g5,0,none⟩,Q,by simp⟩,af.out _ _ _ aj.out,H5.out⟩
def fU(base:Nat)(w:World)(v:Value)(l:List (Value × Value)):Prop:=∃x c,v=.slice x l.length c/\∀i (h:i<l.length),∃g,x=some ⟨g,0,none⟩/\w.cell? ⟨g,i*2,none⟩=some l[i].1/\w.cell? ⟨g,i*2+1,none⟩=some l[i].2/\base<=g/\g<w.heap.size
def fU.keep{base:Nat}{w w':World}{v:Value}{l:List (Value × Value)}(h:fU base w v l)(d:∀k,base<=k->k<w.heap.size->w'.heap[k]?=w.heap[k]?)(n:w.heap.size<=w'.heap.size):fU base w' v l:=by
 obtain⟨x,c,o,f⟩:=h;refine⟨x,c,o,fun i j=>?_⟩
 obtain⟨g,e,m,p,a,b⟩:=f i j;exact⟨g,e,by rw[World.cell?_of_block (d g a b)];exact m,by rw[World.cell?_of_block (d g a b)];exact p,a,az_ b n⟩
def oY:∀(l:List (Value × Value)) (i:Nat) (h:i<l.length),(kY l)[i*2]?=some l[i].1/\(kY l)[i*2+1]?=some l[i].2
 |[],_,h=>by simp at h
 |p::l,0,_=>⟨rfl,rfl⟩
 |p::l,i+1,h=>by
  have:=oY l i (by simpa using h)
  rw[show (i+1)*2=i*2+1+1 by omega]
  exact this
def ZA{w:World}{base:Nat}{T:TypeId}{x:Option Addr}{c:Nat}{l:List (Value × Value)}(h:w.ownsRow base T 2 (.slice x l.length c) l.length (kY l)):fU base w (.slice x l.length c) l:=by
 refine⟨x,c,rfl,fun i a=>?_⟩
 rcases h.2 with ⟨d,f⟩|⟨g,m,j,d,f,k,n⟩
 ·omega
 ·cases d;have b:=h.cells (g:=g) rfl (i*2) _ (oY l i a).1;have e:=h.cells (g:=g) rfl (i*2+1) _ (oY l i a).2;rw[nQ] at b e;exact⟨g,rfl,b,e,f,aD k⟩
def gB(l:List (List UInt8)):List (List UInt8):=l.mergeSort fun x y=> !decide (Lib.compareBytes y x<0)
def lJ(l:List (List UInt8)):(gB l).length=l.length:=by simp[gB]
def qY(val:List UInt8->List UInt8)(x:List UInt8):List Value:=[.string (bs x),.string (bs (val x))]
def KC(W:World)(base:Nat)(y:Option Addr)(d:Nat)(seen:List (List UInt8))(a:List UInt8->List UInt8)(h:W.ownsRow base 120 2 (.slice y seen.length d) seen.length (kY (lD a seen)))(N:seen.length<=90001):
 Calls prog 159 #[.slice y seen.length d,.func (.func 160) #[] #[]] W fun e r=>e=.returned (.tuple #[])/\fU base r (.slice y seen.length d) (lD a (gB seen))/\Below base W r:=by
 have A:(lD a seen).length=seen.length:=by simp[lD]
 have b:(lD a (gB seen)).length=seen.length:=by simp[lD,lJ]
 rcases h.2 with ⟨F,D⟩|⟨g,M,L,F,D,t,Q⟩
 ·have e:seen=[]:=aN_ D;subst e;refine(AnyF.slices_SortFunc_none (P:=prog) (ρ:=Tryz.sortL_ren) { Tryz.sortL with } y d (.func (.func 160) #[] #[]) W).mono ?_
  rintro e r ⟨rfl,rfl⟩;exact⟨rfl,⟨y,d,by rw[b],fun i f=>by rw[b] at f;simp at f⟩,ay_ _ _⟩
 ·cases F
  have J:HoldsK (qY a) 2 W g 0 seen.toArray:=fun j E=>by
   rw[size_flatK,List.size_toArray] at E;refine⟨?_,aE t⟩;rw[get_flatK _ _ _ _ (by simpa using E)]
   have f:j/2<(lD a seen).length:=by rw[A];omega
   obtain⟨s,u⟩:=oY (lD a seen) (j/2) f;have C:seen.toArray[j/2]! =seen[j/2]'(by omega):=by simp[getElem!_pos,show j/2<seen.length by omega]
   rw[C];rcases Nat.mod_two_eq_zero_or_one j with l|l
   ·have:=h.cells (g:=g) rfl j _ (by rw[show j=j/2*2 by omega];exact s)
    rw[nQ] at this;rw[l,bk_,this];simp[lD,qY]
   ·have:=h.cells (g:=g) rfl j _ (by rw[show j=j/2*2+1 by omega];exact u)
    rw[nQ] at this;rw[l,bk_,this];simp[lD,qY]
  have B:seen.length=seen.toArray.size:=by simp
  have G:=AnyQ.slices_SortFunc_total (P:=prog) (ρ:=Tryz.sortL_ren) { Tryz.sortL with } 2 Tryz.isAgg120 Tryz.sizeOf120 (qY a) (fun _=>rfl) (fun x v H=>by simp[qY] at H;rcases H with rfl|rfl<;>rfl) (fun x y=>Lib.compareBytes x y) X0 160 #[] g 0 d seen.toArray W
   (enters_of Tryz.func160 (by kernel_rfl) rfl) (fun m o K _ x y=>by
     have:=XN (bs x) (bs y) (bs (a x)) (bs (a y)) (sortWorldK (qY a) 2 W g 0 m K o);rw[fS,fS] at this;exact this) J (aD t) (by simp;omega) TW
  rw[<-B] at G;refine G.mono ?_;rintro e r ⟨rfl,n,o,rfl⟩;have I:HoldsK (qY a) 2 (putRowK (qY a) 2 (Go.Sort.ahead W n) g 0 (gB seen).toArray) g 0 (gB seen).toArray:=holdsK_putRowK (qY a) 2 (Go.Sort.ahead W n) g 0 seen.toArray _ J (by simp[lJ])
  have p:g<(putRowK (qY a) 2 (Go.Sort.ahead W n) g 0 (gB seen).toArray).heap.size:=by rw[size_putRowK];exact aD t
  refine⟨rfl,⟨some ⟨g,0,none⟩,d,by rw[b],fun i f=>?_⟩,?_⟩
  ·rw[b] at f;have q:i<(gB seen).toArray.size:=by simp[lJ,f]
   have C:(gB seen).toArray[i]! =(gB seen)[i]'(by rw[lJ];exact f):=by simp[getElem!_pos,lJ,f]
   have s:=I.cell (i:=i) (c:=0) q (by omega)
   have u:=I.cell (i:=i) (c:=1) q (by omega)
   rw[C] at s u;refine⟨g,rfl,?_,?_,D,?_⟩
   ·show (grow (putRowK (qY a) 2 (Go.Sort.ahead W n) g 0 (gB seen).toArray) o).cell? ⟨g,i*2,none⟩=_
    rw[cell?_grow _ _ ⟨g,i*2,none⟩ p];simpa [lD,qY] using s.1
   ·show (grow (putRowK (qY a) 2 (Go.Sort.ahead W n) g 0 (gB seen).toArray) o).cell? ⟨g,i*2+1,none⟩=_
    rw[cell?_grow _ _ ⟨g,i*2+1,none⟩ p];simpa [lD,qY] using u.1
   ·show g<(grow (putRowK (qY a) 2 (Go.Sort.ahead W n) g 0 (gB seen).toArray) o).heap.size
    rw[size_grow];omega
  ·refine⟨rfl,rfl,rfl,?_,fun k O=>?_⟩
   ·show W.heap.size<=(grow (putRowK (qY a) 2 (Go.Sort.ahead W n) g 0 (gB seen).toArray) o).heap.size
    rw[size_grow,size_putRowK];exact Nat.le_add_right _ _
   ·show (grow (putRowK (qY a) 2 (Go.Sort.ahead W n) g 0 (gB seen).toArray) o).heap[k]?=W.heap[k]?
    have z:k≠g:=by omega
    have w:k<W.heap.size:=by have:=aD t;omega
    rw[heap_grow_old _ _ (by rw[size_putRowK];exact w)]
    simp only[putRowK,putRow,mapBlock,Array.getElem?_modify];rw[if_neg (Ne.symm z)];rfl
def EE.cells{F:Nat->Prop}{w:World}{x:Option Addr}{n c:Nat}{a:List FVal}(h:EE F w (.slice x n c) a)(i:Nat)(d:i<a.length):∃g,x=some ⟨g,0,none⟩/\n=a.length/\F g/\∀j u,j<6->a[i].cells[j]?=some u->w.cell? ⟨g,i*6+j,none⟩=some u:=by
 rcases h with ⟨rfl,_⟩|⟨g,s,o,r,m,q,t,k⟩
 ·simp at d
 ·cases r;refine⟨g,rfl,rfl,m,fun j u f p=>?_⟩
  refine aA q ?_;have e:a=a.take i++a[i]::a.drop (i+1):=by rw[<-bL_ d,a5_]
  have l:(a.take i).length=i:=by rw[bc_];omega
  have b:=PU (a.take i) (a.drop (i+1)) a[i] j f;rw[<-e,l,p,<-k,List.getElem?_take_of_lt (by omega),Array.getElem?_toList] at b
  exact b
def PVs.sl{F:Nat->Prop}{w:World}{v:Value}{l:List aJ}(h:PVs F w v l):∃x n c,v=.slice x n c:=by
 rcases h with ⟨_,e⟩|⟨g,b,a,e,_⟩<;>exact⟨_,_,_,e⟩
section
variable {fp:Nat->Value} {F:Nat->Prop} {w:World} {s1:SV} {s:bI}
def kR.parts(h:kR fp F w s1.val s):∃a,EE F w (.slice s1.x1 s1.n1 s1.c1) a/\uC fp F w a s.m.frames/\EC F w (.slice s1.x3 s1.n3 s1.c3) s.m.out:=by
 obtain⟨f,i,j,a,b,c,e,g,d⟩:=h;simp only[SV.val,Value.agg.injEq] at b;simp at b;rw[b.2.1,b.2.2.2.1];exact⟨a,c,e,d⟩
def kR.none(h:kR fp F w s1.val s)(j:s.m.frames=[]):s1.n1=0:=by
 obtain⟨a,f,d,_⟩:=h.parts;have b:=d.length;rw[j] at b;have:a=[]:=aN_ b;subst this;rcases f with ⟨_,x,c,e⟩|⟨g,c,i,e,_⟩
 ·simp at e;exact e.2.1
 ·simp at e;exact e.2.1
def kR.frame(h:kR fp F w s1.val s)(i:Nat)(b:i<s.m.frames.length):∃g v,s1.x1=some ⟨g,0,Option.none⟩/\s1.n1=s.m.frames.length/\F g/\s9 fp F w v s.m.frames[i]/\∀j u,j<6->v.cells[j]?=some u->w.cell? ⟨g,i*6+j,Option.none⟩=some u:=by
 obtain⟨c,e,a,_⟩:=h.parts;have l:=a.length;obtain⟨g,f,m,k,d⟩:=e.cells i (by omega)
 exact⟨g,_,f,by omega,k,a.get i _ _ (aH_ (by omega)) (aH_ b),d⟩
def YB(h:kR fp F w s1.val s)(r:∀b,F b->b<w.heap.size)(X:s.m.frames.length<=16):
 Calls prog 107 #[s1.val] w fun e l=>∃x n c,e=.returned (.slice x n c)/\fU w.heap.size l (.slice x n c) (kV (bV s.m.frames))/\Below w.heap.size w l:=by
 have a:(bV s.m.frames).length=s.m.frames.length:=by simp[bV]
 have u:(kV (bV s.m.frames)).length=(bV s.m.frames).length:=by simp[kV]
 by_cases q:s.m.frames=[]
 ·refine(BO w s1 (h.none q)).mono ?_;rintro e l ⟨rfl,k⟩;exact⟨Option.none,0,0,rfl,⟨Option.none,0,by rw[q];rfl,fun i A=>by rw[q] at A;simp[kV,bV] at A⟩,k⟩
 ·have m:0<s.m.frames.length:=bl_.2 q;obtain⟨T,v,C,L,Z,_,_⟩:=h.frame 0 m;refine(SO w s1 T (bV s.m.frames) C (by rw[a];exact L) (by rw[a];exact X) fun W B j o=>?_).mono ?_
  ·rw[a] at o;have t:=h.keep (w':=W) (fun b k=>B.block b (r b k)) fun _ h=>h
   obtain⟨g,v,z,a2,V,d,f⟩:=t.frame j o;rw[C] at z;cases z;obtain⟨G,gc,Y,M,E,N,D,_⟩:=d.fn;obtain⟨p,I⟩:=eE.form d.sp;obtain⟨J,K,H,O⟩:=PVs.sl d.vars;obtain⟨U,Q,P,S⟩:=PVs.sl d.ops;refine⟨az_ (r _ V) B.size,G,s.m.frames[j].next,p,J,K,H,U,Q,P,f 0 _ (by omega) ?_,f 1 _ (by omega) ?_,f 2 _ (by omega) ?_,f 3 _ (by omega) ?_,f 4 _ (by omega) ?_,f 5 _ (by omega) ?_,?_,r _ N⟩
   ·rw[<-E];rfl
   ·rw[<-d.nx];rfl
   ·rw[show ((bV s.m.frames)[j]'(by rw[a];exact o)).2=s.m.frames[j].line by simp[bV],<-d.ln];rfl
   ·rw[<-I];rfl
   ·rw[<-O];rfl
   ·rw[<-S];rfl
   ·rw[show ((bV s.m.frames)[j]'(by rw[a];exact o)).1=s.m.frames[j].fn.name by simp[bV]]
    exact aA D rfl
  ·rintro e l ⟨x,c,rfl,y,k⟩;refine⟨x,_,c,rfl,?_,k⟩;rw[<-u] at y ⊢
   exact ZA y
noncomputable def JH(f:aI)(x:List UInt8):List UInt8:=cB (f.vars[dK f.seen x]?.getD bN)
noncomputable def pE(s:bI):List (Value × Value):=match s.m.frames.getLast? with
 |Option.none=>[]
 |some f=>lD (JH f) (gB f.seen)
def I8{a l:List (List UInt8)}{x:List UInt8}(h:(a++x::l).Nodup):dK (a++x::l) x=l.length:=by
 induction a with
 |nil=>simp[dK]
 |cons y a b=>
  rw[aY_,aK_] at h;rw[aY_,dK,if_neg fun e=>h.1 (by rw[e];simp)]
  exact b h.2
def G3(h:kR fp F w s1.val s)(A:∀b,F b->b<w.heap.size)(hd:s.m.frames.length<=16)(hp:kC w)(K:jW s.m)(ht:∀x∈s.m.frames,x.seen.length<=x.vars.length):
 Calls prog 108 #[s1.val] w fun e D=>∃x n c,e=.returned (.slice x n c)/\fU w.heap.size D (.slice x n c) (pE s)/\Below w.heap.size w D:=by
 by_cases I:s.m.frames=[]
 ·refine(GR w s1 (h.none I)).mono ?_;rintro e D ⟨rfl,E⟩;refine⟨Option.none,0,0,rfl,?_,E⟩;unfold pE;rw[I];exact⟨Option.none,0,rfl,fun i J=>by simp at J⟩
 ·obtain⟨n,hn⟩:∃n,s.m.frames.length=n+1:=⟨s.m.frames.length-1,by have:=bl_.2 I;omega⟩
  have q:s.m.frames.getLast?=some (s.m.frames[n]'(by omega)):=by
   rw[List.getLast?_eq_getElem?,show s.m.frames.length-1=n by omega];exact aH_ _
  obtain⟨O,v,S,e2,L,U,a5⟩:=h.frame n (by omega)
  have m:s.m.frames[n]'(by omega)∈s.m.frames:=aR_ _
  obtain⟨⟨N,k⟩,_⟩:=K _ m;have aa:=ht _ m;obtain⟨p,X⟩:=eE.form U.sp;have T:pE s=lD (JH (s.m.frames[n]'(by omega))) (gB (s.m.frames[n]'(by omega)).seen):=by unfold pE;rw[q]
  rw[T];have M:∀W,Below w.heap.size w W->kR fp F W s1.val s:=fun W G=>h.keep (fun b E=>G.block b (A b E)) fun _ h=>h
  generalize B:w.alloc (.cells s1.cells 108)=j;have a:Below w.heap.size w j:=by rw[<-B];exact(ay_ _ w).alloc (au_ _) _
  have r:w.heap.size<=j.heap.size:=a.size;refine(XM w j F s1 O n p (s.m.frames[n]'(by omega)).seen (JH (s.m.frames[n]'(by omega))) (fun y d W=>fU j.heap.size W (.slice y (s.m.frames[n]'(by omega)).seen.length d) (lD (JH (s.m.frames[n]'(by omega))) (gB (s.m.frames[n]'(by omega)).seen))/\Below j.heap.size j W) S (by omega) (by omega) B A (by rw[<-X];exact U.sp) k ?_ (fun W ab x l G Q=>?_) (fun W y d hO G=>?_)).mono ?_
  ·refine YI j s1 O n p S (by omega) (by omega) ?_ (az_ (A _ L) r)
   rw[World.cell?_of_block (a.block O (A _ L))];exact a5 3 _ (by omega) (by rw[<-X];rfl)
  ·have f:Below w.heap.size w W:=a.trans (G.mono r);obtain⟨g,v',Z,d2,d3,P,d5⟩:=(M W f).frame n (by omega)
   rw[S] at Z;cases Z
   have o:l.length<(s.m.frames[n]'(by omega)).vars.length:=by
    have:=congrArg List.length Q;simp at this;omega
   obtain⟨x4,n4,c4,Y⟩:=PVs.sl P.vars;have C:=P.vars;rw[Y] at C;obtain⟨g4,u,f1,f2,f3,f4,f5,f6,V⟩:=C.get l.length o;obtain⟨t,z,rfl⟩:=V.form;refine⟨g4,n4,c4,t,z,d5 4 _ (by omega) (by rw[<-f1,<-Y];rfl),az_ (A _ L) f.size,by omega,f6,f4,?_⟩
   have he:JH (s.m.frames[n]'(by omega)) x=cB ((s.m.frames[n]'(by omega)).vars[l.length]'o):=by
    unfold JH;rw[Q,I8 (by rw[<-Q];exact N),aH_ o];rfl
   rw[he];exact oO F 200 _ _ W V (fun b E=>az_ (A b E) f.size) (hp.below f) (P.varsB _ (aR_ _)) (by omega)
  ·refine(KC W j.heap.size y d _ _ hO k).mono ?_;rintro e D ⟨rfl,h1,H⟩;exact⟨rfl,h1,G.trans H⟩
  ·rintro e D ⟨y,d,rfl,⟨x,c,g1,g2⟩,H⟩;refine⟨_,_,_,rfl,⟨x,c,g1,fun i J=>?_⟩,a.trans (H.mono r)⟩
   obtain⟨g,k1,k2,k3,k4,k5⟩:=g2 i J;exact⟨g,k1,k2,k3,by omega,k5⟩
end
structure oK(base:Nat)(w:World)(m:SV)(s:bI):Prop where
 t:m.t=s.time
 q:m.q=s.stop
 stack:fU base w (.slice m.x1 m.n1 m.c1) (kV (bV s.m.frames))
 vars:fU base w (.slice m.x2 m.n2 m.c2) (pE s)
 out:pB base w (.slice m.x3 m.n3 m.c3) s.m.out
def oK.keep{base:Nat}{w w':World}{m:SV}{s:bI}(h:oK base w m s)(a:∀k,base<=k->k<w.heap.size->w'.heap[k]?=w.heap[k]?)(b:w.heap.size<=w'.heap.size):oK base w' m s:=
 ⟨h.t,h.q,h.stack.keep a b,h.vars.keep a b,h.out.keep a b⟩
def fU.low{a b:Nat}{w:World}{v:Value}{l:List (Value × Value)}(h:fU a w v l)(d:b<=a):fU b w v l:=by
 obtain⟨x,c,o,k⟩:=h;refine⟨x,c,o,fun i m=>?_⟩
 obtain⟨g,e,n,p,f,j⟩:=k i m;exact⟨g,e,n,p,aF_ d f,j⟩
def pB.low{a b:Nat}{w:World}{v:Value}{l:List (List UInt8)}(h:pB a w v l)(d:b<=a):pB b w v l:=by
 obtain⟨x,c,j,k⟩:=h;refine⟨x,c,j,fun i f=>?_⟩
 obtain⟨g,e,n,o,m⟩:=k i f;exact⟨g,e,n,aF_ d o,m⟩
def oK.low{a b:Nat}{w:World}{m:SV}{s:bI}(h:oK a w m s)(c:b<=a):oK b w m s:=⟨h.t,h.q,h.stack.low c,h.vars.low c,h.out.low c⟩
def U9{O:Nat->Value}{F:Nat->Prop}{w:World}{sb mb n:Nat}{mo:Obj}{T:Nat->Option bI}{s:bI}(h:jV O F w sb mb mo T s n)(P:s.m.frames.length<=16)(hp:kC w)(L:jW s.m)(ht:∀x∈s.m.frames,x.seen.length<=x.vars.length)(U:s.m.out.length<=1000000):
 Calls prog 23 #[.pointer (some ⟨sb,0,none⟩)] w fun e o=>∃m:SV,e=.returned m.val/\Below w.heap.size w o/\oK w.heap.size o m s:=by
 obtain⟨D,v,k0,Q,k2,k3,V,_⟩:=h.cells;have M:=h.lt;obtain⟨ad,e0,e1,e2⟩:=v.sv;obtain rfl:=SV.val_inj e0;have u:∀b,F b->b<w.heap.size:=fun b a=>(h.fix b a).1
 have r:∀W,Below w.heap.size w W->kR O F W D.val s:=fun W q=>v.keep (fun b a=>q.block b (u b a)) fun _ h=>h
 generalize p:w.alloc (.cells #[.int .i64 0,.slice none 0 0,.slice none 0 0,.slice none 0 0,.int .i64 0] 63)=i;have z:Below w.heap.size w i:=by rw[<-p];exact(ay_ _ w).alloc (au_ _) _
 have Z:i.heap.size=w.heap.size+1:=by rw[<-p];simp
 have K:i.heap[w.heap.size]?=some (.cells #[.int .i64 0,.slice none 0 0,.slice none 0 0,.slice none 0 0,.int .i64 0] 63 (0,0)):=by rw[<-p];exact aM _ _ rfl _
 refine OP w sb D _ M k0 Q k2 k3 V ?_;rw[p];generalize l:(i.alloc (.cells D.cells 108)).alloc (.cells #[.int .i64 0,.slice none 0 0,.slice none 0 0,.slice none 0 0,.int .i64 0] 63)=f;have C:Below i.heap.size i f:=by rw[<-l];exact((ay_ _ i).alloc (au_ _) _).alloc (by simp) _
 have ac:f.heap.size=i.heap.size+2:=by rw[<-l];simp
 have t:f.heap[i.heap.size]?=some (.cells D.cells 108 (0,0)):=by rw[<-l];exact jM _ _ _
 have J:f.heap[i.heap.size+1]?=some (.cells #[.int .i64 0,.slice none 0 0,.slice none 0 0,.slice none 0 0,.int .i64 0] 63 (0,0)):=by rw[<-l];exact gO _ _ _
 have g:∀W,Below f.heap.size f W->Below w.heap.size w W:=fun W a=>z.trans ((C.mono z.size).trans (a.mono (by omega)))
 refine yA i D (fun m o=>(∃c,o.heap[w.heap.size]?=some (.cells c 63 (0,0))/\c.size=5)/\Below w.heap.size w (dR o w.heap.size m)/\oK w.heap.size (dR o w.heap.size m) m s)
  (fun m W=>Below f.heap.size f W/\oK f.heap.size W m s)
  (fun x n c W=>fU f.heap.size W (.slice x n c) (kV (bV s.m.frames))/\Below f.heap.size f W)
  (fun x n c G E H W=>fU f.heap.size W (.slice x n c) (kV (bV s.m.frames))/\fU f.heap.size W (.slice G E H) (pE s)/\Below f.heap.size f W) (fun W q=>?_) (fun x n c W y=>?_) (fun x n c G E H W y=>?_) (fun m W y=>?_)
 ·rw[l] at q;have j:Below f.heap.size f W:=⟨q.os,q.tape,q.output,by rw[q.heap];exact au_ _,fun k _=>by rw[q.heap]⟩
  refine(YB (r W (g W j)) (fun b a=>az_ (u b a) (g W j).size) P).mono ?_
  rintro e o ⟨x,n,c,rfl,B,a⟩;exact⟨x,n,c,rfl,B.low j.size,j.trans (a.mono j.size)⟩
 ·obtain⟨B,a⟩:=y;refine⟨by rw[a.block _ (by omega)];exact t,(G3 (r W (g W a)) (fun b d=>az_ (u b d) (g W a).size) P (hp.below (g W a)) L ht).mono ?_⟩
  rintro e o ⟨G,E,H,rfl,N,d⟩;exact⟨G,E,H,rfl,B.keep (fun k _ A=>d.block k A) d.size,N.low a.size,a.trans (d.mono a.size)⟩
 ·obtain⟨B,N,a⟩:=y;obtain⟨ab,_,_,I⟩:=(r W (g W a)).parts;refine⟨by rw[a.block _ (by omega)];exact t,(vG I U).mono ?_⟩
  rintro e o ⟨S,Y,c3,rfl,hO,d⟩;exact⟨S,Y,c3,rfl,a.trans (d.mono a.size),e1,e2,B.keep (fun k _ A=>d.block k A) d.size,N.keep (fun k _ A=>d.block k A) d.size,hO.low a.size⟩
 ·obtain⟨a,X⟩:=y;have aa:=a.size;refine⟨by rw[a.block _ (by omega)];exact t,⟨_,by rw[a.block _ (by omega)];exact J,by simp⟩,⟨_,by rw[cV _ _ _ _ (by omega),a.block _ (by omega),C.block _ (by omega)];exact K,by simp⟩,?_,?_⟩
  ·exact lO m (lO m (g W a) (by omega)) (au_ _)
  ·exact(X.keep (w':=dR (dR W (i.heap.size+1) m) w.heap.size m) (fun k h1 h2=>by rw[cV _ _ _ _ (by omega),cV _ _ _ _ (by omega)]) (by rw[(fO _ _ _).1,(fO _ _ _).1];exact au_ _)).low (by omega)
end Go.Proofs.YtblbkfdhjfppkaaGreatDoor
