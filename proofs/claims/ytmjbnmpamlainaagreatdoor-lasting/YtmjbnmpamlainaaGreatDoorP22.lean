/- Contracts of the program: the moment is told where there is no frame. -/
import Derived.Test.YtmjbnmpamlainaaGreatDoorP21
import Derived.Test.YtmjbnmpamlainaaGreatDoorP10
set_option linter.defProp false
set_option maxRecDepth 100000
set_option maxHeartbeats 4000000
namespace Go.Proofs.YtmjbnmpamlainaaGreatDoor
open Hs
open _root_.Go.Proofs.Tryz
open Go.RowKit
def xD(base:Nat)(w:aG)(v:aQ)(l:cN):Prop:=∃x c,v=.slice x l.length c/\∀i (h:i<l.length),∃g,x=some (aH g 0)/\w.cell? (aH g i)=some (.string (bs l[i]))/\base<=g/\g<w.heap.size
def xD.keep{base:Nat}{w w':aG}{v:aQ}{l:cN}(h:xD base w v l)(f:∀k,base<=k->k<w.heap.size->w'.heap[k]?=w.heap[k]?)(n:w.heap.size<=w'.heap.size):xD base w' v l:=by
 obtain⟨x,c,j,d⟩:=h;refine⟨x,c,j,fun i o=>?_⟩
 obtain⟨g,e,m,a,b⟩:=d i o;exact⟨g,e,by rw[World.cell?_of_block (f g a b)];exact m,a,cn_ b n⟩
def wY{F:bX}{w:aG}{v:aQ}{l:cN}(h:GI F w v l)(B:l.length<=1000000):
 Calls prog 41 #[v] w fun e b=>∃x n c,e=aZ (.slice x n c)/\xD w.heap.size b (.slice x n c) l/\Below w.heap.size w b:=by
 rcases h with ⟨rfl,rfl⟩|⟨g,c,A,rfl,E,C,H,z⟩
 ·refine(uB w).mono ?_;rintro e b ⟨rfl,rfl⟩;exact⟨none,0,0,rfl,⟨none,0,rfl,fun i k=>by simp at k⟩,co_ _ _⟩
 ·refine(uC g 0 l.length c (mZ l) w (by simp[mZ]) B (fun j u a=>?_) (fun u q=>?_)).mono ?_
  ·rw[c8_];refine aA C ?_;rw[<-z,cM_] at a;split at a
   ·rw[Array.getElem?_toList] at a;exact a
   ·cases a
  ·simp only[mZ,dn_] at q;obtain⟨x,_,rfl⟩:=q;rfl
  ·rintro e b ⟨D,rfl,f,y⟩;obtain⟨x,m,rfl⟩:=dE f;refine⟨x,_,m,rfl,⟨x,m,rfl,fun i k=>?_⟩,y⟩
   rcases f.2 with ⟨d,r⟩|⟨p,o,s,d,r,t,G⟩
   ·simp only[Value.slice.injEq] at d;omega
   ·cases d;refine⟨p,rfl,?_,r,aC t⟩;have:=f.cells (g:=p) rfl i (.string (bs l[i])) (by simp[mZ,k])
    rw[oZ] at this;exact this
def VC(w:aG)(s:SV)(h:s.n1=0):Calls prog 59 #[s.val] w fun e a=>e=aZ (.pointer none)/\Below w.heap.size w a:=by
 obtain⟨t,g,c,i,d,j,k,l,b,f,q⟩:=s;subst h;unfold SV.val;go_in
 go_wp2
 go_ret;exact⟨rfl,(co_ _ _).alloc cL _⟩
def KA(w:aG)(s:SV)(h:s.n1=0):Calls prog 40 #[s.val] w fun e d=>e=aZ (bF)/\Below w.heap.size w d:=by
 have a:=aB fun W=>VC W s h
 have g:=aB fun W=>AnyF.slices_SortFunc_none (P:=prog) (ρ:=sortL_ren) { sortL with } none 0 (.func (.func 68) #[] #[]) W
 obtain⟨t,r,o,i,p,x,j,l,m,n,q⟩:=s;subst h;unfold SV.val at a;unfold SV.val;go_in
 go_wp2_with fail;refine(a _).mono ?_;rintro e c ⟨rfl,b⟩;have f:=aB b;clear b a;go_wp2_with fail;go_loopg [3,4] 1 (fun k v s wr=>v=bF/\s=.pointer none/\wr=c)
 case atStart=>exact⟨rfl,rfl,rfl⟩
 case round=>
  obtain⟨rfl,rfl,rfl⟩:=hrel;go_wp2_with fail;refine(g _).mono ?_;rintro e u ⟨rfl,rfl⟩;go_wp2
  go_ret;exact⟨rfl,((co_ _ _).alloc cL _).trans (f.mono (by simp))⟩
def DQ(w:aG)(s:SV)(h:s.n1=0):Calls prog 39 #[s.val] w fun e b=>e=aZ (bF)/\Below w.heap.size w b:=by
 obtain⟨t,o,m,d,n,p,f,g,j,l,q⟩:=s;subst h;unfold SV.val;go_in
 go_wp2_with fail;go_loopg [3,9] 1 (fun k v i wr=>v=bF/\i=Iv0 0/\Below w.heap.size w wr)
 case atStart=>exact⟨rfl,rfl,(co_ _ _).alloc cL _⟩
 case round=>
  obtain⟨rfl,rfl,a⟩:=hrel;have c:=aB a;clear a;go_wp2
  go_ret;exact⟨rfl,c⟩
def QV(w:aG)(sb:Nat)(s:SV)(P:SV->World->Prop)(H:sb<w.heap.size)
 (k0:w.cell? (aH sb 0)=some (Iv0 s.t)) (o:w.cell? (aH sb 1)=some (.slice s.x1 s.n1 s.c1)) (E:w.cell? (aH sb 2)=some (.slice s.x2 s.n2 s.c2)) (r:w.cell? (aH sb 3)=some (.slice s.x3 s.n3 s.c3)) (I:w.cell? (aH sb 4)=some (Iv0 s.q))
 (g:Hid (Calls prog 19 #[s.val] (w.alloc (.cells #[Iv0 0,bF,bF,bF,Iv0 0] 39)) fun e f=>∃m:SV,e=aZ m.val/\(∃c,f.heap[w.heap.size]?=some (.cells c 39 (0,0))/\c.size=5)/\P m (eC f w.heap.size m))):
 Calls prog 10 #[bH sb] w fun e f=>∃m:SV,e=aZ m.val/\P m f:=by
 unfold SV.val at g;go_in
 go_wp2_with fail;refine g.mono ?_;rintro e k ⟨m,rfl,⟨c,a,N⟩,l⟩;have u:=aA (i:=0) a (cr_ (by omega))
 have B:=aA (i:=1) a (cr_ (by omega))
 have q:=aA (i:=2) a (cr_ (by omega))
 have K:=aA (i:=3) a (cr_ (by omega))
 have A:=aA (i:=4) a (cr_ (by omega))
 have p:=aD (i:=0) a;have t:=aD (i:=1) a;have D:=aD (i:=2) a;have G:=aD (i:=3) a;have F:=aD (i:=4) a;have L:=aC a;have n:=jW (W:=k) (s:=m) a (by omega) rfl
 have h:=aB n;have j:=aB l;unfold eC at h j;clear n l a g k0 o E r I;go_wp2_with fail;have b:=h;have d:=j;clear h j u B q K A p t D G F;generalize ((((k.setCell (aH w.heap.size 0) (Iv0 m.t)).setCell (aH w.heap.size 1) (.slice m.x1 m.n1 m.c1)).setCell (aH w.heap.size 2) (.slice m.x2 m.n2 m.c2)).setCell (aH w.heap.size 3) (.slice m.x3 m.n3 m.c3)).setCell (aH w.heap.size 4) (Iv0 m.q)=M at b d ⊢
 obtain⟨J,x,z,C,y⟩:=b;exact bodyPost_ret (v:=.agg #[Iv0 m.t,.slice m.x1 m.n1 m.c1,.slice m.x2 m.n2 m.c2,.slice m.x3 m.n3 m.c3,Iv0 m.q]) (by simp[results,results10,go_sem,J,x,z,C,y]) rfl ⟨m,rfl,d⟩
def mR{w W:aG}{b:Nat}(s:SV)(h:Below w.heap.size w W)(g:w.heap.size<=b):Below w.heap.size w (eC W b s):=by
 obtain⟨e,c,f,d⟩:=gY W b s;exact⟨c.trans h.os,f.trans h.tape,d.trans h.output,by rw[e];exact h.size,fun k a=>by rw[dH _ _ _ k (by omega)];exact h.block k a⟩
def W9{fp:eQ}{F:bX}{w:aG}{sb mb n:Nat}{mo:Obj}{st:Nat->Option bC}{s:bC}(h:kL fp F w sb mb mo st s n)(X:s.m.frames=[])(ho:s.m.out.length<=1000000):
 Calls prog 10 #[bH sb] w fun e p=>∃m:SV,e=aZ m.val/\Below w.heap.size w p/\m.t=s.time/\m.q=s.stop/\m.n1=0/\m.n2=0/\xD w.heap.size p (.slice m.x3 m.n3 m.c3) s.m.out:=by
 obtain⟨o,D,k0,k1,k2,k3,k4,_⟩:=h.cells;have O:=h.lt;obtain⟨ac,e0,e1,e2⟩:=D.sv;obtain rfl:=SV.val_inj e0
 have E:o.n1=0:=by
  obtain⟨fv,tv,ov,y,t,K,H,N,M⟩:=D;rw[X] at H
  have Y:y=[]:=by
   cases y with
   |nil=>rfl
   |cons v l=>exact H.elim
  subst Y;simp only[SV.val,Value.agg.injEq] at t;simp at t;rcases K with ⟨_,x,c,e⟩|⟨g,c,ab,e,_⟩
  ·have:=t.2.1.trans e;simp at this;exact this.2.1
  ·have:=t.2.1.trans e;simp at this;exact this.2.1
 have V:∀W,Below w.heap.size w W->GI F W (.slice o.x3 o.n3 o.c3) s.m.out:=fun W u=>by
  obtain⟨fv,tv,ov,y,t,K,H,N,M⟩:=D;simp only[SV.val,Value.agg.injEq] at t;simp at t;rw[t.2.2.2.1];exact M.keep (fun b a=>u.block b (h.fix b a).1) dX
 generalize q:w.alloc (.cells #[Iv0 0,bF,bF,bF,Iv0 0] 39)=f;have r:Below w.heap.size w f:=by rw[<-q];exact(co_ _ w).alloc cL _
 have ae:f.heap.size=w.heap.size+1:=by rw[<-q];simp
 have Z:f.heap[w.heap.size]?=some (.cells #[Iv0 0,bF,bF,bF,Iv0 0] 39 (0,0)):=by rw[<-q];exact aO _ _ rfl _
 refine QV w sb o _ O k0 k1 k2 k3 k4 ?_;rw[q];generalize j:(f.alloc (.cells o.cells 49)).alloc (.cells #[Iv0 0,bF,bF,bF,Iv0 0] 39)=d;have A:Below f.heap.size f d:=by rw[<-j];exact((co_ _ f).alloc cL _).alloc (by simp) _
 have ad:d.heap.size=f.heap.size+2:=by rw[<-j];simp
 have z:d.heap[f.heap.size]?=some (.cells o.cells 49 (0,0)):=by rw[<-j];exact jM _ _ _
 have Q:d.heap[f.heap.size+1]?=some (.cells #[Iv0 0,bF,bF,bF,Iv0 0] 39 (0,0)):=by rw[<-j];exact gM _ _ _
 refine zV f o (fun m p=>(∃c,p.heap[w.heap.size]?=some (.cells c 39 (0,0))/\c.size=5)/\Below w.heap.size w (eC p w.heap.size m)/\m.t=s.time/\m.q=s.stop/\m.n1=0/\m.n2=0/\xD w.heap.size (eC p w.heap.size m) (.slice m.x3 m.n3 m.c3) s.m.out)
  (fun m W=>Below d.heap.size d W/\m.t=s.time/\m.q=s.stop/\m.n1=0/\m.n2=0/\xD d.heap.size W (.slice m.x3 m.n3 m.c3) s.m.out)
  (fun x n c W=>n=0/\Below d.heap.size d W) (fun x n c x2 n2 c2 W=>n=0/\n2=0/\Below d.heap.size d W) (fun W u=>?_) (fun x n c W G=>?_) (fun x n c x2 n2 c2 W G=>?_) (fun m W G=>?_)
 ·rw[j] at u;refine(DQ W o E).mono ?_;rintro e p ⟨rfl,a⟩;have I:Below d.heap.size d W:=⟨u.os,u.tape,u.output,by rw[u.heap];exact cy_ _,fun k _=>by rw[u.heap]⟩
  exact⟨none,0,0,rfl,rfl,I.trans (a.mono I.size)⟩
 ·obtain⟨rfl,a⟩:=G;refine⟨by rw[a.block _ (by omega)];exact z,(KA W o E).mono ?_⟩
  rintro e p ⟨rfl,B⟩;exact⟨none,0,0,rfl,rfl,rfl,a.trans (B.mono a.size)⟩
 ·obtain⟨rfl,rfl,a⟩:=G;have C:Below w.heap.size w W:=r.trans ((A.mono r.size).trans (a.mono (by omega)))
  refine⟨by rw[a.block _ (by omega)];exact z,(wY (V W C) ho).mono ?_⟩
  rintro e p ⟨x3,n3,c3,rfl,hO,B⟩;refine⟨x3,n3,c3,rfl,a.trans (B.mono a.size),e1,e2,rfl,rfl,?_⟩;obtain⟨x,c,L,J⟩:=hO;refine⟨x,c,L,fun i T=>?_⟩
  obtain⟨g,P,U,a3,S⟩:=J i T;exact⟨g,P,U,cw_ a.size a3,S⟩
 ·obtain⟨a,K,H,N,M,q5⟩:=G;have aa:=a.size;refine⟨by rw[a.block _ (by omega)];exact z,⟨_,by rw[a.block _ (by omega)];exact Q,by simp⟩,⟨_,by rw[dH _ _ _ _ (by omega),a.block _ (by omega),A.block _ (by omega)];exact Z,by simp⟩,?_,K,H,N,M,?_⟩
  ·have C:Below w.heap.size w W:=r.trans ((A.mono r.size).trans (a.mono (by omega)))
   exact mR m (mR m C (by omega)) cL
  ·have hq:=q5.keep (w':=eC (eC W (f.heap.size+1) m) w.heap.size m) (fun k L J=>by rw[dH _ _ _ _ (by omega),dH _ _ _ _ (by omega)]) (by rw[(gY _ _ _).1,(gY _ _ _).1];exact cy_ _)
   obtain⟨x,c,L,J⟩:=hq;refine⟨x,c,L,fun i T=>?_⟩
   obtain⟨g,P,U,a3,S⟩:=J i T;exact⟨g,P,U,by omega,S⟩
def NC(w:aG)(sb:Nat)(f:Int)
 (o:Hid (Calls prog 53 #[.pointer (some (aH sb 5)),Iv0 f] (w.alloc (.cells #[Iv0 0,bF,bF,bF,Iv0 0] 49)) fun e j=>e=aZ (.tuple #[Iv0 0,.bool false])/\Below (w.heap.size+1) (w.alloc (.cells #[Iv0 0,bF,bF,bF,Iv0 0] 49)) j)):
 Calls prog 28 #[.pointer (some (aH sb 5)),Iv0 f] w fun e j=>e=aZ (.tuple #[mF.val,.bool false])/\Below w.heap.size w j:=by
 go_in
 go_wp2_with fail;refine o.mono ?_;rintro e b ⟨rfl,k⟩;have c:Below w.heap.size w b:=((co_ w.heap.size w).alloc cL _).trans (k.mono (by omega))
 have h:b.heap[w.heap.size]?=some (.cells #[Iv0 0,bF,bF,bF,Iv0 0] 49 (0,0)):=(k.block _ (by omega)).trans (aO _ _ rfl _)
 have a:(b.alloc (.cells #[Iv0 0,bF,bF,bF,Iv0 0] 49)).heap[w.heap.size]?=some (.cells #[Iv0 0,bF,bF,bF,Iv0 0] 49 (0,0)):=by rw[cq_ _ _ _ (aC h)];exact h
 have d:(b.alloc (.cells #[Iv0 0,bF,bF,bF,Iv0 0] 49)).heap[b.heap.size]?=some (.cells #[Iv0 0,bF,bF,bF,Iv0 0] 49 (0,0)):=aO _ _ rfl _;have G:=aA (i:=0) a rfl;have z:=aA (i:=1) a rfl;have u:=aA (i:=2) a rfl;have F:=aA (i:=3) a rfl;have x:=aA (i:=4) a rfl;have t:=aD (i:=0) a;have y:=aD (i:=1) a;have H:=aD (i:=2) a;have K:=aD (i:=3) a;have J:=aD (i:=4) a;have D:=aA (i:=0) d rfl;have A:=aA (i:=1) d rfl;have p:=aA (i:=2) d rfl;have q:=aA (i:=3) d rfl;have I:=aA (i:=4) d rfl;have O:=aC a;have r:w.heap.size≠b.heap.size:=by have:=aC h;omega
 have n:=aB (jW (W:=b.alloc (.cells #[Iv0 0,bF,bF,bF,Iv0 0] 49)) (s:=mF) a (by simp) rfl)
 have l:=aB (mR mF (c.alloc c.size (.cells #[Iv0 0,bF,bF,bF,Iv0 0] 49)) cL);unfold eC mF at n l;clear k c h a d o;go_wp2_with fail;have g:=n;have m:=l;clear n l G z u F x t y H K J A p q I D;refine bodyPost_ret (v:=.tuple #[mF.val,.bool false]) ?_ rfl ⟨rfl,m⟩;generalize (((((b.alloc (.cells #[Iv0 0,bF,bF,bF,Iv0 0] 49)).setCell (aH w.heap.size 0) (Iv0 0)).setCell (aH w.heap.size 1) (bF)).setCell (aH w.heap.size 2) (bF)).setCell (aH w.heap.size 3) (bF)).setCell (aH w.heap.size 4) (Iv0 0)=N at g ⊢
 obtain⟨M,B,C,E,L⟩:=g;simp[results,results28,go_sem,M,B,C,E,L,SV.val,mF]
def C5(w:aG)(sb:Nat)(d:Int)(P:Bool->World->Prop)
 (m:Hid (Calls prog 14 #[bH sb,Iv0 d] w fun e h=>∃v ok,e=aZ (.tuple #[SV.val v,.bool ok])/\(ok=true->(∃c,(h.alloc (.cells v.cells 49)).heap[sb]?=some (.cells c 57 (0,0))/\5<=c.size)/\P true (eC (h.alloc (.cells v.cells 49)) sb v))/\(ok=false->P false (h.alloc (.cells v.cells 49))))):
 Calls prog 7 #[bH sb,Iv0 d] w fun e h=>∃b,e=aZ (.bool b)/\P b h:=by
 go_in
 go_wp2_with fail;refine m.mono ?_;rintro e l ⟨v,ok,rfl,k,j⟩;clear m;have f:(l.alloc (.cells v.cells 49)).heap[l.heap.size]?=some (.cells v.cells 49 (0,0)):=aO _ _ rfl _;unfold SV.cells at f;unfold SV.val;cases ok with
 |false=>
  have g:=aB (j rfl);unfold SV.cells at g;clear k j;go_wp2
  go_ret;exact⟨_,rfl,g⟩
 |true=>
  obtain⟨⟨c,a,p⟩,n⟩:=k rfl;have g:=aB n;unfold eC at g;unfold SV.cells at g a;have A:=aA (i:=0) f rfl;have z:=aA (i:=1) f rfl;have q:=aA (i:=2) f rfl;have r:=aA (i:=3) f rfl;have E:=aA (i:=4) f rfl;have C:=aA (i:=0) a (cr_ (by omega))
  have y:=aA (i:=1) a (cr_ (by omega))
  have t:=aA (i:=2) a (cr_ (by omega))
  have B:=aA (i:=3) a (cr_ (by omega))
  have u:=aA (i:=4) a (cr_ (by omega))
  have s:=aD (i:=0) a;have x:=aD (i:=1) a;have D:=aD (i:=2) a;have G:=aD (i:=3) a;have F:=aD (i:=4) a;have o:=aC a;clear k j n a f;go_wp2
  go_ret;exact⟨_,rfl,g⟩
def CD{l:cD}{ks:List aE}(b:cW l=.ok ks)(e:cI l=(0,0)):Good ks:=by
 obtain⟨g,d⟩:=MN b e;have a:=IM b;have h:=(lS b).len;exact⟨by omega,g,a,fun f c=>by have:=((lS b).mem c).kids.len;omega,d,UK a⟩
def CC{ks:List aE}{a:List Int}:∀(d t:Nat) (z:bC),bU ks a (t+1+d)=some z->∃x,bU ks a t=some x/\x.stop=0
 |0,t,z,h=>by
  unfold bU at h ⊢
  rw[Nat.add_zero,fA] at h;cases b:fA (dC ks 2001) (gD ks 2001 a) t with
  |none=>rw[b] at h;cases h
  |some x=>
   rw[b] at h;simp only at h;split at h
   ·rename_i e;exact⟨x,rfl,e⟩
   ·cases h
 |d+1,t,z,h=>by
  obtain⟨x,c,_⟩:=CC 0 (t+1+d) z (by rw[show t+1+d+1+0=t+1+(d+1) by omega];exact h)
  exact CC d t x c
def DR{ks:List aE}{a:List Int}{t u:Nat}{z:bC}(h:bU ks a u=some z)(b:t<u):∃x,bU ks a t=some x/\x.stop=0:=CC (u-t-1) t z (by rw[show t+1+(u-t-1)=u by omega];exact h)
def L3{ks:List aE}{a:List Int}{s τ:bC}{b:Bool}(k:bU ks a s.time=some s)(h:P6 (bU ks a) (fun _=>true) s τ b):(b=true/\τ.time=s.time+1/\s.stop=0)\/(b=false/\τ=s/\s.stop≠0):=by
 rcases h with ⟨f,e,d⟩|⟨f,e,d,i,_⟩
 ·exact ck_ ⟨f,e,d⟩
 ·refine cl_ ⟨f,?_,?_⟩
  ·rcases cR_ (s.time+1) τ.time with g|g
   ·obtain⟨x,c,_⟩:=DR d g;have:=i _ x (by omega) g c
    cases this
   ·omega
  ·obtain⟨x,c,j⟩:=DR d e;rw[k] at c;cases c;exact j
def Below.fs{w W b:aG}{sb:Nat}(h:Below w.heap.size w W)(a:FS sb W b)(f:w.heap.size<=sb)(d:∀k,nC sb W=some k->sb<k):Below w.heap.size w b:=
 ⟨a.os.trans h.os,a.tape.trans h.tape,a.output.trans h.output,cw_ h.size a.size,fun k c=>by
   have:=h.size;rw[a.blk k (by omega) (by omega) fun e=>by have:=d k e;omega];exact h.block k c⟩
def QI(w:aG)(j:cD)(T:Nat)(h:cN)(hE:zC j T h)(hT:gS w)(hp:kM w)(aa:9<=w.heap.size):
 Calls prog 20 #[.string (bs j)] w fun e o=>∃x n c,e=aZ (.tuple #[.slice x n c,Iv0 T,.bool true])/\xD w.heap.size o (.slice x n c) h/\Below w.heap.size w o:=by
 obtain⟨N,V,l,D,I⟩:=hE;have U:=CD l D;have d:bU N [] T=some ⟨T,⟨[],V,h⟩,1⟩:=I;have E:=U.sta d;have K:T<=500:=E.1.time
 have Q:j.length<=2000:=by
  unfold cW at l;split at l
  ·cases l
  ·omega
 refine(MQ w (bs j) T K (fun m W=>xD w.heap.size W (.slice m.x3 m.n3 m.c3) h/\Below w.heap.size w W)
  (fun t A W=>∃u G y B n s,Live u G W A y B N [] s n []/\s.time=t/\t<=T/\w.heap.size<=A/\Below w.heap.size w W)
  (fun A W=>∃u G y B n,Live u G W A y B N [] ⟨T,⟨[],V,h⟩,1⟩ n []/\Below w.heap.size w W) ?_ (fun t A W hL=>?_) (fun A W hM=>?_)).mono ?_
 ·refine(EX (bs j) (bF) [] w hT hp (by rw[gR];omega) (cl_ ⟨rfl,rfl⟩) (by simp) (fun M r f=>?_)).mono ?_
  ·rw[fX] at r f;exact CD r f
  ·rintro e o ⟨v,rfl,C,Z⟩;rw[fX] at Z;rcases Z with ⟨_,M,u,G,A,y,F,rfl,L,P,q4,s,q5,q6⟩|⟨p,_⟩
   ·rw[l] at F;cases F;exact⟨A,rfl,u,G,y,_,1,s,⟨q5,q4,hp.below C,⟨by omega,by omega⟩,by omega,fun b C=>by cases C⟩,q6,by omega,L,C⟩
   ·rw[D] at p;exact absurd rfl p
 ·obtain⟨u,G,y,B,n,s,r,f,h3,X,h5⟩:=hL;refine(S6 U (by simp) r).mono ?_
  rintro e o ⟨b,rfl,O,S,τ,F,L,P⟩;have z:Below w.heap.size w o:=Below.fs h5 P X fun k J=>(r.row J).1
  have a:=r.ses.now;rcases L3 a L with ⟨rfl,Y,H⟩|⟨rfl,rfl,H⟩
  ·refine cl_ ⟨?_,rfl,u,O,y,B,S,τ,F,by omega,?_,X,z⟩
   all_goals
    refine Nat.lt_of_le_of_ne h3 fun e=>?_
    rw[f,e,d] at a;cases a;exact absurd H (by simp)
  ·have ht:t=T:=by
    rcases cR_ t T with h6|h6
    ·obtain⟨x,h7,h8⟩:=DR d h6;rw[<-f,a] at h7;cases h7;exact absurd h8 H
    ·omega
   subst ht;rw[f,d] at a;cases a;exact ck_ ⟨rfl,rfl,u,O,y,B,S,F,z⟩
 ·obtain⟨u,G,y,B,n,r,f⟩:=hM;refine(W9 r.ses rfl (by have:=E.2.2.1.out;simp only at this ⊢;omega)).mono ?_
  rintro e o ⟨m,rfl,C,e1,Y,H,e4,ho⟩;refine⟨m,rfl,e1,Y,H,fun q=>⟨?_,?_⟩⟩
  ·have p:xD w.heap.size o (.slice m.x3 m.n3 m.c3) h:=by
    obtain⟨x,c,a1,a2⟩:=ho;refine⟨x,c,a1,fun i hi=>?_⟩
    obtain⟨g,b1,b2,b3,b4⟩:=a2 i hi;exact⟨g,b1,b2,cw_ f.size b3,b4⟩
   refine p.keep (fun k _ J=>?_) ?_
   ·exact cq_ o (.cells m.cells 39) k J
   ·show o.heap.size<=(o.alloc (.cells m.cells 39)).heap.size
    simp
  ·have p:=(f.trans (C.mono f.size)).alloc (f.trans (C.mono f.size)).size (.cells m.cells 39);exact⟨p.os,p.tape,p.output,p.size,p.block⟩
 ·rintro e o ⟨m,rfl,r,f⟩;exact⟨_,_,_,rfl,r,f⟩
open Go.RowKit Go.Sort
def ZW(x y a b:ByteArray)(w:aG):
 Calls prog 68 #[.agg #[.string x,.string a],.agg #[.string y,.string b]] w fun e d=>e=aZ (Iv0 (Lib.compareBytes x.data.toList y.data.toList))/\∃q c,d=grow (w.drewN q) c:=by
 go_in
 go_wp2_with fail;refine(strings_Compare x y _).mono ?_;rintro e f ⟨rfl,rfl⟩;go_wp2
 go_ret;refine⟨rfl,0,#[Obj.cells #[.string x,.string a] 140,Obj.cells #[.string y,.string b] 140],?_⟩;rw[alloc_eq_grow,alloc_eq_grow,grow_grow];rfl
def ZM:∀a:cD,Lib.compareBytes a a=0
 |[]=>rfl
 |a::l=>by rw[Lib.compareBytes,if_neg (UInt8.lt_irrefl a),if_neg (UInt8.lt_irrefl a)];exact ZM l
def OF:∀a b:cD,Lib.compareBytes b a= -Lib.compareBytes a b
 |[],[]=>rfl
 |[],_::_=>rfl
 |_::_,[]=>rfl
 |a::l,b::m=>by
  rw[Lib.compareBytes,Lib.compareBytes];by_cases c:a<b
  ·rw[if_pos c,if_neg (UInt8.lt_asymm c),if_pos c];rfl
  ·by_cases d:b<a
   ·rw[if_pos d,if_neg c,if_pos d]
   ·rw[if_neg c,if_neg d,if_neg c,if_neg d];exact OF l m
def j9:∀a b:cD,Lib.compareBytes a b=0->a=b
 |[],[],_=>rfl
 |[],_::_,h=>by simp[Lib.compareBytes] at h
 |_::_,[],h=>by simp[Lib.compareBytes] at h
 |a::l,b::m,h=>by
  rw[Lib.compareBytes] at h;by_cases c:a<b
  ·rw[if_pos c] at h;cases h
  ·by_cases d:b<a
   ·rw[if_neg c,if_pos d] at h;cases h
   ·rw[if_neg c,if_neg d] at h;obtain rfl:a=b:=UInt8.le_antisymm (dT_.1 d) (dT_.1 c);rw[j9 l m h]
def GA:∀a b c:cD,Lib.compareBytes a b<0->Lib.compareBytes b c<0->Lib.compareBytes a c<0
 |[],[],_,h,_=>by simp[Lib.compareBytes] at h
 |_::_,[],_,h,_=>by simp[Lib.compareBytes] at h
 |_,_::_,[],_,h=>by simp[Lib.compareBytes] at h
 |[],_::_,_::_,_,_=>by simp[Lib.compareBytes]
 |a::l,b::m,c::n,h,k=>by
  rw[Lib.compareBytes] at h k ⊢
  by_cases f:a<b
  ·by_cases d:b<c
   ·rw[if_pos (UInt8.lt_trans f d)];decide
   ·rw[if_neg d] at k;by_cases e:c<b
    ·rw[if_pos e] at k;omega
    ·obtain rfl:b=c:=UInt8.le_antisymm (dT_.1 e) (dT_.1 d);rw[if_pos f];decide
  ·rw[if_neg f] at h;by_cases d:b<a
   ·rw[if_pos d] at h;omega
   ·obtain rfl:a=b:=UInt8.le_antisymm (dT_.1 d) (dT_.1 f);rw[if_neg d] at h;by_cases e:a<c
    ·rw[if_pos e];decide
    ·rw[if_neg e] at k ⊢
     by_cases g:c<a
     ·rw[if_pos g] at k;omega
     ·rw[if_neg g] at k ⊢
      exact GA l m n h k
def ax_:SWO (fun x y:cD=>decide (Lib.compareBytes x y<0)):=by
 refine⟨fun x=>by simp[ZM],fun x y z h k=>?_,fun x y z h k=>?_⟩
 ·simp only[decide_eq_true_eq] at h k ⊢
  exact GA x y z h k
 ·simp only[decide_eq_false_iff_not] at h k ⊢
  intro a;by_cases e:Lib.compareBytes x y=0
  ·rw[j9 x y e] at a;exact k a
  ·have b:Lib.compareBytes y x<0:=by rw[OF x y];omega
   exact k (GA y x z b a)
def WE(x y:cD)(h:decide (Lib.compareBytes x y<0)=false)(k:decide (Lib.compareBytes y x<0)=false):x=y:=by
 simp only[decide_eq_false_iff_not] at h k;rw[OF x y] at k;exact j9 x y (by omega)
end Go.Proofs.YtmjbnmpamlainaaGreatDoor
