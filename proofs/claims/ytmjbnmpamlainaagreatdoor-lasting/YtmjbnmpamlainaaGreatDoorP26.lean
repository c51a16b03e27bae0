/- An expression that is read is a good one. -/
import Derived.Test.YtmjbnmpamlainaaGreatDoorP25
import Derived.Test.YtmjbnmpamlainaaGreatDoorP23
set_option linter.defProp false
set_option maxRecDepth 100000
set_option maxHeartbeats 4000000
namespace Go.Proofs.YtmjbnmpamlainaaGreatDoor
open Hs
open _root_.Go.Proofs.Tryz
open Go.RowKit
structure rC(A:aE):Prop where
 ex:dJ A
 fine:Hs.FineA 2001 A
 lit:nB A
def yO{l:cD}{A:aE}(h:iR l=.ok A):rC A:=by
 unfold iR at h;split at h
 ·cases h
 rename_i g b;unfold pY at b;split at b
 ·cases b
 split at b
 ·cases b
 rename_i e;split at b
 ·cases b
 rename_i k c;cases b;split at h
 ·cases h
 rename_i a q f;split at h
 rotate_left
 ·cases h
 cases h;obtain⟨i,o⟩:=mT c;obtain⟨m,r,n⟩:=uT g (g.length+1) 0 A q f;have p:=(i.ok.exprs 0 i.some_).ok A q f;have j:Hs.FineA 2001 A:=n.le (by omega)
 exact⟨qC g (pF c e) _ 0 _ _ f,j,fun d=>jJ (by omega) d A j (qC g (pF c e) _ 0 _ _ f)⟩
def rC.dp{A:aE}(h:rC A):fF 2001 A:=mV _ _ h.fine
def rC.wt{A:aE}(h:rC A)(d:Nat):cC d A<=2001:=(h.fine d).1
def rC.len{A:aE}(h:rC A)(seen:cN)(d p:Nat):(aF [] seen d A p).length<=4002:=by
 have b:=lZ [] seen d A p;have a:=sE 2001 A h.dp;have c:=h.wt 2001;omega
def rC.ok{A:aE}(h:rC A){seen:cN}(c:(aP [] true 2001 A ⟨seen,0,0⟩).kind=0):Hs.ExOk [] true seen 2001 A:=
 Hs.ExOk.mem (fun x b=>List.mem_reverse.1 b) (nS (fs:=[]) (alone:=true) (fun f a=>by cases a) (fun _=>rfl) 2001 A h.ex h.dp seen c).2
def Kept.belowE{own:List Nat}{w w':aG}{n:Nat}(h:Kept own w w')(d:n<=w.heap.size)(b:∀k∈own,n<=k):Below n w w':=
 ⟨h.os,h.tape,h.output,h.size,fun k c=>h.block k (by omega) fun a=>by have:=b k a;omega⟩
section
variable {sh:Bool} {fp:eQ} {F:bX} {base:Nat} {w:aG} {sb gf:Nat} {t0 s0:aQ} {m:cR}
def gB.box{own:List Nat}{W:aG}{s:Obj}(x:aQ)(h:gB sh fp F base sb gf t0 s0 own (w.alloc s) m W)(D:∀k,F k->k<w.heap.size)(E:∀k∈own,k<w.heap.size):gB sh fp F base sb gf t0 s0 own w m (W.setCell (aH w.heap.size 0) x):=by
 obtain⟨o,G,n,z,a,c,A,i,C⟩:=h;have p:w.heap.size<(w.alloc s).heap.size:=by simp
 have d:Kept own w (w.alloc s):=Kept.of_below ((co_ _ w).alloc cL s)
 have t:w.heap.size∉aR sh sb gf a c:=fun l=>by
  rcases C _ l with j|j
  ·have:=E _ j;omega
  ·omega
 have q:∀b,G b->b≠w.heap.size:=fun b y e=>by
  subst e;rcases A.new _ y with j|j
  ·have:=D _ j;omega
  ·omega
 have f:∀k,k≠w.heap.size->(W.setCell (aH w.heap.size 0) x).heap[k]?=W.heap[k]?:=fun k f=>cm_ _ _ _ _ f
 have g:∀k∈aR sh sb gf a c,(W.setCell (aH w.heap.size 0) x).heap[k]?=W.heap[k]?:=fun k l=>f k fun e=>t (by rw[<-e];exact l)
 have r:∀b,G b->(W.setCell (aH w.heap.size 0) x).heap[b]?=W.heap[b]?:=fun b y=>f b (q b y)
 refine⟨⟨o.os.trans d.os,o.tape.trans d.tape,o.output.trans d.output,cw_ d.size (by simpa using o.size),fun k j B=>?_⟩,G,n,z,a,c,A.le (dv_ p),⟨by rw[g sb (by simp[aR])];exact i.blk,aW i.row fun k e=>?_,i.frs.keep r dX fun v H k u=>g k ?_,i.tape.keep r dX,aW i.out fun k e=>g k (by simp[aR,e]),i.nodup,fun k f=>by simpa using i.lt k f,fun k f=>by simpa using i.apart k f⟩,fun k l=>(C k l).imp_right (cw_ (dv_ p))⟩
 ·rw[f k (by omega),o.block k (by omega) B,d.block k j B]
 ·cases e;exact g gf (by simp[aR])
 ·have l:k∈cA sh c:=de_.2 ⟨v,H,u⟩;simp[aR,l]
end
def a5_(a:aQ)(W:aG):(callFunc 62 #[a]).run prog W=.ok (.enter 62 #[a]) W:=by kernel_rfl
def fp0:Nat->Value:=fun _=>.pointer none
def EvB(w:aG)(r:aJ × Nat)(s gf:Nat)(W:aG):Prop:=
 s=r.2/\Below w.heap.size w W/\w.heap.size<=gf/\∃(G:bX) (cap:Nat) (tv outv:aQ) (fvs:List FVal),dA true fp0 G gf W (gf+1) gf cap (Iv0 0) tv outv (Iv0 0) fvs ⟨[]++[r.1],[],[]⟩/\∀k∈aR true (gf+1) gf outv fvs,gf<=k
def XK{r:aJ × Nat}{b:List aI}{o:Option Addr}{q t:Nat}{c:List aM}{G:bX}{p:Option Addr}(w W:aG)(C:Below w.heap.size w W)(S:YL fp0 G W (.pointer p) ⟨[],b⟩)(A:∀k,G k->k<W.heap.size)(Z:PVs G W (.slice o q t) c)(H:∀a∈c,aN a<=200)(X:pJ ⟨⟨[],b⟩,0,0,[],c,[]⟩)(U:fT b.length ⟨⟨[],b⟩,0,0,[],c,[]⟩=r):
 Calls prog 61 #[.func (.func 62) #[bH (W.heap.size+1)] #[]] ((W.alloc (.cells #[.pointer p,Iv0 0,Iv0 0,.pointer none,.slice o q t,bF] 108)).alloc (.cells #[Iv0 0,.slice (some (aH W.heap.size 0)) 1 1,bF,bF,Iv0 0] 49)) fun e B=>∃s:Nat,e=aZ (Iv0 s)/\EvB w r s W.heap.size B:=by
 generalize i:((W.alloc (.cells #[.pointer p,Iv0 0,Iv0 0,.pointer none,.slice o q t,bF] 108)).alloc (.cells #[Iv0 0,.slice (some (aH W.heap.size 0)) 1 1,bF,bF,Iv0 0] 49))=f;have m:Below W.heap.size W f:=by rw[<-i];exact((co_ _ _).alloc cL _).alloc (by simp) _
 have V:f.heap.size=W.heap.size+2:=by rw[<-i];simp
 have P:f.heap[W.heap.size]?=some (.cells #[.pointer p,Iv0 0,Iv0 0,.pointer none,.slice o q t,bF] 108 (0,0)):=by rw[<-i];exact eA _ _ (by simp) _ (aO _ _ rfl _)
 have F:f.heap[W.heap.size+1]?=some (.cells #[Iv0 0,.slice (some (aH W.heap.size 0)) 1 1,bF,bF,Iv0 0] 49 (0,0)):=by rw[<-i];exact aO _ _ (by simp) _
 have d:aR true (W.heap.size+1) W.heap.size (bF) [⟨.pointer p,Iv0 0,Iv0 0,.pointer none,.slice o q t,bF⟩]=[W.heap.size+1,W.heap.size]:=rfl;have x:lC G W.heap.size f (bF) []:=⟨⟨[],World.ownsRow_nil _ _ _ _,gQ.nil _ _⟩,fun a ha=>by simp at ha⟩
 have z:dA true fp0 G W.heap.size f (W.heap.size+1) W.heap.size 1 (Iv0 0) (bF) (bF) (Iv0 0) [⟨.pointer p,Iv0 0,Iv0 0,.pointer none,.slice o q t,bF⟩] ⟨[]++[⟨⟨[],b⟩,0,0,[],c,[]⟩],[],[]⟩:=by
  refine⟨F,⟨rfl,ck_ ⟨W.heap.size,1,_,rfl,cL,P,cL,by unfold maxLen;omega,rfl,rfl⟩⟩,⟨⟨S.keep (fun k g=>m.block k (A k g)) dX,rfl,rfl,rfl,⟨Z.keep fun k g=>m.block k (A k g),H⟩,x⟩,trivial⟩,cl_ ⟨rfl,_,_,rfl⟩,World.ownsRow_nil _ _ _ _,?_,?_,fun k g=>?_⟩
  ·rw[d];simp
  ·rw[d];simp;omega
  ·rw[d];have:=A k g;simp;omega
 have J:Below f.heap.size f (f.alloc (.cells #[Iv0 0] 29)):=(co_ _ _).alloc cL _;have O:=z.grow J dX (fun _ h=>cl_ h)
 have K:=A9 O (by simp;omega) X cL U
 rw[d] at K;have j:(f.alloc (.cells #[Iv0 0] 29)).heap[f.heap.size]?=some (.cells #[Iv0 0] 29 (0,0)):=aO _ _ rfl _;refine(DO 62 (aH (W.heap.size+1) 0) f (fun k W'=>k=r.2/\gB true fp0 G W.heap.size (W.heap.size+1) W.heap.size (Iv0 0) (Iv0 0) [W.heap.size+1,W.heap.size] (f.alloc (.cells #[Iv0 0] 29)) ⟨[]++[r.1],[],[]⟩ W') a5_ (K.mono fun e B n=>?_)).mono ?_
 ·obtain⟨he,n⟩:=n;refine⟨r.2,he,⟨rfl,n⟩,?_⟩;rw[n.1.block _ (by simp) (by simp;omega)];exact j
 ·rintro e B ⟨k,w1,rfl,⟨E,n⟩,rfl⟩;obtain⟨Q,N,v,I,l,u,d2,M,Y⟩:=n.box (Iv0 k) (fun k g=>by have:=A k g;omega) (fun k g=>by simp at g;omega)
  have D:Below W.heap.size W _:=m.trans ((Q.belowE (dv_ (by omega)) (fun k g=>by simp at g;omega)))
  exact⟨k,rfl,E,C.trans (D.mono C.size),C.size,N,v,I,l,u,M,fun y T=>by
   rcases Y y T with L|L
   ·simp at L;omega
   ·omega⟩
def a7_(p q:Option Addr)(W:aG):(callFunc 30 #[.pointer p,.pointer q]).run prog W=.ok (.enter 30 #[.pointer p,.pointer q]) W:=by kernel_rfl
def a9_(p q:Option Addr)(W:aG):(callFunc 32 #[.pointer p,.pointer q]).run prog W=.ok (.enter 32 #[.pointer p,.pointer q]) W:=by kernel_rfl
def vM(w:aG)(a b:Obj):Below w.heap.size w ((w.alloc a).alloc b):=((co_ _ w).alloc cL _).alloc (by simp) _
def wK(g:ByteArray)(w:aG)(M:gS w)(Q:g.size<=maxLen):
 Calls prog 15 #[.string g] w fun e s=>Below w.heap.size w s/\((∃f,iR g.data.toList=.error f/\f.1≠0/\e=aZ (.tuple #[.nilIface,Iv0 f.1,Iv0 f.2]))\/
  ∃a t z,iR g.data.toList=.ok a/\e=aZ (.tuple #[.iface t z,Iv0 0,Iv0 0])/\PN (Btw w.heap.size s.heap.size) s (.iface t z) a):=by
 refine(IJ w g (fun v W=>Below w.heap.size w W/\((∃f,iR g.data.toList=.error f/\f.1≠0/\v=.tuple #[.nilIface,Iv0 f.1,Iv0 f.2])\/∃a t z,iR g.data.toList=.ok a/\v=.tuple #[.iface t z,Iv0 0,Iv0 0]/\PN (Btw w.heap.size W.heap.size) W (.iface t z) a)) ?_).mono ?_
 ·generalize l:(w.alloc (.cells #[.string g] 9)).alloc (.cells #[.nilIface] 59)=d;have o:Below w.heap.size w d:=by rw[<-l];exact vM _ _ _
  have G:d.heap[w.heap.size]?=some (.cells #[.string g] 9 (0,0)):=by rw[<-l];exact jM _ _ _
  have u:d.heap[w.heap.size+1]?=some (.cells #[.nilIface] 59 (0,0)):=by rw[<-l];exact gM _ _ _
  have J:d.heap.size=w.heap.size+2:=by rw[<-l];simp
  clear l
  refine(sL 30 (some (aH w.heap.size 0)) (some (aH (w.heap.size+1) 0)) d
   (fun W=>∃r t z a,iR g.data.toList=.ok a/\Below (d.heap.size+2) ((d.alloc (.cells #[Iv0 0] 30)).alloc (.cells #[Iv0 0] 3)) r/\PN (Btw (d.heap.size+2) r.heap.size) r (.iface t z) a/\W=r.setCell (aH (w.heap.size+1) 0) (.iface t z))
   (fun k n=>iR g.data.toList=.error (k,n)) (fun W=>a7_ _ _ W) (fun W y=>?_)).mono ?_
  ·have x:Below d.heap.size d W:=by rw[y];exact vM _ _ _
   have B:W.heap.size=d.heap.size+2:=by rw[y];simp
   have N:W.heap[d.heap.size]?=some (.cells #[Iv0 0] 30 (0,0)):=by rw[y];exact jM _ _ _
   have P:W.heap[d.heap.size+1]?=some (.cells #[Iv0 0] 3 (0,0)):=by rw[y];exact gM _ _ _
   refine(ad_ g w.heap.size (w.heap.size+1) W ((M.below o).below x) Q (aA (by rw[x.block _ (by omega)];exact G) rfl) (by rw[x.block _ (by omega)];exact u)).mono ?_
   rintro e s (⟨rfl,r,v,L,m,j,p,rfl⟩|⟨f,m,j,rfl,p⟩)
   ·obtain⟨t,T,rfl⟩:=p.form;refine cl_ ⟨rfl,?_,?_,r,t,_,L,m,by rw[<-y,<-B];exact j,by rw[<-B];exact p,rfl⟩
    ·rw[cm_ _ _ _ _ (show d.heap.size≠w.heap.size+1 by omega),j.block _ (by omega)];exact N
    ·rw[cm_ _ _ _ _ (show d.heap.size+1≠w.heap.size+1 by omega),j.block _ (by omega)];exact P
   ·exact ck_ ⟨f.1,f.2,j,rfl,p,m⟩
  ·rintro e s (⟨rfl,r,⟨q,t,z,a,S,m,j,rfl⟩,rfl⟩|⟨k,n,K,rfl,A,h⟩)
   ·have D:=m.size;simp at D
    have F:q.heap[w.heap.size+1]?=some (.cells #[.nilIface] 59 (0,0)):=by
     rw[m.block _ (by omega)]
     exact eA _ _ (by simp;omega) _ (eA _ _ (by omega) _ u)
    have C:∀k,k≠w.heap.size+1->k≠d.heap.size->k≠d.heap.size+1->(((q.setCell (aH (w.heap.size+1) 0) (.iface t z)).setCell (aH d.heap.size 0) (Iv0 0)).setCell (aH (d.heap.size+1) 0) (Iv0 0)).heap[k]?=q.heap[k]?:=fun k a b c=>by
     rw[cm_ _ _ _ _ c,cm_ _ _ _ _ b,cm_ _ _ _ _ a]
    have i:(((q.setCell (aH (w.heap.size+1) 0) (.iface t z)).setCell (aH d.heap.size 0) (Iv0 0)).setCell (aH (d.heap.size+1) 0) (Iv0 0)).heap[w.heap.size+1]?=some (.cells #[.iface t z] 59 (0,0)):=by
     rw[cm_ _ _ _ _ (show w.heap.size+1≠d.heap.size+1 by omega),cm_ _ _ _ _ (show w.heap.size+1≠d.heap.size by omega)]
     exact aK F
    have O:(((q.setCell (aH (w.heap.size+1) 0) (.iface t z)).setCell (aH d.heap.size 0) (Iv0 0)).setCell (aH (d.heap.size+1) 0) (Iv0 0)).heap.size=q.heap.size:=by simp
    have E:Below w.heap.size w (((q.setCell (aH (w.heap.size+1) 0) (.iface t z)).setCell (aH d.heap.size 0) (Iv0 0)).setCell (aH (d.heap.size+1) 0) (Iv0 0)):=
     ((((o.trans ((vM d _ _).mono (by omega))).trans (m.mono (by omega))).setCell (by show _<=w.heap.size+1;omega) _).setCell (by show _<=d.heap.size;omega) _).setCell (by show _<=d.heap.size+1;omega) _
    generalize ((q.setCell (aH (w.heap.size+1) 0) (.iface t z)).setCell (aH d.heap.size 0) (Iv0 0)).setCell (aH (d.heap.size+1) 0) (Iv0 0)=U at*;refine⟨0,0,.iface t z,rfl,ck_ ⟨t,z,rfl⟩,aA i rfl,aD i,aC i,E.setCell (by show _<=w.heap.size+1;omega) _,ck_ ⟨a,t,z,S,rfl,?_⟩⟩
    refine PN.grow j (fun k I H=>?_) (by omega) (by simp;omega)
    rw[cm_ _ _ _ _ (show k≠w.heap.size+1 by omega),C k (by omega) (by omega) (by omega)]
   ·have i:s.heap[w.heap.size+1]?=some (.cells #[.nilIface] 59 (0,0)):=by rw[A.block _ (by omega)];exact u
    exact⟨k,n,.nilIface,rfl,cl_ rfl,aA i rfl,aD i,aC i,(o.trans (A.mono o.size)).setCell (by show _<=w.heap.size+1;omega) _,cl_ ⟨(k,n),h,K,rfl⟩⟩
 ·rintro e s ⟨v,rfl,m,⟨f,j,p,rfl⟩|⟨a,t,z,j,rfl,p⟩⟩
  ·exact⟨m,cl_ ⟨f,j,p,rfl⟩⟩
  ·exact⟨m,ck_ ⟨a,t,z,j,rfl,p⟩⟩
def PI(l:cN):List Value:=l.map fun x=>.string (bs x)
def WC(w g:World)(F:Nat->Prop)(s:SV)(p0:Option Addr)(seen:List (List UInt8))
 (A:w.alloc (.cells s.cells 49)=g) (hF:∀b,F b->b<w.heap.size) (hs:eF F w (.pointer p0) seen) (hl:seen.length<=90001)
 (T:Hid (Calls prog 59 #[s.val] g fun e K=>e=.returned (.pointer p0)/\Below g.heap.size g K)):
 Calls prog 34 #[s.val] w fun e K=>∃y d,e=.returned (.slice y seen.length d)/\K.ownsRow g.heap.size 9 1 (.slice y seen.length d) seen.length (PI seen)/\Below g.heap.size g K:=by
 obtain⟨i0,hi,P,Y,V⟩:=info_parts wQ;unfold SV.cells at A;unfold SV.val at T;unfold SV.val;have c:g.heap[w.heap.size]?=some (.cells #[.int .i64 s.t,.slice s.x1 s.n1 s.c1,.slice s.x2 s.n2 s.c2,.slice s.x3 s.n3 s.c3,.int .i64 s.q] 49 (0,0)):=by rw[<-A];exact aO _ _ rfl _
 have D:g.heap.size=w.heap.size+1:=by rw[<-A];simp
 have B:Below w.heap.size w g:=by rw[<-A];exact(co_ _ w).alloc (cy_ _) _
 have HW:=aB A;have Q:=aB hs;have HF:=aB hF;have U:=aB B;have c0:=aA (i:=0) c rfl;have X:=aA (i:=1) c rfl;have S:=aA (i:=2) c rfl;have ab:=aA (i:=3) c rfl;have O:=aA (i:=4) c rfl;clear A hs hF B c;go_enter func34,ntmps34;go_wp2_with fail;rw[HW.out];go_wp2_with fail;refine T.out.mono ?_;rintro e w1 ⟨rfl,J⟩;have W:=aB J;clear J T c0 X S ab O;go_wp2_with fail;go_loopg [3,4] seen.length (fun gk v p wr=>∃f r,seen=f++r/\r.length=gk/\eF F w p r/\(∃y d,v=.slice y f.length d)/\wr.ownsRow g.heap.size 9 1 v f.length (PI f)/\Below g.heap.size g wr)
 case atStart=>exact⟨[],seen,rfl,rfl,Q.out,⟨none,0,rfl⟩,World.ownsRow_nil _ _ _ _,W.out⟩
 case round=>
  obtain⟨f,r,L,C,t,⟨y,d,rfl⟩,j,a⟩:=hrel;cases r with
  |nil=>
   rw[dz_] at L;subst L;have Z:_=Value.pointer none:=t;subst Z;have HX:=aB (cL_ j a);clear j a t;go_wp2_with fail;go_ret;exact⟨_,_,rfl,HX.out⟩
  |cons x l=>
   obtain⟨b,o,rfl,N,I,z⟩:=t;obtain⟨po,rfl⟩:=z.form;obtain⟨m,rfl⟩:∃m,gk=m+1:=⟨gk-1,by simp at C;omega⟩
   have H:=HF.out b N;have h:wr.heap[b]?=some (.cells #[.string (bs x),.int .i64 l.length,.pointer po] 124 (0,0)):=by rw[a.block b (by omega),U.out.block b H];exact I
   have k0:=aA (i:=0) h rfl;have k2:=aA (i:=2) h rfl;have af:=aC h;have ad:=a.size;have ae:f.length<=90001:=by have:=congrArg List.length L;simp at this;omega
   have G:=aB j;have HB:=aB a;have K2:=aB k2;clear j a I h k2;go_wp2_with (at_builtin;refine wpList_append_lies _ (by rfl) _ _ 37 (by rfl) g.heap.size 9 i0 _ 1 16 underlying37 hi P Y V rfl (by decide) (.slice y f.length d) f.length _ (by rfl) (G.out.alloc _) ⟨wr.heap.size,0,none⟩ 1 1 [.string (bs x)] (by rfl) (by rfl) (yK wr _) (ES _) (by decide) (by unfold maxLen;omega) (by omega) (by simp;omega) (wr.heap.size+1) (by simp) ?_)
   intro g5 E w5 q n ac ag;have u:Below g.heap.size g w5:=(HB.out.alloc (by omega) _).grown n (by simp;omega) fun k hk=>(G.out.lt k hk).1
   have k5:w5.cell? ⟨b,2,none⟩=some (.pointer po):=(World.cell?_of_block ((u.block b (by omega)).trans (HB.out.block b (by omega)).symm)).trans K2.out
   have H5:=aB u;have M:=aB q;have aa:=aB z;clear u q n z k0;go_wp2_with fail;go_roundg m
   case measure=>omega
   case rel=>exact⟨f++[x],l,by rw[L];simp,by simp at C;omega,aa.out,⟨some ⟨g5,0,none⟩,E,by simp⟩,by have:=M.out;rw[D];simpa [PI] using this,H5.out⟩
def fE(s:bC):cN:=match s.m.frames.getLast? with
 |none=>[]
 |some f=>f.seen
section
variable {fp:eQ} {F:bX} {w:aG} {s1:SV} {s:bC}
def PY(h:jT fp F w s1.val s)(g:∀b,F b->b<w.heap.size)(G:s.m.frames.length<=16):∃m,eF F w (.pointer m) (fE s)/\∀W,Below w.heap.size w W->Calls prog 59 #[s1.val] W fun e o=>e=aZ (.pointer m)/\Below W.heap.size W o:=by
 by_cases d:s.m.frames=[]
 ·refine⟨none,by unfold fE;rw[d];rfl,fun W c=>?_⟩
  have f:=h.none d;obtain⟨t,D,B,r,J,E,u,y,z,A,q⟩:=s1;simp only at f;subst f;exact KK W t q D B r y E z u A
 ·obtain⟨n,I⟩:∃n,s.m.frames.length=n+1:=⟨s.m.frames.length-1,by have:=c7_.2 d;omega⟩
  have a:s.m.frames.getLast?=some (s.m.frames[n]'(by omega)):=by
   rw[dQ_,show s.m.frames.length-1=n by omega];exact cz_ _
  obtain⟨j,v,C,H,l,i,x⟩:=h.frame n (by omega)
  obtain⟨p,k⟩:=eF.form i.sp;refine⟨p,by unfold fE;rw[a,<-k];exact i.sp,fun W c=>KJ W s1 j n p C (by omega) (by omega) ?_ (cn_ (g _ l) c.size)⟩
  rw[World.cell?_of_block (c.block j (g _ l))];exact x 3 _ (by omega) (by rw[<-k];rfl)
def I6(h:jT fp F w s1.val s)(j:∀b,F b->b<w.heap.size)(m:s.m.frames.length<=16)(t:(fE s).length<=90001):
 Calls prog 34 #[s1.val] w fun e f=>∃y d,e=aZ (.slice y (fE s).length d)/\f.ownsRow w.heap.size 9 1 (.slice y (fE s).length d) (fE s).length (PI (fE s))/\Below w.heap.size w f:=by
 obtain⟨v,r,o⟩:=PY h j m;have a:Below w.heap.size w (w.alloc (.cells s1.cells 49)):=(co_ _ w).alloc cL _;refine(WC w _ F s1 v (fE s) rfl j r t (o _ a)).mono ?_;rintro e f ⟨y,d,rfl,l,q⟩;refine⟨y,d,rfl,⟨l.1,?_⟩,a.trans (q.mono a.size)⟩;rcases l.2 with k|⟨g,c,i,n,u,p⟩
 ·exact cl_ k
 ·exact ck_ ⟨g,c,i,n,cw_ a.size u,p⟩
end
def JO(w:aG)(t:TypeId)(z:aQ)(a:aE)(lo j:Nat)(y:Option Addr)(m:Nat)(seen:cN)(d:Nat)(r:PN (Btw lo j) w (.iface t z) a)(b:w.ownsRow j 9 1 (.slice y seen.length m) seen.length (PI seen))(i:j<=w.heap.size)(u:fF d a)(A:seen.length+cC d a<=90000):
 Calls prog 33 #[.iface t z,.slice y seen.length m] w fun e v=>Below j w v/\(((aP [] true d a ⟨seen,0,0⟩).kind=0/\e=aZ (.tuple #[]))\/((aP [] true d a ⟨seen,0,0⟩).kind≠0/\e=cT (aP [] true d a ⟨seen,0,0⟩).kind (aP [] true d a ⟨seen,0,0⟩).line)):=by
 have o:Below w.heap.size w (w.alloc (.cells #[FVlen,.slice y seen.length m] 120)):=(co_ _ w).alloc cL _
 have n:CK w.heap.size j lo [] FVlen (w.alloc (.cells #[FVlen,.slice y seen.length m] 120)) seen:=
  ⟨⟨.slice y seen.length m,aO _ _ rfl _,aW b fun k x=>o.block k (cP b k x),fun e=>Nat.lt_irrefl _ (cP b _ e),i⟩,ck_ ⟨rfl,rfl⟩⟩
 have s:=aB (QX w.heap.size j lo [] FVlen (by simp) (fun f B=>by cases B) d (.iface t z) a seen _ n (r.below (o.mono i)) u A)
 rw[show gA FVlen=true from rfl] at s
 have q:=aB (o.mono i);clear n b r o;generalize aP [] true d a ⟨seen,0,0⟩=c at*;go_in
 go_wp2_with fail;refine s.mono ?_;rintro e C ⟨g,⟨D,rfl,rfl,_⟩|⟨l,rfl⟩⟩
 ·have h:=aB (q.trans g.bel);clear g;go_wp2
  go_end0;exact⟨h,rfl⟩
 ·have h:=aB (q.trans g.bel);have p:=aB l;clear g l;go_wp2_with fail;exact⟨rfl,h,ck_ ⟨p,rfl⟩⟩
end Go.Proofs.YtmjbnmpamlainaaGreatDoor
