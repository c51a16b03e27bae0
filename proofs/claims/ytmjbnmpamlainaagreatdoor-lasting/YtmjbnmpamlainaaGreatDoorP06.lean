/- Contracts of the program: names: each sort of nodes. -/
import Derived.Test.YtmjbnmpamlainaaGreatDoorP05
set_option linter.defProp false
set_option maxRecDepth 100000
set_option maxHeartbeats 4000000
namespace Go.Proofs.YtmjbnmpamlainaaGreatDoor
open Hs
open _root_.Go.Proofs.Tryz
open Go.RowKit
def PN.parts{F:bX}{w:aG}{v:aQ}{a:aE}(h:PN F w v a):∃T c b,v=.iface T (.agg c)/\Shape T c a b/\∀p∈b,p.ok F w:=by
 obtain⟨d,h⟩:=h;cases d with
 |zero=>exact h.elim
 |succ d=>
  obtain⟨T,c,b,g,f,i⟩:=h;exact⟨T,c,b,g,f,fun p e=>(i p e).mono (fun _ _ h=>⟨d,h⟩) dX⟩
def Prt.ok.one'{F:bX}{w:aG}{v:aQ}{a:aE}(h:Prt.ok F w ⟨v,[a],true⟩):PN F w v a:=by
 rcases h with ⟨_,b,c,d⟩|⟨c,_⟩
 ·cases c;exact d
 ·cases c
def Prt.ok.many{F:bX}{w:aG}{v:aQ}{l:List aE}(h:Prt.ok F w ⟨v,l,false⟩):PKid F w v l:=by
 rcases h with ⟨b,_⟩|⟨_,a⟩
 ·cases b
 ·exact a
structure Loc(cb tp:Nat)(w0:aG)(b:Nat)(o:Obj)(W:aG):Prop where
 fb:FB cb tp w0 W
 blk:W.heap[b]?=some o
 row:lV cb W≠some b
 ne:b≠cb
def Loc.new{cb c lo:Nat}{fs:List aE}{f:aQ}{w:aG}{seen:cN}(h:CK cb c lo fs f w seen)(o:Obj):Loc cb c w w.heap.size o (w.alloc o)/\CK cb c lo fs f (w.alloc o) seen:=by
 have a:=h.lt;have d:Below w.heap.size w (w.alloc o):=(co_ _ _).alloc cL _;refine⟨⟨FB.of_below d a,aO _ _ rfl _,fun e=>?_,by omega⟩,h.grow d⟩
 obtain⟨i,b,g,_⟩:=h.blk;rw[pO (d.block cb a.1),nX b] at e;have:=cP g _ e;omega
def Loc.step{cb a b:Nat}{o:Obj}{d W f:aG}(h:Loc cb a d b o W)(c:FB cb a W f):Loc cb a d b o f:=
 ⟨h.fb.trans c,(c.blk b (aC h.blk) h.ne h.row).trans h.blk,fun e=>by
   rcases c.row _ e with e|e
   ·exact h.row e
   ·have:=aC h.blk;omega,h.ne⟩
def tO(cb tp lo:Nat)(fs:List aE)(fv:aQ)(d:Nat):Prop:=
 ∀(v:aQ) (b:aE) (seen:cN) (w:aG),CK cb tp lo fs fv w seen->b.op=[98,108,111,99,107]->PKid (Btw lo tp) w v b.kids->fF d b->seen.length+cC d b<=90000->
  Calls prog 94 #[bH cb,v] w (dI cb tp lo fs fv w (aP fs (gA fv) d b ⟨seen,0,0⟩))
def wP{d:Nat}{l:List aE}(h:∀k∈l,fF d k):l.length<=(l.map (cC d)).sum:=by
 cases d with
 |zero=>
  cases l with
  |nil=>simp
  |cons x l=>exact(h x (cJ_ ..)).elim
 |succ d=>exact qE d l
def TP{cb f lo:Nat}{fs:List aE}{a:aQ}{d:Nat}(l:nN cb f lo fs a d):tO cb f lo fs a (d+1):=by
 intro v b seen w h c i g e;rw[cC] at e
 have k:aP fs (gA a) (d+1) b ⟨seen,0,0⟩={ jE fs (gA a) d b.kids ⟨seen,0,0⟩ with seen:=(jE fs (gA a) d b.kids ⟨seen,0,0⟩).seen.take seen.length }:=by
  rw[aP,if_neg (by rw[c];decide)]
  simp only[cK,c];rfl
 have j:=wP g;rw[k];exact AD cb f lo fs a d l v b.kids seen w h i g (by omega) (by omega)
def F8{cb b lo:Nat}{fs:List aE}{a:aQ}(d:Nat)(g:nN cb b lo fs a d)(seen:cN)(w:aG)(h:CK cb b lo fs a w seen)(f:seen.length<=90000):
 Calls prog 94 #[bH cb,bF] w (dI cb b lo fs a w ⟨seen,0,0⟩):=by
 have:=AD cb b lo fs a d g (bF) [] seen w h (cl_ ⟨rfl,rfl⟩) (fun k c=>by cases c) (by simpa using f) (by simp)
 have e:({ jE fs (gA a) d [] ⟨seen,0,0⟩ with seen:=(jE fs (gA a) d [] ⟨seen,0,0⟩).seen.take seen.length }:bD)=⟨seen,0,0⟩:=by
  show (⟨seen.take seen.length,0,0⟩:bD)=_
  rw[List.take_length]
 rw[e] at this;exact this
def mB{a:bD}{s t:cN}{m n k:Nat}(h:Adds a ⟨t,0,0⟩ m)(c:a.seen=s)(f:s.length+(m+k)<=n):t.length+k<=n:=by
 obtain⟨x,d,e⟩:=h;have b:t=s++x:=by rw[<-c];exact d
 rw[b,cp_];omega
def CL(s:bD)(l:Nat)(x:cD):bD:=if s.seen.contains x then s else s.found l 6
def ZX(s:bD)(l:Nat)(x:cD):Adds s (CL s l x) 0:=Adds.of_eq (by unfold CL;split<;>first|rfl|exact oL _ _ _)
def Q8(cb a lo:Nat)(fs:List aE)(b:aQ)(w:aG)(seen:cN)(h:CK cb a lo fs b w seen)(c:seen.length<=100000)(l:Nat)(x:cD):
 Calls prog 92 #[bH cb,.agg #[Iv0 l,.string (bs x)]] w (dI cb a lo fs b w (CL ⟨seen,0,0⟩ l x)):=v8 cb a lo fs b w seen h c l x
def KR(cb a lo:Nat)(fs:List aE)(b:aQ)(seen:cN)(w:aG)(h:CK cb a lo fs b w seen)(l k:Nat):
 Calls prog 58 #[bH cb,.iface 243 (.agg #[Iv0 l,Iv0 k])] w (dI cb a lo fs b w ⟨seen,0,0⟩):=by
 have H:=aB h;have f:=vY;have j:=xQ;have q:=LT;have m:=AT;have o:=xO;have n:=AV;have i:=DB;have g:=uQ;have p:=DA;have e:=AW;have c:=AU;have d:=xP;clear h;go_in
 go_wp2
 go_end0;exact dI.done (FB.refl _) rfl H
def G4(cb a lo:Nat)(fs:List aE)(b:aQ)(seen:cN)(w:aG)(h:CK cb a lo fs b w seen)(l:Nat)(x:ByteArray):
 Calls prog 58 #[bH cb,.iface 244 (.agg #[Iv0 l,.string x])] w (dI cb a lo fs b w ⟨seen,0,0⟩):=by
 have H:=aB h;have f:=vW;have j:=xM;have p:=LS;have k:=AN;have n:=xK;have m:=AP;have i:=CX;have g:=uP;have o:=CW;have e:=AQ;have c:=AO;have d:=xL;clear h;go_in
 go_wp2
 go_end0;exact dI.done (FB.refl _) rfl H
def an_(cb a lo:Nat)(fs:List aE)(b:aQ)(seen:cN)(w:aG)(h:CK cb a lo fs b w seen)(l:Nat)(x:Bool):
 Calls prog 58 #[bH cb,.iface 246 (.agg #[Iv0 l,.bool x])] w (dI cb a lo fs b w ⟨seen,0,0⟩):=by
 have H:=aB h;have f:=BB;have j:=DL;have p:=UN;have k:=GY;have n:=DJ;have m:=IA;have i:=LY;have g:=xT;have o:=LX;have e:=IB;have c:=GZ;have d:=DK;clear h;go_in
 go_wp2
 go_end0;exact dI.done (FB.refl _) rfl H
def am_(cb r lo:Nat)(fs:List aE)(q:aQ)(d:Nat)(C:nN cb r lo fs q d)(seen:cN)(w:aG)(h:CK cb r lo fs q w seen)(l:Nat)(u1:aQ)(b:List aE)(z:PKid (Btw lo r) w u1 b)(j:∀k∈b,fF d k)(B:seen.length+((b.map (cC d)).sum+0)<=90000):
 Calls prog 58 #[bH cb,.iface 197 (.agg #[Iv0 l,u1])] w (dI cb r lo fs q w (jE fs (gA q) d b ⟨seen,0,0⟩)):=by
 obtain⟨y,u,rfl⟩:=z.slice;have F:=AX;have I:=DD;have O:=UL;have J:=GS;have L:=DC;have K:=GT;have H:=LV;have G:=xR;have N:=LU;obtain⟨n,a⟩:=Loc.new h (.cells #[Iv0 l,(.slice y b.length u)] 197);have m:=aB n;have x:=aB a;clear h n a;go_in
 have c:=aB (C (.slice y b.length u) b seen (w.alloc (.cells #[Iv0 l,(.slice y b.length u)] 197)) x (z.below m.fb.bel) j (by omega) (by have:=wP j;omega))
 obtain⟨o,g⟩:∃o,o=jE fs (gA q) d b (⟨seen,0,0⟩:bD):=⟨_,rfl⟩;have p:=aB g.symm;first|rw[<-g] at c|rw[show _=o from g.symm] at c
 clear g;go_wp2_with fail;refine c.mono ?_;rintro e E ⟨f,⟨M,s,rfl,i⟩|⟨a,rfl⟩⟩
 rotate_left
 ·have A:=aB (m.fb.trans f);have D:=aB a;clear f a;go_wp2_with fail;exact⟨rfl,dI.fault (c1:=o) A D (by rw[p.out];exact Stk.refl o)⟩
 have v:=aB (m.step f);have t:=aB i;subst s;clear f i c;go_wp2
 go_end0;exact dI.done v.fb (by rw[p.out]) t
def X5(cb q lo:Nat)(fs:List aE)(p:aQ)(d:Nat)(D:kP cb q lo fs p d)(seen:cN)(w:aG)(h:CK cb q lo fs p w seen)(l:Nat)(x:ByteArray)(v1:aQ)(k:aE)(z:PN (Btw lo q) w v1 k)(u:fF d k)(C:seen.length+(cC d k+0)<=90000):
 Calls prog 58 #[bH cb,.iface 201 (.agg #[Iv0 l,.string x,v1])] w (dI cb q lo fs p w (aP fs (gA p) d k ⟨seen,0,0⟩)):=by
 obtain⟨s,j,rfl⟩:=z.form;have H:=xJ;have K:=AM;have Q:=PD;have L:=CS;have N:=AL;have M:=CU;have J:=GR;have I:=vV;have P:=GQ;have G:=CV;have B:=CT;obtain⟨m,a⟩:=Loc.new h (.cells #[Iv0 l,.string x,(.iface s (.agg j))] 201);have i:=aB m;have y:=aB a;clear h m a;go_in
 have b:=aB (D (.iface s (.agg j)) k seen (w.alloc (.cells #[Iv0 l,.string x,(.iface s (.agg j))] 201)) y (z.below i.fb.bel) u (by omega))
 obtain⟨n,f⟩:∃n,n=aP fs (gA p) d k (⟨seen,0,0⟩:bD):=⟨_,rfl⟩;have o:=aB f.symm;first|rw[<-f] at b|rw[show _=n from f.symm] at b
 clear f;go_wp2_with fail;refine b.mono ?_;rintro e F ⟨c,⟨O,r,rfl,g⟩|⟨a,rfl⟩⟩
 rotate_left
 ·have A:=aB (i.fb.trans c);have E:=aB a;clear c a;go_wp2_with fail;exact⟨rfl,dI.fault (c1:=n) A E (by rw[o.out];exact Stk.refl n)⟩
 have v:=aB (i.step c);have t:=aB g;subst r;clear c g b;go_wp2
 go_end0;exact dI.done v.fb (by rw[o.out]) t
def G5(cb q lo:Nat)(fs:List aE)(p:aQ)(d:Nat)(B:kP cb q lo fs p d)(seen:cN)(w:aG)(h:CK cb q lo fs p w seen)(l:Nat)(v1:aQ)(k:aE)(y:PN (Btw lo q) w v1 k)(u:fF d k)(A:seen.length+(cC d k+0)<=90000):
 Calls prog 58 #[bH cb,.iface 189 (.agg #[Iv0 l,v1])] w (dI cb q lo fs p w (aP fs (gA p) d k ⟨seen,0,0⟩)):=by
 obtain⟨s,j,rfl⟩:=y.form;have E:=oO;have F:=pN;have J:=vX;have G:=qR;have H:=pM;obtain⟨m,a⟩:=Loc.new h (.cells #[Iv0 l,(.iface s (.agg j))] 189);have i:=aB m;have x:=aB a;clear h m a;go_in
 have b:=aB (B (.iface s (.agg j)) k seen (w.alloc (.cells #[Iv0 l,(.iface s (.agg j))] 189)) x (y.below i.fb.bel) u (by omega))
 obtain⟨n,f⟩:∃n,n=aP fs (gA p) d k (⟨seen,0,0⟩:bD):=⟨_,rfl⟩;have o:=aB f.symm;first|rw[<-f] at b|rw[show _=n from f.symm] at b
 clear f;go_wp2_with fail;refine b.mono ?_;rintro e D ⟨c,⟨I,r,rfl,g⟩|⟨a,rfl⟩⟩
 rotate_left
 ·have z:=aB (i.fb.trans c);have C:=aB a;clear c a;go_wp2_with fail;exact⟨rfl,dI.fault (c1:=n) z C (by rw[o.out];exact Stk.refl n)⟩
 have v:=aB (i.step c);have t:=aB g;subst r;clear c g b;go_wp2
 go_end0;exact dI.done v.fb (by rw[o.out]) t
def X6(cb q lo:Nat)(fs:List aE)(p:aQ)(d:Nat)(B:kP cb q lo fs p d)(seen:cN)(w:aG)(h:CK cb q lo fs p w seen)(l:Nat)(v1:aQ)(k:aE)(y:PN (Btw lo q) w v1 k)(u:fF d k)(A:seen.length+(cC d k+0)<=90000):
 Calls prog 58 #[bH cb,.iface 190 (.agg #[Iv0 l,v1])] w (dI cb q lo fs p w (aP fs (gA p) d k ⟨seen,0,0⟩)):=by
 obtain⟨s,j,rfl⟩:=y.form;have E:=xN;have F:=AS;have K:=PE;have G:=CY;have I:=AR;have H:=CZ;obtain⟨m,a⟩:=Loc.new h (.cells #[Iv0 l,(.iface s (.agg j))] 190);have i:=aB m;have x:=aB a;clear h m a;go_in
 have b:=aB (B (.iface s (.agg j)) k seen (w.alloc (.cells #[Iv0 l,(.iface s (.agg j))] 190)) x (y.below i.fb.bel) u (by omega))
 obtain⟨n,f⟩:∃n,n=aP fs (gA p) d k (⟨seen,0,0⟩:bD):=⟨_,rfl⟩;have o:=aB f.symm;first|rw[<-f] at b|rw[show _=n from f.symm] at b
 clear f;go_wp2_with fail;refine b.mono ?_;rintro e D ⟨c,⟨J,r,rfl,g⟩|⟨a,rfl⟩⟩
 rotate_left
 ·have z:=aB (i.fb.trans c);have C:=aB a;clear c a;go_wp2_with fail;exact⟨rfl,dI.fault (c1:=n) z C (by rw[o.out];exact Stk.refl n)⟩
 have v:=aB (i.step c);have t:=aB g;subst r;clear c g b;go_wp2
 go_end0;exact dI.done v.fb (by rw[o.out]) t
def X7(cb D lo:Nat)(fs:List aE)(n:aQ)(d:Nat)(Y:kP cb D lo fs n d)(seen:cN)(w:aG)(h:CK cb D lo fs n w seen)(l:Nat)(v1:aQ)(v:aE)(X:PN (Btw lo D) w v1 v)(P:fF d v)(v2:aQ)(q:aE)(W:PN (Btw lo D) w v2 q)(H:fF d q)(ab:seen.length+(cC d v+(cC d q+0))<=90000):
 Calls prog 58 #[bH cb,.iface 199 (.agg #[Iv0 l,v1,v2])] w (dI cb D lo fs n w (aP fs (gA n) d q (aP fs (gA n) d v ⟨seen,0,0⟩))):=by
 obtain⟨J,u,rfl⟩:=X.form;obtain⟨V,r,rfl⟩:=W.form;have q0:=xS;have q1:=AZ;have q2:=PF;have q3:=DE;have q4:=AY;have q5:=DF;have q6:=GV;have q7:=vZ;have q8:=GU;have q9:=DG;obtain⟨z,b⟩:=Loc.new h (.cells #[Iv0 l,(.iface J (.agg u)),(.iface V (.agg r))] 199);have t:=aB z;have U:=aB b;clear h z b;go_in
 have f:=aB (Y (.iface J (.agg u)) v seen (w.alloc (.cells #[Iv0 l,(.iface J (.agg u)),(.iface V (.agg r))] 199)) U (X.below t.fb.bel) P (by omega))
 have F:=aB (gL fs (gA n) d v ⟨seen,0,0⟩);obtain⟨C,c⟩:∃C,C=aP fs (gA n) d v (⟨seen,0,0⟩:bD):=⟨_,rfl⟩;have x:=aB c.symm;rw[<-c] at F;first|rw[<-c] at f|rw[show _=C from c.symm] at f
 clear c;go_wp2_with fail;refine f.mono ?_;rintro e Z ⟨j,⟨S,I,rfl,o⟩|⟨b,rfl⟩⟩
 rotate_left
 ·have M:=aB (t.fb.trans j);have T:=aB b;clear j b;go_wp2_with fail;exact⟨rfl,dI.fault (c1:=C) M T (by rw[x.out];exact(Stk.walk fs (gA n) d q C))⟩
 have a:=aB (t.step j);have K:=aB o;subst I;have aa:S.length+(cC d q+0)<=90000:=mB F rfl (by omega)
 clear j o f;have k:=aB (Y (.iface V (.agg r)) q S Z K (W.below a.fb.bel) H (by omega))
 obtain⟨s,g⟩:∃s,s=aP fs (gA n) d q (⟨S,0,0⟩:bD):=⟨_,rfl⟩;have G:=aB g.symm;first|rw[<-g] at k|rw[show _=s from g.symm] at k
 clear g;have E:=aA a.blk (i:=0) rfl;have A:=aA a.blk (i:=1) rfl;have B:=aA a.blk (i:=2) rfl;have N:=aC a.blk;go_wp2_with fail;refine k.mono ?_;rintro e w2 ⟨m,⟨s2,O,rfl,p⟩|⟨y,rfl⟩⟩
 rotate_left
 ·have M:=aB (a.fb.trans m);have T:=aB y;clear m y;go_wp2_with fail;exact⟨rfl,dI.fault (c1:=s) M T (by rw[x.out,G.out];exact Stk.refl s)⟩
 have L:=aB (a.step m);have Q:=aB p;subst O;clear m p k E A B N;go_wp2
 go_end0;exact dI.done L.fb (by rw[x.out,G.out]) Q
def G6(cb F lo:Nat)(fs:List aE)(n:aQ)(d:Nat)(IH:kP cb F lo fs n d)(seen:cN)(w:aG)(h:CK cb F lo fs n w seen)(l:Nat)(x:ByteArray)(v1:aQ)(v:aE)(Z:PN (Btw lo F) w v1 v)(S:fF d v)(v2:aQ)(q:aE)(Y:PN (Btw lo F) w v2 q)(J:fF d q)(ac:seen.length+(cC d v+(cC d q+0))<=90000):
 Calls prog 58 #[bH cb,.iface 203 (.agg #[Iv0 l,.string x,v1,v2])] w (dI cb F lo fs n w (aP fs (gA n) d q (aP fs (gA n) d v ⟨seen,0,0⟩))):=by
 obtain⟨L,u,rfl⟩:=Z.form;obtain⟨X,r,rfl⟩:=Y.form;have q0:=wB;have q1:=xW;have q2:=LZ;have q3:=BC;have q4:=xU;have q5:=BE;have q6:=DN;have q7:=uS;have q8:=DM;have q9:=BF;have ab:=BD;have ad:=xV;obtain⟨A,b⟩:=Loc.new h (.cells #[Iv0 l,.string x,(.iface L (.agg u)),(.iface X (.agg r))] 203);have t:=aB A;have W:=aB b;clear h A b;go_in
 have f:=aB (IH (.iface L (.agg u)) v seen (w.alloc (.cells #[Iv0 l,.string x,(.iface L (.agg u)),(.iface X (.agg r))] 203)) W (Z.below t.fb.bel) S (by omega))
 have H:=aB (gL fs (gA n) d v ⟨seen,0,0⟩);obtain⟨E,c⟩:∃E,E=aP fs (gA n) d v (⟨seen,0,0⟩:bD):=⟨_,rfl⟩;have y:=aB c.symm;rw[<-c] at H;first|rw[<-c] at f|rw[show _=E from c.symm] at f
 clear c;go_wp2_with fail;refine f.mono ?_;rintro e w1 ⟨j,⟨T,K,rfl,o⟩|⟨b,rfl⟩⟩
 rotate_left
 ·have O:=aB (t.fb.trans j);have V:=aB b;clear j b;go_wp2_with fail;exact⟨rfl,dI.fault (c1:=E) O V (by rw[y.out];exact(Stk.walk fs (gA n) d q E))⟩
 have a:=aB (t.step j);have M:=aB o;subst K;have aa:T.length+(cC d q+0)<=90000:=mB H rfl (by omega)
 clear j o f;have k:=aB (IH (.iface X (.agg r)) q T w1 M (Y.below a.fb.bel) J (by omega))
 obtain⟨s,g⟩:∃s,s=aP fs (gA n) d q (⟨T,0,0⟩:bD):=⟨_,rfl⟩;have I:=aB g.symm;first|rw[<-g] at k|rw[show _=s from g.symm] at k
 clear g;have G:=aA a.blk (i:=0) rfl;have B:=aA a.blk (i:=1) rfl;have C:=aA a.blk (i:=2) rfl;have D:=aA a.blk (i:=3) rfl;have P:=aC a.blk;go_wp2_with fail;refine k.mono ?_;rintro e w2 ⟨m,⟨s2,Q,rfl,p⟩|⟨z,rfl⟩⟩
 rotate_left
 ·have O:=aB (a.fb.trans m);have V:=aB z;clear m z;go_wp2_with fail;exact⟨rfl,dI.fault (c1:=s) O V (by rw[y.out,I.out];exact Stk.refl s)⟩
 have N:=aB (a.step m);have U:=aB p;subst Q;clear m p k G B C D P;go_wp2
 go_end0;exact dI.done N.fb (by rw[y.out,I.out]) U
def X4(cb x lo:Nat)(fs:List aE)(g:aQ)(d:Nat)(IH:kP cb x lo fs g d)(Q:tO cb x lo fs g d)(seen:cN)(w:aG)(h:CK cb x lo fs g w seen)(l:Nat)(v1:aQ)(u:aE)(Z:PN (Btw lo x) w v1 u)(P:fF d u)(u2:aQ)(b:aE)(H:b.op=[98,108,111,99,107])(Y:PKid (Btw lo x) w u2 b.kids)(B:fF d b)(ab:seen.length+(cC d u+(cC d b+0))<=90000):
 Calls prog 58 #[bH cb,.iface 187 (.agg #[Iv0 l,v1,u2])] w (dI cb x lo fs g w (aP fs (gA g) d b (aP fs (gA g) d u ⟨seen,0,0⟩))):=by
 obtain⟨J,t,rfl⟩:=Z.form;obtain⟨V,X,rfl⟩:=Y.slice;have q0:=xH;have q1:=AK;have q2:=PC;have q3:=CO;obtain⟨z,c⟩:=Loc.new h (.cells #[Iv0 l,(.iface J (.agg t)),(.slice V b.kids.length X)] 187);have s:=aB z;have W:=aB c;clear h z c;go_in
 have j:=aB (IH (.iface J (.agg t)) u seen (w.alloc (.cells #[Iv0 l,(.iface J (.agg t)),(.slice V b.kids.length X)] 187)) W (Z.below s.fb.bel) P (by omega))
 have F:=aB (gL fs (gA g) d u ⟨seen,0,0⟩);obtain⟨D,f⟩:∃D,D=aP fs (gA g) d u (⟨seen,0,0⟩:bD):=⟨_,rfl⟩;have v:=aB f.symm;rw[<-f] at F;first|rw[<-f] at j|rw[show _=D from f.symm] at j
 clear f;go_wp2_with fail;refine j.mono ?_;rintro e w1 ⟨m,⟨T,I,rfl,p⟩|⟨c,rfl⟩⟩
 rotate_left
 ·have M:=aB (s.fb.trans m);have U:=aB c;clear m c;go_wp2_with fail;exact⟨rfl,dI.fault (c1:=D) M U (by rw[v.out];exact(Stk.walk fs (gA g) d b D))⟩
 have a:=aB (s.step m);have K:=aB p;subst I;have aa:T.length+(cC d b+0)<=90000:=mB F rfl (by omega)
 clear m p j;have n:=aB (Q (.slice V b.kids.length X) b T w1 K H (Y.below a.fb.bel) B (by omega))
 obtain⟨r,k⟩:∃r,r=aP fs (gA g) d b (⟨T,0,0⟩:bD):=⟨_,rfl⟩;have G:=aB k.symm;first|rw[<-k] at n|rw[show _=r from k.symm] at n
 clear k;have E:=aA a.blk (i:=0) rfl;have A:=aA a.blk (i:=1) rfl;have C:=aA a.blk (i:=2) rfl;have N:=aC a.blk;go_wp2_with fail;refine n.mono ?_;rintro e w2 ⟨o,⟨s2,O,rfl,q⟩|⟨y,rfl⟩⟩
 rotate_left
 ·have M:=aB (a.fb.trans o);have U:=aB y;clear o y;go_wp2_with fail;exact⟨rfl,dI.fault (c1:=r) M U (by rw[v.out,G.out];exact Stk.refl r)⟩
 have L:=aB (a.step o);have S:=aB q;subst O;clear o q n E A C N;go_wp2
 go_end0;exact dI.done L.fb (by rw[v.out,G.out]) S
def bT_(cb B lo:Nat)(fs:List aE)(c:aQ)(d:Nat)(IH:kP cb B lo fs c d)(W:tO cb B lo fs c d)(seen:cN)(w:aG)(h:CK cb B lo fs c w seen)(l:Nat)(v1:aQ)(D:aE)(h1:PN (Btw lo B) w v1 D)(aj:fF d D)(u2:aQ)(g:aE)(J:g.op=[98,108,111,99,107])(g2:PKid (Btw lo B) w u2 g.kids)(L:fF d g)(u3:aQ)(f:aE)(ab:f.op=[98,108,111,99,107])(g3:PKid (Btw lo B) w u3 f.kids)(I:fF d f)(ao:seen.length+(cC d D+(cC d g+(cC d f+0)))<=90000):
 Calls prog 58 #[bH cb,.iface 185 (.agg #[Iv0 l,v1,u2,u3])] w (dI cb B lo fs c w (aP fs (gA c) d f (aP fs (gA c) d g (aP fs (gA c) d D ⟨seen,0,0⟩)))):=by
 obtain⟨T1,C,rfl⟩:=h1.form;obtain⟨x2,y2,rfl⟩:=g2.slice;obtain⟨x3,y3,rfl⟩:=g3.slice;have q0:=tS;have q1:=wA;have q2:=PG;obtain⟨F,k⟩:=Loc.new h (.cells #[Iv0 l,(.iface T1 (.agg C)),(.slice x2 g.kids.length y2),(.slice x3 f.kids.length y3)] 185);have A:=aB F;have ac:=aB k;clear h F k;go_in
 have q:=aB (IH (.iface T1 (.agg C)) D seen (w.alloc (.cells #[Iv0 l,(.iface T1 (.agg C)),(.slice x2 g.kids.length y2),(.slice x3 f.kids.length y3)] 185)) ac (h1.below A.fb.bel) aj (by omega))
 have Y:=aB (gL fs (gA c) d D ⟨seen,0,0⟩);obtain⟨Z,j⟩:∃Z,Z=aP fs (gA c) d D (⟨seen,0,0⟩:bD):=⟨_,rfl⟩;have r:=aB j.symm;rw[<-j] at Y;first|rw[<-j] at q|rw[show _=Z from j.symm] at q
 clear j;go_wp2_with fail;refine q.mono ?_;rintro e w1 ⟨n,⟨s1,ah,rfl,v⟩|⟨k,rfl⟩⟩
 rotate_left
 ·have HB:=aB (A.fb.trans n);have M:=aB k;clear n k;go_wp2_with fail;exact⟨rfl,dI.fault (c1:=Z) HB M (by rw[r.out];exact((Stk.walk fs (gA c) d g Z)).trans (Stk.walk fs (gA c) d f _))⟩
 have a:=aB (A.step n);have ad:=aB v;subst ah;have an:s1.length+(cC d g+(cC d f+0))<=90000:=mB Y rfl (by omega)
 clear n v q;have p:=aB (W (.slice x2 g.kids.length y2) g s1 w1 ad J (g2.below a.fb.bel) L (by omega))
 have G:=aB (gL fs (gA c) d g ⟨s1,0,0⟩);obtain⟨x,m⟩:∃x,x=aP fs (gA c) d g (⟨s1,0,0⟩:bD):=⟨_,rfl⟩;have E:=aB m.symm;rw[<-m] at G;first|rw[<-m] at p|rw[show _=x from m.symm] at p
 clear m;have X:=aA a.blk (i:=0) rfl;have S:=aA a.blk (i:=1) rfl;have T:=aA a.blk (i:=2) rfl;have U:=aA a.blk (i:=3) rfl;have al:=aC a.blk;go_wp2_with fail;refine p.mono ?_;rintro e w2 ⟨u,⟨s2,am,rfl,y⟩|⟨aa,rfl⟩⟩
 rotate_left
 ·have HB:=aB (a.fb.trans u);have M:=aB aa;clear u aa;go_wp2_with fail;exact⟨rfl,dI.fault (c1:=x) HB M (by rw[r.out,E.out];exact(Stk.walk fs (gA c) d f x))⟩
 have b:=aB (a.step u);have ag:=aB y;subst am;have ap:s2.length+(cC d f+0)<=90000:=mB G rfl (by omega)
 clear u y p X S T U al;have s:=aB (W (.slice x3 f.kids.length y3) f s2 w2 ag ab (g3.below b.fb.bel) I (by omega))
 obtain⟨H,t⟩:∃H,H=aP fs (gA c) d f (⟨s2,0,0⟩:bD):=⟨_,rfl⟩;have V:=aB t.symm;first|rw[<-t] at s|rw[show _=H from t.symm] at s
 clear t;have N:=aA b.blk (i:=0) rfl;have Q:=aA b.blk (i:=1) rfl;have O:=aA b.blk (i:=2) rfl;have P:=aA b.blk (i:=3) rfl;have ai:=aC b.blk;go_wp2_with fail;refine s.mono ?_;rintro e w3 ⟨o,⟨s3,af,rfl,z⟩|⟨K,rfl⟩⟩
 rotate_left
 ·have HB:=aB (b.fb.trans o);have M:=aB K;clear o K;go_wp2_with fail;exact⟨rfl,dI.fault (c1:=H) HB M (by rw[r.out,E.out,V.out];exact Stk.refl H)⟩
 have ak:=aB (b.step o);have ae:=aB z;subst af;clear o z s N Q O P ai;go_wp2
 go_end0;exact dI.done ak.fb (by rw[r.out,E.out,V.out]) ae
def bw_(cb A lo:Nat)(fs:List aE)(f:aQ)(d:Nat)(IH:kP cb A lo fs f d)(HN:nN cb A lo fs f d)(ai:tO cb A lo fs f d)(seen:cN)(w:aG)(h:CK cb A lo fs f w seen)(l:Nat)(v1:aQ)(C:aE)(h1:PN (Btw lo A) w v1 C)(ah:fF d C)(u2:aQ)(c:aE)(H:c.op=[98,108,111,99,107])(g2:PKid (Btw lo A) w u2 c.kids)(J:fF d c)(an:seen.length+(cC d C+(cC d c+(0+0)))<=90000):
 Calls prog 58 #[bH cb,.iface 185 (.agg #[Iv0 l,v1,u2,bF])] w (dI cb A lo fs f w ((aP fs (gA f) d c (aP fs (gA f) d C ⟨seen,0,0⟩)))):=by
 obtain⟨T1,B,rfl⟩:=h1.form;obtain⟨x2,y2,rfl⟩:=g2.slice;have q0:=tS;have q1:=wA;have q2:=PG;obtain⟨E,j⟩:=Loc.new h (.cells #[Iv0 l,(.iface T1 (.agg B)),(.slice x2 c.kids.length y2),bF] 185);have z:=aB E;have aa:=aB j;clear h E j;go_in
 have p:=aB (IH (.iface T1 (.agg B)) C seen (w.alloc (.cells #[Iv0 l,(.iface T1 (.agg B)),(.slice x2 c.kids.length y2),bF] 185)) aa (h1.below z.fb.bel) ah (by omega))
 have V:=aB (gL fs (gA f) d C ⟨seen,0,0⟩);obtain⟨W,g⟩:∃W,W=aP fs (gA f) d C (⟨seen,0,0⟩:bD):=⟨_,rfl⟩;have q:=aB g.symm;rw[<-g] at V;first|rw[<-g] at p|rw[show _=W from g.symm] at p
 clear g;go_wp2_with fail;refine p.mono ?_;rintro e w1 ⟨m,⟨Z,af,rfl,u⟩|⟨j,rfl⟩⟩
 rotate_left
 ·have Y:=aB (z.fb.trans m);have K:=aB j;clear m j;go_wp2_with fail;exact⟨rfl,dI.fault (c1:=W) Y K (by rw[q.out];exact((Stk.walk fs (gA f) d c W)).trans (Stk.refl _))⟩
 have a:=aB (z.step m);have ab:=aB u;subst af;have am:Z.length+(cC d c+(0+0))<=90000:=mB V rfl (by omega)
 clear m u p;have o:=aB (ai (.slice x2 c.kids.length y2) c Z w1 ab H (g2.below a.fb.bel) J (by omega))
 have F:=aB (gL fs (gA f) d c ⟨Z,0,0⟩);obtain⟨v,k⟩:∃v,v=aP fs (gA f) d c (⟨Z,0,0⟩:bD):=⟨_,rfl⟩;have D:=aB k.symm;rw[<-k] at F;first|rw[<-k] at o|rw[show _=v from k.symm] at o
 clear k;have U:=aA a.blk (i:=0) rfl;have P:=aA a.blk (i:=1) rfl;have Q:=aA a.blk (i:=2) rfl;have S:=aA a.blk (i:=3) rfl;have ak:=aC a.blk;go_wp2_with fail;refine o.mono ?_;rintro e w2 ⟨t,⟨s2,al,rfl,x⟩|⟨X,rfl⟩⟩
 rotate_left
 ·have Y:=aB (a.fb.trans t);have K:=aB X;clear t X;go_wp2_with fail;exact⟨rfl,dI.fault (c1:=v) Y K (by rw[q.out,D.out];exact(Stk.refl v))⟩
 have b:=aB (a.step t);have ae:=aB x;subst al;have ao:s2.length+(0+0)<=90000:=mB F rfl (by omega)
 clear t x o U P Q S ak;have r:=aB (F8 d HN s2 w2 ae (by omega))
 obtain⟨G,s⟩:∃G,G=(⟨s2,0,0⟩:bD):=⟨_,rfl⟩;have T:=aB s.symm;first|rw[<-s] at r|rw[show _=G from s.symm] at r
 clear s;have L:=aA b.blk (i:=0) rfl;have O:=aA b.blk (i:=1) rfl;have M:=aA b.blk (i:=2) rfl;have N:=aA b.blk (i:=3) rfl;have ag:=aC b.blk;go_wp2_with fail;refine r.mono ?_;rintro e w3 ⟨n,⟨s3,ad,rfl,y⟩|⟨I,rfl⟩⟩
 rotate_left
 ·have Y:=aB (b.fb.trans n);have K:=aB I;clear n I;go_wp2_with fail;exact⟨rfl,dI.fault (c1:=G) Y K (by rw[q.out,D.out,T.out];exact Stk.refl G)⟩
 have aj:=aB (b.step n);have ac:=aB y;subst ad;clear n y r L O M N ag;go_wp2
 go_end0;exact dI.done aj.fb (by rw[q.out,D.out,T.out]) ac
def QZ(cb o lo:Nat)(fs:List aE)(r:aQ)(seen:cN)(w:aG)(h:CK cb o lo fs r w seen)(l:Nat)(x:cD)(t:seen.length+(0+0)<=90000):
 Calls prog 58 #[bH cb,.iface 195 (.agg #[Iv0 l,.string (bs x)])] w (dI cb o lo fs r w (CL ⟨seen,0,0⟩ l x)):=by
 have y:=tQ;have B:=uO;have G:=CR;have C:=vT;have E:=uN;have D:=vU;have A:=xI;have z:=rH;obtain⟨g,a⟩:=Loc.new h (.cells #[Iv0 l,.string (bs x)] 195);have j:=aB g;have q:=aB a;clear h g a;go_in
 have b:=aB (Q8 cb o lo fs r (w.alloc (.cells #[Iv0 l,.string (bs x)] 195)) seen q (by omega) l x)
 obtain⟨i,d⟩:∃i,i=CL (⟨seen,0,0⟩:bD) l x:=⟨_,rfl⟩;have k:=aB d.symm;first|rw[<-d] at b|rw[show _=i from d.symm] at b
 clear d;go_wp2_with fail;refine b.mono ?_;rintro e v ⟨c,⟨F,m,rfl,f⟩|⟨a,rfl⟩⟩
 rotate_left
 ·have s:=aB (j.fb.trans c);have u:=aB a;clear c a;go_wp2_with fail;exact⟨rfl,dI.fault (c1:=i) s u (by rw[k.out];exact Stk.refl i)⟩
 have p:=aB (j.step c);have n:=aB f;subst m;clear c f b;go_wp2
 go_end0;exact dI.done p.fb (by rw[k.out]) n
def G7(cb E lo:Nat)(fs:List aE)(c:aQ)(d:Nat)(IH:kP cb E lo fs c d)(HN:nN cb E lo fs c d)(seen:cN)(w:aG)(h:CK cb E lo fs c w seen)(l:Nat)(x:cD)(u2:aQ)(g:List aE)(g2:PKid (Btw lo E) w u2 g)(C:∀k∈g,fF d k)(v1:aQ)(n:aE)(h1:PN (Btw lo E) w v1 n)(ah:fF d n)(am:seen.length+(0+((g.map (cC d)).sum+(cC d n+0)))<=90000):
 Calls prog 58 #[bH cb,.iface 181 (.agg #[Iv0 l,.string (bs x),u2,v1])] w (dI cb E lo fs c w (aP fs (gA c) d n (jE fs (gA c) d g (CL ⟨seen,0,0⟩ l x)))):=by
 obtain⟨x2,y2,rfl⟩:=g2.slice;obtain⟨T1,F,rfl⟩:=h1.form;have q0:=wC;have q1:=xX;obtain⟨H,j⟩:=Loc.new h (.cells #[Iv0 l,.string (bs x),(.slice x2 g.length y2),(.iface T1 (.agg F))] 181);have J:=aB H;have aa:=aB j;clear h H j;go_in
 have r:=aB (Q8 cb E lo fs c (w.alloc (.cells #[Iv0 l,.string (bs x),(.slice x2 g.length y2),(.iface T1 (.agg F))] 181)) seen aa (by omega) l x)
 have X:=aB (ZX ⟨seen,0,0⟩ l x);obtain⟨c0,f⟩:∃c0,c0=CL (⟨seen,0,0⟩:bD) l x:=⟨_,rfl⟩;have t:=aB f.symm;rw[<-f] at X;first|rw[<-f] at r|rw[show _=c0 from f.symm] at r
 clear f;go_wp2_with fail;refine r.mono ?_;rintro e w1 ⟨o,⟨s1,af,rfl,z⟩|⟨j,rfl⟩⟩
 rotate_left
 ·have Z:=aB (J.fb.trans o);have M:=aB j;clear o j;go_wp2_with fail;exact⟨rfl,dI.fault (c1:=c0) Z M (by rw[t.out];exact((Stk.fold (fun s k=>Stk.walk fs (gA c) d k s) _ _)).trans (Stk.walk fs (gA c) d n _))⟩
 have a:=aB (J.step o);have ab:=aB z;subst af;have al:s1.length+((g.map (cC d)).sum+(cC d n+0))<=90000:=mB X rfl (by omega)
 clear o z r;have q:=aB (HN (.slice x2 g.length y2) g s1 w1 ab (g2.below a.fb.bel) C (by omega) (by have:=wP C;omega))
 have I:=aB (KZ fs (gA c) d g ⟨s1,0,0⟩);obtain⟨A,m⟩:∃A,A=jE fs (gA c) d g (⟨s1,0,0⟩:bD):=⟨_,rfl⟩;have G:=aB m.symm;rw[<-m] at I;first|rw[<-m] at q|rw[show _=A from m.symm] at q
 clear m;have W:=aA a.blk (i:=0) rfl;have S:=aA a.blk (i:=1) rfl;have T:=aA a.blk (i:=2) rfl;have U:=aA a.blk (i:=3) rfl;have aj:=aC a.blk;go_wp2_with fail;refine q.mono ?_;rintro e w2 ⟨y,⟨s2,ak,rfl,B⟩|⟨Y,rfl⟩⟩
 rotate_left
 ·have Z:=aB (a.fb.trans y);have M:=aB Y;clear y Y;go_wp2_with fail;exact⟨rfl,dI.fault (c1:=A) Z M (by rw[t.out,G.out];exact(Stk.walk fs (gA c) d n A))⟩
 have b:=aB (a.step y);have ae:=aB B;subst ak;have an:s2.length+(cC d n+0)<=90000:=mB I rfl (by omega)
 clear y B q W S T U aj;have u:=aB (IH (.iface T1 (.agg F)) n s2 w2 ae (h1.below b.fb.bel) ah (by omega))
 obtain⟨K,v⟩:∃K,K=aP fs (gA c) d n (⟨s2,0,0⟩:bD):=⟨_,rfl⟩;have V:=aB v.symm;first|rw[<-v] at u|rw[show _=K from v.symm] at u
 clear v;have N:=aA b.blk (i:=0) rfl;have Q:=aA b.blk (i:=1) rfl;have O:=aA b.blk (i:=2) rfl;have P:=aA b.blk (i:=3) rfl;have ag:=aC b.blk;go_wp2_with fail;refine u.mono ?_;rintro e w3 ⟨p,⟨s3,ad,rfl,D⟩|⟨L,rfl⟩⟩
 rotate_left
 ·have Z:=aB (b.fb.trans p);have M:=aB L;clear p L;go_wp2_with fail;exact⟨rfl,dI.fault (c1:=K) Z M (by rw[t.out,G.out,V.out];exact Stk.refl K)⟩
 have ai:=aB (b.step p);have ac:=aB D;subst ad;clear p D u N Q O P ag;go_wp2
 go_end0;exact dI.done ai.fb (by rw[t.out,G.out,V.out]) ac
def Fr.keepS{pb b:Nat}{w w':aG}{o:Obj}(a:Fr pb w w')(h:w.heap[b]?=some o)(c:b≠pb):w'.heap[b]?=some o:=by
 rw[a.block b (aC h) c];exact h
def l9(sb:Nat)(src:ByteArray)(n L:Nat)(w:aG)(r:qN)(e:Ending)(w':aG):Prop:=
 Fr sb w w'/\((r.ok=true/\e=aZ (oT ⟨r.sort,r.text,L⟩)/\SC sb src (n+r.size) L w')\/(r.ok=false/\e=cT 3 L))
def nG{sb b m L:Nat}{a:ByteArray}{w wc:aG}(f:Fr sb w wc)(g:SC sb a m L wc)(c:w.heap.size<=b)(h:b≠sb)(e v1 v2 d:aQ):
 Fr sb w ((((wc.setCell (aH b 0) e).setCell (aH b 1) v1).setCell (aH b 2) v2).setCell (aH b 3) d)/\SC sb a m L ((((wc.setCell (aH b 0) e).setCell (aH b 1) v1).setCell (aH b 2) v2).setCell (aH b 3) d):=by
 refine⟨(((f.setCell (ck_ c) _).setCell (ck_ c) _).setCell (ck_ c) _).setCell (ck_ c) _,?_⟩;unfold SC;rw[cm_ _ _ _ _ (by show sb≠b;omega),cm_ _ _ _ _ (by show sb≠b;omega),cm_ _ _ _ _ (by show sb≠b;omega),cm_ _ _ _ _ (by show sb≠b;omega)]
 exact g
def tE(a:ByteArray)(n:Nat):(a.extract n a.size).size=a.size-n:=by simp
def B3(sb:Nat)(a:ByteArray)(n L:Nat)(w:aG)(h:SC sb a n L w)(hs:a.size<=2000000000)(hn:n<=a.size):
 Calls prog 150 #[bH sb] w (l9 sb a n L w (iE (a.data.toList.drop n) true)):=by
 obtain⟨f,r⟩:∃f,f=bP (eR true) (a.data.toList.drop n):=⟨_,rfl⟩
 have aa:f<=a.size-n:=by
  have:=lJ (eR true) (a.data.toList.drop n);rw[r];simpa using this
 have I:=(SC.cells h).1;have u:w.heap.size≠sb:=by omega
 have Y:Hid ((w.alloc (.cells #[Iv0 0,.string ⟨#[]⟩,Iv0 0,Iv0 0] 150)).heap[w.heap.size]?=some (.cells #[Iv0 0,.string ⟨#[]⟩,Iv0 0,Iv0 0] 150 (0,0))):=aO _ _ rfl _;have F:SC sb a n L (w.alloc (.cells #[Iv0 0,.string ⟨#[]⟩,Iv0 0,Iv0 0] 150)):=by unfold SC;rw[cq_ _ _ _ I];exact h
 obtain⟨K,Z,Q,T,M,X⟩:=F.cells;have G:Hid ((w.alloc (.cells #[Iv0 0,.string ⟨#[]⟩,Iv0 0,Iv0 0] 150)).drew.heap[w.heap.size]?=some (.cells #[Iv0 0,.string ⟨#[]⟩,Iv0 0,Iv0 0] 150 (0,0))):=Y;have y:=aB (fun w=>wD (eR true) 176 (fun _ _=>rfl) D4 (a.extract n a.size) w (by rw[tE];omega))
 rw[oB,<-r] at y;have t:=aB (pL sb a n L f (w.alloc (.cells #[Iv0 0,.string ⟨#[]⟩,Iv0 0,Iv0 0] 150)).drew F hs (by omega))
 have s:=aB (RL ((a.data.toList.drop n).take f));obtain⟨k,p⟩:∃k,k=(a.data.toList.drop n).take f:=⟨_,rfl⟩;rw[<-p] at t s;have P:(bs k).size=f:=by rw[gR,p,da_];simp;omega
 have V:Hid (iE (a.data.toList.drop n) true={ sort:=if jK.contains k then 107 else 110,text:=k,size:=f,ok:=decide (f<=16) }):=by
  show _=_
  unfold iE;rw[<-r,<-p];rfl
 rw[V.out];have H1:=aB F;have H:Hid (Fr sb w (w.alloc (.cells #[Iv0 0,.string ⟨#[]⟩,Iv0 0,Iv0 0] 150))):=(Fr.refl _ _).alloc _;clear h F r p V;obtain⟨C,z⟩:∃C,C=jK.contains k:=⟨_,rfl⟩;rw[<-z] at s ⊢
 clear z;obtain⟨E,o⟩:∃E,E=(if C then 107 else 110):=⟨_,rfl⟩
 rw[show (if C=true then 107 else 110)=E from o.symm]
 have D:=aB o;clear o;obtain⟨S,d⟩:∃S:qN,S={ sort:=E,text:=k,size:=f,ok:=decide (f<=16) }:=⟨_,rfl⟩;rw[<-d];have q:=aB d;clear d;go_in
 go_wp2_with fail;go_cut [3] (fun v wc=>v=.string (bs k)/\SC sb a (n+f) L wc/\Fr sb w wc/\wc.heap[w.heap.size]?=some (.cells #[Iv0 0,.string ⟨#[]⟩,Iv0 0,Iv0 0] 150 (0,0)))
 case first=>
  go_region_law (first|(go_simp;go_at_call 147;refine(y _).mono ?_;rintro e w1 ⟨rfl,B⟩;obtain rfl:=B.symm)|(go_simp;go_at_call 175;refine t.mono ?_;rintro e w2 ⟨rfl,g,j⟩;have l:=aB g;have m:=aB (H.drew.trans j);have A:=aB (j.keepS G u);clear g j))
  all_goals
   go_wp2_with fail;go_meet
   case rel=>exact⟨rfl,l,m,A⟩
 case rest=>
  obtain⟨rfl,g,j,b⟩:=hcut;clear Z Q T M X K;obtain⟨K,Z,Q,T,M,X⟩:=g.cells;have l:=aB g;have m:=aB j;have A:=aB b;have W:=aA b (i:=0) rfl;have O:=aA b (i:=1) rfl;have N:=aA b (i:=2) rfl;have U:=aA b (i:=3) rfl;have y0:=aD (i:=0) b;have y1:=aD (i:=1) b;have y2:=aD (i:=2) b;have y3:=aD (i:=3) b;have ab:=aC b;clear g j b t y Y;by_cases x:f<=16
  ·cases C
   all_goals
    have o:=D;clear D;subst o;have d:=q;clear q;subst d;go_wp2_with fail;refine(s _).mono ?_;rintro e w3 ⟨rfl,B⟩;obtain rfl:=B.symm;go_wp2_with fail
    first
     |(refine bodyPost_ret (v:=.agg #[Iv0 1,.string (bs k),Iv0 0,Iv0 L]) (by simp[results,results150,go_sem,W,O,N,U]) rfl ?_
       have c:=nG m l cL u (Iv0 1) (.string (bs k)) (Iv0 0) (Iv0 L);exact⟨c.1,cl_ ⟨by first|rfl|exact decide_eq_true x,rfl,c.2⟩⟩)
     |(refine bodyPost_ret (v:=.agg #[Iv0 0,.string (bs k),Iv0 0,Iv0 L]) (by simp[results,results150,go_sem,W,O,N,U]) rfl ?_
       have c:=nG m l cL u (Iv0 0) (.string (bs k)) (Iv0 0) (Iv0 L);exact⟨c.1,cl_ ⟨by first|rfl|exact decide_eq_true x,rfl,c.2⟩⟩)
  ·have d:=q;clear q;subst d;have J:=aB (tD sb a (n+f) L wc l);go_wp2_with fail;refine J.mono ?_;rintro e w3 ⟨rfl,B⟩;obtain rfl:=B.symm;go_wp2_with fail;exact⟨rfl,m,ck_ ⟨by first|rfl|exact decide_eq_false x,rfl⟩⟩
end Go.Proofs.YtmjbnmpamlainaaGreatDoor
