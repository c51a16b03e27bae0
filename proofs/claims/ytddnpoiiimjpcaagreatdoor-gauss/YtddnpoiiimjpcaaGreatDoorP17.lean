/- Contracts of the program: names: each sort of nodes. -/
import Derived.Test.YtddnpoiiimjpcaaGreatDoorP08
import Derived.Test.YtddnpoiiimjpcaaGreatDoorP16
set_option linter.defProp false
set_option maxRecDepth 100000
set_option maxHeartbeats 4000000
namespace Go.Proofs.YtddnpoiiimjpcaaGreatDoor
open Hs
open _root_.Go.Proofs.Tryz
open Go.RowKit
def PN.parts{F:cC}{w:aH}{v:aQ}{a:aC}(h:PN F w v a):∃T c b,v=.iface T (.agg c)/\Shape T c a b/\∀p∈b,p.ok F w:=by
 obtain⟨d,h⟩:=h;cases d with
 |zero=>exact h.elim
 |succ d=>
  obtain⟨T,c,b,g,f,i⟩:=h;exact⟨T,c,b,g,f,fun p e=>(i p e).mono (fun _ _ h=>⟨d,h⟩) eD⟩
def Prt.ok.one'{F:cC}{w:aH}{v:aQ}{a:aC}(h:Prt.ok F w ⟨v,[a],true⟩):PN F w v a:=by
 rcases h with ⟨_,b,c,d⟩|⟨c,_⟩
 ·cases c;exact d
 ·cases c
def Prt.ok.many{F:cC}{w:aH}{v:aQ}{l:List aC}(h:Prt.ok F w ⟨v,l,false⟩):PKid F w v l:=by
 rcases h with ⟨b,_⟩|⟨_,a⟩
 ·cases b
 ·exact a
structure Loc(cb tp:Nat)(w0:aH)(b:Nat)(o:Obj)(W:aH):Prop where
 fb:FB cb tp w0 W
 blk:W.heap[b]?=some o
 row:kW cb W≠some b
 ne:b≠cb
def Loc.new{cb c lo:Nat}{fs:List aC}{f:aQ}{w:aH}{seen:cO}(h:CK cb c lo fs f w seen)(o:Obj):Loc cb c w w.heap.size o (w.alloc o)/\CK cb c lo fs f (w.alloc o) seen:=by
 have a:=h.lt;have d:Below w.heap.size w (w.alloc o):=(Y8 _ _).alloc dH _;refine⟨⟨FB.of_below d a,aU _ _ rfl _,fun e=>?_,by omega⟩,h.grow d⟩
 obtain⟨i,b,g,_⟩:=h.blk;rw[nT (d.block cb a.1),mO b] at e;have:=cP g _ e;omega
def Loc.step{cb a b:Nat}{o:Obj}{d W f:aH}(h:Loc cb a d b o W)(c:FB cb a W f):Loc cb a d b o f:=
 ⟨h.fb.trans c,(c.blk b (aD h.blk) h.ne h.row).trans h.blk,fun e=>by
   rcases c.row _ e with e|e
   ·exact h.row e
   ·have:=aD h.blk;omega,h.ne⟩
def rI(cb tp lo:Nat)(fs:List aC)(fv:aQ)(d:Nat):Prop:=
 ∀(v:aQ) (b:aC) (seen:cO) (w:aH),CK cb tp lo fs fv w seen->b.op=[98,108,111,99,107]->PKid (Btw lo tp) w v b.kids->fF d b->seen.length+bY d b<=90000->
  Calls prog 128 #[bO cb,v] w (dB cb tp lo fs fv w (aN fs (fU fv) d b ⟨seen,0,0⟩))
def uD{d:Nat}{l:List aC}(h:∀k∈l,fF d k):l.length<=(l.map (bY d)).sum:=by
 cases d with
 |zero=>
  cases l with
  |nil=>simp
  |cons x l=>exact(h x (j0 ..)).elim
 |succ d=>exact oK d l
def PD{cb f lo:Nat}{fs:List aC}{a:aQ}{d:Nat}(l:mE cb f lo fs a d):rI cb f lo fs a (d+1):=by
 intro v b seen w h c i g e;rw[bY] at e
 have k:aN fs (fU a) (d+1) b ⟨seen,0,0⟩={ iP fs (fU a) d b.kids ⟨seen,0,0⟩ with seen:=(iP fs (fU a) d b.kids ⟨seen,0,0⟩).seen.take seen.length }:=by
  rw[aN,if_neg (by rw[c];decide)]
  simp only[cG,c];rfl
 have j:=uD g;rw[k];exact xE cb f lo fs a d l v b.kids seen w h i g (by omega) (by omega)
def WP{cb b lo:Nat}{fs:List aC}{a:aQ}(d:Nat)(g:mE cb b lo fs a d)(seen:cO)(w:aH)(h:CK cb b lo fs a w seen)(f:seen.length<=90000):
 Calls prog 128 #[bO cb,bV] w (dB cb b lo fs a w ⟨seen,0,0⟩):=by
 have:=xE cb b lo fs a d g (bV) [] seen w h (Y4 ⟨rfl,rfl⟩) (fun k c=>by cases c) (by simpa using f) (by simp)
 have e:({ iP fs (fU a) d [] ⟨seen,0,0⟩ with seen:=(iP fs (fU a) d [] ⟨seen,0,0⟩).seen.take seen.length }:aZ)=⟨seen,0,0⟩:=by
  show (⟨seen.take seen.length,0,0⟩:aZ)=_
  rw[List.take_length]
 rw[e] at this;exact this
def kY{a:aZ}{s t:cO}{m n k:Nat}(h:Adds a ⟨t,0,0⟩ m)(c:a.seen=s)(f:s.length+(m+k)<=n):t.length+k<=n:=by
 obtain⟨x,d,e⟩:=h;have b:t=s++x:=by rw[<-c];exact d
 rw[b,Y5];omega
def zI(s:aZ)(l:Nat)(x:cE):aZ:=if s.seen.contains x then s else s.found l 6
def UW(s:aZ)(l:Nat)(x:cE):Adds s (zI s l x) 0:=Adds.of_eq (by unfold zI;split<;>first|rfl|exact nC _ _ _)
def ZM(cb a lo:Nat)(fs:List aC)(b:aQ)(w:aH)(seen:cO)(h:CK cb a lo fs b w seen)(c:seen.length<=100000)(l:Nat)(x:cE):
 Calls prog 126 #[bO cb,.agg #[Iv0 l,.string (bs x)]] w (dB cb a lo fs b w (zI ⟨seen,0,0⟩ l x)):=J8 cb a lo fs b w seen h c l x
def FU(cb a lo:Nat)(fs:List aC)(b:aQ)(seen:cO)(w:aH)(h:CK cb a lo fs b w seen)(l k:Nat):
 Calls prog 91 #[bO cb,.iface 279 (.agg #[Iv0 l,Iv0 k])] w (dB cb a lo fs b w ⟨seen,0,0⟩):=by
 have H:=aB h;have f:=tP;have j:=uZ;have q:=GY;have m:=xS;have o:=uX;have n:=xU;have i:=zX;have g:=sP;have p:=zW;have e:=xV;have c:=xT;have d:=uY;clear h;go_in
 go_wp2
 go_end0;exact dB.done (FB.refl _) rfl H
def WT(cb a lo:Nat)(fs:List aC)(b:aQ)(seen:cO)(w:aH)(h:CK cb a lo fs b w seen)(l:Nat)(x:ByteArray):
 Calls prog 91 #[bO cb,.iface 280 (.agg #[Iv0 l,.string x])] w (dB cb a lo fs b w ⟨seen,0,0⟩):=by
 have H:=aB h;have f:=tN;have j:=uV;have p:=GX;have k:=xM;have n:=uT;have m:=xO;have i:=zT;have g:=sO;have o:=zS;have e:=xP;have c:=xN;have d:=uU;clear h;go_in
 go_wp2
 go_end0;exact dB.done (FB.refl _) rfl H
def L8(cb a lo:Nat)(fs:List aC)(b:aQ)(seen:cO)(w:aH)(h:CK cb a lo fs b w seen)(l:Nat)(x:Bool):
 Calls prog 91 #[bO cb,.iface 282 (.agg #[Iv0 l,.bool x])] w (dB cb a lo fs b w ⟨seen,0,0⟩):=by
 have H:=aB h;have f:=yA;have j:=AH;have p:=QA;have k:=DM;have n:=AF;have m:=DO;have i:=ID;have g:=vC;have o:=IC;have e:=DP;have c:=DN;have d:=AG;clear h;go_in
 go_wp2
 go_end0;exact dB.done (FB.refl _) rfl H
def L7(cb r lo:Nat)(fs:List aC)(q:aQ)(d:Nat)(C:mE cb r lo fs q d)(seen:cO)(w:aH)(h:CK cb r lo fs q w seen)(l:Nat)(u1:aQ)(b:List aC)(z:PKid (Btw lo r) w u1 b)(j:∀k∈b,fF d k)(B:seen.length+((b.map (bY d)).sum+0)<=90000):
 Calls prog 91 #[bO cb,.iface 229 (.agg #[Iv0 l,u1])] w (dB cb r lo fs q w (iP fs (fU q) d b ⟨seen,0,0⟩)):=by
 obtain⟨y,u,rfl⟩:=z.slice;have F:=xW;have I:=zZ;have O:=PY;have J:=DG;have L:=zY;have K:=DH;have H:=IA;have G:=vA;have N:=GZ;obtain⟨n,a⟩:=Loc.new h (.cells #[Iv0 l,(.slice y b.length u)] 229);have m:=aB n;have x:=aB a;clear h n a;go_in
 have c:=aB (C (.slice y b.length u) b seen (w.alloc (.cells #[Iv0 l,(.slice y b.length u)] 229)) x (z.below m.fb.bel) j (by omega) (by have:=uD j;omega))
 obtain⟨o,g⟩:∃o,o=iP fs (fU q) d b (⟨seen,0,0⟩:aZ):=⟨_,rfl⟩;have p:=aB g.symm;first|rw[<-g] at c|rw[show _=o from g.symm] at c
 clear g;go_wp2_with fail;refine c.mono ?_;rintro e E ⟨f,⟨M,s,rfl,i⟩|⟨a,rfl⟩⟩
 rotate_left
 ·have A:=aB (m.fb.trans f);have D:=aB a;clear f a;go_wp2_with fail;exact⟨rfl,dB.fault (c1:=o) A D (by rw[p.out];exact Stk.refl o)⟩
 have v:=aB (m.step f);have t:=aB i;subst s;clear f i c;go_wp2
 go_end0;exact dB.done v.fb (by rw[p.out]) t
def C8(cb q lo:Nat)(fs:List aC)(p:aQ)(d:Nat)(D:jS cb q lo fs p d)(seen:cO)(w:aH)(h:CK cb q lo fs p w seen)(l:Nat)(x:ByteArray)(v1:aQ)(k:aC)(z:PN (Btw lo q) w v1 k)(u:fF d k)(C:seen.length+(bY d k+0)<=90000):
 Calls prog 91 #[bO cb,.iface 233 (.agg #[Iv0 l,.string x,v1])] w (dB cb q lo fs p w (aN fs (fU p) d k ⟨seen,0,0⟩)):=by
 obtain⟨s,j,rfl⟩:=z.form;have H:=uS;have K:=xL;have Q:=LE;have L:=zO;have N:=xK;have M:=zQ;have J:=DF;have I:=tM;have P:=DE;have G:=zR;have B:=zP;obtain⟨m,a⟩:=Loc.new h (.cells #[Iv0 l,.string x,(.iface s (.agg j))] 233);have i:=aB m;have y:=aB a;clear h m a;go_in
 have b:=aB (D (.iface s (.agg j)) k seen (w.alloc (.cells #[Iv0 l,.string x,(.iface s (.agg j))] 233)) y (z.below i.fb.bel) u (by omega))
 obtain⟨n,f⟩:∃n,n=aN fs (fU p) d k (⟨seen,0,0⟩:aZ):=⟨_,rfl⟩;have o:=aB f.symm;first|rw[<-f] at b|rw[show _=n from f.symm] at b
 clear f;go_wp2_with fail;refine b.mono ?_;rintro e F ⟨c,⟨O,r,rfl,g⟩|⟨a,rfl⟩⟩
 rotate_left
 ·have A:=aB (i.fb.trans c);have E:=aB a;clear c a;go_wp2_with fail;exact⟨rfl,dB.fault (c1:=n) A E (by rw[o.out];exact Stk.refl n)⟩
 have v:=aB (i.step c);have t:=aB g;subst r;clear c g b;go_wp2
 go_end0;exact dB.done v.fb (by rw[o.out]) t
def WU(cb q lo:Nat)(fs:List aC)(p:aQ)(d:Nat)(B:jS cb q lo fs p d)(seen:cO)(w:aH)(h:CK cb q lo fs p w seen)(l:Nat)(v1:aQ)(k:aC)(y:PN (Btw lo q) w v1 k)(u:fF d k)(A:seen.length+(bY d k+0)<=90000):
 Calls prog 91 #[bO cb,.iface 221 (.agg #[Iv0 l,v1])] w (dB cb q lo fs p w (aN fs (fU p) d k ⟨seen,0,0⟩)):=by
 obtain⟨s,j,rfl⟩:=y.form;have E:=nD;have F:=nS;have J:=tO;have G:=oW;have H:=nR;obtain⟨m,a⟩:=Loc.new h (.cells #[Iv0 l,(.iface s (.agg j))] 221);have i:=aB m;have x:=aB a;clear h m a;go_in
 have b:=aB (B (.iface s (.agg j)) k seen (w.alloc (.cells #[Iv0 l,(.iface s (.agg j))] 221)) x (y.below i.fb.bel) u (by omega))
 obtain⟨n,f⟩:∃n,n=aN fs (fU p) d k (⟨seen,0,0⟩:aZ):=⟨_,rfl⟩;have o:=aB f.symm;first|rw[<-f] at b|rw[show _=n from f.symm] at b
 clear f;go_wp2_with fail;refine b.mono ?_;rintro e D ⟨c,⟨I,r,rfl,g⟩|⟨a,rfl⟩⟩
 rotate_left
 ·have z:=aB (i.fb.trans c);have C:=aB a;clear c a;go_wp2_with fail;exact⟨rfl,dB.fault (c1:=n) z C (by rw[o.out];exact Stk.refl n)⟩
 have v:=aB (i.step c);have t:=aB g;subst r;clear c g b;go_wp2
 go_end0;exact dB.done v.fb (by rw[o.out]) t
def C9(cb q lo:Nat)(fs:List aC)(p:aQ)(d:Nat)(B:jS cb q lo fs p d)(seen:cO)(w:aH)(h:CK cb q lo fs p w seen)(l:Nat)(v1:aQ)(k:aC)(y:PN (Btw lo q) w v1 k)(u:fF d k)(A:seen.length+(bY d k+0)<=90000):
 Calls prog 91 #[bO cb,.iface 222 (.agg #[Iv0 l,v1])] w (dB cb q lo fs p w (aN fs (fU p) d k ⟨seen,0,0⟩)):=by
 obtain⟨s,j,rfl⟩:=y.form;have E:=uW;have F:=xR;have K:=LF;have G:=zU;have I:=xQ;have H:=zV;obtain⟨m,a⟩:=Loc.new h (.cells #[Iv0 l,(.iface s (.agg j))] 222);have i:=aB m;have x:=aB a;clear h m a;go_in
 have b:=aB (B (.iface s (.agg j)) k seen (w.alloc (.cells #[Iv0 l,(.iface s (.agg j))] 222)) x (y.below i.fb.bel) u (by omega))
 obtain⟨n,f⟩:∃n,n=aN fs (fU p) d k (⟨seen,0,0⟩:aZ):=⟨_,rfl⟩;have o:=aB f.symm;first|rw[<-f] at b|rw[show _=n from f.symm] at b
 clear f;go_wp2_with fail;refine b.mono ?_;rintro e D ⟨c,⟨J,r,rfl,g⟩|⟨a,rfl⟩⟩
 rotate_left
 ·have z:=aB (i.fb.trans c);have C:=aB a;clear c a;go_wp2_with fail;exact⟨rfl,dB.fault (c1:=n) z C (by rw[o.out];exact Stk.refl n)⟩
 have v:=aB (i.step c);have t:=aB g;subst r;clear c g b;go_wp2
 go_end0;exact dB.done v.fb (by rw[o.out]) t
def D0(cb D lo:Nat)(fs:List aC)(n:aQ)(d:Nat)(Y:jS cb D lo fs n d)(seen:cO)(w:aH)(h:CK cb D lo fs n w seen)(l:Nat)(v1:aQ)(v:aC)(X:PN (Btw lo D) w v1 v)(P:fF d v)(v2:aQ)(q:aC)(W:PN (Btw lo D) w v2 q)(H:fF d q)(ab:seen.length+(bY d v+(bY d q+0))<=90000):
 Calls prog 91 #[bO cb,.iface 231 (.agg #[Iv0 l,v1,v2])] w (dB cb D lo fs n w (aN fs (fU n) d q (aN fs (fU n) d v ⟨seen,0,0⟩))):=by
 obtain⟨J,u,rfl⟩:=X.form;obtain⟨V,r,rfl⟩:=W.form;have q0:=vB;have q1:=xY;have q2:=LG;have q3:=AA;have q4:=xX;have q5:=AB;have q6:=DJ;have q7:=tQ;have q8:=DI;have q9:=AC;obtain⟨z,b⟩:=Loc.new h (.cells #[Iv0 l,(.iface J (.agg u)),(.iface V (.agg r))] 231);have t:=aB z;have U:=aB b;clear h z b;go_in
 have f:=aB (Y (.iface J (.agg u)) v seen (w.alloc (.cells #[Iv0 l,(.iface J (.agg u)),(.iface V (.agg r))] 231)) U (X.below t.fb.bel) P (by omega))
 have F:=aB (gA fs (fU n) d v ⟨seen,0,0⟩);obtain⟨C,c⟩:∃C,C=aN fs (fU n) d v (⟨seen,0,0⟩:aZ):=⟨_,rfl⟩;have x:=aB c.symm;rw[<-c] at F;first|rw[<-c] at f|rw[show _=C from c.symm] at f
 clear c;go_wp2_with fail;refine f.mono ?_;rintro e Z ⟨j,⟨S,I,rfl,o⟩|⟨b,rfl⟩⟩
 rotate_left
 ·have M:=aB (t.fb.trans j);have T:=aB b;clear j b;go_wp2_with fail;exact⟨rfl,dB.fault (c1:=C) M T (by rw[x.out];exact(Stk.walk fs (fU n) d q C))⟩
 have a:=aB (t.step j);have K:=aB o;subst I;have aa:S.length+(bY d q+0)<=90000:=kY F rfl (by omega)
 clear j o f;have k:=aB (Y (.iface V (.agg r)) q S Z K (W.below a.fb.bel) H (by omega))
 obtain⟨s,g⟩:∃s,s=aN fs (fU n) d q (⟨S,0,0⟩:aZ):=⟨_,rfl⟩;have G:=aB g.symm;first|rw[<-g] at k|rw[show _=s from g.symm] at k
 clear g;have E:=aA a.blk (i:=0) rfl;have A:=aA a.blk (i:=1) rfl;have B:=aA a.blk (i:=2) rfl;have N:=aD a.blk;go_wp2_with fail;refine k.mono ?_;rintro e w2 ⟨m,⟨s2,O,rfl,p⟩|⟨y,rfl⟩⟩
 rotate_left
 ·have M:=aB (a.fb.trans m);have T:=aB y;clear m y;go_wp2_with fail;exact⟨rfl,dB.fault (c1:=s) M T (by rw[x.out,G.out];exact Stk.refl s)⟩
 have L:=aB (a.step m);have Q:=aB p;subst O;clear m p k E A B N;go_wp2
 go_end0;exact dB.done L.fb (by rw[x.out,G.out]) Q
def WV(cb F lo:Nat)(fs:List aC)(n:aQ)(d:Nat)(IH:jS cb F lo fs n d)(seen:cO)(w:aH)(h:CK cb F lo fs n w seen)(l:Nat)(x:ByteArray)(v1:aQ)(v:aC)(Z:PN (Btw lo F) w v1 v)(S:fF d v)(v2:aQ)(q:aC)(Y:PN (Btw lo F) w v2 q)(J:fF d q)(ac:seen.length+(bY d v+(bY d q+0))<=90000):
 Calls prog 91 #[bO cb,.iface 235 (.agg #[Iv0 l,.string x,v1,v2])] w (dB cb F lo fs n w (aN fs (fU n) d q (aN fs (fU n) d v ⟨seen,0,0⟩))):=by
 obtain⟨L,u,rfl⟩:=Z.form;obtain⟨X,r,rfl⟩:=Y.form;have q0:=tS;have q1:=vF;have q2:=IE;have q3:=yB;have q4:=vD;have q5:=yD;have q6:=AJ;have q7:=sR;have q8:=AI;have q9:=yE;have ab:=yC;have ad:=vE;obtain⟨A,b⟩:=Loc.new h (.cells #[Iv0 l,.string x,(.iface L (.agg u)),(.iface X (.agg r))] 235);have t:=aB A;have W:=aB b;clear h A b;go_in
 have f:=aB (IH (.iface L (.agg u)) v seen (w.alloc (.cells #[Iv0 l,.string x,(.iface L (.agg u)),(.iface X (.agg r))] 235)) W (Z.below t.fb.bel) S (by omega))
 have H:=aB (gA fs (fU n) d v ⟨seen,0,0⟩);obtain⟨E,c⟩:∃E,E=aN fs (fU n) d v (⟨seen,0,0⟩:aZ):=⟨_,rfl⟩;have y:=aB c.symm;rw[<-c] at H;first|rw[<-c] at f|rw[show _=E from c.symm] at f
 clear c;go_wp2_with fail;refine f.mono ?_;rintro e w1 ⟨j,⟨T,K,rfl,o⟩|⟨b,rfl⟩⟩
 rotate_left
 ·have O:=aB (t.fb.trans j);have V:=aB b;clear j b;go_wp2_with fail;exact⟨rfl,dB.fault (c1:=E) O V (by rw[y.out];exact(Stk.walk fs (fU n) d q E))⟩
 have a:=aB (t.step j);have M:=aB o;subst K;have aa:T.length+(bY d q+0)<=90000:=kY H rfl (by omega)
 clear j o f;have k:=aB (IH (.iface X (.agg r)) q T w1 M (Y.below a.fb.bel) J (by omega))
 obtain⟨s,g⟩:∃s,s=aN fs (fU n) d q (⟨T,0,0⟩:aZ):=⟨_,rfl⟩;have I:=aB g.symm;first|rw[<-g] at k|rw[show _=s from g.symm] at k
 clear g;have G:=aA a.blk (i:=0) rfl;have B:=aA a.blk (i:=1) rfl;have C:=aA a.blk (i:=2) rfl;have D:=aA a.blk (i:=3) rfl;have P:=aD a.blk;go_wp2_with fail;refine k.mono ?_;rintro e w2 ⟨m,⟨s2,Q,rfl,p⟩|⟨z,rfl⟩⟩
 rotate_left
 ·have O:=aB (a.fb.trans m);have V:=aB z;clear m z;go_wp2_with fail;exact⟨rfl,dB.fault (c1:=s) O V (by rw[y.out,I.out];exact Stk.refl s)⟩
 have N:=aB (a.step m);have U:=aB p;subst Q;clear m p k G B C D P;go_wp2
 go_end0;exact dB.done N.fb (by rw[y.out,I.out]) U
def C7(cb x lo:Nat)(fs:List aC)(g:aQ)(d:Nat)(IH:jS cb x lo fs g d)(Q:rI cb x lo fs g d)(seen:cO)(w:aH)(h:CK cb x lo fs g w seen)(l:Nat)(v1:aQ)(u:aC)(Z:PN (Btw lo x) w v1 u)(P:fF d u)(u2:aQ)(b:aC)(H:b.op=[98,108,111,99,107])(Y:PKid (Btw lo x) w u2 b.kids)(B:fF d b)(ab:seen.length+(bY d u+(bY d b+0))<=90000):
 Calls prog 91 #[bO cb,.iface 219 (.agg #[Iv0 l,v1,u2])] w (dB cb x lo fs g w (aN fs (fU g) d b (aN fs (fU g) d u ⟨seen,0,0⟩))):=by
 obtain⟨J,t,rfl⟩:=Z.form;obtain⟨V,X,rfl⟩:=Y.slice;have q0:=uQ;have q1:=xJ;have q2:=LD;have q3:=zM;obtain⟨z,c⟩:=Loc.new h (.cells #[Iv0 l,(.iface J (.agg t)),(.slice V b.kids.length X)] 219);have s:=aB z;have W:=aB c;clear h z c;go_in
 have j:=aB (IH (.iface J (.agg t)) u seen (w.alloc (.cells #[Iv0 l,(.iface J (.agg t)),(.slice V b.kids.length X)] 219)) W (Z.below s.fb.bel) P (by omega))
 have F:=aB (gA fs (fU g) d u ⟨seen,0,0⟩);obtain⟨D,f⟩:∃D,D=aN fs (fU g) d u (⟨seen,0,0⟩:aZ):=⟨_,rfl⟩;have v:=aB f.symm;rw[<-f] at F;first|rw[<-f] at j|rw[show _=D from f.symm] at j
 clear f;go_wp2_with fail;refine j.mono ?_;rintro e w1 ⟨m,⟨T,I,rfl,p⟩|⟨c,rfl⟩⟩
 rotate_left
 ·have M:=aB (s.fb.trans m);have U:=aB c;clear m c;go_wp2_with fail;exact⟨rfl,dB.fault (c1:=D) M U (by rw[v.out];exact(Stk.walk fs (fU g) d b D))⟩
 have a:=aB (s.step m);have K:=aB p;subst I;have aa:T.length+(bY d b+0)<=90000:=kY F rfl (by omega)
 clear m p j;have n:=aB (Q (.slice V b.kids.length X) b T w1 K H (Y.below a.fb.bel) B (by omega))
 obtain⟨r,k⟩:∃r,r=aN fs (fU g) d b (⟨T,0,0⟩:aZ):=⟨_,rfl⟩;have G:=aB k.symm;first|rw[<-k] at n|rw[show _=r from k.symm] at n
 clear k;have E:=aA a.blk (i:=0) rfl;have A:=aA a.blk (i:=1) rfl;have C:=aA a.blk (i:=2) rfl;have N:=aD a.blk;go_wp2_with fail;refine n.mono ?_;rintro e w2 ⟨o,⟨s2,O,rfl,q⟩|⟨y,rfl⟩⟩
 rotate_left
 ·have M:=aB (a.fb.trans o);have U:=aB y;clear o y;go_wp2_with fail;exact⟨rfl,dB.fault (c1:=r) M U (by rw[v.out,G.out];exact Stk.refl r)⟩
 have L:=aB (a.step o);have S:=aB q;subst O;clear o q n E A C N;go_wp2
 go_end0;exact dB.done L.fb (by rw[v.out,G.out]) S
def W4(cb B lo:Nat)(fs:List aC)(c:aQ)(d:Nat)(IH:jS cb B lo fs c d)(W:rI cb B lo fs c d)(seen:cO)(w:aH)(h:CK cb B lo fs c w seen)(l:Nat)(v1:aQ)(D:aC)(h1:PN (Btw lo B) w v1 D)(aj:fF d D)(u2:aQ)(g:aC)(J:g.op=[98,108,111,99,107])(g2:PKid (Btw lo B) w u2 g.kids)(L:fF d g)(u3:aQ)(f:aC)(ab:f.op=[98,108,111,99,107])(g3:PKid (Btw lo B) w u3 f.kids)(I:fF d f)(ao:seen.length+(bY d D+(bY d g+(bY d f+0)))<=90000):
 Calls prog 91 #[bO cb,.iface 217 (.agg #[Iv0 l,v1,u2,u3])] w (dB cb B lo fs c w (aN fs (fU c) d f (aN fs (fU c) d g (aN fs (fU c) d D ⟨seen,0,0⟩)))):=by
 obtain⟨T1,C,rfl⟩:=h1.form;obtain⟨x2,y2,rfl⟩:=g2.slice;obtain⟨x3,y3,rfl⟩:=g3.slice;have q0:=rQ;have q1:=tR;have q2:=LH;obtain⟨F,k⟩:=Loc.new h (.cells #[Iv0 l,(.iface T1 (.agg C)),(.slice x2 g.kids.length y2),(.slice x3 f.kids.length y3)] 217);have A:=aB F;have ac:=aB k;clear h F k;go_in
 have q:=aB (IH (.iface T1 (.agg C)) D seen (w.alloc (.cells #[Iv0 l,(.iface T1 (.agg C)),(.slice x2 g.kids.length y2),(.slice x3 f.kids.length y3)] 217)) ac (h1.below A.fb.bel) aj (by omega))
 have Y:=aB (gA fs (fU c) d D ⟨seen,0,0⟩);obtain⟨Z,j⟩:∃Z,Z=aN fs (fU c) d D (⟨seen,0,0⟩:aZ):=⟨_,rfl⟩;have r:=aB j.symm;rw[<-j] at Y;first|rw[<-j] at q|rw[show _=Z from j.symm] at q
 clear j;go_wp2_with fail;refine q.mono ?_;rintro e w1 ⟨n,⟨s1,ah,rfl,v⟩|⟨k,rfl⟩⟩
 rotate_left
 ·have HB:=aB (A.fb.trans n);have M:=aB k;clear n k;go_wp2_with fail;exact⟨rfl,dB.fault (c1:=Z) HB M (by rw[r.out];exact((Stk.walk fs (fU c) d g Z)).trans (Stk.walk fs (fU c) d f _))⟩
 have a:=aB (A.step n);have ad:=aB v;subst ah;have an:s1.length+(bY d g+(bY d f+0))<=90000:=kY Y rfl (by omega)
 clear n v q;have p:=aB (W (.slice x2 g.kids.length y2) g s1 w1 ad J (g2.below a.fb.bel) L (by omega))
 have G:=aB (gA fs (fU c) d g ⟨s1,0,0⟩);obtain⟨x,m⟩:∃x,x=aN fs (fU c) d g (⟨s1,0,0⟩:aZ):=⟨_,rfl⟩;have E:=aB m.symm;rw[<-m] at G;first|rw[<-m] at p|rw[show _=x from m.symm] at p
 clear m;have X:=aA a.blk (i:=0) rfl;have S:=aA a.blk (i:=1) rfl;have T:=aA a.blk (i:=2) rfl;have U:=aA a.blk (i:=3) rfl;have al:=aD a.blk;go_wp2_with fail;refine p.mono ?_;rintro e w2 ⟨u,⟨s2,am,rfl,y⟩|⟨aa,rfl⟩⟩
 rotate_left
 ·have HB:=aB (a.fb.trans u);have M:=aB aa;clear u aa;go_wp2_with fail;exact⟨rfl,dB.fault (c1:=x) HB M (by rw[r.out,E.out];exact(Stk.walk fs (fU c) d f x))⟩
 have b:=aB (a.step u);have ag:=aB y;subst am;have ap:s2.length+(bY d f+0)<=90000:=kY G rfl (by omega)
 clear u y p X S T U al;have s:=aB (W (.slice x3 f.kids.length y3) f s2 w2 ag ab (g3.below b.fb.bel) I (by omega))
 obtain⟨H,t⟩:∃H,H=aN fs (fU c) d f (⟨s2,0,0⟩:aZ):=⟨_,rfl⟩;have V:=aB t.symm;first|rw[<-t] at s|rw[show _=H from t.symm] at s
 clear t;have N:=aA b.blk (i:=0) rfl;have Q:=aA b.blk (i:=1) rfl;have O:=aA b.blk (i:=2) rfl;have P:=aA b.blk (i:=3) rfl;have ai:=aD b.blk;go_wp2_with fail;refine s.mono ?_;rintro e w3 ⟨o,⟨s3,af,rfl,z⟩|⟨K,rfl⟩⟩
 rotate_left
 ·have HB:=aB (b.fb.trans o);have M:=aB K;clear o K;go_wp2_with fail;exact⟨rfl,dB.fault (c1:=H) HB M (by rw[r.out,E.out,V.out];exact Stk.refl H)⟩
 have ak:=aB (b.step o);have ae:=aB z;subst af;clear o z s N Q O P ai;go_wp2
 go_end0;exact dB.done ak.fb (by rw[r.out,E.out,V.out]) ae
def S9(cb A lo:Nat)(fs:List aC)(f:aQ)(d:Nat)(IH:jS cb A lo fs f d)(HN:mE cb A lo fs f d)(ai:rI cb A lo fs f d)(seen:cO)(w:aH)(h:CK cb A lo fs f w seen)(l:Nat)(v1:aQ)(C:aC)(h1:PN (Btw lo A) w v1 C)(ah:fF d C)(u2:aQ)(c:aC)(H:c.op=[98,108,111,99,107])(g2:PKid (Btw lo A) w u2 c.kids)(J:fF d c)(an:seen.length+(bY d C+(bY d c+(0+0)))<=90000):
 Calls prog 91 #[bO cb,.iface 217 (.agg #[Iv0 l,v1,u2,bV])] w (dB cb A lo fs f w ((aN fs (fU f) d c (aN fs (fU f) d C ⟨seen,0,0⟩)))):=by
 obtain⟨T1,B,rfl⟩:=h1.form;obtain⟨x2,y2,rfl⟩:=g2.slice;have q0:=rQ;have q1:=tR;have q2:=LH;obtain⟨E,j⟩:=Loc.new h (.cells #[Iv0 l,(.iface T1 (.agg B)),(.slice x2 c.kids.length y2),bV] 217);have z:=aB E;have aa:=aB j;clear h E j;go_in
 have p:=aB (IH (.iface T1 (.agg B)) C seen (w.alloc (.cells #[Iv0 l,(.iface T1 (.agg B)),(.slice x2 c.kids.length y2),bV] 217)) aa (h1.below z.fb.bel) ah (by omega))
 have V:=aB (gA fs (fU f) d C ⟨seen,0,0⟩);obtain⟨W,g⟩:∃W,W=aN fs (fU f) d C (⟨seen,0,0⟩:aZ):=⟨_,rfl⟩;have q:=aB g.symm;rw[<-g] at V;first|rw[<-g] at p|rw[show _=W from g.symm] at p
 clear g;go_wp2_with fail;refine p.mono ?_;rintro e w1 ⟨m,⟨Z,af,rfl,u⟩|⟨j,rfl⟩⟩
 rotate_left
 ·have Y:=aB (z.fb.trans m);have K:=aB j;clear m j;go_wp2_with fail;exact⟨rfl,dB.fault (c1:=W) Y K (by rw[q.out];exact((Stk.walk fs (fU f) d c W)).trans (Stk.refl _))⟩
 have a:=aB (z.step m);have ab:=aB u;subst af;have am:Z.length+(bY d c+(0+0))<=90000:=kY V rfl (by omega)
 clear m u p;have o:=aB (ai (.slice x2 c.kids.length y2) c Z w1 ab H (g2.below a.fb.bel) J (by omega))
 have F:=aB (gA fs (fU f) d c ⟨Z,0,0⟩);obtain⟨v,k⟩:∃v,v=aN fs (fU f) d c (⟨Z,0,0⟩:aZ):=⟨_,rfl⟩;have D:=aB k.symm;rw[<-k] at F;first|rw[<-k] at o|rw[show _=v from k.symm] at o
 clear k;have U:=aA a.blk (i:=0) rfl;have P:=aA a.blk (i:=1) rfl;have Q:=aA a.blk (i:=2) rfl;have S:=aA a.blk (i:=3) rfl;have ak:=aD a.blk;go_wp2_with fail;refine o.mono ?_;rintro e w2 ⟨t,⟨s2,al,rfl,x⟩|⟨X,rfl⟩⟩
 rotate_left
 ·have Y:=aB (a.fb.trans t);have K:=aB X;clear t X;go_wp2_with fail;exact⟨rfl,dB.fault (c1:=v) Y K (by rw[q.out,D.out];exact(Stk.refl v))⟩
 have b:=aB (a.step t);have ae:=aB x;subst al;have ao:s2.length+(0+0)<=90000:=kY F rfl (by omega)
 clear t x o U P Q S ak;have r:=aB (WP d HN s2 w2 ae (by omega))
 obtain⟨G,s⟩:∃G,G=(⟨s2,0,0⟩:aZ):=⟨_,rfl⟩;have T:=aB s.symm;first|rw[<-s] at r|rw[show _=G from s.symm] at r
 clear s;have L:=aA b.blk (i:=0) rfl;have O:=aA b.blk (i:=1) rfl;have M:=aA b.blk (i:=2) rfl;have N:=aA b.blk (i:=3) rfl;have ag:=aD b.blk;go_wp2_with fail;refine r.mono ?_;rintro e w3 ⟨n,⟨s3,ad,rfl,y⟩|⟨I,rfl⟩⟩
 rotate_left
 ·have Y:=aB (b.fb.trans n);have K:=aB I;clear n I;go_wp2_with fail;exact⟨rfl,dB.fault (c1:=G) Y K (by rw[q.out,D.out,T.out];exact Stk.refl G)⟩
 have aj:=aB (b.step n);have ac:=aB y;subst ad;clear n y r L O M N ag;go_wp2
 go_end0;exact dB.done aj.fb (by rw[q.out,D.out,T.out]) ac
def MS(cb o lo:Nat)(fs:List aC)(r:aQ)(seen:cO)(w:aH)(h:CK cb o lo fs r w seen)(l:Nat)(x:cE)(t:seen.length+(0+0)<=90000):
 Calls prog 91 #[bO cb,.iface 227 (.agg #[Iv0 l,.string (bs x)])] w (dB cb o lo fs r w (zI ⟨seen,0,0⟩ l x)):=by
 have y:=rL;have B:=sN;have G:=zN;have C:=tK;have E:=sM;have D:=tL;have A:=uR;have z:=pJ;obtain⟨g,a⟩:=Loc.new h (.cells #[Iv0 l,.string (bs x)] 227);have j:=aB g;have q:=aB a;clear h g a;go_in
 have b:=aB (ZM cb o lo fs r (w.alloc (.cells #[Iv0 l,.string (bs x)] 227)) seen q (by omega) l x)
 obtain⟨i,d⟩:∃i,i=zI (⟨seen,0,0⟩:aZ) l x:=⟨_,rfl⟩;have k:=aB d.symm;first|rw[<-d] at b|rw[show _=i from d.symm] at b
 clear d;go_wp2_with fail;refine b.mono ?_;rintro e v ⟨c,⟨F,m,rfl,f⟩|⟨a,rfl⟩⟩
 rotate_left
 ·have s:=aB (j.fb.trans c);have u:=aB a;clear c a;go_wp2_with fail;exact⟨rfl,dB.fault (c1:=i) s u (by rw[k.out];exact Stk.refl i)⟩
 have p:=aB (j.step c);have n:=aB f;subst m;clear c f b;go_wp2
 go_end0;exact dB.done p.fb (by rw[k.out]) n
def WW(cb E lo:Nat)(fs:List aC)(c:aQ)(d:Nat)(IH:jS cb E lo fs c d)(HN:mE cb E lo fs c d)(seen:cO)(w:aH)(h:CK cb E lo fs c w seen)(l:Nat)(x:cE)(u2:aQ)(g:List aC)(g2:PKid (Btw lo E) w u2 g)(C:∀k∈g,fF d k)(v1:aQ)(n:aC)(h1:PN (Btw lo E) w v1 n)(ah:fF d n)(am:seen.length+(0+((g.map (bY d)).sum+(bY d n+0)))<=90000):
 Calls prog 91 #[bO cb,.iface 213 (.agg #[Iv0 l,.string (bs x),u2,v1])] w (dB cb E lo fs c w (aN fs (fU c) d n (iP fs (fU c) d g (zI ⟨seen,0,0⟩ l x)))):=by
 obtain⟨x2,y2,rfl⟩:=g2.slice;obtain⟨T1,F,rfl⟩:=h1.form;have q0:=tT;have q1:=vG;obtain⟨H,j⟩:=Loc.new h (.cells #[Iv0 l,.string (bs x),(.slice x2 g.length y2),(.iface T1 (.agg F))] 213);have J:=aB H;have aa:=aB j;clear h H j;go_in
 have r:=aB (ZM cb E lo fs c (w.alloc (.cells #[Iv0 l,.string (bs x),(.slice x2 g.length y2),(.iface T1 (.agg F))] 213)) seen aa (by omega) l x)
 have X:=aB (UW ⟨seen,0,0⟩ l x);obtain⟨c0,f⟩:∃c0,c0=zI (⟨seen,0,0⟩:aZ) l x:=⟨_,rfl⟩;have t:=aB f.symm;rw[<-f] at X;first|rw[<-f] at r|rw[show _=c0 from f.symm] at r
 clear f;go_wp2_with fail;refine r.mono ?_;rintro e w1 ⟨o,⟨s1,af,rfl,z⟩|⟨j,rfl⟩⟩
 rotate_left
 ·have Z:=aB (J.fb.trans o);have M:=aB j;clear o j;go_wp2_with fail;exact⟨rfl,dB.fault (c1:=c0) Z M (by rw[t.out];exact((Stk.fold (fun s k=>Stk.walk fs (fU c) d k s) _ _)).trans (Stk.walk fs (fU c) d n _))⟩
 have a:=aB (J.step o);have ab:=aB z;subst af;have al:s1.length+((g.map (bY d)).sum+(bY d n+0))<=90000:=kY X rfl (by omega)
 clear o z r;have q:=aB (HN (.slice x2 g.length y2) g s1 w1 ab (g2.below a.fb.bel) C (by omega) (by have:=uD C;omega))
 have I:=aB (GD fs (fU c) d g ⟨s1,0,0⟩);obtain⟨A,m⟩:∃A,A=iP fs (fU c) d g (⟨s1,0,0⟩:aZ):=⟨_,rfl⟩;have G:=aB m.symm;rw[<-m] at I;first|rw[<-m] at q|rw[show _=A from m.symm] at q
 clear m;have W:=aA a.blk (i:=0) rfl;have S:=aA a.blk (i:=1) rfl;have T:=aA a.blk (i:=2) rfl;have U:=aA a.blk (i:=3) rfl;have aj:=aD a.blk;go_wp2_with fail;refine q.mono ?_;rintro e w2 ⟨y,⟨s2,ak,rfl,B⟩|⟨Y,rfl⟩⟩
 rotate_left
 ·have Z:=aB (a.fb.trans y);have M:=aB Y;clear y Y;go_wp2_with fail;exact⟨rfl,dB.fault (c1:=A) Z M (by rw[t.out,G.out];exact(Stk.walk fs (fU c) d n A))⟩
 have b:=aB (a.step y);have ae:=aB B;subst ak;have an:s2.length+(bY d n+0)<=90000:=kY I rfl (by omega)
 clear y B q W S T U aj;have u:=aB (IH (.iface T1 (.agg F)) n s2 w2 ae (h1.below b.fb.bel) ah (by omega))
 obtain⟨K,v⟩:∃K,K=aN fs (fU c) d n (⟨s2,0,0⟩:aZ):=⟨_,rfl⟩;have V:=aB v.symm;first|rw[<-v] at u|rw[show _=K from v.symm] at u
 clear v;have N:=aA b.blk (i:=0) rfl;have Q:=aA b.blk (i:=1) rfl;have O:=aA b.blk (i:=2) rfl;have P:=aA b.blk (i:=3) rfl;have ag:=aD b.blk;go_wp2_with fail;refine u.mono ?_;rintro e w3 ⟨p,⟨s3,ad,rfl,D⟩|⟨L,rfl⟩⟩
 rotate_left
 ·have Z:=aB (b.fb.trans p);have M:=aB L;clear p L;go_wp2_with fail;exact⟨rfl,dB.fault (c1:=K) Z M (by rw[t.out,G.out,V.out];exact Stk.refl K)⟩
 have ai:=aB (b.step p);have ac:=aB D;subst ad;clear p D u N Q O P ag;go_wp2
 go_end0;exact dB.done ai.fb (by rw[t.out,G.out,V.out]) ac
def Fr.keepS{pb b:Nat}{w w':aH}{o:Obj}(a:Fr pb w w')(h:w.heap[b]?=some o)(c:b≠pb):w'.heap[b]?=some o:=by
 rw[a.block b (aD h) c];exact h
def I0(sb:Nat)(src:ByteArray)(n L:Nat)(w:aH)(r:oS)(e:Ending)(w':aH):Prop:=
 Fr sb w w'/\((r.ok=true/\e=bE (nU ⟨r.sort,r.text,L⟩)/\SC sb src (n+r.size) L w')\/(r.ok=false/\e=dF 3 L))
def lZ{sb b m L:Nat}{a:ByteArray}{w wc:aH}(f:Fr sb w wc)(g:SC sb a m L wc)(c:w.heap.size<=b)(h:b≠sb)(e v1 v2 d:aQ):
 Fr sb w ((((wc.setCell (aL b 0) e).setCell (aL b 1) v1).setCell (aL b 2) v2).setCell (aL b 3) d)/\SC sb a m L ((((wc.setCell (aL b 0) e).setCell (aL b 1) v1).setCell (aL b 2) v2).setCell (aL b 3) d):=by
 refine⟨(((f.setCell (Y3 c) _).setCell (Y3 c) _).setCell (Y3 c) _).setCell (Y3 c) _,?_⟩;unfold SC;rw[Y6 _ _ _ _ (by show sb≠b;omega),Y6 _ _ _ _ (by show sb≠b;omega),Y6 _ _ _ _ (by show sb≠b;omega),Y6 _ _ _ _ (by show sb≠b;omega)]
 exact g
def qX(a:ByteArray)(n:Nat):(a.extract n a.size).size=a.size-n:=by simp
def VG(sb:Nat)(a:ByteArray)(n L:Nat)(w:aH)(h:SC sb a n L w)(hs:a.size<=2000000000)(hn:n<=a.size):
 Calls prog 182 #[bO sb] w (I0 sb a n L w (gP (a.data.toList.drop n) true)):=by
 obtain⟨f,r⟩:∃f,f=bL (eK true) (a.data.toList.drop n):=⟨_,rfl⟩
 have aa:f<=a.size-n:=by
  have:=kK (eK true) (a.data.toList.drop n);rw[r];simpa using this
 have I:=(SC.cells h).1;have u:w.heap.size≠sb:=by omega
 have Y:Hid ((w.alloc (.cells #[Iv0 0,.string ⟨#[]⟩,Iv0 0,Iv0 0] 174)).heap[w.heap.size]?=some (.cells #[Iv0 0,.string ⟨#[]⟩,Iv0 0,Iv0 0] 174 (0,0))):=aU _ _ rfl _;have F:SC sb a n L (w.alloc (.cells #[Iv0 0,.string ⟨#[]⟩,Iv0 0,Iv0 0] 174)):=by unfold SC;rw[Z3 _ _ _ I];exact h
 obtain⟨K,Z,Q,T,M,X⟩:=F.cells;have G:Hid ((w.alloc (.cells #[Iv0 0,.string ⟨#[]⟩,Iv0 0,Iv0 0] 174)).drew.heap[w.heap.size]?=some (.cells #[Iv0 0,.string ⟨#[]⟩,Iv0 0,Iv0 0] 174 (0,0))):=Y;have y:=aB (fun w=>tU (eK true) 204 (fun _ _=>rfl) VW (a.extract n a.size) w (by rw[qX];omega))
 rw[mT,<-r] at y;have t:=aB (nQ sb a n L f (w.alloc (.cells #[Iv0 0,.string ⟨#[]⟩,Iv0 0,Iv0 0] 174)).drew F hs (by omega))
 have s:=aB (NE ((a.data.toList.drop n).take f));obtain⟨k,p⟩:∃k,k=(a.data.toList.drop n).take f:=⟨_,rfl⟩;rw[<-p] at t s;have P:(bs k).size=f:=by rw[iM,p,o9];simp;omega
 have V:Hid (gP (a.data.toList.drop n) true={ sort:=if iT.contains k then 107 else 110,text:=k,size:=f,ok:=decide (f<=16) }):=by
  show _=_
  unfold gP;rw[<-r,<-p];rfl
 rw[V.out];have H1:=aB F;have H:Hid (Fr sb w (w.alloc (.cells #[Iv0 0,.string ⟨#[]⟩,Iv0 0,Iv0 0] 174))):=(Fr.refl _ _).alloc _;clear h F r p V;obtain⟨C,z⟩:∃C,C=iT.contains k:=⟨_,rfl⟩;rw[<-z] at s ⊢
 clear z;obtain⟨E,o⟩:∃E,E=(if C then 107 else 110):=⟨_,rfl⟩
 rw[show (if C=true then 107 else 110)=E from o.symm]
 have D:=aB o;clear o;obtain⟨S,d⟩:∃S:oS,S={ sort:=E,text:=k,size:=f,ok:=decide (f<=16) }:=⟨_,rfl⟩;rw[<-d];have q:=aB d;clear d;go_in
 go_wp2_with fail;go_cut [3] (fun v wc=>v=.string (bs k)/\SC sb a (n+f) L wc/\Fr sb w wc/\wc.heap[w.heap.size]?=some (.cells #[Iv0 0,.string ⟨#[]⟩,Iv0 0,Iv0 0] 174 (0,0)))
 case first=>
  go_region_law (first|(go_simp;go_at_call 179;refine(y _).mono ?_;rintro e w1 ⟨rfl,B⟩;obtain rfl:=B.symm)|(go_simp;go_at_call 203;refine t.mono ?_;rintro e w2 ⟨rfl,g,j⟩;have l:=aB g;have m:=aB (H.drew.trans j);have A:=aB (j.keepS G u);clear g j))
  all_goals
   go_wp2_with fail;go_meet
   case rel=>exact⟨rfl,l,m,A⟩
 case rest=>
  obtain⟨rfl,g,j,b⟩:=hcut;clear Z Q T M X K;obtain⟨K,Z,Q,T,M,X⟩:=g.cells;have l:=aB g;have m:=aB j;have A:=aB b;have W:=aA b (i:=0) rfl;have O:=aA b (i:=1) rfl;have N:=aA b (i:=2) rfl;have U:=aA b (i:=3) rfl;have y0:=aE (i:=0) b;have y1:=aE (i:=1) b;have y2:=aE (i:=2) b;have y3:=aE (i:=3) b;have ab:=aD b;clear g j b t y Y;by_cases x:f<=16
  ·cases C
   all_goals
    have o:=D;clear D;subst o;have d:=q;clear q;subst d;go_wp2_with fail;refine(s _).mono ?_;rintro e w3 ⟨rfl,B⟩;obtain rfl:=B.symm;go_wp2_with fail
    first
     |(refine bodyPost_ret (v:=.agg #[Iv0 1,.string (bs k),Iv0 0,Iv0 L]) (by simp[results,results182,go_sem,W,O,N,U]) rfl ?_
       have c:=lZ m l dH u (Iv0 1) (.string (bs k)) (Iv0 0) (Iv0 L);exact⟨c.1,Y4 ⟨by first|rfl|exact decide_eq_true x,rfl,c.2⟩⟩)
     |(refine bodyPost_ret (v:=.agg #[Iv0 0,.string (bs k),Iv0 0,Iv0 L]) (by simp[results,results182,go_sem,W,O,N,U]) rfl ?_
       have c:=lZ m l dH u (Iv0 0) (.string (bs k)) (Iv0 0) (Iv0 L);exact⟨c.1,Y4 ⟨by first|rfl|exact decide_eq_true x,rfl,c.2⟩⟩)
  ·have d:=q;clear q;subst d;have J:=aB (qW sb a (n+f) L wc l);go_wp2_with fail;refine J.mono ?_;rintro e w3 ⟨rfl,B⟩;obtain rfl:=B.symm;go_wp2_with fail;exact⟨rfl,m,Y3 ⟨by first|rfl|exact decide_eq_false x,rfl⟩⟩
end Go.Proofs.YtddnpoiiimjpcaaGreatDoor
