/- Contracts of the program: names: each sort of nodes. -/
import Derived.Test.YtlflgmdcghfngaaGreatDoorP05
import Derived.Test.YtlflgmdcghfngaaGreatDoorP08
set_option linter.defProp false
set_option maxRecDepth 100000
set_option maxHeartbeats 4000000
namespace Go.Proofs.YtlflgmdcghfngaaGreatDoor
open Hs
open _root_.Go.Proofs.Tryz
open Go.RowKit
variable{fs:List aE}{b cb lo:Nat}{w:aG}{v:aQ}{F:bY}
def PN.parts{a:aE}(h:PN F w v a):∃T c b,v=.iface T (.agg c)/\Shape T c a b/\∀p∈b,p.ok F w:=by
 obtain⟨d,h⟩:=h;cases d with
 |zero=>exact h.elim
 |succ d=>
  obtain⟨T,c,b,g,f,i⟩:=h;exact⟨T,c,b,g,f,λp e=>(i p e).mono (λ_ _ h=>⟨d,h⟩) dP⟩
def Prt.ok.one'{a:aE}(h:Prt.ok F w ⟨v,[a],true⟩):PN F w v a:=by
 rcases h with ⟨_,b,c,d⟩|⟨c,_⟩
 ·cases c;exact d
 ·cases c
def Prt.ok.many{l:List aE}(h:Prt.ok F w ⟨v,l,false⟩):PKid F w v l:=by
 rcases h with ⟨b,_⟩|⟨_,a⟩
 ·cases b
 ·exact a
structure Loc(cb tp:Nat)(w0:aG)(b:Nat)(o:Obj)(W:aG):Prop where
 fb:FB cb tp w0 W
 blk:W.heap[b]?=some o
 row:lS cb W≠some b
 ne:b≠cb
def Loc.new{c:Nat}{f:aQ}{e_:cN}(h:CK cb c lo fs f w e_)(o:Obj):Loc cb c w w.heap.size o (w.alloc o)/\CK cb c lo fs f (w.alloc o) e_:=by
 have a:=h.lt;have d:Below w.heap.size w (w.alloc o):=(eh _ _).alloc cL _;refine⟨⟨FB.of_below d a,aN _ _ rfl _,λe=>?_,o_⟩,h.grow d⟩
 obtain⟨i,b,g,_⟩:=h.blk;rw[pW (d.block cb a.1),oE b] at e;have:=cQ g _ e;omega
def Loc.step{a:Nat}{o:Obj}{d W W':aG}(h:Loc cb a d b o W)(c:FB cb a W W'):Loc cb a d b o W':=
 ⟨h.fb.trans c,(c.blk b (aC h.blk) h.ne h.row).trans h.blk,λe=>by
   rcases c.row _ e with e|e
   ·exact h.row e
   ·have:=aC h.blk;omega,h.ne⟩
def uI(cb tp lo:Nat)(fs:List aE)(fv:aQ)(d:Nat):Prop:=
 ∀(v:aQ) (b:aE) (e_:cN) (w:aG),CK cb tp lo fs fv w e_->b.op=[98,108,111,99,107]->PKid (Btw lo tp) w v b.y_->fG d b->e_.length+cF d b<=90000->
  Calls prog 116 #[aZ cb,v] w (dI cb tp lo fs fv w (aP fs (gA fv) d b ⟨e_,0,0⟩))
def xH{d:Nat}{l:List aE}(h:∀k∈l,fG d k):l.length<=(l.map (cF d)).sum:=by
 cases d with
 |zero=>
  cases l with
  |nil=>simp
  |cons x l=>exact(h x (fw ..)).elim
 |succ d=>exact qO d l
def VN{f:Nat}{a:aQ}{d:Nat}(l:nS cb f lo fs a d):uI cb f lo fs a (d+1):=by
 intro v b e_ w h c i g e;rw[cF] at e
 have k:aP fs (gA a) (d+1) b ⟨e_,0,0⟩={ jG fs (gA a) d b.y_ ⟨e_,0,0⟩ with e_:=(jG fs (gA a) d b.y_ ⟨e_,0,0⟩).e_.take e_.length }:=by
  rw[aP,if_neg (by rw[c];decide)]
  simp only[cM,c];rfl
 have j:=xH g;rw[k];exact AZ cb f lo fs a d l v b.y_ e_ w h i g o_ o_
def O5{a:aQ}(d:Nat)(g:nS cb b lo fs a d)(e_:cN)(w:aG)(h:CK cb b lo fs a w e_)(f:e_.length<=90000):
 Calls prog 116 #[aZ cb,bG] w (dI cb b lo fs a w ⟨e_,0,0⟩):=by
 have:=AZ cb b lo fs a d g (bG) [] e_ w h (d7 ⟨rfl,rfl⟩) (λk c=>by cases c) (by simpa using f) s_
 have e:({ jG fs (gA a) d [] ⟨e_,0,0⟩ with e_:=(jG fs (gA a) d [] ⟨e_,0,0⟩).e_.take e_.length }:bD)=⟨e_,0,0⟩:=by
  show (⟨e_.take e_.length,0,0⟩:bD)=_
  rw[List.take_length]
 rw[e] at this;exact this
def lY{a:bD}{s t:cN}{m n k:Nat}(h:Adds a ⟨t,0,0⟩ m)(c:a.e_=s)(f:s.length+(m+k)<=n):t.length+k<=n:=by
 obtain⟨x,d,e⟩:=h;have b:t=s++x:=by rw[<-c];exact d
 rw[b,el];omega
def DL(s:bD)(l:Nat)(x:cC):bD:=if s.e_.contains x then s else s.found l 6
def J0(s:bD)(l:Nat)(x:cC):Adds s (DL s l x) 0:=Adds.of_eq (by unfold DL;split<;>first|rfl|exact oS _ _ _)
def b9(cb a lo:Nat)(fs:List aE)(b:aQ)(w:aG)(e_:cN)(h:CK cb a lo fs b w e_)(c:e_.length<=100000)(l:Nat)(x:cC):
 Calls prog 114 #[aZ cb,.agg #[I_ l,.string (bs x)]] w (dI cb a lo fs b w (DL ⟨e_,0,0⟩ l x)):=bi_ cb a lo fs b w e_ h c l x
def LT(cb a lo:Nat)(fs:List aE)(b:aQ)(e_:cN)(w:aG)(h:CK cb a lo fs b w e_)(l k:Nat):
 Calls prog 83 #[aZ cb,.iface 267 (.agg #[I_ l,I_ k])] w (dI cb a lo fs b w ⟨e_,0,0⟩):=by
 have H:=aB h;have f:=wR;have j:=yH;have q:=NE;have m:=BP;have o:=yF;have n:=BR;have i:=DZ;have g:=vL;have p:=DY;have e:=BS;have c:=BQ;have d:=yG;clear h;go_in
 go_wp2
 go_end0;exact dI.done (FB.refl _) rfl H
def O9(cb a lo:Nat)(fs:List aE)(b:aQ)(e_:cN)(w:aG)(h:CK cb a lo fs b w e_)(l:Nat)(x:ByteArray):
 Calls prog 83 #[aZ cb,.iface 268 (.agg #[I_ l,.string x])] w (dI cb a lo fs b w ⟨e_,0,0⟩):=by
 have H:=aB h;have f:=wP;have j:=yD;have p:=ND;have k:=BJ;have n:=yB;have m:=BL;have i:=DV;have g:=vK;have o:=DU;have e:=BM;have c:=BK;have d:=yC;clear h;go_in
 go_wp2
 go_end0;exact dI.done (FB.refl _) rfl H
def bF_(cb a lo:Nat)(fs:List aE)(b:aQ)(e_:cN)(w:aG)(h:CK cb a lo fs b w e_)(l:Nat)(x:Bool):
 Calls prog 83 #[aZ cb,.iface 270 (.agg #[I_ l,.bool x])] w (dI cb a lo fs b w ⟨e_,0,0⟩):=by
 have H:=aB h;have f:=BX;have j:=EJ;have p:=WN;have k:=JA;have n:=EH;have m:=JC;have i:=NJ;have g:=yK;have o:=NI;have e:=JD;have c:=JB;have d:=EI;clear h;go_in
 go_wp2
 go_end0;exact dI.done (FB.refl _) rfl H
def bE_(cb r lo:Nat)(fs:List aE)(q:aQ)(d:Nat)(C:nS cb r lo fs q d)(e_:cN)(w:aG)(h:CK cb r lo fs q w e_)(l:Nat)(u1:aQ)(b:List aE)(z:PKid (Btw lo r) w u1 b)(j:∀k∈b,fG d k)(B:e_.length+((b.map (cF d)).sum+0)<=90000):
 Calls prog 83 #[aZ cb,.iface 219 (.agg #[I_ l,u1])] w (dI cb r lo fs q w (jG fs (gA q) d b ⟨e_,0,0⟩)):=by
 obtain⟨y,u,rfl⟩:=z.slice;have F:=BT;have I:=EB;have O:=WL;have J:=IU;have L:=EA;have K:=IV;have H:=NG;have G:=yI;have N:=NF;obtain⟨n,a⟩:=Loc.new h (.cells #[I_ l,(.slice y b.length u)] 219);have m:=aB n;have x:=aB a;clear h n a;go_in
 have c:=aB (C (.slice y b.length u) b e_ (w.alloc (.cells #[I_ l,(.slice y b.length u)] 219)) x (z.below m.fb.bel) j o_ (by have:=xH j;omega))
 obtain⟨o,g⟩:=E_ (jG fs (gA q) d b (⟨e_,0,0⟩:bD));have p:=aB g.symm;first|rw[<-g] at c|rw[show _=o from g.symm] at c
 clear g;go_wp2_with fail;refine c.mono ?_;rintro e E ⟨f,⟨M,s,rfl,i⟩|⟨a,rfl⟩⟩
 rotate_left
 ·have A:=aB (m.fb.trans f);have D:=aB a;clear f a;go_wp2_with fail;exact⟨rfl,dI.fault (c1:=o) A D (by rw[p.out];exact Stk.refl o)⟩
 have v:=aB (m.step f);have t:=aB i;subst s;clear f i c;go_wp2
 go_end0;exact dI.done v.fb (by rw[p.out]) t
def ak_(cb q lo:Nat)(fs:List aE)(p:aQ)(d:Nat)(D:kO cb q lo fs p d)(e_:cN)(w:aG)(h:CK cb q lo fs p w e_)(l:Nat)(x:ByteArray)(v1:aQ)(k:aE)(z:PN (Btw lo q) w v1 k)(u:fG d k)(C:e_.length+(cF d k+0)<=90000):
 Calls prog 83 #[aZ cb,.iface 223 (.agg #[I_ l,.string x,v1])] w (dI cb q lo fs p w (aP fs (gA p) d k ⟨e_,0,0⟩)):=by
 obtain⟨s,j,rfl⟩:=z.form;have H:=yA;have K:=BI;have Q:=QX;have L:=DQ;have N:=BH;have M:=DS;have J:=IT;have I:=wO;have P:=IS;have G:=DT;have B:=DR;obtain⟨m,a⟩:=Loc.new h (.cells #[I_ l,.string x,(.iface s (.agg j))] 223);have i:=aB m;have y:=aB a;clear h m a;go_in
 have b:=aB (D (.iface s (.agg j)) k e_ (w.alloc (.cells #[I_ l,.string x,(.iface s (.agg j))] 223)) y (z.below i.fb.bel) u o_)
 obtain⟨n,f⟩:=E_ (aP fs (gA p) d k (⟨e_,0,0⟩:bD));have o:=aB f.symm;first|rw[<-f] at b|rw[show _=n from f.symm] at b
 clear f;go_wp2_with fail;refine b.mono ?_;rintro e F ⟨c,⟨O,r,rfl,g⟩|⟨a,rfl⟩⟩
 rotate_left
 ·have A:=aB (i.fb.trans c);have E:=aB a;clear c a;go_wp2_with fail;exact⟨rfl,dI.fault (c1:=n) A E (by rw[o.out];exact Stk.refl n)⟩
 have v:=aB (i.step c);have t:=aB g;subst r;clear c g b;go_wp2
 go_end0;exact dI.done v.fb (by rw[o.out]) t
def P0(cb q lo:Nat)(fs:List aE)(p:aQ)(d:Nat)(B:kO cb q lo fs p d)(e_:cN)(w:aG)(h:CK cb q lo fs p w e_)(l:Nat)(v1:aQ)(k:aE)(y:PN (Btw lo q) w v1 k)(u:fG d k)(A:e_.length+(cF d k+0)<=90000):
 Calls prog 83 #[aZ cb,.iface 211 (.agg #[I_ l,v1])] w (dI cb q lo fs p w (aP fs (gA p) d k ⟨e_,0,0⟩)):=by
 obtain⟨s,j,rfl⟩:=y.form;have E:=oT;have F:=pV;have J:=wQ;have G:=rD;have H:=pU;obtain⟨m,a⟩:=Loc.new h (.cells #[I_ l,(.iface s (.agg j))] 211);have i:=aB m;have x:=aB a;clear h m a;go_in
 have b:=aB (B (.iface s (.agg j)) k e_ (w.alloc (.cells #[I_ l,(.iface s (.agg j))] 211)) x (y.below i.fb.bel) u o_)
 obtain⟨n,f⟩:=E_ (aP fs (gA p) d k (⟨e_,0,0⟩:bD));have o:=aB f.symm;first|rw[<-f] at b|rw[show _=n from f.symm] at b
 clear f;go_wp2_with fail;refine b.mono ?_;rintro e D ⟨c,⟨I,r,rfl,g⟩|⟨a,rfl⟩⟩
 rotate_left
 ·have z:=aB (i.fb.trans c);have C:=aB a;clear c a;go_wp2_with fail;exact⟨rfl,dI.fault (c1:=n) z C (by rw[o.out];exact Stk.refl n)⟩
 have v:=aB (i.step c);have t:=aB g;subst r;clear c g b;go_wp2
 go_end0;exact dI.done v.fb (by rw[o.out]) t
def al_(cb q lo:Nat)(fs:List aE)(p:aQ)(d:Nat)(B:kO cb q lo fs p d)(e_:cN)(w:aG)(h:CK cb q lo fs p w e_)(l:Nat)(v1:aQ)(k:aE)(y:PN (Btw lo q) w v1 k)(u:fG d k)(A:e_.length+(cF d k+0)<=90000):
 Calls prog 83 #[aZ cb,.iface 212 (.agg #[I_ l,v1])] w (dI cb q lo fs p w (aP fs (gA p) d k ⟨e_,0,0⟩)):=by
 obtain⟨s,j,rfl⟩:=y.form;have E:=yE;have F:=BO;have K:=QY;have G:=DW;have I:=BN;have H:=DX;obtain⟨m,a⟩:=Loc.new h (.cells #[I_ l,(.iface s (.agg j))] 212);have i:=aB m;have x:=aB a;clear h m a;go_in
 have b:=aB (B (.iface s (.agg j)) k e_ (w.alloc (.cells #[I_ l,(.iface s (.agg j))] 212)) x (y.below i.fb.bel) u o_)
 obtain⟨n,f⟩:=E_ (aP fs (gA p) d k (⟨e_,0,0⟩:bD));have o:=aB f.symm;first|rw[<-f] at b|rw[show _=n from f.symm] at b
 clear f;go_wp2_with fail;refine b.mono ?_;rintro e D ⟨c,⟨J,r,rfl,g⟩|⟨a,rfl⟩⟩
 rotate_left
 ·have z:=aB (i.fb.trans c);have C:=aB a;clear c a;go_wp2_with fail;exact⟨rfl,dI.fault (c1:=n) z C (by rw[o.out];exact Stk.refl n)⟩
 have v:=aB (i.step c);have t:=aB g;subst r;clear c g b;go_wp2
 go_end0;exact dI.done v.fb (by rw[o.out]) t
def am_(cb D lo:Nat)(fs:List aE)(n:aQ)(d:Nat)(Y:kO cb D lo fs n d)(e_:cN)(w:aG)(h:CK cb D lo fs n w e_)(l:Nat)(v1:aQ)(v:aE)(X:PN (Btw lo D) w v1 v)(P:fG d v)(v2:aQ)(q:aE)(W:PN (Btw lo D) w v2 q)(H:fG d q)(ab:e_.length+(cF d v+(cF d q+0))<=90000):
 Calls prog 83 #[aZ cb,.iface 221 (.agg #[I_ l,v1,v2])] w (dI cb D lo fs n w (aP fs (gA n) d q (aP fs (gA n) d v ⟨e_,0,0⟩))):=by
 obtain⟨J,u,rfl⟩:=X.form;obtain⟨V,r,rfl⟩:=W.form;have q0:=yJ;have q1:=BV;have q2:=QZ;have q3:=EC;have q4:=BU;have q5:=ED;have q6:=IX;have q7:=wS;have q8:=IW;have q9:=EE;obtain⟨z,b⟩:=Loc.new h (.cells #[I_ l,(.iface J (.agg u)),(.iface V (.agg r))] 221);have t:=aB z;have U:=aB b;clear h z b;go_in
 have f:=aB (Y (.iface J (.agg u)) v e_ (w.alloc (.cells #[I_ l,(.iface J (.agg u)),(.iface V (.agg r))] 221)) U (X.below t.fb.bel) P o_)
 have F:=aB (gL fs (gA n) d v ⟨e_,0,0⟩);obtain⟨C,c⟩:=E_ (aP fs (gA n) d v (⟨e_,0,0⟩:bD));have x:=aB c.symm;rw[<-c] at F;first|rw[<-c] at f|rw[show _=C from c.symm] at f
 clear c;go_wp2_with fail;refine f.mono ?_;rintro e Z ⟨j,⟨S,I,rfl,o⟩|⟨b,rfl⟩⟩
 rotate_left
 ·have M:=aB (t.fb.trans j);have T:=aB b;clear j b;go_wp2_with fail;exact⟨rfl,dI.fault (c1:=C) M T (by rw[x.out];exact(Stk.walk fs (gA n) d q C))⟩
 have a:=aB (t.step j);have K:=aB o;subst I;have aa:S.length+(cF d q+0)<=90000:=lY F rfl o_
 clear j o f;have k:=aB (Y (.iface V (.agg r)) q S Z K (W.below a.fb.bel) H o_)
 obtain⟨s,g⟩:=E_ (aP fs (gA n) d q (⟨S,0,0⟩:bD));have G:=aB g.symm;first|rw[<-g] at k|rw[show _=s from g.symm] at k
 clear g;have E:=aA a.blk (i:=0) rfl;have A:=aA a.blk (i:=1) rfl;have B:=aA a.blk (i:=2) rfl;have N:=aC a.blk;go_wp2_with fail;refine k.mono ?_;rintro e w2 ⟨m,⟨s2,O,rfl,p⟩|⟨y,rfl⟩⟩
 rotate_left
 ·have M:=aB (a.fb.trans m);have T:=aB y;clear m y;go_wp2_with fail;exact⟨rfl,dI.fault (c1:=s) M T (by rw[x.out,G.out];exact Stk.refl s)⟩
 have L:=aB (a.step m);have Q:=aB p;subst O;clear m p k E A B N;go_wp2
 go_end0;exact dI.done L.fb (by rw[x.out,G.out]) Q
def P2(cb F lo:Nat)(fs:List aE)(n:aQ)(d:Nat)(IH:kO cb F lo fs n d)(e_:cN)(w:aG)(h:CK cb F lo fs n w e_)(l:Nat)(x:ByteArray)(v1:aQ)(v:aE)(Z:PN (Btw lo F) w v1 v)(S:fG d v)(v2:aQ)(q:aE)(Y:PN (Btw lo F) w v2 q)(J:fG d q)(ac:e_.length+(cF d v+(cF d q+0))<=90000):
 Calls prog 83 #[aZ cb,.iface 225 (.agg #[I_ l,.string x,v1,v2])] w (dI cb F lo fs n w (aP fs (gA n) d q (aP fs (gA n) d v ⟨e_,0,0⟩))):=by
 obtain⟨L,u,rfl⟩:=Z.form;obtain⟨X,r,rfl⟩:=Y.form;have q0:=wU;have q1:=yN;have q2:=NK;have q3:=BY;have q4:=yL;have q5:=CC;have q6:=EL;have q7:=vN;have q8:=EK;have q9:=CD;have ab:=BZ;have ad:=yM;obtain⟨A,b⟩:=Loc.new h (.cells #[I_ l,.string x,(.iface L (.agg u)),(.iface X (.agg r))] 225);have t:=aB A;have W:=aB b;clear h A b;go_in
 have f:=aB (IH (.iface L (.agg u)) v e_ (w.alloc (.cells #[I_ l,.string x,(.iface L (.agg u)),(.iface X (.agg r))] 225)) W (Z.below t.fb.bel) S o_)
 have H:=aB (gL fs (gA n) d v ⟨e_,0,0⟩);obtain⟨E,c⟩:=E_ (aP fs (gA n) d v (⟨e_,0,0⟩:bD));have y:=aB c.symm;rw[<-c] at H;first|rw[<-c] at f|rw[show _=E from c.symm] at f
 clear c;go_wp2_with fail;refine f.mono ?_;rintro e w1 ⟨j,⟨T,K,rfl,o⟩|⟨b,rfl⟩⟩
 rotate_left
 ·have O:=aB (t.fb.trans j);have V:=aB b;clear j b;go_wp2_with fail;exact⟨rfl,dI.fault (c1:=E) O V (by rw[y.out];exact(Stk.walk fs (gA n) d q E))⟩
 have a:=aB (t.step j);have M:=aB o;subst K;have aa:T.length+(cF d q+0)<=90000:=lY H rfl o_
 clear j o f;have k:=aB (IH (.iface X (.agg r)) q T w1 M (Y.below a.fb.bel) J o_)
 obtain⟨s,g⟩:=E_ (aP fs (gA n) d q (⟨T,0,0⟩:bD));have I:=aB g.symm;first|rw[<-g] at k|rw[show _=s from g.symm] at k
 clear g;have G:=aA a.blk (i:=0) rfl;have B:=aA a.blk (i:=1) rfl;have C:=aA a.blk (i:=2) rfl;have D:=aA a.blk (i:=3) rfl;have P:=aC a.blk;go_wp2_with fail;refine k.mono ?_;rintro e w2 ⟨m,⟨s2,Q,rfl,p⟩|⟨z,rfl⟩⟩
 rotate_left
 ·have O:=aB (a.fb.trans m);have V:=aB z;clear m z;go_wp2_with fail;exact⟨rfl,dI.fault (c1:=s) O V (by rw[y.out,I.out];exact Stk.refl s)⟩
 have N:=aB (a.step m);have U:=aB p;subst Q;clear m p k G B C D P;go_wp2
 go_end0;exact dI.done N.fb (by rw[y.out,I.out]) U
def aj_(cb x lo:Nat)(fs:List aE)(g:aQ)(d:Nat)(IH:kO cb x lo fs g d)(Q:uI cb x lo fs g d)(e_:cN)(w:aG)(h:CK cb x lo fs g w e_)(l:Nat)(v1:aQ)(u:aE)(Z:PN (Btw lo x) w v1 u)(P:fG d u)(u2:aQ)(b:aE)(H:b.op=[98,108,111,99,107])(Y:PKid (Btw lo x) w u2 b.y_)(B:fG d b)(ab:e_.length+(cF d u+(cF d b+0))<=90000):
 Calls prog 83 #[aZ cb,.iface 209 (.agg #[I_ l,v1,u2])] w (dI cb x lo fs g w (aP fs (gA g) d b (aP fs (gA g) d u ⟨e_,0,0⟩))):=by
 obtain⟨J,t,rfl⟩:=Z.form;obtain⟨V,X,rfl⟩:=Y.slice;have q0:=xY;have q1:=BG;have q2:=QW;have q3:=DO;obtain⟨z,c⟩:=Loc.new h (.cells #[I_ l,(.iface J (.agg t)),(.slice V b.y_.length X)] 209);have s:=aB z;have W:=aB c;clear h z c;go_in
 have j:=aB (IH (.iface J (.agg t)) u e_ (w.alloc (.cells #[I_ l,(.iface J (.agg t)),(.slice V b.y_.length X)] 209)) W (Z.below s.fb.bel) P o_)
 have F:=aB (gL fs (gA g) d u ⟨e_,0,0⟩);obtain⟨D,f⟩:=E_ (aP fs (gA g) d u (⟨e_,0,0⟩:bD));have v:=aB f.symm;rw[<-f] at F;first|rw[<-f] at j|rw[show _=D from f.symm] at j
 clear f;go_wp2_with fail;refine j.mono ?_;rintro e w1 ⟨m,⟨T,I,rfl,p⟩|⟨c,rfl⟩⟩
 rotate_left
 ·have M:=aB (s.fb.trans m);have U:=aB c;clear m c;go_wp2_with fail;exact⟨rfl,dI.fault (c1:=D) M U (by rw[v.out];exact(Stk.walk fs (gA g) d b D))⟩
 have a:=aB (s.step m);have K:=aB p;subst I;have aa:T.length+(cF d b+0)<=90000:=lY F rfl o_
 clear m p j;have n:=aB (Q (.slice V b.y_.length X) b T w1 K H (Y.below a.fb.bel) B o_)
 obtain⟨r,k⟩:=E_ (aP fs (gA g) d b (⟨T,0,0⟩:bD));have G:=aB k.symm;first|rw[<-k] at n|rw[show _=r from k.symm] at n
 clear k;have E:=aA a.blk (i:=0) rfl;have A:=aA a.blk (i:=1) rfl;have C:=aA a.blk (i:=2) rfl;have N:=aC a.blk;go_wp2_with fail;refine n.mono ?_;rintro e w2 ⟨o,⟨s2,O,rfl,q⟩|⟨y,rfl⟩⟩
 rotate_left
 ·have M:=aB (a.fb.trans o);have U:=aB y;clear o y;go_wp2_with fail;exact⟨rfl,dI.fault (c1:=r) M U (by rw[v.out,G.out];exact Stk.refl r)⟩
 have L:=aB (a.step o);have S:=aB q;subst O;clear o q n E A C N;go_wp2
 go_end0;exact dI.done L.fb (by rw[v.out,G.out]) S
def da_(cb B lo:Nat)(fs:List aE)(c:aQ)(d:Nat)(IH:kO cb B lo fs c d)(W:uI cb B lo fs c d)(e_:cN)(w:aG)(h:CK cb B lo fs c w e_)(l:Nat)(v1:aQ)(D:aE)(h1:PN (Btw lo B) w v1 D)(aj:fG d D)(u2:aQ)(g:aE)(J:g.op=[98,108,111,99,107])(g2:PKid (Btw lo B) w u2 g.y_)(L:fG d g)(u3:aQ)(f:aE)(ab:f.op=[98,108,111,99,107])(g3:PKid (Btw lo B) w u3 f.y_)(I:fG d f)(ao:e_.length+(cF d D+(cF d g+(cF d f+0)))<=90000):
 Calls prog 83 #[aZ cb,.iface 207 (.agg #[I_ l,v1,u2,u3])] w (dI cb B lo fs c w (aP fs (gA c) d f (aP fs (gA c) d g (aP fs (gA c) d D ⟨e_,0,0⟩)))):=by
 obtain⟨T1,C,rfl⟩:=h1.form;obtain⟨x2,y2,rfl⟩:=g2.slice;obtain⟨x3,y3,rfl⟩:=g3.slice;have q0:=uM;have q1:=wT;have q2:=RA;obtain⟨F,k⟩:=Loc.new h (.cells #[I_ l,(.iface T1 (.agg C)),(.slice x2 g.y_.length y2),(.slice x3 f.y_.length y3)] 207);have A:=aB F;have ac:=aB k;clear h F k;go_in
 have q:=aB (IH (.iface T1 (.agg C)) D e_ (w.alloc (.cells #[I_ l,(.iface T1 (.agg C)),(.slice x2 g.y_.length y2),(.slice x3 f.y_.length y3)] 207)) ac (h1.below A.fb.bel) aj o_)
 have Y:=aB (gL fs (gA c) d D ⟨e_,0,0⟩);obtain⟨Z,j⟩:=E_ (aP fs (gA c) d D (⟨e_,0,0⟩:bD));have r:=aB j.symm;rw[<-j] at Y;first|rw[<-j] at q|rw[show _=Z from j.symm] at q
 clear j;go_wp2_with fail;refine q.mono ?_;rintro e w1 ⟨n,⟨s1,ah,rfl,v⟩|⟨k,rfl⟩⟩
 rotate_left
 ·have HB:=aB (A.fb.trans n);have M:=aB k;clear n k;go_wp2_with fail;exact⟨rfl,dI.fault (c1:=Z) HB M (by rw[r.out];exact((Stk.walk fs (gA c) d g Z)).trans (Stk.walk fs (gA c) d f _))⟩
 have a:=aB (A.step n);have ad:=aB v;subst ah;have an:s1.length+(cF d g+(cF d f+0))<=90000:=lY Y rfl o_
 clear n v q;have p:=aB (W (.slice x2 g.y_.length y2) g s1 w1 ad J (g2.below a.fb.bel) L o_)
 have G:=aB (gL fs (gA c) d g ⟨s1,0,0⟩);obtain⟨x,m⟩:=E_ (aP fs (gA c) d g (⟨s1,0,0⟩:bD));have E:=aB m.symm;rw[<-m] at G;first|rw[<-m] at p|rw[show _=x from m.symm] at p
 clear m;have X:=aA a.blk (i:=0) rfl;have S:=aA a.blk (i:=1) rfl;have T:=aA a.blk (i:=2) rfl;have U:=aA a.blk (i:=3) rfl;have al:=aC a.blk;go_wp2_with fail;refine p.mono ?_;rintro e w2 ⟨u,⟨s2,am,rfl,y⟩|⟨aa,rfl⟩⟩
 rotate_left
 ·have HB:=aB (a.fb.trans u);have M:=aB aa;clear u aa;go_wp2_with fail;exact⟨rfl,dI.fault (c1:=x) HB M (by rw[r.out,E.out];exact(Stk.walk fs (gA c) d f x))⟩
 have b:=aB (a.step u);have ag:=aB y;subst am;have ap:s2.length+(cF d f+0)<=90000:=lY G rfl o_
 clear u y p X S T U al;have s:=aB (W (.slice x3 f.y_.length y3) f s2 w2 ag ab (g3.below b.fb.bel) I o_)
 obtain⟨H,t⟩:=E_ (aP fs (gA c) d f (⟨s2,0,0⟩:bD));have V:=aB t.symm;first|rw[<-t] at s|rw[show _=H from t.symm] at s
 clear t;have N:=aA b.blk (i:=0) rfl;have Q:=aA b.blk (i:=1) rfl;have O:=aA b.blk (i:=2) rfl;have P:=aA b.blk (i:=3) rfl;have ai:=aC b.blk;go_wp2_with fail;refine s.mono ?_;rintro e w3 ⟨o,⟨s3,af,rfl,z⟩|⟨K,rfl⟩⟩
 rotate_left
 ·have HB:=aB (b.fb.trans o);have M:=aB K;clear o K;go_wp2_with fail;exact⟨rfl,dI.fault (c1:=H) HB M (by rw[r.out,E.out,V.out];exact Stk.refl H)⟩
 have ak:=aB (b.step o);have ae:=aB z;subst af;clear o z s N Q O P ai;go_wp2
 go_end0;exact dI.done ak.fb (by rw[r.out,E.out,V.out]) ae
def cN_(cb A lo:Nat)(fs:List aE)(f:aQ)(d:Nat)(IH:kO cb A lo fs f d)(HN:nS cb A lo fs f d)(ai:uI cb A lo fs f d)(e_:cN)(w:aG)(h:CK cb A lo fs f w e_)(l:Nat)(v1:aQ)(C:aE)(h1:PN (Btw lo A) w v1 C)(ah:fG d C)(u2:aQ)(c:aE)(H:c.op=[98,108,111,99,107])(g2:PKid (Btw lo A) w u2 c.y_)(J:fG d c)(an:e_.length+(cF d C+(cF d c+(0+0)))<=90000):
 Calls prog 83 #[aZ cb,.iface 207 (.agg #[I_ l,v1,u2,bG])] w (dI cb A lo fs f w ((aP fs (gA f) d c (aP fs (gA f) d C ⟨e_,0,0⟩)))):=by
 obtain⟨T1,B,rfl⟩:=h1.form;obtain⟨x2,y2,rfl⟩:=g2.slice;have q0:=uM;have q1:=wT;have q2:=RA;obtain⟨E,j⟩:=Loc.new h (.cells #[I_ l,(.iface T1 (.agg B)),(.slice x2 c.y_.length y2),bG] 207);have z:=aB E;have aa:=aB j;clear h E j;go_in
 have p:=aB (IH (.iface T1 (.agg B)) C e_ (w.alloc (.cells #[I_ l,(.iface T1 (.agg B)),(.slice x2 c.y_.length y2),bG] 207)) aa (h1.below z.fb.bel) ah o_)
 have V:=aB (gL fs (gA f) d C ⟨e_,0,0⟩);obtain⟨W,g⟩:=E_ (aP fs (gA f) d C (⟨e_,0,0⟩:bD));have q:=aB g.symm;rw[<-g] at V;first|rw[<-g] at p|rw[show _=W from g.symm] at p
 clear g;go_wp2_with fail;refine p.mono ?_;rintro e w1 ⟨m,⟨Z,af,rfl,u⟩|⟨j,rfl⟩⟩
 rotate_left
 ·have Y:=aB (z.fb.trans m);have K:=aB j;clear m j;go_wp2_with fail;exact⟨rfl,dI.fault (c1:=W) Y K (by rw[q.out];exact((Stk.walk fs (gA f) d c W)).trans (Stk.refl _))⟩
 have a:=aB (z.step m);have ab:=aB u;subst af;have am:Z.length+(cF d c+(0+0))<=90000:=lY V rfl o_
 clear m u p;have o:=aB (ai (.slice x2 c.y_.length y2) c Z w1 ab H (g2.below a.fb.bel) J o_)
 have F:=aB (gL fs (gA f) d c ⟨Z,0,0⟩);obtain⟨v,k⟩:=E_ (aP fs (gA f) d c (⟨Z,0,0⟩:bD));have D:=aB k.symm;rw[<-k] at F;first|rw[<-k] at o|rw[show _=v from k.symm] at o
 clear k;have U:=aA a.blk (i:=0) rfl;have P:=aA a.blk (i:=1) rfl;have Q:=aA a.blk (i:=2) rfl;have S:=aA a.blk (i:=3) rfl;have ak:=aC a.blk;go_wp2_with fail;refine o.mono ?_;rintro e w2 ⟨t,⟨s2,al,rfl,x⟩|⟨X,rfl⟩⟩
 rotate_left
 ·have Y:=aB (a.fb.trans t);have K:=aB X;clear t X;go_wp2_with fail;exact⟨rfl,dI.fault (c1:=v) Y K (by rw[q.out,D.out];exact(Stk.refl v))⟩
 have b:=aB (a.step t);have ae:=aB x;subst al;have ao:s2.length+(0+0)<=90000:=lY F rfl o_
 clear t x o U P Q S ak;have r:=aB (O5 d HN s2 w2 ae o_)
 obtain⟨G,s⟩:=E_ ((⟨s2,0,0⟩:bD));have T:=aB s.symm;first|rw[<-s] at r|rw[show _=G from s.symm] at r
 clear s;have L:=aA b.blk (i:=0) rfl;have O:=aA b.blk (i:=1) rfl;have M:=aA b.blk (i:=2) rfl;have N:=aA b.blk (i:=3) rfl;have ag:=aC b.blk;go_wp2_with fail;refine r.mono ?_;rintro e w3 ⟨n,⟨s3,ad,rfl,y⟩|⟨I,rfl⟩⟩
 rotate_left
 ·have Y:=aB (b.fb.trans n);have K:=aB I;clear n I;go_wp2_with fail;exact⟨rfl,dI.fault (c1:=G) Y K (by rw[q.out,D.out,T.out];exact Stk.refl G)⟩
 have aj:=aB (b.step n);have ac:=aB y;subst ad;clear n y r L O M N ag;go_wp2
 go_end0;exact dI.done aj.fb (by rw[q.out,D.out,T.out]) ac
def SW(cb o lo:Nat)(fs:List aE)(r:aQ)(e_:cN)(w:aG)(h:CK cb o lo fs r w e_)(l:Nat)(x:cC)(t:e_.length+(0+0)<=90000):
 Calls prog 83 #[aZ cb,.iface 217 (.agg #[I_ l,.string (bs x)])] w (dI cb o lo fs r w (DL ⟨e_,0,0⟩ l x)):=by
 have y:=uK;have B:=vJ;have G:=DP;have C:=wM;have E:=vI;have D:=wN;have A:=xZ;have z:=rX;obtain⟨g,a⟩:=Loc.new h (.cells #[I_ l,.string (bs x)] 217);have j:=aB g;have q:=aB a;clear h g a;go_in
 have b:=aB (b9 cb o lo fs r (w.alloc (.cells #[I_ l,.string (bs x)] 217)) e_ q o_ l x)
 obtain⟨i,d⟩:=E_ (DL (⟨e_,0,0⟩:bD) l x);have k:=aB d.symm;first|rw[<-d] at b|rw[show _=i from d.symm] at b
 clear d;go_wp2_with fail;refine b.mono ?_;rintro e v ⟨c,⟨F,m,rfl,f⟩|⟨a,rfl⟩⟩
 rotate_left
 ·have s:=aB (j.fb.trans c);have u:=aB a;clear c a;go_wp2_with fail;exact⟨rfl,dI.fault (c1:=i) s u (by rw[k.out];exact Stk.refl i)⟩
 have p:=aB (j.step c);have n:=aB f;subst m;clear c f b;go_wp2
 go_end0;exact dI.done p.fb (by rw[k.out]) n
def P3(cb E lo:Nat)(fs:List aE)(c:aQ)(d:Nat)(IH:kO cb E lo fs c d)(HN:nS cb E lo fs c d)(e_:cN)(w:aG)(h:CK cb E lo fs c w e_)(l:Nat)(x:cC)(u2:aQ)(g:List aE)(g2:PKid (Btw lo E) w u2 g)(C:∀k∈g,fG d k)(v1:aQ)(n:aE)(h1:PN (Btw lo E) w v1 n)(ah:fG d n)(am:e_.length+(0+((g.map (cF d)).sum+(cF d n+0)))<=90000):
 Calls prog 83 #[aZ cb,.iface 203 (.agg #[I_ l,.string (bs x),u2,v1])] w (dI cb E lo fs c w (aP fs (gA c) d n (jG fs (gA c) d g (DL ⟨e_,0,0⟩ l x)))):=by
 obtain⟨x2,y2,rfl⟩:=g2.slice;obtain⟨T1,F,rfl⟩:=h1.form;have q0:=wV;have q1:=yO;obtain⟨H,j⟩:=Loc.new h (.cells #[I_ l,.string (bs x),(.slice x2 g.length y2),(.iface T1 (.agg F))] 203);have J:=aB H;have aa:=aB j;clear h H j;go_in
 have r:=aB (b9 cb E lo fs c (w.alloc (.cells #[I_ l,.string (bs x),(.slice x2 g.length y2),(.iface T1 (.agg F))] 203)) e_ aa o_ l x)
 have X:=aB (J0 ⟨e_,0,0⟩ l x);obtain⟨c0,f⟩:=E_ (DL (⟨e_,0,0⟩:bD) l x);have t:=aB f.symm;rw[<-f] at X;first|rw[<-f] at r|rw[show _=c0 from f.symm] at r
 clear f;go_wp2_with fail;refine r.mono ?_;rintro e w1 ⟨o,⟨s1,af,rfl,z⟩|⟨j,rfl⟩⟩
 rotate_left
 ·have Z:=aB (J.fb.trans o);have M:=aB j;clear o j;go_wp2_with fail;exact⟨rfl,dI.fault (c1:=c0) Z M (by rw[t.out];exact((Stk.fold (λs k=>Stk.walk fs (gA c) d k s) _ _)).trans (Stk.walk fs (gA c) d n _))⟩
 have a:=aB (J.step o);have ab:=aB z;subst af;have al:s1.length+((g.map (cF d)).sum+(cF d n+0))<=90000:=lY X rfl o_
 clear o z r;have q:=aB (HN (.slice x2 g.length y2) g s1 w1 ab (g2.below a.fb.bel) C o_ (by have:=xH C;omega))
 have I:=aB (ME fs (gA c) d g ⟨s1,0,0⟩);obtain⟨A,m⟩:=E_ (jG fs (gA c) d g (⟨s1,0,0⟩:bD));have G:=aB m.symm;rw[<-m] at I;first|rw[<-m] at q|rw[show _=A from m.symm] at q
 clear m;have W:=aA a.blk (i:=0) rfl;have S:=aA a.blk (i:=1) rfl;have T:=aA a.blk (i:=2) rfl;have U:=aA a.blk (i:=3) rfl;have aj:=aC a.blk;go_wp2_with fail;refine q.mono ?_;rintro e w2 ⟨y,⟨s2,ak,rfl,B⟩|⟨Y,rfl⟩⟩
 rotate_left
 ·have Z:=aB (a.fb.trans y);have M:=aB Y;clear y Y;go_wp2_with fail;exact⟨rfl,dI.fault (c1:=A) Z M (by rw[t.out,G.out];exact(Stk.walk fs (gA c) d n A))⟩
 have b:=aB (a.step y);have ae:=aB B;subst ak;have an:s2.length+(cF d n+0)<=90000:=lY I rfl o_
 clear y B q W S T U aj;have u:=aB (IH (.iface T1 (.agg F)) n s2 w2 ae (h1.below b.fb.bel) ah o_)
 obtain⟨K,v⟩:=E_ (aP fs (gA c) d n (⟨s2,0,0⟩:bD));have V:=aB v.symm;first|rw[<-v] at u|rw[show _=K from v.symm] at u
 clear v;have N:=aA b.blk (i:=0) rfl;have Q:=aA b.blk (i:=1) rfl;have O:=aA b.blk (i:=2) rfl;have P:=aA b.blk (i:=3) rfl;have ag:=aC b.blk;go_wp2_with fail;refine u.mono ?_;rintro e w3 ⟨p,⟨s3,ad,rfl,D⟩|⟨L,rfl⟩⟩
 rotate_left
 ·have Z:=aB (b.fb.trans p);have M:=aB L;clear p L;go_wp2_with fail;exact⟨rfl,dI.fault (c1:=K) Z M (by rw[t.out,G.out,V.out];exact Stk.refl K)⟩
 have ai:=aB (b.step p);have ac:=aB D;subst ad;clear p D u N Q O P ag;go_wp2
 go_end0;exact dI.done ai.fb (by rw[t.out,G.out,V.out]) ac
def Fr.keepS{pb:Nat}{w':aG}{o:Obj}(a:Fr pb w w')(h:w.heap[b]?=some o)(c:b≠pb):w'.heap[b]?=some o:=by
 rw[a.block b (aC h) c];exact h
def a1_(sb:Nat)(src:ByteArray)(n L:Nat)(w:aG)(r:qX)(e:Ending)(w':aG):Prop:=
 Fr sb w w'/\((r.ok=true/\e=aX (oX ⟨r.sort,r.x_,L⟩)/\SC sb src (n+r.size) L w')\/(r.ok=false/\e=cU 3 L))
def nJ{sb m L:Nat}{a:ByteArray}{wc:aG}(f:Fr sb w wc)(g:SC sb a m L wc)(c:w.heap.size<=b)(h:b≠sb)(e v1 v2 d:aQ):
 Fr sb w ((((wc.setCell (aH b 0) e).setCell (aH b 1) v1).setCell (aH b 2) v2).setCell (aH b 3) d)/\SC sb a m L ((((wc.setCell (aH b 0) e).setCell (aH b 1) v1).setCell (aH b 2) v2).setCell (aH b 3) d):=by
 refine⟨(((f.setCell (d6 c) _).setCell (d6 c) _).setCell (d6 c) _).setCell (d6 c) _,?_⟩;unfold SC;rw[ei _ _ _ _ (by show sb≠b;omega),ei _ _ _ _ (by show sb≠b;omega),ei _ _ _ _ (by show sb≠b;omega),ei _ _ _ _ (by show sb≠b;omega)]
 exact g
def tV(a:ByteArray)(n:Nat):(a.extract n a.size).size=a.size-n:=s_
def K4(sb:Nat)(a:ByteArray)(n L:Nat)(w:aG)(h:SC sb a n L w)(hs:a.size<=2000000000)(hn:n<=a.size):
 Calls prog 165 #[aZ sb] w (a1_ sb a n L w (iG (a.data.toList.drop n) true)):=by
 obtain⟨f,r⟩:=E_ (bQ (eS true) (a.data.toList.drop n))
 have aa:f<=a.size-n:=by
  have:=lG (eS true) (a.data.toList.drop n);rw[r];simpa using this
 have I:=(SC.cells h).1;have u:w.heap.size≠sb:=o_
 have Y:Hid ((w.alloc (.cells #[I_ 0,.string ⟨#[]⟩,I_ 0,I_ 0] 160)).heap[w.heap.size]?=some (.cells #[I_ 0,.string ⟨#[]⟩,I_ 0,I_ 0] 160 (0,0))):=aN _ _ rfl _;have F:SC sb a n L (w.alloc (.cells #[I_ 0,.string ⟨#[]⟩,I_ 0,I_ 0] 160)):=by unfold SC;rw[ek _ _ _ I];exact h
 obtain⟨K,Z,Q,T,M,X⟩:=F.cells;have G:Hid ((w.alloc (.cells #[I_ 0,.string ⟨#[]⟩,I_ 0,I_ 0] 160)).drew.heap[w.heap.size]?=some (.cells #[I_ 0,.string ⟨#[]⟩,I_ 0,I_ 0] 160 (0,0))):=Y;have y:=aB (λw=>wW (eS true) 191 (λ_ _=>rfl) M5 (a.extract n a.size) w (by rw[tV];omega))
 rw[oI,<-r] at y;have t:=aB (pT sb a n L f (w.alloc (.cells #[I_ 0,.string ⟨#[]⟩,I_ 0,I_ 0] 160)).drew F hs o_)
 have s:=aB (TH ((a.data.toList.drop n).take f));obtain⟨k,p⟩:=E_ ((a.data.toList.drop n).take f);rw[<-p] at t s;have P:(bs k).size=f:=by rw[gJ,p,g8];simp;omega
 have V:Hid (iG (a.data.toList.drop n) true={ sort:=if jL.contains k then 107 else 110,x_:=k,size:=f,ok:=decide (f<=16) }):=by
  show _=_
  unfold iG;rw[<-r,<-p];rfl
 rw[V.out];have H1:=aB F;have H:Hid (Fr sb w (w.alloc (.cells #[I_ 0,.string ⟨#[]⟩,I_ 0,I_ 0] 160))):=(Fr.refl _ _).alloc _;clear h F r p V;obtain⟨C,z⟩:=E_ (jL.contains k);rw[<-z] at s ⊢
 clear z;obtain⟨E,o⟩:=E_ ((if C then 107 else 110))
 rw[show (if C=true then 107 else 110)=E from o.symm]
 have D:=aB o;clear o;obtain⟨S,d⟩:∃S:qX,S={ sort:=E,x_:=k,size:=f,ok:=decide (f<=16) }:=⟨_,rfl⟩;rw[<-d];have q:=aB d;clear d;go_in
 go_wp2_with fail;go_cut [3] (λv wc=>v=.string (bs k)/\SC sb a (n+f) L wc/\Fr sb w wc/\wc.heap[w.heap.size]?=some (.cells #[I_ 0,.string ⟨#[]⟩,I_ 0,I_ 0] 160 (0,0)))
 case first=>
  go_region_law (first|(go_simp;go_at_call 162;refine(y _).mono ?_;rintro e w1 ⟨rfl,B⟩;obtain rfl:=B.symm)|(go_simp;go_at_call 190;refine t.mono ?_;rintro e w2 ⟨rfl,g,j⟩;have l:=aB g;have m:=aB (H.drew.trans j);have A:=aB (j.keepS G u);clear g j))
  all_goals
   go_wp2_with fail;go_meet
   case rel=>exact⟨rfl,l,m,A⟩
 case rest=>
  obtain⟨rfl,g,j,b⟩:=hcut;clear Z Q T M X K;obtain⟨K,Z,Q,T,M,X⟩:=g.cells;have l:=aB g;have m:=aB j;have A:=aB b;have W:=aA b (i:=0) rfl;have O:=aA b (i:=1) rfl;have N:=aA b (i:=2) rfl;have U:=aA b (i:=3) rfl;have y0:=aD (i:=0) b;have y1:=aD (i:=1) b;have y2:=aD (i:=2) b;have y3:=aD (i:=3) b;have ab:=aC b;clear g j b t y Y;by_cases x:f<=16
  ·cases C
   all_goals
    have o:=D;clear D;subst o;have d:=q;clear q;subst d;go_wp2_with fail;refine(s _).mono ?_;rintro e w3 ⟨rfl,B⟩;obtain rfl:=B.symm;go_wp2_with fail
    first
     |(refine bodyPost_ret (v:=.agg #[I_ 1,.string (bs k),I_ 0,I_ L]) (by simp[results,results165,go_sem,W,O,N,U]) rfl ?_
       have c:=nJ m l cL u (I_ 1) (.string (bs k)) (I_ 0) (I_ L);exact⟨c.1,d7 ⟨by first|rfl|exact decide_eq_true x,rfl,c.2⟩⟩)
     |(refine bodyPost_ret (v:=.agg #[I_ 0,.string (bs k),I_ 0,I_ L]) (by simp[results,results165,go_sem,W,O,N,U]) rfl ?_
       have c:=nJ m l cL u (I_ 0) (.string (bs k)) (I_ 0) (I_ L);exact⟨c.1,d7 ⟨by first|rfl|exact decide_eq_true x,rfl,c.2⟩⟩)
  ·have d:=q;clear q;subst d;have J:=aB (tU sb a (n+f) L wc l);go_wp2_with fail;refine J.mono ?_;rintro e w3 ⟨rfl,B⟩;obtain rfl:=B.symm;go_wp2_with fail;exact⟨rfl,m,d6 ⟨by first|rfl|exact decide_eq_false x,rfl⟩⟩
end Go.Proofs.YtlflgmdcghfngaaGreatDoor
