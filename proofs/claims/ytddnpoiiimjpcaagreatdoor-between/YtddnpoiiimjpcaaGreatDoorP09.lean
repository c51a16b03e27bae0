/- Contracts of the program: names: each sort of nodes. -/
import Derived.Test.YtddnpoiiimjpcaaGreatDoorP05
import Derived.Test.YtddnpoiiimjpcaaGreatDoorP08
set_option linter.defProp false
set_option maxRecDepth 100000
set_option maxHeartbeats 4000000
namespace Go.Proofs.YtddnpoiiimjpcaaGreatDoor
open Hs
open _root_.Go.Proofs.Tryz
open Go.RowKit
variable{fs:List aC}{b cb lo:Nat}{w:aG}{v:aQ}{F:bX}
def PN.parts{a:aC}(h:PN F w v a):∃T c b,v=.iface T (.agg c)/\Shape T c a b/\∀p∈b,p.ok F w:=by
 obtain⟨d,h⟩:=h;cases d with
 |zero=>exact h.elim
 |succ d=>
  obtain⟨T,c,b,g,f,i⟩:=h;exact⟨T,c,b,g,f,λp e=>(i p e).mono (λ_ _ h=>⟨d,h⟩) dP⟩
def Prt.ok.one'{a:aC}(h:Prt.ok F w ⟨v,[a],true⟩):PN F w v a:=by
 rcases h with ⟨_,b,c,d⟩|⟨c,_⟩
 ·cases c;exact d
 ·cases c
def Prt.ok.many{l:List aC}(h:Prt.ok F w ⟨v,l,false⟩):PKid F w v l:=by
 rcases h with ⟨b,_⟩|⟨_,a⟩
 ·cases b
 ·exact a
structure Loc(cb tp:Nat)(w0:aG)(b:Nat)(o:Obj)(W:aG):Prop where
 fb:FB cb tp w0 W
 blk:W.heap[b]?=some o
 row:lT cb W≠some b
 ne:b≠cb
def Loc.new{c:Nat}{f:aQ}{e_:cN}(h:CK cb c lo fs f w e_)(o:Obj):Loc cb c w w.heap.size o (w.alloc o)/\CK cb c lo fs f (w.alloc o) e_:=by
 have a:=h.lt;have d:Below w.heap.size w (w.alloc o):=(eh _ _).alloc cK _;refine⟨⟨FB.of_below d a,aN _ _ rfl _,λe=>?_,o_⟩,h.grow d⟩
 obtain⟨i,b,g,_⟩:=h.blk;rw[pO (d.block cb a.1),nX b] at e;have:=cP g _ e;omega
def Loc.step{a:Nat}{o:Obj}{d W f:aG}(h:Loc cb a d b o W)(c:FB cb a W f):Loc cb a d b o f:=
 ⟨h.fb.trans c,(c.blk b (aD h.blk) h.ne h.row).trans h.blk,λe=>by
   rcases c.row _ e with e|e
   ·exact h.row e
   ·have:=aD h.blk;omega,h.ne⟩
def tP(cb tp lo:Nat)(fs:List aC)(fv:aQ)(d:Nat):Prop:=
 ∀(v:aQ) (b:aC) (e_:cN) (w:aG),CK cb tp lo fs fv w e_->b.op=[98,108,111,99,107]->PKid (Btw lo tp) w v b.y_->fF d b->e_.length+cC d b<=90000->
  Calls prog 128 #[bE cb,v] w (dI cb tp lo fs fv w (aP fs (fY fv) d b ⟨e_,0,0⟩))
def wP{d:Nat}{l:List aC}(h:∀k∈l,fF d k):l.length<=(l.map (cC d)).sum:=by
 cases d with
 |zero=>
  cases l with
  |nil=>simp
  |cons x l=>exact(h x (fk ..)).elim
 |succ d=>exact qD d l
def UM{f:Nat}{a:aQ}{d:Nat}(l:nO cb f lo fs a d):tP cb f lo fs a (d+1):=by
 intro v b e_ w h c i g e;rw[cC] at e
 have k:aP fs (fY a) (d+1) b ⟨e_,0,0⟩={ jC fs (fY a) d b.y_ ⟨e_,0,0⟩ with e_:=(jC fs (fY a) d b.y_ ⟨e_,0,0⟩).e_.take e_.length }:=by
  rw[aP,if_neg (by rw[c];decide)]
  simp only[cL,c];rfl
 have j:=wP g;rw[k];exact AF cb f lo fs a d l v b.y_ e_ w h i g o_ o_
def J8{a:aQ}(d:Nat)(g:nO cb b lo fs a d)(e_:cN)(w:aG)(h:CK cb b lo fs a w e_)(f:e_.length<=90000):
 Calls prog 128 #[bE cb,bG] w (dI cb b lo fs a w ⟨e_,0,0⟩):=by
 have:=AF cb b lo fs a d g (bG) [] e_ w h (d7 ⟨rfl,rfl⟩) (λk c=>by cases c) (by simpa using f) s_
 have e:({ jC fs (fY a) d [] ⟨e_,0,0⟩ with e_:=(jC fs (fY a) d [] ⟨e_,0,0⟩).e_.take e_.length }:bC)=⟨e_,0,0⟩:=by
  show (⟨e_.take e_.length,0,0⟩:bC)=_
  rw[List.take_length]
 rw[e] at this;exact this
def lZ{a:bC}{s t:cN}{m n k:Nat}(h:Adds a ⟨t,0,0⟩ m)(c:a.e_=s)(f:s.length+(m+k)<=n):t.length+k<=n:=by
 obtain⟨x,d,e⟩:=h;have b:t=s++x:=by rw[<-c];exact d
 rw[b,ek];omega
def CN(s:bC)(l:Nat)(x:cE):bC:=if s.e_.contains x then s else s.found l 6
def D3(s:bC)(l:Nat)(x:cE):Adds s (CN s l x) 0:=Adds.of_eq (by unfold CN;split<;>first|rfl|exact oL _ _ _)
def U3(cb a lo:Nat)(fs:List aC)(b:aQ)(w:aG)(e_:cN)(h:CK cb a lo fs b w e_)(c:e_.length<=100000)(l:Nat)(x:cE):
 Calls prog 126 #[bE cb,.agg #[I_ l,.string (bs x)]] w (dI cb a lo fs b w (CN ⟨e_,0,0⟩ l x)):=aq_ cb a lo fs b w e_ h c l x
def KY(cb a lo:Nat)(fs:List aC)(b:aQ)(e_:cN)(w:aG)(h:CK cb a lo fs b w e_)(l k:Nat):
 Calls prog 91 #[bE cb,.iface 279 (.agg #[I_ l,I_ k])] w (dI cb a lo fs b w ⟨e_,0,0⟩):=by
 have H:=aB h;have f:=vZ;have j:=xQ;have q:=MI;have m:=AV;have o:=xO;have n:=AX;have i:=DD;have g:=uT;have p:=DC;have e:=AY;have c:=AW;have d:=xP;clear h;go_in
 go_wp2
 go_end0;exact dI.done (FB.refl _) rfl H
def K6(cb a lo:Nat)(fs:List aC)(b:aQ)(e_:cN)(w:aG)(h:CK cb a lo fs b w e_)(l:Nat)(x:ByteArray):
 Calls prog 91 #[bE cb,.iface 280 (.agg #[I_ l,.string x])] w (dI cb a lo fs b w ⟨e_,0,0⟩):=by
 have H:=aB h;have f:=vX;have j:=xM;have p:=MH;have k:=AP;have n:=xK;have m:=AR;have i:=CZ;have g:=uS;have o:=CY;have e:=AS;have c:=AQ;have d:=xL;clear h;go_in
 go_wp2
 go_end0;exact dI.done (FB.refl _) rfl H
def aN_(cb a lo:Nat)(fs:List aC)(b:aQ)(e_:cN)(w:aG)(h:CK cb a lo fs b w e_)(l:Nat)(x:Bool):
 Calls prog 91 #[bE cb,.iface 282 (.agg #[I_ l,.bool x])] w (dI cb a lo fs b w ⟨e_,0,0⟩):=by
 have H:=aB h;have f:=BD;have j:=DN;have p:=VK;have k:=IA;have n:=DL;have m:=IC;have i:=MN;have g:=xT;have o:=MM;have e:=ID;have c:=IB;have d:=DM;clear h;go_in
 go_wp2
 go_end0;exact dI.done (FB.refl _) rfl H
def aM_(cb r lo:Nat)(fs:List aC)(q:aQ)(d:Nat)(C:nO cb r lo fs q d)(e_:cN)(w:aG)(h:CK cb r lo fs q w e_)(l:Nat)(u1:aQ)(b:List aC)(z:PKid (Btw lo r) w u1 b)(j:∀k∈b,fF d k)(B:e_.length+((b.map (cC d)).sum+0)<=90000):
 Calls prog 91 #[bE cb,.iface 229 (.agg #[I_ l,u1])] w (dI cb r lo fs q w (jC fs (fY q) d b ⟨e_,0,0⟩)):=by
 obtain⟨y,u,rfl⟩:=z.slice;have F:=AZ;have I:=DF;have O:=VI;have J:=GU;have L:=DE;have K:=GV;have H:=MK;have G:=xR;have N:=MJ;obtain⟨n,a⟩:=Loc.new h (.cells #[I_ l,(.slice y b.length u)] 229);have m:=aB n;have x:=aB a;clear h n a;go_in
 have c:=aB (C (.slice y b.length u) b e_ (w.alloc (.cells #[I_ l,(.slice y b.length u)] 229)) x (z.below m.fb.bel) j o_ (by have:=wP j;omega))
 obtain⟨o,g⟩:=E_ (jC fs (fY q) d b (⟨e_,0,0⟩:bC));have p:=aB g.symm;first|rw[<-g] at c|rw[show _=o from g.symm] at c
 clear g;go_wp2_with fail;refine c.mono ?_;rintro e E ⟨f,⟨M,s,rfl,i⟩|⟨a,rfl⟩⟩
 rotate_left
 ·have A:=aB (m.fb.trans f);have D:=aB a;clear f a;go_wp2_with fail;exact⟨rfl,dI.fault (c1:=o) A D (by rw[p.out];exact Stk.refl o)⟩
 have v:=aB (m.step f);have t:=aB i;subst s;clear f i c;go_wp2
 go_end0;exact dI.done v.fb (by rw[p.out]) t
def b8(cb q lo:Nat)(fs:List aC)(p:aQ)(d:Nat)(D:kN cb q lo fs p d)(e_:cN)(w:aG)(h:CK cb q lo fs p w e_)(l:Nat)(x:ByteArray)(v1:aQ)(k:aC)(z:PN (Btw lo q) w v1 k)(u:fF d k)(C:e_.length+(cC d k+0)<=90000):
 Calls prog 91 #[bE cb,.iface 233 (.agg #[I_ l,.string x,v1])] w (dI cb q lo fs p w (aP fs (fY p) d k ⟨e_,0,0⟩)):=by
 obtain⟨s,j,rfl⟩:=z.form;have H:=xJ;have K:=AO;have Q:=PW;have L:=CU;have N:=AN;have M:=CW;have J:=GT;have I:=vW;have P:=GS;have G:=CX;have B:=CV;obtain⟨m,a⟩:=Loc.new h (.cells #[I_ l,.string x,(.iface s (.agg j))] 233);have i:=aB m;have y:=aB a;clear h m a;go_in
 have b:=aB (D (.iface s (.agg j)) k e_ (w.alloc (.cells #[I_ l,.string x,(.iface s (.agg j))] 233)) y (z.below i.fb.bel) u o_)
 obtain⟨n,f⟩:=E_ (aP fs (fY p) d k (⟨e_,0,0⟩:bC));have o:=aB f.symm;first|rw[<-f] at b|rw[show _=n from f.symm] at b
 clear f;go_wp2_with fail;refine b.mono ?_;rintro e F ⟨c,⟨O,r,rfl,g⟩|⟨a,rfl⟩⟩
 rotate_left
 ·have A:=aB (i.fb.trans c);have E:=aB a;clear c a;go_wp2_with fail;exact⟨rfl,dI.fault (c1:=n) A E (by rw[o.out];exact Stk.refl n)⟩
 have v:=aB (i.step c);have t:=aB g;subst r;clear c g b;go_wp2
 go_end0;exact dI.done v.fb (by rw[o.out]) t
def K7(cb q lo:Nat)(fs:List aC)(p:aQ)(d:Nat)(B:kN cb q lo fs p d)(e_:cN)(w:aG)(h:CK cb q lo fs p w e_)(l:Nat)(v1:aQ)(k:aC)(y:PN (Btw lo q) w v1 k)(u:fF d k)(A:e_.length+(cC d k+0)<=90000):
 Calls prog 91 #[bE cb,.iface 221 (.agg #[I_ l,v1])] w (dI cb q lo fs p w (aP fs (fY p) d k ⟨e_,0,0⟩)):=by
 obtain⟨s,j,rfl⟩:=y.form;have E:=oN;have F:=pM;have J:=vY;have G:=qP;have H:=pL;obtain⟨m,a⟩:=Loc.new h (.cells #[I_ l,(.iface s (.agg j))] 221);have i:=aB m;have x:=aB a;clear h m a;go_in
 have b:=aB (B (.iface s (.agg j)) k e_ (w.alloc (.cells #[I_ l,(.iface s (.agg j))] 221)) x (y.below i.fb.bel) u o_)
 obtain⟨n,f⟩:=E_ (aP fs (fY p) d k (⟨e_,0,0⟩:bC));have o:=aB f.symm;first|rw[<-f] at b|rw[show _=n from f.symm] at b
 clear f;go_wp2_with fail;refine b.mono ?_;rintro e D ⟨c,⟨I,r,rfl,g⟩|⟨a,rfl⟩⟩
 rotate_left
 ·have z:=aB (i.fb.trans c);have C:=aB a;clear c a;go_wp2_with fail;exact⟨rfl,dI.fault (c1:=n) z C (by rw[o.out];exact Stk.refl n)⟩
 have v:=aB (i.step c);have t:=aB g;subst r;clear c g b;go_wp2
 go_end0;exact dI.done v.fb (by rw[o.out]) t
def b9(cb q lo:Nat)(fs:List aC)(p:aQ)(d:Nat)(B:kN cb q lo fs p d)(e_:cN)(w:aG)(h:CK cb q lo fs p w e_)(l:Nat)(v1:aQ)(k:aC)(y:PN (Btw lo q) w v1 k)(u:fF d k)(A:e_.length+(cC d k+0)<=90000):
 Calls prog 91 #[bE cb,.iface 222 (.agg #[I_ l,v1])] w (dI cb q lo fs p w (aP fs (fY p) d k ⟨e_,0,0⟩)):=by
 obtain⟨s,j,rfl⟩:=y.form;have E:=xN;have F:=AU;have K:=PX;have G:=DA;have I:=AT;have H:=DB;obtain⟨m,a⟩:=Loc.new h (.cells #[I_ l,(.iface s (.agg j))] 222);have i:=aB m;have x:=aB a;clear h m a;go_in
 have b:=aB (B (.iface s (.agg j)) k e_ (w.alloc (.cells #[I_ l,(.iface s (.agg j))] 222)) x (y.below i.fb.bel) u o_)
 obtain⟨n,f⟩:=E_ (aP fs (fY p) d k (⟨e_,0,0⟩:bC));have o:=aB f.symm;first|rw[<-f] at b|rw[show _=n from f.symm] at b
 clear f;go_wp2_with fail;refine b.mono ?_;rintro e D ⟨c,⟨J,r,rfl,g⟩|⟨a,rfl⟩⟩
 rotate_left
 ·have z:=aB (i.fb.trans c);have C:=aB a;clear c a;go_wp2_with fail;exact⟨rfl,dI.fault (c1:=n) z C (by rw[o.out];exact Stk.refl n)⟩
 have v:=aB (i.step c);have t:=aB g;subst r;clear c g b;go_wp2
 go_end0;exact dI.done v.fb (by rw[o.out]) t
def d9(cb D lo:Nat)(fs:List aC)(n:aQ)(d:Nat)(Y:kN cb D lo fs n d)(e_:cN)(w:aG)(h:CK cb D lo fs n w e_)(l:Nat)(v1:aQ)(v:aC)(X:PN (Btw lo D) w v1 v)(P:fF d v)(v2:aQ)(q:aC)(W:PN (Btw lo D) w v2 q)(H:fF d q)(ab:e_.length+(cC d v+(cC d q+0))<=90000):
 Calls prog 91 #[bE cb,.iface 231 (.agg #[I_ l,v1,v2])] w (dI cb D lo fs n w (aP fs (fY n) d q (aP fs (fY n) d v ⟨e_,0,0⟩))):=by
 obtain⟨J,u,rfl⟩:=X.form;obtain⟨V,r,rfl⟩:=W.form;have q0:=xS;have q1:=BB;have q2:=PY;have q3:=DG;have q4:=BA;have q5:=DH;have q6:=GX;have q7:=wA;have q8:=GW;have q9:=DI;obtain⟨z,b⟩:=Loc.new h (.cells #[I_ l,(.iface J (.agg u)),(.iface V (.agg r))] 231);have t:=aB z;have U:=aB b;clear h z b;go_in
 have f:=aB (Y (.iface J (.agg u)) v e_ (w.alloc (.cells #[I_ l,(.iface J (.agg u)),(.iface V (.agg r))] 231)) U (X.below t.fb.bel) P o_)
 have F:=aB (gL fs (fY n) d v ⟨e_,0,0⟩);obtain⟨C,c⟩:=E_ (aP fs (fY n) d v (⟨e_,0,0⟩:bC));have x:=aB c.symm;rw[<-c] at F;first|rw[<-c] at f|rw[show _=C from c.symm] at f
 clear c;go_wp2_with fail;refine f.mono ?_;rintro e Z ⟨j,⟨S,I,rfl,o⟩|⟨b,rfl⟩⟩
 rotate_left
 ·have M:=aB (t.fb.trans j);have T:=aB b;clear j b;go_wp2_with fail;exact⟨rfl,dI.fault (c1:=C) M T (by rw[x.out];exact(Stk.walk fs (fY n) d q C))⟩
 have a:=aB (t.step j);have K:=aB o;subst I;have aa:S.length+(cC d q+0)<=90000:=lZ F rfl o_
 clear j o f;have k:=aB (Y (.iface V (.agg r)) q S Z K (W.below a.fb.bel) H o_)
 obtain⟨s,g⟩:=E_ (aP fs (fY n) d q (⟨S,0,0⟩:bC));have G:=aB g.symm;first|rw[<-g] at k|rw[show _=s from g.symm] at k
 clear g;have E:=aA a.blk (i:=0) rfl;have A:=aA a.blk (i:=1) rfl;have B:=aA a.blk (i:=2) rfl;have N:=aD a.blk;go_wp2_with fail;refine k.mono ?_;rintro e w2 ⟨m,⟨s2,O,rfl,p⟩|⟨y,rfl⟩⟩
 rotate_left
 ·have M:=aB (a.fb.trans m);have T:=aB y;clear m y;go_wp2_with fail;exact⟨rfl,dI.fault (c1:=s) M T (by rw[x.out,G.out];exact Stk.refl s)⟩
 have L:=aB (a.step m);have Q:=aB p;subst O;clear m p k E A B N;go_wp2
 go_end0;exact dI.done L.fb (by rw[x.out,G.out]) Q
def K8(cb F lo:Nat)(fs:List aC)(n:aQ)(d:Nat)(IH:kN cb F lo fs n d)(e_:cN)(w:aG)(h:CK cb F lo fs n w e_)(l:Nat)(x:ByteArray)(v1:aQ)(v:aC)(Z:PN (Btw lo F) w v1 v)(S:fF d v)(v2:aQ)(q:aC)(Y:PN (Btw lo F) w v2 q)(J:fF d q)(ac:e_.length+(cC d v+(cC d q+0))<=90000):
 Calls prog 91 #[bE cb,.iface 235 (.agg #[I_ l,.string x,v1,v2])] w (dI cb F lo fs n w (aP fs (fY n) d q (aP fs (fY n) d v ⟨e_,0,0⟩))):=by
 obtain⟨L,u,rfl⟩:=Z.form;obtain⟨X,r,rfl⟩:=Y.form;have q0:=wC;have q1:=xW;have q2:=MO;have q3:=BE;have q4:=xU;have q5:=BG;have q6:=DP;have q7:=uV;have q8:=DO;have q9:=BH;have ab:=BF;have ad:=xV;obtain⟨A,b⟩:=Loc.new h (.cells #[I_ l,.string x,(.iface L (.agg u)),(.iface X (.agg r))] 235);have t:=aB A;have W:=aB b;clear h A b;go_in
 have f:=aB (IH (.iface L (.agg u)) v e_ (w.alloc (.cells #[I_ l,.string x,(.iface L (.agg u)),(.iface X (.agg r))] 235)) W (Z.below t.fb.bel) S o_)
 have H:=aB (gL fs (fY n) d v ⟨e_,0,0⟩);obtain⟨E,c⟩:=E_ (aP fs (fY n) d v (⟨e_,0,0⟩:bC));have y:=aB c.symm;rw[<-c] at H;first|rw[<-c] at f|rw[show _=E from c.symm] at f
 clear c;go_wp2_with fail;refine f.mono ?_;rintro e w1 ⟨j,⟨T,K,rfl,o⟩|⟨b,rfl⟩⟩
 rotate_left
 ·have O:=aB (t.fb.trans j);have V:=aB b;clear j b;go_wp2_with fail;exact⟨rfl,dI.fault (c1:=E) O V (by rw[y.out];exact(Stk.walk fs (fY n) d q E))⟩
 have a:=aB (t.step j);have M:=aB o;subst K;have aa:T.length+(cC d q+0)<=90000:=lZ H rfl o_
 clear j o f;have k:=aB (IH (.iface X (.agg r)) q T w1 M (Y.below a.fb.bel) J o_)
 obtain⟨s,g⟩:=E_ (aP fs (fY n) d q (⟨T,0,0⟩:bC));have I:=aB g.symm;first|rw[<-g] at k|rw[show _=s from g.symm] at k
 clear g;have G:=aA a.blk (i:=0) rfl;have B:=aA a.blk (i:=1) rfl;have C:=aA a.blk (i:=2) rfl;have D:=aA a.blk (i:=3) rfl;have P:=aD a.blk;go_wp2_with fail;refine k.mono ?_;rintro e w2 ⟨m,⟨s2,Q,rfl,p⟩|⟨z,rfl⟩⟩
 rotate_left
 ·have O:=aB (a.fb.trans m);have V:=aB z;clear m z;go_wp2_with fail;exact⟨rfl,dI.fault (c1:=s) O V (by rw[y.out,I.out];exact Stk.refl s)⟩
 have N:=aB (a.step m);have U:=aB p;subst Q;clear m p k G B C D P;go_wp2
 go_end0;exact dI.done N.fb (by rw[y.out,I.out]) U
def Z9(cb x lo:Nat)(fs:List aC)(g:aQ)(d:Nat)(IH:kN cb x lo fs g d)(Q:tP cb x lo fs g d)(e_:cN)(w:aG)(h:CK cb x lo fs g w e_)(l:Nat)(v1:aQ)(u:aC)(Z:PN (Btw lo x) w v1 u)(P:fF d u)(u2:aQ)(b:aC)(H:b.op=[98,108,111,99,107])(Y:PKid (Btw lo x) w u2 b.y_)(B:fF d b)(ab:e_.length+(cC d u+(cC d b+0))<=90000):
 Calls prog 91 #[bE cb,.iface 219 (.agg #[I_ l,v1,u2])] w (dI cb x lo fs g w (aP fs (fY g) d b (aP fs (fY g) d u ⟨e_,0,0⟩))):=by
 obtain⟨J,t,rfl⟩:=Z.form;obtain⟨V,X,rfl⟩:=Y.slice;have q0:=xH;have q1:=AM;have q2:=PU;have q3:=CS;obtain⟨z,c⟩:=Loc.new h (.cells #[I_ l,(.iface J (.agg t)),(.slice V b.y_.length X)] 219);have s:=aB z;have W:=aB c;clear h z c;go_in
 have j:=aB (IH (.iface J (.agg t)) u e_ (w.alloc (.cells #[I_ l,(.iface J (.agg t)),(.slice V b.y_.length X)] 219)) W (Z.below s.fb.bel) P o_)
 have F:=aB (gL fs (fY g) d u ⟨e_,0,0⟩);obtain⟨D,f⟩:=E_ (aP fs (fY g) d u (⟨e_,0,0⟩:bC));have v:=aB f.symm;rw[<-f] at F;first|rw[<-f] at j|rw[show _=D from f.symm] at j
 clear f;go_wp2_with fail;refine j.mono ?_;rintro e w1 ⟨m,⟨T,I,rfl,p⟩|⟨c,rfl⟩⟩
 rotate_left
 ·have M:=aB (s.fb.trans m);have U:=aB c;clear m c;go_wp2_with fail;exact⟨rfl,dI.fault (c1:=D) M U (by rw[v.out];exact(Stk.walk fs (fY g) d b D))⟩
 have a:=aB (s.step m);have K:=aB p;subst I;have aa:T.length+(cC d b+0)<=90000:=lZ F rfl o_
 clear m p j;have n:=aB (Q (.slice V b.y_.length X) b T w1 K H (Y.below a.fb.bel) B o_)
 obtain⟨r,k⟩:=E_ (aP fs (fY g) d b (⟨T,0,0⟩:bC));have G:=aB k.symm;first|rw[<-k] at n|rw[show _=r from k.symm] at n
 clear k;have E:=aA a.blk (i:=0) rfl;have A:=aA a.blk (i:=1) rfl;have C:=aA a.blk (i:=2) rfl;have N:=aD a.blk;go_wp2_with fail;refine n.mono ?_;rintro e w2 ⟨o,⟨s2,O,rfl,q⟩|⟨y,rfl⟩⟩
 rotate_left
 ·have M:=aB (a.fb.trans o);have U:=aB y;clear o y;go_wp2_with fail;exact⟨rfl,dI.fault (c1:=r) M U (by rw[v.out,G.out];exact Stk.refl r)⟩
 have L:=aB (a.step o);have S:=aB q;subst O;clear o q n E A C N;go_wp2
 go_end0;exact dI.done L.fb (by rw[v.out,G.out]) S
def cj_(cb B lo:Nat)(fs:List aC)(c:aQ)(d:Nat)(IH:kN cb B lo fs c d)(W:tP cb B lo fs c d)(e_:cN)(w:aG)(h:CK cb B lo fs c w e_)(l:Nat)(v1:aQ)(D:aC)(h1:PN (Btw lo B) w v1 D)(aj:fF d D)(u2:aQ)(g:aC)(J:g.op=[98,108,111,99,107])(g2:PKid (Btw lo B) w u2 g.y_)(L:fF d g)(u3:aQ)(f:aC)(ab:f.op=[98,108,111,99,107])(g3:PKid (Btw lo B) w u3 f.y_)(I:fF d f)(ao:e_.length+(cC d D+(cC d g+(cC d f+0)))<=90000):
 Calls prog 91 #[bE cb,.iface 217 (.agg #[I_ l,v1,u2,u3])] w (dI cb B lo fs c w (aP fs (fY c) d f (aP fs (fY c) d g (aP fs (fY c) d D ⟨e_,0,0⟩)))):=by
 obtain⟨T1,C,rfl⟩:=h1.form;obtain⟨x2,y2,rfl⟩:=g2.slice;obtain⟨x3,y3,rfl⟩:=g3.slice;have q0:=tV;have q1:=wB;have q2:=PZ;obtain⟨F,k⟩:=Loc.new h (.cells #[I_ l,(.iface T1 (.agg C)),(.slice x2 g.y_.length y2),(.slice x3 f.y_.length y3)] 217);have A:=aB F;have ac:=aB k;clear h F k;go_in
 have q:=aB (IH (.iface T1 (.agg C)) D e_ (w.alloc (.cells #[I_ l,(.iface T1 (.agg C)),(.slice x2 g.y_.length y2),(.slice x3 f.y_.length y3)] 217)) ac (h1.below A.fb.bel) aj o_)
 have Y:=aB (gL fs (fY c) d D ⟨e_,0,0⟩);obtain⟨Z,j⟩:=E_ (aP fs (fY c) d D (⟨e_,0,0⟩:bC));have r:=aB j.symm;rw[<-j] at Y;first|rw[<-j] at q|rw[show _=Z from j.symm] at q
 clear j;go_wp2_with fail;refine q.mono ?_;rintro e w1 ⟨n,⟨s1,ah,rfl,v⟩|⟨k,rfl⟩⟩
 rotate_left
 ·have HB:=aB (A.fb.trans n);have M:=aB k;clear n k;go_wp2_with fail;exact⟨rfl,dI.fault (c1:=Z) HB M (by rw[r.out];exact((Stk.walk fs (fY c) d g Z)).trans (Stk.walk fs (fY c) d f _))⟩
 have a:=aB (A.step n);have ad:=aB v;subst ah;have an:s1.length+(cC d g+(cC d f+0))<=90000:=lZ Y rfl o_
 clear n v q;have p:=aB (W (.slice x2 g.y_.length y2) g s1 w1 ad J (g2.below a.fb.bel) L o_)
 have G:=aB (gL fs (fY c) d g ⟨s1,0,0⟩);obtain⟨x,m⟩:=E_ (aP fs (fY c) d g (⟨s1,0,0⟩:bC));have E:=aB m.symm;rw[<-m] at G;first|rw[<-m] at p|rw[show _=x from m.symm] at p
 clear m;have X:=aA a.blk (i:=0) rfl;have S:=aA a.blk (i:=1) rfl;have T:=aA a.blk (i:=2) rfl;have U:=aA a.blk (i:=3) rfl;have al:=aD a.blk;go_wp2_with fail;refine p.mono ?_;rintro e w2 ⟨u,⟨s2,am,rfl,y⟩|⟨aa,rfl⟩⟩
 rotate_left
 ·have HB:=aB (a.fb.trans u);have M:=aB aa;clear u aa;go_wp2_with fail;exact⟨rfl,dI.fault (c1:=x) HB M (by rw[r.out,E.out];exact(Stk.walk fs (fY c) d f x))⟩
 have b:=aB (a.step u);have ag:=aB y;subst am;have ap:s2.length+(cC d f+0)<=90000:=lZ G rfl o_
 clear u y p X S T U al;have s:=aB (W (.slice x3 f.y_.length y3) f s2 w2 ag ab (g3.below b.fb.bel) I o_)
 obtain⟨H,t⟩:=E_ (aP fs (fY c) d f (⟨s2,0,0⟩:bC));have V:=aB t.symm;first|rw[<-t] at s|rw[show _=H from t.symm] at s
 clear t;have N:=aA b.blk (i:=0) rfl;have Q:=aA b.blk (i:=1) rfl;have O:=aA b.blk (i:=2) rfl;have P:=aA b.blk (i:=3) rfl;have ai:=aD b.blk;go_wp2_with fail;refine s.mono ?_;rintro e w3 ⟨o,⟨s3,af,rfl,z⟩|⟨K,rfl⟩⟩
 rotate_left
 ·have HB:=aB (b.fb.trans o);have M:=aB K;clear o K;go_wp2_with fail;exact⟨rfl,dI.fault (c1:=H) HB M (by rw[r.out,E.out,V.out];exact Stk.refl H)⟩
 have ak:=aB (b.step o);have ae:=aB z;subst af;clear o z s N Q O P ai;go_wp2
 go_end0;exact dI.done ak.fb (by rw[r.out,E.out,V.out]) ae
def bV_(cb A lo:Nat)(fs:List aC)(f:aQ)(d:Nat)(IH:kN cb A lo fs f d)(HN:nO cb A lo fs f d)(ai:tP cb A lo fs f d)(e_:cN)(w:aG)(h:CK cb A lo fs f w e_)(l:Nat)(v1:aQ)(C:aC)(h1:PN (Btw lo A) w v1 C)(ah:fF d C)(u2:aQ)(c:aC)(H:c.op=[98,108,111,99,107])(g2:PKid (Btw lo A) w u2 c.y_)(J:fF d c)(an:e_.length+(cC d C+(cC d c+(0+0)))<=90000):
 Calls prog 91 #[bE cb,.iface 217 (.agg #[I_ l,v1,u2,bG])] w (dI cb A lo fs f w ((aP fs (fY f) d c (aP fs (fY f) d C ⟨e_,0,0⟩)))):=by
 obtain⟨T1,B,rfl⟩:=h1.form;obtain⟨x2,y2,rfl⟩:=g2.slice;have q0:=tV;have q1:=wB;have q2:=PZ;obtain⟨E,j⟩:=Loc.new h (.cells #[I_ l,(.iface T1 (.agg B)),(.slice x2 c.y_.length y2),bG] 217);have z:=aB E;have aa:=aB j;clear h E j;go_in
 have p:=aB (IH (.iface T1 (.agg B)) C e_ (w.alloc (.cells #[I_ l,(.iface T1 (.agg B)),(.slice x2 c.y_.length y2),bG] 217)) aa (h1.below z.fb.bel) ah o_)
 have V:=aB (gL fs (fY f) d C ⟨e_,0,0⟩);obtain⟨W,g⟩:=E_ (aP fs (fY f) d C (⟨e_,0,0⟩:bC));have q:=aB g.symm;rw[<-g] at V;first|rw[<-g] at p|rw[show _=W from g.symm] at p
 clear g;go_wp2_with fail;refine p.mono ?_;rintro e w1 ⟨m,⟨Z,af,rfl,u⟩|⟨j,rfl⟩⟩
 rotate_left
 ·have Y:=aB (z.fb.trans m);have K:=aB j;clear m j;go_wp2_with fail;exact⟨rfl,dI.fault (c1:=W) Y K (by rw[q.out];exact((Stk.walk fs (fY f) d c W)).trans (Stk.refl _))⟩
 have a:=aB (z.step m);have ab:=aB u;subst af;have am:Z.length+(cC d c+(0+0))<=90000:=lZ V rfl o_
 clear m u p;have o:=aB (ai (.slice x2 c.y_.length y2) c Z w1 ab H (g2.below a.fb.bel) J o_)
 have F:=aB (gL fs (fY f) d c ⟨Z,0,0⟩);obtain⟨v,k⟩:=E_ (aP fs (fY f) d c (⟨Z,0,0⟩:bC));have D:=aB k.symm;rw[<-k] at F;first|rw[<-k] at o|rw[show _=v from k.symm] at o
 clear k;have U:=aA a.blk (i:=0) rfl;have P:=aA a.blk (i:=1) rfl;have Q:=aA a.blk (i:=2) rfl;have S:=aA a.blk (i:=3) rfl;have ak:=aD a.blk;go_wp2_with fail;refine o.mono ?_;rintro e w2 ⟨t,⟨s2,al,rfl,x⟩|⟨X,rfl⟩⟩
 rotate_left
 ·have Y:=aB (a.fb.trans t);have K:=aB X;clear t X;go_wp2_with fail;exact⟨rfl,dI.fault (c1:=v) Y K (by rw[q.out,D.out];exact(Stk.refl v))⟩
 have b:=aB (a.step t);have ae:=aB x;subst al;have ao:s2.length+(0+0)<=90000:=lZ F rfl o_
 clear t x o U P Q S ak;have r:=aB (J8 d HN s2 w2 ae o_)
 obtain⟨G,s⟩:=E_ ((⟨s2,0,0⟩:bC));have T:=aB s.symm;first|rw[<-s] at r|rw[show _=G from s.symm] at r
 clear s;have L:=aA b.blk (i:=0) rfl;have O:=aA b.blk (i:=1) rfl;have M:=aA b.blk (i:=2) rfl;have N:=aA b.blk (i:=3) rfl;have ag:=aD b.blk;go_wp2_with fail;refine r.mono ?_;rintro e w3 ⟨n,⟨s3,ad,rfl,y⟩|⟨I,rfl⟩⟩
 rotate_left
 ·have Y:=aB (b.fb.trans n);have K:=aB I;clear n I;go_wp2_with fail;exact⟨rfl,dI.fault (c1:=G) Y K (by rw[q.out,D.out,T.out];exact Stk.refl G)⟩
 have aj:=aB (b.step n);have ac:=aB y;subst ad;clear n y r L O M N ag;go_wp2
 go_end0;exact dI.done aj.fb (by rw[q.out,D.out,T.out]) ac
def RQ(cb o lo:Nat)(fs:List aC)(r:aQ)(e_:cN)(w:aG)(h:CK cb o lo fs r w e_)(l:Nat)(x:cE)(t:e_.length+(0+0)<=90000):
 Calls prog 91 #[bE cb,.iface 227 (.agg #[I_ l,.string (bs x)])] w (dI cb o lo fs r w (CN ⟨e_,0,0⟩ l x)):=by
 have y:=tR;have B:=uR;have G:=CT;have C:=vU;have E:=uQ;have D:=vV;have A:=xI;have z:=rI;obtain⟨g,a⟩:=Loc.new h (.cells #[I_ l,.string (bs x)] 227);have j:=aB g;have q:=aB a;clear h g a;go_in
 have b:=aB (U3 cb o lo fs r (w.alloc (.cells #[I_ l,.string (bs x)] 227)) e_ q o_ l x)
 obtain⟨i,d⟩:=E_ (CN (⟨e_,0,0⟩:bC) l x);have k:=aB d.symm;first|rw[<-d] at b|rw[show _=i from d.symm] at b
 clear d;go_wp2_with fail;refine b.mono ?_;rintro e v ⟨c,⟨F,m,rfl,f⟩|⟨a,rfl⟩⟩
 rotate_left
 ·have s:=aB (j.fb.trans c);have u:=aB a;clear c a;go_wp2_with fail;exact⟨rfl,dI.fault (c1:=i) s u (by rw[k.out];exact Stk.refl i)⟩
 have p:=aB (j.step c);have n:=aB f;subst m;clear c f b;go_wp2
 go_end0;exact dI.done p.fb (by rw[k.out]) n
def K9(cb E lo:Nat)(fs:List aC)(c:aQ)(d:Nat)(IH:kN cb E lo fs c d)(HN:nO cb E lo fs c d)(e_:cN)(w:aG)(h:CK cb E lo fs c w e_)(l:Nat)(x:cE)(u2:aQ)(g:List aC)(g2:PKid (Btw lo E) w u2 g)(C:∀k∈g,fF d k)(v1:aQ)(n:aC)(h1:PN (Btw lo E) w v1 n)(ah:fF d n)(am:e_.length+(0+((g.map (cC d)).sum+(cC d n+0)))<=90000):
 Calls prog 91 #[bE cb,.iface 213 (.agg #[I_ l,.string (bs x),u2,v1])] w (dI cb E lo fs c w (aP fs (fY c) d n (jC fs (fY c) d g (CN ⟨e_,0,0⟩ l x)))):=by
 obtain⟨x2,y2,rfl⟩:=g2.slice;obtain⟨T1,F,rfl⟩:=h1.form;have q0:=wD;have q1:=xX;obtain⟨H,j⟩:=Loc.new h (.cells #[I_ l,.string (bs x),(.slice x2 g.length y2),(.iface T1 (.agg F))] 213);have J:=aB H;have aa:=aB j;clear h H j;go_in
 have r:=aB (U3 cb E lo fs c (w.alloc (.cells #[I_ l,.string (bs x),(.slice x2 g.length y2),(.iface T1 (.agg F))] 213)) e_ aa o_ l x)
 have X:=aB (D3 ⟨e_,0,0⟩ l x);obtain⟨c0,f⟩:=E_ (CN (⟨e_,0,0⟩:bC) l x);have t:=aB f.symm;rw[<-f] at X;first|rw[<-f] at r|rw[show _=c0 from f.symm] at r
 clear f;go_wp2_with fail;refine r.mono ?_;rintro e w1 ⟨o,⟨s1,af,rfl,z⟩|⟨j,rfl⟩⟩
 rotate_left
 ·have Z:=aB (J.fb.trans o);have M:=aB j;clear o j;go_wp2_with fail;exact⟨rfl,dI.fault (c1:=c0) Z M (by rw[t.out];exact((Stk.fold (λs k=>Stk.walk fs (fY c) d k s) _ _)).trans (Stk.walk fs (fY c) d n _))⟩
 have a:=aB (J.step o);have ab:=aB z;subst af;have al:s1.length+((g.map (cC d)).sum+(cC d n+0))<=90000:=lZ X rfl o_
 clear o z r;have q:=aB (HN (.slice x2 g.length y2) g s1 w1 ab (g2.below a.fb.bel) C o_ (by have:=wP C;omega))
 have I:=aB (LK fs (fY c) d g ⟨s1,0,0⟩);obtain⟨A,m⟩:=E_ (jC fs (fY c) d g (⟨s1,0,0⟩:bC));have G:=aB m.symm;rw[<-m] at I;first|rw[<-m] at q|rw[show _=A from m.symm] at q
 clear m;have W:=aA a.blk (i:=0) rfl;have S:=aA a.blk (i:=1) rfl;have T:=aA a.blk (i:=2) rfl;have U:=aA a.blk (i:=3) rfl;have aj:=aD a.blk;go_wp2_with fail;refine q.mono ?_;rintro e w2 ⟨y,⟨s2,ak,rfl,B⟩|⟨Y,rfl⟩⟩
 rotate_left
 ·have Z:=aB (a.fb.trans y);have M:=aB Y;clear y Y;go_wp2_with fail;exact⟨rfl,dI.fault (c1:=A) Z M (by rw[t.out,G.out];exact(Stk.walk fs (fY c) d n A))⟩
 have b:=aB (a.step y);have ae:=aB B;subst ak;have an:s2.length+(cC d n+0)<=90000:=lZ I rfl o_
 clear y B q W S T U aj;have u:=aB (IH (.iface T1 (.agg F)) n s2 w2 ae (h1.below b.fb.bel) ah o_)
 obtain⟨K,v⟩:=E_ (aP fs (fY c) d n (⟨s2,0,0⟩:bC));have V:=aB v.symm;first|rw[<-v] at u|rw[show _=K from v.symm] at u
 clear v;have N:=aA b.blk (i:=0) rfl;have Q:=aA b.blk (i:=1) rfl;have O:=aA b.blk (i:=2) rfl;have P:=aA b.blk (i:=3) rfl;have ag:=aD b.blk;go_wp2_with fail;refine u.mono ?_;rintro e w3 ⟨p,⟨s3,ad,rfl,D⟩|⟨L,rfl⟩⟩
 rotate_left
 ·have Z:=aB (b.fb.trans p);have M:=aB L;clear p L;go_wp2_with fail;exact⟨rfl,dI.fault (c1:=K) Z M (by rw[t.out,G.out,V.out];exact Stk.refl K)⟩
 have ai:=aB (b.step p);have ac:=aB D;subst ad;clear p D u N Q O P ag;go_wp2
 go_end0;exact dI.done ai.fb (by rw[t.out,G.out,V.out]) ac
def Fr.keepS{pb:Nat}{w':aG}{o:Obj}(a:Fr pb w w')(h:w.heap[b]?=some o)(c:b≠pb):w'.heap[b]?=some o:=by
 rw[a.block b (aD h) c];exact h
def z8(sb:Nat)(src:ByteArray)(n L:Nat)(w:aG)(r:qL)(e:Ending)(w':aG):Prop:=
 Fr sb w w'/\((r.ok=true/\e=aX (oR ⟨r.sort,r.x_,L⟩)/\SC sb src (n+r.size) L w')\/(r.ok=false/\e=cT 3 L))
def nJ{sb m L:Nat}{a:ByteArray}{wc:aG}(f:Fr sb w wc)(g:SC sb a m L wc)(c:w.heap.size<=b)(h:b≠sb)(e v1 v2 d:aQ):
 Fr sb w ((((wc.setCell (aI b 0) e).setCell (aI b 1) v1).setCell (aI b 2) v2).setCell (aI b 3) d)/\SC sb a m L ((((wc.setCell (aI b 0) e).setCell (aI b 1) v1).setCell (aI b 2) v2).setCell (aI b 3) d):=by
 refine⟨(((f.setCell (d6 c) _).setCell (d6 c) _).setCell (d6 c) _).setCell (d6 c) _,?_⟩;unfold SC;rw[ei _ _ _ _ (by show sb≠b;omega),ei _ _ _ _ (by show sb≠b;omega),ei _ _ _ _ (by show sb≠b;omega),ei _ _ _ _ (by show sb≠b;omega)]
 exact g
def tF(a:ByteArray)(n:Nat):(a.extract n a.size).size=a.size-n:=s_
def E5(sb:Nat)(a:ByteArray)(n L:Nat)(w:aG)(h:SC sb a n L w)(hs:a.size<=2000000000)(hn:n<=a.size):
 Calls prog 182 #[bE sb] w (z8 sb a n L w (iD (a.data.toList.drop n) true)):=by
 obtain⟨f,r⟩:=E_ (bQ (eR true) (a.data.toList.drop n))
 have aa:f<=a.size-n:=by
  have:=lH (eR true) (a.data.toList.drop n);rw[r];simpa using this
 have I:=(SC.cells h).1;have u:w.heap.size≠sb:=o_
 have Y:Hid ((w.alloc (.cells #[I_ 0,.string ⟨#[]⟩,I_ 0,I_ 0] 174)).heap[w.heap.size]?=some (.cells #[I_ 0,.string ⟨#[]⟩,I_ 0,I_ 0] 174 (0,0))):=aN _ _ rfl _;have F:SC sb a n L (w.alloc (.cells #[I_ 0,.string ⟨#[]⟩,I_ 0,I_ 0] 174)):=by unfold SC;rw[em _ _ _ I];exact h
 obtain⟨K,Z,Q,T,M,X⟩:=F.cells;have G:Hid ((w.alloc (.cells #[I_ 0,.string ⟨#[]⟩,I_ 0,I_ 0] 174)).drew.heap[w.heap.size]?=some (.cells #[I_ 0,.string ⟨#[]⟩,I_ 0,I_ 0] 174 (0,0))):=Y;have y:=aB (λw=>wF (eR true) 204 (λ_ _=>rfl) G6 (a.extract n a.size) w (by rw[tF];omega))
 rw[oB,<-r] at y;have t:=aB (pK sb a n L f (w.alloc (.cells #[I_ 0,.string ⟨#[]⟩,I_ 0,I_ 0] 174)).drew F hs o_)
 have s:=aB (SB ((a.data.toList.drop n).take f));obtain⟨k,p⟩:=E_ ((a.data.toList.drop n).take f);rw[<-p] at t s;have P:(bs k).size=f:=by rw[gJ,p,gw];simp;omega
 have V:Hid (iD (a.data.toList.drop n) true={ sort:=if jI.contains k then 107 else 110,x_:=k,size:=f,ok:=decide (f<=16) }):=by
  show _=_
  unfold iD;rw[<-r,<-p];rfl
 rw[V.out];have H1:=aB F;have H:Hid (Fr sb w (w.alloc (.cells #[I_ 0,.string ⟨#[]⟩,I_ 0,I_ 0] 174))):=(Fr.refl _ _).alloc _;clear h F r p V;obtain⟨C,z⟩:=E_ (jI.contains k);rw[<-z] at s ⊢
 clear z;obtain⟨E,o⟩:=E_ ((if C then 107 else 110))
 rw[show (if C=true then 107 else 110)=E from o.symm]
 have D:=aB o;clear o;obtain⟨S,d⟩:∃S:qL,S={ sort:=E,x_:=k,size:=f,ok:=decide (f<=16) }:=⟨_,rfl⟩;rw[<-d];have q:=aB d;clear d;go_in
 go_wp2_with fail;go_cut [3] (λv wc=>v=.string (bs k)/\SC sb a (n+f) L wc/\Fr sb w wc/\wc.heap[w.heap.size]?=some (.cells #[I_ 0,.string ⟨#[]⟩,I_ 0,I_ 0] 174 (0,0)))
 case first=>
  go_region_law (first|(go_simp;go_at_call 179;refine(y _).mono ?_;rintro e w1 ⟨rfl,B⟩;obtain rfl:=B.symm)|(go_simp;go_at_call 203;refine t.mono ?_;rintro e w2 ⟨rfl,g,j⟩;have l:=aB g;have m:=aB (H.drew.trans j);have A:=aB (j.keepS G u);clear g j))
  all_goals
   go_wp2_with fail;go_meet
   case rel=>exact⟨rfl,l,m,A⟩
 case rest=>
  obtain⟨rfl,g,j,b⟩:=hcut;clear Z Q T M X K;obtain⟨K,Z,Q,T,M,X⟩:=g.cells;have l:=aB g;have m:=aB j;have A:=aB b;have W:=aA b (i:=0) rfl;have O:=aA b (i:=1) rfl;have N:=aA b (i:=2) rfl;have U:=aA b (i:=3) rfl;have y0:=aE (i:=0) b;have y1:=aE (i:=1) b;have y2:=aE (i:=2) b;have y3:=aE (i:=3) b;have ab:=aD b;clear g j b t y Y;by_cases x:f<=16
  ·cases C
   all_goals
    have o:=D;clear D;subst o;have d:=q;clear q;subst d;go_wp2_with fail;refine(s _).mono ?_;rintro e w3 ⟨rfl,B⟩;obtain rfl:=B.symm;go_wp2_with fail
    first
     |(refine bodyPost_ret (v:=.agg #[I_ 1,.string (bs k),I_ 0,I_ L]) (by simp[results,results182,go_sem,W,O,N,U]) rfl ?_
       have c:=nJ m l cK u (I_ 1) (.string (bs k)) (I_ 0) (I_ L);exact⟨c.1,d7 ⟨by first|rfl|exact decide_eq_true x,rfl,c.2⟩⟩)
     |(refine bodyPost_ret (v:=.agg #[I_ 0,.string (bs k),I_ 0,I_ L]) (by simp[results,results182,go_sem,W,O,N,U]) rfl ?_
       have c:=nJ m l cK u (I_ 0) (.string (bs k)) (I_ 0) (I_ L);exact⟨c.1,d7 ⟨by first|rfl|exact decide_eq_true x,rfl,c.2⟩⟩)
  ·have d:=q;clear q;subst d;have J:=aB (tE sb a (n+f) L wc l);go_wp2_with fail;refine J.mono ?_;rintro e w3 ⟨rfl,B⟩;obtain rfl:=B.symm;go_wp2_with fail;exact⟨rfl,m,d6 ⟨by first|rfl|exact decide_eq_false x,rfl⟩⟩
end Go.Proofs.YtddnpoiiimjpcaaGreatDoor
