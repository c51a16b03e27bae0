/- Contracts of the program: names: each sort of nodes. -/
import Derived.Test.YthbffcmfmjpncaaGreatDoorP06c
set_option linter.defProp false
set_option maxRecDepth 100000
set_option maxHeartbeats 4000000
namespace Go.Proofs.YthbffcmfmjpncaaGreatDoor
open Hs
open _root_.Go.Proofs.Tryz
open Go.RowKit
variable{fs:List aC}{b cb lo:Nat}{F:Nat->Prop}{v:Value}{w:World}
def PN.parts{a:aC}(h:PN F w v a):∃T c b,v=.iface T (.agg c)/\Shape T c a b/\∀p∈b,p.ok F w:=by
 obtain⟨d,h⟩:=h;cases d with
 |zero=>exact h.elim
 |succ d=>
  obtain⟨T,c,b,g,f,i⟩:=h;exact⟨T,c,b,g,f,λp e=>(i p e).mono (λ_ _ h=>⟨d,h⟩) (λ_ h=>h)⟩
def Prt.ok.one'{a:aC}(h:Prt.ok F w ⟨v,[a],true⟩):PN F w v a:=by
 rcases h with ⟨_,b,c,d⟩|⟨c,_⟩
 ·cases c;exact d
 ·cases c
def Prt.ok.many{l:List aC}(h:Prt.ok F w ⟨v,l,false⟩):PKid F w v l:=by
 rcases h with ⟨b,_⟩|⟨_,a⟩
 ·cases b
 ·exact a
structure Loc(cb:Nat)(w0:World)(b:Nat)(o:Obj)(W:World):Prop where
 fb:FB cb w0 W
 blk:W.heap[b]?=some o
 row:lA cb W≠some b
 ne:b≠cb
def Loc.new{d:Value}{e_:List (List UInt8)}(h:CK cb lo fs d w e_)(o:Obj):Loc cb w w.heap.size o (w.alloc o)/\CK cb lo fs d (w.alloc o) e_:=by
 have a:=h.lt;have c:Below w.heap.size w (w.alloc o):=(eh _ _).alloc (d7 _) _;refine⟨⟨FB.of_below c a,aS _ _ rfl _,λe=>?_,o_⟩,h.grow c⟩
 obtain⟨g,b,f⟩:=h.blk;rw[oG (c.block cb a),mU b] at e;have:=cI f _ e;omega
def Loc.step{o:Obj}{c W d:World}(h:Loc cb c b o W)(a:FB cb W d):Loc cb c b o d:=
 ⟨h.fb.trans a,(a.blk b (aD h.blk) h.ne h.row).trans h.blk,λe=>by
   rcases a.row _ e with e|e
   ·exact h.row e
   ·have:=aD h.blk;omega,h.ne⟩
def sH(cb lo:Nat)(fs:List aC)(fv:Value)(d:Nat):Prop:=
 ∀(v:Value) (b:aC) (e_:List (List UInt8)) (w:World),CK cb lo fs fv w e_->b.op=[98,108,111,99,107]->PKid (Btw lo cb) w v b.y_->eT d b->e_.length+bU d b<=90000->
  Calls prog 128 #[.pointer (some ⟨cb,0,none⟩),v] w (cY cb lo fs fv w (aM fs false d b ⟨e_,0,0⟩))
def vE{d:Nat}{l:List aC}(h:∀k∈l,eT d k):l.length<=(l.map (bU d)).sum:=by
 cases d with
 |zero=>
  cases l with
  |nil=>simp
  |cons x l=>exact(h x (fu ..)).elim
 |succ d=>exact mX d l
def SI{e:Value}{d:Nat}(k:mK cb lo fs e d):sH cb lo fs e (d+1):=by
 intro v b e_ w h a g f c;rw[bU] at c
 have j:aM fs false (d+1) b ⟨e_,0,0⟩={ foldL fs d b.y_ ⟨e_,0,0⟩ with e_:=(foldL fs d b.y_ ⟨e_,0,0⟩).e_.take e_.length }:=by
  rw[aM,if_neg (by rw[a];decide)]
  simp only[cC,a];rfl
 have i:=vE f;rw[j];exact yR cb lo fs e d k v b.y_ e_ w h g f o_ o_
def ZT{a:Value}(d:Nat)(f:mK cb lo fs a d)(e_:List (List UInt8))(w:World)(h:CK cb lo fs a w e_)(c:e_.length<=90000):
 Calls prog 128 #[.pointer (some ⟨cb,0,none⟩),.slice none 0 0] w (cY cb lo fs a w ⟨e_,0,0⟩):=by
 have:=yR cb lo fs a d f (.slice none 0 0) [] e_ w h (d6 ⟨rfl,rfl⟩) (λk b=>by cases b) (by simpa using c) s_
 have e:({ foldL fs d [] ⟨e_,0,0⟩ with e_:=(foldL fs d [] ⟨e_,0,0⟩).e_.take e_.length }:bA)=⟨e_,0,0⟩:=by
  show (⟨e_.take e_.length,0,0⟩:bA)=_
  rw[List.take_length]
 rw[e] at this;exact this
def lD{a:bA}{s t:List (List UInt8)}{m n k:Nat}(h:Adds a ⟨t,0,0⟩ m)(c:a.e_=s)(f:s.length+(m+k)<=n):t.length+k<=n:=by
 obtain⟨x,d,e⟩:=h;have b:t=s++x:=by rw[<-c];exact d
 rw[b,ei];omega
def AZ(s:bA)(l:Nat)(x:List UInt8):bA:=if s.e_.contains x then s else s.found l 6
def YA(s:bA)(l:Nat)(x:List UInt8):Adds s (AZ s l x) 0:=Adds.of_eq (by unfold AZ;split<;>first|rfl|exact nJ _ _ _)
def I0(cb lo:Nat)(fs:List aC)(a:Value)(w:World)(e_:List (List UInt8))(h:CK cb lo fs a w e_)(b:e_.length<=100000)(l:Nat)(x:List UInt8):
 Calls prog 161 #[.pointer (some ⟨cb,0,none⟩),.agg #[.int .i64 l,.string (bs x)]] w (cY cb lo fs a w (AZ ⟨e_,0,0⟩ l x)):=U1 cb lo fs a w e_ h b l x
def IY(cb lo:Nat)(fs:List aC)(a:Value)(e_:List (List UInt8))(w:World)(h:CK cb lo fs a w e_)(l k:Nat):
 Calls prog 111 #[.pointer (some ⟨cb,0,none⟩),.iface 307 (.agg #[.int .i64 l,.int .i64 k])] w (cY cb lo fs a w ⟨e_,0,0⟩):=by
 have H:=aB h;have e:=uQ;have i:=wE;have p:=KK;have j:=zF;have n:=wC;have m:=zH;have g:=BQ;have f:=tO;have o:=BP;have d:=zI;have b:=zG;have c:=wD;clear h;go_enter func111,ntmps111;go_wp2_with fail;go_end0;exact cY.done (FB.refl _) rfl H.out
def ZX(cb lo:Nat)(fs:List aC)(a:Value)(e_:List (List UInt8))(w:World)(h:CK cb lo fs a w e_)(l:Nat)(x:ByteArray):
 Calls prog 111 #[.pointer (some ⟨cb,0,none⟩),.iface 308 (.agg #[.int .i64 l,.string x])] w (cY cb lo fs a w ⟨e_,0,0⟩):=by
 have H:=aB h;have e:=uO;have i:=wA;have o:=KJ;have j:=yZ;have m:=vY;have k:=zB;have g:=BM;have f:=tN;have n:=BL;have d:=zC;have b:=zA;have c:=vZ;clear h;go_enter func111,ntmps111;go_wp2_with fail;go_end0;exact cY.done (FB.refl _) rfl H.out
def X2(cb lo:Nat)(fs:List aC)(a:Value)(e_:List (List UInt8))(w:World)(h:CK cb lo fs a w e_)(l:Nat)(x:Bool):
 Calls prog 111 #[.pointer (some ⟨cb,0,none⟩),.iface 310 (.agg #[.int .i64 l,.bool x])] w (cY cb lo fs a w ⟨e_,0,0⟩):=by
 have H:=aB h;have e:=zN;have i:=CA;have o:=TH;have j:=FN;have m:=BY;have k:=FP;have g:=KP;have f:=wH;have n:=KO;have d:=FQ;have b:=FO;have c:=BZ;clear h;go_enter func111,ntmps111;go_wp2_with fail;go_end0;exact cY.done (FB.refl _) rfl H.out
def X1(cb lo:Nat)(fs:List aC)(x:Value)(d:Nat)(B:mK cb lo fs x d)(e_:List (List UInt8))(w:World)(h:CK cb lo fs x w e_)(l:Nat)(u1:Value)(b:List aC)(y:PKid (Btw lo cb) w u1 b)(j:∀k∈b,eT d k)(A:e_.length+((b.map (bU d)).sum+0)<=90000):
 Calls prog 111 #[.pointer (some ⟨cb,0,none⟩),.iface 276 (.agg #[.int .i64 l,u1])] w (cY cb lo fs x w (foldL fs d b ⟨e_,0,0⟩)):=by
 obtain⟨v,s,rfl⟩:=y.slice;have E:=zJ;have H:=BS;have N:=TF;have I:=FH;have K:=BR;have J:=FI;have G:=KM;have F:=wF;have M:=KL;obtain⟨n,a⟩:=Loc.new h (.cells #[.int .i64 l,(.slice v b.length s)] 276);have m:=aB n;have u:=aB a;clear h n a;go_enter func111,ntmps111;have c:=aB (B (.slice v b.length s) b e_ (w.alloc (.cells #[.int .i64 l,(.slice v b.length s)] 276)) u.out (y.below m.out.fb.bel) j o_ (by have:=vE j;omega))
 obtain⟨o,g⟩:=E_ (foldL fs d b (⟨e_,0,0⟩:bA));have p:=aB g.symm;first|rw[<-g] at c|rw[show _=o from g.symm] at c
 clear g;go_wp2_with fail;refine c.out.mono ?_;rintro e D ⟨f,⟨L,q,rfl,i⟩|⟨a,rfl⟩⟩
 rotate_left
 ·have z:=aB (m.out.fb.trans f);have C:=aB a;clear f a;go_wp2_with fail;exact⟨rfl,cY.fault (c1:=o) z.out C.out (by rw[p.out];exact Stk.refl o)⟩
 have t:=aB (m.out.step f);have r:=aB i;subst q;clear f i c;go_wp2_with fail;go_end0;exact cY.done t.out.fb (by rw[p.out]) r.out
def N1(cb lo:Nat)(fs:List aC)(v:Value)(d:Nat)(C:jW cb lo fs v d)(e_:List (List UInt8))(w:World)(h:CK cb lo fs v w e_)(l:Nat)(x:ByteArray)(v1:Value)(k:aC)(y:PN (Btw lo cb) w v1 k)(s:eT d k)(B:e_.length+(bU d k+0)<=90000):
 Calls prog 111 #[.pointer (some ⟨cb,0,none⟩),.iface 280 (.agg #[.int .i64 l,.string x,v1])] w (cY cb lo fs v w (aM fs false d k ⟨e_,0,0⟩)):=by
 obtain⟨q,j,rfl⟩:=y.form;have G:=vX;have J:=yY;have P:=OC;have K:=BH;have M:=yX;have L:=BJ;have I:=FG;have H:=uN;have O:=FF;have F:=BK;have A:=BI;obtain⟨m,a⟩:=Loc.new h (.cells #[.int .i64 l,.string x,(.iface q (.agg j))] 280);have i:=aB m;have u:=aB a;clear h m a;go_enter func111,ntmps111;have b:=aB (C (.iface q (.agg j)) k e_ (w.alloc (.cells #[.int .i64 l,.string x,(.iface q (.agg j))] 280)) u.out (y.below i.out.fb.bel) s o_)
 obtain⟨n,f⟩:=E_ (aM fs false d k (⟨e_,0,0⟩:bA));have o:=aB f.symm;first|rw[<-f] at b|rw[show _=n from f.symm] at b
 clear f;go_wp2_with fail;refine b.out.mono ?_;rintro e E ⟨c,⟨N,p,rfl,g⟩|⟨a,rfl⟩⟩
 rotate_left
 ·have z:=aB (i.out.fb.trans c);have D:=aB a;clear c a;go_wp2_with fail;exact⟨rfl,cY.fault (c1:=n) z.out D.out (by rw[o.out];exact Stk.refl n)⟩
 have t:=aB (i.out.step c);have r:=aB g;subst p;clear c g b;go_wp2_with fail;go_end0;exact cY.done t.out.fb (by rw[o.out]) r.out
def ZY(cb lo:Nat)(fs:List aC)(v:Value)(d:Nat)(A:jW cb lo fs v d)(e_:List (List UInt8))(w:World)(h:CK cb lo fs v w e_)(l:Nat)(v1:Value)(k:aC)(x:PN (Btw lo cb) w v1 k)(s:eT d k)(z:e_.length+(bU d k+0)<=90000):
 Calls prog 111 #[.pointer (some ⟨cb,0,none⟩),.iface 268 (.agg #[.int .i64 l,v1])] w (cY cb lo fs v w (aM fs false d k ⟨e_,0,0⟩)):=by
 obtain⟨q,j,rfl⟩:=x.form;have D:=nK;have E:=oF;have I:=uP;have F:=pN;have G:=oE;obtain⟨m,a⟩:=Loc.new h (.cells #[.int .i64 l,(.iface q (.agg j))] 268);have i:=aB m;have u:=aB a;clear h m a;go_enter func111,ntmps111;have b:=aB (A (.iface q (.agg j)) k e_ (w.alloc (.cells #[.int .i64 l,(.iface q (.agg j))] 268)) u.out (x.below i.out.fb.bel) s o_)
 obtain⟨n,f⟩:=E_ (aM fs false d k (⟨e_,0,0⟩:bA));have o:=aB f.symm;first|rw[<-f] at b|rw[show _=n from f.symm] at b
 clear f;go_wp2_with fail;refine b.out.mono ?_;rintro e C ⟨c,⟨H,p,rfl,g⟩|⟨a,rfl⟩⟩
 rotate_left
 ·have y:=aB (i.out.fb.trans c);have B:=aB a;clear c a;go_wp2_with fail;exact⟨rfl,cY.fault (c1:=n) y.out B.out (by rw[o.out];exact Stk.refl n)⟩
 have t:=aB (i.out.step c);have r:=aB g;subst p;clear c g b;go_wp2_with fail;go_end0;exact cY.done t.out.fb (by rw[o.out]) r.out
def N2(cb lo:Nat)(fs:List aC)(v:Value)(d:Nat)(A:jW cb lo fs v d)(e_:List (List UInt8))(w:World)(h:CK cb lo fs v w e_)(l:Nat)(v1:Value)(k:aC)(x:PN (Btw lo cb) w v1 k)(s:eT d k)(z:e_.length+(bU d k+0)<=90000):
 Calls prog 111 #[.pointer (some ⟨cb,0,none⟩),.iface 269 (.agg #[.int .i64 l,v1])] w (cY cb lo fs v w (aM fs false d k ⟨e_,0,0⟩)):=by
 obtain⟨q,j,rfl⟩:=x.form;have D:=wB;have E:=zE;have J:=OD;have F:=BN;have H:=zD;have G:=BO;obtain⟨m,a⟩:=Loc.new h (.cells #[.int .i64 l,(.iface q (.agg j))] 269);have i:=aB m;have u:=aB a;clear h m a;go_enter func111,ntmps111;have b:=aB (A (.iface q (.agg j)) k e_ (w.alloc (.cells #[.int .i64 l,(.iface q (.agg j))] 269)) u.out (x.below i.out.fb.bel) s o_)
 obtain⟨n,f⟩:=E_ (aM fs false d k (⟨e_,0,0⟩:bA));have o:=aB f.symm;first|rw[<-f] at b|rw[show _=n from f.symm] at b
 clear f;go_wp2_with fail;refine b.out.mono ?_;rintro e C ⟨c,⟨I,p,rfl,g⟩|⟨a,rfl⟩⟩
 rotate_left
 ·have y:=aB (i.out.fb.trans c);have B:=aB a;clear c a;go_wp2_with fail;exact⟨rfl,cY.fault (c1:=n) y.out B.out (by rw[o.out];exact Stk.refl n)⟩
 have t:=aB (i.out.step c);have r:=aB g;subst p;clear c g b;go_wp2_with fail;go_end0;exact cY.done t.out.fb (by rw[o.out]) r.out
def N3(cb lo:Nat)(fs:List aC)(T:Value)(d:Nat)(X:jW cb lo fs T d)(e_:List (List UInt8))(w:World)(h:CK cb lo fs T w e_)(l:Nat)(v1:Value)(u:aC)(W:PN (Btw lo cb) w v1 u)(N:eT d u)(v2:Value)(p:aC)(V:PN (Btw lo cb) w v2 p)(F:eT d p)(aa:e_.length+(bU d u+(bU d p+0))<=90000):
 Calls prog 111 #[.pointer (some ⟨cb,0,none⟩),.iface 278 (.agg #[.int .i64 l,v1,v2])] w (cY cb lo fs T w (aM fs false d p (aM fs false d u ⟨e_,0,0⟩))):=by
 obtain⟨H,t,rfl⟩:=W.form;obtain⟨U,q,rfl⟩:=V.form;have q0:=wG;have q1:=zL;have q2:=OE;have q3:=BT;have q4:=zK;have q5:=BU;have q6:=FK;have q7:=uR;have q8:=FJ;have q9:=BV;obtain⟨y,b⟩:=Loc.new h (.cells #[.int .i64 l,(.iface H (.agg t)),(.iface U (.agg q))] 278);have s:=aB y;have S:=aB b;clear h y b;go_enter func111,ntmps111;have f:=aB (X (.iface H (.agg t)) u e_ (w.alloc (.cells #[.int .i64 l,(.iface H (.agg t)),(.iface U (.agg q))] 278)) S.out (W.below s.out.fb.bel) N o_)
 have D:=aB (fT fs false d u ⟨e_,0,0⟩);obtain⟨B,c⟩:=E_ (aM fs false d u (⟨e_,0,0⟩:bA));have v:=aB c.symm;rw[<-c] at D;first|rw[<-c] at f|rw[show _=B from c.symm] at f
 clear c;go_wp2_with fail;refine f.out.mono ?_;rintro e Y ⟨j,⟨P,G,rfl,n⟩|⟨b,rfl⟩⟩
 rotate_left
 ·have K:=aB (s.out.fb.trans j);have Q:=aB b;clear j b;go_wp2_with fail;exact⟨rfl,cY.fault (c1:=B) K.out Q.out (by rw[v.out];exact(Stk.walk fs false d p B))⟩
 have a:=aB (s.out.step j);have I:=aB n;subst G;have Z:P.length+(bU d p+0)<=90000:=lD D.out rfl o_
 clear j n f;have k:=aB (X (.iface U (.agg q)) p P Y I.out (V.below a.out.fb.bel) F o_)
 obtain⟨r,g⟩:=E_ (aM fs false d p (⟨P,0,0⟩:bA));have E:=aB g.symm;first|rw[<-g] at k|rw[show _=r from g.symm] at k
 clear g;have C:=aA a.out.blk (i:=0) rfl;have z:=aA a.out.blk (i:=1) rfl;have A:=aA a.out.blk (i:=2) rfl;have L:=aD a.out.blk;go_wp2_with fail;refine k.out.mono ?_;rintro e w2 ⟨m,⟨s2,M,rfl,o⟩|⟨x,rfl⟩⟩
 rotate_left
 ·have K:=aB (a.out.fb.trans m);have Q:=aB x;clear m x;go_wp2_with fail;exact⟨rfl,cY.fault (c1:=r) K.out Q.out (by rw[v.out,E.out];exact Stk.refl r)⟩
 have J:=aB (a.out.step m);have O:=aB o;subst M;clear m o k C z A L;go_wp2_with fail;go_end0;exact cY.done J.out.fb (by rw[v.out,E.out]) O.out
def ZZ(cb lo:Nat)(fs:List aC)(V:Value)(d:Nat)(Z:jW cb lo fs V d)(e_:List (List UInt8))(w:World)(h:CK cb lo fs V w e_)(l:Nat)(x:ByteArray)(v1:Value)(u:aC)(Y:PN (Btw lo cb) w v1 u)(P:eT d u)(v2:Value)(p:aC)(X:PN (Btw lo cb) w v2 p)(H:eT d p)(ac:e_.length+(bU d u+(bU d p+0))<=90000):
 Calls prog 111 #[.pointer (some ⟨cb,0,none⟩),.iface 282 (.agg #[.int .i64 l,.string x,v1,v2])] w (cY cb lo fs V w (aM fs false d p (aM fs false d u ⟨e_,0,0⟩))):=by
 obtain⟨J,t,rfl⟩:=Y.form;obtain⟨W,q,rfl⟩:=X.form;have q0:=uT;have q1:=wK;have q2:=KQ;have q3:=zO;have q4:=wI;have q5:=zQ;have q6:=CC;have q7:=tQ;have q8:=CB;have q9:=zR;have ab:=zP;have ad:=wJ;obtain⟨z,b⟩:=Loc.new h (.cells #[.int .i64 l,.string x,(.iface J (.agg t)),(.iface W (.agg q))] 282);have s:=aB z;have U:=aB b;clear h z b;go_enter func111,ntmps111;have f:=aB (Z (.iface J (.agg t)) u e_ (w.alloc (.cells #[.int .i64 l,.string x,(.iface J (.agg t)),(.iface W (.agg q))] 282)) U.out (Y.below s.out.fb.bel) P o_)
 have F:=aB (fT fs false d u ⟨e_,0,0⟩);obtain⟨D,c⟩:=E_ (aM fs false d u (⟨e_,0,0⟩:bA));have v:=aB c.symm;rw[<-c] at F;first|rw[<-c] at f|rw[show _=D from c.symm] at f
 clear c;go_wp2_with fail;refine f.out.mono ?_;rintro e w1 ⟨j,⟨Q,I,rfl,n⟩|⟨b,rfl⟩⟩
 rotate_left
 ·have M:=aB (s.out.fb.trans j);have T:=aB b;clear j b;go_wp2_with fail;exact⟨rfl,cY.fault (c1:=D) M.out T.out (by rw[v.out];exact(Stk.walk fs false d p D))⟩
 have a:=aB (s.out.step j);have K:=aB n;subst I;have aa:Q.length+(bU d p+0)<=90000:=lD F.out rfl o_
 clear j n f;have k:=aB (Z (.iface W (.agg q)) p Q w1 K.out (X.below a.out.fb.bel) H o_)
 obtain⟨r,g⟩:=E_ (aM fs false d p (⟨Q,0,0⟩:bA));have G:=aB g.symm;first|rw[<-g] at k|rw[show _=r from g.symm] at k
 clear g;have E:=aA a.out.blk (i:=0) rfl;have A:=aA a.out.blk (i:=1) rfl;have B:=aA a.out.blk (i:=2) rfl;have C:=aA a.out.blk (i:=3) rfl;have N:=aD a.out.blk;go_wp2_with fail;refine k.out.mono ?_;rintro e w2 ⟨m,⟨s2,O,rfl,o⟩|⟨y,rfl⟩⟩
 rotate_left
 ·have M:=aB (a.out.fb.trans m);have T:=aB y;clear m y;go_wp2_with fail;exact⟨rfl,cY.fault (c1:=r) M.out T.out (by rw[v.out,G.out];exact Stk.refl r)⟩
 have L:=aB (a.out.step m);have S:=aB o;subst O;clear m o k E A B C N;go_wp2_with fail;go_end0;exact cY.done L.out.fb (by rw[v.out,G.out]) S.out
def N0(cb lo:Nat)(fs:List aC)(G:Value)(d:Nat)(IH:jW cb lo fs G d)(P:sH cb lo fs G d)(e_:List (List UInt8))(w:World)(h:CK cb lo fs G w e_)(l:Nat)(v1:Value)(t:aC)(Y:PN (Btw lo cb) w v1 t)(O:eT d t)(u2:Value)(b:aC)(F:b.op=[98,108,111,99,107])(X:PKid (Btw lo cb) w u2 b.y_)(z:eT d b)(ab:e_.length+(bU d t+(bU d b+0))<=90000):
 Calls prog 111 #[.pointer (some ⟨cb,0,none⟩),.iface 266 (.agg #[.int .i64 l,v1,u2])] w (cY cb lo fs G w (aM fs false d b (aM fs false d t ⟨e_,0,0⟩))):=by
 obtain⟨I,s,rfl⟩:=Y.form;obtain⟨U,W,rfl⟩:=X.slice;have q0:=vV;have q1:=yW;have q2:=OB;have q3:=BF;obtain⟨x,c⟩:=Loc.new h (.cells #[.int .i64 l,(.iface I (.agg s)),(.slice U b.y_.length W)] 266);have r:=aB x;have V:=aB c;clear h x c;go_enter func111,ntmps111;have g:=aB (IH (.iface I (.agg s)) t e_ (w.alloc (.cells #[.int .i64 l,(.iface I (.agg s)),(.slice U b.y_.length W)] 266)) V.out (Y.below r.out.fb.bel) O o_)
 have D:=aB (fT fs false d t ⟨e_,0,0⟩);obtain⟨B,f⟩:=E_ (aM fs false d t (⟨e_,0,0⟩:bA));have u:=aB f.symm;rw[<-f] at D;first|rw[<-f] at g|rw[show _=B from f.symm] at g
 clear f;go_wp2_with fail;refine g.out.mono ?_;rintro e Z ⟨k,⟨S,H,rfl,o⟩|⟨c,rfl⟩⟩
 rotate_left
 ·have L:=aB (r.out.fb.trans k);have T:=aB c;clear k c;go_wp2_with fail;exact⟨rfl,cY.fault (c1:=B) L.out T.out (by rw[u.out];exact(Stk.walk fs false d b B))⟩
 have a:=aB (r.out.step k);have J:=aB o;subst H;have aa:S.length+(bU d b+0)<=90000:=lD D.out rfl o_
 clear k o g;have m:=aB (P (.slice U b.y_.length W) b S Z J.out F (X.below a.out.fb.bel) z o_)
 obtain⟨q,j⟩:=E_ (aM fs false d b (⟨S,0,0⟩:bA));have E:=aB j.symm;first|rw[<-j] at m|rw[show _=q from j.symm] at m
 clear j;have C:=aA a.out.blk (i:=0) rfl;have y:=aA a.out.blk (i:=1) rfl;have A:=aA a.out.blk (i:=2) rfl;have M:=aD a.out.blk;go_wp2_with fail;refine m.out.mono ?_;rintro e w2 ⟨n,⟨s2,N,rfl,p⟩|⟨v,rfl⟩⟩
 rotate_left
 ·have L:=aB (a.out.fb.trans n);have T:=aB v;clear n v;go_wp2_with fail;exact⟨rfl,cY.fault (c1:=q) L.out T.out (by rw[u.out,E.out];exact Stk.refl q)⟩
 have K:=aB (a.out.step n);have Q:=aB p;subst N;clear n p m C y A M;go_wp2_with fail;go_end0;exact cY.done K.out.fb (by rw[u.out,E.out]) Q.out
def v8(cb lo:Nat)(fs:List aC)(fv:Value)(d:Nat)(IH:jW cb lo fs fv d)(U:sH cb lo fs fv d)(e_:List (List UInt8))(w:World)(h:CK cb lo fs fv w e_)(l:Nat)(v1:Value)(B:aC)(h1:PN (Btw lo cb) w v1 B)(ah:eT d B)(u2:Value)(f:aC)(H:f.op=[98,108,111,99,107])(g2:PKid (Btw lo cb) w u2 f.y_)(J:eT d f)(u3:Value)(c:aC)(Z:c.op=[98,108,111,99,107])(g3:PKid (Btw lo cb) w u3 c.y_)(G:eT d c)(am:e_.length+(bU d B+(bU d f+(bU d c+0)))<=90000):
 Calls prog 111 #[.pointer (some ⟨cb,0,none⟩),.iface 264 (.agg #[.int .i64 l,v1,u2,u3])] w (cY cb lo fs fv w (aM fs false d c (aM fs false d f (aM fs false d B ⟨e_,0,0⟩)))):=by
 obtain⟨T1,A,rfl⟩:=h1.form;obtain⟨x2,y2,rfl⟩:=g2.slice;obtain⟨x3,y3,rfl⟩:=g3.slice;have q0:=sN;have q1:=uS;have q2:=OF;obtain⟨D,j⟩:=Loc.new h (.cells #[.int .i64 l,(.iface T1 (.agg A)),(.slice x2 f.y_.length y2),(.slice x3 c.y_.length y3)] 264);have z:=aB D;have aa:=aB j;clear h D j;go_enter func111,ntmps111;have p:=aB (IH (.iface T1 (.agg A)) B e_ (w.alloc (.cells #[.int .i64 l,(.iface T1 (.agg A)),(.slice x2 f.y_.length y2),(.slice x3 c.y_.length y3)] 264)) aa.out (h1.below z.out.fb.bel) ah o_)
 have W:=aB (fT fs false d B ⟨e_,0,0⟩);obtain⟨X,g⟩:=E_ (aM fs false d B (⟨e_,0,0⟩:bA));have q:=aB g.symm;rw[<-g] at W;first|rw[<-g] at p|rw[show _=X from g.symm] at p
 clear g;go_wp2_with fail;refine p.out.mono ?_;rintro e w1 ⟨m,⟨s1,af,rfl,u⟩|⟨j,rfl⟩⟩
 rotate_left
 ·have HB:=aB (z.out.fb.trans m);have K:=aB j;clear m j;go_wp2_with fail;exact⟨rfl,cY.fault (c1:=X) HB.out K.out (by rw[q.out];exact((Stk.walk fs false d f X)).trans (Stk.walk fs false d c _))⟩
 have a:=aB (z.out.step m);have ab:=aB u;subst af;have al:s1.length+(bU d f+(bU d c+0))<=90000:=lD W.out rfl o_
 clear m u p;have o:=aB (U (.slice x2 f.y_.length y2) f s1 w1 ab.out H (g2.below a.out.fb.bel) J o_)
 have E:=aB (fT fs false d f ⟨s1,0,0⟩);obtain⟨v,k⟩:=E_ (aM fs false d f (⟨s1,0,0⟩:bA));have C:=aB k.symm;rw[<-k] at E;first|rw[<-k] at o|rw[show _=v from k.symm] at o
 clear k;have V:=aA a.out.blk (i:=0) rfl;have P:=aA a.out.blk (i:=1) rfl;have Q:=aA a.out.blk (i:=2) rfl;have S:=aA a.out.blk (i:=3) rfl;have aj:=aD a.out.blk;go_wp2_with fail;refine o.out.mono ?_;rintro e w2 ⟨t,⟨s2,ak,rfl,x⟩|⟨Y,rfl⟩⟩
 rotate_left
 ·have HB:=aB (a.out.fb.trans t);have K:=aB Y;clear t Y;go_wp2_with fail;exact⟨rfl,cY.fault (c1:=v) HB.out K.out (by rw[q.out,C.out];exact(Stk.walk fs false d c v))⟩
 have b:=aB (a.out.step t);have ae:=aB x;subst ak;have an:s2.length+(bU d c+0)<=90000:=lD E.out rfl o_
 clear t x o V P Q S aj;have r:=aB (U (.slice x3 c.y_.length y3) c s2 w2 ae.out Z (g3.below b.out.fb.bel) G o_)
 obtain⟨F,s⟩:=E_ (aM fs false d c (⟨s2,0,0⟩:bA));have T:=aB s.symm;first|rw[<-s] at r|rw[show _=F from s.symm] at r
 clear s;have L:=aA b.out.blk (i:=0) rfl;have O:=aA b.out.blk (i:=1) rfl;have M:=aA b.out.blk (i:=2) rfl;have N:=aA b.out.blk (i:=3) rfl;have ag:=aD b.out.blk;go_wp2_with fail;refine r.out.mono ?_;rintro e w3 ⟨n,⟨s3,ad,rfl,y⟩|⟨I,rfl⟩⟩
 rotate_left
 ·have HB:=aB (b.out.fb.trans n);have K:=aB I;clear n I;go_wp2_with fail;exact⟨rfl,cY.fault (c1:=F) HB.out K.out (by rw[q.out,C.out,T.out];exact Stk.refl F)⟩
 have ai:=aB (b.out.step n);have ac:=aB y;subst ad;clear n y r L O M N ag;go_wp2_with fail;go_end0;exact cY.done ai.out.fb (by rw[q.out,C.out,T.out]) ac.out
def n8(cb lo:Nat)(fs:List aC)(U:Value)(d:Nat)(IH:jW cb lo fs U d)(HN:mK cb lo fs U d)(ai:sH cb lo fs U d)(e_:List (List UInt8))(w:World)(h:CK cb lo fs U w e_)(l:Nat)(v1:Value)(A:aC)(h1:PN (Btw lo cb) w v1 A)(ah:eT d A)(u2:Value)(c:aC)(F:c.op=[98,108,111,99,107])(g2:PKid (Btw lo cb) w u2 c.y_)(H:eT d c)(an:e_.length+(bU d A+(bU d c+(0+0)))<=90000):
 Calls prog 111 #[.pointer (some ⟨cb,0,none⟩),.iface 264 (.agg #[.int .i64 l,v1,u2,.slice none 0 0])] w (cY cb lo fs U w ((aM fs false d c (aM fs false d A ⟨e_,0,0⟩)))):=by
 obtain⟨T1,z,rfl⟩:=h1.form;obtain⟨Z,y2,rfl⟩:=g2.slice;have q0:=sN;have q1:=uS;have q2:=OF;obtain⟨C,g⟩:=Loc.new h (.cells #[.int .i64 l,(.iface T1 (.agg z)),(.slice Z c.y_.length y2),.slice none 0 0] 264);have y:=aB C;have aa:=aB g;clear h C g;go_enter func111,ntmps111;have o:=aB (IH (.iface T1 (.agg z)) A e_ (w.alloc (.cells #[.int .i64 l,(.iface T1 (.agg z)),(.slice Z c.y_.length y2),.slice none 0 0] 264)) aa.out (h1.below y.out.fb.bel) ah o_)
 have T:=aB (fT fs false d A ⟨e_,0,0⟩);obtain⟨V,f⟩:=E_ (aM fs false d A (⟨e_,0,0⟩:bA));have p:=aB f.symm;rw[<-f] at T;first|rw[<-f] at o|rw[show _=V from f.symm] at o
 clear f;go_wp2_with fail;refine o.out.mono ?_;rintro e w1 ⟨k,⟨Y,af,rfl,t⟩|⟨g,rfl⟩⟩
 rotate_left
 ·have X:=aB (y.out.fb.trans k);have I:=aB g;clear k g;go_wp2_with fail;exact⟨rfl,cY.fault (c1:=V) X.out I.out (by rw[p.out];exact((Stk.walk fs false d c V)).trans (Stk.refl _))⟩
 have a:=aB (y.out.step k);have ab:=aB t;subst af;have am:Y.length+(bU d c+(0+0))<=90000:=lD T.out rfl o_
 clear k t o;have n:=aB (ai (.slice Z c.y_.length y2) c Y w1 ab.out F (g2.below a.out.fb.bel) H o_)
 have D:=aB (fT fs false d c ⟨Y,0,0⟩);obtain⟨u,j⟩:=E_ (aM fs false d c (⟨Y,0,0⟩:bA));have B:=aB j.symm;rw[<-j] at D;first|rw[<-j] at n|rw[show _=u from j.symm] at n
 clear j;have S:=aA a.out.blk (i:=0) rfl;have N:=aA a.out.blk (i:=1) rfl;have O:=aA a.out.blk (i:=2) rfl;have P:=aA a.out.blk (i:=3) rfl;have ak:=aD a.out.blk;go_wp2_with fail;refine n.out.mono ?_;rintro e w2 ⟨s,⟨s2,al,rfl,v⟩|⟨W,rfl⟩⟩
 rotate_left
 ·have X:=aB (a.out.fb.trans s);have I:=aB W;clear s W;go_wp2_with fail;exact⟨rfl,cY.fault (c1:=u) X.out I.out (by rw[p.out,B.out];exact(Stk.refl u))⟩
 have b:=aB (a.out.step s);have ae:=aB v;subst al;have ao:s2.length+(0+0)<=90000:=lD D.out rfl o_
 clear s v n S N O P ak;have q:=aB (ZT d HN s2 w2 ae.out o_)
 obtain⟨E,r⟩:=E_ ((⟨s2,0,0⟩:bA));have Q:=aB r.symm;first|rw[<-r] at q|rw[show _=E from r.symm] at q
 clear r;have J:=aA b.out.blk (i:=0) rfl;have M:=aA b.out.blk (i:=1) rfl;have K:=aA b.out.blk (i:=2) rfl;have L:=aA b.out.blk (i:=3) rfl;have ag:=aD b.out.blk;go_wp2_with fail;refine q.out.mono ?_;rintro e w3 ⟨m,⟨s3,ad,rfl,x⟩|⟨G,rfl⟩⟩
 rotate_left
 ·have X:=aB (b.out.fb.trans m);have I:=aB G;clear m G;go_wp2_with fail;exact⟨rfl,cY.fault (c1:=E) X.out I.out (by rw[p.out,B.out,Q.out];exact Stk.refl E)⟩
 have aj:=aB (b.out.step m);have ac:=aB x;subst ad;clear m x q J M K L ag;go_wp2_with fail;go_end0;exact cY.done aj.out.fb (by rw[p.out,B.out,Q.out]) ac.out
def PU(cb lo:Nat)(fs:List aC)(q:Value)(e_:List (List UInt8))(w:World)(h:CK cb lo fs q w e_)(l:Nat)(x:List UInt8)(s:e_.length+(0+0)<=90000):
 Calls prog 111 #[.pointer (some ⟨cb,0,none⟩),.iface 274 (.agg #[.int .i64 l,.string (bs x)])] w (cY cb lo fs q w (AZ ⟨e_,0,0⟩ l x)):=by
 have v:=sK;have A:=tM;have F:=BG;have B:=uL;have D:=tL;have C:=uM;have z:=vW;have y:=qA;obtain⟨g,a⟩:=Loc.new h (.cells #[.int .i64 l,.string (bs x)] 274);have i:=aB g;have p:=aB a;clear h g a;go_enter func111,ntmps111;have b:=aB (I0 cb lo fs q (w.alloc (.cells #[.int .i64 l,.string (bs x)] 274)) e_ p.out o_ l x)
 obtain⟨k,d⟩:=E_ (AZ (⟨e_,0,0⟩:bA) l x);have j:=aB d.symm;first|rw[<-d] at b|rw[show _=k from d.symm] at b
 clear d;go_wp2_with fail;refine b.out.mono ?_;rintro e u ⟨c,⟨E,m,rfl,f⟩|⟨a,rfl⟩⟩
 rotate_left
 ·have r:=aB (i.out.fb.trans c);have t:=aB a;clear c a;go_wp2_with fail;exact⟨rfl,cY.fault (c1:=k) r.out t.out (by rw[j.out];exact Stk.refl k)⟩
 have o:=aB (i.out.step c);have n:=aB f;subst m;clear c f b;go_wp2_with fail;go_end0;exact cY.done o.out.fb (by rw[j.out]) n.out
def A0(cb lo:Nat)(fs:List aC)(W:Value)(d:Nat)(IH:jW cb lo fs W d)(HN:mK cb lo fs W d)(e_:List (List UInt8))(w:World)(h:CK cb lo fs W w e_)(l:Nat)(x:List UInt8)(u2:Value)(f:List aC)(g2:PKid (Btw lo cb) w u2 f)(B:∀k∈f,eT d k)(v1:Value)(m:aC)(h1:PN (Btw lo cb) w v1 m)(ah:eT d m)(am:e_.length+(0+((f.map (bU d)).sum+(bU d m+0)))<=90000):
 Calls prog 111 #[.pointer (some ⟨cb,0,none⟩),.iface 262 (.agg #[.int .i64 l,.string (bs x),u2,v1])] w (cY cb lo fs W w (aM fs false d m (foldL fs d f (AZ ⟨e_,0,0⟩ l x)))):=by
 obtain⟨x2,y2,rfl⟩:=g2.slice;obtain⟨T1,D,rfl⟩:=h1.form;have q0:=uU;have q1:=wL;obtain⟨F,g⟩:=Loc.new h (.cells #[.int .i64 l,.string (bs x),(.slice x2 f.length y2),(.iface T1 (.agg D))] 262);have H:=aB F;have aa:=aB g;clear h F g;go_enter func111,ntmps111;have q:=aB (I0 cb lo fs W (w.alloc (.cells #[.int .i64 l,.string (bs x),(.slice x2 f.length y2),(.iface T1 (.agg D))] 262)) e_ aa.out o_ l x)
 have V:=aB (YA ⟨e_,0,0⟩ l x);obtain⟨c0,c⟩:=E_ (AZ (⟨e_,0,0⟩:bA) l x);have r:=aB c.symm;rw[<-c] at V;first|rw[<-c] at q|rw[show _=c0 from c.symm] at q
 clear c;go_wp2_with fail;refine q.out.mono ?_;rintro e w1 ⟨n,⟨Z,af,rfl,y⟩|⟨g,rfl⟩⟩
 rotate_left
 ·have Y:=aB (H.out.fb.trans n);have K:=aB g;clear n g;go_wp2_with fail;exact⟨rfl,cY.fault (c1:=c0) Y.out K.out (by rw[r.out];exact((Stk.fold (λs k=>Stk.walk fs false d k s) _ _)).trans (Stk.walk fs false d m _))⟩
 have a:=aB (H.out.step n);have ab:=aB y;subst af;have al:Z.length+((f.map (bU d)).sum+(bU d m+0))<=90000:=lD V.out rfl o_
 clear n y q;have p:=aB (HN (.slice x2 f.length y2) f Z w1 ab.out (g2.below a.out.fb.bel) B o_ (by have:=vE B;omega))
 have G:=aB (JG fs d f ⟨Z,0,0⟩);obtain⟨z,j⟩:=E_ (foldL fs d f (⟨Z,0,0⟩:bA));have E:=aB j.symm;rw[<-j] at G;first|rw[<-j] at p|rw[show _=z from j.symm] at p
 clear j;have U:=aA a.out.blk (i:=0) rfl;have P:=aA a.out.blk (i:=1) rfl;have Q:=aA a.out.blk (i:=2) rfl;have S:=aA a.out.blk (i:=3) rfl;have aj:=aD a.out.blk;go_wp2_with fail;refine p.out.mono ?_;rintro e w2 ⟨v,⟨s2,ak,rfl,A⟩|⟨X,rfl⟩⟩
 rotate_left
 ·have Y:=aB (a.out.fb.trans v);have K:=aB X;clear v X;go_wp2_with fail;exact⟨rfl,cY.fault (c1:=z) Y.out K.out (by rw[r.out,E.out];exact(Stk.walk fs false d m z))⟩
 have b:=aB (a.out.step v);have ae:=aB A;subst ak;have an:s2.length+(bU d m+0)<=90000:=lD G.out rfl o_
 clear v A p U P Q S aj;have t:=aB (IH (.iface T1 (.agg D)) m s2 w2 ae.out (h1.below b.out.fb.bel) ah o_)
 obtain⟨I,u⟩:=E_ (aM fs false d m (⟨s2,0,0⟩:bA));have T:=aB u.symm;first|rw[<-u] at t|rw[show _=I from u.symm] at t
 clear u;have L:=aA b.out.blk (i:=0) rfl;have O:=aA b.out.blk (i:=1) rfl;have M:=aA b.out.blk (i:=2) rfl;have N:=aA b.out.blk (i:=3) rfl;have ag:=aD b.out.blk;go_wp2_with fail;refine t.out.mono ?_;rintro e w3 ⟨o,⟨s3,ad,rfl,C⟩|⟨J,rfl⟩⟩
 rotate_left
 ·have Y:=aB (b.out.fb.trans o);have K:=aB J;clear o J;go_wp2_with fail;exact⟨rfl,cY.fault (c1:=I) Y.out K.out (by rw[r.out,E.out,T.out];exact Stk.refl I)⟩
 have ai:=aB (b.out.step o);have ac:=aB C;subst ad;clear o C t L O M N ag;go_wp2_with fail;go_end0;exact cY.done ai.out.fb (by rw[r.out,E.out,T.out]) ac.out
def Fr.keepS{pb:Nat}{w':World}{o:Obj}(a:Fr pb w w')(h:w.heap[b]?=some o)(c:b≠pb):w'.heap[b]?=some o:=by
 rw[a.block b (aD h) c];exact h
def R5(sb:Nat)(src:ByteArray)(n L:Nat)(w:World)(r:pI)(e:Ending)(w':World):Prop:=
 Fr sb w w'/\((r.ok=true/\e=.returned (oH ⟨r.sort,r.x_,L⟩)/\SC sb src (n+r.size) L w')\/(r.ok=false/\e=dC 3 L))
def mE{sb m L:Nat}{a:ByteArray}{wc:World}(f:Fr sb w wc)(g:SC sb a m L wc)(c:w.heap.size<=b)(h:b≠sb)(e v1 v2 d:Value):
 Fr sb w ((((wc.setCell ⟨b,0,none⟩ e).setCell ⟨b,1,none⟩ v1).setCell ⟨b,2,none⟩ v2).setCell ⟨b,3,none⟩ d)/\SC sb a m L ((((wc.setCell ⟨b,0,none⟩ e).setCell ⟨b,1,none⟩ v1).setCell ⟨b,2,none⟩ v2).setCell ⟨b,3,none⟩ d):=by
 refine⟨(((f.setCell (d5 c) _).setCell (d5 c) _).setCell (d5 c) _).setCell (d5 c) _,?_⟩;unfold SC;rw[ej _ _ _ _ (by show sb≠b;omega),ej _ _ _ _ (by show sb≠b;omega),ej _ _ _ _ (by show sb≠b;omega),ej _ _ _ _ (by show sb≠b;omega)]
 exact g
def rW(a:ByteArray)(n:Nat):(a.extract n a.size).size=a.size-n:=s_
def YK(sb:Nat)(a:ByteArray)(n L:Nat)(w:World)(h:SC sb a n L w)(hs:a.size<=2000000000)(hn:n<=a.size):
 Calls prog 175 #[.pointer (some ⟨sb,0,none⟩)] w (R5 sb a n L w (gD (a.data.toList.drop n) true)):=by
 obtain⟨f,r⟩:=E_ (bF (dU true) (a.data.toList.drop n))
 have aa:f<=a.size-n:=by
  have:=kO (dU true) (a.data.toList.drop n);rw[r];simpa using this
 have I:=(SC.cells h).1;have u:w.heap.size≠sb:=o_
 have Y:Hid ((w.alloc (.cells #[.int .i64 0,.string ⟨#[]⟩,.int .i64 0,.int .i64 0] 150)).heap[w.heap.size]?=some (.cells #[.int .i64 0,.string ⟨#[]⟩,.int .i64 0,.int .i64 0] 150 (0,0))):=aS _ _ rfl _;have F:SC sb a n L (w.alloc (.cells #[.int .i64 0,.string ⟨#[]⟩,.int .i64 0,.int .i64 0] 150)):=by unfold SC;rw[eq _ _ _ I];exact h
 obtain⟨K,Z,Q,T,M,X⟩:=F.cells;have G:Hid ((w.alloc (.cells #[.int .i64 0,.string ⟨#[]⟩,.int .i64 0,.int .i64 0] 150)).drew.heap[w.heap.size]?=some (.cells #[.int .i64 0,.string ⟨#[]⟩,.int .i64 0,.int .i64 0] 150 (0,0))):=Y.out;have y:=aB (λw=>uV (dU true) 215 (λ_ _=>rfl) YZ (a.extract n a.size) w (by rw[rW];omega))
 rw[nA,<-r] at y;have t:=aB (oD sb a n L f (w.alloc (.cells #[.int .i64 0,.string ⟨#[]⟩,.int .i64 0,.int .i64 0] 150)).drew F hs o_)
 have s:=aB (QH ((a.data.toList.drop n).take f));obtain⟨k,p⟩:=E_ ((a.data.toList.drop n).take f);rw[<-p] at t s;have P:(bs k).size=f:=by rw[gJ,p,gs];simp;omega
 have V:Hid (gD (a.data.toList.drop n) true={ sort:=if gN.contains k then 107 else 110,x_:=k,size:=f,ok:=decide (f<=16) }):=by
  show _=_
  unfold gD;rw[<-r,<-p];rfl
 rw[V.out];have H1:=aB F;have H:Hid (Fr sb w (w.alloc (.cells #[.int .i64 0,.string ⟨#[]⟩,.int .i64 0,.int .i64 0] 150))):=(Fr.refl _ _).alloc _;clear h F r p V;obtain⟨C,z⟩:=E_ (gN.contains k);rw[<-z] at s ⊢
 clear z;obtain⟨E,o⟩:=E_ ((if C then 107 else 110))
 rw[show (if C=true then 107 else 110)=E from o.symm]
 have D:=aB o;clear o;obtain⟨S,d⟩:∃S:pI,S={ sort:=E,x_:=k,size:=f,ok:=decide (f<=16) }:=⟨_,rfl⟩;rw[<-d];have q:=aB d;clear d;go_enter func175,ntmps175;go_wp2_with fail;go_cut [3] (λv wc=>v=.string (bs k)/\SC sb a (n+f) L wc/\Fr sb w wc/\wc.heap[w.heap.size]?=some (.cells #[.int .i64 0,.string ⟨#[]⟩,.int .i64 0,.int .i64 0] 150 (0,0)))
 case first=>
  go_region_law (first|(go_simp;go_at_call 172;refine(y.out _).mono ?_;rintro e w1 ⟨rfl,B⟩;obtain rfl:=B.symm)|(go_simp;go_at_call 214;refine t.out.mono ?_;rintro e w2 ⟨rfl,g,j⟩;have l:=aB g;have m:=aB (H.out.drew.trans j);have A:=aB (j.keepS G.out u);clear g j))
  all_goals
   go_wp2_with fail;go_meet
   case rel=>exact⟨rfl,l.out,m.out,A.out⟩
 case rest=>
  obtain⟨rfl,g,j,b⟩:=hcut;clear Z Q T M X K;obtain⟨K,Z,Q,T,M,X⟩:=g.cells;have l:=aB g;have m:=aB j;have A:=aB b;have W:=aA b (i:=0) rfl;have O:=aA b (i:=1) rfl;have N:=aA b (i:=2) rfl;have U:=aA b (i:=3) rfl;have y0:=aE (i:=0) b;have y1:=aE (i:=1) b;have y2:=aE (i:=2) b;have y3:=aE (i:=3) b;have ab:=aD b;clear g j b t y Y;by_cases x:f<=16
  ·cases C
   all_goals
    have o:=D.out;clear D;subst o;have d:=q.out;clear q;subst d;go_wp2_with fail;refine(s.out _).mono ?_;rintro e w3 ⟨rfl,B⟩;obtain rfl:=B.symm;go_wp2_with fail
    first
     |(refine bodyPost_ret (v:=.agg #[.int .i64 1,.string (bs k),.int .i64 0,.int .i64 L]) (by simp[results,results175,go_sem,W,O,N,U]) rfl ?_
       have c:=mE m.out l.out (d7 _) u (.int .i64 1) (.string (bs k)) (.int .i64 0) (.int .i64 L);exact⟨c.1,d6 ⟨by first|rfl|exact decide_eq_true x,rfl,c.2⟩⟩)
     |(refine bodyPost_ret (v:=.agg #[.int .i64 0,.string (bs k),.int .i64 0,.int .i64 L]) (by simp[results,results175,go_sem,W,O,N,U]) rfl ?_
       have c:=mE m.out l.out (d7 _) u (.int .i64 0) (.string (bs k)) (.int .i64 0) (.int .i64 L);exact⟨c.1,d6 ⟨by first|rfl|exact decide_eq_true x,rfl,c.2⟩⟩)
  ·have d:=q.out;clear q;subst d;have J:=aB (rV sb a (n+f) L wc l.out);go_wp2_with fail;refine J.out.mono ?_;rintro e w3 ⟨rfl,B⟩;obtain rfl:=B.symm;go_wp2_with fail;exact⟨rfl,m.out,d5 ⟨by first|rfl|exact decide_eq_false x,rfl⟩⟩
end Go.Proofs.YthbffcmfmjpncaaGreatDoor
