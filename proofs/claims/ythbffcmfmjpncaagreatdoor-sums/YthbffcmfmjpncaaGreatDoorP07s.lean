/- Contracts of the program: names: each sort of nodes. -/
import Derived.Test.YthbffcmfmjpncaaGreatDoorP06s
import Derived.Test.YthbffcmfmjpncaaGreatDoorP03s
set_option linter.defProp false
set_option maxRecDepth 100000
set_option maxHeartbeats 4000000
namespace Go.Proofs.YthbffcmfmjpncaaGreatDoor
open Hs
open _root_.Go.Proofs.Tryz
open Go.RowKit
variable{fs:List aC}{b cb lo:Nat}{F:Nat->Prop}{v:Value}{w:World}
def PN.parts{a:aC}(h:PN F w v a):∃T c b,v=.iface T (.agg c)/\Shape T c a b/\∀p∈b,p.ok F w:=by
 obtain⟨d,h⟩:=h;cases d with
 |zero=>exact h.elim
 |succ d=>
  obtain⟨T,c,b,g,f,i⟩:=h;exact⟨T,c,b,g,f,λp e=>(i p e).mono (λ_ _ h=>⟨d,h⟩) (λ_ h=>h)⟩
def Prt.ok.one'{a:aC}(h:Prt.ok F w ⟨v,[a],true⟩):PN F w v a:=by
 rcases h with ⟨_,b,c,d⟩|⟨c,_⟩
 ·cases c;exact d
 ·cases c
def Prt.ok.many{l:List aC}(h:Prt.ok F w ⟨v,l,false⟩):PKid F w v l:=by
 rcases h with ⟨b,_⟩|⟨_,a⟩
 ·cases b
 ·exact a
structure Loc(cb:Nat)(w0:World)(b:Nat)(o:Obj)(W:World):Prop where
 fb:FB cb w0 W
 blk:W.heap[b]?=some o
 row:jR cb W≠some b
 ne:b≠cb
def Loc.new{d:Value}{e_:List (List UInt8)}(h:CK cb lo fs d w e_)(o:Obj):Loc cb w w.heap.size o (w.alloc o)/\CK cb lo fs d (w.alloc o) e_:=by
 have a:=h.lt;have c:Below w.heap.size w (w.alloc o):=(F9 _ _).alloc (F6 _) _;refine⟨⟨FB.of_below c a,aU _ _ rfl _,λe=>?_,o_⟩,h.grow c⟩
 obtain⟨g,b,f⟩:=h.blk;rw[mS (c.block cb a),kT b] at e;have:=cK f _ e;omega
def Loc.step{o:Obj}{c W d:World}(h:Loc cb c b o W)(a:FB cb W d):Loc cb c b o d:=
 ⟨h.fb.trans a,(a.blk b (aD h.blk) h.ne h.row).trans h.blk,λe=>by
   rcases a.row _ e with e|e
   ·exact h.row e
   ·have:=aD h.blk;omega,h.ne⟩
def qN(cb lo:Nat)(fs:List aC)(fv:Value)(d:Nat):Prop:=
 ∀(v:Value) (b:aC) (e_:List (List UInt8)) (w:World),CK cb lo fs fv w e_->b.op=[98,108,111,99,107]->PKid (Btw lo cb) w v b.y_->eM d b->e_.length+cG d b<=90000->
  Calls prog 128 #[.pointer (some ⟨cb,0,none⟩),v] w (cL cb lo fs fv w (aV fs false d b ⟨e_,0,0⟩))
def tA{d:Nat}{l:List aC}(h:∀k∈l,eM d k):l.length<=(l.map (cG d)).sum:=by
 cases d with
 |zero=>
  cases l with
  |nil=>simp
  |cons x l=>exact(h x (K8 ..)).elim
 |succ d=>exact kX d l
def KV{e:Value}{d:Nat}(k:kE cb lo fs e d):qN cb lo fs e (d+1):=by
 intro v b e_ w h a g f c;rw[cG] at c
 have j:aV fs false (d+1) b ⟨e_,0,0⟩={ foldL fs d b.y_ ⟨e_,0,0⟩ with e_:=(foldL fs d b.y_ ⟨e_,0,0⟩).e_.take e_.length }:=by
  rw[aV,if_neg (by rw[a];decide)]
  simp only[eH,a];rfl
 have i:=tA f;rw[j];exact vX cb lo fs e d k v b.y_ e_ w h g f o_ o_
def SJ{a:Value}(d:Nat)(f:kE cb lo fs a d)(e_:List (List UInt8))(w:World)(h:CK cb lo fs a w e_)(c:e_.length<=90000):
 Calls prog 128 #[.pointer (some ⟨cb,0,none⟩),.slice none 0 0] w (cL cb lo fs a w ⟨e_,0,0⟩):=by
 have:=vX cb lo fs a d f (.slice none 0 0) [] e_ w h (F7 ⟨rfl,rfl⟩) (λk b=>by cases b) (by simpa using c) s_
 have e:({ foldL fs d [] ⟨e_,0,0⟩ with e_:=(foldL fs d [] ⟨e_,0,0⟩).e_.take e_.length }:aW)=⟨e_,0,0⟩:=by
  show (⟨e_.take e_.length,0,0⟩:aW)=_
  rw[List.take_length]
 rw[e] at this;exact this
def iU{a:aW}{s t:List (List UInt8)}{m n k:Nat}(h:Adds a ⟨t,0,0⟩ m)(c:a.e_=s)(f:s.length+(m+k)<=n):t.length+k<=n:=by
 obtain⟨x,d,e⟩:=h;have b:t=s++x:=by rw[<-c];exact d
 rw[b,F8];omega
def xL(s:aW)(l:Nat)(x:List UInt8):aW:=if s.e_.contains x then s else s.found l 6
def QL(s:aW)(l:Nat)(x:List UInt8):Adds s (xL s l x) 0:=Adds.of_eq (by unfold xL;split<;>first|rfl|exact lF _ _ _)
def UM(cb lo:Nat)(fs:List aC)(a:Value)(w:World)(e_:List (List UInt8))(h:CK cb lo fs a w e_)(b:e_.length<=100000)(l:Nat)(x:List UInt8):
 Calls prog 161 #[.pointer (some ⟨cb,0,none⟩),.agg #[.int .i64 l,.string (bs x)]] w (cL cb lo fs a w (xL ⟨e_,0,0⟩ l x)):=YE cb lo fs a w e_ h b l x
def DD(cb lo:Nat)(fs:List aC)(a:Value)(e_:List (List UInt8))(w:World)(h:CK cb lo fs a w e_)(l k:Nat):
 Calls prog 111 #[.pointer (some ⟨cb,0,none⟩),.iface 307 (.agg #[.int .i64 l,.int .i64 k])] w (cL cb lo fs a w ⟨e_,0,0⟩):=by
 have H:=aB h;have e:=lK;have i:=mN;have p:=sJ;have j:=nX;have n:=mL;have m:=nZ;have g:=oV;have f:=kQ;have o:=oU;have d:=oA;have b:=nY;have c:=mM;clear h;go_enter func111,ntmps111;go_wp2_with fail;go_end0;exact cL.done (FB.refl _) rfl H.out
def SN(cb lo:Nat)(fs:List aC)(a:Value)(e_:List (List UInt8))(w:World)(h:CK cb lo fs a w e_)(l:Nat)(x:ByteArray):
 Calls prog 111 #[.pointer (some ⟨cb,0,none⟩),.iface 308 (.agg #[.int .i64 l,.string x])] w (cL cb lo fs a w ⟨e_,0,0⟩):=by
 have H:=aB h;have e:=sH;have i:=tV;have o:=EP;have j:=wA;have m:=tT;have k:=wC;have g:=xW;have f:=rJ;have n:=xV;have d:=wD;have b:=wB;have c:=tU;clear h;go_enter func111,ntmps111;go_wp2_with fail;go_end0;exact cL.done (FB.refl _) rfl H.out
def YQ(cb lo:Nat)(fs:List aC)(a:Value)(e_:List (List UInt8))(w:World)(h:CK cb lo fs a w e_)(l:Nat)(x:Bool):
 Calls prog 111 #[.pointer (some ⟨cb,0,none⟩),.iface 310 (.agg #[.int .i64 l,.bool x])] w (cL cb lo fs a w ⟨e_,0,0⟩):=by
 have H:=aB h;have e:=wK;have i:=yI;have o:=LQ;have j:=AY;have m:=yG;have k:=BA;have g:=EU;have f:=tZ;have n:=ET;have d:=BB;have b:=AZ;have c:=yH;clear h;go_enter func111,ntmps111;go_wp2_with fail;go_end0;exact cL.done (FB.refl _) rfl H.out
def YP(cb lo:Nat)(fs:List aC)(x:Value)(d:Nat)(B:kE cb lo fs x d)(e_:List (List UInt8))(w:World)(h:CK cb lo fs x w e_)(l:Nat)(u1:Value)(b:List aC)(y:PKid (Btw lo cb) w u1 b)(j:∀k∈b,eM d k)(A:e_.length+((b.map (cG d)).sum+0)<=90000):
 Calls prog 111 #[.pointer (some ⟨cb,0,none⟩),.iface 276 (.agg #[.int .i64 l,u1])] w (cL cb lo fs x w (foldL fs d b ⟨e_,0,0⟩)):=by
 obtain⟨v,s,rfl⟩:=y.slice;have E:=wG;have H:=yA;have N:=LO;have I:=AS;have K:=xZ;have J:=AT;have G:=ER;have F:=tX;have M:=EQ;obtain⟨n,a⟩:=Loc.new h (.cells #[.int .i64 l,(.slice v b.length s)] 276);have m:=aB n;have u:=aB a;clear h n a;go_enter func111,ntmps111;have c:=aB (B (.slice v b.length s) b e_ (w.alloc (.cells #[.int .i64 l,(.slice v b.length s)] 276)) u.out (y.below m.out.fb.bel) j o_ (by have:=tA j;omega))
 obtain⟨o,g⟩:=E_ (foldL fs d b (⟨e_,0,0⟩:aW));have p:=aB g.symm;first|rw[<-g] at c|rw[show _=o from g.symm] at c
 clear g;go_wp2_with fail;refine c.out.mono ?_;rintro e D ⟨f,⟨L,q,rfl,i⟩|⟨a,rfl⟩⟩
 rotate_left
 ·have z:=aB (m.out.fb.trans f);have C:=aB a;clear f a;go_wp2_with fail;exact⟨rfl,cL.fault (c1:=o) z.out C.out (by rw[p.out];exact Stk.refl o)⟩
 have t:=aB (m.out.step f);have r:=aB i;subst q;clear f i c;go_wp2_with fail;go_end0;exact cL.done t.out.fb (by rw[p.out]) r.out
def WF(cb lo:Nat)(fs:List aC)(v:Value)(d:Nat)(IH:gY cb lo fs v d)(e_:List (List UInt8))(w:World)(h:CK cb lo fs v w e_)(l:Nat)(x:ByteArray)(v1:Value)(k:aC)(y:PN (Btw lo cb) w v1 k)(s:eM d k)(B:e_.length+(cG d k+0)<=90000):
 Calls prog 111 #[.pointer (some ⟨cb,0,none⟩),.iface 280 (.agg #[.int .i64 l,.string x,v1])] w (cL cb lo fs v w (aV fs false d k ⟨e_,0,0⟩)):=by
 obtain⟨q,j,rfl⟩:=y.form;have F:=mI;have I:=nV;have O:=vF;have J:=oQ;have L:=nU;have K:=oS;have H:=qS;have G:=lI;have N:=qR;have E:=oT;have A:=oR;obtain⟨m,a⟩:=Loc.new h (.cells #[.int .i64 l,.string x,(.iface q (.agg j))] 280);have i:=aB m;have u:=aB a;clear h m a;go_enter func111,ntmps111;have b:=aB (IH (.iface q (.agg j)) k e_ (w.alloc (.cells #[.int .i64 l,.string x,(.iface q (.agg j))] 280)) u.out (y.below i.out.fb.bel) s o_)
 obtain⟨n,f⟩:=E_ (aV fs false d k (⟨e_,0,0⟩:aW));have o:=aB f.symm;first|rw[<-f] at b|rw[show _=n from f.symm] at b
 clear f;go_wp2_with fail;refine b.out.mono ?_;rintro e D ⟨c,⟨M,p,rfl,g⟩|⟨a,rfl⟩⟩
 rotate_left
 ·have z:=aB (i.out.fb.trans c);have C:=aB a;clear c a;go_wp2_with fail;exact⟨rfl,cL.fault (c1:=n) z.out C.out (by rw[o.out];exact Stk.refl n)⟩
 have t:=aB (i.out.step c);have r:=aB g;subst p;clear c g b;go_wp2_with fail;go_end0;exact cL.done t.out.fb (by rw[o.out]) r.out
def SO(cb lo:Nat)(fs:List aC)(v:Value)(d:Nat)(IH:gY cb lo fs v d)(e_:List (List UInt8))(w:World)(h:CK cb lo fs v w e_)(l:Nat)(v1:Value)(k:aC)(x:PN (Btw lo cb) w v1 k)(s:eM d k)(z:e_.length+(cG d k+0)<=90000):
 Calls prog 111 #[.pointer (some ⟨cb,0,none⟩),.iface 268 (.agg #[.int .i64 l,v1])] w (cL cb lo fs v w (aV fs false d k ⟨e_,0,0⟩)):=by
 obtain⟨q,j,rfl⟩:=x.form;have C:=lJ;have D:=mK;have H:=sI;have E:=nW;have F:=mJ;obtain⟨m,a⟩:=Loc.new h (.cells #[.int .i64 l,(.iface q (.agg j))] 268);have i:=aB m;have u:=aB a;clear h m a;go_enter func111,ntmps111;have b:=aB (IH (.iface q (.agg j)) k e_ (w.alloc (.cells #[.int .i64 l,(.iface q (.agg j))] 268)) u.out (x.below i.out.fb.bel) s o_)
 obtain⟨n,f⟩:=E_ (aV fs false d k (⟨e_,0,0⟩:aW));have o:=aB f.symm;first|rw[<-f] at b|rw[show _=n from f.symm] at b
 clear f;go_wp2_with fail;refine b.out.mono ?_;rintro e B ⟨c,⟨G,p,rfl,g⟩|⟨a,rfl⟩⟩
 rotate_left
 ·have y:=aB (i.out.fb.trans c);have A:=aB a;clear c a;go_wp2_with fail;exact⟨rfl,cL.fault (c1:=n) y.out A.out (by rw[o.out];exact Stk.refl n)⟩
 have t:=aB (i.out.step c);have r:=aB g;subst p;clear c g b;go_wp2_with fail;go_end0;exact cL.done t.out.fb (by rw[o.out]) r.out
def WG(cb lo:Nat)(fs:List aC)(v:Value)(d:Nat)(IH:gY cb lo fs v d)(e_:List (List UInt8))(w:World)(h:CK cb lo fs v w e_)(l:Nat)(v1:Value)(k:aC)(x:PN (Btw lo cb) w v1 k)(s:eM d k)(z:e_.length+(cG d k+0)<=90000):
 Calls prog 111 #[.pointer (some ⟨cb,0,none⟩),.iface 269 (.agg #[.int .i64 l,v1])] w (cL cb lo fs v w (aV fs false d k ⟨e_,0,0⟩)):=by
 obtain⟨q,j,rfl⟩:=x.form;have C:=tW;have D:=wF;have I:=IC;have E:=xX;have G:=wE;have F:=xY;obtain⟨m,a⟩:=Loc.new h (.cells #[.int .i64 l,(.iface q (.agg j))] 269);have i:=aB m;have u:=aB a;clear h m a;go_enter func111,ntmps111;have b:=aB (IH (.iface q (.agg j)) k e_ (w.alloc (.cells #[.int .i64 l,(.iface q (.agg j))] 269)) u.out (x.below i.out.fb.bel) s o_)
 obtain⟨n,f⟩:=E_ (aV fs false d k (⟨e_,0,0⟩:aW));have o:=aB f.symm;first|rw[<-f] at b|rw[show _=n from f.symm] at b
 clear f;go_wp2_with fail;refine b.out.mono ?_;rintro e B ⟨c,⟨H,p,rfl,g⟩|⟨a,rfl⟩⟩
 rotate_left
 ·have y:=aB (i.out.fb.trans c);have A:=aB a;clear c a;go_wp2_with fail;exact⟨rfl,cL.fault (c1:=n) y.out A.out (by rw[o.out];exact Stk.refl n)⟩
 have t:=aB (i.out.step c);have r:=aB g;subst p;clear c g b;go_wp2_with fail;go_end0;exact cL.done t.out.fb (by rw[o.out]) r.out
def WH(cb lo:Nat)(fs:List aC)(T:Value)(d:Nat)(IH:gY cb lo fs T d)(e_:List (List UInt8))(w:World)(h:CK cb lo fs T w e_)(l:Nat)(v1:Value)(u:aC)(W:PN (Btw lo cb) w v1 u)(N:eM d u)(v2:Value)(p:aC)(V:PN (Btw lo cb) w v2 p)(F:eM d p)(Z:e_.length+(cG d u+(cG d p+0))<=90000):
 Calls prog 111 #[.pointer (some ⟨cb,0,none⟩),.iface 278 (.agg #[.int .i64 l,v1,v2])] w (cL cb lo fs T w (aV fs false d p (aV fs false d u ⟨e_,0,0⟩))):=by
 obtain⟨H,t,rfl⟩:=W.form;obtain⟨U,q,rfl⟩:=V.form;have q0:=tY;have q1:=wI;have q2:=ID;have q3:=yB;have q4:=wH;have q5:=yC;have q6:=AV;have q7:=sK;have q8:=AU;have q9:=yD;obtain⟨y,b⟩:=Loc.new h (.cells #[.int .i64 l,(.iface H (.agg t)),(.iface U (.agg q))] 278);have s:=aB y;have S:=aB b;clear h y b;go_enter func111,ntmps111;have f:=aB (IH (.iface H (.agg t)) u e_ (w.alloc (.cells #[.int .i64 l,(.iface H (.agg t)),(.iface U (.agg q))] 278)) S.out (W.below s.out.fb.bel) N o_)
 have D:=aB (eP fs false d u ⟨e_,0,0⟩);obtain⟨B,c⟩:=E_ (aV fs false d u (⟨e_,0,0⟩:aW));have v:=aB c.symm;rw[<-c] at D;first|rw[<-c] at f|rw[show _=B from c.symm] at f
 clear c;go_wp2_with fail;refine f.out.mono ?_;rintro e X ⟨j,⟨P,G,rfl,n⟩|⟨b,rfl⟩⟩
 rotate_left
 ·have K:=aB (s.out.fb.trans j);have Q:=aB b;clear j b;go_wp2_with fail;exact⟨rfl,cL.fault (c1:=B) K.out Q.out (by rw[v.out];exact(Stk.walk fs false d p B))⟩
 have a:=aB (s.out.step j);have I:=aB n;subst G;have Y:P.length+(cG d p+0)<=90000:=iU D.out rfl o_
 clear j n f;have k:=aB (IH (.iface U (.agg q)) p P X I.out (V.below a.out.fb.bel) F o_)
 obtain⟨r,g⟩:=E_ (aV fs false d p (⟨P,0,0⟩:aW));have E:=aB g.symm;first|rw[<-g] at k|rw[show _=r from g.symm] at k
 clear g;have C:=aA a.out.blk (i:=0) rfl;have z:=aA a.out.blk (i:=1) rfl;have A:=aA a.out.blk (i:=2) rfl;have L:=aD a.out.blk;go_wp2_with fail;refine k.out.mono ?_;rintro e w2 ⟨m,⟨s2,M,rfl,o⟩|⟨x,rfl⟩⟩
 rotate_left
 ·have K:=aB (a.out.fb.trans m);have Q:=aB x;clear m x;go_wp2_with fail;exact⟨rfl,cL.fault (c1:=r) K.out Q.out (by rw[v.out,E.out];exact Stk.refl r)⟩
 have J:=aB (a.out.step m);have O:=aB o;subst M;clear m o k C z A L;go_wp2_with fail;go_end0;exact cL.done J.out.fb (by rw[v.out,E.out]) O.out
def SP(cb lo:Nat)(fs:List aC)(V:Value)(d:Nat)(IH:gY cb lo fs V d)(e_:List (List UInt8))(w:World)(h:CK cb lo fs V w e_)(l:Nat)(x:ByteArray)(v1:Value)(u:aC)(Y:PN (Btw lo cb) w v1 u)(P:eM d u)(v2:Value)(p:aC)(X:PN (Btw lo cb) w v2 p)(H:eM d p)(ac:e_.length+(cG d u+(cG d p+0))<=90000):
 Calls prog 111 #[.pointer (some ⟨cb,0,none⟩),.iface 282 (.agg #[.int .i64 l,.string x,v1,v2])] w (cL cb lo fs V w (aV fs false d p (aV fs false d u ⟨e_,0,0⟩))):=by
 obtain⟨J,t,rfl⟩:=Y.form;obtain⟨W,q,rfl⟩:=X.form;have q0:=lL;have q1:=mQ;have q2:=sM;have q3:=oB;have q4:=mO;have q5:=oD;have q6:=oX;have q7:=kR;have q8:=oW;have q9:=oE;have ab:=oC;have ad:=mP;obtain⟨z,b⟩:=Loc.new h (.cells #[.int .i64 l,.string x,(.iface J (.agg t)),(.iface W (.agg q))] 282);have s:=aB z;have U:=aB b;clear h z b;go_enter func111,ntmps111;have f:=aB (IH (.iface J (.agg t)) u e_ (w.alloc (.cells #[.int .i64 l,.string x,(.iface J (.agg t)),(.iface W (.agg q))] 282)) U.out (Y.below s.out.fb.bel) P o_)
 have F:=aB (eP fs false d u ⟨e_,0,0⟩);obtain⟨D,c⟩:=E_ (aV fs false d u (⟨e_,0,0⟩:aW));have v:=aB c.symm;rw[<-c] at F;first|rw[<-c] at f|rw[show _=D from c.symm] at f
 clear c;go_wp2_with fail;refine f.out.mono ?_;rintro e Z ⟨j,⟨Q,I,rfl,n⟩|⟨b,rfl⟩⟩
 rotate_left
 ·have M:=aB (s.out.fb.trans j);have T:=aB b;clear j b;go_wp2_with fail;exact⟨rfl,cL.fault (c1:=D) M.out T.out (by rw[v.out];exact(Stk.walk fs false d p D))⟩
 have a:=aB (s.out.step j);have K:=aB n;subst I;have aa:Q.length+(cG d p+0)<=90000:=iU F.out rfl o_
 clear j n f;have k:=aB (IH (.iface W (.agg q)) p Q Z K.out (X.below a.out.fb.bel) H o_)
 obtain⟨r,g⟩:=E_ (aV fs false d p (⟨Q,0,0⟩:aW));have G:=aB g.symm;first|rw[<-g] at k|rw[show _=r from g.symm] at k
 clear g;have E:=aA a.out.blk (i:=0) rfl;have A:=aA a.out.blk (i:=1) rfl;have B:=aA a.out.blk (i:=2) rfl;have C:=aA a.out.blk (i:=3) rfl;have N:=aD a.out.blk;go_wp2_with fail;refine k.out.mono ?_;rintro e w2 ⟨m,⟨s2,O,rfl,o⟩|⟨y,rfl⟩⟩
 rotate_left
 ·have M:=aB (a.out.fb.trans m);have T:=aB y;clear m y;go_wp2_with fail;exact⟨rfl,cL.fault (c1:=r) M.out T.out (by rw[v.out,G.out];exact Stk.refl r)⟩
 have L:=aB (a.out.step m);have S:=aB o;subst O;clear m o k E A B C N;go_wp2_with fail;go_end0;exact cL.done L.out.fb (by rw[v.out,G.out]) S.out
def WE(cb lo:Nat)(fs:List aC)(G:Value)(d:Nat)(IH:gY cb lo fs G d)(P:qN cb lo fs G d)(e_:List (List UInt8))(w:World)(h:CK cb lo fs G w e_)(l:Nat)(v1:Value)(t:aC)(Y:PN (Btw lo cb) w v1 t)(O:eM d t)(u2:Value)(b:aC)(F:b.op=[98,108,111,99,107])(X:PKid (Btw lo cb) w u2 b.y_)(z:eM d b)(ab:e_.length+(cG d t+(cG d b+0))<=90000):
 Calls prog 111 #[.pointer (some ⟨cb,0,none⟩),.iface 266 (.agg #[.int .i64 l,v1,u2])] w (cL cb lo fs G w (aV fs false d b (aV fs false d t ⟨e_,0,0⟩))):=by
 obtain⟨I,s,rfl⟩:=Y.form;obtain⟨U,W,rfl⟩:=X.slice;have q0:=tR;have q1:=vZ;have q2:=IB;have q3:=xT;obtain⟨x,c⟩:=Loc.new h (.cells #[.int .i64 l,(.iface I (.agg s)),(.slice U b.y_.length W)] 266);have r:=aB x;have V:=aB c;clear h x c;go_enter func111,ntmps111;have g:=aB (IH (.iface I (.agg s)) t e_ (w.alloc (.cells #[.int .i64 l,(.iface I (.agg s)),(.slice U b.y_.length W)] 266)) V.out (Y.below r.out.fb.bel) O o_)
 have D:=aB (eP fs false d t ⟨e_,0,0⟩);obtain⟨B,f⟩:=E_ (aV fs false d t (⟨e_,0,0⟩:aW));have u:=aB f.symm;rw[<-f] at D;first|rw[<-f] at g|rw[show _=B from f.symm] at g
 clear f;go_wp2_with fail;refine g.out.mono ?_;rintro e Z ⟨k,⟨S,H,rfl,o⟩|⟨c,rfl⟩⟩
 rotate_left
 ·have L:=aB (r.out.fb.trans k);have T:=aB c;clear k c;go_wp2_with fail;exact⟨rfl,cL.fault (c1:=B) L.out T.out (by rw[u.out];exact(Stk.walk fs false d b B))⟩
 have a:=aB (r.out.step k);have J:=aB o;subst H;have aa:S.length+(cG d b+0)<=90000:=iU D.out rfl o_
 clear k o g;have m:=aB (P (.slice U b.y_.length W) b S Z J.out F (X.below a.out.fb.bel) z o_)
 obtain⟨q,j⟩:=E_ (aV fs false d b (⟨S,0,0⟩:aW));have E:=aB j.symm;first|rw[<-j] at m|rw[show _=q from j.symm] at m
 clear j;have C:=aA a.out.blk (i:=0) rfl;have y:=aA a.out.blk (i:=1) rfl;have A:=aA a.out.blk (i:=2) rfl;have M:=aD a.out.blk;go_wp2_with fail;refine m.out.mono ?_;rintro e w2 ⟨n,⟨s2,N,rfl,p⟩|⟨v,rfl⟩⟩
 rotate_left
 ·have L:=aB (a.out.fb.trans n);have T:=aB v;clear n v;go_wp2_with fail;exact⟨rfl,cL.fault (c1:=q) L.out T.out (by rw[u.out,E.out];exact Stk.refl q)⟩
 have K:=aB (a.out.step n);have Q:=aB p;subst N;clear n p m C y A M;go_wp2_with fail;go_end0;exact cL.done K.out.fb (by rw[u.out,E.out]) Q.out
def C5(cb lo:Nat)(fs:List aC)(fv:Value)(d:Nat)(IH:gY cb lo fs fv d)(U:qN cb lo fs fv d)(e_:List (List UInt8))(w:World)(h:CK cb lo fs fv w e_)(l:Nat)(v1:Value)(B:aC)(h1:PN (Btw lo cb) w v1 B)(ah:eM d B)(u2:Value)(f:aC)(H:f.op=[98,108,111,99,107])(g2:PKid (Btw lo cb) w u2 f.y_)(J:eM d f)(u3:Value)(c:aC)(Z:c.op=[98,108,111,99,107])(g3:PKid (Btw lo cb) w u3 c.y_)(G:eM d c)(am:e_.length+(cG d B+(cG d f+(cG d c+0)))<=90000):
 Calls prog 111 #[.pointer (some ⟨cb,0,none⟩),.iface 264 (.agg #[.int .i64 l,v1,u2,u3])] w (cL cb lo fs fv w (aV fs false d c (aV fs false d f (aV fs false d B ⟨e_,0,0⟩)))):=by
 obtain⟨T1,A,rfl⟩:=h1.form;obtain⟨x2,y2,rfl⟩:=g2.slice;obtain⟨x3,y3,rfl⟩:=g3.slice;have q0:=qT;have q1:=sL;have q2:=IE;obtain⟨D,j⟩:=Loc.new h (.cells #[.int .i64 l,(.iface T1 (.agg A)),(.slice x2 f.y_.length y2),(.slice x3 c.y_.length y3)] 264);have z:=aB D;have aa:=aB j;clear h D j;go_enter func111,ntmps111;have p:=aB (IH (.iface T1 (.agg A)) B e_ (w.alloc (.cells #[.int .i64 l,(.iface T1 (.agg A)),(.slice x2 f.y_.length y2),(.slice x3 c.y_.length y3)] 264)) aa.out (h1.below z.out.fb.bel) ah o_)
 have W:=aB (eP fs false d B ⟨e_,0,0⟩);obtain⟨X,g⟩:=E_ (aV fs false d B (⟨e_,0,0⟩:aW));have q:=aB g.symm;rw[<-g] at W;first|rw[<-g] at p|rw[show _=X from g.symm] at p
 clear g;go_wp2_with fail;refine p.out.mono ?_;rintro e w1 ⟨m,⟨s1,af,rfl,u⟩|⟨j,rfl⟩⟩
 rotate_left
 ·have HB:=aB (z.out.fb.trans m);have K:=aB j;clear m j;go_wp2_with fail;exact⟨rfl,cL.fault (c1:=X) HB.out K.out (by rw[q.out];exact((Stk.walk fs false d f X)).trans (Stk.walk fs false d c _))⟩
 have a:=aB (z.out.step m);have ab:=aB u;subst af;have al:s1.length+(cG d f+(cG d c+0))<=90000:=iU W.out rfl o_
 clear m u p;have o:=aB (U (.slice x2 f.y_.length y2) f s1 w1 ab.out H (g2.below a.out.fb.bel) J o_)
 have E:=aB (eP fs false d f ⟨s1,0,0⟩);obtain⟨v,k⟩:=E_ (aV fs false d f (⟨s1,0,0⟩:aW));have C:=aB k.symm;rw[<-k] at E;first|rw[<-k] at o|rw[show _=v from k.symm] at o
 clear k;have V:=aA a.out.blk (i:=0) rfl;have P:=aA a.out.blk (i:=1) rfl;have Q:=aA a.out.blk (i:=2) rfl;have S:=aA a.out.blk (i:=3) rfl;have aj:=aD a.out.blk;go_wp2_with fail;refine o.out.mono ?_;rintro e w2 ⟨t,⟨s2,ak,rfl,x⟩|⟨Y,rfl⟩⟩
 rotate_left
 ·have HB:=aB (a.out.fb.trans t);have K:=aB Y;clear t Y;go_wp2_with fail;exact⟨rfl,cL.fault (c1:=v) HB.out K.out (by rw[q.out,C.out];exact(Stk.walk fs false d c v))⟩
 have b:=aB (a.out.step t);have ae:=aB x;subst ak;have an:s2.length+(cG d c+0)<=90000:=iU E.out rfl o_
 clear t x o V P Q S aj;have r:=aB (U (.slice x3 c.y_.length y3) c s2 w2 ae.out Z (g3.below b.out.fb.bel) G o_)
 obtain⟨F,s⟩:=E_ (aV fs false d c (⟨s2,0,0⟩:aW));have T:=aB s.symm;first|rw[<-s] at r|rw[show _=F from s.symm] at r
 clear s;have L:=aA b.out.blk (i:=0) rfl;have O:=aA b.out.blk (i:=1) rfl;have M:=aA b.out.blk (i:=2) rfl;have N:=aA b.out.blk (i:=3) rfl;have ag:=aD b.out.blk;go_wp2_with fail;refine r.out.mono ?_;rintro e w3 ⟨n,⟨s3,ad,rfl,y⟩|⟨I,rfl⟩⟩
 rotate_left
 ·have HB:=aB (b.out.fb.trans n);have K:=aB I;clear n I;go_wp2_with fail;exact⟨rfl,cL.fault (c1:=F) HB.out K.out (by rw[q.out,C.out,T.out];exact Stk.refl F)⟩
 have ai:=aB (b.out.step n);have ac:=aB y;subst ad;clear n y r L O M N ag;go_wp2_with fail;go_end0;exact cL.done ai.out.fb (by rw[q.out,C.out,T.out]) ac.out
def B2(cb lo:Nat)(fs:List aC)(U:Value)(d:Nat)(IH:gY cb lo fs U d)(HN:kE cb lo fs U d)(ai:qN cb lo fs U d)(e_:List (List UInt8))(w:World)(h:CK cb lo fs U w e_)(l:Nat)(v1:Value)(A:aC)(h1:PN (Btw lo cb) w v1 A)(ah:eM d A)(u2:Value)(c:aC)(F:c.op=[98,108,111,99,107])(g2:PKid (Btw lo cb) w u2 c.y_)(H:eM d c)(an:e_.length+(cG d A+(cG d c+(0+0)))<=90000):
 Calls prog 111 #[.pointer (some ⟨cb,0,none⟩),.iface 264 (.agg #[.int .i64 l,v1,u2,.slice none 0 0])] w (cL cb lo fs U w ((aV fs false d c (aV fs false d A ⟨e_,0,0⟩)))):=by
 obtain⟨T1,z,rfl⟩:=h1.form;obtain⟨Z,y2,rfl⟩:=g2.slice;have q0:=qT;have q1:=sL;have q2:=IE;obtain⟨C,g⟩:=Loc.new h (.cells #[.int .i64 l,(.iface T1 (.agg z)),(.slice Z c.y_.length y2),.slice none 0 0] 264);have y:=aB C;have aa:=aB g;clear h C g;go_enter func111,ntmps111;have o:=aB (IH (.iface T1 (.agg z)) A e_ (w.alloc (.cells #[.int .i64 l,(.iface T1 (.agg z)),(.slice Z c.y_.length y2),.slice none 0 0] 264)) aa.out (h1.below y.out.fb.bel) ah o_)
 have T:=aB (eP fs false d A ⟨e_,0,0⟩);obtain⟨V,f⟩:=E_ (aV fs false d A (⟨e_,0,0⟩:aW));have p:=aB f.symm;rw[<-f] at T;first|rw[<-f] at o|rw[show _=V from f.symm] at o
 clear f;go_wp2_with fail;refine o.out.mono ?_;rintro e w1 ⟨k,⟨Y,af,rfl,t⟩|⟨g,rfl⟩⟩
 rotate_left
 ·have X:=aB (y.out.fb.trans k);have I:=aB g;clear k g;go_wp2_with fail;exact⟨rfl,cL.fault (c1:=V) X.out I.out (by rw[p.out];exact((Stk.walk fs false d c V)).trans (Stk.refl _))⟩
 have a:=aB (y.out.step k);have ab:=aB t;subst af;have am:Y.length+(cG d c+(0+0))<=90000:=iU T.out rfl o_
 clear k t o;have n:=aB (ai (.slice Z c.y_.length y2) c Y w1 ab.out F (g2.below a.out.fb.bel) H o_)
 have D:=aB (eP fs false d c ⟨Y,0,0⟩);obtain⟨u,j⟩:=E_ (aV fs false d c (⟨Y,0,0⟩:aW));have B:=aB j.symm;rw[<-j] at D;first|rw[<-j] at n|rw[show _=u from j.symm] at n
 clear j;have S:=aA a.out.blk (i:=0) rfl;have N:=aA a.out.blk (i:=1) rfl;have O:=aA a.out.blk (i:=2) rfl;have P:=aA a.out.blk (i:=3) rfl;have ak:=aD a.out.blk;go_wp2_with fail;refine n.out.mono ?_;rintro e w2 ⟨s,⟨s2,al,rfl,v⟩|⟨W,rfl⟩⟩
 rotate_left
 ·have X:=aB (a.out.fb.trans s);have I:=aB W;clear s W;go_wp2_with fail;exact⟨rfl,cL.fault (c1:=u) X.out I.out (by rw[p.out,B.out];exact(Stk.refl u))⟩
 have b:=aB (a.out.step s);have ae:=aB v;subst al;have ao:s2.length+(0+0)<=90000:=iU D.out rfl o_
 clear s v n S N O P ak;have q:=aB (SJ d HN s2 w2 ae.out o_)
 obtain⟨E,r⟩:=E_ ((⟨s2,0,0⟩:aW));have Q:=aB r.symm;first|rw[<-r] at q|rw[show _=E from r.symm] at q
 clear r;have J:=aA b.out.blk (i:=0) rfl;have M:=aA b.out.blk (i:=1) rfl;have K:=aA b.out.blk (i:=2) rfl;have L:=aA b.out.blk (i:=3) rfl;have ag:=aD b.out.blk;go_wp2_with fail;refine q.out.mono ?_;rintro e w3 ⟨m,⟨s3,ad,rfl,x⟩|⟨G,rfl⟩⟩
 rotate_left
 ·have X:=aB (b.out.fb.trans m);have I:=aB G;clear m G;go_wp2_with fail;exact⟨rfl,cL.fault (c1:=E) X.out I.out (by rw[p.out,B.out,Q.out];exact Stk.refl E)⟩
 have aj:=aB (b.out.step m);have ac:=aB x;subst ad;clear m x q J M K L ag;go_wp2_with fail;go_end0;exact cL.done aj.out.fb (by rw[p.out,B.out,Q.out]) ac.out
def JI(cb lo:Nat)(fs:List aC)(q:Value)(e_:List (List UInt8))(w:World)(h:CK cb lo fs q w e_)(l:Nat)(x:List UInt8)(s:e_.length+(0+0)<=90000):
 Calls prog 111 #[.pointer (some ⟨cb,0,none⟩),.iface 274 (.agg #[.int .i64 l,.string (bs x)])] w (cL cb lo fs q w (xL ⟨e_,0,0⟩ l x)):=by
 have v:=qP;have A:=rI;have F:=xU;have B:=sF;have D:=rH;have C:=sG;have z:=tS;have y:=oP;obtain⟨g,a⟩:=Loc.new h (.cells #[.int .i64 l,.string (bs x)] 274);have i:=aB g;have p:=aB a;clear h g a;go_enter func111,ntmps111;have b:=aB (UM cb lo fs q (w.alloc (.cells #[.int .i64 l,.string (bs x)] 274)) e_ p.out o_ l x)
 obtain⟨k,d⟩:=E_ (xL (⟨e_,0,0⟩:aW) l x);have j:=aB d.symm;first|rw[<-d] at b|rw[show _=k from d.symm] at b
 clear d;go_wp2_with fail;refine b.out.mono ?_;rintro e u ⟨c,⟨E,m,rfl,f⟩|⟨a,rfl⟩⟩
 rotate_left
 ·have r:=aB (i.out.fb.trans c);have t:=aB a;clear c a;go_wp2_with fail;exact⟨rfl,cL.fault (c1:=k) r.out t.out (by rw[j.out];exact Stk.refl k)⟩
 have o:=aB (i.out.step c);have n:=aB f;subst m;clear c f b;go_wp2_with fail;go_end0;exact cL.done o.out.fb (by rw[j.out]) n.out
def SQ(cb lo:Nat)(fs:List aC)(W:Value)(d:Nat)(IH:gY cb lo fs W d)(HN:kE cb lo fs W d)(e_:List (List UInt8))(w:World)(h:CK cb lo fs W w e_)(l:Nat)(x:List UInt8)(u2:Value)(f:List aC)(g2:PKid (Btw lo cb) w u2 f)(B:∀k∈f,eM d k)(v1:Value)(m:aC)(h1:PN (Btw lo cb) w v1 m)(ah:eM d m)(am:e_.length+(0+((f.map (cG d)).sum+(cG d m+0)))<=90000):
 Calls prog 111 #[.pointer (some ⟨cb,0,none⟩),.iface 262 (.agg #[.int .i64 l,.string (bs x),u2,v1])] w (cL cb lo fs W w (aV fs false d m (foldL fs d f (xL ⟨e_,0,0⟩ l x)))):=by
 obtain⟨x2,y2,rfl⟩:=g2.slice;obtain⟨T1,D,rfl⟩:=h1.form;have q0:=sN;have q1:=uA;obtain⟨F,g⟩:=Loc.new h (.cells #[.int .i64 l,.string (bs x),(.slice x2 f.length y2),(.iface T1 (.agg D))] 262);have H:=aB F;have aa:=aB g;clear h F g;go_enter func111,ntmps111;have q:=aB (UM cb lo fs W (w.alloc (.cells #[.int .i64 l,.string (bs x),(.slice x2 f.length y2),(.iface T1 (.agg D))] 262)) e_ aa.out o_ l x)
 have V:=aB (QL ⟨e_,0,0⟩ l x);obtain⟨c0,c⟩:=E_ (xL (⟨e_,0,0⟩:aW) l x);have r:=aB c.symm;rw[<-c] at V;first|rw[<-c] at q|rw[show _=c0 from c.symm] at q
 clear c;go_wp2_with fail;refine q.out.mono ?_;rintro e w1 ⟨n,⟨Z,af,rfl,y⟩|⟨g,rfl⟩⟩
 rotate_left
 ·have Y:=aB (H.out.fb.trans n);have K:=aB g;clear n g;go_wp2_with fail;exact⟨rfl,cL.fault (c1:=c0) Y.out K.out (by rw[r.out];exact((Stk.fold (λs k=>Stk.walk fs false d k s) _ _)).trans (Stk.walk fs false d m _))⟩
 have a:=aB (H.out.step n);have ab:=aB y;subst af;have al:Z.length+((f.map (cG d)).sum+(cG d m+0))<=90000:=iU V.out rfl o_
 clear n y q;have p:=aB (HN (.slice x2 f.length y2) f Z w1 ab.out (g2.below a.out.fb.bel) B o_ (by have:=tA B;omega))
 have G:=aB (DN fs d f ⟨Z,0,0⟩);obtain⟨z,j⟩:=E_ (foldL fs d f (⟨Z,0,0⟩:aW));have E:=aB j.symm;rw[<-j] at G;first|rw[<-j] at p|rw[show _=z from j.symm] at p
 clear j;have U:=aA a.out.blk (i:=0) rfl;have P:=aA a.out.blk (i:=1) rfl;have Q:=aA a.out.blk (i:=2) rfl;have S:=aA a.out.blk (i:=3) rfl;have aj:=aD a.out.blk;go_wp2_with fail;refine p.out.mono ?_;rintro e w2 ⟨v,⟨s2,ak,rfl,A⟩|⟨X,rfl⟩⟩
 rotate_left
 ·have Y:=aB (a.out.fb.trans v);have K:=aB X;clear v X;go_wp2_with fail;exact⟨rfl,cL.fault (c1:=z) Y.out K.out (by rw[r.out,E.out];exact(Stk.walk fs false d m z))⟩
 have b:=aB (a.out.step v);have ae:=aB A;subst ak;have an:s2.length+(cG d m+0)<=90000:=iU G.out rfl o_
 clear v A p U P Q S aj;have t:=aB (IH (.iface T1 (.agg D)) m s2 w2 ae.out (h1.below b.out.fb.bel) ah o_)
 obtain⟨I,u⟩:=E_ (aV fs false d m (⟨s2,0,0⟩:aW));have T:=aB u.symm;first|rw[<-u] at t|rw[show _=I from u.symm] at t
 clear u;have L:=aA b.out.blk (i:=0) rfl;have O:=aA b.out.blk (i:=1) rfl;have M:=aA b.out.blk (i:=2) rfl;have N:=aA b.out.blk (i:=3) rfl;have ag:=aD b.out.blk;go_wp2_with fail;refine t.out.mono ?_;rintro e w3 ⟨o,⟨s3,ad,rfl,C⟩|⟨J,rfl⟩⟩
 rotate_left
 ·have Y:=aB (b.out.fb.trans o);have K:=aB J;clear o J;go_wp2_with fail;exact⟨rfl,cL.fault (c1:=I) Y.out K.out (by rw[r.out,E.out,T.out];exact Stk.refl I)⟩
 have ai:=aB (b.out.step o);have ac:=aB C;subst ad;clear o C t L O M N ag;go_wp2_with fail;go_end0;exact cL.done ai.out.fb (by rw[r.out,E.out,T.out]) ac.out
def Fr.keepS{pb:Nat}{w':World}{o:Obj}(a:Fr pb w w')(h:w.heap[b]?=some o)(c:b≠pb):w'.heap[b]?=some o:=by
 rw[a.block b (aD h) c];exact h
def XO(sb:Nat)(src:ByteArray)(n L:Nat)(w:World)(r:nQ)(e:Ending)(w':World):Prop:=
 Fr sb w w'/\((r.ok=true/\e=.returned (lN ⟨r.sort,r.x_,L⟩)/\SC sb src (n+r.size) L w')\/(r.ok=false/\e=cH 3 L))
def jZ{sb m L:Nat}{a:ByteArray}{wc:World}(f:Fr sb w wc)(g:SC sb a m L wc)(c:w.heap.size<=b)(h:b≠sb)(e v1 v2 d:Value):
 Fr sb w ((((wc.setCell ⟨b,0,none⟩ e).setCell ⟨b,1,none⟩ v1).setCell ⟨b,2,none⟩ v2).setCell ⟨b,3,none⟩ d)/\SC sb a m L ((((wc.setCell ⟨b,0,none⟩ e).setCell ⟨b,1,none⟩ v1).setCell ⟨b,2,none⟩ v2).setCell ⟨b,3,none⟩ d):=by
 refine⟨(((f.setCell (F5 c) _).setCell (F5 c) _).setCell (F5 c) _).setCell (F5 c) _,?_⟩;unfold SC;rw[G0 _ _ _ _ (by show sb≠b;omega),G0 _ _ _ _ (by show sb≠b;omega),G0 _ _ _ _ (by show sb≠b;omega),G0 _ _ _ _ (by show sb≠b;omega)]
 exact g
def qG(a:ByteArray)(n:Nat):(a.extract n a.size).size=a.size-n:=s_
def QU(sb:Nat)(a:ByteArray)(n L:Nat)(w:World)(h:SC sb a n L w)(hs:a.size<=2000000000)(hn:n<=a.size):
 Calls prog 175 #[.pointer (some ⟨sb,0,none⟩)] w (XO sb a n L w (fF (a.data.toList.drop n) true)):=by
 obtain⟨f,r⟩:=E_ (bA (dD true) (a.data.toList.drop n))
 have aa:f<=a.size-n:=by
  have:=iF (dD true) (a.data.toList.drop n);rw[r];simpa using this
 have I:=(SC.cells h).1;have u:w.heap.size≠sb:=o_
 have Y:Hid ((w.alloc (.cells #[.int .i64 0,.string ⟨#[]⟩,.int .i64 0,.int .i64 0] 150)).heap[w.heap.size]?=some (.cells #[.int .i64 0,.string ⟨#[]⟩,.int .i64 0,.int .i64 0] 150 (0,0))):=aU _ _ rfl _;have F:SC sb a n L (w.alloc (.cells #[.int .i64 0,.string ⟨#[]⟩,.int .i64 0,.int .i64 0] 150)):=by unfold SC;rw[G7 _ _ _ I];exact h
 obtain⟨K,Z,Q,T,M,X⟩:=F.cells;have G:Hid ((w.alloc (.cells #[.int .i64 0,.string ⟨#[]⟩,.int .i64 0,.int .i64 0] 150)).drew.heap[w.heap.size]?=some (.cells #[.int .i64 0,.string ⟨#[]⟩,.int .i64 0,.int .i64 0] 150 (0,0))):=Y.out;have y:=aB (λw=>sP (dD true) 215 (λ_ _=>rfl) RO (a.extract n a.size) w (by rw[qG];omega))
 rw[kY,<-r] at y;have t:=aB (mH sb a n L f (w.alloc (.cells #[.int .i64 0,.string ⟨#[]⟩,.int .i64 0,.int .i64 0] 150)).drew F hs o_)
 have s:=aB (JO ((a.data.toList.drop n).take f));obtain⟨k,p⟩:=E_ ((a.data.toList.drop n).take f);rw[<-p] at t s;have P:(bs k).size=f:=by rw[gI,p,M1];simp;omega
 have V:Hid (fF (a.data.toList.drop n) true={ sort:=if fD.contains k then 107 else 110,x_:=k,size:=f,ok:=decide (f<=16) }):=by
  show _=_
  unfold fF;rw[<-r,<-p];rfl
 rw[V.out];have H1:=aB F;have H:Hid (Fr sb w (w.alloc (.cells #[.int .i64 0,.string ⟨#[]⟩,.int .i64 0,.int .i64 0] 150))):=(Fr.refl _ _).alloc _;clear h F r p V;obtain⟨C,z⟩:=E_ (fD.contains k);rw[<-z] at s ⊢
 clear z;obtain⟨E,o⟩:=E_ ((if C then 107 else 110))
 rw[show (if C=true then 107 else 110)=E from o.symm]
 have D:=aB o;clear o;obtain⟨S,d⟩:∃S:nQ,S={ sort:=E,x_:=k,size:=f,ok:=decide (f<=16) }:=⟨_,rfl⟩;rw[<-d];have q:=aB d;clear d;go_enter func175,ntmps175;go_wp2_with fail;go_cut [3] (λv wc=>v=.string (bs k)/\SC sb a (n+f) L wc/\Fr sb w wc/\wc.heap[w.heap.size]?=some (.cells #[.int .i64 0,.string ⟨#[]⟩,.int .i64 0,.int .i64 0] 150 (0,0)))
 case first=>
  go_region_law (first|(go_simp;go_at_call 172;refine(y.out _).mono ?_;rintro e w1 ⟨rfl,B⟩;obtain rfl:=B.symm)|(go_simp;go_at_call 214;refine t.out.mono ?_;rintro e w2 ⟨rfl,g,j⟩;have l:=aB g;have m:=aB (H.out.drew.trans j);have A:=aB (j.keepS G.out u);clear g j))
  all_goals
   go_wp2_with fail;go_meet
   case rel=>exact⟨rfl,l.out,m.out,A.out⟩
 case rest=>
  obtain⟨rfl,g,j,b⟩:=hcut;clear Z Q T M X K;obtain⟨K,Z,Q,T,M,X⟩:=g.cells;have l:=aB g;have m:=aB j;have A:=aB b;have W:=aA b (i:=0) rfl;have O:=aA b (i:=1) rfl;have N:=aA b (i:=2) rfl;have U:=aA b (i:=3) rfl;have y0:=aE (i:=0) b;have y1:=aE (i:=1) b;have y2:=aE (i:=2) b;have y3:=aE (i:=3) b;have ab:=aD b;clear g j b t y Y;by_cases x:f<=16
  ·cases C
   all_goals
    have o:=D.out;clear D;subst o;have d:=q.out;clear q;subst d;go_wp2_with fail;refine(s.out _).mono ?_;rintro e w3 ⟨rfl,B⟩;obtain rfl:=B.symm;go_wp2_with fail
    first
     |(refine bodyPost_ret (v:=.agg #[.int .i64 1,.string (bs k),.int .i64 0,.int .i64 L]) (by simp[results,results175,go_sem,W,O,N,U]) rfl ?_
       have c:=jZ m.out l.out (F6 _) u (.int .i64 1) (.string (bs k)) (.int .i64 0) (.int .i64 L);exact⟨c.1,F7 ⟨by first|rfl|exact decide_eq_true x,rfl,c.2⟩⟩)
     |(refine bodyPost_ret (v:=.agg #[.int .i64 0,.string (bs k),.int .i64 0,.int .i64 L]) (by simp[results,results175,go_sem,W,O,N,U]) rfl ?_
       have c:=jZ m.out l.out (F6 _) u (.int .i64 0) (.string (bs k)) (.int .i64 0) (.int .i64 L);exact⟨c.1,F7 ⟨by first|rfl|exact decide_eq_true x,rfl,c.2⟩⟩)
  ·have d:=q.out;clear q;subst d;have J:=aB (qE sb a (n+f) L wc l.out);go_wp2_with fail;refine J.out.mono ?_;rintro e w3 ⟨rfl,B⟩;obtain rfl:=B.symm;go_wp2_with fail;exact⟨rfl,m.out,F5 ⟨by first|rfl|exact decide_eq_false x,rfl⟩⟩
end Go.Proofs.YthbffcmfmjpncaaGreatDoor
