/- Contracts of the program: names: each sort of nodes. -/
import Derived.Test.YtblbkfdhjfppkaaGreatDoorP09
import Derived.Test.YtblbkfdhjfppkaaGreatDoorP04
set_option linter.defProp false
set_option maxRecDepth 100000
set_option maxHeartbeats 4000000
namespace Go.Proofs.YtblbkfdhjfppkaaGreatDoor
open Hs
open _root_.Go.Proofs.Tryz
open Go.RowKit
def PN.parts{F:Nat->Prop}{w:World}{v:Value}{a:aC}(h:PN F w v a):∃T c b,v=.iface T (.agg c)/\Shape T c a b/\∀p∈b,p.ok F w:=by
 obtain⟨d,h⟩:=h;cases d with
 |zero=>exact h.elim
 |succ d=>
  obtain⟨T,c,b,g,f,i⟩:=h;exact⟨T,c,b,g,f,fun p e=>(i p e).mono (fun _ _ h=>⟨d,h⟩) (fun _ h=>h)⟩
def Prt.ok.one'{F:Nat->Prop}{w:World}{v:Value}{a:aC}(h:Prt.ok F w ⟨v,[a],true⟩):PN F w v a:=by
 rcases h with ⟨_,b,c,d⟩|⟨c,_⟩
 ·cases c;exact d
 ·cases c
def Prt.ok.many{F:Nat->Prop}{w:World}{v:Value}{l:List aC}(h:Prt.ok F w ⟨v,l,false⟩):PKid F w v l:=by
 rcases h with ⟨b,_⟩|⟨_,a⟩
 ·cases b
 ·exact a
structure Loc(cb:Nat)(w0:World)(b:Nat)(o:Obj)(W:World):Prop where
 fb:FB cb w0 W
 blk:W.heap[b]?=some o
 row:kW cb W≠some b
 ne:b≠cb
def Loc.new{cb lo:Nat}{fs:List aC}{d:Value}{w:World}{seen:List (List UInt8)}(h:CK cb lo fs d w seen)(o:Obj):Loc cb w w.heap.size o (w.alloc o)/\CK cb lo fs d (w.alloc o) seen:=by
 have a:=h.lt;have c:Below w.heap.size w (w.alloc o):=(ay_ _ _).alloc (au_ _) _;refine⟨⟨FB.of_below c a,aM _ _ rfl _,fun e=>?_,by omega⟩,h.grow c⟩
 obtain⟨g,b,f⟩:=h.blk;rw[oD (c.block cb a),mS b] at e;have:=cK f _ e;omega
def Loc.step{cb b:Nat}{o:Obj}{c W d:World}(h:Loc cb c b o W)(a:FB cb W d):Loc cb c b o d:=
 ⟨h.fb.trans a,(a.blk b (aD h.blk) h.ne h.row).trans h.blk,fun e=>by
   rcases a.row _ e with e|e
   ·exact h.row e
   ·have:=aD h.blk;omega,h.ne⟩
def sF(cb lo:Nat)(fs:List aC)(fv:Value)(d:Nat):Prop:=
 ∀(v:Value) (b:aC) (seen:List (List UInt8)) (w:World),CK cb lo fs fv w seen->b.op=[98,108,111,99,107]->PKid (Btw lo cb) w v b.kids->eY d b->seen.length+bW d b<=90000->
  Calls prog 190 #[.pointer (some ⟨cb,0,none⟩),v] w (cY cb lo fs fv w (aO fs false d b ⟨seen,0,0⟩))
def vA{d:Nat}{l:List aC}(h:∀k∈l,eY d k):l.length<=(l.map (bW d)).sum:=by
 cases d with
 |zero=>
  cases l with
  |nil=>simp
  |cons x l=>exact(h x (aS_ ..)).elim
 |succ d=>exact oS d l
def RK{cb lo:Nat}{fs:List aC}{e:Value}{d:Nat}(k:mI cb lo fs e d):sF cb lo fs e (d+1):=by
 intro v b seen w h a g f c;rw[bW] at c
 have j:aO fs false (d+1) b ⟨seen,0,0⟩={ foldL fs d b.kids ⟨seen,0,0⟩ with seen:=(foldL fs d b.kids ⟨seen,0,0⟩).seen.take seen.length }:=by
  rw[aO,if_neg (by rw[a];decide)]
  simp only[cD,a];rfl
 have i:=vA f;rw[j];exact yG cb lo fs e d k v b.kids seen w h g f (by omega) (by omega)
def ZG{cb lo:Nat}{fs:List aC}{a:Value}(d:Nat)(f:mI cb lo fs a d)(seen:List (List UInt8))(w:World)(h:CK cb lo fs a w seen)(c:seen.length<=90000):
 Calls prog 190 #[.pointer (some ⟨cb,0,none⟩),.slice none 0 0] w (cY cb lo fs a w ⟨seen,0,0⟩):=by
 have:=yG cb lo fs a d f (.slice none 0 0) [] seen w h (av_ ⟨rfl,rfl⟩) (fun k b=>by cases b) (by simpa using c) (by simp)
 have e:({ foldL fs d [] ⟨seen,0,0⟩ with seen:=(foldL fs d [] ⟨seen,0,0⟩).seen.take seen.length }:aZ)=⟨seen,0,0⟩:=by
  show (⟨seen.take seen.length,0,0⟩:aZ)=_
  rw[List.take_length]
 rw[e] at this;exact this
def kZ{a:aZ}{s t:List (List UInt8)}{m n k:Nat}(h:Adds a ⟨t,0,0⟩ m)(c:a.seen=s)(f:s.length+(m+k)<=n):t.length+k<=n:=by
 obtain⟨x,d,e⟩:=h;have b:t=s++x:=by rw[<-c];exact d
 rw[b,aw_];omega
def AK(s:aZ)(l:Nat)(x:List UInt8):aZ:=if s.seen.contains x then s else s.found l 6
def XO(s:aZ)(l:Nat)(x:List UInt8):Adds s (AK s l x) 0:=Adds.of_eq (by unfold AK;split<;>first|rfl|exact nH _ _ _)
def G5(cb lo:Nat)(fs:List aC)(a:Value)(w:World)(seen:List (List UInt8))(h:CK cb lo fs a w seen)(b:seen.length<=100000)(l:Nat)(x:List UInt8):
 Calls prog 230 #[.pointer (some ⟨cb,0,none⟩),.agg #[.int .i64 l,.string (bs x)]] w (cY cb lo fs a w (AK ⟨seen,0,0⟩ l x)):=S2 cb lo fs a w seen h b l x
def IG(cb lo:Nat)(fs:List aC)(a:Value)(seen:List (List UInt8))(w:World)(h:CK cb lo fs a w seen)(l k:Nat):
 Calls prog 167 #[.pointer (some ⟨cb,0,none⟩),.iface 397 (.agg #[.int .i64 l,.int .i64 k])] w (cY cb lo fs a w ⟨seen,0,0⟩):=by
 have H:=aB h;have e:=uN;have i:=vY;have p:=JN;have j:=yW;have n:=vW;have m:=yY;have g:=AY;have f:=tJ;have o:=AX;have d:=yZ;have b:=yX;have c:=vX;clear h;go_enter func167,ntmps167;go_wp2_with fail;go_end0;exact cY.done (FB.refl _) rfl H.out
def ZK(cb lo:Nat)(fs:List aC)(a:Value)(seen:List (List UInt8))(w:World)(h:CK cb lo fs a w seen)(l:Nat)(x:ByteArray):
 Calls prog 167 #[.pointer (some ⟨cb,0,none⟩),.iface 398 (.agg #[.int .i64 l,.string x])] w (cY cb lo fs a w ⟨seen,0,0⟩):=by
 have H:=aB h;have e:=uL;have i:=vU;have o:=JM;have j:=yQ;have m:=vS;have k:=yS;have g:=AU;have f:=tI;have n:=AT;have d:=yT;have b:=yR;have c:=vT;clear h;go_enter func167,ntmps167;go_wp2_with fail;go_end0;exact cY.done (FB.refl _) rfl H.out
def V6(cb lo:Nat)(fs:List aC)(a:Value)(seen:List (List UInt8))(w:World)(h:CK cb lo fs a w seen)(l:Nat)(x:Bool):
 Calls prog 167 #[.pointer (some ⟨cb,0,none⟩),.iface 400 (.agg #[.int .i64 l,.bool x])] w (cY cb lo fs a w ⟨seen,0,0⟩):=by
 have H:=aB h;have e:=zE;have i:=BI;have o:=SG;have j:=ET;have m:=BG;have k:=EV;have g:=JS;have f:=wB;have n:=JR;have d:=EW;have b:=EU;have c:=BH;clear h;go_enter func167,ntmps167;go_wp2_with fail;go_end0;exact cY.done (FB.refl _) rfl H.out
def V0(cb lo:Nat)(fs:List aC)(x:Value)(d:Nat)(B:mI cb lo fs x d)(seen:List (List UInt8))(w:World)(h:CK cb lo fs x w seen)(l:Nat)(u1:Value)(b:List aC)(y:PKid (Btw lo cb) w u1 b)(j:∀k∈b,eY d k)(A:seen.length+((b.map (bW d)).sum+0)<=90000):
 Calls prog 167 #[.pointer (some ⟨cb,0,none⟩),.iface 346 (.agg #[.int .i64 l,u1])] w (cY cb lo fs x w (foldL fs d b ⟨seen,0,0⟩)):=by
 obtain⟨v,s,rfl⟩:=y.slice;have E:=zA;have H:=BA;have N:=SE;have I:=EN;have K:=AZ;have J:=EO;have G:=JP;have F:=vZ;have M:=JO;obtain⟨n,a⟩:=Loc.new h (.cells #[.int .i64 l,(.slice v b.length s)] 346);have m:=aB n;have u:=aB a;clear h n a;go_enter func167,ntmps167;have c:=aB (B (.slice v b.length s) b seen (w.alloc (.cells #[.int .i64 l,(.slice v b.length s)] 346)) u.out (y.below m.out.fb.bel) j (by omega) (by have:=vA j;omega))
 obtain⟨o,g⟩:∃o,o=foldL fs d b (⟨seen,0,0⟩:aZ):=⟨_,rfl⟩;have p:=aB g.symm;first|rw[<-g] at c|rw[show _=o from g.symm] at c
 clear g;go_wp2_with fail;refine c.out.mono ?_;rintro e D ⟨f,⟨L,q,rfl,i⟩|⟨a,rfl⟩⟩
 rotate_left
 ·have z:=aB (m.out.fb.trans f);have C:=aB a;clear f a;go_wp2_with fail;exact⟨rfl,cY.fault (c1:=o) z.out C.out (by rw[p.out];exact Stk.refl o)⟩
 have t:=aB (m.out.step f);have r:=aB i;subst q;clear f i c;go_wp2_with fail;go_end0;exact cY.done t.out.fb (by rw[p.out]) r.out
def M1(cb lo:Nat)(fs:List aC)(v:Value)(d:Nat)(C:jQ cb lo fs v d)(seen:List (List UInt8))(w:World)(h:CK cb lo fs v w seen)(l:Nat)(x:ByteArray)(v1:Value)(k:aC)(y:PN (Btw lo cb) w v1 k)(s:eY d k)(B:seen.length+(bW d k+0)<=90000):
 Calls prog 167 #[.pointer (some ⟨cb,0,none⟩),.iface 350 (.agg #[.int .i64 l,.string x,v1])] w (cY cb lo fs v w (aO fs false d k ⟨seen,0,0⟩)):=by
 obtain⟨q,j,rfl⟩:=y.form;have G:=vR;have J:=yP;have P:=MY;have K:=AP;have M:=yO;have L:=AR;have I:=EM;have H:=uK;have O:=EL;have F:=AS;have A:=AQ;obtain⟨m,a⟩:=Loc.new h (.cells #[.int .i64 l,.string x,(.iface q (.agg j))] 350);have i:=aB m;have u:=aB a;clear h m a;go_enter func167,ntmps167;have b:=aB (C (.iface q (.agg j)) k seen (w.alloc (.cells #[.int .i64 l,.string x,(.iface q (.agg j))] 350)) u.out (y.below i.out.fb.bel) s (by omega))
 obtain⟨n,f⟩:∃n,n=aO fs false d k (⟨seen,0,0⟩:aZ):=⟨_,rfl⟩;have o:=aB f.symm;first|rw[<-f] at b|rw[show _=n from f.symm] at b
 clear f;go_wp2_with fail;refine b.out.mono ?_;rintro e E ⟨c,⟨N,p,rfl,g⟩|⟨a,rfl⟩⟩
 rotate_left
 ·have z:=aB (i.out.fb.trans c);have D:=aB a;clear c a;go_wp2_with fail;exact⟨rfl,cY.fault (c1:=n) z.out D.out (by rw[o.out];exact Stk.refl n)⟩
 have t:=aB (i.out.step c);have r:=aB g;subst p;clear c g b;go_wp2_with fail;go_end0;exact cY.done t.out.fb (by rw[o.out]) r.out
def ZL(cb lo:Nat)(fs:List aC)(v:Value)(d:Nat)(A:jQ cb lo fs v d)(seen:List (List UInt8))(w:World)(h:CK cb lo fs v w seen)(l:Nat)(v1:Value)(k:aC)(x:PN (Btw lo cb) w v1 k)(s:eY d k)(z:seen.length+(bW d k+0)<=90000):
 Calls prog 167 #[.pointer (some ⟨cb,0,none⟩),.iface 338 (.agg #[.int .i64 l,v1])] w (cY cb lo fs v w (aO fs false d k ⟨seen,0,0⟩)):=by
 obtain⟨q,j,rfl⟩:=x.form;have D:=nI;have E:=oC;have I:=uM;have F:=pH;have G:=oB;obtain⟨m,a⟩:=Loc.new h (.cells #[.int .i64 l,(.iface q (.agg j))] 338);have i:=aB m;have u:=aB a;clear h m a;go_enter func167,ntmps167;have b:=aB (A (.iface q (.agg j)) k seen (w.alloc (.cells #[.int .i64 l,(.iface q (.agg j))] 338)) u.out (x.below i.out.fb.bel) s (by omega))
 obtain⟨n,f⟩:∃n,n=aO fs false d k (⟨seen,0,0⟩:aZ):=⟨_,rfl⟩;have o:=aB f.symm;first|rw[<-f] at b|rw[show _=n from f.symm] at b
 clear f;go_wp2_with fail;refine b.out.mono ?_;rintro e C ⟨c,⟨H,p,rfl,g⟩|⟨a,rfl⟩⟩
 rotate_left
 ·have y:=aB (i.out.fb.trans c);have B:=aB a;clear c a;go_wp2_with fail;exact⟨rfl,cY.fault (c1:=n) y.out B.out (by rw[o.out];exact Stk.refl n)⟩
 have t:=aB (i.out.step c);have r:=aB g;subst p;clear c g b;go_wp2_with fail;go_end0;exact cY.done t.out.fb (by rw[o.out]) r.out
def M2(cb lo:Nat)(fs:List aC)(v:Value)(d:Nat)(A:jQ cb lo fs v d)(seen:List (List UInt8))(w:World)(h:CK cb lo fs v w seen)(l:Nat)(v1:Value)(k:aC)(x:PN (Btw lo cb) w v1 k)(s:eY d k)(z:seen.length+(bW d k+0)<=90000):
 Calls prog 167 #[.pointer (some ⟨cb,0,none⟩),.iface 339 (.agg #[.int .i64 l,v1])] w (cY cb lo fs v w (aO fs false d k ⟨seen,0,0⟩)):=by
 obtain⟨q,j,rfl⟩:=x.form;have D:=vV;have E:=yV;have J:=MZ;have F:=AV;have H:=yU;have G:=AW;obtain⟨m,a⟩:=Loc.new h (.cells #[.int .i64 l,(.iface q (.agg j))] 339);have i:=aB m;have u:=aB a;clear h m a;go_enter func167,ntmps167;have b:=aB (A (.iface q (.agg j)) k seen (w.alloc (.cells #[.int .i64 l,(.iface q (.agg j))] 339)) u.out (x.below i.out.fb.bel) s (by omega))
 obtain⟨n,f⟩:∃n,n=aO fs false d k (⟨seen,0,0⟩:aZ):=⟨_,rfl⟩;have o:=aB f.symm;first|rw[<-f] at b|rw[show _=n from f.symm] at b
 clear f;go_wp2_with fail;refine b.out.mono ?_;rintro e C ⟨c,⟨I,p,rfl,g⟩|⟨a,rfl⟩⟩
 rotate_left
 ·have y:=aB (i.out.fb.trans c);have B:=aB a;clear c a;go_wp2_with fail;exact⟨rfl,cY.fault (c1:=n) y.out B.out (by rw[o.out];exact Stk.refl n)⟩
 have t:=aB (i.out.step c);have r:=aB g;subst p;clear c g b;go_wp2_with fail;go_end0;exact cY.done t.out.fb (by rw[o.out]) r.out
def M3(cb lo:Nat)(fs:List aC)(T:Value)(d:Nat)(X:jQ cb lo fs T d)(seen:List (List UInt8))(w:World)(h:CK cb lo fs T w seen)(l:Nat)(v1:Value)(u:aC)(W:PN (Btw lo cb) w v1 u)(N:eY d u)(v2:Value)(p:aC)(V:PN (Btw lo cb) w v2 p)(F:eY d p)(aa:seen.length+(bW d u+(bW d p+0))<=90000):
 Calls prog 167 #[.pointer (some ⟨cb,0,none⟩),.iface 348 (.agg #[.int .i64 l,v1,v2])] w (cY cb lo fs T w (aO fs false d p (aO fs false d u ⟨seen,0,0⟩))):=by
 obtain⟨H,t,rfl⟩:=W.form;obtain⟨U,q,rfl⟩:=V.form;have q0:=wA;have q1:=zC;have q2:=NA;have q3:=BB;have q4:=zB;have q5:=BC;have q6:=EQ;have q7:=uO;have q8:=EP;have q9:=BD;obtain⟨y,b⟩:=Loc.new h (.cells #[.int .i64 l,(.iface H (.agg t)),(.iface U (.agg q))] 348);have s:=aB y;have S:=aB b;clear h y b;go_enter func167,ntmps167;have f:=aB (X (.iface H (.agg t)) u seen (w.alloc (.cells #[.int .i64 l,(.iface H (.agg t)),(.iface U (.agg q))] 348)) S.out (W.below s.out.fb.bel) N (by omega))
 have D:=aB (fN fs false d u ⟨seen,0,0⟩);obtain⟨B,c⟩:∃B,B=aO fs false d u (⟨seen,0,0⟩:aZ):=⟨_,rfl⟩;have v:=aB c.symm;rw[<-c] at D;first|rw[<-c] at f|rw[show _=B from c.symm] at f
 clear c;go_wp2_with fail;refine f.out.mono ?_;rintro e Y ⟨j,⟨P,G,rfl,n⟩|⟨b,rfl⟩⟩
 rotate_left
 ·have K:=aB (s.out.fb.trans j);have Q:=aB b;clear j b;go_wp2_with fail;exact⟨rfl,cY.fault (c1:=B) K.out Q.out (by rw[v.out];exact(Stk.walk fs false d p B))⟩
 have a:=aB (s.out.step j);have I:=aB n;subst G;have Z:P.length+(bW d p+0)<=90000:=kZ D.out rfl (by omega)
 clear j n f;have k:=aB (X (.iface U (.agg q)) p P Y I.out (V.below a.out.fb.bel) F (by omega))
 obtain⟨r,g⟩:∃r,r=aO fs false d p (⟨P,0,0⟩:aZ):=⟨_,rfl⟩;have E:=aB g.symm;first|rw[<-g] at k|rw[show _=r from g.symm] at k
 clear g;have C:=aA a.out.blk (i:=0) rfl;have z:=aA a.out.blk (i:=1) rfl;have A:=aA a.out.blk (i:=2) rfl;have L:=aD a.out.blk;go_wp2_with fail;refine k.out.mono ?_;rintro e w2 ⟨m,⟨s2,M,rfl,o⟩|⟨x,rfl⟩⟩
 rotate_left
 ·have K:=aB (a.out.fb.trans m);have Q:=aB x;clear m x;go_wp2_with fail;exact⟨rfl,cY.fault (c1:=r) K.out Q.out (by rw[v.out,E.out];exact Stk.refl r)⟩
 have J:=aB (a.out.step m);have O:=aB o;subst M;clear m o k C z A L;go_wp2_with fail;go_end0;exact cY.done J.out.fb (by rw[v.out,E.out]) O.out
def ZM(cb lo:Nat)(fs:List aC)(V:Value)(d:Nat)(Z:jQ cb lo fs V d)(seen:List (List UInt8))(w:World)(h:CK cb lo fs V w seen)(l:Nat)(x:ByteArray)(v1:Value)(u:aC)(Y:PN (Btw lo cb) w v1 u)(P:eY d u)(v2:Value)(p:aC)(X:PN (Btw lo cb) w v2 p)(H:eY d p)(ac:seen.length+(bW d u+(bW d p+0))<=90000):
 Calls prog 167 #[.pointer (some ⟨cb,0,none⟩),.iface 352 (.agg #[.int .i64 l,.string x,v1,v2])] w (cY cb lo fs V w (aO fs false d p (aO fs false d u ⟨seen,0,0⟩))):=by
 obtain⟨J,t,rfl⟩:=Y.form;obtain⟨W,q,rfl⟩:=X.form;have q0:=uQ;have q1:=wE;have q2:=JT;have q3:=zF;have q4:=wC;have q5:=zH;have q6:=BK;have q7:=tL;have q8:=BJ;have q9:=zI;have ab:=zG;have ad:=wD;obtain⟨z,b⟩:=Loc.new h (.cells #[.int .i64 l,.string x,(.iface J (.agg t)),(.iface W (.agg q))] 352);have s:=aB z;have U:=aB b;clear h z b;go_enter func167,ntmps167;have f:=aB (Z (.iface J (.agg t)) u seen (w.alloc (.cells #[.int .i64 l,.string x,(.iface J (.agg t)),(.iface W (.agg q))] 352)) U.out (Y.below s.out.fb.bel) P (by omega))
 have F:=aB (fN fs false d u ⟨seen,0,0⟩);obtain⟨D,c⟩:∃D,D=aO fs false d u (⟨seen,0,0⟩:aZ):=⟨_,rfl⟩;have v:=aB c.symm;rw[<-c] at F;first|rw[<-c] at f|rw[show _=D from c.symm] at f
 clear c;go_wp2_with fail;refine f.out.mono ?_;rintro e w1 ⟨j,⟨Q,I,rfl,n⟩|⟨b,rfl⟩⟩
 rotate_left
 ·have M:=aB (s.out.fb.trans j);have T:=aB b;clear j b;go_wp2_with fail;exact⟨rfl,cY.fault (c1:=D) M.out T.out (by rw[v.out];exact(Stk.walk fs false d p D))⟩
 have a:=aB (s.out.step j);have K:=aB n;subst I;have aa:Q.length+(bW d p+0)<=90000:=kZ F.out rfl (by omega)
 clear j n f;have k:=aB (Z (.iface W (.agg q)) p Q w1 K.out (X.below a.out.fb.bel) H (by omega))
 obtain⟨r,g⟩:∃r,r=aO fs false d p (⟨Q,0,0⟩:aZ):=⟨_,rfl⟩;have G:=aB g.symm;first|rw[<-g] at k|rw[show _=r from g.symm] at k
 clear g;have E:=aA a.out.blk (i:=0) rfl;have A:=aA a.out.blk (i:=1) rfl;have B:=aA a.out.blk (i:=2) rfl;have C:=aA a.out.blk (i:=3) rfl;have N:=aD a.out.blk;go_wp2_with fail;refine k.out.mono ?_;rintro e w2 ⟨m,⟨s2,O,rfl,o⟩|⟨y,rfl⟩⟩
 rotate_left
 ·have M:=aB (a.out.fb.trans m);have T:=aB y;clear m y;go_wp2_with fail;exact⟨rfl,cY.fault (c1:=r) M.out T.out (by rw[v.out,G.out];exact Stk.refl r)⟩
 have L:=aB (a.out.step m);have S:=aB o;subst O;clear m o k E A B C N;go_wp2_with fail;go_end0;exact cY.done L.out.fb (by rw[v.out,G.out]) S.out
def M0(cb lo:Nat)(fs:List aC)(G:Value)(d:Nat)(IH:jQ cb lo fs G d)(P:sF cb lo fs G d)(seen:List (List UInt8))(w:World)(h:CK cb lo fs G w seen)(l:Nat)(v1:Value)(t:aC)(Y:PN (Btw lo cb) w v1 t)(O:eY d t)(u2:Value)(b:aC)(F:b.op=[98,108,111,99,107])(X:PKid (Btw lo cb) w u2 b.kids)(z:eY d b)(ab:seen.length+(bW d t+(bW d b+0))<=90000):
 Calls prog 167 #[.pointer (some ⟨cb,0,none⟩),.iface 336 (.agg #[.int .i64 l,v1,u2])] w (cY cb lo fs G w (aO fs false d b (aO fs false d t ⟨seen,0,0⟩))):=by
 obtain⟨I,s,rfl⟩:=Y.form;obtain⟨U,W,rfl⟩:=X.slice;have q0:=vP;have q1:=yN;have q2:=MX;have q3:=AN;obtain⟨x,c⟩:=Loc.new h (.cells #[.int .i64 l,(.iface I (.agg s)),(.slice U b.kids.length W)] 336);have r:=aB x;have V:=aB c;clear h x c;go_enter func167,ntmps167;have g:=aB (IH (.iface I (.agg s)) t seen (w.alloc (.cells #[.int .i64 l,(.iface I (.agg s)),(.slice U b.kids.length W)] 336)) V.out (Y.below r.out.fb.bel) O (by omega))
 have D:=aB (fN fs false d t ⟨seen,0,0⟩);obtain⟨B,f⟩:∃B,B=aO fs false d t (⟨seen,0,0⟩:aZ):=⟨_,rfl⟩;have u:=aB f.symm;rw[<-f] at D;first|rw[<-f] at g|rw[show _=B from f.symm] at g
 clear f;go_wp2_with fail;refine g.out.mono ?_;rintro e Z ⟨k,⟨S,H,rfl,o⟩|⟨c,rfl⟩⟩
 rotate_left
 ·have L:=aB (r.out.fb.trans k);have T:=aB c;clear k c;go_wp2_with fail;exact⟨rfl,cY.fault (c1:=B) L.out T.out (by rw[u.out];exact(Stk.walk fs false d b B))⟩
 have a:=aB (r.out.step k);have J:=aB o;subst H;have aa:S.length+(bW d b+0)<=90000:=kZ D.out rfl (by omega)
 clear k o g;have m:=aB (P (.slice U b.kids.length W) b S Z J.out F (X.below a.out.fb.bel) z (by omega))
 obtain⟨q,j⟩:∃q,q=aO fs false d b (⟨S,0,0⟩:aZ):=⟨_,rfl⟩;have E:=aB j.symm;first|rw[<-j] at m|rw[show _=q from j.symm] at m
 clear j;have C:=aA a.out.blk (i:=0) rfl;have y:=aA a.out.blk (i:=1) rfl;have A:=aA a.out.blk (i:=2) rfl;have M:=aD a.out.blk;go_wp2_with fail;refine m.out.mono ?_;rintro e w2 ⟨n,⟨s2,N,rfl,p⟩|⟨v,rfl⟩⟩
 rotate_left
 ·have L:=aB (a.out.fb.trans n);have T:=aB v;clear n v;go_wp2_with fail;exact⟨rfl,cY.fault (c1:=q) L.out T.out (by rw[u.out,E.out];exact Stk.refl q)⟩
 have K:=aB (a.out.step n);have Q:=aB p;subst N;clear n p m C y A M;go_wp2_with fail;go_end0;exact cY.done K.out.fb (by rw[u.out,E.out]) Q.out
def z7(cb lo:Nat)(fs:List aC)(fv:Value)(d:Nat)(IH:jQ cb lo fs fv d)(U:sF cb lo fs fv d)(seen:List (List UInt8))(w:World)(h:CK cb lo fs fv w seen)(l:Nat)(v1:Value)(B:aC)(h1:PN (Btw lo cb) w v1 B)(ah:eY d B)(u2:Value)(f:aC)(H:f.op=[98,108,111,99,107])(g2:PKid (Btw lo cb) w u2 f.kids)(J:eY d f)(u3:Value)(c:aC)(Z:c.op=[98,108,111,99,107])(g3:PKid (Btw lo cb) w u3 c.kids)(G:eY d c)(am:seen.length+(bW d B+(bW d f+(bW d c+0)))<=90000):
 Calls prog 167 #[.pointer (some ⟨cb,0,none⟩),.iface 334 (.agg #[.int .i64 l,v1,u2,u3])] w (cY cb lo fs fv w (aO fs false d c (aO fs false d f (aO fs false d B ⟨seen,0,0⟩)))):=by
 obtain⟨T1,A,rfl⟩:=h1.form;obtain⟨x2,y2,rfl⟩:=g2.slice;obtain⟨x3,y3,rfl⟩:=g3.slice;have q0:=sM;have q1:=uP;have q2:=NB;obtain⟨D,j⟩:=Loc.new h (.cells #[.int .i64 l,(.iface T1 (.agg A)),(.slice x2 f.kids.length y2),(.slice x3 c.kids.length y3)] 334);have z:=aB D;have aa:=aB j;clear h D j;go_enter func167,ntmps167;have p:=aB (IH (.iface T1 (.agg A)) B seen (w.alloc (.cells #[.int .i64 l,(.iface T1 (.agg A)),(.slice x2 f.kids.length y2),(.slice x3 c.kids.length y3)] 334)) aa.out (h1.below z.out.fb.bel) ah (by omega))
 have W:=aB (fN fs false d B ⟨seen,0,0⟩);obtain⟨X,g⟩:∃X,X=aO fs false d B (⟨seen,0,0⟩:aZ):=⟨_,rfl⟩;have q:=aB g.symm;rw[<-g] at W;first|rw[<-g] at p|rw[show _=X from g.symm] at p
 clear g;go_wp2_with fail;refine p.out.mono ?_;rintro e w1 ⟨m,⟨s1,af,rfl,u⟩|⟨j,rfl⟩⟩
 rotate_left
 ·have HB:=aB (z.out.fb.trans m);have K:=aB j;clear m j;go_wp2_with fail;exact⟨rfl,cY.fault (c1:=X) HB.out K.out (by rw[q.out];exact((Stk.walk fs false d f X)).trans (Stk.walk fs false d c _))⟩
 have a:=aB (z.out.step m);have ab:=aB u;subst af;have al:s1.length+(bW d f+(bW d c+0))<=90000:=kZ W.out rfl (by omega)
 clear m u p;have o:=aB (U (.slice x2 f.kids.length y2) f s1 w1 ab.out H (g2.below a.out.fb.bel) J (by omega))
 have E:=aB (fN fs false d f ⟨s1,0,0⟩);obtain⟨v,k⟩:∃v,v=aO fs false d f (⟨s1,0,0⟩:aZ):=⟨_,rfl⟩;have C:=aB k.symm;rw[<-k] at E;first|rw[<-k] at o|rw[show _=v from k.symm] at o
 clear k;have V:=aA a.out.blk (i:=0) rfl;have P:=aA a.out.blk (i:=1) rfl;have Q:=aA a.out.blk (i:=2) rfl;have S:=aA a.out.blk (i:=3) rfl;have aj:=aD a.out.blk;go_wp2_with fail;refine o.out.mono ?_;rintro e w2 ⟨t,⟨s2,ak,rfl,x⟩|⟨Y,rfl⟩⟩
 rotate_left
 ·have HB:=aB (a.out.fb.trans t);have K:=aB Y;clear t Y;go_wp2_with fail;exact⟨rfl,cY.fault (c1:=v) HB.out K.out (by rw[q.out,C.out];exact(Stk.walk fs false d c v))⟩
 have b:=aB (a.out.step t);have ae:=aB x;subst ak;have an:s2.length+(bW d c+0)<=90000:=kZ E.out rfl (by omega)
 clear t x o V P Q S aj;have r:=aB (U (.slice x3 c.kids.length y3) c s2 w2 ae.out Z (g3.below b.out.fb.bel) G (by omega))
 obtain⟨F,s⟩:∃F,F=aO fs false d c (⟨s2,0,0⟩:aZ):=⟨_,rfl⟩;have T:=aB s.symm;first|rw[<-s] at r|rw[show _=F from s.symm] at r
 clear s;have L:=aA b.out.blk (i:=0) rfl;have O:=aA b.out.blk (i:=1) rfl;have M:=aA b.out.blk (i:=2) rfl;have N:=aA b.out.blk (i:=3) rfl;have ag:=aD b.out.blk;go_wp2_with fail;refine r.out.mono ?_;rintro e w3 ⟨n,⟨s3,ad,rfl,y⟩|⟨I,rfl⟩⟩
 rotate_left
 ·have HB:=aB (b.out.fb.trans n);have K:=aB I;clear n I;go_wp2_with fail;exact⟨rfl,cY.fault (c1:=F) HB.out K.out (by rw[q.out,C.out,T.out];exact Stk.refl F)⟩
 have ai:=aB (b.out.step n);have ac:=aB y;subst ad;clear n y r L O M N ag;go_wp2_with fail;go_end0;exact cY.done ai.out.fb (by rw[q.out,C.out,T.out]) ac.out
def m7(cb lo:Nat)(fs:List aC)(U:Value)(d:Nat)(IH:jQ cb lo fs U d)(HN:mI cb lo fs U d)(ai:sF cb lo fs U d)(seen:List (List UInt8))(w:World)(h:CK cb lo fs U w seen)(l:Nat)(v1:Value)(A:aC)(h1:PN (Btw lo cb) w v1 A)(ah:eY d A)(u2:Value)(c:aC)(F:c.op=[98,108,111,99,107])(g2:PKid (Btw lo cb) w u2 c.kids)(H:eY d c)(an:seen.length+(bW d A+(bW d c+(0+0)))<=90000):
 Calls prog 167 #[.pointer (some ⟨cb,0,none⟩),.iface 334 (.agg #[.int .i64 l,v1,u2,.slice none 0 0])] w (cY cb lo fs U w ((aO fs false d c (aO fs false d A ⟨seen,0,0⟩)))):=by
 obtain⟨T1,z,rfl⟩:=h1.form;obtain⟨Z,y2,rfl⟩:=g2.slice;have q0:=sM;have q1:=uP;have q2:=NB;obtain⟨C,g⟩:=Loc.new h (.cells #[.int .i64 l,(.iface T1 (.agg z)),(.slice Z c.kids.length y2),.slice none 0 0] 334);have y:=aB C;have aa:=aB g;clear h C g;go_enter func167,ntmps167;have o:=aB (IH (.iface T1 (.agg z)) A seen (w.alloc (.cells #[.int .i64 l,(.iface T1 (.agg z)),(.slice Z c.kids.length y2),.slice none 0 0] 334)) aa.out (h1.below y.out.fb.bel) ah (by omega))
 have T:=aB (fN fs false d A ⟨seen,0,0⟩);obtain⟨V,f⟩:∃V,V=aO fs false d A (⟨seen,0,0⟩:aZ):=⟨_,rfl⟩;have p:=aB f.symm;rw[<-f] at T;first|rw[<-f] at o|rw[show _=V from f.symm] at o
 clear f;go_wp2_with fail;refine o.out.mono ?_;rintro e w1 ⟨k,⟨Y,af,rfl,t⟩|⟨g,rfl⟩⟩
 rotate_left
 ·have X:=aB (y.out.fb.trans k);have I:=aB g;clear k g;go_wp2_with fail;exact⟨rfl,cY.fault (c1:=V) X.out I.out (by rw[p.out];exact((Stk.walk fs false d c V)).trans (Stk.refl _))⟩
 have a:=aB (y.out.step k);have ab:=aB t;subst af;have am:Y.length+(bW d c+(0+0))<=90000:=kZ T.out rfl (by omega)
 clear k t o;have n:=aB (ai (.slice Z c.kids.length y2) c Y w1 ab.out F (g2.below a.out.fb.bel) H (by omega))
 have D:=aB (fN fs false d c ⟨Y,0,0⟩);obtain⟨u,j⟩:∃u,u=aO fs false d c (⟨Y,0,0⟩:aZ):=⟨_,rfl⟩;have B:=aB j.symm;rw[<-j] at D;first|rw[<-j] at n|rw[show _=u from j.symm] at n
 clear j;have S:=aA a.out.blk (i:=0) rfl;have N:=aA a.out.blk (i:=1) rfl;have O:=aA a.out.blk (i:=2) rfl;have P:=aA a.out.blk (i:=3) rfl;have ak:=aD a.out.blk;go_wp2_with fail;refine n.out.mono ?_;rintro e w2 ⟨s,⟨s2,al,rfl,v⟩|⟨W,rfl⟩⟩
 rotate_left
 ·have X:=aB (a.out.fb.trans s);have I:=aB W;clear s W;go_wp2_with fail;exact⟨rfl,cY.fault (c1:=u) X.out I.out (by rw[p.out,B.out];exact(Stk.refl u))⟩
 have b:=aB (a.out.step s);have ae:=aB v;subst al;have ao:s2.length+(0+0)<=90000:=kZ D.out rfl (by omega)
 clear s v n S N O P ak;have q:=aB (ZG d HN s2 w2 ae.out (by omega))
 obtain⟨E,r⟩:∃E,E=(⟨s2,0,0⟩:aZ):=⟨_,rfl⟩;have Q:=aB r.symm;first|rw[<-r] at q|rw[show _=E from r.symm] at q
 clear r;have J:=aA b.out.blk (i:=0) rfl;have M:=aA b.out.blk (i:=1) rfl;have K:=aA b.out.blk (i:=2) rfl;have L:=aA b.out.blk (i:=3) rfl;have ag:=aD b.out.blk;go_wp2_with fail;refine q.out.mono ?_;rintro e w3 ⟨m,⟨s3,ad,rfl,x⟩|⟨G,rfl⟩⟩
 rotate_left
 ·have X:=aB (b.out.fb.trans m);have I:=aB G;clear m G;go_wp2_with fail;exact⟨rfl,cY.fault (c1:=E) X.out I.out (by rw[p.out,B.out,Q.out];exact Stk.refl E)⟩
 have aj:=aB (b.out.step m);have ac:=aB x;subst ad;clear m x q J M K L ag;go_wp2_with fail;go_end0;exact cY.done aj.out.fb (by rw[p.out,B.out,Q.out]) ac.out
def OS(cb lo:Nat)(fs:List aC)(q:Value)(seen:List (List UInt8))(w:World)(h:CK cb lo fs q w seen)(l:Nat)(x:List UInt8)(s:seen.length+(0+0)<=90000):
 Calls prog 167 #[.pointer (some ⟨cb,0,none⟩),.iface 344 (.agg #[.int .i64 l,.string (bs x)])] w (cY cb lo fs q w (AK ⟨seen,0,0⟩ l x)):=by
 have v:=sI;have A:=tH;have F:=AO;have B:=uI;have D:=tG;have C:=uJ;have z:=vQ;have y:=pW;obtain⟨g,a⟩:=Loc.new h (.cells #[.int .i64 l,.string (bs x)] 344);have i:=aB g;have p:=aB a;clear h g a;go_enter func167,ntmps167;have b:=aB (G5 cb lo fs q (w.alloc (.cells #[.int .i64 l,.string (bs x)] 344)) seen p.out (by omega) l x)
 obtain⟨k,d⟩:∃k,k=AK (⟨seen,0,0⟩:aZ) l x:=⟨_,rfl⟩;have j:=aB d.symm;first|rw[<-d] at b|rw[show _=k from d.symm] at b
 clear d;go_wp2_with fail;refine b.out.mono ?_;rintro e u ⟨c,⟨E,m,rfl,f⟩|⟨a,rfl⟩⟩
 rotate_left
 ·have r:=aB (i.out.fb.trans c);have t:=aB a;clear c a;go_wp2_with fail;exact⟨rfl,cY.fault (c1:=k) r.out t.out (by rw[j.out];exact Stk.refl k)⟩
 have o:=aB (i.out.step c);have n:=aB f;subst m;clear c f b;go_wp2_with fail;go_end0;exact cY.done o.out.fb (by rw[j.out]) n.out
def ZN(cb lo:Nat)(fs:List aC)(W:Value)(d:Nat)(IH:jQ cb lo fs W d)(HN:mI cb lo fs W d)(seen:List (List UInt8))(w:World)(h:CK cb lo fs W w seen)(l:Nat)(x:List UInt8)(u2:Value)(f:List aC)(g2:PKid (Btw lo cb) w u2 f)(B:∀k∈f,eY d k)(v1:Value)(m:aC)(h1:PN (Btw lo cb) w v1 m)(ah:eY d m)(am:seen.length+(0+((f.map (bW d)).sum+(bW d m+0)))<=90000):
 Calls prog 167 #[.pointer (some ⟨cb,0,none⟩),.iface 332 (.agg #[.int .i64 l,.string (bs x),u2,v1])] w (cY cb lo fs W w (aO fs false d m (foldL fs d f (AK ⟨seen,0,0⟩ l x)))):=by
 obtain⟨x2,y2,rfl⟩:=g2.slice;obtain⟨T1,D,rfl⟩:=h1.form;have q0:=uR;have q1:=wF;obtain⟨F,g⟩:=Loc.new h (.cells #[.int .i64 l,.string (bs x),(.slice x2 f.length y2),(.iface T1 (.agg D))] 332);have H:=aB F;have aa:=aB g;clear h F g;go_enter func167,ntmps167;have q:=aB (G5 cb lo fs W (w.alloc (.cells #[.int .i64 l,.string (bs x),(.slice x2 f.length y2),(.iface T1 (.agg D))] 332)) seen aa.out (by omega) l x)
 have V:=aB (XO ⟨seen,0,0⟩ l x);obtain⟨c0,c⟩:∃c0,c0=AK (⟨seen,0,0⟩:aZ) l x:=⟨_,rfl⟩;have r:=aB c.symm;rw[<-c] at V;first|rw[<-c] at q|rw[show _=c0 from c.symm] at q
 clear c;go_wp2_with fail;refine q.out.mono ?_;rintro e w1 ⟨n,⟨Z,af,rfl,y⟩|⟨g,rfl⟩⟩
 rotate_left
 ·have Y:=aB (H.out.fb.trans n);have K:=aB g;clear n g;go_wp2_with fail;exact⟨rfl,cY.fault (c1:=c0) Y.out K.out (by rw[r.out];exact((Stk.fold (fun s k=>Stk.walk fs false d k s) _ _)).trans (Stk.walk fs false d m _))⟩
 have a:=aB (H.out.step n);have ab:=aB y;subst af;have al:Z.length+((f.map (bW d)).sum+(bW d m+0))<=90000:=kZ V.out rfl (by omega)
 clear n y q;have p:=aB (HN (.slice x2 f.length y2) f Z w1 ab.out (g2.below a.out.fb.bel) B (by omega) (by have:=vA B;omega))
 have G:=aB (IS fs d f ⟨Z,0,0⟩);obtain⟨z,j⟩:∃z,z=foldL fs d f (⟨Z,0,0⟩:aZ):=⟨_,rfl⟩;have E:=aB j.symm;rw[<-j] at G;first|rw[<-j] at p|rw[show _=z from j.symm] at p
 clear j;have U:=aA a.out.blk (i:=0) rfl;have P:=aA a.out.blk (i:=1) rfl;have Q:=aA a.out.blk (i:=2) rfl;have S:=aA a.out.blk (i:=3) rfl;have aj:=aD a.out.blk;go_wp2_with fail;refine p.out.mono ?_;rintro e w2 ⟨v,⟨s2,ak,rfl,A⟩|⟨X,rfl⟩⟩
 rotate_left
 ·have Y:=aB (a.out.fb.trans v);have K:=aB X;clear v X;go_wp2_with fail;exact⟨rfl,cY.fault (c1:=z) Y.out K.out (by rw[r.out,E.out];exact(Stk.walk fs false d m z))⟩
 have b:=aB (a.out.step v);have ae:=aB A;subst ak;have an:s2.length+(bW d m+0)<=90000:=kZ G.out rfl (by omega)
 clear v A p U P Q S aj;have t:=aB (IH (.iface T1 (.agg D)) m s2 w2 ae.out (h1.below b.out.fb.bel) ah (by omega))
 obtain⟨I,u⟩:∃I,I=aO fs false d m (⟨s2,0,0⟩:aZ):=⟨_,rfl⟩;have T:=aB u.symm;first|rw[<-u] at t|rw[show _=I from u.symm] at t
 clear u;have L:=aA b.out.blk (i:=0) rfl;have O:=aA b.out.blk (i:=1) rfl;have M:=aA b.out.blk (i:=2) rfl;have N:=aA b.out.blk (i:=3) rfl;have ag:=aD b.out.blk;go_wp2_with fail;refine t.out.mono ?_;rintro e w3 ⟨o,⟨s3,ad,rfl,C⟩|⟨J,rfl⟩⟩
 rotate_left
 ·have Y:=aB (b.out.fb.trans o);have K:=aB J;clear o J;go_wp2_with fail;exact⟨rfl,cY.fault (c1:=I) Y.out K.out (by rw[r.out,E.out,T.out];exact Stk.refl I)⟩
 have ai:=aB (b.out.step o);have ac:=aB C;subst ad;clear o C t L O M N ag;go_wp2_with fail;go_end0;exact cY.done ai.out.fb (by rw[r.out,E.out,T.out]) ac.out
def Fr.keepS{pb b:Nat}{w w':World}{o:Obj}(a:Fr pb w w')(h:w.heap[b]?=some o)(c:b≠pb):w'.heap[b]?=some o:=by
 rw[a.block b (aD h) c];exact h
def P9(sb:Nat)(src:ByteArray)(n L:Nat)(w:World)(r:pA)(e:Ending)(w':World):Prop:=
 Fr sb w w'/\((r.ok=true/\e=.returned (oE ⟨r.sort,r.text,L⟩)/\SC sb src (n+r.size) L w')\/(r.ok=false/\e=cX 3 L))
def mD{sb b m L:Nat}{a:ByteArray}{w wc:World}(f:Fr sb w wc)(g:SC sb a m L wc)(c:w.heap.size<=b)(h:b≠sb)(e v1 v2 d:Value):
 Fr sb w ((((wc.setCell ⟨b,0,none⟩ e).setCell ⟨b,1,none⟩ v1).setCell ⟨b,2,none⟩ v2).setCell ⟨b,3,none⟩ d)/\SC sb a m L ((((wc.setCell ⟨b,0,none⟩ e).setCell ⟨b,1,none⟩ v1).setCell ⟨b,2,none⟩ v2).setCell ⟨b,3,none⟩ d):=by
 refine⟨(((f.setCell (as_ c) _).setCell (as_ c) _).setCell (as_ c) _).setCell (as_ c) _,?_⟩;unfold SC;rw[ax_ _ _ _ _ (by show sb≠b;omega),ax_ _ _ _ _ (by show sb≠b;omega),ax_ _ _ _ _ (by show sb≠b;omega),ax_ _ _ _ _ (by show sb≠b;omega)]
 exact g
def rR(a:ByteArray)(n:Nat):(a.extract n a.size).size=a.size-n:=by simp
def XX(sb:Nat)(a:ByteArray)(n L:Nat)(w:World)(h:SC sb a n L w)(hs:a.size<=2000000000)(hn:n<=a.size):
 Calls prog 251 #[.pointer (some ⟨sb,0,none⟩)] w (P9 sb a n L w (gH (a.data.toList.drop n) true)):=by
 obtain⟨f,r⟩:∃f,f=bL (eC true) (a.data.toList.drop n):=⟨_,rfl⟩
 have aa:f<=a.size-n:=by
  have:=kK (eC true) (a.data.toList.drop n);rw[r];simpa using this
 have I:=(SC.cells h).1;have u:w.heap.size≠sb:=by omega
 have Y:Hid ((w.alloc (.cells #[.int .i64 0,.string ⟨#[]⟩,.int .i64 0,.int .i64 0] 206)).heap[w.heap.size]?=some (.cells #[.int .i64 0,.string ⟨#[]⟩,.int .i64 0,.int .i64 0] 206 (0,0))):=aM _ _ rfl _;have F:SC sb a n L (w.alloc (.cells #[.int .i64 0,.string ⟨#[]⟩,.int .i64 0,.int .i64 0] 206)):=by unfold SC;rw[aA_ _ _ _ I];exact h
 obtain⟨K,Z,Q,T,M,X⟩:=F.cells;have G:Hid ((w.alloc (.cells #[.int .i64 0,.string ⟨#[]⟩,.int .i64 0,.int .i64 0] 206)).drew.heap[w.heap.size]?=some (.cells #[.int .i64 0,.string ⟨#[]⟩,.int .i64 0,.int .i64 0] 206 (0,0))):=Y.out;have y:=aB (fun w=>uS (eC true) 297 (fun _ _=>rfl) YN (a.extract n a.size) w (by rw[rR];omega))
 rw[mX,<-r] at y;have t:=aB (oA sb a n L f (w.alloc (.cells #[.int .i64 0,.string ⟨#[]⟩,.int .i64 0,.int .i64 0] 206)).drew F hs (by omega))
 have s:=aB (PE ((a.data.toList.drop n).take f));obtain⟨k,p⟩:∃k,k=(a.data.toList.drop n).take f:=⟨_,rfl⟩;rw[<-p] at t s;have P:(bs k).size=f:=by rw[gA,p,bc_];simp;omega
 have V:Hid (gH (a.data.toList.drop n) true={ sort:=if iO.contains k then 107 else 110,text:=k,size:=f,ok:=decide (f<=16) }):=by
  show _=_
  unfold gH;rw[<-r,<-p];rfl
 rw[V.out];have H1:=aB F;have H:Hid (Fr sb w (w.alloc (.cells #[.int .i64 0,.string ⟨#[]⟩,.int .i64 0,.int .i64 0] 206))):=(Fr.refl _ _).alloc _;clear h F r p V;obtain⟨C,z⟩:∃C,C=iO.contains k:=⟨_,rfl⟩;rw[<-z] at s ⊢
 clear z;obtain⟨E,o⟩:∃E,E=(if C then 107 else 110):=⟨_,rfl⟩
 rw[show (if C=true then 107 else 110)=E from o.symm]
 have D:=aB o;clear o;obtain⟨S,d⟩:∃S:pA,S={ sort:=E,text:=k,size:=f,ok:=decide (f<=16) }:=⟨_,rfl⟩;rw[<-d];have q:=aB d;clear d;go_enter func251,ntmps251;go_wp2_with fail;go_cut [3] (fun v wc=>v=.string (bs k)/\SC sb a (n+f) L wc/\Fr sb w wc/\wc.heap[w.heap.size]?=some (.cells #[.int .i64 0,.string ⟨#[]⟩,.int .i64 0,.int .i64 0] 206 (0,0)))
 case first=>
  go_region_law (first|(go_simp;go_at_call 248;refine(y.out _).mono ?_;rintro e w1 ⟨rfl,B⟩;obtain rfl:=B.symm)|(go_simp;go_at_call 296;refine t.out.mono ?_;rintro e w2 ⟨rfl,g,j⟩;have l:=aB g;have m:=aB (H.out.drew.trans j);have A:=aB (j.keepS G.out u);clear g j))
  all_goals
   go_wp2_with fail;go_meet
   case rel=>exact⟨rfl,l.out,m.out,A.out⟩
 case rest=>
  obtain⟨rfl,g,j,b⟩:=hcut;clear Z Q T M X K;obtain⟨K,Z,Q,T,M,X⟩:=g.cells;have l:=aB g;have m:=aB j;have A:=aB b;have W:=aA b (i:=0) rfl;have O:=aA b (i:=1) rfl;have N:=aA b (i:=2) rfl;have U:=aA b (i:=3) rfl;have y0:=aE (i:=0) b;have y1:=aE (i:=1) b;have y2:=aE (i:=2) b;have y3:=aE (i:=3) b;have ab:=aD b;clear g j b t y Y;by_cases x:f<=16
  ·cases C
   all_goals
    have o:=D.out;clear D;subst o;have d:=q.out;clear q;subst d;go_wp2_with fail;refine(s.out _).mono ?_;rintro e w3 ⟨rfl,B⟩;obtain rfl:=B.symm;go_wp2_with fail
    first
     |(refine bodyPost_ret (v:=.agg #[.int .i64 1,.string (bs k),.int .i64 0,.int .i64 L]) (by simp[results,results251,go_sem,W,O,N,U]) rfl ?_
       have c:=mD m.out l.out (au_ _) u (.int .i64 1) (.string (bs k)) (.int .i64 0) (.int .i64 L);exact⟨c.1,av_ ⟨by first|rfl|exact decide_eq_true x,rfl,c.2⟩⟩)
     |(refine bodyPost_ret (v:=.agg #[.int .i64 0,.string (bs k),.int .i64 0,.int .i64 L]) (by simp[results,results251,go_sem,W,O,N,U]) rfl ?_
       have c:=mD m.out l.out (au_ _) u (.int .i64 0) (.string (bs k)) (.int .i64 0) (.int .i64 L);exact⟨c.1,av_ ⟨by first|rfl|exact decide_eq_true x,rfl,c.2⟩⟩)
  ·have d:=q.out;clear q;subst d;have J:=aB (rQ sb a (n+f) L wc l.out);go_wp2_with fail;refine J.out.mono ?_;rintro e w3 ⟨rfl,B⟩;obtain rfl:=B.symm;go_wp2_with fail;exact⟨rfl,m.out,as_ ⟨by first|rfl|exact decide_eq_false x,rfl⟩⟩
end Go.Proofs.YtblbkfdhjfppkaaGreatDoor
