/- Contracts of the program: names: each sort of nodes. -/
import Derived.Test.YtblbkfdhjfppkaaGreatDoorP09
import Derived.Test.YtblbkfdhjfppkaaGreatDoorP04
set_option linter.defProp false
set_option maxRecDepth 100000
set_option maxHeartbeats 4000000
namespace Go.Proofs.YtblbkfdhjfppkaaGreatDoor
open Hs
open _root_.Go.Proofs.Tryz(prog)
open Go.RowKit
def PN.parts{F:Nat->Prop}{w:World}{v:Value}{a:aC}(h:PN F w v a):∃T c b,v=.iface T (.agg c)/\Shape T c a b/\∀p∈b,p.ok F w:=by
 obtain⟨d,h⟩:=h;cases d with
 |zero=>exact h.elim
 |succ d=>
  obtain⟨T,c,b,e,f,i⟩:=h;exact⟨T,c,b,e,f,fun p g=>(i p g).mono (fun _ _ h=>⟨d,h⟩) (fun _ h=>h)⟩
def Prt.ok.one'{F:Nat->Prop}{w:World}{v:Value}{a:aC}(h:Prt.ok F w ⟨v,[a],true⟩):PN F w v a:=by
 rcases h with ⟨_,b,c,d⟩|⟨c,_⟩
 ·cases c;exact d
 ·cases c
def Prt.ok.many{F:Nat->Prop}{w:World}{v:Value}{l:List aC}(h:Prt.ok F w ⟨v,l,false⟩):PKid F w v l:=by
 rcases h with ⟨a,_⟩|⟨_,b⟩
 ·cases a
 ·exact b
structure Loc(cb:Nat)(w0:World)(b:Nat)(o:Obj)(W:World):Prop where
 fb:FB cb w0 W
 blk:W.heap[b]?=some o
 row:kW cb W≠some b
 ne:b≠cb
def Loc.new{cb lo:Nat}{fs:List aC}{d:Value}{w:World}{seen:List (List UInt8)}(h:CK cb lo fs d w seen)(o:Obj):Loc cb w w.heap.size o (w.alloc o)/\CK cb lo fs d (w.alloc o) seen:=by
 have a:=h.lt;have b:Below w.heap.size w (w.alloc o):=(ay_ _ _).alloc (au_ _) _;refine⟨⟨FB.of_below b a,aM _ _ rfl _,fun e=>?_,by omega⟩,h.grow b⟩
 obtain⟨g,c,f⟩:=h.blk;rw[oD (b.block cb a),mS c] at e;have:=cK f _ e;omega
def Loc.step{cb b:Nat}{o:Obj}{c W d:World}(h:Loc cb c b o W)(a:FB cb W d):Loc cb c b o d:=
 ⟨h.fb.trans a,(a.blk b (aD h.blk) h.ne h.row).trans h.blk,fun e=>by
   rcases a.row _ e with e|e
   ·exact h.row e
   ·have:=aD h.blk;omega,h.ne⟩
def sF(cb lo:Nat)(fs:List aC)(fv:Value)(d:Nat):Prop:=
 ∀(v:Value) (b:aC) (seen:List (List UInt8)) (w:World),CK cb lo fs fv w seen->b.op=[98,108,111,99,107]->PKid (Btw lo cb) w v b.kids->eY d b->seen.length+bW d b<=90000->
  Calls prog 190 #[.pointer (some ⟨cb,0,none⟩),v] w (cY cb lo fs fv w (aO fs false d b ⟨seen,0,0⟩))
def vA{d:Nat}{l:List aC}(h:∀k∈l,eY d k):l.length<=(l.map (bW d)).sum:=by
 cases d with
 |zero=>
  cases l with
  |nil=>simp
  |cons x l=>exact(h x (aS_ ..)).elim
 |succ d=>exact oS d l
def RK{cb lo:Nat}{fs:List aC}{e:Value}{d:Nat}(i:mI cb lo fs e d):sF cb lo fs e (d+1):=by
 intro v b a w h c j g f;rw[bW] at f
 have k:aO fs false (d+1) b ⟨a,0,0⟩={ foldL fs d b.kids ⟨a,0,0⟩ with seen:=(foldL fs d b.kids ⟨a,0,0⟩).seen.take a.length }:=by
  rw[aO,if_neg (by rw[c];decide)]
  simp only[cD,c];rfl
 have l:=vA g;rw[k];exact yG cb lo fs e d i v b.kids a w h j g (by omega) (by omega)
def ZG{cb lo:Nat}{fs:List aC}{a:Value}(d:Nat)(b:mI cb lo fs a d)(seen:List (List UInt8))(w:World)(h:CK cb lo fs a w seen)(f:seen.length<=90000):
 Calls prog 190 #[.pointer (some ⟨cb,0,none⟩),.slice none 0 0] w (cY cb lo fs a w ⟨seen,0,0⟩):=by
 have:=yG cb lo fs a d b (.slice none 0 0) [] seen w h (av_ ⟨rfl,rfl⟩) (fun k c=>by cases c) (by simpa using f) (by simp)
 have e:({ foldL fs d [] ⟨seen,0,0⟩ with seen:=(foldL fs d [] ⟨seen,0,0⟩).seen.take seen.length }:aZ)=⟨seen,0,0⟩:=by
  show (⟨seen.take seen.length,0,0⟩:aZ)=_
  rw[List.take_length]
 rw[e] at this;exact this
def kZ{a:aZ}{s t:List (List UInt8)}{m n k:Nat}(h:Adds a ⟨t,0,0⟩ m)(c:a.seen=s)(e:s.length+(m+k)<=n):t.length+k<=n:=by
 obtain⟨x,d,f⟩:=h;have b:t=s++x:=by rw[<-c];exact d
 rw[b,aw_];omega
def AK(s:aZ)(l:Nat)(x:List UInt8):aZ:=if s.seen.contains x then s else s.found l 6
def XO(s:aZ)(l:Nat)(x:List UInt8):Adds s (AK s l x) 0:=Adds.of_eq (by unfold AK;split<;>first|rfl|exact nH _ _ _)
def G5(cb lo:Nat)(fs:List aC)(a:Value)(w:World)(seen:List (List UInt8))(h:CK cb lo fs a w seen)(b:seen.length<=100000)(l:Nat)(x:List UInt8):
 Calls prog 230 #[.pointer (some ⟨cb,0,none⟩),.agg #[.int .i64 l,.string (bs x)]] w (cY cb lo fs a w (AK ⟨seen,0,0⟩ l x)):=S2 cb lo fs a w seen h b l x
def IG(cb lo:Nat)(fs:List aC)(a:Value)(seen:List (List UInt8))(w:World)(h:CK cb lo fs a w seen)(l k:Nat):
 Calls prog 167 #[.pointer (some ⟨cb,0,none⟩),.iface 397 (.agg #[.int .i64 l,.int .i64 k])] w (cY cb lo fs a w ⟨seen,0,0⟩):=by
 have H:=aB h;have n:=uN;have i:=vY;have g:=JN;have f:=yW;have d:=vW;have o:=yY;have p:=AY;have j:=tJ;have m:=AX;have e:=yZ;have c:=yX;have b:=vX;clear h;go_enter Tryz.func167,Tryz.ntmps167;go_wp2_with fail;go_end0;exact cY.done (FB.refl _) rfl H.out
def ZK(cb lo:Nat)(fs:List aC)(a:Value)(seen:List (List UInt8))(w:World)(h:CK cb lo fs a w seen)(l:Nat)(x:ByteArray):
 Calls prog 167 #[.pointer (some ⟨cb,0,none⟩),.iface 398 (.agg #[.int .i64 l,.string x])] w (cY cb lo fs a w ⟨seen,0,0⟩):=by
 have H:=aB h;have m:=uL;have i:=vU;have g:=JM;have f:=yQ;have d:=vS;have n:=yS;have o:=AU;have j:=tI;have k:=AT;have e:=yT;have c:=yR;have b:=vT;clear h;go_enter Tryz.func167,Tryz.ntmps167;go_wp2_with fail;go_end0;exact cY.done (FB.refl _) rfl H.out
def V6(cb lo:Nat)(fs:List aC)(a:Value)(seen:List (List UInt8))(w:World)(h:CK cb lo fs a w seen)(l:Nat)(x:Bool):
 Calls prog 167 #[.pointer (some ⟨cb,0,none⟩),.iface 400 (.agg #[.int .i64 l,.bool x])] w (cY cb lo fs a w ⟨seen,0,0⟩):=by
 have H:=aB h;have m:=zE;have i:=BI;have g:=SG;have f:=ET;have d:=BG;have n:=EV;have o:=JS;have j:=wB;have k:=JR;have e:=EW;have c:=EU;have b:=BH;clear h;go_enter Tryz.func167,Tryz.ntmps167;go_wp2_with fail;go_end0;exact cY.done (FB.refl _) rfl H.out
def V0(cb lo:Nat)(fs:List aC)(t:Value)(d:Nat)(A:mI cb lo fs t d)(seen:List (List UInt8))(w:World)(h:CK cb lo fs t w seen)(l:Nat)(u1:Value)(g:List aC)(y:PKid (Btw lo cb) w u1 g)(j:∀k∈g,eY d k)(B:seen.length+((g.map (bW d)).sum+0)<=90000):
 Calls prog 167 #[.pointer (some ⟨cb,0,none⟩),.iface 346 (.agg #[.int .i64 l,u1])] w (cY cb lo fs t w (foldL fs d g ⟨seen,0,0⟩)):=by
 obtain⟨v,q,rfl⟩:=y.slice;have K:=zA;have G:=BA;have F:=SE;have E:=EN;have D:=AZ;have L:=EO;have M:=JP;have H:=vZ;have I:=JO;obtain⟨p,a⟩:=Loc.new h (.cells #[.int .i64 l,(.slice v g.length q)] 346);have m:=aB p;have s:=aB a;clear h p a;go_enter Tryz.func167,Tryz.ntmps167;have c:=aB (A (.slice v g.length q) g seen (w.alloc (.cells #[.int .i64 l,(.slice v g.length q)] 346)) s.out (y.below m.out.fb.bel) j (by omega) (by have:=vA j;omega))
 obtain⟨o,b⟩:∃o,o=foldL fs d g (⟨seen,0,0⟩:aZ):=⟨_,rfl⟩;have n:=aB b.symm;first|rw[<-b] at c|rw[show _=o from b.symm] at c
 clear b;go_wp2_with fail;refine c.out.mono ?_;rintro e J ⟨f,⟨N,r,rfl,i⟩|⟨a,rfl⟩⟩
 rotate_left
 ·have C:=aB (m.out.fb.trans f);have z:=aB a;clear f a;go_wp2_with fail;exact⟨rfl,cY.fault (c1:=o) C.out z.out (by rw[n.out];exact Stk.refl o)⟩
 have x:=aB (m.out.step f);have u:=aB i;subst r;clear f i c;go_wp2_with fail;go_end0;exact cY.done x.out.fb (by rw[n.out]) u.out
def M1(cb lo:Nat)(fs:List aC)(q:Value)(d:Nat)(A:jQ cb lo fs q d)(seen:List (List UInt8))(w:World)(h:CK cb lo fs q w seen)(l:Nat)(x:ByteArray)(v1:Value)(k:aC)(y:PN (Btw lo cb) w v1 k)(s:eY d k)(C:seen.length+(bW d k+0)<=90000):
 Calls prog 167 #[.pointer (some ⟨cb,0,none⟩),.iface 350 (.agg #[.int .i64 l,.string x,v1])] w (cY cb lo fs q w (aO fs false d k ⟨seen,0,0⟩)):=by
 obtain⟨t,i,rfl⟩:=y.form;have M:=vR;have I:=yP;have H:=MY;have G:=AP;have E:=yO;have N:=AR;have O:=EM;have J:=uK;have K:=EL;have F:=AS;have B:=AQ;obtain⟨o,a⟩:=Loc.new h (.cells #[.int .i64 l,.string x,(.iface t (.agg i))] 350);have j:=aB o;have v:=aB a;clear h o a;go_enter Tryz.func167,Tryz.ntmps167;have c:=aB (A (.iface t (.agg i)) k seen (w.alloc (.cells #[.int .i64 l,.string x,(.iface t (.agg i))] 350)) v.out (y.below j.out.fb.bel) s (by omega))
 obtain⟨n,b⟩:∃n,n=aO fs false d k (⟨seen,0,0⟩:aZ):=⟨_,rfl⟩;have m:=aB b.symm;first|rw[<-b] at c|rw[show _=n from b.symm] at c
 clear b;go_wp2_with fail;refine c.out.mono ?_;rintro e L ⟨f,⟨P,p,rfl,g⟩|⟨a,rfl⟩⟩
 rotate_left
 ·have D:=aB (j.out.fb.trans f);have z:=aB a;clear f a;go_wp2_with fail;exact⟨rfl,cY.fault (c1:=n) D.out z.out (by rw[m.out];exact Stk.refl n)⟩
 have u:=aB (j.out.step f);have r:=aB g;subst p;clear f g c;go_wp2_with fail;go_end0;exact cY.done u.out.fb (by rw[m.out]) r.out
def ZL(cb lo:Nat)(fs:List aC)(q:Value)(d:Nat)(z:jQ cb lo fs q d)(seen:List (List UInt8))(w:World)(h:CK cb lo fs q w seen)(l:Nat)(v1:Value)(k:aC)(x:PN (Btw lo cb) w v1 k)(t:eY d k)(A:seen.length+(bW d k+0)<=90000):
 Calls prog 167 #[.pointer (some ⟨cb,0,none⟩),.iface 338 (.agg #[.int .i64 l,v1])] w (cY cb lo fs q w (aO fs false d k ⟨seen,0,0⟩)):=by
 obtain⟨u,i,rfl⟩:=x.form;have H:=nI;have F:=oC;have E:=uM;have D:=pH;have C:=oB;obtain⟨o,a⟩:=Loc.new h (.cells #[.int .i64 l,(.iface u (.agg i))] 338);have j:=aB o;have r:=aB a;clear h o a;go_enter Tryz.func167,Tryz.ntmps167;have c:=aB (z (.iface u (.agg i)) k seen (w.alloc (.cells #[.int .i64 l,(.iface u (.agg i))] 338)) r.out (x.below j.out.fb.bel) t (by omega))
 obtain⟨n,b⟩:∃n,n=aO fs false d k (⟨seen,0,0⟩:aZ):=⟨_,rfl⟩;have m:=aB b.symm;first|rw[<-b] at c|rw[show _=n from b.symm] at c
 clear b;go_wp2_with fail;refine c.out.mono ?_;rintro e G ⟨f,⟨I,p,rfl,g⟩|⟨a,rfl⟩⟩
 rotate_left
 ·have B:=aB (j.out.fb.trans f);have y:=aB a;clear f a;go_wp2_with fail;exact⟨rfl,cY.fault (c1:=n) B.out y.out (by rw[m.out];exact Stk.refl n)⟩
 have v:=aB (j.out.step f);have s:=aB g;subst p;clear f g c;go_wp2_with fail;go_end0;exact cY.done v.out.fb (by rw[m.out]) s.out
def M2(cb lo:Nat)(fs:List aC)(q:Value)(d:Nat)(z:jQ cb lo fs q d)(seen:List (List UInt8))(w:World)(h:CK cb lo fs q w seen)(l:Nat)(v1:Value)(k:aC)(x:PN (Btw lo cb) w v1 k)(t:eY d k)(A:seen.length+(bW d k+0)<=90000):
 Calls prog 167 #[.pointer (some ⟨cb,0,none⟩),.iface 339 (.agg #[.int .i64 l,v1])] w (cY cb lo fs q w (aO fs false d k ⟨seen,0,0⟩)):=by
 obtain⟨u,i,rfl⟩:=x.form;have H:=vV;have F:=yV;have E:=MZ;have D:=AV;have C:=yU;have I:=AW;obtain⟨o,a⟩:=Loc.new h (.cells #[.int .i64 l,(.iface u (.agg i))] 339);have j:=aB o;have r:=aB a;clear h o a;go_enter Tryz.func167,Tryz.ntmps167;have c:=aB (z (.iface u (.agg i)) k seen (w.alloc (.cells #[.int .i64 l,(.iface u (.agg i))] 339)) r.out (x.below j.out.fb.bel) t (by omega))
 obtain⟨n,b⟩:∃n,n=aO fs false d k (⟨seen,0,0⟩:aZ):=⟨_,rfl⟩;have m:=aB b.symm;first|rw[<-b] at c|rw[show _=n from b.symm] at c
 clear b;go_wp2_with fail;refine c.out.mono ?_;rintro e G ⟨f,⟨J,p,rfl,g⟩|⟨a,rfl⟩⟩
 rotate_left
 ·have B:=aB (j.out.fb.trans f);have y:=aB a;clear f a;go_wp2_with fail;exact⟨rfl,cY.fault (c1:=n) B.out y.out (by rw[m.out];exact Stk.refl n)⟩
 have v:=aB (j.out.step f);have s:=aB g;subst p;clear f g c;go_wp2_with fail;go_end0;exact cY.done v.out.fb (by rw[m.out]) s.out
def M3(cb lo:Nat)(fs:List aC)(K:Value)(d:Nat)(V:jQ cb lo fs K d)(seen:List (List UInt8))(w:World)(h:CK cb lo fs K w seen)(l:Nat)(v1:Value)(t:aC)(X:PN (Btw lo cb) w v1 t)(N:eY d t)(v2:Value)(o:aC)(W:PN (Btw lo cb) w v2 o)(F:eY d o)(aa:seen.length+(bW d t+(bW d o+0))<=90000):
 Calls prog 167 #[.pointer (some ⟨cb,0,none⟩),.iface 348 (.agg #[.int .i64 l,v1,v2])] w (cY cb lo fs K w (aO fs false d o (aO fs false d t ⟨seen,0,0⟩))):=by
 obtain⟨O,q,rfl⟩:=X.form;obtain⟨G,v,rfl⟩:=W.form;have q0:=wA;have q1:=zC;have q2:=NA;have q3:=BB;have q4:=zB;have q5:=BC;have q6:=EQ;have q7:=uO;have q8:=EP;have q9:=BD;obtain⟨D,c⟩:=Loc.new h (.cells #[.int .i64 l,(.iface O (.agg q)),(.iface G (.agg v))] 348);have r:=aB D;have P:=aB c;clear h D c;go_enter Tryz.func167,Tryz.ntmps167;have f:=aB (V (.iface O (.agg q)) t seen (w.alloc (.cells #[.int .i64 l,(.iface O (.agg q)),(.iface G (.agg v))] 348)) P.out (X.below r.out.fb.bel) N (by omega))
 have z:=aB (fN fs false d t ⟨seen,0,0⟩);obtain⟨B,b⟩:∃B,B=aO fs false d t (⟨seen,0,0⟩:aZ):=⟨_,rfl⟩;have u:=aB b.symm;rw[<-b] at z;first|rw[<-b] at f|rw[show _=B from b.symm] at f
 clear b;go_wp2_with fail;refine f.out.mono ?_;rintro e Z ⟨j,⟨T,J,rfl,n⟩|⟨c,rfl⟩⟩
 rotate_left
 ·have U:=aB (r.out.fb.trans j);have H:=aB c;clear j c;go_wp2_with fail;exact⟨rfl,cY.fault (c1:=B) U.out H.out (by rw[u.out];exact(Stk.walk fs false d o B))⟩
 have a:=aB (r.out.step j);have L:=aB n;subst J;have Y:T.length+(bW d o+0)<=90000:=kZ z.out rfl (by omega)
 clear j n f;have m:=aB (V (.iface G (.agg v)) o T Z L.out (W.below a.out.fb.bel) F (by omega))
 obtain⟨s,k⟩:∃s,s=aO fs false d o (⟨T,0,0⟩:aZ):=⟨_,rfl⟩;have y:=aB k.symm;first|rw[<-k] at m|rw[show _=s from k.symm] at m
 clear k;have C:=aA a.out.blk (i:=0) rfl;have E:=aA a.out.blk (i:=1) rfl;have A:=aA a.out.blk (i:=2) rfl;have I:=aD a.out.blk;go_wp2_with fail;refine m.out.mono ?_;rintro e w2 ⟨g,⟨s2,Q,rfl,p⟩|⟨x,rfl⟩⟩
 rotate_left
 ·have U:=aB (a.out.fb.trans g);have H:=aB x;clear g x;go_wp2_with fail;exact⟨rfl,cY.fault (c1:=s) U.out H.out (by rw[u.out,y.out];exact Stk.refl s)⟩
 have M:=aB (a.out.step g);have S:=aB p;subst Q;clear g p m C E A I;go_wp2_with fail;go_end0;exact cY.done M.out.fb (by rw[u.out,y.out]) S.out
def ZM(cb lo:Nat)(fs:List aC)(M:Value)(d:Nat)(X:jQ cb lo fs M d)(seen:List (List UInt8))(w:World)(h:CK cb lo fs M w seen)(l:Nat)(x:ByteArray)(v1:Value)(t:aC)(Z:PN (Btw lo cb) w v1 t)(P:eY d t)(v2:Value)(o:aC)(Y:PN (Btw lo cb) w v2 o)(H:eY d o)(ad:seen.length+(bW d t+(bW d o+0))<=90000):
 Calls prog 167 #[.pointer (some ⟨cb,0,none⟩),.iface 352 (.agg #[.int .i64 l,.string x,v1,v2])] w (cY cb lo fs M w (aO fs false d o (aO fs false d t ⟨seen,0,0⟩))):=by
 obtain⟨Q,q,rfl⟩:=Z.form;obtain⟨I,v,rfl⟩:=Y.form;have q0:=uQ;have q1:=wE;have q2:=JT;have q3:=zF;have q4:=wC;have q5:=zH;have q6:=BK;have q7:=tL;have q8:=BJ;have q9:=zI;have ac:=zG;have ab:=wD;obtain⟨E,c⟩:=Loc.new h (.cells #[.int .i64 l,.string x,(.iface Q (.agg q)),(.iface I (.agg v))] 352);have r:=aB E;have S:=aB c;clear h E c;go_enter Tryz.func167,Tryz.ntmps167;have f:=aB (X (.iface Q (.agg q)) t seen (w.alloc (.cells #[.int .i64 l,.string x,(.iface Q (.agg q)),(.iface I (.agg v))] 352)) S.out (Z.below r.out.fb.bel) P (by omega))
 have A:=aB (fN fs false d t ⟨seen,0,0⟩);obtain⟨C,b⟩:∃C,C=aO fs false d t (⟨seen,0,0⟩:aZ):=⟨_,rfl⟩;have u:=aB b.symm;rw[<-b] at A;first|rw[<-b] at f|rw[show _=C from b.symm] at f
 clear b;go_wp2_with fail;refine f.out.mono ?_;rintro e w1 ⟨j,⟨V,L,rfl,n⟩|⟨c,rfl⟩⟩
 rotate_left
 ·have W:=aB (r.out.fb.trans j);have J:=aB c;clear j c;go_wp2_with fail;exact⟨rfl,cY.fault (c1:=C) W.out J.out (by rw[u.out];exact(Stk.walk fs false d o C))⟩
 have a:=aB (r.out.step j);have N:=aB n;subst L;have aa:V.length+(bW d o+0)<=90000:=kZ A.out rfl (by omega)
 clear j n f;have m:=aB (X (.iface I (.agg v)) o V w1 N.out (Y.below a.out.fb.bel) H (by omega))
 obtain⟨s,k⟩:∃s,s=aO fs false d o (⟨V,0,0⟩:aZ):=⟨_,rfl⟩;have z:=aB k.symm;first|rw[<-k] at m|rw[show _=s from k.symm] at m
 clear k;have D:=aA a.out.blk (i:=0) rfl;have F:=aA a.out.blk (i:=1) rfl;have B:=aA a.out.blk (i:=2) rfl;have G:=aA a.out.blk (i:=3) rfl;have K:=aD a.out.blk;go_wp2_with fail;refine m.out.mono ?_;rintro e w2 ⟨g,⟨s2,T,rfl,p⟩|⟨y,rfl⟩⟩
 rotate_left
 ·have W:=aB (a.out.fb.trans g);have J:=aB y;clear g y;go_wp2_with fail;exact⟨rfl,cY.fault (c1:=s) W.out J.out (by rw[u.out,z.out];exact Stk.refl s)⟩
 have O:=aB (a.out.step g);have U:=aB p;subst T;clear g p m D F B G K;go_wp2_with fail;go_end0;exact cY.done O.out.fb (by rw[u.out,z.out]) U.out
def M0(cb lo:Nat)(fs:List aC)(G:Value)(d:Nat)(IH:jQ cb lo fs G d)(S:sF cb lo fs G d)(seen:List (List UInt8))(w:World)(h:CK cb lo fs G w seen)(l:Nat)(v1:Value)(t:aC)(Y:PN (Btw lo cb) w v1 t)(N:eY d t)(u2:Value)(b:aC)(D:b.op=[98,108,111,99,107])(X:PKid (Btw lo cb) w u2 b.kids)(y:eY d b)(aa:seen.length+(bW d t+(bW d b+0))<=90000):
 Calls prog 167 #[.pointer (some ⟨cb,0,none⟩),.iface 336 (.agg #[.int .i64 l,v1,u2])] w (cY cb lo fs G w (aO fs false d b (aO fs false d t ⟨seen,0,0⟩))):=by
 obtain⟨O,q,rfl⟩:=Y.form;obtain⟨K,T,rfl⟩:=X.slice;have q0:=vP;have q1:=yN;have q2:=MX;have q3:=AN;obtain⟨E,f⟩:=Loc.new h (.cells #[.int .i64 l,(.iface O (.agg q)),(.slice K b.kids.length T)] 336);have r:=aB E;have P:=aB f;clear h E f;go_enter Tryz.func167,Tryz.ntmps167;have g:=aB (IH (.iface O (.agg q)) t seen (w.alloc (.cells #[.int .i64 l,(.iface O (.agg q)),(.slice K b.kids.length T)] 336)) P.out (Y.below r.out.fb.bel) N (by omega))
 have z:=aB (fN fs false d t ⟨seen,0,0⟩);obtain⟨B,c⟩:∃B,B=aO fs false d t (⟨seen,0,0⟩:aZ):=⟨_,rfl⟩;have u:=aB c.symm;rw[<-c] at z;first|rw[<-c] at g|rw[show _=B from c.symm] at g
 clear c;go_wp2_with fail;refine g.out.mono ?_;rintro e w1 ⟨k,⟨W,J,rfl,o⟩|⟨f,rfl⟩⟩
 rotate_left
 ·have V:=aB (r.out.fb.trans k);have H:=aB f;clear k f;go_wp2_with fail;exact⟨rfl,cY.fault (c1:=B) V.out H.out (by rw[u.out];exact(Stk.walk fs false d b B))⟩
 have a:=aB (r.out.step k);have L:=aB o;subst J;have Z:W.length+(bW d b+0)<=90000:=kZ z.out rfl (by omega)
 clear k o g;have n:=aB (S (.slice K b.kids.length T) b W w1 L.out D (X.below a.out.fb.bel) y (by omega))
 obtain⟨s,m⟩:∃s,s=aO fs false d b (⟨W,0,0⟩:aZ):=⟨_,rfl⟩;have x:=aB m.symm;first|rw[<-m] at n|rw[show _=s from m.symm] at n
 clear m;have C:=aA a.out.blk (i:=0) rfl;have F:=aA a.out.blk (i:=1) rfl;have A:=aA a.out.blk (i:=2) rfl;have I:=aD a.out.blk;go_wp2_with fail;refine n.out.mono ?_;rintro e w2 ⟨j,⟨s2,Q,rfl,p⟩|⟨v,rfl⟩⟩
 rotate_left
 ·have V:=aB (a.out.fb.trans j);have H:=aB v;clear j v;go_wp2_with fail;exact⟨rfl,cY.fault (c1:=s) V.out H.out (by rw[u.out,x.out];exact Stk.refl s)⟩
 have M:=aB (a.out.step j);have U:=aB p;subst Q;clear j p n C F A I;go_wp2_with fail;go_end0;exact cY.done M.out.fb (by rw[u.out,x.out]) U.out
def z7(cb lo:Nat)(fs:List aC)(fv:Value)(d:Nat)(IH:jQ cb lo fs fv d)(Q:sF cb lo fs fv d)(seen:List (List UInt8))(w:World)(h:CK cb lo fs fv w seen)(l:Nat)(v1:Value)(B:aC)(h1:PN (Btw lo cb) w v1 B)(af:eY d B)(u2:Value)(f:aC)(X:f.op=[98,108,111,99,107])(g2:PKid (Btw lo cb) w u2 f.kids)(N:eY d f)(u3:Value)(c:aC)(Y:c.op=[98,108,111,99,107])(g3:PKid (Btw lo cb) w u3 c.kids)(D:eY d c)(an:seen.length+(bW d B+(bW d f+(bW d c+0)))<=90000):
 Calls prog 167 #[.pointer (some ⟨cb,0,none⟩),.iface 334 (.agg #[.int .i64 l,v1,u2,u3])] w (cY cb lo fs fv w (aO fs false d c (aO fs false d f (aO fs false d B ⟨seen,0,0⟩)))):=by
 obtain⟨T1,C,rfl⟩:=h1.form;obtain⟨x2,y2,rfl⟩:=g2.slice;obtain⟨x3,y3,rfl⟩:=g3.slice;have q0:=sM;have q1:=uP;have q2:=NB;obtain⟨I,j⟩:=Loc.new h (.cells #[.int .i64 l,(.iface T1 (.agg C)),(.slice x2 f.kids.length y2),(.slice x3 c.kids.length y3)] 334);have z:=aB I;have ab:=aB j;clear h I j;go_enter Tryz.func167,Tryz.ntmps167;have o:=aB (IH (.iface T1 (.agg C)) B seen (w.alloc (.cells #[.int .i64 l,(.iface T1 (.agg C)),(.slice x2 f.kids.length y2),(.slice x3 c.kids.length y3)] 334)) ab.out (h1.below z.out.fb.bel) af (by omega))
 have P:=aB (fN fs false d B ⟨seen,0,0⟩);obtain⟨V,g⟩:∃V,V=aO fs false d B (⟨seen,0,0⟩:aZ):=⟨_,rfl⟩;have p:=aB g.symm;rw[<-g] at P;first|rw[<-g] at o|rw[show _=V from g.symm] at o
 clear g;go_wp2_with fail;refine o.out.mono ?_;rintro e w1 ⟨s,⟨s1,aa,rfl,y⟩|⟨j,rfl⟩⟩
 rotate_left
 ·have HB:=aB (z.out.fb.trans s);have F:=aB j;clear s j;go_wp2_with fail;exact⟨rfl,cY.fault (c1:=V) HB.out F.out (by rw[p.out];exact((Stk.walk fs false d f V)).trans (Stk.walk fs false d c _))⟩
 have b:=aB (z.out.step s);have ae:=aB y;subst aa;have al:s1.length+(bW d f+(bW d c+0))<=90000:=kZ P.out rfl (by omega)
 clear s y o;have m:=aB (Q (.slice x2 f.kids.length y2) f s1 w1 ae.out X (g2.below b.out.fb.bel) N (by omega))
 have T:=aB (fN fs false d f ⟨s1,0,0⟩);obtain⟨u,k⟩:∃u,u=aO fs false d f (⟨s1,0,0⟩:aZ):=⟨_,rfl⟩;have A:=aB k.symm;rw[<-k] at T;first|rw[<-k] at m|rw[show _=u from k.symm] at m
 clear k;have W:=aA b.out.blk (i:=0) rfl;have Z:=aA b.out.blk (i:=1) rfl;have H:=aA b.out.blk (i:=2) rfl;have O:=aA b.out.blk (i:=3) rfl;have ag:=aD b.out.blk;go_wp2_with fail;refine m.out.mono ?_;rintro e w2 ⟨r,⟨s2,ai,rfl,v⟩|⟨E,rfl⟩⟩
 rotate_left
 ·have HB:=aB (b.out.fb.trans r);have F:=aB E;clear r E;go_wp2_with fail;exact⟨rfl,cY.fault (c1:=u) HB.out F.out (by rw[p.out,A.out];exact(Stk.walk fs false d c u))⟩
 have a:=aB (b.out.step r);have ak:=aB v;subst ai;have am:s2.length+(bW d c+0)<=90000:=kZ T.out rfl (by omega)
 clear r v m W Z H O ag;have n:=aB (Q (.slice x3 c.kids.length y3) c s2 w2 ak.out Y (g3.below a.out.fb.bel) D (by omega))
 obtain⟨J,t⟩:∃J,J=aO fs false d c (⟨s2,0,0⟩:aZ):=⟨_,rfl⟩;have K:=aB t.symm;first|rw[<-t] at n|rw[show _=J from t.symm] at n
 clear t;have M:=aA a.out.blk (i:=0) rfl;have U:=aA a.out.blk (i:=1) rfl;have S:=aA a.out.blk (i:=2) rfl;have G:=aA a.out.blk (i:=3) rfl;have ad:=aD a.out.blk;go_wp2_with fail;refine n.out.mono ?_;rintro e w3 ⟨q,⟨s3,ac,rfl,x⟩|⟨L,rfl⟩⟩
 rotate_left
 ·have HB:=aB (a.out.fb.trans q);have F:=aB L;clear q L;go_wp2_with fail;exact⟨rfl,cY.fault (c1:=J) HB.out F.out (by rw[p.out,A.out,K.out];exact Stk.refl J)⟩
 have ah:=aB (a.out.step q);have aj:=aB x;subst ac;clear q x n M U S G ad;go_wp2_with fail;go_end0;exact cY.done ah.out.fb (by rw[p.out,A.out,K.out]) aj.out
def m7(cb lo:Nat)(fs:List aC)(S:Value)(d:Nat)(IH:jQ cb lo fs S d)(HN:mI cb lo fs S d)(af:sF cb lo fs S d)(seen:List (List UInt8))(w:World)(h:CK cb lo fs S w seen)(l:Nat)(v1:Value)(A:aC)(h1:PN (Btw lo cb) w v1 A)(ae:eY d A)(u2:Value)(c:aC)(V:c.op=[98,108,111,99,107])(g2:PKid (Btw lo cb) w u2 c.kids)(L:eY d c)(an:seen.length+(bW d A+(bW d c+(0+0)))<=90000):
 Calls prog 167 #[.pointer (some ⟨cb,0,none⟩),.iface 334 (.agg #[.int .i64 l,v1,u2,.slice none 0 0])] w (cY cb lo fs S w ((aO fs false d c (aO fs false d A ⟨seen,0,0⟩)))):=by
 obtain⟨T1,B,rfl⟩:=h1.form;obtain⟨x2,y2,rfl⟩:=g2.slice;have q0:=sM;have q1:=uP;have q2:=NB;obtain⟨G,g⟩:=Loc.new h (.cells #[.int .i64 l,(.iface T1 (.agg B)),(.slice x2 c.kids.length y2),.slice none 0 0] 334);have y:=aB G;have aa:=aB g;clear h G g;go_enter Tryz.func167,Tryz.ntmps167;have n:=aB (IH (.iface T1 (.agg B)) A seen (w.alloc (.cells #[.int .i64 l,(.iface T1 (.agg B)),(.slice x2 c.kids.length y2),.slice none 0 0] 334)) aa.out (h1.below y.out.fb.bel) ae (by omega))
 have N:=aB (fN fs false d A ⟨seen,0,0⟩);obtain⟨T,f⟩:∃T,T=aO fs false d A (⟨seen,0,0⟩:aZ):=⟨_,rfl⟩;have o:=aB f.symm;rw[<-f] at N;first|rw[<-f] at n|rw[show _=T from f.symm] at n
 clear f;go_wp2_with fail;refine n.out.mono ?_;rintro e w1 ⟨r,⟨Y,Z,rfl,x⟩|⟨g,rfl⟩⟩
 rotate_left
 ·have X:=aB (y.out.fb.trans r);have D:=aB g;clear r g;go_wp2_with fail;exact⟨rfl,cY.fault (c1:=T) X.out D.out (by rw[o.out];exact((Stk.walk fs false d c T)).trans (Stk.refl _))⟩
 have a:=aB (y.out.step r);have ad:=aB x;subst Z;have al:Y.length+(bW d c+(0+0))<=90000:=kZ N.out rfl (by omega)
 clear r x n;have k:=aB (af (.slice x2 c.kids.length y2) c Y w1 ad.out V (g2.below a.out.fb.bel) L (by omega))
 have P:=aB (fN fs false d c ⟨Y,0,0⟩);obtain⟨t,j⟩:∃t,t=aO fs false d c (⟨Y,0,0⟩:aZ):=⟨_,rfl⟩;have z:=aB j.symm;rw[<-j] at P;first|rw[<-j] at k|rw[show _=t from j.symm] at k
 clear j;have U:=aA a.out.blk (i:=0) rfl;have W:=aA a.out.blk (i:=1) rfl;have F:=aA a.out.blk (i:=2) rfl;have M:=aA a.out.blk (i:=3) rfl;have ag:=aD a.out.blk;go_wp2_with fail;refine k.out.mono ?_;rintro e w2 ⟨q,⟨s2,ai,rfl,u⟩|⟨C,rfl⟩⟩
 rotate_left
 ·have X:=aB (a.out.fb.trans q);have D:=aB C;clear q C;go_wp2_with fail;exact⟨rfl,cY.fault (c1:=t) X.out D.out (by rw[o.out,z.out];exact(Stk.refl t))⟩
 have b:=aB (a.out.step q);have ak:=aB u;subst ai;have am:s2.length+(0+0)<=90000:=kZ P.out rfl (by omega)
 clear q u k U W F M ag;have m:=aB (ZG d HN s2 w2 ak.out (by omega))
 obtain⟨H,s⟩:∃H,H=(⟨s2,0,0⟩:aZ):=⟨_,rfl⟩;have I:=aB s.symm;first|rw[<-s] at m|rw[show _=H from s.symm] at m
 clear s;have K:=aA b.out.blk (i:=0) rfl;have Q:=aA b.out.blk (i:=1) rfl;have O:=aA b.out.blk (i:=2) rfl;have E:=aA b.out.blk (i:=3) rfl;have ac:=aD b.out.blk;go_wp2_with fail;refine m.out.mono ?_;rintro e w3 ⟨p,⟨s3,ab,rfl,v⟩|⟨J,rfl⟩⟩
 rotate_left
 ·have X:=aB (b.out.fb.trans p);have D:=aB J;clear p J;go_wp2_with fail;exact⟨rfl,cY.fault (c1:=H) X.out D.out (by rw[o.out,z.out,I.out];exact Stk.refl H)⟩
 have ah:=aB (b.out.step p);have aj:=aB v;subst ab;clear p v m K Q O E ac;go_wp2_with fail;go_end0;exact cY.done ah.out.fb (by rw[o.out,z.out,I.out]) aj.out
def OS(cb lo:Nat)(fs:List aC)(o:Value)(seen:List (List UInt8))(w:World)(h:CK cb lo fs o w seen)(l:Nat)(x:List UInt8)(s:seen.length+(0+0)<=90000):
 Calls prog 167 #[.pointer (some ⟨cb,0,none⟩),.iface 344 (.agg #[.int .i64 l,.string (bs x)])] w (cY cb lo fs o w (AK ⟨seen,0,0⟩ l x)):=by
 have C:=sI;have z:=tH;have y:=AO;have v:=uI;have u:=tG;have D:=uJ;have E:=vQ;have A:=pW;obtain⟨k,a⟩:=Loc.new h (.cells #[.int .i64 l,.string (bs x)] 344);have g:=aB k;have n:=aB a;clear h k a;go_enter Tryz.func167,Tryz.ntmps167;have c:=aB (G5 cb lo fs o (w.alloc (.cells #[.int .i64 l,.string (bs x)] 344)) seen n.out (by omega) l x)
 obtain⟨j,b⟩:∃j,j=AK (⟨seen,0,0⟩:aZ) l x:=⟨_,rfl⟩;have i:=aB b.symm;first|rw[<-b] at c|rw[show _=j from b.symm] at c
 clear b;go_wp2_with fail;refine c.out.mono ?_;rintro e B ⟨d,⟨F,m,rfl,f⟩|⟨a,rfl⟩⟩
 rotate_left
 ·have t:=aB (g.out.fb.trans d);have r:=aB a;clear d a;go_wp2_with fail;exact⟨rfl,cY.fault (c1:=j) t.out r.out (by rw[i.out];exact Stk.refl j)⟩
 have q:=aB (g.out.step d);have p:=aB f;subst m;clear d f c;go_wp2_with fail;go_end0;exact cY.done q.out.fb (by rw[i.out]) p.out
def ZN(cb lo:Nat)(fs:List aC)(V:Value)(d:Nat)(IH:jQ cb lo fs V d)(HN:mI cb lo fs V d)(seen:List (List UInt8))(w:World)(h:CK cb lo fs V w seen)(l:Nat)(x:List UInt8)(u2:Value)(j:List aC)(g2:PKid (Btw lo cb) w u2 j)(z:∀k∈j,eY d k)(v1:Value)(m:aC)(h1:PN (Btw lo cb) w v1 m)(af:eY d m)(an:seen.length+(0+((j.map (bW d)).sum+(bW d m+0)))<=90000):
 Calls prog 167 #[.pointer (some ⟨cb,0,none⟩),.iface 332 (.agg #[.int .i64 l,.string (bs x),u2,v1])] w (cY cb lo fs V w (aO fs false d m (foldL fs d j (AK ⟨seen,0,0⟩ l x)))):=by
 obtain⟨x2,y2,rfl⟩:=g2.slice;obtain⟨T1,E,rfl⟩:=h1.form;have q0:=uR;have q1:=wF;obtain⟨J,f⟩:=Loc.new h (.cells #[.int .i64 l,.string (bs x),(.slice x2 j.length y2),(.iface T1 (.agg E))] 332);have O:=aB J;have ab:=aB f;clear h J f;go_enter Tryz.func167,Tryz.ntmps167;have p:=aB (G5 cb lo fs V (w.alloc (.cells #[.int .i64 l,.string (bs x),(.slice x2 j.length y2),(.iface T1 (.agg E))] 332)) seen ab.out (by omega) l x)
 have Q:=aB (XO ⟨seen,0,0⟩ l x);obtain⟨c0,c⟩:∃c0,c0=AK (⟨seen,0,0⟩:aZ) l x:=⟨_,rfl⟩;have q:=aB c.symm;rw[<-c] at Q;first|rw[<-c] at p|rw[show _=c0 from c.symm] at p
 clear c;go_wp2_with fail;refine p.out.mono ?_;rintro e w1 ⟨u,⟨Z,aa,rfl,C⟩|⟨f,rfl⟩⟩
 rotate_left
 ·have Y:=aB (O.out.fb.trans u);have G:=aB f;clear u f;go_wp2_with fail;exact⟨rfl,cY.fault (c1:=c0) Y.out G.out (by rw[q.out];exact((Stk.fold (fun s k=>Stk.walk fs false d k s) _ _)).trans (Stk.walk fs false d m _))⟩
 have b:=aB (O.out.step u);have ae:=aB C;subst aa;have al:Z.length+((j.map (bW d)).sum+(bW d m+0))<=90000:=kZ Q.out rfl (by omega)
 clear u C p;have n:=aB (HN (.slice x2 j.length y2) j Z w1 ae.out (g2.below b.out.fb.bel) z (by omega) (by have:=vA z;omega))
 have T:=aB (IS fs d j ⟨Z,0,0⟩);obtain⟨y,g⟩:∃y,y=foldL fs d j (⟨Z,0,0⟩:aZ):=⟨_,rfl⟩;have D:=aB g.symm;rw[<-g] at T;first|rw[<-g] at n|rw[show _=y from g.symm] at n
 clear g;have W:=aA b.out.blk (i:=0) rfl;have X:=aA b.out.blk (i:=1) rfl;have I:=aA b.out.blk (i:=2) rfl;have P:=aA b.out.blk (i:=3) rfl;have ag:=aD b.out.blk;go_wp2_with fail;refine n.out.mono ?_;rintro e w2 ⟨t,⟨s2,ai,rfl,A⟩|⟨F,rfl⟩⟩
 rotate_left
 ·have Y:=aB (b.out.fb.trans t);have G:=aB F;clear t F;go_wp2_with fail;exact⟨rfl,cY.fault (c1:=y) Y.out G.out (by rw[q.out,D.out];exact(Stk.walk fs false d m y))⟩
 have a:=aB (b.out.step t);have ak:=aB A;subst ai;have am:s2.length+(bW d m+0)<=90000:=kZ T.out rfl (by omega)
 clear t A n W X I P ag;have o:=aB (IH (.iface T1 (.agg E)) m s2 w2 ak.out (h1.below a.out.fb.bel) af (by omega))
 obtain⟨K,v⟩:∃K,K=aO fs false d m (⟨s2,0,0⟩:aZ):=⟨_,rfl⟩;have L:=aB v.symm;first|rw[<-v] at o|rw[show _=K from v.symm] at o
 clear v;have N:=aA a.out.blk (i:=0) rfl;have U:=aA a.out.blk (i:=1) rfl;have S:=aA a.out.blk (i:=2) rfl;have H:=aA a.out.blk (i:=3) rfl;have ad:=aD a.out.blk;go_wp2_with fail;refine o.out.mono ?_;rintro e w3 ⟨r,⟨s3,ac,rfl,B⟩|⟨M,rfl⟩⟩
 rotate_left
 ·have Y:=aB (a.out.fb.trans r);have G:=aB M;clear r M;go_wp2_with fail;exact⟨rfl,cY.fault (c1:=K) Y.out G.out (by rw[q.out,D.out,L.out];exact Stk.refl K)⟩
 have ah:=aB (a.out.step r);have aj:=aB B;subst ac;clear r B o N U S H ad;go_wp2_with fail;go_end0;exact cY.done ah.out.fb (by rw[q.out,D.out,L.out]) aj.out
def Fr.keepS{pb b:Nat}{w w':World}{o:Obj}(c:Fr pb w w')(h:w.heap[b]?=some o)(a:b≠pb):w'.heap[b]?=some o:=by
 rw[c.block b (aD h) a];exact h
def P9(sb:Nat)(src:ByteArray)(n L:Nat)(w:World)(r:pA)(e:Ending)(w':World):Prop:=
 Fr sb w w'/\((r.ok=true/\e=.returned (oE ⟨r.sort,r.text,L⟩)/\SC sb src (n+r.size) L w')\/(r.ok=false/\e=cX 3 L))
def mD{sb b m L:Nat}{a:ByteArray}{w wc:World}(g:Fr sb w wc)(f:SC sb a m L wc)(c:w.heap.size<=b)(h:b≠sb)(e v1 v2 d:Value):
 Fr sb w ((((wc.setCell ⟨b,0,none⟩ e).setCell ⟨b,1,none⟩ v1).setCell ⟨b,2,none⟩ v2).setCell ⟨b,3,none⟩ d)/\SC sb a m L ((((wc.setCell ⟨b,0,none⟩ e).setCell ⟨b,1,none⟩ v1).setCell ⟨b,2,none⟩ v2).setCell ⟨b,3,none⟩ d):=by
 refine⟨(((g.setCell (as_ c) _).setCell (as_ c) _).setCell (as_ c) _).setCell (as_ c) _,?_⟩;unfold SC;rw[ax_ _ _ _ _ (by show sb≠b;omega),ax_ _ _ _ _ (by show sb≠b;omega),ax_ _ _ _ _ (by show sb≠b;omega),ax_ _ _ _ _ (by show sb≠b;omega)]
 exact f
def rR(a:ByteArray)(n:Nat):(a.extract n a.size).size=a.size-n:=by simp
def XX(sb:Nat)(a:ByteArray)(n L:Nat)(w:World)(h:SC sb a n L w)(hs:a.size<=2000000000)(hn:n<=a.size):
 Calls prog 251 #[.pointer (some ⟨sb,0,none⟩)] w (P9 sb a n L w (gH (a.data.toList.drop n) true)):=by
 obtain⟨f,p⟩:∃f,f=bL (eC true) (a.data.toList.drop n):=⟨_,rfl⟩
 have ab:f<=a.size-n:=by
  have:=kK (eC true) (a.data.toList.drop n);rw[p];simpa using this
 have J:=(SC.cells h).1;have s:w.heap.size≠sb:=by omega
 have S:Hid ((w.alloc (.cells #[.int .i64 0,.string ⟨#[]⟩,.int .i64 0,.int .i64 0] 206)).heap[w.heap.size]?=some (.cells #[.int .i64 0,.string ⟨#[]⟩,.int .i64 0,.int .i64 0] 206 (0,0))):=aM _ _ rfl _;have F:SC sb a n L (w.alloc (.cells #[.int .i64 0,.string ⟨#[]⟩,.int .i64 0,.int .i64 0] 206)):=by unfold SC;rw[aA_ _ _ _ J];exact h
 obtain⟨N,V,M,Z,P,O⟩:=F.cells;have G:Hid ((w.alloc (.cells #[.int .i64 0,.string ⟨#[]⟩,.int .i64 0,.int .i64 0] 206)).drew.heap[w.heap.size]?=some (.cells #[.int .i64 0,.string ⟨#[]⟩,.int .i64 0,.int .i64 0] 206 (0,0))):=S.out;have u:=aB (fun w=>uS (eC true) 297 (fun _ _=>rfl) YN (a.extract n a.size) w (by rw[rR];omega))
 rw[mX,<-p] at u;have x:=aB (oA sb a n L f (w.alloc (.cells #[.int .i64 0,.string ⟨#[]⟩,.int .i64 0,.int .i64 0] 206)).drew F hs (by omega))
 have y:=aB (PE ((a.data.toList.drop n).take f));obtain⟨k,r⟩:∃k,k=(a.data.toList.drop n).take f:=⟨_,rfl⟩;rw[<-r] at x y;have Y:(bs k).size=f:=by rw[gA,r,bc_];simp;omega
 have U:Hid (gH (a.data.toList.drop n) true={ sort:=if iO.contains k then 107 else 110,text:=k,size:=f,ok:=decide (f<=16) }):=by
  show _=_
  unfold gH;rw[<-p,<-r];rfl
 rw[U.out];have H1:=aB F;have I:Hid (Fr sb w (w.alloc (.cells #[.int .i64 0,.string ⟨#[]⟩,.int .i64 0,.int .i64 0] 206))):=(Fr.refl _ _).alloc _;clear h F p r U;obtain⟨D,A⟩:∃D,D=iO.contains k:=⟨_,rfl⟩;rw[<-A] at y ⊢
 clear A;obtain⟨E,l⟩:∃E,E=(if D then 107 else 110):=⟨_,rfl⟩
 rw[show (if D=true then 107 else 110)=E from l.symm]
 have C:=aB l;clear l;obtain⟨W,d⟩:∃W:pA,W={ sort:=E,text:=k,size:=f,ok:=decide (f<=16) }:=⟨_,rfl⟩;rw[<-d];have q:=aB d;clear d;go_enter Tryz.func251,Tryz.ntmps251;go_wp2_with fail;go_cut [3] (fun v wc=>v=.string (bs k)/\SC sb a (n+f) L wc/\Fr sb w wc/\wc.heap[w.heap.size]?=some (.cells #[.int .i64 0,.string ⟨#[]⟩,.int .i64 0,.int .i64 0] 206 (0,0)))
 case first=>
  go_region_law (first|(go_simp;go_at_call 248;refine(u.out _).mono ?_;rintro e w1 ⟨rfl,B⟩;obtain rfl:=B.symm)|(go_simp;go_at_call 296;refine x.out.mono ?_;rintro e w2 ⟨rfl,j,g⟩;have m:=aB j;have o:=aB (I.out.drew.trans g);have z:=aB (g.keepS G.out s);clear j g))
  all_goals
   go_wp2_with fail;go_meet
   case rel=>exact⟨rfl,m.out,o.out,z.out⟩
 case rest=>
  obtain⟨rfl,j,g,b⟩:=hcut;clear V M Z P O N;obtain⟨N,V,M,Z,P,O⟩:=j.cells;have m:=aB j;have o:=aB g;have z:=aB b;have K:=aA b (i:=0) rfl;have T:=aA b (i:=1) rfl;have Q:=aA b (i:=2) rfl;have X:=aA b (i:=3) rfl;have y0:=aE (i:=0) b;have y1:=aE (i:=1) b;have y2:=aE (i:=2) b;have y3:=aE (i:=3) b;have aa:=aD b;clear j g b x u S;by_cases t:f<=16
  ·cases D
   all_goals
    have l:=C.out;clear C;subst l;have d:=q.out;clear q;subst d;go_wp2_with fail;refine(y.out _).mono ?_;rintro e w3 ⟨rfl,B⟩;obtain rfl:=B.symm;go_wp2_with fail
    first
     |(refine bodyPost_ret (v:=.agg #[.int .i64 1,.string (bs k),.int .i64 0,.int .i64 L]) (by simp[results,Tryz.results251,go_sem,K,T,Q,X]) rfl ?_
       have c:=mD o.out m.out (au_ _) s (.int .i64 1) (.string (bs k)) (.int .i64 0) (.int .i64 L);exact⟨c.1,av_ ⟨by first|rfl|exact decide_eq_true t,rfl,c.2⟩⟩)
     |(refine bodyPost_ret (v:=.agg #[.int .i64 0,.string (bs k),.int .i64 0,.int .i64 L]) (by simp[results,Tryz.results251,go_sem,K,T,Q,X]) rfl ?_
       have c:=mD o.out m.out (au_ _) s (.int .i64 0) (.string (bs k)) (.int .i64 0) (.int .i64 L);exact⟨c.1,av_ ⟨by first|rfl|exact decide_eq_true t,rfl,c.2⟩⟩)
  ·have d:=q.out;clear q;subst d;have H:=aB (rQ sb a (n+f) L wc m.out);go_wp2_with fail;refine H.out.mono ?_;rintro e w3 ⟨rfl,B⟩;obtain rfl:=B.symm;go_wp2_with fail;exact⟨rfl,o.out,as_ ⟨by first|rfl|exact decide_eq_false t,rfl⟩⟩
end Go.Proofs.YtblbkfdhjfppkaaGreatDoor
