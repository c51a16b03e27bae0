/- Contracts of the program: names: each sort of nodes. -/
import Derived.Test.YthbffcmfmjpncaaGreatDoorP06k
set_option linter.defProp false
set_option maxRecDepth 100000
set_option maxHeartbeats 4000000
namespace Go.Proofs.YthbffcmfmjpncaaGreatDoor
open Hs
open _root_.Go.Proofs.Tryz
open Go.RowKit
variable{b cb lo:Nat}{F:Nat->Prop}{v:Value}{w:World}
def PN.parts{a:aC}(h:PN F w v a):∃T c b,v=.iface T (.agg c)/\Shape T c a b/\∀p∈b,p.ok F w:=by
 obtain⟨d,h⟩:=h;cases d with
 |zero=>exact h.elim
 |succ d=>
  obtain⟨T,c,b,g,f,i⟩:=h;exact⟨T,c,b,g,f,λp e=>(i p e).mono (λ_ _ h=>⟨d,h⟩) (λ_ h=>h)⟩
def Prt.ok.one'{a:aC}(h:Prt.ok F w ⟨v,[a],true⟩):PN F w v a:=by
 rcases h with ⟨_,b,c,d⟩|⟨c,_⟩
 ·cases c;exact d
 ·cases c
def Prt.ok.many{l:List aC}(h:Prt.ok F w ⟨v,l,false⟩):PKid F w v l:=by
 rcases h with ⟨b,_⟩|⟨_,a⟩
 ·cases b
 ·exact a
structure Loc(cb:Nat)(w0:World)(b:Nat)(o:Obj)(W:World):Prop where
 fb:FB cb w0 W
 blk:W.heap[b]?=some o
 row:jS cb W≠some b
 ne:b≠cb
def Loc.new{f:List aC}{g:Value}{a:List (List UInt8)}(h:CK cb lo f g w a)(o:Obj):Loc cb w w.heap.size o (w.alloc o)/\CK cb lo f g (w.alloc o) a:=by
 have b:=h.lt;have d:Below w.heap.size w (w.alloc o):=(JU _ _).alloc (JS _) _;refine⟨⟨FB.of_below d b,aW _ _ rfl _,λe=>?_,o_⟩,h.grow d⟩
 obtain⟨j,c,i⟩:=h.blk;rw[qA (d.block cb b),gU c] at e;have:=cH i _ e;omega
def Loc.step{o:Obj}{w0 W c:World}(h:Loc cb w0 b o W)(a:FB cb W c):Loc cb w0 b o c:=
 ⟨h.fb.trans a,(a.blk b (aD h.blk) h.ne h.row).trans h.blk,λe=>by
   rcases a.row _ e with e|e
   ·exact h.row e
   ·have:=aD h.blk;omega,h.ne⟩
def kJ(cb lo:Nat)(fs:List aC)(fv:Value)(d:Nat):Prop:=
 ∀(v:Value) (b:aC) (e_:List (List UInt8)) (w:World),CK cb lo fs fv w e_->b.op=[98,108,111,99,107]->PKid (Btw lo cb) w v b.y_->dD d b->e_.length+aX d b<=90000->
  Calls prog 128 #[.pointer (some ⟨cb,0,none⟩),v] w (bW cb lo fs fv w (aK fs false d b ⟨e_,0,0⟩))
def mA{d:Nat}{l:List aC}(h:∀k∈l,dD d k):l.length<=(l.map (aX d)).sum:=by
 cases d with
 |zero=>
  cases l with
  |nil=>simp
  |cons x l=>exact(h x (KW ..)).elim
 |succ d=>exact fW d l
def wL{a:List aC}{f:Value}{d:Nat}(l:gM cb lo a f d):kJ cb lo a f (d+1):=by
 intro v b e_ w h c i g e;rw[aX] at e
 have k:aK a false (d+1) b ⟨e_,0,0⟩={ foldL a d b.y_ ⟨e_,0,0⟩ with e_:=(foldL a d b.y_ ⟨e_,0,0⟩).e_.take e_.length }:=by
  rw[aK,if_neg (by rw[c];decide)]
  simp only[bQ,c];rfl
 have j:=mA g;rw[k];exact nW cb lo a f d l v b.y_ e_ w h i g o_ o_
def BA{a:List aC}{b:Value}(d:Nat)(g:gM cb lo a b d)(e_:List (List UInt8))(w:World)(h:CK cb lo a b w e_)(f:e_.length<=90000):
 Calls prog 128 #[.pointer (some ⟨cb,0,none⟩),.slice none 0 0] w (bW cb lo a b w ⟨e_,0,0⟩):=by
 have:=nW cb lo a b d g (.slice none 0 0) [] e_ w h (JX ⟨rfl,rfl⟩) (λk c=>by cases c) (by simpa using f) s_
 have e:({ foldL a d [] ⟨e_,0,0⟩ with e_:=(foldL a d [] ⟨e_,0,0⟩).e_.take e_.length }:aQ)=⟨e_,0,0⟩:=by
  show (⟨e_.take e_.length,0,0⟩:aQ)=_
  rw[LH]
 rw[e] at this;exact this
def fS{a:aQ}{s t:List (List UInt8)}{m n k:Nat}(h:Adds a ⟨t,0,0⟩ m)(c:a.e_=s)(f:s.length+(m+k)<=n):t.length+k<=n:=by
 obtain⟨x,d,e⟩:=h;have b:t=s++x:=by rw[<-c];exact d
 rw[b,KN];omega
def oV(s:aQ)(l:Nat)(x:List UInt8):aQ:=if s.e_.contains x then s else s.found l 6
def AE(s:aQ)(l:Nat)(x:List UInt8):Adds s (oV s l x) 0:=Adds.of_eq (by unfold oV;split<;>first|rfl|exact hK _ _ _)
def CL(cb lo:Nat)(b:List aC)(c:Value)(w:World)(a:List (List UInt8))(h:CK cb lo b c w a)(d:a.length<=100000)(l:Nat)(x:List UInt8):
 Calls prog 161 #[.pointer (some ⟨cb,0,none⟩),.agg #[.int .i64 l,.string (bs x)]] w (bW cb lo b c w (oV ⟨a,0,0⟩ l x)):=FM cb lo b c w a h d l x
def sQ(cb lo:Nat)(b:List aC)(c:Value)(a:List (List UInt8))(w:World)(h:CK cb lo b c w a)(l k:Nat):
 Calls prog 111 #[.pointer (some ⟨cb,0,none⟩),.iface 307 (.agg #[.int .i64 l,.int .i64 k])] w (bW cb lo b c w ⟨a,0,0⟩):=by
 have H:=aA h;have g:=lO;have m:=mQ;have r:=tJ;have n:=oH;have p:=mO;have o:=oJ;have j:=pK;have i:=kY;have q:=pJ;have f:=oK;have d:=oI;have e:=mP;clear h;go_enter func111,ntmps111;go_wp2_with fail;go_end0;exact bW.done (FB.refl _) rfl H.out
def BD(cb lo:Nat)(b:List aC)(c:Value)(a:List (List UInt8))(w:World)(h:CK cb lo b c w a)(l:Nat)(x:ByteArray):
 Calls prog 111 #[.pointer (some ⟨cb,0,none⟩),.iface 308 (.agg #[.int .i64 l,.string x])] w (bW cb lo b c w ⟨a,0,0⟩):=by
 have H:=aA h;have g:=lM;have k:=mM;have q:=tI;have m:=oB;have o:=mK;have n:=oD;have j:=pG;have i:=kX;have p:=pF;have f:=oE;have d:=oC;have e:=mL;clear h;go_enter func111,ntmps111;go_wp2_with fail;go_end0;exact bW.done (FB.refl _) rfl H.out
def FZ(cb lo:Nat)(b:List aC)(c:Value)(a:List (List UInt8))(w:World)(h:CK cb lo b c w a)(l:Nat)(x:Bool):
 Calls prog 111 #[.pointer (some ⟨cb,0,none⟩),.iface 310 (.agg #[.int .i64 l,.bool x])] w (bW cb lo b c w ⟨a,0,0⟩):=by
 have H:=aA h;have g:=oP;have k:=pU;have q:=xA;have m:=rK;have o:=pS;have n:=rM;have j:=tO;have i:=mT;have p:=tN;have f:=rN;have d:=rL;have e:=pT;clear h;go_enter func111,ntmps111;go_wp2_with fail;go_end0;exact bW.done (FB.refl _) rfl H.out
def FY(cb lo:Nat)(q:List aC)(z:Value)(d:Nat)(D:gM cb lo q z d)(a:List (List UInt8))(w:World)(h:CK cb lo q z w a)(l:Nat)(u1:Value)(c:List aC)(A:PKid (Btw lo cb) w u1 c)(m:∀k∈c,dD d k)(C:a.length+((c.map (aX d)).sum+0)<=90000):
 Calls prog 111 #[.pointer (some ⟨cb,0,none⟩),.iface 276 (.agg #[.int .i64 l,u1])] w (bW cb lo q z w (foldL q d c ⟨a,0,0⟩)):=by
 obtain⟨y,u,rfl⟩:=A.slice;have G:=oL;have J:=pM;have P:=wY;have K:=rC;have M:=pL;have L:=rD;have I:=tL;have H:=mR;have O:=tK;obtain⟨o,b⟩:=Loc.new h (.cells #[.int .i64 l,(.slice y c.length u)] 276);have n:=aA o;have x:=aA b;clear h o b;go_enter func111,ntmps111;have f:=aA (D (.slice y c.length u) c a (w.alloc (.cells #[.int .i64 l,(.slice y c.length u)] 276)) x.out (A.below n.out.fb.bel) m o_ (by have:=mA m;omega))
 obtain⟨p,i⟩:=E_ (foldL q d c (⟨a,0,0⟩:aQ));have r:=aA i.symm;first|rw[<-i] at f|rw[show _=p from i.symm] at f
 clear i;go_wp2_with fail;refine f.out.mono ?_;rintro e F ⟨g,⟨N,s,rfl,j⟩|⟨b,rfl⟩⟩
 rotate_left
 ·have B:=aA (n.out.fb.trans g);have E:=aA b;clear g b;go_wp2_with fail;exact⟨rfl,bW.fault (c1:=p) B.out E.out (by rw[r.out];exact Stk.refl p)⟩
 have v:=aA (n.out.step g);have t:=aA j;subst s;clear g j f;go_wp2_with fail;go_end0;exact bW.done v.out.fb (by rw[r.out]) t.out
def DN(cb lo:Nat)(p:List aC)(z:Value)(d:Nat)(F:fC cb lo p z d)(a:List (List UInt8))(w:World)(h:CK cb lo p z w a)(l:Nat)(x:ByteArray)(B:Value)(m:aC)(A:PN (Btw lo cb) w B m)(u:dD d m)(E:a.length+(aX d m+0)<=90000):
 Calls prog 111 #[.pointer (some ⟨cb,0,none⟩),.iface 280 (.agg #[.int .i64 l,.string x,B])] w (bW cb lo p z w (aK p false d m ⟨a,0,0⟩)):=by
 obtain⟨s,k,rfl⟩:=A.form;have J:=mJ;have M:=oA;have T:=uY;have N:=pB;have P:=nZ;have O:=pD;have L:=rA;have K:=lL;have S:=qZ;have I:=pE;have D:=pC;obtain⟨n,b⟩:=Loc.new h (.cells #[.int .i64 l,.string x,(.iface s (.agg k))] 280);have j:=aA n;have y:=aA b;clear h n b;go_enter func111,ntmps111;have c:=aA (F (.iface s (.agg k)) m a (w.alloc (.cells #[.int .i64 l,.string x,(.iface s (.agg k))] 280)) y.out (A.below j.out.fb.bel) u o_)
 obtain⟨o,g⟩:=E_ (aK p false d m (⟨a,0,0⟩:aQ));have q:=aA g.symm;first|rw[<-g] at c|rw[show _=o from g.symm] at c
 clear g;go_wp2_with fail;refine c.out.mono ?_;rintro e H ⟨f,⟨Q,r,rfl,i⟩|⟨b,rfl⟩⟩
 rotate_left
 ·have C:=aA (j.out.fb.trans f);have G:=aA b;clear f b;go_wp2_with fail;exact⟨rfl,bW.fault (c1:=o) C.out G.out (by rw[q.out];exact Stk.refl o)⟩
 have v:=aA (j.out.step f);have t:=aA i;subst r;clear f i c;go_wp2_with fail;go_end0;exact bW.done v.out.fb (by rw[q.out]) t.out
def BE(cb lo:Nat)(p:List aC)(y:Value)(d:Nat)(D:fC cb lo p y d)(a:List (List UInt8))(w:World)(h:CK cb lo p y w a)(l:Nat)(A:Value)(m:aC)(z:PN (Btw lo cb) w A m)(u:dD d m)(C:a.length+(aX d m+0)<=90000):
 Calls prog 111 #[.pointer (some ⟨cb,0,none⟩),.iface 268 (.agg #[.int .i64 l,A])] w (bW cb lo p y w (aK p false d m ⟨a,0,0⟩)):=by
 obtain⟨s,k,rfl⟩:=z.form;have G:=hN;have H:=iF;have L:=lN;have I:=jC;have J:=iE;obtain⟨n,b⟩:=Loc.new h (.cells #[.int .i64 l,(.iface s (.agg k))] 268);have j:=aA n;have x:=aA b;clear h n b;go_enter func111,ntmps111;have c:=aA (D (.iface s (.agg k)) m a (w.alloc (.cells #[.int .i64 l,(.iface s (.agg k))] 268)) x.out (z.below j.out.fb.bel) u o_)
 obtain⟨o,g⟩:=E_ (aK p false d m (⟨a,0,0⟩:aQ));have q:=aA g.symm;first|rw[<-g] at c|rw[show _=o from g.symm] at c
 clear g;go_wp2_with fail;refine c.out.mono ?_;rintro e F ⟨f,⟨K,r,rfl,i⟩|⟨b,rfl⟩⟩
 rotate_left
 ·have B:=aA (j.out.fb.trans f);have E:=aA b;clear f b;go_wp2_with fail;exact⟨rfl,bW.fault (c1:=o) B.out E.out (by rw[q.out];exact Stk.refl o)⟩
 have v:=aA (j.out.step f);have t:=aA i;subst r;clear f i c;go_wp2_with fail;go_end0;exact bW.done v.out.fb (by rw[q.out]) t.out
def DO(cb lo:Nat)(p:List aC)(y:Value)(d:Nat)(D:fC cb lo p y d)(a:List (List UInt8))(w:World)(h:CK cb lo p y w a)(l:Nat)(A:Value)(m:aC)(z:PN (Btw lo cb) w A m)(u:dD d m)(C:a.length+(aX d m+0)<=90000):
 Calls prog 111 #[.pointer (some ⟨cb,0,none⟩),.iface 269 (.agg #[.int .i64 l,A])] w (bW cb lo p y w (aK p false d m ⟨a,0,0⟩)):=by
 obtain⟨s,k,rfl⟩:=z.form;have G:=mN;have H:=oG;have M:=uZ;have I:=pH;have K:=oF;have J:=pI;obtain⟨n,b⟩:=Loc.new h (.cells #[.int .i64 l,(.iface s (.agg k))] 269);have j:=aA n;have x:=aA b;clear h n b;go_enter func111,ntmps111;have c:=aA (D (.iface s (.agg k)) m a (w.alloc (.cells #[.int .i64 l,(.iface s (.agg k))] 269)) x.out (z.below j.out.fb.bel) u o_)
 obtain⟨o,g⟩:=E_ (aK p false d m (⟨a,0,0⟩:aQ));have q:=aA g.symm;first|rw[<-g] at c|rw[show _=o from g.symm] at c
 clear g;go_wp2_with fail;refine c.out.mono ?_;rintro e F ⟨f,⟨L,r,rfl,i⟩|⟨b,rfl⟩⟩
 rotate_left
 ·have B:=aA (j.out.fb.trans f);have E:=aA b;clear f b;go_wp2_with fail;exact⟨rfl,bW.fault (c1:=o) B.out E.out (by rw[q.out];exact Stk.refl o)⟩
 have v:=aA (j.out.step f);have t:=aA i;subst r;clear f i c;go_wp2_with fail;go_end0;exact bW.done v.out.fb (by rw[q.out]) t.out
def DR(cb lo:Nat)(m:List aC)(V:Value)(d:Nat)(IH:fC cb lo m V d)(a:List (List UInt8))(w:World)(h:CK cb lo m V w a)(l:Nat)(Z:Value)(x:aC)(Y:PN (Btw lo cb) w Z x)(P:dD d x)(v2:Value)(r:aC)(X:PN (Btw lo cb) w v2 r)(H:dD d r)(ab:a.length+(aX d x+(aX d r+0))<=90000):
 Calls prog 111 #[.pointer (some ⟨cb,0,none⟩),.iface 278 (.agg #[.int .i64 l,Z,v2])] w (bW cb lo m V w (aK m false d r (aK m false d x ⟨a,0,0⟩))):=by
 obtain⟨J,v,rfl⟩:=Y.form;obtain⟨W,s,rfl⟩:=X.form;have q0:=mS;have q1:=oN;have q2:=vA;have q3:=pN;have q4:=oM;have q5:=pO;have q6:=rG;have q7:=lP;have q8:=rF;have q9:=pP;obtain⟨A,c⟩:=Loc.new h (.cells #[.int .i64 l,(.iface J (.agg v)),(.iface W (.agg s))] 278);have u:=aA A;have U:=aA c;clear h A c;go_enter func111,ntmps111;have g:=aA (IH (.iface J (.agg v)) x a (w.alloc (.cells #[.int .i64 l,(.iface J (.agg v)),(.iface W (.agg s))] 278)) U.out (Y.below u.out.fb.bel) P o_)
 have F:=aA (cT m false d x ⟨a,0,0⟩);obtain⟨D,f⟩:=E_ (aK m false d x (⟨a,0,0⟩:aQ));have y:=aA f.symm;rw[<-f] at F;first|rw[<-f] at g|rw[show _=D from f.symm] at g
 clear f;go_wp2_with fail;refine g.out.mono ?_;rintro e w1 ⟨k,⟨S,I,rfl,p⟩|⟨c,rfl⟩⟩
 rotate_left
 ·have M:=aA (u.out.fb.trans k);have T:=aA c;clear k c;go_wp2_with fail;exact⟨rfl,bW.fault (c1:=D) M.out T.out (by rw[y.out];exact(Stk.walk m false d r D))⟩
 have b:=aA (u.out.step k);have K:=aA p;subst I;have aa:S.length+(aX d r+0)<=90000:=fS F.out rfl o_
 clear k p g;have n:=aA (IH (.iface W (.agg s)) r S w1 K.out (X.below b.out.fb.bel) H o_)
 obtain⟨t,j⟩:=E_ (aK m false d r (⟨S,0,0⟩:aQ));have G:=aA j.symm;first|rw[<-j] at n|rw[show _=t from j.symm] at n
 clear j;have E:=aB b.out.blk (i:=0) rfl;have B:=aB b.out.blk (i:=1) rfl;have C:=aB b.out.blk (i:=2) rfl;have N:=aD b.out.blk;go_wp2_with fail;refine n.out.mono ?_;rintro e w2 ⟨o,⟨s2,O,rfl,q⟩|⟨z,rfl⟩⟩
 rotate_left
 ·have M:=aA (b.out.fb.trans o);have T:=aA z;clear o z;go_wp2_with fail;exact⟨rfl,bW.fault (c1:=t) M.out T.out (by rw[y.out,G.out];exact Stk.refl t)⟩
 have L:=aA (b.out.step o);have Q:=aA q;subst O;clear o q n E B C N;go_wp2_with fail;go_end0;exact bW.done L.out.fb (by rw[y.out,G.out]) Q.out
def BF(cb lo:Nat)(m:List aC)(X:Value)(d:Nat)(IH:fC cb lo m X d)(a:List (List UInt8))(w:World)(h:CK cb lo m X w a)(l:Nat)(x:ByteArray)(v1:Value)(y:aC)(h1:PN (Btw lo cb) w v1 y)(S:dD d y)(v2:Value)(r:aC)(Z:PN (Btw lo cb) w v2 r)(J:dD d r)(ac:a.length+(aX d y+(aX d r+0))<=90000):
 Calls prog 111 #[.pointer (some ⟨cb,0,none⟩),.iface 282 (.agg #[.int .i64 l,.string x,v1,v2])] w (bW cb lo m X w (aK m false d r (aK m false d y ⟨a,0,0⟩))):=by
 obtain⟨L,v,rfl⟩:=h1.form;obtain⟨Y,s,rfl⟩:=Z.form;have q0:=lR;have q1:=mW;have q2:=tP;have q3:=oQ;have q4:=mU;have q5:=oS;have q6:=pW;have q7:=lA;have q8:=pV;have q9:=oT;have ab:=oR;have ad:=mV;obtain⟨B,c⟩:=Loc.new h (.cells #[.int .i64 l,.string x,(.iface L (.agg v)),(.iface Y (.agg s))] 282);have u:=aA B;have W:=aA c;clear h B c;go_enter func111,ntmps111;have g:=aA (IH (.iface L (.agg v)) y a (w.alloc (.cells #[.int .i64 l,.string x,(.iface L (.agg v)),(.iface Y (.agg s))] 282)) W.out (h1.below u.out.fb.bel) S o_)
 have H:=aA (cT m false d y ⟨a,0,0⟩);obtain⟨F,f⟩:=E_ (aK m false d y (⟨a,0,0⟩:aQ));have z:=aA f.symm;rw[<-f] at H;first|rw[<-f] at g|rw[show _=F from f.symm] at g
 clear f;go_wp2_with fail;refine g.out.mono ?_;rintro e w1 ⟨k,⟨T,K,rfl,p⟩|⟨c,rfl⟩⟩
 rotate_left
 ·have O:=aA (u.out.fb.trans k);have V:=aA c;clear k c;go_wp2_with fail;exact⟨rfl,bW.fault (c1:=F) O.out V.out (by rw[z.out];exact(Stk.walk m false d r F))⟩
 have b:=aA (u.out.step k);have M:=aA p;subst K;have aa:T.length+(aX d r+0)<=90000:=fS H.out rfl o_
 clear k p g;have n:=aA (IH (.iface Y (.agg s)) r T w1 M.out (Z.below b.out.fb.bel) J o_)
 obtain⟨t,j⟩:=E_ (aK m false d r (⟨T,0,0⟩:aQ));have I:=aA j.symm;first|rw[<-j] at n|rw[show _=t from j.symm] at n
 clear j;have G:=aB b.out.blk (i:=0) rfl;have C:=aB b.out.blk (i:=1) rfl;have D:=aB b.out.blk (i:=2) rfl;have E:=aB b.out.blk (i:=3) rfl;have P:=aD b.out.blk;go_wp2_with fail;refine n.out.mono ?_;rintro e w2 ⟨o,⟨s2,Q,rfl,q⟩|⟨A,rfl⟩⟩
 rotate_left
 ·have O:=aA (b.out.fb.trans o);have V:=aA A;clear o A;go_wp2_with fail;exact⟨rfl,bW.fault (c1:=t) O.out V.out (by rw[z.out,I.out];exact Stk.refl t)⟩
 have N:=aA (b.out.step o);have U:=aA q;subst Q;clear o q n G C D E P;go_wp2_with fail;go_end0;exact bW.done N.out.fb (by rw[z.out,I.out]) U.out
def DL(cb lo:Nat)(j:List aC)(I:Value)(d:Nat)(IH:fC cb lo j I d)(S:kJ cb lo j I d)(a:List (List UInt8))(w:World)(h:CK cb lo j I w a)(l:Nat)(v1:Value)(v:aC)(h1:PN (Btw lo cb) w v1 v)(Q:dD d v)(u2:Value)(c:aC)(H:c.op=[98,108,111,99,107])(Z:PKid (Btw lo cb) w u2 c.y_)(B:dD d c)(ab:a.length+(aX d v+(aX d c+0))<=90000):
 Calls prog 111 #[.pointer (some ⟨cb,0,none⟩),.iface 266 (.agg #[.int .i64 l,v1,u2])] w (bW cb lo j I w (aK j false d c (aK j false d v ⟨a,0,0⟩))):=by
 obtain⟨K,u,rfl⟩:=h1.form;obtain⟨W,Y,rfl⟩:=Z.slice;have q0:=mH;have q1:=nY;have q2:=uX;have q3:=oZ;obtain⟨z,f⟩:=Loc.new h (.cells #[.int .i64 l,(.iface K (.agg u)),(.slice W c.y_.length Y)] 266);have t:=aA z;have X:=aA f;clear h z f;go_enter func111,ntmps111;have k:=aA (IH (.iface K (.agg u)) v a (w.alloc (.cells #[.int .i64 l,(.iface K (.agg u)),(.slice W c.y_.length Y)] 266)) X.out (h1.below t.out.fb.bel) Q o_)
 have F:=aA (cT j false d v ⟨a,0,0⟩);obtain⟨D,g⟩:=E_ (aK j false d v (⟨a,0,0⟩:aQ));have x:=aA g.symm;rw[<-g] at F;first|rw[<-g] at k|rw[show _=D from g.symm] at k
 clear g;go_wp2_with fail;refine k.out.mono ?_;rintro e w1 ⟨n,⟨U,J,rfl,q⟩|⟨f,rfl⟩⟩
 rotate_left
 ·have N:=aA (t.out.fb.trans n);have V:=aA f;clear n f;go_wp2_with fail;exact⟨rfl,bW.fault (c1:=D) N.out V.out (by rw[x.out];exact(Stk.walk j false d c D))⟩
 have b:=aA (t.out.step n);have L:=aA q;subst J;have aa:U.length+(aX d c+0)<=90000:=fS F.out rfl o_
 clear n q k;have o:=aA (S (.slice W c.y_.length Y) c U w1 L.out H (Z.below b.out.fb.bel) B o_)
 obtain⟨s,m⟩:=E_ (aK j false d c (⟨U,0,0⟩:aQ));have G:=aA m.symm;first|rw[<-m] at o|rw[show _=s from m.symm] at o
 clear m;have E:=aB b.out.blk (i:=0) rfl;have A:=aB b.out.blk (i:=1) rfl;have C:=aB b.out.blk (i:=2) rfl;have O:=aD b.out.blk;go_wp2_with fail;refine o.out.mono ?_;rintro e w2 ⟨p,⟨s2,P,rfl,r⟩|⟨y,rfl⟩⟩
 rotate_left
 ·have N:=aA (b.out.fb.trans p);have V:=aA y;clear p y;go_wp2_with fail;exact⟨rfl,bW.fault (c1:=s) N.out V.out (by rw[x.out,G.out];exact Stk.refl s)⟩
 have M:=aA (b.out.step p);have T:=aA r;subst P;clear p r o E A C O;go_wp2_with fail;go_end0;exact bW.done M.out.fb (by rw[x.out,G.out]) T.out
def JG(cb lo:Nat)(f:List aC)(fv:Value)(d:Nat)(IH:fC cb lo f fv d)(W:kJ cb lo f fv d)(a:List (List UInt8))(w:World)(h:CK cb lo f fv w a)(l:Nat)(v1:Value)(D:aC)(h1:PN (Btw lo cb) w v1 D)(aj:dD d D)(u2:Value)(j:aC)(J:j.op=[98,108,111,99,107])(g2:PKid (Btw lo cb) w u2 j.y_)(L:dD d j)(u3:Value)(g:aC)(ab:g.op=[98,108,111,99,107])(g3:PKid (Btw lo cb) w u3 g.y_)(I:dD d g)(ao:a.length+(aX d D+(aX d j+(aX d g+0)))<=90000):
 Calls prog 111 #[.pointer (some ⟨cb,0,none⟩),.iface 264 (.agg #[.int .i64 l,v1,u2,u3])] w (bW cb lo f fv w (aK f false d g (aK f false d j (aK f false d D ⟨a,0,0⟩)))):=by
 obtain⟨T1,C,rfl⟩:=h1.form;obtain⟨x2,y2,rfl⟩:=g2.slice;obtain⟨x3,y3,rfl⟩:=g3.slice;have q0:=kO;have q1:=lQ;have q2:=vB;obtain⟨F,m⟩:=Loc.new h (.cells #[.int .i64 l,(.iface T1 (.agg C)),(.slice x2 j.y_.length y2),(.slice x3 g.y_.length y3)] 264);have B:=aA F;have ac:=aA m;clear h F m;go_enter func111,ntmps111;have r:=aA (IH (.iface T1 (.agg C)) D a (w.alloc (.cells #[.int .i64 l,(.iface T1 (.agg C)),(.slice x2 j.y_.length y2),(.slice x3 g.y_.length y3)] 264)) ac.out (h1.below B.out.fb.bel) aj o_)
 have Y:=aA (cT f false d D ⟨a,0,0⟩);obtain⟨Z,k⟩:=E_ (aK f false d D (⟨a,0,0⟩:aQ));have s:=aA k.symm;rw[<-k] at Y;first|rw[<-k] at r|rw[show _=Z from k.symm] at r
 clear k;go_wp2_with fail;refine r.out.mono ?_;rintro e w1 ⟨o,⟨s1,ah,rfl,x⟩|⟨m,rfl⟩⟩
 rotate_left
 ·have HB:=aA (B.out.fb.trans o);have M:=aA m;clear o m;go_wp2_with fail;exact⟨rfl,bW.fault (c1:=Z) HB.out M.out (by rw[s.out];exact((Stk.walk f false d j Z)).trans (Stk.walk f false d g _))⟩
 have b:=aA (B.out.step o);have ad:=aA x;subst ah;have an:s1.length+(aX d j+(aX d g+0))<=90000:=fS Y.out rfl o_
 clear o x r;have q:=aA (W (.slice x2 j.y_.length y2) j s1 w1 ad.out J (g2.below b.out.fb.bel) L o_)
 have G:=aA (cT f false d j ⟨s1,0,0⟩);obtain⟨y,n⟩:=E_ (aK f false d j (⟨s1,0,0⟩:aQ));have E:=aA n.symm;rw[<-n] at G;first|rw[<-n] at q|rw[show _=y from n.symm] at q
 clear n;have X:=aB b.out.blk (i:=0) rfl;have S:=aB b.out.blk (i:=1) rfl;have T:=aB b.out.blk (i:=2) rfl;have U:=aB b.out.blk (i:=3) rfl;have al:=aD b.out.blk;go_wp2_with fail;refine q.out.mono ?_;rintro e w2 ⟨v,⟨s2,am,rfl,z⟩|⟨aa,rfl⟩⟩
 rotate_left
 ·have HB:=aA (b.out.fb.trans v);have M:=aA aa;clear v aa;go_wp2_with fail;exact⟨rfl,bW.fault (c1:=y) HB.out M.out (by rw[s.out,E.out];exact(Stk.walk f false d g y))⟩
 have c:=aA (b.out.step v);have ag:=aA z;subst am;have ap:s2.length+(aX d g+0)<=90000:=fS G.out rfl o_
 clear v z q X S T U al;have t:=aA (W (.slice x3 g.y_.length y3) g s2 w2 ag.out ab (g3.below c.out.fb.bel) I o_)
 obtain⟨H,u⟩:=E_ (aK f false d g (⟨s2,0,0⟩:aQ));have V:=aA u.symm;first|rw[<-u] at t|rw[show _=H from u.symm] at t
 clear u;have N:=aB c.out.blk (i:=0) rfl;have Q:=aB c.out.blk (i:=1) rfl;have O:=aB c.out.blk (i:=2) rfl;have P:=aB c.out.blk (i:=3) rfl;have ai:=aD c.out.blk;go_wp2_with fail;refine t.out.mono ?_;rintro e w3 ⟨p,⟨s3,af,rfl,A⟩|⟨K,rfl⟩⟩
 rotate_left
 ·have HB:=aA (c.out.fb.trans p);have M:=aA K;clear p K;go_wp2_with fail;exact⟨rfl,bW.fault (c1:=H) HB.out M.out (by rw[s.out,E.out,V.out];exact Stk.refl H)⟩
 have ak:=aA (c.out.step p);have ae:=aA A;subst af;clear p A t N Q O P ai;go_wp2_with fail;go_end0;exact bW.done ak.out.fb (by rw[s.out,E.out,V.out]) ae.out
def IL(cb lo:Nat)(g:List aC)(W:Value)(d:Nat)(IH:fC cb lo g W d)(HN:gM cb lo g W d)(ai:kJ cb lo g W d)(a:List (List UInt8))(w:World)(h:CK cb lo g W w a)(l:Nat)(v1:Value)(C:aC)(h1:PN (Btw lo cb) w v1 C)(ah:dD d C)(u2:Value)(f:aC)(H:f.op=[98,108,111,99,107])(g2:PKid (Btw lo cb) w u2 f.y_)(J:dD d f)(an:a.length+(aX d C+(aX d f+(0+0)))<=90000):
 Calls prog 111 #[.pointer (some ⟨cb,0,none⟩),.iface 264 (.agg #[.int .i64 l,v1,u2,.slice none 0 0])] w (bW cb lo g W w ((aK g false d f (aK g false d C ⟨a,0,0⟩)))):=by
 obtain⟨T1,B,rfl⟩:=h1.form;obtain⟨x2,y2,rfl⟩:=g2.slice;have q0:=kO;have q1:=lQ;have q2:=vB;obtain⟨E,k⟩:=Loc.new h (.cells #[.int .i64 l,(.iface T1 (.agg B)),(.slice x2 f.y_.length y2),.slice none 0 0] 264);have A:=aA E;have aa:=aA k;clear h E k;go_enter func111,ntmps111;have q:=aA (IH (.iface T1 (.agg B)) C a (w.alloc (.cells #[.int .i64 l,(.iface T1 (.agg B)),(.slice x2 f.y_.length y2),.slice none 0 0] 264)) aa.out (h1.below A.out.fb.bel) ah o_)
 have V:=aA (cT g false d C ⟨a,0,0⟩);obtain⟨X,j⟩:=E_ (aK g false d C (⟨a,0,0⟩:aQ));have r:=aA j.symm;rw[<-j] at V;first|rw[<-j] at q|rw[show _=X from j.symm] at q
 clear j;go_wp2_with fail;refine q.out.mono ?_;rintro e w1 ⟨n,⟨s1,af,rfl,v⟩|⟨k,rfl⟩⟩
 rotate_left
 ·have Z:=aA (A.out.fb.trans n);have K:=aA k;clear n k;go_wp2_with fail;exact⟨rfl,bW.fault (c1:=X) Z.out K.out (by rw[r.out];exact((Stk.walk g false d f X)).trans (Stk.refl _))⟩
 have b:=aA (A.out.step n);have ab:=aA v;subst af;have am:s1.length+(aX d f+(0+0))<=90000:=fS V.out rfl o_
 clear n v q;have p:=aA (ai (.slice x2 f.y_.length y2) f s1 w1 ab.out H (g2.below b.out.fb.bel) J o_)
 have F:=aA (cT g false d f ⟨s1,0,0⟩);obtain⟨x,m⟩:=E_ (aK g false d f (⟨s1,0,0⟩:aQ));have D:=aA m.symm;rw[<-m] at F;first|rw[<-m] at p|rw[show _=x from m.symm] at p
 clear m;have U:=aB b.out.blk (i:=0) rfl;have P:=aB b.out.blk (i:=1) rfl;have Q:=aB b.out.blk (i:=2) rfl;have S:=aB b.out.blk (i:=3) rfl;have ak:=aD b.out.blk;go_wp2_with fail;refine p.out.mono ?_;rintro e w2 ⟨u,⟨s2,al,rfl,y⟩|⟨Y,rfl⟩⟩
 rotate_left
 ·have Z:=aA (b.out.fb.trans u);have K:=aA Y;clear u Y;go_wp2_with fail;exact⟨rfl,bW.fault (c1:=x) Z.out K.out (by rw[r.out,D.out];exact(Stk.refl x))⟩
 have c:=aA (b.out.step u);have ae:=aA y;subst al;have ao:s2.length+(0+0)<=90000:=fS F.out rfl o_
 clear u y p U P Q S ak;have s:=aA (BA d HN s2 w2 ae.out o_)
 obtain⟨G,t⟩:=E_ ((⟨s2,0,0⟩:aQ));have T:=aA t.symm;first|rw[<-t] at s|rw[show _=G from t.symm] at s
 clear t;have L:=aB c.out.blk (i:=0) rfl;have O:=aB c.out.blk (i:=1) rfl;have M:=aB c.out.blk (i:=2) rfl;have N:=aB c.out.blk (i:=3) rfl;have ag:=aD c.out.blk;go_wp2_with fail;refine s.out.mono ?_;rintro e w3 ⟨o,⟨s3,ad,rfl,z⟩|⟨I,rfl⟩⟩
 rotate_left
 ·have Z:=aA (c.out.fb.trans o);have K:=aA I;clear o I;go_wp2_with fail;exact⟨rfl,bW.fault (c1:=G) Z.out K.out (by rw[r.out,D.out,T.out];exact Stk.refl G)⟩
 have aj:=aA (c.out.step o);have ac:=aA z;subst ad;clear o z s L O M N ag;go_wp2_with fail;go_end0;exact bW.done aj.out.fb (by rw[r.out,D.out,T.out]) ac.out
def vV(cb lo:Nat)(p:List aC)(s:Value)(a:List (List UInt8))(w:World)(h:CK cb lo p s w a)(l:Nat)(x:List UInt8)(u:a.length+(0+0)<=90000):
 Calls prog 111 #[.pointer (some ⟨cb,0,none⟩),.iface 274 (.agg #[.int .i64 l,.string (bs x)])] w (bW cb lo p s w (oV ⟨a,0,0⟩ l x)):=by
 have z:=kL;have C:=kW;have H:=pA;have D:=lJ;have F:=kV;have E:=lK;have B:=mI;have A:=jL;obtain⟨i,b⟩:=Loc.new h (.cells #[.int .i64 l,.string (bs x)] 274);have j:=aA i;have r:=aA b;clear h i b;go_enter func111,ntmps111;have c:=aA (CL cb lo p s (w.alloc (.cells #[.int .i64 l,.string (bs x)] 274)) a r.out o_ l x)
 obtain⟨m,f⟩:=E_ (oV (⟨a,0,0⟩:aQ) l x);have k:=aA f.symm;first|rw[<-f] at c|rw[show _=m from f.symm] at c
 clear f;go_wp2_with fail;refine c.out.mono ?_;rintro e y ⟨d,⟨G,n,rfl,g⟩|⟨b,rfl⟩⟩
 rotate_left
 ·have t:=aA (j.out.fb.trans d);have v:=aA b;clear d b;go_wp2_with fail;exact⟨rfl,bW.fault (c1:=m) t.out v.out (by rw[k.out];exact Stk.refl m)⟩
 have q:=aA (j.out.step d);have o:=aA g;subst n;clear d g c;go_wp2_with fail;go_end0;exact bW.done q.out.fb (by rw[k.out]) o.out
def BG(cb lo:Nat)(f:List aC)(Y:Value)(d:Nat)(IH:fC cb lo f Y d)(HN:gM cb lo f Y d)(a:List (List UInt8))(w:World)(h:CK cb lo f Y w a)(l:Nat)(x:List UInt8)(u2:Value)(j:List aC)(g2:PKid (Btw lo cb) w u2 j)(D:∀k∈j,dD d k)(v1:Value)(o:aC)(h1:PN (Btw lo cb) w v1 o)(ah:dD d o)(am:a.length+(0+((j.map (aX d)).sum+(aX d o+0)))<=90000):
 Calls prog 111 #[.pointer (some ⟨cb,0,none⟩),.iface 262 (.agg #[.int .i64 l,.string (bs x),u2,v1])] w (bW cb lo f Y w (aK f false d o (foldL f d j (oV ⟨a,0,0⟩ l x)))):=by
 obtain⟨x2,y2,rfl⟩:=g2.slice;obtain⟨T1,F,rfl⟩:=h1.form;have q0:=lS;have q1:=mX;obtain⟨H,m⟩:=Loc.new h (.cells #[.int .i64 l,.string (bs x),(.slice x2 j.length y2),(.iface T1 (.agg F))] 262);have J:=aA H;have aa:=aA m;clear h H m;go_enter func111,ntmps111;have t:=aA (CL cb lo f Y (w.alloc (.cells #[.int .i64 l,.string (bs x),(.slice x2 j.length y2),(.iface T1 (.agg F))] 262)) a aa.out o_ l x)
 have X:=aA (AE ⟨a,0,0⟩ l x);obtain⟨c0,g⟩:=E_ (oV (⟨a,0,0⟩:aQ) l x);have u:=aA g.symm;rw[<-g] at X;first|rw[<-g] at t|rw[show _=c0 from g.symm] at t
 clear g;go_wp2_with fail;refine t.out.mono ?_;rintro e w1 ⟨p,⟨s1,af,rfl,A⟩|⟨m,rfl⟩⟩
 rotate_left
 ·have HB:=aA (J.out.fb.trans p);have M:=aA m;clear p m;go_wp2_with fail;exact⟨rfl,bW.fault (c1:=c0) HB.out M.out (by rw[u.out];exact((Stk.fold (λs k=>Stk.walk f false d k s) _ _)).trans (Stk.walk f false d o _))⟩
 have b:=aA (J.out.step p);have ab:=aA A;subst af;have al:s1.length+((j.map (aX d)).sum+(aX d o+0))<=90000:=fS X.out rfl o_
 clear p A t;have r:=aA (HN (.slice x2 j.length y2) j s1 w1 ab.out (g2.below b.out.fb.bel) D o_ (by have:=mA D;omega))
 have I:=aA (sV f d j ⟨s1,0,0⟩);obtain⟨B,n⟩:=E_ (foldL f d j (⟨s1,0,0⟩:aQ));have G:=aA n.symm;rw[<-n] at I;first|rw[<-n] at r|rw[show _=B from n.symm] at r
 clear n;have W:=aB b.out.blk (i:=0) rfl;have S:=aB b.out.blk (i:=1) rfl;have T:=aB b.out.blk (i:=2) rfl;have U:=aB b.out.blk (i:=3) rfl;have aj:=aD b.out.blk;go_wp2_with fail;refine r.out.mono ?_;rintro e w2 ⟨z,⟨s2,ak,rfl,C⟩|⟨Z,rfl⟩⟩
 rotate_left
 ·have HB:=aA (b.out.fb.trans z);have M:=aA Z;clear z Z;go_wp2_with fail;exact⟨rfl,bW.fault (c1:=B) HB.out M.out (by rw[u.out,G.out];exact(Stk.walk f false d o B))⟩
 have c:=aA (b.out.step z);have ae:=aA C;subst ak;have an:s2.length+(aX d o+0)<=90000:=fS I.out rfl o_
 clear z C r W S T U aj;have v:=aA (IH (.iface T1 (.agg F)) o s2 w2 ae.out (h1.below c.out.fb.bel) ah o_)
 obtain⟨K,y⟩:=E_ (aK f false d o (⟨s2,0,0⟩:aQ));have V:=aA y.symm;first|rw[<-y] at v|rw[show _=K from y.symm] at v
 clear y;have N:=aB c.out.blk (i:=0) rfl;have Q:=aB c.out.blk (i:=1) rfl;have O:=aB c.out.blk (i:=2) rfl;have P:=aB c.out.blk (i:=3) rfl;have ag:=aD c.out.blk;go_wp2_with fail;refine v.out.mono ?_;rintro e w3 ⟨q,⟨s3,ad,rfl,E⟩|⟨L,rfl⟩⟩
 rotate_left
 ·have HB:=aA (c.out.fb.trans q);have M:=aA L;clear q L;go_wp2_with fail;exact⟨rfl,bW.fault (c1:=K) HB.out M.out (by rw[u.out,G.out,V.out];exact Stk.refl K)⟩
 have ai:=aA (c.out.step q);have ac:=aA E;subst ad;clear q E v N Q O P ag;go_wp2_with fail;go_end0;exact bW.done ai.out.fb (by rw[u.out,G.out,V.out]) ac.out
def Fr.keepS{pb:Nat}{w':World}{o:Obj}(a:Fr pb w w')(h:w.heap[b]?=some o)(c:b≠pb):w'.heap[b]?=some o:=by
 rw[a.block b (aD h) c];exact h
def EY(sb:Nat)(src:ByteArray)(n L:Nat)(w:World)(r:gF)(e:Ending)(w':World):Prop:=
 Fr sb w w'/\((r.ok=true/\e=.returned (iI ⟨r.sort,r.x_,L⟩)/\SC sb src (n+r.size) L w')\/(r.ok=false/\e=cA 3 L))
def gH{sb m L:Nat}{a:ByteArray}{wc:World}(h:Fr sb w wc)(i:SC sb a m L wc)(c:w.heap.size<=b)(j:b≠sb)(g f e d:Value):
 Fr sb w ((((wc.setCell ⟨b,0,none⟩ g).setCell ⟨b,1,none⟩ f).setCell ⟨b,2,none⟩ e).setCell ⟨b,3,none⟩ d)/\SC sb a m L ((((wc.setCell ⟨b,0,none⟩ g).setCell ⟨b,1,none⟩ f).setCell ⟨b,2,none⟩ e).setCell ⟨b,3,none⟩ d):=by
 refine⟨(((h.setCell (JR c) _).setCell (JR c) _).setCell (JR c) _).setCell (JR c) _,?_⟩;unfold SC;rw[JW _ _ _ _ (by show sb≠b;omega),JW _ _ _ _ (by show sb≠b;omega),JW _ _ _ _ (by show sb≠b;omega),JW _ _ _ _ (by show sb≠b;omega)]
 exact i
def kD(a:ByteArray)(n:Nat):(a.extract n a.size).size=a.size-n:=s_
def AM(sb:Nat)(a:ByteArray)(n L:Nat)(w:World)(h:SC sb a n L w)(hs:a.size<=2000000000)(hn:n<=a.size):
 Calls prog 175 #[.pointer (some ⟨sb,0,none⟩)] w (EY sb a n L w (dT (a.data.toList.drop n) true)):=by
 obtain⟨f,r⟩:=E_ (aP (bE true) (a.data.toList.drop n))
 have aa:f<=a.size-n:=by
  have:=fG (bE true) (a.data.toList.drop n);rw[r];simpa using this
 have I:=(SC.cells h).1;have u:w.heap.size≠sb:=o_
 have Y:Hid ((w.alloc (.cells #[.int .i64 0,.string ⟨#[]⟩,.int .i64 0,.int .i64 0] 150)).heap[w.heap.size]?=some (.cells #[.int .i64 0,.string ⟨#[]⟩,.int .i64 0,.int .i64 0] 150 (0,0))):=aW _ _ rfl _;have F:SC sb a n L (w.alloc (.cells #[.int .i64 0,.string ⟨#[]⟩,.int .i64 0,.int .i64 0] 150)):=by unfold SC;rw[JZ _ _ _ I];exact h
 obtain⟨K,Z,Q,T,M,X⟩:=F.cells;have G:Hid ((w.alloc (.cells #[.int .i64 0,.string ⟨#[]⟩,.int .i64 0,.int .i64 0] 150)).drew.heap[w.heap.size]?=some (.cells #[.int .i64 0,.string ⟨#[]⟩,.int .i64 0,.int .i64 0] 150 (0,0))):=Y.out;have y:=aA (λw=>lV (bE true) 215 (λ_ _=>rfl) AP (a.extract n a.size) w (by rw[kD];omega))
 rw[gY,<-r] at y;have t:=aA (iD sb a n L f (w.alloc (.cells #[.int .i64 0,.string ⟨#[]⟩,.int .i64 0,.int .i64 0] 150)).drew F hs o_)
 have s:=aA (wA ((a.data.toList.drop n).take f));obtain⟨k,p⟩:=E_ ((a.data.toList.drop n).take f);rw[<-p] at t s;have P:(bs k).size=f:=by rw[eS,p,KH];simp;omega
 have V:Hid (dT (a.data.toList.drop n) true={ sort:=if cF.contains k then 107 else 110,x_:=k,size:=f,ok:=decide (f<=16) }):=by
  show _=_
  unfold dT;rw[<-r,<-p];rfl
 rw[V.out];have H1:=aA F;have H:Hid (Fr sb w (w.alloc (.cells #[.int .i64 0,.string ⟨#[]⟩,.int .i64 0,.int .i64 0] 150))):=(Fr.refl _ _).alloc _;clear h F r p V;obtain⟨C,z⟩:=E_ (cF.contains k);rw[<-z] at s ⊢
 clear z;obtain⟨E,o⟩:=E_ ((if C then 107 else 110))
 rw[show (if C=true then 107 else 110)=E from o.symm]
 have D:=aA o;clear o;obtain⟨S,d⟩:∃S:gF,S={ sort:=E,x_:=k,size:=f,ok:=decide (f<=16) }:=⟨_,rfl⟩;rw[<-d];have q:=aA d;clear d;go_enter func175,ntmps175;go_wp2_with fail;go_cut [3] (λv wc=>v=.string (bs k)/\SC sb a (n+f) L wc/\Fr sb w wc/\wc.heap[w.heap.size]?=some (.cells #[.int .i64 0,.string ⟨#[]⟩,.int .i64 0,.int .i64 0] 150 (0,0)))
 case first=>
  go_region_law (first|(go_simp;go_at_call 172;refine(y.out _).mono ?_;rintro e w1 ⟨rfl,B⟩;obtain rfl:=B.symm)|(go_simp;go_at_call 214;refine t.out.mono ?_;rintro e w2 ⟨rfl,g,j⟩;have l:=aA g;have m:=aA (H.out.drew.trans j);have A:=aA (j.keepS G.out u);clear g j))
  all_goals
   go_wp2_with fail;go_meet
   case rel=>exact⟨rfl,l.out,m.out,A.out⟩
 case rest=>
  obtain⟨rfl,g,j,b⟩:=hcut;clear Z Q T M X K;obtain⟨K,Z,Q,T,M,X⟩:=g.cells;have l:=aA g;have m:=aA j;have A:=aA b;have W:=aB b (i:=0) rfl;have O:=aB b (i:=1) rfl;have N:=aB b (i:=2) rfl;have U:=aB b (i:=3) rfl;have y0:=aI (i:=0) b;have y1:=aI (i:=1) b;have y2:=aI (i:=2) b;have y3:=aI (i:=3) b;have ab:=aD b;clear g j b t y Y;by_cases x:f<=16
  ·cases C
   all_goals
    have o:=D.out;clear D;subst o;have d:=q.out;clear q;subst d;go_wp2_with fail;refine(s.out _).mono ?_;rintro e w3 ⟨rfl,B⟩;obtain rfl:=B.symm;go_wp2_with fail
    first
     |(refine bodyPost_ret (v:=.agg #[.int .i64 1,.string (bs k),.int .i64 0,.int .i64 L]) (by simp[results,results175,go_sem,W,O,N,U]) rfl ?_
       have c:=gH m.out l.out (JS _) u (.int .i64 1) (.string (bs k)) (.int .i64 0) (.int .i64 L);exact⟨c.1,JX ⟨by first|rfl|exact decide_eq_true x,rfl,c.2⟩⟩)
     |(refine bodyPost_ret (v:=.agg #[.int .i64 0,.string (bs k),.int .i64 0,.int .i64 L]) (by simp[results,results175,go_sem,W,O,N,U]) rfl ?_
       have c:=gH m.out l.out (JS _) u (.int .i64 0) (.string (bs k)) (.int .i64 0) (.int .i64 L);exact⟨c.1,JX ⟨by first|rfl|exact decide_eq_true x,rfl,c.2⟩⟩)
  ·have d:=q.out;clear q;subst d;have J:=aA (kC sb a (n+f) L wc l.out);go_wp2_with fail;refine J.out.mono ?_;rintro e w3 ⟨rfl,B⟩;obtain rfl:=B.symm;go_wp2_with fail;exact⟨rfl,m.out,JR ⟨by first|rfl|exact decide_eq_false x,rfl⟩⟩
end Go.Proofs.YthbffcmfmjpncaaGreatDoor
