/- Contracts of the program: names: each sort of nodes. -/
import Derived.Test.YtblbkfdhjfppkaaGreatDoorP09
import Derived.Test.YtblbkfdhjfppkaaGreatDoorP04
set_option maxRecDepth 100000
set_option maxHeartbeats 4000000
namespace Go.Proofs.YtblbkfdhjfppkaaGreatDoor
open Hs
open Tryz(prog)
open Go.RowKit
theorem PN.parts{F:Nat->Prop}{w:World}{v:Value}{a:aC}(h:PN F w v a):∃T cs ps,v=.iface T (.agg cs)/\Shape T cs a ps/\∀p∈ps,p.ok F w:=by
 obtain⟨d,h⟩:=h;cases d with
 |zero=>exact h.elim
 |succ d=>
  obtain⟨T,cs,ps,h1,h2,h3⟩:=h;exact⟨T,cs,ps,h1,h2,fun p hp=>(h3 p hp).mono (fun _ _ h=>⟨d,h⟩) (fun _ h=>h)⟩
theorem Prt.ok.one'{F:Nat->Prop}{w:World}{v:Value}{a:aC}(h:Prt.ok F w ⟨v,[a],true⟩):PN F w v a:=by
 rcases h with ⟨_,b,h1,h2⟩|⟨h1,_⟩
 ·cases h1;exact h2
 ·cases h1
theorem Prt.ok.many{F:Nat->Prop}{w:World}{v:Value}{l:List aC}(h:Prt.ok F w ⟨v,l,false⟩):PKid F w v l:=by
 rcases h with ⟨h1,_⟩|⟨_,h2⟩
 ·cases h1
 ·exact h2
structure Loc(cb:Nat)(w0:World)(b:Nat)(o:Obj)(W:World):Prop where
 fb:FB cb w0 W
 blk:W.heap[b]?=some o
 row:kT cb W≠some b
 ne:b≠cb
theorem Loc.new{cb lo:Nat}{fs:List aC}{fv:Value}{w:World}{seen:List (List UInt8)}(h:CK cb lo fs fv w seen)(o:Obj):Loc cb w w.heap.size o (w.alloc o)/\CK cb lo fs fv (w.alloc o) seen:=by
 have hcb:=h.lt;have hb:Below w.heap.size w (w.alloc o):=(m8 _ _).alloc (l9 _) _;refine⟨⟨FB.of_below hb hcb,aT _ _ rfl _,fun e=>?_,by omega⟩,h.grow hb⟩
 obtain⟨sv,hb',ho⟩:=h.blk;rw[nW (hb.block cb hcb),mM hb'] at e;have:=cK ho _ e;omega
theorem Loc.step{cb b:Nat}{o:Obj}{w0 W W':World}(h:Loc cb w0 b o W)(hb:FB cb W W'):Loc cb w0 b o W':=
 ⟨h.fb.trans hb,(hb.blk b (aD h.blk) h.ne h.row).trans h.blk,fun e=>by
   rcases hb.row _ e with e|e
   ·exact h.row e
   ·have:=aD h.blk;omega,h.ne⟩
def rV(cb lo:Nat)(fs:List aC)(fv:Value)(d:Nat):Prop:=
 ∀(v:Value) (b:aC) (seen:List (List UInt8)) (w:World),CK cb lo fs fv w seen->b.op=[98,108,111,99,107]->PKid (Btw lo cb) w v b.kids->eZ d b->seen.length+bT d b<=90000->
  Calls prog 190 #[.pointer (some ⟨cb,0,none⟩),v] w (cY cb lo fs fv w (aM fs false d b ⟨seen,0,0⟩))
theorem uS{d:Nat}{l:List aC}(h:∀k∈l,eZ d k):l.length<=(l.map (bT d)).sum:=by
 cases d with
 |zero=>
  cases l with
  |nil=>simp
  |cons x l=>exact(h x (x9 ..)).elim
 |succ d=>exact oQ d l
theorem RA{cb lo:Nat}{fs:List aC}{fv:Value}{d:Nat}(HN:mC cb lo fs fv d):rV cb lo fs fv (d+1):=by
 intro v b seen w h hop hk hd hwt;rw[bT] at hwt
 have hs:aM fs false (d+1) b ⟨seen,0,0⟩={ foldL fs d b.kids ⟨seen,0,0⟩ with seen:=(foldL fs d b.kids ⟨seen,0,0⟩).seen.take seen.length }:=by
  rw[aM,if_neg (by rw[hop];decide)]
  simp only[bZ,hop];rfl
 have hkl:=uS hd;rw[hs];exact yC cb lo fs fv d HN v b.kids seen w h hk hd (by omega) (by omega)
theorem YH{cb lo:Nat}{fs:List aC}{fv:Value}(d:Nat)(HN:mC cb lo fs fv d)(seen:List (List UInt8))(w:World)(h:CK cb lo fs fv w seen)(hs:seen.length<=90000):
 Calls prog 190 #[.pointer (some ⟨cb,0,none⟩),.slice none 0 0] w (cY cb lo fs fv w ⟨seen,0,0⟩):=by
 have:=yC cb lo fs fv d HN (.slice none 0 0) [] seen w h (Or.inl ⟨rfl,rfl⟩) (fun k hk=>by cases hk) (by simpa using hs) (by simp)
 have e:({ foldL fs d [] ⟨seen,0,0⟩ with seen:=(foldL fs d [] ⟨seen,0,0⟩).seen.take seen.length }:aZ)=⟨seen,0,0⟩:=by
  show (⟨seen.take seen.length,0,0⟩:aZ)=_
  rw[List.take_length]
 rw[e] at this;exact this
theorem kW{a:aZ}{s t:List (List UInt8)}{m n k:Nat}(h:Adds a ⟨t,0,0⟩ m)(ha:a.seen=s)(hn:s.length+(m+k)<=n):t.length+k<=n:=by
 obtain⟨x,h1,h2⟩:=h;have h1':t=s++x:=by rw[<-ha];exact h1
 rw[h1',m6];omega
def AI(s:aZ)(l:Nat)(x:List UInt8):aZ:=if s.seen.contains x then s else s.found l 6
theorem WQ(s:aZ)(l:Nat)(x:List UInt8):Adds s (AI s l x) 0:=Adds.of_eq (by unfold AI;split<;>first|rfl|exact nA _ _ _)
theorem C9(cb lo:Nat)(fs:List aC)(fv:Value)(w:World)(seen:List (List UInt8))(h:CK cb lo fs fv w seen)(hs:seen.length<=100000)(l:Nat)(x:List UInt8):
 Calls prog 230 #[.pointer (some ⟨cb,0,none⟩),.agg #[.int .i64 l,.string (bs x)]] w (cY cb lo fs fv w (AI ⟨seen,0,0⟩ l x)):=N7 cb lo fs fv w seen h hs l x
theorem IC(cb lo:Nat)(fs:List aC)(fv:Value)(seen:List (List UInt8))(w:World)(h:CK cb lo fs fv w seen)(l k:Nat):
 Calls prog 167 #[.pointer (some ⟨cb,0,none⟩),.iface 397 (.agg #[.int .i64 l,.int .i64 k])] w (cY cb lo fs fv w ⟨seen,0,0⟩):=by
 have H:=aB h;have q0:=uE;have q1:=vR;have q2:=JL;have q3:=yQ;have q4:=vP;have q5:=yS;have q6:=AY;have q7:=tC;have q8:=AX;have q9:=yT;have q10:=yR;have q11:=vQ;clear h;go_enter Tryz.func167,Tryz.ntmps167;go_wp2_with fail;go_end0;exact cY.done (FB.refl _) rfl H.out
theorem YL(cb lo:Nat)(fs:List aC)(fv:Value)(seen:List (List UInt8))(w:World)(h:CK cb lo fs fv w seen)(l:Nat)(x:ByteArray):
 Calls prog 167 #[.pointer (some ⟨cb,0,none⟩),.iface 398 (.agg #[.int .i64 l,.string x])] w (cY cb lo fs fv w ⟨seen,0,0⟩):=by
 have H:=aB h;have q0:=uC;have q1:=vN;have q2:=JK;have q3:=yK;have q4:=vL;have q5:=yM;have q6:=AU;have q7:=tB;have q8:=AT;have q9:=yN;have q10:=yL;have q11:=vM;clear h;go_enter Tryz.func167,Tryz.ntmps167;go_wp2_with fail;go_end0;exact cY.done (FB.refl _) rfl H.out
theorem Q9(cb lo:Nat)(fs:List aC)(fv:Value)(seen:List (List UInt8))(w:World)(h:CK cb lo fs fv w seen)(l:Nat)(x:Bool):
 Calls prog 167 #[.pointer (some ⟨cb,0,none⟩),.iface 400 (.agg #[.int .i64 l,.bool x])] w (cY cb lo fs fv w ⟨seen,0,0⟩):=by
 have H:=aB h;have q0:=yY;have q1:=BI;have q2:=RW;have q3:=ES;have q4:=BG;have q5:=EU;have q6:=JQ;have q7:=vU;have q8:=JP;have q9:=EV;have q10:=ET;have q11:=BH;clear h;go_enter Tryz.func167,Tryz.ntmps167;go_wp2_with fail;go_end0;exact cY.done (FB.refl _) rfl H.out
theorem Q8(cb lo:Nat)(fs:List aC)(fv:Value)(d:Nat)(HN:mC cb lo fs fv d)(seen:List (List UInt8))(w:World)(h:CK cb lo fs fv w seen)(l:Nat)(u1:Value)(k1:List aC)(g1:PKid (Btw lo cb) w u1 k1)(hk1d:∀k∈k1,eZ d k)(hwt:seen.length+((k1.map (bT d)).sum+0)<=90000):
 Calls prog 167 #[.pointer (some ⟨cb,0,none⟩),.iface 346 (.agg #[.int .i64 l,u1])] w (cY cb lo fs fv w (foldL fs d k1 ⟨seen,0,0⟩)):=by
 obtain⟨x1,y1,rfl⟩:=g1.slice;have q0:=yU;have q1:=BA;have q2:=RU;have q3:=EM;have q4:=AZ;have q5:=EN;have q6:=JN;have q7:=vS;have q8:=JM;obtain⟨hl0,hk0⟩:=Loc.new h (.cells #[.int .i64 l,(.slice x1 k1.length y1)] 346);have HL0:=aB hl0;have HC0:=aB hk0;clear h hl0 hk0;go_enter Tryz.func167,Tryz.ntmps167;have HX0:=aB (HN (.slice x1 k1.length y1) k1 seen (w.alloc (.cells #[.int .i64 l,(.slice x1 k1.length y1)] 346)) HC0.out (g1.below HL0.out.fb.bel) hk1d (by omega) (by have:=uS hk1d;omega))
 obtain⟨c0,hg0⟩:∃c0,c0=foldL fs d k1 (⟨seen,0,0⟩:aZ):=⟨_,rfl⟩;have HG0:=aB hg0.symm;first|rw[<-hg0] at HX0|rw[show _=c0 from hg0.symm] at HX0
 clear hg0;go_wp2_with fail;refine HX0.out.mono ?_;rintro e w1 ⟨hb0,⟨s1,hc0,rfl,hck0⟩|⟨hk0,rfl⟩⟩
 rotate_left
 ·have HB:=aB (HL0.out.fb.trans hb0);have HK:=aB hk0;clear hb0 hk0;go_wp2_with fail;exact⟨rfl,cY.fault (c1:=c0) HB.out HK.out (by rw[HG0.out];exact Stk.refl c0)⟩
 have HL1:=aB (HL0.out.step hb0);have HC1:=aB hck0;subst hc0;clear hb0 hck0 HX0;go_wp2_with fail;go_end0;exact cY.done HL1.out.fb (by rw[HG0.out]) HC1.out
theorem I9(cb lo:Nat)(fs:List aC)(fv:Value)(d:Nat)(IH:jQ cb lo fs fv d)(seen:List (List UInt8))(w:World)(h:CK cb lo fs fv w seen)(l:Nat)(x:ByteArray)(v1:Value)(a1:aC)(h1:PN (Btw lo cb) w v1 a1)(hd1:eZ d a1)(hwt:seen.length+(bT d a1+0)<=90000):
 Calls prog 167 #[.pointer (some ⟨cb,0,none⟩),.iface 350 (.agg #[.int .i64 l,.string x,v1])] w (cY cb lo fs fv w (aM fs false d a1 ⟨seen,0,0⟩)):=by
 obtain⟨T1,cs1,rfl⟩:=h1.form;have q0:=vK;have q1:=yJ;have q2:=MW;have q3:=AP;have q4:=yI;have q5:=AR;have q6:=EL;have q7:=uB;have q8:=EK;have q9:=AS;have q10:=AQ;obtain⟨hl0,hk0⟩:=Loc.new h (.cells #[.int .i64 l,.string x,(.iface T1 (.agg cs1))] 350);have HL0:=aB hl0;have HC0:=aB hk0;clear h hl0 hk0;go_enter Tryz.func167,Tryz.ntmps167;have HX0:=aB (IH (.iface T1 (.agg cs1)) a1 seen (w.alloc (.cells #[.int .i64 l,.string x,(.iface T1 (.agg cs1))] 350)) HC0.out (h1.below HL0.out.fb.bel) hd1 (by omega))
 obtain⟨c0,hg0⟩:∃c0,c0=aM fs false d a1 (⟨seen,0,0⟩:aZ):=⟨_,rfl⟩;have HG0:=aB hg0.symm;first|rw[<-hg0] at HX0|rw[show _=c0 from hg0.symm] at HX0
 clear hg0;go_wp2_with fail;refine HX0.out.mono ?_;rintro e w1 ⟨hb0,⟨s1,hc0,rfl,hck0⟩|⟨hk0,rfl⟩⟩
 rotate_left
 ·have HB:=aB (HL0.out.fb.trans hb0);have HK:=aB hk0;clear hb0 hk0;go_wp2_with fail;exact⟨rfl,cY.fault (c1:=c0) HB.out HK.out (by rw[HG0.out];exact Stk.refl c0)⟩
 have HL1:=aB (HL0.out.step hb0);have HC1:=aB hck0;subst hc0;clear hb0 hck0 HX0;go_wp2_with fail;go_end0;exact cY.done HL1.out.fb (by rw[HG0.out]) HC1.out
theorem YM(cb lo:Nat)(fs:List aC)(fv:Value)(d:Nat)(IH:jQ cb lo fs fv d)(seen:List (List UInt8))(w:World)(h:CK cb lo fs fv w seen)(l:Nat)(v1:Value)(a1:aC)(h1:PN (Btw lo cb) w v1 a1)(hd1:eZ d a1)(hwt:seen.length+(bT d a1+0)<=90000):
 Calls prog 167 #[.pointer (some ⟨cb,0,none⟩),.iface 338 (.agg #[.int .i64 l,v1])] w (cY cb lo fs fv w (aM fs false d a1 ⟨seen,0,0⟩)):=by
 obtain⟨T1,cs1,rfl⟩:=h1.form;have q0:=nB;have q1:=nV;have q2:=uD;have q3:=pD;have q4:=nU;obtain⟨hl0,hk0⟩:=Loc.new h (.cells #[.int .i64 l,(.iface T1 (.agg cs1))] 338);have HL0:=aB hl0;have HC0:=aB hk0;clear h hl0 hk0;go_enter Tryz.func167,Tryz.ntmps167;have HX0:=aB (IH (.iface T1 (.agg cs1)) a1 seen (w.alloc (.cells #[.int .i64 l,(.iface T1 (.agg cs1))] 338)) HC0.out (h1.below HL0.out.fb.bel) hd1 (by omega))
 obtain⟨c0,hg0⟩:∃c0,c0=aM fs false d a1 (⟨seen,0,0⟩:aZ):=⟨_,rfl⟩;have HG0:=aB hg0.symm;first|rw[<-hg0] at HX0|rw[show _=c0 from hg0.symm] at HX0
 clear hg0;go_wp2_with fail;refine HX0.out.mono ?_;rintro e w1 ⟨hb0,⟨s1,hc0,rfl,hck0⟩|⟨hk0,rfl⟩⟩
 rotate_left
 ·have HB:=aB (HL0.out.fb.trans hb0);have HK:=aB hk0;clear hb0 hk0;go_wp2_with fail;exact⟨rfl,cY.fault (c1:=c0) HB.out HK.out (by rw[HG0.out];exact Stk.refl c0)⟩
 have HL1:=aB (HL0.out.step hb0);have HC1:=aB hck0;subst hc0;clear hb0 hck0 HX0;go_wp2_with fail;go_end0;exact cY.done HL1.out.fb (by rw[HG0.out]) HC1.out
theorem J0(cb lo:Nat)(fs:List aC)(fv:Value)(d:Nat)(IH:jQ cb lo fs fv d)(seen:List (List UInt8))(w:World)(h:CK cb lo fs fv w seen)(l:Nat)(v1:Value)(a1:aC)(h1:PN (Btw lo cb) w v1 a1)(hd1:eZ d a1)(hwt:seen.length+(bT d a1+0)<=90000):
 Calls prog 167 #[.pointer (some ⟨cb,0,none⟩),.iface 339 (.agg #[.int .i64 l,v1])] w (cY cb lo fs fv w (aM fs false d a1 ⟨seen,0,0⟩)):=by
 obtain⟨T1,cs1,rfl⟩:=h1.form;have q0:=vO;have q1:=yP;have q2:=MX;have q3:=AV;have q4:=yO;have q5:=AW;obtain⟨hl0,hk0⟩:=Loc.new h (.cells #[.int .i64 l,(.iface T1 (.agg cs1))] 339);have HL0:=aB hl0;have HC0:=aB hk0;clear h hl0 hk0;go_enter Tryz.func167,Tryz.ntmps167;have HX0:=aB (IH (.iface T1 (.agg cs1)) a1 seen (w.alloc (.cells #[.int .i64 l,(.iface T1 (.agg cs1))] 339)) HC0.out (h1.below HL0.out.fb.bel) hd1 (by omega))
 obtain⟨c0,hg0⟩:∃c0,c0=aM fs false d a1 (⟨seen,0,0⟩:aZ):=⟨_,rfl⟩;have HG0:=aB hg0.symm;first|rw[<-hg0] at HX0|rw[show _=c0 from hg0.symm] at HX0
 clear hg0;go_wp2_with fail;refine HX0.out.mono ?_;rintro e w1 ⟨hb0,⟨s1,hc0,rfl,hck0⟩|⟨hk0,rfl⟩⟩
 rotate_left
 ·have HB:=aB (HL0.out.fb.trans hb0);have HK:=aB hk0;clear hb0 hk0;go_wp2_with fail;exact⟨rfl,cY.fault (c1:=c0) HB.out HK.out (by rw[HG0.out];exact Stk.refl c0)⟩
 have HL1:=aB (HL0.out.step hb0);have HC1:=aB hck0;subst hc0;clear hb0 hck0 HX0;go_wp2_with fail;go_end0;exact cY.done HL1.out.fb (by rw[HG0.out]) HC1.out
theorem J1(cb lo:Nat)(fs:List aC)(fv:Value)(d:Nat)(IH:jQ cb lo fs fv d)(seen:List (List UInt8))(w:World)(h:CK cb lo fs fv w seen)(l:Nat)(v1:Value)(a1:aC)(h1:PN (Btw lo cb) w v1 a1)(hd1:eZ d a1)(v2:Value)(a2:aC)(h2:PN (Btw lo cb) w v2 a2)(hd2:eZ d a2)(hwt:seen.length+(bT d a1+(bT d a2+0))<=90000):
 Calls prog 167 #[.pointer (some ⟨cb,0,none⟩),.iface 348 (.agg #[.int .i64 l,v1,v2])] w (cY cb lo fs fv w (aM fs false d a2 (aM fs false d a1 ⟨seen,0,0⟩))):=by
 obtain⟨T1,cs1,rfl⟩:=h1.form;obtain⟨T2,cs2,rfl⟩:=h2.form;have q0:=vT;have q1:=yW;have q2:=MY;have q3:=BB;have q4:=yV;have q5:=BC;have q6:=EP;have q7:=uF;have q8:=EO;have q9:=BD;obtain⟨hl0,hk0⟩:=Loc.new h (.cells #[.int .i64 l,(.iface T1 (.agg cs1)),(.iface T2 (.agg cs2))] 348);have HL0:=aB hl0;have HC0:=aB hk0;clear h hl0 hk0;go_enter Tryz.func167,Tryz.ntmps167;have HX0:=aB (IH (.iface T1 (.agg cs1)) a1 seen (w.alloc (.cells #[.int .i64 l,(.iface T1 (.agg cs1)),(.iface T2 (.agg cs2))] 348)) HC0.out (h1.below HL0.out.fb.bel) hd1 (by omega))
 have HA0:=aB (fS fs false d a1 ⟨seen,0,0⟩);obtain⟨c0,hg0⟩:∃c0,c0=aM fs false d a1 (⟨seen,0,0⟩:aZ):=⟨_,rfl⟩;have HG0:=aB hg0.symm;rw[<-hg0] at HA0;first|rw[<-hg0] at HX0|rw[show _=c0 from hg0.symm] at HX0
 clear hg0;go_wp2_with fail;refine HX0.out.mono ?_;rintro e w1 ⟨hb0,⟨s1,hc0,rfl,hck0⟩|⟨hk0,rfl⟩⟩
 rotate_left
 ·have HB:=aB (HL0.out.fb.trans hb0);have HK:=aB hk0;clear hb0 hk0;go_wp2_with fail;exact⟨rfl,cY.fault (c1:=c0) HB.out HK.out (by rw[HG0.out];exact(Stk.walk fs false d a2 c0))⟩
 have HL1:=aB (HL0.out.step hb0);have HC1:=aB hck0;subst hc0;have hn1:s1.length+(bT d a2+0)<=90000:=kW HA0.out rfl (by omega)
 clear hb0 hck0 HX0;have HX1:=aB (IH (.iface T2 (.agg cs2)) a2 s1 w1 HC1.out (h2.below HL1.out.fb.bel) hd2 (by omega))
 obtain⟨c1,hg1⟩:∃c1,c1=aM fs false d a2 (⟨s1,0,0⟩:aZ):=⟨_,rfl⟩;have HG1:=aB hg1.symm;first|rw[<-hg1] at HX1|rw[show _=c1 from hg1.symm] at HX1
 clear hg1;have m1_0:=aA HL1.out.blk (i:=0) rfl;have m1_1:=aA HL1.out.blk (i:=1) rfl;have m1_2:=aA HL1.out.blk (i:=2) rfl;have hz1:=aD HL1.out.blk;go_wp2_with fail;refine HX1.out.mono ?_;rintro e w2 ⟨hb1,⟨s2,hc1,rfl,hck1⟩|⟨hk1,rfl⟩⟩
 rotate_left
 ·have HB:=aB (HL1.out.fb.trans hb1);have HK:=aB hk1;clear hb1 hk1;go_wp2_with fail;exact⟨rfl,cY.fault (c1:=c1) HB.out HK.out (by rw[HG0.out,HG1.out];exact Stk.refl c1)⟩
 have HL2:=aB (HL1.out.step hb1);have HC2:=aB hck1;subst hc1;clear hb1 hck1 HX1 m1_0 m1_1 m1_2 hz1;go_wp2_with fail;go_end0;exact cY.done HL2.out.fb (by rw[HG0.out,HG1.out]) HC2.out
theorem YN(cb lo:Nat)(fs:List aC)(fv:Value)(d:Nat)(IH:jQ cb lo fs fv d)(seen:List (List UInt8))(w:World)(h:CK cb lo fs fv w seen)(l:Nat)(x:ByteArray)(v1:Value)(a1:aC)(h1:PN (Btw lo cb) w v1 a1)(hd1:eZ d a1)(v2:Value)(a2:aC)(h2:PN (Btw lo cb) w v2 a2)(hd2:eZ d a2)(hwt:seen.length+(bT d a1+(bT d a2+0))<=90000):
 Calls prog 167 #[.pointer (some ⟨cb,0,none⟩),.iface 352 (.agg #[.int .i64 l,.string x,v1,v2])] w (cY cb lo fs fv w (aM fs false d a2 (aM fs false d a1 ⟨seen,0,0⟩))):=by
 obtain⟨T1,cs1,rfl⟩:=h1.form;obtain⟨T2,cs2,rfl⟩:=h2.form;have q0:=uH;have q1:=vX;have q2:=JR;have q3:=yZ;have q4:=vV;have q5:=zB;have q6:=BK;have q7:=tE;have q8:=BJ;have q9:=zC;have q10:=zA;have q11:=vW;obtain⟨hl0,hk0⟩:=Loc.new h (.cells #[.int .i64 l,.string x,(.iface T1 (.agg cs1)),(.iface T2 (.agg cs2))] 352);have HL0:=aB hl0;have HC0:=aB hk0;clear h hl0 hk0;go_enter Tryz.func167,Tryz.ntmps167;have HX0:=aB (IH (.iface T1 (.agg cs1)) a1 seen (w.alloc (.cells #[.int .i64 l,.string x,(.iface T1 (.agg cs1)),(.iface T2 (.agg cs2))] 352)) HC0.out (h1.below HL0.out.fb.bel) hd1 (by omega))
 have HA0:=aB (fS fs false d a1 ⟨seen,0,0⟩);obtain⟨c0,hg0⟩:∃c0,c0=aM fs false d a1 (⟨seen,0,0⟩:aZ):=⟨_,rfl⟩;have HG0:=aB hg0.symm;rw[<-hg0] at HA0;first|rw[<-hg0] at HX0|rw[show _=c0 from hg0.symm] at HX0
 clear hg0;go_wp2_with fail;refine HX0.out.mono ?_;rintro e w1 ⟨hb0,⟨s1,hc0,rfl,hck0⟩|⟨hk0,rfl⟩⟩
 rotate_left
 ·have HB:=aB (HL0.out.fb.trans hb0);have HK:=aB hk0;clear hb0 hk0;go_wp2_with fail;exact⟨rfl,cY.fault (c1:=c0) HB.out HK.out (by rw[HG0.out];exact(Stk.walk fs false d a2 c0))⟩
 have HL1:=aB (HL0.out.step hb0);have HC1:=aB hck0;subst hc0;have hn1:s1.length+(bT d a2+0)<=90000:=kW HA0.out rfl (by omega)
 clear hb0 hck0 HX0;have HX1:=aB (IH (.iface T2 (.agg cs2)) a2 s1 w1 HC1.out (h2.below HL1.out.fb.bel) hd2 (by omega))
 obtain⟨c1,hg1⟩:∃c1,c1=aM fs false d a2 (⟨s1,0,0⟩:aZ):=⟨_,rfl⟩;have HG1:=aB hg1.symm;first|rw[<-hg1] at HX1|rw[show _=c1 from hg1.symm] at HX1
 clear hg1;have m1_0:=aA HL1.out.blk (i:=0) rfl;have m1_1:=aA HL1.out.blk (i:=1) rfl;have m1_2:=aA HL1.out.blk (i:=2) rfl;have m1_3:=aA HL1.out.blk (i:=3) rfl;have hz1:=aD HL1.out.blk;go_wp2_with fail;refine HX1.out.mono ?_;rintro e w2 ⟨hb1,⟨s2,hc1,rfl,hck1⟩|⟨hk1,rfl⟩⟩
 rotate_left
 ·have HB:=aB (HL1.out.fb.trans hb1);have HK:=aB hk1;clear hb1 hk1;go_wp2_with fail;exact⟨rfl,cY.fault (c1:=c1) HB.out HK.out (by rw[HG0.out,HG1.out];exact Stk.refl c1)⟩
 have HL2:=aB (HL1.out.step hb1);have HC2:=aB hck1;subst hc1;clear hb1 hck1 HX1 m1_0 m1_1 m1_2 m1_3 hz1;go_wp2_with fail;go_end0;exact cY.done HL2.out.fb (by rw[HG0.out,HG1.out]) HC2.out
theorem I8(cb lo:Nat)(fs:List aC)(fv:Value)(d:Nat)(IH:jQ cb lo fs fv d)(HBK:rV cb lo fs fv d)(seen:List (List UInt8))(w:World)(h:CK cb lo fs fv w seen)(l:Nat)(v1:Value)(a1:aC)(h1:PN (Btw lo cb) w v1 a1)(hd1:eZ d a1)(u2:Value)(b2:aC)(hop2:b2.op=[98,108,111,99,107])(g2:PKid (Btw lo cb) w u2 b2.kids)(hd2b:eZ d b2)(hwt:seen.length+(bT d a1+(bT d b2+0))<=90000):
 Calls prog 167 #[.pointer (some ⟨cb,0,none⟩),.iface 336 (.agg #[.int .i64 l,v1,u2])] w (cY cb lo fs fv w (aM fs false d b2 (aM fs false d a1 ⟨seen,0,0⟩))):=by
 obtain⟨T1,cs1,rfl⟩:=h1.form;obtain⟨x2,y2,rfl⟩:=g2.slice;have q0:=vI;have q1:=yH;have q2:=MV;have q3:=AN;obtain⟨hl0,hk0⟩:=Loc.new h (.cells #[.int .i64 l,(.iface T1 (.agg cs1)),(.slice x2 b2.kids.length y2)] 336);have HL0:=aB hl0;have HC0:=aB hk0;clear h hl0 hk0;go_enter Tryz.func167,Tryz.ntmps167;have HX0:=aB (IH (.iface T1 (.agg cs1)) a1 seen (w.alloc (.cells #[.int .i64 l,(.iface T1 (.agg cs1)),(.slice x2 b2.kids.length y2)] 336)) HC0.out (h1.below HL0.out.fb.bel) hd1 (by omega))
 have HA0:=aB (fS fs false d a1 ⟨seen,0,0⟩);obtain⟨c0,hg0⟩:∃c0,c0=aM fs false d a1 (⟨seen,0,0⟩:aZ):=⟨_,rfl⟩;have HG0:=aB hg0.symm;rw[<-hg0] at HA0;first|rw[<-hg0] at HX0|rw[show _=c0 from hg0.symm] at HX0
 clear hg0;go_wp2_with fail;refine HX0.out.mono ?_;rintro e w1 ⟨hb0,⟨s1,hc0,rfl,hck0⟩|⟨hk0,rfl⟩⟩
 rotate_left
 ·have HB:=aB (HL0.out.fb.trans hb0);have HK:=aB hk0;clear hb0 hk0;go_wp2_with fail;exact⟨rfl,cY.fault (c1:=c0) HB.out HK.out (by rw[HG0.out];exact(Stk.walk fs false d b2 c0))⟩
 have HL1:=aB (HL0.out.step hb0);have HC1:=aB hck0;subst hc0;have hn1:s1.length+(bT d b2+0)<=90000:=kW HA0.out rfl (by omega)
 clear hb0 hck0 HX0;have HX1:=aB (HBK (.slice x2 b2.kids.length y2) b2 s1 w1 HC1.out hop2 (g2.below HL1.out.fb.bel) hd2b (by omega))
 obtain⟨c1,hg1⟩:∃c1,c1=aM fs false d b2 (⟨s1,0,0⟩:aZ):=⟨_,rfl⟩;have HG1:=aB hg1.symm;first|rw[<-hg1] at HX1|rw[show _=c1 from hg1.symm] at HX1
 clear hg1;have m1_0:=aA HL1.out.blk (i:=0) rfl;have m1_1:=aA HL1.out.blk (i:=1) rfl;have m1_2:=aA HL1.out.blk (i:=2) rfl;have hz1:=aD HL1.out.blk;go_wp2_with fail;refine HX1.out.mono ?_;rintro e w2 ⟨hb1,⟨s2,hc1,rfl,hck1⟩|⟨hk1,rfl⟩⟩
 rotate_left
 ·have HB:=aB (HL1.out.fb.trans hb1);have HK:=aB hk1;clear hb1 hk1;go_wp2_with fail;exact⟨rfl,cY.fault (c1:=c1) HB.out HK.out (by rw[HG0.out,HG1.out];exact Stk.refl c1)⟩
 have HL2:=aB (HL1.out.step hb1);have HC2:=aB hck1;subst hc1;clear hb1 hck1 HX1 m1_0 m1_1 m1_2 hz1;go_wp2_with fail;go_end0;exact cY.done HL2.out.fb (by rw[HG0.out,HG1.out]) HC2.out
theorem e7(cb lo:Nat)(fs:List aC)(fv:Value)(d:Nat)(IH:jQ cb lo fs fv d)(HBK:rV cb lo fs fv d)(seen:List (List UInt8))(w:World)(h:CK cb lo fs fv w seen)(l:Nat)(v1:Value)(a1:aC)(h1:PN (Btw lo cb) w v1 a1)(hd1:eZ d a1)(u2:Value)(b2:aC)(hop2:b2.op=[98,108,111,99,107])(g2:PKid (Btw lo cb) w u2 b2.kids)(hd2b:eZ d b2)(u3:Value)(b3:aC)(hop3:b3.op=[98,108,111,99,107])(g3:PKid (Btw lo cb) w u3 b3.kids)(hd3b:eZ d b3)(hwt:seen.length+(bT d a1+(bT d b2+(bT d b3+0)))<=90000):
 Calls prog 167 #[.pointer (some ⟨cb,0,none⟩),.iface 334 (.agg #[.int .i64 l,v1,u2,u3])] w (cY cb lo fs fv w (aM fs false d b3 (aM fs false d b2 (aM fs false d a1 ⟨seen,0,0⟩)))):=by
 obtain⟨T1,cs1,rfl⟩:=h1.form;obtain⟨x2,y2,rfl⟩:=g2.slice;obtain⟨x3,y3,rfl⟩:=g3.slice;have q0:=sB;have q1:=uG;have q2:=MZ;obtain⟨hl0,hk0⟩:=Loc.new h (.cells #[.int .i64 l,(.iface T1 (.agg cs1)),(.slice x2 b2.kids.length y2),(.slice x3 b3.kids.length y3)] 334);have HL0:=aB hl0;have HC0:=aB hk0;clear h hl0 hk0;go_enter Tryz.func167,Tryz.ntmps167;have HX0:=aB (IH (.iface T1 (.agg cs1)) a1 seen (w.alloc (.cells #[.int .i64 l,(.iface T1 (.agg cs1)),(.slice x2 b2.kids.length y2),(.slice x3 b3.kids.length y3)] 334)) HC0.out (h1.below HL0.out.fb.bel) hd1 (by omega))
 have HA0:=aB (fS fs false d a1 ⟨seen,0,0⟩);obtain⟨c0,hg0⟩:∃c0,c0=aM fs false d a1 (⟨seen,0,0⟩:aZ):=⟨_,rfl⟩;have HG0:=aB hg0.symm;rw[<-hg0] at HA0;first|rw[<-hg0] at HX0|rw[show _=c0 from hg0.symm] at HX0
 clear hg0;go_wp2_with fail;refine HX0.out.mono ?_;rintro e w1 ⟨hb0,⟨s1,hc0,rfl,hck0⟩|⟨hk0,rfl⟩⟩
 rotate_left
 ·have HB:=aB (HL0.out.fb.trans hb0);have HK:=aB hk0;clear hb0 hk0;go_wp2_with fail;exact⟨rfl,cY.fault (c1:=c0) HB.out HK.out (by rw[HG0.out];exact((Stk.walk fs false d b2 c0)).trans (Stk.walk fs false d b3 _))⟩
 have HL1:=aB (HL0.out.step hb0);have HC1:=aB hck0;subst hc0;have hn1:s1.length+(bT d b2+(bT d b3+0))<=90000:=kW HA0.out rfl (by omega)
 clear hb0 hck0 HX0;have HX1:=aB (HBK (.slice x2 b2.kids.length y2) b2 s1 w1 HC1.out hop2 (g2.below HL1.out.fb.bel) hd2b (by omega))
 have HA1:=aB (fS fs false d b2 ⟨s1,0,0⟩);obtain⟨c1,hg1⟩:∃c1,c1=aM fs false d b2 (⟨s1,0,0⟩:aZ):=⟨_,rfl⟩;have HG1:=aB hg1.symm;rw[<-hg1] at HA1;first|rw[<-hg1] at HX1|rw[show _=c1 from hg1.symm] at HX1
 clear hg1;have m1_0:=aA HL1.out.blk (i:=0) rfl;have m1_1:=aA HL1.out.blk (i:=1) rfl;have m1_2:=aA HL1.out.blk (i:=2) rfl;have m1_3:=aA HL1.out.blk (i:=3) rfl;have hz1:=aD HL1.out.blk;go_wp2_with fail;refine HX1.out.mono ?_;rintro e w2 ⟨hb1,⟨s2,hc1,rfl,hck1⟩|⟨hk1,rfl⟩⟩
 rotate_left
 ·have HB:=aB (HL1.out.fb.trans hb1);have HK:=aB hk1;clear hb1 hk1;go_wp2_with fail;exact⟨rfl,cY.fault (c1:=c1) HB.out HK.out (by rw[HG0.out,HG1.out];exact(Stk.walk fs false d b3 c1))⟩
 have HL2:=aB (HL1.out.step hb1);have HC2:=aB hck1;subst hc1;have hn2:s2.length+(bT d b3+0)<=90000:=kW HA1.out rfl (by omega)
 clear hb1 hck1 HX1 m1_0 m1_1 m1_2 m1_3 hz1;have HX2:=aB (HBK (.slice x3 b3.kids.length y3) b3 s2 w2 HC2.out hop3 (g3.below HL2.out.fb.bel) hd3b (by omega))
 obtain⟨c2,hg2⟩:∃c2,c2=aM fs false d b3 (⟨s2,0,0⟩:aZ):=⟨_,rfl⟩;have HG2:=aB hg2.symm;first|rw[<-hg2] at HX2|rw[show _=c2 from hg2.symm] at HX2
 clear hg2;have m2_0:=aA HL2.out.blk (i:=0) rfl;have m2_1:=aA HL2.out.blk (i:=1) rfl;have m2_2:=aA HL2.out.blk (i:=2) rfl;have m2_3:=aA HL2.out.blk (i:=3) rfl;have hz2:=aD HL2.out.blk;go_wp2_with fail;refine HX2.out.mono ?_;rintro e w3 ⟨hb2,⟨s3,hc2,rfl,hck2⟩|⟨hk2,rfl⟩⟩
 rotate_left
 ·have HB:=aB (HL2.out.fb.trans hb2);have HK:=aB hk2;clear hb2 hk2;go_wp2_with fail;exact⟨rfl,cY.fault (c1:=c2) HB.out HK.out (by rw[HG0.out,HG1.out,HG2.out];exact Stk.refl c2)⟩
 have HL3:=aB (HL2.out.step hb2);have HC3:=aB hck2;subst hc2;clear hb2 hck2 HX2 m2_0 m2_1 m2_2 m2_3 hz2;go_wp2_with fail;go_end0;exact cY.done HL3.out.fb (by rw[HG0.out,HG1.out,HG2.out]) HC3.out
theorem Y5(cb lo:Nat)(fs:List aC)(fv:Value)(d:Nat)(IH:jQ cb lo fs fv d)(HN:mC cb lo fs fv d)(HBK:rV cb lo fs fv d)(seen:List (List UInt8))(w:World)(h:CK cb lo fs fv w seen)(l:Nat)(v1:Value)(a1:aC)(h1:PN (Btw lo cb) w v1 a1)(hd1:eZ d a1)(u2:Value)(b2:aC)(hop2:b2.op=[98,108,111,99,107])(g2:PKid (Btw lo cb) w u2 b2.kids)(hd2b:eZ d b2)(hwt:seen.length+(bT d a1+(bT d b2+(0+0)))<=90000):
 Calls prog 167 #[.pointer (some ⟨cb,0,none⟩),.iface 334 (.agg #[.int .i64 l,v1,u2,.slice none 0 0])] w (cY cb lo fs fv w ((aM fs false d b2 (aM fs false d a1 ⟨seen,0,0⟩)))):=by
 obtain⟨T1,cs1,rfl⟩:=h1.form;obtain⟨x2,y2,rfl⟩:=g2.slice;have q0:=sB;have q1:=uG;have q2:=MZ;obtain⟨hl0,hk0⟩:=Loc.new h (.cells #[.int .i64 l,(.iface T1 (.agg cs1)),(.slice x2 b2.kids.length y2),.slice none 0 0] 334);have HL0:=aB hl0;have HC0:=aB hk0;clear h hl0 hk0;go_enter Tryz.func167,Tryz.ntmps167;have HX0:=aB (IH (.iface T1 (.agg cs1)) a1 seen (w.alloc (.cells #[.int .i64 l,(.iface T1 (.agg cs1)),(.slice x2 b2.kids.length y2),.slice none 0 0] 334)) HC0.out (h1.below HL0.out.fb.bel) hd1 (by omega))
 have HA0:=aB (fS fs false d a1 ⟨seen,0,0⟩);obtain⟨c0,hg0⟩:∃c0,c0=aM fs false d a1 (⟨seen,0,0⟩:aZ):=⟨_,rfl⟩;have HG0:=aB hg0.symm;rw[<-hg0] at HA0;first|rw[<-hg0] at HX0|rw[show _=c0 from hg0.symm] at HX0
 clear hg0;go_wp2_with fail;refine HX0.out.mono ?_;rintro e w1 ⟨hb0,⟨s1,hc0,rfl,hck0⟩|⟨hk0,rfl⟩⟩
 rotate_left
 ·have HB:=aB (HL0.out.fb.trans hb0);have HK:=aB hk0;clear hb0 hk0;go_wp2_with fail;exact⟨rfl,cY.fault (c1:=c0) HB.out HK.out (by rw[HG0.out];exact((Stk.walk fs false d b2 c0)).trans (Stk.refl _))⟩
 have HL1:=aB (HL0.out.step hb0);have HC1:=aB hck0;subst hc0;have hn1:s1.length+(bT d b2+(0+0))<=90000:=kW HA0.out rfl (by omega)
 clear hb0 hck0 HX0;have HX1:=aB (HBK (.slice x2 b2.kids.length y2) b2 s1 w1 HC1.out hop2 (g2.below HL1.out.fb.bel) hd2b (by omega))
 have HA1:=aB (fS fs false d b2 ⟨s1,0,0⟩);obtain⟨c1,hg1⟩:∃c1,c1=aM fs false d b2 (⟨s1,0,0⟩:aZ):=⟨_,rfl⟩;have HG1:=aB hg1.symm;rw[<-hg1] at HA1;first|rw[<-hg1] at HX1|rw[show _=c1 from hg1.symm] at HX1
 clear hg1;have m1_0:=aA HL1.out.blk (i:=0) rfl;have m1_1:=aA HL1.out.blk (i:=1) rfl;have m1_2:=aA HL1.out.blk (i:=2) rfl;have m1_3:=aA HL1.out.blk (i:=3) rfl;have hz1:=aD HL1.out.blk;go_wp2_with fail;refine HX1.out.mono ?_;rintro e w2 ⟨hb1,⟨s2,hc1,rfl,hck1⟩|⟨hk1,rfl⟩⟩
 rotate_left
 ·have HB:=aB (HL1.out.fb.trans hb1);have HK:=aB hk1;clear hb1 hk1;go_wp2_with fail;exact⟨rfl,cY.fault (c1:=c1) HB.out HK.out (by rw[HG0.out,HG1.out];exact(Stk.refl c1))⟩
 have HL2:=aB (HL1.out.step hb1);have HC2:=aB hck1;subst hc1;have hn2:s2.length+(0+0)<=90000:=kW HA1.out rfl (by omega)
 clear hb1 hck1 HX1 m1_0 m1_1 m1_2 m1_3 hz1;have HX2:=aB (YH d HN s2 w2 HC2.out (by omega))
 obtain⟨c2,hg2⟩:∃c2,c2=(⟨s2,0,0⟩:aZ):=⟨_,rfl⟩;have HG2:=aB hg2.symm;first|rw[<-hg2] at HX2|rw[show _=c2 from hg2.symm] at HX2
 clear hg2;have m2_0:=aA HL2.out.blk (i:=0) rfl;have m2_1:=aA HL2.out.blk (i:=1) rfl;have m2_2:=aA HL2.out.blk (i:=2) rfl;have m2_3:=aA HL2.out.blk (i:=3) rfl;have hz2:=aD HL2.out.blk;go_wp2_with fail;refine HX2.out.mono ?_;rintro e w3 ⟨hb2,⟨s3,hc2,rfl,hck2⟩|⟨hk2,rfl⟩⟩
 rotate_left
 ·have HB:=aB (HL2.out.fb.trans hb2);have HK:=aB hk2;clear hb2 hk2;go_wp2_with fail;exact⟨rfl,cY.fault (c1:=c2) HB.out HK.out (by rw[HG0.out,HG1.out,HG2.out];exact Stk.refl c2)⟩
 have HL3:=aB (HL2.out.step hb2);have HC3:=aB hck2;subst hc2;clear hb2 hck2 HX2 m2_0 m2_1 m2_2 m2_3 hz2;go_wp2_with fail;go_end0;exact cY.done HL3.out.fb (by rw[HG0.out,HG1.out,HG2.out]) HC3.out
theorem OM(cb lo:Nat)(fs:List aC)(fv:Value)(seen:List (List UInt8))(w:World)(h:CK cb lo fs fv w seen)(l:Nat)(x:List UInt8)(hwt:seen.length+(0+0)<=90000):
 Calls prog 167 #[.pointer (some ⟨cb,0,none⟩),.iface 344 (.agg #[.int .i64 l,.string (bs x)])] w (cY cb lo fs fv w (AI ⟨seen,0,0⟩ l x)):=by
 have q0:=rY;have q1:=tA;have q2:=AO;have q3:=tZ;have q4:=sZ;have q5:=uA;have q6:=vJ;have q7:=pQ;obtain⟨hl0,hk0⟩:=Loc.new h (.cells #[.int .i64 l,.string (bs x)] 344);have HL0:=aB hl0;have HC0:=aB hk0;clear h hl0 hk0;go_enter Tryz.func167,Tryz.ntmps167;have HX0:=aB (C9 cb lo fs fv (w.alloc (.cells #[.int .i64 l,.string (bs x)] 344)) seen HC0.out (by omega) l x)
 obtain⟨c0,hg0⟩:∃c0,c0=AI (⟨seen,0,0⟩:aZ) l x:=⟨_,rfl⟩;have HG0:=aB hg0.symm;first|rw[<-hg0] at HX0|rw[show _=c0 from hg0.symm] at HX0
 clear hg0;go_wp2_with fail;refine HX0.out.mono ?_;rintro e w1 ⟨hb0,⟨s1,hc0,rfl,hck0⟩|⟨hk0,rfl⟩⟩
 rotate_left
 ·have HB:=aB (HL0.out.fb.trans hb0);have HK:=aB hk0;clear hb0 hk0;go_wp2_with fail;exact⟨rfl,cY.fault (c1:=c0) HB.out HK.out (by rw[HG0.out];exact Stk.refl c0)⟩
 have HL1:=aB (HL0.out.step hb0);have HC1:=aB hck0;subst hc0;clear hb0 hck0 HX0;go_wp2_with fail;go_end0;exact cY.done HL1.out.fb (by rw[HG0.out]) HC1.out
theorem YO(cb lo:Nat)(fs:List aC)(fv:Value)(d:Nat)(IH:jQ cb lo fs fv d)(HN:mC cb lo fs fv d)(seen:List (List UInt8))(w:World)(h:CK cb lo fs fv w seen)(l:Nat)(x:List UInt8)(u2:Value)(k2:List aC)(g2:PKid (Btw lo cb) w u2 k2)(hk2d:∀k∈k2,eZ d k)(v1:Value)(a1:aC)(h1:PN (Btw lo cb) w v1 a1)(hd1:eZ d a1)(hwt:seen.length+(0+((k2.map (bT d)).sum+(bT d a1+0)))<=90000):
 Calls prog 167 #[.pointer (some ⟨cb,0,none⟩),.iface 332 (.agg #[.int .i64 l,.string (bs x),u2,v1])] w (cY cb lo fs fv w (aM fs false d a1 (foldL fs d k2 (AI ⟨seen,0,0⟩ l x)))):=by
 obtain⟨x2,y2,rfl⟩:=g2.slice;obtain⟨T1,cs1,rfl⟩:=h1.form;have q0:=uI;have q1:=vY;obtain⟨hl0,hk0⟩:=Loc.new h (.cells #[.int .i64 l,.string (bs x),(.slice x2 k2.length y2),(.iface T1 (.agg cs1))] 332);have HL0:=aB hl0;have HC0:=aB hk0;clear h hl0 hk0;go_enter Tryz.func167,Tryz.ntmps167;have HX0:=aB (C9 cb lo fs fv (w.alloc (.cells #[.int .i64 l,.string (bs x),(.slice x2 k2.length y2),(.iface T1 (.agg cs1))] 332)) seen HC0.out (by omega) l x)
 have HA0:=aB (WQ ⟨seen,0,0⟩ l x);obtain⟨c0,hg0⟩:∃c0,c0=AI (⟨seen,0,0⟩:aZ) l x:=⟨_,rfl⟩;have HG0:=aB hg0.symm;rw[<-hg0] at HA0;first|rw[<-hg0] at HX0|rw[show _=c0 from hg0.symm] at HX0
 clear hg0;go_wp2_with fail;refine HX0.out.mono ?_;rintro e w1 ⟨hb0,⟨s1,hc0,rfl,hck0⟩|⟨hk0,rfl⟩⟩
 rotate_left
 ·have HB:=aB (HL0.out.fb.trans hb0);have HK:=aB hk0;clear hb0 hk0;go_wp2_with fail;exact⟨rfl,cY.fault (c1:=c0) HB.out HK.out (by rw[HG0.out];exact((Stk.fold (fun s k=>Stk.walk fs false d k s) _ _)).trans (Stk.walk fs false d a1 _))⟩
 have HL1:=aB (HL0.out.step hb0);have HC1:=aB hck0;subst hc0;have hn1:s1.length+((k2.map (bT d)).sum+(bT d a1+0))<=90000:=kW HA0.out rfl (by omega)
 clear hb0 hck0 HX0;have HX1:=aB (HN (.slice x2 k2.length y2) k2 s1 w1 HC1.out (g2.below HL1.out.fb.bel) hk2d (by omega) (by have:=uS hk2d;omega))
 have HA1:=aB (IL fs d k2 ⟨s1,0,0⟩);obtain⟨c1,hg1⟩:∃c1,c1=foldL fs d k2 (⟨s1,0,0⟩:aZ):=⟨_,rfl⟩;have HG1:=aB hg1.symm;rw[<-hg1] at HA1;first|rw[<-hg1] at HX1|rw[show _=c1 from hg1.symm] at HX1
 clear hg1;have m1_0:=aA HL1.out.blk (i:=0) rfl;have m1_1:=aA HL1.out.blk (i:=1) rfl;have m1_2:=aA HL1.out.blk (i:=2) rfl;have m1_3:=aA HL1.out.blk (i:=3) rfl;have hz1:=aD HL1.out.blk;go_wp2_with fail;refine HX1.out.mono ?_;rintro e w2 ⟨hb1,⟨s2,hc1,rfl,hck1⟩|⟨hk1,rfl⟩⟩
 rotate_left
 ·have HB:=aB (HL1.out.fb.trans hb1);have HK:=aB hk1;clear hb1 hk1;go_wp2_with fail;exact⟨rfl,cY.fault (c1:=c1) HB.out HK.out (by rw[HG0.out,HG1.out];exact(Stk.walk fs false d a1 c1))⟩
 have HL2:=aB (HL1.out.step hb1);have HC2:=aB hck1;subst hc1;have hn2:s2.length+(bT d a1+0)<=90000:=kW HA1.out rfl (by omega)
 clear hb1 hck1 HX1 m1_0 m1_1 m1_2 m1_3 hz1;have HX2:=aB (IH (.iface T1 (.agg cs1)) a1 s2 w2 HC2.out (h1.below HL2.out.fb.bel) hd1 (by omega))
 obtain⟨c2,hg2⟩:∃c2,c2=aM fs false d a1 (⟨s2,0,0⟩:aZ):=⟨_,rfl⟩;have HG2:=aB hg2.symm;first|rw[<-hg2] at HX2|rw[show _=c2 from hg2.symm] at HX2
 clear hg2;have m2_0:=aA HL2.out.blk (i:=0) rfl;have m2_1:=aA HL2.out.blk (i:=1) rfl;have m2_2:=aA HL2.out.blk (i:=2) rfl;have m2_3:=aA HL2.out.blk (i:=3) rfl;have hz2:=aD HL2.out.blk;go_wp2_with fail;refine HX2.out.mono ?_;rintro e w3 ⟨hb2,⟨s3,hc2,rfl,hck2⟩|⟨hk2,rfl⟩⟩
 rotate_left
 ·have HB:=aB (HL2.out.fb.trans hb2);have HK:=aB hk2;clear hb2 hk2;go_wp2_with fail;exact⟨rfl,cY.fault (c1:=c2) HB.out HK.out (by rw[HG0.out,HG1.out,HG2.out];exact Stk.refl c2)⟩
 have HL3:=aB (HL2.out.step hb2);have HC3:=aB hck2;subst hc2;clear hb2 hck2 HX2 m2_0 m2_1 m2_2 m2_3 hz2;go_wp2_with fail;go_end0;exact cY.done HL3.out.fb (by rw[HG0.out,HG1.out,HG2.out]) HC3.out
theorem Fr.keepS{pb b:Nat}{w w':World}{o:Obj}(hf:Fr pb w w')(h:w.heap[b]?=some o)(hn:b≠pb):w'.heap[b]?=some o:=by
 rw[hf.block b (aD h) hn];exact h
def M2(sb:Nat)(src:ByteArray)(n L:Nat)(w:World)(r:oZ)(e:Ending)(w':World):Prop:=
 Fr sb w w'/\((r.ok=true/\e=.returned (nX ⟨r.sort,r.text,L⟩)/\SC sb src (n+r.size) L w')\/(r.ok=false/\e=dC 3 L))
theorem lW{sb b m L:Nat}{src:ByteArray}{w wc:World}(hf:Fr sb w wc)(hs:SC sb src m L wc)(hb:w.heap.size<=b)(hn:b≠sb)(v0 v1 v2 v3:Value):
 Fr sb w ((((wc.setCell ⟨b,0,none⟩ v0).setCell ⟨b,1,none⟩ v1).setCell ⟨b,2,none⟩ v2).setCell ⟨b,3,none⟩ v3)/\SC sb src m L ((((wc.setCell ⟨b,0,none⟩ v0).setCell ⟨b,1,none⟩ v1).setCell ⟨b,2,none⟩ v2).setCell ⟨b,3,none⟩ v3):=by
 refine⟨(((hf.setCell (Or.inr hb) _).setCell (Or.inr hb) _).setCell (Or.inr hb) _).setCell (Or.inr hb) _,?_⟩;unfold SC;rw[m7 _ _ _ _ (by show sb≠b;omega),m7 _ _ _ _ (by show sb≠b;omega),m7 _ _ _ _ (by show sb≠b;omega),m7 _ _ _ _ (by show sb≠b;omega)]
 exact hs
theorem rJ(src:ByteArray)(n:Nat):(src.extract n src.size).size=src.size-n:=by simp
theorem WZ(sb:Nat)(src:ByteArray)(n L:Nat)(w:World)(h:SC sb src n L w)(hs:src.size<=2000000000)(hn:n<=src.size):
 Calls prog 251 #[.pointer (some ⟨sb,0,none⟩)] w (M2 sb src n L w (gC (src.data.toList.drop n) true)):=by
 obtain⟨sp,hsp⟩:∃sp,sp=bF (dT true) (src.data.toList.drop n):=⟨_,rfl⟩
 have hle:sp<=src.size-n:=by
  have:=kH (dT true) (src.data.toList.drop n);rw[hsp];simpa using this
 have hsb:=(SC.cells h).1;have hrb:w.heap.size≠sb:=by omega
 have HZ:Hid ((w.alloc (.cells #[.int .i64 0,.string ⟨#[]⟩,.int .i64 0,.int .i64 0] 206)).heap[w.heap.size]?=some (.cells #[.int .i64 0,.string ⟨#[]⟩,.int .i64 0,.int .i64 0] 206 (0,0))):=aT _ _ rfl _;have h1:SC sb src n L (w.alloc (.cells #[.int .i64 0,.string ⟨#[]⟩,.int .i64 0,.int .i64 0] 206)):=by unfold SC;rw[o9 _ _ _ hsb];exact h
 obtain⟨h0,c0,c1,c2,f1,f2⟩:=h1.cells;have HZD:Hid ((w.alloc (.cells #[.int .i64 0,.string ⟨#[]⟩,.int .i64 0,.int .i64 0] 206)).drew.heap[w.heap.size]?=some (.cells #[.int .i64 0,.string ⟨#[]⟩,.int .i64 0,.int .i64 0] 206 (0,0))):=HZ.out;have HSP:=aB (fun w=>uJ (dT true) 297 (fun _ _=>rfl) XN (src.extract n src.size) w (by rw[rJ];omega))
 rw[mR,<-hsp] at HSP;have HTK:=aB (nT sb src n L sp (w.alloc (.cells #[.int .i64 0,.string ⟨#[]⟩,.int .i64 0,.int .i64 0] 206)).drew h1 hs (by omega))
 have HKW:=aB (OY ((src.data.toList.drop n).take sp));obtain⟨tx,htx⟩:∃tx,tx=(src.data.toList.drop n).take sp:=⟨_,rfl⟩;rw[<-htx] at HTK HKW;have hlen:(bs tx).size=sp:=by rw[gI,htx,an_];simp;omega
 have HW:Hid (gC (src.data.toList.drop n) true={ sort:=if iQ.contains tx then 107 else 110,text:=tx,size:=sp,ok:=decide (sp<=16) }):=by
  show _=_
  unfold gC;rw[<-hsp,<-htx];rfl
 rw[HW.out];have H1:=aB h1;have HF0:Hid (Fr sb w (w.alloc (.cells #[.int .i64 0,.string ⟨#[]⟩,.int .i64 0,.int .i64 0] 206))):=(Fr.refl _ _).alloc _;clear h h1 hsp htx HW;obtain⟨kw,hkw⟩:∃kw,kw=iQ.contains tx:=⟨_,rfl⟩;rw[<-hkw] at HKW ⊢
 clear hkw;obtain⟨so,hso⟩:∃so,so=(if kw then 107 else 110):=⟨_,rfl⟩
 rw[show (if kw=true then 107 else 110)=so from hso.symm]
 have HSO:=aB hso;clear hso;obtain⟨rr,hrr⟩:∃rr:oZ,rr={ sort:=so,text:=tx,size:=sp,ok:=decide (sp<=16) }:=⟨_,rfl⟩;rw[<-hrr];have HRR:=aB hrr;clear hrr;go_enter Tryz.func251,Tryz.ntmps251;go_wp2_with fail;go_cut [3] (fun v wc=>v=.string (bs tx)/\SC sb src (n+sp) L wc/\Fr sb w wc/\wc.heap[w.heap.size]?=some (.cells #[.int .i64 0,.string ⟨#[]⟩,.int .i64 0,.int .i64 0] 206 (0,0)))
 case first=>
  go_region_law (first|(go_simp;go_at_call 248;refine(HSP.out _).mono ?_;rintro e w1 ⟨rfl,hw⟩;obtain rfl:=hw.symm)|(go_simp;go_at_call 296;refine HTK.out.mono ?_;rintro e w2 ⟨rfl,hs2,hf2⟩;have HS2:=aB hs2;have HF2:=aB (HF0.out.drew.trans hf2);have HZ2:=aB (hf2.keepS HZD.out hrb);clear hs2 hf2))
  all_goals
   go_wp2_with fail;go_meet
   case rel=>exact⟨rfl,HS2.out,HF2.out,HZ2.out⟩
 case rest=>
  obtain⟨rfl,hs2,hf2,hz2⟩:=hcut;clear c0 c1 c2 f1 f2 h0;obtain⟨h0,c0,c1,c2,f1,f2⟩:=hs2.cells;have HS2:=aB hs2;have HF2:=aB hf2;have HZ2:=aB hz2;have z0:=aA hz2 (i:=0) rfl;have z1:=aA hz2 (i:=1) rfl;have z2:=aA hz2 (i:=2) rfl;have z3:=aA hz2 (i:=3) rfl;have y0:=aE (i:=0) hz2;have y1:=aE (i:=1) hz2;have y2:=aE (i:=2) hz2;have y3:=aE (i:=3) hz2;have hzz:=aD hz2;clear hs2 hf2 hz2 HTK HSP HZ;by_cases h16:sp<=16
  ·cases kw
   all_goals
    have hso:=HSO.out;clear HSO;subst hso;have hrr:=HRR.out;clear HRR;subst hrr;go_wp2_with fail;refine(HKW.out _).mono ?_;rintro e w3 ⟨rfl,hw⟩;obtain rfl:=hw.symm;go_wp2_with fail
    first
     |(refine bodyPost_ret (v:=.agg #[.int .i64 1,.string (bs tx),.int .i64 0,.int .i64 L]) (by simp[results,Tryz.results251,go_sem,z0,z1,z2,z3]) rfl ?_
       have hfin:=lW HF2.out HS2.out (l9 _) hrb (.int .i64 1) (.string (bs tx)) (.int .i64 0) (.int .i64 L);exact⟨hfin.1,Or.inl ⟨by first|rfl|exact decide_eq_true h16,rfl,hfin.2⟩⟩)
     |(refine bodyPost_ret (v:=.agg #[.int .i64 0,.string (bs tx),.int .i64 0,.int .i64 L]) (by simp[results,Tryz.results251,go_sem,z0,z1,z2,z3]) rfl ?_
       have hfin:=lW HF2.out HS2.out (l9 _) hrb (.int .i64 0) (.string (bs tx)) (.int .i64 0) (.int .i64 L);exact⟨hfin.1,Or.inl ⟨by first|rfl|exact decide_eq_true h16,rfl,hfin.2⟩⟩)
  ·have hrr:=HRR.out;clear HRR;subst hrr;have HFL:=aB (rI sb src (n+sp) L wc HS2.out);go_wp2_with fail;refine HFL.out.mono ?_;rintro e w3 ⟨rfl,hw⟩;obtain rfl:=hw.symm;go_wp2_with fail;exact⟨rfl,HF2.out,Or.inr ⟨by first|rfl|exact decide_eq_false h16,rfl⟩⟩
end Go.Proofs.YtblbkfdhjfppkaaGreatDoor
