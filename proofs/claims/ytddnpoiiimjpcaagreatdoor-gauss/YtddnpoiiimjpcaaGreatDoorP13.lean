/- Contracts of the program: statements. -/
import Derived.Test.YtddnpoiiimjpcaaGreatDoorP12
set_option linter.defProp false
set_option maxRecDepth 100000
set_option maxHeartbeats 4000000
namespace Go.Proofs.YtddnpoiiimjpcaaGreatDoor
open Hs
open _root_.Go.Proofs.Tryz
open Go.RowKit
def EZ(lo:Nat)(w':aH)(v:aQ)(b:aC):Prop:=b.op=[98,108,111,99,107]/\PKid (Btw lo w'.heap.size) w' v b.kids
def W9(C:Ctx)(w:aH)(r:bX aC)(e:Ending)(w':aH):Prop:=Out C w r (EZ w.heap.size) e w'
def BReads(C:Ctx)(F:Nat)(X:Nat->bX aC):Prop:=∀w p,PAt C w p->X p≠.error 0->Calls prog F #[bO C.pb] w (W9 C w (X p))
def uG(B:Nat->bX aC)(ts:List aX)(q:Nat):bX (Option aC):=if aV ts q [101,108,115,101] then bZ some (B (q+1)) else .ok (none,q)
def J4(lo:Nat)(w':aH)(v:aQ):Option aC->Prop
 |none=>v=bV
 |some b=>EZ lo w' v b
def EZ.slice{lo:Nat}{w:aH}{v:aQ}{b:aC}(h:EZ lo w v b):∃x n c,v=.slice x n c:=by
 obtain⟨x,c,e⟩:=h.2.slice;exact⟨x,_,c,e⟩
def J4.slice{lo:Nat}{w:aH}{v:aQ}{o:Option aC}(h:J4 lo w v o):∃x n c,v=.slice x n c:=by
 cases o with
 |none=>exact⟨none,0,0,h⟩
 |some b=>exact EZ.slice h
def EZ.grow{lo lo':Nat}{w w':aH}{v:aQ}{b:aC}(h:EZ lo w v b)(a:∀k,lo<=k->k<w.heap.size->w'.heap[k]?=w.heap[k]?)(d:lo'<=lo)(c:w.heap.size<=w'.heap.size):EZ lo' w' v b:=⟨h.1,h.2.grow a d c⟩
def N6(E B:Nat->bX aC)(ts:List aX)(p:Nat):
 qH E B ts p=bR (E (p+1)) fun c q=>bR (B q) fun b a=>bZ (fun o=>aS [105,102] (aR ts p).line [] (c::b::o.toList)) (uG B ts a):=by
 unfold qH;cases E (p+1) with
 |error l=>rfl
 |ok e=>
  obtain⟨c,q⟩:=e;show bR (B q) _=bR (B q) _
  cases B q with
  |error l=>rfl
  |ok d=>
   obtain⟨b,a⟩:=d;show (if _ then _ else _)=bZ _ (uG B ts a)
   unfold uG;split
   ·cases B (a+1)<;>rfl
   ·rfl
def F9(C:Ctx)(B:Nat->bX aC)(L:BReads C 144 B)(w:aH)(q:Nat)(h:PAt C w q)(r:bX (Option aC))(M:r=uG B C.ts q)(s:r≠.error 0):
 Calls prog 210 #[bO C.pb] w (Out C w r (J4 w.heap.size)):=by
 have p:=aB (dJ C w q ⟨#[101,108,115,101]⟩ h);have N:(⟨#[101,108,115,101]⟩:ByteArray).data.toList=[101,108,115,101]:=rfl;rw[N] at p;have A:=aB L;have y:=aB M;have E:=aB s;clear h L M s N;cases a:aV C.ts q [101,108,115,101]
 ·have v:Hid (r=.ok (none,q)):=by show _=_;rw[y.out];unfold uG;rw[a];rfl
  rw[a] at p;clear a y;go_in
  go_wp2_with fail;refine p.mono ?_;rintro e K ⟨rfl,f,d⟩;have G:=aB f;have i:=aB d;clear f d;go_wp2
  go_ret;exact Out.ok v i G rfl
 ·obtain⟨z,j⟩:∃z,z=B (q+1):=⟨_,rfl⟩;have k:Hid (r=bZ some z):=by show _=_;rw[y.out,j];unfold uG;rw[a];rfl
  have u:B (q+1)≠.error 0:=fun e=>E (by rw[k.out,j,e];rfl)
  have D:=aB j;rw[a] at p;clear a y j;go_in
  go_wp2_with fail;refine p.mono ?_;rintro e K ⟨rfl,f,d⟩;have J:=aB (A K (q+1) f u);rw[<-D.out] at J;have i:=aB d;have F:=d.size;clear f d u p;cases z with
  |error l=>
   have v:Hid (r=.error l):=k;go_wp2_with fail;refine J.mono ?_;rintro e P ⟨g,rfl⟩;have m:=aB (i.trans g);clear g;go_wp2_with fail;exact⟨rfl,Out.err v m⟩
  |ok O=>
   obtain⟨b,Q⟩:=O;have v:Hid (r=.ok (some b,Q)):=k;go_wp2_with fail;refine J.mono ?_;rintro e P ⟨g,t,S,rfl,o⟩;have m:=aB (i.trans g);have I:=aB t;have H:=aB o;obtain⟨x,n,c,rfl⟩:=o.slice;clear g t o;go_wp2
   go_ret;exact Out.ok v m I (show EZ _ _ _ _ from H.grow (fun _ _ _=>rfl) F dH)
def ZY(C:Ctx)(E B:Nat->bX aC)(HE:PReads C 88 E)(HB:BReads C 144 B):PReads C 188 (iZ E B C.ts):=by
 intro w p h bd;have br:=aB (mI C w p h);have cb:=aB HE;have bk:=aB HB;have bj:=aB (ND C E HE);have cg:=aB (QM C E HE);have H:=aB h;have co:=h.pb_lt;have cv:=h.g_lt;obtain⟨r,hr⟩:∃r,r=iZ E B C.ts p:=⟨_,rfl⟩;rw[<-hr] at bd ⊢
 rw[iZ] at hr;have j:=aB hr;have ab:=aB bd;clear h HE HB bd hr;generalize bv:(aR C.ts p).line=pl at*;have al:=aB bv;clear bv;go_in
 go_wp2_with fail;refine br.mono ?_;rintro e w1 ⟨rfl,aw⟩;have m:=aB ((Fr.below (pb:=C.pb) aw).alloc (.cells #[Iv0 pl] 177));have J:=aB ((H.below aw).alloc (.cells #[Iv0 pl] 177));have n:=aB (J7.new w1 pl);have z:w1.heap.size≠C.pb:=by have:=aw.size;omega
 have cs:=aw.size;clear aw br;have M:=aB (dJ C (w1.alloc (.cells #[Iv0 pl] 177)) p ⟨#[118,97,114]⟩ J);have ed:(⟨#[118,97,114]⟩:ByteArray).data.toList=[118,97,114]:=rfl;rw[ed] at M;clear ed;cases d:aV C.ts p [118,97,114];rotate_left
 ·have HRt:Hid (r=oD E C.ts p):=by show _=_;rw[j.out,d];rfl
  rw[d] at M;clear d j;go_wp2_with fail;refine M.mono ?_;rintro e W1 ⟨rfl,A,O⟩;have HFt:=aB (m.trans O);have HBt:=aB (O.keepB n z);clear O M m J n;have aj:=aB (mH C W1 (p+1) A);clear A;obtain⟨t,ht⟩:∃t,t=aR C.ts (p+1):=⟨_,rfl⟩;rw[<-ht] at aj;have bh:=aB ht;clear ht;cases hs:(t.sort==110)
  ·have S:Hid (r=.error t.line):=by show _=_;rw[HRt.out];unfold oD;rw[<-bh.out,hs];show Hs.bad _ _=_;unfold Hs.bad;rw[<-bh.out]
   rw[hs] at aj;clear hs HRt;go_wp2_with fail;refine aj.mono ?_;rintro e w2 ⟨f,bm⟩;obtain rfl:e=dF 4 t.line:=bm;have L:=aB (HFt.trans f);clear f;go_wp2_with fail;exact⟨rfl,Out.err S L⟩
  have P:Hid (r=if aV C.ts (p+2) [61] then bZ (fun v=>aS [118,97,114] pl [] [aS [116,97,114,103,101,116] t.line t.text [],v]) (aM C.ts [59] (E (p+3))) else Hs.bad C.ts (p+2)):=by
   show _=_
   rw[HRt.out];unfold oD;rw[<-bh.out,hs,GT,al.out];rfl
  rw[hs] at aj;clear hs HRt;go_wp2_with fail;refine aj.mono ?_;rintro e w2 ⟨f,bm⟩;obtain⟨rfl,y⟩:=bm;have L:=aB ((HFt.trans f).alloc (.cells #[Iv0 t.line,.string (bs t.text)] 179));have ak:=aB (gB C (w2.alloc (.cells #[Iv0 t.line,.string (bs t.text)] 179)) (p+2) ⟨#[61]⟩ (y.alloc _));have bu:(⟨#[61]⟩:ByteArray).data.toList=[61]:=rfl;rw[bu] at ak;have bz:Hid ((w2.alloc (.cells #[Iv0 t.line,.string (bs t.text)] 179)).heap[w2.heap.size]?=some (.cells #[Iv0 t.line,.string (bs t.text)] 179 (0,0))):=aU _ _ rfl _;have bt:w2.heap.size≠C.pb:=by have:=y.pb_lt;omega
  have Q:=aB ((f.alloc (.cells #[Iv0 t.line,.string (bs t.text)] 179)).keepB HBt z);clear f y aj bu;cases d:aV C.ts (p+2) [61]
  ·have S:Hid (r=.error (aR C.ts (p+2)).line):=by show _=_;rw[P.out,d];rfl
   rw[d] at ak;clear d P;go_wp2_with fail;refine ak.mono ?_;rintro e w3 ⟨W,bg⟩;obtain rfl:e=dF 4 (aR C.ts (p+2)).line:=bg;have ac:=aB (L.trans W);clear W;go_wp2_with fail;exact⟨rfl,Out.err S ac⟩
  obtain⟨X,s⟩:∃X,X=aM C.ts [59] (E (p+3)):=⟨_,rfl⟩;have u:Hid (r=bZ (fun v=>aS [118,97,114] pl [] [aS [116,97,114,103,101,116] t.line t.text [],v]) X):=by show _=_;rw[P.out,d,s];rfl
  have V:aM C.ts [59] (E (p+3))≠.error 0:=fun e=>ab (by rw[u.out,s,e];rfl)
  have av:=aB s;rw[d] at ak;clear d P s;go_wp2_with fail;refine ak.mono ?_;rintro e w3 ⟨W,bg⟩;obtain⟨rfl,an⟩:=bg;have Y:=aB (bj w3.drew (p+3) an.drew V);simp only[<-av.out] at Y;have ac:=aB (L.trans W);have bi:=aB (W.keepB Q z);have ai:=aB (W.keepB bz bt);have c0:=aA bi (i:=0) rfl;have ao:=aD bi;have m0:=aA ai (i:=0) rfl;have m1:=aA ai (i:=1) rfl;have ct:=aD ai;have am:=ac.size;clear W an ak Q bz V;cases X with
  |error l=>
   have S:Hid (r=.error l):=u;go_wp2_with fail;go_region_law (refine thrown .nilIface ?_ ?_;(focus go_simp;go_at_call 209;refine Y.mono ?_;rintro e w4 ⟨g,rfl⟩;exact j6 rfl (Out.err S (ac.drew.trans g)));intro x)
   all_goals exact x.out.elim
  |ok aq=>
   obtain⟨a,q⟩:=aq;have S:Hid (r=.ok (aS [118,97,114] pl [] [aS [116,97,114,103,101,116] t.line t.text [],a],q)):=u;clear u;go_wp2_with fail;go_region_law (go_simp;go_at_call 209;refine Y.mono ?_;rintro e w4 ⟨g,U,v4,rfl,Z⟩;obtain⟨T4,bw,rfl⟩:=Z.form;have K:=aB ((Fr.refl C.pb w3).drew.trans g);have ae:=aB Z;have af:=aB U;have ap:=aB (K.keepB ai bt);have T:=aB (K.keepB bi z);have d0:=aA ap (i:=0) rfl;have d1:=aA ap (i:=1) rfl;have cu:=aD ap;have d2:=aA T (i:=0) rfl;have ax:=aD T;clear g U Z)
   all_goals (go_wp2_with fail;go_ret)
   all_goals exact Out.ok S (ac.trans K) af (PN.mk (Y3 (Y3 (Y3 (Y3 (Y3 (Y3 (Y3 (Y3 (Y3 (Y4 (⟨rfl,_,aS [116,97,114,103,101,116] t.line t.text [],a,rfl,rfl,rfl,rfl⟩))))))))))) (fun p hp=>by obtain rfl:=Z1.1 hp;exact Prt.ok.node (ae.grow (fun _ _ _=>rfl) am dH)))
 have HRn:Hid (r=if aV C.ts p [105,102] then qH E B C.ts p else if aV C.ts p [119,104,105,108,101] then kE E B C.ts p else if aV C.ts p [114,101,116,117,114,110] then gX E C.ts p else if aV C.ts p [112,114,105,110,116] then iR E C.ts p else eW E C.ts p):=by show _=_;rw[j.out,d];rfl
 rw[d] at M;clear d j;have j:=HRn;clear HRn;go_wp2_with fail;refine M.mono ?_;rintro e V1 ⟨rfl,G,N⟩;have D:=aB (m.trans N);have I:=aB (N.keepB n z);have F:=aB G;clear N G M m n J;have m:=D;have n:=I;have J:=F;clear D I F;have M:=aB (dJ C V1 p ⟨#[105,102]⟩ J);have ed:(⟨#[105,102]⟩:ByteArray).data.toList=[105,102]:=rfl;rw[ed] at M;clear ed;cases d:aV C.ts p [105,102];rotate_left
 ·have HRt:Hid (r=qH E B C.ts p):=by show _=_;rw[j.out,d];rfl
  rw[d] at M;clear d j;go_wp2_with fail;refine M.mono ?_;rintro e W1 ⟨rfl,A,O⟩;have HFt:=aB (m.trans O);have HBt:=aB (O.keepB n z);clear O M m J n;obtain⟨X,s⟩:∃X,X=E (p+1):=⟨_,rfl⟩;have P:Hid (r=bR X fun c q=>bR (B q) fun b q2=>bZ (fun o=>aS [105,102] pl [] (c::b::o.toList)) (uG B C.ts q2)):=by show _=_;rw[HRt.out,s,N6,al.out]
  have V:E (p+1)≠.error 0:=fun e=>ab (by rw[P.out,s,e];rfl)
  have Y:=aB (cb W1 (p+1) A V);rw[<-s] at Y;clear A V s HRt;cases X with
  |error l=>
   have S:Hid (r=.error l):=P;go_wp2_with fail;refine Y.mono ?_;rintro e w2 ⟨f,rfl⟩;have L:=aB (HFt.trans f);clear f;go_wp2_with fail;exact⟨rfl,Out.err S L⟩
  |ok cq=>
   obtain⟨c,q⟩:=cq;go_wp2_with fail;refine Y.mono ?_;rintro e w2 ⟨f,y,v2,rfl,ag⟩;obtain⟨T2,cn,rfl⟩:=ag.form;have L:=aB (HFt.trans f);have Q:=aB (f.keepB HBt z);have be:=HFt.size;have cf:=f.size;have az:=aB (ag.grow (lo':=w.heap.size) (fun _ _ _=>rfl) be dH)
   clear f ag Y;obtain⟨rB,aa⟩:∃rB,rB=B q:=⟨_,rfl⟩;have u:Hid (r=bR rB fun b q2=>bZ (fun o=>aS [105,102] pl [] (c::b::o.toList)) (uG B C.ts q2)):=by show _=_;rw[P.out,aa];rfl
   have au:B q≠.error 0:=fun e=>ab (by rw[u.out,aa,e];rfl)
   have HY:=aB (bk w2 q y au);rw[<-aa] at HY;clear y au aa P;cases rB with
   |error l=>
    have S:Hid (r=.error l):=u;go_wp2_with fail;refine HY.mono ?_;rintro e w4 ⟨g,rfl⟩;have K:=aB (L.trans g);clear g;go_wp2_with fail;exact⟨rfl,Out.err S K⟩
   |ok bq=>
    obtain⟨b,q3⟩:=bq;obtain⟨rO,bf⟩:∃rO,rO=uG B C.ts q3:=⟨_,rfl⟩;have ay:Hid (r=bZ (fun o=>aS [105,102] pl [] (c::b::o.toList)) rO):=by show _=_;rw[u.out,bf];rfl
    have cl:=aB bf;have cm:Hid (rO≠.error 0):=fun e=>ab (by rw[ay.out,e];rfl)
    clear u bf;go_wp2_with fail;refine HY.mono ?_;rintro e w4 ⟨g,U,v4,rfl,ah⟩;obtain⟨x4,n4,c4,rfl⟩:=ah.slice;have K:=aB (L.trans g);have cr:=g.size;have bb:=aB (ah.grow (lo':=w.heap.size) (fun _ _ _=>rfl) (by omega) dH)
    have ae:=aB (az.grow (lo':=w.heap.size) (hi':=w4.heap.size) (fun k h1 h2=>g.block k h2 (by omega)) dH g.size)
    have T:=aB (g.keepB Q z);have HZ:=aB (F9 C B bk w4.drew q3 U.drew rO cl cm);have c0:=aA T (i:=0) rfl;have ao:=aD T;clear g U ah HY Q az;cases rO with
    |error l=>
     have S:Hid (r=.error l):=ay;go_wp2_with fail;go_region_law (refine thrown (bV) ?_ ?_;(focus go_simp;go_at_call 210;refine HZ.mono ?_;rintro e w5 ⟨ba,rfl⟩;exact j6 rfl (Out.err S (K.drew.trans ba)));intro x)
     all_goals exact x.out.elim
    |ok oq=>
     obtain⟨o,q5⟩:=oq;have S:Hid (r=.ok (aS [105,102] pl [] (c::b::o.toList),q5)):=ay;clear ay;go_wp2_with fail;go_region_law (go_simp;go_at_call 210;refine HZ.mono ?_;rintro e w5 ⟨ba,cd,v5,rfl,bl⟩;obtain⟨x5,n5,c5,rfl⟩:=bl.slice;have ad:=aB ((Fr.refl C.pb w4).drew.trans ba);have bx:=aB bl;have ca:=aB cd;have ce:=aB (ad.keepB T z);have d2:=aA ce (i:=0) rfl;have ax:=aD ce;clear ba cd bl)
     all_goals (go_wp2_with fail;go_ret)
     all_goals
      have cp:=ad.size;have bn:=ae.grow (lo':=w.heap.size) (hi':=w5.heap.size) (fun k h1 h2=>ad.block k h2 (by omega)) dH ad.size
      have bc:=bb.grow (lo':=w.heap.size) (fun k h1 h2=>ad.block k h2 (by omega)) dH ad.size
      cases o with
      |none=>
       have h5:Value.slice x5 n5 c5=bV:=bx;rw[h5]
       exact Out.ok S (K.trans ad) ca (PN.mk (Y3 (Y3 (Y3 (Y3 (Y3 (Y3 (Y3 (Y3 (Y3 (Y3 (Y3 (Y4 (⟨rfl,_,_,c,b,rfl,rfl,bc.1,rfl,rfl⟩))))))))))))) (fun p hp=>by
        simp only[Z6,e7,or_false] at hp;rcases hp with rfl|rfl
        ·exact Prt.ok.node bn
        ·exact Prt.ok.list bc.2))
      |some b2=>
       have h5:EZ w4.drew.heap.size w5 (.slice x5 n5 c5) b2:=bx
       exact Out.ok S (K.trans ad) ca (PN.mk (Y3 (Y3 (Y3 (Y3 (Y3 (Y3 (Y3 (Y3 (Y3 (Y3 (Y3 (Y3 (Y4 (⟨rfl,_,_,_,c,b,b2,rfl,rfl,bc.1,h5.1,rfl,rfl⟩)))))))))))))) (fun p hp=>by
        simp only[Z6,e7,or_false] at hp;rcases hp with rfl|rfl|rfl
        ·exact Prt.ok.node bn
        ·exact Prt.ok.list bc.2
        ·exact Prt.ok.list (h5.2.grow (fun _ _ _=>rfl) (by show _<=w4.heap.size;omega) dH)))
 have HRn:Hid (r=if aV C.ts p [119,104,105,108,101] then kE E B C.ts p else if aV C.ts p [114,101,116,117,114,110] then gX E C.ts p else if aV C.ts p [112,114,105,110,116] then iR E C.ts p else eW E C.ts p):=by show _=_;rw[j.out,d];rfl
 rw[d] at M;clear d j;have j:=HRn;clear HRn;go_wp2_with fail;refine M.mono ?_;rintro e V2 ⟨rfl,G,N⟩;have D:=aB (m.trans N);have I:=aB (N.keepB n z);have F:=aB G;clear N G M m n J;have m:=D;have n:=I;have J:=F;clear D I F;have M:=aB (dJ C V2 p ⟨#[119,104,105,108,101]⟩ J);have ed:(⟨#[119,104,105,108,101]⟩:ByteArray).data.toList=[119,104,105,108,101]:=rfl;rw[ed] at M;clear ed;cases d:aV C.ts p [119,104,105,108,101];rotate_left
 ·have HRt:Hid (r=kE E B C.ts p):=by show _=_;rw[j.out,d];rfl
  rw[d] at M;clear d j;go_wp2_with fail;refine M.mono ?_;rintro e W1 ⟨rfl,A,O⟩;have HFt:=aB (m.trans O);have HBt:=aB (O.keepB n z);clear O M m J n;obtain⟨X,s⟩:∃X,X=E (p+1):=⟨_,rfl⟩;have P:Hid (r=bR X fun c q=>bZ (fun b=>aS [119,104,105,108,101] pl [] [c,b]) (B q)):=by show _=_;rw[HRt.out,s];unfold kE;rw[al.out]
  have V:E (p+1)≠.error 0:=fun e=>ab (by rw[P.out,s,e];rfl)
  have Y:=aB (cb W1 (p+1) A V);rw[<-s] at Y;clear A V s HRt;cases X with
  |error l=>
   have S:Hid (r=.error l):=P;go_wp2_with fail;refine Y.mono ?_;rintro e w2 ⟨f,rfl⟩;have L:=aB (HFt.trans f);clear f;go_wp2_with fail;exact⟨rfl,Out.err S L⟩
  |ok cq=>
   obtain⟨c,q⟩:=cq;go_wp2_with fail;refine Y.mono ?_;rintro e w2 ⟨f,y,v2,rfl,ag⟩;obtain⟨T2,cn,rfl⟩:=ag.form;have L:=aB (HFt.trans f);have Q:=aB (f.keepB HBt z);have be:=HFt.size;have cf:=f.size;have az:=aB (ag.grow (lo':=w.heap.size) (fun _ _ _=>rfl) be dH)
   clear f ag Y;obtain⟨rB,aa⟩:∃rB,rB=B q:=⟨_,rfl⟩;have u:Hid (r=bZ (fun b=>aS [119,104,105,108,101] pl [] [c,b]) rB):=by show _=_;rw[P.out,aa];rfl
   have au:B q≠.error 0:=fun e=>ab (by rw[u.out,aa,e];rfl)
   have HY:=aB (bk w2.drew q y.drew au);rw[<-aa] at HY;have c0:=aA Q (i:=0) rfl;have ao:=aD Q;clear y au aa P;cases rB with
   |error l=>
    have S:Hid (r=.error l):=u;go_wp2_with fail;go_region_law (refine thrown (bV) ?_ ?_;(focus go_simp;go_at_call 144;refine HY.mono ?_;rintro e w4 ⟨g,rfl⟩;exact j6 rfl (Out.err S (L.drew.trans g)));intro x)
    all_goals exact x.out.elim
   |ok bq=>
    obtain⟨b,q3⟩:=bq;have S:Hid (r=.ok (aS [119,104,105,108,101] pl [] [c,b],q3)):=u;clear u;go_wp2_with fail;go_region_law (go_simp;go_at_call 144;refine HY.mono ?_;rintro e w4 ⟨g,U,v4,rfl,ah⟩;obtain⟨x4,n4,c4,rfl⟩:=ah.slice;have K:=aB ((Fr.refl C.pb w2).drew.trans g);have bb:=aB ah;have af:=aB U;have T:=aB (K.keepB Q z);have d2:=aA T (i:=0) rfl;have ax:=aD T;clear g U ah)
    all_goals (go_wp2_with fail;go_ret)
    all_goals exact Out.ok S (L.trans K) af (PN.mk (Y3 (Y3 (Y3 (Y3 (Y3 (Y3 (Y3 (Y3 (Y3 (Y3 (Y3 (Y3 (Y3 (Y4 (⟨rfl,_,_,c,b,rfl,rfl,bb.1,rfl,rfl⟩))))))))))))))) (fun p hp=>by
     simp only[Z6,e7,or_false] at hp;rcases hp with rfl|rfl
     ·exact Prt.ok.node (az.grow (fun k h1 h2=>K.block k h2 (by omega)) dH K.size)
     ·exact Prt.ok.list (bb.2.grow (fun _ _ _=>rfl) (by show _<=w2.heap.size;omega) dH)))
 have HRn:Hid (r=if aV C.ts p [114,101,116,117,114,110] then gX E C.ts p else if aV C.ts p [112,114,105,110,116] then iR E C.ts p else eW E C.ts p):=by show _=_;rw[j.out,d];rfl
 rw[d] at M;clear d j;have j:=HRn;clear HRn;go_wp2_with fail;refine M.mono ?_;rintro e V3 ⟨rfl,G,N⟩;have D:=aB (m.trans N);have I:=aB (N.keepB n z);have F:=aB G;clear N G M m n J;have m:=D;have n:=I;have J:=F;clear D I F;have M:=aB (dJ C V3 p ⟨#[114,101,116,117,114,110]⟩ J);have ed:(⟨#[114,101,116,117,114,110]⟩:ByteArray).data.toList=[114,101,116,117,114,110]:=rfl;rw[ed] at M;clear ed;cases d:aV C.ts p [114,101,116,117,114,110];rotate_left
 ·have HRt:Hid (r=gX E C.ts p):=by show _=_;rw[j.out,d];rfl
  rw[d] at M;clear d j;go_wp2_with fail;refine M.mono ?_;rintro e W1 ⟨rfl,A,O⟩;have HFt:=aB (m.trans O);have HBt:=aB (O.keepB n z);clear O M m J n;have ar:=aB (dJ C W1 (p+1) ⟨#[59]⟩ A);have bo:(⟨#[59]⟩:ByteArray).data.toList=[59]:=rfl;rw[bo] at ar;clear A bo;cases d:aV C.ts (p+1) [59];rotate_left
  ·have S:Hid (r=.ok (aS [114,101,116,117,114,110] pl [] [],p+2)):=by show _=_;rw[HRt.out];unfold gX;rw[d,al.out];rfl
   rw[d] at ar;clear d HRt;go_wp2_with fail;refine ar.mono ?_;rintro e w2 ⟨rfl,y,f⟩;have L:=aB (HFt.trans f);have Q:=aB (f.keepB HBt z);have ch:=aB y;have c0:=aA Q (i:=0) rfl;have ao:=aD Q;clear f y;go_wp2
   go_ret;exact Out.ok S L ch (PN.mk (Y3 (Y3 (Y3 (Y3 (Y3 (Y3 (Y3 (Y3 (Y3 (Y3 (Y3 (Y3 (Y3 (Y3 (Y4 (⟨rfl,pl,rfl,rfl,rfl,rfl⟩)))))))))))))))) (fun p hp=>by cases hp))
  have P:Hid (r=bZ (fun v=>aS [114,101,116,117,114,110] pl [] [v]) (aM C.ts [59] (E (p+1)))):=by show _=_;rw[HRt.out];unfold gX;rw[d,GT,al.out];rfl
  rw[d] at ar;clear d HRt;go_wp2_with fail;refine ar.mono ?_;rintro e w2 ⟨rfl,y,f⟩;have L:=aB (HFt.trans f);have Q:=aB (f.keepB HBt z);clear f;obtain⟨X,s⟩:∃X,X=aM C.ts [59] (E (p+1)):=⟨_,rfl⟩;have u:Hid (r=bZ (fun v=>aS [114,101,116,117,114,110] pl [] [v]) X):=by show _=_;rw[P.out,s]
  have V:aM C.ts [59] (E (p+1))≠.error 0:=fun e=>ab (by rw[u.out,s,e];rfl)
  have av:=aB s;have Y:=aB (bj w2.drew (p+1) y.drew V);simp only[<-av.out] at Y;have c0:=aA Q (i:=0) rfl;have ao:=aD Q;have am:=L.size;clear y V s P;cases X with
  |error l=>
   have S:Hid (r=.error l):=u;go_wp2_with fail;go_region_law (refine thrown .nilIface ?_ ?_;(focus go_simp;go_at_call 209;refine Y.mono ?_;rintro e w4 ⟨g,rfl⟩;exact j6 rfl (Out.err S (L.drew.trans g)));intro x)
   all_goals exact x.out.elim
  |ok aq=>
   obtain⟨a,q⟩:=aq;have S:Hid (r=.ok (aS [114,101,116,117,114,110] pl [] [a],q)):=u;clear u;go_wp2_with fail;go_region_law (go_simp;go_at_call 209;refine Y.mono ?_;rintro e w4 ⟨g,U,v4,rfl,Z⟩;obtain⟨T4,bw,rfl⟩:=Z.form;have K:=aB ((Fr.refl C.pb w2).drew.trans g);have ae:=aB Z;have af:=aB U;have T:=aB (K.keepB Q z);have d2:=aA T (i:=0) rfl;have ax:=aD T;clear g U Z)
   all_goals (go_wp2_with fail;go_ret)
   all_goals exact Out.ok S (L.trans K) af (PN.mk (Y3 (Y3 (Y3 (Y3 (Y3 (Y3 (Y3 (Y3 (Y3 (Y3 (Y3 (Y3 (Y3 (Y3 (Y3 (Y4 (⟨rfl,_,a,rfl,rfl,rfl,rfl⟩))))))))))))))))) (fun p hp=>by obtain rfl:=Z1.1 hp;exact Prt.ok.node (ae.grow (fun _ _ _=>rfl) am dH)))
 have HRn:Hid (r=if aV C.ts p [112,114,105,110,116] then iR E C.ts p else eW E C.ts p):=by show _=_;rw[j.out,d];rfl
 rw[d] at M;clear d j;have j:=HRn;clear HRn;go_wp2_with fail;refine M.mono ?_;rintro e V4 ⟨rfl,G,N⟩;have D:=aB (m.trans N);have I:=aB (N.keepB n z);have F:=aB G;clear N G M m n J;have m:=D;have n:=I;have J:=F;clear D I F;have M:=aB (dJ C V4 p ⟨#[112,114,105,110,116]⟩ J);have ed:(⟨#[112,114,105,110,116]⟩:ByteArray).data.toList=[112,114,105,110,116]:=rfl;rw[ed] at M;clear ed;cases d:aV C.ts p [112,114,105,110,116];rotate_left
 ·have HRt:Hid (r=iR E C.ts p):=by show _=_;rw[j.out,d];rfl
  rw[d] at M;clear d j;go_wp2_with fail;refine M.mono ?_;rintro e W1 ⟨rfl,A,O⟩;have HFt:=aB (m.trans O);have HBt:=aB (O.keepB n z);clear O M m J n;obtain⟨X,s⟩:∃X,X=aM C.ts [59] (E (p+1)):=⟨_,rfl⟩;have u:Hid (r=bZ (fun v=>aS [112,114,105,110,116] pl [] [v]) X):=by show _=_;rw[HRt.out,s];unfold iR;rw[GT,al.out]
  have V:aM C.ts [59] (E (p+1))≠.error 0:=fun e=>ab (by rw[u.out,s,e];rfl)
  have av:=aB s;have Y:=aB (bj W1.drew (p+1) A.drew V);simp only[<-av.out] at Y;have c0:=aA HBt (i:=0) rfl;have ao:=aD HBt;have am:=HFt.size;clear A V s HRt;cases X with
  |error l=>
   have S:Hid (r=.error l):=u;go_wp2_with fail;go_region_law (refine thrown .nilIface ?_ ?_;(focus go_simp;go_at_call 209;refine Y.mono ?_;rintro e w4 ⟨g,rfl⟩;exact j6 rfl (Out.err S (HFt.drew.trans g)));intro x)
   all_goals exact x.out.elim
  |ok aq=>
   obtain⟨a,q⟩:=aq;have S:Hid (r=.ok (aS [112,114,105,110,116] pl [] [a],q)):=u;clear u;go_wp2_with fail;go_region_law (go_simp;go_at_call 209;refine Y.mono ?_;rintro e w4 ⟨g,U,v4,rfl,Z⟩;obtain⟨T4,bw,rfl⟩:=Z.form;have K:=aB ((Fr.refl C.pb W1).drew.trans g);have ae:=aB Z;have af:=aB U;have T:=aB (K.keepB HBt z);have d2:=aA T (i:=0) rfl;have ax:=aD T;clear g U Z)
   all_goals (go_wp2_with fail;go_ret)
   all_goals exact Out.ok S (HFt.trans K) af (PN.mk (Y3 (Y3 (Y3 (Y3 (Y3 (Y3 (Y3 (Y3 (Y3 (Y3 (Y3 (Y3 (Y3 (Y3 (Y3 (Y3 (Y4 (⟨rfl,_,a,rfl,rfl,rfl,rfl⟩)))))))))))))))))) (fun p hp=>by obtain rfl:=Z1.1 hp;exact Prt.ok.node (ae.grow (fun _ _ _=>rfl) am dH)))
 have HRn:Hid (r=eW E C.ts p):=by show _=_;rw[j.out,d];rfl
 rw[d] at M;clear d j;have j:=HRn;clear HRn;go_wp2_with fail;refine M.mono ?_;rintro e V5 ⟨rfl,G,N⟩;have D:=aB (m.trans N);have I:=aB (N.keepB n z);have F:=aB G;clear N G M m n J;have m:=D;have n:=I;have J:=F;clear D I F;have Y:=aB (cg V5 p J (by rw[<-j.out];exact ab))
 rw[<-j.out] at Y;have ci:=m.size;clear j;go_wp2_with fail;refine Y.mono ?_;rintro e w3 ⟨W,cc⟩;cases r with
 |error l=>
  obtain rfl:e=dF 4 l:=cc;have ac:=aB (m.trans W);clear W;go_wp2_with fail;exact⟨rfl,Out.err rfl ac⟩
 |ok aq=>
  obtain⟨a,q⟩:=aq;obtain⟨an,v3,rfl,bp⟩:=cc;have ac:=aB (m.trans W);have cj:=aB an;have ck:=aB bp;clear W an bp;go_wp2
  go_ret;exact Out.ok rfl ac cj (ck.grow (fun _ _ _=>rfl) ci dH)
def J6(C:Ctx)(S:Nat->bX aC)(w:aH)(r0:bX (List aC))(k:Nat)(v:aQ)(wr:aH):Prop:=
 Fr C.pb w wr/\∃q acc,PAt C wr q/\r0=dP S C.ts k q acc/\acc.length+k<=4000/\PLst w.heap.size wr v acc
def TK(C:Ctx)(S:Nat->bX aC)(HS:PReads C 188 S):
 BReads C 144 (fun p=>if aV C.ts p [123] then bZ (aS [98,108,111,99,107] (aR C.ts p).line []) (aM C.ts [125] (dP S C.ts (C.ts.length+1) (p+1) [])) else Hs.bad C.ts p):=by
 obtain⟨i0,hi,al,av,ao⟩:=info_parts BO;intro w p h W;have j:=aB (gB C w p ⟨#[123]⟩ h);have ed:(⟨#[123]⟩:ByteArray).data.toList=[123]:=rfl;rw[ed] at j;have aw:=aB HS;have az:=h.len;have z:=h.pb_lt;have ay:=h.g_lt;show Calls _ _ _ _ (W9 C w (if aV C.ts p [123] then bZ (aS [98,108,111,99,107] (aR C.ts p).line []) (aM C.ts [125] (dP S C.ts (C.ts.length+1) (p+1) [])) else Hs.bad C.ts p))
 obtain⟨r,hr⟩:∃r,r=(if aV C.ts p [123] then bZ (aS [98,108,111,99,107] (aR C.ts p).line []) (aM C.ts [125] (dP S C.ts (C.ts.length+1) (p+1) [])) else Hs.bad C.ts p):=⟨_,rfl⟩
 have J:r≠.error 0:=hr▸W;rw[<-hr];have HR:=aB hr;have ap:=aB J;clear h HS W hr J ed;cases a:aV C.ts p [123]
 ·have HL:Hid (r=.error (aR C.ts p).line):=by show _=_;rw[HR.out,a];rfl
  rw[a] at j;clear a HR;go_enter func144,ntmps144;go_wp2_with fail;refine j.out.mono ?_;rintro e w1 ⟨y,K⟩;obtain rfl:e=dF 4 (aR C.ts p).line:=K;have ak:=aB y;clear y;go_wp2_with fail;exact⟨rfl,Out.err HL.out ak.out⟩
 obtain⟨E,P⟩:∃E,E=dP S C.ts (C.ts.length+1) (p+1) []:=⟨_,rfl⟩;have M:Hid (r=bZ (aS [98,108,111,99,107] (aR C.ts p).line []) (aM C.ts [125] E)):=by show _=_;rw[HR.out,a,P];rfl
 have I:Hid (E≠.error 0):=fun e=>ap.out (by rw[M.out,e];rfl)
 have X:=aB P;rw[a] at j;clear a HR P;go_enter func144,ntmps144;go_wp2_with fail;refine j.out.mono ?_;rintro e w1 ⟨y,K⟩;obtain⟨rfl,ag⟩:=K;have HI:Hid (J6 C S w E (C.ts.length+1) (.slice none 0 0) w1):=⟨y,p+1,[],ag,X.out,by simp;omega,PLst.nil _ _⟩
 clear y ag j X;go_wp2_with fail;go_loopg [3] (C.ts.length+1) (fun k v wr=>J6 C S w E k v wr)
 case atStart=>exact HI.out
 case round=>
  obtain⟨L,U,m,Z,u,bd,Q⟩:=hrel;obtain⟨x4,c4,rfl⟩:=Q.slice;have f:=aB (dJ C wr U ⟨#[125]⟩ Z);have ed:(⟨#[125]⟩:ByteArray).data.toList=[125]:=rfl;rw[ed] at f;have af:=aB L;have N:=aB Q;have bf:=L.size
  obtain⟨k,rfl⟩:∃k,gk=k+1:=by
   cases gk with
   |zero=>exact absurd u I.out
   |succ k=>exact⟨k,rfl⟩
  clear L Z Q HI ed;cases a:aV C.ts U [125];rotate_left
  ·have HL:Hid (r=.ok (aS [98,108,111,99,107] (aR C.ts p).line [] m,U+1)):=by show _=_;rw[M.out,u,dP,if_pos a,nK a];rfl
   rw[a] at f;clear a u;go_wp2_with fail;refine f.out.mono ?_;rintro e w5 ⟨rfl,x,c⟩;have aq:=aB x;have s:=aB (af.out.trans c);have o:=aB (N.out.keep c z);clear x c;go_wp2_with fail;go_ret;exact Out.ok HL.out s.out aq.out ⟨rfl,o.out.kid⟩
  ·obtain⟨rE,B⟩:∃rE,rE=S U:=⟨_,rfl⟩
   have A:Hid (E=bR rE fun i q=>dP S C.ts k q (m++[i])):=by
    show _=_
    rw[u,dP,if_neg (by rw[a];simp),B]
    cases S U<;>rfl
   have aa:S U≠.error 0:=fun e=>I.out (by rw[A.out,B,e];rfl)
   have ax:=aB B;rw[a] at f;clear a u B;go_wp2_with fail;refine f.out.mono ?_;rintro e w5 ⟨rfl,x,c⟩;have HX:=aB (aw.out w5 U x aa);simp only[<-ax.out] at HX;have s:=aB (af.out.trans c);have o:=aB (N.out.keep c z);have be:=c.size;clear x c f N aa;cases rE with
   |error l=>
    have HL:Hid (r=.error l):=by show _=_;rw[M.out,A.out];rfl
    go_wp2_with fail;refine HX.out.mono ?_;rintro e w6 ⟨d,rfl⟩;have D:=aB (s.out.trans d);clear d HX;go_wp2_with fail;exact⟨rfl,Out.err HL.out D.out⟩
   |ok ar=>
    obtain⟨a6,q6⟩:=ar;have au:Hid (E=dP S C.ts k q6 (m++[a6])):=A.out;clear A;go_wp2_with fail;refine HX.out.mono ?_;rintro e w6 ⟨d,ae,v6,rfl,O⟩;obtain⟨T6,aj,rfl⟩:=O.form;obtain⟨vs,F,t,H,ad⟩:=o.out.keep d z
    have ah:∀g,(Value.slice x4 m.length c4).ownBlock=some g->g<w5.heap.size:=by
     obtain⟨bc,F',V,_⟩:=o.out;exact cP V
    have Y:=aB ah;have D:=aB (s.out.trans d);have ab:=aB ae;have ac:=aB O;have HALL:=aB (j6 H ad);have bb:=d.size;have T:∀k,(Value.slice x4 m.length c4).ownBlock=some k->w.heap.size<=k:=cM t;clear ae d O HX o s H ad ah;go_wp2_with (at_builtin;refine wpList_append_lies _ (by rfl) _ _ 181 (by rfl) w.heap.size 74 i0 _ 1 16 underlying181 hi al av ao rfl (by decide) _ _ _ (by rfl) (t.alloc _) ⟨w6.heap.size,0,none⟩ 1 1 [.iface T6 (.agg aj)] (by rfl) (by rfl) (qZ _ _) (uB _ _) (by decide) (by unfold maxLen;omega) (by omega) (by simp;omega) (w6.heap.size+1) (by simp) ?_)
    intro g7 ba w9 n b G bg;have am:=aB (PLst.snoc (lo:=w5.heap.size) HALL.out.1 HALL.out.2 ac.out (by omega) Y.out (fun k hk=>Z3 _ _ _ hk) (by simp) n b (G.imp_right (fun e=>by omega)))
    have ai:=aB ((ab.out.alloc _).grown (base:=w.heap.size) b T z ay);have an:=aB ((D.out.alloc _).grown b T);clear t n b G ac ab D HALL Y T;go_wp2_with fail;go_roundg k
    case measure=>omega
    case rel=>exact⟨an.out,q6,m++[a6],ai.out,au.out,by simp;omega,by simpa using am.out⟩
def GN(C:Ctx)(f:Nat):∀g,BReads C 144 (iV (fK C.ts f) C.ts g)
 |0=>fun _ _ _ a=>absurd rfl a
 |g+1=>fun w p h a=>TK C (iZ (fK C.ts f) (iV (fK C.ts f) C.ts g) C.ts) (ZY C _ _ (GK C f) (GN C f g)) w p h a
def E7:(prog.info? 179).map (fun i=>(i.zero,i.size,i.bytes))=some (some (.agg #[Iv0 0,.string (bs [])]),2,24):=by kernel_rfl
def ZI:List aC->List Value
 |[]=>[]
 |a::l=>Iv0 a.line::.string (bs a.text)::ZI l
def I8(l:List aC)(a:aC):ZI (l++[a])=ZI l++[Iv0 a.line,.string (bs a.text)]:=by
 induction l with
 |nil=>rfl
 |cons x l b=>simp[ZI,b]
def PNm(F:cC)(w:aH)(v:aQ)(l:List aC):Prop:=
 (∀a∈l,a.op=[112,97,114,97,109])/\((v=bV/\l=[])\/
 ∃g cap cur,v=.slice (some (aL g 0)) l.length cap/\F g/\w.heap[g]?=some (.cells cur 179 (0,0))/\l.length<=cap/\cur.toList.take (l.length*2)=ZI l)
def PNm.keep{F G:cC}{w w':aH}{v:aQ}{l:List aC}(h:PNm F w v l)(f:∀b,F b->w'.heap[b]?=w.heap[b]?)(m:∀b,F b->G b):PNm G w' v l:=by
 obtain⟨e,h|⟨g,c,a,j,d,k,i⟩⟩:=h
 ·exact⟨e,Y4 h⟩
 ·exact⟨e,Y3 ⟨g,c,a,j,m g d,by rw[f g d];exact k,i⟩⟩
def PNm.slice{F:cC}{w:aH}{v:aQ}{l:List aC}(h:PNm F w v l):∃x c,v=.slice x l.length c:=by
 obtain⟨_,⟨a,d⟩|⟨g,e,b,a,_⟩⟩:=h
 ·exact⟨none,0,by rw[a,d];rfl⟩
 ·exact⟨_,_,a⟩
def PNl(base:Nat)(w:aH)(v:aQ)(acc:List aC):Prop:=(∀a∈acc,a.op=[112,97,114,97,109])/\w.ownsRow base 179 2 v acc.length (ZI acc)
def PNl.slice{base:Nat}{w:aH}{v:aQ}{acc:List aC}(h:PNl base w v acc):∃x c,v=.slice x acc.length c:=by
 rcases h.2.2 with ⟨a,d⟩|⟨g,b,e,a,_⟩
 ·exact⟨none,0,by rw[a,d]⟩
 ·exact⟨_,b,a⟩
def PNl.keep{base pb:Nat}{w w1:aH}{v:aQ}{acc:List aC}(h:PNl base w v acc)(b:Fr pb w w1)(c:pb<base):PNl base w1 v acc:=by
 refine⟨h.1,bA h.2 fun k a=>?_⟩
 have:=cM h.2 k a;exact b.block k (cP h.2 k a) (by omega)
def PNl.nm{base:Nat}{w:aH}{v:aQ}{acc:List aC}(h:PNl base w v acc):PNm (Btw base w.heap.size) w v acc:=by
 rcases h.2.2 with ⟨c,a⟩|⟨g,d,b,c,a,e,f,k,j,i⟩
 ·exact⟨h.1,Y4 ⟨c,i7 a⟩⟩
 ·exact⟨h.1,Y3 ⟨g,d,b,c,⟨a,aD e⟩,e,f,i⟩⟩
def FT(w:aH)(a b:aQ):∀j u,([a,b]:List Value)[j]?=some u->(w.alloc (.cells #[a,b] 179)).cell? ((⟨w.heap.size,0,none⟩:Addr).add j)=some u:=by
 intro j u c;match j,c with
 |0,c=>simp at c;subst c;simp[Addr.add,go_sem]
 |1,c=>simp at c;subst c;simp[Addr.add,go_sem]
 |j+2,c=>simp at c
def MO(l:Int)(b:ByteArray):∀u∈([Iv0 l,.string b]:List Value),u.oneCell'=true:=by
 intro u a;simp at a;rcases a with rfl|rfl<;>rfl
def I6(C:Ctx)(w:aH)(r0:bX (List aC))(k:Nat)(v:aQ)(wr:aH):Prop:=
 Fr C.pb w wr/\∃q acc,PAt C wr q/\r0=(if aV C.ts q [44] then cX C.ts k (q+1) acc else .ok (acc,q))/\acc.length+k<=4000/\PNl w.heap.size wr v acc
def pnode(t:aX):aC:=aS [112,97,114,97,109] t.line t.text []
def TX{ts:List aX}{k p:Nat}{acc:List aC}(h:((aR ts p).sort==110)=true):cX ts (k+1) p acc=if aV ts (p+1) [44] then cX ts k (p+1+1) (acc++[pnode (aR ts p)]) else .ok (acc++[pnode (aR ts p)],p+1):=by
 rw[cX,if_pos h];rfl
def C1{ts:List aX}{k p:Nat}{acc:List aC}(h:((aR ts p).sort==110)=false):cX ts (k+1) p acc=.error (aR ts p).line:=by
 rw[cX,if_neg (by rw[h];simp)];rfl
def PNs(lo:Nat)(w':aH)(v:aQ)(l:List aC):Prop:=PNm (Btw lo w'.heap.size) w' v l
def RA(C:Ctx)(w:aH)(p:Nat)(h:PAt C w p)(r:bX (List aC))(hr:r=if aV C.ts p [40] then gZ C.ts (p+1) else Hs.bad C.ts p)(ae:r≠.error 0):
 Calls prog 143 #[bO C.pb] w (Out C w r (PNs w.heap.size)):=by
 obtain⟨i0,hi,ai,ar,ao⟩:=info_parts E7;have d:=aB (gB C w p ⟨#[40]⟩ h);have L:(⟨#[40]⟩:ByteArray).data.toList=[40]:=rfl;rw[L] at d;have be:=h.len;have x:=h.pb_lt;have av:=h.g_lt;have HR:=aB hr;have bc:=aB ae;clear h hr ae L;cases b:aV C.ts p [40]
 ·have K:Hid (r=.error (aR C.ts p).line):=by show _=_;rw[HR.out,b];rfl
  rw[b] at d;clear b HR;go_in
  go_wp2_with fail;refine d.mono ?_;rintro e w1 ⟨Q,Y⟩;obtain rfl:e=dF 4 (aR C.ts p).line:=Y;have D:=aB Q;clear Q;go_wp2_with fail;exact⟨rfl,Out.err K D⟩
 have V:Hid (r=aM C.ts [41] (if aV C.ts (p+1) [41] then .ok ([],p+1) else cX C.ts (C.ts.length+1) (p+1) [])):=by show _=_;rw[HR.out,b];rfl
 rw[b] at d;clear b HR;go_in
 go_wp2_with fail;refine d.mono ?_;rintro e w1 ⟨Q,Y⟩;obtain⟨rfl,ap⟩:=Y;have HA:=aB (dJ C w1 (p+1) ⟨#[41]⟩ ap);have L:(⟨#[41]⟩:ByteArray).data.toList=[41]:=rfl;rw[L] at HA;have D:=aB Q;clear Q ap d L;cases b:aV C.ts (p+1) [41];rotate_left
 ·have K:Hid (r=.ok ([],p+1+1)):=by show _=_;rw[V.out,if_pos b,nK b]
  rw[b] at HA;clear b V;go_wp2_with fail;refine HA.mono ?_;rintro e w2 ⟨rfl,J,G⟩;have O:=aB (D.trans G);have ay:=aB J;clear G J;go_wp2
  go_ret;exact Out.ok K O ay ⟨fun _ h=>(by cases h),Y4 ⟨rfl,rfl⟩⟩
 obtain⟨S,ab⟩:∃S,S=cX C.ts (C.ts.length+1) (p+1) []:=⟨_,rfl⟩;have m:Hid (r=aM C.ts [41] S):=by show _=_;rw[V.out,if_neg (by rw[b];simp),ab]
 have aq:Hid (S≠.error 0):=fun e=>bc (by rw[m.out,e];rfl)
 have T:=aB ab;rw[b] at HA;clear b V ab;go_wp2_with fail;refine HA.mono ?_;rintro e w2 ⟨rfl,J,G⟩;have f:=aB (mH C w2 (p+1) J);have O:=aB (D.trans G);clear G J HA D;cases y:((aR C.ts (p+1)).sort==110)
 ·have K:Hid (r=.error (aR C.ts (p+1)).line):=by show _=_;rw[m.out,T.out,C1 y];rfl
  rw[y] at f;clear y T m;go_wp2_with fail;refine f.mono ?_;rintro e w3 ⟨E,Z⟩;obtain rfl:e=dF 4 (aR C.ts (p+1)).line:=Z;have P:=aB (O.trans E);clear E;go_wp2_with fail;exact⟨rfl,Out.err K P⟩
 have am:Hid (S=if aV C.ts (p+1+1) [44] then cX C.ts C.ts.length (p+1+1+1) [pnode (aR C.ts (p+1))] else .ok ([pnode (aR C.ts (p+1))],p+1+1)):=by show _=_;rw[T.out,TX y];rfl
 rw[y] at f;clear y T;generalize aR C.ts (p+1)=t at*;go_wp2_with fail;refine f.mono ?_;rintro e w3 ⟨E,Z⟩;obtain⟨rfl,af⟩:=Z;have P:=aB (O.trans E);have ak:=aB af;have bf:=P.size;clear E af f O;go_wp2_with (at_builtin;refine wpList_append_lies _ (by rfl) _ _ 180 (by rfl) w.heap.size 179 i0 _ 2 24 underlying180 hi ai ar ao rfl (by decide) (bV) 0 [] (by rfl) (World.ownsRow_nil _ _ _ _) (aL w3.heap.size 0) 1 1 [Iv0 t.line,.string (bs t.text)] (by rfl) (by rfl) (FT _ _ _) (MO _ _) (by decide) (by unfold maxLen;omega) (by omega) (by simp;omega) (w3.heap.size+1) (by simp) ?_)
 intro g4 an w4 B l aj bk;have al:=aB ((ak.alloc _).grown (base:=w.heap.size) l (fun k hk=>by cases hk) x av)
 have I:=aB ((P.alloc _).grown l (fun k hk=>by cases hk))
 have HI:Hid (I6 C w S C.ts.length (.slice (some (aL g4 0)) 1 an) w4):=⟨I,p+1+1,[pnode t],al,am,by simp;omega,by intro a ha;rw[Z1.1 ha];rfl,B⟩
 clear B l aj am ak P al I;go_wp2_with fail;go_loopg [3] C.ts.length (fun k v wr=>I6 C w S k v wr)
 case atStart=>exact HI
 case round=>
  obtain⟨aa,i,o,ag,X,bh,ac⟩:=hrel;obtain⟨x4,c4,rfl⟩:=ac.slice;have s:=aB (dJ C wr i ⟨#[44]⟩ ag);have L:(⟨#[44]⟩:ByteArray).data.toList=[44]:=rfl;rw[L] at s;have I:=aB aa;have W:=aB ac;have bj:=aa.size;clear aa ag ac HI L;cases b:aV C.ts i [44]
  ·have g:Hid (S=.ok (o,i)):=by show _=_;rw[X,b];rfl
   rw[b] at s;clear b X;go_wp2_with fail;refine s.mono ?_;rintro e w5 ⟨rfl,N,q⟩;have d:=aB (gB C w5 i ⟨#[41]⟩ N);have L:(⟨#[41]⟩:ByteArray).data.toList=[41]:=rfl;rw[L] at d;have A:=aB (I.trans q);have z:=aB (W.keep q x);clear N q s W L;cases b:aV C.ts i [41]
   ·have K:Hid (r=.error (aR C.ts i).line):=by show _=_;rw[m.out,g.out];exact wK b
    rw[b] at d;clear b g m;go_wp2_with fail;refine d.mono ?_;rintro e w6 ⟨c,u⟩;obtain rfl:e=dF 4 (aR C.ts i).line:=u;have n:=aB (A.trans c);clear c;go_wp2_with fail;exact⟨rfl,Out.err K n⟩
   ·have K:Hid (r=.ok (o,i+1)):=by show _=_;rw[m.out,g.out];exact nK b
    rw[b] at d;clear b g m;go_wp2_with fail;refine d.mono ?_;rintro e w6 ⟨c,u⟩;obtain⟨rfl,H⟩:=u;have n:=aB (A.trans c);have U:=aB H;have az:=aB (z.keep c x);clear c H z;go_wp2
    go_ret;exact Out.ok K n U az.nm
  ·have g:Hid (S=cX C.ts gk (i+1) o):=by show _=_;rw[X,b];rfl
   rw[b] at s;clear b X
   obtain⟨k,rfl⟩:∃k,gk=k+1:=by
    cases gk with
    |zero=>exact absurd g aq
    |succ k=>exact⟨k,rfl⟩
   go_wp2_with fail;refine s.mono ?_;rintro e w5 ⟨rfl,N,q⟩;have f:=aB (mH C w5 (i+1) N);have A:=aB (I.trans q);have z:=aB (W.keep q x);clear N q s W;cases y:((aR C.ts (i+1)).sort==110)
   ·have K:Hid (r=.error (aR C.ts (i+1)).line):=by show _=_;rw[m.out,g.out,C1 y];rfl
    rw[y] at f;clear y g m;go_wp2_with fail;refine f.mono ?_;rintro e w6 ⟨c,u⟩;obtain rfl:e=dF 4 (aR C.ts (i+1)).line:=u;have n:=aB (A.trans c);clear c;go_wp2_with fail;exact⟨rfl,Out.err K n⟩
   ·have bd:Hid (S=if aV C.ts (i+1+1) [44] then cX C.ts k (i+1+1+1) (o++[pnode (aR C.ts (i+1))]) else .ok (o++[pnode (aR C.ts (i+1))],i+1+1)):=by show _=_;rw[g.out,TX y]
    rw[y] at f;clear y g;generalize aR C.ts (i+1)=t5 at*;go_wp2_with fail;refine f.mono ?_;rintro e w6 ⟨c,u⟩;obtain⟨rfl,H⟩:=u;have n:=aB (A.trans c);have U:=aB H;have M:=(z.keep c x).2;have ah:=aB z.1;have bg:=n.size;have ad:∀k,(Value.slice x4 o.length c4).ownBlock=some k->w.heap.size<=k:=cM M;clear c H f A z;go_wp2_with (at_builtin;refine wpList_append_lies _ (by rfl) _ _ 180 (by rfl) w.heap.size 179 i0 _ 2 24 underlying180 hi ai ar ao rfl (by decide) _ _ _ (by rfl) (M.alloc _) (aL w6.heap.size 0) 1 1 [Iv0 t5.line,.string (bs t5.text)] (by rfl) (by rfl) (FT _ _ _) (MO _ _) (by decide) (by unfold maxLen;omega) (by omega) (by simp;omega) (w6.heap.size+1) (by simp) ?_)
    intro g7 au w7 F j aw bi;have ax:=aB ((U.alloc _).grown (base:=w.heap.size) j ad x av);have ba:=aB ((n.alloc _).grown j ad)
    have bb:Hid (PNl w.heap.size w7 (.slice (some (aL g7 0)) (o.length+1) au) (o++[pnode t5])):=by
     refine⟨fun a ha=>?_,?_⟩
     ·rcases Z2.1 ha with h|h
      ·exact ah a h
      ·rw[Z1.1 h];rfl
     ·rw[I8,Y5];exact F
    clear M F j aw U n ad ah;go_wp2
    go_roundg k
    case measure=>omega
    case rel=>exact⟨ba,i+1+1,_,ax,bd,by simp;omega,bb⟩
def yY(F:cC)(w:aH)(v:aQ)(f:aC):Prop:=
 ∃pv bv ps b,v=.agg #[Iv0 f.line,.string (bs f.text),pv,bv]/\f.kids=ps++[b]/\PNm F w pv ps/\b.op=[98,108,111,99,107]/\PKid F w bv b.kids
def yY.keep{F G:cC}{w w':aH}{v:aQ}{f:aC}(h:yY F w v f)(a:∀b,F b->w'.heap[b]?=w.heap[b]?)(c:∀b,F b->G b):yY G w' v f:=by
 obtain⟨m,i,d,b,j,e,l,g,k⟩:=h;exact⟨m,i,d,b,j,e,l.keep a c,g,k.keep a c⟩
def X1(lo:Nat)(w:aH)(v:aQ)(f:aC):Prop:=yY (Btw lo w.heap.size) w v f
def F5(C:Ctx)(B:Nat->bX aC)(HB:BReads C 144 B)(w:aH)(p:Nat)(h:PAt C w p)(r:bX aC)(hr:r=jV B C.ts p)(ah:r≠.error 0):
 Calls prog 105 #[bO C.pb] w (Out C w r (X1 w.heap.size)):=by
 obtain⟨rb,bf⟩:∃rb,rb=w.heap.size:=⟨_,rfl⟩;have z:=aB (gB C (w.alloc (.cells #[Iv0 0,.string ⟨#[]⟩,bV,bV] 183)) p ⟨#[102,117,110,99]⟩ (h.alloc _));have ed:(⟨#[102,117,110,99]⟩:ByteArray).data.toList=[102,117,110,99]:=rfl;rw[ed] at z;have ac:Hid (Fr C.pb w (w.alloc (.cells #[Iv0 0,.string ⟨#[]⟩,bV,bV] 183))):=(Fr.refl _ _).alloc _;have U:Hid ((w.alloc (.cells #[Iv0 0,.string ⟨#[]⟩,bV,bV] 183)).heap[w.heap.size]?=some (.cells #[Iv0 0,.string ⟨#[]⟩,bV,bV] 183 (0,0))):=aU _ _ rfl _;have be:=aB HB;have bj:=h.len;have bk:=h.pb_lt;have bt:=h.g_lt;have HR:=aB hr;have am:=aB ah;have J:w.heap.size≠C.pb:=by omega
 clear h hr ah ed HB bf rb;cases x:aV C.ts p [102,117,110,99]
 ·have S:Hid (r=.error (aR C.ts p).line):=by show _=_;rw[HR.out];unfold jV;rw[x];rfl
  rw[x] at z;clear x HR;go_in
  go_wp2_with fail;refine z.mono ?_;rintro e w1 ⟨D,X⟩;obtain rfl:e=dF 4 (aR C.ts p).line:=X;have G:=aB (ac.trans D);clear D;go_wp2_with fail;exact⟨rfl,Out.err S G⟩
 obtain⟨t,ht⟩:∃t,t=aR C.ts (p+1):=⟨_,rfl⟩
 have P:Hid (r=if t.sort==110 then (if aV C.ts (p+2) [40] then
       bR (gZ C.ts (p+3)) fun l q=>bZ (fun b=>aS [102,117,110,99] t.line t.text (l++[b])) (B q)
  else Hs.bad C.ts (p+2)) else Hs.bad C.ts (p+1)):=by show _=_;rw[HR.out];unfold jV;rw[x,ht];rfl
 have HT:=aB ht;rw[x] at z;clear x HR ht;go_in
 go_wp2_with fail;refine z.mono ?_;rintro e w1 ⟨D,X⟩;obtain⟨rfl,ao⟩:=X;have y:=aB (mH C w1 (p+1) ao);rw[<-HT.out] at y;have G:=aB (ac.trans D);have H:=aB (D.keepB U J);clear D ao z ac U;cases hs:(t.sort==110)
 ·have S:Hid (r=.error t.line):=by show _=_;rw[P.out,hs];show Hs.bad _ _=_;unfold Hs.bad;rw[<-HT.out]
  rw[hs] at y;clear hs P;go_wp2_with fail;refine y.mono ?_;rintro e V ⟨s,af⟩;obtain rfl:e=dF 4 t.line:=af;have L:=aB (G.trans s);clear s;go_wp2_with fail;exact⟨rfl,Out.err S L⟩
 obtain⟨rP,ab⟩:∃rP,rP=(if aV C.ts (p+1+1) [40] then gZ C.ts (p+1+1+1) else Hs.bad C.ts (p+1+1)):=⟨_,rfl⟩
 have N:Hid (r=bR rP fun l q=>bZ (fun b=>aS [102,117,110,99] t.line t.text (l++[b])) (B q)):=by
  show _=_
  rw[P.out,hs,ab,if_pos rfl];by_cases T:aV C.ts (p+1+1) [40]=true
  ·rw[if_pos T,if_pos T]
  ·rw[if_neg T,if_neg T];rfl
 have al:=aB ab;have av:Hid (rP≠.error 0):=fun e=>am (by rw[N.out,e];rfl)
 rw[hs] at y;clear hs P ab;go_wp2_with fail;refine y.mono ?_;rintro e V ⟨s,af⟩;obtain⟨rfl,ad⟩:=af;have L:=aB ((G.trans s).alloc (.cells #[Iv0 t.line,.string (bs t.text)] 179));have c:=aB ((s.alloc (.cells #[Iv0 t.line,.string (bs t.text)] 179)).keepB H J);have m:Hid ((V.alloc (.cells #[Iv0 t.line,.string (bs t.text)] 179)).heap[V.heap.size]?=some (.cells #[Iv0 t.line,.string (bs t.text)] 179 (0,0))):=aU _ _ rfl _;have aa:V.heap.size≠C.pb:=by have:=ad.pb_lt;omega
 have bp:w.heap.size<V.heap.size:=Y7 (aD H) s.size;have ag:=aB (RA C (V.alloc (.cells #[Iv0 t.line,.string (bs t.text)] 179)).drew (p+1+1) (ad.alloc _).drew rP al av);clear s ad y G H al;go_wp2_with fail;generalize hW:V.alloc (.cells #[Iv0 t.line,.string (bs t.text)] 179)=W at*;have bo:W.heap.size=V.heap.size+1:=by rw[<-hW];simp
 clear hW;have c0:=aA m (i:=0) rfl;have c1:=aA m (i:=1) rfl;have bm:=aD m;cases rP with
 |error l=>
  have S:Hid (r=.error l):=N;have ba:=aA c (i:=0) rfl;have bc:=aA c (i:=1) rfl;have bg:=aA c (i:=2) rfl;have az:=aA c (i:=3) rfl;have ar:=aE (i:=0) c;have ay:=aE (i:=1) c;have bi:=aE (i:=2) c;have ax:=aE (i:=3) c;have ap:=aD c;go_region_law (first|(refine thrown (bV) ?_ ?_;(focus go_simp;go_at_call 143;refine ag.mono ?_;rintro e w3 ⟨o,rfl⟩;exact j6 rfl (Out.err S (L.drew.trans o)));intro g)|(refine thrown (bV) g.out.elim ?_;intro ak))
  all_goals exact g.out.elim
 |ok lq=>
  obtain⟨l,q⟩:=lq;obtain⟨rB,M⟩:∃rB,rB=B q:=⟨_,rfl⟩;have Q:Hid (r=bZ (fun b=>aS [102,117,110,99] t.line t.text (l++[b])) rB):=by show _=_;rw[N.out,M];rfl
  have an:B q≠.error 0:=fun e=>am (by rw[Q.out,M,e];rfl)
  have Z:=aB (fun W (hW:PAt C W q)=>be W q hW an)
  rw[<-M] at Z;clear M an N;cases rB with
  |error l2=>
   have S:Hid (r=.error l2):=Q;go_region_law (first|(go_simp;go_at_call 143;refine ag.mono ?_;rintro e w3 ⟨o,E,v3,rfl,A⟩;obtain⟨x3,c3,rfl⟩:=A.slice;have n:=aB ((Fr.refl C.pb W).drew.trans o);have Y:=aB E;have f:=aB (n.keepB m aa);have d0:=aA f (i:=0) rfl;have d1:=aA f (i:=1) rfl;have au:=aD f;have a:=aB (n.keepB c J);have ba:=aA a (i:=0) rfl;have bc:=aA a (i:=1) rfl;have bg:=aA a (i:=2) rfl;have az:=aA a (i:=3) rfl;have ar:=aE (i:=0) a;have ay:=aE (i:=1) a;have bi:=aE (i:=2) a;have ax:=aE (i:=3) a;have ap:=aD a;clear o E A)|(refine thrown (bV) ?_ ?_;(focus go_simp;go_at_call 144;refine(Z _ Y).mono ?_;rintro e w4 ⟨O,rfl⟩;exact j6 rfl (Out.err S ((L.trans n).trans O)));intro g))
   all_goals exact g.out.elim
  |ok bq=>
   obtain⟨b,q4⟩:=bq;have S:Hid (r=.ok (aS [102,117,110,99] t.line t.text (l++[b]),q4)):=Q;clear Q;go_region_law (first|(go_simp;go_at_call 143;refine ag.mono ?_;rintro e w3 ⟨o,E,v3,rfl,A⟩;obtain⟨x3,c3,rfl⟩:=A.slice;have n:=aB ((Fr.refl C.pb W).drew.trans o);have Y:=aB E;have bd:=aB A;have f:=aB (n.keepB m aa);have a:=aB (n.keepB c J);have d0:=aA f (i:=0) rfl;have d1:=aA f (i:=1) rfl;have au:=aD f;clear o E A)|(go_simp;go_at_call 144;refine(Z _ Y).mono ?_;rintro e w4 ⟨O,aj,v4,rfl,ae⟩;obtain⟨x4,n4,c4,rfl⟩:=ae.slice;have K:=aB O;have aw:=aB aj;have aq:=aB ae;have F:=aB (K.keepB f aa);have d:=aB (K.keepB a J);have e0:=aA F (i:=0) rfl;have e1:=aA F (i:=1) rfl;have br:=aD F;have z0:=aA d (i:=0) rfl;have z1:=aA d (i:=1) rfl;have z2:=aA d (i:=2) rfl;have z3:=aA d (i:=3) rfl;have y0:=aE (i:=0) d;have y1:=aE (i:=1) d;have y2:=aE (i:=2) d;have y3:=aE (i:=3) d;have bn:=aD d;clear O aj ae))
   all_goals go_wp2_with fail
   all_goals
    refine bodyPost_ret (v:=.agg #[Iv0 t.line,.string (bs t.text),.slice x3 l.length c3,.slice x4 n4 c4]) (by simp[results,results105,go_sem,z0,z1,z2,z3]) rfl ?_
    have bl:=n.size;have bb:=K.size;have j:∀(W:aH) (i:Nat) (u:aQ),(W.setCell (aL w.heap.size i) u).heap.size=W.heap.size:=fun W i u=>by simp[World.setCell]
    have ai:∀k,w.heap.size<k->((((w4.setCell (aL w.heap.size 0) (Iv0 t.line)).setCell (aL w.heap.size 1) (.string (bs t.text))).setCell (aL w.heap.size 2) (.slice x3 l.length c3)).setCell (aL w.heap.size 3) (.slice x4 n4 c4)).heap[k]?=w4.heap[k]?:=fun k I=>by
     rw[Y6 _ _ _ _ (by show k≠w.heap.size;omega),Y6 _ _ _ _ (by show k≠w.heap.size;omega),Y6 _ _ _ _ (by show k≠w.heap.size;omega),Y6 _ _ _ _ (by show k≠w.heap.size;omega)]
    refine Out.ok S (((((L.trans (n.trans K)).setCell (Y3 dH) _).setCell (Y3 dH) _).setCell (Y3 dH) _).setCell (Y3 dH) _) ((((aw.other (by omega) (by omega)).other (by omega) (by omega)).other (by omega) (by omega)).other (by omega) (by omega)) ⟨_,_,l,b,rfl,rfl,?_,aq.1,?_⟩
    ·refine PNm.keep bd (fun k I=>?_) fun k I=>⟨?_,?_⟩
     ·have h1:=I.1;have bh:W.heap.size<=k:=h1;rw[ai k (by omega),K.out.block k I.2 (by omega)]
     ·have bh:W.heap.size<=k:=I.1;omega
     ·rw[j,j,j,j];exact Y7 I.2 bb
    ·refine PKid.keep aq.2 (fun k I=>ai k (by have:=I.1;omega)) fun k I=>⟨?_,?_⟩
     ·have:=I.1;omega
     ·rw[j,j,j,j];exact I.2
def E8:(prog.info? 183).map (fun i=>(i.zero,i.size,i.bytes))=some (some (.agg #[Iv0 0,.string (bs []),bV,bV]),4,72):=by kernel_rfl
def wE:Value->List Value
 |.agg a=>a.toList
 |v=>[v]
def jP:List Value->List Value
 |[]=>[]
 |v::l=>wE v++jP l
def SL(l:List Value)(v:aQ):jP (l++[v])=jP l++wE v:=by
 induction l with
 |nil=>simp[jP]
 |cons x l a=>simp[jP,a]
def FSl(F:cC)(w:aH)(v:aQ)(fs:List aC):Prop:=
 (v=bV/\fs=[])\/
 ∃g cap cur us,v=.slice (some (aL g 0)) fs.length cap/\F g/\w.heap[g]?=some (.cells cur 183 (0,0))/\fs.length<=cap/\cur.toList.take (fs.length*4)=jP us/\jZ (yY F w) us fs
def PFl(base:Nat)(w:aH)(v:aQ)(acc:List aC):Prop:=
 ∃us F,w.ownsRow base 183 4 v acc.length (jP us)/\jZ (yY F w) us acc/\∀b,F b->base<=b/\b<w.heap.size/\v.ownBlock≠some b
def PFl.nil(base:Nat)(w:aH):PFl base w (bV) []:=⟨[],fun _=>False,World.ownsRow_nil _ _ _ _,trivial,fun _ h=>h.elim⟩
def PFl.slice{base:Nat}{w:aH}{v:aQ}{acc:List aC}(h:PFl base w v acc):∃x c,v=.slice x acc.length c:=by
 obtain⟨i,F,f,_⟩:=h;rcases f.2 with ⟨a,d⟩|⟨g,b,e,a,_⟩
 ·exact⟨none,0,by rw[a,d]⟩
 ·exact⟨_,b,a⟩
def PFl.keep{base pb:Nat}{w w1:aH}{v:aQ}{acc:List aC}(h:PFl base w v acc)(c:Fr pb w w1)(j:pb<base):PFl base w1 v acc:=by
 obtain⟨g,F,d,i,e⟩:=h;refine⟨g,F,bA d fun k f=>?_,i.mono fun _ _ h=>h.keep (fun b a=>?_) eD,fun b a=>?_⟩
 ·have:=cM d k f;exact c.block k (cP d k f) (by omega)
 ·have:=e b a;have:=c.size;exact⟨by omega,by omega,(e b a).2.2⟩
 ·have:=e b a;exact c.block b this.2.1 (by omega)
def PFl.snoc{base lo:Nat}{w r o:aH}{v:aQ}{acc:List aC}{p:aQ}{a:aC}{g m:Nat}{us:List Value}{F:cC}(t:jZ (yY F w) us acc)(z:∀b,F b->base<=b/\b<w.heap.size/\v.ownBlock≠some b)
 (y:yY (Btw lo w.heap.size) w p a) (A:base<=lo) (n:∀k,v.ownBlock=some k->k<lo) (q:∀k,k<w.heap.size->r.heap[k]?=w.heap[k]?) (x:w.heap.size<=r.heap.size)
 (l:o.ownsRow base 183 4 (.slice (some (aL g 0)) (acc.length+1) m) (acc.length+1) (jP us++wE p))
 (i:r.grownBy o v.ownBlock) (j:v.ownBlock=some g\/w.heap.size<=g):PFl base o (.slice (some (aL g 0)) (acc.length+1) m) (acc++[a]):=by
 have s:∀b,(F b\/Btw lo w.heap.size b)->base<=b/\b<w.heap.size/\v.ownBlock≠some b:=by
  rintro b (c|c)
  ·exact z b c
  ·exact⟨by have:=c.1;omega,c.2,fun e=>by have:=n b e;have:=c.1;omega⟩
 have d:∀b,(F b\/Btw lo w.heap.size b)->o.heap[b]?=w.heap[b]?:=fun b c=>by
  have f:=s b c;rw[i.block b (by omega) (fun e=>f.2.2 e.symm),q b f.2.1]
 refine⟨us++[p],fun b=>F b\/Btw lo w.heap.size b,?_,?_,?_⟩
 ·rw[Y5,SL];exact l
 ·exact jZ.snoc (t.mono fun _ _ h=>h.keep (fun b c=>d b (Y4 c)) (fun _=>Y4)) (y.keep (fun b c=>d b (Y3 c)) (fun _=>Y3))
 ·intro b c;have f:=s b c;have:=i.size;refine⟨f.1,by omega,fun e=>?_⟩
  have u:g=b:=Option.some.inj e;rcases j with j|j
  ·exact f.2.2 (by rw[j,u])
  ·omega
def PFl.fsl{base:Nat}{w:aH}{v:aQ}{acc:List aC}(h:PFl base w v acc):FSl (Btw base w.heap.size) w v acc:=by
 obtain⟨o,F,n,k,j⟩:=h;rcases n.2 with ⟨a,e⟩|⟨g,c,d,a,e,f,l,q,p,m⟩
 ·exact Y4 ⟨a,i7 e⟩
 ·exact Y3 ⟨g,c,d,o,a,⟨e,aD f⟩,f,l,m,k.mono fun _ _ h=>h.keep (fun _ _=>rfl) fun b i=>⟨(j b i).1,(j b i).2.1⟩⟩
def WG(a c d:Int)(b:ByteArray)(w:aH):(Instr.field 174 (.agg #[Iv0 a,.string b,Iv0 c,Iv0 d]) 0).run prog w=.ok (Iv0 a) w:=by kernel_rfl
def WB{t:aX}(h:nV t):(psort t.sort=4↔t.sort=101):=by
 unfold psort;rcases h with h|⟨h,_⟩|h|⟨h,_⟩|h|h<;>simp[h]
def WS(w:aH)(a b c d:aQ):∀j u,([a,b,c,d]:List Value)[j]?=some u->(w.alloc (.cells #[a,b,c,d] 183)).cell? ((⟨w.heap.size,0,none⟩:Addr).add j)=some u:=by
 intro j u e;match j,e with
 |0,e=>simp at e;subst e;simp[Addr.add,go_sem]
 |1,e=>simp at e;subst e;simp[Addr.add,go_sem]
 |2,e=>simp at e;subst e;simp[Addr.add,go_sem]
 |3,e=>simp at e;subst e;simp[Addr.add,go_sem]
 |j+4,e=>simp at e
def C2(l:Int)(b:ByteArray)(x y:Option Addr)(n m c d:Nat):∀u∈([Iv0 l,.string b,.slice x n c,.slice y m d]:List Value),u.oneCell'=true:=by
 intro u a;simp at a;rcases a with rfl|rfl|rfl|rfl<;>rfl
def I5(C:Ctx)(X:Nat->bX aC)(w:aH)(r:bX (List aC))(k:Nat)(v:aQ)(wr:aH):Prop:=
 Fr C.pb w wr/\∃q acc,PAt C wr q/\r=eY X C.ts k q acc/\acc.length+k<=4000/\PFl w.heap.size wr v acc
def R9(lo:Nat)(w':aH)(v:aQ)(l:List aC):Prop:=FSl (Btw lo w'.heap.size) w' v l
def WD(C:Ctx)(X:Nat->bX aC)(HX:∀w p,PAt C w p->X p≠.error 0->Calls prog 105 #[.pointer (some ⟨C.pb,0,none⟩)] w (Out C w (X p) (X1 w.heap.size)))(w:World)(p:Nat)(h:PAt C w p)(r:bX (List aC))(hr:r=eY X C.ts (C.ts.length+1) p [])(Q:r≠.error 0):
 Calls prog 71 #[.pointer (some ⟨C.pb,0,none⟩)] w (Out C w r (R9 w.heap.size)):=by
 obtain⟨i0,hi,ak,aq,an⟩:=info_parts E8;have av:=h.len;have n:=h.pb_lt;have au:=h.g_lt;have HI:Hid (I5 C X w r (C.ts.length+1) (.slice none 0 0) w):=⟨Fr.refl _ _,p,[],h,hr,by simp;omega,PFl.nil _ _⟩
 have ac:=aB Q;have ap:=aB HX;have bc:=WG;clear h hr Q HX;go_enter func71,ntmps71;go_wp2_with fail;go_loopg [3] (C.ts.length+1) (fun k v wr=>I5 C X w r k v wr)
 case atStart=>exact HI.out
 case round=>
  obtain⟨G,E,d,f,y,az,L⟩:=hrel;obtain⟨x4,c4,rfl⟩:=L.slice;have u:=aB (mG C wr E f);simp only[nU] at u;have ad:=WB (f.tsk.tk E f.lt);have I:=aB G;have H:=aB L;have U:=aB f;have be:=G.size
  obtain⟨k,rfl⟩:∃k,gk=k+1:=by
   cases gk with
   |zero=>exact absurd y ac.out
   |succ k=>exact⟨k,rfl⟩
  rw[eY] at y;clear G f L HI;have o:=aB y;have A:=aB ad;clear y ad;generalize aR C.ts E=t at*;generalize psort t.sort=ps at*;generalize pval t=pv at*;by_cases P:t.sort=101
  ·have HL:Hid (r=.ok (d,E)):=by show _=_;rw[o.out,P];rfl
   obtain rfl:ps=4:=A.out.2 P;clear P o A;go_wp2_with fail;refine u.out.mono ?_;rintro e w5 ⟨rfl,b⟩;have N:=aB b;clear b;go_wp2_with fail;go_ret;exact Out.ok HL.out (I.out.trans (Fr.below N.out)) (U.out.below N.out) (H.out.keep (Fr.below N.out) n).fsl
  ·have bd:((ps:Int) != 4)=true:=by simp;intro e;exact P (A.out.1 (by omega))
   obtain⟨rE,s⟩:∃rE,rE=X E:=⟨_,rfl⟩
   have z:Hid (r=bR rE fun i q=>eY X C.ts k q (d++[i])):=by
    show _=_
    rw[o.out,if_neg (by simpa using P),s]
    cases X E<;>rfl
   have T:X E≠.error 0:=fun e=>ac.out (by rw[z.out,s,e];rfl)
   have ar:=aB s;clear P o A s;go_wp2_with fail;refine u.out.mono ?_;rintro e w5 ⟨rfl,b⟩;have HY:=aB (ap.out w5 E (U.out.below b) T);simp only[<-ar.out] at HY;have K:=aB (I.out.trans (Fr.below b));have J:=aB (H.out.keep (Fr.below b) n);have bb:=b.size;clear b u H T I;cases rE with
   |error l=>
    have HL:Hid (r=.error l):=z.out;go_wp2_with fail;refine HY.out.mono ?_;rintro e w6 ⟨c,rfl⟩;have x:=aB (K.out.trans c);clear c;go_wp2_with fail;exact⟨rfl,Out.err HL.out x.out⟩
   |ok ao=>
    obtain⟨a6,q6⟩:=ao;have ah:Hid (r=eY X C.ts k q6 (d++[a6])):=z.out;clear z;go_wp2_with fail;refine HY.out.mono ?_;rintro e w6 ⟨c,Z,v6,rfl,ab⟩;have W:=aB ab;obtain⟨bf,ba,aj,b6,ai, -,af, -,aa⟩:=ab;obtain⟨x7,c7,rfl⟩:=af.slice;obtain⟨x8,c8,rfl⟩:=aa.slice;subst ai;obtain⟨us,F,m,D,Y⟩:=J.out.keep c n
    have ae:∀g,(Value.slice x4 d.length c4).ownBlock=some g->g<w5.heap.size:=by
     obtain⟨ay,F',O,_⟩:=J.out;exact cP O
    have S:=aB ae;have x:=aB (K.out.trans c);have V:=aB Z;have HALL:=aB (j6 D Y);have ax:=c.size;have M:∀k,(Value.slice x4 d.length c4).ownBlock=some k->w.heap.size<=k:=cM m;clear Z c af aa HY J K D Y ae;go_wp2_with (at_builtin;refine wpList_append_lies _ (by rfl) _ _ 91 (by rfl) w.heap.size 183 i0 _ 4 72 underlying91 hi ak aq an rfl (by decide) _ _ _ (by rfl) (m.alloc _) ⟨w6.heap.size,0,none⟩ 1 1 [.int .i64 a6.line,.string (bs a6.text),.slice x7 aj.length c7,.slice x8 b6.kids.length c8] (by rfl) (by rfl) (WS _ _ _ _ _) (C2 _ _ _ _ _ _ _ _) (by decide) (by unfold maxLen;omega) (by omega) (by simp;omega) (w6.heap.size+1) (by simp) ?_)
    intro g7 aw w9 j a B bg;have al:=aB (PFl.snoc (lo:=w5.heap.size) HALL.out.1 HALL.out.2 W.out (by omega) S.out (fun k hk=>Z3 _ _ _ hk) (by simp) j a (B.imp_right (fun e=>by omega)))
    have ag:=aB ((V.out.alloc _).grown (base:=w.heap.size) a M n au);have am:=aB ((x.out.alloc _).grown a M);clear m j a B W V x HALL S M;go_wp2_with fail;go_roundg k
    case measure=>omega
    case rel=>exact⟨am.out,q6,d++[a6],ag.out,ah.out,by simp;omega,by simpa using al.out⟩
def MA(C:Ctx)(w:aH)(h:PAt C w 0)(a:lT C.ts≠.error 0):
 Calls prog 71 #[bO C.pb] w (Out C w (lT C.ts) (R9 w.heap.size)):=
 WD C _ (fun w p h b=>F5 C _ (GN C (C.ts.length+1) (C.ts.length+1)) w p h _ rfl b) w 0 h _ rfl a
end Go.Proofs.YtddnpoiiimjpcaaGreatDoor
