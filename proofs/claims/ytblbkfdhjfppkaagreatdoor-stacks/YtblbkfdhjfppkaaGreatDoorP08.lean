/- Contracts of the program: statements. -/
import Derived.Test.YtblbkfdhjfppkaaGreatDoorP07
import Derived.Test.YtblbkfdhjfppkaaGreatDoorP06
set_option linter.defProp false
set_option maxRecDepth 100000
set_option maxHeartbeats 4000000
namespace Go.Proofs.YtblbkfdhjfppkaaGreatDoor
open Hs
open _root_.Go.Proofs.Tryz
open Go.RowKit
def GL(lo:Nat)(w':World)(v:Value)(b:aC):Prop:=b.op=[98,108,111,99,107]/\PKid (Btw lo w'.heap.size) w' v b.kids
def ac_(C:Ctx)(w:World)(r:bU aC)(e:Ending)(w':World):Prop:=Out C w r (GL w.heap.size) e w'
def BReads(C:Ctx)(F:Nat)(X:Nat->bU aC):Prop:=∀w p,PAt C w p->X p≠.error 0->Calls prog F #[.pointer (some ⟨C.pb,0,none⟩)] w (ac_ C w (X p))
def vC(B:Nat->bU aC)(ts:List aX)(q:Nat):bU (Option aC):=if aV ts q [101,108,115,101] then bX some (B (q+1)) else .ok (none,q)
def R9(lo:Nat)(w':World)(v:Value):Option aC->Prop
 |none=>v=.slice none 0 0
 |some b=>GL lo w' v b
def GL.slice{lo:Nat}{w:World}{v:Value}{b:aC}(h:GL lo w v b):∃x n c,v=.slice x n c:=by
 obtain⟨x,c,e⟩:=h.2.slice;exact⟨x,_,c,e⟩
def R9.slice{lo:Nat}{w:World}{v:Value}{o:Option aC}(h:R9 lo w v o):∃x n c,v=.slice x n c:=by
 cases o with
 |none=>exact⟨none,0,0,h⟩
 |some b=>exact GL.slice h
def GL.grow{lo lo':Nat}{w w':World}{v:Value}{b:aC}(h:GL lo w v b)(a:∀k,lo<=k->k<w.heap.size->w'.heap[k]?=w.heap[k]?)(d:lo'<=lo)(c:w.heap.size<=w'.heap.size):GL lo' w' v b:=⟨h.1,h.2.grow a d c⟩
def Y6(E B:Nat->bU aC)(ts:List aX)(p:Nat):
 qU E B ts p=bR (E (p+1)) fun c q=>bR (B q) fun b a=>bX (fun o=>aR [105,102] (aP ts p).line [] (c::b::o.toList)) (vC B ts a):=by
 unfold qU;cases E (p+1) with
 |error l=>rfl
 |ok e=>
  obtain⟨c,q⟩:=e;show bR (B q) _=bR (B q) _
  cases B q with
  |error l=>rfl
  |ok d=>
   obtain⟨b,a⟩:=d;show (if _ then _ else _)=bX _ (vC B ts a)
   unfold vC;split
   ·cases B (a+1)<;>rfl
   ·rfl
def O6(C:Ctx)(B:Nat->bU aC)(L:BReads C 187 B)(w:World)(q:Nat)(h:PAt C w q)(r:bU (Option aC))(M:r=vC B C.ts q)(s:r≠.error 0):
 Calls prog 303 #[.pointer (some ⟨C.pb,0,none⟩)] w (Out C w r (R9 w.heap.size)):=by
 have p:=aB (dF C w q ⟨#[101,108,115,101]⟩ h);have N:(⟨#[101,108,115,101]⟩:ByteArray).data.toList=[101,108,115,101]:=rfl;rw[N] at p;have A:=aB L;have y:=aB M;have E:=aB s;clear h L M s N;cases a:aV C.ts q [101,108,115,101]
 ·have v:Hid (r=.ok (none,q)):=by show _=_;rw[y.out];unfold vC;rw[a];rfl
  rw[a] at p;clear a y;go_enter func303,ntmps303;go_wp2_with fail;refine p.out.mono ?_;rintro e K ⟨rfl,f,d⟩;have G:=aB f;have i:=aB d;clear f d;go_wp2_with fail;go_ret;exact Out.ok v.out i.out G.out rfl
 ·obtain⟨z,j⟩:∃z,z=B (q+1):=⟨_,rfl⟩;have k:Hid (r=bX some z):=by show _=_;rw[y.out,j];unfold vC;rw[a];rfl
  have u:B (q+1)≠.error 0:=fun e=>E.out (by rw[k.out,j,e];rfl)
  have D:=aB j;rw[a] at p;clear a y j;go_enter func303,ntmps303;go_wp2_with fail;refine p.out.mono ?_;rintro e K ⟨rfl,f,d⟩;have J:=aB (A.out K (q+1) f u);rw[<-D.out] at J;have i:=aB d;have F:=d.size;clear f d u p;cases z with
  |error l=>
   have v:Hid (r=.error l):=k.out;go_wp2_with fail;refine J.out.mono ?_;rintro e P ⟨g,rfl⟩;have m:=aB (i.out.trans g);clear g;go_wp2_with fail;exact⟨rfl,Out.err v.out m.out⟩
  |ok O=>
   obtain⟨b,Q⟩:=O;have v:Hid (r=.ok (some b,Q)):=k.out;go_wp2_with fail;refine J.out.mono ?_;rintro e P ⟨g,t,S,rfl,o⟩;have m:=aB (i.out.trans g);have I:=aB t;have H:=aB o;obtain⟨x,n,c,rfl⟩:=o.slice;clear g t o;go_wp2_with fail;go_ret;exact Out.ok v.out m.out I.out (show GL _ _ _ _ from H.out.grow (fun _ _ _=>rfl) F (au_ _))
def I7(C:Ctx)(E B:Nat->bU aC)(HE:PReads C 164 E)(HB:BReads C 187 B):PReads C 257 (iW E B C.ts):=by
 intro w p h bd;have br:=aB (mM C w p h);have cb:=aB HE;have bk:=aB HB;have bj:=aB (PD C E HE);have cg:=aB (SW C E HE);have H:=aB h;have co:=h.pb_lt;have cv:=h.g_lt;obtain⟨r,hr⟩:∃r,r=iW E B C.ts p:=⟨_,rfl⟩;rw[<-hr] at bd ⊢
 rw[iW] at hr;have j:=aB hr;have ab:=aB bd;clear h HE HB bd hr;generalize bv:(aP C.ts p).line=pl at*;have al:=aB bv;clear bv;go_enter func257,ntmps257;go_wp2_with fail;refine br.out.mono ?_;rintro e w1 ⟨rfl,aw⟩;have m:=aB ((Fr.below (pb:=C.pb) aw).alloc (.cells #[.int .i64 pl] 209));have J:=aB ((H.out.below aw).alloc (.cells #[.int .i64 pl] 209));have n:=aB (S1.new w1 pl);have z:w1.heap.size≠C.pb:=by have:=aw.size;omega
 have cs:=aw.size;clear aw br;have M:=aB (dF C (w1.alloc (.cells #[.int .i64 pl] 209)) p ⟨#[118,97,114]⟩ J.out);have ed:(⟨#[118,97,114]⟩:ByteArray).data.toList=[118,97,114]:=rfl;rw[ed] at M;clear ed;cases d:aV C.ts p [118,97,114];rotate_left
 ·have HRt:Hid (r=oM E C.ts p):=by show _=_;rw[j.out,d];rfl
  rw[d] at M;clear d j;go_wp2_with fail;refine M.out.mono ?_;rintro e W1 ⟨rfl,A,O⟩;have HFt:=aB (m.out.trans O);have HBt:=aB (O.keepB n.out z);clear O M m J n;have aj:=aB (mL C W1 (p+1) A);clear A;obtain⟨t,ht⟩:∃t,t=aP C.ts (p+1):=⟨_,rfl⟩;rw[<-ht] at aj;have bh:=aB ht;clear ht;cases hs:(t.sort==110)
  ·have S:Hid (r=.error t.line):=by show _=_;rw[HRt.out];unfold oM;rw[<-bh.out,hs];show Hs.bad _ _=_;unfold Hs.bad;rw[<-bh.out]
   rw[hs] at aj;clear hs HRt;go_wp2_with fail;refine aj.out.mono ?_;rintro e w2 ⟨f,bm⟩;obtain rfl:e=cX 4 t.line:=bm;have L:=aB (HFt.out.trans f);clear f;go_wp2_with fail;exact⟨rfl,Out.err S.out L.out⟩
  have P:Hid (r=if aV C.ts (p+2) [61] then bX (fun v=>aR [118,97,114] pl [] [aR [116,97,114,103,101,116] t.line t.text [],v]) (aN C.ts [59] (E (p+3))) else Hs.bad C.ts (p+2)):=by
   show _=_
   rw[HRt.out];unfold oM;rw[<-bh.out,hs,JJ,al.out];rfl
  rw[hs] at aj;clear hs HRt;go_wp2_with fail;refine aj.out.mono ?_;rintro e w2 ⟨f,bm⟩;obtain⟨rfl,y⟩:=bm;have L:=aB ((HFt.out.trans f).alloc (.cells #[.int .i64 t.line,.string (bs t.text)] 211));have ak:=aB (fP C (w2.alloc (.cells #[.int .i64 t.line,.string (bs t.text)] 211)) (p+2) ⟨#[61]⟩ (y.alloc _));have bu:(⟨#[61]⟩:ByteArray).data.toList=[61]:=rfl;rw[bu] at ak;have bz:Hid ((w2.alloc (.cells #[.int .i64 t.line,.string (bs t.text)] 211)).heap[w2.heap.size]?=some (.cells #[.int .i64 t.line,.string (bs t.text)] 211 (0,0))):=aM _ _ rfl _;have bt:w2.heap.size≠C.pb:=by have:=y.pb_lt;omega
  have Q:=aB ((f.alloc (.cells #[.int .i64 t.line,.string (bs t.text)] 211)).keepB HBt.out z);clear f y aj bu;cases d:aV C.ts (p+2) [61]
  ·have S:Hid (r=.error (aP C.ts (p+2)).line):=by show _=_;rw[P.out,d];rfl
   rw[d] at ak;clear d P;go_wp2_with fail;refine ak.out.mono ?_;rintro e w3 ⟨W,bg⟩;obtain rfl:e=cX 4 (aP C.ts (p+2)).line:=bg;have ac:=aB (L.out.trans W);clear W;go_wp2_with fail;exact⟨rfl,Out.err S.out ac.out⟩
  obtain⟨X,s⟩:∃X,X=aN C.ts [59] (E (p+3)):=⟨_,rfl⟩;have u:Hid (r=bX (fun v=>aR [118,97,114] pl [] [aR [116,97,114,103,101,116] t.line t.text [],v]) X):=by show _=_;rw[P.out,d,s];rfl
  have V:aN C.ts [59] (E (p+3))≠.error 0:=fun e=>ab.out (by rw[u.out,s,e];rfl)
  have av:=aB s;rw[d] at ak;clear d P s;go_wp2_with fail;refine ak.out.mono ?_;rintro e w3 ⟨W,bg⟩;obtain⟨rfl,an⟩:=bg;have Y:=aB (bj.out w3.drew (p+3) an.drew V);simp only[<-av.out] at Y;have ac:=aB (L.out.trans W);have bi:=aB (W.keepB Q.out z);have ai:=aB (W.keepB bz.out bt);have c0:=aA bi.out (i:=0) rfl;have ao:=aD bi.out;have m0:=aA ai.out (i:=0) rfl;have m1:=aA ai.out (i:=1) rfl;have ct:=aD ai.out;have am:=ac.out.size;clear W an ak Q bz V;cases X with
  |error l=>
   have S:Hid (r=.error l):=u.out;go_wp2_with fail;go_region_law (refine thrown .nilIface ?_ ?_;(focus go_simp;go_at_call 302;refine Y.out.mono ?_;rintro e w4 ⟨g,rfl⟩;exact aW_ rfl (Out.err S.out (ac.out.drew.trans g)));intro x)
   all_goals exact x.out.elim
  |ok aq=>
   obtain⟨a,q⟩:=aq;have S:Hid (r=.ok (aR [118,97,114] pl [] [aR [116,97,114,103,101,116] t.line t.text [],a],q)):=u.out;clear u;go_wp2_with fail;go_region_law (go_simp;go_at_call 302;refine Y.out.mono ?_;rintro e w4 ⟨g,U,v4,rfl,Z⟩;obtain⟨T4,bw,rfl⟩:=Z.form;have K:=aB ((Fr.refl C.pb w3).drew.trans g);have ae:=aB Z;have af:=aB U;have ap:=aB (K.out.keepB ai.out bt);have T:=aB (K.out.keepB bi.out z);have d0:=aA ap.out (i:=0) rfl;have d1:=aA ap.out (i:=1) rfl;have cu:=aD ap.out;have d2:=aA T.out (i:=0) rfl;have ax:=aD T.out;clear g U Z)
   all_goals (go_wp2_with fail;go_ret)
   all_goals exact Out.ok S.out (ac.out.trans K.out) af.out (PN.mk (as_ (as_ (as_ (as_ (as_ (as_ (as_ (as_ (as_ (av_ (⟨rfl,_,aR [116,97,114,103,101,116] t.line t.text [],a,rfl,rfl,rfl,rfl⟩))))))))))) (fun p hp=>by obtain rfl:=aD_.1 hp;exact Prt.ok.node (ae.out.grow (fun _ _ _=>rfl) am (au_ _))))
 have HRn:Hid (r=if aV C.ts p [105,102] then qU E B C.ts p else if aV C.ts p [119,104,105,108,101] then kE E B C.ts p else if aV C.ts p [114,101,116,117,114,110] then gP E C.ts p else if aV C.ts p [112,114,105,110,116] then iM E C.ts p else eO E C.ts p):=by show _=_;rw[j.out,d];rfl
 rw[d] at M;clear d j;have j:=HRn;clear HRn;go_wp2_with fail;refine M.out.mono ?_;rintro e V1 ⟨rfl,G,N⟩;have D:=aB (m.out.trans N);have I:=aB (N.keepB n.out z);have F:=aB G;clear N G M m n J;have m:=D;have n:=I;have J:=F;clear D I F;have M:=aB (dF C V1 p ⟨#[105,102]⟩ J.out);have ed:(⟨#[105,102]⟩:ByteArray).data.toList=[105,102]:=rfl;rw[ed] at M;clear ed;cases d:aV C.ts p [105,102];rotate_left
 ·have HRt:Hid (r=qU E B C.ts p):=by show _=_;rw[j.out,d];rfl
  rw[d] at M;clear d j;go_wp2_with fail;refine M.out.mono ?_;rintro e W1 ⟨rfl,A,O⟩;have HFt:=aB (m.out.trans O);have HBt:=aB (O.keepB n.out z);clear O M m J n;obtain⟨X,s⟩:∃X,X=E (p+1):=⟨_,rfl⟩;have P:Hid (r=bR X fun c q=>bR (B q) fun b q2=>bX (fun o=>aR [105,102] pl [] (c::b::o.toList)) (vC B C.ts q2)):=by show _=_;rw[HRt.out,s,Y6,al.out]
  have V:E (p+1)≠.error 0:=fun e=>ab.out (by rw[P.out,s,e];rfl)
  have Y:=aB (cb.out W1 (p+1) A V);rw[<-s] at Y;clear A V s HRt;cases X with
  |error l=>
   have S:Hid (r=.error l):=P.out;go_wp2_with fail;refine Y.out.mono ?_;rintro e w2 ⟨f,rfl⟩;have L:=aB (HFt.out.trans f);clear f;go_wp2_with fail;exact⟨rfl,Out.err S.out L.out⟩
  |ok cq=>
   obtain⟨c,q⟩:=cq;go_wp2_with fail;refine Y.out.mono ?_;rintro e w2 ⟨f,y,v2,rfl,ag⟩;obtain⟨T2,cn,rfl⟩:=ag.form;have L:=aB (HFt.out.trans f);have Q:=aB (f.keepB HBt.out z);have be:=HFt.out.size;have cf:=f.size;have az:=aB (ag.grow (lo':=w.heap.size) (fun _ _ _=>rfl) be (au_ _))
   clear f ag Y;obtain⟨rB,aa⟩:∃rB,rB=B q:=⟨_,rfl⟩;have u:Hid (r=bR rB fun b q2=>bX (fun o=>aR [105,102] pl [] (c::b::o.toList)) (vC B C.ts q2)):=by show _=_;rw[P.out,aa];rfl
   have au:B q≠.error 0:=fun e=>ab.out (by rw[u.out,aa,e];rfl)
   have HY:=aB (bk.out w2 q y au);rw[<-aa] at HY;clear y au aa P;cases rB with
   |error l=>
    have S:Hid (r=.error l):=u.out;go_wp2_with fail;refine HY.out.mono ?_;rintro e w4 ⟨g,rfl⟩;have K:=aB (L.out.trans g);clear g;go_wp2_with fail;exact⟨rfl,Out.err S.out K.out⟩
   |ok bq=>
    obtain⟨b,q3⟩:=bq;obtain⟨rO,bf⟩:∃rO,rO=vC B C.ts q3:=⟨_,rfl⟩;have ay:Hid (r=bX (fun o=>aR [105,102] pl [] (c::b::o.toList)) rO):=by show _=_;rw[u.out,bf];rfl
    have cl:=aB bf;have cm:Hid (rO≠.error 0):=fun e=>ab.out (by rw[ay.out,e];rfl)
    clear u bf;go_wp2_with fail;refine HY.out.mono ?_;rintro e w4 ⟨g,U,v4,rfl,ah⟩;obtain⟨x4,n4,c4,rfl⟩:=ah.slice;have K:=aB (L.out.trans g);have cr:=g.size;have bb:=aB (ah.grow (lo':=w.heap.size) (fun _ _ _=>rfl) (by omega) (au_ _))
    have ae:=aB (az.out.grow (lo':=w.heap.size) (hi':=w4.heap.size) (fun k h1 h2=>g.block k h2 (by omega)) (au_ _) g.size)
    have T:=aB (g.keepB Q.out z);have HZ:=aB (O6 C B bk.out w4.drew q3 U.drew rO cl.out cm.out);have c0:=aA T.out (i:=0) rfl;have ao:=aD T.out;clear g U ah HY Q az;cases rO with
    |error l=>
     have S:Hid (r=.error l):=ay.out;go_wp2_with fail;go_region_law (refine thrown (.slice none 0 0) ?_ ?_;(focus go_simp;go_at_call 303;refine HZ.out.mono ?_;rintro e w5 ⟨ba,rfl⟩;exact aW_ rfl (Out.err S.out (K.out.drew.trans ba)));intro x)
     all_goals exact x.out.elim
    |ok oq=>
     obtain⟨o,q5⟩:=oq;have S:Hid (r=.ok (aR [105,102] pl [] (c::b::o.toList),q5)):=ay.out;clear ay;go_wp2_with fail;go_region_law (go_simp;go_at_call 303;refine HZ.out.mono ?_;rintro e w5 ⟨ba,cd,v5,rfl,bl⟩;obtain⟨x5,n5,c5,rfl⟩:=bl.slice;have ad:=aB ((Fr.refl C.pb w4).drew.trans ba);have bx:=aB bl;have ca:=aB cd;have ce:=aB (ad.out.keepB T.out z);have d2:=aA ce.out (i:=0) rfl;have ax:=aD ce.out;clear ba cd bl)
     all_goals (go_wp2_with fail;go_ret)
     all_goals
      have cp:=ad.out.size;have bn:=ae.out.grow (lo':=w.heap.size) (hi':=w5.heap.size) (fun k h1 h2=>ad.out.block k h2 (by omega)) (au_ _) ad.out.size
      have bc:=bb.out.grow (lo':=w.heap.size) (fun k h1 h2=>ad.out.block k h2 (by omega)) (au_ _) ad.out.size
      cases o with
      |none=>
       have h5:Value.slice x5 n5 c5=.slice none 0 0:=bx.out;rw[h5]
       exact Out.ok S.out (K.out.trans ad.out) ca.out (PN.mk (as_ (as_ (as_ (as_ (as_ (as_ (as_ (as_ (as_ (as_ (as_ (av_ (⟨rfl,_,_,c,b,rfl,rfl,bc.1,rfl,rfl⟩))))))))))))) (fun p hp=>by
        simp only[aG_,aQ_,or_false] at hp;rcases hp with rfl|rfl
        ·exact Prt.ok.node bn
        ·exact Prt.ok.list bc.2))
      |some b2=>
       have h5:GL w4.drew.heap.size w5 (.slice x5 n5 c5) b2:=bx.out
       exact Out.ok S.out (K.out.trans ad.out) ca.out (PN.mk (as_ (as_ (as_ (as_ (as_ (as_ (as_ (as_ (as_ (as_ (as_ (as_ (av_ (⟨rfl,_,_,_,c,b,b2,rfl,rfl,bc.1,h5.1,rfl,rfl⟩)))))))))))))) (fun p hp=>by
        simp only[aG_,aQ_,or_false] at hp;rcases hp with rfl|rfl|rfl
        ·exact Prt.ok.node bn
        ·exact Prt.ok.list bc.2
        ·exact Prt.ok.list (h5.2.grow (fun _ _ _=>rfl) (by show _<=w4.heap.size;omega) (au_ _))))
 have HRn:Hid (r=if aV C.ts p [119,104,105,108,101] then kE E B C.ts p else if aV C.ts p [114,101,116,117,114,110] then gP E C.ts p else if aV C.ts p [112,114,105,110,116] then iM E C.ts p else eO E C.ts p):=by show _=_;rw[j.out,d];rfl
 rw[d] at M;clear d j;have j:=HRn;clear HRn;go_wp2_with fail;refine M.out.mono ?_;rintro e V2 ⟨rfl,G,N⟩;have D:=aB (m.out.trans N);have I:=aB (N.keepB n.out z);have F:=aB G;clear N G M m n J;have m:=D;have n:=I;have J:=F;clear D I F;have M:=aB (dF C V2 p ⟨#[119,104,105,108,101]⟩ J.out);have ed:(⟨#[119,104,105,108,101]⟩:ByteArray).data.toList=[119,104,105,108,101]:=rfl;rw[ed] at M;clear ed;cases d:aV C.ts p [119,104,105,108,101];rotate_left
 ·have HRt:Hid (r=kE E B C.ts p):=by show _=_;rw[j.out,d];rfl
  rw[d] at M;clear d j;go_wp2_with fail;refine M.out.mono ?_;rintro e W1 ⟨rfl,A,O⟩;have HFt:=aB (m.out.trans O);have HBt:=aB (O.keepB n.out z);clear O M m J n;obtain⟨X,s⟩:∃X,X=E (p+1):=⟨_,rfl⟩;have P:Hid (r=bR X fun c q=>bX (fun b=>aR [119,104,105,108,101] pl [] [c,b]) (B q)):=by show _=_;rw[HRt.out,s];unfold kE;rw[al.out]
  have V:E (p+1)≠.error 0:=fun e=>ab.out (by rw[P.out,s,e];rfl)
  have Y:=aB (cb.out W1 (p+1) A V);rw[<-s] at Y;clear A V s HRt;cases X with
  |error l=>
   have S:Hid (r=.error l):=P.out;go_wp2_with fail;refine Y.out.mono ?_;rintro e w2 ⟨f,rfl⟩;have L:=aB (HFt.out.trans f);clear f;go_wp2_with fail;exact⟨rfl,Out.err S.out L.out⟩
  |ok cq=>
   obtain⟨c,q⟩:=cq;go_wp2_with fail;refine Y.out.mono ?_;rintro e w2 ⟨f,y,v2,rfl,ag⟩;obtain⟨T2,cn,rfl⟩:=ag.form;have L:=aB (HFt.out.trans f);have Q:=aB (f.keepB HBt.out z);have be:=HFt.out.size;have cf:=f.size;have az:=aB (ag.grow (lo':=w.heap.size) (fun _ _ _=>rfl) be (au_ _))
   clear f ag Y;obtain⟨rB,aa⟩:∃rB,rB=B q:=⟨_,rfl⟩;have u:Hid (r=bX (fun b=>aR [119,104,105,108,101] pl [] [c,b]) rB):=by show _=_;rw[P.out,aa];rfl
   have au:B q≠.error 0:=fun e=>ab.out (by rw[u.out,aa,e];rfl)
   have HY:=aB (bk.out w2.drew q y.drew au);rw[<-aa] at HY;have c0:=aA Q.out (i:=0) rfl;have ao:=aD Q.out;clear y au aa P;cases rB with
   |error l=>
    have S:Hid (r=.error l):=u.out;go_wp2_with fail;go_region_law (refine thrown (.slice none 0 0) ?_ ?_;(focus go_simp;go_at_call 187;refine HY.out.mono ?_;rintro e w4 ⟨g,rfl⟩;exact aW_ rfl (Out.err S.out (L.out.drew.trans g)));intro x)
    all_goals exact x.out.elim
   |ok bq=>
    obtain⟨b,q3⟩:=bq;have S:Hid (r=.ok (aR [119,104,105,108,101] pl [] [c,b],q3)):=u.out;clear u;go_wp2_with fail;go_region_law (go_simp;go_at_call 187;refine HY.out.mono ?_;rintro e w4 ⟨g,U,v4,rfl,ah⟩;obtain⟨x4,n4,c4,rfl⟩:=ah.slice;have K:=aB ((Fr.refl C.pb w2).drew.trans g);have bb:=aB ah;have af:=aB U;have T:=aB (K.out.keepB Q.out z);have d2:=aA T.out (i:=0) rfl;have ax:=aD T.out;clear g U ah)
    all_goals (go_wp2_with fail;go_ret)
    all_goals exact Out.ok S.out (L.out.trans K.out) af.out (PN.mk (as_ (as_ (as_ (as_ (as_ (as_ (as_ (as_ (as_ (as_ (as_ (as_ (as_ (av_ (⟨rfl,_,_,c,b,rfl,rfl,bb.out.1,rfl,rfl⟩))))))))))))))) (fun p hp=>by
     simp only[aG_,aQ_,or_false] at hp;rcases hp with rfl|rfl
     ·exact Prt.ok.node (az.out.grow (fun k h1 h2=>K.out.block k h2 (by omega)) (au_ _) K.out.size)
     ·exact Prt.ok.list (bb.out.2.grow (fun _ _ _=>rfl) (by show _<=w2.heap.size;omega) (au_ _))))
 have HRn:Hid (r=if aV C.ts p [114,101,116,117,114,110] then gP E C.ts p else if aV C.ts p [112,114,105,110,116] then iM E C.ts p else eO E C.ts p):=by show _=_;rw[j.out,d];rfl
 rw[d] at M;clear d j;have j:=HRn;clear HRn;go_wp2_with fail;refine M.out.mono ?_;rintro e V3 ⟨rfl,G,N⟩;have D:=aB (m.out.trans N);have I:=aB (N.keepB n.out z);have F:=aB G;clear N G M m n J;have m:=D;have n:=I;have J:=F;clear D I F;have M:=aB (dF C V3 p ⟨#[114,101,116,117,114,110]⟩ J.out);have ed:(⟨#[114,101,116,117,114,110]⟩:ByteArray).data.toList=[114,101,116,117,114,110]:=rfl;rw[ed] at M;clear ed;cases d:aV C.ts p [114,101,116,117,114,110];rotate_left
 ·have HRt:Hid (r=gP E C.ts p):=by show _=_;rw[j.out,d];rfl
  rw[d] at M;clear d j;go_wp2_with fail;refine M.out.mono ?_;rintro e W1 ⟨rfl,A,O⟩;have HFt:=aB (m.out.trans O);have HBt:=aB (O.keepB n.out z);clear O M m J n;have ar:=aB (dF C W1 (p+1) ⟨#[59]⟩ A);have bo:(⟨#[59]⟩:ByteArray).data.toList=[59]:=rfl;rw[bo] at ar;clear A bo;cases d:aV C.ts (p+1) [59];rotate_left
  ·have S:Hid (r=.ok (aR [114,101,116,117,114,110] pl [] [],p+2)):=by show _=_;rw[HRt.out];unfold gP;rw[d,al.out];rfl
   rw[d] at ar;clear d HRt;go_wp2_with fail;refine ar.out.mono ?_;rintro e w2 ⟨rfl,y,f⟩;have L:=aB (HFt.out.trans f);have Q:=aB (f.keepB HBt.out z);have ch:=aB y;have c0:=aA Q.out (i:=0) rfl;have ao:=aD Q.out;clear f y;go_wp2_with fail;go_ret;exact Out.ok S.out L.out ch.out (PN.mk (as_ (as_ (as_ (as_ (as_ (as_ (as_ (as_ (as_ (as_ (as_ (as_ (as_ (as_ (av_ (⟨rfl,pl,rfl,rfl,rfl,rfl⟩)))))))))))))))) (fun p hp=>by cases hp))
  have P:Hid (r=bX (fun v=>aR [114,101,116,117,114,110] pl [] [v]) (aN C.ts [59] (E (p+1)))):=by show _=_;rw[HRt.out];unfold gP;rw[d,JJ,al.out];rfl
  rw[d] at ar;clear d HRt;go_wp2_with fail;refine ar.out.mono ?_;rintro e w2 ⟨rfl,y,f⟩;have L:=aB (HFt.out.trans f);have Q:=aB (f.keepB HBt.out z);clear f;obtain⟨X,s⟩:∃X,X=aN C.ts [59] (E (p+1)):=⟨_,rfl⟩;have u:Hid (r=bX (fun v=>aR [114,101,116,117,114,110] pl [] [v]) X):=by show _=_;rw[P.out,s]
  have V:aN C.ts [59] (E (p+1))≠.error 0:=fun e=>ab.out (by rw[u.out,s,e];rfl)
  have av:=aB s;have Y:=aB (bj.out w2.drew (p+1) y.drew V);simp only[<-av.out] at Y;have c0:=aA Q.out (i:=0) rfl;have ao:=aD Q.out;have am:=L.out.size;clear y V s P;cases X with
  |error l=>
   have S:Hid (r=.error l):=u.out;go_wp2_with fail;go_region_law (refine thrown .nilIface ?_ ?_;(focus go_simp;go_at_call 302;refine Y.out.mono ?_;rintro e w4 ⟨g,rfl⟩;exact aW_ rfl (Out.err S.out (L.out.drew.trans g)));intro x)
   all_goals exact x.out.elim
  |ok aq=>
   obtain⟨a,q⟩:=aq;have S:Hid (r=.ok (aR [114,101,116,117,114,110] pl [] [a],q)):=u.out;clear u;go_wp2_with fail;go_region_law (go_simp;go_at_call 302;refine Y.out.mono ?_;rintro e w4 ⟨g,U,v4,rfl,Z⟩;obtain⟨T4,bw,rfl⟩:=Z.form;have K:=aB ((Fr.refl C.pb w2).drew.trans g);have ae:=aB Z;have af:=aB U;have T:=aB (K.out.keepB Q.out z);have d2:=aA T.out (i:=0) rfl;have ax:=aD T.out;clear g U Z)
   all_goals (go_wp2_with fail;go_ret)
   all_goals exact Out.ok S.out (L.out.trans K.out) af.out (PN.mk (as_ (as_ (as_ (as_ (as_ (as_ (as_ (as_ (as_ (as_ (as_ (as_ (as_ (as_ (as_ (av_ (⟨rfl,_,a,rfl,rfl,rfl,rfl⟩))))))))))))))))) (fun p hp=>by obtain rfl:=aD_.1 hp;exact Prt.ok.node (ae.out.grow (fun _ _ _=>rfl) am (au_ _))))
 have HRn:Hid (r=if aV C.ts p [112,114,105,110,116] then iM E C.ts p else eO E C.ts p):=by show _=_;rw[j.out,d];rfl
 rw[d] at M;clear d j;have j:=HRn;clear HRn;go_wp2_with fail;refine M.out.mono ?_;rintro e V4 ⟨rfl,G,N⟩;have D:=aB (m.out.trans N);have I:=aB (N.keepB n.out z);have F:=aB G;clear N G M m n J;have m:=D;have n:=I;have J:=F;clear D I F;have M:=aB (dF C V4 p ⟨#[112,114,105,110,116]⟩ J.out);have ed:(⟨#[112,114,105,110,116]⟩:ByteArray).data.toList=[112,114,105,110,116]:=rfl;rw[ed] at M;clear ed;cases d:aV C.ts p [112,114,105,110,116];rotate_left
 ·have HRt:Hid (r=iM E C.ts p):=by show _=_;rw[j.out,d];rfl
  rw[d] at M;clear d j;go_wp2_with fail;refine M.out.mono ?_;rintro e W1 ⟨rfl,A,O⟩;have HFt:=aB (m.out.trans O);have HBt:=aB (O.keepB n.out z);clear O M m J n;obtain⟨X,s⟩:∃X,X=aN C.ts [59] (E (p+1)):=⟨_,rfl⟩;have u:Hid (r=bX (fun v=>aR [112,114,105,110,116] pl [] [v]) X):=by show _=_;rw[HRt.out,s];unfold iM;rw[JJ,al.out]
  have V:aN C.ts [59] (E (p+1))≠.error 0:=fun e=>ab.out (by rw[u.out,s,e];rfl)
  have av:=aB s;have Y:=aB (bj.out W1.drew (p+1) A.drew V);simp only[<-av.out] at Y;have c0:=aA HBt.out (i:=0) rfl;have ao:=aD HBt.out;have am:=HFt.out.size;clear A V s HRt;cases X with
  |error l=>
   have S:Hid (r=.error l):=u.out;go_wp2_with fail;go_region_law (refine thrown .nilIface ?_ ?_;(focus go_simp;go_at_call 302;refine Y.out.mono ?_;rintro e w4 ⟨g,rfl⟩;exact aW_ rfl (Out.err S.out (HFt.out.drew.trans g)));intro x)
   all_goals exact x.out.elim
  |ok aq=>
   obtain⟨a,q⟩:=aq;have S:Hid (r=.ok (aR [112,114,105,110,116] pl [] [a],q)):=u.out;clear u;go_wp2_with fail;go_region_law (go_simp;go_at_call 302;refine Y.out.mono ?_;rintro e w4 ⟨g,U,v4,rfl,Z⟩;obtain⟨T4,bw,rfl⟩:=Z.form;have K:=aB ((Fr.refl C.pb W1).drew.trans g);have ae:=aB Z;have af:=aB U;have T:=aB (K.out.keepB HBt.out z);have d2:=aA T.out (i:=0) rfl;have ax:=aD T.out;clear g U Z)
   all_goals (go_wp2_with fail;go_ret)
   all_goals exact Out.ok S.out (HFt.out.trans K.out) af.out (PN.mk (as_ (as_ (as_ (as_ (as_ (as_ (as_ (as_ (as_ (as_ (as_ (as_ (as_ (as_ (as_ (as_ (av_ (⟨rfl,_,a,rfl,rfl,rfl,rfl⟩)))))))))))))))))) (fun p hp=>by obtain rfl:=aD_.1 hp;exact Prt.ok.node (ae.out.grow (fun _ _ _=>rfl) am (au_ _))))
 have HRn:Hid (r=eO E C.ts p):=by show _=_;rw[j.out,d];rfl
 rw[d] at M;clear d j;have j:=HRn;clear HRn;go_wp2_with fail;refine M.out.mono ?_;rintro e V5 ⟨rfl,G,N⟩;have D:=aB (m.out.trans N);have I:=aB (N.keepB n.out z);have F:=aB G;clear N G M m n J;have m:=D;have n:=I;have J:=F;clear D I F;have Y:=aB (cg.out V5 p J.out (by rw[<-j.out];exact ab.out))
 rw[<-j.out] at Y;have ci:=m.out.size;clear j;go_wp2_with fail;refine Y.out.mono ?_;rintro e w3 ⟨W,cc⟩;cases r with
 |error l=>
  obtain rfl:e=cX 4 l:=cc;have ac:=aB (m.out.trans W);clear W;go_wp2_with fail;exact⟨rfl,Out.err rfl ac.out⟩
 |ok aq=>
  obtain⟨a,q⟩:=aq;obtain⟨an,v3,rfl,bp⟩:=cc;have ac:=aB (m.out.trans W);have cj:=aB an;have ck:=aB bp;clear W an bp;go_wp2_with fail;go_ret;exact Out.ok rfl ac.out cj.out (ck.out.grow (fun _ _ _=>rfl) ci (au_ _))
def S0(C:Ctx)(S:Nat->bU aC)(w:World)(r0:bU (List aC))(k:Nat)(v:Value)(wr:World):Prop:=
 Fr C.pb w wr/\∃q acc,PAt C wr q/\r0=dI S C.ts k q acc/\acc.length+k<=4000/\PLst w.heap.size wr v acc
def VX(C:Ctx)(S:Nat->bU aC)(HS:PReads C 257 S):
 BReads C 187 (fun p=>if aV C.ts p [123] then bX (aR [98,108,111,99,107] (aP C.ts p).line []) (aN C.ts [125] (dI S C.ts (C.ts.length+1) (p+1) [])) else Hs.bad C.ts p):=by
 obtain⟨i0,hi,al,av,ao⟩:=info_parts CX;intro w p h W;have j:=aB (fP C w p ⟨#[123]⟩ h);have ed:(⟨#[123]⟩:ByteArray).data.toList=[123]:=rfl;rw[ed] at j;have aw:=aB HS;have az:=h.len;have z:=h.pb_lt;have ay:=h.g_lt;show Calls _ _ _ _ (ac_ C w (if aV C.ts p [123] then bX (aR [98,108,111,99,107] (aP C.ts p).line []) (aN C.ts [125] (dI S C.ts (C.ts.length+1) (p+1) [])) else Hs.bad C.ts p))
 obtain⟨r,hr⟩:∃r,r=(if aV C.ts p [123] then bX (aR [98,108,111,99,107] (aP C.ts p).line []) (aN C.ts [125] (dI S C.ts (C.ts.length+1) (p+1) [])) else Hs.bad C.ts p):=⟨_,rfl⟩
 have J:r≠.error 0:=hr▸W;rw[<-hr];have HR:=aB hr;have ap:=aB J;clear h HS W hr J ed;cases a:aV C.ts p [123]
 ·have HL:Hid (r=.error (aP C.ts p).line):=by show _=_;rw[HR.out,a];rfl
  rw[a] at j;clear a HR;go_enter func187,ntmps187;go_wp2_with fail;refine j.out.mono ?_;rintro e w1 ⟨y,K⟩;obtain rfl:e=cX 4 (aP C.ts p).line:=K;have ak:=aB y;clear y;go_wp2_with fail;exact⟨rfl,Out.err HL.out ak.out⟩
 obtain⟨E,P⟩:∃E,E=dI S C.ts (C.ts.length+1) (p+1) []:=⟨_,rfl⟩;have M:Hid (r=bX (aR [98,108,111,99,107] (aP C.ts p).line []) (aN C.ts [125] E)):=by show _=_;rw[HR.out,a,P];rfl
 have I:Hid (E≠.error 0):=fun e=>ap.out (by rw[M.out,e];rfl)
 have X:=aB P;rw[a] at j;clear a HR P;go_enter func187,ntmps187;go_wp2_with fail;refine j.out.mono ?_;rintro e w1 ⟨y,K⟩;obtain⟨rfl,ag⟩:=K;have HI:Hid (S0 C S w E (C.ts.length+1) (.slice none 0 0) w1):=⟨y,p+1,[],ag,X.out,by simp;omega,PLst.nil _ _⟩
 clear y ag j X;go_wp2_with fail;go_loopg [3] (C.ts.length+1) (fun k v wr=>S0 C S w E k v wr)
 case atStart=>exact HI.out
 case round=>
  obtain⟨L,U,m,Z,u,bd,Q⟩:=hrel;obtain⟨x4,c4,rfl⟩:=Q.slice;have f:=aB (dF C wr U ⟨#[125]⟩ Z);have ed:(⟨#[125]⟩:ByteArray).data.toList=[125]:=rfl;rw[ed] at f;have af:=aB L;have N:=aB Q;have bf:=L.size
  obtain⟨k,rfl⟩:∃k,gk=k+1:=by
   cases gk with
   |zero=>exact absurd u I.out
   |succ k=>exact⟨k,rfl⟩
  clear L Z Q HI ed;cases a:aV C.ts U [125];rotate_left
  ·have HL:Hid (r=.ok (aR [98,108,111,99,107] (aP C.ts p).line [] m,U+1)):=by show _=_;rw[M.out,u,dI,if_pos a,nS a];rfl
   rw[a] at f;clear a u;go_wp2_with fail;refine f.out.mono ?_;rintro e w5 ⟨rfl,x,c⟩;have aq:=aB x;have s:=aB (af.out.trans c);have o:=aB (N.out.keep c z);clear x c;go_wp2_with fail;go_ret;exact Out.ok HL.out s.out aq.out ⟨rfl,o.out.kid⟩
  ·obtain⟨rE,B⟩:∃rE,rE=S U:=⟨_,rfl⟩
   have A:Hid (E=bR rE fun i q=>dI S C.ts k q (m++[i])):=by
    show _=_
    rw[u,dI,if_neg (by rw[a];simp),B]
    cases S U<;>rfl
   have aa:S U≠.error 0:=fun e=>I.out (by rw[A.out,B,e];rfl)
   have ax:=aB B;rw[a] at f;clear a u B;go_wp2_with fail;refine f.out.mono ?_;rintro e w5 ⟨rfl,x,c⟩;have HX:=aB (aw.out w5 U x aa);simp only[<-ax.out] at HX;have s:=aB (af.out.trans c);have o:=aB (N.out.keep c z);have be:=c.size;clear x c f N aa;cases rE with
   |error l=>
    have HL:Hid (r=.error l):=by show _=_;rw[M.out,A.out];rfl
    go_wp2_with fail;refine HX.out.mono ?_;rintro e w6 ⟨d,rfl⟩;have D:=aB (s.out.trans d);clear d HX;go_wp2_with fail;exact⟨rfl,Out.err HL.out D.out⟩
   |ok ar=>
    obtain⟨a6,q6⟩:=ar;have au:Hid (E=dI S C.ts k q6 (m++[a6])):=A.out;clear A;go_wp2_with fail;refine HX.out.mono ?_;rintro e w6 ⟨d,ae,v6,rfl,O⟩;obtain⟨T6,aj,rfl⟩:=O.form;obtain⟨vs,F,t,H,ad⟩:=o.out.keep d z
    have ah:∀g,(Value.slice x4 m.length c4).ownBlock=some g->g<w5.heap.size:=by
     obtain⟨bc,F',V,_⟩:=o.out;exact cK V
    have Y:=aB ah;have D:=aB (s.out.trans d);have ab:=aB ae;have ac:=aB O;have HALL:=aB (aW_ H ad);have bb:=d.size;have T:∀k,(Value.slice x4 m.length c4).ownBlock=some k->w.heap.size<=k:=cC t;clear ae d O HX o s H ad ah;go_wp2_with (at_builtin;refine wpList_append_lies _ (by rfl) _ _ 213 (by rfl) w.heap.size 122 i0 _ 1 16 underlying213 hi al av ao rfl (by decide) _ _ _ (by rfl) (t.alloc _) ⟨w6.heap.size,0,none⟩ 1 1 [.iface T6 (.agg aj)] (by rfl) (by rfl) (rT _ _) (uY _ _) (by decide) (by unfold maxLen;omega) (by omega) (by simp;omega) (w6.heap.size+1) (by simp) ?_)
    intro g7 ba w9 n b G bg;have am:=aB (PLst.snoc (lo:=w5.heap.size) HALL.out.1 HALL.out.2 ac.out (by omega) Y.out (fun k hk=>aA_ _ _ _ hk) (by simp) n b (G.imp_right (fun e=>by omega)))
    have ai:=aB ((ab.out.alloc _).grown (base:=w.heap.size) b T z ay);have an:=aB ((D.out.alloc _).grown b T);clear t n b G ac ab D HALL Y T;go_wp2_with fail;go_roundg k
    case measure=>omega
    case rel=>exact⟨an.out,q6,m++[a6],ai.out,au.out,by simp;omega,by simpa using am.out⟩
def JD(C:Ctx)(f:Nat):∀g,BReads C 187 (iQ (fB C.ts f) C.ts g)
 |0=>fun _ _ _ a=>absurd rfl a
 |g+1=>fun w p h a=>VX C (iW (fB C.ts f) (iQ (fB C.ts f) C.ts g) C.ts) (I7 C _ _ (JA C f) (JD C f g)) w p h a
def N9:(prog.info? 211).map (fun i=>(i.zero,i.size,i.bytes))=some (some (.agg #[.int .i64 0,.string (bs [])]),2,24):=by kernel_rfl
def F8:List aC->List Value
 |[]=>[]
 |a::l=>.int .i64 a.line::.string (bs a.text)::F8 l
def R5(l:List aC)(a:aC):F8 (l++[a])=F8 l++[.int .i64 a.line,.string (bs a.text)]:=by
 induction l with
 |nil=>rfl
 |cons x l b=>simp[F8,b]
def PNm(F:Nat->Prop)(w:World)(v:Value)(l:List aC):Prop:=
 (∀a∈l,a.op=[112,97,114,97,109])/\((v=.slice none 0 0/\l=[])\/
 ∃g cap cur,v=.slice (some ⟨g,0,none⟩) l.length cap/\F g/\w.heap[g]?=some (.cells cur 211 (0,0))/\l.length<=cap/\cur.toList.take (l.length*2)=F8 l)
def PNm.keep{F G:Nat->Prop}{w w':World}{v:Value}{l:List aC}(h:PNm F w v l)(f:∀b,F b->w'.heap[b]?=w.heap[b]?)(m:∀b,F b->G b):PNm G w' v l:=by
 obtain⟨e,h|⟨g,c,a,j,d,k,i⟩⟩:=h
 ·exact⟨e,av_ h⟩
 ·exact⟨e,as_ ⟨g,c,a,j,m g d,by rw[f g d];exact k,i⟩⟩
def PNm.slice{F:Nat->Prop}{w:World}{v:Value}{l:List aC}(h:PNm F w v l):∃x c,v=.slice x l.length c:=by
 obtain⟨_,⟨a,d⟩|⟨g,e,b,a,_⟩⟩:=h
 ·exact⟨none,0,by rw[a,d];rfl⟩
 ·exact⟨_,_,a⟩
def PNl(base:Nat)(w:World)(v:Value)(acc:List aC):Prop:=(∀a∈acc,a.op=[112,97,114,97,109])/\w.ownsRow base 211 2 v acc.length (F8 acc)
def PNl.slice{base:Nat}{w:World}{v:Value}{acc:List aC}(h:PNl base w v acc):∃x c,v=.slice x acc.length c:=by
 rcases h.2.2 with ⟨a,d⟩|⟨g,b,e,a,_⟩
 ·exact⟨none,0,by rw[a,d]⟩
 ·exact⟨_,b,a⟩
def PNl.keep{base pb:Nat}{w w1:World}{v:Value}{acc:List aC}(h:PNl base w v acc)(b:Fr pb w w1)(c:pb<base):PNl base w1 v acc:=by
 refine⟨h.1,aY h.2 fun k a=>?_⟩
 have:=cC h.2 k a;exact b.block k (cK h.2 k a) (by omega)
def PNl.nm{base:Nat}{w:World}{v:Value}{acc:List aC}(h:PNl base w v acc):PNm (Btw base w.heap.size) w v acc:=by
 rcases h.2.2 with ⟨c,a⟩|⟨g,d,b,c,a,e,f,k,j,i⟩
 ·exact⟨h.1,av_ ⟨c,aN_ a⟩⟩
 ·exact⟨h.1,as_ ⟨g,d,b,c,⟨a,aD e⟩,e,f,i⟩⟩
def IF(w:World)(a b:Value):∀j u,([a,b]:List Value)[j]?=some u->(w.alloc (.cells #[a,b] 211)).cell? ((⟨w.heap.size,0,none⟩:Addr).add j)=some u:=by
 intro j u c;match j,c with
 |0,c=>simp at c;subst c;simp[Addr.add,go_sem]
 |1,c=>simp at c;subst c;simp[Addr.add,go_sem]
 |j+2,c=>simp at c
def ON(l:Int)(b:ByteArray):∀u∈([.int .i64 l,.string b]:List Value),u.oneCell'=true:=by
 intro u a;simp at a;rcases a with rfl|rfl<;>rfl
def Q9(C:Ctx)(w:World)(r0:bU (List aC))(k:Nat)(v:Value)(wr:World):Prop:=
 Fr C.pb w wr/\∃q acc,PAt C wr q/\r0=(if aV C.ts q [44] then cR C.ts k (q+1) acc else .ok (acc,q))/\acc.length+k<=4000/\PNl w.heap.size wr v acc
def pnode(t:aX):aC:=aR [112,97,114,97,109] t.line t.text []
def WP{ts:List aX}{k p:Nat}{acc:List aC}(h:((aP ts p).sort==110)=true):cR ts (k+1) p acc=if aV ts (p+1) [44] then cR ts k (p+1+1) (acc++[pnode (aP ts p)]) else .ok (acc++[pnode (aP ts p)],p+1):=by
 rw[cR,if_pos h];rfl
def L2{ts:List aX}{k p:Nat}{acc:List aC}(h:((aP ts p).sort==110)=false):cR ts (k+1) p acc=.error (aP ts p).line:=by
 rw[cR,if_neg (by rw[h];simp)];rfl
def PNs(lo:Nat)(w':World)(v:Value)(l:List aC):Prop:=PNm (Btw lo w'.heap.size) w' v l
def TI(C:Ctx)(w:World)(p:Nat)(h:PAt C w p)(r:bU (List aC))(hr:r=if aV C.ts p [40] then gR C.ts (p+1) else Hs.bad C.ts p)(ae:r≠.error 0):
 Calls prog 186 #[.pointer (some ⟨C.pb,0,none⟩)] w (Out C w r (PNs w.heap.size)):=by
 obtain⟨i0,hi,ai,ar,ao⟩:=info_parts N9;have d:=aB (fP C w p ⟨#[40]⟩ h);have L:(⟨#[40]⟩:ByteArray).data.toList=[40]:=rfl;rw[L] at d;have be:=h.len;have x:=h.pb_lt;have av:=h.g_lt;have HR:=aB hr;have bc:=aB ae;clear h hr ae L;cases b:aV C.ts p [40]
 ·have K:Hid (r=.error (aP C.ts p).line):=by show _=_;rw[HR.out,b];rfl
  rw[b] at d;clear b HR;go_enter func186,ntmps186;go_wp2_with fail;refine d.out.mono ?_;rintro e w1 ⟨Q,Y⟩;obtain rfl:e=cX 4 (aP C.ts p).line:=Y;have D:=aB Q;clear Q;go_wp2_with fail;exact⟨rfl,Out.err K.out D.out⟩
 have V:Hid (r=aN C.ts [41] (if aV C.ts (p+1) [41] then .ok ([],p+1) else cR C.ts (C.ts.length+1) (p+1) [])):=by show _=_;rw[HR.out,b];rfl
 rw[b] at d;clear b HR;go_enter func186,ntmps186;go_wp2_with fail;refine d.out.mono ?_;rintro e w1 ⟨Q,Y⟩;obtain⟨rfl,ap⟩:=Y;have HA:=aB (dF C w1 (p+1) ⟨#[41]⟩ ap);have L:(⟨#[41]⟩:ByteArray).data.toList=[41]:=rfl;rw[L] at HA;have D:=aB Q;clear Q ap d L;cases b:aV C.ts (p+1) [41];rotate_left
 ·have K:Hid (r=.ok ([],p+1+1)):=by show _=_;rw[V.out,if_pos b,nS b]
  rw[b] at HA;clear b V;go_wp2_with fail;refine HA.out.mono ?_;rintro e w2 ⟨rfl,J,G⟩;have O:=aB (D.out.trans G);have ay:=aB J;clear G J;go_wp2_with fail;go_ret;exact Out.ok K.out O.out ay.out ⟨fun _ h=>(by cases h),av_ ⟨rfl,rfl⟩⟩
 obtain⟨S,ab⟩:∃S,S=cR C.ts (C.ts.length+1) (p+1) []:=⟨_,rfl⟩;have m:Hid (r=aN C.ts [41] S):=by show _=_;rw[V.out,if_neg (by rw[b];simp),ab]
 have aq:Hid (S≠.error 0):=fun e=>bc.out (by rw[m.out,e];rfl)
 have T:=aB ab;rw[b] at HA;clear b V ab;go_wp2_with fail;refine HA.out.mono ?_;rintro e w2 ⟨rfl,J,G⟩;have f:=aB (mL C w2 (p+1) J);have O:=aB (D.out.trans G);clear G J HA D;cases y:((aP C.ts (p+1)).sort==110)
 ·have K:Hid (r=.error (aP C.ts (p+1)).line):=by show _=_;rw[m.out,T.out,L2 y];rfl
  rw[y] at f;clear y T m;go_wp2_with fail;refine f.out.mono ?_;rintro e w3 ⟨E,Z⟩;obtain rfl:e=cX 4 (aP C.ts (p+1)).line:=Z;have P:=aB (O.out.trans E);clear E;go_wp2_with fail;exact⟨rfl,Out.err K.out P.out⟩
 have am:Hid (S=if aV C.ts (p+1+1) [44] then cR C.ts C.ts.length (p+1+1+1) [pnode (aP C.ts (p+1))] else .ok ([pnode (aP C.ts (p+1))],p+1+1)):=by show _=_;rw[T.out,WP y];rfl
 rw[y] at f;clear y T;generalize aP C.ts (p+1)=t at*;go_wp2_with fail;refine f.out.mono ?_;rintro e w3 ⟨E,Z⟩;obtain⟨rfl,af⟩:=Z;have P:=aB (O.out.trans E);have ak:=aB af;have bf:=P.out.size;clear E af f O;go_wp2_with (at_builtin;refine wpList_append_lies _ (by rfl) _ _ 212 (by rfl) w.heap.size 211 i0 _ 2 24 underlying212 hi ai ar ao rfl (by decide) (.slice none 0 0) 0 [] (by rfl) (World.ownsRow_nil _ _ _ _) ⟨w3.heap.size,0,none⟩ 1 1 [.int .i64 t.line,.string (bs t.text)] (by rfl) (by rfl) (IF _ _ _) (ON _ _) (by decide) (by unfold maxLen;omega) (by omega) (by simp;omega) (w3.heap.size+1) (by simp) ?_)
 intro g4 an w4 B l aj bk;have al:=aB ((ak.out.alloc _).grown (base:=w.heap.size) l (fun k hk=>by cases hk) x av)
 have I:=aB ((P.out.alloc _).grown l (fun k hk=>by cases hk))
 have HI:Hid (Q9 C w S C.ts.length (.slice (some ⟨g4,0,none⟩) 1 an) w4):=⟨I.out,p+1+1,[pnode t],al.out,am.out,by simp;omega,by intro a ha;rw[aD_.1 ha];rfl,B⟩
 clear B l aj am ak P al I;go_wp2_with fail;go_loopg [3] C.ts.length (fun k v wr=>Q9 C w S k v wr)
 case atStart=>exact HI.out
 case round=>
  obtain⟨aa,i,o,ag,X,bh,ac⟩:=hrel;obtain⟨x4,c4,rfl⟩:=ac.slice;have s:=aB (dF C wr i ⟨#[44]⟩ ag);have L:(⟨#[44]⟩:ByteArray).data.toList=[44]:=rfl;rw[L] at s;have I:=aB aa;have W:=aB ac;have bj:=aa.size;clear aa ag ac HI L;cases b:aV C.ts i [44]
  ·have g:Hid (S=.ok (o,i)):=by show _=_;rw[X,b];rfl
   rw[b] at s;clear b X;go_wp2_with fail;refine s.out.mono ?_;rintro e w5 ⟨rfl,N,q⟩;have d:=aB (fP C w5 i ⟨#[41]⟩ N);have L:(⟨#[41]⟩:ByteArray).data.toList=[41]:=rfl;rw[L] at d;have A:=aB (I.out.trans q);have z:=aB (W.out.keep q x);clear N q s W L;cases b:aV C.ts i [41]
   ·have K:Hid (r=.error (aP C.ts i).line):=by show _=_;rw[m.out,g.out];exact xL b
    rw[b] at d;clear b g m;go_wp2_with fail;refine d.out.mono ?_;rintro e w6 ⟨c,u⟩;obtain rfl:e=cX 4 (aP C.ts i).line:=u;have n:=aB (A.out.trans c);clear c;go_wp2_with fail;exact⟨rfl,Out.err K.out n.out⟩
   ·have K:Hid (r=.ok (o,i+1)):=by show _=_;rw[m.out,g.out];exact nS b
    rw[b] at d;clear b g m;go_wp2_with fail;refine d.out.mono ?_;rintro e w6 ⟨c,u⟩;obtain⟨rfl,H⟩:=u;have n:=aB (A.out.trans c);have U:=aB H;have az:=aB (z.out.keep c x);clear c H z;go_wp2_with fail;go_ret;exact Out.ok K.out n.out U.out az.out.nm
  ·have g:Hid (S=cR C.ts gk (i+1) o):=by show _=_;rw[X,b];rfl
   rw[b] at s;clear b X
   obtain⟨k,rfl⟩:∃k,gk=k+1:=by
    cases gk with
    |zero=>exact absurd g.out aq.out
    |succ k=>exact⟨k,rfl⟩
   go_wp2_with fail;refine s.out.mono ?_;rintro e w5 ⟨rfl,N,q⟩;have f:=aB (mL C w5 (i+1) N);have A:=aB (I.out.trans q);have z:=aB (W.out.keep q x);clear N q s W;cases y:((aP C.ts (i+1)).sort==110)
   ·have K:Hid (r=.error (aP C.ts (i+1)).line):=by show _=_;rw[m.out,g.out,L2 y];rfl
    rw[y] at f;clear y g m;go_wp2_with fail;refine f.out.mono ?_;rintro e w6 ⟨c,u⟩;obtain rfl:e=cX 4 (aP C.ts (i+1)).line:=u;have n:=aB (A.out.trans c);clear c;go_wp2_with fail;exact⟨rfl,Out.err K.out n.out⟩
   ·have bd:Hid (S=if aV C.ts (i+1+1) [44] then cR C.ts k (i+1+1+1) (o++[pnode (aP C.ts (i+1))]) else .ok (o++[pnode (aP C.ts (i+1))],i+1+1)):=by show _=_;rw[g.out,WP y]
    rw[y] at f;clear y g;generalize aP C.ts (i+1)=t5 at*;go_wp2_with fail;refine f.out.mono ?_;rintro e w6 ⟨c,u⟩;obtain⟨rfl,H⟩:=u;have n:=aB (A.out.trans c);have U:=aB H;have M:=(z.out.keep c x).2;have ah:=aB z.out.1;have bg:=n.out.size;have ad:∀k,(Value.slice x4 o.length c4).ownBlock=some k->w.heap.size<=k:=cC M;clear c H f A z;go_wp2_with (at_builtin;refine wpList_append_lies _ (by rfl) _ _ 212 (by rfl) w.heap.size 211 i0 _ 2 24 underlying212 hi ai ar ao rfl (by decide) _ _ _ (by rfl) (M.alloc _) ⟨w6.heap.size,0,none⟩ 1 1 [.int .i64 t5.line,.string (bs t5.text)] (by rfl) (by rfl) (IF _ _ _) (ON _ _) (by decide) (by unfold maxLen;omega) (by omega) (by simp;omega) (w6.heap.size+1) (by simp) ?_)
    intro g7 au w7 F j aw bi;have ax:=aB ((U.out.alloc _).grown (base:=w.heap.size) j ad x av);have ba:=aB ((n.out.alloc _).grown j ad)
    have bb:Hid (PNl w.heap.size w7 (.slice (some ⟨g7,0,none⟩) (o.length+1) au) (o++[pnode t5])):=by
     refine⟨fun a ha=>?_,?_⟩
     ·rcases aE_.1 ha with h|h
      ·exact ah.out a h
      ·rw[aD_.1 h];rfl
     ·rw[R5,aw_];exact F
    clear M F j aw U n ad ah;go_wp2_with fail;go_roundg k
    case measure=>omega
    case rel=>exact⟨ba.out,i+1+1,_,ax.out,bd.out,by simp;omega,bb.out⟩
def AC(F:Nat->Prop)(w:World)(v:Value)(f:aC):Prop:=
 ∃pv bv ps b,v=.agg #[.int .i64 f.line,.string (bs f.text),pv,bv]/\f.kids=ps++[b]/\PNm F w pv ps/\b.op=[98,108,111,99,107]/\PKid F w bv b.kids
def AC.keep{F G:Nat->Prop}{w w':World}{v:Value}{f:aC}(h:AC F w v f)(a:∀b,F b->w'.heap[b]?=w.heap[b]?)(c:∀b,F b->G b):AC G w' v f:=by
 obtain⟨m,i,d,b,j,e,l,g,k⟩:=h;exact⟨m,i,d,b,j,e,l.keep a c,g,k.keep a c⟩
def ae_(lo:Nat)(w:World)(v:Value)(f:aC):Prop:=AC (Btw lo w.heap.size) w v f
def O3(C:Ctx)(B:Nat->bU aC)(HB:BReads C 187 B)(w:World)(p:Nat)(h:PAt C w p)(r:bU aC)(hr:r=jS B C.ts p)(ah:r≠.error 0):
 Calls prog 134 #[.pointer (some ⟨C.pb,0,none⟩)] w (Out C w r (ae_ w.heap.size)):=by
 obtain⟨rb,bf⟩:∃rb,rb=w.heap.size:=⟨_,rfl⟩;have z:=aB (fP C (w.alloc (.cells #[.int .i64 0,.string ⟨#[]⟩,.slice none 0 0,.slice none 0 0] 215)) p ⟨#[102,117,110,99]⟩ (h.alloc _));have ed:(⟨#[102,117,110,99]⟩:ByteArray).data.toList=[102,117,110,99]:=rfl;rw[ed] at z;have ac:Hid (Fr C.pb w (w.alloc (.cells #[.int .i64 0,.string ⟨#[]⟩,.slice none 0 0,.slice none 0 0] 215))):=(Fr.refl _ _).alloc _;have U:Hid ((w.alloc (.cells #[.int .i64 0,.string ⟨#[]⟩,.slice none 0 0,.slice none 0 0] 215)).heap[w.heap.size]?=some (.cells #[.int .i64 0,.string ⟨#[]⟩,.slice none 0 0,.slice none 0 0] 215 (0,0))):=aM _ _ rfl _;have be:=aB HB;have bj:=h.len;have bk:=h.pb_lt;have bt:=h.g_lt;have HR:=aB hr;have am:=aB ah;have J:w.heap.size≠C.pb:=by omega
 clear h hr ah ed HB bf rb;cases x:aV C.ts p [102,117,110,99]
 ·have S:Hid (r=.error (aP C.ts p).line):=by show _=_;rw[HR.out];unfold jS;rw[x];rfl
  rw[x] at z;clear x HR;go_enter func134,ntmps134;go_wp2_with fail;refine z.out.mono ?_;rintro e w1 ⟨D,X⟩;obtain rfl:e=cX 4 (aP C.ts p).line:=X;have G:=aB (ac.out.trans D);clear D;go_wp2_with fail;exact⟨rfl,Out.err S.out G.out⟩
 obtain⟨t,ht⟩:∃t,t=aP C.ts (p+1):=⟨_,rfl⟩
 have P:Hid (r=if t.sort==110 then (if aV C.ts (p+2) [40] then
       bR (gR C.ts (p+3)) fun l q=>bX (fun b=>aR [102,117,110,99] t.line t.text (l++[b])) (B q)
  else Hs.bad C.ts (p+2)) else Hs.bad C.ts (p+1)):=by show _=_;rw[HR.out];unfold jS;rw[x,ht];rfl
 have HT:=aB ht;rw[x] at z;clear x HR ht;go_enter func134,ntmps134;go_wp2_with fail;refine z.out.mono ?_;rintro e w1 ⟨D,X⟩;obtain⟨rfl,ao⟩:=X;have y:=aB (mL C w1 (p+1) ao);rw[<-HT.out] at y;have G:=aB (ac.out.trans D);have H:=aB (D.keepB U.out J);clear D ao z ac U;cases hs:(t.sort==110)
 ·have S:Hid (r=.error t.line):=by show _=_;rw[P.out,hs];show Hs.bad _ _=_;unfold Hs.bad;rw[<-HT.out]
  rw[hs] at y;clear hs P;go_wp2_with fail;refine y.out.mono ?_;rintro e V ⟨s,af⟩;obtain rfl:e=cX 4 t.line:=af;have L:=aB (G.out.trans s);clear s;go_wp2_with fail;exact⟨rfl,Out.err S.out L.out⟩
 obtain⟨rP,ab⟩:∃rP,rP=(if aV C.ts (p+1+1) [40] then gR C.ts (p+1+1+1) else Hs.bad C.ts (p+1+1)):=⟨_,rfl⟩
 have N:Hid (r=bR rP fun l q=>bX (fun b=>aR [102,117,110,99] t.line t.text (l++[b])) (B q)):=by
  show _=_
  rw[P.out,hs,ab,if_pos rfl];by_cases T:aV C.ts (p+1+1) [40]=true
  ·rw[if_pos T,if_pos T]
  ·rw[if_neg T,if_neg T];rfl
 have al:=aB ab;have av:Hid (rP≠.error 0):=fun e=>am.out (by rw[N.out,e];rfl)
 rw[hs] at y;clear hs P ab;go_wp2_with fail;refine y.out.mono ?_;rintro e V ⟨s,af⟩;obtain⟨rfl,ad⟩:=af;have L:=aB ((G.out.trans s).alloc (.cells #[.int .i64 t.line,.string (bs t.text)] 211));have c:=aB ((s.alloc (.cells #[.int .i64 t.line,.string (bs t.text)] 211)).keepB H.out J);have m:Hid ((V.alloc (.cells #[.int .i64 t.line,.string (bs t.text)] 211)).heap[V.heap.size]?=some (.cells #[.int .i64 t.line,.string (bs t.text)] 211 (0,0))):=aM _ _ rfl _;have aa:V.heap.size≠C.pb:=by have:=ad.pb_lt;omega
 have bp:w.heap.size<V.heap.size:=az_ (aD H.out) s.size;have ag:=aB (TI C (V.alloc (.cells #[.int .i64 t.line,.string (bs t.text)] 211)).drew (p+1+1) (ad.alloc _).drew rP al.out av.out);clear s ad y G H al;go_wp2_with fail;generalize hW:V.alloc (.cells #[.int .i64 t.line,.string (bs t.text)] 211)=W at*;have bo:W.heap.size=V.heap.size+1:=by rw[<-hW];simp
 clear hW;have c0:=aA m.out (i:=0) rfl;have c1:=aA m.out (i:=1) rfl;have bm:=aD m.out;cases rP with
 |error l=>
  have S:Hid (r=.error l):=N.out;have ba:=aA c.out (i:=0) rfl;have bc:=aA c.out (i:=1) rfl;have bg:=aA c.out (i:=2) rfl;have az:=aA c.out (i:=3) rfl;have ar:=aE (i:=0) c.out;have ay:=aE (i:=1) c.out;have bi:=aE (i:=2) c.out;have ax:=aE (i:=3) c.out;have ap:=aD c.out;go_region_law (first|(refine thrown (.slice none 0 0) ?_ ?_;(focus go_simp;go_at_call 186;refine ag.out.mono ?_;rintro e w3 ⟨o,rfl⟩;exact aW_ rfl (Out.err S.out (L.out.drew.trans o)));intro g)|(refine thrown (.slice none 0 0) g.out.elim ?_;intro ak))
  all_goals exact g.out.elim
 |ok lq=>
  obtain⟨l,q⟩:=lq;obtain⟨rB,M⟩:∃rB,rB=B q:=⟨_,rfl⟩;have Q:Hid (r=bX (fun b=>aR [102,117,110,99] t.line t.text (l++[b])) rB):=by show _=_;rw[N.out,M];rfl
  have an:B q≠.error 0:=fun e=>am.out (by rw[Q.out,M,e];rfl)
  have Z:=aB (fun W (hW:PAt C W q)=>be.out W q hW an)
  rw[<-M] at Z;clear M an N;cases rB with
  |error l2=>
   have S:Hid (r=.error l2):=Q.out;go_region_law (first|(go_simp;go_at_call 186;refine ag.out.mono ?_;rintro e w3 ⟨o,E,v3,rfl,A⟩;obtain⟨x3,c3,rfl⟩:=A.slice;have n:=aB ((Fr.refl C.pb W).drew.trans o);have Y:=aB E;have f:=aB (n.out.keepB m.out aa);have d0:=aA f.out (i:=0) rfl;have d1:=aA f.out (i:=1) rfl;have au:=aD f.out;have a:=aB (n.out.keepB c.out J);have ba:=aA a.out (i:=0) rfl;have bc:=aA a.out (i:=1) rfl;have bg:=aA a.out (i:=2) rfl;have az:=aA a.out (i:=3) rfl;have ar:=aE (i:=0) a.out;have ay:=aE (i:=1) a.out;have bi:=aE (i:=2) a.out;have ax:=aE (i:=3) a.out;have ap:=aD a.out;clear o E A)|(refine thrown (.slice none 0 0) ?_ ?_;(focus go_simp;go_at_call 187;refine(Z.out _ Y.out).mono ?_;rintro e w4 ⟨O,rfl⟩;exact aW_ rfl (Out.err S.out ((L.out.trans n.out).trans O)));intro g))
   all_goals exact g.out.elim
  |ok bq=>
   obtain⟨b,q4⟩:=bq;have S:Hid (r=.ok (aR [102,117,110,99] t.line t.text (l++[b]),q4)):=Q.out;clear Q;go_region_law (first|(go_simp;go_at_call 186;refine ag.out.mono ?_;rintro e w3 ⟨o,E,v3,rfl,A⟩;obtain⟨x3,c3,rfl⟩:=A.slice;have n:=aB ((Fr.refl C.pb W).drew.trans o);have Y:=aB E;have bd:=aB A;have f:=aB (n.out.keepB m.out aa);have a:=aB (n.out.keepB c.out J);have d0:=aA f.out (i:=0) rfl;have d1:=aA f.out (i:=1) rfl;have au:=aD f.out;clear o E A)|(go_simp;go_at_call 187;refine(Z.out _ Y.out).mono ?_;rintro e w4 ⟨O,aj,v4,rfl,ae⟩;obtain⟨x4,n4,c4,rfl⟩:=ae.slice;have K:=aB O;have aw:=aB aj;have aq:=aB ae;have F:=aB (K.out.keepB f.out aa);have d:=aB (K.out.keepB a.out J);have e0:=aA F.out (i:=0) rfl;have e1:=aA F.out (i:=1) rfl;have br:=aD F.out;have z0:=aA d.out (i:=0) rfl;have z1:=aA d.out (i:=1) rfl;have z2:=aA d.out (i:=2) rfl;have z3:=aA d.out (i:=3) rfl;have y0:=aE (i:=0) d.out;have y1:=aE (i:=1) d.out;have y2:=aE (i:=2) d.out;have y3:=aE (i:=3) d.out;have bn:=aD d.out;clear O aj ae))
   all_goals go_wp2_with fail
   all_goals
    refine bodyPost_ret (v:=.agg #[.int .i64 t.line,.string (bs t.text),.slice x3 l.length c3,.slice x4 n4 c4]) (by simp[results,results134,go_sem,z0,z1,z2,z3]) rfl ?_
    have bl:=n.out.size;have bb:=K.out.size;have j:∀(W:World) (i:Nat) (u:Value),(W.setCell ⟨w.heap.size,i,none⟩ u).heap.size=W.heap.size:=fun W i u=>by simp[World.setCell]
    have ai:∀k,w.heap.size<k->((((w4.setCell ⟨w.heap.size,0,none⟩ (.int .i64 t.line)).setCell ⟨w.heap.size,1,none⟩ (.string (bs t.text))).setCell ⟨w.heap.size,2,none⟩ (.slice x3 l.length c3)).setCell ⟨w.heap.size,3,none⟩ (.slice x4 n4 c4)).heap[k]?=w4.heap[k]?:=fun k I=>by
     rw[ax_ _ _ _ _ (by show k≠w.heap.size;omega),ax_ _ _ _ _ (by show k≠w.heap.size;omega),ax_ _ _ _ _ (by show k≠w.heap.size;omega),ax_ _ _ _ _ (by show k≠w.heap.size;omega)]
    refine Out.ok S.out (((((L.out.trans (n.out.trans K.out)).setCell (as_ (au_ _)) _).setCell (as_ (au_ _)) _).setCell (as_ (au_ _)) _).setCell (as_ (au_ _)) _) ((((aw.out.other (by omega) (by omega)).other (by omega) (by omega)).other (by omega) (by omega)).other (by omega) (by omega)) ⟨_,_,l,b,rfl,rfl,?_,aq.out.1,?_⟩
    ·refine PNm.keep bd.out (fun k I=>?_) fun k I=>⟨?_,?_⟩
     ·have h1:=I.1;have bh:W.heap.size<=k:=h1;rw[ai k (by omega),K.out.block k I.2 (by omega)]
     ·have bh:W.heap.size<=k:=I.1;omega
     ·rw[j,j,j,j];exact az_ I.2 bb
    ·refine PKid.keep aq.out.2 (fun k I=>ai k (by have:=I.1;omega)) fun k I=>⟨?_,?_⟩
     ·have:=I.1;omega
     ·rw[j,j,j,j];exact I.2
def O1:(prog.info? 215).map (fun i=>(i.zero,i.size,i.bytes))=some (some (.agg #[.int .i64 0,.string (bs []),.slice none 0 0,.slice none 0 0]),4,72):=by kernel_rfl
def xD:Value->List Value
 |.agg a=>a.toList
 |v=>[v]
def jO:List Value->List Value
 |[]=>[]
 |v::l=>xD v++jO l
def UX(l:List Value)(v:Value):jO (l++[v])=jO l++xD v:=by
 induction l with
 |nil=>simp[jO]
 |cons x l a=>simp[jO,a]
def FSl(F:Nat->Prop)(w:World)(v:Value)(fs:List aC):Prop:=
 (v=.slice none 0 0/\fs=[])\/
 ∃g cap cur us,v=.slice (some ⟨g,0,none⟩) fs.length cap/\F g/\w.heap[g]?=some (.cells cur 215 (0,0))/\fs.length<=cap/\cur.toList.take (fs.length*4)=jO us/\jX (AC F w) us fs
def PFl(base:Nat)(w:World)(v:Value)(acc:List aC):Prop:=
 ∃us F,w.ownsRow base 215 4 v acc.length (jO us)/\jX (AC F w) us acc/\∀b,F b->base<=b/\b<w.heap.size/\v.ownBlock≠some b
def PFl.nil(base:Nat)(w:World):PFl base w (.slice none 0 0) []:=⟨[],fun _=>False,World.ownsRow_nil _ _ _ _,trivial,fun _ h=>h.elim⟩
def PFl.slice{base:Nat}{w:World}{v:Value}{acc:List aC}(h:PFl base w v acc):∃x c,v=.slice x acc.length c:=by
 obtain⟨i,F,f,_⟩:=h;rcases f.2 with ⟨a,d⟩|⟨g,b,e,a,_⟩
 ·exact⟨none,0,by rw[a,d]⟩
 ·exact⟨_,b,a⟩
def PFl.keep{base pb:Nat}{w w1:World}{v:Value}{acc:List aC}(h:PFl base w v acc)(c:Fr pb w w1)(j:pb<base):PFl base w1 v acc:=by
 obtain⟨g,F,d,i,e⟩:=h;refine⟨g,F,aY d fun k f=>?_,i.mono fun _ _ h=>h.keep (fun b a=>?_) (fun _ h=>h),fun b a=>?_⟩
 ·have:=cC d k f;exact c.block k (cK d k f) (by omega)
 ·have:=e b a;have:=c.size;exact⟨by omega,by omega,(e b a).2.2⟩
 ·have:=e b a;exact c.block b this.2.1 (by omega)
def PFl.snoc{base lo:Nat}{w r o:World}{v:Value}{acc:List aC}{p:Value}{a:aC}{g m:Nat}{us:List Value}{F:Nat->Prop}(t:jX (AC F w) us acc)(z:∀b,F b->base<=b/\b<w.heap.size/\v.ownBlock≠some b)
 (y:AC (Btw lo w.heap.size) w p a) (A:base<=lo) (n:∀k,v.ownBlock=some k->k<lo) (q:∀k,k<w.heap.size->r.heap[k]?=w.heap[k]?) (x:w.heap.size<=r.heap.size)
 (l:o.ownsRow base 215 4 (.slice (some ⟨g,0,none⟩) (acc.length+1) m) (acc.length+1) (jO us++xD p))
 (i:r.grownBy o v.ownBlock) (j:v.ownBlock=some g\/w.heap.size<=g):PFl base o (.slice (some ⟨g,0,none⟩) (acc.length+1) m) (acc++[a]):=by
 have s:∀b,(F b\/Btw lo w.heap.size b)->base<=b/\b<w.heap.size/\v.ownBlock≠some b:=by
  rintro b (c|c)
  ·exact z b c
  ·exact⟨by have:=c.1;omega,c.2,fun e=>by have:=n b e;have:=c.1;omega⟩
 have d:∀b,(F b\/Btw lo w.heap.size b)->o.heap[b]?=w.heap[b]?:=fun b c=>by
  have f:=s b c;rw[i.block b (by omega) (fun e=>f.2.2 e.symm),q b f.2.1]
 refine⟨us++[p],fun b=>F b\/Btw lo w.heap.size b,?_,?_,?_⟩
 ·rw[aw_,UX];exact l
 ·exact jX.snoc (t.mono fun _ _ h=>h.keep (fun b c=>d b (av_ c)) (fun _=>av_)) (y.keep (fun b c=>d b (as_ c)) (fun _=>as_))
 ·intro b c;have f:=s b c;have:=i.size;refine⟨f.1,by omega,fun e=>?_⟩
  have u:g=b:=Option.some.inj e;rcases j with j|j
  ·exact f.2.2 (by rw[j,u])
  ·omega
def PFl.fsl{base:Nat}{w:World}{v:Value}{acc:List aC}(h:PFl base w v acc):FSl (Btw base w.heap.size) w v acc:=by
 obtain⟨o,F,n,k,j⟩:=h;rcases n.2 with ⟨a,e⟩|⟨g,c,d,a,e,f,l,q,p,m⟩
 ·exact av_ ⟨a,aN_ e⟩
 ·exact as_ ⟨g,c,d,o,a,⟨e,aD f⟩,f,l,m,k.mono fun _ _ h=>h.keep (fun _ _=>rfl) fun b i=>⟨(j b i).1,(j b i).2.1⟩⟩
def YW(a c d:Int)(b:ByteArray)(w:World):(Instr.field 206 (.agg #[.int .i64 a,.string b,.int .i64 c,.int .i64 d]) 0).run prog w=.ok (.int .i64 a) w:=by kernel_rfl
def YS{t:aX}(h:oF t):(psort t.sort=4↔t.sort=101):=by
 unfold psort;rcases h with h|⟨h,_⟩|h|⟨h,_⟩|h|h<;>simp[h]
def ZJ(w:World)(a b c d:Value):∀j u,([a,b,c,d]:List Value)[j]?=some u->(w.alloc (.cells #[a,b,c,d] 215)).cell? ((⟨w.heap.size,0,none⟩:Addr).add j)=some u:=by
 intro j u e;match j,e with
 |0,e=>simp at e;subst e;simp[Addr.add,go_sem]
 |1,e=>simp at e;subst e;simp[Addr.add,go_sem]
 |2,e=>simp at e;subst e;simp[Addr.add,go_sem]
 |3,e=>simp at e;subst e;simp[Addr.add,go_sem]
 |j+4,e=>simp at e
def L3(l:Int)(b:ByteArray)(x y:Option Addr)(n m c d:Nat):∀u∈([.int .i64 l,.string b,.slice x n c,.slice y m d]:List Value),u.oneCell'=true:=by
 intro u a;simp at a;rcases a with rfl|rfl|rfl|rfl<;>rfl
def Q8(C:Ctx)(X:Nat->bU aC)(w:World)(r:bU (List aC))(k:Nat)(v:Value)(wr:World):Prop:=
 Fr C.pb w wr/\∃q acc,PAt C wr q/\r=eQ X C.ts k q acc/\acc.length+k<=4000/\PFl w.heap.size wr v acc
def j8(lo:Nat)(w':World)(v:Value)(l:List aC):Prop:=FSl (Btw lo w'.heap.size) w' v l
def YT(C:Ctx)(X:Nat->bU aC)(HX:∀w p,PAt C w p->X p≠.error 0->Calls prog 134 #[.pointer (some ⟨C.pb,0,none⟩)] w (Out C w (X p) (ae_ w.heap.size)))(w:World)(p:Nat)(h:PAt C w p)(r:bU (List aC))(hr:r=eQ X C.ts (C.ts.length+1) p [])(Q:r≠.error 0):
 Calls prog 77 #[.pointer (some ⟨C.pb,0,none⟩)] w (Out C w r (j8 w.heap.size)):=by
 obtain⟨i0,hi,ak,aq,an⟩:=info_parts O1;have av:=h.len;have n:=h.pb_lt;have au:=h.g_lt;have HI:Hid (Q8 C X w r (C.ts.length+1) (.slice none 0 0) w):=⟨Fr.refl _ _,p,[],h,hr,by simp;omega,PFl.nil _ _⟩
 have ac:=aB Q;have ap:=aB HX;have bc:=YW;clear h hr Q HX;go_enter func77,ntmps77;go_wp2_with fail;go_loopg [3] (C.ts.length+1) (fun k v wr=>Q8 C X w r k v wr)
 case atStart=>exact HI.out
 case round=>
  obtain⟨G,E,d,f,y,az,L⟩:=hrel;obtain⟨x4,c4,rfl⟩:=L.slice;have u:=aB (mK C wr E f);simp only[oE] at u;have ad:=YS (f.tsk.tk E f.lt);have I:=aB G;have H:=aB L;have U:=aB f;have be:=G.size
  obtain⟨k,rfl⟩:∃k,gk=k+1:=by
   cases gk with
   |zero=>exact absurd y ac.out
   |succ k=>exact⟨k,rfl⟩
  rw[eQ] at y;clear G f L HI;have o:=aB y;have A:=aB ad;clear y ad;generalize aP C.ts E=t at*;generalize psort t.sort=ps at*;generalize pval t=pv at*;by_cases P:t.sort=101
  ·have HL:Hid (r=.ok (d,E)):=by show _=_;rw[o.out,P];rfl
   obtain rfl:ps=4:=A.out.2 P;clear P o A;go_wp2_with fail;refine u.out.mono ?_;rintro e w5 ⟨rfl,b⟩;have N:=aB b;clear b;go_wp2_with fail;go_ret;exact Out.ok HL.out (I.out.trans (Fr.below N.out)) (U.out.below N.out) (H.out.keep (Fr.below N.out) n).fsl
  ·have bd:((ps:Int) != 4)=true:=by simp;intro e;exact P (A.out.1 (by omega))
   obtain⟨rE,s⟩:∃rE,rE=X E:=⟨_,rfl⟩
   have z:Hid (r=bR rE fun i q=>eQ X C.ts k q (d++[i])):=by
    show _=_
    rw[o.out,if_neg (by simpa using P),s]
    cases X E<;>rfl
   have T:X E≠.error 0:=fun e=>ac.out (by rw[z.out,s,e];rfl)
   have ar:=aB s;clear P o A s;go_wp2_with fail;refine u.out.mono ?_;rintro e w5 ⟨rfl,b⟩;have HY:=aB (ap.out w5 E (U.out.below b) T);simp only[<-ar.out] at HY;have K:=aB (I.out.trans (Fr.below b));have J:=aB (H.out.keep (Fr.below b) n);have bb:=b.size;clear b u H T I;cases rE with
   |error l=>
    have HL:Hid (r=.error l):=z.out;go_wp2_with fail;refine HY.out.mono ?_;rintro e w6 ⟨c,rfl⟩;have x:=aB (K.out.trans c);clear c;go_wp2_with fail;exact⟨rfl,Out.err HL.out x.out⟩
   |ok ao=>
    obtain⟨a6,q6⟩:=ao;have ah:Hid (r=eQ X C.ts k q6 (d++[a6])):=z.out;clear z;go_wp2_with fail;refine HY.out.mono ?_;rintro e w6 ⟨c,Z,v6,rfl,ab⟩;have W:=aB ab;obtain⟨bf,ba,aj,b6,ai, -,af, -,aa⟩:=ab;obtain⟨x7,c7,rfl⟩:=af.slice;obtain⟨x8,c8,rfl⟩:=aa.slice;subst ai;obtain⟨us,F,m,D,Y⟩:=J.out.keep c n
    have ae:∀g,(Value.slice x4 d.length c4).ownBlock=some g->g<w5.heap.size:=by
     obtain⟨ay,F',O,_⟩:=J.out;exact cK O
    have S:=aB ae;have x:=aB (K.out.trans c);have V:=aB Z;have HALL:=aB (aW_ D Y);have ax:=c.size;have M:∀k,(Value.slice x4 d.length c4).ownBlock=some k->w.heap.size<=k:=cC m;clear Z c af aa HY J K D Y ae;go_wp2_with (at_builtin;refine wpList_append_lies _ (by rfl) _ _ 86 (by rfl) w.heap.size 215 i0 _ 4 72 underlying86 hi ak aq an rfl (by decide) _ _ _ (by rfl) (m.alloc _) ⟨w6.heap.size,0,none⟩ 1 1 [.int .i64 a6.line,.string (bs a6.text),.slice x7 aj.length c7,.slice x8 b6.kids.length c8] (by rfl) (by rfl) (ZJ _ _ _ _ _) (L3 _ _ _ _ _ _ _ _) (by decide) (by unfold maxLen;omega) (by omega) (by simp;omega) (w6.heap.size+1) (by simp) ?_)
    intro g7 aw w9 j a B bg;have al:=aB (PFl.snoc (lo:=w5.heap.size) HALL.out.1 HALL.out.2 W.out (by omega) S.out (fun k hk=>aA_ _ _ _ hk) (by simp) j a (B.imp_right (fun e=>by omega)))
    have ag:=aB ((V.out.alloc _).grown (base:=w.heap.size) a M n au);have am:=aB ((x.out.alloc _).grown a M);clear m j a B W V x HALL S M;go_wp2_with fail;go_roundg k
    case measure=>omega
    case rel=>exact⟨am.out,q6,d++[a6],ag.out,ah.out,by simp;omega,by simpa using al.out⟩
def NZ(C:Ctx)(w:World)(h:PAt C w 0)(a:lW C.ts≠.error 0):
 Calls prog 77 #[.pointer (some ⟨C.pb,0,none⟩)] w (Out C w (lW C.ts) (j8 w.heap.size)):=
 YT C _ (fun w p h b=>O3 C _ (JD C (C.ts.length+1) (C.ts.length+1)) w p h _ rfl b) w 0 h _ rfl a
end Go.Proofs.YtblbkfdhjfppkaaGreatDoor
