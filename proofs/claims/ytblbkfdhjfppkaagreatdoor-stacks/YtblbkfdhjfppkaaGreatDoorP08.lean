/- Contracts of the program: statements. -/
import Derived.Test.YtblbkfdhjfppkaaGreatDoorP07
import Derived.Test.YtblbkfdhjfppkaaGreatDoorP06
set_option linter.defProp false
set_option maxRecDepth 100000
set_option maxHeartbeats 4000000
namespace Go.Proofs.YtblbkfdhjfppkaaGreatDoor
open Hs
open _root_.Go.Proofs.Tryz(prog)
open Go.RowKit
def GL(lo:Nat)(w':World)(v:Value)(b:aC):Prop:=b.op=[98,108,111,99,107]/\PKid (Btw lo w'.heap.size) w' v b.kids
def ac_(C:Ctx)(w:World)(r:bU aC)(e:Ending)(w':World):Prop:=Out C w r (GL w.heap.size) e w'
def BReads(C:Ctx)(F:Nat)(X:Nat->bU aC):Prop:=∀w p,PAt C w p->X p≠.error 0->Calls prog F #[.pointer (some ⟨C.pb,0,none⟩)] w (ac_ C w (X p))
def vC(B:Nat->bU aC)(ts:List aX)(q:Nat):bU (Option aC):=if aV ts q [101,108,115,101] then bX some (B (q+1)) else .ok (none,q)
def R9(lo:Nat)(w':World)(v:Value):Option aC->Prop
 |none=>v=.slice none 0 0
 |some b=>GL lo w' v b
def GL.slice{lo:Nat}{w:World}{v:Value}{b:aC}(h:GL lo w v b):∃x n c,v=.slice x n c:=by
 obtain⟨x,c,e⟩:=h.2.slice;exact⟨x,_,c,e⟩
def R9.slice{lo:Nat}{w:World}{v:Value}{o:Option aC}(h:R9 lo w v o):∃x n c,v=.slice x n c:=by
 cases o with
 |none=>exact⟨none,0,0,h⟩
 |some b=>exact GL.slice h
def GL.grow{lo lo':Nat}{w w':World}{v:Value}{b:aC}(h:GL lo w v b)(d:∀k,lo<=k->k<w.heap.size->w'.heap[k]?=w.heap[k]?)(a:lo'<=lo)(c:w.heap.size<=w'.heap.size):GL lo' w' v b:=⟨h.1,h.2.grow d a c⟩
def Y6(E B:Nat->bU aC)(ts:List aX)(p:Nat):
 qU E B ts p=bR (E (p+1)) fun c q=>bR (B q) fun b a=>bX (fun o=>aR [105,102] (aP ts p).line [] (c::b::o.toList)) (vC B ts a):=by
 unfold qU;cases E (p+1) with
 |error l=>rfl
 |ok e=>
  obtain⟨c,q⟩:=e;show bR (B q) _=bR (B q) _
  cases B q with
  |error l=>rfl
  |ok d=>
   obtain⟨b,a⟩:=d;show (if _ then _ else _)=bX _ (vC B ts a)
   unfold vC;split
   ·cases B (a+1)<;>rfl
   ·rfl
def O6(C:Ctx)(B:Nat->bU aC)(N:BReads C 187 B)(w:World)(q:Nat)(h:PAt C w q)(r:bU (Option aC))(K:r=vC B C.ts q)(s:r≠.error 0):
 Calls prog 303 #[.pointer (some ⟨C.pb,0,none⟩)] w (Out C w r (R9 w.heap.size)):=by
 have p:=aB (dF C w q ⟨#[101,108,115,101]⟩ h);have M:(⟨#[101,108,115,101]⟩:ByteArray).data.toList=[101,108,115,101]:=rfl;rw[M] at p;have H:=aB N;have y:=aB K;have J:=aB s;clear h N K s M;cases a:aV C.ts q [101,108,115,101]
 ·have v:Hid (r=.ok (none,q)):=by show _=_;rw[y.out];unfold vC;rw[a];rfl
  rw[a] at p;clear a y;go_enter Tryz.func303,Tryz.ntmps303;go_wp2_with fail;refine p.out.mono ?_;rintro e L ⟨rfl,f,d⟩;have A:=aB f;have j:=aB d;clear f d;go_wp2_with fail;go_ret;exact Out.ok v.out j.out A.out rfl
 ·obtain⟨z,i⟩:∃z,z=B (q+1):=⟨_,rfl⟩;have k:Hid (r=bX some z):=by show _=_;rw[y.out,i];unfold vC;rw[a];rfl
  have t:B (q+1)≠.error 0:=fun e=>J.out (by rw[k.out,i,e];rfl)
  have G:=aB i;rw[a] at p;clear a y i;go_enter Tryz.func303,Tryz.ntmps303;go_wp2_with fail;refine p.out.mono ?_;rintro e L ⟨rfl,f,d⟩;have E:=aB (H.out L (q+1) f t);rw[<-G.out] at E;have j:=aB d;have D:=d.size;clear f d t p;cases z with
  |error l=>
   have v:Hid (r=.error l):=k.out;go_wp2_with fail;refine E.out.mono ?_;rintro e O ⟨g,rfl⟩;have o:=aB (j.out.trans g);clear g;go_wp2_with fail;exact⟨rfl,Out.err v.out o.out⟩
  |ok Q=>
   obtain⟨b,P⟩:=Q;have v:Hid (r=.ok (some b,P)):=k.out;go_wp2_with fail;refine E.out.mono ?_;rintro e O ⟨g,u,S,rfl,m⟩;have o:=aB (j.out.trans g);have I:=aB u;have F:=aB m;obtain⟨x,n,c,rfl⟩:=m.slice;clear g u m;go_wp2_with fail;go_ret;exact Out.ok v.out o.out I.out (show GL _ _ _ _ from F.out.grow (fun _ _ _=>rfl) D (au_ _))
def I7(C:Ctx)(E B:Nat->bU aC)(HE:PReads C 164 E)(HB:BReads C 187 B):PReads C 257 (iW E B C.ts):=by
 intro w p h bd;have cc:=aB (mM C w p h);have bv:=aB HE;have bm:=aB HB;have bl:=aB (PD C E HE);have ch:=aB (SW C E HE);have H:=aB h;have ct:=h.pb_lt;have cu:=h.g_lt;obtain⟨r,hr⟩:∃r,r=iW E B C.ts p:=⟨_,rfl⟩;rw[<-hr] at bd ⊢
 rw[iW] at hr;have j:=aB hr;have aa:=aB bd;clear h HE HB bd hr;generalize bp:(aP C.ts p).line=pl at*;have aj:=aB bp;clear bp;go_enter Tryz.func257,Tryz.ntmps257;go_wp2_with fail;refine cc.out.mono ?_;rintro e w1 ⟨rfl,ap⟩;have m:=aB ((Fr.below (pb:=C.pb) ap).alloc (.cells #[.int .i64 pl] 209));have J:=aB ((H.out.below ap).alloc (.cells #[.int .i64 pl] 209));have n:=aB (S1.new w1 pl);have z:w1.heap.size≠C.pb:=by have:=ap.size;omega
 have co:=ap.size;clear ap cc;have M:=aB (dF C (w1.alloc (.cells #[.int .i64 pl] 209)) p ⟨#[118,97,114]⟩ J.out);have ed:(⟨#[118,97,114]⟩:ByteArray).data.toList=[118,97,114]:=rfl;rw[ed] at M;clear ed;cases d:aV C.ts p [118,97,114];rotate_left
 ·have HRt:Hid (r=oM E C.ts p):=by show _=_;rw[j.out,d];rfl
  rw[d] at M;clear d j;go_wp2_with fail;refine M.out.mono ?_;rintro e W1 ⟨rfl,F,N⟩;have HFt:=aB (m.out.trans N);have HBt:=aB (N.keepB n.out z);clear N M m J n;have al:=aB (mL C W1 (p+1) F);clear F;obtain⟨t,ht⟩:∃t,t=aP C.ts (p+1):=⟨_,rfl⟩;rw[<-ht] at al;have bg:=aB ht;clear ht;cases hs:(t.sort==110)
  ·have S:Hid (r=.error t.line):=by show _=_;rw[HRt.out];unfold oM;rw[<-bg.out,hs];show Hs.bad _ _=_;unfold Hs.bad;rw[<-bg.out]
   rw[hs] at al;clear hs HRt;go_wp2_with fail;refine al.out.mono ?_;rintro e w2 ⟨f,bj⟩;obtain rfl:e=cX 4 t.line:=bj;have L:=aB (HFt.out.trans f);clear f;go_wp2_with fail;exact⟨rfl,Out.err S.out L.out⟩
  have P:Hid (r=if aV C.ts (p+2) [61] then bX (fun v=>aR [118,97,114] pl [] [aR [116,97,114,103,101,116] t.line t.text [],v]) (aN C.ts [59] (E (p+3))) else Hs.bad C.ts (p+2)):=by
   show _=_
   rw[HRt.out];unfold oM;rw[<-bg.out,hs,JJ,aj.out];rfl
  rw[hs] at al;clear hs HRt;go_wp2_with fail;refine al.out.mono ?_;rintro e w2 ⟨f,bj⟩;obtain⟨rfl,y⟩:=bj;have L:=aB ((HFt.out.trans f).alloc (.cells #[.int .i64 t.line,.string (bs t.text)] 211));have ak:=aB (fP C (w2.alloc (.cells #[.int .i64 t.line,.string (bs t.text)] 211)) (p+2) ⟨#[61]⟩ (y.alloc _));have bo:(⟨#[61]⟩:ByteArray).data.toList=[61]:=rfl;rw[bo] at ak;have cd:Hid ((w2.alloc (.cells #[.int .i64 t.line,.string (bs t.text)] 211)).heap[w2.heap.size]?=some (.cells #[.int .i64 t.line,.string (bs t.text)] 211 (0,0))):=aM _ _ rfl _;have ca:w2.heap.size≠C.pb:=by have:=y.pb_lt;omega
  have Q:=aB ((f.alloc (.cells #[.int .i64 t.line,.string (bs t.text)] 211)).keepB HBt.out z);clear f y al bo;cases d:aV C.ts (p+2) [61]
  ·have S:Hid (r=.error (aP C.ts (p+2)).line):=by show _=_;rw[P.out,d];rfl
   rw[d] at ak;clear d P;go_wp2_with fail;refine ak.out.mono ?_;rintro e w3 ⟨W,bh⟩;obtain rfl:e=cX 4 (aP C.ts (p+2)).line:=bh;have ac:=aB (L.out.trans W);clear W;go_wp2_with fail;exact⟨rfl,Out.err S.out ac.out⟩
  obtain⟨X,u⟩:∃X,X=aN C.ts [59] (E (p+3)):=⟨_,rfl⟩;have x:Hid (r=bX (fun v=>aR [118,97,114] pl [] [aR [116,97,114,103,101,116] t.line t.text [],v]) X):=by show _=_;rw[P.out,d,u];rfl
  have V:aN C.ts [59] (E (p+3))≠.error 0:=fun e=>aa.out (by rw[x.out,u,e];rfl)
  have au:=aB u;rw[d] at ak;clear d P u;go_wp2_with fail;refine ak.out.mono ?_;rintro e w3 ⟨W,bh⟩;obtain⟨rfl,av⟩:=bh;have Y:=aB (bl.out w3.drew (p+3) av.drew V);simp only[<-au.out] at Y;have ac:=aB (L.out.trans W);have bf:=aB (W.keepB Q.out z);have ai:=aB (W.keepB cd.out ca);have c0:=aA bf.out (i:=0) rfl;have ao:=aD bf.out;have m0:=aA ai.out (i:=0) rfl;have m1:=aA ai.out (i:=1) rfl;have cr:=aD ai.out;have an:=ac.out.size;clear W av ak Q cd V;cases X with
  |error l=>
   have S:Hid (r=.error l):=x.out;go_wp2_with fail;go_region_law (refine thrown .nilIface ?_ ?_;(focus go_simp;go_at_call 302;refine Y.out.mono ?_;rintro e w4 ⟨g,rfl⟩;exact aW_ rfl (Out.err S.out (ac.out.drew.trans g)));intro s)
   all_goals exact s.out.elim
  |ok aq=>
   obtain⟨a,q⟩:=aq;have S:Hid (r=.ok (aR [118,97,114] pl [] [aR [116,97,114,103,101,116] t.line t.text [],a],q)):=x.out;clear x;go_wp2_with fail;go_region_law (go_simp;go_at_call 302;refine Y.out.mono ?_;rintro e w4 ⟨g,U,v4,rfl,Z⟩;obtain⟨T4,bz,rfl⟩:=Z.form;have K:=aB ((Fr.refl C.pb w3).drew.trans g);have ag:=aB Z;have ae:=aB U;have aw:=aB (K.out.keepB ai.out ca);have T:=aB (K.out.keepB bf.out z);have d0:=aA aw.out (i:=0) rfl;have d1:=aA aw.out (i:=1) rfl;have cv:=aD aw.out;have d2:=aA T.out (i:=0) rfl;have ba:=aD T.out;clear g U Z)
   all_goals (go_wp2_with fail;go_ret)
   all_goals exact Out.ok S.out (ac.out.trans K.out) ae.out (PN.mk (as_ (as_ (as_ (as_ (as_ (as_ (as_ (as_ (as_ (av_ (⟨rfl,_,aR [116,97,114,103,101,116] t.line t.text [],a,rfl,rfl,rfl,rfl⟩))))))))))) (fun p hp=>by obtain rfl:=aD_.1 hp;exact Prt.ok.node (ag.out.grow (fun _ _ _=>rfl) an (au_ _))))
 have HRn:Hid (r=if aV C.ts p [105,102] then qU E B C.ts p else if aV C.ts p [119,104,105,108,101] then kE E B C.ts p else if aV C.ts p [114,101,116,117,114,110] then gP E C.ts p else if aV C.ts p [112,114,105,110,116] then iM E C.ts p else eO E C.ts p):=by show _=_;rw[j.out,d];rfl
 rw[d] at M;clear d j;have j:=HRn;clear HRn;go_wp2_with fail;refine M.out.mono ?_;rintro e V1 ⟨rfl,A,O⟩;have G:=aB (m.out.trans O);have D:=aB (O.keepB n.out z);have I:=aB A;clear O A M m n J;have m:=G;have n:=D;have J:=I;clear G D I;have M:=aB (dF C V1 p ⟨#[105,102]⟩ J.out);have ed:(⟨#[105,102]⟩:ByteArray).data.toList=[105,102]:=rfl;rw[ed] at M;clear ed;cases d:aV C.ts p [105,102];rotate_left
 ·have HRt:Hid (r=qU E B C.ts p):=by show _=_;rw[j.out,d];rfl
  rw[d] at M;clear d j;go_wp2_with fail;refine M.out.mono ?_;rintro e W1 ⟨rfl,F,N⟩;have HFt:=aB (m.out.trans N);have HBt:=aB (N.keepB n.out z);clear N M m J n;obtain⟨X,u⟩:∃X,X=E (p+1):=⟨_,rfl⟩;have P:Hid (r=bR X fun c q=>bR (B q) fun b q2=>bX (fun o=>aR [105,102] pl [] (c::b::o.toList)) (vC B C.ts q2)):=by show _=_;rw[HRt.out,u,Y6,aj.out]
  have V:E (p+1)≠.error 0:=fun e=>aa.out (by rw[P.out,u,e];rfl)
  have Y:=aB (bv.out W1 (p+1) F V);rw[<-u] at Y;clear F V u HRt;cases X with
  |error l=>
   have S:Hid (r=.error l):=P.out;go_wp2_with fail;refine Y.out.mono ?_;rintro e w2 ⟨f,rfl⟩;have L:=aB (HFt.out.trans f);clear f;go_wp2_with fail;exact⟨rfl,Out.err S.out L.out⟩
  |ok cq=>
   obtain⟨c,q⟩:=cq;go_wp2_with fail;refine Y.out.mono ?_;rintro e w2 ⟨f,y,v2,rfl,ah⟩;obtain⟨T2,cn,rfl⟩:=ah.form;have L:=aB (HFt.out.trans f);have Q:=aB (f.keepB HBt.out z);have be:=HFt.out.size;have cb:=f.size;have bb:=aB (ah.grow (lo':=w.heap.size) (fun _ _ _=>rfl) be (au_ _))
   clear f ah Y;obtain⟨rB,ab⟩:∃rB,rB=B q:=⟨_,rfl⟩;have x:Hid (r=bR rB fun b q2=>bX (fun o=>aR [105,102] pl [] (c::b::o.toList)) (vC B C.ts q2)):=by show _=_;rw[P.out,ab];rfl
   have am:B q≠.error 0:=fun e=>aa.out (by rw[x.out,ab,e];rfl)
   have HY:=aB (bm.out w2 q y am);rw[<-ab] at HY;clear y am ab P;cases rB with
   |error l=>
    have S:Hid (r=.error l):=x.out;go_wp2_with fail;refine HY.out.mono ?_;rintro e w4 ⟨g,rfl⟩;have K:=aB (L.out.trans g);clear g;go_wp2_with fail;exact⟨rfl,Out.err S.out K.out⟩
   |ok bq=>
    obtain⟨b,q3⟩:=bq;obtain⟨rO,bi⟩:∃rO,rO=vC B C.ts q3:=⟨_,rfl⟩;have az:Hid (r=bX (fun o=>aR [105,102] pl [] (c::b::o.toList)) rO):=by show _=_;rw[x.out,bi];rfl
    have cg:=aB bi;have cl:Hid (rO≠.error 0):=fun e=>aa.out (by rw[az.out,e];rfl)
    clear x bi;go_wp2_with fail;refine HY.out.mono ?_;rintro e w4 ⟨g,U,v4,rfl,af⟩;obtain⟨x4,n4,c4,rfl⟩:=af.slice;have K:=aB (L.out.trans g);have cp:=g.size;have ax:=aB (af.grow (lo':=w.heap.size) (fun _ _ _=>rfl) (by omega) (au_ _))
    have ag:=aB (bb.out.grow (lo':=w.heap.size) (hi':=w4.heap.size) (fun k h1 h2=>g.block k h2 (by omega)) (au_ _) g.size)
    have T:=aB (g.keepB Q.out z);have HZ:=aB (O6 C B bm.out w4.drew q3 U.drew rO cg.out cl.out);have c0:=aA T.out (i:=0) rfl;have ao:=aD T.out;clear g U af HY Q bb;cases rO with
    |error l=>
     have S:Hid (r=.error l):=az.out;go_wp2_with fail;go_region_law (refine thrown (.slice none 0 0) ?_ ?_;(focus go_simp;go_at_call 303;refine HZ.out.mono ?_;rintro e w5 ⟨bc,rfl⟩;exact aW_ rfl (Out.err S.out (K.out.drew.trans bc)));intro s)
     all_goals exact s.out.elim
    |ok oq=>
     obtain⟨o,q5⟩:=oq;have S:Hid (r=.ok (aR [105,102] pl [] (c::b::o.toList),q5)):=az.out;clear az;go_wp2_with fail;go_region_law (go_simp;go_at_call 303;refine HZ.out.mono ?_;rintro e w5 ⟨bc,br,v5,rfl,bk⟩;obtain⟨x5,n5,c5,rfl⟩:=bk.slice;have ad:=aB ((Fr.refl C.pb w4).drew.trans bc);have bt:=aB bk;have bw:=aB br;have bu:=aB (ad.out.keepB T.out z);have d2:=aA bu.out (i:=0) rfl;have ba:=aD bu.out;clear bc br bk)
     all_goals (go_wp2_with fail;go_ret)
     all_goals
      have cs:=ad.out.size;have ce:=ag.out.grow (lo':=w.heap.size) (hi':=w5.heap.size) (fun k h1 h2=>ad.out.block k h2 (by omega)) (au_ _) ad.out.size
      have ay:=ax.out.grow (lo':=w.heap.size) (fun k h1 h2=>ad.out.block k h2 (by omega)) (au_ _) ad.out.size
      cases o with
      |none=>
       have h5:Value.slice x5 n5 c5=.slice none 0 0:=bt.out;rw[h5]
       exact Out.ok S.out (K.out.trans ad.out) bw.out (PN.mk (as_ (as_ (as_ (as_ (as_ (as_ (as_ (as_ (as_ (as_ (as_ (av_ (⟨rfl,_,_,c,b,rfl,rfl,ay.1,rfl,rfl⟩))))))))))))) (fun p hp=>by
        simp only[aG_,aQ_,or_false] at hp;rcases hp with rfl|rfl
        ·exact Prt.ok.node ce
        ·exact Prt.ok.list ay.2))
      |some b2=>
       have h5:GL w4.drew.heap.size w5 (.slice x5 n5 c5) b2:=bt.out
       exact Out.ok S.out (K.out.trans ad.out) bw.out (PN.mk (as_ (as_ (as_ (as_ (as_ (as_ (as_ (as_ (as_ (as_ (as_ (as_ (av_ (⟨rfl,_,_,_,c,b,b2,rfl,rfl,ay.1,h5.1,rfl,rfl⟩)))))))))))))) (fun p hp=>by
        simp only[aG_,aQ_,or_false] at hp;rcases hp with rfl|rfl|rfl
        ·exact Prt.ok.node ce
        ·exact Prt.ok.list ay.2
        ·exact Prt.ok.list (h5.2.grow (fun _ _ _=>rfl) (by show _<=w4.heap.size;omega) (au_ _))))
 have HRn:Hid (r=if aV C.ts p [119,104,105,108,101] then kE E B C.ts p else if aV C.ts p [114,101,116,117,114,110] then gP E C.ts p else if aV C.ts p [112,114,105,110,116] then iM E C.ts p else eO E C.ts p):=by show _=_;rw[j.out,d];rfl
 rw[d] at M;clear d j;have j:=HRn;clear HRn;go_wp2_with fail;refine M.out.mono ?_;rintro e V2 ⟨rfl,A,O⟩;have G:=aB (m.out.trans O);have D:=aB (O.keepB n.out z);have I:=aB A;clear O A M m n J;have m:=G;have n:=D;have J:=I;clear G D I;have M:=aB (dF C V2 p ⟨#[119,104,105,108,101]⟩ J.out);have ed:(⟨#[119,104,105,108,101]⟩:ByteArray).data.toList=[119,104,105,108,101]:=rfl;rw[ed] at M;clear ed;cases d:aV C.ts p [119,104,105,108,101];rotate_left
 ·have HRt:Hid (r=kE E B C.ts p):=by show _=_;rw[j.out,d];rfl
  rw[d] at M;clear d j;go_wp2_with fail;refine M.out.mono ?_;rintro e W1 ⟨rfl,F,N⟩;have HFt:=aB (m.out.trans N);have HBt:=aB (N.keepB n.out z);clear N M m J n;obtain⟨X,u⟩:∃X,X=E (p+1):=⟨_,rfl⟩;have P:Hid (r=bR X fun c q=>bX (fun b=>aR [119,104,105,108,101] pl [] [c,b]) (B q)):=by show _=_;rw[HRt.out,u];unfold kE;rw[aj.out]
  have V:E (p+1)≠.error 0:=fun e=>aa.out (by rw[P.out,u,e];rfl)
  have Y:=aB (bv.out W1 (p+1) F V);rw[<-u] at Y;clear F V u HRt;cases X with
  |error l=>
   have S:Hid (r=.error l):=P.out;go_wp2_with fail;refine Y.out.mono ?_;rintro e w2 ⟨f,rfl⟩;have L:=aB (HFt.out.trans f);clear f;go_wp2_with fail;exact⟨rfl,Out.err S.out L.out⟩
  |ok cq=>
   obtain⟨c,q⟩:=cq;go_wp2_with fail;refine Y.out.mono ?_;rintro e w2 ⟨f,y,v2,rfl,ah⟩;obtain⟨T2,cn,rfl⟩:=ah.form;have L:=aB (HFt.out.trans f);have Q:=aB (f.keepB HBt.out z);have be:=HFt.out.size;have cb:=f.size;have bb:=aB (ah.grow (lo':=w.heap.size) (fun _ _ _=>rfl) be (au_ _))
   clear f ah Y;obtain⟨rB,ab⟩:∃rB,rB=B q:=⟨_,rfl⟩;have x:Hid (r=bX (fun b=>aR [119,104,105,108,101] pl [] [c,b]) rB):=by show _=_;rw[P.out,ab];rfl
   have am:B q≠.error 0:=fun e=>aa.out (by rw[x.out,ab,e];rfl)
   have HY:=aB (bm.out w2.drew q y.drew am);rw[<-ab] at HY;have c0:=aA Q.out (i:=0) rfl;have ao:=aD Q.out;clear y am ab P;cases rB with
   |error l=>
    have S:Hid (r=.error l):=x.out;go_wp2_with fail;go_region_law (refine thrown (.slice none 0 0) ?_ ?_;(focus go_simp;go_at_call 187;refine HY.out.mono ?_;rintro e w4 ⟨g,rfl⟩;exact aW_ rfl (Out.err S.out (L.out.drew.trans g)));intro s)
    all_goals exact s.out.elim
   |ok bq=>
    obtain⟨b,q3⟩:=bq;have S:Hid (r=.ok (aR [119,104,105,108,101] pl [] [c,b],q3)):=x.out;clear x;go_wp2_with fail;go_region_law (go_simp;go_at_call 187;refine HY.out.mono ?_;rintro e w4 ⟨g,U,v4,rfl,af⟩;obtain⟨x4,n4,c4,rfl⟩:=af.slice;have K:=aB ((Fr.refl C.pb w2).drew.trans g);have ax:=aB af;have ae:=aB U;have T:=aB (K.out.keepB Q.out z);have d2:=aA T.out (i:=0) rfl;have ba:=aD T.out;clear g U af)
    all_goals (go_wp2_with fail;go_ret)
    all_goals exact Out.ok S.out (L.out.trans K.out) ae.out (PN.mk (as_ (as_ (as_ (as_ (as_ (as_ (as_ (as_ (as_ (as_ (as_ (as_ (as_ (av_ (⟨rfl,_,_,c,b,rfl,rfl,ax.out.1,rfl,rfl⟩))))))))))))))) (fun p hp=>by
     simp only[aG_,aQ_,or_false] at hp;rcases hp with rfl|rfl
     ·exact Prt.ok.node (bb.out.grow (fun k h1 h2=>K.out.block k h2 (by omega)) (au_ _) K.out.size)
     ·exact Prt.ok.list (ax.out.2.grow (fun _ _ _=>rfl) (by show _<=w2.heap.size;omega) (au_ _))))
 have HRn:Hid (r=if aV C.ts p [114,101,116,117,114,110] then gP E C.ts p else if aV C.ts p [112,114,105,110,116] then iM E C.ts p else eO E C.ts p):=by show _=_;rw[j.out,d];rfl
 rw[d] at M;clear d j;have j:=HRn;clear HRn;go_wp2_with fail;refine M.out.mono ?_;rintro e V3 ⟨rfl,A,O⟩;have G:=aB (m.out.trans O);have D:=aB (O.keepB n.out z);have I:=aB A;clear O A M m n J;have m:=G;have n:=D;have J:=I;clear G D I;have M:=aB (dF C V3 p ⟨#[114,101,116,117,114,110]⟩ J.out);have ed:(⟨#[114,101,116,117,114,110]⟩:ByteArray).data.toList=[114,101,116,117,114,110]:=rfl;rw[ed] at M;clear ed;cases d:aV C.ts p [114,101,116,117,114,110];rotate_left
 ·have HRt:Hid (r=gP E C.ts p):=by show _=_;rw[j.out,d];rfl
  rw[d] at M;clear d j;go_wp2_with fail;refine M.out.mono ?_;rintro e W1 ⟨rfl,F,N⟩;have HFt:=aB (m.out.trans N);have HBt:=aB (N.keepB n.out z);clear N M m J n;have ar:=aB (dF C W1 (p+1) ⟨#[59]⟩ F);have cf:(⟨#[59]⟩:ByteArray).data.toList=[59]:=rfl;rw[cf] at ar;clear F cf;cases d:aV C.ts (p+1) [59];rotate_left
  ·have S:Hid (r=.ok (aR [114,101,116,117,114,110] pl [] [],p+2)):=by show _=_;rw[HRt.out];unfold gP;rw[d,aj.out];rfl
   rw[d] at ar;clear d HRt;go_wp2_with fail;refine ar.out.mono ?_;rintro e w2 ⟨rfl,y,f⟩;have L:=aB (HFt.out.trans f);have Q:=aB (f.keepB HBt.out z);have ci:=aB y;have c0:=aA Q.out (i:=0) rfl;have ao:=aD Q.out;clear f y;go_wp2_with fail;go_ret;exact Out.ok S.out L.out ci.out (PN.mk (as_ (as_ (as_ (as_ (as_ (as_ (as_ (as_ (as_ (as_ (as_ (as_ (as_ (as_ (av_ (⟨rfl,pl,rfl,rfl,rfl,rfl⟩)))))))))))))))) (fun p hp=>by cases hp))
  have P:Hid (r=bX (fun v=>aR [114,101,116,117,114,110] pl [] [v]) (aN C.ts [59] (E (p+1)))):=by show _=_;rw[HRt.out];unfold gP;rw[d,JJ,aj.out];rfl
  rw[d] at ar;clear d HRt;go_wp2_with fail;refine ar.out.mono ?_;rintro e w2 ⟨rfl,y,f⟩;have L:=aB (HFt.out.trans f);have Q:=aB (f.keepB HBt.out z);clear f;obtain⟨X,u⟩:∃X,X=aN C.ts [59] (E (p+1)):=⟨_,rfl⟩;have x:Hid (r=bX (fun v=>aR [114,101,116,117,114,110] pl [] [v]) X):=by show _=_;rw[P.out,u]
  have V:aN C.ts [59] (E (p+1))≠.error 0:=fun e=>aa.out (by rw[x.out,u,e];rfl)
  have au:=aB u;have Y:=aB (bl.out w2.drew (p+1) y.drew V);simp only[<-au.out] at Y;have c0:=aA Q.out (i:=0) rfl;have ao:=aD Q.out;have an:=L.out.size;clear y V u P;cases X with
  |error l=>
   have S:Hid (r=.error l):=x.out;go_wp2_with fail;go_region_law (refine thrown .nilIface ?_ ?_;(focus go_simp;go_at_call 302;refine Y.out.mono ?_;rintro e w4 ⟨g,rfl⟩;exact aW_ rfl (Out.err S.out (L.out.drew.trans g)));intro s)
   all_goals exact s.out.elim
  |ok aq=>
   obtain⟨a,q⟩:=aq;have S:Hid (r=.ok (aR [114,101,116,117,114,110] pl [] [a],q)):=x.out;clear x;go_wp2_with fail;go_region_law (go_simp;go_at_call 302;refine Y.out.mono ?_;rintro e w4 ⟨g,U,v4,rfl,Z⟩;obtain⟨T4,bz,rfl⟩:=Z.form;have K:=aB ((Fr.refl C.pb w2).drew.trans g);have ag:=aB Z;have ae:=aB U;have T:=aB (K.out.keepB Q.out z);have d2:=aA T.out (i:=0) rfl;have ba:=aD T.out;clear g U Z)
   all_goals (go_wp2_with fail;go_ret)
   all_goals exact Out.ok S.out (L.out.trans K.out) ae.out (PN.mk (as_ (as_ (as_ (as_ (as_ (as_ (as_ (as_ (as_ (as_ (as_ (as_ (as_ (as_ (as_ (av_ (⟨rfl,_,a,rfl,rfl,rfl,rfl⟩))))))))))))))))) (fun p hp=>by obtain rfl:=aD_.1 hp;exact Prt.ok.node (ag.out.grow (fun _ _ _=>rfl) an (au_ _))))
 have HRn:Hid (r=if aV C.ts p [112,114,105,110,116] then iM E C.ts p else eO E C.ts p):=by show _=_;rw[j.out,d];rfl
 rw[d] at M;clear d j;have j:=HRn;clear HRn;go_wp2_with fail;refine M.out.mono ?_;rintro e V4 ⟨rfl,A,O⟩;have G:=aB (m.out.trans O);have D:=aB (O.keepB n.out z);have I:=aB A;clear O A M m n J;have m:=G;have n:=D;have J:=I;clear G D I;have M:=aB (dF C V4 p ⟨#[112,114,105,110,116]⟩ J.out);have ed:(⟨#[112,114,105,110,116]⟩:ByteArray).data.toList=[112,114,105,110,116]:=rfl;rw[ed] at M;clear ed;cases d:aV C.ts p [112,114,105,110,116];rotate_left
 ·have HRt:Hid (r=iM E C.ts p):=by show _=_;rw[j.out,d];rfl
  rw[d] at M;clear d j;go_wp2_with fail;refine M.out.mono ?_;rintro e W1 ⟨rfl,F,N⟩;have HFt:=aB (m.out.trans N);have HBt:=aB (N.keepB n.out z);clear N M m J n;obtain⟨X,u⟩:∃X,X=aN C.ts [59] (E (p+1)):=⟨_,rfl⟩;have x:Hid (r=bX (fun v=>aR [112,114,105,110,116] pl [] [v]) X):=by show _=_;rw[HRt.out,u];unfold iM;rw[JJ,aj.out]
  have V:aN C.ts [59] (E (p+1))≠.error 0:=fun e=>aa.out (by rw[x.out,u,e];rfl)
  have au:=aB u;have Y:=aB (bl.out W1.drew (p+1) F.drew V);simp only[<-au.out] at Y;have c0:=aA HBt.out (i:=0) rfl;have ao:=aD HBt.out;have an:=HFt.out.size;clear F V u HRt;cases X with
  |error l=>
   have S:Hid (r=.error l):=x.out;go_wp2_with fail;go_region_law (refine thrown .nilIface ?_ ?_;(focus go_simp;go_at_call 302;refine Y.out.mono ?_;rintro e w4 ⟨g,rfl⟩;exact aW_ rfl (Out.err S.out (HFt.out.drew.trans g)));intro s)
   all_goals exact s.out.elim
  |ok aq=>
   obtain⟨a,q⟩:=aq;have S:Hid (r=.ok (aR [112,114,105,110,116] pl [] [a],q)):=x.out;clear x;go_wp2_with fail;go_region_law (go_simp;go_at_call 302;refine Y.out.mono ?_;rintro e w4 ⟨g,U,v4,rfl,Z⟩;obtain⟨T4,bz,rfl⟩:=Z.form;have K:=aB ((Fr.refl C.pb W1).drew.trans g);have ag:=aB Z;have ae:=aB U;have T:=aB (K.out.keepB HBt.out z);have d2:=aA T.out (i:=0) rfl;have ba:=aD T.out;clear g U Z)
   all_goals (go_wp2_with fail;go_ret)
   all_goals exact Out.ok S.out (HFt.out.trans K.out) ae.out (PN.mk (as_ (as_ (as_ (as_ (as_ (as_ (as_ (as_ (as_ (as_ (as_ (as_ (as_ (as_ (as_ (as_ (av_ (⟨rfl,_,a,rfl,rfl,rfl,rfl⟩)))))))))))))))))) (fun p hp=>by obtain rfl:=aD_.1 hp;exact Prt.ok.node (ag.out.grow (fun _ _ _=>rfl) an (au_ _))))
 have HRn:Hid (r=eO E C.ts p):=by show _=_;rw[j.out,d];rfl
 rw[d] at M;clear d j;have j:=HRn;clear HRn;go_wp2_with fail;refine M.out.mono ?_;rintro e V5 ⟨rfl,A,O⟩;have G:=aB (m.out.trans O);have D:=aB (O.keepB n.out z);have I:=aB A;clear O A M m n J;have m:=G;have n:=D;have J:=I;clear G D I;have Y:=aB (ch.out V5 p J.out (by rw[<-j.out];exact aa.out))
 rw[<-j.out] at Y;have ck:=m.out.size;clear j;go_wp2_with fail;refine Y.out.mono ?_;rintro e w3 ⟨W,bn⟩;cases r with
 |error l=>
  obtain rfl:e=cX 4 l:=bn;have ac:=aB (m.out.trans W);clear W;go_wp2_with fail;exact⟨rfl,Out.err rfl ac.out⟩
 |ok aq=>
  obtain⟨a,q⟩:=aq;obtain⟨av,v3,rfl,bx⟩:=bn;have ac:=aB (m.out.trans W);have cj:=aB av;have cm:=aB bx;clear W av bx;go_wp2_with fail;go_ret;exact Out.ok rfl ac.out cj.out (cm.out.grow (fun _ _ _=>rfl) ck (au_ _))
def S0(C:Ctx)(S:Nat->bU aC)(w:World)(r0:bU (List aC))(k:Nat)(v:Value)(wr:World):Prop:=
 Fr C.pb w wr/\∃q acc,PAt C wr q/\r0=dI S C.ts k q acc/\acc.length+k<=4000/\PLst w.heap.size wr v acc
def VX(C:Ctx)(S:Nat->bU aC)(HS:PReads C 257 S):
 BReads C 187 (fun p=>if aV C.ts p [123] then bX (aR [98,108,111,99,107] (aP C.ts p).line []) (aN C.ts [125] (dI S C.ts (C.ts.length+1) (p+1) [])) else Hs.bad C.ts p):=by
 obtain⟨i0,hi,aw,aq,ak⟩:=info_parts CX;intro w p h Y;have m:=aB (fP C w p ⟨#[123]⟩ h);have ed:(⟨#[123]⟩:ByteArray).data.toList=[123]:=rfl;rw[ed] at m;have av:=aB HS;have ba:=h.len;have A:=h.pb_lt;have ar:=h.g_lt;show Calls _ _ _ _ (ac_ C w (if aV C.ts p [123] then bX (aR [98,108,111,99,107] (aP C.ts p).line []) (aN C.ts [125] (dI S C.ts (C.ts.length+1) (p+1) [])) else Hs.bad C.ts p))
 obtain⟨r,hr⟩:∃r,r=(if aV C.ts p [123] then bX (aR [98,108,111,99,107] (aP C.ts p).line []) (aN C.ts [125] (dI S C.ts (C.ts.length+1) (p+1) [])) else Hs.bad C.ts p):=⟨_,rfl⟩
 have G:r≠.error 0:=hr▸Y;rw[<-hr];have HR:=aB hr;have ap:=aB G;clear h HS Y hr G ed;cases a:aV C.ts p [123]
 ·have HL:Hid (r=.error (aP C.ts p).line):=by show _=_;rw[HR.out,a];rfl
  rw[a] at m;clear a HR;go_enter Tryz.func187,Tryz.ntmps187;go_wp2_with fail;refine m.out.mono ?_;rintro e w1 ⟨x,L⟩;obtain rfl:e=cX 4 (aP C.ts p).line:=L;have ay:=aB x;clear x;go_wp2_with fail;exact⟨rfl,Out.err HL.out ay.out⟩
 obtain⟨I,V⟩:∃I,I=dI S C.ts (C.ts.length+1) (p+1) []:=⟨_,rfl⟩;have U:Hid (r=bX (aR [98,108,111,99,107] (aP C.ts p).line []) (aN C.ts [125] I)):=by show _=_;rw[HR.out,a,V];rfl
 have J:Hid (I≠.error 0):=fun e=>ap.out (by rw[U.out,e];rfl)
 have X:=aB V;rw[a] at m;clear a HR V;go_enter Tryz.func187,Tryz.ntmps187;go_wp2_with fail;refine m.out.mono ?_;rintro e w1 ⟨x,L⟩;obtain⟨rfl,af⟩:=L;have HI:Hid (S0 C S w I (C.ts.length+1) (.slice none 0 0) w1):=⟨x,p+1,[],af,X.out,by simp;omega,PLst.nil _ _⟩
 clear x af m X;go_wp2_with fail;go_loopg [3] (C.ts.length+1) (fun k v wr=>S0 C S w I k v wr)
 case atStart=>exact HI.out
 case round=>
  obtain⟨Q,T,f,Z,y,bc,O⟩:=hrel;obtain⟨x4,c4,rfl⟩:=O.slice;have j:=aB (dF C wr T ⟨#[125]⟩ Z);have ed:(⟨#[125]⟩:ByteArray).data.toList=[125]:=rfl;rw[ed] at j;have W:=aB Q;have K:=aB O;have bd:=Q.size
  obtain⟨k,rfl⟩:∃k,gk=k+1:=by
   cases gk with
   |zero=>exact absurd y J.out
   |succ k=>exact⟨k,rfl⟩
  clear Q Z O HI ed;cases a:aV C.ts T [125];rotate_left
  ·have HL:Hid (r=.ok (aR [98,108,111,99,107] (aP C.ts p).line [] f,T+1)):=by show _=_;rw[U.out,y,dI,if_pos a,nS a];rfl
   rw[a] at j;clear a y;go_wp2_with fail;refine j.out.mono ?_;rintro e w5 ⟨rfl,o,c⟩;have ao:=aB o;have u:=aB (W.out.trans c);have n:=aB (K.out.keep c A);clear o c;go_wp2_with fail;go_ret;exact Out.ok HL.out u.out ao.out ⟨rfl,n.out.kid⟩
  ·obtain⟨rE,B⟩:∃rE,rE=S T:=⟨_,rfl⟩
   have z:Hid (I=bR rE fun i q=>dI S C.ts k q (f++[i])):=by
    show _=_
    rw[y,dI,if_neg (by rw[a];simp),B]
    cases S T<;>rfl
   have aa:S T≠.error 0:=fun e=>J.out (by rw[z.out,B,e];rfl)
   have ax:=aB B;rw[a] at j;clear a y B;go_wp2_with fail;refine j.out.mono ?_;rintro e w5 ⟨rfl,o,c⟩;have HX:=aB (av.out w5 T o aa);simp only[<-ax.out] at HX;have u:=aB (W.out.trans c);have n:=aB (K.out.keep c A);have bf:=c.size;clear o c j K aa;cases rE with
   |error l=>
    have HL:Hid (r=.error l):=by show _=_;rw[U.out,z.out];rfl
    go_wp2_with fail;refine HX.out.mono ?_;rintro e w6 ⟨d,rfl⟩;have D:=aB (u.out.trans d);clear d HX;go_wp2_with fail;exact⟨rfl,Out.err HL.out D.out⟩
   |ok ai=>
    obtain⟨a6,q6⟩:=ai;have al:Hid (I=dI S C.ts k q6 (f++[a6])):=z.out;clear z;go_wp2_with fail;refine HX.out.mono ?_;rintro e w6 ⟨d,ad,v6,rfl,N⟩;obtain⟨T6,am,rfl⟩:=N.form;obtain⟨vs,F,t,E,ac⟩:=n.out.keep d A
    have ae:∀g,(Value.slice x4 f.length c4).ownBlock=some g->g<w5.heap.size:=by
     obtain⟨bg,F',P,_⟩:=n.out;exact cK P
    have ah:=aB ae;have D:=aB (u.out.trans d);have ab:=aB ad;have ag:=aB N;have HALL:=aB (aW_ E ac);have bb:=d.size;have M:∀k,(Value.slice x4 f.length c4).ownBlock=some k->w.heap.size<=k:=cC t;clear ad d N HX n u E ac ae;go_wp2_with (at_builtin;refine wpList_append_lies _ (by rfl) _ _ 213 (by rfl) w.heap.size 122 i0 _ 1 16 Tryz.underlying213 hi aw aq ak rfl (by decide) _ _ _ (by rfl) (t.alloc _) ⟨w6.heap.size,0,none⟩ 1 1 [.iface T6 (.agg am)] (by rfl) (by rfl) (rT _ _) (uY _ _) (by decide) (by unfold maxLen;omega) (by omega) (by simp;omega) (w6.heap.size+1) (by simp) ?_)
    intro g7 az w9 s b H be;have aj:=aB (PLst.snoc (lo:=w5.heap.size) HALL.out.1 HALL.out.2 ag.out (by omega) ah.out (fun k hk=>aA_ _ _ _ hk) (by simp) s b (H.imp_right (fun e=>by omega)))
    have an:=aB ((ab.out.alloc _).grown (base:=w.heap.size) b M A ar);have au:=aB ((D.out.alloc _).grown b M);clear t s b H ag ab D HALL ah M;go_wp2_with fail;go_roundg k
    case measure=>omega
    case rel=>exact⟨au.out,q6,f++[a6],an.out,al.out,by simp;omega,by simpa using aj.out⟩
def JD(C:Ctx)(f:Nat):∀g,BReads C 187 (iQ (fB C.ts f) C.ts g)
 |0=>fun _ _ _ a=>absurd rfl a
 |g+1=>fun w p h a=>VX C (iW (fB C.ts f) (iQ (fB C.ts f) C.ts g) C.ts) (I7 C _ _ (JA C f) (JD C f g)) w p h a
def N9:(prog.info? 211).map (fun i=>(i.zero,i.size,i.bytes))=some (some (.agg #[.int .i64 0,.string (bs [])]),2,24):=by kernel_rfl
def F8:List aC->List Value
 |[]=>[]
 |a::l=>.int .i64 a.line::.string (bs a.text)::F8 l
def R5(l:List aC)(a:aC):F8 (l++[a])=F8 l++[.int .i64 a.line,.string (bs a.text)]:=by
 induction l with
 |nil=>rfl
 |cons x l b=>simp[F8,b]
def PNm(F:Nat->Prop)(w:World)(v:Value)(l:List aC):Prop:=
 (∀a∈l,a.op=[112,97,114,97,109])/\((v=.slice none 0 0/\l=[])\/
 ∃g cap cur,v=.slice (some ⟨g,0,none⟩) l.length cap/\F g/\w.heap[g]?=some (.cells cur 211 (0,0))/\l.length<=cap/\cur.toList.take (l.length*2)=F8 l)
def PNm.keep{F G:Nat->Prop}{w w':World}{v:Value}{l:List aC}(h:PNm F w v l)(j:∀b,F b->w'.heap[b]?=w.heap[b]?)(i:∀b,F b->G b):PNm G w' v l:=by
 obtain⟨e,h|⟨g,c,a,f,d,k,m⟩⟩:=h
 ·exact⟨e,av_ h⟩
 ·exact⟨e,as_ ⟨g,c,a,f,i g d,by rw[j g d];exact k,m⟩⟩
def PNm.slice{F:Nat->Prop}{w:World}{v:Value}{l:List aC}(h:PNm F w v l):∃x c,v=.slice x l.length c:=by
 obtain⟨_,⟨a,b⟩|⟨g,e,d,a,_⟩⟩:=h
 ·exact⟨none,0,by rw[a,b];rfl⟩
 ·exact⟨_,_,a⟩
def PNl(base:Nat)(w:World)(v:Value)(acc:List aC):Prop:=(∀a∈acc,a.op=[112,97,114,97,109])/\w.ownsRow base 211 2 v acc.length (F8 acc)
def PNl.slice{base:Nat}{w:World}{v:Value}{acc:List aC}(h:PNl base w v acc):∃x c,v=.slice x acc.length c:=by
 rcases h.2.2 with ⟨a,e⟩|⟨g,b,d,a,_⟩
 ·exact⟨none,0,by rw[a,e]⟩
 ·exact⟨_,b,a⟩
def PNl.keep{base pb:Nat}{w w1:World}{v:Value}{acc:List aC}(h:PNl base w v acc)(b:Fr pb w w1)(c:pb<base):PNl base w1 v acc:=by
 refine⟨h.1,aY h.2 fun k a=>?_⟩
 have:=cC h.2 k a;exact b.block k (cK h.2 k a) (by omega)
def PNl.nm{base:Nat}{w:World}{v:Value}{acc:List aC}(h:PNl base w v acc):PNm (Btw base w.heap.size) w v acc:=by
 rcases h.2.2 with ⟨a,d⟩|⟨g,c,b,a,d,e,i,j,k,f⟩
 ·exact⟨h.1,av_ ⟨a,aN_ d⟩⟩
 ·exact⟨h.1,as_ ⟨g,c,b,a,⟨d,aD e⟩,e,i,f⟩⟩
def IF(w:World)(a b:Value):∀j u,([a,b]:List Value)[j]?=some u->(w.alloc (.cells #[a,b] 211)).cell? ((⟨w.heap.size,0,none⟩:Addr).add j)=some u:=by
 intro j u c;match j,c with
 |0,c=>simp at c;subst c;simp[Addr.add,go_sem]
 |1,c=>simp at c;subst c;simp[Addr.add,go_sem]
 |j+2,c=>simp at c
def ON(l:Int)(b:ByteArray):∀u∈([.int .i64 l,.string b]:List Value),u.oneCell'=true:=by
 intro u a;simp at a;rcases a with rfl|rfl<;>rfl
def Q9(C:Ctx)(w:World)(r0:bU (List aC))(k:Nat)(v:Value)(wr:World):Prop:=
 Fr C.pb w wr/\∃q acc,PAt C wr q/\r0=(if aV C.ts q [44] then cR C.ts k (q+1) acc else .ok (acc,q))/\acc.length+k<=4000/\PNl w.heap.size wr v acc
def pnode(t:aX):aC:=aR [112,97,114,97,109] t.line t.text []
def WP{ts:List aX}{k p:Nat}{acc:List aC}(h:((aP ts p).sort==110)=true):cR ts (k+1) p acc=if aV ts (p+1) [44] then cR ts k (p+1+1) (acc++[pnode (aP ts p)]) else .ok (acc++[pnode (aP ts p)],p+1):=by
 rw[cR,if_pos h];rfl
def L2{ts:List aX}{k p:Nat}{acc:List aC}(h:((aP ts p).sort==110)=false):cR ts (k+1) p acc=.error (aP ts p).line:=by
 rw[cR,if_neg (by rw[h];simp)];rfl
def PNs(lo:Nat)(w':World)(v:Value)(l:List aC):Prop:=PNm (Btw lo w'.heap.size) w' v l
def TI(C:Ctx)(w:World)(p:Nat)(h:PAt C w p)(r:bU (List aC))(hr:r=if aV C.ts p [40] then gR C.ts (p+1) else Hs.bad C.ts p)(af:r≠.error 0):
 Calls prog 186 #[.pointer (some ⟨C.pb,0,none⟩)] w (Out C w r (PNs w.heap.size)):=by
 obtain⟨i0,hi,ar,ak,ah⟩:=info_parts N9;have d:=aB (fP C w p ⟨#[40]⟩ h);have I:(⟨#[40]⟩:ByteArray).data.toList=[40]:=rfl;rw[I] at d;have be:=h.len;have y:=h.pb_lt;have al:=h.g_lt;have HR:=aB hr;have az:=aB af;clear h hr af I;cases b:aV C.ts p [40]
 ·have P:Hid (r=.error (aP C.ts p).line):=by show _=_;rw[HR.out,b];rfl
  rw[b] at d;clear b HR;go_enter Tryz.func186,Tryz.ntmps186;go_wp2_with fail;refine d.out.mono ?_;rintro e w1 ⟨L,Y⟩;obtain rfl:e=cX 4 (aP C.ts p).line:=Y;have Q:=aB L;clear L;go_wp2_with fail;exact⟨rfl,Out.err P.out Q.out⟩
 have X:Hid (r=aN C.ts [41] (if aV C.ts (p+1) [41] then .ok ([],p+1) else cR C.ts (C.ts.length+1) (p+1) [])):=by show _=_;rw[HR.out,b];rfl
 rw[b] at d;clear b HR;go_enter Tryz.func186,Tryz.ntmps186;go_wp2_with fail;refine d.out.mono ?_;rintro e w1 ⟨L,Y⟩;obtain⟨rfl,au⟩:=Y;have HA:=aB (dF C w1 (p+1) ⟨#[41]⟩ au);have I:(⟨#[41]⟩:ByteArray).data.toList=[41]:=rfl;rw[I] at HA;have Q:=aB L;clear L au d I;cases b:aV C.ts (p+1) [41];rotate_left
 ·have P:Hid (r=.ok ([],p+1+1)):=by show _=_;rw[X.out,if_pos b,nS b]
  rw[b] at HA;clear b X;go_wp2_with fail;refine HA.out.mono ?_;rintro e w2 ⟨rfl,M,O⟩;have F:=aB (Q.out.trans O);have bb:=aB M;clear O M;go_wp2_with fail;go_ret;exact Out.ok P.out F.out bb.out ⟨fun _ h=>(by cases h),av_ ⟨rfl,rfl⟩⟩
 obtain⟨S,ad⟩:∃S,S=cR C.ts (C.ts.length+1) (p+1) []:=⟨_,rfl⟩;have j:Hid (r=aN C.ts [41] S):=by show _=_;rw[X.out,if_neg (by rw[b];simp),ad]
 have aw:Hid (S≠.error 0):=fun e=>az.out (by rw[j.out,e];rfl)
 have T:=aB ad;rw[b] at HA;clear b X ad;go_wp2_with fail;refine HA.out.mono ?_;rintro e w2 ⟨rfl,M,O⟩;have f:=aB (mL C w2 (p+1) M);have F:=aB (Q.out.trans O);clear O M HA Q;cases A:((aP C.ts (p+1)).sort==110)
 ·have P:Hid (r=.error (aP C.ts (p+1)).line):=by show _=_;rw[j.out,T.out,L2 A];rfl
  rw[A] at f;clear A T j;go_wp2_with fail;refine f.out.mono ?_;rintro e w3 ⟨N,ab⟩;obtain rfl:e=cX 4 (aP C.ts (p+1)).line:=ab;have H:=aB (F.out.trans N);clear N;go_wp2_with fail;exact⟨rfl,Out.err P.out H.out⟩
 have ao:Hid (S=if aV C.ts (p+1+1) [44] then cR C.ts C.ts.length (p+1+1+1) [pnode (aP C.ts (p+1))] else .ok ([pnode (aP C.ts (p+1))],p+1+1)):=by show _=_;rw[T.out,WP A];rfl
 rw[A] at f;clear A T;generalize aP C.ts (p+1)=t at*;go_wp2_with fail;refine f.out.mono ?_;rintro e w3 ⟨N,ab⟩;obtain⟨rfl,av⟩:=ab;have H:=aB (F.out.trans N);have an:=aB av;have bh:=H.out.size;clear N av f F;go_wp2_with (at_builtin;refine wpList_append_lies _ (by rfl) _ _ 212 (by rfl) w.heap.size 211 i0 _ 2 24 Tryz.underlying212 hi ar ak ah rfl (by decide) (.slice none 0 0) 0 [] (by rfl) (World.ownsRow_nil _ _ _ _) ⟨w3.heap.size,0,none⟩ 1 1 [.int .i64 t.line,.string (bs t.text)] (by rfl) (by rfl) (IF _ _ _) (ON _ _) (by decide) (by unfold maxLen;omega) (by omega) (by simp;omega) (w3.heap.size+1) (by simp) ?_)
 intro g4 ag w4 J l ap bk;have ae:=aB ((an.out.alloc _).grown (base:=w.heap.size) l (fun k hk=>by cases hk) y al)
 have B:=aB ((H.out.alloc _).grown l (fun k hk=>by cases hk))
 have HI:Hid (Q9 C w S C.ts.length (.slice (some ⟨g4,0,none⟩) 1 ag) w4):=⟨B.out,p+1+1,[pnode t],ae.out,ao.out,by simp;omega,by intro a ha;rw[aD_.1 ha];rfl,J⟩
 clear J l ap ao an H ae B;go_wp2_with fail;go_loopg [3] C.ts.length (fun k v wr=>Q9 C w S k v wr)
 case atStart=>exact HI.out
 case round=>
  obtain⟨ac,i,o,ai,W,bg,aa⟩:=hrel;obtain⟨x4,c4,rfl⟩:=aa.slice;have u:=aB (dF C wr i ⟨#[44]⟩ ai);have I:(⟨#[44]⟩:ByteArray).data.toList=[44]:=rfl;rw[I] at u;have B:=aB ac;have U:=aB aa;have bj:=ac.size;clear ac ai aa HI I;cases b:aV C.ts i [44]
  ·have g:Hid (S=.ok (o,i)):=by show _=_;rw[W,b];rfl
   rw[b] at u;clear b W;go_wp2_with fail;refine u.out.mono ?_;rintro e w5 ⟨rfl,E,s⟩;have d:=aB (fP C w5 i ⟨#[41]⟩ E);have I:(⟨#[41]⟩:ByteArray).data.toList=[41]:=rfl;rw[I] at d;have z:=aB (B.out.trans s);have x:=aB (U.out.keep s y);clear E s u U I;cases b:aV C.ts i [41]
   ·have P:Hid (r=.error (aP C.ts i).line):=by show _=_;rw[j.out,g.out];exact xL b
    rw[b] at d;clear b g j;go_wp2_with fail;refine d.out.mono ?_;rintro e w6 ⟨c,q⟩;obtain rfl:e=cX 4 (aP C.ts i).line:=q;have n:=aB (z.out.trans c);clear c;go_wp2_with fail;exact⟨rfl,Out.err P.out n.out⟩
   ·have P:Hid (r=.ok (o,i+1)):=by show _=_;rw[j.out,g.out];exact nS b
    rw[b] at d;clear b g j;go_wp2_with fail;refine d.out.mono ?_;rintro e w6 ⟨c,q⟩;obtain⟨rfl,K⟩:=q;have n:=aB (z.out.trans c);have V:=aB K;have bc:=aB (x.out.keep c y);clear c K x;go_wp2_with fail;go_ret;exact Out.ok P.out n.out V.out bc.out.nm
  ·have g:Hid (S=cR C.ts gk (i+1) o):=by show _=_;rw[W,b];rfl
   rw[b] at u;clear b W
   obtain⟨k,rfl⟩:∃k,gk=k+1:=by
    cases gk with
    |zero=>exact absurd g.out aw.out
    |succ k=>exact⟨k,rfl⟩
   go_wp2_with fail;refine u.out.mono ?_;rintro e w5 ⟨rfl,E,s⟩;have f:=aB (mL C w5 (i+1) E);have z:=aB (B.out.trans s);have x:=aB (U.out.keep s y);clear E s u U;cases A:((aP C.ts (i+1)).sort==110)
   ·have P:Hid (r=.error (aP C.ts (i+1)).line):=by show _=_;rw[j.out,g.out,L2 A];rfl
    rw[A] at f;clear A g j;go_wp2_with fail;refine f.out.mono ?_;rintro e w6 ⟨c,q⟩;obtain rfl:e=cX 4 (aP C.ts (i+1)).line:=q;have n:=aB (z.out.trans c);clear c;go_wp2_with fail;exact⟨rfl,Out.err P.out n.out⟩
   ·have ay:Hid (S=if aV C.ts (i+1+1) [44] then cR C.ts k (i+1+1+1) (o++[pnode (aP C.ts (i+1))]) else .ok (o++[pnode (aP C.ts (i+1))],i+1+1)):=by show _=_;rw[g.out,WP A]
    rw[A] at f;clear A g;generalize aP C.ts (i+1)=t5 at*;go_wp2_with fail;refine f.out.mono ?_;rintro e w6 ⟨c,q⟩;obtain⟨rfl,K⟩:=q;have n:=aB (z.out.trans c);have V:=aB K;have G:=(x.out.keep c y).2;have am:=aB x.out.1;have bf:=n.out.size;have Z:∀k,(Value.slice x4 o.length c4).ownBlock=some k->w.heap.size<=k:=cC G;clear c K f z x;go_wp2_with (at_builtin;refine wpList_append_lies _ (by rfl) _ _ 212 (by rfl) w.heap.size 211 i0 _ 2 24 Tryz.underlying212 hi ar ak ah rfl (by decide) _ _ _ (by rfl) (G.alloc _) ⟨w6.heap.size,0,none⟩ 1 1 [.int .i64 t5.line,.string (bs t5.text)] (by rfl) (by rfl) (IF _ _ _) (ON _ _) (by decide) (by unfold maxLen;omega) (by omega) (by simp;omega) (w6.heap.size+1) (by simp) ?_)
    intro g7 aq w7 D m aj bi;have bd:=aB ((V.out.alloc _).grown (base:=w.heap.size) m Z y al);have ba:=aB ((n.out.alloc _).grown m Z)
    have ax:Hid (PNl w.heap.size w7 (.slice (some ⟨g7,0,none⟩) (o.length+1) aq) (o++[pnode t5])):=by
     refine⟨fun a ha=>?_,?_⟩
     ·rcases aE_.1 ha with h|h
      ·exact am.out a h
      ·rw[aD_.1 h];rfl
     ·rw[R5,aw_];exact D
    clear G D m aj V n Z am;go_wp2_with fail;go_roundg k
    case measure=>omega
    case rel=>exact⟨ba.out,i+1+1,_,bd.out,ay.out,by simp;omega,ax.out⟩
def AC(F:Nat->Prop)(w:World)(v:Value)(f:aC):Prop:=
 ∃pv bv ps b,v=.agg #[.int .i64 f.line,.string (bs f.text),pv,bv]/\f.kids=ps++[b]/\PNm F w pv ps/\b.op=[98,108,111,99,107]/\PKid F w bv b.kids
def AC.keep{F G:Nat->Prop}{w w':World}{v:Value}{f:aC}(h:AC F w v f)(c:∀b,F b->w'.heap[b]?=w.heap[b]?)(a:∀b,F b->G b):AC G w' v f:=by
 obtain⟨l,d,j,b,g,i,k,m,e⟩:=h;exact⟨l,d,j,b,g,i,k.keep c a,m,e.keep c a⟩
def ae_(lo:Nat)(w:World)(v:Value)(f:aC):Prop:=AC (Btw lo w.heap.size) w v f
def O3(C:Ctx)(B:Nat->bU aC)(HB:BReads C 187 B)(w:World)(p:Nat)(h:PAt C w p)(r:bU aC)(hr:r=jS B C.ts p)(ai:r≠.error 0):
 Calls prog 134 #[.pointer (some ⟨C.pb,0,none⟩)] w (Out C w r (ae_ w.heap.size)):=by
 obtain⟨rb,be⟩:∃rb,rb=w.heap.size:=⟨_,rfl⟩;have A:=aB (fP C (w.alloc (.cells #[.int .i64 0,.string ⟨#[]⟩,.slice none 0 0,.slice none 0 0] 215)) p ⟨#[102,117,110,99]⟩ (h.alloc _));have ed:(⟨#[102,117,110,99]⟩:ByteArray).data.toList=[102,117,110,99]:=rfl;rw[ed] at A;have ad:Hid (Fr C.pb w (w.alloc (.cells #[.int .i64 0,.string ⟨#[]⟩,.slice none 0 0,.slice none 0 0] 215))):=(Fr.refl _ _).alloc _;have V:Hid ((w.alloc (.cells #[.int .i64 0,.string ⟨#[]⟩,.slice none 0 0,.slice none 0 0] 215)).heap[w.heap.size]?=some (.cells #[.int .i64 0,.string ⟨#[]⟩,.slice none 0 0,.slice none 0 0] 215 (0,0))):=aM _ _ rfl _;have bh:=aB HB;have bj:=h.len;have bn:=h.pb_lt;have bp:=h.g_lt;have HR:=aB hr;have ao:=aB ai;have J:w.heap.size≠C.pb:=by omega
 clear h hr ai ed HB be rb;cases x:aV C.ts p [102,117,110,99]
 ·have T:Hid (r=.error (aP C.ts p).line):=by show _=_;rw[HR.out];unfold jS;rw[x];rfl
  rw[x] at A;clear x HR;go_enter Tryz.func134,Tryz.ntmps134;go_wp2_with fail;refine A.out.mono ?_;rintro e w1 ⟨y,Y⟩;obtain rfl:e=cX 4 (aP C.ts p).line:=Y;have L:=aB (ad.out.trans y);clear y;go_wp2_with fail;exact⟨rfl,Out.err T.out L.out⟩
 obtain⟨t,ht⟩:∃t,t=aP C.ts (p+1):=⟨_,rfl⟩
 have S:Hid (r=if t.sort==110 then (if aV C.ts (p+2) [40] then
       bR (gR C.ts (p+3)) fun l q=>bX (fun b=>aR [102,117,110,99] t.line t.text (l++[b])) (B q)
  else Hs.bad C.ts (p+2)) else Hs.bad C.ts (p+1)):=by show _=_;rw[HR.out];unfold jS;rw[x,ht];rfl
 have HT:=aB ht;rw[x] at A;clear x HR ht;go_enter Tryz.func134,Tryz.ntmps134;go_wp2_with fail;refine A.out.mono ?_;rintro e w1 ⟨y,Y⟩;obtain⟨rfl,ap⟩:=Y;have D:=aB (mL C w1 (p+1) ap);rw[<-HT.out] at D;have L:=aB (ad.out.trans y);have I:=aB (y.keepB V.out J);clear y ap A ad V;cases hs:(t.sort==110)
 ·have T:Hid (r=.error t.line):=by show _=_;rw[S.out,hs];show Hs.bad _ _=_;unfold Hs.bad;rw[<-HT.out]
  rw[hs] at D;clear hs S;go_wp2_with fail;refine D.out.mono ?_;rintro e U ⟨s,ab⟩;obtain rfl:e=cX 4 t.line:=ab;have H:=aB (L.out.trans s);clear s;go_wp2_with fail;exact⟨rfl,Out.err T.out H.out⟩
 obtain⟨rP,aa⟩:∃rP,rP=(if aV C.ts (p+1+1) [40] then gR C.ts (p+1+1+1) else Hs.bad C.ts (p+1+1)):=⟨_,rfl⟩
 have M:Hid (r=bR rP fun l q=>bX (fun b=>aR [102,117,110,99] t.line t.text (l++[b])) (B q)):=by
  show _=_
  rw[S.out,hs,aa,if_pos rfl];by_cases Q:aV C.ts (p+1+1) [40]=true
  ·rw[if_pos Q,if_pos Q]
  ·rw[if_neg Q,if_neg Q];rfl
 have al:=aB aa;have bd:Hid (rP≠.error 0):=fun e=>ao.out (by rw[M.out,e];rfl)
 rw[hs] at D;clear hs S aa;go_wp2_with fail;refine D.out.mono ?_;rintro e U ⟨s,ab⟩;obtain⟨rfl,ag⟩:=ab;have H:=aB ((L.out.trans s).alloc (.cells #[.int .i64 t.line,.string (bs t.text)] 211));have a:=aB ((s.alloc (.cells #[.int .i64 t.line,.string (bs t.text)] 211)).keepB I.out J);have j:Hid ((U.alloc (.cells #[.int .i64 t.line,.string (bs t.text)] 211)).heap[U.heap.size]?=some (.cells #[.int .i64 t.line,.string (bs t.text)] 211 (0,0))):=aM _ _ rfl _;have ae:U.heap.size≠C.pb:=by have:=ag.pb_lt;omega
 have bm:w.heap.size<U.heap.size:=az_ (aD I.out) s.size;have ac:=aB (TI C (U.alloc (.cells #[.int .i64 t.line,.string (bs t.text)] 211)).drew (p+1+1) (ag.alloc _).drew rP al.out bd.out);clear s ag D L I al;go_wp2_with fail;generalize hW:U.alloc (.cells #[.int .i64 t.line,.string (bs t.text)] 211)=W at*;have bo:W.heap.size=U.heap.size+1:=by rw[<-hW];simp
 clear hW;have c0:=aA j.out (i:=0) rfl;have c1:=aA j.out (i:=1) rfl;have bk:=aD j.out;cases rP with
 |error l=>
  have T:Hid (r=.error l):=M.out;have bb:=aA a.out (i:=0) rfl;have az:=aA a.out (i:=1) rfl;have bf:=aA a.out (i:=2) rfl;have av:=aA a.out (i:=3) rfl;have aw:=aE (i:=0) a.out;have bc:=aE (i:=1) a.out;have au:=aE (i:=2) a.out;have ax:=aE (i:=3) a.out;have an:=aD a.out;go_region_law (first|(refine thrown (.slice none 0 0) ?_ ?_;(focus go_simp;go_at_call 186;refine ac.out.mono ?_;rintro e w3 ⟨o,rfl⟩;exact aW_ rfl (Out.err T.out (H.out.drew.trans o)));intro g)|(refine thrown (.slice none 0 0) g.out.elim ?_;intro ah))
  all_goals exact g.out.elim
 |ok lq=>
  obtain⟨l,q⟩:=lq;obtain⟨rB,N⟩:∃rB,rB=B q:=⟨_,rfl⟩;have P:Hid (r=bX (fun b=>aR [102,117,110,99] t.line t.text (l++[b])) rB):=by show _=_;rw[M.out,N];rfl
  have aj:B q≠.error 0:=fun e=>ao.out (by rw[P.out,N,e];rfl)
  have Z:=aB (fun W (hW:PAt C W q)=>bh.out W q hW aj)
  rw[<-N] at Z;clear N aj M;cases rB with
  |error l2=>
   have T:Hid (r=.error l2):=P.out;go_region_law (first|(go_simp;go_at_call 186;refine ac.out.mono ?_;rintro e w3 ⟨o,K,v3,rfl,z⟩;obtain⟨x3,c3,rfl⟩:=z.slice;have m:=aB ((Fr.refl C.pb W).drew.trans o);have af:=aB K;have f:=aB (m.out.keepB j.out ae);have d0:=aA f.out (i:=0) rfl;have d1:=aA f.out (i:=1) rfl;have ba:=aD f.out;have c:=aB (m.out.keepB a.out J);have bb:=aA c.out (i:=0) rfl;have az:=aA c.out (i:=1) rfl;have bf:=aA c.out (i:=2) rfl;have av:=aA c.out (i:=3) rfl;have aw:=aE (i:=0) c.out;have bc:=aE (i:=1) c.out;have au:=aE (i:=2) c.out;have ax:=aE (i:=3) c.out;have an:=aD c.out;clear o K z)|(refine thrown (.slice none 0 0) ?_ ?_;(focus go_simp;go_at_call 187;refine(Z.out _ af.out).mono ?_;rintro e w4 ⟨O,rfl⟩;exact aW_ rfl (Out.err T.out ((H.out.trans m.out).trans O)));intro g))
   all_goals exact g.out.elim
  |ok bq=>
   obtain⟨b,q4⟩:=bq;have T:Hid (r=.ok (aR [102,117,110,99] t.line t.text (l++[b]),q4)):=P.out;clear P;go_region_law (first|(go_simp;go_at_call 186;refine ac.out.mono ?_;rintro e w3 ⟨o,K,v3,rfl,z⟩;obtain⟨x3,c3,rfl⟩:=z.slice;have m:=aB ((Fr.refl C.pb W).drew.trans o);have af:=aB K;have bg:=aB z;have f:=aB (m.out.keepB j.out ae);have c:=aB (m.out.keepB a.out J);have d0:=aA f.out (i:=0) rfl;have d1:=aA f.out (i:=1) rfl;have ba:=aD f.out;clear o K z)|(go_simp;go_at_call 187;refine(Z.out _ af.out).mono ?_;rintro e w4 ⟨O,am,v4,rfl,X⟩;obtain⟨x4,n4,c4,rfl⟩:=X.slice;have E:=aB O;have ar:=aB am;have aq:=aB X;have F:=aB (E.out.keepB f.out ae);have d:=aB (E.out.keepB c.out J);have e0:=aA F.out (i:=0) rfl;have e1:=aA F.out (i:=1) rfl;have br:=aD F.out;have z0:=aA d.out (i:=0) rfl;have z1:=aA d.out (i:=1) rfl;have z2:=aA d.out (i:=2) rfl;have z3:=aA d.out (i:=3) rfl;have y0:=aE (i:=0) d.out;have y1:=aE (i:=1) d.out;have y2:=aE (i:=2) d.out;have y3:=aE (i:=3) d.out;have bt:=aD d.out;clear O am X))
   all_goals go_wp2_with fail
   all_goals
    refine bodyPost_ret (v:=.agg #[.int .i64 t.line,.string (bs t.text),.slice x3 l.length c3,.slice x4 n4 c4]) (by simp[results,Tryz.results134,go_sem,z0,z1,z2,z3]) rfl ?_
    have bl:=m.out.size;have ay:=E.out.size;have n:∀(W:World) (i:Nat) (u:Value),(W.setCell ⟨w.heap.size,i,none⟩ u).heap.size=W.heap.size:=fun W i u=>by simp[World.setCell]
    have ak:∀k,w.heap.size<k->((((w4.setCell ⟨w.heap.size,0,none⟩ (.int .i64 t.line)).setCell ⟨w.heap.size,1,none⟩ (.string (bs t.text))).setCell ⟨w.heap.size,2,none⟩ (.slice x3 l.length c3)).setCell ⟨w.heap.size,3,none⟩ (.slice x4 n4 c4)).heap[k]?=w4.heap[k]?:=fun k G=>by
     rw[ax_ _ _ _ _ (by show k≠w.heap.size;omega),ax_ _ _ _ _ (by show k≠w.heap.size;omega),ax_ _ _ _ _ (by show k≠w.heap.size;omega),ax_ _ _ _ _ (by show k≠w.heap.size;omega)]
    refine Out.ok T.out (((((H.out.trans (m.out.trans E.out)).setCell (as_ (au_ _)) _).setCell (as_ (au_ _)) _).setCell (as_ (au_ _)) _).setCell (as_ (au_ _)) _) ((((ar.out.other (by omega) (by omega)).other (by omega) (by omega)).other (by omega) (by omega)).other (by omega) (by omega)) ⟨_,_,l,b,rfl,rfl,?_,aq.out.1,?_⟩
    ·refine PNm.keep bg.out (fun k G=>?_) fun k G=>⟨?_,?_⟩
     ·have h1:=G.1;have bi:W.heap.size<=k:=h1;rw[ak k (by omega),E.out.block k G.2 (by omega)]
     ·have bi:W.heap.size<=k:=G.1;omega
     ·rw[n,n,n,n];exact az_ G.2 ay
    ·refine PKid.keep aq.out.2 (fun k G=>ak k (by have:=G.1;omega)) fun k G=>⟨?_,?_⟩
     ·have:=G.1;omega
     ·rw[n,n,n,n];exact G.2
def O1:(prog.info? 215).map (fun i=>(i.zero,i.size,i.bytes))=some (some (.agg #[.int .i64 0,.string (bs []),.slice none 0 0,.slice none 0 0]),4,72):=by kernel_rfl
def xD:Value->List Value
 |.agg a=>a.toList
 |v=>[v]
def jO:List Value->List Value
 |[]=>[]
 |v::l=>xD v++jO l
def UX(l:List Value)(v:Value):jO (l++[v])=jO l++xD v:=by
 induction l with
 |nil=>simp[jO]
 |cons x l a=>simp[jO,a]
def FSl(F:Nat->Prop)(w:World)(v:Value)(fs:List aC):Prop:=
 (v=.slice none 0 0/\fs=[])\/
 ∃g cap cur us,v=.slice (some ⟨g,0,none⟩) fs.length cap/\F g/\w.heap[g]?=some (.cells cur 215 (0,0))/\fs.length<=cap/\cur.toList.take (fs.length*4)=jO us/\jX (AC F w) us fs
def PFl(base:Nat)(w:World)(v:Value)(acc:List aC):Prop:=
 ∃us F,w.ownsRow base 215 4 v acc.length (jO us)/\jX (AC F w) us acc/\∀b,F b->base<=b/\b<w.heap.size/\v.ownBlock≠some b
def PFl.nil(base:Nat)(w:World):PFl base w (.slice none 0 0) []:=⟨[],fun _=>False,World.ownsRow_nil _ _ _ _,trivial,fun _ h=>h.elim⟩
def PFl.slice{base:Nat}{w:World}{v:Value}{acc:List aC}(h:PFl base w v acc):∃x c,v=.slice x acc.length c:=by
 obtain⟨i,F,d,_⟩:=h;rcases d.2 with ⟨a,f⟩|⟨g,b,e,a,_⟩
 ·exact⟨none,0,by rw[a,f]⟩
 ·exact⟨_,b,a⟩
def PFl.keep{base pb:Nat}{w w1:World}{v:Value}{acc:List aC}(h:PFl base w v acc)(e:Fr pb w w1)(j:pb<base):PFl base w1 v acc:=by
 obtain⟨i,F,c,g,d⟩:=h;refine⟨i,F,aY c fun k f=>?_,g.mono fun _ _ h=>h.keep (fun b a=>?_) (fun _ h=>h),fun b a=>?_⟩
 ·have:=cC c k f;exact e.block k (cK c k f) (by omega)
 ·have:=d b a;have:=e.size;exact⟨by omega,by omega,(d b a).2.2⟩
 ·have:=d b a;exact e.block b this.2.1 (by omega)
def PFl.snoc{base lo:Nat}{w q o:World}{v:Value}{acc:List aC}{p:Value}{a:aC}{g n:Nat}{us:List Value}{F:Nat->Prop}(x:jX (AC F w) us acc)(y:∀b,F b->base<=b/\b<w.heap.size/\v.ownBlock≠some b)
 (t:AC (Btw lo w.heap.size) w p a) (A:base<=lo) (m:∀k,v.ownBlock=some k->k<lo) (r:∀k,k<w.heap.size->q.heap[k]?=w.heap[k]?) (z:w.heap.size<=q.heap.size)
 (l:o.ownsRow base 215 4 (.slice (some ⟨g,0,none⟩) (acc.length+1) n) (acc.length+1) (jO us++xD p))
 (i:q.grownBy o v.ownBlock) (j:v.ownBlock=some g\/w.heap.size<=g):PFl base o (.slice (some ⟨g,0,none⟩) (acc.length+1) n) (acc++[a]):=by
 have s:∀b,(F b\/Btw lo w.heap.size b)->base<=b/\b<w.heap.size/\v.ownBlock≠some b:=by
  rintro b (c|c)
  ·exact y b c
  ·exact⟨by have:=c.1;omega,c.2,fun e=>by have:=m b e;have:=c.1;omega⟩
 have f:∀b,(F b\/Btw lo w.heap.size b)->o.heap[b]?=w.heap[b]?:=fun b c=>by
  have d:=s b c;rw[i.block b (by omega) (fun e=>d.2.2 e.symm),r b d.2.1]
 refine⟨us++[p],fun b=>F b\/Btw lo w.heap.size b,?_,?_,?_⟩
 ·rw[aw_,UX];exact l
 ·exact jX.snoc (x.mono fun _ _ h=>h.keep (fun b c=>f b (av_ c)) (fun _=>av_)) (t.keep (fun b c=>f b (as_ c)) (fun _=>as_))
 ·intro b c;have d:=s b c;have:=i.size;refine⟨d.1,by omega,fun e=>?_⟩
  have u:g=b:=Option.some.inj e;rcases j with j|j
  ·exact d.2.2 (by rw[j,u])
  ·omega
def PFl.fsl{base:Nat}{w:World}{v:Value}{acc:List aC}(h:PFl base w v acc):FSl (Btw base w.heap.size) w v acc:=by
 obtain⟨l,F,n,k,i⟩:=h;rcases n.2 with ⟨a,e⟩|⟨g,d,c,a,e,j,m,q,p,o⟩
 ·exact av_ ⟨a,aN_ e⟩
 ·exact as_ ⟨g,d,c,l,a,⟨e,aD j⟩,j,m,o,k.mono fun _ _ h=>h.keep (fun _ _=>rfl) fun b f=>⟨(i b f).1,(i b f).2.1⟩⟩
def YW(a c d:Int)(b:ByteArray)(w:World):(Instr.field 206 (.agg #[.int .i64 a,.string b,.int .i64 c,.int .i64 d]) 0).run prog w=.ok (.int .i64 a) w:=by kernel_rfl
def YS{t:aX}(h:oF t):(psort t.sort=4↔t.sort=101):=by
 unfold psort;rcases h with h|⟨h,_⟩|h|⟨h,_⟩|h|h<;>simp[h]
def ZJ(w:World)(a b c d:Value):∀j u,([a,b,c,d]:List Value)[j]?=some u->(w.alloc (.cells #[a,b,c,d] 215)).cell? ((⟨w.heap.size,0,none⟩:Addr).add j)=some u:=by
 intro j u e;match j,e with
 |0,e=>simp at e;subst e;simp[Addr.add,go_sem]
 |1,e=>simp at e;subst e;simp[Addr.add,go_sem]
 |2,e=>simp at e;subst e;simp[Addr.add,go_sem]
 |3,e=>simp at e;subst e;simp[Addr.add,go_sem]
 |j+4,e=>simp at e
def L3(l:Int)(b:ByteArray)(x y:Option Addr)(n m c d:Nat):∀u∈([.int .i64 l,.string b,.slice x n c,.slice y m d]:List Value),u.oneCell'=true:=by
 intro u a;simp at a;rcases a with rfl|rfl|rfl|rfl<;>rfl
def Q8(C:Ctx)(X:Nat->bU aC)(w:World)(r:bU (List aC))(k:Nat)(v:Value)(wr:World):Prop:=
 Fr C.pb w wr/\∃q acc,PAt C wr q/\r=eQ X C.ts k q acc/\acc.length+k<=4000/\PFl w.heap.size wr v acc
def j8(lo:Nat)(w':World)(v:Value)(l:List aC):Prop:=FSl (Btw lo w'.heap.size) w' v l
def YT(C:Ctx)(X:Nat->bU aC)(HX:∀w p,PAt C w p->X p≠.error 0->Calls prog 134 #[.pointer (some ⟨C.pb,0,none⟩)] w (Out C w (X p) (ae_ w.heap.size)))(w:World)(p:Nat)(h:PAt C w p)(r:bU (List aC))(hr:r=eQ X C.ts (C.ts.length+1) p [])(S:r≠.error 0):
 Calls prog 77 #[.pointer (some ⟨C.pb,0,none⟩)] w (Out C w r (j8 w.heap.size)):=by
 obtain⟨i0,hi,ar,an,ai⟩:=info_parts O1;have aw:=h.len;have u:=h.pb_lt;have ap:=h.g_lt;have HI:Hid (Q8 C X w r (C.ts.length+1) (.slice none 0 0) w):=⟨Fr.refl _ _,p,[],h,hr,by simp;omega,PFl.nil _ _⟩
 have Z:=aB S;have am:=aB HX;have be:=YW;clear h hr S HX;go_enter Tryz.func77,Tryz.ntmps77;go_wp2_with fail;go_loopg [3] (C.ts.length+1) (fun k v wr=>Q8 C X w r k v wr)
 case atStart=>exact HI.out
 case round=>
  obtain⟨O,D,d,j,y,ay,L⟩:=hrel;obtain⟨x4,c4,rfl⟩:=L.slice;have n:=aB (mK C wr D j);simp only[oE] at n;have ad:=YS (j.tsk.tk D j.lt);have H:=aB O;have I:=aB L;have Q:=aB j;have ba:=O.size
  obtain⟨k,rfl⟩:∃k,gk=k+1:=by
   cases gk with
   |zero=>exact absurd y Z.out
   |succ k=>exact⟨k,rfl⟩
  rw[eQ] at y;clear O j L HI;have s:=aB y;have z:=aB ad;clear y ad;generalize aP C.ts D=t at*;generalize psort t.sort=ps at*;generalize pval t=pv at*;by_cases P:t.sort=101
  ·have HL:Hid (r=.ok (d,D)):=by show _=_;rw[s.out,P];rfl
   obtain rfl:ps=4:=z.out.2 P;clear P s z;go_wp2_with fail;refine n.out.mono ?_;rintro e w5 ⟨rfl,b⟩;have K:=aB b;clear b;go_wp2_with fail;go_ret;exact Out.ok HL.out (H.out.trans (Fr.below K.out)) (Q.out.below K.out) (I.out.keep (Fr.below K.out) u).fsl
  ·have bf:((ps:Int) != 4)=true:=by simp;intro e;exact P (z.out.1 (by omega))
   obtain⟨rE,x⟩:∃rE,rE=X D:=⟨_,rfl⟩
   have o:Hid (r=bR rE fun i q=>eQ X C.ts k q (d++[i])):=by
    show _=_
    rw[s.out,if_neg (by simpa using P),x]
    cases X D<;>rfl
   have V:X D≠.error 0:=fun e=>Z.out (by rw[o.out,x,e];rfl)
   have au:=aB x;clear P s z x;go_wp2_with fail;refine n.out.mono ?_;rintro e w5 ⟨rfl,b⟩;have HY:=aB (am.out w5 D (Q.out.below b) V);simp only[<-au.out] at HY;have N:=aB (H.out.trans (Fr.below b));have G:=aB (I.out.keep (Fr.below b) u);have bc:=b.size;clear b n I V H;cases rE with
   |error l=>
    have HL:Hid (r=.error l):=o.out;go_wp2_with fail;refine HY.out.mono ?_;rintro e w6 ⟨c,rfl⟩;have A:=aB (N.out.trans c);clear c;go_wp2_with fail;exact⟨rfl,Out.err HL.out A.out⟩
   |ok ag=>
    obtain⟨a6,q6⟩:=ag;have ao:Hid (r=eQ X C.ts k q6 (d++[a6])):=o.out;clear o;go_wp2_with fail;refine HY.out.mono ?_;rintro e w6 ⟨c,ab,v6,rfl,U⟩;have ae:=aB U;obtain⟨az,bg,ak,b6,aj, -,T, -,Y⟩:=U;obtain⟨x7,c7,rfl⟩:=T.slice;obtain⟨x8,c8,rfl⟩:=Y.slice;subst aj;obtain⟨us,F,m,B,aa⟩:=G.out.keep c u
    have ac:∀g,(Value.slice x4 d.length c4).ownBlock=some g->g<w5.heap.size:=by
     obtain⟨bd,F',M,_⟩:=G.out;exact cK M
    have af:=aB ac;have A:=aB (N.out.trans c);have W:=aB ab;have HALL:=aB (aW_ B aa);have ax:=c.size;have J:∀k,(Value.slice x4 d.length c4).ownBlock=some k->w.heap.size<=k:=cC m;clear ab c T Y HY G N B aa ac;go_wp2_with (at_builtin;refine wpList_append_lies _ (by rfl) _ _ 86 (by rfl) w.heap.size 215 i0 _ 4 72 Tryz.underlying86 hi ar an ai rfl (by decide) _ _ _ (by rfl) (m.alloc _) ⟨w6.heap.size,0,none⟩ 1 1 [.int .i64 a6.line,.string (bs a6.text),.slice x7 ak.length c7,.slice x8 b6.kids.length c8] (by rfl) (by rfl) (ZJ _ _ _ _ _) (L3 _ _ _ _ _ _ _ _) (by decide) (by unfold maxLen;omega) (by omega) (by simp;omega) (w6.heap.size+1) (by simp) ?_)
    intro g7 av w9 f a E bb;have ah:=aB (PFl.snoc (lo:=w5.heap.size) HALL.out.1 HALL.out.2 ae.out (by omega) af.out (fun k hk=>aA_ _ _ _ hk) (by simp) f a (E.imp_right (fun e=>by omega)))
    have al:=aB ((W.out.alloc _).grown (base:=w.heap.size) a J u ap);have aq:=aB ((A.out.alloc _).grown a J);clear m f a E ae W A HALL af J;go_wp2_with fail;go_roundg k
    case measure=>omega
    case rel=>exact⟨aq.out,q6,d++[a6],al.out,ao.out,by simp;omega,by simpa using ah.out⟩
def NZ(C:Ctx)(w:World)(h:PAt C w 0)(a:lW C.ts≠.error 0):
 Calls prog 77 #[.pointer (some ⟨C.pb,0,none⟩)] w (Out C w (lW C.ts) (j8 w.heap.size)):=
 YT C _ (fun w p h b=>O3 C _ (JD C (C.ts.length+1) (C.ts.length+1)) w p h _ rfl b) w 0 h _ rfl a
end Go.Proofs.YtblbkfdhjfppkaaGreatDoor
