/- Contracts of the program: statements. -/
import Derived.Test.YtmjbnmpamlainaaGreatDoorP03
set_option linter.defProp false
set_option maxRecDepth 100000
set_option maxHeartbeats 4000000
namespace Go.Proofs.YtmjbnmpamlainaaGreatDoor
open Hs
open _root_.Go.Proofs.Tryz
open Go.RowKit
def JU(lo:Nat)(w':aG)(v:aQ)(b:aE):Prop:=b.op=[98,108,111,99,107]/\PKid (Btw lo w'.heap.size) w' v b.kids
def bY_(C:Ctx)(w:aG)(r:cB aE)(e:Ending)(w':aG):Prop:=Out C w r (JU w.heap.size) e w'
def BReads(C:Ctx)(F:Nat)(X:Nat->cB aE):Prop:=∀w p,PAt C w p->X p≠.error 0->Calls prog F #[bH C.pb] w (bY_ C w (X p))
def wU(B:Nat->cB aE)(ts:List bB)(q:Nat):cB (Option aE):=if aY ts q [101,108,115,101] then cF some (B (q+1)) else .ok (none,q)
def r8(lo:Nat)(w':aG)(v:aQ):Option aE->Prop
 |none=>v=bF
 |some b=>JU lo w' v b
def JU.slice{lo:Nat}{w:aG}{v:aQ}{b:aE}(h:JU lo w v b):∃x n c,v=.slice x n c:=by
 obtain⟨x,c,e⟩:=h.2.slice;exact⟨x,_,c,e⟩
def r8.slice{lo:Nat}{w:aG}{v:aQ}{o:Option aE}(h:r8 lo w v o):∃x n c,v=.slice x n c:=by
 cases o with
 |none=>exact⟨none,0,0,h⟩
 |some b=>exact JU.slice h
def JU.grow{lo lo':Nat}{w w':aG}{v:aQ}{b:aE}(h:JU lo w v b)(a:∀k,lo<=k->k<w.heap.size->w'.heap[k]?=w.heap[k]?)(d:lo'<=lo)(c:w.heap.size<=w'.heap.size):JU lo' w' v b:=⟨h.1,h.2.grow a d c⟩
def aN_(E B:Nat->cB aE)(ts:List bB)(p:Nat):
 sJ E B ts p=bW (E (p+1)) fun c q=>bW (B q) fun b a=>cF (fun o=>aU [105,102] (aT ts p).line [] (c::b::o.toList)) (wU B ts a):=by
 unfold sJ;cases E (p+1) with
 |error l=>rfl
 |ok e=>
  obtain⟨c,q⟩:=e;show bW (B q) _=bW (B q) _
  cases B q with
  |error l=>rfl
  |ok d=>
   obtain⟨b,a⟩:=d;show (if _ then _ else _)=cF _ (wU B ts a)
   unfold wU;split
   ·cases B (a+1)<;>rfl
   ·rfl
def d9(C:Ctx)(B:Nat->cB aE)(L:BReads C 112 B)(w:aG)(q:Nat)(h:PAt C w q)(r:cB (Option aE))(M:r=wU B C.ts q)(s:r≠.error 0):
 Calls prog 182 #[bH C.pb] w (Out C w r (r8 w.heap.size)):=by
 have p:=aB (dO C w q ⟨#[101,108,115,101]⟩ h);have N:(⟨#[101,108,115,101]⟩:ByteArray).data.toList=[101,108,115,101]:=rfl;rw[N] at p;have A:=aB L;have y:=aB M;have E:=aB s;clear h L M s N;cases a:aY C.ts q [101,108,115,101]
 ·have v:Hid (r=.ok (none,q)):=by show _=_;rw[y.out];unfold wU;rw[a];rfl
  rw[a] at p;clear a y;go_in
  go_wp2_with fail;refine p.mono ?_;rintro e K ⟨rfl,f,d⟩;have G:=aB f;have i:=aB d;clear f d;go_wp2
  go_ret;exact Out.ok v i G rfl
 ·obtain⟨z,j⟩:∃z,z=B (q+1):=⟨_,rfl⟩;have k:Hid (r=cF some z):=by show _=_;rw[y.out,j];unfold wU;rw[a];rfl
  have u:B (q+1)≠.error 0:=fun e=>E (by rw[k.out,j,e];rfl)
  have D:=aB j;rw[a] at p;clear a y j;go_in
  go_wp2_with fail;refine p.mono ?_;rintro e K ⟨rfl,f,d⟩;have J:=aB (A K (q+1) f u);rw[<-D.out] at J;have i:=aB d;have F:=d.size;clear f d u p;cases z with
  |error l=>
   have v:Hid (r=.error l):=k;go_wp2_with fail;refine J.mono ?_;rintro e P ⟨g,rfl⟩;have m:=aB (i.trans g);clear g;go_wp2_with fail;exact⟨rfl,Out.err v m⟩
  |ok O=>
   obtain⟨b,Q⟩:=O;have v:Hid (r=.ok (some b,Q)):=k;go_wp2_with fail;refine J.mono ?_;rintro e P ⟨g,t,S,rfl,o⟩;have m:=aB (i.trans g);have I:=aB t;have H:=aB o;obtain⟨x,n,c,rfl⟩:=o.slice;clear g t o;go_wp2
   go_ret;exact Out.ok v m I (show JU _ _ _ _ from H.grow (fun _ _ _=>rfl) F cL)
def S5(C:Ctx)(E B:Nat->cB aE)(HE:PReads C 55 E)(HB:BReads C 112 B):PReads C 156 (jV E B C.ts):=by
 intro w p h bd;have br:=aB (nQ C w p h);have cb:=aB HE;have bk:=aB HB;have bj:=aB (RK C E HE);have cg:=aB (UZ C E HE);have H:=aB h;have co:=h.pb_lt;have cv:=h.g_lt;obtain⟨r,hr⟩:∃r,r=jV E B C.ts p:=⟨_,rfl⟩;rw[<-hr] at bd ⊢
 rw[jV] at hr;have j:=aB hr;have ab:=aB bd;clear h HE HB bd hr;generalize bv:(aT C.ts p).line=pl at*;have al:=aB bv;clear bv;go_in
 go_wp2_with fail;refine br.mono ?_;rintro e w1 ⟨rfl,aw⟩;have m:=aB ((Fr.below (pb:=C.pb) aw).alloc (.cells #[Iv0 pl] 153));have J:=aB ((H.below aw).alloc (.cells #[Iv0 pl] 153));have n:=aB (v7.new w1 pl);have z:w1.heap.size≠C.pb:=by have:=aw.size;omega
 have cs:=aw.size;clear aw br;have M:=aB (dO C (w1.alloc (.cells #[Iv0 pl] 153)) p ⟨#[118,97,114]⟩ J);have ed:(⟨#[118,97,114]⟩:ByteArray).data.toList=[118,97,114]:=rfl;rw[ed] at M;clear ed;cases d:aY C.ts p [118,97,114];rotate_left
 ·have HRt:Hid (r=pX E C.ts p):=by show _=_;rw[j.out,d];rfl
  rw[d] at M;clear d j;go_wp2_with fail;refine M.mono ?_;rintro e W1 ⟨rfl,A,O⟩;have HFt:=aB (m.trans O);have HBt:=aB (O.keepB n z);clear O M m J n;have aj:=aB (nP C W1 (p+1) A);clear A;obtain⟨t,ht⟩:∃t,t=aT C.ts (p+1):=⟨_,rfl⟩;rw[<-ht] at aj;have bh:=aB ht;clear ht;cases hs:(t.sort==110)
  ·have S:Hid (r=.error t.line):=by show _=_;rw[HRt.out];unfold pX;rw[<-bh.out,hs];show Hs.bad _ _=_;unfold Hs.bad;rw[<-bh.out]
   rw[hs] at aj;clear hs HRt;go_wp2_with fail;refine aj.mono ?_;rintro e w2 ⟨f,bm⟩;obtain rfl:e=cT 4 t.line:=bm;have L:=aB (HFt.trans f);clear f;go_wp2_with fail;exact⟨rfl,Out.err S L⟩
  have P:Hid (r=if aY C.ts (p+2) [61] then cF (fun v=>aU [118,97,114] pl [] [aU [116,97,114,103,101,116] t.line t.text [],v]) (aS C.ts [59] (E (p+3))) else Hs.bad C.ts (p+2)):=by
   show _=_
   rw[HRt.out];unfold pX;rw[<-bh.out,hs,LO,al.out];rfl
  rw[hs] at aj;clear hs HRt;go_wp2_with fail;refine aj.mono ?_;rintro e w2 ⟨f,bm⟩;obtain⟨rfl,y⟩:=bm;have L:=aB ((HFt.trans f).alloc (.cells #[Iv0 t.line,.string (bs t.text)] 155));have ak:=aB (gN C (w2.alloc (.cells #[Iv0 t.line,.string (bs t.text)] 155)) (p+2) ⟨#[61]⟩ (y.alloc _));have bu:(⟨#[61]⟩:ByteArray).data.toList=[61]:=rfl;rw[bu] at ak;have bz:Hid ((w2.alloc (.cells #[Iv0 t.line,.string (bs t.text)] 155)).heap[w2.heap.size]?=some (.cells #[Iv0 t.line,.string (bs t.text)] 155 (0,0))):=aO _ _ rfl _;have bt:w2.heap.size≠C.pb:=by have:=y.pb_lt;omega
  have Q:=aB ((f.alloc (.cells #[Iv0 t.line,.string (bs t.text)] 155)).keepB HBt z);clear f y aj bu;cases d:aY C.ts (p+2) [61]
  ·have S:Hid (r=.error (aT C.ts (p+2)).line):=by show _=_;rw[P.out,d];rfl
   rw[d] at ak;clear d P;go_wp2_with fail;refine ak.mono ?_;rintro e w3 ⟨W,bg⟩;obtain rfl:e=cT 4 (aT C.ts (p+2)).line:=bg;have ac:=aB (L.trans W);clear W;go_wp2_with fail;exact⟨rfl,Out.err S ac⟩
  obtain⟨X,s⟩:∃X,X=aS C.ts [59] (E (p+3)):=⟨_,rfl⟩;have u:Hid (r=cF (fun v=>aU [118,97,114] pl [] [aU [116,97,114,103,101,116] t.line t.text [],v]) X):=by show _=_;rw[P.out,d,s];rfl
  have V:aS C.ts [59] (E (p+3))≠.error 0:=fun e=>ab (by rw[u.out,s,e];rfl)
  have av:=aB s;rw[d] at ak;clear d P s;go_wp2_with fail;refine ak.mono ?_;rintro e w3 ⟨W,bg⟩;obtain⟨rfl,an⟩:=bg;have Y:=aB (bj w3.drew (p+3) an.drew V);simp only[<-av.out] at Y;have ac:=aB (L.trans W);have bi:=aB (W.keepB Q z);have ai:=aB (W.keepB bz bt);have c0:=aA bi (i:=0) rfl;have ao:=aC bi;have m0:=aA ai (i:=0) rfl;have m1:=aA ai (i:=1) rfl;have ct:=aC ai;have am:=ac.size;clear W an ak Q bz V;cases X with
  |error l=>
   have S:Hid (r=.error l):=u;go_wp2_with fail;go_region_law (refine thrown .nilIface ?_ ?_;(focus go_simp;go_at_call 181;refine Y.mono ?_;rintro e w4 ⟨g,rfl⟩;exact cL_ rfl (Out.err S (ac.drew.trans g)));intro x)
   all_goals exact x.out.elim
  |ok aq=>
   obtain⟨a,q⟩:=aq;have S:Hid (r=.ok (aU [118,97,114] pl [] [aU [116,97,114,103,101,116] t.line t.text [],a],q)):=u;clear u;go_wp2_with fail;go_region_law (go_simp;go_at_call 181;refine Y.mono ?_;rintro e w4 ⟨g,U,v4,rfl,Z⟩;obtain⟨T4,bw,rfl⟩:=Z.form;have K:=aB ((Fr.refl C.pb w3).drew.trans g);have ae:=aB Z;have af:=aB U;have ap:=aB (K.keepB ai bt);have T:=aB (K.keepB bi z);have d0:=aA ap (i:=0) rfl;have d1:=aA ap (i:=1) rfl;have cu:=aC ap;have d2:=aA T (i:=0) rfl;have ax:=aC T;clear g U Z)
   all_goals (go_wp2_with fail;go_ret)
   all_goals exact Out.ok S (ac.trans K) af (PN.mk (ck_ (ck_ (ck_ (ck_ (ck_ (ck_ (ck_ (ck_ (ck_ (cl_ (⟨rfl,_,aU [116,97,114,103,101,116] t.line t.text [],a,rfl,rfl,rfl,rfl⟩))))))))))) (fun p hp=>by obtain rfl:=cs_.1 hp;exact Prt.ok.node (ae.grow (fun _ _ _=>rfl) am cL)))
 have HRn:Hid (r=if aY C.ts p [105,102] then sJ E B C.ts p else if aY C.ts p [119,104,105,108,101] then lD E B C.ts p else if aY C.ts p [114,101,116,117,114,110] then iK E C.ts p else if aY C.ts p [112,114,105,110,116] then jH E C.ts p else fG E C.ts p):=by show _=_;rw[j.out,d];rfl
 rw[d] at M;clear d j;have j:=HRn;clear HRn;go_wp2_with fail;refine M.mono ?_;rintro e V1 ⟨rfl,G,N⟩;have D:=aB (m.trans N);have I:=aB (N.keepB n z);have F:=aB G;clear N G M m n J;have m:=D;have n:=I;have J:=F;clear D I F;have M:=aB (dO C V1 p ⟨#[105,102]⟩ J);have ed:(⟨#[105,102]⟩:ByteArray).data.toList=[105,102]:=rfl;rw[ed] at M;clear ed;cases d:aY C.ts p [105,102];rotate_left
 ·have HRt:Hid (r=sJ E B C.ts p):=by show _=_;rw[j.out,d];rfl
  rw[d] at M;clear d j;go_wp2_with fail;refine M.mono ?_;rintro e W1 ⟨rfl,A,O⟩;have HFt:=aB (m.trans O);have HBt:=aB (O.keepB n z);clear O M m J n;obtain⟨X,s⟩:∃X,X=E (p+1):=⟨_,rfl⟩;have P:Hid (r=bW X fun c q=>bW (B q) fun b q2=>cF (fun o=>aU [105,102] pl [] (c::b::o.toList)) (wU B C.ts q2)):=by show _=_;rw[HRt.out,s,aN_,al.out]
  have V:E (p+1)≠.error 0:=fun e=>ab (by rw[P.out,s,e];rfl)
  have Y:=aB (cb W1 (p+1) A V);rw[<-s] at Y;clear A V s HRt;cases X with
  |error l=>
   have S:Hid (r=.error l):=P;go_wp2_with fail;refine Y.mono ?_;rintro e w2 ⟨f,rfl⟩;have L:=aB (HFt.trans f);clear f;go_wp2_with fail;exact⟨rfl,Out.err S L⟩
  |ok cq=>
   obtain⟨c,q⟩:=cq;go_wp2_with fail;refine Y.mono ?_;rintro e w2 ⟨f,y,v2,rfl,ag⟩;obtain⟨T2,cn,rfl⟩:=ag.form;have L:=aB (HFt.trans f);have Q:=aB (f.keepB HBt z);have be:=HFt.size;have cf:=f.size;have az:=aB (ag.grow (lo':=w.heap.size) (fun _ _ _=>rfl) be cL)
   clear f ag Y;obtain⟨rB,aa⟩:∃rB,rB=B q:=⟨_,rfl⟩;have u:Hid (r=bW rB fun b q2=>cF (fun o=>aU [105,102] pl [] (c::b::o.toList)) (wU B C.ts q2)):=by show _=_;rw[P.out,aa];rfl
   have au:B q≠.error 0:=fun e=>ab (by rw[u.out,aa,e];rfl)
   have HY:=aB (bk w2 q y au);rw[<-aa] at HY;clear y au aa P;cases rB with
   |error l=>
    have S:Hid (r=.error l):=u;go_wp2_with fail;refine HY.mono ?_;rintro e w4 ⟨g,rfl⟩;have K:=aB (L.trans g);clear g;go_wp2_with fail;exact⟨rfl,Out.err S K⟩
   |ok bq=>
    obtain⟨b,q3⟩:=bq;obtain⟨rO,bf⟩:∃rO,rO=wU B C.ts q3:=⟨_,rfl⟩;have ay:Hid (r=cF (fun o=>aU [105,102] pl [] (c::b::o.toList)) rO):=by show _=_;rw[u.out,bf];rfl
    have cl:=aB bf;have cm:Hid (rO≠.error 0):=fun e=>ab (by rw[ay.out,e];rfl)
    clear u bf;go_wp2_with fail;refine HY.mono ?_;rintro e w4 ⟨g,U,v4,rfl,ah⟩;obtain⟨x4,n4,c4,rfl⟩:=ah.slice;have K:=aB (L.trans g);have cr:=g.size;have bb:=aB (ah.grow (lo':=w.heap.size) (fun _ _ _=>rfl) (by omega) cL)
    have ae:=aB (az.grow (lo':=w.heap.size) (hi':=w4.heap.size) (fun k h1 h2=>g.block k h2 (by omega)) cL g.size)
    have T:=aB (g.keepB Q z);have HZ:=aB (d9 C B bk w4.drew q3 U.drew rO cl cm);have c0:=aA T (i:=0) rfl;have ao:=aC T;clear g U ah HY Q az;cases rO with
    |error l=>
     have S:Hid (r=.error l):=ay;go_wp2_with fail;go_region_law (refine thrown (bF) ?_ ?_;(focus go_simp;go_at_call 182;refine HZ.mono ?_;rintro e w5 ⟨ba,rfl⟩;exact cL_ rfl (Out.err S (K.drew.trans ba)));intro x)
     all_goals exact x.out.elim
    |ok oq=>
     obtain⟨o,q5⟩:=oq;have S:Hid (r=.ok (aU [105,102] pl [] (c::b::o.toList),q5)):=ay;clear ay;go_wp2_with fail;go_region_law (go_simp;go_at_call 182;refine HZ.mono ?_;rintro e w5 ⟨ba,cd,v5,rfl,bl⟩;obtain⟨x5,n5,c5,rfl⟩:=bl.slice;have ad:=aB ((Fr.refl C.pb w4).drew.trans ba);have bx:=aB bl;have ca:=aB cd;have ce:=aB (ad.keepB T z);have d2:=aA ce (i:=0) rfl;have ax:=aC ce;clear ba cd bl)
     all_goals (go_wp2_with fail;go_ret)
     all_goals
      have cp:=ad.size;have bn:=ae.grow (lo':=w.heap.size) (hi':=w5.heap.size) (fun k h1 h2=>ad.block k h2 (by omega)) cL ad.size
      have bc:=bb.grow (lo':=w.heap.size) (fun k h1 h2=>ad.block k h2 (by omega)) cL ad.size
      cases o with
      |none=>
       have h5:Value.slice x5 n5 c5=bF:=bx;rw[h5]
       exact Out.ok S (K.trans ad) ca (PN.mk (ck_ (ck_ (ck_ (ck_ (ck_ (ck_ (ck_ (ck_ (ck_ (ck_ (ck_ (cl_ (⟨rfl,_,_,c,b,rfl,rfl,bc.1,rfl,rfl⟩))))))))))))) (fun p hp=>by
        simp only[cv_,cD_,or_false] at hp;rcases hp with rfl|rfl
        ·exact Prt.ok.node bn
        ·exact Prt.ok.list bc.2))
      |some b2=>
       have h5:JU w4.drew.heap.size w5 (.slice x5 n5 c5) b2:=bx
       exact Out.ok S (K.trans ad) ca (PN.mk (ck_ (ck_ (ck_ (ck_ (ck_ (ck_ (ck_ (ck_ (ck_ (ck_ (ck_ (ck_ (cl_ (⟨rfl,_,_,_,c,b,b2,rfl,rfl,bc.1,h5.1,rfl,rfl⟩)))))))))))))) (fun p hp=>by
        simp only[cv_,cD_,or_false] at hp;rcases hp with rfl|rfl|rfl
        ·exact Prt.ok.node bn
        ·exact Prt.ok.list bc.2
        ·exact Prt.ok.list (h5.2.grow (fun _ _ _=>rfl) (by show _<=w4.heap.size;omega) cL)))
 have HRn:Hid (r=if aY C.ts p [119,104,105,108,101] then lD E B C.ts p else if aY C.ts p [114,101,116,117,114,110] then iK E C.ts p else if aY C.ts p [112,114,105,110,116] then jH E C.ts p else fG E C.ts p):=by show _=_;rw[j.out,d];rfl
 rw[d] at M;clear d j;have j:=HRn;clear HRn;go_wp2_with fail;refine M.mono ?_;rintro e V2 ⟨rfl,G,N⟩;have D:=aB (m.trans N);have I:=aB (N.keepB n z);have F:=aB G;clear N G M m n J;have m:=D;have n:=I;have J:=F;clear D I F;have M:=aB (dO C V2 p ⟨#[119,104,105,108,101]⟩ J);have ed:(⟨#[119,104,105,108,101]⟩:ByteArray).data.toList=[119,104,105,108,101]:=rfl;rw[ed] at M;clear ed;cases d:aY C.ts p [119,104,105,108,101];rotate_left
 ·have HRt:Hid (r=lD E B C.ts p):=by show _=_;rw[j.out,d];rfl
  rw[d] at M;clear d j;go_wp2_with fail;refine M.mono ?_;rintro e W1 ⟨rfl,A,O⟩;have HFt:=aB (m.trans O);have HBt:=aB (O.keepB n z);clear O M m J n;obtain⟨X,s⟩:∃X,X=E (p+1):=⟨_,rfl⟩;have P:Hid (r=bW X fun c q=>cF (fun b=>aU [119,104,105,108,101] pl [] [c,b]) (B q)):=by show _=_;rw[HRt.out,s];unfold lD;rw[al.out]
  have V:E (p+1)≠.error 0:=fun e=>ab (by rw[P.out,s,e];rfl)
  have Y:=aB (cb W1 (p+1) A V);rw[<-s] at Y;clear A V s HRt;cases X with
  |error l=>
   have S:Hid (r=.error l):=P;go_wp2_with fail;refine Y.mono ?_;rintro e w2 ⟨f,rfl⟩;have L:=aB (HFt.trans f);clear f;go_wp2_with fail;exact⟨rfl,Out.err S L⟩
  |ok cq=>
   obtain⟨c,q⟩:=cq;go_wp2_with fail;refine Y.mono ?_;rintro e w2 ⟨f,y,v2,rfl,ag⟩;obtain⟨T2,cn,rfl⟩:=ag.form;have L:=aB (HFt.trans f);have Q:=aB (f.keepB HBt z);have be:=HFt.size;have cf:=f.size;have az:=aB (ag.grow (lo':=w.heap.size) (fun _ _ _=>rfl) be cL)
   clear f ag Y;obtain⟨rB,aa⟩:∃rB,rB=B q:=⟨_,rfl⟩;have u:Hid (r=cF (fun b=>aU [119,104,105,108,101] pl [] [c,b]) rB):=by show _=_;rw[P.out,aa];rfl
   have au:B q≠.error 0:=fun e=>ab (by rw[u.out,aa,e];rfl)
   have HY:=aB (bk w2.drew q y.drew au);rw[<-aa] at HY;have c0:=aA Q (i:=0) rfl;have ao:=aC Q;clear y au aa P;cases rB with
   |error l=>
    have S:Hid (r=.error l):=u;go_wp2_with fail;go_region_law (refine thrown (bF) ?_ ?_;(focus go_simp;go_at_call 112;refine HY.mono ?_;rintro e w4 ⟨g,rfl⟩;exact cL_ rfl (Out.err S (L.drew.trans g)));intro x)
    all_goals exact x.out.elim
   |ok bq=>
    obtain⟨b,q3⟩:=bq;have S:Hid (r=.ok (aU [119,104,105,108,101] pl [] [c,b],q3)):=u;clear u;go_wp2_with fail;go_region_law (go_simp;go_at_call 112;refine HY.mono ?_;rintro e w4 ⟨g,U,v4,rfl,ah⟩;obtain⟨x4,n4,c4,rfl⟩:=ah.slice;have K:=aB ((Fr.refl C.pb w2).drew.trans g);have bb:=aB ah;have af:=aB U;have T:=aB (K.keepB Q z);have d2:=aA T (i:=0) rfl;have ax:=aC T;clear g U ah)
    all_goals (go_wp2_with fail;go_ret)
    all_goals exact Out.ok S (L.trans K) af (PN.mk (ck_ (ck_ (ck_ (ck_ (ck_ (ck_ (ck_ (ck_ (ck_ (ck_ (ck_ (ck_ (ck_ (cl_ (⟨rfl,_,_,c,b,rfl,rfl,bb.1,rfl,rfl⟩))))))))))))))) (fun p hp=>by
     simp only[cv_,cD_,or_false] at hp;rcases hp with rfl|rfl
     ·exact Prt.ok.node (az.grow (fun k h1 h2=>K.block k h2 (by omega)) cL K.size)
     ·exact Prt.ok.list (bb.2.grow (fun _ _ _=>rfl) (by show _<=w2.heap.size;omega) cL)))
 have HRn:Hid (r=if aY C.ts p [114,101,116,117,114,110] then iK E C.ts p else if aY C.ts p [112,114,105,110,116] then jH E C.ts p else fG E C.ts p):=by show _=_;rw[j.out,d];rfl
 rw[d] at M;clear d j;have j:=HRn;clear HRn;go_wp2_with fail;refine M.mono ?_;rintro e V3 ⟨rfl,G,N⟩;have D:=aB (m.trans N);have I:=aB (N.keepB n z);have F:=aB G;clear N G M m n J;have m:=D;have n:=I;have J:=F;clear D I F;have M:=aB (dO C V3 p ⟨#[114,101,116,117,114,110]⟩ J);have ed:(⟨#[114,101,116,117,114,110]⟩:ByteArray).data.toList=[114,101,116,117,114,110]:=rfl;rw[ed] at M;clear ed;cases d:aY C.ts p [114,101,116,117,114,110];rotate_left
 ·have HRt:Hid (r=iK E C.ts p):=by show _=_;rw[j.out,d];rfl
  rw[d] at M;clear d j;go_wp2_with fail;refine M.mono ?_;rintro e W1 ⟨rfl,A,O⟩;have HFt:=aB (m.trans O);have HBt:=aB (O.keepB n z);clear O M m J n;have ar:=aB (dO C W1 (p+1) ⟨#[59]⟩ A);have bo:(⟨#[59]⟩:ByteArray).data.toList=[59]:=rfl;rw[bo] at ar;clear A bo;cases d:aY C.ts (p+1) [59];rotate_left
  ·have S:Hid (r=.ok (aU [114,101,116,117,114,110] pl [] [],p+2)):=by show _=_;rw[HRt.out];unfold iK;rw[d,al.out];rfl
   rw[d] at ar;clear d HRt;go_wp2_with fail;refine ar.mono ?_;rintro e w2 ⟨rfl,y,f⟩;have L:=aB (HFt.trans f);have Q:=aB (f.keepB HBt z);have ch:=aB y;have c0:=aA Q (i:=0) rfl;have ao:=aC Q;clear f y;go_wp2
   go_ret;exact Out.ok S L ch (PN.mk (ck_ (ck_ (ck_ (ck_ (ck_ (ck_ (ck_ (ck_ (ck_ (ck_ (ck_ (ck_ (ck_ (ck_ (cl_ (⟨rfl,pl,rfl,rfl,rfl,rfl⟩)))))))))))))))) (fun p hp=>by cases hp))
  have P:Hid (r=cF (fun v=>aU [114,101,116,117,114,110] pl [] [v]) (aS C.ts [59] (E (p+1)))):=by show _=_;rw[HRt.out];unfold iK;rw[d,LO,al.out];rfl
  rw[d] at ar;clear d HRt;go_wp2_with fail;refine ar.mono ?_;rintro e w2 ⟨rfl,y,f⟩;have L:=aB (HFt.trans f);have Q:=aB (f.keepB HBt z);clear f;obtain⟨X,s⟩:∃X,X=aS C.ts [59] (E (p+1)):=⟨_,rfl⟩;have u:Hid (r=cF (fun v=>aU [114,101,116,117,114,110] pl [] [v]) X):=by show _=_;rw[P.out,s]
  have V:aS C.ts [59] (E (p+1))≠.error 0:=fun e=>ab (by rw[u.out,s,e];rfl)
  have av:=aB s;have Y:=aB (bj w2.drew (p+1) y.drew V);simp only[<-av.out] at Y;have c0:=aA Q (i:=0) rfl;have ao:=aC Q;have am:=L.size;clear y V s P;cases X with
  |error l=>
   have S:Hid (r=.error l):=u;go_wp2_with fail;go_region_law (refine thrown .nilIface ?_ ?_;(focus go_simp;go_at_call 181;refine Y.mono ?_;rintro e w4 ⟨g,rfl⟩;exact cL_ rfl (Out.err S (L.drew.trans g)));intro x)
   all_goals exact x.out.elim
  |ok aq=>
   obtain⟨a,q⟩:=aq;have S:Hid (r=.ok (aU [114,101,116,117,114,110] pl [] [a],q)):=u;clear u;go_wp2_with fail;go_region_law (go_simp;go_at_call 181;refine Y.mono ?_;rintro e w4 ⟨g,U,v4,rfl,Z⟩;obtain⟨T4,bw,rfl⟩:=Z.form;have K:=aB ((Fr.refl C.pb w2).drew.trans g);have ae:=aB Z;have af:=aB U;have T:=aB (K.keepB Q z);have d2:=aA T (i:=0) rfl;have ax:=aC T;clear g U Z)
   all_goals (go_wp2_with fail;go_ret)
   all_goals exact Out.ok S (L.trans K) af (PN.mk (ck_ (ck_ (ck_ (ck_ (ck_ (ck_ (ck_ (ck_ (ck_ (ck_ (ck_ (ck_ (ck_ (ck_ (ck_ (cl_ (⟨rfl,_,a,rfl,rfl,rfl,rfl⟩))))))))))))))))) (fun p hp=>by obtain rfl:=cs_.1 hp;exact Prt.ok.node (ae.grow (fun _ _ _=>rfl) am cL)))
 have HRn:Hid (r=if aY C.ts p [112,114,105,110,116] then jH E C.ts p else fG E C.ts p):=by show _=_;rw[j.out,d];rfl
 rw[d] at M;clear d j;have j:=HRn;clear HRn;go_wp2_with fail;refine M.mono ?_;rintro e V4 ⟨rfl,G,N⟩;have D:=aB (m.trans N);have I:=aB (N.keepB n z);have F:=aB G;clear N G M m n J;have m:=D;have n:=I;have J:=F;clear D I F;have M:=aB (dO C V4 p ⟨#[112,114,105,110,116]⟩ J);have ed:(⟨#[112,114,105,110,116]⟩:ByteArray).data.toList=[112,114,105,110,116]:=rfl;rw[ed] at M;clear ed;cases d:aY C.ts p [112,114,105,110,116];rotate_left
 ·have HRt:Hid (r=jH E C.ts p):=by show _=_;rw[j.out,d];rfl
  rw[d] at M;clear d j;go_wp2_with fail;refine M.mono ?_;rintro e W1 ⟨rfl,A,O⟩;have HFt:=aB (m.trans O);have HBt:=aB (O.keepB n z);clear O M m J n;obtain⟨X,s⟩:∃X,X=aS C.ts [59] (E (p+1)):=⟨_,rfl⟩;have u:Hid (r=cF (fun v=>aU [112,114,105,110,116] pl [] [v]) X):=by show _=_;rw[HRt.out,s];unfold jH;rw[LO,al.out]
  have V:aS C.ts [59] (E (p+1))≠.error 0:=fun e=>ab (by rw[u.out,s,e];rfl)
  have av:=aB s;have Y:=aB (bj W1.drew (p+1) A.drew V);simp only[<-av.out] at Y;have c0:=aA HBt (i:=0) rfl;have ao:=aC HBt;have am:=HFt.size;clear A V s HRt;cases X with
  |error l=>
   have S:Hid (r=.error l):=u;go_wp2_with fail;go_region_law (refine thrown .nilIface ?_ ?_;(focus go_simp;go_at_call 181;refine Y.mono ?_;rintro e w4 ⟨g,rfl⟩;exact cL_ rfl (Out.err S (HFt.drew.trans g)));intro x)
   all_goals exact x.out.elim
  |ok aq=>
   obtain⟨a,q⟩:=aq;have S:Hid (r=.ok (aU [112,114,105,110,116] pl [] [a],q)):=u;clear u;go_wp2_with fail;go_region_law (go_simp;go_at_call 181;refine Y.mono ?_;rintro e w4 ⟨g,U,v4,rfl,Z⟩;obtain⟨T4,bw,rfl⟩:=Z.form;have K:=aB ((Fr.refl C.pb W1).drew.trans g);have ae:=aB Z;have af:=aB U;have T:=aB (K.keepB HBt z);have d2:=aA T (i:=0) rfl;have ax:=aC T;clear g U Z)
   all_goals (go_wp2_with fail;go_ret)
   all_goals exact Out.ok S (HFt.trans K) af (PN.mk (ck_ (ck_ (ck_ (ck_ (ck_ (ck_ (ck_ (ck_ (ck_ (ck_ (ck_ (ck_ (ck_ (ck_ (ck_ (ck_ (cl_ (⟨rfl,_,a,rfl,rfl,rfl,rfl⟩)))))))))))))))))) (fun p hp=>by obtain rfl:=cs_.1 hp;exact Prt.ok.node (ae.grow (fun _ _ _=>rfl) am cL)))
 have HRn:Hid (r=fG E C.ts p):=by show _=_;rw[j.out,d];rfl
 rw[d] at M;clear d j;have j:=HRn;clear HRn;go_wp2_with fail;refine M.mono ?_;rintro e V5 ⟨rfl,G,N⟩;have D:=aB (m.trans N);have I:=aB (N.keepB n z);have F:=aB G;clear N G M m n J;have m:=D;have n:=I;have J:=F;clear D I F;have Y:=aB (cg V5 p J (by rw[<-j.out];exact ab))
 rw[<-j.out] at Y;have ci:=m.size;clear j;go_wp2_with fail;refine Y.mono ?_;rintro e w3 ⟨W,cc⟩;cases r with
 |error l=>
  obtain rfl:e=cT 4 l:=cc;have ac:=aB (m.trans W);clear W;go_wp2_with fail;exact⟨rfl,Out.err rfl ac⟩
 |ok aq=>
  obtain⟨a,q⟩:=aq;obtain⟨an,v3,rfl,bp⟩:=cc;have ac:=aB (m.trans W);have cj:=aB an;have ck:=aB bp;clear W an bp;go_wp2
  go_ret;exact Out.ok rfl ac cj (ck.grow (fun _ _ _=>rfl) ci cL)
def s9(C:Ctx)(S:Nat->cB aE)(w:aG)(r0:cB (List aE))(k:Nat)(v:aQ)(wr:aG):Prop:=
 Fr C.pb w wr/\∃q acc,PAt C wr q/\r0=dT S C.ts k q acc/\acc.length+k<=4000/\PLst w.heap.size wr v acc
def YG(C:Ctx)(S:Nat->cB aE)(HS:PReads C 156 S):
 BReads C 112 (fun p=>if aY C.ts p [123] then cF (aU [98,108,111,99,107] (aT C.ts p).line []) (aS C.ts [125] (dT S C.ts (C.ts.length+1) (p+1) [])) else Hs.bad C.ts p):=by
 obtain⟨i0,hi,al,av,ao⟩:=info_parts EW;intro w p h W;have j:=aB (gN C w p ⟨#[123]⟩ h);have ed:(⟨#[123]⟩:ByteArray).data.toList=[123]:=rfl;rw[ed] at j;have aw:=aB HS;have az:=h.len;have z:=h.pb_lt;have ay:=h.g_lt;show Calls _ _ _ _ (bY_ C w (if aY C.ts p [123] then cF (aU [98,108,111,99,107] (aT C.ts p).line []) (aS C.ts [125] (dT S C.ts (C.ts.length+1) (p+1) [])) else Hs.bad C.ts p))
 obtain⟨r,hr⟩:∃r,r=(if aY C.ts p [123] then cF (aU [98,108,111,99,107] (aT C.ts p).line []) (aS C.ts [125] (dT S C.ts (C.ts.length+1) (p+1) [])) else Hs.bad C.ts p):=⟨_,rfl⟩
 have J:r≠.error 0:=hr▸W;rw[<-hr];have HR:=aB hr;have ap:=aB J;clear h HS W hr J ed;cases a:aY C.ts p [123]
 ·have HL:Hid (r=.error (aT C.ts p).line):=by show _=_;rw[HR.out,a];rfl
  rw[a] at j;clear a HR;go_enter func112,ntmps112;go_wp2_with fail;refine j.out.mono ?_;rintro e w1 ⟨y,K⟩;obtain rfl:e=cT 4 (aT C.ts p).line:=K;have ak:=aB y;clear y;go_wp2_with fail;exact⟨rfl,Out.err HL.out ak.out⟩
 obtain⟨E,P⟩:∃E,E=dT S C.ts (C.ts.length+1) (p+1) []:=⟨_,rfl⟩;have M:Hid (r=cF (aU [98,108,111,99,107] (aT C.ts p).line []) (aS C.ts [125] E)):=by show _=_;rw[HR.out,a,P];rfl
 have I:Hid (E≠.error 0):=fun e=>ap.out (by rw[M.out,e];rfl)
 have X:=aB P;rw[a] at j;clear a HR P;go_enter func112,ntmps112;go_wp2_with fail;refine j.out.mono ?_;rintro e w1 ⟨y,K⟩;obtain⟨rfl,ag⟩:=K;have HI:Hid (s9 C S w E (C.ts.length+1) (.slice none 0 0) w1):=⟨y,p+1,[],ag,X.out,by simp;omega,PLst.nil _ _⟩
 clear y ag j X;go_wp2_with fail;go_loopg [3] (C.ts.length+1) (fun k v wr=>s9 C S w E k v wr)
 case atStart=>exact HI.out
 case round=>
  obtain⟨L,U,m,Z,u,bd,Q⟩:=hrel;obtain⟨x4,c4,rfl⟩:=Q.slice;have f:=aB (dO C wr U ⟨#[125]⟩ Z);have ed:(⟨#[125]⟩:ByteArray).data.toList=[125]:=rfl;rw[ed] at f;have af:=aB L;have N:=aB Q;have bf:=L.size
  obtain⟨k,rfl⟩:∃k,gk=k+1:=by
   cases gk with
   |zero=>exact absurd u I.out
   |succ k=>exact⟨k,rfl⟩
  clear L Z Q HI ed;cases a:aY C.ts U [125];rotate_left
  ·have HL:Hid (r=.ok (aU [98,108,111,99,107] (aT C.ts p).line [] m,U+1)):=by show _=_;rw[M.out,u,dT,if_pos a,pD a];rfl
   rw[a] at f;clear a u;go_wp2_with fail;refine f.out.mono ?_;rintro e w5 ⟨rfl,x,c⟩;have aq:=aB x;have s:=aB (af.out.trans c);have o:=aB (N.out.keep c z);clear x c;go_wp2_with fail;go_ret;exact Out.ok HL.out s.out aq.out ⟨rfl,o.out.kid⟩
  ·obtain⟨rE,B⟩:∃rE,rE=S U:=⟨_,rfl⟩
   have A:Hid (E=bW rE fun i q=>dT S C.ts k q (m++[i])):=by
    show _=_
    rw[u,dT,if_neg (by rw[a];simp),B]
    cases S U<;>rfl
   have aa:S U≠.error 0:=fun e=>I.out (by rw[A.out,B,e];rfl)
   have ax:=aB B;rw[a] at f;clear a u B;go_wp2_with fail;refine f.out.mono ?_;rintro e w5 ⟨rfl,x,c⟩;have HX:=aB (aw.out w5 U x aa);simp only[<-ax.out] at HX;have s:=aB (af.out.trans c);have o:=aB (N.out.keep c z);have be:=c.size;clear x c f N aa;cases rE with
   |error l=>
    have HL:Hid (r=.error l):=by show _=_;rw[M.out,A.out];rfl
    go_wp2_with fail;refine HX.out.mono ?_;rintro e w6 ⟨d,rfl⟩;have D:=aB (s.out.trans d);clear d HX;go_wp2_with fail;exact⟨rfl,Out.err HL.out D.out⟩
   |ok ar=>
    obtain⟨a6,q6⟩:=ar;have au:Hid (E=dT S C.ts k q6 (m++[a6])):=A.out;clear A;go_wp2_with fail;refine HX.out.mono ?_;rintro e w6 ⟨d,ae,v6,rfl,O⟩;obtain⟨T6,aj,rfl⟩:=O.form;obtain⟨vs,F,t,H,ad⟩:=o.out.keep d z
    have ah:∀g,(Value.slice x4 m.length c4).ownBlock=some g->g<w5.heap.size:=by
     obtain⟨bc,F',V,_⟩:=o.out;exact cP V
    have Y:=aB ah;have D:=aB (s.out.trans d);have ab:=aB ae;have ac:=aB O;have HALL:=aB (cL_ H ad);have bb:=d.size;have T:∀k,(Value.slice x4 m.length c4).ownBlock=some k->w.heap.size<=k:=cS t;clear ae d O HX o s H ad ah;go_wp2_with (at_builtin;refine wpList_append_lies _ (by rfl) _ _ 157 (by rfl) w.heap.size 59 i0 _ 1 16 underlying157 hi al av ao rfl (by decide) _ _ _ (by rfl) (t.alloc _) ⟨w6.heap.size,0,none⟩ 1 1 [.iface T6 (.agg aj)] (by rfl) (by rfl) (tG _ _) (wN _ _) (by decide) (by unfold maxLen;omega) (by omega) (by simp;omega) (w6.heap.size+1) (by simp) ?_)
    intro g7 ba w9 n b G bg;have am:=aB (PLst.snoc (lo:=w5.heap.size) HALL.out.1 HALL.out.2 ac.out (by omega) Y.out (fun k hk=>cq_ _ _ _ hk) (by simp) n b (G.imp_right (fun e=>by omega)))
    have ai:=aB ((ab.out.alloc _).grown (base:=w.heap.size) b T z ay);have an:=aB ((D.out.alloc _).grown b T);clear t n b G ac ab D HALL Y T;go_wp2_with fail;go_roundg k
    case measure=>omega
    case rel=>exact⟨an.out,q6,m++[a6],ai.out,au.out,by simp;omega,by simpa using am.out⟩
def LJ(C:Ctx)(f:Nat):∀g,BReads C 112 (jO (eL C.ts f) C.ts g)
 |0=>fun _ _ _ a=>absurd rfl a
 |g+1=>fun w p h a=>YG C (jV (eL C.ts f) (jO (eL C.ts f) C.ts g) C.ts) (S5 C _ _ (yP C f) (LJ C f g)) w p h a
def Z4:(prog.info? 155).map (fun i=>(i.zero,i.size,i.bytes))=some (some (.agg #[Iv0 0,.string (bs [])]),2,24):=by kernel_rfl
def P8:List aE->List Value
 |[]=>[]
 |a::l=>Iv0 a.line::.string (bs a.text)::P8 l
def o7(l:List aE)(a:aE):P8 (l++[a])=P8 l++[Iv0 a.line,.string (bs a.text)]:=by
 induction l with
 |nil=>rfl
 |cons x l b=>simp[P8,b]
def PNm(F:bX)(w:aG)(v:aQ)(l:List aE):Prop:=
 (∀a∈l,a.op=[112,97,114,97,109])/\((v=bF/\l=[])\/
 ∃g cap cur,v=.slice (some (aH g 0)) l.length cap/\F g/\w.heap[g]?=some (.cells cur 155 (0,0))/\l.length<=cap/\cur.toList.take (l.length*2)=P8 l)
def PNm.keep{F G:bX}{w w':aG}{v:aQ}{l:List aE}(h:PNm F w v l)(f:∀b,F b->w'.heap[b]?=w.heap[b]?)(m:∀b,F b->G b):PNm G w' v l:=by
 obtain⟨e,h|⟨g,c,a,j,d,k,i⟩⟩:=h
 ·exact⟨e,cl_ h⟩
 ·exact⟨e,ck_ ⟨g,c,a,j,m g d,by rw[f g d];exact k,i⟩⟩
def PNm.slice{F:bX}{w:aG}{v:aQ}{l:List aE}(h:PNm F w v l):∃x c,v=.slice x l.length c:=by
 obtain⟨_,⟨a,d⟩|⟨g,e,b,a,_⟩⟩:=h
 ·exact⟨none,0,by rw[a,d];rfl⟩
 ·exact⟨_,_,a⟩
def PNl(base:Nat)(w:aG)(v:aQ)(acc:List aE):Prop:=(∀a∈acc,a.op=[112,97,114,97,109])/\w.ownsRow base 155 2 v acc.length (P8 acc)
def PNl.slice{base:Nat}{w:aG}{v:aQ}{acc:List aE}(h:PNl base w v acc):∃x c,v=.slice x acc.length c:=by
 rcases h.2.2 with ⟨a,d⟩|⟨g,b,e,a,_⟩
 ·exact⟨none,0,by rw[a,d]⟩
 ·exact⟨_,b,a⟩
def PNl.keep{base pb:Nat}{w w1:aG}{v:aQ}{acc:List aE}(h:PNl base w v acc)(b:Fr pb w w1)(c:pb<base):PNl base w1 v acc:=by
 refine⟨h.1,aW h.2 fun k a=>?_⟩
 have:=cS h.2 k a;exact b.block k (cP h.2 k a) (by omega)
def PNl.nm{base:Nat}{w:aG}{v:aQ}{acc:List aE}(h:PNl base w v acc):PNm (Btw base w.heap.size) w v acc:=by
 rcases h.2.2 with ⟨c,a⟩|⟨g,d,b,c,a,e,f,k,j,i⟩
 ·exact⟨h.1,cl_ ⟨c,cF_ a⟩⟩
 ·exact⟨h.1,ck_ ⟨g,d,b,c,⟨a,aC e⟩,e,f,i⟩⟩
def KQ(w:aG)(a b:aQ):∀j u,([a,b]:List Value)[j]?=some u->(w.alloc (.cells #[a,b] 155)).cell? ((⟨w.heap.size,0,none⟩:Addr).add j)=some u:=by
 intro j u c;match j,c with
 |0,c=>simp at c;subst c;simp[Addr.add,go_sem]
 |1,c=>simp at c;subst c;simp[Addr.add,go_sem]
 |j+2,c=>simp at c
def QT(l:Int)(b:ByteArray):∀u∈([Iv0 l,.string b]:List Value),u.oneCell'=true:=by
 intro u a;simp at a;rcases a with rfl|rfl<;>rfl
def n8(C:Ctx)(w:aG)(r0:cB (List aE))(k:Nat)(v:aQ)(wr:aG):Prop:=
 Fr C.pb w wr/\∃q acc,PAt C wr q/\r0=(if aY C.ts q [44] then dD C.ts k (q+1) acc else .ok (acc,q))/\acc.length+k<=4000/\PNl w.heap.size wr v acc
def pnode(t:bB):aE:=aU [112,97,114,97,109] t.line t.text []
def YX{ts:List bB}{k p:Nat}{acc:List aE}(h:((aT ts p).sort==110)=true):dD ts (k+1) p acc=if aY ts (p+1) [44] then dD ts k (p+1+1) (acc++[pnode (aT ts p)]) else .ok (acc++[pnode (aT ts p)],p+1):=by
 rw[dD,if_pos h];rfl
def W7{ts:List bB}{k p:Nat}{acc:List aE}(h:((aT ts p).sort==110)=false):dD ts (k+1) p acc=.error (aT ts p).line:=by
 rw[dD,if_neg (by rw[h];simp)];rfl
def PNs(lo:Nat)(w':aG)(v:aQ)(l:List aE):Prop:=PNm (Btw lo w'.heap.size) w' v l
def VP(C:Ctx)(w:aG)(p:Nat)(h:PAt C w p)(r:cB (List aE))(hr:r=if aY C.ts p [40] then iM C.ts (p+1) else Hs.bad C.ts p)(ae:r≠.error 0):
 Calls prog 111 #[bH C.pb] w (Out C w r (PNs w.heap.size)):=by
 obtain⟨i0,hi,ai,ar,ao⟩:=info_parts Z4;have d:=aB (gN C w p ⟨#[40]⟩ h);have L:(⟨#[40]⟩:ByteArray).data.toList=[40]:=rfl;rw[L] at d;have be:=h.len;have x:=h.pb_lt;have av:=h.g_lt;have HR:=aB hr;have bc:=aB ae;clear h hr ae L;cases b:aY C.ts p [40]
 ·have K:Hid (r=.error (aT C.ts p).line):=by show _=_;rw[HR.out,b];rfl
  rw[b] at d;clear b HR;go_in
  go_wp2_with fail;refine d.mono ?_;rintro e w1 ⟨Q,Y⟩;obtain rfl:e=cT 4 (aT C.ts p).line:=Y;have D:=aB Q;clear Q;go_wp2_with fail;exact⟨rfl,Out.err K D⟩
 have V:Hid (r=aS C.ts [41] (if aY C.ts (p+1) [41] then .ok ([],p+1) else dD C.ts (C.ts.length+1) (p+1) [])):=by show _=_;rw[HR.out,b];rfl
 rw[b] at d;clear b HR;go_in
 go_wp2_with fail;refine d.mono ?_;rintro e w1 ⟨Q,Y⟩;obtain⟨rfl,ap⟩:=Y;have HA:=aB (dO C w1 (p+1) ⟨#[41]⟩ ap);have L:(⟨#[41]⟩:ByteArray).data.toList=[41]:=rfl;rw[L] at HA;have D:=aB Q;clear Q ap d L;cases b:aY C.ts (p+1) [41];rotate_left
 ·have K:Hid (r=.ok ([],p+1+1)):=by show _=_;rw[V.out,if_pos b,pD b]
  rw[b] at HA;clear b V;go_wp2_with fail;refine HA.mono ?_;rintro e w2 ⟨rfl,J,G⟩;have O:=aB (D.trans G);have ay:=aB J;clear G J;go_wp2
  go_ret;exact Out.ok K O ay ⟨fun _ h=>(by cases h),cl_ ⟨rfl,rfl⟩⟩
 obtain⟨S,ab⟩:∃S,S=dD C.ts (C.ts.length+1) (p+1) []:=⟨_,rfl⟩;have m:Hid (r=aS C.ts [41] S):=by show _=_;rw[V.out,if_neg (by rw[b];simp),ab]
 have aq:Hid (S≠.error 0):=fun e=>bc (by rw[m.out,e];rfl)
 have T:=aB ab;rw[b] at HA;clear b V ab;go_wp2_with fail;refine HA.mono ?_;rintro e w2 ⟨rfl,J,G⟩;have f:=aB (nP C w2 (p+1) J);have O:=aB (D.trans G);clear G J HA D;cases y:((aT C.ts (p+1)).sort==110)
 ·have K:Hid (r=.error (aT C.ts (p+1)).line):=by show _=_;rw[m.out,T.out,W7 y];rfl
  rw[y] at f;clear y T m;go_wp2_with fail;refine f.mono ?_;rintro e w3 ⟨E,Z⟩;obtain rfl:e=cT 4 (aT C.ts (p+1)).line:=Z;have P:=aB (O.trans E);clear E;go_wp2_with fail;exact⟨rfl,Out.err K P⟩
 have am:Hid (S=if aY C.ts (p+1+1) [44] then dD C.ts C.ts.length (p+1+1+1) [pnode (aT C.ts (p+1))] else .ok ([pnode (aT C.ts (p+1))],p+1+1)):=by show _=_;rw[T.out,YX y];rfl
 rw[y] at f;clear y T;generalize aT C.ts (p+1)=t at*;go_wp2_with fail;refine f.mono ?_;rintro e w3 ⟨E,Z⟩;obtain⟨rfl,af⟩:=Z;have P:=aB (O.trans E);have ak:=aB af;have bf:=P.size;clear E af f O;go_wp2_with (at_builtin;refine wpList_append_lies _ (by rfl) _ _ 156 (by rfl) w.heap.size 155 i0 _ 2 24 underlying156 hi ai ar ao rfl (by decide) (bF) 0 [] (by rfl) (World.ownsRow_nil _ _ _ _) (aH w3.heap.size 0) 1 1 [Iv0 t.line,.string (bs t.text)] (by rfl) (by rfl) (KQ _ _ _) (QT _ _) (by decide) (by unfold maxLen;omega) (by omega) (by simp;omega) (w3.heap.size+1) (by simp) ?_)
 intro g4 an w4 B l aj bk;have al:=aB ((ak.alloc _).grown (base:=w.heap.size) l (fun k hk=>by cases hk) x av)
 have I:=aB ((P.alloc _).grown l (fun k hk=>by cases hk))
 have HI:Hid (n8 C w S C.ts.length (.slice (some (aH g4 0)) 1 an) w4):=⟨I,p+1+1,[pnode t],al,am,by simp;omega,by intro a ha;rw[cs_.1 ha];rfl,B⟩
 clear B l aj am ak P al I;go_wp2_with fail;go_loopg [3] C.ts.length (fun k v wr=>n8 C w S k v wr)
 case atStart=>exact HI
 case round=>
  obtain⟨aa,i,o,ag,X,bh,ac⟩:=hrel;obtain⟨x4,c4,rfl⟩:=ac.slice;have s:=aB (dO C wr i ⟨#[44]⟩ ag);have L:(⟨#[44]⟩:ByteArray).data.toList=[44]:=rfl;rw[L] at s;have I:=aB aa;have W:=aB ac;have bj:=aa.size;clear aa ag ac HI L;cases b:aY C.ts i [44]
  ·have g:Hid (S=.ok (o,i)):=by show _=_;rw[X,b];rfl
   rw[b] at s;clear b X;go_wp2_with fail;refine s.mono ?_;rintro e w5 ⟨rfl,N,q⟩;have d:=aB (gN C w5 i ⟨#[41]⟩ N);have L:(⟨#[41]⟩:ByteArray).data.toList=[41]:=rfl;rw[L] at d;have A:=aB (I.trans q);have z:=aB (W.keep q x);clear N q s W L;cases b:aY C.ts i [41]
   ·have K:Hid (r=.error (aT C.ts i).line):=by show _=_;rw[m.out,g.out];exact zH b
    rw[b] at d;clear b g m;go_wp2_with fail;refine d.mono ?_;rintro e w6 ⟨c,u⟩;obtain rfl:e=cT 4 (aT C.ts i).line:=u;have n:=aB (A.trans c);clear c;go_wp2_with fail;exact⟨rfl,Out.err K n⟩
   ·have K:Hid (r=.ok (o,i+1)):=by show _=_;rw[m.out,g.out];exact pD b
    rw[b] at d;clear b g m;go_wp2_with fail;refine d.mono ?_;rintro e w6 ⟨c,u⟩;obtain⟨rfl,H⟩:=u;have n:=aB (A.trans c);have U:=aB H;have az:=aB (z.keep c x);clear c H z;go_wp2
    go_ret;exact Out.ok K n U az.nm
  ·have g:Hid (S=dD C.ts gk (i+1) o):=by show _=_;rw[X,b];rfl
   rw[b] at s;clear b X
   obtain⟨k,rfl⟩:∃k,gk=k+1:=by
    cases gk with
    |zero=>exact absurd g aq
    |succ k=>exact⟨k,rfl⟩
   go_wp2_with fail;refine s.mono ?_;rintro e w5 ⟨rfl,N,q⟩;have f:=aB (nP C w5 (i+1) N);have A:=aB (I.trans q);have z:=aB (W.keep q x);clear N q s W;cases y:((aT C.ts (i+1)).sort==110)
   ·have K:Hid (r=.error (aT C.ts (i+1)).line):=by show _=_;rw[m.out,g.out,W7 y];rfl
    rw[y] at f;clear y g m;go_wp2_with fail;refine f.mono ?_;rintro e w6 ⟨c,u⟩;obtain rfl:e=cT 4 (aT C.ts (i+1)).line:=u;have n:=aB (A.trans c);clear c;go_wp2_with fail;exact⟨rfl,Out.err K n⟩
   ·have bd:Hid (S=if aY C.ts (i+1+1) [44] then dD C.ts k (i+1+1+1) (o++[pnode (aT C.ts (i+1))]) else .ok (o++[pnode (aT C.ts (i+1))],i+1+1)):=by show _=_;rw[g.out,YX y]
    rw[y] at f;clear y g;generalize aT C.ts (i+1)=t5 at*;go_wp2_with fail;refine f.mono ?_;rintro e w6 ⟨c,u⟩;obtain⟨rfl,H⟩:=u;have n:=aB (A.trans c);have U:=aB H;have M:=(z.keep c x).2;have ah:=aB z.1;have bg:=n.size;have ad:∀k,(Value.slice x4 o.length c4).ownBlock=some k->w.heap.size<=k:=cS M;clear c H f A z;go_wp2_with (at_builtin;refine wpList_append_lies _ (by rfl) _ _ 156 (by rfl) w.heap.size 155 i0 _ 2 24 underlying156 hi ai ar ao rfl (by decide) _ _ _ (by rfl) (M.alloc _) (aH w6.heap.size 0) 1 1 [Iv0 t5.line,.string (bs t5.text)] (by rfl) (by rfl) (KQ _ _ _) (QT _ _) (by decide) (by unfold maxLen;omega) (by omega) (by simp;omega) (w6.heap.size+1) (by simp) ?_)
    intro g7 au w7 F j aw bi;have ax:=aB ((U.alloc _).grown (base:=w.heap.size) j ad x av);have ba:=aB ((n.alloc _).grown j ad)
    have bb:Hid (PNl w.heap.size w7 (.slice (some (aH g7 0)) (o.length+1) au) (o++[pnode t5])):=by
     refine⟨fun a ha=>?_,?_⟩
     ·rcases cu_.1 ha with h|h
      ·exact ah a h
      ·rw[cs_.1 h];rfl
     ·rw[o7,cp_];exact F
    clear M F j aw U n ad ah;go_wp2
    go_roundg k
    case measure=>omega
    case rel=>exact⟨ba,i+1+1,_,ax,bd,by simp;omega,bb⟩
def CA(F:bX)(w:aG)(v:aQ)(f:aE):Prop:=
 ∃pv bv ps b,v=.agg #[Iv0 f.line,.string (bs f.text),pv,bv]/\f.kids=ps++[b]/\PNm F w pv ps/\b.op=[98,108,111,99,107]/\PKid F w bv b.kids
def CA.keep{F G:bX}{w w':aG}{v:aQ}{f:aE}(h:CA F w v f)(a:∀b,F b->w'.heap[b]?=w.heap[b]?)(c:∀b,F b->G b):CA G w' v f:=by
 obtain⟨m,i,d,b,j,e,l,g,k⟩:=h;exact⟨m,i,d,b,j,e,l.keep a c,g,k.keep a c⟩
def b0_(lo:Nat)(w:aG)(v:aQ)(f:aE):Prop:=CA (Btw lo w.heap.size) w v f
def Z8(C:Ctx)(B:Nat->cB aE)(HB:BReads C 112 B)(w:aG)(p:Nat)(h:PAt C w p)(r:cB aE)(hr:r=kS B C.ts p)(ah:r≠.error 0):
 Calls prog 77 #[bH C.pb] w (Out C w r (b0_ w.heap.size)):=by
 obtain⟨rb,bf⟩:∃rb,rb=w.heap.size:=⟨_,rfl⟩;have z:=aB (gN C (w.alloc (.cells #[Iv0 0,.string ⟨#[]⟩,bF,bF] 159)) p ⟨#[102,117,110,99]⟩ (h.alloc _));have ed:(⟨#[102,117,110,99]⟩:ByteArray).data.toList=[102,117,110,99]:=rfl;rw[ed] at z;have ac:Hid (Fr C.pb w (w.alloc (.cells #[Iv0 0,.string ⟨#[]⟩,bF,bF] 159))):=(Fr.refl _ _).alloc _;have U:Hid ((w.alloc (.cells #[Iv0 0,.string ⟨#[]⟩,bF,bF] 159)).heap[w.heap.size]?=some (.cells #[Iv0 0,.string ⟨#[]⟩,bF,bF] 159 (0,0))):=aO _ _ rfl _;have be:=aB HB;have bj:=h.len;have bk:=h.pb_lt;have bt:=h.g_lt;have HR:=aB hr;have am:=aB ah;have J:w.heap.size≠C.pb:=by omega
 clear h hr ah ed HB bf rb;cases x:aY C.ts p [102,117,110,99]
 ·have S:Hid (r=.error (aT C.ts p).line):=by show _=_;rw[HR.out];unfold kS;rw[x];rfl
  rw[x] at z;clear x HR;go_in
  go_wp2_with fail;refine z.mono ?_;rintro e w1 ⟨D,X⟩;obtain rfl:e=cT 4 (aT C.ts p).line:=X;have G:=aB (ac.trans D);clear D;go_wp2_with fail;exact⟨rfl,Out.err S G⟩
 obtain⟨t,ht⟩:∃t,t=aT C.ts (p+1):=⟨_,rfl⟩
 have P:Hid (r=if t.sort==110 then (if aY C.ts (p+2) [40] then
       bW (iM C.ts (p+3)) fun l q=>cF (fun b=>aU [102,117,110,99] t.line t.text (l++[b])) (B q)
  else Hs.bad C.ts (p+2)) else Hs.bad C.ts (p+1)):=by show _=_;rw[HR.out];unfold kS;rw[x,ht];rfl
 have HT:=aB ht;rw[x] at z;clear x HR ht;go_in
 go_wp2_with fail;refine z.mono ?_;rintro e w1 ⟨D,X⟩;obtain⟨rfl,ao⟩:=X;have y:=aB (nP C w1 (p+1) ao);rw[<-HT.out] at y;have G:=aB (ac.trans D);have H:=aB (D.keepB U J);clear D ao z ac U;cases hs:(t.sort==110)
 ·have S:Hid (r=.error t.line):=by show _=_;rw[P.out,hs];show Hs.bad _ _=_;unfold Hs.bad;rw[<-HT.out]
  rw[hs] at y;clear hs P;go_wp2_with fail;refine y.mono ?_;rintro e V ⟨s,af⟩;obtain rfl:e=cT 4 t.line:=af;have L:=aB (G.trans s);clear s;go_wp2_with fail;exact⟨rfl,Out.err S L⟩
 obtain⟨rP,ab⟩:∃rP,rP=(if aY C.ts (p+1+1) [40] then iM C.ts (p+1+1+1) else Hs.bad C.ts (p+1+1)):=⟨_,rfl⟩
 have N:Hid (r=bW rP fun l q=>cF (fun b=>aU [102,117,110,99] t.line t.text (l++[b])) (B q)):=by
  show _=_
  rw[P.out,hs,ab,if_pos rfl];by_cases T:aY C.ts (p+1+1) [40]=true
  ·rw[if_pos T,if_pos T]
  ·rw[if_neg T,if_neg T];rfl
 have al:=aB ab;have av:Hid (rP≠.error 0):=fun e=>am (by rw[N.out,e];rfl)
 rw[hs] at y;clear hs P ab;go_wp2_with fail;refine y.mono ?_;rintro e V ⟨s,af⟩;obtain⟨rfl,ad⟩:=af;have L:=aB ((G.trans s).alloc (.cells #[Iv0 t.line,.string (bs t.text)] 155));have c:=aB ((s.alloc (.cells #[Iv0 t.line,.string (bs t.text)] 155)).keepB H J);have m:Hid ((V.alloc (.cells #[Iv0 t.line,.string (bs t.text)] 155)).heap[V.heap.size]?=some (.cells #[Iv0 t.line,.string (bs t.text)] 155 (0,0))):=aO _ _ rfl _;have aa:V.heap.size≠C.pb:=by have:=ad.pb_lt;omega
 have bp:w.heap.size<V.heap.size:=cn_ (aC H) s.size;have ag:=aB (VP C (V.alloc (.cells #[Iv0 t.line,.string (bs t.text)] 155)).drew (p+1+1) (ad.alloc _).drew rP al av);clear s ad y G H al;go_wp2_with fail;generalize hW:V.alloc (.cells #[Iv0 t.line,.string (bs t.text)] 155)=W at*;have bo:W.heap.size=V.heap.size+1:=by rw[<-hW];simp
 clear hW;have c0:=aA m (i:=0) rfl;have c1:=aA m (i:=1) rfl;have bm:=aC m;cases rP with
 |error l=>
  have S:Hid (r=.error l):=N;have ba:=aA c (i:=0) rfl;have bc:=aA c (i:=1) rfl;have bg:=aA c (i:=2) rfl;have az:=aA c (i:=3) rfl;have ar:=aD (i:=0) c;have ay:=aD (i:=1) c;have bi:=aD (i:=2) c;have ax:=aD (i:=3) c;have ap:=aC c;go_region_law (first|(refine thrown (bF) ?_ ?_;(focus go_simp;go_at_call 111;refine ag.mono ?_;rintro e w3 ⟨o,rfl⟩;exact cL_ rfl (Out.err S (L.drew.trans o)));intro g)|(refine thrown (bF) g.out.elim ?_;intro ak))
  all_goals exact g.out.elim
 |ok lq=>
  obtain⟨l,q⟩:=lq;obtain⟨rB,M⟩:∃rB,rB=B q:=⟨_,rfl⟩;have Q:Hid (r=cF (fun b=>aU [102,117,110,99] t.line t.text (l++[b])) rB):=by show _=_;rw[N.out,M];rfl
  have an:B q≠.error 0:=fun e=>am (by rw[Q.out,M,e];rfl)
  have Z:=aB (fun W (hW:PAt C W q)=>be W q hW an)
  rw[<-M] at Z;clear M an N;cases rB with
  |error l2=>
   have S:Hid (r=.error l2):=Q;go_region_law (first|(go_simp;go_at_call 111;refine ag.mono ?_;rintro e w3 ⟨o,E,v3,rfl,A⟩;obtain⟨x3,c3,rfl⟩:=A.slice;have n:=aB ((Fr.refl C.pb W).drew.trans o);have Y:=aB E;have f:=aB (n.keepB m aa);have d0:=aA f (i:=0) rfl;have d1:=aA f (i:=1) rfl;have au:=aC f;have a:=aB (n.keepB c J);have ba:=aA a (i:=0) rfl;have bc:=aA a (i:=1) rfl;have bg:=aA a (i:=2) rfl;have az:=aA a (i:=3) rfl;have ar:=aD (i:=0) a;have ay:=aD (i:=1) a;have bi:=aD (i:=2) a;have ax:=aD (i:=3) a;have ap:=aC a;clear o E A)|(refine thrown (bF) ?_ ?_;(focus go_simp;go_at_call 112;refine(Z _ Y).mono ?_;rintro e w4 ⟨O,rfl⟩;exact cL_ rfl (Out.err S ((L.trans n).trans O)));intro g))
   all_goals exact g.out.elim
  |ok bq=>
   obtain⟨b,q4⟩:=bq;have S:Hid (r=.ok (aU [102,117,110,99] t.line t.text (l++[b]),q4)):=Q;clear Q;go_region_law (first|(go_simp;go_at_call 111;refine ag.mono ?_;rintro e w3 ⟨o,E,v3,rfl,A⟩;obtain⟨x3,c3,rfl⟩:=A.slice;have n:=aB ((Fr.refl C.pb W).drew.trans o);have Y:=aB E;have bd:=aB A;have f:=aB (n.keepB m aa);have a:=aB (n.keepB c J);have d0:=aA f (i:=0) rfl;have d1:=aA f (i:=1) rfl;have au:=aC f;clear o E A)|(go_simp;go_at_call 112;refine(Z _ Y).mono ?_;rintro e w4 ⟨O,aj,v4,rfl,ae⟩;obtain⟨x4,n4,c4,rfl⟩:=ae.slice;have K:=aB O;have aw:=aB aj;have aq:=aB ae;have F:=aB (K.keepB f aa);have d:=aB (K.keepB a J);have e0:=aA F (i:=0) rfl;have e1:=aA F (i:=1) rfl;have br:=aC F;have z0:=aA d (i:=0) rfl;have z1:=aA d (i:=1) rfl;have z2:=aA d (i:=2) rfl;have z3:=aA d (i:=3) rfl;have y0:=aD (i:=0) d;have y1:=aD (i:=1) d;have y2:=aD (i:=2) d;have y3:=aD (i:=3) d;have bn:=aC d;clear O aj ae))
   all_goals go_wp2_with fail
   all_goals
    refine bodyPost_ret (v:=.agg #[Iv0 t.line,.string (bs t.text),.slice x3 l.length c3,.slice x4 n4 c4]) (by simp[results,results77,go_sem,z0,z1,z2,z3]) rfl ?_
    have bl:=n.size;have bb:=K.size;have j:∀(W:aG) (i:Nat) (u:aQ),(W.setCell (aH w.heap.size i) u).heap.size=W.heap.size:=fun W i u=>by simp[World.setCell]
    have ai:∀k,w.heap.size<k->((((w4.setCell (aH w.heap.size 0) (Iv0 t.line)).setCell (aH w.heap.size 1) (.string (bs t.text))).setCell (aH w.heap.size 2) (.slice x3 l.length c3)).setCell (aH w.heap.size 3) (.slice x4 n4 c4)).heap[k]?=w4.heap[k]?:=fun k I=>by
     rw[cm_ _ _ _ _ (by show k≠w.heap.size;omega),cm_ _ _ _ _ (by show k≠w.heap.size;omega),cm_ _ _ _ _ (by show k≠w.heap.size;omega),cm_ _ _ _ _ (by show k≠w.heap.size;omega)]
    refine Out.ok S (((((L.trans (n.trans K)).setCell (ck_ cL) _).setCell (ck_ cL) _).setCell (ck_ cL) _).setCell (ck_ cL) _) ((((aw.other (by omega) (by omega)).other (by omega) (by omega)).other (by omega) (by omega)).other (by omega) (by omega)) ⟨_,_,l,b,rfl,rfl,?_,aq.1,?_⟩
    ·refine PNm.keep bd (fun k I=>?_) fun k I=>⟨?_,?_⟩
     ·have h1:=I.1;have bh:W.heap.size<=k:=h1;rw[ai k (by omega),K.out.block k I.2 (by omega)]
     ·have bh:W.heap.size<=k:=I.1;omega
     ·rw[j,j,j,j];exact cn_ I.2 bb
    ·refine PKid.keep aq.2 (fun k I=>ai k (by have:=I.1;omega)) fun k I=>⟨?_,?_⟩
     ·have:=I.1;omega
     ·rw[j,j,j,j];exact I.2
def Z6:(prog.info? 159).map (fun i=>(i.zero,i.size,i.bytes))=some (some (.agg #[Iv0 0,.string (bs []),bF,bF]),4,72):=by kernel_rfl
def zA:Value->List Value
 |.agg a=>a.toList
 |v=>[v]
def kN:List Value->List Value
 |[]=>[]
 |v::l=>zA v++kN l
def XG(l:List Value)(v:aQ):kN (l++[v])=kN l++zA v:=by
 induction l with
 |nil=>simp[kN]
 |cons x l a=>simp[kN,a]
def FSl(F:bX)(w:aG)(v:aQ)(fs:List aE):Prop:=
 (v=bF/\fs=[])\/
 ∃g cap cur us,v=.slice (some (aH g 0)) fs.length cap/\F g/\w.heap[g]?=some (.cells cur 159 (0,0))/\fs.length<=cap/\cur.toList.take (fs.length*4)=kN us/\kW (CA F w) us fs
def PFl(base:Nat)(w:aG)(v:aQ)(acc:List aE):Prop:=
 ∃us F,w.ownsRow base 159 4 v acc.length (kN us)/\kW (CA F w) us acc/\∀b,F b->base<=b/\b<w.heap.size/\v.ownBlock≠some b
def PFl.nil(base:Nat)(w:aG):PFl base w (bF) []:=⟨[],fun _=>False,World.ownsRow_nil _ _ _ _,trivial,fun _ h=>h.elim⟩
def PFl.slice{base:Nat}{w:aG}{v:aQ}{acc:List aE}(h:PFl base w v acc):∃x c,v=.slice x acc.length c:=by
 obtain⟨i,F,f,_⟩:=h;rcases f.2 with ⟨a,d⟩|⟨g,b,e,a,_⟩
 ·exact⟨none,0,by rw[a,d]⟩
 ·exact⟨_,b,a⟩
def PFl.keep{base pb:Nat}{w w1:aG}{v:aQ}{acc:List aE}(h:PFl base w v acc)(c:Fr pb w w1)(j:pb<base):PFl base w1 v acc:=by
 obtain⟨g,F,d,i,e⟩:=h;refine⟨g,F,aW d fun k f=>?_,i.mono fun _ _ h=>h.keep (fun b a=>?_) dX,fun b a=>?_⟩
 ·have:=cS d k f;exact c.block k (cP d k f) (by omega)
 ·have:=e b a;have:=c.size;exact⟨by omega,by omega,(e b a).2.2⟩
 ·have:=e b a;exact c.block b this.2.1 (by omega)
def PFl.snoc{base lo:Nat}{w r o:aG}{v:aQ}{acc:List aE}{p:aQ}{a:aE}{g m:Nat}{us:List Value}{F:bX}(t:kW (CA F w) us acc)(z:∀b,F b->base<=b/\b<w.heap.size/\v.ownBlock≠some b)
 (y:CA (Btw lo w.heap.size) w p a) (A:base<=lo) (n:∀k,v.ownBlock=some k->k<lo) (q:∀k,k<w.heap.size->r.heap[k]?=w.heap[k]?) (x:w.heap.size<=r.heap.size)
 (l:o.ownsRow base 159 4 (.slice (some (aH g 0)) (acc.length+1) m) (acc.length+1) (kN us++zA p))
 (i:r.grownBy o v.ownBlock) (j:v.ownBlock=some g\/w.heap.size<=g):PFl base o (.slice (some (aH g 0)) (acc.length+1) m) (acc++[a]):=by
 have s:∀b,(F b\/Btw lo w.heap.size b)->base<=b/\b<w.heap.size/\v.ownBlock≠some b:=by
  rintro b (c|c)
  ·exact z b c
  ·exact⟨by have:=c.1;omega,c.2,fun e=>by have:=n b e;have:=c.1;omega⟩
 have d:∀b,(F b\/Btw lo w.heap.size b)->o.heap[b]?=w.heap[b]?:=fun b c=>by
  have f:=s b c;rw[i.block b (by omega) (fun e=>f.2.2 e.symm),q b f.2.1]
 refine⟨us++[p],fun b=>F b\/Btw lo w.heap.size b,?_,?_,?_⟩
 ·rw[cp_,XG];exact l
 ·exact kW.snoc (t.mono fun _ _ h=>h.keep (fun b c=>d b (cl_ c)) (fun _=>cl_)) (y.keep (fun b c=>d b (ck_ c)) (fun _=>ck_))
 ·intro b c;have f:=s b c;have:=i.size;refine⟨f.1,by omega,fun e=>?_⟩
  have u:g=b:=Option.some.inj e;rcases j with j|j
  ·exact f.2.2 (by rw[j,u])
  ·omega
def PFl.fsl{base:Nat}{w:aG}{v:aQ}{acc:List aE}(h:PFl base w v acc):FSl (Btw base w.heap.size) w v acc:=by
 obtain⟨o,F,n,k,j⟩:=h;rcases n.2 with ⟨a,e⟩|⟨g,c,d,a,e,f,l,q,p,m⟩
 ·exact cl_ ⟨a,cF_ e⟩
 ·exact ck_ ⟨g,c,d,o,a,⟨e,aC f⟩,f,l,m,k.mono fun _ _ h=>h.keep (fun _ _=>rfl) fun b i=>⟨(j b i).1,(j b i).2.1⟩⟩
def E6(a c d:Int)(b:ByteArray)(w:aG):(Instr.field 150 (.agg #[Iv0 a,.string b,Iv0 c,Iv0 d]) 0).run prog w=.ok (Iv0 a) w:=by kernel_rfl
def KL{t:bB}(h:pP t):(psort t.sort=4↔t.sort=101):=by
 unfold psort;rcases h with h|⟨h,_⟩|h|⟨h,_⟩|h|h<;>simp[h]
def G3(w:aG)(a b c d:aQ):∀j u,([a,b,c,d]:List Value)[j]?=some u->(w.alloc (.cells #[a,b,c,d] 159)).cell? ((⟨w.heap.size,0,none⟩:Addr).add j)=some u:=by
 intro j u e;match j,e with
 |0,e=>simp at e;subst e;simp[Addr.add,go_sem]
 |1,e=>simp at e;subst e;simp[Addr.add,go_sem]
 |2,e=>simp at e;subst e;simp[Addr.add,go_sem]
 |3,e=>simp at e;subst e;simp[Addr.add,go_sem]
 |j+4,e=>simp at e
def W8(l:Int)(b:ByteArray)(x y:Option Addr)(n m c d:Nat):∀u∈([Iv0 l,.string b,.slice x n c,.slice y m d]:List Value),u.oneCell'=true:=by
 intro u a;simp at a;rcases a with rfl|rfl|rfl|rfl<;>rfl
def m9(C:Ctx)(X:Nat->cB aE)(w:aG)(r:cB (List aE))(k:Nat)(v:aQ)(wr:aG):Prop:=
 Fr C.pb w wr/\∃q acc,PAt C wr q/\r=fI X C.ts k q acc/\acc.length+k<=4000/\PFl w.heap.size wr v acc
def bn_(lo:Nat)(w':aG)(v:aQ)(l:List aE):Prop:=FSl (Btw lo w'.heap.size) w' v l
def D9(C:Ctx)(X:Nat->cB aE)(HX:∀w p,PAt C w p->X p≠.error 0->Calls prog 77 #[.pointer (some ⟨C.pb,0,none⟩)] w (Out C w (X p) (b0_ w.heap.size)))(w:World)(p:Nat)(h:PAt C w p)(r:cB (List aE))(hr:r=fI X C.ts (C.ts.length+1) p [])(Q:r≠.error 0):
 Calls prog 45 #[.pointer (some ⟨C.pb,0,none⟩)] w (Out C w r (bn_ w.heap.size)):=by
 obtain⟨i0,hi,ak,aq,an⟩:=info_parts Z6;have av:=h.len;have n:=h.pb_lt;have au:=h.g_lt;have HI:Hid (m9 C X w r (C.ts.length+1) (.slice none 0 0) w):=⟨Fr.refl _ _,p,[],h,hr,by simp;omega,PFl.nil _ _⟩
 have ac:=aB Q;have ap:=aB HX;have bc:=E6;clear h hr Q HX;go_enter func45,ntmps45;go_wp2_with fail;go_loopg [3] (C.ts.length+1) (fun k v wr=>m9 C X w r k v wr)
 case atStart=>exact HI.out
 case round=>
  obtain⟨G,E,d,f,y,az,L⟩:=hrel;obtain⟨x4,c4,rfl⟩:=L.slice;have u:=aB (mM C wr E f);simp only[oT] at u;have ad:=KL (f.tsk.tk E f.lt);have I:=aB G;have H:=aB L;have U:=aB f;have be:=G.size
  obtain⟨k,rfl⟩:∃k,gk=k+1:=by
   cases gk with
   |zero=>exact absurd y ac.out
   |succ k=>exact⟨k,rfl⟩
  rw[fI] at y;clear G f L HI;have o:=aB y;have A:=aB ad;clear y ad;generalize aT C.ts E=t at*;generalize psort t.sort=ps at*;generalize pval t=pv at*;by_cases P:t.sort=101
  ·have HL:Hid (r=.ok (d,E)):=by show _=_;rw[o.out,P];rfl
   obtain rfl:ps=4:=A.out.2 P;clear P o A;go_wp2_with fail;refine u.out.mono ?_;rintro e w5 ⟨rfl,b⟩;have N:=aB b;clear b;go_wp2_with fail;go_ret;exact Out.ok HL.out (I.out.trans (Fr.below N.out)) (U.out.below N.out) (H.out.keep (Fr.below N.out) n).fsl
  ·have bd:((ps:Int) != 4)=true:=by simp;intro e;exact P (A.out.1 (by omega))
   obtain⟨rE,s⟩:∃rE,rE=X E:=⟨_,rfl⟩
   have z:Hid (r=bW rE fun i q=>fI X C.ts k q (d++[i])):=by
    show _=_
    rw[o.out,if_neg (by simpa using P),s]
    cases X E<;>rfl
   have T:X E≠.error 0:=fun e=>ac.out (by rw[z.out,s,e];rfl)
   have ar:=aB s;clear P o A s;go_wp2_with fail;refine u.out.mono ?_;rintro e w5 ⟨rfl,b⟩;have HY:=aB (ap.out w5 E (U.out.below b) T);simp only[<-ar.out] at HY;have K:=aB (I.out.trans (Fr.below b));have J:=aB (H.out.keep (Fr.below b) n);have bb:=b.size;clear b u H T I;cases rE with
   |error l=>
    have HL:Hid (r=.error l):=z.out;go_wp2_with fail;refine HY.out.mono ?_;rintro e w6 ⟨c,rfl⟩;have x:=aB (K.out.trans c);clear c;go_wp2_with fail;exact⟨rfl,Out.err HL.out x.out⟩
   |ok ao=>
    obtain⟨a6,q6⟩:=ao;have ah:Hid (r=fI X C.ts k q6 (d++[a6])):=z.out;clear z;go_wp2_with fail;refine HY.out.mono ?_;rintro e w6 ⟨c,Z,v6,rfl,ab⟩;have W:=aB ab;obtain⟨bf,ba,aj,b6,ai, -,af, -,aa⟩:=ab;obtain⟨x7,c7,rfl⟩:=af.slice;obtain⟨x8,c8,rfl⟩:=aa.slice;subst ai;obtain⟨us,F,m,D,Y⟩:=J.out.keep c n
    have ae:∀g,(Value.slice x4 d.length c4).ownBlock=some g->g<w5.heap.size:=by
     obtain⟨ay,F',O,_⟩:=J.out;exact cP O
    have S:=aB ae;have x:=aB (K.out.trans c);have V:=aB Z;have HALL:=aB (cL_ D Y);have ax:=c.size;have M:∀k,(Value.slice x4 d.length c4).ownBlock=some k->w.heap.size<=k:=cS m;clear Z c af aa HY J K D Y ae;go_wp2_with (at_builtin;refine wpList_append_lies _ (by rfl) _ _ 72 (by rfl) w.heap.size 159 i0 _ 4 72 underlying72 hi ak aq an rfl (by decide) _ _ _ (by rfl) (m.alloc _) ⟨w6.heap.size,0,none⟩ 1 1 [.int .i64 a6.line,.string (bs a6.text),.slice x7 aj.length c7,.slice x8 b6.kids.length c8] (by rfl) (by rfl) (G3 _ _ _ _ _) (W8 _ _ _ _ _ _ _ _) (by decide) (by unfold maxLen;omega) (by omega) (by simp;omega) (w6.heap.size+1) (by simp) ?_)
    intro g7 aw w9 j a B bg;have al:=aB (PFl.snoc (lo:=w5.heap.size) HALL.out.1 HALL.out.2 W.out (by omega) S.out (fun k hk=>cq_ _ _ _ hk) (by simp) j a (B.imp_right (fun e=>by omega)))
    have ag:=aB ((V.out.alloc _).grown (base:=w.heap.size) a M n au);have am:=aB ((x.out.alloc _).grown a M);clear m j a B W V x HALL S M;go_wp2_with fail;go_roundg k
    case measure=>omega
    case rel=>exact⟨am.out,q6,d++[a6],ag.out,ah.out,by simp;omega,by simpa using al.out⟩
def QG(C:Ctx)(w:aG)(h:PAt C w 0)(a:nA C.ts≠.error 0):
 Calls prog 45 #[bH C.pb] w (Out C w (nA C.ts) (bn_ w.heap.size)):=
 D9 C _ (fun w p h b=>Z8 C _ (LJ C (C.ts.length+1) (C.ts.length+1)) w p h _ rfl b) w 0 h _ rfl a
def sH(l:Nat)(w:aG):
 Calls prog 113 #[.agg #[Iv0 l]] w fun e a=>e=aZ (Iv0 l)/\Below w.heap.size w a:=by
 go_in
 go_wp2
 go_ret;exact⟨rfl,(co_ _ _).alloc cL _⟩
def Says(n:Int)(l:cN)(x:cD):Prop:=decide (0<=n)=l.contains x
def XA(l:List (List UInt8))(x:List UInt8)(g f:Nat)(w:World)(A:l.length<=100000)(_hlc:l.length<=f)(r:∀i (h:i<l.length),w.cell? ⟨g,i,none⟩=some (.string (bs l[i]))):
 Calls prog 161 #[.slice (some ⟨g,0,none⟩) l.length f,.string (bs x)] w fun e s=>(∃n:Int,e=.returned (.int .i64 n)/\Says n l x)/\s=w:=by
 have B:(bs x).toList=x:=cE x;have t:=aB r;clear r;go_enter func161,ntmps161;go_wp2_with fail;go_loop [5,8] (fun _ i=>∃k:Nat,k<=l.length/\i=.int .i64 k/\Hid (∀y∈l.take k,y≠x)) (fun _ i=>l.length-(intOf i).toNat)
 case atStart=>exact⟨0,cU_ _,rfl,fun y j=>by simp at j⟩
 case round=>
  obtain⟨k,v,rfl,m⟩:=hrel;by_cases b:k<l.length
  ·have p:=t.out k b;have a:l[k]∈l:=cG_ b
   have q:Hid (∀y∈l.take (k+1),y∈l.take k\/y=l[k]):=fun y j=>by
    rw[cK_ b] at j;rcases cu_.1 j with h|h
    ·exact cl_ h
    ·exact ck_ (cs_.1 h)
   have o:=aB a;clear a;generalize l[k]=y at*;have j:(bs y).toList=y:=cE y;cases c:(x==y)
   ·have d:Hid (∀z∈l.take (k+1),z≠x):=fun z u=>by
     rcases q.out z u with h|h
     ·exact m.out z h
     ·rw[h];intro e;rw[e] at c;simp at c
    clear m q o;go_wp2_with fail;go_round
    case rel=>exact⟨k+1,by omega,by go_num,d⟩
    case measure=>simp[intOf];omega
   ·have d:Hid (l.contains x=true):=by
     show _=_
     have e:x=y:=by simpa using c
     rw[e];simpa using o.out
    clear m q o;go_wp2_with fail;go_ret;exact⟨⟨k,rfl,by unfold Says;rw[d.out];simp⟩,rfl⟩
  ·have d:Hid (l.contains x=false):=by
    show _=_
    rw[Bool.eq_false_iff];intro h;have:=m.out x (by rw[cS_ (by omega)];simpa using h)
    exact this rfl
   clear m;go_wp2_with fail;go_ret;exact⟨⟨-1,rfl,by unfold Says;rw[d.out];decide⟩,rfl⟩
def XB(x:cD)(w:aG):
 Calls prog 161 #[bF,.string (bs x)] w fun e a=>(∃n:Int,e=aZ (Iv0 n)/\Says n [] x)/\a=w:=by
 go_in
 go_wp2_with fail;go_loop [5,8] (fun _ i=>i=Iv0 0) (fun _ _=>0)
 case atStart=>rfl
 case round=>
  subst hrel;go_wp2
  go_ret;exact⟨⟨-1,rfl,rfl⟩,rfl⟩
def wX(l:cN)(x:cD)(v:aQ)(base:Nat)(w:aG)(p:l.length<=100000)(a:w.ownsRow base 9 1 v l.length (lI l)):
 Calls prog 126 #[v,.string (bs x)] w fun e b=>e=aZ (.bool (l.contains x))/\b=w:=by
 have d:Hid (Calls prog 161 #[v,.string (bs x)] w fun e b=>(∃n:Int,e=aZ (Iv0 n)/\Says n l x)/\b=w):=by
  rcases a.2 with ⟨rfl,h⟩|⟨g,c,m,rfl,u,r,j,y,z,k⟩
  ·obtain rfl:l=[]:=cF_ h;exact XB x w
  ·refine XA l x g c w p j fun i s=>aA r ?_
   have e:(lI l)[i]?=some (.string (bs l[i])):=by simp[lI,s]
   rw[<-k,cM_,if_pos (by omega)] at e
   simpa using e
 clear a;go_in
 go_wp2_with fail;refine d.mono ?_;rintro e t ⟨⟨n,rfl,f⟩,o⟩;obtain rfl:=o.symm;clear d;have q:=aB f;clear f;go_wp2
 go_ret;exact⟨jX q,rfl⟩
def lW(fs:List aE)(x:cD):Option Nat:=
 if x==[108,101,110] then some 1 else if x==[114,101,97,100] then some 0 else (dS fs x).map fun f=>f.kids.length-1
def LE{F:bX}{w:aG}:∀{us:List Value} {fs:List aE} (k:Nat) (c:k<fs.length),kW (CA F w) us fs->
 ∃a d g b,(kN us)[k*4]?=some (Iv0 fs[k].line)/\(kN us)[k*4+1]?=some (.string (bs fs[k].text))/\(kN us)[k*4+1+1]?=some a/\(kN us)[k*4+1+1+1]?=some d/\fs[k].kids=g++[b]/\PNm F w a g/\b.op=[98,108,111,99,107]/\PKid F w d b.kids
 |[],[],k,c,_=>absurd c (Nat.not_lt_zero _)
 |_::us,f::fs,0,_,⟨⟨a,d,g,b,n,p,u,r,s⟩,_⟩=>by
  subst n;exact⟨a,d,g,b,rfl,rfl,rfl,rfl,p,u,r,s⟩
 |_::us,f::fs,k+1,c,⟨⟨a,d,g,b,n,_⟩,h⟩=>by
  subst n;obtain⟨i,l,m,q,v,t,x,y,o⟩:=LE k (by simpa using c) h
  have e:∀j,(kN (Value.agg #[Iv0 f.line,.string (bs f.text),a,d]::us))[(k+1)*4+j]?=(kN us)[k*4+j]?:=fun j=>by
   rw[kN,cN_ (by simp[zA];omega)]
   congr 1;simp[zA];omega
  exact⟨i,l,m,q,(e 0).trans v,(e 1).trans t,(e 2).trans x,(e 3).trans y,o⟩
 |[],_::_,_,_,h=>h.elim
 |_::_,[],_,c,_=>absurd c (Nat.not_lt_zero _)
def TV(F:bX)(w:aG)(g:Nat)(fs:List aE):Prop:=
 ∀k (hk:k<fs.length),∃pv bv ps b,w.cell? (aH g (k*4))=some (Iv0 fs[k].line)/\w.cell? (aH g (k*4+1))=some (.string (bs fs[k].text))/\w.cell? (aH g (k*4+1+1))=some pv/\w.cell? (aH g (k*4+1+1+1))=some bv/\fs[k].kids=ps++[b]/\PNm F w pv ps/\b.op=[98,108,111,99,107]/\PKid F w bv b.kids
def FSl.cells{F:bX}{w:aG}{v:aQ}{fs:List aE}(h:FSl F w v fs):(v=bF/\fs=[])\/∃g a,v=.slice (some (aH g 0)) fs.length a/\F g/\g<w.heap.size/\fs.length<=a/\TV F w g fs:=by
 rcases h with h|⟨g,a,s,x,p,i,d,o,q,t⟩
 ·exact cl_ h
 ·refine ck_ ⟨g,a,p,i,aC d,o,fun k m=>?_⟩
  obtain⟨l,C,n,b,y,r,z,B,f⟩:=LE k m t
  have e:∀j u,j<fs.length*4->(kN x)[j]?=some u->w.cell? (aH g j)=some u:=fun j u A c=>by
   refine aA d ?_;rw[<-q,cM_,if_pos A] at c;simpa using c
  exact⟨l,C,n,b,e _ _ (by omega) y,e _ _ (by omega) r,e _ _ (by omega) z,e _ _ (by omega) B,f⟩
def aQ_{fs:List aE}{x:cD}{k:Nat}(e:k<fs.length)(c:∀f∈fs.take k,f.text≠x)(b:fs[k].text=x):dS fs x=some fs[k]:=by
 unfold dS;have a:fs=fs.take k++fs[k]::fs.drop (k+1):=by rw[dq_,cY_]
 generalize g:fs[k]=f at*;rw[a,List.find?_append,dy_.2 (by intro z d;simpa using c z d)]
 simp[b]
def Z9{fs:List aE}{x:cD}(a:∀f∈fs,f.text≠x):dS fs x=none:=by
 unfold dS;exact dy_.2 (by intro z b;simpa using a z b)
def E8(fs:List aE)(F:bX)(x:cD)(g t:Nat)(w:aG)(hl:fs.length<=100000)(D:∀f∈fs,f.kids.length<=90000)(_hlc:fs.length<=t)(J:g<w.heap.size)(P:TV F w g fs)(G:(x==[108,101,110])=false)(E:(x==[114,101,97,100])=false):
 Calls prog 78 #[.slice (some (aH g 0)) fs.length t,.string (bs x)] w fun e S=>e=aZ (.tuple #[Iv0 ((lW fs x).getD 0:Nat),.bool (lW fs x).isSome])/\Below w.heap.size w S:=by
 have hx:(bs x).toList=x:=cE x;have V:=aB P;have H:=aB D;have Q:Hid (lW fs x=(dS fs x).map fun f=>f.kids.length-1):=by show _=_;unfold lW;rw[G,E];rfl
 clear P D;go_in
 go_wp2_with fail;go_loopg [7,15] fs.length (fun gk _ i wr=>∃k:Nat,k+gk=fs.length/\i=Iv0 k/\Below w.heap.size w wr/\Hid (∀f∈fs.take k,f.text≠x))
 case atStart=>exact⟨0,by omega,rfl,co_ _ _,fun y A=>by simp at A⟩
 case round=>
  obtain⟨k,hk,rfl,n,r⟩:=hrel;have Y:g<wr.heap.size:=cn_ J n.size;by_cases c:k<fs.length
  ·obtain⟨j,rfl⟩:∃j,gk=j+1:=⟨gk-1,by omega⟩
   obtain⟨pv,bv,K,b,O,L,M,N,a,C,U,B⟩:=V k c;obtain⟨px,pc,rfl⟩:=C.slice;obtain⟨bx,bc,rfl⟩:=B.slice;have d:∀o u,w.cell? (aH g o)=some u->wr.cell? (aH g o)=some u:=fun o u h=>(n.cell (p:=(aH g o)) J).trans h
   have d0:=d _ _ O;have d1:=d _ _ L;have d2:=d _ _ M;have d3:=d _ _ N;have l:fs[k]∈fs:=cG_ c
   have I:Hid (∀y∈fs.take (k+1),y∈fs.take k\/y=fs[k]):=fun y A=>by
    rw[cK_ c] at A;rcases cu_.1 A with h|h
    ·exact cl_ h
    ·exact ck_ (cs_.1 h)
   have m:Hid (fs[k].text=x->dS fs x=some fs[k]):=fun e=>aQ_ c r.out e
   have T:K.length+1=fs[k].kids.length:=by rw[a];simp
   have Z:=H _ l;have q:=aB n;clear O L M N C B d a l n;generalize fs[k]=f at*;have A:(bs f.text).toList=f.text:=cE _;cases v:(f.text==x)
   ·have s:Hid (∀z∈fs.take (k+1),z.text≠x):=fun z W=>by
     rcases I z W with h|h
     ·exact r.out z h
     ·rw[h];simpa using v
    clear r I m;go_wp2
    go_roundg j
    case measure=>omega
    case rel=>exact⟨k+1,by omega,by go_num,q.alloc q.size _,s⟩
   ·have s:Hid (lW fs x=some K.length):=by
     show _=_
     rw[Q.out,m.out (by simpa using v)]
     simp;omega
    clear r I m;go_wp2
    go_ret2
    rw[s.out];exact⟨rfl,q.alloc q.size _⟩
  ·have s:Hid (lW fs x=none):=by
    show _=_
    rw[Q.out,Z9 (fun f X=>r.out f (by rw[cS_ (by omega)];exact X))]
    rfl
   have q:=aB n;clear r n;go_wp2
   go_ret2
   rw[s.out];exact⟨rfl,q⟩
def E9(x:cD)(w:aG)(b:(x==[108,101,110])=false)(a:(x==[114,101,97,100])=false):
 Calls prog 78 #[bF,.string (bs x)] w fun e c=>e=aZ (.tuple #[Iv0 ((lW [] x).getD 0:Nat),.bool (lW [] x).isSome])/\Below w.heap.size w c:=by
 have f:(bs x).toList=x:=cE x;have d:Hid (lW [] x=none):=by show _=_;unfold lW;rw[b,a];rfl
 go_in
 go_wp2_with fail;go_loop [7,15] (fun _ i=>i=Iv0 0) (fun _ _=>0)
 case atStart=>rfl
 case round=>
  subst hrel;go_wp2
  go_ret2
  rw[d.out];exact⟨rfl,co_ _ _⟩
def EQ(v:aQ)(x:cD)(w:aG)(n:Nat)(fs:List aE)(c:(x=[108,101,110]/\n=1)\/(x=[114,101,97,100]/\n=0)):
 Calls prog 78 #[v,.string (bs x)] w fun e b=>e=aZ (.tuple #[Iv0 ((lW fs x).getD 0:Nat),.bool (lW fs x).isSome])/\Below w.heap.size w b:=by
 rcases c with ⟨rfl,rfl⟩|⟨rfl,rfl⟩
 ·have a:Hid (lW fs [108,101,110]=some 1):=rfl;simp only[bs];go_in
  go_wp2
  go_ret2
  rw[a.out];exact⟨rfl,co_ _ _⟩
 ·have a:Hid (lW fs [114,101,97,100]=some 0):=rfl;simp only[bs];go_in
  go_wp2
  go_ret2
  rw[a.out];exact⟨rfl,co_ _ _⟩
def ER(fs:List aE)(F:bX)(v:aQ)(x:cD)(w:aG)(l:fs.length<=100000)(i:∀f∈fs,f.kids.length<=90000)(h:FSl F w v fs):
 Calls prog 78 #[v,.string (bs x)] w fun e j=>e=aZ (.tuple #[Iv0 ((lW fs x).getD 0:Nat),.bool (lW fs x).isSome])/\Below w.heap.size w j:=by
 by_cases c:x=[108,101,110]
 ·exact EQ v x w 1 fs (cl_ ⟨c,rfl⟩)
 by_cases b:x=[114,101,97,100]
 ·exact EQ v x w 0 fs (ck_ ⟨b,rfl⟩)
 rcases h.cells with ⟨rfl,rfl⟩|⟨g,d,rfl,n,k,a,m⟩
 ·exact E9 x w (by simpa using c) (by simpa using b)
 ·exact E8 fs F x g d w l i a k m (by simpa using c) (by simpa using b)
abbrev FV(pv:aQ):Value:=.func (.func 78) #[pv] #[]
abbrev FVlen:Value:=.func (.func 57) #[] #[]
def FVl(F:bX)(w:aG)(fv:aQ)(fs:List aE):Prop:=(∃pv,fv=FV pv/\FSl F w pv fs)\/(fv=FVlen/\fs=[])
def gA:Value->Bool
 |.func (.func k) _ _=>k==57
 |_=>false
structure CK(cb tp lo:Nat)(fs:List aE)(fv:aQ)(w:aG)(seen:cN):Prop where
 blk:∃sv,w.heap[cb]?=some (.cells #[fv,sv] 120 (0,0))/\w.ownsRow tp 9 1 sv seen.length (lI seen)/\sv.ownBlock≠some cb/\tp<=cb
 fun_:FVl (Btw lo tp) w fv fs
def FSl.keep{F:bX}{w w':aG}{v:aQ}{fs:List aE}(h:FSl F w v fs)(d:∀b,F b->w'.heap[b]?=w.heap[b]?):FSl F w' v fs:=by
 rcases h with h|⟨g,c,a,i,k,e,m,j,l,f⟩
 ·exact cl_ h
 ·exact ck_ ⟨g,c,a,i,k,e,by rw[d g e];exact m,j,l,f.mono fun _ _ h=>h.keep d dX⟩
def FVl.keep{F:bX}{w w':aG}{v:aQ}{fs:List aE}(h:FVl F w v fs)(a:∀b,F b->w'.heap[b]?=w.heap[b]?):FVl F w' v fs:=by
 rcases h with ⟨e,d,c⟩|h
 ·exact cl_ ⟨e,d,c.keep a⟩
 ·exact ck_ h
def CK.lt{cb a lo:Nat}{fs:List aE}{d:aQ}{w:aG}{seen:cN}(h:CK cb a lo fs d w seen):cb<w.heap.size/\a<=cb:=by
 obtain⟨_,c,_,_,b⟩:=h.blk;exact⟨aC c,b⟩
def CK.grow{cb f lo:Nat}{fs:List aE}{g:aQ}{w w':aG}{seen:cN}(h:CK cb f lo fs g w seen)(c:Below w.heap.size w w'):CK cb f lo fs g w' seen:=by
 obtain⟨i,e,d,j⟩:=h.blk;have b:=aC e;exact⟨⟨i,by rw[c.block _ b];exact e,aW d fun k a=>c.block k (cP d k a),j⟩,h.fun_.keep fun k a=>c.block k (by have:=a.2;omega)⟩
def kE{w:aG}{b:Nat}{a v1:aQ}(h:w.heap[b]?=some (.cells #[a,v1] 120 (0,0))):
 b<w.heap.size/\w.cell? (aH b 0)=some a/\w.cell? (aH b 1)=some v1/\w.frozen? (aH b 1)=false:=
 ⟨aC h,aA h rfl,aA h rfl,aD h⟩
def lV(cb:Nat)(w:aG):Option Nat:=
 match w.heap[cb]? with
 |some (.cells cs _ _)=>(cs[1]?.getD undef).ownBlock
 |_=>none
def pO{cb:Nat}{w w':aG}(h:w'.heap[cb]?=w.heap[cb]?):lV cb w'=lV cb w:=by unfold lV;rw[h]
def nX{cb:Nat}{w:aG}{a v1:aQ}(h:w.heap[cb]?=some (.cells #[a,v1] 120 (0,0))):lV cb w=v1.ownBlock:=by unfold lV;rw[h];rfl
structure FB(cb tp:Nat)(w w':aG):Prop where
 bel:Below tp w w'
 blk:∀k,k<w.heap.size->k≠cb->lV cb w≠some k->w'.heap[k]?=w.heap[k]?
 row:∀k,lV cb w'=some k->lV cb w=some k\/w.heap.size<=k
def FB.trans{cb d:Nat}{a b c:aG}(h:FB cb d a b)(k:FB cb d b c):FB cb d a c:=by
 refine⟨h.bel.trans k.bel,fun i f j g=>?_,fun i f=>?_⟩
 ·have l:=h.bel.size;rw[k.blk i (by omega) j (fun e=>?_),h.blk i f j g]
  rcases h.row i e with e|e
  ·exact g e
  ·omega
 ·have l:=h.bel.size;rcases k.row i f with e|e
  ·exact h.row i e
  ·exact ck_ (by omega)
def FB.of_below{cb b:Nat}{w w':aG}(h:Below w.heap.size w w')(c:cb<w.heap.size/\b<=cb):FB cb b w w':=
 ⟨h.mono (by omega),fun k a _ _=>h.block k a,fun k a=>cl_ (by rw[<-pO (h.block cb c.1)];exact a)⟩
def FB.refl{cb a:Nat}(w:aG):FB cb a w w:=⟨co_ _ _,fun _ _ _ _=>rfl,fun _ h=>cl_ h⟩
def dI(cb tp lo:Nat)(fs:List aE)(fv:aQ)(w:aG)(c:bD)(e:Ending)(w':aG):Prop:=
 FB cb tp w w'/\((∃s,c=⟨s,0,0⟩/\e=aZ (.tuple #[])/\CK cb tp lo fs fv w' s)\/(c.kind≠0/\e=cT c.kind c.line))
def Stk(a b:bD):Prop:=a.kind≠0->b.kind=a.kind/\b.line=a.line
def Stk.refl(a:bD):Stk a a:=fun _=>⟨rfl,rfl⟩
def Stk.trans{a b c:bD}(h:Stk a b)(k:Stk b c):Stk a c:=fun d=>by
 obtain⟨e,i⟩:=h d;obtain⟨f,g⟩:=k (by rw[e];exact d)
 exact⟨f.trans e,g.trans i⟩
def Stk.found(s:bD)(l k:Nat):Stk s (s.found l k):=fun h=>by unfold bD.found;rw[if_neg h];exact⟨rfl,rfl⟩
def Stk.declares(s:bD)(n:aE):Stk s (Hs.declaresL s n):=by
 unfold Hs.declaresL;split
 ·exact Stk.found _ _ _
 ·exact Stk.refl _
def Stk.look(fs:List aE)(alone:Bool)(s:bD)(n:aE):Stk s (cK fs alone s n):=by
 unfold cK eO;repeat' split
 all_goals first|exact Stk.found _ _ _|exact Stk.refl _
def Stk.fold{f:bD->aE->bD}(h:∀s k,Stk s (f s k)):∀(l:List aE) (s:bD),Stk s (l.foldl f s)
 |[],s=>Stk.refl s
 |k::l,s=>(h s k).trans (Stk.fold h l (f s k))
def Stk.seen(s:bD)(x:cN):Stk s { s with seen:=x }:=fun _=>⟨rfl,rfl⟩
def Stk.walk(fs:List aE)(alone:Bool):∀(d:Nat) (n:aE) (s:bD),Stk s (aP fs alone d n s)
 |0,_,s=>Stk.refl s
 |d+1,n,s=>by
  rw[aP];split
  ·split
   ·exact((Stk.declares s _).trans (Stk.walk fs alone d _ _)).trans (Stk.seen _ _)
   ·exact Stk.refl s
  ·have h:Stk s (n.kids.foldl (fun s k=>aP fs alone d k s) (cK fs alone s n)):=(Stk.look fs alone s n).trans (Stk.fold (fun s k=>Stk.walk fs alone d k s) _ _)
   simp only;split
   ·exact h.trans (Stk.seen _ _)
   ·exact h
def dI.fault{cb d lo:Nat}{fs:List aE}{h:aQ}{w w':aG}{c1 c:bD}(g:FB cb d w w')(a:c1.kind≠0)(f:Stk c1 c):dI cb d lo fs h w c (cT c1.kind c1.line) w':=by
 obtain⟨b,e⟩:=f a;exact⟨g,ck_ ⟨by rw[b];exact a,by rw[b,e]⟩⟩
def dI.done{cb a lo:Nat}{fs:List aE}{b:aQ}{w w':aG}{c:bD}{s:cN}(e:FB cb a w w')(f:c=⟨s,0,0⟩)(d:CK cb a lo fs b w' s):dI cb a lo fs b w c (aZ (.tuple #[])) w':=⟨e,cl_ ⟨s,f,rfl,d⟩⟩
def lP{B:Nat}{a w:aG}(h:Below B a w)(n:Nat):Below B a (w.drewN n):=⟨h.os,h.tape,h.output,h.size,h.block⟩
def v8(cb p lo:Nat)(fs:List aE)(v:aQ)(w:aG)(seen:cN)(h:CK cb p lo fs v w seen)(G:seen.length<=100000)(l:Nat)(x:cD):
 Calls prog 92 #[bH cb,.agg #[Iv0 l,.string (bs x)]] w (dI cb p lo fs v w (if seen.contains x then ⟨seen,0,0⟩ else bD.found ⟨seen,0,0⟩ l 6)):=by
 have m:=h.grow ((co_ _ _).alloc cL (.cells #[Iv0 l,.string (bs x)] 155));obtain⟨F,f,a,_⟩:=m.blk;have i:=h.lt;obtain⟨y,J,C,A⟩:=kE f
 obtain⟨q,s,rfl⟩:∃q s,F=.slice q seen.length s:=by
  rcases a.2 with ⟨rfl,z⟩|⟨g,B,E,rfl,_⟩
  ·exact⟨none,0,by rw[z]⟩
  ·exact⟨_,_,rfl⟩
 have t:=aB (fun n=>wX seen x (.slice q seen.length s) p ((w.alloc (.cells #[Iv0 l,.string (bs x)] 155)).drewN n) G (aW a fun _ _=>rfl))
 have H:=aB m;have u:Hid (Below w.heap.size w (w.alloc (.cells #[Iv0 l,.string (bs x)] 155))):=(co_ _ _).alloc cL _;clear f a h m A;generalize j:(if seen.contains x then (⟨seen,0,0⟩:bD) else bD.found ⟨seen,0,0⟩ l 6)=c
 have d:=aB j;clear j;generalize seen.contains x=b at*;cases b
 ·have o:c=⟨seen,6,l⟩:=d.symm;subst o;clear d;go_in
  go_wp2_with fail;go_quiet ((go_at_call 126;exact Calls.quiet_of_same (t _)))
  go_wp2_with fail;refine(sH l _).mono ?_;rintro e K ⟨rfl,k⟩;have r:=aB k;clear k;go_wp2_with (go_at_call 79;refine(gW 6 l _).mono ?_;rintro e I ⟨rfl,D⟩;obtain rfl:=D.symm)
  exact⟨rfl,dI.fault (c1:=⟨seen,6,l⟩) (FB.of_below ((lP u _).trans (r.mono (by simp))) i) (by simp) (Stk.refl _)⟩
 ·have o:c=⟨seen,0,0⟩:=d.symm;subst o;clear d;go_in
  go_wp2_with fail;go_quiet ((go_at_call 126;exact Calls.quiet_of_same (t _)))
  go_wp2
  go_end0;exact dI.done (FB.of_below (lP u _) i) rfl (H.grow (lP (co_ _ _) _))
def sF(cb o lo:Nat)(fs:List aE)(v:aQ)(w:aG)(seen:cN)(h:CK cb o lo fs v w seen)(J:seen.length<=100000)(l:Nat)(x:cD):
 Calls prog 114 #[bH cb,.agg #[Iv0 l,.string (bs x)]] w (dI cb o lo fs v w (if gJ x || seen.contains x then bD.found ⟨seen,0,0⟩ l 6 else ⟨seen,0,0⟩)):=by
 have k:=h.grow ((co_ _ _).alloc cL (.cells #[Iv0 l,.string (bs x)] 155));obtain⟨I,f,d,_⟩:=k.blk;have i:=h.lt;obtain⟨y,L,E,B⟩:=kE f
 obtain⟨p,r,rfl⟩:∃p r,I=.slice p seen.length r:=by
  rcases d.2 with ⟨rfl,A⟩|⟨g,D,G,rfl,_⟩
  ·exact⟨none,0,by rw[A]⟩
  ·exact⟨_,_,rfl⟩
 have t:=aB (fun n=>wX seen x (.slice p seen.length r) o ((w.alloc (.cells #[Iv0 l,.string (bs x)] 155)).drewN n) J (aW d fun _ _=>rfl))
 have H:=aB k;have u:Hid (Below w.heap.size w (w.alloc (.cells #[Iv0 l,.string (bs x)] 155))):=(co_ _ _).alloc cL _;have M:(bs x).toList=x:=cE x;clear f d h k B;have C:Hid (gJ x=(x==[108,101,110] || x==[114,101,97,100])):=rfl
 generalize j:(if gJ x || seen.contains x then bD.found ⟨seen,0,0⟩ l 6 else (⟨seen,0,0⟩:bD))=c
 have a:=aB j;clear j;rw[C.out] at a;generalize seen.contains x=b at*;cases k:(x==[108,101,110])<;>cases z:(x==[114,101,97,100])<;>cases b
 all_goals
  rw[k,z] at a
  first
   |(have s:c=⟨seen,0,0⟩:=a.symm
     subst s;clear a;go_in
     go_wp2_with fail;go_quiet ((go_at_call 126;exact Calls.quiet_of_same (t _)))
     go_wp2
     go_end0;exact dI.done (FB.of_below (lP u _) i) rfl (H.grow (lP (co_ _ _) _)))
   |(have s:c=⟨seen,6,l⟩:=a.symm
     subst s;clear a;go_in
     go_wp2_with fail;go_quiet ((go_at_call 126;exact Calls.quiet_of_same (t _)))
     go_wp2_with fail;refine(sH l _).mono ?_;rintro e N ⟨rfl,m⟩;have q:=aB m;clear m;go_wp2_with (go_at_call 79;refine(gW 6 l _).mono ?_;rintro e K ⟨rfl,F⟩;obtain rfl:=F.symm)
     exact⟨rfl,dI.fault (c1:=⟨seen,6,l⟩) (FB.of_below ((lP u _).trans (q.mono (by simp))) i) (by simp) (Stk.refl _)⟩)
end Go.Proofs.YtmjbnmpamlainaaGreatDoor
