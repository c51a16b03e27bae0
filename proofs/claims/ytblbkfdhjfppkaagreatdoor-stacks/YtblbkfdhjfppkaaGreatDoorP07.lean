/- Contracts of the program: the ends of statements; calls and assignments. -/
import Derived.Test.YtblbkfdhjfppkaaGreatDoorP05
set_option linter.defProp false
set_option maxRecDepth 100000
set_option maxHeartbeats 4000000
namespace Go.Proofs.YtblbkfdhjfppkaaGreatDoor
open Hs
open _root_.Go.Proofs.Tryz
open Go.RowKit
def JJ{b c:Type}(ts:List aX)(x:List UInt8)(f:b->c)(r:bU b):aN ts x (bX f r)=bX f (aN ts x r):=by
 cases r with
 |error l=>rfl
 |ok d=>
  obtain⟨a,q⟩:=d;unfold aN bX;simp only;split<;>rfl
def PD(C:Ctx)(E:Nat->bU aC)(F:PReads C 164 E):PReads C 302 (fun p=>aN C.ts [59] (E p)):=by
 intro w p h o;have s:E p≠.error 0:=fun e=>o (by show aN _ _ _=_;rw[e];rfl)
 have A:=aB (F w p h s);have G:=h.pb_lt;show Calls _ _ _ _ (GK C w (aN C.ts [59] (E p)))
 obtain⟨r,z⟩:∃r,r=aN C.ts [59] (E p):=⟨_,rfl⟩;rw[<-z];generalize E p=I at*;have t:=aB z;clear h F o s z;cases I with
 |error l=>
  have u:Hid (r=.error l):=t.out;go_enter func302,ntmps302;go_wp2_with fail;refine A.out.mono ?_;rintro e B ⟨c,rfl⟩;have i:=aB c;clear c;go_wp2_with fail;exact⟨rfl,Out.err u.out i.out⟩
 |ok K=>
  obtain⟨a,q⟩:=K;go_enter func302,ntmps302;go_wp2_with fail;refine A.out.mono ?_;rintro e B ⟨c,n,P,rfl,j⟩;obtain⟨N,M,rfl⟩:=j.form;have f:=aB (fP C B q ⟨#[59]⟩ n);have D:(⟨#[59]⟩:ByteArray).data.toList=[59]:=rfl;rw[D] at f;have i:=aB c;have y:=aB j;have L:=c.size;clear n c j A D;cases b:aV C.ts q [59]
  ·have u:Hid (r=.error (aP C.ts q).line):=by show _=_;rw[t.out];exact xL b
   rw[b] at f;clear b t;go_wp2_with fail;refine f.out.mono ?_;rintro e J ⟨d,m⟩;obtain rfl:e=cX 4 (aP C.ts q).line:=m;have g:=aB (i.out.trans d);clear d;go_wp2_with fail;exact⟨rfl,Out.err u.out g.out⟩
  ·have u:Hid (r=.ok (a,q+1)):=by show _=_;rw[t.out];exact nS b
   rw[b] at f;clear b t;go_wp2_with fail;refine f.out.mono ?_;rintro e J ⟨d,m⟩;obtain⟨rfl,v⟩:=m;have g:=aB d;have x:=aB v;clear d v;go_wp2_with fail;go_ret;exact Out.ok u.out (i.out.trans g.out) x.out (y.out.grow (fun k O H=>g.out.block k H (by omega)) (au_ _) g.out.size)
def pC(C:Ctx)(w:World)(q:Nat)(l:List aC)(t:aX)(v:Value)(wc:World):Prop:=
 ∃cb sv,v=.pointer (some ⟨cb,0,none⟩)/\cb≠C.pb/\Fr C.pb w wc/\PAt C wc q/\wc.heap[cb]?=some (.cells #[.int .i64 t.line,.string (bs t.text),sv] 341 (0,0))/\PKid (Btw w.heap.size wc.heap.size) wc sv l
def pC.late{C:Ctx}{w b a:World}{q:Nat}{l:List aC}{t:aX}{c:Value}(e:Fr C.pb w b)(g:Fr C.pb b a)(d:PAt C a q)(f:PKid (Btw b.drew.heap.size a.heap.size) a c l):
 pC C w q l t (.pointer (some ⟨a.heap.size,0,none⟩)) (a.alloc (.cells #[.int .i64 t.line,.string (bs t.text),c] 341)):=by
 have h:=d.pb_lt;refine⟨a.heap.size,c,rfl,by omega,(e.trans g).alloc _,d.alloc _,aM _ _ rfl _,f.grow (fun k _ i=>aA_ _ _ _ i) ?_ (by simp)⟩
 exact e.size
def pC.early{C:Ctx}{w d f:World}{q:Nat}{l:List aC}{t:aX}{g:Value}{cs:Array Value}{o:Obj}(m:Fr C.pb w d)(y:Fr C.pb d f)(s:PAt C f q)(n:C.pb<d.heap.size)(x:C.g<d.heap.size)(r:PKid (Btw (d.alloc o).drew.heap.size f.heap.size) f g l)(p:f.heap[d.heap.size]?=some (.cells cs 341 (0,0)))(h:cs.size=3):
 pC C w q l t (.pointer (some ⟨d.heap.size,0,none⟩)) (((f.setCell ⟨d.heap.size,0,none⟩ (.int .i64 t.line)).setCell ⟨d.heap.size,1,none⟩ (.string (bs t.text))).setCell ⟨d.heap.size,2,none⟩ g):=by
 have e:=m.size;have j:∀(W:World) (i:Nat) (u:Value),(W.setCell ⟨d.heap.size,i,none⟩ u).heap.size=W.heap.size:=fun W i u=>by simp[World.setCell]
 refine⟨d.heap.size,g,rfl,by omega,(((m.trans y).setCell (as_ e) _).setCell (as_ e) _).setCell (as_ e) _,((s.other (by omega) (by omega)).other (by omega) (by omega)).other (by omega) (by omega),?_,?_⟩
 ·rw[aS (aS (aS p))];congr 1
  match cs,h with
  |⟨[a,b,c]⟩,_=>rfl
 ·refine r.grow (fun k A z=>?_) ?_ ?_
  ·have v:d.heap.size<k:=by have:(d.alloc o).drew.heap.size=d.heap.size+1:=by simp
                            omega
   rw[ax_ _ _ _ _ (by show k≠d.heap.size;omega),ax_ _ _ _ _ (by show k≠d.heap.size;omega),ax_ _ _ _ _ (by show k≠d.heap.size;omega)]
  ·have:(d.alloc o).drew.heap.size=d.heap.size+1:=by simp
   omega
  ·rw[j,j,j];exact au_ _
def XJ(C:Ctx)(E:Nat->bU aC)(w w0:World)(r0:bU (List aC))(nb:Nat)(t:aX)(k:Nat)(v:Value)(wr:World):Prop:=
 Fr C.pb w wr/\∃q acc,PAt C wr q/\r0=eP E C.ts k q acc/\acc.length+k<=4000/\PLst w0.heap.size wr v acc/\wr.heap[nb]?=some (.cells #[.int .i64 t.line,.string (bs t.text)] 211 (0,0))/\w0.heap.size<=wr.heap.size
def SW(C:Ctx)(E:Nat->bU aC)(HE:PReads C 164 E):PReads C 304 (eO E C.ts):=by
 obtain⟨i0,hi,da,dm,dg⟩:=info_parts CX;intro w p h bk;have ao:=aB (mL C w p h);have cr:=aB HE;have dh:=aB (PD C E HE);have dx:=h.pb_lt;have eg:=h.g_lt;have dq:=h.len;obtain⟨r,hr⟩:∃r,r=eO E C.ts p:=⟨_,rfl⟩;rw[<-hr] at bk ⊢
 rw[eO] at hr;have s:=aB hr;have bt:=aB bk;clear h HE bk hr;generalize cs:aP C.ts p=t at*;have cx:=aB cs;clear cs;cases hs:(t.sort==110)
 ·rw[hs] at ao;have Q:Hid (r=.error t.line):=by show _=_;rw[s.out,hs];show Hs.bad _ _=_;unfold Hs.bad;rw[cx.out]
  clear hs s;go_enter func304,ntmps304;go_wp2_with fail;refine ao.out.mono ?_;rintro e w7 ⟨ag,bn⟩;obtain rfl:e=cX 4 t.line:=bn;have af:=aB ag;clear ag;go_wp2_with fail;exact⟨rfl,Out.err Q.out af.out⟩
 rw[hs] at ao
 have aj:Hid (r=if aV C.ts (p+1) [40] then
  bX (fun l=>aR [100,111] t.line t.text [aR [99,97,108,108] t.line t.text l]) (aN C.ts [59] (eK E C.ts (p+1) [40] [41]))
  else
   bR (aN C.ts [61] (eP E C.ts (C.ts.length+1) (p+1) [])) fun bq q=>
    bX (fun v=>aR [115,101,116] t.line t.text (bq++[v])) (aN C.ts [59] (E q))):=by
  show _=_
  rw[s.out,hs];simp only[JJ];rfl
 clear s hs;go_enter func304,ntmps304;go_wp2_with fail;refine ao.out.mono ?_;rintro e w7 ⟨ag,bn⟩;obtain⟨rfl,bb⟩:=bn;have af:=aB (ag.alloc (.cells #[.int .i64 t.line,.string (bs t.text)] 211));have aa:=aB (dF C (w7.alloc (.cells #[.int .i64 t.line,.string (bs t.text)] 211)) (p+1) ⟨#[40]⟩ (bb.alloc _));have cm:(⟨#[40]⟩:ByteArray).data.toList=[40]:=rfl;rw[cm] at aa;have bv:Hid ((w7.alloc (.cells #[.int .i64 t.line,.string (bs t.text)] 211)).heap[w7.heap.size]?=some (.cells #[.int .i64 t.line,.string (bs t.text)] 211 (0,0))):=aM _ _ rfl _;have L:w7.heap.size≠C.pb:=by have:=bb.pb_lt;omega
 have dr:=ag.size;clear ag bb ao cm;cases i5:aV C.ts (p+1) [40];rotate_left
 ·rw[i5] at aa;obtain⟨r1,bm⟩:∃r1,r1=gX E C.ts (p+1+1) [41]:=⟨_,rfl⟩;have z:Hid (r=bX (fun l=>aR [100,111] t.line t.text [aR [99,97,108,108] t.line t.text l]) (aN C.ts [59] (aN C.ts [41] r1))):=by show _=_;rw[aj.out,i5,bm];unfold eK;rw[i5];rfl
  have ch:=aB bm;clear i5 aj bm;go_wp2_with fail;refine aa.out.mono ?_;rintro e w8 ⟨rfl,B,U⟩;have K:=aB (U.keepB bv.out L);have au:=aB (af.out.trans U);have HV:=aB (fun W (hW:PAt C W (p+1+1))=>tF C E cr.out W (p+1+1) ⟨#[41]⟩ hW r1 _ ch rfl (fun e=>bt.out (by rw[z.out,e];rfl)))
  have cg:(⟨#[41]⟩:ByteArray).data.toList=[41]:=rfl;rw[cg] at HV;have Z:=aB B;have c0:=aA K.out (i:=0) rfl;have c1:=aA K.out (i:=1) rfl;have cz:=aD K.out;have ds:=au.out.size;clear B U aa cg;cases hV:aN C.ts [41] r1 with
  |error l=>
   rw[hV] at HV;have Q:Hid (r=.error l):=by show _=_;rw[z.out,hV];rfl
   clear hV;go_wp2_with fail;go_region_law (refine thrown (.slice none 0 0) ?_ ?_;(focus go_simp;go_at_call 329;refine(HV.out _ ?_).mono ?_;(focus first|exact Z.out.drew|exact(Z.out.alloc _).drew);rintro e w9 ⟨y,rfl⟩;first|exact aW_ rfl (Out.err Q.out (au.out.drew.trans y))|exact aW_ rfl (Out.err Q.out ((au.out.alloc _).drew.trans y)));intro O)
   all_goals exact O.out.elim
  |ok lq=>
   obtain⟨l,q⟩:=lq;rw[hV] at HV;have P:Hid (r=bX (fun l=>aR [100,111] t.line t.text [aR [99,97,108,108] t.line t.text l]) (aN C.ts [59] (.ok (l,q)))):=by show _=_;rw[z.out,hV]
   clear hV z ch;have u:=Z.out.pb_lt;have ak:=Z.out.g_lt;go_wp2_with fail;go_cut [4] (fun v wc=>pC C w q l t v wc)
   case first=>
    go_region_law (go_simp;go_at_call 329;refine(HV.out _ ?_).mono ?_;(focus first|exact Z.out.drew|exact(Z.out.alloc _).drew);rintro e w9 ⟨y,ar,v,rfl,hk⟩;obtain⟨x,c,rfl⟩:=hk.slice;have HK:=aB hk;have ae:=aB ar;(first|(have cv:=y;have A:=aB (((Fr.refl C.pb w8).alloc (.cells #[.int .i64 0,.string ⟨#[]⟩,.slice none 0 0] 341)).drew.trans y);have V:=aB (y.keepB (b:=w8.heap.size) (o:=.cells #[.int .i64 0,.string ⟨#[]⟩,.slice none 0 0] 341 (0,0)) (aM w8 _ rfl _) (by omega));have z0:=aA V.out (i:=0) rfl;have z1:=aA V.out (i:=1) rfl;have z2:=aA V.out (i:=2) rfl;have y0:=aE (i:=0) V.out;have y1:=aE (i:=1) V.out;have y2:=aE (i:=2) V.out;have ea:=aD V.out;clear cv)|have A:=aB ((Fr.refl C.pb w8).drew.trans y));have ap:=aB (A.out.keepB K.out L);have d0:=aA ap.out (i:=0) rfl;have d1:=aA ap.out (i:=1) rfl;have dn:=aD ap.out;clear y ar hk)
    all_goals
     go_wp2_with fail;go_meet
     case rel=>first|exact pC.late au.out A.out ae.out HK.out|exact pC.early au.out A.out ae.out u ak HK.out V.out rfl
   case rest=>
    obtain⟨cb,sv,rfl,dk,f,X,bi,al⟩:=hcut;obtain⟨x,c,rfl⟩:=al.slice;have j:=aB (fP C wc q ⟨#[59]⟩ X);have ed:(⟨#[59]⟩:ByteArray).data.toList=[59]:=rfl;rw[ed] at j;have I:=aB f;have cq:=aB bi;have cn:=aB al;have cd:=f.size;clear f X bi al ed HV c0 c1 K cz Z;cases d:aV C.ts q [59]
    ·have Q:Hid (r=.error (aP C.ts q).line):=by show _=_;rw[P.out,xL d];rfl
     rw[d] at j;clear d P;go_wp2_with fail;refine j.out.mono ?_;rintro e df ⟨H,ba⟩;obtain rfl:e=cX 4 (aP C.ts q).line:=ba;have T:=aB (I.out.trans H);clear H;go_wp2_with fail;exact⟨rfl,Out.err Q.out T.out⟩
    ·have Q:Hid (r=.ok (aR [100,111] t.line t.text [aR [99,97,108,108] t.line t.text l],q+1)):=by show _=_;rw[P.out,nS d];rfl
     rw[d] at j;clear d P;go_wp2_with fail;refine j.out.mono ?_;rintro e df ⟨H,ba⟩;obtain⟨rfl,bg⟩:=ba;have T:=aB H;have ck:=aB bg;have ad:=aB (H.keepB cq.out dk);have m0:=aA ad.out (i:=0) rfl;have m1:=aA ad.out (i:=1) rfl;have m2:=aA ad.out (i:=2) rfl;have dt:=aD ad.out;clear H bg;go_wp2_with fail;go_ret;exact Out.ok Q.out (I.out.trans T.out) ck.out (PN.mk (as_ (as_ (as_ (as_ (as_ (as_ (as_ (as_ (as_ (as_ (as_ (as_ (as_ (as_ (as_ (as_ (as_ (⟨rfl,_,aR [99,97,108,108] t.line t.text l,rfl,rfl,rfl,rfl,rfl,rfl,rfl⟩)))))))))))))))))) (fun p hp=>by obtain rfl:=aD_.1 hp;exact Prt.ok.list (cn.out.grow (fun k h1 h2=>T.out.block k h2 (by omega)) (au_ _) T.out.size)))
 rw[i5] at aa;obtain⟨r0,bu⟩:∃r0,r0=eP E C.ts (C.ts.length+1) (p+1) []:=⟨_,rfl⟩;have z:Hid (r=bR (aN C.ts [61] r0) fun bq q=>bX (fun v=>aR [115,101,116] t.line t.text (bq++[v])) (aN C.ts [59] (E q))):=by show _=_;rw[aj.out,i5,bu];rfl
 have cc:=aB bu;have bj:Hid (r0≠.error 0):=fun e=>bt.out (by rw[z.out,e];rfl)
 clear i5 aj bu;go_wp2_with fail;refine aa.out.mono ?_;rintro e w8 ⟨rfl,B,U⟩;have u:=B.pb_lt;have ak:=B.g_lt;have K:=aB (U.keepB bv.out L);have dw:=aD K.out;have de:w.heap.size<=w8.heap.size:=(af.out.trans U).size;have HI:Hid (XJ C E w w8 r0 w7.heap.size t (C.ts.length+1) (.slice none 0 0) w8):=⟨af.out.trans U,p+1,[],B,cc.out,by simp;omega,PLst.nil _ _,K.out,au_ _⟩
 clear B U aa bv K af;go_wp2_with fail;go_loopg [5] (C.ts.length+1) (fun k v wr=>XJ C E w w8 r0 w7.heap.size t k v wr)
 case atStart=>exact HI.out
 case round=>
  obtain⟨bp,q4,M,cf,ay,dz,bw,bh,du⟩:=hrel;obtain⟨x4,c4,rfl⟩:=bw.slice;have ab:=aB (dF C wr q4 ⟨#[91]⟩ cf);have ed:(⟨#[91]⟩:ByteArray).data.toList=[91]:=rfl;rw[ed] at ab;have co:=aB bp;have bc:=aB bw;have ac:=aB bh;have ec:=bp.size
  obtain⟨k,rfl⟩:∃k,gk=k+1:=by
   cases gk with
   |zero=>exact absurd ay bj.out
   |succ k=>exact⟨k,rfl⟩
  clear bp cf bw bh HI cc ed;cases d:aV C.ts q4 [91]
  ·have s:Hid (r0=.ok (M,q4)):=by show _=_;rw[ay,eP,d];rfl
   rw[d] at ab;clear d ay;go_wp2_with fail;refine ab.out.mono ?_;rintro e w5 ⟨rfl,az,D⟩;have j:=aB (fP C w5 q4 ⟨#[61]⟩ az);have ed:(⟨#[61]⟩:ByteArray).data.toList=[61]:=rfl;rw[ed] at j;have ai:=aB (co.out.trans D);have ah:=aB (bc.out.keep D u);have S:=aB (D.keepB ac.out L);have db:=D.size;clear az D ab bc ed ac;cases d:aV C.ts q4 [61]
   ·have Q:Hid (r=.error (aP C.ts q4).line):=by show _=_;rw[z.out,s.out,xL d];rfl
    rw[d] at j;clear d z s;go_wp2_with fail;refine j.out.mono ?_;rintro e w6 ⟨m,bo⟩;obtain rfl:e=cX 4 (aP C.ts q4).line:=bo;have N:=aB (ai.out.trans m);clear m;go_wp2_with fail;exact⟨rfl,Out.err Q.out N.out⟩
   ·obtain⟨rE,J⟩:∃rE,rE=aN C.ts [59] (E (q4+1)):=⟨_,rfl⟩;have P:Hid (r=bX (fun v=>aR [115,101,116] t.line t.text (M++[v])) rE):=by show _=_;rw[z.out,s.out,nS d,J];rfl
    have am:aN C.ts [59] (E (q4+1))≠.error 0:=fun e=>bt.out (by rw[P.out,J,e];rfl)
    rw[d] at j;have bx:=aB J;clear d z s J;go_wp2_with fail;refine j.out.mono ?_;rintro e w6 ⟨m,bo⟩;obtain⟨rfl,aw⟩:=bo;have HX:=aB (dh.out w6.drew (q4+1) aw.drew am);simp only[<-bx.out] at HX;have N:=aB (ai.out.trans m);have dd:=aB (ah.out.keep m u);have G:=aB (m.keepB S.out L);have cy:=m.size;have m0:=aA G.out (i:=0) rfl;have m1:=aA G.out (i:=1) rfl;have eb:=aD G.out;clear aw m j ah S am;cases rE with
    |error l=>
     have Q:Hid (r=.error l):=P.out;go_wp2_with fail;go_region_law (refine thrown .nilIface ?_ ?_;(focus go_simp;go_at_call 302;refine HX.out.mono ?_;rintro e w9 ⟨y,rfl⟩;exact aW_ rfl (Out.err Q.out (N.out.drew.trans y)));intro O)
     all_goals exact O.out.elim
    |ok aq=>
     obtain⟨a,q⟩:=aq;have Q:Hid (r=.ok (aR [115,101,116] t.line t.text (M++[a]),q)):=P.out;clear P;go_wp2_with fail;go_region_law (go_simp;go_at_call 302;refine HX.out.mono ?_;rintro e w9 ⟨y,ar,v9,rfl,ca⟩;obtain⟨T9,ee,rfl⟩:=ca.form;have A:=aB ((Fr.refl C.pb w6).drew.trans y);have ap:=aB ca;have ae:=aB ar;have Y:=aB (A.out.keepB G.out L);have d0:=aA Y.out (i:=0) rfl;have d1:=aA Y.out (i:=1) rfl;have dn:=aD Y.out;clear y ar ca)
     all_goals (go_wp2_with fail;go_ret)
     all_goals exact Out.ok Q.out (N.out.trans A.out) ae.out (PN.mk (as_ (as_ (as_ (as_ (as_ (as_ (as_ (as_ (as_ (as_ (av_ (⟨rfl,_,_,M,a,rfl,rfl,rfl,rfl⟩)))))))))))) (fun p hp=>by
      simp only[aG_,aQ_,or_false] at hp;have dl:=A.out.size;rcases hp with rfl|rfl
      ·exact Prt.ok.list ((dd.out.keep A.out u).kid.grow (fun _ _ _=>rfl) (by omega) (au_ _))
      ·exact Prt.ok.node (ap.out.grow (fun _ _ _=>rfl) (by show _<=w6.heap.size;omega) (au_ _))))
  ·obtain⟨rE,J⟩:∃rE,rE=E (q4+1):=⟨_,rfl⟩
   have s:Hid (r0=bR (aN C.ts [93] rE) fun i q=>eP E C.ts k q (M++[i])):=by
    show _=_
    rw[ay,eP,d,J,if_pos rfl];cases aN C.ts [93] (E (q4+1))<;>rfl
   have am:E (q4+1)≠.error 0:=fun e=>bj.out (by rw[s.out,J,e];rfl)
   have bx:=aB J;rw[d] at ab;clear d ay J;go_wp2_with fail;refine ab.out.mono ?_;rintro e w5 ⟨rfl,az,D⟩;have HX:=aB (cr.out w5 (q4+1) az am);simp only[<-bx.out] at HX;have ai:=aB (co.out.trans D);have ah:=aB (bc.out.keep D u);have S:=aB (D.keepB ac.out L);have db:=D.size;clear az D ab bc am ac;cases rE with
   |error l=>
    have Q:Hid (r=.error l):=by show _=_;rw[z.out,s.out];rfl
    go_wp2_with fail;refine HX.out.mono ?_;rintro e w6 ⟨m,rfl⟩;have N:=aB (ai.out.trans m);clear m HX;go_wp2_with fail;exact⟨rfl,Out.err Q.out N.out⟩
   |ok dj=>
    obtain⟨a6,q6⟩:=dj;go_wp2_with fail;refine HX.out.mono ?_;rintro e w6 ⟨m,aw,v6,rfl,br⟩;obtain⟨T6,cw,rfl⟩:=br.form;obtain⟨vs,F,ax,bf,cl⟩:=ah.out.keep m u
    have ct:∀g,(Value.slice x4 M.length c4).ownBlock=some g->g<w5.heap.size:=by
     obtain⟨dy,F',bz,_⟩:=ah.out;exact cK bz
    have ce:=aB ct;have N:=aB (ai.out.trans m);have ci:=aB aw;have cj:=aB br;have G:=aB (m.keepB S.out L);have HALL:=aB (aW_ bf cl);have cy:=m.size;have bd:∀k,(Value.slice x4 M.length c4).ownBlock=some k->w8.heap.size<=k:=cC ax;clear aw m br HX ah ai bf cl ct S;go_wp2_with (at_builtin;refine wpList_append_lies _ (by rfl) _ _ 213 (by rfl) w8.heap.size 122 i0 _ 1 16 underlying213 hi da dm dg rfl (by decide) _ _ _ (by rfl) (ax.alloc _) ⟨w6.heap.size,0,none⟩ 1 1 [.iface T6 (.agg cw)] (by rfl) (by rfl) (rT _ _) (uY _ _) (by decide) (by unfold maxLen;omega) (by omega) (by simp;omega) (w6.heap.size+1) (by simp) ?_)
    intro g7 dv w9 an n be ef;have dc:=aB (PLst.snoc (lo:=w5.heap.size) HALL.out.1 HALL.out.2 cj.out (by omega) ce.out (fun k hk=>aA_ _ _ _ hk) (by simp) an n (be.imp_right (fun e=>by omega)))
    have ae:=aB ((ci.out.alloc _).grown (base:=w8.heap.size) n bd u ak);have A:=aB ((N.out.alloc _).grown n (fun k hk=>aF_ de (bd k hk)))
    have Y:Hid (w9.heap[w7.heap.size]?=some (.cells #[.int .i64 t.line,.string (bs t.text)] 211 (0,0))):=by
     show _=_
     rw[n.block _ (by simp;omega) (fun e=>by have:=bd _ e.symm;omega),aA_ _ _ _ (by omega)]
     exact G.out
    have dl:w8.heap.size<=w9.heap.size:=by have:=n.size;simp at this;omega
    have j:=aB (fP C w9 q6 ⟨#[93]⟩ ae.out);have ed:(⟨#[93]⟩:ByteArray).data.toList=[93]:=rfl;rw[ed] at j;clear ax an n be cj ci N HALL ce bd G ed;cases d:aV C.ts q6 [93]
    ·have Q:Hid (r=.error (aP C.ts q6).line):=by show _=_;rw[z.out,s.out,xL d];rfl
     rw[d] at j;clear d z s;go_wp2_with fail;refine j.out.mono ?_;rintro e di ⟨f,av⟩;obtain rfl:e=cX 4 (aP C.ts q6).line:=av;have I:=aB (A.out.trans f);clear f;go_wp2_with fail;exact⟨rfl,Out.err Q.out I.out⟩
    ·have aj:Hid (r0=eP E C.ts k (q6+1) (M++[a6])):=by show _=_;rw[s.out,nS d];rfl
     rw[d] at j;clear d s;go_wp2_with fail;refine j.out.mono ?_;rintro e di ⟨f,av⟩;obtain⟨rfl,X⟩:=av;have I:=aB (A.out.trans f);have cu:=aB (dc.out.keep f u);have bl:=aB (f.keepB Y.out L);have cp:=aB X;have cd:=f.size;clear f X;go_wp2_with fail;go_roundg k
     case measure=>omega
     case rel=>exact⟨I.out,q6+1,M++[a6],cp.out,aj.out,by simp;omega,by simpa using cu.out,bl.out,by omega⟩
end Go.Proofs.YtblbkfdhjfppkaaGreatDoor
