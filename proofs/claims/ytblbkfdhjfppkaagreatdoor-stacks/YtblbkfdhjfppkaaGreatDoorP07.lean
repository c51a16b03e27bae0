/- Contracts of the program: the ends of statements; calls and assignments. -/
import Derived.Test.YtblbkfdhjfppkaaGreatDoorP05
set_option linter.defProp false
set_option maxRecDepth 100000
set_option maxHeartbeats 4000000
namespace Go.Proofs.YtblbkfdhjfppkaaGreatDoor
open Hs
open Go.RowKit
def JJ{b d:Type}(ts:List aX)(x:List UInt8)(f:b->d)(r:bU b):aN ts x (bX f r)=bX f (aN ts x r):=by
 cases r with
 |error l=>rfl
 |ok c=>
  obtain⟨a,q⟩:=c;unfold aN bX;simp only;split<;>rfl
def PD(C:Ctx)(E:Nat->bU aC)(B:PReads C 164 E):PReads C 302 (fun p=>aN C.ts [59] (E p)):=by
 intro w p h s;have t:E p≠.error 0:=fun e=>s (by show aN _ _ _=_;rw[e];rfl)
 have z:=aB (B w p h t);have K:=h.pb_lt;show Calls _ _ _ _ (GK C w (aN C.ts [59] (E p)))
 obtain⟨r,x⟩:∃r,r=aN C.ts [59] (E p):=⟨_,rfl⟩;rw[<-x];generalize E p=L at*;have o:=aB x;clear h B s t x;cases L with
 |error l=>
  have v:Hid (r=.error l):=o.out;go_enter Tryz.func302,Tryz.ntmps302;go_wp2_with fail;refine z.out.mono ?_;rintro e D ⟨c,rfl⟩;have i:=aB c;clear c;go_wp2_with fail;exact⟨rfl,Out.err v.out i.out⟩
 |ok M=>
  obtain⟨a,q⟩:=M;go_enter Tryz.func302,Tryz.ntmps302;go_wp2_with fail;refine z.out.mono ?_;rintro e D ⟨c,u,O,rfl,j⟩;obtain⟨N,G,rfl⟩:=j.form;have f:=aB (fP C D q ⟨#[59]⟩ u);have F:(⟨#[59]⟩:ByteArray).data.toList=[59]:=rfl;rw[F] at f;have i:=aB c;have y:=aB j;have I:=c.size;clear u c j z F;cases b:aV C.ts q [59]
  ·have v:Hid (r=.error (aP C.ts q).line):=by show _=_;rw[o.out];exact xL b
   rw[b] at f;clear b o;go_wp2_with fail;refine f.out.mono ?_;rintro e H ⟨g,m⟩;obtain rfl:e=cX 4 (aP C.ts q).line:=m;have d:=aB (i.out.trans g);clear g;go_wp2_with fail;exact⟨rfl,Out.err v.out d.out⟩
  ·have v:Hid (r=.ok (a,q+1)):=by show _=_;rw[o.out];exact nS b
   rw[b] at f;clear b o;go_wp2_with fail;refine f.out.mono ?_;rintro e H ⟨g,m⟩;obtain⟨rfl,n⟩:=m;have d:=aB g;have A:=aB n;clear g n;go_wp2_with fail;go_ret;exact Out.ok v.out (i.out.trans d.out) A.out (y.out.grow (fun k P J=>d.out.block k J (by omega)) (au_ _) d.out.size)
def pC(C:Ctx)(w:World)(q:Nat)(l:List aC)(t:aX)(v:Value)(wc:World):Prop:=
 ∃cb sv,v=.pointer (some ⟨cb,0,none⟩)/\cb≠C.pb/\Fr C.pb w wc/\PAt C wc q/\wc.heap[cb]?=some (.cells #[.int .i64 t.line,.string (bs t.text),sv] 341 (0,0))/\PKid (Btw w.heap.size wc.heap.size) wc sv l
def pC.late{C:Ctx}{w b a:World}{q:Nat}{l:List aC}{t:aX}{c:Value}(d:Fr C.pb w b)(i:Fr C.pb b a)(e:PAt C a q)(g:PKid (Btw b.drew.heap.size a.heap.size) a c l):
 pC C w q l t (.pointer (some ⟨a.heap.size,0,none⟩)) (a.alloc (.cells #[.int .i64 t.line,.string (bs t.text),c] 341)):=by
 have h:=e.pb_lt;refine⟨a.heap.size,c,rfl,by omega,(d.trans i).alloc _,e.alloc _,aM _ _ rfl _,g.grow (fun k _ f=>aA_ _ _ _ f) ?_ (by simp)⟩
 exact d.size
def pC.early{C:Ctx}{w d f:World}{q:Nat}{l:List aC}{t:aX}{h:Value}{cs:Array Value}{o:Obj}(m:Fr C.pb w d)(p:Fr C.pb d f)(s:PAt C f q)(r:C.pb<d.heap.size)(x:C.g<d.heap.size)(v:PKid (Btw (d.alloc o).drew.heap.size f.heap.size) f h l)(n:f.heap[d.heap.size]?=some (.cells cs 341 (0,0)))(g:cs.size=3):
 pC C w q l t (.pointer (some ⟨d.heap.size,0,none⟩)) (((f.setCell ⟨d.heap.size,0,none⟩ (.int .i64 t.line)).setCell ⟨d.heap.size,1,none⟩ (.string (bs t.text))).setCell ⟨d.heap.size,2,none⟩ h):=by
 have e:=m.size;have j:∀(W:World) (i:Nat) (u:Value),(W.setCell ⟨d.heap.size,i,none⟩ u).heap.size=W.heap.size:=fun W i u=>by simp[World.setCell]
 refine⟨d.heap.size,h,rfl,by omega,(((m.trans p).setCell (as_ e) _).setCell (as_ e) _).setCell (as_ e) _,((s.other (by omega) (by omega)).other (by omega) (by omega)).other (by omega) (by omega),?_,?_⟩
 ·rw[aS (aS (aS n))];congr 1
  match cs,g with
  |⟨[a,b,c]⟩,_=>rfl
 ·refine v.grow (fun k A z=>?_) ?_ ?_
  ·have y:d.heap.size<k:=by have:(d.alloc o).drew.heap.size=d.heap.size+1:=by simp
                            omega
   rw[ax_ _ _ _ _ (by show k≠d.heap.size;omega),ax_ _ _ _ _ (by show k≠d.heap.size;omega),ax_ _ _ _ _ (by show k≠d.heap.size;omega)]
  ·have:(d.alloc o).drew.heap.size=d.heap.size+1:=by simp
   omega
  ·rw[j,j,j];exact au_ _
def XJ(C:Ctx)(E:Nat->bU aC)(w w0:World)(r0:bU (List aC))(nb:Nat)(t:aX)(k:Nat)(v:Value)(wr:World):Prop:=
 Fr C.pb w wr/\∃q acc,PAt C wr q/\r0=eP E C.ts k q acc/\acc.length+k<=4000/\PLst w0.heap.size wr v acc/\wr.heap[nb]?=some (.cells #[.int .i64 t.line,.string (bs t.text)] 211 (0,0))/\w0.heap.size<=wr.heap.size
def SW(C:Ctx)(E:Nat->bU aC)(HE:PReads C 164 E):PReads C 304 (eO E C.ts):=by
 obtain⟨i0,hi,dl,dg,cz⟩:=info_parts CX;intro w p h bl;have bb:=aB (mL C w p h);have ck:=aB HE;have dm:=aB (PD C E HE);have ef:=h.pb_lt;have eg:=h.g_lt;have dw:=h.len;obtain⟨r,hr⟩:∃r,r=eO E C.ts p:=⟨_,rfl⟩;rw[<-hr] at bl ⊢
 rw[eO] at hr;have s:=aB hr;have br:=aB bl;clear h HE bl hr;generalize cp:aP C.ts p=t at*;have da:=aB cp;clear cp;cases hs:(t.sort==110)
 ·rw[hs] at bb;have Q:Hid (r=.error t.line):=by show _=_;rw[s.out,hs];show Hs.bad _ _=_;unfold Hs.bad;rw[da.out]
  clear hs s;go_enter Tryz.func304,Tryz.ntmps304;go_wp2_with fail;refine bb.out.mono ?_;rintro e w7 ⟨aj,bn⟩;obtain rfl:e=cX 4 t.line:=bn;have ai:=aB aj;clear aj;go_wp2_with fail;exact⟨rfl,Out.err Q.out ai.out⟩
 rw[hs] at bb
 have af:Hid (r=if aV C.ts (p+1) [40] then
  bX (fun l=>aR [100,111] t.line t.text [aR [99,97,108,108] t.line t.text l]) (aN C.ts [59] (eK E C.ts (p+1) [40] [41]))
  else
   bR (aN C.ts [61] (eP E C.ts (C.ts.length+1) (p+1) [])) fun bo q=>
    bX (fun v=>aR [115,101,116] t.line t.text (bo++[v])) (aN C.ts [59] (E q))):=by
  show _=_
  rw[s.out,hs];simp only[JJ];rfl
 clear s hs;go_enter Tryz.func304,Tryz.ntmps304;go_wp2_with fail;refine bb.out.mono ?_;rintro e w7 ⟨aj,bn⟩;obtain⟨rfl,av⟩:=bn;have ai:=aB (aj.alloc (.cells #[.int .i64 t.line,.string (bs t.text)] 211));have ab:=aB (dF C (w7.alloc (.cells #[.int .i64 t.line,.string (bs t.text)] 211)) (p+1) ⟨#[40]⟩ (av.alloc _));have cf:(⟨#[40]⟩:ByteArray).data.toList=[40]:=rfl;rw[cf] at ab;have bx:Hid ((w7.alloc (.cells #[.int .i64 t.line,.string (bs t.text)] 211)).heap[w7.heap.size]?=some (.cells #[.int .i64 t.line,.string (bs t.text)] 211 (0,0))):=aM _ _ rfl _;have N:w7.heap.size≠C.pb:=by have:=av.pb_lt;omega
 have ds:=aj.size;clear aj av bb cf;cases i5:aV C.ts (p+1) [40];rotate_left
 ·rw[i5] at ab;obtain⟨r1,bv⟩:∃r1,r1=gX E C.ts (p+1+1) [41]:=⟨_,rfl⟩;have z:Hid (r=bX (fun l=>aR [100,111] t.line t.text [aR [99,97,108,108] t.line t.text l]) (aN C.ts [59] (aN C.ts [41] r1))):=by show _=_;rw[af.out,i5,bv];unfold eK;rw[i5];rfl
  have co:=aB bv;clear i5 af bv;go_wp2_with fail;refine ab.out.mono ?_;rintro e w8 ⟨rfl,D,T⟩;have K:=aB (T.keepB bx.out N);have ar:=aB (ai.out.trans T);have HV:=aB (fun W (hW:PAt C W (p+1+1))=>tF C E ck.out W (p+1+1) ⟨#[41]⟩ hW r1 _ co rfl (fun e=>br.out (by rw[z.out,e];rfl)))
  have cs:(⟨#[41]⟩:ByteArray).data.toList=[41]:=rfl;rw[cs] at HV;have Z:=aB D;have c0:=aA K.out (i:=0) rfl;have c1:=aA K.out (i:=1) rfl;have di:=aD K.out;have dq:=ar.out.size;clear D T ab cs;cases hV:aN C.ts [41] r1 with
  |error l=>
   rw[hV] at HV;have Q:Hid (r=.error l):=by show _=_;rw[z.out,hV];rfl
   clear hV;go_wp2_with fail;go_region_law (refine thrown (.slice none 0 0) ?_ ?_;(focus go_simp;go_at_call 329;refine(HV.out _ ?_).mono ?_;(focus first|exact Z.out.drew|exact(Z.out.alloc _).drew);rintro e w9 ⟨y,rfl⟩;first|exact aW_ rfl (Out.err Q.out (ar.out.drew.trans y))|exact aW_ rfl (Out.err Q.out ((ar.out.alloc _).drew.trans y)));intro J)
   all_goals exact J.out.elim
  |ok lq=>
   obtain⟨l,q⟩:=lq;rw[hV] at HV;have O:Hid (r=bX (fun l=>aR [100,111] t.line t.text [aR [99,97,108,108] t.line t.text l]) (aN C.ts [59] (.ok (l,q)))):=by show _=_;rw[z.out,hV]
   clear hV z co;have u:=Z.out.pb_lt;have aw:=Z.out.g_lt;go_wp2_with fail;go_cut [4] (fun v wc=>pC C w q l t v wc)
   case first=>
    go_region_law (go_simp;go_at_call 329;refine(HV.out _ ?_).mono ?_;(focus first|exact Z.out.drew|exact(Z.out.alloc _).drew);rintro e w9 ⟨y,ba,v,rfl,hk⟩;obtain⟨x,c,rfl⟩:=hk.slice;have HK:=aB hk;have ag:=aB ba;(first|(have cd:=y;have A:=aB (((Fr.refl C.pb w8).alloc (.cells #[.int .i64 0,.string ⟨#[]⟩,.slice none 0 0] 341)).drew.trans y);have S:=aB (y.keepB (b:=w8.heap.size) (o:=.cells #[.int .i64 0,.string ⟨#[]⟩,.slice none 0 0] 341 (0,0)) (aM w8 _ rfl _) (by omega));have z0:=aA S.out (i:=0) rfl;have z1:=aA S.out (i:=1) rfl;have z2:=aA S.out (i:=2) rfl;have y0:=aE (i:=0) S.out;have y1:=aE (i:=1) S.out;have y2:=aE (i:=2) S.out;have dx:=aD S.out;clear cd)|have A:=aB ((Fr.refl C.pb w8).drew.trans y));have au:=aB (A.out.keepB K.out N);have d0:=aA au.out (i:=0) rfl;have d1:=aA au.out (i:=1) rfl;have dc:=aD au.out;clear y ba hk)
    all_goals
     go_wp2_with fail;go_meet
     case rel=>first|exact pC.late ar.out A.out ag.out HK.out|exact pC.early ar.out A.out ag.out u aw HK.out S.out rfl
   case rest=>
    obtain⟨cb,sv,rfl,dn,f,V,bg,an⟩:=hcut;obtain⟨x,c,rfl⟩:=an.slice;have j:=aB (fP C wc q ⟨#[59]⟩ V);have ed:(⟨#[59]⟩:ByteArray).data.toList=[59]:=rfl;rw[ed] at j;have I:=aB f;have cr:=aB bg;have cm:=aB an;have cv:=f.size;clear f V bg an ed HV c0 c1 K di Z;cases d:aV C.ts q [59]
    ·have Q:Hid (r=.error (aP C.ts q).line):=by show _=_;rw[O.out,xL d];rfl
     rw[d] at j;clear d O;go_wp2_with fail;refine j.out.mono ?_;rintro e df ⟨H,ak⟩;obtain rfl:e=cX 4 (aP C.ts q).line:=ak;have Y:=aB (I.out.trans H);clear H;go_wp2_with fail;exact⟨rfl,Out.err Q.out Y.out⟩
    ·have Q:Hid (r=.ok (aR [100,111] t.line t.text [aR [99,97,108,108] t.line t.text l],q+1)):=by show _=_;rw[O.out,nS d];rfl
     rw[d] at j;clear d O;go_wp2_with fail;refine j.out.mono ?_;rintro e df ⟨H,ak⟩;obtain⟨rfl,be⟩:=ak;have Y:=aB H;have ci:=aB be;have ac:=aB (H.keepB cr.out dn);have m0:=aA ac.out (i:=0) rfl;have m1:=aA ac.out (i:=1) rfl;have m2:=aA ac.out (i:=2) rfl;have dr:=aD ac.out;clear H be;go_wp2_with fail;go_ret;exact Out.ok Q.out (I.out.trans Y.out) ci.out (PN.mk (as_ (as_ (as_ (as_ (as_ (as_ (as_ (as_ (as_ (as_ (as_ (as_ (as_ (as_ (as_ (as_ (as_ (⟨rfl,_,aR [99,97,108,108] t.line t.text l,rfl,rfl,rfl,rfl,rfl,rfl,rfl⟩)))))))))))))))))) (fun p hp=>by obtain rfl:=aD_.1 hp;exact Prt.ok.list (cm.out.grow (fun k h1 h2=>Y.out.block k h2 (by omega)) (au_ _) Y.out.size)))
 rw[i5] at ab;obtain⟨r0,ca⟩:∃r0,r0=eP E C.ts (C.ts.length+1) (p+1) []:=⟨_,rfl⟩;have z:Hid (r=bR (aN C.ts [61] r0) fun bo q=>bX (fun v=>aR [115,101,116] t.line t.text (bo++[v])) (aN C.ts [59] (E q))):=by show _=_;rw[af.out,i5,ca];rfl
 have ce:=aB ca;have bj:Hid (r0≠.error 0):=fun e=>br.out (by rw[z.out,e];rfl)
 clear i5 af ca;go_wp2_with fail;refine ab.out.mono ?_;rintro e w8 ⟨rfl,D,T⟩;have u:=D.pb_lt;have aw:=D.g_lt;have K:=aB (T.keepB bx.out N);have dt:=aD K.out;have dj:w.heap.size<=w8.heap.size:=(ai.out.trans T).size;have HI:Hid (XJ C E w w8 r0 w7.heap.size t (C.ts.length+1) (.slice none 0 0) w8):=⟨ai.out.trans T,p+1,[],D,ce.out,by simp;omega,PLst.nil _ _,K.out,au_ _⟩
 clear D T ab bx K ai;go_wp2_with fail;go_loopg [5] (C.ts.length+1) (fun k v wr=>XJ C E w w8 r0 w7.heap.size t k v wr)
 case atStart=>exact HI.out
 case round=>
  obtain⟨bu,q4,M,cg,ay,dy,bq,bi,du⟩:=hrel;obtain⟨x4,c4,rfl⟩:=bq.slice;have aa:=aB (dF C wr q4 ⟨#[91]⟩ cg);have ed:(⟨#[91]⟩:ByteArray).data.toList=[91]:=rfl;rw[ed] at aa;have cc:=aB bu;have bc:=aB bq;have ad:=aB bi;have ea:=bu.size
  obtain⟨k,rfl⟩:∃k,gk=k+1:=by
   cases gk with
   |zero=>exact absurd ay bj.out
   |succ k=>exact⟨k,rfl⟩
  clear bu cg bq bi HI ce ed;cases d:aV C.ts q4 [91]
  ·have s:Hid (r0=.ok (M,q4)):=by show _=_;rw[ay,eP,d];rfl
   rw[d] at aa;clear d ay;go_wp2_with fail;refine aa.out.mono ?_;rintro e w5 ⟨rfl,al,G⟩;have j:=aB (fP C w5 q4 ⟨#[61]⟩ al);have ed:(⟨#[61]⟩:ByteArray).data.toList=[61]:=rfl;rw[ed] at j;have ah:=aB (cc.out.trans G);have ae:=aB (bc.out.keep G u);have X:=aB (G.keepB ad.out N);have de:=G.size;clear al G aa bc ed ad;cases d:aV C.ts q4 [61]
   ·have Q:Hid (r=.error (aP C.ts q4).line):=by show _=_;rw[z.out,s.out,xL d];rfl
    rw[d] at j;clear d z s;go_wp2_with fail;refine j.out.mono ?_;rintro e w6 ⟨m,bm⟩;obtain rfl:e=cX 4 (aP C.ts q4).line:=bm;have P:=aB (ah.out.trans m);clear m;go_wp2_with fail;exact⟨rfl,Out.err Q.out P.out⟩
   ·obtain⟨rE,L⟩:∃rE,rE=aN C.ts [59] (E (q4+1)):=⟨_,rfl⟩;have O:Hid (r=bX (fun v=>aR [115,101,116] t.line t.text (M++[v])) rE):=by show _=_;rw[z.out,s.out,nS d,L];rfl
    have ao:aN C.ts [59] (E (q4+1))≠.error 0:=fun e=>br.out (by rw[O.out,L,e];rfl)
    rw[d] at j;have bz:=aB L;clear d z s L;go_wp2_with fail;refine j.out.mono ?_;rintro e w6 ⟨m,bm⟩;obtain⟨rfl,ax⟩:=bm;have HX:=aB (dm.out w6.drew (q4+1) ax.drew ao);simp only[<-bz.out] at HX;have P:=aB (ah.out.trans m);have dk:=aB (ae.out.keep m u);have B:=aB (m.keepB X.out N);have cw:=m.size;have m0:=aA B.out (i:=0) rfl;have m1:=aA B.out (i:=1) rfl;have ee:=aD B.out;clear ax m j ae X ao;cases rE with
    |error l=>
     have Q:Hid (r=.error l):=O.out;go_wp2_with fail;go_region_law (refine thrown .nilIface ?_ ?_;(focus go_simp;go_at_call 302;refine HX.out.mono ?_;rintro e w9 ⟨y,rfl⟩;exact aW_ rfl (Out.err Q.out (P.out.drew.trans y)));intro J)
     all_goals exact J.out.elim
    |ok aq=>
     obtain⟨a,q⟩:=aq;have Q:Hid (r=.ok (aR [115,101,116] t.line t.text (M++[a]),q)):=O.out;clear O;go_wp2_with fail;go_region_law (go_simp;go_at_call 302;refine HX.out.mono ?_;rintro e w9 ⟨y,ba,v9,rfl,bk⟩;obtain⟨T9,dz,rfl⟩:=bk.form;have A:=aB ((Fr.refl C.pb w6).drew.trans y);have au:=aB bk;have ag:=aB ba;have U:=aB (A.out.keepB B.out N);have d0:=aA U.out (i:=0) rfl;have d1:=aA U.out (i:=1) rfl;have dc:=aD U.out;clear y ba bk)
     all_goals (go_wp2_with fail;go_ret)
     all_goals exact Out.ok Q.out (P.out.trans A.out) ag.out (PN.mk (as_ (as_ (as_ (as_ (as_ (as_ (as_ (as_ (as_ (as_ (av_ (⟨rfl,_,_,M,a,rfl,rfl,rfl,rfl⟩)))))))))))) (fun p hp=>by
      simp only[aG_,aQ_,or_false] at hp;have dd:=A.out.size;rcases hp with rfl|rfl
      ·exact Prt.ok.list ((dk.out.keep A.out u).kid.grow (fun _ _ _=>rfl) (by omega) (au_ _))
      ·exact Prt.ok.node (au.out.grow (fun _ _ _=>rfl) (by show _<=w6.heap.size;omega) (au_ _))))
  ·obtain⟨rE,L⟩:∃rE,rE=E (q4+1):=⟨_,rfl⟩
   have s:Hid (r0=bR (aN C.ts [93] rE) fun i q=>eP E C.ts k q (M++[i])):=by
    show _=_
    rw[ay,eP,d,L,if_pos rfl];cases aN C.ts [93] (E (q4+1))<;>rfl
   have ao:E (q4+1)≠.error 0:=fun e=>bj.out (by rw[s.out,L,e];rfl)
   have bz:=aB L;rw[d] at aa;clear d ay L;go_wp2_with fail;refine aa.out.mono ?_;rintro e w5 ⟨rfl,al,G⟩;have HX:=aB (ck.out w5 (q4+1) al ao);simp only[<-bz.out] at HX;have ah:=aB (cc.out.trans G);have ae:=aB (bc.out.keep G u);have X:=aB (G.keepB ad.out N);have de:=G.size;clear al G aa bc ao ad;cases rE with
   |error l=>
    have Q:Hid (r=.error l):=by show _=_;rw[z.out,s.out];rfl
    go_wp2_with fail;refine HX.out.mono ?_;rintro e w6 ⟨m,rfl⟩;have P:=aB (ah.out.trans m);clear m HX;go_wp2_with fail;exact⟨rfl,Out.err Q.out P.out⟩
   |ok cx=>
    obtain⟨a6,q6⟩:=cx;go_wp2_with fail;refine HX.out.mono ?_;rintro e w6 ⟨m,ax,v6,rfl,bp⟩;obtain⟨T6,db,rfl⟩:=bp.form;obtain⟨vs,F,ap,bf,cn⟩:=ae.out.keep m u
    have cq:∀g,(Value.slice x4 M.length c4).ownBlock=some g->g<w5.heap.size:=by
     obtain⟨ec,F',bt,_⟩:=ae.out;exact cK bt
    have cu:=aB cq;have P:=aB (ah.out.trans m);have cl:=aB ax;have ct:=aB bp;have B:=aB (m.keepB X.out N);have HALL:=aB (aW_ bf cn);have cw:=m.size;have bd:∀k,(Value.slice x4 M.length c4).ownBlock=some k->w8.heap.size<=k:=cC ap;clear ax m bp HX ae ah bf cn cq X;go_wp2_with (at_builtin;refine wpList_append_lies _ (by rfl) _ _ 213 (by rfl) w8.heap.size 122 i0 _ 1 16 Tryz.underlying213 hi dl dg cz rfl (by decide) _ _ _ (by rfl) (ap.alloc _) ⟨w6.heap.size,0,none⟩ 1 1 [.iface T6 (.agg db)] (by rfl) (by rfl) (rT _ _) (uY _ _) (by decide) (by unfold maxLen;omega) (by omega) (by simp;omega) (w6.heap.size+1) (by simp) ?_)
    intro g7 dv w9 am n bh eb;have cy:=aB (PLst.snoc (lo:=w5.heap.size) HALL.out.1 HALL.out.2 ct.out (by omega) cu.out (fun k hk=>aA_ _ _ _ hk) (by simp) am n (bh.imp_right (fun e=>by omega)))
    have ag:=aB ((cl.out.alloc _).grown (base:=w8.heap.size) n bd u aw);have A:=aB ((P.out.alloc _).grown n (fun k hk=>aF_ dj (bd k hk)))
    have U:Hid (w9.heap[w7.heap.size]?=some (.cells #[.int .i64 t.line,.string (bs t.text)] 211 (0,0))):=by
     show _=_
     rw[n.block _ (by simp;omega) (fun e=>by have:=bd _ e.symm;omega),aA_ _ _ _ (by omega)]
     exact B.out
    have dd:w8.heap.size<=w9.heap.size:=by have:=n.size;simp at this;omega
    have j:=aB (fP C w9 q6 ⟨#[93]⟩ ag.out);have ed:(⟨#[93]⟩:ByteArray).data.toList=[93]:=rfl;rw[ed] at j;clear ap am n bh ct cl P HALL cu bd B ed;cases d:aV C.ts q6 [93]
    ·have Q:Hid (r=.error (aP C.ts q6).line):=by show _=_;rw[z.out,s.out,xL d];rfl
     rw[d] at j;clear d z s;go_wp2_with fail;refine j.out.mono ?_;rintro e dh ⟨f,az⟩;obtain rfl:e=cX 4 (aP C.ts q6).line:=az;have I:=aB (A.out.trans f);clear f;go_wp2_with fail;exact⟨rfl,Out.err Q.out I.out⟩
    ·have af:Hid (r0=eP E C.ts k (q6+1) (M++[a6])):=by show _=_;rw[s.out,nS d];rfl
     rw[d] at j;clear d s;go_wp2_with fail;refine j.out.mono ?_;rintro e dh ⟨f,az⟩;obtain⟨rfl,V⟩:=az;have I:=aB (A.out.trans f);have ch:=aB (cy.out.keep f u);have bw:=aB (f.keepB U.out N);have cj:=aB V;have cv:=f.size;clear f V;go_wp2_with fail;go_roundg k
     case measure=>omega
     case rel=>exact⟨I.out,q6+1,M++[a6],cj.out,af.out,by simp;omega,by simpa using ch.out,bw.out,by omega⟩
end Go.Proofs.YtblbkfdhjfppkaaGreatDoor
