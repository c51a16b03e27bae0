/- Contracts of the program: the parts of an expression. -/
import Derived.Test.YtddnpoiiimjpcaaGreatDoorP09
set_option linter.defProp false
set_option maxRecDepth 100000
set_option maxHeartbeats 4000000
namespace Go.Proofs.YtddnpoiiimjpcaaGreatDoor
open Hs
open Go.RowKit
structure PS(C:Ctx)(w:aH)(t:aX)(tb:Nat)(W:aH)(p:Nat):Prop where
 fr:Fr C.pb w W
 at_:PAt C W p
 tk:W.heap[tb]?=some (.cells #[Iv0 (psort t.sort),.string (bs t.text),Iv0 (pval t),Iv0 t.line] 174 (0,0))
 pl:W.heap[tb+1]?=some (.cells #[Iv0 t.line] 177 (0,0))
 lo:w.heap.size<=tb
 np:C.pb<tb
 ng:C.g<tb
def PS.keep{C:Ctx}{w W c:aH}{t:aX}{a p q:Nat}(h:PS C w t a W p)(b:Fr C.pb W c)(d:PAt C c q):PS C w t a c q:=
 ⟨h.fr.trans b,d,by rw[b.block a (aD h.tk) (by have:=h.np;omega)];exact h.tk,by rw[b.block (a+1) (aD h.pl) (by have:=h.np;omega)];exact h.pl,h.lo,h.np,h.ng⟩
def PS.cells{C:Ctx}{w W:aH}{t:aX}{a p:Nat}(h:PS C w t a W p):
 a+1<W.heap.size/\W.cell? (aL a 0)=some (Iv0 (psort t.sort))/\W.cell? (aL a 1)=some (.string (bs t.text))/\W.cell? (aL a 2)=some (Iv0 (pval t))/\W.cell? (aL a 3)=some (Iv0 t.line)/\W.cell? (aL (a+1) 0)=some (Iv0 t.line)/\C.pb<W.heap.size/\W.cell? (aL C.pb 1)=some (Iv0 p)/\W.frozen? (aL C.pb 1)=false:=
 ⟨aD h.pl,aA h.tk rfl,aA h.tk rfl,aA h.tk rfl,aA h.tk rfl,aA h.pl rfl,h.at_.pb_lt,aA h.at_.blk rfl,aE h.at_.blk⟩
def thrown{P:Program}{b:Array Oper}{o:Oper}{a:Act}{w:aH}{K:Act->World->Prop}{Q:Exit->Act->World->Prop}{E:Prop}(c:aQ)
 (h:if Region.wanted o (yielded b a.tmps)=true then Oper.wp P o a w K Q else E) (_d:Hid False->K (a.put o.dst c) w):
 if Region.wanted o (yielded b a.tmps)=true then Oper.wp P o a w K Q else E:=h
def Fr.keepB{pb b:Nat}{w w':aH}{o:Obj}(a:Fr pb w w')(h:w.heap[b]?=some o)(e:b≠pb):w'.heap[b]?=some o:=by
 have c:b<w.heap.size:=by
  by_cases d:b<w.heap.size
  ·exact d
  ·rw[r8 (by omega)] at h;cases h
 rw[a.block b c e];exact h
def PKid.slice{F:cC}{w:aH}{v:aQ}{l:List aC}(h:PKid F w v l):∃x c,v=.slice x l.length c:=by
 rcases h with ⟨a,d⟩|⟨g,e,b,f,a,_⟩
 ·exact⟨none,0,by rw[a,d];rfl⟩
 ·exact⟨_,_,a⟩
def K9{t:aX}(h:nV t):(psort t.sort=2↔t.sort=48)/\(psort t.sort=3↔t.sort=115):=by
 unfold psort;rcases h with h|⟨h,_⟩|h|⟨h,_⟩|h|h<;>simp[h]
def MD(C:Ctx)(E:Nat->bX aC)(HE:PReads C 88 E):PReads C 235 (eA E C.ts):=by
 intro w p h bc;have HN:=aB (mG C w p h);simp only[nU] at HN;have br:=aB (fun w1 (hb:Below w.heap.size w w1)=>mI C w1 p (h.below hb))
 have bg:=h.tsk.tk p h.lt;have HS:=aB (K9 bg);have HT:Hid ((aR C.ts p).sort≠101->p+1<C.ts.length):=fun e=>h.all.ok.next p h.lt e
 have cs:p<=3000:=by have:=h.lt;have:=h.len;omega
 have H:=aB h;have bm:=aB HE;have aw:=aB bg;have cr:=h.pb_lt;have cz:=h.g_lt;obtain⟨r,hr⟩:∃r,r=eA E C.ts p:=⟨_,rfl⟩;rw[<-hr] at bc ⊢
 rw[eA] at hr;have HR:=aB hr;have bk:=aB bc;clear h HE bc bg hr;generalize ca:aR C.ts p=t at*;have be:=aB ca;clear ca;go_in
 go_wp2_with fail;refine HN.mono ?_;rintro e w1 ⟨rfl,cd⟩;have ay:=aB cd;clear cd;go_wp2_with fail;refine(br w1 ay).mono ?_;rintro e w2 ⟨rfl,bt⟩
 have bi:PS C w t w2.heap.size ((w2.alloc (.cells #[Iv0 (psort t.sort),.string (bs t.text),Iv0 (pval t),Iv0 t.line] 174)).alloc (.cells #[Iv0 t.line] 177)) p:=by
  have hb:=ay.trans (bt.mono ay.size);have ch:=hb.size;refine⟨((Fr.below hb).alloc _).alloc _,((H.below hb).alloc _).alloc _,?_,?_,ch,by omega,by omega⟩
  ·exact oM _ _ (by simp) _ (aU _ _ rfl _)
  ·exact aU _ _ (by simp) _
 have z:=aB bi;obtain⟨k0,k1,k2,k3,k4,k5,k6,k7,k8⟩:=bi.cells;clear bi bt ay br HN;go_upto_region 2 with fail
 generalize cq:(w2.alloc (.cells #[Iv0 (psort t.sort),.string (bs t.text),Iv0 (pval t),Iv0 t.line] 174)).alloc (.cells #[Iv0 t.line] 177)=W at*;generalize cp:psort t.sort=ps at*;have cv:=z.np;have cx:¬w2.heap.size=C.pb:=by omega
 have cw:¬C.pb=w2.heap.size:=by omega
 by_cases ap:ps=2
 ·have O:t.sort=48:=HS.1.1 ap;subst ap
  obtain⟨kk,bd⟩:∃kk,dK 0 t.text=some kk:=by
   rcases aw with h|⟨h,_⟩|h|⟨h,h2⟩|h|h
   ·omega
   ·omega
   ·omega
   ·exact Option.isSome_iff_exists.1 h2
   ·omega
   ·omega
  have V:Hid (pval t=kk):=by show _=_;unfold pval;rw[if_pos O,bd];rfl
  have d:Hid (r=.ok (aS [UInt8.ofNat t.sort] t.line t.text [],p+1)):=by show _=_;rw[HR.out,O];rfl
  have Q:Hid (Shape 279 #[Iv0 t.line,Iv0 (pval t)] (aS [UInt8.ofNat t.sort] t.line t.text []) []):=Y4 ⟨rfl,kk,by rw[V.out];rfl,by rw[O];rfl,bd,rfl,rfl⟩
  have hm:=z.at_.move (Y8 _ _) (p+1) (HT (by omega))
  have HM:=aB (j6 (z.fr.trans hm.2) hm.1);clear O bd V aw hm HR;go_wp2
  go_ret;exact Out.ok d HM.1 HM.2 (PN.mk Q (fun p hp=>by cases hp))
 by_cases T:ps=3
 ·have O:t.sort=115:=HS.2.1 T;subst T;have d:Hid (r=.ok (aS [UInt8.ofNat t.sort] t.line t.text [],p+1)):=by show _=_;rw[HR.out,O];rfl
  have Q:Hid (Shape 280 #[Iv0 t.line,.string (bs t.text)] (aS [UInt8.ofNat t.sort] t.line t.text []) []):=Y3 (Y4 ⟨rfl,rfl,by rw[O];rfl,rfl,rfl⟩)
  have hm:=z.at_.move (Y8 _ _) (p+1) (HT (by omega))
  have HM:=aB (j6 (z.fr.trans hm.2) hm.1);clear O aw hm HR ap;go_wp2
  go_ret;exact Out.ok d HM.1 HM.2 (PN.mk Q (fun p hp=>by cases hp))
 have cy:((ps:Int)==2)=false:=by simp;omega
 have co:((ps:Int)==3)=false:=by simp;omega
 have az:(t.sort==48 || t.sort==115)=false:=by
  have h1:t.sort≠48:=fun e=>ap (HS.1.2 e)
  have h2:t.sort≠115:=fun e=>T (HS.2.2 e)
  simp[h1,h2]
 have aa:Hid (r=if aV C.ts p [116,114,117,101] || aV C.ts p [102,97,108,115,101] then .ok (aS [98,111,111,108] t.line t.text [],p+1)
  else if aV C.ts p [40] then aM C.ts [41] (E (p+1))
  else if aV C.ts p [91] then bZ (aS [108,105,115,116] t.line t.text) (eR E C.ts p [91] [93])
  else if t.sort==110 then
   if aV C.ts (p+1) [40] then bZ (aS [99,97,108,108] t.line t.text) (eR E C.ts (p+1) [40] [41])
   else .ok (aS [110,97,109,101] t.line t.text [],p+1)
  else Hs.bad C.ts p):=by show _=_;rw[HR.out,az];rfl
 have ag:Hid (∀x,aV C.ts p x=true->t.text=x):=fun x hx=>by
  unfold aV at hx;rw[be.out] at hx;simp only[j3,beq_iff_eq] at hx;exact hx.2
 clear HR az ap T HS aw;have X:=aB (dJ C W p ⟨#[116,114,117,101]⟩ z.at_);have cb:(⟨#[116,114,117,101]⟩:ByteArray).data.toList=[116,114,117,101]:=rfl;rw[cb] at X;clear cb;cases i1:aV C.ts p [116,114,117,101];rotate_left
 ·have d:Hid (r=.ok (aS [98,111,111,108] t.line t.text [],p+1)):=by show _=_;rw[aa.out,i1];rfl
  have Q:Hid (Shape 282 #[Iv0 t.line,.bool true] (aS [98,111,111,108] t.line t.text []) []):=Y3 (Y3 (Y4 ⟨rfl,by show _= #[_,Value.bool (t.text==_)];rw[ag.out _ i1];rfl,rfl,rfl,rfl⟩))
  rw[i1] at X;clear i1 aa ag;go_wp2_with fail;refine X.mono ?_;rintro e w3 ⟨rfl,bb,ah⟩;have m:=z.keep ah bb;have o:=aB m;clear k1 k2 k3 k4 k5 k6 k7 k8 bb ah;obtain⟨k0,k1,k2,k3,k4,k5,k6,k7,k8⟩:=m.cells;clear m;go_wp2
  go_ret;exact Out.ok d o.fr o.at_ (PN.mk Q (fun p hp=>by cases hp))
 rw[i1] at X;go_wp2_with fail;refine X.mono ?_;rintro e w3 ⟨rfl,an,ah⟩;have m:=z.keep ah an;have ab:=aB (dJ C w3 p ⟨#[102,97,108,115,101]⟩ an);have bo:(⟨#[102,97,108,115,101]⟩:ByteArray).data.toList=[102,97,108,115,101]:=rfl;rw[bo] at ab;have o:=aB m;clear bo an ah m z X k0 k1 k2 k3 k4 k5 k6 k7 k8;cases i2:aV C.ts p [102,97,108,115,101];rotate_left
 ·have d:Hid (r=.ok (aS [98,111,111,108] t.line t.text [],p+1)):=by show _=_;rw[aa.out,i1,i2];rfl
  have Q:Hid (Shape 282 #[Iv0 t.line,.bool false] (aS [98,111,111,108] t.line t.text []) []):=Y3 (Y3 (Y4 ⟨rfl,by show _= #[_,Value.bool (t.text==_)];rw[ag.out _ i2];rfl,rfl,rfl,rfl⟩))
  rw[i2] at ab;clear i1 i2 aa ag;go_wp2_with fail;refine ab.mono ?_;rintro e w4 ⟨rfl,n,aj⟩;have u:=o.keep aj n;have g:=aB u;clear n aj;obtain⟨k0,k1,k2,k3,k4,k5,k6,k7,k8⟩:=u.cells;clear u;go_wp2
  go_ret;exact Out.ok d g.fr g.at_ (PN.mk Q (fun p hp=>by cases hp))
 rw[i2] at ab
 have av:Hid (r=if aV C.ts p [40] then aM C.ts [41] (E (p+1))
  else if aV C.ts p [91] then bZ (aS [108,105,115,116] t.line t.text) (eR E C.ts p [91] [93])
  else if t.sort==110 then
   if aV C.ts (p+1) [40] then bZ (aS [99,97,108,108] t.line t.text) (eR E C.ts (p+1) [40] [41])
   else .ok (aS [110,97,109,101] t.line t.text [],p+1)
  else Hs.bad C.ts p):=by show _=_;rw[aa.out,i1,i2];rfl
 clear aa i1 i2 ag;go_wp2_with fail;refine ab.mono ?_;rintro e w4 ⟨rfl,n,aj⟩;have u:=o.keep aj n;have P:=aB (dJ C w4 p ⟨#[40]⟩ n);have bq:(⟨#[40]⟩:ByteArray).data.toList=[40]:=rfl;rw[bq] at P;have g:=aB u;clear bq n aj u o ab;cases i3:aV C.ts p [40];rotate_left
 ·have A:Hid (r=aM C.ts [41] (E (p+1))):=by show _=_;rw[av.out,i3];rfl
  rw[i3] at P;clear i3 av;go_wp2_with fail;refine P.mono ?_;rintro e w5 ⟨rfl,s,ai⟩;have bp:E (p+1)≠.error 0:=fun e=>bk (by rw[A.out,e];rfl)
  have HX:=aB (bm w5 (p+1) s bp);have bl:=aB (g.fr.trans ai);have cu:=bl.size;clear s ai bp P g;go_wp2_with fail;refine HX.mono ?_;rintro e w6 hO;cases ar:E (p+1) with
  |error l=>
   rw[ar] at hO;obtain⟨f,rfl⟩:=hO;have d:Hid (r=.error l):=by show _=_;rw[A.out,ar];rfl
   have B:=aB (bl.trans f);clear f HX;go_wp2_with fail;exact⟨rfl,Out.err d B⟩
  |ok aq=>
   obtain⟨a,q⟩:=aq;rw[ar] at hO;obtain⟨f,bw,v6,rfl,bx⟩:=hO;have ax:=aB (gB C w6 q ⟨#[41]⟩ bw);have ao:(⟨#[41]⟩:ByteArray).data.toList=[41]:=rfl;rw[ao] at ax;have B:=aB (bl.trans f);have ck:=aB bx;have ct:=f.size;clear bw f bx HX ao;go_wp2_with fail;refine ax.mono ?_;rintro e w7 ⟨b,G⟩;cases Y:aV C.ts q [41]
   ·rw[Y] at G;obtain rfl:e=dF 4 (aR C.ts q).line:=G;have d:Hid (r=.error (aR C.ts q).line):=by show _=_;rw[A.out,ar];exact wK Y
    have y:=aB (B.trans b);clear b ax Y;go_wp2_with fail;exact⟨rfl,Out.err d y⟩
   ·rw[Y] at G;obtain⟨rfl,ak⟩:=G;have d:Hid (r=.ok (a,q+1)):=by show _=_;rw[A.out,ar];exact nK Y
    have y:=aB (B.trans b);have cg:=aB ak;have cm:=aB (ck.grow (lo':=w.heap.size) (hi':=w7.heap.size) (fun k h1 h2=>b.block k h2 (by omega)) (by omega) b.size)
    clear b ax Y ak;go_wp2
    go_ret;exact Out.ok d y cg cm
 rw[i3] at P
 have A:Hid (r=if aV C.ts p [91] then bZ (aS [108,105,115,116] t.line t.text) (eR E C.ts p [91] [93])
  else if t.sort==110 then
   if aV C.ts (p+1) [40] then bZ (aS [99,97,108,108] t.line t.text) (eR E C.ts (p+1) [40] [41])
   else .ok (aS [110,97,109,101] t.line t.text [],p+1)
  else Hs.bad C.ts p):=by show _=_;rw[av.out,i3];rfl
 clear av i3;go_wp2_with fail;refine P.mono ?_;rintro e w5 ⟨rfl,s,ai⟩;have ba:=g.keep ai s;have K:=aB (dJ C w5 p ⟨#[91]⟩ s);have ao:(⟨#[91]⟩:ByteArray).data.toList=[91]:=rfl;rw[ao] at K;have S:=aB ba;clear ao s ai ba g P;cases i4:aV C.ts p [91];rotate_left
 ·obtain⟨r1,M⟩:∃r1,r1=iB E C.ts (p+1) [93]:=⟨_,rfl⟩;have F:Hid (r=bZ (aS [108,105,115,116] t.line t.text) (aM C.ts [93] r1)):=by show _=_;rw[A.out,i4,M];unfold eR;rw[i4];rfl
  have ac:=aB M;rw[i4] at K;clear i4 A M;go_wp2_with fail;refine K.mono ?_;rintro e w6 ⟨rfl,j,f⟩;have af:=S.keep f j;have V:=aB (sL C E bm w6.drew (p+1) ⟨#[93]⟩ j.drew r1 _ ac rfl (fun e=>bk (by rw[F.out,e];rfl)))
  have al:(⟨#[93]⟩:ByteArray).data.toList=[93]:=rfl;rw[al] at V;have ad:=aB af;obtain⟨k0,k1,k2,k3,k4,k5,k6,k7,k8⟩:=af.cells;clear j f af al S K k1 k2 k3 k4 k7 k8;cases hV:aM C.ts [93] r1 with
  |error l=>
   rw[hV] at V;have d:Hid (r=.error l):=by show _=_;rw[F.out,hV];rfl
   clear hV;go_wp2_with fail;go_region_law (refine thrown (bV) ?_ ?_;(focus go_simp;go_at_call 221;refine V.mono ?_;rintro e w7 ⟨b,rfl⟩;exact j6 rfl (Out.err d (ad.fr.drew.trans b)));intro D)
   all_goals exact D.out.elim
  |ok lq=>
   obtain⟨l,q⟩:=lq;rw[hV] at V;have d:Hid (r=.ok (aS [108,105,115,116] t.line t.text l,q)):=by show _=_;rw[F.out,hV];rfl
   clear hV;have cc:=ad.fr.size;go_wp2_with fail;go_region_law (go_simp;go_at_call 221;refine V.mono ?_;rintro e w7 ⟨b,ak,v,rfl,hk⟩;obtain⟨x,c,rfl⟩:=hk.slice;have HK:=aB hk;have U:=aB (ad.keep ((Fr.refl _ _).drew.trans b) ak);have y:=aB b;have c5:=U.cells.2.2.2.2.2.1;have c0:=U.cells.1;clear b ak hk)
   all_goals (go_wp2_with fail;go_ret)
   all_goals exact Out.ok d U.fr U.at_ (PN.mk (Y3 (Y3 (Y3 (Y4 ⟨rfl,_,rfl,rfl,rfl⟩)))) (fun p hp=>by obtain rfl:=Z1.1 hp;exact Prt.ok.list (HK.grow (fun _ _ _=>rfl) cc dH)))
 rw[i4] at K
 have F:Hid (r=if t.sort==110 then
       if aV C.ts (p+1) [40] then bZ (aS [99,97,108,108] t.line t.text) (eR E C.ts (p+1) [40] [41])
       else .ok (aS [110,97,109,101] t.line t.text [],p+1)
  else Hs.bad C.ts p):=by show _=_;rw[A.out,i4];rfl
 clear A i4;go_wp2_with fail;refine K.mono ?_;rintro e w6 ⟨rfl,j,f⟩;have B:=aB (S.fr.trans f);have Z:=aB (mH C w6 p j);rw[be.out] at Z;clear j f S K;cases O:(t.sort==110)
 ·rw[O] at Z;have d:Hid (r=.error t.line):=by show _=_;rw[F.out,O];show Hs.bad _ _=_;unfold Hs.bad;rw[be.out]
  clear O F;go_wp2_with fail;refine Z.mono ?_;rintro e w7 ⟨b,G⟩;obtain rfl:e=dF 4 t.line:=G;have y:=aB (B.trans b);clear b;go_wp2_with fail;exact⟨rfl,Out.err d y⟩
 rw[O] at Z
 have ac:Hid (r=if aV C.ts (p+1) [40] then bZ (aS [99,97,108,108] t.line t.text) (eR E C.ts (p+1) [40] [41])
       else .ok (aS [110,97,109,101] t.line t.text [],p+1)):=by show _=_;rw[F.out,O];rfl
 clear F O;go_wp2_with fail;refine Z.mono ?_;rintro e w7 ⟨b,G⟩;obtain⟨rfl,au⟩:=G;have y:=aB ((B.trans b).alloc (.cells #[Iv0 t.line,.string (bs t.text)] 179));have L:=aB (dJ C (w7.alloc (.cells #[Iv0 t.line,.string (bs t.text)] 179)) (p+1) ⟨#[40]⟩ (au.alloc _));have al:(⟨#[40]⟩:ByteArray).data.toList=[40]:=rfl;rw[al] at L;have bz:Hid ((w7.alloc (.cells #[Iv0 t.line,.string (bs t.text)] 179)).heap[w7.heap.size]?=some (.cells #[Iv0 t.line,.string (bs t.text)] 179 (0,0))):=aU _ _ rfl _;have bj:w7.heap.size≠C.pb:=by have:=au.pb_lt;omega
 have cn:=(B.trans b).size;clear b au Z B al;cases i5:aV C.ts (p+1) [40]
 ·rw[i5] at L;have d:Hid (r=.ok (aS [110,97,109,101] t.line t.text [],p+1)):=by show _=_;rw[ac.out,i5];rfl
  clear i5 ac;go_wp2_with fail;refine L.mono ?_;rintro e w8 ⟨rfl,I,N⟩;have J:=aB (N.keepB bz bj);have am:=aB (y.trans N);have cf:=aB I;have c0:=aA J (i:=0) rfl;have c1:=aA J (i:=1) rfl;have ci:=aD J;clear I N L;go_wp2
  go_ret;exact Out.ok d am cf (PN.mk (Y3 (Y3 (Y3 (Y3 (Y3 (Y4 ⟨rfl,rfl,rfl,rfl,rfl⟩)))))) (fun p hp=>by cases hp))
 ·rw[i5] at L;obtain⟨r1,M⟩:∃r1,r1=iB E C.ts (p+1+1) [41]:=⟨_,rfl⟩;have bf:Hid (r=bZ (aS [99,97,108,108] t.line t.text) (aM C.ts [41] r1)):=by show _=_;rw[ac.out,i5,M];unfold eR;rw[i5];rfl
  have cj:=aB M;clear i5 ac M;go_wp2_with fail;refine L.mono ?_;rintro e w8 ⟨rfl,I,N⟩;have J:=aB (N.keepB bz bj);have am:=aB (y.trans N);have V:=aB (sL C E bm w8.drew (p+1+1) ⟨#[41]⟩ I.drew r1 _ cj rfl (fun e=>bk (by rw[bf.out,e];rfl)))
  have bn:(⟨#[41]⟩:ByteArray).data.toList=[41]:=rfl;rw[bn] at V;have c0:=aA J (i:=0) rfl;have c1:=aA J (i:=1) rfl;have ci:=aD J;have bv:=am.size;clear I N L bn;cases hV:aM C.ts [41] r1 with
  |error l=>
   rw[hV] at V;have d:Hid (r=.error l):=by show _=_;rw[bf.out,hV];rfl
   clear hV;go_wp2_with fail;go_region_law (refine thrown (bV) ?_ ?_;(focus go_simp;go_at_call 221;refine V.mono ?_;rintro e w9 ⟨ae,rfl⟩;exact j6 rfl (Out.err d (am.drew.trans ae)));intro D)
   all_goals exact D.out.elim
  |ok lq=>
   obtain⟨l,q⟩:=lq;rw[hV] at V;have d:Hid (r=.ok (aS [99,97,108,108] t.line t.text l,q)):=by show _=_;rw[bf.out,hV];rfl
   clear hV;go_wp2_with fail;go_region_law (go_simp;go_at_call 221;refine V.mono ?_;rintro e w9 ⟨ae,bu,v,rfl,hk⟩;obtain⟨x,c,rfl⟩:=hk.slice;have HK:=aB hk;have cl:=aB ae;have ce:=aB bu;have bh:=aB (((Fr.refl C.pb w8).drew.trans ae).keepB J bj);have d0:=aA bh (i:=0) rfl;have d1:=aA bh (i:=1) rfl;have da:=aD bh;clear ae bu hk)
   all_goals (go_wp2_with fail;go_ret)
   all_goals exact Out.ok d (am.drew.trans cl) ce (PN.mk (Y3 (Y3 (Y3 (Y3 (Y4 ⟨rfl,_,rfl,rfl,rfl⟩))))) (fun p hp=>by obtain rfl:=Z1.1 hp;exact Prt.ok.list (HK.grow (fun _ _ _=>rfl) bv dH)))
end Go.Proofs.YtddnpoiiimjpcaaGreatDoor
