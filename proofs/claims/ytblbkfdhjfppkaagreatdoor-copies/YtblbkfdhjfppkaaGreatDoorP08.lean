/- Contracts of the program: statements. -/
import Derived.Test.YtblbkfdhjfppkaaGreatDoorP07
import Derived.Test.YtblbkfdhjfppkaaGreatDoorP06
set_option maxRecDepth 100000
set_option maxHeartbeats 4000000
namespace Go.Proofs.YtblbkfdhjfppkaaGreatDoor
open Hs
open Tryz(prog)
open Go.RowKit
def GK(lo:Nat)(w':World)(v:Value)(b:aC):Prop:=b.op=[98,108,111,99,107]/\PKid (Btw lo w'.heap.size) w' v b.kids
def i8(C:Ctx)(w:World)(r:bS aC)(e:Ending)(w':World):Prop:=Out C w r (GK w.heap.size) e w'
def BReads(C:Ctx)(F:Nat)(X:Nat->bS aC):Prop:=∀w p,PAt C w p->X p≠.error 0->Calls prog F #[.pointer (some ⟨C.pb,0,none⟩)] w (i8 C w (X p))
def uV(B:Nat->bS aC)(ts:List aP)(q:Nat):bS (Option aC):=if aX ts q [101,108,115,101] then bU some (B (q+1)) else .ok (none,q)
def N4(lo:Nat)(w':World)(v:Value):Option aC->Prop
 |none=>v=.slice none 0 0
 |some b=>GK lo w' v b
theorem GK.slice{lo:Nat}{w:World}{v:Value}{b:aC}(h:GK lo w v b):∃x n c,v=.slice x n c:=by
 obtain⟨x,c,e⟩:=h.2.slice;exact⟨x,_,c,e⟩
theorem N4.slice{lo:Nat}{w:World}{v:Value}{o:Option aC}(h:N4 lo w v o):∃x n c,v=.slice x n c:=by
 cases o with
 |none=>exact⟨none,0,0,h⟩
 |some b=>exact GK.slice h
theorem GK.grow{lo lo':Nat}{w w':World}{v:Value}{b:aC}(h:GK lo w v b)(hk:∀k,lo<=k->k<w.heap.size->w'.heap[k]?=w.heap[k]?)(h1:lo'<=lo)(h2:w.heap.size<=w'.heap.size):GK lo' w' v b:=⟨h.1,h.2.grow hk h1 h2⟩
theorem T8(E B:Nat->bS aC)(ts:List aP)(p:Nat):
 qQ E B ts p=bO (E (p+1)) fun c q=>bO (B q) fun b q2=>bU (fun o=>aQ [105,102] (aO ts p).line [] (c::b::o.toList)) (uV B ts q2):=by
 unfold qQ;cases E (p+1) with
 |error l=>rfl
 |ok cq=>
  obtain⟨c,q⟩:=cq;show bO (B q) _=bO (B q) _
  cases B q with
  |error l=>rfl
  |ok bq=>
   obtain⟨b,q2⟩:=bq;show (if _ then _ else _)=bU _ (uV B ts q2)
   unfold uV;split
   ·cases B (q2+1)<;>rfl
   ·rfl
theorem L2(C:Ctx)(B:Nat->bS aC)(HB:BReads C 187 B)(w:World)(q:Nat)(h:PAt C w q)(r:bS (Option aC))(hr:r=uV B C.ts q)(hne:r≠.error 0):
 Calls prog 303 #[.pointer (some ⟨C.pb,0,none⟩)] w (Out C w r (N4 w.heap.size)):=by
 have HA:=aB (dG C w q ⟨#[101,108,115,101]⟩ h);have ed:(⟨#[101,108,115,101]⟩:ByteArray).data.toList=[101,108,115,101]:=rfl;rw[ed] at HA;have HBB:=aB HB;have HR:=aB hr;have HNE:=aB hne;clear h HB hr hne ed;cases hit:aX C.ts q [101,108,115,101]
 ·have HL:Hid (r=.ok (none,q)):=by show _=_;rw[HR.out];unfold uV;rw[hit];rfl
  rw[hit] at HA;clear hit HR;go_enter Tryz.func303,Tryz.ntmps303;go_wp2_with fail;refine HA.out.mono ?_;rintro e w1 ⟨rfl,hp1,hf1⟩;have HP1:=aB hp1;have HF1:=aB hf1;clear hp1 hf1;go_wp2_with fail;go_ret;exact Out.ok HL.out HF1.out HP1.out rfl
 ·obtain⟨rB,hrB⟩:∃rB,rB=B (q+1):=⟨_,rfl⟩;have HR1:Hid (r=bU some rB):=by show _=_;rw[HR.out,hrB];unfold uV;rw[hit];rfl
  have hB0:B (q+1)≠.error 0:=fun e=>HNE.out (by rw[HR1.out,hrB,e];rfl)
  have HRB:=aB hrB;rw[hit] at HA;clear hit HR hrB;go_enter Tryz.func303,Tryz.ntmps303;go_wp2_with fail;refine HA.out.mono ?_;rintro e w1 ⟨rfl,hp1,hf1⟩;have HX:=aB (HBB.out w1 (q+1) hp1 hB0);rw[<-HRB.out] at HX;have HF1:=aB hf1;have hs1:=hf1.size;clear hp1 hf1 hB0 HA;cases rB with
  |error l=>
   have HL:Hid (r=.error l):=HR1.out;go_wp2_with fail;refine HX.out.mono ?_;rintro e w2 ⟨hf2,rfl⟩;have HF2:=aB (HF1.out.trans hf2);clear hf2;go_wp2_with fail;exact⟨rfl,Out.err HL.out HF2.out⟩
  |ok bq=>
   obtain⟨b,q2⟩:=bq;have HL:Hid (r=.ok (some b,q2)):=HR1.out;go_wp2_with fail;refine HX.out.mono ?_;rintro e w2 ⟨hf2,hp2,v2,rfl,hb2⟩;have HF2:=aB (HF1.out.trans hf2);have HP2:=aB hp2;have HB2:=aB hb2;obtain⟨x,n,c,rfl⟩:=hb2.slice;clear hf2 hp2 hb2;go_wp2_with fail;go_ret;exact Out.ok HL.out HF2.out HP2.out (show GK _ _ _ _ from HB2.out.grow (fun _ _ _=>rfl) hs1 (l9 _))
theorem E4(C:Ctx)(E B:Nat->bS aC)(HE:PReads C 164 E)(HB:BReads C 187 B):PReads C 257 (iX E B C.ts):=by
 intro w p h hne;have HPL:=aB (mG C w p h);have HEE:=aB HE;have HBB:=aB HB;have HLA:=aB (OX C E HE);have HSI:=aB (SJ C E HE);have H:=aB h;have hpb:=h.pb_lt;have hgb:=h.g_lt;obtain⟨r,hr⟩:∃r,r=iX E B C.ts p:=⟨_,rfl⟩;rw[<-hr] at hne ⊢
 rw[iX] at hr;have HR0:=aB hr;have HNE:=aB hne;clear h HE HB hne hr;generalize hpl:(aO C.ts p).line=pl at*;have HTL:=aB hpl;clear hpl;go_enter Tryz.func257,Tryz.ntmps257;go_wp2_with fail;refine HPL.out.mono ?_;rintro e w1 ⟨rfl,hb1⟩;have HF1:=aB ((Fr.below (pb:=C.pb) hb1).alloc (.cells #[.int .i64 pl] 209));have HP1:=aB ((H.out.below hb1).alloc (.cells #[.int .i64 pl] 209));have HB1:=aB (N6.new w1 pl);have htb:w1.heap.size≠C.pb:=by have:=hb1.size;omega
 have hs1:=hb1.size;clear hb1 HPL;have HA:=aB (dG C (w1.alloc (.cells #[.int .i64 pl] 209)) p ⟨#[118,97,114]⟩ HP1.out);have ed:(⟨#[118,97,114]⟩:ByteArray).data.toList=[118,97,114]:=rfl;rw[ed] at HA;clear ed;cases hit:aX C.ts p [118,97,114];rotate_left
 ·have HRt:Hid (r=oG E C.ts p):=by show _=_;rw[HR0.out,hit];rfl
  rw[hit] at HA;clear hit HR0;go_wp2_with fail;refine HA.out.mono ?_;rintro e W1 ⟨rfl,hat1,hf1⟩;have HFt:=aB (HF1.out.trans hf1);have HBt:=aB (hf1.keepB HB1.out htb);clear hf1 HA HF1 HP1 HB1;have HNM:=aB (mF C W1 (p+1) hat1);clear hat1;obtain⟨t,ht⟩:∃t,t=aO C.ts (p+1):=⟨_,rfl⟩;rw[<-ht] at HNM;have HTT:=aB ht;clear ht;cases hs:(t.sort==110)
  ·have HL:Hid (r=.error t.line):=by show _=_;rw[HRt.out];unfold oG;rw[<-HTT.out,hs];show Hs.bad _ _=_;unfold Hs.bad;rw[<-HTT.out]
   rw[hs] at HNM;clear hs HRt;go_wp2_with fail;refine HNM.out.mono ?_;rintro e w2 ⟨hf2,he2⟩;obtain rfl:e=dC 4 t.line:=he2;have HF2:=aB (HFt.out.trans hf2);clear hf2;go_wp2_with fail;exact⟨rfl,Out.err HL.out HF2.out⟩
  have HR2:Hid (r=if aX C.ts (p+2) [61] then bU (fun v=>aQ [118,97,114] pl [] [aQ [116,97,114,103,101,116] t.line t.text [],v]) (aL C.ts [59] (E (p+3))) else Hs.bad C.ts (p+2)):=by
   show _=_
   rw[HRt.out];unfold oG;rw[<-HTT.out,hs,JE,HTL.out];rfl
  rw[hs] at HNM;clear hs HRt;go_wp2_with fail;refine HNM.out.mono ?_;rintro e w2 ⟨hf2,he2⟩;obtain⟨rfl,hat2⟩:=he2;have HF2:=aB ((HFt.out.trans hf2).alloc (.cells #[.int .i64 t.line,.string (bs t.text)] 211));have HXP:=aB (fU C (w2.alloc (.cells #[.int .i64 t.line,.string (bs t.text)] 211)) (p+2) ⟨#[61]⟩ (hat2.alloc _));have ed5:(⟨#[61]⟩:ByteArray).data.toList=[61]:=rfl;rw[ed5] at HXP;have HNB:Hid ((w2.alloc (.cells #[.int .i64 t.line,.string (bs t.text)] 211)).heap[w2.heap.size]?=some (.cells #[.int .i64 t.line,.string (bs t.text)] 211 (0,0))):=aT _ _ rfl _;have hnb:w2.heap.size≠C.pb:=by have:=hat2.pb_lt;omega
  have HB2:=aB ((hf2.alloc (.cells #[.int .i64 t.line,.string (bs t.text)] 211)).keepB HBt.out htb);clear hf2 hat2 HNM ed5;cases hit:aX C.ts (p+2) [61]
  ·have HL:Hid (r=.error (aO C.ts (p+2)).line):=by show _=_;rw[HR2.out,hit];rfl
   rw[hit] at HXP;clear hit HR2;go_wp2_with fail;refine HXP.out.mono ?_;rintro e w3 ⟨hf3,he3⟩;obtain rfl:e=dC 4 (aO C.ts (p+2)).line:=he3;have HF3:=aB (HF2.out.trans hf3);clear hf3;go_wp2_with fail;exact⟨rfl,Out.err HL.out HF3.out⟩
  obtain⟨rE,hrE⟩:∃rE,rE=aL C.ts [59] (E (p+3)):=⟨_,rfl⟩;have HR3:Hid (r=bU (fun v=>aQ [118,97,114] pl [] [aQ [116,97,114,103,101,116] t.line t.text [],v]) rE):=by show _=_;rw[HR2.out,hit,hrE];rfl
  have hE0:aL C.ts [59] (E (p+3))≠.error 0:=fun e=>HNE.out (by rw[HR3.out,hrE,e];rfl)
  have HRE:=aB hrE;rw[hit] at HXP;clear hit HR2 hrE;go_wp2_with fail;refine HXP.out.mono ?_;rintro e w3 ⟨hf3,he3⟩;obtain⟨rfl,hp3⟩:=he3;have HX:=aB (HLA.out w3.drew (p+3) hp3.drew hE0);simp only[<-HRE.out] at HX;have HF3:=aB (HF2.out.trans hf3);have HB3:=aB (hf3.keepB HB2.out htb);have HNB3:=aB (hf3.keepB HNB.out hnb);have c0:=aA HB3.out (i:=0) rfl;have hz3:=aD HB3.out;have m0:=aA HNB3.out (i:=0) rfl;have m1:=aA HNB3.out (i:=1) rfl;have hy3:=aD HNB3.out;have hs3:=HF3.out.size;clear hf3 hp3 HXP HB2 HNB hE0;cases rE with
  |error l=>
   have HL:Hid (r=.error l):=HR3.out;go_wp2_with fail;go_region_law (refine thrown .nilIface ?_ ?_;(focus go_simp;go_at_call 302;refine HX.out.mono ?_;rintro e w4 ⟨hf4,rfl⟩;exact And.intro rfl (Out.err HL.out (HF3.out.drew.trans hf4)));intro hfalse)
   all_goals exact hfalse.out.elim
  |ok aq=>
   obtain⟨a,q⟩:=aq;have HL:Hid (r=.ok (aQ [118,97,114] pl [] [aQ [116,97,114,103,101,116] t.line t.text [],a],q)):=HR3.out;clear HR3;go_wp2_with fail;go_region_law (go_simp;go_at_call 302;refine HX.out.mono ?_;rintro e w4 ⟨hf4,hp4,v4,rfl,hn4⟩;obtain⟨T4,cs4,rfl⟩:=hn4.form;have HF4:=aB ((Fr.refl C.pb w3).drew.trans hf4);have HN4:=aB hn4;have HP4:=aB hp4;have HNB4:=aB (HF4.out.keepB HNB3.out hnb);have HB4:=aB (HF4.out.keepB HB3.out htb);have d0:=aA HNB4.out (i:=0) rfl;have d1:=aA HNB4.out (i:=1) rfl;have hz4:=aD HNB4.out;have d2:=aA HB4.out (i:=0) rfl;have hy4:=aD HB4.out;clear hf4 hp4 hn4)
   all_goals (go_wp2_with fail;go_ret)
   all_goals exact Out.ok HL.out (HF3.out.trans HF4.out) HP4.out (PN.mk (Or.inr (Or.inr (Or.inr (Or.inr (Or.inr (Or.inr (Or.inr (Or.inr (Or.inr (Or.inl (⟨rfl,_,aQ [116,97,114,103,101,116] t.line t.text [],a,rfl,rfl,rfl,rfl⟩))))))))))) (fun p hp=>by obtain rfl:=o8.1 hp;exact Prt.ok.node (HN4.out.grow (fun _ _ _=>rfl) hs3 (l9 _))))
 have HRn:Hid (r=if aX C.ts p [105,102] then qQ E B C.ts p else if aX C.ts p [119,104,105,108,101] then kB E B C.ts p else if aX C.ts p [114,101,116,117,114,110] then gS E C.ts p else if aX C.ts p [112,114,105,110,116] then iO E C.ts p else eQ E C.ts p):=by show _=_;rw[HR0.out,hit];rfl
 rw[hit] at HA;clear hit HR0;have HR0:=HRn;clear HRn;go_wp2_with fail;refine HA.out.mono ?_;rintro e V1 ⟨rfl,hatn,hfn⟩;have HF1':=aB (HF1.out.trans hfn);have HB1':=aB (hfn.keepB HB1.out htb);have HP1':=aB hatn;clear hfn hatn HA HF1 HB1 HP1;have HF1:=HF1';have HB1:=HB1';have HP1:=HP1';clear HF1' HB1' HP1';have HA:=aB (dG C V1 p ⟨#[105,102]⟩ HP1.out);have ed:(⟨#[105,102]⟩:ByteArray).data.toList=[105,102]:=rfl;rw[ed] at HA;clear ed;cases hit:aX C.ts p [105,102];rotate_left
 ·have HRt:Hid (r=qQ E B C.ts p):=by show _=_;rw[HR0.out,hit];rfl
  rw[hit] at HA;clear hit HR0;go_wp2_with fail;refine HA.out.mono ?_;rintro e W1 ⟨rfl,hat1,hf1⟩;have HFt:=aB (HF1.out.trans hf1);have HBt:=aB (hf1.keepB HB1.out htb);clear hf1 HA HF1 HP1 HB1;obtain⟨rE,hrE⟩:∃rE,rE=E (p+1):=⟨_,rfl⟩;have HR2:Hid (r=bO rE fun c q=>bO (B q) fun b q2=>bU (fun o=>aQ [105,102] pl [] (c::b::o.toList)) (uV B C.ts q2)):=by show _=_;rw[HRt.out,hrE,T8,HTL.out]
  have hE0:E (p+1)≠.error 0:=fun e=>HNE.out (by rw[HR2.out,hrE,e];rfl)
  have HX:=aB (HEE.out W1 (p+1) hat1 hE0);rw[<-hrE] at HX;clear hat1 hE0 hrE HRt;cases rE with
  |error l=>
   have HL:Hid (r=.error l):=HR2.out;go_wp2_with fail;refine HX.out.mono ?_;rintro e w2 ⟨hf2,rfl⟩;have HF2:=aB (HFt.out.trans hf2);clear hf2;go_wp2_with fail;exact⟨rfl,Out.err HL.out HF2.out⟩
  |ok cq=>
   obtain⟨c,q⟩:=cq;go_wp2_with fail;refine HX.out.mono ?_;rintro e w2 ⟨hf2,hat2,v2,rfl,hn2⟩;obtain⟨T2,cs2,rfl⟩:=hn2.form;have HF2:=aB (HFt.out.trans hf2);have HB2:=aB (hf2.keepB HBt.out htb);have hs2:=HFt.out.size;have hs2':=hf2.size;have HN2:=aB (hn2.grow (lo':=w.heap.size) (fun _ _ _=>rfl) hs2 (l9 _))
   clear hf2 hn2 HX;obtain⟨rB,hrB⟩:∃rB,rB=B q:=⟨_,rfl⟩;have HR3:Hid (r=bO rB fun b q2=>bU (fun o=>aQ [105,102] pl [] (c::b::o.toList)) (uV B C.ts q2)):=by show _=_;rw[HR2.out,hrB];rfl
   have hB0:B q≠.error 0:=fun e=>HNE.out (by rw[HR3.out,hrB,e];rfl)
   have HY:=aB (HBB.out w2 q hat2 hB0);rw[<-hrB] at HY;clear hat2 hB0 hrB HR2;cases rB with
   |error l=>
    have HL:Hid (r=.error l):=HR3.out;go_wp2_with fail;refine HY.out.mono ?_;rintro e w4 ⟨hf4,rfl⟩;have HF4:=aB (HF2.out.trans hf4);clear hf4;go_wp2_with fail;exact⟨rfl,Out.err HL.out HF4.out⟩
   |ok bq=>
    obtain⟨b,q3⟩:=bq;obtain⟨rO,hrO⟩:∃rO,rO=uV B C.ts q3:=⟨_,rfl⟩;have HR4:Hid (r=bU (fun o=>aQ [105,102] pl [] (c::b::o.toList)) rO):=by show _=_;rw[HR3.out,hrO];rfl
    have HRO:=aB hrO;have HO0:Hid (rO≠.error 0):=fun e=>HNE.out (by rw[HR4.out,e];rfl)
    clear HR3 hrO;go_wp2_with fail;refine HY.out.mono ?_;rintro e w4 ⟨hf4,hp4,v4,rfl,hb4⟩;obtain⟨x4,n4,c4,rfl⟩:=hb4.slice;have HF4:=aB (HF2.out.trans hf4);have hs4:=hf4.size;have HK4:=aB (hb4.grow (lo':=w.heap.size) (fun _ _ _=>rfl) (by omega) (l9 _))
    have HN4:=aB (HN2.out.grow (lo':=w.heap.size) (hi':=w4.heap.size) (fun k h1 h2=>hf4.block k h2 (by omega)) (l9 _) hf4.size)
    have HB4:=aB (hf4.keepB HB2.out htb);have HZ:=aB (L2 C B HBB.out w4.drew q3 hp4.drew rO HRO.out HO0.out);have c0:=aA HB4.out (i:=0) rfl;have hz3:=aD HB4.out;clear hf4 hp4 hb4 HY HB2 HN2;cases rO with
    |error l=>
     have HL:Hid (r=.error l):=HR4.out;go_wp2_with fail;go_region_law (refine thrown (.slice none 0 0) ?_ ?_;(focus go_simp;go_at_call 303;refine HZ.out.mono ?_;rintro e w5 ⟨hf5,rfl⟩;exact And.intro rfl (Out.err HL.out (HF4.out.drew.trans hf5)));intro hfalse)
     all_goals exact hfalse.out.elim
    |ok oq=>
     obtain⟨o,q5⟩:=oq;have HL:Hid (r=.ok (aQ [105,102] pl [] (c::b::o.toList),q5)):=HR4.out;clear HR4;go_wp2_with fail;go_region_law (go_simp;go_at_call 303;refine HZ.out.mono ?_;rintro e w5 ⟨hf5,hp5,v5,rfl,hb5⟩;obtain⟨x5,n5,c5,rfl⟩:=hb5.slice;have HF5:=aB ((Fr.refl C.pb w4).drew.trans hf5);have HK5:=aB hb5;have HP5:=aB hp5;have HB5:=aB (HF5.out.keepB HB4.out htb);have d2:=aA HB5.out (i:=0) rfl;have hy4:=aD HB5.out;clear hf5 hp5 hb5)
     all_goals (go_wp2_with fail;go_ret)
     all_goals
      have hs5:=HF5.out.size;have hNN:=HN4.out.grow (lo':=w.heap.size) (hi':=w5.heap.size) (fun k h1 h2=>HF5.out.block k h2 (by omega)) (l9 _) HF5.out.size
      have hKK:=HK4.out.grow (lo':=w.heap.size) (fun k h1 h2=>HF5.out.block k h2 (by omega)) (l9 _) HF5.out.size
      cases o with
      |none=>
       have h5:Value.slice x5 n5 c5=.slice none 0 0:=HK5.out;rw[h5]
       exact Out.ok HL.out (HF4.out.trans HF5.out) HP5.out (PN.mk (Or.inr (Or.inr (Or.inr (Or.inr (Or.inr (Or.inr (Or.inr (Or.inr (Or.inr (Or.inr (Or.inr (Or.inl (⟨rfl,_,_,c,b,rfl,rfl,hKK.1,rfl,rfl⟩))))))))))))) (fun p hp=>by
        simp only[p8,s7,or_false] at hp;rcases hp with rfl|rfl
        ·exact Prt.ok.node hNN
        ·exact Prt.ok.list hKK.2))
      |some b2=>
       have h5:GK w4.drew.heap.size w5 (.slice x5 n5 c5) b2:=HK5.out
       exact Out.ok HL.out (HF4.out.trans HF5.out) HP5.out (PN.mk (Or.inr (Or.inr (Or.inr (Or.inr (Or.inr (Or.inr (Or.inr (Or.inr (Or.inr (Or.inr (Or.inr (Or.inr (Or.inl (⟨rfl,_,_,_,c,b,b2,rfl,rfl,hKK.1,h5.1,rfl,rfl⟩)))))))))))))) (fun p hp=>by
        simp only[p8,s7,or_false] at hp;rcases hp with rfl|rfl|rfl
        ·exact Prt.ok.node hNN
        ·exact Prt.ok.list hKK.2
        ·exact Prt.ok.list (h5.2.grow (fun _ _ _=>rfl) (by show _<=w4.heap.size;omega) (l9 _))))
 have HRn:Hid (r=if aX C.ts p [119,104,105,108,101] then kB E B C.ts p else if aX C.ts p [114,101,116,117,114,110] then gS E C.ts p else if aX C.ts p [112,114,105,110,116] then iO E C.ts p else eQ E C.ts p):=by show _=_;rw[HR0.out,hit];rfl
 rw[hit] at HA;clear hit HR0;have HR0:=HRn;clear HRn;go_wp2_with fail;refine HA.out.mono ?_;rintro e V2 ⟨rfl,hatn,hfn⟩;have HF1':=aB (HF1.out.trans hfn);have HB1':=aB (hfn.keepB HB1.out htb);have HP1':=aB hatn;clear hfn hatn HA HF1 HB1 HP1;have HF1:=HF1';have HB1:=HB1';have HP1:=HP1';clear HF1' HB1' HP1';have HA:=aB (dG C V2 p ⟨#[119,104,105,108,101]⟩ HP1.out);have ed:(⟨#[119,104,105,108,101]⟩:ByteArray).data.toList=[119,104,105,108,101]:=rfl;rw[ed] at HA;clear ed;cases hit:aX C.ts p [119,104,105,108,101];rotate_left
 ·have HRt:Hid (r=kB E B C.ts p):=by show _=_;rw[HR0.out,hit];rfl
  rw[hit] at HA;clear hit HR0;go_wp2_with fail;refine HA.out.mono ?_;rintro e W1 ⟨rfl,hat1,hf1⟩;have HFt:=aB (HF1.out.trans hf1);have HBt:=aB (hf1.keepB HB1.out htb);clear hf1 HA HF1 HP1 HB1;obtain⟨rE,hrE⟩:∃rE,rE=E (p+1):=⟨_,rfl⟩;have HR2:Hid (r=bO rE fun c q=>bU (fun b=>aQ [119,104,105,108,101] pl [] [c,b]) (B q)):=by show _=_;rw[HRt.out,hrE];unfold kB;rw[HTL.out]
  have hE0:E (p+1)≠.error 0:=fun e=>HNE.out (by rw[HR2.out,hrE,e];rfl)
  have HX:=aB (HEE.out W1 (p+1) hat1 hE0);rw[<-hrE] at HX;clear hat1 hE0 hrE HRt;cases rE with
  |error l=>
   have HL:Hid (r=.error l):=HR2.out;go_wp2_with fail;refine HX.out.mono ?_;rintro e w2 ⟨hf2,rfl⟩;have HF2:=aB (HFt.out.trans hf2);clear hf2;go_wp2_with fail;exact⟨rfl,Out.err HL.out HF2.out⟩
  |ok cq=>
   obtain⟨c,q⟩:=cq;go_wp2_with fail;refine HX.out.mono ?_;rintro e w2 ⟨hf2,hat2,v2,rfl,hn2⟩;obtain⟨T2,cs2,rfl⟩:=hn2.form;have HF2:=aB (HFt.out.trans hf2);have HB2:=aB (hf2.keepB HBt.out htb);have hs2:=HFt.out.size;have hs2':=hf2.size;have HN2:=aB (hn2.grow (lo':=w.heap.size) (fun _ _ _=>rfl) hs2 (l9 _))
   clear hf2 hn2 HX;obtain⟨rB,hrB⟩:∃rB,rB=B q:=⟨_,rfl⟩;have HR3:Hid (r=bU (fun b=>aQ [119,104,105,108,101] pl [] [c,b]) rB):=by show _=_;rw[HR2.out,hrB];rfl
   have hB0:B q≠.error 0:=fun e=>HNE.out (by rw[HR3.out,hrB,e];rfl)
   have HY:=aB (HBB.out w2.drew q hat2.drew hB0);rw[<-hrB] at HY;have c0:=aA HB2.out (i:=0) rfl;have hz3:=aD HB2.out;clear hat2 hB0 hrB HR2;cases rB with
   |error l=>
    have HL:Hid (r=.error l):=HR3.out;go_wp2_with fail;go_region_law (refine thrown (.slice none 0 0) ?_ ?_;(focus go_simp;go_at_call 187;refine HY.out.mono ?_;rintro e w4 ⟨hf4,rfl⟩;exact And.intro rfl (Out.err HL.out (HF2.out.drew.trans hf4)));intro hfalse)
    all_goals exact hfalse.out.elim
   |ok bq=>
    obtain⟨b,q3⟩:=bq;have HL:Hid (r=.ok (aQ [119,104,105,108,101] pl [] [c,b],q3)):=HR3.out;clear HR3;go_wp2_with fail;go_region_law (go_simp;go_at_call 187;refine HY.out.mono ?_;rintro e w4 ⟨hf4,hp4,v4,rfl,hb4⟩;obtain⟨x4,n4,c4,rfl⟩:=hb4.slice;have HF4:=aB ((Fr.refl C.pb w2).drew.trans hf4);have HK4:=aB hb4;have HP4:=aB hp4;have HB4:=aB (HF4.out.keepB HB2.out htb);have d2:=aA HB4.out (i:=0) rfl;have hy4:=aD HB4.out;clear hf4 hp4 hb4)
    all_goals (go_wp2_with fail;go_ret)
    all_goals exact Out.ok HL.out (HF2.out.trans HF4.out) HP4.out (PN.mk (Or.inr (Or.inr (Or.inr (Or.inr (Or.inr (Or.inr (Or.inr (Or.inr (Or.inr (Or.inr (Or.inr (Or.inr (Or.inr (Or.inl (⟨rfl,_,_,c,b,rfl,rfl,HK4.out.1,rfl,rfl⟩))))))))))))))) (fun p hp=>by
     simp only[p8,s7,or_false] at hp;rcases hp with rfl|rfl
     ·exact Prt.ok.node (HN2.out.grow (fun k h1 h2=>HF4.out.block k h2 (by omega)) (l9 _) HF4.out.size)
     ·exact Prt.ok.list (HK4.out.2.grow (fun _ _ _=>rfl) (by show _<=w2.heap.size;omega) (l9 _))))
 have HRn:Hid (r=if aX C.ts p [114,101,116,117,114,110] then gS E C.ts p else if aX C.ts p [112,114,105,110,116] then iO E C.ts p else eQ E C.ts p):=by show _=_;rw[HR0.out,hit];rfl
 rw[hit] at HA;clear hit HR0;have HR0:=HRn;clear HRn;go_wp2_with fail;refine HA.out.mono ?_;rintro e V3 ⟨rfl,hatn,hfn⟩;have HF1':=aB (HF1.out.trans hfn);have HB1':=aB (hfn.keepB HB1.out htb);have HP1':=aB hatn;clear hfn hatn HA HF1 HB1 HP1;have HF1:=HF1';have HB1:=HB1';have HP1:=HP1';clear HF1' HB1' HP1';have HA:=aB (dG C V3 p ⟨#[114,101,116,117,114,110]⟩ HP1.out);have ed:(⟨#[114,101,116,117,114,110]⟩:ByteArray).data.toList=[114,101,116,117,114,110]:=rfl;rw[ed] at HA;clear ed;cases hit:aX C.ts p [114,101,116,117,114,110];rotate_left
 ·have HRt:Hid (r=gS E C.ts p):=by show _=_;rw[HR0.out,hit];rfl
  rw[hit] at HA;clear hit HR0;go_wp2_with fail;refine HA.out.mono ?_;rintro e W1 ⟨rfl,hat1,hf1⟩;have HFt:=aB (HF1.out.trans hf1);have HBt:=aB (hf1.keepB HB1.out htb);clear hf1 HA HF1 HP1 HB1;have HA2:=aB (dG C W1 (p+1) ⟨#[59]⟩ hat1);have ed2:(⟨#[59]⟩:ByteArray).data.toList=[59]:=rfl;rw[ed2] at HA2;clear hat1 ed2;cases hit:aX C.ts (p+1) [59];rotate_left
  ·have HL:Hid (r=.ok (aQ [114,101,116,117,114,110] pl [] [],p+2)):=by show _=_;rw[HRt.out];unfold gS;rw[hit,HTL.out];rfl
   rw[hit] at HA2;clear hit HRt;go_wp2_with fail;refine HA2.out.mono ?_;rintro e w2 ⟨rfl,hat2,hf2⟩;have HF2:=aB (HFt.out.trans hf2);have HB2:=aB (hf2.keepB HBt.out htb);have HP2:=aB hat2;have c0:=aA HB2.out (i:=0) rfl;have hz3:=aD HB2.out;clear hf2 hat2;go_wp2_with fail;go_ret;exact Out.ok HL.out HF2.out HP2.out (PN.mk (Or.inr (Or.inr (Or.inr (Or.inr (Or.inr (Or.inr (Or.inr (Or.inr (Or.inr (Or.inr (Or.inr (Or.inr (Or.inr (Or.inr (Or.inl (⟨rfl,pl,rfl,rfl,rfl,rfl⟩)))))))))))))))) (fun p hp=>by cases hp))
  have HR2:Hid (r=bU (fun v=>aQ [114,101,116,117,114,110] pl [] [v]) (aL C.ts [59] (E (p+1)))):=by show _=_;rw[HRt.out];unfold gS;rw[hit,JE,HTL.out];rfl
  rw[hit] at HA2;clear hit HRt;go_wp2_with fail;refine HA2.out.mono ?_;rintro e w2 ⟨rfl,hat2,hf2⟩;have HF2:=aB (HFt.out.trans hf2);have HB2:=aB (hf2.keepB HBt.out htb);clear hf2;obtain⟨rE,hrE⟩:∃rE,rE=aL C.ts [59] (E (p+1)):=⟨_,rfl⟩;have HR3:Hid (r=bU (fun v=>aQ [114,101,116,117,114,110] pl [] [v]) rE):=by show _=_;rw[HR2.out,hrE]
  have hE0:aL C.ts [59] (E (p+1))≠.error 0:=fun e=>HNE.out (by rw[HR3.out,hrE,e];rfl)
  have HRE:=aB hrE;have HX:=aB (HLA.out w2.drew (p+1) hat2.drew hE0);simp only[<-HRE.out] at HX;have c0:=aA HB2.out (i:=0) rfl;have hz3:=aD HB2.out;have hs3:=HF2.out.size;clear hat2 hE0 hrE HR2;cases rE with
  |error l=>
   have HL:Hid (r=.error l):=HR3.out;go_wp2_with fail;go_region_law (refine thrown .nilIface ?_ ?_;(focus go_simp;go_at_call 302;refine HX.out.mono ?_;rintro e w4 ⟨hf4,rfl⟩;exact And.intro rfl (Out.err HL.out (HF2.out.drew.trans hf4)));intro hfalse)
   all_goals exact hfalse.out.elim
  |ok aq=>
   obtain⟨a,q⟩:=aq;have HL:Hid (r=.ok (aQ [114,101,116,117,114,110] pl [] [a],q)):=HR3.out;clear HR3;go_wp2_with fail;go_region_law (go_simp;go_at_call 302;refine HX.out.mono ?_;rintro e w4 ⟨hf4,hp4,v4,rfl,hn4⟩;obtain⟨T4,cs4,rfl⟩:=hn4.form;have HF4:=aB ((Fr.refl C.pb w2).drew.trans hf4);have HN4:=aB hn4;have HP4:=aB hp4;have HB4:=aB (HF4.out.keepB HB2.out htb);have d2:=aA HB4.out (i:=0) rfl;have hy4:=aD HB4.out;clear hf4 hp4 hn4)
   all_goals (go_wp2_with fail;go_ret)
   all_goals exact Out.ok HL.out (HF2.out.trans HF4.out) HP4.out (PN.mk (Or.inr (Or.inr (Or.inr (Or.inr (Or.inr (Or.inr (Or.inr (Or.inr (Or.inr (Or.inr (Or.inr (Or.inr (Or.inr (Or.inr (Or.inr (Or.inl (⟨rfl,_,a,rfl,rfl,rfl,rfl⟩))))))))))))))))) (fun p hp=>by obtain rfl:=o8.1 hp;exact Prt.ok.node (HN4.out.grow (fun _ _ _=>rfl) hs3 (l9 _))))
 have HRn:Hid (r=if aX C.ts p [112,114,105,110,116] then iO E C.ts p else eQ E C.ts p):=by show _=_;rw[HR0.out,hit];rfl
 rw[hit] at HA;clear hit HR0;have HR0:=HRn;clear HRn;go_wp2_with fail;refine HA.out.mono ?_;rintro e V4 ⟨rfl,hatn,hfn⟩;have HF1':=aB (HF1.out.trans hfn);have HB1':=aB (hfn.keepB HB1.out htb);have HP1':=aB hatn;clear hfn hatn HA HF1 HB1 HP1;have HF1:=HF1';have HB1:=HB1';have HP1:=HP1';clear HF1' HB1' HP1';have HA:=aB (dG C V4 p ⟨#[112,114,105,110,116]⟩ HP1.out);have ed:(⟨#[112,114,105,110,116]⟩:ByteArray).data.toList=[112,114,105,110,116]:=rfl;rw[ed] at HA;clear ed;cases hit:aX C.ts p [112,114,105,110,116];rotate_left
 ·have HRt:Hid (r=iO E C.ts p):=by show _=_;rw[HR0.out,hit];rfl
  rw[hit] at HA;clear hit HR0;go_wp2_with fail;refine HA.out.mono ?_;rintro e W1 ⟨rfl,hat1,hf1⟩;have HFt:=aB (HF1.out.trans hf1);have HBt:=aB (hf1.keepB HB1.out htb);clear hf1 HA HF1 HP1 HB1;obtain⟨rE,hrE⟩:∃rE,rE=aL C.ts [59] (E (p+1)):=⟨_,rfl⟩;have HR3:Hid (r=bU (fun v=>aQ [112,114,105,110,116] pl [] [v]) rE):=by show _=_;rw[HRt.out,hrE];unfold iO;rw[JE,HTL.out]
  have hE0:aL C.ts [59] (E (p+1))≠.error 0:=fun e=>HNE.out (by rw[HR3.out,hrE,e];rfl)
  have HRE:=aB hrE;have HX:=aB (HLA.out W1.drew (p+1) hat1.drew hE0);simp only[<-HRE.out] at HX;have c0:=aA HBt.out (i:=0) rfl;have hz3:=aD HBt.out;have hs3:=HFt.out.size;clear hat1 hE0 hrE HRt;cases rE with
  |error l=>
   have HL:Hid (r=.error l):=HR3.out;go_wp2_with fail;go_region_law (refine thrown .nilIface ?_ ?_;(focus go_simp;go_at_call 302;refine HX.out.mono ?_;rintro e w4 ⟨hf4,rfl⟩;exact And.intro rfl (Out.err HL.out (HFt.out.drew.trans hf4)));intro hfalse)
   all_goals exact hfalse.out.elim
  |ok aq=>
   obtain⟨a,q⟩:=aq;have HL:Hid (r=.ok (aQ [112,114,105,110,116] pl [] [a],q)):=HR3.out;clear HR3;go_wp2_with fail;go_region_law (go_simp;go_at_call 302;refine HX.out.mono ?_;rintro e w4 ⟨hf4,hp4,v4,rfl,hn4⟩;obtain⟨T4,cs4,rfl⟩:=hn4.form;have HF4:=aB ((Fr.refl C.pb W1).drew.trans hf4);have HN4:=aB hn4;have HP4:=aB hp4;have HB4:=aB (HF4.out.keepB HBt.out htb);have d2:=aA HB4.out (i:=0) rfl;have hy4:=aD HB4.out;clear hf4 hp4 hn4)
   all_goals (go_wp2_with fail;go_ret)
   all_goals exact Out.ok HL.out (HFt.out.trans HF4.out) HP4.out (PN.mk (Or.inr (Or.inr (Or.inr (Or.inr (Or.inr (Or.inr (Or.inr (Or.inr (Or.inr (Or.inr (Or.inr (Or.inr (Or.inr (Or.inr (Or.inr (Or.inr (Or.inl (⟨rfl,_,a,rfl,rfl,rfl,rfl⟩)))))))))))))))))) (fun p hp=>by obtain rfl:=o8.1 hp;exact Prt.ok.node (HN4.out.grow (fun _ _ _=>rfl) hs3 (l9 _))))
 have HRn:Hid (r=eQ E C.ts p):=by show _=_;rw[HR0.out,hit];rfl
 rw[hit] at HA;clear hit HR0;have HR0:=HRn;clear HRn;go_wp2_with fail;refine HA.out.mono ?_;rintro e V5 ⟨rfl,hatn,hfn⟩;have HF1':=aB (HF1.out.trans hfn);have HB1':=aB (hfn.keepB HB1.out htb);have HP1':=aB hatn;clear hfn hatn HA HF1 HB1 HP1;have HF1:=HF1';have HB1:=HB1';have HP1:=HP1';clear HF1' HB1' HP1';have HX:=aB (HSI.out V5 p HP1.out (by rw[<-HR0.out];exact HNE.out))
 rw[<-HR0.out] at HX;have hs0:=HF1.out.size;clear HR0;go_wp2_with fail;refine HX.out.mono ?_;rintro e w3 ⟨hf3,ho3⟩;cases r with
 |error l=>
  obtain rfl:e=dC 4 l:=ho3;have HF3:=aB (HF1.out.trans hf3);clear hf3;go_wp2_with fail;exact⟨rfl,Out.err rfl HF3.out⟩
 |ok aq=>
  obtain⟨a,q⟩:=aq;obtain⟨hp3,v3,rfl,hn3⟩:=ho3;have HF3:=aB (HF1.out.trans hf3);have HP3:=aB hp3;have HN3:=aB hn3;clear hf3 hp3 hn3;go_wp2_with fail;go_ret;exact Out.ok rfl HF3.out HP3.out (HN3.out.grow (fun _ _ _=>rfl) hs0 (l9 _))
def N5(C:Ctx)(S:Nat->bS aC)(w:World)(r0:bS (List aC))(k:Nat)(v:Value)(wr:World):Prop:=
 Fr C.pb w wr/\∃q acc,PAt C wr q/\r0=dJ S C.ts k q acc/\acc.length+k<=4000/\PLst w.heap.size wr v acc
theorem VI(C:Ctx)(S:Nat->bS aC)(HS:PReads C 257 S):
 BReads C 187 (fun p=>if aX C.ts p [123] then bU (aQ [98,108,111,99,107] (aO C.ts p).line []) (aL C.ts [125] (dJ S C.ts (C.ts.length+1) (p+1) [])) else Hs.bad C.ts p):=by
 obtain⟨i0,hi,hz0,hz1,hz2⟩:=info_parts CV;intro w p h hne;have HXP:=aB (fU C w p ⟨#[123]⟩ h);have ed:(⟨#[123]⟩:ByteArray).data.toList=[123]:=rfl;rw[ed] at HXP;have HSS:=aB HS;have hlen:=h.len;have hpb:=h.pb_lt;have hgb:=h.g_lt;show Calls _ _ _ _ (i8 C w (if aX C.ts p [123] then bU (aQ [98,108,111,99,107] (aO C.ts p).line []) (aL C.ts [125] (dJ S C.ts (C.ts.length+1) (p+1) [])) else Hs.bad C.ts p))
 obtain⟨r,hr⟩:∃r,r=(if aX C.ts p [123] then bU (aQ [98,108,111,99,107] (aO C.ts p).line []) (aL C.ts [125] (dJ S C.ts (C.ts.length+1) (p+1) [])) else Hs.bad C.ts p):=⟨_,rfl⟩
 have hne2:r≠.error 0:=hr▸hne;rw[<-hr];have HR:=aB hr;have HNE:=aB hne2;clear h HS hne hr hne2 ed;cases hit:aX C.ts p [123]
 ·have HL:Hid (r=.error (aO C.ts p).line):=by show _=_;rw[HR.out,hit];rfl
  rw[hit] at HXP;clear hit HR;go_enter Tryz.func187,Tryz.ntmps187;go_wp2_with fail;refine HXP.out.mono ?_;rintro e w1 ⟨hf1,he1⟩;obtain rfl:e=dC 4 (aO C.ts p).line:=he1;have HF1:=aB hf1;clear hf1;go_wp2_with fail;exact⟨rfl,Out.err HL.out HF1.out⟩
 obtain⟨r0,hr0⟩:∃r0,r0=dJ S C.ts (C.ts.length+1) (p+1) []:=⟨_,rfl⟩;have HR1:Hid (r=bU (aQ [98,108,111,99,107] (aO C.ts p).line []) (aL C.ts [125] r0)):=by show _=_;rw[HR.out,hit,hr0];rfl
 have HNE0:Hid (r0≠.error 0):=fun e=>HNE.out (by rw[HR1.out,e];rfl)
 have HR0:=aB hr0;rw[hit] at HXP;clear hit HR hr0;go_enter Tryz.func187,Tryz.ntmps187;go_wp2_with fail;refine HXP.out.mono ?_;rintro e w1 ⟨hf1,he1⟩;obtain⟨rfl,hp1⟩:=he1;have HI:Hid (N5 C S w r0 (C.ts.length+1) (.slice none 0 0) w1):=⟨hf1,p+1,[],hp1,HR0.out,by simp;omega,PLst.nil _ _⟩
 clear hf1 hp1 HXP HR0;go_wp2_with fail;go_loopg [3] (C.ts.length+1) (fun k v wr=>N5 C S w r0 k v wr)
 case atStart=>exact HI.out
 case round=>
  obtain⟨hf4,q4,acc,hp4,hr4,hal,hls⟩:=hrel;obtain⟨x4,c4,rfl⟩:=hls.slice;have HAC:=aB (dG C wr q4 ⟨#[125]⟩ hp4);have ed:(⟨#[125]⟩:ByteArray).data.toList=[125]:=rfl;rw[ed] at HAC;have HF4:=aB hf4;have HLS:=aB hls;have hs4:=hf4.size
  obtain⟨k,rfl⟩:∃k,gk=k+1:=by
   cases gk with
   |zero=>exact absurd hr4 HNE0.out
   |succ k=>exact⟨k,rfl⟩
  clear hf4 hp4 hls HI ed;cases hit:aX C.ts q4 [125];rotate_left
  ·have HL:Hid (r=.ok (aQ [98,108,111,99,107] (aO C.ts p).line [] acc,q4+1)):=by show _=_;rw[HR1.out,hr4,dJ,if_pos hit,nM hit];rfl
   rw[hit] at HAC;clear hit hr4;go_wp2_with fail;refine HAC.out.mono ?_;rintro e w5 ⟨rfl,hp5,hf5⟩;have HP5:=aB hp5;have HF5:=aB (HF4.out.trans hf5);have HL5:=aB (HLS.out.keep hf5 hpb);clear hp5 hf5;go_wp2_with fail;go_ret;exact Out.ok HL.out HF5.out HP5.out ⟨rfl,HL5.out.kid⟩
  ·obtain⟨rE,hrE⟩:∃rE,rE=S q4:=⟨_,rfl⟩
   have HR4:Hid (r0=bO rE fun i q=>dJ S C.ts k q (acc++[i])):=by
    show _=_
    rw[hr4,dJ,if_neg (by rw[hit];simp),hrE]
    cases S q4<;>rfl
   have hE0:S q4≠.error 0:=fun e=>HNE0.out (by rw[HR4.out,hrE,e];rfl)
   have HRE:=aB hrE;rw[hit] at HAC;clear hit hr4 hrE;go_wp2_with fail;refine HAC.out.mono ?_;rintro e w5 ⟨rfl,hp5,hf5⟩;have HX:=aB (HSS.out w5 q4 hp5 hE0);simp only[<-HRE.out] at HX;have HF5:=aB (HF4.out.trans hf5);have HL5:=aB (HLS.out.keep hf5 hpb);have hs5:=hf5.size;clear hp5 hf5 HAC HLS hE0;cases rE with
   |error l=>
    have HL:Hid (r=.error l):=by show _=_;rw[HR1.out,HR4.out];rfl
    go_wp2_with fail;refine HX.out.mono ?_;rintro e w6 ⟨hf6,rfl⟩;have HF6:=aB (HF5.out.trans hf6);clear hf6 HX;go_wp2_with fail;exact⟨rfl,Out.err HL.out HF6.out⟩
   |ok aq6=>
    obtain⟨a6,q6⟩:=aq6;have HR5:Hid (r0=dJ S C.ts k q6 (acc++[a6])):=HR4.out;clear HR4;go_wp2_with fail;refine HX.out.mono ?_;rintro e w6 ⟨hf6,hp6,v6,rfl,hn6⟩;obtain⟨T6,cs6,rfl⟩:=hn6.form;obtain⟨vs,F,hown,hall,hFF⟩:=HL5.out.keep hf6 hpb
    have hrb:∀g,(Value.slice x4 acc.length c4).ownBlock=some g->g<w5.heap.size:=by
     obtain⟨vs',F',hown',_⟩:=HL5.out;exact cK hown'
    have HRB:=aB hrb;have HF6:=aB (HF5.out.trans hf6);have HP6:=aB hp6;have HN6:=aB hn6;have HALL:=aB (And.intro hall hFF);have hs6:=hf6.size;have hge:∀k,(Value.slice x4 acc.length c4).ownBlock=some k->w.heap.size<=k:=bX hown;clear hp6 hf6 hn6 HX HL5 HF5 hall hFF hrb;go_wp2_with (at_builtin;refine wpList_append_lies _ (by rfl) _ _ 213 (by rfl) w.heap.size 122 i0 _ 1 16 Tryz.underlying213 hi hz0 hz1 hz2 rfl (by decide) _ _ _ (by rfl) (hown.alloc _) ⟨w6.heap.size,0,none⟩ 1 1 [.iface T6 (.agg cs6)] (by rfl) (by rfl) (rL _ _) (uP _ _) (by decide) (by unfold maxLen;omega) (by omega) (by simp;omega) (w6.heap.size+1) (by simp) ?_)
    intro g7 cap7 w9 hown9 hgrow9 hat9 hg9;have HL9:=aB (PLst.snoc (lo:=w5.heap.size) HALL.out.1 HALL.out.2 HN6.out (by omega) HRB.out (fun k hk=>o9 _ _ _ hk) (by simp) hown9 hgrow9 (hat9.imp_right (fun e=>by omega)))
    have HP9:=aB ((HP6.out.alloc _).grown (base:=w.heap.size) hgrow9 hge hpb hgb);have HF9:=aB ((HF6.out.alloc _).grown hgrow9 hge);clear hown hown9 hgrow9 hat9 HN6 HP6 HF6 HALL HRB hge;go_wp2_with fail;go_roundg k
    case measure=>omega
    case rel=>exact⟨HF9.out,q6,acc++[a6],HP9.out,HR5.out,by simp;omega,by simpa using HL9.out⟩
theorem IX(C:Ctx)(f:Nat):∀g,BReads C 187 (iS (fD C.ts f) C.ts g)
 |0=>fun _ _ _ hne=>absurd rfl hne
 |g+1=>fun w p h hne=>VI C (iX (fD C.ts f) (iS (fD C.ts f) C.ts g) C.ts) (E4 C _ _ (IT C f) (IX C f g)) w p h hne
theorem K5:(prog.info? 211).map (fun i=>(i.zero,i.size,i.bytes))=some (some (.agg #[.int .i64 0,.string (bs [])]),2,24):=by kernel_rfl
def C6:List aC->List Value
 |[]=>[]
 |a::l=>.int .i64 a.line::.string (bs a.text)::C6 l
theorem M8(l:List aC)(a:aC):C6 (l++[a])=C6 l++[.int .i64 a.line,.string (bs a.text)]:=by
 induction l with
 |nil=>rfl
 |cons x l ih=>simp[C6,ih]
def PNm(F:Nat->Prop)(w:World)(v:Value)(l:List aC):Prop:=
 (∀a∈l,a.op=[112,97,114,97,109])/\((v=.slice none 0 0/\l=[])\/
 ∃g cap cur,v=.slice (some ⟨g,0,none⟩) l.length cap/\F g/\w.heap[g]?=some (.cells cur 211 (0,0))/\l.length<=cap/\cur.toList.take (l.length*2)=C6 l)
theorem PNm.keep{F G:Nat->Prop}{w w':World}{v:Value}{l:List aC}(h:PNm F w v l)(hk:∀b,F b->w'.heap[b]?=w.heap[b]?)(hF:∀b,F b->G b):PNm G w' v l:=by
 obtain⟨h0,h|⟨g,cap,cur,h1,h2,h3,h4⟩⟩:=h
 ·exact⟨h0,Or.inl h⟩
 ·exact⟨h0,Or.inr ⟨g,cap,cur,h1,hF g h2,by rw[hk g h2];exact h3,h4⟩⟩
theorem PNm.slice{F:Nat->Prop}{w:World}{v:Value}{l:List aC}(h:PNm F w v l):∃x c,v=.slice x l.length c:=by
 obtain⟨_,⟨h1,h2⟩|⟨g,cap,cur,h1,_⟩⟩:=h
 ·exact⟨none,0,by rw[h1,h2];rfl⟩
 ·exact⟨_,_,h1⟩
def PNl(base:Nat)(w:World)(v:Value)(acc:List aC):Prop:=(∀a∈acc,a.op=[112,97,114,97,109])/\w.ownsRow base 211 2 v acc.length (C6 acc)
theorem PNl.slice{base:Nat}{w:World}{v:Value}{acc:List aC}(h:PNl base w v acc):∃x c,v=.slice x acc.length c:=by
 rcases h.2.2 with ⟨r1,r2⟩|⟨g,cap,cur,r1,_⟩
 ·exact⟨none,0,by rw[r1,r2]⟩
 ·exact⟨_,cap,r1⟩
theorem PNl.keep{base pb:Nat}{w w1:World}{v:Value}{acc:List aC}(h:PNl base w v acc)(hf:Fr pb w w1)(hp:pb<base):PNl base w1 v acc:=by
 refine⟨h.1,bA h.2 fun k hk=>?_⟩
 have:=bX h.2 k hk;exact hf.block k (cK h.2 k hk) (by omega)
theorem PNl.nm{base:Nat}{w:World}{v:Value}{acc:List aC}(h:PNl base w v acc):PNm (Btw base w.heap.size) w v acc:=by
 rcases h.2.2 with ⟨r1,r2⟩|⟨g,cap,cur,r1,r2,r3,r4,r5,r6,r7⟩
 ·exact⟨h.1,Or.inl ⟨r1,v8 r2⟩⟩
 ·exact⟨h.1,Or.inr ⟨g,cap,cur,r1,⟨r2,aD r3⟩,r3,r4,r7⟩⟩
theorem IB(w:World)(a b:Value):∀j u,([a,b]:List Value)[j]?=some u->(w.alloc (.cells #[a,b] 211)).cell? ((⟨w.heap.size,0,none⟩:Addr).add j)=some u:=by
 intro j u hj;match j,hj with
 |0,hj=>simp at hj;subst hj;simp[Addr.add,go_sem]
 |1,hj=>simp at hj;subst hj;simp[Addr.add,go_sem]
 |j+2,hj=>simp at hj
theorem OI(l:Int)(b:ByteArray):∀u∈([.int .i64 l,.string b]:List Value),u.oneCell'=true:=by
 intro u hu;simp at hu;rcases hu with rfl|rfl<;>rfl
def M6(C:Ctx)(w:World)(r0:bS (List aC))(k:Nat)(v:Value)(wr:World):Prop:=
 Fr C.pb w wr/\∃q acc,PAt C wr q/\r0=(if aX C.ts q [44] then cR C.ts k (q+1) acc else .ok (acc,q))/\acc.length+k<=4000/\PNl w.heap.size wr v acc
def pnode(t:aP):aC:=aQ [112,97,114,97,109] t.line t.text []
theorem VU{ts:List aP}{k p:Nat}{acc:List aC}(h:((aO ts p).sort==110)=true):cR ts (k+1) p acc=if aX ts (p+1) [44] then cR ts k (p+1+1) (acc++[pnode (aO ts p)]) else .ok (acc++[pnode (aO ts p)],p+1):=by
 rw[cR,if_pos h];rfl
theorem I0{ts:List aP}{k p:Nat}{acc:List aC}(h:((aO ts p).sort==110)=false):cR ts (k+1) p acc=.error (aO ts p).line:=by
 rw[cR,if_neg (by rw[h];simp)];rfl
def PNs(lo:Nat)(w':World)(v:Value)(l:List aC):Prop:=PNm (Btw lo w'.heap.size) w' v l
theorem SY(C:Ctx)(w:World)(p:Nat)(h:PAt C w p)(r:bS (List aC))(hr:r=if aX C.ts p [40] then gV C.ts (p+1) else Hs.bad C.ts p)(hne:r≠.error 0):
 Calls prog 186 #[.pointer (some ⟨C.pb,0,none⟩)] w (Out C w r (PNs w.heap.size)):=by
 obtain⟨i0,hi,hz0,hz1,hz2⟩:=info_parts K5;have HXP:=aB (fU C w p ⟨#[40]⟩ h);have ed:(⟨#[40]⟩:ByteArray).data.toList=[40]:=rfl;rw[ed] at HXP;have hlen:=h.len;have hpb:=h.pb_lt;have hgb:=h.g_lt;have HR:=aB hr;have HNE:=aB hne;clear h hr hne ed;cases hit:aX C.ts p [40]
 ·have HL:Hid (r=.error (aO C.ts p).line):=by show _=_;rw[HR.out,hit];rfl
  rw[hit] at HXP;clear hit HR;go_enter Tryz.func186,Tryz.ntmps186;go_wp2_with fail;refine HXP.out.mono ?_;rintro e w1 ⟨hf1,he1⟩;obtain rfl:e=dC 4 (aO C.ts p).line:=he1;have HF1:=aB hf1;clear hf1;go_wp2_with fail;exact⟨rfl,Out.err HL.out HF1.out⟩
 have HR1:Hid (r=aL C.ts [41] (if aX C.ts (p+1) [41] then .ok ([],p+1) else cR C.ts (C.ts.length+1) (p+1) [])):=by show _=_;rw[HR.out,hit];rfl
 rw[hit] at HXP;clear hit HR;go_enter Tryz.func186,Tryz.ntmps186;go_wp2_with fail;refine HXP.out.mono ?_;rintro e w1 ⟨hf1,he1⟩;obtain⟨rfl,hp1⟩:=he1;have HA:=aB (dG C w1 (p+1) ⟨#[41]⟩ hp1);have ed:(⟨#[41]⟩:ByteArray).data.toList=[41]:=rfl;rw[ed] at HA;have HF1:=aB hf1;clear hf1 hp1 HXP ed;cases hit:aX C.ts (p+1) [41];rotate_left
 ·have HL:Hid (r=.ok ([],p+1+1)):=by show _=_;rw[HR1.out,if_pos hit,nM hit]
  rw[hit] at HA;clear hit HR1;go_wp2_with fail;refine HA.out.mono ?_;rintro e w2 ⟨rfl,hp2,hf2⟩;have HF2:=aB (HF1.out.trans hf2);have HP2:=aB hp2;clear hf2 hp2;go_wp2_with fail;go_ret;exact Out.ok HL.out HF2.out HP2.out ⟨fun _ h=>(by cases h),Or.inl ⟨rfl,rfl⟩⟩
 obtain⟨r0,hr0⟩:∃r0,r0=cR C.ts (C.ts.length+1) (p+1) []:=⟨_,rfl⟩;have HR2:Hid (r=aL C.ts [41] r0):=by show _=_;rw[HR1.out,if_neg (by rw[hit];simp),hr0]
 have HNE0:Hid (r0≠.error 0):=fun e=>HNE.out (by rw[HR2.out,e];rfl)
 have HR0:=aB hr0;rw[hit] at HA;clear hit HR1 hr0;go_wp2_with fail;refine HA.out.mono ?_;rintro e w2 ⟨rfl,hp2,hf2⟩;have HNM:=aB (mF C w2 (p+1) hp2);have HF2:=aB (HF1.out.trans hf2);clear hf2 hp2 HA HF1;cases hs:((aO C.ts (p+1)).sort==110)
 ·have HL:Hid (r=.error (aO C.ts (p+1)).line):=by show _=_;rw[HR2.out,HR0.out,I0 hs];rfl
  rw[hs] at HNM;clear hs HR0 HR2;go_wp2_with fail;refine HNM.out.mono ?_;rintro e w3 ⟨hf3,he3⟩;obtain rfl:e=dC 4 (aO C.ts (p+1)).line:=he3;have HF3:=aB (HF2.out.trans hf3);clear hf3;go_wp2_with fail;exact⟨rfl,Out.err HL.out HF3.out⟩
 have HR3:Hid (r0=if aX C.ts (p+1+1) [44] then cR C.ts C.ts.length (p+1+1+1) [pnode (aO C.ts (p+1))] else .ok ([pnode (aO C.ts (p+1))],p+1+1)):=by show _=_;rw[HR0.out,VU hs];rfl
 rw[hs] at HNM;clear hs HR0;generalize aO C.ts (p+1)=t at*;go_wp2_with fail;refine HNM.out.mono ?_;rintro e w3 ⟨hf3,he3⟩;obtain⟨rfl,hp3⟩:=he3;have HF3:=aB (HF2.out.trans hf3);have HP3:=aB hp3;have hs3:=HF3.out.size;clear hf3 hp3 HNM HF2;go_wp2_with (at_builtin;refine wpList_append_lies _ (by rfl) _ _ 212 (by rfl) w.heap.size 211 i0 _ 2 24 Tryz.underlying212 hi hz0 hz1 hz2 rfl (by decide) (.slice none 0 0) 0 [] (by rfl) (World.ownsRow_nil _ _ _ _) ⟨w3.heap.size,0,none⟩ 1 1 [.int .i64 t.line,.string (bs t.text)] (by rfl) (by rfl) (IB _ _ _) (OI _ _) (by decide) (by unfold maxLen;omega) (by omega) (by simp;omega) (w3.heap.size+1) (by simp) ?_)
 intro g4 cap4 w4 hown4 hgrow4 hat4 hg4;have HP4:=aB ((HP3.out.alloc _).grown (base:=w.heap.size) hgrow4 (fun k hk=>by cases hk) hpb hgb)
 have HF4:=aB ((HF3.out.alloc _).grown hgrow4 (fun k hk=>by cases hk))
 have HI:Hid (M6 C w r0 C.ts.length (.slice (some ⟨g4,0,none⟩) 1 cap4) w4):=⟨HF4.out,p+1+1,[pnode t],HP4.out,HR3.out,by simp;omega,by intro a ha;rw[o8.1 ha];rfl,hown4⟩
 clear hown4 hgrow4 hat4 HR3 HP3 HF3 HP4 HF4;go_wp2_with fail;go_loopg [3] C.ts.length (fun k v wr=>M6 C w r0 k v wr)
 case atStart=>exact HI.out
 case round=>
  obtain⟨hf4,q4,acc,hp4,hr4,hal,hls⟩:=hrel;obtain⟨x4,c4,rfl⟩:=hls.slice;have HAC:=aB (dG C wr q4 ⟨#[44]⟩ hp4);have ed:(⟨#[44]⟩:ByteArray).data.toList=[44]:=rfl;rw[ed] at HAC;have HF4:=aB hf4;have HLS:=aB hls;have hs4:=hf4.size;clear hf4 hp4 hls HI ed;cases hit:aX C.ts q4 [44]
  ·have HR4:Hid (r0=.ok (acc,q4)):=by show _=_;rw[hr4,hit];rfl
   rw[hit] at HAC;clear hit hr4;go_wp2_with fail;refine HAC.out.mono ?_;rintro e w5 ⟨rfl,hp5,hf5⟩;have HXP:=aB (fU C w5 q4 ⟨#[41]⟩ hp5);have ed:(⟨#[41]⟩:ByteArray).data.toList=[41]:=rfl;rw[ed] at HXP;have HF5:=aB (HF4.out.trans hf5);have HL5:=aB (HLS.out.keep hf5 hpb);clear hp5 hf5 HAC HLS ed;cases hit:aX C.ts q4 [41]
   ·have HL:Hid (r=.error (aO C.ts q4).line):=by show _=_;rw[HR2.out,HR4.out];exact xF hit
    rw[hit] at HXP;clear hit HR4 HR2;go_wp2_with fail;refine HXP.out.mono ?_;rintro e w6 ⟨hf6,he6⟩;obtain rfl:e=dC 4 (aO C.ts q4).line:=he6;have HF6:=aB (HF5.out.trans hf6);clear hf6;go_wp2_with fail;exact⟨rfl,Out.err HL.out HF6.out⟩
   ·have HL:Hid (r=.ok (acc,q4+1)):=by show _=_;rw[HR2.out,HR4.out];exact nM hit
    rw[hit] at HXP;clear hit HR4 HR2;go_wp2_with fail;refine HXP.out.mono ?_;rintro e w6 ⟨hf6,he6⟩;obtain⟨rfl,hp6⟩:=he6;have HF6:=aB (HF5.out.trans hf6);have HP6:=aB hp6;have HL6:=aB (HL5.out.keep hf6 hpb);clear hf6 hp6 HL5;go_wp2_with fail;go_ret;exact Out.ok HL.out HF6.out HP6.out HL6.out.nm
  ·have HR4:Hid (r0=cR C.ts gk (q4+1) acc):=by show _=_;rw[hr4,hit];rfl
   rw[hit] at HAC;clear hit hr4
   obtain⟨k,rfl⟩:∃k,gk=k+1:=by
    cases gk with
    |zero=>exact absurd HR4.out HNE0.out
    |succ k=>exact⟨k,rfl⟩
   go_wp2_with fail;refine HAC.out.mono ?_;rintro e w5 ⟨rfl,hp5,hf5⟩;have HNM:=aB (mF C w5 (q4+1) hp5);have HF5:=aB (HF4.out.trans hf5);have HL5:=aB (HLS.out.keep hf5 hpb);clear hp5 hf5 HAC HLS;cases hs:((aO C.ts (q4+1)).sort==110)
   ·have HL:Hid (r=.error (aO C.ts (q4+1)).line):=by show _=_;rw[HR2.out,HR4.out,I0 hs];rfl
    rw[hs] at HNM;clear hs HR4 HR2;go_wp2_with fail;refine HNM.out.mono ?_;rintro e w6 ⟨hf6,he6⟩;obtain rfl:e=dC 4 (aO C.ts (q4+1)).line:=he6;have HF6:=aB (HF5.out.trans hf6);clear hf6;go_wp2_with fail;exact⟨rfl,Out.err HL.out HF6.out⟩
   ·have HR5:Hid (r0=if aX C.ts (q4+1+1) [44] then cR C.ts k (q4+1+1+1) (acc++[pnode (aO C.ts (q4+1))]) else .ok (acc++[pnode (aO C.ts (q4+1))],q4+1+1)):=by show _=_;rw[HR4.out,VU hs]
    rw[hs] at HNM;clear hs HR4;generalize aO C.ts (q4+1)=t5 at*;go_wp2_with fail;refine HNM.out.mono ?_;rintro e w6 ⟨hf6,he6⟩;obtain⟨rfl,hp6⟩:=he6;have HF6:=aB (HF5.out.trans hf6);have HP6:=aB hp6;have hown:=(HL5.out.keep hf6 hpb).2;have HOP:=aB HL5.out.1;have hs6:=HF6.out.size;have hge:∀k,(Value.slice x4 acc.length c4).ownBlock=some k->w.heap.size<=k:=bX hown;clear hf6 hp6 HNM HF5 HL5;go_wp2_with (at_builtin;refine wpList_append_lies _ (by rfl) _ _ 212 (by rfl) w.heap.size 211 i0 _ 2 24 Tryz.underlying212 hi hz0 hz1 hz2 rfl (by decide) _ _ _ (by rfl) (hown.alloc _) ⟨w6.heap.size,0,none⟩ 1 1 [.int .i64 t5.line,.string (bs t5.text)] (by rfl) (by rfl) (IB _ _ _) (OI _ _) (by decide) (by unfold maxLen;omega) (by omega) (by simp;omega) (w6.heap.size+1) (by simp) ?_)
    intro g7 cap7 w7 hown7 hgrow7 hat7 hg7;have HP7:=aB ((HP6.out.alloc _).grown (base:=w.heap.size) hgrow7 hge hpb hgb);have HF7:=aB ((HF6.out.alloc _).grown hgrow7 hge)
    have HO7:Hid (PNl w.heap.size w7 (.slice (some ⟨g7,0,none⟩) (acc.length+1) cap7) (acc++[pnode t5])):=by
     refine⟨fun a ha=>?_,?_⟩
     ·rcases o7.1 ha with h|h
      ·exact HOP.out a h
      ·rw[o8.1 h];rfl
     ·rw[M8,m6];exact hown7
    clear hown hown7 hgrow7 hat7 HP6 HF6 hge HOP;go_wp2_with fail;go_roundg k
    case measure=>omega
    case rel=>exact⟨HF7.out,q4+1+1,_,HP7.out,HR5.out,by simp;omega,HO7.out⟩
def zX(F:Nat->Prop)(w:World)(v:Value)(f:aC):Prop:=
 ∃pv bv ps b,v=.agg #[.int .i64 f.line,.string (bs f.text),pv,bv]/\f.kids=ps++[b]/\PNm F w pv ps/\b.op=[98,108,111,99,107]/\PKid F w bv b.kids
theorem zX.keep{F G:Nat->Prop}{w w':World}{v:Value}{f:aC}(h:zX F w v f)(hk:∀b,F b->w'.heap[b]?=w.heap[b]?)(hF:∀b,F b->G b):zX G w' v f:=by
 obtain⟨pv,bv,ps,b,h1,h2,h3,h4,h5⟩:=h;exact⟨pv,bv,ps,b,h1,h2,h3.keep hk hF,h4,h5.keep hk hF⟩
def j1(lo:Nat)(w:World)(v:Value)(f:aC):Prop:=zX (Btw lo w.heap.size) w v f
theorem K8(C:Ctx)(B:Nat->bS aC)(HB:BReads C 187 B)(w:World)(p:Nat)(h:PAt C w p)(r:bS aC)(hr:r=jS B C.ts p)(hne:r≠.error 0):
 Calls prog 134 #[.pointer (some ⟨C.pb,0,none⟩)] w (Out C w r (j1 w.heap.size)):=by
 obtain⟨rb,hrb⟩:∃rb,rb=w.heap.size:=⟨_,rfl⟩;have HXP:=aB (fU C (w.alloc (.cells #[.int .i64 0,.string ⟨#[]⟩,.slice none 0 0,.slice none 0 0] 215)) p ⟨#[102,117,110,99]⟩ (h.alloc _));have ed:(⟨#[102,117,110,99]⟩:ByteArray).data.toList=[102,117,110,99]:=rfl;rw[ed] at HXP;have HF0:Hid (Fr C.pb w (w.alloc (.cells #[.int .i64 0,.string ⟨#[]⟩,.slice none 0 0,.slice none 0 0] 215))):=(Fr.refl _ _).alloc _;have HRB0:Hid ((w.alloc (.cells #[.int .i64 0,.string ⟨#[]⟩,.slice none 0 0,.slice none 0 0] 215)).heap[w.heap.size]?=some (.cells #[.int .i64 0,.string ⟨#[]⟩,.slice none 0 0,.slice none 0 0] 215 (0,0))):=aT _ _ rfl _;have HBB:=aB HB;have hlen:=h.len;have hpb:=h.pb_lt;have hgb:=h.g_lt;have HR:=aB hr;have HNE:=aB hne;have hrp:w.heap.size≠C.pb:=by omega
 clear h hr hne ed HB hrb rb;cases hit:aX C.ts p [102,117,110,99]
 ·have HL:Hid (r=.error (aO C.ts p).line):=by show _=_;rw[HR.out];unfold jS;rw[hit];rfl
  rw[hit] at HXP;clear hit HR;go_enter Tryz.func134,Tryz.ntmps134;go_wp2_with fail;refine HXP.out.mono ?_;rintro e w1 ⟨hf1,he1⟩;obtain rfl:e=dC 4 (aO C.ts p).line:=he1;have HF1:=aB (HF0.out.trans hf1);clear hf1;go_wp2_with fail;exact⟨rfl,Out.err HL.out HF1.out⟩
 obtain⟨t,ht⟩:∃t,t=aO C.ts (p+1):=⟨_,rfl⟩
 have HR1:Hid (r=if t.sort==110 then (if aX C.ts (p+2) [40] then
       bO (gV C.ts (p+3)) fun l q=>bU (fun b=>aQ [102,117,110,99] t.line t.text (l++[b])) (B q)
  else Hs.bad C.ts (p+2)) else Hs.bad C.ts (p+1)):=by show _=_;rw[HR.out];unfold jS;rw[hit,ht];rfl
 have HT:=aB ht;rw[hit] at HXP;clear hit HR ht;go_enter Tryz.func134,Tryz.ntmps134;go_wp2_with fail;refine HXP.out.mono ?_;rintro e w1 ⟨hf1,he1⟩;obtain⟨rfl,hp1⟩:=he1;have HNM:=aB (mF C w1 (p+1) hp1);rw[<-HT.out] at HNM;have HF1:=aB (HF0.out.trans hf1);have HRB1:=aB (hf1.keepB HRB0.out hrp);clear hf1 hp1 HXP HF0 HRB0;cases hs:(t.sort==110)
 ·have HL:Hid (r=.error t.line):=by show _=_;rw[HR1.out,hs];show Hs.bad _ _=_;unfold Hs.bad;rw[<-HT.out]
  rw[hs] at HNM;clear hs HR1;go_wp2_with fail;refine HNM.out.mono ?_;rintro e w2 ⟨hf2,he2⟩;obtain rfl:e=dC 4 t.line:=he2;have HF2:=aB (HF1.out.trans hf2);clear hf2;go_wp2_with fail;exact⟨rfl,Out.err HL.out HF2.out⟩
 obtain⟨rP,hrP⟩:∃rP,rP=(if aX C.ts (p+1+1) [40] then gV C.ts (p+1+1+1) else Hs.bad C.ts (p+1+1)):=⟨_,rfl⟩
 have HR2:Hid (r=bO rP fun l q=>bU (fun b=>aQ [102,117,110,99] t.line t.text (l++[b])) (B q)):=by
  show _=_
  rw[HR1.out,hs,hrP,if_pos rfl];by_cases h40:aX C.ts (p+1+1) [40]=true
  ·rw[if_pos h40,if_pos h40]
  ·rw[if_neg h40,if_neg h40];rfl
 have HRP:=aB hrP;have HP0:Hid (rP≠.error 0):=fun e=>HNE.out (by rw[HR2.out,e];rfl)
 rw[hs] at HNM;clear hs HR1 hrP;go_wp2_with fail;refine HNM.out.mono ?_;rintro e w2 ⟨hf2,he2⟩;obtain⟨rfl,hp2⟩:=he2;have HF2:=aB ((HF1.out.trans hf2).alloc (.cells #[.int .i64 t.line,.string (bs t.text)] 211));have HRB2:=aB ((hf2.alloc (.cells #[.int .i64 t.line,.string (bs t.text)] 211)).keepB HRB1.out hrp);have HNB2:Hid ((w2.alloc (.cells #[.int .i64 t.line,.string (bs t.text)] 211)).heap[w2.heap.size]?=some (.cells #[.int .i64 t.line,.string (bs t.text)] 211 (0,0))):=aT _ _ rfl _;have hnb:w2.heap.size≠C.pb:=by have:=hp2.pb_lt;omega
 have hrs:w.heap.size<w2.heap.size:=m9 (aD HRB1.out) hf2.size;have HPA:=aB (SY C (w2.alloc (.cells #[.int .i64 t.line,.string (bs t.text)] 211)).drew (p+1+1) (hp2.alloc _).drew rP HRP.out HP0.out);clear hf2 hp2 HNM HF1 HRB1 HRP;go_wp2_with fail;generalize hW:w2.alloc (.cells #[.int .i64 t.line,.string (bs t.text)] 211)=W at*;have hWs:W.heap.size=w2.heap.size+1:=by rw[<-hW];simp
 clear hW;have c0:=aA HNB2.out (i:=0) rfl;have c1:=aA HNB2.out (i:=1) rfl;have hz2:=aD HNB2.out;cases rP with
 |error l=>
  have HL:Hid (r=.error l):=HR2.out;have az0:=aA HRB2.out (i:=0) rfl;have az1:=aA HRB2.out (i:=1) rfl;have az2:=aA HRB2.out (i:=2) rfl;have az3:=aA HRB2.out (i:=3) rfl;have ay0:=aE (i:=0) HRB2.out;have ay1:=aE (i:=1) HRB2.out;have ay2:=aE (i:=2) HRB2.out;have ay3:=aE (i:=3) HRB2.out;have ahzr:=aD HRB2.out;go_region_law (first|(refine thrown (.slice none 0 0) ?_ ?_;(focus go_simp;go_at_call 186;refine HPA.out.mono ?_;rintro e w3 ⟨hf3,rfl⟩;exact And.intro rfl (Out.err HL.out (HF2.out.drew.trans hf3)));intro hfalse)|(refine thrown (.slice none 0 0) hfalse.out.elim ?_;intro hfalse2))
  all_goals exact hfalse.out.elim
 |ok lq=>
  obtain⟨l,q⟩:=lq;obtain⟨rB,hrB⟩:∃rB,rB=B q:=⟨_,rfl⟩;have HR3:Hid (r=bU (fun b=>aQ [102,117,110,99] t.line t.text (l++[b])) rB):=by show _=_;rw[HR2.out,hrB];rfl
  have hB0:B q≠.error 0:=fun e=>HNE.out (by rw[HR3.out,hrB,e];rfl)
  have HBL:=aB (fun W (hW:PAt C W q)=>HBB.out W q hW hB0)
  rw[<-hrB] at HBL;clear hrB hB0 HR2;cases rB with
  |error l2=>
   have HL:Hid (r=.error l2):=HR3.out;go_region_law (first|(go_simp;go_at_call 186;refine HPA.out.mono ?_;rintro e w3 ⟨hf3,hp3,v3,rfl,hk3⟩;obtain⟨x3,c3,rfl⟩:=hk3.slice;have HF3:=aB ((Fr.refl C.pb W).drew.trans hf3);have HP3:=aB hp3;have HNB3:=aB (HF3.out.keepB HNB2.out hnb);have d0:=aA HNB3.out (i:=0) rfl;have d1:=aA HNB3.out (i:=1) rfl;have hz3:=aD HNB3.out;have HRB3:=aB (HF3.out.keepB HRB2.out hrp);have az0:=aA HRB3.out (i:=0) rfl;have az1:=aA HRB3.out (i:=1) rfl;have az2:=aA HRB3.out (i:=2) rfl;have az3:=aA HRB3.out (i:=3) rfl;have ay0:=aE (i:=0) HRB3.out;have ay1:=aE (i:=1) HRB3.out;have ay2:=aE (i:=2) HRB3.out;have ay3:=aE (i:=3) HRB3.out;have ahzr:=aD HRB3.out;clear hf3 hp3 hk3)|(refine thrown (.slice none 0 0) ?_ ?_;(focus go_simp;go_at_call 187;refine(HBL.out _ HP3.out).mono ?_;rintro e w4 ⟨hf4,rfl⟩;exact And.intro rfl (Out.err HL.out ((HF2.out.trans HF3.out).trans hf4)));intro hfalse))
   all_goals exact hfalse.out.elim
  |ok bq=>
   obtain⟨b,q4⟩:=bq;have HL:Hid (r=.ok (aQ [102,117,110,99] t.line t.text (l++[b]),q4)):=HR3.out;clear HR3;go_region_law (first|(go_simp;go_at_call 186;refine HPA.out.mono ?_;rintro e w3 ⟨hf3,hp3,v3,rfl,hk3⟩;obtain⟨x3,c3,rfl⟩:=hk3.slice;have HF3:=aB ((Fr.refl C.pb W).drew.trans hf3);have HP3:=aB hp3;have HK3:=aB hk3;have HNB3:=aB (HF3.out.keepB HNB2.out hnb);have HRB3:=aB (HF3.out.keepB HRB2.out hrp);have d0:=aA HNB3.out (i:=0) rfl;have d1:=aA HNB3.out (i:=1) rfl;have hz3:=aD HNB3.out;clear hf3 hp3 hk3)|(go_simp;go_at_call 187;refine(HBL.out _ HP3.out).mono ?_;rintro e w4 ⟨hf4,hp4,v4,rfl,hk4⟩;obtain⟨x4,n4,c4,rfl⟩:=hk4.slice;have HF4:=aB hf4;have HP4:=aB hp4;have HK4:=aB hk4;have HNB4:=aB (HF4.out.keepB HNB3.out hnb);have HRB4:=aB (HF4.out.keepB HRB3.out hrp);have e0:=aA HNB4.out (i:=0) rfl;have e1:=aA HNB4.out (i:=1) rfl;have hz4:=aD HNB4.out;have z0:=aA HRB4.out (i:=0) rfl;have z1:=aA HRB4.out (i:=1) rfl;have z2:=aA HRB4.out (i:=2) rfl;have z3:=aA HRB4.out (i:=3) rfl;have y0:=aE (i:=0) HRB4.out;have y1:=aE (i:=1) HRB4.out;have y2:=aE (i:=2) HRB4.out;have y3:=aE (i:=3) HRB4.out;have hzr:=aD HRB4.out;clear hf4 hp4 hk4))
   all_goals go_wp2_with fail
   all_goals
    refine bodyPost_ret (v:=.agg #[.int .i64 t.line,.string (bs t.text),.slice x3 l.length c3,.slice x4 n4 c4]) (by simp[results,Tryz.results134,go_sem,z0,z1,z2,z3]) rfl ?_
    have hs3:=HF3.out.size;have hs4:=HF4.out.size;have hsz:∀(W:World) (i:Nat) (u:Value),(W.setCell ⟨w.heap.size,i,none⟩ u).heap.size=W.heap.size:=fun W i u=>by simp[World.setCell]
    have hkk:∀k,w.heap.size<k->((((w4.setCell ⟨w.heap.size,0,none⟩ (.int .i64 t.line)).setCell ⟨w.heap.size,1,none⟩ (.string (bs t.text))).setCell ⟨w.heap.size,2,none⟩ (.slice x3 l.length c3)).setCell ⟨w.heap.size,3,none⟩ (.slice x4 n4 c4)).heap[k]?=w4.heap[k]?:=fun k hk=>by
     rw[m7 _ _ _ _ (by show k≠w.heap.size;omega),m7 _ _ _ _ (by show k≠w.heap.size;omega),m7 _ _ _ _ (by show k≠w.heap.size;omega),m7 _ _ _ _ (by show k≠w.heap.size;omega)]
    refine Out.ok HL.out (((((HF2.out.trans (HF3.out.trans HF4.out)).setCell (Or.inr (l9 _)) _).setCell (Or.inr (l9 _)) _).setCell (Or.inr (l9 _)) _).setCell (Or.inr (l9 _)) _) ((((HP4.out.other (by omega) (by omega)).other (by omega) (by omega)).other (by omega) (by omega)).other (by omega) (by omega)) ⟨_,_,l,b,rfl,rfl,?_,HK4.out.1,?_⟩
    ·refine PNm.keep HK3.out (fun k hk=>?_) fun k hk=>⟨?_,?_⟩
     ·have h1:=hk.1;have h1':W.heap.size<=k:=h1;rw[hkk k (by omega),HF4.out.block k hk.2 (by omega)]
     ·have h1':W.heap.size<=k:=hk.1;omega
     ·rw[hsz,hsz,hsz,hsz];exact m9 hk.2 hs4
    ·refine PKid.keep HK4.out.2 (fun k hk=>hkk k (by have:=hk.1;omega)) fun k hk=>⟨?_,?_⟩
     ·have:=hk.1;omega
     ·rw[hsz,hsz,hsz,hsz];exact hk.2
theorem K6:(prog.info? 215).map (fun i=>(i.zero,i.size,i.bytes))=some (some (.agg #[.int .i64 0,.string (bs []),.slice none 0 0,.slice none 0 0]),4,72):=by kernel_rfl
def wY:Value->List Value
 |.agg a=>a.toList
 |v=>[v]
def jN:List Value->List Value
 |[]=>[]
 |v::l=>wY v++jN l
theorem UJ(l:List Value)(v:Value):jN (l++[v])=jN l++wY v:=by
 induction l with
 |nil=>simp[jN]
 |cons x l ih=>simp[jN,ih]
def FSl(F:Nat->Prop)(w:World)(v:Value)(fs:List aC):Prop:=
 (v=.slice none 0 0/\fs=[])\/
 ∃g cap cur us,v=.slice (some ⟨g,0,none⟩) fs.length cap/\F g/\w.heap[g]?=some (.cells cur 215 (0,0))/\fs.length<=cap/\cur.toList.take (fs.length*4)=jN us/\jW (zX F w) us fs
def PFl(base:Nat)(w:World)(v:Value)(acc:List aC):Prop:=
 ∃us F,w.ownsRow base 215 4 v acc.length (jN us)/\jW (zX F w) us acc/\∀b,F b->base<=b/\b<w.heap.size/\v.ownBlock≠some b
theorem PFl.nil(base:Nat)(w:World):PFl base w (.slice none 0 0) []:=⟨[],fun _=>False,World.ownsRow_nil _ _ _ _,trivial,fun _ h=>h.elim⟩
theorem PFl.slice{base:Nat}{w:World}{v:Value}{acc:List aC}(h:PFl base w v acc):∃x c,v=.slice x acc.length c:=by
 obtain⟨vs,F,h1,_⟩:=h;rcases h1.2 with ⟨r1,r2⟩|⟨g,cap,cur,r1,_⟩
 ·exact⟨none,0,by rw[r1,r2]⟩
 ·exact⟨_,cap,r1⟩
theorem PFl.keep{base pb:Nat}{w w1:World}{v:Value}{acc:List aC}(h:PFl base w v acc)(hf:Fr pb w w1)(hp:pb<base):PFl base w1 v acc:=by
 obtain⟨vs,F,h1,h2,h3⟩:=h;refine⟨vs,F,bA h1 fun k hk=>?_,h2.mono fun _ _ h=>h.keep (fun b hb=>?_) (fun _ h=>h),fun b hb=>?_⟩
 ·have:=bX h1 k hk;exact hf.block k (cK h1 k hk) (by omega)
 ·have:=h3 b hb;have:=hf.size;exact⟨by omega,by omega,(h3 b hb).2.2⟩
 ·have:=h3 b hb;exact hf.block b this.2.1 (by omega)
theorem PFl.snoc{base lo:Nat}{w wa w2:World}{v:Value}{acc:List aC}{cv:Value}{a:aC}{g cap:Nat}{us:List Value}{F:Nat->Prop}(h2:jW (zX F w) us acc)(h3:∀b,F b->base<=b/\b<w.heap.size/\v.ownBlock≠some b)
 (hr:zX (Btw lo w.heap.size) w cv a) (hlo:base<=lo) (hrow:∀k,v.ownBlock=some k->k<lo) (hwa:∀k,k<w.heap.size->wa.heap[k]?=w.heap[k]?) (hsz:w.heap.size<=wa.heap.size)
 (hown:w2.ownsRow base 215 4 (.slice (some ⟨g,0,none⟩) (acc.length+1) cap) (acc.length+1) (jN us++wY cv))
 (hgrow:wa.grownBy w2 v.ownBlock) (hat:v.ownBlock=some g\/w.heap.size<=g):PFl base w2 (.slice (some ⟨g,0,none⟩) (acc.length+1) cap) (acc++[a]):=by
 have hk:∀b,(F b\/Btw lo w.heap.size b)->base<=b/\b<w.heap.size/\v.ownBlock≠some b:=by
  rintro b (hb|hb)
  ·exact h3 b hb
  ·exact⟨by have:=hb.1;omega,hb.2,fun e=>by have:=hrow b e;have:=hb.1;omega⟩
 have hkeep:∀b,(F b\/Btw lo w.heap.size b)->w2.heap[b]?=w.heap[b]?:=fun b hb=>by
  have hb':=hk b hb;rw[hgrow.block b (by omega) (fun e=>hb'.2.2 e.symm),hwa b hb'.2.1]
 refine⟨us++[cv],fun b=>F b\/Btw lo w.heap.size b,?_,?_,?_⟩
 ·rw[m6,UJ];exact hown
 ·exact jW.snoc (h2.mono fun _ _ h=>h.keep (fun b hb=>hkeep b (Or.inl hb)) (fun _=>Or.inl)) (hr.keep (fun b hb=>hkeep b (Or.inr hb)) (fun _=>Or.inr))
 ·intro b hb;have hb':=hk b hb;have:=hgrow.size;refine⟨hb'.1,by omega,fun e=>?_⟩
  have e':g=b:=Option.some.inj e;rcases hat with hat|hat
  ·exact hb'.2.2 (by rw[hat,e'])
  ·omega
theorem PFl.fsl{base:Nat}{w:World}{v:Value}{acc:List aC}(h:PFl base w v acc):FSl (Btw base w.heap.size) w v acc:=by
 obtain⟨us,F,h1,h2,h3⟩:=h;rcases h1.2 with ⟨r1,r2⟩|⟨g,cap,cur,r1,r2,r3,r4,r5,r6,r7⟩
 ·exact Or.inl ⟨r1,v8 r2⟩
 ·exact Or.inr ⟨g,cap,cur,us,r1,⟨r2,aD r3⟩,r3,r4,r7,h2.mono fun _ _ h=>h.keep (fun _ _=>rfl) fun b hb=>⟨(h3 b hb).1,(h3 b hb).2.1⟩⟩
theorem XX(a c d:Int)(b:ByteArray)(w:World):(Instr.field 206 (.agg #[.int .i64 a,.string b,.int .i64 c,.int .i64 d]) 0).run prog w=.ok (.int .i64 a) w:=by kernel_rfl
theorem XS{t:aP}(h:nY t):(psort t.sort=4↔t.sort=101):=by
 unfold psort;rcases h with h|⟨h,_⟩|h|⟨h,_⟩|h|h<;>simp[h]
theorem YK(w:World)(a b c d:Value):∀j u,([a,b,c,d]:List Value)[j]?=some u->(w.alloc (.cells #[a,b,c,d] 215)).cell? ((⟨w.heap.size,0,none⟩:Addr).add j)=some u:=by
 intro j u hj;match j,hj with
 |0,hj=>simp at hj;subst hj;simp[Addr.add,go_sem]
 |1,hj=>simp at hj;subst hj;simp[Addr.add,go_sem]
 |2,hj=>simp at hj;subst hj;simp[Addr.add,go_sem]
 |3,hj=>simp at hj;subst hj;simp[Addr.add,go_sem]
 |j+4,hj=>simp at hj
theorem I3(l:Int)(b:ByteArray)(x y:Option Addr)(n m c d:Nat):∀u∈([.int .i64 l,.string b,.slice x n c,.slice y m d]:List Value),u.oneCell'=true:=by
 intro u hu;simp at hu;rcases hu with rfl|rfl|rfl|rfl<;>rfl
def M5(C:Ctx)(X:Nat->bS aC)(w:World)(r:bS (List aC))(k:Nat)(v:Value)(wr:World):Prop:=
 Fr C.pb w wr/\∃q acc,PAt C wr q/\r=eS X C.ts k q acc/\acc.length+k<=4000/\PFl w.heap.size wr v acc
def X7(lo:Nat)(w':World)(v:Value)(l:List aC):Prop:=FSl (Btw lo w'.heap.size) w' v l
theorem XU(C:Ctx)(X:Nat->bS aC)(HX:∀w p,PAt C w p->X p≠.error 0->Calls prog 134 #[.pointer (some ⟨C.pb,0,none⟩)] w (Out C w (X p) (j1 w.heap.size)))(w:World)(p:Nat)(h:PAt C w p)(r:bS (List aC))(hr:r=eS X C.ts (C.ts.length+1) p [])(hne:r≠.error 0):
 Calls prog 77 #[.pointer (some ⟨C.pb,0,none⟩)] w (Out C w r (X7 w.heap.size)):=by
 obtain⟨i0,hi,hz0,hz1,hz2⟩:=info_parts K6;have hlen:=h.len;have hpb:=h.pb_lt;have hgb:=h.g_lt;have HI:Hid (M5 C X w r (C.ts.length+1) (.slice none 0 0) w):=⟨Fr.refl _ _,p,[],h,hr,by simp;omega,PFl.nil _ _⟩
 have HNE:=aB hne;have HXX:=aB HX;have hfl:=XX;clear h hr hne HX;go_enter Tryz.func77,Tryz.ntmps77;go_wp2_with fail;go_loopg [3] (C.ts.length+1) (fun k v wr=>M5 C X w r k v wr)
 case atStart=>exact HI.out
 case round=>
  obtain⟨hf4,q4,acc,hp4,hr4,hal,hls⟩:=hrel;obtain⟨x4,c4,rfl⟩:=hls.slice;have HNX:=aB (mE C wr q4 hp4);simp only[nX] at HNX;have hse:=XS (hp4.tsk.tk q4 hp4.lt);have HF4:=aB hf4;have HLS:=aB hls;have HP4:=aB hp4;have hs4:=hf4.size
  obtain⟨k,rfl⟩:∃k,gk=k+1:=by
   cases gk with
   |zero=>exact absurd hr4 HNE.out
   |succ k=>exact⟨k,rfl⟩
  rw[eS] at hr4;clear hf4 hp4 hls HI;have HR4:=aB hr4;have HSE:=aB hse;clear hr4 hse;generalize aO C.ts q4=t at*;generalize psort t.sort=ps at*;generalize pval t=pv at*;by_cases hs:t.sort=101
  ·have HL:Hid (r=.ok (acc,q4)):=by show _=_;rw[HR4.out,hs];rfl
   obtain rfl:ps=4:=HSE.out.2 hs;clear hs HR4 HSE;go_wp2_with fail;refine HNX.out.mono ?_;rintro e w5 ⟨rfl,hb5⟩;have HB5:=aB hb5;clear hb5;go_wp2_with fail;go_ret;exact Out.ok HL.out (HF4.out.trans (Fr.below HB5.out)) (HP4.out.below HB5.out) (HLS.out.keep (Fr.below HB5.out) hpb).fsl
  ·have hps:((ps:Int) != 4)=true:=by simp;intro e;exact hs (HSE.out.1 (by omega))
   obtain⟨rE,hrE⟩:∃rE,rE=X q4:=⟨_,rfl⟩
   have HR5:Hid (r=bO rE fun i q=>eS X C.ts k q (acc++[i])):=by
    show _=_
    rw[HR4.out,if_neg (by simpa using hs),hrE]
    cases X q4<;>rfl
   have hE0:X q4≠.error 0:=fun e=>HNE.out (by rw[HR5.out,hrE,e];rfl)
   have HRE:=aB hrE;clear hs HR4 HSE hrE;go_wp2_with fail;refine HNX.out.mono ?_;rintro e w5 ⟨rfl,hb5⟩;have HY:=aB (HXX.out w5 q4 (HP4.out.below hb5) hE0);simp only[<-HRE.out] at HY;have HF5:=aB (HF4.out.trans (Fr.below hb5));have HL5:=aB (HLS.out.keep (Fr.below hb5) hpb);have hs5:=hb5.size;clear hb5 HNX HLS hE0 HF4;cases rE with
   |error l=>
    have HL:Hid (r=.error l):=HR5.out;go_wp2_with fail;refine HY.out.mono ?_;rintro e w6 ⟨hf6,rfl⟩;have HF6:=aB (HF5.out.trans hf6);clear hf6;go_wp2_with fail;exact⟨rfl,Out.err HL.out HF6.out⟩
   |ok aq6=>
    obtain⟨a6,q6⟩:=aq6;have HR6:Hid (r=eS X C.ts k q6 (acc++[a6])):=HR5.out;clear HR5;go_wp2_with fail;refine HY.out.mono ?_;rintro e w6 ⟨hf6,hp6,v6,rfl,hn6⟩;have HN6:=aB hn6;obtain⟨pv6,bv6,ps6,b6,hv6, -,hn7, -,hn8⟩:=hn6;obtain⟨x7,c7,rfl⟩:=hn7.slice;obtain⟨x8,c8,rfl⟩:=hn8.slice;subst hv6;obtain⟨us,F,hown,hall,hFF⟩:=HL5.out.keep hf6 hpb
    have hrb:∀g,(Value.slice x4 acc.length c4).ownBlock=some g->g<w5.heap.size:=by
     obtain⟨vs',F',hown',_⟩:=HL5.out;exact cK hown'
    have HRB:=aB hrb;have HF6:=aB (HF5.out.trans hf6);have HP6:=aB hp6;have HALL:=aB (And.intro hall hFF);have hs6:=hf6.size;have hge:∀k,(Value.slice x4 acc.length c4).ownBlock=some k->w.heap.size<=k:=bX hown;clear hp6 hf6 hn7 hn8 HY HL5 HF5 hall hFF hrb;go_wp2_with (at_builtin;refine wpList_append_lies _ (by rfl) _ _ 86 (by rfl) w.heap.size 215 i0 _ 4 72 Tryz.underlying86 hi hz0 hz1 hz2 rfl (by decide) _ _ _ (by rfl) (hown.alloc _) ⟨w6.heap.size,0,none⟩ 1 1 [.int .i64 a6.line,.string (bs a6.text),.slice x7 ps6.length c7,.slice x8 b6.kids.length c8] (by rfl) (by rfl) (YK _ _ _ _ _) (I3 _ _ _ _ _ _ _ _) (by decide) (by unfold maxLen;omega) (by omega) (by simp;omega) (w6.heap.size+1) (by simp) ?_)
    intro g7 cap7 w9 hown9 hgrow9 hat9 hg9;have HL9:=aB (PFl.snoc (lo:=w5.heap.size) HALL.out.1 HALL.out.2 HN6.out (by omega) HRB.out (fun k hk=>o9 _ _ _ hk) (by simp) hown9 hgrow9 (hat9.imp_right (fun e=>by omega)))
    have HP9:=aB ((HP6.out.alloc _).grown (base:=w.heap.size) hgrow9 hge hpb hgb);have HF9:=aB ((HF6.out.alloc _).grown hgrow9 hge);clear hown hown9 hgrow9 hat9 HN6 HP6 HF6 HALL HRB hge;go_wp2_with fail;go_roundg k
    case measure=>omega
    case rel=>exact⟨HF9.out,q6,acc++[a6],HP9.out,HR6.out,by simp;omega,by simpa using HL9.out⟩
theorem NU(C:Ctx)(w:World)(h:PAt C w 0)(hne:jR C.ts≠.error 0):
 Calls prog 77 #[.pointer (some ⟨C.pb,0,none⟩)] w (Out C w (jR C.ts) (X7 w.heap.size)):=
 XU C _ (fun w p h hn=>K8 C _ (IX C (C.ts.length+1) (C.ts.length+1)) w p h _ rfl hn) w 0 h _ rfl hne
end Go.Proofs.YtblbkfdhjfppkaaGreatDoor
