/- Contracts of the program: the ends of statements; calls and assignments. -/
import Derived.Test.YtblbkfdhjfppkaaGreatDoorP05
set_option maxRecDepth 100000
set_option maxHeartbeats 4000000
namespace Go.Proofs.YtblbkfdhjfppkaaGreatDoor
open Hs
open Go.RowKit
theorem JE{α β:Type}(ts:List aP)(x:List UInt8)(f:α->β)(r:bS α):aL ts x (bU f r)=bU f (aL ts x r):=by
 cases r with
 |error l=>rfl
 |ok aq=>
  obtain⟨a,q⟩:=aq;unfold aL bU;simp only;split<;>rfl
theorem OX(C:Ctx)(E:Nat->bS aC)(HE:PReads C 164 E):PReads C 302 (fun p=>aL C.ts [59] (E p)):=by
 intro w p h hne;have hE0:E p≠.error 0:=fun e=>hne (by show aL _ _ _=_;rw[e];rfl)
 have HX:=aB (HE w p h hE0);have hpb:=h.pb_lt;show Calls _ _ _ _ (GJ C w (aL C.ts [59] (E p)))
 obtain⟨r,hr⟩:∃r,r=aL C.ts [59] (E p):=⟨_,rfl⟩;rw[<-hr];generalize E p=rE at*;have HR:=aB hr;clear h HE hne hE0 hr;cases rE with
 |error l=>
  have HL:Hid (r=.error l):=HR.out;go_enter Tryz.func302,Tryz.ntmps302;go_wp2_with fail;refine HX.out.mono ?_;rintro e w1 ⟨hf1,rfl⟩;have HF1:=aB hf1;clear hf1;go_wp2_with fail;exact⟨rfl,Out.err HL.out HF1.out⟩
 |ok aq=>
  obtain⟨a,q⟩:=aq;go_enter Tryz.func302,Tryz.ntmps302;go_wp2_with fail;refine HX.out.mono ?_;rintro e w1 ⟨hf1,hp1,v1,rfl,hn1⟩;obtain⟨T1,cs1,rfl⟩:=hn1.form;have HXP:=aB (fU C w1 q ⟨#[59]⟩ hp1);have ed:(⟨#[59]⟩:ByteArray).data.toList=[59]:=rfl;rw[ed] at HXP;have HF1:=aB hf1;have HN1:=aB hn1;have hs1:=hf1.size;clear hp1 hf1 hn1 HX ed;cases hit:aX C.ts q [59]
  ·have HL:Hid (r=.error (aO C.ts q).line):=by show _=_;rw[HR.out];exact xF hit
   rw[hit] at HXP;clear hit HR;go_wp2_with fail;refine HXP.out.mono ?_;rintro e w7 ⟨hf7,he7⟩;obtain rfl:e=dC 4 (aO C.ts q).line:=he7;have HF7:=aB (HF1.out.trans hf7);clear hf7;go_wp2_with fail;exact⟨rfl,Out.err HL.out HF7.out⟩
  ·have HL:Hid (r=.ok (a,q+1)):=by show _=_;rw[HR.out];exact nM hit
   rw[hit] at HXP;clear hit HR;go_wp2_with fail;refine HXP.out.mono ?_;rintro e w7 ⟨hf7,he7⟩;obtain⟨rfl,hp7⟩:=he7;have HF7:=aB hf7;have HP7:=aB hp7;clear hf7 hp7;go_wp2_with fail;go_ret;exact Out.ok HL.out (HF1.out.trans HF7.out) HP7.out (HN1.out.grow (fun k h1 h2=>HF7.out.block k h2 (by omega)) (l9 _) HF7.out.size)
def pA(C:Ctx)(w:World)(q:Nat)(l:List aC)(t:aP)(v:Value)(wc:World):Prop:=
 ∃cb sv,v=.pointer (some ⟨cb,0,none⟩)/\cb≠C.pb/\Fr C.pb w wc/\PAt C wc q/\wc.heap[cb]?=some (.cells #[.int .i64 t.line,.string (bs t.text),sv] 341 (0,0))/\PKid (Btw w.heap.size wc.heap.size) wc sv l
theorem pA.late{C:Ctx}{w w8 w9:World}{q:Nat}{l:List aC}{t:aP}{sv:Value}(h8:Fr C.pb w w8)(h9:Fr C.pb w8 w9)(hp:PAt C w9 q)(hk:PKid (Btw w8.drew.heap.size w9.heap.size) w9 sv l):
 pA C w q l t (.pointer (some ⟨w9.heap.size,0,none⟩)) (w9.alloc (.cells #[.int .i64 t.line,.string (bs t.text),sv] 341)):=by
 have hpb:=hp.pb_lt;refine⟨w9.heap.size,sv,rfl,by omega,(h8.trans h9).alloc _,hp.alloc _,aT _ _ rfl _,hk.grow (fun k _ h2=>o9 _ _ _ h2) ?_ (by simp)⟩
 exact h8.size
theorem pA.early{C:Ctx}{w w8 w9:World}{q:Nat}{l:List aC}{t:aP}{sv:Value}{cs:Array Value}{o:Obj}(h8:Fr C.pb w w8)(h9:Fr C.pb w8 w9)(hp:PAt C w9 q)(hpb:C.pb<w8.heap.size)(hgb:C.g<w8.heap.size)(hk:PKid (Btw (w8.alloc o).drew.heap.size w9.heap.size) w9 sv l)(hb:w9.heap[w8.heap.size]?=some (.cells cs 341 (0,0)))(hcs:cs.size=3):
 pA C w q l t (.pointer (some ⟨w8.heap.size,0,none⟩)) (((w9.setCell ⟨w8.heap.size,0,none⟩ (.int .i64 t.line)).setCell ⟨w8.heap.size,1,none⟩ (.string (bs t.text))).setCell ⟨w8.heap.size,2,none⟩ sv):=by
 have hs8:=h8.size;have hs:∀(W:World) (i:Nat) (u:Value),(W.setCell ⟨w8.heap.size,i,none⟩ u).heap.size=W.heap.size:=fun W i u=>by simp[World.setCell]
 refine⟨w8.heap.size,sv,rfl,by omega,(((h8.trans h9).setCell (Or.inr hs8) _).setCell (Or.inr hs8) _).setCell (Or.inr hs8) _,((hp.other (by omega) (by omega)).other (by omega) (by omega)).other (by omega) (by omega),?_,?_⟩
 ·rw[aS (aS (aS hb))];congr 1
  match cs,hcs with
  |⟨[a,b,c]⟩,_=>rfl
 ·refine hk.grow (fun k h1 h2=>?_) ?_ ?_
  ·have h1':w8.heap.size<k:=by have:(w8.alloc o).drew.heap.size=w8.heap.size+1:=by simp
                               omega
   rw[m7 _ _ _ _ (by show k≠w8.heap.size;omega),m7 _ _ _ _ (by show k≠w8.heap.size;omega),m7 _ _ _ _ (by show k≠w8.heap.size;omega)]
  ·have:(w8.alloc o).drew.heap.size=w8.heap.size+1:=by simp
   omega
  ·rw[hs,hs,hs];exact l9 _
def WK(C:Ctx)(E:Nat->bS aC)(w w0:World)(r0:bS (List aC))(nb:Nat)(t:aP)(k:Nat)(v:Value)(wr:World):Prop:=
 Fr C.pb w wr/\∃q acc,PAt C wr q/\r0=eR E C.ts k q acc/\acc.length+k<=4000/\PLst w0.heap.size wr v acc/\wr.heap[nb]?=some (.cells #[.int .i64 t.line,.string (bs t.text)] 211 (0,0))/\w0.heap.size<=wr.heap.size
theorem SJ(C:Ctx)(E:Nat->bS aC)(HE:PReads C 164 E):PReads C 304 (eQ E C.ts):=by
 obtain⟨i0,hi,hz0,hz1,hz2⟩:=info_parts CV;intro w p h hne;have HNM:=aB (mF C w p h);have HEE:=aB HE;have HLA:=aB (OX C E HE);have hpb:=h.pb_lt;have hgb:=h.g_lt;have hlen:=h.len;obtain⟨r,hr⟩:∃r,r=eQ E C.ts p:=⟨_,rfl⟩;rw[<-hr] at hne ⊢
 rw[eQ] at hr;have HR4:=aB hr;have HNE:=aB hne;clear h HE hne hr;generalize htk:aO C.ts p=t at*;have HTK:=aB htk;clear htk;cases hs:(t.sort==110)
 ·rw[hs] at HNM;have HL:Hid (r=.error t.line):=by show _=_;rw[HR4.out,hs];show Hs.bad _ _=_;unfold Hs.bad;rw[HTK.out]
  clear hs HR4;go_enter Tryz.func304,Tryz.ntmps304;go_wp2_with fail;refine HNM.out.mono ?_;rintro e w7 ⟨hf7,he7⟩;obtain rfl:e=dC 4 t.line:=he7;have HF7:=aB hf7;clear hf7;go_wp2_with fail;exact⟨rfl,Out.err HL.out HF7.out⟩
 rw[hs] at HNM
 have HR5:Hid (r=if aX C.ts (p+1) [40] then
  bU (fun l=>aQ [100,111] t.line t.text [aQ [99,97,108,108] t.line t.text l]) (aL C.ts [59] (eL E C.ts (p+1) [40] [41]))
  else
   bO (aL C.ts [61] (eR E C.ts (C.ts.length+1) (p+1) [])) fun idx q=>
    bU (fun v=>aQ [115,101,116] t.line t.text (idx++[v])) (aL C.ts [59] (E q))):=by
  show _=_
  rw[HR4.out,hs];simp only[JE];rfl
 clear HR4 hs;go_enter Tryz.func304,Tryz.ntmps304;go_wp2_with fail;refine HNM.out.mono ?_;rintro e w7 ⟨hf7,he7⟩;obtain⟨rfl,hat7⟩:=he7;have HF7:=aB (hf7.alloc (.cells #[.int .i64 t.line,.string (bs t.text)] 211));have HA5:=aB (dG C (w7.alloc (.cells #[.int .i64 t.line,.string (bs t.text)] 211)) (p+1) ⟨#[40]⟩ (hat7.alloc _));have ed5:(⟨#[40]⟩:ByteArray).data.toList=[40]:=rfl;rw[ed5] at HA5;have HNB:Hid ((w7.alloc (.cells #[.int .i64 t.line,.string (bs t.text)] 211)).heap[w7.heap.size]?=some (.cells #[.int .i64 t.line,.string (bs t.text)] 211 (0,0))):=aT _ _ rfl _;have hnb:w7.heap.size≠C.pb:=by have:=hat7.pb_lt;omega
 have hsz7:=hf7.size;clear hf7 hat7 HNM ed5;cases i5:aX C.ts (p+1) [40];rotate_left
 ·rw[i5] at HA5;obtain⟨r1,hr1⟩:∃r1,r1=hP E C.ts (p+1+1) [41]:=⟨_,rfl⟩;have HR6:Hid (r=bU (fun l=>aQ [100,111] t.line t.text [aQ [99,97,108,108] t.line t.text l]) (aL C.ts [59] (aL C.ts [41] r1))):=by show _=_;rw[HR5.out,i5,hr1];unfold eL;rw[i5];rfl
  have HR7:=aB hr1;clear i5 HR5 hr1;go_wp2_with fail;refine HA5.out.mono ?_;rintro e w8 ⟨rfl,hat8,hf8⟩;have HN8:=aB (hf8.keepB HNB.out hnb);have HF8:=aB (HF7.out.trans hf8);have HV:=aB (fun W (hW:PAt C W (p+1+1))=>sX C E HEE.out W (p+1+1) ⟨#[41]⟩ hW r1 _ HR7 rfl (fun e=>HNE.out (by rw[HR6.out,e];rfl)))
  have ed6:(⟨#[41]⟩:ByteArray).data.toList=[41]:=rfl;rw[ed6] at HV;have HP8:=aB hat8;have c0:=aA HN8.out (i:=0) rfl;have c1:=aA HN8.out (i:=1) rfl;have hz8:=aD HN8.out;have hsz8:=HF8.out.size;clear hat8 hf8 HA5 ed6;cases hV:aL C.ts [41] r1 with
  |error l=>
   rw[hV] at HV;have HL:Hid (r=.error l):=by show _=_;rw[HR6.out,hV];rfl
   clear hV;go_wp2_with fail;go_region_law (refine thrown (.slice none 0 0) ?_ ?_;(focus go_simp;go_at_call 329;refine(HV.out _ ?_).mono ?_;(focus first|exact HP8.out.drew|exact(HP8.out.alloc _).drew);rintro e w9 ⟨hf9,rfl⟩;first|exact And.intro rfl (Out.err HL.out (HF8.out.drew.trans hf9))|exact And.intro rfl (Out.err HL.out ((HF8.out.alloc _).drew.trans hf9)));intro hfalse)
   all_goals exact hfalse.out.elim
  |ok lq=>
   obtain⟨l,q⟩:=lq;rw[hV] at HV;have HR8:Hid (r=bU (fun l=>aQ [100,111] t.line t.text [aQ [99,97,108,108] t.line t.text l]) (aL C.ts [59] (.ok (l,q)))):=by show _=_;rw[HR6.out,hV]
   clear hV HR6 HR7;have hpb8:=HP8.out.pb_lt;have hgb8:=HP8.out.g_lt;go_wp2_with fail;go_cut [4] (fun v wc=>pA C w q l t v wc)
   case first=>
    go_region_law (go_simp;go_at_call 329;refine(HV.out _ ?_).mono ?_;(focus first|exact HP8.out.drew|exact(HP8.out.alloc _).drew);rintro e w9 ⟨hf9,hp9,v,rfl,hk⟩;obtain⟨x,c,rfl⟩:=hk.slice;have HK:=aB hk;have HP9:=aB hp9;(first|(have hf9':=hf9;have HF9:=aB (((Fr.refl C.pb w8).alloc (.cells #[.int .i64 0,.string ⟨#[]⟩,.slice none 0 0] 341)).drew.trans hf9);have HB9:=aB (hf9.keepB (b:=w8.heap.size) (o:=.cells #[.int .i64 0,.string ⟨#[]⟩,.slice none 0 0] 341 (0,0)) (aT w8 _ rfl _) (by omega));have z0:=aA HB9.out (i:=0) rfl;have z1:=aA HB9.out (i:=1) rfl;have z2:=aA HB9.out (i:=2) rfl;have y0:=aE (i:=0) HB9.out;have y1:=aE (i:=1) HB9.out;have y2:=aE (i:=2) HB9.out;have hzb:=aD HB9.out;clear hf9')|have HF9:=aB ((Fr.refl C.pb w8).drew.trans hf9));have HN9:=aB (HF9.out.keepB HN8.out hnb);have d0:=aA HN9.out (i:=0) rfl;have d1:=aA HN9.out (i:=1) rfl;have hz9:=aD HN9.out;clear hf9 hp9 hk)
    all_goals
     go_wp2_with fail;go_meet
     case rel=>first|exact pA.late HF8.out HF9.out HP9.out HK.out|exact pA.early HF8.out HF9.out HP9.out hpb8 hgb8 HK.out HB9.out rfl
   case rest=>
    obtain⟨cb,sv,rfl,hcb,hf10,hp10,hb10,hk10⟩:=hcut;obtain⟨x,c,rfl⟩:=hk10.slice;have HXP:=aB (fU C wc q ⟨#[59]⟩ hp10);have ed:(⟨#[59]⟩:ByteArray).data.toList=[59]:=rfl;rw[ed] at HXP;have HF10:=aB hf10;have HB10:=aB hb10;have HK10:=aB hk10;have hs10:=hf10.size;clear hf10 hp10 hb10 hk10 ed HV c0 c1 HN8 hz8 HP8;cases hit:aX C.ts q [59]
    ·have HL:Hid (r=.error (aO C.ts q).line):=by show _=_;rw[HR8.out,xF hit];rfl
     rw[hit] at HXP;clear hit HR8;go_wp2_with fail;refine HXP.out.mono ?_;rintro e w11 ⟨hf11,he11⟩;obtain rfl:e=dC 4 (aO C.ts q).line:=he11;have HF11:=aB (HF10.out.trans hf11);clear hf11;go_wp2_with fail;exact⟨rfl,Out.err HL.out HF11.out⟩
    ·have HL:Hid (r=.ok (aQ [100,111] t.line t.text [aQ [99,97,108,108] t.line t.text l],q+1)):=by show _=_;rw[HR8.out,nM hit];rfl
     rw[hit] at HXP;clear hit HR8;go_wp2_with fail;refine HXP.out.mono ?_;rintro e w11 ⟨hf11,he11⟩;obtain⟨rfl,hp11⟩:=he11;have HF11:=aB hf11;have HP11:=aB hp11;have HB11:=aB (hf11.keepB HB10.out hcb);have m0:=aA HB11.out (i:=0) rfl;have m1:=aA HB11.out (i:=1) rfl;have m2:=aA HB11.out (i:=2) rfl;have hz11:=aD HB11.out;clear hf11 hp11;go_wp2_with fail;go_ret;exact Out.ok HL.out (HF10.out.trans HF11.out) HP11.out (PN.mk (Or.inr (Or.inr (Or.inr (Or.inr (Or.inr (Or.inr (Or.inr (Or.inr (Or.inr (Or.inr (Or.inr (Or.inr (Or.inr (Or.inr (Or.inr (Or.inr (Or.inr (⟨rfl,_,aQ [99,97,108,108] t.line t.text l,rfl,rfl,rfl,rfl,rfl,rfl,rfl⟩)))))))))))))))))) (fun p hp=>by obtain rfl:=o8.1 hp;exact Prt.ok.list (HK10.out.grow (fun k h1 h2=>HF11.out.block k h2 (by omega)) (l9 _) HF11.out.size)))
 rw[i5] at HA5;obtain⟨r0,hr0⟩:∃r0,r0=eR E C.ts (C.ts.length+1) (p+1) []:=⟨_,rfl⟩;have HR6:Hid (r=bO (aL C.ts [61] r0) fun idx q=>bU (fun v=>aQ [115,101,116] t.line t.text (idx++[v])) (aL C.ts [59] (E q))):=by show _=_;rw[HR5.out,i5,hr0];rfl
 have HR0:=aB hr0;have HNE0:Hid (r0≠.error 0):=fun e=>HNE.out (by rw[HR6.out,e];rfl)
 clear i5 HR5 hr0;go_wp2_with fail;refine HA5.out.mono ?_;rintro e w8 ⟨rfl,hat8,hf8⟩;have hpb8:=hat8.pb_lt;have hgb8:=hat8.g_lt;have HN8:=aB (hf8.keepB HNB.out hnb);have hnz8:=aD HN8.out;have hs8:w.heap.size<=w8.heap.size:=(HF7.out.trans hf8).size;have HI:Hid (WK C E w w8 r0 w7.heap.size t (C.ts.length+1) (.slice none 0 0) w8):=⟨HF7.out.trans hf8,p+1,[],hat8,HR0.out,by simp;omega,PLst.nil _ _,HN8.out,l9 _⟩
 clear hat8 hf8 HA5 HNB HN8 HF7;go_wp2_with fail;go_loopg [5] (C.ts.length+1) (fun k v wr=>WK C E w w8 r0 w7.heap.size t k v wr)
 case atStart=>exact HI.out
 case round=>
  obtain⟨hf4,q4,acc,hp4,hr4,hal,hls,hnb4,hbs4⟩:=hrel;obtain⟨x4,c4,rfl⟩:=hls.slice;have HAC:=aB (dG C wr q4 ⟨#[91]⟩ hp4);have ed:(⟨#[91]⟩:ByteArray).data.toList=[91]:=rfl;rw[ed] at HAC;have HF4:=aB hf4;have HLS:=aB hls;have HNB4:=aB hnb4;have hs4:=hf4.size
  obtain⟨k,rfl⟩:∃k,gk=k+1:=by
   cases gk with
   |zero=>exact absurd hr4 HNE0.out
   |succ k=>exact⟨k,rfl⟩
  clear hf4 hp4 hls hnb4 HI HR0 ed;cases hit:aX C.ts q4 [91]
  ·have HR4:Hid (r0=.ok (acc,q4)):=by show _=_;rw[hr4,eR,hit];rfl
   rw[hit] at HAC;clear hit hr4;go_wp2_with fail;refine HAC.out.mono ?_;rintro e w5 ⟨rfl,hp5,hf5⟩;have HXP:=aB (fU C w5 q4 ⟨#[61]⟩ hp5);have ed:(⟨#[61]⟩:ByteArray).data.toList=[61]:=rfl;rw[ed] at HXP;have HF5:=aB (HF4.out.trans hf5);have HL5:=aB (HLS.out.keep hf5 hpb8);have HNB5:=aB (hf5.keepB HNB4.out hnb);have hs5:=hf5.size;clear hp5 hf5 HAC HLS ed HNB4;cases hit:aX C.ts q4 [61]
   ·have HL:Hid (r=.error (aO C.ts q4).line):=by show _=_;rw[HR6.out,HR4.out,xF hit];rfl
    rw[hit] at HXP;clear hit HR6 HR4;go_wp2_with fail;refine HXP.out.mono ?_;rintro e w6 ⟨hf6,he6⟩;obtain rfl:e=dC 4 (aO C.ts q4).line:=he6;have HF6:=aB (HF5.out.trans hf6);clear hf6;go_wp2_with fail;exact⟨rfl,Out.err HL.out HF6.out⟩
   ·obtain⟨rE,hrE⟩:∃rE,rE=aL C.ts [59] (E (q4+1)):=⟨_,rfl⟩;have HR8:Hid (r=bU (fun v=>aQ [115,101,116] t.line t.text (acc++[v])) rE):=by show _=_;rw[HR6.out,HR4.out,nM hit,hrE];rfl
    have hE0:aL C.ts [59] (E (q4+1))≠.error 0:=fun e=>HNE.out (by rw[HR8.out,hrE,e];rfl)
    rw[hit] at HXP;have HRE:=aB hrE;clear hit HR6 HR4 hrE;go_wp2_with fail;refine HXP.out.mono ?_;rintro e w6 ⟨hf6,he6⟩;obtain⟨rfl,hp6⟩:=he6;have HX:=aB (HLA.out w6.drew (q4+1) hp6.drew hE0);simp only[<-HRE.out] at HX;have HF6:=aB (HF5.out.trans hf6);have HL6:=aB (HL5.out.keep hf6 hpb8);have HNB6:=aB (hf6.keepB HNB5.out hnb);have hs6:=hf6.size;have m0:=aA HNB6.out (i:=0) rfl;have m1:=aA HNB6.out (i:=1) rfl;have hz6:=aD HNB6.out;clear hp6 hf6 HXP HL5 HNB5 hE0;cases rE with
    |error l=>
     have HL:Hid (r=.error l):=HR8.out;go_wp2_with fail;go_region_law (refine thrown .nilIface ?_ ?_;(focus go_simp;go_at_call 302;refine HX.out.mono ?_;rintro e w9 ⟨hf9,rfl⟩;exact And.intro rfl (Out.err HL.out (HF6.out.drew.trans hf9)));intro hfalse)
     all_goals exact hfalse.out.elim
    |ok aq=>
     obtain⟨a,q⟩:=aq;have HL:Hid (r=.ok (aQ [115,101,116] t.line t.text (acc++[a]),q)):=HR8.out;clear HR8;go_wp2_with fail;go_region_law (go_simp;go_at_call 302;refine HX.out.mono ?_;rintro e w9 ⟨hf9,hp9,v9,rfl,hn9⟩;obtain⟨T9,cs9,rfl⟩:=hn9.form;have HF9:=aB ((Fr.refl C.pb w6).drew.trans hf9);have HN9:=aB hn9;have HP9:=aB hp9;have HNB9:=aB (HF9.out.keepB HNB6.out hnb);have d0:=aA HNB9.out (i:=0) rfl;have d1:=aA HNB9.out (i:=1) rfl;have hz9:=aD HNB9.out;clear hf9 hp9 hn9)
     all_goals (go_wp2_with fail;go_ret)
     all_goals exact Out.ok HL.out (HF6.out.trans HF9.out) HP9.out (PN.mk (Or.inr (Or.inr (Or.inr (Or.inr (Or.inr (Or.inr (Or.inr (Or.inr (Or.inr (Or.inr (Or.inl (⟨rfl,_,_,acc,a,rfl,rfl,rfl,rfl⟩)))))))))))) (fun p hp=>by
      simp only[p8,s7,or_false] at hp;have hs9:=HF9.out.size;rcases hp with rfl|rfl
      ·exact Prt.ok.list ((HL6.out.keep HF9.out hpb8).kid.grow (fun _ _ _=>rfl) (by omega) (l9 _))
      ·exact Prt.ok.node (HN9.out.grow (fun _ _ _=>rfl) (by show _<=w6.heap.size;omega) (l9 _))))
  ·obtain⟨rE,hrE⟩:∃rE,rE=E (q4+1):=⟨_,rfl⟩
   have HR4:Hid (r0=bO (aL C.ts [93] rE) fun i q=>eR E C.ts k q (acc++[i])):=by
    show _=_
    rw[hr4,eR,hit,hrE,if_pos rfl];cases aL C.ts [93] (E (q4+1))<;>rfl
   have hE0:E (q4+1)≠.error 0:=fun e=>HNE0.out (by rw[HR4.out,hrE,e];rfl)
   have HRE:=aB hrE;rw[hit] at HAC;clear hit hr4 hrE;go_wp2_with fail;refine HAC.out.mono ?_;rintro e w5 ⟨rfl,hp5,hf5⟩;have HX:=aB (HEE.out w5 (q4+1) hp5 hE0);simp only[<-HRE.out] at HX;have HF5:=aB (HF4.out.trans hf5);have HL5:=aB (HLS.out.keep hf5 hpb8);have HNB5:=aB (hf5.keepB HNB4.out hnb);have hs5:=hf5.size;clear hp5 hf5 HAC HLS hE0 HNB4;cases rE with
   |error l=>
    have HL:Hid (r=.error l):=by show _=_;rw[HR6.out,HR4.out];rfl
    go_wp2_with fail;refine HX.out.mono ?_;rintro e w6 ⟨hf6,rfl⟩;have HF6:=aB (HF5.out.trans hf6);clear hf6 HX;go_wp2_with fail;exact⟨rfl,Out.err HL.out HF6.out⟩
   |ok aq6=>
    obtain⟨a6,q6⟩:=aq6;go_wp2_with fail;refine HX.out.mono ?_;rintro e w6 ⟨hf6,hp6,v6,rfl,hn6⟩;obtain⟨T6,cs6,rfl⟩:=hn6.form;obtain⟨vs,F,hown,hall,hFF⟩:=HL5.out.keep hf6 hpb8
    have hrb:∀g,(Value.slice x4 acc.length c4).ownBlock=some g->g<w5.heap.size:=by
     obtain⟨vs',F',hown',_⟩:=HL5.out;exact cK hown'
    have HRB:=aB hrb;have HF6:=aB (HF5.out.trans hf6);have HP6:=aB hp6;have HN6:=aB hn6;have HNB6:=aB (hf6.keepB HNB5.out hnb);have HALL:=aB (And.intro hall hFF);have hs6:=hf6.size;have hge:∀k,(Value.slice x4 acc.length c4).ownBlock=some k->w8.heap.size<=k:=bX hown;clear hp6 hf6 hn6 HX HL5 HF5 hall hFF hrb HNB5;go_wp2_with (at_builtin;refine wpList_append_lies _ (by rfl) _ _ 213 (by rfl) w8.heap.size 122 i0 _ 1 16 Tryz.underlying213 hi hz0 hz1 hz2 rfl (by decide) _ _ _ (by rfl) (hown.alloc _) ⟨w6.heap.size,0,none⟩ 1 1 [.iface T6 (.agg cs6)] (by rfl) (by rfl) (rL _ _) (uP _ _) (by decide) (by unfold maxLen;omega) (by omega) (by simp;omega) (w6.heap.size+1) (by simp) ?_)
    intro g7 cap7 w9 hown9 hgrow9 hat9 hg9;have HL9:=aB (PLst.snoc (lo:=w5.heap.size) HALL.out.1 HALL.out.2 HN6.out (by omega) HRB.out (fun k hk=>o9 _ _ _ hk) (by simp) hown9 hgrow9 (hat9.imp_right (fun e=>by omega)))
    have HP9:=aB ((HP6.out.alloc _).grown (base:=w8.heap.size) hgrow9 hge hpb8 hgb8);have HF9:=aB ((HF6.out.alloc _).grown hgrow9 (fun k hk=>p7 hs8 (hge k hk)))
    have HNB9:Hid (w9.heap[w7.heap.size]?=some (.cells #[.int .i64 t.line,.string (bs t.text)] 211 (0,0))):=by
     show _=_
     rw[hgrow9.block _ (by simp;omega) (fun e=>by have:=hge _ e.symm;omega),o9 _ _ _ (by omega)]
     exact HNB6.out
    have hs9:w8.heap.size<=w9.heap.size:=by have:=hgrow9.size;simp at this;omega
    have HXP:=aB (fU C w9 q6 ⟨#[93]⟩ HP9.out);have ed:(⟨#[93]⟩:ByteArray).data.toList=[93]:=rfl;rw[ed] at HXP;clear hown hown9 hgrow9 hat9 HN6 HP6 HF6 HALL HRB hge HNB6 ed;cases hit:aX C.ts q6 [93]
    ·have HL:Hid (r=.error (aO C.ts q6).line):=by show _=_;rw[HR6.out,HR4.out,xF hit];rfl
     rw[hit] at HXP;clear hit HR6 HR4;go_wp2_with fail;refine HXP.out.mono ?_;rintro e w10 ⟨hf10,he10⟩;obtain rfl:e=dC 4 (aO C.ts q6).line:=he10;have HF10:=aB (HF9.out.trans hf10);clear hf10;go_wp2_with fail;exact⟨rfl,Out.err HL.out HF10.out⟩
    ·have HR5:Hid (r0=eR E C.ts k (q6+1) (acc++[a6])):=by show _=_;rw[HR4.out,nM hit];rfl
     rw[hit] at HXP;clear hit HR4;go_wp2_with fail;refine HXP.out.mono ?_;rintro e w10 ⟨hf10,he10⟩;obtain⟨rfl,hp10⟩:=he10;have HF10:=aB (HF9.out.trans hf10);have HL10:=aB (HL9.out.keep hf10 hpb8);have HNB10:=aB (hf10.keepB HNB9.out hnb);have HP10:=aB hp10;have hs10:=hf10.size;clear hf10 hp10;go_wp2_with fail;go_roundg k
     case measure=>omega
     case rel=>exact⟨HF10.out,q6+1,acc++[a6],HP10.out,HR5.out,by simp;omega,by simpa using HL10.out,HNB10.out,by omega⟩
end Go.Proofs.YtblbkfdhjfppkaaGreatDoor
