/- Contracts of the program: operands with operations between them. -/
import Derived.Test.YtblbkfdhjfppkaaGreatDoorP05
set_option maxRecDepth 100000
set_option maxHeartbeats 4000000
namespace Go.Proofs.YtblbkfdhjfppkaaGreatDoor
open Hs
open Go.RowKit
def O9(C:Ctx)(L:Nat→bR aC)(w:World)(r:bR aC)(lv tb l:Nat)(k:Nat)(v:Value)(wr:World):Prop:=
 Fr C.pb w wr∧∃q a,PAt C wr q∧r=bC L C.ts lv k a q∧PN (Btw w.heap.size wr.heap.size) wr v a∧G6 wr tb l
theorem K8{L:Nat→bR aC}{ts:List aV}{lv k q:Nat}{a:aC}(hlv:lv≠2)(h:((aO ts q).sort==112 && bV (aO ts q).text==lv)=true):
 bC L ts lv (k+1) a q=bN (L (q+1)) (fun b q2=>bC L ts lv k (aP (aO ts q).text (aO ts q).line [] [a,b]) q2):=by
 rw[bC,if_pos h];cases L (q+1) with
 |error l=>rfl
 |ok bq=>simp only[if_neg hlv];rfl
theorem B9{L:Nat→bR aC}{ts:List aV}{lv k q:Nat}{a:aC}(h:((aO ts q).sort==112 && bV (aO ts q).text==lv)=false):
 bC L ts lv (k+1) a q=.ok (a,q):=by
 rw[bC,if_neg (by rw[h];simp)]
theorem YC(C:Ctx)(L:Nat→bR aC)(F:Nat)(hcf:∀args w,Sem.run Tryz.prog (callFunc F args) w=.ok (.enter F args) w)(HF:PReads C F L)(lv:Nat)(h2:lv≠2)(h9:lv≠9)(ops:List (List UInt8))(hops:∀x,x∈ops↔bV x=lv)(hlen:ops.length≤100)(w:World)(p:Nat)(h:PAt C w p)(g cap:Nat)(hg:g<w.heap.size)(hgp:g≠C.pb)(hc:∀i (hi:i<ops.length),w.cell? ⟨g,i,none⟩=some (.string (bs ops[i])))
 (hne:bN (L p) (bC L C.ts lv (C.ts.length+1))≠.error 0):
 Calls Tryz.prog 227 #[.pointer (some ⟨C.pb,0,none⟩),.func (.func F) #[.pointer (some ⟨C.pb,0,none⟩)] #[],.slice (some ⟨g,0,none⟩) ops.length cap] w (EH C w (bN (L p) (bC L C.ts lv (C.ts.length+1)))):=by
 have hnil:∀x∈ops,x≠[]:=fun x hx e=>by rw[hops,e] at hx;exact h9 (hx.symm.trans rfl)
 have HOF:=aB (fun W q (hf:Fr C.pb w W) (hq:PAt C W q)=>EX C W q ops g cap (Nat.lt_of_lt_of_le hg hf.size) hgp hlen hnil (fun i hi=>(vO (hf.block g hg hgp)).trans (hc i hi)) hq)
 have HLV:=aB (fun W q (hq:PAt C W q)=>wF (hq.tsk.tk q hq.lt) lv h9 ops hops)
 have HPL:=aB (lR C w p h);have hne1:L p≠.error 0:=fun e=>hne (by rw[e];rfl)
 have HX:=aB (fun w1 (hb:Below w.heap.size w w1)=>HF w1 p (h.below hb) hne1)
 have HFF:=aB HF;have hpb:=h.pb_lt;obtain⟨r,hr⟩:∃r,r=bN (L p) (bC L C.ts lv (C.ts.length+1)):=⟨_,rfl⟩;rw[←hr] at hne ⊢
 have HR:=aB hr;have HNE:=aB hne;clear h HF hne hr hne1 hnil hc hops;generalize (aO C.ts p).line=pl at*;cases hpr:L p with
 |error l=>
  have HL:Hid (r=.error l):=by show _=_;rw[HR.out,hpr];rfl
  rw[hpr] at HX;clear hpr HR;go_enter Tryz.func227,Tryz.ntmps227;go_wp2_with fail;refine HPL.out.mono ?_;rintro e w1 ⟨rfl,hb1⟩;have HB1:=aB hb1;clear hb1;go_wp2_with fail;refine(HX.out w1 HB1.out).mono ?_;rintro e w2 ⟨hf2,rfl⟩;have HF2:=aB ((Fr.below HB1.out).trans hf2);clear hf2;go_wp2_with fail;exact⟨rfl,Out.err HL.out HF2.out⟩
 |ok aq=>
  obtain⟨a0,q0⟩:=aq;have HL:Hid (r=bC L C.ts lv (C.ts.length+1) a0 q0):=by show _=_;rw[HR.out,hpr];rfl
  rw[hpr] at HX;clear hpr HR;go_enter Tryz.func227,Tryz.ntmps227;go_wp2_with fail;refine HPL.out.mono ?_;rintro e w1 ⟨rfl,hb1⟩;have HB1:=aB hb1;clear hb1;go_wp2_with fail;refine(HX.out w1 HB1.out).mono ?_;rintro e w2 ⟨hf2,hp2,v2,rfl,hn2⟩;have hs1:=HB1.out.size;have hs2:=hf2.size
  have HI:Hid (O9 C L w r lv w2.heap.size pl (C.ts.length+1) v2 (w2.alloc (.cells #[.int .i64 pl] 209))):=
   ⟨((Fr.below HB1.out).trans hf2).alloc _,q0,a0,hp2.alloc _,HL.out,hn2.grow (fun k _ h2=>Below.heap_alloc _ _ _ h2) hs1 (by simp),G6.new _ _⟩
  obtain⟨T2,cs2,rfl⟩:=hn2.form;clear hf2 hp2 hn2 HL HX HPL;go_wp2_with fail;go_loopg [8,9] (C.ts.length+1) (fun k v o wr=>O9 C L w r lv w2.heap.size pl k v wr)
  case atStart=>exact HI.out
  case round=>
   obtain⟨hf3,q,a,hp3,hr3,hn3,hpl3⟩:=hrel;obtain⟨T3,cs3,rfl⟩:=hn3.form
   obtain⟨k,rfl⟩:∃k,gk=k+1:=by
    cases gk with
    |zero=>exact absurd hr3 HNE.out
    |succ k=>exact⟨k,rfl⟩
   have HA:=aB (HOF.out wr q hf3 hp3);have HO:=aB (HLV.out wr q hp3);have hqn:(aO C.ts q).sort=112→bV (aO C.ts q).text=lv→(aO C.ts q).text≠[]:=fun _ e1 e2=>h9 (by rw[←e1,e2];rfl)
   have HQN:=aB hqn;have HF3:=aB hf3;have HN3:=aB hn3;have HP3:=aB hpl3;have hs3:=hf3.size;clear hf3 hp3 hn3 hpl3 HI hqn;generalize mQ C.ts q ops=oo at*;generalize hqo:(if oo=[] then q else q+1)=qo at*
   have HQO:=aB hqo;clear hqo;cases hit:((aO C.ts q).sort==112 && bV (aO C.ts q).text==lv)
   ·have HL:Hid (r=.ok (a,q)):=by show _=_;rw[hr3];exact B9 hit
    obtain rfl:oo=[]:=by rw[HO.out,hit];rfl
    obtain rfl:q=qo:=HQO.out;clear hit hr3 HO HQO HQN;simp only[bs] at HA;go_wp2_with fail;refine HA.out.mono ?_;rintro e w4 ⟨rfl,hp4,hf4⟩;have HF4:=aB hf4;have HP4:=aB hp4;clear hf4 hp4;go_wp2_with fail;go_ret;exact Out.ok HL.out (HF3.out.trans HF4.out) HP4.out (HN3.out.grow (fun k h1 h2=>HF4.out.block k h2 (by omega)) (Nat.le_refl _) HF4.out.size)
   ·obtain⟨rE,hrE⟩:∃rE,rE=L (q+1):=⟨_,rfl⟩;have HR4:Hid (r=bN rE (fun b q2=>bC L C.ts lv k (aP (aO C.ts q).text (aO C.ts q).line [] [a,b]) q2)):=by show _=_;rw[hr3,K8 h2 hit,hrE]
    have hoo:oo=(aO C.ts q).text:=by rw[HO.out,hit];rfl
    have hit':(aO C.ts q).sort=112∧bV (aO C.ts q).text=lv:=by simpa using hit
    have hon:oo≠[]:=by rw[hoo];exact HQN.out hit'.1 hit'.2
    have HLO:Hid (bV (aO C.ts q).text≠9):=by show _≠_;rw[hit'.2];exact h9
    obtain rfl:q+1=qo:=by rw[←HQO.out,if_neg hon]
    have hE0:L (q+1)≠.error 0:=fun e=>HNE.out (by rw[HR4.out,hrE,e];rfl)
    have hoe:(bs oo).toList.isEmpty=false:=by
     rw[bZ];cases oo with
     |nil=>exact absurd rfl hon
     |cons x l=>rfl
    have HRE:=aB hrE;have HOO:=aB hoo;clear hit hr3 hrE HO HQO HQN hit' hoo;go_wp2_with fail;refine HA.out.mono ?_;rintro e w4 ⟨rfl,hp4,hf4⟩;have HX:=aB (HFF.out w4.drew (q+1) hp4.drew hE0);rw[←HRE.out] at HX;have HN4:=aB (HN3.out.grow (fun k h1 h2=>hf4.block k h2 (by omega)) (Nat.le_refl _) hf4.size)
    have HP4:=aB (hf4.keepB HP3.out (by omega))
    have HF4:=aB (HF3.out.trans hf4);have c0:=aA HP4.out (i:=0) rfl;have hz4:=aD HP4.out;have hs4:=hf4.size;clear hf4 hp4 HN3 HP3 HF3 HA hE0 hon;cases rE with
    |error l=>
     have HL:Hid (r=.error l):=HR4.out;go_wp2_with fail;go_region_law (refine thrown .nilIface ?_ ?_;(focus go_simp;refine HX.out.mono ?_;rintro e w5 ⟨hf5,rfl⟩;exact And.intro rfl (Out.err HL.out (HF4.out.drew.trans hf5)));intro hfalse)
     all_goals exact hfalse.out.elim
    |ok iq=>
     obtain⟨i,q5⟩:=iq;have HL:Hid (r=bC L C.ts lv k (aP (aO C.ts q).text (aO C.ts q).line [] [a,i]) q5):=HR4.out;clear HR4;go_wp2_with fail;go_region_law (go_simp;refine HX.out.mono ?_;rintro e w5 ⟨hf5,hp5,v5,rfl,hn5⟩;obtain⟨T5,cs5,rfl⟩:=hn5.form;have HN5:=aB hn5;have HF5:=aB hf5;have HA5:=aB hp5;have HP5:=aB (((Fr.refl C.pb w4).drew.trans hf5).keepB HP4.out (by omega));have d0:=aA HP5.out (i:=0) rfl;have hz5:=aD HP5.out;clear hf5 hp5 hn5)
     all_goals
      go_wp2_with fail;go_roundg k
      case measure=>omega
      case rel=>
       have hs5:=HF5.out.size
       exact⟨HF4.out.drew.trans HF5.out,q5,_,HA5.out,HL.out,PN.mk (Or.inr (Or.inr (Or.inr (Or.inr (Or.inr (Or.inr (Or.inr (Or.inr (Or.inl ⟨rfl,pl,_,_,a,i,by rw[HOO.out];rfl,HLO.out,rfl,rfl⟩))))))))) (fun p hp=>by
        simp only[List.mem_cons,List.not_mem_nil,or_false] at hp;rcases hp with rfl|rfl
        ·exact Prt.ok.node (HN4.out.grow (fun k h1 h2=>HF5.out.block k h2 (by omega)) (Nat.le_refl _) hs5)
        ·exact Prt.ok.node (HN5.out.grow (fun _ _ _=>rfl) (by have:=HF4.out.size;exact this) (Nat.le_refl _))),HP5.out⟩
theorem oA(C:Ctx)(L:Nat→bR aC)(F:Nat)(hcf:∀args w,Sem.run Tryz.prog (callFunc F args) w=.ok (.enter F args) w)(HF:PReads C F L)(lv:Nat)(h2:lv≠2)(h9:lv≠9)(ops:List (List UInt8))(hops:∀x,x∈ops↔bV x=lv)(hlen:ops.length≤100)(w:World)(p:Nat)(h:PAt C w p)(n:Nat)(hn:n=ops.length)(cs:Array Value)(hcs:cs=(ops.map fun x=>Value.string (bs x)).toArray)
 (hne:bN (L p) (bC L C.ts lv (C.ts.length+1))≠.error 0):
 Calls Tryz.prog 227 #[.pointer (some ⟨C.pb,0,none⟩),.func (.func F) #[.pointer (some ⟨C.pb,0,none⟩)] #[],.slice (some ⟨w.heap.size,0,none⟩) n n] (w.alloc (.cells cs 9)) (EH C w (bN (L p) (bC L C.ts lv (C.ts.length+1)))):=by
 subst hn;have hpb:=h.pb_lt;refine(YC C L F hcf HF lv h2 h9 ops hops hlen _ p (h.alloc _) w.heap.size ops.length (by simp) (by omega) ?_ hne).mono fun e w' ⟨h1,h2⟩=>⟨((Fr.refl _ _).alloc _).trans h1,?_⟩
 ·intro i hi;refine aA (aR _ _ rfl _) ?_;rw[hcs];simp[hi]
 ·cases hb:bN (L p) (bC L C.ts lv (C.ts.length+1)) with
  |error l=>rw[hb] at h2;exact h2
  |ok aq=>
   rw[hb] at h2;obtain⟨hp,v,hv,hn⟩:=h2;exact⟨hp,v,hv,hn.grow (fun _ _ _=>rfl) (by simp) (Nat.le_refl _)⟩
theorem TM(fn:Fn)(a b:Array Value)(w:World):(Instr.makeFunc fn a b).run Tryz.prog w=.ok (.func fn a b) w:=rfl
theorem LL(C:Ctx)(L:Nat→bR aC)(HL:PReads C 345 L):PReads C 336 (fun p=>bN (L p) (bC L C.ts 4 (C.ts.length+1))):=by
 intro w p h hne;have HC:=aB (oA C L 345 (fun _ _=>rfl) HL 4 (by decide) (by decide) [[42],[47],[37]] T8 (by decide) w p h 3 rfl #[.string ⟨#[42]⟩,.string ⟨#[47]⟩,.string ⟨#[37]⟩] rfl hne)
 have hmf:=TM;show Calls _ _ _ _ (EH C w (bN (L p) (bC L C.ts 4 (C.ts.length+1))))
 generalize bN (L p) (bC L C.ts 4 (C.ts.length+1))=r at*;clear h hne HL;go_enter Tryz.func336,Tryz.ntmps336;go_wp2_with fail;refine HC.out.mono ?_;rintro e w1 ⟨hf1,ho1⟩;cases r with
 |error l=>
  obtain rfl:e=cW 4 l:=ho1;have HF1:=aB hf1;clear hf1 hmf;go_wp2_with fail;exact⟨rfl,Out.err rfl HF1.out⟩
 |ok aq=>
  obtain⟨a,q⟩:=aq;obtain⟨hp1,v1,rfl,hn1⟩:=ho1;have HF1:=aB hf1;have HP1:=aB hp1;have HN1:=aB hn1;clear hf1 hp1 hn1 hmf;go_wp2_with fail;go_ret;exact Out.ok rfl HF1.out HP1.out HN1.out
theorem I3(C:Ctx)(L:Nat→bR aC)(HL:PReads C 336 L):PReads C 323 (fun p=>bN (L p) (bC L C.ts 3 (C.ts.length+1))):=by
 intro w p h hne;have HC:=aB (oA C L 336 (fun _ _=>rfl) HL 3 (by decide) (by decide) [[43],[45]] U0 (by decide) w p h 2 rfl #[.string ⟨#[43]⟩,.string ⟨#[45]⟩] rfl hne)
 have hmf:=TM;show Calls _ _ _ _ (EH C w (bN (L p) (bC L C.ts 3 (C.ts.length+1))))
 generalize bN (L p) (bC L C.ts 3 (C.ts.length+1))=r at*;clear h hne HL;go_enter Tryz.func323,Tryz.ntmps323;go_wp2_with fail;refine HC.out.mono ?_;rintro e w1 ⟨hf1,ho1⟩;cases r with
 |error l=>
  obtain rfl:e=cW 4 l:=ho1;have HF1:=aB hf1;clear hf1 hmf;go_wp2_with fail;exact⟨rfl,Out.err rfl HF1.out⟩
 |ok aq=>
  obtain⟨a,q⟩:=aq;obtain⟨hp1,v1,rfl,hn1⟩:=ho1;have HF1:=aB hf1;have HP1:=aB hp1;have HN1:=aB hn1;clear hf1 hp1 hn1 hmf;go_wp2_with fail;go_ret;exact Out.ok rfl HF1.out HP1.out HN1.out
theorem N9(C:Ctx)(L:Nat→bR aC)(HL:PReads C 285 L):PReads C 228 (fun p=>bN (L p) (bC L C.ts 1 (C.ts.length+1))):=by
 intro w p h hne;have HC:=aB (oA C L 285 (fun _ _=>rfl) HL 1 (by decide) (by decide) [[38,38]] U2 (by decide) w p h 1 rfl #[.string ⟨#[38,38]⟩] rfl hne)
 have hmf:=TM;show Calls _ _ _ _ (EH C w (bN (L p) (bC L C.ts 1 (C.ts.length+1))))
 generalize bN (L p) (bC L C.ts 1 (C.ts.length+1))=r at*;clear h hne HL;go_enter Tryz.func228,Tryz.ntmps228;go_wp2_with fail;refine HC.out.mono ?_;rintro e w1 ⟨hf1,ho1⟩;cases r with
 |error l=>
  obtain rfl:e=cW 4 l:=ho1;have HF1:=aB hf1;clear hf1 hmf;go_wp2_with fail;exact⟨rfl,Out.err rfl HF1.out⟩
 |ok aq=>
  obtain⟨a,q⟩:=aq;obtain⟨hp1,v1,rfl,hn1⟩:=ho1;have HF1:=aB hf1;have HP1:=aB hp1;have HN1:=aB hn1;clear hf1 hp1 hn1 hmf;go_wp2_with fail;go_ret;exact Out.ok rfl HF1.out HP1.out HN1.out
theorem D7(C:Ctx)(L:Nat→bR aC)(HL:PReads C 228 L):PReads C 164 (fun p=>bN (L p) (bC L C.ts 0 (C.ts.length+1))):=by
 intro w p h hne;have HC:=aB (oA C L 228 (fun _ _=>rfl) HL 0 (by decide) (by decide) [[124,124]] U3 (by decide) w p h 1 rfl #[.string ⟨#[124,124]⟩] rfl hne)
 have hmf:=TM;show Calls _ _ _ _ (EH C w (bN (L p) (bC L C.ts 0 (C.ts.length+1))))
 generalize bN (L p) (bC L C.ts 0 (C.ts.length+1))=r at*;clear h hne HL;go_enter Tryz.func164,Tryz.ntmps164;go_wp2_with fail;refine HC.out.mono ?_;rintro e w1 ⟨hf1,ho1⟩;cases r with
 |error l=>
  obtain rfl:e=cW 4 l:=ho1;have HF1:=aB hf1;clear hf1 hmf;go_wp2_with fail;exact⟨rfl,Out.err rfl HF1.out⟩
 |ok aq=>
  obtain⟨a,q⟩:=aq;obtain⟨hp1,v1,rfl,hn1⟩:=ho1;have HF1:=aB hf1;have HP1:=aB hp1;have HN1:=aB hn1;clear hf1 hp1 hn1 hmf;go_wp2_with fail;go_ret;exact Out.ok rfl HF1.out HP1.out HN1.out
theorem GY(C:Ctx)(L:Nat→bR aC)(HL:PReads C 323 L):PReads C 285 (fun p=>bN (L p) (bC L C.ts 2 (C.ts.length+1))):=by
 intro w p h hne;have HPL:=aB (lR C w p h);have hne1:L p≠.error 0:=fun e=>hne (by show bN _ _=_;rw[e];rfl)
 have HX:=aB (fun w1 (hb:Below w.heap.size w w1)=>HL w1 p (h.below hb) hne1)
 have HFF:=aB HL;have hpb:=h.pb_lt;obtain⟨r,hr⟩:∃r,r=bN (L p) (bC L C.ts 2 (C.ts.length+1)):=⟨_,rfl⟩;have hne2:r≠.error 0:=hr▸hne;show Calls _ _ _ _ (EH C w (bN (L p) (bC L C.ts 2 (C.ts.length+1))))
 rw[←hr];have HR:=aB hr;have HNE:=aB hne2;clear h HL hne hr hne1 hne2;generalize (aO C.ts p).line=pl at*;cases hpr:L p with
 |error l=>
  have HL:Hid (r=.error l):=by show _=_;rw[HR.out,hpr];rfl
  rw[hpr] at HX;clear hpr HR;go_enter Tryz.func285,Tryz.ntmps285;go_wp2_with fail;refine HPL.out.mono ?_;rintro e w1 ⟨rfl,hb1⟩;have HB1:=aB hb1;clear hb1;go_wp2_with fail;refine(HX.out w1 HB1.out).mono ?_;rintro e w2 ⟨hf2,rfl⟩;have HF2:=aB ((Fr.below HB1.out).trans hf2);clear hf2;go_wp2_with fail;exact⟨rfl,Out.err HL.out HF2.out⟩
 |ok aq=>
  obtain⟨a,q⟩:=aq;have hr3:r=bC L C.ts 2 (C.ts.length+1) a q:=by rw[HR.out,hpr];rfl
  rw[hpr] at HX;clear hpr HR;have HR3:=aB hr3;clear hr3;go_enter Tryz.func285,Tryz.ntmps285;go_wp2_with fail;refine HPL.out.mono ?_;rintro e w1 ⟨rfl,hb1⟩;have HB1:=aB hb1;clear hb1;go_wp2_with fail;refine(HX.out w1 HB1.out).mono ?_;rintro e w2 ⟨hf2,hp2,v2,rfl,hn2⟩;have hs1:=HB1.out.size;have hs2:=hf2.size;have HN3:=aB (hn2.grow (lo':=w.heap.size) (w':=w2.alloc (.cells #[.int .i64 pl] 209)) (hi':=w2.heap.size+1) (fun k _ h2=>Below.heap_alloc _ _ _ h2) hs1 (by simp))
  have HF3:=aB (((Fr.below HB1.out).trans hf2).alloc (.cells #[.int .i64 pl] 209));have HP3:=aB (G6.new w2 pl);have HA3:=aB (hp2.alloc (.cells #[.int .i64 pl] 209));obtain⟨T3,cs3,rfl⟩:=hn2.form;have HO:=aB (wF (hp2.tsk.tk q hp2.lt) 2 (by decide) [[61,61],[33,61],[60],[60,61]] U1)
  clear hf2 hp2 hn2 HX HPL HB1;generalize hoo:mQ C.ts q [[61,61],[33,61],[60],[60,61]]=oo at*;have HM:=aB (FD C _ q HA3.out [[61,61],[33,61],[60],[60,61]] (by decide) (by intro x hx;simp at hx;rcases hx with rfl|rfl|rfl|rfl<;>simp) oo hoo (w2.heap.size+1) (by simp) 4 rfl #[.string ⟨#[61,61]⟩,.string ⟨#[33,61]⟩,.string ⟨#[60]⟩,.string ⟨#[60,61]⟩] rfl)
  generalize hqo:(if oo=[] then q else q+1)=qo at*
  have HQO:=aB hqo;clear hqo hoo;cases hit:((aO C.ts q).sort==112 && bV (aO C.ts q).text==2)
  ·have HL:Hid (r=.ok (a,q)):=by show _=_;rw[HR3.out];exact B9 hit
   obtain rfl:oo=[]:=by rw[HO.out,hit];rfl
   obtain rfl:q=qo:=HQO.out;clear hit HR3 HO HQO;simp only[bs] at HM;go_wp2_with fail;refine HM.out.mono ?_;rintro e w4 ⟨rfl,hp4,hf4⟩;have HF4:=aB hf4;have HP4:=aB hp4;have hs4:=hf4.size;simp at hs4;clear hf4 hp4;go_wp2_with fail;go_ret;exact Out.ok HL.out (HF3.out.trans HF4.out) HP4.out (HN3.out.grow (fun k h1 h2=>HF4.out.block k (by simpa using h2) (by omega)) (Nat.le_refl _) (by omega))
  ·obtain⟨rE,hrE⟩:∃rE,rE=L (q+1):=⟨_,rfl⟩
   have HR4:Hid (r=bT (fun b=>aP (aO C.ts q).text (aO C.ts q).line [] [a,b]) rE):=by
    show _=_
    rw[HR3.out,bC,if_pos hit,hrE];cases L (q+1)<;>rfl
   have hoo:oo=(aO C.ts q).text:=by rw[HO.out,hit];rfl
   have hit':(aO C.ts q).sort=112∧bV (aO C.ts q).text=2:=by simpa using hit
   have hon:oo≠[]:=by
    intro e;rw[←hoo,e] at hit';exact absurd hit'.2 (by decide)
   have HLO:Hid (bV (aO C.ts q).text≠9):=by show _≠_;rw[hit'.2];decide
   obtain rfl:q+1=qo:=by rw[←HQO.out,if_neg hon]
   have hE0:L (q+1)≠.error 0:=fun e=>HNE.out (by rw[HR4.out,hrE,e];rfl)
   have hoe:(bs oo).toList.isEmpty=false:=by
    rw[bZ];cases oo with
    |nil=>exact absurd rfl hon
    |cons x l=>rfl
   have HRE:=aB hrE;have HOO:=aB hoo;clear hit HR3 hrE HO HQO hit' hoo;go_wp2_with fail;refine HM.out.mono ?_;rintro e w4 ⟨rfl,hp4,hf4⟩;have HX:=aB (HFF.out w4.drew (q+1) hp4.drew hE0);rw[←HRE.out] at HX;have hs4:=hf4.size;simp at hs4;have HN4:=aB (HN3.out.grow (lo':=w.heap.size) (hi':=w4.heap.size) (fun k h1 h2=>hf4.block k (by simpa using h2) (by omega)) (Nat.le_refl _) (by omega))
   have HP4:=aB (hf4.keepB HP3.out (by omega))
   have HF4:=aB (HF3.out.trans hf4);have c0:=aA HP4.out (i:=0) rfl;have hz4:=aD HP4.out;clear hf4 hp4 HN3 HP3 HF3 HM hE0 hon;cases rE with
   |error l=>
    have HL:Hid (r=.error l):=HR4.out;go_wp2_with fail;go_region_law (refine thrown .nilIface ?_ ?_;(focus go_simp;go_at_call 323;refine HX.out.mono ?_;rintro e w5 ⟨hf5,rfl⟩;exact And.intro rfl (Out.err HL.out (HF4.out.drew.trans hf5)));intro hfalse)
    all_goals exact hfalse.out.elim
   |ok iq=>
    obtain⟨i,q5⟩:=iq;have HL:Hid (r=.ok (aP (aO C.ts q).text (aO C.ts q).line [] [a,i],q5)):=HR4.out;clear HR4;go_wp2_with fail;go_region_law (go_simp;go_at_call 323;refine HX.out.mono ?_;rintro e w5 ⟨hf5,hp5,v5,rfl,hn5⟩;obtain⟨T5,cs5,rfl⟩:=hn5.form;have HN5:=aB hn5;have HF5:=aB hf5;have HA5:=aB hp5;have HP5:=aB (((Fr.refl C.pb w4).drew.trans hf5).keepB HP4.out (by omega));have d0:=aA HP5.out (i:=0) rfl;have hz5:=aD HP5.out;clear hf5 hp5 hn5)
    all_goals (go_wp2_with fail;go_ret)
    all_goals exact Out.ok HL.out (HF4.out.drew.trans HF5.out) HA5.out (PN.mk (Or.inr (Or.inr (Or.inr (Or.inr (Or.inr (Or.inr (Or.inr (Or.inr (Or.inl ⟨rfl,pl,_,_,a,i,by rw[HOO.out];rfl,HLO.out,rfl,rfl⟩))))))))) (fun p hp=>by
     simp only[List.mem_cons,List.not_mem_nil,or_false] at hp;rcases hp with rfl|rfl
     ·exact Prt.ok.node (HN4.out.grow (fun k h1 h2=>HF5.out.block k h2 (by omega)) (Nat.le_refl _) HF5.out.size)
     ·exact Prt.ok.node (HN5.out.grow (fun _ _ _=>rfl) (by have:=HF4.out.size;exact this) (Nat.le_refl _))))
theorem FR(C:Ctx):∀f,PReads C 164 (eX C.ts f)
 |0=>fun _ _ _ hne=>absurd rfl hne
 |f+1=>fun w p h hne=>D7 C (fJ (eX C.ts f) C.ts 4) (N9 C (fJ (eX C.ts f) C.ts 3) (GY C (fJ (eX C.ts f) C.ts 2) (I3 C (fJ (eX C.ts f) C.ts 1) (LL C (fJ (eX C.ts f) C.ts 0) (UG C (eX C.ts f) (FR C f) (C.ts.length+1)))))) w p h hne
theorem GD{α β:Type}(ts:List aV)(x:List UInt8)(f:α→β)(r:bR α):aL ts x (bT f r)=bT f (aL ts x r):=by
 cases r with
 |error l=>rfl
 |ok aq=>
  obtain⟨a,q⟩:=aq;unfold aL bT;simp only;split<;>rfl
theorem MN(C:Ctx)(E:Nat→bR aC)(HE:PReads C 164 E):PReads C 302 (fun p=>aL C.ts [59] (E p)):=by
 intro w p h hne;have hE0:E p≠.error 0:=fun e=>hne (by show aL _ _ _=_;rw[e];rfl)
 have HX:=aB (HE w p h hE0);have hpb:=h.pb_lt;show Calls _ _ _ _ (EH C w (aL C.ts [59] (E p)))
 obtain⟨r,hr⟩:∃r,r=aL C.ts [59] (E p):=⟨_,rfl⟩;rw[←hr];generalize E p=rE at*;have HR:=aB hr;clear h HE hne hE0 hr;cases rE with
 |error l=>
  have HL:Hid (r=.error l):=HR.out;go_enter Tryz.func302,Tryz.ntmps302;go_wp2_with fail;refine HX.out.mono ?_;rintro e w1 ⟨hf1,rfl⟩;have HF1:=aB hf1;clear hf1;go_wp2_with fail;exact⟨rfl,Out.err HL.out HF1.out⟩
 |ok aq=>
  obtain⟨a,q⟩:=aq;go_enter Tryz.func302,Tryz.ntmps302;go_wp2_with fail;refine HX.out.mono ?_;rintro e w1 ⟨hf1,hp1,v1,rfl,hn1⟩;obtain⟨T1,cs1,rfl⟩:=hn1.form;have HXP:=aB (fN C w1 q ⟨#[59]⟩ hp1);have ed:(⟨#[59]⟩:ByteArray).data.toList=[59]:=rfl;rw[ed] at HXP;have HF1:=aB hf1;have HN1:=aB hn1;have hs1:=hf1.size;clear hp1 hf1 hn1 HX ed;cases hit:aT C.ts q [59]
  ·have HL:Hid (r=.error (aO C.ts q).line):=by show _=_;rw[HR.out];exact vT hit
   rw[hit] at HXP;clear hit HR;go_wp2_with fail;refine HXP.out.mono ?_;rintro e w7 ⟨hf7,he7⟩;obtain rfl:e=cW 4 (aO C.ts q).line:=he7;have HF7:=aB (HF1.out.trans hf7);clear hf7;go_wp2_with fail;exact⟨rfl,Out.err HL.out HF7.out⟩
  ·have HL:Hid (r=.ok (a,q+1)):=by show _=_;rw[HR.out];exact mT hit
   rw[hit] at HXP;clear hit HR;go_wp2_with fail;refine HXP.out.mono ?_;rintro e w7 ⟨hf7,he7⟩;obtain⟨rfl,hp7⟩:=he7;have HF7:=aB hf7;have HP7:=aB hp7;clear hf7 hp7;go_wp2_with fail;go_ret;exact Out.ok HL.out (HF1.out.trans HF7.out) HP7.out (HN1.out.grow (fun k h1 h2=>HF7.out.block k h2 (by omega)) (Nat.le_refl _) HF7.out.size)
def oD(C:Ctx)(w:World)(q:Nat)(l:List aC)(t:aV)(v:Value)(wc:World):Prop:=
 ∃cb sv,v=.pointer (some ⟨cb,0,none⟩)∧cb≠C.pb∧Fr C.pb w wc∧PAt C wc q∧wc.heap[cb]?=some (.cells #[.int .i64 t.line,.string (bs t.text),sv] 341 (0,0))∧PKid (Btw w.heap.size wc.heap.size) wc sv l
theorem oD.late{C:Ctx}{w w8 w9:World}{q:Nat}{l:List aC}{t:aV}{sv:Value}(h8:Fr C.pb w w8)(h9:Fr C.pb w8 w9)(hp:PAt C w9 q)(hk:PKid (Btw w8.drew.heap.size w9.heap.size) w9 sv l):
 oD C w q l t (.pointer (some ⟨w9.heap.size,0,none⟩)) (w9.alloc (.cells #[.int .i64 t.line,.string (bs t.text),sv] 341)):=by
 have hpb:=hp.pb_lt;refine⟨w9.heap.size,sv,rfl,by omega,(h8.trans h9).alloc _,hp.alloc _,aR _ _ rfl _,hk.grow (fun k _ h2=>Below.heap_alloc _ _ _ h2) ?_ (by simp)⟩
 exact h8.size
theorem oD.early{C:Ctx}{w w8 w9:World}{q:Nat}{l:List aC}{t:aV}{sv:Value}{cs:Array Value}{o:Obj}(h8:Fr C.pb w w8)(h9:Fr C.pb w8 w9)(hp:PAt C w9 q)(hpb:C.pb<w8.heap.size)(hgb:C.g<w8.heap.size)(hk:PKid (Btw (w8.alloc o).drew.heap.size w9.heap.size) w9 sv l)(hb:w9.heap[w8.heap.size]?=some (.cells cs 341 (0,0)))(hcs:cs.size=3):
 oD C w q l t (.pointer (some ⟨w8.heap.size,0,none⟩)) (((w9.setCell ⟨w8.heap.size,0,none⟩ (.int .i64 t.line)).setCell ⟨w8.heap.size,1,none⟩ (.string (bs t.text))).setCell ⟨w8.heap.size,2,none⟩ sv):=by
 have hs8:=h8.size;have hs:∀(W:World) (i:Nat) (u:Value),(W.setCell ⟨w8.heap.size,i,none⟩ u).heap.size=W.heap.size:=fun W i u=>by simp[World.setCell]
 refine⟨w8.heap.size,sv,rfl,by omega,(((h8.trans h9).setCell (Or.inr hs8) _).setCell (Or.inr hs8) _).setCell (Or.inr hs8) _,((hp.other (by omega) (by omega)).other (by omega) (by omega)).other (by omega) (by omega),?_,?_⟩
 ·rw[aQ (aQ (aQ hb))];congr 1
  match cs,hcs with
  |⟨[a,b,c]⟩,_=>rfl
 ·refine hk.grow (fun k h1 h2=>?_) ?_ ?_
  ·have h1':w8.heap.size<k:=by have:(w8.alloc o).drew.heap.size=w8.heap.size+1:=by simp
                               omega
   rw[Below.heap_setCell _ _ _ _ (by show k≠w8.heap.size;omega),Below.heap_setCell _ _ _ _ (by show k≠w8.heap.size;omega),Below.heap_setCell _ _ _ _ (by show k≠w8.heap.size;omega)]
  ·have:(w8.alloc o).drew.heap.size=w8.heap.size+1:=by simp
   omega
  ·rw[hs,hs,hs];exact Nat.le_refl _
def TY(C:Ctx)(E:Nat→bR aC)(w w0:World)(r0:bR (List aC))(nb:Nat)(t:aV)(k:Nat)(v:Value)(wr:World):Prop:=
 Fr C.pb w wr∧∃q acc,PAt C wr q∧r0=eL E C.ts k q acc∧acc.length+k≤4000∧PLst w0.heap.size wr v acc∧wr.heap[nb]?=some (.cells #[.int .i64 t.line,.string (bs t.text)] 211 (0,0))∧w0.heap.size≤wr.heap.size
theorem PW(C:Ctx)(E:Nat→bR aC)(HE:PReads C 164 E):PReads C 304 (eK E C.ts):=by
 obtain⟨i0,hi,hz0,hz1,hz2⟩:=info_parts AX;intro w p h hne;have HNM:=aB (lQ C w p h);have HEE:=aB HE;have HLA:=aB (MN C E HE);have hpb:=h.pb_lt;have hgb:=h.g_lt;have hlen:=h.len;obtain⟨r,hr⟩:∃r,r=eK E C.ts p:=⟨_,rfl⟩;rw[←hr] at hne ⊢
 rw[eK] at hr;have HR4:=aB hr;have HNE:=aB hne;clear h HE hne hr;generalize htk:aO C.ts p=t at*;have HTK:=aB htk;clear htk;cases hs:(t.sort==110)
 ·rw[hs] at HNM;have HL:Hid (r=.error t.line):=by show _=_;rw[HR4.out,hs];show Hs.bad _ _=_;unfold Hs.bad;rw[HTK.out]
  clear hs HR4;go_enter Tryz.func304,Tryz.ntmps304;go_wp2_with fail;refine HNM.out.mono ?_;rintro e w7 ⟨hf7,he7⟩;obtain rfl:e=cW 4 t.line:=he7;have HF7:=aB hf7;clear hf7;go_wp2_with fail;exact⟨rfl,Out.err HL.out HF7.out⟩
 rw[hs] at HNM
 have HR5:Hid (r=if aT C.ts (p+1) [40] then
  bT (fun l=>aP [100,111] t.line t.text [aP [99,97,108,108] t.line t.text l]) (aL C.ts [59] (eF E C.ts (p+1) [40] [41]))
  else
   bN (aL C.ts [61] (eL E C.ts (C.ts.length+1) (p+1) [])) fun idx q=>
    bT (fun v=>aP [115,101,116] t.line t.text (idx++[v])) (aL C.ts [59] (E q))):=by
  show _=_
  rw[HR4.out,hs];simp only[GD];rfl
 clear HR4 hs;go_enter Tryz.func304,Tryz.ntmps304;go_wp2_with fail;refine HNM.out.mono ?_;rintro e w7 ⟨hf7,he7⟩;obtain⟨rfl,hat7⟩:=he7;have HF7:=aB (hf7.alloc (.cells #[.int .i64 t.line,.string (bs t.text)] 211));have HA5:=aB (cZ C (w7.alloc (.cells #[.int .i64 t.line,.string (bs t.text)] 211)) (p+1) ⟨#[40]⟩ (hat7.alloc _));have ed5:(⟨#[40]⟩:ByteArray).data.toList=[40]:=rfl;rw[ed5] at HA5;have HNB:Hid ((w7.alloc (.cells #[.int .i64 t.line,.string (bs t.text)] 211)).heap[w7.heap.size]?=some (.cells #[.int .i64 t.line,.string (bs t.text)] 211 (0,0))):=aR _ _ rfl _;have hnb:w7.heap.size≠C.pb:=by have:=hat7.pb_lt;omega
 have hsz7:=hf7.size;clear hf7 hat7 HNM ed5;cases i5:aT C.ts (p+1) [40];rotate_left
 ·rw[i5] at HA5;obtain⟨r1,hr1⟩:∃r1,r1=gN E C.ts (p+1+1) [41]:=⟨_,rfl⟩;have HR6:Hid (r=bT (fun l=>aP [100,111] t.line t.text [aP [99,97,108,108] t.line t.text l]) (aL C.ts [59] (aL C.ts [41] r1))):=by show _=_;rw[HR5.out,i5,hr1];unfold eF;rw[i5];rfl
  have HR7:=aB hr1;clear i5 HR5 hr1;go_wp2_with fail;refine HA5.out.mono ?_;rintro e w8 ⟨rfl,hat8,hf8⟩;have HN8:=aB (hf8.keepB HNB.out hnb);have HF8:=aB (HF7.out.trans hf8);have HV:=aB (fun W (hW:PAt C W (p+1+1))=>rV C E HEE.out W (p+1+1) ⟨#[41]⟩ hW r1 _ HR7 rfl (fun e=>HNE.out (by rw[HR6.out,e];rfl)))
  have ed6:(⟨#[41]⟩:ByteArray).data.toList=[41]:=rfl;rw[ed6] at HV;have HP8:=aB hat8;have c0:=aA HN8.out (i:=0) rfl;have c1:=aA HN8.out (i:=1) rfl;have hz8:=aD HN8.out;have hsz8:=HF8.out.size;clear hat8 hf8 HA5 ed6;cases hV:aL C.ts [41] r1 with
  |error l=>
   rw[hV] at HV;have HL:Hid (r=.error l):=by show _=_;rw[HR6.out,hV];rfl
   clear hV;go_wp2_with fail;go_region_law (refine thrown (.slice none 0 0) ?_ ?_;(focus go_simp;go_at_call 329;refine(HV.out _ ?_).mono ?_;(focus first|exact HP8.out.drew|exact(HP8.out.alloc _).drew);rintro e w9 ⟨hf9,rfl⟩;first|exact And.intro rfl (Out.err HL.out (HF8.out.drew.trans hf9))|exact And.intro rfl (Out.err HL.out ((HF8.out.alloc _).drew.trans hf9)));intro hfalse)
   all_goals exact hfalse.out.elim
  |ok lq=>
   obtain⟨l,q⟩:=lq;rw[hV] at HV;have HR8:Hid (r=bT (fun l=>aP [100,111] t.line t.text [aP [99,97,108,108] t.line t.text l]) (aL C.ts [59] (.ok (l,q)))):=by show _=_;rw[HR6.out,hV]
   clear hV HR6 HR7;have hpb8:=HP8.out.pb_lt;have hgb8:=HP8.out.g_lt;go_wp2_with fail;go_cut [4] (fun v wc=>oD C w q l t v wc)
   case first=>
    go_region_law (go_simp;go_at_call 329;refine(HV.out _ ?_).mono ?_;(focus first|exact HP8.out.drew|exact(HP8.out.alloc _).drew);rintro e w9 ⟨hf9,hp9,v,rfl,hk⟩;obtain⟨x,c,rfl⟩:=hk.slice;have HK:=aB hk;have HP9:=aB hp9;(first|(have hf9':=hf9;have HF9:=aB (((Fr.refl C.pb w8).alloc (.cells #[.int .i64 0,.string ⟨#[]⟩,.slice none 0 0] 341)).drew.trans hf9);have HB9:=aB (hf9.keepB (b:=w8.heap.size) (o:=.cells #[.int .i64 0,.string ⟨#[]⟩,.slice none 0 0] 341 (0,0)) (aR w8 _ rfl _) (by omega));have z0:=aA HB9.out (i:=0) rfl;have z1:=aA HB9.out (i:=1) rfl;have z2:=aA HB9.out (i:=2) rfl;have y0:=aE (i:=0) HB9.out;have y1:=aE (i:=1) HB9.out;have y2:=aE (i:=2) HB9.out;have hzb:=aD HB9.out;clear hf9')|have HF9:=aB ((Fr.refl C.pb w8).drew.trans hf9));have HN9:=aB (HF9.out.keepB HN8.out hnb);have d0:=aA HN9.out (i:=0) rfl;have d1:=aA HN9.out (i:=1) rfl;have hz9:=aD HN9.out;clear hf9 hp9 hk)
    all_goals
     go_wp2_with fail;go_meet
     case rel=>first|exact oD.late HF8.out HF9.out HP9.out HK.out|exact oD.early HF8.out HF9.out HP9.out hpb8 hgb8 HK.out HB9.out rfl
   case rest=>
    obtain⟨cb,sv,rfl,hcb,hf10,hp10,hb10,hk10⟩:=hcut;obtain⟨x,c,rfl⟩:=hk10.slice;have HXP:=aB (fN C wc q ⟨#[59]⟩ hp10);have ed:(⟨#[59]⟩:ByteArray).data.toList=[59]:=rfl;rw[ed] at HXP;have HF10:=aB hf10;have HB10:=aB hb10;have HK10:=aB hk10;have hs10:=hf10.size;clear hf10 hp10 hb10 hk10 ed HV c0 c1 HN8 hz8 HP8;cases hit:aT C.ts q [59]
    ·have HL:Hid (r=.error (aO C.ts q).line):=by show _=_;rw[HR8.out,vT hit];rfl
     rw[hit] at HXP;clear hit HR8;go_wp2_with fail;refine HXP.out.mono ?_;rintro e w11 ⟨hf11,he11⟩;obtain rfl:e=cW 4 (aO C.ts q).line:=he11;have HF11:=aB (HF10.out.trans hf11);clear hf11;go_wp2_with fail;exact⟨rfl,Out.err HL.out HF11.out⟩
    ·have HL:Hid (r=.ok (aP [100,111] t.line t.text [aP [99,97,108,108] t.line t.text l],q+1)):=by show _=_;rw[HR8.out,mT hit];rfl
     rw[hit] at HXP;clear hit HR8;go_wp2_with fail;refine HXP.out.mono ?_;rintro e w11 ⟨hf11,he11⟩;obtain⟨rfl,hp11⟩:=he11;have HF11:=aB hf11;have HP11:=aB hp11;have HB11:=aB (hf11.keepB HB10.out hcb);have m0:=aA HB11.out (i:=0) rfl;have m1:=aA HB11.out (i:=1) rfl;have m2:=aA HB11.out (i:=2) rfl;have hz11:=aD HB11.out;clear hf11 hp11;go_wp2_with fail;go_ret;exact Out.ok HL.out (HF10.out.trans HF11.out) HP11.out (PN.mk (Or.inr (Or.inr (Or.inr (Or.inr (Or.inr (Or.inr (Or.inr (Or.inr (Or.inr (Or.inr (Or.inr (Or.inr (Or.inr (Or.inr (Or.inr (Or.inr (Or.inr (⟨rfl,_,aP [99,97,108,108] t.line t.text l,rfl,rfl,rfl,rfl,rfl,rfl,rfl⟩)))))))))))))))))) (fun p hp=>by obtain rfl:=List.mem_singleton.1 hp;exact Prt.ok.list (HK10.out.grow (fun k h1 h2=>HF11.out.block k h2 (by omega)) (Nat.le_refl _) HF11.out.size)))
 rw[i5] at HA5;obtain⟨r0,hr0⟩:∃r0,r0=eL E C.ts (C.ts.length+1) (p+1) []:=⟨_,rfl⟩;have HR6:Hid (r=bN (aL C.ts [61] r0) fun idx q=>bT (fun v=>aP [115,101,116] t.line t.text (idx++[v])) (aL C.ts [59] (E q))):=by show _=_;rw[HR5.out,i5,hr0];rfl
 have HR0:=aB hr0;have HNE0:Hid (r0≠.error 0):=fun e=>HNE.out (by rw[HR6.out,e];rfl)
 clear i5 HR5 hr0;go_wp2_with fail;refine HA5.out.mono ?_;rintro e w8 ⟨rfl,hat8,hf8⟩;have hpb8:=hat8.pb_lt;have hgb8:=hat8.g_lt;have HN8:=aB (hf8.keepB HNB.out hnb);have hnz8:=aD HN8.out;have hs8:w.heap.size≤w8.heap.size:=(HF7.out.trans hf8).size;have HI:Hid (TY C E w w8 r0 w7.heap.size t (C.ts.length+1) (.slice none 0 0) w8):=⟨HF7.out.trans hf8,p+1,[],hat8,HR0.out,by simp;omega,PLst.nil _ _,HN8.out,Nat.le_refl _⟩
 clear hat8 hf8 HA5 HNB HN8 HF7;go_wp2_with fail;go_loopg [5] (C.ts.length+1) (fun k v wr=>TY C E w w8 r0 w7.heap.size t k v wr)
 case atStart=>exact HI.out
 case round=>
  obtain⟨hf4,q4,acc,hp4,hr4,hal,hls,hnb4,hbs4⟩:=hrel;obtain⟨x4,c4,rfl⟩:=hls.slice;have HAC:=aB (cZ C wr q4 ⟨#[91]⟩ hp4);have ed:(⟨#[91]⟩:ByteArray).data.toList=[91]:=rfl;rw[ed] at HAC;have HF4:=aB hf4;have HLS:=aB hls;have HNB4:=aB hnb4;have hs4:=hf4.size
  obtain⟨k,rfl⟩:∃k,gk=k+1:=by
   cases gk with
   |zero=>exact absurd hr4 HNE0.out
   |succ k=>exact⟨k,rfl⟩
  clear hf4 hp4 hls hnb4 HI HR0 ed;cases hit:aT C.ts q4 [91]
  ·have HR4:Hid (r0=.ok (acc,q4)):=by show _=_;rw[hr4,eL,hit];rfl
   rw[hit] at HAC;clear hit hr4;go_wp2_with fail;refine HAC.out.mono ?_;rintro e w5 ⟨rfl,hp5,hf5⟩;have HXP:=aB (fN C w5 q4 ⟨#[61]⟩ hp5);have ed:(⟨#[61]⟩:ByteArray).data.toList=[61]:=rfl;rw[ed] at HXP;have HF5:=aB (HF4.out.trans hf5);have HL5:=aB (HLS.out.keep hf5 hpb8);have HNB5:=aB (hf5.keepB HNB4.out hnb);have hs5:=hf5.size;clear hp5 hf5 HAC HLS ed HNB4;cases hit:aT C.ts q4 [61]
   ·have HL:Hid (r=.error (aO C.ts q4).line):=by show _=_;rw[HR6.out,HR4.out,vT hit];rfl
    rw[hit] at HXP;clear hit HR6 HR4;go_wp2_with fail;refine HXP.out.mono ?_;rintro e w6 ⟨hf6,he6⟩;obtain rfl:e=cW 4 (aO C.ts q4).line:=he6;have HF6:=aB (HF5.out.trans hf6);clear hf6;go_wp2_with fail;exact⟨rfl,Out.err HL.out HF6.out⟩
   ·obtain⟨rE,hrE⟩:∃rE,rE=aL C.ts [59] (E (q4+1)):=⟨_,rfl⟩;have HR8:Hid (r=bT (fun v=>aP [115,101,116] t.line t.text (acc++[v])) rE):=by show _=_;rw[HR6.out,HR4.out,mT hit,hrE];rfl
    have hE0:aL C.ts [59] (E (q4+1))≠.error 0:=fun e=>HNE.out (by rw[HR8.out,hrE,e];rfl)
    rw[hit] at HXP;have HRE:=aB hrE;clear hit HR6 HR4 hrE;go_wp2_with fail;refine HXP.out.mono ?_;rintro e w6 ⟨hf6,he6⟩;obtain⟨rfl,hp6⟩:=he6;have HX:=aB (HLA.out w6.drew (q4+1) hp6.drew hE0);simp only[←HRE.out] at HX;have HF6:=aB (HF5.out.trans hf6);have HL6:=aB (HL5.out.keep hf6 hpb8);have HNB6:=aB (hf6.keepB HNB5.out hnb);have hs6:=hf6.size;have m0:=aA HNB6.out (i:=0) rfl;have m1:=aA HNB6.out (i:=1) rfl;have hz6:=aD HNB6.out;clear hp6 hf6 HXP HL5 HNB5 hE0;cases rE with
    |error l=>
     have HL:Hid (r=.error l):=HR8.out;go_wp2_with fail;go_region_law (refine thrown .nilIface ?_ ?_;(focus go_simp;go_at_call 302;refine HX.out.mono ?_;rintro e w9 ⟨hf9,rfl⟩;exact And.intro rfl (Out.err HL.out (HF6.out.drew.trans hf9)));intro hfalse)
     all_goals exact hfalse.out.elim
    |ok aq=>
     obtain⟨a,q⟩:=aq;have HL:Hid (r=.ok (aP [115,101,116] t.line t.text (acc++[a]),q)):=HR8.out;clear HR8;go_wp2_with fail;go_region_law (go_simp;go_at_call 302;refine HX.out.mono ?_;rintro e w9 ⟨hf9,hp9,v9,rfl,hn9⟩;obtain⟨T9,cs9,rfl⟩:=hn9.form;have HF9:=aB ((Fr.refl C.pb w6).drew.trans hf9);have HN9:=aB hn9;have HP9:=aB hp9;have HNB9:=aB (HF9.out.keepB HNB6.out hnb);have d0:=aA HNB9.out (i:=0) rfl;have d1:=aA HNB9.out (i:=1) rfl;have hz9:=aD HNB9.out;clear hf9 hp9 hn9)
     all_goals (go_wp2_with fail;go_ret)
     all_goals exact Out.ok HL.out (HF6.out.trans HF9.out) HP9.out (PN.mk (Or.inr (Or.inr (Or.inr (Or.inr (Or.inr (Or.inr (Or.inr (Or.inr (Or.inr (Or.inr (Or.inl (⟨rfl,_,_,acc,a,rfl,rfl,rfl,rfl⟩)))))))))))) (fun p hp=>by
      simp only[List.mem_cons,List.not_mem_nil,or_false] at hp;have hs9:=HF9.out.size;rcases hp with rfl|rfl
      ·exact Prt.ok.list ((HL6.out.keep HF9.out hpb8).kid.grow (fun _ _ _=>rfl) (by omega) (Nat.le_refl _))
      ·exact Prt.ok.node (HN9.out.grow (fun _ _ _=>rfl) (by show _≤w6.heap.size;omega) (Nat.le_refl _))))
  ·obtain⟨rE,hrE⟩:∃rE,rE=E (q4+1):=⟨_,rfl⟩
   have HR4:Hid (r0=bN (aL C.ts [93] rE) fun i q=>eL E C.ts k q (acc++[i])):=by
    show _=_
    rw[hr4,eL,hit,hrE,if_pos rfl];cases aL C.ts [93] (E (q4+1))<;>rfl
   have hE0:E (q4+1)≠.error 0:=fun e=>HNE0.out (by rw[HR4.out,hrE,e];rfl)
   have HRE:=aB hrE;rw[hit] at HAC;clear hit hr4 hrE;go_wp2_with fail;refine HAC.out.mono ?_;rintro e w5 ⟨rfl,hp5,hf5⟩;have HX:=aB (HEE.out w5 (q4+1) hp5 hE0);simp only[←HRE.out] at HX;have HF5:=aB (HF4.out.trans hf5);have HL5:=aB (HLS.out.keep hf5 hpb8);have HNB5:=aB (hf5.keepB HNB4.out hnb);have hs5:=hf5.size;clear hp5 hf5 HAC HLS hE0 HNB4;cases rE with
   |error l=>
    have HL:Hid (r=.error l):=by show _=_;rw[HR6.out,HR4.out];rfl
    go_wp2_with fail;refine HX.out.mono ?_;rintro e w6 ⟨hf6,rfl⟩;have HF6:=aB (HF5.out.trans hf6);clear hf6 HX;go_wp2_with fail;exact⟨rfl,Out.err HL.out HF6.out⟩
   |ok aq6=>
    obtain⟨a6,q6⟩:=aq6;go_wp2_with fail;refine HX.out.mono ?_;rintro e w6 ⟨hf6,hp6,v6,rfl,hn6⟩;obtain⟨T6,cs6,rfl⟩:=hn6.form;obtain⟨vs,F,hown,hall,hFF⟩:=HL5.out.keep hf6 hpb8
    have hrb:∀g,(Value.slice x4 acc.length c4).ownBlock=some g→g<w5.heap.size:=by
     obtain⟨vs',F',hown',_⟩:=HL5.out;exact cG hown'
    have HRB:=aB hrb;have HF6:=aB (HF5.out.trans hf6);have HP6:=aB hp6;have HN6:=aB hn6;have HNB6:=aB (hf6.keepB HNB5.out hnb);have HALL:=aB (And.intro hall hFF);have hs6:=hf6.size;have hge:∀k,(Value.slice x4 acc.length c4).ownBlock=some k→w8.heap.size≤k:=bX hown;clear hp6 hf6 hn6 HX HL5 HF5 hall hFF hrb HNB5;go_wp2_with (at_builtin;refine wpList_append_lies _ (by rfl) _ _ 213 (by rfl) w8.heap.size 122 i0 _ 1 16 Tryz.underlying213 hi hz0 hz1 hz2 rfl (by decide) _ _ _ (by rfl) (hown.alloc _) ⟨w6.heap.size,0,none⟩ 1 1 [.iface T6 (.agg cs6)] (by rfl) (by rfl) (qJ _ _) (tL _ _) (by decide) (by unfold maxLen;omega) (by omega) (by simp;omega) (w6.heap.size+1) (by simp) ?_)
    intro g7 cap7 w9 hown9 hgrow9 hat9 hg9;have HL9:=aB (PLst.snoc (lo:=w5.heap.size) HALL.out.1 HALL.out.2 HN6.out (by omega) HRB.out (fun k hk=>Below.heap_alloc _ _ _ hk) (by simp) hown9 hgrow9 (hat9.imp_right (fun e=>by omega)))
    have HP9:=aB ((HP6.out.alloc _).grown (base:=w8.heap.size) hgrow9 hge hpb8 hgb8);have HF9:=aB ((HF6.out.alloc _).grown hgrow9 (fun k hk=>Nat.le_trans hs8 (hge k hk)))
    have HNB9:Hid (w9.heap[w7.heap.size]?=some (.cells #[.int .i64 t.line,.string (bs t.text)] 211 (0,0))):=by
     show _=_
     rw[hgrow9.block _ (by simp;omega) (fun e=>by have:=hge _ e.symm;omega),Below.heap_alloc _ _ _ (by omega)]
     exact HNB6.out
    have hs9:w8.heap.size≤w9.heap.size:=by have:=hgrow9.size;simp at this;omega
    have HXP:=aB (fN C w9 q6 ⟨#[93]⟩ HP9.out);have ed:(⟨#[93]⟩:ByteArray).data.toList=[93]:=rfl;rw[ed] at HXP;clear hown hown9 hgrow9 hat9 HN6 HP6 HF6 HALL HRB hge HNB6 ed;cases hit:aT C.ts q6 [93]
    ·have HL:Hid (r=.error (aO C.ts q6).line):=by show _=_;rw[HR6.out,HR4.out,vT hit];rfl
     rw[hit] at HXP;clear hit HR6 HR4;go_wp2_with fail;refine HXP.out.mono ?_;rintro e w10 ⟨hf10,he10⟩;obtain rfl:e=cW 4 (aO C.ts q6).line:=he10;have HF10:=aB (HF9.out.trans hf10);clear hf10;go_wp2_with fail;exact⟨rfl,Out.err HL.out HF10.out⟩
    ·have HR5:Hid (r0=eL E C.ts k (q6+1) (acc++[a6])):=by show _=_;rw[HR4.out,mT hit];rfl
     rw[hit] at HXP;clear hit HR4;go_wp2_with fail;refine HXP.out.mono ?_;rintro e w10 ⟨hf10,he10⟩;obtain⟨rfl,hp10⟩:=he10;have HF10:=aB (HF9.out.trans hf10);have HL10:=aB (HL9.out.keep hf10 hpb8);have HNB10:=aB (hf10.keepB HNB9.out hnb);have HP10:=aB hp10;have hs10:=hf10.size;clear hf10 hp10;go_wp2_with fail;go_roundg k
     case measure=>omega
     case rel=>exact⟨HF10.out,q6+1,acc++[a6],HP10.out,HR5.out,by simp;omega,by simpa using HL10.out,HNB10.out,by omega⟩
def EI(lo:Nat)(w':World)(v:Value)(b:aC):Prop:=b.op=[98,108,111,99,107]∧PKid (Btw lo w'.heap.size) w' v b.kids
def S8(C:Ctx)(w:World)(r:bR aC)(e:Ending)(w':World):Prop:=Out C w r (EI w.heap.size) e w'
def BReads(C:Ctx)(F:Nat)(X:Nat→bR aC):Prop:=∀w p,PAt C w p→X p≠.error 0→Calls Tryz.prog F #[.pointer (some ⟨C.pb,0,none⟩)] w (S8 C w (X p))
def tQ(B:Nat→bR aC)(ts:List aV)(q:Nat):bR (Option aC):=if aT ts q [101,108,115,101] then bT some (B (q+1)) else .ok (none,q)
def G4(lo:Nat)(w':World)(v:Value):Option aC→Prop
 |none=>v=.slice none 0 0
 |some b=>EI lo w' v b
theorem EI.slice{lo:Nat}{w:World}{v:Value}{b:aC}(h:EI lo w v b):∃x n c,v=.slice x n c:=by
 obtain⟨x,c,e⟩:=h.2.slice;exact⟨x,_,c,e⟩
theorem G4.slice{lo:Nat}{w:World}{v:Value}{o:Option aC}(h:G4 lo w v o):∃x n c,v=.slice x n c:=by
 cases o with
 |none=>exact⟨none,0,0,h⟩
 |some b=>exact EI.slice h
theorem EI.grow{lo lo':Nat}{w w':World}{v:Value}{b:aC}(h:EI lo w v b)(hk:∀k,lo≤k→k<w.heap.size→w'.heap[k]?=w.heap[k]?)(h1:lo'≤lo)(h2:w.heap.size≤w'.heap.size):EI lo' w' v b:=⟨h.1,h.2.grow hk h1 h2⟩
theorem L5(E B:Nat→bR aC)(ts:List aV)(p:Nat):
 pR E B ts p=bN (E (p+1)) fun c q=>bN (B q) fun b q2=>bT (fun o=>aP [105,102] (aO ts p).line [] (c::b::o.toList)) (tQ B ts q2):=by
 unfold pR;cases E (p+1) with
 |error l=>rfl
 |ok cq=>
  obtain⟨c,q⟩:=cq;show bN (B q) _=bN (B q) _
  cases B q with
  |error l=>rfl
  |ok bq=>
   obtain⟨b,q2⟩:=bq;show (if _ then _ else _)=bT _ (tQ B ts q2)
   unfold tQ;split
   ·cases B (q2+1)<;>rfl
   ·rfl
theorem D8(C:Ctx)(B:Nat→bR aC)(HB:BReads C 187 B)(w:World)(q:Nat)(h:PAt C w q)(r:bR (Option aC))(hr:r=tQ B C.ts q)(hne:r≠.error 0):
 Calls Tryz.prog 303 #[.pointer (some ⟨C.pb,0,none⟩)] w (Out C w r (G4 w.heap.size)):=by
 have HA:=aB (cZ C w q ⟨#[101,108,115,101]⟩ h);have ed:(⟨#[101,108,115,101]⟩:ByteArray).data.toList=[101,108,115,101]:=rfl;rw[ed] at HA;have HBB:=aB HB;have HR:=aB hr;have HNE:=aB hne;clear h HB hr hne ed;cases hit:aT C.ts q [101,108,115,101]
 ·have HL:Hid (r=.ok (none,q)):=by show _=_;rw[HR.out];unfold tQ;rw[hit];rfl
  rw[hit] at HA;clear hit HR;go_enter Tryz.func303,Tryz.ntmps303;go_wp2_with fail;refine HA.out.mono ?_;rintro e w1 ⟨rfl,hp1,hf1⟩;have HP1:=aB hp1;have HF1:=aB hf1;clear hp1 hf1;go_wp2_with fail;go_ret;exact Out.ok HL.out HF1.out HP1.out rfl
 ·obtain⟨rB,hrB⟩:∃rB,rB=B (q+1):=⟨_,rfl⟩;have HR1:Hid (r=bT some rB):=by show _=_;rw[HR.out,hrB];unfold tQ;rw[hit];rfl
  have hB0:B (q+1)≠.error 0:=fun e=>HNE.out (by rw[HR1.out,hrB,e];rfl)
  have HRB:=aB hrB;rw[hit] at HA;clear hit HR hrB;go_enter Tryz.func303,Tryz.ntmps303;go_wp2_with fail;refine HA.out.mono ?_;rintro e w1 ⟨rfl,hp1,hf1⟩;have HX:=aB (HBB.out w1 (q+1) hp1 hB0);rw[←HRB.out] at HX;have HF1:=aB hf1;have hs1:=hf1.size;clear hp1 hf1 hB0 HA;cases rB with
  |error l=>
   have HL:Hid (r=.error l):=HR1.out;go_wp2_with fail;refine HX.out.mono ?_;rintro e w2 ⟨hf2,rfl⟩;have HF2:=aB (HF1.out.trans hf2);clear hf2;go_wp2_with fail;exact⟨rfl,Out.err HL.out HF2.out⟩
  |ok bq=>
   obtain⟨b,q2⟩:=bq;have HL:Hid (r=.ok (some b,q2)):=HR1.out;go_wp2_with fail;refine HX.out.mono ?_;rintro e w2 ⟨hf2,hp2,v2,rfl,hb2⟩;have HF2:=aB (HF1.out.trans hf2);have HP2:=aB hp2;have HB2:=aB hb2;obtain⟨x,n,c,rfl⟩:=hb2.slice;clear hf2 hp2 hb2;go_wp2_with fail;go_ret;exact Out.ok HL.out HF2.out HP2.out (show EI _ _ _ _ from HB2.out.grow (fun _ _ _=>rfl) hs1 (Nat.le_refl _))
theorem ZF(C:Ctx)(E B:Nat→bR aC)(HE:PReads C 164 E)(HB:BReads C 187 B):PReads C 257 (iH E B C.ts):=by
 intro w p h hne;have HPL:=aB (lR C w p h);have HEE:=aB HE;have HBB:=aB HB;have HLA:=aB (MN C E HE);have HSI:=aB (PW C E HE);have H:=aB h;have hpb:=h.pb_lt;have hgb:=h.g_lt;obtain⟨r,hr⟩:∃r,r=iH E B C.ts p:=⟨_,rfl⟩;rw[←hr] at hne ⊢
 rw[iH] at hr;have HR0:=aB hr;have HNE:=aB hne;clear h HE HB hne hr;generalize hpl:(aO C.ts p).line=pl at*;have HTL:=aB hpl;clear hpl;go_enter Tryz.func257,Tryz.ntmps257;go_wp2_with fail;refine HPL.out.mono ?_;rintro e w1 ⟨rfl,hb1⟩;have HF1:=aB ((Fr.below (pb:=C.pb) hb1).alloc (.cells #[.int .i64 pl] 209));have HP1:=aB ((H.out.below hb1).alloc (.cells #[.int .i64 pl] 209));have HB1:=aB (G6.new w1 pl);have htb:w1.heap.size≠C.pb:=by have:=hb1.size;omega
 have hs1:=hb1.size;clear hb1 HPL;have HA:=aB (cZ C (w1.alloc (.cells #[.int .i64 pl] 209)) p ⟨#[118,97,114]⟩ HP1.out);have ed:(⟨#[118,97,114]⟩:ByteArray).data.toList=[118,97,114]:=rfl;rw[ed] at HA;clear ed;cases hit:aT C.ts p [118,97,114];rotate_left
 ·have HRt:Hid (r=nN E C.ts p):=by show _=_;rw[HR0.out,hit];rfl
  rw[hit] at HA;clear hit HR0;go_wp2_with fail;refine HA.out.mono ?_;rintro e W1 ⟨rfl,hat1,hf1⟩;have HFt:=aB (HF1.out.trans hf1);have HBt:=aB (hf1.keepB HB1.out htb);clear hf1 HA HF1 HP1 HB1;have HNM:=aB (lQ C W1 (p+1) hat1);clear hat1;obtain⟨t,ht⟩:∃t,t=aO C.ts (p+1):=⟨_,rfl⟩;rw[←ht] at HNM;have HTT:=aB ht;clear ht;cases hs:(t.sort==110)
  ·have HL:Hid (r=.error t.line):=by show _=_;rw[HRt.out];unfold nN;rw[←HTT.out,hs];show Hs.bad _ _=_;unfold Hs.bad;rw[←HTT.out]
   rw[hs] at HNM;clear hs HRt;go_wp2_with fail;refine HNM.out.mono ?_;rintro e w2 ⟨hf2,he2⟩;obtain rfl:e=cW 4 t.line:=he2;have HF2:=aB (HFt.out.trans hf2);clear hf2;go_wp2_with fail;exact⟨rfl,Out.err HL.out HF2.out⟩
  have HR2:Hid (r=if aT C.ts (p+2) [61] then bT (fun v=>aP [118,97,114] pl [] [aP [116,97,114,103,101,116] t.line t.text [],v]) (aL C.ts [59] (E (p+3))) else Hs.bad C.ts (p+2)):=by
   show _=_
   rw[HRt.out];unfold nN;rw[←HTT.out,hs,GD,HTL.out];rfl
  rw[hs] at HNM;clear hs HRt;go_wp2_with fail;refine HNM.out.mono ?_;rintro e w2 ⟨hf2,he2⟩;obtain⟨rfl,hat2⟩:=he2;have HF2:=aB ((HFt.out.trans hf2).alloc (.cells #[.int .i64 t.line,.string (bs t.text)] 211));have HXP:=aB (fN C (w2.alloc (.cells #[.int .i64 t.line,.string (bs t.text)] 211)) (p+2) ⟨#[61]⟩ (hat2.alloc _));have ed5:(⟨#[61]⟩:ByteArray).data.toList=[61]:=rfl;rw[ed5] at HXP;have HNB:Hid ((w2.alloc (.cells #[.int .i64 t.line,.string (bs t.text)] 211)).heap[w2.heap.size]?=some (.cells #[.int .i64 t.line,.string (bs t.text)] 211 (0,0))):=aR _ _ rfl _;have hnb:w2.heap.size≠C.pb:=by have:=hat2.pb_lt;omega
  have HB2:=aB ((hf2.alloc (.cells #[.int .i64 t.line,.string (bs t.text)] 211)).keepB HBt.out htb);clear hf2 hat2 HNM ed5;cases hit:aT C.ts (p+2) [61]
  ·have HL:Hid (r=.error (aO C.ts (p+2)).line):=by show _=_;rw[HR2.out,hit];rfl
   rw[hit] at HXP;clear hit HR2;go_wp2_with fail;refine HXP.out.mono ?_;rintro e w3 ⟨hf3,he3⟩;obtain rfl:e=cW 4 (aO C.ts (p+2)).line:=he3;have HF3:=aB (HF2.out.trans hf3);clear hf3;go_wp2_with fail;exact⟨rfl,Out.err HL.out HF3.out⟩
  obtain⟨rE,hrE⟩:∃rE,rE=aL C.ts [59] (E (p+3)):=⟨_,rfl⟩;have HR3:Hid (r=bT (fun v=>aP [118,97,114] pl [] [aP [116,97,114,103,101,116] t.line t.text [],v]) rE):=by show _=_;rw[HR2.out,hit,hrE];rfl
  have hE0:aL C.ts [59] (E (p+3))≠.error 0:=fun e=>HNE.out (by rw[HR3.out,hrE,e];rfl)
  have HRE:=aB hrE;rw[hit] at HXP;clear hit HR2 hrE;go_wp2_with fail;refine HXP.out.mono ?_;rintro e w3 ⟨hf3,he3⟩;obtain⟨rfl,hp3⟩:=he3;have HX:=aB (HLA.out w3.drew (p+3) hp3.drew hE0);simp only[←HRE.out] at HX;have HF3:=aB (HF2.out.trans hf3);have HB3:=aB (hf3.keepB HB2.out htb);have HNB3:=aB (hf3.keepB HNB.out hnb);have c0:=aA HB3.out (i:=0) rfl;have hz3:=aD HB3.out;have m0:=aA HNB3.out (i:=0) rfl;have m1:=aA HNB3.out (i:=1) rfl;have hy3:=aD HNB3.out;have hs3:=HF3.out.size;clear hf3 hp3 HXP HB2 HNB hE0;cases rE with
  |error l=>
   have HL:Hid (r=.error l):=HR3.out;go_wp2_with fail;go_region_law (refine thrown .nilIface ?_ ?_;(focus go_simp;go_at_call 302;refine HX.out.mono ?_;rintro e w4 ⟨hf4,rfl⟩;exact And.intro rfl (Out.err HL.out (HF3.out.drew.trans hf4)));intro hfalse)
   all_goals exact hfalse.out.elim
  |ok aq=>
   obtain⟨a,q⟩:=aq;have HL:Hid (r=.ok (aP [118,97,114] pl [] [aP [116,97,114,103,101,116] t.line t.text [],a],q)):=HR3.out;clear HR3;go_wp2_with fail;go_region_law (go_simp;go_at_call 302;refine HX.out.mono ?_;rintro e w4 ⟨hf4,hp4,v4,rfl,hn4⟩;obtain⟨T4,cs4,rfl⟩:=hn4.form;have HF4:=aB ((Fr.refl C.pb w3).drew.trans hf4);have HN4:=aB hn4;have HP4:=aB hp4;have HNB4:=aB (HF4.out.keepB HNB3.out hnb);have HB4:=aB (HF4.out.keepB HB3.out htb);have d0:=aA HNB4.out (i:=0) rfl;have d1:=aA HNB4.out (i:=1) rfl;have hz4:=aD HNB4.out;have d2:=aA HB4.out (i:=0) rfl;have hy4:=aD HB4.out;clear hf4 hp4 hn4)
   all_goals (go_wp2_with fail;go_ret)
   all_goals exact Out.ok HL.out (HF3.out.trans HF4.out) HP4.out (PN.mk (Or.inr (Or.inr (Or.inr (Or.inr (Or.inr (Or.inr (Or.inr (Or.inr (Or.inr (Or.inl (⟨rfl,_,aP [116,97,114,103,101,116] t.line t.text [],a,rfl,rfl,rfl,rfl⟩))))))))))) (fun p hp=>by obtain rfl:=List.mem_singleton.1 hp;exact Prt.ok.node (HN4.out.grow (fun _ _ _=>rfl) hs3 (Nat.le_refl _))))
 have HRn:Hid (r=if aT C.ts p [105,102] then pR E B C.ts p else if aT C.ts p [119,104,105,108,101] then jM E B C.ts p else if aT C.ts p [114,101,116,117,114,110] then gI E C.ts p else if aT C.ts p [112,114,105,110,116] then hP E C.ts p else eK E C.ts p):=by show _=_;rw[HR0.out,hit];rfl
 rw[hit] at HA;clear hit HR0;have HR0:=HRn;clear HRn;go_wp2_with fail;refine HA.out.mono ?_;rintro e V1 ⟨rfl,hatn,hfn⟩;have HF1':=aB (HF1.out.trans hfn);have HB1':=aB (hfn.keepB HB1.out htb);have HP1':=aB hatn;clear hfn hatn HA HF1 HB1 HP1;have HF1:=HF1';have HB1:=HB1';have HP1:=HP1';clear HF1' HB1' HP1';have HA:=aB (cZ C V1 p ⟨#[105,102]⟩ HP1.out);have ed:(⟨#[105,102]⟩:ByteArray).data.toList=[105,102]:=rfl;rw[ed] at HA;clear ed;cases hit:aT C.ts p [105,102];rotate_left
 ·have HRt:Hid (r=pR E B C.ts p):=by show _=_;rw[HR0.out,hit];rfl
  rw[hit] at HA;clear hit HR0;go_wp2_with fail;refine HA.out.mono ?_;rintro e W1 ⟨rfl,hat1,hf1⟩;have HFt:=aB (HF1.out.trans hf1);have HBt:=aB (hf1.keepB HB1.out htb);clear hf1 HA HF1 HP1 HB1;obtain⟨rE,hrE⟩:∃rE,rE=E (p+1):=⟨_,rfl⟩;have HR2:Hid (r=bN rE fun c q=>bN (B q) fun b q2=>bT (fun o=>aP [105,102] pl [] (c::b::o.toList)) (tQ B C.ts q2)):=by show _=_;rw[HRt.out,hrE,L5,HTL.out]
  have hE0:E (p+1)≠.error 0:=fun e=>HNE.out (by rw[HR2.out,hrE,e];rfl)
  have HX:=aB (HEE.out W1 (p+1) hat1 hE0);rw[←hrE] at HX;clear hat1 hE0 hrE HRt;cases rE with
  |error l=>
   have HL:Hid (r=.error l):=HR2.out;go_wp2_with fail;refine HX.out.mono ?_;rintro e w2 ⟨hf2,rfl⟩;have HF2:=aB (HFt.out.trans hf2);clear hf2;go_wp2_with fail;exact⟨rfl,Out.err HL.out HF2.out⟩
  |ok cq=>
   obtain⟨c,q⟩:=cq;go_wp2_with fail;refine HX.out.mono ?_;rintro e w2 ⟨hf2,hat2,v2,rfl,hn2⟩;obtain⟨T2,cs2,rfl⟩:=hn2.form;have HF2:=aB (HFt.out.trans hf2);have HB2:=aB (hf2.keepB HBt.out htb);have hs2:=HFt.out.size;have hs2':=hf2.size;have HN2:=aB (hn2.grow (lo':=w.heap.size) (fun _ _ _=>rfl) hs2 (Nat.le_refl _))
   clear hf2 hn2 HX;obtain⟨rB,hrB⟩:∃rB,rB=B q:=⟨_,rfl⟩;have HR3:Hid (r=bN rB fun b q2=>bT (fun o=>aP [105,102] pl [] (c::b::o.toList)) (tQ B C.ts q2)):=by show _=_;rw[HR2.out,hrB];rfl
   have hB0:B q≠.error 0:=fun e=>HNE.out (by rw[HR3.out,hrB,e];rfl)
   have HY:=aB (HBB.out w2 q hat2 hB0);rw[←hrB] at HY;clear hat2 hB0 hrB HR2;cases rB with
   |error l=>
    have HL:Hid (r=.error l):=HR3.out;go_wp2_with fail;refine HY.out.mono ?_;rintro e w4 ⟨hf4,rfl⟩;have HF4:=aB (HF2.out.trans hf4);clear hf4;go_wp2_with fail;exact⟨rfl,Out.err HL.out HF4.out⟩
   |ok bq=>
    obtain⟨b,q3⟩:=bq;obtain⟨rO,hrO⟩:∃rO,rO=tQ B C.ts q3:=⟨_,rfl⟩;have HR4:Hid (r=bT (fun o=>aP [105,102] pl [] (c::b::o.toList)) rO):=by show _=_;rw[HR3.out,hrO];rfl
    have HRO:=aB hrO;have HO0:Hid (rO≠.error 0):=fun e=>HNE.out (by rw[HR4.out,e];rfl)
    clear HR3 hrO;go_wp2_with fail;refine HY.out.mono ?_;rintro e w4 ⟨hf4,hp4,v4,rfl,hb4⟩;obtain⟨x4,n4,c4,rfl⟩:=hb4.slice;have HF4:=aB (HF2.out.trans hf4);have hs4:=hf4.size;have HK4:=aB (hb4.grow (lo':=w.heap.size) (fun _ _ _=>rfl) (by omega) (Nat.le_refl _))
    have HN4:=aB (HN2.out.grow (lo':=w.heap.size) (hi':=w4.heap.size) (fun k h1 h2=>hf4.block k h2 (by omega)) (Nat.le_refl _) hf4.size)
    have HB4:=aB (hf4.keepB HB2.out htb);have HZ:=aB (D8 C B HBB.out w4.drew q3 hp4.drew rO HRO.out HO0.out);have c0:=aA HB4.out (i:=0) rfl;have hz3:=aD HB4.out;clear hf4 hp4 hb4 HY HB2 HN2;cases rO with
    |error l=>
     have HL:Hid (r=.error l):=HR4.out;go_wp2_with fail;go_region_law (refine thrown (.slice none 0 0) ?_ ?_;(focus go_simp;go_at_call 303;refine HZ.out.mono ?_;rintro e w5 ⟨hf5,rfl⟩;exact And.intro rfl (Out.err HL.out (HF4.out.drew.trans hf5)));intro hfalse)
     all_goals exact hfalse.out.elim
    |ok oq=>
     obtain⟨o,q5⟩:=oq;have HL:Hid (r=.ok (aP [105,102] pl [] (c::b::o.toList),q5)):=HR4.out;clear HR4;go_wp2_with fail;go_region_law (go_simp;go_at_call 303;refine HZ.out.mono ?_;rintro e w5 ⟨hf5,hp5,v5,rfl,hb5⟩;obtain⟨x5,n5,c5,rfl⟩:=hb5.slice;have HF5:=aB ((Fr.refl C.pb w4).drew.trans hf5);have HK5:=aB hb5;have HP5:=aB hp5;have HB5:=aB (HF5.out.keepB HB4.out htb);have d2:=aA HB5.out (i:=0) rfl;have hy4:=aD HB5.out;clear hf5 hp5 hb5)
     all_goals (go_wp2_with fail;go_ret)
     all_goals
      have hs5:=HF5.out.size;have hNN:=HN4.out.grow (lo':=w.heap.size) (hi':=w5.heap.size) (fun k h1 h2=>HF5.out.block k h2 (by omega)) (Nat.le_refl _) HF5.out.size
      have hKK:=HK4.out.grow (lo':=w.heap.size) (fun k h1 h2=>HF5.out.block k h2 (by omega)) (Nat.le_refl _) HF5.out.size
      cases o with
      |none=>
       have h5:Value.slice x5 n5 c5=.slice none 0 0:=HK5.out;rw[h5]
       exact Out.ok HL.out (HF4.out.trans HF5.out) HP5.out (PN.mk (Or.inr (Or.inr (Or.inr (Or.inr (Or.inr (Or.inr (Or.inr (Or.inr (Or.inr (Or.inr (Or.inr (Or.inl (⟨rfl,_,_,c,b,rfl,rfl,hKK.1,rfl,rfl⟩))))))))))))) (fun p hp=>by
        simp only[List.mem_cons,List.not_mem_nil,or_false] at hp;rcases hp with rfl|rfl
        ·exact Prt.ok.node hNN
        ·exact Prt.ok.list hKK.2))
      |some b2=>
       have h5:EI w4.drew.heap.size w5 (.slice x5 n5 c5) b2:=HK5.out
       exact Out.ok HL.out (HF4.out.trans HF5.out) HP5.out (PN.mk (Or.inr (Or.inr (Or.inr (Or.inr (Or.inr (Or.inr (Or.inr (Or.inr (Or.inr (Or.inr (Or.inr (Or.inr (Or.inl (⟨rfl,_,_,_,c,b,b2,rfl,rfl,hKK.1,h5.1,rfl,rfl⟩)))))))))))))) (fun p hp=>by
        simp only[List.mem_cons,List.not_mem_nil,or_false] at hp;rcases hp with rfl|rfl|rfl
        ·exact Prt.ok.node hNN
        ·exact Prt.ok.list hKK.2
        ·exact Prt.ok.list (h5.2.grow (fun _ _ _=>rfl) (by show _≤w4.heap.size;omega) (Nat.le_refl _))))
 have HRn:Hid (r=if aT C.ts p [119,104,105,108,101] then jM E B C.ts p else if aT C.ts p [114,101,116,117,114,110] then gI E C.ts p else if aT C.ts p [112,114,105,110,116] then hP E C.ts p else eK E C.ts p):=by show _=_;rw[HR0.out,hit];rfl
 rw[hit] at HA;clear hit HR0;have HR0:=HRn;clear HRn;go_wp2_with fail;refine HA.out.mono ?_;rintro e V2 ⟨rfl,hatn,hfn⟩;have HF1':=aB (HF1.out.trans hfn);have HB1':=aB (hfn.keepB HB1.out htb);have HP1':=aB hatn;clear hfn hatn HA HF1 HB1 HP1;have HF1:=HF1';have HB1:=HB1';have HP1:=HP1';clear HF1' HB1' HP1';have HA:=aB (cZ C V2 p ⟨#[119,104,105,108,101]⟩ HP1.out);have ed:(⟨#[119,104,105,108,101]⟩:ByteArray).data.toList=[119,104,105,108,101]:=rfl;rw[ed] at HA;clear ed;cases hit:aT C.ts p [119,104,105,108,101];rotate_left
 ·have HRt:Hid (r=jM E B C.ts p):=by show _=_;rw[HR0.out,hit];rfl
  rw[hit] at HA;clear hit HR0;go_wp2_with fail;refine HA.out.mono ?_;rintro e W1 ⟨rfl,hat1,hf1⟩;have HFt:=aB (HF1.out.trans hf1);have HBt:=aB (hf1.keepB HB1.out htb);clear hf1 HA HF1 HP1 HB1;obtain⟨rE,hrE⟩:∃rE,rE=E (p+1):=⟨_,rfl⟩;have HR2:Hid (r=bN rE fun c q=>bT (fun b=>aP [119,104,105,108,101] pl [] [c,b]) (B q)):=by show _=_;rw[HRt.out,hrE];unfold jM;rw[HTL.out]
  have hE0:E (p+1)≠.error 0:=fun e=>HNE.out (by rw[HR2.out,hrE,e];rfl)
  have HX:=aB (HEE.out W1 (p+1) hat1 hE0);rw[←hrE] at HX;clear hat1 hE0 hrE HRt;cases rE with
  |error l=>
   have HL:Hid (r=.error l):=HR2.out;go_wp2_with fail;refine HX.out.mono ?_;rintro e w2 ⟨hf2,rfl⟩;have HF2:=aB (HFt.out.trans hf2);clear hf2;go_wp2_with fail;exact⟨rfl,Out.err HL.out HF2.out⟩
  |ok cq=>
   obtain⟨c,q⟩:=cq;go_wp2_with fail;refine HX.out.mono ?_;rintro e w2 ⟨hf2,hat2,v2,rfl,hn2⟩;obtain⟨T2,cs2,rfl⟩:=hn2.form;have HF2:=aB (HFt.out.trans hf2);have HB2:=aB (hf2.keepB HBt.out htb);have hs2:=HFt.out.size;have hs2':=hf2.size;have HN2:=aB (hn2.grow (lo':=w.heap.size) (fun _ _ _=>rfl) hs2 (Nat.le_refl _))
   clear hf2 hn2 HX;obtain⟨rB,hrB⟩:∃rB,rB=B q:=⟨_,rfl⟩;have HR3:Hid (r=bT (fun b=>aP [119,104,105,108,101] pl [] [c,b]) rB):=by show _=_;rw[HR2.out,hrB];rfl
   have hB0:B q≠.error 0:=fun e=>HNE.out (by rw[HR3.out,hrB,e];rfl)
   have HY:=aB (HBB.out w2.drew q hat2.drew hB0);rw[←hrB] at HY;have c0:=aA HB2.out (i:=0) rfl;have hz3:=aD HB2.out;clear hat2 hB0 hrB HR2;cases rB with
   |error l=>
    have HL:Hid (r=.error l):=HR3.out;go_wp2_with fail;go_region_law (refine thrown (.slice none 0 0) ?_ ?_;(focus go_simp;go_at_call 187;refine HY.out.mono ?_;rintro e w4 ⟨hf4,rfl⟩;exact And.intro rfl (Out.err HL.out (HF2.out.drew.trans hf4)));intro hfalse)
    all_goals exact hfalse.out.elim
   |ok bq=>
    obtain⟨b,q3⟩:=bq;have HL:Hid (r=.ok (aP [119,104,105,108,101] pl [] [c,b],q3)):=HR3.out;clear HR3;go_wp2_with fail;go_region_law (go_simp;go_at_call 187;refine HY.out.mono ?_;rintro e w4 ⟨hf4,hp4,v4,rfl,hb4⟩;obtain⟨x4,n4,c4,rfl⟩:=hb4.slice;have HF4:=aB ((Fr.refl C.pb w2).drew.trans hf4);have HK4:=aB hb4;have HP4:=aB hp4;have HB4:=aB (HF4.out.keepB HB2.out htb);have d2:=aA HB4.out (i:=0) rfl;have hy4:=aD HB4.out;clear hf4 hp4 hb4)
    all_goals (go_wp2_with fail;go_ret)
    all_goals exact Out.ok HL.out (HF2.out.trans HF4.out) HP4.out (PN.mk (Or.inr (Or.inr (Or.inr (Or.inr (Or.inr (Or.inr (Or.inr (Or.inr (Or.inr (Or.inr (Or.inr (Or.inr (Or.inr (Or.inl (⟨rfl,_,_,c,b,rfl,rfl,HK4.out.1,rfl,rfl⟩))))))))))))))) (fun p hp=>by
     simp only[List.mem_cons,List.not_mem_nil,or_false] at hp;rcases hp with rfl|rfl
     ·exact Prt.ok.node (HN2.out.grow (fun k h1 h2=>HF4.out.block k h2 (by omega)) (Nat.le_refl _) HF4.out.size)
     ·exact Prt.ok.list (HK4.out.2.grow (fun _ _ _=>rfl) (by show _≤w2.heap.size;omega) (Nat.le_refl _))))
 have HRn:Hid (r=if aT C.ts p [114,101,116,117,114,110] then gI E C.ts p else if aT C.ts p [112,114,105,110,116] then hP E C.ts p else eK E C.ts p):=by show _=_;rw[HR0.out,hit];rfl
 rw[hit] at HA;clear hit HR0;have HR0:=HRn;clear HRn;go_wp2_with fail;refine HA.out.mono ?_;rintro e V3 ⟨rfl,hatn,hfn⟩;have HF1':=aB (HF1.out.trans hfn);have HB1':=aB (hfn.keepB HB1.out htb);have HP1':=aB hatn;clear hfn hatn HA HF1 HB1 HP1;have HF1:=HF1';have HB1:=HB1';have HP1:=HP1';clear HF1' HB1' HP1';have HA:=aB (cZ C V3 p ⟨#[114,101,116,117,114,110]⟩ HP1.out);have ed:(⟨#[114,101,116,117,114,110]⟩:ByteArray).data.toList=[114,101,116,117,114,110]:=rfl;rw[ed] at HA;clear ed;cases hit:aT C.ts p [114,101,116,117,114,110];rotate_left
 ·have HRt:Hid (r=gI E C.ts p):=by show _=_;rw[HR0.out,hit];rfl
  rw[hit] at HA;clear hit HR0;go_wp2_with fail;refine HA.out.mono ?_;rintro e W1 ⟨rfl,hat1,hf1⟩;have HFt:=aB (HF1.out.trans hf1);have HBt:=aB (hf1.keepB HB1.out htb);clear hf1 HA HF1 HP1 HB1;have HA2:=aB (cZ C W1 (p+1) ⟨#[59]⟩ hat1);have ed2:(⟨#[59]⟩:ByteArray).data.toList=[59]:=rfl;rw[ed2] at HA2;clear hat1 ed2;cases hit:aT C.ts (p+1) [59];rotate_left
  ·have HL:Hid (r=.ok (aP [114,101,116,117,114,110] pl [] [],p+2)):=by show _=_;rw[HRt.out];unfold gI;rw[hit,HTL.out];rfl
   rw[hit] at HA2;clear hit HRt;go_wp2_with fail;refine HA2.out.mono ?_;rintro e w2 ⟨rfl,hat2,hf2⟩;have HF2:=aB (HFt.out.trans hf2);have HB2:=aB (hf2.keepB HBt.out htb);have HP2:=aB hat2;have c0:=aA HB2.out (i:=0) rfl;have hz3:=aD HB2.out;clear hf2 hat2;go_wp2_with fail;go_ret;exact Out.ok HL.out HF2.out HP2.out (PN.mk (Or.inr (Or.inr (Or.inr (Or.inr (Or.inr (Or.inr (Or.inr (Or.inr (Or.inr (Or.inr (Or.inr (Or.inr (Or.inr (Or.inr (Or.inl (⟨rfl,pl,rfl,rfl,rfl,rfl⟩)))))))))))))))) (fun p hp=>by cases hp))
  have HR2:Hid (r=bT (fun v=>aP [114,101,116,117,114,110] pl [] [v]) (aL C.ts [59] (E (p+1)))):=by show _=_;rw[HRt.out];unfold gI;rw[hit,GD,HTL.out];rfl
  rw[hit] at HA2;clear hit HRt;go_wp2_with fail;refine HA2.out.mono ?_;rintro e w2 ⟨rfl,hat2,hf2⟩;have HF2:=aB (HFt.out.trans hf2);have HB2:=aB (hf2.keepB HBt.out htb);clear hf2;obtain⟨rE,hrE⟩:∃rE,rE=aL C.ts [59] (E (p+1)):=⟨_,rfl⟩;have HR3:Hid (r=bT (fun v=>aP [114,101,116,117,114,110] pl [] [v]) rE):=by show _=_;rw[HR2.out,hrE]
  have hE0:aL C.ts [59] (E (p+1))≠.error 0:=fun e=>HNE.out (by rw[HR3.out,hrE,e];rfl)
  have HRE:=aB hrE;have HX:=aB (HLA.out w2.drew (p+1) hat2.drew hE0);simp only[←HRE.out] at HX;have c0:=aA HB2.out (i:=0) rfl;have hz3:=aD HB2.out;have hs3:=HF2.out.size;clear hat2 hE0 hrE HR2;cases rE with
  |error l=>
   have HL:Hid (r=.error l):=HR3.out;go_wp2_with fail;go_region_law (refine thrown .nilIface ?_ ?_;(focus go_simp;go_at_call 302;refine HX.out.mono ?_;rintro e w4 ⟨hf4,rfl⟩;exact And.intro rfl (Out.err HL.out (HF2.out.drew.trans hf4)));intro hfalse)
   all_goals exact hfalse.out.elim
  |ok aq=>
   obtain⟨a,q⟩:=aq;have HL:Hid (r=.ok (aP [114,101,116,117,114,110] pl [] [a],q)):=HR3.out;clear HR3;go_wp2_with fail;go_region_law (go_simp;go_at_call 302;refine HX.out.mono ?_;rintro e w4 ⟨hf4,hp4,v4,rfl,hn4⟩;obtain⟨T4,cs4,rfl⟩:=hn4.form;have HF4:=aB ((Fr.refl C.pb w2).drew.trans hf4);have HN4:=aB hn4;have HP4:=aB hp4;have HB4:=aB (HF4.out.keepB HB2.out htb);have d2:=aA HB4.out (i:=0) rfl;have hy4:=aD HB4.out;clear hf4 hp4 hn4)
   all_goals (go_wp2_with fail;go_ret)
   all_goals exact Out.ok HL.out (HF2.out.trans HF4.out) HP4.out (PN.mk (Or.inr (Or.inr (Or.inr (Or.inr (Or.inr (Or.inr (Or.inr (Or.inr (Or.inr (Or.inr (Or.inr (Or.inr (Or.inr (Or.inr (Or.inr (Or.inl (⟨rfl,_,a,rfl,rfl,rfl,rfl⟩))))))))))))))))) (fun p hp=>by obtain rfl:=List.mem_singleton.1 hp;exact Prt.ok.node (HN4.out.grow (fun _ _ _=>rfl) hs3 (Nat.le_refl _))))
 have HRn:Hid (r=if aT C.ts p [112,114,105,110,116] then hP E C.ts p else eK E C.ts p):=by show _=_;rw[HR0.out,hit];rfl
 rw[hit] at HA;clear hit HR0;have HR0:=HRn;clear HRn;go_wp2_with fail;refine HA.out.mono ?_;rintro e V4 ⟨rfl,hatn,hfn⟩;have HF1':=aB (HF1.out.trans hfn);have HB1':=aB (hfn.keepB HB1.out htb);have HP1':=aB hatn;clear hfn hatn HA HF1 HB1 HP1;have HF1:=HF1';have HB1:=HB1';have HP1:=HP1';clear HF1' HB1' HP1';have HA:=aB (cZ C V4 p ⟨#[112,114,105,110,116]⟩ HP1.out);have ed:(⟨#[112,114,105,110,116]⟩:ByteArray).data.toList=[112,114,105,110,116]:=rfl;rw[ed] at HA;clear ed;cases hit:aT C.ts p [112,114,105,110,116];rotate_left
 ·have HRt:Hid (r=hP E C.ts p):=by show _=_;rw[HR0.out,hit];rfl
  rw[hit] at HA;clear hit HR0;go_wp2_with fail;refine HA.out.mono ?_;rintro e W1 ⟨rfl,hat1,hf1⟩;have HFt:=aB (HF1.out.trans hf1);have HBt:=aB (hf1.keepB HB1.out htb);clear hf1 HA HF1 HP1 HB1;obtain⟨rE,hrE⟩:∃rE,rE=aL C.ts [59] (E (p+1)):=⟨_,rfl⟩;have HR3:Hid (r=bT (fun v=>aP [112,114,105,110,116] pl [] [v]) rE):=by show _=_;rw[HRt.out,hrE];unfold hP;rw[GD,HTL.out]
  have hE0:aL C.ts [59] (E (p+1))≠.error 0:=fun e=>HNE.out (by rw[HR3.out,hrE,e];rfl)
  have HRE:=aB hrE;have HX:=aB (HLA.out W1.drew (p+1) hat1.drew hE0);simp only[←HRE.out] at HX;have c0:=aA HBt.out (i:=0) rfl;have hz3:=aD HBt.out;have hs3:=HFt.out.size;clear hat1 hE0 hrE HRt;cases rE with
  |error l=>
   have HL:Hid (r=.error l):=HR3.out;go_wp2_with fail;go_region_law (refine thrown .nilIface ?_ ?_;(focus go_simp;go_at_call 302;refine HX.out.mono ?_;rintro e w4 ⟨hf4,rfl⟩;exact And.intro rfl (Out.err HL.out (HFt.out.drew.trans hf4)));intro hfalse)
   all_goals exact hfalse.out.elim
  |ok aq=>
   obtain⟨a,q⟩:=aq;have HL:Hid (r=.ok (aP [112,114,105,110,116] pl [] [a],q)):=HR3.out;clear HR3;go_wp2_with fail;go_region_law (go_simp;go_at_call 302;refine HX.out.mono ?_;rintro e w4 ⟨hf4,hp4,v4,rfl,hn4⟩;obtain⟨T4,cs4,rfl⟩:=hn4.form;have HF4:=aB ((Fr.refl C.pb W1).drew.trans hf4);have HN4:=aB hn4;have HP4:=aB hp4;have HB4:=aB (HF4.out.keepB HBt.out htb);have d2:=aA HB4.out (i:=0) rfl;have hy4:=aD HB4.out;clear hf4 hp4 hn4)
   all_goals (go_wp2_with fail;go_ret)
   all_goals exact Out.ok HL.out (HFt.out.trans HF4.out) HP4.out (PN.mk (Or.inr (Or.inr (Or.inr (Or.inr (Or.inr (Or.inr (Or.inr (Or.inr (Or.inr (Or.inr (Or.inr (Or.inr (Or.inr (Or.inr (Or.inr (Or.inr (Or.inl (⟨rfl,_,a,rfl,rfl,rfl,rfl⟩)))))))))))))))))) (fun p hp=>by obtain rfl:=List.mem_singleton.1 hp;exact Prt.ok.node (HN4.out.grow (fun _ _ _=>rfl) hs3 (Nat.le_refl _))))
 have HRn:Hid (r=eK E C.ts p):=by show _=_;rw[HR0.out,hit];rfl
 rw[hit] at HA;clear hit HR0;have HR0:=HRn;clear HRn;go_wp2_with fail;refine HA.out.mono ?_;rintro e V5 ⟨rfl,hatn,hfn⟩;have HF1':=aB (HF1.out.trans hfn);have HB1':=aB (hfn.keepB HB1.out htb);have HP1':=aB hatn;clear hfn hatn HA HF1 HB1 HP1;have HF1:=HF1';have HB1:=HB1';have HP1:=HP1';clear HF1' HB1' HP1';have HX:=aB (HSI.out V5 p HP1.out (by rw[←HR0.out];exact HNE.out))
 rw[←HR0.out] at HX;have hs0:=HF1.out.size;clear HR0;go_wp2_with fail;refine HX.out.mono ?_;rintro e w3 ⟨hf3,ho3⟩;cases r with
 |error l=>
  obtain rfl:e=cW 4 l:=ho3;have HF3:=aB (HF1.out.trans hf3);clear hf3;go_wp2_with fail;exact⟨rfl,Out.err rfl HF3.out⟩
 |ok aq=>
  obtain⟨a,q⟩:=aq;obtain⟨hp3,v3,rfl,hn3⟩:=ho3;have HF3:=aB (HF1.out.trans hf3);have HP3:=aB hp3;have HN3:=aB hn3;clear hf3 hp3 hn3;go_wp2_with fail;go_ret;exact Out.ok rfl HF3.out HP3.out (HN3.out.grow (fun _ _ _=>rfl) hs0 (Nat.le_refl _))
def G5(C:Ctx)(S:Nat→bR aC)(w:World)(r0:bR (List aC))(k:Nat)(v:Value)(wr:World):Prop:=
 Fr C.pb w wr∧∃q acc,PAt C wr q∧r0=dD S C.ts k q acc∧acc.length+k≤4000∧PLst w.heap.size wr v acc
theorem SS(C:Ctx)(S:Nat→bR aC)(HS:PReads C 257 S):
 BReads C 187 (fun p=>if aT C.ts p [123] then bT (aP [98,108,111,99,107] (aO C.ts p).line []) (aL C.ts [125] (dD S C.ts (C.ts.length+1) (p+1) [])) else Hs.bad C.ts p):=by
 obtain⟨i0,hi,hz0,hz1,hz2⟩:=info_parts AX;intro w p h hne;have HXP:=aB (fN C w p ⟨#[123]⟩ h);have ed:(⟨#[123]⟩:ByteArray).data.toList=[123]:=rfl;rw[ed] at HXP;have HSS:=aB HS;have hlen:=h.len;have hpb:=h.pb_lt;have hgb:=h.g_lt;show Calls _ _ _ _ (S8 C w (if aT C.ts p [123] then bT (aP [98,108,111,99,107] (aO C.ts p).line []) (aL C.ts [125] (dD S C.ts (C.ts.length+1) (p+1) [])) else Hs.bad C.ts p))
 obtain⟨r,hr⟩:∃r,r=(if aT C.ts p [123] then bT (aP [98,108,111,99,107] (aO C.ts p).line []) (aL C.ts [125] (dD S C.ts (C.ts.length+1) (p+1) [])) else Hs.bad C.ts p):=⟨_,rfl⟩
 have hne2:r≠.error 0:=hr▸hne;rw[←hr];have HR:=aB hr;have HNE:=aB hne2;clear h HS hne hr hne2 ed;cases hit:aT C.ts p [123]
 ·have HL:Hid (r=.error (aO C.ts p).line):=by show _=_;rw[HR.out,hit];rfl
  rw[hit] at HXP;clear hit HR;go_enter Tryz.func187,Tryz.ntmps187;go_wp2_with fail;refine HXP.out.mono ?_;rintro e w1 ⟨hf1,he1⟩;obtain rfl:e=cW 4 (aO C.ts p).line:=he1;have HF1:=aB hf1;clear hf1;go_wp2_with fail;exact⟨rfl,Out.err HL.out HF1.out⟩
 obtain⟨r0,hr0⟩:∃r0,r0=dD S C.ts (C.ts.length+1) (p+1) []:=⟨_,rfl⟩;have HR1:Hid (r=bT (aP [98,108,111,99,107] (aO C.ts p).line []) (aL C.ts [125] r0)):=by show _=_;rw[HR.out,hit,hr0];rfl
 have HNE0:Hid (r0≠.error 0):=fun e=>HNE.out (by rw[HR1.out,e];rfl)
 have HR0:=aB hr0;rw[hit] at HXP;clear hit HR hr0;go_enter Tryz.func187,Tryz.ntmps187;go_wp2_with fail;refine HXP.out.mono ?_;rintro e w1 ⟨hf1,he1⟩;obtain⟨rfl,hp1⟩:=he1;have HI:Hid (G5 C S w r0 (C.ts.length+1) (.slice none 0 0) w1):=⟨hf1,p+1,[],hp1,HR0.out,by simp;omega,PLst.nil _ _⟩
 clear hf1 hp1 HXP HR0;go_wp2_with fail;go_loopg [3] (C.ts.length+1) (fun k v wr=>G5 C S w r0 k v wr)
 case atStart=>exact HI.out
 case round=>
  obtain⟨hf4,q4,acc,hp4,hr4,hal,hls⟩:=hrel;obtain⟨x4,c4,rfl⟩:=hls.slice;have HAC:=aB (cZ C wr q4 ⟨#[125]⟩ hp4);have ed:(⟨#[125]⟩:ByteArray).data.toList=[125]:=rfl;rw[ed] at HAC;have HF4:=aB hf4;have HLS:=aB hls;have hs4:=hf4.size
  obtain⟨k,rfl⟩:∃k,gk=k+1:=by
   cases gk with
   |zero=>exact absurd hr4 HNE0.out
   |succ k=>exact⟨k,rfl⟩
  clear hf4 hp4 hls HI ed;cases hit:aT C.ts q4 [125];rotate_left
  ·have HL:Hid (r=.ok (aP [98,108,111,99,107] (aO C.ts p).line [] acc,q4+1)):=by show _=_;rw[HR1.out,hr4,dD,if_pos hit,mT hit];rfl
   rw[hit] at HAC;clear hit hr4;go_wp2_with fail;refine HAC.out.mono ?_;rintro e w5 ⟨rfl,hp5,hf5⟩;have HP5:=aB hp5;have HF5:=aB (HF4.out.trans hf5);have HL5:=aB (HLS.out.keep hf5 hpb);clear hp5 hf5;go_wp2_with fail;go_ret;exact Out.ok HL.out HF5.out HP5.out ⟨rfl,HL5.out.kid⟩
  ·obtain⟨rE,hrE⟩:∃rE,rE=S q4:=⟨_,rfl⟩
   have HR4:Hid (r0=bN rE fun i q=>dD S C.ts k q (acc++[i])):=by
    show _=_
    rw[hr4,dD,if_neg (by rw[hit];simp),hrE]
    cases S q4<;>rfl
   have hE0:S q4≠.error 0:=fun e=>HNE0.out (by rw[HR4.out,hrE,e];rfl)
   have HRE:=aB hrE;rw[hit] at HAC;clear hit hr4 hrE;go_wp2_with fail;refine HAC.out.mono ?_;rintro e w5 ⟨rfl,hp5,hf5⟩;have HX:=aB (HSS.out w5 q4 hp5 hE0);simp only[←HRE.out] at HX;have HF5:=aB (HF4.out.trans hf5);have HL5:=aB (HLS.out.keep hf5 hpb);have hs5:=hf5.size;clear hp5 hf5 HAC HLS hE0;cases rE with
   |error l=>
    have HL:Hid (r=.error l):=by show _=_;rw[HR1.out,HR4.out];rfl
    go_wp2_with fail;refine HX.out.mono ?_;rintro e w6 ⟨hf6,rfl⟩;have HF6:=aB (HF5.out.trans hf6);clear hf6 HX;go_wp2_with fail;exact⟨rfl,Out.err HL.out HF6.out⟩
   |ok aq6=>
    obtain⟨a6,q6⟩:=aq6;have HR5:Hid (r0=dD S C.ts k q6 (acc++[a6])):=HR4.out;clear HR4;go_wp2_with fail;refine HX.out.mono ?_;rintro e w6 ⟨hf6,hp6,v6,rfl,hn6⟩;obtain⟨T6,cs6,rfl⟩:=hn6.form;obtain⟨vs,F,hown,hall,hFF⟩:=HL5.out.keep hf6 hpb
    have hrb:∀g,(Value.slice x4 acc.length c4).ownBlock=some g→g<w5.heap.size:=by
     obtain⟨vs',F',hown',_⟩:=HL5.out;exact cG hown'
    have HRB:=aB hrb;have HF6:=aB (HF5.out.trans hf6);have HP6:=aB hp6;have HN6:=aB hn6;have HALL:=aB (And.intro hall hFF);have hs6:=hf6.size;have hge:∀k,(Value.slice x4 acc.length c4).ownBlock=some k→w.heap.size≤k:=bX hown;clear hp6 hf6 hn6 HX HL5 HF5 hall hFF hrb;go_wp2_with (at_builtin;refine wpList_append_lies _ (by rfl) _ _ 213 (by rfl) w.heap.size 122 i0 _ 1 16 Tryz.underlying213 hi hz0 hz1 hz2 rfl (by decide) _ _ _ (by rfl) (hown.alloc _) ⟨w6.heap.size,0,none⟩ 1 1 [.iface T6 (.agg cs6)] (by rfl) (by rfl) (qJ _ _) (tL _ _) (by decide) (by unfold maxLen;omega) (by omega) (by simp;omega) (w6.heap.size+1) (by simp) ?_)
    intro g7 cap7 w9 hown9 hgrow9 hat9 hg9;have HL9:=aB (PLst.snoc (lo:=w5.heap.size) HALL.out.1 HALL.out.2 HN6.out (by omega) HRB.out (fun k hk=>Below.heap_alloc _ _ _ hk) (by simp) hown9 hgrow9 (hat9.imp_right (fun e=>by omega)))
    have HP9:=aB ((HP6.out.alloc _).grown (base:=w.heap.size) hgrow9 hge hpb hgb);have HF9:=aB ((HF6.out.alloc _).grown hgrow9 hge);clear hown hown9 hgrow9 hat9 HN6 HP6 HF6 HALL HRB hge;go_wp2_with fail;go_roundg k
    case measure=>omega
    case rel=>exact⟨HF9.out,q6,acc++[a6],HP9.out,HR5.out,by simp;omega,by simpa using HL9.out⟩
theorem FX(C:Ctx)(f:Nat):∀g,BReads C 187 (iD (eX C.ts f) C.ts g)
 |0=>fun _ _ _ hne=>absurd rfl hne
 |g+1=>fun w p h hne=>SS C (iH (eX C.ts f) (iD (eX C.ts f) C.ts g) C.ts) (ZF C _ _ (FR C f) (FX C f g)) w p h hne
theorem C5:(Tryz.prog.info? 211).map (fun i=>(i.zero,i.size,i.bytes))=some (some (.agg #[.int .i64 0,.string (bs [])]),2,24):=by kernel_rfl
def YP:List aC→List Value
 |[]=>[]
 |a::l=>.int .i64 a.line::.string (bs a.text)::YP l
theorem F6(l:List aC)(a:aC):YP (l++[a])=YP l++[.int .i64 a.line,.string (bs a.text)]:=by
 induction l with
 |nil=>rfl
 |cons x l ih=>simp[YP,ih]
def PNm(F:Nat→Prop)(w:World)(v:Value)(l:List aC):Prop:=
 (∀a∈l,a.op=[112,97,114,97,109])∧((v=.slice none 0 0∧l=[])∨
 ∃g cap cur,v=.slice (some ⟨g,0,none⟩) l.length cap∧F g∧w.heap[g]?=some (.cells cur 211 (0,0))∧l.length≤cap∧cur.toList.take (l.length*2)=YP l)
theorem PNm.keep{F G:Nat→Prop}{w w':World}{v:Value}{l:List aC}(h:PNm F w v l)(hk:∀b,F b→w'.heap[b]?=w.heap[b]?)(hF:∀b,F b→G b):PNm G w' v l:=by
 obtain⟨h0,h|⟨g,cap,cur,h1,h2,h3,h4⟩⟩:=h
 ·exact⟨h0,Or.inl h⟩
 ·exact⟨h0,Or.inr ⟨g,cap,cur,h1,hF g h2,by rw[hk g h2];exact h3,h4⟩⟩
theorem PNm.slice{F:Nat→Prop}{w:World}{v:Value}{l:List aC}(h:PNm F w v l):∃x c,v=.slice x l.length c:=by
 obtain⟨_,⟨h1,h2⟩|⟨g,cap,cur,h1,_⟩⟩:=h
 ·exact⟨none,0,by rw[h1,h2];rfl⟩
 ·exact⟨_,_,h1⟩
def PNl(base:Nat)(w:World)(v:Value)(acc:List aC):Prop:=(∀a∈acc,a.op=[112,97,114,97,109])∧w.ownsRow base 211 2 v acc.length (YP acc)
theorem PNl.slice{base:Nat}{w:World}{v:Value}{acc:List aC}(h:PNl base w v acc):∃x c,v=.slice x acc.length c:=by
 rcases h.2.2 with ⟨r1,r2⟩|⟨g,cap,cur,r1,_⟩
 ·exact⟨none,0,by rw[r1,r2]⟩
 ·exact⟨_,cap,r1⟩
theorem PNl.keep{base pb:Nat}{w w1:World}{v:Value}{acc:List aC}(h:PNl base w v acc)(hf:Fr pb w w1)(hp:pb<base):PNl base w1 v acc:=by
 refine⟨h.1,aY h.2 fun k hk=>?_⟩
 have:=bX h.2 k hk;exact hf.block k (cG h.2 k hk) (by omega)
theorem PNl.nm{base:Nat}{w:World}{v:Value}{acc:List aC}(h:PNl base w v acc):PNm (Btw base w.heap.size) w v acc:=by
 rcases h.2.2 with ⟨r1,r2⟩|⟨g,cap,cur,r1,r2,r3,r4,r5,r6,r7⟩
 ·exact⟨h.1,Or.inl ⟨r1,List.eq_nil_of_length_eq_zero r2⟩⟩
 ·exact⟨h.1,Or.inr ⟨g,cap,cur,r1,⟨r2,aD r3⟩,r3,r4,r7⟩⟩
theorem FA(w:World)(a b:Value):∀j u,([a,b]:List Value)[j]?=some u→(w.alloc (.cells #[a,b] 211)).cell? ((⟨w.heap.size,0,none⟩:Addr).add j)=some u:=by
 intro j u hj;match j,hj with
 |0,hj=>simp at hj;subst hj;simp[Addr.add,go_sem]
 |1,hj=>simp at hj;subst hj;simp[Addr.add,go_sem]
 |j+2,hj=>simp at hj
theorem LY(l:Int)(b:ByteArray):∀u∈([.int .i64 l,.string b]:List Value),u.oneCell'=true:=by
 intro u hu;simp at hu;rcases hu with rfl|rfl<;>rfl
def F4(C:Ctx)(w:World)(r0:bR (List aC))(k:Nat)(v:Value)(wr:World):Prop:=
 Fr C.pb w wr∧∃q acc,PAt C wr q∧r0=(if aT C.ts q [44] then cN C.ts k (q+1) acc else .ok (acc,q))∧acc.length+k≤4000∧PNl w.heap.size wr v acc
def pnode(t:aV):aC:=aP [112,97,114,97,109] t.line t.text []
theorem TF{ts:List aV}{k p:Nat}{acc:List aC}(h:((aO ts p).sort==110)=true):cN ts (k+1) p acc=if aT ts (p+1) [44] then cN ts k (p+1+1) (acc++[pnode (aO ts p)]) else .ok (acc++[pnode (aO ts p)],p+1):=by
 rw[cN,if_pos h];rfl
theorem ZZ{ts:List aV}{k p:Nat}{acc:List aC}(h:((aO ts p).sort==110)=false):cN ts (k+1) p acc=.error (aO ts p).line:=by
 rw[cN,if_neg (by rw[h];simp)];rfl
def PNs(lo:Nat)(w':World)(v:Value)(l:List aC):Prop:=PNm (Btw lo w'.heap.size) w' v l
theorem QJ(C:Ctx)(w:World)(p:Nat)(h:PAt C w p)(r:bR (List aC))(hr:r=if aT C.ts p [40] then gK C.ts (p+1) else Hs.bad C.ts p)(hne:r≠.error 0):
 Calls Tryz.prog 186 #[.pointer (some ⟨C.pb,0,none⟩)] w (Out C w r (PNs w.heap.size)):=by
 obtain⟨i0,hi,hz0,hz1,hz2⟩:=info_parts C5;have HXP:=aB (fN C w p ⟨#[40]⟩ h);have ed:(⟨#[40]⟩:ByteArray).data.toList=[40]:=rfl;rw[ed] at HXP;have hlen:=h.len;have hpb:=h.pb_lt;have hgb:=h.g_lt;have HR:=aB hr;have HNE:=aB hne;clear h hr hne ed;cases hit:aT C.ts p [40]
 ·have HL:Hid (r=.error (aO C.ts p).line):=by show _=_;rw[HR.out,hit];rfl
  rw[hit] at HXP;clear hit HR;go_enter Tryz.func186,Tryz.ntmps186;go_wp2_with fail;refine HXP.out.mono ?_;rintro e w1 ⟨hf1,he1⟩;obtain rfl:e=cW 4 (aO C.ts p).line:=he1;have HF1:=aB hf1;clear hf1;go_wp2_with fail;exact⟨rfl,Out.err HL.out HF1.out⟩
 have HR1:Hid (r=aL C.ts [41] (if aT C.ts (p+1) [41] then .ok ([],p+1) else cN C.ts (C.ts.length+1) (p+1) [])):=by show _=_;rw[HR.out,hit];rfl
 rw[hit] at HXP;clear hit HR;go_enter Tryz.func186,Tryz.ntmps186;go_wp2_with fail;refine HXP.out.mono ?_;rintro e w1 ⟨hf1,he1⟩;obtain⟨rfl,hp1⟩:=he1;have HA:=aB (cZ C w1 (p+1) ⟨#[41]⟩ hp1);have ed:(⟨#[41]⟩:ByteArray).data.toList=[41]:=rfl;rw[ed] at HA;have HF1:=aB hf1;clear hf1 hp1 HXP ed;cases hit:aT C.ts (p+1) [41];rotate_left
 ·have HL:Hid (r=.ok ([],p+1+1)):=by show _=_;rw[HR1.out,if_pos hit,mT hit]
  rw[hit] at HA;clear hit HR1;go_wp2_with fail;refine HA.out.mono ?_;rintro e w2 ⟨rfl,hp2,hf2⟩;have HF2:=aB (HF1.out.trans hf2);have HP2:=aB hp2;clear hf2 hp2;go_wp2_with fail;go_ret;exact Out.ok HL.out HF2.out HP2.out ⟨fun _ h=>(by cases h),Or.inl ⟨rfl,rfl⟩⟩
 obtain⟨r0,hr0⟩:∃r0,r0=cN C.ts (C.ts.length+1) (p+1) []:=⟨_,rfl⟩;have HR2:Hid (r=aL C.ts [41] r0):=by show _=_;rw[HR1.out,if_neg (by rw[hit];simp),hr0]
 have HNE0:Hid (r0≠.error 0):=fun e=>HNE.out (by rw[HR2.out,e];rfl)
 have HR0:=aB hr0;rw[hit] at HA;clear hit HR1 hr0;go_wp2_with fail;refine HA.out.mono ?_;rintro e w2 ⟨rfl,hp2,hf2⟩;have HNM:=aB (lQ C w2 (p+1) hp2);have HF2:=aB (HF1.out.trans hf2);clear hf2 hp2 HA HF1;cases hs:((aO C.ts (p+1)).sort==110)
 ·have HL:Hid (r=.error (aO C.ts (p+1)).line):=by show _=_;rw[HR2.out,HR0.out,ZZ hs];rfl
  rw[hs] at HNM;clear hs HR0 HR2;go_wp2_with fail;refine HNM.out.mono ?_;rintro e w3 ⟨hf3,he3⟩;obtain rfl:e=cW 4 (aO C.ts (p+1)).line:=he3;have HF3:=aB (HF2.out.trans hf3);clear hf3;go_wp2_with fail;exact⟨rfl,Out.err HL.out HF3.out⟩
 have HR3:Hid (r0=if aT C.ts (p+1+1) [44] then cN C.ts C.ts.length (p+1+1+1) [pnode (aO C.ts (p+1))] else .ok ([pnode (aO C.ts (p+1))],p+1+1)):=by show _=_;rw[HR0.out,TF hs];rfl
 rw[hs] at HNM;clear hs HR0;generalize aO C.ts (p+1)=t at*;go_wp2_with fail;refine HNM.out.mono ?_;rintro e w3 ⟨hf3,he3⟩;obtain⟨rfl,hp3⟩:=he3;have HF3:=aB (HF2.out.trans hf3);have HP3:=aB hp3;have hs3:=HF3.out.size;clear hf3 hp3 HNM HF2;go_wp2_with (at_builtin;refine wpList_append_lies _ (by rfl) _ _ 212 (by rfl) w.heap.size 211 i0 _ 2 24 Tryz.underlying212 hi hz0 hz1 hz2 rfl (by decide) (.slice none 0 0) 0 [] (by rfl) (World.ownsRow_nil _ _ _ _) ⟨w3.heap.size,0,none⟩ 1 1 [.int .i64 t.line,.string (bs t.text)] (by rfl) (by rfl) (FA _ _ _) (LY _ _) (by decide) (by unfold maxLen;omega) (by omega) (by simp;omega) (w3.heap.size+1) (by simp) ?_)
 intro g4 cap4 w4 hown4 hgrow4 hat4 hg4;have HP4:=aB ((HP3.out.alloc _).grown (base:=w.heap.size) hgrow4 (fun k hk=>by cases hk) hpb hgb)
 have HF4:=aB ((HF3.out.alloc _).grown hgrow4 (fun k hk=>by cases hk))
 have HI:Hid (F4 C w r0 C.ts.length (.slice (some ⟨g4,0,none⟩) 1 cap4) w4):=⟨HF4.out,p+1+1,[pnode t],HP4.out,HR3.out,by simp;omega,by intro a ha;rw[List.mem_singleton.1 ha];rfl,hown4⟩
 clear hown4 hgrow4 hat4 HR3 HP3 HF3 HP4 HF4;go_wp2_with fail;go_loopg [3] C.ts.length (fun k v wr=>F4 C w r0 k v wr)
 case atStart=>exact HI.out
 case round=>
  obtain⟨hf4,q4,acc,hp4,hr4,hal,hls⟩:=hrel;obtain⟨x4,c4,rfl⟩:=hls.slice;have HAC:=aB (cZ C wr q4 ⟨#[44]⟩ hp4);have ed:(⟨#[44]⟩:ByteArray).data.toList=[44]:=rfl;rw[ed] at HAC;have HF4:=aB hf4;have HLS:=aB hls;have hs4:=hf4.size;clear hf4 hp4 hls HI ed;cases hit:aT C.ts q4 [44]
  ·have HR4:Hid (r0=.ok (acc,q4)):=by show _=_;rw[hr4,hit];rfl
   rw[hit] at HAC;clear hit hr4;go_wp2_with fail;refine HAC.out.mono ?_;rintro e w5 ⟨rfl,hp5,hf5⟩;have HXP:=aB (fN C w5 q4 ⟨#[41]⟩ hp5);have ed:(⟨#[41]⟩:ByteArray).data.toList=[41]:=rfl;rw[ed] at HXP;have HF5:=aB (HF4.out.trans hf5);have HL5:=aB (HLS.out.keep hf5 hpb);clear hp5 hf5 HAC HLS ed;cases hit:aT C.ts q4 [41]
   ·have HL:Hid (r=.error (aO C.ts q4).line):=by show _=_;rw[HR2.out,HR4.out];exact vT hit
    rw[hit] at HXP;clear hit HR4 HR2;go_wp2_with fail;refine HXP.out.mono ?_;rintro e w6 ⟨hf6,he6⟩;obtain rfl:e=cW 4 (aO C.ts q4).line:=he6;have HF6:=aB (HF5.out.trans hf6);clear hf6;go_wp2_with fail;exact⟨rfl,Out.err HL.out HF6.out⟩
   ·have HL:Hid (r=.ok (acc,q4+1)):=by show _=_;rw[HR2.out,HR4.out];exact mT hit
    rw[hit] at HXP;clear hit HR4 HR2;go_wp2_with fail;refine HXP.out.mono ?_;rintro e w6 ⟨hf6,he6⟩;obtain⟨rfl,hp6⟩:=he6;have HF6:=aB (HF5.out.trans hf6);have HP6:=aB hp6;have HL6:=aB (HL5.out.keep hf6 hpb);clear hf6 hp6 HL5;go_wp2_with fail;go_ret;exact Out.ok HL.out HF6.out HP6.out HL6.out.nm
  ·have HR4:Hid (r0=cN C.ts gk (q4+1) acc):=by show _=_;rw[hr4,hit];rfl
   rw[hit] at HAC;clear hit hr4
   obtain⟨k,rfl⟩:∃k,gk=k+1:=by
    cases gk with
    |zero=>exact absurd HR4.out HNE0.out
    |succ k=>exact⟨k,rfl⟩
   go_wp2_with fail;refine HAC.out.mono ?_;rintro e w5 ⟨rfl,hp5,hf5⟩;have HNM:=aB (lQ C w5 (q4+1) hp5);have HF5:=aB (HF4.out.trans hf5);have HL5:=aB (HLS.out.keep hf5 hpb);clear hp5 hf5 HAC HLS;cases hs:((aO C.ts (q4+1)).sort==110)
   ·have HL:Hid (r=.error (aO C.ts (q4+1)).line):=by show _=_;rw[HR2.out,HR4.out,ZZ hs];rfl
    rw[hs] at HNM;clear hs HR4 HR2;go_wp2_with fail;refine HNM.out.mono ?_;rintro e w6 ⟨hf6,he6⟩;obtain rfl:e=cW 4 (aO C.ts (q4+1)).line:=he6;have HF6:=aB (HF5.out.trans hf6);clear hf6;go_wp2_with fail;exact⟨rfl,Out.err HL.out HF6.out⟩
   ·have HR5:Hid (r0=if aT C.ts (q4+1+1) [44] then cN C.ts k (q4+1+1+1) (acc++[pnode (aO C.ts (q4+1))]) else .ok (acc++[pnode (aO C.ts (q4+1))],q4+1+1)):=by show _=_;rw[HR4.out,TF hs]
    rw[hs] at HNM;clear hs HR4;generalize aO C.ts (q4+1)=t5 at*;go_wp2_with fail;refine HNM.out.mono ?_;rintro e w6 ⟨hf6,he6⟩;obtain⟨rfl,hp6⟩:=he6;have HF6:=aB (HF5.out.trans hf6);have HP6:=aB hp6;have hown:=(HL5.out.keep hf6 hpb).2;have HOP:=aB HL5.out.1;have hs6:=HF6.out.size;have hge:∀k,(Value.slice x4 acc.length c4).ownBlock=some k→w.heap.size≤k:=bX hown;clear hf6 hp6 HNM HF5 HL5;go_wp2_with (at_builtin;refine wpList_append_lies _ (by rfl) _ _ 212 (by rfl) w.heap.size 211 i0 _ 2 24 Tryz.underlying212 hi hz0 hz1 hz2 rfl (by decide) _ _ _ (by rfl) (hown.alloc _) ⟨w6.heap.size,0,none⟩ 1 1 [.int .i64 t5.line,.string (bs t5.text)] (by rfl) (by rfl) (FA _ _ _) (LY _ _) (by decide) (by unfold maxLen;omega) (by omega) (by simp;omega) (w6.heap.size+1) (by simp) ?_)
    intro g7 cap7 w7 hown7 hgrow7 hat7 hg7;have HP7:=aB ((HP6.out.alloc _).grown (base:=w.heap.size) hgrow7 hge hpb hgb);have HF7:=aB ((HF6.out.alloc _).grown hgrow7 hge)
    have HO7:Hid (PNl w.heap.size w7 (.slice (some ⟨g7,0,none⟩) (acc.length+1) cap7) (acc++[pnode t5])):=by
     refine⟨fun a ha=>?_,?_⟩
     ·rcases List.mem_append.1 ha with h|h
      ·exact HOP.out a h
      ·rw[List.mem_singleton.1 h];rfl
     ·rw[F6,List.length_append];exact hown7
    clear hown hown7 hgrow7 hat7 HP6 HF6 hge HOP;go_wp2_with fail;go_roundg k
    case measure=>omega
    case rel=>exact⟨HF7.out,q4+1+1,_,HP7.out,HR5.out,by simp;omega,HO7.out⟩
def yH(F:Nat→Prop)(w:World)(v:Value)(f:aC):Prop:=
 ∃pv bv ps b,v=.agg #[.int .i64 f.line,.string (bs f.text),pv,bv]∧f.kids=ps++[b]∧PNm F w pv ps∧b.op=[98,108,111,99,107]∧PKid F w bv b.kids
theorem yH.keep{F G:Nat→Prop}{w w':World}{v:Value}{f:aC}(h:yH F w v f)(hk:∀b,F b→w'.heap[b]?=w.heap[b]?)(hF:∀b,F b→G b):yH G w' v f:=by
 obtain⟨pv,bv,ps,b,h1,h2,h3,h4,h5⟩:=h;exact⟨pv,bv,ps,b,h1,h2,h3.keep hk hF,h4,h5.keep hk hF⟩
def T0(lo:Nat)(w:World)(v:Value)(f:aC):Prop:=yH (Btw lo w.heap.size) w v f
theorem D4(C:Ctx)(B:Nat→bR aC)(HB:BReads C 187 B)(w:World)(p:Nat)(h:PAt C w p)(r:bR aC)(hr:r=jD B C.ts p)(hne:r≠.error 0):
 Calls Tryz.prog 134 #[.pointer (some ⟨C.pb,0,none⟩)] w (Out C w r (T0 w.heap.size)):=by
 obtain⟨rb,hrb⟩:∃rb,rb=w.heap.size:=⟨_,rfl⟩;have HXP:=aB (fN C (w.alloc (.cells #[.int .i64 0,.string ⟨#[]⟩,.slice none 0 0,.slice none 0 0] 215)) p ⟨#[102,117,110,99]⟩ (h.alloc _));have ed:(⟨#[102,117,110,99]⟩:ByteArray).data.toList=[102,117,110,99]:=rfl;rw[ed] at HXP;have HF0:Hid (Fr C.pb w (w.alloc (.cells #[.int .i64 0,.string ⟨#[]⟩,.slice none 0 0,.slice none 0 0] 215))):=(Fr.refl _ _).alloc _;have HRB0:Hid ((w.alloc (.cells #[.int .i64 0,.string ⟨#[]⟩,.slice none 0 0,.slice none 0 0] 215)).heap[w.heap.size]?=some (.cells #[.int .i64 0,.string ⟨#[]⟩,.slice none 0 0,.slice none 0 0] 215 (0,0))):=aR _ _ rfl _;have HBB:=aB HB;have hlen:=h.len;have hpb:=h.pb_lt;have hgb:=h.g_lt;have HR:=aB hr;have HNE:=aB hne;have hrp:w.heap.size≠C.pb:=by omega
 clear h hr hne ed HB hrb rb;cases hit:aT C.ts p [102,117,110,99]
 ·have HL:Hid (r=.error (aO C.ts p).line):=by show _=_;rw[HR.out];unfold jD;rw[hit];rfl
  rw[hit] at HXP;clear hit HR;go_enter Tryz.func134,Tryz.ntmps134;go_wp2_with fail;refine HXP.out.mono ?_;rintro e w1 ⟨hf1,he1⟩;obtain rfl:e=cW 4 (aO C.ts p).line:=he1;have HF1:=aB (HF0.out.trans hf1);clear hf1;go_wp2_with fail;exact⟨rfl,Out.err HL.out HF1.out⟩
 obtain⟨t,ht⟩:∃t,t=aO C.ts (p+1):=⟨_,rfl⟩
 have HR1:Hid (r=if t.sort==110 then (if aT C.ts (p+2) [40] then
       bN (gK C.ts (p+3)) fun l q=>bT (fun b=>aP [102,117,110,99] t.line t.text (l++[b])) (B q)
  else Hs.bad C.ts (p+2)) else Hs.bad C.ts (p+1)):=by show _=_;rw[HR.out];unfold jD;rw[hit,ht];rfl
 have HT:=aB ht;rw[hit] at HXP;clear hit HR ht;go_enter Tryz.func134,Tryz.ntmps134;go_wp2_with fail;refine HXP.out.mono ?_;rintro e w1 ⟨hf1,he1⟩;obtain⟨rfl,hp1⟩:=he1;have HNM:=aB (lQ C w1 (p+1) hp1);rw[←HT.out] at HNM;have HF1:=aB (HF0.out.trans hf1);have HRB1:=aB (hf1.keepB HRB0.out hrp);clear hf1 hp1 HXP HF0 HRB0;cases hs:(t.sort==110)
 ·have HL:Hid (r=.error t.line):=by show _=_;rw[HR1.out,hs];show Hs.bad _ _=_;unfold Hs.bad;rw[←HT.out]
  rw[hs] at HNM;clear hs HR1;go_wp2_with fail;refine HNM.out.mono ?_;rintro e w2 ⟨hf2,he2⟩;obtain rfl:e=cW 4 t.line:=he2;have HF2:=aB (HF1.out.trans hf2);clear hf2;go_wp2_with fail;exact⟨rfl,Out.err HL.out HF2.out⟩
 obtain⟨rP,hrP⟩:∃rP,rP=(if aT C.ts (p+1+1) [40] then gK C.ts (p+1+1+1) else Hs.bad C.ts (p+1+1)):=⟨_,rfl⟩
 have HR2:Hid (r=bN rP fun l q=>bT (fun b=>aP [102,117,110,99] t.line t.text (l++[b])) (B q)):=by
  show _=_
  rw[HR1.out,hs,hrP,if_pos rfl];by_cases h40:aT C.ts (p+1+1) [40]=true
  ·rw[if_pos h40,if_pos h40]
  ·rw[if_neg h40,if_neg h40];rfl
 have HRP:=aB hrP;have HP0:Hid (rP≠.error 0):=fun e=>HNE.out (by rw[HR2.out,e];rfl)
 rw[hs] at HNM;clear hs HR1 hrP;go_wp2_with fail;refine HNM.out.mono ?_;rintro e w2 ⟨hf2,he2⟩;obtain⟨rfl,hp2⟩:=he2;have HF2:=aB ((HF1.out.trans hf2).alloc (.cells #[.int .i64 t.line,.string (bs t.text)] 211));have HRB2:=aB ((hf2.alloc (.cells #[.int .i64 t.line,.string (bs t.text)] 211)).keepB HRB1.out hrp);have HNB2:Hid ((w2.alloc (.cells #[.int .i64 t.line,.string (bs t.text)] 211)).heap[w2.heap.size]?=some (.cells #[.int .i64 t.line,.string (bs t.text)] 211 (0,0))):=aR _ _ rfl _;have hnb:w2.heap.size≠C.pb:=by have:=hp2.pb_lt;omega
 have hrs:w.heap.size<w2.heap.size:=Nat.lt_of_lt_of_le (aD HRB1.out) hf2.size;have HPA:=aB (QJ C (w2.alloc (.cells #[.int .i64 t.line,.string (bs t.text)] 211)).drew (p+1+1) (hp2.alloc _).drew rP HRP.out HP0.out);clear hf2 hp2 HNM HF1 HRB1 HRP;go_wp2_with fail;generalize hW:w2.alloc (.cells #[.int .i64 t.line,.string (bs t.text)] 211)=W at*;have hWs:W.heap.size=w2.heap.size+1:=by rw[←hW];simp
 clear hW;have c0:=aA HNB2.out (i:=0) rfl;have c1:=aA HNB2.out (i:=1) rfl;have hz2:=aD HNB2.out;cases rP with
 |error l=>
  have HL:Hid (r=.error l):=HR2.out;have az0:=aA HRB2.out (i:=0) rfl;have az1:=aA HRB2.out (i:=1) rfl;have az2:=aA HRB2.out (i:=2) rfl;have az3:=aA HRB2.out (i:=3) rfl;have ay0:=aE (i:=0) HRB2.out;have ay1:=aE (i:=1) HRB2.out;have ay2:=aE (i:=2) HRB2.out;have ay3:=aE (i:=3) HRB2.out;have ahzr:=aD HRB2.out;go_region_law (first|(refine thrown (.slice none 0 0) ?_ ?_;(focus go_simp;go_at_call 186;refine HPA.out.mono ?_;rintro e w3 ⟨hf3,rfl⟩;exact And.intro rfl (Out.err HL.out (HF2.out.drew.trans hf3)));intro hfalse)|(refine thrown (.slice none 0 0) hfalse.out.elim ?_;intro hfalse2))
  all_goals exact hfalse.out.elim
 |ok lq=>
  obtain⟨l,q⟩:=lq;obtain⟨rB,hrB⟩:∃rB,rB=B q:=⟨_,rfl⟩;have HR3:Hid (r=bT (fun b=>aP [102,117,110,99] t.line t.text (l++[b])) rB):=by show _=_;rw[HR2.out,hrB];rfl
  have hB0:B q≠.error 0:=fun e=>HNE.out (by rw[HR3.out,hrB,e];rfl)
  have HBL:=aB (fun W (hW:PAt C W q)=>HBB.out W q hW hB0)
  rw[←hrB] at HBL;clear hrB hB0 HR2;cases rB with
  |error l2=>
   have HL:Hid (r=.error l2):=HR3.out;go_region_law (first|(go_simp;go_at_call 186;refine HPA.out.mono ?_;rintro e w3 ⟨hf3,hp3,v3,rfl,hk3⟩;obtain⟨x3,c3,rfl⟩:=hk3.slice;have HF3:=aB ((Fr.refl C.pb W).drew.trans hf3);have HP3:=aB hp3;have HNB3:=aB (HF3.out.keepB HNB2.out hnb);have d0:=aA HNB3.out (i:=0) rfl;have d1:=aA HNB3.out (i:=1) rfl;have hz3:=aD HNB3.out;have HRB3:=aB (HF3.out.keepB HRB2.out hrp);have az0:=aA HRB3.out (i:=0) rfl;have az1:=aA HRB3.out (i:=1) rfl;have az2:=aA HRB3.out (i:=2) rfl;have az3:=aA HRB3.out (i:=3) rfl;have ay0:=aE (i:=0) HRB3.out;have ay1:=aE (i:=1) HRB3.out;have ay2:=aE (i:=2) HRB3.out;have ay3:=aE (i:=3) HRB3.out;have ahzr:=aD HRB3.out;clear hf3 hp3 hk3)|(refine thrown (.slice none 0 0) ?_ ?_;(focus go_simp;go_at_call 187;refine(HBL.out _ HP3.out).mono ?_;rintro e w4 ⟨hf4,rfl⟩;exact And.intro rfl (Out.err HL.out ((HF2.out.trans HF3.out).trans hf4)));intro hfalse))
   all_goals exact hfalse.out.elim
  |ok bq=>
   obtain⟨b,q4⟩:=bq;have HL:Hid (r=.ok (aP [102,117,110,99] t.line t.text (l++[b]),q4)):=HR3.out;clear HR3;go_region_law (first|(go_simp;go_at_call 186;refine HPA.out.mono ?_;rintro e w3 ⟨hf3,hp3,v3,rfl,hk3⟩;obtain⟨x3,c3,rfl⟩:=hk3.slice;have HF3:=aB ((Fr.refl C.pb W).drew.trans hf3);have HP3:=aB hp3;have HK3:=aB hk3;have HNB3:=aB (HF3.out.keepB HNB2.out hnb);have HRB3:=aB (HF3.out.keepB HRB2.out hrp);have d0:=aA HNB3.out (i:=0) rfl;have d1:=aA HNB3.out (i:=1) rfl;have hz3:=aD HNB3.out;clear hf3 hp3 hk3)|(go_simp;go_at_call 187;refine(HBL.out _ HP3.out).mono ?_;rintro e w4 ⟨hf4,hp4,v4,rfl,hk4⟩;obtain⟨x4,n4,c4,rfl⟩:=hk4.slice;have HF4:=aB hf4;have HP4:=aB hp4;have HK4:=aB hk4;have HNB4:=aB (HF4.out.keepB HNB3.out hnb);have HRB4:=aB (HF4.out.keepB HRB3.out hrp);have e0:=aA HNB4.out (i:=0) rfl;have e1:=aA HNB4.out (i:=1) rfl;have hz4:=aD HNB4.out;have z0:=aA HRB4.out (i:=0) rfl;have z1:=aA HRB4.out (i:=1) rfl;have z2:=aA HRB4.out (i:=2) rfl;have z3:=aA HRB4.out (i:=3) rfl;have y0:=aE (i:=0) HRB4.out;have y1:=aE (i:=1) HRB4.out;have y2:=aE (i:=2) HRB4.out;have y3:=aE (i:=3) HRB4.out;have hzr:=aD HRB4.out;clear hf4 hp4 hk4))
   all_goals go_wp2_with fail
   all_goals
    refine bodyPost_ret (v:=.agg #[.int .i64 t.line,.string (bs t.text),.slice x3 l.length c3,.slice x4 n4 c4]) (by simp[results,Tryz.results134,go_sem,z0,z1,z2,z3]) rfl ?_
    have hs3:=HF3.out.size;have hs4:=HF4.out.size;have hsz:∀(W:World) (i:Nat) (u:Value),(W.setCell ⟨w.heap.size,i,none⟩ u).heap.size=W.heap.size:=fun W i u=>by simp[World.setCell]
    have hkk:∀k,w.heap.size<k→((((w4.setCell ⟨w.heap.size,0,none⟩ (.int .i64 t.line)).setCell ⟨w.heap.size,1,none⟩ (.string (bs t.text))).setCell ⟨w.heap.size,2,none⟩ (.slice x3 l.length c3)).setCell ⟨w.heap.size,3,none⟩ (.slice x4 n4 c4)).heap[k]?=w4.heap[k]?:=fun k hk=>by
     rw[Below.heap_setCell _ _ _ _ (by show k≠w.heap.size;omega),Below.heap_setCell _ _ _ _ (by show k≠w.heap.size;omega),Below.heap_setCell _ _ _ _ (by show k≠w.heap.size;omega),Below.heap_setCell _ _ _ _ (by show k≠w.heap.size;omega)]
    refine Out.ok HL.out (((((HF2.out.trans (HF3.out.trans HF4.out)).setCell (Or.inr (Nat.le_refl _)) _).setCell (Or.inr (Nat.le_refl _)) _).setCell (Or.inr (Nat.le_refl _)) _).setCell (Or.inr (Nat.le_refl _)) _) ((((HP4.out.other (by omega) (by omega)).other (by omega) (by omega)).other (by omega) (by omega)).other (by omega) (by omega)) ⟨_,_,l,b,rfl,rfl,?_,HK4.out.1,?_⟩
    ·refine PNm.keep HK3.out (fun k hk=>?_) fun k hk=>⟨?_,?_⟩
     ·have h1:=hk.1;have h1':W.heap.size≤k:=h1;rw[hkk k (by omega),HF4.out.block k hk.2 (by omega)]
     ·have h1':W.heap.size≤k:=hk.1;omega
     ·rw[hsz,hsz,hsz,hsz];exact Nat.lt_of_lt_of_le hk.2 hs4
    ·refine PKid.keep HK4.out.2 (fun k hk=>hkk k (by have:=hk.1;omega)) fun k hk=>⟨?_,?_⟩
     ·have:=hk.1;omega
     ·rw[hsz,hsz,hsz,hsz];exact hk.2
theorem C6:(Tryz.prog.info? 215).map (fun i=>(i.zero,i.size,i.bytes))=some (some (.agg #[.int .i64 0,.string (bs []),.slice none 0 0,.slice none 0 0]),4,72):=by kernel_rfl
def vN:Value→List Value
 |.agg a=>a.toList
 |v=>[v]
def iX:List Value→List Value
 |[]=>[]
 |v::l=>vN v++iX l
theorem RT(l:List Value)(v:Value):iX (l++[v])=iX l++vN v:=by
 induction l with
 |nil=>simp[iX]
 |cons x l ih=>simp[iX,ih]
def FSl(F:Nat→Prop)(w:World)(v:Value)(fs:List aC):Prop:=
 (v=.slice none 0 0∧fs=[])∨
 ∃g cap cur us,v=.slice (some ⟨g,0,none⟩) fs.length cap∧F g∧w.heap[g]?=some (.cells cur 215 (0,0))∧fs.length≤cap∧cur.toList.take (fs.length*4)=iX us∧jH (yH F w) us fs
def PFl(base:Nat)(w:World)(v:Value)(acc:List aC):Prop:=
 ∃us F,w.ownsRow base 215 4 v acc.length (iX us)∧jH (yH F w) us acc∧∀b,F b→base≤b∧b<w.heap.size∧v.ownBlock≠some b
theorem PFl.nil(base:Nat)(w:World):PFl base w (.slice none 0 0) []:=⟨[],fun _=>False,World.ownsRow_nil _ _ _ _,trivial,fun _ h=>h.elim⟩
theorem PFl.slice{base:Nat}{w:World}{v:Value}{acc:List aC}(h:PFl base w v acc):∃x c,v=.slice x acc.length c:=by
 obtain⟨vs,F,h1,_⟩:=h;rcases h1.2 with ⟨r1,r2⟩|⟨g,cap,cur,r1,_⟩
 ·exact⟨none,0,by rw[r1,r2]⟩
 ·exact⟨_,cap,r1⟩
theorem PFl.keep{base pb:Nat}{w w1:World}{v:Value}{acc:List aC}(h:PFl base w v acc)(hf:Fr pb w w1)(hp:pb<base):PFl base w1 v acc:=by
 obtain⟨vs,F,h1,h2,h3⟩:=h;refine⟨vs,F,aY h1 fun k hk=>?_,h2.mono fun _ _ h=>h.keep (fun b hb=>?_) (fun _ h=>h),fun b hb=>?_⟩
 ·have:=bX h1 k hk;exact hf.block k (cG h1 k hk) (by omega)
 ·have:=h3 b hb;have:=hf.size;exact⟨by omega,by omega,(h3 b hb).2.2⟩
 ·have:=h3 b hb;exact hf.block b this.2.1 (by omega)
theorem PFl.snoc{base lo:Nat}{w wa w2:World}{v:Value}{acc:List aC}{cv:Value}{a:aC}{g cap:Nat}{us:List Value}{F:Nat→Prop}(h2:jH (yH F w) us acc)(h3:∀b,F b→base≤b∧b<w.heap.size∧v.ownBlock≠some b)
 (hr:yH (Btw lo w.heap.size) w cv a) (hlo:base≤lo) (hrow:∀k,v.ownBlock=some k→k<lo) (hwa:∀k,k<w.heap.size→wa.heap[k]?=w.heap[k]?) (hsz:w.heap.size≤wa.heap.size)
 (hown:w2.ownsRow base 215 4 (.slice (some ⟨g,0,none⟩) (acc.length+1) cap) (acc.length+1) (iX us++vN cv))
 (hgrow:wa.grownBy w2 v.ownBlock) (hat:v.ownBlock=some g∨w.heap.size≤g):PFl base w2 (.slice (some ⟨g,0,none⟩) (acc.length+1) cap) (acc++[a]):=by
 have hk:∀b,(F b∨Btw lo w.heap.size b)→base≤b∧b<w.heap.size∧v.ownBlock≠some b:=by
  rintro b (hb|hb)
  ·exact h3 b hb
  ·exact⟨by have:=hb.1;omega,hb.2,fun e=>by have:=hrow b e;have:=hb.1;omega⟩
 have hkeep:∀b,(F b∨Btw lo w.heap.size b)→w2.heap[b]?=w.heap[b]?:=fun b hb=>by
  have hb':=hk b hb;rw[hgrow.block b (by omega) (fun e=>hb'.2.2 e.symm),hwa b hb'.2.1]
 refine⟨us++[cv],fun b=>F b∨Btw lo w.heap.size b,?_,?_,?_⟩
 ·rw[List.length_append,RT];exact hown
 ·exact jH.snoc (h2.mono fun _ _ h=>h.keep (fun b hb=>hkeep b (Or.inl hb)) (fun _=>Or.inl)) (hr.keep (fun b hb=>hkeep b (Or.inr hb)) (fun _=>Or.inr))
 ·intro b hb;have hb':=hk b hb;have:=hgrow.size;refine⟨hb'.1,by omega,fun e=>?_⟩
  have e':g=b:=Option.some.inj e;rcases hat with hat|hat
  ·exact hb'.2.2 (by rw[hat,e'])
  ·omega
theorem PFl.fsl{base:Nat}{w:World}{v:Value}{acc:List aC}(h:PFl base w v acc):FSl (Btw base w.heap.size) w v acc:=by
 obtain⟨us,F,h1,h2,h3⟩:=h;rcases h1.2 with ⟨r1,r2⟩|⟨g,cap,cur,r1,r2,r3,r4,r5,r6,r7⟩
 ·exact Or.inl ⟨r1,List.eq_nil_of_length_eq_zero r2⟩
 ·exact Or.inr ⟨g,cap,cur,us,r1,⟨r2,aD r3⟩,r3,r4,r7,h2.mono fun _ _ h=>h.keep (fun _ _=>rfl) fun b hb=>⟨(h3 b hb).1,(h3 b hb).2.1⟩⟩
theorem VO(a c d:Int)(b:ByteArray)(w:World):(Instr.field 206 (.agg #[.int .i64 a,.string b,.int .i64 c,.int .i64 d]) 0).run Tryz.prog w=.ok (.int .i64 a) w:=by kernel_rfl
theorem VI{t:aV}(h:nF t):(psort t.sort=4↔t.sort=101):=by
 unfold psort;rcases h with h|⟨h,_⟩|h|⟨h,_⟩|h|h<;>simp[h]
theorem WB(w:World)(a b c d:Value):∀j u,([a,b,c,d]:List Value)[j]?=some u→(w.alloc (.cells #[a,b,c,d] 215)).cell? ((⟨w.heap.size,0,none⟩:Addr).add j)=some u:=by
 intro j u hj;match j,hj with
 |0,hj=>simp at hj;subst hj;simp[Addr.add,go_sem]
 |1,hj=>simp at hj;subst hj;simp[Addr.add,go_sem]
 |2,hj=>simp at hj;subst hj;simp[Addr.add,go_sem]
 |3,hj=>simp at hj;subst hj;simp[Addr.add,go_sem]
 |j+4,hj=>simp at hj
theorem A0(l:Int)(b:ByteArray)(x y:Option Addr)(n m c d:Nat):∀u∈([.int .i64 l,.string b,.slice x n c,.slice y m d]:List Value),u.oneCell'=true:=by
 intro u hu;simp at hu;rcases hu with rfl|rfl|rfl|rfl<;>rfl
def F3(C:Ctx)(X:Nat→bR aC)(w:World)(r:bR (List aC))(k:Nat)(v:Value)(wr:World):Prop:=
 Fr C.pb w wr∧∃q acc,PAt C wr q∧r=eM X C.ts k q acc∧acc.length+k≤4000∧PFl w.heap.size wr v acc
def O6(lo:Nat)(w':World)(v:Value)(l:List aC):Prop:=FSl (Btw lo w'.heap.size) w' v l
theorem VL(C:Ctx)(X:Nat→bR aC)(HX:∀w p,PAt C w p→X p≠.error 0→Calls Tryz.prog 134 #[.pointer (some ⟨C.pb,0,none⟩)] w (Out C w (X p) (T0 w.heap.size)))(w:World)(p:Nat)(h:PAt C w p)(r:bR (List aC))(hr:r=eM X C.ts (C.ts.length+1) p [])(hne:r≠.error 0):
 Calls Tryz.prog 77 #[.pointer (some ⟨C.pb,0,none⟩)] w (Out C w r (O6 w.heap.size)):=by
 obtain⟨i0,hi,hz0,hz1,hz2⟩:=info_parts C6;have hlen:=h.len;have hpb:=h.pb_lt;have hgb:=h.g_lt;have HI:Hid (F3 C X w r (C.ts.length+1) (.slice none 0 0) w):=⟨Fr.refl _ _,p,[],h,hr,by simp;omega,PFl.nil _ _⟩
 have HNE:=aB hne;have HXX:=aB HX;have hfl:=VO;clear h hr hne HX;go_enter Tryz.func77,Tryz.ntmps77;go_wp2_with fail;go_loopg [3] (C.ts.length+1) (fun k v wr=>F3 C X w r k v wr)
 case atStart=>exact HI.out
 case round=>
  obtain⟨hf4,q4,acc,hp4,hr4,hal,hls⟩:=hrel;obtain⟨x4,c4,rfl⟩:=hls.slice;have HNX:=aB (lP C wr q4 hp4);simp only[nE] at HNX;have hse:=VI (hp4.tsk.tk q4 hp4.lt);have HF4:=aB hf4;have HLS:=aB hls;have HP4:=aB hp4;have hs4:=hf4.size
  obtain⟨k,rfl⟩:∃k,gk=k+1:=by
   cases gk with
   |zero=>exact absurd hr4 HNE.out
   |succ k=>exact⟨k,rfl⟩
  rw[eM] at hr4;clear hf4 hp4 hls HI;have HR4:=aB hr4;have HSE:=aB hse;clear hr4 hse;generalize aO C.ts q4=t at*;generalize psort t.sort=ps at*;generalize pval t=pv at*;by_cases hs:t.sort=101
  ·have HL:Hid (r=.ok (acc,q4)):=by show _=_;rw[HR4.out,hs];rfl
   obtain rfl:ps=4:=HSE.out.2 hs;clear hs HR4 HSE;go_wp2_with fail;refine HNX.out.mono ?_;rintro e w5 ⟨rfl,hb5⟩;have HB5:=aB hb5;clear hb5;go_wp2_with fail;go_ret;exact Out.ok HL.out (HF4.out.trans (Fr.below HB5.out)) (HP4.out.below HB5.out) (HLS.out.keep (Fr.below HB5.out) hpb).fsl
  ·have hps:((ps:Int) != 4)=true:=by simp;intro e;exact hs (HSE.out.1 (by omega))
   obtain⟨rE,hrE⟩:∃rE,rE=X q4:=⟨_,rfl⟩
   have HR5:Hid (r=bN rE fun i q=>eM X C.ts k q (acc++[i])):=by
    show _=_
    rw[HR4.out,if_neg (by simpa using hs),hrE]
    cases X q4<;>rfl
   have hE0:X q4≠.error 0:=fun e=>HNE.out (by rw[HR5.out,hrE,e];rfl)
   have HRE:=aB hrE;clear hs HR4 HSE hrE;go_wp2_with fail;refine HNX.out.mono ?_;rintro e w5 ⟨rfl,hb5⟩;have HY:=aB (HXX.out w5 q4 (HP4.out.below hb5) hE0);simp only[←HRE.out] at HY;have HF5:=aB (HF4.out.trans (Fr.below hb5));have HL5:=aB (HLS.out.keep (Fr.below hb5) hpb);have hs5:=hb5.size;clear hb5 HNX HLS hE0 HF4;cases rE with
   |error l=>
    have HL:Hid (r=.error l):=HR5.out;go_wp2_with fail;refine HY.out.mono ?_;rintro e w6 ⟨hf6,rfl⟩;have HF6:=aB (HF5.out.trans hf6);clear hf6;go_wp2_with fail;exact⟨rfl,Out.err HL.out HF6.out⟩
   |ok aq6=>
    obtain⟨a6,q6⟩:=aq6;have HR6:Hid (r=eM X C.ts k q6 (acc++[a6])):=HR5.out;clear HR5;go_wp2_with fail;refine HY.out.mono ?_;rintro e w6 ⟨hf6,hp6,v6,rfl,hn6⟩;have HN6:=aB hn6;obtain⟨pv6,bv6,ps6,b6,hv6, -,hn7, -,hn8⟩:=hn6;obtain⟨x7,c7,rfl⟩:=hn7.slice;obtain⟨x8,c8,rfl⟩:=hn8.slice;subst hv6;obtain⟨us,F,hown,hall,hFF⟩:=HL5.out.keep hf6 hpb
    have hrb:∀g,(Value.slice x4 acc.length c4).ownBlock=some g→g<w5.heap.size:=by
     obtain⟨vs',F',hown',_⟩:=HL5.out;exact cG hown'
    have HRB:=aB hrb;have HF6:=aB (HF5.out.trans hf6);have HP6:=aB hp6;have HALL:=aB (And.intro hall hFF);have hs6:=hf6.size;have hge:∀k,(Value.slice x4 acc.length c4).ownBlock=some k→w.heap.size≤k:=bX hown;clear hp6 hf6 hn7 hn8 HY HL5 HF5 hall hFF hrb;go_wp2_with (at_builtin;refine wpList_append_lies _ (by rfl) _ _ 86 (by rfl) w.heap.size 215 i0 _ 4 72 Tryz.underlying86 hi hz0 hz1 hz2 rfl (by decide) _ _ _ (by rfl) (hown.alloc _) ⟨w6.heap.size,0,none⟩ 1 1 [.int .i64 a6.line,.string (bs a6.text),.slice x7 ps6.length c7,.slice x8 b6.kids.length c8] (by rfl) (by rfl) (WB _ _ _ _ _) (A0 _ _ _ _ _ _ _ _) (by decide) (by unfold maxLen;omega) (by omega) (by simp;omega) (w6.heap.size+1) (by simp) ?_)
    intro g7 cap7 w9 hown9 hgrow9 hat9 hg9;have HL9:=aB (PFl.snoc (lo:=w5.heap.size) HALL.out.1 HALL.out.2 HN6.out (by omega) HRB.out (fun k hk=>Below.heap_alloc _ _ _ hk) (by simp) hown9 hgrow9 (hat9.imp_right (fun e=>by omega)))
    have HP9:=aB ((HP6.out.alloc _).grown (base:=w.heap.size) hgrow9 hge hpb hgb);have HF9:=aB ((HF6.out.alloc _).grown hgrow9 hge);clear hown hown9 hgrow9 hat9 HN6 HP6 HF6 HALL HRB hge;go_wp2_with fail;go_roundg k
    case measure=>omega
    case rel=>exact⟨HF9.out,q6,acc++[a6],HP9.out,HR6.out,by simp;omega,by simpa using HL9.out⟩
theorem LK(C:Ctx)(w:World)(h:PAt C w 0)(hne:lB C.ts≠.error 0):
 Calls Tryz.prog 77 #[.pointer (some ⟨C.pb,0,none⟩)] w (Out C w (lB C.ts) (O6 w.heap.size)):=
 VL C _ (fun w p h hn=>D4 C _ (FX C (C.ts.length+1) (C.ts.length+1)) w p h _ rfl hn) w 0 h _ rfl hne
theorem pQ(l:Nat)(w:World):
 Calls Tryz.prog 188 #[.agg #[.int .i64 l]] w fun e w'=>e=.returned (.int .i64 l)∧Below w.heap.size w w':=by
 go_enter Tryz.func188,Tryz.ntmps188;go_wp2_with fail;go_ret;exact⟨rfl,(Below.refl _ _).alloc (Nat.le_refl _) _⟩
def Says(n:Int)(l:List (List UInt8))(x:List UInt8):Prop:=decide (0≤n)=l.contains x
theorem RM(l:List (List UInt8))(x:List UInt8)(g cap:Nat)(w:World)(hl:l.length≤100000)(_hlc:l.length≤cap)(hc:∀i (h:i<l.length),w.cell? ⟨g,i,none⟩=some (.string (bs l[i]))):
 Calls Tryz.prog 305 #[.slice (some ⟨g,0,none⟩) l.length cap,.string (bs x)] w fun e w'=>(∃n:Int,e=.returned (.int .i64 n)∧Says n l x)∧w'=w:=by
 have hx:(bs x).toList=x:=bZ x;have HC:=aB hc;clear hc;go_enter Tryz.func305,Tryz.ntmps305;go_wp2_with fail;go_loop [5,8] (fun _ i=>∃k:Nat,k≤l.length∧i=.int .i64 k∧Hid (∀y∈l.take k,y≠x)) (fun _ i=>l.length-(intOf i).toNat)
 case atStart=>exact⟨0,Nat.zero_le _,rfl,fun y hy=>by simp at hy⟩
 case round=>
  obtain⟨k,hk,rfl,HN⟩:=hrel;by_cases hlt:k<l.length
  ·have hcell:=HC.out k hlt;have hget:l[k]∈l:=List.getElem_mem hlt
   have HT:Hid (∀y∈l.take (k+1),y∈l.take k∨y=l[k]):=fun y hy=>by
    rw[List.take_succ_eq_append_getElem hlt] at hy;rcases List.mem_append.1 hy with h|h
    ·exact Or.inl h
    ·exact Or.inr (List.mem_singleton.1 h)
   have HG:=aB hget;clear hget;generalize l[k]=y at*;have hy:(bs y).toList=y:=bZ y;cases hyx:(x==y)
   ·have HF:Hid (∀z∈l.take (k+1),z≠x):=fun z hz=>by
     rcases HT.out z hz with h|h
     ·exact HN.out z h
     ·rw[h];intro e;rw[e] at hyx;simp at hyx
    clear HN HT HG;go_wp2_with fail;go_round
    case rel=>exact⟨k+1,by omega,by go_num,HF⟩
    case measure=>simp[intOf];omega
   ·have HF:Hid (l.contains x=true):=by
     show _=_
     have e:x=y:=by simpa using hyx
     rw[e];simpa using HG.out
    clear HN HT HG;go_wp2_with fail;go_ret;exact⟨⟨k,rfl,by unfold Says;rw[HF.out];simp⟩,rfl⟩
  ·have HF:Hid (l.contains x=false):=by
    show _=_
    rw[Bool.eq_false_iff];intro h;have:=HN.out x (by rw[List.take_of_length_le (by omega)];simpa using h)
    exact this rfl
   clear HN;go_wp2_with fail;go_ret;exact⟨⟨-1,rfl,by unfold Says;rw[HF.out];decide⟩,rfl⟩
theorem RN(x:List UInt8)(w:World):
 Calls Tryz.prog 305 #[.slice none 0 0,.string (bs x)] w fun e w'=>(∃n:Int,e=.returned (.int .i64 n)∧Says n [] x)∧w'=w:=by
 go_enter Tryz.func305,Tryz.ntmps305;go_wp2_with fail;go_loop [5,8] (fun _ i=>i=.int .i64 0) (fun _ _=>0)
 case atStart=>rfl
 case round=>
  subst hrel;go_wp2_with fail;go_ret;exact⟨⟨-1,rfl,rfl⟩,rfl⟩
theorem tT(l:List (List UInt8))(x:List UInt8)(v:Value)(base:Nat)(w:World)(hl:l.length≤100000)(hown:w.ownsRow base 9 1 v l.length (jR l)):
 Calls Tryz.prog 258 #[v,.string (bs x)] w fun e w'=>e=.returned (.bool (l.contains x))∧w'=w:=by
 have HI:Hid (Calls Tryz.prog 305 #[v,.string (bs x)] w fun e w'=>(∃n:Int,e=.returned (.int .i64 n)∧Says n l x)∧w'=w):=by
  rcases hown.2 with ⟨rfl,h0⟩|⟨g,cap,cur,rfl,h2,h3,h4,h5,h6,h7⟩
  ·obtain rfl:l=[]:=List.eq_nil_of_length_eq_zero h0;exact RN x w
  ·refine RM l x g cap w hl h4 fun i hi=>aA h3 ?_
   have e:(jR l)[i]?=some (.string (bs l[i])):=by simp[jR,hi]
   rw[←h7,List.getElem?_take,if_pos (by omega)] at e
   simpa using e
 clear hown;go_enter Tryz.func258,Tryz.ntmps258;go_wp2_with fail;refine HI.out.mono ?_;rintro e w1 ⟨⟨n,rfl,hn⟩,hw⟩;obtain rfl:=hw.symm;clear HI;have HN:=aB hn;clear hn;go_wp2_with fail;go_ret;exact⟨iJ HN.out,rfl⟩
def kF(fs:List aC)(x:List UInt8):Option Nat:=
 if x==[108,101,110] then some 1 else if x==[114,101,97,100] then some 0 else (dG fs x).map fun f=>f.kids.length-1
theorem FO{F:Nat→Prop}{w:World}:∀{us:List Value} {fs:List aC} (k:Nat) (hk:k<fs.length),jH (yH F w) us fs→
 ∃pv bv ps b,(iX us)[k*4]?=some (.int .i64 fs[k].line)∧(iX us)[k*4+1]?=some (.string (bs fs[k].text))∧(iX us)[k*4+1+1]?=some pv∧(iX us)[k*4+1+1+1]?=some bv∧fs[k].kids=ps++[b]∧PNm F w pv ps∧b.op=[98,108,111,99,107]∧PKid F w bv b.kids
 |[],[],k,hk,_=>absurd hk (Nat.not_lt_zero _)
 |_::us,f::fs,0,_,⟨⟨pv,bv,ps,b,hv,h2,h3,h4,h5⟩,_⟩=>by
  subst hv;exact⟨pv,bv,ps,b,rfl,rfl,rfl,rfl,h2,h3,h4,h5⟩
 |_::us,f::fs,k+1,hk,⟨⟨pv,bv,ps,b,hv,_⟩,h⟩=>by
  subst hv;obtain⟨pv',bv',ps',b',e1,e2,e3,e4,e5⟩:=FO k (by simpa using hk) h
  have e:∀j,(iX (Value.agg #[.int .i64 f.line,.string (bs f.text),pv,bv]::us))[(k+1)*4+j]?=(iX us)[k*4+j]?:=fun j=>by
   rw[iX,List.getElem?_append_right (by simp[vN];omega)]
   congr 1;simp[vN];omega
  exact⟨pv',bv',ps',b',(e 0).trans e1,(e 1).trans e2,(e 2).trans e3,(e 3).trans e4,e5⟩
 |[],_::_,_,_,h=>h.elim
 |_::_,[],_,hk,_=>absurd hk (Nat.not_lt_zero _)
def OS(F:Nat→Prop)(w:World)(g:Nat)(fs:List aC):Prop:=
 ∀k (hk:k<fs.length),∃pv bv ps b,w.cell? ⟨g,k*4,none⟩=some (.int .i64 fs[k].line)∧w.cell? ⟨g,k*4+1,none⟩=some (.string (bs fs[k].text))∧w.cell? ⟨g,k*4+1+1,none⟩=some pv∧w.cell? ⟨g,k*4+1+1+1,none⟩=some bv∧fs[k].kids=ps++[b]∧PNm F w pv ps∧b.op=[98,108,111,99,107]∧PKid F w bv b.kids
theorem FSl.cells{F:Nat→Prop}{w:World}{v:Value}{fs:List aC}(h:FSl F w v fs):(v=.slice none 0 0∧fs=[])∨∃g cap,v=.slice (some ⟨g,0,none⟩) fs.length cap∧F g∧g<w.heap.size∧fs.length≤cap∧OS F w g fs:=by
 rcases h with h|⟨g,cap,cur,us,h1,h2,h3,h4,h5,h6⟩
 ·exact Or.inl h
 ·refine Or.inr ⟨g,cap,h1,h2,aD h3,h4,fun k hk=>?_⟩
  obtain⟨pv,bv,ps,b,e1,e2,e3,e4,e5⟩:=FO k hk h6
  have e:∀j u,j<fs.length*4→(iX us)[j]?=some u→w.cell? ⟨g,j,none⟩=some u:=fun j u hj hu=>by
   refine aA h3 ?_;rw[←h5,List.getElem?_take,if_pos hj] at hu;simpa using hu
  exact⟨pv,bv,ps,b,e _ _ (by omega) e1,e _ _ (by omega) e2,e _ _ (by omega) e3,e _ _ (by omega) e4,e5⟩
theorem M1{fs:List aC}{x:List UInt8}{k:Nat}(hk:k<fs.length)(hn:∀f∈fs.take k,f.text≠x)(hx:fs[k].text=x):dG fs x=some fs[k]:=by
 unfold dG;have hd:fs=fs.take k++fs[k]::fs.drop (k+1):=by rw[List.getElem_cons_drop,List.take_append_drop]
 generalize hf:fs[k]=f at*;rw[hd,List.find?_append,List.find?_eq_none.2 (by intro z hz;simpa using hn z hz)]
 simp[hx]
theorem D6{fs:List aC}{x:List UInt8}(hn:∀f∈fs,f.text≠x):dG fs x=none:=by
 unfold dG;exact List.find?_eq_none.2 (by intro z hz;simpa using hn z hz)
theorem VQ(fs:List aC)(F:Nat→Prop)(x:List UInt8)(g cap:Nat)(w:World)(hl:fs.length≤100000)(hfk:∀f∈fs,f.kids.length≤90000)(_hlc:fs.length≤cap)(hg:g<w.heap.size)(hc:OS F w g fs)(hx1:(x==[108,101,110])=false)(hx2:(x==[114,101,97,100])=false):
 Calls Tryz.prog 135 #[.slice (some ⟨g,0,none⟩) fs.length cap,.string (bs x)] w fun e w'=>e=.returned (.tuple #[.int .i64 ((kF fs x).getD 0:Nat),.bool (kF fs x).isSome])∧Below w.heap.size w w':=by
 have hx:(bs x).toList=x:=bZ x;have HC:=aB hc;have HFK:=aB hfk;have HP:Hid (kF fs x=(dG fs x).map fun f=>f.kids.length-1):=by show _=_;unfold kF;rw[hx1,hx2];rfl
 clear hc hfk;go_enter Tryz.func135,Tryz.ntmps135;go_wp2_with fail;go_loopg [7,15] fs.length (fun gk _ i wr=>∃k:Nat,k+gk=fs.length∧i=.int .i64 k∧Below w.heap.size w wr∧Hid (∀f∈fs.take k,f.text≠x))
 case atStart=>exact⟨0,by omega,rfl,Below.refl _ _,fun y hy=>by simp at hy⟩
 case round=>
  obtain⟨k,hk,rfl,hb,HN⟩:=hrel;have hgr:g<wr.heap.size:=Nat.lt_of_lt_of_le hg hb.size;by_cases hlt:k<fs.length
  ·obtain⟨j,rfl⟩:∃j,gk=j+1:=⟨gk-1,by omega⟩
   obtain⟨pv,bv,ps,b,c0,c1,c2,c3,hkids,hps,hbo,hbk⟩:=HC.out k hlt;obtain⟨px,pc,rfl⟩:=hps.slice;obtain⟨bx,bc,rfl⟩:=hbk.slice;have d:∀o u,w.cell? ⟨g,o,none⟩=some u→wr.cell? ⟨g,o,none⟩=some u:=fun o u h=>(hb.cell (p:=⟨g,o,none⟩) hg).trans h
   have d0:=d _ _ c0;have d1:=d _ _ c1;have d2:=d _ _ c2;have d3:=d _ _ c3;have hget:fs[k]∈fs:=List.getElem_mem hlt
   have HT:Hid (∀y∈fs.take (k+1),y∈fs.take k∨y=fs[k]):=fun y hy=>by
    rw[List.take_succ_eq_append_getElem hlt] at hy;rcases List.mem_append.1 hy with h|h
    ·exact Or.inl h
    ·exact Or.inr (List.mem_singleton.1 h)
   have HAT:Hid (fs[k].text=x→dG fs x=some fs[k]):=fun e=>M1 hlt HN.out e
   have hkl:ps.length+1=fs[k].kids.length:=by rw[hkids];simp
   have hkb:=HFK.out _ hget;have HB:=aB hb;clear c0 c1 c2 c3 hps hbk d hkids hget hb;generalize fs[k]=f at*;have hy:(bs f.text).toList=f.text:=bZ _;cases hyx:(f.text==x)
   ·have HF:Hid (∀z∈fs.take (k+1),z.text≠x):=fun z hz=>by
     rcases HT.out z hz with h|h
     ·exact HN.out z h
     ·rw[h];simpa using hyx
    clear HN HT HAT;go_wp2_with fail;go_roundg j
    case measure=>omega
    case rel=>exact⟨k+1,by omega,by go_num,HB.out.alloc HB.out.size _,HF⟩
   ·have HF:Hid (kF fs x=some ps.length):=by
     show _=_
     rw[HP.out,HAT.out (by simpa using hyx)]
     simp;omega
    clear HN HT HAT;go_wp2_with fail;go_ret2
    rw[HF.out];exact⟨rfl,HB.out.alloc HB.out.size _⟩
  ·have HF:Hid (kF fs x=none):=by
    show _=_
    rw[HP.out,D6 (fun f hf=>HN.out f (by rw[List.take_of_length_le (by omega)];exact hf))]
    rfl
   have HB:=aB hb;clear HN hb;go_wp2_with fail;go_ret2
   rw[HF.out];exact⟨rfl,HB.out⟩
theorem VS(x:List UInt8)(w:World)(hx1:(x==[108,101,110])=false)(hx2:(x==[114,101,97,100])=false):
 Calls Tryz.prog 135 #[.slice none 0 0,.string (bs x)] w fun e w'=>e=.returned (.tuple #[.int .i64 ((kF [] x).getD 0:Nat),.bool (kF [] x).isSome])∧Below w.heap.size w w':=by
 have hx:(bs x).toList=x:=bZ x;have HF:Hid (kF [] x=none):=by show _=_;unfold kF;rw[hx1,hx2];rfl
 go_enter Tryz.func135,Tryz.ntmps135;go_wp2_with fail;go_loop [7,15] (fun _ i=>i=.int .i64 0) (fun _ _=>0)
 case atStart=>rfl
 case round=>
  subst hrel;go_wp2_with fail;go_ret2
  rw[HF.out];exact⟨rfl,Below.refl _ _⟩
theorem AR(v:Value)(x:List UInt8)(w:World)(n:Nat)(fs:List aC)(hx:(x=[108,101,110]∧n=1)∨(x=[114,101,97,100]∧n=0)):
 Calls Tryz.prog 135 #[v,.string (bs x)] w fun e w'=>e=.returned (.tuple #[.int .i64 ((kF fs x).getD 0:Nat),.bool (kF fs x).isSome])∧Below w.heap.size w w':=by
 rcases hx with ⟨rfl,rfl⟩|⟨rfl,rfl⟩
 ·have HF:Hid (kF fs [108,101,110]=some 1):=rfl;simp only[bs];go_enter Tryz.func135,Tryz.ntmps135;go_wp2_with fail;go_ret2
  rw[HF.out];exact⟨rfl,Below.refl _ _⟩
 ·have HF:Hid (kF fs [114,101,97,100]=some 0):=rfl;simp only[bs];go_enter Tryz.func135,Tryz.ntmps135;go_wp2_with fail;go_ret2
  rw[HF.out];exact⟨rfl,Below.refl _ _⟩
theorem AS(fs:List aC)(F:Nat→Prop)(v:Value)(x:List UInt8)(w:World)(hl:fs.length≤100000)(hfk:∀f∈fs,f.kids.length≤90000)(h:FSl F w v fs):
 Calls Tryz.prog 135 #[v,.string (bs x)] w fun e w'=>e=.returned (.tuple #[.int .i64 ((kF fs x).getD 0:Nat),.bool (kF fs x).isSome])∧Below w.heap.size w w':=by
 by_cases h1:x=[108,101,110]
 ·exact AR v x w 1 fs (Or.inl ⟨h1,rfl⟩)
 by_cases h2:x=[114,101,97,100]
 ·exact AR v x w 0 fs (Or.inr ⟨h2,rfl⟩)
 rcases h.cells with ⟨rfl,rfl⟩|⟨g,cap,rfl,hF,hg,hcap,hc⟩
 ·exact VS x w (by simpa using h1) (by simpa using h2)
 ·exact VQ fs F x g cap w hl hfk hcap hg hc (by simpa using h1) (by simpa using h2)
end Go.Proofs.YtblbkfdhjfppkaaGreatDoor
