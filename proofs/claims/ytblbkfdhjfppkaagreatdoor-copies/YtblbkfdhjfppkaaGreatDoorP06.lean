/- Contracts of the program: signs; operands with operations between them. -/
import Derived.Test.YtblbkfdhjfppkaaGreatDoorP05
set_option maxRecDepth 100000
set_option maxHeartbeats 4000000
namespace Go.Proofs.YtblbkfdhjfppkaaGreatDoor
open Hs
open Tryz(prog)
open Go.RowKit
theorem WF(t:List UInt8):∀l:List (List UInt8),l.find? (fun x=>t==x)=if t∈l then some t else none
 |[]=>by simp
 |y::l=>by
  rw[List.find?_cons];by_cases h:t=y
  ·subst h;simp
  ·rw[show (t==y)=false by simpa using h]
   simp only[WF t l,p8,h,false_or]
theorem K1(t:List UInt8)(h:iQ.contains t=true):bV t=9:=by
 unfold iQ at h;simp only[List.contains_eq_mem,p8,s7,or_false,decide_eq_true_eq] at h;rcases h with rfl|rfl|rfl|rfl|rfl|rfl|rfl|rfl|rfl<;>decide
theorem xS{ts:List aP}{q:Nat}(h:nY (aO ts q))(k:Nat)(hk:k≠9)(l:List (List UInt8))(hl:∀x,x∈l↔bV x=k):
 nF ts q l=if (aO ts q).sort==112 && bV (aO ts q).text==k then (aO ts q).text else []:=by
 unfold nF;by_cases h1:(aO ts q).sort=112
 ·rw[show (fun x=>aX ts q x)=(fun x=>(aO ts q).text==x) by funext x;unfold aX;simp[h1],WF]
  by_cases h2:bV (aO ts q).text=k
  ·rw[if_pos ((hl _).2 h2)];simp[h1,h2]
  ·rw[if_neg (fun e=>h2 ((hl _).1 e))];simp[h2]
 ·rw[aP_.2]
  ·simp[h1]
  ·intro x hx e;unfold aX at e;simp only[y6,aQ_,beq_iff_eq] at e;rcases h with h|⟨h,hw⟩|h|⟨h,_⟩|h|h
   ·exact h1 h
   ·have:=K1 _ hw;rw[e.2,(hl x).1 hx] at this;exact hk this
   all_goals (rw[h] at e;rcases e.1 with e|e<;>omega)
theorem j8(x:List UInt8):x∈([[124,124]]:List (List UInt8))↔bV x=0:=by
 unfold bV;simp only[p8,s7,or_false,beq_iff_eq,aQ_];repeat' split
 all_goals simp_all
theorem j7(x:List UInt8):x∈([[38,38]]:List (List UInt8))↔bV x=1:=by
 unfold bV;simp only[p8,s7,or_false,beq_iff_eq,aQ_];repeat' split
 all_goals simp_all
theorem j6(x:List UInt8):x∈([[61,61],[33,61],[60],[60,61]]:List (List UInt8))↔bV x=2:=by
 unfold bV;simp only[p8,s7,or_false,beq_iff_eq,aQ_];repeat' split
 all_goals simp_all
theorem j5(x:List UInt8):x∈([[43],[45]]:List (List UInt8))↔bV x=3:=by
 constructor
 ·simp only[p8,s7,or_false];rintro(rfl|rfl)<;>decide
 ·unfold bV;simp only[p8,s7,or_false,beq_iff_eq,aQ_];repeat' split
  all_goals simp_all
theorem j4(x:List UInt8):x∈([[42],[47],[37]]:List (List UInt8))↔bV x=4:=by
 constructor
 ·simp only[p8,s7,or_false];rintro(rfl|rfl|rfl)<;>decide
 ·unfold bV;simp only[p8,s7,or_false,beq_iff_eq,aQ_];repeat' split
  all_goals simp_all
theorem OJ(ts:List aP)(p:Nat):nF ts p [[45],[33]]=if aX ts p [45] then [45] else if aX ts p [33] then [33] else []:=by
 unfold nF;simp only[List.find?_cons,List.find?_nil];cases aX ts p [45]<;>cases aX ts p [33]<;>rfl
theorem ID(C:Ctx)(w:World)(p:Nat)(h:PAt C w p)(l:List (List UInt8))(hl:l.length<=100)(hne:∀x∈l,x≠[])(oo:List UInt8)(hoo:nF C.ts p l=oo)(gb:Nat)(hgb:gb=w.heap.size)(n:Nat)(hn:n=l.length)(cs:Array Value)(hcs:cs=(l.map fun x=>Value.string (bs x)).toArray):
 Calls prog 284 #[.pointer (some ⟨C.pb,0,none⟩),.slice (some ⟨gb,0,none⟩) n n] (w.alloc (.cells cs 9)) fun e w'=>e=.returned (.string (bs oo))/\PAt C w' (if oo=[] then p else p+1)/\Fr C.pb w w':=by
 subst hoo hgb hn;have hpb:=h.pb_lt;refine(GY C _ p l w.heap.size l.length (by simp) (by omega) hl hne ?_ (h.alloc _)).mono fun e w' ⟨h1,h2,h3⟩=>⟨h1,h2,((Fr.refl _ _).alloc _).trans h3⟩
 intro i hi;refine aA (aT _ _ rfl _) ?_;rw[hcs];simp[hi]
theorem RM(C:Ctx)(E:Nat->bS aC)(HE:PReads C 164 E)(g:Nat)(ih0:PReads C 345 (eJ E C.ts g)):PReads C 345 (eJ E C.ts (g+1)):=by
 intro w p h hne;have ih:=aB ih0;have HPL:=aB (mG C w p h);have hpb:=h.pb_lt;have hgb:=h.g_lt;have HPT:=aB (H9 C E HE);obtain⟨r,hr⟩:∃r,r=eJ E C.ts (g+1) p:=⟨_,rfl⟩;rw[<-hr] at hne ⊢
 rw[eJ] at hr;have HR:=aB hr;have HNE:=aB hne;have H:=aB h;clear h HE hne hr ih0;generalize hpl:(aO C.ts p).line=pl at*;have HO1:=aB (OJ C.ts p);generalize hoo:nF C.ts p [[45],[33]]=oo at*;have HOO:=aB hoo;clear hoo;go_enter Tryz.func345,Tryz.ntmps345;go_wp2_with fail;refine HPL.out.mono ?_;rintro e w1 ⟨rfl,hb1⟩;have HF1:=aB ((Fr.below (pb:=C.pb) hb1).alloc (.cells #[.int .i64 pl] 209));have HP1:=aB ((H.out.below hb1).alloc (.cells #[.int .i64 pl] 209));have HB1:=aB (N6.new w1 pl);have hs1:=hb1.size;clear hb1 HPL;have HM:=aB (ID C _ p HP1.out [[45],[33]] (by decide) (by intro x hx;simp at hx;rcases hx with rfl|rfl<;>simp) oo HOO.out (w1.heap.size+1) (by simp) 2 rfl #[.string ⟨#[45]⟩,.string ⟨#[33]⟩] rfl)
 generalize hqo:(if oo=[] then p else p+1)=qo at*
 have HQO:=aB hqo;clear hqo;go_wp2_with fail;refine HM.out.mono ?_;rintro e w2 ⟨rfl,hp2,hf2⟩;have HP2:=aB hp2;have HF2:=aB (HF1.out.trans hf2);have HB2:=aB (hf2.keepB HB1.out (by omega))
 have hs2:=HF2.out.size;clear hp2 hf2 HF1 HP1 HB1;by_cases h45:aX C.ts p [45]=true
 ·obtain rfl:oo=[45]:=by rw[HO1.out,if_pos h45]
  obtain rfl:qo=p+1:=HQO.out.symm;obtain⟨rU,hrU⟩:∃rU,rU=eJ E C.ts g (p+1):=⟨_,rfl⟩;have HR1:Hid (r=bU (fun x=>aQ [45,120] pl [] [x]) rU):=by show _=_;rw[HR.out,if_pos h45,hrU]
  have hU0:eJ E C.ts g (p+1)≠.error 0:=fun e=>HNE.out (by rw[HR1.out,hrU,e];rfl)
  have HX:=aB (ih.out w2.drew (p+1) HP2.out.drew hU0);rw[<-hrU] at HX;clear hU0 hrU HR HO1 HOO HQO HM h45 hpl;have c0:=aA HB2.out (i:=0) rfl;have hz2:=aD HB2.out;simp only[bs];cases rU with
  |error l=>
   have HL:Hid (r=.error l):=HR1.out;go_wp2_with fail;go_region_law (refine thrown .nilIface ?_ ?_;(focus go_simp;go_at_call 345;refine HX.out.mono ?_;rintro e w5 ⟨hf5,rfl⟩;exact And.intro rfl (Out.err HL.out (HF2.out.drew.trans hf5)));intro hfalse)
   all_goals exact hfalse.out.elim
  |ok aq=>
   obtain⟨a,q⟩:=aq;have HL:Hid (r=.ok (aQ [45,120] pl [] [a],q)):=HR1.out;go_wp2_with fail;go_region_law (go_simp;go_at_call 345;refine HX.out.mono ?_;rintro e w5 ⟨hf5,hp5,v5,rfl,hn5⟩;obtain⟨T5,cs5,rfl⟩:=hn5.form;have HN5:=aB hn5;have HF5:=aB hf5;have HA5:=aB hp5;have HP5:=aB (((Fr.refl C.pb w2).drew.trans hf5).keepB HB2.out (by omega));have d0:=aA HP5.out (i:=0) rfl;have hz5:=aD HP5.out;clear hf5 hp5 hn5)
   all_goals (go_wp2_with fail;go_ret)
   all_goals exact Out.ok HL.out (HF2.out.drew.trans HF5.out) HA5.out (PN.mk (Or.inr (Or.inr (Or.inr (Or.inr (Or.inr (Or.inr (Or.inr (Or.inl ⟨rfl,45,_,a,rfl,Or.inl rfl,rfl,rfl,rfl⟩)))))))) (fun p hp=>by obtain rfl:=o8.1 hp;exact Prt.ok.node (HN5.out.grow (fun _ _ _=>rfl) hs2 (l9 _))))
 by_cases h33:aX C.ts p [33]=true
 ·obtain rfl:oo=[33]:=by rw[HO1.out,if_neg h45,if_pos h33]
  obtain rfl:qo=p+1:=HQO.out.symm;obtain⟨rU,hrU⟩:∃rU,rU=eJ E C.ts g (p+1):=⟨_,rfl⟩;have HR1:Hid (r=bU (fun x=>aQ [33,120] pl [] [x]) rU):=by show _=_;rw[HR.out,if_neg h45,if_pos h33,hrU]
  have hU0:eJ E C.ts g (p+1)≠.error 0:=fun e=>HNE.out (by rw[HR1.out,hrU,e];rfl)
  have HX:=aB (ih.out w2.drew (p+1) HP2.out.drew hU0);rw[<-hrU] at HX;clear hU0 hrU HR HO1 HOO HQO HM h45 h33 hpl;have c0:=aA HB2.out (i:=0) rfl;have hz2:=aD HB2.out;simp only[bs];cases rU with
  |error l=>
   have HL:Hid (r=.error l):=HR1.out;go_wp2_with fail;go_region_law (refine thrown .nilIface ?_ ?_;(focus go_simp;go_at_call 345;refine HX.out.mono ?_;rintro e w5 ⟨hf5,rfl⟩;exact And.intro rfl (Out.err HL.out (HF2.out.drew.trans hf5)));intro hfalse)
   all_goals exact hfalse.out.elim
  |ok aq=>
   obtain⟨a,q⟩:=aq;have HL:Hid (r=.ok (aQ [33,120] pl [] [a],q)):=HR1.out;go_wp2_with fail;go_region_law (go_simp;go_at_call 345;refine HX.out.mono ?_;rintro e w5 ⟨hf5,hp5,v5,rfl,hn5⟩;obtain⟨T5,cs5,rfl⟩:=hn5.form;have HN5:=aB hn5;have HF5:=aB hf5;have HA5:=aB hp5;have HP5:=aB (((Fr.refl C.pb w2).drew.trans hf5).keepB HB2.out (by omega));have d0:=aA HP5.out (i:=0) rfl;have hz5:=aD HP5.out;clear hf5 hp5 hn5)
   all_goals (go_wp2_with fail;go_ret)
   all_goals exact Out.ok HL.out (HF2.out.drew.trans HF5.out) HA5.out (PN.mk (Or.inr (Or.inr (Or.inr (Or.inr (Or.inr (Or.inr (Or.inr (Or.inl ⟨rfl,33,_,a,rfl,Or.inr rfl,rfl,rfl,rfl⟩)))))))) (fun p hp=>by obtain rfl:=o8.1 hp;exact Prt.ok.node (HN5.out.grow (fun _ _ _=>rfl) hs2 (l9 _))))
 obtain rfl:oo=[]:=by rw[HO1.out,if_neg h45,if_neg h33]
 obtain rfl:p=qo:=HQO.out;have HR1:Hid (r=bO (dW E C.ts p) (cZ E C.ts (C.ts.length+1))):=by show _=_;rw[HR.out,if_neg h45,if_neg h33]
 have HX:=aB (HPT.out w2 p HP2.out (by show bO _ _≠_;rw[<-HR1.out];exact HNE.out))
 simp only[<-HR1.out] at HX;clear HR HO1 HOO HQO HM h45 h33 hpl;simp only[bs];go_wp2_with fail;refine HX.out.mono ?_;rintro e w3 ⟨hf3,ho3⟩;cases r with
 |error l=>
  obtain rfl:e=dC 4 l:=ho3;have HF3:=aB (HF2.out.trans hf3);clear hf3;go_wp2_with fail;exact⟨rfl,Out.err rfl HF3.out⟩
 |ok aq=>
  obtain⟨a,q⟩:=aq;obtain⟨hp3,v3,rfl,hn3⟩:=ho3;have HF3:=aB (HF2.out.trans hf3);have HP3:=aB hp3;have HN3:=aB hn3;clear hf3 hp3 hn3;go_wp2_with fail;go_ret;exact Out.ok rfl HF3.out HP3.out (HN3.out.grow (fun _ _ _=>rfl) hs2 (l9 _))
theorem WS(C:Ctx)(E:Nat->bS aC)(HE:PReads C 164 E)(g:Nat):PReads C 345 (eJ E C.ts g):=by
 induction g with
 |zero=>exact fun w p _ hne=>absurd rfl hne
 |succ g ih=>exact RM C E HE g ih
def Y0(C:Ctx)(L:Nat->bS aC)(w:World)(r:bS aC)(lv tb l:Nat)(k:Nat)(v:Value)(wr:World):Prop:=
 Fr C.pb w wr/\∃q a,PAt C wr q/\r=bD L C.ts lv k a q/\PN (Btw w.heap.size wr.heap.size) wr v a/\N6 wr tb l
theorem S5{L:Nat->bS aC}{ts:List aP}{lv k q:Nat}{a:aC}(hlv:lv≠2)(h:((aO ts q).sort==112 && bV (aO ts q).text==lv)=true):
 bD L ts lv (k+1) a q=bO (L (q+1)) (fun b q2=>bD L ts lv k (aQ (aO ts q).text (aO ts q).line [] [a,b]) q2):=by
 rw[bD,if_pos h];cases L (q+1) with
 |error l=>rfl
 |ok bq=>simp only[if_neg hlv];rfl
theorem J9{L:Nat->bS aC}{ts:List aP}{lv k q:Nat}{a:aC}(h:((aO ts q).sort==112 && bV (aO ts q).text==lv)=false):
 bD L ts lv (k+1) a q=.ok (a,q):=by
 rw[bD,if_neg (by rw[h];simp)]
theorem B3(C:Ctx)(L:Nat->bS aC)(F:Nat)(hcf:∀args w,Sem.run prog (callFunc F args) w=.ok (.enter F args) w)(HF:PReads C F L)(lv:Nat)(h2:lv≠2)(h9:lv≠9)(ops:List (List UInt8))(hops:∀x,x∈ops↔bV x=lv)(hlen:ops.length<=100)(w:World)(p:Nat)(h:PAt C w p)(g cap:Nat)(hg:g<w.heap.size)(hgp:g≠C.pb)(hc:∀i (hi:i<ops.length),w.cell? ⟨g,i,none⟩=some (.string (bs ops[i])))
 (hne:bO (L p) (bD L C.ts lv (C.ts.length+1))≠.error 0):
 Calls prog 227 #[.pointer (some ⟨C.pb,0,none⟩),.func (.func F) #[.pointer (some ⟨C.pb,0,none⟩)] #[],.slice (some ⟨g,0,none⟩) ops.length cap] w (GJ C w (bO (L p) (bD L C.ts lv (C.ts.length+1)))):=by
 have hnil:∀x∈ops,x≠[]:=fun x hx e=>by rw[hops,e] at hx;exact h9 (hx.symm.trans rfl)
 have HOF:=aB (fun W q (hf:Fr C.pb w W) (hq:PAt C W q)=>GY C W q ops g cap (m9 hg hf.size) hgp hlen hnil (fun i hi=>(wZ (hf.block g hg hgp)).trans (hc i hi)) hq)
 have HLV:=aB (fun W q (hq:PAt C W q)=>xS (hq.tsk.tk q hq.lt) lv h9 ops hops)
 have HPL:=aB (mG C w p h);have hne1:L p≠.error 0:=fun e=>hne (by rw[e];rfl)
 have HX:=aB (fun w1 (hb:Below w.heap.size w w1)=>HF w1 p (h.below hb) hne1)
 have HFF:=aB HF;have hpb:=h.pb_lt;obtain⟨r,hr⟩:∃r,r=bO (L p) (bD L C.ts lv (C.ts.length+1)):=⟨_,rfl⟩;rw[<-hr] at hne ⊢
 have HR:=aB hr;have HNE:=aB hne;clear h HF hne hr hne1 hnil hc hops;generalize (aO C.ts p).line=pl at*;cases hpr:L p with
 |error l=>
  have HL:Hid (r=.error l):=by show _=_;rw[HR.out,hpr];rfl
  rw[hpr] at HX;clear hpr HR;go_enter Tryz.func227,Tryz.ntmps227;go_wp2_with fail;refine HPL.out.mono ?_;rintro e w1 ⟨rfl,hb1⟩;have HB1:=aB hb1;clear hb1;go_wp2_with fail;refine(HX.out w1 HB1.out).mono ?_;rintro e w2 ⟨hf2,rfl⟩;have HF2:=aB ((Fr.below HB1.out).trans hf2);clear hf2;go_wp2_with fail;exact⟨rfl,Out.err HL.out HF2.out⟩
 |ok aq=>
  obtain⟨a0,q0⟩:=aq;have HL:Hid (r=bD L C.ts lv (C.ts.length+1) a0 q0):=by show _=_;rw[HR.out,hpr];rfl
  rw[hpr] at HX;clear hpr HR;go_enter Tryz.func227,Tryz.ntmps227;go_wp2_with fail;refine HPL.out.mono ?_;rintro e w1 ⟨rfl,hb1⟩;have HB1:=aB hb1;clear hb1;go_wp2_with fail;refine(HX.out w1 HB1.out).mono ?_;rintro e w2 ⟨hf2,hp2,v2,rfl,hn2⟩;have hs1:=HB1.out.size;have hs2:=hf2.size
  have HI:Hid (Y0 C L w r lv w2.heap.size pl (C.ts.length+1) v2 (w2.alloc (.cells #[.int .i64 pl] 209))):=
   ⟨((Fr.below HB1.out).trans hf2).alloc _,q0,a0,hp2.alloc _,HL.out,hn2.grow (fun k _ h2=>o9 _ _ _ h2) hs1 (by simp),N6.new _ _⟩
  obtain⟨T2,cs2,rfl⟩:=hn2.form;clear hf2 hp2 hn2 HL HX HPL;go_wp2_with fail;go_loopg [8,9] (C.ts.length+1) (fun k v o wr=>Y0 C L w r lv w2.heap.size pl k v wr)
  case atStart=>exact HI.out
  case round=>
   obtain⟨hf3,q,a,hp3,hr3,hn3,hpl3⟩:=hrel;obtain⟨T3,cs3,rfl⟩:=hn3.form
   obtain⟨k,rfl⟩:∃k,gk=k+1:=by
    cases gk with
    |zero=>exact absurd hr3 HNE.out
    |succ k=>exact⟨k,rfl⟩
   have HA:=aB (HOF.out wr q hf3 hp3);have HO:=aB (HLV.out wr q hp3);have hqn:(aO C.ts q).sort=112->bV (aO C.ts q).text=lv->(aO C.ts q).text≠[]:=fun _ e1 e2=>h9 (by rw[<-e1,e2];rfl)
   have HQN:=aB hqn;have HF3:=aB hf3;have HN3:=aB hn3;have HP3:=aB hpl3;have hs3:=hf3.size;clear hf3 hp3 hn3 hpl3 HI hqn;generalize nF C.ts q ops=oo at*;generalize hqo:(if oo=[] then q else q+1)=qo at*
   have HQO:=aB hqo;clear hqo;cases hit:((aO C.ts q).sort==112 && bV (aO C.ts q).text==lv)
   ·have HL:Hid (r=.ok (a,q)):=by show _=_;rw[hr3];exact J9 hit
    obtain rfl:oo=[]:=by rw[HO.out,hit];rfl
    obtain rfl:q=qo:=HQO.out;clear hit hr3 HO HQO HQN;simp only[bs] at HA;go_wp2_with fail;refine HA.out.mono ?_;rintro e w4 ⟨rfl,hp4,hf4⟩;have HF4:=aB hf4;have HP4:=aB hp4;clear hf4 hp4;go_wp2_with fail;go_ret;exact Out.ok HL.out (HF3.out.trans HF4.out) HP4.out (HN3.out.grow (fun k h1 h2=>HF4.out.block k h2 (by omega)) (l9 _) HF4.out.size)
   ·obtain⟨rE,hrE⟩:∃rE,rE=L (q+1):=⟨_,rfl⟩;have HR4:Hid (r=bO rE (fun b q2=>bD L C.ts lv k (aQ (aO C.ts q).text (aO C.ts q).line [] [a,b]) q2)):=by show _=_;rw[hr3,S5 h2 hit,hrE]
    have hoo:oo=(aO C.ts q).text:=by rw[HO.out,hit];rfl
    have hit':(aO C.ts q).sort=112/\bV (aO C.ts q).text=lv:=by simpa using hit
    have hon:oo≠[]:=by rw[hoo];exact HQN.out hit'.1 hit'.2
    have HLO:Hid (bV (aO C.ts q).text≠9):=by show _≠_;rw[hit'.2];exact h9
    obtain rfl:q+1=qo:=by rw[<-HQO.out,if_neg hon]
    have hE0:L (q+1)≠.error 0:=fun e=>HNE.out (by rw[HR4.out,hrE,e];rfl)
    have hoe:(bs oo).toList.isEmpty=false:=by
     rw[cB];cases oo with
     |nil=>exact absurd rfl hon
     |cons x l=>rfl
    have HRE:=aB hrE;have HOO:=aB hoo;clear hit hr3 hrE HO HQO HQN hit' hoo;go_wp2_with fail;refine HA.out.mono ?_;rintro e w4 ⟨rfl,hp4,hf4⟩;have HX:=aB (HFF.out w4.drew (q+1) hp4.drew hE0);rw[<-HRE.out] at HX;have HN4:=aB (HN3.out.grow (fun k h1 h2=>hf4.block k h2 (by omega)) (l9 _) hf4.size)
    have HP4:=aB (hf4.keepB HP3.out (by omega))
    have HF4:=aB (HF3.out.trans hf4);have c0:=aA HP4.out (i:=0) rfl;have hz4:=aD HP4.out;have hs4:=hf4.size;clear hf4 hp4 HN3 HP3 HF3 HA hE0 hon;cases rE with
    |error l=>
     have HL:Hid (r=.error l):=HR4.out;go_wp2_with fail;go_region_law (refine thrown .nilIface ?_ ?_;(focus go_simp;refine HX.out.mono ?_;rintro e w5 ⟨hf5,rfl⟩;exact And.intro rfl (Out.err HL.out (HF4.out.drew.trans hf5)));intro hfalse)
     all_goals exact hfalse.out.elim
    |ok iq=>
     obtain⟨i,q5⟩:=iq;have HL:Hid (r=bD L C.ts lv k (aQ (aO C.ts q).text (aO C.ts q).line [] [a,i]) q5):=HR4.out;clear HR4;go_wp2_with fail;go_region_law (go_simp;refine HX.out.mono ?_;rintro e w5 ⟨hf5,hp5,v5,rfl,hn5⟩;obtain⟨T5,cs5,rfl⟩:=hn5.form;have HN5:=aB hn5;have HF5:=aB hf5;have HA5:=aB hp5;have HP5:=aB (((Fr.refl C.pb w4).drew.trans hf5).keepB HP4.out (by omega));have d0:=aA HP5.out (i:=0) rfl;have hz5:=aD HP5.out;clear hf5 hp5 hn5)
     all_goals
      go_wp2_with fail;go_roundg k
      case measure=>omega
      case rel=>
       have hs5:=HF5.out.size
       exact⟨HF4.out.drew.trans HF5.out,q5,_,HA5.out,HL.out,PN.mk (Or.inr (Or.inr (Or.inr (Or.inr (Or.inr (Or.inr (Or.inr (Or.inr (Or.inl ⟨rfl,pl,_,_,a,i,by rw[HOO.out];rfl,HLO.out,rfl,rfl⟩))))))))) (fun p hp=>by
        simp only[p8,s7,or_false] at hp;rcases hp with rfl|rfl
        ·exact Prt.ok.node (HN4.out.grow (fun k h1 h2=>HF5.out.block k h2 (by omega)) (l9 _) hs5)
        ·exact Prt.ok.node (HN5.out.grow (fun _ _ _=>rfl) (by have:=HF4.out.size;exact this) (l9 _))),HP5.out⟩
theorem oX(C:Ctx)(L:Nat->bS aC)(F:Nat)(hcf:∀args w,Sem.run prog (callFunc F args) w=.ok (.enter F args) w)(HF:PReads C F L)(lv:Nat)(h2:lv≠2)(h9:lv≠9)(ops:List (List UInt8))(hops:∀x,x∈ops↔bV x=lv)(hlen:ops.length<=100)(w:World)(p:Nat)(h:PAt C w p)(n:Nat)(hn:n=ops.length)(cs:Array Value)(hcs:cs=(ops.map fun x=>Value.string (bs x)).toArray)
 (hne:bO (L p) (bD L C.ts lv (C.ts.length+1))≠.error 0):
 Calls prog 227 #[.pointer (some ⟨C.pb,0,none⟩),.func (.func F) #[.pointer (some ⟨C.pb,0,none⟩)] #[],.slice (some ⟨w.heap.size,0,none⟩) n n] (w.alloc (.cells cs 9)) (GJ C w (bO (L p) (bD L C.ts lv (C.ts.length+1)))):=by
 subst hn;have hpb:=h.pb_lt;refine(B3 C L F hcf HF lv h2 h9 ops hops hlen _ p (h.alloc _) w.heap.size ops.length (by simp) (by omega) ?_ hne).mono fun e w' ⟨h1,h2⟩=>⟨((Fr.refl _ _).alloc _).trans h1,?_⟩
 ·intro i hi;refine aA (aT _ _ rfl _) ?_;rw[hcs];simp[hi]
 ·cases hb:bO (L p) (bD L C.ts lv (C.ts.length+1)) with
  |error l=>rw[hb] at h2;exact h2
  |ok aq=>
   rw[hb] at h2;obtain⟨hp,v,hv,hn⟩:=h2;exact⟨hp,v,hv,hn.grow (fun _ _ _=>rfl) (by simp) (l9 _)⟩
theorem WA(fn:Fn)(a b:Array Value)(w:World):(Instr.makeFunc fn a b).run prog w=.ok (.func fn a b) w:=rfl
theorem NV(C:Ctx)(L:Nat->bS aC)(HL:PReads C 345 L):PReads C 336 (fun p=>bO (L p) (bD L C.ts 4 (C.ts.length+1))):=by
 intro w p h hne;have HC:=aB (oX C L 345 (fun _ _=>rfl) HL 4 (by decide) (by decide) [[42],[47],[37]] j4 (by decide) w p h 3 rfl #[.string ⟨#[42]⟩,.string ⟨#[47]⟩,.string ⟨#[37]⟩] rfl hne)
 have hmf:=WA;show Calls _ _ _ _ (GJ C w (bO (L p) (bD L C.ts 4 (C.ts.length+1))))
 generalize bO (L p) (bD L C.ts 4 (C.ts.length+1))=r at*;clear h hne HL;go_enter Tryz.func336,Tryz.ntmps336;go_wp2_with fail;refine HC.out.mono ?_;rintro e w1 ⟨hf1,ho1⟩;cases r with
 |error l=>
  obtain rfl:e=dC 4 l:=ho1;have HF1:=aB hf1;clear hf1 hmf;go_wp2_with fail;exact⟨rfl,Out.err rfl HF1.out⟩
 |ok aq=>
  obtain⟨a,q⟩:=aq;obtain⟨hp1,v1,rfl,hn1⟩:=ho1;have HF1:=aB hf1;have HP1:=aB hp1;have HN1:=aB hn1;clear hf1 hp1 hn1 hmf;go_wp2_with fail;go_ret;exact Out.ok rfl HF1.out HP1.out HN1.out
theorem O2(C:Ctx)(L:Nat->bS aC)(HL:PReads C 336 L):PReads C 323 (fun p=>bO (L p) (bD L C.ts 3 (C.ts.length+1))):=by
 intro w p h hne;have HC:=aB (oX C L 336 (fun _ _=>rfl) HL 3 (by decide) (by decide) [[43],[45]] j5 (by decide) w p h 2 rfl #[.string ⟨#[43]⟩,.string ⟨#[45]⟩] rfl hne)
 have hmf:=WA;show Calls _ _ _ _ (GJ C w (bO (L p) (bD L C.ts 3 (C.ts.length+1))))
 generalize bO (L p) (bD L C.ts 3 (C.ts.length+1))=r at*;clear h hne HL;go_enter Tryz.func323,Tryz.ntmps323;go_wp2_with fail;refine HC.out.mono ?_;rintro e w1 ⟨hf1,ho1⟩;cases r with
 |error l=>
  obtain rfl:e=dC 4 l:=ho1;have HF1:=aB hf1;clear hf1 hmf;go_wp2_with fail;exact⟨rfl,Out.err rfl HF1.out⟩
 |ok aq=>
  obtain⟨a,q⟩:=aq;obtain⟨hp1,v1,rfl,hn1⟩:=ho1;have HF1:=aB hf1;have HP1:=aB hp1;have HN1:=aB hn1;clear hf1 hp1 hn1 hmf;go_wp2_with fail;go_ret;exact Out.ok rfl HF1.out HP1.out HN1.out
theorem X0(C:Ctx)(L:Nat->bS aC)(HL:PReads C 285 L):PReads C 228 (fun p=>bO (L p) (bD L C.ts 1 (C.ts.length+1))):=by
 intro w p h hne;have HC:=aB (oX C L 285 (fun _ _=>rfl) HL 1 (by decide) (by decide) [[38,38]] j7 (by decide) w p h 1 rfl #[.string ⟨#[38,38]⟩] rfl hne)
 have hmf:=WA;show Calls _ _ _ _ (GJ C w (bO (L p) (bD L C.ts 1 (C.ts.length+1))))
 generalize bO (L p) (bD L C.ts 1 (C.ts.length+1))=r at*;clear h hne HL;go_enter Tryz.func228,Tryz.ntmps228;go_wp2_with fail;refine HC.out.mono ?_;rintro e w1 ⟨hf1,ho1⟩;cases r with
 |error l=>
  obtain rfl:e=dC 4 l:=ho1;have HF1:=aB hf1;clear hf1 hmf;go_wp2_with fail;exact⟨rfl,Out.err rfl HF1.out⟩
 |ok aq=>
  obtain⟨a,q⟩:=aq;obtain⟨hp1,v1,rfl,hn1⟩:=ho1;have HF1:=aB hf1;have HP1:=aB hp1;have HN1:=aB hn1;clear hf1 hp1 hn1 hmf;go_wp2_with fail;go_ret;exact Out.ok rfl HF1.out HP1.out HN1.out
theorem L1(C:Ctx)(L:Nat->bS aC)(HL:PReads C 228 L):PReads C 164 (fun p=>bO (L p) (bD L C.ts 0 (C.ts.length+1))):=by
 intro w p h hne;have HC:=aB (oX C L 228 (fun _ _=>rfl) HL 0 (by decide) (by decide) [[124,124]] j8 (by decide) w p h 1 rfl #[.string ⟨#[124,124]⟩] rfl hne)
 have hmf:=WA;show Calls _ _ _ _ (GJ C w (bO (L p) (bD L C.ts 0 (C.ts.length+1))))
 generalize bO (L p) (bD L C.ts 0 (C.ts.length+1))=r at*;clear h hne HL;go_enter Tryz.func164,Tryz.ntmps164;go_wp2_with fail;refine HC.out.mono ?_;rintro e w1 ⟨hf1,ho1⟩;cases r with
 |error l=>
  obtain rfl:e=dC 4 l:=ho1;have HF1:=aB hf1;clear hf1 hmf;go_wp2_with fail;exact⟨rfl,Out.err rfl HF1.out⟩
 |ok aq=>
  obtain⟨a,q⟩:=aq;obtain⟨hp1,v1,rfl,hn1⟩:=ho1;have HF1:=aB hf1;have HP1:=aB hp1;have HN1:=aB hn1;clear hf1 hp1 hn1 hmf;go_wp2_with fail;go_ret;exact Out.ok rfl HF1.out HP1.out HN1.out
theorem KF(C:Ctx)(L:Nat->bS aC)(HL:PReads C 323 L):PReads C 285 (fun p=>bO (L p) (bD L C.ts 2 (C.ts.length+1))):=by
 intro w p h hne;have HPL:=aB (mG C w p h);have hne1:L p≠.error 0:=fun e=>hne (by show bO _ _=_;rw[e];rfl)
 have HX:=aB (fun w1 (hb:Below w.heap.size w w1)=>HL w1 p (h.below hb) hne1)
 have HFF:=aB HL;have hpb:=h.pb_lt;obtain⟨r,hr⟩:∃r,r=bO (L p) (bD L C.ts 2 (C.ts.length+1)):=⟨_,rfl⟩;have hne2:r≠.error 0:=hr▸hne;show Calls _ _ _ _ (GJ C w (bO (L p) (bD L C.ts 2 (C.ts.length+1))))
 rw[<-hr];have HR:=aB hr;have HNE:=aB hne2;clear h HL hne hr hne1 hne2;generalize (aO C.ts p).line=pl at*;cases hpr:L p with
 |error l=>
  have HL:Hid (r=.error l):=by show _=_;rw[HR.out,hpr];rfl
  rw[hpr] at HX;clear hpr HR;go_enter Tryz.func285,Tryz.ntmps285;go_wp2_with fail;refine HPL.out.mono ?_;rintro e w1 ⟨rfl,hb1⟩;have HB1:=aB hb1;clear hb1;go_wp2_with fail;refine(HX.out w1 HB1.out).mono ?_;rintro e w2 ⟨hf2,rfl⟩;have HF2:=aB ((Fr.below HB1.out).trans hf2);clear hf2;go_wp2_with fail;exact⟨rfl,Out.err HL.out HF2.out⟩
 |ok aq=>
  obtain⟨a,q⟩:=aq;have hr3:r=bD L C.ts 2 (C.ts.length+1) a q:=by rw[HR.out,hpr];rfl
  rw[hpr] at HX;clear hpr HR;have HR3:=aB hr3;clear hr3;go_enter Tryz.func285,Tryz.ntmps285;go_wp2_with fail;refine HPL.out.mono ?_;rintro e w1 ⟨rfl,hb1⟩;have HB1:=aB hb1;clear hb1;go_wp2_with fail;refine(HX.out w1 HB1.out).mono ?_;rintro e w2 ⟨hf2,hp2,v2,rfl,hn2⟩;have hs1:=HB1.out.size;have hs2:=hf2.size;have HN3:=aB (hn2.grow (lo':=w.heap.size) (w':=w2.alloc (.cells #[.int .i64 pl] 209)) (hi':=w2.heap.size+1) (fun k _ h2=>o9 _ _ _ h2) hs1 (by simp))
  have HF3:=aB (((Fr.below HB1.out).trans hf2).alloc (.cells #[.int .i64 pl] 209));have HP3:=aB (N6.new w2 pl);have HA3:=aB (hp2.alloc (.cells #[.int .i64 pl] 209));obtain⟨T3,cs3,rfl⟩:=hn2.form;have HO:=aB (xS (hp2.tsk.tk q hp2.lt) 2 (by decide) [[61,61],[33,61],[60],[60,61]] j6)
  clear hf2 hp2 hn2 HX HPL HB1;generalize hoo:nF C.ts q [[61,61],[33,61],[60],[60,61]]=oo at*;have HM:=aB (ID C _ q HA3.out [[61,61],[33,61],[60],[60,61]] (by decide) (by intro x hx;simp at hx;rcases hx with rfl|rfl|rfl|rfl<;>simp) oo hoo (w2.heap.size+1) (by simp) 4 rfl #[.string ⟨#[61,61]⟩,.string ⟨#[33,61]⟩,.string ⟨#[60]⟩,.string ⟨#[60,61]⟩] rfl)
  generalize hqo:(if oo=[] then q else q+1)=qo at*
  have HQO:=aB hqo;clear hqo hoo;cases hit:((aO C.ts q).sort==112 && bV (aO C.ts q).text==2)
  ·have HL:Hid (r=.ok (a,q)):=by show _=_;rw[HR3.out];exact J9 hit
   obtain rfl:oo=[]:=by rw[HO.out,hit];rfl
   obtain rfl:q=qo:=HQO.out;clear hit HR3 HO HQO;simp only[bs] at HM;go_wp2_with fail;refine HM.out.mono ?_;rintro e w4 ⟨rfl,hp4,hf4⟩;have HF4:=aB hf4;have HP4:=aB hp4;have hs4:=hf4.size;simp at hs4;clear hf4 hp4;go_wp2_with fail;go_ret;exact Out.ok HL.out (HF3.out.trans HF4.out) HP4.out (HN3.out.grow (fun k h1 h2=>HF4.out.block k (by simpa using h2) (by omega)) (l9 _) (by omega))
  ·obtain⟨rE,hrE⟩:∃rE,rE=L (q+1):=⟨_,rfl⟩
   have HR4:Hid (r=bU (fun b=>aQ (aO C.ts q).text (aO C.ts q).line [] [a,b]) rE):=by
    show _=_
    rw[HR3.out,bD,if_pos hit,hrE];cases L (q+1)<;>rfl
   have hoo:oo=(aO C.ts q).text:=by rw[HO.out,hit];rfl
   have hit':(aO C.ts q).sort=112/\bV (aO C.ts q).text=2:=by simpa using hit
   have hon:oo≠[]:=by
    intro e;rw[<-hoo,e] at hit';exact absurd hit'.2 (by decide)
   have HLO:Hid (bV (aO C.ts q).text≠9):=by show _≠_;rw[hit'.2];decide
   obtain rfl:q+1=qo:=by rw[<-HQO.out,if_neg hon]
   have hE0:L (q+1)≠.error 0:=fun e=>HNE.out (by rw[HR4.out,hrE,e];rfl)
   have hoe:(bs oo).toList.isEmpty=false:=by
    rw[cB];cases oo with
    |nil=>exact absurd rfl hon
    |cons x l=>rfl
   have HRE:=aB hrE;have HOO:=aB hoo;clear hit HR3 hrE HO HQO hit' hoo;go_wp2_with fail;refine HM.out.mono ?_;rintro e w4 ⟨rfl,hp4,hf4⟩;have HX:=aB (HFF.out w4.drew (q+1) hp4.drew hE0);rw[<-HRE.out] at HX;have hs4:=hf4.size;simp at hs4;have HN4:=aB (HN3.out.grow (lo':=w.heap.size) (hi':=w4.heap.size) (fun k h1 h2=>hf4.block k (by simpa using h2) (by omega)) (l9 _) (by omega))
   have HP4:=aB (hf4.keepB HP3.out (by omega))
   have HF4:=aB (HF3.out.trans hf4);have c0:=aA HP4.out (i:=0) rfl;have hz4:=aD HP4.out;clear hf4 hp4 HN3 HP3 HF3 HM hE0 hon;cases rE with
   |error l=>
    have HL:Hid (r=.error l):=HR4.out;go_wp2_with fail;go_region_law (refine thrown .nilIface ?_ ?_;(focus go_simp;go_at_call 323;refine HX.out.mono ?_;rintro e w5 ⟨hf5,rfl⟩;exact And.intro rfl (Out.err HL.out (HF4.out.drew.trans hf5)));intro hfalse)
    all_goals exact hfalse.out.elim
   |ok iq=>
    obtain⟨i,q5⟩:=iq;have HL:Hid (r=.ok (aQ (aO C.ts q).text (aO C.ts q).line [] [a,i],q5)):=HR4.out;clear HR4;go_wp2_with fail;go_region_law (go_simp;go_at_call 323;refine HX.out.mono ?_;rintro e w5 ⟨hf5,hp5,v5,rfl,hn5⟩;obtain⟨T5,cs5,rfl⟩:=hn5.form;have HN5:=aB hn5;have HF5:=aB hf5;have HA5:=aB hp5;have HP5:=aB (((Fr.refl C.pb w4).drew.trans hf5).keepB HP4.out (by omega));have d0:=aA HP5.out (i:=0) rfl;have hz5:=aD HP5.out;clear hf5 hp5 hn5)
    all_goals (go_wp2_with fail;go_ret)
    all_goals exact Out.ok HL.out (HF4.out.drew.trans HF5.out) HA5.out (PN.mk (Or.inr (Or.inr (Or.inr (Or.inr (Or.inr (Or.inr (Or.inr (Or.inr (Or.inl ⟨rfl,pl,_,_,a,i,by rw[HOO.out];rfl,HLO.out,rfl,rfl⟩))))))))) (fun p hp=>by
     simp only[p8,s7,or_false] at hp;rcases hp with rfl|rfl
     ·exact Prt.ok.node (HN4.out.grow (fun k h1 h2=>HF5.out.block k h2 (by omega)) (l9 _) HF5.out.size)
     ·exact Prt.ok.node (HN5.out.grow (fun _ _ _=>rfl) (by have:=HF4.out.size;exact this) (l9 _))))
theorem IT(C:Ctx):∀f,PReads C 164 (fD C.ts f)
 |0=>fun _ _ _ hne=>absurd rfl hne
 |f+1=>fun w p h hne=>L1 C (fP (fD C.ts f) C.ts 4) (X0 C (fP (fD C.ts f) C.ts 3) (KF C (fP (fD C.ts f) C.ts 2) (O2 C (fP (fD C.ts f) C.ts 1) (NV C (fP (fD C.ts f) C.ts 0) (WS C (fD C.ts f) (IT C f) (C.ts.length+1)))))) w p h hne
end Go.Proofs.YtblbkfdhjfppkaaGreatDoor
