/- All states of a run: plain facts that its being in memory needs. -/
import Derived.Test.YtblbkfdhjfppkaaGreatDoorP01
import Derived.Test.YtblbkfdhjfppkaaGreatDoorP29
import Derived.Test.YtblbkfdhjfppkaaGreatDoorP28
set_option maxRecDepth 100000
set_option maxHeartbeats 4000000
namespace Go.Proofs.YtblbkfdhjfppkaaGreatDoor
open Hs
open Go.RowKit
theorem rN:∀(l:List aI) (a v:aI),(cF l a v).2≤9
 |[],_,_=>by simp[cF]
 |i::l,a,v=>by
  unfold cF;have:=rN l (a.l.getD i.n.toNat bK) v;repeat' split
  all_goals first|(simp;done)|exact this
theorem wI{r:aI × Nat}(h:r.2≤9):(gO r).2≤9:=by
 unfold gO;split
 ·split
  ·simp
  ·exact h
 ·exact h
theorem UJ(op:List UInt8)(a b:aI):(eG op a b).2≤9:=by
 unfold eG iL iK;repeat' split
 all_goals first|(simp;done)|(simp only[];split<;>simp)
theorem VV(op:List UInt8)(a:aI):(fB op a).2≤9:=by
 unfold fB;repeat' split
 all_goals simp
theorem MS(a b:aI):(cV a b).2≤9:=by
 unfold cV;repeat' split
 all_goals simp
theorem IR(a:aI):(dT a).2≤9:=by
 unfold dT;repeat' split
 all_goals simp
theorem IX(i:aH)(f:aK):(aN i f).2≤9:=by
 cases i<;>simp only[aN]
 case assign k n=>
  have:=wI (rN (f.pop.many n) (f.vars[k]?.getD bK) f.last);split
  ·simp
  ·exact this
 case unary op=>
  have:=VV (op++[120]) f.last;split
  ·simp
  ·exact this
 case binary op=>
  have:=UJ op f.pop.last f.last;split
  ·simp
  ·exact this
 case index=>
  have:=MS f.pop.last f.last;split
  ·simp
  ·exact this
 case list n=>
  have:=wI (r:=(aU (f.many n),0)) (by simp)
  split
  ·simp
  ·exact this
 case length=>
  have:=IR f.last;split
  ·simp
  ·exact this
 all_goals (repeat' split)<;>simp
theorem D9(tab:List eJ)(i:aH)(below:List aK)(f:aK)(t:List Int)(o:List (List UInt8)):(cC tab i below f t o).2≤9:=by
 cases i<;>simp only[cC]<;>first|exact IX _ _|skip
 case read=>cases t<;>simp
 case call=>split<;>simp
 case give=>simp
 case print=>split<;>simp
structure Rest(n:Nat)(m:cM):Prop where
 utf:fL m
 out:m.out.length≤50
 tape:m.tape.length≤n
theorem oS{tab:List eJ}(ht:iW tab){n:Nat}:∀(k:Nat) (m:cM) (r:cM × Nat),Rest n m→dN tab k m=some r→Rest n r.1∧r.2≤9
 |0,_,_,_,h=>by cases h
 |k+1,m,r,hm,h=>by
  rw[dN] at h;cases hl:m.frames.getLast? with
  |none=>
   rw[hl] at h;simp only[Option.some.injEq] at h;subst h;exact⟨hm,by simp⟩
  |some f=>
   rw[hl] at h;simp only at h;cases hf:f.fetch with
   |none=>rw[hf] at h;cases h
   |some ig=>
    obtain⟨i,g⟩:=ig;rw[hf] at h;simp only at h
    have hfr:m.frames=m.frames.dropLast++[f]:=by
     obtain⟨ys,hy⟩:=List.getLast?_eq_some_iff.1 hl;rw[hy];simp
    have hutf:fL ⟨m.frames.dropLast++[f],m.tape,m.out⟩:=by
     have:=hm.utf;unfold fL at this ⊢
     rw[←hfr];exact this
    have hr:Rest n (cC tab i m.frames.dropLast g m.tape m.out).1:=⟨BT ht hutf hf,TT hm.out,Nat.le_trans NS hm.tape⟩;have hs:=D9 tab i m.frames.dropLast g m.tape m.out;split at h
    ·simp only[Option.some.injEq] at h;subst h;exact⟨hr,hs⟩
    ·split at h
     ·simp only[Option.some.injEq] at h;subst h;exact⟨hr,hs⟩
     ·exact oS ht k _ _ hr h
theorem ER{tab:List eJ}(ht:iW tab){n:Nat}{m0:cM}(h0:Rest n m0):∀(t:Nat) (s:bW),fG tab m0 t=some s→Rest n s.m∧s.stop≤9
 |0,s,h=>by
  rw[fG] at h;cases hr:dN tab iZ m0 with
  |none=>rw[hr] at h;cases h
  |some r=>
   rw[hr] at h;simp only[Option.map_some,Option.some.injEq] at h;subst h;obtain⟨h1,h2⟩:=oS ht _ _ _ h0 hr;exact⟨h1,by simp only[bQ];split<;>omega⟩
 |t+1,s,h=>by
  rw[fG] at h;cases hs:fG tab m0 t with
  |none=>rw[hs] at h;cases h
  |some s0=>
   rw[hs] at h;simp only at h;split at h
   ·cases hr:dN tab iZ s0.m with
    |none=>rw[hr] at h;cases h
    |some r=>
     rw[hr] at h;simp only[Option.map_some,Option.some.injEq] at h;subst h;obtain⟨h1,h2⟩:=oS ht _ _ _ (ER ht h0 t s0 hs).1 hr;exact⟨h1,by simp only[bQ];split<;>omega⟩
   ·cases h
theorem XY(s:ByteArray)(w:World)(hs:s.size≤281474976710656):Calls Tryz.prog 69 #[.string s] w fun e w'=>e=.returned (.string s)∧Below w.heap.size w w':=by
 have HC:=aB (Tryz.stringslite_Clone s w hs);go_enter Tryz.func69,Tryz.ntmps69;go_wp2_with fail;refine HC.out.mono ?_;rintro e w1 ⟨rfl,hb⟩;have HB:=aB hb;clear hb;go_wp2_with fail;go_ret;exact⟨rfl,HB.out⟩
theorem PP(src:ByteArray)(b p:Nat)(w:World)(hT:kJ w)(hs:src.size≤281474976710656)(hb:w.cell? ⟨b,0,none⟩=some (.string src))(hp:w.heap[p]?=some (.cells #[.slice none 0 0] 86 (0,0))):
 Calls Tryz.prog 68 #[.pointer (some ⟨b,0,none⟩),.pointer (some ⟨p,0,none⟩)] w fun e w'=>
  (dF src.data.toList=(0,0)∧e=.returned (.tuple #[])∧∃w1 v ks,Below w.heap.size w w1∧cR src.data.toList=.ok ks∧FSl (Btw w.heap.size w1.heap.size) w1 v ks∧w'=w1.setCell ⟨p,0,none⟩ v)∨
  ((dF src.data.toList).1≠0∧e=cW (dF src.data.toList).1 (dF src.data.toList).2∧Below w.heap.size w w'):=by
 have HC:=aB (XY src w hs);have HR:Hid (∀W,Below w.heap.size w W→Calls Tryz.prog 44 #[.string src] W (EU src.data.toList W)):=fun W hW=>VJ src W (hT.below hW) (by unfold maxLen;omega)
 have HP:=aB hp;have hl:=aD hp;clear hT hp;go_enter Tryz.func68,Tryz.ntmps68;go_wp2_with fail;refine HC.out.mono ?_;rintro e w1 ⟨rfl,hb1⟩;have HRR:=aB (HR.out w1 hb1);have HB1:=aB hb1;clear HR HC hb1;go_wp2_with fail;refine HRR.out.mono ?_;rintro e w2 ⟨hb2,⟨h0,v,ks,rfl,h1,h2⟩|⟨h0,rfl⟩⟩
 ·have hbb:=HB1.out.trans (hb2.mono HB1.out.size);have HP2:w2.heap[p]?=some (.cells #[.slice none 0 0] 86 (0,0)):=by rw[hbb.block _ hl];exact HP.out
  have c0:=aA HP2 (i:=0) rfl;have f0:=aE HP2 (i:=0);have l0:=aD HP2
  obtain⟨x,c,rfl⟩:∃x c,v=.slice x ks.length c:=by
   rcases h2 with ⟨rfl,rfl⟩|⟨g,cap,cur,us,rfl,_⟩
   ·exact⟨none,0,rfl⟩
   ·exact⟨_,_,rfl⟩
  have HF:=aB (And.intro h0 (And.intro h1 (And.intro hbb (h2.grow (G:=Btw w.heap.size w2.heap.size) (fun _ _=>rfl) (fun k hk=>⟨Nat.le_trans HB1.out.size hk.1,hk.2⟩)))))
  clear h0 h1 h2 hb2 hbb HP2 HRR HB1 HP;go_wp2_with fail;go_end0;exact Or.inl ⟨HF.out.1,rfl,w2,_,ks,HF.out.2.2.1,HF.out.2.1,HF.out.2.2.2,rfl⟩
 ·have HF:=aB (And.intro h0 (HB1.out.trans (hb2.mono HB1.out.size)));clear h0 hb2 HRR HB1 HP;go_wp2_with fail;exact⟨rfl,Or.inr ⟨HF.out.1,rfl,HF.out.2⟩⟩
theorem B7(w:World):(Instr.makeMap 112 none).run Tryz.prog w=.ok (.map (some w.heap.size)) (w.alloc (.map #[] 0)):=rfl
theorem MT(w:World)(src:ByteArray)(x:Option Addr)(n c:Nat)(P:Value→World→Prop)(A:World→Prop)(S:Nat→Value→Value→Value→Nat→World→Prop)
 (HF:Hid (Calls Tryz.prog 42 #[.func (.func 68) #[] #[.pointer (some ⟨w.heap.size,0,none⟩),.pointer (some ⟨w.heap.size+1,0,none⟩)]] ((w.alloc (.cells #[.string src] 9)).alloc (.cells #[.slice none 0 0] 86)) fun e w'=>(e=.returned (.tuple #[.int .i64 0,.int .i64 0])∧A w')∨∃k l:Nat,k≠0∧e=.returned (.tuple #[.int .i64 k,.int .i64 l])∧P (.tuple #[.pointer none,.int .i64 k,.int .i64 l]) w'))
 (HM:Hid (∀W,A W→∃px pn pc,W.cell? ⟨w.heap.size+1,0,none⟩=some (.slice px pn pc)∧w.heap.size+1<W.heap.size∧Calls Tryz.prog 70 #[.slice px pn pc,.slice x n c] W fun e w'=>∃(a:Nat) (x1 x2 x3:Option Addr) (n1 n2 n3 c1 c2 c3 q:Nat),e=.returned (.agg #[.int .i64 a,.slice x1 n1 c1,.slice x2 n2 c2,.slice x3 n3 c3,.int .i64 q])∧S a (.slice x1 n1 c1) (.slice x2 n2 c2) (.slice x3 n3 c3) q w'))
 (HK:Hid (∀(a:Nat) (x1 x2 x3:Option Addr) (n1 n2 n3 c1 c2 c3 q:Nat) W,S a (.slice x1 n1 c1) (.slice x2 n2 c2) (.slice x3 n3 c3) q W→Calls Tryz.prog 71 #[.pointer (some ⟨W.heap.size+1,0,none⟩),.agg #[.int .i64 a,.slice x1 n1 c1,.slice x2 n2 c2,.slice x3 n3 c3,.int .i64 q]] ((W.alloc (.map #[] 0)).alloc (.cells #[.int .i64 a,.slice x1 n1 c1,.slice x2 n2 c2,.slice x3 n3 c3,.int .i64 q,.slice none 0 0,.map (some W.heap.size)] 114)) fun e w'=>e=.returned (.tuple #[])∧P (.tuple #[.pointer (some ⟨W.heap.size+1,0,none⟩),.int .i64 0,.int .i64 0]) w')):
 Calls Tryz.prog 32 #[.string src,.slice x n c] w fun e w'=>∃v,e=.returned v∧P v w':=by
 have hmf:=B8;have hmm:=B7;go_enter Tryz.func32,Tryz.ntmps32;go_wp2_with fail;refine HF.out.mono ?_;rintro e w1 (⟨rfl,h1⟩|⟨k,l,hk,rfl,h1⟩)
 ·obtain⟨px,pn,pc,q1,q2,q3⟩:=HM.out _ h1;have HS:=aB q3;clear h1 q3 HF HM;go_wp2_with fail;refine HS.out.mono ?_;rintro e w2 ⟨a,x1,x2,x3,n1,n2,n3,c1,c2,c3,q,rfl,h2⟩;have HKK:=aB (HK.out _ _ _ _ _ _ _ _ _ _ _ _ h2);clear h2 HK HS q1;go_wp2_with fail;refine HKK.out.mono ?_;rintro e w3 ⟨rfl,h3⟩;have H3:=aB h3;clear h3;go_wp2_with fail;go_ret3
  exact⟨_,rfl,H3.out⟩
 ·have H1:=aB h1;have hk':¬(k:Int)=0:=by omega
  clear h1 HF HM HK;go_wp2_with fail;go_ret3
  exact⟨_,rfl,H1.out⟩
structure Good(ks:List aC):Prop where
 fl:ks.length≤90000
 ok:∀f∈ks,jG ks 2001 f
 lit:∀f∈ks,∀k∈f.kids,lO k
 kl:∀f∈ks,f.kids.length≤90000
 main:fI ks (cU ks [109,97,105,110])=some 0
 utf:iW (dK ks 2001)
noncomputable def dB(ks:List aC)(tape:List Int):Nat→Option bW:=fG (dK ks 2001) (gG ks 2001 tape)
theorem Good.rest0{ks:List aC}(h:Good ks)(tape:List Int):Rest tape.length (gG ks 2001 tape):=by
 refine⟨?_,by simp[gG],by simp[gG]⟩
 intro f hf;simp only[gG,List.mem_singleton] at hf;subst hf;refine⟨?_,fun v hv=>by simp at hv,fun v hv=>by simp at hv⟩
 show tY ((dK ks 2001)[cU ks [109,97,105,110]]?.getD ⟨[],[]⟩)
 cases hx:(dK ks 2001)[cU ks [109,97,105,110]]? with
 |none=>exact⟨fun v hv=>by simp at hv,fun v hv=>by simp at hv⟩
 |some f=>exact h.utf f (List.mem_of_getElem? hx)
theorem Good.first{ks:List aC}(h:Good ks)(tape:List Int):∃r,dN (dK ks 2001) iZ (gG ks 2001 tape)=some r∧r.2≤9∧dB ks tape 0=some ⟨0,r.1,bQ 0 r.2⟩:=by
 obtain⟨r,hr,_⟩:=nO (kP h.ok) (sI h.ok h.main tape);exact⟨r,hr,(oS h.utf _ _ _ (h.rest0 tape) hr).2,by simp[dB,fG,hr]⟩
theorem N7(a b:Value)(W:World):(callFunc 68 #[a,b]).run Tryz.prog W=.ok (.enter 68 #[a,b]) W:=by kernel_rfl
def F1(src:List UInt8)(tape:List Int)(w:World)(v:Value)(w':World):Prop:=
 Below w.heap.size w w'∧
 ((dF src=(0,0)∧∃ks fp G sb mb,cR src=.ok ks∧v=.tuple #[.pointer (some ⟨sb,0,none⟩),.int .i64 0,.int .i64 0]∧w.heap.size≤sb∧w.heap.size≤mb∧kH fp G w' (dK ks 2001)∧∃s,kA fp G w' sb mb (.map #[] 0) (dB ks tape) s 1∧s.time=0)∨
  ((dF src).1≠0∧v=.tuple #[.pointer none,.int .i64 (dF src).1,.int .i64 (dF src).2]))
theorem RQ(src:ByteArray)(tv:Value)(tape:List Int)(w:World)(hT:kJ w)(hp:kI w)(hs:src.size≤281474976710656)(ht:TX w tv tape)(htl:tape.length≤1000000)
 (hg:∀ks,cR src.data.toList=.ok ks→dF src.data.toList=(0,0)→Good ks):
 Calls Tryz.prog 32 #[.string src,tv] w fun e w'=>∃v,e=.returned v∧F1 src.data.toList tape w v w':=by
 obtain⟨tx,tn,tc,rfl⟩:∃x n c,tv=.slice x n c:=by
  rcases ht with ⟨_,rfl⟩|⟨g,o,c,rfl,_⟩
  ·exact⟨_,_,_,rfl⟩
  ·exact⟨_,_,_,rfl⟩
 obtain⟨w2,hw2⟩:∃w2,w2=(w.alloc (.cells #[.string src] 9)).alloc (.cells #[.slice none 0 0] 86):=⟨_,rfl⟩;have hb2:Below w.heap.size w w2:=by rw[hw2];exact((Below.refl _ _).alloc (Nat.le_refl _) _).alloc (by simp) _
 have hs2:w2.heap.size=w.heap.size+2:=by rw[hw2];simp
 have hB0:w2.heap[w.heap.size]?=some (.cells #[.string src] 9 (0,0)):=by rw[hw2];exact nI _ _ _
 have hB1:w2.heap[w.heap.size+1]?=some (.cells #[.slice none 0 0] 86 (0,0)):=by rw[hw2];exact kR _ _ _
 generalize hrd:dF src.data.toList=rd at*
 refine(MT w src tx tn tc (fun v w'=>F1 src.data.toList tape w v w')
  (fun W=>rd=(0,0)∧∃lo px pn pc ks,cR src.data.toList=.ok ks∧Below w.heap.size w W∧W.cell? ⟨w.heap.size+1,0,none⟩=some (.slice px pn pc)∧w.heap.size+1<W.heap.size∧FSl (Btw lo W.heap.size) W (.slice px pn pc) ks)
  (fun a v1 v2 v3 q W=>rd=(0,0)∧∃(ks:List aC) (fp:Nat→Value) (G:Nat→Prop) (r:cM × Nat),cR src.data.toList=.ok ks∧Below w.heap.size w W∧(∀b,G b→b<W.heap.size)∧kH fp G W (dK ks 2001)∧a=0∧q=bQ 0 r.2∧mX fp G W (.agg #[.int .i64 ((0:Nat):Int),v1,v2,v3,.int .i64 (bQ 0 r.2)]) ⟨0,r.1,bQ 0 r.2⟩∧dB ks tape 0=some ⟨0,r.1,bQ 0 r.2⟩)
  ?_ (fun W hA=>?_) (fun a x1 x2 x3 n1 n2 n3 c1 c2 c3 q W hS=>?_))
 ·show Calls _ _ _ _ _
  rw[←hw2]
  refine(ND 68 (some ⟨w.heap.size,0,none⟩) (some ⟨w.heap.size+1,0,none⟩) w2
   (fun W=>rd=(0,0)∧∃px pn pc ks w1,cR src.data.toList=.ok ks∧Below (w2.heap.size+2) ((w2.alloc (.cells #[.int .i64 0] 22)).alloc (.cells #[.int .i64 0] 3)) w1∧FSl (Btw (w2.heap.size+2) w1.heap.size) w1 (.slice px pn pc) ks∧W=w1.setCell ⟨w.heap.size+1,0,none⟩ (.slice px pn pc))
   (fun k l=>rd=(k,l)) (fun W=>N7 _ _ W) (fun W hW=>?_)).mono ?_
  ·have hbW:Below w2.heap.size w2 W:=by rw[hW];exact((Below.refl _ _).alloc (Nat.le_refl _) _).alloc (by simp) _
   have hsW:W.heap.size=w2.heap.size+2:=by rw[hW];simp
   have hK:W.heap[w2.heap.size]?=some (.cells #[.int .i64 0] 22 (0,0)):=by rw[hW];exact nI _ _ _
   have hI:W.heap[w2.heap.size+1]?=some (.cells #[.int .i64 0] 3 (0,0)):=by rw[hW];exact kR _ _ _
   refine(PP src w.heap.size (w.heap.size+1) W ((hT.below hb2).below hbW) hs (aA (by rw[hbW.block _ (by omega)];exact hB0) rfl) (by rw[hbW.block _ (by omega)];exact hB1)).mono ?_
   rintro e w' (⟨h0,he,w1,v,ks,h1,h2,h3,h4⟩|⟨h0,he,h1⟩)
   ·obtain⟨px,pc,rfl⟩:∃x c,v=.slice x ks.length c:=by
     rcases h3 with ⟨rfl,rfl⟩|⟨g,cap,cur,us,rfl,_⟩
     ·exact⟨none,0,rfl⟩
     ·exact⟨_,_,rfl⟩
    have hne:∀k,w2.heap.size≤k→k<W.heap.size→w'.heap[k]?=W.heap[k]?:=fun k hk hk'=>by
     rw[h4,Below.heap_setCell _ _ _ _ (show k≠w.heap.size+1 by omega),h1.block k hk']
    refine Or.inl ⟨he,by rw[hne _ (Nat.le_refl _) (by omega)];exact hK,by rw[hne _ (by omega) (by omega)];exact hI,by rw[←hrd];exact h0,px,_,pc,ks,w1,h2,?_,?_,h4⟩
    ·rw[←hW,←hsW];exact h1
    ·rw[←hsW];exact h3
   ·refine Or.inr ⟨_,_,h0,he,h1,?_⟩;rw[←hrd]
  ·rintro e w' (⟨he,w1,⟨h0,px,pn,pc,ks,w0,h1,h2,h3,h4⟩,h5⟩|⟨k,l,hk,he,hb,hE⟩)
   ·refine Or.inl ⟨he,h0,w2.heap.size+2,px,pn,pc,ks,h1,?_⟩;have hb0:Below w.heap.size w w0:=hb2.trans ((((Below.refl w2.heap.size w2).alloc (Nat.le_refl _) _).alloc (by simp) _).mono (by omega) |>.trans (h2.mono (by omega)))
    have hsz:w'.heap.size=w0.heap.size:=by rw[h5,h4];simp
    have hs0:=h2.size;simp only[World.size_alloc] at hs0
    have hkk:∀k,k≠w.heap.size+1→k≠w2.heap.size→k≠w2.heap.size+1→w'.heap[k]?=w0.heap[k]?:=fun k q1 q2 q3=>by
     rw[h5,Below.heap_setCell _ _ _ _ (show k≠w2.heap.size+1 from q3),Below.heap_setCell _ _ _ _ (show k≠w2.heap.size from q2),h4,Below.heap_setCell _ _ _ _ (show k≠w.heap.size+1 from q1)]
    have hB:w'.heap[w.heap.size+1]?=some (.cells #[.slice px pn pc] 86 (0,0)):=by
     rw[h5,Below.heap_setCell _ _ _ _ (show w.heap.size+1≠w2.heap.size+1 by omega),Below.heap_setCell _ _ _ _ (show w.heap.size+1≠w2.heap.size by omega),h4]
     have:w0.heap[w.heap.size+1]?=some (.cells #[.slice none 0 0] 86 (0,0)):=by
      rw[h2.block _ (by omega),Below.heap_alloc _ _ _ (by simp;omega),Below.heap_alloc _ _ _ (by omega)];exact hB1
     rw[aQ this];rfl
    refine⟨?_,aA hB rfl,by omega,?_⟩
    ·rw[h5,h4];exact((hb0.setCell (show w.heap.size≤w.heap.size+1 by omega) _).setCell (show w.heap.size≤w2.heap.size by omega) _).setCell (show w.heap.size≤w2.heap.size+1 by omega) _
    ·exact h3.grow (fun b hb=>hkk b (by have:=hb.1;omega) (by have:=hb.1;omega) (by have:=hb.1;omega)) (fun b hb=>⟨hb.1,by rw[hsz];exact hb.2⟩)
   ·refine Or.inr ⟨k,l,hk,he,hb2.trans (hb.mono (by omega)),Or.inr ?_⟩
    rw[hrd,hE];exact⟨hk,rfl⟩
 ·obtain⟨h0,lo,px,pn,pc,ks,h1,h2,h3,h4,h5⟩:=hA;refine⟨px,pn,pc,h3,h4,?_⟩;have hgood:=hg ks h1 h0;obtain⟨r,hr1,hr2,hr3⟩:=hgood.first tape
  refine(QV (lo:=lo) (d:=2001) _ _ W h5 hgood.fl hgood.ok hgood.lit hgood.kl hgood.main ?_ htl (hp.below h2) hgood.utf hr1 (by omega)).mono ?_
  ·rcases ht with ht|⟨g,o,c,e,hgl,hc⟩
   ·exact Or.inl ht
   ·exact Or.inr ⟨g,o,c,e,Nat.lt_of_lt_of_le hgl h2.size,fun i hi=>⟨(h2.cell (p:=⟨g,o+i,none⟩) hgl).trans (hc i hi).1,(hc i hi).2⟩⟩
  ·rintro e w' ⟨v',he,hb,fp,G,hG,hTab,hSt⟩;obtain⟨f',t',o',rfl,⟨x1,n1,c1,rfl⟩,⟨x2,n2,c2,rfl⟩,⟨x3,n3,c3,rfl⟩⟩:=hSt.form;exact⟨0,x1,x2,x3,n1,n2,n3,c1,c2,c3,_,he,h0,ks,fp,G,r,h1,h2.trans (hb.mono h2.size),hG,hTab,rfl,rfl,hSt,hr3⟩
 ·obtain⟨h0,ks,fp,G,r,h1,h2,hG,hTab,rfl,rfl,hSt,hst0⟩:=hS;obtain⟨W',hW'⟩:∃W',W'=(W.alloc (.map #[] 0)).alloc (.cells #[.int .i64 ((0:Nat):Int),.slice x1 n1 c1,.slice x2 n2 c2,.slice x3 n3 c3,.int .i64 (bQ 0 r.2),.slice none 0 0,.map (some W.heap.size)] 114):=⟨_,rfl⟩;have hbW:Below W.heap.size W W':=by rw[hW'];exact((Below.refl _ _).alloc (Nat.le_refl _) _).alloc (by simp) _
  have hsW:W'.heap.size=W.heap.size+2:=by rw[hW'];simp
  have hM:W'.heap[W.heap.size]?=some (.map #[] 0):=by rw[hW'];exact nI _ _ _
  have hB:W'.heap[W.heap.size+1]?=some (.cells #[.int .i64 ((0:Nat):Int),.slice x1 n1 c1,.slice x2 n2 c2,.slice x3 n3 c3,.int .i64 (bQ 0 r.2),.slice none 0 0,.map (some W.heap.size)] 114 (0,0)):=by rw[hW'];exact kR _ _ _
  rw[←hW'];have hStW:=hSt.keep (fun k hk=>hbW.block k (hG k hk)) fun _ h=>h
  have hses:kA fp G W' (W.heap.size+1) W.heap.size (.map #[] 0) (dB ks tape) ⟨0,r.1,bQ 0 r.2⟩ 0:=by
   refine⟨⟨_,_,_,.slice none 0 0,[],hB,hStW,World.ownsRow_nil _ _ _ _,rfl,fun i hi=>by simp at hi,fun k hk e=>?_,fun e=>?_⟩,hst0,fun k hk=>?_,hM,by omega⟩
   ·simp[Value.ownBlock] at e
   ·simp[Value.ownBlock] at e
   ·have:=hG k hk;exact⟨by omega,by omega,by omega⟩
  refine(ES hses _ ⟨0,r.1,bQ 0 r.2⟩ hStW hst0 (fun _=>by simp) (by omega) (by simp)).mono ?_
  rintro e w' ⟨he,hf,hs'⟩;have hTabW:=hTab.keep (fun k hk=>hbW.block k (hG k hk)) (fun _ h=>h)
  refine⟨he,?_,Or.inl ⟨by rw[hrd];exact h0,ks,fp,G,W.heap.size+1,W.heap.size,h1,rfl,by have:=h2.size;omega,h2.size,?_,⟨0,r.1,bQ 0 r.2⟩,by simpa using hs',rfl⟩⟩
  ·have hbb:Below w.heap.size w W':=h2.trans (hbW.mono h2.size);have hrow:lD (W.heap.size+1) W'=none:=by rw[lJ hB rfl];rfl
   exact⟨hf.os.trans hbb.os,hf.tape.trans hbb.tape,hf.output.trans hbb.output,Nat.le_trans hbb.size hf.size,fun k hk=>by
    have:=h2.size;rw[hf.blk k (by omega) (by omega) (by rw[hrow];simp),hbb.block k hk]⟩
  ·refine hTabW.keep (fun k hk=>?_) fun _ h=>h
   have hrow:lD (W.heap.size+1) W'=none:=by rw[lJ hB rfl];rfl
   have:=hG k hk;exact hf.blk k (by omega) (by omega) (by rw[hrow];simp)
end Go.Proofs.YtblbkfdhjfppkaaGreatDoor
