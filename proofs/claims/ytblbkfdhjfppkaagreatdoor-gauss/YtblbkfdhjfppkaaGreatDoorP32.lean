/- Contracts of the program: the moment is told where there is no frame. -/
import Derived.Test.YtblbkfdhjfppkaaGreatDoorB11
import Derived.Test.YtblbkfdhjfppkaaGreatDoorP31
set_option maxRecDepth 100000
set_option maxHeartbeats 4000000
namespace Go.Proofs.YtblbkfdhjfppkaaGreatDoor
open Hs
open Go.RowKit
def EG(base:Nat)(w:World)(v:Value)(l:List (List UInt8)):Prop:=∃x c,v=.slice x l.length c∧∀i (h:i<l.length),∃g,x=some ⟨g,0,none⟩∧w.cell? ⟨g,i,none⟩=some (.string (bs l[i]))∧base≤g∧g<w.heap.size
theorem EG.keep{base:Nat}{w w':World}{v:Value}{l:List (List UInt8)}(h:EG base w v l)(hb:∀k,base≤k→k<w.heap.size→w'.heap[k]?=w.heap[k]?)(hs:w.heap.size≤w'.heap.size):EG base w' v l:=by
 obtain⟨x,c,h1,h2⟩:=h;refine⟨x,c,h1,fun i hi=>?_⟩
 obtain⟨g,e,h3,h4,h5⟩:=h2 i hi;exact⟨g,e,by rw[World.cell?_of_block (hb g h4 h5)];exact h3,h4,Nat.lt_of_lt_of_le h5 hs⟩
theorem JO{F:Nat→Prop}{w:World}{v:Value}{l:List (List UInt8)}(h:GA F w v l)(hl:l.length≤1000000):
 Calls Tryz.prog 109 #[v] w fun e w'=>∃x n c,e=.returned (.slice x n c)∧EG w.heap.size w' (.slice x n c) l∧Below w.heap.size w w':=by
 rcases h with ⟨rfl,rfl⟩|⟨g,c,cur,rfl,h2,h3,h4,h5⟩
 ·refine(rI w).mono ?_;rintro e w' ⟨rfl,rfl⟩;exact⟨none,0,0,rfl,⟨none,0,rfl,fun i hi=>by simp at hi⟩,Below.refl _ _⟩
 ·refine(rJ g 0 l.length c (lA l) w (by simp[lA]) hl (fun j u hj=>?_) (fun u hu=>?_)).mono ?_
  ·rw[Nat.zero_add];refine aA h3 ?_;rw[←h5,List.getElem?_take] at hj;split at hj
   ·rw[Array.getElem?_toList] at hj;exact hj
   ·cases hj
  ·simp only[lA,List.mem_map] at hu;obtain⟨x,_,rfl⟩:=hu;rfl
  ·rintro e w' ⟨v',rfl,ho,hb⟩;obtain⟨x,c',rfl⟩:=cP ho;refine⟨x,_,c',rfl,⟨x,c',rfl,fun i hi=>?_⟩,hb⟩
   rcases ho.2 with ⟨r1,r2⟩|⟨g',cap',cur',r1,r2,r3,r4⟩
   ·simp only[Value.slice.injEq] at r1;omega
   ·cases r1;refine⟨g',rfl,?_,r2,aD r3⟩;have:=ho.cells (g:=g') rfl i (.string (bs l[i])) (by simp[lA,hi])
    rw[yL] at this;exact this
theorem PX(w:World)(s:SV)(h:s.n1=0):Calls Tryz.prog 156 #[s.val] w fun e w'=>e=.returned (.pointer none)∧Below w.heap.size w w':=by
 obtain⟨t,x1,x2,x3,n1,n2,n3,c1,c2,c3,q⟩:=s;subst h;unfold SV.val;go_enter Tryz.func156,Tryz.ntmps156;go_wp2_with fail;go_ret;exact⟨rfl,(Below.refl _ _).alloc (Nat.le_refl _) _⟩
theorem UC(w:World)(s:SV)(h:s.n1=0):Calls Tryz.prog 108 #[s.val] w fun e w'=>e=.returned (.slice none 0 0)∧Below w.heap.size w w':=by
 have HS:=aB fun W=>PX W s h
 have HO:=aB fun W=>AnyF.slices_SortFunc_none (P:=Tryz.prog) (ρ:=Tryz.sortL_ren) { Tryz.sortL with } none 0 (.func (.func 160) #[] #[]) W
 obtain⟨t,x1,x2,x3,n1,n2,n3,c1,c2,c3,q⟩:=s;subst h;unfold SV.val at HS;unfold SV.val;go_enter Tryz.func108,Tryz.ntmps108;go_wp2_with fail;refine(HS.out _).mono ?_;rintro e w1 ⟨rfl,hb⟩;have HB:=aB hb;clear hb HS;go_wp2_with fail;go_loopg [3,4] 1 (fun k v s wr=>v=.slice none 0 0∧s=.pointer none∧wr=w1)
 case atStart=>exact⟨rfl,rfl,rfl⟩
 case round=>
  obtain⟨rfl,rfl,rfl⟩:=hrel;go_wp2_with fail;refine(HO.out _).mono ?_;rintro e w2 ⟨rfl,rfl⟩;go_wp2_with fail;go_ret;exact⟨rfl,((Below.refl _ _).alloc (Nat.le_refl _) _).trans (HB.out.mono (by simp))⟩
theorem PQ(w:World)(s:SV)(h:s.n1=0):Calls Tryz.prog 107 #[s.val] w fun e w'=>e=.returned (.slice none 0 0)∧Below w.heap.size w w':=by
 obtain⟨t,x1,x2,x3,n1,n2,n3,c1,c2,c3,q⟩:=s;subst h;unfold SV.val;go_enter Tryz.func107,Tryz.ntmps107;go_wp2_with fail;go_loopg [3,9] 1 (fun k v i wr=>v=.slice none 0 0∧i=.int .i64 0∧Below w.heap.size w wr)
 case atStart=>exact⟨rfl,rfl,(Below.refl _ _).alloc (Nat.le_refl _) _⟩
 case round=>
  obtain⟨rfl,rfl,hb⟩:=hrel;have HB:=aB hb;clear hb;go_wp2_with fail;go_ret;exact⟨rfl,HB.out⟩
theorem A4(w:World)(sb:Nat)(s:SV)(P:SV→World→Prop)(hls:sb<w.heap.size)
 (k0:w.cell? ⟨sb,0,none⟩=some (.int .i64 s.t)) (k1:w.cell? ⟨sb,1,none⟩=some (.slice s.x1 s.n1 s.c1)) (k2:w.cell? ⟨sb,2,none⟩=some (.slice s.x2 s.n2 s.c2)) (k3:w.cell? ⟨sb,3,none⟩=some (.slice s.x3 s.n3 s.c3)) (k4:w.cell? ⟨sb,4,none⟩=some (.int .i64 s.q))
 (HM:Hid (Calls Tryz.prog 60 #[s.val] (w.alloc (.cells #[.int .i64 0,.slice none 0 0,.slice none 0 0,.slice none 0 0,.int .i64 0] 63)) fun e w'=>∃m:SV,e=.returned m.val∧(∃c,w'.heap[w.heap.size]?=some (.cells c 63 (0,0))∧c.size=5)∧P m (eT w' w.heap.size m))):
 Calls Tryz.prog 23 #[.pointer (some ⟨sb,0,none⟩)] w fun e w'=>∃m:SV,e=.returned m.val∧P m w':=by
 unfold SV.val at HM;go_enter Tryz.func23,Tryz.ntmps23;go_wp2_with fail;refine HM.out.mono ?_;rintro e w1 ⟨m,rfl,⟨c,e3,hc⟩,hp⟩;have g0:=aA (i:=0) e3 (Array.getElem?_eq_getElem (by omega))
 have g1:=aA (i:=1) e3 (Array.getElem?_eq_getElem (by omega))
 have g2:=aA (i:=2) e3 (Array.getElem?_eq_getElem (by omega))
 have g3:=aA (i:=3) e3 (Array.getElem?_eq_getElem (by omega))
 have g4:=aA (i:=4) e3 (Array.getElem?_eq_getElem (by omega))
 have f0:=aE (i:=0) e3;have f1:=aE (i:=1) e3;have f2:=aE (i:=2) e3;have f3:=aE (i:=3) e3;have f4:=aE (i:=4) e3;have l3:=aD e3;have hs:=nP (W:=w1) (s:=m) e3 (by omega) rfl
 have HC:=aB hs;have HP:=aB hp;unfold eT at HC HP;clear hs hp e3 HM k0 k1 k2 k3 k4;go_wp2_with fail;have HC':=HC.out;have HP':=HP.out;clear HC HP g0 g1 g2 g3 g4 f0 f1 f2 f3 f4;generalize ((((w1.setCell ⟨w.heap.size,0,none⟩ (.int .i64 m.t)).setCell ⟨w.heap.size,1,none⟩ (.slice m.x1 m.n1 m.c1)).setCell ⟨w.heap.size,2,none⟩ (.slice m.x2 m.n2 m.c2)).setCell ⟨w.heap.size,3,none⟩ (.slice m.x3 m.n3 m.c3)).setCell ⟨w.heap.size,4,none⟩ (.int .i64 m.q)=W3 at HC' HP' ⊢
 obtain⟨c0,c1,c2,c3,c4⟩:=HC';exact bodyPost_ret (v:=.agg #[.int .i64 m.t,.slice m.x1 m.n1 m.c1,.slice m.x2 m.n2 m.c2,.slice m.x3 m.n3 m.c3,.int .i64 m.q]) (by simp[results,Tryz.results23,go_sem,c0,c1,c2,c3,c4]) rfl ⟨m,rfl,HP'⟩
theorem BY{w W:World}{b:Nat}(s:SV)(h:Below w.heap.size w W)(hb:w.heap.size≤b):Below w.heap.size w (eT W b s):=by
 obtain⟨z1,z2,z3,z4⟩:=gU W b s;exact⟨z2.trans h.os,z3.trans h.tape,z4.trans h.output,by rw[z1];exact h.size,fun k hk=>by rw[dR _ _ _ k (by omega)];exact h.block k hk⟩
theorem A5{fp:Nat→Value}{F:Nat→Prop}{w:World}{sb mb n:Nat}{mo:Obj}{st:Nat→Option bW}{s:bW}(h:kA fp F w sb mb mo st s n)(hfr:s.m.frames=[])(ho:s.m.out.length≤1000000):
 Calls Tryz.prog 23 #[.pointer (some ⟨sb,0,none⟩)] w fun e w'=>∃m:SV,e=.returned m.val∧Below w.heap.size w w'∧m.t=s.time∧m.q=s.stop∧m.n1=0∧m.n2=0∧EG w.heap.size w' (.slice m.x3 m.n3 m.c3) s.m.out:=by
 obtain⟨s1,hs1,k0,k1,k2,k3,k4,_⟩:=h.cells;have hlt:=h.lt;obtain⟨s1',e0,e1,e2⟩:=hs1.sv;obtain rfl:=SV.val_inj e0
 have hn1:s1.n1=0:=by
  obtain⟨fv,tv,ov,fvs,q0,q1,q2,q3,q4⟩:=hs1;rw[hfr] at q2
  have hfv:fvs=[]:=by
   cases fvs with
   |nil=>rfl
   |cons v l=>exact q2.elim
  subst hfv;simp only[SV.val,Value.agg.injEq] at q0;simp at q0;rcases q1 with ⟨_,x,c,e⟩|⟨g,c,cur,e,_⟩
  ·have:=q0.2.1.trans e;simp at this;exact this.2.1
  ·have:=q0.2.1.trans e;simp at this;exact this.2.1
 have hso:∀W,Below w.heap.size w W→GA F W (.slice s1.x3 s1.n3 s1.c3) s.m.out:=fun W hW=>by
  obtain⟨fv,tv,ov,fvs,q0,q1,q2,q3,q4⟩:=hs1;simp only[SV.val,Value.agg.injEq] at q0;simp at q0;rw[q0.2.2.2.1];exact q4.keep (fun b hb=>hW.block b (h.fix b hb).1) fun _ h=>h
 generalize hw1:w.alloc (.cells #[.int .i64 0,.slice none 0 0,.slice none 0 0,.slice none 0 0,.int .i64 0] 63)=w1;have hb1:Below w.heap.size w w1:=by rw[←hw1];exact(Below.refl _ w).alloc (Nat.le_refl _) _
 have hz1:w1.heap.size=w.heap.size+1:=by rw[←hw1];simp
 have hc1:w1.heap[w.heap.size]?=some (.cells #[.int .i64 0,.slice none 0 0,.slice none 0 0,.slice none 0 0,.int .i64 0] 63 (0,0)):=by rw[←hw1];exact aR _ _ rfl _
 refine A4 w sb s1 _ hlt k0 k1 k2 k3 k4 ?_;rw[hw1];generalize hw2:(w1.alloc (.cells s1.cells 108)).alloc (.cells #[.int .i64 0,.slice none 0 0,.slice none 0 0,.slice none 0 0,.int .i64 0] 63)=w2;have hb2:Below w1.heap.size w1 w2:=by rw[←hw2];exact((Below.refl _ w1).alloc (Nat.le_refl _) _).alloc (by simp) _
 have hz2:w2.heap.size=w1.heap.size+2:=by rw[←hw2];simp
 have hc2:w2.heap[w1.heap.size]?=some (.cells s1.cells 108 (0,0)):=by rw[←hw2];exact nI _ _ _
 have hd2:w2.heap[w1.heap.size+1]?=some (.cells #[.int .i64 0,.slice none 0 0,.slice none 0 0,.slice none 0 0,.int .i64 0] 63 (0,0)):=by rw[←hw2];exact kR _ _ _
 refine MF w1 s1 (fun m w'=>(∃c,w'.heap[w.heap.size]?=some (.cells c 63 (0,0))∧c.size=5)∧Below w.heap.size w (eT w' w.heap.size m)∧m.t=s.time∧m.q=s.stop∧m.n1=0∧m.n2=0∧EG w.heap.size (eT w' w.heap.size m) (.slice m.x3 m.n3 m.c3) s.m.out)
  (fun m W=>Below w2.heap.size w2 W∧m.t=s.time∧m.q=s.stop∧m.n1=0∧m.n2=0∧EG w2.heap.size W (.slice m.x3 m.n3 m.c3) s.m.out)
  (fun x n c W=>n=0∧Below w2.heap.size w2 W) (fun x n c x2 n2 c2 W=>n=0∧n2=0∧Below w2.heap.size w2 W) (fun W hW=>?_) (fun x n c W hA=>?_) (fun x n c x2 n2 c2 W hA=>?_) (fun m W hA=>?_)
 ·rw[hw2] at hW;refine(PQ W s1 hn1).mono ?_;rintro e w' ⟨rfl,hb⟩;have hbW:Below w2.heap.size w2 W:=⟨hW.os,hW.tape,hW.output,by rw[hW.heap];exact Nat.le_refl _,fun k _=>by rw[hW.heap]⟩
  exact⟨none,0,0,rfl,rfl,hbW.trans (hb.mono hbW.size)⟩
 ·obtain⟨rfl,hb⟩:=hA;refine⟨by rw[hb.block _ (by omega)];exact hc2,(UC W s1 hn1).mono ?_⟩
  rintro e w' ⟨rfl,hb'⟩;exact⟨none,0,0,rfl,rfl,rfl,hb.trans (hb'.mono hb.size)⟩
 ·obtain⟨rfl,rfl,hb⟩:=hA;have hbw:Below w.heap.size w W:=hb1.trans ((hb2.mono hb1.size).trans (hb.mono (by omega)))
  refine⟨by rw[hb.block _ (by omega)];exact hc2,(JO (hso W hbw) ho).mono ?_⟩
  rintro e w' ⟨x3,n3,c3,rfl,hO,hb'⟩;refine⟨x3,n3,c3,rfl,hb.trans (hb'.mono hb.size),e1,e2,rfl,rfl,?_⟩;obtain⟨x,c,h1,h2⟩:=hO;refine⟨x,c,h1,fun i hi=>?_⟩
  obtain⟨g,a1,a2,a3,a4⟩:=h2 i hi;exact⟨g,a1,a2,Nat.le_trans hb.size a3,a4⟩
 ·obtain⟨hb,q1,q2,q3,q4,q5⟩:=hA;have hbs:=hb.size;refine⟨by rw[hb.block _ (by omega)];exact hc2,⟨_,by rw[hb.block _ (by omega)];exact hd2,by simp⟩,⟨_,by rw[dR _ _ _ _ (by omega),hb.block _ (by omega),hb2.block _ (by omega)];exact hc1,by simp⟩,?_,q1,q2,q3,q4,?_⟩
  ·have hbw:Below w.heap.size w W:=hb1.trans ((hb2.mono hb1.size).trans (hb.mono (by omega)))
   exact BY m (BY m hbw (by omega)) (Nat.le_refl _)
  ·have hq:=q5.keep (w':=eT (eT W (w1.heap.size+1) m) w.heap.size m) (fun k h1 h2=>by rw[dR _ _ _ _ (by omega),dR _ _ _ _ (by omega)]) (by rw[(gU _ _ _).1,(gU _ _ _).1];exact Nat.le_refl _)
   obtain⟨x,c,h1,h2⟩:=hq;refine⟨x,c,h1,fun i hi=>?_⟩
   obtain⟨g,a1,a2,a3,a4⟩:=h2 i hi;exact⟨g,a1,a2,by omega,a4⟩
theorem TP{l:List UInt8}{ks:List aC}(hp:cR l=.ok ks)(hr:dF l=(0,0)):Good ks:=by
 obtain⟨h1,h2⟩:=GZ hp hr;have hlit:=DH hp;have hl:=(kC hp).len;exact⟨by omega,h1,hlit,fun f hf=>by have:=((kC hp).mem hf).kids.len;omega,h2,PE hlit⟩
theorem GQ{ks:List aC}{tape:List Int}:∀(d t:Nat) (z:bW),dB ks tape (t+1+d)=some z→∃x,dB ks tape t=some x∧x.stop=0
 |0,t,z,h=>by
  unfold dB at h ⊢
  rw[Nat.add_zero,fG] at h;cases hs:fG (dK ks 2001) (gG ks 2001 tape) t with
  |none=>rw[hs] at h;cases h
  |some x=>
   rw[hs] at h;simp only at h;split at h
   ·rename_i hz;exact⟨x,rfl,hz⟩
   ·cases h
 |d+1,t,z,h=>by
  obtain⟨x,h1,_⟩:=GQ 0 (t+1+d) z (by rw[show t+1+d+1+0=t+1+(d+1) by omega];exact h)
  exact GQ d t x h1
theorem ZH{ks:List aC}{tape:List Int}{t u:Nat}{z:bW}(h:dB ks tape u=some z)(ht:t<u):∃x,dB ks tape t=some x∧x.stop=0:=GQ (u-t-1) t z (by rw[show t+1+(u-t-1)=u by omega];exact h)
theorem XC{ks:List aC}{tape:List Int}{s τ:bW}{b:Bool}(hs:dB ks tape s.time=some s)(h:YM (dB ks tape) (fun _=>true) s τ b):(b=true∧τ.time=s.time+1∧s.stop=0)∨(b=false∧τ=s∧s.stop≠0):=by
 rcases h with ⟨h1,h2,h3⟩|⟨h1,h2,h3,h4,_⟩
 ·exact Or.inr ⟨h1,h2,h3⟩
 ·refine Or.inl ⟨h1,?_,?_⟩
  ·rcases Nat.lt_or_ge (s.time+1) τ.time with h5|h5
   ·obtain⟨x,h6,_⟩:=ZH h3 h5;have:=h4 _ x (by omega) h5 h6
    cases this
   ·omega
  ·obtain⟨x,h6,h7⟩:=ZH h3 h2;rw[hs] at h6;cases h6;exact h7
theorem Below.fs{w W W':World}{sb:Nat}(h:Below w.heap.size w W)(hf:FS sb W W')(hsb:w.heap.size≤sb)(hr:∀k,lD sb W=some k→sb<k):Below w.heap.size w W':=
 ⟨hf.os.trans h.os,hf.tape.trans h.tape,hf.output.trans h.output,Nat.le_trans h.size hf.size,fun k hk=>by
   have:=h.size;rw[hf.blk k (by omega) (by omega) fun e=>by have:=hr k e;omega];exact h.block k hk⟩
theorem LM(w:World)(src:List UInt8)(T:Nat)(out:List (List UInt8))(hE:nL src T out)(hT:kJ w)(hp:kI w)(hbig:11≤w.heap.size):
 Calls Tryz.prog 35 #[.string (bs src)] w fun e w'=>∃x n c,e=.returned (.tuple #[.slice x n c,.int .i64 T,.bool true])∧EG w.heap.size w' (.slice x n c) out∧Below w.heap.size w w':=by
 obtain⟨ks,tp,hp1,hr1,hst⟩:=hE;have hg:=TP hp1 hr1;have hst':dB ks [] T=some ⟨T,⟨[],tp,out⟩,1⟩:=hst;have hso:=hg.sta hst';have hT5:T≤500:=hso.1.time
 have hlen:src.length≤2000:=by
  unfold cR at hp1;split at hp1
  ·cases hp1
  ·omega
 refine(IC w (bs src) T hT5 (fun m W=>EG w.heap.size W (.slice m.x3 m.n3 m.c3) out∧Below w.heap.size w W)
  (fun t sb W=>∃fp G mb mo n s,Live fp G W sb mb mo ks [] s n []∧s.time=t∧t≤T∧w.heap.size≤sb∧Below w.heap.size w W)
  (fun sb W=>∃fp G mb mo n,Live fp G W sb mb mo ks [] ⟨T,⟨[],tp,out⟩,1⟩ n []∧Below w.heap.size w W) ?_ (fun t sb W hL=>?_) (fun sb W hM=>?_)).mono ?_
 ·refine(RQ (bs src) (.slice none 0 0) [] w hT hp (by rw[gX];omega) (Or.inl ⟨rfl,rfl⟩) (by simp) (fun ks' h1 h2=>?_)).mono ?_
  ·rw[iV] at h1 h2;exact TP h1 h2
  ·rintro e w' ⟨v,rfl,hb,hv⟩;rw[iV] at hv;rcases hv with ⟨_,ks',fp,G,sb,mb,q1,rfl,q2,q3,q4,s,q5,q6⟩|⟨h0,_⟩
   ·rw[hp1] at q1;cases q1;exact⟨sb,rfl,fp,G,mb,_,1,s,⟨q5,q4,hp.below hb,⟨by omega,by omega⟩,by omega,fun b hb=>by cases hb⟩,q6,by omega,q2,hb⟩
   ·rw[hr1] at h0;exact absurd rfl h0
 ·obtain⟨fp,G,mb,mo,n,s,h1,h2,h3,h4,h5⟩:=hL;refine(ZG hg (by simp) h1).mono ?_
  rintro e w' ⟨b,rfl,G',n',τ,q1,q2,q3⟩;have hbel:Below w.heap.size w w':=Below.fs h5 q3 h4 fun k hk=>(h1.row hk).1
  have hnow:=h1.ses.now;rcases XC hnow q2 with ⟨rfl,e2,e3⟩|⟨rfl,rfl,e3⟩
  ·refine Or.inl ⟨?_,rfl,fp,G',mb,mo,n',τ,q1,by omega,?_,h4,hbel⟩
   all_goals
    refine Nat.lt_of_le_of_ne h3 fun e=>?_
    rw[h2,e,hst'] at hnow;cases hnow;exact absurd e3 (by simp)
  ·have ht:t=T:=by
    rcases Nat.lt_or_ge t T with h6|h6
    ·obtain⟨x,h7,h8⟩:=ZH hst' h6;rw[←h2,hnow] at h7;cases h7;exact absurd h8 e3
    ·omega
   subst ht;rw[h2,hst'] at hnow;cases hnow;exact Or.inr ⟨rfl,rfl,fp,G',mb,mo,n',q1,hbel⟩
 ·obtain⟨fp,G,mb,mo,n,h1,h2⟩:=hM;refine(A5 h1.ses rfl (by have:=hso.2.2.1.out;simp only at this ⊢;omega)).mono ?_
  rintro e w' ⟨m,rfl,hb,e1,e2,e3,e4,ho⟩;refine⟨m,rfl,e1,e2,e3,fun q=>⟨?_,?_⟩⟩
  ·have h0:EG w.heap.size w' (.slice m.x3 m.n3 m.c3) out:=by
    obtain⟨x,c,a1,a2⟩:=ho;refine⟨x,c,a1,fun i hi=>?_⟩
    obtain⟨g,b1,b2,b3,b4⟩:=a2 i hi;exact⟨g,b1,b2,Nat.le_trans h2.size b3,b4⟩
   refine h0.keep (fun k _ hk=>?_) ?_
   ·exact Below.heap_alloc w' (.cells m.cells 63) k hk
   ·show w'.heap.size≤(w'.alloc (.cells m.cells 63)).heap.size
    simp
  ·have h0:=(h2.trans (hb.mono h2.size)).alloc (h2.trans (hb.mono h2.size)).size (.cells m.cells 63);exact⟨h0.os,h0.tape,h0.output,h0.size,h0.block⟩
 ·rintro e w' ⟨m,rfl,h1,h2⟩;exact⟨_,_,_,rfl,h1,h2⟩
theorem C1(n:Int)(h1: -9223372036854775808≤n)(h2:n≤9223372036854775807)(w:World)(hp:kI w):
 Calls Tryz.prog 34 #[.int .i64 n] w fun e w'=>e=.returned (.string (bs (cA n)))∧Below w.heap.size w w':=by
 refine(Tryz.strconv_Itoa n h1 h2 w hp).mono ?_;rintro e w1 ⟨rfl,k1,os,hw1⟩;exact⟨by rw[rA n h1 h2];rfl,AZ hw1⟩
end Go.Proofs.YtblbkfdhjfppkaaGreatDoor
