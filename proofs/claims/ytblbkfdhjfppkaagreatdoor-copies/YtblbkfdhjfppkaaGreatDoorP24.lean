/- Contracts of the program: the moment is told where there is no frame. -/
import Derived.Test.YtblbkfdhjfppkaaGreatDoorB12
import Derived.Test.YtblbkfdhjfppkaaGreatDoorP23
set_option maxRecDepth 100000
set_option maxHeartbeats 4000000
namespace Go.Proofs.YtblbkfdhjfppkaaGreatDoor
open Hs
open _root_.Go.Proofs.Tryz(prog)
open Go.RowKit
def GI(base:Nat)(w:World)(v:Value)(l:List (List UInt8)):Prop:=∃x c,v=.slice x l.length c/\∀i (h:i<l.length),∃g,x=some ⟨g,0,none⟩/\w.cell? ⟨g,i,none⟩=some (.string (bs l[i]))/\base<=g/\g<w.heap.size
theorem GI.keep{base:Nat}{w w':World}{v:Value}{l:List (List UInt8)}(h:GI base w v l)(hb:∀k,base<=k->k<w.heap.size->w'.heap[k]?=w.heap[k]?)(hs:w.heap.size<=w'.heap.size):GI base w' v l:=by
 obtain⟨x,c,h1,h2⟩:=h;refine⟨x,c,h1,fun i hi=>?_⟩
 obtain⟨g,e,h3,h4,h5⟩:=h2 i hi;exact⟨g,e,by rw[World.cell?_of_block (hb g h4 h5)];exact h3,h4,m9 h5 hs⟩
theorem LV{F:Nat->Prop}{w:World}{v:Value}{l:List (List UInt8)}(h:JA F w v l)(hl:l.length<=1000000):
 Calls prog 109 #[v] w fun e w'=>∃x n c,e=.returned (.slice x n c)/\GI w.heap.size w' (.slice x n c) l/\Below w.heap.size w w':=by
 rcases h with ⟨rfl,rfl⟩|⟨g,c,cur,rfl,h2,h3,h4,h5⟩
 ·refine(sN w).mono ?_;rintro e w' ⟨rfl,rfl⟩;exact⟨none,0,0,rfl,⟨none,0,rfl,fun i hi=>by simp at hi⟩,m8 _ _⟩
 ·refine(sO g 0 l.length c (lR l) w (by simp[lR]) hl (fun j u hj=>?_) (fun u hu=>?_)).mono ?_
  ·rw[aD_];refine aA h3 ?_;rw[<-h5,x6] at hj;split at hj
   ·rw[Array.getElem?_toList] at hj;exact hj
   ·cases hj
  ·simp only[lR,aO_] at hu;obtain⟨x,_,rfl⟩:=hu;rfl
  ·rintro e w' ⟨v',rfl,ho,hb⟩;obtain⟨x,c',rfl⟩:=cV ho;refine⟨x,_,c',rfl,⟨x,c',rfl,fun i hi=>?_⟩,hb⟩
   rcases ho.2 with ⟨r1,r2⟩|⟨g',cap',cur',r1,r2,r3,r4⟩
   ·simp only[Value.slice.injEq] at r1;omega
   ·cases r1;refine⟨g',rfl,?_,r2,aD r3⟩;have:=ho.cells (g:=g') rfl i (.string (bs l[i])) (by simp[lR,hi])
    rw[AB] at this;exact this
theorem SK(w:World)(s:SV)(h:s.n1=0):Calls prog 156 #[s.val] w fun e w'=>e=.returned (.pointer none)/\Below w.heap.size w w':=by
 obtain⟨t,x1,x2,x3,n1,n2,n3,c1,c2,c3,q⟩:=s;subst h;unfold SV.val;go_enter Tryz.func156,Tryz.ntmps156;go_wp2_with fail;go_ret;exact⟨rfl,(m8 _ _).alloc (l9 _) _⟩
theorem WP(w:World)(s:SV)(h:s.n1=0):Calls prog 108 #[s.val] w fun e w'=>e=.returned (.slice none 0 0)/\Below w.heap.size w w':=by
 have HS:=aB fun W=>SK W s h
 have HO:=aB fun W=>AnyF.slices_SortFunc_none (P:=prog) (ρ:=Tryz.sortL_ren) { Tryz.sortL with } none 0 (.func (.func 160) #[] #[]) W
 obtain⟨t,x1,x2,x3,n1,n2,n3,c1,c2,c3,q⟩:=s;subst h;unfold SV.val at HS;unfold SV.val;go_enter Tryz.func108,Tryz.ntmps108;go_wp2_with fail;refine(HS.out _).mono ?_;rintro e w1 ⟨rfl,hb⟩;have HB:=aB hb;clear hb HS;go_wp2_with fail;go_loopg [3,4] 1 (fun k v s wr=>v=.slice none 0 0/\s=.pointer none/\wr=w1)
 case atStart=>exact⟨rfl,rfl,rfl⟩
 case round=>
  obtain⟨rfl,rfl,rfl⟩:=hrel;go_wp2_with fail;refine(HO.out _).mono ?_;rintro e w2 ⟨rfl,rfl⟩;go_wp2_with fail;go_ret;exact⟨rfl,((m8 _ _).alloc (l9 _) _).trans (HB.out.mono (by simp))⟩
theorem SF(w:World)(s:SV)(h:s.n1=0):Calls prog 107 #[s.val] w fun e w'=>e=.returned (.slice none 0 0)/\Below w.heap.size w w':=by
 obtain⟨t,x1,x2,x3,n1,n2,n3,c1,c2,c3,q⟩:=s;subst h;unfold SV.val;go_enter Tryz.func107,Tryz.ntmps107;go_wp2_with fail;go_loopg [3,9] 1 (fun k v i wr=>v=.slice none 0 0/\i=.int .i64 0/\Below w.heap.size w wr)
 case atStart=>exact⟨rfl,rfl,(m8 _ _).alloc (l9 _) _⟩
 case round=>
  obtain⟨rfl,rfl,hb⟩:=hrel;have HB:=aB hb;clear hb;go_wp2_with fail;go_ret;exact⟨rfl,HB.out⟩
theorem I4(w:World)(sb:Nat)(s:SV)(P:SV->World->Prop)(hls:sb<w.heap.size)
 (k0:w.cell? ⟨sb,0,none⟩=some (.int .i64 s.t)) (k1:w.cell? ⟨sb,1,none⟩=some (.slice s.x1 s.n1 s.c1)) (k2:w.cell? ⟨sb,2,none⟩=some (.slice s.x2 s.n2 s.c2)) (k3:w.cell? ⟨sb,3,none⟩=some (.slice s.x3 s.n3 s.c3)) (k4:w.cell? ⟨sb,4,none⟩=some (.int .i64 s.q))
 (HM:Hid (Calls prog 60 #[s.val] (w.alloc (.cells #[.int .i64 0,.slice none 0 0,.slice none 0 0,.slice none 0 0,.int .i64 0] 63)) fun e w'=>∃m:SV,e=.returned m.val/\(∃c,w'.heap[w.heap.size]?=some (.cells c 63 (0,0))/\c.size=5)/\P m (fA w' w.heap.size m))):
 Calls prog 23 #[.pointer (some ⟨sb,0,none⟩)] w fun e w'=>∃m:SV,e=.returned m.val/\P m w':=by
 unfold SV.val at HM;go_enter Tryz.func23,Tryz.ntmps23;go_wp2_with fail;refine HM.out.mono ?_;rintro e w1 ⟨m,rfl,⟨c,e3,hc⟩,hp⟩;have g0:=aA (i:=0) e3 (n9 (by omega))
 have g1:=aA (i:=1) e3 (n9 (by omega))
 have g2:=aA (i:=2) e3 (n9 (by omega))
 have g3:=aA (i:=3) e3 (n9 (by omega))
 have g4:=aA (i:=4) e3 (n9 (by omega))
 have f0:=aE (i:=0) e3;have f1:=aE (i:=1) e3;have f2:=aE (i:=2) e3;have f3:=aE (i:=3) e3;have f4:=aE (i:=4) e3;have l3:=aD e3;have hs:=oI (W:=w1) (s:=m) e3 (by omega) rfl
 have HC:=aB hs;have HP:=aB hp;unfold fA at HC HP;clear hs hp e3 HM k0 k1 k2 k3 k4;go_wp2_with fail;have HC':=HC.out;have HP':=HP.out;clear HC HP g0 g1 g2 g3 g4 f0 f1 f2 f3 f4;generalize ((((w1.setCell ⟨w.heap.size,0,none⟩ (.int .i64 m.t)).setCell ⟨w.heap.size,1,none⟩ (.slice m.x1 m.n1 m.c1)).setCell ⟨w.heap.size,2,none⟩ (.slice m.x2 m.n2 m.c2)).setCell ⟨w.heap.size,3,none⟩ (.slice m.x3 m.n3 m.c3)).setCell ⟨w.heap.size,4,none⟩ (.int .i64 m.q)=W3 at HC' HP' ⊢
 obtain⟨c0,c1,c2,c3,c4⟩:=HC';exact bodyPost_ret (v:=.agg #[.int .i64 m.t,.slice m.x1 m.n1 m.c1,.slice m.x2 m.n2 m.c2,.slice m.x3 m.n3 m.c3,.int .i64 m.q]) (by simp[results,Tryz.results23,go_sem,c0,c1,c2,c3,c4]) rfl ⟨m,rfl,HP'⟩
theorem DX{w W:World}{b:Nat}(s:SV)(h:Below w.heap.size w W)(hb:w.heap.size<=b):Below w.heap.size w (fA W b s):=by
 obtain⟨z1,z2,z3,z4⟩:=iG W b s;exact⟨z2.trans h.os,z3.trans h.tape,z4.trans h.output,by rw[z1];exact h.size,fun k hk=>by rw[dY _ _ _ k (by omega)];exact h.block k hk⟩
theorem I5{fp:Nat->Value}{F:Nat->Prop}{w:World}{sb mb n:Nat}{mo:Obj}{st:Nat->Option bW}{s:bW}(h:kO fp F w sb mb mo st s n)(hfr:s.m.frames=[])(ho:s.m.out.length<=1000000):
 Calls prog 23 #[.pointer (some ⟨sb,0,none⟩)] w fun e w'=>∃m:SV,e=.returned m.val/\Below w.heap.size w w'/\m.t=s.time/\m.q=s.stop/\m.n1=0/\m.n2=0/\GI w.heap.size w' (.slice m.x3 m.n3 m.c3) s.m.out:=by
 obtain⟨s1,hs1,k0,k1,k2,k3,k4,_⟩:=h.cells;have hlt:=h.lt;obtain⟨s1',e0,e1,e2⟩:=hs1.sv;obtain rfl:=SV.val_inj e0
 have hn1:s1.n1=0:=by
  obtain⟨fv,tv,ov,fvs,q0,q1,q2,q3,q4⟩:=hs1;rw[hfr] at q2
  have hfv:fvs=[]:=by
   cases fvs with
   |nil=>rfl
   |cons v l=>exact q2.elim
  subst hfv;simp only[SV.val,Value.agg.injEq] at q0;simp at q0;rcases q1 with ⟨_,x,c,e⟩|⟨g,c,cur,e,_⟩
  ·have:=q0.2.1.trans e;simp at this;exact this.2.1
  ·have:=q0.2.1.trans e;simp at this;exact this.2.1
 have hso:∀W,Below w.heap.size w W->JA F W (.slice s1.x3 s1.n3 s1.c3) s.m.out:=fun W hW=>by
  obtain⟨fv,tv,ov,fvs,q0,q1,q2,q3,q4⟩:=hs1;simp only[SV.val,Value.agg.injEq] at q0;simp at q0;rw[q0.2.2.2.1];exact q4.keep (fun b hb=>hW.block b (h.fix b hb).1) fun _ h=>h
 generalize hw1:w.alloc (.cells #[.int .i64 0,.slice none 0 0,.slice none 0 0,.slice none 0 0,.int .i64 0] 63)=w1;have hb1:Below w.heap.size w w1:=by rw[<-hw1];exact(m8 _ w).alloc (l9 _) _
 have hz1:w1.heap.size=w.heap.size+1:=by rw[<-hw1];simp
 have hc1:w1.heap[w.heap.size]?=some (.cells #[.int .i64 0,.slice none 0 0,.slice none 0 0,.slice none 0 0,.int .i64 0] 63 (0,0)):=by rw[<-hw1];exact aT _ _ rfl _
 refine I4 w sb s1 _ hlt k0 k1 k2 k3 k4 ?_;rw[hw1];generalize hw2:(w1.alloc (.cells s1.cells 108)).alloc (.cells #[.int .i64 0,.slice none 0 0,.slice none 0 0,.slice none 0 0,.int .i64 0] 63)=w2;have hb2:Below w1.heap.size w1 w2:=by rw[<-hw2];exact((m8 _ w1).alloc (l9 _) _).alloc (by simp) _
 have hz2:w2.heap.size=w1.heap.size+2:=by rw[<-hw2];simp
 have hc2:w2.heap[w1.heap.size]?=some (.cells s1.cells 108 (0,0)):=by rw[<-hw2];exact oC _ _ _
 have hd2:w2.heap[w1.heap.size+1]?=some (.cells #[.int .i64 0,.slice none 0 0,.slice none 0 0,.slice none 0 0,.int .i64 0] 63 (0,0)):=by rw[<-hw2];exact lG _ _ _
 refine OP w1 s1 (fun m w'=>(∃c,w'.heap[w.heap.size]?=some (.cells c 63 (0,0))/\c.size=5)/\Below w.heap.size w (fA w' w.heap.size m)/\m.t=s.time/\m.q=s.stop/\m.n1=0/\m.n2=0/\GI w.heap.size (fA w' w.heap.size m) (.slice m.x3 m.n3 m.c3) s.m.out)
  (fun m W=>Below w2.heap.size w2 W/\m.t=s.time/\m.q=s.stop/\m.n1=0/\m.n2=0/\GI w2.heap.size W (.slice m.x3 m.n3 m.c3) s.m.out)
  (fun x n c W=>n=0/\Below w2.heap.size w2 W) (fun x n c x2 n2 c2 W=>n=0/\n2=0/\Below w2.heap.size w2 W) (fun W hW=>?_) (fun x n c W hA=>?_) (fun x n c x2 n2 c2 W hA=>?_) (fun m W hA=>?_)
 ·rw[hw2] at hW;refine(SF W s1 hn1).mono ?_;rintro e w' ⟨rfl,hb⟩;have hbW:Below w2.heap.size w2 W:=⟨hW.os,hW.tape,hW.output,by rw[hW.heap];exact l9 _,fun k _=>by rw[hW.heap]⟩
  exact⟨none,0,0,rfl,rfl,hbW.trans (hb.mono hbW.size)⟩
 ·obtain⟨rfl,hb⟩:=hA;refine⟨by rw[hb.block _ (by omega)];exact hc2,(WP W s1 hn1).mono ?_⟩
  rintro e w' ⟨rfl,hb'⟩;exact⟨none,0,0,rfl,rfl,rfl,hb.trans (hb'.mono hb.size)⟩
 ·obtain⟨rfl,rfl,hb⟩:=hA;have hbw:Below w.heap.size w W:=hb1.trans ((hb2.mono hb1.size).trans (hb.mono (by omega)))
  refine⟨by rw[hb.block _ (by omega)];exact hc2,(LV (hso W hbw) ho).mono ?_⟩
  rintro e w' ⟨x3,n3,c3,rfl,hO,hb'⟩;refine⟨x3,n3,c3,rfl,hb.trans (hb'.mono hb.size),e1,e2,rfl,rfl,?_⟩;obtain⟨x,c,h1,h2⟩:=hO;refine⟨x,c,h1,fun i hi=>?_⟩
  obtain⟨g,a1,a2,a3,a4⟩:=h2 i hi;exact⟨g,a1,a2,p7 hb.size a3,a4⟩
 ·obtain⟨hb,q1,q2,q3,q4,q5⟩:=hA;have hbs:=hb.size;refine⟨by rw[hb.block _ (by omega)];exact hc2,⟨_,by rw[hb.block _ (by omega)];exact hd2,by simp⟩,⟨_,by rw[dY _ _ _ _ (by omega),hb.block _ (by omega),hb2.block _ (by omega)];exact hc1,by simp⟩,?_,q1,q2,q3,q4,?_⟩
  ·have hbw:Below w.heap.size w W:=hb1.trans ((hb2.mono hb1.size).trans (hb.mono (by omega)))
   exact DX m (DX m hbw (by omega)) (l9 _)
  ·have hq:=q5.keep (w':=fA (fA W (w1.heap.size+1) m) w.heap.size m) (fun k h1 h2=>by rw[dY _ _ _ _ (by omega),dY _ _ _ _ (by omega)]) (by rw[(iG _ _ _).1,(iG _ _ _).1];exact l9 _)
   obtain⟨x,c,h1,h2⟩:=hq;refine⟨x,c,h1,fun i hi=>?_⟩
   obtain⟨g,a1,a2,a3,a4⟩:=h2 i hi;exact⟨g,a1,a2,by omega,a4⟩
theorem WD{l:List UInt8}{ks:List aC}(hp:cX l=.ok ks)(hr:dL l=(0,0)):Good ks:=by
 obtain⟨h1,h2⟩:=KG hp hr;have hlit:=FG hp;have hl:=(kR hp).len;exact⟨by omega,h1,hlit,fun f hf=>by have:=((kR hp).mem hf).kids.len;omega,h2,RT hlit⟩
theorem JT{ks:List aC}{tape:List Int}:∀(d t:Nat) (z:bW),dH ks tape (t+1+d)=some z->∃x,dH ks tape t=some x/\x.stop=0
 |0,t,z,h=>by
  unfold dH at h ⊢
  rw[a3_,fM] at h;cases hs:fM (dR ks 2001) (gZ ks 2001 tape) t with
  |none=>rw[hs] at h;cases h
  |some x=>
   rw[hs] at h;simp only at h;split at h
   ·rename_i hz;exact⟨x,rfl,hz⟩
   ·cases h
 |d+1,t,z,h=>by
  obtain⟨x,h1,_⟩:=JT 0 (t+1+d) z (by rw[show t+1+d+1+0=t+1+(d+1) by omega];exact h)
  exact JT d t x h1
theorem E6{ks:List aC}{tape:List Int}{t u:Nat}{z:bW}(h:dH ks tape u=some z)(ht:t<u):∃x,dH ks tape t=some x/\x.stop=0:=JT (u-t-1) t z (by rw[show t+1+(u-t-1)=u by omega];exact h)
theorem ZL{ks:List aC}{tape:List Int}{s τ:bW}{b:Bool}(hs:dH ks tape s.time=some s)(h:C3 (dH ks tape) (fun _=>true) s τ b):(b=true/\τ.time=s.time+1/\s.stop=0)\/(b=false/\τ=s/\s.stop≠0):=by
 rcases h with ⟨h1,h2,h3⟩|⟨h1,h2,h3,h4,_⟩
 ·exact Or.inr ⟨h1,h2,h3⟩
 ·refine Or.inl ⟨h1,?_,?_⟩
  ·rcases ag_ (s.time+1) τ.time with h5|h5
   ·obtain⟨x,h6,_⟩:=E6 h3 h5;have:=h4 _ x (by omega) h5 h6
    cases this
   ·omega
  ·obtain⟨x,h6,h7⟩:=E6 h3 h2;rw[hs] at h6;cases h6;exact h7
theorem Below.fs{w W W':World}{sb:Nat}(h:Below w.heap.size w W)(hf:FS sb W W')(hsb:w.heap.size<=sb)(hr:∀k,lT sb W=some k->sb<k):Below w.heap.size w W':=
 ⟨hf.os.trans h.os,hf.tape.trans h.tape,hf.output.trans h.output,p7 h.size hf.size,fun k hk=>by
   have:=h.size;rw[hf.blk k (by omega) (by omega) fun e=>by have:=hr k e;omega];exact h.block k hk⟩
theorem NW(w:World)(src:List UInt8)(T:Nat)(out:List (List UInt8))(hE:xA src T out)(hT:lN w)(hp:kY w)(hbig:11<=w.heap.size):
 Calls prog 35 #[.string (bs src)] w fun e w'=>∃x n c,e=.returned (.tuple #[.slice x n c,.int .i64 T,.bool true])/\GI w.heap.size w' (.slice x n c) out/\Below w.heap.size w w':=by
 obtain⟨ks,tp,hp1,hr1,hst⟩:=hE;have hg:=WD hp1 hr1;have hst':dH ks [] T=some ⟨T,⟨[],tp,out⟩,1⟩:=hst;have hso:=hg.sta hst';have hT5:T<=500:=hso.1.time
 have hlen:src.length<=2000:=by
  unfold cX at hp1;split at hp1
  ·cases hp1
  ·omega
 refine(KJ w (bs src) T hT5 (fun m W=>GI w.heap.size W (.slice m.x3 m.n3 m.c3) out/\Below w.heap.size w W)
  (fun t sb W=>∃fp G mb mo n s,Live fp G W sb mb mo ks [] s n []/\s.time=t/\t<=T/\w.heap.size<=sb/\Below w.heap.size w W)
  (fun sb W=>∃fp G mb mo n,Live fp G W sb mb mo ks [] ⟨T,⟨[],tp,out⟩,1⟩ n []/\Below w.heap.size w W) ?_ (fun t sb W hL=>?_) (fun sb W hM=>?_)).mono ?_
 ·refine(UI (bs src) (.slice none 0 0) [] w hT hp (by rw[gI];omega) (Or.inl ⟨rfl,rfl⟩) (by simp) (fun ks' h1 h2=>?_)).mono ?_
  ·rw[jL] at h1 h2;exact WD h1 h2
  ·rintro e w' ⟨v,rfl,hb,hv⟩;rw[jL] at hv;rcases hv with ⟨_,ks',fp,G,sb,mb,q1,rfl,q2,q3,q4,s,q5,q6⟩|⟨h0,_⟩
   ·rw[hp1] at q1;cases q1;exact⟨sb,rfl,fp,G,mb,_,1,s,⟨q5,q4,hp.below hb,⟨by omega,by omega⟩,by omega,fun b hb=>by cases hb⟩,q6,by omega,q2,hb⟩
   ·rw[hr1] at h0;exact absurd rfl h0
 ·obtain⟨fp,G,mb,mo,n,s,h1,h2,h3,h4,h5⟩:=hL;refine(E5 hg (by simp) h1).mono ?_
  rintro e w' ⟨b,rfl,G',n',τ,q1,q2,q3⟩;have hbel:Below w.heap.size w w':=Below.fs h5 q3 h4 fun k hk=>(h1.row hk).1
  have hnow:=h1.ses.now;rcases ZL hnow q2 with ⟨rfl,e2,e3⟩|⟨rfl,rfl,e3⟩
  ·refine Or.inl ⟨?_,rfl,fp,G',mb,mo,n',τ,q1,by omega,?_,h4,hbel⟩
   all_goals
    refine Nat.lt_of_le_of_ne h3 fun e=>?_
    rw[h2,e,hst'] at hnow;cases hnow;exact absurd e3 (by simp)
  ·have ht:t=T:=by
    rcases ag_ t T with h6|h6
    ·obtain⟨x,h7,h8⟩:=E6 hst' h6;rw[<-h2,hnow] at h7;cases h7;exact absurd h8 e3
    ·omega
   subst ht;rw[h2,hst'] at hnow;cases hnow;exact Or.inr ⟨rfl,rfl,fp,G',mb,mo,n',q1,hbel⟩
 ·obtain⟨fp,G,mb,mo,n,h1,h2⟩:=hM;refine(I5 h1.ses rfl (by have:=hso.2.2.1.out;simp only at this ⊢;omega)).mono ?_
  rintro e w' ⟨m,rfl,hb,e1,e2,e3,e4,ho⟩;refine⟨m,rfl,e1,e2,e3,fun q=>⟨?_,?_⟩⟩
  ·have h0:GI w.heap.size w' (.slice m.x3 m.n3 m.c3) out:=by
    obtain⟨x,c,a1,a2⟩:=ho;refine⟨x,c,a1,fun i hi=>?_⟩
    obtain⟨g,b1,b2,b3,b4⟩:=a2 i hi;exact⟨g,b1,b2,p7 h2.size b3,b4⟩
   refine h0.keep (fun k _ hk=>?_) ?_
   ·exact o9 w' (.cells m.cells 63) k hk
   ·show w'.heap.size<=(w'.alloc (.cells m.cells 63)).heap.size
    simp
  ·have h0:=(h2.trans (hb.mono h2.size)).alloc (h2.trans (hb.mono h2.size)).size (.cells m.cells 63);exact⟨h0.os,h0.tape,h0.output,h0.size,h0.block⟩
 ·rintro e w' ⟨m,rfl,h1,h2⟩;exact⟨_,_,_,rfl,h1,h2⟩
theorem uT(n:Int)(h1: -9223372036854775808<=n)(h2:n<=9223372036854775807)(w:World)(hp:kY w):
 Calls prog 34 #[.int .i64 n] w fun e w'=>e=.returned (.string (bs (cH n)))/\Below w.heap.size w w':=by
 refine(Tryz.strconv_Itoa n h1 h2 w hp).mono ?_;rintro e w1 ⟨rfl,k1,os,hw1⟩;exact⟨by rw[sG n h1 h2];rfl,CX hw1⟩
theorem Z8(c:Int)(h1: -9223372036854775808<=c)(h2:c<=9223372036854775807):
 ∃k:Nat,k<5/\∀w,Calls prog 31 #[.int .i64 c,.int .i64 5] w fun e w'=>e=.returned (.int .i64 k)/\w'=w:=by
 by_cases hc:c<0
 ·have e1:wrap64 (c+1)=c+1:=by unfold wrap64;omega
  have e2:wrap64 (-(c+1))= -(c+1):=by unfold wrap64;omega
  obtain⟨m,hm⟩:∃m:Nat, -(c+1)=(m:Int):=⟨(-(c+1)).toNat,by omega⟩
  have e3:(-(c+1)).tmod 5=((m%5:Nat):Int):=by rw[hm];rfl
  refine⟨m%5,Nat.mod_lt _ (by omega),fun w=>?_⟩
  go_enter Tryz.func31,Tryz.ntmps31;go_wp2_with fail;refine bodyPost_ret (v:=.int .i64 ((m%5:Nat):Int)) ?_ rfl ⟨rfl,rfl⟩;have e4:(c+1).tmod 5= -((m%5:Nat):Int):=by rw[show c+1= -(m:Int) by omega,Int.neg_tmod];rfl
  simp[results,Tryz.results31,go_sem]
 ·obtain⟨m,rfl⟩:∃m:Nat,c=(m:Int):=⟨c.toNat,by omega⟩
  refine⟨m%5,Nat.mod_lt _ (by omega),fun w=>?_⟩
  go_enter Tryz.func31,Tryz.ntmps31;go_wp2_with fail;refine bodyPost_ret (v:=.int .i64 ((m%5:Nat):Int)) (by simp[results,Tryz.results31,go_sem]) rfl ⟨rfl,rfl⟩
theorem xU(n:Int)(h1: -9223372036854775808<=n)(h2:n<=9223372036854775807)(w:World)(hp:kY w):
 Calls prog 33 #[.int .i64 n] w fun e w'=>e=.returned (.string (bs (cS n)))/\Below w.heap.size w w':=by
 by_cases hm:n= -9223372036854775808
 ·subst hm;go_enter Tryz.func33,Tryz.ntmps33;go_wp2_with fail;go_ret;exact⟨by kernel_rfl,m8 _ _⟩
 ·by_cases hn:n<0
  ·have e1:wrap64 (-n)= -n:=by unfold wrap64;omega
   have e2:cH (-n)=dO n.natAbs:=by
    unfold cH dO;rw[if_neg (by omega),show (-n).natAbs=n.natAbs by omega];rfl
   have e3:cS n=[40,45]++(dO n.natAbs++[41]):=by unfold cS;rw[if_neg hm,if_pos hn]
   have HI:=aB (uT (-n) (by omega) (by omega) w hp)
   rw[e2] at HI;rw[e3];have hl:=nJ n.natAbs;generalize dO n.natAbs=tx at*;have hs:(bs tx).size=tx.length:=gI tx;clear hp e2 e3;go_enter Tryz.func33,Tryz.ntmps33;go_wp2_with fail;refine HI.out.mono ?_;rintro e w1 ⟨rfl,hb⟩;have HB:=aB hb;clear hb;go_wp2_with fail;go_ret;refine⟨?_,HB.out⟩;show Ending.returned (.string (bs [40,45]++bs tx++bs [41]))=_
   rw[iD,iD,y7];rfl
  ·have HI:=aB (uT n h1 h2 w hp);clear hp;go_enter Tryz.func33,Tryz.ntmps33;go_wp2_with fail;refine HI.out.mono ?_;rintro e w1 ⟨rfl,hb⟩;have HB:=aB hb;clear hb;go_wp2_with fail;go_ret;refine⟨?_,HB.out⟩;unfold cS cH;rw[if_neg hm,if_neg (by omega),if_neg (by omega)];rfl
end Go.Proofs.YtblbkfdhjfppkaaGreatDoor
namespace Go.Proofs.YtblbkfdhjfppkaaGreatDoor.Hs
def dZ:Nat->Nat->List UInt8->Except Nat (List aP)
 |0,_,_=>.error 0
 |f+1,n,l=>
  if l.length=0 then .ok [⟨101,[],n⟩]
  else if (bJ l).ok then
   cF [⟨(bJ l).sort,(bJ l).text,n⟩] (dZ f (n+(l.take ((bJ l).size+blankL l.length (l.drop (bJ l).size))).count 10) (l.drop ((bJ l).size+blankL l.length (l.drop (bJ l).size))))
  else .error n
theorem FH(a b:List UInt8):aU (a++b)=aU a+b.count 10:=by unfold aU;rw[List.count_append];omega
theorem sY(f:Nat):∀(pre l:List UInt8),cU f pre l=dZ f (aU pre) l:=by
 induction f with
 |zero=>intro pre l;rfl
 |succ f ih=>
  intro pre l;rw[dZ];by_cases h:l.length=0
  ·rw[if_pos h,kP _ _ _ h]
  ·rw[if_neg h];cases hk:(bJ l).ok
   ·rw[kQ _ _ _ h hk];rfl
   ·rw[gR _ _ _ h hk _ rfl,ih,FH];rfl
def CO(ts:List aP)(x:Except Nat (List aP)):Except Nat (List aP):=ts.foldr (fun t x=>cF [t] x) x
theorem YE(ts:List aP)(x:Except Nat (List aP)):CO ts x=cF ts x:=by
 induction ts with
 |nil=>exact(qK x).symm
 |cons t ts ih=>show cF [t] (CO ts x)=_;rw[ih,<-kU];rfl
def cpA:List UInt8:=[102,117,110,99,32,102,40,112,41,32,123,32,112,91,48,93,32,61,32,55,59,32,114,101,116,117,114,110,32,112,59,32,125,10,102,117,110,99,32,109,97,105,110,40,41,32,123,10,118,97,114,32,97,32,61,32]
def cpB:List UInt8:=[44,32,91,49,44,32,50,93,93,59,10,118,97,114,32,98,32,61,32,97,59,10,118,97,114,32,99,32,61,32,91,97,44,32,98,93,59,10,118,97,114,32,100,32,61,32,102,40,97,41,59,10,98,91,49,93,91,48,93,32]
def tQ:List UInt8:=[59,10,99,91,48,93,91,49,93,32,61,32,91,93,59,10,112,114,105,110,116,32,97,59,32,112,114,105,110,116,32,98,59,32,112,114,105,110,116,32,99,59,32,112,114,105,110,116,32,100,59,10,125]
def RQ:List aP:=[⟨107,[102,117,110,99],1⟩,⟨110,[102],1⟩,⟨112,[40],1⟩,⟨110,[112],1⟩,⟨112,[41],1⟩,⟨112,[123],1⟩,⟨110,[112],1⟩,⟨112,[91],1⟩,⟨48,[48],1⟩,⟨112,[93],1⟩,⟨112,[61],1⟩,⟨48,[55],1⟩,⟨112,[59],1⟩,⟨107,[114,101,116,117,114,110],1⟩,⟨110,[112],1⟩,⟨112,[59],1⟩,⟨112,[125],1⟩,⟨107,[102,117,110,99],2⟩,⟨110,[109,97,105,110],2⟩,⟨112,[40],2⟩,⟨112,[41],2⟩,⟨112,[123],2⟩,⟨107,[118,97,114],3⟩,⟨110,[97],3⟩,⟨112,[61],3⟩]
def tpB:List aP:=[⟨112,[44],3⟩,⟨112,[91],3⟩,⟨48,[49],3⟩,⟨112,[44],3⟩,⟨48,[50],3⟩,⟨112,[93],3⟩,⟨112,[93],3⟩,⟨112,[59],3⟩,⟨107,[118,97,114],4⟩,⟨110,[98],4⟩,⟨112,[61],4⟩,⟨110,[97],4⟩,⟨112,[59],4⟩,⟨107,[118,97,114],5⟩,⟨110,[99],5⟩,⟨112,[61],5⟩,⟨112,[91],5⟩,⟨110,[97],5⟩,⟨112,[44],5⟩,⟨110,[98],5⟩,⟨112,[93],5⟩,⟨112,[59],5⟩,⟨107,[118,97,114],6⟩,⟨110,[100],6⟩,⟨112,[61],6⟩,⟨110,[102],6⟩,⟨112,[40],6⟩,⟨110,[97],6⟩,⟨112,[41],6⟩,⟨112,[59],6⟩,⟨110,[98],7⟩,⟨112,[91],7⟩,⟨48,[49],7⟩,⟨112,[93],7⟩,⟨112,[91],7⟩,⟨48,[48],7⟩,⟨112,[93],7⟩]
def RP:List aP:=[⟨112,[59],7⟩,⟨110,[99],8⟩,⟨112,[91],8⟩,⟨48,[48],8⟩,⟨112,[93],8⟩,⟨112,[91],8⟩,⟨48,[49],8⟩,⟨112,[93],8⟩,⟨112,[61],8⟩,⟨112,[91],8⟩,⟨112,[93],8⟩,⟨112,[59],8⟩,⟨107,[112,114,105,110,116],9⟩,⟨110,[97],9⟩,⟨112,[59],9⟩,⟨107,[112,114,105,110,116],9⟩,⟨110,[98],9⟩,⟨112,[59],9⟩,⟨107,[112,114,105,110,116],9⟩,⟨110,[99],9⟩,⟨112,[59],9⟩,⟨107,[112,114,105,110,116],9⟩,⟨110,[100],9⟩,⟨112,[59],9⟩,⟨112,[125],10⟩]
theorem P3(f:Nat)(r:List UInt8):dZ (f+1+25) 1 (cpA++91::r)=CO RQ (dZ (f+1) 3 (91::r)):=by kernel_rfl
theorem P2(f:Nat)(r:List UInt8):dZ (f+1+37) 3 (cpB++61::32::r)=CO tpB (dZ (f+1) 7 (61::32::r)):=by kernel_rfl
theorem P0(f:Nat):dZ (f+25) 7 tQ=CO RP (dZ f 10 []):=by kernel_rfl
def vZ(k:Nat)(t:aP):aP:=⟨t.sort,t.text,t.line+k⟩
def KB(k:Nat):Except Nat (List aP)->Except Nat (List aP)
 |.ok l=>.ok (l.map (vZ k))
 |.error 0=>.error 0
 |.error (n+1)=>.error (n+1+k)
theorem qA(k:Nat)(ts:List aP)(x:Except Nat (List aP)):KB k (cF ts x)=cF (ts.map (vZ k)) (KB k x):=by
 rcases x with (_|n)|l<;>simp[cF,KB]
theorem xG(k f:Nat):∀(n:Nat) (l:List UInt8),dZ f (n+1+k) l=KB k (dZ f (n+1) l):=by
 induction f with
 |zero=>intro n l;rfl
 |succ f ih=>
  intro n l;rw[dZ,dZ];by_cases h:l.length=0
  ·rw[if_pos h,if_pos h];rfl
  ·rw[if_neg h,if_neg h];cases hk:(bJ l).ok
   ·rfl
   ·rw[if_pos rfl,if_pos rfl,qA];generalize (List.take ((bJ l).size+blankL l.length (List.drop (bJ l).size l)) l).count 10=c;rw[show n+1+k+c=(n+c)+1+k by omega,ih (n+c),show n+1+c=n+c+1 by omega];rfl
theorem vC(x:Int)(r:List UInt8)(n:Nat):blankL n (cS x++r)=0:=by
 obtain⟨d,s,hd,hk⟩:=KT x;rw[hd];cases n with
 |zero=>rfl
 |succ n=>
  have h1:¬(d.toNat=32\/d.toNat=9\/d.toNat=10)/\d≠47:=by
   rcases hk with hk|rfl
   ·unfold bY at hk;simp only[y6,decide_eq_true_eq] at hk;refine⟨by omega,?_⟩
    rintro rfl;revert hk;decide
   ·decide
  rw[s9,gG,if_neg h1.1,if_neg];intro hs;obtain⟨t,ht⟩:=aF_.1 hs;simp only[s9,List.cons.injEq] at ht;exact h1.2 ht.1.symm
theorem EF(f n:Nat)(x:Int)(r:List UInt8):dZ (f+1) n (91::(cS x++r))=cF [⟨112,[91],n⟩] (dZ f n (cS x++r)):=by
 have ht:bJ (91::(cS x++r))=⟨112,[91],1,true⟩:=rfl;rw[dZ,if_neg (by simp),ht,if_pos rfl]
 simp only[List.drop_succ_cons,ba_,vC,a3_,aw_,a9_];rfl
theorem MS(f n:Nat)(x:Int)(r:List UInt8):dZ (f+1) n (61::32::(cS x++r))=cF [⟨112,[61],n⟩] (dZ f n (cS x++r)):=by
 have ht:bJ (61::32::(cS x++r))=⟨112,[61],1,true⟩:=rfl;rw[dZ,if_neg (by simp),ht,if_pos rfl]
 have hb:blankL (61::32::(cS x++r)).length (List.drop 1 (61::32::(cS x++r)))=1:=by
  rw[List.drop_succ_cons,ba_,n8,gG,if_pos (by decide),vC]
 simp only[hb];rfl
theorem tW(j:Nat)(x:Int)(h1: -9223372036854775808<=x)(h2:x<=9223372036854775807)(rest:List UInt8)(hr:iK rest):
 ∃k,k<=(cS x).length/\∀f,dZ (f+k) (0+1+j) (cS x++rest)=cF ((oN x).map (vZ j)) (dZ f (0+1+j) rest):=by
 obtain⟨k,hk,h⟩:=JI x h1 h2 [] rest hr (by simp)
 refine⟨k,hk,fun f=>?_⟩
 have h3:=h f;rw[sY,sY,oO _ (cQ (by simp) (TZ x))] at h3
 rw[xG,show (0+1:Nat)=1 from rfl,show dZ (f+k) 1 (cS x++rest)=_ from h3,qA,<-xG j f 0 rest]
def gY(x y:Int):List UInt8:=cpA++91::(cS x++(cpB++61::32::(cS y++tQ)))
def JW(x y:Int):List aP:=RQ++⟨112,[91],3⟩::((oN x).map (vZ 2)++(tpB++⟨112,[61],7⟩::((oN y).map (vZ 6)++(RP++[⟨101,[],10⟩]))))
theorem F5(r:List UInt8):iK (44::r):=by
 intro x y h;obtain⟨rfl,rfl⟩:=List.cons.inj h;exact⟨by decide,by decide,by decide,rfl⟩
theorem F4(r:List UInt8):iK (59::r):=by
 intro x y h;obtain⟨rfl,rfl⟩:=List.cons.inj h;exact⟨by decide,by decide,by decide,rfl⟩
theorem EZ(x y:Int)(hx1: -9223372036854775808<=x)(hx2:x<=9223372036854775807)(hy1: -9223372036854775808<=y)(hy2:y<=9223372036854775807):
 fI (gY x y)=.ok (JW x y):=by
 obtain⟨k1,hk1,h1⟩:=tW 2 x hx1 hx2 (cpB++61::32::(cS y++tQ)) (F5 _);obtain⟨k2,hk2,h2⟩:=tW 6 y hy1 hy2 tQ (F4 _);have hb:blankL (gY x y).length (gY x y)=0:=rfl;unfold fI;rw[hb,a9_,ba_,sY]
 have hl:(gY x y).length=57+(cS x).length+60+2+(cS y).length+53:=by
  unfold gY;simp only[m6,n8,show cpA.length=56 from rfl,show cpB.length=60 from rfl,show tQ.length=53 from rfl];omega
 obtain⟨g,hg⟩:∃g,(gY x y).length+1=(((((g+1+25)+k2)+1+37)+k1)+1+25):=by
  refine⟨31+((cS x).length-k1)+24+((cS y).length-k2)+28,?_⟩;rw[hl];omega
 rw[hg];show dZ _ 1 (gY x y)=_
 unfold gY;rw[P3,EF,show (3:Nat)=0+1+2 from rfl,h1,show (0+1+2:Nat)=3 from rfl,P2,MS,show (7:Nat)=0+1+6 from rfl,h2,show (0+1+6:Nat)=7 from rfl,P0,dZ,if_pos (by rfl)]
 simp only[YE,<-kU];unfold JW;simp only[cF,y7,s9,ar_]
noncomputable def DD(ts:List aP):Option bW:=
 match jR ts with
 |.error _=>none
 |.ok (ks,_)=>if kJ 2001 ks=(0,0) then zY (dR ks 2001) 100 200 0 (gZ ks 2001 []) else none
theorem LJ{src:List UInt8}{ts:List aP}{t:Nat}{out:List (List UInt8)}(hl:src.length<=2000)(hs:∀c∈src,c.toNat<128)(ht:fI src=.ok ts)
 (h:DD ts=some ⟨t,⟨[],[],out⟩,1⟩):xA src t out:=by
 unfold DD at h;cases hp:jR ts with
 |error e=>rw[hp] at h;cases h
 |ok r=>
  obtain⟨ks,q⟩:=r;rw[hp] at h;simp only at h;split at h
  ·rename_i hn
   have hpp:cX src=.ok ks:=by
    unfold cX;rw[if_neg (by omega),BQ _ _ _ hs,ht]
    simp only[hp]
   have:=CB (m0:=gZ ks 2001 []) (by have:=IY;omega) 200 0 _ h fun r hr=>by rw[fM,hr];rfl
   exact⟨ks,[],hpp,by unfold dL;rw[hpp];exact hn,this⟩
  ·cases h
noncomputable def oL(x y:Int):List (List UInt8):=
 [gE (aR [aV x,aR [aV 1,aV 2]]),gE (aR [aV x,aR [aV y,aV 2]]),gE (aR [aR [aV x,aR []],aR [aV x,aR [aV 1,aV 2]]]),gE (aR [aV 7,aR [aV 1,aV 2]])]
def nZ(d:List UInt8):Int:=(((cA 0 d).getD 0:Nat):Int)
def JZ(j:Nat):Option Bool->List UInt8->List aP
 |none,d=>[⟨48,d,j⟩]
 |some true,d=>[⟨112,[40],j⟩,⟨112,[45],j⟩,⟨48,d,j⟩,⟨112,[41],j⟩]
 |some false,_=>[⟨112,[40],j⟩,⟨112,[45],j⟩,⟨48,dO 9223372036854775807,j⟩,⟨112,[45],j⟩,⟨48,dO 1,j⟩,⟨112,[41],j⟩]
def JY:Option Bool->List UInt8->Int
 |none,d=>nZ d
 |some true,d=>iV (-nZ d)
 |some false,_=> -9223372036854775808
def toksC(a b:Option Bool)(dx dy:List UInt8):List aP:=RQ++⟨112,[91],3⟩::(JZ 3 a dx++(tpB++⟨112,[61],7⟩::(JZ 7 b dy++(RP++[⟨101,[],10⟩]))))
theorem P4(a b:Option Bool)(dx dy:List UInt8):DD (toksC a b dx dy)=some ⟨12,⟨[],[],oL (JY a dx) (JY b dy)⟩,1⟩:=by
 rcases a with _|_|_<;>rcases b with _|_|_<;>kernel_rfl
theorem sF(n:Nat)(h:n<=hJ):nZ (dO n)=n:=by unfold nZ;rw[sK n h];rfl
theorem uQ(j:Nat)(x:Int)(h1: -9223372036854775808<=x)(h2:x<=9223372036854775807):∃a,(oN x).map (vZ j)=JZ (1+j) a (dO x.natAbs)/\JY a (dO x.natAbs)=x:=by
 unfold oN;split
 ·rename_i h;exact⟨some false,rfl,h.symm⟩
 ·split
  ·rename_i h3 h;refine⟨some true,rfl,?_⟩;show iV (-nZ _)=x
   rw[sF _ (by unfold hJ;omega)]
   unfold iV;omega
  ·refine⟨none,rfl,?_⟩;show nZ _=x
   rw[sF _ (by unfold hJ;omega)];omega
theorem NF(x y:Int):∀c∈gY x y,c.toNat<128:=by
 unfold gY;exact fT (by decide) (fT (a:=[91]) (by decide) (fT (xW x) (fT (by decide) (fT (a:=[61,32]) (by decide) (fT (xW y) (by decide))))))
theorem NG(x y:Int):(gY x y).length<=1000:=by
 unfold gY;have h1:=nG x;have h2:=nG y;simp only[m6,n8,show cpA.length=56 from rfl,show cpB.length=60 from rfl,show tQ.length=53 from rfl];omega
theorem DT(x y:Int)(hx1: -9223372036854775808<=x)(hx2:x<=9223372036854775807)(hy1: -9223372036854775808<=y)(hy2:y<=9223372036854775807):xA (gY x y) 12 (oL x y):=by
 obtain⟨a,ha1,ha2⟩:=uQ 2 x hx1 hx2;obtain⟨b,hb1,hb2⟩:=uQ 6 y hy1 hy2;refine LJ (by have:=NG x y;omega) (NF x y) (EZ x y hx1 hx2 hy1 hy2) ?_
 have h:=P4 a b (dO x.natAbs) (dO y.natAbs);rw[ha2,hb2] at h;rw[<-h];unfold JW toksC;rw[ha1,hb1]
def zZ(x:Int):List UInt8:=[91]++cH x++[44,32,91,49,44,32,50,93,93]
theorem TA(x y:Int):oL x y=[zZ x,[91]++cH x++[44,32,91]++cH y++[44,32,50,93,93],[91,91]++cH x++[44,32,91,93,93,44,32]++zZ x++[93],[91,55,44,32,91,49,44,32,50,93,93]]:=by
 have h1:cH 1=[49]:=rfl;have h2:cH 2=[50]:=rfl;have h7:cH 7=[55]:=rfl;unfold oL zZ gE;simp[iN,eT,aR,aV,h1,h2,h7]
end Go.Proofs.YtblbkfdhjfppkaaGreatDoor.Hs
namespace Go.Proofs.YtblbkfdhjfppkaaGreatDoor
open Hs
open _root_.Go.Proofs.Tryz(prog)
open Go.RowKit
theorem QN(w:World)(x y:Int)(lx ly dx dy:List UInt8)(S0:World->Prop)(S1:Nat->World->Prop)
 (hlx:lx.length<=50) (hly:ly.length<=50) (hdx:dx.length<=50) (hdy:dy.length<=50)
 (h0:S0 w)
 (HL:Hid (∀W,S0 W->Calls prog 33 #[.int .i64 x] W fun e w'=>e=.returned (.string (bs lx))/\S0 w'))
 (HM:Hid (∀W,S0 W->Calls prog 33 #[.int .i64 y] W fun e w'=>e=.returned (.string (bs ly))/\S0 w'))
 (HA:Hid (∀W,S0 W->Calls prog 35 #[.string (⟨#[102,117,110,99,32,102,40,112,41,32,123,32,112,91,48,93,32,61,32,55,59,32,114,101,116,117,114,110,32,112,59,32,125,10,102,117,110,99,32,109,97,105,110,40,41,32,123,10,118,97,114,32,97,32,61,32,91]⟩++bs lx++⟨#[44,32,91,49,44,32,50,93,93,59,10,118,97,114,32,98,32,61,32,97,59,10,118,97,114,32,99,32,61,32,91,97,44,32,98,93,59,10,118,97,114,32,100,32,61,32,102,40,97,41,59,10,98,91,49,93,91,48,93,32,61,32]⟩++bs ly++⟨#[59,10,99,91,48,93,91,49,93,32,61,32,91,93,59,10,112,114,105,110,116,32,97,59,32,112,114,105,110,116,32,98,59,32,112,114,105,110,116,32,99,59,32,112,114,105,110,116,32,100,59,10,125]⟩)] W fun e w'=>∃g c T,e=.returned (.tuple #[.slice (some ⟨g,0,none⟩) 4 c,.int .i64 T,.bool true])/\S1 g w'))
 (HI:Hid (∀g W,S1 g W->Calls prog 34 #[.int .i64 x] W fun e w'=>e=.returned (.string (bs dx))/\S1 g w'))
 (HJ:Hid (∀g W,S1 g W->Calls prog 34 #[.int .i64 y] W fun e w'=>e=.returned (.string (bs dy))/\S1 g w'))
 (HC:Hid (∀g W,S1 g W->W.cell? ⟨g,0,none⟩=some (.string (⟨#[91]⟩++bs dx++⟨#[44,32,91,49,44,32,50,93,93]⟩))/\W.cell? ⟨g,1,none⟩=some (.string (⟨#[91]⟩++bs dx++⟨#[44,32,91]⟩++bs dy++⟨#[44,32,50,93,93]⟩))/\W.cell? ⟨g,2,none⟩=some (.string (⟨#[91,91]⟩++bs dx++⟨#[44,32,91,93,93,44,32]⟩++(⟨#[91]⟩++bs dx++⟨#[44,32,91,49,44,32,50,93,93]⟩)++⟨#[93]⟩))/\W.cell? ⟨g,3,none⟩=some (.string ⟨#[91,55,44,32,91,49,44,32,50,93,93]⟩)/\g<W.heap.size))
 (HW:Hid (∀g W,S1 g W->Below w.heap.size w W)):
 Calls prog 13 #[.int .i64 x,.int .i64 y] w fun e w'=>e=.returned (.bool true)/\Below w.heap.size w w':=by
 have H0:=aB h0;have hsx:(bs lx).size=lx.length:=gI lx;have hsy:(bs ly).size=ly.length:=gI ly;have htx:(bs dx).size=dx.length:=gI dx;have hty:(bs dy).size=dy.length:=gI dy;have z1:(⟨#[102,117,110,99,32,102,40,112,41,32,123,32,112,91,48,93,32,61,32,55,59,32,114,101,116,117,114,110,32,112,59,32,125,10,102,117,110,99,32,109,97,105,110,40,41,32,123,10,118,97,114,32,97,32,61,32,91]⟩:ByteArray).size=57:=rfl;have z2:(⟨#[44,32,91,49,44,32,50,93,93,59,10,118,97,114,32,98,32,61,32,97,59,10,118,97,114,32,99,32,61,32,91,97,44,32,98,93,59,10,118,97,114,32,100,32,61,32,102,40,97,41,59,10,98,91,49,93,91,48,93,32,61,32]⟩:ByteArray).size=62:=rfl;have z3:(⟨#[59,10,99,91,48,93,91,49,93,32,61,32,91,93,59,10,112,114,105,110,116,32,97,59,32,112,114,105,110,116,32,98,59,32,112,114,105,110,116,32,99,59,32,112,114,105,110,116,32,100,59,10,125]⟩:ByteArray).size=53:=rfl;clear h0;go_enter Tryz.func13,Tryz.ntmps13;go_wp2_with fail;refine(HL.out _ H0.out).mono ?_;rintro e w1 ⟨rfl,h1⟩;have HMM:=aB (HM.out _ h1);clear h1 HL HM H0;go_wp2_with fail;refine HMM.out.mono ?_;rintro e w2 ⟨rfl,h2⟩;have HAA:=aB (HA.out _ h2);clear h2 HA HMM;go_wp2_with fail;refine HAA.out.mono ?_;rintro e w3 ⟨g,c,T,rfl,h3⟩;have HII:=aB (HI.out _ _ h3);clear h3 HI HAA;go_wp2_with fail;refine HII.out.mono ?_;rintro e w4 ⟨rfl,h4⟩;have HJJ:=aB (HJ.out _ _ h4);clear h4 HJ HII;go_wp2_with fail;refine HJJ.out.mono ?_;rintro e w5 ⟨rfl,h5⟩;have H5:=aB h5;obtain⟨q0,q1,q2,q3,q4⟩:=HC.out _ _ h5;have HB5:=aB (HW.out _ _ h5);clear h5 HJJ HC HW;go_wp2_with fail;refine bodyPost_ret (v:=.bool true) (by simp[results,Tryz.results13,go_sem]) rfl ⟨rfl,HB5.out⟩
def WM(w W:World)(g:Nat)(l:List (List UInt8)):Prop:=(∀i (h:i<l.length),W.cell? ⟨g,i,none⟩=some (.string (bs l[i])))/\w.heap.size<=g/\g<W.heap.size
theorem WM.below{w W W':World}{g:Nat}{l:List (List UInt8)}(h:WM w W g l)(hb:Below W.heap.size W W'):WM w W' g l:=⟨fun i hi=>(hb.cell (p:=⟨g,i,none⟩) h.2.2).trans (h.1 i hi),h.2.1,m9 h.2.2 hb.size⟩
theorem QL(x:Int):(cH x).length<=50:=by
 unfold cH;have:=Hs.digitsF_len 20 x.natAbs [];simp only[p6] at this;rw[m6];have:(if x<0 then ([45]:List UInt8) else []).length<=1:=by split<;>simp
 omega
theorem UX(x y:Int)(hx1: -9223372036854775808<=x)(hx2:x<=9223372036854775807)(hy1: -9223372036854775808<=y)(hy2:y<=9223372036854775807)(w:World)(hT:lN w)(hp:kY w)(hbig:11<=w.heap.size):
 Calls prog 13 #[.int .i64 x,.int .i64 y] w fun e w'=>e=.returned (.bool true)/\Below w.heap.size w w':=by
 refine QN w x y (cS x) (cS y) (cH x) (cH y) (fun W=>Below w.heap.size w W) (fun g W=>Below w.heap.size w W/\WM w W g (oL x y))
  (nG x) (nG y) (QL x) (QL y) (m8 _ _) (fun W hW=>?_) (fun W hW=>?_) (fun W hW=>?_) (fun g W hW=>?_) (fun g W hW=>?_) (fun g W hW=>?_) (fun g W hW=>hW.1)
 ·refine(xU x hx1 hx2 W (hp.below hW)).mono ?_;rintro e w' ⟨he,hb⟩;exact⟨he,hW.trans (hb.mono hW.size)⟩
 ·refine(xU y hy1 hy2 W (hp.below hW)).mono ?_;rintro e w' ⟨he,hb⟩;exact⟨he,hW.trans (hb.mono hW.size)⟩
 ·have hq:=NW W (gY x y) 12 (oL x y) (DT x y hx1 hx2 hy1 hy2) (hT.below hW) (hp.below hW) (p7 hbig hW.size)
  have e:gY x y=[102,117,110,99,32,102,40,112,41,32,123,32,112,91,48,93,32,61,32,55,59,32,114,101,116,117,114,110,32,112,59,32,125,10,102,117,110,99,32,109,97,105,110,40,41,32,123,10,118,97,114,32,97,32,61,32,91]++cS x++[44,32,91,49,44,32,50,93,93,59,10,118,97,114,32,98,32,61,32,97,59,10,118,97,114,32,99,32,61,32,91,97,44,32,98,93,59,10,118,97,114,32,100,32,61,32,102,40,97,41,59,10,98,91,49,93,91,48,93,32,61,32]++cS y++[59,10,99,91,48,93,91,49,93,32,61,32,91,93,59,10,112,114,105,110,116,32,97,59,32,112,114,105,110,116,32,98,59,32,112,114,105,110,116,32,99,59,32,112,114,105,110,116,32,100,59,10,125]:=by
   unfold gY Hs.cpA Hs.cpB tQ;simp only[y7,s9,ar_]
  rw[e,<-iD,<-iD,<-iD,<-iD] at hq;refine hq.mono ?_;rintro e w' ⟨X,n,c,rfl,⟨x',c',h1,h2⟩,hb⟩;have hl:(oL x y).length=4:=rfl;obtain⟨g,rfl,h3,h4,h5⟩:=h2 0 (by omega)
  simp only[Value.slice.injEq] at h1;obtain⟨rfl,rfl,rfl⟩:=h1;refine⟨g,_,_,rfl,hW.trans (hb.mono hW.size),fun i hi=>?_,p7 hW.size h4,h5⟩
  obtain⟨g',e',h6,_,_⟩:=h2 i hi;cases e';exact h6
 ·refine(uT x hx1 hx2 W (hp.below hW.1)).mono ?_;rintro e w' ⟨he,hb⟩;exact⟨he,hW.1.trans (hb.mono hW.1.size),hW.2.below hb⟩
 ·refine(uT y hy1 hy2 W (hp.below hW.1)).mono ?_;rintro e w' ⟨he,hb⟩;exact⟨he,hW.1.trans (hb.mono hW.1.size),hW.2.below hb⟩
 ·obtain⟨_,h,_,hg⟩:=hW;rw[TA] at h;unfold zZ at h;have c0:=h 0 (by simp)
  have c1:=h 1 (by simp)
  have c2:=h 2 (by simp)
  have c3:=h 3 (by simp)
  simp only[aW_,List.getElem_cons_succ,<-iD] at c0 c1 c2 c3;exact⟨c0,c1,c2,c3,hg⟩
open Go.RowKit Go.Lib
theorem EX{H:Type}{enc:TypeId × Value->H}{P:Program}{w:World}{base:Nat}{sp:Nat->Bool}{held:Bool}{fuel:Nat}{t e:TypeId}{n:Nat}{cs:List Value}{bss:List (List UInt8)}{p:List MemPlace}
 (ht:P.underlying t=some (.array n e)) (he:P.underlying e=some .string) (hce:P.cellsOf e=1) (hct:P.cellsOf t=n) (hl:bss.length=n)
 (h:DataW.trod enc P w base sp held fuel t cs=some (.agg (bss.map fun b=>.lit (.string b)),p)):cs=bss.map fun b=>Value.string (bs b):=by
 obtain⟨xs,m,rfl,hx,hlen,hxl,hel⟩:=DataW.trod_array ht h;rw[hct] at hlen;refine List.ext_getElem? fun i=>?_
 by_cases hi:i<n
 ·have h1:=hel i hi;rw[hce,Nat.mul_one,p9 (by omega)] at h1
  obtain⟨s,e1,e2,_⟩:=DataW.trod_string he h1;have e3:xs.map (·.1)=bss.map fun b=>(DataW.lit (.string b):DataW H):=(DataW.agg.inj (Prod.mk.inj hx).1).symm
  have e4:(xs.map (·.1))[i]?=(bss.map fun b=>(DataW.lit (.string b):DataW H))[i]?:=by rw[e3]
  rw[aM_,aM_,p9 (by omega:i<xs.length),p9 (by omega:i<bss.length),e2] at e4
  simp only[aL_,Option.some.injEq,DataW.lit.injEq,Lit.string.injEq] at e4;rw[aM_,p9 (by omega:i<bss.length)]
  have h0:((cs.drop i).take 1)[0]?=some (.string s):=by rw[e1];rfl
  have h2:cs[i]?=some (.string s):=by simpa using h0
  rw[h2];simp only[aL_,Option.some.injEq,Value.string.injEq];rw[<-e4];rfl
 ·rw[aa_ (by omega),aa_ (by simp;omega)]
theorem oY{P:Program}{w:World}{n:String}{g:Nat}{cs:Array Value}(hg:P.globalNamed n=some g)(h:w.var? P n=some cs):∃t fr,w.heap[g]?=some (.cells cs t fr):=by
 simp only[World.var?,hg,Option.bind_some] at h;split at h
 ·next cs' t fr hb=>cases h;exact⟨t,fr,hb⟩
 ·cases h
theorem SA{w:World}{nm:String}{g t n:Nat}{bss:List (List UInt8)}(hg:prog.globalNamed nm=some g)(ht:(prog.globals[g]?).map (·.type)=some t)(hu:prog.underlying t=some (.array n 9))(hct:prog.cellsOf t=n)(hl:bss.length=n)
 (h:VarReads prog w nm (.agg (bss.map fun b=>.lit (.string b)))):∃ty fr,w.heap[g]?=some (.cells (bss.map fun b=>Value.string (bs b)).toArray ty fr):=by
 obtain⟨g0,t0,cs,fuel,p,hg0,ht0,hv,hd⟩:=h;obtain rfl:=Option.some.inj (hg.symm.trans hg0);obtain rfl:=Option.some.inj (ht.symm.trans ht0);obtain⟨ty,fr,hb⟩:=oY hg hv;have:=EX hu Tryz.underlying9 (by kernel_rfl) hct hl hd
 obtain⟨l⟩:=cs;have e:l=bss.map fun b=>Value.string (bs b):=this
 subst e;exact⟨ty,fr,hb⟩
theorem U1:prog.globalNamed "hindsight/syntax.marks"=some 6:=by kernel_rfl
theorem WE:prog.globalNamed "strconv.ErrRange"=some 10:=by kernel_rfl
theorem Y9:prog.globalNamed "math/bits.deBruijn64tab"=some 8:=by kernel_rfl
theorem O1:(prog.globals[(6:Nat)]?).map (·.type)=some 300:=by kernel_rfl
theorem O0:(prog.globals[(10:Nat)]?).map (·.type)=some 414:=by kernel_rfl
theorem c_21:prog.cellsOf 300=21:=by kernel_rfl
theorem V0:(Rows.laid_hindsight_syntax_marks:DataW Unit)=.agg (cM.map fun b=>.lit (.string b)):=rfl
theorem L4:(Rows.laid_unicode_utf8_acceptRanges:DataW Unit)=acceptData:=by kernel_rfl
theorem V6:Rows.laid_unicode_utf8_first=firstData:=Pinned.utf8First_eq
def X5:Shelf.Ren:=⟨fun x=>x,fun n=>if n=5 then 5 else if n=119 then 409 else if n=138 then 411 else 412,fun n=>if n=3 then 4 else 5⟩
theorem N8:U8Types prog X5:=⟨Tryz.underlying5,Tryz.underlying409,Tryz.underlying411,Tryz.underlying412⟩
theorem N9:U8Extra prog X5:=⟨by kernel_rfl,by kernel_rfl,by kernel_rfl,by kernel_rfl,by kernel_rfl,by kernel_rfl,by kernel_rfl⟩
theorem i6:prog.globalNamed "internal/strconv.uint64pow10"=some 1:=by kernel_rfl
theorem b9:(prog.globals[(1:Nat)]?).map (·.type)=some 370:=by kernel_rfl
theorem i7:(Rows.laid_internal_strconv_uint64pow10:DataW Unit)=Lib.tabData .u64 Lib.pow10Tab:=by kernel_rfl
def iE(w:World):Prop:=laidMet prog Rows.copiesRow.laid w
theorem iE.big{w:World}(h:iE w):11<=w.heap.size:=by
 obtain⟨g,t,cs,fuel,p,hg,ht,hv,hd⟩:=Lib.laidMet.reads h (n:= "math/bits.deBruijn64tab") (d:=Rows.laid_math_bits_deBruijn64tab) (by simp[Rows.copiesRow])
 obtain⟨ty,fr,hb⟩:=oY Y9 hv;obtain⟨g',t',cs',fuel',p',hg',ht',hv',hd'⟩:=Lib.laidMet.reads h (n:= "strconv.ErrRange") (d:=Rows.laid_strconv_ErrRange) (by simp[Rows.copiesRow])
 obtain⟨ty',fr',hb'⟩:=oY WE hv';rcases ag_ (8:Nat) w.heap.size with h1|h1
 ·rcases ag_ (10:Nat) w.heap.size with h2|h2
  ·omega
  ·rw[au_ h2] at hb';cases hb'
 ·rw[au_ h1] at hb;cases hb
theorem iE.marks{w:World}(h:iE w):∃ty fr,w.heap[(6:Nat)]?=some (.cells (cM.map fun b=>Value.string (bs b)).toArray ty fr):=
 SA U1 O1 Tryz.underlying300 c_21 rfl (V0▸Lib.laidMet.reads h (n:= "hindsight/syntax.marks") (by simp[Rows.copiesRow]))
theorem iE.range{w:World}(h:iE w):∃te pe,w.cell? ⟨10,0,none⟩=some (.iface te pe):=by
 obtain⟨g,t,cs,fuel,p,hg,ht,hv,hd⟩:=Lib.laidMet.reads h (n:= "strconv.ErrRange") (d:=Rows.laid_strconv_ErrRange) (by simp[Rows.copiesRow])
 obtain rfl:=Option.some.inj (WE.symm.trans hg);obtain rfl:=Option.some.inj (O0.symm.trans ht);obtain⟨f1,u,v,e,hn,h1⟩:=iface_of_trod Tryz.underlying414 hd;obtain⟨l⟩:=cs;obtain rfl:l=_:=e;exact⟨u,v,by simpa using World.var?_cell hg hv 0⟩
theorem iE.utf8{w:World}(h:iE w):Lib.Utf8Tabs 4 5 w:=
 utf8Tabs_of_readsT N8 N9 (V6▸Lib.laidMet.reads h (n:= "unicode/utf8.first") (by simp[Rows.copiesRow])) (L4▸Lib.laidMet.reads h (n:= "unicode/utf8.acceptRanges") (by simp[Rows.copiesRow]))
theorem iE.all{w:World}(h:iE w):lN w:=by
 obtain⟨ty,fr,h1⟩:=h.marks;exact⟨⟨h.range,h.big⟩,⟨⟨ty,fr,h1⟩,h.big⟩,h.utf8⟩
theorem iE.pow{w:World}(h:iE w):kY w:=by
 obtain⟨g,t,cs,fuel,p,hg,ht,hv,hd⟩:=Lib.laidMet.reads h (n:= "internal/strconv.uint64pow10") (d:=Rows.laid_internal_strconv_uint64pow10) (by simp[Rows.copiesRow])
 obtain rfl:=Option.some.inj (i6.symm.trans hg);obtain rfl:=Option.some.inj (b9.symm.trans ht);rw[i7] at hd;have e:=Lib.cells_of_tab Tryz.underlying370 Tryz.underlying282 (by kernel_rfl) (by kernel_rfl) hd
 unfold kY Lib.TabIs;rw[hv,<-e]
end Go.Proofs.YtblbkfdhjfppkaaGreatDoor
